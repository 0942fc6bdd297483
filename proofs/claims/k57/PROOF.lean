import PyProof.Rows.All
import PySem.Challenge.RW_sluiceway_k57_whole_for_ever
import KE.KNestM
import KE.KIsAll
import KE.KSortTup
import Wide.FinOn
import Lean
set_option compiler.extract_closed false
set_option bootstrap.genMatcherCode false
set_option genSizeOf false
set_option Elab.async false
set_option linter.all false
set_option maxRecDepth 100000
open Option renaming some->u4,none->u5
open Bool renaming true->u6,false->u7
open PySem.W renaming Frag->za,nsIn->zb,findIn->zc,keepIn->ze,instObj->zf,emptyDict->zh,kas_sort->zi,hasDictIn->qb,kia_one->qc,hideAll->qd,takerIn->qe,callWith_K->qf,fnOf->qg,lookIn->jb,plainGet->jc,hideAll_get->xa,plainGet_of->xg,isFn->xh,methodCall_KW->xi,codeIn->vT,OpenLaw->vU,KasT->vc,kat_nil->vd,specialIn->ve,of_hideAll->vh,hideAll_none->wQ,InstAt->wZ,handedIn->wW,plainOver->wK,set_plain->wq,any_some->wz,looks_clsIn->wj,makesIn->wx,cellsFrom_some->wv,WalkO->w9,kat_one->uQ,kat_cons->uZ,kat_go->uJ,kat_yes->uX,kat_no->uV,KatTups->uW,kas_ask->uK,kat_kind->uY,mg_of->uz,isNs_of_in->uj,readsIn->ux,findCls->uv
open PySem.F renaming slot_tuple_iterator_next->jf,slot_enumerate_next->jg,slot_zip_next->jh,slot_tuple_add->wk,entry_tuple_add->w4,args_tuple_add_2->w5,entry_tuple_iterator_next->wE,args_tuple_iterator_next_1->wM,entry_enumerate_next->wO,args_enumerate_next_1->wS,slot_enumerate_iter->wa,entry_zip_next->wb,args_zip_next_1->wc,called_enumerate->wd,entry_enumerate_new->we,owner_object->wg,excBase_ValueError->uw
open PySem renaming mem_of_lookup->zd,call->qh,Within->ji
open PyProof.Rows renaming callWith_type1->zg,slot_tuple_getitem->jd,callWith_builtin1->ww,boot_enumerate->wf,boot_zip->wh,boot_range->uq
open PySem.SeqAt.EqAt renaming int_str->vf,str_int->vg
open PySem.SeqAt renaming notIn_listAt->w6,notIn_tupleAt->w8,ne_of_list_tuple->wD
open PySem.Builtin.SmallTypes renaming nextOf->ja,ownedTupleIsFree->va,ownedTupleHandOut->vb,newClass->uk,newRecord->uy,ownedTupleFields->u0,fitsIndex->u3
open PySem.Builtin.List renaming listTooLong->je
open PySem.Builtin.Str renaming strSliceIndices->qa,occurrences->xf
open List renaming range->zQ,mem_cons_of_mem->zJ,getElem?_eq_getElem->zX,replicate->zV,mem_cons_self->zW,mem_cons->zK,size_toArray->zq,getElem?_map->zw,getD_eq_getElem?_getD->zk,map_cons->zy,getElem?_eq_none->z0,getElem?_eq_some_iff->zA,getElem?_append_right->zC,mem_map->zD,mem_append_right->zE,length_cons->zH,getElem?_range->zM,length_map->zO,getElem?_append_left->zP,replicate_succ->zU,length_append->qQ,drop_eq_getElem_cons->qZ,drop_of_length_le->qJ,getElem_mem->qW,mem_range->qK,set->qY,filterMap_map->qq,getElem_of_mem->qj,map_congr_left->qx,all_eq_true->qw,flatten_cons->qk,filterMap_cons->qy,filterMap_eq_map'->qB,idxOf_lt_length_of_mem->qD,find?_cons->qE,mem_singleton->qF,ext_getElem->qG,range_succ_eq_map->qH,append_nil->qL,nodup_cons->qM,all_cons->qO,map_map->qP,lookup->qR,length_nil->qT,range_succ->qU,getElem?_eq_none_iff->jQ,getElem?_set_ne->jV,mem_of_getElem?->jW,append_assoc->jK,getElem?_set->jY,eq_nil_of_length_eq_zero->jq,getElem?_replicate->jv,getElem?_cons_succ->jw,getElem?_set_self->jy,lookup_cons->j0,foldl_cons->j5,pairwise_iff_getElem->j7,getLast?_eq_getElem?->j8,mem_append_left->j9,getElem?_take_of_lt->jA,length_take->jB,any_eq_true->jC,map_eq_nil_iff->jD,length_set->jE,any_cons->jF,length_singleton->jH,ext_getElem?->jL,map_nil->jN,mem_append->jP,mem_filterMap->jS,getElem_idxOf->jT,getElem?_cons_zero->jU,length_pos_of_mem->xQ,length_replicate->xZ,length_drop->xJ,set_append_right->xX,take_length->xV,zipIdx_cons->xW,mem_flatMap->xY,nil_append->xz,forIn_cons->xw,drop_zero->xy
open Nat renaming le_refl->zY,lt_of_lt_of_le->zj,le_trans->z8,ne_of_lt->z9,lt_irrefl->qX,lt_succ_self->qV,lt_succ_of_lt->qS,ne_of_gt->jx,mul_le_mul->j1,le_succ->j3,lt_or_ge->j4,le_of_ble_eq_true->jI,mul_le_mul_right->jO,zero_le->jR,le_add_right->xK,not_lt_zero->xj
open Int renaming le_refl->zL,emod_lt_of_pos->jJ,emod_nonneg->jz,le_trans->jk,natCast_add->j6,mul_nonneg->jM
open Option renaming map_eq_some_iff->zG,isSome_iff_exists->jX,map_some->xk
open Bool renaming false_ne_true->z5,and_eq_true->z7,and_eq_true_iff->qN,false_eq_true->j2,or_eq_true->jG
open Array renaming getElem?_eq_some_iff->qz,length_toList->qC,getElem?_toList->jZ
open PySem.Heap renaming get?_push_of_some->zZ,lt_size->zx,get?_push_size->z6,get?_update_self->q8,size_push->q9,get?_update_other->qA,SameBut->qI,get?_none_of_le->xq
open PySem renaming Addr->xA,Around->xB,Expr->xC,FuncData->xD,NameKind->xE,Program->xF,Scope->xG,Shared->xH,Stmt->xI,Value->xL,World->xM,assignEach->xN,attributeBase->xO,backTo->xP,backToKw->xR,behindInMarks->xS,binaryOp->xT,bootBuiltins->xU,checkBuiltinCall->vQ,codeAny_mono->vZ,compareOp->vJ,importedModules->vX,keywordEach->vV,letOwnedTupleGo->vW,mainGlobals->vK,model->vY,rawInt->vq,sizeLine_eq->vz,sliceBounds->vj,starEach->vx,treeTable->vv,wpAny->vk,wpAny_Call_Name_kw->vA,wpAny_bind->vB,wpAny_callSpecial?_slot->vC,wpAny_call_entry->vD,wpAny_field->vE,wpAny_holding->vF,wpAny_mono->vG,wpAny_newObj_type->vH,wpAny_passesOwn->vI,wpAny_pure->vL,wpAny_setField_rec->vM,wpAny_truthy_bool->vN
open PySem.W renaming Frag->vO,boot_heap->vP,kas_rev->vR
set_option maxHeartbeats 0
open List renaming length -> lN
noncomputable section
namespace _L
open PySem PySem.Spec PyProof.Rows
noncomputable def Ea(s:xI):Arguments:=match s with
 |.FunctionDef _ a _ _ _ _ _ _ _ _=>a
 |_=>{posonlyargs:=[],args:=[],vararg:=u5,kwonlyargs:=[],kw_defaults:=[],kwarg:=u5,defaults:=[]}
noncomputable def Dg(s:xI):List xI:=match s with
 |.FunctionDef _ _ b _ _ _ _ _ _ _=>b
 |_=>[]
noncomputable def Bc(s:xI):xG:=match s with
 |.FunctionDef _ _ _ _ _ _ sc _ _ _=>sc
 |_=>{kind:=.function,names:=[],isGenerator:=u7,isCoroutine:=u7}
end _L
namespace _D
open PySem PySem.W _L
variable{h:Heap}{C:xA}{m x q:Str}{st:xI}{mg:Str->Option xL}
noncomputable def Ks:List Obj->Nat->vO
 |[],_=>[]
 |o::r,n=>match o.cls,o.data with
  |.none,.fields _=>Ks r (n+1)
  |_,.freed=>Ks r (n+1)
  |_,_=>(n,o)::Ks r (n+1)
def Rf(h:Heap):vO:=Ks h.objs.toList 0
noncomputable def OW(s:xI):DefRec:=match s with
 |Stmt.FunctionDef n a b _ _ _ s _ _ p=>⟨n,a,b,s,p⟩
 |_=>⟨Str.empty,⟨[],[],u5,[],[],u5,[]⟩,[],{kind:=.module,names:=[],isGenerator:=u7,isCoroutine:=u7,more:=[]},⟨0,0,0,0⟩⟩
noncomputable abbrev RW(l:OpenLaw)(q:xF)(s:xH):Bool:=xlAt q [] s&&recOk l.row.toRowW.records s
noncomputable def Ac(K:vO)(n:Str):xA:=match nsIn K vK n with
 |some (u4 (.ref f))=>f
 |_=>0
noncomputable def UW(K:vO)(n:Str):Bool:=match nsIn K vK n with
 |some (u4 (.ref _))=>u6
 |_=>u7
noncomputable def Dq(K:vO)(C:xA)(m:Str):xA:=match findIn K (.ref C) m with
 |some (u4 (.ref f))=>f
 |_=>0
noncomputable def X?(K:vO)(C:xA)(m:Str):Bool:=match findIn K (.ref C) m with
 |some (u4 (.ref f))=>isFn K (.ref f)
 |_=>u7
noncomputable def x?(K:vO)(C:xA)(m:Str):Bool:=match findIn K (.ref C) m with
 |some u5=>u6
 |_=>u7
noncomputable def Y?(K:vO)(n:Str):Bool:=match nsIn K vK n with
 |some u5=>u6
 |_=>u7
noncomputable def Va(K:vO)(C:xA):Bool:=match findIn K (.ref C) "__setattr__" with
 |some (u4 (.builtin s))=>s == "object.__setattr__"
 |_=>u7
noncomputable def Z?(K:vO)(n:Str)(v:Int):Bool:=match nsIn K vK n with
 |some (u4 (.int u _))=>decide (u=v)
 |_=>u7
noncomputable def sOk(K:vO)(n:Str)(v:Str):Bool:=match nsIn K vK n with
 |some (u4 (.str u _))=>decide (u=v)
 |_=>u7
noncomputable def Gf(K:vO)(f:xA):Obj:=match K.lookup f with
 |some o=>o
 |none=>⟨.none,u5,.plain,#[]⟩
def Ak(K:vO)(f:xA):xD:=match(Gf K f).data with
 |.func fd=>fd
 |_=>default
def mR:xL->Bool
 |.none=>u6
 |_=>u7
noncomputable def mS:FuncBody->Option (List xI)
 |.stmts b=>u4 b
 |_=>u5
def Vx(K:vO)(x q:Str)(f:xA):Bool:=match K.lookup f with
 |some ⟨_,_,.func fd,_⟩=>decide (fd.name=x)&&decide (fd.qualname=q)&&(fd.globals==vK&&fd.builtins==builtinsNs&&fd.closure.isEmpty&&mR fd.defaults)&&(codeIn K fd.code q&&keepIn K (.ref f))
 |_=>u7
noncomputable abbrev OI:=Arguments×Option (List xI)×xG
def Kw(K:vO)(f:xA):OI:=((Ak K f).params,mS (Ak K f).body,(Ak K f).scope)
def Km(st:xI):OI:=(Ea st,u4 (Dg st),Bc st)
noncomputable def dfl(K:vO)(d:xL)(v:Int):Bool:=match d with
 | .ref T=>match K.lookup T with
  | some o=>(match o.data with
   |.seq a _=>(match a.toList with
    |[.int i _]=>decide (i=v)
    |_=>u7)
   |_=>u7)
  |none=>u7
 |_=>u7
def Zo(K:vO)(x q:Str)(f:xA)(v:Int):Bool:=match K.lookup f with
 |some ⟨_,_,.func fd,_⟩=>decide (fd.name=x)&&decide (fd.qualname=q)&&(fd.globals==vK&&fd.builtins==builtinsNs&&fd.closure.isEmpty&&dfl K fd.defaults v)&&(codeIn K fd.code q&&keepIn K (.ref f))
 |_=>u7
noncomputable def strsOf:List xL->Option (List Str)
 |[]=>u4 []
 |.str s _::r=>(strsOf r).map (s::·)
 |_::_=>u5
def aA(K:vO)(n:Str)(vs:List Str):Bool:=match nsIn K vK n with
 | some (u4 (.ref p))=>(match K.lookup p with
   |some ⟨.type t,_,.seq VA _,_⟩=>t == "tuple"&&decide (strsOf VA.toList=u4 vs)&&Nat.ble VA.toList.length 1000
   |_=>u7)
 |_=>u7
def Zu(K:vO)(n:Str)(kvs:List (Str×Str)):Bool:=match nsIn K vK n with
 | some (u4 (.ref p))=>(match K.lookup p with
   |some ⟨.type t,_,.dict es _,_⟩=>t == "dict" && !(p==sysModules)&&decide (strsOf (es.toList.map (·.key))=u4 (kvs.map (·.1)))&&decide (strsOf (es.toList.map (·.val))=u4 (kvs.map (·.2)))
   |_=>u7)
 |_=>u7
inductive Ask where
 |fn (n:Str) (st:xI)
 |mt (c m q:Str) (st:xI)
 |cl (c:Str)
 |no (c x:Str)
 |z (n:Str)
 |gi (n:Str) (v:Int)
 |gs (n v:Str)
 |gt (n:Str) (vs:List Str)
 |gd (n:Str) (kvs:List (Str×Str))
 |ck (φ:vO->Bool)
 |fd (n:Str) (st:xI) (v:Int)
def Ask.y?(K:vO):Ask->Bool
 |.fn n _=>UW K n&&Vx K n n (Ac K n)
 |.mt c m q _=>X? K (Ac K c) m&&Vx K m q (Dq K (Ac K c) m)
 |.cl c=>UW K c&&(plainGet K (Ac K c) Str.empty&&hasDictIn K (Ac K c)&&plainOver K (Ac K c))&&(Va K (Ac K c)&&makesIn K (Ac K c)&&keepIn K (.ref (Ac K c)))
 |.no c x=>x? K (Ac K c) x
 |.z n=>Y? K n
 |.gi n v=>Z? K n v
 |.gs n v=>sOk K n v
 |.gt n vs=>aA K n vs
 |.gd n kvs=>Zu K n kvs
 |.ck φ=>φ K
 |.fd n _ v=>UW K n&&Zo K n n (Ac K n) v
def Ask.ZK(K:vO):Ask->Option OI
 |.fn n _=>u4 (Kw K (Ac K n))
 |.mt c m _ _=>u4 (Kw K (Dq K (Ac K c) m))
 |.fd n _ _=>u4 (Kw K (Ac K n))
 |_=>u5
def Ask.TZ:Ask->Option OI
 |.fn _ st=>u4 (Km st)
 |.mt _ _ _ st=>u4 (Km st)
 |.fd _ st _=>u4 (Km st)
 |_=>u5
def Rj(l:List Ask)(h:Heap):Bool×List (Option OI):=(l.all (Ask.y? (Rf h)),l.map (Ask.ZK (Rf h)))
noncomputable abbrev Qg(l:List Ask):Bool×List (Option OI):=(u6,l.map Ask.TZ)
noncomputable def Rx(p:xF)(w:xM)(n₀:Nat)(ann:Option xL):Nat->SharedT->Thread->Option SharedT
 |0,_,_=>u5
 | n+1,s,t=>match through t with
  |true=>u4 s
  | false=>match PySem.W.Fast.tw6613529449190102663 n₀ ann t with
   |false=>u5
   |true=>match PySem.W.Fast.tw10156331382660048174 (PySem.W.Fast.tw11892475500146522536 PySem.W.Fast.tw14364793385576792824) p w s t with
    |some (s',t')=>Rx p w n₀ ann n s' t'
    |none=>u5
noncomputable def b8:List Obj->Nat->BT->BT
 |[],_,t=>t
 |o::r,n,t=>b8 r (n+1) (t.ins n o)
def b9(w:xM)(os:OsState):SharedT:=⟨b8 (vP w.params).objs.toList 0 .nil,(vP w.params).objs.size,(vP w.params).life,Array.mk [],boot_drawn,boot_toks,os⟩
def Oe(p:xF)(w:xM)(os:OsState):Option SharedT:=Rx p w (vP w.params).objs.size (PySem.W.Fast.tw8920871248978507458 (vP w.params) vK "__annotations__") 100000 (b9 w os) (topStub p)
noncomputable def Ot(p:xF)(w:xM)(s:xH):Bool:=staticsOk (PySem.W.Fast.tw5923862056798008813 p.main.body) (vP w.params) s.heap&&namesBound p s.heap&&gensDone s&&laidKept (vP w.params) s.heap
def mT(h:PySem.W.Fast.tw9446332074065402090 l=u6):l.wellSaid=u6:=by rw[PySem.W.Fast.te9446332074065402090];exact h
noncomputable def MN(w:xM)(b:Bool):xM:={w with params:={w.params with followText:=λx=>match x == "special-get-raises" with |true=>b|false=>w.params.followText x}}
def mU(w:xM):MN w (w.params.followText "special-get-raises")=w:=by
 obtain⟨d,p⟩:=w;obtain⟨K,H,F,J,B,f,I,C,z,c,m,n,y,j,k,i,o,v,t,q,r,b,l,u,g⟩:=p
 have e:(λx:String=>match x == "special-get-raises" with |true=>f "special-get-raises"|false=>f x)=f:=by
  funext x;cases h:x == "special-get-raises" with
  |true=>rw[beq_iff_eq.mp h]
  |false=>rfl
 unfold MN;dsimp only;rw[e]
def mV{P:xM->Prop}(d:∀w,P (MN w u6))(c:∀w,P (MN w u7)):∀w,P w:=λw=>by
 have h:∀b,P (MN w b):=λb=>by cases b;exact c w;exact d w
 have:=h (w.params.followText "special-get-raises");rwa[mU]at this
noncomputable abbrev VW:List xL:=[.type "ValueError",.type "Exception",.type "BaseException",.type "object"]
def Hx(K:za)(C:xA):Bool:=match K.lookup C with
 |some ⟨c,_,.cls d,s⟩=>c == .type "type"&&d.mro == .ref C::d.mro.tail&&s.toList == [s.toList.getD 0 u5,s.toList.getD 1 u5,s.toList.getD 2 u5,s.toList.getD 3 u5,u4 (.builtin "ValueError.__new__"),s.toList.getD 5 u5] && !d.hasDel&&d.hasDict&&PySem.W.tailIn K VW d.mro.tail&&PySem.W.nsOkIn K d.ns
 |_=>u7
noncomputable def Lp(K:za)(C f:xA):Bool:=match K.lookup C with
 |some ⟨_,_,.cls cd,_⟩=>zb K cd.ns "__init__"==u4 (u4 (.ref f))
 |_=>u7
def tyN:xL->String
 |.type n=>n
 |_=>""
def Md:xL->Bool
 |.ref _=>u6
 |_=>u7
noncomputable def Oi:List xL->Bool
 |[]=>u7
 |a::r=>(Md a&&Oi r)||decide ((a::r).map tyN=["ValueError","Exception","BaseException","object"])
def Vp(K:za)(C:xA):Bool:=(PySem.W.clsIn K C).any λcd=>Oi cd.mro
noncomputable def SD(r:Option (Option xL))(n:String):Bool:=match r with
 |some (u4 (.builtin m))=>m==n
 |_=>u7
noncomputable def Mt(r:Option Bool)(b:Bool):Bool:=match r with
 |some c=>c==b
 |_=>u7
noncomputable def V7{α:Type}(r:Option (Option α)):Bool:=match r with
 |some u5=>u6
 |_=>u7
noncomputable def aB(K:vO)(a:xA):Bool:=match K.lookup a with
 |some ⟨.type t,_,_,_⟩=>t == "function"
 |_=>u7
def aC(c f:Str)(K:vO):Bool:=UW K c&&keepIn K (.ref (Ac K c))&&(Hx K (Ac K c)&&Va K (Ac K c)&&Vp K (Ac K c)&&V7 (takerIn K (Ac K c) f)&&hasDictIn K (Ac K c))&&Lp K (Ac K c) (Dq K (Ac K c) "__init__")&&aB K (Dq K (Ac K c) "__init__") &&
 (SD (findIn K (.ref (Ac K c)) "__getattribute__") "BaseException.__getattribute__"&&V7 (findIn K (.ref (Ac K c)) "__getattr__")&&Mt (subIn K (.ref (Ac K c)) (.type "BaseException")) u6&&SD (findIn K (.ref (Ac K c)) "__class__") "object.__class__" &&
  SD (specialIn K (.builtin "object.__class__") "__get__") "getset_descriptor.__get__"&&Mt (takesIn K (.builtin "object.__class__")) u6&&Mt (mroIn K (Ac K c) (.type "object")) u6&&Mt (kitCls K (.ref (Ac K c)) (.ref (Ac K c))) u6)&&x? K (Ac K c) f
noncomputable def Xv(r:Option CFound)(n:String):Bool:=match r with
 |some (.val (.builtin m))=>m==n
 |_=>u7
def Wz(x:Str)(K:vO):Bool:=UW K x&&SD (specialIn K (.ref (Ac K x)) "__getattribute__") "type.__getattribute__"&&readsIn K (Ac K x) (.type "type")&&Xv (findCls K (.ref (Ac K x)) (.type "type") "__init__") "ValueError.__init__"
def Jw(K:za)(C W:xA)(b:Bool):Bool:=Hx K C&&Hx K W&&match K.lookup C with
 |some ⟨_,_,.cls cd,_⟩=>cd.mro.contains (.ref W)==b
 |_=>u7
def pss:xI:=.Pass ⟨0,0,0,0⟩
noncomputable def WW:xI->Str×List xI
 |.ClassDef n [] _ b _ _ _ _ _ _ _=>(n,b)
 |_=>(Str.empty,[])
noncomputable def Nd(n:Str)(s:xI):Ask:=match s with
 |.FunctionDef m _ _ _ _ _ _ _ _ _=>.mt n m (n++"."++m) s
 |_=>.ck λ_=>u6
noncomputable def UZ(n:Str):xI->Ask
 |.Assign [.Attribute _ x _] _ _=>.no n x
 |_=>.ck λ_=>u6
def askC(s:xI):List Ask:=(WW s).2.map (Nd (WW s).1)++(WW s).2.flatMap λf=>(Dg f).map (UZ (WW s).1)
def R5(s:xI):Ask:=match s with
 |.FunctionDef n a _ _ _ _ _ _ _ _=>(match a.defaults with
  |[]=>.fn n s
  |[.Constant (.int v) _ _]=>.fd n s v
  |_=>.ck λ_=>u6)
 |.ClassDef n [] _ _ _ _ _ _ _ _ _=>.cl n
 |.Assign [.Name x _] (.Constant c _ _) _=>(match c with
  |.int v=>.gi x v
  |.str v=>if x == "__name__" then .ck λ_=>u6 else .gs x v
  |_=>.ck λ_=>u6)
 |_=>.ck λ_=>u6
noncomputable def zAs:List Ask:=(["all","any","bool","enumerate","int","isinstance","len","list","max","min","range","set","sorted","str","sum","tuple","zip","ValueError"]:List Str).map .z
def Xd(b:List xI)(ex:List Ask):List Ask:=ex++(zAs++(b.flatMap askC++b.map R5))
noncomputable abbrev VF(b:List xI)(i:Nat):xI:=b.getD i pss
end _D
namespace _W
open PySem PySem.W _L _D
noncomputable abbrev body:List xI:=PySem.Challenge.pw_sluiceway_k57_whole_for_ever.main.body
abbrev top(i:Nat):xI:=VF body i
def inC(s:xI)(j:Nat):xI:=match s with
 |.ClassDef _ _ _ body _ _ _ _ _ _ _=>body.getD j (.Pass ⟨0,0,0,0⟩)
 |_=>.Pass ⟨0,0,0,0⟩
abbrev Zk:=inC (top 5) 0
abbrev Ik:=top 88
def exs:List Ask:=[.gt "SENSES" ["least","most"],.gd "KINDS_ASKED" [("lies","basin"),("spilled","basin"),("let","basin"),("pumped","basin"),("took","town")],.mt "TooLong" "__init__" "TooLong.__init__" Zk,.ck (aC "TooLong" "most"),.ck (Wz "WaterError"),.ck (λK=>UW K "TooLong"),.ck (λK=>Jw K (Ac K "TooLong") (Ac K "TooLong") u6)]
def asks:List Ask:=Xd body exs
abbrev OO:OpenLaw:=PySem.Challenge.rw_sluiceway_k57_whole_for_ever
abbrev pw:xF:=OpenLaw.prog PySem.Challenge.rw_sluiceway_k57_whole_for_ever
def vw:xF:=view pw (zQ 89)
def VZ{α β γ δ ε:Type}(a:α×β×γ×δ×ε):=match a with|(a,b,c,d,_)=>(a,b,c,d)
def WZ{α β γ δ ε:Type}(a:α×β×γ×δ×ε):=match a with|(_,_,_,_,x)=>x
theorem Pd{S α β γ δ ε:Type}{o:Option S}{f:S->α×β×γ×δ×ε}{a}(h:o.map (λs=>((f s).1,(f s).2.1,(f s).2.2.1,(f s).2.2.2.1))=u4 (VZ a))(k:o.map (λs=>(f s).2.2.2.2)=u4 (WZ a)):o.map f=u4 a:=by cases o with
 |none=>cases h
 |some s=>
  obtain⟨_,_,_,_,_⟩:=a
  cases h;cases k;rfl
theorem Me{S α β γ:Type}{o:Option S}{x:S->α}{y:S->β}{z:S->γ}{a b c}(h:o.map y=u4 b)(k:o.map (λs=>(x s,z s))=u4 (a,c)):o.map (λs=>(x s,y s,z s))=u4 (a,b,c):=by cases o with
 |none=>cases h
 |some s=>cases h;cases k;rfl
noncomputable abbrev NJ:=PySem.W.Fast.tw4187177175401517315 vw ["KINDS_ASKED"] (PySem.W.Fast.tw5923862056798008813 pw.main.body) (RW OO vw) u6
noncomputable abbrev ON:=openGood vw ["KINDS_ASKED"]
def ZJ6b:∀w os,(Oe pw (MN w u6) os).map (λs=>((NJ s.abs).1,(NJ s.abs).2.1,(NJ s.abs).2.2.1,(NJ s.abs).2.2.2.1))=u4 (VZ ON):=λw os=>by kernel_rfl
def ZJ6c:∀w os,(Oe pw (MN w u6) os).map (λs=>(NJ s.abs).2.2.2.2)=u4 (WZ ON):=λw os=>by kernel_rfl
def ZJ6a:∀w os,(Oe pw (MN w u6) os).map (λs=>(Ot pw (MN w u6) s.abs,Rj asks s.abs.heap))=u4 (u6,Qg asks):=λw os=>by kernel_rfl
def mW:∀w os,(Oe pw (MN w u6) os).map (λs=>(Ot pw (MN w u6) s.abs,NJ s.abs,Rj asks s.abs.heap))=u4 (u6,ON,Qg asks):=λw os=>Me (Pd (a:=ON) (ZJ6b w os) (ZJ6c w os)) (ZJ6a w os)
def ZKrb:∀w os,(Oe pw (MN w u7) os).map (λs=>((NJ s.abs).1,(NJ s.abs).2.1,(NJ s.abs).2.2.1,(NJ s.abs).2.2.2.1))=u4 (VZ ON):=λw os=>by kernel_rfl
def ZKrc:∀w os,(Oe pw (MN w u7) os).map (λs=>(NJ s.abs).2.2.2.2)=u4 (WZ ON):=λw os=>by kernel_rfl
def ZKra:∀w os,(Oe pw (MN w u7) os).map (λs=>(Ot pw (MN w u7) s.abs,Rj asks s.abs.heap))=u4 (u6,Qg asks):=λw os=>by kernel_rfl
def mX:∀w os,(Oe pw (MN w u7) os).map (λs=>(Ot pw (MN w u7) s.abs,NJ s.abs,Rj asks s.abs.heap))=u4 (u6,ON,Qg asks):=λw os=>Me (Pd (a:=ON) (ZKrb w os) (ZKrc w os)) (ZKra w os)
def mY:∀w os,(Oe pw w os).map (λs=>(Ot pw w s.abs,PySem.W.Fast.tw4187177175401517315 vw ["KINDS_ASKED"] (PySem.W.Fast.tw5923862056798008813 pw.main.body) (RW OO vw) u6 s.abs,Rj asks s.abs.heap))=u4 (u6,openGood vw ["KINDS_ASKED"],Qg asks):=mV mW mX
def well:OO.wellSaid=u6:=mT (by kernel_rfl)
def XZ:defOf vw OO.row.name=u4 (OW Ik,[]):=by kernel_rfl
def hp:OO.row.prog.theDef OO.row.name=u4 ((OW Ik).params,(OW Ik).body,(OW Ik).scope):=by kernel_rfl
def hk:kwWritten? (OW Ik).params.kwonlyargs (OW Ik).params.kw_defaults=u4 []:=by kernel_rfl
def OB:(chainsOk vw&&opensWell OO.row.prog&&(frees OO.row.toRowW&&OO.row.within.isEmpty))=u6:=by kernel_rfl
def YZ:(OW Ik).params.defaults=[]:=by kernel_rfl
def Pe:OO.row.prog.bare:=⟨rfl,rfl,rfl,rfl,rfl,by decide +kernel⟩
def hw:OO.row.toRowW.promised:=by w_witness2
end _W
namespace _L
open PySem PySem.Spec PyProof.Rows
variable{t':Nat}{s:xH}{vS:List (xA×Obj)}{tg:xC}{P:xF}
abbrev Key:=Sum Int Str
noncomputable def O1:Key->xL->Bool
 |.inl k,v=>Value.isInt k v
 |.inr x,v=>Value.isStrOf x v
noncomputable def keyH(w:xM):Key->Int
 |.inl k=>hashInt k
 |.inr x=>hashStr w x
theorem J0:∀{k:Key}{v:xL},O1 k v=u6->(∃i t,k=Sum.inl i/\v=Value.int i t)\/(∃x t,k=Sum.inr x/\v=Value.str x t)
 |.inl i,v,h=>by obtain⟨t,e⟩:=Value.isInt_shape h;exact .inl ⟨i,t,rfl,e⟩
 |.inr x,v,h=>by obtain⟨t,e⟩:=Value.isStrOf_shape h;exact .inr ⟨x,t,rfl,e⟩
def mZ(i:Int)(t:Tok):O1 (.inl i) (.int i t)=u6:=by simp[O1,Value.isInt]
def m7(x:Str)(t:Tok):O1 (.inr x) (.str x t)=u6:=by simp[O1,Value.isStrOf]
def m8(a b:Int):decide ((Sum.inl a:Key)=Sum.inl b)=(a==b):=by
 by_cases e:a=b
 .subst e;simp
 rw[decide_eq_false (λq=>e (Sum.inl.inj q))];exact(beq_eq_false_iff_ne.mpr e).symm
def m9(a b:Str):decide ((Sum.inr a:Key)=Sum.inr b)=decide (a=b):=by
 by_cases e:a=b
 .subst e;simp
 rw[decide_eq_false (λq=>e (Sum.inr.inj q)),decide_eq_false e]
def ma(a:Int)(b:Str):decide ((Sum.inl a:Key)=Sum.inr b)=u7:=decide_eq_false (nofun)
def md(a:Str)(b:Int):decide ((Sum.inr a:Key)=Sum.inl b)=u7:=decide_eq_false (nofun)
def Fp(prog:xF)(w:xM):PySem.KeyKind prog w Key where
 is:=O1
 hash:=keyH w
 inj:=λv a b ha hb=>by
  rcases J0 ha with⟨i,t,rfl,rfl⟩|⟨x,t,rfl,rfl⟩
  .rcases J0 hb with⟨j,u,rfl,e⟩|⟨y,u,rfl,e⟩
   .injection e with e1 _;rw[e1]
   .exact nomatch e
  .rcases J0 hb with⟨j,u,rfl,e⟩|⟨y,u,rfl,e⟩
   .exact nomatch e
   .injection e with e1 _;rw[e1]
 byValue:=λk v h=>by rcases J0 h with⟨i,t,rfl,rfl⟩|⟨x,t,rfl,rfl⟩<;>rfl
 pyHash:=λhv h=>by
  rcases J0 hv with⟨i,t,rfl,rfl⟩|⟨x,t,rfl,rfl⟩
  .exact wpAny_pyHash_int h
  .exact wpAny_pyHash_str h
 eqBool:=λhu hv h=>by
  rcases J0 hu with⟨i,t,rfl,rfl⟩|⟨x,t,rfl,rfl⟩
  .rcases J0 hv with⟨j,u,rfl,rfl⟩|⟨y,u,rfl,rfl⟩
   .rw[m8]at h;exact wpAny_eqBool_int h
   .rw[ma]at h;exact vf i t y u _ _ _ _ h
  .rcases J0 hv with⟨j,u,rfl,rfl⟩|⟨y,u,rfl,rfl⟩
   .rw[md]at h;exact vg x t j u _ _ _ _ h
   .rw[m9]at h;exact wpAny_eqBool_str h
 «strs»:=λk x t v h=>by
  rcases J0 h with⟨i,u,rfl,e⟩|⟨y,u,rfl,e⟩
  .exact nomatch e
  .injection e with e1 _
   subst e1
   cases v<;>rfl
def mf(prog:xF)(w:xM)(i:Int)(t:Tok):(Fp prog w).is (.inl i) (.int i t)=u6:=mZ i t
def mh(prog:xF)(w:xM)(x:Str)(t:Tok):(Fp prog w).is (.inr x) (.str x t)=u6:=m7 x t
inductive V where
 |WA|bl (b:Bool)|int (i:Int)|str (x:Str)|byt (b:Array UInt8)|flt (b:UInt64)|ref (a:xA)|ty (n:String)
 deriving DecidableEq
def RelV:V->xL->Prop
 |.WA,u=>u=Value.none
 |.bl b,u=>u=Value.bool b
 |.int i,u=>∃t,u=Value.int i t
 |.str x,u=>∃t,u=Value.str x t
 |.byt b,u=>∃t,u=Value.bytes b t
 |.flt b,u=>∃t,u=Value.float b t
 |.ref a,u=>u=Value.ref a
 |.ty n,u=>u=Value.type n
abbrev Vals:List V->List xL->Prop:=Paired RelV
def Vals.length{xs:List V}{us:List xL}(r:Vals xs us):xs.length=us.length:=Paired.length r
theorem Vals.get:∀{xs:List V}{us:List xL}{i:Nat}{x:V},Vals xs us->xs[i]?=u4 x->∃u,us[i]?=u4 u/\RelV x u
 |_,_,_,_,.nil,e=>by simp at e
 |_,_,0,_,.cons r _,e=>by simp at e;subst e;exact⟨_,rfl,r⟩
 |_,_,i+1,x,.cons _ t,e=>by obtain⟨u,j,d⟩:=Vals.get t (by simpa using e);exact⟨u,by simpa using j,d⟩
theorem Vals.set(r:RelV x u):∀{xs:List V}{us:List xL}(i:Nat),Vals xs us->Vals (xs.set i x) (us.set i u)
 |_,_,_,.nil=>.nil
 |_,_,0,.cons _ t=>.cons r t
 |_,_,i+1,.cons q t=>.cons q (Vals.set r i t)
theorem Vals.append:∀{xs ys:List V}{us ws:List xL},Vals xs us->Vals ys ws->Vals (xs++ys) (us++ws)
 |_,_,_,_,.nil,s=>s
 |_,_,_,_,.cons r t,s=>.cons r (Vals.append t s)
theorem Vals.take:∀{xs:List V}{us:List xL}(n:Nat),Vals xs us->Vals (xs.take n) (us.take n)
 |_,_,0,_|_,_,_+1,.nil=>.nil
 |_,_,n+1,.cons r t=>.cons r (Vals.take n t)
theorem Vals.drop:∀{xs:List V}{us:List xL}(n:Nat),Vals xs us->Vals (xs.drop n) (us.drop n)
 |_,_,0,r=>r
 |_,_,_+1,.nil=>.nil
 |_,_,n+1,.cons _ t=>Vals.drop n t
def RI:Option V->Option xL->Prop
 |some v,u4 u=>RelV v u
 |none,u5=>True
 |_,_=>False
def KV{κ:Type}:List (κ×V)->List (κ×xL)->Prop:=Paired λ(p:κ×V)(q:κ×xL)=>p.1=q.1/\RelV p.2 q.2
noncomputable def kV:Key->V
 |.inl i=>.int i
 |.inr x=>.str x
inductive HO where
 |lst (xs:List V)
 |tup (xs:List V)
 |dK (kvs:List (Key×V))|dT (kvs:List (List Key×V))
 |set (S:Int->Bool) (n:Nat)
 |ins (C dx:xA) (fs:List (Str×V))
 |own (x:xA)
 |xd (fs:List (Str×V))
 |met (f x:xA)
 |z? (lo hi:Int)
 |ND (o:Obj) (u:HO)
 |OT (ps:Array xL)
 |ext (φ:Heap->Prop)
abbrev Hp:=xA->Option HO
noncomputable def upd(H:Hp)(a:xA)(o:HO):Hp:=λb=>if b=a then u4 o else H b
def Ek:upd H a o a=u4 o:=by unfold upd;rw[if_pos rfl]
def Ah(h:b≠a):upd H a o b=H b:=by unfold upd;rw[if_neg h]
def Gh{H:Hp}{a b:xA}{o:HO}(h:H a=u4 o)(h':H b=u5):a≠b:=by intro e;subst e;rw[h]at h';cases h'
section
variable(P:xF)(w:xM)
def TC(H:Hp)(h:Heap)(a:xA):HO->Prop
 |.lst xs=>xs.length<=sizeLine/\∃(VA:List xL)(n:Nat),Vals xs VA/\h.get? a=u4 {cls:=.type "list",data:=.seq VA.toArray n}
 |.tup xs=>xs.length<=sizeLine/\∃VA:List xL,Vals xs VA/\IsTup h a VA.toArray
 |.dK kvs=>kvs.length<=sizeLine/\(a==sysModules)=u7/\∃vs,KV kvs vs/\h.DictOf (Fp P w) a vs
 | .dT kvs=>kvs.length<=sizeLine/\(a==sysModules)=u7/\∃xs:List (List Key×xA×xL),
   Paired (λ(p:List Key×V)(q:List Key×xA×xL)=>p.1=q.1/\H q.2.1=u4 (.tup (p.1.map kV))/\RelV p.2 q.2.2) kvs xs/\
   ∃o es ep,h.get? a=u4 o/\o.ExactDict/\o.data=.dict es ep/\es.toList=xs.map (entryOfKey (tupleKind (Fp P w)))/\(xs.map (·.1)).Nodup
 |.set S n=>h.SetOf (intKind P w) a S n
 | .ins C dx fs=>H dx=u4 (.own a)/\fs.length<=1000/\dx≠a/\h.get? a=u4 (zf C dx)/\
   ∃mA,h.Ns1 dx mA/\(∀f,RI (fs.lookup f) (mA f))/\ji mA (fs.map (·.1))
 |.own _=>∃o,h.get? a=u4 o
 |.xd fs=>∃mA,h.Ns1 a mA/\∀f,RI (fs.lookup f) (mA f)
 |.z? lo hi=>∃t u v,h.get? a=u4 {cls:=.type "range",data:=.fields #[.int lo t,.int hi u,.int 1 v]}
 |.ND o u=>h.get? a=u4 o/\TC H h a u
 |.OT ps=>h.get? a=u4 {cls:=.none,data:=.fields ps}
 |.met f x=>h.get? a=u4 (PySem.W.methodObj (.ref f) (.ref x))
 |.ext φ=>φ h/\(∃o,h.get? a=u4 o)/\∀h1 h2:Heap,φ h1->(∀o,h1.get? a=u4 o->h2.get? a=u4 o)->φ h2
def VG(H:Hp)(h:Heap):Prop:=∀a o,H a=u4 o->TC P w H h a o
end
section
variable{P:xF}{w:xM}{H H':Hp}{h h':Heap}{a:xA}{o:HO}
theorem TC.lt(x:TC P w H h a o):a<h.objs.size:=by
 cases o with
 |lst xs=>obtain⟨_,_,_,_,e⟩:=x;exact zx e
 |tup xs=>obtain⟨_,_,_,p⟩:=x;exact p.lt
 |set S n=>obtain⟨o,_,_,_,e,_⟩:=x;exact zx e
 |ins C dx fs=>obtain⟨_,_,_,e,_⟩:=x;exact zx e
 |own y=>obtain⟨_,e⟩:=x;exact zx e
 |xd fs=>obtain⟨_,⟨_,_,_,e,_⟩,_⟩:=x;exact zx e
 |z? lo hi=>obtain⟨_,_,_,e⟩:=x;exact zx e
 |ND ob u=>obtain⟨e,_⟩:=x;exact zx e
 |OT ps|met f y=>exact zx (x)
 |ext φ=>obtain⟨_,⟨_,e⟩,_⟩:=x;exact zx e
 |_=>obtain⟨_,_,_,_,o,_,_,e,_⟩:=x;exact zx e
theorem Paired.Se{d i:Type}{F G:d->i->Prop}:∀{l₁:List d}{l₂:List i},Paired F l₁ l₂->(∀a b,F a b->G a b)->Paired G l₁ l₂
 |_,_,.nil,_=>.nil
 |_,_,.cons r t,f=>.cons (f _ _ r) (Paired.Se t f)
theorem TC.UI(x:TC P w H h a o)(k:∀b u,(b=a\/H b=u4 (.own a))->h.get? b=u4 u->h'.get? b=u4 u)
  (ho:∀b,H b=u4 (.own a)->H' b=u4 (.own a)) (ht:∀b xs,H b=u4 (.tup xs)->H' b=u4 (.tup xs)):TC P w H' h' a o:=by
 induction o with
 |lst xs=>obtain⟨z,VA,n,r,e⟩:=x;exact⟨z,VA,n,r,k _ _ (.inl rfl) e⟩
 |tup xs=>obtain⟨z,VA,r,ob,e,c⟩:=x;exact⟨z,VA,r,ob,k _ _ (.inl rfl) e,c⟩
 |dK kvs=>obtain⟨z,y,vs,r,ob,es,ep,e,c⟩:=x;exact⟨z,y,vs,r,ob,es,ep,k _ _ (.inl rfl) e,c⟩
 |dT kvs=>
  obtain⟨z,y,xs,r,ob,es,ep,e,c⟩:=x;exact⟨z,y,xs,Paired.Se r λp q z=>⟨z.1,ht _ _ z.2.1,z.2.2⟩,ob,es,ep,k _ _ (.inl rfl) e,c⟩
 |set S n=>obtain⟨ob,es,ep,t,e,c⟩:=x;exact⟨ob,es,ep,t,k _ _ (.inl rfl) e,c⟩
 |ins C dx fs=>
  obtain⟨d,z,ne,e,mA,⟨od,es,ep,e2,c⟩,r⟩:=x;exact⟨ho _ d,z,ne,k _ _ (.inl rfl) e,mA,⟨od,es,ep,k _ _ (.inr d) e2,c⟩,r⟩
 |own y=>obtain⟨ob,e⟩:=x;exact⟨ob,k _ _ (.inl rfl) e⟩
 |xd fs=>obtain⟨mA,⟨od,es,ep,e,c⟩,r⟩:=x;exact⟨mA,⟨od,es,ep,k _ _ (.inl rfl) e,c⟩,r⟩
 |z? lo hi=>obtain⟨t,u,v,e⟩:=x;exact⟨t,u,v,k _ _ (.inl rfl) e⟩
 |ND ob u ih=>obtain⟨e,q⟩:=x;exact⟨k _ _ (.inl rfl) e,ih q⟩
 |OT ps|met f y=>
  have e:=x;exact k a _ (.inl rfl) e
 |ext φ=>obtain⟨p,⟨o,e⟩,st⟩:=x;exact⟨st _ _ p λo q=>k _ _ (.inl rfl) q,⟨o,k _ _ (.inl rfl) e⟩,st⟩
def VG.lt(x:VG P w H h)(e:H a=u4 o):a<h.objs.size:=(x a o e).lt
theorem VG.fresh(x:VG P w H h)(e:h.objs.size<=a):H a=u5:=by
 cases q:H a with
 |none=>rfl
 |some u=>exact absurd (zj (x.lt q) e) (qX _)
def VG.kept(x:VG P w H h)(k:∀b u,h.get? b=u4 u->h'.get? b=u4 u):VG P w H h':=λa o e=>
 (x a o e).UI (λb u _ q=>k b u q) (λ_ q=>q) λ_ _ q=>q
def VG.laid(x:VG P w H h)(k:∀b u,h.get? b=u4 u->h'.get? b=u4 u)(hp:h.objs.size<=a)(new:TC P w (upd H a o) h' a o):VG P w (upd H a o) h':=λb u e=>by
 have i:=x.fresh hp;by_cases d:b=a
 .subst d;rw[Ek]at e;cases e;exact new
 rw[Ah d]at e;exact(x b u e).UI (λc v _ q=>k c v q) (λc q=>by rw[Ah (Gh q i)];exact q) λc j q=>by rw[Ah (Gh q i)];exact q
end
def Rd(H:Hp)(a:xA)(u:HO):Prop:=H a=u4 u\/∃o,H a=u4 (.ND o u)
def Rd.ok(r:Rd H a u)(x:VG P w H h):TC P w H h a u:=by
 rcases r with r|⟨o,r⟩
 .exact x a u r
 obtain⟨_,q⟩:=x a _ r;exact q
def Of:Option HO->Prop
 |some (.lst _)=>True
 |some (.dK _)=>True
 |some (.dT _)=>True
 |some (.set _ _)=>True
 |some (.ins _ _ _)=>True
 |some (.ext _)=>True
 |_=>False
section
variable{P:xF}{w:xM}{H:Hp}{h h':Heap}{x e:xA}{o':HO}
def VG.write(ok:VG P w H h)(B:Of (H x))(L:e=x\/H e=u4 (.own x))(k:∀b u,b≠e->h.get? b=u4 u->h'.get? b=u4 u)(J:∃u,h'.get? e=u4 u)
  (new:TC P w (upd H x o') h' x o'):VG P w (upd H x o') h':=λb u q=>by
 have i:∀c y,H c=u4 (.own y)->c≠x:=λc y r z=>by subst z;rw[r]at B;exact B
 have j:∀c I,H c=u4 (.tup I)->c≠x:=λc I r z=>by subst z;rw[r]at B;exact B
 by_cases n:b=x
 .subst n;rw[Ek]at q;cases q;exact new
 rw[Ah n]at q;by_cases d:b=e
 .have M:H b=u4 (.own x):=by
   rcases L with z|z
   .exact absurd (d.trans z) n
   rw[d];exact z
  rw[q]at M;cases M;obtain⟨v,N⟩:=J;exact⟨v,d▸N⟩
 .refine(ok b u q).UI (λc v F r=>k c v ?_ r) (λc r=>by rw[Ah (i c b r)];exact r) λc I r=>by rw[Ah (j c I r)];exact r
  rcases F with rfl|F
  .exact d
  .rintro rfl;rcases L with z|z
   .exact i c b F z
   rw[F]at z;cases z;exact n rfl
end
structure Un (fs ex:List xA) (H H':Hp) (h h':Heap):Prop where
 keep:∀b o,h.get? b=u4 o->H b=u5->b∉fs->b∉ex->h'.get? b=u4 o
 slot:∀b o,h.get? b=u4 o->H b=u5->b∈fs->b∉ex->∃sl,h'.get? b=u4 {o with slots:=sl}
 free:∀b o,h.get? b=u4 o->H b=u5->b∉ex->H' b=u5
 there:∀b o,h.get? b=u4 o->b∉ex->∃o',h'.get? b=u4 o'
 UJ:∀b xs,H b=u4 (.tup xs)->H' b=u4 (.tup xs)
 OJ:∀b o u,H b=u4 (.ND o u)->H' b=u4 (.ND o u)
 VJ:∀b ps,H b=u4 (.OT ps)->∃more,H' b=u4 (.OT (ps++more))
section
variable{fs fs' ex ex':List xA}{H H1 H2:Hp}{h h1 h2 h':Heap}{a x e:xA}{o:HO}
def Un.any(u:Un fs ex H H1 h h1)(q:h.get? b=u4 ob)(n:H b=u5)(i:b∉ex):∃y,h1.get? b=u4 {ob with slots:=y}:=by
 by_cases j:b∈fs
 .exact u.slot b ob q n j i
 exact⟨ob.slots,u.keep b ob q n j i⟩
def Un.kept(k:∀b u,h.get? b=u4 u->h'.get? b=u4 u):Un fs ex H H h h':=
 ⟨λb d q _ _ _=>k b d q,λb d q _ _ _=>⟨d.slots,k b d q⟩,λ_ _ _ n _=>n,λb d q _=>⟨d,k b d q⟩,λ_ _ q=>q,λ_ _ _ q=>q,λ_ i q=>⟨#[],by rw[q];simp⟩⟩
def Un.refl:Un fs ex H H h h:=Un.kept λ_ _ q=>q
def Un.laid(k:∀b u,h.get? b=u4 u->h'.get? b=u4 u)(hp:h.objs.size<=a)(d:H a=u5):Un fs ex H (upd H a o) h h' where
 keep:=λb u q _ _ _=>k b u q
 slot:=λb u q _ _ _=>⟨u.slots,k b u q⟩
 free:=λb u q n _=>by rw[Ah (z9 (zj (zx q) hp))];exact n
 there:=λb u q _=>⟨u,k b u q⟩
 UJ:=λb i q=>by rw[Ah (Gh q d)];exact q
 OJ:=λb u i q=>by rw[Ah (Gh q d)];exact q
 VJ:=λb j q=>⟨#[],by rw[Ah (Gh q d),q];simp⟩
def Un.write(i:Of (H x))(I:e=x\/H e=u4 (.own x))(k:∀b u,b≠e->h.get? b=u4 u->h'.get? b=u4 u)(j:∃u,h'.get? e=u4 u):Un fs ex H (upd H x o) h h':=by
 have F:∀b,H b=u5->b≠x:=λb n z=>by subst z;rw[n]at i;exact i
 have B:∀b,H b=u5->b≠e:=λb n z=>by
  subst z;rcases I with r|r
  .exact F b n r
  rw[n]at r;cases r
 have y:∀b u,H b=u4 u->¬Of (u4 u)->b≠x:=λb u q nm z=>by subst z;rw[q]at i;exact nm i
 refine⟨λb u q n _ _=>k b u (B b n) q,λb u q n _ _=>⟨u.slots,k b u (B b n) q⟩,λb u q n _=>by rw[Ah (F b n)];exact n,λb u q _=>?_,
  λb J q=>by rw[Ah (y b _ q λz=>z)];exact q,λb u J q=>by rw[Ah (y b _ q λz=>z)];exact q,λb L q=>⟨#[],by rw[Ah (y b _ q λz=>z),q];simp⟩⟩
 by_cases d:b=e
 .subst d;exact j
 exact⟨u,k b u d q⟩
end
noncomputable def trk(h:Heap)(H:Hp):List xA:=(zQ h.objs.size).filter λa=>(H a).isSome
def Jm(h:Heap)(H:Hp):Heap:=qd h (trk h H)
def mm(h:Heap)(H:Hp):(Jm h H).objs.size=h.objs.size:=PySem.W.hideAll_size _ _
def mn(e:h.get? b=u4 o)(n:H b=u5):(Jm h H).get? b=u4 o:=
 xa _ e λd=>by have q:=(List.mem_filter.mp d).2;rw[n]at q;simp at q
theorem mq(e:(Jm h H).get? b=u4 o):h.get? b=u4 o/\H b=u5:=by
 have d:=vh (trk h H) e;refine⟨d,?_⟩;cases q:H b with
 |none=>rfl
 |some x=>
  have z:(Jm h H).get? b=u5:=wQ (trk h H) (List.mem_filter.mpr ⟨qK.mpr (zx d),by simp[q]⟩);rw[z]at e;cases e
noncomputable def mr(g h:Heap)(L:xA):List (xA×Obj):=(zQ h.objs.size).filterMap λa=>if a=L\/(g.get? a).isSome=u6 then u5 else(h.get? a).map λo=>(a,o)
def rest(g h:Heap)(L d:xA):List (xA×Obj):=(mr g h L).filter λp=>decide (p.1≠d)
structure Mod (K:za) (mg:Str->Option xL) (base:Heap):Prop where
 ZZ:K.In base
 glob:base.Ns vK mg
 blt:∃mb,base.Ns builtinsNs mb/\∀x:Str,x≠"__name__"->mb x=xU x
 nolimit:base.NoLimit
structure Cx where
 prog:xF
 w:xM
 K:za
 mg:Str->Option xL
 base:Heap
 A:xB
 N:List Str
 s₀:xH
 H₀:Hp
 env:Env
 outer:List Env
 stack:List Env
 ex:List xA
 fn:Str->Bool
 calm:Bool
 pn:List (xA×Obj)
 xe:xL->xH->Prop
noncomputable def PH(l:List Env):List xA:=l.filterMap (·.frame)
abbrev Cx.fs(X:Cx):List xA:=PH X.outer
def XW(sc:xG)(x:Str):Prop:=sc.names.lookup x=u4 .local\/sc.names.lookup x=u4 .cell\/sc.names.lookup x=u4 .free
def Loc(sc:xG)(x:Str):Prop:=sc.names.lookup x=u4 .local\/sc.names.lookup x=u4 .cell
def Look(env:Env)(h:Heap)(m:Str->Option xL)(x:Str)(u:xL):Prop:=
 (env.kindOf x=u4 .local/\m x=u4 u)\/((env.kindOf x=u4 .cell\/env.kindOf x=u4 .free)/\∃c,env.cells.lookup x=u4 c/\h.IsCell c (u4 u))
structure Cx.Ok (X:Cx):Prop where
 mod:Mod X.K X.mg X.base
 kind:X.env.scope.kind=.function
 glob:X.env.globals=vK
 blt:X.env.builtins=builtinsNs
 above:X.s₀.heap.objs.size<=X.env.locals
 inj:∀x y c,X.env.cells.lookup x=u4 c->X.env.cells.lookup y=u4 c->x=y
 has:∀x,(X.env.kindOf x=u4 .cell\/X.env.kindOf x=u4 .free)->∃c,X.env.cells.lookup x=u4 c
 MY:∀x c,X.fn x=u6->X.env.cells.lookup x=u4 c->X.s₀.heap.objs.size<=c
 hd:X.calm=u6->X.A.handled=u5
 frames:X.A.frames=u4 X.stack
 M0:X.stack=X.outer\/(X.stack=X.env::X.outer/\X.env.frame=u4 X.env.locals)
 Pf:∀b∈X.ex,b≠X.env.locals/\∀x c,X.env.cells.lookup x=u4 c->c≠b
 bs:∀b o,X.base.get? b=u4 o->X.s₀.heap.get? b=u4 o/\X.H₀ b=u5
 RT:X.base.objs.size<=X.s₀.heap.objs.size
 PN:∀b o,X.base.get? b=u4 o->b∉X.ex
 QN:∀b∈X.ex,b∉X.fs
 TH:X.s₀.heap.FunFrames X.base X.outer
 QV:∀b∈X.fs,X.H₀ b=u5
structure Inv (X:Cx) (vS:List (xA×Obj)) (σ:List (Option V)) (H:Hp) (s:xH):Prop where
 ok:X.Ok
 os:s.os=X.s₀.os
 bare:AllBare s.gens
 base:Un X.fs X.ex X.H₀ H X.s₀.heap s.heap
 loc:∃m,s.heap.Ns X.env.locals m/\∀(i:Nat)(x:Str)(v:V),X.N[i]?=u4 x->σ[i]?=u4 (u4 v)->XW X.env.scope x->∃u,RelV v u/\Look X.env s.heap m x u
 cell:∀x c,X.env.cells.lookup x=u4 c->∃v,s.heap.IsCell c v
 free:H X.env.locals=u5
 Gn:∀x c,X.env.cells.lookup x=u4 c->H c=u5
 pin:∀p∈X.pn++vS,s.heap.get? p.1=u4 p.2/\H p.1=u5/\p.1≠X.env.locals/\p.1∉X.fs/\∀v,p.2.data≠ .cell v
 OB:VG X.prog X.w H s.heap
 len:σ.length=X.N.length
section
variable{X:Cx}{vS:List (xA×Obj)}{σ:List (Option V)}{H H':Hp}{s:xH}{h':Heap}
def Cx.Ok.nofr(ok:X.Ok)(e:X.base.get? b=u4 o):b∉X.fs:=λd=>by have:=(ok.TH.mem d).1;rw[e]at this;cases this
def Inv.bs(I:Inv X vS σ H s):∀b o,X.base.get? b=u4 o->s.heap.get? b=u4 o/\H b=u5:=λb o e=>
 ⟨I.base.keep b o (I.ok.bs b o e).1 (I.ok.bs b o e).2 (I.ok.nofr e) (I.ok.PN b o e),I.base.free b o (I.ok.bs b o e).1 (I.ok.bs b o e).2 (I.ok.PN b o e)⟩
def Inv.bk(I:Inv X vS σ H s):∀b o,X.base.get? b=u4 o->s.heap.get? b=u4 o:=λb o e=>(I.bs b o e).1
def Inv.mod(I:Inv X vS σ H s):Mod X.K X.mg X.base:=I.ok.mod
def Inv.WG(I:Inv X vS σ H s):X.K.In s.heap:=I.ok.mod.ZZ.keeps I.bk
def Inv.lt(I:Inv X vS σ H s):X.env.locals<s.heap.objs.size:=let⟨_,d,_⟩:=I.loc;d.lt
def Inv.sz(I:Inv X vS σ H s):X.s₀.heap.objs.size<=s.heap.objs.size:=z8 I.ok.above (Nat.le_of_lt I.lt)
def Inv.Sf(I:Inv X vS σ H s){a:xA}(h:s.heap.objs.size<=a):a∉X.fs:=λd=>by obtain⟨_,o,i,_⟩:=I.ok.TH.mem d;exact absurd (zj (zx i) (z8 I.sz h)) (qX _)
def Inv.O0(I:Inv X vS σ H s):∀x c,X.env.cells.lookup x=u4 c->c≠X.env.locals:=λx c e z=>by obtain⟨v,o,n,j⟩:=I.cell x c e;obtain⟨m,⟨q,y,B,i,d,_⟩,_⟩:=I.loc;rw[z,i]at n;cases n;rw[d]at j;cases j
def Inv.TH(I:Inv X vS σ H s):s.heap.FunFrames X.base X.outer:=by
 have all:∀(l:List Env),(∀b∈PH l,b∈X.fs)->X.s₀.heap.FunFrames X.base l->s.heap.FunFrames X.base l:=by
  intro l
  induction l with
  |nil=>intro _ _;trivial
  |cons N r B=>
   intro n M;obtain⟨hk,⟨L,o,d,J,F,y⟩,q⟩:=M;have i:=n L (by unfold PH;rw[qy,d];exact zW);obtain⟨O,e⟩:=I.base.slot L o F (I.ok.QV L i) i λz=>I.ok.QN L z i
   exact⟨hk,⟨L,_,d,J,e,y⟩,B (λb j=>n b (by unfold PH;rw[qy,d];exact zJ _ j)) q⟩
 exact all X.outer (λ_ j=>j) I.ok.TH
def Inv.stack(I:Inv X vS σ H s):s.heap.FunFrames X.base X.stack:=by
 rcases I.ok.M0 with e|⟨e,d⟩
 .rw[e];exact I.TH
 .rw[e];obtain⟨m,i,_⟩:=I.loc;exact .cons (by rw[I.ok.kind];decide) d i (xq (z8 I.ok.RT I.ok.above)) I.TH
def Inv.Vg(I:Inv X vS σ H s):∀b∈PH X.stack,b∈X.env.locals::X.fs:=λb d=>by
 rcases I.ok.M0 with e|⟨e,i⟩
 .rw[e]at d;exact zJ _ d
 rw[e]at d;unfold PH at d;rw[qy,i]at d;exact d
def Inv.Tn(I:Inv X vS σ H s):∀b∈PH X.stack,H b=u5:=λb d=>by
 rcases zK.mp (I.Vg b d)with e|d
 .rw[e];exact I.free
 obtain⟨_,o,i,_⟩:=I.ok.TH.mem d;exact I.base.free b o i (I.ok.QV b d) λz=>I.ok.QN b z d
def Inv.step{g':Array GenState}{d':Drawn}{ch:List xA}(I:Inv X vS σ H s)
  (L:∀b∈ch,(b∈X.ex\/X.s₀.heap.objs.size<=b)/\b≠X.env.locals/\(∀x c,X.env.cells.lookup x=u4 c->c≠b)/\∀p∈X.pn++vS,p.1≠b)
  (F:∀b o,b≠X.env.locals->b∉X.fs->b∉ch->s.heap.get? b=u4 o->H b=u5->h'.get? b=u4 o)
  (M:∀b o,b≠X.env.locals->b∈X.fs->b∉ch->s.heap.get? b=u4 o->H b=u5->∃sl,h'.get? b=u4 {o with slots:=sl}) (free:∀b o,b∉ch->s.heap.get? b=u4 o->H b=u5->H' b=u5)
  (B:∀b o,b∉ch->s.heap.get? b=u4 o->∃o',h'.get? b=u4 o')
  (W:∀b xs,H b=u4 (.tup xs)->H' b=u4 (.tup xs)) (Y:∀b o u,H b=u4 (.ND o u)->H' b=u4 (.ND o u)) (U:∀b ps,H b=u4 (.OT ps)->∃more,H' b=u4 (.OT (ps++more)))
  (ns:∀m,s.heap.Ns X.env.locals m->h'.Ns X.env.locals m) (OB:VG X.prog X.w H' h') (hg:AllBare g'):
  Inv X vS σ H' {s with heap:=h',gens:=g',drawn:=d',toks:=t'}:=by
 have neL:∀b o,X.s₀.heap.get? b=u4 o->b≠X.env.locals:=λb o e=>z9 (zj (zx e) I.ok.above)
 have S:∀b o,X.s₀.heap.get? b=u4 o->b∉X.ex->b∉ch:=λb o e y Z=>by
  rcases(L b Z).1 with z|z
  .exact y z
  exact absurd (zj (zx e) z) (qX _)
 have N:∀x c,X.env.cells.lookup x=u4 c->∀v,s.heap.IsCell c v->h'.IsCell c v:=λx c e v ⟨o,ho,hd⟩=>by
  have J:c∉ch:=λz=>(L c z).2.2.1 x c e rfl
  by_cases hc:c∈X.fs
  .obtain⟨sl,q⟩:=M c o (I.O0 x c e) hc J ho (I.Gn x c e);exact⟨_,q,hd⟩
  exact⟨o,F c o (I.O0 x c e) hc J ho (I.Gn x c e),hd⟩
 refine⟨I.ok,I.os,hg,⟨λb o e n Z y=>(F b o (neL b o e) Z (S b o e y) (I.base.keep b o e n Z y) (I.base.free b o e n y)),λb o e n Z y=>?_,λb o e n y=>?_,λb o e y=>?_,λb xs e=>W b xs (I.base.UJ b xs e),λb o xs e=>Y b o xs (I.base.OJ b o xs e),λb ps e=>?_⟩,?_,λx c e=>?_,?_,λx c e=>?_,λp hp=>?_,OB,I.len⟩
 .obtain⟨sl,O⟩:=I.base.slot b o e n Z y;obtain⟨sl',e2⟩:=M b _ (neL b o e) Z (S b o e y) O (I.base.free b o e n y);exact⟨sl',e2⟩
 .obtain⟨o',O⟩:=I.base.there b o e y;exact free b o' (S b o e y) O (I.base.free b o e n y)
 .obtain⟨o',O⟩:=I.base.there b o e y;exact B b o' (S b o e y) O
 .obtain⟨m1,O⟩:=I.base.VJ b ps e;obtain⟨m2,e2⟩:=U b _ O;exact⟨m1++m2,by rw[e2,Array.append_assoc]⟩
 .obtain⟨m,hn,hl⟩:=I.loc;refine⟨m,ns m hn,λi x v O e2 e3=>?_⟩;obtain⟨u,r,l⟩:=hl i x v O e2 e3;refine⟨u,r,?_⟩;rcases l with l|⟨k,c,e,z⟩
  .exact .inl l
  exact .inr ⟨k,c,e,N x c e _ z⟩
 .obtain⟨v,z⟩:=I.cell x c e;exact⟨v,N x c e v z⟩
 .obtain⟨m,⟨o,_,_,ho,_⟩,_⟩:=I.loc;exact free _ o (λz=>(L _ z).2.1 rfl) ho I.free
 .obtain⟨v,o,ho,hd⟩:=I.cell x c e;exact free c o (λz=>(L c z).2.2.1 x c e rfl) ho (I.Gn x c e)
 obtain⟨e,n,ne,nf,d⟩:=I.pin p hp;have J:p.1∉ch:=λz=>(L p.1 z).2.2.2 p hp rfl
 exact⟨F p.1 p.2 ne nf J e n,free p.1 p.2 J e n,ne,nf,d⟩
def Inv.un(I:Inv X vS σ H s)(u:Un X.fs [] H H' s.heap h')(OB:VG X.prog X.w H' h'):Inv X vS σ H' {s with heap:=h',toks:=t'}:=by
 obtain⟨m,⟨o,O,S,z,r⟩,_⟩:=id I.loc;obtain⟨N,F⟩:=u.any z I.free (by simp);exact I.step (ch:=[]) (nofun) (λb o _ q _ e n=>u.keep b o e n q (by simp)) (λb o _ q _ e n=>u.slot b o e n q (by simp)) (λb o _ e n=>u.free b o e n (by simp)) (λb o _ e=>u.there b o e (by simp)) u.UJ u.OJ u.VJ (λU J=>by obtain⟨M,j,y,d,L⟩:=J;rw[z]at d;cases d;exact⟨_,j,y,F,L⟩) OB I.bare
def Inv.call{g':Array GenState}{d':Drawn}{ch:List xA}(I:Inv X vS σ H s)(u:Un (PH X.stack) ch H H' s.heap h')(OB:VG X.prog X.w H' h')(O:AllBare g')
  (q:∀b∈ch,(b∈X.ex\/X.s₀.heap.objs.size<=b)/\b≠X.env.locals/\(∀x c,X.env.cells.lookup x=u4 c->c≠b)/\∀p∈X.pn++vS,p.1≠b):
  Inv X vS σ H' {s with heap:=h',gens:=g',drawn:=d',toks:=t'}:=by
 obtain⟨m,⟨o,Z,Y,L,r⟩,_⟩:=id I.loc;obtain⟨sl,B⟩:=u.any L I.free λz=>(q _ z).2.1 rfl
 exact I.step q (λb o B S i e n=>u.keep b o e n (λz=>(zK.mp (I.Vg b z)).elim B S) i) (λb o _ _ i e n=>u.any e n i) (λb o i e n=>u.free b o e n i) (λb o i e=>u.there b o e i) u.UJ u.OJ u.VJ (λm' U=>by obtain⟨o',y,J,j,W⟩:=U;rw[L]at j;cases j;exact⟨_,y,J,B,W⟩) OB O
def Inv.turned{it:xA}(I:Inv X vS σ H s)(k:∀b o,b≠it->s.heap.get? b=u4 o->h'.get? b=u4 o)(J:H it=u5)(y:it≠X.env.locals)
  (M:it∈X.ex\/X.s₀.heap.objs.size<=it) (W:∀x c,X.env.cells.lookup x=u4 c->c≠it) (L:∀p∈X.pn++vS,p.1≠it):Inv X vS σ H {s with heap:=h',toks:=t'}:=by
 have j:∀b u,H b=u4 u->b≠it:=λb u e z=>by rw[z,J]at e;cases e
 refine I.step (ch:=[it]) (λb N=>?_) (λb o _ _ i e _=>k b o (λz=>i (by simp[z])) e) (λb o _ _ i e _=>⟨o.slots,k b o (λz=>i (by simp[z])) e⟩) (λ_ _ _ _ n=>n)
  (λb o i e=>⟨o,k b o (λz=>i (by simp[z])) e⟩) (λ_ _ e=>e) (λ_ _ _ e=>e) (λb Y e=>⟨#[],by rw[e];simp⟩) (λm U=>?_) (λb u e=>?_) I.bare
 .have e:b=it:=by simpa using N
  subst e;exact⟨M,y,W,L⟩
 .obtain⟨o,O,S,F,r⟩:=U;exact⟨o,O,S,k _ o (Ne.symm y) F,r⟩
 refine(I.OB b u e).UI (λc v i q=>k c v ?_ q) (λ_ q=>q) λ_ _ q=>q
 rcases i with z|z
 .rw[z];exact j b u e
 exact j c _ z
def Inv.tok(I:Inv X vS σ H s)(t:Nat):Inv X vS σ H {s with toks:=t}:=I.un Un.refl I.OB
def Inv.kept(I:Inv X vS σ H s)(k:∀b u,s.heap.get? b=u4 u->h'.get? b=u4 u):Inv X vS σ H {s with heap:=h',toks:=t'}:=I.un (Un.kept k) (I.OB.kept k)
def Inv.laid{a:xA}{o:HO}(I:Inv X vS σ H s)(k:∀b u,s.heap.get? b=u4 u->h'.get? b=u4 u)(hp:s.heap.objs.size<=a)(new:TC X.prog X.w (upd H a o) h' a o):
  Inv X vS σ (upd H a o) {s with heap:=h',toks:=t'}:=I.un (Un.laid k hp (I.OB.fresh hp)) (I.OB.laid k hp new)
def Inv.write(I:Inv X vS σ H s)(q:Of (H x))(j:e=x\/H e=u4 (.own x))(k:∀b u,b≠e->s.heap.get? b=u4 u->h'.get? b=u4 u)(d:∃u,h'.get? e=u4 u)
  (new:TC X.prog X.w (upd H x o) h' x o):Inv X vS σ (upd H x o) {s with heap:=h',toks:=t'}:=I.un (Un.write q j k d) (I.OB.write q j k d new)
def Inv.Jj(I:Inv X vS σ H s)(h:∀p∈pins',s.heap.get? p.1=u4 p.2/\H p.1=u5/\p.1≠X.env.locals/\p.1∉X.fs/\∀v,p.2.data≠ .cell v):Inv X pins' σ H s:=
 ⟨I.ok,I.os,I.bare,I.base,I.loc,I.cell,I.free,I.Gn,λp hp=>(jP.mp hp).elim (λz=>I.pin p (j9 _ z)) (h p),I.OB,I.len⟩
def ba{N:List Str}(n:N.Nodup){i j:Nat}{x:Str}(a:N[i]?=u4 x)(b:N[j]?=u4 x):i=j:=by obtain⟨y,q⟩:=zA.mp a;obtain⟨z,d⟩:=zA.mp b;exact(List.getElem_inj n).mp (q.trans d.symm)
def bb{M:Model}{A:xB}{E:xL->xH->Prop}{i:Nat}{x:Str}{v:V}{u:xL}{Q:Unit->xH->Prop}(I:Inv X vS σ H s)(hN:X.N.Nodup)(hi:X.N[i]?=u4 x)(O:Loc X.env.scope x)(r:RelV v u)
  (h:∀s',Inv X vS (σ.set i (u4 v)) H s'->(∃a,qI a s.heap s'.heap/\(a=X.env.locals\/X.env.cells.lookup x=u4 a))->Q () s') (hf:X.fn x=u6\/X.env.scope.names.lookup x=u4 .local:=by first|exact .inl rfl|exact .inr rfl|assumption):vk M A (storeName X.env x u) Q E s:=by
 obtain⟨m,hn,hl⟩:=id I.loc;have hcls:(X.env.scope.kind == .class||(X.env.scope.kind == .module&&X.env.locals != X.env.globals))=u7:=by rw[I.ok.kind];rfl
 have W:i<σ.length:=by rw[I.len];exact(zA.mp hi).1
 have O0:=I.O0;have J:∀{a:xA}{h':Heap},(∃o,s.heap.get? a=u4 o/\H a=u5)->qI a s.heap h'->VG X.prog X.w H h':=λ{a h'}ha B b ob e=>by
  obtain⟨_,_,S⟩:=ha;refine(I.OB b ob e).UI (λc w' L q=>(B.2 c ?_).trans q) (λ_ q=>q) λ_ _ q=>q
  rintro rfl;rcases L with rfl|L
  .rw[S]at e;cases e
  rw[S]at L;cases L
 rcases O with hk|hk
 .refine wpAny_storeName_local hk hn (λh' hn' B=>?_) hcls;obtain⟨oL,_,_,hoL,_⟩:=id hn;refine h _ ⟨I.ok,I.os,I.bare,⟨λb o e n Z O=>?_,λb o e n Z O=>?_,I.base.free,λb o e O=>?_,I.base.UJ,I.base.OJ,I.base.VJ⟩,⟨_,hn',λj y v' F U e3=>?_⟩,λy c e=>?_,I.free,I.Gn,λp hp=>?_,J ⟨oL,hoL,I.free⟩ B,by simpa using I.len⟩ ⟨_,B,.inl rfl⟩
  .exact(B.2 b (z9 (zj (zx e) I.ok.above))).trans (I.base.keep b o e n Z O)
  .obtain⟨sl,F⟩:=I.base.slot b o e n Z O;exact⟨sl,(B.2 b (z9 (zj (zx e) I.ok.above))).trans F⟩
  .obtain⟨o',F⟩:=I.base.there b o e O;exact⟨o',(B.2 b (z9 (zj (zx e) I.ok.above))).trans F⟩
  .by_cases hj:j=i
   .subst hj;rw[hi]at F;cases F;rw[jy W]at U;cases U;exact⟨u,r,.inl ⟨hk,by simp⟩⟩
   rw[jV (Ne.symm hj)]at U;obtain⟨u',r',q⟩:=hl j y v' F U e3;refine⟨u',r',?_⟩;rcases q with⟨k,e⟩|⟨k,c,e,z⟩
   .refine .inl ⟨k,?_⟩;have:y≠x:=λe=>hj (ba hN F (e▸hi))
    simp[this,e]
   exact .inr ⟨k,c,e,z.sameBut B (O0 y c e)⟩
  .obtain⟨w',z⟩:=I.cell y c e;exact⟨w',z.sameBut B (O0 y c e)⟩
  obtain⟨e,n,ne,nf,d⟩:=I.pin p hp;exact⟨(B.2 p.1 ne).trans e,n,ne,nf,d⟩
 have Y:X.fn x=u6:=by
  rcases hf with z|z
  .exact z
  rw[z]at hk;cases hk
 obtain⟨c,L⟩:=I.ok.has x (.inl hk);obtain⟨w',z⟩:=I.cell x c L;refine wpAny_storeName_cell I.ok.kind hk L z (λh' hc' B=>?_);obtain⟨oc,hoc,hocd⟩:=id z;refine h {s with heap:=h'} ⟨I.ok,I.os,I.bare,⟨λb o e n Z O=>?_,λb o e n Z O=>?_,I.base.free,λb o e O=>?_,I.base.UJ,I.base.OJ,I.base.VJ⟩,⟨m,hn.sameBut B (Ne.symm (O0 x c L)),λj y v' F U e3=>?_⟩,λy c' e=>?_,I.free,I.Gn,λp hp=>?_,J ⟨oc,hoc,I.Gn x c L⟩ B,by simpa using I.len⟩ ⟨c,B,.inr L⟩
 .exact(B.2 b (z9 (zj (zx e) (I.ok.MY x c Y L)))).trans (I.base.keep b o e n Z O)
 .obtain⟨sl,F⟩:=I.base.slot b o e n Z O;exact⟨sl,(B.2 b (z9 (zj (zx e) (I.ok.MY x c Y L)))).trans F⟩
 .obtain⟨o',F⟩:=I.base.there b o e O;exact⟨o',(B.2 b (z9 (zj (zx e) (I.ok.MY x c Y L)))).trans F⟩
 .by_cases hj:j=i
  .subst hj;rw[hi]at F;cases F;rw[jy W]at U;cases U;exact⟨u,r,.inr ⟨.inl hk,c,L,hc'⟩⟩
  .rw[jV (Ne.symm hj)]at U;obtain⟨u',r',q⟩:=hl j y v' F U e3;refine⟨u',r',?_⟩;rcases q with q|⟨k,c',e,z'⟩
   .exact .inl q
   .refine .inr ⟨k,c',e,z'.sameBut B ?_⟩;rintro rfl;exact hj (ba hN F (I.ok.inj _ _ _ e L▸hi))
 .by_cases Yf:c'=c
  .subst Yf;exact⟨_,hc'⟩
  .obtain⟨w2,z2⟩:=I.cell y c' e;exact⟨w2,z2.sameBut B Yf⟩
 .obtain⟨e,n,ne,nf,d⟩:=I.pin p hp;refine⟨(B.2 p.1 ?_).trans e,n,ne,nf,d⟩;intro q;rw[q,hoc]at e;exact d w' (by rw[<-(Option.some.inj e)];exact hocd)
def Ss(I:Inv X vS σ H s)(d:X.N.Nodup)(hi:X.N[i]?=u4 x)(n:Loc X.env.scope x)(r:RelV v u)
  (h:∀s',Inv X vS (σ.set i (u4 v)) H s'->Q () s') (q:X.fn x=u6\/X.env.scope.names.lookup x=u4 .local:=by first|exact .inl rfl|exact .inr rfl|assumption):vk M A (storeName X.env x u) Q E s:=
 bb I d hi n r (λs' j _=>h s' j) q
def Inv.NY(I:Inv X vS σ H s)(ho:s'.os=s.os)(u:Un (PH X.stack) ch H H' s.heap s'.heap)(OB:VG X.prog X.w H' s'.heap)(i:AllBare s'.gens)
  (d:∀b∈ch,(b∈X.ex\/X.s₀.heap.objs.size<=b)/\b≠X.env.locals/\(∀x c,X.env.cells.lookup x=u4 c->c≠b)/\∀p∈X.pn++vS,p.1≠b):Inv X vS σ H' s':=by
 obtain⟨y,n,q,z,j⟩:=s';have e:=ho;subst e;exact I.call u OB i d
end
abbrev XK:=xL->Option xA->Hp->Prop
abbrev St:=List (Option V)
abbrev VK:=V->Hp->Prop
abbrev TE:=St->Hp->VK->Prop
variable{te:TE}
abbrev TT:=St->Hp->(Bool->Hp->Prop)->Prop
abbrev TA:=St->Hp->(List V->Hp->Prop)->Prop
structure Ends where
 nx:St->Hp->Prop
 rt:VK
 bk:St->Hp->Prop:=λ_ _=>False
 ct:St->Hp->Prop:=λ_ _=>False
abbrev TS:=Ends->St->Hp->Prop
inductive EP (X:Cx) (vS:List (xA×Obj)) (σ:St) (Q:VK) (u:xL) (s':xH):Prop|mk (v:V) (H':Hp) (I:Inv X vS σ H' s') (r:RelV v u) (q:Q v H'):EP X vS σ Q u s'
inductive TP (X:Cx) (vS:List (xA×Obj)) (σ:St) (Q:Bool->Hp->Prop) (b:Bool) (s':xH):Prop|mk (H':Hp) (I:Inv X vS σ H' s') (q:Q b H'):TP X vS σ Q b s'
inductive AP (X:Cx) (vS:List (xA×Obj)) (σ:St) (Q:List V->Hp->Prop) (us:List xL) (s':xH):Prop|mk (vs:List V) (H':Hp) (I:Inv X vS σ H' s') (r:Vals vs us) (q:Q vs H'):AP X vS σ Q us s' inductive NP (X:Cx) (vS:List (xA×Obj)) (Q:St->Hp->Prop) (s':xH):Prop|mk (σ':St) (H':Hp) (I:Inv X vS σ' H' s') (q:Q σ' H'):NP X vS Q s' inductive RP (X:Cx) (vS:List (xA×Obj)) (Q:VK) (u:xL) (s':xH):Prop|mk (v:V) (σ':St) (H':Hp) (I:Inv X vS σ' H' s') (r:RelV v u) (q:Q v H'):RP X vS Q u s'
def SP(X:Cx)(vS:List (xA×Obj))(D:Ends)(f:Flow)(s':xH):Prop:=
 match f with
 |.next=>NP X vS D.nx s'
 |.brk=>NP X vS D.bk s'
 |.cont=>NP X vS D.ct s'
 |.ret u=>RP X vS D.rt u s'
def PE(X:Cx)(e:xC)(t:TE):Prop:=
 ∀(vS:List (xA×Obj))(s:xH)(σ:St)(H:Hp)(Q:VK),Inv X vS σ H s->t σ H Q->vk (vY X.prog X.w) X.A (eval e X.env) (EP X vS σ Q) X.xe s
def PT(X:Cx)(e:xC)(t:TT):Prop:=
 ∀(vS:List (xA×Obj))(s:xH)(σ:St)(H:Hp)(Q:Bool->Hp->Prop),Inv X vS σ H s->t σ H Q->vk (vY X.prog X.w) X.A (isTrue e X.env (eval e X.env)) (TP X vS σ Q) X.xe s
def PW(X:Cx)(e:xC)(t:TT):Prop:=
 ∀(whole:Sem xL)(vS:List (xA×Obj))(s:xH)(σ:St)(H:Hp)(Q:Bool->Hp->Prop),Inv X vS σ H s->t σ H Q->vk (vY X.prog X.w) X.A (isTrue e X.env whole) (TP X vS σ Q) X.xe s
def PW.pt(h:PW X e t):PT X e t:=h _
def PA(X:Cx)(es:List xC)(t:TA):Prop:=
 ∀(pos:Pos)(vS:List (xA×Obj))(s:xH)(σ:St)(H:Hp)(Q:List V->Hp->Prop),Inv X vS σ H s->t σ H Q->vk (vY X.prog X.w) X.A (spliced (xP pos (vx es X.env))) (AP X vS σ Q) X.xe s
def PS(X:Cx)(st:xI)(t:TS):Prop:=
 ∀(vS:List (xA×Obj))(s:xH)(σ:St)(H:Hp)(D:Ends),Inv X vS σ H s->t D σ H->vk (vY X.prog X.w) X.A (exec st X.env) (SP X vS D) X.xe s
def RN(X:Cx)(st:List xI)(t:TS):Prop:=
 ∀(vS:List (xA×Obj))(s:xH)(σ:St)(H:Hp)(D:Ends),Inv X vS σ H s->t D σ H->vk (vY X.prog X.w) X.A (execs st X.env) (SP X vS D) X.xe s
def QB{d:Type}{t:Sem d}{Q i:d->xH->Prop}{M:Model}{A:xB}{E:xL->xH->Prop}(h:vk M A t Q E s)(j:∀a s,Q a s->i a s):vk M A t i E s:=vG h j λ_ _ x=>x
section
variable{X:Cx}
noncomputable def Rb(i:Nat):TE:=λσ H Q=>∃v,σ[i]?=u4 (u4 v)/\Q v H
def tC(v:V):TE:=λ_ H Q=>Q v H
def Ph{i:Nat}{x:Str}{pos:Pos}(M:X.N[i]?=u4 x)(B:XW X.env.scope x)(q:(x==("__debug__":Str))=u7:=by decide)(y:(x==("__classdict__":Str))=u7:=by decide):PE X (.Name x pos) (Rb i):=by
 intro n s L H Q I h;obtain⟨v,e,h⟩:=h;obtain⟨m,F,J⟩:=I.loc;obtain⟨u,r,l⟩:=J i x v M e B;have j:EP X n L Q u s:=⟨v,H,I,r,h⟩;rcases l with⟨hk,O⟩|⟨hk,c,z,d⟩
 .exact wpAny_Name (wpAny_loadName_local I.ok.kind hk F O j) q
 rcases hk with hk|hk
 .exact wpAny_Name (wpAny_loadName_cell I.ok.kind hk z d j) q
 exact wpAny_Name (wpAny_loadName_free I.ok.kind hk z d j y) q
def mv{i j pos}:PE X (.Constant (.int i) j pos) (tC (.int i)):=λ_ _ _ H _ I h=>wpAny_Constant_int ⟨.int i,H,I.tok _,⟨_,rfl⟩,h⟩
def mw{b j pos}:PE X (.Constant (.bool b) j pos) (tC (.bl b)):=λ_ _ _ H _ I h=>Constant_bool ⟨.bl b,H,I,rfl,h⟩
def mx{j pos}:PE X (.Constant .none j pos) (tC .WA):=λ_ _ _ H _ I h=>Constant_none ⟨.WA,H,I,rfl,h⟩
def Q6{x j pos}:PE X (.Constant (.str x) j pos) (tC (.str x)):=λ_ _ _ H _ I h=>Calls.Constant_str ⟨.str x,H,I.tok _,⟨_,rfl⟩,h⟩
def Gl(X:Cx)(x:Str):Prop:=X.env.kindOf x=u4 .globalImplicit
def Li{E:xL->xH->Prop}{n:St}{H:Hp}{x:Str}{u:xL}{pos:Pos}{Q:xL->xH->Prop}(I:Inv X vS n H s)(d:Gl X x)(i:X.mg x=u4 u)(h:Q u s)
  (j:(x==("__debug__":Str))=u7:=by decide):vk (vY X.prog X.w) X.A (eval (.Name x pos) X.env) Q E s:=
 Calls.Name_function_global I.ok.kind d (Calls.loadGlobal_global (I.ok.glob▸I.mod.glob.keeps I.bk) i h) j
def Hn{E:xL->xH->Prop}{q:St}{H:Hp}{x:Str}{u:xL}{pos:Pos}{Q:xL->xH->Prop}(I:Inv X vS q H s)(d:Gl X x)(z:X.mg x=u5)(i:xU x=u4 u)(h:Q u s)
  (n:x≠"__name__":=by decide) (j:(x==("__debug__":Str))=u7:=by decide):vk (vY X.prog X.w) X.A (eval (.Name x pos) X.env) Q E s:=by
 obtain⟨F,y,B⟩:=I.mod.blt;exact Calls.Name_function_global I.ok.kind d (Calls.loadGlobal_builtin (I.ok.glob▸I.mod.glob.keeps I.bk) z (I.ok.blt▸y.keeps I.bk) ((B x n).trans i) h) j
def Zy(d:Gl X x)(i:X.mg x=u4 u)(r:RelV v u)(j:(x==("__debug__":Str))=u7:=by decide):PE X (.Name x pos) (tC v):=
 λ_ _ _ H _ I h=>Li I d i ⟨v,H,I,r,h⟩ j
def my{x:Str}{v:V}{u:xL}{pos:Pos}(d:Gl X x)(q:X.mg x=u5)(i:xU x=u4 u)(r:RelV v u)(n:x≠"__name__":=by decide)(j:(x==("__debug__":Str))=u7:=by decide):PE X (.Name x pos) (tC v):=
 λ_ _ _ H _ I h=>Hn I d q i ⟨v,H,I,r,h⟩ n j
variable{a b:xC}{ta tb:TE}{pos:Pos}
noncomputable def tB(t:TE):TT:=λσ H Q=>t σ H λx H1=>∃c,x=.bl c/\Q c H1
def mz{e:xC}{t:TE}(h:PE X e t)(z:∀i,isTrue e X.env i=(do let v<-i;standAt e.pos;holding [v] (truthy v)):=by intro _;rfl):PT X e (tB t):=by intro j s F H Q I hw;refine isTrue_plain (QB (h j s F H _ I hw) λv L ⟨x,y,n,J,B⟩=>?_) (z _);obtain⟨d,rfl,q⟩:=B;cases J;exact vN ⟨y,n,q⟩
variable{tA A?:TT}{rest:List xC}
noncomputable def Si(t u:TT):TT:=λσ H Q=>t σ H λc H1=>if c=u6 then u σ H1 Q else Q u7 H1
noncomputable def tOr(t u:TT):TT:=λσ H Q=>t σ H λc H1=>if c=u6 then Q u6 H1 else u σ H1 Q
noncomputable def tNot(t:TT):TT:=λσ H Q=>t σ H λc H1=>Q (!c) H1
theorem YW(i:PT X a tA):PW X (.BoolOp .And [a] pos) tA:=by
 intro n d s j H Q I h;refine isTrue_and (QB (i d s j H Q I h) λc q e=>?_);cases c with
 |true=>exact isTrue_and_nil e
 |false=>exact e
theorem X0(i:PT X a tA):PW X (.BoolOp .Or [a] pos) tA:=by
 intro n d s j H Q I h;refine isTrue_or (QB (i d s j H Q I h) λc q e=>?_);cases c with
 |false=>exact isTrue_or_nil e
 |true=>exact e
theorem M1(z:PT X a tA)(B:PW X (.BoolOp .And (b::rest) pos) A?):PW X (.BoolOp .And (a::b::rest) pos) (Si tA A?):=by
 intro y d s q H Q I h;refine isTrue_and (QB (z d s q H _ I h) λc F ⟨j,i,n⟩=>?_);cases c with
 |true=>exact B y d F q j Q i n
 |false=>exact⟨j,i,n⟩
theorem Sj(z:PT X a tA)(B:PW X (.BoolOp .Or (b::rest) pos) A?):PW X (.BoolOp .Or (a::b::rest) pos) (tOr tA A?):=by
 intro y d s q H Q I h;refine isTrue_or (QB (z d s q H _ I h) λc F ⟨j,i,n⟩=>?_);cases c with
 |true=>exact⟨j,i,n⟩
 |false=>exact B y d F q j Q i n
def nA(i:PT X a tA):PT X (.UnaryOp .Not a pos) (tNot tA):=by intro d s n H Q I h;exact isTrue_not (QB (i d s n H (λc j=>Q (!c) j) I h) λ_ _ ⟨a,b,c⟩=>⟨a,b,c⟩)
noncomputable def nB(ta tb:TE):TE:=λσ H Q=>ta σ H λx H1=>∃c,x=.bl c/\if c=u6 then tb σ H1 Q else Q (.bl u7) H1
noncomputable def tOrV(ta tb:TE):TE:=λσ H Q=>ta σ H λx H1=>∃c,x=.bl c/\if c=u6 then Q (.bl u6) H1 else tb σ H1 Q
noncomputable def nC(ta:TE):TE:=λσ H Q=>ta σ H λx H1=>∃c,x=.bl c/\Q (.bl (!c)) H1
def nE{op}(h:PE X a t):PE X (.BoolOp op [a] pos) t:=λd s i H Q I hw=>BoolOp_one (h d s i H Q I hw)
theorem nF(y:PE X a ta)(B:PE X (.BoolOp .And (b::rest) pos) tb):PE X (.BoolOp .And (a::b::rest) pos) (nB ta tb):=by
 intro d s q H Q I h;refine BoolOp_and (QB (y d s q H _ I h) λv J z=>?_);obtain⟨x,n,j,F,i⟩:=z;obtain⟨c,rfl,i⟩:=i;cases F;refine vN ?_;cases c with
 |true=>exact B d J q n Q j i
 |false=>exact⟨.bl u7,n,j,rfl,i⟩
theorem nG(y:PE X a ta)(B:PE X (.BoolOp .Or (b::rest) pos) tb):PE X (.BoolOp .Or (a::b::rest) pos) (tOrV ta tb):=by
 intro d s q H Q I h;refine BoolOp_or (QB (y d s q H _ I h) λv J z=>?_);obtain⟨x,n,j,F,i⟩:=z;obtain⟨c,rfl,i⟩:=i;cases F;refine vN ?_;cases c with
 |false=>exact B d J q n Q j i
 |true=>exact⟨.bl u6,n,j,rfl,i⟩
def nH(j:PE X a ta):PE X (.UnaryOp .Not a pos) (nC ta):=by intro d s z H Q I h;refine UnaryOp_ (QB (j d s z H _ I h) λv F n=>?_);obtain⟨x,y,q,B,i⟩:=n;obtain⟨c,rfl,i⟩:=i;cases B;exact not_of (vN ⟨.bl (!c),y,q,rfl,i⟩)
noncomputable def tIf(t:TT)(ta tb:TE):TE:=λσ H Q=>t σ H λc H1=>if c=u6 then ta σ H1 Q else tb σ H1 Q
theorem nI{c:xC}(L:PT X c tA)(B:PE X a ta)(J:PE X b tb):PE X (.IfExp c a b pos) (tIf tA ta tb):=by
 intro i s j H Q I h;refine wpAny_IfExp (QB (L i s j H _ I h) λd z F=>?_);obtain⟨q,n,y⟩:=F;cases d with
 |true=>exact B i z j q Q n y
 |false=>exact J i z j q Q n y
end
def NH(K:za)(H:Hp)(a:xA)(xs:List V):Prop:=
 Rd H a (.lst xs)\/
  ∃(o:Obj)(VA:Array xL)(n:Nat),K.lookup a=u4 o/\o.cls=.type "list"/\o.dict=u5/\o.data=.seq VA n/\VA.size<=sizeLine/\Vals xs VA.toList
def RH(K:za)(H:Hp)(a:xA)(xs:List V):Prop:=
 Rd H a (.tup xs)\/
  ∃(o:Obj)(VA:Array xL)(n:Nat),K.lookup a=u4 o/\o.cls=.type "tuple"/\o.data=.seq VA n/\VA.size<=sizeLine/\Vals xs VA.toList
noncomputable def absV:xL->Option V
 |.none=>u4 .WA
 |.bool b=>u4 (.bl b)
 |.int i _=>u4 (.int i)
 |.str x _=>u4 (.str x)
 |.bytes b _=>u4 (.byt b)
 |.float b _=>u4 (.flt b)
 |.ref a=>u4 (.ref a)
 |.type n=>u4 (.ty n)
 |_=>u5
theorem RelV.abs(r:RelV x u):absV u=u4 x:=by
 cases x with
 |WA|bl _=>cases r;rfl
 |ref _|ty _=>cases r;rfl
 |_=>obtain⟨t,rfl⟩:=r;rfl
def RelV.inj(r:RelV x u)(q:RelV y u):x=y:=Option.some.inj (r.abs.symm.trans q.abs)
theorem Vals.inj:∀{xs ys:List V}{us:List xL},Vals xs us->Vals ys us->xs=ys
 |_,_,_,.nil,.nil=>rfl
 |_,_,_,.cons r t,.cons i d=>by rw[r.inj i,Vals.inj t d]
section
variable{X:Cx}{vS:List (xA×Obj)}{σ:St}{H:Hp}{s:xH}{a:xA}{xs ys:List V}
def NH.of{K:za}(h:H a=u4 (.lst xs)):NH K H a xs:=.inl (.inl h)
def RH.of{K:za}(h:H a=u4 (.tup xs)):RH K H a xs:=.inl (.inl h)
def Inv.list(I:Inv X vS σ H s)(h:NH X.K H a xs):∃VA:List xL,Vals xs VA/\PlainL s.heap a VA.toArray/\xs.length<=sizeLine:=by
 rcases h with h|⟨o,VA,n,hk,i,d,j,q,r⟩
 .obtain⟨z,VA,n,r,e⟩:=h.ok I.OB;exact⟨VA,r,⟨_,n,e,rfl,rfl,rfl⟩,z⟩
 refine⟨VA.toList,r,⟨o,n,I.WG a o hk,i,d,by simpa using j⟩,?_⟩;have e:=r.length;simp[qC]at e;lia
def Inv.tuple(I:Inv X vS σ H s)(h:RH X.K H a xs):∃VA:List xL,Vals xs VA/\IsTup s.heap a VA.toArray/\xs.length<=sizeLine:=by
 rcases h with h|⟨o,VA,n,hk,d,i,j,r⟩
 .obtain⟨z,VA,r,p⟩:=h.ok I.OB;exact⟨VA,r,p,z⟩
 refine⟨VA.toList,r,⟨o,I.WG a o hk,d,n,by simpa using i⟩,?_⟩;have e:=r.length;simp[qC]at e;lia
def Inv.X4(I:Inv X vS σ H s)(h:NH X.K H a xs)(h':NH X.K H a ys):xs=ys:=by
 obtain⟨j,r,⟨o,n,e,_,_,d⟩,_⟩:=I.list h;obtain⟨i,B,⟨F,J,q,_,_,y⟩,_⟩:=I.list h';rw[e]at q;cases q;rw[d]at y;injection y with z _
 have:j=i:=by simpa using congrArg Array.toList z
 subst this;exact r.inj B
def Inv.Xe(I:Inv X vS σ H s)(h:RH X.K H a xs)(h':RH X.K H a ys):xs=ys:=by
 obtain⟨j,r,⟨o,e,_,n,d⟩,_⟩:=I.tuple h;obtain⟨i,B,⟨F,q,_,J,y⟩,_⟩:=I.tuple h';rw[e]at q;cases q;rw[d]at y;injection y with z _
 have:j=i:=by simpa using congrArg Array.toList z
 subst this;exact r.inj B
end
noncomputable abbrev Cx.WJ(X:Cx)(E:xL->xH->Prop):Cx:={X with xe:=E}
abbrev Cx.OY(X:Cx):Cx:=X.WJ λ_ _=>False
def Cx.Ok.WJ{X:Cx}(ok:X.Ok)(E:xL->xH->Prop):(X.WJ E).Ok:=
 ⟨ok.mod,ok.kind,ok.glob,ok.blt,ok.above,ok.inj,ok.has,ok.MY,ok.hd,ok.frames,ok.M0,ok.Pf,ok.bs,ok.RT,ok.PN,ok.QN,ok.TH,ok.QV⟩
def Cx.Ok.UH{X:Cx}{E:xL->xH->Prop}(ok:(X.WJ E).Ok):X.Ok:=
 ⟨ok.mod,ok.kind,ok.glob,ok.blt,ok.above,ok.inj,ok.has,ok.MY,ok.hd,ok.frames,ok.M0,ok.Pf,ok.bs,ok.RT,ok.PN,ok.QN,ok.TH,ok.QV⟩
section
variable{X:Cx}{vS:List (xA×Obj)}{σ:St}{H:Hp}{s:xH}{E:xL->xH->Prop}
def Inv.WJ(I:Inv X vS σ H s)(E:xL->xH->Prop):Inv (X.WJ E) vS σ H s:=⟨I.ok.WJ E,I.os,I.bare,I.base,I.loc,I.cell,I.free,I.Gn,I.pin,I.OB,I.len⟩
def Inv.UH(I:Inv (X.WJ E) vS σ H s):Inv X vS σ H s:=⟨I.ok.UH,I.os,I.bare,I.base,I.loc,I.cell,I.free,I.Gn,I.pin,I.OB,I.len⟩
theorem SP.UH(h:SP (X.WJ E) vS D f s'):SP X vS D f s':=by
 cases f with
 |ret u=>obtain⟨v,d,i,I,r,q⟩:=h;exact⟨v,d,i,I.UH,r,q⟩
 |_=>obtain⟨d,i,I,q⟩:=h;exact⟨d,i,I.UH,q⟩
def RN.OY{st:List xI}{t:TS}(h:RN X.OY st t):RN X st t:=λd s i H D I hw=>
 vG (h d s i H D (I.WJ _) hw) (λ_ _ q=>q.UH) λ_ _ z=>False.elim z
end
section
variable{X:Cx}{st:xI}{rest:List xI}{t u:TS}{e:xC}{te:TE}{pos:Pos}
def nJ:TS:=λD σ H=>D.nx σ H
noncomputable def tSeq(t u:TS):TS:=λD σ H=>t {D with nx:=u D} σ H
def nK:RN X [] nJ:=λ_ _ d H _ I h=>wpAny_execs_nil ⟨d,H,I,h⟩
theorem bc(y:PS X st t)(F:RN X rest u):RN X (st::rest) (tSeq t u):=by
 intro d s n H D I h;refine wpAny_execs_cons (QB (y d s n H {D with nx:=u D} I h) λf B q=>?_);cases f with
 |next=>
  obtain⟨i,z,j,q⟩:=q;exact F d B i z D j q
 |_=>exact q
theorem be(j:PS X st t):RN X [st] t:=by
 intro d s i H D I h;refine wpAny_execs_cons (QB (j d s i H D I h) λf n q=>?_);cases f with
 |next=>exact wpAny_execs_nil q
 |_=>exact q
def Inv.quiet{d:St}{H:Hp}(I:Inv X vS d H s):interactive X.env=u7:=by simp[interactive,I.ok.kind]
noncomputable def nL(te:TE):TS:=λD σ H=>te σ H λ_ H1=>D.nx σ H1
def bf(q:PE X e te)(z:swapsWith e u5 pos.line X.env=pure u7:=by rfl):PS X (.Expr e pos) (nL te):=by intro d s i H D I h;exact wpAny_Expr_any (QB (q d s i H _ I h) λv F ⟨x,n,j,B,y⟩=>⟨i,n,j,y⟩) I.quiet z
def tRet(te:TE):TS:=λD σ H=>te σ H D.rt
def nM(q:PE X e te):PS X (.Return (u4 e) pos) (tRet te):=by intro d s i H D I h;exact wpAny_Return_some (QB (q d s i H _ I h) λv B ⟨x,n,j,z,y⟩=>⟨x,i,n,j,z,y⟩)
noncomputable def tIfS(c:TT)(t u:TS):TS:=λD σ H=>c σ H λb H1=>if b=u6 then t D σ H1 else u D σ H1
theorem nN{c:xC}{a b:List xI}{n:TT}(M:PT X c n)(F:RN X a t)(L:RN X b u):PS X (.If c a b pos) (tIfS n t u):=by
 intro i s j H D I h;refine wpAny_If (QB (M i s j H _ I h) λd B J=>?_);obtain⟨y,q,z⟩:=J;cases d with
 |true=>exact F i B j y D q z
 |false=>exact L i B j y D q z
end
abbrev TG:=V->St->Hp->(St->Hp->Prop)->Prop
abbrev PY:=List V->St->Hp->(St->Hp->Prop)->Prop
def PG(X:Cx)(target:xC)(t:TG):Prop:=
 ∀(vS:List (xA×Obj))(s:xH)(σ:St)(H:Hp)(v:V)(u:xL)(Q:St->Hp->Prop),Inv X vS σ H s->RelV v u->t v σ H Q->
  vk (vY X.prog X.w) X.A (assign target X.env u) (λ_=>NP X vS Q) X.xe s
def QY(X:Cx)(ts:List xC)(t:PY):Prop:=
 ∀(vS:List (xA×Obj))(s:xH)(σ:St)(H:Hp)(vs:List V)(us:List xL)(Q:St->Hp->Prop),Inv X vS σ H s->Vals vs us->t vs σ H Q->
  vk (vY X.prog X.w) X.A (assignInOrder ((xN ts X.env).map (·.2)) us) (λ_=>NP X vS Q) X.xe s
abbrev N1:=V->V->V->Hp->(Hp->Prop)->Prop
def Sk(X:Cx)(t:N1):Prop:=
 ∀(vS:List (xA×Obj))(s:xH)(σ:St)(H:Hp)(o i v:V)(ov iv u:xL)(Q:Hp->Prop),Inv X vS σ H s->RelV o ov->RelV i iv->RelV v u->t o i v H Q->
  vk (vY X.prog X.w) X.A (setItem ov iv u) (λ_ s'=>∃H',Inv X vS σ H' s'/\Q H') X.xe s
abbrev B?:=V->V->Hp->VK->Prop
def PIp(X:Cx)(op:Operator)(t:B?):Prop:=
 ∀(vS:List (xA×Obj))(s:xH)(σ:St)(H:Hp)(x y:V)(v u:xL)(Q:VK),Inv X vS σ H s->RelV x v->RelV y u->t x y H Q->
  vk (vY X.prog X.w) X.A (inplaceOp op v u) (EP X vS σ Q) X.xe s
section
variable{X:Cx}{pos:Pos}
noncomputable def bh(i:Nat):TG:=λv σ H Q=>Q (σ.set i (u4 v)) H
def nO(y:X.N.Nodup)(hi:X.N[i]?=u4 x)(q:Loc X.env.scope x)(j:X.fn x=u6\/X.env.scope.names.lookup x=u4 .local:=by first|exact .inl rfl|exact .inr rfl|assumption):PG X (.Name x pos) (bh i):=by intro d s B H v u Q I r h;exact wpAny_assign_Name (Ss I y hi q r (λz n=>⟨_,H,n,h⟩) j)
def gNil:PY:=λvs σ H Q=>vs=[]/\Q σ H
noncomputable def nP(t:TG)(u:PY):PY:=λvs σ H Q=>∃v r,vs=v::r/\t v σ H λσ' H'=>u r σ' H' Q
def nQ:QY X [] gNil:=by intro d s i H j n Q I r h;obtain⟨e,h⟩:=h;subst e;cases r;exact assignInOrder_nil ⟨i,H,I,h⟩
theorem nR{e:xC}{es:List xC}{t:TG}{u:PY}(F:PG X e t)(M:QY X es u)
  (y:(xN (e::es) X.env).map (·.2)=assign e X.env::(xN es X.env).map (·.2):=by rfl):QY X (e::es) (nP t u):=by
 intro d s B H N O Q I r h;obtain⟨v,S,L,h⟩:=h;subst L;cases r with
 |cons r j=>
  rw[y];exact assignInOrder_cons (QB (F d s B H _ _ _ I r h) λ_ J ⟨i,q,n,z⟩=>(M d J i q _ _ Q n j z))
noncomputable def gTup(K:za)(n:Nat)(t:PY):TG:=λv σ H Q=>∃a xs,v=.ref a/\RH K H a xs/\xs.length=n/\t xs σ H Q
def nS{es:List xC}{k:Nat}{t:PY}{n:Nat}(L:X.calm=u6)(h:QY X es t)
  (j:(xN es X.env).length=n:=by rfl) (i:(xN es X.env).findIdx? (·.1)=u5:=by rfl):PG X (.Tuple es k pos) (gTup X.K n t):=by
 intro d s B H v u Q I r hw;obtain⟨a,M,F,y,z,hw⟩:=hw;subst F;cases r;obtain⟨J,rv,N,S⟩:=I.tuple y;exact assign_Tuple_tuple (I.ok.hd L) N (by simp[j,<-z,rv.length]) i λO q=>(h d _ B H M _ Q (I.kept (t':=s.toks) λb o e=>q b o (z9 (zx e)) e) (by simpa using rv) hw)
noncomputable def gSub(to ti:TE)(t:N1):TG:=λv σ H Q=>to σ H λo H1=>ti σ H1 λi H2=>t o i v H2 λH3=>Q σ H3
def nT{o i:xC}{q ti:TE}{t:N1}(ho:PE X o q)(hi:PE X i ti)(O:Sk X t)
  (z:∀v,assign (.Subscript o i pos) X.env v=(do
   let ov<-holding [v] (eval o X.env);let iv<-holding [v,ov] (eval i X.env)
   standAt pos
   holding [v,ov,iv] (setItem ov iv v)
   release [v,ov,iv] []):=by intro _;rfl):PG X (.Subscript o i pos) (gSub q ti t):=by
 intro d s j H v u Q I r h;rw[z];refine vB (vF (QB (ho d s j H _ I h) λov W n=>?_));obtain⟨x,J,Z,B,M⟩:=n;refine vB (vF (QB (hi d W j J _ Z M) λiv F n=>?_));obtain⟨y,L,Y,r2,q2⟩:=n;exact vB (wpAny_standAt (vB (vF (QB (O d F j L x y v ov iv u _ Y B r2 r q2) λ_ s3 ⟨S,N,U⟩=>(wpAny_release ⟨j,S,N,U⟩)))))
noncomputable def X3(te:TE)(g:TG):TS:=λD σ H=>te σ H λx H1=>g x σ H1 D.nx
def nU{e:xC}{g:TG}(B:PE X e te)(j:PG X tg g)(N:swapsWithSole [tg] e pos.line X.env=pure u7:=by rfl)(hw:swappedStores [tg] e X.env=pure u5:=by rfl)
  (J:(xN [tg] X.env).map (·.2)=[assign tg X.env]:=by rfl):PS X (.Assign [tg] e pos) (X3 te g):=by
 intro d s i H D I h;refine wpAny_Assign_stores (QB (B d s i H _ I h) λv M n=>?_) N hw;obtain⟨x,z,y,L,F⟩:=n;rw[J];exact QB (j d M i z x v _ y L F) λ_ O q=>q
def nV{i:Nat}{x:Str}{e:xC}{d:Pos}(M:X.N.Nodup)(hi:X.N[i]?=u4 x)(F:Loc X.env.scope x)(B:PE X e te)(S:swapsWith e (u4 (.Name x d)) pos.line X.env=pure u7:=by rfl)(z:X.fn x=u6\/X.env.scope.names.lookup x=u4 .local:=by first|exact .inl rfl|exact .inr rfl|assumption):
  PS X (.Assign [.Name x d] e pos) (X3 te (bh i)):=by
 intro j s L H D I h;exact wpAny_Assign_Name (QB (B j s L H _ I h) λv W ⟨y,q,n,O,J⟩=>(Ss n M hi F O (λY U=>⟨_,q,U,J⟩) z)) S
noncomputable def tAug(i:Nat)(te:TE)(ti:B?):TS:=λD σ H=>∃x,σ[i]?=u4 (u4 x)/\te σ H λy H1=>ti x y H1 λz H2=>D.nx (σ.set i (u4 z)) H2
def nW{i:Nat}{x:Str}{e:xC}{op:Operator}{ti:B?}{n:Pos}(hN:X.N.Nodup)(hi:X.N[i]?=u4 x)(J:Loc X.env.scope x)(he:PE X e te)(ho:PIp X op ti)(hf:X.fn x=u6\/X.env.scope.names.lookup x=u4 .local:=by first|exact .inl rfl|exact .inr rfl|assumption):
  PS X (.AugAssign (.Name x n) op e pos) (tAug i te ti):=by
 intro d s L H D I h;obtain⟨v,U,h⟩:=h;obtain⟨m,hn,hl⟩:=I.loc;have F:XW X.env.scope x:=by rcases J with k|k;exact .inl k;exact .inr (.inl k)
 obtain⟨u,r,l⟩:=hl i x v hi U F;refine wpAny_AugAssign_Name ?_
 have M:vk (vY X.prog X.w) X.A (eval e X.env) (λw B=>vk (vY X.prog X.w) X.A (inplaceOp op u w) (λr q=>vk (vY X.prog X.w) X.A (storeName X.env x r) (λ_=>SP X d D .next) X.xe q) X.xe B) X.xe s:=by
  refine QB (he d s L H _ I h) λw s1 zz=>?_
  obtain⟨y,W,I1,O,Z⟩:=zz;exact QB (ho d s1 L W v y u w _ I1 r O Z) λz s2 ⟨zv,Y,I2,r2,q2⟩=>(Ss I2 hN hi J r2 (λs3 I3=>⟨_,Y,I3,q2⟩) hf)
 rcases l with⟨hk,hm⟩|⟨hk,c,S,j⟩
 .exact wpAny_loadName_local I.ok.kind hk hn hm M
 rcases hk with hk|hk
 .exact wpAny_loadName_cell I.ok.kind hk S j M
 .rcases J with k|k
  .have:X.env.scope.names.lookup x=u4 .free:=hk;rw[k]at this;cases this
  .have:X.env.scope.names.lookup x=u4 .free:=hk;rw[k]at this;cases this
noncomputable def ipI(f:Int->Int->Int):B?:=λx y H Q=>∃i j,x=.int i/\y=.int j/\Q (.int (f i j)) H
def nX:PIp X .Add (ipI λi j=>i+j):=by intro d s J H x y v u Q I B z h;obtain⟨i,j,F,n,q⟩:=h;subst F;subst n;obtain⟨t,rfl⟩:=B;obtain⟨L,rfl⟩:=z;exact iadd_int ⟨.int _,H,I.tok _,⟨_,rfl⟩,q⟩
def nY:PIp X .Sub (ipI λi j=>i-j):=by intro d s J H x y v u Q I B z h;obtain⟨i,j,F,n,q⟩:=h;subst F;subst n;obtain⟨t,rfl⟩:=B;obtain⟨L,rfl⟩:=z;exact isub_int ⟨.int _,H,I.tok _,⟨_,rfl⟩,q⟩
end
section
variable{X:Cx}{pos:Pos}
noncomputable def nZ(c:TT)(tb:TS):TS:=λD σ H=>∃W:Nat->St->Hp->Prop,(∃m,W m σ H)/\∀m σ H,W m σ H->
 c σ H λb H1=>if b=u6 then∃N:St->Hp->Prop,(∀σ' H',N σ' H'->∃m',m'<m/\W m' σ' H')/\tb {D with nx:=N,ct:=N,bk:=D.nx} σ H1 else D.nx σ H1
theorem n5{c:xC}{body:List xI}{tc:TT}{tb:TS}(hp:PassesOwn (vY X.prog X.w) X.A X.env X.xe)(hc:PT X c tc)(hb:RN X body tb):PS X (.While c body [] pos) (nZ tc tb):=by
 intro vS s σ H D I h;obtain⟨W,⟨m0,w0⟩,turn⟩:=h;refine wpAny_While (codeAny_whileLoop (λn s'=>∃σ' H',Inv X vS σ' H' s'/\W n σ' H') ?_ m0 ⟨σ,H,I,w0⟩);rintro n s1 ⟨σ1,H1,I1,w1⟩;refine vI hp (QB (hc vS s1 σ1 H1 _ I1 (turn n σ1 H1 w1)) λb s2 zz=>?_);obtain⟨H2,I2,q2⟩:=zz;cases b with
 | true=>
  obtain⟨N,hN,q2⟩:=q2;rw[if_pos rfl];refine vI hp (QB (hb vS s2 σ1 H2 _ I2 q2) λf s3 q3=>?_);cases f with
  |next|cont=>
   obtain⟨σ3,H3,I3,n3⟩:=q3;obtain⟨m',hm,w3⟩:=hN σ3 H3 n3;exact⟨m',hm,σ3,H3,I3,w3⟩
  |_=>exact q3
 |false=>
  rw[if_neg z5];exact wpAny_execs_nil ⟨σ1,H2,I2,q2⟩
end
structure It where
 go:Nat->Hp->Prop
 Nl:Nat->Hp->V->Hp->Prop
 stop:Nat->Hp->Prop
def VI(X:Cx)(vS:List (xA×Obj))(H:Hp)(b:xA):Prop:=
 H b=u5/\b≠X.env.locals/\b∉X.fs/\(b∈X.ex\/X.s₀.heap.objs.size<=b)/\(∀x c,X.env.cells.lookup x=u4 c->c≠b)/\∀p∈X.pn++vS,p.1≠b
def Inv.Hz{X:Cx}{j:St}{H H':Hp}{b:xA}(I:Inv X vS j H s)(d:s.heap.objs.size<=b)(i:H' b=u5):VI X vS H' b:=by
 refine⟨i,jx (zj I.lt d),I.Sf d,.inr (z8 I.sz d),λx c e z=>?_,λp hp z=>(absurd (zj (zx (I.pin p hp).1) (by rw[z];exact d)) (qX _))⟩
 .obtain⟨v,q⟩:=I.cell x c e;exact absurd (zj q.lt (z▸d)) (qX _)
structure Turn (P:xF) (w:xM) (K:za) (tg:xC) (J:It) (fp:List xA) (it:xA) (tn:Nat->Heap->Prop):Prop where
 mem:it∈fp
 obj:∀i h,tn i h->∀b∈fp,∃o,h.get? b=u4 o/\∀v,o.data≠ .cell v
 keep:∀i h h',tn i h->(∀b∈fp,∀o,h.get? b=u4 o->h'.get? b=u4 o)->tn i h'
 item:∀(X:Cx),X.prog=P->X.w=w->X.K=K->X.calm=u6->∀(i:Nat)(vS:List (xA×Obj))(s:xH)(σ:St)(H:Hp)(E:xL->xH->Prop),Inv X vS σ H s->(∀b∈fp,VI X vS H b)->tn i s.heap->J.go i H->
  vk (vY P w) X.A (pyNext (.ref it)) (λr s1=>∃u,r=u4 u/\
   vk (vY P w) X.A (vW tg (.ref it) u) (λ_ s2=>∃x H',Inv X vS σ H' s2/\RelV x u/\J.Nl i H x H'/\tn (i+1) s2.heap/\∀b∈fp,H' b=u5) E s1) E s
 done:∀(X:Cx),X.prog=P->X.w=w->X.K=K->X.calm=u6->∀(i:Nat)(vS:List (xA×Obj))(s:xH)(σ:St)(H:Hp)(E:xL->xH->Prop),Inv X vS σ H s->(∀b∈fp,VI X vS H b)->tn i s.heap->J.stop i H->
  vk (vY P w) X.A (pyNext (.ref it)) (λr s1=>r=u5/\Inv X vS σ H s1) E s
 self:∀(A:xB)(i:Nat)(s:xH)(Q:xL->xH->Prop)(E:xL->xH->Prop),tn i s.heap->Q (.ref it) s->vk (vY P w) A (pyIter (.ref it)) Q E s
abbrev TI:=St->Hp->(It->Hp->Prop)->Prop
def PIE(X:Cx)(vS:List (xA×Obj))(σ:St)(tg:xC)(R:It->Hp->Prop)(itv:xL)(s2:xH):Prop:=
 ∃(it:xA)(fp:List xA)(tn:Nat->Heap->Prop)(J:It)(H':Hp),itv=.ref it/\Inv X vS σ H' s2/\Turn X.prog X.w X.K tg J fp it tn/\tn 0 s2.heap/\(∀b∈fp,VI X vS H' b)/\R J H'
def PI(X:Cx)(tg iter:xC)(wi:TI):Prop:=
 ∀(vS:List (xA×Obj))(s:xH)(σ:St)(H:Hp)(R:It->Hp->Prop),Inv X vS σ H s->wi σ H R->
  vk (vY X.prog X.w) X.A (eval iter X.env) (λv s1=>vk (vY X.prog X.w) X.A (pyIter v) (PIE X vS σ tg R) X.xe s1) X.xe s
def O6(ho:s.heap.get? it=u4 o)(hc:o.cls=.type n)(hd:o.data=.fields vs)
  (hn: ["enumerate","zip","dict_itemiterator","dict_reverseitemiterator","odict_iterator","itertools.zip_longest","itertools.pairwise"].contains n=u7) (hQ:Q () s):vk M A (vW tg (.ref it) u) Q E s:=by
 unfold vW
 cases tg<;>first
  |exact vL hQ
  | (cases u<;>first
    |exact vL hQ
    | (
      refine vB (wpAny_load ho ?_);rw[hc,hd];show vk M A (if(["enumerate","zip","dict_itemiterator","dict_reverseitemiterator","odict_iterator","itertools.zip_longest","itertools.pairwise"].contains n&&vs[0]?==u4 (vq _))=u6 then _ else _) Q E s;rw[if_neg (by intro h;rw[hn,Bool.false_and]at h;cases h)];exact vL hQ))
noncomputable def Itl(K:za)(a:xA):It:=
 ⟨λi H=>∃xs x,NH K H a xs/\xs[i]?=u4 x,λi H x H'=>H'=H/\∀xs,NH K H a xs->xs[i]?=u4 x,λi H=>∃xs,NH K H a xs/\xs.length<=i⟩
noncomputable def Itt(K:za)(a:xA):It:=
 ⟨λi H=>∃xs x,RH K H a xs/\xs[i]?=u4 x,λi H x H'=>H'=H/\∀xs,RH K H a xs->xs[i]?=u4 x,λi H=>∃xs,RH K H a xs/\xs.length<=i⟩
noncomputable def C?(lo:Int)(n:Nat):It:=⟨λi _=>i<n,λi H x H'=>H'=H/\x=.int (lo+i),λi _=>n<=i⟩
def n6{w:xM}{K:za}(a it:xA):Turn P w K tg (Itl K a) [it] it (λi h=>h.IsListIter it a i) where
 mem:=by simp
 obj:=λi h j b n=>by
  have e:b=it:=by simpa using n
  subst e;obtain⟨o,e,c,d⟩:=j;exact⟨o,e,λv z=>by rw[d]at z;cases z⟩
 keep:=λi h h' j k=>j.at λo e=>k it (by simp) o e
 item:=by
  intro X U hw J hc i q s σ H E I F j N;subst U hw J;obtain⟨xs,x,B,Y⟩:=N;obtain⟨Z,rv,p,hz⟩:=I.list B;obtain⟨u,hu,ru⟩:=rv.get Y;obtain⟨f0,L,f2,S,O,M⟩:=F it (by simp);refine wpAny_pyNext_list_item j p.isList (by simpa using hu) λh' y sb=>?_
  obtain⟨o,e,c,d⟩:=id y;exact⟨u,rfl,O6 e c d (by decide) ⟨x,H,I.turned (t':=s.toks) (λb o n e=>(sb.2 b n).trans e) f0 L S O M,ru,⟨rfl,λys hy=>(I.X4 hy B)▸Y⟩,y,λb n=>(F b n).1⟩⟩
 done:=by intro X U hw J hc i q s σ H E I F j N;subst U hw J;obtain⟨xs,B,Y⟩:=N;obtain⟨Z,rv,p,hz⟩:=I.list B;obtain⟨f0,L,f2,S,O,M⟩:=F it (by simp);have hl:=rv.length;exact wpAny_pyNext_list_end (I.ok.hd hc) j p.isList (by simp;lia) λh' eb=>⟨rfl,I.turned (λb o n e=>eb b o n e) f0 L S O M⟩
 self:=λ_ _ _ _ _ j h=>wpAny_pyIter_listiter j h
def n8{w:xM}{K:za}(a it:xA):Turn P w K tg (Itt K a) [it] it (λi h=>h.IsTupleIter it a i) where
 mem:=by simp
 obj:=λi h j b n=>by
  have e:b=it:=by simpa using n
  subst e;obtain⟨o,e,c,d⟩:=j;exact⟨o,e,λv z=>by rw[d]at z;cases z⟩
 keep:=λi h h' j k=>j.at λo e=>k it (by simp) o e
 item:=by
  intro X U hw J hc i q s σ H E I F j N;subst U hw J;obtain⟨xs,x,B,Y⟩:=N;obtain⟨Z,rv,p,hz⟩:=I.tuple B;obtain⟨u,hu,ru⟩:=rv.get Y;obtain⟨f0,L,f2,S,O,M⟩:=F it (by simp);refine wpAny_pyNext_tuple_item j (p) (by simpa using hu) λh' y sb=>?_
  obtain⟨o,e,c,d⟩:=id y;exact⟨u,rfl,O6 e c d (by decide) ⟨x,H,I.turned (t':=s.toks) (λb o n e=>(sb.2 b n).trans e) f0 L S O M,ru,⟨rfl,λys hy=>(I.Xe hy B)▸Y⟩,y,λb n=>(F b n).1⟩⟩
 done:=by intro X U hw J hc i q s σ H E I F j N;subst U hw J;obtain⟨xs,B,Y⟩:=N;obtain⟨Z,rv,p,hz⟩:=I.tuple B;obtain⟨f0,L,f2,S,O,M⟩:=F it (by simp);have hl:=rv.length;exact wpAny_pyNext_tuple_end (I.ok.hd hc) j (p) (by simp;lia) λh' eb=>⟨rfl,I.turned (λb o n e=>eb b o n e) f0 L S O M⟩
 self:=λ_ _ _ _ _ j h=>wpAny_pyIter_tupleiter j h
def n9{w:xM}{K:za}(it:xA)(lo:Int)(n:Nat):Turn P w K tg (C? lo n) [it] it (λi h=>IsRangeIter h it (lo+(i:Nat)*1) ((n:Int)-(i:Nat)) 1) where
 mem:=by simp
 obj:=λi h d b j=>by
  have e:b=it:=by simpa using j
  subst e;exact⟨_,d,λv z=>by have z':=z;cases z'⟩
 keep:=λi h Z d k=>k it (by simp) _ d
 item:=by
  intro X Y hw F M i q s σ H E I B d N;subst Y hw F;obtain⟨S,J,f2,U,O,L⟩:=B it (by simp);refine(Walks.range (prog:=X.prog) (w:=X.w) (I.ok.hd M) it lo 1 n).item i s _ _ N d λv Z tk hv y kk=>?_
  obtain⟨t,rfl⟩:=hv;refine⟨_,rfl,O6 y rfl rfl (by decide) ⟨.int (lo+i),H,I.turned (λb o j e=>kk b o (by simpa using j) e) S J U O L,⟨t,?_⟩,⟨rfl,rfl⟩,y,λb j=>(B b j).1⟩⟩;rw[Int.mul_one]
 done:=by intro X Y hw F M i q s σ H E I B d N;subst Y hw F;obtain⟨S,J,f2,U,O,L⟩:=B it (by simp);exact wpAny_pyNext_range_end (I.ok.hd M) d (by have:n<=i:=N;lia) λZ eb=>⟨rfl,I.turned (λb o j e=>eb b o j e) S J U O L⟩
 self:=λ_ _ _ _ _ d h=>wpAny_pyIter_rangeiter d h
section
variable{X:Cx}{tg:xC}
def nc(K:za)(tl:TE):TI:=λσ H R=>tl σ H λx H1=>∃a,x=.ref a/\(∃xs,NH K H1 a xs)/\R (Itl K a) H1
def iTup(K:za)(tl:TE):TI:=λσ H R=>tl σ H λx H1=>∃a,x=.ref a/\(∃xs,RH K H1 a xs)/\R (Itt K a) H1
def Yo{l:xC}{n:TE}(L:PE X l n):PI X tg l (nc X.K n):=by
 intro d s M H R I h;refine QB (L d s M H _ I h) λv j y=>?_
 obtain⟨x,z,i,O,F⟩:=y;obtain⟨a,e,⟨U,J⟩,q⟩:=F;subst e;cases O;obtain⟨N,rv,p,S⟩:=i.list J;refine wpAny_pyIter_list p.isList ?_;refine⟨j.heap.objs.size,[j.heap.objs.size],_,_,z,rfl,i.kept λb o e=>zZ _ e,n6 a _,⟨_,z6 _ rfl,rfl,rfl⟩,λb B=>?_,q⟩;have e:b=j.heap.objs.size:=by simpa using B
 subst e;exact i.Hz (zY _) (i.OB.fresh (zY _))
def ng{l:xC}{n:TE}(L:PE X l n):PI X tg l (iTup X.K n):=by
 intro d s M H R I h;refine QB (L d s M H _ I h) λv j y=>?_
 obtain⟨x,z,i,O,F⟩:=y;obtain⟨a,e,⟨U,J⟩,q⟩:=F;subst e;cases O;obtain⟨N,rv,p,S⟩:=i.tuple J;refine wpAny_pyIter_tuple (p) ?_;refine⟨j.heap.objs.size,[j.heap.objs.size],_,_,z,rfl,i.kept λb o e=>zZ _ e,n8 a _,⟨_,z6 _ rfl,rfl,rfl⟩,λb B=>?_,q⟩;have e:b=j.heap.objs.size:=by simpa using B
 subst e;exact i.Hz (zY _) (i.OB.fresh (zY _))
def nh{z:St}{H:Hp}{R:It->Hp->Prop}{E:xL->xH->Prop}{lo hi:Int}{t u v:Tok}{tk:Nat}(I:Inv X vS z H s)(L: -(2^62)<=lo)(O:lo<2^62)(M: -(2^62)<=hi)(J:hi<2^62)
  (q:R (C? lo (hi-lo).toNat) H):vk (vY X.prog X.w) X.A (pyIter (.ref s.heap.objs.size)) (PIE X vS z tg R) E {s with heap:=s.heap.push {cls:=.type "range",data:=.fields #[.int lo t,.int hi u,.int 1 v]},toks:=tk}:=by
 refine wpAny_pyIter_range (IsRange.new ..) (small_one L O M J) ?_;have y:Inv X vS z H {s with heap:=s.heap.push {cls:=.type "range",data:=.fields #[.int lo t,.int hi u,.int 1 v]},toks:=tk}:=I.kept λb o e=>zZ _ e
 refine⟨(s.heap.push {cls:=.type "range",data:=.fields #[.int lo t,.int hi u,.int 1 v]}).objs.size,[(s.heap.push {cls:=.type "range",data:=.fields #[.int lo t,.int hi u,.int 1 v]}).objs.size],_,_,H,rfl,
  y.kept λb o e=>zZ _ e,n9 _ lo (hi-lo).toNat,?_,λb F=>?_,q⟩
 .have N:lo+((0:Nat):Int)*1=lo:=by simp
  have B:(((hi-lo).toNat:Nat):Int)-((0:Nat):Int)=Builtin.Range.rangeSize lo hi 1:=by rw[rangeSize_one];split <;> lia
  rw[N,B];exact z6 _ rfl
 have e:b=(s.heap.push {cls:=.type "range",data:=.fields #[.int lo t,.int hi u,.int 1 v]}).objs.size:=by simpa using F
 subst e;exact y.Hz (zY _) (y.OB.fresh (zY _))
def nj(ta:TA):TI:=λσ H R=>ta σ H λvs H1=>∃j:Int,vs=[.int j]/\ -(2^62)<=j/\j<2^62/\R (C? 0 j.toNat) H1
theorem nk{a:xC}{ta:TA}{p pos:Pos}(n:Gl X "range")(L:X.mg "range"=u5)(z:PA X [a] ta)(O:vx [a] X.env=[(u7,eval a X.env)]:=by rfl):PI X tg (.Call (.Name "range" p) [a] [] pos) (nj ta):=by
 intro d s M H R I h;refine Call_ (Hn I n L boot_range (zg (QB (z pos d s M H _ I h) λW Y B=>?_) O rfl));obtain⟨S,U,F,N,i⟩:=B;obtain⟨j,e,i,J,q⟩:=i;subst e;cases N with
 |cons r y=>
  cases y;obtain⟨t,rfl⟩:=r;exact call_range_1 (nh F (by lia) (by lia) i J (by simpa using q))
noncomputable def Rl(wi:TI)(g:TG)(tb:TS):TS:=λD σ H=>wi σ H λJ H1=>∃W:Nat->Nat->St->Hp->Prop,(∃m,W 0 m σ H1)/\∀i m σ H,W i m σ H->
 (J.stop i H/\D.nx σ H)\/(J.go i H/\∃N:St->Hp->Prop,(∀σ' H',N σ' H'->∃m',m'<m/\W (i+1) m' σ' H')/\∀x H',J.Nl i H x H'->g x σ H' λσ2 H2=>tb {D with nx:=N,ct:=N,bk:=D.nx} σ2 H2)
noncomputable def Nh(fp:List xA)(h:Heap):List (xA×Obj):=fp.filterMap λb=>(h.get? b).map λo=>(b,o)
def Tt(d:b∈fp)(e:h.get? b=u4 o):(b,o)∈Nh fp h:=jS.mpr ⟨b,d,by rw[e];rfl⟩
theorem bi(hp:p∈Nh fp h):p.1∈fp/\h.get? p.1=u4 p.2:=by
 obtain⟨b,d,e⟩:=jS.mp hp;cases q:h.get? b with
 |none=>rw[q]at e;cases e
 |some o=>
  rw[q]at e;have i:=Option.some.inj e;subst i;exact⟨d,q⟩
def Inv.pinned{n:St}{H:Hp}{fp:List xA}(I:Inv X vS n H s)(y:∀b∈fp,VI X vS H b)(ho:∀b∈fp,∃o,s.heap.get? b=u4 o/\∀v,o.data≠ .cell v):Inv X (vS++Nh fp s.heap) n H s:=
 I.Jj λp hp=>(jP.mp hp).elim (λz=>I.pin p (zE _ z)) λz=>by obtain⟨j,e⟩:=bi z;obtain⟨F,B,q,_⟩:=y p.1 j;obtain⟨o,i,d⟩:=ho p.1 j;rw[e]at i;cases i;exact⟨e,F,B,q,d⟩
def Inv.XJ{pl:List (xA×Obj)}{d:St}{H:Hp}(I:Inv X (vS++pl) d H s):Inv X vS d H s:=I.Jj λp hp=>I.pin p (zE _ (j9 _ hp))
theorem nq(hp:PassesOwn (vY X.prog X.w) X.A X.env X.xe)(hc:X.calm=u6)(hi:PI X tg iter wi)(hg:PG X tg g)(y:RN X body tb)
  (hs:∀x,foldedSetIterable iter X.env x=pure x:=by intro _;rfl):PS X (.For tg iter body [] pos) (Rl wi g tb):=by
 intro j s σ H D I h;refine wpAny_For (QB (hi j s σ H _ I h) λv s1 h1=>QB h1 λitv s2 h2=>?_) hs;obtain⟨it,Z,tn,J,H2,e,I2,T,st2,f2,W,⟨m0,w0⟩,turn⟩:=h2;subst e;have B:∀{M:Hp},(∀b∈Z,M b=u5)->∀b∈Z,VI X j M b:=λhn b y=>⟨hn b y,(f2 b y).2⟩
 refine codeAny_forLoop_any (λn s'=>∃i z M,Inv X j z M s'/\tn i s'.heap/\(∀b∈Z,M b=u5)/\W i n z M) ?_ m0 ⟨0,σ,H2,I2,st2,λb y=>(f2 b y).1,w0⟩;rintro n s3 ⟨i,F,H3,I3,st3,fr3,w3⟩;rcases turn i n F H3 w3 with⟨stop,qn⟩|⟨go,N,hN,step⟩
 .refine vI hp (QB (T.done X rfl rfl rfl hc i j s3 F H3 X.xe I3 (B fr3) st3 stop) λr s4 ⟨hr,I4⟩=>?_);subst hr;exact wpAny_execs_nil ⟨F,H3,I4,qn⟩
 refine vI hp (QB (T.item X rfl rfl rfl hc i j s3 F H3 X.xe I3 (B fr3) st3 go) λr s4 zz=>?_);obtain⟨u,hr,h4⟩:=zz;subst hr;refine vI hp (QB h4 λ_ s5 zz=>?_);obtain⟨x,H5,I5,r5,y5,U,fr5⟩:=zz;refine vI hp (QB (hg _ s5 F H5 x u _ (I5.pinned (B fr5) (T.obj _ _ U)) r5 (step x H5 y5)) λ_ s6 ⟨σ6,H6,I6,q6⟩=>?_);refine vI hp (QB (y _ s6 σ6 H6 _ I6 q6) λf s7 S=>?_)
 have Y:∀{q:St}{L:Hp},Inv X (j++Nh Z s5.heap) q L s7->N q L->∃m,m<n/\∃i z M,Inv X j z M s7/\tn i s7.heap/\(∀b∈Z,M b=u5)/\W i m z M:=λ{q L}O n7=>by obtain⟨m',hm,w7⟩:=hN q L n7;refine⟨m',hm,i+1,q,L,O.XJ,T.keep _ _ _ U λb y o e=>(O.pin (b,o) (zE _ (zE _ (Tt y e)))).1,λb y=>?_,w7⟩;obtain⟨o,e,d⟩:=T.obj _ _ U b y;exact(O.pin (b,o) (zE _ (zE _ (Tt y e)))).2.1
 cases f with
 |brk=>obtain⟨q,L,O,S⟩:=S;exact⟨q,L,O.XJ,S⟩
 |ret v=>obtain⟨x7,q,L,O,r7,S⟩:=S;exact⟨x7,q,L,O.XJ,r7,S⟩
 |_=>obtain⟨q,L,O,n7⟩:=S;exact Y O n7
end
abbrev R2:=V->V->Hp->VK->Prop
def WC(X:Cx)(f:xL->xL->Sem xL)(r:R2):Prop:=
 ∀(vS:List (xA×Obj))(s:xH)(σ:St)(H:Hp)(x y:V)(v u:xL)(Q:VK),Inv X vS σ H s->RelV x v->RelV y u->r x y H Q->
  vk (vY X.prog X.w) X.A (f v u) (EP X vS σ Q) X.xe s
def Sa(X:Cx)(f:xL->Sem xL)(r:V->Hp->VK->Prop):Prop:=
 ∀(vS:List (xA×Obj))(s:xH)(σ:St)(H:Hp)(x:V)(v:xL)(Q:VK),Inv X vS σ H s->RelV x v->r x H Q->
  vk (vY X.prog X.w) X.A (f v) (EP X vS σ Q) X.xe s
def WB(X:Cx)(f:xL)(r:List V->Hp->VK->Prop):Prop:=
 ∀(vS:List (xA×Obj))(s:xH)(σ:St)(H:Hp)(xs:List V)(us:List xL)(Q:VK),Inv X vS σ H s->Vals xs us->r xs H Q->
  vk (vY X.prog X.w) X.A (call f us) (EP X vS σ Q) X.xe s
noncomputable def Ta(r:R2)(ta tb:TE):TE:=λσ H Q=>ta σ H λx H1=>tb σ H1 λy H2=>r x y H2 Q
noncomputable def tUn(r:V->Hp->VK->Prop)(ta:TE):TE:=λσ H Q=>ta σ H λx H1=>r x H1 Q
noncomputable def rI(C:Int->Int->Prop)(g:Int->Int->V):R2:=λx y H Q=>∃i j,x=.int i/\y=.int j/\C i j/\Q (g i j) H
noncomputable def RY(g:Int->Int->V):R2:=λx y H Q=>∃i j,x=.int i/\y=.int j/\Q (g i j) H
def rU(g:Int->V):V->Hp->VK->Prop:=λx H Q=>∃i,x=.int i/\Q (g i) H
section
variable{X:Cx}{a b c:xC}{ta tb tc:TE}{pos:Pos}
def aD(z:PE X a ta)(L:PE X b tb){i:St}{H:Hp}{R:V->V->Hp->Prop}(I:Inv X vS i H s)
  (h:ta i H λx q=>tb i q λy d=>R x y d) {Q:xL->xH->Prop} {f:xL->xL->Sem xL}
  (F:∀v u s2 x y d,Inv X vS i d s2->RelV x v->RelV y u->R x y d->vk (vY X.prog X.w) X.A (f v u) Q X.xe s2):
  vk (vY X.prog X.w) X.A (eval a X.env) (λv j=>vk (vY X.prog X.w) X.A (eval b X.env) (λu n=>vk (vY X.prog X.w) X.A (f v u) Q X.xe n) X.xe j) X.xe s:=by
 refine QB (z vS s i H _ I h) λv S ⟨x,q,B,O,M⟩=>?_
 exact QB (L vS S i q _ B M) λu s2 ⟨y,d,U,N,J⟩=>(F v u s2 x y d U O N J)
def nv{op:Operator}{r:R2}(ho:WC X (xT op) r)(i:PE X a ta)(n:PE X b tb):PE X (.BinOp a op b pos) (Ta r ta tb):=by intro d s z H Q I h;exact wpAny_BinOp (aD i n I h λv u F x y j L J B q=>ho d F z j x y v u Q L J B q)
def nw(ho:Sa X (unaryOp op) r)(j:PE X a ta):PE X (.UnaryOp op a pos) (tUn r ta):=by intro d s i H Q I h;exact UnaryOp_ (QB (j d s i H _ I h) λv B ⟨x,q,n,z,y⟩=>ho d B i q x v Q n z y)
def D?{f:xL->xL->Sem xL}{C:Int->Int->Prop}{g:Int->Int->Int}
  (n:∀(i j:Int)(t u:Tok)(s:xH)(Q:xL->xH->Prop)(E:xL->xH->Prop),C i j->Q (.int (g i j) s.toks) {s with toks:=s.toks+1}->vk (vY X.prog X.w) X.A (f (.int i t) (.int j u)) Q E s):
  WC X f (rI C λi j=>.int (g i j)):=by
 intro z s M H x y v u Q I L B h;obtain⟨i,j,rfl,rfl,J,q⟩:=h;obtain⟨t,rfl⟩:=L;obtain⟨F,rfl⟩:=B;exact n i j t F s _ _ J ⟨.int (g i j),H,I.tok _,⟨_,rfl⟩,q⟩
def Sl{f:xL->xL->Sem xL}{g:Int->Int->Int}
  (n:∀(i j:Int)(t u:Tok)(s:xH)(Q:xL->xH->Prop)(E:xL->xH->Prop),Q (.int (g i j) s.toks) {s with toks:=s.toks+1}->vk (vY X.prog X.w) X.A (f (.int i t) (.int j u)) Q E s):
  WC X f (RY λi j=>.int (g i j)):=by
 intro z s L H x y v u Q I J B h;obtain⟨i,j,rfl,rfl,q⟩:=h;obtain⟨t,rfl⟩:=J;obtain⟨F,rfl⟩:=B;exact n i j t F s _ _ ⟨.int (g i j),H,I.tok _,⟨_,rfl⟩,q⟩
def W2{f:xL->xL->Sem xL}{g:Int->Int->Bool}
  (d:∀(i j:Int)(t u:Tok)(s:xH)(Q:xL->xH->Prop)(E:xL->xH->Prop),Q (.bool (g i j)) s->vk (vY X.prog X.w) X.A (f (.int i t) (.int j u)) Q E s):
  WC X f (RY λi j=>.bl (g i j)):=by
 intro n s J H x y v u Q I F z h;obtain⟨i,j,rfl,rfl,q⟩:=h;obtain⟨t,rfl⟩:=F;obtain⟨B,rfl⟩:=z;exact d i j t B s _ _ ⟨.bl (g i j),H,I,rfl,q⟩
def ZW(i j:Int):Prop:=0<=j/\j<=1000000/\i.natAbs<2^64
def UT(i j:Int):Prop:=(-(2^64)<i/\i<2^64)\/(-(2^64)<j/\j<2^64)
def UT.ok(h:UT i j):IntMulOk i j:=by
 rcases h with⟨d,n⟩|⟨d,n⟩
 .exact .of_left (intBits_le_64 d n)
 exact .of_right (intBits_le_64 d n)
def ny:WC X (xT .Add) (RY λi j=>.int (i+j)):=Sl λ_ _ _ _ _ _ _ q=>add_int q
def nz:WC X (xT .Sub) (RY λi j=>.int (i-j)):=Sl λ_ _ _ _ _ _ _ q=>sub_int q
def oB:WC X (xT .Mod) (rI (λ_ j=>0<j) λi j=>.int (i%j)):=D? λi j _ _ _ _ _ d q=>by exact mod_int' (by lia) (by rw[Int.fmod_eq_emod_of_nonneg i (by lia)];exact q)
def oC:WC X (xT .Pow) (rI ZW λi j=>.int (i^j.toNat)):=D? λ_ _ _ _ _ _ _ d q=>pow_int_small d.1 d.2.1 d.2.2 q
def unI{f:xL->Sem xL}{g:Int->Int}
  (j:∀(i:Int)(t:Tok)(s:xH)(Q:xL->xH->Prop)(E:xL->xH->Prop),Q (.int (g i) s.toks) {s with toks:=s.toks+1}->vk (vY X.prog X.w) X.A (f (.int i t)) Q E s):
  Sa X f (rU λi=>.int (g i)):=by
 intro n s z H x v Q I y h;obtain⟨i,rfl,q⟩:=h;obtain⟨t,rfl⟩:=y;exact j i t s _ _ ⟨.int (g i),H,I.tok _,⟨_,rfl⟩,q⟩
def oF:Sa X (unaryOp .USub) (rU λi=>.int (-i)):=unI λ_ _ _ _ _ q=>neg_int q
end
section
variable{X:Cx}{a b c:xC}{ta tb tc:TE}{pos:Pos}
def Tv{i:St}{H:Hp}{Q:VK}{k d:Bool}(I:Inv X vS i H s)(q:Q (.bl k) H)(e:k=d):EP X vS i Q (.bool d) s:=by subst e;exact⟨.bl k,H,I,rfl,q⟩
def oH:WC X (vJ .Lt) (RY λi j=>.bl (decide (i<j))):=W2 λ_ _ _ _ _ _ _ q=>lt_int q
def oJ:WC X (vJ .LtE) (RY λi j=>.bl (decide (i<=j))):=W2 λ_ _ _ _ _ _ _ q=>le_int q
def oK:WC X (vJ .Gt) (RY λi j=>.bl (decide (j<i))):=W2 λ_ _ _ _ _ _ _ q=>gt_int q
def oN:WC X (vJ .GtE) (RY λi j=>.bl (decide (j<=i))):=W2 λ_ _ _ _ _ _ _ q=>ge_int q
def oO:WC X (vJ .Lt) (λx y H Q=>∃i j,x=.str i/\y=.str j/\Q (.bl (decide (i.cps.toList<j.cps.toList))) H):=by intro d s B H x y v u Q I z n h;obtain⟨i,j,rfl,rfl,q⟩:=h;obtain⟨t,rfl⟩:=z;obtain⟨F,rfl⟩:=n;exact lt_str (Tv I q rfl)
def oQ:WC X (vJ .Is) (λx y H Q=>y=.WA/\Q (.bl (decide (x=.WA))) H):=by
 intro d s n H x y v u Q I i j h;obtain⟨rfl,q⟩:=h;cases j;refine is_none_gen (Tv I q ?_)
 cases x<;>first
  |(cases i;rfl)
  |(obtain⟨t,rfl⟩:=i;rfl)
def oR:WC X (vJ .IsNot) (λx y H Q=>y=.WA/\Q (.bl (!decide (x=.WA))) H):=by
 intro d s n H x y v u Q I i j h;obtain⟨rfl,q⟩:=h;cases j;refine isnot_none_gen (Tv I q ?_)
 cases x<;>first
  |(cases i;rfl)
  |(obtain⟨t,rfl⟩:=i;rfl)
def oU:WC X (vJ .NotIn) (λx y H Q=>∃i j,x=.str i/\y=.str j/\Q (.bl (!(!(xf j i 0 j.length 1).isEmpty))) H):=by intro d s B H x y v u Q I z n h;obtain⟨i,j,rfl,rfl,q⟩:=h;obtain⟨t,rfl⟩:=z;obtain⟨F,rfl⟩:=n;exact notIn_str (Tv I q rfl)
def WC.or(h:WC X f r)(h':WC X f r'):WC X f (λx y H Q=>r x y H Q\/r' x y H Q):=by
 intro d s n H x y v u Q I j i q;rcases q with q|q
 .exact h d s n H x y v u Q I j i q
 exact h' d s n H x y v u Q I j i q
def YO(b:xC)(h:op≠ .In:=by decide)(j:op≠ .NotIn:=by decide):xS op b=u7:=by
 have i:(op==CmpOp.In)=u7:=by cases op<;>first|rfl|exact absurd rfl h
 have d:(op==CmpOp.NotIn)=u7:=by cases op<;>first|rfl|exact absurd rfl j
 cases b<;>simp[xS,i,d]
def oV{op:CmpOp}{r:R2}(ho:WC X (vJ op) r)(i:PE X a ta)(n:PE X b tb)(F:xS op b=u7):PE X (.Compare a [op] [b] pos) (Ta r ta tb):=by intro d s z H Q I h;exact wpAny_Compare1 (aD i n I h λv u J x y j M L B q=>ho d J z j x y v u Q M L B q) F
noncomputable def Qo(t:TE):TT:=λσ H Q=>t σ H λx H'=>∃k,x=.bl k/\Q k H'
def bj(ho:WC X (vJ op) r)(j:PE X a ta)(J:PE X b tb)(O:xS op b=u7):PT X (.Compare a [op] [b] pos) (Qo (Ta r ta tb)):=by
 intro d s i H Q I h;refine wpAny_isTrue_Compare1 (QB (j d s i H _ I h) λv Y ⟨x,B,I1,n,L⟩=>QB (J d Y i B _ I1 L) λu q ⟨y,F,Z,r2,q2⟩=>
  QB (ho d q i F x y v u _ Z n r2 q2) λc s3 S=>?_) O
 obtain⟨z,U,M,N,k,e,W⟩:=S;subst e;cases N;exact vN ⟨U,M,W⟩
noncomputable def bo(r r':R2)(ta tb tc:TE):TE:=λσ H Q=>ta σ H λx H1=>tb σ H1 λy H2=>r x y H2 λz H3=>∃k,z=.bl k/\
 (if k=u6 then tc σ H3 λw' H4=>r' y w' H4 Q else Q (.bl u7) H3)
theorem oW(ho:WC X (vJ op) r)(n:WC X (vJ op') r')(L:PE X a ta)(hb:PE X b tb)(Y:PE X c tc)
  (hm:lastMarks [op,op'] [b,c]=u7:=by with_unfolding_all rfl):PT X (.Compare a [op,op'] [b,c] pos) (Qo (bo r r' ta tb tc)):=by
 intro i s j H Q I h;refine isTrue_chain (QB (L i s j H _ I h) λv s1 ⟨x,H1,I1,W,q1⟩=>test_link (QB (hb i s1 j H1 _ I1 q1) λu Z ⟨y,H2,I2,J,q2⟩=>
  QB (ho i Z j H2 x y v u _ I2 W J q2) λd s3 zz=>?_)) hm
 obtain⟨z,B,q,r3,k,e,F⟩:=zz;subst e;cases r3;refine vN ?_;cases k with
 |false=>
  obtain⟨k',e',q'⟩:=F;cases e';exact ite_ff ⟨B,q,q'⟩
 |true=>
  refine ite_tt (test_last (QB (Y i s3 j B _ q F) λU s4 ⟨z',H4,I4,S,q4⟩=>QB (n i s4 j H4 y z' u U _ I4 J S q4) λd' s5 ⟨z2,N,O,M,k2,e2,q5⟩=>?_));subst e2;cases M;exact vN ⟨N,O,q5⟩
def VH:(sizeLine:Nat)<2^63:=by rw[vz];decide
def oY:WC X (xT .Add) (λx y H Q=>∃i j,x=.str i/\y=.str j/\i.length+j.length<=sizeLine/\Q (.str (i++j)) H):=by intro d s J H x y v u Q I F z h;obtain⟨i,j,rfl,rfl,n,q⟩:=h;obtain⟨t,rfl⟩:=F;obtain⟨B,rfl⟩:=z;exact add_str (λB tk=>⟨.str (i++j),H,I.tok _,⟨_,rfl⟩,q⟩) n
def oZ:WC X (inplaceOp .Add) (λx y H Q=>∃i j,x=.str i/\y=.str j/\i.length+j.length<=sizeLine/\Q (.str (i++j)) H):=by intro d s J H x y v u Q I F z h;obtain⟨i,j,rfl,rfl,n,q⟩:=h;obtain⟨t,rfl⟩:=F;obtain⟨B,rfl⟩:=z;exact iadd_str (λB tk=>⟨.str (i++j),H,I.tok _,⟨_,rfl⟩,q⟩) n
theorem vals1(r:Vals [x] us):∃u,us=[u]/\RelV x u:=by
 cases r with
 |cons d i=>cases i;exact⟨_,rfl,d⟩
theorem vals2(r:Vals [x,y] us):∃u d,us=[u,d]/\RelV x u/\RelV y d:=by
 cases r with
 |cons q n=>
  cases n with
  |cons j i=>cases i;exact⟨_,_,rfl,q,j⟩
def oa(y:X.calm=u6):WB X (.builtin "max") (λxs H Q=>∃i j,xs=[.int i,.int j]/\Q (.int (if j>i then j else i)) H):=by
 intro n s J H xs z Q I r h;obtain⟨i,j,rfl,q⟩:=h;obtain⟨u,F,rfl,⟨t,rfl⟩,⟨L,rfl⟩⟩:=vals2 r;refine max_two_ints (I.ok.hd y) λB tk k=>⟨_,H,I.kept k,?_,q⟩
 by_cases d:j>i
 .rw[if_pos d,if_pos d];exact⟨_,rfl⟩
 rw[if_neg d,if_neg d];exact⟨_,rfl⟩
def og(y:X.calm=u6):WB X (.builtin "min") (λxs H Q=>∃i j,xs=[.int i,.int j]/\Q (.int (if j<i then j else i)) H):=by
 intro n s J H xs z Q I r h;obtain⟨i,j,rfl,q⟩:=h;obtain⟨u,F,rfl,⟨t,rfl⟩,⟨L,rfl⟩⟩:=vals2 r;refine min_two_ints (I.ok.hd y) λB tk k=>⟨_,H,I.kept k,?_,q⟩
 by_cases d:j<i
 .rw[if_pos d,if_pos d];exact⟨_,rfl⟩
 rw[if_neg d,if_neg d];exact⟨_,rfl⟩
end
structure ZO (h:Heap) (x dx C:xA) (mA:Str->Option xL):Prop where
 obj:h.get? x=u4 (zf C dx)
 ns:h.Ns1 dx mA
 ne:dx≠x
def oh{h:Heap}{B:xA}{i:Str->Option xL}(n:h.Ns1 B i):∃od,h.get? B=u4 od/\∀name,jb name od=u4 (i name):=by
 obtain⟨o,j,N,I,F,hk,_,L⟩:=n;refine⟨o,I,λname=>?_⟩;have e:=L name;unfold nsFind findBy at e;rw[<-Array.find?_toList]at e;unfold jb;rw[F];dsimp only;split
 .rename_i y q;rw[q]at e;exact congrArg u4 e
 rename_i q;rw[q]at e
 have a:j.toList.any (·.refKey)=u7:=by rw[List.any_eq_false];intro y J;obtain⟨z,t,d⟩:=hk y (Array.mem_toList_iff.mp J);simp[DictEntry.refKey,d]
 have M:¬j.toList.any (·.refKey)=u6:=a▸z5
 rw[if_neg M];exact congrArg u4 e
def ZO.look(I:ZO h x dx C mA):∃od,wZ h x (zf C dx) C (u4 od)/\∀name,jb name od=u4 (mA name):=
 let⟨od,i,d⟩:=oh I.ns
 ⟨od,⟨I.obj,rfl,rfl,i⟩,d⟩
section
variable{prog:xF}{w:xM}{A:xB}{E:xL->xH->Prop}{s:xH}{K:za}{x dx C f:xA}{mA:Str->Option xL}{name:Str}{v:xL}
def oi(X:K.In s.heap)(I:ZO s.heap x dx C mA)(j:jc K C name=u6)(y:qb K C=u6)
  (q:zc K (.ref C) name=u4 u5) (n:mA name=u4 v) (i:wW v=u6) (h:Q v {s with toks:=s.toks+1}):
  vk (vY prog w) A (getAttr (.ref x) name expr) Q E s:=by
 obtain⟨B,J,z⟩:=I.look;exact PySem.W.get_value X J (xg j).1 (PySem.W.findObj_own y q rfl (by rw[z,n])) i h
def oj(X:K.In s.heap)(I:ZO s.heap x dx C mA)(d:jc K C name=u6)
  (j:zc K (.ref C) name=u4 (u4 (.ref f))) (y:xh K (.ref f)=u6) (i:mA name=u5) (h:Q (.ref f,[.ref x]) s):
  vk (vY prog w) A (getMethod (.ref x) name pl) Q E s:=by
 obtain⟨q,J,n⟩:=I.look
 exact PySem.W.method_fn X J (xg d).1 (xg d).2 j (beq_iff_eq.mp y) (by show(jb name q).map (·.isSome)=u4 u7;rw[n,i];rfl) h
def ol(X:K.In s.heap)(I:ZO s.heap x dx C mA)
  (L:zc K (.ref C) "__setattr__"=u4 (u4 (.builtin "object.__setattr__"))) (hp:wK K C=u6) (U:qe K C name=u4 u5) (M:qb K C=u6)
  (hw:ji mA ns) (QL:ns.length<=sizeLine)
  (h:∀h',ZO h' x dx C (λy=>if y=name then u4 v else mA y)->qI dx s.heap h'->Q () {s with heap:=h',toks:=s.toks+2}):
  vk (vY prog w) A (setAttr (.ref x) name v) Q E s:=by
 obtain⟨od,J,hl⟩:=I.look;refine wq X J L (PySem.W.osa_open X J hp U λb=>?_);obtain⟨Y,S,z⟩:=wz M;refine vB (vL (vB (vB (wpAny_loadPart I.obj (vB (PySem.W.Looks.here (wj X S) ?_))))));rw[z];refine vL (vB (vL (vB ?_)));refine wpAny_nsSet1 I.ns λh' j i=>?_
 obtain⟨Z,O,N,F,q,B⟩:=j.count (PySem.Within.cons name v hw);exact vB (wpAny_lookBehind F (by rw[q];exact pastItsLine_dict (z8 B (by rw[zH];lia))) (vL (h _ ⟨(i.2 _ (Ne.symm I.ne)).trans I.obj,j,I.ne⟩ i)))
def om(X:K.In s.heap)(hm:wx K C=u6)
  (hi:zc K (.ref C) "__init__"=u4 (u4 (.ref f))) (hf:PySem.W.typeIn K (.ref f)=u4 (.type "function"))
  (h:codeAny (vY prog w) (A.under (.builtin "type.__call__" ⟨.ref C::vs,kw⟩)) (.call (.ref f) ⟨.ref (s.heap.objs.size+1)::vs,kw⟩) (PySem.W.InitBack (s.heap.objs.size+1) R)
   {s with heap:=(s.heap.push zh).push (zf C s.heap.objs.size)}):
  codeAny (vY prog w) A (.call (.ref C) ⟨vs,kw⟩) R s:=by
 obtain⟨hh,g,d,t,os⟩:=s;exact PySem.W.make_core (PySem.W.makes_of X hm) (PySem.W.looks_findIn X hi) (λself=>PySem.W.bind_fn X self hf) (.inl rfl) h
end
noncomputable def Em(f:Str)(v:V):List (Str×V)->List (Str×V)
 |[]=>[(f,v)]
 |(g,x)::r=>if g=f then(g,v)::r else(g,x)::Em f v r
theorem bp(f g:Str)(v:V):∀fs:List (Str×V),(Em f v fs).lookup g=if g=f then u4 v else fs.lookup g
 |[]=>by
  show qR g [(f,v)]=_;by_cases h:g=f
  .have d:=beq_iff_eq.mpr h;simp[qR,d,if_pos h]
  have d:=beq_eq_false_iff_ne.mpr h;simp[qR,d,if_neg h]
 | (k,x)::r=>by
  rw[show Em f v ((k,x)::r)=(if k=f then(k,v)::r else(k,x)::Em f v r)from rfl]
  by_cases hk:k=f
  .rw[if_pos hk];by_cases h:g=k
   .have d:=beq_iff_eq.mpr h;simp[qR,d,if_pos (h.trans hk)]
   have d:=beq_eq_false_iff_ne.mpr h;simp[qR,d,if_neg (λe:g=f=>h (e.trans hk.symm))]
  rw[if_neg hk];by_cases h:g=k
  .have d:=beq_iff_eq.mpr h;simp[qR,d,if_neg (λe:g=f=>hk (h.symm.trans e))]
  .have d:=beq_eq_false_iff_ne.mpr h;simp[qR,d];exact bp f g v r
theorem Zw(f:Str)(v:V):∀fs:List (Str×V),f∈(Em f v fs).map (·.1)/\∀g,g∈fs.map (·.1)->g∈(Em f v fs).map (·.1)
 |[]=>⟨by simp[Em],λg h=>by simp at h⟩
 | (k,x)::r=>by
  obtain⟨i,d⟩:=Zw f v r
  rw[show Em f v ((k,x)::r)=(if k=f then(k,v)::r else(k,x)::Em f v r)from rfl]
  by_cases hk:k=f
  .rw[if_pos hk];subst hk;exact⟨by simp,λg h=>by simpa using h⟩
  rw[if_neg hk];refine⟨?_,λg h=>?_⟩
  .rw[zy];exact zJ _ i
  .rw[zy]at h⊢;rcases zK.mp h with e|e
   .exact zK.mpr (.inl e)
   exact zJ _ (d g e)
theorem bq(f:Str)(v:V):∀fs:List (Str×V),(Em f v fs).length<=fs.length+1
 |[]=>by simp[Em]
 |(k,x)::r=>by
  have d:=bq f v r
  rw[show Em f v ((k,x)::r)=(if k=f then(k,v)::r else(k,x)::Em f v r)from rfl]
  by_cases hk:k=f
  .rw[if_pos hk,zH,zH];lia
  rw[if_neg hk,zH,zH];lia
theorem RI.OM(r:RI (u4 v) o):∃u,o=u4 u/\RelV v u:=by
 cases o with
 |none=>exact(r).elim
 |some u=>exact⟨u,rfl,r⟩
theorem RI.none_of(r:RI u5 o):o=u5:=by
 cases o with
 |none=>rfl
 |some u=>exact(r).elim
theorem oo(r:RelV v u):wW u=u6:=by
 cases v with
 |WA|bl b=>cases(r);rfl
 |ref a|ty n=>cases(r);rfl
 |_=>obtain⟨t,e⟩:=(r);cases e;rfl
section
variable{P:xF}{w:xM}{H H':Hp}{h h':Heap}{a C dx:xA}{fs fs':List (Str×V)}
def Z8(OB:VG P w H h)(e:H a=u4 (.ins C dx fs)):∃i,ZO h a dx C i/\(∀f,RI (fs.lookup f) (i f))/\ji i (fs.map (·.1))/\fs.length<=1000/\H dx=u4 (.own a):=by obtain⟨d,z,j,y,i,n,r,q⟩:=(OB a _ e);exact⟨i,⟨y,n,j⟩,r,q,z,d⟩
end
structure ZQ (K:za) (C:xA):Prop where
 pg:jc K C Str.empty=u6
 hd:qb K C=u6
 po:wK K C=u6
 sa:zc K (.ref C) "__setattr__"=u4 (u4 (.builtin "object.__setattr__"))
def ZQ.get{K:za}{C:xA}(c:ZQ K C)(f:Str):jc K C f=u6:=c.pg
def UE(K:za)(C:xA)(f:Str):Prop:=zc K (.ref C) f=u4 u5
def UE.Tl{K:za}{C:xA}{f:Str}(n:UE K C f):qe K C f=u4 u5:=by
 unfold qe;rw[n]
 rfl
structure WR (K:za) (C:xA) (m:Str) (f:xA):Prop where
 at_:zc K (.ref C) m=u4 (u4 (.ref f))
 fn:xh K (.ref f)=u6
 kp:ze K (.ref f)=u6
section
variable{X:Cx}{vS:List (xA×Obj)}{σ:St}{H:Hp}{s:xH}{a C dx:xA}{fs:List (Str×V)}{f:Str}{v:V}{A:xB}{E:xL->xH->Prop}
def oq(I:Inv X vS σ H s)(e:H a=u4 (.ins C dx fs))(c:ZQ X.K C)(n:UE X.K C f)(l:fs.lookup f=u4 v)
  (h:∀u s',Inv X vS σ H s'->RelV v u->Q u s'):vk (vY X.prog X.w) A (getAttr (.ref a) f b) Q E s:=by
 obtain⟨j,O,r,_,_,_⟩:=Z8 I.OB e;obtain⟨u,i,d⟩:=RI.OM (by rw[<-l];exact r f);exact oi I.WG O (c.get f) c.hd n i (oo d) (h u _ (I.tok _) d)
def br(I:Inv X vS σ H s)(e:H a=u4 (.ins C dx fs))(c:ZQ X.K C)(k:WR X.K C m g)(l:fs.lookup m=u5)
  (h:Q (.ref g,[.ref a]) s):vk (vY X.prog X.w) A (getMethod (.ref a) m pl) Q E s:=by
 obtain⟨d,O,r,_,_,_⟩:=Z8 I.OB e;exact oj I.WG O (c.get m) k.at_ k.fn (RI.none_of (by rw[<-l];exact r m)) h
def ot(I:Inv X vS σ H s)(e:H a=u4 (.ins C dx fs))(c:ZQ X.K C)(n:UE X.K C f)(Y:fs.length<1000)(U:RelV y u)
  (h:∀s',Inv X vS σ (upd H a (.ins C dx (Em f y fs))) s'->Q () s'):vk (vY X.prog X.w) A (setAttr (.ref a) f u) Q E s:=by
 obtain⟨M,O,r,B,_,j⟩:=Z8 I.OB e
 have S:(fs.map (·.1)).length<=sizeLine:=by rw[zO,vz];lia
 refine ol I.WG O c.sa c.po n.Tl c.hd B S λN d W=>h _ ?_
 have i:∃o,N.get? dx=u4 o:=let⟨o,_,_,J,_⟩:=d.ns;⟨o,J⟩;refine I.write (e▸True.intro) (.inr j) (λb q L z=>(W.2 b L).trans z) i ?_;refine⟨(Ah O.ne)▸j,?_,O.ne,d.obj,_,d.ns,λg=>?_,λg F=>?_⟩
 .have:=bq f y fs;lia
 .rw[bp];by_cases q:g=f
  .rw[if_pos q,if_pos q];exact U
  rw[if_neg q,if_neg q];exact r g
 by_cases q:g=f
 .rw[q];exact(Zw f y fs).1
 .refine(Zw f y fs).2 g (B g λz=>F ?_);show(if g=f then u4 u else M g)=u5;rw[if_neg q];exact z
def Inv.made(I:Inv X vS σ H s):Inv X vS σ (upd (upd H s.heap.objs.size (.own (s.heap.objs.size+1))) (s.heap.objs.size+1) (.ins C s.heap.objs.size []))
  {s with heap:=(s.heap.push zh).push (zf C s.heap.objs.size)}:=by
 have e1:(s.heap.push zh).get? s.heap.objs.size=u4 zh:=z6 s.heap rfl;have e2:((s.heap.push zh).push (zf C s.heap.objs.size)).get? (s.heap.objs.size+1)=u4 (zf C s.heap.objs.size):=by have:=z6 (s.heap.push zh) (o:=zf C s.heap.objs.size) rfl;rwa[q9]at this
 refine(I.laid (a:=s.heap.objs.size) (o:=.own (s.heap.objs.size+1)) (h':=s.heap.push zh) (t':=s.toks) (λb u q=>zZ _ q) (zY _) ⟨_,e1⟩).laid (λb u q=>zZ _ q) (Nat.le_of_eq (q9 _ _)) ?_;have ne:s.heap.objs.size≠s.heap.objs.size+1:=z9 (qV _);refine⟨by rw[Ah ne,Ek],jR _,ne,e2,λ_=>u5,(Heap.Ns1.of_empty ⟨zh,#[],_,e1,rfl,(λe he=>absurd he (by simp)),λ_=>rfl⟩).at λo q=>zZ _ q,λ_=>True.intro,λy hy=>absurd rfl hy⟩
def ou{f:Str}(i:xO e f env (eval e env)=eval e env)
  (h:vk (vY prog w) A (eval e env) (λo d=>vk (vY prog w) A (getAttr o f u6) Q E d) E s):vk (vY prog w) A (eval (.Attribute e f pos) env) Q E s:=
 Attribute_any_ h (by rw[arm_eval_Attribute,i])
end
noncomputable def tFld(K:za)(ta:TE)(f:Str):TE:=λσ H Q=>ta σ H λx H1=>∃a C dx fs v,x=.ref a/\H1 a=u4 (.ins C dx fs)/\ZQ K C/\UE K C f/\fs.lookup f=u4 v/\Q v H1
def sFld(K:za)(ta tv:TE)(f:Str):TS:=λD σ H=>tv σ H λy H1=>ta σ H1 λx H2=>∃a C dx fs,x=.ref a/\H2 a=u4 (.ins C dx fs)/\ZQ K C/\UE K C f/\fs.length<1000/\
 D.nx σ (upd H2 a (.ins C dx (Em f y fs)))
section
variable{X:Cx}{o e value:xC}{f:Str}{pos pos' Zl:Pos}{ta tv:TE}
def ow(B:PE X e ta)(F:xO e f X.env (eval e X.env)=eval e X.env):PE X (.Attribute e f pos) (tFld X.K ta f):=by intro d s M H Q I h;refine ou F (QB (B d s M H _ I h) λu W i=>?_);obtain⟨x,z,y,N,a,C,U,fs,v,J,j,c,n,l,q⟩:=i;subst J;obtain rfl:u=Value.ref a:=N;exact oq y j c n l λS Y O L=>⟨v,z,O,L,q⟩
def oy(j:PE X o ta)(N:PE X value tv)(L:swapsWith value (u4 (.Attribute o f pos')) pos.line X.env=pure u7):PS X (.Assign [.Attribute o f pos'] value pos) (sFld X.K ta tv f):=by intro d s i H D I h;refine plainObj_wpAny_Assign_Attribute (QB (N d s i H _ I h) λu U ⟨y,z,Z,F,q⟩=>QB (j d U i z _ Z q) λS s2 O=>?_) L;obtain⟨x,H2,W,M,a,C,dx,fs,J,Y,c,n,l,q2⟩:=O;subst J;obtain rfl:S=Value.ref a:=M;exact ot W Y c n l F λs3 B=>⟨i,_,B,q2⟩
end
section
variable{X:Cx}{vS:List (xA×Obj)}{σ:St}{H:Hp}{s:xH}{A:xB}{E:xL->xH->Prop}{Q:xL->xH->Prop}{c:xL}{b:Bool}
end
structure NC (k:Nat) (A:xB):Prop where
 hd:A.handled=u5
 dp:A.depth+3*k+5<recursionLimit
 un:A.units+16*k+200<cLine
def NC.mono(r:NC k A)(h:j<=k):NC j A:=⟨r.hd,by have:=r.dp;lia,by have:=r.un;lia⟩
def NC.deeper(r:NC (k+1) A)(env:Env):NC k (A.deeper env):=
 ⟨r.hd,by have:=r.dp;show A.depth+1+3*k+5<_;lia,by have:=r.un;show A.units+3+16*k+200<_;lia⟩
def oz{A:xB}{C:xA}{us:List xL}{d:List (Str×xL)}:(A.under (.builtin "type.__call__" ⟨.ref C::us,d⟩)).depth=A.depth+1:=by
 first|rfl|simp[Around.under,Code.weight,Code.isCreation,Code.isGuard,Code.isCaller,Code.frames,Code.isFrame,guardIds]
def pA{A:xB}{C:xA}{us:List xL}{d:List (Str×xL)}:(A.under (.builtin "type.__call__" ⟨.ref C::us,d⟩)).units=A.units+1:=by
 first|rfl|simp[Around.under,Code.cUnits,Code.frames,Code.isFrame]
def NC.make(r:NC (k+1) A)(C:xA)(us:List xL)(d:List (Str×xL)):NC k (A.under (.builtin "type.__call__" ⟨.ref C::us,d⟩)):=
 ⟨r.hd,by have:=r.dp;rw[oz];lia,by have:=r.un;rw[pA];lia⟩
def NC.depth(r:NC k A):A.depth<recursionLimit:=by have:=r.dp;lia
def NC.units(r:NC k A):A.units+64<cLine:=by have:=r.un;lia
def Oo:TA:=λ_ H Q=>Q [] H
noncomputable def Q3(ta:TE)(tr:TA):TA:=λσ H Q=>ta σ H λx H1=>tr σ H1 λxs H2=>Q (x::xs) H2
section
variable{X:Cx}{e:xC}{es:List xC}{te:TE}{t:TA}{pos:Pos}
def bt:PA X [] Oo:=λ_ _ _ _ H Q I h=>Calls.spliced_nil ⟨[],H,I,.nil,h⟩
def Z6(q:PE X e te)(n:PA X es t)(O:vx (e::es) X.env=(u7,eval e X.env)::vx es X.env:=by rfl):PA X (e::es) (Q3 te t):=by intro i d s j H Q I h;rw[O];show vk _ _ (spliced ((u7,eval e X.env)::xP i (vx es X.env))) _ _ s;exact Calls.spliced_cons (QB (q d s j H _ I h) λu N ⟨x,z,y,M,J⟩=>(QB (n i d N j z _ y J) λW Y ⟨S,B,U,L,F⟩=>⟨x::S,B,U,.cons M L,F⟩))
def tTup(t:TA):TE:=λσ H Q=>t σ H λxs H1=>xs.length<=sizeLine/\∀p,H1 p=u5->Q (.ref p) (upd H1 p (.tup xs))
def tLst(t:TA):TE:=λσ H Q=>t σ H λxs H1=>xs.length<=sizeLine/\∀p,H1 p=u5->Q (.ref p) (upd H1 p (.lst xs))
def pB{x1}(h:PA X es t):PE X (.Tuple es x1 pos) (tTup t):=by intro d s F H Q I B;refine wpAny_Tuple_spliced (QB (h pos d s F H _ I B) λy j ⟨J,n,i,r,z,q⟩=>⟨by rw[<-r.length];exact z,?_⟩);exact⟨.ref j.heap.objs.size,upd n j.heap.objs.size (.tup J),i.laid (λb u e=>zZ _ e) (zY _) (⟨z,y,r,⟨_,z6 _ rfl,rfl,_,rfl⟩⟩),rfl,q _ (i.OB.fresh (zY _))⟩
def pC(h:PA X es t):PE X (.List es pos) (tLst t):=by intro d s F H Q I B;refine wpAny_List_spliced (QB (h pos d s F H _ I B) λy j ⟨J,n,i,r,z,q⟩=>⟨by rw[<-r.length];exact z,?_⟩);exact⟨.ref j.heap.objs.size,upd n j.heap.objs.size (.lst J),i.laid (λb u e=>zZ _ e) (zY _) ⟨z,y,0,r,z6 _ rfl⟩,rfl,q _ (i.OB.fresh (zY _))⟩
end
abbrev Sp:=List V->Hp->VK->XK->Prop
noncomputable abbrev MP:=List Env->Hp->xH->XK->xL->xH->Prop
structure XR (P:xF) (w:xM) (K:za) (mg:Str->Option xL) (base:Heap) (A:xB) (outer:List Env) (s:xH) (H:Hp):Prop where
 frames:A.frames=u4 outer
 mod:Mod K mg base
 bs:∀b o,base.get? b=u4 o->s.heap.get? b=u4 o/\H b=u5
 RT:base.objs.size<=s.heap.objs.size
 TH:s.heap.FunFrames base outer
 QV:∀b∈PH outer,H b=u5
 OB:VG P w H s.heap
 bare:AllBare s.gens
def CE(outer:List Env)(P:xF)(w:xM)(H:Hp)(s:xH)(Q:VK)(u:xL)(s':xH):Prop:=
 ∃v H',s'.os=s.os/\AllBare s'.gens/\Un (PH outer) [] H H' s.heap s'.heap/\VG P w H' s'.heap/\RelV v u/\Q v H'
def CR(CX:MP)(outer:List Env)(P:xF)(w:xM)(H:Hp)(s:xH)(Q:VK)(E:XK)(r:Result)(s':xH):Prop:=
 match r with
 |.ok (.ret u)=>CE outer P w H s Q u s'
 |.ok _=>False
 |.error e=>CX outer H s E e s'
structure QD (P:xF) (w:xM) (K:za) (mg:Str->Option xL) (base:Heap) (CX:MP) (k:Nat) (f:xA) (fd:xD) (ps:List Str) (sp:Sp):Prop where
 len:∀vs H Q E,sp vs H Q E->vs.length=ps.length
 run:∀(A:xB)(outer:List Env)(s:xH)(H:Hp)(args:Args)(us:List xL)(vs:List V)(Q:VK)(E:XK),NC k A->XR P w K mg base A outer s H->BindsTo s fd args (ps.zip us)->Vals vs us->sp vs H Q E->
  codeAny (vY P w) A (.call (.ref f) args) (CR CX outer P w H s Q E) s
def XR.make{w:xM}{K:za}{i:Str->Option xL}{d:Heap}{A:xB}{outer:List Env}{H:Hp}(e:XR P w K i d A outer s H)(C:xA)(us:List xL)(j:List (Str×xL)):
  XR P w K i d (A.under (.builtin "type.__call__" ⟨.ref C::us,j⟩)) outer s H:=⟨by first|exact e.frames|(simpa[Around.under,Code.envs,Code.isFrame,pushEnvs]using e.frames),e.mod,e.bs,e.RT,e.TH,e.QV,e.OB,e.bare⟩
section
variable{X:Cx}{vS:List (xA×Obj)}{σ:St}{H:Hp}{s s':xH}
def Inv.NX(I:Inv X vS σ H s):XR X.prog X.w X.K X.mg X.base X.A X.stack s H:=
 ⟨I.ok.frames,I.ok.mod,I.bs,z8 I.ok.RT I.sz,I.stack,I.Tn,I.OB,I.bare⟩
def Inv.after(I:Inv X vS σ H s)(h:CE X.stack X.prog X.w H s Q u s'):EP X vS σ Q u s':=by obtain⟨v,y,n,i,un,OB,r,q⟩:=h;obtain⟨B,g,d,t,j⟩:=s';obtain rfl:j=s.os:=n;exact⟨v,y,I.call un OB i (λb z=>absurd z (by simp)),r,q⟩
end
noncomputable def pE(sp:Sp)(QJ:List V)(E:XK)(t:TA):TE:=λσ H Q=>t σ H λvs H1=>sp (vs++QJ) H1 Q E
noncomputable def aE(C:xA)(m:Str)(sp:Sp)(QJ:List V)(E:XK)(ta:TE)(t:TA):TE:=λσ H Q=>ta σ H λx H1=>∃a dx fs,x=.ref a/\H1 a=u4 (.ins C dx fs)/\fs.lookup m=u5/\
 t σ H1 λvs H2=>sp (x::(vs++QJ)) H2 Q E
def pF(C:xA)(sp:Sp)(QJ:List V)(E:XK)(t:TA):TE:=λσ H Q=>t σ H λvs H1=>∀x dx,H1 x=u5->H1 dx=u5->dx≠x->
 sp (.ref x::(vs++QJ)) (upd (upd H1 dx (.own x)) x (.ins C dx [])) (λv H2=>v=.WA/\Q (.ref x) H2) E
def Binds(K:za)(fd:xD)(ps:List Str)(ds:List xL):Prop:=
 ∀(s:xH)(us:List xL),K.In s.heap->(us++ds).length=ps.length->BindsTo s fd ⟨us,[]⟩ (ps.zip (us++ds))
def Binds.all{K:za}{i:xD}{ps:List Str}(h:∀us:List xL,us.length=ps.length->bindArgs i ⟨us,[]⟩=pure (ps.zip us)):Binds K i ps []:=λs us _ d=>by rw[qL]at d⊢;exact .of_eq (h us d)
def Passes(CX:MP)(X:Cx)(E:XK):Prop:=∀(vS:List (xA×Obj))(σ:St)(H:Hp)(s:xH)(e:xL)(s':xH),Inv X vS σ H s->CX X.stack H s E e s'->X.xe e s'
section
variable{X:Cx}{CX:MP}{k:Nat}{f C:xA}{fd:xD}{ps:List Str}{sp:Sp}{QJ:List V}{ds:List xL}{E:XK}{x m:Str}{p pos apos:Pos}{e o:xC}{es:List xC}{ta:TE}{t:TA}
theorem aF{i:St}{H:Hp}{Q:VK}{us:List xL}{vs:List V}(F:QD X.prog X.w X.K X.mg X.base CX k f fd ps sp)(J:NC k X.A)(y:Binds X.K fd ps ds)(n:Vals QJ ds)(z:Passes CX X E)
  (I:Inv X vS i H s) (r:Vals vs us) (h:sp (vs++QJ) H Q E):vk (vY X.prog X.w) X.A (call (.ref f) us) (EP X vS i Q) X.xe s:=by
 have j:=r.append n;have B:(us++ds).length=ps.length:=by rw[<-j.length];exact F.len _ _ _ _ h
 refine wpAny_call (vZ (F.run X.A X.stack s H ⟨us,[]⟩ (us++ds) (vs++QJ) Q E J I.NX (y s us I.WG B) j h) λr q d=>?_);cases r with
 |error e=>exact z vS i H s e q I d
 |ok fl=>
  cases fl with
  |ret u=>exact I.after d
  |_=>exact False.elim d
def bu(F:QD X.prog X.w X.K X.mg X.base CX k f fd ps sp)(z:NC k X.A)(y:Gl X x)(S:X.mg x=u4 (.ref f))(hk:ze X.K (.ref f)=u6)(L:Binds X.K fd ps ds)(J:Vals QJ ds)(M:Passes CX X E)
  (B:PA X (e::es) t) (j:(x==("__debug__":Str))=u7:=by decide) (N:vx (e::es) X.env=(u7,eval e X.env)::vx es X.env:=by rfl) (i:(xP pos (vx es X.env)).any (·.1)=u7:=by rfl):
  PE X (.Call (.Name x p) (e::es) [] pos) (pE sp QJ E t):=by
 intro d s O H Q I h;refine vA (Li I y S ?_ j);exact qf I.ok.mod.ZZ hk (QB (B pos d s O H _ I h) λZ s1 ⟨U,Y,n,r,q⟩=>⟨n.WG,aF F z L J M n r q⟩) N i
def pG{pl:Sem Bool}(O:PE X o ta)(c:ZQ X.K C)(z:WR X.K C m f)(F:QD X.prog X.w X.K X.mg X.base CX k f fd ps sp)(S:NC k X.A)(N:Binds X.K fd ps ds)(hd:Vals QJ ds)(hx:Passes CX X E)(L:PA X (e::es) t)
  (j:vx (e::es) X.env=(u7,eval e X.env)::vx es X.env:=by rfl) (i:(xP pos (vx es X.env)).any (·.1)=u7:=by rfl)
  (Z:eval (.Call (.Attribute o m apos) (e::es) [] pos) X.env=(do
   let ov<-eval o X.env
   standAt apos.atName
   let(f,first)<-holding [ov] (getMethod ov m pl)
   callWith pos f first (xP pos (vx (e::es) X.env)) (xR pos (vV [] X.env))):=by rfl):
  PE X (.Call (.Attribute o m apos) (e::es) [] pos) (aE C m sp QJ E ta t):=by
 intro d s y H Q I h;refine xi (QB (O d s y H _ I h) λu s1 zz=>?_) Z;obtain⟨x,M,J,Y,a,dx,fs,U,ea,l,q⟩:=zz;subst U;obtain rfl:u=Value.ref a:=Y;refine br J ea c z l ?_;exact qf I.ok.mod.ZZ z.kp (QB (L pos d s1 y M _ J q) λus s2 ⟨n,H2,B,r,q2⟩=>⟨B.WG,aF (vs:=.ref a::n) F S N hd hx B (.cons rfl r) q2⟩) j i
def pH(M:PE X o ta)(c:ZQ X.K C)(j:WR X.K C m f)(F:QD X.prog X.w X.K X.mg X.base CX k f fd ps sp)(n:NC k X.A)(J:Binds X.K fd ps ds)(B:Vals QJ ds)(L:Passes CX X E)
  (U:eval (.Call (.Attribute o m apos) [] [] pos) X.env=(do
   let ov<-eval o X.env
   standAt apos.atName
   let(f,first)<-holding [ov] (getMethod ov m pl)
   callWith pos f first (xP pos (vx [] X.env)) (xR pos (vV [] X.env))):=by rfl):
  PE X (.Call (.Attribute o m apos) [] [] pos) (aE C m sp QJ E ta Oo):=by
 intro d s O H Q I h;refine xi (QB (M d s O H _ I h) λu s1 y=>?_) U;obtain⟨x,Y,i,N,a,Z,fs,S,z,l,q⟩:=y;subst S;obtain rfl:u=Value.ref a:=N;exact br i z c j l (PySem.W.callWith_K0 i.WG j.kp (aF (vs:=[.ref a]) F n J B L i (.cons rfl .nil) q))
structure Mk (K:za) (C f:xA):Prop where
 makes:wx K C=u6
 init:zc K (.ref C) "__init__"=u4 (u4 (.ref f))
 fn:xh K (.ref f)=u6
 kp:ze K (.ref C)=u6
theorem pI{σ:St}{H:Hp}{Q:VK}{us:List xL}{vs:List V}(M:Mk X.K C f)(F:QD X.prog X.w X.K X.mg X.base CX k f fd ps sp)(hr:NC (k+1) X.A)(hb:Binds X.K fd ps ds)(hd:Vals QJ ds)
  (hx:Passes CX X E) (I:Inv X vS σ H s) (r:Vals vs us)
  (h:∀x dx,H x=u5->H dx=u5->dx≠x->sp (.ref x::(vs++QJ)) (upd (upd H dx (.own x)) x (.ins C dx [])) (λv H2=>v=.WA/\Q (.ref x) H2) E):
  vk (vY X.prog X.w) X.A (call (.ref C) us) (EP X vS σ Q) X.xe s:=by
 have hq:=h (s.heap.objs.size+1) s.heap.objs.size (I.OB.fresh (j3 _)) (I.OB.fresh (zY _)) (z9 (qV _));have I2:=Inv.made (C:=C) I;have r2:Vals (V.ref (s.heap.objs.size+1)::(vs++QJ)) (Value.ref (s.heap.objs.size+1)::(us++ds)):=.cons rfl (r.append hd);have hl:(Value.ref (s.heap.objs.size+1)::us++ds).length=ps.length:=by have e:=r2.length;rw[F.len _ _ _ _ hq]at e;exact e.symm
 refine wpAny_call (om I.WG M.makes M.init (beq_iff_eq.mp M.fn) (vZ (F.run _ X.stack _ _ ⟨Value.ref (s.heap.objs.size+1)::us,[]⟩ (Value.ref (s.heap.objs.size+1)::(us++ds)) _ _ E (hr.make C us [])
  (I2.NX.make C us []) (hb _ (Value.ref (s.heap.objs.size+1)::us) I2.WG hl) r2 hq) λr s' hq'=>?_))
 cases r with
 |error e=>exact hx vS σ _ _ e s' I2 hq'
 | ok fl=>
  cases fl with
  |ret u=>
   obtain⟨v,H',I3,rv,ev,q3⟩:=I2.after hq';subst ev;exact⟨rv,⟨V.ref (s.heap.objs.size+1),H',I3,rfl,q3⟩⟩
  |_=>exact False.elim hq'
def pJ(M:Mk X.K C f)(F:QD X.prog X.w X.K X.mg X.base CX k f fd ps sp)(z:NC (k+1) X.A)(y:Gl X x)(U:X.mg x=u4 (.ref C))(L:Binds X.K fd ps ds)(J:Vals QJ ds)(N:Passes CX X E)
  (B:PA X (e::es) t) (j:(x==("__debug__":Str))=u7:=by decide) (O:vx (e::es) X.env=(u7,eval e X.env)::vx es X.env:=by rfl) (i:(xP pos (vx es X.env)).any (·.1)=u7:=by rfl):
  PE X (.Call (.Name x p) (e::es) [] pos) (pF C sp QJ E t):=by
 intro d s S H Q I h;refine vA (Li I y U ?_ j);exact qf I.ok.mod.ZZ M.kp (QB (B pos d s S H _ I h) λus s1 ⟨Y,Z,n,r,q⟩=>⟨n.WG,pI M F z L J N n r q⟩) O i
end
def PK(X:Cx)(Pm:List Keyword)(t:TA):Prop:=
 ∀(pos:Pos)(vS:List (xA×Obj))(s:xH)(σ:St)(H:Hp)(Q:List V->Hp->Prop),Inv X vS σ H s->t σ H Q->vk (vY X.prog X.w) X.A (evalAll ((xR pos (vV Pm X.env)).map (·.2))) (AP X vS σ Q) X.xe s
section
variable{X:Cx}{CX:MP}{k:Nat}{f C:xA}{fd:xD}{ps ks:List Str}{sp:Sp}{E:XK}{x m:Str}{p pos apos kpos:Pos}{e o:xC}{es:List xC}{Pm:List Keyword}{te ta:TE}{t tk:TA}{nm:Option Str}
def pK:PK X [] Oo:=λ_ _ _ _ H Q I h=>wpAny_evalAll_nil ⟨[],H,I,.nil,h⟩
def pL(q:PE X e te)(n:PK X Pm t):PK X (⟨nm,e,kpos⟩::Pm) (Q3 te t):=by
 intro i d s j H Q I h
 show vk _ _ (evalAll ((do let v<-eval e X.env;standAt i;pure v)::(xR i (vV Pm X.env)).map (·.2))) _ _ s
 exact wpAny_evalAll_cons (vB (QB (q d s j H _ I h) λu N ⟨x,z,y,M,J⟩=>vB (wpAny_standAt (vL (QB (n i d N j z _ y J) λU W ⟨O,B,S,L,F⟩=>⟨x::O,B,S,.cons M L,F⟩)))))
variable{g:List xL->List xL->List xL}{gV:List V->List V->List V}
end
structure UC (N P:List Str) (sc:xG):Prop where
 kind:sc.kind=.function
 co:sc.isCoroutine=u7
 gen:sc.isGenerator=u7
 nd:N.Nodup
 pre:N.take P.length=P
 par:∀x∈P,sc.names.lookup x=u4 .local\/sc.names.lookup x=u4 .cell
 Q1:∀y∈sc.names,y.2≠ .free
theorem bv{d:Str->Option xE}{x:Str}:∀{binds:List (Str×xL)}{m:Str->Option xL},(∀v,(x,v)∉binds)->bindL d binds m x=m x
 |[],_,_=>rfl
 | (n,v)::r,m,h=>by
  unfold bindL;rw[bv λw hw=>h w (zJ _ hw)];split
  .have:x≠n:=by rintro rfl;exact h v zW
   simp[this]
  rfl
theorem bw{d:Str->Option xE}{x:Str}:∀{binds:List (Str×xL)}{m:Str->Option xL},(∀v,(x,v)∉binds)->bindC d binds m x=m x
 |[],_,_=>rfl
 |(n,v)::r,m,h=>by
  unfold bindC;rw[bw λw hw=>h w (zJ _ hw)];split
  .rfl
  have:x≠n:=by rintro rfl;exact h v zW
  simp[this]
theorem bx{d:Str->Option xE}{x:Str}{v:xL}:∀{P:List Str}{vs:List xL}{i:Nat}{m:Str->Option xL},P.Nodup->P[i]?=u4 x->vs[i]?=u4 v->d x=u4 .local->
  bindL d (P.zip vs) m x=u4 v
 |[],_,_,_,_,h,_,_|_::_,[],_,_,_,_,h,_=>by simp at h
 |p::P,w::vs,0,m,q,j,n,hk=>by simp at j n;subst j;subst n;show bindL d ((p,w)::P.zip vs) m p=_;unfold bindL;rw[bv λv y=>(qM.mp q).1 (List.of_mem_zip y).1,if_pos hk];simp
 |p::P,w::vs,i+1,m,q,j,n,hk=>by unfold bindL;exact bx (qM.mp q).2 (by simpa using j) (by simpa using n) hk
theorem bz{d:Str->Option xE}{x:Str}{v:xL}:∀{P:List Str}{vs:List xL}{i:Nat}{m:Str->Option xL},P.Nodup->P[i]?=u4 x->vs[i]?=u4 v->d x≠u4 .local->
  bindC d (P.zip vs) m x=u4 v
 |[],_,_,_,_,h,_,_|_::_,[],_,_,_,_,h,_=>by simp at h
 |p::P,w::vs,0,m,q,j,n,hk=>by simp at j n;subst j;subst n;show bindC d ((p,w)::P.zip vs) m p=_;unfold bindC;rw[bw λv y=>(qM.mp q).1 (List.of_mem_zip y).1,if_neg hk];simp
 |p::P,w::vs,i+1,m,q,j,n,hk=>by unfold bindC;exact bz (qM.mp q).2 (by simpa using j) (by simpa using n) hk
noncomputable def start(N:List Str)(vs:List V):St:=vs.map u4++zV (N.length-vs.length) u5
noncomputable def Gd(CX:MP)(P:xF)(w:xM)(K:za)(mg:Str->Option xL)(base:Heap)(N:List Str)(qual:Str)(scope:xG)(f:xA)(cd:xL)(A:xB)(outer:List Env)(s:xH)(H:Hp)(E:XK):Cx where
 prog:=P
 w:=w
 K:=K
 mg:=mg
 base:=base
 A:=A.deeper (envOfC qual scope s.heap.objs.size f cd)
 N:=N
 s₀:=s
 H₀:=H
 env:=envOfC qual scope s.heap.objs.size f cd
 outer:=outer
 stack:=envOfC qual scope s.heap.objs.size f cd::outer
 ex:=[]
 calm:=u6
 fn:=λ_=>u6
 pn:=[]
 xe:=λe s'=>vk (vY P w) (A.deeper (envOfC qual scope s.heap.objs.size f cd)) (leaving (envOfC qual scope s.heap.objs.size f cd) e) (λ_ VS=>CX outer H s E e VS) (λe' VS=>CX outer H s E e' VS) s'
def cB{d:xG}{n:Nat}{x:Str}(h:d.names.lookup x=u4 .cell):∃c,(cellsFrom n d.names []).lookup x=u4 c:=by exact jX.mp (wv d.names n [] (.inl h))
def pM{CX:MP}{w:xM}{K:za}{M:Str->Option xL}{n:Heap}{N ps:List Str}{qual:Str}{d:xG}{f:xA}{cd:xL}{A:xB}{outer:List Env}{s1:xH}{H:Hp}{E:XK}{us:List xL}{vs:List V}
  (S:UC N ps d) (Z:A.handled=u5) (B:XR P w K M n A outer s H) (hl:vs.length=ps.length) (r:Vals vs us)
  (x:InCallC s s.heap.objs.size (bindL (envOfC qual d s.heap.objs.size f cd).kindOf (ps.zip us) λ_=>u5) (cellsFrom (s.heap.objs.size+1) d.names []) (bindC (envOfC qual d s.heap.objs.size f cd).kindOf (ps.zip us) λ_=>u5) s1):
  Inv (Gd CX P w K M n N qual d f cd A outer s H E) [] (start N vs) H s1:=by
 have Y:ps.length<=N.length:=by have:=congrArg List.length S.pre;rw[jB]at this;lia
 obtain⟨L,tk,rfl,hk⟩:=x.done
 have UZ:∀b:xA,b∉(Gd CX P w K M n N qual d f cd A outer s H E).ex:=λb z=>absurd (show b∈([]:List xA)from z) (by simp)
 refine⟨⟨B.mod,S.kind,rfl,rfl,zY _,λy z c L j=>?_,λy F=>?_,λy c _ h=>?_,λ_=>Z,Around.frames_deeper B.frames,.inr ⟨rfl,rfl⟩,λb z=>absurd z (UZ b),B.bs,B.RT,λb _ _=>UZ b,λb z=>absurd z (UZ b),B.TH,B.QV⟩,
  rfl,B.bare,Un.kept hk,⟨_,x.toInCall.ns,λi y v L j h3=>?_⟩,λy c h=>⟨_,x.cell y c h⟩,B.OB.fresh (zY _),λy c h=>?_,λp hp=>absurd (show p∈([]:List (xA×Obj))from hp) (by simp),B.OB.kept hk,?_⟩
 .exact name_of_addr x.apart (zd L) (zd j)
 .have F:=F;rcases F with F|F
  .exact cB F
  exact absurd rfl (S.Q1 _ (zd F))
 .exact Nat.le_of_lt (x.above y c (zd h))
 .have J:i<vs.length:=by
   unfold start at j;by_cases J:i<vs.length
   .exact J
   rw[zC (by simpa using J)]at j;rw[jv]at j
   split at j<;>cases j
  have U:vs[i]?=u4 v:=by
   unfold start at j;rw[zP (by simpa using J),zw]at j;cases e:vs[i]? with
   |none=>rw[e]at j;cases j
   |some a=>rw[e]at j;cases j;rfl
  obtain⟨u,O,rv⟩:=r.get U;have hp:ps[i]?=u4 y:=by rw[<-S.pre,jA (by lia)];exact L
  have I:ps.Nodup:=by rw[<-S.pre];exact S.nd.sublist (List.take_sublist _ _)
  refine⟨u,rv,?_⟩;rcases S.par y (jW hp)with k|k
  .exact .inl ⟨k,bx I hp O k⟩
  obtain⟨c,e⟩:=cB k;refine .inr ⟨.inl k,c,e,?_⟩;have q:=x.cell y c e;rw[bz I hp O (by show d.names.lookup y≠_;rw[k];decide)]at q;exact q
 .exact B.OB.fresh (Nat.le_of_lt (x.above y c (zd h)))
 unfold start;show _=N.length;rw[qQ,zO,xZ];lia
theorem Zh{CX:MP}{w:xM}{K:za}{mg:Str->Option xL}{i:Heap}{k:Nat}{f:xA}{name qual:Str}{j:Arguments}{body:List xI}{d:xG}{dV kV U pm z ct oc:xL}{an od:Option xA}
  {Sm:Array (Option xL)} {N ps:List Str} {sp:Sp} (lk:K.lookup f=u4 ⟨oc,od,.func (qg name qual j body d dV kV U pm an z ct),Sm⟩) (hcd:vT K z qual=u6) (S:UC N ps d)
  (len:∀vs H Q E,sp vs H Q E->vs.length=ps.length)
  (F:∀(A:xB)(outer:List Env)(s:xH)(H:Hp)(vs:List V)(Q:VK)(E:XK),NC k (A.deeper (envOfC qual d s.heap.objs.size f z))->sp vs H Q E->
   ∃t,RN (Gd CX P w K mg i N qual d f z A outer s H E) body t/\t {nx:=λ_ H'=>Q .WA H',rt:=Q} (start N vs) H):
  QD P w K mg i CX (k+1) f (qg name qual j body d dV kV U pm an z ct) ps sp:=by
 refine⟨len,λA outer s H args us vs Q E hr O hb r Y=>?_⟩;have hl:=len _ _ _ _ Y;have KX:=O.mod.ZZ.keeps λb o e=>(O.bs b o e).1
 have I:∀y∈ps.zip us,d.names.lookup y.1=u4 .local\/(d.names.lookup y.1=u4 .cell/\((cellsFrom (s.heap.objs.size+1) d.names []).lookup y.1).isSome=u6):=λ⟨n,v⟩ hy=>by
  rcases S.par n (List.of_mem_zip hy).1 with q|q
  .exact .inl q
  exact .inr ⟨q,wv _ _ _ (.inl q)⟩
 refine codeAny_call_function hr.depth (KX _ _ lk) rfl S.co S.gen rfl (PySem.W.codeRec_of KX hcd) (hb _ _ _ _ ?_);refine wpAny_newFunctionEnv_cells S.kind I λenv he s1 x=>?_
 subst he;refine⟨(O.mod.nolimit.keeps λb o e=>(O.bs b o e).1).keeps x.toInCall.keep,codeAny_func ?_⟩;obtain⟨t,ht,hq⟩:=F A outer s H vs Q E (hr.deeper _) Y;refine vG (ht [] s1 (start N vs) H _ (pM S hr.hd O hl r x) hq) (λfl Z M=>?_) λe Z M=>M
 have L:∀{B:St}{H':Hp}{v:V}{u:xL},Inv (Gd CX P w K mg i N qual d f z A outer s H E) [] B H' Z->RelV v u->Q v H'->CE outer P w H s Q u Z:=
  λ{B H' v u}J rv q=>⟨v,H',J.os,J.bare,J.base,J.OB,rv,q⟩
 cases fl with
 |ret u=>
  obtain⟨v,B,H',J,rv,q⟩:=M;exact L J rv q
 |next=>
  obtain⟨B,H',J,q⟩:=M;exact L (v:=V.WA) J rfl q
 |_=>
  obtain⟨_,_,_,q⟩:=M;exact False.elim q
section
variable{X:Cx}{x:Str}{p pos:Pos}{e:xC}{es:List xC}{t:TA}{id T:String}{r:List V->Hp->VK->Prop}
noncomputable def tCB(r:List V->Hp->VK->Prop)(t:TA):TE:=λσ H Q=>t σ H λvs H1=>r vs H1 Q
def pN(Y:WB X (.builtin id) r)(q:Gl X x)(S:X.mg x=u5)(B:xU x=u4 (.builtin id))(z:PA X (e::es) t)(M:x≠"__name__":=by decide)(j:(x==("__debug__":Str))=u7:=by decide)
  (N:vx (e::es) X.env=(u7,eval e X.env)::vx es X.env:=by rfl) (i:(xP pos (vx es X.env)).any (·.1)=u7:=by rfl):PE X (.Call (.Name x p) (e::es) [] pos) (tCB r t):=by
 intro d s n H Q I h;exact vA (Hn I q S B (ww (QB (z pos d s n H _ I h) λL W ⟨y,J,F,U,O⟩=>Y d W n J y L Q F U O) N i) M j)
def pO(Y:WB X (.type T) r)(q:Gl X x)(S:X.mg x=u5)(B:xU x=u4 (.type T))(z:PA X (e::es) t)(M:x≠"__name__":=by decide)(j:(x==("__debug__":Str))=u7:=by decide)
  (N:vx (e::es) X.env=(u7,eval e X.env)::vx es X.env:=by rfl) (i:(xP pos (vx es X.env)).any (·.1)=u7:=by rfl):PE X (.Call (.Name x p) (e::es) [] pos) (tCB r t):=by
 intro d s n H Q I h;exact vA (Hn I q S B (zg (QB (z pos d s n H _ I h) λL W ⟨y,J,F,U,O⟩=>Y d W n J y L Q F U O) N i) M j)
end
end _L
namespace HT
open PySem PyProof.Rows
section
open PySem.SeqAt
open PySem.AutoSeq1 (wpAny_loadPart')
open PySem.MeetsSeq PySem.MeetsSeq2 PySem.MeetsSeq3
end
section
variable{prog:xF}{w:xM}{A:xB}{E:xL->xH->Prop}{s:xH}
def pP(ht:IsTup s.heap t vs.toArray)(Z:IsTup s.heap b ws.toArray)(O:vs≠[])
  (Y:ws=[]->Q (.ref t) s) (h2:ws≠[]->Q (.ref s.heap.objs.size) {s with heap:=s.heap.push {cls:=.type "tuple",data:=.seq (vs++ws).toArray}})
  (QL:vs.length+ws.length<=sizeLine):vk (vY prog w) A (xT .Add (.ref t) (.ref b)) Q E s:=by
 obtain⟨⟨I,N,y,W⟩,B,M,n,U⟩:=id ht;obtain⟨⟨L,z,J,q⟩,i,WS,S,j⟩:=id Z;simp only at M U WS j;subst M U WS j;have e:vs.toArray++ws.toArray=(vs++ws).toArray:=by simp
 by_cases hw:ws=[]
 .exact concat_meets ⟨_,B,rfl⟩ ⟨_,i,rfl⟩ noFill_tuple_add seq_tuple_add wk w4 (w5 _ _)
   (tuple_addW1 t b vs.toArray ws.toArray n S N z W q (by simpa using O) (by simp[hw])) ⟨B,i,Y hw⟩
 refine concat_meets ⟨_,B,rfl⟩ ⟨_,i,rfl⟩ noFill_tuple_add seq_tuple_add wk w4 (w5 _ _)
  (tuple_addW2 t b vs.toArray ws.toArray n S N z W q (by simpa using O) (by simpa using hw) (by rw[zq,zq];exact QL)) ⟨B,i,?_⟩
 rw[e];exact h2 hw
noncomputable def ZB(n d:Nat):Option Int->Nat
 |none=>d
 |some v=>if v<0 then(v+(n:Int)).toNat else min v.toNat n
theorem pQ(n d:Nat)(j:d<=n)(o:Option Int):ZB n d o<=n:=by
 cases o with
 |none=>exact j
 |some v=>
  show(if v<0 then(v+(n:Int)).toNat else min v.toNat n)<=n;by_cases i:v<0
  .rw[if_pos i];lia
  rw[if_neg i];exact Nat.min_le_right _ _
def cC(v:Int)(n d:Nat):(if v<0 then max (v+(n:Int)) 0 else min v (n:Int))=((ZB n d (u4 v):Nat):Int):=by
 show(if v<0 then max (v+(n:Int)) 0 else min v (n:Int))=(((if v<0 then(v+(n:Int)).toNat else min v.toNat n):Nat):Int);by_cases i:v<0
 .simp only[if_pos i];lia
 simp[if_neg i];lia
theorem pR(lo hi:Option Int)(n:Nat):Builtin.Slice.sliceAdjust lo hi 1 (n:Int)=(((ZB n 0 lo:Nat):Int),((ZB n n hi:Nat):Int)):=by
 have d:¬((1:Int)<0):=by lia
 unfold Builtin.Slice.sliceAdjust;simp only[d,if_false];refine Prod.ext ?_ ?_
 .cases lo with
  |none=>rfl
  |some v=>exact cC v n 0
 cases hi with
 |none=>rfl
 |some v=>exact cC v n n
def pS(i j:Nat):Builtin.Slice.slicePlaces (i:Int) (j:Int) 1=j-i:=by
 unfold Builtin.Slice.slicePlaces;have d:(1:Int)>0:=by lia
 simp[d,if_true,Int.ediv_one]
 split <;> lia
theorem cD(p:IsPart v o)(h:Q o s):vk (vY prog w) A (Builtin.Slice.slicePartIndex v) Q E s:=by
 cases p with
 |none=>exact slicePart_none h
 |int i t=>exact slicePart_int h
def cE{y:xA}{j q:xL}{lo hi:Option Int}{n:Nat}{Q:Int×Int×Nat->xH->Prop}(z:s.heap.IsSliceOf y j q .none)(pl:IsPart j lo)(B:IsPart q hi)
  (h:Q (((ZB n 0 lo:Nat):Int),1,ZB n n hi-ZB n 0 lo) s):vk (vY prog w) A (Builtin.Slice.sliceApplied (.ref y) (pure (n:Int))) Q E s:=by
 obtain⟨F,d,RV,i⟩:=id z;unfold Builtin.Slice.sliceApplied Builtin.Slice.sliceFields;refine vB (vB (vE d i (x:=j) rfl (vB (vE d i (x:=q) rfl (vB (vE d i rfl (vL ?_)))))));refine vB (slicePart_none ?_);rw[if_neg (by decide)];refine vB (cD pl (vB (cD B (vB (vL ?_)))))
 show vk _ _ (match Builtin.Slice.sliceAdjust lo hi 1 (n:Int)with |(lo,hi)=>pure (lo,(1:Int),Builtin.Slice.slicePlaces lo hi 1)) _ _ s
 rw[pR lo hi n];show vk _ _ (pure (((ZB n 0 lo:Nat):Int),(1:Int),Builtin.Slice.slicePlaces ((ZB n 0 lo:Nat):Int) ((ZB n n hi:Nat):Int) 1)) _ _ s;rw[pS];exact vL h
def pT(xs:Array xL)(i k:Nat):((zQ k).filterMap λ(m:Nat)=>xs[((i:Int)+(m:Int)*1).toNat]?).toArray=((xs.toList.drop i).take k).toArray:=by
 have e:(λ(m:Nat)=>xs[((i:Int)+(m:Int)*1).toNat]?)=λm=>xs[i+m]? :=by
  funext m;have:((i:Int)+(m:Int)*1).toNat=i+m:=by lia
  rw[this]
 rw[e];have:=pick_run xs i k;rw[qq]at this;have d:((λx=>xs[x]?) ∘ λx=>i+x)=λm=>xs[i+m]? :=rfl
 rw[d]at this;rw[this]
def pU{t sl:xA}{items:Array xL}{vl vu:xL}{lo hi:Option Int}{Q:xL->xH->Prop}(ht:IsTup s.heap t items)(hs:s.heap.IsSliceOf sl vl vu .none)(pl:IsPart vl lo)(pu:IsPart vu hi)
  (hw:¬(ZB items.size 0 lo=0/\ZB items.size items.size hi=items.size))
  (h:Q (.ref s.heap.objs.size) {s with heap:=s.heap.push {cls:=.type "tuple",data:=.seq ((items.toList.drop (ZB items.size 0 lo)).take (ZB items.size items.size hi-ZB items.size 0 lo)).toArray}})
  (QL:items.size<=sizeLine):vk (vY prog w) A (getItem (.ref t) (.ref sl)) Q E s:=by
 have MR:sizeOk (.seq ((items.toList.drop (ZB items.size 0 lo)).take (ZB items.size items.size hi-ZB items.size 0 lo)).toArray):=by show((items.toList.drop (ZB items.size 0 lo)).take (ZB items.size items.size hi-ZB items.size 0 lo)).toArray.size<=sizeLine;rw[zq,jB,xJ,qC];lia
 obtain⟨os,hos,RV,hds⟩:=id hs;unfold getItem
 try with_reducible refine vF ?_
 first|refine vB (vL ?_)|skip
 refine vB (wpAny_sequenceKey ht.typeIs (by decide) ?_);refine vB (vC ht.typeIs jd
  (vD jd ht.typeIs entry_tuple_getitem ?_ (args_tuple_getitem _ _)))
 show vk _ _ (Builtin.Tuple.tupleItemsOf (.ref t) >>=_) _ _ s;refine vB (tupleItemsOf_ ht ?_);refine vB (wpAny_typeOf ⟨os,hos,RV⟩ ?_);rw[if_pos (by decide)];refine vB (cE hs pl pu ?_);have hno:¬((((ZB items.size 0 lo:Nat):Int)==0&&(1:Int)==1&&(ZB items.size items.size hi-ZB items.size 0 lo)==items.size)=u6):=by intro q;rw[z7,z7]at q;have q1:=eq_of_beq q.1.1;have q2:=eq_of_beq q.2;exact hw ⟨by lia,by lia⟩
 show vk _ _ (if(((ZB items.size 0 lo:Nat):Int)==0&&(1:Int)==1&&(ZB items.size items.size hi-ZB items.size 0 lo)==items.size)=u6 then _ else _) _ _ s;rw[if_neg hno,pT]
 first
  |exact vB (vH (vL ⟨_,rfl,vL h⟩) MR)
  |exact vB (vH (vB (vL (vL ⟨_,rfl,vL h⟩))) MR)
  |exact vB (vB (vH (vL (vL ⟨_,rfl,vL h⟩)) MR))
  |exact vB (vB (vH (vL ⟨_,rfl,vL h⟩) MR))
end
end HT
namespace _L
open PySem PySem.Spec PyProof.Rows
variable{vS:List (xA×Obj)}{s:xH}
abbrev TO:=St->Hp->(Option Int->Hp->Prop)->Prop
def PO(X:Cx)(e:Option xC)(t:TO):Prop:=
 ∀(vS:List (xA×Obj))(s:xH)(σ:St)(H:Hp)(Q:Option Int->Hp->Prop),Inv X vS σ H s->t σ H Q->
  vk (vY X.prog X.w) X.A (evalPart e X.env) (λu s'=>∃o H',Inv X vS σ H' s'/\IsPart u o/\Q o H') X.xe s
def pV:TO:=λ_ H Q=>Q u5 H
noncomputable def pW(t:TE):TO:=λσ H Q=>t σ H λx H1=>∃i,x=.int i/\Q (u4 i) H1
section
variable{X:Cx}{e:xC}{te:TE}{lo hi:Option xC}{tl th:TO}{pos p2:Pos}
def pX:PO X u5 pV:=by intro d s i H Q I h;rw[evalPart_none];exact vL ⟨u5,H,I,.none,h⟩
def pY(h:PE X e te):PO X (u4 e) (pW te):=by
 intro d s B H Q I hw;rw[evalPart_some];refine QB (h d s B H _ I hw) λu J j=>?_
 obtain⟨x,y,n,F,z⟩:=j;obtain⟨i,rfl,q⟩:=z;obtain⟨t,rfl⟩:=F;exact⟨u4 i,y,n,.int i t,q⟩
def OX(X:Cx)(r:V->Option Int->Option Int->Hp->VK->Prop):Prop:=
 ∀(vS:List (xA×Obj))(s:xH)(σ:St)(H:Hp)(x:V)(v vl vu:xL)(lo hi:Option Int)(sl:xA)(Q:VK),Inv X vS σ H s->RelV x v->s.heap.IsSliceOf sl vl vu .none->IsPart vl lo->IsPart vu hi->r x lo hi H Q->
  ∃T id,typeLookup (.type T) "__getitem__"=pure (u4 (.builtin id))/\s.TypeIs v T/\vk (vY X.prog X.w) X.A (getItem v (.ref sl)) (EP X vS σ Q) X.xe s
def OX.or(h:OX X r)(h':OX X r'):OX X (λx lo hi H Q=>r x lo hi H Q\/r' x lo hi H Q):=by
 intro d s z H x v i n lo hi y Q I B j pl F q;rcases q with q|q
 .exact h d s z H x v i n lo hi y Q I B j pl F q
 exact h' d s z H x v i n lo hi y Q I B j pl F q
noncomputable def tSl(r:V->Option Int->Option Int->Hp->VK->Prop)(te:TE)(tl th:TO):TE:=λσ H Q=>te σ H λx H1=>tl σ H1 λl H2=>th σ H2 λu H3=>r x l u H3 Q
def pZ(hr:OX X r)(W:PE X e te)(hl:PO X lo tl)(hu:PO X hi th):PE X (.Subscript e (.Slice lo hi u5 p2) pos) (tSl r te tl th):=by
 intro d s j H Q I h;refine Subscript_ (QB (W d s j H _ I h) λv s1 y=>?_);obtain⟨x,S,I1,L,Y⟩:=y;refine wpAny_Slice (QB (hl d s1 j S _ I1 Y) λz M ⟨l,U,I2,pl,q2⟩=>QB (hu d M j U _ I2 q2) λB n y=>?_);obtain⟨u,H3,Z,N,q3⟩:=y;rw[evalPart_none];refine vL ?_;obtain⟨T,id,J,ht,O⟩:=hr d {n with heap:=n.heap.push {cls:=.type "slice",data:=.fields #[z,B,.none]}} j H3 x v z B l u n.heap.objs.size Q (Z.kept (t':=n.toks) λb ob q=>zZ _ q) L (Heap.IsSliceOf.new ..) pl N q3
 exact tail_any ht J O (by with_unfolding_all rfl)
def Mm(xs:List V)(lo hi:Option Int):List V:=(xs.drop (HT.ZB xs.length 0 lo)).take (HT.ZB xs.length xs.length hi-HT.ZB xs.length 0 lo)
def cF(xs:List V)(lo hi:Option Int):(Mm xs lo hi).length<=xs.length:=by unfold Mm;rw[jB,xJ];lia
def rSlT(K:za):V->Option Int->Option Int->Hp->VK->Prop:=λx lo hi H Q=>∃a xs,x=.ref a/\RH K H a xs/\
 ¬(HT.ZB xs.length 0 lo=0/\HT.ZB xs.length xs.length hi=xs.length)/\∀p,H p=u5->Q (.ref p) (upd H p (.tup (Mm xs lo hi)))
def p9:OX X (rSlT X.K):=by
 intro z s Y H x v O S j y U Q I M J pl N h;obtain⟨a,i,rfl,L,hw,q⟩:=h;cases M;obtain⟨n,r,B,F⟩:=I.tuple L;have d:n.toArray.size=i.length:=zq▸r.length.symm;refine⟨"tuple",_,PyProof.Rows.slot_tuple_getitem.lookup,B.typeIs,?_⟩;refine HT.pU B J pl N (d▸hw) ?_ (d▸F);rw[d];refine⟨.ref s.heap.objs.size,_,I.laid (λb W q=>zZ _ q) (zY _) ?_,rfl,q _ (I.OB.fresh (zY _))⟩
 exact⟨z8 (cF i j y) F,_,(r.drop (HT.ZB i.length 0 j)).take (HT.ZB i.length i.length y-HT.ZB i.length 0 j),IsTup.new _ _⟩
def pa(K:za):R2:=λx y H Q=>∃a b xs ys,x=.ref a/\y=.ref b/\RH K H a xs/\RH K H b ys/\xs≠[]/\xs.length+ys.length<=sizeLine/\
 (ys=[]->Q (.ref a) H)/\(ys≠[]->∀p,H p=u5->Q (.ref p) (upd H p (.tup (xs++ys))))
theorem Vals.Xm(r:Vals xs us):us=[]↔xs=[]:=by
 cases r with
 |_=>simp
def pd:WC X (xT .Add) (pa X.K):=by
 intro j s Z H x y v u Q I S O h;obtain⟨a,b,xs,ys,rfl,rfl,F,L,U,B,M,Y⟩:=h;cases S;cases O;obtain⟨W,i,J,_⟩:=I.tuple F;obtain⟨n,d,N,_⟩:=I.tuple L;refine HT.pP J N (λz=>U (i.Xm.mp z)) (λz=>⟨.ref a,H,I,rfl,M (d.Xm.mp z)⟩) (λz=>?_) (by rw[<-i.length,<-d.length];exact B);refine⟨.ref s.heap.objs.size,_,I.laid (λb ob q=>zZ _ q) (zY _) ?_,rfl,Y (λw=>z (d.Xm.mpr w)) _ (I.OB.fresh (zY _))⟩
 exact⟨qQ▸B,_,i.append d,IsTup.new _ _⟩
end
noncomputable def VT(n:Nat)(i:Int):Option Nat:=if 0<=i then(if i<n then u4 i.toNat else u5)else if -(n:Int)<=i then u4 (i+n).toNat else u5
def YC{α:Type}(xs:List α)(i:Int):Option α:=(VT xs.length i).bind λj=>xs[j]?
def cG(h:VT n i=u4 j):seqIndex? i n=u4 j/\j<n/\ -(n:Int)<=i/\i<n:=by
 unfold VT at h;by_cases q:0<=i
 .rw[if_pos q]at h;by_cases d:i<n
  .rw[if_pos d]at h;have e:=Option.some.inj h;exact⟨by rw[seqIndex_of q d,e],by lia,by lia,d⟩
  rw[if_neg d]at h;cases h
 rw[if_neg q]at h;by_cases d: -(n:Int)<=i
 .rw[if_pos d]at h;have e:=Option.some.inj h;exact⟨by rw[seqIndex_neg (by lia) d,e],by lia,d,by lia⟩
 rw[if_neg d]at h;cases h
theorem Ua{d:Type}{xs:List d}{i:Int}{v:d}(h:YC xs i=u4 v):∃j,seqIndex? i xs.length=u4 j/\xs[j]?=u4 v/\j<xs.length/\ -(xs.length:Int)<=i/\i<xs.length:=by
 unfold YC at h;cases e:VT xs.length i with
 |none=>rw[e]at h;cases h
 |some j=>
  rw[e]at h;obtain⟨q,z,y,n⟩:=cG e;exact⟨j,q,h,z,y,n⟩
def PM(b:xC):Prop:=∀o i,subscripted b u7 o i=operate [o,i] (getItem o i)
def VM(X:Cx)(r:R2):Prop:=
 ∀(value slice:xC)(vS:List (xA×Obj))(s:xH)(σ:St)(H:Hp)(x y:V)(v u:xL)(Q:VK),Inv X vS σ H s->RelV x v->RelV y u->r x y H Q->
  subscripted slice u7 v u=operate [v,u] (getItem v u)->vk (vY X.prog X.w) X.A (subscriptTail value slice v u) (EP X vS σ Q) X.xe s
def MtR(X:Cx)(id:String)(r:V->List V->Hp->VK->Prop):Prop:=
 ∀(vS:List (xA×Obj))(s:xH)(σ:St)(H:Hp)(x:V)(xs:List V)(v:xL)(us:List xL)(Q:VK),Inv X vS σ H s->RelV x v->Vals xs us->r x xs H Q->
  vk (vY X.prog X.w) X.A (call (.builtin id) (v::us)) (EP X vS σ Q) X.xe s
section
variable{X:Cx}{a b:xC}{ta tb:TE}{pos:Pos}
def VM.or(h:VM X r)(h':VM X r'):VM X (λx y H Q=>r x y H Q\/r' x y H Q):=by
 intro d i j s z H x y v u Q I B n q F;rcases q with q|q
 .exact h d i j s z H x y v u Q I B n q F
 exact h' d i j s z H x y v u Q I B n q F
def cH(F:VM X r)(i:PE X a ta)(n:PE X b tb)(L:PM b):PE X (.Subscript a b pos) (Ta r ta tb):=by intro d s z H Q I h;exact Subscript_ (aD i n I h λv u J x y j N M B q=>F a b d J z j x y v u Q N M B q (L _ _))
def Mn(K:za):R2:=λx y H Q=>∃p xs i v,x=.ref p/\y=.int i/\NH K H p xs/\YC xs i=u4 v/\Q v H
def Nn(K:za):R2:=λx y H Q=>∃p xs i v,x=.ref p/\y=.int i/\RH K H p xs/\YC xs i=u4 v/\Q v H
def Sn:R2:=λx y H Q=>∃z i c,x=.str z/\y=.int i/\z.length<=sizeLine/\YC z.cps.toList i=u4 c/\Q (.str ⟨#[c]⟩) H
def ph:VM X (Mn X.K):=by
 intro value slice vS s σ H x y v u Q I rx ry h hs;obtain⟨p,xs,i,z,rfl,rfl,hq,he,q⟩:=h;cases rx;obtain⟨t,rfl⟩:=ry;obtain⟨VA,r,pl,hz⟩:=I.list hq;obtain⟨j,h1,h2,h3,h4,h5⟩:=Ua he;obtain⟨w,ew,YR⟩:=r.get h2;have hl:=r.length;have hn:=VH;have fin:EP X vS σ Q w s:=⟨z,H,I,YR,q⟩;by_cases h0:0<=i
 .have hj:i.toNat=j:=by rw[seqIndex_of h0 h5]at h1;exact Option.some.inj h1
  exact item_listR pl.isList h0 (by lia) (by rw[hj];simpa using ew) fin hs
 have hj:(i+(VA.toArray.size:Int)).toNat=j:=by rw[seqIndex_neg (by lia) h4]at h1;rw[zq,<-hl];exact Option.some.inj h1
 exact subscriptTail_builtinR pl.isList.typeIs slot_list_getitem.lookup
  (wpAny_getItem_list_neg pl.isList (by lia) (by rw[zq]<;>lia) (by lia) (by rw[hj];simpa using ew) ⟨rfl,fin⟩) hs
def pj:VM X (Nn X.K):=by
 intro value slice vS s σ H x y v u Q I rx ry h hs;obtain⟨p,xs,i,z,rfl,rfl,hq,he,q⟩:=h;cases rx;obtain⟨t,rfl⟩:=ry;obtain⟨VA,r,pl,hz⟩:=I.tuple hq;obtain⟨j,h1,h2,h3,h4,h5⟩:=Ua he;obtain⟨w,ew,YR⟩:=r.get h2;have hn:=VH;exact subscriptTail_builtinR pl.typeIs slot_tuple_getitem.lookup
  (getItem_tuple pl (by lia) (by lia) (by rw[zq,<-r.length];exact h1) (by simpa using ew) ⟨rfl,⟨z,H,I,YR,q⟩⟩) hs
def pk:VM X Sn:=by
 intro value slice vS s σ H x y v u Q I rx ry h hs;obtain⟨z,i,c,rfl,rfl,hz,he,q⟩:=h;obtain⟨t,rfl⟩:=rx;obtain⟨t',rfl⟩:=ry;obtain⟨j,h1,h2,h3,h4,h5⟩:=Ua he;have hl:z.cps.toList.length=z.length:=by simp[Str.length]
 rw[hl]at h1 h4 h5;have hn:=VH;exact tail_any (typeIs_str s z t) slot_str_getitem.lookup (getItem_str (by rw[decide_eq_false (by lia),decide_eq_false (by lia),Bool.or_false]) (by rw[h1];simpa using h2) ⟨.str ⟨#[c]⟩,H,I.tok _,⟨_,rfl⟩,q⟩) hs
def rIx(K:za):R2:=λx y H Q=>Mn K x y H Q\/Nn K x y H Q\/Sn x y H Q
def pq:VM X (rIx X.K):=ph.or (pj.or pk)
def px(VA:List xL)(n j:Nat)(u:xL):Obj.mapSeq (·.setIfInBounds j u) {cls:=.type "list",data:=.seq VA.toArray n}={cls:=.type "list",data:=.seq (VA.set j u).toArray n}:=by simp[Obj.mapSeq]
def Inv.lst{d:St}{H:Hp}{p:xA}{xs:List V}(I:Inv X vS d H s)(h:H p=u4 (.lst xs)):
  ∃(VA:List xL)(n:Nat),Vals xs VA/\s.heap.get? p=u4 {cls:=.type "list",data:=.seq VA.toArray n}/\xs.length<=sizeLine:=by
 obtain⟨z,VA,n,r,e⟩:=I.OB p _ h;exact⟨VA,n,r,e,z⟩
def Inv.pz{z:St}{H:Hp}{p:xA}{xs ys:List V}{VA SN:List xL}{n i:Nat}{f:Obj->Obj}(I:Inv X vS z H s)(h:H p=u4 (.lst xs))
  (ho:s.heap.get? p=u4 {cls:=.type "list",data:=.seq VA.toArray n}) (j:f {cls:=.type "list",data:=.seq VA.toArray n}={cls:=.type "list",data:=.seq SN.toArray i}) (r:Vals ys SN) (hz:ys.length<=sizeLine) (t:Nat):
  Inv X vS z (upd H p (.lst ys)) {s with heap:=s.heap.update p f,toks:=t}:=by
 have e:(s.heap.update p f).get? p=u4 {cls:=.type "list",data:=.seq SN.toArray i}:=by rw[q8 f ho (by rw[j]<;>rfl),j]
 exact I.write (by rw[h];trivial) (.inl rfl) (λb u B q=>(qA _ _ (Ne.symm B)).trans q) ⟨_,e⟩ ⟨hz,SN,i,r,e⟩
def ql:V->V->V->Hp->(Hp->Prop)->Prop:=λo i v H Q=>∃p xs k j,o=.ref p/\i=.int k/\H p=u4 (.lst xs)/\VT xs.length k=u4 j/\Q (upd H p (.lst (xs.set j v)))
def set_list:Sk X ql:=by
 intro vS s σ H o i v ov iv u Q I ro ri rv h;obtain⟨p,xs,k,j,rfl,rfl,hp,hj,q⟩:=h;cases ro;obtain⟨t,rfl⟩:=ri;obtain⟨VA,n,r,ho,hz⟩:=I.lst hp;obtain⟨h1,h2,h3,h4⟩:=cG hj;have hl:=r.length;have hn:=VH;have I':=
  I.pz hp ho (px VA n j u) (r.set rv j) (by rw[jE];exact hz) s.toks
 by_cases h0:0<=k
 .have hk:k.toNat=j:=by rw[seqIndex_of h0 h4]at h1;exact Option.some.inj h1
  exact PySem.W.ki_setAt ho h0 (by lia) (by rw[zq,<-hl];exact h4) (by rw[hk];exact⟨_,I',q⟩)
 have hk:(k+(VA.toArray.size:Int)).toNat=j:=by rw[seqIndex_neg (by lia) h3]at h1;rw[zq,<-hl];exact Option.some.inj h1
 exact PySem.W.ki_setBack ho (by lia) (by rw[zq,<-hl];exact h3) (by lia) (by rw[hk];exact⟨_,I',q⟩)
theorem qm(lo hi:Option Int)(n:Nat):(vj lo hi u5 n).1=((HT.ZB n 0 lo:Nat):Int)/\(vj lo hi u5 n).2.1=((HT.ZB n n hi:Nat):Int)/\(vj lo hi u5 n).2.2=1:=by
 refine⟨?_,?_,rfl⟩
 .cases lo with
  |none=>simp[vj,HT.ZB]
  |some i=>
   simp[vj,HT.ZB,Option.getD_none,show(1:Int)>0 by decide,if_true];by_cases h:i<0
   .simp only[h,if_true]<;>lia
   simp[h,if_false]<;>lia
 cases hi with
 |none=>simp[vj,HT.ZB]
 |some i=>
  simp[vj,HT.ZB,Option.getD_none,show(1:Int)>0 by decide,if_true];by_cases h:i<0
  .simp only[h,if_true]<;>lia
  simp[h,if_false]<;>lia
def qo(VA:List xL)(lo hi:Option Int):slicePick VA.toArray lo hi u5=((VA.drop (HT.ZB VA.length 0 lo)).take (HT.ZB VA.length VA.length hi-HT.ZB VA.length 0 lo)).toArray:=by
 obtain⟨j,i,d⟩:=qm lo hi VA.toArray.size;unfold slicePick;rw[j,i,d]
 simp only[sliceRange_one,pick_run,zq]<;>rfl
def Mo(K:za):V->Option Int->Option Int->Hp->VK->Prop:=λx lo hi H Q=>∃a xs,x=.ref a/\NH K H a xs/\∀p,H p=u5->Q (.ref p) (upd H p (.lst (Mm xs lo hi)))
def qp:OX X (Mo X.K):=by
 intro y s Y H x v O S j n U Q I M B pl N h;obtain⟨a,i,rfl,F,q⟩:=h;cases M;obtain⟨L,r,z,J⟩:=I.list F;have d:=r.length;refine⟨"list",_,slot_list_getitem.lookup,z.isList.typeIs,?_⟩
 refine wpAny_getItem_list_slice z.isList B pl N .none (by simp) ?_ (by rw[zq]<;>lia)
 rw[qo,<-d];refine⟨.ref s.heap.objs.size,_,I.laid (λb W q=>zZ _ q) (zY _) ?_,rfl,q _ (I.OB.fresh (zY _))⟩;exact⟨z8 (cF i j n) J,_,0,(r.drop (HT.ZB i.length 0 j)).take (HT.ZB i.length i.length n-HT.ZB i.length 0 j),z6 _ rfl⟩
noncomputable def Dc:V->Bool
 |.WA=>u6
 |.bl _=>u6
 |.int _=>u6
 |.str _=>u6
 |_=>u7
noncomputable def NR:V->V->Bool
 |.WA,.WA=>u6
 |.bl a,.bl b=>a==b
 |.bl a,.int b=>(if a then 1 else 0)==b
 |.int a,.bl b=>a==(if b then 1 else 0)
 |.int a,.int b=>a==b
 |.str a,.str b=>a==b
 |_,_=>u7
theorem cJ(j:RelV y u)(d:RelV x v)(q:Dc y=u6)(n:Dc x=u6):SeqAt.EqAt A s u v (NR y x):=by
 cases y with
 |WA=>
  cases j;cases x with
  |WA=>cases d;exact SeqAt.EqAt.same _
  |bl b=>cases d;exact SeqAt.EqAt.none_bool b
  |int b=>obtain⟨t,rfl⟩:=d;exact SeqAt.EqAt.none_int b t
  |str b=>obtain⟨t,rfl⟩:=d;exact SeqAt.EqAt.none_str b t
  |_=>exact absurd (n) z5
 |bl a=>
  cases j;cases x with
  |WA=>cases d;exact SeqAt.EqAt.bool_none a
  |bl b=>cases d;exact SeqAt.EqAt.bool_bool a b
  |int b=>obtain⟨t,rfl⟩:=d;exact SeqAt.EqAt.bool_int a b t
  |str b=>obtain⟨t,rfl⟩:=d;exact SeqAt.EqAt.bool_str a b t
  |_=>exact absurd (n) z5
 |int a=>
  obtain⟨i,rfl⟩:=j;cases x with
  |WA=>cases d;exact SeqAt.EqAt.int_none a i
  |bl b=>cases d;exact SeqAt.EqAt.int_bool a i b
  |int b=>obtain⟨t,rfl⟩:=d;exact SeqAt.EqAt.int_int a i b t
  |str b=>obtain⟨t,rfl⟩:=d;exact vf a i b t
  |_=>exact absurd (n) z5
 |str a=>
  obtain⟨i,rfl⟩:=j;cases x with
  |WA=>cases d;exact SeqAt.EqAt.str_none a i
  |bl b=>cases d;exact SeqAt.EqAt.str_bool a i b
  |int b=>obtain⟨t,rfl⟩:=d;exact vg a i b t
  |str b=>obtain⟨t,rfl⟩:=d;exact SeqAt.EqAt.str_str a i b t
  |_=>exact absurd (n) z5
 |_=>exact absurd (q) z5
def PX(x:V)(u:xL):Bool:=match u with
 |.none=>NR .WA x
 |.bool b=>NR (.bl b) x
 |.int i _=>NR (.int i) x
 |.str z _=>NR (.str z) x
 |_=>u7
theorem cK(r:RelV y u)(f:Dc y=u6):PX x u=NR y x:=by
 cases y with
 |WA|bl b=>cases r;rfl
 |int i|str z=>obtain⟨t,rfl⟩:=r;rfl
 |_=>exact absurd (f) z5
theorem aG:∀{xs:List V}{us:List xL},Vals xs us->xs.all Dc=u6->us.any (PX x)=xs.any λy=>NR y x
 |_,_,.nil,_=>rfl
 |y::xs,u::us,.cons r t,f=>by rw[qO,z7]at f;rw[jF,jF,cK r f.1,aG t f.2]
theorem Xx(j:RelV x v)(i:Dc x=u6):∀{xs:List V}{us:List xL},Vals xs us->xs.all Dc=u6->∀u∈us,SeqAt.EqAt A s u v (PX x u)
 |_,_,.nil,_=>λu d=>by cases d
 |y::xs,u::us,.cons r t,f=>λn d=>by
  rw[qO,z7]at f;rcases zK.mp d with rfl|d
  .rw[cK r f.1];exact cJ r j f.1 i
  exact Xx j i t f.2 n d
def Ya(x:V)(xs:List V):Bool:=xs.any λy=>NR y x
def rIn(K:za)(neg:Bool):R2:=λx y H Q=>∃p xs,y=.ref p/\(NH K H p xs\/RH K H p xs)/\Dc x=u6/\xs.all Dc=u6/\Q (.bl (if neg then !Ya x xs else Ya x xs)) H
def qr:WC X (vJ .NotIn) (rIn X.K u6):=by
 intro j s J H x y v u Q I n F h;obtain⟨p,L,rfl,i,z,fs,q⟩:=h;cases F;rcases i with i|i
 .obtain⟨d,r,pl,B⟩:=I.list i;refine w6 (PX x) pl.isList (λw hw=>Xx n z r fs w (by simpa using hw)) ⟨.bl _,H,I,rfl,?_⟩;rw[show d.toArray.any (PX x)=d.any (PX x) by simp,aG r fs];exact q
 obtain⟨d,r,pl,B⟩:=I.tuple i;refine w8 (PX x) pl (λw hw=>Xx n z r fs w (by simpa using hw)) ⟨.bl _,H,I,rfl,?_⟩;rw[show d.toArray.any (PX x)=d.any (PX x) by simp,aG r fs];exact q
def qt:WB X (.builtin "len") (λxs H Q=>∃p ys,xs=[.ref p]/\(NH X.K H p ys\/RH X.K H p ys)/\Q (.int ys.length) H):=by
 intro vS s σ H xs us Q I r h;obtain⟨p,ys,rfl,hq,q⟩:=h;obtain⟨u,rfl,rx⟩:=vals1 r;cases rx;have hn:=VH;rcases hq with hq|hq
 .obtain⟨VA,r',pl,hz⟩:=I.list hq;have hlen:=r'.length
  exact Calls.call_len_list pl.isList (by simp only[zq]<;>lia) ⟨.int ys.length,H,I.tok _,⟨s.toks+1,by rw[zq,hlen]⟩,q⟩
 obtain⟨VA,r',pl,hz⟩:=I.tuple hq;have hlen:=r'.length
 exact len_tuple pl (by simp only[zq]<;>lia) ⟨.int ys.length,H,I.tok _,⟨s.toks+1,by rw[zq,hlen]⟩,q⟩
def qu:WB X (.builtin "len") (λxs H Q=>∃z,xs=[.str z]/\z.length<=sizeLine/\Q (.int z.length) H):=by intro vS s σ H xs us Q I r h;obtain⟨z,rfl,hz,q⟩:=h;obtain⟨u,rfl,t,rfl⟩:=vals1 r;have hn:=VH;exact len_str (by lia) ⟨.int z.length,H,I.tok _,⟨_,rfl⟩,q⟩
def WB.or(h:WB X f r)(h':WB X f r'):WB X f (λxs H Q=>r xs H Q\/r' xs H Q):=by
 intro d s j H xs n Q I i q;rcases q with q|q
 .exact h d s j H xs n Q I i q
 exact h' d s j H xs n Q I i q
def rB:WB X (.type "list") (λxs H Q=>∃p ys,xs=[.ref p]/\(NH X.K H p ys\/RH X.K H p ys)/\∀l,H l=u5->Q (.ref l) (upd H l (.lst ys))):=by
 intro J s Y H xs us Q I r h;obtain⟨p,ys,rfl,F,q⟩:=h;obtain⟨u,rfl,Z⟩:=vals1 r;cases Z;have B:∀(d:List xL),Vals ys d->ys.length<=sizeLine->∀(j:Heap)(z:Nat),(∀b W,s.heap.get? b=u4 W->j.get? b=u4 W)->
   j.get? s.heap.objs.size=u4 {cls:=.type "list",dict:=u5,data:=.seq d.toArray z,slots:= #[]}->EP X J Y Q (.ref s.heap.objs.size) {s with heap:=j}:=λd y M j z L e=>
  ⟨.ref s.heap.objs.size,_,I.laid L (zY _) (show TC X.prog X.w _ j _ (.lst ys)from⟨M,d,z,y,e⟩),rfl,q _ (I.OB.fresh (zY _))⟩
 rcases F with F|F
 .obtain⟨d,y,pl,M⟩:=I.list F;have N:=y.length;obtain⟨o,S,U,n,O⟩:=pl.isList
  exact call_list_seq p (.inl rfl) S U O (λj z L e=>B d y M j z L e) (by simp[zq]<;>lia)
 obtain⟨d,y,pl,M⟩:=I.tuple F;have N:=y.length;obtain⟨o,S,U,n,O⟩:=pl
 exact call_list_seq p (.inr rfl) S U O (λj z L e=>B d y M j z L e) (by simp[zq]<;>lia)
def rC:WB X (.type "tuple") (λxs H Q=>∃p ys,xs=[.ref p]/\((NH X.K H p ys/\∀l,H l=u5->Q (.ref l) (upd H l (.tup ys)))\/(RH X.K H p ys/\Q (.ref p) H))):=by
 intro y s N H xs M Q I r h;obtain⟨p,ys,rfl,h⟩:=h;obtain⟨u,rfl,J⟩:=vals1 r;cases J;rcases h with⟨i,q⟩|⟨i,q⟩
 .obtain⟨d,j,pl,z⟩:=I.list i;have B:=j.length
  refine call_tuple_list pl.isList (λF L=>?_) (by simp[zq]<;>lia)
  have n:=I.kept (t':=s.toks) L
  exact⟨.ref F.objs.size,_,n.laid (t':=s.toks) (λb o e=>zZ _ e) (zY _) (show TC X.prog X.w _ _ _ (.tup ys)from⟨z,d,j,IsTup.new _ _⟩),rfl,q _ (n.OB.fresh (zY _))⟩
 obtain⟨d,j,pl,z⟩:=I.tuple i;exact call_tuple_same pl ⟨.ref p,H,I,rfl,q⟩
def tyV(K:za)(T:String)(x:V)(H:Hp):Prop:=match x with
 |.str _=>T="str"
 |.int _=>T="int"
 | .ref p=>(T="list"/\∃xs,NH K H p xs)\/(T="tuple"/\∃o,K.lookup p=u4 o/\o.cls=.type "tuple"/\o.dict=u5)\/
   (T="dict"/\((∃kvs,H p=u4 (.dK kvs))\/∃kvs,H p=u4 (.dT kvs)))\/(T="set"/\∃S n,H p=u4 (.set S n))
 |_=>False
theorem rD{J:St}{H:Hp}{T:String}{x:V}{v:xL}(I:Inv X vS J H s)(r:RelV x v)(ty:tyV X.K T x H):
  s.TypeIs v T/\∀a,v=.ref a->∃B,s.heap.get? a=u4 B/\B.dict=u5:=by
 cases x with
 |str z=>
  obtain⟨t,rfl⟩:=r;cases(ty);exact⟨typeIs_str s z t,nofun⟩
 |int i=>
  obtain⟨t,rfl⟩:=r;cases(ty);exact⟨typeIs_int s i t,nofun⟩
 | ref p=>
  cases r;rcases ty with⟨rfl,N,F⟩|⟨rfl,o,hk,M,j⟩|⟨rfl,hk⟩|⟨rfl,S,n,hk⟩
  .obtain⟨L,_,pl,_⟩:=I.list F;refine⟨pl.isList.typeIs,λa e=>?_⟩;cases e;obtain⟨o,n,e,c,j,_⟩:=pl;exact⟨o,e,j⟩
  .refine⟨⟨o,I.WG p o hk,M⟩,λa e=>?_⟩;cases e;exact⟨o,I.WG _ o hk,j⟩
  .have z:∃o,s.heap.get? p=u4 o/\o.ExactDict:=by
    rcases hk with⟨y,hk⟩|⟨y,hk⟩
    .obtain⟨_,_,_,_,o,_,_,e,d,_⟩:=I.OB p _ hk;exact⟨o,e,d⟩
    obtain⟨_,_,_,_,o,_,_,e,d,_⟩:=I.OB p _ hk;exact⟨o,e,d⟩
   obtain⟨o,e,d⟩:=z;refine⟨⟨o,e,d.1⟩,λa q=>?_⟩;cases q;exact⟨o,e,d.2.1⟩
  obtain⟨o,_,_,_,e,d,_⟩:=I.OB p _ hk;refine⟨⟨o,e,d.1⟩,λa q=>?_⟩;cases q;exact⟨o,e,d.2.1⟩
 |_=>exact False.elim ty
noncomputable def tBM(K:za)(T:String)(r:V->List V->Hp->VK->Prop)(to:TE)(t:TA):TE:=λσ H Q=>to σ H λx H1=>tyV K T x H1/\t σ H1 λxs H2=>r x xs H2 Q
variable{o e:xC}{es:List xC}{to:TE}{t:TA}{name:Str}{apos WD:Pos}{T id:String}{r:V->List V->Hp->VK->Prop}
def rE(Z:PlainAttrs T)(q:Slot T name id)(B:typeOf (.builtin id)=pure (.type "method_descriptor"))(hm:MtR X id r)(ho:PE X o to)(N:PA X (e::es) t)
  (n:xO o name X.env (eval o X.env)=eval o X.env:=by rfl)
  (y:((xP WD (vx (e::es) X.env)).all (λx=> !x.1)&&(xR WD (vV [] X.env)).all (λx=>x.1.isSome)
   && decide ((e::es).length+([]:List Keyword).length+(if([]:List Keyword).isEmpty then 0 else 1)<30))=u6:=by rfl)
  (j:(apos.endLine==WD.line)=u6:=by rfl) (hs:vx (e::es) X.env=(u7,eval e X.env)::vx es X.env:=by rfl) (i:(xP WD (vx es X.env)).any (·.1)=u7:=by rfl):
  PE X (.Call (.Attribute o name apos) (e::es) [] WD) (tBM X.K T r to t):=by
 intro d s z H Q I h;refine wpAny_Call_method_late n y j rfl (QB (ho d s z H _ I h) λv s1 zz=>?_);obtain⟨x,U,L,F,ty,Y⟩:=zz;obtain⟨O,h2⟩:=rD L F ty;refine⟨T,id,Z,q,B,O,h2,?_⟩;have J:=N WD d s1 z U _ L Y;rw[hs]at J⊢
 exact Calls.callWith_builtin (by show(u7||(xP WD (vx es X.env)).any (·.1))=u7;rw[i]<;>rfl) (Calls.evalArgs_plain (QB J λus S ⟨M,W,I2,r2,q2⟩=>hm d S z W x M v us Q I2 F r2 q2))
end
def SV(X:Cx)(id:String)(r:V->List V->Hp->VK->Prop):Prop:=
 ∀(vS:List (xA×Obj))(s:xH)(σ:St)(H:Hp)(x:V)(xs:List V)(v:xL)(us:List xL)(Q:VK),Inv X vS σ H s->RelV x v->Vals xs us->r x xs H Q->
  vk (vY X.prog X.w) X.A (call (.builtin id) (v::us)) (EP X vS σ Q) X.xe s
def Vals.one:∀{x:V}{us:List xL},Vals [x] us->∃u,us=[u]/\RelV x u:=by intro x us h;cases h with |cons r t=>cases t;exact⟨_,rfl,r⟩
theorem Vals.rep(h:Vals xs us):∀k:Nat,Vals (zV k xs).flatten (zV k us).flatten
 |0=>.nil
 |k+1=>by rw[zU,zU,qk,qk];exact Vals.append h (Vals.rep h k)
theorem foldl_rep(VA:List xL):∀(k:Nat)(acc:List xL),
  List.foldl (λx1 i=>x1++i) acc.toArray (zV k VA.toArray)=(acc++(zV k VA).flatten).toArray
 |0,acc=>by simp
 |k+1,acc=>by
  have e:acc.toArray++VA.toArray=(acc++VA).toArray:=by simp
  have d:(acc++VA)++(zV k VA).flatten=acc++(zV (k+1) VA).flatten:=by rw[zU,qk,jK]
  rw[<-d,<-foldl_rep VA k (acc++VA),<-e,zU,j5]
section
variable{X:Cx}{vS:List (xA×Obj)}{σ:St}{H:Hp}{s:xH}{l b:xA}{xs ys zs:List V}
def Inv.Po{VA SN:List xL}{n:Nat}{f:Array xL->Array xL}{t':Nat}(I:Inv X vS σ H s)(hH:H l=u4 (.lst xs))
  (e:s.heap.get? l=u4 {cls:=.type "list",data:=.seq VA.toArray n}) (hf:f VA.toArray=SN.toArray) (hv:Vals ys SN) (hz:ys.length<=sizeLine):
  Inv X vS σ (upd H l (.lst ys)) {s with heap:=s.heap.update l (Obj.mapSeq f),toks:=t'}:=by
 have q:=PySem.IsL.update e f;rw[hf]at q;exact I.write (hH▸trivial) (.inl rfl) (λb' u hb hu=>(qA s.heap (Obj.mapSeq f) (Ne.symm hb)).trans hu) ⟨_,q⟩ ⟨hz,SN,_,hv,q⟩
def Inv.So(I:Inv X vS σ H s)(n:Vals ys VA)(hz:ys.length<=sizeLine):
  Inv X vS σ (upd H s.heap.objs.size (.lst ys)) {s with heap:=s.heap.push {cls:=.type "list",data:=.seq VA.toArray},toks:=t'}:=
 I.laid (λ_ _ q=>zZ _ q) (zY _) ⟨hz,VA,0,n,z6 _ rfl⟩
def Inv.fresh(I:Inv X vS σ H s):H s.heap.objs.size=u5:=I.OB.fresh (zY _)
def Inv.aH(I:Inv X vS σ H s)(d:H l=u4 (.lst xs)):xs.length<=sizeLine/\∃(VA:List xL)(n:Nat),Vals xs VA/\xs.length=VA.length/\s.heap.get? l=u4 {cls:=.type "list",data:=.seq VA.toArray n}:=by obtain⟨z,VA,n,r,e⟩:=I.OB l _ d;exact⟨z,VA,n,r,r.length,e⟩
def cL(h:n<=sizeLine):je n=u7:=by unfold je;exact decide_eq_false (by lia)
end
section
variable{X:Cx}
def rF:V->List V->Hp->VK->Prop:=λx vs H Q=>∃l xs y,x=.ref l/\vs=[y]/\H l=u4 (.lst xs)/\xs.length<sizeLine/\Q .WA (upd H l (.lst (xs++[y])))
def rG:SV X "list.append" rF:=by
 intro vS s σ H x vs v us Q I rx rv h;obtain⟨l,xs,y,rfl,rfl,hH,hz,q⟩:=h;cases rx;obtain⟨u,rfl,ru⟩:=rv.one;obtain⟨z,VA,n,r,hl,e⟩:=I.aH hH;refine call_meets F.slot_list_append ⟨_,e,rfl⟩ F.entry_list_append (F.args_list_append_2 _ _) (PySem.list_append l VA.toArray n u (by rw[zq];lia)) ⟨e,?_⟩;refine⟨.WA,_,I.Po hH e (by simp) (r.append (.cons ru .nil)) ?_,rfl,q⟩;rw[qQ,jH]
 lia
def rH:V->List V->Hp->VK->Prop:=λx vs H Q=>∃l b xs zs,x=.ref l/\vs=[.ref b]/\H l=u4 (.lst xs)/\H b=u4 (.lst zs)/\xs.length+zs.length<=sizeLine/\Q .WA (upd H l (.lst (xs++zs)))
def rK:SV X "list.extend" rH:=by
 intro vS s σ H x vs v us Q I rx rv h;obtain⟨l,b,xs,zs,rfl,rfl,hH,hB,hz,q⟩:=h;cases rx;obtain⟨u,rfl,ru⟩:=rv.one;cases ru;obtain⟨z,VA,n,r,hl,e⟩:=I.aH hH;obtain⟨z2,ZR,n2,r2,hl2,e2⟩:=I.aH hB;have QL:VA.toArray.size+ZR.toArray.size<=sizeLine:=by rw[zq,zq];lia
 have WT:¬(!VA.toArray.isEmpty&&je (VA.toArray.size+ZR.toArray.size))=u6:=by rw[cL QL,Bool.and_false];exact z5
 refine call_meets F.slot_list_extend ⟨_,e,rfl⟩ F.entry_list_extend (F.args_list_extend_2 _ _)
  (AutoSeq1.list_extend_list_list_0 l VA.toArray n b ZR.toArray n2 WT (by rw[zq];lia) (by lia)) ⟨e,e2,?_⟩
 refine⟨.WA,_,I.Po hH e (by simp) (r.append r2) ?_,rfl,q⟩;rw[qQ];lia
def rRep:R2:=λx y H Q=>∃l k xs,x=.ref l/\y=.int k/\Rd H l (.lst xs)/\ -(2^63)<=k/\k<2^63/\xs.length*k.toNat<=sizeLine/\
 ∀p,H p=u5->Q (.ref p) (upd H p (.lst (zV k.toNat xs).flatten))
theorem RJ{d:Type}(xs:List d)(k:Nat):(zV k xs).flatten.length=k*xs.length:=by
 induction k with
 |zero=>simp
 |succ k i=>rw[zU,qk,qQ,i,Nat.succ_mul,Nat.add_comm]
def rL:WC X (xT .Mult) rRep:=by
 intro vS s σ H x y v u Q I rx ry h;obtain⟨l,k,xs,rfl,rfl,hH,h1,h2,hz,q⟩:=h;cases rx;obtain⟨t,rfl⟩:=ry;obtain⟨z,VA,n,r,e⟩:=hH.ok I.OB;have hl:=r.length;have hlen:VA.toArray.size*k.toNat<=sizeLine:=by rw[zq,<-hl];exact hz
 have hcap:¬VA.toArray.size*k.toNat>(2^63-1)/8:=by
  have:(sizeLine:Nat)<=(2^63-1)/8:=by decide
  lia
 have hfit:¬(!Builtin.List.listFitsIndex k)=u6:=by rw[fitsIndex_both h1 h2];exact z5
 have WT:¬je (VA.toArray.size*k.toNat)=u6:=by rw[cL hlen];exact z5
 have hnew:List.foldl (λx1 x2=>x1++x2) #[] (zV (if VA.toArray.isEmpty=u6 then 0 else k.toNat) VA.toArray)=(zV k.toNat VA).flatten.toArray:=by
  have f0:∀m:Nat,List.foldl (λx1 x2=>x1++x2) #[] (zV m VA.toArray)=(zV m VA).flatten.toArray:=λm=>by have:=foldl_rep VA m [];rw[xz]at this;exact this
  rw[f0];cases VA with
  |nil=>simp
  |cons a r'=>rw[if_neg (by simp)]
 refine wpAny_binaryOp_repeat_ref (by decide) ⟨_,e,rfl⟩ (λs'=>typeIs_int s' k t) noFill_list_mul F.fills_int_mul F.slot_int_rmul repeat_list F.slot_int_index.lookup
  (call_meets F.slot_int_rmul (typeIs_int s k t) F.entry_int_rmul (F.args_int_rmul_2 _ _) (int___rmul___int_list k t l VA.toArray n)
   ⟨e,rfl,⟨_,e,rfl⟩,call_meets F.slot_list_mul ⟨_,e,rfl⟩ F.entry_list_mul (F.args_list_mul_2 _ _) (AutoListH.list___mul___list_int_3 l VA.toArray n k t hfit hcap WT) ⟨e,?_⟩⟩)
 rw[hnew];exact⟨.ref _,_,I.So (r.rep k.toNat) (by rw[RJ,Nat.mul_comm];exact hz),rfl,q _ I.fresh⟩
end
section
variable{prog:xF}{w:xM}{A:xB}{E:xL->xH->Prop}{s:xH}
end
section
variable{X:Cx}
end
end _L
namespace Att
open PySem PySem.W PySem.Calls PyProof.Rows
theorem rM:∀(ns:List Int)(vs:List xL),WellAll P h vs (ns.map WData.int)->IntsAre vs ns:=by
 intro ns
 induction ns with
 |nil=>
  intro vs w;rw[jN]at w;cases w;exact .nil
 | cons n ns d=>
  intro vs w;rw[zy]at w;cases w with
  |cons a b=>
   cases a;exact .cons _ _ (d _ b)
theorem rN{l:OpenLaw}{n:Nat}(N:l.most=u4 n){P:Params}{h:Heap}{i:List WData}{y:List xL}
  (z:l.row.toRowW.claim.pre i=u6) (L:WellAll P h y i):
  ∃a vs ns,y=[Value.ref a]/\i=[WData.list (ns.map WData.int)]/\h.get? a=u4 {cls:=.type "list",data:=.seq vs.toArray}/\IntsAre vs ns/\ns.length<=n:=by
 have M:l.pre.holds [] {args:=i}=u6:=(pre_splitW z).2;obtain⟨d,r,rfl,U,Z⟩:=hasAllW_cons ((pre_splitW z).1);obtain rfl:=hasAllW_nil Z;obtain⟨xs,rfl,Y⟩:=hasW_list U;obtain⟨ns,rfl⟩:=items_int Y;have F:ns.length<=n:=by
  unfold OpenLaw.pre at M;have J:(WTm.not (.lt (.lit (.int (n:Int))) (.len (.arg 0)))).holds [] {args:=[.list (ns.map .int)]}=u6:=by have J:=(holds_andW M).1;rw[N]at J;exact J
  have I:=condW_of J (w_not (w_lt w_lit (w_len_list (w_arg rfl))));rw[zO]at I;refine Nat.le_of_not_lt λq=>?_
  first
   |(rw[j (by lia)]at I;exact absurd I (by decide))
   |(simp at I;lia)
 cases L with
 |cons S W=>
  cases W;cases S with
  |list O B=>exact⟨_,_,ns,rfl,rfl,O,rM ns _ B,F⟩
def rO(l:OpenLaw)(d:List WData):l.row.toRowW.claim.post d (.bool u6) d=u6:=
 postW_of
  (show WShape.has [] (.bool u6) .bool=u6 by first|rfl|decide|simp[WShape.has,WShape.arms,WShape.armsAll])
  (w_eq_bool (w_res rfl) w_lit) rfl
def rP{l:OpenLaw}{n:Nat}{q:xF}{loose:List Str}{XP:(Str->Option xL)->Heap->Prop}{YP:xM->Heap->Prop}{d:DefRec}
  (hn:l.most=u4 n) (YZ:d.params.defaults=[])
  (call:∀(w:xM)(j i:xH)(L M:Str->Option xL)(I:xA)(o:Obj)(pm cd y:xL)(a:xA)(vs:List xL)(ns:List Int),
   Ground q loose [] XP w j L M i.heap->YP w i.heap->
   i.heap.get? I=u4 o->o.data=.func (docDef d.name d.params d.body d.scope pm cd y)->i.heap.CodeRec cd d.name->L d.name=u4 (.ref I)->
   i.heap.get? a=u4 {cls:=.type "list",data:=.seq vs.toArray}->IntsAre vs ns->ns.length<=n->i.gens= #[]->
   codeAny (vY l.prog w) callerA (.call (.ref I) ⟨[.ref a],[]⟩) (λr s'=>r=.ok (.ret (.bool u6))/\OldK i.heap s'.heap/\s'.os=i.os/\AllBare s'.gens) i):
  WalkO q loose XP YP l.row.toRowW d [] (λf vs=>qh f vs):=by
 intro w j i L M G Y I o pm cd y dV kV ho hd N U S hg args W as B Z hrd O hlo;obtain rfl:dV=.none:=Dflts.none U YZ;obtain rfl:kV=.none:=Dflts.noKw U;obtain⟨a,vs,ns,rfl,rfl,F,z,J⟩:=rN hn B O;refine enter_call (vZ (call w j i L M I o pm cd y a vs ns G Y ho (fd_plain hd) N S F z J hg) λr s' hq=>?_);obtain⟨rfl,h2,h3,h4⟩:=hq
 exact⟨.inl ⟨.bool u6,.bool u6,[],rfl,λ_=>rfl,.bool u6,rO l _,λ_=>⟨List.Pairwise.nil,λ_ hm=>(nomatch hm)⟩⟩,h2,h3,h4⟩
section
variable{prog:xF}{w:xM}{A:xB}{E:xL->xH->Prop}{s:xH}{K:vO}
def Te(h:Heap):Heap:={h with objs:= #[]}
theorem aI(h:Heap)(b:xA):(Te h).get? b=u5:=by
 cases e:(Te h).get? b with
 |none=>rfl
 |some o=>exact absurd (zx e) (xj _)
noncomputable def ledger(h:Heap)(L d:xA):List (xA×Obj):=(zQ h.objs.size).filterMap λa=>if a=L\/a=d then u5 else(h.get? a).map λo=>(a,o)
def Qj:(a,o)∈ledger h L d↔a≠L/\a≠d/\h.get? a=u4 o:=by
 unfold ledger;rw[jS];constructor
 .rintro⟨b,_,e⟩;split at e
  .cases e
  rename_i j;obtain⟨B,i,n⟩:=zG.mp e;cases n;exact⟨λq=>j (.inl q),λq=>j (.inr q),i⟩
 rintro⟨y,z,i⟩;refine⟨a,qK.mpr (zx i),?_⟩
 rw[if_neg (λq=>q.elim y z),i]<;>rfl
def rQ(n:h.Ns L m):Fr (Te h) L h m:=
 ⟨n,λb o e=>(by rw[aI]at e;cases e),jR _⟩
end
end Att
namespace _L
open PySem PySem.Spec PyProof.Rows
variable{P:xF}{pos:Pos}
theorem Pq:∀{vs:List xL}{ns:List Int},IntsAre vs ns->Vals (ns.map V.int) vs
 |_,_,.nil=>.nil
 |_,_,.cons n t h=>.cons ⟨t,rfl⟩ (Pq h)
def T1(H:Hp):Prop:=∀b,H b=u5\/∃o xs,H b=u4 (.ND o (.lst xs))
theorem rR{w:xM}{K:za}{mg mb:Str->Option xL}{CX:MP}{k:Nat}{fa a:xA}{fd:xD}{x:Str}{sp:Sp}{i:xH}{vs:List xL}{ns:List Int}
  (KX:K.In i.heap) (M:i.heap.Ns vK mg) (y:i.heap.Ns builtinsNs mb) (hbb:∀x:Str,x≠"__name__"->mb x=xU x) (S:i.heap.NoLimit) (hg:i.gens= #[])
  (ha:i.heap.get? a=u4 {cls:=.type "list",data:=.seq vs.toArray}) (hi:IntsAre vs ns) (hl:ns.length<=sizeLine) (hr:NC k callerA)
  (F:∀B:Heap,K.In B->B.Ns vK mg->QD P w K mg B CX k fa fd [x] sp) (L:∀(s:xH)(u:xL),BindsTo s fd ⟨[u],[]⟩ [(x,u)])
  (hsp:∀H:Hp,T1 H->NH K H a (ns.map V.int)->sp [.ref a] H (λv _=>v=.bl u6) λ_ _ _=>False)
  (hCX:∀H e s',CX [] H i (λ_ _ _=>False) e s'->False):
  codeAny (vY P w) callerA (.call (.ref fa) ⟨[.ref a],[]⟩) (λr s'=>r=.ok (.ret (.bool u6))/\OldK i.heap s'.heap/\s'.os=i.os/\AllBare s'.gens) i:=by
 have rv:=Pq hi;have Y:=hi.length;have J:∀H:Hp,T1 H->NH K H a (ns.map V.int)->VG P w H i.heap->(∀b,H b≠u5->b=a)->(H a≠u5->K.lookup a=u5)->
   codeAny (vY P w) callerA (.call (.ref fa) ⟨[.ref a],[]⟩) (λr s'=>r=.ok (.ret (.bool u6))/\OldK i.heap s'.heap/\s'.os=i.os/\AllBare s'.gens) i:=by
  intro H hO hS OB hA hK;have j:∀{b:xA}{o:Obj},i.heap.get? b=u4 o->H b=u5->(Jm i.heap H).get? b=u4 o:=λe n=>mn e n
  have UZ:∀{b:xA}{o:Obj}{es:Array DictEntry}{ep:Nat},i.heap.get? b=u4 o->o.data=.dict es ep->H b=u5:=λ{b o es ep}e d=>by
   cases q:H b with
   |none=>rfl
   |some u=>
    have e':=hA b (by rw[q];simp);subst e';rw[ha]at e;cases e;have d':=d;cases d'
  have I:∀{b:xA}{m:Str->Option xL},i.heap.Ns b m->(Jm i.heap H).Ns b m:=λ{b m}⟨o,es,ep,e,d,r⟩=>⟨o,es,ep,j e (UZ e d),d,r⟩
  have N:K.In (Jm i.heap H):=λb o e=>j (KX b o e) (by
   cases q:H b with
   |none=>rfl
   |some u=>
    have e':=hA b (by rw[q];simp);subst e';rw[hK (by rw[q];simp)]at e;cases e)
  have hM:Mod K mg (Jm i.heap H):=⟨N,I M,⟨mb,I y,hbb⟩,let⟨mc,h1,h2⟩:=S;⟨mc,I h1,h2⟩⟩
  refine vZ ((F _ N (I M)).run callerA [] i H ⟨[.ref a],[]⟩ [.ref a] [.ref a] _ _ hr ⟨rfl,hM,λb o e=>mq e,Nat.le_of_eq (mm _ _),trivial,λb y=>absurd (show b∈([]:List xA)from y) (by simp),OB,.of_eq hg⟩ (L i (.ref a)) (.cons rfl .nil) (hsp H hO hS)) λr s' h=>?_
  cases r with
  |error e=>exact(hCX H e s' h).elim
  | ok fl=>
   cases fl with
   | ret u=>
    obtain⟨v,H',os,U,un,O,r',q⟩:=h;have q':=q;subst q';obtain rfl:u=Value.bool u6:=r';refine⟨rfl,OldK.of_keep λb o e=>?_,os,U⟩;cases q:H b with
    |none=>exact un.keep b o e q (by intro z;exact absurd (show b∈([]:List xA)from z) (by simp)) (by simp)
    |some u=>
     rcases hO b with z|⟨ob,xs,z⟩
     .rw[q]at z;cases z
     obtain⟨e1,_⟩:=OB b _ z;obtain⟨e2,_⟩:=O b _ (un.OJ b ob _ z);rw[e]at e1;cases e1;exact e2
   |_=>exact False.elim h
 cases hk:K.lookup a with
 |some o=>
  have e:=KX a o hk;rw[ha]at e;cases e;refine J (λ_=>u5) (λ_=>.inl rfl) (.inr ⟨_,vs.toArray,_,hk,rfl,rfl,rfl,by rw[zq,Y];exact hl,by simpa using rv⟩) (λb u z=>by have Z:=z;cases Z) (λb z=>absurd rfl z) λz=>absurd rfl z
 | none=>
  refine J (λb=>if b=a then u4 (.ND {cls:=.type "list",data:=.seq vs.toArray} (.lst (ns.map V.int)))else u5) (λb=>?_) (.inl (.inr ⟨{cls:=.type "list",data:=.seq vs.toArray},if_pos rfl⟩)) (λb u z=>?_) (λb z=>?_) λ_=>hk
  .by_cases y:b=a
   .exact .inr ⟨_,_,if_pos y⟩
   exact .inl (if_neg y)
  .by_cases y:b=a
   .have Z:=(if_pos y).symm.trans z;cases Z;subst y;exact⟨ha,by rw[zO];exact hl,vs,_,rv,ha⟩
   have Z:=(if_neg y).symm.trans z;cases Z
  by_cases y:b=a
  .exact y
  exact absurd (if_neg y) z
def rT{l:vU}{n k:Nat}{q:xF}{loose:List Str}{XP:(Str->Option xL)->Heap->Prop}{YP:xM->Heap->Prop}{d:DefRec}{K:xM->za}{CX:xM->MP}{sp:xM->Sp}{x:Str}
  (hn:l.most=u4 n) (M:n<=sizeLine) (YZ:d.params.defaults=[]) (hr:NC k callerA)
  (hY:∀(w:xM)(h:Heap),YP w h->(K w).In h)
  (F:∀(w:xM)(z:Str->Option xL)(J:xA)(h:Heap),(K w).In h->h.Ns vK z->z d.name=u4 (.ref J)->
   ∃L:xD,(∀(s:xH)(u:xL),BindsTo s L ⟨[u],[]⟩ [(x,u)])/\
    ∀i:Heap,(K w).In i->i.Ns vK z->QD l.prog w (K w) z i (CX w) k J L [x] (sp w))
  (O:∀(w:xM)(H:Hp)(a:xA)(ns:List Int),ns.length<=n->T1 H->NH (K w) H a (ns.map V.int)->sp w [.ref a] H (λv _=>v=.bl u6) λ_ _ _=>False)
  (N:∀(w:xM)(H:Hp)(s:xH)(e:xL)(s':xH),CX w [] H s (λ_ _ _=>False) e s'->False):
  w9 q loose XP YP l.row.toRowW d [] (λf vs=>qh f vs):=by
 refine Att.rP hn YZ λw U I z mb J o pm cd doc a vs ns G Y ho hd hcd S B y j hg=>?_
 have Z:=hY w _ Y;obtain⟨L,hb,hF⟩:=F w z J _ Z G.T.g S;exact rR Z G.T.g G.T.b G.T.builtins G.T.nolimit hg B y (z8 j M) hr hF hb (λH hO hS=>O w H a ns j hO hS) λH e s'=>N w H I e s'
abbrev RO:MP:=λ_ _ _ _ _ _=>False
abbrev E0:XK:=λ_ _ _=>False
def OR:Passes RO X E0:=λ_ _ _ _ _ _ _ h=>h.elim
structure YS (K:za) (x qual:Str) (st:xI) (f:xA) (fd:xD):Prop where
 ex:∃(oc:xL)(od:Option xA)(kV doc pm:xL)(an:Option xA)(XH ct:xL)(Sm:Array (Option xL)),
  fd=qg x qual (Ea st) (Dg st) (Bc st) .none kV doc pm an XH ct/\K.lookup f=u4 ⟨oc,od,.func fd,Sm⟩/\vT K XH qual=u6
 kp:ze K (.ref f)=u6
section
variable{P:xF}{w:xM}{K:za}{mg:Str->Option xL}{base:Heap}
def YS.ok{x qual:Str}{st:xI}{f:xA}{y:xD}{N ps:List Str}{k:Nat}{sp:Sp}(F:YS K x qual st f y)(S:UC N ps (Bc st))(len:∀vs H Q E,sp vs H Q E->vs.length=ps.length)
  (i:∀(d:xL)(A:xB)(outer:List Env)(s:xH)(H:Hp)(vs:List V)(Q:VK)(E:XK),NC k (A.deeper (envOfC qual (Bc st) s.heap.objs.size f d))->sp vs H Q E->
   ∃t,RN (Gd RO P w K mg base N qual (Bc st) f d A outer s H E).OY (Dg st) t/\t {nx:=λ_ H'=>Q .WA H',rt:=Q} (start N vs) H):QD P w K mg base RO (k+1) f y ps sp:=by
 obtain⟨O,M,kV,z,pm,L,d,ct,I,rfl,B,j⟩:=F.ex;refine Zh B j S len λA outer s H vs Q E J n=>?_
 obtain⟨t,h,q⟩:=i d A outer s H vs Q E J n;exact⟨t,h.OY,q⟩
def YS.binds{x qual:Str}{st:xI}{f:xA}{n:xD}{ps:List Str}(F:YS K x qual st f n)
  (h:∀(kV d pm:xL)(j:Option xA)(i ct:xL)(us:List xL),us.length=ps.length->bindArgs (qg x qual (Ea st) (Dg st) (Bc st) .none kV d pm j i ct) ⟨us,[]⟩=pure (ps.zip us)):Binds K n ps []:=by
 obtain⟨I,B,kV,d,pm,j,i,ct,y,rfl,z,q⟩:=F.ex;exact .all (h kV d pm j i ct)
end
section
variable{X:Cx}
def pv(i:Nat){x:Str}{pos:Pos}(j:X.N[i]?=u4 x:=by rfl)(n:XW X.env.scope x:=by first|exact Or.inl rfl|exact Or.inr (Or.inl rfl)|exact Or.inr (Or.inr rfl))(q:(x==("__debug__":Str))=u7:=by decide)
  (d:(x==("__classdict__":Str))=u7:=by decide):PE X (.Name x pos) (Rb i):=Ph j n q d
end
section
variable{κ:Type}[DecidableEq κ]
noncomputable def Fj(kvs:List (κ×V))(k:κ):Option V:=(kvs.find? λkv=>decide (kv.1=k)).map (·.2)
noncomputable def putK(kvs:List (κ×V))(k:κ)(v:V):List (κ×V):=
 if(kvs.any λkv=>decide (kv.1=k))=u6 then kvs.map (λkv=>if kv.1=k then(kv.1,v)else kv)else kvs++[(k,v)]
def cM{p:κ×V}{r:List (κ×V)}{k:κ}(e:p.1=k):Fj (p::r) k=u4 p.2:=by simp[Fj,qE,e]
def cN{p:κ×V}{r:List (κ×V)}{k:κ}(e:¬p.1=k):Fj (p::r) k=Fj r k:=by simp[Fj,qE,e]
def rV(kvs:List (κ×V))(k:κ)(v:V):(putK kvs k v).length<=kvs.length+1:=by
 unfold putK;split
 .rw[zO];lia
 .rw[qQ,zH,qT];lia
theorem KV.val{kvs:List (κ×V)}{vs:List (κ×xL)}(r:KV kvs vs)(k:κ):RI (Fj kvs k) (valueAt vs k):=by
 unfold KV at r
 induction r with
 |nil=>exact True.intro
 | @cons p q ps qs h t ih=>
  obtain⟨h1,h2⟩:=h;by_cases e:p.1=k
  .have e':q.1=k:=h1.symm.trans e;have b:valueAt (q::qs) k=u4 q.2:=by simp[valueAt,qE,e']
   rw[cM e,b];exact h2
  .have e':¬q.1=k:=λz=>e (h1.trans z)
   have b:valueAt (q::qs) k=valueAt qs k:=by simp[valueAt,qE,e']
   rw[cN e,b];exact ih
theorem KV.any{kvs:List (κ×V)}{vs:List (κ×xL)}(r:KV kvs vs)(k:κ):(kvs.any λkv=>decide (kv.1=k))=vs.any λkv=>decide (kv.1=k):=by
 unfold KV at r
 induction r with
 |nil=>rfl
 |cons h t ih=>rw[jF,jF,ih,h.1]
theorem KV.XT{kvs:List (κ×V)}{vs:List (κ×xL)}(r:KV kvs vs)(k:κ){y:V}{u:xL}(ry:RelV y u):
  KV (kvs.map λkv=>if kv.1=k then(kv.1,y)else kv) (vs.map λkv=>if kv.1=k then(kv.1,u)else kv):=by
 unfold KV at r⊢
 induction r with
 |nil=>exact .nil
 |@cons p q ps qs h t ih=>
  rw[zy,zy];refine .cons ?_ ih;obtain⟨h1,h2⟩:=h;by_cases e:p.1=k
  .rw[if_pos e,if_pos (h1.symm.trans e)];exact⟨h1,ry⟩
  .rw[if_neg e,if_neg (λz=>e (h1.trans z))];exact⟨h1,h2⟩
def KV.put{kvs:List (κ×V)}{vs:List (κ×xL)}(r:KV kvs vs)(k:κ){y:V}{u:xL}(ry:RelV y u):KV (putK kvs k y) (stored vs k u):=by
 unfold putK stored;rw[r.any k];by_cases e:(vs.any λkv=>decide (kv.1=k))=u6
 .rw[if_pos e,if_pos e];exact r.XT k ry
 .rw[if_neg e,if_neg e];exact Paired.snoc r ⟨rfl,ry⟩
end
theorem aJ{w:xM}{k:Key}{u:xL}(r:RelV (kV k) u):(Fp P w).is k u=u6:=by
 cases k with
 |inl i=>obtain⟨t,e⟩:=(show∃t,u=Value.int i t from r);subst e;exact mf P w i t
 |inr x=>obtain⟨t,e⟩:=(show∃t,u=Value.str x t from r);subst e;exact mh P w x t
theorem cO{w:xM}:∀{ks:List Key}{us:List xL},Vals (ks.map kV) us->ItemsAre (Fp P w) ks us
 |[],_,r=>by rw[jN]at r;cases r;exact .nil
 |k::ks,_,r=>by
  rw[zy]at r;cases r with
  |cons h t=>exact .cons (aJ h) (cO t)
abbrev KT(H:Hp):List (List Key×V)->List (List Key×xA×xL)->Prop:=Paired λp q=>p.1=q.1/\H q.2.1=u4 (.tup (p.1.map kV))/\RelV p.2 q.2.2
theorem KT.val{H:Hp}{kvs:List (List Key×V)}{xs:List (List Key×xA×xL)}(r:KT H kvs xs)(k:List Key):RI (Fj kvs k) ((atKey xs k).map (·.2)):=by
 induction r with
 |nil=>exact True.intro
 | @cons p q ps qs h t ih=>
  obtain⟨h1,_,h2⟩:=h;by_cases e:p.1=k
  .have e':q.1=k:=h1.symm.trans e;have b:atKey (q::qs) k=u4 q.2:=by simp[atKey,qE,e']
   rw[cM e,b];exact h2
  .have e':¬q.1=k:=λz=>e (h1.trans z)
   have b:atKey (q::qs) k=atKey qs k:=by simp[atKey,qE,e']
   rw[cN e,b];exact ih
section
variable{P:xF}{w:xM}{H:Hp}{h:Heap}{a:xA}
def cP{u:HO}(ok:VG P w H h)(e:Rd H a u):TC P w H h a u:=e.ok ok
def aK{kvs:List (Key×V)}(ok:VG P w H h)(e:Rd H a (.dK kvs)):kvs.length<=sizeLine/\(a==sysModules)=u7/\∃vs,KV kvs vs/\h.DictOf (Fp P w) a vs:=
 show TC P w H h a (.dK kvs)from cP ok e
def rW{kvs:List (Key×V)}(ok:VG P w H h)(e:H a=u4 (.dK kvs)):kvs.length<=sizeLine/\(a==sysModules)=u7/\∃vs,KV kvs vs/\h.DictOf (Fp P w) a vs:=aK ok (.inl e)
def cQ{ks:List Key}(ok:VG P w H h)(e:H a=u4 (.tup (ks.map kV))):(tupleKind (Fp P w)).is h ks a:=by
 obtain⟨_,VA,r,o,h1,h2,n,h3⟩:=(show TC P w H h a (.tup (ks.map kV))from ok a _ e)
 exact⟨o,VA.toArray,n,h1,h2,h3,by simpa using cO r⟩
def cR{kvs:List (List Key×V)}(ok:VG P w H h)(e:Rd H a (.dT kvs)):kvs.length<=sizeLine/\(a==sysModules)=u7/\
  ∃xs,KT H kvs xs/\h.DictOfH (tupleKind (Fp P w)) a xs:=by
 obtain⟨z,y,xs,r,o,es,ep,h1,h2,h3,h4,h5⟩:=(show TC P w H h a (.dT kvs)from cP ok e)
 refine⟨z,y,xs,r,o,es,ep,h1,h2,h3,h4,λx hx=>?_,h5⟩;have all:∀{l:List (List Key×V)}{m:List (List Key×xA×xL)},KT H l m->∀x∈m,(tupleKind (Fp P w)).is h x.1 x.2.1:=by
  intro l m q
  induction q with
  |nil=>intro x hx;exact nomatch hx
  |@cons p q ps qs hq t ih=>
   intro x hx;rcases zK.mp hx with e|hx
   .subst e;exact cQ ok (by rw[<-hq.1];exact hq.2.1)
   .exact ih x hx
 exact all r x hx
end
def TN(H:Hp)(a:xA)(y:V)(r:Option V):Prop:=
 (∃kvs k,Rd H a (.dK kvs)/\y=kV k/\r=Fj kvs k)\/∃kvs k b,Rd H a (.dT kvs)/\y=.ref b/\H b=u4 (.tup (k.map kV))/\r=Fj kvs k
def TN.k{H:Hp}{a:xA}{kvs:List (Key×V)}{k:Key}(e:H a=u4 (.dK kvs)):TN H a (kV k) (Fj kvs k):=.inl ⟨kvs,k,.inl e,rfl,rfl⟩
section
variable{X:Cx}{vS:List (xA×Obj)}{σ:St}{H:Hp}{s:xH}{a:xA}{y v:V}{u r:xL}{o:Option V}{A:xB}{E:xL->xH->Prop}
def Inv.big(I:Inv X vS σ H s):sysModules<s.heap.objs.size:=by have h:vK<s.heap.objs.size:=(I.mod.glob.keeps I.bk).lt;exact Nat.lt_trans (by decide) h
def rX{Q:xL->xH->Prop}(hu:A.units+1<cLine)(I:Inv X vS σ H s)(g:TN H a y (u4 v))(ry:RelV y u)(h:∀w' s',Inv X vS σ H s'->RelV v w'->Q w' s'):
  vk (vY X.prog X.w) A (getItem (.ref a) u) Q E s:=by
 rcases g with⟨kvs,k,e,ey,l⟩|⟨kvs,k,b,e,ey,eb,l⟩
 .subst ey;obtain⟨z,hd,vs,rel,dd⟩:=aK I.OB e;obtain⟨w',hw,YR⟩:=RI.OM (v:=v) (o:=valueAt vs k) (by rw[l];exact rel.val k);exact wpAny_getItem_of (aJ ry) dd.mapOf hw (h w' _ (I.tok _) YR)
 .subst ey
  cases(show u=Value.ref b from ry)
  obtain⟨z,hd,xs,rel,dd⟩:=cR I.OB e
  obtain⟨w',hw,YR⟩:=RI.OM (v:=v) (o:=(atKey xs k).map (·.2)) (by rw[l];exact rel.val k)
  obtain⟨p,hp,hp2⟩:=zG.mp hw;refine wpAny_getItem_heap (tupleKind_room_in1 hu) (cQ I.OB eb) dd hp ?_;rw[hp2];exact h w' _ (I.tok _) YR
def rY{h':Heap}{t':Nat}{ob:HO}(I:Inv X vS σ H s)(mu:Of (H a))(hs:qI a s.heap h')(he:∃q,h'.get? a=u4 q)(new:TC X.prog X.w (upd H a ob) h' a ob):
  Inv X vS σ (upd H a ob) {s with heap:=h',toks:=t'}:=
 I.write (x:=a) (e:=a) mu (.inl rfl) (λb q hb z=>(hs.2 b hb).trans z) he new
def rZ{w:xM}{H':Hp}{h':Heap}{kvs:List (Key×V)}{vs:List (Key×xL)}(z:kvs.length<=sizeLine)(hd:(a==sysModules)=u7)(rel:KV kvs vs)(dd:h'.DictOf (Fp P w) a vs):
  TC P w H' h' a (.dK kvs):=⟨z,hd,vs,rel,dd⟩
end
section
variable{X:Cx}{vS:List (xA×Obj)}{σ:St}{H:Hp}{s:xH}{a:xA}{kvs:List (Key×V)}{k:Key}{u:xL}{A:xB}{E:xL->xH->Prop}
end
def r6{X:Cx}{vS:List (xA×Obj)}{σ:St}{H:Hp}{s:xH}{a:xA}{y:V}{o:Option V}(I:Inv X vS σ H s)(g:TN H a y o):s.TypeIs (.ref a) "dict":=by
 rcases g with⟨kvs,k,e,_,_⟩|⟨kvs,k,b,e,_,_,_⟩
 .obtain⟨_,_,vs,_,dd⟩:=aK I.OB e;exact dd.typeIs
 .obtain⟨_,_,xs,_,dd⟩:=cR I.OB e;exact dd.typeIs
section
variable{X:Cx}{o i e value:xC}{pos pos' Zl:Pos}{td ty tv:TE}
end
def r8{w:xM}{H:Hp}(h:Heap)(hb:sysModules<h.objs.size):TC P w H (h.push {cls:=.type "dict",data:=.dict #[]}) h.objs.size (.dK []):=
 ⟨jR _,beq_eq_false_iff_ne.mpr (Ne.symm (z9 hb)),[],.nil,Heap.DictOf.new h⟩
section
variable{X:Cx}{pos:Pos}
end
def T8:List (TE×TE)->St->Hp->(List (V×V)->Hp->Prop)->Prop
 |[],_,H,Q=>Q [] H
 |(tk,tv)::r,σ,H,Q=>tk σ H λx H1=>tv σ H1 λy H2=>T8 r σ H2 λps H3=>Q ((x,y)::ps) H3
abbrev VV:List (V×V)->List (xL×xL)->Prop:=Paired λp q=>RelV p.1 q.1/\RelV p.2 q.2
def To(X:Cx)(pos:Pos)(keys:List (Option xC))(values:List xC)(QX:List (TE×TE)):Prop:=
 ∀(vS:List (xA×Obj))(s:xH)(σ:St)(H:Hp)(Q:List (V×V)->Hp->Prop),Inv X vS σ H s->T8 QX σ H Q->
  vk (vY X.prog X.w) X.A (evalPairs (pairTrees keys values X.env pos)) (λvs s'=>∃ps H',Inv X vS σ H' s'/\VV ps vs/\Q ps H') X.xe s
def r9{X:Cx}:To X pos [] [] []:=λvS s σ H Q I h=>pairTrees_nil_walk ⟨[],H,I,.nil,h⟩
def ra{X:Cx}{k v:xC}{ks:List (Option xC)}{vs:List xC}{tk tv:TE}{QX:List (TE×TE)}(hk:PE X k tk)(hv:PE X v tv)(hr:To X pos ks vs QX):
  To X pos (u4 k::ks) (v::vs) ((tk,tv)::QX):=λvS s σ H Q I h=>
 pairTrees_cons_walk (QB (hk vS s σ H _ I h) λu s1 ⟨x,H1,I1,rx,q1⟩=>QB (hv vS s1 σ H1 _ I1 q1) λw2 s2 ⟨y,H2,I2,ry,q2⟩=>
  QB (hr vS s2 σ H2 _ I2 q2) λws s3 ⟨ps,H3,I3,rel,q3⟩=>⟨(x,y)::ps,H3,I3,.cons ⟨rx,ry⟩ rel,q3⟩)
def Mj(kvs more:List (Key×V)):List (Key×V):=more.foldl (λacc kv=>putK acc kv.1 kv.2) kvs
theorem KV.merge:∀{more:List (Key×V)}{rs:List (Key×xL)}{kvs:List (Key×V)}{vs:List (Key×xL)},KV more rs->KV kvs vs->KV (Mj kvs more) (merged vs rs):=by
 intro more rs kvs vs r;unfold KV at r
 induction r generalizing kvs vs with
 |nil=>intro q;exact q
 |@cons p q ps qs h t ih=>
  intro r0;have e:KV (putK kvs p.1 p.2) (stored vs q.1 q.2):=by have:=r0.put p.1 h.2;rw[<-h.1];exact this
  exact ih e
theorem cT:∀(more kvs:List (Key×V)),(Mj kvs more).length<=kvs.length+more.length
 |[],kvs=>by show kvs.length<=kvs.length+0;lia
 |p::r,kvs=>by have h1:=cT r (putK kvs p.1 p.2);have h2:=rV kvs p.1 p.2;show(Mj (putK kvs p.1 p.2) r).length<=_;rw[zH];lia
theorem cU{P:xF}{w:xM}:∀{kvs:List (Key×V)}{ws:List (xL×xL)},VV (kvs.map λkv=>(kV kv.1,kv.2)) ws->∃rs,Carries (Fp P w) ws rs/\KV kvs rs
 |[],_,r=>by rw[jN]at r;cases r;exact⟨[],True.intro,.nil⟩
 | p::kvs,_,r=>by
  rw[zy]at r;cases r with
  |@cons a b as bs h t=>
   obtain⟨rs,c,q⟩:=cU (P:=P) (w:=w) t;obtain⟨b1,b2⟩:=b;exact⟨(p.1,b2)::rs,⟨aJ h.1,rfl,c⟩,.cons ⟨rfl,h.2⟩ q⟩
def rf(QX:List (TE×TE)):TE:=λσ H Q=>∀p,H p=u5->T8 QX σ (upd H p (.dK [])) λps H2=>H2 p=u4 (.dK [])/\∃kvs:List (Key×V),ps=kvs.map (λkv=>(kV kv.1,kv.2))/\kvs.length<=15/\Q (.ref p) (upd H2 p (.dK (Mj [] kvs)))
def rg{X:Cx}{keys:List (Option xC)}{values:List xC}{QX:List (TE×TE)}(h:To X pos keys values QX)(ZT:keys.all (·.isSome)=u6)(hl:keys.length=values.length)(h0:keys≠[])
  (h15:keys.length<=15):PE X (.Dict keys values pos) (rf QX):=by
 intro vS s σ H Q I q;have hn:=I.OB.fresh (zY s.heap.objs.size);have I1:=I.laid (a:=s.heap.objs.size) (o:=.dK []) (h':=s.heap.push {cls:=.type "dict",data:=.dict #[]}) (t':=s.toks) (λ_ _ q=>zZ _ q) (zY _) (r8 s.heap I.big);refine wpAny_Dict_walk (knd:=Fp X.prog X.w) ZT hl h0 h15 (QB (h vS _ σ _ _ I1 (q _ hn)) λws s2 ⟨ps,H2,I2,rel,e,kvs,ep,lk,q2⟩=>?_)
 subst ep;obtain⟨rs,c,rk⟩:=cU (P:=X.prog) (w:=X.w) rel;obtain⟨z,hd,vs0,r0,dd⟩:=rW I2.OB e;cases r0;refine⟨rs,c,dd,λh' Pp hs=>⟨.ref s.heap.objs.size,_,?_,rfl,q2⟩⟩;have hz:(Mj [] kvs).length<=sizeLine:=by have h1:=cT kvs [];rw[qT]at h1;rw[vz];lia
 have he:∃q,h'.get? s.heap.objs.size=u4 q:=let⟨q,_,_,hq,_⟩:=Pp;⟨q,hq⟩;exact rY I2 (by rw[e];exact True.intro) hs he (rZ hz hd (rk.merge .nil) Pp)
section
variable{X:Cx}{vS:List (xA×Obj)}{σ:St}{H:Hp}{s:xH}{a:xA}{y d:V}{u r:xL}{o:Option V}{A:xB}{E:xL->xH->Prop}
end
section
variable{X:Cx}{o e f:xC}{apos WD:Pos}{td ty tx:TE}
end
section
variable{X:Cx}{vS:List (xA×Obj)}{σ:St}{H:Hp}{s:xH}{a:xA}{kvs:List (Key×V)}{A:xB}{E:xL->xH->Prop}
end
section
variable{X:Cx}{vS:List (xA×Obj)}{σ:St}{H:Hp}{s:xH}{a:xA}{y:V}{u:xL}{A:xB}{E:xL->xH->Prop}
end
section
variable{X:Cx}
end
end _L
namespace _L
section
variable{κ:Type}[DecidableEq κ]
end
end _L
namespace _D
open PySem PySem.Spec _L
open PyProof.Rows hiding St
inductive D where
 |WA|bl (b:Bool)|int (i:Int)|str (x:Str)|ty (n:String)
 |tup (xs:List D)
 |fl (xs:List D)
 |ref (i:Nat)
inductive DO where
 |lst (xs:List D)
 |WK (kvs:List (Key×D))
 |ins (c:Str) (fs:List (Str×D))
 |tab (c m:Str)
 |exc (c:Str) (fs:List (Str×D))
 |gone
abbrev DH:=List DO
abbrev RD:=List (Option D)
structure Xn where
 cls:Str
 fs:List (Str×D)
inductive R (α:Type) where
 |ok (a:α) (G:DH)
 |err (x:Xn) (G:DH)
 |bad
abbrev Fx{α:Type}(_:α):Type:=Unit
noncomputable def R.bind{α β:Type}(f:α->DH->R β)(_:Fx f:=())(r:R α):R β:=match r with
 |.ok a G=>f a G
 |.err x G=>.err x G
 |.bad=>.bad
@[simp]theorem R.Hu{b c:Type}(a:b)(G:DH)(f:b->DH->R c):(R.ok a G).bind f=f a G:=id rfl
inductive SR where
 |nx (S:RD) (G:DH)
 |rt (d:D) (G:DH)
 |bk (S:RD) (G:DH)
 |ct (S:RD) (G:DH)
 |err (x:Xn) (G:DH)
 |bad
abbrev DE:=RD->DH->R D
abbrev DB:=RD->DH->R Bool
abbrev DA:=RD->DH->R (List D)
abbrev DS:=RD->DH->SR
def U1(K:za)(H:Hp)(a:xA)(xs:List V):Prop:=
 (∃o,H a=u4 (.ND o (.lst xs)))\/
  (∃ns:List Int,xs=ns.map V.int)/\∃(o:Obj)(VA:Array xL)(n:Nat),K.lookup a=u4 o/\o.cls=.type "list"/\o.dict=u5/\o.data=.seq VA n/\VA.size<=sizeLine/\Vals xs VA.toList
def U1.sq{K:za}{H:Hp}{a:xA}{xs:List V}(h:U1 K H a xs):NH K H a xs:=by
 rcases h with⟨o,h⟩|⟨_,h⟩
 .exact .inl (.inr ⟨o,h⟩)
 exact .inr h
structure Wd where
 K:za
 n:Nat
 m:Nat->xA
 H:Hp
mutual
def XB(a:Wd):D->V->Prop
 |.WA,v=>v=.WA
 |.bl b,v=>v=.bl b
 |.int i,v=>v=.int i
 |.str x,v=>v=.str x
 |.ty n,v=>v=.ty n
 |.tup ds,v=>∃p vs,v=.ref p/\RH a.K a.H p vs/\OA a ds vs
 |.fl ds,v=>∃p vs,v=.ref p/\U1 a.K a.H p vs/\OA a ds vs
 |.ref i,v=>i<a.n/\v=.ref (a.m i)
def OA(a:Wd):List D->List V->Prop
 |[],vs=>vs=[]
 |d::ds,vs=>∃v r,vs=v::r/\XB a d v/\OA a ds r
end
noncomputable def lamQ:Str:="Sending.send_by.<locals>.<lambda>"
def ZI(H:Hp)(P:xA):Prop:=
 ∃ps:Array xL,H P=u4 (.OT ps)/\TriplesOk ps.toList/\∀pos cv,codeAmong pos ps.toList=u4 cv->∃(c:xA)(oc:Obj)(vs:Array xL)(t:Tok),cv=.ref c/\H c=u4 (.ND oc (.own 0))/\oc.data=.fields vs/\vs[1]?=u4 (.str lamQ t)
def ZI.mono(h:ZI H P)(j:∀p ps,H p=u4 (.OT ps)->H' p=u4 (.OT ps))(b:∀p o u,H p=u4 (.ND o u)->H' p=u4 (.ND o u)):ZI H' P:=by obtain⟨ps,e,t,k⟩:=h;refine⟨ps,j _ _ e,t,λa r f=>?_⟩;obtain⟨c,l,n,g,d,i,m,q⟩:=k a r f;exact⟨c,l,n,g,d,b _ _ _ i,m,q⟩
def TabAt(K:za)(C m:Str)(c P:xA):Prop:=
 ∃(Ca f:xA)(oc:xL)(od:Option xA)(fd:xD)(sl:Array (Option xL)),zb K vK C=u4 (u4 (.ref Ca))/\zc K (.ref Ca) m=u4 (u4 (.ref f))/\K.lookup f=u4 ⟨oc,od,.func fd,sl⟩/\fd.code=.ref c/\PySem.W.codeHdIn K c P=u6
structure Ext (a b:Wd):Prop where
 k:b.K=a.K
 n:a.n<=b.n
 m:∀i,i<a.n->b.m i=a.m i
 tup:∀p xs,a.H p=u4 (.tup xs)->b.H p=u4 (.tup xs)
 ND:∀p o u,a.H p=u4 (.ND o u)->b.H p=u4 (.ND o u)
 tab:∀p,ZI a.H p->ZI b.H p
def Ext.refl(a:Wd):Ext a a:=⟨rfl,zY _,λ_ _=>rfl,λ_ _ h=>h,λ_ _ _ h=>h,λ_ h=>h⟩
def Ext.trans(x:Ext a b)(y:Ext b c):Ext a c:=
 ⟨y.k.trans x.k,z8 x.n y.n,λi h=>(y.m i (zj h x.n)).trans (x.m i h),λp d h=>y.tup p d (x.tup p d h),λp o u h=>y.ND p o u (x.ND p o u h),λp h=>y.tab p (x.tab p h)⟩
def Ext.SY(x:Ext a b)(h:RH a.K a.H p xs):RH b.K b.H p xs:=by
 rcases h with(h|⟨o,h⟩)|h
 .exact .inl (.inl (x.tup _ _ h))
 .exact .inl (.inr ⟨o,x.ND _ _ _ h⟩)
 exact .inr (x.k▸h)
def Ext.TY(x:Ext a b)(h:U1 a.K a.H p xs):U1 b.K b.H p xs:=by
 rcases h with⟨o,h⟩|⟨e,h⟩
 .exact .inl ⟨o,x.ND _ _ _ h⟩
 exact .inr ⟨e,x.k▸h⟩
mutual
theorem XB.mono(x:Ext a b):∀{d:D}{v:V},XB a d v->XB b d v
 |.WA,_,h=>h
 |.bl _,_,h=>h
 |.int _,_,h=>h
 |.str _,_,h=>h
 |.ty _,_,h=>h
 |.tup f,v,h=>by obtain⟨p,c,e,q,r⟩:=h;exact⟨p,c,e,x.SY q,OA.mono x r⟩
 |.fl f,v,h=>by obtain⟨p,c,e,q,r⟩:=h;exact⟨p,c,e,x.TY q,OA.mono x r⟩
 |.ref i,v,h=>by obtain⟨l,e⟩:=h;exact⟨zj l x.n,by rw[x.m i l];exact e⟩
theorem OA.mono(x:Ext a b):∀{ds:List D}{vs:List V},OA a ds vs->OA b ds vs
 |[],_,h=>h
 |d::ds,vs,h=>by obtain⟨v,r,e,f,c⟩:=h;exact⟨v,r,e,XB.mono x f,OA.mono x c⟩
end
theorem OA.length:∀{ds:List D}{vs:List V},OA a ds vs->ds.length=vs.length
 |[],vs,h=>by cases(h);rfl
 |d::ds,vs,h=>by obtain⟨v,r,e,c,b⟩:=h;subst e;show ds.length+1=r.length+1;rw[OA.length b]
theorem OA.get:∀{ds:List D}{vs:List V}{i:Nat}{d:D},OA a ds vs->ds[i]?=u4 d->∃v,vs[i]?=u4 v/\XB a d v
 |[],vs,_,_,h,e=>by simp at e
 |d::ds,vs,0,j,h,e=>by obtain⟨v,r,b,f,c⟩:=h;subst b;simp at e;subst e;exact⟨v,rfl,f⟩
 |d::ds,vs,i+1,j,h,e=>by obtain⟨v,r,b,f,c⟩:=h;subst b;obtain⟨w,g,k⟩:=OA.get c (by simpa using e);exact⟨w,by simpa using g,k⟩
theorem OA.get':∀{ds:List D}{vs:List V}{i:Nat}{v:V},OA a ds vs->vs[i]?=u4 v->∃d,ds[i]?=u4 d/\XB a d v
 |[],vs,_,_,h,e=>by cases(h);simp at e
 |d::ds,vs,0,j,h,e=>by obtain⟨v,r,b,f,c⟩:=h;subst b;simp at e;subst e;exact⟨d,rfl,f⟩
 |d::ds,vs,i+1,j,h,e=>by obtain⟨v,r,b,f,c⟩:=h;subst b;obtain⟨w,g,k⟩:=OA.get' c (by simpa using e);exact⟨w,by simpa using g,k⟩
theorem OA.append:∀{ds es:List D}{vs us:List V},OA a ds vs->OA a es us->OA a (ds++es) (vs++us)
 |[],_,vs,_,h,b=>by cases(h);exact b
 |d::ds,es,vs,us,h,b=>by obtain⟨v,r,f,c,e⟩:=h;subst f;exact⟨v,r++us,rfl,c,.append e b⟩
def OA.cons(h:XB a d v)(r:OA a ds vs):OA a (d::ds) (v::vs):=⟨v,vs,rfl,h,r⟩
theorem OA.nil:OA a [] []:=rfl
theorem OA.set(h:XB a d v):∀{ds:List D}{vs:List V}(i:Nat),OA a ds vs->OA a (ds.set i d) (vs.set i v)
 |[],vs,_,r=>by cases(r);exact rfl
 |j::ds,vs,0,r=>by obtain⟨f,e,b,g,c⟩:=r;subst b;exact⟨v,e,rfl,h,c⟩
 |j::ds,vs,i+1,r=>by obtain⟨f,e,b,g,c⟩:=r;subst b;exact⟨f,e.set i v,rfl,g,.set h i c⟩
theorem OA.take:∀{ds:List D}{vs:List V}(i:Nat),OA a ds vs->OA a (ds.take i) (vs.take i)
 |_,_,0,_=>rfl
 |[],vs,_+1,r=>by cases(r);exact rfl
 |g::ds,vs,i+1,r=>by obtain⟨d,f,b,e,c⟩:=r;subst b;exact⟨d,f.take i,rfl,e,.take i c⟩
theorem OA.drop:∀{ds:List D}{vs:List V}(i:Nat),OA a ds vs->OA a (ds.drop i) (vs.drop i)
 |_,_,0,r=>r
 |[],vs,_+1,r=>by cases(r);exact rfl
 |e::ds,vs,i+1,r=>by obtain⟨d,g,b,f,c⟩:=r;subst b;exact .drop i c
theorem OA.ints:∀(ns:List Int),OA a (ns.map D.int) (ns.map V.int)
 |[]=>rfl
 |n::ns=>⟨.int n,ns.map V.int,rfl,rfl,.ints ns⟩
def TB(a:Wd)(kvs:List (Key×D))(us:List (Key×V)):Prop:=kvs.map (·.1)=us.map (·.1)/\OA a (kvs.map (·.2)) (us.map (·.2))
def YD(a:Wd)(fs:List (Str×D))(us:List (Str×V)):Prop:=fs.map (·.1)=us.map (·.1)/\OA a (fs.map (·.2)) (us.map (·.2))
def XD(a:Wd)(od:Option xA)(fs:List (Str×D)):Prop:=(fs=[]/\od=u5)\/∃dx o us,od=u4 dx/\a.H dx=u4 (.ND o (.xd us))/\YD a fs us
def RG(a:Wd):DO->Option HO->Prop
 |.lst ds,o=>∃vs,o=u4 (.lst vs)/\OA a ds vs
 |.WK kvs,o=>∃us,o=u4 (.dK us)/\TB a kvs us
 |.ins c fs,o=>∃C dx us,zb a.K vK c=u4 (u4 (.ref C))/\o=u4 (.ins C dx us)/\YD a fs us
 |.tab C m,_=>∃c P,TabAt a.K C m c P/\ZI a.H P
 |.exc c fs,o=>∃C oe u vs,zb a.K vK c=u4 (u4 (.ref C))/\o=u4 (.ND oe u)/\oe.cls=.ref C/\oe.data=.fields vs/\XD a oe.dict fs
 |.gone,_=>True
structure VB (a:Wd) (G:DH):Prop where
 len:G.length=a.n
 inj:∀i j,i<a.n->j<a.n->a.m i=a.m j->i=j
 obj:∀(i:Nat)(o:DO),G[i]?=u4 o->RG a o (a.H (a.m i))
 tr:∀i,i<a.n->a.H (a.m i)≠u5
structure XC (a:Wd) (S:RD) (σ:St):Prop where
 len:S.length=σ.length
 get:∀(i:Nat)(d:D),S[i]?=u4 (u4 d)->∃v,σ[i]?=u4 (u4 v)/\XB a d v
def XC.mono(x:Ext a b)(r:XC a S σ):XC b S σ:=⟨r.len,λi d h=>let⟨v,e,q⟩:=r.get i d h;⟨v,e,q.mono x⟩⟩
def XC.set(r:XC a S σ)(i:Nat)(h:XB a d v):XC a (S.set i (u4 d)) (σ.set i (u4 v)):=by
 refine⟨by simpa using r.len,λj e b=>?_⟩;rw[jY]at b⊢;by_cases c:i=j
 .subst c;rw[if_pos rfl]at b⊢;by_cases f:i<S.length
  .rw[if_pos f]at b;have g:d=e:=by simpa using b
   subst g;rw[if_pos (by rw[<-r.len];exact f)];exact⟨v,rfl,h⟩
  rw[if_neg f]at b;cases b
 rw[if_neg c]at b⊢;exact r.get j e b
def SO(E:XK)(a:Wd)(x:Xn)(G:DH):Prop:=E≠E0/\∀(b:Wd)(C:xA)(od:Option xA),Ext a b->VB b G->zb b.K vK x.cls=u4 (u4 (.ref C))->XD b od x.fs->E (.ref C) od b.H
def out(E:XK)(a:Wd)(r:R D)(Q:VK):Prop:=match r with
 |.ok d G=>∀(b:Wd)(v:V),Ext a b->VB b G->XB b d v->Q v b.H
 |.err x G=>SO E a x G
 |.bad=>False
def Fb(E:XK)(a:Wd)(r:R Bool)(Q:Bool->Hp->Prop):Prop:=match r with
 |.ok k G=>∀(b:Wd),Ext a b->VB b G->Q k b.H
 |.err x G=>SO E a x G
 |.bad=>False
def Fd(E:XK)(a:Wd)(r:R (List D))(Q:List V->Hp->Prop):Prop:=match r with
 |.ok ds G=>∀(b:Wd)(vs:List V),Ext a b->VB b G->OA b ds vs->Q vs b.H
 |.err x G=>SO E a x G
 |.bad=>False
def Br(E:XK)(a:Wd)(r:SR)(W:Ends):Prop:=match r with
 |.nx S G=>∀(b:Wd)(σ:St),Ext a b->VB b G->XC b S σ->W.nx σ b.H
 |.bk S G=>∀(b:Wd)(σ:St),Ext a b->VB b G->XC b S σ->W.bk σ b.H
 |.ct S G=>∀(b:Wd)(σ:St),Ext a b->VB b G->XC b S σ->W.ct σ b.H
 |.rt d G=>∀(b:Wd)(v:V),Ext a b->VB b G->XB b d v->W.rt v b.H
 |.err x G=>SO E a x G
 |.bad=>False
def SO.mono(x:Ext a b)(h:SO E a e G):SO E b e G:=⟨h.1,λc C d y s n q=>h.2 c C d (x.trans y) s n q⟩
theorem out.mono(x:Ext a b)(h:out E a r Q):out E b r Q:=by
 cases r with
 |ok d G=>exact λc v y s q=>h c v (x.trans y) s q
 |err e G=>exact SO.mono x h
 |bad=>exact h
theorem Fb.mono(x:Ext a b)(h:Fb E a r Q):Fb E b r Q:=by
 cases r with
 |ok d G=>exact λc y s=>h c (x.trans y) s
 |err e G=>exact SO.mono x h
 |bad=>exact h
theorem Fd.mono(x:Ext a b)(h:Fd E a r Q):Fd E b r Q:=by
 cases r with
 |ok d G=>exact λc f y s q=>h c f (x.trans y) s q
 |err e G=>exact SO.mono x h
 |bad=>exact h
theorem Br.mono(x:Ext a b)(h:Br E a r W):Br E b r W:=by
 cases r with
 |err e G=>exact SO.mono x h
 |bad=>exact h
 |_=>exact λc f y s q=>h c f (x.trans y) s q
inductive X1 (K:za) (σ:St) (H:Hp) (φ:Wd->RD->DH->Prop):Prop|mk (a:Wd) (S:RD) (G:DH) (hk:a.K=K) (hH:a.H=H) (s:VB a G) (r:XC a S σ) (h:φ a S G):X1 K σ H φ inductive PR3 {α β:Type} (a:Wd) (H:Hp) (r:R α) (v:β) (ρ:Wd->α->β->Prop) (φ:Wd->α->DH->Prop):Prop|mk (b:Wd) (d:α) (G:DH) (hH:b.H=H) (x:Ext a b) (s:VB b G) (q:ρ b d v) (e:r=.ok d G) (h:φ b d G):PR3 a H r v ρ φ inductive PN3 {α β:Type} (K:za) (H:Hp) (v:β) (ρ:Wd->α->β->Prop) (φ:Wd->DH->α->Prop):Prop|mk (a:Wd) (G:DH) (d:α) (hk:a.K=K) (hH:a.H=H) (s:VB a G) (q:ρ a d v) (h:φ a G d):PN3 K H v ρ φ inductive PD3 {α β γ δ:Type} (K:za) (H:Hp) (v:β) (w:δ) (ρ:Wd->α->β->Prop) (τ:Wd->γ->δ->Prop) (φ:Wd->DH->α->γ->Prop):Prop|mk (a:Wd) (G:DH) (d:α) (e:γ) (hk:a.K=K) (hH:a.H=H) (s:VB a G) (q:ρ a d v) (q':τ a e w) (h:φ a G d e):PD3 K H v w ρ τ φ inductive PG3 {α β:Type} (K:za) (σ:St) (H:Hp) (v:β) (ρ:Wd->α->β->Prop) (φ:Wd->RD->DH->α->Prop):Prop|mk (a:Wd) (S:RD) (G:DH) (d:α) (hk:a.K=K) (hH:a.H=H) (s:VB a G) (r:XC a S σ) (q:ρ a d v) (h:φ a S G d):PG3 K σ H v ρ φ inductive PB3 {α:Type} (a:Wd) (H:Hp) (r:R α) (k:α) (φ:Wd->DH->Prop):Prop|mk (b:Wd) (G:DH) (hH:b.H=H) (x:Ext a b) (s:VB b G) (e:r=.ok k G) (h:φ b G):PB3 a H r k φ def lE (K:za) (E:XK) (t:DE):TE:=λσ H Q=>X1 K σ H λa S G=>out E a (t S G) Q
noncomputable def lB(K:za)(E:XK)(t:DB):TT:=λσ H Q=>X1 K σ H λa S G=>Fb E a (t S G) Q
noncomputable def lA(K:za)(E:XK)(t:DA):TA:=λσ H Q=>X1 K σ H λa S G=>Fd E a (t S G) Q
noncomputable def lS(K:za)(E:XK)(t:DS):TS:=λW σ H=>X1 K σ H λa S G=>Br E a (t S G) W
noncomputable def OH(K:za)(E:XK)(f:D->D->DH->R D):R2:=λx y H Q=>PD3 K H x y XB XB λa G d e=>out E a (f d e G) Q
def lR1(K:za)(E:XK)(f:D->DH->R D):V->Hp->VK->Prop:=λx H Q=>PN3 K H x XB λa G d=>out E a (f d G) Q
def PR(K:za)(E:XK)(f:List D->DH->R D):List V->Hp->VK->Prop:=λxs H Q=>PN3 K H xs OA λa G ds=>out E a (f ds G) Q
noncomputable def lF(K:za)(f:List D->DH->R D):Sp:=λxs H Q _=>PN3 K H xs OA λa G ds=>out E0 a (f ds G) Q
noncomputable def Mb(K:za)(f:List D->DH->R D):Sp:=λxs H Q E=>PN3 K H xs OA λa G ds=>out E a (f ds G) Q
section
variable{X:Cx}{E:XK}
def QE(X:Cx)(E:XK)(e:xC)(t:DE):Prop:=PE X e (lE X.K E t)
def QT(X:Cx)(E:XK)(e:xC)(t:DB):Prop:=PT X e (lB X.K E t)
def QA(X:Cx)(E:XK)(es:List xC)(t:DA):Prop:=PA X es (lA X.K E t)
def QS(X:Cx)(E:XK)(st:xI)(t:DS):Prop:=PS X st (lS X.K E t)
def OP(X:Cx)(E:XK)(st:List xI)(t:DS):Prop:=RN X st (lS X.K E t)
def _root_._L.PE.mono(h:PE X e t)(w:∀b H Q,t' b H Q->t b H Q):PE X e t':=λa s b H Q I q=>h a s b H Q I (w b H Q q)
def _root_._L.PT.mono(h:PT X e t)(w:∀b H Q,t' b H Q->t b H Q):PT X e t':=λa s b H Q I q=>h a s b H Q I (w b H Q q)
def _root_._L.PA.mono(h:PA X e t)(w:∀b H Q,t' b H Q->t b H Q):PA X e t':=λc a s b H Q I q=>h c a s b H Q I (w b H Q q)
def _root_._L.PS.mono(h:PS X e t)(w:∀W b H,t' W b H->t W b H):PS X e t':=λa s b H W I q=>h a s b H W I (w W b H q)
def _root_._L.RN.mono(h:RN X e t)(w:∀W b H,t' W b H->t W b H):RN X e t':=λa s b H W I q=>h a s b H W I (w W b H q)
def _root_._L.WC.mono(h:WC X f r)(w:∀x y H Q,r' x y H Q->r x y H Q):WC X f r':=λa s d H x y v u Q I c b q=>h a s d H x y v u Q I c b (w _ _ _ _ q)
end
theorem El(h:out E a (r.bind f) Q):
  out E a r (λv H=>PR3 a H r v XB λb d G=>out E b (f d G) Q):=by
 cases r with
 |ok d G=>exact λb v x s q=>⟨b,d,G,rfl,x,s,q,rfl,out.mono x h⟩
 |_=>exact h
theorem Kq(h:out E a (r.bind f) Q):
  Fd E a r (λvs H=>PR3 a H r vs OA λb ds G=>out E b (f ds G) Q):=by
 cases r with
 |ok d G=>exact λb v x s q=>⟨b,d,G,rfl,x,s,q,rfl,out.mono x h⟩
 |_=>exact h
theorem cV(h:out E a (r.bind f) Q):
  Fb E a r (λk H=>PB3 a H r k λb G=>out E b (f k G) Q):=by
 cases r with
 |ok d G=>exact λb x s=>⟨b,G,rfl,x,s,rfl,out.mono x h⟩
 |_=>exact h
theorem rh(h:Fb E a (r.bind f) Q):
  out E a r (λv H=>PR3 a H r v XB λb d G=>Fb E b (f d G) Q):=by
 cases r with
 |ok d G=>exact λb v x s q=>⟨b,d,G,rfl,x,s,q,rfl,Fb.mono x h⟩
 |_=>exact h
theorem Yc(h:Fb E a (r.bind f) Q):
  Fb E a r (λk H=>PB3 a H r k λb G=>Fb E b (f k G) Q):=by
 cases r with
 |ok d G=>exact λb x s=>⟨b,G,rfl,x,s,rfl,Fb.mono x h⟩
 |_=>exact h
theorem rj(h:Fd E a (r.bind f) Q):
  out E a r (λv H=>PR3 a H r v XB λb d G=>Fd E b (f d G) Q):=by
 cases r with
 |ok d G=>exact λb v x s q=>⟨b,d,G,rfl,x,s,q,rfl,Fd.mono x h⟩
 |_=>exact h
theorem rm(h:Fd E a (r.bind f) Q):
  Fd E a r (λvs H=>PR3 a H r vs OA λb ds G=>Fd E b (f ds G) Q):=by
 cases r with
 |ok d G=>exact λb v x s q=>⟨b,d,G,rfl,x,s,q,rfl,Fd.mono x h⟩
 |_=>exact h
noncomputable def R.toS{α:Type}(f:α->DH->SR)(_:Fx f:=())(r:R α):SR:=match r with
 |.ok a G=>f a G
 |.err x G=>.err x G
 |.bad=>.bad
@[simp]theorem R.Bp{b:Type}(a:b)(G:DH)(f:b->DH->SR):(R.ok a G).toS f=f a G:=id rfl
@[simp]theorem R.KP{a:Type}(x:Xn)(G:DH)(f:a->DH->SR):(R.err x G:R a).toS f=.err x G:=id rfl
theorem G8(h:Br E a (r.toS f) W):
  out E a r (λv H=>PR3 a H r v XB λb d G=>Br E b (f d G) W):=by
 cases r with
 |ok d G=>exact λb v x s q=>⟨b,d,G,rfl,x,s,q,rfl,Br.mono x h⟩
 |_=>exact h
theorem cW(h:Br E a (r.toS f) W):
  Fb E a r (λk H=>PB3 a H r k λb G=>Br E b (f k G) W):=by
 cases r with
 |ok d G=>exact λb x s=>⟨b,G,rfl,x,s,rfl,Br.mono x h⟩
 |_=>exact h
section
theorem out.imp(h:out E a r Q)(w:∀v H,Q v H->Q' v H):out E a r Q':=by
 cases r with
 |ok d G=>exact λb v x s q=>w _ _ (h b v x s q)
 |_=>exact h
theorem Fd.imp(h:Fd E a r Q)(w:∀v H,Q v H->Q' v H):Fd E a r Q':=by
 cases r with
 |ok d G=>exact λb v x s q=>w _ _ (h b v x s q)
 |_=>exact h
theorem Fb.imp(h:Fb E a r Q)(w:∀v H,Q v H->Q' v H):Fb E a r Q':=by
 cases r with
 |ok d G=>exact λb x s=>w _ _ (h b x s)
 |_=>exact h
def Wd.push(a:Wd)(p:xA)(ho:HO):Wd:=⟨a.K,a.n+1,λk=>if k=a.n then p else a.m k,upd a.H p ho⟩
def Wd.put(a:Wd)(p:xA)(ho:HO):Wd:={a with H:=upd a.H p ho}
def Ext.put(h:a.H p=u5):Ext a (a.put p ho):=
 ⟨rfl,zY _,λ_ _=>rfl,λq c e=>by show upd a.H p ho q=_;rw[Ah (Gh e h)];exact e,λq o u e=>by show upd a.H p ho q=_;rw[Ah (Gh e h)];exact e,λ_ t=>t.mono (λq b e=>by show upd a.H p ho q=_;rw[Ah (Gh e h)];exact e) (λq o u e=>by show upd a.H p ho q=_;rw[Ah (Gh e h)];exact e)⟩
def Ext.push(h:a.H p=u5):Ext a (a.push p ho):=
 ⟨rfl,j3 _,λi b=>by show(if i=a.n then p else a.m i)=a.m i;rw[if_neg (z9 b)],λq d e=>by show upd a.H p ho q=_;rw[Ah (Gh e h)];exact e,λq o u e=>by show upd a.H p ho q=_;rw[Ah (Gh e h)];exact e,λ_ t=>t.mono (λq c e=>by show upd a.H p ho q=_;rw[Ah (Gh e h)];exact e) (λq o u e=>by show upd a.H p ho q=_;rw[Ah (Gh e h)];exact e)⟩
def XD.mono(x:Ext a b)(h:XD a od fs):XD b od fs:=by
 rcases h with h|⟨d,o,c,e,f,k,r⟩
 .exact .inl h
 exact .inr ⟨d,o,c,e,x.ND _ _ _ f,k,r.mono x⟩
theorem RG.mono(x:Ext a b)(h:RG a o q):RG b o q:=by
 cases o with
 |lst s=>obtain⟨f,e,r⟩:=h;exact⟨f,e,r.mono x⟩
 |WK g=>obtain⟨d,e,k,r⟩:=h;exact⟨d,e,k,r.mono x⟩
 |ins c fs=>obtain⟨C,i,d,n,e,k,r⟩:=h;exact⟨C,i,d,x.k▸n,e,k,r.mono x⟩
 |tab C m=>obtain⟨c,P,e,t⟩:=h;exact⟨c,P,x.k▸e,x.tab _ t⟩
 |exc c fs=>obtain⟨C,p,u,f,n,e,j,l,z⟩:=h;exact⟨C,p,u,f,x.k▸n,e,j,l,z.mono x⟩
 |gone=>trivial
def VB.lt(s:VB a G)(h:G[i]?=u4 o):i<a.n:=by rw[<-s.len];exact(zA.mp h).1
def VB.put(s:VB a G)(h:a.H p=u5):VB (a.put p ho) G:=by
 refine⟨s.len,s.inj,λi o e=>?_,λi b=>?_⟩
 .have z:=s.tr i (s.lt e);show RG _ o (upd a.H p ho (a.m i));rw[Ah (λq=>z (by rw[q];exact h))];exact(s.obj i o e).mono (.put h)
 have z:=s.tr i b;show upd a.H p ho (a.m i)≠u5;rw[Ah (λq=>z (by rw[q];exact h))];exact z
def VB.push(s:VB a G)(h:a.H p=u5)(r:RG (a.push p ho) o (u4 ho)):VB (a.push p ho) (G++[o]):=by
 have f:∀i,i<a.n->a.m i≠p:=λi g q=>s.tr i g (q▸h)
 have b:∀i,i<a.n->(a.push p ho).m i=a.m i:=λi g=>by show(if i=a.n then p else a.m i)=_;rw[if_neg (z9 g)]
 have d:(a.push p ho).m a.n=p:=by show(if a.n=a.n then p else a.m a.n)=_;rw[if_pos rfl]
 refine⟨by simp[s.len,Wd.push],λi j g v e=>?_,λi u e=>?_,λi g=>?_⟩
 .have l:i<a.n+1:=g;have w:j<a.n+1:=v;by_cases c:i<a.n
  .by_cases k:j<a.n
   .rw[b i c,b j k]at e;exact s.inj i j c k e
   have:j=a.n:=by lia
   subst this;rw[b i c,d]at e;exact absurd e (f i c)
  have:i=a.n:=by lia
  subst this;by_cases k:j<a.n
  .rw[b j k,d]at e;exact absurd e.symm (f j k)
  lia
 .by_cases c:i<a.n
  .rw[zP (s.len▸c)]at e;rw[b i c];show RG _ u (upd a.H p ho (a.m i));rw[Ah (f i c)];exact(s.obj i u e).mono (.push h)
  have t:=(zA.mp e).1;have:i=a.n:=by rw[qQ,s.len]at t;simp at t;lia
  subst this;rw[zC (s.len▸zY _),s.len]at e;simp at e;subst e;rw[d];show RG _ o (upd a.H p ho p);rw[Ek];exact r
 have l:i<a.n+1:=g;by_cases c:i<a.n
 .rw[b i c];show upd a.H p ho (a.m i)≠u5;rw[Ah (f i c)];exact s.tr i c
 .have:i=a.n:=by lia
  subst this;rw[d];show upd a.H p ho p≠u5;rw[Ek];simp
def Ext.wr(h:a.H p=u4 (.lst vs)):Ext a (a.put p ho):=
 ⟨rfl,zY _,λ_ _=>rfl,λq c e=>by
  show upd a.H p ho q=_;rw[Ah (λz=>by subst z;rw[h]at e;cases e)];exact e,λq o u e=>by
  show upd a.H p ho q=_;rw[Ah (λz=>by subst z;rw[h]at e;cases e)];exact e,λ_ t=>t.mono (λq b e=>by show upd a.H p ho q=_;rw[Ah (λz=>by subst z;rw[h]at e;cases e)];exact e) (λq o u e=>by show upd a.H p ho q=_;rw[Ah (λz=>by subst z;rw[h]at e;cases e)];exact e)⟩
def VB.wr(s:VB a G)(c:i<a.n)(h:a.H (a.m i)=u4 (.lst vs))(r:OA (a.put (a.m i) (.lst MS)) ds' MS):VB (a.put (a.m i) (.lst MS)) (G.set i (.lst ds')):=by
 refine⟨by rw[jE];exact s.len,s.inj,λj o e=>?_,λj d=>?_⟩
 .rw[jY]at e;show RG _ o (upd a.H (a.m i) (.lst MS) (a.m j));by_cases b:i=j
  .subst b;rw[if_pos rfl,if_pos (s.len▸c)]at e;cases e;rw[Ek];exact⟨MS,rfl,r⟩
  rw[if_neg b]at e;rw[Ah λz=>b (s.inj _ _ (s.lt e) c z).symm];exact(s.obj j o e).mono (.wr h)
 show upd a.H (a.m i) (.lst MS) (a.m j)≠u5;by_cases b:a.m j=a.m i
 .rw[b,Ek];simp
 rw[Ah b];exact s.tr j d
mutual
noncomputable def PC(n:Nat):D->Bool
 |.ref i=>decide (i<n)
 |.tup ds=>XA n ds
 |.fl ds=>XA n ds
 |_=>u6
noncomputable def XA(n:Nat):List D->Bool
 |[]=>u6
 |d::ds=>PC n d&&XA n ds
end
def M3(n:Nat):DO->Bool
 |.lst ds=>XA n ds
 |.WK kvs=>XA n (kvs.map (·.2))
 |.ins _ fs=>XA n (fs.map (·.2))
 |.tab _ _=>u6
 |.exc _ fs=>XA n (fs.map (·.2))
 |.gone=>u6
mutual
theorem XB.PC:∀{d:D}{v:V},XB a d v->PC a.n d=u6
 |.WA,_,_=>by simp[_D.PC]
 |.bl _,_,_=>by simp[_D.PC]
 |.int _,_,_=>by simp[_D.PC]
 |.str _,_,_=>by simp[_D.PC]
 |.ty _,_,_=>by simp[_D.PC]
 |.tup b,v,h=>by obtain⟨p,c,e,q,r⟩:=h;simp only[_D.PC];exact OA.XA r
 |.fl b,v,h=>by obtain⟨p,c,e,q,r⟩:=h;simp only[_D.PC];exact OA.XA r
 |.ref i,v,h=>by obtain⟨l,e⟩:=h;simp only[_D.PC];exact decide_eq_true l
theorem OA.XA:∀{b:List D}{vs:List V},OA a b vs->XA a.n b=u6
 |[],_,_=>by simp[_D.XA]
 |d::b,vs,h=>by
  obtain⟨v,r,e,f,c⟩:=h;simp only[_D.XA];rw[XB.PC f,OA.XA c]
  rfl
end
structure Cut (b c:Wd):Prop where
 k:c.K=b.K
 h:c.H=b.H
mutual
theorem XB.cut(x:Cut b c)(a:n<=c.n)(g:∀i,i<n->c.m i=b.m i):∀{d:D}{v:V},XB b d v->PC n d=u6->XB c d v
 |.WA,_,h,_=>h
 |.bl _,_,h,_=>h
 |.int _,_,h,_=>h
 |.str _,_,h,_=>h
 |.ty _,_,h,_=>h
 |.tup o,v,h,q=>by obtain⟨p,f,e,t,r⟩:=h;simp only[_D.PC]at q;exact⟨p,f,e,by rw[x.k,x.h];exact t,OA.cut x a g r q⟩
 |.fl o,v,h,q=>by obtain⟨p,f,e,t,r⟩:=h;simp only[_D.PC]at q;exact⟨p,f,e,by rw[x.k,x.h];exact t,OA.cut x a g r q⟩
 |.ref i,v,h,q=>by obtain⟨l,e⟩:=h;simp only[_D.PC]at q;have j:=of_decide_eq_true q;exact⟨zj j a,by rw[g i j];exact e⟩
theorem OA.cut(x:Cut b c)(f:n<=c.n)(g:∀i,i<n->c.m i=b.m i):∀{a:List D}{vs:List V},OA b a vs->XA n a=u6->OA c a vs
 |[],_,h,_=>h
 |d::a,vs,h,q=>by obtain⟨v,r,e,j,k⟩:=h;simp only[_D.XA,z7]at q;exact⟨v,r,e,XB.cut x f g j q.1,OA.cut x f g k q.2⟩
end
theorem RG.cut(x:Cut b c)(d:n<=c.n)(g:∀i,i<n->c.m i=b.m i)(h:RG b o q)(l:M3 n o=u6):RG c o q:=by
 cases o with
 |lst A=>obtain⟨p,e,r⟩:=h;exact⟨p,e,.cut x d g r l⟩
 |WK s=>obtain⟨a,e,k,r⟩:=h;exact⟨a,e,k,.cut x d g r l⟩
 |ins c fs=>obtain⟨C,j,a,n,e,k,r⟩:=h;exact⟨C,j,a,x.k▸n,e,k,.cut x d g r l⟩
 |tab C m=>obtain⟨c,P,e,t⟩:=h;exact⟨c,P,x.k▸e,x.h▸t⟩
 |exc c fs=>
  obtain⟨C,y,u,p,n,e,v,w,z⟩:=h;refine⟨C,y,u,p,x.k▸n,e,v,w,?_⟩;rcases z with z|⟨j,o,a,e,f,k,r⟩
  .exact .inl z
  exact .inr ⟨j,o,a,e,x.h▸f,k,.cut x d g r l⟩
 |gone=>trivial
theorem RG.M3(h:RG a o q):M3 a.n o=u6:=by
 cases o with
 |lst l=>obtain⟨i,e,r⟩:=h;exact r.XA
 |WK d=>obtain⟨b,e,k,r⟩:=h;exact r.XA
 |ins c fs=>obtain⟨C,g,b,n,e,k,r⟩:=h;exact r.XA
 |exc c fs=>
  obtain⟨C,s,u,i,n,e,j,p,z⟩:=h;rcases z with⟨z,_⟩|⟨g,o,b,e,f,k,r⟩
  .rw[z];rfl
  exact r.XA
 |_=>rfl
open Classical in
def tidy (G:DH) (r:R D):R D:=match r with
 | .ok d G'=>if G'.take G.length=G then
   (if PC G.length d=u6 then .ok d G else match d with
    |.ref i=>match G'[i]? with
     |some o=>if M3 G.length o=u6 then .ok (.ref G.length) (G++[o])else .ok d G'
     |none=>.ok d G'
    |_=>.ok d G')else .ok d G'
 |r=>r
theorem cX (s:VB a G) (h:out E a (tidy G r) Q):out E a r Q:=by
 cases r with
 | ok d M=>
  intro b v x f I;unfold tidy at h;dsimp only at h;split at h
  .rename_i S;have F:∀i o,G[i]?=u4 o->M[i]?=u4 o:=λi o e=>by have C:=(zA.mp e).1;rw[<-S,jA C]at e;exact e
   have t:∀(c:Wd),Cut b c->a.n<=c.n->(∀i,i<a.n->c.m i=b.m i)->∀i o,G[i]?=u4 o->RG c o (c.H (c.m i)):=λc q P N i o e=>by rw[q.h,N i (s.lt e)];exact(f.obj i o (F i o e)).cut q P N (s.obj i o e).M3
   split at h
   .rename_i z;rw[s.len]at z;let c:Wd:=⟨b.K,a.n,b.m,b.H⟩;have q:Cut b c:=⟨rfl,rfl⟩;exact h c v ⟨x.k,zY _,x.m,x.tup,x.ND,x.tab⟩ ⟨s.len,λi j C g=>f.inj i j (zj C x.n) (zj g x.n),t c q (zY _) (λ_ _=>rfl),λi C=>f.tr i (zj C x.n)⟩ (I.cut q (zY _) (λ_ _=>rfl) z)
   rename_i z;split at h
   .rename_i i;obtain⟨B,L⟩:=I;split at h
    .rename_i o T;split at h
     .rename_i A;rw[s.len]at A z h;simp[_D.PC,decide_eq_true_eq]at z;let c:Wd:=⟨b.K,a.n+1,λk=>if k=a.n then b.m i else b.m k,b.H⟩;have q:Cut b c:=⟨rfl,rfl⟩;have w:∀j,j<a.n->c.m j=b.m j:=λj g=>by show(if j=a.n then b.m i else b.m j)=_;rw[if_neg (z9 g)]
      have cn:c.m a.n=b.m i:=by show(if a.n=a.n then b.m i else b.m a.n)=_;rw[if_pos rfl]
      have l:∀j,j<a.n->j<b.n:=λj g=>zj g x.n
      refine h c v ⟨x.k,j3 _,λj g=>(w j g).trans (x.m j g),x.tup,x.ND,x.tab⟩ ⟨by simp[s.len,c],λj k g hk e=>?_,λj u e=>?_,λj g=>?_⟩ ⟨qV _,cn▸L⟩
      .have J:j<a.n+1:=g;have U:k<a.n+1:=hk;by_cases p:j<a.n
       .by_cases y:k<a.n
        .rw[w j p,w k y]at e;exact f.inj j k (l j p) (l k y) e
        .have:k=a.n:=by lia
         subst this;rw[w j p,cn]at e;have:=f.inj j i (l j p) B e;lia
       .have:j=a.n:=by lia
        subst this;by_cases y:k<a.n
        .rw[w k y,cn]at e;have:=f.inj i k B (l k y) e;lia
        lia
      .by_cases p:j<a.n
       .rw[zP (s.len▸p)]at e;exact t c q (j3 _) w j u e
       .have O:=(zA.mp e).1;have:j=a.n:=by rw[qQ,s.len]at O;simp at O;lia
        subst this;rw[zC (s.len▸zY _),s.len]at e;simp at e;subst e;rw[cn];exact(f.obj i o T).cut q (j3 _) w A
      .have J:j<a.n+1:=g;by_cases p:j<a.n
       .rw[w j p];exact f.tr j (l j p)
       .have:j=a.n:=by lia
        subst this;rw[cn];exact f.tr i B
     exact h b v x f ⟨B,L⟩
    exact h b v x f ⟨B,L⟩
   exact h b v x f I
  exact h b v x f I
 |_=>exact h
end
noncomputable def dV(i:Nat):DE:=λS G=>match S[i]? with
 |some (u4 d)=>.ok d G
 |_=>.bad
def dC(d:D):DE:=λ_ G=>.ok d G
def UB(f:D->D->DH->R D)(a b:DE):DE:=λS G=>(a S G).bind λx G1=>(b S G1).bind λy G2=>f x y G2
def UO(f:D->DH->R D)(a:DE):DE:=λS G=>(a S G).bind f
def Bm:DA:=λ_ G=>.ok [] G
def Aq(a:DE)(r:DA):DA:=λS G=>(a S G).bind λx G1=>(r S G1).bind λxs G2=>.ok (x::xs) G2
def RA(f:List D->DH->R D)(t:DA):DE:=λS G=>(t S G).bind f
def Bx(t:DE):DE:=λS G=>tidy G (t S G)
noncomputable def MU:D->DH->R Bool
 |.bl k,G=>.ok k G
 |_,_=>.bad
def Ax(t:DE):DB:=λS G=>(t S G).bind MU
def Jq(t u:DB):DB:=λS G=>(t S G).bind λk G1=>if k=u6 then u S G1 else .ok u7 G1
def UN(t u:DB):DB:=λS G=>(t S G).bind λk G1=>if k=u6 then .ok u6 G1 else u S G1
def Gb(t:DB):DB:=λS G=>(t S G).bind λk G1=>.ok (!k) G1
def Jx(t u:DE):DE:=λS G=>(t S G).bind λx G1=>(MU x G1).bind λk G2=>if k=u6 then u S G2 else .ok (.bl u7) G2
def Rz(t u:DE):DE:=λS G=>(t S G).bind λx G1=>(MU x G1).bind λk G2=>if k=u6 then .ok (.bl u6) G2 else u S G2
def Oj(t:DE):DE:=λS G=>(t S G).bind λx G1=>(MU x G1).bind λk G2=>.ok (.bl (!k)) G2
def Y1(c:DB)(t u:DE):DE:=λS G=>(c S G).bind λk G1=>if k=u6 then t S G1 else u S G1
def Jr(f g:D->D->DH->R D)(a b c:DE):DE:=λS G=>(a S G).bind λx G1=>(b S G1).bind λy G2=>(f x y G2).bind λz G3=>(MU z G3).bind λk G4=>
 if k=u6 then(c S G4).bind λw G5=>g y w G5 else .ok (.bl u7) G4
noncomputable def Ag(ds:List D)(G:DH):R D:=if ds.length<=1000000 then .ok (.tup ds) G else .bad
noncomputable def Ae(ds:List D)(G:DH):R D:=if ds.length<=1000000 then .ok (.ref G.length) (G++[.lst ds])else .bad
noncomputable def Bd(d:D)(G:DH):Option (List D):=match d with
 |.tup xs=>u4 xs
 |.fl xs=>u4 xs
 |.ref i=>match G[i]? with
  |some (.lst xs)=>u4 xs
  |_=>u5
 |_=>u5
def ZC:(1000000:Nat)<=sizeLine:=by decide
section
variable{X:Cx}{E:XK}{a b c:xC}{ta tb tc:DE}{pos:Pos}
def two{K:za}{f:D->D->DH->R D}{g:St}{H:Hp}{Q:VK}(h:lE K E (UB f ta tb) g H Q):Ta (OH K E f) (lE K E ta) (lE K E tb) g H Q:=by obtain⟨a,S,G,hk,rfl,s,r,h⟩:=h;refine⟨a,S,G,hk,rfl,s,r,(El h).imp ?_⟩;rintro v _ ⟨b,d,i,rfl,x,z,q,_,j⟩;refine⟨b,S,i,x.k.trans hk,rfl,z,r.mono x,(El j).imp ?_⟩;rintro w _ ⟨c,e,n,rfl,y,m,o,_,l⟩;exact⟨c,n,d,e,y.k.trans (x.k.trans hk),rfl,m,q.mono y,o,l⟩
def Mu(i:Nat){pos:Pos}(j:X.N[i]?=u4 x:=by rfl)(k:XW X.env.scope x:=by first|exact Or.inl rfl|exact Or.inr (Or.inl rfl)|exact Or.inr (Or.inr rfl))(l:(x==("__debug__":Str))=u7:=by decide)
  (f:(x==("__classdict__":Str))=u7:=by decide):QE X E (.Name x pos) (dV i):=by
 refine(Ph j k l f).mono λm H Q h=>?_
 obtain⟨a,S,G,hk,rfl,s,r,h⟩:=h;unfold dV at h;split at h
 .rename_i d e;obtain⟨v,g,q⟩:=r.get i d e;exact⟨v,g,h a v (.refl a) s q⟩
 exact h.elim
def Mv{K:za}{d:D}{v:V}{f:St}{H:Hp}{Q:VK}(h:lE K E (dC d) f H Q)(r:∀a:Wd,a.K=K->XB a d v):Q v H:=by obtain⟨a,S,G,hk,rfl,s,_,h⟩:=h;exact h a v (.refl a) s (r a hk)
def Ms{i:Int}{j:Nat}:QE X E (.Constant (.int i) j pos) (dC (.int i)):=mv.mono λd H Q h=>Mv h λ_ _=>rfl
def rq{i:Bool}{j:Nat}:QE X E (.Constant (.bool i) j pos) (dC (.bl i)):=mw.mono λd H Q h=>Mv h λ_ _=>rfl
def rr{j:Nat}:QE X E (.Constant .none j pos) (dC .WA):=mx.mono λd H Q h=>Mv h λ_ _=>rfl
def rz{i:Str}{j:Nat}:QE X E (.Constant (.str i) j pos) (dC (.str i)):=Q6.mono λd H Q h=>Mv h λ_ _=>rfl
def aL(g:Gl X x)(i:X.mg x=u4 u)(r:RelV v u)(f:∀a:Wd,a.K=X.K->XB a d v)(j:(x==("__debug__":Str))=u7:=by decide):QE X E (.Name x pos) (dC d):=
 (Zy g i r j).mono λk H Q h=>Mv h f
def sA(ho:WC X (xT op) (OH X.K E f))(g:QE X E a ta)(d:QE X E b tb):QE X E (.BinOp a op b pos) (UB f ta tb):=
 (nv ho g d).mono λ_ _ _ h=>two h
def sD(ho:WC X (vJ op) (OH X.K E f))(g:QE X E a ta)(d:QE X E b tb)(i:xS op b=u7):QE X E (.Compare a [op] [b] pos) (UB f ta tb):=
 (oV ho g d i).mono λ_ _ _ h=>two h
theorem V4{K:za}{t:DE}{f:St}{H:Hp}{Q:Bool->Hp->Prop}(h:lB K E (Ax t) f H Q):Qo (lE K E t) f H Q:=by
 obtain⟨a,S,G,hk,rfl,s,r,h⟩:=h;refine⟨a,S,G,hk,rfl,s,r,(rh h).imp ?_⟩;rintro v _ ⟨b,d,j,rfl,x,i,q,_,g⟩;cases d with
 |bl k=>exact⟨k,q,g b (.refl b) i⟩
 |_=>exact g.elim
def aM(w:∀d H Q,t' d H Q->t d H Q)(d:St)(H:Hp)(Q:Bool->Hp->Prop)(h:Qo t' d H Q):Qo t d H Q:=w _ _ _ h
def P0(ho:WC X (vJ op) (OH X.K E f))(i:QE X E a ta)(g:QE X E b tb)(j:xS op b=u7):QT X E (.Compare a [op] [b] pos) (Ax (UB f ta tb)):=
 (bj ho i g j).mono λd H Q h=>aM (λ_ _ _ z=>two z) d H Q (V4 h)
theorem chain{K:za}{f g:D->D->DH->R D}{n:St}{H:Hp}{Q:VK}(h:lE K E (Jr f g ta tb tc) n H Q):bo (OH K E f) (OH K E g) (lE K E ta) (lE K E tb) (lE K E tc) n H Q:=by
 obtain⟨a,S,G,hk,rfl,s,r,h⟩:=h;refine⟨a,S,G,hk,rfl,s,r,(El h).imp ?_⟩;rintro v _ ⟨b,d,B,rfl,x,U,q,_,O⟩;refine⟨b,S,B,x.k.trans hk,rfl,U,r.mono x,(El O).imp ?_⟩;rintro w _ ⟨c,e,J,rfl,y,P,l,_,C⟩;refine⟨c,J,d,e,y.k.trans (x.k.trans hk),rfl,P,q.mono y,l,(El C).imp ?_⟩;rintro z _ ⟨o,F,T,rfl,i,A,Y,_,j⟩;cases F with
 | bl k=>
  refine⟨k,Y,?_⟩;cases k with
  |false=>exact j o (.bl u7) (.refl _) A rfl
  |true=>
   refine⟨o,S,T,(i.k.trans (y.k.trans (x.k.trans hk))),rfl,A,((r.mono x).mono y).mono i,(El j).imp ?_⟩;rintro z4 _ ⟨M,e4,L,rfl,m,I,N,_,Z⟩;exact⟨M,L,e,e4,m.k.trans (i.k.trans (y.k.trans (x.k.trans hk))),rfl,I,(l.mono i).mono m,N,Z⟩
 |_=>exact j.elim
def sE(ho:WC X (vJ op) (OH X.K E f))(d:WC X (vJ op') (OH X.K E g))(k:QE X E a ta)(j:QE X E b tb)(m:QE X E c tc)
  (l:lastMarks [op,op'] [b,c]=u7:=by with_unfolding_all rfl):QT X E (.Compare a [op,op'] [b,c] pos) (Ax (Jr f g ta tb tc)):=
 (oW ho d k j m l).mono λi H Q h=>aM (λ_ _ _ z=>chain z) i H Q (V4 h)
def sG(g:QE X E a ta)(f:∀d,isTrue a X.env d=(do let v<-d;standAt a.pos;holding [v] (truthy v)):=by intro _;rfl):QT X E a (Ax ta):=
 (mz g f).mono λi H Q h=>V4 h
def sH(d:QE X E a ta):QE X E a (Bx ta):=.mono d λf H Q h=>by obtain⟨w,S,G,hk,rfl,s,r,h⟩:=h;exact⟨w,S,G,hk,rfl,s,r,cX s h⟩
def QW(X:Cx)(E:XK)(e:xC)(t:DB):Prop:=PW X e (lB X.K E t)
def _root_._L.PW.mono(h:PW X e t)(w:∀d H Q,t' d H Q->t d H Q):PW X e t':=λg f s d H Q I q=>h g f s d H Q I (w d H Q q)
variable{u t:DB}{rest:List xC}
theorem sI{K:za}{d:St}{H:Hp}{Q:Bool->Hp->Prop}(h:lB K E (Jq t u) d H Q):Si (lB K E t) (lB K E u) d H Q:=by
 obtain⟨a,S,G,hk,rfl,s,r,h⟩:=h;refine⟨a,S,G,hk,rfl,s,r,(Yc h).imp ?_⟩;rintro k _ ⟨b,i,rfl,x,g,_,f⟩;cases k with
 |true=>exact⟨b,S,i,x.k.trans hk,rfl,g,r.mono x,f⟩
 |false=>exact f b (.refl b) g
theorem sJ{K:za}{d:St}{H:Hp}{Q:Bool->Hp->Prop}(h:lB K E (UN t u) d H Q):tOr (lB K E t) (lB K E u) d H Q:=by
 obtain⟨a,S,G,hk,rfl,s,r,h⟩:=h;refine⟨a,S,G,hk,rfl,s,r,(Yc h).imp ?_⟩;rintro k _ ⟨b,i,rfl,x,g,_,f⟩;cases k with
 |true=>exact f b (.refl b) g
 |false=>exact⟨b,S,i,x.k.trans hk,rfl,g,r.mono x,f⟩
def sM(d:QT X E a t):QW X E (.BoolOp .And [a] pos) t:=YW d
def cY(d:QT X E a t):QW X E (.BoolOp .Or [a] pos) t:=X0 d
def sN(f:QT X E a t)(d:QW X E (.BoolOp .And (b::rest) pos) u):QW X E (.BoolOp .And (a::b::rest) pos) (Jq t u):=(M1 f d).mono λ_ _ _ h=>sI h
def Rt(f:QT X E a t)(d:QW X E (.BoolOp .Or (b::rest) pos) u):QW X E (.BoolOp .Or (a::b::rest) pos) (UN t u):=(Sj f d).mono λ_ _ _ h=>sJ h
def aN(h:QW X E a t):QT X E a t:=_L.PW.pt h
def sO(f:QT X E a t):QT X E (.UnaryOp .Not a pos) (Gb t):=(nA f).mono λj H Q h=>by obtain⟨a,S,G,hk,rfl,s,r,h⟩:=h;refine⟨a,S,G,hk,rfl,s,r,(Yc h).imp ?_⟩;rintro k _ ⟨b,i,rfl,x,g,_,d⟩;exact d b (.refl b) g
def sP{op}(h:QE X E a ta):QE X E (.BoolOp op [a] pos) ta:=nE h
theorem sQ(l:QE X E a ta)(j:QE X E (.BoolOp .And (b::rest) pos) tb):QE X E (.BoolOp .And (a::b::rest) pos) (Jx ta tb):=(nF l j).mono λm H Q h=>by
 obtain⟨a,S,G,hk,rfl,s,r,h⟩:=h;refine⟨a,S,G,hk,rfl,s,r,(El h).imp ?_⟩;rintro v _ ⟨b,d,i,rfl,x,g,q,_,f⟩;cases d with
 |bl k=>
  refine⟨k,q,?_⟩;cases k with
  |true=>exact⟨b,S,i,x.k.trans hk,rfl,g,r.mono x,f⟩
  |false=>exact f b _ (.refl b) g rfl
 |_=>exact f.elim
theorem sR(l:QE X E a ta)(j:QE X E (.BoolOp .Or (b::rest) pos) tb):QE X E (.BoolOp .Or (a::b::rest) pos) (Rz ta tb):=(nG l j).mono λm H Q h=>by
 obtain⟨a,S,G,hk,rfl,s,r,h⟩:=h;refine⟨a,S,G,hk,rfl,s,r,(El h).imp ?_⟩;rintro v _ ⟨b,d,i,rfl,x,g,q,_,f⟩;cases d with
 |bl k=>
  refine⟨k,q,?_⟩;cases k with
  |false=>exact⟨b,S,i,x.k.trans hk,rfl,g,r.mono x,f⟩
  |true=>exact f b _ (.refl b) g rfl
 |_=>exact f.elim
theorem sS(g:QE X E a ta):QE X E (.UnaryOp .Not a pos) (Oj ta):=(nH g).mono λl H Q h=>by
 obtain⟨a,S,G,hk,rfl,s,r,h⟩:=h;refine⟨a,S,G,hk,rfl,s,r,(El h).imp ?_⟩;rintro v _ ⟨b,d,j,rfl,x,i,q,_,f⟩;cases d with
 |bl k=>exact⟨k,q,f b _ (.refl b) i rfl⟩
 |_=>exact f.elim
theorem sT(l:QT X E c t)(j:QE X E a ta)(i:QE X E b tb):QE X E (.IfExp c a b pos) (Y1 t ta tb):=(nI l j i).mono λm H Q h=>by
 obtain⟨a,S,G,hk,rfl,s,r,h⟩:=h;refine⟨a,S,G,hk,rfl,s,r,(cV h).imp ?_⟩;rintro k _ ⟨b,d,rfl,x,g,_,f⟩;cases k with
 |_=>exact⟨b,S,d,x.k.trans hk,rfl,g,r.mono x,f⟩
variable{es:List xC}{tr:DA}
def sU:QA X E [] Bm:=bt.mono λd H Q h=>by obtain⟨a,S,G,hk,rfl,s,r,h⟩:=h;exact h a [] (.refl a) s rfl
noncomputable def notStar:xC->Bool
 |.Starred _ _=>u7
 |_=>u6
def Ij(a:xC)(es:List xC)(env:Env)(h:notStar a=u6):vx (a::es) env=(u7,eval a env)::vx es env:=by
 cases a<;>first
  |exact absurd h z5
  |rfl
theorem M8(pos:Pos)(env:Env):∀es:List xC,es.all notStar=u6->(xP pos (vx es env)).any (·.1)=u7
 |[],_=>rfl
 |a::es,h=>by
  rw[qO,z7]at h;rw[Ij a es env h.1];have d:=M8 pos env es h.2;unfold xP at d⊢;rw[zy,jF,d]
  rfl
def sV(m:QE X E a ta)(o:QA X E es tr)(i:notStar a=u6:=by rfl):QA X E (a::es) (Aq ta tr):=(Z6 m o (Ij a es X.env i)).mono λz H Q h=>by obtain⟨a,S,G,hk,rfl,s,r,h⟩:=h;refine⟨a,S,G,hk,rfl,s,r,(rj h).imp ?_⟩;rintro v _ ⟨b,d,f,rfl,x,w,q,_,g⟩;refine⟨b,S,f,x.k.trans hk,rfl,w,r.mono x,(rm g).imp ?_⟩;rintro A _ ⟨c,C,B,rfl,y,l,n,_,j⟩;exact j c _ (.refl c) l (.cons (q.mono y) n)
def sW{x1}(h:QA X E es tr):QE X E (.Tuple es x1 pos) (RA Ag tr):=(pB h).mono λk H Q h=>by
 obtain⟨a,S,G,hk,rfl,s,r,h⟩:=h;refine⟨a,S,G,hk,rfl,s,r,(Kq h).imp ?_⟩;rintro f _ ⟨b,l,j,rfl,x,i,q,_,d⟩;unfold Ag at d;split at d
 .rename_i g;exact⟨by rw[<-q.length];exact z8 g ZC,λp hp=>(d (b.put p (.tup f)) (.ref p) (.put hp) (i.put hp) ⟨p,f,rfl,.of Ek,q.mono (.put hp)⟩)⟩
 exact d.elim
def sX(h:QA X E es tr):QE X E (.List es pos) (RA Ae tr):=(pC h).mono λk H Q h=>by
 obtain⟨a,S,G,hk,rfl,s,r,h⟩:=h;refine⟨a,S,G,hk,rfl,s,r,(Kq h).imp ?_⟩;rintro g _ ⟨b,l,j,rfl,x,f,q,_,d⟩;unfold Ae at d;split at d
 .rename_i i;refine⟨by rw[<-q.length];exact z8 i ZC,λp hp=>?_⟩;refine d (b.push p (.lst g)) (.ref p) (.push hp) (f.push hp ⟨g,rfl,q.mono (.push hp)⟩) ⟨?_,?_⟩
  .rw[f.len];exact qV _
  rw[f.len];show V.ref p=.ref (if b.n=b.n then p else b.m b.n);rw[if_pos rfl]
 exact d.elim
variable{e:xC}{x:Str}{p:Pos}
def Vz{K:za}{f:List D->DH->R D}{d:St}{H:Hp}{Q:VK}(h:lE K E (RA f tr) d H Q):lA K E tr d H (λvs g=>PR K E f vs g Q):=by obtain⟨a,S,G,hk,rfl,s,r,h⟩:=h;refine⟨a,S,G,hk,rfl,s,r,(Kq h).imp ?_⟩;rintro vs _ ⟨b,l,i,rfl,x,m,q,_,j⟩;exact⟨b,i,l,x.k.trans hk,rfl,m,q,j⟩
def sY{id:String}{f:List D->DH->R D}(n:WB X (.builtin id) (PR X.K E f))(j:Gl X x)(m:X.mg x=u5)(l:xU x=u4 (.builtin id))(k:QA X E (e::es) tr)(i:x≠"__name__":=by decide)(g:(x==("__debug__":Str))=u7:=by decide)
  (o:notStar e=u6:=by rfl) (d:es.all notStar=u6:=by rfl):QE X E (.Call (.Name x p) (e::es) [] pos) (RA f tr):=
 (pN n j m l k i g (Ij e es X.env o) (M8 pos X.env es d)).mono λq H Q h=>Vz h
def sZ{id:String}{f:List D->DH->R D}(n:WB X (.type id) (PR X.K E f))(j:Gl X x)(m:X.mg x=u5)(l:xU x=u4 (.type id))(k:QA X E (e::es) tr)(i:x≠"__name__":=by decide)(g:(x==("__debug__":Str))=u7:=by decide)
  (o:notStar e=u6:=by rfl) (d:es.all notStar=u6:=by rfl):QE X E (.Call (.Name x p) (e::es) [] pos) (RA f tr):=
 (pO n j m l k i g (Ij e es X.env o) (M8 pos X.env es d)).mono λq H Q h=>Vz h
def sd{CX:MP}{k:Nat}{f:xA}{i:xD}{ps:List Str}{F:List D->DH->R D}(m:QD X.prog X.w X.K X.mg X.base CX k f i ps (lF X.K F))(C:NC k X.A)(n:Gl X x)(z:X.mg x=u4 (.ref f))(hk:ze X.K (.ref f)=u6)(v:Binds X.K i ps [])
  (o:Passes CX X E0) (y:QA X E0 (e::es) tr) (g:(x==("__debug__":Str))=u7:=by decide) (J:notStar e=u6:=by rfl) (d:es.all notStar=u6:=by rfl):
  QE X E0 (.Call (.Name x p) (e::es) [] pos) (RA F tr):=
 (bu m C n z hk v .nil o y g (Ij e es X.env J) (M8 pos X.env es d)).mono λL H Q h=>by
  replace h:=Vz h;obtain⟨a,S,G,hk,rfl,s,r,h⟩:=h
  refine⟨a,S,G,hk,rfl,s,r,h.imp ?_⟩;rintro M _ ⟨b,j,B,hk,rfl,I,q,l⟩;exact⟨b,j,B,hk,rfl,I,by rw[qL];exact q,l⟩
def aO(g:VM X (OH X.K E f))(i:QE X E a ta)(j:QE X E b tb)(d:PM b:=by intro _ _;rfl):QE X E (.Subscript a b pos) (UB f ta tb):=
 (cH g i j d).mono λ_ _ _ h=>two h
end
noncomputable instance (i j:Int):Decidable (UT i j):=by unfold UT;infer_instance
noncomputable instance (i j:Int):Decidable (ZW i j):=by unfold ZW;infer_instance
def QR(j:Int):Prop:=0<j/\j.natAbs.log2<9000
noncomputable instance (j:Int):Decidable (QR j):=by unfold QR;infer_instance
noncomputable def Mh:D->D->DH->R D
 |.int i,.int j,G=>.ok (.int (i-j)) G
 |_,_,_=>.bad
noncomputable def Jp:D->D->DH->R D
 |.int i,.int j,G=>if QR j then .ok (.int (i/j)) G else .bad
 |_,_,_=>.bad
noncomputable def Ja:D->D->DH->R D
 |.int i,.int j,G=>if 0<j then .ok (.int (i%j)) G else .bad
 |_,_,_=>.bad
noncomputable def R0:D->D->DH->R D
 |.int i,.int j,G=>if ZW i j then .ok (.int (i^j.toNat)) G else .bad
 |_,_,_=>.bad
noncomputable def K1:D->D->DH->R D
 |.int i,.int j,G=>.ok (.bl (decide (i<j))) G
 |.str i,.str j,G=>.ok (.bl (decide (i.cps.toList<j.cps.toList))) G
 |_,_,_=>.bad
noncomputable def Jf:D->D->DH->R D
 |.int i,.int j,G=>.ok (.bl (decide (i<=j))) G
 |.str i,.str j,G=>.ok (.bl (!decide (j.cps.toList<i.cps.toList))) G
 |_,_,_=>.bad
noncomputable def Nu:D->D->DH->R D
 |.int i,.int j,G=>.ok (.bl (decide (j<i))) G
 |.str i,.str j,G=>.ok (.bl (decide (j.cps.toList<i.cps.toList))) G
 |_,_,_=>.bad
noncomputable def Uh:D->D->DH->R D
 |.int i,.int j,G=>.ok (.bl (decide (j<=i))) G
 |.str i,.str j,G=>.ok (.bl (!decide (i.cps.toList<j.cps.toList))) G
 |_,_,_=>.bad
noncomputable def G7(d:D)(G:DH):Option (List D):=match d with
 |.fl xs=>u4 xs
 |.ref i=>match G[i]? with
  |some (.lst xs)=>u4 xs
  |_=>u5
 |_=>u5
def I8:D->D->DH->R D
 |.int i,.int j,G=>.ok (.int (i+j)) G
 |.str i,.str j,G=>if i.length+j.length<=1000000 then .ok (.str (i++j)) G else .bad
 |.tup xs,.tup ys,G=>if xs≠[]/\xs.length+ys.length<=1000000 then .ok (.tup (xs++ys)) G else .bad
 |d,e,G=>match G7 d G,G7 e G with
  |some xs,u4 ys=>if xs.length+ys.length<=1000000 then .ok (.ref G.length) (G++[.lst (xs++ys)])else .bad
  |_,_=>.bad
section
variable{X:Cx}{E:XK}
def Fg(ho:WC X f r)
  (h:∀(a:Wd)(G:DH)(d e:D)(x y:V)(Q:VK),a.K=X.K->VB a G->XB a d x->XB a e y->out E a (F d e G) Q->r x y a.H Q):WC X f (OH X.K E F):=
 ho.mono λx y H Q zz=>by obtain⟨a,G,d,e,hk,g,s,b,c,q⟩:=zz;subst g;exact h a G d e x y Q hk s b c q
def se:WC X (xT .Sub) (OH X.K E Mh):=Fg nz λa G d e x y Q hk s b c q=>by
 cases d<;>cases e<;>first
  |exact q.elim
  |exact⟨_,_,b,c,q a _ (.refl a) s rfl⟩
def sf:WC X (xT .FloorDiv) (rI (λ_ j=>QR j) λi j=>.int (i/j)):=D? λi j _ _ _ _ _ a q=>by refine floordiv_int (by have:=a.1;lia) (by rw[Int.fdiv_eq_ediv_of_nonneg _ (Int.le_of_lt a.1)];exact q) (.inl (PyProof.noPylong_of_log2 a.2))
def sg:WC X (xT .FloorDiv) (OH X.K E Jp):=Fg sf λa G d e x y Q hk s rd re q=>by
 cases d<;>cases e<;>first
  |exact q.elim
  | (
    rename_i i j;unfold Jp at q;dsimp only at q;split at q
    .exact⟨_,_,rd,re,by assumption,q a _ (.refl a) s rfl⟩
    exact q.elim)
def si:WC X (xT .Mod) (OH X.K E Ja):=Fg oB λa G d e x y Q hk s rd re q=>by
 cases d<;>cases e<;>first
  |exact q.elim
  | (
    rename_i i j;unfold Ja at q;dsimp only at q;split at q
    .exact⟨_,_,rd,re,by assumption,q a _ (.refl a) s rfl⟩
    exact q.elim)
def sj:WC X (xT .Pow) (OH X.K E R0):=Fg oC λa G d e x y Q hk s rd re q=>by
 cases d<;>cases e<;>first
  |exact q.elim
  | (
    rename_i i j;unfold R0 at q;dsimp only at q;split at q
    .exact⟨_,_,rd,re,by assumption,q a _ (.refl a) s rfl⟩
    exact q.elim)
def Pt:WC X (vJ .Lt) (OH X.K E K1):=Fg (oH.or oO) λa G d e x y Q hk s b c q=>by
 cases d<;>cases e<;>first
  |exact q.elim
  |exact .inl ⟨_,_,b,c,q a _ (.refl a) s rfl⟩
  |exact .inr ⟨_,_,b,c,q a _ (.refl a) s rfl⟩
def sk:WC X (vJ .LtE) (λx y H Q=>∃i j,x=.str i/\y=.str j/\Q (.bl (!decide (j.cps.toList<i.cps.toList))) H):=by intro a s d H x y v u Q I b c h;obtain⟨i,j,rfl,rfl,q⟩:=h;obtain⟨t,rfl⟩:=b;obtain⟨e,rfl⟩:=c;exact PySem.P.le_str ⟨.bl _,H,I,rfl,q⟩
def su:WC X (vJ .Gt) (λx y H Q=>∃i j,x=.str i/\y=.str j/\Q (.bl (decide (j.cps.toList<i.cps.toList))) H):=by intro a s d H x y v u Q I b c h;obtain⟨i,j,rfl,rfl,q⟩:=h;obtain⟨t,rfl⟩:=b;obtain⟨e,rfl⟩:=c;exact PySem.P.gt_str ⟨.bl _,H,I,rfl,q⟩
def sv:WC X (vJ .GtE) (λx y H Q=>∃i j,x=.str i/\y=.str j/\Q (.bl (!decide (i.cps.toList<j.cps.toList))) H):=by intro a s d H x y v u Q I b c h;obtain⟨i,j,rfl,rfl,q⟩:=h;obtain⟨t,rfl⟩:=b;obtain⟨e,rfl⟩:=c;exact PySem.P.ge_str ⟨.bl _,H,I,rfl,q⟩
def Nw:WC X (vJ .LtE) (OH X.K E Jf):=Fg (oJ.or sk) λa G d e x y Q hk s b c q=>by
 cases d<;>cases e<;>first
  |exact q.elim
  |exact .inl ⟨_,_,b,c,q a _ (.refl a) s rfl⟩
  |exact .inr ⟨_,_,b,c,q a _ (.refl a) s rfl⟩
def Pw:WC X (vJ .Gt) (OH X.K E Nu):=Fg (oK.or su) λa G d e x y Q hk s b c q=>by
 cases d<;>cases e<;>first
  |exact q.elim
  |exact .inl ⟨_,_,b,c,q a _ (.refl a) s rfl⟩
  |exact .inr ⟨_,_,b,c,q a _ (.refl a) s rfl⟩
def Tx:WC X (vJ .GtE) (OH X.K E Uh):=Fg (oN.or sv) λa G d e x y Q hk s b c q=>by
 cases d<;>cases e<;>first
  |exact q.elim
  |exact .inl ⟨_,_,b,c,q a _ (.refl a) s rfl⟩
  |exact .inr ⟨_,_,b,c,q a _ (.refl a) s rfl⟩
def VB.lst(s:VB a G)(h:G[i]?=u4 (.lst xs)):∃vs,a.H (a.m i)=u4 (.lst vs)/\OA a xs vs:=s.obj i _ h
def Io{E:XK}(s:VB a G)(r:OA a ds vs)(h:out E a (.ok (.ref G.length) (G++[.lst ds])) Q)(p:xA)(hp:a.H p=u5):Q (.ref p) (upd a.H p (.lst vs)):=by
 refine h (a.push p (.lst vs)) (.ref p) (.push hp) (s.push hp ⟨vs,rfl,r.mono (.push hp)⟩) ⟨?_,?_⟩
 .rw[s.len];exact qV _
 rw[s.len];show V.ref p=.ref (if a.n=a.n then p else a.m a.n);rw[if_pos rfl]
def Yw{E:XK}(s:VB a G)(r:OA a ds vs)(h:out E a (.ok (.tup ds) G) Q)(p:xA)(hp:a.H p=u5):Q (.ref p) (upd a.H p (.tup vs)):=
 h (a.put p (.tup vs)) (.ref p) (.put hp) (s.put hp) ⟨p,vs,rfl,.of Ek,r.mono (.put hp)⟩
theorem Pr(s:VB a G)(r:XB a d x)(h:G7 d G=u4 xs):∃p vs,x=.ref p/\NH a.K a.H p vs/\OA a xs vs:=by
 cases d with
 |fl j=>
  have e:=Option.some.inj h;subst e;obtain⟨p,vs,e,q,c⟩:=r;exact⟨p,vs,e,q.sq,c⟩
 |ref i=>
  unfold G7 at h;dsimp only at h;split at h
  .rename_i j f;have e:=Option.some.inj h;subst e;obtain⟨vs,b,g⟩:=s.lst f;exact⟨a.m i,vs,r.2,.of b,g⟩
  cases h
 |_=>cases h
def cZ(K:za):R2:=λx y H Q=>∃l b xs zs,x=.ref l/\y=.ref b/\NH K H l xs/\NH K H b zs/\xs.length+zs.length<=sizeLine/\∀p,H p=u5->Q (.ref p) (upd H p (.lst (xs++zs)))
def sx:WC X (xT .Add) (cZ X.K):=by
 intro t s σ H x y v u Q I B U h;obtain⟨l,b,Z,W,rfl,rfl,J,A,Y,q⟩:=h;cases B;cases U;obtain⟨c,r,P,_⟩:=I.list J;obtain⟨a,m,C,_⟩:=I.list A;obtain⟨⟨N,M,k,w⟩,n,p,L,_,O⟩:=P;obtain⟨⟨o,j,e,f⟩,z,d,g,_,i⟩:=C;cases L;cases O;cases g;cases i;have hl:=r.length;have S:=m.length;refine concat_meets ⟨_,p,rfl⟩ ⟨_,d,rfl⟩ noFill_list_add seq_list_add PySem.F.slot_list_add PySem.F.entry_list_add (PySem.F.args_list_add_2 _ _) (list_addW l b c.toArray a.toArray n z M j w f (by rw[zq,zq];lia)) ⟨p,d,?_⟩
 have T:c.toArray++a.toArray=(c++a).toArray:=by simp
 rw[T];exact⟨.ref _,_,I.So (r.append m) (by rw[qQ];lia),rfl,q _ I.fresh⟩
def sy:WC X (xT .Add) (OH X.K E I8):=Fg (ny.or (oY.or (sx.or pd))) λa G d e x y Q hk s rd re q=>by
 have lst:out E a (match G7 d G,G7 e G with
  |some xs,u4 ys=>if xs.length+ys.length<=1000000 then .ok (.ref G.length) (G++[.lst (xs++ys)])else .bad
  |_,_=>.bad) Q->cZ X.K x y a.H Q:=λq=>by
  split at q
  .rename_i xs ys h1 h2;split at q
   .rename_i hl;obtain⟨p,vs,e1,q1,r1⟩:=Pr s rd h1;obtain⟨p',MS,e2,q2,r2⟩:=Pr s re h2;rw[hk]at q1 q2;exact⟨p,p',vs,MS,e1,e2,q1,q2,by rw[<-r1.length,<-r2.length];exact z8 hl ZC,λp hp=>Io s (r1.append r2) q p hp⟩
   exact q.elim
  exact q.elim
 cases d<;>cases e<;>first
  |exact .inl ⟨_,_,rd,re,q a _ (.refl a) s rfl⟩
  |exact(λq=>Or.inr (Or.inr (Or.inl (lst q)))) q
  |skip
 .rename_i i j;unfold I8 at q;dsimp only at q;split at q
  .rename_i hl;exact .inr (.inl ⟨_,_,rd,re,z8 hl ZC,q a _ (.refl a) s rfl⟩)
  exact q.elim
 .rename_i xs ys;unfold I8 at q;dsimp only at q;split at q
  .rename_i hl;obtain⟨p,vs,e1,h1,r1⟩:=rd;obtain⟨p',MS,e2,h2,r2⟩:=re;rw[hk]at h1 h2;refine .inr (.inr (.inr ⟨p,p',vs,MS,e1,e2,h1,h2,λz=>hl.1 (jq (by rw[r1.length,z];rfl)),by rw[<-r1.length,<-r2.length];exact z8 hl.2 ZC,λz=>?_,λ_ p0 hp=>(Yw s (r1.append r2) q p0 hp)⟩))
   .refine q a (.ref p) (.refl a) s ⟨p,vs,rfl,hk▸h1,?_⟩;have e3:=jq (by rw[r2.length,z];rfl);rw[e3,qL];exact r1
  exact q.elim
inductive VD where
 |flat (v:V)
 |lst (xs:List D)
 |tup (xs:List D)
 |bad
noncomputable def view(G:DH):D->VD
 |.WA=>.flat .WA
 |.bl b=>.flat (.bl b)
 |.int i=>.flat (.int i)
 |.str x=>.flat (.str x)
 |.ty _=>.bad
 |.tup xs=>.tup xs
 |.fl xs=>.lst xs
 |.ref i=>match G[i]? with
  |some (.lst xs)=>.lst xs
  |_=>.bad
noncomputable def UY(f:D->D->Option Bool):List D->List D->Option Bool
 |x::xs,y::ys=>match f x y,UY f xs ys with
  |some a,u4 b=>u4 (a&&b)
  |_,_=>u5
 |_,_=>u4 u6
def VN:Nat->DH->D->D->Option Bool
 |0=>λ_ _ _=>u5
 | n+1=>λG d e=>match view G d,view G e with
  |.flat a,.flat b=>u4 (NR a b)
  |.lst xs,.lst ys=>if xs.length=ys.length then UY (VN n G) xs ys else u4 u7
  |.tup xs,.tup ys=>match UY (VN n G) xs ys with
   |some b=>u4 (b&&xs.length==ys.length)
   |none=>u5
  |.bad,_=>u5
  |_,.bad=>u5
  |_,_=>u4 u7
theorem Wg:∀{xs ys:List D}{k:Bool},UY f xs ys=u4 k->∃e:Nat->Bool,(∀(j:Nat)(x y:D),xs[j]?=u4 x->ys[j]?=u4 y->f x y=u4 (e j))/\k=(zQ (min xs.length ys.length)).all e
 | [],ys,k,h=>⟨λ_=>u6,λj x y c _=>by simp at c,by
   have d:u4 u6=u4 k:=by cases ys<;>exact h
   cases d;simp⟩
 |x::xs,[],k,h=>⟨λ_=>u6,λj x y _ c=>by simp at c,by have d:=h;cases d;simp⟩
 | x::xs,y::ys,k,h=>by
  unfold UY at h;split at h
  .rename_i a b i l;obtain⟨e,n,hk⟩:=Wg l
   refine⟨λj=>match j with |0=>a|j+1=>e j,λj o m c g=>?_,?_⟩
   .cases j with
    |zero=>simp at c g;subst c;subst g;exact i
    |succ j=>exact n j o m (by simpa using c) (by simpa using g)
   rw[<-(Option.some.inj h),hk];have:min (x::xs).length (y::ys).length=min xs.length ys.length+1:=by simp only[zH];lia
   rw[this,qH,qO,List.all_map]
   rfl
  cases h
theorem Wl(s:VB a G)(r:XB a d x):match view G d with
  |.flat v=>x=v/\Dc v=u6
  |.lst g=>∃p c,x=.ref p/\NH a.K a.H p c/\OA a g c
  |.tup g=>∃p c,x=.ref p/\RH a.K a.H p c/\OA a g c
  |.bad=>True:=by
 cases d with
 |ty n=>trivial
 |tup g=>
  obtain⟨p,c,e,h,q⟩:=r;exact⟨p,c,e,h,q⟩
 |fl g=>
  obtain⟨p,c,e,h,q⟩:=r;exact⟨p,c,e,h.sq,q⟩
 | ref i=>
  unfold view;dsimp only;split
  .rename_i v f
   split at f<;>cases f
  .rename_i g f;split at f
   .rename_i o k;cases f;obtain⟨c,j,l⟩:=s.lst k;exact⟨a.m i,c,r.2,.of j,l⟩
   cases f
  .rename_i g f
   split at f<;>cases f
  trivial
 |_=>exact⟨r,rfl⟩
theorem tD(f:RelV y u)(c:RelV x v)(g:Dc y=u6)(e:Dc x=u6):SeqAt.RcAt A s u v (NR y x):=by
 cases y with
 |WA=>
  cases f;cases x with
  |WA=>cases c;exact .none_none
  |bl b=>cases c;exact .none_bool b
  |int b=>obtain⟨t,rfl⟩:=c;exact .none_int b t
  |str b=>obtain⟨t,rfl⟩:=c;exact .none_str b t
  |_=>exact absurd (e) z5
 |bl a=>
  cases f;cases x with
  |WA=>cases c;exact .bool_none a
  |bl b=>cases c;exact .bool_bool a b
  |int b=>obtain⟨t,rfl⟩:=c;exact .bool_int a b t
  |str b=>obtain⟨t,rfl⟩:=c;exact .bool_str a b t
  |_=>exact absurd (e) z5
 |int a=>
  obtain⟨d,rfl⟩:=f;cases x with
  |WA=>cases c;exact .int_none a d
  |bl b=>cases c;exact .int_bool a d b
  |int b=>obtain⟨t,rfl⟩:=c;exact .int_int a d b t
  |str b=>obtain⟨t,rfl⟩:=c;exact .int_str a d b t
  |_=>exact absurd (e) z5
 |str a=>
  obtain⟨d,rfl⟩:=f;cases x with
  |WA=>cases c;exact .str_none a d
  |bl b=>cases c;exact .str_bool a d b
  |int b=>obtain⟨t,rfl⟩:=c;exact .str_int a d b t
  |str b=>obtain⟨t,rfl⟩:=c;exact .str_str a d b t
  |_=>exact absurd (e) z5
 |_=>exact absurd (g) z5
theorem tE(f:RelV y u)(c:RelV x v)(g:Dc y=u6)(e:Dc x=u6):SeqAt.RcNeAt A s u v (!NR y x):=by
 cases y with
 |WA=>
  cases f;cases x with
  |WA=>cases c;exact .none_none
  |bl b=>cases c;exact .none_bool b
  |int b=>obtain⟨t,rfl⟩:=c;exact .none_int b t
  |str b=>obtain⟨t,rfl⟩:=c;exact .none_str b t
  |_=>exact absurd (e) z5
 |bl a=>
  cases f;cases x with
  |WA=>cases c;exact .bool_none a
  |bl b=>cases c;exact .bool_bool a b
  |int b=>obtain⟨t,rfl⟩:=c;exact .bool_int a b t
  |str b=>obtain⟨t,rfl⟩:=c;exact .bool_str a b t
  |_=>exact absurd (e) z5
 |int a=>
  obtain⟨d,rfl⟩:=f;cases x with
  |WA=>cases c;exact .int_none a d
  |bl b=>cases c;exact .int_bool a d b
  |int b=>obtain⟨t,rfl⟩:=c;exact .int_int a d b t
  |str b=>obtain⟨t,rfl⟩:=c;exact .int_str a d b t
  |_=>exact absurd (e) z5
 |str a=>
  obtain⟨d,rfl⟩:=f;cases x with
  |WA=>cases c;exact .str_none a d
  |bl b=>cases c;exact .str_bool a d b
  |int b=>obtain⟨t,rfl⟩:=c;exact .str_int a d b t
  |str b=>obtain⟨t,rfl⟩:=c;exact .str_str a d b t
  |_=>exact absurd (e) z5
 |_=>exact absurd (g) z5
end
section
variable{X:Cx}{E:XK}{vS:List (xA×Obj)}{σ:St}{s:xH}
def tF(v:V)(h:Dc v=u6):NR v v=u6:=by cases v<;>first|rfl|exact absurd (h) z5|(simp[NR])
theorem c7(I:Inv X vS σ a.H s)(hk:a.K=X.K)(L:VB a G):∀(n:Nat){d e:D}{x:V}{k:Bool},XB a d x->XB a e x->VN n G d e=u4 k->k=u6
 |0,_,_,_,_,_,_,h=>by cases h
 | n+1,d,e,x,k,T,P,h=>by
  have m:=Wl L T;have o:=Wl L P;have r:∀{B A:List D}{q:List V}{b:Bool},OA a B q->OA a A q->UY (VN n G) B A=u4 b->b=u6:=λ{B A q b}y t F=>by obtain⟨f,Q,S⟩:=Wg F;rw[S,qw];intro j W;have N:=qK.mp W;have l:B[j]?=u4 (B[j]'(by lia)):=zX (by lia);have g:A[j]?=u4 (A[j]'(by lia)):=zX (by lia);obtain⟨Z,c,M⟩:=y.get l;obtain⟨v2,i,O⟩:=t.get g;rw[c]at i;cases i;exact c7 I hk L n M O (Q j _ _ l g)
  unfold VN at h
  try dsimp only at h
  revert h m o
  cases view G d<;>cases view G e<;>intro m o h<;>dsimp only at h m o<;>first
   |cases h
   |skip
  .
   rename_i v w;obtain⟨rfl,u⟩:=m;obtain⟨rfl,Y⟩:=o;exact tF _ u
  .obtain⟨rfl,u⟩:=m;obtain⟨p,q,c,_⟩:=o;subst c;cases u
  .obtain⟨rfl,u⟩:=m;obtain⟨p,q,c,_⟩:=o;subst c;cases u
  .obtain⟨rfl,u⟩:=o;obtain⟨p,q,c,_⟩:=m;subst c;cases u
  .obtain⟨p,q,c,l,y⟩:=m;obtain⟨J,z,i,g,t⟩:=o;rw[c]at i;cases i;rw[hk]at l g;cases I.X4 l g;split at h
   .exact r y t h
   rename_i U;exact absurd (y.length.trans t.length.symm) U
  .obtain⟨p,q,c,l,y⟩:=m;obtain⟨J,z,i,g,t⟩:=o;rw[c]at i;cases i;rw[hk]at l g;obtain⟨_,_,C,_⟩:=I.list l;obtain⟨_,_,pt,_⟩:=I.tuple g;exact absurd rfl (wD C.isList pt)
  .obtain⟨rfl,u⟩:=o;obtain⟨p,q,c,_⟩:=m;subst c;cases u
  .obtain⟨p,q,c,l,y⟩:=m;obtain⟨J,z,i,g,t⟩:=o;rw[c]at i;cases i;rw[hk]at l g;obtain⟨_,_,C,_⟩:=I.list g;obtain⟨_,_,pt,_⟩:=I.tuple l;exact absurd rfl (wD C.isList pt)
  obtain⟨p,q,c,l,y⟩:=m;obtain⟨J,z,i,g,t⟩:=o;rw[c]at i;cases i;rw[hk]at l g;cases I.Xe l g;split at h
  .rename_i b F;rw[<-(Option.some.inj h),r y t F,y.length,t.length];simp
  cases h
def Sx(r:OA a xs vs)(q:Vals vs VA)(h:j<VA.toArray.size):∃d v,xs[j]?=u4 d/\XB a d v/\RelV v VA.toArray[j]:=by
 have b:j<VA.length:=by simpa using h
 have i:=q.length▸b;obtain⟨v,c⟩:∃v,vs[j]?=u4 v:=⟨vs[j],zX i⟩;obtain⟨d,l,f⟩:=r.get' c;obtain⟨u,e,g⟩:=q.get c;have k:u=VA.toArray[j]:=by have:=zX b;rw[this]at e;simpa using(Option.some.inj e).symm
 exact⟨d,v,l,f,by rw[<-k];exact g⟩
theorem Qs(I:Inv X vS σ a.H s)(hk:a.K=X.K)(sm:VB a G):∀(n:Nat){A:xB}{d e:D}{x y:V}{u w:xL}{k:Bool},A.units+n<cLine->XB a d x->XB a e y->RelV x u->RelV y w->VN n G d e=u4 k->
  SeqAt.EqAt A s u w k/\SeqAt.RcAt A s u w k/\SeqAt.RcNeAt A s u w (!k)
 |0,_,_,_,_,_,_,_,_,_,_,_,_,_,h=>by cases h
 | n + 1,A,d,e,x,y,u,w,k,hu,rd,re,r,m,h=>by
  have L:=Wl sm rd;have M:=Wl sm re;have c:A.units<cLine:=by lia
  have hu2:A.in1.units+n<cLine:=by show A.units+1+n<cLine;lia
  have F:∀{z:V},XB a d z->XB a e z->VN (n+1) G d e=u4 k->k=u6:=λS C r3=>c7 I hk sm (n+1) S C r3
  have h0:=h;unfold VN at h
  try dsimp only at h
  have O:∀{p q:xA}{k:Bool},(p=q->k=u6)->SeqAt.RcAt A s (.ref p) (.ref q) k->SeqAt.EqAt A s (.ref p) (.ref q) k:=λ{p q k}hs hr=>by
   by_cases e:p=q
   .rw[hs e,e];exact .same _
   exact .of_refs e hr
  revert h L M
  cases hvd:view G d<;>cases hve:view G e<;>intro L M h<;>dsimp only at h L M<;>first
   |cases h
   |skip
  .
   obtain⟨rfl,N⟩:=L;obtain⟨rfl,f2⟩:=M;exact⟨cJ r m N f2,tD r m N f2,tE r m N f2⟩
  .
   obtain⟨rfl,N⟩:=L;obtain⟨q,Y,rfl,o,C⟩:=M;cases m;rw[hk]at o;obtain⟨l,qv,g,_⟩:=I.list o;cases x with
   |WA=>cases r;exact⟨.none_list g.isList c,.none_list g.isList c,.none_list g.isList c⟩
   |bl b=>cases r;exact⟨.bool_list b g.isList c,.bool_list b g.isList c,.bool_list b g.isList c⟩
   |int b=>obtain⟨t,rfl⟩:=r;exact⟨.int_list b t g.isList c,.int_list b t g.isList c,.int_list b t g.isList c⟩
   |str b=>obtain⟨t,rfl⟩:=r;exact⟨.str_list b t g.isList c,.str_list b t g.isList c,.str_list b t g.isList c⟩
   |_=>exact absurd (N) z5
  .
   obtain⟨rfl,N⟩:=L;obtain⟨q,Y,rfl,o,C⟩:=M;cases m;rw[hk]at o;obtain⟨l,qv,g,_⟩:=I.tuple o;cases x with
   |WA=>cases r;exact⟨.none_tuple g c,.none_tuple g c,.none_tuple g c⟩
   |bl b=>cases r;exact⟨.bool_tuple b g c,.bool_tuple b g c,.bool_tuple b g c⟩
   |int b=>obtain⟨t,rfl⟩:=r;exact⟨.int_tuple b t g c,.int_tuple b t g c,.int_tuple b t g c⟩
   |str b=>obtain⟨t,rfl⟩:=r;exact⟨.str_tuple b t g c,.str_tuple b t g c,.str_tuple b t g c⟩
   |_=>exact absurd (N) z5
  .
   obtain⟨rfl,N⟩:=M;obtain⟨q,Y,rfl,o,C⟩:=L;cases r;rw[hk]at o;obtain⟨l,qv,g,_⟩:=I.list o;cases y with
   |WA=>cases m;exact⟨.list_none g.isList c,.list_none g.isList c,.list_none g.isList c⟩
   |bl b=>cases m;exact⟨.list_bool b g.isList c,.list_bool b g.isList c,.list_bool b g.isList c⟩
   |int b=>obtain⟨t,rfl⟩:=m;exact⟨.list_int b t g.isList c,.list_int b t g.isList c,.list_int b t g.isList c⟩
   |str b=>obtain⟨t,rfl⟩:=m;exact⟨.list_str b t g.isList c,.list_str b t g.isList c,.list_str b t g.isList c⟩
   |_=>exact absurd (N) z5
  .
   obtain⟨p,Y,rfl,Q,S⟩:=L;obtain⟨q,W,rfl,o,C⟩:=M;cases r;cases m;rw[hk]at Q o;obtain⟨l,Z,B,_⟩:=I.list Q;obtain⟨i,q2,v,_⟩:=I.list o;have P:=zq▸Z.length.symm;have U:=zq▸q2.length.symm;split at h
   .rename_i hl;obtain⟨f,hf,hb⟩:=Wg h;have J:l.toArray.size=i.toArray.size:=by rw[P,U,<-S.length,<-C.length];exact hl
    have he:∀j(g1:j<l.toArray.size)(g2:j<i.toArray.size),SeqAt.EqAt A.in1 s l.toArray[j] i.toArray[j] (f j):=λj g1 g2=>by obtain⟨d1,v1,e1,rd1,P2⟩:=Sx S Z g1;obtain⟨d2,v2,e2,rd2,Zp⟩:=Sx C q2 g2;exact(Qs I hk sm n hu2 rd1 rd2 P2 Zp (hf j d1 d2 e1 e2)).1
    have T:k=(zQ l.toArray.size).all f:=by
     rw[hb]
     congr 2
     rw[P,<-S.length,hl];lia
    have rc:SeqAt.RcAt A s (.ref p) (.ref q) k:=T ▸ .lists B.isList v.isList J c he;refine⟨O (λe=>?_) rc,rc,T ▸ .lists B.isList v.isList J c he⟩;subst e;exact F rd re h0
   rename_i hl;have h':=Option.some.inj h;subst h';have J:(l.toArray.size != i.toArray.size)=u6:=by rw[bne_iff_ne,P,U,<-S.length,<-C.length];exact hl
   refine⟨O (λe=>?_) (.lists_lengths B.isList v.isList J c),.lists_lengths B.isList v.isList J c,.lists_lengths B.isList v.isList J c⟩;subst e;exact F rd re h0
  .
   obtain⟨p,Y,rfl,Q,S⟩:=L;obtain⟨q,W,rfl,o,C⟩:=M;cases r;cases m;rw[hk]at Q o;obtain⟨l,Z,B,_⟩:=I.list Q;obtain⟨i,q2,v,_⟩:=I.tuple o;exact⟨.list_tuple B.isList v c,.list_tuple B.isList v c,.list_tuple B.isList v c⟩
  .
   obtain⟨rfl,N⟩:=M;obtain⟨q,Y,rfl,o,C⟩:=L;cases r;rw[hk]at o;obtain⟨l,qv,g,_⟩:=I.tuple o;cases y with
   |WA=>cases m;exact⟨.tuple_none g c,.tuple_none g c,.tuple_none g c⟩
   |bl b=>cases m;exact⟨.tuple_bool b g c,.tuple_bool b g c,.tuple_bool b g c⟩
   |int b=>obtain⟨t,rfl⟩:=m;exact⟨.tuple_int b t g c,.tuple_int b t g c,.tuple_int b t g c⟩
   |str b=>obtain⟨t,rfl⟩:=m;exact⟨.tuple_str b t g c,.tuple_str b t g c,.tuple_str b t g c⟩
   |_=>exact absurd (N) z5
  .
   obtain⟨p,Y,rfl,Q,S⟩:=L;obtain⟨q,W,rfl,o,C⟩:=M;cases r;cases m;rw[hk]at Q o;obtain⟨l,Z,B,_⟩:=I.tuple Q;obtain⟨i,q2,v,_⟩:=I.list o;exact⟨.tuple_list B v.isList c,.tuple_list B v.isList c,.tuple_list B v.isList c⟩
  rename_i xs ys;obtain⟨p,Y,rfl,Q,S⟩:=L;obtain⟨q,W,rfl,o,C⟩:=M;cases r;cases m;rw[hk]at Q o;obtain⟨l,Z,B,_⟩:=I.tuple Q;obtain⟨i,q2,v,_⟩:=I.tuple o;have P:l.toArray.size=xs.length:=by rw[zq,S.length];exact Z.length.symm
  have U:i.toArray.size=ys.length:=by rw[zq,C.length];exact q2.length.symm
  split at h
  .rename_i b hz;obtain⟨f,hf,hb⟩:=Wg hz;have he:∀j(g1:j<l.toArray.size)(g2:j<i.toArray.size),SeqAt.EqAt A.in1 s l.toArray[j] i.toArray[j] (f j):=λj g1 g2=>by obtain⟨d1,v1,e1,rd1,P2⟩:=Sx S Z g1;obtain⟨d2,v2,e2,rd2,Zp⟩:=Sx C q2 g2;exact(Qs I hk sm n hu2 rd1 rd2 P2 Zp (hf j d1 d2 e1 e2)).1
   have T:k=((zQ (min l.toArray.size i.toArray.size)).all f&&l.toArray.size==i.toArray.size):=by rw[<-(Option.some.inj h),hb,P,U]
   have rc:SeqAt.RcAt A s (.ref p) (.ref q) k:=T ▸ .tuples B v c he;refine⟨O (λe=>?_) rc,rc,T ▸ .tuples B v c he⟩;subst e;exact F rd re h0
  cases h
def Hb(d e:D)(G:DH):R D:=match VN 30 G d e with
 |some k=>.ok (.bl k) G
 |none=>.bad
def Gm(d e:D)(G:DH):R D:=match VN 30 G d e with
 |some k=>.ok (.bl (!k)) G
 |none=>.bad
def Oy(n:X.A.units+64<cLine):WC X (vJ .Eq) (OH X.K E Hb):=by
 intro b s m H x y v u Q I g l ⟨a,G,d,e,hk,j,c,f,i,q⟩;subst j;unfold Hb at q;split at q
 .rename_i k h;exact(Qs I hk c 30 (by lia) f i g l h).2.1 _ _ _ _ ⟨.bl k,a.H,I,rfl,q a _ (.refl a) c rfl⟩
 exact q.elim
def Qr(n:X.A.units+64<cLine):WC X (vJ .NotEq) (OH X.K E Gm):=by
 intro b s m H x y v u Q I g l ⟨a,G,d,e,hk,j,c,f,i,q⟩;subst j;unfold Gm at q;split at q
 .rename_i k h;exact(Qs I hk c 30 (by lia) f i g l h).2.2 _ _ _ _ ⟨.bl (!k),a.H,I,rfl,q a _ (.refl a) c rfl⟩
 exact q.elim
end
abbrev DG:=D->RD->DH->R RD
def Ex(E:XK)(a:Wd)(r:R RD)(Q:St->Hp->Prop):Prop:=match r with
 |.ok S G=>∀(b:Wd)(σ:St),Ext a b->VB b G->XC b S σ->Q σ b.H
 |.err x G=>SO E a x G
 |.bad=>False
noncomputable def lG(K:za)(E:XK)(t:DG):TG:=λv σ H Q=>PG3 K σ H v XB λa S G d=>Ex E a (t d S G) Q
def QG(X:Cx)(E:XK)(tg:xC)(t:DG):Prop:=PG X tg (lG X.K E t)
abbrev VY:=List D->RD->DH->R RD
noncomputable def lGs(K:za)(E:XK)(t:VY):PY:=λvs σ H Q=>PG3 K σ H vs OA λa S G ds=>Ex E a (t ds S G) Q
def Qb(X:Cx)(E:XK)(tg:List xC)(t:VY):Prop:=QY X tg (lGs X.K E t)
noncomputable def gV(i:Nat):DG:=λd S G=>.ok (S.set i (u4 d)) G
noncomputable def Ao:VY:=λds S G=>match ds with
 |[]=>.ok S G
 |_=>.bad
def Ab(t:DG)(u:VY):VY:=λds S G=>match ds with
 |d::r=>(t d S G).bind λS1 G1=>u r S1 G1
 |[]=>.bad
noncomputable def Ai(n:Nat)(t:VY):DG:=λd S G=>match d with
 |.tup ds=>if ds.length=n then t ds S G else .bad
 |_=>.bad
theorem Ex.imp(h:Ex E a r Q)(w:∀v H,Q v H->Q' v H):Ex E a r Q':=by
 cases r with
 |ok d G=>exact λb v x s q=>w _ _ (h b v x s q)
 |_=>exact h
theorem Ex.mono(x:Ext a b)(h:Ex E a r Q):Ex E b r Q:=by
 cases r with
 |ok d G=>exact λc v y s q=>h c v (x.trans y) s q
 |err e G=>exact SO.mono x h
 |bad=>exact h
theorem tG(h:Ex E a (r.bind f) Q):
  Ex E a r (λc H=>PR3 a H r c XC λb S G=>Ex E b (f S G) Q):=by
 cases r with
 |ok d G=>exact λb v x s q=>⟨b,d,G,rfl,x,s,q,rfl,Ex.mono x h⟩
 |_=>exact h
theorem c8(h:Ex E a (r.bind f) Q):
  out E a r (λv H=>PR3 a H r v XB λb d G=>Ex E b (f d G) Q):=by
 cases r with
 |ok d G=>exact λb v x s q=>⟨b,d,G,rfl,x,s,q,rfl,Ex.mono x h⟩
 |_=>exact h
theorem c9(h:Br E a (r.toS f) W):
  Ex E a r (λc H=>PR3 a H r c XC λb S G=>Br E b (f S G) W):=by
 cases r with
 |ok d G=>exact λb v x s q=>⟨b,d,G,rfl,x,s,q,rfl,Br.mono x h⟩
 |_=>exact h
section
variable{X:Cx}{E:XK}
def _root_._L.PG.mono(h:PG X e t)(w:∀v a H Q,t' v a H Q->t v a H Q):PG X e t':=λb s a H v u Q I r q=>h b s a H v u Q I r (w v a H Q q)
def _root_._L.QY.mono(h:QY X e t)(w:∀v a H Q,t' v a H Q->t v a H Q):QY X e t':=λb s a H v u Q I r q=>h b s a H v u Q I r (w v a H Q q)
def tH(i:Nat){x:Str}{pos:Pos}(b:X.N.Nodup)(c:X.N[i]?=u4 x:=by rfl)(g:Loc X.env.scope x:=by first|exact Or.inl rfl|exact Or.inr rfl)
  (f:X.fn x=u6\/X.env.scope.names.lookup x=u4 .local:=by first|exact .inl rfl|exact .inr rfl|assumption):QG X E (.Name x pos) (gV i):=
 (nO b c g f).mono λv j H Q h=>by obtain⟨a,S,G,d,hk,rfl,s,r,q,h⟩:=h;exact h a _ (.refl a) s (r.set i q)
theorem tI:Qb X E [] Ao:=nQ.mono λf c H Q h=>by
 obtain⟨a,S,G,b,hk,rfl,s,r,q,h⟩:=h;cases b with
 |nil=>exact⟨q,h a c (.refl a) s r⟩
 |cons d b=>exact h.elim
theorem tJ(c:QG X E e t)(n:Qb X E es u)
  (l:(xN (e::es) X.env).map (·.2)=assign e X.env::(xN es X.env).map (·.2):=by rfl):Qb X E (e::es) (Ab t u):=(nR c n l).mono λA z H Q h=>by
 obtain⟨a,S,G,f,hk,rfl,s,r,q,h⟩:=h;cases f with
 |nil=>exact h.elim
 |cons d f=>
  obtain⟨v,rest,j,i,p⟩:=q;refine⟨v,rest,j,a,S,G,d,hk,rfl,s,r,i,(tG h).imp ?_⟩;rintro m _ ⟨b,w,g,rfl,x,y,o,_,c⟩;exact⟨b,w,g,f,x.k.trans hk,rfl,y,o,p.mono x,c⟩
theorem tK{es:List xC}{k:Nat}{t:VY}{n:Nat}{pos:Pos}(m:X.calm=u6)(h:Qb X E es t)
  (g:(xN es X.env).length=n:=by rfl) (b:(xN es X.env).findIdx? (·.1)=u5:=by rfl):QG X E (.Tuple es k pos) (Ai n t):=(nS m h g b).mono λv o H Q h=>by
 obtain⟨a,S,G,d,hk,rfl,s,r,q,h⟩:=h;cases d with
 |tup l=>
  obtain⟨p,j,e,i,c⟩:=q;unfold Ai at h;dsimp only at h;split at h
  .rename_i f;exact⟨p,j,e,by rw[<-hk];exact i,by rw[<-c.length];exact f,a,S,G,l,hk,rfl,s,r,c,h⟩
  exact h.elim
 |_=>exact h.elim
def Lj(o i v:D)(G:DH):R D:=match o,i with
 | .ref p,.int k=>match G[p]? with
  |some (.lst xs)=>match VT xs.length k with
   |some j=>.ok .WA (G.set p (.lst (xs.set j v)))
   |none=>.bad
  |_=>.bad
 |_,_=>.bad
def WY(to ti:DE):DG:=λv S G=>(to S G).bind λo G1=>(ti S G1).bind λi G2=>(Lj o i v G2).bind λ_ G3=>.ok S G3
def U9(s:VB a G)(b:i<a.n)(h:a.H (a.m i)=u4 (.lst vs))(r:OA a ds' MS):
  Ext a (a.put (a.m i) (.lst MS))/\VB (a.put (a.m i) (.lst MS)) (G.set i (.lst ds')):=⟨.wr h,s.wr b h (r.mono (.wr h))⟩
theorem tL(ho:QE X E o to)(N:QE X E i ti)
  (O:∀v,assign (.Subscript o i pos) X.env v=(do
   let ov<-holding [v] (eval o X.env);let iv<-holding [v,ov] (eval i X.env)
   standAt pos
   holding [v,ov,iv] (setItem ov iv v)
   release [v,ov,iv] []):=by intro _;rfl):QG X E (.Subscript o i pos) (WY to ti):=(nT ho N set_list O).mono λv L H Q h=>by
 obtain⟨a,S,G,d,hk,rfl,s,r,q,h⟩:=h;refine⟨a,S,G,hk,rfl,s,r,(c8 h).imp ?_⟩;rintro ov _ ⟨b,e,B,rfl,x,J,C,_,I⟩;refine⟨b,S,B,x.k.trans hk,rfl,J,r.mono x,(c8 I).imp ?_⟩;rintro iv _ ⟨c,f,U,rfl,y,w,F,_,g⟩;cases e with
 | ref p=>
  cases f with
  | int k=>
   unfold Lj at g;dsimp only at g;split at g
   .rename_i W T;split at g
    .rename_i j M;obtain⟨K,n,A⟩:=w.lst T;have l:=C.mono y;obtain⟨z,P⟩:=U9 w l.1 n (A.set ((q.mono x).mono y) j);exact⟨c.m p,K,k,j,l.2,F,n,by rw[<-A.length];exact M,g _ L z P (((r.mono x).mono y).mono z)⟩
    exact g.elim
   exact g.elim
  |_=>exact g.elim
 |_=>exact g.elim
variable{st:xI}{rest:List xI}{t u:DS}{e:xC}{te:DE}{pos:Pos}
def RL:DS:=λS G=>.nx S G
noncomputable def Ad(t u:DS):DS:=λS G=>match t S G with
 |.nx S1 G1=>u S1 G1
 |r=>r
def ZF(te:DE):DS:=λS G=>(te S G).toS λ_ G1=>.nx S G1
def QC(te:DE):DS:=λS G=>(te S G).toS λd G1=>.rt d G1
def WI(c:DB)(t u:DS):DS:=λS G=>(c S G).toS λk G1=>if k=u6 then t S G1 else u S G1
def PD(te:DE)(g:DG):DS:=λS G=>(te S G).toS λd G1=>(g d S G1).toS λS2 G2=>.nx S2 G2
def Q2(i:Nat)(te:DE)(f:D->D->DH->R D):DS:=λS G=>match S[i]? with
 |some (u4 x)=>(te S G).toS λy G1=>(f x y G1).toS λz G2=>.nx (S.set i (u4 z)) G2
 |_=>.bad
def Ld:OP X E [] RL:=nK.mono λW b H h=>by obtain⟨a,S,G,hk,rfl,s,r,h⟩:=h;exact h a b (.refl a) s r
def Br.nxOf{E:XK}{a:Wd}{t u:DS}{S:RD}{G:DH}{K:za}(hk:a.K=K){W:Ends}(h:Br E a (Ad t u S G) W):Br E a (t S G) {W with nx:=lS K E u W}:=by
 unfold Ad at h
 revert h
 cases t S G<;>intro h
 .exact λb c x s r=>⟨b,_,_,x.k.trans hk,rfl,s,r,Br.mono x h⟩
 all_goals exact h
def Eh(c:QS X E st t)(b:OP X E rest u):OP X E (st::rest) (Ad t u):=(bc c b).mono λW d H h=>by obtain⟨a,S,G,hk,rfl,s,r,h⟩:=h;exact⟨a,S,G,hk,rfl,s,r,h.nxOf hk⟩
def Gr(a:QS X E st t):OP X E [st] t:=be a
def tM(j:QE X E e te)(g:swapsWith e u5 pos.line X.env=pure u7:=by rfl):QS X E (.Expr e pos) (ZF te):=(bf j g).mono λW c H h=>by obtain⟨a,S,G,hk,rfl,s,r,h⟩:=h;refine⟨a,S,G,hk,rfl,s,r,(G8 h).imp ?_⟩;rintro v _ ⟨b,d,k,rfl,x,i,q,_,f⟩;exact f b c (.refl b) i (r.mono x)
def aP(g:QE X E e te):QS X E (.Return (u4 e) pos) (QC te):=(nM g).mono λW j H h=>by obtain⟨a,S,G,hk,rfl,s,r,h⟩:=h;refine⟨a,S,G,hk,rfl,s,r,(G8 h).imp ?_⟩;rintro v _ ⟨b,d,i,rfl,x,f,q,_,c⟩;exact c b v (.refl b) f q
theorem M6(l:QT X E c tc)(j:OP X E a t)(i:OP X E b u):QS X E (.If c a b pos) (WI tc t u):=(nN l j i).mono λW m H h=>by
 obtain⟨a,S,G,hk,rfl,s,r,h⟩:=h;refine⟨a,S,G,hk,rfl,s,r,(cW h).imp ?_⟩;rintro k _ ⟨b,d,rfl,x,g,_,f⟩;cases k with
 |_=>exact⟨b,S,d,x.k.trans hk,rfl,g,r.mono x,f⟩
def tN{K:za}{g:DG}{W:Ends}{i:St}{H:Hp}(h:lS K E (PD te g) W i H):X3 (lE K E te) (lG K E g) W i H:=by obtain⟨a,S,G,hk,rfl,s,r,h⟩:=h;refine⟨a,S,G,hk,rfl,s,r,(G8 h).imp ?_⟩;rintro v _ ⟨b,d,j,rfl,x,p,q,_,l⟩;refine⟨b,S,j,d,x.k.trans hk,rfl,p,r.mono x,q,(c9 l).imp ?_⟩;rintro f _ ⟨c,z,w,rfl,y,n,o,_,m⟩;exact m c f (.refl c) n o
def tO(a:QE X E e te)(d:QG X E tg g)(b:swapsWithSole [tg] e pos.line X.env=pure u7:=by rfl)(hw:swappedStores [tg] e X.env=pure u5:=by rfl)
  (c:(xN [tg] X.env).map (·.2)=[assign tg X.env]:=by rfl):QS X E (.Assign [tg] e pos) (PD te g):=(nU a d b hw c).mono λ_ _ _ h=>tN h
def tP(i:Nat){x:Str}{c:Pos}(g:X.N.Nodup)(n:QE X E e te)(k:X.N[i]?=u4 x:=by rfl)(o:Loc X.env.scope x:=by first|exact Or.inl rfl|exact Or.inr rfl)(j:swapsWith e (u4 (.Name x c)) pos.line X.env=pure u7:=by rfl)
  (m:X.fn x=u6\/X.env.scope.names.lookup x=u4 .local:=by first|exact .inl rfl|exact .inr rfl|assumption):QS X E (.Assign [.Name x c] e pos) (PD te (gV i)):=
 (nV g k o n j m).mono λW w H h=>by obtain⟨a,S,G,hk,rfl,s,r,h⟩:=h;refine⟨a,S,G,hk,rfl,s,r,(G8 h).imp ?_⟩;rintro v _ ⟨b,d,p,rfl,x,l,q,_,f⟩;exact f b _ (.refl b) l ((r.mono x).set i q)
def tQ(i:Nat){x:Str}{op:Operator}{f:D->D->DH->R D}{g:Pos}(J:X.N.Nodup)(I:QE X E e te)(ho:WC X (inplaceOp op) (OH X.K E f))(M:X.N[i]?=u4 x:=by rfl)(O:Loc X.env.scope x:=by first|exact Or.inl rfl|exact Or.inr rfl)
  (o:X.fn x=u6\/X.env.scope.names.lookup x=u4 .local:=by first|exact .inl rfl|exact .inr rfl|assumption):QS X E (.AugAssign (.Name x g) op e pos) (Q2 i te f):=
 (nW J M O I ho o).mono λW Q H h=>by
  obtain⟨a,S,G,hk,rfl,s,r,h⟩:=h;unfold Q2 at h;split at h
  .rename_i d L;obtain⟨v,A,q⟩:=r.get i d L;refine⟨v,A,a,S,G,hk,rfl,s,r,(G8 h).imp ?_⟩;rintro w _ ⟨b,C,j,rfl,x,F,l,_,p⟩;refine⟨b,j,d,C,x.k.trans hk,rfl,F,q.mono x,l,(G8 p).imp ?_⟩;rintro z _ ⟨c,T,P,rfl,y,B,n,_,m⟩;exact m c _ (.refl c) B (((r.mono x).mono y).set i n)
  exact h.elim
noncomputable def Jk:D->D->DH->R D
 |.int i,.int j,G=>.ok (.int (i+j)) G
 |.str i,.str j,G=>if i.length+j.length<=1000000 then .ok (.str (i++j)) G else .bad
 |_,_,_=>.bad
def tR:WC X (inplaceOp .Add) (OH X.K E Jk):=Fg (.or nX oZ) λa G d e x y Q hk s rd re q=>by
 cases d<;>cases e<;>first
  |exact q.elim
  |exact .inl ⟨_,_,rd,re,q a _ (.refl a) s rfl⟩
  | (
    unfold Jk at q;dsimp only at q;split at q
    .rename_i hl;exact .inr ⟨_,_,rd,re,z8 hl ZC,q a _ (.refl a) s rfl⟩
    exact q.elim)
def tS:WC X (inplaceOp .Sub) (OH X.K E Mh):=Fg nY λa G d e x y Q hk s b c q=>by
 cases d<;>cases e<;>first
  |exact q.elim
  |exact⟨_,_,b,c,q a _ (.refl a) s rfl⟩
end
noncomputable def NU(r:SR)(k:RD->DH->SR)(_:Fx k:=()):SR:=match r with
 |.nx S G=>k S G
 |.ct S G=>k S G
 |.bk S G=>.nx S G
 |r=>r
def An(g:DG)(b:DS):List D->DS
 |[],S,G=>.nx S G
 |x::xs,S,G=>(g x S G).toS λS1 G1=>NU (b S1 G1) (An g b xs)
def forM(i:Nat)(g:DG)(b:DS):Nat->Nat->DS
 |0,j,S,G=>match G[i]? with
  |some (.lst xs)=>if xs.length<=j then .nx S G else .bad
  |_=>.bad
 | k+1,j,S,G=>match G[i]? with
  |some (.lst xs)=>match xs[j]? with
   |some x=>(g x S G).toS λS1 G1=>NU (b S1 G1) (forM i g b k (j+1))
   |none=>.nx S G
  |_=>.bad
def Di(f:Nat->DH->Option (Option D))(g:DG)(b:DS):Nat->Nat->DS
 |0,j,S,G=>match f j G with
  |some u5=>.nx S G
  |_=>.bad
 |k+1,j,S,G=>match f j G with
  |some (u4 x)=>(g x S G).toS λS1 G1=>NU (b S1 G1) (Di f g b k (j+1))
  |some u5=>.nx S G
  |none=>.bad
inductive TV where
 |pure (xs:List D)
 |mt (i:Nat)
 |fn (n:Nat) (f:Nat->DH->Option (Option D))
abbrev DI:=RD->DH->R TV
def Bu(it:DI)(g:DG)(b:DS):DS:=λS G=>(it S G).toS λJ G1=>match J with
 |.pure xs=>An g b xs S G1
 |.mt i=>match G1[i]? with
  |some (.lst xs)=>forM i g b xs.length 0 S G1
  |_=>.bad
 |.fn n f=>Di f g b n 0 S G1
def WH(a:Wd):TV->It->Prop
 |.pure xs,J=>∃vs:List V,OA a xs vs/\∀b:Wd,Ext a b->∀i,(∀v,vs[i]?=u4 v->J.go i b.H/\∀x H',J.Nl i b.H x H'->x=v/\H'=b.H)/\(vs.length<=i->J.stop i b.H)
 |.mt k,J=>k<a.n/\∀b:Wd,Ext a b->∀vs,b.H (b.m k)=u4 (.lst vs)->∀i,(∀v,vs[i]?=u4 v->J.go i b.H/\∀x H',J.Nl i b.H x H'->x=v/\H'=b.H)/\(vs.length<=i->J.stop i b.H)
 |.fn _ f,J=>∀b:Wd,Ext a b->∀G,VB b G->∀i,(∀d,f i G=u4 (u4 d)->J.go i b.H/\∀x H',J.Nl i b.H x H'->∃c:Wd,c.H=H'/\Ext b c/\VB c G/\XB c d x)/\(f i G=u4 u5->J.stop i b.H)
def outI(E:XK)(a:Wd)(r:R TV)(Q:It->Hp->Prop):Prop:=match r with
 |.ok J G=>∀(b:Wd)(JJ:It),Ext a b->VB b G->WH b J JJ->Q JJ b.H
 |.err x G=>SO E a x G
 |.bad=>False
noncomputable def lI(K:za)(E:XK)(t:DI):TI:=λσ H Q=>X1 K σ H λa S G=>outI E a (t S G) Q
def QI(X:Cx)(E:XK)(tg iter:xC)(t:DI):Prop:=PI X tg iter (lI X.K E t)
theorem outI.imp(h:outI E a r Q)(w:∀v H,Q v H->Q' v H):outI E a r Q':=by
 cases r with
 |ok d G=>exact λb v x s q=>w _ _ (h b v x s q)
 |_=>exact h
theorem tT(h:Br E a (r.toS f) W):
  outI E a r (λJ H=>PR3 a H r J WH λb d G=>Br E b (f d G) W):=by
 cases r with
 |ok d G=>exact λb v x s q=>⟨b,d,G,rfl,x,s,q,rfl,Br.mono x h⟩
 |_=>exact h
theorem cf (h:Br E a (NU r k) W):
  Br E a r {W with
            nx:=λc H=>∃(b:Wd)(S:RD)(G:DH),b.H=H/\Ext a b/\VB b G/\XC b S c/\Br E b (k S G) W,
            ct:=λc H=>∃(b:Wd)(S:RD)(G:DH),b.H=H/\Ext a b/\VB b G/\XC b S c/\Br E b (k S G) W,bk:=W.nx}:=by
 cases r with
 |nx S G|ct S G=>exact λb c x s q=>⟨b,S,G,rfl,x,s,q,Br.mono x h⟩
 |_=>exact h
noncomputable def RX(i j:Nat)(G:DH):Option (Option D):=match G[i]? with
 |some (.lst xs)=>u4 xs[j]?
 |_=>u5
def ci(r:WH a (.pure xs) J):WH a (.fn n λj _=>u4 xs[j]?) J:=by
 obtain⟨p,c,h⟩:=r;refine λb x G o i=>⟨λd e=>?_,λe=>((h b x i).2 (by rw[<-c.length];exact jQ.mp (Option.some.inj e)))⟩
 .obtain⟨v,l,q⟩:=c.get (Option.some.inj e);obtain⟨g,k⟩:=(h b x i).1 v l;refine⟨g,λy f m=>?_⟩;obtain⟨rfl,rfl⟩:=k y f m;exact⟨b,rfl,.refl b,o,q.mono x⟩
theorem cm(r:WH a (.mt k) J):WH a (.fn n (RX k)) J:=by
 obtain⟨hk,h⟩:=r;refine λb x G j i=>?_
 unfold RX;cases t:G[k]? with
 |none=>exact⟨λd e=>(by cases e),λe=>(by cases e)⟩
 | some o=>
  cases o with
  |lst w=>
   obtain⟨f,c,g⟩:=j.lst t;refine⟨λd e=>?_,λe=>((h b x f c i).2 (by rw[<-g.length];exact jQ.mp (Option.some.inj e)))⟩
   .obtain⟨v,s,q⟩:=g.get (Option.some.inj e);obtain⟨m,p⟩:=(h b x f c i).1 v s;refine⟨m,λy l u=>?_⟩;obtain⟨rfl,rfl⟩:=p y l u;exact⟨b,rfl,.refl b,j,q⟩
  |_=>exact⟨λd e=>(by cases e),λe=>(by cases e)⟩
theorem cq{g:DG}{b:DS}{xs:List D}:∀(n j:Nat),j+n=xs.length->An g b (xs.drop j)=Di (λj _=>u4 xs[j]?) g b n j
 |0,j,h=>by
  funext S G;rw[qJ (by lia)]
  show SR.nx S G=(match u4 xs[j]? with |some u5=>.nx S G|_=>.bad)
  rw[z0 (by lia)]
 |n+1,j,h=>by
  funext S G;have d:j<xs.length:=by lia
  rw[qZ d]
  show(g xs[j] S G).toS (λa c=>NU (b a c) (An g b (xs.drop (j+1))))=(match u4 xs[j]? with |some (u4 x)=>(g x S G).toS (λa c=>NU (b a c) (Di (λj _=>u4 xs[j]?) g b n (j+1)))|some u5=>.nx S G|none=>.bad)
  rw[zX d,cq n (j+1) (by lia)]
theorem cw:∀(n j:Nat),forM i g b n j=Di (RX i) g b n j
 | 0,j=>by
  funext S G;unfold forM Di RX;cases G[i]? with
  |none=>rfl
  | some o=>
   cases o with
   |lst a=>
    dsimp only;by_cases c:j<a.length
    .rw[if_neg (by lia),zX c]
    rw[if_pos (by lia),z0 (by lia)]
   |_=>rfl
 | n+1,j=>by
  funext S G;unfold forM Di;rw[cw n (j+1)];unfold RX;cases G[i]? with
  |none=>rfl
  | some o=>
   cases o with
   |lst a=>
    dsimp only
    cases a[j]?<;>rfl
   |_=>rfl
section
variable{X:Cx}{E:XK}{tg iter:xC}{pos:Pos}
theorem tU{K:za}{it:DI}{g:DG}{b:DS}{W:Ends}{N:St}{H:Hp}(h:lS K E (Bu it g b) W N H):Rl (lI K E it) (lG K E g) (lS K E b) W N H:=by
 obtain⟨a,S,G,hk,rfl,s,r,h⟩:=h;refine⟨a,S,G,hk,rfl,s,r,(tT h).imp ?_⟩;rintro J _ ⟨t,d,O,rfl,x1,s1,u,_,l⟩;have k1:=x1.k.trans hk
 suffices fnc:∃n f,WH t (.fn n f) J/\Br E t (Di f g b n 0 S O) W by
  obtain⟨n,f,u,l⟩:=fnc;have walk:=u;refine⟨λi m N H=>∃(c:Wd)(S:RD)(G:DH),c.H=H/\Ext t c/\VB c G/\XC c S N/\Br E c (Di f g b m i S G) W,⟨_,t,S,O,rfl,.refl _,s1,r.mono x1,l⟩,?_⟩;rintro i m C _ ⟨c,S2,F,rfl,p,x,Q,j⟩;cases m with
  |zero=>
   unfold Di at j;split at j
   .rename_i v;exact .inl ⟨(walk c p F x i).2 v,j c C (.refl c) x Q⟩
   exact j.elim
  | succ m=>
   unfold Di at j;split at j
   .rename_i d v;obtain⟨go,yl⟩:=(walk c p F x i).1 d v;refine .inr ⟨go,λB M=>∃(c:Wd)(S:RD)(G:DH),c.H=M/\Ext t c/\VB c G/\XC c S B/\Br E c (Di f g b m (i+1) S G) W,λB M z=>⟨m,qV _,z⟩,λw M y=>?_⟩;obtain⟨cc,rfl,q,ss,rd⟩:=yl w M y;refine⟨cc,S2,F,d,q.k.trans (p.k.trans k1),rfl,ss,Q.mono q,rd,(c9 (Br.mono q j)).imp ?_⟩;rintro σ3 _ ⟨c3,S3,G3,rfl,x3,s3,r3,_,h3⟩;have e:=cf h3;refine⟨c3,S3,G3,x3.k.trans (q.k.trans (p.k.trans k1)),rfl,s3,r3,?_⟩
    revert e
    cases b S3 G3 with
    | nx L I|ct L I=>
      intro e U o x4 P Y;obtain⟨Z,S5,G5,hh,x5,s5,r5,T⟩:=e U o x4 P Y;exact⟨Z,S5,G5,hh,p.trans (q.trans (x3.trans x5)),s5,r5,T⟩
    |_=>exact λe=>e
   .rename_i v;exact .inl ⟨(walk c p F x i).2 v,j c C (.refl c) x Q⟩
   exact j.elim
 cases d with
 |pure xs=>
  have A:Br E t (An g b (xs.drop 0) S O) W:=l;rw[cq xs.length 0 (by lia)]at A;exact⟨_,_,ci u,A⟩
 |mt k=>
  dsimp only at l;split at l
  .rw[cw]at l;exact⟨_,_,cm u,l⟩
  exact l.elim
 |fn n f=>exact⟨n,f,u,l⟩
def tV(hp:PassesOwn (vY X.prog X.w) X.A X.env X.xe)(f:X.calm=u6)(d:QI X E tg iter it)(a:QG X E tg g)(e:OP X E body b)
  (c:∀x,foldedSetIterable iter X.env x=pure x:=by intro _;rfl):QS X E (.For tg iter body [] pos) (Bu it g b):=(nq hp f d a e c).mono λ_ _ _ h=>tU h
def _root_._L.PI.mono(h:PI X tg iter t)(w:∀a H Q,t' a H Q->t a H Q):PI X tg iter t':=λb s a H Q I q=>h b s a H Q I (w a H Q q)
def sgn(c:Nat):D:=.str ⟨#[c]⟩
def signs(x:Str):List D:=x.cps.toList.map sgn
noncomputable def Its(x:Str):It:=⟨λi _=>i<x.cps.size,λi H v H'=>H'=H/\∃c,x.cps[i]?=u4 c/\v=.str ⟨#[c]⟩,λi _=>x.cps.size<=i⟩
def tW{P:xF}{w:xM}{K:za}{tg:xC}(it:xA)(x:Str)(t:Tok):Turn P w K tg (Its x) [it] it (λi h=>h.IsStrIter it "str_ascii_iterator" x t i) where
 mem:=by simp
 obj:=λi h a b f=>by
  have e:b=it:=by simpa using f
  subst e;obtain⟨o,e,c,d⟩:=a;exact⟨o,e,λv z=>by rw[d]at z;cases z⟩
 keep:=λi h J a k=>let⟨o,N,r⟩:=a;⟨o,k it (by simp) o N,r⟩
 item:=by
  intro X n hw y F i j s O H E I l a u;subst n hw y;obtain⟨B,p,L,A,q,C⟩:=l it (by simp);have m:i<x.cps.size:=u;refine wpAny_pyNext_ascii_item a (c:=x.cps[i]) (by simp[m]) λJ g Q=>?_
  obtain⟨o,e,c,d⟩:=id g;exact⟨_,rfl,O6 e c d (by decide) ⟨.str ⟨#[x.cps[i]]⟩,H,I.turned (λb o f e=>(Q.2 b f).trans e) B p A q C,⟨_,rfl⟩,⟨rfl,_,by simp[m],rfl⟩,g,λb f=>(l b f).1⟩⟩
 done:=by intro X n hw y F i j s O H E I l a u;subst n hw y;obtain⟨B,p,L,A,q,C⟩:=l it (by simp);have m:x.cps.size<=i:=u;exact wpAny_pyNext_ascii_end (I.ok.hd F) a (by simp[m]) λJ M=>⟨rfl,I.turned (λb o f e=>M b o f e) B p A q C⟩
 self:=λ_ _ _ _ _ a h=>wpAny_pyIter_striter_ascii a h
def tX{P:xF}{w:xM}{K:za}{tg:xC}(it:xA)(x:Str)(t:Tok):Turn P w K tg (Its x) [it] it (λi h=>h.IsStrIter it "str_iterator" x t i) where
 mem:=by simp
 obj:=λi h a b f=>by
  have e:b=it:=by simpa using f
  subst e;obtain⟨o,e,c,d⟩:=a;exact⟨o,e,λv z=>by rw[d]at z;cases z⟩
 keep:=λi h J a k=>let⟨o,N,r⟩:=a;⟨o,k it (by simp) o N,r⟩
 item:=by
  intro X n hw y F i j s O H E I l a u;subst n hw y;obtain⟨B,p,L,A,q,C⟩:=l it (by simp);have m:i<x.cps.size:=u;refine wpAny_pyNext_wide_item a (c:=x.cps[i]) (by simp[m]) λJ g Q=>?_
  obtain⟨o,e,c,d⟩:=id g;exact⟨_,rfl,O6 e c d (by decide) ⟨.str ⟨#[x.cps[i]]⟩,H,I.turned (λb o f e=>(Q.2 b f).trans e) B p A q C,⟨_,rfl⟩,⟨rfl,_,by simp[m],rfl⟩,g,λb f=>(l b f).1⟩⟩
 done:=by intro X n hw y F i j s O H E I l a u;subst n hw y;obtain⟨B,p,L,A,q,C⟩:=l it (by simp);have m:x.cps.size<=i:=u;exact wpAny_pyNext_wide_end (I.ok.hd F) a (by simp[m]) λJ M=>⟨rfl,I.turned (λb o f e=>M b o f e) B p A q C⟩
 self:=λ_ _ _ _ _ a h=>wpAny_pyIter_striter_wide a h
def iStr(tl:TE):TI:=λσ H R=>tl σ H λx H1=>∃z,x=.str z/\R (Its z) H1
def tY{l:xC}{g:TE}(m:PE X l g):PI X tg l (iStr g):=by
 intro a s n H R I h;refine QB (m a s n H _ I h) λv c zz=>?_
 obtain⟨x,f,d,r,k⟩:=zz;obtain⟨z,e,q⟩:=k;subst e;obtain⟨t,rfl⟩:=r;have j:∀b∈[c.heap.objs.size],VI X a f b:=λb p=>by
  have e:b=c.heap.objs.size:=by simpa using p
  subst e;exact d.Hz (zY _) (d.OB.fresh (zY _))
 cases i:z.cps.all (· < 128)
 .exact wpAny_pyIter_wide i (⟨c.heap.objs.size,[c.heap.objs.size],_,_,f,rfl,d.kept λb o e=>zZ _ e,tX _ z t,⟨_,z6 _ rfl,rfl,rfl⟩,j,q⟩)
 .exact wpAny_pyIter_ascii i (⟨c.heap.objs.size,[c.heap.objs.size],_,_,f,rfl,d.kept λb o e=>zZ _ e,tW _ z t,⟨_,z6 _ rfl,rfl,rfl⟩,j,q⟩)
theorem OA.signs(x:Str):OA a (signs x) (x.cps.toList.map λc=>V.str ⟨#[c]⟩):=by
 unfold _D.signs
 induction x.cps.toList with
 |nil=>exact rfl
 |cons c r b=>exact⟨_,_,rfl,rfl,b⟩
noncomputable def Ft:D->DH->R TV
 |.tup xs,G=>.ok (.pure xs) G
 |.str x,G=>.ok (.pure (signs x)) G
 |.fl xs,G=>.ok (.pure xs) G
 |.ref i,G=>match G[i]? with
  |some (.lst _)=>.ok (.mt i) G
  |_=>.bad
 |_,_=>.bad
def Dr(te:DE):DI:=λS G=>(te S G).bind Ft
theorem tZ(C:QE X E iter te):QI X E tg iter (Dr te):=by
 intro f s M H R I h;obtain⟨a,S,G,hk,rfl,N,r,h⟩:=h;cases u:te S G with
 |bad=>
  have j:outI E a ((te S G).bind Ft) R:=h;rw[u]at j;exact j.elim
 |err e W=>
  have j:outI E a ((te S G).bind Ft) R:=h;rw[u]at j;refine Yo C f s M a.H R I ⟨a,S,G,hk,rfl,N,r,?_⟩;rw[u];exact j
 | ok d W=>
  have j:outI E a ((te S G).bind Ft) R:=h;rw[u]at j;cases d with
  |tup Z=>
   refine ng C f s M a.H R I ⟨a,S,G,hk,rfl,N,r,?_⟩;rw[u];rintro b v x t ⟨p,g,rfl,n,J⟩;have A:RH X.K b.H p g:=by rw[<-hk,<-x.k];exact n
   refine⟨p,rfl,⟨g,A⟩,j b _ x t ⟨g,J,λc y i=>⟨λv l=>⟨⟨g,v,?_,l⟩,λw P z=>?_⟩,λo=>⟨g,?_,o⟩⟩⟩⟩
   .have:=y.SY n;rw[y.k,x.k,hk]at this;exact this
   .have:=y.SY n;rw[y.k,x.k,hk]at this;exact⟨Option.some.inj ((z.2 g this).symm.trans l),z.1⟩
   have:=y.SY n;rw[y.k,x.k,hk]at this;exact this
  |fl Z=>
   refine Yo C f s M a.H R I ⟨a,S,G,hk,rfl,N,r,?_⟩;rw[u];rintro b v x t ⟨p,g,rfl,n,J⟩;have A:NH X.K b.H p g:=by rw[<-hk,<-x.k];exact n.sq
   refine⟨p,rfl,⟨g,A⟩,j b _ x t ⟨g,J,λc y i=>⟨λv l=>⟨⟨g,v,?_,l⟩,λw P z=>?_⟩,λo=>⟨g,?_,o⟩⟩⟩⟩
   .have:=(y.TY n).sq;rw[y.k,x.k,hk]at this;exact this
   .have:=(y.TY n).sq;rw[y.k,x.k,hk]at this;exact⟨Option.some.inj ((z.2 g this).symm.trans l),z.1⟩
   have:=(y.TY n).sq;rw[y.k,x.k,hk]at this;exact this
  |ref k=>
   have B:outI E a (Ft (.ref k) W) R:=j;unfold Ft at B;dsimp only at B;split at B
   .rename_i Z U;refine Yo C f s M a.H R I ⟨a,S,G,hk,rfl,N,r,?_⟩;rw[u];rintro b v x t ⟨F,rfl⟩;obtain⟨g,U,_⟩:=t.lst U;refine⟨b.m k,rfl,⟨g,.of U⟩,B b _ x t ⟨F,λc y T O i=>?_⟩⟩;rw[y.m k F]at O;exact⟨λv l=>⟨⟨T,v,.of O,l⟩,λw P z=>⟨Option.some.inj ((z.2 T (.of O)).symm.trans l),z.1⟩⟩,λo=>⟨T,.of O,o⟩⟩
   exact B.elim
  | str z=>
   refine tY C f s M a.H R I ⟨a,S,G,hk,rfl,N,r,?_⟩;rw[u];intro b v x t J;cases(J);refine⟨z,rfl,j b _ x t ⟨_,.signs z,λc y i=>⟨λv l=>?_,λo=>?_⟩⟩⟩
   .rw[zw,zG]at l;obtain⟨k,Q,rfl⟩:=l;have L:z.cps[i]?=u4 k:=by rw[<-jZ];exact Q
    refine⟨(qz.mp L).1,λw P q=>?_⟩;obtain⟨e1,k',Y,e3⟩:=q;rw[L]at Y;cases Y;exact⟨e3,e1⟩
   rw[zO,qC]at o;exact o
  |_=>exact j.elim
end
noncomputable def Bb(lo:Int)(n:Nat):List D:=(zQ n).map λ(k:Nat)=>D.int (lo+(k:Int))
def inR(j:Int):Prop:= -(2^62)<=j/\j<2^62
noncomputable instance (j:Int):Decidable (inR j):=by unfold inR;infer_instance
def ZD(ds:List D)(G:DH):R TV:=match ds with
 |[.int j]=>if inR j then .ok (.pure (Bb 0 j.toNat)) G else .bad
 |_=>.bad
def Bf(f:List D->DH->R TV)(ta:DA):DI:=λS G=>(ta S G).bind f
def WM(c:DB)(b:DS):Nat->DS
 |0,_,_=>.bad
 |n+1,S,G=>(c S G).toS λk G1=>if k=u6 then NU (b S G1) (WM c b n)else .nx S G1
def Al(np nl:Nat)(b:DS):List D->DH->R D:=λds G=>if ds.length=np then tidy G (match b (ds.map u4++zV nl u5) G with
 |.nx _ G'=>.ok .WA G'
 |.rt d G'=>.ok d G'
 |.err x G'=>.err x G'
 |_=>.bad)else .bad
theorem outI.mono(x:Ext a b)(h:outI E a r Q):outI E b r Q:=by
 cases r with
 |ok d G=>exact λc v y s q=>h c v (x.trans y) s q
 |err e G=>exact SO.mono x h
 |bad=>exact h
theorem Rg(h:outI E a (r.bind f) Q):
  Fd E a r (λvs H=>PR3 a H r vs OA λb c G=>outI E b (f c G) Q):=by
 cases r with
 |ok d G=>exact λb v x s q=>⟨b,d,G,rfl,x,s,q,rfl,outI.mono x h⟩
 |_=>exact h
section
variable{X:Cx}{E:XK}{tg iter:xC}{pos:Pos}
def t5(e:Int)(n:Nat):WH a (.pure (Bb e n)) (C? e n):=by
 refine⟨(zQ n).map λ(k:Nat)=>V.int (e+(k:Int)),?_,λb x i=>⟨λv c=>?_,λf=>?_⟩⟩
 .unfold Bb;generalize zQ n=l
  induction l with
  |nil=>exact rfl
  |cons k l g=>exact⟨_,_,rfl,rfl,g⟩
 .rw[zw]at c;by_cases d:i<n
  .rw[zM d]at c;exact⟨d,λw h y=>⟨y.2.trans (by simpa using c),y.1⟩⟩
  rw[z0 (by simpa using d)]at c;cases c
 show n<=i;simpa using f
def t6{p pos:Pos}(i:Gl X "range")(m:X.mg "range"=u5)(l:QA X E [e] ta)(k:vx [e] X.env=[(u7,eval e X.env)]:=by rfl):QI X E tg (.Call (.Name "range" p) [e] [] pos) (Bf ZD ta):=
 (nk i m l k).mono λu H Q h=>by
  obtain⟨a,S,G,hk,rfl,s,r,h⟩:=h;refine⟨a,S,G,hk,rfl,s,r,(Rg h).imp ?_⟩;rintro w _ ⟨b,y,t,rfl,x,o,q,-,c⟩;unfold ZD at c;split at c
  .rename_i j;split at c
   .rename_i d;obtain⟨v,r,g,f,n⟩:=q;cases(f);cases(n);exact⟨j,g,d.1,d.2,c b _ (.refl b) o (t5 0 j.toNat)⟩
   exact c.elim
  exact c.elim
theorem cx(n:Nat)(hp:PassesOwn (vY X.prog X.w) X.A X.env X.xe)(hc:QT X E c tc)(Z:OP X E body tb):QS X E (.While c body [] pos) (WM tc tb n):=(n5 hp hc Z).mono λW Q H h=>by
 obtain⟨a,S,G,hk,rfl,s,r,h⟩:=h;refine⟨λm Q H=>∃(b:Wd)(S:RD)(G:DH),b.H=H/\Ext a b/\VB b G/\XC b S Q/\Br E b (WM tc tb m S G) W,⟨n,a,S,G,rfl,.refl a,s,r,h⟩,?_⟩;rintro m J _ ⟨b,v,Y,rfl,l,s2,p,N⟩;cases m with
 |zero=>exact N.elim
 | succ m=>
  refine⟨b,v,Y,l.k.trans hk,rfl,s2,p,(cW N).imp ?_⟩;rintro k _ ⟨L,O,rfl,f,U,_,T⟩;cases k with
  |false=>exact T L J (.refl L) U (p.mono f)
  | true=>
   refine⟨λg P=>∃(b:Wd)(S:RD)(G:DH),b.H=P/\Ext a b/\VB b G/\XC b S g/\Br E b (WM tc tb m S G) W,λg P z=>⟨m,qV _,z⟩,L,v,O,f.k.trans (l.k.trans hk),rfl,U,p.mono f,?_⟩;have d:=cf T
   revert d
   cases tb v O with
   |nx j i|ct j i=>
    intro d u e B o y;obtain⟨t,I,M,C,K,x,F,q⟩:=d u e B o y;exact⟨t,I,M,C,l.trans (f.trans K),x,F,q⟩
   |_=>exact λd=>d
end
def t7(r:OA a ds vs)(n m:Nat)(h:n=m):XC a (ds.map u4++zV n u5) (vs.map u4++zV m u5):=by
 subst h;refine⟨by simp[r.length],λi d b=>?_⟩;by_cases c:i<ds.length
 .rw[zP (by simpa using c),zw]at b;cases e:ds[i]? with
  |none=>rw[e]at b;cases b
  |some j=>
   rw[e]at b;have f:j=d:=by simpa using b
   subst f;obtain⟨v,g,q⟩:=r.get e;exact⟨v,by rw[zP (by rw[zO,<-r.length];exact c),zw,g];rfl,q⟩
 rw[zC (by simpa using c),jv]at b
 split at b<;>cases b
def W3{K:za}{p:List Str}{n:Nat}{b:DS}{v:List V}{H:Hp}{Q:VK}{E:XK}(h:Mb K (Al p.length n b) v H Q E):v.length=p.length:=by
 obtain⟨a,G,q,hk,rfl,t,r,h⟩:=h;unfold Al at h;split at h
 .rename_i l;rw[<-r.length];exact l
 exact h.elim
def Zt{K:za}{N p:List Str}{b:DS}{v:List V}{H:Hp}{Q:VK}{E:XK}(h:Mb K (Al p.length (N.length-p.length) b) v H Q E):lS K E b {nx:=λ_=>Q .WA,rt:=Q} (start N v) H:=by
 have l:=W3 h;obtain⟨a,G,q,hk,rfl,t,r,h⟩:=h;unfold Al at h;split at h
 .have g:=cX t h;refine⟨a,q.map u4++zV (N.length-p.length) u5,G,hk,rfl,t,t7 r _ _ (by rw[l]),?_⟩
  revert g
  cases b (q.map u4++zV (N.length-p.length) u5) G with
  |nx v o=>exact λg c C x B _=>g c .WA x B rfl
  |bk v o|ct v o=>exact λg=>g.elim
  |_=>exact id
 exact h.elim
def Gj{P:xF}{w:xM}{K:za}{u:Str->Option xL}{j:Heap}{x qual:Str}{st:xI}{f:xA}{y:xD}{N ps:List Str}{k:Nat}{b:DS}(F:YS K x qual st f y)(S:UC N ps (Bc st))
  (m:∀(i:xL)(A:xB)(outer:List Env)(s:xH)(H:Hp)(E:XK),NC k (A.deeper (envOfC qual (Bc st) s.heap.objs.size f i))->OP (Gd RO P w K u j N qual (Bc st) f i A outer s H E).OY E0 (Dg st) b):
  QD P w K u j RO (k+1) f y ps (lF K (Al ps.length (N.length-ps.length) b)):=by
 exact F.ok S (λ_ _ _ _=>W3) λi A o s H n Q E z h=>⟨_,m i A o s H E z,Zt h⟩
theorem Hy(s:VB a G)(r:XB a d x)(h:Bd d G=u4 xs):∃p vs,x=.ref p/\(NH a.K a.H p vs\/RH a.K a.H p vs)/\OA a xs vs:=by
 cases d with
 |tup c=>
  have e:=Option.some.inj h;subst e;obtain⟨p,vs,e,q,b⟩:=r;exact⟨p,vs,e,.inr q,b⟩
 |fl c=>
  have e:=Option.some.inj h;subst e;obtain⟨p,vs,e,q,b⟩:=r;exact⟨p,vs,e,.inl q.sq,b⟩
 |ref i=>
  unfold Bd at h;dsimp only at h;split at h
  .rename_i c j;have e:=Option.some.inj h;subst e;obtain⟨vs,g,k⟩:=s.lst j;exact⟨a.m i,vs,r.2,.inl (.of g),k⟩
  cases h
 |_=>cases h
def Bj (d e:D) (G:DH):R D:=match e with
 | .int i=>match d with
  | .str z=>if z.length<=1000000 then(match YC z.cps.toList i with
    |some c=>.ok (.str ⟨#[c]⟩) G
    |none=>.bad)else .bad
  | d=>match Bd d G with
   |some xs=>match YC xs i with
    |some v=>.ok v G
    |none=>.bad
   |none=>.bad
 |_=>.bad
theorem cz(r:OA a xs vs)(h:YC xs i=u4 d):∃v,YC vs i=u4 v/\XB a d v:=by
 unfold YC at h⊢;rw[<-r.length];cases e:VT xs.length i with
 |none=>rw[e]at h;cases h
 |some j=>
  rw[e]at h;obtain⟨v,b,q⟩:=r.get (h);exact⟨v,b,q⟩
section
variable{X:Cx}{E:XK}
def _root_._L.VM.mono(h:VM X r)(w:∀x y H Q,r' x y H Q->r x y H Q):VM X r':=λa b c s d H x y v u Q I i j q g=>h a b c s d H x y v u Q I i j (w _ _ _ _ q) g
def _root_._L.WB.mono(h:WB X f r)(w:∀xs H Q,r' xs H Q->r xs H Q):WB X f r':=λa s b H xs c Q I d q=>h a s b H xs c Q I d (w _ _ _ q)
def _root_._L.SV.mono{id:String}{r b:V->List V->Hp->VK->Prop}(h:SV X id r)(w:∀x xs H Q,b x xs H Q->r x xs H Q):SV X id b:=λa s c H x xs v d Q I i g q=>h a s c H x xs v d Q I i g (w _ _ _ _ q)
theorem Sr:VM X (OH X.K E Bj):=pq.mono λx y H Q h=>by
 obtain⟨a,G,d,e,hk,rfl,s,r,m,q⟩:=h;cases e with
 | int i=>
  have n:∀{k:List D},Bd d G=u4 k->out E a (match YC k i with |some v=>.ok v G|none=>.bad) Q->rIx X.K x y a.H Q:=λ{k}l q=>by
   obtain⟨p,B,w,g,I⟩:=Hy s r l;rw[hk]at g;split at q
   .rename_i v J;obtain⟨u,A,F⟩:=cz I J;have z:=q a u (.refl a) s F;rcases g with g|g
    .exact .inl ⟨p,B,i,u,w,m,g,A,z⟩
    exact .inr (.inl ⟨p,B,i,u,w,m,g,A,z⟩)
   exact q.elim
  have b:out E a (match Bd d G with |some k=>(match YC k i with |some v=>.ok v G|none=>.bad)|none=>.bad) Q->rIx X.K x y a.H Q:=λq=>by
   cases l:Bd d G with
   |none=>rw[l]at q;exact q.elim
   |some k=>rw[l]at q;exact n l q
  cases d with
  | str z=>
   unfold Bj at q;dsimp only at q;split at q
   .rename_i C;split at q
    .rename_i c L;exact .inr (.inr ⟨z,i,c,r,m,z8 C ZC,L,q a _ (.refl a) s rfl⟩)
    exact q.elim
   exact q.elim
  |tup M|fl M|ref j|_=>exact b q
 |_=>exact q.elim
def Be(ds:List D)(G:DH):R D:=match ds with
 |[.str z]=>if z.length<=1000000 then .ok (.int z.length) G else .bad
 |[d]=>match Bd d G with
  |some xs=>.ok (.int xs.length) G
  |none=>.bad
 |_=>.bad
def ZE(r:OA a [d] vs):∃v,vs=[v]/\XB a d v:=by obtain⟨v,b,e,q,z⟩:=r;cases(z);exact⟨v,e,q⟩
def OU(r:OA a [d,d'] vs):∃v b,vs=[v,b]/\XB a d v/\XB a d' b:=by obtain⟨v,h,e,q,z⟩:=r;obtain⟨b,g,c⟩:=ZE z;subst g;exact⟨v,b,e,q,c⟩
def t8:WB X (.builtin "len") (PR X.K E Be):=(qt.or qu).mono λl H Q h=>by
 obtain⟨a,G,m,hk,rfl,s,r,q⟩:=h;unfold Be at q;split at q
 .rename_i z;split at q
  .rename_i g;obtain⟨v,rfl,b⟩:=ZE r;cases(b);exact .inr ⟨z,rfl,z8 g ZC,q a _ (.refl a) s rfl⟩
  exact q.elim
 .rename_i d _;split at q
  .rename_i n j;obtain⟨v,rfl,b⟩:=ZE r;obtain⟨p,i,rfl,c,k⟩:=Hy s b j;rw[hk]at c;exact .inl ⟨p,i,rfl,c,q a _ (.refl a) s (by rw[<-k.length];exact rfl)⟩
  exact q.elim
 exact q.elim
def Dj(ds:List D)(G:DH):R D:=match ds with
 |[d]=>match Bd d G with
  |some xs=>.ok (.tup xs) G
  |none=>.bad
 |_=>.bad
def t9:WB X (.type "tuple") (PR X.K E Dj):=rC.mono λm H Q h=>by
 obtain⟨a,G,n,hk,rfl,s,r,q⟩:=h;unfold Dj at q;split at q
 .rename_i d;split at q
  .rename_i u j;obtain⟨v,rfl,k⟩:=ZE r;obtain⟨p,c,rfl,b,g⟩:=Hy s k j;refine⟨p,c,rfl,?_⟩;rcases b with b|b
   .exact .inl ⟨by rw[<-hk];exact b,λl i=>Yw s g q l i⟩
   exact .inr ⟨by rw[<-hk];exact b,q a _ (.refl a) s ⟨p,c,rfl,b,g⟩⟩
  exact q.elim
 exact q.elim
def Qy(ds:List D)(G:DH):R D:=match ds with
 |[.str z]=>if z.length<=1000000 then .ok (.ref G.length) (G++[.lst (signs z)])else .bad
 |[d]=>match Bd d G with
  |some xs=>.ok (.ref G.length) (G++[.lst xs])
  |none=>.bad
 |_=>.bad
theorem Zj:∀{vs:List V}{us:List xL},vs.length=us.length->(∀(i:Nat)(v:V)(u:xL),vs[i]?=u4 v->us[i]?=u4 u->RelV v u)->Vals vs us
 |[],[],_,_=>.nil
 |[],_::_,h,_|_::_,[],h,_=>by cases h
 |v::vs,u::us,h,f=>.cons (f 0 v u rfl rfl) (Zj (by simpa using h) λi a d c b=>f (i+1) a d (by simpa using c) (by simpa using b))
def tf(x:X.calm=u6):WB X (.type "list") (λxs H Q=>∃z:Str,xs=[.str z]/\z.length<=sizeLine/\∀l,H l=u5->Q (.ref l) (upd H l (.lst (z.cps.toList.map λc=>V.str ⟨#[c]⟩)))):=by
 intro j s A H xs B Q I r h;obtain⟨z,rfl,m,q⟩:=h;obtain⟨u,rfl,t,rfl⟩:=vals1 r;refine PySem.call_list_str (I.ok.hd x) z t (λJ C b c hk p a=>?_) m;refine⟨.ref s.heap.objs.size,upd H s.heap.objs.size (.lst (z.cps.toList.map λc=>V.str ⟨#[c]⟩)),I.laid hk (zY _) ?_,rfl,q _ (I.OB.fresh (zY _))⟩;refine⟨by rw[zO,qC];exact m,b.toList,c,Zj ?_ λi v u d n=>?_,by simpa using p⟩
 .rw[zO,qC,qC];exact a.1.symm
 rw[zw,zG]at d;obtain⟨k,g,rfl⟩:=d;obtain⟨F,w,y,rfl⟩:=a.2 i u (by rw[<-jZ];exact n);rw[jZ,y]at g;cases g;exact⟨w,rfl⟩
def tj(m:X.calm=u6):WB X (.type "list") (PR X.K E Qy):=(rB.or (tf m)).mono λn H Q h=>by
 obtain⟨a,G,u,hk,rfl,s,r,q⟩:=h;unfold Qy at q;split at q
 .rename_i z;split at q
  .rename_i b;obtain⟨v,rfl,c⟩:=ZE r;cases(c);exact .inr ⟨z,rfl,z8 b ZC,λl b=>Io s (.signs z) q l b⟩
  exact q.elim
 .rename_i d _;split at q
  .rename_i w j;obtain⟨v,rfl,c⟩:=ZE r;obtain⟨p,i,rfl,g,k⟩:=Hy s c j;exact .inl ⟨p,i,rfl,by rw[<-hk];exact g,λl b=>Io s k q l b⟩
  exact q.elim
 exact q.elim
noncomputable def Ol(ds:List D)(G:DH):R D:=match ds with
 |[.int i,.int j]=>.ok (.int (if j>i then j else i)) G
 |_=>.bad
noncomputable def Jy(ds:List D)(G:DH):R D:=match ds with
 |[.int i,.int j]=>.ok (.int (if j<i then j else i)) G
 |_=>.bad
def tm(d:X.calm=u6):WB X (.builtin "max") (PR X.K E Ol):=(oa d).mono λg H Q h=>by
 obtain⟨a,G,i,hk,rfl,s,r,q⟩:=h;unfold Ol at q;split at q
 .obtain⟨v,j,rfl,b,c⟩:=OU r;cases(b);cases(c);exact⟨_,_,rfl,q a _ (.refl a) s rfl⟩
 exact q.elim
def tq(d:X.calm=u6):WB X (.builtin "min") (PR X.K E Jy):=(og d).mono λg H Q h=>by
 obtain⟨a,G,i,hk,rfl,s,r,q⟩:=h;unfold Jy at q;split at q
 .obtain⟨v,j,rfl,b,c⟩:=OU r;cases(b);cases(c);exact⟨_,_,rfl,q a _ (.refl a) s rfl⟩
 exact q.elim
noncomputable def De(o:D)(ds:List D)(G:DH):R D:=match o,ds with
 |.ref i,[d]=>match G[i]? with
  |some (.lst xs)=>if xs.length<1000000 then .ok .WA (G.set i (.lst (xs++[d])))else .bad
  |_=>.bad
 |_,_=>.bad
def E?(K:za)(E:XK)(f:D->List D->DH->R D):V->List V->Hp->VK->Prop:=λx xs H Q=>PD3 K H x xs XB OA λa G d ds=>out E a (f d ds G) Q
def VB.isList(s:VB a G)(h:G[i]?=u4 (.lst xs)):∃vs,NH a.K a.H (a.m i) vs:=let⟨vs,e,_⟩:=s.lst h;⟨vs,.of e⟩
def tw:SV X "list.append" (E? X.K E De):=rG.mono λx y H Q h=>by
 obtain⟨a,G,d,w,hk,rfl,s,b,r,q⟩:=h;unfold De at q;split at q
 .rename_i i d;obtain⟨v,rfl,p⟩:=ZE r;split at q
  .rename_i z k;split at q
   .rename_i j;obtain⟨l,c,g⟩:=s.lst k;obtain⟨n,u⟩:=U9 s b.1 c (g.append (.cons p OA.nil));exact⟨a.m i,l,v,b.2,rfl,c,by rw[<-g.length];exact zj j ZC,q _ .WA n u rfl⟩
   exact q.elim
  exact q.elim
 exact q.elim
variable{o e:xC}{es:List xC}{to:DE}{t:DA}{name:Str}{apos WD:Pos}{T id:String}{f:D->List D->DH->R D}
noncomputable def Sb(d:D)(G:DH):Bool:=match d with
 |.ref i=>match G[i]? with
  |some (.lst _)=>u6
  |_=>u7
 |.fl _=>u6
 |_=>u7
def Ck(f:D->List D->DH->R D)(o:DE)(t:DA):DE:=λS G=>(o S G).bind λx G1=>if Sb x G1=u6 then(t S G1).bind λxs G2=>f x xs G2 else .bad
theorem uA(s:VB a G)(r:XB a d x)(h:Sb d G=u6):tyV a.K "list" x a.H:=by
 cases d with
 |ref i=>
  unfold Sb at h;dsimp only at h;split at h
  .rename_i b g;cases r.2;exact .inl ⟨rfl,s.isList g⟩
  cases h
 |fl b=>
  obtain⟨p,c,rfl,q,_⟩:=r;exact .inl ⟨rfl,c,q.sq⟩
 |_=>cases h
def uB(m:Slot "list" name id)(p:typeOf (.builtin id)=pure (.type "method_descriptor"))(L:SV X id (E? X.K E f))(ho:QE X E o to)(N:QA X E (e::es) t)
  (i:xO o name X.env (eval o X.env)=eval o X.env:=by rfl)
  (l:((xP WD (vx (e::es) X.env)).all (λx=> !x.1)&&(xR WD (vV [] X.env)).all (λx=>x.1.isSome)
   && decide ((e::es).length+([]:List Keyword).length+(if([]:List Keyword).isEmpty then 0 else 1)<30))=u6:=by rfl)
  (j:(apos.endLine==WD.line)=u6:=by rfl) (C:vx (e::es) X.env=(u7,eval e X.env)::vx es X.env:=by rfl) (g:(xP WD (vx es X.env)).any (·.1)=u7:=by rfl):
  QE X E (.Call (.Attribute o name apos) (e::es) [] WD) (Ck f to t):=(rE PySem.F.plainAttrs_list m p L ho N i l j C g).mono λP H Q h=>by
 obtain⟨a,S,G,hk,rfl,s,r,h⟩:=h;refine⟨a,S,G,hk,rfl,s,r,(El h).imp ?_⟩;rintro v _ ⟨b,d,w,rfl,x,u,q,-,n⟩;split at n
 .rename_i M;have ty:=uA u q M;rw[x.k,hk]at ty;refine⟨ty,b,S,w,x.k.trans hk,rfl,u,r.mono x,(Kq n).imp ?_⟩;rintro O _ ⟨c,J,A,rfl,y,I,B,-,z⟩;exact⟨c,A,d,J,y.k.trans (x.k.trans hk),rfl,I,q.mono y,B,z⟩
 exact n.elim
end
inductive Ty where|WA|bl|int|str|tup|lst
noncomputable def Ty.name:Ty->String
 |.WA=>"NoneType" | .bl=>"bool" | .int=>"int" | .str=>"str" | .tup=>"tuple" | .lst=>"list"
noncomputable def TR(G:DH):D->Option Ty
 |.WA=>u4 .WA
 |.bl _=>u4 .bl
 |.int _=>u4 .int
 |.str _=>u4 .str
 |.tup _=>u4 .tup
 |.fl _=>u4 .lst
 |.ref i=>match G[i]? with
  |some (.lst _)=>u4 .lst
  |_=>u5
 |.ty _=>u5
noncomputable def Ty.sub(t:Ty):String->Option Bool
 |"int"=>u4 (match t with | .int=>u6 | .bl=>u6|_=>u7)
 |"bool"=>u4 (match t with | .bl=>u6|_=>u7)
 |"str"=>u4 (match t with | .str=>u6|_=>u7)
 |"tuple"=>u4 (match t with | .tup=>u6|_=>u7)
 |"list"=>u4 (match t with | .lst=>u6|_=>u7)
 |_=>u5
def Fo(ds:List D)(G:DH):R D:=match ds with
 | [d,.ty T]=>match TR G d with
  |some t=>match t.sub T with
   |some k=>.ok (.bl k) G
   |none=>.bad
  |none=>.bad
 |_=>.bad
def uC{K:za}{t:Ty}{T:String}{k:Bool}(h:t.sub T=u4 k):PySem.W.kitOne K (.type t.name) (.type T)=u4 k:=by
 unfold Ty.sub at h;split at h
 iterate 5 (cases t<;>cases h<;>rfl)
 cases h
section
variable{X:Cx}{E:XK}
def uD:WB X (.builtin "isinstance") (PR X.K E Fo):=by
 intro i s O H vs us Q I rs h;obtain⟨a,G,ds,hk,rfl,P,r,q⟩:=h;unfold Fo at q;split at q
 .rename_i d T;obtain⟨v,v',rfl,j,S⟩:=OU r;cases(S);obtain⟨u,J,rfl,m,F⟩:∃u J,us=[u,J]/\RelV v u/\RelV (.ty T) J:=by
   cases rs with
   |cons p q=>cases q with
    |cons Z q'=>cases q';exact⟨_,_,rfl,p,Z⟩
  cases(F);split at q
  .rename_i t g;split at q
   .rename_i k y;have f:∀B:Nat,EP X i O Q (.bool k) {s with toks:=B}:=λB=>⟨.bl k,a.H,I.tok _,rfl,q a _ (.refl a) P rfl⟩
    have e:=uC (K:=X.K) y;clear q y r;have L:∀(p:xA)(l:List V),NH X.K a.H p l->u=.ref p->t=.lst->vk (vY X.prog X.w) X.A (call (.builtin "isinstance") [u,.type T]) (EP X i O Q) X.xe s:=λp l x eu U=>by subst eu U;obtain⟨M,_,C,_⟩:=I.list x;exact qc PySem.W.kitx_list I.WG (let⟨o,e,c,_⟩:=C.isList;⟨o,e,c⟩) e (nofun) f
    cases d with
    |WA=>cases g;cases(j);cases m;exact qc PySem.W.kitx_none I.WG True.intro e (nofun) f
    |bl b=>cases g;cases(j);cases m;exact qc PySem.W.kitx_bool I.WG True.intro e (nofun) f
    |int b=>cases g;cases(j);obtain⟨B,rfl⟩:=m;exact qc PySem.W.kitx_int I.WG True.intro e (nofun) f
    |str b=>cases g;cases(j);obtain⟨B,rfl⟩:=m;exact qc PySem.W.kitx_str I.WG True.intro e (nofun) f
    |tup b=>
     cases g;obtain⟨p,l,rfl,x,_⟩:=j;cases m;rw[hk]at x;obtain⟨M,_,C,_⟩:=I.tuple x;exact qc PySem.W.kitx_tuple I.WG (let⟨o,e,c,_⟩:=C;⟨o,e,c⟩) e (nofun) f
    |fl b=>
     cases g;obtain⟨p,l,rfl,x,_⟩:=j;exact L p l (hk▸x.sq) m rfl
    |ref b=>
     unfold TR at g;dsimp only at g;split at g
     .rename_i xs hx;cases g;obtain⟨l,Y,_⟩:=P.lst hx;cases j.2;exact L _ l (.of Y) m rfl
     cases g
    |ty n=>cases g
   exact q.elim
  exact q.elim
 exact q.elim
end
noncomputable def Iz:List D->Option (List Int)
 |[]=>u4 []
 |.int i::r=>(Iz r).map (i::·)
 |_=>u5
noncomputable def K4:List D->Option (List Bool)
 |[]=>u4 []
 |.bl i::r=>(K4 r).map (i::·)
 |_=>u5
@[simp]theorem Xz(ns:List Int):Iz (ns.map D.int)=u4 ns:=by
 induction ns with
 |nil=>rfl
 |cons n ns a=>simp[Iz,a]
@[simp]theorem KQ(ns:List Bool):K4 (ns.map D.bl)=u4 ns:=by
 induction ns with
 |nil=>rfl
 |cons n ns a=>simp[K4,a]
theorem Vd:∀{xs:List D}{ns:List Int},Iz xs=u4 ns->xs=ns.map D.int
 |[],ns,h=>by cases h;rfl
 |.int i::r,ns,h=>by simp[Iz,zG]at h;obtain⟨b,a,rfl⟩:=h;rw[zy,Vd a]
 |.WA::r,ns,h | .bl _::r,ns,h | .str _::r,ns,h | .ty _::r,ns,h | .tup _::r,ns,h | .fl _::r,ns,h | .ref _::r,ns,h=>by simp[Iz]at h
theorem Yx:∀{xs:List D}{ns:List Bool},K4 xs=u4 ns->xs=ns.map D.bl
 |[],ns,h=>by cases h;rfl
 |.bl i::r,ns,h=>by simp[K4,zG]at h;obtain⟨b,a,rfl⟩:=h;rw[zy,Yx a]
 |.WA::r,ns,h | .int _::r,ns,h | .str _::r,ns,h | .ty _::r,ns,h | .tup _::r,ns,h | .fl _::r,ns,h | .ref _::r,ns,h=>by simp[K4]at h
def Ma(ds:List D)(G:DH):R D:=match ds with
 | [d]=>match Bd d G with
  |some xs=>match K4 xs with
   |some ns=>.ok (.bl (ns.all id)) G
   |none=>.bad
  |none=>.bad
 |_=>.bad
def Ln(ds:List D)(G:DH):R D:=match ds with
 | [d]=>match Bd d G with
  |some xs=>match K4 xs with
   |some ns=>.ok (.bl (ns.any id)) G
   |none=>.bad
  |none=>.bad
 |_=>.bad
section
variable{X:Cx}{E:XK}{vS:List (xA×Obj)}{σ:St}{s:xH}{H:Hp}
def Td(I:Inv X vS σ H s)(t:X.calm=u6)(h:NH X.K H p vs\/RH X.K H p vs)
  (n:∀(it:xA)(fp wr:List xA)(VA:List xL)(St:Nat->Heap->Prop)(d:xH),Vals vs VA->Walks X.prog X.w X.A.in1 it fp wr VA.toArray.size (λi v=>VA.toArray[i]?=u4 v) St->St 0 d.heap->(∀b∈fp,b<d.heap.objs.size)->
   (∀h' tk,(∀b o,b∉wr->d.heap.get? b=u4 o->h'.get? b=u4 o)->Inv X vS σ H {d with heap:=h',toks:=tk})->Q (.ref it) d):
  vk (vY X.prog X.w) X.A.in1 (pyIter (.ref p)) Q E' s:=by
 have m:X.A.in1.handled=u5:=I.ok.hd t;rcases h with h|h
 .obtain⟨VA,r,g,q⟩:=I.list h;refine wpAny_pyIter_list g.isList ?_;have hp:p<s.heap.objs.size:=by obtain⟨o,e,_⟩:=g.isList;exact zx e
  refine n _ _ _ VA _ _ r (.list m _ p (z9 hp) VA.toArray) ⟨⟨_,z6 _ rfl,rfl,rfl⟩,?_⟩ (λb f=>?_) λh' tk k=>?_
  .obtain⟨o,e,c⟩:=g.isList;exact⟨o,zZ _ e,c⟩
  .rw[q9];rcases zK.mp f with rfl|f
   .exact qV _
   have e:b=p:=by simpa using f
   subst e;exact qS hp
  refine I.kept λb o e=>k b o (λf=>?_) (zZ _ e)
  have j:b=s.heap.objs.size:=by simpa using f
  subst j;exact absurd (zx e) (qX _)
 obtain⟨VA,r,g,q⟩:=I.tuple h;refine wpAny_pyIter_tuple (g) ?_;have hp:p<s.heap.objs.size:=by obtain⟨o,e,_⟩:=g;exact zx e
 refine n _ _ _ VA _ _ r (.tuple m _ p (z9 hp) VA.toArray) ⟨⟨_,z6 _ rfl,rfl,rfl⟩,?_⟩ (λb f=>?_) λh' tk k=>?_
 .obtain⟨o,e,c⟩:=g;exact⟨o,zZ _ e,c⟩
 .rw[q9];rcases zK.mp f with rfl|f
  .exact qV _
  .have e:b=p:=by simpa using f
   subst e;exact qS hp
 .refine I.kept λb o e=>k b o (λf=>?_) (zZ _ e)
  have j:b=s.heap.objs.size:=by simpa using f
  subst j;exact absurd (zx e) (qX _)
theorem Zg:∀{ns:List Int}{vs:List V},OA a (ns.map D.int) vs->vs=ns.map V.int
 |[],vs,h=>h
 |n::ns,vs,h=>by
  obtain⟨v,r,e,c,b⟩:=h;cases(c);rw[e,Zg b]
  rfl
theorem aQ:∀{ns:List Bool}{vs:List V},OA a (ns.map D.bl) vs->vs=ns.map V.bl
 |[],vs,h=>h
 |n::ns,vs,h=>by
  obtain⟨v,r,e,c,b⟩:=h;cases(c);rw[e,aQ b]
  rfl
def all_range(ns:List Bool):(zQ ns.length).all (λi=>ns.getD i u6)=ns.all id:=by
 rw[Bool.eq_iff_iff,qw,qw];constructor
 .intro h b d;obtain⟨i,c,rfl⟩:=qj d;simpa[c]using h i (qK.mpr c)
 intro h i c;have a:=qK.mp c;simpa[a]using h ns[i] (qW a)
def any_range(ns:List Bool):(zQ ns.length).any (λi=>ns.getD i u6)=ns.any id:=by
 rw[Bool.eq_iff_iff,jC,jC];constructor
 .rintro⟨i,c,h⟩;have a:=qK.mp c;exact⟨ns[i],qW a,by simpa[a]using h⟩
 rintro⟨b,d,h⟩;obtain⟨i,c,rfl⟩:=qj d;exact⟨i,qK.mpr c,by simpa[c]using h⟩
def uE(z:X.calm=u6):WB X (.builtin "all") (PR X.K E Ma):=by
 intro m s U H S Y Q I C h;obtain⟨a,G,N,hk,rfl,n,r,q⟩:=h;unfold Ma at q;split at q
 .rename_i d;obtain⟨v,rfl,A⟩:=ZE r;split at q
  .rename_i T y;split at q
   .rename_i b o;cases Yx o;obtain⟨p,O,rfl,k,F⟩:=Hy n A y;cases aQ F;rw[hk]at k;obtain⟨u,rfl,f⟩:=vals1 C;cases f;refine call_all_walk (Td I z k λit fp wr VA St s₂ hv W st SX fin=>⟨it,fp,wr,VA.toArray.size,_,St,λi=>b.getD i u6,rfl,W,st,λi w M L P hw j=>?_,λB t J=>?_⟩)
    .have c:VA[i]?=u4 w:=by simpa using hw
     have g:i<(b.map V.bl).length:=by rw[hv.length];exact(zA.mp c).1
     have e:i<b.length:=by simpa using g
     obtain⟨u,l,f⟩:=hv.get (i:=i) (x:=V.bl b[i]) (by simp[e]);rw[c]at l;cases l;cases f;refine vN ?_;simpa[e]using j
    refine⟨.bl (b.all id),a.H,fin B t J,?_,q a _ (.refl a) n rfl⟩;have g:VA.toArray.size=b.length:=by rw[zq,<-hv.length];simp
    rw[g,all_range]
    rfl
   exact q.elim
  exact q.elim
 exact q.elim
def uF(z:X.calm=u6):WB X (.builtin "any") (PR X.K E Ln):=by
 intro m s U H S Y Q I C h;obtain⟨a,G,N,hk,rfl,n,r,q⟩:=h;unfold Ln at q;split at q
 .rename_i d;obtain⟨v,rfl,A⟩:=ZE r;split at q
  .rename_i T y;split at q
   .rename_i b o;cases Yx o;obtain⟨p,O,rfl,k,F⟩:=Hy n A y;cases aQ F;rw[hk]at k;obtain⟨u,rfl,f⟩:=vals1 C;cases f;refine call_any_walk (Td I z k λit fp wr VA St s₂ hv W st SX fin=>⟨it,fp,wr,VA.toArray.size,_,St,λi=>b.getD i u6,rfl,W,st,λi w M L P hw j=>?_,λB t J=>?_⟩)
    .have c:VA[i]?=u4 w:=by simpa using hw
     have g:i<(b.map V.bl).length:=by rw[hv.length];exact(zA.mp c).1
     have e:i<b.length:=by simpa using g
     obtain⟨u,l,f⟩:=hv.get (i:=i) (x:=V.bl b[i]) (by simp[e]);rw[c]at l;cases l;cases f;refine vN ?_;simpa[e]using j
    refine⟨.bl (b.any id),a.H,fin B t J,?_,q a _ (.refl a) n rfl⟩;have g:VA.toArray.size=b.length:=by rw[zq,<-hv.length];simp
    rw[g,any_range]
    rfl
   exact q.elim
  exact q.elim
 exact q.elim
end
section
variable{X:Cx}{vS:List (xA×Obj)}{σ:St}{H:Hp}{s:xH}
def aR(I:Inv X vS σ H s)(l:H a=u5)(v:X.s₀.heap.objs.size<=a)(t:a≠X.env.locals)(y:∀x c,X.env.cells.lookup x=u4 c->c≠a)(hp:∀p∈X.pn++vS,p.1≠a)
  (h:TC X.prog X.w (upd H a o) s.heap a o):Inv X vS σ (upd H a o) s:=by
 have f:∀b u,H b=u4 u->b≠a:=λb u e z=>by rw[z,l]at e;cases e
 refine⟨I.ok,I.os,I.bare,⟨I.base.keep,I.base.slot,λb i q n C=>?_,I.base.there,λb j q=>?_,λb i u q=>?_,λb A q=>?_⟩,I.loc,I.cell,?_,λx c e=>?_,λp d=>?_,λb u e=>?_,I.len⟩
 .rw[Ah (z9 (zj (zx q) v))];exact I.base.free b i q n C
 .have:=I.base.UJ b j q;rw[Ah (f _ _ this)];exact this
 .have:=I.base.OJ b i u q;rw[Ah (f _ _ this)];exact this
 .obtain⟨g,this⟩:=I.base.VJ b A q;exact⟨g,by rw[Ah (f _ _ this)];exact this⟩
 .rw[Ah (.symm t)];exact I.free
 .rw[Ah (y x c e)];exact I.Gn x c e
 .obtain⟨m,B,r⟩:=I.pin p d;exact⟨m,by rw[Ah (hp p d)];exact B,r⟩
 by_cases k:b=a
 .subst k;rw[Ek]at e;cases e;exact h
 .rw[Ah k]at e;exact(I.OB b u e).UI (λ_ _ _ q=>q) (λc q=>by rw[Ah (f _ _ q)];exact q) λc j q=>by rw[Ah (f _ _ q)];exact q
end
noncomputable def Ep(env:Env):List (Str×xE)->List (Str×xA)->List (Str×xA)
 |[],cs=>cs
 |(n,k)::r,cs=>if(k==NameKind.free)=u6 then Ep env r ((n,(env.cells.lookup n).getD 0)::cs)else Ep env r cs
def dA(h:∀y∈scope.names,y.2=.free->∃c,env.cells.lookup y.1=u4 c):closureFor scope env=pure (Ep env scope.names []):=by
 unfold closureFor;obtain⟨b,names,p,q⟩:=scope;have e:∀(names:List (Str×xE))(a:List (Str×xA)),(∀y∈names,y.2=.free->∃c,env.cells.lookup y.1=u4 c)->
   (forIn names a (λx r=>match x with
    |(name,b)=>if(b==NameKind.free)=u6 then(do let c<-cellOf env name;pure (.yield ((name,c)::r)))else pure (.yield r)):Sem (List (Str×xA)))=pure (Ep env names a):=by
  intro names
  induction names with
  |nil=>intro a _;rfl
  | cons y r j=>
   intro a f;obtain⟨n,k⟩:=y;rw[xw];by_cases hk:(k==NameKind.free)=u6
   .obtain⟨c,l⟩:=f (n,k) zW (by simpa using hk);have o:cellOf env n=pure c:=by unfold cellOf;rw[l]
    have i:Ep env ((n,k)::r) a=Ep env r ((n,c)::a):=by rw[Ep,if_pos hk,l];rfl
    rw[i,<-j ((n,c)::a) λg d=>f g (zJ _ d)];simp only[hk,if_true,o]
    rfl
   have i:Ep env ((n,k)::r) a=Ep env r a:=by rw[Ep,if_neg hk]
   rw[i,<-j a λg d=>f g (zJ _ d)];simp only[hk]
   rfl
 have:=e names [] h;exact congrArg (λm:Sem (List (Str×xA))=>m >>=λr=>pure r) this
theorem aS:∀{names:List (Str×xE)}{cs:List (Str×xA)},(∀y∈names,y.2=.free->∃c,env.cells.lookup y.1=u4 c)->(∀p∈cs,env.cells.lookup p.1=u4 p.2)->∀p∈Ep env names cs,env.cells.lookup p.1=u4 p.2
 |[],cs,_,a,p,hp=>a p hp
 | (n,k)::r,cs,d,a,p,hp=>by
  rw[Ep]at hp;split at hp
  .rename_i hk;obtain⟨c,e⟩:=d (n,k) zW (by simpa using hk);refine aS (λy b=>d y (zJ _ b)) (λq f=>?_) p hp;rcases zK.mp f with rfl|f
   .rw[e];rfl
   exact a q f
  exact aS (λy b=>d y (zJ _ b)) a p hp
theorem We:∀{names:List (Str×xE)}{cs:List (Str×xA)},((x,.free)∈names\/∃c,(x,c)∈cs)->∃c,(x,c)∈Ep env names cs
 |[],cs,h=>by
  rcases h with h|h
  .cases h
  exact h
 | (n,k)::r,cs,h=>by
  rw[Ep];split
  .refine We ?_;rcases h with h|⟨c,h⟩
   .rcases zK.mp h with e|h
    .cases e;exact .inr ⟨_,zW⟩
    exact .inl h
   exact .inr ⟨c,zJ _ h⟩
  rename_i hk;refine We ?_;rcases h with h|h
  .rcases zK.mp h with e|h
   .cases e;exact absurd rfl hk
   exact .inl h
  exact .inr h
theorem aT:∀{l:List (Str×xA)},(x,c)∈l->∃d,l.lookup x=u4 d
 |[],h=>by cases h
 |(y,d)::l,h=>by
  by_cases e:x=y
  .subst e;exact⟨d,by simp⟩
  rcases zK.mp h with z|h
  .cases z;exact absurd rfl e
  .obtain⟨a,q⟩:=aT h;exact⟨a,by rw[j0,beq_eq_false_iff_ne.mpr e];exact q⟩
theorem dB(x:Str):(relabel scope env).names.lookup x=(scope.names.lookup x).map λk=>if(k==NameKind.free&&env.scope.kind == .function&&env.kindOf x==u4 .cell)=u6 then .cell else k:=by
 unfold relabel;generalize scope.names=l
 induction l with
 |nil=>rfl
 | cons y r b=>
  obtain⟨n,k⟩:=y;by_cases e:x=n
  .subst e;simp only[zy]
   cases c:(k==NameKind.free&&env.scope.kind==ScopeKind.function&&env.kindOf x==u4 NameKind.cell) <;>
    simp only[c,if_true,j0,beq_self_eq_true,xk,j2,if_false]
  have a:=beq_eq_false_iff_ne.mpr e;simp only[zy];split
  .rw[j0,j0,a];exact b
  rw[j0,j0,a];exact b
def YJ(X:Cx)(N:List Str)(scope:xG)(C:xA)(s₀:xH)(H₀:Hp)(ex:List xA):Cx where
 prog:=X.prog
 w:=X.w
 K:=X.K
 mg:=X.mg
 base:=X.base
 A:=X.A
 N:=N
 s₀:=s₀
 H₀:=H₀
 env:=compEnvC scope (Ep X.env scope.names []) C X.env
 outer:=X.stack
 stack:=X.stack
 ex:=ex
 fn:=λ_=>u7
 calm:=X.calm
 pn:=[]
 xe:=λ_ _=>False
structure RF (X:Cx) (N:List Str) (scope:xG) (nt:Nat) (YA:List Nat):Prop where
 kind:scope.kind=.function
 names:∀y∈scope.names,y.2=.local->scope.names.lookup y.1=u4 .local
 PU:∀y∈scope.names,y.2≠ .cell
 free:∀y∈scope.names,y.2=.free->X.env.kindOf y.1=u4 .cell\/X.env.kindOf y.1=u4 .free
 nd:N.Nodup
 len:N.length=nt+YA.length
 cap:∀(k j:Nat),YA[k]?=u4 j->∃x,X.N[j]?=u4 x/\N[nt+k]?=u4 x/\scope.names.lookup x=u4 .free
section
variable{X:Cx}{vS:List (xA×Obj)}{σ:St}{H:Hp}{s:xH}{N:List Str}{scope:xG}{nt:Nat}{YA:List Nat}
def RF.cells(c:RF X N scope nt YA)(ok:X.Ok):∀y∈scope.names,y.2=.free->∃c,X.env.cells.lookup y.1=u4 c:=λy a hk=>ok.has y.1 (c.free y a hk)
def RF.cl(c:RF X N scope nt YA)(ok:X.Ok)(h:(Ep X.env scope.names []).lookup x=u4 d):X.env.cells.lookup x=u4 d:=
 aS (c.cells ok) (λp hp=>by cases hp) (x,d) (zd h)
def uG(c:RF X N scope nt YA)(I:Inv X vS σ H s){fp:List xA}(hf:∀b∈fp,VI X vS H b){C:xA}(hC:s.heap.objs.size<=C)(F?:C∉fp):(YJ X N scope C s H fp).Ok where
 mod:=I.ok.mod
 kind:=c.kind
 glob:=I.ok.glob
 blt:=I.ok.blt
 above:=hC
 inj:=λx y d h1 h2=>I.ok.inj x y d (c.cl I.ok h1) (c.cl I.ok h2)
 has:=λx h=>by
  have h':(relabel scope X.env).names.lookup x=u4 .cell\/(relabel scope X.env).names.lookup x=u4 .free:=h;rw[dB]at h';have Ps:scope.names.lookup x=u4 .free:=by
   cases e:scope.names.lookup x with
   |none=>rw[e]at h';rcases h' with h'|h'<;>cases h'
   |some k=>
    rw[e]at h';cases k with
    |free=>rfl
    |cell=>exact absurd rfl (c.PU _ (zd e))
    |_=>rcases h' with h'|h'<;>(simp at h')
  obtain⟨d,hd⟩:=We (.inl (zd Ps));exact aT hd
 MY:=λx d h=>by cases h
 hd:=I.ok.hd
 frames:=I.ok.frames
 M0:=.inl rfl
 Pf:=λb hb=>⟨λz=>F? (by rw[<-show b=C from z];exact hb),λx d h=>(hf b hb).2.2.2.2.1 x d (c.cl I.ok h)⟩
 bs:=I.bs
 RT:=z8 I.ok.RT I.sz
 PN:=λb o e hb=>by
  rcases(hf b hb).2.2.2.1 with h|h
  .exact I.ok.PN b o e h
  exact absurd (zj (zx (I.ok.bs b o e).1) h) (qX _)
 QN:=λb hb hz=>by
  rcases zK.mp (I.Vg b hz)with z|z
  .exact(hf b hb).2.1 z
  exact(hf b hb).2.2.1 z
 TH:=I.stack
 QV:=I.Tn
end
def Bv(g:DG)(c:DB)(te:DE)(S:RD):List D->DH->R (List D)
 |[],G=>.ok [] G
 | x::xs,G=>(g x S G).bind λS1 G1=>(c S1 G1).bind λk G2=>
   if k=u6 then(te S1 G2).bind λd G3=>(Bv g c te S xs G3).bind λds G4=>.ok (d::ds) G4 else Bv g c te S xs G2
def Fi(i:Nat)(g:DG)(c:DB)(te:DE)(S:RD):Nat->Nat->DH->R (List D)
 |0,j,G=>match G[i]? with
  |some (.lst xs)=>if xs.length<=j then .ok [] G else .bad
  |_=>.bad
 | n + 1,j,G=>match G[i]? with
  |some (.lst xs)=>match xs[j]? with
   | some x=>(g x S G).bind λS1 G1=>(c S1 G1).bind λk G2=>
     if k=u6 then(te S1 G2).bind λd G3=>(Fi i g c te S n (j+1) G3).bind λds G4=>.ok (d::ds) G4 else Fi i g c te S n (j+1) G2
   |none=>.ok [] G
  |_=>.bad
def Cz(f:Nat->DH->Option (Option D))(g:DG)(c:DB)(te:DE)(S:RD):Nat->Nat->DH->R (List D)
 |0,j,G=>match f j G with
  |some u5=>.ok [] G
  |_=>.bad
 | n + 1,j,G=>match f j G with
  |some (u4 x)=>(g x S G).bind λS1 G1=>(c S1 G1).bind λk G2=>
     if k=u6 then(te S1 G2).bind λd G3=>(Cz f g c te S n (j+1) G3).bind λds G4=>.ok (d::ds) G4 else Cz f g c te S n (j+1) G2
  |some u5=>.ok [] G
  |none=>.bad
noncomputable def Av(nt:Nat)(YA:List Nat)(S:RD):RD:=zV nt u5++YA.map λj=>(S[j]?).join
def Bt(it:DI)(nt:Nat)(YA:List Nat)(g:DG)(c:DB)(te:DE):DE:=λS G=>(it S G).bind λJ G1=>(match J with
 |.pure xs=>Bv g c te (Av nt YA S) xs G1
 |.mt i=>match G1[i]? with
  |some (.lst xs)=>Fi i g c te (Av nt YA S) xs.length 0 G1
  |_=>.bad
 |.fn n f=>Cz f g c te (Av nt YA S) n 0 G1).bind Ae
def Aw:DB:=λ_ G=>.ok u6 G
def GK(nt:Nat)(g:DG):Prop:=∀d S G S1 G1,g d S G=.ok S1 G1->∀i e,nt<=i->S[i]?=u4 (u4 e)->S1[i]?=u4 (u4 e)
def Ts(nt:Nat)(g:VY):Prop:=∀d S G S1 G1,g d S G=.ok S1 G1->∀i e,nt<=i->S[i]?=u4 (u4 e)->S1[i]?=u4 (u4 e)
def uH(h:i<nt):GK nt (gV i):=λd S G b f e j x k a=>by cases e;rw[jV (by lia)];exact a
theorem uI:Ts nt Ao:=λd S G b f e j x h a=>by
 cases d with
 |nil=>cases e;exact a
 |cons _ _=>cases e
theorem uL(l:GK nt t)(m:Ts nt u):Ts nt (Ab t u):=λd S G i h e j x k n=>by
 cases d with
 |nil=>cases e
 |cons a r=>
  have b:(t a S G).bind (λi h=>u r i h)=.ok i h:=e;cases f:t a S G with
  |ok p o=>rw[f]at b;exact m _ _ _ _ _ b j x k (l _ _ _ _ _ f j x k n)
  |_=>rw[f]at b;cases b
theorem uM(h:Ts nt t):GK nt (Ai n t):=λd S G k f e j x a b=>by
 cases d with
 |tup i=>
  unfold Ai at e;dsimp only at e;split at e
  .exact h _ _ _ _ _ e j x a b
  cases e
 |_=>cases e
theorem uN(h:out E a (r.bind f) Q):
  Ex E a r (λi H=>PR3 a H r i XC λb S G=>out E b (f S G) Q):=by
 cases r with
 |ok d G=>exact λb v x s q=>⟨b,d,G,rfl,x,s,q,rfl,out.mono x h⟩
 |_=>exact h
def R.bind_assoc{b d e:Type}(r:R b)(f:b->DH->R d)(g:d->DH->R e):(r.bind f).bind g=r.bind λa G=>(f a G).bind g:=by cases r<;>rfl
theorem dD(h:out E a (r.bind f) Q):
  outI E a r (λJ H=>PR3 a H r J WH λb d G=>out E b (f d G) Q):=by
 cases r with
 |ok d G=>exact λb v x s q=>⟨b,d,G,rfl,x,s,q,rfl,out.mono x h⟩
 |_=>exact h
section
variable{prog:xF}{w:xM}{A:xB}{R':Result->xH->Prop}{s:xH}
def XY(prog:xF)(w:xM)(A:xB)(target elt:xC)(ifs:List xC)(acc:xL)(env:Env)(P:xH->Prop)(v:xL)(s:xH):Prop:=
 vk (vY prog w) A (assign target env v) (λ_ s₂=>
  vk (vY prog w) A (forIn ifs u6 λc r=>if r=u6 then do let ok<-isTrue c env (eval c env);pure (ForInStep.yield ok)else pure (ForInStep.yield r)) (λok s₃=>
   if ok=u6 then vk (vY prog w) A (eval elt env) (λx s₄=>vk (vY prog w) A (call (.builtin "list.append") [acc,x]) (λ_ s₅=>P s₅) (λ_ _=>False) s₄) (λ_ _=>False) s₃
   else P s₃) (λ_ _=>False) s₂) (λ_ _=>False) s
def YY(prog:xF)(w:xM)(A:xB)(target elt:xC)(ifs:List xC)(it acc:xL)(env:Env)(R' P:xH->Prop)(s:xH):Prop:=
 vk (vY prog w) A (pyNext it) (λr s₁=>match r with
  |none=>R' s₁
  |some v=>vk (vY prog w) A (vW target it v) (λ_ s₁=>XY prog w A target elt ifs acc env P v s₁) (λ_ _=>False) s₁) (λ_ _=>False) s
theorem uO(I:Nat->xH->Prop)
  (i:∀n s,I n s->YY prog w A target elt ifs it acc env (R' (.ok .next)) (λs'=>∃m,m<n/\I m s') s)
  (n:Nat) (h:I n s):
  codeAny (vY prog w) A (.compLoop (.ListComp elt [⟨target,iter,ifs,0⟩] scope pos) 0 it acc env) R' s:=by
 refine codeAny_loop rfl I (λn s u=>?_) n h
 show vk _ A ((compTurn (.ListComp elt [⟨target,iter,ifs,0⟩] scope pos) 0 it acc env).onRaise (λx=>do noteFrame x env;theTreesLotGoes x)) _ _ s
 refine wpAny_noted ?_;rw[compTurn_list];refine vG ?_ (λ_ _ q=>q) (λ_ _(f:False)=>f.elim);refine vB (wpAny_standAt (vB (vG (i n s u) (λr p a=>?_) λ_ _ b=>b)));cases r with
 |none=>exact vL a
 | some v=>
  refine vB (vG a (λ_ k a=>?_) λ_ _ b=>b);refine vB (vG a (λ_ l j=>vB (vG j (λok s₃ h₃=>?_) λ_ _ b=>b)) λ_ _ b=>b);cases ok with
  |false=>exact vL ⟨rfl,h₃⟩
  |true=>
   exact vB (vB (vG h₃ (λx o d=>vB (vG d (λ_ t e=>vL (vL ⟨rfl,e⟩)) λ_ _ b=>b)) λ_ _ b=>b))
end
def WV(X:Cx)(E:XK)(ifs:List xC)(t:DB):Prop:=
 ∀(vS:List (xA×Obj))(s:xH)(σ:St)(H:Hp)(Q:Bool->Hp->Prop),Inv X vS σ H s->lB X.K E t σ H Q->
  vk (vY X.prog X.w) X.A (forIn ifs u6 λc r=>if r=u6 then do let ok<-isTrue c X.env (eval c X.env);pure (ForInStep.yield ok)else pure (ForInStep.yield r)) (TP X vS σ Q) X.xe s
def uP:WV X E [] Aw:=λb s e H Q I h=>by obtain⟨a,S,G,hk,rfl,d,r,h⟩:=h;exact wpAny_tests_nil ⟨a.H,I,h a (.refl a) d⟩
def uR(d:QT X E c t):WV X E [c] t:=λa s b H Q I h=>wpAny_tests_one (d a s b H Q I h)
section
variable{X:Cx}{E:XK}{N:List Str}{scope:xG}{nt:Nat}{YA:List Nat}{tg elt iter:xC}{ifs:List xC}{pos:Pos}{it:DI}{g:DG}{c:DB}{te:DE}
theorem uS(r:XC a S σ):XC a (Av nt YA S) (zV nt u5++YA.map λj=>(σ[j]?).join):=by
 refine⟨by simp[Av],λi d h=>?_⟩;unfold Av at h;by_cases f:i<nt
 .rw[zP (by simpa using f),jv]at h
  split at h<;>cases h
 rw[zC (by simpa using f),zw]at h;rw[zC (by simpa using f),zw];rw[xZ]at h⊢;cases e:YA[i-nt]? with
 |none=>rw[e]at h;cases h
 | some j=>
  rw[e]at h;have b:(S[j]?).join=u4 d:=by simpa using h
  have l:S[j]?=u4 (u4 d):=by
   cases q:S[j]? with
   |none=>rw[q]at b;cases b
   |some o=>
    rw[q]at b;have k:o=u4 d:=b;rw[k]
  obtain⟨v,m,n⟩:=r.get j d l;exact⟨v,by simp[m],n⟩
def uT(h:(Av nt YA S)[i]?=u4 (u4 d)):nt<=i:=by
 unfold Av at h;by_cases a:i<nt
 .rw[zP (by simpa using a),jv]at h
  split at h<;>cases h
 lia
def aU(hc:X.calm=u6)(cs:RF X N t nt YA)
  (hg:∀C s₀ H₀ ex,QG (YJ X N t C s₀ H₀ ex) E0 tg g) (gk:GK nt g) (Xs:∀C s₀ H₀ ex,WV (YJ X N t C s₀ H₀ ex) E0 ifs c) (he:∀C s₀ H₀ ex,QE (YJ X N t C s₀ H₀ ex) E0 elt te)
  {vS:List (xA×Obj)} {σ:St} {s:xH} {a:Wd} {S:RD} {G:DH} {J:It} {n0:Nat} {f:Nat->DH->Option (Option D)} {i0:xA} {fp:List xA} {tn:Nat->Heap->Prop} (I:Inv X vS σ a.H s) (hk:a.K=X.K) (sm:VB a G) (rS:XC a S σ)
  (T:Turn X.prog X.w X.K tg J fp i0 tn) (t0:tn 0 s.heap) (hf:∀b∈fp,VI X vS a.H b) (rJ:WH a (.fn n0 f) J) {Q:VK}
  (h:out E0 a ((Cz f g c te (Av nt YA S) n0 0 G).bind Ae) Q)
  {RR:xL->xA->Result->xH->Prop} {E':xL->xH->Prop}
  (x':∀(D C:xA)(s':xH)(b:Wd)(vs:List V),Inv X vS σ (upd b.H D (.lst vs)) s'->b.H D=u5->s.heap.objs.size<=C->D≠C->(∃m,s'.heap.Ns C m)->b.H C=u5->Q (.ref D) (upd b.H D (.lst vs))->RR (.ref D) C (.ok .next) s'):
  vk (vY X.prog X.w) X.A (newList []) (λF s₃=>vk (vY X.prog X.w) X.A (newFunctionEnv t X.env.globals (Ep X.env t.names []) [] X.env.qual u5 .none (u4 X.env)) (λQU s₄=>
   codeAny (vY X.prog X.w) X.A (.compStart (.ListComp elt [⟨tg,iter,ifs,0⟩] t pos) 0 (.ref i0) F {QU with scope:=relabel t X.env}) (RR F QU.locals) s₄) E' s₃) E' s:=by
 refine vH (wpAny_newFunctionEnv cs.PU (by intro y hy;simp at hy) (λh₁ QP W=>?_) cs.kind);dsimp only at QP W⊢;generalize hH2:s.heap.push {cls:=.type "list",dict:=u5,data:=.seq ([]:List xL).toArray}=H2 at QP W⊢;have hC:H2.objs.size=s.heap.objs.size+1:=by rw[<-hH2,q9]
 have y':s.heap.objs.size≠H2.objs.size:=by rw[hC];exact z9 (qV _)
 have T2:s.heap.objs.size<=H2.objs.size:=hC▸j3 _;have ZY:∀b∈fp,b<s.heap.objs.size:=λb hb=>by obtain⟨o,e,_⟩:=T.obj 0 _ t0 b hb;exact zx e
 have hDf:s.heap.objs.size∉fp:=λhm=>qX _ (ZY _ hm)
 have F?:H2.objs.size∉fp:=λhm=>by have:=ZY _ hm;rw[hC]at this;exact qX _ (Nat.lt_of_succ_lt this)
 have old:∀b o,s.heap.get? b=u4 o->h₁.get? b=u4 o:=λb o e=>
  W.extBut b o (by rw[hC];exact z9 (qS (zx e))) (zZ _ (hH2▸zZ _ e))
 have hacc:h₁.PlainList s.heap.objs.size ([]:List xL).toArray:=⟨_,W.extBut _ _ y' (zZ _ (hH2▸z6 _ rfl))⟩;generalize hCe:H2.objs.size=C at*;generalize hDe:s.heap.objs.size=M at*;let B:=YJ X N t C s a.H fp;have okB:=uG cs I hf (hDe▸T2) F?;let σ0:St:=.replicate nt u5++YA.map λj=>(σ[j]?).join
 have start:∀tk,Inv B [] σ0 a.H {s with heap:=h₁,toks:=tk}:=λtk=>by
  refine⟨okB,rfl,I.bare,Un.kept old,⟨_,QP,λi x v e1 e2 e3=>?_⟩,λx d' e=>?_,I.OB.fresh (hDe▸T2),λx d' e=>?_,λp hp=>?_,I.OB.kept old,?_⟩
  .have hi:nt<=i:=by
    by_cases hi:i<nt
    .have TX:=e2;rw[zP (by simpa using hi),jv]at TX
     split at TX<;>cases TX
    lia
   have TX:=e2;rw[zC (by simpa using hi),zw,xZ]at TX;cases ej:YA[i-nt]? with
   |none=>rw[ej]at TX;cases TX
   | some j=>
    rw[ej]at TX;have h1:(σ[j]?).join=u4 v:=by simpa using TX
    have h2:σ[j]?=u4 (u4 v):=by
     cases q:σ[j]? with
     |none=>rw[q]at h1;cases h1
     |some o=>
      rw[q]at h1;have h1':o=u4 v:=h1;rw[h1']
    obtain⟨y,ey,en,ek⟩:=cs.cap (i-nt) j ej;have exy:x=y:=by
     have:nt+(i-nt)=i:=by lia
     rw[this]at en;have e1':N[i]?=u4 x:=e1;rw[e1']at en;exact Option.some.inj en
    subst exy;have kx:=cs.free (x,.free) (zd ek) rfl;have vis:XW X.env.scope x:=by
     rcases kx with kx|kx
     .exact .inr (.inl kx)
     exact .inr (.inr kx)
    obtain⟨m,hn,hl⟩:=I.loc;obtain⟨u,ru,lk⟩:=hl j x v ey h2 vis;refine⟨u,ru,?_⟩;rcases lk with⟨k1,_⟩|⟨k1,c1,ec,A'⟩
    .rcases kx with kx|kx
     .rw[k1]at kx;cases kx
     rw[k1]at kx;cases kx
    refine .inr ⟨?_,c1,?_,?_⟩
    .show(relabel t X.env).names.lookup x=u4 .cell\/(relabel t X.env).names.lookup x=u4 .free;rw[dB,ek];simp only[xk];split
     .exact .inl rfl
     exact .inr rfl
    .obtain⟨d1,hd1⟩:=We (.inl (zd ek));obtain⟨d2,G?⟩:=aT hd1;have:=cs.cl I.ok G?;rw[ec]at this;cases this;exact G?
    .obtain⟨o,e,dd⟩:=A';exact⟨o,old _ _ e,dd⟩
  .obtain⟨v,o,e',dd⟩:=I.cell x d' (cs.cl I.ok e);exact⟨v,o,old _ _ e',dd⟩
  .exact I.Gn x d' (cs.cl I.ok e)
  .exact absurd hp (by simp[B,YJ])
  show σ0.length=N.length;rw[cs.len];simp[σ0]
 have young:∀b∈fp,b≠C:=λb hb z=>F? (z▸hb)
 have fpB:∀{H':Hp}{ps:List (xA×Obj)},(∀b∈fp,H' b=u5)->(∀p∈ps,p.1∉fp)->∀b∈fp,VI B ps H' b:=λ{H' ps}hn hps b hb=>
  ⟨hn b hb,young b hb,okB.QN b hb,.inl hb,λx d' e=>(hf b hb).2.2.2.2.1 x d' (cs.cl I.ok e),λp hp z=>by exact hps p (by simpa[B,YJ]using hp) (z▸hb)⟩
 have B':M∉PH X.stack:=λz=>by
  rcases zK.mp (I.Vg M z)with z|z
  .have:=I.lt;rw[hDe,<-z]at this;exact qX _ this
  exact I.Sf (hDe▸zY _) z
 have NS:∀{L:St}{H':Hp}{s':xH}{l:List xL}{nD:Nat},Inv B [] L H' s'->s'.heap.get? M=u4 {cls:=.type "list",data:=.seq l.toArray nD}->H' M=u5->Inv B [(M,{cls:=.type "list",data:=.seq l.toArray nD})] L H' s':=λ{L H' s' l nD}J e n=>
  J.Jj λp hp=>by
   have ep:p=(M,{cls:=.type "list",data:=.seq l.toArray nD}):=by simpa using hp
   subst ep;exact⟨e,n,y',B',λv' z=>by cases z⟩
 have fin:∀(s':xH)(b:Wd)(L:St)(l:List xL)(U:List D)(G':DH),Inv B [] L b.H s'->Ext a b->VB b G'->s'.heap.PlainList M l.toArray->b.H M=u5->(∃vs,Vals vs l/\OA b U vs)->out E0 b (Ae U G') Q->RR (.ref M) C (.ok .next) s':=by
  intro s' b L l U G' IB x sb pl hD ⟨vs,hv,rv⟩ hq;have hz:U.length<=1000000:=by
   unfold Ae at hq;split at hq
   .assumption
   exact hq.elim
  obtain⟨n,eD⟩:=pl;have ylt:∀{q:xA}{o:Obj},s.heap.get? q=u4 o->q≠M:=λe z=>by rw[z,<-hDe]at e;exact absurd (zx e) (qX _)
  have Ia:Inv X vS σ (upd b.H M (.lst vs)) s':=by
   refine aR (I.NY IB.os IB.base IB.OB IB.bare λb hb=>⟨(hf b hb).2.2.2.1,(hf b hb).2.1,(hf b hb).2.2.2.2.1,(hf b hb).2.2.2.2.2⟩) hD (by rw[<-hDe];exact I.sz) ?_ (λy c' ec=>?_) (λp hp=>?_) ⟨?_,l,n,hv,eD⟩
   .rw[<-hDe];exact jx I.lt
   .obtain⟨v,o,e,_⟩:=I.cell y c' ec;exact ylt e
   .exact ylt (I.pin p hp).1
   rw[<-rv.length];exact z8 hz ZC
  refine x' M C s' b vs Ia hD T2 y' (let⟨m,hn,_⟩:=IB.loc;⟨m,hn⟩) IB.free ?_;unfold Ae at hq;rw[if_pos hz]at hq;exact Io sb rv hq M hD
 have D':∀(P:xH->Prop)(rest:DH->R (List D))(s1:xH)(b:Wd)(G1:DH)(σ1:St)(l:List xL)(F:List D)(u:xL)(v:V)(x:D)(i:Nat),Inv B [] σ1 b.H s1->Ext a b->VB b G1->XC b (Av nt YA S) σ1->tn i s1.heap->(∀q∈fp,b.H q=u5)->
   s1.heap.PlainList M l.toArray->b.H M=u5->(∃vs,Vals vs l/\OA b F vs)->RelV v u->XB b x v->
   out E0 b (((g x (Av nt YA S) G1).bind λS1 G1=>(c S1 G1).bind λk G2=>if k=u6 then(te S1 G2).bind λd G3=>(rest G3).bind λU G4=>.ok (d::U) G4 else rest G2).bind λU G=>Ae (F++U) G) Q->
   (∀(s2:xH)(b2:Wd)(G2:DH)(Z:St)(ZR:List xL)(J':List D),Inv B [] Z b2.H s2->Ext a b2->VB b2 G2->XC b2 (Av nt YA S) Z->tn i s2.heap->(∀q∈fp,b2.H q=u5)->
    s2.heap.PlainList M ZR.toArray->b2.H M=u5->(∃vs,Vals vs ZR/\OA b2 J' vs)->out E0 b2 ((rest G2).bind λU G=>Ae (J'++U) G) Q->P s2)->
   XY X.prog X.w X.A tg elt ifs (.ref M) B.env P u s1:=by
  intro P rest s1 b G1 σ1 l F u v x i I1 x1 sb H? t1 SX pl hD MZ ru rx hq next
  rw[R.bind_assoc]at hq;obtain⟨nD,eD⟩:=id pl;let NS:List (xA×Obj):=[(M,{cls:=.type "list",data:=.seq l.toArray nD})];have NZ:∀{L:St}{H':Hp}{s':xH},Inv B (NS++Nh fp s1.heap) L H' s'->s'.heap.PlainList M l.toArray/\H' M=u5/\tn i s'.heap/\∀q∈fp,H' q=u5:=λ{L H' s'}J=>by
   have p1:=J.pin (M,{cls:=.type "list",data:=.seq l.toArray nD}) (zE _ (j9 _ (by simp[NS])));refine⟨⟨nD,p1.1⟩,p1.2.1,T.keep _ _ _ t1 λq O o e=>(J.pin (q,o) (zE _ (zE _ (Tt O e)))).1,λq O=>?_⟩;obtain⟨o,e,_⟩:=T.obj _ _ t1 q O;exact(J.pin (q,o) (zE _ (zE _ (Tt O e)))).2.1
  have I2:Inv B (NS++Nh fp s1.heap) σ1 b.H s1:=I1.Jj λp hp=>by
   rcases jP.mp hp with hp|hp
   .have e:p=(M,{cls:=.type "list",data:=.seq l.toArray nD}):=by simpa[NS]using hp
    subst e;exact⟨eD,hD,y',λz=>(B' z),λv' z=>by cases z⟩
   obtain⟨hb,e⟩:=bi hp;obtain⟨f0,f1,f2,_⟩:=fpB (ps:=[]) SX (λp hp=>by cases hp) p.1 hb;obtain⟨o,e',dd⟩:=T.obj _ _ t1 p.1 hb;rw[e]at e';cases e';exact⟨e,f0,f1,f2,dd⟩
  refine QB (hg C s a.H fp _ s1 σ1 b.H v u _ I2 ru ⟨b,Av nt YA S,G1,x,x1.k.trans hk,rfl,sb,H?,rx,(uN hq).imp λ_ _ z=>z⟩) ?_;rintro _ s2 ⟨Z,H2',J2,b2,S2,G2,rfl,y2,sb2,rS2,eg,hq2⟩;rw[R.bind_assoc]at hq2;have K':XC b2 (Av nt YA S) Z:=⟨by rw[H?.len,I1.len];exact J2.len.symm,λj e' hj=>rS2.get j e' (gk _ _ _ _ _ eg j e' (uT hj) hj)⟩
  refine QB (Xs C s a.H fp _ s2 Z b2.H _ J2 ⟨b2,S2,G2,y2.k.trans (x1.k.trans hk),rfl,sb2,rS2,(cV hq2).imp λ_ _ z=>z⟩) ?_;rintro k s3 ⟨H3,J3,b3,G3,rfl,y3,sb3,_,hq3⟩;cases k with
  |false=>
   obtain⟨p1,p2,p3,p4⟩:=NZ J3;obtain⟨vs,hv,rv⟩:=MZ
   exact next s3 b3 G3 Z l F (J3.Jj λp hp=>by cases hp) (x1.trans (y2.trans y3)) sb3 (K'.mono y3) p3 p4 p1 p2 ⟨vs,hv,(rv.mono y2).mono y3⟩ hq3
  | true=>
   have L':out E0 b3 (((te S2 G3).bind λd G3=>(rest G3).bind λU G4=>.ok (d::U) G4).bind λU G=>Ae (F++U) G) Q:=hq3;rw[R.bind_assoc]at L';refine QB (he C s a.H fp _ s3 Z b3.H _ J3 ⟨b3,S2,G3,y3.k.trans (y2.k.trans (x1.k.trans hk)),rfl,sb3,rS2.mono y3,(El L').imp λ_ _ z=>z⟩) ?_;rintro w s4 ⟨vw,H4,J4,YR,b4,d4,G4,rfl,y4,sb4,q4,_,hq4⟩;obtain⟨p1,p2,p3,p4⟩:=NZ J4;rw[R.bind_assoc]at hq4;have Y:out E0 b4 ((rest G4).bind λU G=>Ae ((F++[d4])++U) G) Q:=by
    have e:(λ(U:List D)(G:DH)=>(R.ok (d4::U) G).bind λU G=>Ae (F++U) G)=λU G=>Ae ((F++[d4])++U) G:=by funext U G;simp
    rw[<-e];exact hq4
   obtain⟨vs,hv,rv⟩:=MZ;have QL:l.toArray.size<=sizeLine:=by
    have:F.length<=1000000:=by
     cases hr:rest G4 with
     |ok U G5=>
      rw[hr]at Y;have hq5:out E0 b4 (Ae ((F++[d4])++U) G5) Q:=Y;unfold Ae at hq5;split at hq5
      .rename_i hl;simp at hl;lia
      exact hq5.elim
     |err e' G5=>rw[hr]at Y;exact(Y.1 rfl).elim
     |bad=>rw[hr]at Y;exact Y.elim
    rw[zq,<-hv.length,<-rv.length];exact z8 this ZC
   refine wpAny_list_append_plain p1 (λh' M' hsb=>?_) QL;have J5:Inv B [] Z b4.H {s4 with heap:=h'}:=by refine(J4.Jj λp hp=>by cases hp).turned (λq o O e=>(hsb.2 q O).trans e) p2 y' (.inr (by show s.heap.objs.size<=M;rw[hDe];exact zY _)) (λy c' ec=>?_) (λp hp=>absurd hp (by simp[B,YJ]));obtain⟨v',o,e,_⟩:=I.cell y c' (cs.cl I.ok ec);intro z;rw[z,<-hDe]at e;exact absurd (zx e) (qX _)
   refine next _ b4 G4 Z (l++[w]) (F++[d4]) J5 (x1.trans (y2.trans (y3.trans y4))) sb4 ((K'.mono y3).mono y4) (T.keep _ _ _ p3 λq O o e=>(hsb.2 q (λz=>hDf (z▸O))).trans e) p4 (by simpa using M') p2 ⟨vs++[vw],hv.append (.cons YR .nil),(((rv.mono y2).mono y3).mono y4).append (.cons q4 OA.nil)⟩ Y
 have loop:∀s₃:xH,s₃={s with heap:=h₁,toks:=s.toks+([]:List (Str×xL)).length}->
   codeAny (vY X.prog X.w) X.A (.compLoop (.ListComp elt [⟨tg,iter,ifs,0⟩] t pos) 0 (.ref i0) (.ref M) B.env) (RR (.ref M) C) s₃:=by
  rintro s₃ rfl;have walk:=rJ;obtain⟨Iv,hIv⟩:∃Iv:Nat->xH->Prop,∀m s',Iv m s'↔∃(i:Nat)(b:Wd)(G':DH)(L:St)(l:List xL)(F:List D),Inv B [] L b.H s'/\Ext a b/\VB b G'/\XC b (Av nt YA S) L/\tn i s'.heap/\(∀q∈fp,b.H q=u5)/\s'.heap.PlainList M l.toArray/\b.H M=u5/\(∃vs,Vals vs l/\OA b F vs)/\out E0 b ((Cz f g c te (Av nt YA S) m i G').bind λU G=>Ae (F++U) G) Q:=⟨_,λ_ _=>Iff.rfl⟩;refine uO Iv (λm s' h'=>?_) n0 ((hIv _ _).2 ⟨0,a,G,σ0,[],[],start _,Ext.refl a,sm,uS rS,T.keep _ _ _ t0 λq _ o e=>old q o e,λq hq=>(hf q hq).1,hacc,I.OB.fresh (hDe▸zY _),⟨[],.nil,rfl⟩,by simpa using h⟩)
  obtain⟨i,b,G',L,l,F,IB,x,sb,H?,ti,SX,pl,hD,hac,hq⟩:=(hIv _ _).1 h';clear h';obtain⟨nD,eD⟩:=pl;have I0:=NS IB eD hD;have f0:=fpB (ps:=[(M,{cls:=.type "list",data:=.seq l.toArray nD})]) SX (λp hp=>by
   have ep:p=(M,{cls:=.type "list",data:=.seq l.toArray nD}):=by simpa using hp
   subst ep;exact hDf)
  have stop:J.stop i b.H->out E0 b (Ae F G') Q->∀P,YY X.prog X.w X.A tg elt ifs (.ref i0) (.ref M) B.env (RR (.ref M) C (.ok .next)) P s':=by intro st O P;refine QB (T.done B rfl rfl rfl hc i _ s' L b.H _ I0 f0 ti st) ?_;rintro r s1 ⟨rfl,I2⟩;have pD:=(I2.pin (M,{cls:=.type "list",data:=.seq l.toArray nD}) (zE _ (by simp))).1;exact fin s1 b L l F G' (I2.Jj λp hp=>by cases hp) x sb ⟨nD,pD⟩ hD hac O
  cases m with
  |zero=>
   unfold Cz at hq;split at hq
   .rename_i hf;exact stop ((walk b x G' sb i).2 hf) (by have O:out E0 b (Ae (F++[]) G') Q:=hq;rw[qL]at O;exact O) _
   exact hq.elim
  | succ m=>
   unfold Cz at hq;split at hq
   .rename_i d1 hf;obtain⟨go,yl⟩:=(walk b x G' sb i).1 d1 hf;refine QB (T.item B rfl rfl rfl hc i _ s' L b.H _ I0 f0 ti go) ?_;rintro r s1 ⟨u,rfl,hgo⟩;refine QB hgo ?_;rintro _ s2 ⟨v,H',I2,ru,y,t2,hfp2⟩;obtain⟨cc,rfl,xx,ss,rd⟩:=yl v H' y;have pD:=I2.pin (M,{cls:=.type "list",data:=.seq l.toArray nD}) (zE _ (by simp));obtain⟨vs1,hv1,P2⟩:=hac;refine D' _ (λG3=>Cz f g c te (Av nt YA S) m (i+1) G3) s2 cc G' L l F u _ d1 (i+1) (I2.Jj λp hp=>by cases hp) (x.trans xx) ss (H?.mono xx) t2 hfp2 ⟨nD,pD.1⟩ pD.2.1 ⟨vs1,hv1,P2.mono xx⟩ ru rd (out.mono xx hq) ?_
    intro s3 b3 G3 σ3 its3 acc3 a1 a2 a3 a4 a5 a6 a7 a8 a9 a10;exact⟨m,qV _,(hIv _ _).2 ⟨i+1,b3,G3,σ3,its3,acc3,a1,a2,a3,a4,a5,a6,a7,a8,a9,a10⟩⟩
   .rename_i hf;exact stop ((walk b x G' sb i).2 hf) (by have O:out E0 b (Ae (F++[]) G') Q:=hq;rw[qL]at O;exact O) _
   exact hq.elim
 exact codeAny_compStart_list (loop _ rfl) (T.self _ 0 _ _ _ (T.keep _ _ _ t0 λq _ o e=>old q o e) (loop _ rfl))
theorem Ys{g:DG}{c:DB}{b:DE}{S:RD}{xs:List D}:∀(n j:Nat)(G:DH),j+n=xs.length->Bv g c b S (xs.drop j) G=Cz (λj _=>u4 xs[j]?) g c b S n j G
 |0,j,G,h=>by
  rw[qJ (by lia)]
  show _=(match u4 xs[j]? with |some u5=>R.ok [] G|_=>.bad)
  rw[z0 (by lia)]
  rfl
 |n+1,j,G,h=>by
  have a:j<xs.length:=by lia
  rw[qZ a]
  show(g xs[j] S G).bind _=(match u4 xs[j]? with |some (u4 x)=>_|some u5=>R.ok [] G|none=>.bad)
  rw[zX a];dsimp only
  congr 1
  funext l i
  congr 1
  funext k f;rw[Ys n (j+1) f (by lia)]
  congr 1
  congr 1
  funext d e;rw[Ys n (j+1) e (by lia)]
theorem dE{g:DG}{c:DB}{a:DE}:∀(n j:Nat)(G:DH),Fi i g c a S n j G=Cz (RX i) g c a S n j G
 | 0,j,G=>by
  unfold Fi Cz RX;cases G[i]? with
  |none=>rfl
  | some o=>
   cases o with
   |lst b=>
    dsimp only;by_cases d:j<b.length
    .rw[if_neg (by lia),zX d]
    rw[if_pos (by lia),z0 (by lia)]
   |_=>rfl
 | n+1,j,G=>by
  have e:(Fi i g c a S n (j+1))=Cz (RX i) g c a S n (j+1):=funext λG=>dE n (j+1) G
  unfold Fi Cz;rw[e];unfold RX;cases G[i]? with
  |none=>rfl
  | some o=>
   cases o with
   |lst b=>
    dsimp only
    cases b[j]?<;>rfl
   |_=>rfl
theorem dF(hc:X.calm=u6)(cs:RF X N scope nt YA)
  (hg:∀C s₀ H₀ ex,QG (YJ X N scope C s₀ H₀ ex) E0 tg g) (gk:GK nt g) (Xs:∀C s₀ H₀ ex,WV (YJ X N scope C s₀ H₀ ex) E0 ifs c) (he:∀C s₀ H₀ ex,QE (YJ X N scope C s₀ H₀ ex) E0 elt te)
  {vS:List (xA×Obj)} {σ:St} {s:xH} {a:Wd} {S:RD} {G:DH} {J:It} {d:TV} {i0:xA} {fp:List xA} {tn:Nat->Heap->Prop} (I:Inv X vS σ a.H s) (hk:a.K=X.K) (sm:VB a G) (rS:XC a S σ)
  (T:Turn X.prog X.w X.K tg J fp i0 tn) (t0:tn 0 s.heap) (hf:∀b∈fp,VI X vS a.H b) (rJ:WH a d J) {Q:VK}
  (h:out E0 a ((match d with
   |.pure xs=>Bv g c te (Av nt YA S) xs G
   |.mt i=>match G[i]? with
    |some (.lst xs)=>Fi i g c te (Av nt YA S) xs.length 0 G
    |_=>.bad
   |.fn n f=>Cz f g c te (Av nt YA S) n 0 G).bind Ae) Q)
  {RR:xL->xA->Result->xH->Prop} {E':xL->xH->Prop}
  (x':∀(D C:xA)(s':xH)(b:Wd)(vs:List V),Inv X vS σ (upd b.H D (.lst vs)) s'->b.H D=u5->s.heap.objs.size<=C->D≠C->(∃m,s'.heap.Ns C m)->b.H C=u5->Q (.ref D) (upd b.H D (.lst vs))->RR (.ref D) C (.ok .next) s'):
  vk (vY X.prog X.w) X.A (newList []) (λacc s₃=>vk (vY X.prog X.w) X.A (newFunctionEnv scope X.env.globals (Ep X.env scope.names []) [] X.env.qual u5 .none (u4 X.env)) (λQU s₄=>
   codeAny (vY X.prog X.w) X.A (.compStart (.ListComp elt [⟨tg,iter,ifs,0⟩] scope pos) 0 (.ref i0) acc {QU with scope:=relabel scope X.env}) (RR acc QU.locals) s₄) E' s₃) E' s:=by
 cases d with
 |pure xs=>
  have h':out E0 a ((Bv g c te (Av nt YA S) (xs.drop 0) G).bind Ae) Q:=h;rw[Ys xs.length 0 G (by lia)]at h';exact aU hc cs hg gk Xs he I hk sm rS T t0 hf (ci rJ) h' x'
 |mt k=>
  dsimp only at h;split at h
  .rename_i xs hx;rw[dE]at h;exact aU hc cs hg gk Xs he I hk sm rS T t0 hf (cm rJ) h x'
  exact h.elim
 |fn n0 f=>exact aU hc cs hg gk Xs he I hk sm rS T t0 hf rJ h x'
end
section
variable{X:Cx}{N:List Str}{scope:xG}{nt:Nat}{YA:List Nat}{tg elt iter:xC}{ifs:List xC}{pos:Pos}{it:DI}{g:DG}{c:DB}{te:DE}
def letGo{vS:List (xA×Obj)}{l:St}{H:Hp}{j s':xH}{h':Heap}{C:xA}{t':Nat}{i:St}{t:Hp}(f:Inv X vS i t j)(u:Inv X vS l H s')(h:j.heap.objs.size<=C)(n:H C=u5)(k:qI C s'.heap h'):Inv X vS l H {s' with heap:=h',toks:=t'}:=by
 have a:∀{b:xA}{o:Obj},j.heap.get? b=u4 o->b≠C:=λe z=>by rw[z]at e;exact absurd (zj (zx e) h) (qX _)
 refine u.turned (λb o r e=>(k.2 b r).trans e) n (jx (zj f.lt h)) (.inr (z8 f.sz h)) (λx s e=>?_) λp hp=>(a (f.pin p hp).1)
 .obtain⟨v,o,q,_⟩:=f.cell x s e;exact a q
def uU(L:X.calm=u6)(cs:RF X N scope nt YA)(U:QI X E0 tg iter it)
  (F:∀C e f i,QG (YJ X N scope C e f i) E0 tg g) (A:GK nt g) (n:∀C e f i,WV (YJ X N scope C e f i) E0 ifs c) (M:∀C e f i,QE (YJ X N scope C e f i) E0 elt te)
  (K:∀x,foldedSetIterable iter X.env x=pure x:=by intro _;rfl):QE X E0 (.ListComp elt [⟨tg,iter,ifs,0⟩] scope pos) (Bt it nt YA g c te):=by
 intro j s O H Q I h;obtain⟨a,S,G,hk,rfl,Y,r,h⟩:=h;rw[eval_ListComp];refine wpAny_comprehension_free rfl K (dA (cs.cells I.ok)) cs.kind cs.names (QB (U j s O a.H _ I ⟨a,S,G,hk,rfl,Y,r,(dD h).imp λ_ _ z=>z⟩) λxv s1 o=>QB o λw s2 y=>?_);obtain⟨i0,fp,tn,J,H2,rfl,u,T,P,B,b,d,G1,rfl,x,W,Z,_,o⟩:=y;refine dF L cs F A n M u (x.k.trans hk) W (r.mono x) T P B Z o ?_;intro D C s' b vs Ia hD l p ⟨m,v⟩ t E
 refine⟨m,v,λh' q=>⟨.ref D,_,letGo u Ia l ?_ q,rfl,E⟩⟩;rw[Ah (.symm p)];exact t
def u9(i:Nat){y:Str}{U n:Pos}(hc:X.calm=u6)(hN:X.N.Nodup)(cs:RF X N scope nt YA)(hi:QI X E0 tg iter it)
  (hg:∀C f j t,QG (YJ X N scope C f j t) E0 tg g) (gk:GK nt g) (A:∀C f j t,WV (YJ X N scope C f j t) E0 ifs c) (he:∀C f j t,QE (YJ X N scope C f j t) E0 elt te)
  (hy:X.N[i]?=u4 y:=by rfl) (hx:Loc X.env.scope y:=by first|exact Or.inl rfl|exact Or.inr rfl) (hf:X.fn y=u6\/X.env.scope.names.lookup y=u4 .local:=by first|exact .inl rfl|exact .inr rfl|assumption)
  (Q:swapsWith (.ListComp elt [⟨tg,iter,ifs,0⟩] scope pos) (u4 (.Name y U)) n.line X.env=pure u6:=by rfl)
  (hs:∀x,foldedSetIterable iter X.env x=pure x:=by intro _;rfl):QS X E0 (.Assign [.Name y U] (.ListComp elt [⟨tg,iter,ifs,0⟩] scope pos) n) (PD (Bt it nt YA g c te) (gV i)):=by
 intro u s σ H W I h;obtain⟨a,S,G,hk,rfl,sm,r,h⟩:=h;have h0:=G8 h;rw[exec_Assign_Name_used _ _ _ _ Q];refine vB (wpAny_standAt (vB ?_));refine vB (vG (wpAny_comprehension_free rfl hs (dA (cs.cells I.ok)) cs.kind cs.names
  (QB (hi u s σ a.H _ I ⟨a,S,G,hk,rfl,sm,r,(dD h0).imp λ_ _ z=>z⟩) λxv s1 F=>QB F λitv s2 h2=>?_)) (λ_ s' K=>vL (vL K)) λ_ _ e=>e)
 obtain⟨i0,fp,tn,J,H2,rfl,w,T,t0,f2,b,d,G1,rfl,x,sb,rJ,_,F⟩:=h2;refine dF hc cs hg gk A he w (x.k.trans hk) sb (r.mono x) T t0 f2 rJ F ?_;intro D C s' b' vs Ia hD l M ⟨m,Z⟩ P K;refine wpAny_assign_Name (bb Ia hN hy hx (v:=.ref D) rfl (λVS B E=>?_) hf);obtain⟨a',q,p⟩:=E;have L:C≠a':=by
  rintro rfl;rcases p with rfl|p
  .exact absurd (zj w.lt l) (qX _)
  obtain⟨v,o,e',_⟩:=w.cell _ _ p;exact absurd (zj (zx e') l) (qX _)
 refine⟨m,Z.sameBut q L,λh' O=>⟨_,_,letGo w B l ?_ O,?_⟩⟩
 .rw[Ah (.symm M)];exact P
 obtain⟨Y,d3,G3,e3,x3,s3,q3,_,h3⟩:=K;rw[<-e3];exact h3 Y _ (.refl Y) s3 ((r.mono x3).set i q3)
end
noncomputable def Hc:D->DH->R D
 |.int i,G=>.ok (.int (-i)) G
 |_,_=>.bad
def Hj:D->Bool
 |.WA=>u6
 |_=>u7
noncomputable def Im:D->D->DH->R D
 |d,.WA,G=>.ok (.bl (Hj d)) G
 |_,_,_=>.bad
noncomputable def Ip:D->D->DH->R D
 |d,.WA,G=>.ok (.bl (!Hj d)) G
 |_,_,_=>.bad
noncomputable def Tc:D->Option V
 |.WA=>u4 .WA
 |.bl b=>u4 (.bl b)
 |.int i=>u4 (.int i)
 |.str x=>u4 (.str x)
 |_=>u5
def Pn:List D->Option (List V)
 |[]=>u4 []
 |d::r=>match Tc d,Pn r with
  |some v,u4 vs=>u4 (v::vs)
  |_,_=>u5
def inD(d e:D)(G:DH):Option Bool:=match e with
 |.str j=>match d with
  |.str i=>u4 (!(xf j i 0 j.length 1).isEmpty)
  |_=>u5
 |e=>match Bd e G,Tc d with
  |some xs,u4 v=>(Pn xs).map λvs=>Ya v vs
  |_,_=>u5
def Jb(d e:D)(G:DH):R D:=match inD d e G with
 |some k=>.ok (.bl (!k)) G
 |none=>.bad
section
variable{X:Cx}{E:XK}{a b:xC}{ta tb:DE}{pos:Pos}
theorem ua:Sa X (unaryOp .USub) (lR1 X.K E Hc):=λc s f H x v Q I g h=>by
 obtain⟨a,G,d,hk,rfl,j,e,q⟩:=h;cases d with
 |int i=>exact oF c s f a.H x v Q I g ⟨i,e,q a _ (.refl a) j rfl⟩
 |_=>exact q.elim
def ub(ho:Sa X (unaryOp op) (lR1 X.K E f))(g:QE X E a ta):QE X E (.UnaryOp op a pos) (UO f ta):=(nw ho g).mono λj H Q h=>by obtain⟨a,S,G,hk,rfl,s,r,h⟩:=h;refine⟨a,S,G,hk,rfl,s,r,(El h).imp ?_⟩;rintro v _ ⟨b,d,c,rfl,x,i,q,-,e⟩;exact⟨b,c,d,x.k.trans hk,rfl,i,q,e⟩
def uc(d:Gl X x)(f:X.mg x=u5)(e:xU x=u4 (.type n))(c:x≠"__name__":=by decide)(g:(x==("__debug__":Str))=u7:=by decide):QE X E (.Name x pos) (dC (.ty n)):=
 (my (v:=.ty n) d f e rfl c g).mono λi H Q h=>Mv h λ_ _=>rfl
theorem dG{a:Wd}(c:XB a d x):decide (x=V.WA)=Hj d:=by
 cases d with
 |tup _|fl _=>obtain⟨p,e,rfl,_⟩:=c;rfl
 |ref _=>rw[c.2];rfl
 |_=>rw[c];rfl
theorem Sz:WC X (vJ .Is) (OH X.K E Im):=Fg oQ λa G d e x y Q hk s c f q=>by
 cases e with
 |WA=>exact⟨f,by rw[dG c];cases d<;>exact q a _ (.refl a) s rfl⟩
 |_=>cases d<;>exact q.elim
theorem ud:WC X (vJ .IsNot) (OH X.K E Ip):=Fg oR λa G d e x y Q hk s c f q=>by
 cases e with
 |WA=>exact⟨f,by rw[dG c];cases d<;>exact q a _ (.refl a) s rfl⟩
 |_=>cases d<;>exact q.elim
def dH{a:Wd}(r:XB a d x)(h:Tc d=u4 v):x=v/\Dc v=u6:=by
 cases d<;>first
  |(cases h;exact⟨r,rfl⟩)
  |cases h
theorem dI{a:Wd}:∀{c:List D}{xs vs:List V},OA a c xs->Pn c=u4 vs->xs=vs/\vs.all Dc=u6
 |[],xs,vs,r,h=>by cases h;exact⟨r,rfl⟩
 |d::c,xs,vs,r,h=>by
  obtain⟨x,o,rfl,i,j⟩:=r;unfold Pn at h;split at h
  .rename_i v n e g;cases h;obtain⟨f,k⟩:=dH i e;obtain⟨l,m⟩:=dI j g;subst f;subst l;exact⟨rfl,by rw[qO,k,m];rfl⟩
  cases h
theorem ue{a:Wd}(s:VB a G)(c:XB a d x)(f:XB a e y)(h:inD d e G=u4 k):
  (∃i j,x=.str i/\y=.str j/\k= !(xf j i 0 j.length 1).isEmpty)\/(∃p xs,y=.ref p/\(NH a.K a.H p xs\/RH a.K a.H p xs)/\Dc x=u6/\xs.all Dc=u6/\k=Ya x xs):=by
 have seq:(match Bd e G,Tc d with |some xs,u4 v=>(Pn xs).map λt=>Ya v t|_,_=>u5)=u4 k->(∃p xs,y=.ref p/\(NH a.K a.H p xs\/RH a.K a.H p xs)/\Dc x=u6/\xs.all Dc=u6/\k=Ya x xs):=λh=>by
  split at h
  .rename_i xs v l n;obtain⟨p,g,m,q,r⟩:=Hy s f l;obtain⟨A,B⟩:=dH c n;subst A;rw[zG]at h;obtain⟨C,u,w⟩:=h;obtain⟨o,z⟩:=dI r u;subst o;exact⟨p,g,m,q,B,z,w.symm⟩
  cases h
 cases e with
 |str j=>
  cases d with
  |str i=>exact .inl ⟨i,j,c,f,(Option.some.inj h).symm⟩
  |_=>cases h
 |tup xs|fl xs|ref i|_=>exact .inr (seq h)
def dJ:WC X (vJ .NotIn) (OH X.K E Jb):=Fg (oU.or qr) λa G d e x y Q hk s f l q=>by
 unfold Jb at q;split at q
 .rename_i k h;have z:=q a _ (.refl a) s rfl;rcases ue s f l h with⟨i,j,c,o,rfl⟩|⟨p,n,c,g,m,r,rfl⟩
  .exact .inl ⟨i,j,c,o,z⟩
  exact .inr ⟨p,n,c,by rw[<-hk];exact g,m,r,z⟩
 exact q.elim
end
def uf:xU "isinstance"=u4 (.builtin "isinstance"):=by decide +kernel
def ug:xU "all"=u4 (.builtin "all"):=by decide +kernel
def uh:xU "any"=u4 (.builtin "any"):=by decide +kernel
def ui:xU "max"=u4 (.builtin "max"):=by decide +kernel
def ul:xU "min"=u4 (.builtin "min"):=by decide +kernel
def um:xU "len"=u4 (.builtin "len"):=by decide +kernel
def uo:xU "int"=u4 (.type "int"):=by decide +kernel
def ur:xU "bool"=u4 (.type "bool"):=by decide +kernel
def ut:xU "str"=u4 (.type "str"):=by decide +kernel
def uu:xU "tuple"=u4 (.type "tuple"):=by decide +kernel
def dM:xU "list"=u4 (.type "list"):=by decide +kernel
def Mq:xE->Bool | .local=>u6|_=>u7
def Oa:xE->Bool | .cell=>u6|_=>u7
def O8:xE->Bool | .free=>u6|_=>u7
noncomputable def XV(p:xE->Bool):Option xE->Bool|some k=>p k|none=>u7
def vm(h:Mq k=u6):k=.local:=by cases k<;>first|rfl|cases h
def vp(h:Oa k=u6):k=.cell:=by cases k<;>first|rfl|cases h
def dN(h:O8 k=u6):k=.free:=by cases k<;>first|rfl|cases h
theorem Wa(hp:∀a,p a=u6->a=k)(h:XV p o=u6):o=u4 k:=by
 cases o with
 |none=>cases h
 |some a=>rw[hp _ h]
def U0(dn:List (Str×xE))(N0 N:List Str)(names:List (Str×xE))(nt:Nat)(YA:List Nat):Bool:=
 names.all (λy=>(!Mq y.2||XV Mq (names.lookup y.1)) && !Oa y.2&&(!O8 y.2||XV Oa (dn.lookup y.1)||XV O8 (dn.lookup y.1)))&&decide N.Nodup&&decide (N.length=nt+YA.length) &&
 (zQ YA.length).all λk=>match YA[k]? with
  |some j=>match N0[j]? with
   |some x=>decide (N[nt+k]?=u4 x)&&XV O8 (names.lookup x)
   |none=>u7
  |none=>u6
theorem dO{X:Cx}{N0 N:List Str}{a:xG}{nt:Nat}{YA:List Nat}{dn:List (Str×xE)}(hk:a.kind=.function:=by rfl)(f:∀x,X.env.kindOf x=dn.lookup x:=by intro _;rfl)(m:X.N=N0:=by rfl)
  (h:U0 dn N0 N a.names nt YA=u6:=by decide +kernel):RF X N a nt YA:=by
 unfold U0 at h;rw[z7,z7,z7]at h;obtain⟨⟨⟨g,n⟩,o⟩,l⟩:=h;rw[qw]at g l;have b:=λ(y:Str×xE)(c:y∈a.names)=>(by have:=g y c;rw[z7,z7]at this;exact this:((!Mq y.2||XV Mq (a.names.lookup y.1))=u6/\(!Oa y.2)=u6)/\(!O8 y.2||XV Oa (dn.lookup y.1)||XV O8 (dn.lookup y.1))=u6)
 refine⟨hk,λy c d=>?_,λy c d=>?_,λy c d=>?_,of_decide_eq_true n,of_decide_eq_true o,λk j i=>?_⟩
 .have:=(b y c).1.1;rw[d]at this;exact Wa (λ_ h=>vm h) (by have t:(u7||XV Mq (a.names.lookup y.1))=u6:=this;simpa using t)
 .have:=(b y c).1.2;rw[d]at this;exact absurd this (by decide)
 .have:=(b y c).2;rw[d,jG]at this;rw[f];rcases this with h|h
  .exact .inl (Wa (λ_ h=>vp h) (by have t:(u7||XV Oa (dn.lookup y.1))=u6:=h;simpa using t))
  exact .inr (Wa (λ_ h=>dN h) h)
 have:=l k (qK.mpr ((zA.mp i).1));rw[i]at this;dsimp only at this;cases e:N0[j]? with
 |none=>rw[e]at this;cases this
 |some x=>
  rw[e]at this;dsimp only at this;rw[z7]at this;exact⟨x,m▸e,of_decide_eq_true this.1,Wa (λ_ h=>dN h) this.2⟩
section
section
variable{X:Cx}{vS:List (xA×Obj)}{σ:St}{H:Hp}{s:xH}
def vr(I:Inv X vS σ H s)(h:H p=u4 (.lst xs)):∃o,Inv X vS σ (upd H p (.ND o (.lst xs))) s:=by
 obtain⟨j,a,n,r,e⟩:=I.OB p _ h;have f:∀b(u:HO),H b=u4 u->u≠ .lst xs->b≠p:=λb u q d z=>by subst z;rw[h]at q;exact d (Option.some.inj q).symm
 refine⟨_,I.un (H':=upd H p (.ND {cls:=.type "list",data:=.seq a.toArray n} (.lst xs))) ⟨λb o q _ _ _=>q,λb o q _ _ _=>⟨o.slots,q⟩,λb o q z _=>?_,λb o q _=>⟨o,q⟩,λb i q=>?_,λb o u q=>?_,λb l q=>⟨#[],?_⟩⟩ ?_⟩
 .rw[Ah (λk=>by subst k;rw[h]at z;cases z)];exact z
 .rw[Ah (f b _ q (by intro z;cases z))];exact q
 .rw[Ah (f b _ q (by intro z;cases z))];exact q
 .rw[Ah (f b _ q (by intro z;cases z)),Array.append_empty];exact q
 intro b u q;by_cases g:b=p
 .subst g;rw[Ek]at q;cases q;exact⟨e,j,a,n,r,e⟩
 .rw[Ah g]at q;exact(I.OB b u q).UI (λc v _ z=>z) (λc z=>by rw[Ah (f c _ z (by intro z;cases z))];exact z) λc i z=>by rw[Ah (f c _ z (by intro z;cases z))];exact z
def Fz(P:xA->Prop)(H H':Hp):Prop:=∀p,(H' p=H p/\(∀vs,H p=u4 (.lst vs)->¬P p))\/∃o vs,P p/\H p=u4 (.lst vs)/\H' p=u4 (.ND o (.lst vs))
theorem dP(I:Inv X vS σ H s)(m:Nat->xA)(n:Nat):∀k:Nat,∃H',Inv X vS σ H' s/\Fz (λp=>∃i,n<=i/\i<n+k/\p=m i) H H'
 |0=>⟨H,I,λp=>.inl ⟨rfl,λ_ _ ⟨i,g,l,_⟩=>by lia⟩⟩
 | k + 1=>by
  obtain⟨H',r,F⟩:=dP I m n k;have f:(∀a,H' (m (n+k))≠u4 (.lst a))->Fz (λp=>∃i,n<=i/\i<n+(k+1)/\p=m i) H H':=λw p=>by
   rcases F p with⟨e,z⟩|⟨o,a,⟨i,g,l,d⟩,b,h⟩
   .refine .inl ⟨e,λa b ⟨i,g,l,d⟩=>?_⟩;by_cases q:i<n+k
    .exact z a b ⟨i,g,q,d⟩
    have:i=n+k:=by lia
    subst this;subst d;exact w a (e.trans b)
   exact .inr ⟨o,a,⟨i,g,by lia,d⟩,b,h⟩
  cases j:H' (m (n+k))with
  |none=>exact⟨H',r,f λa z=>by rw[j]at z;cases z⟩
  | some u=>
   cases u with
   | lst a=>
    obtain⟨o,v⟩:=vr r j;refine⟨_,v,λp=>?_⟩;by_cases hp:p=m (n+k)
    .subst hp;rcases F (m (n+k))with⟨e,z⟩|⟨t,c,_,b,h⟩
     .exact .inr ⟨o,a,⟨n+k,by lia,by lia,rfl⟩,e.symm.trans j,Ek⟩
     rw[j]at h;cases h
    rcases F p with⟨e,z⟩|⟨t,c,⟨i,g,l,d⟩,b,h⟩
    .refine .inl ⟨(Ah hp)▸e,λc b ⟨i,g,l,d⟩=>?_⟩;by_cases q:i<n+k
     .exact z c b ⟨i,g,q,d⟩
     .have:i=n+k:=by lia
      subst this;exact hp d
    exact .inr ⟨t,c,⟨i,g,by lia,d⟩,b,(Ah hp)▸h⟩
   |_=>exact⟨H',r,f λa z=>by rw[j]at z;cases z⟩
end
noncomputable def Hd(f:D->Option D):List D->Option (List D)
 |[]=>u4 []
 |d::r=>match f d,Hd f r with
  |some d',u4 r'=>u4 (d'::r')
  |_,_=>u5
def Cm(G:DH)(n:Nat):Nat->D->Option D
 |0,_=>u5
 | k+1,d=>if PC n d=u6 then u4 d else match d with
  |.ref i=>match G[i]? with
   |some (.lst xs)=>(Hd (Cm G n k) xs).map .fl
   |_=>u5
  |.tup xs=>(Hd (Cm G n k) xs).map .tup
  |.fl xs=>(Hd (Cm G n k) xs).map .fl
  |_=>u5
open Classical in
def freeze(G:DH)(r:R D):R D:=match r with
 | .ok d G'=>if G'.take G.length=G then(match Cm G' G.length 9 d with
   |some d'=>.ok d' G
   |none=>.ok d G')else .ok d G'
 |r=>r
def Aj(t:DE):DE:=λS G=>freeze G (t S G)
structure QM (b c:Wd) (n:Nat):Prop where
 k:c.K=b.K
 n:c.n=n
 m:c.m=b.m
 tup:∀p xs,b.H p=u4 (.tup xs)->c.H p=u4 (.tup xs)
 ND:∀p o u,b.H p=u4 (.ND o u)->c.H p=u4 (.ND o u)
def QM.SY{b c:Wd}{n:Nat}(x:QM b c n){p:xA}{xs:List V}(h:RH b.K b.H p xs):RH c.K c.H p xs:=by
 rcases h with(h|⟨o,h⟩)|h
 .exact .inl (.inl (x.tup _ _ h))
 .exact .inl (.inr ⟨o,x.ND _ _ _ h⟩)
 exact .inr (x.k▸h)
def QM.TY{b c:Wd}{n:Nat}(x:QM b c n){p:xA}{xs:List V}(h:U1 b.K b.H p xs):U1 c.K c.H p xs:=by
 rcases h with⟨o,h⟩|⟨e,h⟩
 .exact .inl ⟨o,x.ND _ _ _ h⟩
 exact .inr ⟨e,x.k▸h⟩
mutual
theorem XB.Hf(x:QM b c n):∀{d:D}{v:V},XB b d v->PC n d=u6->XB c d v
 |.WA,_,h,_=>h
 |.bl _,_,h,_=>h
 |.int _,_,h,_=>h
 |.str _,_,h,_=>h
 |.ty _,_,h,_=>h
 |.tup g,v,h,q=>by obtain⟨p,a,e,t,r⟩:=h;simp only[_D.PC]at q;exact⟨p,a,e,x.SY t,OA.Hf x r q⟩
 |.fl g,v,h,q=>by obtain⟨p,a,e,t,r⟩:=h;simp only[_D.PC]at q;exact⟨p,a,e,x.TY t,OA.Hf x r q⟩
 |.ref i,v,h,q=>by obtain⟨l,e⟩:=h;simp only[_D.PC]at q;have f:=of_decide_eq_true q;exact⟨by rw[x.n];exact f,by rw[x.m];exact e⟩
theorem OA.Hf(x:QM b c n):∀{ds:List D}{vs:List V},OA b ds vs->XA n ds=u6->OA c ds vs
 |[],_,h,_=>h
 |d::ds,vs,h,q=>by obtain⟨v,r,e,f,a⟩:=h;simp only[_D.XA,z7]at q;exact⟨v,r,e,XB.Hf x f q.1,OA.Hf x a q.2⟩
end
theorem Uk(g:∀d d' v,f d=u4 d'->XB b d v->XB c d' v):∀{ds a:List D}{vs:List V},Hd f ds=u4 a->OA b ds vs->OA c a vs
 |[],a,vs,e,h=>by cases e;exact h
 |d::ds,a,vs,e,h=>by
  obtain⟨v,r,rfl,l,j⟩:=h;unfold Hd at e;split at e
  .rename_i d' m i k;cases e;exact⟨v,r,rfl,g _ _ _ i l,Uk g k j⟩
  cases e
theorem dQ(s:VB b G')(x:QM b c n)(hz:∀i,n<=i->i<b.n->∀vs,b.H (b.m i)=u4 (.lst vs)->∃o,c.H (b.m i)=u4 (.ND o (.lst vs))):∀(k:Nat)(d d':D)(v:V),Cm G' n k d=u4 d'->XB b d v->XB c d' v
 |0,d,d',v,e,h=>by cases e
 | k+1,d,d',v,e,h=>by
  have g:=dQ s x hz k;unfold Cm at e;split at e
  .rename_i f;cases e;exact h.Hf x f
  rename_i f;cases d with
  | ref i=>
   dsimp only at e;split at e
   .rename_i l z;rw[zG]at e;obtain⟨j,a,rfl⟩:=e;obtain⟨vs,y,w⟩:=s.obj i _ z;obtain⟨u,rfl⟩:=h;have q:n<=i:=by simp[_D.PC,decide_eq_true_eq]at f;lia
    obtain⟨o,A⟩:=hz i q u vs y;exact⟨_,vs,rfl,.inl ⟨o,A⟩,Uk g a w⟩
   cases e
  |tup l=>
   dsimp only at e;rw[zG]at e;obtain⟨j,a,rfl⟩:=e;obtain⟨p,vs,rfl,t,r⟩:=h;exact⟨p,vs,rfl,x.SY t,Uk g a r⟩
  |fl l=>
   dsimp only at e;rw[zG]at e;obtain⟨j,a,rfl⟩:=e;obtain⟨p,vs,rfl,t,r⟩:=h;exact⟨p,vs,rfl,x.TY t,Uk g a r⟩
  |_=>cases e
def dR{X:Cx}{vS:List (xA×Obj)}{Z:St}{sh:xH}{a b:Wd}{G O:DH}(s:VB a G)(hG:O.take G.length=G)(x:Ext a b)(J:VB b O)(I:Inv X vS Z b.H sh):
  ∃c:Wd,Inv X vS Z c.H sh/\Ext a c/\VB c G/\QM b c a.n/\∀(k:Nat)(d d':D)(v:V),Cm O G.length k d=u4 d'->XB b d v->XB c d' v:=by
 have L:∀i o,G[i]?=u4 o->O[i]?=u4 o:=λi o e=>by have w:=(zA.mp e).1;rw[<-hG,jA w]at e;exact e
 obtain⟨r,I',F⟩:=dP I b.m a.n (b.n-a.n);have S:a.n+(b.n-a.n)=b.n:=by have:=x.n;lia
 rw[S]at F;have P:∀p(u:HO),(∀g,u≠ .lst g)->b.H p=u4 u->r p=u4 u:=λp u nu e=>by
  rcases F p with⟨f,_⟩|⟨o,g,_,f,_⟩
  .exact f.trans e
  rw[e]at f;exact absurd (Option.some.inj f) (nu g)
 have l:∀p,ZI b.H p->ZI r p:=λp t=>t.mono (λp ps e=>P p _ (by intro _ z;cases z) e) λp o u e=>P p _ (by intro _ z;cases z) e
 have h:QM b ⟨b.K,a.n,b.m,r⟩ a.n:=⟨rfl,rfl,rfl,λp U e=>P p _ (by intro _ z;cases z) e,λp o u e=>P p _ (by intro _ z;cases z) e⟩;have B:∀i,i<a.n->r (b.m i)=b.H (b.m i):=λi w=>by
  rcases F (b.m i)with⟨f,_⟩|⟨o,g,⟨j,h1,Q,h3⟩,f,M⟩
  .exact f
  have:=J.inj i j (zj w x.n) Q h3;lia
 refine⟨⟨b.K,a.n,b.m,r⟩,I',⟨x.k,zY _,x.m,λp U e=>h.tup p U (x.tup p U e),λp o u e=>h.ND p o u (x.ND p o u e),λp t=>l p (x.tab p t)⟩,⟨s.len,λi j w hj=>J.inj i j (zj w x.n) (zj hj x.n),λi o e=>?_,λi w=>?_⟩,h,λk d d' v Y rb=>?_⟩
 .show RG ⟨b.K,a.n,b.m,r⟩ o (r (b.m i));rw[B i (s.lt e)];have q:=J.obj i o (L i o e);have N:=(s.obj i o e).M3;cases o with
  |lst ds=>obtain⟨g,f,y⟩:=q;exact⟨g,f,y.Hf h N⟩
  |WK kvs=>obtain⟨E,f,A,y⟩:=q;exact⟨E,f,A,y.Hf h N⟩
  |ins c fs=>obtain⟨C,T,E,W,f,A,y⟩:=q;exact⟨C,T,E,W,f,A,y.Hf h N⟩
  |tab C m=>obtain⟨c1,P1,f,t1⟩:=q;exact⟨c1,P1,f,l _ t1⟩
  |exc c fs=>
   obtain⟨C,oe,u,g,W,f,A,k2,z⟩:=q;refine⟨C,oe,u,g,W,f,A,k2,?_⟩;rcases z with z|⟨T,o,E,M,f2,k3,y⟩
   .exact .inl z
   exact .inr ⟨T,o,E,M,h.ND _ _ _ f2,k3,y.Hf h N⟩
  |gone=>trivial
 .show r (b.m i)≠u5;rw[B i w];exact J.tr i (zj w x.n)
 rw[s.len]at Y;refine dQ J h (λi h1 Q g e=>?_) k d d' v Y rb;rcases F (b.m i)with⟨f,z⟩|⟨o,MS,_,f,M⟩
 .exact absurd ⟨i,h1,Q,rfl⟩ (z g e)
 rw[e]at f;cases f;exact⟨o,M⟩
theorem vt(s:VB a G)(h:out E a (freeze G r) Q):
  out E a r λv H=>∀(vS:List (xA×Obj))(g:St)(j:xH),Inv X vS g H j->∃H',Inv X vS g H' j/\Q v H':=by
 cases r with
 | ok d n=>
  intro b v x f i vS g j I;unfold freeze at h;dsimp only at h;split at h
  .rename_i m;split at h
   .rename_i t l;obtain⟨c,k,q,p,u,o⟩:=dR s m x f I;exact⟨c.H,k,h c v q p (o _ _ _ _ l i)⟩
   exact⟨_,I,h b v x f i⟩
  exact⟨_,I,h b v x f i⟩
 |_=>exact h
def wl(k:QE X E e t):QE X E e (Aj t):=λb s d H Q I h=>by
 obtain⟨a,S,G,hk,rfl,c,r,h⟩:=h;refine QB (k b s d a.H _ I ⟨a,S,G,hk,rfl,c,r,vt (X:=X) c h⟩) λu j zz=>?_
 obtain⟨v,m,g,rv,q⟩:=zz;obtain⟨i,f,l⟩:=q b d j g;exact⟨v,i,f,rv,l⟩
theorem wm{X:Cx}{E:XK}{st:xI}{t:DE}{i:Nat}(Y:QS X E st (PD t (gV i))):QS X E st (PD (Aj t) (gV i)):=λg s o H W I h=>by
 obtain⟨a,S,G,hk,rfl,J,r,h⟩:=h;have Q:Br E a (PD t (gV i) S G) {W with nx:=λo H=>∀(g:List (xA×Obj))(F:xH),Inv X g o H F->∃C,Inv X g o C F/\W.nx o C}:=by
  unfold PD Aj at h;unfold PD;cases B:t S G with
  | ok d U=>
   rw[B]at h;intro b k x A n g F I;unfold freeze at h;dsimp only at h;split at h
   .rename_i hG;split at h
    .rename_i d' L;obtain⟨c,K,xc,N,cc,M⟩:=dR J hG x A I;refine⟨c.H,K,h c k xc N ⟨?_,λj e l=>?_⟩⟩
     .rw[jE,<-n.len,jE]
     rw[jY]at l;by_cases m:i=j
     .subst m;rw[if_pos rfl]at l;by_cases y:i<S.length
      .rw[if_pos y]at l;have Z:d'=e:=by simpa using l
       subst Z;obtain⟨v,w,rv⟩:=n.get i d (by rw[jY,if_pos rfl,if_pos y]);exact⟨v,w,M _ _ _ _ L rv⟩
      rw[if_neg y]at l;cases l
     .rw[if_neg m]at l;obtain⟨v,w,rv⟩:=n.get j e (by rw[jY,if_neg m];exact l);obtain⟨v',_,z⟩:=r.get j e l;exact⟨v,w,rv.Hf cc z.PC⟩
    exact⟨_,I,h b k x A n⟩
   exact⟨_,I,h b k x A n⟩
  |_=>rw[B]at h;exact h
 refine QB (Y g s o a.H _ I ⟨a,S,G,hk,rfl,J,r,Q⟩) λf T p=>?_
 cases f with
 |next=>
  obtain⟨k,C,I',q⟩:=p;obtain⟨H2,P,O⟩:=q g T I';exact⟨k,H2,P,O⟩
 |_=>exact p
end
section
variable{S:RD}{G:DH}
@[simp]theorem X6:dV i S G=(match S[i]? with |some (u4 d)=>.ok d G|_=>.bad):=id rfl
@[simp]theorem ev_C:dC d S G=.ok d G:=id rfl
@[simp]theorem ev_Op:UB f a b S G=(a S G).bind λx e=>(b S e).bind λy d=>f x y d:=id rfl
@[simp]theorem ev_Un:UO f a S G=(a S G).bind f:=id rfl
@[simp]theorem ev_Nil:Bm S G=.ok [] G:=id rfl
@[simp]theorem KR:Aq a r S G=(a S G).bind λx d=>(r S d).bind λxs b=>.ok (x::xs) b:=id rfl
@[simp]theorem ev_Fn:RA f t S G=(t S G).bind f:=id rfl
@[simp]theorem KS:Bx t S G=tidy G (t S G):=id rfl
@[simp]theorem ev_Frz:Aj t S G=freeze G (t S G):=id rfl
@[simp]theorem ev_asB:MU (.bl k) G=.ok k G:=id rfl
@[simp]theorem ev_Tst:Ax t S G=(t S G).bind MU:=id rfl
@[simp]theorem ev_And:Jq t u S G=(t S G).bind λk a=>if k=u6 then u S a else .ok u7 a:=id rfl
@[simp]theorem ev_Or:UN t u S G=(t S G).bind λk a=>if k=u6 then .ok u6 a else u S a:=id rfl
@[simp]theorem ev_Not:Gb t S G=(t S G).bind λk a=>.ok (!k) a:=id rfl
@[simp]theorem KU:Jx t u S G=(t S G).bind λx b=>(MU x b).bind λk a=>if k=u6 then u S a else .ok (.bl u7) a:=id rfl
@[simp]theorem ev_OrV:Rz t u S G=(t S G).bind λx b=>(MU x b).bind λk a=>if k=u6 then .ok (.bl u6) a else u S a:=id rfl
@[simp]theorem KW:Oj t S G=(t S G).bind λx b=>(MU x b).bind λk a=>.ok (.bl (!k)) a:=id rfl
@[simp]theorem ev_If:Y1 c t u S G=(c S G).bind λk a=>if k=u6 then t S a else u S a:=id rfl
@[simp]theorem KY:Jr f g a b c S G=(a S G).bind λx e=>(b S e).bind λy m=>(f x y m).bind λz h=>(MU z h).bind λk d=>
 if k=u6 then(c S d).bind λw o=>g y w o else .ok (.bl u7) d:=id rfl
@[simp]theorem ev_sNx:RL S G=.nx S G:=id rfl
noncomputable def SR.then(u:DS)(_:Fx u:=())(r:SR):SR:=match r with
 |.nx S1 G1=>u S1 G1
 |r=>r
@[simp]theorem Q9:Ad t u S G=(t S G).then u:=id rfl
@[simp]theorem Vi:(SR.nx S G).then u=u S G:=id rfl
@[simp]theorem KZ:(SR.rt d G).then u=.rt d G:=id rfl
@[simp]theorem K0:(SR.err x G).then u=.err x G:=id rfl
@[simp]theorem ev_sEx:ZF t S G=(t S G).toS λ_ a=>.nx S a:=id rfl
@[simp]theorem ev_sRt:QC t S G=(t S G).toS λd a=>.rt d a:=id rfl
@[simp]theorem ev_sIf:WI c t u S G=(c S G).toS λk a=>if k=u6 then t S a else u S a:=id rfl
@[simp]theorem ev_sAs:PD t g S G=(t S G).toS λd b=>(g d S b).toS λe a=>.nx e a:=id rfl
@[simp]theorem ev_sAu:Q2 i t f S G=(match S[i]? with
 |some (u4 x)=>(t S G).toS λy b=>(f x y b).toS λz a=>.nx (S.set i (u4 z)) a
 |_=>.bad):=id rfl
@[simp]theorem Kb:Bu it g b S G=(it S G).toS λJ a=>(match J with
 |.pure xs=>An g b xs S a
 |.mt i=>match a[i]? with
  |some (.lst xs)=>forM i g b xs.length 0 S a
  |_=>.bad
 |.fn n f=>Di f g b n 0 S a):=id rfl
@[simp]theorem wn:Dr t S G=(t S G).bind Ft:=id rfl
@[simp]theorem Ki:Bf f t S G=(t S G).bind f:=id rfl
@[simp]theorem By:gV i d S G=.ok (S.set i (u4 d)) G:=id rfl
@[simp]theorem Oc:Ao [] S G=.ok S G:=id rfl
@[simp]theorem Mg:Ab t u (d::r) S G=(t d S G).bind λb a=>u r b a:=id rfl
@[simp]theorem Mp:Ai n t (.tup ds) S G=if ds.length=n then t ds S G else .bad:=id rfl
@[simp]theorem ev_gIx:WY o i v S G=(o S G).bind λo b=>(i S b).bind λi a=>(Lj o i v a).bind λ_ d=>.ok S d:=id rfl
@[simp]theorem ev_MtL:Ck f o t S G=(o S G).bind λx a=>if Sb x a=u6 then(t S a).bind λxs b=>f x xs b else .bad:=id rfl
@[simp]theorem wo:Bt it nt YA g c te S G=(it S G).bind λJ a=>(match J with
 |.pure xs=>Bv g c te (Av nt YA S) xs a
 |.mt i=>match a[i]? with
  |some (.lst xs)=>Fi i g c te (Av nt YA S) xs.length 0 a
  |_=>.bad
 |.fn n f=>Cz f g c te (Av nt YA S) n 0 a).bind Ae:=id rfl
@[simp]theorem dS:Aw S G=.ok u6 G:=id rfl
@[simp]theorem Cd:NU (.nx S G) k=k S G:=id rfl
@[simp]theorem aft_rt:NU (.rt d G) k=.rt d G:=id rfl
@[simp]theorem wu:NU (.err x G) k=.err x G:=id rfl
def Cj:An g b [] S G=.nx S G:=id rfl
def Bs:An g b (x::xs) S G=(g x S G).toS λd a=>NU (b d a) (An g b xs):=id rfl
def aV:Bv g c te S (x::xs) G=(g x S G).bind λb e=>(c b e).bind λk a=>
   if k=u6 then(te b a).bind λd f=>(Bv g c te S xs f).bind λh m=>.ok (d::h) m else Bv g c te S xs a:=id rfl
noncomputable def SR.ret(r:SR):R D:=match r with
 |.nx _ G'=>.ok .WA G'
 |.rt d G'=>.ok d G'
 |.err x G'=>.err x G'
 |_=>.bad
@[simp]theorem xl:(SR.nx S G).ret=.ok .WA G:=id rfl
@[simp]theorem ret_rt:(SR.rt d G).ret=.ok d G:=id rfl
@[simp]theorem Kj:(SR.err x G).ret=.err x G:=id rfl
def Af:Al np nl b ds G=if ds.length=np then tidy G (b (ds.map u4++zV nl u5) G).ret else .bad:=id rfl
end
section
variable{n:Nat}{G:DH}
@[simp]theorem Kk:PC n .WA=u6:=by simp[_D.PC]
@[simp]theorem bel_bl:PC n (.bl b)=u6:=by simp[_D.PC]
@[simp]theorem xm:PC n (.int b)=u6:=by simp[_D.PC]
@[simp]theorem Kn:PC n (.str b)=u6:=by simp[_D.PC]
@[simp]theorem Kt:PC n (.tup b)=XA n b:=by simp[_D.PC]
@[simp]theorem bel_fl:PC n (.fl b)=XA n b:=by simp[_D.PC]
@[simp]theorem Kx:PC n (.ref b)=decide (b<n):=by simp[_D.PC]
@[simp]theorem LA:XA n []=u6:=by simp[_D.XA]
@[simp]theorem xo:XA n (d::ds)=(PC n d&&XA n ds):=by simp[_D.XA]
theorem xp:XA n ds=u6↔∀d∈ds,PC n d=u6:=by
 induction ds with
 |nil=>simp
 |cons d ds a=>simp[a]
@[simp]theorem xr:XA n (ds++es)=(XA n ds&&XA n es):=by
 induction ds with
 |nil=>simp
 |cons d ds a=>simp[a,Bool.and_assoc]
def Dy{a:Type}{f:a->D}{xs:List a}(h:∀x∈xs,PC n (f x)=u6):XA n (xs.map f)=u6:=by rw[xp];intro d b;obtain⟨x,e,rfl⟩:=zD.mp b;exact h x e
@[simp]theorem dU{xs:List Int}:XA n (xs.map D.int)=u6:=Dy λ_ _=>xm
def Az(h:PC G.length d=u6):tidy G (.ok d G)=.ok d G:=by unfold tidy;simp[h]
def K7(h:PC G.length d=u6):tidy G (.ok d (G++L))=.ok d G:=by unfold tidy;simp[h]
def aW(L:DH)(hk:L[k]?=u4 (.lst ds))(h:XA G.length ds=u6):tidy G (.ok (.ref (G.length+k)) (G++L))=.ok (.ref G.length) (G++[.lst ds]):=by
 unfold tidy;have e:(G++L)[G.length+k]?=u4 (.lst ds):=by rw[zC (by lia)];simpa using hk
 simp[e,M3,h]
def Cq{ds:List D}{L:DH}(h:XA G.length ds=u6):tidy G (.ok (.ref G.length) (G++ .lst ds::L))=.ok (.ref G.length) (G++[.lst ds]):=aW (.lst ds::L) (k:=0) rfl h
@[simp]theorem LB:tidy G (.err x G')=.err x G':=id rfl
def Hr(h:PC G.length d=u6):freeze G (.ok d G)=.ok d G:=by unfold freeze;simp[h,Cm]
theorem Od{n:Nat}:∀{a:List D},XA n a=u6->Hd (Cm G' n (k+1)) a=u4 a
 |[],_=>rfl
 |d::a,h=>by simp[xo,z7]at h;unfold Hd;rw[Od h.2];simp[Cm,h.1]
def xt(L:DH)(hk:L[k]?=u4 (.lst ds))(h:XA G.length ds=u6):freeze G (.ok (.ref (G.length+k)) (G++L))=.ok (.fl ds) G:=by
 unfold freeze;have e:(G++L)[G.length+k]?=u4 (.lst ds):=by rw[zC (by lia)];simpa using hk
 have m:Cm (G++L) G.length 9 (.ref (G.length+k))=u4 (.fl ds):=by unfold Cm;simp[e,Od h]
 simp[m]
def Dh{ds:List D}{L:DH}(h:XA G.length ds=u6):freeze G (.ok (.ref G.length) (G++ .lst ds::L))=.ok (.fl ds) G:=xt (.lst ds::L) (k:=0) rfl h
def Oz(L:DH)(k:Nat):(G++L)[G.length+k]?=L[k]? :=by rw[zC (by lia)];simp
def Bw(L:DH):(G++L)[G.length]?=L[0]? :=Oz L 0
def Vl(L:DH)(k:Nat)(o:DO):(G++L).set (G.length+k) o=G++L.set k o:=by rw[xX _ _ (by lia)];simp
def Dt(L:DH)(o:DO):(G++L).set G.length o=G++L.set 0 o:=Vl L 0 o
def Gs{a:Int}:Bb a 0=[]:=id rfl
def Fq{a:Int}{n:Nat}:Bb a (n+1)=.int a::Bb (a+1) n:=by
 unfold Bb;rw[qH,zy,qP]
 congr 1
 .simp
 apply qx;intro k _;simp only[Function.comp]
 congr 1
 lia
end
section
variable{G:DH}{i j:Int}{x y:Str}{k l:Bool}
@[simp]theorem ev_add:I8 (.int i) (.int j) G=.ok (.int (i+j)) G:=id rfl
@[simp]theorem ev_ip:Jk (.int i) (.int j) G=.ok (.int (i+j)) G:=id rfl
@[simp]theorem ev_sub:Mh (.int i) (.int j) G=.ok (.int (i-j)) G:=id rfl
def xu{n:Nat}(h:0<n)(a:n.log2<9000):Jp (.int i) (.int (n:Int)) G=.ok (.int (i/n)) G:=if_pos ⟨by lia,a⟩
def log2_small(h:n<10^100):n.log2<9000:=by
 by_cases a:n=0
 .subst a;decide
 rw[Nat.log2_lt a];exact Nat.lt_trans h (by decide)
@[simp]theorem LC{n:Nat}[NeZero n](h:n<10^100):Jp (.int i) (.int (no_index (OfNat.ofNat n))) G=.ok (.int (i/OfNat.ofNat n)) G:=
 if_pos ⟨Int.ofNat_lt.mpr (Nat.pos_of_ne_zero (NeZero.ne n)),log2_small h⟩
@[simp]theorem ev_mod:Ja (.int i) (.int j) G=if 0<j then .ok (.int (i%j)) G else .bad:=id rfl
@[simp]theorem ev_pow:R0 (.int i) (.int j) G=if 0<=j/\j<=1000000/\i.natAbs<18446744073709551616 then .ok (.int (i^j.toNat)) G else .bad:=id rfl
@[simp]theorem ev_lt:K1 (.int i) (.int j) G=.ok (.bl (decide (i<j))) G:=id rfl
@[simp]theorem ev_le:Jf (.int i) (.int j) G=.ok (.bl (decide (i<=j))) G:=id rfl
@[simp]theorem ev_gt:Nu (.int i) (.int j) G=.ok (.bl (decide (j<i))) G:=id rfl
@[simp]theorem ev_ge:Uh (.int i) (.int j) G=.ok (.bl (decide (j<=i))) G:=id rfl
@[simp]theorem ev_eq:Hb (.int i) (.int j) G=.ok (.bl (decide (i=j))) G:=id rfl
@[simp]theorem ev_ne:Gm (.int i) (.int j) G=.ok (.bl (!decide (i=j))) G:=id rfl
@[simp]theorem ev_eqS:Hb (.str x) (.str y) G=.ok (.bl (decide (x=y))) G:=id rfl
@[simp]theorem ev_neS:Gm (.str x) (.str y) G=.ok (.bl (!decide (x=y))) G:=id rfl
@[simp]theorem ev_neg:Hc (.int i) G=.ok (.int (-i)) G:=id rfl
@[simp]theorem ev_is:Im d .WA G=.ok (.bl (Hj d)) G:=by cases d<;>exact id rfl
@[simp]theorem LD:Ip d .WA G=.ok (.bl (!Hj d)) G:=by cases d<;>exact id rfl
@[simp]theorem LF:Hj .WA=u6:=id rfl
@[simp]theorem LG:Hj (.int i)=u7:=id rfl
@[simp]theorem LH:Hj (.tup ds)=u7:=id rfl
@[simp]theorem ev_max:Ol [.int i,.int j] G=.ok (.int (max i j)) G:=by
 show R.ok (D.int (if j>i then j else i)) G=_
 congr 2
 split <;> lia
@[simp]theorem ev_min:Jy [.int i,.int j] G=.ok (.int (min i j)) G:=by
 show R.ok (D.int (if j<i then j else i)) G=_
 congr 2
 split <;> lia
@[simp]theorem LI:Bd (.tup ds) G=u4 ds:=id rfl
@[simp]theorem LJ:Bd (.fl ds) G=u4 ds:=id rfl
@[simp]theorem aX:Bd (.ref n) G=(match G[n]? with |some (.lst xs)=>u4 xs|_=>u5):=id rfl
@[simp]theorem LK:Be [.tup ds] G=.ok (.int ds.length) G:=id rfl
@[simp]theorem LL:Be [.fl ds] G=.ok (.int ds.length) G:=id rfl
@[simp]theorem LM:Be [.ref n] G=(match G[n]? with |some (.lst xs)=>.ok (.int xs.length) G|_=>.bad):=by
 unfold Be;simp[aX];cases G[n]? with
 |none=>rfl
 |some o=>cases o<;>rfl
@[simp]theorem ev_ixT:Bj (.tup ds) (.int i) G=(match YC ds i with |some v=>.ok v G|none=>.bad):=id rfl
@[simp]theorem ev_ixF:Bj (.fl ds) (.int i) G=(match YC ds i with |some v=>.ok v G|none=>.bad):=id rfl
@[simp]theorem ev_ixR:Bj (.ref n) (.int i) G=(match G[n]? with |some (.lst xs)=>(match YC xs i with |some v=>.ok v G|none=>.bad)|_=>.bad):=by
 unfold Bj;simp[aX];cases G[n]? with
 |none=>rfl
 |some o=>cases o<;>rfl
def Hq{n k:Nat}(h:k<n):VT n (k:Int)=u4 k:=by unfold VT;rw[if_pos (by lia),if_pos (by lia)];simp
def yA{a:Type}{xs:List a}{k:Nat}{d:a}(h:xs[k]?=u4 d):YC xs (k:Int)=u4 d:=by unfold YC;rw[Hq (zA.mp h).1];exact h
def Df{a:Type}{xs:List a}{j:Int}{k:Nat}{d:a}(e:j=k)(h:xs[k]?=u4 d):YC xs j=u4 d:=by subst e;exact yA h
def dW{a:Type}{xs:List a}{j:Int}(b:j<0)(h: -(xs.length:Int)<=j):YC xs j=u4 (xs[(j+xs.length).toNat]'(by lia)):=by unfold YC VT;rw[if_neg (by lia),if_pos h];exact zX (by lia)
@[simp]theorem atI_0{b:Type}{a:b}{xs:List b}:YC (a::xs) 0=u4 a:=Df rfl rfl
@[simp]theorem atI_1{d:Type}{a b:d}{xs:List d}:YC (a::b::xs) 1=u4 b:=Df rfl rfl
@[simp]theorem atI_2{d:Type}{a b c:d}{xs:List d}:YC (a::b::c::xs) 2=u4 c:=Df rfl rfl
@[simp]theorem atI_3{e:Type}{a b c d:e}{xs:List e}:YC (a::b::c::d::xs) 3=u4 d:=Df rfl rfl
@[simp]theorem atI_4{f:Type}{a b c d e:f}{xs:List f}:YC (a::b::c::d::e::xs) 4=u4 e:=Df rfl rfl
@[simp]theorem atI_5{g:Type}{a b c d e f:g}{xs:List g}:YC (a::b::c::d::e::f::xs) 5=u4 f:=Df rfl rfl
@[simp]theorem atI_6{h:Type}{a b c d e f g:h}{xs:List h}:YC (a::b::c::d::e::f::g::xs) 6=u4 g:=Df rfl rfl
@[simp]theorem LN:Ag ds G=if ds.length<=1000000 then .ok (.tup ds) G else .bad:=id rfl
@[simp]theorem LO:Ae ds G=if ds.length<=1000000 then .ok (.ref G.length) (G++[.lst ds])else .bad:=id rfl
@[simp]theorem LP:Dj [.fl ds] G=.ok (.tup ds) G:=id rfl
@[simp]theorem LQ:Dj [.ref n] G=(match G[n]? with |some (.lst xs)=>.ok (.tup xs) G|_=>.bad):=by
 unfold Dj;simp[aX];cases G[n]? with
 |none=>rfl
 |some o=>cases o<;>rfl
@[simp]theorem ev_itT:Ft (.tup ds) G=.ok (.pure ds) G:=id rfl
@[simp]theorem ev_itF:Ft (.fl ds) G=.ok (.pure ds) G:=id rfl
@[simp]theorem LR:ZD [.int j] G=if inR j then .ok (.pure (Bb 0 j.toNat)) G else .bad:=id rfl
def Ef(a: -1000000000<=i)(h:i<=1000000000):inR i:=⟨by lia,by lia⟩
@[simp]theorem LS:Sb (.fl ds) G=u6:=id rfl
@[simp]theorem LU:Sb (.ref n) G=(match G[n]? with |some (.lst _)=>u6|_=>u7):=id rfl
@[simp]theorem ev_app:De (.ref n) [d] G=(match G[n]? with |some (.lst xs)=>if xs.length<1000000 then .ok .WA (G.set n (.lst (xs++[d])))else .bad|_=>.bad):=id rfl
@[simp]theorem LW:Lj (.ref n) (.int i) d G=(match G[n]? with |some (.lst xs)=>(match VT xs.length i with |some j=>.ok .WA (G.set n (.lst (xs.set j d)))|none=>.bad)|_=>.bad):=id rfl
@[simp]theorem ev_all{ks:List Bool}:Ma [.fl (ks.map D.bl)] G=.ok (.bl (ks.all id)) G:=by simp[Ma]
@[simp]theorem ev_any{ks:List Bool}:Ln [.fl (ks.map D.bl)] G=.ok (.bl (ks.any id)) G:=by simp[Ln]
@[simp]theorem LX:Fo [d,.ty "int"] G=(match TR G d with |some .int=>.ok (.bl u6) G|some .bl=>.ok (.bl u6) G|some _=>.ok (.bl u7) G|none=>.bad):=by
 unfold Fo;dsimp only;cases TR G d with
 |none=>rfl
 |some t=>cases t<;>rfl
@[simp]theorem LY:Fo [d,.ty "bool"] G=(match TR G d with |some .bl=>.ok (.bl u6) G|some _=>.ok (.bl u7) G|none=>.bad):=by
 unfold Fo;dsimp only;cases TR G d with
 |none=>rfl
 |some t=>cases t<;>rfl
@[simp]theorem LZ:Fo [d,.ty "tuple"] G=(match TR G d with |some .tup=>.ok (.bl u6) G|some _=>.ok (.bl u7) G|none=>.bad):=by
 unfold Fo;dsimp only;cases TR G d with
 |none=>rfl
 |some t=>cases t<;>rfl
@[simp]theorem L0:Fo [d,.ty "str"] G=(match TR G d with |some .str=>.ok (.bl u6) G|some _=>.ok (.bl u7) G|none=>.bad):=by
 unfold Fo;dsimp only;cases TR G d with
 |none=>rfl
 |some t=>cases t<;>rfl
end
section
variable{c:Prop}[Decidable c]
end
noncomputable def Fv(kvs:List (Key×D))(k:Key):Option D:=(kvs.find? λkv=>decide (kv.1=k)).map (·.2)
def putD(kvs:List (Key×D))(k:Key)(v:D):List (Key×D):=
 if(kvs.any λkv=>decide (kv.1=k))=u6 then kvs.map (λkv=>if kv.1=k then(kv.1,v)else kv)else kvs++[(k,v)]
noncomputable def Eb:D->Option Key
 |.int i=>u4 (.inl i)
 |.str x=>u4 (.inr x)
 |_=>u5
noncomputable def Ri(d:D)(G:DH):Option (List (Key×D)):=match d with
 |.ref i=>match G[i]? with
  |some (.WK kvs)=>u4 kvs
  |_=>u5
 |_=>u5
def yB(r:XB a d x)(h:Eb d=u4 k):x=kV k:=by
 cases d<;>first
  |(cases h;exact r)
  |cases h
def TB.nil:TB a [] []:=⟨rfl,rfl⟩
theorem TB.cons(h:TB a ((k,d)::kvs) us):∃v r,us=(k,v)::r/\XB a d v/\TB a kvs r:=by
 obtain⟨b,v,r,c,f,e⟩:=h;cases us with
 |nil=>cases c
 |cons p us=>
  obtain⟨q,w⟩:=p;simp[zy,List.cons.injEq]at b c;obtain⟨rfl,b⟩:=b;obtain⟨rfl,rfl⟩:=c;exact⟨w,us,rfl,f,b,e⟩
def TB.mk(h:XB a d v)(r:TB a kvs us):TB a ((k,d)::kvs) ((k,v)::us):=
 ⟨by simp[zy,r.1],.cons h r.2⟩
theorem TB.val:∀{b:List (Key×D)}{us:List (Key×V)},TB a b us->(Fv b k=u5/\Fj us k=u5)\/∃d v,Fv b k=u4 d/\Fj us k=u4 v/\XB a d v
 |[],us,h=>by obtain⟨c,_⟩:=h;have:=jD.mp c.symm;subst this;exact .inl ⟨rfl,rfl⟩
 |(q,d)::b,us,h=>by
  obtain⟨v,r,rfl,c,i⟩:=TB.cons h;by_cases e:q=k
  .exact .inr ⟨d,v,by simp[Fv,e],by simp[Fj,e],c⟩
  rcases TB.val i with⟨f,g⟩|⟨l,m,f,g,j⟩
  .exact .inl ⟨by simpa[Fv,qE,e]using f,by simpa[Fj,qE,e]using g⟩
  exact .inr ⟨l,m,by simpa[Fv,qE,e]using f,by simpa[Fj,qE,e]using g,j⟩
theorem TB.any:∀{b:List (Key×D)}{us:List (Key×V)},TB a b us->(b.any λc=>decide (c.1=k))=us.any λc=>decide (c.1=k)
 |[],us,h=>by
  obtain⟨e,_⟩:=h;have:=jD.mp e.symm;subst this
  rfl
 |(q,d)::b,us,h=>by obtain⟨v,r,rfl,e,f⟩:=TB.cons h;simp[jF,TB.any f]
theorem TB.XT(i:XB a d v):∀{b:List (Key×D)}{us:List (Key×V)},TB a b us->TB a (b.map λc=>if c.1=k then(c.1,d)else c) (us.map λc=>if c.1=k then(c.1,v)else c)
 |[],us,h=>by obtain⟨g,_⟩:=h;have:=jD.mp g.symm;subst this;exact .nil
 |(q,e)::b,us,h=>by
  obtain⟨w,r,rfl,g,j⟩:=TB.cons h;simp[zy];by_cases f:q=k
  .rw[if_pos f,if_pos f];exact .mk i (.XT i j)
  rw[if_neg f,if_neg f];exact .mk g (.XT i j)
def TB.put(h:TB a kvs us)(b:XB a d v):TB a (putD kvs k d) (putK us k v):=by
 unfold putD putK;rw[TB.any h];split
 .exact .XT b h
 exact⟨by simp[h.1],by have:=OA.append h.2 (.cons b (.nil));simpa using this⟩
theorem VB.WK(s:VB a G)(r:XB a d x)(h:Ri d G=u4 kvs):∃i us,d=.ref i/\i<a.n/\x=.ref (a.m i)/\G[i]?=u4 (.WK kvs)/\a.H (a.m i)=u4 (.dK us)/\TB a kvs us:=by
 cases d with
 |ref i=>
  unfold Ri at h;dsimp only at h;split at h
  .rename_i f b;cases h;obtain⟨us,e,c⟩:=s.obj i _ b;exact⟨i,us,rfl,r.1,r.2,b,e,c⟩
  cases h
 |_=>cases h
def J6(d e:D)(G:DH):R D:=match Ri d G,Eb e with
 |some kvs,u4 k=>match Fv kvs k with
  |some v=>.ok v G
  |none=>.bad
 |none,_=>Bj d e G
 |_,_=>.bad
section
variable{X:Cx}{E:XK}
def yC(hu:X.A.units+64<cLine):VM X (λx y H Q=>∃a v,x=.ref a/\TN H a y (u4 v)/\Q v H):=by
 intro value slice vS s σ H x y v u Q I rx ry h hs;obtain⟨a,w,rfl,g,q⟩:=h;obtain rfl:v=Value.ref a:=rx;have hT:=r6 I g;unfold subscriptTail;refine vB ?_;rw[getitemInPython_of_ne hT.not_modules];refine vB (wpAny_specialOf hT PySem.F.slot_dict_getitem.lookup ?_);have fin:vk (vY X.prog X.w) X.A (subscripted slice u7 (.ref a) u) (λr s₃=>vk (vY X.prog X.w) X.A (letTemporaryGo value (.ref a) r >>=λ_=>pure r) (EP X vS σ Q) X.xe s₃) X.xe s:=by
  rw[hs];exact wpAny_operating (rX (by lia) I g ry λw' s3 I3 YR=>vB (wpAny_letTemporaryGo (vL ⟨w,H,I3,YR,q⟩)))
 first
  |exact vL (vB fin)
  |exact vB (vL (vB fin))
  |exact vB fin
def yD(s:VB a G)(f:XB a d x)(q:XB a e y)(h:Ri d G=u4 kvs)(l:Eb e=u4 k):
  ∃p,x=.ref p/\((Fv kvs k=u5/\TN a.H p y u5)\/∃v w,Fv kvs k=u4 v/\XB a v w/\TN a.H p y (u4 w)):=by
 obtain⟨i,u,rfl,A,rfl,z,t,r⟩:=s.WK f h;have j:=yB q l;subst j;refine⟨a.m i,rfl,?_⟩;have g:=TN.k (k:=k) t;rcases r.val with⟨b,c⟩|⟨v,w,b,c,o⟩
 .exact .inl ⟨b,by rw[c]at g;exact g⟩
 exact .inr ⟨v,w,b,o,by rw[c]at g;exact g⟩
def dX(l:X.A.units+64<cLine):VM X (OH X.K E J6):=(Sr.or (yC l)).mono λx y H Q h=>by
 obtain⟨a,G,d,e,hk,rfl,s,c,f,q⟩:=h;unfold J6 at q;split at q
 .rename_i i k j m;obtain⟨p,rfl,⟨b,_⟩|⟨v,w,b,o,g⟩⟩:=yD s c f j m
  .rw[b]at q;exact q.elim
  rw[b]at q;exact .inr ⟨p,w,rfl,g,q a w (.refl a) s o⟩
 .exact .inl ⟨a,G,d,e,hk,rfl,s,c,f,q⟩
 exact q.elim
def Ext.I?(h:a.H p=u4 (.dK us)):Ext a (a.put p ho):=
 ⟨rfl,zY _,λ_ _=>rfl,λq c e=>by
  show upd a.H p ho q=_;rw[Ah (λz=>by subst z;rw[h]at e;cases e)];exact e,λq o u e=>by
  show upd a.H p ho q=_;rw[Ah (λz=>by subst z;rw[h]at e;cases e)];exact e,λ_ t=>t.mono (λq b e=>by show upd a.H p ho q=_;rw[Ah (λz=>by subst z;rw[h]at e;cases e)];exact e) (λq o u e=>by show upd a.H p ho q=_;rw[Ah (λz=>by subst z;rw[h]at e;cases e)];exact e)⟩
def VB.I?(s:VB a G)(c:i<a.n)(h:a.H (a.m i)=u4 (.dK us))(r:TB (a.put (a.m i) (.dK ML)) kvs' ML):VB (a.put (a.m i) (.dK ML)) (G.set i (.WK kvs')):=by
 refine⟨by rw[jE];exact s.len,s.inj,λj o e=>?_,λj d=>?_⟩
 .rw[jY]at e;show RG _ o (upd a.H (a.m i) (.dK ML) (a.m j));by_cases b:i=j
  .subst b;rw[if_pos rfl,if_pos (s.len▸c)]at e;cases e;rw[Ek];exact⟨ML,rfl,r⟩
  rw[if_neg b]at e;rw[Ah λz=>b (s.inj _ _ (s.lt e) c z).symm];exact(s.obj j o e).mono (.I? h)
 show upd a.H (a.m i) (.dK ML) (a.m j)≠u5;by_cases b:a.m j=a.m i
 .rw[b,Ek];simp
 rw[Ah b];exact s.tr j d
end
section
variable{S:RD}{G:DH}{n:Nat}{kvs:List (Key×D)}
@[simp]theorem L1:Ri (.ref n) G=(match G[n]? with |some (.WK a)=>u4 a|_=>u5):=id rfl
def yE(h:G[n]?=u4 (.WK kvs))(hk:Eb e=u4 k):J6 (.ref n) e G=(match Fv kvs k with |some v=>.ok v G|none=>.bad):=by unfold J6;simp[h,hk]
end
noncomputable def TL:Nat->D->Bool
 |0,_=>u7
 |_+1,.WA=>u6
 |_+1,.int _=>u6
 |_+1,.str _=>u6
 |n+1,.tup ds=>ds.all (TL n)
 |n+1,.fl ds=>ds.all (TL n)
 |_+1,_=>u7
theorem aY{f:D->D->Option Bool}{P:D->Prop}(e:∀x y,P x->P y->∃b,f x y=u4 b/\(b=u6↔x=y)):∀{xs ys:List D},(∀x∈xs,P x)->(∀y∈ys,P y)->
  ∃b,UY f xs ys=u4 b/\(b=u6↔xs.take ys.length=ys.take xs.length)
 |[],ys,_,_=>⟨u6,by cases ys<;>rfl,by simp⟩
 |x::xs,[],_,_=>⟨u6,rfl,by simp⟩
 |x::xs,y::ys,g,d=>by obtain⟨b,i,h⟩:=e x y (g x (by simp)) (d y (by simp));obtain⟨c,k,j⟩:=aY e (λz a=>g z (zJ _ a)) (λz a=>d z (zJ _ a));refine⟨b&&c,by simp[UY,i,k],?_⟩;simp[h,j]
theorem dY{G:DH}:∀(n:Nat)(d e:D),TL n d=u6->TL n e=u6->∃b,VN n G d e=u4 b/\(b=u6↔d=e)
 |0,d,e,h,_=>by cases h
 | n+1,d,e,f,a=>by
  have o:=dY (G:=G) n;cases d with
  |bl _|ty _|ref _=>simp[TL]at f
  | tup l=>
   cases e with
   |bl _|ty _|ref _=>simp[TL]at a
   |tup m=>
    simp[TL,qw]at f a;obtain⟨b,j,k⟩:=aY o (λx g=>f x g) (λx g=>a x g);refine⟨b&&l.length==m.length,by simp[VN,view,j],?_⟩;simp[z7,k,beq_iff_eq,D.tup.injEq];constructor
    .rintro⟨e,c⟩;rw[<-c,xV]at e;rw[e,c,xV]
    rintro rfl;exact⟨rfl,rfl⟩
   |_=>exact⟨u7,by simp[VN,view],by simp⟩
  | fl l=>
   cases e with
   |bl _|ty _|ref _=>simp[TL]at a
   |fl m=>
    simp[TL,qw]at f a;by_cases c:l.length=m.length
    .obtain⟨b,j,k⟩:=aY o (λx g=>f x g) (λx g=>a x g);refine⟨b,by simp[VN,view,c,j],?_⟩;rw[k,<-c,xV,c,xV];simp
    exact⟨u7,by simp[VN,view,c],by simp;rintro rfl;exact c rfl⟩
   |_=>exact⟨u7,by simp[VN,view],by simp⟩
  |_=>cases e<;>first|(simp[TL]at a;done)|exact⟨_,rfl,by simp[NR]⟩
def W4(h:∀d∈ds,TL n d=u6):TL (n+1) (.tup ds)=u6:=by simpa[TL]using h
def cutD{α:Type}(xs:List α)(lo hi:Option Int):List α:=(xs.drop (HT.ZB xs.length 0 lo)).take (HT.ZB xs.length xs.length hi-HT.ZB xs.length 0 lo)
def R4(z:Str)(lo hi:Option Int):Str:=⟨(cutD z.cps.toList lo hi).toArray⟩
def L2{b:Type}(xs:List b)(a c:Option Int):(cutD xs a c).length<=xs.length:=by unfold cutD;rw[jB,xJ];lia
def J1(t:Option DE)(S:RD)(G:DH):R (Option Int):=match t with
 |none=>.ok u5 G
 |some t=>(t S G).bind λd G1=>match d with
  |.int i=>.ok (u4 i) G1
  |_=>.bad
def Kl(d:D)(lo hi:Option Int)(G:DH):R D:=match d with
 |.str z=>if z.length<=1000000 then .ok (.str (R4 z lo hi)) G else .bad
 |.tup xs=>.ok (.tup (cutD xs lo hi)) G
 |d=>match G7 d G with
  |some xs=>.ok (.ref G.length) (G++[.lst (cutD xs lo hi)])
  |none=>.bad
def OZ(e:DE)(lo hi:Option DE):DE:=λS G=>(e S G).bind λd G1=>(J1 lo S G1).bind λl G2=>(J1 hi S G2).bind λh G3=>Kl d l h G3
def Ox(n:Nat)(v:Int):((HT.ZB n n (u4 v):Nat):Int)=max 0 (min (if v<0 then v+(n:Int)else v) n)/\((HT.ZB n 0 (u4 v):Nat):Int)=max 0 (min (if v<0 then v+(n:Int)else v) n):=by
 unfold HT.ZB;by_cases a:v<0
 .simp[if_pos a];lia
 simp[if_neg a];lia
theorem yF(xs:Array Nat)(i k:Nat):(zQ k).filterMap (λm=>xs[i+m]?)=(xs.toList.drop i).take k:=by
 induction k generalizing i with
 |zero=>simp
 | succ k d=>
  rw[qH,qy];have e:(List.map Nat.succ (.range k)).filterMap (λm=>xs[i+m]?)=(zQ k).filterMap (λm=>xs[i+1+m]?):=by
   rw[qq]
   congr 1
   funext m;simp[Function.comp]
   congr 1
   lia
  rw[e,d (i+1)];by_cases b:i<xs.size
  .have a:xs[i+0]?=u4 xs[i]:=by simp[b]
   rw[a];have c:xs.toList.drop i=xs[i]::xs.toList.drop (i+1):=by rw[qZ (by simpa using b)];simp
   rw[c];simp
  have a:xs[i+0]?=u5:=by simp;lia
  rw[a];simp only;rw[qJ (by simp;lia),qJ (by simp;lia)];simp
def yG(x:Str)(c b:Option Int):Txt.slice x c b=R4 x c b:=by
 have d:x.length=x.cps.toList.length:=by simp[Str.length]
 have m:(qa c b 1 x.length).filterMap (x.cps[·]?)=cutD x.cps.toList c b:=by
  have n:∀(v:Option Int),(match v with |none=>(0:Int)|some i=>max 0 (min (if i<0 then i+(x.length:Int)else i) x.length))=((HT.ZB x.length 0 v:Nat):Int):=λv=>by
   cases v with
   |none=>rfl
   |some i=>exact(Ox x.length i).2.symm
  have p:∀(v:Option Int),(match v with |none=>(x.length:Int)|some i=>max 0 (min (if i<0 then i+(x.length:Int)else i) x.length))=((HT.ZB x.length x.length v:Nat):Int):=λv=>by
   cases v with
   |none=>rfl
   |some i=>exact(Ox x.length i).1.symm
  have l:qa c b 1 x.length=sliceRange ((HT.ZB x.length 0 c:Nat):Int) ((HT.ZB x.length x.length b:Nat):Int) 1:=by
   rw[<-n c,<-p b];unfold qa
   cases c<;>cases b<;>simp
  rw[l];unfold sliceRange cutD;rw[qq,<-d];generalize HT.ZB x.length 0 c=i;generalize HT.ZB x.length x.length b=j;have s:((λa=>x.cps[a]?) ∘ λ(k:Nat)=>((i:Int)+1*(k:Int)).toNat)=λk=>x.cps[i+k]? :=by
   funext k;simp only[Function.comp]
   congr 1
   lia
  have q:(if(1:Int)>0 then if(i:Int)<(j:Int)then((j:Int)-i+1-1)/1 else 0 else if(i:Int)>(j:Int)then((i:Int)-j-1-1) / -1 else 0).toNat=j-i:=by
   rw[if_pos (by lia)];split
   .rw[Int.ediv_one];lia
   lia
  rw[s,q];exact yF x.cps i (j-i)
 unfold Txt.slice R4;split
 .rename_i h;have w:(qa c b 1 x.length).length=x.length:=by simpa using h
  have g:(cutD x.cps.toList c b).length=x.cps.toList.length:=by
   have l:(qa c b 1 x.length).length=HT.ZB x.length x.length b-HT.ZB x.length 0 c:=by
    have n:∀(v:Option Int),(match v with |none=>(0:Int)|some i=>max 0 (min (if i<0 then i+(x.length:Int)else i) x.length))=((HT.ZB x.length 0 v:Nat):Int):=λv=>by
     cases v with
     |none=>rfl
     |some i=>exact(Ox x.length i).2.symm
    have p:∀(v:Option Int),(match v with |none=>(x.length:Int)|some i=>max 0 (min (if i<0 then i+(x.length:Int)else i) x.length))=((HT.ZB x.length x.length v:Nat):Int):=λv=>by
     cases v with
     |none=>rfl
     |some i=>exact(Ox x.length i).1.symm
    have l:qa c b 1 x.length=sliceRange ((HT.ZB x.length 0 c:Nat):Int) ((HT.ZB x.length x.length b:Nat):Int) 1:=by
     rw[<-n c,<-p b];unfold qa
     cases c<;>cases b<;>simp
    rw[l];unfold sliceRange;rw[zO,List.length_range];generalize HT.ZB x.length 0 c=i;generalize HT.ZB x.length x.length b=j;rw[if_pos (by lia)];split
    .rw[Int.ediv_one];lia
    lia
   have u:HT.ZB x.length x.length b<=x.length:=HT.pQ _ _ (zY _) b;unfold cutD;rw[jB,xJ,<-d];lia
  have r:(cutD x.cps.toList c b).Sublist x.cps.toList:=(List.take_sublist _ _).trans (List.drop_sublist _ _);rw[r.eq_of_length g]
 rw[m]
section
variable{X:Cx}{E:XK}
theorem yH:OX X (λx c n H Q=>∃z:Str,x=.str z/\z.length<=sizeLine/\Q (.str (R4 z c n)) H):=by
 intro b s P H x v K O c n B Q I C M J r h;obtain⟨z,rfl,N,q⟩:=h;obtain⟨t,rfl⟩:=C;refine⟨"str",_,PySem.F.slot_str_getitem.lookup,typeIs_str _ _ _,?_⟩
 have a:∀(l u:Option (Int×Tok)),K=partValue l->O=partValue u->l.map (·.1)=c->u.map (·.1)=n->vk (vY X.prog X.w) X.A (getItem (.str z t) (.ref B)) (EP X b P Q) X.xe s:=by
  rintro l u rfl rfl rfl rfl;refine wpAny_getItem_str_slice (st:=u5) (M) rfl ?_
  have e:∀d,(Txt.slice z (l.map (·.1)) (u.map (·.1))).length<=sizeLine/\(∀m k,d (.str (Txt.slice z (l.map (·.1)) (u.map (·.1))) m) {s with toks:=k})->(sliceMade z t l u u5).post d s:=λd L=>post_val_or_str L
  refine e _ ⟨z8 (Txt.slice_le z _ _) N,λm k=>?_⟩;rw[yG];exact⟨.str _,H,I.tok k,⟨m,rfl⟩,q⟩
 cases J with
 |none=>cases r with
  |none=>exact a u5 u5 rfl rfl rfl rfl
  |int j g=>exact a u5 (u4 (j,g)) rfl rfl rfl rfl
 |int i y=>cases r with
  |none=>exact a (u4 (i,y)) u5 rfl rfl rfl rfl
  |int j g=>exact a (u4 (i,y)) (u4 (j,g)) rfl rfl rfl rfl
def yI{prog:xF}{w:xM}{A:xB}{E:xL->xH->Prop}{s:xH}{t j:xA}{items:Array xL}{m l:xL}{a d:Option Int}{Q:xL->xH->Prop}(c:IsTup s.heap t items)(k:s.heap.IsSliceOf j m l .none)(pl:IsPart m a)(p:IsPart l d)
  (hw:HT.ZB items.size 0 a=0/\HT.ZB items.size items.size d=items.size) (h:Q (.ref t) s):vk (vY prog w) A (getItem (.ref t) (.ref j)) Q E s:=by
 obtain⟨n,i,g,q⟩:=id k;unfold getItem
 try with_reducible refine vF ?_
 first|refine vB (vL ?_)|skip
 refine vB (wpAny_sequenceKey c.typeIs (by decide) ?_);refine vB (vC c.typeIs jd
  (vD jd c.typeIs entry_tuple_getitem ?_ (args_tuple_getitem _ _)))
 show vk _ _ (Builtin.Tuple.tupleItemsOf (.ref t) >>=_) _ _ s;refine vB (tupleItemsOf_ c ?_);refine vB (wpAny_typeOf ⟨n,i,g⟩ ?_);rw[if_pos (by decide)];refine vB (HT.cE k pl p ?_);have b:(((HT.ZB items.size 0 a:Nat):Int)==0&&(1:Int)==1&&(HT.ZB items.size items.size d-HT.ZB items.size 0 a)==items.size)=u6:=by rw[hw.1,hw.2];simp
 show vk _ _ (if(((HT.ZB items.size 0 a:Nat):Int)==0&&(1:Int)==1&&(HT.ZB items.size items.size d-HT.ZB items.size 0 a)==items.size)=u6 then _ else _) _ _ s;rw[if_pos b];refine vB ?_;unfold Builtin.Tuple.tupleIsExact;refine vB (wpAny_typeOf c.typeIs (vL ?_));rw[if_pos (by decide)];exact vB (wpAny_rule (vL ⟨_,rfl,vL h⟩))
def yJ:OX X (λx i d H Q=>∃a xs,x=.ref a/\RH X.K H a xs/\(HT.ZB xs.length 0 i=0/\HT.ZB xs.length xs.length d=xs.length)/\Q (.ref a) H):=by intro g s w H x v A y i d u Q I m k n l h;obtain⟨a,xs,rfl,p,hw,q⟩:=h;cases m;obtain⟨c,r,j,z⟩:=I.tuple p;exact⟨"tuple",_,PyProof.Rows.slot_tuple_getitem.lookup,j.typeIs,yI j k n l ((zq▸r.length.symm)▸hw) ⟨.ref a,H,I,rfl,q⟩⟩
def Nm(E:XK)(a:Wd)(r:R (Option Int))(Q:Option Int->Hp->Prop):Prop:=match r with
 |.ok k G=>∀(b:Wd),Ext a b->VB b G->Q k b.H
 |.err x G=>SO E a x G
 |.bad=>False
def QO(X:Cx)(E:XK)(e:Option xC)(t:Option DE):Prop:=PO X e (λσ H Q=>X1 X.K σ H λa S G=>Nm E a (J1 t S G) Q)
def _root_._L.PO.mono(h:PO X e t)(w:∀a H Q,t' a H Q->t a H Q):PO X e t':=λb s a H Q I q=>h b s a H Q I (w a H Q q)
def yK:QO X E u5 u5:=pX.mono λb H Q h=>by obtain⟨a,S,G,hk,rfl,s,r,h⟩:=h;exact h a (.refl a) s
theorem yL(m:QE X E e t):QO X E (u4 e) (u4 t):=(pY m).mono λn H Q h=>by
 obtain⟨a,S,G,hk,rfl,s,r,h⟩:=h;refine⟨a,S,G,hk,rfl,s,r,?_⟩
 have c:Nm E a ((t S G).bind λd g=>match d with | .int i=>.ok (u4 i) g|_=>.bad) Q:=h
 cases j:t S G with
 |ok d g=>
  rw[j]at c;intro b v x k l;cases d with
  |int i=>exact⟨i,l,c b x k⟩
  |_=>exact c.elim
 |_=>rw[j]at c;exact c
def OA.cutD(r:OA a ds vs)(b c:Option Int):OA a (_D.cutD ds b c) (Mm vs b c):=by unfold _D.cutD Mm;rw[r.length];exact(r.drop _).take _
theorem Nm.imp(h:Nm E a r Q)(w:∀v H,Q v H->Q' v H):Nm E a r Q':=by
 cases r with
 |ok d G=>exact λb x s=>w _ _ (h b x s)
 |_=>exact h
theorem dZ(h:out E a (r.bind f) Q):
  Nm E a r (λk H=>PB3 a H r k λb G=>out E b (f k G) Q):=by
 cases r with
 |ok d G=>exact λb x s=>⟨b,G,rfl,x,s,rfl,out.mono x h⟩
 |_=>exact h
theorem yM{e:xC}{N T:Option xC}{U:DE}{P th:Option DE}{p2 pos:Pos}(he:QE X E e U)(M:QO X E N P)(hu:QO X E T th):QE X E (.Subscript e (.Slice N T u5 p2) pos) (OZ U P th):=
 (pZ (qp.or (p9.or (yJ.or yH))) he M hu).mono λσ H Q h=>by
 obtain⟨a,S,G,hk,rfl,s,r,h⟩:=h;refine⟨a,S,G,hk,rfl,s,r,(El h).imp ?_⟩;rintro v _ ⟨b,d,W,rfl,x,s1,q,_,h1⟩;refine⟨b,S,W,x.k.trans hk,rfl,s1,r.mono x,(dZ h1).imp ?_⟩;rintro l _ ⟨c,Z,rfl,y,s2,_,Y⟩;refine⟨c,S,Z,y.k.trans (x.k.trans hk),rfl,s2,(r.mono x).mono y,(dZ Y).imp ?_⟩;rintro u _ ⟨C,J,rfl,O,F,_,g⟩;have m:=O.k.trans (y.k.trans (x.k.trans hk));have L:=(q.mono y).mono O
 have lst:out E C (match G7 d J with |some w=>.ok (.ref J.length) (J++[.lst (cutD w l u)])|none=>.bad) Q->Mo X.K v l u C.H Q:=λg=>by
  split at g
  .rename_i w hx;obtain⟨p,j,I,B,A⟩:=Pr F L hx;exact⟨p,j,I,by rw[<-m];exact B,λp hp=>Io F (.cutD A l u) g p hp⟩
  exact g.elim
 cases d with
 |str z=>
  have n:out E C (if z.length<=1000000 then .ok (.str (R4 z l u)) J else .bad) Q:=g;split at n
  .rename_i M;cases(L);exact .inr (.inr (.inr ⟨z,rfl,z8 M ZC,n C _ (.refl _) F rfl⟩))
  exact n.elim
 | tup w=>
  have n:=g;obtain⟨p,j,I,B,A⟩:=L;by_cases hw:HT.ZB j.length 0 l=0/\HT.ZB j.length j.length u=j.length
  .refine .inr (.inr (.inl ⟨p,j,I,by rw[<-m];exact B,hw,n C _ (.refl _) F ⟨p,j,rfl,B,?_⟩⟩));have:cutD w l u=w:=by unfold cutD;rw[A.length,hw.1,hw.2,<-A.length];simp
   rw[this];exact A
  exact .inr (.inl ⟨p,j,I,by rw[<-m];exact B,hw,λp hp=>Yw F (.cutD A l u) n p hp⟩)
 |fl w|ref i=>exact .inl (lst g)
 |_=>exact(g).elim
section
variable{name:Str}{id:String}{f:D->List D->DH->R D}{o e:xC}{es:List xC}{to:DE}{t:DA}{apos WD:Pos}
end
end
section
variable{S:RD}{G:DH}
@[simp]theorem ev_Sl{e:DE}{b a:Option DE}:OZ e b a S G=(e S G).bind λd c=>(J1 b S c).bind λl i=>(J1 a S i).bind λh g=>Kl d l h g:=id rfl
@[simp]theorem L3:J1 u5 S G=.ok u5 G:=id rfl
@[simp]theorem L4:J1 (u4 t) S G=(t S G).bind λd a=>match d with | .int i=>.ok (u4 i) a|_=>.bad:=id rfl
@[simp]theorem ev_slT{xs:List D}{a b:Option Int}:Kl (.tup xs) a b G=.ok (.tup (cutD xs a b)) G:=id rfl
@[simp]theorem ev_slF{xs:List D}{a b:Option Int}:Kl (.fl xs) a b G=.ok (.ref G.length) (G++[.lst (cutD xs a b)]):=id rfl
@[simp]theorem Nz:Bj (.str z) (.int i) G=if z.length<=1000000 then(match YC z.cps.toList i with |some c=>.ok (sgn c) G|none=>.bad)else .bad:=id rfl
end
end _D
namespace _D
open PySem PySem.Spec _L
open PyProof.Rows hiding St
open Builtin.Str
section
variable(p:Nat->Bool)(m:Nat)
end
def WN(g:DG)(c:DB)(te:DE)(S:RD)(G:DH)(x:D)(r:Option D):Prop:=
 ∃S1,g x S G=.ok S1 G/\((c S1 G=.ok u7 G/\r=u5)\/(c S1 G=.ok u6 G/\∃d,te S1 G=.ok d G/\r=u4 d))
theorem T9:∀{xs:List D},(∀x∈xs,WN g c te S G x (F x))->Bv g c te S xs G=.ok (xs.filterMap F) G
 |[],_=>rfl
 |x::xs,h=>by
  obtain⟨k,f,a⟩:=h x (by simp);have e:=T9 (λy i=>h y (zJ _ i));rw[aV,f];rcases a with⟨a,b⟩|⟨a,d,b,j⟩
  .simp[a,b,e]
  simp[a,b,j,e]
theorem d5(e:G[i]?=u4 (.lst xs))(h:∀x∈xs,WN g c te S G x (F x)):
  ∀(n j:Nat),j+n=xs.length->Fi i g c te S n j G=.ok ((xs.drop j).filterMap F) G
 |0,j,o=>by
  unfold Fi;rw[e];simp only;rw[if_pos (by lia),qJ (by lia)]
  rfl
 |n+1,j,o=>by
  have a:j<xs.length:=by lia
  have k:=d5 e h n (j+1) (by lia);obtain⟨r,l,b⟩:=h xs[j] (qW a);unfold Fi;rw[e];simp only;rw[zX a];simp[l,R.Hu];rw[qZ a,qy];rcases b with⟨b,f⟩|⟨b,d,f,q⟩
  .simp[b,f,k]
  simp[b,f,q,k]
def d6(a:G[i]?=u4 (.lst xs))(h:∀x∈xs,WN g c te S G x (F x)):
  Fi i g c te S xs.length 0 G=.ok (xs.filterMap F) G:=d5 a h xs.length 0 (by lia)
def d7{x y:Str}(h:x.cps.toList=y.cps.toList):x=y:=by obtain⟨a⟩:=x;obtain⟨b⟩:=y;simp only at h;rw[Array.toList_inj.mp h]
end _D
namespace _D
open PySem PySem.Spec _L
open PyProof.Rows hiding St
inductive Src where
 |l (a:xA)
 |t (a:xA)
noncomputable def Src.VO:Src->String
 |.l _=>"list_iterator"
 |.t _=>"tuple_iterator"
def Src.VE:Src->xA
 |.l a=>a
 |.t a=>a
def Src.it(h:Heap)(p:xA)(k:Nat)(sr:Src):Prop:=∃o,h.get? p=u4 o/\o.cls=.type sr.VO/\o.data=.fields #[.ref sr.VE,.int k 0]
def Src.val(h:Heap)(xs:Array xL):Src->Prop
 |.l a=>h.IsList a xs
 |.t a=>h.IsTuple a xs
def Src.it.at{a:Src}{h h':Heap}{p:xA}{k:Nat}(x:a.it h p k)(e:∀o,h.get? p=u4 o->h'.get? p=u4 o):a.it h' p k:=let⟨o,b,r⟩:=x;⟨o,e o b,r⟩
theorem Src.val.at{b:Src}{h h':Heap}{xs:Array xL}(x:b.val h xs)(e:∀o,h.get? b.VE=u4 o->h'.get? b.VE=u4 o):b.val h' xs:=by
 cases b with
 |_=>obtain⟨o,c,r⟩:=x;exact⟨o,e o c,r⟩
def Src.it.lt{a:Src}{h:Heap}{p:xA}{k:Nat}(x:a.it h p k):p<h.objs.size:=let⟨_,b,_⟩:=x;zx b
section
variable{prog:xF}{w:xM}{A:xB}{E:xL->xH->Prop}{s:xH}
theorem Src.val.obj{c:Src}{h:Heap}{xs:Array xL}(x:c.val h xs):∃o n,h.get? c.VE=u4 o/\o.data=.seq xs n:=by
 cases c with
 |_=>obtain⟨o,d,_,n,b⟩:=x;exact⟨o,n,d,b⟩
theorem Src.UL{f:Src}{p:xA}{k:Nat}{xs:Array xL}{x:xL}{Q:xL->xH->Prop}(d:f.it s.heap p k)(n:f.val s.heap xs)(r:xs[k]?=u4 x)
  (i:∀h',f.it h' p (k+1)->qI p s.heap h'->Q x {s with heap:=h'}):vk (vY prog w) A (ja (.ref p)) Q E s:=by
 cases f with
 |l a=>exact wpAny_nextOf_list_item (d) n r i
 |t a=>
  obtain⟨o,e,q,c⟩:=id d;obtain⟨u,h,_,v,g⟩:=n;have j:s.TypeIs (.ref p) "tuple_iterator":=⟨o,e,q⟩;unfold ja;refine vB (vC j jf (vD jf j wE ?_ (wM _)));refine vB (m:=field (.ref p) 0) (vE e c (x:=.ref a) rfl ?_)
  rw[if_neg (show¬((.ref a==Value.none)=u6)from z5)]
  refine vB (vE e c rfl (vB (wpAny_seqItems h g ?_)));simp[Int.toNat_natCast,r];refine vB (wpAny_setField e c (by simp) (vL ⟨x,rfl,vL (i _ ⟨_,q8 _ e (Obj.isFreed_of_fields (Obj.data_mapFields c _)),(Obj.cls_mapFields ..).trans q,?_⟩ (.update ..))⟩));rw[Obj.data_mapFields c];simp[vq,Src.VE]
theorem Src.XN{f:Src}{p:xA}{k:Nat}{xs:Array xL}{Q:xL->xH->Prop}(j:A.handled=u5)(c:f.it s.heap p k)(q:f.val s.heap xs)(u:xs[k]?=u5)
  (r:∀h' e,Heap.ExtBut p s.heap h'->(∃o,h'.get? e=u4 o/\o.cls=.type "StopIteration")->E (.ref e) {s with heap:=h'}):vk (vY prog w) A (ja (.ref p)) Q E s:=by
 cases f with
 |l a=>exact wpAny_nextOf_list_end j (c) q u r
 |t a=>
  obtain⟨o,d,v,g⟩:=id c;obtain⟨y,i,_,z,h⟩:=q;have n:s.TypeIs (.ref p) "tuple_iterator":=⟨o,d,v⟩;unfold ja;refine vB (vC n jf (vD jf n wE ?_ (wM _)));refine vB (m:=field (.ref p) 0) (vE d g (x:=.ref a) rfl ?_)
  rw[if_neg (show¬((.ref a==Value.none)=u6)from z5)]
  refine vB (vE d g rfl (vB (wpAny_seqItems i h ?_)));simp[Int.toNat_natCast,u];refine vB (wpAny_rule (vB (wpAny_setField d g (by simp) (vB ?_))));simp[newExc,newTuple]
  refine vB (vH (vB (wpAny_of_eq (by first|rfl|(simp[firstArgMember];rfl)) (vH ?_ (by size_fits)))) (by size_fits))
  simp only[raiseNew];refine vB (wpAny_handled ?_)
  first|rw[j]|rw[j]
  exact vB (vL (wpAny_throw (r _ _ (((qI.update ..).extBut.push _).push _) ⟨_,z6 _ rfl,rfl⟩)))
theorem Src.iter{c:Src}{xs:Array xL}{Q:xL->xH->Prop}(e:c.val s.heap xs)
  (f:Q (.ref s.heap.objs.size) {s with heap:=s.heap.push {cls:=.type c.VO,data:=.fields #[.ref c.VE,.int 0 0]}}):vk (vY prog w) A (pyIter (.ref c.VE)) Q E s:=by
 cases c with
 |l a=>exact wpAny_pyIter_list e f
 |t a=>exact wpAny_pyIter_tuple e f
end
abbrev En(h:Heap)(e it:xA)(f0:xL)(i:Int)(g old:xL):Prop:=
 h.get? e=u4 {cls:=.type "enumerate",dict:=u5,data:=.fields #[f0,.bool u7,.ref it,vq i,g,old],slots:= #[]}
def Gv(i:Int)(g:xL):Prop:=g=.none\/∃t,g=.int i t
section
variable{prog:xF}{w:xM}{A:xB}{E:xL->xH->Prop}{s:xH}
def yN{sr:Src}{e it:xA}{k:Nat}{i:Int}{xs:Array xL}{x g z:xL}{Q:xL->xH->Prop}(he:En s.heap e it .none i g z)(hg:Gv i g)(J?:sr.it s.heap it k)(hv:sr.val s.heap xs)(hx:xs[k]?=u4 x)(K:e≠it)
  (hQ:∀h' t tk,En h' e it (vq s.heap.objs.size) (i+1) .none x->sr.it h' it (k+1)->h'.get? s.heap.objs.size=u4 {cls:=.type "tuple",data:=.seq #[.int i t,x]}->h'.objs.size=s.heap.objs.size+1->
   (∀b o,b≠e->b≠it->s.heap.get? b=u4 o->h'.get? b=u4 o)->Q (.ref s.heap.objs.size) {s with heap:=h',toks:=tk}):
  vk (vY prog w) A (Builtin.«enumerate.__next__» ⟨[.ref e],[]⟩) (λO s'=>∃v,O=.done (.ret v)/\Q v s') E s:=by
 obtain⟨hp,gg,d,tk,os⟩:=s;refine vB (m:=field (.ref e) 2) (vE he rfl rfl (vB (Src.UL J? hv hx λU J p=>?_)));have n:=(p.2 e K).trans he;refine vB (vE n rfl rfl ?_);refine vB (vE n rfl (x:=g) rfl ?_)
 have rest:∀(t:Tok)(P:Nat),vk (vY prog w) A (do
   setField (.ref e) 3 (vq (i+1));setField (.ref e) 4 .none
   let result<-newTuple [.int i t,x]
   if<-va (.ref e)then
    rule "enumerate.__next__.owned-tuple-again"
    let z<-field (.ref e) 5
    setField (.ref e) 5 x
    vb (.ref e) result
    PySem.letGo [z] [result]
   ret result) (λO s'=>∃v,O=.done (.ret v)/\Q v s') E ⟨U,gg,d,P,os⟩:=by
  intro t P;refine vB (vM n (by simp) λh₂ S j=>?_);refine vB (vM S (by simp) λH l h=>?_)
  replace l:En H e it .none (i+1) .none z:=l
  have y:H.objs.size=hp.objs.size:=by rw[h.1];rw[j.1];exact p.1
  refine vB (wpAny_newTuple ?_);generalize c:H.push {cls:=.type "tuple",data:=.seq [Value.int i t,x].toArray}=f;have u:En f e it .none (i+1) .none z:=by rw[<-c];exact zZ _ l
  have N:f.get? hp.objs.size=u4 {cls:=.type "tuple",data:=.seq #[.int i t,x]}:=by rw[<-c,<-y];exact z6 _ rfl
  have z₄:f.objs.size=hp.objs.size+1:=by rw[<-c,q9,y]
  have k₄:∀b o,b≠e->b≠it->hp.get? b=u4 o->f.get? b=u4 o:=λb o M W q=>by rw[<-c];exact zZ _ ((λb o M W q=>h.extBut b o M (j.extBut b o M ((λb o _ Z q=>p.extBut b o Z q) b o M W q))) b o M W q)
  have X:sr.it f it (k+1):=((J.at λo q=>j.extBut it o (.symm K) q).at λo q=>h.extBut it o (.symm K) q).at λo q=>by rw[<-c];exact zZ _ q
  have ez:=zx he;refine vB ?_;unfold va;refine vB (vE u rfl rfl (vL ?_));simp[if_true];refine vB (wpAny_rule (vB (vE u rfl (x:=z) rfl (vB (vM u (by simp) λY r B=>?_)))))
  replace r:En Y e it .none (i+1) .none x:=r
  refine vB ?_;unfold vb;refine vB (vM r (by simp) λh₆ T C=>?_);refine vM T (by simp) λL I F=>?_
  refine vB (wpAny_letGo (vL ⟨_,rfl,?_⟩));have up:∀b o,b≠e->f.get? b=u4 o->L.get? b=u4 o:=λb o Z q=>F.extBut b o Z (C.extBut b o Z (B.extBut b o Z q))
  rw[y];rw[y]at I;exact hQ L t P I (X.at λo q=>up it o (.symm K) q) (up _ _ (jx ez) N) (by rw[F.1];rw[C.1];rw[B.1];exact z₄) λb o M W q=>up b o M (k₄ b o M W q)
 rcases hg with rfl|⟨t,rfl⟩
 .exact vB (wpAny_mkInt (rest tk (tk+1)))
 exact vB (vL (rest t tk))
def yO{c:Src}{e it:xA}{k:Nat}{i:Int}{xs:Array xL}{x g h:xL}{Q:Option xL->xH->Prop}(m:En s.heap e it .none i g h)(p:Gv i g)(d:c.it s.heap it k)(q:c.val s.heap xs)(B:xs[k]?=u4 x)(f:e≠it)
  (y:∀h' t tk,En h' e it (vq s.heap.objs.size) (i+1) .none x->c.it h' it (k+1)->h'.get? s.heap.objs.size=u4 {cls:=.type "tuple",data:=.seq #[.int i t,x]}->h'.objs.size=s.heap.objs.size+1->
   (∀b o,b≠e->b≠it->s.heap.get? b=u4 o->h'.get? b=u4 o)->Q (u4 (.ref s.heap.objs.size)) {s with heap:=h',toks:=tk}):
  vk (vY prog w) A (pyNext (.ref e)) Q E s:=by
 have l:s.TypeIs (.ref e) "enumerate":=⟨_,m,rfl⟩;unfold pyNext;exact vB (wpAny_attempt (vC l jg
  (vD jg l wO (yN m p d q B f λh' t tk z u r n v=>vL (y h' t tk z u r n v)) (wS _))))
def yP{l:Src}{e it:xA}{k:Nat}{i:Int}{xs:Array xL}{g c:xL}{Q:Option xL->xH->Prop}(r:A.handled=u5)(j:En s.heap e it .none i g c)(b:l.it s.heap it k)(p:l.val s.heap xs)(u:xs[k]?=u5)
  (n:∀h',Heap.ExtBut it s.heap h'->Q u5 {s with heap:=h'}):vk (vY prog w) A (pyNext (.ref e)) Q E s:=by
 have h:s.TypeIs (.ref e) "enumerate":=⟨_,j,rfl⟩;unfold pyNext;refine vB (wpAny_attempt (vC h jg
  (vD jg h wO (vB (m:=field (.ref e) 2) (vE j rfl rfl (vB (Src.XN r b p u λh' x f d=>?_)))) (wS _))))
 obtain⟨o,t,q⟩:=d;exact vB (wpAny_isInstance ⟨o,t,q⟩ isSubtype_stop (vL (n _ f)))
def yQ{elts:List xC}{x1}{pos:Pos}{e it a:xA}{i:Int}{g c:xL}{Q:Unit->xH->Prop}(h:En s.heap e it (vq a) i g c)
  (j:∀h',En h' e it .none i g c->qI e s.heap h'->Q () {s with heap:=h'}):vk (vY prog w) A (vW (.Tuple elts x1 pos) (.ref e) (.ref a)) Q E s:=by
 unfold vW;refine vB (wpAny_load h ?_);dsimp only;rw[if_pos (by simp)];exact vB (wpAny_rule (vM h (by simp) λh' d f=>j h' d f))
def Zv(b:En s.heap e it f0 i g old)(h:Q (.ref e) s):vk (vY prog w) A (pyIter (.ref e)) Q E s:=by have a:s.TypeIs (.ref e) "enumerate":=⟨_,b,rfl⟩;exact wpAny_pyIter_slot a wa (vD wa a PySem.F.entry_enumerate_iter (vL ⟨_,rfl,"enumerate",_,a,PySem.F.slot_enumerate_next.lookup,h⟩) (PySem.F.args_enumerate_iter_1 _))
end
abbrev Tp(h:Heap)(T:xA)(xs:List xL):Prop:=h.get? T=u4 {cls:=.type "tuple",data:=.seq xs.toArray}
inductive YV (h:Heap) (i:Nat):List (Src×xA)->List xL->Prop where
 |nil:YV h i [] []
 |cons {sr p r x us xs} (J?:Src.it h p i sr) (hv:sr.val h xs) (hx:xs[i]?=u4 x) (t:YV h i r us):YV h i ((sr,p)::r) (x::us)
theorem YV.length(d:YV h i l us):us.length=l.length:=by
 induction d with
 |nil=>rfl
 |cons _ _ _ _ a=>simp[a]
section
variable{prog:xF}{w:xM}{A:xB}{E:xL->xH->Prop}{s:xH}
def yR(b:Tp s.heap T xs)(hz:xs.length<=1000000)
  (h:∀h',Tp h' T (xs.set k x)->qI T s.heap h'->Q () {s with heap:=h'}):vk (vY prog w) A (updateSeq T (·.setIfInBounds k x)) Q E s:=by
 have c:=zq▸z8 hz ZC;refine wpAny_updateSeq b rfl (h _ ?_ (.update ..)) c (by rw[Array.size_setIfInBounds];exact Nat.le_succ_of_le c);show(s.heap.update T _).get? T=_;rw[q8 _ b rfl];simp[Obj.mapSeq]
def ZS(prog:xF)(w:xM)(A:xB)(E:xL->xH->Prop)(z TO p:xA)(k:Nat)(R:xH->Prop)(s:xH):Prop:=
 vk (vY prog w) A (ja (.ref p)) (λx s1=>∃os,Tp s1.heap TO os/\os.length<=1000000/\∀h',Tp h' TO (os.set k x)->qI TO s1.heap h'->R {s1 with heap:=h'})
  (λe s'=>vk (vY prog w) A (setField (.ref z) 0 .none) (λ_ VS=>E e VS) E s') s
def d8{z TO p:xA}{k i:Nat}{r:Src}{xs:Array xL}{x:xL}{q:List xL}{Q:xH->Prop}(l:Tp s.heap TO q)(hz:q.length<=1000000)(j:r.it s.heap p i)(y:r.val s.heap xs)(F:xs[i]?=u4 x)
  (h:∀h',Tp h' TO (q.set k x)->r.it h' p (i+1)->(∀b o,b≠TO->b≠p->s.heap.get? b=u4 o->h'.get? b=u4 o)->h'.objs.size=s.heap.objs.size->Q {s with heap:=h'}):ZS prog w A E z TO p k Q s:=by
 have m:TO≠p:=λe=>by
  obtain⟨o,u,C,_⟩:=j;rw[<-e,l]at u;cases u
  cases r<;>(simp[Src.VO]at C)
 exact Src.UL j y F λt f d=>⟨q,d.extBut _ _ m l,hz,λn g c=>(h n g (f.at λo e=>c.extBut _ _ (.symm m) e) (λb o B v e=>c.extBut b o B (d.extBut b o v e)) (by rw[c.1];rw[d.1]))⟩
theorem d9{z TO:xA}{i:Nat}{m:xL×Nat->Option Fin×PUnit->Sem (ForInStep (Option Fin×PUnit))}{R:Option Fin×PUnit->xH->Prop}
  (hb:∀(p:xA)(k:Nat)(s:xH)(R':ForInStep (Option Fin×PUnit)->xH->Prop),ZS prog w A E z TO p k (λs'=>R' (.yield (u5,⟨⟩)) s') s->
   vk (vY prog w) A (m (.ref p,k) (u5,⟨⟩)) R' E s):
  ∀(l:List (Src×xA))(us pre post:List xL)(s:xH),YV s.heap i l us->Tp s.heap TO (pre++post)->post.length=l.length->(pre++post).length<=1000000->(l.map (·.2)).Nodup->(∀q∈l,q.1.VE≠TO)->(∀q∈l,∀r∈l,q.1.VE≠r.2)->
   (∀h',Tp h' TO (pre++us)->(∀q∈l,q.1.it h' q.2 (i+1))->(∀b o,b≠TO->b∉l.map (·.2)->s.heap.get? b=u4 o->h'.get? b=u4 o)->h'.objs.size=s.heap.objs.size->R (u5,⟨⟩) {s with heap:=h'})->
   vk (vY prog w) A (forIn ((l.map λq=>Value.ref q.2).zipIdx pre.length) (u5,⟨⟩) m) R E s
 | [],us,pre,post,s,d,H,u,J,O,N,C,M=>by
  cases d;cases post with
  |cons _ _=>simp at u
  |nil=>
   rw[jN,List.zipIdx_nil,List.forIn_nil];exact vL (M s.heap H (λq a=>by cases a) (λb o _ _ e=>e) rfl)
 | (P,p)::l,us,pre,post,s,d,H,u,J,O,N,C,M=>by
  cases d with
  |@cons _ _ _ x us xs h hv hx d=>
  cases post with
  |nil=>simp at u
  | cons y post=>
   rw[zy,xW,xw];refine vB (hb p pre.length s _ (d8 H J h hv hx λh' g it' kp sz=>?_));have X:(pre++y::post).set pre.length x=(pre++[x])++post:=by simp
   rw[X]at g;have W:pre.length+1=(pre++[x]).length:=by simp
   dsimp only;rw[W]
   have f:p∉l.map (·.2)/\(l.map (·.2)).Nodup:=by simpa using O
   have j:∀q∈l,q.2≠TO:=λq a e=>by
    have:∃P k,Src.it s.heap q.2 k P:=by
     clear M N C O f X W u g J
     induction d with
     |nil=>cases a
     |cons h _ _ _ U=>
      rcases zK.mp a with rfl|a
      .exact⟨_,_,h⟩
      exact U a
    obtain⟨sr',k,o,L,Y,_⟩:=this;rw[e,H]at L;cases L
    cases sr'<;>(simp[Src.VO]at Y)
   have d':YV h' i l us:=by
    have F:∀q∈l,q.1.VE≠TO:=λq a=>N q (zJ _ a)
    have I:∀q∈l,q.1.VE≠p:=λq a=>C q (zJ _ a) (P,p) zW
    have pp:∀q∈l,q.2≠p:=λq a e=>f.1 (zD.mpr ⟨q,a,e⟩)
    clear M N C O f X W u g J
    induction d with
    |nil=>exact .nil
    |@cons sr1 p1 r1 x1 us1 xs1 B T Z t1 U=>
     exact .cons (B.at λo e=>kp _ o (j _ zW) (pp _ zW) e) (T.at λo e=>kp _ o (F _ zW) (I _ zW) e) Z (U (λq a=>j q (zJ _ a)) (λq a=>F q (zJ _ a)) (λq a=>I q (zJ _ a)) (λq a=>pp q (zJ _ a)))
   refine d9 hb l us (pre++[x]) post {s with heap:=h'} d' g (by simpa using u) (by simpa using J) f.2 (λq a=>N q (zJ _ a)) (λq a r hr=>C q (zJ _ a) r (zJ _ hr)) λS Q t n v=>?_
   have K:p≠TO:=λe=>by
    obtain⟨o,L,Y,_⟩:=h;rw[e,H]at L;cases L
    cases P<;>(simp[Src.VO]at Y)
   refine M S (by simpa using Q) (λq a=>?_) (λb o b1 b2 e=>?_) (v.trans sz)
   .rcases zK.mp a with rfl|a
    .exact it'.at λo e=>n _ o K f.1 e
    exact t q a
   simp only[zy,zK,not_or]at b2;exact n b o b1 b2.2 (kp b o b1 b2.1 e)
end
inductive NL (h:Heap) (i:Nat):List (Src×xA)->Prop where
 |here {sr p r xs} (J?:Src.it h p i sr) (hv:sr.val h xs) (hx:xs[i]?=u5):NL h i ((sr,p)::r)
 |there {sr p r x xs} (J?:Src.it h p i sr) (hv:sr.val h xs) (hx:xs[i]?=u4 x) (t:NL h i r):NL h i ((sr,p)::r)
structure PZ (TO:xA) (l:List (Src×xA)):Prop where
 nd:(l.map (·.2)).Nodup
 na:∀q∈l,q.1.VE≠TO
 np:∀q∈l,∀r∈l,q.1.VE≠r.2
 to:∀q∈l,q.2≠TO
def PZ.tail{TO:xA}{q:Src×xA}{l:List (Src×xA)}(a:PZ TO (q::l)):PZ TO l:=
 ⟨(qM.mp (by simpa using a.nd)).2,λq b=>a.na q (zJ _ b),λq b r c=>a.np q (zJ _ b) r (zJ _ c),λq b=>a.to q (zJ _ b)⟩
section
variable{prog:xF}{w:xM}{A:xB}{E:xL->xH->Prop}{s:xH}
theorem NL.at{TO p:xA}{u:Src}{i:Nat}{h h':Heap}{l:List (Src×xA)}(a:PZ TO ((u,p)::l))(j:∀b o,b≠TO->b≠p->h.get? b=u4 o->h'.get? b=u4 o)(d:NL h i l):NL h' i l:=by
 have n:∀q∈l,q.2≠p:=λq f e=>(qM.mp (by simpa using a.nd)).1 (zD.mpr ⟨q,f,e⟩)
 have k:∀q∈l,q.1.VE≠p:=λq f=>a.np q (zJ _ f) (u,p) zW
 have g:=a.tail;clear a
 induction d with
 |here c m r=>exact .here (c.at λo e=>j _ o (g.to _ zW) (n _ zW) e) (m.at λo e=>j _ o (g.na _ zW) (k _ zW) e) r
 | there c m r t v=>
  exact .there (c.at λo e=>j _ o (g.to _ zW) (n _ zW) e) (m.at λo e=>j _ o (g.na _ zW) (k _ zW) e) r
   (v (λq f=>n q (zJ _ f)) (λq f=>k q (zJ _ f)) g.tail)
theorem da{z TO:xA}{i:Nat}{f:xL×Nat->Option Fin×PUnit->Sem (ForInStep (Option Fin×PUnit))}{R:Option Fin×PUnit->xH->Prop}(M:A.handled=u5)
  (J:∀(p:xA)(k:Nat)(s:xH)(K:ForInStep (Option Fin×PUnit)->xH->Prop),ZS prog w A E z TO p k (λs'=>K (.yield (u5,⟨⟩)) s') s->
   vk (vY prog w) A (f (.ref p,k) (u5,⟨⟩)) K E s):
  ∀(l:List (Src×xA))(m:List xL)(n:Nat)(s:xH),NL s.heap i l->Tp s.heap TO m->m.length<=1000000->PZ TO l->
   (∀h' e,(∀b o,b≠TO->b∉l.map (·.2)->s.heap.get? b=u4 o->h'.get? b=u4 o)->(∃o,h'.get? e=u4 o/\o.cls=.type "StopIteration")->vk (vY prog w) A (setField (.ref z) 0 .none) (λ_ F=>E (.ref e) F) E {s with heap:=h'})->
   vk (vY prog w) A (forIn ((l.map λq=>Value.ref q.2).zipIdx n) (u5,⟨⟩) f) R E s
 |[],m,n,s,d,I,B,a,y=>by cases d
 | (P,p)::l,m,n,s,d,I,B,a,y=>by
  rw[zy,xW,xw];refine vB (J p n s _ ?_);cases d with
  |here g v H=>
   exact Src.XN M g v H λh' e N x=>y h' e (λb o C h q=>N b o (λz=>h (by rw[z];simp)) q) x
  |there g v H t=>
   refine d8 I B g v H λh' u O L sz=>?_
   refine da M J l _ (n+1) {s with heap:=h'} (t.at a L) u (by simpa using B) a.tail λr e j x=>?_
   refine y r e (λb o C h q=>?_) x;simp only[zy,zK,not_or]at h;exact j b o C h.2 (L b o C h.1 q)
def dc{z TI TO:xA}{l:List (Src×xA)}{R:Fin->xH->Prop}(hz:IsZip s.heap z TI TO .none)(F:Tp s.heap TI (l.map λq=>Value.ref q.2))(J:l≠[])
  (h:∀c,IsZip c z TI TO .ellipsis->qI z s.heap c->∀f:xL×Nat->Option Fin×PUnit->Sem (ForInStep (Option Fin×PUnit)),
   (∀(p:xA)(k:Nat)(s:xH)(H:ForInStep (Option Fin×PUnit)->xH->Prop),ZS prog w A E z TO p k (λs'=>H (.yield (u5,⟨⟩)) s') s->
    vk (vY prog w) A (f (.ref p,k) (u5,⟨⟩)) H E s)->
   vk (vY prog w) A (forIn ((l.map λq=>Value.ref q.2).zipIdx 0) (u5,⟨⟩) f) (λr s'=>r.1=u5/\∃us,Tp s'.heap TO us/\us.length<=1000000/\IsZip s'.heap z TI TO .ellipsis/\
    ∀h',IsZip h' z TI TO (vq s'.heap.objs.size)->Tp h' s'.heap.objs.size us->h'.objs.size=s'.heap.objs.size+1->(∀b o,b≠z->s'.heap.get? b=u4 o->h'.get? b=u4 o)->R (.done (.ret (.ref s'.heap.objs.size))) {s' with heap:=h'}) E {s with heap:=c}):
  vk (vY prog w) A (Builtin.«zip.__next__» ⟨[.ref z],[]⟩) R E s:=by
 refine vB (m:=field (.ref z) 2) (vE hz rfl (x:=.bool u7) rfl (vB (vE hz rfl rfl (vB (wpAny_seqItems F rfl ?_)))));dsimp only;have y:(l.map λq=>Value.ref q.2).toArray.isEmpty=u7:=by cases l with
  |nil=>exact absurd rfl J
  |cons _ _=>simp
 rw[y];refine vB ?_;unfold va;refine vB (vE hz rfl rfl (vL ?_));simp only[if_true];refine vB (wpAny_rule (vB (vE hz rfl rfl (vB (vM hz (by simp) λc j t=>?_)))));refine vB (vG (h c j t _ λp k s H C=>?_) (λr s' Q=>?_) λ_ _ x=>x)
 .refine vB (wpAny_onRaise ?_);refine vB (vG C (λx U T=>vL ?_) λ_ _ x=>x);obtain⟨W,B,I,K⟩:=T;dsimp only;refine vB (wpAny_seqItems B rfl ?_);dsimp only;exact vB (yR B I λh' P S=>vB (wpAny_letGo (vL (K h' P S))))
 .obtain⟨N,us,B,I,v,K⟩:=Q;rw[N];dsimp only;refine vB (wpAny_seqItems B rfl ?_);dsimp only;refine vB (wpAny_newTuple ?_ (by simpa using z8 I ZC));have g:=zx v;refine vB ?_;unfold vb;have O:us.toArray.toList.toArray=us.toArray:=by simp
  rw[O];refine vB (vM (zZ _ v) (by simp) λL n e=>?_);refine vM n (by simp) λu i d=>?_
  refine vL (K u i (d.extBut _ _ (jx g) (e.extBut _ _ (jx g) (z6 _ rfl))) ?_ λb o M q=>d.extBut _ _ M (e.extBut _ _ M (zZ _ q)));rw[d.1];rw[e.1,q9]
def yS{z TI TO:xA}{i:Nat}{l:List (Src×xA)}{us W:List xL}{Q:Option xL->xH->Prop}(hz:IsZip s.heap z TI TO .none)(I:Tp s.heap TI (l.map λq=>Value.ref q.2))(U:Tp s.heap TO W)(n:W.length=l.length)(QL:l.length<=1000000)(N:l≠[])
  (a:PZ TO l) (y:z≠TO/\(∀q∈l,q.2≠z/\q.1.VE≠z)) (d:YV s.heap i l us)
  (Y:∀h',IsZip h' z TI TO (vq s.heap.objs.size)->Tp h' TO us->(∀q∈l,q.1.it h' q.2 (i+1))->Tp h' s.heap.objs.size us->h'.objs.size=s.heap.objs.size+1->
   (∀b o,b≠z->b≠TO->b∉l.map (·.2)->s.heap.get? b=u4 o->h'.get? b=u4 o)->Q (u4 (.ref s.heap.objs.size)) {s with heap:=h'}):vk (vY prog w) A (pyNext (.ref z)) Q E s:=by
 have Z:s.TypeIs (.ref z) "zip":=⟨_,hz,rfl⟩;unfold pyNext;refine vB (wpAny_attempt (vC Z jh (vD jh Z wb ?_ (wc _))));refine dc hz I N λh x m body T=>?_
 have g:∀b o,b≠z->s.heap.get? b=u4 o->h.get? b=u4 o:=λb o T q=>m.extBut b o T q
 have O:YV h i l us:=by
  have S:=y.2;clear I n QL N a y Y
  induction d with
  |nil=>exact .nil
  |cons X hv hx t ih=>exact .cons (X.at λo e=>g _ o (S _ zW).1 e) (hv.at λo e=>g _ o (S _ zW).2 e) hx (ih λq C=>S q (zJ _ C))
 refine d9 T l us [] W {s with heap:=h} O (g _ _ (.symm y.1) U) n (by simpa[n]using QL) a.nd a.na a.np λL r B u v=>⟨rfl,us,r,d.length▸QL,?_,λM H J P K=>?_⟩
 .refine u _ _ y.1 (λhm=>?_) x;obtain⟨q,C,e⟩:=zD.mp hm;exact(y.2 q C).1 e
 have e2:=v▸m.1;refine⟨_,rfl,vL ?_⟩;have p:=H;have k:=J;have j:=P;have f:=K;rw[e2]at p k j⊢;exact Y M p (f _ _ (.symm y.1) r) (λq C=>(B q C).at λo e=>f _ o (y.2 q C).1 e) k j λb o b1 b2 b3 q=>f b o b1 (u b o b2 b3 (g b o b1 q))
def yT{z TI TO:xA}{i:Nat}{l:List (Src×xA)}{P:List xL}{Q:Option xL->xH->Prop}(hh:A.handled=u5)(hz:IsZip s.heap z TI TO .none)(u:Tp s.heap TI (l.map λq=>Value.ref q.2))(M:Tp s.heap TO P)(m:P.length=l.length)(QL:l.length<=1000000)(H:l≠[])
  (a:PZ TO l) (y:z≠TO/\(∀q∈l,q.2≠z/\q.1.VE≠z)) (d:NL s.heap i l)
  (T:∀h',(∀b o,b≠z->b≠TO->b∉l.map (·.2)->s.heap.get? b=u4 o->h'.get? b=u4 o)->Q u5 {s with heap:=h'}):vk (vY prog w) A (pyNext (.ref z)) Q E s:=by
 have U:s.TypeIs (.ref z) "zip":=⟨_,hz,rfl⟩;unfold pyNext;refine vB (wpAny_attempt (vC U jh (vD jh U wb ?_ (wc _))));refine dc hz u H λg n p X L=>?_
 have f:∀b o,b≠z->s.heap.get? b=u4 o->g.get? b=u4 o:=λb o L q=>p.extBut b o L q
 have I:NL g i l:=by
  have v:=y.2;clear u m QL H a y T
  induction d with
  |here r J S=>exact .here (r.at λo e=>f _ o (v _ zW).1 e) (J.at λo e=>f _ o (v _ zW).2 e) S
  |there r J S t Z=>exact .there (r.at λo e=>f _ o (v _ zW).1 e) (J.at λo e=>f _ o (v _ zW).2 e) S (Z λq K=>v q (zJ _ K))
 refine da (A:=A.in1) (hh) L l P 0 {s with heap:=g} I (f _ _ (.symm y.1) M) (m▸QL) a λB e k st=>?_
 have h:IsZip B z TI TO .ellipsis:=by refine k _ _ y.1 (λhm=>?_) n;obtain⟨q,K,e⟩:=zD.mp hm;exact(y.2 q K).1 e
 obtain⟨o,O,W⟩:=st;have N:e≠z:=λx=>by subst x;rw[h]at O;cases O;simp at W
 refine vM h (by simp) λC _ j=>?_
 exact vB (wpAny_isInstance ⟨o,j.extBut _ _ N O,W⟩ isSubtype_stop (vL (T C λb o Y b2 b3 q=>j.extBut _ _ Y (k b o b2 b3 (f b o Y q)))))
theorem de:∀(c:List Src)(pre:Array xL)(s:xH){Q:Array xL->xH->Prop},(∀d∈c,∃xs,d.val s.heap xs)->
  (∀h',(∀q∈c.zipIdx s.heap.objs.size,q.1.it h' q.2 0)->h'.objs.size=s.heap.objs.size+c.length->(∀b o,s.heap.get? b=u4 o->h'.get? b=u4 o)->Q (pre++((c.zipIdx s.heap.objs.size).map λq=>Value.ref q.2).toArray) {s with heap:=h'})->
  vk (vY prog w) A (forIn (c.map λd=>Value.ref d.VE) pre λx r=>do let v<-holding r.toList (pyIter x);pure (ForInStep.yield (r.push v))) Q E s
 |[],pre,s,Q,j,h=>by rw[jN,List.forIn_nil];refine vL ?_;have:=h s.heap (λq f=>by cases f) rfl (λ_ _ e=>e);simpa using this
 | d::c,pre,s,Q,j,h=>by
  rw[zy,xw];obtain⟨xs,y⟩:=j d zW;refine vB (vB (vF (Src.iter y (vL ?_))));dsimp only;refine de c (pre.push (.ref s.heap.objs.size)) {s with heap:=s.heap.push {cls:=.type d.VO,data:=.fields #[.ref d.VE,.int 0 0]}} (λl t=>?_) λh' i k g=>?_
  .obtain⟨u,p⟩:=j l (zJ _ t);exact⟨u,p.at λo e=>zZ _ e⟩
  dsimp only at i k g⊢;rw[q9 ..]at i k⊢;have:=h h' (λq f=>?_) (by rw[k,zH];lia) (λb o e=>g b o (zZ _ e))
  .rw[xW,zy]at this;simpa using this
  .rw[xW]at f;rcases zK.mp f with rfl|f
   .exact⟨_,g _ _ (z6 _ rfl),rfl,rfl⟩
   exact i q f
def yU{c:List Src}{Q:xL->xH->Prop}(r:∀d∈c,∃xs,d.val s.heap xs)(H:c.length<=1000000)
  (y:checkTypeCall "zip" ⟨c.map λd=>Value.ref d.VE,[]⟩=pure ()) (t:vQ "zip.__new__" ⟨.type "zip"::c.map λd=>Value.ref d.VE,[]⟩=pure ()) (OB:∀obj,argsOk "object.__init__" ⟨obj::c.map λd=>Value.ref d.VE,[]⟩)
  (h:∀h' n,n=s.heap.objs.size+c.length->IsZip h' (n+2) n (n+1) .none->Tp h' n ((c.zipIdx s.heap.objs.size).map λq=>Value.ref q.2)->Tp h' (n+1) (c.map λ_=>Value.none)->(∀q∈c.zipIdx s.heap.objs.size,q.1.it h' q.2 0)->
   (∀b o,s.heap.get? b=u4 o->h'.get? b=u4 o)->Q (.ref (n+2)) {s with heap:=h'}):
  vk (vY prog w) A (call (.type "zip") (c.map λd=>Value.ref d.VE)) Q E s:=by
 have g:Meets (Builtin.«zip.__new__» ⟨.type "zip"::c.map λd=>.ref d.VE,[]⟩) (λ_ R s=>(∀d∈c,∃xs,d.val s.heap xs)/\
   ∀h' n,n=s.heap.objs.size+c.length->IsZip h' (n+2) n (n+1) .none->Tp h' n ((c.zipIdx s.heap.objs.size).map λq=>.ref q.2)->Tp h' (n+1) (c.map λ_=>.none)->(∀q∈c.zipIdx s.heap.objs.size,q.1.it h' q.2 0)->
    (∀b o,s.heap.get? b=u4 o->h'.get? b=u4 o)->R (.ok (.ret (.ref (n+2)))) {s with heap:=h'}):=
  .of_wp λprog w A R s M=>by
   obtain⟨r,N⟩:=M;have C:=sub_zip;unfold Builtin.«zip.__new__» uk
   wp_walk
   refine de c #[] s r λk x j u=>vL ?_
   have L:(#[]++((c.zipIdx s.heap.objs.size).map λq=>.ref q.2).toArray:Array xL).toList=(c.zipIdx s.heap.objs.size).map λq=>.ref q.2:=by simp
   rw[L];have f:((c.zipIdx s.heap.objs.size).map λq=>Value.ref q.2).length=c.length:=by simp
   refine vB (wpAny_newTuple ?_ (f▸z8 H ZC));refine vB (wpAny_newTuple ?_ (by rw[zO,f];exact z8 H ZC));refine vB ?_;unfold uy;dsimp only;refine vH (vL ⟨_,rfl,?_⟩) (by simp[sizeOk,u0,vz]);generalize P:s.heap.objs.size+c.length=n at*;have J:((c.zipIdx s.heap.objs.size).map λq=>Value.ref q.2).map (λ_=>.none)=c.map λ_=>Value.none:=by refine qG (by simp) λi k O=>by simp
   dsimp only;rw[J];generalize((c.zipIdx s.heap.objs.size).map λq=>Value.ref q.2)=m at*;generalize(c.map λ_=>Value.none)=B at*;have l:(k.push {cls:=.type "tuple",data:=.seq m.toArray}).objs.size=n+1:=by rw[q9,j]
   have z:((k.push {cls:=.type "tuple",data:=.seq m.toArray}).push {cls:=.type "tuple",data:=.seq B.toArray}).objs.size=n+2:=by rw[q9,l]
   rw[z];refine N _ n rfl ?_ (zZ _ (zZ _ (by rw[<-j];exact z6 _ rfl))) (zZ _ (by rw[<-l];exact z6 _ rfl)) (λq K=>(x q K).at λo e=>zZ _ (zZ _ (zZ _ e))) λb o e=>zZ _ (zZ _ (zZ _ (u b o e)))
   have:=z6 ((k.push {cls:=.type "tuple",data:=.seq m.toArray}).push {cls:=.type "tuple",data:=.seq B.toArray}) (o:={cls:=.type "zip",data:=.fields #[.none,.bool u7,.bool u7,.ref k.objs.size,.ref (k.push {cls:=.type "tuple",data:=.seq m.toArray}).objs.size]}) rfl;rw[z]at this;rw[j,l]at this;rw[j,l];exact this
 refine callType_new PySem.F.called_zip (by decide) y t OB PySem.F.entry_zip_new g ⟨r,λh' n I j p v x u=>⟨⟨_,j,rfl⟩,h h' n I j p v x u⟩⟩
end
end _D
namespace _D
open PySem PySem.W PyProof.Rows
section
def Bq(lt:Nat->Nat->Bool){α:Type}:KasT α->α
 |.ret a=>a
 |.ask i j k=>Bq lt (k (lt i j))
theorem O5(lt:Nat->Nat->Bool){a b:Type}(f:a->KasT b):∀t:KasT a,Bq lt (t.bind f)=Bq lt (f (Bq lt t))
 |.ret _=>rfl
 |.ask i j k=>O5 lt f (k (lt i j))
structure WO (lt:Nat->Nat->Bool):Prop where
 Tb:∀i j,lt i j=u6->lt j i=u7
 neg:∀i j k,lt i k=u6->lt i j=u6\/lt j k=u6
variable{lt:Nat->Nat->Bool}
def WO.refl(o:WO lt)(i:Nat):lt i i=u7:=by
 cases h:lt i i
 .rfl
 have:=o.Tb i i h;rw[h]at this;exact this
def WO.tr(o:WO lt)(b:lt j i=u7)(a:lt k j=u7):lt k i=u7:=by
 cases h:lt k i
 .rfl
 rcases o.neg k j i h with z|z
 .rw[z]at a;cases a
 rw[z]at b;cases b
abbrev pt(p:Array Nat)(j:Nat):Nat:=p.getD j 0
def N7(p:Array Nat)(j:Nat):pt p j=(p[j]?).getD 0:=by simp[pt]
def RU(lt:Nat->Nat->Bool)(p:Array Nat)(k:Nat):Prop:=∀i j,i<=j->j<k->lt (pt p j) (pt p i)=u7
def O'(lt:Nat->Nat->Bool)(p:Array Nat)(k:Nat):Prop:=∀i j,i<=j->j<k->lt (pt p i) (pt p j)=u7
def Hl(a:j<=p.size)(k:Nat):pt (vR p i j) k=if i<=k/\k<j then pt p (i+j-1-k)else pt p k:=by
 rw[N7,vR,getElem?_mirror_all a]
 split <;> exact(N7 ..).symm
def yV(e:src<p.size)(c:d<=src)(k:Nat):pt (bubble p src d) k=if k=src-d then pt p src else if src-d<k/\k<=src then pt p (k-1)else pt p k:=by
 rw[N7,getElem?_bubble e d c];by_cases b:k=src-d
 .rw[if_pos b,if_pos b];exact(N7 ..).symm
 rw[if_neg b,if_neg b];by_cases a:src-d<k/\k<=src
 .rw[if_pos a,if_pos a];exact(N7 ..).symm
 rw[if_neg a,if_neg a];exact(N7 ..).symm
theorem Ws(o:WO lt)(p:Array Nat):∀f n,1<=n->RU lt p n->∀m,Bq lt (kas_asc p f n)=m->n<=m/\m<=n+f/\RU lt p m/\(m<n+f->lt (pt p m) (pt p (m-1))=u6)
 |0,n,r,h,m,e=>by have g:=e;subst g;exact⟨zY _,zY _,h,λz=>absurd z (qX _)⟩
 | f+1,n,r,h,m,e=>by
  unfold kas_asc at e;have k:Bq lt (if lt (pt p n) (pt p (n-1))=u6 then KasT.ret n else kas_asc p f (n+1))=m:=e;cases l:lt (pt p n) (pt p (n-1))with
  |true=>
   rw[l,if_pos rfl]at k;have g:n=m:=k;subst g;exact⟨zY _,by lia,h,λ_=>l⟩
  | false=>
   rw[l,if_neg (by simp)]at k;have s:RU lt p (n+1):=λi j q u=>by
    by_cases e:j<n
    .exact h i j q e
    have g:j=n:=by lia
    subst g;by_cases t:i=j
    .rw[t];exact o.refl _
    exact o.tr (h i (j-1) (by lia) (by lia)) l
   obtain⟨a,b,c,d⟩:=Ws o p f (n+1) (by lia) s m k;exact⟨by lia,by lia,c,λz=>d (by lia)⟩
structure Dn (lt:Nat->Nat->Bool) (p:Array Nat) (n q:Nat):Prop where
 ni:O' lt p n
 al:∀i j,n-(q+1)<=i->i<n->n-(q+1)<=j->j<n->lt (pt p i) (pt p j)=u7
 qn:q+1<=n
def O'.rev(d:Dn lt p n q)(c:n<=p.size):O' lt (vR p (n-(q+1)) n) n:=λi j b a=>by
 have:=d.qn;rw[Hl c,Hl c];by_cases e:n-(q+1)<=i
 .rw[if_pos ⟨e,by lia⟩,if_pos ⟨by lia,a⟩];exact d.al _ _ (by lia) (by lia) (by lia) (by lia)
 rw[if_neg (by lia)];by_cases f:n-(q+1)<=j
 .rw[if_pos ⟨f,a⟩];exact d.ni _ _ (by lia) (by lia)
 .rw[if_neg (by lia)];exact d.ni i j b a
theorem Vq(o:WO lt):∀f(p:Array Nat)n q,n+f<=p.size->Dn lt p n q->∀r,Bq lt (kas_desc f p n q)=r->r.1.Perm p/\r.2.1<=n+f/\n<=r.2.1/\Dn lt r.1 r.2.1 r.2.2
 |0,p,n,q,hz,d,r,e=>by have e':=e;subst e';exact⟨.refl _,zY _,zY _,d⟩
 | f + 1,p,n,q,hz,d,r,e=>by
  have qn:=d.qn;unfold kas_desc at e;have e1:Bq lt (if lt (pt p n) (pt p (n-1))=u6 then(if q>0 then kas_desc f (vR p (n-(q+1)) n) (n+1) 0 else kas_desc f p (n+1) 0)
   else .ask (p.getD (n-1) 0) (p.getD n 0) λd=>if d=u6 then .ret (p,n,q)else kas_desc f p (n+1) (q+1))=r:=e
  clear e;cases hc:lt (pt p n) (pt p (n-1))with
  | true=>
   rw[hc,if_pos rfl]at e1;have ext:∀p':Array Nat,O' lt p' n->pt p' n=pt p n->(∀k,k<n->lt (pt p n) (pt p' k)=u6\/k<n)->lt (pt p' (n-1)) (pt p' n)=u7->Dn lt p' (n+1) 0:=λp' hni _ _ hl=>by
    refine⟨λi j hij hj=>?_,λi j h1 h2 h3 h4=>?_,by lia⟩
    .by_cases e:j<n
     .exact hni i j hij e
     have e':j=n:=by lia
     subst e';by_cases e2:i=j
     .rw[e2];exact o.refl _
     exact o.tr hl (hni i (j-1) (by lia) (by lia))
    have e1:i=n:=by lia
    have e2:j=n:=by lia
    rw[e1,e2];exact o.refl _
   by_cases hq:q>0
   .rw[if_pos hq]at e1;have hl:lt (pt (vR p (n-(q+1)) n) (n-1)) (pt (vR p (n-(q+1)) n) n)=u7:=by
     rw[Hl (by lia),Hl (by lia),if_pos (by lia),if_neg (by lia)];cases hx:lt (pt p (n-(q+1)+n-1-(n-1))) (pt p n)
     .rfl
     rcases o.neg _ (pt p (n-1)) _ hx with z|z
     .rw[d.al _ _ (by lia) (by lia) (by lia) (by lia)]at z;cases z
     rw[o.Tb _ _ hc]at z;cases z
    obtain⟨a,b,c,dd⟩:=Vq o f _ (n+1) 0 (by rw[vR,mirror_size];lia) (ext _ (.rev d (by lia)) (by rw[Hl (by lia),if_neg (by lia)]) (λk hk=>.inr hk) hl) r e1;exact⟨a.trans (mirror_perm ..),by lia,by lia,dd⟩
   rw[if_neg hq]at e1;obtain⟨a,b,c,dd⟩:=Vq o f p (n+1) 0 (by lia) (ext p d.ni rfl (λk hk=>.inr hk) (o.Tb _ _ hc)) r e1;exact⟨a,by lia,by lia,dd⟩
  | false=>
   rw[hc,if_neg (by simp)]at e1;have e2:Bq lt (if lt (pt p (n-1)) (pt p n)=u6 then .ret (p,n,q)else kas_desc f p (n+1) (q+1))=r:=e1;cases hd:lt (pt p (n-1)) (pt p n)with
   |true=>
    rw[hd,if_pos rfl]at e2;have e3:=e2;subst e3;exact⟨.refl _,by show n<=_;lia,zY _,d⟩
   | false=>
    rw[hd,if_neg (by simp)]at e2;have al':∀i,n-(q+1)<=i->i<n+1->lt (pt p i) (pt p n)=u7/\lt (pt p n) (pt p i)=u7:=λi h1 h2=>by
     by_cases e:i=n
     .rw[e];exact⟨o.refl _,o.refl _⟩
     exact⟨o.tr hd (d.al i (n-1) h1 (by lia) (by lia) (by lia)),o.tr (d.al (n-1) i (by lia) (by lia) h1 (by lia)) hc⟩
    obtain⟨a,b,c,dd⟩:=Vq o f p (n+1) (q+1) (by lia) ⟨λi j hij hj=>by
     by_cases e:j<n
     .exact d.ni i j hij e
     .have e':j=n:=by lia
      subst e';by_cases e2:i=j
      .rw[e2];exact o.refl _
      exact o.tr hd (d.ni i (j-1) (by lia) (by lia)),λi j h1 h2 h3 h4=>by
     by_cases ei:i=n
     .rw[ei];exact(al' j (by lia) h4).2
     by_cases ej:j=n
     .rw[ej];exact(al' i (by lia) h2).1
     exact d.al i j (by lia) (by lia) (by lia) (by lia),by lia⟩ r e2
    exact⟨a,by lia,by lia,dd⟩
def df(o:WO lt)(g:1<=n)(l:n<=nrem)(hz:nrem<=p.size)(d:O' lt p n):∀r,Bq lt (kas_tail3 n nrem p)=r->r.2.Perm p/\r.1<=nrem/\1<=r.1/\RU lt r.2 r.1:=by
 intro r e;unfold kas_tail3 at e;rw[O5]at e;have k:RU lt (vR p 0 n) n:=λi j h m=>by rw[Hl (by lia),Hl (by lia),if_pos (by lia),if_pos (by lia)];exact d _ _ (by lia) (by lia)
 obtain⟨a,b,c,_⟩:=Ws o (vR p 0 n) (nrem-n) n g k _ rfl;have f:(Bq lt (kas_asc (vR p 0 n) (nrem-n) n),vR p 0 n)=r:=e;subst f;exact⟨mirror_perm ..,by lia,by lia,c⟩
def dg(o:WO lt)(z:1<=n)(w:n<nrem)(hz:nrem<=p.size)(m:∀i j,i<n->j<n->lt (pt p i) (pt p j)=u7)(q:lt (pt p n) (pt p (n-1))=u6):
  ∀r,Bq lt (kas_descPart n nrem p)=r->r.2.Perm p/\r.1<=nrem/\1<=r.1/\RU lt r.2 r.1:=by
 intro r e;unfold kas_descPart at e;rw[O5]at e;have v:Dn lt p (n+1) 0:=⟨λi j u y=>by
  by_cases e:j<n
  .exact m i j (by lia) e
  .have s:j=n:=by lia
   subst s;by_cases l:i=j
   .rw[l];exact o.refl _
   exact o.tr (o.Tb _ _ q) (m i (j-1) (by lia) (by lia)),λi j _ _ _ _=>by
  have t:i=n:=by lia
  have l:j=n:=by lia
  rw[t,l];exact o.refl _,by lia⟩
 obtain⟨a,b,c,d⟩:=Vq o (nrem-(n+1)) p (n+1) 0 (by lia) v _ rfl
 revert a b c d e
 generalize Bq lt (kas_desc (nrem-(n+1)) p (n+1) 0)=x;intro e a b c d;have A:=a.size_eq;split at e
 .obtain⟨f,k,g,h⟩:=df o (by lia) (by lia) (by rw[vR,mirror_size];lia) (.rev d (by lia)) r e;exact⟨(f.trans (mirror_perm ..)).trans a,k,g,h⟩
 obtain⟨f,k,g,h⟩:=df o (by lia) (by lia) (by lia) d.ni r e;exact⟨f.trans a,k,g,h⟩
def yW(o:WO lt)(C:1<=nrem)(hz:nrem<=p.size):∀r,Bq lt (kas_count nrem p)=r->r.2.Perm p/\r.1<=nrem/\1<=r.1/\RU lt r.2 r.1:=by
 intro r e;unfold kas_count at e;rw[O5]at e;obtain⟨a,b,c,d⟩:=Ws o p (nrem-1) 1 (zY _) (λi j y k=>by
  have g:i=0:=by lia
  have h:j=0:=by lia
  rw[g,h];exact o.refl _) _ rfl
 revert a b c d e
 generalize Bq lt (kas_asc p (nrem-1) 1)=n;intro e a b c d;split at e
 .have f:(n,p)=r:=e;subst f;exact⟨.refl _,by lia,a,c⟩
 rename_i m;have t:n<nrem:=by
  have:n≠nrem:=by simpa using m
  lia
 have s:=d (by lia);split at e
 .rename_i B;have f:Bq lt (if lt (pt p 0) (pt p (n-1))=u6 then .ret (n,p)else kas_descPart n nrem (vR p 0 n))=r:=e;cases q:lt (pt p 0) (pt p (n-1))with
  |true=>
   rw[q,if_pos rfl]at f;have h:(n,p)=r:=f;subst h;exact⟨.refl _,by lia,a,c⟩
  | false=>
   rw[q,if_neg (by simp)]at f;have u:∀i j,i<n->j<n->lt (pt p i) (pt p j)=u7:=λi j l k=>o.tr (c j (n-1) (by lia) (by lia) |> λz=>z) (o.tr q (c 0 i (by lia) l) |> λz=>by exact z)
   obtain⟨v,A,w,x⟩:=dg o a t (by rw[vR,mirror_size];lia) (λi j l k=>by
    rw[Hl (by lia),Hl (by lia),if_pos (by lia),if_pos (by lia)];exact u _ _ (by lia) (by lia)) (by
    rw[Hl (by lia),Hl (by lia),if_neg (by lia),if_pos (by lia)];rcases o.neg _ (pt p (0+n-1-(n-1))) _ s with z|z
    .exact z
    rw[u _ _ (by lia) (by lia)]at z;cases z) r f
   exact⟨v.trans (mirror_perm ..),A,w,x⟩
 .have g:n=1:=by lia
  subst g;exact dg o (zY _) t hz (λi j l k=>by
   have g:i=0:=by lia
   have h:j=0:=by lia
   rw[g,h];exact o.refl _) s r e
theorem aZ(o:WO lt)(p:Array Nat)(k:Nat)(c:RU lt p k):∀f l r,r-l<=f->l<=r->r<=k->(∀i,i<l->lt (pt p k) (pt p i)=u7)->(∀i,r<=i->i<k->lt (pt p k) (pt p i)=u6)->
  ∀m,Bq lt (kas_place p k f l r)=m->m<=k/\(∀i,i<m->lt (pt p k) (pt p i)=u7)/\(∀i,m<=i->i<k->lt (pt p k) (pt p i)=u6)
 |0,l,r,q,j,n,b,g,m,e=>by have a:l=m:=e;subst a;exact⟨by lia,b,λi d hk=>g i (by lia) hk⟩
 | f+1,l,r,q,j,n,b,g,m,e=>by
  unfold kas_place at e;split at e
  .have a:l=m:=e;subst a;exact⟨by lia,b,λi d hk=>g i (by lia) hk⟩
  rename_i s;have a:Bq lt (if lt (pt p k) (pt p ((l+r)/2))=u6 then kas_place p k f l ((l+r)/2)else kas_place p k f ((l+r)/2+1) r)=m:=e;cases h:lt (pt p k) (pt p ((l+r)/2))with
  |true=>
   rw[h,if_pos rfl]at a;refine aZ o p k c f l ((l+r)/2) (by lia) (by lia) (by lia) b (λi d hk=>?_) m a;rcases o.neg _ (pt p i) _ h with z|z
   .exact z
   rw[c _ i d hk]at z;cases z
  |false=>
   rw[h,if_neg (by simp)]at a;exact aZ o p k c f ((l+r)/2+1) r (by lia) (by lia) n (λi d=>o.tr (c i ((l+r)/2) (by lia) (by lia)) h) g m a
theorem dh(o:WO lt):∀f(p:Array Nat)k,k+f=p.size->RU lt p k->(Bq lt (kas_bin f p k)).Perm p/\RU lt (Bq lt (kas_bin f p k)) p.size
 |0,p,k,t,c=>⟨.refl _,by
  have:k=p.size:=by lia
  rw[<-this];exact c⟩
 | f + 1,p,k,t,c=>by
  unfold kas_bin;rw[O5];obtain⟨q,g,h⟩:=aZ o p k c k 0 k (by lia) (by lia) (zY _) (λi s=>by lia) (λi s hk=>by lia) _ rfl
  revert q g h
  generalize Bq lt (kas_place p k k 0 k)=m;intro q g h;have sz:(bubble p k (k-m)).size=p.size:=bubble_size ..;have e:∀j,pt (bubble p k (k-m)) j=if j=m then pt p k else if m<j/\j<=k then pt p (j-1)else pt p j:=λj=>by
   rw[yV (by lia) (by lia)];have:k-(k-m)=m:=by lia
   rw[this]
  obtain⟨a,b⟩:=dh o f (bubble p k (k-m)) (k+1) (by lia) (λi j l v=>by
   rw[e i,e j];by_cases n:j=m
   .rw[if_pos n];by_cases d:i=m
    .rw[if_pos d];exact o.refl _
    rw[if_neg d,if_neg (by lia)];exact g i (by lia)
   rw[if_neg n];by_cases u:m<j
   .rw[if_pos ⟨u,by lia⟩];by_cases d:i=m
    .rw[if_pos d];exact o.Tb _ _ (h _ (by lia) (by lia))
    .rw[if_neg d];by_cases r:m<i
     .rw[if_pos ⟨r,by lia⟩];exact c _ _ (by lia) (by lia)
     .rw[if_neg (by lia)];exact c _ _ (by lia) (by lia)
   .rw[if_neg (by lia),if_neg (by lia),if_neg (by lia)];exact c i j l (by lia))
  rw[sz]at b;exact⟨a.trans (bubble_perm ..),b⟩
def di(o:WO lt)(h:1<=n):(Bq lt (kas_sort n)).toList.Perm (zQ n)/\RU lt (Bq lt (kas_sort n)) n:=by
 unfold kas_sort;rw[O5];obtain⟨a,b,c,d⟩:=yW o (p:=(zQ n).toArray) h (by simp) _ rfl
 revert a b c d
 generalize Bq lt (kas_count n (zQ n).toArray)=x;intro a b c d;have i:x.2.size=n:=by rw[a.size_eq];simp
 split
 .have e:max x.1 1=x.1:=by lia
  rw[e];obtain⟨g,f⟩:=dh o (n-x.1) x.2 x.1 (by lia) d;rw[i]at f;exact⟨by simpa using(g.trans a).toList,f⟩
 have e:x.1=n:=by lia
 rw[e]at d;exact⟨by simpa[Bq]using a.toList,d⟩
end
end _D
namespace _D
open PySem PySem.Spec _L
open PyProof.Rows hiding St
variable{vS:List (xA×Obj)}{elts:List xC}
section
variable{X:Cx}{vS:List (xA×Obj)}{σ:St}{H:Hp}{s:xH}{h':Heap}
def aa{t':Nat}{fp:List xA}(I:Inv X vS σ H s)(k:∀b o,b∉fp->s.heap.get? b=u4 o->h'.get? b=u4 o)(g:∀b∈fp,VI X vS H b):Inv X vS σ H {s with heap:=h',toks:=t'}:=by
 have f:∀b u,H b=u4 u->b∉fp:=λb u e z=>by rw[(g b z).1]at e;cases e
 refine I.step (λb i=>?_) (λb o _ _ a e _=>k b o a e) (λb o _ _ a e _=>⟨o.slots,k b o a e⟩) (λ_ _ _ _ n=>n)
  (λb o a e=>⟨o,k b o a e⟩) (λ_ _ e=>e) (λ_ _ _ e=>e) (λb C e=>⟨#[],by rw[e];simp⟩) (λm l=>?_) (λb u e=>?_) I.bare
 .obtain⟨B,x,F,t,A,j⟩:=g b i;exact⟨t,x,A,j⟩
 .obtain⟨o,p,w,y,r⟩:=l;exact⟨o,p,w,k _ o (λz=>(g _ z).2.1 rfl) y,r⟩
 refine(I.OB b u e).UI (λc v a q=>k c v ?_ q) (λ_ q=>q) λ_ _ q=>q
 rcases a with z|z
 .rw[z];exact f b u e
 exact f c _ z
def dj{t':Nat}{fp:List xA}{p:xA}{xs:List V}{VA:List xL}(I:Inv X vS σ H s)(k:∀b o,b∉fp->s.heap.get? b=u4 o->h'.get? b=u4 o)(h:∀b∈fp,VI X vS H b)(hp:s.heap.objs.size<=p)
  (hz:xs.length<=sizeLine) (r:Vals xs VA) (i:Tp h' p VA):Inv X vS σ (upd H p (.tup xs)) {s with heap:=h',toks:=t'}:=by
 obtain⟨d,f,l,j,g,e⟩:=I.Hz hp (I.OB.fresh hp);exact aR (aa I k h) d (z8 I.sz hp) f g e ⟨hz,VA,r,_,i,rfl,_,rfl⟩
end
def Src.sq(K:za)(H:Hp)(xs:List V):Src->Prop
 |.l a=>NH K H a xs
 |.t a=>RH K H a xs
theorem Src.sq.val{X:Cx}{d:St}{H:Hp}{s:xH}{b:Src}{xs:List V}(I:Inv X vS d H s)(h:b.sq X.K H xs):∃VA:List xL,Vals xs VA/\b.val s.heap VA.toArray/\xs.length<=sizeLine:=by
 cases b with
 |l a=>obtain⟨VA,r,p,c⟩:=I.list h;exact⟨VA,r,p.isList,c⟩
 |t a=>obtain⟨VA,r,p,c⟩:=I.tuple h;exact⟨VA,r,p,c⟩
theorem Src.sq.inj{X:Cx}{c:St}{H:Hp}{s:xH}{b:Src}{xs ys:List V}(I:Inv X vS c H s)(h:b.sq X.K H xs)(h':b.sq X.K H ys):xs=ys:=by
 cases b with
 |l a=>exact I.X4 h h'
 |t a=>exact I.Xe h h'
def P'(K:za)(sr:Src)(n:Int):It:=
 ⟨λi H=>∃xs x,sr.sq K H xs/\xs[i]?=u4 x,λi H v H'=>∃p x,v=.ref p/\H p=u5/\H'=upd H p (.tup [.int (n+i),x])/\∀xs,sr.sq K H xs->xs[i]?=u4 x,λi H=>∃xs,sr.sq K H xs/\xs.length<=i⟩
def dk{P:xF}{w:xM}{K:za}{x1}{pos:Pos}(Z:Src)(n:Int)(e it:xA)(B:e≠it):
  Turn P w K (.Tuple elts x1 pos) (P' K Z n) [e,it] e (λi h=>∃g a,En h e it .none (n+i) g a/\Gv (n+i) g/\Z.it h it i) where
 mem:=by simp
 obj:=λi h f b j=>by
  obtain⟨g,a,d,_,o,ho,_,hd⟩:=f;rcases(show b=e\/b=it by simpa using j)with rfl|rfl
  .exact⟨_,d,λv z=>by cases z⟩
  exact⟨o,ho,λv z=>by rw[hd]at z;cases z⟩
 keep:=λi h h' f k=>by obtain⟨g,a,d,y,p⟩:=f;exact⟨g,a,k e (by simp) _ d,y,p.at λo q=>k it (by simp) o q⟩
 item:=by
  intro X L hw N Y i m s σ H E I F f y;subst L hw N;obtain⟨xs,x,J,Q⟩:=y;obtain⟨S,O,M,hz⟩:=Src.sq.val I J;obtain⟨u,hu,ru⟩:=O.get Q;obtain⟨g,a,d,r,p⟩:=f;refine yO d r p M (by simpa using hu) B λh1 t tk e1 i1 t1 z1 k1=>⟨_,rfl,?_⟩
  refine yQ e1 λh2 e2 T=>?_
  have A:=jx (zx d);have I2:Inv X m σ (upd H s.heap.objs.size (.tup [.int (n+i),x])) {s with heap:=h2,toks:=tk}:=
   dj I (λb o j q=>by
    have c:b≠e/\b≠it:=by simpa using j
    exact T.extBut b o c.1 (k1 b o c.1 c.2 q)) F (zY _) (by show 2<=sizeLine;decide) (.cons ⟨t,rfl⟩ (.cons ru .nil)) (T.extBut _ _ A t1)
  refine⟨.ref s.heap.objs.size,_,I2,rfl,⟨_,x,rfl,I.OB.fresh (zY _),rfl,λys hy=>(Src.sq.inj I hy J)▸Q⟩,⟨.none,u,?_,.inl rfl,i1.at λo q=>T.extBut _ _ (.symm B) q⟩,λb j=>?_⟩
  .have ee:n+(i:Int)+1=n+((i+1:Nat):Int):=by lia
   rw[<-ee];exact e2
  have c:b=e\/b=it:=by simpa using j
  rw[Ah (λz=>?_)]
  .exact(F b j).1
  .rcases c with rfl|rfl
   .exact A z.symm
   .have C:=Src.it.lt p;rw[z]at C;exact qX _ C
 done:=by intro X L hw N Y i m s σ H E I F f y;subst L hw N;obtain⟨xs,J,Q⟩:=y;obtain⟨S,O,M,hz⟩:=Src.sq.val I J;obtain⟨g,a,d,r,p⟩:=f;have hl:=O.length;exact yP (I.ok.hd Y) d p M (by simp;lia) λh1 xb=>⟨rfl,aa I (λb o j q=>xb b o (λz=>j (by simp[z])) q) F⟩
 self:=λ_ _ _ _ _ f h=>by obtain⟨g,a,d,_⟩:=f;exact Zv d h
section
variable{X:Cx}{E:XK}
def yX{prog:xF}{w:xM}{A:xB}{E:xL->xH->Prop}{s:xH}{sr:Src}{xs:Array xL}{Q:xL->xH->Prop}(hv:sr.val s.heap xs)
  (h:∀h',En h' (s.heap.objs.size+1) s.heap.objs.size .none 0 .none .none->sr.it h' s.heap.objs.size 0->(∀b o,s.heap.get? b=u4 o->h'.get? b=u4 o)->Q (.ref (s.heap.objs.size+1)) {s with heap:=h'}):
  vk (vY prog w) A (call (.type "enumerate") [.ref sr.VE]) Q E s:=by
 have g:Meets (Builtin.«enumerate.__new__» ⟨[.type "enumerate",.ref sr.VE],[]⟩) (λ_ R s=>sr.val s.heap xs/\
   R (.ok (.ret (.ref (s.heap.push {cls:=.type sr.VO,data:=.fields #[.ref sr.VE,.int 0 0]}).objs.size)))
    {s with heap:=(s.heap.push {cls:=.type sr.VO,data:=.fields #[.ref sr.VE,.int 0 0]}).push {cls:=.type "enumerate",data:=.fields #[.none,.bool u7,.ref s.heap.objs.size,vq 0,.none,.none]}}):=
  .of_wp λprog w A R s h=>by
   obtain⟨hp,g,d,tk,os⟩:=s;obtain⟨hl,h⟩:=h;have hsub:=sub_enumerate;have hL:=hl
   wp_walk
   refine wpAny_stack_any λst=>vL ?_
   split
   .rename_i c _ _ _ _ _
    cases(c==Value.type "enumerate")<;>(wp_walk using Src.iter hL;exact⟨_,rfl,h⟩)
   wp_walk using Src.iter hL
   exact⟨_,rfl,h⟩
 refine callType_new wd (by decide) (PySem.F.typeCall_enumerate_1 _) (PySem.F.newCall_enumerate_1 _) (λobj=>PySem.F.args_object_init_2 obj _) we g ⟨hv,?_⟩;have hz:(s.heap.push {cls:=.type sr.VO,data:=.fields #[.ref sr.VE,.int 0 0]}).objs.size=s.heap.objs.size+1:=q9 ..;rw[hz];have he:En ((s.heap.push {cls:=.type sr.VO,data:=.fields #[.ref sr.VE,.int 0 0]}).push {cls:=.type "enumerate",data:=.fields #[.none,.bool u7,.ref s.heap.objs.size,vq 0,.none,.none]}) (s.heap.objs.size+1) s.heap.objs.size .none 0 .none .none:=by
  have:=z6 (s.heap.push {cls:=.type sr.VO,data:=.fields #[.ref sr.VE,.int 0 0]}) (o:={cls:=.type "enumerate",data:=.fields #[.none,.bool u7,.ref s.heap.objs.size,vq 0,.none,.none]}) rfl;rw[hz]at this;exact this
 exact⟨⟨_,he,rfl⟩,h _ he ⟨_,zZ _ (z6 _ rfl),rfl,rfl⟩ λb o x=>zZ _ (zZ _ x)⟩
def yY(K:za)(ta:TA):TI:=λσ H R=>ta σ H λvs H1=>∃sr xs,vs=[.ref (Src.VE sr)]/\sr.sq K H1 xs/\R (P' K sr 0) H1
theorem yZ{x1}(o:Gl X "enumerate")(y:X.mg "enumerate"=u5)(F:PA X [a] ta)(v:vx [a] X.env=[(u7,eval a X.env)]:=by rfl):PI X (.Tuple elts x1 tp) (.Call (.Name "enumerate" p) [a] [] pos) (yY X.K ta):=by
 intro f s z H R I h;refine Call_ (Hn I o y wf (zg (QB (F pos f s z H _ I h) λP c zz=>?_) v rfl));obtain⟨L,k,g,C,l⟩:=zz;obtain⟨w,N,e,n,q⟩:=l;subst e;cases C with
 |cons r t=>
  cases t;cases r;obtain⟨A,M,m,J⟩:=Src.sq.val g n;refine yX m λO j B x=>?_
  refine Zv j ?_;refine⟨c.heap.objs.size+1,[c.heap.objs.size+1,c.heap.objs.size],_,_,k,rfl,g.kept x,dk w 0 _ _ (Nat.succ_ne_self _),⟨.none,.none,by simpa using j,.inl rfl,B⟩,λb u=>?_,q⟩;have i:b=c.heap.objs.size+1\/b=c.heap.objs.size:=by simpa using u
  have d:c.heap.objs.size<=b:=by rcases i with rfl|rfl<;>lia
  exact g.Hz d (g.OB.fresh d)
end
inductive XM (K:za) (H:Hp) (i:Nat):List Src->List V->Prop where
 |nil:XM K H i [] []
 |cons {sr r v us xs} (hq:Src.sq K H xs sr) (hx:xs[i]?=u4 v) (t:XM K H i r us):XM K H i (sr::r) (v::us)
inductive ZV (K:za) (H:Hp) (i:Nat):List Src->Prop where
 |here {sr r xs} (hq:Src.sq K H xs sr) (hx:xs.length<=i):ZV K H i (sr::r)
 |there {sr r v xs} (hq:Src.sq K H xs sr) (hx:xs[i]?=u4 v) (t:ZV K H i r):ZV K H i (sr::r)
def K?(K:za)(ls:List Src):It:=
 ⟨λi H=>∃us,XM K H i ls us,λi H v H'=>∃p us,v=.ref p/\H p=u5/\H'=upd H p (.tup us)/\∀ML,XM K H i ls ML->ML=us,λi H=>ZV K H i ls⟩
theorem XM.length{K:za}{H:Hp}{i:Nat}{a:List Src}{us:List V}(d:XM K H i a us):us.length=a.length:=by
 induction d with
 |nil=>rfl
 |cons _ _ _ b=>simp[b]
section
variable{X:Cx}{vS:List (xA×Obj)}{σ:St}{H:Hp}{s:xH}
theorem XM.inj(I:Inv X vS σ H s):∀{f:List Src}{us ML:List V},XM X.K H i f us->XM X.K H i f ML->us=ML
 |[],_,_,d,b=>by cases d;cases b;rfl
 | k::f,_,_,d,b=>by
  cases d with
  | cons g j t=>
   cases b with
   |cons c a h=>
    have e:=Src.sq.inj I g c;subst e;rw[j]at a;cases a;rw[XM.inj I t h]
theorem XM.S'(I:Inv X vS σ H s):∀{l:List (Src×xA)}{us:List V},XM X.K H i (l.map (·.1)) us->(∀q∈l,q.1.it s.heap q.2 i)->∃a,YV s.heap i l a/\Vals us a
 |[],us,d,h=>by cases d;exact⟨[],.nil,.nil⟩
 | (n,p)::l,us,d,h=>by
  cases d with
  |cons b o t=>
   obtain⟨c,m,g,r⟩:=Src.sq.val I b;obtain⟨u,f,e⟩:=m.get o;obtain⟨a,j,k⟩:=XM.S' I t λq b=>h q (zJ _ b)
   exact⟨u::a,.cons (h (n,p) zW) g (by simpa using f) j,.cons e k⟩
theorem ZV.S'(I:Inv X vS σ H s):∀{l:List (Src×xA)},ZV X.K H i (l.map (·.1))->(∀q∈l,q.1.it s.heap q.2 i)->NL s.heap i l
 |[],d,h=>by cases d
 | (f,p)::l,d,h=>by
  cases d with
  |here a g=>
   obtain⟨b,e,c,k⟩:=Src.sq.val I a;have m:=e.length;exact .here (h (f,p) zW) c (by simp;lia)
  |there a g t=>
   obtain⟨b,e,c,k⟩:=Src.sq.val I a;obtain⟨u,j,n⟩:=e.get g;exact .there (h (f,p) zW) c (by simpa using j) (ZV.S' I t λq a=>h q (zJ _ a))
end
def y0{P:xF}{w:xM}{K:za}{x1}{pos:Pos}(l:List (Src×xA))(z TI TO:xA)(a:PZ TO l)(A:z≠TO/\(∀q∈l,q.2≠z/\q.1.VE≠z))(M:TI≠z/\TI≠TO/\∀q∈l,q.2≠TI)(QL:l.length<=1000000)(x:l≠[]):
  Turn P w K (.Tuple elts x1 pos) (K? K (l.map (·.1))) (z::TI::TO::l.map (·.2)) z
   (λi h=>IsZip h z TI TO .none/\Tp h TI (l.map λq=>Value.ref q.2)/\(∃r,Tp h TO r/\r.length=l.length)/\∀q∈l,q.1.it h q.2 i) where
 mem:=by simp
 obj:=λi h j b c=>by
  obtain⟨m,d,⟨r,f,_⟩,n⟩:=j;rcases zK.mp c with rfl|c
  .exact⟨_,m,λv z=>by cases z⟩
  rcases zK.mp c with rfl|c
  .exact⟨_,d,λv z=>by cases z⟩
  .rcases zK.mp c with rfl|c
   .exact⟨_,f,λv z=>by cases z⟩
   .obtain⟨q,g,rfl⟩:=zD.mp c;obtain⟨o,p,_,Q⟩:=n q g;exact⟨o,p,λv z=>by rw[Q]at z;cases z⟩
 keep:=λi h h' j k=>by obtain⟨m,d,⟨r,f,p⟩,n⟩:=j;exact⟨k z (by simp) _ m,k TI (by simp) _ d,⟨r,k TO (by simp) _ f,p⟩,λq g=>(n q g).at λo e=>k q.2 (by simp only[zK];exact .inr (.inr (.inr (zD.mpr ⟨q,g,rfl⟩)))) o e⟩
 item:=by
  intro X C hw L O i t s σ H E I y j J;subst C hw L;obtain⟨T,F⟩:=J;obtain⟨m,d,⟨r,f,p⟩,n⟩:=j;obtain⟨ws,S,rv⟩:=XM.S' I F n;refine yS m d f p QL x a A S λh1 z1 t1 i1 p1 s1 B=>⟨_,rfl,?_⟩
  refine wpAny_letOwnedTupleGo_zip z1 λh2 z2 u=>?_
  have N:T.length<=sizeLine:=by rw[F.length,zO];exact z8 QL ZC
  have I2:=
   dj (t':=s.toks) I (λb o c q=>by simp only[zK,not_or]at c;exact u.extBut b o c.1 (B b o c.1 c.2.2.1 c.2.2.2 q)) y (zY _) N rv (u.extBut _ _ (jx (zx m)) p1)
  refine⟨.ref s.heap.objs.size,_,I2,rfl,⟨_,T,rfl,I.OB.fresh (zY _),rfl,λML Y=>XM.inj I Y F⟩,⟨z2,(λb o U b2 Z q=>u.extBut b o U (B b o U b2 Z q)) TI _ M.1 M.2.1 (λhm=>?_) d,⟨ws,u.extBut _ _ (.symm A.1) t1,S.length⟩,λq g=>(i1 q g).at λo e=>u.extBut _ _ (A.2 q g).1 e⟩,λb c=>?_⟩
  .obtain⟨q,g,e⟩:=zD.mp hm;exact M.2.2 q g e
  rw[Ah (λe=>?_)]
  .exact(y b c).1
  .have lt:b<s.heap.objs.size:=by
    rcases zK.mp c with rfl|c
    .exact zx m
    .rcases zK.mp c with rfl|c
     .exact zx d
     .rcases zK.mp c with rfl|c
      .exact zx f
      .obtain⟨q,g,rfl⟩:=zD.mp c;exact(n q g).lt
   rw[e]at lt;exact qX _ lt
 done:=by
  intro X C hw L O i t s σ H E I y j J;subst C hw L;obtain⟨m,d,⟨r,f,p⟩,n⟩:=j;refine yT (I.ok.hd O) m d f p QL x a A (ZV.S' I J n) λh1 B=>⟨rfl,?_⟩
  exact aa I (λb o c q=>by simp only[zK,not_or]at c;exact B b o c.1 c.2.2.1 c.2.2.2 q) y
 self:=λ_ _ _ _ _ j h=>wpAny_pyIter_zip j.1 h
def Gp (G:DH) (j:Nat):List D->Option (Option (List D))
 |[]=>u4 (u4 [])
 | d::r=>match Bd d G with
  |none=>u5
  | some xs=>match xs[j]? with
   |none=>u4 u5
   |some x=>match Gp G j r with
    |some (u4 ys)=>u4 (u4 (x::ys))
    |o=>o
def Ey(ds:List D)(j:Nat)(G:DH):Option (Option D):=(Gp G j ds).map λo=>o.map D.tup
def lenOf(G:DH)(d:D):Nat:=match Bd d G with
 |some xs=>xs.length
 |none=>0
def Jc(G:DH)(d:D):Bool:=(Bd d G).isSome
def Dm(n:Int)(d:D)(j:Nat)(G:DH):Option (Option D):=match Bd d G with
 |none=>u5
 |some xs=>u4 (xs[j]?.map λx=>.tup [.int (n+j),x])
def Ez(ds:List D)(G:DH):R TV:=match ds with
 |[d]=>if Jc G d=u6 then .ok (.fn (lenOf G d) (Dm 0 d)) G else .bad
 |_=>.bad
def Ew(n:Nat)(ds:List D)(G:DH):R TV:=if ds.all (Jc G)=u6/\ds.length=n then .ok (.fn (lenOf G (ds.headD .WA)) (Ey ds)) G else .bad
section
variable{X:Cx}{E:XK}
theorem Xl{a:Wd}{G:DH}{d:D}{v:V}{xs:List D}(s:VB a G)(r:XB a d v)(h:Bd d G=u4 xs):
  ∃j:Src,v=.ref j.VE/\(∃vs,j.sq a.K a.H vs)/\∀b:Wd,Ext a b->∀e,VB b e->∀ys,Bd d e=u4 ys->∃us,j.sq b.K b.H us/\OA b ys us:=by
 cases d with
 |tup B=>
  obtain⟨p,vs,rfl,f,n⟩:=r;refine⟨.t p,rfl,⟨vs,f⟩,λb x e k ys c=>?_⟩;cases(c);exact⟨vs,x.SY f,n.mono x⟩
 |fl B=>
  obtain⟨p,vs,rfl,f,n⟩:=r;refine⟨.l p,rfl,⟨vs,f.sq⟩,λb x e k ys c=>?_⟩;cases(c);exact⟨vs,(x.TY f).sq,n.mono x⟩
 | ref i=>
  obtain⟨z,rfl⟩:=r;have C:∃g,G[i]?=u4 (.lst g):=by
   unfold Bd at h;dsimp only at h;split at h
   .rename_i g q;exact⟨g,q⟩
   cases h
  obtain⟨g,q⟩:=C;obtain⟨vs,y,_⟩:=s.lst q;refine⟨.l (a.m i),rfl,⟨vs,.of y⟩,λb x e k ys c=>?_⟩;unfold Bd at c;dsimp only at c;split at c
  .rename_i w o;cases c;obtain⟨us,u,A⟩:=k.lst o;rw[x.m i z]at u;exact⟨us,.of u,A⟩
  cases c
 |_=>cases h
def y6{a:Wd}{G:DH}{d:D}{v:V}{z:Src}(hk:a.K=X.K)(r:∀b:Wd,Ext a b->∀h,VB b h->∀ys,Bd d h=u4 ys->∃us,z.sq b.K b.H us/\OA b ys us)(n:Nat):WH a (.fn n (Dm 0 d)) (P' X.K z 0):=by
 intro b x h j i;have A:=x.k.trans hk;constructor
 .intro e f;unfold Dm at f;split at f
  .cases f
  rename_i ys m;obtain⟨us,g,l⟩:=r b x h j ys m;rw[A]at g;cases c:ys[i]? with
  |none=>rw[c]at f;cases f
  |some y=>
   rw[c]at f;have q:D.tup [.int (0+i),y]=e:=by simpa using f
   subst q;obtain⟨u,t,B⟩:=l.get c;refine⟨⟨us,u,g,t⟩,?_⟩;rintro w F ⟨p,C,rfl,hp,rfl,o⟩;refine⟨b.put p (.tup [.int (0+i),C]),rfl,.put hp,j.put hp,p,_,rfl,.of Ek,?_⟩;have s:=o us g;rw[t]at s;cases s;exact⟨_,_,rfl,rfl,.cons (B.mono (.put hp)) rfl⟩
 intro f;unfold Dm at f;split at f
 .cases f
 .rename_i ys m;obtain⟨us,g,l⟩:=r b x h j ys m;rw[A]at g;cases c:ys[i]? with
  |none=>exact⟨us,g,by rw[<-l.length];exact jQ.mp c⟩
  |some y=>rw[c]at f;cases f
def ya{elts:List xC}{x1}{tp:Pos}{e:xC}{ta:DA}{p pos:Pos}(o:Gl X "enumerate")(y:X.mg "enumerate"=u5)(A:QA X E [e] ta)(t:vx [e] X.env=[(u7,eval e X.env)]:=by rfl):
  QI X E (.Tuple elts x1 tp) (.Call (.Name "enumerate" p) [e] [] pos) (Bf Ez ta):=(yZ o y A t).mono λJ H Q h=>by
 obtain⟨a,S,G,hk,rfl,s,r,h⟩:=h;refine⟨a,S,G,hk,rfl,s,r,(Rg h).imp ?_⟩;rintro F _ ⟨b,C,i,rfl,x,f,q,-,c⟩;unfold Ez at c;split at c
 .rename_i d;split at c
  .rename_i OB;obtain⟨v,r,n,j,l⟩:=q;cases(l);subst n;obtain⟨I,B⟩:=jX.mp (OB);obtain⟨u,rfl,⟨z,m⟩,w⟩:=Xl f j B;have g:=x.k.trans hk;exact⟨u,z,rfl,by rw[<-g];exact m,c b _ (.refl b) f (y6 (G:=i) (v:=.WA) g w _)⟩
  exact c.elim
 exact c.elim
theorem dq(s:VB a G):∀{l:List D}{vs:List V},OA a l vs->l.all (Jc G)=u6->∃j:List Src,vs=j.map (λm=>V.ref m.VE)/\(∀m∈j,∃us,m.sq a.K a.H us)/\
   ∀b:Wd,Ext a b->∀f,VB b f->∀i,(∀ys,Gp f i l=u4 (u4 ys)->∃us,XM b.K b.H i j us/\OA b ys us)/\(Gp f i l=u4 u5->ZV b.K b.H i j)
 |[],vs,r,_=>by
  cases(r)
  refine⟨[],rfl,(λ_ h=>nomatch h),λb x f k i=>⟨λys h=>?_,λh=>?_⟩⟩
  .cases h;exact⟨[],.nil,rfl⟩
  cases h
 | d::l,vs,r,h=>by
  rw[qO,z7]at h;obtain⟨v,U,rfl,M,O⟩:=r;obtain⟨T,S⟩:=jX.mp (h.1);obtain⟨m,rfl,P,L⟩:=Xl s M S;obtain⟨j,rfl,A,n⟩:=dq s O h.2;refine⟨m::j,rfl,λF z=>?_,λb x f k i=>⟨λys c=>?_,λc=>?_⟩⟩
  .rcases zK.mp z with rfl|z
   .exact P
   exact A F z
  .unfold Gp at c;split at c
   .cases c
   rename_i q t;obtain⟨us,p,o⟩:=L b x f k q t;split at c
   .cases c
   .rename_i y e;obtain⟨u,g,J⟩:=o.get e;split at c
    .rename_i w B;cases c;obtain⟨I,N,Q⟩:=(n b x f k i).1 w B;exact⟨u::I,.cons p g N,.cons J Q⟩
    .rename_i C;exact absurd c (C _)
  unfold Gp at c;split at c
  .cases c
  .rename_i q t;obtain⟨us,p,o⟩:=L b x f k q t;split at c
   .rename_i e;exact .here p (by rw[<-o.length];exact jQ.mp e)
   .rename_i y e;obtain⟨u,g,J⟩:=o.get e;split at c
    .cases c
    exact .there p g ((n b x f k i).2 c)
theorem yb(hk:a.K=X.K)(m:∀b:Wd,Ext a b->∀f,VB b f->∀i,(∀ys,Gp f i ds=u4 (u4 ys)->∃us,XM b.K b.H i ls us/\OA b ys us)/\(Gp f i ds=u4 u5->ZV b.K b.H i ls))(n:Nat):
  WH a (.fn n (Ey ds)) (K? X.K ls):=by
 intro b x f h i;have q:=x.k.trans hk;constructor
 .intro e c;unfold Ey at c;cases g:Gp f i ds with
  |none=>rw[g]at c;cases c
  | some o=>
   cases o with
   |none=>rw[g]at c;cases c
   |some ys=>
    rw[g]at c;have j:D.tup ys=e:=by simpa using c
    subst j;obtain⟨us,d,r⟩:=(m b x f h i).1 ys g;rw[q]at d;refine⟨⟨us,d⟩,?_⟩;rintro w t ⟨p,s,rfl,hp,rfl,l⟩;cases l us d;exact⟨b.put p (.tup us),rfl,.put hp,h.put hp,p,us,rfl,.of Ek,r.mono (.put hp)⟩
 intro c;unfold Ey at c;cases g:Gp f i ds with
 |none=>rw[g]at c;cases c
 | some o=>
  cases o with
  |none=>
   have:=(m b x f h i).2 g;rw[q]at this;exact this
  |some ys=>rw[g]at c;cases c
def X5(n:Nat)(K:za)(ta:TA):TI:=λσ H R=>ta σ H λvs H1=>∃ls:List Src,vs=ls.map (λsr=>V.ref sr.VE)/\(∀sr∈ls,∃us,sr.sq K H1 us)/\ls.length=n/\R (K? K ls) H1
theorem Xb:∀{b:List Src}{us:List xL},Vals (b.map λa=>V.ref a.VE) us->us=b.map λa=>Value.ref a.VE
 |[],us,h=>by cases h;rfl
 | a::b,us,h=>by
  rw[zy]at h;cases h with
  |cons r c=>
   cases r;rw[Xb c]
   rfl
def Vj{a:List Src}{n:Nat}{q:Src×Nat}(h:q∈a.zipIdx n):q.1∈a/\n<=q.2/\q.2<n+a.length:=by obtain⟨i,b,rfl⟩:=qj h;simp[List.length_zipIdx]at b;simp only[List.getElem_zipIdx];exact⟨qW b,by lia,by lia⟩
def dr{x1}{tp:Pos}{N:St}{H:Hp}{s:xH}{R:It->Hp->Prop}{d:List Src}(I:Inv X vS N H s)(p:∀c∈d,∃us,c.sq X.K H us)(u:d≠[])(M:d.length<=1000000)
  (x:checkTypeCall "zip" ⟨d.map λc=>Value.ref c.VE,[]⟩=pure ()) (m:vQ "zip.__new__" ⟨.type "zip"::d.map λc=>Value.ref c.VE,[]⟩=pure ()) (OB:∀obj,argsOk "object.__init__" ⟨obj::d.map λc=>Value.ref c.VE,[]⟩)
  (q:R (K? X.K d) H):vk (vY X.prog X.w) X.A (call (.type "zip") (d.map λc=>Value.ref c.VE)) (λv U=>vk (vY X.prog X.w) X.A (pyIter v) (PIE X vS N (.Tuple elts x1 tp) R) X.xe U) X.xe s:=by
 have B:∀c∈d,∃J,c.val s.heap J:=λc a=>by obtain⟨us,h⟩:=p c a;obtain⟨VA,_,L,_⟩:=Src.sq.val I h;exact⟨_,L⟩
 have y:∀c∈d,c.VE<s.heap.objs.size:=λc a=>by obtain⟨J,h⟩:=B c a;obtain⟨o,n,Z,_⟩:=h.obj;exact zx Z
 refine yU B M x m OB λL n z F l t hi W=>?_
 refine wpAny_pyIter_zip F ?_
 have C:(d.zipIdx s.heap.objs.size).map (·.1)=d:=by refine qG (by simp) λi S O=>by simp
 have Q:(d.zipIdx s.heap.objs.size).map (·.2)=List.range' s.heap.objs.size d.length:=by refine qG (by simp) λi S O=>by simp[Nat.add_comm]
 have g:∀q∈d.zipIdx s.heap.objs.size,q.1.VE<s.heap.objs.size/\s.heap.objs.size<=q.2/\q.2<n:=λq a=>⟨y _ (Vj a).1,(Vj a).2.1,by rw[z];exact(Vj a).2.2⟩
 have f:=z▸xK _ _;have T:=y0 (P:=X.prog) (w:=X.w) (K:=X.K) (elts:=elts) (x1:=x1) (pos:=tp) (d.zipIdx s.heap.objs.size) (n+2) n (n+1) ⟨Q▸List.nodup_range',λq a=>z9 (zj (g q a).1 (Nat.le_succ_of_le f)),λq a r Y=>z9 (zj (g q a).1 (g r Y).2.1),λq a=>z9 (qS (g q a).2.2)⟩ ⟨Nat.succ_ne_self (n+1),λq a=>⟨z9 (zj (g q a).2.2 (xK n 2)),z9 (zj (g q a).1 (z8 f (xK n 2)))⟩⟩
  ⟨z9 (Nat.lt_add_of_pos_right (by decide)),z9 (qV n),λq a=>z9 (g q a).2.2⟩ (by simpa using M) (by intro e;apply u;rw[<-C,e];rfl)
 rw[C]at T;refine⟨n+2,_,_,_,H,rfl,I.kept W,T,⟨F,l,⟨_,t,by simp⟩,hi⟩,λb j=>?_,q⟩;have k:s.heap.objs.size<=b:=by
  rcases zK.mp j with rfl|j
  .exact z8 f (xK n 2)
  rcases zK.mp j with rfl|j
  .exact f
  .rcases zK.mp j with rfl|j
   .exact Nat.le_succ_of_le f
   .obtain⟨q,p,rfl⟩:=zD.mp j;exact(Vj p).2.1
 exact I.Hz k (I.OB.fresh k)
def yc(a b c:xL):checkTypeCall "zip" ⟨[a,b,c],[]⟩=pure ():=by kernel_rfl
def yd(a b c:xL):vQ "zip.__new__" ⟨[.type "zip",a,b,c],[]⟩=pure ():=by kernel_rfl
def ye(a b c d:xL):argsOk "object.__init__" ⟨[a,b,c,d],[]⟩:=by unfold argsOk;rw[signature?_of (n:=['_','_','t','i','n','i','_','_']) (by kernel_rfl) wg];kernel_rfl
theorem yf{elts:List xC}{x1}{tp:Pos}{a b:xC}{ta:TA}{p pos:Pos}(k:Gl X "zip")(o:X.mg "zip"=u5)(n:PA X [a,b] ta)(l:vx [a,b] X.env=[(u7,eval a X.env),(u7,eval b X.env)]:=by rfl)(d:vx [b] X.env=[(u7,eval b X.env)]:=by rfl):
  PI X (.Tuple elts x1 tp) (.Call (.Name "zip" p) [a,b] [] pos) (X5 2 X.K ta):=by
 intro c s g H R I h;refine Call_ (Hn I k o wh (zg (QB (n pos c s g H _ I h) λu w zz=>?_) (by rw[l,d]) (by rw[d];rfl)));obtain⟨v,t,i,m,f⟩:=zz;obtain⟨r,rfl,j,e,q⟩:=f;cases Xb m
 match r,e with
 |[x,y],_=>exact dr i j (by simp) (by simp) (PySem.F.typeCall_zip_2 _ _) (PySem.F.newCall_zip_2 _ _) (λobj=>PySem.F.args_object_init_3 obj _ _) q
theorem yg{elts:List xC}{x1}{tp:Pos}{a b c:xC}{ta:TA}{p pos:Pos}(l:Gl X "zip")(r:X.mg "zip"=u5)(o:PA X [a,b,c] ta)(m:vx [a,b,c] X.env=[(u7,eval a X.env),(u7,eval b X.env),(u7,eval c X.env)]:=by rfl)
  (e:vx [b,c] X.env=[(u7,eval b X.env),(u7,eval c X.env)]:=by rfl):PI X (.Tuple elts x1 tp) (.Call (.Name "zip" p) [a,b,c] [] pos) (X5 3 X.K ta):=by
 intro d s i H R I h;refine Call_ (Hn I l r wh (zg (QB (o pos d s i H _ I h) λv A zz=>?_) (by rw[m,e]) (by rw[e];rfl)));obtain⟨w,u,j,n,g⟩:=zz;obtain⟨t,rfl,k,f,q⟩:=g;cases Xb n
 match t,f with
 |[x,y,z],_=>exact dr j k (by simp) (by simp) (yc _ _ _) (yd _ _ _) (λobj=>ye obj _ _ _) q
def dt{K:za}{n:Nat}{ta:DA}{d:St}{H:Hp}{Q:It->Hp->Prop}(l:K=X.K)(h:lI K E (Bf (Ew n) ta) d H Q):X5 n K (lA K E ta) d H Q:=by
 subst l;obtain⟨a,S,G,hk,rfl,s,r,h⟩:=h;refine⟨a,S,G,hk,rfl,s,r,(Rg h).imp ?_⟩;rintro v _ ⟨b,w,u,rfl,x,g,q,-,c⟩;unfold Ew at c;split at c
 .rename_i OB;obtain⟨f,e,o,j⟩:=dq g q OB.1;have i:=x.k.trans hk;have m:f.length=n:=by have:=q.length;rw[e,zO]at this;lia
  exact⟨f,e,λt p=>by rw[<-i];exact o t p,m,c b _ (.refl b) g (yb i j _)⟩
 exact c.elim
def yh{elts:List xC}{x1}{tp:Pos}{a b:xC}{ta:DA}{p pos:Pos}(d:Gl X "zip")(g:X.mg "zip"=u5)(f:QA X E [a,b] ta)(e:vx [a,b] X.env=[(u7,eval a X.env),(u7,eval b X.env)]:=by rfl)(c:vx [b] X.env=[(u7,eval b X.env)]:=by rfl):
  QI X E (.Tuple elts x1 tp) (.Call (.Name "zip" p) [a,b] [] pos) (Bf (Ew 2) ta):=(yf d g f e c).mono λi H Q h=>dt rfl h
def yi{elts:List xC}{x1}{tp:Pos}{a b c:xC}{ta:DA}{p pos:Pos}(e:Gl X "zip")(i:X.mg "zip"=u5)(g:QA X E [a,b,c] ta)(f:vx [a,b,c] X.env=[(u7,eval a X.env),(u7,eval b X.env),(u7,eval c X.env)]:=by rfl)
  (d:vx [b,c] X.env=[(u7,eval b X.env),(u7,eval c X.env)]:=by rfl):QI X E (.Tuple elts x1 tp) (.Call (.Name "zip" p) [a,b,c] [] pos) (Bf (Ew 3) ta):=(yg e i g f d).mono λj H Q h=>dt rfl h
end
def U':D->D->DH->R D
 | .ref p,.int k,G=>match G[p]? with
  |some (.lst xs)=>match YC xs k with
   |some v=>.ok v G
   |none=>.bad
  |_=>.bad
 |_,_,_=>.bad
def Ju(to ti te:DE)(f:D->D->DH->R D):DS:=λS G=>(to S G).toS λo G1=>(ti S G1).toS λi G2=>(U' o i G2).toS λx G3=>(te S G3).toS λy G4=>(f x y G4).toS λz G5=>(Lj o i z G5).toS λ_ G6=>.nx S G6
def Hk:DS:=λ_ _=>.bad
section
variable{X:Cx}{E:XK}
def O3{st:xI}:QS X E st Hk:=λb s c H W I h=>by obtain⟨a,S,G,hk,rfl,d,r,h⟩:=h;exact h.elim
theorem yj(ho:QE X E o to)(hi:QE X E i ti)(he:QE X E e te)(U:WC X (inplaceOp op) (OH X.K E f))
  (ha:∀B F c,augStore i B F c=(do holding [c,B,F] (setItem B F c);release [c,B,F] [];pure .next):=by intros;rfl):QS X E (.AugAssign (.Subscript o i Zl) op e pos) (Ju to ti te f):=by
 intro b s l H W I h;obtain⟨a,S,G,hk,rfl,sm,r,h⟩:=h;refine wpAny_AugAssign_SubscriptAny (QB (ho b s l a.H _ I ⟨a,S,G,hk,rfl,sm,r,G8 h⟩) ?_) ha;rintro B s1 ⟨vo,H1,I1,ro,b1,o,G1,rfl,M,m1,q1,_,h1⟩;have k1:=M.k.trans hk;refine QB (hi b s1 l b1.H _ I1 ⟨b1,S,G1,k1,rfl,m1,r.mono M,G8 h1⟩) ?_;rintro F s2 ⟨vi,H2,I2,ri,C,i,G2,rfl,J,m2,q2,_,g⟩;have k2:=J.k.trans k1;cases i with
 | int k=>
  cases o with
  | ref p=>
   obtain⟨hp,rfl⟩:=q1.mono J;cases(q2);cases ro;obtain⟨t,rfl⟩:=ri;unfold U' at g;dsimp only at g;split at g
   .rename_i xs N;obtain⟨vs,e1,r1⟩:=m2.lst N;split at g
    .rename_i d hd;obtain⟨v,ev,rd⟩:=cz r1 hd;obtain⟨VA,rv,pl,hz⟩:=I2.list (.of e1);obtain⟨j,L,g2,g3,g4,g5⟩:=Ua ev;obtain⟨w,ew,T⟩:=rv.get g2;have hl:=rv.length;have hn:=VH;have O:vk (vY X.prog X.w) X.A (getItem (.ref (C.m p)) (.int k t)) (λu Q=>u=w/\Q=s2) X.xe s2:=by
      by_cases h0:0<=k
      .have Z:k.toNat=j:=by rw[seqIndex_of h0 g5]at L;exact Option.some.inj L
       exact wpAny_getItem_list pl.isList h0 (by lia) (by rw[Z];simpa using ew) ⟨rfl,rfl⟩
      have Z:(k+(VA.toArray.size:Int)).toNat=j:=by rw[seqIndex_neg (by lia) g4]at L;rw[zq,<-hl];exact Option.some.inj L
      exact wpAny_getItem_list_neg pl.isList (by lia) (by rw[zq]<;>lia) (by lia) (by rw[Z];simpa using ew) ⟨rfl,rfl⟩
     refine QB O ?_;rintro u Q ⟨rfl,rfl⟩;refine QB (he b Q l C.H _ I2 ⟨C,S,G2,k2,rfl,m2,(r.mono M).mono J,G8 g⟩) ?_;rintro yv s4 ⟨vy,H4,I4,ry,b4,y,G4,rfl,x,m4,q4,_,h4⟩;refine QB (U b s4 l b4.H v vy u yv _ I4 T ry ⟨b4,G4,d,y,x.k.trans k2,rfl,m4,rd.mono x,q4,G8 h4⟩) ?_;rintro c s5 ⟨vn,H5,I5,rn,b5,z,G5,rfl,Y,m5,q5,_,q⟩;unfold Lj at q;dsimp only at q;split at q
     .rename_i ys hy;split at q
      .rename_i jj P;obtain⟨ws,e5,r5⟩:=m5.lst hy;obtain⟨x6,m6⟩:=U9 m5 (zj hp (z8 x.n Y.n)) e5 (r5.set q5 jj);refine QB (set_list b s5 l b5.H (.ref (C.m p)) (.int k) vn (.ref (C.m p)) (.int k t) c (λH'=>W.nx l H') I5 rfl ⟨t,rfl⟩ rn ⟨b5.m p,ws,k,jj,by rw[(Y.m p (zj hp x.n)).trans (x.m p hp)],rfl,e5,by rw[<-r5.length];exact P,q _ l x6 m6 (((((r.mono M).mono J).mono x).mono Y).mono x6)⟩) ?_
       rintro _ s6 ⟨H6,I6,q6⟩;exact⟨l,H6,I6,q6⟩
      exact q.elim
     exact q.elim
    exact g.elim
   exact g.elim
  |_=>exact(g).elim
 |_=>cases o<;>exact(g).elim
end
def Ht(ds:List D)(G:DH):R D:=match ds with
 | [d]=>match Bd d G with
  |some xs=>match Iz xs with
   |some (n::ns)=>.ok (.int (ns.foldl min n)) G
   |_=>.bad
  |none=>.bad
 |_=>.bad
def Hm(ds:List D)(G:DH):R D:=match ds with
 | [d]=>match Bd d G with
  |some xs=>match Iz xs with
   |some (n::ns)=>.ok (.int (ns.foldl max n)) G
   |_=>.bad
  |none=>.bad
 |_=>.bad
theorem Vv:∀(ns:List Int)(n:Int),ns.foldl min n<=n/\(∀x∈ns,ns.foldl min n<=x)/\(ns.foldl min n=n\/ns.foldl min n∈ns)
 |[],n=>⟨zL _,λx h=>(by cases h),.inl rfl⟩
 | m::ns,n=>by
  obtain⟨d,b,c⟩:=Vv ns (min n m);rw[j5];refine⟨by lia,λx a=>?_,?_⟩
  .rcases zK.mp a with rfl|a
   .lia
   exact b x a
  rcases c with h|h
  .by_cases e:n<=m
   .exact .inl (by rw[h];lia)
   exact .inr (by rw[h];rw[show min n m=m by lia];exact zW)
  exact .inr (zJ _ h)
theorem du:∀(ns:List Int)(n:Int),n<=ns.foldl max n/\(∀x∈ns,x<=ns.foldl max n)/\(ns.foldl max n=n\/ns.foldl max n∈ns)
 |[],n=>⟨zL _,λx h=>(by cases h),.inl rfl⟩
 | m::ns,n=>by
  obtain⟨d,b,c⟩:=du ns (max n m);rw[j5];refine⟨by lia,λx a=>?_,?_⟩
  .rcases zK.mp a with rfl|a
   .lia
   exact b x a
  rcases c with h|h
  .by_cases e:m<=n
   .exact .inl (by rw[h];lia)
   exact .inr (by rw[h];rw[show max n m=m by lia];exact zW)
  exact .inr (zJ _ h)
section
variable{X:Cx}{E:XK}
def intAt{ns:List Int}{VA:List xL}{i:Nat}{w:xL}(d:Vals (ns.map V.int) VA)(hw:VA.toArray[i]?=u4 w):i<ns.length/\∃t,w=.int (ns.getD i 0) t:=by
 have b:VA[i]?=u4 w:=by simpa using hw
 have f:i<(ns.map V.int).length:=by rw[d.length];exact(zA.mp b).1
 have a:i<ns.length:=by simpa using f
 obtain⟨u,c,e⟩:=d.get (i:=i) (x:=V.int ns[i]) (by simp[a]);rw[b]at c;cases c;obtain⟨t,rfl⟩:=e;exact⟨a,t,by simp[a]⟩
def yk(T:X.calm=u6):WB X (.builtin "min") (PR X.K E Ht):=by
 intro y s σ H vs us Q I Z h;obtain⟨a,G,ds,hk,rfl,o,r,q⟩:=h;unfold Ht at q;split at q
 .rename_i d;obtain⟨v,rfl,rv⟩:=ZE r;split at q
  .rename_i xs L;split at q
   .rename_i n b C;cases Vd C;obtain⟨p,ws,rfl,z,M⟩:=Hy o rv L;cases Zg M;rw[hk]at z;obtain⟨u,rfl,F⟩:=vals1 Z;cases F;refine call_min_walk (Td I T z λit fp wr VA St s₂ hv W st SX fin=>⟨it,fp,wr,VA.toArray.size,_,St,_,rfl,W,st,SX,?_,.ints_lt (λi=>(n::b).getD i 0) (λi w hw=>(intAt hv hw).2),λw J A hw kk=>?_⟩)
    .rw[zq,<-hv.length];simp
    obtain⟨l,t,rfl⟩:=intAt hv hw;obtain⟨b1,Y⟩:=argBest_lt (λi=>(n::b).getD i 0) (VA.toArray.size-1);refine⟨.int (b.foldl min n),a.H,fin J A kk,⟨t,?_⟩,q a _ (.refl a) o rfl⟩;have QL:VA.toArray.size=b.length+1:=by rw[zq,<-hv.length];simp
    obtain⟨U,O,P⟩:=Vv b n;have f:∀x∈n::b,b.foldl min n<=x:=λx g=>by
     rcases zK.mp g with rfl|g
     .exact U
     exact O x g
    have e:b.foldl min n∈n::b:=by
     rcases P with h|h
     .rw[h];exact zW
     exact zJ _ h
    obtain⟨j,k,N⟩:=qj e;have m:=f _ (qW l);have S:(n::b).getD j 0=b.foldl min n:=by rw[zk,zX k];exact N
    have B:(n::b).getD (argBest (λi j=>decide ((λi=>(n::b).getD i 0) i<(λi=>(n::b).getD i 0) j)) (VA.toArray.size-1)) 0=(n::b)[argBest (λi j=>decide ((λi=>(n::b).getD i 0) i<(λi=>(n::b).getD i 0) j)) (VA.toArray.size-1)]:=by rw[zk,zX l];rfl
    have c:=Y j (by simp at k;lia);rw[S]at c;rw[<-B]at m
    congr 1
    exact Int.le_antisymm c m
   exact q.elim
  exact q.elim
 exact q.elim
def ym(T:X.calm=u6):WB X (.builtin "max") (PR X.K E Hm):=by
 intro y s σ H vs us Q I Z h;obtain⟨a,G,ds,hk,rfl,o,r,q⟩:=h;unfold Hm at q;split at q
 .rename_i d;obtain⟨v,rfl,rv⟩:=ZE r;split at q
  .rename_i xs L;split at q
   .rename_i n b C;cases Vd C;obtain⟨p,ws,rfl,z,M⟩:=Hy o rv L;cases Zg M;rw[hk]at z;obtain⟨u,rfl,F⟩:=vals1 Z;cases F;refine call_max_walk (Td I T z λit fp wr VA St s₂ hv W st SX fin=>⟨it,fp,wr,VA.toArray.size,_,St,_,rfl,W,st,SX,?_,.ints_gt (λi=>(n::b).getD i 0) (λi w hw=>(intAt hv hw).2),λw J A hw kk=>?_⟩)
    .rw[zq,<-hv.length];simp
    obtain⟨l,t,rfl⟩:=intAt hv hw;obtain⟨b1,Y⟩:=argBest_gt (λi=>(n::b).getD i 0) (VA.toArray.size-1);refine⟨.int (b.foldl max n),a.H,fin J A kk,⟨t,?_⟩,q a _ (.refl a) o rfl⟩;have QL:VA.toArray.size=b.length+1:=by rw[zq,<-hv.length];simp
    obtain⟨U,O,P⟩:=du b n;have f:∀x∈n::b,x<=b.foldl max n:=λx g=>by
     rcases zK.mp g with rfl|g
     .exact U
     exact O x g
    have e:b.foldl max n∈n::b:=by
     rcases P with h|h
     .rw[h];exact zW
     exact zJ _ h
    obtain⟨j,k,N⟩:=qj e;have m:=f _ (qW l);have S:(n::b).getD j 0=b.foldl max n:=by rw[zk,zX k];exact N
    have B:(n::b).getD (argBest (λi j=>decide ((λi=>(n::b).getD i 0) i>(λi=>(n::b).getD i 0) j)) (VA.toArray.size-1)) 0=(n::b)[argBest (λi j=>decide ((λi=>(n::b).getD i 0) i>(λi=>(n::b).getD i 0) j)) (VA.toArray.size-1)]:=by rw[zk,zX l];rfl
    have c:=Y j (by simp at k;lia);rw[S]at c;rw[<-B]at m
    congr 1
    exact Int.le_antisymm m c
   exact q.elim
  exact q.elim
 exact q.elim
def Dv:D->D->DH->R D
 |.ref p,.int k,G=>match G[p]? with
  |some (.lst xs)=>if -(2^63)<=k/\k<2^63/\xs.length*k.toNat<=1000000 then .ok (.ref G.length) (G++[.lst (zV k.toNat xs).flatten])else .bad
  |_=>.bad
 |.fl (.tup t::xs),.int k,G=>(if -(2^63)<=k/\k<2^63/\(D.tup t::xs).length*k.toNat<=1000000 then .ok (.ref G.length) (G++[.lst (zV k.toNat (.tup t::xs)).flatten])else .bad)|_,_,_=>.bad
theorem OA.rep(r:OA a ds vs):∀k,OA a (zV k ds).flatten (zV k vs).flatten
 |0=>rfl
 |k+1=>by rw[zU,zU,qk,qk];exact r.append (.rep r k)
theorem yn:WC X (xT .Mult) (OH X.K E Dv):=rL.mono λx y H Q h=>by
 obtain⟨a,G,d,e,hk,rfl,s,j,n,q⟩:=h;cases d with
 | ref p=>
  cases e with
  | int k=>
   unfold Dv at q;dsimp only at q;split at q
   .rename_i g v;split at q
    .rename_i b;obtain⟨i,r,c⟩:=s.lst v;obtain⟨hp,rfl⟩:=j;refine⟨a.m p,k,i,rfl,n,.inl r,b.1,b.2.1,?_,λp hp=>Io s (.rep c k.toNat) q p hp⟩;rw[<-c.length];exact z8 b.2.2 ZC
    exact q.elim
   exact q.elim
  |_=>exact(q).elim
 |fl g=>(cases g with |nil=>exact(q).elim|cons d g=>(cases d with |tup t=>(cases e with |int k=>(unfold Dv at q;dsimp only at q;split at q;(rename_i b;obtain⟨l,i,rfl,f,c⟩:=j;rcases f with⟨o,f⟩|⟨⟨u,rfl⟩,_⟩;(exact⟨l,k,i,rfl,n,.inr ⟨o,f⟩,b.1,b.2.1,by rw[<-c.length];exact z8 b.2.2 ZC,λp hp=>Io s (.rep c k.toNat) q p hp⟩);(obtain⟨_,_,w,⟨_,_,rfl,_⟩,_⟩:=c;cases u<;>cases w));exact q.elim)|_=>exact(q).elim)|_=>exact(q).elim))|_=>exact(q).elim
end
end _D
namespace _D
open PySem PySem.W PyProof.Rows
def PF(n:Nat){α:Type}(P:α->Prop):KasT α->Prop
 |.ret a=>P a
 |.ask i j k=>i<n/\j<n/\∀b,PF n P (k b)
theorem PF.bind{c e:Type}{f:c->KasT e}{P:c->Prop}{Q:e->Prop}(d:∀a,P a->PF n Q (f a)):∀{t:KasT c},PF n P t->PF n Q (t.bind f)
 |.ret a,h=>d a h
 |.ask _ _ _,h=>⟨h.1,h.2.1,λb=>.bind d (h.2.2 b)⟩
def SF(n:Nat)(p:Array Nat):Prop:=0<n/\p.Perm (zQ n).toArray
def SF.lt(h:SF n p)(a:x∈p):x<n:=by have:=h.2.mem_iff.mp a;simpa using this
def SF.pt(h:SF n p)(k:Nat):p.getD k 0<n:=by
 by_cases hk:k<p.size
 .have:p.getD k 0=p[k]:=by simp[Array.getD,hk]
  rw[this];exact h.lt (Array.getElem_mem hk)
 have:p.getD k 0=0:=by simp[Array.getD,hk]
 rw[this];exact h.1
def SF.perm(h:SF n p)(e:q.Perm p):SF n q:=⟨h.1,e.trans h.2⟩
theorem Wy(h:SF n p):∀f m,PF n (λ_=>True) (kas_asc p f m)
 |0,m=>trivial
 | f+1,m=>⟨h.pt _,h.pt _,λb=>by
   cases b with
   |true=>exact trivial
   |false=>exact Wy h f (m+1)⟩
theorem Vw:∀f{p:Array Nat}m q,SF n p->PF n (λr=>SF n r.1) (kas_desc f p m q)
 |0,p,m,q,h=>h
 | f+1,p,m,q,h=>⟨h.pt _,h.pt _,λb=>by
   cases b with
   |true=>
    by_cases a:q>0
    .simp only[if_true,if_pos a];exact Vw f _ _ (h.perm (mirror_perm ..))
    simp only[if_true,if_neg a];exact Vw f _ _ h
   |false=>
    refine⟨h.pt _,h.pt _,λd=>?_⟩;cases d with
    |true=>exact h
    |false=>exact Vw f _ _ h⟩
def dw(h:SF n p)(m k:Nat):PF n (λr=>SF n r.2) (kas_tail3 m k p):=by unfold kas_tail3;refine .bind (λa _=>?_) (Wy (h.perm (mirror_perm ..)) _ _);exact h.perm (mirror_perm ..)
def dy(h:SF n p)(m k:Nat):PF n (λr=>SF n r.2) (kas_descPart m k p):=
 PF.bind (λa b=>by
  split
  .exact dw (b.perm (mirror_perm ..)) _ _
  exact dw b _ _) (Vw _ _ _ h)
def dz(h:SF n p)(k:Nat):PF n (λr=>SF n r.2) (kas_count k p):=
 PF.bind (λa _=>by
  split
  .exact h
  split
  .refine⟨h.pt _,h.pt _,λc=>?_⟩;cases c with
   |true=>exact h
   |false=>exact dy (h.perm (mirror_perm ..)) _ _
  exact dy h _ _) (Wy h _ _)
theorem ae(h:SF n p)(k:Nat):∀f l r,PF n (λ_=>True) (kas_place p k f l r)
 |0,l,r=>trivial
 |f+1,l,r=>by
  unfold kas_place;split
  .trivial
  refine⟨h.pt _,h.pt _,λc=>?_⟩;cases c with
  |_=>exact ae h k f _ _
theorem eA:∀f{p:Array Nat}k,SF n p->PF n (λ_=>True) (kas_bin f p k)
 |0,p,k,h=>trivial
 |f+1,p,k,h=>.bind (λa _=>eA f _ (h.perm (bubble_perm ..))) (ae h k _ _ _)
def yo(c:0<n):PF n (λ_=>True) (kas_sort n):=
 PF.bind (λa b=>by
  split
  .exact eA _ _ b
  trivial) (dz ⟨c,.refl _⟩ _)
end _D
namespace _D
open PySem PySem.Spec _L
open PyProof.Rows hiding St
def UP:List D->List D->Option Bool
 |[],[]=>u4 u7
 |[],_::_=>u4 u6
 |_::_,[]=>u4 u7
 |.int a::r,.int b::r'=>if a=b then UP r r' else u4 (decide (a<b))
 |.str a::r,.str b::r'=>if a=b then UP r r' else u4 (decide (a.cps.toList<b.cps.toList))
 |_::_,_::_=>u5
def U2:D->D->Option Bool
 |.tup xs,.tup ys=>UP xs ys
 |_,_=>u5
def ltI(xs:List D)(i j:Nat):Bool:=(U2 (xs.getD i .WA) (xs.getD j .WA)).getD u7
noncomputable def isIt:D->Bool
 |.tup (.int _::_)=>u6
 |_=>u7
noncomputable def W0:D->Bool
 |.tup (.str _::_)=>u6
 |_=>u7
def Mx(xs:List D):Bool:=(xs.all isIt||xs.all W0)&&xs.all λx=>xs.all λy=>(U2 x y).isSome
def K9(xs:List D):List D:=if xs.length<2 then xs else(Bq (ltI xs) (zi xs.length)).toList.map λi=>xs.getD i .WA
def Ml(ds:List D)(G:DH):R D:=match ds with
 |[d]=>match G7 d G with
  |some xs=>if(xs.length<64/\(K9 xs).length<64)/\Mx xs=u6 then .ok (.ref G.length) (G++[.lst (K9 xs)])else .bad
  |none=>.bad
 |_=>.bad
theorem eB(h:∀i j,i<n->j<n->∀C:Bool->xH->Prop,C (lt i j) s->cmp i j C s){b:Type}{P:b->Prop}{Q:b->xH->Prop}:
  ∀{t:vc b},PF n P t->Q (Bq lt t) s->t.kasWp cmp Q s
 |.ret _,_,c=>c
 |.ask i j k,a,c=>h i j a.1 a.2.1 _ (eB h (a.2.2 (lt i j)) c)
section
variable{prog:xF}{w:xM}{A:xB}{s:xH}
theorem yp(h:Q (decide (a<b)) s):vk (vY prog w) A (oneLt' c (.int a t) (.int b u)) Q E s:=by
 cases c with
 |true=>exact oneLt_int h
 |false=>exact uQ _ _ (lt_int h)
theorem yq(h:Q (decide (a.cps.toList<b.cps.toList)) s):vk (vY prog w) A (oneLt' c (.str a t) (.str b u)) Q E s:=by
 cases c with
 |true=>exact oneLt_str h
 |false=>exact uQ _ _ (lt_str h)
theorem Yy:∀{xs ys:List D}{vs q:List V}{us o:List xL}{i:Nat}{k:Bool},OA a xs vs->OA a ys q->Vals vs us->Vals q o->UP xs ys=u4 k->fin=decide (us.length<o.length)->Q k s->
  PySem.W.KatLex prog w A u6 fin Q (us.zip o) i s
 |[],[],vs,q,us,o,i,k,f,g,c,b,h,j,d=>by cases(f);cases(g);cases c;cases b;cases h;subst j;exact vd d
 |[],y::ys,vs,q,us,o,i,k,f,g,c,b,h,j,d=>by cases(f);cases c;obtain⟨F,wr,rfl,_,_⟩:=g;cases b;cases h;subst j;exact vd (by simpa using d)
 |x::xs,[],vs,q,us,o,i,k,f,g,c,b,h,j,d=>by
  cases(g);cases b;obtain⟨F,wr,rfl,_,_⟩:=f;cases c;have hk:k=u7:=by cases x<;>(simp[UP]at h;exact h)
  subst hk;subst j;exact vd (by simpa using d)
 | x::xs,y::ys,vs,q,us,o,i,k,f,g,c,b,h,j,d=>by
  have p:(∃m n,x=.int m/\y=.int n)\/(∃m n,x=.str m/\y=.str n):=by
   cases x<;>cases y<;>first
    |exact .inl ⟨_,_,rfl,rfl⟩
    |exact .inr ⟨_,_,rfl,rfl⟩
    |(exfalso;simp[UP]at h)
  obtain⟨B,H,rfl,z,f⟩:=f;obtain⟨C,wr,rfl,E,g⟩:=g;rcases p with⟨m,n,rfl,rfl⟩|⟨m,n,rfl,rfl⟩
  .cases(show B=V.int m from z)
   cases(show C=V.int n from E)
   cases c with
   | cons r c=>
    cases b with
    | cons v b=>
     obtain⟨t,rfl⟩:=r;obtain⟨u,rfl⟩:=v;rw[List.zip_cons_cons];refine uZ (wpAny_eqBool_int (uJ (λl=>?_) λl=>?_))
     .have e:m=n:=by simpa using l
      rw[show UP (.int m::xs) (.int n::ys)=if m=n then UP xs ys else u4 (decide (m<n))from rfl,if_pos e]at h
      exact uX (Yy f g c b h (by simpa using j) d)
     have e:m≠n:=by simpa using l
     rw[show UP (.int m::xs) (.int n::ys)=if m=n then UP xs ys else u4 (decide (m<n))from rfl,if_neg e]at h
     cases h;exact uV (yp d)
  cases(show B=V.str m from z)
  cases(show C=V.str n from E)
  cases c with
  | cons r c=>
   cases b with
   | cons v b=>
    obtain⟨t,rfl⟩:=r;obtain⟨u,rfl⟩:=v;rw[List.zip_cons_cons];refine uZ (wpAny_eqBool_str (uJ (λl=>?_) λl=>?_))
    .rw[show UP (.str m::xs) (.str n::ys)=if m=n then UP xs ys else u4 (decide (m.cps.toList<n.cps.toList))from rfl,if_pos (by simpa using l)]at h
     exact uX (Yy f g c b h (by simpa using j) d)
    .rw[show UP (.str m::xs) (.str n::ys)=if m=n then UP xs ys else u4 (decide (m.cps.toList<n.cps.toList))from rfl,if_neg (by simpa using l)]at h
     cases h;exact uV (yq d)
end
section
variable{X:Cx}{E:XK}{vS:List (xA×Obj)}{σ:St}{s:xH}{H:Hp}{h':Heap}
def eC(I:Inv X vS σ H s)(k:∀b o,b≠X.env.locals->s.heap.get? b=u4 o->h'.get? b=u4 o)(ns:∀m,s.heap.Ns X.env.locals m->h'.Ns X.env.locals m):Inv X vS σ H {s with heap:=h',toks:=t'}:=by
 refine I.step (ch:=[]) (nofun) (λb o f _ _ e _=>k b o f e) (λb o f _ _ e _=>⟨o.slots,k b o f e⟩) (λ_ _ _ _ n=>n) (λb o _ e=>?_) (λ_ _ e=>e) (λ_ _ _ e=>e)
  (λb r e=>⟨#[],by rw[e];simp⟩) ns (λb u e=>?_) I.bare
 .by_cases i:b=X.env.locals
  .obtain⟨m,j,_⟩:=I.loc;obtain⟨l,_,_,d,_⟩:=ns m j;exact⟨l,i▸d⟩
  exact⟨o,k b o i e⟩
 have g:∀c w,H c=u4 w->c≠X.env.locals:=λc w e z=>by rw[z,I.free]at e;cases e
 refine(I.OB b u e).UI (λc v p q=>k c v ?_ q) (λ_ q=>q) λ_ _ q=>q
 rcases p with z|z
 .rw[z];exact g b u e
 exact g c _ z
end
section
variable{prog:xF}{w:xM}{A:xB}{E:xL->xH->Prop}{s:xH}
def yu{l:xA}{vs:List xL}{Q:xL->xH->Prop}(n:s.heap.IsList l vs.toArray)(hz:vs.length<64)
  (h:∀g,g.get? (s.heap.objs.size+1)=u4 (seqObj "list" vs.toArray 0)->(∀b o,s.heap.get? b=u4 o->g.get? b=u4 o)->
   vk (vY prog w) A.in1.in1 (Builtin.«list.sort» ⟨[.ref (s.heap.objs.size+1)],[]⟩) (λd s'=>d=.done (.ret .none)/\Q (.ref (s.heap.objs.size+1)) s') E {s with heap:=g}):
  vk (vY prog w) A (call (.builtin "sorted") [.ref l]) Q E s:=by
 have c:vs.length<=sizeLine:=by rw[vz];lia
 refine Calls.call_function_entry kind_sorted plain_sorted entry_sorted (args_sorted1 _) ?_;unfold Builtin.«sorted»;refine vB (vL (vB (collect_list n (vB (wpAny_newList ?_ c)) c)))
 generalize m:(s.heap.push (seqObj "list" #[] 0)).update s.heap.objs.size (.mapSeq (·++vs.toArray))=f
 have i:f.objs.size=s.heap.objs.size+1:=by rw[<-m,Heap.size_update,size_push']
 have p:∀b o,s.heap.get? b=u4 o->f.get? b=u4 o:=λb o q=>by have e:=zx q;rw[<-m,Heap.get?_update_ne _ _ _ _ (z9 e),Heap.get?_push_ne _ _ _ (z9 e)];exact q
 have j:(f.push (seqObj "list" vs.toArray 0)).get? (s.heap.objs.size+1)=u4 (seqObj "list" vs.toArray 0):=by rw[<-i];exact z6 _ rfl
 rw[i];refine vB (vF (vD slot_list_sort ⟨_,j,rfl⟩ entry_list_sort ?_ (args_list_sort _)));exact vG (h (f.push (seqObj "list" vs.toArray 0)) j λb o q=>zZ _ (p b o q)) (λd s' k=>(⟨_,k.1,vL ⟨_,rfl,k.2⟩⟩)) λ_ _ x=>x
def yw{a:xA}{vs:List xL}{n:Nat}{P:Fin->xH->Prop}(ho:s.heap.get? a=u4 (seqObj "list" vs.toArray n))(v:vs.length<2)
  (h:∀h' c,h'.get? a=u4 (seqObj "list" vs.toArray c)->(∀b o,b≠a->s.heap.get? b=u4 o->h'.get? b=u4 o)->P (.done (.ret .none)) {s with heap:=h'}):vk (vY prog w) A (Builtin.«list.sort» ⟨[.ref a],[]⟩) P E s:=by
 obtain⟨k,g⟩:∃k,(s.heap.update a (.mapSeq λ_=>(#[]:Array xL))).get? a=u4 (seqObj "list" #[] k):=⟨_,get?_update_seq ho λ_=> #[]⟩;rw[list_sort_plain];refine vB (listItems_at ho rfl (vB (listUpdate_at ho rfl ?_ (by rw[zq,vz];lia) (jR _))));refine vB (seqEpoch_at g rfl (vB (wpAny_newTuple (vB (wpAny_newList (vF ?_) (jR _))) (by show vs.length<=_;rw[vz];lia))))
 dsimp only;have j:vs.toArray.size<2:=by rw[zq];lia
 rw[if_pos j,if_pos j];refine vB (vL (vB (wpAny_of_eq rfl ?_)));dsimp only
 have f:(arrOf (.mk' general' (vs.toArray.zip vs.toArray) #[] 7 u5)).map (·.2)=vs.toArray:=by
  show(vs.toArray.zip vs.toArray).map (·.2)=vs.toArray
  refine Array.ext (by simp) λi x v=>by simp
 rw[f];generalize t:((s.heap.update a (.mapSeq λ_=>(#[]:Array xL))).push {cls:=.type "tuple",data:=.seq vs.toArray.toList.toArray}).push {cls:=.type "list",data:=.seq ([]:List xL).toArray}=m;have e:m.get? a=u4 (seqObj "list" #[] k):=by rw[<-t];exact zZ _ (zZ _ g)
 have u:∀b o,b≠a->s.heap.get? b=u4 o->m.get? b=u4 o:=λb o l q=>by rw[<-t];exact zZ _ (zZ _ ((qI.update s.heap a (.mapSeq λ_=>(#[]:Array xL))).extBut b o l q))
 refine vB (seqEpoch_at (o:=seqObj "list" #[] k) ?_ rfl ?_)
 .exact e
 obtain⟨r,p⟩:∃r,(m.update a (.mapSeq λ_=>vs.toArray)).get? a=u4 (seqObj "list" vs.toArray r):=⟨_,get?_update_seq e λ_=>vs.toArray⟩;refine vB (listUpdate_at e rfl ?_ (jR _) (by rw[zq,vz];lia));simp[bne_self_eq_false,j2,if_false];exact vL (h _ r p λb o l q=>(qI.update m a (.mapSeq λ_=>vs.toArray)).extBut b o l (u b o l q))
end
def yx:xU "sorted"=u4 (.builtin "sorted"):=by decide +kernel
section
variable{X:Cx}{E:XK}{vS:List (xA×Obj)}{σ:St}{s:xH}{H:Hp}
def V6(I:Inv X vS σ a.H s)(hk:a.K=X.K)(r:XB a d v)(e:RelV v u)(h:d=.tup xs):∃p o vs us n,u=.ref p/\s.heap.get? p=u4 o/\o.cls=.type "tuple"/\o.data=.seq us n/\Vals vs us.toList/\OA a xs vs:=by subst h;obtain⟨p,vs,rfl,c,g⟩:=r;cases e;rw[hk]at c;obtain⟨b,f,⟨o,k,j,n,i⟩,l⟩:=I.tuple c;exact⟨p,o,vs,b.toArray,n,rfl,k,j,i,by simpa using f,g⟩
def yy(h:isIt d=u6):∃i r,d=.tup (.int i::r):=by
 unfold isIt at h;split at h
 .exact⟨_,_,rfl⟩
 cases h
def yz(h:W0 d=u6):∃i r,d=.tup (.str i::r):=by
 unfold W0 at h;split at h
 .exact⟨_,_,rfl⟩
 cases h
theorem eE(I:Inv X vS σ a.H s)(hk:a.K=X.K):∀{xs:List D}{vs:List V}{us:List xL},OA a xs vs->Vals vs us->xs.all isIt=u6->∃fs,uW s.heap us fs/\fs.length=us.length/\∀v∈fs,∃i t,v=.int i t
 |[],vs,us,r,v,h=>by
  cases(r);cases v
  exact⟨[],.nil,rfl,λ_ c=>nomatch c⟩
 | d::xs,vs,us,r,v,h=>by
  rw[qO,z7]at h;obtain⟨M,N,rfl,k,C⟩:=r;cases v with
  | cons g l=>
   obtain⟨i,J,rfl⟩:=yy h.1;obtain⟨p,o,L,f,n,rfl,A,m,u,e,w⟩:=V6 I hk k g rfl;obtain⟨F,wr,rfl,j,O⟩:=w;cases(j);obtain⟨fs,x,y,B⟩:=eE I hk C l h.2;have b:∃t,f[0]?=u4 (.int i t):=by
    cases b:f.toList with
    |nil=>rw[b]at e;cases e
    | cons z P=>
     rw[b]at e;cases e with
     |cons q _=>
      obtain⟨t,rfl⟩:=q;exact⟨t,by rw[<-jZ,b];rfl⟩
   obtain⟨t,b⟩:=b;refine⟨.int i t::fs,.cons A m u b x,by simp[y],λv c=>?_⟩;rcases zK.mp c with rfl|c
   .exact⟨i,t,rfl⟩
   exact B v c
theorem eF(I:Inv X vS σ a.H s)(hk:a.K=X.K):∀{xs:List D}{vs:List V}{us:List xL},OA a xs vs->Vals vs us->xs.all W0=u6->∃fs,uW s.heap us fs/\fs.length=us.length/\∀v∈fs,∃i t,v=.str i t
 |[],vs,us,r,v,h=>by
  cases(r);cases v
  exact⟨[],.nil,rfl,λ_ c=>nomatch c⟩
 | d::xs,vs,us,r,v,h=>by
  rw[qO,z7]at h;obtain⟨M,N,rfl,k,C⟩:=r;cases v with
  | cons g l=>
   obtain⟨i,J,rfl⟩:=yz h.1;obtain⟨p,o,L,f,n,rfl,A,m,u,e,w⟩:=V6 I hk k g rfl;obtain⟨F,wr,rfl,j,O⟩:=w;cases(j);obtain⟨fs,x,y,B⟩:=eF I hk C l h.2;have b:∃t,f[0]?=u4 (.str i t):=by
    cases b:f.toList with
    |nil=>rw[b]at e;cases e
    | cons z P=>
     rw[b]at e;cases e with
     |cons q _=>
      obtain⟨t,rfl⟩:=q;exact⟨t,by rw[<-jZ,b];rfl⟩
   obtain⟨t,b⟩:=b;refine⟨.str i t::fs,.cons A m u b x,by simp[y],λv c=>?_⟩;rcases zK.mp c with rfl|c
   .exact⟨i,t,rfl⟩
   exact B v c
def eG(I:Inv X vS σ a.H s)(l:VB a G)(q:out E a (.ok (.ref G.length) (G++[.lst ys])) Q)(r:OA a ys ws)(v:Vals ws us)(hz:us.length<64)
  (h:f.get? (s.heap.objs.size+1)=u4 (seqObj "list" us.toArray c)) (k:∀b o,b≠X.env.locals->s.heap.get? b=u4 o->f.get? b=u4 o) (ns:∀m,s.heap.Ns X.env.locals m->f.Ns X.env.locals m):
  EP X vS σ Q (.ref (s.heap.objs.size+1)) {s with heap:=f}:=by
 have e:s.heap.objs.size<=s.heap.objs.size+1:=j3 _;obtain⟨g,j,t,p,n,i⟩:=I.Hz e (I.OB.fresh e);refine⟨.ref (s.heap.objs.size+1),_,aR (eC I k ns) g (z8 I.sz e) j n i (o:=.lst ws) ⟨?_,us,c,v,h⟩,rfl,Io l r q _ g⟩;rw[v.length,vz];lia
end
section
variable{X:Cx}{E:XK}
def zl(h:Mx xs=u6)(b:x∈xs)(a:y∈xs):∃k,U2 x y=u4 k:=by unfold Mx at h;rw[z7]at h;exact jX.mp (qw.mp (qw.mp h.2 x b) y a)
def zm(h:U2 x y=u4 k):∃xs ys,x=.tup xs/\y=.tup ys/\UP xs ys=u4 k:=by
 unfold U2 at h;split at h
 .exact⟨_,_,rfl,rfl,h⟩
 cases h
theorem eH(r:OA a xs vs):∀l:List Nat,(∀i∈l,i<xs.length)->OA a (l.map λi=>xs.getD i .WA) (l.map λi=>vs.getD i .WA)
 |[],_=>rfl
 |i::l,h=>by
  have b:=h i zW;obtain⟨v,e,f⟩:=r.get (zX b);refine⟨vs.getD i .WA,_,rfl,?_,eH r l λj c=>h j (zJ _ c)⟩;have d:xs.getD i .WA=xs[i]:=by simp[b]
  have g:vs.getD i .WA=v:=by rw[zk,e];rfl
  show XB a (xs.getD i .WA) (vs.getD i .WA);rw[d,g];exact f
theorem eI(r:Vals vs us):∀l:List Nat,(∀i∈l,i<vs.length)->Vals (l.map λi=>vs.getD i .WA) (l.map λi=>us.getD i .none)
 |[],_=>.nil
 |i::l,h=>by
  have a:=h i zW;obtain⟨u,f,d⟩:=r.get (zX a);rw[zy,zy];have c:vs.getD i .WA=vs[i]:=by simp[a]
  have e:us.getD i .none=u:=by rw[zk,f];rfl
  rw[c,e];exact .cons d (eI r l λj b=>h j (zJ _ b))
theorem eJ:∀{t:vc (Array Nat)},PF n P t->P (Bq lt t)
 |.ret _,h=>h
 |.ask i j k,h=>eJ (t:=k (lt i j)) (h.2.2 (lt i j))
theorem eM:∀f{p:Array Nat}k,SF n p->PF n (SF n) (PySem.W.kas_bin f p k)
 |0,p,k,h=>h
 |f+1,p,k,h=>.bind (λa _=>eM f _ (h.perm (bubble_perm ..))) (ae h k _ _ _)
def eO(c:0<n):PF n (SF n) (zi n):=
 PF.bind (λa b=>by
  split
  .exact eM _ _ b
  exact b) (dz ⟨c,.refl _⟩ _)
def zp:WB X (.builtin "sorted") (PR X.K E Ml):=by
 intro vS s σ H vs us Q I rs h;obtain⟨a,G,ds,hk,rfl,sm,r,q⟩:=h;unfold Ml at q;split at q
 .rename_i d;obtain⟨v,rfl,rv⟩:=ZE r;split at q
  .rename_i xs hs;split at q
   .rename_i hc;obtain⟨p,ws,rfl,h1,r1⟩:=Pr sm rv hs;rw[hk]at h1;obtain⟨u,rfl,ru⟩:=vals1 rs;cases ru;obtain⟨VA,hv,pl,hz⟩:=I.list h1;have hlx:=r1.length.trans hv.length;refine yu pl.isList (by lia) λh1 hD k1=>?_
    obtain⟨m,hn,_⟩:=id I.loc;have V':=hn.keeps k1;have hDL:=jx (qS I.lt);have SU:∀{h2:Heap},h2.Ns X.env.locals m->∀m',s.heap.Ns X.env.locals m'->h2.Ns X.env.locals m':=λ{h2}hh m' hm'=>by have e1:=hn.eq_nsMap;have e2:=hm'.eq_nsMap;rw[e2,<-e1];exact hh
    by_cases hlen:xs.length<2
    .refine yw hD (by lia) λh2 c hD2 k2=>⟨rfl,?_⟩
     have es:K9 xs=xs:=by unfold K9;rw[if_pos hlen]
     rw[es]at q;exact eG I sm q r1 hv (by lia) hD2 (λb o hb e=>k2 b o (z9 (qS (zx e))) (k1 b o e)) (SU (V'.at λo e=>k2 _ o (.symm hDL) e))
    .have es:K9 xs=(Bq (ltI xs) (zi xs.length)).toList.map λi=>xs.getD i .WA:=by unfold K9;rw[if_neg hlen]
     rw[es]at q;refine PySem.W.kat_list_sort (Att.rQ V') (news:=Att.ledger h1 X.env.locals (s.heap.objs.size+1)) ?_ hD hDL (Att.aI _ _) (λ⟨_,_⟩ hp=>(Att.Qj.mp hp).2.1) (by lia) (by lia) λe1 h2 F2 N2=>?_
     .rintro⟨b,o⟩ hp;obtain⟨n1,n2,e⟩:=Att.Qj.mp hp;exact⟨e,n1,Att.aI _ _⟩
     have I2:=eC (t':=s.toks) I (λb o hb e=>(N2 (b,o) (zJ _ (Att.Qj.mpr ⟨hb,z9 (qS (zx e)),k1 b o e⟩))).1) (SU F2.ns);have X':0<VA.length:=by lia
     have fin:(zi VA.length).kasWp (uK X.prog X.w X.A.in1.in1 (tuples' u6) VA) (λp VS=>PySem.W.KasFin (Att.Te h1) X.env.locals m (s.heap.objs.size+1) e1 (p.toList.map λi=>VA.getD i Value.none) (λs3=>.done (.ret .none)=PySem.Fin.done (.ret .none)/\EP X vS σ Q (.ref (s.heap.objs.size+1)) s3) VS) {s with heap:=h2}:=by
      refine eB (lt:=ltI xs) (λi j hi hj C hC=>?_) (eO X') ?_
      .have hxi:i<xs.length:=by lia
       have hxj:j<xs.length:=by lia
       obtain⟨v1,ev1,P2⟩:=r1.get (zX hxi);obtain⟨v2,ev2,Zp⟩:=r1.get (zX hxj);obtain⟨u1,eu1,ru1⟩:=hv.get ev1;obtain⟨u2,eu2,ru2⟩:=hv.get ev2;obtain⟨k,hlt⟩:=zl hc.2 (qW hxi) (qW hxj);obtain⟨as,bs,ea,eb,hlL⟩:=zm hlt;obtain⟨p1,o1,vs1,us1,n1,rfl,ho1,_,hd1,hv1,hr1⟩:=V6 I2 hk P2 ru1 ea;obtain⟨p2,o2,vs2,us2,n2,rfl,ho2,_,G?,hv2,hr2⟩:=V6 I2 hk Zp ru2 eb
       have hC':C k {s with heap:=h2}:=by
        have:ltI xs i j=k:=by
         unfold ltI;have e1:xs.getD i .WA=xs[i]:=by simp[hxi]
         have e2:xs.getD j .WA=xs[j]:=by simp[hxj]
         rw[e1,e2,hlt];rfl
        rw[<-this];exact hC
       unfold uK;have g1:VA.getD i Value.none=.ref p1:=by rw[zk,eu1];rfl
       have g2:VA.getD j Value.none=.ref p2:=by rw[zk,eu2];rfl
       rw[g1,g2];exact PySem.W.kat_lt ho1 hd1 ho2 G? (Yy hr1 hr2 hv1 hv2 hlL (by simp) hC')
      .rw[hlx]at q;refine .intro F2 N2 (.head λ⟨_,_⟩ hp=>(Att.Qj.mp hp).2.1) λh3 c F3 N3=>⟨rfl,?_⟩
       have L?:∀i∈(Bq (ltI xs) (zi VA.length)).toList,i<VA.length:=λi hi=>(eJ (eO X')).lt (by simpa using hi)
       refine eG I sm q (eH r1 _ λi hi=>hlx▸L? i hi) (eI hv _ λi hi=>hv.length▸L? i hi) ?_ (N3 _ zW).1 (λb o hb e=>((N3 (b,o) (zJ _ (Att.Qj.mpr ⟨hb,z9 (qS (zx e)),k1 b o e⟩))).1)) (SU F3.ns)
       .rw[hlx]at es;have:=hc.1.2;rw[es]at this;simpa using this
     unfold Mx at hc;rw[z7,jG]at hc;rcases hc.2.1 with ZT|ZT
     .obtain⟨fs,t1,t2,t3⟩:=eE I2 hk r1 hv ZT;refine uY (T:=.type "int") t1 (by lia) (λv hm=>?_) (by decide) fin
      .obtain⟨i,t,rfl⟩:=t3 v hm;exact .now
     .obtain⟨fs,t1,t2,t3⟩:=eF I2 hk r1 hv ZT;refine uY (T:=.type "str") t1 (by lia) (λv hm=>?_) (by decide) fin
      .obtain⟨i,t,rfl⟩:=t3 v hm;exact .now
   exact q.elim
  exact q.elim
 exact q.elim
end
section
variable{S:RD}{G:DH}
@[simp]theorem L5:Ju to ti te f S G=(to S G).toS λo a=>(ti S a).toS λi c=>(U' o i c).toS λx b=>(te S b).toS λy g=>(f x y g).toS λz e=>(Lj o i z e).toS λ_ d=>.nx S d:=id rfl
def Uw(h:G[p]?=u4 (.lst xs))(e:YC xs k=u4 d):U' (.ref p) (.int k) G=.ok d G:=by unfold U';simp only;rw[h];simp only;rw[e]
noncomputable def Dk(xs:List D):List D:=xs.zipIdx.map λq=>.tup [.int q.2,q.1]
noncomputable def Kg(xs ys:List D):List D:=(xs.zip ys).map λq=>.tup [q.1,q.2]
theorem eP{f:Nat->DH->Option (Option D)}{g:DG}{b:DS}{xs:List D}(h:∀j G,f j G=u4 xs[j]?):∀(n j:Nat),j+n=xs.length->∀S G,Di f g b n j S G=An g b (xs.drop j) S G
 |0,j,e,S,G=>by
  unfold Di;rw[h,z0 (by lia),qJ (by lia)]
  rfl
 |n+1,j,e,S,G=>by
  have a:j<xs.length:=by lia
  unfold Di;rw[h,zX a,qZ a,Bs];have:Di f g b n (j+1)=An g b (xs.drop (j+1)):=by funext S G;exact eP h n (j+1) (by lia) S G
  rw[this]
def Ql(h:∀j G,f j G=u4 xs[j]?)(a:n=xs.length):Di f g b n 0 S G=An g b xs S G:=by rw[eP h n 0 (by lia)];rfl
def Th(j:Nat)(G:DH):Dm 0 (.fl xs) j G=u4 (Dk xs)[j]? :=by
 unfold Dm Dk;simp[Bd,zw,List.getElem?_zipIdx]
 cases xs[j]?<;>simp
def zr(j:Nat)(G:DH):Dm 0 (.tup xs) j G=u4 (Dk xs)[j]? :=by
 unfold Dm Dk;simp[Bd,zw,List.getElem?_zipIdx]
 cases xs[j]?<;>simp
def Iu:(Dk xs).length=xs.length:=by simp[Dk]
@[simp]theorem L6:Ez [.fl xs] G=.ok (.fn xs.length (Dm 0 (.fl xs))) G:=by simp[Ez,Jc,Bd,lenOf]
@[simp]theorem zt:Di (Dm 0 (.fl xs)) g b xs.length 0 S G=An g b (Dk xs) S G:=Ql Th Iu.symm
@[simp]theorem L7:Di (Dm 0 (.tup xs)) g b xs.length 0 S G=An g b (Dk xs) S G:=Ql zr Iu.symm
theorem eQ{f:Nat->DH->Option (Option D)}{g:DG}{c:DB}{l:DE}{F:D->Option D}{xs:List D}(i:∀j,f j G=u4 xs[j]?)(h:∀x∈xs,WN g c l S G x (F x)):
  ∀(n j:Nat),xs.length<=j+n->Cz f g c l S n j G=.ok ((xs.drop j).filterMap F) G
 |0,j,m=>by
  unfold Cz;rw[i,z0 (by lia)];simp only;rw[qJ (by lia)]
  rfl
 | n+1,j,m=>by
  unfold Cz;rw[i];by_cases a:j<xs.length
  .have k:=eQ i h n (j+1) (by lia);obtain⟨q,o,b⟩:=h xs[j] (qW a);rw[zX a];simp[o,R.Hu];rw[qZ a,qy];rcases b with⟨b,e⟩|⟨b,d,e,p⟩
   .simp[b,e,k]
   simp[b,e,p,k]
  rw[z0 (by lia),qJ (by lia)]
  rfl
def Ry{f:Nat->DH->Option (Option D)}{g:DG}{c:DB}{a:DE}{F:D->Option D}{xs:List D}{n:Nat}(b:∀j,f j G=u4 xs[j]?)(h:∀x∈xs,WN g c a S G x (F x))(d:xs.length<=n):
  Cz f g c a S n 0 G=.ok (xs.filterMap F) G:=eQ b h n 0 (by lia)
theorem af(b:Bd d G=u4 xs)(a:Bd e G=u4 ys)(j:Nat):Ey [d,e] j G=u4 (Kg xs ys)[j]? :=by
 unfold Ey Kg;simp only[Gp,b,a,zw]
 have c:(xs.zip ys)[j]?=match xs[j]?,ys[j]? with
  |some x,u4 y=>u4 (x,y)
  |_,_=>u5:=by
  rw[List.zip,List.getElem?_zipWith]
  cases xs[j]?<;>cases ys[j]?<;>rfl
 rw[c];cases xs[j]? with
 |none=>rfl
 |some x=>
  cases ys[j]? with
  |_=>rfl
def Rw(b:Bd d G=u4 xs)(a:Bd e G=u4 ys):Ew 2 [d,e] G=.ok (.fn xs.length (Ey [d,e])) G:=by simp[Ew,Jc,b,a,lenOf]
@[simp]theorem eR:Bd (.fl xs) G=u4 xs:=id rfl
@[simp]theorem K3:Bd (.tup xs) G=u4 xs:=id rfl
def zu(h:G[i]?=u4 (.lst xs)):Bd (.ref i) G=u4 xs:=by simp[Bd,h]
def eS(h:Bd d G=u4 ((n::ns).map D.int)):Ht [d] G=.ok (.int (ns.foldl min n)) G:=by simp only[Ht,h,Xz]
def eT(h:Bd d G=u4 ((n::ns).map D.int)):Hm [d] G=.ok (.int (ns.foldl max n)) G:=by simp only[Hm,h,Xz]
def eU{p:Nat}{k:Nat}{d:D}(h:G[p]?=u4 (.lst [d]))(hk:k<=1000000):Dv (.ref p) (.int (k:Int)) G=.ok (.ref G.length) (G++[.lst (zV k d)]):=by
 unfold Dv;simp only;rw[h];simp only;have e:(zV k [d]).flatten=zV k d:=by
  induction k with
  |zero=>rfl
  |succ k a=>rw[zU,qk,a (by lia),zU];rfl
 rw[if_pos ⟨by lia,by lia,by simpa using hk⟩,Int.toNat_natCast,e]
end
def Y'(i:Int):Prop:=i.natAbs.log2<33554432
def OS(i j:Int):Prop:=UT i j\/(Y' i/\Y' j)
noncomputable instance (i:Int):Decidable (Y' i):=by unfold Y';infer_instance
noncomputable instance (i j:Int):Decidable (OS i j):=by unfold OS;infer_instance
def OS.ok(h:OS i j):IntMulOk i j:=by
 rcases h with h|⟨c,a⟩
 .exact h.ok
 have b:∀k:Int,Y' k->Builtin.Int.intBits k<=33554432:=λk hk=>by
  unfold Builtin.Int.intBits;split
  .exact jR _
  exact hk
 have e:=b i c;have d:=b j a;have h:Builtin.Int.intTooBig (Builtin.Int.intBits i+Builtin.Int.intBits j)=u7:=by unfold Builtin.Int.intTooBig bitsLine;exact decide_eq_false (by lia)
 unfold IntMulOk;rw[h];simp
section
variable{X:Cx}{E:XK}
def AA:WC X (xT .Mult) (rI OS λi j=>.int (i*j)):=D? λ_ _ _ _ _ _ _ a q=>mul_int q a.ok
end
section
variable{i j:Int}{G:DH}
end
section
variable{X:Cx}{E:XK}
end
def Fy(f:Str)(v:D):List (Str×D)->List (Str×D)
 |[]=>[(f,v)]
 |(g,x)::r=>if g=f then(g,v)::r else(g,x)::Fy f v r
def YD.mono(x:Ext a b)(h:YD a fs us):YD b fs us:=⟨h.1,h.2.mono x⟩
def YD.cons(h:XB a d v)(r:YD a fs us):YD a ((g,d)::fs) ((g,v)::us):=
 ⟨by simp[r.1],v,us.map (·.2),rfl,h,r.2⟩
theorem YD.VP(h:YD a ((g,d)::fs) us):∃v ML,us=(g,v)::ML/\XB a d v/\YD a fs ML:=by
 obtain⟨b,k⟩:=h;cases us with
 |nil=>simp at b
 |cons q us=>
  obtain⟨n,y⟩:=q;simp[zy,List.cons.injEq]at b;obtain⟨rfl,b⟩:=b;obtain⟨v,r,i,j,l⟩:=k;simp[zy,List.cons.injEq]at i;obtain⟨rfl,rfl⟩:=i;exact⟨y,us,rfl,j,b,l⟩
theorem YD.Z'(h:YD a [] us):us=[]:=by
 obtain⟨b,_⟩:=h;cases us with
 |nil=>rfl
 |cons q us=>simp at b
def lkc{a:Type}{f g:Str}{x:a}{fs:List (Str×a)}:qR f ((g,x)::fs)=if(f==g)=u6 then u4 x else fs.lookup f:=by
 show(match f==g with
  |true=>u4 x
  |false=>qR f fs)=_
 cases f==g<;>rfl
theorem YD.look{a:Wd}{f:Str}{d:D}:∀{fs:List (Str×D)}{us:List (Str×V)},YD a fs us->fs.lookup f=u4 d->∃u,us.lookup f=u4 u/\XB a d u
 |[],us,h,e=>by simp at e
 |(g,x)::fs,us,h,e=>by
  obtain⟨v,j,rfl,i,b⟩:=h.VP;rw[lkc]at e⊢;by_cases q:(f==g)=u6
  .rw[if_pos q]at e⊢;cases e;exact⟨v,rfl,i⟩
  rw[if_neg q]at e⊢;exact YD.look b e
theorem YD.ag{a:Wd}{f:Str}:∀{fs:List (Str×D)}{us:List (Str×V)},YD a fs us->fs.lookup f=u5->us.lookup f=u5
 |[],us,h,e=>by rw[h.Z'];rfl
 |(g,x)::fs,us,h,e=>by
  obtain⟨v,d,rfl,i,b⟩:=h.VP;rw[lkc]at e⊢;by_cases q:(f==g)=u6
  .rw[if_pos q]at e;cases e
  rw[if_neg q]at e⊢;exact YD.ag b e
theorem YD.put(q:XB a d v):∀{fs:List (Str×D)}{us:List (Str×V)},YD a fs us->YD a (Fy f d fs) (Em f v us)
 |[],us,h=>by rw[h.Z'];exact .cons q ⟨rfl,rfl⟩
 |(g,x)::fs,us,h=>by
  obtain⟨w,j,rfl,i,b⟩:=h.VP;unfold Fy Em;by_cases e:g=f
  .rw[if_pos e,if_pos e];exact .cons q b
  rw[if_neg e,if_neg e];exact .cons i (.put q b)
def YD.len(h:YD a fs us):us.length=fs.length:=by have:=congrArg List.length h.1;simpa using this.symm
def Ext.M?(h:a.H p=u4 (.ins C dx us)):Ext a (a.put p ho):=
 ⟨rfl,zY _,λ_ _=>rfl,λq d e=>by
  show upd a.H p ho q=_;rw[Ah (λz=>by subst z;rw[h]at e;cases e)];exact e,λq o u e=>by
  show upd a.H p ho q=_;rw[Ah (λz=>by subst z;rw[h]at e;cases e)];exact e,λ_ t=>t.mono (λq b e=>by show upd a.H p ho q=_;rw[Ah (λz=>by subst z;rw[h]at e;cases e)];exact e) (λq o u e=>by show upd a.H p ho q=_;rw[Ah (λz=>by subst z;rw[h]at e;cases e)];exact e)⟩
def VB.M?(s:VB a G)(d:i<a.n)(g:zb a.K vK c=u4 (u4 (.ref C)))(h:a.H (a.m i)=u4 (.ins C dx us))(r:YD (a.put (a.m i) (.ins C dx ML)) fs' ML):
  VB (a.put (a.m i) (.ins C dx ML)) (G.set i (.ins c fs')):=by
 refine⟨by rw[jE];exact s.len,s.inj,λj o e=>?_,λj k=>?_⟩
 .rw[jY]at e;show RG _ o (upd a.H (a.m i) (.ins C dx ML) (a.m j));by_cases b:i=j
  .subst b;rw[if_pos rfl,if_pos (s.len▸d)]at e;cases e;rw[Ek];exact⟨C,dx,ML,g,rfl,r⟩
  rw[if_neg b]at e;rw[Ah λz=>b (s.inj _ _ (s.lt e) d z).symm];exact(s.obj j o e).mono (.M? h)
 show upd a.H (a.m i) (.ins C dx ML) (a.m j)≠u5;by_cases b:a.m j=a.m i
 .rw[b,Ek];simp
 rw[Ah b];exact s.tr j k
def Hv(c:Str)(d:D)(G:DH):Option (List (Str×D)):=match d with
 |.ref i=>match G[i]? with
  |some (.ins c' fs)=>if c'=c then u4 fs else u5
  |_=>u5
 |_=>u5
def VB.ins(s:VB a G)(r:XB a d x)(h:Hv c d G=u4 fs):
  ∃i C b us,d=.ref i/\i<a.n/\x=.ref (a.m i)/\G[i]?=u4 (.ins c fs)/\zb a.K vK c=u4 (u4 (.ref C))/\a.H (a.m i)=u4 (.ins C b us)/\YD a fs us:=by
 unfold Hv at h;split at h
 .rename_i i;split at h
  .rename_i u q e;split at h
   .rename_i p;subst p;cases h;obtain⟨l,k⟩:=r;obtain⟨C,b,us,n,g,j⟩:=s.obj i _ e;exact⟨i,C,b,us,rfl,l,k,e,n,g,j⟩
   cases h
  cases h
 cases h
def Ds(c:Str)(t:DE)(f:Str):DE:=λS G=>(t S G).bind λd G1=>match Hv c d G1 with
 |some fs=>match fs.lookup f with
  |some v=>.ok v G1
  |none=>.bad
 |none=>.bad
def Eo(c:Str)(to tv:DE)(f:Str):DS:=λS G=>(tv S G).toS λd G1=>(to S G1).toS λo G2=>match o with
 |.ref i=>match Hv c o G2 with
  |some fs=>if fs.length<1000 then .nx S (G2.set i (.ins c (Fy f d fs)))else .bad
  |none=>.bad
 |_=>.bad
def Ff(c:Str)(m:Str)(F:List D->DH->R D)(to:DE)(t:DA):DE:=λS G=>(to S G).bind λo G1=>match Hv c o G1 with
 |some fs=>match fs.lookup m with
  |none=>(t S G1).bind λds G2=>F (o::ds) G2
  |some _=>.bad
 |none=>.bad
def R9(c:Str)(F:List D->DH->R D)(t:DA):DE:=λS G=>(t S G).bind λds G1=>(F (.ref G1.length::ds) (G1++[.ins c []])).bind λv G2=>match v with
 |.WA=>.ok (.ref G1.length) G2
 |_=>.bad
section
variable{X:Cx}{E:XK}{c f m:Str}{C:xA}{e o:xC}{es:List xC}{t ta tv:DE}{tr:DA}{pos apos pos':Pos}
def AB(w:zb X.K vK c=u4 (u4 (.ref C)))(F:ZQ X.K C)(y:UE X.K C f)(P:QE X E e t)(A:xO e f X.env (eval e X.env)=eval e X.env:=by rfl):QE X E (.Attribute e f pos) (Ds c t f):=
 (ow P A).mono λY H Q h=>by
  obtain⟨a,S,G,hk,rfl,s,r,h⟩:=h;refine⟨a,S,G,hk,rfl,s,r,(El h).imp ?_⟩;rintro v _ ⟨b,d,T,rfl,x,n,q,-,g⟩;split at g
  .rename_i fs N;obtain⟨i,p,B,M,rfl,_,rfl,_,l,z,O⟩:=n.ins q N;have j:p=C:=by
    rw[x.k,hk,w]at l;cases l
    rfl
   subst j;split at g
   .rename_i U J;obtain⟨u,L,I⟩:=O.look J;exact⟨b.m i,p,B,M,u,rfl,z,F,y,L,g b u (.refl b) n I⟩
   exact g.elim
  exact g.elim
def AC(J:zb X.K vK c=u4 (u4 (.ref C)))(T:ZQ X.K C)(N:UE X.K C f)(ha:QE X E o ta)(L:QE X E e tv)(Q:swapsWith e (u4 (.Attribute o f pos')) pos.line X.env=pure u7:=by rfl):
  QS X E (.Assign [.Attribute o f pos'] e pos) (Eo c ta tv f):=
 (oy ha L Q).mono λW σ H h=>by
  obtain⟨a,S,G,hk,rfl,s,r,h⟩:=h;refine⟨a,S,G,hk,rfl,s,r,(G8 h).imp ?_⟩;rintro v _ ⟨b,d,I,rfl,x,U,q,-,P⟩;refine⟨b,S,I,x.k.trans hk,rfl,U,r.mono x,(G8 P).imp ?_⟩;rintro v2 _ ⟨l,d2,G2,rfl,y,z,M,-,g⟩;split at g
  .rename_i i;split at g
   .rename_i fs hi;split at g
    .rename_i Z;obtain⟨i',w,A,B,O,Y,rfl,eg,u,p,F⟩:=z.ins M hi;cases O;have n:w=C:=by
      rw[y.k,x.k,hk,J]at u;cases u
      rfl
     subst n;have j:Ext l (l.put (l.m i) (.ins w A (Em f v B))):=.M? p;exact⟨l.m i,w,A,B,rfl,p,T,N,F.len▸Z,g _ σ j (z.M? Y u p (.put ((q.mono y).mono j) (F.mono j))) (((r.mono x).mono y).mono j)⟩
    exact g.elim
   exact g.elim
  exact g.elim
def AD{sp F:List D->DH->R D}{p:St}{H:Hp}{Q:VK}(y:zb X.K vK c=u4 (u4 (.ref C)))(h:lE X.K E0 (Ff c m F ta tr) p H Q):aE C m (lF X.K F) [] E0 (lE X.K E0 ta) (lA X.K E0 tr) p H Q:=by
 obtain⟨a,S,G,hk,rfl,s,r,h⟩:=h;refine⟨a,S,G,hk,rfl,s,r,(El h).imp ?_⟩;rintro v _ ⟨b,d,w,rfl,x,n,q,-,g⟩;split at g
 .rename_i fs Y;obtain⟨i,P,L,U,rfl,_,rfl,_,l,I,Z⟩:=n.ins q Y;have j:P=C:=by
   rw[x.k,hk,y]at l;cases l
   rfl
  subst j;split at g
  .rename_i O;refine⟨b.m i,L,U,rfl,I,Z.ag O,b,S,w,x.k.trans hk,rfl,n,r.mono x,(Kq g).imp ?_⟩;rintro N _ ⟨T,M,A,rfl,u,J,B,-,z⟩;exact⟨T,A,.ref i::M,(u.k.trans x.k).trans hk,rfl,J,⟨.ref (b.m i),N,by rw[qL],q.mono u,B⟩,z⟩
  exact g.elim
 exact g.elim
def AE{CX:MP}{k:Nat}{g:xA}{b:xD}{ps:List Str}{F:List D->DH->R D}{pl:Sem Bool}(d:zb X.K vK c=u4 (u4 (.ref C)))(r:ZQ X.K C)(p:WR X.K C m g)(i:QD X.prog X.w X.K X.mg X.base CX k g b ps (lF X.K F))(q:NC k X.A)(l:Binds X.K b ps [])
  (j:Passes CX X E0) (ho:QE X E0 o ta) (n:QA X E0 (e::es) tr) (s:notStar e=u6:=by rfl) (a:es.all notStar=u6:=by rfl)
  (u:eval (.Call (.Attribute o m apos) (e::es) [] pos) X.env=(do
   let ov<-eval o X.env
   standAt apos.atName
   let(f,first)<-holding [ov] (getMethod ov m pl)
   callWith pos f first (xP pos (vx (e::es) X.env)) (xR pos (vV [] X.env))):=by rfl):QE X E0 (.Call (.Attribute o m apos) (e::es) [] pos) (Ff c m F ta tr):=
 (pG ho r p i q l .nil j n (Ij e es X.env s) (M8 pos X.env es a) u).mono λv H Q h=>AD (sp:=F) d h
def AF(z:zb X.K vK c=u4 (u4 (.ref C)))(L:ZQ X.K C)(n:WR X.K C m g)(O:QD X.prog X.w X.K X.mg X.base CX k g fd ps (lF X.K F))(M:NC k X.A)(I:Binds X.K fd ps [])
  (Z:Passes CX X E0) (ho:QE X E0 o ta)
  (Y:eval (.Call (.Attribute o m apos) [] [] pos) X.env=(do
   let ov<-eval o X.env
   standAt apos.atName
   let(f,first)<-holding [ov] (getMethod ov m pl)
   callWith pos f first (xP pos (vx [] X.env)) (xR pos (vV [] X.env))):=by rfl):QE X E0 (.Call (.Attribute o m apos) [] [] pos) (Ff c m F ta Bm):=
 (pH ho L n O M I .nil Z Y).mono λσ H Q h=>by
  obtain⟨a,S,G,hk,rfl,s,r,h⟩:=h;refine⟨a,S,G,hk,rfl,s,r,(El h).imp ?_⟩;rintro v _ ⟨b,d,y,rfl,x,u,q,-,j⟩;split at j
  .rename_i fs T;obtain⟨i,N,J,P,rfl,_,rfl,_,p,B,U⟩:=u.ins q T;have l:N=C:=by
    rw[x.k,hk,z]at p;cases p
    rfl
   subst l;split at j
   .rename_i n;exact⟨b.m i,J,P,rfl,B,U.ag n,b,y,[.ref i],x.k.trans hk,rfl,u,⟨.ref (b.m i),[],rfl,q,rfl⟩,j⟩
   exact j.elim
  exact j.elim
def AG(hk:a.K=X.K)(A:zb X.K vK c=u4 (u4 (.ref C)))(s:VB a G)(q:OA a ds vs)
  (h:out E0 a ((F (.ref G.length::ds) (G++[.ins c []])).bind λv J=>match v with
   |.WA=>.ok (.ref G.length) J
   |_=>.bad) Q):∀x g,a.H x=u5->a.H g=u5->g≠x->lF X.K F (.ref x::(vs++[])) (upd (upd a.H g (.own x)) x (.ins C g [])) (λv N=>v=.WA/\Q (.ref x) N) E:=λp g hp k r=>by
 have u:Ext a (a.put g (.own p)):=.put k;have j:(a.put g (.own p)).H p=u5:=by show upd a.H g (.own p) p=u5;rw[Ah λz=>r z.symm];exact hp
 have y:Ext (a.put g (.own p)) ((a.put g (.own p)).push p (.ins C g [])):=.push j;have B:VB ((a.put g (.own p)).push p (.ins C g [])) (G++[.ins c []]):=(s.put k).push j ⟨C,g,[],by show zb a.K vK c=_;rw[hk];exact A,rfl,rfl,rfl⟩;have i:((a.put g (.own p)).push p (.ins C g [])).m a.n=p:=by show(if a.n=a.n then p else a.m a.n)=p;rw[if_pos rfl]
 have w:XB ((a.put g (.own p)).push p (.ins C g [])) (.ref G.length) (.ref p):=by rw[s.len];exact⟨qV _,by rw[i]⟩
 refine⟨(a.put g (.own p)).push p (.ins C g []),_,.ref G.length::ds,hk,rfl,B,⟨.ref p,vs,by rw[qL],w,(q.mono u).mono y⟩,(El (out.mono (u.trans y) h)).imp ?_⟩;rintro v _ ⟨b,d,O,rfl,I,M,L,-,l⟩;split at l
 .have:=L;exact⟨this,l b _ (.refl b) M (w.mono I)⟩
 exact l.elim
def AH{CX:MP}{k:Nat}{g:xA}{j:xD}{ps:List Str}{F:List D->DH->R D}{p:Pos}(n:zb X.K vK c=u4 (u4 (.ref C)))(M:Mk X.K C g)(v:QD X.prog X.w X.K X.mg X.base CX k g j ps (lF X.K F))(J:NC (k+1) X.A)(u:Gl X c)(I:X.mg c=u4 (.ref C))(z:Binds X.K j ps [])
  (y:Passes CX X E0) (B:QA X E0 (e::es) tr) (i:(c==("__debug__":Str))=u7:=by decide) (N:notStar e=u6:=by rfl) (d:es.all notStar=u6:=by rfl):QE X E0 (.Call (.Name c p) (e::es) [] pos) (R9 c F tr):=
 (pJ M v J u I z .nil y B i (Ij e es X.env N) (M8 pos X.env es d)).mono λP H Q h=>by obtain⟨a,S,G,hk,rfl,s,r,h⟩:=h;refine⟨a,S,G,hk,rfl,s,r,(Kq h).imp ?_⟩;rintro T _ ⟨b,U,O,rfl,x,L,q,-,l⟩;exact AG (x.k.trans hk) n L q l
end
def Ii(d:D)(ds:List D)(G:DH):R D:=match ds with
 | [.int k]=>match G7 d G with
  |some xs=>match Iz xs with
   |some ns=>if k∈ns/\ns.length<=1000000 then .ok (.int (ns.idxOf k)) G else .bad
   |none=>.bad
  |none=>.bad
 |_=>.bad
theorem eV:∀{ns:List Int}{vs:List V},OA a (ns.map D.int) vs->vs=ns.map V.int
 |[],vs,h=>h
 |n::ns,vs,h=>by
  obtain⟨v,r,e,c,b⟩:=h;cases(c);rw[e,eV b]
  rfl
theorem Pq:∀{ns:List Int}{us:List xL},Vals (ns.map V.int) us->us.length=ns.length/\∀(j:Nat)(u:xL),us[j]?=u4 u->∃t,∃h:j<ns.length,u=.int ns[j] t
 |[],us,h=>by cases h;exact⟨rfl,λj u e=>by simp at e⟩
 | n::ns,us,h=>by
  cases h with
  | cons r d=>
   obtain⟨b,f⟩:=Pq d;obtain⟨t,rfl⟩:=r;refine⟨by simp[b],λj u e=>?_⟩;cases j with
   |zero=>simp at e;exact⟨t,by simp,by simpa using e.symm⟩
   |succ j=>
    obtain⟨g,c,a⟩:=f j u (by simpa using e);exact⟨g,by simpa using c,by simpa using a⟩
section
variable{X:Cx}{E:XK}
def AI:SV X "list.index" (E? X.K E Ii):=by
 intro vS s σ H x xs v us Q I rx B h;obtain⟨a,G,d,ds,hk,rfl,sm,rd,L,q⟩:=h;unfold Ii at q;split at q
 .rename_i k;split at q
  .rename_i ys J;split at q
   .rename_i f T;split at q
    .rename_i S;obtain⟨j,hlen⟩:=S;obtain⟨p,vs,rfl,U,Z⟩:=Pr sm rd J;rw[Vd T]at Z;rw[eV Z,hk]at U;cases rx;obtain⟨v1,rfl,M⟩:=ZE L;cases(M);obtain⟨u,rfl,ru⟩:=B.one;obtain⟨t,rfl⟩:=ru;obtain⟨b,l,⟨o,n,O,W,hdi,hd⟩,hz⟩:=I.list U;obtain⟨w,c⟩:=Pq l;have z:=qD j;have P:f.idxOf k<b.toArray.size:=by simpa[w]using z
     have A:o={cls:=.type "list",dict:=o.dict,data:=.seq b.toArray n,slots:=o.slots}:=by
      obtain⟨c1,c2,c3,c4⟩:=o;simp only at W hd;subst W;subst hd
      rfl
     rw[A]at O
     refine call_meets PySem.F.slot_list_index ⟨_,O,rfl⟩ PySem.F.entry_list_index (PySem.F.args_list_index_2 _ _) (SeqAt.list_indexAt p b.toArray n o.dict o.slots (.int k t) (λy=>match y with | .int i _=>i==k|_=>u7) (f.idxOf k) P (by lia) ?_ ?_) ⟨O,λy J=>?_,⟨.int (f.idxOf k),a.H,I.tok _,⟨_,rfl⟩,q a _ (.refl a) sm rfl⟩⟩
     .have C:b[f.idxOf k]?=u4 b.toArray[f.idxOf k]:=by simp[zX (by simpa[w]using z:f.idxOf k<b.length)]
      obtain⟨Y,h3,g⟩:=c _ _ C;rw[g];simp
     .intro m N r;have C:b[m]?=u4 b.toArray[m]:=by simp[zX (by simpa using N)]
      obtain⟨Y,h3,g⟩:=c _ _ C;rw[g];have:=List.not_of_lt_findIdx r;simpa using this
     .obtain⟨m,N,e⟩:=qj (by simpa using J);obtain⟨Y,h3,g⟩:=c m y (by rw[zX N,e]);rw[g];exact .int_int _ _ _ _
    exact q.elim
   exact q.elim
  exact q.elim
 exact q.elim
def tLR(ta:TA):TE:=λσ H Q=>ta σ H λvs H1=>∃j:Int,vs=[.int j]/\ -(2^62)<=j/\j<=1000000/\∀l,H1 l=u5->Q (.ref l) (upd H1 l (.lst ((zQ j.toNat).map λ(i:Nat)=>V.int (i:Int))))
def AJ(h:ItemsOf (λi v=>∃t,v=.int ((0:Int)+i*1) t) acc n):Vals ((zQ n).map λ(i:Nat)=>V.int (i:Int)) acc.toList:=by
 obtain⟨b,g⟩:=h;refine Zj (by simp[b]) λi v u a c=>?_
 have d:i<n:=by have:=(zA.mp a).1;simpa using this
 rw[zw,zM d]at a;have f:v=V.int (i:Int):=by simpa using a.symm
 obtain⟨t,e⟩:=g i u (by rw[<-jZ];exact c);subst f;refine⟨t,?_⟩;rw[e]
 congr 1
 lia
def AK{e:xC}{ta:TA}{p r pos a:Pos}(B:X.calm=u6)(z:Gl X "list")(J:X.mg "list"=u5)(l:Gl X "range")(m:X.mg "range"=u5)(N:PA X [e] ta)(A:vx [e] X.env=[(u7,eval e X.env)]:=by rfl)
  (d:vx [.Call (.Name "range" r) [e] [] a] X.env=[(u7,eval (.Call (.Name "range" r) [e] [] a) X.env)]:=by rfl):PE X (.Call (.Name "list" p) [.Call (.Name "range" r) [e] [] a] [] pos) (tLR ta):=by
 intro g s L H Q I h;refine Call_ (Hn I z J dM (zg ?_ d rfl));rw[d];refine Calls.spliced_cons (Call_ (Hn I l m uq (zg (QB (N a g s L H _ I h) λW k zz=>?_) A rfl)));obtain⟨T,P,y,M,x⟩:=zz;obtain⟨j,rfl,O,U,q⟩:=x;obtain⟨u,rfl,C⟩:=M.one;obtain⟨t,rfl⟩:=C;refine call_range_1 (Calls.spliced_nil ?_)
 have n:Builtin.Range.rangeSize 0 j 1=(j.toNat:Int):=by rw[rangeSize_one];split <;> lia
 refine call_list_range (I.ok.hd B) (.new ..) (small_one (by decide) (by decide) O (by lia)) n (by lia) λK S f F hk v c=>?_
 have w:=y.kept (t':=k.toks+1+1) (h':=k.heap.push {cls:=.type "range",data:=.fields #[.int 0 k.toks,.int j t,.int 1 (k.toks+1)]}) λb o e=>zZ _ e
 refine⟨.ref _,_,w.laid (o:=.lst ((zQ j.toNat).map λ(i:Nat)=>V.int (i:Int))) hk (zY _) ⟨?_,f.toList,F,AJ c,by simpa using v⟩,rfl,q _ (w.OB.fresh (zY _))⟩;rw[zO,List.length_range,vz];lia
def Zs(t:DA):DE:=λS G=>(t S G).bind λds G1=>match ds with
 |[.int j]=>if inR j/\j<=1000000 then .ok (.ref G1.length) (G1++[.lst (Bb 0 j.toNat)])else .bad
 |_=>.bad
def AL{e:xC}{ta:DA}{p m pos c:Pos}(w:X.calm=u6)(t:Gl X "list")(z:X.mg "list"=u5)(f:Gl X "range")(g:X.mg "range"=u5)(C:QA X E [e] ta)(u:vx [e] X.env=[(u7,eval e X.env)]:=by rfl)
  (i:vx [.Call (.Name "range" m) [e] [] c] X.env=[(u7,eval (.Call (.Name "range" m) [e] [] c) X.env)]:=by rfl):QE X E (.Call (.Name "list" p) [.Call (.Name "range" m) [e] [] c] [] pos) (Zs ta):=
 (AK w t z f g C u i).mono λK H Q h=>by
  obtain⟨a,S,G,hk,rfl,s,r,h⟩:=h;refine⟨a,S,G,hk,rfl,s,r,(Kq h).imp ?_⟩;rintro J _ ⟨b,I,F,rfl,x,y,q,-,d⟩;split at d
  .rename_i j;split at d
   .rename_i n;obtain⟨v,rfl,A⟩:=ZE q;cases(A);refine⟨j,rfl,n.1.1,n.2,λl B=>Io y ?_ d l B⟩;unfold Bb;generalize zQ j.toNat=L
    induction L with
    |nil=>exact rfl
    |cons k L o=>exact⟨_,_,rfl,(by show V.int (k:Int)=V.int (0+(k:Int));rw[Int.zero_add]),o⟩
   exact d.elim
  exact d.elim
noncomputable def Itd(lo:Int)(n:Nat):It:=⟨λi _=>i<n,λi H x H'=>H'=H/\x=.int (lo-i),λi _=>n<=i⟩
def AM{P:xF}{w:xM}{K:za}{tg:xC}(it:xA)(g:Int)(n:Nat):Turn P w K tg (Itd g n) [it] it (λi h=>IsRangeIter h it (g+(i:Nat)*(-1)) ((n:Int)-(i:Nat)) (-1)) where
 mem:=by simp
 obj:=λi h a b c=>by
  have e:b=it:=by simpa using c
  subst e;exact⟨_,a,λv z=>by have C:=z;cases C⟩
 keep:=λi h B a k=>k it (by simp) _ a
 item:=by
  intro X l hw u r i f s M H E I j a q;subst l hw u;obtain⟨y,m,J,x,p,A⟩:=j it (by simp);refine(Walks.range (I.ok.hd r) it g (-1) n).item i s _ _ q a λv B O F d N=>?_
  obtain⟨t,rfl⟩:=F;refine⟨_,rfl,O6 d rfl rfl (by decide) ⟨.int (g-i),H,I.turned (λb o c e=>N b o (by simpa using c) e) y m x p A,⟨t,?_⟩,⟨rfl,rfl⟩,d,λb c=>(j b c).1⟩⟩
  congr 1
  lia
 done:=by intro X l hw u r i f s M H E I j a q;subst l hw u;obtain⟨y,m,J,x,p,A⟩:=j it (by simp);exact wpAny_pyNext_range_end (I.ok.hd r) a (by have:n<=i:=q;lia) λB L=>⟨rfl,I.turned (λb o c e=>L b o c e) y m x p A⟩
 self:=λ_ _ _ _ _ a h=>wpAny_pyIter_rangeiter a h
def YG(a b:Int):Builtin.Range.rangeSize a b (-1)=if b<a then a-b else 0:=by
 unfold Builtin.Range.rangeSize;rw[if_neg (by decide)];have e:(- (-1:Int))=1:=by decide
 rw[e,Int.ediv_one]
 split <;> lia
def ZP(f: -(2^62)<=a)(d:a<2^62)(e: -(2^62)<=b)(c:b<2^62):Builtin.Range.small a b (-1)=u6:=by
 unfold Builtin.Range.small;rw[YG];simp[Builtin.Range.rangeFitsLong,z7,jG,decide_eq_true_eq,beq_iff_eq,show¬((-1:Int)>0) by decide,if_false]
 split <;> lia
def iDn(ta:TA):TI:=λσ H R=>ta σ H λvs H1=>∃i j:Int,vs=[.int i,.int j,.int (-1)]/\(-(2^62)<=i/\i<2^62/\ -(2^62)<=j/\j<2^62)/\R (Itd i (i-j).toNat) H1
theorem AN{tg a b c:xC}{ta:TA}{p pos:Pos}(M:Gl X "range")(S:X.mg "range"=u5)(U:PA X [a,b,c] ta)(O:vx [a,b,c] X.env=(u7,eval a X.env)::vx [b,c] X.env:=by rfl)(x:(xP pos (vx [b,c] X.env)).any (·.1)=u7:=by rfl):
  PI X tg (.Call (.Name "range" p) [a,b,c] [] pos) (iDn ta):=by
 intro k s B H R I h;refine Call_ (Hn I M S uq (zg (QB (U pos k s B H _ I h) λY m zz=>?_) O x));obtain⟨W,A,K,T,w⟩:=zz;obtain⟨i,j,e,⟨w,C,Q,J⟩,q⟩:=w;subst e;cases T with
 | cons r u=>
  cases u with
  | cons P u=>
   cases u with
   | cons y u=>
    cases u;obtain⟨t,rfl⟩:=r;obtain⟨v,rfl⟩:=P;obtain⟨g,rfl⟩:=y;refine call_range_3 (by decide) ?_ (.inl (PyProof.noPylong_small (by lia)));refine wpAny_pyIter_range (.new ..) (ZP w C Q J) ?_;have z:Inv X k B A {m with heap:=m.heap.push {cls:=.type "range",data:=.fields #[.int i t,.int j v,.int (-1) g]},toks:=m.toks}:=K.kept λb o e=>zZ _ e
    refine⟨(m.heap.push {cls:=.type "range",data:=.fields #[.int i t,.int j v,.int (-1) g]}).objs.size,[(m.heap.push {cls:=.type "range",data:=.fields #[.int i t,.int j v,.int (-1) g]}).objs.size],_,_,A,rfl,
     z.kept λb o e=>zZ _ e,AM _ i (i-j).toNat,?_,λb N=>?_,q⟩
    .have L:i+((0:Nat):Int)*(-1)=i:=by simp
     have F:(((i-j).toNat:Nat):Int)-((0:Nat):Int)=Builtin.Range.rangeSize i j (-1):=by rw[YG];split <;> lia
     rw[L,F];exact z6 _ rfl
    have e:b=(m.heap.push {cls:=.type "range",data:=.fields #[.int i t,.int j v,.int (-1) g]}).objs.size:=by simpa using N
    subst e;exact z.Hz (zY _) (z.OB.fresh (zY _))
noncomputable def Iw(lo:Int)(n:Nat):List D:=(zQ n).map λ(k:Nat)=>D.int (lo-(k:Int))
def MQ(ds:List D)(G:DH):R TV:=match ds with
 |[.int i,.int j,.int k]=>if inR i/\inR j/\k= -1 then .ok (.pure (Iw i (i-j).toNat)) G else .bad
 |_=>.bad
def AO(e:Int)(n:Nat):WH a (.pure (Iw e n)) (Itd e n):=by
 refine⟨(zQ n).map λ(k:Nat)=>V.int (e-(k:Int)),?_,λb x i=>⟨λv c=>?_,λf=>?_⟩⟩
 .unfold Iw;generalize zQ n=l
  induction l with
  |nil=>exact rfl
  |cons k l g=>exact⟨_,_,rfl,rfl,g⟩
 .rw[zw]at c;by_cases d:i<n
  .rw[zM d]at c;exact⟨d,λw h y=>⟨y.2.trans (by simpa using c),y.1⟩⟩
  rw[z0 (by simpa using d)]at c;cases c
 show n<=i;simpa using f
def AQ{tg e f c:xC}{ta:DA}{p pos:Pos}(z:Gl X "range")(F:X.mg "range"=u5)(I:QA X E [e,f,c] ta)(A:vx [e,f,c] X.env=(u7,eval e X.env)::vx [f,c] X.env:=by rfl)(l:(xP pos (vx [f,c] X.env)).any (·.1)=u7:=by rfl):
  QI X E tg (.Call (.Name "range" p) [e,f,c] [] pos) (Bf MQ ta):=
 (AN z F I A l).mono λT H Q h=>by
  obtain⟨a,S,G,hk,rfl,s,r,h⟩:=h;refine⟨a,S,G,hk,rfl,s,r,(Rg h).imp ?_⟩;rintro P _ ⟨b,N,J,rfl,x,B,q,-,d⟩;unfold MQ at d;split at d
  .rename_i i j k;split at d
   .rename_i g;obtain⟨m,g,rfl⟩:=g;obtain⟨v,r,y,n,O,K,u,t,M,L,o,C,w⟩:=q;cases(n);cases(t);cases(C);cases(w);subst o;subst u;exact⟨i,j,y,⟨m.1,m.2,g.1,g.2⟩,d b _ (.refl b) B (AO i (i-j).toNat)⟩
   exact d.elim
  exact d.elim
end
def AR(a b:xL):checkTypeCall "enumerate" ⟨[a],[("start",b)]⟩=pure ():=by kernel_rfl
def AS(a b:xL):vQ "enumerate.__new__" ⟨[.type "enumerate",a],[("start",b)]⟩=pure ():=by kernel_rfl
def AU(o a b:xL):argsOk "object.__init__" ⟨[o,a],[("start",b)]⟩:=by
 unfold argsOk;rw[signature?_of (n:=['_','_','t','i','n','i','_','_']) (by kernel_rfl) wg]
 kernel_rfl
section
variable{prog:xF}{w:xM}{A:xB}{E:xL->xH->Prop}{s:xH}
def AV(f:typeLookup (.type T) "__init__"=pure (u4 (.builtin "object.__init__")))(h:Bind.madeBy (.type T)=pure (u4 newId))(e:(u4 newId != u4 "object.__new__")=u6):
  Meets (Builtin.«object.__init__» ⟨[self,a],kw⟩) (λ_ R s=>s.TypeIs self T/\R (.ok (.ret .none)) s):=by
 refine .of_wp λb w A R s d=>?_
 obtain⟨g,c⟩:=d
 repeat (any_goals (first|assumption|wp_step))
 exact⟨_,rfl,c⟩
theorem AW(d:TypeCalled T newId ZJ)
  (C:checkTypeCall T ⟨args,kw⟩=pure ()) (n:vQ newId ⟨.type T::args,kw⟩=pure ())
  (i:entryFor table newId=u4 Bn) (f:entryFor table ZJ=u4 Bi) (g:Meets (Bn ⟨.type T::args,kw⟩) S) (h:S A.in1 (wants Q₁ E) s)
  (l:∀obj a,Q₁ obj a->a.TypeIs obj T/\argsOk ZJ ⟨obj::args,kw⟩/\∃p,Meets (Bi ⟨obj::args,kw⟩) p/\p A.in1 (wants (λr j=>r=.none/\Q obj j) E) a):
  vk (vY prog w) A (call (.type T) args kw) Q E s:=by
 obtain⟨c,K,u⟩:=d.mro;have t:=d.made;have v:=d.sub;refine wpAny_call (codeAny_of_tree ?_);refine vL ⟨Code.quiet_builtin _ (by decide +kernel),codeAny_builtin PySem.F.entry_type_call ?_⟩;rw[Around.under_plain (weight_type_call_type T args kw) (units_type_call_type T args kw)];have I:=d.notType;have H:=d.canCreate
 repeat (any_goals (first|assumption|wp_step))
 refine vZ (codeAny_call_builtin d.plain i (wpAny_of_eq n (g prog w A.in1 _ s h))) λr a q=>?_
 cases r with
 |error e=>exact q
 | ok fl=>
  cases fl with
  | ret obj=>
   obtain⟨x,OB,p,y,o⟩:=l _ _ q;have B:=d.init.lookup;have z:=d.init.bind obj
   repeat (any_goals (first|assumption|wp_step))
   refine vZ (codeAny_call_builtin d.init.plain f (d.init.check _ _ _ _ _ _ _ _ x OB (y prog w A.in1 _ a o))) λm j b=>?_
   cases m with
   |error e=>exact b
   | ok k=>
    cases k with
    |ret r=>
     obtain⟨rfl,J⟩:=b
     repeat (any_goals (first|assumption|wp_step))
    |_=>exact b.elim
  |_=>exact q.elim
def AX{sr:Src}{xs:Array xL}{n:Int}{t:Tok}{Q:xL->xH->Prop}(hv:sr.val s.heap xs)
  (h:∀h' tk g,Gv n g->En h' (s.heap.objs.size+1) s.heap.objs.size .none n g .none->sr.it h' s.heap.objs.size 0->(∀b o,s.heap.get? b=u4 o->h'.get? b=u4 o)->Q (.ref (s.heap.objs.size+1)) {s with heap:=h',toks:=tk}):
  vk (vY prog w) A (call (.type "enumerate") [.ref sr.VE] [("start",.int n t)]) Q E s:=by
 have g:Meets (Builtin.«enumerate.__new__» ⟨[.type "enumerate",.ref sr.VE],[("start",.int n t)]⟩) (λ_ R s=>sr.val s.heap xs/\∀g tk,Gv n g->
   R (.ok (.ret (.ref (s.heap.push {cls:=.type sr.VO,data:=.fields #[.ref sr.VE,.int 0 0]}).objs.size)))
    {s with heap:=(s.heap.push {cls:=.type sr.VO,data:=.fields #[.ref sr.VE,.int 0 0]}).push {cls:=.type "enumerate",data:=.fields #[.none,.bool u7,.ref s.heap.objs.size,vq n,g,.none]},toks:=tk}):=
  .of_wp λprog w A R s h=>by
   obtain⟨hp,g,d,tk,os⟩:=s;obtain⟨hl,h⟩:=h;have hsub:=sub_enumerate;have hL:sr.val (Shared.heap ⟨hp,g,d,tk,os⟩) xs:=hl
   wp_walk
   refine wpAny_stack_any λst=>vL ?_
   cases hf:u3 n
   .split
    .rename_i c _ _ _ _ _
     cases(c==Value.type "enumerate")<;>(wp_walk using Src.iter hL;exact⟨_,rfl,h _ _ (.inr ⟨t,rfl⟩)⟩)
    wp_walk using Src.iter hL
    exact⟨_,rfl,h _ _ (.inr ⟨t,rfl⟩)⟩
   split
   .rename_i c _ _ _ _ _
    cases(c==Value.type "enumerate")<;>(wp_walk using Src.iter hL;exact⟨_,rfl,h _ _ (.inl rfl)⟩)
   .wp_walk using Src.iter hL
    exact⟨_,rfl,h _ _ (.inl rfl)⟩
 refine AW (Q₁:=λobj s₁=>s₁.TypeIs obj "enumerate"/\Q obj s₁) wd (AR _ _) (AS _ _) we PySem.F.entry_object_init g ⟨hv,λg tk hg=>?_⟩ λobj s₁ hq=>⟨hq.1,AU obj _ _,_,AV PySem.F.called_enumerate.init.lookup PySem.F.called_enumerate.made (by decide),hq.1,rfl,hq.2⟩
 have hz:(s.heap.push {cls:=.type sr.VO,data:=.fields #[.ref sr.VE,.int 0 0]}).objs.size=s.heap.objs.size+1:=q9 ..;rw[hz];have he:En ((s.heap.push {cls:=.type sr.VO,data:=.fields #[.ref sr.VE,.int 0 0]}).push {cls:=.type "enumerate",data:=.fields #[.none,.bool u7,.ref s.heap.objs.size,vq n,g,.none]}) (s.heap.objs.size+1) s.heap.objs.size .none n g .none:=by
  have:=z6 (s.heap.push {cls:=.type sr.VO,data:=.fields #[.ref sr.VE,.int 0 0]}) (o:={cls:=.type "enumerate",data:=.fields #[.none,.bool u7,.ref s.heap.objs.size,vq n,g,.none]}) rfl;rw[hz]at this;exact this
 exact⟨⟨_,he,rfl⟩,h _ tk g hg he ⟨_,zZ _ (z6 _ rfl),rfl,rfl⟩ λb o x=>zZ _ (zZ _ x)⟩
def AY{M:Model}{A:xB}{E:xL->xH->Prop}{s:xH}{env:Env}{pos:Pos}{T:String}{e:xC}{rest:List xC}{c:List Keyword}{Q:xL->xH->Prop}
  (i:(xR pos (vV c env)).all (·.1.isSome)=u6)
  (h:vk M A (spliced (xP pos (vx (e::rest) env))) (λvs b=>vk M A (evalAll ((xR pos (vV c env)).map (·.2)))
   (λks f=>vk M A (call (.type T) vs (((xR pos (vV c env)).filterMap (·.1)).zip ks)) Q E f) E b) E s)
  (d:(xP pos (vx (e::rest) env)).any (·.1)=u7) (j:(xR pos (vV c env)).any (·.1.isNone)=u7) (l:vx (e::rest) env=(u7,eval e env)::vx rest env):
  vk M A (callWith pos (.type T) [] (xP pos (vx (e::rest) env)) (xR pos (vV c env))) Q E s:=by
 unfold callWith;refine vB (vF (vG (PyProof.Rows.evalArgs_kw2 (Q:=λa b=>vk M A (call (.type T) ([]++a.pos) a.kw) Q E b) i h l) (λa b g=>vB (wpAny_standAt ?_)) λ_ _ x=>x));simp only[d,j,Bool.or_false];exact vB (vL (vB (vG g (λr f k=>vB (vF (wpAny_point (vL k)))) λ_ _ x=>x)))
end
section
variable{X:Cx}{E:XK}
def AZ(K:za)(ta tk:TA):TI:=λσ H R=>ta σ H λvs H1=>tk σ H1 λws H2=>∃sr xs n,vs=[.ref (Src.VE sr)]/\ws=[.int n]/\sr.sq K H2 xs/\R (P' K sr n) H2
theorem A0{elts:List xC}{x1}{tp:Pos}{a b:xC}{ta tk:TA}{p pos i:Pos}(k:Gl X "enumerate")(S:X.mg "enumerate"=u5)(Z:PA X [a] ta)(hk:PK X [⟨u4 "start",b,i⟩] tk)(m:vx [a] X.env=[(u7,eval a X.env)]:=by rfl):
  PI X (.Tuple elts x1 tp) (.Call (.Name "enumerate" p) [a] [⟨u4 "start",b,i⟩] pos) (AZ X.K ta tk):=by
 intro c s v H R I h;refine vA (Hn I k S wf (AY rfl (QB (Z pos c s v H _ I h) λus O ⟨vs,x,J,Y,y⟩=>QB (hk pos c O v x _ J y) λus2 d zz=>?_) (by rw[m];rfl) rfl m));obtain⟨ws,T,j,B,C⟩:=zz;obtain⟨P,xs,n,e,F,L,q⟩:=C;subst e;subst F;cases Y with
 |cons r M=>
  cases M;cases r;obtain⟨u,rfl,Q⟩:=B.one;obtain⟨t,rfl⟩:=Q;obtain⟨U,rv,z,hz⟩:=Src.sq.val j L;refine AX z λh' tk g k o W i=>?_
  refine Zv o ?_;refine⟨d.heap.objs.size+1,[d.heap.objs.size+1,d.heap.objs.size],_,_,T,rfl,j.kept i,dk P n _ _ (Nat.succ_ne_self _),⟨g,.none,by simpa using o,by simpa using k,W⟩,λb N=>?_,q⟩;have l:b=d.heap.objs.size+1\/b=d.heap.objs.size:=by simpa using N
  have f:d.heap.objs.size<=b:=by rcases l with rfl|rfl<;>lia
  exact j.Hz f (j.OB.fresh f)
def A1(hk:a.K=X.K)(r:∀b:Wd,Ext a b->∀h,VB b h->∀ys,Bd d h=u4 ys->∃us,sr.sq b.K b.H us/\OA b ys us)(n:Nat):WH a (.fn n (Dm n0 d)) (P' X.K sr n0):=by
 intro b x h l i;have z:=x.k.trans hk;constructor
 .intro e f;unfold Dm at f;split at f
  .cases f
  rename_i ys m;obtain⟨us,g,j⟩:=r b x h l ys m;rw[z]at g;cases c:ys[i]? with
  |none=>rw[c]at f;cases f
  |some y=>
   rw[c]at f;have o:D.tup [.int (n0+i),y]=e:=by simpa using f
   subst o;obtain⟨u,v,B⟩:=j.get c;refine⟨⟨us,u,g,v⟩,?_⟩;rintro w F ⟨p,C,rfl,hp,rfl,q⟩;refine⟨b.put p (.tup [.int (n0+i),C]),rfl,.put hp,l.put hp,p,_,rfl,.of Ek,?_⟩;have t:=q us g;rw[v]at t;cases t;exact⟨_,_,rfl,rfl,.cons (B.mono (.put hp)) rfl⟩
 intro f;unfold Dm at f;split at f
 .cases f
 .rename_i ys m;obtain⟨us,g,j⟩:=r b x h l ys m;rw[z]at g;cases c:ys[i]? with
  |none=>exact⟨us,g,by rw[<-j.length];exact jQ.mp c⟩
  |some y=>rw[c]at f;cases f
def Q7(ta:DA)(tb:DE):DI:=λS G=>(ta S G).bind λds G1=>(tb S G1).bind λk G2=>match ds,k with
 |[d],.int n=>match Bd d G2 with
  |some xs=>.ok (.fn xs.length (Dm n d)) G2
  |none=>.bad
 |_,_=>.bad
def A2(a:QE X E b tb):PK X [⟨nm,b,kp⟩] (Q3 (lE X.K E tb) Oo):=pL a pK
theorem A3{E:XK}(h:outI E a (r.bind f) Q):
  out E a r (λv H=>∃(b:Wd)(d:D)(G:DH),b.H=H/\Ext a b/\VB b G/\XB b d v/\outI E b (f d G) Q):=by
 cases r with
 |ok d G=>exact λb v x s q=>⟨b,d,G,rfl,x,s,q,outI.mono x h⟩
 |_=>exact h
def A4{x1}(z:Gl X "enumerate")(L:X.mg "enumerate"=u5)(N:QA X E [e] ta)(C:QE X E b tb)(B:vx [e] X.env=[(u7,eval e X.env)]:=by rfl):
  QI X E (.Tuple elts x1 tp) (.Call (.Name "enumerate" p) [e] [⟨u4 "start",b,kp⟩] pos) (Q7 ta tb):=(A0 z L N (A2 C) B).mono λY H Q h=>by
 obtain⟨a,S,G,hk,rfl,s,r,h⟩:=h;refine⟨a,S,G,hk,rfl,s,r,(Rg h).imp ?_⟩;rintro U _ ⟨b,T,j,rfl,x,F,q,-,o⟩;refine⟨b,S,j,x.k.trans hk,rfl,F,r.mono x,(A3 o).imp ?_⟩;rintro v _ ⟨c,k,P,rfl,y,g,m,f⟩;split at f
 .rename_i d n;split at f
  .rename_i W O;obtain⟨w,r,u,l,I⟩:=q;cases(I);subst u;cases(m);obtain⟨J,rfl,⟨M,t⟩,K⟩:=Xl g (l.mono y) O;have i:=(y.k.trans x.k).trans hk;exact⟨J,M,n,rfl,rfl,by rw[<-i];exact t,f c _ (.refl c) g (A1 i K _)⟩
  exact f.elim
 exact f.elim
end
end _D
namespace _D
open PySem PySem.Spec _L
def Ie(c f:Str)(d:D)(G:DH):R D:=match Hv c d G with
 |some fs=>match fs.lookup f with
  |some v=>.ok v G
  |none=>.bad
 |none=>.bad
def Np(c f:Str)(o d:D)(S:RD)(G:DH):SR:=match o with
 |.ref i=>match Hv c o G with
  |some fs=>if fs.length<1000 then .nx S (G.set i (.ins c (Fy f d fs)))else .bad
  |none=>.bad
 |_=>.bad
def Vk(c m:Str)(F:List D->DH->R D)(t:DA)(S:RD)(o:D)(G:DH):R D:=match Hv c o G with
 |some fs=>match fs.lookup m with
  |none=>(t S G).bind λds G2=>F (o::ds) G2
  |some _=>.bad
 |none=>.bad
def ah(F:List D->DH->R D)(c:Str)(ds:List D)(G1:DH):R D:=(F (.ref G1.length::ds) (G1++[.ins c []])).bind λv G2=>match v with
 |.WA=>.ok (.ref G1.length) G2
 |_=>.bad
section
variable{S:RD}{G:DH}{c f m:Str}{t to tv:DE}{ta:DA}{F:List D->DH->R D}{i:Nat}{fs:List (Str×D)}{v d:D}
@[simp]theorem ev_fld:Ds c t f S G=(t S G).bind λd a=>Ie c f d a:=id rfl
@[simp]theorem Kh:Eo c to tv f S G=(tv S G).toS λd b=>(to S b).toS λo a=>Np c f o d S a:=id rfl
@[simp]theorem L8:Ff c m F to ta S G=(to S G).bind λo a=>Vk c m F ta S o a:=id rfl
@[simp]theorem L9:R9 c F ta S G=(ta S G).bind λa b=>ah F c a b:=id rfl
def Xg(h:G[i]?=u4 (.ins c fs)):Hv c (.ref i) G=u4 fs:=by unfold Hv;simp[h,if_true]
def M4(h:G[i]?=u4 (.ins c fs))(a:fs.lookup f=u4 v):Ie c f (.ref i) G=.ok v G:=by unfold Ie;rw[Xg h];simp[a]
def A5(h:G[i]?=u4 (.ins c fs))(a:fs.length<1000):Np c f (.ref i) d S G=.nx S (G.set i (.ins c (Fy f d fs))):=by unfold Np;simp[Xg h,a,if_true]
def A6(h:G[i]?=u4 (.ins c fs))(e:fs.lookup m=u5):Vk c m F ta S (.ref i) G=(ta S G).bind λb a=>F (.ref i::b) a:=by unfold Vk;rw[Xg h];simp[e]
@[simp]theorem ev_LR:Zs ta S G=(ta S G).bind λb a=>match b with
 |[.int j]=>if inR j/\j<=1000000 then .ok (.ref a.length) (a++[.lst (Bb 0 j.toNat)])else .bad
 |_=>.bad:=id rfl
@[simp]theorem A7{i j:Int}(a:inR i)(b:inR j):MQ [.int i,.int j,.int (-1)] G=.ok (.pure (Iw i (i-j).toNat)) G:=by simp[MQ,a,b]
theorem A8:Iw lo 0=[]:=rfl
def A9:Iw lo (n+1)=.int lo::Iw (lo-1) n:=by
 unfold Iw;rw[qH,zy,qP]
 congr 1
 .simp
 refine qx λk _=>?_
 simp only[Function.comp]
 congr 1
 lia
def eW{d:D}{ns:List Int}{k:Int}(h:G7 d G=u4 (ns.map D.int))(b:k∈ns)(a:ns.length<=1000000):Ii d [.int k] G=.ok (.int (ns.idxOf k)) G:=by unfold Ii;simp[h,Xz,b,a,and_self,if_true]
def Ap{d:D}{G a:DH}(e:a.length=G.length)(b:PC G.length d=u6):tidy G (.ok d a)=.ok d a:=by
 unfold tidy;simp only[b,if_true];split
 .rename_i h;rw[List.take_of_length_le (by lia)]at h;rw[h]
 rfl
def As{d:D}{G a:DH}(h:a.take G.length≠G):tidy G (.ok d a)=.ok d a:=by unfold tidy;simp[h,if_false]
end
end _D
namespace _D
open PySem PySem.Spec _L
open PyProof.Rows hiding St
def Ky(x:Str)(n:Int):Str:=if n<1 then Str.empty else if(n==1||x.length==0)=u6 then x else⟨(zV n.toNat x.cps).foldl (·++·) #[]⟩
theorem Xp:∀(n:Nat)(b:Array Nat),((zV n a).foldl (·++·) b).toList=b.toList++(zV n a.toList).flatten
 |0,b=>by simp
 |n+1,b=>by rw[zU,j5,Xp n (b++a),zU,qk];simp
def Au{a:Array Nat}(n:Nat):((zV n a).foldl (·++·) #[]).size=n*a.size:=by rw[<-qC,Xp];simp
def BA:(Ky x n).cps.toList=(zV n.toNat x.cps.toList).flatten:=by
 unfold Ky;split
 .rename_i h;have e:n.toNat=0:=by lia
  rw[e];rfl
 rename_i h;split
 .rename_i a;rw[jG,beq_iff_eq,beq_iff_eq]at a;rcases a with rfl|a
  .simp
  .have e:x.cps.toList=[]:=by have:x.cps.size=0:=a;rw[<-qC]at this;exact jq this
   rw[e];simp
 .rw[Xp];simp
def Bo:D->D->DH->R D
 |.int i,.int j,G=>if OS i j then .ok (.int (i*j)) G else .bad
 |.str x,.int n,G=>if -1000<=n/\n<=1000/\x.length<=1000 then .ok (.str (Ky x n)) G else .bad
 |_,_,_=>.bad
section
variable{X:Cx}{E:XK}
def BC:WC X (xT .Mult) (λx y H Q=>∃i n,x=.str i/\y=.int n/\(-1000<=n/\n<=1000/\i.length<=1000)/\Q (.str (Ky i n)) H):=by
 intro d s r H x y v u Q I k o h;obtain⟨i,n,rfl,rfl,⟨w,g,e⟩,q⟩:=h;obtain⟨t,rfl⟩:=k;obtain⟨C,rfl⟩:=o;have b:∀m:Nat,m<=1000->i.length*m<=1000000:=λm l=>z8 (j1 e l) (by decide)
 refine P.mul_str ?_ (λa c=>?_) (λa c=>?_) ?_
 .rw[decide_eq_false (by lia),decide_eq_false (by lia)];rfl
 .intro p;have:(i.length:Int)*n<=2^63-1:=by have A:(i.length:Int)*n<=1000*1000:=Int.mul_le_mul (by lia) g (by lia) (by lia);lia
  have B:=(Int.le_ediv_iff_mul_le (by lia)).mpr this;lia
 .have:=b n.toNat (by lia);unfold Builtin.Str.tooLong;rw[vz];exact decide_eq_false (by lia)
 unfold Ky at q;split
 .rename_i a;rw[if_pos a]at q;exact⟨by decide,.str Str.empty,H,I.tok _,⟨_,rfl⟩,q⟩
 .rename_i a;rw[if_neg a]at q;split
  .rename_i c;rw[if_pos c]at q;exact⟨.str i,H,I,⟨t,rfl⟩,q⟩
  .rename_i c;rw[if_neg c]at q;refine⟨?_,.str _,H,I.tok _,⟨_,rfl⟩,q⟩
   show((zV n.toNat i.cps).foldl (·++·) #[]).size<=sizeLine
   have f:i.cps.size<=1000:=e;have z:=j1 (show n.toNat<=1000 by lia) f;rw[Au,vz];lia
def BD:WC X (xT .Mult) (OH X.K E Bo):=Fg (AA.or BC) λa G d e x y Q hk s rd re q=>by
 cases d<;>cases e<;>first
  |exact q.elim
  | (
    rename_i i j;unfold Bo at q;dsimp only at q;split at q
    .first
     |exact .inl ⟨_,_,rd,re,by assumption,q a _ (.refl a) s rfl⟩
     |exact .inr ⟨_,_,rd,re,by assumption,q a _ (.refl a) s rfl⟩
    exact q.elim)
end
section
variable{i j:Int}{G:DH}
def Eu(b: -(2^64)<i)(a:i<2^64):Bo (.int i) (.int j) G=.ok (.int (i*j)) G:=if_pos (.inl (.inl ⟨b,a⟩))
def Gq(b: -(2^64)<j)(a:j<2^64):Bo (.int i) (.int j) G=.ok (.int (i*j)) G:=if_pos (.inl (.inr ⟨b,a⟩))
@[simp]theorem Lc(h:n<18446744073709551616):Bo (.int (no_index (OfNat.ofNat n))) (.int j) G=.ok (.int (OfNat.ofNat n*j)) G:=
 Eu (by have:(0:Int)<=(OfNat.ofNat n:Int):=Int.natCast_nonneg n;lia) (by have:(OfNat.ofNat n:Int)<18446744073709551616:=Int.ofNat_lt.mpr h;lia)
@[simp]theorem Ll(h:n<18446744073709551616):Bo (.int i) (.int (no_index (OfNat.ofNat n))) G=.ok (.int (i*OfNat.ofNat n)) G:=
 Gq (by have:(0:Int)<=(OfNat.ofNat n:Int):=Int.natCast_nonneg n;lia) (by have:(OfNat.ofNat n:Int)<18446744073709551616:=Int.ofNat_lt.mpr h;lia)
def BE(h: -1000<=n/\n<=1000/\x.length<=1000):Bo (.str x) (.int n) G=.ok (.str (Ky x n)) G:=if_pos h
end
section
variable{X:Cx}{E:XK}{e st:xC}{te:TE}{ts:TO}{p2 pos:Pos}
end
section
variable{S:RD}{G:DH}
end
section
variable{X:Cx}{E:XK}
theorem eX:∀(l:List Str),OA a (l.map D.str) (l.map V.str)
 |[]=>.nil
 |x::l=>.cons (rfl) (eX l)
def UX(K:za)(mg:Str->Option xL)(n:Str)(ss:List Str):Prop:=∃(p:xA)(o:Obj)(VA:Array xL)(k:Nat),mg n=u4 (.ref p)/\K.lookup p=u4 o/\o.cls=.type "tuple"/\o.data=.seq VA k/\VA.size<=sizeLine/\Vals (ss.map V.str) VA.toList
def BF{K:za}{h:Heap}{b:Str->Option xL}{n:Str}{p:xA}{od:Option xA}{c:Array (Option xL)}{k:Nat}{VA:List xL}{ss:List Str}(e:K.In h)(G:h.Ns vK b)(a:zb K vK n=u4 (u4 (.ref p)))
  (l:K.lookup p=u4 ⟨.type "tuple",od,.seq VA.toArray k,c⟩) (d:VA.length<=1000) (v:Vals (ss.map V.str) VA):UX K b n ss:=
 ⟨p,_,VA.toArray,k,uz e G a,l,rfl,rfl,by rw[zq];exact z8 d (by decide),by simpa using v⟩
def BG(e:Gl X x)(h:UX X.K X.mg x ss)(l:(x==("__debug__":Str))=u7:=by decide):QE X E (.Name x pos) (dC (.tup (ss.map D.str))):=by obtain⟨p,o,b,k,c,f,i,j,m,d⟩:=h;exact aL (v:=.ref p) e c rfl (λa g=>⟨p,ss.map V.str,rfl,.inr ⟨o,b,k,g▸f,i,j,m,d⟩,eX ss⟩) l
end
section
variable{S:RD}{G:DH}
end
section
variable{X:Cx}{vS:List (xA×Obj)}{σ:St}{H:Hp}{s:xH}{N:List Str}{scope:xG}{YA:List Nat}{x qual:Str}{f:xA}{cd:xL}{A:xB}
end
section
variable{X:Cx}{vS:List (xA×Obj)}{σ:St}{s:xH}{scope:xG}{a:Wd}
end
noncomputable def NQ(ks:List Int)(i j:Nat):Bool:=decide (ks.getD i 0<ks.getD j 0)
section
variable{prog:xF}{w:xM}{A:xB}{E:xL->xH->Prop}{s:xH}
end
section
variable{X:Cx}{vS:List (xA×Obj)}{σ:St}{H:Hp}{s:xH}{h':Heap}{m:Str->Option xL}
end
section
variable{X:Cx}{vS:List (xA×Obj)}{σ:St}{N:List Str}{scope:xG}{YA:List Nat}{x:Str}{f:xA}{A:xB}{a:Wd}{S:RD}{body:xC}{te:DE}{params:Arguments}{pm ctv:xL}{c':xA}{ob oc:Obj}{vs0:Array xL}{t0:Tok}{E:XK}
 {Dd kS:xA} {e1:Nat} {m:Str->Option xL} {h₀:Heap} {Q:VK}
end
end _D
namespace _D
open PySem PySem.Spec _L
open PyProof.Rows hiding St
open PySem.W (KatKeys KatFin katRev KatBack)
section
variable{prog:xF}{w:xM}{A:xB}{E:xL->xH->Prop}{s:xH}{h₀:Heap}{L a kS:xA}{m:Str->Option xL}{P:PySem.Fin->xH->Prop}
end
end _D
namespace _D
open PySem PySem.Spec _L
open PyProof.Rows hiding St
section
variable{X:Cx}{vS:List (xA×Obj)}{σ:St}{N:List Str}{scope:xG}{YA:List Nat}{x:Str}{f:xA}{A:xB}{a:Wd}{S:RD}{body:xC}{te:DE}{params:Arguments}{pm ctv:xL}{c':xA}{ob oc:Obj}{vs0:Array xL}{t0:Tok}
 {Dd kS:xA} {e1:Nat} {m:Str->Option xL} {h₀:Heap} {Q:VK}
end
section
variable{X:Cx}{vS:List (xA×Obj)}{σ:St}{N:List Str}{scope:xG}{YA:List Nat}{x:Str}{f:xA}{A:xB}{a:Wd}{S:RD}{body:xC}{te:DE}{params:Arguments}{pm ctv:xL}{c':xA}{ob oc:Obj}{vs0:Array xL}{t0:Tok}{Q:VK}
end
section
variable{X:Cx}{N:List Str}{scope:xG}{YA:List Nat}{x:Str}{body:xC}{te:DE}{params:Arguments}{e:xC}{tn:DA}{p p' pos pos' lp kp kp' cp:Pos}{C m:Str}{cj:Nat}
end
end _D
namespace _D
open PySem PySem.W _L
theorem eZ:∀{l:List Obj}{n:Nat},(Ks l n).lookup a=u4 o->n<=a/\l[a-n]?=u4 o/\∀x y z,o≠⟨x,y,.freed,z⟩
 |[],n,h=>by cases h
 | p::r,n,h=>by
  have next:(Ks r (n+1)).lookup a=u4 o->n<=a/\(p::r)[a-n]?=u4 o/\∀x y z,o≠⟨x,y,.freed,z⟩:=λh=>by obtain⟨b,c,f⟩:=eZ h;obtain⟨k,rfl⟩:=Nat.exists_eq_add_of_le b;rw[Nat.add_sub_cancel_left]at c;refine⟨z8 (j3 n) b,?_,f⟩;rw[show n+1+k-n=k+1 by rw[Nat.add_assoc,Nat.add_sub_cancel_left,Nat.add_comm],jw];exact c
  unfold Ks at h;split at h
  .exact next h
  .exact next h
  rename_i g i;rw[j0]at h;split at h
  .rename_i e;have d:a=n:=by simpa using e
   subst d;cases h;refine⟨zY _,by simp,λx y z q=>?_⟩;subst q;exact g rfl
  exact next h
def BH(h:Heap):(Rf h).In h:=λa o e=>by
 obtain⟨_,c,d⟩:=eZ e;have b:h.objs[a]?=u4 o:=by simpa using c
 unfold Heap.get?;rw[b];split
 .rename_i q;cases q;exact absurd rfl (d _ _ _)
 rfl
noncomputable def J8(p:xF)(N:Nat)(w:xM):Heap:=match openEnds vv p w N with
 |some s=>s.heap
 |none=>default
def ZN(p:xF)(N:Nat)(w:xM)(h:Heap):Prop:=∀b o,(J8 p N w).get? b=u4 o->h.get? b=u4 o
def ZN.in(x:ZN p N w h):(Rf (J8 p N w)).In h:=λa o e=>x a o (BH _ a o e)
def Ut(p:xF)(N:Nat):Hook:=
 ⟨Heap,λs=>s.heap,J8 p N,ZN p N,λw s e b o q=>by rw[show s.heap=J8 p N w from e];exact q,λw h h' x k b o q=>k b o (x b o q)⟩
section
variable{p q:xF}{loose:List Str}{Xt:xH->Bool}{N:Nat}{β:Type}{see:Heap->β}{val:β}
def BI(E:∀w,(openEnds vv p w N).map (λs=>(openSeen q loose (vX p.main.body) Xt u6 s,see s.heap))=u4 (openGood q loose,val)):
  LeftO p q loose Xt (Ut p N).obs (Ut p N).val N:=λw=>by
 obtain⟨s,b,a⟩:=zG.mp (E w);show Option.map _ _=u4 (openGood q loose,J8 p N w);unfold J8;rw[b];show u4 (openSeen q loose (vX p.main.body) Xt u6 s,s.heap)=_;rw[(Prod.mk.inj a).1]
def BJ(E:∀w,(openEnds vv p w N).map (λs=>(openSeen q loose (vX p.main.body) Xt u6 s,see s.heap))=u4 (openGood q loose,val))(w:xM):see (J8 p N w)=val:=by obtain⟨s,b,a⟩:=zG.mp (E w);unfold J8;rw[b];exact(Prod.mk.inj a).2
end
def holds_top{l:OpenLaw}{q:xF}{loose:List Str}{N:Nat}{b:Type}{see:Heap->b}{val:b}{d:DefRec}(well:l.wellSaid=u6)
  (E:∀w,(openEnds vv l.prog w N).map (λs=>(openSeen q loose (vX l.prog.main.body) (RW l q) u6 s,see s.heap))=u4 (openGood q loose,val))
  (XZ:defOf q l.row.name=u4 (d,[])) (hp:l.row.prog.theDef l.row.name=u4 (d.params,d.body,d.scope)) (hk:kwWritten? d.params.kwonlyargs d.params.kw_defaults=u4 []) (a:(!l.row.writes||l.row.records.isEmpty)=u6)
  (ok:(chainsOk q&&opensWell l.row.prog&&(frees l.row.toRowW&&l.row.within.isEmpty))=u6) (c:l.row.prog.bare) (hw:l.row.toRowW.promised)
  (call:WalkO q loose (XL q []) (ZN l.prog N) l.row.toRowW d [] λf vs=>qh f vs):l.Holds:=
 holds_law well λX2=>holds_open (BI E) (Ut l.prog N).of (Ut l.prog N).keeps
  (λs e=>xl_of s (qN.mp e).1) XL.keeps XZ hp hk (λs e=>recFacts_of (qN.mp e).2) a X2 ok c hw call
def Lw(h:UW K n=u6):nsIn K vK n=u4 (u4 (.ref (Ac K n))):=by
 unfold UW at h;unfold Ac;split at h
 .rename_i e;rw[e]
 cases h
def e7(h:X? K C m=u6):findIn K (.ref C) m=u4 (u4 (.ref (Dq K C m)))/\isFn K (.ref (Dq K C m))=u6:=by
 unfold X? at h;unfold Dq;split at h
 .rename_i e;rw[e];exact⟨rfl,h⟩
 cases h
def e8(h:x? K C m=u6):findIn K (.ref C) m=u4 u5:=by
 unfold x? at h;split at h
 .assumption
 cases h
def BK(h:Y? K n=u6):nsIn K vK n=u4 u5:=by
 unfold Y? at h;split at h
 .assumption
 cases h
def e9(h:Va K C=u6):findIn K (.ref C) "__setattr__"=u4 (u4 (.builtin "object.__setattr__")):=by
 unfold Va at h;split at h
 .rename_i e;rw[e,beq_iff_eq.mp h]
 cases h
noncomputable def Jo(K:vO)(n:Str):Tok:=match nsIn K vK n with
 |some (u4 (.int _ t))=>t
 |some (u4 (.str _ t))=>t
 |_=>0
def BL(h:Z? K n v=u6):nsIn K vK n=u4 (u4 (.int v (Jo K n))):=by
 unfold Z? at h;unfold Jo;split at h
 .rename_i e;rw[e,of_decide_eq_true h]
 cases h
def BM(h:sOk K n v=u6):nsIn K vK n=u4 (u4 (.str v (Jo K n))):=by
 unfold sOk at h;unfold Jo;split at h
 .rename_i e;rw[e,of_decide_eq_true h]
 cases h
abbrev NK(K:vO)(x q:Str)(st:xI)(f:xA):Prop:=
 K.lookup f=u4 ⟨(Gf K f).cls,(Gf K f).dict,.func (fnOf x q (Ea st) (Dg st) (Bc st) .none (Ak K f).kwdefaults (Ak K f).doc (Ak K f).pyModule (Ak K f).annotations (Ak K f).code (Ak K f).closureTuple),(Gf K f).slots⟩/\
  codeIn K (Ak K f).code q=u6/\keepIn K (.ref f)=u6
def ed(h:Vx K x q f=u6)(t:Kw K f=Km st):NK K x q st f:=by
 unfold Vx at h;split at h
 .rename_i j l a i e;have k:Gf K f=⟨j,l,.func a,i⟩:=by unfold Gf;rw[e]
  have m:Ak K f=a:=by unfold Ak;rw[k]
  unfold Kw Km at t;rw[m]at t;obtain⟨E,b⟩:=Prod.mk.inj t;obtain⟨b,C⟩:=Prod.mk.inj b;simp[z7,decide_eq_true_eq,beq_iff_eq,List.isEmpty_iff]at h;obtain⟨⟨⟨s,n⟩,⟨⟨B,y⟩,o⟩,g⟩,u,v⟩:=h;unfold NK;rw[m,k,e];refine⟨?_,u,v⟩;have d:a.defaults=.none:=by
   revert g
   generalize a.defaults=A;intro g
   cases A<;>first|rfl|cases g
  have w:a.body=.stmts (Dg st):=by
   revert b
   generalize a.body=r;intro b
   cases r<;>first|(cases b;rfl)|(cases b)
  have c:a=fnOf x q (Ea st) (Dg st) (Bc st) .none a.kwdefaults a.doc a.pyModule a.annotations a.code a.closureTuple:=by show FuncData.mk a.name a.qualname a.params a.body a.scope a.globals a.closure a.defaults a.kwdefaults a.doc a.pyModule a.annotations a.code a.closureTuple a.builtins=_;rw[s,n,E,w,C,B,o,d,y]
  exact congrArg (λz=>u4 (Obj.mk j l (.func z) i)) c
 cases h
abbrev TU(K:vO)(d:xL)(v:Int):Prop:=∃T o t n,d=.ref T/\K.lookup T=u4 o/\o.data=.seq #[.int v t] n
def BN(h:dfl K d v=u6):TU K d v:=by
 unfold dfl at h;split at h
 .rename_i T;split at h
  .rename_i o e;split at h
   .rename_i a n b;split at h
    .rename_i i t c;cases of_decide_eq_true h;refine⟨T,o,t,n,rfl,e,?_⟩;rw[b]
     congr 1
     rw[<-Array.toList_inj,c]
    cases h
   cases h
  cases h
 cases h
abbrev RM(K:vO)(x q:Str)(st:xI)(f:xA)(v:Int):Prop:=
 K.lookup f=u4 ⟨(Gf K f).cls,(Gf K f).dict,.func (fnOf x q (Ea st) (Dg st) (Bc st) (Ak K f).defaults (Ak K f).kwdefaults (Ak K f).doc (Ak K f).pyModule (Ak K f).annotations (Ak K f).code (Ak K f).closureTuple),(Gf K f).slots⟩/\
  codeIn K (Ak K f).code q=u6/\keepIn K (.ref f)=u6/\TU K (Ak K f).defaults v
def BO(h:Zo K x q f v=u6)(t:Kw K f=Km st):RM K x q st f v:=by
 unfold Zo at h;split at h
 .rename_i g j a d e;have i:Gf K f=⟨g,j,.func a,d⟩:=by unfold Gf;rw[e]
  have k:Ak K f=a:=by unfold Ak;rw[i]
  unfold Kw Km at t;rw[k]at t;obtain⟨C,b⟩:=Prod.mk.inj t;obtain⟨b,B⟩:=Prod.mk.inj b;simp[z7,decide_eq_true_eq,beq_iff_eq,List.isEmpty_iff]at h;obtain⟨⟨⟨o,l⟩,⟨⟨A,w⟩,m⟩,y⟩,r,s⟩:=h;unfold RM;rw[k,i,e];refine⟨?_,r,s,BN y⟩;have u:a.body=.stmts (Dg st):=by
   revert b
   generalize a.body=n;intro b
   cases n<;>first|(cases b;rfl)|(cases b)
  have c:a=fnOf x q (Ea st) (Dg st) (Bc st) a.defaults a.kwdefaults a.doc a.pyModule a.annotations a.code a.closureTuple:=by show FuncData.mk a.name a.qualname a.params a.body a.scope a.globals a.closure a.defaults a.kwdefaults a.doc a.pyModule a.annotations a.code a.closureTuple a.builtins=_;rw[o,l,C,u,B,A,m,w]
  exact congrArg (λz=>u4 (Obj.mk g j (.func z) d)) c
 cases h
theorem Vn:∀{l:List xL}{ss:List Str},strsOf l=u4 ss->Vals (ss.map V.str) l
 |[],ss,h=>by cases h;exact .nil
 |v::r,ss,h=>by
  unfold strsOf at h;split at h
  .rename_i q;cases q
  .rename_i s t c q;cases q;obtain⟨a,b,rfl⟩:=zG.mp h;exact .cons ⟨_,rfl⟩ (Vn b)
  cases h
abbrev OQ(K:vO)(n:Str)(vs:List Str):Prop:=∃(p:xA)(od:Option xA)(sl:Array (Option xL))(k:Nat)(VA:List xL),nsIn K vK n=u4 (u4 (.ref p))/\K.lookup p=u4 ⟨.type "tuple",od,.seq VA.toArray k,sl⟩/\VA.length<=1000/\Vals (vs.map V.str) VA
def BP(h:aA K n vs=u6):OQ K n vs:=by
 unfold aA at h;split at h
 .rename_i p e;split at h
  .rename_i t c a k b g;simp only[z7,beq_iff_eq,decide_eq_true_eq]at h;obtain⟨⟨rfl,d⟩,f⟩:=h;exact⟨p,c,b,k,a.toList,e,by rw[g],jI f,Vn d⟩
  cases h
 cases h
def BQ(X:K.In h)(G:h.Ns vK mg)(s:OQ K n vs):UX K mg n vs:=by obtain⟨p,g,f,k,b,a,c,d,e⟩:=s;exact BF X G a c d e
abbrev QQ(K:vO)(n:Str)(kvs:List (Str×Str)):Prop:=∃(p:xA)(od:Option xA)(sl:Array (Option xL))(k:Nat)(es:Array DictEntry),nsIn K vK n=u4 (u4 (.ref p))/\K.lookup p=u4 ⟨.type "dict",od,.dict es k,sl⟩/\(p==sysModules)=u7/\Vals ((kvs.map (·.1)).map V.str) (es.toList.map (·.key))/\Vals ((kvs.map (·.2)).map V.str) (es.toList.map (·.val))
def BR(h:Zu K n kvs=u6):QQ K n kvs:=by
 unfold Zu at h;split at h
 .rename_i p e;split at h
  .rename_i t b f k a i;simp only[z7,beq_iff_eq,decide_eq_true_eq,Bool.not_eq_true']at h;obtain⟨⟨⟨rfl,c⟩,d⟩,g⟩:=h;exact⟨p,b,a,k,f,e,by rw[i],c,Vn d,Vn g⟩
  cases h
 cases h
def Ask.XI(K:vO):Ask->Prop
 |.fn n st=>nsIn K vK n=u4 (u4 (.ref (Ac K n)))/\NK K n n st (Ac K n)
 |.mt c m q st=>findIn K (.ref (Ac K c)) m=u4 (u4 (.ref (Dq K (Ac K c) m)))/\isFn K (.ref (Dq K (Ac K c) m))=u6/\NK K m q st (Dq K (Ac K c) m)
 | .cl c=>nsIn K vK c=u4 (u4 (.ref (Ac K c)))/\plainGet K (Ac K c) Str.empty=u6/\hasDictIn K (Ac K c)=u6/\plainOver K (Ac K c)=u6/\
   findIn K (.ref (Ac K c)) "__setattr__"=u4 (u4 (.builtin "object.__setattr__"))/\makesIn K (Ac K c)=u6/\keepIn K (.ref (Ac K c))=u6
 |.no c x=>findIn K (.ref (Ac K c)) x=u4 u5
 |.z n=>nsIn K vK n=u4 u5
 |.gi n v=>nsIn K vK n=u4 (u4 (.int v (Jo K n)))
 |.gs n v=>nsIn K vK n=u4 (u4 (.str v (Jo K n)))
 |.gt n vs=>OQ K n vs
 |.gd n kvs=>QQ K n kvs
 |.ck φ=>φ K=u6
 |.fd n st v=>nsIn K vK n=u4 (u4 (.ref (Ac K n)))/\RM K n n st (Ac K n) v
theorem Ask.X2:∀{a:Ask},a.y? K=u6->a.ZK K=a.TZ->a.XI K
 |.fn n e,h,t=>by obtain⟨b,d⟩:=qN.mp h;exact⟨Lw b,ed d (Option.some.inj t)⟩
 |.mt c m q e,h,t=>by obtain⟨b,d⟩:=qN.mp h;exact⟨(e7 b).1,(e7 b).2,ed d (Option.some.inj t)⟩
 |.cl c,h,_=>by simp[Ask.y?,z7]at h;obtain⟨⟨b,⟨d,j⟩,k⟩,⟨l,g⟩,i⟩:=h;exact⟨Lw b,d,j,k,e9 l,g,i⟩
 |.no c x,h,_=>e8 h
 |.z n,h,_=>BK h
 |.gi n v,h,_=>BL h
 |.gs n v,h,_=>BM h
 |.gt n o,h,_=>BP h
 |.gd n f,h,_=>BR h
 |.ck _,h,_=>h
 |.fd n e v,h,t=>by obtain⟨b,d⟩:=qN.mp h;exact⟨Lw b,BO d (Option.some.inj t)⟩
def YH(K:vO):List Ask->Prop
 |[]=>True
 |a::r=>a.XI K/\YH K r
theorem ef:∀{l:List Ask},(l.all (Ask.y? K),l.map (Ask.ZK K))=(u6,l.map Ask.TZ)->YH K l
 |[],_=>trivial
 |a::r,h=>by obtain⟨b,c⟩:=Prod.mk.inj h;rw[qO]at b;obtain⟨e,f⟩:=qN.mp b;rw[zy,zy]at c;obtain⟨g,d⟩:=List.cons.inj c;exact⟨Ask.X2 e g,ef (by rw[f,d])⟩
def BS(F:YS K x q st f fd)
  (h:∀(kV b g:xL)(e:Option xA)(c d:xL)(u:xL),bindArgs (fnOf x q (Ea st) (Dg st) (Bc st) .none kV b g e c d) ⟨[u],[]⟩=pure [(a,u)]):BindsTo s fd ⟨[v],[]⟩ [(a,v)]:=by
 obtain⟨l,k,kV,b,g,e,c,d,j,rfl,m,i⟩:=F.ex;exact .of_eq (h kV b g e c d v)
theorem em:∀{n:Nat}{s s':SharedT}{t:Thread},Rx p w n₀ ann n s t=u4 s'->topRun vv p w n₀ ann n s.abs t=u4 s'.abs
 |0,_,_,_,h=>by cases h
 | n+1,s,s',t,h=>by
  unfold Rx at h;unfold topRun;rw[<-PySem.W.Fast.te6613529449190102663,<-PySem.W.Fast.te10156331382660048174,<-PySem.W.Fast.te11892475500146522536,<-PySem.W.Fast.te14364793385576792824]at h;cases b:through t with
  |true=>
   rw[b]at h;cases h
   rfl
  | false=>
   rw[b]at h;dsimp only at h⊢;cases a:stepOk n₀ ann t with
   |false=>rw[a]at h;cases h
   |true=>
    rw[a]at h;dsimp only at h⊢;split at h
    .rename_i c d e;rw[stepT_spec e];exact em h
    cases h
def boot_abs:∀w a,(b9 w a).abs=⟨vP w.params,Array.mk [],boot_drawn,boot_toks,a⟩:=λw a=>by kernel_rfl
def BU:∀w:xM,((vP w.params).isNs vK&&(Array.mk []:Array GenState).size==0)=u6:=λw=>by kernel_rfl
def BV{p q:xF}{loose:List Str}{Xt:xH->Bool}{i:Type}{see:Heap->i}{val:i}(e:opening p=plainProg p.main.scope.names)(f:∀s,fenceModules? p s=u4 s)
  (R:∀w a,(Oe p w a).map (λs=>(Ot p w s.abs,PySem.W.Fast.tw4187177175401517315 q loose (PySem.W.Fast.tw5923862056798008813 p.main.body) Xt u6 s.abs,see s.abs.heap))=u4 (u6,openGood q loose,val)):
  ∀w,(openEnds vv p w 100000).map (λs=>(openSeen q loose (vX p.main.body) Xt u6 s,see s.heap))=u4 (openGood q loose,val):=λw=>by
 obtain⟨⟨h,o,d,k,a⟩,n,j⟩:=zG.mp (boot_open (N:=100000) e rfl f w);obtain⟨rfl,rfl,rfl,rfl⟩:h=vP w.params/\o=Array.mk []/\d=boot_drawn/\k=boot_toks:=by simpa using j
 obtain⟨s,g,l⟩:=zG.mp (R w a);obtain⟨c,b⟩:=Prod.mk.inj l;obtain⟨b,m⟩:=Prod.mk.inj b;unfold Oe at g;have r:=em g;rw[boot_abs,<-PySem.W.Fast.te8920871248978507458]at r;rw[<-PySem.W.Fast.te4187177175401517315,<-PySem.W.Fast.te5923862056798008813]at b;unfold Ot at c;rw[<-PySem.W.Fast.te5923862056798008813]at c;have t:topFrom vv p w 100000 ⟨vP w.params,.mk [],boot_drawn,boot_toks,a⟩=u4 s.abs:=by
  unfold topFrom;dsimp only;rw[BU,r]
  show(match staticsOk (vX p.main.body) (vP w.params) s.abs.heap&&namesBound p s.abs.heap&&gensDone s.abs&&laidKept (vP w.params) s.abs.heap with |true=>_|false=>_)=_
  rw[c]
 unfold openEnds;rw[n];show(topFrom vv p w 100000 _).map _=_;rw[t];exact congrArg u4 (Prod.ext b m)
structure FT (K:vO) (mg:Str->Option xL) (n:Str) (st:xI) (ps:List Str):Prop where
 F:YS K n n st (Ac K n) (Ak K (Ac K n))
 b:Binds K (Ak K (Ac K n)) ps []
 m:mg n=u4 (.ref (Ac K n))
 k:keepIn K (.ref (Ac K n))=u6
structure MT (K:vO) (c m q:Str) (st:xI) (ps:List Str):Prop where
 F:YS K m q st (Dq K (Ac K c) m) (Ak K (Dq K (Ac K c) m))
 b:Binds K (Ak K (Dq K (Ac K c) m)) ps []
 me:WR K (Ac K c) m (Dq K (Ac K c) m)
structure CT (K:vO) (mg:Str->Option xL) (c:Str):Prop where
 N:nsIn K vK c=u4 (u4 (.ref (Ac K c)))
 cl:ZQ K (Ac K c)
 g:mg c=u4 (.ref (Ac K c))
 mK:Mk K (Ac K c) (Dq K (Ac K c) "__init__")
def V0(s:NK K x q st f):YS K x q st f (Ak K f):=by
 have e:Ak K f=fnOf x q (Ea st) (Dg st) (Bc st) .none (Ak K f).kwdefaults (Ak K f).doc (Ak K f).pyModule (Ak K f).annotations (Ak K f).code (Ak K f).closureTuple:=by conv=>lhs;unfold Ak Gf;rw[s.1]
 exact⟨⟨_,_,_,_,_,_,_,_,_,e,by rw[e];exact s.1,s.2.1⟩,s.2.2⟩
def BW(X:K.In h)(G:h.Ns vK mg)(s:Ask.XI K (.fn n st))
  (d:∀(kV a f:xL)(e:Option xA)(b c:xL)(us:List xL),us.length=ps.length->bindArgs (fnOf n n (Ea st) (Dg st) (Bc st) .none kV a f e b c) ⟨us,[]⟩=pure (ps.zip us)):FT K mg n st ps:=
 ⟨V0 s.2,(V0 s.2).binds d,mg_of X G s.1,s.2.2.2⟩
def eo(s:Ask.XI K (.mt c m q st))
  (e:∀(kV a g:xL)(f:Option xA)(b d:xL)(us:List xL),us.length=ps.length->bindArgs (fnOf m q (Ea st) (Dg st) (Bc st) .none kV a g f b d) ⟨us,[]⟩=pure (ps.zip us)):MT K c m q st ps:=
 ⟨V0 s.2.2,(V0 s.2.2).binds e,s.1,s.2.1,s.2.2.2.2⟩
def BX(X:K.In h)(G:h.Ns vK mg)(s:Ask.XI K (.cl c))(i:Ask.XI K (.mt c "__init__" q st)):CT K mg c:=
 ⟨s.1,⟨s.2.1,s.2.2.1,s.2.2.2.1,s.2.2.2.2.1⟩,mg_of X G s.1,s.2.2.2.2.2.1,i.1,i.2.1,s.2.2.2.2.2.2⟩
abbrev FnO(P:xF)(w:xM)(K:vO)(mg:Str->Option xL)(base:Heap)(k:Nat)(n:Str)(ps:List Str)(F:List D->DH->R D):Prop:=QD P w K mg base RO k (Ac K n) (Ak K (Ac K n)) ps (lF K F)
abbrev MtO(P:xF)(w:xM)(K:vO)(mg:Str->Option xL)(base:Heap)(k:Nat)(c m:Str)(ps:List Str)(F:List D->DH->R D):Prop:=QD P w K mg base RO k (Dq K (Ac K c) m) (Ak K (Dq K (Ac K c) m)) ps (lF K F)
def BY(F:YS K x q st f fd)
  (h:∀(kV b g:xL)(e:Option xA)(c d:xL)(u:xL),bindArgs (fnOf x q (Ea st) (Dg st) (Bc st) .none kV b g e c d) ⟨[u],[]⟩=pure [(a,u)]:=by intros;rfl):BindsTo s fd ⟨[v],[]⟩ [(a,v)]:=BS F h
end _D
namespace _D
open PySem PySem.Spec _L
open PyProof.Rows hiding St
variable{qual:Str}
section
variable{prog:xF}{w:xM}{A:xB}{E:xL->xH->Prop}{s:xH}
def strAt(es:Array DictEntry)(x:Str):Option xL:=(es.findIdx? λe=>e.key.isStr x).bind λi=>es[i]?.map (·.val)
def fA{v:xL}{x:Str}(h:v.isStr x=u6):∃t,v=.str x t:=by
 cases v<;>first
  |(rename_i y t;unfold Value.isStr at h;exact⟨t,by rw[b h]⟩)
  |(rename_i y t;simp[Value.isStr]at h;exact⟨t,by rw[h]⟩)
  |cases h
theorem fC{d:xA}{o:Obj}{es:Array DictEntry}{ep}{x:Str}{t:Tok}{Q:Option xL->xH->Prop}(ho:s.heap.get? d=u4 o)(g:o.data=.dict es ep)
  (c:(es.all λe=>isExactStrKey e.key)=u6) (h:Q (strAt es x) {s with toks:=s.toks+1}):
  vk (vY prog w) A (dictGet d (.str x t)) Q E s:=by
 unfold strAt at h;unfold dictGet
 try with_reducible refine vF ?_
 refine vB (wpAny_pyHash_str (vB ?_));unfold dictFind
 try with_reducible refine vF ?_
 refine vB (wpAny_dictEntries ho g ?_);dsimp only;rw[if_pos c];unfold foundByValue;cases j:es.findIdx? (λe=>e.key.isStr x)with
 |none=>rw[j]at h;exact vL (vL h)
 |some i=>
  rw[j]at h;obtain⟨f,l,_⟩:=Array.findIdx?_eq_some_iff_getElem.mp j;obtain⟨u,k⟩:=fA l;simp only[Array.getElem?_eq_getElem f]at h⊢;rw[k];refine vB (wpAny_dictEpoch ho g (vB (wpAny_eqBool_str (vB (wpAny_dictEpoch ho g ?_)))));rw[if_neg (by simp),decide_eq_true rfl];exact vB (wpAny_rule (vL (vB (wpAny_dictEntries ho g (vL (by simpa[Array.getElem?_eq_getElem f]using h))))))
def BZ{ep}(ho:s.heap.get? d=u4 o)(j:o.cls=.type "dict")(i:o.data=.dict es ep)
  (c:(es.all λe=>isExactStrKey e.key)=u6) (g:strAt es x=u4 v) (h:Q v {s with toks:=s.toks+1}):vk (vY prog w) A (getItem (.ref d) (.str x t)) Q E s:=by
 have f:s.TypeIs (.ref d) "dict":=⟨o,ho,j⟩;unfold getItem
 try with_reducible refine vF ?_
 refine vB (wpAny_sequenceKey f (by decide) ?_);refine vB (vC f slot_dict_getitem
  (vD slot_dict_getitem f entry_dict_getitem ?_ (args_dict_getitem _ _)))
 show vk _ _ (dictGet d (.str x t) >>=_) _ _ s;refine vB (fC ho i c ?_);rw[g];exact vL ⟨v,rfl,vL h⟩
theorem B0{ep}(g:(d==sysModules)=u7)(ho:s.heap.get? d=u4 o)(k:o.cls=.type "dict")(j:o.data=.dict es ep)
  (c:(es.all λe=>isExactStrKey e.key)=u6) (h:Q (.bool (!(strAt es x).isSome)) {s with toks:=s.toks+1}):vk (vY prog w) A (vJ .NotIn (.str x t) (.ref d)) Q E s:=by
 have f:s.TypeIs (.ref d) "dict":=⟨o,ho,k⟩;refine vB ?_;unfold contains
 try with_reducible refine vF ?_
 refine vB (wpAny_specialOf f slot_dict_contains.lookup ?_);rw[if_neg (by rw[beq_builtin_none];exact z5)];refine vB (wpAny_callSpecialUnlessNone?_slot f slot_dict_contains
  (vD slot_dict_contains f entry_dict_contains ?_ (args_dict_contains _ _)))
 show vk _ _ (dictGet d (.str x t) >>=_) _ _ s;refine vB (fC ho j c ?_);cases i:strAt es x with
 |some v=>
  rw[i]at h;exact vL ⟨_,rfl,vN (vL h)⟩
 |none=>
  rw[i]at h;exact vB (wpAny_pendingKey_other g (vL ⟨_,rfl,vN (vL h)⟩))
end
def strAt_eq:strAt es x=(es.toList.find? λe=>e.key.isStr x).map (·.val):=by
 obtain⟨l⟩:=es;have e:=findBy_of_findIdx? (λ(x:Str)(v:xL)=>v.isStr x) ⟨l⟩ x;unfold findBy at e;rw[<-Array.find?_toList]at e;unfold strAt;rw[e]
 cases(Array.findIdx? (λe=>e.key.isStr x) ⟨l⟩)<;>rfl
def AtT(kvs:List (Str×Str))(es:Array DictEntry):Prop:=∀x,(kvs.lookup x=u5/\strAt es x=u5)\/∃v t,kvs.lookup x=u4 v/\strAt es x=u4 (.str v t)
theorem fD:∀{b:List (Str×Str)}{es:List DictEntry},Vals ((b.map (·.1)).map V.str) (es.map (·.key))->Vals ((b.map (·.2)).map V.str) (es.map (·.val))->(es.all λe=>isExactStrKey e.key)=u6/\
  ∀x,(b.lookup x=u5/\(es.find? λe=>e.key.isStr x).map (·.val)=u5)\/∃v t,b.lookup x=u4 v/\(es.find? λe=>e.key.isStr x).map (·.val)=u4 (.str v t)
 |[],[],_,_=>⟨rfl,λ_=>.inl ⟨rfl,rfl⟩⟩
 |[],e::es,h,_|(k,v)::b,[],h,_=>by cases h
 | (k,v)::b,⟨B,y,C⟩::es,j,m=>by
  cases j with
  | cons r i=>cases m with
   | cons n q=>
    obtain⟨g,rfl⟩:=r;obtain⟨u,rfl⟩:=n;obtain⟨c,d⟩:=fD i q;refine⟨by rw[qO,c];rfl,λx=>?_⟩;by_cases f:x=k
    .subst f;exact .inr ⟨v,u,by simp[qR],by simp[Value.isStr]⟩
    have o:(x==k)=u7:=by simpa using f
    have l:(Value.str k g).isStr x=u7:=by
     cases h:(Value.str k g).isStr x with
     |false=>rfl
     |true=>obtain⟨t,e⟩:=fA h;cases e;exact absurd rfl (λz=>f z.symm)
    rw[qR,o,qE];simp only[l];exact d x
structure UU (K:za) (p:xA) (kvs:List (Str×Str)):Prop where
 ex:∃(o:Obj)(es:Array DictEntry)(ep:Nat),(p==sysModules)=u7/\K.lookup p=u4 o/\o.cls=.type "dict"/\o.data=.dict es ep/\(es.all λe=>isExactStrKey e.key)=u6/\AtT kvs es
def VX(K:za)(mg:Str->Option xL)(n:Str)(kvs:List (Str×Str)):Prop:=∃p,mg n=u4 (.ref p)/\UU K p kvs
def B1{K:za}{h:Heap}{c:Str->Option xL}{n:Str}{b:List (Str×Str)}(X:K.In h)(G:h.Ns vK c)(s:QQ K n b):VX K c n b:=by obtain⟨p,q,o,k,i,e,f,g,l,m⟩:=s;obtain⟨d,j⟩:=fD l m;exact⟨p,uz X G e,⟨_,i,k,g,f,rfl,rfl,by rw[<-Array.all_toList];exact d,λx=>strAt_eq▸j x⟩⟩
noncomputable def Ku(kvs:List (Str×Str)):D->DH->R D
 |.str x,G=>match kvs.lookup x with
  |some v=>.ok (.str v) G
  |none=>.bad
 |_,_=>.bad
noncomputable def Ng(kvs:List (Str×Str)):D->DH->R D
 |.str x,G=>.ok (.bl (!(kvs.lookup x).isSome)) G
 |_,_=>.bad
section
variable{X:Cx}{E:XK}{p:xA}{kvs:List (Str×Str)}{x:Str}{a:xC}{ta:DE}{np pos:Pos}
def ix_g(D:UU X.K p kvs):VM X (λx y H Q=>∃k v,x=.ref p/\y=.str k/\kvs.lookup k=u4 v/\Q (.str v) H):=by
 intro value slice vS s σ H x y v u Q I rx ry h hs;obtain⟨k,w,rfl,rfl,hl,q⟩:=h;obtain rfl:v=Value.ref p:=rx;obtain⟨t,rfl⟩:=ry;obtain⟨o,es,ep,hds,hK,hc,hd,ha,hat⟩:=D.ex;have ho:=I.WG _ _ hK;have hT:s.TypeIs (.ref p) "dict":=⟨o,ho,hc⟩;obtain⟨v',t',hv⟩:∃v' t',strAt es k=u4 (.str v' t')/\v'=w:=by
  rcases hat k with⟨z,_⟩|⟨v',t',z,z'⟩
  .rw[hl]at z;cases z
  rw[hl]at z;cases z;exact⟨_,t',z',rfl⟩
 obtain⟨hv,rfl⟩:=hv;unfold subscriptTail;refine vB ?_;rw[getitemInPython_of_ne hT.not_modules];refine vB (wpAny_specialOf hT PySem.F.slot_dict_getitem.lookup ?_);have fin:vk (vY X.prog X.w) X.A (subscripted slice u7 (.ref p) (.str k t)) (λr s₃=>vk (vY X.prog X.w) X.A (letTemporaryGo value (.ref p) r >>=λ_=>pure r) (EP X vS σ Q) X.xe s₃) X.xe s:=by rw[hs];exact wpAny_operating (BZ ho hc hd ha hv (vB (wpAny_letTemporaryGo (vL ⟨.str v',H,I.tok _,⟨_,rfl⟩,q⟩))))
 first
  |exact vL (vB fin)
  |exact vB (vL (vB fin))
  |exact vB fin
def B2(D:UU X.K p kvs):WC X (vJ .NotIn) (λy x H Q=>∃k,x=.ref p/\y=.str k/\Q (.bl (!(kvs.lookup k).isSome)) H):=by
 intro f s r H y x v u Q I m j ⟨k,e,h,q⟩;subst e h;obtain rfl:u=Value.ref p:=j;obtain⟨t,rfl⟩:=m;obtain⟨o,B,F,c,g,n,l,i,d⟩:=D.ex;refine B0 c (I.WG _ _ g) n l i ⟨.bl (!(kvs.lookup k).isSome),H,I.tok _,?_,q⟩;rcases d k with⟨z,b⟩|⟨C,J,z,b⟩
 .rw[z,b];rfl
 rw[z,b];rfl
theorem B3(f:Gl X x)(h:VX X.K X.mg x kvs)(i:QE X E a ta)(g:PM a:=by intro _ _;rfl)(l:(x==("__debug__":Str))=u7:=by decide):QE X E (.Subscript (.Name x np) a pos) (UO (Ku kvs) ta):=by
 obtain⟨p,j,D⟩:=h;refine(cH (ix_g D) (Zy (v:=.ref p) f j rfl l) i g).mono λo H Q h=>?_
 obtain⟨a,S,G,hk,rfl,s,r,h⟩:=h;refine⟨a,S,G,hk,rfl,s,r,(El h).imp ?_⟩;rintro v _ ⟨b,d,n,rfl,y,m,e,_,c⟩;cases d with
 |str k=>
  cases(e);unfold Ku at c;dsimp only at c;split at c
  .rename_i w hw;exact⟨k,w,rfl,rfl,hw,c b _ (.refl b) m rfl⟩
  exact c.elim
 |_=>exact c.elim
theorem B4(h:lE X.K E (UO (Ng kvs) ta) σ H Q):Ta (λy x H Q=>∃k,x=.ref p/\y=.str k/\Q (.bl (!(kvs.lookup k).isSome)) H) (lE X.K E ta) (tC (.ref p)) σ H Q:=by
 obtain⟨a,S,G,hk,rfl,s,r,h⟩:=h;refine⟨a,S,G,hk,rfl,s,r,(El h).imp ?_⟩;rintro v _ ⟨b,d,g,rfl,y,f,e,_,c⟩;cases d with
 |str k=>
  cases(e);exact⟨k,rfl,rfl,c b _ (.refl b) f rfl⟩
 |_=>exact c.elim
def B5(c:Gl X x)(h:VX X.K X.mg x kvs)(d:QE X E a ta)(e:xS .NotIn (.Name x np)=u7)(f:(x==("__debug__":Str))=u7:=by decide):QT X E (.Compare a [.NotIn] [.Name x np] pos) (Ax (UO (Ng kvs) ta)):=by obtain⟨p,hp,D⟩:=h;exact(bj (B2 D) d (Zy (v:=.ref p) c hp rfl f) e).mono λb H Q h=>aM (λ_ _ _ z=>B4 z) b H Q (V4 h)
end
def Gg(kvs more:List (Key×D)):List (Key×D):=more.foldl (λacc kv=>putD acc kv.1 kv.2) kvs
theorem TB.merge:∀{more:List (Key×D)}{ms:List (Key×V)}{b:List (Key×D)}{us:List (Key×V)},TB a more ms->TB a b us->TB a (Gg b more) (Mj us ms)
 |[],ms,b,us,h,r=>by have:=jD.mp h.1.symm;subst this;exact r
 |(k,d)::more,ms,b,us,h,r=>by obtain⟨v,c,rfl,f,e⟩:=TB.cons h;exact .merge (more:=more) (ms:=c) e (r.put f)
noncomputable def Dc:D->Option V
 |.int i=>u4 (.int i)
 |.str x=>u4 (.str x)
 |_=>u5
def B6(h:Dc d=u4 w)(r:XB a d v):v=w:=by
 cases d<;>first
  |(cases h;exact r)
  |cases h
def B7(h:Dc d=u4 w):XB a d w:=by
 cases d<;>first
  |(cases h;rfl)
  |cases h
def O7(kvs:List (Str×D)):DE:=λ_ G=>.ok (.ref G.length) (G++[.WK (Gg [] (kvs.map λkv=>(.inr kv.1,kv.2)))])
section
variable{X:Cx}{E:XK}{pos:Pos}
def N?(X:Cx)(E:XK)(pos:Pos)(keys:List (Option xC))(values:List xC)(kvs:List (Str×D)):Prop:=To X pos keys values (kvs.map λkv=>(tC (.str kv.1),lE X.K E (dC kv.2)))
def fE:N? X E pos [] [] []:=r9
def I9(c:QE X E v (dC d))(b:N? X E pos ks vs kvs):N? X E pos (u4 (.Constant (.str x) j p)::ks) (v::vs) ((x,d)::kvs):=ra Q6 c b
theorem fG:∀{e:List (Str×D)}{g:List V}{b:Wd}{Q:List (V×V)->Hp->Prop},e.map (λf=>Dc f.2)=g.map u4->b.K=X.K->Ext a0 b->VB b G0->XC b S σ->
  (∀c,Ext a0 c->VB c G0->Q ((e.map λf=>V.str f.1).zip g) c.H)->T8 (e.map λf=>(tC (.str f.1),lE X.K E (dC f.2))) σ b.H Q
 |[],g,b,Q,hw,hk,i,j,l,h=>h b i j
 |(x,d)::e,[],b,Q,hw,hk,i,j,l,h=>by cases hw
 |(x,d)::e,w::g,b,Q,hw,hk,i,j,l,h=>by rw[zy,zy]at hw;obtain⟨o,r⟩:=List.cons.inj hw;refine⟨b,S,G0,hk,rfl,j,l,λc v m n u=>?_⟩;obtain rfl:=B6 o u;exact fG r (m.k.trans hk) (i.trans m) n (l.mono m) λt y q=>h t y q
theorem fH:∀{b:List (Str×D)},(b.all λc=>(Dc c.2).isSome)=u6->∃d:List V,b.map (λc=>Dc c.2)=d.map u4
 |[],_=>⟨[],rfl⟩
 |c::b,e=>by rw[qO,z7]at e;obtain⟨w,hw⟩:=jX.mp e.1;obtain⟨d,f⟩:=fH e.2;exact⟨w::d,by rw[zy,zy,f,hw]⟩
theorem fJ:∀{b:List (Str×D)}{e:List V},b.map (λd=>Dc d.2)=e.map u4->TB c (b.map λd=>((.inr d.1:Key),d.2)) ((b.map λd=>(Sum.inr d.1:Key)).zip e)
 |[],_,_=>.nil
 |d::b,[],h=>by cases h
 |d::b,w::e,h=>by rw[zy,zy]at h;obtain⟨f,g⟩:=List.cons.inj h;exact .mk (B7 f) (fJ g)
theorem fK:∀{b:List (Str×D)}{d:List V},(b.map λc=>V.str c.1).zip d=((b.map λc=>(Sum.inr c.1:Key)).zip d).map λc=>(kV c.1,c.2)
 |[],_|c::b,[]=>rfl
 |c::b,w::d=>congrArg _ fK
def fL(h:N? X E pos keys values kvs)(t:(kvs.all λd=>(Dc d.2).isSome)=u6:=by rfl)(F:kvs.length<=15:=by decide)(f:keys.all (·.isSome)=u6:=by rfl)(B:keys.length=values.length:=by rfl)(v:keys≠[]:=by exact λz=>nomatch z)
  (l:keys.length<=15:=by decide):QE X E (.Dict keys values pos) (O7 kvs):=by
 refine(rg h f B v l).mono λI H Q h=>?_
 obtain⟨a,S,G,hk,rfl,s,r,h⟩:=h;intro p hp;obtain⟨y,e⟩:=fH t;have C:VB (a.push p (.dK [])) (G++[.WK []]):=s.push hp ⟨[],rfl,.nil⟩;refine fG (b:=a.push p (.dK [])) e hk (.refl _) C (r.mono (.push hp)) λc k o=>?_
 have g:=zj (qV _) k.n;have j:c.m a.n=p:=by rw[k.m a.n (qV _)];show(if a.n=a.n then p else a.m a.n)=p;rw[if_pos rfl]
 obtain⟨J,i,u⟩:=o.obj a.n (.WK []) (by rw[<-s.len];simp);have:=jD.mp u.1.symm;subst this;rw[j]at i;refine⟨i,(kvs.map λd=>(.inr d.1:Key)).zip y,fK,by simp;lia,?_⟩;have hw:=o.I? g (j▸i) (.merge (fJ e) TB.nil);rw[j]at hw;have q:(G++[DO.WK []]).set a.n (.WK (Gg [] (kvs.map λd=>((.inr d.1:Key),d.2))))=G++[DO.WK (Gg [] (kvs.map λd=>((.inr d.1:Key),d.2)))]:=by rw[<-s.len];simp
 rw[q]at hw;refine h (c.put p _) (.ref p) (((Ext.push hp).trans k).trans (.I? i)) hw ⟨s.len▸g,?_⟩;show V.ref p=V.ref (c.m G.length);rw[s.len,j]
end
section
variable{S:RD}{G:DH}
@[simp]theorem Lm:O7 kvs S G=.ok (.ref G.length) (G++[.WK (Gg [] (kvs.map λb=>(.inr b.1,b.2)))]):=id rfl
def B8(h:kvs.lookup x=u4 v):Ku kvs (.str x) G=.ok (.str v) G:=by
 show(match kvs.lookup x with |some v=>R.ok (D.str v) G|none=>R.bad)=_
 rw[h]
@[simp]theorem Lo:Ng kvs (.str x) G=.ok (.bl (!(kvs.lookup x).isSome)) G:=id rfl
end
def B9{X:Cx}{k j:Nat}{n:Str}{st:xI}{ps:List Str}{F:List D->DH->R D}{p pos:Pos}{e:xC}{es:List xC}{tr:DA}(c:FnO X.prog X.w X.K X.mg X.base k n ps F)(T:FT X.K X.mg n st ps)(i:NC j X.A)(g:QA X E0 (e::es) tr)
  (d:k<=j:=by decide) (f:Gl X n:=by exact rfl) (h:(n==("__debug__":Str))=u7:=by decide) (l:notStar e=u6:=by exact rfl) (hp:es.all notStar=u6:=by exact rfl):QE X E0 (.Call (.Name n p) (e::es) [] pos) (RA F tr):=
 sd c (i.mono d) f T.m T.k T.b OR g h l hp
def Bz:(Obj.mapFields f o).dict=o.dict:=by
 obtain⟨c,d,a,b⟩:=o;unfold Obj.mapFields
 cases a<;>rfl
def QZ(h B:Heap)(e:xA)(cls:xL)(od:Option xA)(fl:xL):Prop:=
 ∃oe vs T oT ts,h.get? e=u4 oe/\(oe.cls=cls/\oe.dict=od)/\oe.data=.fields vs/\vs[1]?=u4 (.ref T)/\(B.get? T=u5/\T≠e)/\h.get? T=u4 oT/\oT.data=.fields ts/\ts[3]?=u4 fl
structure NG (B:Heap) (l:List Env) (e:xA) (cls:xL) (od:Option xA) (fl:xL) (h h':Heap):Prop where
 st:B.StaysIn h'
 fr:h'.FunFrames B l
 tr:QZ h' B e cls od fl
 up:∀b o,h.get? b=u4 o->(∀vs,o.data≠ .fields vs)->∃sl,h'.get? b=u4 {o with slots:=sl}
 th:∀b o,h.get? b=u4 o->∃o',h'.get? b=u4 o'
section
variable{M:Model}{A:xB}{E:xL->xH->Prop}{s:xH}{B:Heap}{env:Env}{outer:List Env}{L e:xA}{oe:Obj}{vs:Array xL}{head:xL}{hn:Bool}{Q:Unit->xH->Prop}
def fM(fr:A.frames=u4 (env::outer))(p:s.heap.FunFrames B (env::outer))(J:env.frame=u4 L)(u:s.heap.get? e=u4 oe)(hk:B.StaysIn s.heap)(K:B.get? e=u5)(m:oe.data=.fields vs)(hz:1<vs.size)
  (q:∀h',NG B (env::outer) e oe.cls oe.dict (vq L) s.heap h'->Q () {s with heap:=h'}):
  vk M A (do let a<-frameOf env;let pl<-entryPlaceOf L hn;let b<-EntryCells.newEntry head a .none (vq L) .none pl;setField (.ref e) 1 b) Q E s:=by
 have N:e∉(env::outer).filterMap (·.frame):=λv=>by obtain⟨_,o,F,l⟩:=p.mem v;rw[u]at F;cases F;exact l vs m
 refine vB (wpAny_frameOf_fun fr p J λh k=>?_);refine vB (wpAny_entryPlaceOf λpl hp=>?_);unfold EntryCells.newEntry newFields;refine vB (vH ?_ (hp.sizeOk5 _ _ _ _ _));generalize w:({cls:=.type "traceback",dict:=u5,data:=.fields ([head,.ref L,.none,vq L,.none]++(if pl.isEmpty then zV 6 Value.none else pl)).toArray}:Obj)=O;have t:O.data=.fields ([head,.ref L,.none,vq L,.none]++(if pl.isEmpty then zV 6 Value.none else pl)).toArray:=by rw[<-w]
 have C:=(k.2.1 e N).trans u;have H:B.StaysIn h:=λb o f=>(k.2.1 b λv=>by rw[(p.mem v).1]at f;cases f).trans (hk b o f)
 have y:=zZ O C;refine wpAny_setField y m hz (q _ ?_);have j:=jx (zx C)
 have I:=Obj.data_mapFields m (·.setIfInBounds 1 (.ref h.objs.size))
 have x:=q8 (.mapFields (·.setIfInBounds 1 (.ref h.objs.size))) y (Obj.isFreed_of_fields I)
 have P:=(qA (h.push O) (.mapFields (·.setIfInBounds 1 (.ref h.objs.size))) (.symm j)).trans (z6 h (by rw[<-w];rfl))
 have g:∀b o,b≠e->h.get? b=u4 o->((h.push O).update e (.mapFields (·.setIfInBounds 1 (.ref h.objs.size)))).get? b=u4 o:=λb o n c=>by rw[qA _ _ (.symm n)];exact zZ _ c
 have l:∀b o,s.heap.get? b=u4 o->(∀vs,o.data≠ .fields vs)->b≠e:=λb o c n z=>by rw[z,u]at c;cases c;exact n vs m
 refine⟨λb o f=>g b o (λz=>by rw[z,K]at f;cases f) (H b o f),p.of_keeps λb o c n=>?_,⟨_,_,h.objs.size,_,_,x,⟨Obj.cls_mapFields _ _,Bz⟩,I,by simp[hz],⟨H.fresh,j⟩,P,t,by simp⟩,λb o c n=>?_,λb o c=>?_⟩
 .obtain⟨r,i⟩:=k.2.2 b o c;exact⟨_,g b _ (l b o c n) i,rfl⟩
 .obtain⟨r,i⟩:=k.2.2 b o c;exact⟨r,g b _ (l b o c n) i⟩
 obtain⟨r,i⟩:=k.2.2 b o c;by_cases z:b=e
 .subst z;exact⟨_,x⟩
 exact⟨_,g b _ z i⟩
def CA(fr:A.frames=u4 (env::outer))(g:s.heap.FunFrames B (env::outer))(d:env.frame=u4 L)(f:s.heap.get? e=u4 oe)(hk:B.StaysIn s.heap)(h:B.get? e=u5)(c:oe.data=.fields vs)(b:vs[1]?=u4 .none)
  (q:∀h',NG B (env::outer) e oe.cls oe.dict (vq L) s.heap h'->Q () {s with heap:=h'}):vk M A (noteFrame (.ref e) env) Q E s:=by
 unfold noteFrame;simp only[d];refine vB (vE f c b ?_);rw[if_neg (by decide)];exact fM fr g d f hk h c (qz.mp b).1 q
def fN(fr:A.frames=u4 (env::outer))(y:s.heap.FunFrames B (env::outer))(k:env.frame=u4 L)(C:QZ s.heap B e cls od .none)(hk:B.StaysIn s.heap)(v:B.get? e=u5)
  (q:∀h',NG B (env::outer) e cls od (vq L) s.heap h'->Q () {s with heap:=h'}):vk M A (noteFrame (.ref e) env) Q E s:=by
 obtain⟨H,r,T,F,w,p,⟨rfl,rfl⟩,t,m,⟨x,i⟩,h,g,u⟩:=C;unfold noteFrame;simp only[k];refine vB (vE p t m ?_);rw[if_pos (by simp)];refine vB (vE h g u ?_);rw[if_neg (by simp[vq])];refine vB (wpAny_setField h g (qz.mp u).1 ?_)
 have d:∀b,b≠T->(s.heap.update T (.mapFields (·.setIfInBounds 3 Value.none))).get? b=s.heap.get? b:=λb n=>qA _ _ (.symm n)
 have l:∀b o,s.heap.get? b=u4 o->(∀r,o.data≠ .fields r)->b≠T:=λb o c n z=>by rw[z,h]at c;cases c;exact n w g
 refine fM fr (y.of_keeps λb o c n=>⟨o,(d b (l b o c n)).trans c,rfl⟩) k ((d e (.symm i)).trans p)
  (λb o f=>(d b λz=>by rw[z,x]at f;cases f).trans (hk b o f)) v t (qz.mp m).1
  λh' n=>q h' ⟨n.st,n.fr,n.tr,λb o c j=>n.up b o ((d b (l b o c j)).trans c) j,λb o c=>?_⟩
 by_cases z:b=T
 .subst z;exact n.th b _ (q8 _ h (Obj.isFreed_of_fields (Obj.data_mapFields g _)))
 exact n.th b o ((d b z).trans c)
def Yv(F:s.heap.FunFrames B l)(H:QZ s.heap B e cls od fl)(hk:B.StaysIn s.heap)
  (q:∀h',NG B l e cls od .none s.heap h'->Q () {s with heap:=h'}):vk M A (setFlight (.ref e) u5) Q E s:=by
 obtain⟨C,p,T,I,y,u,⟨rfl,rfl⟩,v,t,⟨w,i⟩,m,k,x⟩:=H;unfold setFlight;refine vB (vE u v t ?_);rw[if_pos (by simp)];refine wpAny_setField m k (qz.mp x).1 (q _ ?_)
 have d:∀b,b≠T->(s.heap.update T (.mapFields (·.setIfInBounds 3 ((u5:Option xA).elim Value.none λf=>vq f)))).get? b=s.heap.get? b:=λb n=>qA _ _ (.symm n)
 have r:∀b o,s.heap.get? b=u4 o->(∀p,o.data≠ .fields p)->b≠T:=λb o c n z=>by rw[z,m]at c;cases c;exact n y k
 have j:=Obj.data_mapFields k (·.setIfInBounds 3 ((u5:Option xA).elim Value.none λf=>vq f))
 have h:=q8 (.mapFields (·.setIfInBounds 3 ((u5:Option xA).elim Value.none λf=>vq f))) m (Obj.isFreed_of_fields j)
 refine⟨λb o g=>(d b λz=>by rw[z,w]at g;cases g).trans (hk b o g),F.of_keeps λb o c n=>⟨o,(d b (r b o c n)).trans c,rfl⟩,
  ⟨C,p,T,_,_,(d e (.symm i)).trans u,⟨rfl,rfl⟩,v,t,⟨w,i⟩,h,j,by simp[(qz.mp x).1]⟩,λb o c n=>⟨o.slots,(d b (r b o c n)).trans c⟩,λb o c=>?_⟩
 by_cases z:b=T
 .subst z;exact⟨_,h⟩
 exact⟨o,(d b z).trans c⟩
def NG.trans(x:NG B l e cls od f1 h1 h2)(y:NG B l e cls od f2 h2 h3):NG B l e cls od f2 h1 h3:=
 ⟨y.st,y.fr,y.tr,λb o a n=>by
  obtain⟨g,k⟩:=x.up b o a n;obtain⟨c,f⟩:=y.up b _ k n;exact⟨c,f⟩,λb o a=>by
  obtain⟨d,k⟩:=x.th b o a;exact y.th b d k⟩
def CB(fr:A.frames=u4 (env::outer))(c:s.heap.FunFrames B (env::outer))(i:env.frame=u4 L)(j:s.heap.get? e=u4 oe)(hk:B.StaysIn s.heap)(g:B.get? e=u5)(h:oe.data=.fields vs)(d:vs[1]?=u4 .none)
  (q:∀h',NG B (env::outer) e oe.cls oe.dict .none s.heap h'->Q () {s with heap:=h'}):vk M A (leaving env (.ref e)) Q E s:=by
 unfold leaving;exact vB (CA fr c i j hk g h d λh' n=>Yv n.fr n.tr n.st λb f=>q b (n.trans f))
def CC(fr:A.frames=u4 (env::outer))(c:s.heap.FunFrames B (env::outer))(g:env.frame=u4 L)(h:QZ s.heap B e cls od .none)(hk:B.StaysIn s.heap)(f:B.get? e=u5)
  (q:∀h',NG B (env::outer) e cls od .none s.heap h'->Q () {s with heap:=h'}):vk M A (leaving env (.ref e)) Q E s:=by
 unfold leaving;exact vB (fN fr c g h hk f λh' n=>Yv n.fr n.tr n.st λb d=>q b (n.trans d))
end
structure Fly (B:Heap) (l:List Env) (e:xA) (cls:xL) (od:Option xA) (H':Hp) (h:Heap):Prop where
 st:B.StaysIn h
 fr:h.FunFrames B l
 tr:QZ h B e cls od .none
 eb:B.get? e=u5
 al:∀b,H' b≠u5->∃o,B.get? b=u4 o
def VL(P:xF)(w:xM):MP:=λouter H s E e s'=>∃(ea:xA)(cls:xL)(od:Option xA)(H':Hp)(B:Heap),e=.ref ea/\s'.os=s.os/\AllBare s'.gens/\Un (PH outer) [] H H' s.heap s'.heap/\VG P w H' s'.heap/\
 Fly B outer ea cls od H' s'.heap/\(∀b o,s.heap.get? b=u4 o->H b=u5->b∉PH outer->B.get? b=u4 o)/\s.heap.get? ea=u5/\E cls od H'/\∃C,cls=.ref C
section
variable{X:Cx}{vS:List (xA×Obj)}{σ:St}{H H':Hp}{s s':xH}{B h'':Heap}{ea:xA}{cls:xL}{od:Option xA}{E:XK}
def fO(OB:VG P w H' h)(l:∀b,H' b≠u5->∃o,B.get? b=u4 o)(j:B.StaysIn h)(g:B.StaysIn h'):VG P w H' h':=λa o e=>
 (OB a o e).UI (λb u c q=>by
  have f:H' b≠u5:=by
   rcases c with rfl|c
   .rw[e];simp
   rw[c];simp
  obtain⟨i,k⟩:=l b f;have d:=j b i k;rw[q]at d;cases d;exact g b u k) (λ_ q=>q) λ_ _ q=>q
theorem fP(I:Inv X vS σ H s)(K:X.stack=X.env::X.outer)(A:X.ex=[])(y:X.env.frame=u4 X.env.locals)(t:s'.os=s.os)(m:AllBare s'.gens)(un:Un (PH X.stack) [] H H' s.heap s'.heap)(OB:VG X.prog X.w H' s'.heap)
  (Q:∀b o,s.heap.get? b=u4 o->H b=u5->b∉PH X.stack->B.get? b=u4 o) (J:∀b,H' b≠u5->∃o,B.get? b=u4 o) (P:B.get? ea=u5) (st:B.StaysIn s'.heap) (v:s.heap.get? ea=u5)
  (n:NG B X.stack ea cls od .none s'.heap i) (S:E cls od H') (T:∃C,cls=.ref C):VL X.prog X.w X.outer X.H₀ X.s₀ E (.ref ea) {s' with heap:=i}:=by
 have a:=I.base;rw[A]at a;have F:PH X.stack=X.env.locals::PH X.outer:=by rw[K];unfold PH;rw[qy,y]
 have l:∀b o,X.s₀.heap.get? b=u4 o->X.H₀ b=u5->b∉PH X.outer->B.get? b=u4 o:=λb o q d f=>by
  refine Q b o (a.keep b o q d f (by simp)) (a.free b o q d (by simp)) ?_;rw[F];intro p;rcases zK.mp p with z|z
  .exact absurd (zj (zx q) I.ok.above) (z▸qX _)
  exact f z
 have x:i.FunFrames B X.outer:=by have:=n.fr;rw[K]at this;exact this.2.2
 refine⟨ea,cls,od,H',B,rfl,t.trans I.os,m,⟨λb o q d f _=>n.st b o (l b o q d f),λb o q d f _=>?_,λb o q d h=>?_,λb o q h=>?_,λb L q=>un.UJ b L (a.UJ b L q),λb o u q=>un.OJ b o u (a.OJ b o u q),λb Y q=>?_⟩,fO OB J st n.st,⟨n.st,x,n.tr,P,J⟩,l,?_,S,T⟩
 .obtain⟨sl,k⟩:=a.slot b o q d f (by simp);have p:=F▸zJ _ f;obtain⟨W,k'⟩:=un.slot b _ k (a.free b o q d (by simp)) p (by simp);obtain⟨_,M,g,O⟩:=I.stack.mem p;rw[k]at g;cases g;obtain⟨j,Z⟩:=n.up b _ k' O;exact⟨j,Z⟩
 .obtain⟨r,e⟩:=a.there b o q h;exact un.free b r e (a.free b o q d h) h
 .obtain⟨r,e⟩:=a.there b o q h;obtain⟨M,g⟩:=un.there b r e h;exact n.th b M g
 .obtain⟨U,e⟩:=a.VJ b Y q;obtain⟨N,g⟩:=un.VJ b _ e;exact⟨U++N,by rw[g,Array.append_assoc]⟩
 cases q:X.s₀.heap.get? ea with
 |none=>rfl
 |some o=>
  obtain⟨r,e⟩:=a.there ea o q (by simp);rw[v]at e;cases e
def Lq(X:Cx)(E:XK):xL->xH->Prop:=λe s'=>vk (vY X.prog X.w) X.A (leaving X.env e) (λ_ VS=>VL X.prog X.w X.outer X.H₀ X.s₀ E e VS) (λe' VS=>VL X.prog X.w X.outer X.H₀ X.s₀ E e' VS) s'
def CD(d:X.stack=X.env::X.outer)(g:X.ex=[])(c:X.env.frame=u4 X.env.locals)(I:Inv X vS σ H s)(h:VL X.prog X.w X.stack H s E e s'):Lq X E e s':=by
 obtain⟨r,j,q,p,B,rfl,l,b,un,OB,a,k,f,m,o⟩:=h;unfold Lq;refine CC (by rw[I.ok.frames,d]) (by rw[<-d];exact a.fr) c a.tr a.st a.eb λi n=>?_
 rw[<-d]at n;exact fP I d g c l b un OB k a.al a.eb a.st f n m o
theorem CF(x:TC P w H h a o):∃c,h.get? a=u4 c:=by
 cases o with
 |lst d=>obtain⟨_,_,_,_,e⟩:=x;exact⟨_,e⟩
 |tup d=>obtain⟨_,_,_,_,e,_⟩:=x;exact⟨_,e⟩
 |set S n=>obtain⟨o,_,_,_,e,_⟩:=x;exact⟨_,e⟩
 |ins C j fs=>obtain⟨_,_,_,e,_⟩:=x;exact⟨_,e⟩
 |own y=>exact x
 |xd fs=>obtain⟨_,⟨_,_,_,e,_⟩,_⟩:=x;exact⟨_,e⟩
 |z? k i=>obtain⟨_,_,_,e⟩:=x;exact⟨_,e⟩
 |ND c u=>obtain⟨e,_⟩:=x;exact⟨_,e⟩
 |OT l|met f y=>exact⟨_,x⟩
 |ext g=>exact x.2.1
 |_=>obtain⟨_,_,_,_,o,_,_,e,_⟩:=x;exact⟨_,e⟩
theorem fQ{a h h':Heap}:∀{l:List Env},h.FunFrames a l->(∀b∈PH l,∀o,h.get? b=u4 o->∃f,h'.get? b=u4 {o with slots:=f})->h'.FunFrames a l
 |[],_,_=>trivial
 |e::r,⟨hk,⟨L,o,i,j,t,p⟩,q⟩,k=>by
  have g:PH (e::r)=L::PH r:=by unfold PH;rw[qy,i]
  obtain⟨f,z⟩:=k L (g▸zW) o t;exact⟨hk,⟨L,_,i,j,z,p⟩,fQ q λb m n c=>k b (g▸zJ _ m) n c⟩
structure Made (X:Cx) (H:Hp) (s:xH) (ea:xA) (cls:xL) (od:Option xA) (s':xH) (H':Hp):Prop where
 os:s'.os=s.os
 bare:AllBare s'.gens
 un:Un (PH X.stack) [] H H' s.heap s'.heap
 OB:VG X.prog X.w H' s'.heap
 ob:∃oe vs,s'.heap.get? ea=u4 oe/\oe.cls=cls/\oe.dict=od/\oe.data=.fields vs/\vs[1]?=u4 .none
 fe:H' ea=u5
 new:s.heap.get? ea=u5
def CG(f:X.stack=X.env::X.outer)(g:X.ex=[])(d:X.env.frame=u4 X.env.locals)(I:Inv X vS σ H s)(m:Made X H s ea cls od s' H')(v:E cls od H')(w:∃C,cls=.ref C):Lq X E (.ref ea) s':=by
 obtain⟨L,M,x,rfl,rfl,y,t⟩:=m.ob;have i:(qd s'.heap (ea::PH X.stack)).get? ea=u5:=by exact wQ _ zW
 have h:(qd s'.heap (ea::PH X.stack)).StaysIn s'.heap:=λb o q=>vh _ q
 have r:∀b o,s.heap.get? b=u4 o->H b=u5->b∉PH X.stack->(qd s'.heap (ea::PH X.stack)).get? b=u4 o:=λb o q l c=>xa _ (m.un.keep b o q l c (by simp)) λe=>by
  rcases zK.mp e with z|z
  .rw[z,m.new]at q;cases q
  exact c z
 have p:∀b,H' b≠u5->∃o,(qd s'.heap (ea::PH X.stack)).get? b=u4 o:=λb c=>by
  cases q:H' b with
  |none=>exact absurd q c
  |some u=>
   obtain⟨o,k⟩:=CF (m.OB b u q);refine⟨o,xa _ k λe=>?_⟩;rcases zK.mp e with z|z
   .rw[z,m.fe]at q;cases q
   obtain⟨_,J,A,_⟩:=I.stack.mem z;rw[m.un.free b J A (I.Tn b z) (by simp)]at q;cases q
 unfold Lq;refine CB (by rw[I.ok.frames,f]) (by rw[<-f];exact(PySem.W.funFrames_hide (fQ I.stack λb c o F=>m.un.slot b o F (I.Tn b c) c (by simp)) λenv e a q=>zJ _ (jS.mpr ⟨env,e,q⟩))) d x h i y t λj n=>?_
 rw[<-f]at n;exact fP I f g d m.os m.bare m.un m.OB r p i h m.new n v w
end
section
variable{prog:xF}{w:xM}{A:xB}{E:xL->xH->Prop}{h:Heap}{g:Array GenState}{d:Drawn}{t:Nat}{os:OsState}
variable{nm q:Str}{C N:xA}{bs bm O?:List xL}{WX:Bool}{sn:List Str}{sub:List xL}{ab:Bool}{col:Option Bool}{dd:Option xA}{k0 k1 k2 k3 k5:Option xL}{B newId ZJ:String}
def CH(F:ExcBaseFacts B newId ZJ O?)(T:OwnTail h O? bm){y:Str->Option xL}{rest:List xL}{m:xA}{u:Obj}{Q:Fin->xH->Prop}
  (c:h.get? C=u4 (excClassObj nm q C N bs bm WX sn sub ab col dd k0 k1 k2 k3 k5 newId)) (H:h.Ns N y) (M:y "__init__"=u4 (.ref m)) (l:h.get? m=u4 u) (p:u.cls=.type "function")
  (K:∀h' e,Heap.MadeExcOf h h' e (.ref C) rest->h.objs.size<=e->vk (vY prog w) A (call (.ref m) (.ref e::rest)) (λr s'=>r=.none/\Q (.done (.ret (.ref e))) s') E ⟨h',g,d,t,os⟩) (L:rest.length<=sizeLine):
  vk (vY prog w) A (Builtin.«type.__call__» ⟨.ref C::rest,[]⟩) Q E ⟨h,g,d,t,os⟩:=by
 repeat (first|with_reducible refine wpAny_loadPart_at c ?_|with_reducible refine wpAny_madeBy_exc c ?_|wp_step)
 refine codeAny_call_builtin_code (Code.quiet_builtin _ F.quiet) (wpAny_check_new_subT F T c ?_);refine codeAny_exc_new_subT F T c ?_ L;generalize n:({cls:=.type "tuple",data:=.seq rest.toArray}:Obj)=v;generalize a:({cls:=.ref C,data:=.fields #[.ref h.objs.size,.none,.none,.none,.bool u7,.none]}:Obj)=j;have i:∀b o,h.get? b=u4 o->((h.push v).push j).get? b=u4 o:=λb o z=>zZ _ (zZ _ z)
 have f:=i _ _ c;have s:((h.push v).push j).get? (h.objs.size+1)=u4 j:=Heap.get?_push_at (by simp[q9]) (by rw[<-a];rfl);have k:j.cls=.ref C:=by rw[<-a]
 have J:(.ref C::bm).contains (.ref C)=u6:=by simp
 unfold isInstance
 repeat (first|(with_reducible refine wpAny_loadPart_at s ?_;rw[k])|(with_reducible refine wpAny_isSubtype_exc f ?_;rw[J])|wp_step)
 refine wpAny_typeLookup_tail f (H.keeps i) (T.keeps i) F.mroIs F.init.lookup ?_;rw[M];refine vF (vB ?_);unfold bindSpecial;refine vB (wpAny_typeOf ⟨_,i _ _ l,p⟩ ?_);rw[if_pos (by decide)];refine vL (vB (vG (K _ (h.objs.size+1) ⟨i,xq (j3 _),h.objs.size,by rw[s,<-a],xq (zY _),?_⟩ (j3 _)) (λr s' z=>?_) λ_ _ x=>x))
 .rw[<-n];exact zZ _ (Heap.get?_push_at rfl rfl)
 obtain⟨rfl,I⟩:=z
 wp_walk
 exact I
def CI(F:ExcBaseFacts B newId ZJ O?)(T:OwnTail h O? bm){j:Str->Option xL}{rest:List xL}{b:xA}{i:Obj}{Q:xL->xH->Prop}
  (a:h.get? C=u4 (excClassObj nm q C N bs bm WX sn sub ab col dd k0 k1 k2 k3 k5 newId)) (k:h.Ns N j) (m:j "__init__"=u4 (.ref b)) (c:h.get? b=u4 i) (f:i.cls=.type "function")
  (l:∀h' e,Heap.MadeExcOf h h' e (.ref C) rest->h.objs.size<=e->vk (vY prog w) (A.under (.builtin "type.__call__" ⟨.ref C::rest,[]⟩)) (call (.ref b) (.ref e::rest)) (λr s'=>r=.none/\Q (.ref e) s') E ⟨h',g,d,t,os⟩) (o:rest.length<=sizeLine):
  vk (vY prog w) A (call (.ref C) rest) Q E ⟨h,g,d,t,os⟩:=by
 have u:=tc_lookup;have v:=tc_bind (.ref C);have s:(⟨h,g,d,t,os⟩:xH).TypeIs (.ref C) "type":=⟨_,a,rfl⟩;refine wpAny_call (codeAny_of_tree ?_)
 repeat (any_goals (first|assumption|with_reducible refine wpAny_loadPart_at a ?_|wp_step))
 refine⟨rfl,?_⟩;exact codeAny_call_builtin_at (Code.quiet_builtin _ (by decide +kernel)) entry_typeCall (wpAny_check_type_call_sub a (CH F T a k m c f (λh' e n p=>(l h' e n p)) o))
end
def CJ{K:za}{h:Heap}{N:xA}{m:Str->Option xL}{n:Str}{v:xL}(X:K.In h)(G:h.Ns N m)(e:zb K N n=u4 (u4 v)):m n=u4 v:=by
 obtain⟨o,l,r,g,a,_,b⟩:=G;unfold zb at e;split at e
 .rename_i c d i k j q;have:=X _ _ q;rw[g]at this;cases this;cases a;split at e
  .rename_i y f;rw[<-b];unfold nsFind findBy;rw[<-Array.find?_toList,f];exact Option.some.inj e
  split at e<;>cases e
 cases e
theorem Qw{K:za}{h:Heap}{C:xA}(X:K.In h)(q:Hx K C=u6):∃d N w v bs o sub r b u g i j k e,h.get? C=u4 (excClassObj w v C N bs d u6 o sub r b u g i j k e "ValueError.__new__")/\OwnTail h VW d/\
  (∃m,h.Ns N m/\∀f,Lp K C f=u6->m "__init__"=u4 (.ref f)):=by
 unfold Hx at q;rcases H:K.lookup C with _|⟨c,u,A,y⟩
 .rw[H]at q;cases q
 have I:∀f,Lp K C f=u6->_:=λf z=>by unfold Lp at z;rw[H]at z;exact z
 rw[H]at q;cases A with
 |cls A=>
  simp only[z7,beq_iff_eq,Bool.not_eq_true']at q I;obtain⟨⟨⟨⟨⟨⟨rfl,E⟩,B⟩,a⟩,c⟩,J⟩,OB⟩:=q;obtain⟨w,bs,O,F,v,P,o,sub,r,b,L⟩:=A;dsimp only at E a OB c I J;generalize O.tail=d at E J
  replace B:=Array.ext' (ys:= #[_,_,_,_,_,_]) B
  generalize y.toList.getD 0 u5=g,y.toList.getD 1 u5=i,y.toList.getD 2 u5=j,y.toList.getD 3 u5=k,y.toList.getD 5 u5=e at B;subst E a c B;exact⟨d,F,w,v,bs,o,sub,r,b,u,g,i,j,k,e,X _ _ H,PySem.W.tail_of_in X J,_,.of_isNs (uj X OB),λf z=>CJ X (.of_isNs (uj X OB)) (I f z)⟩
 |_=>cases q
noncomputable def Mc(C:xA)(od:Option xA)(t:xA):Obj:={cls:=.ref C,dict:=od,data:=.fields #[.ref t,.none,.none,.none,.bool u7,.none]}
def OK(e C:xA)(od:Option xA)(h:Heap):Prop:=∃t,h.get? e=u4 (Mc C od t)
def Y9(x:OK e C od h):TC P w H h e (.ext (OK e C od)):=
 ⟨x,let⟨t,k⟩:=x;⟨_,k⟩,λb a ⟨t,k⟩ s=>⟨t,s _ k⟩⟩
section
variable{X:Cx}{C W:xA}{x:Str}{mc:xL}{p apos pos:Pos}{a1 a2:xC}{t:TA}
noncomputable def tBI(C:xA)(t:TA):TE:=λσ H Q=>t σ H λvs H1=>∃e v,vs=[.ref e,v]/\H1 e=u4 (.ext (OK e C u5))/\Q .WA H1
def CK(h:H a=u4 o):upd H a o=H:=by
 funext b;unfold upd;split
 .rename_i z;rw[z,h]
 rfl
def CL{pl:Sem Bool}(B:Hx X.K C=u6)(O:Gl X x)(Z:X.mg x=u4 (.ref W))(P:ve X.K (.ref W) "__getattribute__"=u4 (u4 (.builtin "type.__getattribute__")))(hr:ux X.K W mc=u6)
  (M:uv X.K (.ref W) mc "__init__"=u4 (.val (.builtin "ValueError.__init__"))) (ha:PA X [a1,a2] t) (w:(x==("__debug__":Str))=u7:=by decide)
  (U:vx [a1,a2] X.env=(u7,eval a1 X.env)::vx [a2] X.env:=by rfl) (y:(xP pos (vx [a2] X.env)).any (·.1)=u7:=by rfl)
  (ht:eval (.Call (.Attribute (.Name x p) "__init__" apos) [a1,a2] [] pos) X.env=(do
   let ov<-eval (.Name x p) X.env
   standAt apos.atName
   let(f,first)<-holding [ov] (getMethod ov "__init__" pl)
   callWith pos f first (xP pos (vx [a1,a2] X.env)) (xR pos (vV [] X.env))):=by rfl):
  PE X (.Call (.Attribute (.Name x p) "__init__" apos) [a1,a2] [] pos) (tBI C t):=by
 intro i s σ H Q I h;refine xi (Li I O Z ?_ w) ht;refine PySem.W.method_cls I.WG P (PySem.W.cls_value I.WG hr M (by decide) ?_);refine ww (QB (ha pos i _ σ H _ (I.tok _) h) λus S zz=>?_) U y;obtain⟨vs,A,j,r,e,v,Y,z,q⟩:=zz;subst Y;obtain⟨u,rfl⟩:∃u,us=[.ref e,u]:=by
  cases r with
  | cons r1 L=>
   cases L with
   |cons r3 r4=>
    cases r4;obtain rfl:=(r1);exact⟨_,rfl⟩
 obtain⟨⟨tp,c⟩,_,_⟩:=j.OB e _ z;obtain⟨bm,N,nm,qn,bs,sn,sub,ab,col,dd,k0,k1,k2,k3,k5,l,T,m,hN,_⟩:=Qw j.WG B;obtain⟨hp,g,d,E,os⟩:=S;have F:=uw;refine wpAny_call (codeAny_call_builtin F.init.plain F.initEntry (wpAny_check_init_subT F T l c rfl ?_))
 wp_walk
 have a:((hp.push {cls:=.type "tuple",data:=.seq #[u]}).update e (.mapFields (·.setIfInBounds 0 (.ref hp.objs.size)))).get? e=u4 (Mc C u5 hp.objs.size):=q8 _ (zZ _ c) rfl
 have J:=j.write (t':=E) (by rw[z];trivial) (.inl rfl)
  (λb o n k=>by rw[qA _ _ (.symm n)];exact zZ _ k) ⟨_,a⟩ (Y9 ⟨_,a⟩)
 rw[CK z]at J;exact⟨.WA,A,J,rfl,q⟩
end
def Tr(h:tyN v=n)(a:¬""=n):v=.type n:=by cases v<;>first|exact absurd h a|exact congrArg Value.type h
def CM(h:Md v=u6):∃c,v=.ref c:=by cases v<;>first|exact⟨_,rfl⟩|cases h
def CN(h:l.map tyN=["ValueError","Exception","BaseException","object"]):l=VW:=by
 rcases l with _|⟨a,_|⟨b,_|⟨c,_|⟨d,_|⟨e,l⟩⟩⟩⟩⟩<;>simp only[zy,jN,List.cons.injEq,reduceCtorEq,and_false]at h
 obtain⟨i,g,j,f,_⟩:=h;rw[Tr i (by decide),Tr g (by decide),Tr j (by decide),Tr f (by decide)]
theorem fR{P:List xL->Prop}(g:P VW)(b:∀c r,P r->P (.ref c::r)):∀{l:List xL},Oi l=u6->P l:=by
 intro l
 induction l with
 |nil=>intro e;cases e
 |cons a r f=>
  intro e;rcases Bool.or_eq_true_iff.mp e with e|e
  .obtain⟨d,h⟩:=qN.mp e;obtain⟨c,rfl⟩:=CM d;exact b c r (f h)
  rw[CN (of_decide_eq_true e)];exact g
def CO(a:xL):∀{l:List xL},Oi l=u6->refuseLoop a "__setattr__" l=pure ():=
 fR (P:=λl=>refuseLoop a "__setattr__" l=pure ()) (PySem.F.store_ValueError.passes a) λc r h=>by rw[refuseLoop_ref];exact h
def CP:∀{l:List xL},Oi l=u6->l.contains (.type "object")=u6:=
 fR (P:=λl=>l.contains (.type "object")=u6) (by simp) λc r h=>by rw[List.contains_cons,h,Bool.or_true]
section
open PySem.W
variable{prog:xF}{w:xM}{A:xB}{s:xH}{K:vO}{x C:xA}{R:Result->xH->Prop}
def CQ(X:K.In s.heap)(I:InstAt s.heap x ox C od)(hp:Vp K C=u6)(y:takerIn K C name=u4 r)
  (h:∀b,vk (vY prog w) A.in1 (match r with |some a=>Builtin.ObjectAttr.setByDescriptor a (.ref x) v|none=>Builtin.ObjectAttr.storeInOwnDict (.ref x) (.ref C) (.str name tk) name v b)
   (λn s'=>match n with | .done f=>R (.ok f) s' | .again c'=>c'.quiet=u6/\codeAny (vY prog w) A c' R s') (λe s'=>R (.error e) s') s):
  codeAny (vY prog w) A (.call (.builtin "object.__setattr__") ⟨[.ref x,.str name tk,v],[]⟩) R s:=by
 obtain⟨m,i,c⟩:=any_some hp;obtain⟨k,o,g⟩:=Option.bind_eq_some_iff.mp y;have d:m.mro≠[]:=λz=>by rw[z]at c;cases c
 have top:mroIn K C (.type "object")=u4 u6:=by unfold mroIn;rw[i];show(if m.mro.isEmpty=u6 then _ else _)=_;rw[if_neg (by simpa using d),CP c]
 have j:Looks (vY prog w) s.heap (mroOf (.ref C)) m.mro:=(looks_clsIn X i).andThen Looks.now;have l:Looks (vY prog w) s.heap (Builtin.ObjectAttr.storeTaker? k) r:=by
  rcases k with _|B
  .cases g;exact .now
  obtain⟨p,q,u⟩:=zG.mp g;subst u
  exact(looks_takesIn X q).andThen (by cases p<;>exact .now)
 refine codeAny_call_builtin F.store_object.slot.plain F.store_object.entry (@check_slot (vY prog w) _ _ _ "object.__setattr__" "object" "__setattr__" (.ref x) [.str name tk,v] [] _ F.store_object.kind F.store_object.split (I.type.andThen (looks_mroIn X top)) (F.store_object.args (.ref x) (.str name tk) v) ?_);rw[osa_eq,refuse_eq];apply vB;apply vB;refine I.type.here ?_;apply vB
 refine j.here ?_;rw[CO _ c];apply vL;apply vB;refine I.type.here ?_;apply vB;refine(looks_findIn X o).here ?_;apply vB;exact l.here (h _)
end
section
variable{prog:xF}{w:xM}{A:xB}{E:xL->xH->Prop}{s:xH}{K:za}{e C t:xA}{name:Str}{v:xL}
def CS(X:K.In s.heap)(g:s.heap.get? e=u4 (Mc C u5 t))
  (F:zc K (.ref C) "__setattr__"=u4 (u4 (.builtin "object.__setattr__"))) (hp:Vp K C=u6) (M:qe K C name=u4 u5) (L:qb K C=u6)
  (h:∀h' i tk,s.heap.objs.size<=i->h'.get? e=u4 (Mc C (u4 i) t)->h'.Ns1 i (λy=>if y=name then u4 v else u5)->(∀b o,b≠e->s.heap.get? b=u4 o->h'.get? b=u4 o)->Q () {s with heap:=h',toks:=tk}):
  vk (vY prog w) A (setAttr (.ref e) name v) Q E s:=by
 have J:wZ s.heap e (Mc C u5 t) C u5:=⟨g,rfl,rfl,trivial⟩;refine wq X J F (CQ X J hp M λb=>?_);obtain⟨N,I,j⟩:=wz L;refine vB (vL (vB (vB (wpAny_loadPart g (vB (PySem.W.Looks.here (wj X I) ?_))))));rw[j];have d:(s.heap.push {cls:=.type "dict",data:=.dict #[]}).get? e=u4 (Mc C u5 t):=zZ _ g
 have u:=z9 (zx g);refine vB (wpAny_alloc' ?_);refine vB (wpAny_update' d ?_);unfold dictMade;refine vL ?_;unfold Builtin.ObjectAttr.storeInDict Builtin.ObjectAttr.newKeyGuard;refine vB (vL (vB (wpAny_nsSet1 (.of_empty ⟨_,#[],_,(Heap.get?_update_ne _ _ _ _ u.symm).trans (Heap.get?_push_at rfl rfl),rfl,λy H=>absurd H (by simp),λ_=>rfl⟩) λh' c f=>?_)))
 obtain⟨O,z,B,k,p,m⟩:=c.count (.cons name v Within.nil);refine vB (wpAny_lookBehind k (by rw[p];exact pastItsLine_dict (z8 m (by rw[zH,qT,vz];lia))) ?_);exact vL (h h' s.heap.objs.size _ (zY _) ((f.2 e u).trans (q8 _ d rfl)) c λb o n r=>((f.2 b (z9 (zx r))).trans ((Heap.get?_update_ne _ _ _ _ n).trans (zZ _ r))))
end
structure VU (K:za) (C:xA) (f:Str):Prop where
 ec:Hx K C=u6
 sa:zc K (.ref C) "__setattr__"=u4 (u4 (.builtin "object.__setattr__"))
 po:Vp K C=u6
 tk:qe K C f=u4 u5
 hd:qb K C=u6
section
variable{X:Cx}{C:xA}{f:Str}{o value:xC}{pos pos':Pos}{ta tv:TE}
def sXf(C:xA)(f:Str)(ta tv:TE):TS:=λD σ H=>tv σ H λy H1=>ta σ H1 λx H2=>∃e,x=.ref e/\H2 e=u4 (.ext (OK e C u5))/\
 ∀dx o,H2 dx=u5->dx≠e->D.nx σ (upd (upd H2 e (.ext (OK e C (u4 dx)))) dx (.ND o (.xd [(f,y)])))
def CU(S:VU X.K C f)(ha:PE X o ta)(hv:PE X value tv)(hs:swapsWith value (u4 (.Attribute o f pos')) pos.line X.env=pure u7):PS X (.Assign [.Attribute o f pos'] value pos) (sXf C f ta tv):=by
 intro i s N H D I h;refine plainObj_wpAny_Assign_Attribute (QB (hv i s N H _ I h) λu s1 ⟨y,H1,I1,ry,q⟩=>QB (ha i s1 N H1 _ I1 q) λov W zz=>?_) hs;obtain⟨x,c,v,rx,e,ex,m,q2⟩:=zz;subst ex;obtain rfl:ov=Value.ref e:=rx;obtain⟨⟨t,F⟩,_,_⟩:=v.OB e _ m;refine CS v.WG F S.sa S.po S.tk S.hd λr a T Y j Q A=>?_
 have l:=v.OB.fresh Y;have ne:a≠e:=λz=>by rw[z,m]at l;cases l
 obtain⟨d,J⟩:∃d,r.get? a=u4 d:=by obtain⟨o,_,_,k,_⟩:=Q;exact⟨o,k⟩
 have p:upd c e (.ext (OK e C (u4 a))) a=u5:=by unfold upd;rw[if_neg ne];exact l
 have K2:VG X.prog X.w (upd (upd c e (.ext (OK e C (u4 a)))) a (.ND d (.xd [(f,y)]))) r:=λb O z=>by
  by_cases Z:b=a
  .subst Z;have zo:O=.ND d (.xd [(f,y)]):=by
    have E:upd (upd c e (.ext (OK e C (u4 b)))) b (.ND d (.xd [(f,y)])) b=u4 (.ND d (.xd [(f,y)])):=by unfold upd;rw[if_pos rfl]
    rw[E]at z;exact(Option.some.inj z).symm
   subst zo;refine⟨J,_,Q,λg=>?_⟩;by_cases M:g=f
   .subst M;simp[qR];exact ry
   have:(g==f)=u7:=by simpa using M
   simp[qR,this,M]
   trivial
  have E:upd c e (.ext (OK e C (u4 a))) b=u4 O:=by unfold upd at z⊢;rw[if_neg Z]at z;exact z
  refine((v.write (t':=T) (by rw[m];trivial) (.inl rfl) (λb o n k=>A b o n k) ⟨_,j⟩ (Y9 ⟨t,j⟩)).OB b O E).UI (λ_ _ _ k=>k) (λP k=>?_) λP xs k=>?_
  .have:P≠a:=λw=>by rw[w,p]at k;cases k
   unfold upd at k⊢;rw[if_neg this];exact k
  .have:P≠a:=λw=>by rw[w,p]at k;cases k
   unfold upd at k⊢;rw[if_neg this];exact k
 have B:∀b,b≠e->b≠a->upd (upd c e (.ext (OK e C (u4 a)))) a (.ND d (.xd [(f,y)])) b=c b:=λb n1 n2=>by unfold upd;rw[if_neg n2,if_neg n1]
 have U:Un X.fs [] c (upd (upd c e (.ext (OK e C (u4 a)))) a (.ND d (.xd [(f,y)]))) W.heap r:=by
  have nd:∀b o,W.heap.get? b=u4 o->b≠a:=λb o k z=>by have:=zx k;rw[z]at this;exact absurd this (Nat.not_lt.mpr Y)
  have L:∀b,c b=u5->b≠e:=λb k z=>by rw[z,m]at k;cases k
  refine⟨λb o k n _ _=>A b o (L b n) k,λb o k n _ _=>⟨o.slots,A b o (L b n) k⟩,λb o k n _=>by rw[B b (L b n) (nd b o k)];exact n,λb o k _=>?_,λb xs k=>?_,λb o u k=>?_,λb ps k=>⟨#[],?_⟩⟩
  .by_cases z:b=e
   .subst z;exact⟨_,j⟩
   exact⟨o,A b o z k⟩
  .rw[B b (λz=>by rw[z,m]at k;cases k) (λz=>by rw[z,l]at k;cases k)];exact k
  .rw[B b (λz=>by rw[z,m]at k;cases k) (λz=>by rw[z,l]at k;cases k)];exact k
  rw[B b (λz=>by rw[z,m]at k;cases k) (λz=>by rw[z,l]at k;cases k)];simpa using k
 exact⟨N,_,v.un U K2,q2 a d l ne⟩
end
def b?(i:Int):Prop:=i.natAbs.log2<1920/\(Str.ofString (toString i)).length<=1000
def ai(w:V):Prop:=(∃i:Int,w=.int i/\b? i)\/w=.WA
section
variable{X:Cx}{j:Nat}{v s1 s2:Str}{k1 k2 p1 p2 pv pf pos}
noncomputable def tFs(j:Nat):TE:=λσ H Q=>∃w:V,σ[j]?=u4 (u4 w)/\ai w/\∀x,Q (.str x) H
def CV(K:X.N[j]?=u4 v)(B:XW X.env.scope v)(P:s1.length<=1000)(O:s2.length<=1000)(L:(v==("__debug__":Str))=u7:=by decide)(p:(v==("__classdict__":Str))=u7:=by decide):
  PE X (.JoinedStr [.Constant (.str s1) k1 p1,.FormattedValue (.Name v pv) (-1) u5 pf,.Constant (.str s2) k2 p2] pos) (tFs j):=by
 intro d s l H Q I h;obtain⟨w,y,hw,q⟩:=h;have c:∀a b:Str,(a++b).length=a.length+b.length:=λa b=>by show(Str.append a b).length=_;unfold Str.append Str.length;simp
 have sz:∀n,n<=1000000->n<=sizeLine:=λn h=>by rw[vz];lia
 refine JoinedStr_many (joinParts_cons (QB (Q6 d s l H (λx g=>x=.str s1/\g=H) I ⟨rfl,rfl⟩) λu o f=>?_));obtain⟨x,z,C,e,rfl,rfl⟩:=f;obtain⟨S,rfl⟩:=e;refine⟨sz _ (by rw[c];show 0+_<=_;lia),?_⟩;refine joinParts_cons (FormattedValue_plain (QB (Ph K B L p d o l z (λx g=>x=w/\g=z) C ?_) λu J f=>?_))
 .exact⟨w,y,rfl,rfl⟩
 obtain⟨x,k,A,e,rfl,rfl⟩:=f;rcases hw with⟨i,rfl,M,E⟩|rfl
 .obtain⟨T,rfl⟩:=e;refine formatField_int_small M ⟨sz _ (by rw[c,c];show 0+_+_<=_;lia),?_⟩;refine joinParts_consE (joinParts_cons (QB (Q6 d _ l k (λx g=>x=.str s2/\g=k) (A.tok _) ⟨rfl,rfl⟩) λu r f=>?_));obtain⟨x,m,t,e,rfl,rfl⟩:=f;obtain⟨F,rfl⟩:=e;exact⟨sz _ (by rw[c,c,c];show 0+_+_+_<=_;lia),joinParts_nilE (joinParts_nil ⟨.str _,m,t.tok _,⟨_,rfl⟩,q _⟩ (sz _ (by rw[c,c,c];show 0+_+_+_<=_;lia)))⟩
 .cases(e);have E:(Str.ofString "None").length<=1000:=by decide
  refine wpAny_formatField_none ⟨sz _ (by rw[c,c];show 0+_+_<=_;lia),?_⟩;refine joinParts_consE (joinParts_cons (QB (Q6 d _ l k (λx g=>x=.str s2/\g=k) (A.tok _) ⟨rfl,rfl⟩) λu r f=>?_));obtain⟨x,m,t,e,rfl,rfl⟩:=f;obtain⟨F,rfl⟩:=e;exact⟨sz _ (by rw[c,c,c];show 0+_+_+_<=_;lia),joinParts_nilE (joinParts_nil ⟨.str _,m,t.tok _,⟨_,rfl⟩,q _⟩ (sz _ (by rw[c,c,c];show 0+_+_+_<=_;lia)))⟩
end
def d?(C:xA)(f:Str):Sp:=λvs H Q _=>∃(e:xA)(i:V),vs=[.ref e,i]/\ai i/\H e=u4 (.ext (OK e C u5))/\∀dx o,H dx=u5->dx≠e->Q .WA (upd (upd H e (.ext (OK e C (u4 dx)))) dx (.ND o (.xd [(f,i)])))
structure WU (K:za) (mg:Str->Option xL) (x:Str) (W:xA):Prop where
 m:mg x=u4 (.ref W)
 s:ve K (.ref W) "__getattribute__"=u4 (u4 (.builtin "type.__getattribute__"))
 r:ux K W (.type "type")=u6
 f:uv K (.ref W) (.type "type") "__init__"=u4 (.val (.builtin "ValueError.__init__"))
def CW{P:xF}{w:xM}{K:za}{t:Str->Option xL}{c:Heap}{x b v f u n:Str}{st:xI}{Z C W:xA}{fd:xD}{k:Nat}{pw U g pe B M J T p5 p6 p7 p8 pv L:Pos}{k1 k2}
  (F:YS K x qual st Z fd) (S:UC ["self",v] ["self",v] (Bc st)) (XS:VU K C f) (O:WU K t b W)
  (hb:Dg st=[.Expr (.Call (.Attribute (.Name b pw) "__init__" U) [.Name "self" B,.JoinedStr [.Constant (.str u) k1 M,.FormattedValue (.Name v pv) (-1) u5 L,.Constant (.str n) k2 J] T] [] g) pe,.Assign [.Attribute (.Name "self" p5) f p6] (.Name v p8) p7])
  (l1:u.length<=1000) (l2:n.length<=1000) (hgl:(Bc st).names.lookup b=u4 .globalImplicit) (Y:(b==("__debug__":Str))=u7) (o:(v==("__debug__":Str))=u7) (j:(v==("__classdict__":Str))=u7)
  (hvs:XW (Bc st) "self") (l:XW (Bc st) v)
  (hev:∀env:Env,∃pl:Sem Bool,eval (.Call (.Attribute (.Name b pw) "__init__" U) [.Name "self" B,.JoinedStr [.Constant (.str u) k1 M,.FormattedValue (.Name v pv) (-1) u5 L,.Constant (.str n) k2 J] T] [] g) env=(do
   let ov<-eval (.Name b pw) env
   standAt U.atName
   let(f,first)<-holding [ov] (getMethod ov "__init__" pl)
   callWith g f first (xP g (vx [.Name "self" B,.JoinedStr [.Constant (.str u) k1 M,.FormattedValue (.Name v pv) (-1) u5 L,.Constant (.str n) k2 J] T] env)) (xR g (vV [] env)))):
  QD P w K t c RO (k+1) Z fd ["self",v] (d? C f):=by
 refine F.ok S (λvs H Q E zz=>by obtain⟨e,i,z,_⟩:=zz;rw[z];rfl) (λXH A d s H vs Q E hr h=>?_);obtain⟨e,i,rfl,hi,hx,q⟩:=h;rw[hb];generalize I:(Gd RO P w K t c ["self",v] qual (Bc st) Z XH A d s H E).OY=X;have y:X.K=K:=by rw[<-I];rfl
 have hm:X.mg=t:=by rw[<-I];rfl
 have hN:X.N=(["self",v]:List Str):=by rw[<-I];rfl
 have hs:X.env.scope=Bc st:=by rw[<-I];rfl
 have a:∀p,PE X (.Name "self" p) (Rb 0):=λp=>Ph (by rw[hN];rfl) (hs▸hvs) (by decide) (by decide)
 have pv':∀p,PE X (.Name v p) (Rb 1):=λp=>Ph (by rw[hN];rfl) (hs▸l) o j
 have hG:Gl X b:=by unfold Gl;rw[<-I];exact hgl
 obtain⟨pl,M'⟩:=hev X.env;have c1:PE X (.Call (.Attribute (.Name b pw) "__init__" U) [.Name "self" B,.JoinedStr [.Constant (.str u) k1 M,.FormattedValue (.Name v pv) (-1) u5 L,.Constant (.str n) k2 J] T] [] g) (tBI C (Q3 (Rb 0) (Q3 (tFs 1) Oo))):=
  CL (y▸XS.ec) hG (hm▸O.m) (y▸O.s) (y▸O.r) (y▸O.f) (Z6 (a B) (Z6 (CV (by rw[hN];rfl) (hs▸l) l1 l2 o j) bt)) Y rfl rfl M'
 refine⟨_,bc (bf c1 rfl) (be (CU (y▸XS) (a p5) (pv' p8) rfl)),?_⟩;exact⟨.ref e,rfl,i,rfl,hi,λxx=>⟨e,_,rfl,hx,⟨i,rfl,.ref e,rfl,e,rfl,hx,q⟩⟩⟩
section
variable{M:Model}{A:xB}{E:xL->xH->Prop}{env:Env}
variable{nm q:Str}{C N:xA}{bs bm:List xL}{WX:Bool}{sn:List Str}{sub:List xL}{ab:Bool}{col:Option Bool}{dd:Option xA}{k0 k1 k2 k3 k5:Option xL}{newId:String}
def CY(L:A.handled=u5)
  (h:vk M A x (λv b=>∃e od t m N H q bs i p sub r l w y z B F u c,v=.ref e/\b.heap.get? C=u4 (excClassObj H q C N bs m i p sub r l w y z B F u c)/\m.contains (.type "BaseException")=u6/\
   b.heap.get? e=u4 {cls:=.ref C,dict:=od,data:=.fields #[.ref t,.none,.none,.none,.bool u7,.none]}/\E (.ref e) b) E s):vk M A (raiseStmt env (u4 x) u5) Q E s:=by
 unfold raiseStmt;refine vB (vG h (λv b j=>?_) λ_ _ x=>x);obtain⟨e,od,t,m,N,H,q,bs,i,p,sub,r,l,w,y,z,B,F,u,c,rfl,o,I,K,J⟩:=j;have n:(.ref C::m).contains (.type "BaseException")=u6:=by rw[List.contains_cons,I,Bool.or_true]
 obtain⟨hp,g,d,O,P⟩:=b
 repeat (first|with_reducible refine wpAny_loadPart_at K ?_|with_reducible refine wpAny_loadPart_at o ?_|(with_reducible refine wpAny_isSubtype_exc o ?_;rw[n])|wp_step)
 exact wpAny_raiseNew_none L J
def CZ(z:A.handled=u5)
  (h:vk M A (eval x env) (λv b=>∃e od t j N B q bs d r sub w i o p u y m n c,v=.ref e/\b.heap.get? C=u4 (excClassObj B q C N bs j d r sub w i o p u y m n c)/\j.contains (.type "BaseException")=u6/\
   b.heap.get? e=u4 {cls:=.ref C,dict:=od,data:=.fields #[.ref t,.none,.none,.none,.bool u7,.none]}/\E (.ref e) b) E s):vk M A (exec (.Raise (u4 x) u5 pos) env) Q E s:=by
 rw[arm_exec_Raise];exact vB (wpAny_standAt (CY z (vB (vG h (λv l g=>vB (wpAny_standAt (vL g))) λ_ _ x=>x))))
end
section
variable{X:Cx}{C fI:xA}{f x:Str}{np WD pos:Pos}{a:xC}{ta:TA}{E:XK}{k:Nat}{fd:xD}{v:Str}
def tRz(C:xA)(f:Str)(E:XK)(ta:TA):TS:=λ_ σ H=>ta σ H λvs H1=>∃i:V,vs=[i]/\ai i/\∀dx o,H1 dx=u5->E (.ref C) (u4 dx) (upd H1 dx (.ND o (.xd [(f,i)])))
theorem C0(S:X.calm=u6)(hs:X.stack=X.env::X.outer)(hex:X.ex=[])(hfr:X.env.frame=u4 X.env.locals)(hxe:∀e s,Lq X E e s->X.xe e s)
  (XS:VU X.K C f) (hi:Lp X.K C fI=u6) (hfn:∃o,X.K.lookup fI=u4 o/\o.cls=.type "function") (F:QD X.prog X.w X.K X.mg X.base RO k fI fd ["self",v] (d? C f)) (hr:NC (k+1) X.A) (hb:Binds X.K fd ["self",v] [])
  (hg:Gl X x) (hm:X.mg x=u4 (.ref C)) (hk:ze X.K (.ref C)=u6) (ha:PA X [a] ta) (hdb:(x==("__debug__":Str))=u7:=by decide)
  (he:vx [a] X.env=(u7,eval a X.env)::vx [] X.env:=by rfl) (M':(xP WD (vx [] X.env)).any (·.1)=u7:=by rfl):
  PS X (.Raise (u4 (.Call (.Name x np) [a] [] WD)) u5 pos) (tRz C f E ta):=by
 intro vS s σ H D I h;refine CZ (C:=C) (I.ok.hd S) ?_;refine vA (Li I hg hm ?_ hdb);refine qf I.ok.mod.ZZ hk (QB (ha WD vS s σ H _ I h) λus s1 ⟨vs,B,U,r,i,ev,hi',q⟩=>⟨U.WG,?_⟩) he M';subst ev;obtain⟨bm,N,nm,qn,bs,sn,sub,ab,col,dd,k0,k1,k2,k3,k5,hcl,T,m,hN,L?⟩:=Qw U.WG XS.ec;obtain⟨oI,hfI,hfc⟩:=hfn;have hl1:us.length<=sizeLine:=by rw[<-r.length,vz];show 1<=_;decide
 obtain⟨hp,g,d,tk,os⟩:=s1;have FB:=uw;refine CI FB T hcl hN (L? fI hi) (U.WG _ _ hfI) hfc (λh' e j hz=>?_) hl1;obtain⟨t,ht,_,_⟩:=j.there;have I2:=U.laid (t':=tk) j.keeps hz (Y9 ⟨t,ht⟩);have fe:=U.OB.fresh hz;obtain⟨u,rfl⟩:∃u,us=[u]:=by
  cases r with
  |cons r1 r2=>cases r2;exact⟨_,rfl⟩
 have h2e:upd B e (.ext (OK e C u5)) e=u4 (.ext (OK e C u5)):=by unfold upd;rw[if_pos rfl]
 have l:∀b,b≠e->upd B e (.ext (OK e C u5)) b=B b:=λb n=>by unfold upd;rw[if_neg n]
 refine wpAny_call (vZ (F.run _ X.stack _ _ ⟨[Value.ref e,u],[]⟩ [Value.ref e,u] [V.ref e,i] (λw H3=>w=.WA/\∃c o,B c=u5/\c≠e/\H3=upd (upd (upd B e (.ext (OK e C u5))) e (.ext (OK e C (u4 c)))) c (.ND o (.xd [(f,i)]))) E0 (hr.make C [u] [])
  (I2.NX.make C [u] []) (by simpa using hb _ [Value.ref e,u] I2.WG rfl) (.cons rfl r) ⟨e,i,rfl,hi',h2e,λc o n1 n2=>⟨rfl,c,o,by rw[<-l c n2];exact n1,n2,rfl⟩⟩) λr s' y=>?_)
 cases r with
 |error e=>exact y.elim
 | ok fl=>
  cases fl with
  | ret w=>
   obtain⟨_,_,I3,_⟩:=I2.after y;obtain⟨vw,H3,os',O,un,OB,YR,rfl,c,o,nd,ne,rfl⟩:=y;refine⟨YR,?_⟩;have p:∀b,b≠e->upd (upd (upd B e (.ext (OK e C u5))) e (.ext (OK e C (u4 c)))) c (.ND o (.xd [(f,i)])) b=upd B c (.ND o (.xd [(f,i)])) b:=λb n=>by
    unfold upd;split
    .rfl
    simp
   have P:upd (upd (upd B e (.ext (OK e C u5))) e (.ext (OK e C (u4 c)))) c (.ND o (.xd [(f,i)])) e=u4 (.ext (OK e C (u4 c))):=by unfold upd;rw[if_neg (Ne.symm ne),if_pos rfl]
   have feN:upd B c (.ND o (.xd [(f,i)])) e=u5:=by unfold upd;rw[if_neg (Ne.symm ne)];exact fe
   obtain⟨⟨t',Z⟩,_,_⟩:=OB e _ P;obtain⟨P?,N',nm',qn',bs',sn',e?,ab',Y,Pp,l0,l1,l2,l3,l5,hcl',T',_⟩:=Qw I3.WG XS.ec;have L:∀b o,hp.get? b=u4 o->b≠e:=λb o k z=>by rw[z,j.new]at k;cases k
   have mk:Made X B ⟨hp,g,d,tk,os⟩ e (.ref C) (u4 c) s' (upd B c (.ND o (.xd [(f,i)]))):=by
    refine⟨os',O,⟨λb o k n hb Q=>un.keep b o (j.keeps b o k) (by rw[l b (L b o k)];exact n) hb Q,λb o k n hb Q=>un.slot b o (j.keeps b o k) (by rw[l b (L b o k)];exact n) hb Q,λb o k n Q=>?_,λb o k Q=>un.there b o (j.keeps b o k) Q,λb xs k=>?_,λb o u k=>?_,λb ps k=>?_⟩,λb ob z=>?_,⟨_,_,Z,rfl,rfl,rfl,rfl⟩,feN,j.new⟩
    .rw[<-p b (L b o k)];exact un.free b o (j.keeps b o k) (by rw[l b (L b o k)];exact n) Q
    .have J:b≠e:=λz=>by rw[z,fe]at k;cases k
     rw[<-p b J];exact un.UJ b xs ((l b J)▸k)
    .have J:b≠e:=λz=>by rw[z,fe]at k;cases k
     rw[<-p b J];exact un.OJ b o u ((l b J)▸k)
    .have J:b≠e:=λz=>by rw[z,fe]at k;cases k
     rw[<-p b J];exact un.VJ b ps ((l b J)▸k)
    have J:b≠e:=λz'=>by rw[z',feN]at z;cases z
    rw[<-p b J]at z;refine(OB b ob z).UI (λ_ _ _ k=>k) (λb' k=>?_) λb' xs k=>?_
    .rw[<-p b' (λz'=>by rw[z',P]at k;cases k)];exact k
    rw[<-p b' (λz'=>by rw[z',P]at k;cases k)];exact k
   exact⟨e,u4 c,t',P?,N',nm',qn',bs',u6,sn',e?,ab',Y,Pp,l0,l1,l2,l3,l5,_,rfl,hcl',T'.hasType FB.hasBase,Z,hxe _ _ (CG hs hex hfr U mk (q c o nd) ⟨C,rfl⟩)⟩
  |_=>exact .elim y
end
section
variable{X:Cx}{vS:List (xA×Obj)}{σ:St}{H H':Hp}{s s':xH}{B h'':Heap}{ea:xA}{cls:xL}{od:Option xA}{E:XK}{fl:xL}
def C1(I:Inv X vS σ H s)(v:s'.os=s.os)(h:AllBare s'.gens)(un:Un (PH X.stack) [] H H' s.heap s'.heap)(OB:VG X.prog X.w H' s'.heap)
  (N:∀b o,s.heap.get? b=u4 o->H b=u5->b∉PH X.stack->B.get? b=u4 o) (A:∀b,H' b≠u5->∃o,B.get? b=u4 o) (M:B.get? ea=u5) (st:B.StaysIn s'.heap) (l:s.heap.get? ea=u5)
  (n:NG B X.stack ea cls od fl s'.heap g):∃c vs,g.get? ea=u4 c/\c.cls=cls/\c.dict=od/\c.data=.fields vs/\H' ea=u5/\Inv X vS σ (upd H' ea (.ND c (.own 0))) {s' with heap:=g}:=by
 obtain⟨c,vs,T,oT,ts,r,⟨O,P⟩,p,_⟩:=n.tr;have e:H' ea=u5:=by
  cases z:H' ea with
  |none=>rfl
  |some u=>
   obtain⟨o,k⟩:=A ea (by rw[z];simp);rw[M]at k;cases k
 have d:∀b,b≠ea->upd H' ea (.ND c (.own 0)) b=H' b:=λb k=>by unfold upd;rw[if_neg k]
 have Q:∀b o,s.heap.get? b=u4 o->b≠ea:=λb o k z=>by rw[z,l]at k;cases k
 refine⟨c,vs,r,O,P,p,e,I.NY (ch:=[]) v ⟨λb o q f i _=>n.st b o (N b o q f i),λb o q f i _=>?_,λb o q f y=>?_,λb o q y=>?_,λb F q=>?_,λb o u q=>?_,λb W q=>?_⟩ (λb K z=>?_) h λb z=>absurd z (by simp)⟩
 .obtain⟨sl,k⟩:=un.slot b o q f i (by simp);obtain⟨_,o2,C,L⟩:=I.stack.mem i;rw[q]at C;cases C;obtain⟨t,Z⟩:=n.up b _ k L;exact⟨t,Z⟩
 .rw[d b (Q b o q)];exact un.free b o q f y
 .obtain⟨Y,S⟩:=un.there b o q y;exact n.th b Y S
 .have:=un.UJ b F q;rw[d b (λz=>by rw[z,e]at this;cases this)];exact this
 .have:=un.OJ b o u q;rw[d b (λz=>by rw[z,e]at this;cases this)];exact this
 .obtain⟨m,this⟩:=un.VJ b W q;exact⟨m,by rw[d b (λz=>by rw[z,e]at this;cases this)];exact this⟩
 by_cases J:b=ea
 .subst J;have U:K=.ND c (.own 0):=by unfold upd at z;rw[if_pos rfl]at z;exact(Option.some.inj z).symm
  subst U;exact⟨r,c,r⟩
 .rw[d b J]at z;refine((fO OB A st n.st) b K z).UI (λ_ _ _ k=>k) (λx k=>?_) λx F k=>?_
  .rw[d x (λj=>by rw[j,e]at k;cases k)];exact k
  rw[d x (λj=>by rw[j,e]at k;cases k)];exact k
def f?(k:X.stack=X.env::X.outer)(l:X.env.frame=u4 X.env.locals)(I:Inv X vS σ H s)(h:VL X.prog X.w X.stack H s E e s')
  (q:∀(d:xA)(C:xL)(od:Option xA)(H':Hp)(c:Obj)(vs:Array xL)(b:Heap),e=.ref d->b.get? d=u4 c->c.cls=C->c.dict=od->c.data=.fields vs->E C od H'->H' d=u5->Inv X vS σ (upd H' d (.ND c (.own 0))) {s' with heap:=b}->
   (∃B:Heap,QZ b B d C od .none)->(∃L,C=.ref L)->Q () {s' with heap:=b}):
  vk (vY X.prog X.w) X.A (noteFrame e X.env) (λ_ x=>vk (vY X.prog X.w) X.A (setFlight e u5) Q E' x) E' s':=by
 obtain⟨d,cls,od,H',B,rfl,M,g,un,OB,a,v,j,y,o⟩:=h;have p:=a.fr;rw[k]at p;refine fN (by rw[I.ok.frames,k]) p l a.tr a.st a.eb λN i=>?_
 refine Yv i.fr i.tr i.st λt r=>?_
 have n:=i.trans r;rw[<-k]at n;obtain⟨c,vs,F,z,K,m,u,J⟩:=C1 I M g un OB v a.al a.eb a.st j n;exact q d cls od H' c vs t rfl F z K m y u J ⟨B,n.tr⟩ o
end
section
variable{M:Model}{A:xB}{E:xL->xH->Prop}{h:Heap}{g:Array GenState}{d:Drawn}{t:Nat}{os:OsState}
def C3
  (j:h.get? C=u4 (excClassObj nm q C N bs bm WX sn sub ab col dd k0 k1 k2 k3 k5 newId)) (i:h.get? W=u4 (excClassObj nm' q' W N' bs' P? hdct' sn' e? ab' col' Pp l0 l1 l2 l3 l5 newId')) (n:h.get? e=u4 oe) (m:oe.cls=.ref C)
  (l:P?.contains (.type "BaseException")=u6) (c:(Value.ref C::bm).contains (.ref W)=b) (k:Q b ⟨h,g,d,t,os⟩):vk M A (excMatches (.ref e) (.ref W)) Q E ⟨h,g,d,t,os⟩:=by
 have a:(.ref W::P?).contains (.type "BaseException")=u6:=by rw[List.contains_cons,l,Bool.or_true]
 have f:=tc_notTuple;unfold excMatches
 repeat (first|(with_reducible refine wpAny_loadPart_at n ?_;rw[m])|with_reducible refine wpAny_loadPart_at i ?_|(with_reducible refine wpAny_isSubtype_exc i ?_;rw[a])|(with_reducible refine wpAny_isSubtype_exc j ?_;rw[c])|wp_step)
 cases b<;>(wp_walk;exact k)
def C4(x:QZ s.heap B e cls od .none)(q:∀h',(∀b o,s.heap.get? b=u4 o->h'.get? b=u4 o)->Q () {s with heap:=h'}):vk M A (setFlight (.ref e) u5) Q E s:=by
 obtain⟨I,F,T,r,l,w,_,u,n,⟨H,v⟩,f,m,j⟩:=x;unfold setFlight;refine vB (vE w u n ?_);rw[if_pos (by simp)];refine wpAny_setField f m (qz.mp j).1 (q _ λb o k=>?_);by_cases z:b=T
 .subst z;rw[f]at k;cases k;rw[q8 _ f (Obj.isFreed_of_fields (Obj.data_mapFields m _))];obtain⟨c,C,p,y⟩:=r;obtain rfl:p=.fields l:=m;unfold Obj.mapFields;dsimp only
  congr 2
  have:l.setIfInBounds 3 Value.none=l:=by
   refine Array.ext_getElem? λi=>?_
   rw[Array.getElem?_setIfInBounds];split
   .rename_i z;subst z;rw[if_pos (qz.mp j).1,j]
   rfl
  exact congrArg _ this
 rw[qA _ _ (.symm z)];exact k
end
section
variable{X:Cx}{vS:List (xA×Obj)}{σ:St}{H:Hp}{s:xH}
end
noncomputable def N8(X:Cx)(ea:xA):Cx:={X with A:=X.A.mark (u4 (.ref ea)),calm:=u7,xe:=λ_ _=>False}
section
variable{X:Cx}{vS:List (xA×Obj)}{σ:St}{H:Hp}{s:xH}{ea:xA}
def fS(I:Inv X vS σ H s):Inv (N8 X ea) vS σ H s:=
 ⟨⟨I.ok.mod,I.ok.kind,I.ok.glob,I.ok.blt,I.ok.above,I.ok.inj,I.ok.has,I.ok.MY,λz=>absurd z (by simp[N8]),I.ok.frames,I.ok.M0,I.ok.Pf,I.ok.bs,I.ok.RT,I.ok.PN,I.ok.QN,I.ok.TH,I.ok.QV⟩,I.os,I.bare,I.base,I.loc,I.cell,I.free,I.Gn,I.pin,I.OB,I.len⟩
def fT{calm:X.calm=u6}(b:X.A.handled=u5)(I:Inv (N8 X ea) vS σ H s):Inv X vS σ H s:=
 ⟨⟨I.ok.mod,I.ok.kind,I.ok.glob,I.ok.blt,I.ok.above,I.ok.inj,I.ok.has,I.ok.MY,λ_=>b,I.ok.frames,I.ok.M0,I.ok.Pf,I.ok.bs,I.ok.RT,I.ok.PN,I.ok.QN,I.ok.TH,I.ok.QV⟩,I.os,I.bare,I.base,I.loc,I.cell,I.free,I.Gn,I.pin,I.OB,I.len⟩
end
section
variable{X:Cx}{f W:xA}{fn x n:Str}{fp cp ep np hp pos:Pos}{a:xC}{es:List xC}{ta:TA}{sp:Sp}{k i:Nat}{fd:xD}{ps:List Str}{b₀:xI}{QK:List xI}{th:TS}
def takes(K:za)(C W:xA):Bool:=Hx K C&&Hx K W&&match K.lookup C with
 |some ⟨_,_,.cls cd,_⟩=>cd.mro.contains (.ref W)
 |_=>u7
end
def C5:∀n:Nat,n<1000->b? (n:Int):=by
 have h:∀n:Fin 1000,((n.1:Int).natAbs.log2<1920/\(Str.ofString (toString (n.1:Int))).length<=1000):=by decide +kernel
 exact λn b=>h ⟨n,b⟩
def Nc(c f:Str)(t:DA):DS:=λS G=>match t S G with
 |.ok ds G1=>(match ds with
  |[.int i]=>if 0<=i/\i<1000 then .err ⟨c,[(f,.int i)]⟩ G1 else .bad
  |[.WA]=>.err ⟨c,[(f,.WA)]⟩ G1
  |_=>.bad)
 |.err x G1=>.err x G1
 |.bad=>.bad
section
variable{X:Cx}{E:XK}{C fI:xA}{c f v:Str}{np WD pos:Pos}{a:xC}{t:DA}{k:Nat}{fd:xD}
def C6(N:zb X.K vK c=u4 (u4 (.ref C)))(g:X.calm=u6)(U:X.stack=X.env::X.outer)(I:X.ex=[])(y:X.env.frame=u4 X.env.locals)(p:∀e s,Lq X E e s->X.xe e s)
  (Q:VU X.K C f) (O:Lp X.K C fI=u6) (u:∃o,X.K.lookup fI=u4 o/\o.cls=.type "function") (F:QD X.prog X.w X.K X.mg X.base RO k fI fd ["self",v] (d? C f)) (hr:NC (k+1) X.A) (Y:Binds X.K fd ["self",v] [])
  (T:Gl X c) (hm:X.mg c=u4 (.ref C)) (hk:ze X.K (.ref C)=u6) (ha:QA X E [a] t) (J:(c==("__debug__":Str))=u7:=by decide) (m:notStar a=u6:=by rfl):
  QS X E (.Raise (u4 (.Call (.Name c np) [a] [] WD)) u5 pos) (Nc c f t):=
 (C0 g U I y p Q O u F hr Y T hm hk ha J (Ij a [] X.env m) rfl).mono λW σ H h=>by
  obtain⟨w,S,G,hk,rfl,sm,r,h⟩:=h;refine⟨w,S,G,hk,rfl,sm,r,?_⟩;unfold Nc at h;cases M:t S G with
  | ok ds P=>
   rw[M]at h;dsimp only at h;split at h
   .rename_i i;split at h
    .rename_i O;intro b Z x B q;obtain⟨z,L,rfl,l,n⟩:=q;obtain rfl:z=.int i:=l;obtain rfl:L=[]:=n;refine⟨.int i,rfl,.inl ⟨i,rfl,?_⟩,λd o j=>?_⟩
     .have:=C5 i.toNat (by lia);rwa[show((i.toNat:Nat):Int)=i by lia]at this
     .refine h.2 (b.put d (.ND o (.xd [(f,.int i)]))) C (u4 d) (x.trans (.put j)) (B.put j) ?_ (.inr ⟨d,o,[(f,.int i)],rfl,?_,rfl,⟨.int i,[],rfl,rfl,rfl⟩⟩)
      .show zb b.K _ _=_;rw[x.k,hk];exact N
      .show upd b.H d _ d=_;unfold upd;rw[if_pos rfl]
    exact h.elim
   .intro b Z x B q;obtain⟨z,L,rfl,l,n⟩:=q;obtain rfl:z=.WA:=l;obtain rfl:L=[]:=n;refine⟨.WA,rfl,.inr rfl,λd o j=>?_⟩;refine h.2 (b.put d (.ND o (.xd [(f,.WA)]))) C (u4 d) (x.trans (.put j)) (B.put j) ?_ (.inr ⟨d,o,[(f,.WA)],rfl,?_,rfl,⟨.WA,[],rfl,rfl,rfl⟩⟩)
    .show zb b.K _ _=_;rw[x.k,hk];exact N
    .show upd b.H d _ d=_;unfold upd;rw[if_pos rfl]
   exact h.elim
  |_=>rw[M]at h;exact h
end
section
variable{X:Cx}{E:XK}{f W:xA}{fn x n:Str}{fp cp ep np hp pos:Pos}{a:xC}{es:List xC}{t:DA}{F:List D->DH->R D}{k i:Nat}{fd:xD}{ps:List Str}{b₀:xI}{QK:List xI}{hb:DS}{ws:List Str}
end
def C7{P:xF}{w:xM}{K:za}{mg:Str->Option xL}{base:Heap}{x:Str}{st:xI}{f:xA}{fd:xD}{N ps:List Str}{k:Nat}{b:DS}(F:YS K x qual st f fd)(S:UC N ps (Bc st))
  (XU:∀(XH:xL)(A:xB)(outer:List Env)(s:xH)(H:Hp)(E:XK),NC k (A.deeper (envOfC qual (Bc st) s.heap.objs.size f XH))->OP (Gd (VL P w) P w K mg base N qual (Bc st) f XH A outer s H E) E (Dg st) b):
  QD P w K mg base (VL P w) (k+1) f fd ps (Mb K (Al ps.length (N.length-ps.length) b)):=by
 obtain⟨o1,o2,o4,o5,o6,o7,c,o8,o9,rfl,lk,hc⟩:=F.ex;exact Zh lk hc S (λ_ _ _ _=>W3) λA o s H n Q E z h=>⟨_,XU c A o s H E z,Zt h⟩
def C8{P:xF}{w:xM}{K:za}{d:Str->Option xL}{b:Heap}{N:List Str}{a:xG}{f:xA}{cd:xL}{A:xB}{outer:List Env}{s:xH}{H:Hp}{E:XK}:
  Passes (VL P w) (Gd (VL P w) P w K d b N qual a f cd A outer s H E) E:=λc i g k e j I h=>CD rfl rfl rfl I h
def ownX{P:xF}{w:xM}{K:za}{c:Str->Option xL}{b:Heap}{N:List Str}{a:xG}{f:xA}{cd:xL}{A:xB}{outer:List Env}{s:xH}{H:Hp}{E:XK}:
  PassesOwn (vY P w) (Gd (VL P w) P w K c b N qual a f cd A outer s H E).A (Gd (VL P w) P w K c b N qual a f cd A outer s H E).env (Gd (VL P w) P w K c b N qual a f cd A outer s H E).xe:=.leaving
section
variable{X:Cx}{E:XK}{x:Str}{p pos:Pos}{e:xC}{es:List xC}{tr:DA}
def C9(j:QD X.prog X.w X.K X.mg X.base (VL X.prog X.w) k f fd ps (Mb X.K F))(u:NC k X.A)(l:Gl X x)(o:X.mg x=u4 (.ref f))(hk:ze X.K (.ref f)=u6)(m:Binds X.K fd ps [])
  (z:Passes (VL X.prog X.w) X E) (n:QA X E (e::es) tr) (d:(x==("__debug__":Str))=u7:=by decide) (y:notStar e=u6:=by rfl) (c:es.all notStar=u6:=by rfl):QE X E (.Call (.Name x p) (e::es) [] pos) (RA F tr):=
 (bu j u l o hk m .nil z n d (Ij e es X.env y) (M8 pos X.env es c)).mono λB H Q h=>by
  replace h:=Vz h;obtain⟨a,S,G,hk,rfl,s,r,h⟩:=h
  refine⟨a,S,G,hk,rfl,s,r,h.imp ?_⟩;rintro C _ ⟨b,g,t,hk,rfl,v,q,i⟩;exact⟨b,g,t,hk,rfl,v,by rw[qL];exact q,i⟩
end
structure WL (k:Nat) (A:xB):Prop where
 dp:A.depth+3*k+5<recursionLimit
 un:A.units+16*k+200<cLine
def WL.of(r:NC k A):WL k A:=⟨r.dp,r.un⟩
def WL.held(r:WL k A):WL k (A.mark v):=⟨r.dp,r.un⟩
section
variable{X:Cx}{E:XK}{x:Str}{p pos:Pos}{e:xC}{es:List xC}{tr:DA}
end
structure g? (K:za) (C:xA):Prop where
 ga:zc K (.ref C) "__getattribute__"=u4 (u4 (.builtin "BaseException.__getattribute__"))
 gn:zc K (.ref C) "__getattr__"=u4 u5
 sb:PySem.W.subIn K (.ref C) (.type "BaseException")=u4 u6
 hd:qb K C=u6
 cl:zc K (.ref C) "__class__"=u4 (u4 (.builtin "object.__class__"))
 cg:ve K (.builtin "object.__class__") "__get__"=u4 (u4 (.builtin "getset_descriptor.__get__"))
 ct:PySem.W.takesIn K (.builtin "object.__class__")=u4 u6
 mo:PySem.W.mroIn K C (.type "object")=u4 u6
 kc:PySem.W.kitCls K (.ref C) (.ref C)=u4 u6
 ec:Hx K C=u6
section
variable{prog:xF}{w:xM}{A:xB}{E:xL->xH->Prop}{s:xH}{K:za}{x C:xA}{ox:Obj}{od:Option Obj}{name:Str}{tk:Tok}
end
section
variable{X:Cx}{E:XK}{vS:List (xA×Obj)}{σ:St}{H:Hp}{s:xH}
variable{e ce:xC}{ces:List xC}{t:DE}{tb:List (Str×Bool)}{cv:V}{cu:xL}{cvs:List V}{cus:List xL}{p pos tp:Pos}
variable{f:Str}{cs:List Str}
end
end _D
namespace _D
open PySem PySem.Spec PySem.W _L
open PyProof.Rows hiding St
def Rq{r:Option (Option xL)}{n:String}(h:SD r n=u6):r=u4 (u4 (.builtin n)):=by
 unfold SD at h;split at h
 .rw[beq_iff_eq.mp h]
 cases h
def Us{r:Option Bool}{b:Bool}(h:Mt r b=u6):r=u4 b:=by
 unfold Mt at h;split at h
 .rw[beq_iff_eq.mp h]
 cases h
def fU{d:Type}{r:Option (Option d)}(h:V7 r=u6):r=u4 u5:=by
 unfold V7 at h;split at h
 .rfl
 cases h
structure ET (K:vO) (mg:Str->Option xL) (c f:Str):Prop where
 N:nsIn K vK c=u4 (u4 (.ref (Ac K c)))
 g:mg c=u4 (.ref (Ac K c))
 k:keepIn K (.ref (Ac K c))=u6
 X:VU K (Ac K c) f
 i:Lp K (Ac K c) (Dq K (Ac K c) "__init__")=u6
 o:∃o,K.lookup (Dq K (Ac K c) "__init__")=u4 o/\o.cls=.type "function"
 G:g? K (Ac K c)
 no:UE K (Ac K c) f
def Cb{K:vO}{a:xA}(h:aB K a=u6):∃o,K.lookup a=u4 o/\o.cls=.type "function":=by
 unfold aB at h;split at h
 .rename_i t _ _ _ e;exact⟨_,e,by rw[beq_iff_eq.mp h]⟩
 cases h
def Cc{K:vO}{h:Heap}{l:Str->Option xL}{c f:Str}(X:K.In h)(G:h.Ns vK l)(s:aC c f K=u6):ET K l c f:=by simp[aC,z7]at s;obtain⟨⟨⟨⟨⟨⟨g,r⟩,⟨⟨⟨m,H⟩,w⟩,L⟩,i⟩,y⟩,A⟩,⟨⟨⟨⟨⟨⟨u,M⟩,B⟩,J⟩,z⟩,I⟩,o⟩,C⟩,d⟩:=s;exact⟨Lw g,mg_of X G (Lw g),r,⟨m,e9 H,w,fU L,i⟩,y,Cb A,⟨Rq u,fU M,Us B,i,Rq J,Rq z,Us I,Us o,Us C,m⟩,e8 d⟩
def Ch(h:Xv r n=u6):r=u4 (.val (.builtin n)):=by
 unfold Xv at h;split at h
 .rw[beq_iff_eq.mp h]
 cases h
def Cn{K:vO}{h:Heap}{d:Str->Option xL}{x:Str}(X:K.In h)(G:h.Ns vK d)(s:Wz x K=u6):WU K d x (Ac K x):=by simp[Wz,z7]at s;obtain⟨⟨⟨g,i⟩,l⟩,m⟩:=s;exact⟨mg_of X G (Lw g),Rq i,l,Ch m⟩
def Co{K:vO}{h:Heap}{d:Str->Option xL}{x:Str}(X:K.In h)(G:h.Ns vK d)(s:UW K x=u6):d x=u4 (.ref (Ac K x)):=mg_of X G (Lw s)
abbrev FnX(P:xF)(w:xM)(K:vO)(mg:Str->Option xL)(base:Heap)(k:Nat)(n:Str)(ps:List Str)(F:List D->DH->R D):Prop:=QD P w K mg base (VL P w) k (Ac K n) (Ak K (Ac K n)) ps (Mb K F)
section
variable{X:Cx}{E:XK}{c x n f v:Str}{e a:xC}{es:List xC}{t:DE}{tr:DA}{p q pos WD np:Pos}{b:Bool}{F:List D->DH->R D}{k j:Nat}{ps:List Str}{st:xI}
def Ct(T:ET X.K X.mg c f)(C:QD X.prog X.w X.K X.mg X.base RO k (Dq X.K (Ac X.K c) "__init__") (Ak X.K (Dq X.K (Ac X.K c) "__init__")) ["self",v] (d? (Ac X.K c) f))(I:Binds X.K (Ak X.K (Dq X.K (Ac X.K c) "__init__")) ["self",v] [])(L:NC j X.A)(J:QA X E [a] tr)
  (y:∀e s,Lq X E e s->X.xe e s:=by exact λ_ _ h=>h) (z:Nat.ble (k+1) j=u6:=by rfl) (d:X.calm=u6:=by rfl) (H:X.stack=X.env::X.outer:=by rfl) (m:X.ex=[]:=by rfl) (r:X.env.frame=u4 X.env.locals:=by rfl) (B:Gl X c:=by rfl) (u:(c==("__debug__":Str))=u7:=by decide) (l:notStar a=u6:=by rfl):
  QS X E (.Raise (u4 (.Call (.Name c np) [a] [] WD)) u5 pos) (Nc c f tr):=
 C6 T.N d H m r y T.X T.i T.o C (L.mono (jI z)) I B T.g T.k J u l
end
def SR.nr:SR->SR
 |.err _ _=>.bad
 |r=>r
def XO(t:DS):DS:=λS G=>(t S G).nr
@[simp]theorem ev_sNr:XO t S G=(t S G).nr:=id rfl
@[simp]theorem nr_nx:(SR.nx S G).nr=.nx S G:=id rfl
@[simp]theorem nr_rt:(SR.rt d G).nr=.rt d G:=id rfl
theorem DC{K:vO}{E:XK}{t:DS}{W:Ends}{e:St}{H:Hp}(h:lS K E (XO t) W e H):lS K E0 t W e H:=by
 obtain⟨a,S,G,hk,rfl,f,r,h⟩:=h;refine⟨a,S,G,hk,rfl,f,r,?_⟩;unfold XO at h
 revert h
 cases t S G with
 |err x b=>exact λh=>h.elim
 |_=>exact λh=>h
def DD(h:QS X E0 s t):QS X E s (XO t):=.mono h λ_ _ _ z=>DC z
end _D
namespace _D
open PySem PySem.Spec _L
open PyProof.Rows hiding St
def Ly(G:DH)(d:D):List D->Option (List Bool)
 |[]=>u4 []
 |x::r=>match VN 30 G x d,Ly G d r with
  |some k,u4 ks=>u4 (k::ks)
  |_,_=>u5
def Q?(d e:D)(G:DH):Option Bool:=match Bd e G with
 |some xs=>(Ly G d xs).map λks=>ks.any id
 |none=>u5
def Lh(d e:D)(G:DH):R D:=match Q? d e G with
 |some k=>.ok (.bl (!k)) G
 |none=>.bad
section
variable{X:Cx}{E:XK}{vS:List (xA×Obj)}{σ:St}{s:xH}
theorem aj(I:Inv X vS σ a.H s)(hk:a.K=X.K)(j:VB a G)(e:A.units+30<cLine)(c:XB a d x)(g:RelV x v):
  ∀{xs:List D}{vs:List V}{VA:List xL}{ks:List Bool},OA a xs vs->Vals vs VA->Ly G d xs=u4 ks->ks.length=VA.length/\∀(i:Nat)(u:xL)(k:Bool),VA[i]?=u4 u->ks[i]?=u4 k->SeqAt.EqAt A s u v k
 |[],vs,VA,ks,r,q,h=>by obtain rfl:vs=[]:=r;cases q;cases h;exact⟨rfl,λi u k h=>by simp at h⟩
 | y::L,vs,VA,ks,r,q,h=>by
  obtain⟨w,J,rfl,t,o⟩:=r;cases q with
  | cons p z=>
   unfold Ly at h;split at h
   .rename_i k F l n;cases h;obtain⟨m,C⟩:=aj I hk j e c g o z n;refine⟨by simp[m],λi u B f b=>?_⟩;cases i with
    |zero=>
     cases f;cases b;exact(Qs I hk j 30 e t c p g l).1
    |succ i=>exact C i u B (by simpa using f) (by simpa using b)
   cases h
open Classical in
def fV{A:xB}{v:xL}{VA:List xL}{ks:List Bool}(t:ks.length=VA.length)(f:∀(i:Nat)(u:xL)(k:Bool),VA[i]?=u4 u->ks[i]?=u4 k->SeqAt.EqAt A s u v k):
  ∃e:xL->Bool,(∀y,y∈VA.toArray->SeqAt.EqAt A s y v (e y))/\VA.toArray.any e=ks.any id:=by
 refine⟨λu=>decide (∃i:Nat,VA[i]?=u4 u/\ks[i]?=u4 u6),λy o=>?_,?_⟩
 .obtain⟨j,c,e⟩:=qj (by simpa using o:y∈VA);have a:j<ks.length:=by lia
  have g:VA[j]?=u4 y:=by rw[zX c,e]
  have l:ks[j]?=u4 ks[j]:=zX a;show SeqAt.EqAt A s y v (decide (∃i:Nat,VA[i]?=u4 y/\ks[i]?=u4 u6));by_cases b:∃i:Nat,VA[i]?=u4 y/\ks[i]?=u4 u6
  .rw[decide_eq_true b];obtain⟨i,r,d⟩:=b;exact f i y u6 r d
  .rw[decide_eq_false b];cases hk:ks[j]with
   |true=>exact absurd ⟨j,g,by rw[l,hk]⟩ b
   |false=>exact f j y u7 g (by rw[l,hk])
 .rw[Bool.eq_iff_iff];constructor
  .intro h;have p:VA.any (λu=>decide (∃i:Nat,VA[i]?=u4 u/\ks[i]?=u4 u6))=u6:=by simpa using h
   obtain⟨u,_,m⟩:=jC.mp p;obtain⟨i,_,d⟩:=of_decide_eq_true m;exact jC.mpr ⟨u6,jW d,rfl⟩
  .intro h;obtain⟨k,hk,e⟩:=jC.mp h;obtain⟨j,c,q⟩:=qj hk;have a:j<VA.length:=by lia
   have n:k=u6:=e;have:VA.any (λu=>decide (∃i:Nat,VA[i]?=u4 u/\ks[i]?=u4 u6))=u6:=jC.mpr ⟨VA[j],qW a,decide_eq_true ⟨j,zX a,by rw[zX c,q,n]⟩⟩;simpa using this
def DF(i:VB a G)(j:XB a e y)(h:Q? d e G=u4 k):∃xs ks p vs,y=.ref p/\(NH a.K a.H p vs\/RH a.K a.H p vs)/\OA a xs vs/\Ly G d xs=u4 ks/\k=ks.any id:=by
 unfold Q? at h;split at h
 .rename_i xs b;rw[zG]at h;obtain⟨ks,f,g⟩:=h;obtain⟨p,vs,c,q,r⟩:=Hy i j b;exact⟨xs,ks,p,vs,c,q,r,f,g.symm⟩
 cases h
def DJ(S:X.A.units+64<cLine):WC X (vJ .NotIn) (OH X.K E Lh):=by
 intro g s O H x y v u Q I B P ⟨a,G,d,e,hk,L,i,C,J,q⟩;subst L;unfold Lh at q;split at q
 .rename_i k N;obtain⟨U,F,p,T,rfl,b,r,z,rfl⟩:=DF i J N;cases P;have h:X.A.in1.units+30<cLine:=by show X.A.units+1+30<cLine;lia
  rw[hk]at b;have c:EP X g O Q (.bool (!F.any id)) s:=⟨.bl _,a.H,I,rfl,q a _ (.refl a) i rfl⟩;rcases b with b|b
  .obtain⟨t,o,l,M⟩:=I.list b;obtain⟨n,w⟩:=aj I hk i h C B r o z;obtain⟨f,j,m⟩:=fV n w;exact w6 f l.isList j (m▸c)
  obtain⟨t,o,l,M⟩:=I.tuple b;obtain⟨n,w⟩:=aj I hk i h C B r o z;obtain⟨f,j,m⟩:=fV n w;exact w8 f l j (m▸c)
 exact q.elim
def Ni(o:D)(ds:List D)(G:DH):R D:=match o,ds with
 |.ref i,[.ref j]=>match G[i]?,G[j]? with
  |some (.lst xs),u4 (.lst ys)=>if xs.length+ys.length<=1000000 then .ok .WA (G.set i (.lst (xs++ys)))else .bad
  |_,_=>.bad
 |_,_=>.bad
def DK:SV X "list.extend" (E? X.K E Ni):=rK.mono λx A H Q h=>by
 obtain⟨a,G,d,z,hk,rfl,s,b,r,q⟩:=h;unfold Ni at q;split at q
 .rename_i i j;obtain⟨v,rfl,p⟩:=ZE r;split at q
  .rename_i B y o l;split at q
   .rename_i k;obtain⟨n,c,e⟩:=s.lst o;obtain⟨g,w,f⟩:=s.lst l;obtain⟨t,u⟩:=U9 s b.1 c (e.append f);exact⟨a.m i,a.m j,n,g,b.2,by rw[p.2],c,w,by rw[<-e.length,<-f.length];exact z8 k ZC,q _ .WA t u rfl⟩
   exact q.elim
  exact q.elim
 exact q.elim
end
end _D
namespace _D
open PySem PySem.W PySem.Spec _L
open PyProof.Rows hiding St
structure i? (K:za) (x qual:Str) (st:xI) (f:xA) (fd:xD):Prop where
 ex:∃(oc:xL)(od:Option xA)(dV kV doc pm:xL)(an:Option xA)(XH ct:xL)(Sm:Array (Option xL)),
  fd=qg x qual (Ea st) (Dg st) (Bc st) dV kV doc pm an XH ct/\K.lookup f=u4 ⟨oc,od,.func fd,Sm⟩/\vT K XH qual=u6
structure R? (K:vO) (mg:Str->Option xL) (n:Str) (st:xI) (ps:List Str) (v:Int):Prop where
 F:i? K n n st (Ac K n) (Ak K (Ac K n))
 b:Binds K (Ak K (Ac K n)) ps []
 d:∃t,Binds K (Ak K (Ac K n)) ps [.int v t]
 m:mg n=u4 (.ref (Ac K n))
 k:keepIn K (.ref (Ac K n))=u6
def DL{P:xF}{w:xM}{K:za}{mg:Str->Option xL}{base:Heap}{x qual:Str}{st:xI}{f:xA}{fd:xD}{N ps:List Str}{k:Nat}{b:DS}(F:i? K x qual st f fd)(S:UC N ps (Bc st))
  (XU:∀(XH:xL)(A:xB)(outer:List Env)(s:xH)(H:Hp)(E:XK),NC k (A.deeper (envOfC qual (Bc st) s.heap.objs.size f XH))->OP (Gd (VL P w) P w K mg base N qual (Bc st) f XH A outer s H E) E (Dg st) b):
  QD P w K mg base (VL P w) (k+1) f fd ps (Mb K (Al ps.length (N.length-ps.length) b)):=by
 obtain⟨o1,o2,o3,o4,o5,o6,o7,c,o8,o9,rfl,lk,hc⟩:=F.ex;exact Zh lk hc S (λ_ _ _ _=>W3) λA o s H n Q E z h=>⟨_,XU c A o s H E z,Zt h⟩
section
variable{X:Cx}{E:XK}{x:Str}{p pos:Pos}{e:xC}{es:List xC}{tr:DA}
end
section
variable{X:Cx}{E:XK}{n:Str}{e:xC}{es:List xC}{tr:DA}{p pos:Pos}{F:List D->DH->R D}{k j:Nat}{ps:List Str}{st:xI}{v:Int}
end
section
variable{X:Cx}{E:XK}{c x n f v:Str}{e a:xC}{es:List xC}{t:DE}{tr:DA}{p q pos WD np:Pos}{b:Bool}{F:List D->DH->R D}{k j:Nat}{ps:List Str}{st:xI}
end
def DM{K:vO}{h:Heap}{J:Str->Option xL}{n:Str}{st:xI}{ps:List Str}{v:Int}(X:K.In h)(G:h.Ns vK J)(s:Ask.XI K (.fd n st v))
  (M:∀(T:xA)(kV d C:xL)(z:Option xA)(g u:xL)(us:List xL)(t:Tok),us.length=ps.length->∃k,bindArgs (fnOf n n (Ea st) (Dg st) (Bc st) (.ref T) kV d C z g u) ⟨us,[]⟩=seqItems? (.ref T) >>=k/\k (u4 #[.int v t])=pure (ps.zip us))
  (O:∀(T:xA)(kV d C:xL)(z:Option xA)(g u:xL)(us:List xL)(t:Tok),us.length+1=ps.length->∃k,bindArgs (fnOf n n (Ea st) (Dg st) (Bc st) (.ref T) kV d C z g u) ⟨us,[]⟩=seqItems? (.ref T) >>=k/\k (u4 #[.int v t])=pure (ps.zip (us++[.int v t]))):R? K J n st ps v:=by
 obtain⟨N,i,P,L,T,o,t,m,y,I,H⟩:=s;have r:Ak K (Ac K n)=fnOf n n (Ea st) (Dg st) (Bc st) (.ref T) (Ak K (Ac K n)).kwdefaults (Ak K (Ac K n)).doc (Ak K (Ac K n)).pyModule (Ak K (Ac K n)).annotations (Ak K (Ac K n)).code (Ak K (Ac K n)).closureTuple:=by
  rw[<-y]
  conv=>lhs;unfold Ak Gf;rw[i]
 refine⟨⟨_,_,_,_,_,_,_,_,_,_,by rw[y]at i;exact r,by rw[y,<-r]at i;exact i,P⟩,λs us w l=>?_,⟨t,λs us w l=>?_⟩,mg_of X G N,L⟩
 .rw[qL]at l⊢;rw[r];obtain⟨k,A,B⟩:=M T (Ak K (Ac K n)).kwdefaults (Ak K (Ac K n)).doc (Ak K (Ac K n)).pyModule (Ak K (Ac K n)).annotations (Ak K (Ac K n)).code (Ak K (Ac K n)).closureTuple us t l;exact .of_defaults rfl (w T o I) H A B
 rw[r];obtain⟨k,A,B⟩:=O T (Ak K (Ac K n)).kwdefaults (Ak K (Ac K n)).doc (Ak K (Ac K n)).pyModule (Ak K (Ac K n)).annotations (Ak K (Ac K n)).code (Ak K (Ac K n)).closureTuple us t (by simpa using l);exact .of_defaults rfl (w T o I) H A B
end _D
namespace _D
open PySem PySem.Spec _L
open PyProof.Rows hiding St
noncomputable def Y2(F:List D->DH->R D)(t:DA):DE:=λS G=>match t S G with
 |.ok ds G1=>F ds G1
 |_=>.bad
def QTe(X:Cx)(e:xC)(t:DE):Prop:=∀(vS:List (xA×Obj))(s:xH)(σ:St)(H:Hp)(Q:VK)(E:XK),Inv X vS σ H s->lE X.K E t σ H Q->
 vk (vY X.prog X.w) X.A (eval e X.env) (EP X vS σ Q) (λe s'=>∃H1 s1,Inv X vS σ H1 s1/\VL X.prog X.w X.stack H1 s1 E e s') s
def QTr(X:Cx)(b:List xI)(t:DS):Prop:=∀(vS:List (xA×Obj))(s:xH)(σ:St)(H:Hp)(Nx:St->Hp->Prop)(E:XK),Inv X vS σ H s->lS X.K E t {nx:=Nx,rt:=λ_ _=>False} σ H->
 vk (vY X.prog X.w) X.A (execs b X.env) (λfl s'=>fl=.next/\∃σ' H',Inv X vS σ' H' s'/\Nx σ' H') (λe s'=>∃H1 s1,Inv X vS σ H1 s1/\VL X.prog X.w X.stack H1 s1 E e s') s
section
variable{X:Cx}{f:xA}{fn:Str}{fp cp ep pos:Pos}{a e:xC}{es:List xC}{t:DA}{te:DE}{F:List D->DH->R D}{k:Nat}{fd:xD}{ps:List Str}
theorem DN(U:QD X.prog X.w X.K X.mg X.base (VL X.prog X.w) k f fd ps spx)(hr:NC k X.A)(C:Vals QJ dus)(B:Binds X.K fd ps dus)(Y:Gl X fn)(hm:X.mg fn=u4 (.ref f))(hk:ze X.K (.ref f)=u6)(ha:QA X.OY E0 (a::es) t)
  (hF:∀(w:Wd)(G:DH)(p:List D)(vs:List V)(Q:VK)(E:XK),w.K=X.K->VB w G->OA w p vs->out E w (F p G) Q->spx (vs++QJ) w.H Q E)
  (J:(fn==("__debug__":Str))=u7) (he:vx (a::es) X.env=(u7,eval a X.env)::vx es X.env) (L:(xP cp (vx es X.env)).any (·.1)=u7):
  QTe X (.Call (.Name fn fp) (a::es) [] cp) (Y2 F t):=by
 intro l s T H Z E I h;have h':lA X.K E0 t T H λvs o=>spx (vs++QJ) o Z E:=by
  obtain⟨w,S,G,d,rfl,sm,r,h⟩:=h;refine⟨w,S,G,d,rfl,sm,r,?_⟩;unfold Y2 at h;cases M:t S G with
  |err x N=>rw[M]at h;exact h.elim
  |bad=>rw[M]at h;exact h
  |ok p N=>
   rw[M]at h;exact λb vs y j q=>hF b N p vs _ E (y.k.trans d) j q (out.mono y h)
 refine vA (Li I Y hm ?_ J);refine qf I.ok.mod.ZZ hk (vG (ha cp l s T H _ (I.WJ _) h') (λv j ⟨vs,o,P,r,q⟩=>⟨P.WG,?_⟩) λ_ _ z=>z.elim) he L;have c:=P.UH;have O:=r.append C;have m:(v++dus).length=ps.length:=by rw[<-O.length];exact U.len _ _ _ _ q
 refine wpAny_call (vZ (U.run X.A X.stack j o ⟨v,[]⟩ (v++dus) (vs++QJ) _ E hr c.NX (B j v c.WG m) O q) λr s' g=>?_);cases r with
 |ok fl=>
  cases fl with
  |ret u=>exact c.after g
  |_=>exact .elim g
 |error e=>exact⟨o,j,c,g⟩
def DP(i:Nat){x:Str}{c:Pos}(L:X.N.Nodup)(C:QTe X e te)(P:X.N[i]?=u4 x:=by rfl)(U:Loc X.env.scope x:=by first|exact Or.inl rfl|exact Or.inr rfl)(A:swapsWith e (u4 (.Name x c)) pos.line X.env=pure u7:=by rfl)
  (p:X.fn x=u6\/X.env.scope.names.lookup x=u4 .local:=by first|exact .inl rfl|exact .inr rfl|assumption):QTr X [.Assign [.Name x c] e pos] (PD te (gV i)):=by
 intro g s l H B E I h;obtain⟨w,S,G,j,rfl,T,r,h⟩:=h;have O:lE X.K E te l w.H λv J=>B (l.set i (u4 v)) J:=by refine⟨w,S,G,j,rfl,T,r,(G8 h).imp ?_⟩;rintro v _ ⟨b,d,Y,rfl,x,m,q,_,z⟩;exact z b _ (.refl b) m ((r.mono x).set i q)
 exact wpAny_execs_cons (wpAny_Assign_Name (QB (C g s l w.H _ E I O) λu m ⟨v,o,y,M,q⟩=>Ss y L P U M (λZ Q=>wpAny_execs_nil ⟨rfl,_,o,Q,q⟩) p) A)
end
abbrev Y3:=Xn->RD->DH->SR
def QH(X:Cx)(hs:List ExceptHandler)(f:Y3):Prop:=∀(vS:List (xA×Obj))(s:xH)(σ:St)(H':Hp)(W:Ends)(ea C:xA)(oe:Obj)(vs:Array xL)(x:Xn)(w:Wd)(S:RD)(G:DH)(E:XK),
 s.heap.get? ea=u4 oe->oe.cls=.ref C->oe.data=.fields vs->H' ea=u5->Inv X vS σ (upd H' ea (.ND oe (.own 0))) s->(∃B:Heap,QZ s.heap B ea (.ref C) oe.dict .none)->
 w.K=X.K->w.H=H'->VB w G->XC w S σ->zb w.K vK x.cls=u4 (u4 (.ref C))->XD w oe.dict x.fs->Br E w (f x S G) W->
 vk (vY X.prog X.w) X.A (handleBy (.ref ea) X.env hs) (SP X vS W) X.xe s
def fW:Y3:=λ_ _ _=>.bad
def DQ:QH X [] fW:=λb s d c W g C l j x w S G E _ _ _ _ _ _ _ _ _ _ _ _ h=>h.elim
def fX{X:Cx}{vS:List (xA×Obj)}{Y:St}{H:Hp}{s:xH}{m C W:xA}{u:Obj}{x:Str}{I hp:Pos}{b:Bool}{R:Result->xH->Prop}(ho:s.heap.get? m=u4 u)(O:u.cls=.ref C)(J:Inv X vS Y H s)(j:Gl X x)(g:X.mg x=u4 (.ref W))(h:(x==("__debug__":Str))=u7)
  (r:Jw X.K C W b=u6) (q:R (.ok (if b then .brk else .next)) s):codeAny (vY X.prog X.w) (X.A.mark (u4 (.ref m))) (.handlers (.ref m) [.ExceptHandler (u4 (.Name x I)) u5 [] hp] X.env) R s:=by
 unfold Jw at r;simp only[z7]at r;obtain⟨⟨t1,Q⟩,p⟩:=r;obtain⟨z,N,nm,qn,bs,sn,sub,ab,Z,dd,k0,k1,k2,k3,k5,d,T,_⟩:=Qw J.WG t1;obtain⟨S,N',nm',qn',L,P,y,M,v,B,l0,l1,l2,l3,l5,c,E,_⟩:=Qw J.WG Q;have o:(.ref C::z).contains (.ref W)=b:=by
  split at p
  .rename_i c0 d0 cd U l;have:=J.WG _ _ l;rw[d]at this;cases this;exact eq_of_beq p
  cases p
 exact codeAny_handlers_test (Li (fS J) j g (C3 d c ho O (E.hasType PySem.F.excBase_ValueError.hasBase) o q) h)
section
variable{X:Cx}{W:xA}{x n:Str}{np hp pos:Pos}{i:Nat}{b₀:xI}{QK:List xI}{hb:DS}{ws ns:List Str}{hs:List ExceptHandler}{f:Y3}
end
def Qx(ws ns:List Str)(hb:DS)(f:Y3):Y3:=λx S G=>if x.cls∈ws then(hb S G).nr else if x.cls∈ns then f x S G else .bad
section
variable{X:Cx}{W:xA}{x:Str}{np hp pos:Pos}{b₀:xI}{QK:List xI}{hb:DS}{ws ns:List Str}{hs:List ExceptHandler}{f:Y3}
def DR(d:X.calm=u6)(P:Gl X x)(M:X.mg x=u4 (.ref W))
  (hws:∀c∈ws,∀C,zb X.K vK c=u4 (u4 (.ref C))->Jw X.K C W u6=u6) (hns:∀c∈ns,∀C,zb X.K vK c=u4 (u4 (.ref C))->Jw X.K C W u7=u6)
  (hh:∀L,OP (N8 X L) E0 (b₀::QK) hb) (hr:QH X hs f) (O:(x==("__debug__":Str))=u7:=by decide):
  QH X (.ExceptHandler (u4 (.Name x np)) u5 (b₀::QK) hp::hs) (Qx ws ns hb f):=by
 intro m s σ H' D L C U vs xn w S G E Y hc hda fe J tr l hH sm r Z hx h;subst hH;have b:=J.ok.hd d;unfold Qx at h;split at h
 .rename_i hw;refine wpAny_handleBy_cons (fX Y hc J P M O (hws _ hw C (by rw[<-l];exact Z)) ?_) (by intro q;cases q);obtain⟨B,tr⟩:=tr;refine codeAny_handlers_suite (C4 tr λh3 kp=>?_);have N:=Ext.put (ho:=.ND U (.own 0)) fe;have run:lS X.K E0 hb D σ (upd w.H L (.ND U (.own 0))):=by
   refine⟨w.put L (.ND U (.own 0)),S,G,l,rfl,sm.put fe,r.mono N,?_⟩
   revert h
   cases hb S G with
   |rt d3 T=>exact λh c v3 p I o=>h c v3 (N.trans p) I o
   |err x3 T|bad=>exact λh=>h.elim
   |_=>exact λh c Q p I o=>h c _ (N.trans p) I o
  refine vG (hh L m _ _ _ _ (fS (J.kept kp)) run) (λfl s5 j=>?_) λ_ _ z=>z.elim
  cases fl with
  |next|brk|cont=>
   obtain⟨g,y,A,j⟩:=j;exact⟨g,y,fT (calm:=d) b A,j⟩
  |ret u=>
   obtain⟨v,g,y,A,rv,j⟩:=j;exact⟨v,g,y,fT (calm:=d) b A,rv,j⟩
 .split at h
  .rename_i hw;exact wpAny_handleBy_cons (fX Y hc J P M O (hns _ hw C (by rw[<-l];exact Z)) (hr m s σ w.H D L C U vs xn w S G E Y hc hda fe J tr l rfl sm r Z hx h)) (by intro q;cases q)
  exact h.elim
end
noncomputable def Ls(t:DS)(f:Y3):DS:=λS G=>match t S G with
 |.nx S2 G2=>.nx S2 G2
 |.err x G2=>f x S G2
 |_=>.bad
def DT(v:X.stack=X.env::X.outer)(B:X.env.frame=u4 X.env.locals)(hb:QTr X b t)(hh:QH X (h0::hs) f):QS X E (.Try b (h0::hs) [] [] pos) (Ls t f):=by
 intro j s u H D I h;obtain⟨w,S,G,o,rfl,sm,r,h⟩:=h;let E1:XK:=λl Q H'=>l=.none\/∃C x g c,l=.ref C/\zb c.K vK x.cls=u4 (u4 (.ref C))/\c.K=X.K/\c.H=H'/\VB c g/\XC c S u/\XD c Q x.fs/\Br E c (f x S g) D
 have M:lS X.K E1 t {nx:=D.nx,rt:=λ_ _=>False} u w.H:=by
  refine⟨w,S,G,o,rfl,sm,r,?_⟩;unfold Ls at h;cases m:t S G with
  |bad|nx S2 g=>rw[m]at h;exact h
  |err xn g=>
   rw[m]at h;refine⟨λz=>?_,λc C Q O p y P=>.inr ⟨C,xn,g,c,rfl,y,O.k.trans o,rfl,p,r.mono O,P,Br.mono O h⟩⟩;have:=congrFun (congrFun (congrFun z Value.none) u5) w.H;exact cast this (.inl rfl)
  |_=>rw[m]at h;exact h.elim
 refine wpAny_Try_except (vG (hb j s u w.H _ E1 I M) (λfl s1 ⟨e,T,Z,A,q⟩=>?_) λe s1 ⟨Z,p,A,hq⟩=>?_)
 .subst e;exact wpAny_execs_nil ⟨T,Z,A,q⟩
 refine f? v B A hq λea C Q H' oe U h'' ee ho hc hd L hE fe J tr Y=>?_
 subst ee;rcases hE with z|⟨C',xn,g,c,z,y,N,hH,p,r2,P,h2⟩
 .obtain⟨C2,z2⟩:=Y;rw[z]at z2;cases z2
 .subst z hd hH;exact hh j _ u c.H D ea C' oe U xn c S g E ho hc L fe J tr N rfl p r2 y P h2
end _D
namespace _D
open PySem PySem.Spec PySem.W _L
open PyProof.Rows hiding St
section
variable{X:Cx}{C:xA}{x:Str}{np WD pos:Pos}{a:xC}{ta:TA}{E:XK}
end
section
variable{X:Cx}{E:XK}{c x n f v w:Str}{e a:xC}{es:List xC}{t:DE}{tr:DA}{p q pos WD np fp cp ep hp:Pos}{b:Bool}{F:List D->DH->R D}{k j:Nat}{ps:List Str}{st:xI}
def DU(l:FnX X.prog X.w X.K X.mg X.base k n ps F)(T:R? X.K X.mg n st ps dv)(z:NC j X.A)(u:QA X.OY E0 (a::es) tr)(i:Nat.ble k j=u6:=by rfl)(o:Gl X n:=by rfl)
  (g:(n==("__debug__":Str))=u7:=by decide) (B:vx (a::es) X.env=(u7,eval a X.env)::vx es X.env:=by rfl) (d:(xP cp (vx es X.env)).any (·.1)=u7:=by rfl):
  QTe X (.Call (.Name n fp) (a::es) [] cp) (Y2 F tr):=
 DN l (z.mono (jI i)) .nil T.b o T.m T.k u (λw G y H Q E hk s r h=>by rw[qL];exact⟨w,G,y,hk,rfl,s,r,h⟩) g B d
def Tk(K:vO)(w:Str)(b:Bool)(ws:List Str):Prop:=∀c∈ws,∀C,nsIn K vK c=u4 (u4 (.ref C))->Jw K C (Ac K w) b=u6
def fY{K:vO}:Tk K w b []:=λc h=>absurd h (by simp)
def DV{K:vO}{g:List Str}(N:nsIn K vK c=u4 (u4 (.ref (Ac K c))))(h:Jw K (Ac K c) (Ac K w) b=u6)(r:Tk K w b g):Tk K w b (c::g):=λl i C d=>by
 rcases zK.mp i with z|z
 .subst z;rw[N]at d;cases d;exact h
 exact r l z C d
def DW(s:X.mg w=u4 (.ref (Ac X.K w)))(u:Tk X.K w u6 ws)(m:Tk X.K w u7 ns)(o:NC j X.A)(r:∀h,WL j (N8 X h).A->OP (N8 X h) E0 (b₀::QK) hb)(j?:QH X hs g)
  (d:X.calm=u6:=by rfl) (l:Gl X w:=by rfl) (i:(w==("__debug__":Str))=u7:=by decide):
  QH X (.ExceptHandler (u4 (.Name w np)) u5 (b₀::QK) hp::hs) (Qx ws ns hb g):=
 DR d l s u m (λh=>r h (.held (.of o))) j? i
def DX(l:QTr X bd ts)(i:QH X (h0::hs) g)(d:X.stack=X.env::X.outer:=by rfl)(h:X.env.frame=u4 X.env.locals:=by rfl):QS X E (.Try bd (h0::hs) [] [] pos) (Ls ts g):=
 DT d h l i
def Cf(K:vO)(f:Str)(cs:List Str):Prop:=∀c∈cs,∀C,nsIn K vK c=u4 (u4 (.ref C))->g? K C/\UE K C f
end
section
variable{X:Cx}{n y:Str}{e e2:xC}{es:List xC}{tr:DA}{tu:DE}{p pos kp:Pos}{F:List D->DH->R D}{k j:Nat}{ps:List Str}{st:xI}{v:Int}
end
section
variable{prog:xF}{w:xM}{A:xB}{E:xL->xH->Prop}{s:xH}
end
section
variable{X:Cx}{E:XK}
end
section
variable{X:Cx}{E:XK}
end
section
variable{X:Cx}{E:XK}
end
end _D
namespace _D
open PySem PySem.Spec _L
open PyProof.Rows hiding St
noncomputable def tgN:xC->List Str
 |.Name x _=>[x]
 |.Tuple es _ _=>es.flatMap λe=>match e with
  |.Name x _=>[x]
  |_=>[]
 |_=>[]
def Ig(tg:xC)(YA:List Nat)(N:List Str):List Str:=tgN tg++YA.map λj=>N.getD j ""
section
variable{X:Cx}{scope:xG}{nt:Nat}{YA:List Nat}{tg elt iter:xC}{ifs:List xC}{pos:Pos}{it:DI}{g:DG}{c:DB}{te:DE}
def DY(m:QI X E0 tg iter it)(j:∀C b a d,(Ig tg YA X.N).Nodup->QG (YJ X (Ig tg YA X.N) scope C b a d) E0 tg g)(o:GK nt g)(e:∀C b a d,WV (YJ X (Ig tg YA X.N) scope C b a d) E0 ifs c)
  (k:∀C b a d,QE (YJ X (Ig tg YA X.N) scope C b a d) E0 elt te) (n:X.calm=u6:=by rfl) (hk:scope.kind=.function:=by rfl) (f:∀x,X.env.kindOf x=X.env.scope.names.lookup x:=by intro _;rfl)
  (h:U0 X.env.scope.names X.N (Ig tg YA X.N) scope.names nt YA=u6:=by kernel_rfl) (l:∀x,foldedSetIterable iter X.env x=pure x:=by intro _;rfl):QE X E0 (.ListComp elt [⟨tg,iter,ifs,0⟩] scope pos) (Bt it nt YA g c te):=
 have i:=dO hk f rfl h
 uU n i m (λC b a d=>j C b a d i.nd) o e k l
def DZ(i:Nat){y:Str}{l d:Pos}(u:X.N.Nodup)(v:QI X E0 tg iter it)(p:∀C a b e,(Ig tg YA X.N).Nodup->QG (YJ X (Ig tg YA X.N) scope C a b e) E0 tg g)(o:GK nt g)(f:∀C a b e,WV (YJ X (Ig tg YA X.N) scope C a b e) E0 ifs c)
  (t:∀C a b e,QE (YJ X (Ig tg YA X.N) scope C a b e) E0 elt te) (s:X.calm=u6:=by rfl) (hk:scope.kind=.function:=by rfl) (j:∀x,X.env.kindOf x=X.env.scope.names.lookup x:=by intro _;rfl)
  (h:U0 X.env.scope.names X.N (Ig tg YA X.N) scope.names nt YA=u6:=by kernel_rfl)
  (r:X.N[i]?=u4 y:=by rfl) (w:Loc X.env.scope y:=by first|exact Or.inl rfl|exact Or.inr rfl) (n:X.fn y=u6\/X.env.scope.names.lookup y=u4 .local:=by first|exact .inl rfl|exact .inr rfl|assumption)
  (k:swapsWith (.ListComp elt [⟨tg,iter,ifs,0⟩] scope pos) (u4 (.Name y l)) d.line X.env=pure u6:=by rfl)
  (q:∀x,foldedSetIterable iter X.env x=pure x:=by intro _;rfl):QS X E0 (.Assign [.Name y l] (.ListComp elt [⟨tg,iter,ifs,0⟩] scope pos) d) (PD (Bt it nt YA g c te) (gV i)):=
 have m:=dO hk j rfl h
 u9 i s u m v (λC a b e=>p C a b e m.nd) o f t r w n k q
end
def RQ{p:List xL->Prop}(h:p [])(us:List xL)(e:us.length=0):p us:=by cases us with |nil=>exact h|cons a r=>cases e
def Cv{n:Nat}{p:List xL->Prop}(h:∀a r,r.length=n->p (a::r))(us:List xL)(e:us.length=n+1):p us:=by cases us with |nil=>cases e|cons a r=>exact h a r (Nat.succ.inj e)
def bnd1{p:List xL->Prop}(h:∀a,p [a]):∀us:List xL,us.length=1->p us:=Cv λa=>RQ (h a)
def k?{p:List xL->Prop}(h:∀a b,p [a,b]):∀us:List xL,us.length=2->p us:=
 Cv λa=>Cv λb=>RQ (h a b)
def l?{p:List xL->Prop}(h:∀a b c,p [a,b,c]):∀us:List xL,us.length=3->p us:=
 Cv λa=>Cv λb=>Cv λc=>RQ (h a b c)
def m?{p:List xL->Prop}(h:∀a b c d,p [a,b,c,d]):∀us:List xL,us.length=4->p us:=
 Cv λa=>Cv λb=>Cv λc=>Cv λd=>RQ (h a b c d)
def bnd5{p:List xL->Prop}(h:∀a b c d e,p [a,b,c,d,e]):∀us:List xL,us.length=5->p us:=
 Cv λa=>Cv λb=>Cv λc=>Cv λd=>Cv λe=>RQ (h a b c d e)
def n?{p:List xL->Prop}(h:∀a b c d e f,p [a,b,c,d,e,f]):∀us:List xL,us.length=6->p us:=
 Cv λa=>Cv λb=>Cv λc=>Cv λd=>Cv λe=>Cv λf=>RQ (h a b c d e f)
def N4{p:List xL->Prop}(h:∀a b c d e f g,p [a,b,c,d,e,f,g]):∀us:List xL,us.length=7->p us:=
 Cv λa=>Cv λb=>Cv λc=>Cv λd=>Cv λe=>Cv λf=>Cv λg=>RQ (h a b c d e f g)
def S?{N P:List Str}{h:xG}(a:h.kind=.function:=by rfl)(b:h.isCoroutine=u7:=by rfl)(c:h.isGenerator=u7:=by rfl)(d:N.Nodup:=by decide +kernel)(e:N.take P.length=P:=by rfl)
  (f:∀x∈P,h.names.lookup x=u4 .local\/h.names.lookup x=u4 .cell:=by decide +kernel) (g:∀y∈h.names,y.2≠ .free:=by decide +kernel):UC N P h:=⟨a,b,c,d,e,f,g⟩
end _D
namespace _D
open PySem PySem.W _L
def D0{X:Cx}{E:XK}{x:Str}{n:Int}{t:Tok}{pos:Pos}(hg:Gl X x)(hm:X.mg x=u4 (.int n t))(hd:(x==("__debug__":Str))=u7:=by decide):QE X E (.Name x pos) (dC (.int n)):=
 aL (v:=.int n) hg hm ⟨_,rfl⟩ (λ_ _=>rfl) hd
def D1{X:Cx}{E:XK}{x:Str}{n:Str}{t:Tok}{pos:Pos}(hg:Gl X x)(hm:X.mg x=u4 (.str n t))(hd:(x==("__debug__":Str))=u7:=by decide):QE X E (.Name x pos) (dC (.str n)):=
 aL (v:=.str n) hg hm ⟨_,rfl⟩ (λ_ _=>rfl) hd
section
open Lean
def wA(s:String):Syntax:=.atom .none s
def wL(l:List Syntax):Syntax:=.node .none `null l.toArray
def wN(k:String)(l:List Syntax):Syntax:=.node .none ("Lean.Parser."++k).toName l.toArray
def wX(l:List Syntax):Syntax:=wN "Tactic.tacticSeq" [wN "Tactic.tacticSeq1Indented" [wL l]]
def wP(l:List Syntax):Syntax:=wN "Tactic.paren" [wA "(",wX l,wA ")"]
def wI(s:String):Syntax:=(mkIdent s.toName).raw
def wH:Syntax:=wN "Term.syntheticHole" [wA "?",wA "_"]
def wU(l:List String):Syntax:=wN "Term.fun" [wA "fun",wN "Term.basicFun" [wL (l.map wI),wL [],wA "=>",wH]]
def wY(l:List Syntax):Syntax:=match l.reverse with
 |x::y::r=>wN "Term.app" [x,wL (y::r)]
 |[x]=>x
 |_=>.missing
def wT(s:String):Syntax:=wY ((((s.replace "(" "( ").replace ")" " )").splitOn " ").foldl (λst w=>match st with
 | a::r=>
  if w="" then st else if w="(" then[]::st else if w=")" then(match r with
   |b::q=>(wY a::b)::q
   |_=>st)
  else((if w="_" then wN "Term.hole" [wA w]else if w="?" then wH else if w="." then wN "Term.ellipsis" [wA ".."]
   else if w="L" then wU ["C","s","H","e","nd"]else if w="l" then wU ["C","s","H","e"]
   else if w="d" then wN "Term.byTactic" [wA "by",wX [wN "Tactic.decide" [wA "decide",wN "Tactic.optConfig" [wL []]]]]
   else if w.isNat then(Syntax.mkNumLit w).raw else wI w)::a)::r
 |_=>st) [[]]).head!
def wF(l:List Syntax):Syntax:=wN "Tactic.first" [wA "first",wL (l.map λx=>.node .none `group #[wA "|",wX [x]])]
def wJ(a b:Syntax):Syntax:=wN "Tactic.«tactic_<;>_»" [a,wA "<;>",b]
def wG(k:String)(t:Syntax)(r:Syntax):Syntax:=wP [wN "Tactic.guardTarget" [wA "guard_target",wN "equal" [wN k [wA "="]],t],wA ";",r]
def wV:Syntax:=wN "Tactic.tacticTrivial" [wA "trivial"]
def wB(s:String):Syntax:=
 let t:=wT (s.drop 1).toString;let f:=λk=>wN ("Tactic."++k) [wA k,t]
 let c:=s.front
 if c='@' then f "apply" else if c='!' then wN "Tactic.withReducible" [wA "with_reducible",wX [f "exact"]]
 else if c='=' then wP [wJ (f "refine") (wN "Tactic.tacticRfl" [wA "rfl"])]else if c='<' then wP [wJ (f "refine'") wV]else if c='.' then f "exact" else f "refine'"
def wC(s:String):Syntax:=wF ((s.splitOn ",").flatMap λb=>match b.splitOn "^" with
 |[_,t,n]=>(n.splitOn " ").map λx=>wB ("-"++t.replace "$" x)
 |_=>[wB b])
def wR(s:String):Syntax:=wF ((s.splitOn "#").map λg=>match g.splitOn "|" with
 | h::r=>
  let b:=wF (r.map λa=>match a.splitOn ":" with
   |[a,x]=>wG "equalD" (wT (h++" "++a)) (wC x)
   |_=>wC a)
  if h.front='=' then wG "equalR" (wT (h.drop 1).toString) b else if h.front='*' then b else wG "equalD" (wT (h++" _ _")) (wJ (wP [b]) wV)
 |_=>.missing)
end
end _D
namespace _D
open PySem PySem.Spec _L
open PyProof.Rows hiding St
section
variable{M:Model}{A:xB}{E:xL->xH->Prop}{s:xH}{B:Heap}{env:Env}{outer:List Env}{L e:xA}{oe:Obj}{vs:Array xL}{head:xL}{hn:Bool}{Q:Unit->xH->Prop}
end
section
variable{X:Cx}{vS:List (xA×Obj)}{σ:St}{H H':Hp}{s s':xH}{B h'':Heap}{ea C:xA}{cls:xL}{od:Option xA}{E:XK}
end
section
variable{prog:xF}{w:xM}{A:xB}{R':Result->xH->Prop}{s:xH}
end
section
variable{X:Cx}{E:XK}{N:List Str}{scope:xG}{nt:Nat}{YA:List Nat}{tg elt iter:xC}{ifs:List xC}{pos:Pos}{it:DI}{g:DG}{c:DB}{te:DE}
end
section
variable{X:Cx}{E:XK}
end
section
variable{prog:xF}{w:xM}{A:xB}{E:xL->xH->Prop}
end
section
variable{X:Cx}{E:XK}
end
section
variable{X:Cx}{E:XK}
end
section
variable{X:Cx}{E:XK}{tg iter elt:xC}{ifs:List xC}{scope:xG}{pos:Pos}{it:DI}{nt:Nat}{YA:List Nat}{g:DG}{c:DB}{te:DE}
end
section
variable{X:Cx}{E:XK}
end
end _D
namespace _D
open PySem PySem.W _L
def T?(s:xI):List Str:=(Bc s).names.filterMap λp=>match p.2 with
 |.local=>u4 p.1
 |.cell=>u4 p.1
 |_=>u5
def SJ(s:xI):List Str:=(T? s).take (Ea s).args.length
noncomputable def RK:xI->Str
 |.FunctionDef n _ _ _ _ _ _ _ _ _=>n
 |_=>Str.empty
structure Ev where
 P:xF
 w:xM
 K:vO
 mg:Str->Option xL
 base:Heap
noncomputable def Ask.nm:Ask->Str
 |.z n=>n
 |.gi n _=>n
 |.gs n _=>n
 |.no c x=>c++"."++x
 |_=>Str.empty
def o?(b:List xI)(ex:List Ask)(n:Str):Option Ask:=(Xd b ex).find? λx=>x.nm==n
theorem fZ:∀{l:List Ask},YH K l->∀a∈l,a.XI K
 |[],_,_,h=>nomatch h
 |b::r,h,a,m=>by
  rcases zK.mp m with rfl|m
  .exact h.1
  exact fZ h.2 a m
noncomputable abbrev XX(b:List xI)(i:Nat):Str:=(WW (VF b i)).1
noncomputable abbrev Dz(b:List xI)(i j:Nat):xI:=(WW (VF b i)).2.getD j pss
noncomputable abbrev U?(b:List xI)(i j:Nat):Str:=XX b i++"."++RK (Dz b i j)
structure Gx (b:List xI) (ex:List Ask) (U:Ev):Prop where
 h:∃h,U.K.In h/\h.Ns vK U.mg
 S:∀a∈Xd b ex,a.XI U.K
section
variable{b:List xI}{ex:List Ask}{U:Ev}(T:Gx b ex U)
include T
def Gx.has(e:o? b ex n=u4 a):a.XI U.K:=T.S _ (List.mem_of_find?_eq_some e)
def Gx.z(e:o? b ex n=u4 (.z n):=by kernel_rfl):U.mg n=u5:=by obtain⟨h,X,G⟩:=T.h;exact mg_none_of X G (T.has e)
def Gx.gi(e:o? b ex n=u4 (.gi n v):=by kernel_rfl):U.mg n=u4 (.int v (Jo U.K n)):=by obtain⟨h,X,G⟩:=T.h;exact mg_of X G (T.has e)
def Gx.gs(e:o? b ex n=u4 (.gs n v):=by kernel_rfl):U.mg n=u4 (.str v (Jo U.K n)):=by obtain⟨h,X,G⟩:=T.h;exact mg_of X G (T.has e)
def Gx.no(e:o? b ex (c++"."++x)=u4 (.no c x):=by kernel_rfl):UE U.K (Ac U.K c) x:=T.has e
def Gx.at (i:Nat):(R5 (VF b i)).XI U.K:=by
 unfold VF List.getD;rcases h:b[i]? with _|s
 .exact rfl
 exact T.S _ (zE _ (zE _ (zE _ (List.mem_map_of_mem (jW h)))))
def Gx.mat(i j:Nat):(Nd (XX b i) (Dz b i j)).XI U.K:=by
 unfold Dz XX VF List.getD;rcases h:b[i]? with _|s
 .exact rfl
 show(Nd (WW s).1 ((WW s).2[j]?.getD pss)).XI U.K;rcases a:(WW s).2[j]? with _|f
 .exact rfl
 exact T.S _ (zE _ (zE _ (j9 _ (xY.mpr ⟨s,jW h,j9 _ (List.mem_map_of_mem (jW a))⟩))))
end
def V?(s:xI):Bool:=decide ((Bc s).kind=.function/\(Bc s).isCoroutine=u7/\(Bc s).isGenerator=u7/\(T? s).Nodup/\(∀x∈SJ s,(Bc s).names.lookup x=u4 .local\/(Bc s).names.lookup x=u4 .cell)/\∀y∈(Bc s).names,y.2≠ .free)
def sck(h:V? s=u6):UC (T? s) (SJ s) (Bc s):=by obtain⟨d,e,c,g,f,a⟩:=of_decide_eq_true h;exact⟨d,e,c,g,by unfold SJ;rw[jB,<-List.take_eq_take_min],f,a⟩
def SK(n q:Str)(st:xI):Prop:=∀(kV doc pm:xL)(an:Option xA)(XH ct:xL)(us:List xL),us.length=(SJ st).length->bindArgs (fnOf n q (Ea st) (Dg st) (Bc st) .none kV doc pm an XH ct) ⟨us,[]⟩=pure ((SJ st).zip us)
def SK.mk(h:SK n q st:=by first|exact λ_ _ _ _ _ _=>bnd1 λ_=>rfl|exact λ_ _ _ _ _ _=>k? λ_ _=>rfl|exact λ_ _ _ _ _ _=>l? λ_ _ _=>rfl|exact λ_ _ _ _ _ _=>m? λ_ _ _ _=>rfl|exact λ_ _ _ _ _ _=>bnd5 λ_ _ _ _ _=>rfl|exact λ_ _ _ _ _ _=>n? λ_ _ _ _ _ _=>rfl|exact λ_ _ _ _ _ _=>N4 λ_ _ _ _ _ _ _=>rfl|exact λ_ _ _ _ _ _=>Cv λ_=>N4 λ_ _ _ _ _ _ _=>rfl):SK n q st:=h
abbrev FN:=List D->DH->R D
def GO(U:Ev)(st:xI)(k:Nat)(F:FN):Prop:=FT U.K U.mg (RK st) st (SJ st)/\FnO U.P U.w U.K U.mg U.base k (RK st) (SJ st) F
def GX(U:Ev)(st:xI)(k:Nat)(F:FN):Prop:=FT U.K U.mg (RK st) st (SJ st)/\FnX U.P U.w U.K U.mg U.base k (RK st) (SJ st) F
def GD(U:Ev)(st:xI)(v:Int)(k:Nat)(F:FN):Prop:=R? U.K U.mg (RK st) st (SJ st) v/\FnX U.P U.w U.K U.mg U.base k (RK st) (SJ st) F
def GM(U:Ev)(b:List xI)(i j:Nat)(k:Nat)(F:FN):Prop:=MT U.K (XX b i) (RK (Dz b i j)) (U? b i j) (Dz b i j) (SJ (Dz b i j))/\MtO U.P U.w U.K U.mg U.base k (XX b i) (RK (Dz b i j)) (SJ (Dz b i j)) F
abbrev SC(st:xI):Prop:=UC (T? st) (SJ st) (Bc st)
section
variable{b:List xI}{ex:List Ask}{U:Ev}(T:Gx b ex U)
include T
def Gx.fs(i:Nat)(e:R5 (VF b i)=.fn (RK (VF b i)) (VF b i):=by rfl)(S:V? (VF b i)=u6:=by kernel_rfl)(a:SK (RK (VF b i)) (RK (VF b i)) (VF b i):=by exact SK.mk):FT U.K U.mg (RK (VF b i)) (VF b i) (SJ (VF b i))/\SC (VF b i):=by obtain⟨h,X,G⟩:=T.h;have h:=T.at i;rw[e]at h;exact⟨BW X G h a,sck S⟩
def Gx.fds(i:Nat)(e:R5 (VF b i)=.fd (RK (VF b i)) (VF b i) v:=by rfl)(S:V? (VF b i)=u6:=by kernel_rfl)
  (g:∀(T:xA)(kV c pm:xL)(d:Option xA)(a ct:xL)(us:List xL)(t:Tok),us.length=(SJ (VF b i)).length->∃k,bindArgs (fnOf (RK (VF b i)) (RK (VF b i)) (Ea (VF b i)) (Dg (VF b i)) (Bc (VF b i)) (.ref T) kV c pm d a ct) ⟨us,[]⟩=seqItems? (.ref T) >>=k/\k (u4 #[.int v t])=pure ((SJ (VF b i)).zip us):=by intro _ _ _ _ _ _ _ us _ f;revert us;first|exact m? (λ_ _ _ _=>⟨_,rfl,rfl⟩)|exact N4 (λ_ _ _ _ _ _ _=>⟨_,rfl,rfl⟩))
  (j:∀(T:xA)(kV c pm:xL)(d:Option xA)(a ct:xL)(us:List xL)(t:Tok),us.length+1=(SJ (VF b i)).length->∃k,bindArgs (fnOf (RK (VF b i)) (RK (VF b i)) (Ea (VF b i)) (Dg (VF b i)) (Bc (VF b i)) (.ref T) kV c pm d a ct) ⟨us,[]⟩=seqItems? (.ref T) >>=k/\k (u4 #[.int v t])=pure ((SJ (VF b i)).zip (us++[.int v t])):=by intro _ _ _ _ _ _ _ us _ f;have hk:=Nat.succ.inj f;clear f;revert us;first|exact l? (λ_ _ _=>⟨_,rfl,rfl⟩)|exact n? (λ_ _ _ _ _ _=>⟨_,rfl,rfl⟩)):R? U.K U.mg (RK (VF b i)) (VF b i) (SJ (VF b i)) v/\SC (VF b i):=by
 obtain⟨h,X,G⟩:=T.h;have h:=T.at i;rw[e]at h;exact⟨DM X G h g j,sck S⟩
def Gx.ms(i j:Nat)(e:Nd (XX b i) (Dz b i j)=.mt (XX b i) (RK (Dz b i j)) (U? b i j) (Dz b i j):=by rfl)(S:V? (Dz b i j)=u6:=by kernel_rfl)
  (a:SK (RK (Dz b i j)) (U? b i j) (Dz b i j):=by exact SK.mk):MT U.K (XX b i) (RK (Dz b i j)) (U? b i j) (Dz b i j) (SJ (Dz b i j))/\SC (Dz b i j):=by
 have h:=T.mat i j;rw[e]at h;exact⟨eo h a,sck S⟩
def Gx.ct(i:Nat)(e:R5 (VF b i)=.cl c:=by rfl)(f:Nd (XX b i) (Dz b i 0)=.mt c "__init__" (c++"."++"__init__") (Dz b i 0):=by rfl):CT U.K U.mg c:=by obtain⟨h,X,G⟩:=T.h;have a:=T.at i;have d:=T.mat i 0;rw[e]at a;rw[f]at d;exact BX X G a d
end
noncomputable def _root_._L.Cx.ev(X:Cx):Ev:=⟨X.prog,X.w,X.K,X.mg,X.base⟩
def D2{X:Cx}{k j:Nat}{n:Str}{st:xI}{F:FN}{p pos:Pos}{e:xC}{es:List xC}{tr:DA}(I:GO X.ev st k F)(d:NC j X.A)(h:QA X E0 (e::es) tr)(a:RK st=n:=by rfl)
  (c:Nat.ble k j=u6:=by rfl) (i:Gl X n:=by rfl) (f:(n==("__debug__":Str))=u7:=by decide) (g:notStar e=u6:=by rfl) (hp:es.all notStar=u6:=by rfl):QE X E0 (.Call (.Name n p) (e::es) [] pos) (RA F tr):=by
 subst a;exact B9 I.2 I.1 d h (jI c) i f g hp
end _D
namespace _D
open PySem PySem.Spec _L
open PyProof.Rows hiding St
section
variable{X:Cx}{E:XK}
end
end _D
namespace _W
open PySem _L _D
def fuel:Nat:=100000 abbrev FN:=List D->DH->R D abbrev cI (n:Int):DE:=dC (.int n) abbrev cS (n:Str):DE:=dC (.str n) abbrev d1 (a:DE):DA:=Aq a Bm abbrev d2 (a b:DE):DA:=Aq a (Aq b Bm) abbrev d3 (a b c:DE):DA:=Aq a (Aq b (Aq c Bm)) abbrev d4 (a b c d:DE):DA:=Aq a (Aq b (Aq c (Aq d Bm))) abbrev oI (a b:DE):DE:=UB Bj a b abbrev oA (a b:DE):DE:=UB I8 a b abbrev oM (a b:DE):DE:=UB Ja a b abbrev oX (a b:DE):DE:=UB Bo a b abbrev oS (a b:DE):DE:=UB Mh a b abbrev oD (a b:DE):DE:=UB Jp a b abbrev oE (a b:DE):DE:=UB Hb a b abbrev oL (a b:DE):DE:=UB K1 a b abbrev oG (a b:DE):DE:=UB Nu a b abbrev oP (a b:DE):DE:=UB R0 a b abbrev sL (k:Nat) (a:DE) (b:DS):DS:=Ad (PD a (gV k)) b abbrev sC (a:DE) (b:DS):DS:=WI (Ax a) b RL abbrev v0:DE:=dV 0 abbrev v1:DE:=dV 1 abbrev v2:DE:=dV 2 abbrev v3:DE:=dV 3 abbrev v4:DE:=dV 4 abbrev v5:DE:=dV 5 abbrev v6:DE:=dV 6 abbrev v7:DE:=dV 7 abbrev v8:DE:=dV 8 abbrev v9:DE:=dV 9 abbrev v10:DE:=dV 10 abbrev v11:DE:=dV 11 abbrev v12:DE:=dV 12 abbrev v13:DE:=dV 13 abbrev v15:DE:=dV 15 abbrev g0:DG:=gV 0 abbrev g1:DG:=gV 1 abbrev g2:DG:=gV 2 abbrev g3:DG:=gV 3 abbrev g4:DG:=gV 4 abbrev g5:DG:=gV 5 abbrev g6:DG:=gV 6 abbrev g7:DG:=gV 7 abbrev g8:DG:=gV 8 abbrev g9:DG:=gV 9 abbrev g10:DG:=gV 10 abbrev g11:DG:=gV 11 abbrev g14:DG:=gV 14 abbrev c0:DE:=cI 0 abbrev c1:DE:=cI 1 abbrev c2:DE:=cI 2 abbrev c3:DE:=cI 3 abbrev c4:DE:=cI 4 abbrev c5:DE:=cI 5 abbrev c6:DE:=cI 6
def D3:UC ["self","most"] ["self","most"] (Bc Zk):=S?
noncomputable abbrev D4:List Str:=["rows","takes","passing","row","number"]
def f3:UC D4 (SJ (top 29)) (Bc (top 29)):=S?
noncomputable abbrev D5:List Str:=["rows","takes","passing","number","way","take","below"]
def f6:UC D5 (SJ (top 28)) (Bc (top 28)):=S?
noncomputable abbrev D6:List Str:=["_law_script","_law_first","_law_many","_law_names","_law_k","_law_places","_law_b","_law_step","_law_delay","_law_river","_law_kind","_law_amount_here","_law_rank"]
def f7:UC D6 (SJ (top 74)) (Bc (top 74)):=S?
def f9:DS:=QC (oA (oX v1 (oM v0 (cI 7))) (oM (oD v0 (cI 7)) v1))
def Ib:FN:=Al 2 0 f9
def Og:DS:=PD (oD v0 (oP (cI 10) (cI 8))) g0
def Z1:DS:=Ad (sC (Jr Jf K1 c0 v0 (oP (cI 10) (cI 18))) (sL 0 (oM (oA (oA v0 (oX (cI 1009) v1)) (cI 7)) (cI 999999937)) (sL 0 (oM (oX v0 v0) (cI 999999929)) (QC (oM (oX v0 (oA v0 v1)) (cI 99999989)))))) (Ad (Bu (Bf ZD (d1 v1)) g2 Og) (QC (oM v0 (oP (cI 10) (cI 8)))))
def Qn:FN:=Al 2 1 Z1
def Xo:DS:=QC (Jx (oG (RA Be (d1 v0)) c0) (Rz (oL (oI v0 c0) c0) (UB Uh (oI v0 c0) (oP (cI 10) (cI 18)))))
def Lb:FN:=Al 1 0 Xo
def Nj:DS:=Ad (sC (RA Lb (d1 v0)) (sL 2 c0 (Ad (sC (oL (oA c1 (oD v1 (cI 14))) (RA Be (d1 v0))) (PD (oI v0 (oA c1 (oD v1 (cI 14)))) g2)) (QC (RA Qn (d2 v2 (oM v1 (cI 14)))))))) (Ad (sC (oL v1 (RA Be (d1 v0))) (QC (oI v0 v1))) (sL 2 (oM (oX (cI 48271) (oA (oX v1 v1) (oX (cI 7) (RA Be (d1 v0))))) (cI 2147483647)) (Ad (sC (oG (RA Be (d1 v0)) c0) (PD (oA v2 (oM (oX (oI v0 (oM v1 (RA Be (d1 v0)))) (cI 69621)) (cI 2147483629))) g2)) (QC v2))))
def Ay:FN:=Al 2 1 Nj
def Ug:DS:=QC (oI (Aj (RA Ae (d3 c1 c1 (oP (cI 10) (cI 30))))) (oM (oD (RA Ay (d2 v0 c0)) (cI 840)) c3))
def Hg:FN:=Al 1 0 Ug
def Xw:DE:=oA v0 (oX v1 (oM (oD v2 c2) c2))
def fb:DS:=ZF (Ck De v8 (d1 (RA Dj (d1 (Aj (Bt (Dr (oI (oI v2 c1) v9)) 1 [4,10] g0 Aw Xw))))))
def Vc:DS:=Ad (ZF (Ck De v7 (d1 v11))) fb
def Sd:DS:=Ad (sC (oE (oI (oI (oI v1 c1) v9) c0) (cS "basin")) (sL 12 (oA (oS (oI (oI (oI v1 c1) v9) c4) v11) c1) (PD (oA v11 (oX (oM (RA Ib (d2 (oD v10 c2) v4)) v12) (oM v10 c2))) g11))) Vc
def fc:DS:=sL 11 (oI (oI v2 c0) v9) Sd
def R1:DS:=sL 10 (RA Ay (d2 v0 (oA v6 v9))) fc
def Xr:DE:=RA Ay (d2 v1 (oA (oA (oA v3 v2) (oX v4 v2)) v0))
def am:DE:=oX (RA Ib (d2 (oD v0 c2) v1)) (oM v0 c2)
def ao:DE:=oA (oI (oI v1 v2) v0) (oI v3 v0)
def ff:DS:=ZF (Ck De v13 (d1 (RA Dj (d1 (Aj (Bt (Bf ZD (d1 v5)) 1 [3,14,16] g0 Aw ao))))))
def fg:DS:=sL 16 (Aj (Bt (Dr v15) 1 [4] g0 Aw am)) ff
def Pz:DS:=sL 15 (Aj (Bt (Bf ZD (d1 v5)) 1 [0,5,6,14] g0 Aw Xr)) fg
def fh:DS:=sL 4 (Aj (RA Hg (d1 v0))) (sL 5 (RA Be (d1 (oI v1 c1))) (sL 6 (oA c6 (oX (cI 24) v5)) (sL 7 (Bx (RA Ae Bm)) (sL 8 (Bx (RA Ae Bm)) (Ad (Bu (Bf ZD (d1 v5)) g9 R1) (sL 13 (Bx (RA Ae Bm)) (Ad (Bu (Bf ZD (d1 (RA Be (d1 v3)))) g14 Pz) (QC (RA Ag (d2 (RA Ag (d2 (RA Dj (d1 v7)) (RA Dj (d1 v8)))) v13))))))))))
def Pu:FN:=Al 4 13 fh
def Q5:DS:=sC (UB Gm v6 (cS "mill")) (sL 8 (RA Ay (d2 v0 (oA v3 c2))) (sL 9 (oS (RA Ib (d2 (oD v8 c4) (Aj (RA Hg (d1 v0))))) (oM (oD v8 c2) c2)) (QC (RA Ag (d4 v7 v5 (oI (Aj (RA Ae (d2 (cS "least") (cS "most")))) (oM v8 c2)) v9)))))
def Nk:DS:=Ad (sC (oE v6 (cS "basin")) (PD (oI (Aj (RA Ae (d4 (cS "lies") (cS "spilled") (cS "let") (cS "pumped")))) (oM (RA Ay (d2 v0 (oA v3 c1))) c4)) g7)) Q5
def fi:DS:=sL 7 (cS "took") Nk
def fj:DS:=sL 6 (oI (oI (oI v1 c1) v5) c0) fi
def Mr:DS:=sL 5 (oM (oA (RA Ay (d2 v0 v3)) v4) v2) fj
def fk:DS:=sL 2 (RA Be (d1 (oI v1 c1))) (sL 3 (oA c6 (oX (cI 20) v2)) (Ad (Bu (Bf ZD (d1 v2)) g4 Mr) (QC (dC .WA))))
def Ra:FN:=Al 2 8 fk
def fm:DS:=Ad (sC (oE (oI v0 c2) (cS "least")) (QC (oL v1 v2))) (QC (oG v1 v2))
def Lk:FN:=Al 3 0 fm
def Yj:DE:=RA Ay (d2 v1 (oA (oA v3 (oX v4 v2)) v0))
def ap:DE:=RA Ib (d2 v0 (Aj (RA Hg (d1 v1))))
def Pk:DS:=sL 7 (Aj (Bt (Bf ZD (d1 v3)) 1 [0,3,4,6] g0 Aw Yj)) (ZF (Ck De v5 (d1 (RA Dj (d1 (Aj (Bt (Dr v7) 1 [0] g0 Aw ap)))))))
def fo:DS:=sL 3 (RA Be (d1 (oI v1 c1))) (sL 4 (oA c6 (oX (cI 14) v3)) (sL 5 (Bx (RA Ae Bm)) (Ad (Bu (Bf ZD (d1 v2)) g6 Pk) (QC v5))))
def Tq:FN:=Al 3 5 fo
def fq:DS:=Ad (sC (oE v1 (cS "least")) (QC (oL v0 v2))) (QC (oG v0 v2))
def U6:FN:=Al 3 0 fq
def ft:DS:=QC (UB J6 (O7 [("lies",(.int 5)),("spilled",(.int 2)),("let",(.int 3)),("pumped",(.int 4)),("took",(.int 1))]) v0)
def Wf:FN:=Al 1 0 ft
def Ul:DE:=oI (oI v0 v1) v2
def Jt:DS:=sC (RA U6 (d3 v9 v4 v5)) (QC (RA Ag (d3 (cS "broken") v8 v9)))
def fv:DS:=QC (RA Ag (d3 (cS "kept") (Ck Ii v7 (d1 v10)) v10))
def fw:DS:=sL 10 (Y1 (Ax (oE v4 (cS "least"))) (RA Ht (d1 v7)) (RA Hm (d1 v7))) fv
def S9:DS:=Ad (sC (oE (RA Be (d1 v7)) c0) (QC (RA Ag (d3 (cS "kept") (dC .WA) (dC .WA))))) fw
def Qu:DS:=Ad (Bu (Bf Ez (d1 v7)) (Ai 2 (Ab g8 (Ab g9 Ao))) Jt) S9
def fx:DS:=sL 7 (Aj (Bt (Dr v0) 1 [3,6] g0 Aw Ul)) Qu
def fy:DS:=sL 6 (RA Wf (d1 v2)) fx
def Rm:DS:=Ad (PD v1 (Ai 4 (Ab g2 (Ab g3 (Ab g4 (Ab g5 Ao)))))) fy
def Ux:FN:=Al 2 9 Rm
def gA:DS:=Ad (PD v1 (Ai 4 (Ab g2 (Ab g3 (Ab g4 (Ab g5 Ao)))))) (Ad (WI (UN (Ax (UB Jb v4 (dC (.tup [.str "least",.str "most"])))) (Ax (UO (Ng [("lies","basin"),("spilled","basin"),("let","basin"),("pumped","basin"),("took","town")]) v2))) Hk RL) (Ad (WI (Gb (Ax (Jr Jf K1 c0 v3 (RA Be (d1 (oI v0 c1)))))) Hk RL) (sC (UB Gm (oI (oI (oI v0 c1) v3) c0) (UO (Ku [("lies","basin"),("spilled","basin"),("let","basin"),("pumped","basin"),("took","town")]) v2)) Hk)))
def Wi:FN:=Al 2 4 gA
def Z3:DE:=UB Jf v0 v1
def gB:DS:=Ad (sC (UB Gm (RA Be (d1 v0)) (RA Be (d1 v1))) (QC (dC (.bl u7)))) (QC (RA Ma (d1 (Aj (Bt (Bf (Ew 2) (d2 v0 v1)) 2 [] (Ai 2 (Ab g0 (Ab g1 Ao))) Aw Z3)))))
def Qi:FN:=Al 2 0 gB
def aq:DE:=RA Qi (d2 v0 v1)
def Xc:DS:=Ad (sC (UB Gm (RA Be (d1 v0)) (RA Be (d1 v1))) (QC (dC (.bl u7)))) (QC (RA Ma (d1 (Aj (Bt (Bf (Ew 2) (d2 v0 v1)) 2 [] (Ai 2 (Ab g0 (Ab g1 Ao))) Aw aq)))))
def M5:FN:=Al 2 0 Xc
def gC:DS:=Ad (PD v0 (Ai 2 (Ab g2 (Ab g3 Ao)))) (Ad (PD v1 (Ai 2 (Ab g4 (Ab g5 Ao)))) (QC (Jx (RA Qi (d2 v2 v4)) (RA M5 (d2 v3 v5)))))
def Wm:FN:=Al 2 4 gC
def gD:DS:=WI (UN (Gb (Ax (RA Wm (d2 v0 v1)))) (Gb (Ax (RA M5 (d2 v2 v3))))) Hk RL
def Wh:FN:=Al 4 0 gD
def gE:DS:=sC (UB Gm (RA Be (d1 v1)) (oI v0 c0)) Hk
def Wn:FN:=Al 2 0 gE
def gF:DS:=Ad (PD v4 (Ai 4 (Ab g5 (Ab g6 (Ab g7 (Ab g8 Ao)))))) (Ad (sC (oE v7 (cS "least")) (QC (RA Ag (d2 v0 v2)))) (QC (RA Ag (d2 v1 v3))))
def Su:FN:=Al 5 4 gF
def Uj:DE:=oA v0 (oI v1 c0)
def Qe:DE:=Bx (oA (Aj (RA Qy (d1 (Aj (OZ v0 (u4 c1) u5))))) (Aj (RA Ae (d1 c0))))
def gG:DS:=Ad (PD v2 (Ai 2 (Ab g5 (Ab g6 Ao)))) (Ad (Eo "Course" v0 v1 "house") (Ad (Eo "Course" v0 v5 "levels") (Ad (Eo "Course" v0 (oM v3 (oI v1 c0)) "year_turn") (Ad (Eo "Course" v0 (Bt (Bf (Ew 2) (d2 v4 v6)) 2 [] (Ai 2 (Ab g0 (Ab g1 Ao))) Aw Uj) "came") (Ad (Eo "Course" v0 (Bt (Dr v6) 1 [] g0 Aw Qe) "coming") (Ad (Eo "Course" v0 (Bx (UB Dv (RA Ae (d1 (dC .WA))) (RA Be (d1 v5)))) "page") (Eo "Course" v0 (Bx (RA Ae Bm)) "reaches")))))))
def Qz:FN:=Al 5 2 gG
def gH:DS:=WI (Ax (oE v2 c0)) (Ju (Ds "Course" v0 "came") v1 v3 Jk) (Ju (oI (Ds "Course" v0 "coming") v1) (oS v2 c1) v3 Jk)
def R8:FN:=Al 4 0 gH
def Nv:DS:=sC (oE (oI v3 c1) v1) (QC v2)
def gI:DS:=Ad (Bu (Bf Ez (d1 (oI v0 c1))) (Ai 2 (Ab g2 (Ab g3 Ao))) Nv) Hk
def Ou:FN:=Al 2 2 gI
def gJ:DS:=sL 2 (oI (oI (oI v0 c1) v1) c2) (Ad (sC (oE v2 (cS "sea")) (QC (dC .WA))) (QC (RA Ou (d2 v0 v2))))
def Qq:FN:=Al 2 1 gJ
def gK:DS:=sL 3 (RA Qq (d2 (Ds "Course" v0 "house") v1)) (sC (UB Ip v3 (dC .WA)) (ZF (Ff "Course" "send" R8 v0 (d3 v3 (oI (oI (oI (Ds "Course" v0 "house") c1) v1) c3) v2))))
def Pb:FN:=Al 3 1 gK
def Wo:DS:=sL 7 (RA Ol (d2 c0 (RA Jy (d2 v5 (oS v1 v4))))) (WI (Ax (oE v6 (cS "river"))) (Q2 2 v7 Jk) (Q2 3 v7 Jk))
def gL:DS:=sL 2 c0 (sL 3 c0 (Ad (Bu (Dr v0) (Ai 3 (Ab g4 (Ab g5 (Ab g6 Ao)))) Wo) (QC (RA Ag (d3 v2 v3 (oS (oS v1 v2) v3))))))
def Uu:FN:=Al 2 6 gL
def W7:DS:=sC (UB Jf v3 v1) (PD v4 g2)
def gM:DS:=sL 2 (RA Ag Bm) (Ad (Bu (Dr v0) (Ai 2 (Ab g3 (Ab g4 Ao))) W7) (QC v2))
def Ro:FN:=Al 2 3 gM
def gN:DS:=sL 2 (oI (oI (Ds "Course" v0 "house") c1) v1) (sL 3 (oI (Ds "Course" v0 "came") v1) (Ad (PD (RA Uu (d2 (RA Ro (d2 (oI v2 c5) (Ds "Course" v0 "year_turn"))) (oA (oI (Ds "Course" v0 "levels") v1) v3))) (Ai 3 (Ab g4 (Ab g5 (Ab g6 Ao))))) (sL 7 (RA Jy (d2 v6 (oI v2 c4))) (sL 8 (oS v6 v7) (Ad (PD (RA Ag (Aq v3 (Aq c0 (d4 v8 v4 v5 v7)))) (WY (Ds "Course" v0 "page") v1)) (Ad (ZF (Ff "Course" "send_down" Pb v0 (d2 v1 (oA v4 v8)))) (sC (UB Ip (oI v2 c6) (dC .WA)) (ZF (Ff "Course" "send" R8 v0 (d3 (RA Ou (d2 (Ds "Course" v0 "house") (oI (oI v2 c6) c0))) (oI (oI v2 c6) c1) v5))))))))))
def Wc:FN:=Al 2 7 gN
def ar:DE:=oS (oI v0 c1) v1
def Nr:DS:=sC (UB Ip (oI v3 c0) (dC .WA)) (Ju v2 (oI v3 c0) (oI v2 v4) Jk)
def gO:DS:=sL 2 (Bt (Bf (Ew 2) (d2 v0 v1)) 2 [] (Ai 2 (Ab g0 (Ab g1 Ao))) Aw ar) (Ad (Bu (Bf Ez (d1 v0)) (Ai 2 (Ab g4 (Ab g3 Ao))) Nr) (QC v2))
def My:FN:=Al 2 3 gO
def gP:DS:=sL 2 (oI v0 c1) (sL 3 (RA Qq (d2 v0 v1)) (Ad (WI (UN (Ax (UB Im v3 (dC .WA))) (Ax (oG (oI (oI v2 v1) c3) c0))) (QC (dC .WA)) RL) (Ad (WI (UN (Ax (oE (oI (oI v2 v1) c0) (cS "basin"))) (Ax (oE (oI (oI v2 v3) c0) (cS "basin")))) (QC (dC .WA)) RL) (QC v3))))
def R3:FN:=Al 2 2 gP
def Pg:DS:=sL 5 (oI (oI v0 c1) v4) (sL 6 (RA R3 (d2 v0 v4)) (sL 7 (Y1 (Ax (UB Im v6 (dC .WA))) (dC .WA) (Ck Ii v1 (d1 v6))) (WI (Ax (oE (oI v5 c0) (cS "town"))) (ZF (Ck De v3 (d1 (RA Ag (d4 v7 (oI v2 v4) (oI v5 c4) (oI v5 c5)))))) (ZF (Ck De v3 (d1 (RA Ag (d4 v7 (oI v2 v4) c0 c0))))))))
def gQ:DS:=sL 3 (Bx (RA Ae Bm)) (Ad (Bu (Dr v1) g4 Pg) (QC v3))
def S6:FN:=Al 3 5 gQ
def X8:DE:=RA Ag (d2 (oI v1 c3) v0)
def au:DE:=v1
def gR:DS:=sL 1 (Aj (RA Ml (d1 (Aj (Bt (Bf Ez (d1 v0)) 2 [] (Ai 2 (Ab g0 (Ab g1 Ao))) Aw X8))))) (QC (Bt (Dr v1) 2 [] (Ai 2 (Ab g0 (Ab g1 Ao))) Aw au))
def Vr:FN:=Al 1 1 gR
def R6:DS:=Ad (ZF (Ck De v2 (d1 v3))) (PD (oI (oI v0 v3) c0) g3)
def Kz:DB:=(Ax (UB Ip (dV 3) (dC .WA)))
def gS:DS:=sL 2 (Bx (RA Ae (d1 v1))) (sL 3 (oI (oI v0 v1) c0) (Ad (WM Kz R6 fuel) (QC v2)))
def Vm:FN:=Al 2 2 gS
def av:DE:=oI v1 v0
def Rn:DS:=Ju v2 v6 v5 Mh
def Qh:DS:=sL 4 (Aj (RA Vm (d2 v0 v3))) (sL 5 (RA Jy (d2 (oI (oI v0 v3) c2) (RA Ht (d1 (Aj (Bt (Dr v4) 1 [2] g0 Aw av)))))) (Ad (PD v5 (WY v1 v3)) (Bu (Dr v4) g6 Rn)))
def gT:DS:=sL 1 (Bx (UB Dv (RA Ae (d1 c0)) (RA Be (d1 v0)))) (sL 2 (Bx (RA My (d2 v0 v1))) (Ad (Bu (Dr (Aj (RA Vr (d1 v0)))) g3 Qh) (QC v1)))
def W8:FN:=Al 1 6 gT
def Ji:DS:=Ad (PD (RA Ag (Aq (oA v5 v6) (Aq v5 (d4 c0 v6 c0 c0)))) (WY (Ds "Course" v0 "page") v4)) (sC (oE v4 (oI v1 (UO Hc c1))) (ZF (Ff "Course" "send_down" Pb v0 (d2 v4 v6))))
def gU:DS:=sL 2 (Aj (RA S6 (d3 (Ds "Course" v0 "house") v1 (Ds "Course" v0 "came")))) (sL 3 (Aj (RA W8 (d1 v2))) (Ad (Bu (Bf (Ew 3) (d3 v1 v3 (Aj (RA My (d2 v2 v3))))) (Ai 3 (Ab g4 (Ab g5 (Ab g6 Ao)))) Ji) (ZF (Ck De (Ds "Course" v0 "reaches") (d1 (Bx (RA Ag (d2 v1 v2))))))))
def Tg:FN:=Al 2 5 gU
def T6:DS:=sL 3 (RA R3 (d2 v0 v2)) (sC (UB Ip v3 (dC .WA)) (PD (oI v1 v3) (WY v1 v2)))
def gW:DS:=sL 1 (Bx (Zs (d1 (RA Be (d1 (oI v0 c1)))))) (Ad (Bu (Bf MQ (d3 (oS (RA Be (d1 (oI v0 c1))) c1) (UO Hc c1) (UO Hc c1))) g2 T6) (QC v1))
def Sq:FN:=Al 1 3 gW
def Vs:DE:=v0
def Pa:DB:=(Ax (UB Hb (dV 1) (dV 2)))
def Mz:DS:=WI (Ax (oE (oI (oI (oI (Ds "Course" v0 "house") c1) v2) c0) (cS "basin"))) (ZF (Ff "Course" "go_basin" Wc v0 (d1 v2))) (sC (oE v3 v2) (ZF (Ff "Course" "go_reach" Tg v0 (d1 (Aj (Bt (Bf Ez (d1 v1)) 2 [2] (Ai 2 (Ab g0 (Ab g1 Ao))) Pa Vs))))))
def gX:DS:=sL 1 (Aj (RA Sq (d1 (Ds "Course" v0 "house")))) (Bu (Bf Ez (d1 v1)) (Ai 2 (Ab g2 (Ab g3 Ao))) Mz)
def W6:FN:=Al 1 3 gX
def Vu:DE:=oI v0 c5
def S7:DE:=RA Dj (d1 v0)
def gY:DS:=QC (RA Ag (d2 (RA Dj (d1 (Aj (Bt (Dr (Ds "Course" v0 "page")) 1 [] g0 Aw Vu)))) (RA Dj (d1 (Aj (Bt (Dr (Ds "Course" v0 "coming")) 1 [] g0 Aw S7))))))
def Tj:FN:=Al 1 0 gY
def gZ:DS:=sL 4 (R9 "Course" Qz (d4 v0 v1 v2 v3)) (Ad (ZF (Ff "Course" "go" W6 v4 Bm)) (QC (RA Ag (d2 (RA Dj (d1 (Ds "Course" v4 "page"))) (Ff "Course" "state_behind" Tj v4 Bm)))))
def Tw:FN:=Al 4 1 gZ
def Rc:DS:=Ad (PD (RA Tw (d4 v0 v1 v5 v6)) (Ai 2 (Ab g7 (Ab g1 Ao)))) (ZF (Ck De v4 (d1 v7)))
def gb:DS:=sL 4 (Bx (RA Ae Bm)) (Ad (Bu (Q7 (d1 v3) v2) (Ai 2 (Ab g5 (Ab g6 Ao))) Rc) (QC (RA Ag (d2 v4 v1))))
def H9:FN:=Al 4 4 gb
def Mf:DS:=Ad (sC (oG (RA Be (d1 v4)) v3) (Nc "TooLong" "most" (d1 v3))) (Ad (XO (PD (Bx (RA H9 (d4 v0 (oI v4 (UO Hc c1)) c0 v2))) (Ai 2 (Ab g6 (Ab g7 Ao))))) (Ad (XO (ZF (Ck Ni v5 (d1 v6)))) (XO (ZF (Ck De v4 (d1 v7))))))
def Qm:DB:=(Ax (UB Lh (UB Bj (dV 4) (UO Hc (dC (.int 1)))) (Aj (OZ (dV 4) u5 (u4 (UO Hc (dC (.int 1))))))))
def Yk:DS:=Ad (XO (PD (Bx (RA Ae (d1 v1))) g4)) (Ad (XO (PD (Bx (RA Ae Bm)) g5)) (Ad (WM Qm Mf fuel) (XO (QC (RA Ag (d2 v4 v5))))))
def Nb:FN:=Al 4 4 Yk
def Zd:DS:=Ad (XO (ZF (RA Wi (d2 v0 v5)))) (Ad (XO (ZF (RA Wn (d2 v0 v3)))) (Ad (XO (ZF (RA Wh (d4 v1 v2 v3 v4)))) (Ad (XO (PD (RA Su (Aq v1 (d4 v2 v3 v4 v5))) (Ai 2 (Ab g7 (Ab g8 Ao))))) (Ad (PD (Aj (RA Nb (d4 v0 v7 v8 v6))) (Ai 2 (Ab g9 (Ab g10 Ao)))) (XO (QC (RA Ux (d2 v10 v5))))))))
def Ka:FN:=Al 7 4 Zd
def gc:DS:=PD (dC .WA) g6
def aw:DS:=sL 6 (dC .WA) (Ad (Ls (PD (Y2 Ka (Aq v0 (Aq v1 (Aq v2 (d4 v3 v4 v5 (cI 8)))))) g6) (Qx ["TooLong"] [] gc fW)) (QC v6))
def M7:FN:=Al 6 1 aw
def Vh:DS:=sC (oE v4 (cS "pump")) (PD (oA v1 v3) g1)
def gf:DS:=sL 1 c0 (Ad (Bu (Dr v0) (Ai 3 (Ab g2 (Ab g3 (Ab g4 Ao)))) Vh) (QC v1))
def Uq:FN:=Al 1 4 gf
def Qc:DS:=sL 4 (oA v4 (oX v1 (oM (oI v0 (oA c1 v5)) c4))) (sL 6 (oA c1 (oX v1 (oM (oD (oI v0 (oA c1 v5)) c4) c4))) (sL 7 (cS "river") (Ad (WI (Jq (Ax v2) (Ax (oE (oM (oD (oI v0 (oA c1 v5)) (cI 16)) c2) c1))) (PD (cS "pump") g7) RL) (Ad (ZF (Ck De v3 (d1 (RA Ag (d3 v4 v6 v7))))) (PD (oA v4 v6) g4)))))
def gh:DS:=sL 3 (Bx (RA Ae Bm)) (sL 4 c0 (Ad (Bu (Bf ZD (d1 (oM (oI v0 c0) c4))) g5 Qc) (QC (RA Dj (d1 v3)))))
def Um:FN:=Al 3 5 gh
def gj:DS:=QC (oA c1 (oM (RA Ay (d2 v0 c1)) c4))
def Q0:FN:=Al 1 0 gj
def ax:DE:=oD (RA Ay (d2 v1 (oA (oA v2 c5) (oM (oA (oX c3 v3) v0) c6)))) (oA c1 (oX (cI 7) (oD v3 c2)))
def ay:DE:=oD (RA Ay (d2 v1 (oA (oA v2 c5) v0))) (oI (Aj (RA Ae (d4 c1 (cI 64) (cI 4096) (cI 262144)))) v3)
def Ru:DS:=WI (UN (Ax (oE v7 c0)) (Jq (Ax (oE (oM v8 c2) c1)) (Ax (oL (oA v6 c1) v4)))) (Ad (sC (oG v7 c0) (PD (oA (oA v6 c1) (oM (oD v8 c2) (oS (oS v4 v6) c1))) g6)) (ZF (Ck De v5 (d1 (RA Ag (d2 v6 (RA Um (d3 v9 v2 v3)))))))) RL
def gm:DS:=Ad (sC (RA Lb (d1 v0)) (sL 8 (oD (RA Ay (d2 v0 (oA v1 c4))) (oI (Aj (RA Ae (d4 c1 (cI 48) (cI 2304) (cI 110592)))) v7)) (PD (Aj (Bt (Bf ZD (d1 c4)) 1 [0,1,7] g0 Aw ay)) g9))) Ru
def gp:DS:=sL 9 (Aj (Bt (Bf ZD (d1 c4)) 1 [0,1,7] g0 Aw ax)) gm
def Ke:DS:=sL 8 (oM (oX (oX (RA Ay (d2 v0 (oA v1 c4))) (cI 48271)) (oA (oX v7 v7) c1)) (cI 10007)) gp
def gq:DS:=sL 4 (RA Q0 (d1 v0)) (sL 5 (Bx (RA Ae Bm)) (sL 6 c0 (Ad (Bu (Bf ZD (d1 c4)) g7 Ke) (QC (RA Dj (d1 v5))))))
def T7:FN:=Al 4 6 gq
def Yz:DE:=RA Uq (d1 (oI v0 c1))
def gr:DS:=QC (RA Ag (Aq (cS "basin") (Aq (oI v3 v2) (Aq (oI v4 c0) (d4 (oI v4 c1) v12 v8 v9)))))
def Kr:DS:=sL 12 (RA Ib (d2 (RA Ay (d2 v0 (oA v1 c3))) v5)) gr
def az:DS:=Ad (sC v7 (sL 10 (oA (RA Hm (d1 (Aj (Bt (Dr v8) 1 [] g0 Aw Yz)))) (oX v5 (oM (oD v6 (cI 130)) c2))) (sL 11 (oI v3 (oM (oA (oA v2 c1) (oM (oD v6 c2) (oS (RA Be (d1 v3)) c1))) (RA Be (d1 v3)))) (PD (RA Ag (d3 v11 (oA c1 (oM (oD v6 (cI 26)) c5)) v10)) g9)))) Kr
def Xj:DS:=sL 9 (dC .WA) az
def Kf:DS:=sL 8 (RA T7 (d4 v0 v1 v5 v7)) Xj
def gu:DS:=sL 7 (Jx (oG (RA Be (d1 v3)) c1) (oE (oM v6 c2) c1)) Kf
def gv:DS:=sL 6 (RA Ay (d2 v0 (oA v1 (cI 11)))) gu
def bA:DS:=sL 5 (Aj (RA Hg (d1 v0))) gv
def Pj:FN:=Al 5 8 bA
def gw:DS:=sL 3 (oI (cS "abcdefghijklmnopqrstuvwxyz") (oM (oD v0 (cI 21)) (cI 26))) (Ad (WI (Jq (Ax (oE (oM v0 c3) c1)) (Ax (oL v2 (cI 9)))) (QC (oX v3 (oA v1 c1))) RL) (sL 4 (oI (cS "abcdefghijkl") (oM (oA (oX c5 v1) (oD v0 (cI 546))) (cI 12))) (Ad (sC (oE (oM v0 c3) c2) (QC (oA v4 (oX v3 (oM (oD v0 c3) (cI 7)))))) (QC (oA (oA (oX v3 (oM (oD v0 c3) (cI 7))) v4) (oX v3 (oS c6 (oM (oD v0 c3) (cI 7)))))))))
def Uy:FN:=Al 3 2 gw
def bB:DE:=RA Uy (d3 (RA Ay (d2 v1 c5)) v0 v2)
def N6:DS:=WI (Ax (oL v10 c2)) (ZF (Ck De v5 (d1 (Aj (RA Pj (Aq v0 (d4 v6 v4 v3 v9))))))) (WI (Ax (oL v10 c4)) (ZF (Ck De v5 (d1 (RA Ag (Aq (cS "town") (Aq (oI v3 v4) (d4 (oI v9 c0) (oI v9 c1) v11 v12))))))) (ZF (Ck De v5 (d1 (RA Ag (Aq (cS "mill") (d4 (oI v3 v4) (oI v9 c0) (oI v9 c1) v11)))))))
def Wv:DS:=sL 12 (oM (RA Ay (d2 v0 (oA v6 c4))) (oI (Aj (RA Ae (d2 c4 (oP (cI 10) (cI 40))))) (oM (oD v1 (cI 840)) c2))) N6
def Y8:DS:=sL 11 (RA Ib (d2 (RA Ay (d2 v0 (oA v6 c3))) (Aj (RA Hg (d1 v0))))) Wv
def Q8:DS:=sL 10 (oM (RA Ay (d2 v0 v6)) c5) Y8
def Yp:DS:=Ad (sC (oG v7 c0) (PD (RA Ag (d2 (oI v3 (oA v4 v7)) (oI v9 c1))) g9)) Q8
def Y4:DS:=sL 9 (RA Ag (d2 (cS "sea") (oX (oM v8 c2) (oM (oD v8 c2) c6)))) Yp
def Py:DS:=sL 8 (RA Ay (d2 v0 (oA v6 c2))) Y4
def Zz:DS:=Ad (sC (oE (oM (oD v1 (cI 280)) c3) c1) (PD (RA Jy (d2 c1 (oS (oS v2 c1) v4))) g7)) Py
def V1:DS:=sL 7 (oM (RA Ay (d2 v0 (oA v6 c1))) (oS v2 v4)) Zz
def K5:DS:=Ad (PD (oA c6 (oX (cI 12) v4)) g6) V1
def gx:DS:=sL 1 (RA Ay (d2 v0 c0)) (sL 2 (oA c1 (oM v1 c4)) (sL 3 (Aj (Bt (Bf ZD (d1 v2)) 1 [0,2] g0 Aw bB)) (sL 5 (Bx (RA Ae Bm)) (Ad (Bu (Bf ZD (d1 v2)) g4 K5) (QC (RA Ag (d2 (RA Q0 (d1 v0)) (RA Dj (d1 v5)))))))))
def Ui:FN:=Al 1 12 gx
def gy:DS:=QC (UB J6 (O7 [("took",(.int 1)),("spilled",(.int 2)),("let",(.int 3)),("pumped",(.int 4)),("lies",(.int 5))]) v0)
def V5:FN:=Al 1 0 gy
def gz:DS:=QC (oA v1 (oM (oM (oX v0 (cI 48271)) (cI 2147483647)) (oA (oS v2 v1) c1)))
def J7:FN:=Al 3 0 gz
def Oq:DS:=sL 8 (RA Ay (d2 v0 (oA (oA v1 (oX v5 (RA Be (d1 (oI v2 v5))))) v7))) (ZF (Ck De v6 (d1 (RA J7 (d3 v8 (oI (oI v2 v5) v7) (oI (oI v3 v5) v7))))))
def Qp:DS:=sL 6 (Bx (RA Ae Bm)) (Ad (Bu (Bf ZD (d1 (RA Be (d1 (oI v2 v5))))) g7 Oq) (ZF (Ck De v4 (d1 (RA Dj (d1 v6))))))
def hI:DS:=sL 4 (Bx (RA Ae Bm)) (Ad (Bu (Bf ZD (d1 (RA Be (d1 v2)))) g5 Qp) (QC v4))
def Qf:FN:=Al 4 5 hI
def bC:DE:=RA J7 (d3 (oA v4 (oX v0 v0)) (oI (oI (oI v1 c1) v3) v0) (oI (oI (oI v2 c1) v3) v0))
def R7:DS:=sL 7 (RA Ay (d2 v0 (oA v1 v6))) (Ad (ZF (Ck De v4 (d1 (RA J7 (d3 v7 (oI (oI v2 c0) v6) (oI (oI v3 c0) v6)))))) (ZF (Ck De v5 (d1 (RA Dj (d1 (Aj (Bt (Bf ZD (d1 c5)) 1 [2,3,6,7] g0 Aw bC))))))))
def hJ:DS:=sL 4 (Bx (RA Ae Bm)) (sL 5 (Bx (RA Ae Bm)) (Ad (Bu (Bf ZD (d1 (RA Be (d1 (oI v2 c0))))) g6 R7) (QC (RA Ag (d2 (RA Dj (d1 v4)) (RA Dj (d1 v5)))))))
def Qt:FN:=Al 4 4 hJ
def Lg:DE:=oI (oI v0 (oI v1 c1)) (RA V5 (d1 (oI v1 c0)))
def bD:DS:=QC (Bt (Dr v9) 1 [6] g0 Aw Lg)
def Xk:DS:=Ad (WI (Ax (oE (oI v7 c0) (cS "broken"))) (sL 8 (oA (oD (oI v7 c1) (oI v1 c0)) c1) (sL 9 (oI (Aj (RA H9 (d4 v1 v2 c0 (Aj (UB Dv v4 v8))))) c0) (sC (oE (oI v6 c2) (cS "most")) (PD (oI (Aj (RA H9 (d4 v1 v3 c0 (Aj (UB Dv v5 v8))))) c0) g9)))) (sL 10 (oA c6 (oX (cI 32) (RA Be (d1 (oI v1 c1))))) (sL 8 (oA c1 (oM (oD (RA Ay (d2 v0 c3)) (cI 10)) (cI 16))) (sL 11 (RA Qt (d4 v0 v10 v2 v3)) (PD (oI (Aj (RA H9 (d4 v1 v11 c0 (Aj (RA Qf (d4 v0 (oA v10 c4) (Aj (UB Dv v4 v8)) (Aj (UB Dv v5 v8)))))))) c0) g9))))) bD
def Jd:FN:=Al 8 4 Xk
def hP:DS:=PD (oD v9 c3) g9
def Ow:DS:=Ad (ZF (Ck De v10 (d1 (oX v3 (oM v9 c3))))) hP
def hU:DS:=ZF (Ck De v6 (d1 (RA Dj (d1 v10))))
def Ve:DS:=Ad (Bu (Bf ZD (d1 c5)) g11 Ow) hU
def hV:DS:=sL 10 (Bx (RA Ae Bm)) Ve
def hW:DS:=sL 9 (RA Ay (d2 v0 (oA (oA v4 (RA Be (d1 v2))) v7))) hV
def W5:DS:=Ad (ZF (Ck De v5 (d1 v8))) hW
def hX:DS:=Ad (sC (oE (oI (oI v2 v7) c0) (cS "basin")) (PD (oM (RA Ib (d2 (RA Ay (d2 v0 (oA v4 v7))) v3)) (oA (oI (oI v2 v7) c4) c1)) g8)) W5
def Px:DS:=sL 8 c0 hX
def hZ:DS:=sL 2 (oI v1 c1) (sL 3 (Aj (RA Hg (d1 v0))) (sL 4 (oA c6 (oX (cI 12) (RA Be (d1 v2)))) (sL 5 (Bx (RA Ae Bm)) (sL 6 (Bx (RA Ae Bm)) (Ad (Bu (Bf ZD (d1 (RA Be (d1 v2)))) g7 Px) (QC (RA Ag (d2 (RA Dj (d1 v5)) (RA Dj (d1 v6))))))))))
def Vy:FN:=Al 2 10 hZ
def Rh:DS:=WI (Jq (Ax (UB Ip v1 (dC .WA))) (UN (Gb (Ax (RA Fo (d2 v1 (dC (.ty "int")))))) (Ax (RA Fo (d2 v1 (dC (.ty "bool"))))))) (QC (dC (.bl u7))) RL
def h6:DS:=Ad (WI (UN (Gb (Ax (RA Fo (d2 v0 (dC (.ty "tuple")))))) (UN (Ax (UB Gm (RA Be (d1 v0)) c3)) (Gb (Ax (RA Fo (d2 (oI v0 c0) (dC (.ty "str")))))))) (QC (dC (.bl u7))) RL) (Ad (Bu (Dr (Aj (OZ v0 (u4 c1) u5))) g1 Rh) (QC (dC (.bl u6))))
def Ob:FN:=Al 1 1 h6
def Ze:DE:=RA Lk (d3 v1 v0 (oI v2 c2))
def Zb:DE:=RA Lk (d3 v1 v0 (oI v1 c3))
def h7:DS:=QC (Oj (RA Ln (d1 (Aj (Bt (Dr (Aj (OZ v8 u5 (u4 (oI v7 c1))))) 1 [6] g0 Aw Zb)))))
def h8:DS:=Ad (WI (UN (Ax (UB Gm (oI v8 (oI v7 c1)) (oI v7 c2))) (Gb (Ax (RA Lk (d3 v6 (oI v7 c2) (oI v6 c3)))))) (QC (dC (.bl u7))) RL) h7
def bE:DS:=Ad (sC (oE (oI v7 c0) (cS "kept")) (Ad (sC (RA Lk (d3 v6 (oI v7 c2) (oI v6 c3))) (QC (dC (.bl u7)))) (QC (Oj (RA Ln (d1 (Aj (Bt (Dr v8) 1 [6,7] g0 Aw Ze)))))))) h8
def bF:DS:=sL 8 (Aj (RA Jd (Aq v0 (Aq v1 (Aq v2 (Aq v4 (d4 v3 v5 v6 v7))))))) bE
def bG:DS:=Ad (WI (UN (Ax (UB Im (oI v7 c2) (dC .WA))) (Gb (Ax (Jr Jf K1 c0 (oI v7 c1) (oX (cI 8) (oI v1 c0)))))) (QC (dC (.bl u7))) RL) bF
def bH:DS:=Ad (WI (UN (Gb (Ax (RA Ob (d1 v7)))) (UN (Ax (UB Jb (oI v7 c0) (RA Ag (d2 (cS "kept") (cS "broken"))))) (Ax (UB Im (oI v7 c1) (dC .WA))))) (QC (dC (.bl u7))) RL) bG
def Jh:DS:=Ad (sC (UB Im v7 (dC .WA)) (QC (dC (.bl u6)))) bH
def U8:DS:=sL 7 (RA M7 (Aq v1 (Aq v2 (d4 v4 v3 v5 v6)))) Jh
def bI:DS:=Ad (sC (UB Im v6 (dC .WA)) (QC (dC (.bl u6)))) U8
def Zq:DS:=sL 6 (Aj (RA Ra (d2 v0 v1))) bI
def Yi:DS:=Ad (PD (Aj (RA Pu (d4 v0 v1 v2 v3))) (Ai 2 (Ab g4 (Ab g5 Ao)))) Zq
def Z4:DS:=sL 3 (Aj (RA Tq (d3 v0 v1 (oI v1 c0)))) Yi
def bJ:DS:=sL 2 (RA Vy (d2 v0 v1)) Z4
def Zc:DS:=sL 1 (RA Ui (d1 v0)) bJ
def K8:FN:=Al 1 8 Zc
def Holds:Prop:=∀ns:List Int,ns.length<=63->∃G,K8 [.fl (ns.map D.int)] []=.ok (.bl u6) G
end _W
namespace _W
open PySem _L _D
seal QE QT QA QS OP QG Qb QI WV QW QO
structure Txt (U:Ev):Prop extends Gx body exs U where
 Z0:UX U.K U.mg "SENSES" ["least","most"]
 Vb:VX U.K U.mg "KINDS_ASKED" [("lies","basin"),("spilled","basin"),("let","basin"),("pumped","basin"),("took","town")]
 bK:MT U.K "TooLong" "__init__" "TooLong.__init__" Zk ["self","most"]
 Tu:ET U.K U.mg "TooLong" "most"
 iA:WU U.K U.mg "WaterError" (Ac U.K "WaterError")
 iB:U.mg "TooLong"=u4 (.ref (Ac U.K "TooLong"))
 iC:Jw U.K (Ac U.K "TooLong") (Ac U.K "TooLong") u6=u6
section
seal Jq Jx dC Jr Bt Aq O7 Ds RA Aj Y1 Zs R9 Ff Ck Bm Gb Oj UB UN Rz OZ Y2 Bx Ax UO dV Ma Ln Fo Be Qy Ol Hm Jy Ht Ml Dj Ab WY Ao Ai gV Q7 Ez Bf Dr Ew De Ni Ii I8 Jp Hb Uh Ku Ng Nu Im Ip Bj J6 Jf K1 Ja Bo Gm Hc Jb Lh R0 Dv Mh ZD MQ PD Q2 Ju Hk ZF Eo Bu WI XO RL QC Nc Ad Ls WM
local macro_rules | `(tactic|trivial)=> `(tactic|first|refine' (_:String)|refine' (_:Str)|refine' (_:xA))
local macro_rules | `(tactic|trivial)=>pure (wR "QS _ _|_ (PD (Aj _) _):-wm ?|(Stmt.Assign (List.cons (Expr.Name .) List.nil) (Expr.ListComp .) .) _:-DZ _ nd ? L ? l l|(Stmt.Assign (List.cons (Expr.Name .) List.nil) .) (PD _ (gV _)):-tP _ nd ?|_ (ZF _):-tM ?|_ (PD _ _):-tO ? ?|_ (Eo _ _ _ _):-AC ? ? ? ? ?|_ (Bu _ _ _):-tV PassesOwn.never rfl ? ? ?|_ (Ju _ _ _ _):-yj ? ? ? ?|_ (Q2 _ _ _):-tQ _ nd ? ?|_ (WM _ _ _):-cx fuel PassesOwn.never ? ?|@aP,@M6,@DD,-Ct T.Tu (D7 T) T.bK.b hr ?#QE _ _|_ (dV _):.Mu _|(Expr.Subscript .) (UB _ _ _):-aO ? ? ?|(Expr.Compare .) _:-sD ? ? ? (YO _)|(Expr.Call (Expr.Name .) .) (RA _ _):<sY ? rfl ? ? ?,<sZ ? rfl ? ? ?,^D2 ($ T) hr ?^D8 D9 Da Dx EA EB EC ED EE EF EG EH EI EJ EK EL EM EN EO EQ ER ES EU EV EW EX EY EZ E3 E4 E5 E6 E7 E8 E9 Ee FA FC FD FE FF FG FH FI FJ FK FM,^C9 (And.right ($ T)) (hr.mono d) rfl (FT.m (And.left ($ T))) (FT.k (And.left ($ T))) (FT.b (And.left ($ T))) C8 ?^FO|_ (Ck _ _ _):-uB ? ? ? ? ?|_ (Ds _ _ _):-AB ? ? ? ?|(Expr.Name .) (dC (D.ty .)):-uc rfl ? ?|_ (OZ _ _ _):-yM ? ? ?|_ (Zs _):-AL rfl rfl ? rfl ? ?|_ (Bt _ _ _ _ _ _):-DY ? L ? l l|(Expr.Name .) (dC _):<D0 rfl ?,<D1 rfl ?|(Expr.Call _ (List.cons .) .) (Ff _ _ _ _ _):^AE (CT.N (T.ct 43)) (CT.cl (T.ct 43)) (MT.me (And.left ($ T))) (And.right ($ T)) (hr.mono d) (MT.b (And.left ($ T))) OR ? ?^FP FQ FR FS|_ (R9 _ _ _):-AH (CT.N (T.ct 43)) (CT.mK (T.ct 43)) (And.right (iD T)) (hr.mono d) rfl (CT.g (T.ct 43)) (MT.b (And.left (iD T))) OR ?|_ (Ff _ _ _ _ _):^AF (CT.N (T.ct 43)) (CT.cl (T.ct 43)) (MT.me (And.left ($ T))) (And.right ($ T)) (hr.mono d) (MT.b (And.left ($ T))) OR ?^FU FV|.Ms,.rz,.rr,.rq,@sA,@wl,@sH,@sW,@sX,@sS,@sP,@sQ,@sR,@ub,@sT#QA _ _|.sU,-sV ? ?#OP _ _|@Eh,.Ld,@Gr#QG _ _|_ (gV _):.tH _ nd|_ (Ai _ _):-tK rfl ?|_ (WY _ _):-tL ? ?#Qb _ _|.tI,-tJ ? ?#WV _ _|.uP,-uR ?#QT _ _|(Expr.Compare _ (List.cons _ List.nil) .) (Ax _):-P0 ? ? ? (YO _)|_ (Ax _):-sG ?|(Expr.BoolOp .) _:-aN ?|(Expr.Compare _ (List.cons _ (List.cons _ List.nil)) .) _:-sE ? ? ? ? ?|@sO#QI _ _ _|(Expr.Call _ (List.cons _ List.nil) .) (Bf ZD _):-t6 rfl ? ?|_ (Bf MQ _):-AQ rfl ? ?|_ (Bf Ez _):-ya rfl ? ?|_ (Q7 _ _):-A4 rfl ? ? ?|_ (Bf (Ew 2) _):-yh rfl ? ?|_ (Bf (Ew 3) _):-yi rfl ? ?|@tZ#QW _ _|@Rt,@cY,@sN,@sM#QO _ _|.yK,@yL#GK|_ (gV _):.uH d|@uM#Ts|.uI,@uL#=VM _ _|!Sr#=WC _ _ _|!sy,!si,!BD,!sg,!se,!Pt,!Pw,!sj,!yn,!ud,!Sz,!Nw,!tR,!Tx,!tS,.Oy hr.units,.Qr hr.units#=WB _ _ _|.t8,.t9,=tq ?,.uD,=yk ?,=ym ?,=uE ?,=uF ?,=tj ?,=tm ?,.zp#=Eq _ none|.T.z#=Eq (bootBuiltins _) _|!um,!uu,!ul,!uf,!ui,!ug,!uh,!dM,!yx,!ut,!uo,!ur#=Slot _ _ _|!PySem.F.slot_list_append,!PySem.F.slot_list_index,!PySem.F.slot_list_extend#=Eq (typeOf _) _|!PySem.F.type_list_append,!PySem.F.type_list_index,!PySem.F.type_list_extend#=SV _ _ _|!tw,!AI,!DK#=Eq _ (some _)|.T.gi,.T.gs#=UE _ _ _|.T.no#=Sa _ _ _|!ua#*|.CT.N (T.ct 43),.CT.cl (T.ct 43),.hr.mono d")
set_option hygiene false in
local macro_rules | `(tactic|exists $a)=> `(tactic|(have F:=T.fs $a;refine⟨F.1,Gj F.1.F F.2 λXH A outer s H E hr=>?_⟩;have nd:=F.2.nd;trivial))
set_option hygiene false in
local macro_rules | `(tactic|exists $a,$b)=> `(tactic|(have F:=T.ms $a $b;refine⟨F.1,Gj F.1.F F.2 λXH A outer s H E hr=>?_⟩;have nd:=F.2.nd;trivial))
variable{U:Ev}(T:Txt U)
include T
def D7:QD U.P U.w U.K U.mg U.base RO 1 (Dq U.K (Ac U.K "TooLong") "__init__") (Ak U.K (Dq U.K (Ac U.K "TooLong") "__init__")) ["self","most"] (d? (Ac U.K "TooLong") "most"):=
 CW (k:=0) T.bK.F D3 T.Tu.X T.iA rfl (by decide +kernel) (by decide +kernel) rfl rfl rfl rfl (.inl rfl) (.inl rfl) (λ_=>⟨_,rfl⟩)
def D9:GO U (top 68) 1 Ib:=by exists 68
def EK:GO U (top 64) 1 Qn:=by exists 64
def EC:GO U (top 63) 1 Lb:=by exists 63
def D8:GO U (top 65) 2 Ay:=by exists 65
def Da:GO U (top 67) 3 Hg:=by exists 67
def FH:GO U (top 78) 4 Pu:=by exists 78
def FI:GO U (top 79) 4 Ra:=by exists 79
def EA:GO U (top 85) 1 Lk:=by exists 85
def FG:GO U (top 76) 4 Tq:=by exists 76
def EM:GO U (top 60) 1 U6:=by exists 60
def EL:GO U (top 61) 1 Wf:=by have F:=T.fs 61;refine⟨F.1,Gj F.1.F F.2 λXH A outer s H E hr=>?_⟩;have nd:=F.2.nd;exact(Gr (aP (aO (dX hr.units) (fL (I9 (by trivial) (I9 (by trivial) (I9 (by trivial) (I9 (by trivial) (I9 (by trivial) fE)))))) (Mu 0))))
def E5:GO U (top 59) 2 Ux:=by exists 59
def EY:GO U (top 54) 1 Wi:=by
 have F:=T.fs 54;refine⟨F.1,Gj F.1.F F.2 λXH A outer s H E hr=>?_⟩;have nd:=F.2.nd
 exact(Eh (by trivial) (Eh (M6 (aN (Rt (P0 dJ (Mu 4) (BG (ss:=["least","most"]) rfl T.Z0) (by with_unfolding_all rfl)) (cY (B5 rfl T.Vb (Mu 2) (by with_unfolding_all rfl))))) (Gr O3) Ld) (Eh (M6 (by trivial) (Gr O3) Ld) (Gr (M6 (P0 (Qr hr.units) (by trivial) (B3 rfl T.Vb (Mu 2)) (YO _)) (Gr O3) Ld)))))
def ED:GO U (top 52) 1 Qi:=by exists 52
def EE:GO U (top 51) 2 M5:=by exists 51
def EN:GO U (top 50) 3 Wm:=by exists 50
def E3:GO U (top 55) 4 Wh:=by have F:=T.fs 55;refine⟨F.1,Gj F.1.F F.2 λXH A outer s H E hr=>?_⟩;have nd:=F.2.nd;exact(Gr (M6 (by trivial) (Gr O3) Ld))
def EZ:GO U (top 56) 1 Wn:=by have F:=T.fs 56;refine⟨F.1,Gj F.1.F F.2 λXH A outer s H E hr=>?_⟩;have nd:=F.2.nd;exact(Gr (M6 (by trivial) (Gr O3) Ld))
def E4:GO U (top 57) 1 Su:=by exists 57
def iD:GM U body 43 0 1 Qz:=by exists 43,0
def FP:GM U body 43 5 1 R8:=by exists 43,5
def EF:GO U (top 21) 1 Ou:=by have F:=T.fs 21;refine⟨F.1,Gj F.1.F F.2 λXH A outer s H E hr=>?_⟩;have nd:=F.2.nd;exact(Eh (by trivial) (Gr O3))
def EG:GO U (top 22) 2 Qq:=by exists 22
def FQ:GM U body 43 4 3 Pb:=by exists 43,4
def EQ:GO U (top 34) 1 Uu:=by exists 34
def EO:GO U (top 33) 1 Ro:=by exists 33
def FR:GM U body 43 2 4 Wc:=by exists 43,2
def EI:GO U (top 29) 1 My:=by
 refine⟨(T.fs 29).1,Gj (T.fs 29).1.F f3 λXH A outer s H E hr=>?_⟩;have nd:=f3.nd
 trivial
def EH:GO U (top 45) 3 R3:=by exists 45
def EU:GO U (top 46) 4 S6:=by exists 46
def ER:GO U (top 30) 1 Vr:=by exists 30
def ES:GO U (top 31) 1 Vm:=by exists 31
def EV:GO U (top 28) 2 W8:=by
 refine⟨(T.fs 28).1,Gj (T.fs 28).1.F f6 λXH A outer s H E hr=>?_⟩;have nd:=f6.nd
 trivial
def FS:GM U body 43 3 5 Tg:=by exists 43,3
def EW:GO U (top 44) 4 Sq:=by exists 44
def FU:GM U body 43 1 6 W6:=by exists 43,1
def FV:GM U body 43 6 1 Tj:=by exists 43,6
def EX:GO U (top 41) 7 Tw:=by exists 41
def Dx:GO U (top 42) 8 H9:=by exists 42
def FO:GX U (top 58) 9 Nb:=by
 have F:=T.fs 58;refine⟨F.1,C7 F.1.F F.2 λXH A outer s H E hr=>?_⟩;have nd:=F.2.nd
 exact(Eh (by trivial) (Eh (by trivial) (Eh (cx fuel ownX (P0 (DJ hr.units) (by trivial) (by trivial) (by with_unfolding_all rfl)) (by trivial)) (by trivial))))
def iE:GD U (top 53) 100 10 Ka:=by
 have F:=T.fds 53;refine⟨F.1,DL F.1.F F.2 λXH A outer s H E hr=>?_⟩;have nd:=F.2.nd
 trivial
def FJ:GO U (top 86) 11 M7:=by have F:=T.fs 86;refine⟨F.1,Gj F.1.F F.2 λXH A outer s H E hr=>?_⟩;have nd:=F.2.nd;exact(Eh (by trivial) (Eh (DX (DP 6 nd (DU (iE T).2 (iE T).1 hr (by trivial))) (DW T.iB (DV T.Tu.N T.iC fY) fY hr (λea hr=>(by trivial)) DQ)) (by trivial)))
def E8:GO U (top 72) 1 Uq:=by exists 72
def E6:GO U (top 70) 1 Um:=by exists 70
def EJ:GO U (top 69) 3 Q0:=by exists 69
def E7:GO U (top 71) 4 T7:=by exists 71
def Ee:GO U (top 73) 5 Pj:=by exists 73
def E9:GO U (top 66) 1 Uy:=by exists 66
def FE:GO U (top 74) 6 Ui:=by
 refine⟨(T.fs 74).1,Gj (T.fs 74).1.F f7 λXH A outer s H E hr=>?_⟩;have nd:=f7.nd
 trivial
def FD:GO U (top 80) 1 V5:=by have F:=T.fs 80;refine⟨F.1,Gj F.1.F F.2 λXH A outer s H E hr=>?_⟩;have nd:=F.2.nd;exact(Gr (aP (aO (dX hr.units) (fL (I9 Ms (I9 Ms (I9 Ms (I9 Ms (I9 Ms fE)))))) (Mu 0))))
def EB:GO U (top 81) 1 J7:=by exists 81
def FC:GO U (top 83) 3 Qf:=by exists 83
def FA:GO U (top 82) 3 Qt:=by exists 82
def FM:GO U (top 87) 9 Jd:=by exists 87
def FF:GO U (top 75) 4 Vy:=by exists 75
def FK:GO U (top 84) 1 Ob:=by exists 84
def Zx:GO U (top 88) 12 K8:=by
 have F:=T.fs 88;refine⟨F.1,Gj F.1.F F.2 λXH A outer s H E hr=>?_⟩;have nd:=F.2.nd
 exact(Eh (by trivial) (Eh (by trivial) (Eh (by trivial) (Eh (by trivial) (Eh (by trivial) (Eh (by trivial) (Eh (by trivial) (Eh (by trivial) (Eh (M6 (aN (Rt (by trivial) (Rt (P0 dJ (by trivial) (by trivial) (by with_unfolding_all rfl)) (by trivial)))) (by trivial) Ld) (by trivial))))))))))
end
def FW{U:Ev}{h:Heap}(X:U.K.In h)(G:h.Ns vK U.mg)(S:YH U.K asks):Txt U:=by
 have A:Gx body exs U:=⟨⟨h,X,G⟩,fZ S⟩;obtain⟨Z0,Vb,bK,Tu,iA,iB,iC,-⟩:=S
 constructor <;> first|assumption|exact Co X G (by assumption)|exact Cn X G (by assumption)|exact Cc X G (by assumption)|exact eo (by assumption) λ_ _ _ _ _ _=>k? λ_ _=>rfl|exact BQ X G Z0|exact B1 X G Vb
def all_mk{l:vU}{w:xM}{K:za}{h:Heap}{mg:Str->Option xL}{fa:xA}(X:K.In h)(G:h.Ns vK mg)(hfa:mg "law"=u4 (.ref fa))(S:YH K asks):
  ∃fd:xD,(∀(s:xH)(v:xL),BindsTo s fd ⟨[v],[]⟩ [("_law_script",v)])/\∀base:Heap,K.In base->base.Ns vK mg->QD l.prog w K mg base RO 12 fa fd ["_law_script"] (lF K K8):=by
 have T:∀base,Txt ⟨l.prog,w,K,mg,base⟩:=λbase=>FW X G S
 have eL:mg "law"=u4 (.ref (Ac K "law")):=(Zx (T h)).1.m;obtain rfl:fa=Ac K "law":=by rw[hfa]at eL;cases eL;rfl
 exact⟨_,λs v=>BY (Zx (T h)).1.F,λbase _ _=>(Zx (T base)).2⟩
def walk{l:vU}{q:xF}{loose:List Str}{XP:(Str->Option xL)->Heap->Prop}{YP:xM->Heap->Prop}{d:DefRec}{K:xM->za}(hn:l.most=u4 63)(YZ:d.params.defaults=[])(HH:Holds)
  (hY:∀(w:xM)(h:Heap),YP w h->(K w).In h)
  (F:∀(w:xM)(mg:Str->Option xL)(fa:xA)(h:Heap),(K w).In h->h.Ns vK mg->mg d.name=u4 (.ref fa)->
   ∃fd:xD,(∀(s:xH)(u:xL),BindsTo s fd ⟨[u],[]⟩ [("_law_script",u)])/\∀base:Heap,(K w).In base->base.Ns vK mg->QD l.prog w (K w) mg base RO 12 fa fd ["_law_script"] (lF (K w) K8)):
  w9 q loose XP YP l.row.toRowW d [] (λf vs=>qh f vs):=
 _L.rT (n:=63) (k:=12) (x:="_law_script") (CX:=λ_=>RO) (sp:=λw=>lF (K w) K8) hn (by decide) YZ ⟨rfl,by decide,by decide⟩ hY F
  (λw H a ns hl hO hS=>by
   obtain⟨G,hG⟩:=HH ns hl;refine⟨⟨K w,0,λ_=>0,H⟩,[],[.fl (ns.map D.int)],rfl,rfl,⟨rfl,λi j h=>absurd h (xj _),λi o h=>by simp at h,λi h=>absurd h (xj _)⟩,OA.cons ⟨a,ns.map V.int,rfl,?_,OA.ints ns⟩ OA.nil,?_⟩
   .rcases hS with(hS|hS)|hS
    .rcases hO a with z|⟨o,xs,z⟩
     .rw[z]at hS;cases hS
     .rw[z]at hS;cases hS
    .exact .inl hS
    .exact .inr ⟨⟨ns,rfl⟩,hS⟩
   .rw[hG];exact λb v _ _ r=>r) λ_ _ _ _ _ z=>z
end _W
namespace _W
open PySem _L _D
variable{ns r ys:List Int}{G L:DH}{v c a at_ u yr x:Int}{F T P W ca lv f xs lat ca' lv':Nat->Int}{m i d j p dl t w M B y:Nat}{A:DO}{ds:List D}{ws:List Nat}{H LV e:D}{q:Nat->List Int}{S:RD}{co cel fl co':Nat->Nat->Int}{te:DE}{s0 s1 s2 s4 s5 s6 s7 s8 s3:Option D}{fls fls' l l':List (Nat->Int)}{b:Bool}
abbrev zI(i:Int):Option D:=u4 (.int i)
abbrev zR(i:Nat):Option D:=u4 (.ref i)
abbrev zF(xs:List D):Option D:=u4 (.fl xs)
abbrev zT(xs:List D):Option D:=u4 (.tup xs)
abbrev zS(x:Str):Option D:=u4 (.str x)
abbrev zB(b:Bool):Option D:=u4 (.bl b)
section
variable{S:RD}{G:DH}{d v:D}{o:D->D->DH->R D}{t:DE}{r:DA}{a b c e f g h i j k l m n:Option D}
@[simp high]theorem rV0:dV 0 (u4 d::S) G=.ok d G:=id rfl
@[simp high]theorem rV1:dV 1 (a::u4 d::S) G=.ok d G:=id rfl
@[simp high]theorem rV2:dV 2 (a::b::u4 d::S) G=.ok d G:=id rfl
@[simp high]theorem rV3:dV 3 (a::b::c::u4 d::S) G=.ok d G:=id rfl
@[simp high]theorem rV4:dV 4 (a::b::c::e::u4 d::S) G=.ok d G:=id rfl
@[simp high]theorem rV5:dV 5 (a::b::c::e::f::u4 d::S) G=.ok d G:=id rfl
@[simp high]theorem rV6:dV 6 (a::b::c::e::f::g::u4 d::S) G=.ok d G:=id rfl
@[simp high]theorem rV7:dV 7 (a::b::c::e::f::g::h::u4 d::S) G=.ok d G:=id rfl
@[simp high]theorem rV8:dV 8 (a::b::c::e::f::g::h::i::u4 d::S) G=.ok d G:=id rfl
@[simp high]theorem rV9:dV 9 (a::b::c::e::f::g::h::i::j::u4 d::S) G=.ok d G:=id rfl
@[simp high]theorem rV10:dV 10 (a::b::c::e::f::g::h::i::j::k::u4 d::S) G=.ok d G:=id rfl
@[simp high]theorem rV11:dV 11 (a::b::c::e::f::g::h::i::j::k::l::u4 d::S) G=.ok d G:=id rfl
@[simp high]theorem rV12:dV 12 (a::b::c::e::f::g::h::i::j::k::l::m::u4 d::S) G=.ok d G:=id rfl
@[simp high]theorem rV13:dV 13 (a::b::c::e::f::g::h::i::j::k::l::m::n::u4 d::S) G=.ok d G:=id rfl
@[simp 10002]theorem rOC0:UB o (dV 0) (dC v) (u4 d::S) G=o d v G:=id rfl
@[simp 10002]theorem rOC1:UB o (dV 1) (dC v) (a::u4 d::S) G=o d v G:=id rfl
@[simp 10002]theorem rOC2:UB o (dV 2) (dC v) (a::b::u4 d::S) G=o d v G:=id rfl
@[simp 10002]theorem rOC3:UB o (dV 3) (dC v) (a::b::c::u4 d::S) G=o d v G:=id rfl
@[simp 10002]theorem rOC4:UB o (dV 4) (dC v) (a::b::c::e::u4 d::S) G=o d v G:=id rfl
@[simp 10002]theorem rOC5:UB o (dV 5) (dC v) (a::b::c::e::f::u4 d::S) G=o d v G:=id rfl
@[simp 10002]theorem rOC6:UB o (dV 6) (dC v) (a::b::c::e::f::g::u4 d::S) G=o d v G:=id rfl
@[simp 10002]theorem rOC7:UB o (dV 7) (dC v) (a::b::c::e::f::g::h::u4 d::S) G=o d v G:=id rfl
@[simp 10002]theorem rOC8:UB o (dV 8) (dC v) (a::b::c::e::f::g::h::i::u4 d::S) G=o d v G:=id rfl
@[simp 10002]theorem rOC9:UB o (dV 9) (dC v) (a::b::c::e::f::g::h::i::j::u4 d::S) G=o d v G:=id rfl
@[simp 10002]theorem rOC10:UB o (dV 10) (dC v) (a::b::c::e::f::g::h::i::j::k::u4 d::S) G=o d v G:=id rfl
@[simp high]theorem rOV0:UB o (dV 0) t (u4 d::S) G=(t (u4 d::S) G).bind λy q=>o d y q:=id rfl
@[simp high]theorem rOV1:UB o (dV 1) t (a::u4 d::S) G=(t (a::u4 d::S) G).bind λy q=>o d y q:=id rfl
@[simp high]theorem rOV2:UB o (dV 2) t (a::b::u4 d::S) G=(t (a::b::u4 d::S) G).bind λy q=>o d y q:=id rfl
@[simp high]theorem rOV3:UB o (dV 3) t (a::b::c::u4 d::S) G=(t (a::b::c::u4 d::S) G).bind λy q=>o d y q:=id rfl
@[simp high]theorem rOV4:UB o (dV 4) t (a::b::c::e::u4 d::S) G=(t (a::b::c::e::u4 d::S) G).bind λy q=>o d y q:=id rfl
@[simp high]theorem rOV5:UB o (dV 5) t (a::b::c::e::f::u4 d::S) G=(t (a::b::c::e::f::u4 d::S) G).bind λy q=>o d y q:=id rfl
@[simp high]theorem rOV6:UB o (dV 6) t (a::b::c::e::f::g::u4 d::S) G=(t (a::b::c::e::f::g::u4 d::S) G).bind λy q=>o d y q:=id rfl
@[simp high]theorem rOV7:UB o (dV 7) t (a::b::c::e::f::g::h::u4 d::S) G=(t (a::b::c::e::f::g::h::u4 d::S) G).bind λy q=>o d y q:=id rfl
@[simp high]theorem rOV8:UB o (dV 8) t (a::b::c::e::f::g::h::i::u4 d::S) G=(t (a::b::c::e::f::g::h::i::u4 d::S) G).bind λy q=>o d y q:=id rfl
@[simp high]theorem rOV11:UB o (dV 11) t (a::b::c::e::f::g::h::i::j::k::l::u4 d::S) G=(t (a::b::c::e::f::g::h::i::j::k::l::u4 d::S) G).bind λy q=>o d y q:=id rfl
@[simp high]theorem rCV0:Aq (dV 0) r (u4 d::S) G=(r (u4 d::S) G).bind λxs q=>.ok (d::xs) q:=id rfl
@[simp high]theorem rCV1:Aq (dV 1) r (a::u4 d::S) G=(r (a::u4 d::S) G).bind λxs q=>.ok (d::xs) q:=id rfl
@[simp high]theorem rCV2:Aq (dV 2) r (a::b::u4 d::S) G=(r (a::b::u4 d::S) G).bind λxs q=>.ok (d::xs) q:=id rfl
@[simp high]theorem rCV3:Aq (dV 3) r (a::b::c::u4 d::S) G=(r (a::b::c::u4 d::S) G).bind λxs q=>.ok (d::xs) q:=id rfl
@[simp high]theorem rCV4:Aq (dV 4) r (a::b::c::e::u4 d::S) G=(r (a::b::c::e::u4 d::S) G).bind λxs q=>.ok (d::xs) q:=id rfl
@[simp high]theorem rCV5:Aq (dV 5) r (a::b::c::e::f::u4 d::S) G=(r (a::b::c::e::f::u4 d::S) G).bind λxs q=>.ok (d::xs) q:=id rfl
@[simp high]theorem rCV6:Aq (dV 6) r (a::b::c::e::f::g::u4 d::S) G=(r (a::b::c::e::f::g::u4 d::S) G).bind λxs q=>.ok (d::xs) q:=id rfl
@[simp high]theorem rCV7:Aq (dV 7) r (a::b::c::e::f::g::h::u4 d::S) G=(r (a::b::c::e::f::g::h::u4 d::S) G).bind λxs q=>.ok (d::xs) q:=id rfl
@[simp high]theorem rCV8:Aq (dV 8) r (a::b::c::e::f::g::h::i::u4 d::S) G=(r (a::b::c::e::f::g::h::i::u4 d::S) G).bind λxs q=>.ok (d::xs) q:=id rfl
@[simp high]theorem rCV9:Aq (dV 9) r (a::b::c::e::f::g::h::i::j::u4 d::S) G=(r (a::b::c::e::f::g::h::i::j::u4 d::S) G).bind λxs q=>.ok (d::xs) q:=id rfl
@[simp high]theorem rCV10:Aq (dV 10) r (a::b::c::e::f::g::h::i::j::k::u4 d::S) G=(r (a::b::c::e::f::g::h::i::j::k::u4 d::S) G).bind λxs q=>.ok (d::xs) q:=id rfl
@[simp high]theorem rCV11:Aq (dV 11) r (a::b::c::e::f::g::h::i::j::k::l::u4 d::S) G=(r (a::b::c::e::f::g::h::i::j::k::l::u4 d::S) G).bind λxs q=>.ok (d::xs) q:=id rfl
@[simp high]theorem rCV12:Aq (dV 12) r (a::b::c::e::f::g::h::i::j::k::l::m::u4 d::S) G=(r (a::b::c::e::f::g::h::i::j::k::l::m::u4 d::S) G).bind λxs q=>.ok (d::xs) q:=id rfl
@[simp high]theorem rCV13:Aq (dV 13) r (a::b::c::e::f::g::h::i::j::k::l::m::n::u4 d::S) G=(r (a::b::c::e::f::g::h::i::j::k::l::m::n::u4 d::S) G).bind λxs q=>.ok (d::xs) q:=id rfl
@[simp high]theorem rCC:Aq (dC v) r S G=(r S G).bind λxs q=>.ok (v::xs) q:=id rfl
@[simp 10001]theorem rOtC:UB o t (dC v) S G=(t S G).bind λx q=>o x v q:=id rfl
@[simp 10001]theorem rOCt:UB o (dC v) t S G=(t S G).bind λy q=>o v y q:=id rfl
end
theorem iF:∃b,∀G,Lb [.fl (ns.map D.int)] G=.ok (.bl b) G:=by
 cases ns with
 |nil=>exact⟨u7,λG=>by unfold Lb Xo;rw[Af];simp[Az]⟩
 |cons n r=>
  refine⟨decide (n<0)||decide (1000000000000000000<=n),λG=>?_⟩;unfold Lb Xo;rw[Af];have q:YC ((n::r).map D.int) 0=zI n:=Df rfl rfl;by_cases h:n<0
  .simp[q,h,Az]
  simp[q,h,Az]
noncomputable def YX:Nat->Int->Int
 |0,v=>v
 |n+1,v=>YX n (v/100000000)
theorem iG{k:D}:∀(n:Nat)(j:Nat)(v:Int)(x:Option D),∃q,An (gV 2) Og (Bb j n) [zI v,u4 k,x] G=.nx [zI (YX n v),u4 k,q] G
 |0,j,v,x=>⟨x,by rw[Gs,Cj];rfl⟩
 |n+1,j,v,x=>by
  obtain⟨q,w⟩:=iG n (j+1) (v/100000000) (zI j);refine⟨q,?_⟩;have y:Og [zI v,u4 k,zI j] G=.nx [zI (v/100000000),u4 k,zI j] G:=by unfold Og;simp
  rw[Fq,Bs];simp[By,R.Bp,qY,y,Cd];have u:((j:Int)+1)=((j+1:Nat):Int):=by lia
  rw[u,w]
  rfl
def iH{k:Nat}(hk:k<=1000):∃r:Int,(0<=r/\r<100000000)/\∀G,Qn [.int v,.int k] G=.ok (.int r) G:=by
 by_cases h:0<=v/\v<1000000000000000000
 .let a:=(v+1009*(k:Int)+7)%999999937;let b:=a*a%999999929;refine⟨b*(b+k)%99999989,by lia,λG=>?_⟩;unfold Qn Z1;rw[Af];have y:Bo (.int a) (.int a)=λG=>R.ok (.int (a*a)) G:=by funext G;exact Eu (by lia) (by lia)
  have C:Bo (.int b) (.int (b+k))=λG=>R.ok (.int (b*(b+k))) G:=by funext G;exact Eu (by lia) (by lia)
  simp[h.1,h.2]
  rw[show(v+1009*(k:Int)+7)%999999937=a from rfl,y]
  simp
  rw[show a*a%999999929=b from rfl,C]
  simp[Az]
 refine⟨YX k v%100000000,by lia,λG=>?_⟩;obtain⟨x,B⟩:=iG k 0 v u5;have q:An (gV 2) Og (Bb 0 k) [zI v,zI k,u5] G=.nx [zI (YX k v),zI k,x] G:=B;unfold Qn Z1;rw[Af];have w:inR (k:Int):=Ef (by lia) (by lia);by_cases u:0<=v
 .have A:¬v<1000000000000000000:=λz=>h ⟨u,z⟩
  simp[u,A,w,q,Az]
 simp[u,w,q,Az]
theorem iI(I:lN ns<=63){k:Nat}(hk:k<=1000):∃v:Int,∀G,Ay [.fl (ns.map D.int),.int k] G=.ok (.int v) G:=by
 obtain⟨b,q⟩:=iF (ns:=ns);have B:((k:Int)%14)=((k%14:Nat):Int):=by lia
 cases b with
 | true=>
  by_cases h:1+k/14<lN ns
  .obtain⟨r,F,z⟩:=iH (k:=k%14) (by lia);refine⟨r,λG=>?_⟩;unfold Ay Nj;rw[Af];have u:YC (ns.map D.int) (1+(k:Int)/14)=zI ns[1+k/14]:=Df (k:=1+k/14) (by lia) (by rw[zw,zX h];rfl);have y:(1+(k:Int)/14)<lN ns:=by lia
   simp[q,y,u];rw[B,z];simp[Az]
  obtain⟨r,F,z⟩:=iH (k:=k%14) (by lia);refine⟨r,λG=>?_⟩;unfold Ay Nj;rw[Af];have y:¬(1+(k:Int)/14)<lN ns:=by lia
  simp[q,y];rw[B,z];simp[Az]
 | false=>
  by_cases h:k<lN ns
  .refine⟨ns[k],λG=>?_⟩;unfold Ay Nj;rw[Af];have u:YC (ns.map D.int) (k:Int)=zI ns[k]:=Df rfl (by rw[zw,zX h];rfl);simp[q,h,u,Az]
  have C:∀G,Bo (.int k) (.int k) G=R.ok (.int ((k:Int)*k)) G:=λG=>Eu (by lia) (by lia)
  by_cases A:0<lN ns
  .have E:k%lN ns<lN ns:=Nat.mod_lt _ A;refine⟨48271*((k:Int)*k+7*lN ns)%2147483647+ns[k%lN ns]*69621%2147483629,λG=>?_⟩;unfold Ay Nj;rw[Af];have u:YC (ns.map D.int) ((k:Int)%lN ns)=zI ns[k%lN ns]:=Df (k:=k%lN ns) (by simp) (by rw[zw,zX E];rfl);simp[q,h,C,A,u,Az]
  .have e:ns=[]:=jq (by lia);subst e;refine⟨48271*((k:Int)*k+7*0)%2147483647,λG=>?_⟩;unfold Ay Nj;rw[Af];have w:∀G,Lb [.fl []] G=.ok (.bl u7) G:=q;have x:¬(k:Int)<0:=by lia
   simp[w,x,C,Az]
def cells(q:lN ns<=63):∃f:Nat->Int,∀k:Nat,k<=1000->∀G,Ay [.fl (ns.map D.int),.int k] G=.ok (.int (f k)) G:=by refine⟨λk=>if h:k<=1000 then(iI q h).choose else 0,λk hk=>?_⟩;simp[dif_pos hk];exact(iI q hk).choose_spec
abbrev nD(ns:List Int):D:=.fl (ns.map D.int) abbrev zN (ns:List Int):Option D:=u4 (nD ns) abbrev Cf (ns:List Int) (f:Nat->Int):Prop:=∀k:Nat,k<=1000->∀G,Ay [nD ns,.int k] G=.ok (.int (f k)) G abbrev Cu (ns:List Int) (u:Int):Prop:=∀G,Hg [nD ns] G=.ok (.int u) G abbrev Cy (ns:List Int) (u:Int):Prop:=∀G,Q0 [nD ns] G=.ok (.int u) G
structure Row where
 down:Option Nat
 RB:Int
 need:Int
 rank:Int
variable{rs:List Row}
noncomputable def XF:Option Nat->D
 |none=>.WA
 |some d=>.int d
def Row.enc(r:Row):D:=.tup [XF r.down,.int r.RB,.int r.need,.int r.rank]
@[simp]theorem Lu{n:Nat}{o:Option Nat}:PC n (XF o)=u6:=by cases o<;>rfl
@[simp]theorem FX{n:Nat}{r:Row}:PC n r.enc=u6:=by simp[Row.enc]
@[simp]theorem Lv{n:Nat}:XA n (rs.map Row.enc)=u6:=Dy λr _=>FX
@[simp]theorem dU{n:Nat}{xs:List Int}:XA n (xs.map D.int)=u6:=Dy λr _=>rfl
structure Fine (k n:Nat) (r:Row):Prop where
 dn:∀d,r.down=u4 d->k<d/\d<n
 w0:0<=r.RB
 n0:0<=r.need
 r0:0<=r.rank
def Reach(rs:List Row):Prop:=∀k r,rs[k]?=u4 r->Fine k (lN rs) r
noncomputable def tab(n:Nat)(F:Nat->Int):List D:=(zQ n).map λi=>D.int (F i)
def RC(F:Nat->Int)(d:Nat)(v:Int):Nat->Int:=λi=>if i=d then v else F i
@[simp]theorem FY{n:Nat}:lN (tab n F)=n:=by simp[tab]
@[simp]theorem Gy{n:Nat}:XA m (tab n F)=u6:=Dy λ_ _=>rfl
def Kp{n:Nat}(h:i<n):(tab n F)[i]?=zI (F i):=by unfold tab;rw[zw,zM h];rfl
def Du{n:Nat}(h:i<n):YC (tab n F) (i:Int)=zI (F i):=Df rfl (Kp h)
def O2{n:Nat}:(tab n F).set d (.int v)=tab n (RC F d v):=by
 refine jL λi=>?_
 by_cases q:i<n
 .by_cases e:d=i
  .subst e;rw[jy (by simpa using q),Kp q];simp[RC]
  rw[jV e,Kp q,Kp q];have:i≠d:=λz=>e z.symm
  simp[RC,this]
 rw[z0 (by simp;lia),z0 (by simp;lia)]
def iJ{n:Nat}{F':Nat->Int}(h:∀i,i<n->F i=F' i):tab n F=tab n F':=by
 unfold tab;refine qx λi q=>?_
 rw[h i (qK.mp q)]
noncomputable def col(g:Row->Int)(rs:List Row)(i:Nat):Int:=match rs[i]? with
 |some r=>g r
 |none=>0
def Bh(rs:List Row)(i:Nat):Option Nat:=rs[i]?.bind Row.down
theorem Ga(h:Reach rs){k:Nat}(e:Bh rs k=u4 d):k<d/\d<lN rs:=by
 unfold Bh at e;cases q:rs[k]? with
 |none=>rw[q]at e;cases e
 |some r=>rw[q]at e;exact(h k r q).dn d e
def Wj{k:Nat}(hk:k<lN rs):Bh rs k=rs[k].down:=by unfold Bh;rw[zX hk];rfl
def Rk{k:Nat}(hk:¬k<lN rs):Bh rs k=u5:=by unfold Bh;rw[z0 (by lia)];rfl
def OE(F:Nat->Int)(k:Nat)(o:Option Nat):Nat->Int:=match o with
 |none=>F
 |some d=>RC F d (F d+F k)
def OL(rs:List Row):Nat->Nat->(Nat->Int)->Nat->Int
 |0,_,F=>F
 |m+1,k,F=>OL rs m (k+1) (OE F k (Bh rs k))
noncomputable abbrev WE(rs:List Row)(F:Nat->Int):Nat->Int:=OL rs (lN rs) 0 F
def Wu{k:Nat}(hk:k<lN rs):YC (rs.map Row.enc) (k:Int)=zT [XF (Bh rs k),.int (col Row.RB rs k),.int (col Row.need rs k),.int (col Row.rank rs k)]:=
 Df rfl (by rw[zw,Wj hk];simp[col,zX hk,Row.enc])
theorem iK(A:Reach rs){t:D}:∀(m k:Nat)(F:Nat->Int)(x y:Option D),k+m=lN rs->∃u w,
  An (Ai 2 (Ab (gV 4) (Ab (gV 3) Ao))) Nr ((Dk (rs.map Row.enc)).drop k) [zF (rs.map Row.enc),u4 t,zR (lN G),x,y] (G++[.lst (tab (lN rs) F)])=
   .nx [zF (rs.map Row.enc),u4 t,zR (lN G),u,w] (G++[.lst (tab (lN rs) (OL rs m k F))])
 |0,k,F,x,y,h=>⟨x,y,by rw[qJ (by rw[Iu];simp;lia),Cj];rfl⟩
 | m+1,k,F,x,y,h=>by
  have hk:k<lN rs:=by lia
  have B:(Dk (rs.map Row.enc)).drop k=.tup [.int k,rs[k].enc]::(Dk (rs.map Row.enc)).drop (k+1):=by rw[qZ (by rw[Iu];simpa using hk)];simp[Dk]
  obtain⟨u,w,E⟩:=iK A m (k+1) (OE F k (Bh rs k)) (u4 rs[k].enc) (zI k) (by lia);refine⟨u,w,?_⟩;have I:Nr [zF (rs.map Row.enc),u4 t,zR (lN G),u4 rs[k].enc,zI k] (G++[.lst (tab (lN rs) F)])=
    .nx [zF (rs.map Row.enc),u4 t,zR (lN G),u4 rs[k].enc,zI k] (G++[.lst (tab (lN rs) (OE F k (Bh rs k)))]):=by
   unfold Nr;cases z:Bh rs k with
   |none=>
    have:rs[k].down=u5:=by rw[<-Wj hk];exact z
    simp[Row.enc,this,XF,OE]
   |some d=>
    have e:rs[k].down=u4 d:=by rw[<-Wj hk];exact z
    have q:=Ga A z;have C:(G++[DO.lst (tab (lN rs) F)])[lN G]?=u4 (.lst (tab (lN rs) F)):=by simp
    simp[Row.enc,e,XF,OE,Uw C (Du q.2),Bw,Du hk,Dt,Hq,q.2,O2]
  rw[B,Bs];simp[By,I];exact E
def Jg(rs:List Row)(i:Nat):D:=.tup [XF (Bh rs i),.int (col Row.RB rs i),.int (col Row.need rs i),.int (col Row.rank rs i)]
def iL:rs.map Row.enc=(zQ (lN rs)).map (Jg rs):=by
 refine jL λi=>?_
 by_cases q:i<lN rs
 .rw[zw,zw,zM q,zX q];simp[Jg,Row.enc,Wj q,col,zX q]
 rw[z0 (by simp;lia),z0 (by simp;lia)]
def iM(I:Reach rs)(K:lN rs<=40){t:D}(y:Bd t G=u4 (tab (lN rs) T)):My [.fl (rs.map Row.enc),t] G=.ok (.ref (lN G)) (G++[.lst (tab (lN rs) (WE rs λi=>col Row.RB rs i-T i))]):=by
 obtain⟨A,C,E⟩:=iK I (lN rs) 0 (λi=>col Row.RB rs i-T i) u5 u5 (by lia);have z:∀j,Ey [.fl (rs.map Row.enc),t] j G=u4 ((zQ (lN rs)).map λi=>D.tup [Jg rs i,.int (T i)])[j]? :=λj=>by
  rw[af eR y,Kg,iL,tab,List.zip_map',qP]
  rfl
 let F:D->Option D:=λd=>match d with
  |.tup [.tup [_,.int w,_,_],.int v]=>zI (w-v)
  |_=>u5
 have J:Cz (Ey [.fl (rs.map Row.enc),t]) (Ai 2 (Ab (gV 0) (Ab (gV 1) Ao))) Aw ar (Av 2 [] [zF (rs.map Row.enc),u4 t,u5,u5,u5]) (lN rs) 0 G=.ok (tab (lN rs) λi=>col Row.RB rs i-T i) G:=by
  rw[Ry (F:=F) z (λx B=>?_) (by simp)]
  .congr 1
   rw[qq];show(zQ (lN rs)).filterMap (λi=>zI (col Row.RB rs i-T i))=_;rw[qB]
   rfl
  obtain⟨i,_,rfl⟩:=zD.mp B;refine⟨[u4 (Jg rs i),zI (T i)],by simp[Av],.inr ⟨rfl,.int (col Row.RB rs i-T i),?_,rfl⟩⟩;unfold ar;simp[Jg]
 have u:lN rs<=1000000:=by lia
 unfold My gO;rw[Af];have q:Di (Dm 0 (.fl (rs.map Row.enc))) (Ai 2 (Ab (gV 4) (Ab (gV 3) Ao))) Nr (lN rs) 0 [zF (rs.map Row.enc),u4 t,zR (lN G),u5,u5] (G++[.lst (tab (lN rs) λi=>col Row.RB rs i-T i)])=.nx [zF (rs.map Row.enc),u4 t,zR (lN G),A,C] (G++[.lst (tab (lN rs) (WE rs λi=>col Row.RB rs i-T i))]):=by have:=zt (S:=[zF (rs.map Row.enc),u4 t,zR (lN G),u5,u5]) (G:=G++[.lst (tab (lN rs) λi=>col Row.RB rs i-T i)]) (g:=Ai 2 (Ab (gV 4) (Ab (gV 3) Ao))) (b:=Nr) (xs:=rs.map Row.enc);rw[zO]at this;rw[this];exact E
 simp[Rw (eR) y,J,Ae,u,q,Cq]
def iN{g:Row->Int}(h:∀r∈rs,0<=g r)(k:Nat):0<=col g rs k:=by
 unfold col;split
 .rename_i r q;exact h r (jW q)
 exact zL _
def Reach.need(h:Reach rs)(k:Nat):0<=col Row.need rs k:=iN (λr u=>by obtain⟨i,q,rfl⟩:=qj u;exact(h i _ (zX q)).n0) k
def Reach.RB(h:Reach rs)(k:Nat):0<=col Row.RB rs k:=iN (λr u=>by obtain⟨i,q,rfl⟩:=qj u;exact(h i _ (zX q)).w0) k
def iO(h:XA (lN G+1) ds=u6):freeze (G++[A]) (.ok (.ref (lN G+1)) (G++A:: .lst ds::L))=.ok (.fl ds) (G++[A]):=by have:=Dh (G:=G++[A]) (L:=L) (by simpa using h);simpa using this
def Ur(h:XA (lN G+1) ds=u6):tidy (G++[A]) (.ok (.ref (lN G+1)) (G++A:: .lst ds::L))=.ok (.ref (lN G+1)) (G++[A,.lst ds]):=by have:=Cq (G:=G++[A]) (L:=L) (by simpa using h);simpa using this
def bL{B:DO}(h:XA (lN G+2) ds=u6):freeze (G++[A,B]) (.ok (.ref (lN G+2)) (G++A::B:: .lst ds::L))=.ok (.fl ds) (G++[A,B]):=by have:=Dh (G:=G++[A,B]) (L:=L) (by simpa using h);simpa using this
def H7(rs:List Row):Nat->Nat->List Nat
 |0,k=>[k]
 |m+1,k=>k::(match Bh rs k with
  |none=>[]
  |some d=>H7 rs m d)
def way(rs:List Row)(k:Nat):List Nat:=H7 rs (lN rs) k
theorem iP(u:Reach rs):∀(m m' k:Nat),lN rs<=m+k+1->lN rs<=m'+k+1->H7 rs m k=H7 rs m' k
 | 0,m',k,h,x=>by
  have w:Bh rs k=u5:=by
   cases q:Bh rs k with
   |none=>rfl
   |some d=>have:=Ga u q;lia
  cases m' with
  |zero=>rfl
  |succ m'=>simp[H7,w]
 | m+1,0,k,h,x=>by
  have w:Bh rs k=u5:=by
   cases q:Bh rs k with
   |none=>rfl
   |some d=>have:=Ga u q;lia
  simp[H7,w]
 | m+1,m'+1,k,h,x=>by
  cases q:Bh rs k with
  |none=>simp[H7,q]
  |some d=>
   have:=Ga u q;simp[H7,q,iP u m m' d (by lia) (by lia)]
def Gw(rs:List Row):Option Nat->List Nat
 |none=>[]
 |some d=>way rs d
theorem Er(q:Reach rs)(k:Nat):way rs k=k::Gw rs (Bh rs k):=by
 unfold way;rw[iP q (lN rs) (lN rs+1) k (by lia) (by lia)];show k::_=_;cases u:Bh rs k with
 |_=>rfl
@[simp]theorem MA:XF (u4 d)=.int d:=id rfl
noncomputable def Ar(ws:List Nat):List D:=ws.map λ(i:Nat)=>D.int (i:Int)
@[simp]theorem iQ:XA m (Ar ws)=u6:=Dy λ_ _=>rfl
@[simp]theorem MB:lN (Ar ws)=lN ws:=by simp[Ar]
theorem iR(w:Reach rs)(B:lN rs<=40){x:Option D}:∀(m:Nat)(o:Option Nat)(acc:List Nat),0<m->(∀d,o=u4 d->d<lN rs/\lN rs-d<m/\lN acc+(lN rs-d)<=100)->
  WM Kz R6 m [zF (rs.map Row.enc),x,zR (lN G),u4 (XF o)] (G++[.lst (Ar acc)])=.nx [zF (rs.map Row.enc),x,zR (lN G),u4 .WA] (G++[.lst (Ar (acc++Gw rs o))])
 |0,o,acc,y,h=>by lia
 |m+1,u5,acc,y,h=>by
  have u:Kz [zF (rs.map Row.enc),x,zR (lN G),u4 (XF u5)] (G++[.lst (Ar acc)])=.ok u7 (G++[.lst (Ar acc)]):=by unfold Kz;simp[XF]
  unfold WM;rw[u];simp[Gw,XF]
 |m+1,u4 d,acc,y,h=>by
  obtain⟨z,F,E⟩:=h d rfl;have u:Kz [zF (rs.map Row.enc),x,zR (lN G),u4 (XF (u4 d))] (G++[.lst (Ar acc)])=.ok u6 (G++[.lst (Ar acc)]):=by unfold Kz;simp[XF]
  have q:lN acc<1000000:=by lia
  have A:R6 [zF (rs.map Row.enc),x,zR (lN G),u4 (XF (u4 d))] (G++[.lst (Ar acc)])=.nx [zF (rs.map Row.enc),x,zR (lN G),u4 (XF (Bh rs d))] (G++[.lst (Ar (acc++[d]))]):=by unfold R6;simp[Bw,Dt,q,Wu z,Ar]
  unfold WM;rw[u];simp only[R.Bp,if_true,A,Cd];rw[iR w B m (Bh rs d) (acc++[d]) (by lia) (λe C=>by have:=Ga w C;simp;lia)]
  have:Gw rs (u4 d)=d::Gw rs (Bh rs d):=Er w d;rw[this];simp
def FZ(q:Reach rs)(y:lN rs<=40){k:Nat}(hk:k<lN rs)(G:DH):Vm [.fl (rs.map Row.enc),.int k] G=.ok (.ref (lN G)) (G++[.lst (Ar (way rs k))]):=by
 have w:=iR q y (x:=zI k) (G:=G) fuel (Bh rs k) [k] (by unfold fuel;lia) (λd z=>by have:=Ga q z;unfold fuel;simp;lia)
 have u:WM Kz R6 fuel [zF (rs.map Row.enc),zI k,zR (lN G),u4 (XF (Bh rs k))] (G++[.lst [.int k]])=_:=w;rw[Er q];unfold Vm gS;rw[Af];simp[Ae,Cq,Wu hk,u]
def NQ(rs:List Row)(i j:Nat):Bool:=decide (col Row.rank rs i<col Row.rank rs j\/(col Row.rank rs i=col Row.rank rs j/\i<j))
def iS(rs:List Row):WO (NQ rs) where
 Tb:=λi j h=>by simp only[NQ,decide_eq_true_eq,decide_eq_false_iff_not]at h⊢;lia
 neg:=λi j k h=>by simp only[NQ,decide_eq_true_eq]at h⊢;lia
def ord(rs:List Row):List Nat:=if lN rs<2 then zQ (lN rs)else(Bq (NQ rs) (zi (lN rs))).toList
def Xu(rs:List Row):(ord rs).Perm (zQ (lN rs)):=by
 unfold ord;split
 .exact .refl _
 exact(di (iS rs) (by lia)).1
def Xh{k:Nat}(h:k∈ord rs):k<lN rs:=by have:=(Xu rs).mem_iff.mp h;simpa using this
def iT(rs:List Row):lN (ord rs)=lN rs:=by rw[(Xu rs).length_eq];simp
theorem iU{n:Nat}{lt q:Nat->Nat->Bool}(h:∀i j,i<n->j<n->lt i j=q i j){w:Type}{P:w->Prop}:∀{t:vc w},PF n P t->Bq lt t=Bq q t
 |.ret _,_=>rfl
 |.ask i j k,u=>by show Bq lt (k (lt i j))=Bq q (k (q i j));rw[h i j u.1 u.2.1];exact iU h (u.2.2 _)
def Eb(rs:List Row)(k:Nat):D:=.tup [.int (col Row.rank rs k),.int k]
def iV(i j:Nat):U2 (Eb rs i) (Eb rs j)=u4 (NQ rs i j):=by
 have e:U2 (Eb rs i) (Eb rs j)=if col Row.rank rs i=col Row.rank rs j then(if(i:Int)=j then u4 u7 else u4 (decide ((i:Int)<j)))else u4 (decide (col Row.rank rs i<col Row.rank rs j)):=rfl
 rw[e];by_cases h:col Row.rank rs i=col Row.rank rs j
 .rw[if_pos h];by_cases q:(i:Int)=j
  .rw[if_pos q]
   congr 1
   simp only[NQ]
   symm
   simp only[decide_eq_false_iff_not];lia
  rw[if_neg q]
  congr 1
  simp only[NQ];rw[decide_eq_decide];lia
 rw[if_neg h]
 congr 1
 simp only[NQ];rw[decide_eq_decide];lia
def Fe(rs:List Row):List D:=(zQ (lN rs)).map (Eb rs)
def Y0(h:i<lN rs):(Fe rs).getD i .WA=Eb rs i:=by unfold Fe;rw[zk,zw,zM h];rfl
def iW(rs:List Row):K9 (Fe rs)=(ord rs).map (Eb rs):=by
 have w:lN (Fe rs)=lN rs:=by simp[Fe]
 unfold K9 ord;rw[w];split
 .rfl
 .rename_i h;have e:Bq (ltI (Fe rs)) (zi (lN rs))=Bq (NQ rs) (zi (lN rs)):=
   iU (λi j q u=>by unfold ltI;rw[Y0 q,Y0 u,iV];rfl) (yo (by lia))
  rw[e];exact qx λi q=>(Y0 (by simpa using((di (iS rs) (n:=lN rs) (by lia)).1).mem_iff.mp q))
def F0(rs:List Row):Mx (Fe rs)=u6:=by
 unfold Mx Fe;rw[z7,jG];refine⟨.inl ?_,?_⟩
 .rw[qw];intro x q;obtain⟨i,_,rfl⟩:=zD.mp q
  rfl
 rw[qw];intro x q;rw[qw];intro y u;obtain⟨i,_,rfl⟩:=zD.mp q;obtain⟨j,_,rfl⟩:=zD.mp u;rw[iV];rfl
@[simp]theorem F4:XA m (ws.map (Eb rs))=u6:=Dy λ_ _=>by simp[Eb]
def F5(K:lN rs<=40)(G:DH):Vr [.fl (rs.map Row.enc)] G=.ok (.ref (lN G)) (G++[.lst (Ar (ord rs))]):=by
 have I:∀j,Dm 0 (.fl (rs.map Row.enc)) j G=u4 ((zQ (lN rs)).map λ(k:Nat)=>D.tup [.int (k:Int),Jg rs k])[j]? :=λj=>by
  rw[Th,Dk,iL,List.zipIdx_map,qP]
  congr 2
  refine qG (by simp) λi z J=>by simp
 let F:D->Option D:=λd=>match d with
  |.tup [.int k,.tup [_,_,_,.int r]]=>zT [.int r,.int k]
  |_=>u5
 have B:Cz (Dm 0 (.fl (rs.map Row.enc))) (Ai 2 (Ab (gV 0) (Ab (gV 1) Ao))) Aw X8 (Av 2 [] [zF (rs.map Row.enc),u5]) (lN rs) 0 G=.ok (Fe rs) G:=by
  rw[Ry (F:=F) I (λx w=>?_) (by simp)]
  .congr 1
   rw[qq];show(zQ (lN rs)).filterMap (λi=>u4 (Eb rs i))=_;rw[qB]
   rfl
  obtain⟨i,_,rfl⟩:=zD.mp w;refine⟨[zI i,u4 (Jg rs i)],by simp[Av],.inr ⟨rfl,Eb rs i,?_,rfl⟩⟩;unfold X8;simp[Jg,Eb,Ag]
 let A:D->Option D:=λd=>match d with
  |.tup [_,k]=>u4 k
  |_=>u5
 have WS:∀S,Bv (Ai 2 (Ab (gV 0) (Ab (gV 1) Ao))) Aw au (Av 2 [] S) ((ord rs).map (Eb rs)) G=.ok (Ar (ord rs)) G:=λS=>by
  rw[T9 (F:=A) (λx w=>?_)]
  .congr 1
   rw[qq];show(ord rs).filterMap (λ(i:Nat)=>zI (i:Int))=_;rw[qB]
   rfl
  obtain⟨i,_,rfl⟩:=zD.mp w;refine⟨[zI (col Row.rank rs i),zI i],by simp[Av,Eb],.inr ⟨rfl,.int i,?_,rfl⟩⟩;unfold au;simp
 have q:lN (Fe rs)=lN rs:=by simp[Fe]
 have u:lN rs<=1000000:=by lia
 have C:∀G,Ml [.fl (Fe rs)] G=.ok (.ref (lN G)) (G++[.lst ((ord rs).map (Eb rs))]):=λG=>by have z:G7 (.fl (Fe rs)) G=u4 (Fe rs):=rfl;simp[Ml,z];rw[if_pos ⟨⟨by rw[q];lia,by rw[iW];simp[iT];lia⟩,F0 rs⟩,iW]
 have y:XA (lN G) (Fe rs)=u6:=F4;have E:=iT rs;unfold Vr gR;rw[Af];simp[B,Ae,q,u,Dh,y,C,WS,by omega,Cq]
noncomputable def MO(P:Nat->Int):List Nat->Int
 |[]=>0
 |k::r=>(r.map P).foldl min (P k)
theorem Vt{b:Nat}(h:b∈ws):MO P ws<=P b:=by
 cases ws with
 |nil=>cases h
 |cons k r=>
  obtain⟨q,u,_⟩:=Vv (r.map P) (P k);rcases zK.mp h with rfl|h
  .exact q
  exact u _ (zD.mpr ⟨b,h,rfl⟩)
theorem bM(h:ws≠[]):∃b∈ws,MO P ws=P b:=by
 cases ws with
 |nil=>exact absurd rfl h
 |cons k r=>
  obtain⟨_,_,q⟩:=Vv (r.map P) (P k);rcases q with q|q
  .exact⟨k,zW,q⟩
  obtain⟨b,u,e⟩:=zD.mp q;exact⟨b,zJ _ u,e.symm⟩
theorem F6{Q:Nat->Int}(h:∀b∈ws,P b=Q b):MO P ws=MO Q ws:=by
 cases ws with
 |nil=>rfl
 |cons k r=>
  show(r.map P).foldl min (P k)=(r.map Q).foldl min (Q k);rw[qx λb q=>h b (zJ _ q),h k zW]
def Eg(P:Nat->Int)(ws:List Nat)(t:Int):Nat->Int:=λi=>if i∈ws then P i-t else P i
def U7(P:Nat->Int)(t:Int)(ws:List Nat):Nat->Int:=ws.foldl (λP b=>RC P b (P b-t)) P
theorem iX{t:Int}:∀{ws:List Nat}{P:Nat->Int},ws.Nodup->U7 P t ws=Eg P ws t
 |[],P,_=>by funext i;simp[U7,Eg]
 |b::ws,P,h=>by
  obtain⟨q,u⟩:=qM.mp h;show U7 (RC P b (P b-t)) t ws=_;rw[iX u];funext i;by_cases e:i=b
  .subst e;simp[Eg,RC,q]
  simp[Eg,RC,e]
theorem iY(u:Reach rs):∀(m k:Nat),lN rs<=m+k->k<lN rs->∀b∈way rs k,k<=b/\b<lN rs
 |0,k,h,hk,b,q=>by lia
 | m+1,k,h,hk,b,q=>by
  rw[Er u]at q;rcases zK.mp q with rfl|q
  .lia
  cases w:Bh rs k with
  |none=>rw[w]at q;cases q
  |some d=>
   have:=Ga u w;rw[w]at q;have:=iY u m d (by lia) (by lia) b q;lia
def Nf(q:Reach rs){k b:Nat}(hk:k<lN rs)(u:b∈way rs k):k<=b/\b<lN rs:=iY q (lN rs) k (by lia) hk b u
theorem iZ(q:Reach rs):∀(m k:Nat),lN rs<=m+k->(way rs k).Nodup
 |0,k,h=>by rw[Er q,Rk (by lia)];simp[Gw]
 | m+1,k,h=>by
  rw[Er q];cases x:Bh rs k with
  |none=>simp[Gw]
  |some d=>
   have u:=Ga q x;refine qM.mpr ⟨λw=>?_,iZ q m d (by lia)⟩;have:=Nf q u.2 w;lia
def F7(q:Reach rs)(k:Nat):(way rs k).Nodup:=iZ q (lN rs) k (by lia)
theorem i3(q:Reach rs):∀(m k:Nat),lN rs<=m+k->lN (way rs k)<=m+1
 |0,k,h=>by rw[Er q,Rk (by lia)];simp[Gw]
 | m+1,k,h=>by
  rw[Er q];cases w:Bh rs k with
  |none=>simp[Gw]
  |some d=>
   have u:=Ga q w;have:=i3 q m d (by lia);show lN (way rs d)+1<=_;lia
def F8(q:Reach rs)(k:Nat):k∈way rs k:=by rw[Er q];exact zW
def take1(rs:List Row)(P:Nat->Int)(k:Nat):Int:=min (col Row.need rs k) (MO P (way rs k))
def SQ(rs:List Row):List Nat->(Nat->Int)->(Nat->Int)->(Nat->Int)×(Nat->Int)
 |[],P,T=>(P,T)
 |k::ks,P,T=>SQ rs ks (Eg P (way rs k) (take1 rs P k)) (RC T k (take1 rs P k))
def shr(rs:List Row):Nat->Int:=(SQ rs (ord rs) (WE rs (col Row.RB rs)) λ_=>0).2
noncomputable def pD(P:Nat->Int)(ws:List Nat):List D:=ws.map λi=>D.int (P i)
@[simp]theorem MC:lN (pD P ws)=lN ws:=by simp[pD]
@[simp]theorem F9:XA m (pD P ws)=u6:=Dy λ_ _=>rfl
theorem i4{a b c d e:Option D}{t:Int}:∀(ws:List Nat)(P:Nat->Int)(x:Option D),(∀b∈ws,b<lN rs)->∃u,
  An (gV 6) Rn (Ar ws) [a,b,zR (lN G+1),c,d,zI t,x] (G++[A,.lst (tab (lN rs) P)])=.nx [a,b,zR (lN G+1),c,d,zI t,u] (G++[A,.lst (tab (lN rs) (U7 P t ws))])
 |[],P,x,h=>⟨x,rfl⟩
 |w::ws,P,x,h=>by
  obtain⟨u,z⟩:=i4 (e:=e) ws (RC P w (P w-t)) (zI w) λb q=>h b (zJ _ q)
  refine⟨u,?_⟩;have hw:=h w zW;have y:(G++[A,DO.lst (tab (lN rs) P)])[lN G+1]?=u4 (.lst (tab (lN rs) P)):=Oz _ 1;have q:Rn [a,b,zR (lN G+1),c,d,zI t,zI w] (G++[A,.lst (tab (lN rs) P)])=.nx [a,b,zR (lN G+1),c,d,zI t,zI w] (G++[A,.lst (tab (lN rs) (RC P w (P w-t)))]):=by unfold Rn;simp[Uw y (Du hw),y,λL o=>Vl L 1 o,Hq,hw,O2]
  show An _ _ (.int w::Ar ws) _ _=_;rw[Bs];simp[By,R.Bp,qY,q,Cd];exact z
theorem i5(C:Reach rs)(W:lN rs<=40){G:DH}:∀(ks:List Nat)(P T:Nat->Int)(x y z w:Option D),(∀k∈ks,k<lN rs)->∃M N L J,
  An (gV 3) Qh (Ar ks) [zF (rs.map Row.enc),zR (lN G),zR (lN G+1),x,y,z,w] (G++[.lst (tab (lN rs) T),.lst (tab (lN rs) P)])=
   .nx [zF (rs.map Row.enc),zR (lN G),zR (lN G+1),M,N,L,J] (G++[.lst (tab (lN rs) (SQ rs ks P T).2),.lst (tab (lN rs) (SQ rs ks P T).1)])
 |[],P,T,x,y,z,w,h=>⟨x,y,z,w,rfl⟩
 | k::ks,P,T,x,y,z,w,h=>by
  have hk:=h k zW;have E:∀b∈way rs k,b<lN rs:=λb O=>(Nf C hk O).2
  obtain⟨U,u⟩:=i4 (a:=zF (rs.map Row.enc)) (b:=zR (lN G)) (c:=zI k) (d:=zF (Ar (way rs k))) (e:=u5) (t:=take1 rs P k) (A:=.lst (tab (lN rs) (RC T k (take1 rs P k)))) (G:=G) (way rs k) P w E;rw[iX (F7 C k)]at u;obtain⟨M,N,L,J,X⟩:=i5 C W ks (Eg P (way rs k) (take1 rs P k)) (RC T k (take1 rs P k)) (zI k) (zF (Ar (way rs k))) (zI (take1 rs P k)) U λj Z=>h j (zJ _ Z)
  refine⟨M,N,L,J,?_⟩;have B:Bv (gV 0) Aw av (Av 1 [2] [zF (rs.map Row.enc),zR (lN G),zR (lN G+1),zI k,zF (Ar (way rs k)),z,w]) (Ar (way rs k)) (G++[DO.lst (tab (lN rs) T),DO.lst (tab (lN rs) P)])=.ok (pD P (way rs k)) (G++[DO.lst (tab (lN rs) T),DO.lst (tab (lN rs) P)]):=by
   rw[T9 (F:=λd=>match d with | .int i=>zI (P i.toNat)|_=>u5) (λq Y=>?_)]
   .congr 1
    unfold Ar;rw[qq];show(way rs k).filterMap (λ(i:Nat)=>zI (P ((i:Int).toNat)))=_;rw[qB];simp[pD]
   obtain⟨i,hi,rfl⟩:=zD.mp Y;refine⟨[zI i,zR (lN G+1)],by simp[Av],.inr ⟨rfl,.int (P i),?_,by simp⟩⟩;unfold av;simp[Oz _ 1,Du (E i hi)]
  have Q:lN (way rs k)<=1000000:=by have h1:=i3 C (lN rs) k (by lia);lia
  have I:∀G,Ht [.fl (pD P (way rs k))] G=.ok (.int (MO P (way rs k))) G:=λG=>by rw[Er C];exact eS (by simp[pD])
  have O:Qh [zF (rs.map Row.enc),zR (lN G),zR (lN G+1),zI k,y,z,w] (G++[.lst (tab (lN rs) T),.lst (tab (lN rs) P)])=
    .nx [zF (rs.map Row.enc),zR (lN G),zR (lN G+1),zI k,zF (Ar (way rs k)),zI (take1 rs P k),U] (G++[.lst (tab (lN rs) (RC T k (take1 rs P k))),.lst (tab (lN rs) (Eg P (way rs k) (take1 rs P k)))]):=by
   unfold Qh;have K:min (col Row.need rs k) (MO P (way rs k))=take1 rs P k:=rfl;simp[FZ C W hk,bL iQ,Wu hk,B,Ae,Q,bL F9,I,K,Bw,Dt,Hq,hk,O2,u]
  show An _ _ (.int k::Ar ks) _ _=_;rw[Bs];simp[By,R.Bp,qY,O,Cd];exact X
def Fa(z:Reach rs)(y:lN rs<=40)(G:DH):W8 [.fl (rs.map Row.enc)] G=.ok (.ref (lN G)) (G++[.lst (tab (lN rs) (shr rs))]):=by
 have B:zV (lN rs) (D.int 0)=tab (lN rs) λ_=>0:=by unfold tab;refine qG (by simp) λi K L=>by simp
 have q:Dv (.ref (lN G)) (.int (lN rs:Int)) (G++[.lst [.int 0]])=.ok (.ref (lN G+1)) (G++[.lst [.int 0],.lst (tab (lN rs) λ_=>0)]):=by rw[eU (by rw[Bw];rfl) (by lia),B];simp
 have w:tidy G (.ok (.ref (lN G+1)) (G++[.lst [.int 0],.lst (tab (lN rs) λ_=>0)]))=.ok (.ref (lN G)) (G++[.lst (tab (lN rs) λ_=>0)]):=aW _ rfl Gy;have hp:My [.fl (rs.map Row.enc),.ref (lN G)] (G++[.lst (tab (lN rs) λ_=>0)])=.ok (.ref (lN G+1)) (G++[.lst (tab (lN rs) λ_=>0),.lst (tab (lN rs) (WE rs (col Row.RB rs)))]):=by rw[iM z y (zu (by rw[Bw];rfl))];simp
 obtain⟨C,E,J,I,F⟩:=i5 z y (ord rs) (WE rs (col Row.RB rs)) (λ_=>0) u5 u5 u5 u5 λk hk=>Xh hk
 have u:∀A,tidy G (.ok (.ref (lN G)) (G++[.lst (tab (lN rs) (shr rs)),A]))=.ok (.ref (lN G)) (G++[.lst (tab (lN rs) (shr rs))]):=λA=>Cq Gy
 have x:An (gV 3) Qh (Ar (ord rs)) [zF (rs.map Row.enc),zR (lN G),zR (lN G+1),u5,u5,u5,u5] (G++[.lst (tab (lN rs) λ_=>0),.lst (tab (lN rs) (WE rs (col Row.RB rs)))])=
   .nx [zF (rs.map Row.enc),zR (lN G),zR (lN G+1),C,E,J,I] (G++[.lst (tab (lN rs) (shr rs)),.lst (tab (lN rs) (SQ rs (ord rs) (WE rs (col Row.RB rs)) λ_=>0).1)]):=F
 unfold W8 gT;rw[Af];simp[Ae,q,w,hp,Ur Gy,F5 y,bL iQ,x,u]
def ind(t:Int)(ws:List Nat):Nat->Int:=λi=>if i∈ws then t else 0
theorem bN(u:Reach rs){k:Nat}{t:Int}:∀(m j:Nat)(A:Nat->Int),k<j->OL rs m j (λi=>A i+ind t [k] i)=λi=>OL rs m j A i+ind t [k] i
 |0,j,A,h=>rfl
 | m+1,j,A,h=>by
  unfold OL;have e:OE (λi=>A i+ind t [k] i) j (Bh rs j)=λi=>OE A j (Bh rs j) i+ind t [k] i:=by
   cases y:Bh rs j with
   |none=>rfl
   |some d=>
    have:=Ga u y;funext i;simp only[OE,RC,ind,qF];have w:j≠k:=by lia
    have x:d≠k:=by lia
    by_cases q:i=d
    .subst q;simp[w,x]
    simp[q]
  rw[e,bN u m (j+1) _ (by lia)]
theorem Wk(u:Reach rs){t:Int}:∀(m j k:Nat)(A:Nat->Int),j+m=lN rs->j<=k->k<lN rs->OL rs m j (λi=>A i+ind t [k] i)=λi=>OL rs m j A i+ind t (way rs k) i
 |0,j,k,A,h,C,B=>by lia
 | m + 1,j,k,A,h,C,B=>by
  unfold OL;by_cases E:j<k
  .have e:OE (λi=>A i+ind t [k] i) j (Bh rs j)=λi=>OE A j (Bh rs j) i+ind t [k] i:=by
    cases x:Bh rs j with
    |none=>rfl
    |some d=>
     funext i;simp[OE,RC,ind,qF];have z:j≠k:=by lia
     by_cases q:i=d
     .subst q;simp[z];split <;> lia
     simp[q]
   rw[e,Wk u m (j+1) k _ (by lia) (by lia) B]
  have I:j=k:=by lia
  subst I;cases x:Bh rs j with
  |none=>
   have hw:way rs j=[j]:=by rw[Er u,x];rfl
   show OL rs m (j+1) (λi=>A i+ind t [j] i)=_;rw[bN u m (j+1) A (by lia),hw]
   rfl
  | some d=>
   have w:=Ga u x;have hw:way rs j=j::way rs d:=by rw[Er u,x];rfl
   have e:OE (λi=>A i+ind t [j] i) j (u4 d)=λi=>(OE A j (u4 d) i+ind t [d] i)+ind t [j] i:=by
    funext i;simp[OE,RC,ind,qF];have z:d≠j:=by lia
    by_cases q:i=d
    .subst q;simp[z];lia
    simp[q]
   rw[e,bN u m (j+1) _ (by lia),Wk u m (j+1) d _ (by lia) (by lia) w.2];funext i;have y:j∉way rs d:=λF=>by have:=Nf u w.2 F;lia
   simp[ind,hw,zK,qF];by_cases q:i=j
   .subst q;simp[y]
   simp[q]
def Fc(w:Reach rs){k:Nat}{t:Int}(hk:k<lN rs)(u:T k=0):WE rs (λi=>W i-RC T k t i)=Eg (WE rs λi=>W i-T i) (way rs k) t:=by
 have e:(λi=>W i-RC T k t i)=λi=>(W i-T i)+ind (-t) [k] i:=by
  funext i;simp[RC,ind,qF];by_cases q:i=k
  .subst q;simp[u];lia
  simp[q]
 rw[e];show OL rs (lN rs) 0 _=_;rw[Wk w (lN rs) 0 k _ (by lia) (by lia) hk];funext i;simp[ind,Eg,WE]
 split <;> lia
theorem bO:∀(m k:Nat)(F:Nat->Int),(∀i,0<=F i)->∀i,0<=OL rs m k F i
 |0,k,F,h,i=>h i
 | m+1,k,F,h,i=>by
  refine bO m (k+1) _ (λj=>?_) i;cases Bh rs k with
  |none=>exact h j
  |some d=>
   simp[OE,RC];have:=h d;have:=h k;have:=h j
   split <;> lia
structure SI (rs:List Row) (P T:Nat->Int):Prop where
 pg:P=WE rs λi=>col Row.RB rs i-T i
 t0:∀i,0<=T i
 tn:∀i,T i<=col Row.need rs i
 p0:∀i,i<lN rs->0<=P i
theorem i6(h:∀b∈ws,0<=P b):0<=MO P ws:=by
 cases ws with
 |nil=>exact zL _
 |cons k r=>
  obtain⟨b,q,e⟩:=bM (ws:=k::r) (by simp);rw[e];exact h b q
def SI.take(u:Reach rs)(s:SI rs P T){k:Nat}(hk:k<lN rs):0<=take1 rs P k/\take1 rs P k<=col Row.need rs k/\∀b∈way rs k,take1 rs P k<=P b:=by
 have w:=i6 λb q=>s.p0 b (Nf u hk q).2
 have x:=u.need k;unfold take1;refine⟨by lia,by lia,λb q=>?_⟩;have:=Vt (P:=P) q;lia
def SI.step(q:Reach rs)(s:SI rs P T){k:Nat}(hk:k<lN rs)(u:T k=0):SI rs (Eg P (way rs k) (take1 rs P k)) (RC T k (take1 rs P k)):=by
 obtain⟨a,b,c⟩:=s.take q hk;refine⟨?_,λi=>?_,λi=>?_,λi w=>?_⟩
 .rw[Fc q hk u,<-s.pg]
 .simp[RC];split
  .exact a
  exact s.t0 i
 .simp[RC];split
  .rename_i e;rw[e];exact b
  exact s.tn i
 simp[Eg];split
 .rename_i x;have:=c i x;lia
 exact s.p0 i w
theorem SI.run(w:Reach rs):∀(ks:List Nat)(P T:Nat->Int),SI rs P T->ks.Nodup->(∀k∈ks,k<lN rs/\T k=0)->SI rs (SQ rs ks P T).1 (SQ rs ks P T).2
 |[],P,T,s,_,_=>s
 |k::ks,P,T,s,z,h=>by
  obtain⟨y,A⟩:=qM.mp z;obtain⟨hk,B⟩:=h k zW;refine SI.run w ks _ _ (s.step w hk B) A λj x=>?_
  obtain⟨u,q⟩:=h j (zJ _ x);have:j≠k:=λe=>y (e▸x)
  exact⟨u,by simp[RC,this,q]⟩
def i7(rs:List Row):(ord rs).Nodup:=(Xu rs).nodup_iff.mpr List.nodup_range
def SI.first(q:Reach rs):SI rs (WE rs (col Row.RB rs)) λ_=>0:=
 ⟨by simp,λ_=>zL _,q.need,λi _=>bO _ _ _ q.RB i⟩
def Tf(q:Reach rs):SI rs (SQ rs (ord rs) (WE rs (col Row.RB rs)) λ_=>0).1 (shr rs):=
 SI.run q (ord rs) _ _ (SI.first q) (i7 rs) λk hk=>⟨Xh hk,rfl⟩
def rp:¬(("pump":Str)="river"):=by decide
def pr:¬(("river":Str)="pump"):=by decide
structure UD where
 h:Int
 m:Int
 r:Bool
variable{st:List UD}
def wy(r:Bool):Str:=if r then "river" else "pump"
def UD.enc(s:UD):D:=.tup [.int s.h,.int s.m,.str (wy s.r)]
@[simp]theorem MD{n:Nat}:XA n (st.map UD.enc)=u6:=Dy λs _=>by simp[UD.enc]
@[simp]theorem ME{r:Bool}:(wy r="river")=(r=u6):=by
 cases r
 .exact propext ⟨λh=>absurd h rp,λh=>by cases h⟩
 exact propext ⟨λh=>rfl,λ_=>rfl⟩
@[simp]theorem MF{r:Bool}:(wy r="pump")=(r=u7):=by
 cases r
 .exact propext ⟨λh=>rfl,λ_=>rfl⟩
 exact propext ⟨λh=>absurd h pr,λh=>by cases h⟩
abbrev YL:=Int×List UD
def Bl(s:YL):D:=.tup [.int s.1,.tup (s.2.map UD.enc)]
@[simp]theorem MG{n:Nat}{ss:List YL}:XA n (ss.map Bl)=u6:=Dy λs _=>by simp[Bl]
def held(t:Int):List YL->List UD->List UD
 |[],h=>h
 |s::r,h=>held t r (if s.1<=t then s.2 else h)
theorem i8{c:D}{t:Int}:∀{ss:List YL}{h:List UD}{a b:Option D},∃q u,An (Ai 2 (Ab (gV 3) (Ab (gV 4) Ao))) W7 (ss.map Bl) [u4 c,zI t,zT (h.map UD.enc),a,b] G=
  .nx [u4 c,zI t,zT ((held t ss h).map UD.enc),q,u] G
 |[],h,a,b=>⟨a,b,by rw[jN,Cj];rfl⟩
 | s::r,h,a,b=>by
  obtain⟨q,u,x⟩:=i8;refine⟨q,u,?_⟩;have y:W7 [u4 c,zI t,zT (h.map UD.enc),zI s.1,zT (s.2.map UD.enc)] G=.nx [u4 c,zI t,zT ((if s.1<=t then s.2 else h).map UD.enc),zI s.1,zT (s.2.map UD.enc)] G:=by
   unfold W7
   by_cases w:s.1<=t<;>simp[w]
  rw[zy,Bs];simp[Bl,Mp,Mg,Oc,By,R.Hu,R.Bp,qY,y,Cd,zH,qT,Nat.reduceAdd,if_true];exact x
def p?{ss:List YL}{t:Int}:Ro [.tup (ss.map Bl),.int t] G=.ok (.tup ((held t ss []).map UD.enc)) G:=by obtain⟨a,b,h⟩:=i8 (c:=.tup (ss.map Bl)) (t:=t) (G:=G) (ss:=ss) (h:=[]) (a:=u5) (b:=u5);unfold Ro gM;rw[Af];simp at h;simp[h,Az]
noncomputable def TK(w:Int)(s:UD):Int:=max 0 (min s.m (w-s.h))
def rv(w:Int):List UD->Int
 |[]=>0
 |s::r=>(if s.r then TK w s else 0)+rv w r
def pm(w:Int):List UD->Int
 |[]=>0
 |s::r=>(if s.r then 0 else TK w s)+pm w r
theorem i9{c:D}{w:Int}:∀{st:List UD}{a b:Int}{e f g h:Option D},∃u q g' h',An (Ai 3 (Ab (gV 4) (Ab (gV 5) (Ab (gV 6) Ao)))) Wo (st.map UD.enc) [u4 c,zI w,zI a,zI b,e,f,g,h] G=
  .nx [u4 c,zI w,zI (a+rv w st),zI (b+pm w st),u,q,g',h'] G
 |[],a,b,e,f,g,h=>⟨e,f,g,h,by simp[Cj,rv,pm]⟩
 | s::r,a,b,e,f,g,h=>by
  obtain⟨u,q,g',h',x⟩:=i9;refine⟨u,q,g',h',?_⟩;have y:Wo [u4 c,zI w,zI a,zI b,zI s.h,zI s.m,zS (wy s.r),h] G=.nx [u4 c,zI w,zI (a+(if s.r then TK w s else 0)),zI (b+(if s.r then 0 else TK w s)),zI s.h,zI s.m,zS (wy s.r),zI (TK w s)] G:=by
   unfold Wo TK
   cases s.r<;>simp
  rw[zy,Bs];simp[UD.enc,y];rw[x];simp[rv,pm,Int.add_assoc]
def ia{w:Int}:Uu [.tup (st.map UD.enc),.int w] G=.ok (.tup [.int (rv w st),.int (pm w st),.int (w-rv w st-pm w st)]) G:=by obtain⟨e,f,g,h,q⟩:=i9 (c:=.tup (st.map UD.enc)) (w:=w) (G:=G) (st:=st) (a:=0) (b:=0) (e:=u5) (f:=u5) (g:=u5) (h:=u5);unfold Uu gL;rw[Af];simp at q;simp[q,Az]
inductive Kd where
 |NA (UK:Int) (rule:List YL) (YU:Option (Nat×Nat×Int))
 |XE (need rank:Int)
 |SM (most:Int)
structure Pl where
 nm:Str
 dn:Option Nat
 dl:Nat
 kd:Kd
def Xq:Pl:=⟨"",u5,0,.SM 0⟩
structure Hs where
 yr:Int
 ps:List Pl
variable{h:Hs}
noncomputable def Kd.ZK:Kd->Str
 |.NA ..=>"basin"
 |.XE ..=>"town"
 |.SM ..=>"mill"
noncomputable def Kd.SD:Kd->Bool
 |.NA ..=>u6
 |_=>u7
noncomputable def Kd.isT:Kd->Bool
 |.XE ..=>u6
 |_=>u7
def Hs.pl(h:Hs)(k:Nat):Pl:=h.ps.getD k Xq
def Hs.n(h:Hs):Nat:=lN h.ps
def Hs.P4(h:Hs):Option Nat->Str
 |none=>"sea"
 |some d=>(h.pl d).nm
def Hs.Lr(h:Hs):Option (Nat×Nat×Int)->D
 |none=>.WA
 |some (to,dl,m)=>.tup [.str (h.pl to).nm,.int dl,.int m]
def Hs.VC(h:Hs)(p:Pl):D:=match p.kd with
 |.NA b r q=>.tup [.str "basin",.str p.nm,.str (h.P4 p.dn),.int p.dl,.int b,.tup (r.map Bl),h.Lr q]
 |.XE a b=>.tup [.str "town",.str p.nm,.str (h.P4 p.dn),.int p.dl,.int a,.int b]
 |.SM a=>.tup [.str "mill",.str p.nm,.str (h.P4 p.dn),.int p.dl,.int a]
def Hs.Cg(h:Hs):List D:=h.ps.map h.VC
def Hs.enc(h:Hs):D:=.tup [.int h.yr,.tup h.Cg]
def Good:Int->List UD->Prop
 |_,[]=>True
 |t,s::r=>t<=s.h/\1<=s.m/\Good (s.h+s.m) r
structure SA (h:Hs):Prop where
 yr:0<h.yr
 len:h.n<=12
 inj:∀i j,i<h.n->j<h.n->(h.pl i).nm=(h.pl j).nm->i=j
 sea:∀i,i<h.n->(h.pl i).nm≠"sea"
 dn:∀k d,k<h.n->(h.pl k).dn=u4 d->k<d/\d<h.n
 dl:∀k,k<h.n->(h.pl k).dl<=5
 YU:∀k b r to dl m,k<h.n->(h.pl k).kd=.NA b r (u4 (to,dl,m))->to<h.n/\1<=dl/\dl<=5
 UK:∀k b r q,k<h.n->(h.pl k).kd=.NA b r q->0<=b/\∀s∈r,Good 0 s.2
 XE:∀k a b,k<h.n->(h.pl k).kd=.XE a b->0<=a/\0<=b
def Hs.Hh:lN h.Cg=h.n:=by simp[Hs.Cg,Hs.n]
def Hs.ib{k:Nat}(hk:k<h.n):h.Cg[k]?=u4 (h.VC (h.pl k)):=by unfold Hs.Cg Hs.pl;rw[zw,zX hk];simp[zk,zX hk]
def Hs.Dw{k:Nat}(hk:k<h.n):YC h.Cg (k:Int)=u4 (h.VC (h.pl k)):=Df rfl (Hs.ib hk)
theorem Hs.Fh{n:Nat}{q:Option (Nat×Nat×Int)}:PC n (h.Lr q)=u6:=by
 cases q with
 |none=>rfl
 |some x=>obtain⟨a,b,c⟩:=x;simp[Hs.Lr]
@[simp]theorem Hs.Fk{n:Nat}{p:Pl}:PC n (h.VC p)=u6:=by
 unfold Hs.VC
 cases p.kd<;>simp[Hs.Fh]
@[simp]theorem Hs.MH{n:Nat}:XA n h.Cg=u6:=Dy λ_ _=>Hs.Fk
section
variable{h:Hs}{p:Pl}{G:DH}
@[simp]theorem encP0:Bj (h.VC p) (.int 0) G=.ok (.str p.kd.ZK) G:=by
 unfold Hs.VC
 cases p.kd<;>simp[Kd.ZK]
@[simp]theorem encP1:Bj (h.VC p) (.int 1) G=.ok (.str p.nm) G:=by
 unfold Hs.VC
 cases p.kd<;>simp
@[simp]theorem encP2:Bj (h.VC p) (.int 2) G=.ok (.str (h.P4 p.dn)) G:=by
 unfold Hs.VC
 cases p.kd<;>simp
@[simp]theorem encP3:Bj (h.VC p) (.int 3) G=.ok (.int p.dl) G:=by
 unfold Hs.VC
 cases p.kd<;>simp
def Cr:Bj h.enc (.int 1) G=.ok (.tup h.Cg) G:=by unfold Hs.enc;simp
def Qk:Bj h.enc (.int 0) G=.ok (.int h.yr) G:=by unfold Hs.enc;simp
def Hi{k:Kd}:(k.ZK="basin")=(k.SD=u6):=by cases k<;>simp[Kd.ZK,Kd.SD]<;>decide
def U4{k:Kd}:(k.ZK="town")=(k.isT=u6):=by cases k<;>simp[Kd.ZK,Kd.isT]<;>decide
end
theorem ic(g:SA h)(w:d<h.n):∀(m k:Nat)(a b:Option D),k+m=d->
  An (Ai 2 (Ab (gV 2) (Ab (gV 3) Ao))) Nv ((Dk h.Cg).drop k) [u4 h.enc,zS (h.pl d).nm,a,b] G=.rt (.int d) G
 | m,k,a,b,e=>by
  have hk:k<h.n:=by lia
  have x:(Dk h.Cg).drop k=.tup [.int k,h.VC (h.pl k)]::(Dk h.Cg).drop (k+1):=by rw[qZ (by rw[Iu,Hs.Hh];exact hk)];have:=Hs.ib hk;rw[zX (Hs.Hh▸hk)]at this;simp[Dk,Option.some.inj this]
  rw[x,Bs];cases m with
  |zero=>
   have y:k=d:=by lia
   subst y;have u:Nv [u4 h.enc,zS (h.pl k).nm,zI k,u4 (h.VC (h.pl k))] G=.rt (.int k) G:=by unfold Nv;simp
   simp[u]
  |succ m=>
   have q:(h.pl k).nm≠(h.pl d).nm:=λz=>by have:=g.inj k d hk w z;lia
   have u:Nv [u4 h.enc,zS (h.pl d).nm,zI k,u4 (h.VC (h.pl k))] G=.nx [u4 h.enc,zS (h.pl d).nm,zI k,u4 (h.VC (h.pl k))] G:=by unfold Nv;simp[q]
   simp[u];exact ic g w m (k+1) _ _ (by lia)
def ie(g:SA h)(u:d<h.n)(G:DH):Ou [h.enc,.str (h.pl d).nm] G=.ok (.int d) G:=by have q:=ic g u (G:=G) d 0 u5 u5 (by lia);rw[xy]at q;unfold Ou gI;rw[Af];simp[Cr,Ez,Jc,lenOf,q,Az]
def Hs.dn(h:Hs)(k:Nat):Option Nat:=(h.pl k).dn
theorem Lz(g:SA h){k:Nat}(hk:k<h.n)(G:DH):Qq [h.enc,.int k] G=.ok (XF (h.dn k)) G:=by
 unfold Qq gJ;rw[Af];cases u:h.dn k with
 |none=>
  have e:(h.pl k).dn=u5:=u;simp[Cr,Hs.Dw hk,e,Hs.P4,XF,Az]
 |some d=>
  have e:(h.pl k).dn=u4 d:=u;have q:=g.dn k d hk e;simp[Cr,Hs.Dw hk,e,Hs.P4,g.sea d q.2,ie g q.2,XF,Az]
def Hs.dir(h:Hs)(k:Nat):Option Nat:=match h.dn k with
 |none=>u5
 |some d=>if 0<(h.pl k).dl\/(h.pl k).kd.SD=u6\/(h.pl d).kd.SD=u6 then u5 else u4 d
theorem Nt(g:SA h){k:Nat}(hk:k<h.n)(G:DH):R3 [h.enc,.int k] G=.ok (XF (h.dir k)) G:=by
 unfold R3 gP;rw[Af];cases q:h.dn k with
 |none=>simp[Cr,Lz g hk,q,Hs.dir,XF,Az]
 | some d=>
  have y:=g.dn k d hk q;by_cases u:0<(h.pl k).dl
  .simp[Cr,Lz g hk,q,Hs.dir,XF,Az,Hs.Dw hk,u]
  by_cases w:(h.pl k).kd.SD=u6
  .simp[Cr,Lz g hk,q,Hs.dir,XF,Az,Hs.Dw hk,u,Hi,w]
  .by_cases x:(h.pl d).kd.SD=u6
   .simp[Cr,Lz g hk,q,Hs.dir,XF,Az,Hs.Dw hk,Hs.Dw y.2,u,Hi,w,x]
   simp[Cr,Lz g hk,q,Hs.dir,XF,Az,Hs.Dw hk,Hs.Dw y.2,u,Hi,w,x]
theorem Fm(g:SA h){k:Nat}(hk:k<h.n)(e:h.dir k=u4 d):k<d/\d<h.n:=by
 unfold Hs.dir at e;cases q:h.dn k with
 |none=>rw[q]at e;cases e
 |some u=>
  rw[q]at e;simp only at e;split at e
  .cases e
  cases e;exact g.dn k d hk q
def Fn{k:Nat}(hk:¬k<h.n):h.pl k=Xq:=by
 unfold Hs.pl;rw[zk,z0 (by unfold Hs.n at hk;lia)]
 rfl
def O4{k:Nat}(hk:¬k<h.n):h.dir k=u5:=by
 have e:h.dn k=u5:=by unfold Hs.dn;rw[Fn hk];rfl
 unfold Hs.dir;rw[e]
def Jv(g:SA h){k:Nat}(e:h.dir k=u4 d):k<d/\d<h.n/\k<h.n:=by
 by_cases hk:k<h.n
 .have:=Fm g hk e;lia
 rw[O4 hk]at e;cases e
def Hs.I7(h:Hs):Nat->Nat->Nat
 |0,k=>k
 |m+1,k=>match h.dir k with
  |none=>k
  |some d=>h.I7 m d
def Hs.last(h:Hs)(k:Nat):Nat:=h.I7 h.n k
theorem bP(g:SA h):∀(m m' k:Nat),h.n<=m+k->h.n<=m'+k->h.I7 m k=h.I7 m' k
 |0,m',k,e,w=>by
  have q:h.dir k=u5:=O4 (by lia);cases m' with
  |zero=>rfl
  |succ m'=>simp[Hs.I7,q]
 |m+1,0,k,e,w=>by have q:h.dir k=u5:=O4 (by lia);simp[Hs.I7,q]
 | m+1,m'+1,k,e,w=>by
  cases u:h.dir k with
  |none=>simp[Hs.I7,u]
  |some d=>
   have:=Jv g u;simp[Hs.I7,u,bP g m m' d (by lia) (by lia)]
def Gz(g:SA h){k:Nat}(e:h.dir k=u5):h.last k=k:=by unfold Hs.last;rw[bP g h.n (h.n+1) k (by lia) (by lia)];simp[Hs.I7,e]
def Le(g:SA h){k:Nat}(e:h.dir k=u4 d):h.last k=h.last d:=by unfold Hs.last;rw[bP g h.n (h.n+1) k (by lia) (by lia)];simp[Hs.I7,e]
theorem ig(g:SA h):∀(m k:Nat),h.n<=m+k->k<=h.last k/\(k<h.n->h.last k<h.n)
 |0,k,e=>by rw[Gz g (O4 (by lia))];lia
 | m+1,k,e=>by
  cases q:h.dir k with
  |none=>rw[Gz g q];lia
  |some d=>
   have:=Jv g q;rw[Le g q];have:=ig g m d (by lia);lia
def Hw(g:SA h)(k:Nat):k<=h.last k/\(k<h.n->h.last k<h.n):=ig g h.n k (by lia)
def Hs.Fl(h:Hs)(j:Nat):Nat->Int:=λi=>if j<=i then h.last i else i
theorem ii(g:SA h){G:DH}:∀(j:Nat)(x y:Option D),j<=h.n->∃z A,
  An (gV 2) T6 (Iw ((j:Int)-1) j) [u4 h.enc,zR (lN G),x,y] (G++[.lst (tab h.n (h.Fl j))])=.nx [u4 h.enc,zR (lN G),z,A] (G++[.lst (tab h.n (h.Fl 0))])
 |0,x,y,e=>⟨x,y,by rw[A8,Cj]⟩
 | j + 1,x,y,e=>by
  have B:j<h.n:=by lia
  obtain⟨z,A,I⟩:=ii g (G:=G) j (zI j) (u4 (XF (h.dir j))) (by lia);refine⟨z,A,?_⟩;have E:(((j+1:Nat):Int)-1)=j:=by lia
  have K:T6 [u4 h.enc,zR (lN G),zI j,y] (G++[.lst (tab h.n (h.Fl (j+1)))])=.nx [u4 h.enc,zR (lN G),zI j,u4 (XF (h.dir j))] (G++[.lst (tab h.n (h.Fl j))]):=by
   unfold T6;cases u:h.dir j with
   | none=>
    have C:tab h.n (h.Fl (j+1))=tab h.n (h.Fl j):=iJ λi F=>by
     unfold Hs.Fl;by_cases w:i=j
     .subst w;rw[Gz g u];simp
     by_cases q:j<=i
     .rw[if_pos q,if_pos (by lia)]
     rw[if_neg q,if_neg (by lia)]
    simp[Nt g B,u,XF,C]
   | some d=>
    have J:=Jv g u;have C:tab h.n (RC (h.Fl (j+1)) j (h.Fl (j+1) d))=tab h.n (h.Fl j):=iJ λi F=>by
     unfold Hs.Fl RC;by_cases w:i=j
     .subst w;rw[if_pos rfl,if_pos (by lia),if_pos (by lia),Le g u]
     rw[if_neg w];dsimp only;by_cases q:j<=i
     .rw[if_pos q,if_pos (by lia)]
     rw[if_neg q,if_neg (by lia)]
    simp[Nt g B,u,XF,Bw,Du J.2.1,Dt,Hq,B,O2,C]
  rw[E,A9,Bs];simp[By,R.Bp,qY,K,Cd];exact I
def Fs(g:SA h)(G:DH):Sq [h.enc] G=.ok (.ref (lN G)) (G++[.lst (tab h.n λi=>(h.last i:Int))]):=by
 obtain⟨E,I,u⟩:=ii g (G:=G) h.n u5 u5 (zY _);have w:tab h.n (h.Fl h.n)=Bb 0 h.n:=by
  unfold tab Bb;refine qx λi z=>?_
  have:=qK.mp z;unfold Hs.Fl;rw[if_neg (by lia)];simp
 have x:h.Fl 0=λi=>(h.last i:Int):=by funext i;unfold Hs.Fl;simp
 rw[w,x]at u;have F:=g.len;have A:inR (h.n:Int):=Ef (by lia) (by lia);have y:inR ((h.n:Int)-1):=Ef (by lia) (by lia);have C:inR (-1):=Ef (by lia) (by lia);have B:(h.n:Int)<=1000000:=by lia
 have q:XA (lN G) (Bb 0 h.n)=u6:=Dy λ_ _=>rfl
 unfold Sq gW;rw[Af];simp[Cr,Hs.Hh,A,B,Cq q,y,C,A7,by omega,u,Cq]
def Hs.mem(h:Hs)(m:Nat):List Nat:=(zQ h.n).filter λk=>decide (h.last k=m)
def mem_iff{k:Nat}:k∈h.mem m↔k<h.n/\h.last k=m:=by unfold Hs.mem;rw[List.mem_filter,qK];simp
def Uz:(h.mem m).Pairwise (· < ·):=List.Pairwise.filter _ List.pairwise_lt_range
def ij:lN (h.mem m)<=h.n:=by have:=List.length_filter_le (λk=>decide (h.last k=m)) (zQ h.n);simpa[Hs.mem]using this
def Fu{ms:List Nat}(u:ms.Pairwise (· < ·))(hi:i<lN ms)(q:j<lN ms)(h:ms[i]<ms[j]):i<j:=by
 rcases Nat.lt_trichotomy i j with z|z|z
 .exact z
 .subst z;lia
 have:=j7.mp u j i q hi z;lia
def ik(g:SA h)(y:m<h.n)(e:h.last m=m):(h.mem m).getLast?=u4 m:=by
 have q:=mem_iff.mpr ⟨y,e⟩;have u:h.mem m≠[]:=λz=>by rw[z]at q;cases q
 rw[List.getLast?_eq_some_getLast u]
 congr 1
 have B:=mem_iff.mp (List.getLast_mem u);have E:=(Hw g ((h.mem m).getLast u)).1;obtain⟨i,x,A⟩:=qj q;have C:m<=(h.mem m).getLast u:=by
  rw[List.getLast_eq_getElem];by_cases w:i=lN (h.mem m)-1
  .subst w;lia
  have:=j7.mp (Uz) i (lN (h.mem m)-1) x (by lia) (by lia);lia
 lia
noncomputable def Hs.need(h:Hs)(k:Nat):Int:=match(h.pl k).kd with
 |.XE a _=>a
 |_=>0
noncomputable def Hs.rank(h:Hs)(k:Nat):Int:=match(h.pl k).kd with
 |.XE _ b=>b
 |_=>0
def Hs.row(h:Hs)(ms:List Nat)(ca:Nat->Int)(k:Nat):Row:=⟨(h.dir k).map λd=>ms.idxOf d,ca k,h.need k,h.rank k⟩
def Hs.rows(h:Hs)(ms:List Nat)(ca:Nat->Int):List Row:=ms.map (h.row ms ca)
theorem idx_map(d:Nat):∀ms:List Nat,(ms.map λ(i:Nat)=>(i:Int)).idxOf (d:Int)=ms.idxOf d
 |[]=>rfl
 |m::ms=>by
  rw[zy,List.idxOf_cons,List.idxOf_cons,idx_map d ms];by_cases e:m=d
  .subst e;simp
  have w:¬((m:Int)=d):=by lia
  have q:((m:Int)==(d:Int))=u7:=by simp[w]
  have u:(m==d)=u7:=by simp[e]
  rw[q,u]
theorem il(g:SA h){ms:List Nat}(U:∀k∈ms,k<h.n/\∀d,h.dir k=u4 d->d∈ms)(Z:lN ms<=40)(hp:G[p]?=u4 (.lst (tab h.n ca))):∀(ks:List Nat)(acc:List Row)(x1 B x3 x4:Option D),(∀k∈ks,k∈ms)->lN acc+lN ks<=40->∃K N J O,
  An (gV 4) Pg (Ar ks) [u4 h.enc,zF (Ar ms),zR p,zR (lN G),x1,B,x3,x4] (G++[.lst (acc.map Row.enc)])=
   .nx [u4 h.enc,zF (Ar ms),zR p,zR (lN G),K,N,J,O] (G++[.lst ((acc++ks.map (h.row ms ca)).map Row.enc)])
 |[],acc,x1,B,x3,x4,_,_=>⟨x1,B,x3,x4,by simp[Ar,Cj]⟩
 | k::ks,acc,x1,B,x3,x4,hk,T=>by
  obtain⟨q,M⟩:=U k (hk k zW);obtain⟨K,N,J,O,W⟩:=il g U Z hp ks (acc++[h.row ms ca k]) (zI k) (u4 (h.VC (h.pl k))) (u4 (XF (h.dir k))) (u4 (XF ((h.dir k).map λd=>ms.idxOf d))) (λj X=>hk j (zJ _ X)) (by simp at T⊢;lia);refine⟨K,N,J,O,?_⟩;have z:∀L:DH,(G++L)[p]?=u4 (.lst (tab h.n ca)):=λL=>by rw[zP ((zA.mp hp).1)];exact hp
  have y:lN acc<1000000:=by simp at T;lia
  have I:h.row ms ca k=⟨(h.dir k).map λd=>ms.idxOf d,ca k,h.need k,h.rank k⟩:=rfl;have Y:Pg [u4 h.enc,zF (Ar ms),zR p,zR (lN G),zI k,B,x3,x4] (G++[.lst (acc.map Row.enc)])=
    .nx [u4 h.enc,zF (Ar ms),zR p,zR (lN G),zI k,u4 (h.VC (h.pl k)),u4 (XF (h.dir k)),u4 (XF ((h.dir k).map λd=>ms.idxOf d))] (G++[.lst ((acc++[h.row ms ca k]).map Row.enc)]):=by
   have E:∀d,h.dir k=u4 d->∀u,Ii (.fl (Ar ms)) [.int (d:Int)] u=.ok (.int (ms.idxOf d:Nat)) u:=λd x u=>by
    have e:Ar ms=(ms.map λ(i:Nat)=>(i:Int)).map D.int:=by simp[Ar]
    rw[e,eW (by simp[G7]) (zD.mpr ⟨d,M d x,rfl⟩) (by simp;lia),idx_map]
   unfold Pg;by_cases w:(h.pl k).kd.isT=u6
   .obtain⟨a,b,F⟩:∃a b,(h.pl k).kd=.XE a b:=by
     cases e:(h.pl k).kd with
     |XE a b=>exact⟨a,b,rfl⟩
     |_=>rw[e]at w;cases w
    have P:∀u,Bj (h.VC (h.pl k)) (.int 4) u=.ok (.int a) u:=λu=>by unfold Hs.VC;rw[F];simp
    have Q:∀u,Bj (h.VC (h.pl k)) (.int 5) u=.ok (.int b) u:=λu=>by unfold Hs.VC;rw[F];simp
    have C:h.need k=a:=by unfold Hs.need;rw[F]
    have A:h.rank k=b:=by unfold Hs.rank;rw[F]
    cases x:h.dir k with
    |none=>simp[Cr,Hs.Dw q,Nt g q,x,XF,U4,w,z,Du q,P,Q,Ag,Bw,Dt,y,I,Row.enc,C,A]
    |some d=>simp[Cr,Hs.Dw q,Nt g q,x,XF,E d x,U4,w,z,Du q,P,Q,Ag,Bw,Dt,y,I,Row.enc,C,A]
   have C:h.need k=0:=by
    unfold Hs.need;cases e:(h.pl k).kd with
    |XE a b=>rw[e]at w;exact absurd rfl w
    |_=>rfl
   have A:h.rank k=0:=by
    unfold Hs.rank;cases e:(h.pl k).kd with
    |XE a b=>rw[e]at w;exact absurd rfl w
    |_=>rfl
   cases x:h.dir k with
   |none=>simp[Cr,Hs.Dw q,Nt g q,x,XF,U4,w,z,Du q,Ag,Bw,Dt,y,I,Row.enc,C,A]
   |some d=>simp[Cr,Hs.Dw q,Nt g q,x,XF,E d x,U4,w,z,Du q,Ag,Bw,Dt,y,I,Row.enc,C,A]
  show An _ _ (.int k::Ar ks) _ _=_;rw[Bs];simp only[By,R.Bp,qY,Y,Cd];rw[W];simp
def GA(g:SA h){ms:List Nat}(z:∀k∈ms,k<h.n/\∀d,h.dir k=u4 d->d∈ms)(u:lN ms<=40)(hp:G[p]?=u4 (.lst (tab h.n ca))):
  S6 [h.enc,.fl (Ar ms),.ref p] G=.ok (.ref (lN G)) (G++[.lst ((h.rows ms ca).map Row.enc)]):=by
 obtain⟨B,w,A,y,x⟩:=il g z u hp ms [] u5 u5 u5 u5 (λk hk=>hk) (by simpa using u);have q:An (gV 4) Pg (Ar ms) [u4 h.enc,zF (Ar ms),zR p,zR (lN G),u5,u5,u5,u5] (G++[.lst []])=.nx [u4 h.enc,zF (Ar ms),zR p,zR (lN G),B,w,A,y] (G++[.lst ((h.rows ms ca).map Row.enc)]):=x;unfold S6 gQ;rw[Af];simp[Ae,Cq,q]
theorem Mw(g:SA h)(E:∀k,k<h.n->0<=ca k):Reach (h.rows (h.mem m) ca):=λi r z=>by
 have u:i<lN (h.mem m):=by have:=(zA.mp z).1;simpa[Hs.rows]using this
 have e:r=h.row (h.mem m) ca (h.mem m)[i]:=by unfold Hs.rows at z;rw[zw,zX u]at z;simpa using z.symm
 obtain⟨hk,x⟩:=mem_iff.mp (qW u);subst e;refine⟨λd F=>?_,E _ hk,?_,?_⟩
 .have q:(h.dir (h.mem m)[i]).map (λd=>(h.mem m).idxOf d)=u4 d:=F;cases e:h.dir (h.mem m)[i]with
  |none=>rw[e]at q;cases q
  |some A=>
   rw[e]at q;have C:(h.mem m).idxOf A=d:=by simpa using q
   have B:=Jv g e;have y:A∈h.mem m:=mem_iff.mpr ⟨B.2.1,by rw[<-Le g e];exact x⟩;have w:=qD y;subst C;refine⟨Fu Uz u w (by rw[jT w];exact B.1),by simpa[Hs.rows]using w⟩
 .show 0<=h.need _;unfold Hs.need;cases e:(h.pl (h.mem m)[i]).kd with
  |XE a b=>exact(g.XE _ a b hk e).1
  |_=>exact zL _
 show 0<=h.rank _;unfold Hs.rank;cases e:(h.pl (h.mem m)[i]).kd with
 |XE a b=>exact(g.XE _ a b hk e).2
 |_=>exact zL _
structure Cs where
 NB:Nat->Int
 ZA:Nat->Nat->Int
 UA:Nat->List Int
 PJ:List D
variable{s s':Cs}
noncomputable def Je(l:List Int):D:=match l with
 |[]=>.WA
 |_=>.tup (l.map D.int)
@[simp]theorem GB{n:Nat}{l:List Int}:PC n (Je l)=u6:=by
 cases l with
 |nil=>rfl
 |cons a l=>simp only[Je,_D.PC];exact dU
noncomputable def ZL(ds:List D):List (Str×D):=(["house","levels","year_turn","came","coming","page","reaches"]:List Str).zip ds
def ZG(i n:Nat)(H LV:D)(yt:Int):List (Str×D):=ZL [H,LV,.int yt,.ref (i+1),.ref (i+(2+n)),.ref (i+(3+n)),.ref (i+(4+n))]
def Ce(n:Nat)(pg:Nat->List Int):List D:=(zQ n).map λk=>Je (pg k)
noncomputable def Do(i n:Nat):List D:=(zQ n).map λk=>D.ref (i+(2+k))
def ZU(i n:Nat)(H LV:D)(yt:Int)(s:Cs):DH:=.ins "Course" (ZG i n H LV yt):: .lst (tab n s.NB)::((zQ n).map (λk=>DO.lst (tab 5 (s.ZA k)))++[.lst (Do i n),.lst (Ce n s.UA),.lst s.PJ])
def YB(G:DH)(n:Nat)(H LV:D)(yt:Int)(s:Cs):DH:=G++ZU (lN G) n H LV yt s
def GC{n:Nat}{yt:Int}:lN (ZU i n H LV yt s)=n+5:=by simp[ZU]
def io{n:Nat}{yt:Int}:lN (YB G n H LV yt s)=lN G+(n+5):=by unfold YB;rw[qQ,GC]
section
variable{G:DH}{n:Nat}{H LV:D}{yt:Int}{s:Cs}
def Mi(j:Nat):(YB G n H LV yt s)[lN G+j]?=(ZU (lN G) n H LV yt s)[j]? :=Oz _ j
def Ir:(YB G n H LV yt s)[lN G]?=u4 (.ins "Course" (ZG (lN G) n H LV yt)):=Mi 0
def Om:(YB G n H LV yt s)[lN G+1]?=u4 (.lst (tab n s.NB)):=Mi 1
def V2:(ZU i n H LV yt s)[2+j]?=((zQ n).map (λk=>DO.lst (tab 5 (s.ZA k)))++[.lst (Do i n),.lst (Ce n s.UA),.lst s.PJ])[j]? :=by
 have e:2+j=j+1+1:=by lia
 rw[e]
 rfl
def Yg{k:Nat}(hk:k<n):(YB G n H LV yt s)[lN G+(2+k)]?=u4 (.lst (tab 5 (s.ZA k))):=by
 rw[Mi,V2,zP (by simpa using hk),zw,zM hk]
 rfl
def Sw:(YB G n H LV yt s)[lN G+(2+n)]?=u4 (.lst (Do (lN G) n)):=by rw[Mi,V2,zC (by simp)];simp
def Kc:(YB G n H LV yt s)[lN G+(3+n)]?=u4 (.lst (Ce n s.UA)):=by
 have e:3+n=2+(n+1):=by lia
 rw[e,Mi,V2,zC (by simp)];simp
def csHe:(YB G n H LV yt s)[lN G+(4+n)]?=u4 (.lst s.PJ):=by
 have e:4+n=2+(n+2):=by lia
 rw[e,Mi,V2,zC (by simp)];simp
def Uv(j:Nat)(o:DO):(YB G n H LV yt s).set (lN G+j) o=G++(ZU (lN G) n H LV yt s).set j o:=Vl _ j o
def csS1:(YB G n H LV yt s).set (lN G+1) (.lst (tab n ca))=YB G n H LV yt {s with NB:=ca}:=Uv 1 _
def RS(co:Nat->Nat->Int)(k:Nat)(r:Nat->Int):Nat->Nat->Int:=λi=>if i=k then r else co i
def bQ{o:DO}:(ZU i n H LV yt s).set (2+j) o=.ins "Course" (ZG i n H LV yt):: .lst (tab n s.NB)::((zQ n).map (λk=>DO.lst (tab 5 (s.ZA k)))++[DO.lst (Do i n),DO.lst (Ce n s.UA),DO.lst s.PJ]).set j o:=by
 have e:2+j=j+1+1:=by lia
 rw[e]
 rfl
def csSr{k:Nat}(hk:k<n){r:Nat->Int}:(YB G n H LV yt s).set (lN G+(2+k)) (.lst (tab 5 r))=YB G n H LV yt {s with ZA:=RS s.ZA k r}:=by
 rw[Uv,bQ,List.set_append_left _ _ (by simpa using hk)];unfold YB ZU
 congr 3
 congr 1
 refine jL λi=>?_
 by_cases u:i<n
 .by_cases e:k=i
  .subst e;rw[jy (by simpa using u),zw,zM u];simp[RS]
  rw[jV e,zw,zM u,zw,zM u];have:i≠k:=λz=>e z.symm
  simp[RS,this]
 rw[z0 (by simp;lia),z0 (by simp;lia)]
def Ub:(YB G n H LV yt s).set (lN G+(3+n)) (.lst (Ce n q))=YB G n H LV yt {s with UA:=q}:=by
 have e:3+n=2+(n+1):=by lia
 rw[e,Uv,bQ,xX _ _ (by simp)];unfold YB ZU;simp
def csSe{q:List D}:(YB G n H LV yt s).set (lN G+(4+n)) (.lst q)=YB G n H LV yt {s with PJ:=q}:=by
 have e:4+n=2+(n+2):=by lia
 rw[e,Uv,bQ,xX _ _ (by simp)];unfold YB ZU;simp
def Ih:Ie "Course" "house" (.ref (lN G)) (YB G n H LV yt s)=.ok H (YB G n H LV yt s):=M4 Ir rfl
def ip:Ie "Course" "levels" (.ref (lN G)) (YB G n H LV yt s)=.ok LV (YB G n H LV yt s):=M4 Ir rfl
def iq:Ie "Course" "year_turn" (.ref (lN G)) (YB G n H LV yt s)=.ok (.int yt) (YB G n H LV yt s):=M4 Ir rfl
def Uc:Ie "Course" "came" (.ref (lN G)) (YB G n H LV yt s)=.ok (.ref (lN G+1)) (YB G n H LV yt s):=M4 Ir rfl
def ir:Ie "Course" "coming" (.ref (lN G)) (YB G n H LV yt s)=.ok (.ref (lN G+(2+n))) (YB G n H LV yt s):=M4 Ir rfl
def N5:Ie "Course" "page" (.ref (lN G)) (YB G n H LV yt s)=.ok (.ref (lN G+(3+n))) (YB G n H LV yt s):=M4 Ir rfl
def GE:Ie "Course" "reaches" (.ref (lN G)) (YB G n H LV yt s)=.ok (.ref (lN G+(4+n))) (YB G n H LV yt s):=M4 Ir rfl
def J9{m:Str}{F:List D->DH->R D}{t:DA}(q:∀i,(ZG i n H LV yt).lookup m=u5):Vk "Course" m F t S (.ref (lN G)) (YB G n H LV yt s)=(t S (YB G n H LV yt s)).bind λds u=>F (.ref (lN G)::ds) u:=A6 Ir (q _)
def iu:∀i,(ZG i n H LV yt).lookup ("send":Str)=u5:=λ_=>rfl
def Y7:∀i,(ZG i n H LV yt).lookup ("send_down":Str)=u5:=λ_=>rfl
def GF:∀i,(ZG i n H LV yt).lookup ("go_basin":Str)=u5:=λ_=>rfl
def GG:∀i,(ZG i n H LV yt).lookup ("go_reach":Str)=u5:=λ_=>rfl
def GH:∀i,(ZG i n H LV yt).lookup ("go":Str)=u5:=λ_=>rfl
def GI:∀i,(ZG i n H LV yt).lookup ("state_behind":Str)=u5:=λ_=>rfl
def Jl{d:D}(q:∀m,PC m d=u6):tidy (YB G n H LV yt s) (.ok d (YB G n H LV yt s'))=.ok d (YB G n H LV yt s'):=Ap (by rw[io,io]) (q _)
def GJ{k:Nat}(hk:k<n):YC (Do i n) (k:Int)=zR (i+(2+k)):=Df rfl (by unfold Do;rw[zw,zM hk];rfl)
def GL{u:Nat->List Int}{k:Nat}{l:List Int}:(Ce n u).set k (Je l)=Ce n λi=>if i=k then l else u i:=by
 unfold Ce;refine jL λi=>?_
 by_cases q:i<n
 .by_cases e:k=i
  .subst e;rw[jy (by simpa using q),zw,zM q];simp
  rw[jV e,zw,zM q,zw,zM q];have:i≠k:=λz=>e z.symm
  simp[this]
 rw[z0 (by simp;lia),z0 (by simp;lia)]
@[simp]theorem GN:lN (Ce n q)=n:=by simp[Ce]
def Cs.send(s:Cs)(to dl:Nat)(c:Int):Cs:=if dl=0 then{s with NB:=RC s.NB to (s.NB to+c)}else{s with ZA:=RS s.ZA to (RC (s.ZA to) (dl-1) (s.ZA to (dl-1)+c))}
def iw{u:Nat}(q:u<n)(y:dl<=5):R8 [.ref (lN G),.int u,.int dl,.int c] (YB G n H LV yt s)=.ok .WA (YB G n H LV yt (s.send u dl c)):=by
 unfold R8 gH;rw[Af];by_cases x:dl=0
 .subst x;simp[Uc,Uw Om (Du q),Om,Hq,q,O2,csS1,Cs.send,Jl]
 have e:((dl:Int)-1)=((dl-1:Nat):Int):=by lia
 have w:dl-1<5:=by lia
 simp[x,ir,Sw,GJ q,e,Uw (Yg q) (Du w),Yg q,Hq,w,O2,csSr q,Cs.send,Jl]
end
def Hs.Ei(h:Hs)(s:Cs)(k:Nat)(c:Int):Cs:=match h.dn k with
 |none=>s
 |some d=>s.send d (h.pl k).dl c
section
variable{G:DH}{h:Hs}{lv:Nat->Int}{yt:Int}{s:Cs}
theorem Y5(g:SA h){k:Nat}(hk:k<h.n):Pb [.ref (lN G),.int k,.int c] (YB G h.n h.enc LV yt s)=.ok .WA (YB G h.n h.enc LV yt (h.Ei s k c)):=by
 unfold Pb gK;rw[Af];cases q:h.dn k with
 |none=>simp[Ih,Lz g hk,q,XF,Hs.Ei,Jl]
 |some d=>
  simp[Ih,Lz g hk,q,XF,J9 iu,Cr,Hs.Dw hk,iw (g.dn k d hk q).2 (g.dl k hk),Hs.Ei,Jl]
def Up{n:Nat}{k:Nat}{b d e f:Int}:(Ce n q).set k (.tup [.int a,.int b,.int c,.int d,.int e,.int f])=Ce n λi=>if i=k then[a,b,c,d,e,f]else q i:=GL (l:=[a,b,c,d,e,f])
def Hs.NA(h:Hs)(yt:Int)(lv:Nat->Int)(s:Cs)(k:Nat):Cs:=match(h.pl k).kd with
 |.NA UK rule YU=>
  let w:=lv k+s.NB k;let st:=held yt rule [];let stays:=w-rv w st-pm w st;let SG:=min stays UK;let s1:Cs:={s with UA:=λi=>if i=k then[s.NB k,0,stays-SG,rv w st,pm w st,SG]else s.UA i};let s2:=h.Ei s1 k (rv w st+(stays-SG))
  match YU with
  |none=>s2
  |some (to,dl,_)=>s2.send to dl (pm w st)
 |_=>s
theorem GP(g:SA h){k:Nat}(hk:k<h.n)(F:(h.pl k).kd.SD=u6):Wc [.ref (lN G),.int k] (YB G h.n h.enc (.tup (tab h.n lv)) yt s)=.ok .WA (YB G h.n h.enc (.tup (tab h.n lv)) yt (h.NA yt lv s k)):=by
 obtain⟨x,y,u,z⟩:∃a b c,(h.pl k).kd=.NA a b c:=by
  cases e:(h.pl k).kd with
  |NA a b c=>exact⟨a,b,c,rfl⟩
  |_=>rw[e]at F;cases F
 have B:∀w,Bj (h.VC (h.pl k)) (.int 4) w=.ok (.int x) w:=λw=>by unfold Hs.VC;rw[z];simp
 have E:∀w,Bj (h.VC (h.pl k)) (.int 5) w=.ok (.tup (y.map Bl)) w:=λw=>by unfold Hs.VC;rw[z];simp
 have C:∀w,Bj (h.VC (h.pl k)) (.int 6) w=.ok (h.Lr u) w:=λw=>by unfold Hs.VC;rw[z];simp
 simp[Hs.NA,z];unfold Wc gN;rw[Af];cases hp:u with
 |none=>simp[Ih,Cr,Hs.Dw hk,Uc,Om,Du hk,E,iq,p?,ip,ia,B,Ag,N5,Kc,Hq,hk,Up,Ub,J9 Y7,Y5 g hk,C,hp,Hs.Lr,Jl]
 |some q=>
  obtain⟨J,K,I⟩:=q;have A:=g.YU k x y J K I hk (by rw[z,hp]);simp[Ih,Cr,Hs.Dw hk,Uc,Om,Du hk,E,iq,p?,ip,ia,B,Ag,N5,Kc,Hq,hk,Up,Ub,J9 Y7,Y5 g hk,C,hp,Hs.Lr,J9 iu,ie g A.1,iw A.1 A.2.2,Jl]
end
noncomputable def z3(ms:List Nat)(T L:Nat->Int):List D:=(zQ (lN ms)).map λi=>D.tup [.int (ms.getD i 0:Nat),.int (T i),.int (L i)]
def GQ{ms:List Nat}{L:Nat->Int}(j:Nat)(G:DH):Ey [.fl (Ar ms),.fl (tab (lN ms) T),.fl (tab (lN ms) L)] j G=u4 (z3 ms T L)[j]? :=by
 unfold Ey z3;by_cases q:j<lN ms
 .have u:(Ar ms)[j]?=zI (ms.getD j 0:Nat):=by unfold Ar;rw[zw,zX q];simp[zk,zX q]
  simp[Gp,u,Kp q,zM q]
 have u:(Ar ms)[j]?=u5:=z0 (by simp;lia);have w:(zQ (lN ms))[j]?=u5:=z0 (by simp;lia);simp[Gp,u,w]
noncomputable def TQ(T L:Nat->Int)(i:Nat):List Int:=[T i+L i,T i,0,L i,0,0]
def NO(ms:List Nat)(T L:Nat->Int)(pg:Nat->List Int)(i:Nat):Nat->List Int:=λk=>if k∈ms.take i then TQ T L (ms.idxOf k)else pg k
def GR{ms:List Nat}{L:Nat->Int}:NO ms T L q 0=q:=by funext k;simp[NO]
def ix{ms:List Nat}(u:ms.Nodup)(hi:i<lN ms)(q:j<lN ms)(e:ms[i]=ms[j]):i=j:=by
 rcases Nat.lt_trichotomy i j with z|z|z
 .exact absurd e (j7.mp u i j hi q z)
 .exact z
 exact absurd e.symm (j7.mp u j i q hi z)
def iy{ms:List Nat}(u:ms.Nodup)(hi:i<lN ms):ms.idxOf ms[i]=i:=by have q:=qD (qW hi);exact ix u q hi (jT q)
def GS{ms:List Nat}(u:ms.Nodup){L:Nat->Int}(hi:i<lN ms):NO ms T L q (i+1)=λk=>if k=ms.getD i 0 then TQ T L i else NO ms T L q i k:=by
 have w:ms.getD i 0=ms[i]:=by simp[zk,zX hi]
 funext k;rw[w];unfold NO;rw[List.take_succ_eq_append_getElem hi];by_cases e:k=ms[i]
 .subst e;rw[if_pos rfl,if_pos (jP.mpr (.inr (qF.mpr rfl))),iy u hi]
 rw[if_neg e];have:(k∈ms.take i++[ms[i]])↔k∈ms.take i:=by rw[jP,qF];exact⟨λh=>h.elim id λz=>absurd z e,.inl⟩
 simp only[this]
section
variable{G:DH}{h:Hs}{LV:D}{yt:Int}
theorem iz(g:SA h){ms:List Nat}(C:∀k∈ms,k<h.n)(M:ms.Nodup)(u:ms.getLast?=u4 m){L:Nat->Int}{r t:D}:∀(q i:Nat)(x y z:Option D),i+q=lN ms->0<q->∃J K F,
  An (Ai 3 (Ab (gV 4) (Ab (gV 5) (Ab (gV 6) Ao)))) Ji ((z3 ms T L).drop i) [zR (lN G),zF (Ar ms),u4 r,u4 t,x,y,z] (YB G h.n h.enc LV yt {s with UA:=NO ms T L s.UA i})=
   .nx [zR (lN G),zF (Ar ms),u4 r,u4 t,J,K,F] (YB G h.n h.enc LV yt (h.Ei {s with UA:=NO ms T L s.UA (lN ms)} m (L (lN ms-1))))
 |0,i,x,y,z,e,h0=>by lia
 | q + 1,i,x,y,z,e,h0=>by
  have E:i<lN ms:=by lia
  have I:ms.getD i 0=ms[i]:=by simp[zk,zX E]
  have hk:ms.getD i 0<h.n:=by rw[I];exact C _ (qW E)
  have Q:(z3 ms T L).drop i=.tup [.int (ms.getD i 0:Nat),.int (T i),.int (L i)]::(z3 ms T L).drop (i+1):=by rw[qZ (by simp[z3];exact E)];simp[z3]
  have B:YC (Ar ms) (-1)=zI (m:Nat):=by
   have hl:0<lN ms:=by lia
   rw[dW (by decide) (by simp;lia)]
   congr 1
   have e3:((-1:Int)+(lN (Ar ms):Int)).toNat=lN ms-1:=by simp;lia
   simp only[e3];unfold Ar;rw[List.getElem_map];have U:ms[lN ms-1]'(by lia)=m:=by have:=j8 (l:=ms);rw[u,zX (by lia)]at this;exact(Option.some.inj this).symm
   rw[U]
  have w:(λk=>if k=ms.getD i 0 then[T i+L i,T i,0,L i,0,0]else NO ms T L s.UA i k)=NO ms T L s.UA (i+1):=(GS M E).symm;rw[Q,Bs];cases q with
  | zero=>
   have O:i=lN ms-1:=by lia
   have Z:ms.getD i 0=m:=by have:=j8 (l:=ms);rw[u,zX (by lia)]at this;rw[I];subst O;exact(Option.some.inj this).symm
   have N:Ji [zR (lN G),zF (Ar ms),u4 r,u4 t,zI (ms.getD i 0:Nat),zI (T i),zI (L i)] (YB G h.n h.enc LV yt {s with UA:=NO ms T L s.UA i})=
     .nx [zR (lN G),zF (Ar ms),u4 r,u4 t,zI (ms.getD i 0:Nat),zI (T i),zI (L i)] (YB G h.n h.enc LV yt (h.Ei {s with UA:=NO ms T L s.UA (lN ms)} m (L (lN ms-1)))):=by
    have Y:i+1=lN ms:=by lia
    rw[Y]at w;unfold Ji;simp only[Z]at hk w⊢;simp[Ag,N5,Kc,Hq,hk,Up,w,Ub,B,J9 Y7,Y5 g (C m (List.mem_of_getLast? u)),<-O]
   refine⟨zI (ms.getD i 0:Nat),zI (T i),zI (L i),?_⟩;rw[qJ (by simp[z3];lia)];simp only[Mp,Mg,Oc,By,R.Hu,R.Bp,qY,N,Cd,zH,qT,Nat.reduceAdd,if_true,Cj]
  | succ q=>
   have X:ms.getD i 0≠m:=λz=>by have P:=j8 (l:=ms);rw[u,zX (by lia)]at P;rw[I,Option.some.inj P]at z;have:=ix M E (by lia) z;lia
   have A:¬((ms.getD i 0:Nat):Int)=(m:Int):=by lia
   have N:Ji [zR (lN G),zF (Ar ms),u4 r,u4 t,zI (ms.getD i 0:Nat),zI (T i),zI (L i)] (YB G h.n h.enc LV yt {s with UA:=NO ms T L s.UA i})=
     .nx [zR (lN G),zF (Ar ms),u4 r,u4 t,zI (ms.getD i 0:Nat),zI (T i),zI (L i)] (YB G h.n h.enc LV yt {s with UA:=NO ms T L s.UA (i+1)}):=by
    unfold Ji;generalize ms.getD i 0=a at hk w A;simp[Ag,N5,Kc,Hq,hk,Up,w,Ub,B,A]
   obtain⟨J,K,F,W⟩:=iz g C M u (q+1) (i+1) (zI (ms.getD i 0:Nat)) (zI (T i)) (zI (L i)) (by lia) (by lia);refine⟨J,K,F,?_⟩;simp only[Mp,Mg,Oc,By,R.Hu,R.Bp,qY,N,Cd,zH,qT,Nat.reduceAdd,if_true];exact W
def Hs.Ha(h:Hs)(s:Cs)(m:Nat):Nat->Int:=shr (h.rows (h.mem m) s.NB)
def Hs.Ge(h:Hs)(s:Cs)(m:Nat):Nat->Int:=WE (h.rows (h.mem m) s.NB) λi=>col Row.RB (h.rows (h.mem m) s.NB) i-h.Ha s m i
def Hs.reach(h:Hs)(s:Cs)(m:Nat):Cs:=
 let s1:=h.Ei {s with UA:=NO (h.mem m) (h.Ha s m) (h.Ge s m) s.UA (lN (h.mem m))} m (h.Ge s m (lN (h.mem m)-1))
 {s1 with PJ:=s1.PJ++[.tup [.fl (Ar (h.mem m)),.fl ((h.rows (h.mem m) s.NB).map Row.enc)]]}
def Ud{n:Nat}(q:∀m,XA m ds=u6):freeze (YB G n H LV yt s) (.ok (.ref (lN (YB G n H LV yt s))) (YB G n H LV yt s++[.lst ds]))=.ok (.fl ds) (YB G n H LV yt s):=Dh (q _)
def Ho{ms:List Nat}:lN (h.rows ms ca)=lN ms:=by simp[Hs.rows]
def GT(g:SA h)(I:m<h.n)(J:h.last m=m)(N:∀k,k<h.n->0<=s.NB k)(O:lN s.PJ<=100):Tg [.ref (lN G),.fl (Ar (h.mem m))] (YB G h.n h.enc LV yt s)=.ok .WA (YB G h.n h.enc LV yt (h.reach s m)):=by
 have K:=Mw g (m:=m) N;have q:lN (h.rows (h.mem m) s.NB)<=40:=by have:=ij (h:=h) (m:=m);have:=g.len;rw[Ho];lia
 have y:=mem_iff.mpr ⟨I,J⟩;have P:=GA g (ms:=h.mem m) (λk hk=>⟨(mem_iff.mp hk).1,λd F=>by exact mem_iff.mpr ⟨(Jv g F).2.1,by rw[<-Le g F];exact(mem_iff.mp hk).2⟩⟩) (by rw[<-Ho];exact q) (G:=YB G h.n h.enc LV yt s) Om
 have cs:=Fa K q (YB G h.n h.enc LV yt s);have A:=iM K q (t:=.fl (tab (lN (h.rows (h.mem m) s.NB)) (shr (h.rows (h.mem m) s.NB)))) (G:=YB G h.n h.enc LV yt s) rfl;rw[Ho]at cs A;obtain⟨W,X,U,E⟩:=iz (G:=G) (LV:=LV) (yt:=yt) g (λk hk=>(mem_iff.mp hk).1) ((Uz (h:=h) (m:=m)).imp λB=>z9 B) (ik g I J) (r:=.fl ((h.rows (h.mem m) s.NB).map Row.enc)) (t:=.fl (tab (lN (h.mem m)) (h.Ha s m))) (lN (h.mem m)) 0 u5 u5 u5 (by lia) (xQ y)
 rw[GR,xy]at E;have L:∀S u,Di (Ey [.fl (Ar (h.mem m)),.fl (tab (lN (h.mem m)) (h.Ha s m)),.fl (tab (lN (h.mem m)) (h.Ge s m))]) (Ai 3 (Ab (gV 4) (Ab (gV 5) (Ab (gV 6) Ao)))) Ji (lN (h.mem m)) 0 S u=An (Ai 3 (Ab (gV 4) (Ab (gV 5) (Ab (gV 6) Ao)))) Ji (z3 (h.mem m) (h.Ha s m) (h.Ge s m)) S u:=λS u=>Ql GQ (by simp[z3])
 have T:shr (h.rows (h.mem m) s.NB)=h.Ha s m:=rfl;have M:WE (h.rows (h.mem m) s.NB) (λi=>col Row.RB (h.rows (h.mem m) s.NB) i-h.Ha s m i)=h.Ge s m:=rfl;rw[T]at cs A;rw[M]at A;have x:∀w:Cs,w.PJ=s.PJ->lN w.PJ<1000000:=λw e=>by rw[e];lia
 have C:∀w:Cs,∀k c,(h.Ei w k c).PJ=w.PJ:=λw k c=>by
  unfold Hs.Ei;cases h.dn k with
  |none=>rfl
  |some d=>simp[Cs.send];split <;> rfl
 have z:=x _ (C {s with UA:=NO (h.mem m) (h.Ha s m) (h.Ge s m) s.UA (lN (h.mem m))} m (h.Ge s m (lN (h.mem m)-1)));simp[Hs.reach];generalize h.Ei {s with UA:=NO (h.mem m) (h.Ha s m) (h.Ge s m) s.UA (lN (h.mem m))} m (h.Ge s m (lN (h.mem m)-1))=Y at E z;have Q:∀u,tidy u (.ok (.tup [.fl (Ar (h.mem m)),.fl ((h.rows (h.mem m) s.NB).map Row.enc)]) u)=.ok (.tup [.fl (Ar (h.mem m)),.fl ((h.rows (h.mem m) s.NB).map Row.enc)]) u:=λu=>Az (by simp)
 unfold Tg gU;rw[Af];simp[Ih,Uc,P,Ud,cs,A,Ew,Jc,lenOf,L,E,Ag,Q,GE,csHe,z,csSe,Jl]
end
def Cs.NN(n:Nat)(s:Cs):Prop:=(∀k,k<n->0<=s.NB k)/\∀k j,k<n->j<5->0<=s.ZA k j
def Cs.NN.send{n:Nat}(h:s.NN n){u:Nat}(x:0<=c):(s.send u dl c).NN n:=by
 unfold Cs.send;split
 .refine⟨λk hk=>?_,h.2⟩;simp[RC];split
  .rename_i e;subst e;have:=h.1 k hk;lia
  exact h.1 k hk
 refine⟨h.1,λk j hk q=>?_⟩;simp[RS];split
 .rename_i e;subst e;simp[RC];split
  .rename_i w;subst w;have:=h.2 k _ hk q;lia
  exact h.2 k j hk q
 exact h.2 k j hk q
theorem Cs.NN.down{n:Nat}(h:s.NN n){q:Hs}{k:Nat}(u:0<=c):(q.Ei s k c).NN n:=by
 unfold Hs.Ei;cases q.dn k with
 |none=>exact h
 |some d=>exact h.send u
def jl{w:Int}{s:UD}:0<=TK w s:=by unfold TK;lia
theorem Xf{w:Int}:∀{st:List UD},0<=rv w st
 |[]=>zL _
 |s::r=>by
  have q:=Xf (w:=w) (st:=r);have u:=jl (w:=w) (s:=s);unfold rv
  split <;> lia
theorem bR{w:Int}:∀{st:List UD},0<=pm w st
 |[]=>zL _
 |s::r=>by
  have q:=bR (w:=w) (st:=r);have u:=jl (w:=w) (s:=s);unfold pm
  split <;> lia
def Cs.NN.UA{n:Nat}(h:s.NN n):({s with UA:=q}:Cs).NN n:=h
def Vo{q:Nat}:(s.send q dl c).PJ=s.PJ/\(s.send q dl c).UA=s.UA:=by
 unfold Cs.send
 split <;> exact⟨rfl,rfl⟩
theorem Js{k:Nat}:(h.Ei s k c).PJ=s.PJ/\(h.Ei s k c).UA=s.UA:=by
 unfold Hs.Ei;cases h.dn k with
 |none=>exact⟨rfl,rfl⟩
 |some d=>exact Vo
section
variable{h:Hs}{yt:Int}{lv:Nat->Int}{s:Cs}
theorem GU{k:Nat}(y:s.NN h.n):(h.NA yt lv s k).NN h.n:=by
 unfold Hs.NA;cases(h.pl k).kd with
 | NA z u x=>
  simp only;have C:=Xf (w:=lv k+s.NB k) (st:=held yt u []);cases x with
  |none=>exact y.UA.down (by lia)
  |some q=>
   obtain⟨B,E,A⟩:=q;exact Cs.NN.send (y.UA.down (by lia)) (bR (w:=lv k+s.NB k) (st:=held yt u []))
 |_=>exact y
theorem GV{k:Nat}:(h.NA yt lv s k).PJ=s.PJ:=by
 unfold Hs.NA;cases(h.pl k).kd with
 |NA w x u=>
  simp only;cases u with
  |none=>rw[Js.1]
  |some q=>obtain⟨z,A,y⟩:=q;simp only;rw[Vo.1,Js.1]
 |_=>rfl
theorem X7{k:Nat}(y:(h.pl k).kd.SD=u6):lN ((h.NA yt lv s k).UA k)=6/\∀i,i≠k->(h.NA yt lv s k).UA i=s.UA i:=by
 unfold Hs.NA;cases e:(h.pl k).kd with
 | NA x z u=>
  simp only;cases u with
  |none=>
   simp only;rw[Js.2];exact⟨by simp,λi w=>by simp[w]⟩
  |some q=>
   obtain⟨B,C,A⟩:=q;simp only;rw[Vo.2,Js.2];exact⟨by simp,λi w=>by simp[w]⟩
 |_=>rw[e]at y;cases y
def GW(g:SA h)(u:s.NN h.n)(hi:i<lN (h.mem m)):0<=h.Ge s m i:=by have q:=Tf (Mw g (m:=m) u.1);have:=q.p0 i (Ho▸hi);rw[q.pg]at this;exact this
def GY(g:SA h)(x:m<h.n)(w:h.last m=m)(u:s.NN h.n):(h.reach s m).NN h.n:=by have q:=xQ (mem_iff.mpr ⟨x,w⟩);unfold Hs.reach;exact Cs.NN.down u.UA (GW g u (by lia))
def GZ:lN (h.reach s m).PJ=lN s.PJ+1:=by unfold Hs.reach;simp only[qQ,jH];rw[Js.1]
def Zm{k:Nat}:(h.reach s m).UA k=if k∈h.mem m then TQ (h.Ha s m) (h.Ge s m) ((h.mem m).idxOf k)else s.UA k:=by unfold Hs.reach;simp only;rw[Js.2];unfold NO;rw[List.take_of_length_le (zY _)]
def Hs.step(h:Hs)(yt:Int)(lv:Nat->Int)(s:Cs)(k:Nat):Cs:=if(h.pl k).kd.SD=u6 then h.NA yt lv s k else if h.last k=k then h.reach s k else s
def Hs.RZ(h:Hs)(yt:Int)(lv:Nat->Int):Nat->Nat->Cs->Cs
 |0,_,s=>s
 |m+1,k,s=>h.RZ yt lv m (k+1) (h.step yt lv s k)
def jm(g:SA h){k:Nat}(hk:k<h.n)(q:s.NN h.n):(h.step yt lv s k).NN h.n:=by
 unfold Hs.step;split
 .exact GU q
 split
 .rename_i e;exact GY g hk e q
 exact q
def Gc{k:Nat}:lN (h.step yt lv s k).PJ<=lN s.PJ+1:=by
 unfold Hs.step;split
 .rw[GV];lia
 split
 .rw[GZ];lia
 lia
end
section
variable{G:DH}{h:Hs}{yt:Int}{lv:Nat->Int}
theorem S8{w A:Type}{f q:w->Option A}:∀{l:List w},(∀x∈l,f x=q x)->l.filterMap f=l.filterMap q
 |[],_=>rfl
 |x::l,u=>by rw[qy,qy,u x zW,S8 λy z=>u y (zJ _ z)]
def Go{k:Nat}(y:Av 2 [2] S=[u5,u5,zI k])(G:DH):Cz (Dm 0 (.fl (tab h.n λi=>(h.last i:Int)))) (Ai 2 (Ab (gV 0) (Ab (gV 1) Ao))) Pa Vs (Av 2 [2] S) h.n 0 G=.ok (Ar (h.mem k)) G:=by
 have w:Dk (tab h.n λi=>(h.last i:Int))=(zQ h.n).map λ(i:Nat)=>D.tup [.int (i:Int),.int (h.last i:Int)]:=by refine qG (by simp[Dk]) λi z A=>by simp[Dk,tab]
 rw[Ry (F:=λd=>match d with | .tup [.int i,.int e]=>if e=(k:Int)then zI i else u5|_=>u5) (λj=>Th j G) (λx u=>?_) (by rw[Iu];simp)]
 .congr 1
  rw[w,qq];unfold Hs.mem Ar;rw[<-List.filterMap_eq_filter,List.map_filterMap];refine S8 λi _=>?_
  by_cases e:h.last i=k
  .subst e;simp[Option.guard]
  have q:¬((h.last i:Int)=(k:Int)):=by lia
  simp[Option.guard,e,q]
 rw[w]at u;obtain⟨i,_,rfl⟩:=zD.mp u;refine⟨[zI i,zI (h.last i:Int),zI k],by rw[y];simp,?_⟩;by_cases e:h.last i=k
 .refine .inr ⟨by unfold Pa;simp[e],.int i,by unfold Vs;simp,by simp[e]⟩
 .have q:¬((h.last i:Int)=(k:Int)):=by lia
  exact .inl ⟨by unfold Pa;simp[q],by simp[q]⟩
theorem jn(g:SA h):∀(m k:Nat)(s:Cs)(x y:Option D),k+m=h.n->s.NN h.n->lN s.PJ<=k->∃w z,
  An (Ai 2 (Ab (gV 2) (Ab (gV 3) Ao))) Mz ((Dk (tab h.n λi=>(h.last i:Int))).drop k) [zR (lN G),zF (tab h.n λi=>(h.last i:Int)),x,y] (YB G h.n h.enc (.tup (tab h.n lv)) yt s)=
   .nx [zR (lN G),zF (tab h.n λi=>(h.last i:Int)),w,z] (YB G h.n h.enc (.tup (tab h.n lv)) yt (h.RZ yt lv m k s))
 |0,k,s,x,y,e,_,_=>⟨x,y,by rw[qJ (by rw[Iu];simp;lia),Cj];rfl⟩
 | m+1,k,s,x,y,e,E,K=>by
  have hk:k<h.n:=by lia
  have M:=g.len;have C:=Gc (h:=h) (yt:=yt) (lv:=lv) (s:=s) (k:=k);obtain⟨w,z,I⟩:=jn g m (k+1) (h.step yt lv s k) (zI k) (zI (h.last k:Int)) (by lia) (jm g hk E) (by lia);refine⟨w,z,?_⟩;have F:(Dk (tab h.n λi=>(h.last i:Int))).drop k=.tup [.int k,.int (h.last k:Int)]::(Dk (tab h.n λi=>(h.last i:Int))).drop (k+1):=by rw[qZ (by rw[Iu];simpa using hk)];simp[Dk,tab]
  have A:lN (h.mem k)<=1000000:=by have:=ij (h:=h) (m:=k);lia
  have L:Mz [zR (lN G),zF (tab h.n λi=>(h.last i:Int)),zI k,zI (h.last k:Int)] (YB G h.n h.enc (.tup (tab h.n lv)) yt s)=
    .nx [zR (lN G),zF (tab h.n λi=>(h.last i:Int)),zI k,zI (h.last k:Int)] (YB G h.n h.enc (.tup (tab h.n lv)) yt (h.step yt lv s k)):=by
   unfold Mz Hs.step;by_cases q:(h.pl k).kd.SD=u6
   .simp[Ih,Cr,Hs.Dw hk,Hi,q,J9 GF,GP g hk q]
   by_cases B:h.last k=k
   .have J:Cz (Dm 0 (.fl (tab h.n λi=>(h.last i:Int)))) (Ai 2 (Ab (gV 0) (Ab (gV 1) Ao))) Pa Vs (Av 2 [2] [zR (lN G),zF (tab h.n λi=>(h.last i:Int)),zI k,zI (k:Int)]) h.n 0 (YB G h.n h.enc (.tup (tab h.n lv)) yt s)=.ok (Ar (h.mem k)) (YB G h.n h.enc (.tup (tab h.n lv)) yt s):=Go rfl _;simp[Ih,Cr,Hs.Dw hk,Hi,q,B,J9 GG,Ez,Jc,lenOf,J,Ae,A,Ud,GT g hk B E.1 (by lia)]
   .have u:¬((h.last k:Int)=(k:Int)):=by lia
    simp[Ih,Cr,Hs.Dw hk,Hi,q,B,u]
  rw[F,Bs];simp[Mp,Mg,Oc,By,R.Hu,R.Bp,qY,L,Cd,zH,qT,Nat.reduceAdd,if_true];exact I
def HA(g:SA h)(y:s.NN h.n)(u:s.PJ=[]):W6 [.ref (lN G)] (YB G h.n h.enc (.tup (tab h.n lv)) yt s)=.ok .WA (YB G h.n h.enc (.tup (tab h.n lv)) yt (h.RZ yt lv h.n 0 s)):=by
 obtain⟨z,A,w⟩:=jn (G:=G) (yt:=yt) (lv:=lv) g h.n 0 s u5 u5 (by lia) y (by rw[u];simp);rw[xy]at w;unfold W6 gX;rw[Af];have x:∀S q,Di (Dm 0 (.fl (tab h.n λi=>(h.last i:Int)))) (Ai 2 (Ab (gV 2) (Ab (gV 3) Ao))) Mz h.n 0 S q=An (Ai 2 (Ab (gV 2) (Ab (gV 3) Ao))) Mz (Dk (tab h.n λi=>(h.last i:Int))) S q:=λS q=>Ql Th (by rw[Iu];simp)
 simp[Ih,Fs g,Ud,Ez,Jc,lenOf,x,w,Jl]
end
def Am(n:Nat)(co:Nat->Nat->Int):List D:=(zQ n).map λk=>D.tup (tab 5 (co k))
def PB(n:Nat)(lv:Nat->Int)(co:Nat->Nat->Int):D:=.tup [.tup (tab n lv),.tup (Am n co)]
@[simp]theorem MI{n:Nat}:XA m (Am n co)=u6:=Dy λk _=>by simp[Gy]
@[simp]theorem HB{n:Nat}:XA m (Ce n q)=u6:=Dy λk _=>GB
@[simp]theorem MJ{n:Nat}:lN (Am n co)=n:=by simp[Am]
def Gk(co:Nat->Nat->Int):Nat->Nat->Int:=λk j=>if j<4 then co k (j+1)else 0
def S4(co:Nat->Nat->Int)(fl:Nat->Int):Cs:=⟨λk=>fl k+co k 0,Gk co,λ_=>[],[]⟩
theorem P5:tab 5 F=[.int (F 0),.int (F 1),.int (F 2),.int (F 3),.int (F 4)]:=rfl
def La{c f:Str}{fs:List (Str×D)}{d:D}(q:lN fs<1000):Np c f (.ref (lN G)) d S (G++ .ins c fs::L)=.nx S (G++ .ins c (Fy f d fs)::L):=by
 rw[A5 (by rw[Bw];rfl) q,Dt]
 rfl
def HC{n:Nat}{fl:Nat->Int}(G:DH):Cz (Ey [.tup (tab n fl),.tup (Am n co)]) (Ai 2 (Ab (gV 0) (Ab (gV 1) Ao))) Aw Uj (Av 2 [] S) n 0 G=.ok (tab n λk=>fl k+co k 0) G:=by
 have q:Kg (tab n fl) (Am n co)=(zQ n).map λ(i:Nat)=>D.tup [.int (fl i),.tup (tab 5 (co i))]:=by refine qG (by simp[Kg]) λi w y=>by simp[Kg,tab,Am]
 rw[Ry (F:=λd=>match d with | .tup [.int c,.tup (.int a::_)]=>zI (c+a)|_=>u5) (λj=>af (K3) (K3) j) (λx u=>?_) (by rw[q];simp)]
 .congr 1
  rw[q,qq];show(zQ n).filterMap (λi=>zI (fl i+co i 0))=_;rw[qB]
  rfl
 rw[q]at u;obtain⟨i,_,rfl⟩:=zD.mp u;refine⟨[zI (fl i),zT (tab 5 (co i))],by simp[Av],.inr ⟨rfl,.int (fl i+co i 0),?_,by simp[P5]⟩⟩;unfold Uj;simp[P5]
def HD{k:Nat}(G:DH):Qe [zT (tab 5 (co k))] G=.ok (.ref (lN G)) (G++[.lst (tab 5 (Gk co k))]):=by
 have q:cutD (tab 5 (co k)) (u4 1) u5=[.int (co k 1),.int (co k 2),.int (co k 3),.int (co k 4)]:=rfl;have w:Qy [.tup [.int (co k 1),.int (co k 2),.int (co k 3),.int (co k 4)]] G=.ok (.ref (lN G)) (G++[.lst [.int (co k 1),.int (co k 2),.int (co k 3),.int (co k 4)]]):=rfl;have x:I8 (.fl [.int (co k 1),.int (co k 2),.int (co k 3),.int (co k 4)]) (.fl [.int 0]) G=.ok (.ref (lN G)) (G++[.lst (tab 5 (Gk co k))]):=rfl
 have y:∀u:List D,XA (lN G) u=u6->freeze G (.ok (.ref (lN G)) (G++[.lst u]))=.ok (.fl u) G:=λu z=>Dh z
 unfold Qe;simp[J1,Kl,q,Hr,w,y,Ae,x,Cq]
theorem jo{n:Nat}{co:Nat->Nat->Int}:∀(m k:Nat)(G:DH),k+m=n->Bv (gV 0) Aw Qe [u5] ((Am n co).drop k) G=.ok ((zQ m).map λj=>D.ref (lN G+j)) (G++(zQ m).map λj=>DO.lst (tab 5 (Gk co (k+j))))
 |0,k,G,e=>by rw[qJ (by simp;lia)];simp[Bv]
 | m+1,k,G,e=>by
  have q:(Am n co).drop k=.tup (tab 5 (co k))::(Am n co).drop (k+1):=by rw[qZ (by simp;lia)];simp[Am]
  rw[q,aV];simp only[By,R.Hu,qY,dS,if_true,HD,jo (n:=n) (co:=co) m (k+1) (G++[.lst (tab 5 (Gk co k))]) (by lia)]
  congr 1
  .rw[qH,zy,qP]
   congr 1
   refine qx λj _=>?_
   simp only[Function.comp,qQ,jH]
   congr 1
   lia
  rw[qH,zy,qP,jK]
  congr 1
  show _::_=_::_
  congr 1
  refine qx λj _=>?_
  simp only[Function.comp]
  congr 3
  lia
def HE(g:SA h){fl:Nat->Int}:
  Qz [.ref (lN G),h.enc,PB h.n lv co,.int at_,.tup (tab h.n fl)] (G++[.ins "Course" []])=.ok .WA (YB G h.n h.enc (.tup (tab h.n lv)) (at_%h.yr) (S4 co fl)):=by
 have hn:=g.len;have I:h.n<=1000000:=by lia
 have p1:∀a:D,Fy "house" a (ZL [])=ZL [a]:=λ_=>rfl
 have p2:∀a b:D,Fy "levels" b (ZL [a])=ZL [a,b]:=λ_ _=>rfl
 have p3:∀a b c:D,Fy "year_turn" c (ZL [a,b])=ZL [a,b,c]:=λ_ _ _=>rfl
 have p4:∀a b c d:D,Fy "came" d (ZL [a,b,c])=ZL [a,b,c,d]:=λ_ _ _ _=>rfl
 have p5:∀a b c d e:D,Fy "coming" e (ZL [a,b,c,d])=ZL [a,b,c,d,e]:=λ_ _ _ _ _=>rfl
 have p6:∀a b c d e f:D,Fy "page" f (ZL [a,b,c,d,e])=ZL [a,b,c,d,e,f]:=λ_ _ _ _ _ _=>rfl
 have p7:∀a b c d e f q:D,Fy "reaches" q (ZL [a,b,c,d,e,f])=ZL [a,b,c,d,e,f,q]:=λ_ _ _ _ _ _ _=>rfl
 have C:∀X,lN (ZL X)<1000:=λX=>by unfold ZL;rw[List.length_zip];have:lN (["house","levels","year_turn","came","coming","page","reaches"]:List Str)=7:=rfl;lia
 have hz:∀A,Ew 2 [.tup (tab h.n fl),.tup (Am h.n co)] A=.ok (.fn h.n (Ey [.tup (tab h.n fl),.tup (Am h.n co)])) A:=λA=>by rw[Rw K3 K3];simp
 have Yf:=λA=>jo (n:=h.n) (co:=co) h.n 0 A (by lia)
 simp[xy,Nat.zero_add]at Yf;have RV:∀S:RD,Av 1 [] S=[u5]:=λ_=>rfl
 have P:zV h.n D.WA=Ce h.n λ_=>[]:=by unfold Ce;refine qG (by simp) λi K U=>by simp[Je]
 let S:RD:=[zR (lN G),u4 h.enc,u4 (PB h.n lv co),zI at_,zT (tab h.n fl),zT (tab h.n lv),zT (Am h.n co)];have y:S=[zR (lN G),u4 h.enc,u4 (PB h.n lv co),zI at_,zT (tab h.n fl),zT (tab h.n lv),zT (Am h.n co)]:=rfl;let x:DH:=(zQ h.n).map λk=>DO.lst (tab 5 (Gk co k))
 have E:lN x=h.n:=by simp[x]
 let W:List D->DH->DH:=λL t=>G++ .ins "Course" (ZL L)::t
 let B:D:=.tup (tab h.n lv);let Y:D:=.int (at_%h.yr);let u:DO:=.lst (tab h.n λk=>fl k+co k 0);have q1:Eo "Course" (dV 0) (dV 1) "house" S (W [] [])=.nx S (W [h.enc] []):=by rw[Kh,y];simp[W,B,X6,jU,jw,R.Bp,La (C _),p1]
 have q2:Eo "Course" (dV 0) (dV 5) "levels" S (W [h.enc] [])=.nx S (W [h.enc,B] []):=by rw[Kh,y];simp[W,B,X6,jU,jw,R.Bp,La (C _),p2]
 have Z:Eo "Course" (dV 0) (UB Ja (dV 3) (UB Bj (dV 1) (dC (.int 0)))) "year_turn" S (W [h.enc,B] [])=.nx S (W [h.enc,B,Y] []):=by rw[Kh,y];simp[W,B,Y,u,Qk,g.yr,La (C _),p3]
 have q4:Eo "Course" (dV 0) (Bt (Bf (Ew 2) (Aq (dV 4) (Aq (dV 6) Bm))) 2 [] (Ai 2 (Ab (gV 0) (Ab (gV 1) Ao))) Aw Uj) "came" S (W [h.enc,B,Y] [])=
   .nx S (W [h.enc,B,Y,.ref (lN G+1)] (u::[])):=by
  rw[Kh,y];simp[W,B,Y,u,hz,HC,Ae,I,La (C _),p4]
 have q5:Eo "Course" (dV 0) (Bt (Dr (dV 6)) 1 [] (gV 0) Aw Qe) "coming" S (W [h.enc,B,Y,.ref (lN G+1)] (u::[]))=
   .nx S (W [h.enc,B,Y,.ref (lN G+1),.ref (lN G+(2+h.n))] (u::(x++[.lst (Do (lN G) h.n)]))):=by
  have hi:Ft (.tup (Am h.n co)) (W [h.enc,B,Y,.ref (lN G+1)] (u::[]))=.ok (.pure (Am h.n co)) (W [h.enc,B,Y,.ref (lN G+1)] (u::[])):=rfl;have er:∀L:DH,lN L=2->(zQ h.n).map (λj=>D.ref (lN (G++L)+j))=Do (lN G) h.n:=λL e=>by
   unfold Do;refine qx λj _=>?_
   rw[qQ,e,Nat.add_assoc]
  have WS:=Yf (W [h.enc,B,Y,.ref (lN G+1)] (u::[]));rw[er _ rfl]at WS;have M:∀A,Ae (Do (lN G) h.n) A=.ok (.ref (lN A)) (A++[.lst (Do (lN G) h.n)]):=λA=>by simp[Ae,Do,I]
  rw[Kh,y];simp only[W,B,Y,u,wo,wn,X6,jU,jw,R.Hu,hi,RV,WS,M,R.Bp];have e2:lN (G++DO.ins "Course" (ZL [h.enc,.tup (tab h.n lv),.int (at_%h.yr),.ref (lN G+1)]):: .lst (tab h.n λk=>fl k+co k 0)::[]++(zQ h.n).map λj=>DO.lst (tab 5 (Gk co j)))=lN G+(2+h.n):=by simp;lia
  rw[e2];simp[W,jK,List.cons_append,xz];rw[La (C _),p5]
 have q6:Eo "Course" (dV 0) (Bx (UB Dv (RA Ae (Aq (dC .WA) Bm)) (RA Be (Aq (dV 5) Bm)))) "page" S (W [h.enc,B,Y,.ref (lN G+1),.ref (lN G+(2+h.n))] (u::(x++[.lst (Do (lN G) h.n)])))=
   .nx S (W [h.enc,B,Y,.ref (lN G+1),.ref (lN G+(2+h.n)),.ref (lN G+(3+h.n))] (u::(x++[.lst (Do (lN G) h.n),.lst (Ce h.n λ_=>[])]))):=by
  rw[Kh,y];generalize J:W [h.enc,B,Y,.ref (lN G+1),.ref (lN G+(2+h.n))] (u::(x++[.lst (Do (lN G) h.n)]))=Q;have N:lN Q=lN G+(3+h.n):=by rw[<-J];simp[W,E];lia
  have F:Dv (.ref (lN Q)) (.int (h.n:Int)) (Q++[.lst [.WA]])=.ok (.ref (lN Q+1)) (Q++[.lst [.WA],.lst (Ce h.n λ_=>[])]):=by rw[eU (by rw[Bw];rfl) (by lia),P];simp
  have O:tidy Q (.ok (.ref (lN Q+1)) (Q++[.lst [.WA],.lst (Ce h.n λ_=>[])]))=.ok (.ref (lN Q)) (Q++[.lst (Ce h.n λ_=>[])]):=aW _ rfl HB;have w:Np "Course" "page" (.ref (lN G)) (.ref (lN Q)) S (Q++[.lst (Ce h.n λ_=>[])])=.nx S (W [h.enc,B,Y,.ref (lN G+1),.ref (lN G+(2+h.n)),.ref (lN G+(3+h.n))] (u::(x++[.lst (Do (lN G) h.n),.lst (Ce h.n λ_=>[])]))):=by rw[N,<-J];simp[W,jK,List.cons_append,xz];rw[La (C _),p6]
  rw[y]at w;simp[Ae,F,O,w]
 have q7:Eo "Course" (dV 0) (Bx (RA Ae Bm)) "reaches" S (W [h.enc,B,Y,.ref (lN G+1),.ref (lN G+(2+h.n)),.ref (lN G+(3+h.n))] (u::(x++[.lst (Do (lN G) h.n),.lst (Ce h.n λ_=>[])])))=
   .nx S (W [h.enc,B,Y,.ref (lN G+1),.ref (lN G+(2+h.n)),.ref (lN G+(3+h.n)),.ref (lN G+(4+h.n))] (u::(x++[.lst (Do (lN G) h.n),.lst (Ce h.n λ_=>[]),.lst []]))):=by
  rw[Kh,y];generalize J:W [h.enc,B,Y,.ref (lN G+1),.ref (lN G+(2+h.n)),.ref (lN G+(3+h.n))] (u::(x++[.lst (Do (lN G) h.n),.lst (Ce h.n λ_=>[])]))=Q;have N:lN Q=lN G+(4+h.n):=by rw[<-J];simp[W,E];lia
  have O:tidy Q (.ok (.ref (lN Q)) (Q++[.lst []]))=.ok (.ref (lN Q)) (Q++[.lst []]):=Cq rfl;have w:Np "Course" "reaches" (.ref (lN G)) (.ref (lN Q)) S (Q++[.lst []])=.nx S (W [h.enc,B,Y,.ref (lN G+1),.ref (lN G+(2+h.n)),.ref (lN G+(3+h.n)),.ref (lN G+(4+h.n))] (u::(x++[.lst (Do (lN G) h.n),.lst (Ce h.n λ_=>[]),.lst []]))):=by rw[N,<-J];simp[W,jK,List.cons_append,xz];rw[La (C _),p7]
  rw[y]at w;simp[Ae,O,w]
 have T:tidy (G++[.ins "Course" []]) (.ok .WA (YB G h.n h.enc (.tup (tab h.n lv)) (at_%h.yr) (S4 co fl)))=.ok .WA (YB G h.n h.enc (.tup (tab h.n lv)) (at_%h.yr) (S4 co fl)):=As λz=>by
  have K:=congrArg (λl:DH=>l[lN G]?) z;simp only[qQ,jH]at K;rw[jA (by lia),Ir]at K;have U:(G++[DO.ins "Course" []])[lN G]?=u4 (.ins "Course" []):=by rw[Bw];rfl
  rw[U]at K;simp[ZG,ZL]at K
 have q0:PD (dV 2) (Ai 2 (Ab (gV 5) (Ab (gV 6) Ao))) [zR (lN G),u4 h.enc,u4 (PB h.n lv co),zI at_,zT (tab h.n fl),u5,u5] (G++[.ins "Course" []])=.nx S (W [] []):=by
  simp[PB,y]
  rfl
 unfold Qz gG;rw[Af];have h5:lN [D.ref (lN G),h.enc,PB h.n lv co,.int at_,.tup (tab h.n fl)]=5:=rfl;rw[if_pos h5];have hd:([D.ref (lN G),h.enc,PB h.n lv co,.int at_,.tup (tab h.n fl)].map u4++zV 2 u5)=[zR (lN G),u4 h.enc,u4 (PB h.n lv co),zI at_,zT (tab h.n fl),u5,u5]:=rfl;rw[hd];simp only[Q9,q0,Vi,q1,q2,Z,q4,q5,q6,q7,xl];exact T
section
variable{h:Hs}{yt:Int}{lv:Nat->Int}
theorem bS(g:SA h):∀(m k:Nat),h.n<=m+k->h.last k=k\/(h.pl (h.last k)).kd.SD=u7
 |0,k,e=>.inl (Gz g (O4 (by lia)))
 | m + 1,k,e=>by
  cases q:h.dir k with
  |none=>exact .inl (Gz g q)
  | some d=>
   have A:=Jv g q;rw[Le g q];rcases bS g m d (by lia)with z|z
   .refine .inr ?_;rw[z];unfold Hs.dir at q;cases u:h.dn k with
    |none=>rw[u]at q;cases q
    |some y=>
     rw[u]at q;simp only at q;split at q
     .cases q
     rename_i x;cases q;cases w:(h.pl d).kd.SD with
     |false=>rfl
     |true=>exact absurd (.inr (.inr w)) x
   exact .inr z
theorem bT(g:SA h):∀(m k:Nat),h.n<=m+k->h.last (h.last k)=h.last k
 |0,k,e=>by have u:=Gz g (k:=k) (O4 (by lia));rw[u,u]
 | m+1,k,e=>by
  cases q:h.dir k with
  |none=>rw[Gz g q,Gz g q]
  |some d=>
   have w:=Jv g q;rw[Le g q];exact bT g m d (by lia)
def Hs.done(h:Hs)(j k:Nat):Prop:=if(h.pl k).kd.SD=u6 then k<j else h.last k<j
def HF(g:SA h){k:Nat}(hk:k<h.n)(B:∀i,i<h.n->h.done k i->lN (s.UA i)=6):∀i,i<h.n->h.done (k+1) i->lN ((h.step yt lv s k).UA i)=6:=λi y w=>by
 unfold Hs.step;split
 .rename_i x;by_cases e:i=k
  .subst e;exact(X7 x).1
  rw[(X7 x).2 i e];refine B i y ?_;unfold Hs.done at w⊢;by_cases q:(h.pl i).kd.SD=u6
  .rw[if_pos q]at w⊢;lia
  .rw[if_neg q]at w⊢;rcases j4 (h.last i) k with z|z
   .exact z
   .have u:h.last i=k:=by lia
    rcases bS g h.n i (by lia)with A|A
    .rw[A]at u;exact absurd u e
    rw[u,x]at A;cases A
 rename_i x;split
 .rename_i C;rw[Zm];split
  .rfl
  .rename_i E;refine B i y ?_;unfold Hs.done at w⊢;by_cases q:(h.pl i).kd.SD=u6
   .rw[if_pos q]at w⊢;rcases j4 i k with z|z
    .exact z
    .have u:i=k:=by lia
     rw[u]at q;exact absurd q x
   .rw[if_neg q]at w⊢;rcases j4 (h.last i) k with z|z
    .exact z
    exact absurd (mem_iff.mpr ⟨y,by lia⟩) E
 .rename_i C;refine B i y ?_;unfold Hs.done at w⊢;by_cases q:(h.pl i).kd.SD=u6
  .rw[if_pos q]at w⊢;rcases j4 i k with z|z
   .exact z
   .have u:i=k:=by lia
    rw[u]at q;exact absurd q x
  .rw[if_neg q]at w⊢;rcases j4 (h.last i) k with z|z
   .exact z
   .have u:h.last i=k:=by lia
    have:=bT g h.n i (by lia);rw[u]at this;exact absurd this C
theorem Wt(g:SA h):∀(m k:Nat)(s:Cs),k+m=h.n->(∀i,i<h.n->h.done k i->lN (s.UA i)=6)->∀i,i<h.n->lN ((h.RZ yt lv m k s).UA i)=6
 | 0,k,s,e,u,i,q=>u i q (by
   unfold Hs.done;split
   .lia
   have:=(Hw g i).2 q;lia)
 |m+1,k,s,e,u,i,q=>Wt g m (k+1) _ (by lia) (HF g (by lia) u) i q
theorem jp(g:SA h):∀(m k:Nat)(s:Cs),k+m=h.n->s.NN h.n->(h.RZ yt lv m k s).NN h.n
 |0,k,s,e,q=>q
 |m+1,k,s,e,q=>jp g m (k+1) _ (by lia) (jm g (by lia) q)
end
noncomputable def SG(pg:Nat->List Int):Nat->Int:=λk=>(pg k).getD 5 0
theorem P6{l:List Int}(h:lN l=6):∃a b c d e f,l=[a,b,c,d,e,f]:=by
 match l,h with
 |[a,b,c,d,e,f],_=>exact⟨a,b,c,d,e,f,rfl⟩
section
variable{G:DH}{h:Hs}{LV:D}{yt:Int}{s:Cs}
def HG(u:∀k,k<h.n->lN (s.UA k)=6):Fi (lN G+(3+h.n)) (gV 0) Aw Vu (Av 1 [] S) h.n 0 (YB G h.n h.enc LV yt s)=.ok (tab h.n (SG s.UA)) (YB G h.n h.enc LV yt s):=by
 have q:=d6 (g:=gV 0) (c:=Aw) (te:=Vu) (S:=Av 1 [] S) (G:=YB G h.n h.enc LV yt s) (F:=λd=>match d with | .tup [_,_,_,_,_,x]=>u4 x|_=>u5) Kc (λx q=>by obtain⟨k,hk,rfl⟩:=zD.mp q;obtain⟨a,b,c,d,e,f,el⟩:=P6 (u k (qK.mp hk));rw[el];refine⟨[u4 (Je [a,b,c,d,e,f])],by simp[Av],.inr ⟨rfl,.int f,?_,rfl⟩⟩;unfold Vu;simp[Je])
 rw[GN]at q;rw[q]
 congr 1
 unfold Ce;rw[qq];unfold tab;rw[<-qB];refine S8 λk hk=>?_
 obtain⟨a,b,c,d,e,f,el⟩:=P6 (u k (qK.mp hk));simp[Function.comp,el,Je,SG]
def HI:Fi (lN G+(2+h.n)) (gV 0) Aw S7 (Av 1 [] S) h.n 0 (YB G h.n h.enc LV yt s)=.ok (Am h.n s.ZA) (YB G h.n h.enc LV yt s):=by
 have q:lN (Do (lN G) h.n)=h.n:=by simp[Do]
 have u:=d6 (g:=gV 0) (c:=Aw) (te:=S7) (S:=Av 1 [] S) (G:=YB G h.n h.enc LV yt s) (F:=λd=>match d with | .ref j=>zT (tab 5 (s.ZA (j-(lN G+2))))|_=>u5) Sw (λx u=>by
  obtain⟨k,hk,rfl⟩:=zD.mp u;refine⟨[zR (lN G+(2+k))],by simp[Av],.inr ⟨rfl,.tup (tab 5 (s.ZA k)),?_,?_⟩⟩
  .unfold S7;simp[Yg (qK.mp hk)]
  have e:lN G+(2+k)-(lN G+2)=k:=by lia
  simp[e])
 rw[q]at u;rw[u]
 congr 1
 unfold Do;rw[qq];unfold Am;rw[<-qB];refine S8 λk hk=>?_
 have e:lN G+(2+k)-(lN G+2)=k:=by lia
 simp[Function.comp,e]
def HJ(g:SA h)(y:∀k,k<h.n->lN (s.UA k)=6):Tj [.ref (lN G)] (YB G h.n h.enc LV yt s)=.ok (PB h.n (SG s.UA) s.ZA) (YB G h.n h.enc LV yt s):=by
 have A:=g.len;have u:h.n<=1000000:=by lia
 have q:lN (Do (lN G) h.n)=h.n:=by simp[Do]
 have z:PC (lN (YB G h.n h.enc LV yt s)) (PB h.n (SG s.UA) s.ZA)=u6:=by simp[PB]
 unfold Tj gY;rw[Af];unfold PB at z⊢;have w:Ft (.ref (lN G+(3+h.n))) (YB G h.n h.enc LV yt s)=.ok (.mt (lN G+(3+h.n))) (YB G h.n h.enc LV yt s):=by simp[Ft,Kc]
 have x:Ft (.ref (lN G+(2+h.n))) (YB G h.n h.enc LV yt s)=.ok (.mt (lN G+(2+h.n))) (YB G h.n h.enc LV yt s):=by simp[Ft,Sw]
 simp[w,x,N5,Kc,HG y,Ae,u,Ud,Ag,ir,Sw,q,HI,Az]
def Hs.cs(h:Hs)(lv:Nat->Int)(co:Nat->Nat->Int)(at_:Int)(fl:Nat->Int):Cs:=h.RZ (at_%h.yr) lv h.n 0 (S4 co fl)
def jr{n:Nat}{fl:Nat->Int}(q:∀k j,k<n->j<5->0<=co k j)(u:∀k,k<n->0<=fl k):(S4 co fl).NN n:=by
 refine⟨λk hk=>?_,λk j hk w=>?_⟩
 .have:=q k 0 hk (by lia);have:=u k hk;show 0<=fl k+co k 0;lia
 show 0<=if j<4 then co k (j+1)else 0
 split
 .exact q k (j+1) hk (by lia)
 exact zL _
def HK(g:SA h){fl:Nat->Int}:∀k,k<h.n->lN ((h.cs lv co at_ fl).UA k)=6:=Wt g h.n 0 _ (by lia) λi u q=>by
 unfold Hs.done at q
 split at q<;>lia
def HL(g:SA h){fl:Nat->Int}(y:∀k j,k<h.n->j<5->0<=co k j)(z:∀k,k<h.n->0<=fl k)(G:DH):
  Tw [h.enc,PB h.n lv co,.int at_,.tup (tab h.n fl)] G=.ok (.tup [.tup (Ce h.n (h.cs lv co at_ fl).UA),PB h.n (SG (h.cs lv co at_ fl).UA) (h.cs lv co at_ fl).ZA]) G:=by
 have q:=HA (G:=G) (lv:=lv) (yt:=at_%h.yr) g (jr y z) rfl;have x:ah Qz "Course" [h.enc,PB h.n lv co,.int at_,.tup (tab h.n fl)] G=.ok (.ref (lN G)) (YB G h.n h.enc (.tup (tab h.n lv)) (at_%h.yr) (S4 co fl)):=by
  unfold ah;rw[HE g]
  rfl
 have u:h.RZ (at_%h.yr) lv h.n 0 (S4 co fl)=h.cs lv co at_ fl:=rfl;rw[u]at q;have w:∀s,YB G h.n h.enc (.tup (tab h.n lv)) (at_%h.yr) s=G++ZU (lN G) h.n h.enc (.tup (tab h.n lv)) (at_%h.yr) s:=λ_=>rfl
 unfold Tw gZ;rw[Af];simp[x,J9 GH,q,N5,Kc,J9 GI,HJ (G:=G) (LV:=.tup (tab h.n lv)) (yt:=at_%h.yr) g (HK g (lv:=lv) (fl:=fl) (co:=co) (at_:=at_)),Ag];rw[w];exact K7 (by simp[PB])
end
def HM(x:Cf ns f):∃u:Int,(u=1\/u=1000000000000000000000000000000)/\Cu ns u:=by
 have w:∀G,Ay [nD ns,.int 0] G=.ok (.int (f 0)) G:=x 0 (by lia);have q:∀G:DH,freeze G (.ok (.ref (lN G)) (G++[.lst [.int 1,.int 1,.int 1000000000000000000000000000000]]))=.ok (.fl [.int 1,.int 1,.int 1000000000000000000000000000000]) G:=λG=>Dh rfl
 rcases(by lia:f 0/840%3=0\/f 0/840%3=1\/f 0/840%3=2)with h|h|h
 .refine⟨1,.inl rfl,λG=>?_⟩;unfold Hg Ug;rw[Af];simp[w,h,Ae,q,Az]
 .refine⟨1,.inl rfl,λG=>?_⟩;unfold Hg Ug;rw[Af];simp[w,h,Ae,q,Az]
 refine⟨1000000000000000000000000000000,.inr rfl,λG=>?_⟩;unfold Hg Ug;rw[Af];simp[w,h,Ae,q,Az]
def XG(c u:Int):Int:=u*(c%7)+c/7%u
def Q4(x:0<u):0<=XG c u:=by unfold XG;have q:0<=u*(c%7):=jM (by lia) (by lia);have w:0<=c/7%u:=jz _ (by lia);lia
def Jz(w:0<u)(G:DH):Ib [.int c,.int u] G=.ok (.int (XG c u)) G:=by
 have q:∀G,Bo (.int u) (.int (c%7)) G=.ok (.int (u*(c%7))) G:=λG=>Gq (by lia) (by lia)
 unfold Ib f9;rw[Af];simp[q,w,Az,XG]
noncomputable def M9(xs:Nat->Int)(u:Int)(p:Bool):Nat->Nat->Int->List UD
 |0,_,_=>[]
 |n+1,j,low=>⟨low+u*(xs (1+j)%4),1+u*(xs (1+j)/4%4), !(p&&decide (xs (1+j)/16%2=1))⟩::M9 xs u p n (j+1) (low+u*(xs (1+j)%4)+(1+u*(xs (1+j)/4%4)))
theorem js(w:0<u){p:Bool}:∀(n j:Nat)(q:Int),Good q (M9 xs u p n j q)
 |0,_,_=>trivial
 |n+1,j,q=>by have x:0<=u*(xs (1+j)%4):=jM (by lia) (by lia);have y:0<=u*(xs (1+j)/4%4):=jM (by lia) (by lia);exact⟨by show q<=q+_;lia,by show 1<=1+_;lia,js w n (j+1) _⟩
theorem jt:∀(n j:Nat)(q:Int),∀s∈M9 xs u u7 n j q,s.r=u6
 |0,_,_,s,h=>by cases h
 |n+1,j,q,s,h=>by
  rcases zK.mp h with rfl|h
  .simp
  exact jt n (j+1) _ s h
theorem ju{p:Bool}:∀(n j:Nat)(q:Int)(acc:List UD)(x y z:Option D),j+n<=3->lN acc+n<=10->∃B E F l',
  An (gV 5) Qc (Bb j n) [zF (tab 4 xs),zI u,zB p,zR (lN G),zI q,x,y,z] (G++[.lst (acc.map UD.enc)])=
   .nx [zF (tab 4 xs),zI u,zB p,zR (lN G),l',B,E,F] (G++[.lst ((acc++M9 xs u p n j q).map UD.enc)])
 |0,j,q,acc,x,y,z,h,L=>⟨x,y,z,zI q,by rw[Gs,Cj];simp[M9]⟩
 | n+1,j,q,acc,x,y,z,h,L=>by
  have I:YC (tab 4 xs) (1+(j:Int))=zI (xs (1+j)):=Df (by lia) (Kp (by lia));let s:UD:=⟨q+u*(xs (1+j)%4),1+u*(xs (1+j)/4%4), !(p&&decide (xs (1+j)/16%2=1))⟩;obtain⟨B,E,F,l',M⟩:=ju n (j+1) (s.h+s.m) (acc++[s]) (zI j) (zI s.m) (zS (wy s.r)) (by lia) (by simp;lia);refine⟨B,E,F,l',?_⟩;have C:∀G,Bo (.int u) (.int (xs (1+j)%4)) G=.ok (.int (u*(xs (1+j)%4))) G:=λG=>Gq (by lia) (by lia)
  have J:∀G,Bo (.int u) (.int (xs (1+j)/4%4)) G=.ok (.int (u*(xs (1+j)/4%4))) G:=λG=>Gq (by lia) (by lia)
  have w:lN acc<1000000:=by lia
  have N:Qc [zF (tab 4 xs),zI u,zB p,zR (lN G),zI q,zI j,y,z] (G++[.lst (acc.map UD.enc)])=
    .nx [zF (tab 4 xs),zI u,zB p,zR (lN G),zI (s.h+s.m),zI j,zI s.m,zS (wy s.r)] (G++[.lst ((acc++[s]).map UD.enc)]):=by
   unfold Qc;cases p with
   |false=>simp[I,C,J,Bw,Dt,w,Ag,s,UD.enc,wy]
   |true=>
    by_cases A:xs (1+j)/16%2=1
    .simp[I,C,J,A,Bw,Dt,w,Ag,s,UD.enc,wy]
    simp[I,C,J,A,Bw,Dt,w,Ag,s,UD.enc,wy]
  rw[Fq,Bs];simp only[By,R.Bp,qY,N,Cd];have K:((j:Int)+1)=((j+1:Nat):Int):=by lia
  rw[K,M];simp[M9,s]
def UQ(xs:Nat->Int)(u:Int)(p:Bool):List UD:=M9 xs u p (xs 0%4).toNat 0 0
def kA{p:Bool}(G:DH):Um [.fl (tab 4 xs),.int u,.bl p] G=.ok (.tup ((UQ xs u p).map UD.enc)) G:=by
 obtain⟨w,x,A,z,y⟩:=ju (xs 0%4).toNat 0 0 [] u5 u5 u5 (by lia) (by simp;lia);have q:An (gV 5) Qc (Bb 0 (xs 0%4).toNat) [zF (tab 4 xs),zI u,zB p,zR (lN G),zI 0,u5,u5,u5] (G++[.lst []])=.nx [zF (tab 4 xs),zI u,zB p,zR (lN G),z,w,x,A] (G++[.lst ((UQ xs u p).map UD.enc)]):=y;have B:YC (tab 4 xs) 0=zI (xs 0):=Df (k:=0) rfl (Kp (by lia));have C:inR (xs 0%4):=Ef (by lia) (by lia)
 unfold Um gh;rw[Af];simp[Ae,Cq,B,C,q,Bw,K7]
def Dl(st:List UD):Int:=match st with
 |[]=>0
 |s::r=>(if s.r then 0 else s.m)+Dl r
theorem kB{c:D}:∀(st:List UD)(v:Int)(x y z:Option D),∃u w A,An (Ai 3 (Ab (gV 2) (Ab (gV 3) (Ab (gV 4) Ao)))) Vh (st.map UD.enc) [u4 c,zI v,x,y,z] G=.nx [u4 c,zI (v+Dl st),u,w,A] G
 |[],v,x,y,z=>⟨x,y,z,by simp[Dl,Cj]⟩
 | s::st,v,x,y,z=>by
  let q:Int:=v+if s.r then 0 else s.m
  obtain⟨u,w,A,B⟩:=kB st q (zI s.h) (zI s.m) (zS (wy s.r));refine⟨u,w,A,?_⟩;have C:Vh [u4 c,zI v,zI s.h,zI s.m,zS (wy s.r)] G=.nx [u4 c,zI q,zI s.h,zI s.m,zS (wy s.r)] G:=by
   unfold Vh
   cases e:s.r<;>simp[q,e]
  rw[zy,Bs];simp[UD.enc,C];rw[B];simp[Dl,q,Int.add_assoc]
def HN(G:DH):Uq [.tup (st.map UD.enc)] G=.ok (.int (Dl st)) G:=by obtain⟨w,u,x,q⟩:=kB (c:=.tup (st.map UD.enc)) (G:=G) st 0 u5 u5 u5;unfold Uq gf;rw[Af];simp at q;simp[q,Az]
def HP(u:Cf ns f):∃y:Int,(1<=y/\y<=4)/\Cy ns y:=by have q:∀G,Ay [nD ns,.int 1] G=.ok (.int (f 1)) G:=u 1 (by lia);refine⟨1+f 1%4,by lia,λG=>?_⟩;unfold Q0 gj;rw[Af];simp[q,Az]
def Ed(lat:Nat->Int)(cel:Nat->Nat->Int)(u:Int)(p:Bool)(yr:Int):Nat->Nat->Int->List YL
 |0,_,_=>[]
 |m+1,j,bg=>if j=0\/(lat j%2=1/\bg+1<yr)then(if 0<j then bg+1+lat j/2%(yr-bg-1)else bg,UQ (cel j) u p)::Ed lat cel u p yr m (j+1) (if 0<j then bg+1+lat j/2%(yr-bg-1)else bg)
  else Ed lat cel u p yr m (j+1) bg
theorem Zr(q:0<u){p:Bool}:∀(m j:Nat)(w:Int),∀s∈Ed lat cel u p yr m j w,Good 0 s.2/\(p=u7->∀t∈s.2,t.r=u6)
 |0,_,_,s,h=>by cases h
 | m+1,j,w,s,h=>by
  unfold Ed at h;split at h
  .rcases zK.mp h with rfl|h
   .refine⟨js q _ _ _,λhp=>?_⟩;subst hp;exact jt _ _ _
   exact Zr q m (j+1) _ s h
  exact Zr q m (j+1) _ s h
theorem Sy{p:Bool}{yr:Int}:∀(m j:Nat)(q:Int),0<j->q<yr->(∀s∈Ed lat cel u p yr m j q,q<s.1/\s.1<yr)/\(Ed lat cel u p yr m j q).Pairwise (λa b:YL=>a.1<b.1)
 |0,_,_,_,_=>⟨λs h=>(nomatch h),List.Pairwise.nil⟩
 | m+1,j,q,F,B=>by
  unfold Ed;split
  .rename_i A;have WS:q+1<yr:=by
    rcases A with z|z
    .lia
    exact z.2
   have C:0<=lat j/2%(yr-q-1):=jz _ (by lia);have E:lat j/2%(yr-q-1)<yr-q-1:=jJ _ (by lia);obtain⟨x,y⟩:=Sy (yr:=yr) m (j+1) (q+1+lat j/2%(yr-q-1)) (by lia) (by lia);refine⟨λs w=>?_,List.pairwise_cons.mpr ⟨λs w=>(x s w).1,y⟩⟩;rcases zK.mp w with rfl|w
   .exact⟨by lia,by show q+1+_<yr;lia⟩
   have:=x s w;lia
  exact Sy m (j+1) q (by lia) B
def Ko{n:Nat}{F:Nat->D}(h:∀k:Nat,k<n->te (S.set 0 (zI k)) G=.ok (F k) G):Bv (gV 0) Aw te S (Bb 0 n) G=.ok ((zQ n).map F) G:=by
 have e:Bb 0 n=(zQ n).map λ(i:Nat)=>D.int (i:Int):=by
  refine jL λi=>?_
  simp[Bb]
 rw[T9 (F:=λd=>match d with | .int i=>u4 (F i.toNat)|_=>u5) (λq u=>?_)]
 .congr 1
  rw[e,qq];show(zQ n).filterMap (λ(i:Nat)=>u4 (F ((i:Int).toNat)))=_;rw[qB];simp
 rw[e]at u;obtain⟨i,w,rfl⟩:=zD.mp u;exact⟨S.set 0 (zI i),by simp,.inr ⟨rfl,F i,h i (qK.mp w),by simp⟩⟩
noncomputable def Ny:Nat->Int
 |0=>1
 |1=>48
 |2=>2304
 |_=>110592
noncomputable def Uo:Nat->Int
 |0=>1
 |1=>64
 |2=>4096
 |_=>262144
def kC(w:Cf ns f){b:Nat}(y:b<=900)(x:j<4)(G:DH):
  Bv (gV 0) Aw ax [u5,zN ns,zI b,zI j] (Bb 0 4) G=.ok (tab 4 λk=>f (b+5+(3*j+k)%6)/(1+7*((j:Int)/2))) G:=
 Ko λk hk=>by
  have q:=w (b+5+(3*j+k)%6) (by lia) G;have u:((b+5+(3*j+k)%6:Nat):Int)=(b:Int)+5+(3*(j:Int)+k)%6:=by lia
  rw[u]at q;unfold ax
  rcases(by lia:j=0\/j=1\/j=2\/j=3)with rfl|rfl|rfl|rfl<;>simp at q⊢<;> simp[q]
def HQ(x:Cf ns f){b:Nat}(z:b<=900)(y:j<4)(G:DH):
  Bv (gV 0) Aw ay [u5,zN ns,zI b,zI j] (Bb 0 4) G=.ok (tab 4 λk=>f (b+5+k)/Uo j) G:=
 Ko λk hk=>by
  have q:=x (b+5+k) (by lia) G;have u:((b+5+k:Nat):Int)=(b:Int)+5+k:=by lia
  rw[u]at q;have w:freeze G (.ok (.ref (lN G)) (G++[.lst [.int 1,.int 64,.int 4096,.int 262144]]))=.ok (.fl [.int 1,.int 64,.int 4096,.int 262144]) G:=Dh rfl;unfold ay
  rcases(by lia:j=0\/j=1\/j=2\/j=3)with rfl|rfl|rfl|rfl<;>simp[q,Ae,w,Uo]
def HR(L:Cf ns f){b:Nat}(Z:b<=900){p:Bool}(W:j<4):∃(lat:Int)(xs:Nat->Int),∀(G:DH)(q:Int)(acc:List YL)(x y:Option D),lN acc<=10->q<yr->∃B A,
   Ke [zN ns,zI b,zI u,zB p,zI yr,zR (lN G),zI q,zI j,x,y] (G++[.lst (acc.map Bl)])=
    .nx [zN ns,zI b,zI u,zB p,zI yr,zR (lN G),zI B,zI j,zI lat,zF (tab 4 xs)] (G++[.lst (A.map Bl)])/\
   ((j=0\/(lat%2=1/\q+1<yr))->B=(if 0<j then q+1+lat/2%(yr-q-1)else q)/\A=acc++[(B,UQ xs u p)])/\
   (¬(j=0\/(lat%2=1/\q+1<yr))->B=q/\A=acc):=by
 obtain⟨Q,M⟩:=iF (ns:=ns);have T:=L (b+4) (by lia);have e4:((b+4:Nat):Int)=(b:Int)+4:=by lia
 rw[e4]at T;let lat:Int:=if Q then f (b+4)/Ny j else f (b+4)*48271*((j:Int)*j+1)%10007
 let xs:Nat->Int:=if Q then λk=>f (b+5+k)/Uo j else λk=>f (b+5+(3*j+k)%6)/(1+7*((j:Int)/2))
 refine⟨lat,xs,λG q acc x y ha hbg=>?_⟩;have hr:inR 4:=Ef (by lia) (by lia);have F:lN acc<1000000:=by lia
 have fz:∀N:List D,(∀m,XA m N=u6)->freeze (G++[.lst (acc.map Bl)]) (.ok (.ref (lN G+1)) (G++[.lst (acc.map Bl),.lst N]))=.ok (.fl N) (G++[.lst (acc.map Bl)]):=λN h=>iO (h _)
 have E:∀a b c d e f' g h i j':Option D,Av 1 [0,1,7] [a,b,c,d,e,f',g,h,i,j']=[u5,a,b,h]:=λ_ _ _ _ _ _ _ _ _ _=>rfl
 have mj:∀G,Bo (.int (j:Int)) (.int (j:Int)) G=.ok (.int ((j:Int)*j)) G:=λG=>Eu (by lia) (by lia)
 have K:∀G,Bo (.int (f (b+4)*48271)) (.int ((j:Int)*j+1)) G=.ok (.int (f (b+4)*48271*((j:Int)*j+1))) G:=λG=>Gq (by
   have:=jM (show(0:Int)<=j by lia) (show(0:Int)<=j by lia);lia) (by
   rcases(by lia:j=0\/j=1\/j=2\/j=3)with rfl|rfl|rfl|rfl<;>decide)
 have I:Ke [zN ns,zI b,zI u,zB p,zI yr,zR (lN G),zI q,zI j,x,y] (G++[.lst (acc.map Bl)])=
   Ru [zN ns,zI b,zI u,zB p,zI yr,zR (lN G),zI q,zI j,zI lat,zF (tab 4 xs)] (G++[.lst (acc.map Bl)]):=by
  unfold Ke gp gm;cases w:Q with
  |false=>
   have e1:lat=f (b+4)*48271*((j:Int)*j+1)%10007:=by simp[lat,w]
   have P:xs=λk=>f (b+5+(3*j+k)%6)/(1+7*((j:Int)/2)):=by simp[xs,w]
   rw[e1,P];rw[w]at M;simp[T,mj,K,hr,E,kC L Z W,Ae,fz,M]
  |true=>
   have e1:lat=f (b+4)/Ny j:=by simp[lat,w]
   have P:xs=λk=>f (b+5+k)/Uo j:=by simp[xs,w]
   rw[e1,P];rw[w]at M;have dv:YC [D.int 1,D.int 48,D.int 2304,D.int 110592] (j:Int)=zI (Ny j):=by rcases(by lia:j=0\/j=1\/j=2\/j=3)with rfl|rfl|rfl|rfl<;>rfl
   have dd:∀Y,Jp (.int (f (b+4))) (.int (Ny j)) Y=.ok (.int (f (b+4)/Ny j)) Y:=λY=>by rcases(by lia:j=0\/j=1\/j=2\/j=3)with rfl|rfl|rfl|rfl<;>simp[Ny]
   have O:freeze (G++[.lst (acc.map Bl)]) (.ok (.ref (lN G+1)) (G++[.lst (acc.map Bl),.lst [D.int 1,D.int 48,D.int 2304,D.int 110592]]))=.ok (.fl [D.int 1,D.int 48,D.int 2304,D.int 110592]) (G++[.lst (acc.map Bl)]):=iO rfl;simp[T,mj,K,hr,E,kC L Z W,Ae,fz,M,O,dv,dd,HQ L Z W]
 rw[I]
 clear_value lat xs
 by_cases J:j=0\/(lat%2=1/\q+1<yr)
 .refine⟨_,_,?_,λ_=>⟨rfl,rfl⟩,λz=>absurd J z⟩;unfold Ru;by_cases C:j=0
  .subst C;simp[kA,Ag,Bw,Dt,F,Bl]
  have WS:lat%2=1/\q+1<yr:=by
   rcases J with z|z
   .exact absurd z C
   exact z
  have X:0<j:=by lia
  have U:1<yr-q:=by lia
  simp[C,WS.1,WS.2,X,U,kA,Ag,Bw,Dt,F,Bl]
 refine⟨q,acc,?_,λz=>absurd z J,λ_=>⟨rfl,rfl⟩⟩;have C:¬j=0:=λz=>J (.inl z)
 unfold Ru;by_cases h1:lat%2=1
 .have h2:¬q+1<yr:=λz=>J (.inr ⟨h1,z⟩)
  simp[C,h1,h2]
 simp[C,h1]
theorem bU{b:Nat}{p:Bool} 
  (N:∀j:Nat,j<4->∀(G:DH)(q:Int)(acc:List YL)(x y:Option D),lN acc<=10->q<yr->∃w A,
   Ke [zN ns,zI b,zI u,zB p,zI yr,zR (lN G),zI q,zI j,x,y] (G++[.lst (acc.map Bl)])=
    .nx [zN ns,zI b,zI u,zB p,zI yr,zR (lN G),zI w,zI j,zI (lat j),zF (tab 4 (cel j))] (G++[.lst (A.map Bl)])/\
   ((j=0\/(lat j%2=1/\q+1<yr))->w=(if 0<j then q+1+lat j/2%(yr-q-1)else q)/\A=acc++[(w,UQ (cel j) u p)])/\
   (¬(j=0\/(lat j%2=1/\q+1<yr))->w=q/\A=acc)) {G:DH}:∀(m j:Nat)(q:Int)(acc:List YL)(x y z:Option D),j+m=4->lN acc<=j->q<yr->∃F I E B,
   An (gV 7) Ke (Bb j m) [zN ns,zI b,zI u,zB p,zI yr,zR (lN G),zI q,x,y,z] (G++[.lst (acc.map Bl)])=
    .nx [zN ns,zI b,zI u,zB p,zI yr,zR (lN G),F,I,E,B] (G++[.lst ((acc++Ed lat cel u p yr m j q).map Bl)])
 |0,j,q,acc,x,y,z,e,W,L=>⟨zI q,x,y,z,by rw[Gs,Cj];simp[Ed]⟩
 | m + 1,j,q,acc,x,y,z,e,W,L=>by
  obtain⟨w,A,Q,U,X⟩:=N j (by lia) G q acc y z (by lia) L;have P:((j:Int)+1)=((j+1:Nat):Int):=by lia
  by_cases J:j=0\/(lat j%2=1/\q+1<yr)
  .obtain⟨K,C⟩:=U J;have O:w<yr:=by
    rw[K];split
    .have Y:q+1<yr:=by
      rcases J with z|z
      .lia
      exact z.2
     have Z:lat j/2%(yr-q-1)<yr-q-1:=jJ _ (by lia);lia
    exact L
   obtain⟨F,I,E,B,M⟩:=bU N m (j+1) w A (zI j) (zI (lat j)) (zF (tab 4 (cel j))) (by lia) (by rw[C];simp;lia) O;refine⟨F,I,E,B,?_⟩;rw[Fq,Bs];simp[By,R.Bp,qY,Q,Cd];have T:Ed lat cel u p yr (m+1) j q=(w,UQ (cel j) u p)::Ed lat cel u p yr m (j+1) w:=by rw[K];exact if_pos J
   rw[P,M,C,T];simp
  obtain⟨K,C⟩:=X J;obtain⟨F,I,E,B,M⟩:=bU N m (j+1) w A (zI j) (zI (lat j)) (zF (tab 4 (cel j))) (by lia) (by rw[C];lia) (K▸L);refine⟨F,I,E,B,?_⟩;rw[Fq,Bs];simp only[By,R.Bp,qY,Q,Cd];rw[P,M,C,K]
  conv=>rhs;unfold Ed
  rw[if_neg J]
structure VQ (yr:Int) (p:Bool) (r:List YL):Prop where
 good:∀s∈r,Good 0 s.2/\(p=u7->∀t∈s.2,t.r=u6)
 cons:∃st rest,r=(0,st)::rest
 asc:r.Pairwise (λa b:YL=>a.1<b.1)
 yr:∀s∈r,0<=s.1/\s.1<yr
 len:lN r<=4
theorem Yu{lat:Nat->Int}{cel:Nat->Nat->Int}{u:Int}{p:Bool}{yr:Int}:∀(m j:Nat)(q:Int),lN (Ed lat cel u p yr m j q)<=m
 |0,_,_=>zY _
 |m+1,j,q=>by
  unfold Ed;split
  .have:=Yu (lat:=lat) (cel:=cel) (u:=u) (p:=p) (yr:=yr) m (j+1) (if 0<j then q+1+lat j/2%(yr-q-1)else q);simp[zH];lia
  have:=Yu (lat:=lat) (cel:=cel) (u:=u) (p:=p) (yr:=yr) m (j+1) q;lia
def kD(P:Cf ns f)(hyr:1<=yr/\yr<=24)(cy:Cy ns yr){b:Nat}(hb:b<=900)(Q:0<u){p:Bool}:
  ∃r:List YL,VQ yr p r/\∀G,T7 [nD ns,.int b,.int u,.bl p] G=.ok (.tup (r.map Bl)) G:=by
 have M:∀j:Nat,∃q:Int×(Nat->Int),j<4->∀(G:DH)(F:Int)(C:List YL)(x y:Option D),lN C<=10->F<yr->∃E A,
   Ke [zN ns,zI b,zI u,zB p,zI yr,zR (lN G),zI F,zI j,x,y] (G++[.lst (C.map Bl)])=
    .nx [zN ns,zI b,zI u,zB p,zI yr,zR (lN G),zI E,zI j,zI q.1,zF (tab 4 q.2)] (G++[.lst (A.map Bl)])/\
   ((j=0\/(q.1%2=1/\F+1<yr))->E=(if 0<j then F+1+q.1/2%(yr-F-1)else F)/\A=C++[(E,UQ q.2 u p)])/\
   (¬(j=0\/(q.1%2=1/\F+1<yr))->E=F/\A=C):=λj=>by
  by_cases K:j<4
  .obtain⟨w,Y,h⟩:=HR P hb K;exact⟨(w,Y),λ_=>h⟩
  exact⟨(0,λ_=>0),λz=>absurd z K⟩
 let w:Nat->Int:=λj=>(M j).choose.1
 let B:Nat->Nat->Int:=λj=>(M j).choose.2
 refine⟨Ed w B u p yr 4 0 0,⟨Zr Q 4 0 0,?_,?_,?_,Yu 4 0 0⟩,λG=>?_⟩
 .unfold Ed;rw[if_pos (.inl rfl)];exact⟨_,_,rfl⟩
 .unfold Ed;rw[if_pos (.inl rfl)];obtain⟨L,N⟩:=Sy (yr:=yr) 3 1 0 (by lia) (by lia);exact List.pairwise_cons.mpr ⟨λs I=>(L s I).1,N⟩
 .unfold Ed;rw[if_pos (.inl rfl)];obtain⟨L,N⟩:=Sy (yr:=yr) 3 1 0 (by lia) (by lia);intro s I;rcases zK.mp I with rfl|I
  .exact⟨zL _,by show(0:Int)<yr;lia⟩
  have:=L s I;lia
 obtain⟨U,W,T,O,X⟩:=bU (lat:=w) (cel:=B) (λ(j:Nat)(K:j<4)=>(M j).choose_spec K) 4 0 0 [] u5 u5 u5 (by lia) (by simp) (by lia);have J:An (gV 7) Ke (Bb 0 4) [zN ns,zI b,zI u,zB p,zI yr,zR (lN G),zI 0,u5,u5,u5] (G++[.lst []])=.nx [zN ns,zI b,zI u,zB p,zI yr,zR (lN G),U,W,T,O] (G++[.lst ((Ed w B u p yr 4 0 0).map Bl)]):=X;have Z:inR 4:=Ef (by lia) (by lia);generalize Ed w B u p yr 4 0 0=rl at J
 unfold T7 gq;rw[Af];simp[cy,Ae,Cq,Z,J,Bw,K7]
noncomputable def q?:List Nat:=("abcdefghijklmnopqrstuvwxyz":Str).cps.toList
def Y6:List Nat:=("abcdefghijkl":Str).cps.toList
def HS:∀i,i<26->q?[i]?=u4 (97+i):=by decide +kernel
def HU:∀i,i<12->Y6[i]?=u4 (97+i):=by decide +kernel
def Dp(l:List Nat):Str:=⟨l.toArray⟩
def kE{l l':List Nat}(h:Dp l=Dp l'):l=l':=by simpa[Dp]using(congrArg (λs:Str=>s.cps.toList) h)
def HV{l l':List Nat}:Dp l++Dp l'=Dp (l++l'):=by show Str.append _ _=_;unfold Str.append Dp;simp
def d7{s:Str}{l:List Nat}(h:s.cps.toList=l):s=Dp l:=by obtain⟨a⟩:=s;unfold Dp;simp only at h;rw[<-h]
theorem HW{o:Nat}{n:Int}:Ky ⟨#[o]⟩ n=Dp (zV n.toNat o):=by
 refine d7 ?_;rw[BA];generalize n.toNat=m
 induction m with
 |zero=>rfl
 |succ m q=>rw[zU,qk,q,zU];rfl
def YI(c:Int):Nat:=97+(c/21%26).toNat
noncomputable def TM(c:Int)(k:Nat):Nat:=97+((5*(k:Int)+c/546)%12).toNat
def Et(c:Int)(n k:Nat):List Nat:=if c%3=1/\n<9 then zV (k+1) (YI c)else if c%3=2 then TM c k::zV (c/3%7).toNat (YI c)else zV (c/3%7).toNat (YI c)++TM c k::zV (6-(c/3%7)).toNat (YI c)
def HX{n k:Nat}(Q:n<=12)(hk:k<n)(G:DH):Uy [.int c,.int k,.int n] G=.ok (.str (Dp (Et c n k))) G:=by
 have N:YC Y6 ((5*(k:Int)+c/546)%12)=u4 (TM c k):=Df (by lia) (HU _ (by lia));have B:∀m:Int,-1000<=m->m<=1000->∀G,Bo (.str ⟨#[YI c]⟩) (.int m) G=.ok (.str (Dp (zV m.toNat (YI c)))) G:=λm u A G=>by rw[BE ⟨u,A,by show(#[YI c]).size<=1000;simp⟩,HW]
 have J:∀G,Bj (.str ("abcdefghijklmnopqrstuvwxyz":Str)) (.int (c/21%26)) G=R.ok (.str ⟨#[YI c]⟩) G:=λG=>by
  rw[Nz,if_pos (by decide +kernel)]
  show(match YC q? (c/21%26)with |some c=>R.ok (sgn c) G|none=>.bad)=_
  rw[Df (k:=(c/21%26).toNat) (by lia) (HS _ (by lia))]
  rfl
 have K:∀G,Bj (.str ("abcdefghijkl":Str)) (.int ((5*(k:Int)+c/546)%12)) G=R.ok (.str (Dp [TM c k])) G:=λG=>by
  rw[Nz,if_pos (by decide +kernel)]
  show(match YC Y6 ((5*(k:Int)+c/546)%12)with |some c=>R.ok (sgn c) G|none=>.bad)=_
  rw[N]
  rfl
 have q:∀(l w:List Nat)(G:DH),l.length+w.length<=1000000->I8 (.str (Dp l)) (.str (Dp w)) G=.ok (.str (Dp (l++w))) G:=λl w G h=>by
  have e:I8 (.str (Dp l)) (.str (Dp w)) G=if(Dp l).length+(Dp w).length<=1000000 then .ok (.str (Dp l++Dp w)) G else .bad:=rfl
  rw[e,if_pos (by show l.toArray.size+w.toArray.size<=1000000;simpa using h),HV]
 unfold Uy gw;rw[Af];by_cases u:c%3=1
 .by_cases M:n<9
  .have y:Et c n k=zV (k+1) (YI c):=if_pos ⟨u,M⟩;have F:=B ((k:Int)+1) (by lia) (by lia);have P:((k:Int)+1).toNat=k+1:=by lia
   rw[P]at F;rw[y];have x:(n:Int)<9:=by lia
   simp[-Nz,J,u,x,F,Az]
  have y:Et c n k=zV (c/3%7).toNat (YI c)++TM c k::zV (6-(c/3%7)).toNat (YI c):=by unfold Et;rw[if_neg (λz=>M z.2),if_neg (by lia)]
  have L:=B (c/3%7) (by lia) (by lia);have O:=B (6-(c/3%7)) (by lia) (by lia);have C:=λG=>q (zV (c/3%7).toNat (YI c)) [TM c k] G (by simp;lia)
  have E:=λG=>q (zV (c/3%7).toNat (YI c)++[TM c k]) (zV (6-(c/3%7)).toNat (YI c)) G (by simp;lia)
  have I:zV (c/3%7).toNat (YI c)++[TM c k]++zV (6-(c/3%7)).toNat (YI c)=Et c n k:=by rw[y];simp
  rw[I]at E;have x:¬(n:Int)<9:=by lia
  simp[-Nz,J,K,u,x,L,O,C,E,Az]
 by_cases A:c%3=2
 .have y:Et c n k=TM c k::zV (c/3%7).toNat (YI c):=by unfold Et;rw[if_neg (λz=>u z.1),if_pos A]
  have L:=B (c/3%7) (by lia) (by lia);have C:=λG=>q [TM c k] (zV (c/3%7).toNat (YI c)) G (by simp;lia)
  have I: [TM c k]++zV (c/3%7).toNat (YI c)=Et c n k:=by rw[y];rfl
  rw[I]at C;simp[-Nz,J,K,A,L,C,Az]
 .have y:Et c n k=zV (c/3%7).toNat (YI c)++TM c k::zV (6-(c/3%7)).toNat (YI c):=by unfold Et;rw[if_neg (λz=>u z.1),if_neg A]
  have C:=λG=>q (zV (c/3%7).toNat (YI c)) [TM c k] G (by simp;lia)
  have E:=λG=>q (zV (c/3%7).toNat (YI c)++[TM c k]) (zV (6-(c/3%7)).toNat (YI c)) G (by simp;lia)
  have I:zV (c/3%7).toNat (YI c)++[TM c k]++zV (6-(c/3%7)).toNat (YI c)=Et c n k:=by rw[y];simp
  rw[I]at E;simp[-Nz,J,K,u,A,B (c/3%7) (by lia) (by lia),B (6-(c/3%7)) (by lia) (by lia),C,E,Az]
def kF{k q:Nat}(hk:k<12)(u:q<12)(h:TM c k=TM c q):k=q:=by unfold TM at h;omega +splitNatSub
def HY{n k q:Nat}(w:n<=12)(hk:k<n)(u:q<n)(h:Et c n k=Et c n q):k=q:=by
 unfold Et at h;split at h
 .have:=congrArg List.length h;simp at this;exact this
 split at h
 .exact kF (by lia) (by lia) (List.cons.inj h).1
 .have:=List.append_cancel_left h;exact kF (by lia) (by lia) (List.cons.inj this).1
def HZ:("sea":Str)=Dp [115,101,97]:=by decide +kernel
def H0{n k:Nat}:Dp (Et c n k)≠"sea":=λh=>by
 rw[HZ]at h;have h:=kE h;unfold Et at h;split at h
 .have q:∀x∈[115,101,97],x=YI c:=λx u=>by rw[<-h]at u;exact List.eq_of_mem_replicate u
  have a:=q 115 (by simp);have b:=q 101 (by simp);lia
 split at h
 .have:=(List.cons.inj h).1;unfold TM at this;lia
 .have:=congrArg List.length h;simp at this;lia
theorem K6{c:Type}{te:DE}{S:RD}{E:c->D}{F:c->D}{G:DH}:∀{l:List c},(∀a∈l,te (S.set 0 (u4 (E a))) G=.ok (F a) G)->Bv (gV 0) Aw te S (l.map E) G=.ok (l.map F) G
 |[],_=>rfl
 |a::l,h=>by rw[zy,aV];simp[h a (by simp),K6 (te:=te) (S:=S) (E:=E) (F:=F) (G:=G) (l:=l) λb d=>h b (zJ _ d)]
def Ba(nm:Nat->Str)(n:Nat):List D:=(zQ n).map λk=>.str (nm k)
def Vf{nm:Nat->Str}{n k:Nat}(h:k<n):YC (Ba nm n) (k:Int)=zS (nm k):=Df rfl (by simp[Ba,h])
def Sv{nm:Nat->Str}{n:Nat}:lN (Ba nm n)=n:=by simp[Ba]
@[simp]theorem He{nm:Nat->Str}{n:Nat}:XA m (Ba nm n)=u6:=Dy λ_ _=>rfl
def G9(nm:Nat->Str):Option (Nat×Nat×Int)->D
 |none=>.WA
 |some (to,dl,m)=>.tup [.str (nm to),.int dl,.int m]
@[simp]theorem MK{nm:Nat->Str}{q:Option (Nat×Nat×Int)}:PC m (G9 nm q)=u6:=by
 cases q with
 |none=>rfl
 |some q=>obtain⟨a,b,c⟩:=q;simp[G9]
def IA(B:Cf ns f)(y:1<=yr/\yr<=24)(Y:Cy ns yr)(H:0<u)(cu:Cu ns u){b k n:Nat}(X:b<=900)(hk:k<n)(hn:n<=12){nm:Nat->Str}{d:Str}{dl:Int}:
  ∃(r:List YL)(q:Option (Nat×Nat×Int)),VQ yr q.isSome r/\(∀F dl m,q=u4 (F,dl,m)->F<n/\1<=dl/\dl<=5)/\
   ∀G,Pj [nD ns,.int b,.int k,.fl (Ba nm n),.tup [.str d,.int dl]] G=.ok (.tup [.str "basin",.str (nm k),.str d,.int dl,.int (XG (f (b+3)) u),.tup (r.map Bl),G9 nm q]) G:=by
 have v:∀G,Ay [nD ns,.int ((b:Int)+11)] G=.ok (.int (f (b+11))) G:=λG=>by have:=B (b+11) (by lia) G;rwa[show((b+11:Nat):Int)=(b:Int)+11 by lia]at this
 have h3:∀G,Ay [nD ns,.int ((b:Int)+3)] G=.ok (.int (f (b+3))) G:=λG=>by have:=B (b+3) (by lia) G;rwa[show((b+3:Nat):Int)=(b:Int)+3 by lia]at this
 have ak:YC (Ba nm n) (k:Int)=zS (nm k):=Vf hk;have fu:∀G,freeze G (.ok (.int u) G)=.ok (.int u) G:=λG=>Hr rfl
 generalize f (b+11)=c at v;have J:∀G,bA [zN ns,zI b,zI k,zF (Ba nm n),zT [.str d,.int dl],u5,u5,u5,u5,u5,u5,u5,u5] G=
   Kf [zN ns,zI b,zI k,zF (Ba nm n),zT [.str d,.int dl],zI u,zI c,zB (decide (1<n/\c%2=1)),u5,u5,u5,u5,u5] G:=λG=>by
  have t:∀S:RD,S[3]?=u4 (zF (Ba nm n))->S[6]?=u4 (zI c)->Jx (UB Nu (RA Be (Aq (dV 3) Bm)) (dC (.int 1))) (UB Hb (UB Ja (dV 6) (dC (.int 2))) (dC (.int 1))) S G=.ok (.bl (decide (1<n/\c%2=1))) G:=λS E Q=>by
   by_cases l:1<n
   .have a:(1:Int)<n:=by lia
    simp[dV,E,Q,Sv,l,a]
   have a:¬(1:Int)<n:=by lia
   simp[dV,E,Q,Sv,l,a]
  unfold bA gv gu;generalize Jx (UB Nu (RA Be (Aq (dV 3) Bm)) (dC (.int 1))) (UB Hb (UB Ja (dV 6) (dC (.int 2))) (dC (.int 1)))=te at t;generalize Ba nm n=N at t;simp[cu,fu,v,t]
 have w:∀(r:List YL)(q:Option (Nat×Nat×Int))(W T x A:Option D)(G:DH),Kr [zN ns,zI b,zI k,zF (Ba nm n),zT [.str d,.int dl],zI u,W,T,zT (r.map Bl),u4 (G9 nm q),x,A,u5] G=.rt (.tup [.str "basin",.str (nm k),.str d,.int dl,.int (XG (f (b+3)) u),.tup (r.map Bl),G9 nm q]) G:=λr q W T x A G=>by generalize r.map Bl=RR;generalize G9 nm q=PQ;generalize Ba nm n=N at ak;unfold Kr gr;simp[h3,Jz H,ak,Ag]
 have cl:∀G,Pj [nD ns,.int b,.int k,.fl (Ba nm n),.tup [.str d,.int dl]] G=tidy G ((Kf [zN ns,zI b,zI k,zF (Ba nm n),zT [.str d,.int dl],zI u,zI c,zB (decide (1<n/\c%2=1)),u5,u5,u5,u5,u5] G).ret):=λG=>by
  rw[<-J];unfold Pj;rw[Af]
  rfl
 have U:∀(r:List YL)(q:Option (Nat×Nat×Int))(G:DH),tidy G ((SR.rt (.tup [.str "basin",.str (nm k),.str d,.int dl,.int (XG (f (b+3)) u),.tup (r.map Bl),G9 nm q]) G).ret)=.ok (.tup [.str "basin",.str (nm k),.str d,.int dl,.int (XG (f (b+3)) u),.tup (r.map Bl),G9 nm q]) G:=λr q G=>by simp[Az]
 by_cases hp:1<n/\c%2=1
 .obtain⟨r,i,C⟩:=kD B y Y X H;obtain⟨h,rest,er⟩:=i.cons;have L:0<=((k:Int)+1+c/2%((n:Int)-1))%n:=jz _ (by lia);have I:((k:Int)+1+c/2%((n:Int)-1))%n<n:=jJ _ (by lia);generalize ht:((k:Int)+1+c/2%((n:Int)-1))%n=t at L I;have j:YC (Ba nm n) t=zS (nm t.toNat):=by have:=Vf (nm:=nm) (n:=n) (k:=t.toNat) (by lia);rwa[show((t.toNat:Nat):Int)=t by lia]at this
  have M:∀G,Hm [.fl (r.map λs=>.int (Dl s.2))] G=.ok (.int ((rest.map λs=>Dl s.2).foldl max (Dl h))) G:=λG=>eT (by rw[er];simp[Bd])
  have m2:∀G,Bo (.int u) (.int (c/130%2)) G=.ok (.int (u*(c/130%2))) G:=λG=>Gq (by lia) (by lia)
  have K:∀(G:DH),Bv (gV 0) Aw Yz [u5] (r.map Bl) G=.ok (r.map λs=>.int (Dl s.2)) G:=λG=>K6 λs _=>by unfold Yz;simp[Bl,HN]
  have Z:∀G:DH,freeze G (.ok (.ref (lN G)) (G++[.lst (r.map λs=>.int (Dl s.2))]))=.ok (.fl (r.map λs=>.int (Dl s.2))) G:=λG=>Dh (Dy λ_ _=>rfl)
  have hd:((1+c/26%5).toNat:Int)=1+c/26%5:=by lia
  refine⟨r,u4 (t.toNat,(1+c/26%5).toNat,(rest.map λs=>Dl s.2).foldl max (Dl h)+u*(c/130%2)),i,?_,λG=>?_⟩
  .intro F dl m e;cases e;lia
  have E:(1:Int)<n:=by lia
  have z:0<n:=by lia
  have o:lN (r.map Bl)<=1000000:=by have:=i.len;simp;lia
  have P:lN (r.map λs=>D.int (Dl s.2))<=1000000:=by have:=i.len;simp;lia
  have g:Kf [zN ns,zI b,zI k,zF (Ba nm n),zT [.str d,.int dl],zI u,zI c,zB u6,u5,u5,u5,u5,u5] G=
    Kr [zN ns,zI b,zI k,zF (Ba nm n),zT [.str d,.int dl],zI u,zI c,zB u6,zT (r.map Bl),u4 (G9 nm (u4 (t.toNat,(1+c/26%5).toNat,(rest.map λs=>Dl s.2).foldl max (Dl h)+u*(c/130%2)))),zI ((rest.map λs=>Dl s.2).foldl max (Dl h)+u*(c/130%2)),zS (nm t.toNat),u5] G:=by
   have O:lN (Ba nm n)=n:=Sv;show _=Kr [zN ns,zI b,zI k,zF (Ba nm n),zT [.str d,.int dl],zI u,zI c,zB u6,zT (r.map Bl),zT [.str (nm t.toNat),.int ((1+c/26%5).toNat:Nat),.int ((rest.map λs=>Dl s.2).foldl max (Dl h)+u*(c/130%2))],zI ((rest.map λs=>Dl s.2).foldl max (Dl h)+u*(c/130%2)),zS (nm t.toNat),u5] G;rw[hd];generalize(rest.map λs=>Dl s.2).foldl max (Dl h)=MX at M;generalize Ba nm n=N at j O
   generalize r.map Bl=RR at C K o;generalize(r.map λs=>D.int (Dl s.2))=RP at M K Z P;unfold Kf Xj az;simp[o,C,K,Av,Z,P,M,m2,O,E,by omega,by omega,z,ht,j,Ag]
  rw[cl,decide_eq_true hp,g,w,U]
 obtain⟨r,i,C⟩:=kD B y Y X H (p:=u7);refine⟨r,u5,i,(nofun),λG=>?_⟩;have g:Kf [zN ns,zI b,zI k,zF (Ba nm n),zT [.str d,.int dl],zI u,zI c,zB u7,u5,u5,u5,u5,u5] G=
   Kr [zN ns,zI b,zI k,zF (Ba nm n),zT [.str d,.int dl],zI u,zI c,zB u7,zT (r.map Bl),u4 (G9 nm u5),u5,u5,u5] G:=by
  show _=Kr [zN ns,zI b,zI k,zF (Ba nm n),zT [.str d,.int dl],zI u,zI c,zB u7,zT (r.map Bl),u4 .WA,u5,u5,u5] G;generalize Ba nm n=N;unfold Kf Xj az;simp[C]
 rw[cl,decide_eq_false hp,g,w,U]
def SS(nm:Nat->Str):Option Nat->Str
 |none=>"sea"
 |some d=>nm d
def Gi(nm:Nat->Str)(p:Pl):D:=match p.kd with
 |.NA b r q=>.tup [.str "basin",.str p.nm,.str (SS nm p.dn),.int p.dl,.int b,.tup (r.map Bl),G9 nm q]
 |.XE a b=>.tup [.str "town",.str p.nm,.str (SS nm p.dn),.int p.dl,.int a,.int b]
 |.SM a=>.tup [.str "mill",.str p.nm,.str (SS nm p.dn),.int p.dl,.int a]
structure P7 (yr:Int) (nm:Nat->Str) (n k:Nat) (p:Pl):Prop where
 nm:p.nm=nm k
 dn:∀d,p.dn=u4 d->k<d/\d<n
 dl:p.dl<=5
 NA:∀b r q,p.kd=.NA b r q->0<=b/\VQ yr q.isSome r/\∀to dl m,q=u4 (to,dl,m)->to<n/\1<=dl/\dl<=5
 XE:∀a b,p.kd=.XE a b->0<=a/\0<=b
 SM:∀a,p.kd=.SM a->0<=a
def IC(M:Cf ns f)(Z:1<=yr/\yr<=24)(cy:Cy ns yr)(B:0<u)(cu:Cu ns u){k n:Nat}(hk:k<n)(hn:n<=12){nm:Nat->Str}:
  ∃p:Pl,P7 yr nm n k p/\∀(G:DH)(acc:List D)(x6 x7 x8 g x10 x11 x12:Option D),lN acc<=20->∃P U y8 T A o TJ,
   K5 [zN ns,zI c,zI n,zF (Ba nm n),zI k,zR (lN G),x6,x7,x8,g,x10,x11,x12] (G++[.lst acc])=
    .nx [zN ns,zI c,zI n,zF (Ba nm n),zI k,zR (lN G),P,U,y8,T,A,o,TJ] (G++[.lst (acc++[Gi nm p])]):=by
 have I:∀j:Nat,j<=11->∀G,Ay [nD ns,.int (((6+12*k:Nat):Int)+j)] G=.ok (.int (f (6+12*k+j))) G:=λj hj G=>by have:=M (6+12*k+j) (by lia) G;rwa[show((6+12*k+j:Nat):Int)=((6+12*k:Nat):Int)+j by lia]at this
 have hb:6+12*k<=900:=by lia
 have e6:(6+12*(k:Int))=((6+12*k:Nat):Int):=by lia
 have Q:∀G,Bo (.int 12) (.int (k:Int)) G=.ok (.int (12*(k:Int))) G:=λG=>Eu (by lia) (by lia)
 have W:∀G,Ay [nD ns,.int ((6+12*k:Nat):Int)] G=.ok (.int (f (6+12*k))) G:=M _ (by lia);have h1:∀G,Ay [nD ns,.int (((6+12*k:Nat):Int)+1)] G=.ok (.int (f (6+12*k+1))) G:=I 1 (by lia);have L:∀G,Ay [nD ns,.int (((6+12*k:Nat):Int)+2)] G=.ok (.int (f (6+12*k+2))) G:=I 2 (by lia);have S:∀G,Ay [nD ns,.int (((6+12*k:Nat):Int)+3)] G=.ok (.int (f (6+12*k+3))) G:=I 3 (by lia)
 have K:∀G,Ay [nD ns,.int (((6+12*k:Nat):Int)+4)] G=.ok (.int (f (6+12*k+4))) G:=I 4 (by lia);have ak:YC (Ba nm n) (k:Int)=zS (nm k):=Vf hk;have fu:∀G,freeze G (.ok (.int u) G)=.ok (.int u) G:=λG=>Hr rfl
 have cb:=λd i=>IA (nm:=nm) (d:=d) (dl:=i) M Z cy B cu hb hk hn
 generalize 6+12*k=b at I hb e6 W h1 L S K cb;obtain⟨s,hs0,hs1,hs⟩:∃s:Int,0<=s/\s<(n:Int)-k/\∀(H:DH)(l x7 x8 g x10 x11 x12:Option D),V1 [zN ns,zI c,zI n,zF (Ba nm n),zI k,l,zI b,x7,x8,g,x10,x11,x12] H=
   Py [zN ns,zI c,zI n,zF (Ba nm n),zI k,l,zI b,zI s,x8,g,x10,x11,x12] H:=by
  have Y:0<(n:Int)-k:=by lia
  have C:(k:Int)<n:=by lia
  by_cases hw:c/280%3=1
  .refine⟨min 1 ((n:Int)-1-k),by lia,by lia,λH l x7 x8 g x10 x11 x12=>?_⟩;unfold V1 Zz;simp[h1,Y,C,hk,hw]
  refine⟨f (b+1)%((n:Int)-k),jz _ (by lia),jJ _ Y,λH l x7 x8 g x10 x11 x12=>?_⟩;unfold V1 Zz;simp[h1,Y,C,hk,hw]
 obtain⟨dn,i,v,y,hr⟩:∃(dn:Option Nat)(i:Nat),(∀d,dn=u4 d->k<d/\d<n)/\i<=5/\∀(H:DH)(l x8 g x10 x11 x12:Option D),Py [zN ns,zI c,zI n,zF (Ba nm n),zI k,l,zI b,zI s,x8,g,x10,x11,x12] H=
   Q8 [zN ns,zI c,zI n,zF (Ba nm n),zI k,l,zI b,zI s,zI (f (b+2)),zT [.str (SS nm dn),.int i],x10,x11,x12] H:=by
  have F:((f (b+2)%2*(f (b+2)/2%6)).toNat:Int)=f (b+2)%2*(f (b+2)/2%6)/\(f (b+2)%2*(f (b+2)/2%6)).toNat<=5:=by rcases(by lia:f (b+2)%2=0\/f (b+2)%2=1)with z|z<;>rw[z]<;>lia
  have X:∀G,Bo (.int (f (b+2)%2)) (.int (f (b+2)/2%6)) G=.ok (.int (f (b+2)%2*(f (b+2)/2%6))) G:=λG=>Gq (by lia) (by lia)
  generalize f (b+2)%2*(f (b+2)/2%6)=w at F X;by_cases hp:0<s
  .have a2:YC (Ba nm n) ((k:Int)+s)=zS (nm (k+s.toNat)):=by have:=Vf (nm:=nm) (n:=n) (k:=k+s.toNat) (by lia);rwa[show((k+s.toNat:Nat):Int)=(k:Int)+s by lia]at this
   refine⟨u4 (k+s.toNat),w.toNat,λd e=>by cases e;lia,F.2,λH l x8 g x10 x11 x12=>?_⟩;unfold Py Y4 Yp;simp[L,X,hp,a2,Ag,SS,F.1]
  refine⟨u5,w.toNat,(nofun),F.2,λH l x8 g x10 x11 x12=>?_⟩;unfold Py Y4 Yp;simp[L,X,hp,Ag,SS,F.1]
 obtain⟨rk,O,N⟩:∃rk:Int,0<=rk/\∀(H:DH)(l x7 x8 g x10 x11 x12:Option D),Q8 [zN ns,zI c,zI n,zF (Ba nm n),zI k,l,zI b,x7,x8,g,x10,x11,x12] H=
   N6 [zN ns,zI c,zI n,zF (Ba nm n),zI k,l,zI b,x7,x8,g,zI (f b%5),zI (XG (f (b+3)) u),zI rk] H:=by
  have fz:∀G:DH,freeze G (.ok (.ref (lN G)) (G++[.lst [.int 4,.int 10000000000000000000000000000000000000000]]))=.ok (.fl [.int 4,.int 10000000000000000000000000000000000000000]) G:=λG=>Dh rfl
  rcases(by lia:c/840%2=0\/c/840%2=1)with z|z
  .refine⟨f (b+4)%4,by lia,λH l x7 x8 g x10 x11 x12=>?_⟩;unfold Q8 Y8 Wv;simp[W,S,K,cu,fu,Jz B,z,Ae,fz]
  refine⟨f (b+4)%10000000000000000000000000000000000000000,by lia,λH l x7 x8 g x10 x11 x12=>?_⟩;unfold Q8 Y8 Wv;simp[W,S,K,cu,fu,Jz B,z,Ae,fz]
 have m:∀acc:List D,lN acc<=20->lN acc<1000000:=λacc h=>by lia
 have go:∀p:Pl,(∀(G:DH)(acc:List D),lN acc<=20->
   N6 [zN ns,zI c,zI n,zF (Ba nm n),zI k,zR (lN G),zI b,zI s,zI (f (b+2)),zT [.str (SS nm dn),.int i],zI (f b%5),zI (XG (f (b+3)) u),zI rk] (G++[.lst acc])=
    .nx [zN ns,zI c,zI n,zF (Ba nm n),zI k,zR (lN G),zI b,zI s,zI (f (b+2)),zT [.str (SS nm dn),.int i],zI (f b%5),zI (XG (f (b+3)) u),zI rk] (G++[.lst (acc++[Gi nm p])]))->
   ∀(G:DH)(acc:List D)(x6 x7 x8 g x10 x11 x12:Option D),lN acc<=20->∃P U y8 T A o TJ,
   K5 [zN ns,zI c,zI n,zF (Ba nm n),zI k,zR (lN G),x6,x7,x8,g,x10,x11,x12] (G++[.lst acc])=
    .nx [zN ns,zI c,zI n,zF (Ba nm n),zI k,zR (lN G),P,U,y8,T,A,o,TJ] (G++[.lst (acc++[Gi nm p])]):=λp h9 G acc x6 x7 x8 g x10 x11 x12 t=>by
  refine⟨zI b,zI s,zI (f (b+2)),zT [.str (SS nm dn),.int i],zI (f b%5),zI (XG (f (b+3)) u),zI rk,?_⟩;unfold K5;have e:(PD (UB I8 (dC (.int 6)) (UB Bo (dC (.int 12)) (dV 4))) (gV 6)) [zN ns,zI c,zI n,zF (Ba nm n),zI k,zR (lN G),x6,x7,x8,g,x10,x11,x12] (G++[.lst acc])=.nx [zN ns,zI c,zI n,zF (Ba nm n),zI k,zR (lN G),zI b,x7,x8,g,x10,x11,x12] (G++[.lst acc]):=by simp[Q,e6]
  rw[Q9,e,Vi,hs,hr,N];exact h9 G acc t
 by_cases x:f b%5<2
 .obtain⟨r,q,J,hq,cr⟩:=cb (SS nm dn) i;refine⟨⟨nm k,dn,i,.NA (XG (f (b+3)) u) r q⟩,⟨rfl,v,y,λb' r' q' e=>?_,(nofun),(nofun)⟩,go _ λG acc t=>?_⟩
  .cases e;exact⟨Q4 B,J,hq⟩
  have fr:∀G:DH,freeze G (.ok (.tup [.str "basin",.str (nm k),.str (SS nm dn),.int i,.int (XG (f (b+3)) u),.tup (r.map Bl),G9 nm q]) G)=.ok (.tup [.str "basin",.str (nm k),.str (SS nm dn),.int i,.int (XG (f (b+3)) u),.tup (r.map Bl),G9 nm q]) G:=λG=>Hr (by simp)
  unfold N6;simp[x,cr,fr,Bw,Dt,m acc t,Gi]
 by_cases E:f b%5<4
 .refine⟨⟨nm k,dn,i,.XE (XG (f (b+3)) u) rk⟩,⟨rfl,v,y,(λ_ _ _ e=>nomatch e),λa b' e=>?_,(nofun)⟩,go _ λG acc t=>?_⟩
  .cases e;exact⟨Q4 B,O⟩
  .unfold N6;simp[x,E,ak,Ag,Bw,Dt,m acc t,Gi]
 .refine⟨⟨nm k,dn,i,.SM (XG (f (b+3)) u)⟩,⟨rfl,v,y,(λ_ _ _ e=>nomatch e),(nofun),λa e=>?_⟩,go _ λG acc t=>?_⟩
  .cases e;exact Q4 B
  .unfold N6;simp[x,E,ak,Ag,Bw,Dt,m acc t,Gi]
theorem kG{n:Nat}{nm:Nat->Str}{P:Nat->Pl} 
  (q:∀k,k<n->∀(acc:List D)(x6 x7 x8 d x10 x11 x12:Option D),lN acc<=20->∃f h j g b a TJ,
   K5 [zN ns,zI c,zI n,zF (Ba nm n),zI k,zR (lN G),x6,x7,x8,d,x10,x11,x12] (G++[.lst acc])=
    .nx [zN ns,zI c,zI n,zF (Ba nm n),zI k,zR (lN G),f,h,j,g,b,a,TJ] (G++[.lst (acc++[Gi nm (P k)])])):
  ∀(m k:Nat) (acc:List D) (x4 x6 x7 x8 d x10 x11 x12:Option D),k+m=n->lN acc+m<=20->∃w f h j g b a TJ,
   An (gV 4) K5 (Bb k m) [zN ns,zI c,zI n,zF (Ba nm n),x4,zR (lN G),x6,x7,x8,d,x10,x11,x12] (G++[.lst acc])=
    .nx [zN ns,zI c,zI n,zF (Ba nm n),w,zR (lN G),f,h,j,g,b,a,TJ] (G++[.lst (acc++(List.range' k m).map λi=>Gi nm (P i))])
 |0,k,acc,x4,x6,x7,x8,d,x10,x11,x12,e,u=>⟨x4,x6,x7,x8,d,x10,x11,x12,by rw[Gs,Cj];simp⟩
 |m+1,k,acc,x4,x6,x7,x8,d,x10,x11,x12,e,u=>by
  obtain⟨f,h,j,g,b,a,TJ,x⟩:=q k (by lia) acc x6 x7 x8 d x10 x11 x12 (by lia);obtain⟨s,v,A,r,z,o,p,l,t⟩:=kG q m (k+1) (acc++[Gi nm (P k)]) (zI k) f h j g b a TJ (by lia) (by simp;lia);refine⟨s,v,A,r,z,o,p,l,?_⟩;rw[Fq,Bs];simp[By,R.Bp,qY,x,Cd];have y:((k:Int)+1)=((k+1:Nat):Int):=by lia
  rw[y,t];simp[List.range'_succ]
structure Told (h:Hs) (yr:Int):Prop where
 good:SA h
 one:1<=h.n
 n4:h.n<=4
 ey:h.yr=yr
 ok:∃nm:Nat->Str,∀k,k<h.n->P7 yr nm h.n k (h.pl k)
def ID:∃n:Nat,1<=n/\n<=4/\(n:Int)=1+c%4:=⟨(1+c%4).toNat,by lia,by lia,by lia⟩
def IE(J:Cf ns f)(S:1<=yr/\yr<=24)(cy:Cy ns yr)(hu:0<u)(cu:Cu ns u):
  ∃h:Hs,Told h yr/\∀G,Ui [nD ns] G=.ok h.enc G:=by
 obtain⟨n,hn1,hn4,en⟩:=ID (c:=f 0);have U:n<=12:=by lia
 let nm:Nat->Str:=λk=>Dp (Et (f 5) n k)
 have Y:∀k:Nat,∃p:Pl,k<n->(P7 yr nm n k p/\∀(G:DH)(y:List D)(x6 x7 x8 x9 O X I:Option D),lN y<=20->∃K Q W N B w A,
   K5 [zN ns,zI (f 0),zI n,zF (Ba nm n),zI k,zR (lN G),x6,x7,x8,x9,O,X,I] (G++[.lst y])=
    .nx [zN ns,zI (f 0),zI n,zF (Ba nm n),zI k,zR (lN G),K,Q,W,N,B,w,A] (G++[.lst (y++[Gi nm p])])):=λk=>by
  by_cases hk:k<n
  .obtain⟨p,hp⟩:=IC J S cy hu cu hk U;exact⟨p,λ_=>hp⟩
  exact⟨Xq,λz=>absurd z hk⟩
 let P:Nat->Pl:=λk=>(Y k).choose
 have t:=λ(k:Nat)(hk:k<n)=>((Y k).choose_spec hk).1
 let h:Hs:=⟨yr,(zQ n).map P⟩;have l:h.n=n:=by simp[h,Hs.n]
 have g:∀k,k<n->h.pl k=P k:=λk hk=>by simp[h,Hs.pl,hk]
 have hg:SA h:=by
  refine⟨?_,by lia,?_,?_,?_,?_,?_,?_,?_⟩
  .show 0<yr;lia
  .intro i j v E e;rw[l]at v E;rw[g i v,g j E,(t i v).nm,(t j E).nm]at e;exact HY U v E (kE e)
  .intro i v;rw[l]at v;rw[g i v,(t i v).nm];exact H0
  .intro k d hk e;rw[l]at hk⊢;rw[g k hk]at e;exact(t k hk).dn d e
  .intro k hk;rw[l]at hk;rw[g k hk];exact(t k hk).dl
  .intro k b r x F m hk e;rw[l]at hk⊢;rw[g k hk]at e;exact((t k hk).NA _ _ _ e).2.2 x F m rfl
  .intro k b r q hk e;rw[l]at hk;rw[g k hk]at e;have:=(t k hk).NA _ _ _ e;exact⟨this.1,λs hs=>(this.2.1.good s hs).1⟩
  intro k a b hk e;rw[l]at hk;rw[g k hk]at e;exact(t k hk).XE _ _ e
 refine⟨h,⟨hg,by lia,by lia,rfl,nm,λk hk=>by rw[l]at hk⊢;rw[g k hk];exact t k hk⟩,λG=>?_⟩;have L:∀o:Option Nat,(∀d,o=u4 d->d<n)->h.P4 o=SS nm o:=λo Z=>by
  cases o with
  |none=>rfl
  |some d=>
   show(h.pl d).nm=nm d;rw[g d (Z d rfl),(t d (Z d rfl)).nm]
 have C:h.Cg=(List.range' 0 n).map λi=>Gi nm (P i):=by
  show((zQ n).map P).map h.VC=_;rw[qP,List.range_eq_range'];refine qx λk hk=>?_
  have T:k<n:=by have:=List.mem_range'_1.mp hk;lia
  have ok:=t k T;show h.VC (P k)=Gi nm (P k);unfold Hs.VC Gi;rw[L (P k).dn λd e=>(ok.dn d e).2];cases e:(P k).kd with
  | NA b r q=>
   have hq:=(ok.NA b r q e).2.2;cases q with
   |none=>rfl
   |some q=>
    obtain⟨x,F,m⟩:=q;have ht:=(hq x F m rfl).1;have e2:(h.pl x).nm=nm x:=by rw[g x ht,(t x ht).nm]
    simp[Hs.Lr,G9,e2]
  |_=>rfl
 obtain⟨y4,K,Q,W,N,B,w,A,hL⟩:=kG (P:=P) (λk hk=>(λ(k:Nat)(hk:k<n)=>((Y k).choose_spec hk).2) k hk G) n 0 [] u5 u5 u5 u5 u5 u5 u5 u5 (by lia) (by simp;lia);rw[<-C]at hL;have H:An (gV 4) K5 (Bb 0 n) [zN ns,zI (f 0),zI n,zF (Ba nm n),u5,zR (lN G),u5,u5,u5,u5,u5,u5,u5] (G++[.lst []])=
    .nx [zN ns,zI (f 0),zI n,zF (Ba nm n),y4,zR (lN G),K,Q,W,N,B,w,A] (G++[.lst h.Cg]):=hL
 have f0:∀G,Ay [nD ns,.int 0] G=.ok (.int (f 0)) G:=J 0 (by lia);have f5:∀G,Ay [nD ns,.int 5] G=.ok (.int (f 5)) G:=J 5 (by lia);have cp:∀G:DH,Bv (gV 0) Aw bB [u5,zN ns,zI n] (Bb 0 n) G=.ok (Ba nm n) G:=λG=>Ko λk hk=>by unfold bB;simp[f5,HX U hk,nm]
 have hr:inR (n:Int):=Ef (by lia) (by lia);have M:n<=1000000:=by lia
 have eh:h.enc=.tup [.int yr,.tup h.Cg]:=rfl;unfold Ui gx;rw[Af];simp[Sv,M,f0,<-en,hr,Av,cp,Dh He,Ae,Cq,H,cy,Bw,Ag,K7,eh]
noncomputable def r?(c:Int):Nat->Int
 |0=>c
 |j+1=>r? (c/3) j
def IF{x:Option D}(G:DH):
  ∃y,An (gV 11) Ow (Bb 0 5) [s0,s1,s2,zI u,s4,s5,s6,s7,s8,zI c,zR (lN G),x] (G++[.lst []])=.nx [s0,s1,s2,zI u,s4,s5,s6,s7,s8,y,zR (lN G),zI 4] (G++[.lst (tab 5 λj=>u*(r? c j%3))]):=by
 have b:∀(c:Int)(a:List D)(x:Option D),lN a<=10->Ow [s0,s1,s2,zI u,s4,s5,s6,s7,s8,zI c,zR (lN G),x] (G++[.lst a])=.nx [s0,s1,s2,zI u,s4,s5,s6,s7,s8,zI (c/3),zR (lN G),x] (G++[.lst (a++[.int (u*(c%3))])]):=λc a x f=>by
  have m:∀G,Bo (.int u) (.int (c%3)) G=.ok (.int (u*(c%3))) G:=λG=>Gq (by lia) (by lia)
  have d:lN a<1000000:=by lia
  unfold Ow hP;simp[m,Bw,Dt,d]
 have e:Bb 0 5=[.int 0,.int 1,.int 2,.int 3,.int 4]:=rfl;refine⟨zI (c/3/3/3/3/3),?_⟩;rw[e];simp[Bs,Cj,By,R.Bp,qY,Cd];rw[b _ _ _ (by simp)];simp[Cd,Bs,Cj,By,R.Bp,qY];rw[b _ _ _ (by simp)];simp[Cd,Bs,Cj,By,R.Bp,qY];rw[b _ _ _ (by simp)];simp[Cd,Bs,Cj,By,R.Bp,qY];rw[b _ _ _ (by simp)];simp[Cd,Bs,Cj,By,R.Bp,qY];rw[b _ _ _ (by simp)];simp only[Cd,Bs,Cj,By,R.Bp,qY]
 simp[P5,r?]
def TF(h:Hs)(f:Nat->Int)(u:Int)(k:Nat):Int:=match(h.pl k).kd with
 |.NA b _ _=>XG (f (6+12*h.n+k)) u%(b+1)
 |_=>0
def OG(h:Hs)(f:Nat->Int)(u:Int)(k j:Nat):Int:=u*(r? (f (6+12*h.n+h.n+k)) j%3)
def IG(a:0<u)(k j:Nat):0<=OG h f u k j:=jM (by lia) (by lia)
theorem Yb(g:SA h){k:Nat}(hk:k<h.n):0<=TF h f u k/\(∀b r q,(h.pl k).kd=.NA b r q->TF h f u k<=b)/\((h.pl k).kd.SD=u7->TF h f u k=0):=by
 unfold TF;cases e:(h.pl k).kd with
 |NA b r q=>
  have:=(g.UK k b r q hk e).1;refine⟨jz _ (by lia),λi d c a=>?_,nofun⟩;cases a;show XG (f (6+12*h.n+k)) u%(b+1)<=b;have:=jJ (XG (f (6+12*h.n+k)) u) (show 0<b+1 by lia);lia
 |_=>exact⟨zL _,(λ_ _ _ z=>nomatch z),λ_=>rfl⟩
theorem kH(p:Cf ns f)(I:0<u)(g:SA h){s1:Option D}{G:DH}:∀(m k:Nat)(L:DH)(x7 x8 d x10 x11:Option D),k+m=h.n->∃t w z v l i,
  An (gV 7) Px (Bb k m) [zN ns,s1,zT h.Cg,zI u,zI ((6+12*h.n:Nat):Int),zR (lN G),zR (lN G+1),x7,x8,d,x10,x11] (G++ .lst (tab k (TF h f u)):: .lst (Am k (OG h f u))::L)=
   .nx [zN ns,s1,zT h.Cg,zI u,zI ((6+12*h.n:Nat):Int),zR (lN G),zR (lN G+1),w,z,v,l,i] (G++ .lst (tab h.n (TF h f u)):: .lst (Am h.n (OG h f u))::t)
 |0,k,L,x7,x8,d,x10,x11,e=>by
  have X:k=h.n:=by lia
  subst X;exact⟨L,x7,x8,d,x10,x11,by rw[Gs,Cj]⟩
 | m+1,k,L,x7,x8,d,x10,x11,e=>by
  have hk:k<h.n:=by lia
  have hn:=g.len;let c:Int:=f (6+12*h.n+h.n+k);let a:DH:=G++ .lst (tab (k+1) (TF h f u)):: .lst (Am k (OG h f u))::L;obtain⟨y,A⟩:=IF (s0:=zN ns) (s1:=s1) (s2:=zT h.Cg) (s4:=zI ((6+12*h.n:Nat):Int)) (s5:=zR (lN G)) (s6:=zR (lN G+1)) (s7:=zI k) (s8:=zI (TF h f u k)) (x:=x11) a;obtain⟨t,w,z,v,l,i,E⟩:=kH p I g m (k+1) (L++[.lst (tab 5 (OG h f u k))]) (s1:=s1) (G:=G) (zI k) (zI (TF h f u k)) y (zR (lN a)) (zI 4) (by lia)
  refine⟨t,w,z,v,l,i,?_⟩;have M:=Hs.Dw hk;have c1:∀G,Ay [nD ns,.int (((6+12*h.n:Nat):Int)+(k:Int))] G=.ok (.int (f (6+12*h.n+k))) G:=λG=>by have:=p (6+12*h.n+k) (by lia) G;rwa[show((6+12*h.n+k:Nat):Int)=((6+12*h.n:Nat):Int)+k by lia]at this
  have F:∀G,Ay [nD ns,.int (((6+12*h.n:Nat):Int)+(h.n:Int)+(k:Int))] G=.ok (.int c) G:=λG=>by have:=p (6+12*h.n+h.n+k) (by lia) G;rwa[show((6+12*h.n+h.n+k:Nat):Int)=((6+12*h.n:Nat):Int)+h.n+k by lia]at this
  generalize hB:((6+12*h.n:Nat):Int)=B at c1 F A E⊢;have U:∀(H:DH)(d x10 x11:Option D),Px [zN ns,s1,zT h.Cg,zI u,zI B,zR (lN G),zR (lN G+1),zI k,x8,d,x10,x11] H=W5 [zN ns,s1,zT h.Cg,zI u,zI B,zR (lN G),zR (lN G+1),zI k,zI (TF h f u k),d,x10,x11] H:=λH d x10 x11=>by
   unfold Px hX TF;cases e:(h.pl k).kd with
   |NA b r q=>
    have Y:=(g.UK k b r q hk e).1;have N:∀G,Bj (h.VC (h.pl k)) (.int 4) G=.ok (.int b) G:=λG=>by unfold Hs.VC;rw[e];simp
    have s:0<b+1:=by lia
    simp[M,Hi,e,Kd.SD,c1,Jz I,N,s,by omega]
   |_=>simp[M,Hi,e,Kd.SD]
  have o:k<1000000:=by lia
  have S:tab k (TF h f u)++[.int (TF h f u k)]=tab (k+1) (TF h f u):=by simp[tab,qU]
  have O:Am k (OG h f u)++[.tup (tab 5 (OG h f u k))]=Am (k+1) (OG h f u):=by simp[Am,qU]
  have T:W5 [zN ns,s1,zT h.Cg,zI u,zI B,zR (lN G),zR (lN G+1),zI k,zI (TF h f u k),d,x10,x11] (G++ .lst (tab k (TF h f u)):: .lst (Am k (OG h f u))::L)=Ve [zN ns,s1,zT h.Cg,zI u,zI B,zR (lN G),zR (lN G+1),zI k,zI (TF h f u k),zI c,zR (lN a),x11] (a++[.lst []]):=by
   have Z:tidy a (.ok (.ref (lN a)) (a++[.lst []]))=.ok (.ref (lN a)) (a++[.lst []]):=Cq rfl;unfold W5 hW hV;have C:(ZF (Ck De (dV 5) (Aq (dV 8) Bm))) [zN ns,s1,zT h.Cg,zI u,zI B,zR (lN G),zR (lN G+1),zI k,zI (TF h f u k),d,x10,x11] (G++ .lst (tab k (TF h f u)):: .lst (Am k (OG h f u))::L)=.nx [zN ns,s1,zT h.Cg,zI u,zI B,zR (lN G),zR (lN G+1),zI k,zI (TF h f u k),d,x10,x11] a:=by simp[Bw,Dt,o,S,a]
   rw[Q9,C,Vi]
   clear_value a
   simp[Hs.Hh,F,Ae,Z]
  have Q:Ve [zN ns,s1,zT h.Cg,zI u,zI B,zR (lN G),zR (lN G+1),zI k,zI (TF h f u k),zI c,zR (lN a),x11] (a++[.lst []])=.nx [zN ns,s1,zT h.Cg,zI u,zI B,zR (lN G),zR (lN G+1),zI k,zI (TF h f u k),y,zR (lN a),zI 4] (G++ .lst (tab (k+1) (TF h f u)):: .lst (Am (k+1) (OG h f u))::(L++[.lst (tab 5 (OG h f u k))])):=by
   have W:inR 5:=Ef (by lia) (by lia);have P:(tab 5 λj=>u*(r? c j%3))=tab 5 (OG h f u k):=rfl;rw[P]at A;unfold Ve;have C:(Bu (Bf ZD (Aq (dC (.int 5)) Bm)) (gV 11) Ow) [zN ns,s1,zT h.Cg,zI u,zI B,zR (lN G),zR (lN G+1),zI k,zI (TF h f u k),zI c,zR (lN a),x11] (a++[.lst []])=.nx [zN ns,s1,zT h.Cg,zI u,zI B,zR (lN G),zR (lN G+1),zI k,zI (TF h f u k),y,zR (lN a),zI 4] (a++[.lst (tab 5 (OG h f u k))]):=by simp[W,A]
   rw[Q9,C,Vi];have J:(a++[DO.lst (tab 5 (OG h f u k))])[lN a]?=u4 (.lst (tab 5 (OG h f u k))):=by simp
   have K:(a++[DO.lst (tab 5 (OG h f u k))])[lN G+1]?=u4 (.lst (Am k (OG h f u))):=by simp[a]
   have gs:(a++[DO.lst (tab 5 (OG h f u k))]).set (lN G+1) (.lst (Am (k+1) (OG h f u)))=(G++ .lst (tab (k+1) (TF h f u)):: .lst (Am (k+1) (OG h f u))::(L++[.lst (tab 5 (OG h f u k))])):=by simp[a]
   generalize a++[DO.lst (tab 5 (OG h f u k))]=G2 at J K gs;unfold hU;simp[J,K,o,O,gs]
  rw[Fq,Bs];simp[By,R.Bp,qY,U,T,Q,Cd];exact E
def IH(p:Cf ns f)(q:0<u)(cu:Cu ns u)(g:SA h)(G:DH):
  Vy [nD ns,h.enc] G=.ok (PB h.n (TF h f u) (OG h f u)) G:=by
 obtain⟨b,s,x,r,i,d,v⟩:=kH p q g h.n 0 [] u5 u5 u5 u5 u5 (by lia);have a:An (gV 7) Px (Bb 0 h.n) [zN ns,u4 h.enc,zT h.Cg,zI u,zI ((6+12*h.n:Nat):Int),zR (lN G),zR (lN G+1),u5,u5,u5,u5,u5] (G++[.lst [],.lst []])=
   .nx [zN ns,u4 h.enc,zT h.Cg,zI u,zI ((6+12*h.n:Nat):Int),zR (lN G),zR (lN G+1),s,x,r,i,d] (G++ .lst (tab h.n (TF h f u)):: .lst (Am h.n (OG h f u))::b):=v
 have A:=g.len;have e:∀G,Bo (.int 12) (.int (h.n:Int)) G=.ok (.int (12*(h.n:Int))) G:=λG=>Eu (by lia) (by lia)
 have l:(6+12*(h.n:Int))=((6+12*h.n:Nat):Int):=by lia
 generalize z:((6+12*h.n:Nat):Int)=B at a l;have o:freeze G (.ok (.int u) G)=.ok (.int u) G:=Hr rfl;have w:inR (h.n:Int):=Ef (by lia) (by lia);have t:tidy (G++[.lst []]) (.ok (.ref (lN G+1)) (G++[.lst [],.lst []]))=.ok (.ref (lN G+1)) (G++[.lst [],.lst []]):=by have:=Cq (G:=G++[.lst []]) (ds:=[]) (L:=[]) rfl;simpa using this
 have j:(G++ .lst (tab h.n (TF h f u)):: .lst (Am h.n (OG h f u))::b)[lN G]?=u4 (.lst (tab h.n (TF h f u))):=by simp
 have m:(G++ .lst (tab h.n (TF h f u)):: .lst (Am h.n (OG h f u))::b)[lN G+1]?=u4 (.lst (Am h.n (OG h f u))):=by simp
 have c:tidy G (.ok (PB h.n (TF h f u) (OG h f u)) (G++ .lst (tab h.n (TF h f u)):: .lst (Am h.n (OG h f u))::b))=.ok (PB h.n (TF h f u) (OG h f u)) G:=K7 (by simp[PB,Gy]);generalize G++DO.lst (tab h.n (TF h f u))::DO.lst (Am h.n (OG h f u))::b=y at a j m c;unfold PB at c⊢;unfold Vy hZ;rw[Af];simp[Cr,cu,o,Hs.Hh,e,l,Ae,Cq,t,w,a,j,m,Ag,c]
noncomputable def YM(n:Nat)(f:Nat->Int)(u:Int)(i k:Nat):Int:=XG (f (6+14*n+i*n+k)) u
def kI{n:Nat}(a:0<u)(i k:Nat):0<=YM n f u i k:=Q4 a
def Aa(n:Nat)(fls:List (Nat->Int)):List D:=fls.map λfl=>.tup (tab n fl)
@[simp]theorem Qv{n:Nat}:XA m (Aa n fls)=u6:=Dy λ_ _=>by simp
def kJ{o:DO}(h:∀m,XA m ds=u6):freeze (G++[o]) (.ok (.ref (lN G+1)) (G++[o,.lst ds]))=.ok (.fl ds) (G++[o]):=by have:=Dh (G:=G++[o]) (L:=[]) (h _);simpa using this
def II(A:Cf ns f)(E:0<u)(cu:Cu ns u){n:Nat}(hi:6+14*n+i*n+n<=1000)(v:i<=1000)(t:n<=1000){x:Option D}{acc:List D}(F:lN acc<=1000)(G:DH):
  Pk [zN ns,s1,s2,zI n,zI ((6+14*n:Nat):Int),zR (lN G),zI i,x] (G++[.lst acc])=
   .nx [zN ns,s1,s2,zI n,zI ((6+14*n:Nat):Int),zR (lN G),zI i,zF (tab n λk=>f (6+14*n+i*n+k))] (G++[.lst (acc++[.tup (tab n (YM n f u i))])]):=by
 have r:lN acc<1000000:=by lia
 have w:∀G,Bo (.int (i:Int)) (.int (n:Int)) G=.ok (.int ((i:Int)*n)) G:=λG=>Eu (by lia) (by lia)
 have y:∀G,freeze G (.ok (.int u) G)=.ok (.int u) G:=λG=>Hr rfl
 have c1:∀G,Bv (gV 0) Aw Yj [u5,zN ns,zI n,zI ((6+14*n:Nat):Int),zI i] (Bb 0 n) G=.ok (tab n λk=>f (6+14*n+i*n+k)) G:=λG=>
  Ko λk hk=>by
   have p:=A (6+14*n+i*n+k) (by lia) G;have s:((6+14*n+i*n+k:Nat):Int)=((6+14*n:Nat):Int)+(i:Int)*n+k:=by rw[j6,j6,Int.natCast_mul]
   rw[s]at p;generalize((6+14*n:Nat):Int)=B at p;unfold Yj;simp[w,p]
 have z:∀G,Bv (gV 0) Aw ap [u5,zN ns] (tab n λk=>f (6+14*n+i*n+k)) G=.ok (tab n (YM n f u i)) G:=λG=>
  K6 λk hk=>by unfold ap;simp[cu,y,Jz E,YM]
 have C:inR (n:Int):=Ef (by lia) (by lia);have m:∀a b c d e j g h:Option D,Av 1 [0,3,4,6] [a,b,c,d,e,j,g,h]=[u5,a,d,e,g]:=λ_ _ _ _ _ _ _ _=>rfl
 have l:∀a b c d e j g h:Option D,Av 1 [0] [a,b,c,d,e,j,g,h]=[u5,a]:=λ_ _ _ _ _ _ _ _=>rfl
 generalize((6+14*n:Nat):Int)=B at c1;have q:n<=1000000:=by lia
 unfold Pk;simp[q,C,m,l,c1,z,kJ (G:=G) (o:=.lst acc) (ds:=tab n λk=>f (6+14*n+i*n+k)) λ_=>Gy,kJ (G:=G) (o:=.lst acc) (ds:=tab n (YM n f u i)) λ_=>Gy,Bw,Dt,r]
theorem kK(g:Cf ns f)(j:0<u)(cu:Cu ns u){n:Nat}(p:6+14*n+t*n<=1000)(d:t<=100)(a:n<=1000){s1 s2:Option D}(G:DH):∀(m i:Nat)(x6 x7:Option D),i+m=t->∃b c,
  An (gV 6) Pk (Bb i m) [zN ns,s1,s2,zI n,zI ((6+14*n:Nat):Int),zR (lN G),x6,x7] (G++[.lst (Aa n ((zQ i).map (YM n f u)))])=
   .nx [zN ns,s1,s2,zI n,zI ((6+14*n:Nat):Int),zR (lN G),b,c] (G++[.lst (Aa n ((zQ t).map (YM n f u)))])
 |0,i,x6,x7,e=>by
  have l:i=t:=by lia
  subst l;exact⟨x6,x7,by rw[Gs,Cj]⟩
 |m+1,i,x6,x7,e=>by
  obtain⟨b,c,q⟩:=kK g j cu p d a G m (i+1) (zI i) (zF (tab n λk=>f (6+14*n+i*n+k))) (by lia);refine⟨b,c,?_⟩;have s:(i+1)*n<=t*n:=jO n (by lia);have o:(i+1)*n=i*n+n:=Nat.succ_mul i n;have h:=II g j cu (i:=i) (by lia) (by lia) a (s1:=s1) (s2:=s2) (x:=x7) (acc:=Aa n ((zQ i).map (YM n f u))) (by simp[Aa];lia) G;have r:Aa n ((zQ i).map (YM n f u))++[.tup (tab n (YM n f u i))]=Aa n ((zQ (i+1)).map (YM n f u)):=by simp[Aa,qU]
  rw[r]at h;rw[Fq,Bs];simp only[By,R.Bp,qY,h,Cd];exact q
def IJ(m:Cf ns f)(p:0<u)(cu:Cu ns u)(g:SA h)(l:6+14*h.n+t*h.n<=1000)(c:t<=100)(G:DH):
  Tq [nD ns,h.enc,.int t] G=.ok (.ref (lN G)) (G++[.lst (Aa h.n ((zQ t).map (YM h.n f u)))]):=by
 have q:=g.len;obtain⟨e,i,j⟩:=kK m p cu l c (by lia) G t 0 u5 u5 (by lia);have a:An (gV 6) Pk (Bb 0 t) [zN ns,u4 h.enc,zI t,zI h.n,zI ((6+14*h.n:Nat):Int),zR (lN G),u5,u5] (G++[.lst []])=
   .nx [zN ns,u4 h.enc,zI t,zI h.n,zI ((6+14*h.n:Nat):Int),zR (lN G),e,i] (G++[.lst (Aa h.n ((zQ t).map (YM h.n f u)))]):=j
 have b:∀G,Bo (.int 14) (.int (h.n:Int)) G=.ok (.int (14*(h.n:Int))) G:=λG=>Eu (by lia) (by lia)
 have d:(6+14*(h.n:Int))=((6+14*h.n:Nat):Int):=by lia
 generalize r:((6+14*h.n:Nat):Int)=B at a d;have o:inR (t:Int):=Ef (by lia) (by lia);unfold Tq fo;rw[Af];simp[Cr,Hs.Hh,b,d,Ae,Cq,o,a]
abbrev YK:=(Nat->Int)×(Nat->Nat->Int)
def Hs.ZM(h:Hs)(s:YK)(a:Int)(fl:Nat->Int):YK:=(SG (h.cs s.1 s.2 a fl).UA,(h.cs s.1 s.2 a fl).ZA)
def Hs.Es(h:Hs):List (Nat->Int)->YK->Int->YK
 |[],s,_=>s
 |fl::r,s,a=>h.Es r (h.ZM s a fl) (a+1)
def Hs.Bk(h:Hs):List (Nat->Int)->YK->Int->List (Nat->List Int)
 |[],_,_=>[]
 |fl::r,s,a=>(h.cs s.1 s.2 a fl).UA::h.Bk r (h.ZM s a fl) (a+1)
theorem Qa:∀{fls:List (Nat->Int)}{s:YK}{a:Int},lN (h.Bk fls s a)=lN fls
 |[],_,_=>rfl
 |fl::r,s,a=>by show lN (h.Bk r (h.ZM s a fl) (a+1))+1=lN r+1;rw[Qa]
def OF(n:Nat)(pg:Nat->List Int):D:=.tup (Ce n pg)
@[simp]theorem IK{n:Nat}{a:Nat->List Int}:PC m (OF n a)=u6:=by simp[OF]
@[simp]theorem kL{n:Nat}{SE:List (Nat->List Int)}:XA m (SE.map (OF n))=u6:=Dy λ_ _=>IK
@[simp]theorem Wq{n:Nat}:PC m (PB n lv co)=u6:=by simp[PB]
def V9(g:SA h){fl:Nat->Int}(b:∀k j,k<h.n->j<5->0<=co k j)(c:∀k,k<h.n->0<=fl k):(h.cs lv co a fl).NN h.n:=jp g h.n 0 _ (by lia) (jr b c)
noncomputable def MV:Int->List D->List D
 |_,[]=>[]
 |a,x::r=>.tup [.int a,x]::MV (a+1) r
theorem kM:∀(xs:List D)(a:Int)(j:Nat),(MV a xs)[j]?=xs[j]?.map λx=>.tup [.int (a+j),x]
 |[],a,j|x::r,a,0=>by simp[MV]
 |x::r,a,j+1=>by
  show(MV (a+1) r)[j]?=r[j]?.map _;rw[kM r (a+1) j];have e:a+1+(j:Int)=a+((j+1:Nat):Int):=by lia
  rw[e]
theorem kN:∀(xs:List D)(a:Int),lN (MV a xs)=lN xs
 |[],a=>rfl
 |x::r,a=>by show lN (MV (a+1) r)+1=lN r+1;rw[kN]
def kO{g:DG}{b:DS}{xs:List D}:Di (Dm a (.fl xs)) g b (lN xs) 0 S G=An g b (MV a xs) S G:=Ql (λj G=>by show u4 (xs[j]?.map _)=_;rw[kM]) (kN xs a).symm
theorem kP(g:SA h):∀(fls:List (Nat->Int))(s:YK)(a:Int)(acc:List D)(x5 x6 x7:Option D),lN acc+lN fls<=1000->(∀k j,k<h.n->j<5->0<=s.2 k j)->(∀fl∈fls,∀k,k<h.n->0<=fl k)->∃i c d,
  An (Ai 2 (Ab (gV 5) (Ab (gV 6) Ao))) Rc (MV a (Aa h.n fls)) [u4 h.enc,u4 (PB h.n s.1 s.2),s2,s3,zR (lN G),x5,x6,x7] (G++[.lst acc])=
   .nx [u4 h.enc,u4 (PB h.n (h.Es fls s a).1 (h.Es fls s a).2),s2,s3,zR (lN G),i,c,d] (G++[.lst (acc++(h.Bk fls s a).map (OF h.n))])
 |[],s,a,acc,x5,x6,x7,_,_,_=>⟨x5,x6,x7,by show An _ _ [] _ _=_;rw[Cj];simp[Hs.Es,Hs.Bk]⟩
 |fl::r,s,a,acc,x5,x6,x7,t,l,m=>by
  have b:=m fl (by simp);simp[zH]at t;obtain⟨i,c,d,p⟩:=kP g r (h.ZM s a fl) (a+1) (acc++[OF h.n (h.cs s.1 s.2 a fl).UA]) (zI a) (zT (tab h.n fl)) (u4 (OF h.n (h.cs s.1 s.2 a fl).UA)) (by simp;lia) (V9 g (lv:=s.1) (fl:=fl) (co:=s.2) (a:=a) l b).2 (λo e=>m o (zJ _ e));refine⟨i,c,d,?_⟩;have f:lN acc<1000000:=by lia
  have q:Rc [u4 h.enc,u4 (PB h.n s.1 s.2),s2,s3,zR (lN G),zI a,zT (tab h.n fl),x7] (G++[.lst acc])=.nx [u4 h.enc,u4 (PB h.n (h.ZM s a fl).1 (h.ZM s a fl).2),s2,s3,zR (lN G),zI a,zT (tab h.n fl),u4 (OF h.n (h.cs s.1 s.2 a fl).UA)] (G++[.lst (acc++[OF h.n (h.cs s.1 s.2 a fl).UA])]):=by unfold Rc;simp[HL g (lv:=s.1) (fl:=fl) (co:=s.2) (at_:=a) l b,Bw,Dt,f,OF,Hs.ZM]
  show An _ _ (.tup [.int a,.tup (tab h.n fl)]::MV (a+1) (Aa h.n r)) _ _=_;rw[Bs];simp[Mp,Mg,Oc,By,R.Hu,R.Bp,qY,q,Cd,zH,qT,Nat.reduceAdd,if_true];rw[p];simp[Hs.Es,Hs.Bk]
def Yq{n:Nat}:lN (Aa n fls)=lN fls:=by simp[Aa]
def Wb{a:DH}(h:XA (lN G) ds=u7):tidy G (.ok (.tup ds) a)=.ok (.tup ds) a:=by unfold tidy;simp[h]
def IL(b:XA (lN G) ds=u6)(c:PC (lN G) e=u6):freeze G (.ok (.tup [.ref (lN G),e]) (G++[.lst ds]))=.ok (.tup [.fl ds,e]) G:=by
 unfold freeze;have m:Cm (G++[.lst ds]) (lN G) 9 (.tup [.ref (lN G),e])=zT [.fl ds,e]:=by
  unfold Cm;have a:Cm (G++[.lst ds]) (lN G) 8 (.ref (lN G))=zF ds:=by unfold Cm;simp[Od b]
  have d:Cm (G++[.lst ds]) (lN G) 8 e=u4 e:=by unfold Cm;simp[c]
  simp[Hd,a,d]
 simp[m]
def W9(g:SA h){s:YK}(p:lN fls<=1000)(l:∀k j,k<h.n->j<5->0<=s.2 k j)(m:∀fl∈fls,∀k,k<h.n->0<=fl k)(G:DH):
  H9 [h.enc,PB h.n s.1 s.2,.int a,.fl (Aa h.n fls)] G=.ok (.tup [.ref (lN G),PB h.n (h.Es fls s a).1 (h.Es fls s a).2]) (G++[.lst ((h.Bk fls s a).map (OF h.n))]):=by
 obtain⟨o,c,d,f⟩:=kP g fls s a [] u5 u5 u5 (by simp;lia) l m;have b:Di (Dm a (.fl (Aa h.n fls))) (Ai 2 (Ab (gV 5) (Ab (gV 6) Ao))) Rc (lN (Aa h.n fls)) 0 [u4 h.enc,u4 (PB h.n s.1 s.2),zI a,zF (Aa h.n fls),zR (lN G),u5,u5,u5] (G++[.lst []])=
   .nx [u4 h.enc,u4 (PB h.n (h.Es fls s a).1 (h.Es fls s a).2),zI a,zF (Aa h.n fls),zR (lN G),o,c,d] (G++[.lst ((h.Bk fls s a).map (OF h.n))]):=by
  rw[kO];exact f
 have i:∀e:D,tidy G (.ok (.tup [.ref (lN G),e]) (G++[.lst ((h.Bk fls s a).map (OF h.n))]))=.ok (.tup [.ref (lN G),e]) (G++[.lst ((h.Bk fls s a).map (OF h.n))]):=λe=>Wb (by simp)
 unfold H9 gb;rw[Af];simp[Ae,Cq,Q7,b,Ag,i]
theorem kQ{d:D}(c:TL 30 d=u6):∀xs:List D,(∀x∈xs,TL 30 x=u6)->∃ks:List Bool,Ly G d xs=u4 ks/\(ks.any id=u6↔d∈xs)
 |[],_=>⟨[],rfl,by simp⟩
 |x::xs,h=>by
  obtain⟨ks,f,i⟩:=kQ c xs λy e=>h y (zJ _ e)
  obtain⟨b,g,a⟩:=dY 30 x d (h x (by simp)) c;refine⟨b::ks,by unfold Ly;rw[g,f],?_⟩;rw[jF,jG,i,zK];exact⟨λz=>z.elim (λz=>.inl (a.mp z).symm) .inr,λz=>z.elim (λz=>.inl (a.mpr z.symm)) .inr⟩
theorem IM{d:D}{xs:List D}(i:TL 30 d=u6)(h:∀x∈xs,TL 30 x=u6)(c:d∈xs↔b=u7):Lh d (.fl xs) G=.ok (.bl b) G:=by
 obtain⟨g,f,a⟩:=kQ (G:=G) i xs h;unfold Lh Q?;have e:Bd (.fl xs) G=u4 xs:=rfl;rw[e];simp only[f,xk];cases hk:g.any id with
 |true=>
  have:=c.mp (a.mp hk);subst this
  rfl
 |false=>
  cases b with
  |true=>rfl
  |false=>rw[a.mpr (c.mpr rfl)]at hk;cases hk
def IP{a:Type}{xs:List a}{x:a}:cutD (xs++[x]) u5 (u4 (-1))=xs:=by
 have e:HT.ZB (lN (xs++[x])) (lN (xs++[x])) (u4 (-1))=lN xs:=by
  simp[HT.ZB]
  try lia
 unfold cutD;rw[e];simp[HT.ZB]
def kR{xs:List D}{x:D}:YC (xs++[x]) (-1)=u4 x:=by
 rw[dW (by decide) (by simp;lia)];have a:((-1:Int)+(lN (xs++[x]):Int)).toNat=lN xs:=by simp;lia
 simp only[a];simp
section
variable{H FL:D}{SW:Nat->D}{PG:Nat->List D}
structure Yr (H FL:D) (SW:Nat->D) (PG:Nat->List D):Prop where
 run:∀(w:Nat)(G:DH),H9 [H,SW w,.int 0,FL] G=.ok (.tup [.ref (lN G),SW (w+1)]) (G++[.lst (PG w)])
 ok:∀w,TL 30 (SW w)=u6
 PC:∀w m,PC m (SW w)=u6
 pb:∀w m,XA m (PG w)=u6
 pl:∀w,lN (PG w)<=24
noncomputable def SE(PG:Nat->List D)(w:Nat):List D:=(zQ w).flatMap PG
def Zn:SE PG (w+1)=SE PG w++PG w:=by simp[SE,qU]
theorem Yt(h:∀w,lN (PG w)<=24):∀w,lN (SE PG w)<=24*w
 |0=>zY _
 |w+1=>by have:=Yt h w;have:=h w;rw[Zn,qQ];lia
theorem kT(h:∀w m,XA m (PG w)=u6):∀w,XA m (SE PG w)=u6
 |0=>rfl
 |w+1=>by rw[Zn,xr,kT h w,h w m];rfl
noncomputable def OC(SW:Nat->D)(w:Nat):List D:=(zQ w).map SW
def Tz:OC SW (w+1)=OC SW w++[SW w]:=by simp[OC,qU]
def bV:lN (OC SW w)=w:=by simp[OC]
def kU(a:∀w m,PC m (SW w)=u6):XA m (OC SW w)=u6:=Dy λ_ _=>a _ _
def Ye(ho:∀w,TL 30 (SW w)=u6)(k:∀w m,PC m (SW w)=u6)(h:SW w∈OC SW w↔b=u7){P:List D}:
  Qm [s0,s1,s2,s3,zR (lN G),s5,s6,s7] (G++ .lst (OC SW (w+1)):: .lst P::L)=.ok b (G++ .lst (OC SW (w+1)):: .lst P::L):=by
 have d:YC (OC SW (w+1)) (-1)=u4 (SW w):=Tz▸kR;have g:cutD (OC SW (w+1)) u5 (u4 (-1))=OC SW w:=Tz▸IP;have f:∀G,Lh (SW w) (.fl (OC SW w)) G=.ok (.bl b) G:=λG=>IM (ho w) (λx e=>by obtain⟨i,_,rfl⟩:=zD.mp e;exact ho i) h
 generalize l:G++DO.lst (OC SW (w+1)):: .lst P::L=a;have c:a[lN G]?=u4 (.lst (OC SW (w+1))):=by rw[<-l,Bw];rfl
 have j:Kl (.ref (lN G)) u5 (u4 (-1)) a=.ok (.ref (lN a)) (a++[.lst (OC SW w)]):=by unfold Kl;simp[G7,c,g]
 unfold Qm;simp[c,d,j,Dh (kU k),f,J1,Hc]
def kW(c:Yr H FL SW PG){most:Int}(y:(w:Int)+1<=most)(hw:w<=1000):
  ∃(j p:Option D),Mf [u4 H,s1,u4 FL,zI most,zR (lN G),zR (lN G+1),s6,s7] (G++ .lst (OC SW (w+1)):: .lst (SE PG w)::L)=
   .nx [u4 H,s1,u4 FL,zI most,zR (lN G),zR (lN G+1),j,p] (G++ .lst (OC SW (w+2)):: .lst (SE PG (w+1))::(L++[.lst (PG w)])):=by
 have k:YC (OC SW (w+1)) (-1)=u4 (SW w):=Tz▸kR;have x:=Yt c.pl w;have A:=c.pl w;rw[Zn];generalize SE PG w=P at*;have i:=c.run w (G++DO.lst (OC SW (w+1)):: .lst P::L);generalize PG w=a at*;refine⟨zR (lN (G++DO.lst (OC SW (w+1)):: .lst P::L)),u4 (SW (w+1)),?_⟩;have f:(G++DO.lst (OC SW (w+1)):: .lst P::L)[lN G]?=u4 (.lst (OC SW (w+1))):=by rw[Bw];rfl
 have l:¬(((lN (OC SW (w+1)):Nat):Int)>most):=by rw[bV];lia
 have n:tidy (G++DO.lst (OC SW (w+1)):: .lst P::L) (.ok (.tup [.ref (lN (G++DO.lst (OC SW (w+1)):: .lst P::L)),SW (w+1)]) ((G++DO.lst (OC SW (w+1)):: .lst P::L)++[DO.lst a]))=.ok (.tup [.ref (lN (G++DO.lst (OC SW (w+1)):: .lst P::L)),SW (w+1)]) ((G++DO.lst (OC SW (w+1)):: .lst P::L)++[DO.lst a]):=Wb (by simp);have d:((G++DO.lst (OC SW (w+1)):: .lst P::L)++[DO.lst a])[lN G+1]?=u4 (.lst P):=by
  rw[jK,Oz]
  rfl
 have q:((G++DO.lst (OC SW (w+1)):: .lst P::L)++[DO.lst a])[lN (G++DO.lst (OC SW (w+1)):: .lst P::L)]?=u4 (.lst a):=by simp
 have b:∀o,((G++DO.lst (OC SW (w+1)):: .lst P::L)++[DO.lst a]).set (lN G+1) o=G++ .lst (OC SW (w+1))::o::(L++[.lst a]):=λo=>by
  rw[jK,Vl]
  rfl
 have t:Ni (.ref (lN G+1)) [.ref (lN (G++DO.lst (OC SW (w+1)):: .lst P::L))] ((G++DO.lst (OC SW (w+1)):: .lst P::L)++[DO.lst a])=.ok .WA (G++ .lst (OC SW (w+1)):: .lst (P++a)::(L++[.lst a])):=by unfold Ni;simp only[d,q];rw[if_pos (by lia),b]
 have g:(G++DO.lst (OC SW (w+1)):: .lst (P++a)::(L++[DO.lst a]))[lN G]?=u4 (.lst (OC SW (w+1))):=by rw[Bw];rfl
 have m:∀o,(G++DO.lst (OC SW (w+1)):: .lst (P++a)::(L++[DO.lst a])).set (lN G) o=G++o:: .lst (P++a)::(L++[.lst a]):=λo=>by rw[Dt];rfl
 have e:lN (OC SW (w+1))<1000000:=by rw[bV];lia
 have r:OC SW (w+2)=OC SW (w+1)++[SW (w+1)]:=Tz;rw[r];generalize(G++DO.lst (OC SW (w+1)):: .lst P::L)=z,G++DO.lst (OC SW (w+1)):: .lst (P++a)::(L++[DO.lst a])=v at*;generalize OC SW (w+1)=u at*;unfold Mf;simp[f,l,k,i,n,d,t,g,m,e,Hc]
end
section
variable{H FL:D}{SW:Nat->D}{PG:Nat->List D}
def IQ(hw:w<1000){P:List D}:
  Mf [s0,s1,s2,zI w,zR (lN G),s5,s6,s7] (G++ .lst (OC SW (w+1)):: .lst P::L)=.err ⟨"TooLong",[("most",.int w)]⟩ (G++ .lst (OC SW (w+1)):: .lst P::L):=by
 generalize a:G++DO.lst (OC SW (w+1)):: .lst P::L=d;have b:d[lN G]?=u4 (.lst (OC SW (w+1))):=by rw[<-a,Bw];rfl
 have c:(w:Int)<((lN (OC SW (w+1)):Nat):Int):=by rw[bV];lia
 have e:(0:Int)<=(w:Int)/\(w:Int)<1000:=by lia
 generalize OC SW (w+1)=f at*;unfold Mf;simp[b,c,Nc,e]
theorem kX(c:Yr H FL SW PG){Y:Nat}(l:Y<=900)(a:∀w,w<Y->SW w∉OC SW w)(d:SW Y∈OC SW Y){most:Int}(q:(Y:Int)<=most){s1:Option D}{G:DH}:
  ∀(n w:Nat) (L:DH) (s6 s7:Option D),w<=Y->Y<w+n->∃(f:DH)(g i:Option D),
   WM Qm Mf n [u4 H,s1,u4 FL,zI most,zR (lN G),zR (lN G+1),s6,s7] (G++ .lst (OC SW (w+1)):: .lst (SE PG w)::L)=
    .nx [u4 H,s1,u4 FL,zI most,zR (lN G),zR (lN G+1),g,i] (G++ .lst (OC SW (Y+1)):: .lst (SE PG Y)::f)
 |0,w,L,s6,s7,m,p=>by lia
 |n+1,w,L,s6,s7,m,p=>by
  by_cases e:w=Y
  .subst e;refine⟨L,s6,s7,?_⟩;unfold WM;rw[Ye c.ok c.PC (b:=u7) (by simp[d])];simp
  obtain⟨g,i,j⟩:=kW c (w:=w) (most:=most) (by lia) (by lia) (s1:=s1) (s6:=s6) (s7:=s7) (G:=G) (L:=L);obtain⟨f,k,o,r⟩:=kX c l a d q n (w+1) (L++[.lst (PG w)]) g i (by lia) (by lia);refine⟨f,k,o,?_⟩;unfold WM;rw[Ye c.ok c.PC (b:=u6) (by simp[a w (by lia)])];simp[R.Bp,if_true,j,Cd];exact r
theorem kY(c:Yr H FL SW PG)(i:M<1000)(a:∀w,w<=M->SW w∉OC SW w){s1:Option D}{G:DH}:
  ∀(n w:Nat)(L:DH)(s6 s7:Option D),w<=M->M<w+n->∃f,WM Qm Mf n [u4 H,s1,u4 FL,zI M,zR (lN G),zR (lN G+1),s6,s7] (G++ .lst (OC SW (w+1)):: .lst (SE PG w)::L)=.err ⟨"TooLong",[("most",.int M)]⟩ (G++f)
 |0,w,L,s6,s7,j,o=>by lia
 |n+1,w,L,s6,s7,j,o=>by
  have g:=Ye c.ok c.PC (w:=w) (b:=u6) (by simp[a w j]) (s0:=u4 H) (s1:=s1) (s2:=u4 FL) (s3:=zI M) (s5:=zR (lN G+1)) (s6:=s6) (s7:=s7) (G:=G) (L:=L) (P:=SE PG w);by_cases e:w=M
  .subst e;refine⟨.lst (OC SW (w+1)):: .lst (SE PG w)::L,?_⟩;unfold WM;rw[g];simp[R.Bp,if_true];rw[IQ i,wu]
  obtain⟨k,l,d⟩:=kW c (w:=w) (most:=(M:Int)) (by lia) (by lia) (s1:=s1) (s6:=s6) (s7:=s7) (G:=G) (L:=L);obtain⟨f,m⟩:=kY c i a n (w+1) (L++[.lst (PG w)]) k l (by lia) (by lia);refine⟨f,?_⟩;unfold WM;rw[g];simp[R.Bp,if_true,d,Cd];exact m
def IR(d:Yr H FL SW PG){Y:Nat}(j:Y<=900)(a:∀w,w<Y->SW w∉OC SW w)(c:SW Y∈OC SW Y){most:Int}(k:(Y:Int)<=most)(G:DH):
  ∃L,Nb [H,SW 0,FL,.int most] G=.ok (.tup [.ref (lN G),.ref (lN G+1)]) (G++ .lst (OC SW (Y+1)):: .lst (SE PG Y)::L):=by
 obtain⟨L,n,o,e⟩:=kX d j a c k (s1:=u4 (SW 0)) (G:=G) fuel 0 [] u5 u5 (by lia) (by unfold fuel;lia);have f:OC SW (0+1)=[SW 0]:=rfl;have i:SE PG 0=[]:=rfl;rw[f,i]at e;have l:tidy G (.ok (.ref (lN G)) (G++[.lst [SW 0]]))=.ok (.ref (lN G)) (G++[.lst [SW 0]]):=Cq (by simp[d.PC]);have b:tidy (G++[.lst [SW 0]]) (.ok (.ref (lN G+1)) (G++[.lst [SW 0],.lst []]))=.ok (.ref (lN G+1)) (G++[.lst [SW 0],.lst []]):=Ur rfl
 have g:tidy G (.ok (.tup [.ref (lN G),.ref (lN G+1)]) (G++ .lst (OC SW (Y+1)):: .lst (SE PG Y)::L))=.ok (.tup [.ref (lN G),.ref (lN G+1)]) (G++ .lst (OC SW (Y+1)):: .lst (SE PG Y)::L):=Wb (by simp);refine⟨L,?_⟩;generalize OC SW (Y+1)=m,SE PG Y=p at*;unfold Nb Yk;rw[Af];simp[Ae,l,b,e,Ag,g]
def IS(d:Yr H FL SW PG)(i:M<1000)(a:∀w,w<=M->SW w∉OC SW w)(G:DH):
  ∃c,Nb [H,SW 0,FL,.int M] G=.err ⟨"TooLong",[("most",.int M)]⟩ (G++c):=by
 obtain⟨c,e⟩:=kY d i a (s1:=u4 (SW 0)) (G:=G) fuel 0 [] u5 u5 (by lia) (by unfold fuel;lia);have f:OC SW (0+1)=[SW 0]:=rfl;have g:SE PG 0=[]:=rfl;rw[f,g]at e;refine⟨c,?_⟩;have j:tidy G (.ok (.ref (lN G)) (G++[.lst [SW 0]]))=.ok (.ref (lN G)) (G++[.lst [SW 0]]):=Cq (by simp[d.PC]);have b:tidy (G++[.lst [SW 0]]) (.ok (.ref (lN G+1)) (G++[.lst [SW 0],.lst []]))=.ok (.ref (lN G+1)) (G++[.lst [SW 0],.lst []]):=Ur rfl
 unfold Nb Yk;rw[Af];simp[Ae,j,b,e,tidy]
def kZ(a:∀G,Bj H (.int 0) G=.ok (.int yr) G)(b:∀G,Be [FL] G=.ok (.int yr) G)(G:DH):Wn [H,FL] G=.ok .WA G:=by unfold Wn gE;rw[Af];simp[a,b,Az]
end
def YE(h:Hs)(fls:List (Nat->Int))(s:YK):Nat->YK
 |0=>s
 |w+1=>h.Es fls (YE h fls s w) 0
def NF(h:Hs)(fls:List (Nat->Int))(s:YK)(w:Nat):D:=PB h.n (YE h fls s w).1 (YE h fls s w).2
def IT{n:Nat}:TL (m+4) (PB n lv co)=u6:=by
 unfold PB;refine W4 λd a=>?_
 simp[zK,List.not_mem_nil,or_false]at a;rcases a with rfl|rfl
 .refine W4 λd a=>?_
  unfold tab at a;obtain⟨i,_,rfl⟩:=zD.mp a
  rfl
 refine W4 λd a=>?_
 unfold Am at a;obtain⟨i,_,rfl⟩:=zD.mp a;refine W4 λd a=>?_
 unfold tab at a;obtain⟨i,_,rfl⟩:=zD.mp a
 rfl
section
variable{h:Hs}{fls:List (Nat->Int)}{s:YK}
theorem k4(g:SA h):∀(fls:List (Nat->Int))(s:YK)(a:Int),(∀k j,k<h.n->j<5->0<=s.2 k j)->(∀fl∈fls,∀k,k<h.n->0<=fl k)->∀k j,k<h.n->j<5->0<=(h.Es fls s a).2 k j
 |[],s,a,b,_=>b
 |fl::r,s,a,b,d=>k4 g r (h.ZM s a fl) (a+1) (V9 g b (d fl (by simp))).2 λe c=>d e (zJ _ c)
theorem V3(g:SA h)(a:∀k j,k<h.n->j<5->0<=s.2 k j)(b:∀fl∈fls,∀k,k<h.n->0<=fl k):∀w k j,k<h.n->j<5->0<=(YE h fls s w).2 k j
 |0=>a
 |w+1=>k4 g fls _ 0 (V3 g a b w) b
def s?(g:SA h)(b:lN fls<=24)(c:∀k j,k<h.n->j<5->0<=s.2 k j)(a:∀fl∈fls,∀k,k<h.n->0<=fl k):
  Yr h.enc (.fl (Aa h.n fls)) (NF h fls s) λw=>(h.Bk fls (YE h fls s w) 0).map (OF h.n):=
 ⟨λw G=>W9 g (by lia) (V3 g c a w) a G,λw=>IT,λw m=>Wq,λw m=>kL,λw=>by rw[zO,Qa];exact b⟩
end
section
variable{H FL:D}{SW:Nat->D}{PG:Nat->List D}
end
structure RE (rs rs':List Row):Prop where
 len:lN rs'=lN rs
 dn:∀k,Bh rs' k=Bh rs k
 rk:∀k,col Row.rank rs' k=col Row.rank rs k
theorem k6{a:List Row}(h:RE rs a):∀(m k:Nat),H7 a m k=H7 rs m k
 |0,k=>rfl
 |m+1,k=>by
  show k::_=k::_;rw[h.dn k];cases Bh rs k with
  |none=>rfl
  |some d=>show k::H7 a m d=k::H7 rs m d;rw[k6 h m d]
def RE.way{a:List Row}(h:RE rs a)(k:Nat):way a k=way rs k:=by unfold _W.way;rw[h.len,k6 h]
def RE.NQ{a:List Row}(h:RE rs a):NQ a=NQ rs:=by funext i j;unfold _W.NQ;rw[h.rk,h.rk]
def RE.ord{a:List Row}(h:RE rs a):ord a=ord rs:=by unfold _W.ord;rw[h.len,h.NQ]
theorem RE.OL{a:List Row}(h:RE rs a):∀(m k:Nat)(F:Nat->Int),OL a m k F=OL rs m k F
 |0,k,F=>rfl
 |m+1,k,F=>by show _W.OL a m (k+1) (OE F k (Bh a k))=_W.OL rs m (k+1) (OE F k (Bh rs k));rw[h.dn k,RE.OL h]
def RE.WE{a:List Row}(h:RE rs a)(F:Nat->Int):WE a F=WE rs F:=by show _W.OL a (lN a) 0 F=_;rw[h.len,h.OL]
theorem k7{a:List Row}(h:RE rs a):∀(ks:List Nat)(P T:Nat->Int),(∀k∈ks,col Row.need a k=col Row.need rs k)->SQ a ks P T=SQ rs ks P T
 |[],P,T,_=>rfl
 |k::ks,P,T,b=>by
  have e:take1 a P k=take1 rs P k:=by unfold take1;rw[b k zW,h.way]
  show SQ a ks (Eg P (way a k) (take1 a P k)) (RC T k (take1 a P k))=_;rw[e,h.way,k7 h ks _ _ λj c=>b j (zJ _ c)]
  rfl
theorem k8(g:Reach rs):∀(m k:Nat),lN rs<=m+k->∀b∈way rs k,∀c∈way rs b,c∈way rs k
 |0,k,h,b,a,c,f=>by
  rw[Er g,Rk (by lia)]at a;have e:b=k:=by simpa[Gw]using a
  rw[e]at f;exact f
 | m+1,k,h,b,a,c,f=>by
  rw[Er g]at a⊢;rcases zK.mp a with rfl|a
  .rw[Er g]at f;exact f
  cases i:Bh rs k with
  |none=>rw[i]at a;cases a
  |some d=>
   rw[i]at a;have:=Ga g i;exact zJ _ (k8 g m d (by lia) b a c f)
def Oh(d:Reach rs){k b c:Nat}(a:b∈way rs k)(e:c∈way rs b):c∈way rs k:=k8 d (lN rs) k (by lia) b a c e
theorem k9(g:Reach rs):∀(m k:Nat),lN rs<=m+k->∀b∈way rs k,∀c∈way rs k,c∈way rs b\/b∈way rs c
 |0,k,h,b,a,c,f=>by
  rw[Er g,Rk (by lia)]at a f;have e:b=k:=by simpa[Gw]using a
  have n:c=k:=by simpa[Gw]using f
  subst e;subst n;exact .inl (F8 g _)
 | m+1,k,h,b,a,c,f=>by
  have i:=a;have j:=f;rw[Er g]at a f;rcases zK.mp a with rfl|a
  .exact .inl j
  rcases zK.mp f with rfl|f
  .exact .inr i
  .cases l:Bh rs k with
   |none=>rw[l]at a;cases a
   |some d=>
    rw[l]at a f;have:=Ga g l;exact k9 g m d (by lia) b a c f
def Ym(d:Reach rs){k b c:Nat}(a:b∈way rs k)(e:c∈way rs k):c∈way rs b\/b∈way rs c:=k9 d (lN rs) k (by lia) b a c e
def IU(a:Reach rs){k:Nat}(h:Bh rs k=u5):way rs k=[k]:=by rw[Er a,h];rfl
def MW(rs:List Row)(one:Nat)(ks:List Nat)(A B:(Nat->Int)×(Nat->Int)):Prop:=
 ((∀i,B.1 i=A.1 i+ind 1 (way rs one) i)/\∀i,B.2 i=A.2 i)\/
 ∃k c,k∉ks/\(∀i,B.1 i=A.1 i+ind 1 (way rs one) i-ind 1 (way rs k) i)/\(∀i,B.2 i=A.2 i+ind 1 [k] i)/\c∈way rs one/\c∈way rs k/\c<lN rs/\A.1 c=0
def Wx(c:Reach rs)(d:∀i,i<lN rs->0<=P i){k:Nat}(hk:k<lN rs):0<=take1 rs P k/\∀b∈way rs k,take1 rs P k<=P b:=by
 have e:=i6 λb a=>d b (Nf c hk a).2
 have f:=c.need k;unfold take1;refine⟨by lia,λb a=>?_⟩;have:=Vt (P:=P) a;lia
def ka(c:Reach rs)(a:∀i,i<lN rs->0<=P i){k:Nat}(hk:k<lN rs):∀i,i<lN rs->0<=Eg P (way rs k) (take1 rs P k) i:=λi b=>by
 obtain⟨_,h⟩:=Wx c a hk;simp[Eg];split
 .rename_i d;have:=h i d;lia
 exact a i b
def Lx{t:Int}(a:0<=t):0<=ind t ws i/\ind t ws i<=t:=by
 unfold ind
 split <;> lia
theorem kb(a:Reach rs){one:Nat}:∀(ks:List Nat)(P T d x:Nat->Int),ks.Nodup->(∀k∈ks,k<lN rs)->(∀i,i<lN rs->0<=P i)->(∀i,i<lN rs->0<=d i)->MW rs one ks (P,T) (d,x)->MW rs one [] (SQ rs ks P T) (SQ rs ks d x)
 |[],P,T,d,x,_,_,_,_,h=>h
 | k::ks,P,T,d,x,O,o,H,p,h=>by
  obtain⟨W,K⟩:=qM.mp O;have hk:=o k zW;refine kb a ks _ _ _ _ K (λj M=>o j (zJ _ M)) (ka a H hk) (ka a p hk) ?_;have r:way rs k≠[]:=by rw[Er a];simp
  rcases h with⟨f,m⟩|⟨q,c,B,f,m,c1,w,cn,F⟩
  .simp only at f m;obtain⟨b,l,eb⟩:=bM (P:=P) r;obtain⟨U,C,E⟩:=bM (P:=d) r;have Y:=Vt (P:=d) l;have h2:=Vt (P:=P) C;rw[f]at Y E;have Z:=Lx (t:=1) (ws:=way rs one) (i:=b) (by decide);have i2:=Lx (t:=1) (ws:=way rs one) (i:=U) (by decide);by_cases g:take1 rs d k=take1 rs P k
   .refine .inl ⟨λi=>?_,λi=>?_⟩
    .rw[g];simp[Eg,f]
     split <;> lia
    rw[g];simp[RC,m]
   have v:take1 rs d k=take1 rs P k+1:=by unfold take1 at g⊢;lia
   have J:take1 rs P k=P b:=by unfold take1 at v⊢;lia
   have A:b∈way rs one:=by apply Classical.byContradiction;intro X;have:ind 1 (way rs one) b=0:=if_neg X;unfold take1 at v;lia
   refine .inr ⟨k,b,W,λi=>?_,λi=>?_,A,l,(Nf a hk l).2,?_⟩
   .rw[v];simp[Eg,f];by_cases n:i∈way rs k
    .have:ind 1 (way rs k) i=1:=if_pos n;rw[if_pos n,if_pos n];lia
    .have:ind 1 (way rs k) i=0:=if_neg n;rw[if_neg n,if_neg n];lia
   .rw[v];simp[RC,m,ind,qF]
    split <;> lia
   .simp[Eg,l,if_true];lia
  simp only at f m F;simp[zK,not_or]at B;have N:d c=0:=by rw[f];have v:ind 1 (way rs one) c=1:=if_pos c1;have J:ind 1 (way rs q) c=1:=if_pos w;lia
  have g:take1 rs d k=take1 rs P k/\(c∈way rs k->take1 rs P k=0):=by
   by_cases u:c∈way rs k
   .obtain⟨a1,I⟩:=Wx a H hk;obtain⟨a3,L⟩:=Wx a p hk;have:=I c u;have:=L c u;exact⟨by lia,λ_=>by lia⟩
   .refine⟨?_,λh=>absurd h u⟩;unfold take1;rw[F6 λb l=>?_];rw[f];have:ind 1 (way rs one) b=ind 1 (way rs q) b:=by
     unfold ind;by_cases y:b∈way rs one
     .by_cases s:b∈way rs q
      .rw[if_pos y,if_pos s]
      .exfalso
       rcases Ym a y c1 with z|z
       .exact u (Oh a l z)
       exact s (Oh a w z)
     .by_cases s:b∈way rs q
      .exfalso
       rcases Ym a s w with z|z
       .exact u (Oh a l z)
       exact y (Oh a c1 z)
      rw[if_neg y,if_neg s]
    lia
  obtain⟨g,Q⟩:=g;refine .inr ⟨q,c,B.2,λi=>?_,λi=>?_,c1,w,cn,?_⟩
  .rw[g];simp[Eg,f]
   split <;> lia
  .rw[g];simp[RC,m];split
   .rename_i e;have:ind 1 [q] i=0:=if_neg (by rw[e];simpa using(λe=>B.1 e.symm));lia
   rfl
  .simp[Eg];split
   .rename_i S;rw[Q S];lia
   exact F
def Sh(rs:List Row)(W:Nat->Int):(Nat->Int)×(Nat->Int):=SQ rs (ord rs) (WE rs W) λ_=>0
def NW(rs:List Row)(A B:(Nat->Int)×(Nat->Int)):Prop:=(∀i,A.2 i<=B.2 i)/\∀i,Bh rs i=u5->A.1 i<=B.1 i
def IV(b:Reach rs)(d:∀i,0<=W i){k:Nat}(hk:k<lN rs):MW rs k [] (Sh rs W) (Sh rs λi=>W i+ind 1 [k] i):=by
 have e:WE rs (λi=>W i+ind 1 [k] i)=λi=>WE rs W i+ind 1 (way rs k) i:=Wk b (lN rs) 0 k W (by lia) (by lia) hk
 unfold Sh;rw[e];have a:=λi=>bO (rs:=rs) (lN rs) 0 W d i
 exact kb b (ord rs) _ _ _ _ (i7 rs) (λj c=>Xh c) (λi _=>a i) (λi _=>by have:=Lx (t:=1) (ws:=way rs k) (i:=i) (by decide);have:=a i;show 0<=OL rs (lN rs) 0 W i+ind 1 (way rs k) i;lia) (.inl ⟨λi=>rfl,λi=>rfl⟩)
def MW.le(d:Reach rs){one:Nat}{A B:(Nat->Int)×(Nat->Int)}(h:MW rs one [] A B):NW rs A B:=by
 rcases h with⟨b,a⟩|⟨q,c,_,b,a,c1,l,cn,n⟩
 .refine⟨λi=>by rw[a];exact zL _,λi _=>?_⟩;have:=Lx (t:=1) (ws:=way rs one) (i:=i) (by decide);rw[b];lia
 refine⟨λi=>?_,λi k=>?_⟩
 .have:=Lx (t:=1) (ws:=[q]) (i:=i) (by decide);rw[a];lia
 .rw [b];by_cases f:i∈way rs q
  .have g:i∈way rs one:=by
    rcases Ym d f l with z|z
    .rw[IU d k]at z;have e:c=i:=by simpa using z
     rw[<-e];exact c1
    exact Oh d c1 z
   have m:ind 1 (way rs one) i=1:=if_pos g;have j:ind 1 (way rs q) i=1:=if_pos f;lia
  .have j:ind 1 (way rs q) i=0:=if_neg f;have:=Lx (t:=1) (ws:=way rs one) (i:=i) (by decide);lia
def NW.trans{A B C:(Nat->Int)×(Nat->Int)}(c:NW rs A B)(b:NW rs B C):NW rs A C:=⟨λi=>jk (c.1 i) (b.1 i),λi a=>jk (c.2 i a) (b.2 i a)⟩
def NW.refl{A:(Nat->Int)×(Nat->Int)}:NW rs A A:=⟨λ_=>zL _,λ_ _=>zL _⟩
theorem ke(b:Reach rs){k:Nat}(hk:k<lN rs):∀(m:Nat)(W:Nat->Int),(∀i,0<=W i)->NW rs (Sh rs W) (Sh rs λi=>W i+ind (m:Int) [k] i)
 | 0,W,a=>by
  have e:(λi=>W i+ind ((0:Nat):Int) [k] i)=W:=by
   funext i;unfold ind
   split <;> simp
  rw[e];exact .refl
 | m+1,W,a=>by
  have c:=(IV b (W:=λi=>W i+ind (m:Int) [k] i) (λi=>by have:=Lx (t:=(m:Int)) (ws:=[k]) (i:=i) (by lia);have:=a i;lia) hk).le b
  have e:(λi=>(W i+ind (m:Int) [k] i)+ind 1 [k] i)=λi=>W i+ind ((m+1:Nat):Int) [k] i:=by
   funext i;unfold ind
   split <;> lia
  rw[e]at c;exact(ke b hk m W a).trans c
theorem kf(g:Reach rs){W':Nat->Int}(d:∀i,0<=W i)(a:∀i,W i<=W' i):∀j,j<=lN rs->NW rs (Sh rs W) (Sh rs λi=>if i<j then W' i else W i)
 |0,_=>by simp[xj,if_false];exact .refl
 | j+1,h=>by
  have l:=ke g (k:=j) (by lia) (W' j-W j).toNat (λi=>if i<j then W' i else W i) λi=>by
   have:=d i;have:=a i
   split <;> lia
  have e:(λi=>(if i<j then W' i else W i)+ind ((W' j-W j).toNat:Int) [j] i)=λi=>if i<j+1 then W' i else W i:=by
   funext i;simp[ind,qF];by_cases b:i=j
   .subst b;have:=a i;simp;lia
   by_cases f:i<j
   .have c:i<j+1:=by lia
    simp[b,f,c]
   .have c:¬i<j+1:=by lia
    simp[b,f,c]
  rw[e]at l;exact(kf g d a j (by lia)).trans l
def IW(d:Reach rs){W':Nat->Int}(b:∀i,0<=W i)(a:∀i,W i<=W' i)(ho:∀i,¬i<lN rs->W' i=W i):NW rs (Sh rs W) (Sh rs W'):=by
 have h:=kf d b a (lN rs) (zY _);have e:(λi=>if i<lN rs then W' i else W i)=W':=by
  funext i;split
  .rfl
  rename_i c;exact(ho i c).symm
 rw[e]at h;exact h
def kg{a:List Row}(b:RE rs a)(c:∀k,col Row.need a k=col Row.need rs k):SQ a (ord a) (WE a (col Row.RB a)) (λ_=>0)=Sh rs (col Row.RB a):=by unfold Sh;rw[b.ord,b.WE,k7 b _ _ _ λk _=>c k]
def kh{a:List Row}(c:RE rs a)(b:∀k,col Row.need a k=col Row.need rs k):shr a=(Sh rs (col Row.RB a)).2:=by unfold shr;rw[kg c b]
def ki{a:List Row}(d:Reach a)(c:RE rs a)(b:∀k,col Row.need a k=col Row.need rs k):WE a (λi=>col Row.RB a i-shr a i)=(Sh rs (col Row.RB a)).1:=by rw[<-(Tf d).pg,kg c b]
noncomputable def Cw:Nat->(Nat->Int)->Int
 |0,_=>0
 |n+1,F=>Cw n F+F n
theorem Qd:∀{n:Nat}{F F':Nat->Int},(∀i,i<n->F i=F' i)->Cw n F=Cw n F'
 |0,_,_,_=>rfl
 |n+1,F,F',h=>by show Cw n F+F n=Cw n F'+F' n;rw[Qd λi a=>h i (by lia),h n (by lia)]
noncomputable def Ec(pg:Nat->List Int)(j:Nat):Int:=(pg j).getD 2 0+(pg j).getD 3 0
noncomputable def Kv(pg:Nat->List Int)(j:Nat):Int:=(pg j).getD 4 0
def Hs.P8(h:Hs)(k:Nat):Option (Nat×Nat):=match(h.pl k).kd with
 |.NA _ _ (u4 (to,dl,_))=>u4 (to,dl)
 |_=>u5
def Hs.c1(h:Hs)(pg:Nat->List Int)(i j:Nat):Int:=if h.dir j=u5/\h.dn j=u4 i/\(h.pl j).dl=0 then Ec pg j else 0
def Hs.o1(h:Hs)(pg:Nat->List Int)(i a j:Nat):Int:=(if h.dn j=u4 i/\(h.pl j).dl=a+1 then Ec pg j else 0)+(if h.P8 j=u4 (i,a+1)then Kv pg j else 0)
def Hs.UG(h:Hs)(yt:Int)(lv:Nat->Int)(k:Nat)(c:Int):List Int:=match(h.pl k).kd with
 |.NA UK rule _=>
  let w:=lv k+c;let st:=held yt rule [];let stays:=w-rv w st-pm w st
  [c,0,stays-min stays UK,rv w st,pm w st,min stays UK]
 |_=>[]
def Hs.Gu(h:Hs)(ca:Nat->Int)(m:Nat):Nat->Int:=shr (h.rows (h.mem m) ca)
def Hs.Il(h:Hs)(ca:Nat->Int)(m:Nat):Nat->Int:=WE (h.rows (h.mem m) ca) λi=>col Row.RB (h.rows (h.mem m) ca) i-h.Gu ca m i
def IX{ms:List Nat}(e:∀k∈ms,ca k=ca' k):h.rows ms ca=h.rows ms ca':=by
 unfold Hs.rows;refine qx λk hk=>?_
 unfold Hs.row;rw[e k hk]
def kj{a:Nat}:(s.send a dl c).NB i=s.NB i+(if a=i/\dl=0 then c else 0):=by
 unfold Cs.send;by_cases b:dl=0
 .simp[b,if_true,and_true,RC];by_cases e:i=a
  .subst e;simp
  rw[if_neg e,if_neg (λz=>e z.symm)];lia
 simp[b]
def kl{a:Nat}:(s.send d dl c).ZA i a=s.ZA i a+(if d=i/\dl=a+1 then c else 0):=by
 unfold Cs.send;by_cases f:dl=0
 .simp[f]
 simp[f,if_false,RS];by_cases e:i=d
 .subst e;simp[if_true,RC,true_and];by_cases b:a=dl-1
  .have g:dl=a+1:=by lia
   rw[if_pos b,if_pos g,b]
  rw[if_neg b,if_neg (by lia)];lia
 rw[if_neg e,if_neg (λz=>e z.1.symm)];lia
theorem Yd{k:Nat}:(h.Ei s k c).NB i=s.NB i+(if h.dn k=u4 i/\(h.pl k).dl=0 then c else 0):=by
 unfold Hs.Ei;cases e:h.dn k with
 |none=>simp
 |some d=>simp[kj,Option.some.injEq]
theorem Xy{k:Nat}{a:Nat}:(h.Ei s k c).ZA i a=s.ZA i a+(if h.dn k=u4 i/\(h.pl k).dl=a+1 then c else 0):=by
 unfold Hs.Ei;cases e:h.dn k with
 |none=>simp
 |some d=>simp[kl,Option.some.injEq]
theorem km{k:Nat}(a:(h.pl k).kd.SD=u6):h.dir k=u5:=by
 unfold Hs.dir;cases h.dn k with
 |none=>rfl
 |some d=>simp[a]
theorem Yh{k:Nat}(e:h.dir k=u4 d):h.dn k=u4 d/\(h.pl k).dl=0/\(h.pl k).kd.SD=u7/\(h.pl d).kd.SD=u7:=by
 unfold Hs.dir at e;cases b:h.dn k with
 |none=>rw[b]at e;cases e
 | some c=>
  rw[b]at e;simp only at e;split at e
  .cases e
  rename_i a;cases e;refine⟨rfl,by lia,?_,?_⟩
  .cases z:(h.pl k).kd.SD with
   |false=>rfl
   |true=>exact absurd (.inr (.inl z)) a
  .cases z:(h.pl d).kd.SD with
   |false=>rfl
   |true=>exact absurd (.inr (.inr z)) a
theorem V8{k:Nat}(d:(h.pl k).kd.SD=u7):h.P8 k=u5:=by
 unfold Hs.P8;cases e:(h.pl k).kd with
 |NA a b c=>rw[e]at d;cases d
 |_=>rfl
theorem kn(g:SA h){k:Nat}(e:h.last k=k):h.dir k=u5:=by
 cases a:h.dir k with
 |none=>rfl
 |some d=>
  have c:=Jv g a;have f:=Le g a;have b:=(Hw g d).1;lia
def IY(g:SA h)(d:m<h.n)(e:h.last m=m):(h.mem m).idxOf m=lN (h.mem m)-1:=by have f:=ik g d e;have b:=xQ (mem_iff.mpr ⟨d,e⟩);rw[j8,zX (by lia)]at f;have c:=iy ((Uz (h:=h) (m:=m)).imp λa=>z9 a) (i:=lN (h.mem m)-1) (by lia);rw[Option.some.inj f]at c;exact c
structure TI (h:Hs) (yt:Int) (lv:Nat->Int) (co:Nat->Nat->Int) (fl:Nat->Int) (k:Nat) (s:Cs):Prop where
 NB:∀i,i<h.n->s.NB i=fl i+co i 0+Cw k (h.c1 s.UA i)
 ZA:∀i a,i<h.n->a<5->s.ZA i a=Gk co i a+Cw k (h.o1 s.UA i a)
 NA:∀i,i<k->i<h.n->(h.pl i).kd.SD=u6->s.UA i=h.UG yt lv i (s.NB i)
 reach:∀i,i<h.n->(h.pl i).kd.SD=u7->h.last i<k->s.UA i=TQ (h.Gu s.NB (h.last i)) (h.Il s.NB (h.last i)) ((h.mem (h.last i)).idxOf i)
section
variable{h:Hs}{yt:Int}{lv:Nat->Int}{co:Nat->Nat->Int}{fl:Nat->Int}
def bW(e:∀k∈h.mem m,ca k=ca' k):h.Gu ca m=h.Gu ca' m/\h.Il ca m=h.Il ca' m:=by
 have a:=IX (h:=h) e;have b:h.Gu ca m=h.Gu ca' m:=by unfold Hs.Gu;rw[a]
 refine⟨b,?_⟩;unfold Hs.Il;rw[a,b]
def U5(g:SA h){k:Nat}(hk:k∈h.mem m):k<=m:=by have a:=mem_iff.mp hk;have b:=(Hw g k).1;lia
def IZ(g:SA h){k:Nat}(hk:k<h.n)(t:TI h yt lv co fl k s):TI h yt lv co fl (k+1) (h.step yt lv s k):=by
 by_cases B:(h.pl k).kd.SD=u6
 .
  have e:h.step yt lv s k=h.NA yt lv s k:=by unfold Hs.step;rw[if_pos B]
  rw[e];have W:=km B;have u:=(X7 (yt:=yt) (lv:=lv) (s:=s) B).2;obtain⟨H,r,y,M⟩:∃a b c,(h.pl k).kd=.NA a b c:=by
   cases e:(h.pl k).kd with
   |NA a b c=>exact⟨a,b,c,rfl⟩
   |_=>rw[e]at B;cases B
  have L:(h.NA yt lv s k).UA k=h.UG yt lv k (s.NB k):=by
   unfold Hs.NA Hs.UG;rw[M];simp only;cases y with
   |none=>simp only;rw[Js.2];simp
   |some q=>obtain⟨X,J,m⟩:=q;simp only;rw[Vo.2,Js.2];simp
  have v:Ec (h.NA yt lv s k).UA k=rv (lv k+s.NB k) (held yt r [])+(lv k+s.NB k-rv (lv k+s.NB k) (held yt r [])-pm (lv k+s.NB k) (held yt r [])-min (lv k+s.NB k-rv (lv k+s.NB k) (held yt r [])-pm (lv k+s.NB k) (held yt r [])) H):=by unfold Ec;rw[L];unfold Hs.UG;rw[M];simp[List.getD];lia
  have U:Kv (h.NA yt lv s k).UA k=pm (lv k+s.NB k) (held yt r []):=by
   unfold Kv;rw[L];unfold Hs.UG;rw[M]
   rfl
  have o:∀i,(h.NA yt lv s k).NB i=s.NB i+(if h.dn k=u4 i/\(h.pl k).dl=0 then Ec (h.NA yt lv s k).UA k else 0):=λi=>by
   rw[v];unfold Hs.NA;rw[M];simp only;cases hp:y with
   |none=>simp[Yd]
   |some q=>
    obtain⟨X,J,m⟩:=q;have A:=g.YU k H r X J m hk (by rw[M,hp]);simp[kj,Yd];rw[if_neg (show¬(X=i/\J=0) by lia)];lia
  have C:∀i a,(h.NA yt lv s k).ZA i a=s.ZA i a+h.o1 (h.NA yt lv s k).UA i a k:=λi a=>by
   unfold Hs.o1;rw[v,U];unfold Hs.NA Hs.P8;rw[M];simp only;cases hp:y with
   |none=>simp[Xy]
   |some q=>
    obtain⟨X,J,m⟩:=q;simp[kl,Xy,Option.some.injEq,Prod.mk.injEq];lia
  have p:∀i,i<=k->(h.NA yt lv s k).NB i=s.NB i:=λi l=>by
   rw[o,if_neg]
   .lia
   intro z;have:=g.dn k i hk z.1;lia
  refine⟨λi l=>?_,λi a l P=>?_,λi S l f=>?_,λi l f F=>?_⟩
  .show _=_+(Cw k (h.c1 (h.NA yt lv s k).UA i)+h.c1 (h.NA yt lv s k).UA i k);rw[o,t.NB i l];have K:Cw k (h.c1 (h.NA yt lv s k).UA i)=Cw k (h.c1 s.UA i):=Qd λj w=>by unfold Hs.c1 Ec;rw[u j (by lia)]
   rw[K];unfold Hs.c1;simp[W,true_and];lia
  .show _=_+(Cw k (h.o1 (h.NA yt lv s k).UA i a)+h.o1 (h.NA yt lv s k).UA i a k);rw[C,t.ZA i a l P];have K:Cw k (h.o1 (h.NA yt lv s k).UA i a)=Cw k (h.o1 s.UA i a):=Qd λj w=>by unfold Hs.o1 Ec Kv;rw[u j (by lia)]
   rw[K];lia
  .by_cases x:i=k
   .subst x;rw[L,p i (zY _)]
   rw[u i x,p i (by lia)];exact t.NA i (by lia) l f
  have Z:h.last i<k:=by
   rcases j4 (h.last i) k with z|z
   .exact z
   .have x:h.last i=k:=by lia
    rcases bS g h.n i (by lia)with Y|Y
    .rw[<-x,Y,f]at B;cases B
    rw[x,B]at Y;cases Y
  have hle:=(Hw g i).1;rw[u i (by lia),t.reach i l f Z];have:=bW (m:=h.last i) λj w=>(p j (by have:=U5 g w;lia)).symm
  rw[this.1,this.2]
 have I:(h.pl k).kd.SD=u7:=by
  cases z:(h.pl k).kd.SD with
  |false=>rfl
  |true=>exact absurd z B
 by_cases F:h.last k=k
 .
  have e:h.step yt lv s k=h.reach s k:=by unfold Hs.step;rw[if_neg B,if_pos F]
  rw[e];have u:∀j,j∉h.mem k->(h.reach s k).UA j=s.UA j:=λj w=>by rw[Zm,if_neg w]
  have Q:∀j,j∈h.mem k->(h.reach s k).UA j=TQ (h.Ha s k) (h.Ge s k) ((h.mem k).idxOf j):=λj w=>by rw[Zm,if_pos w]
  have v:Ec (h.reach s k).UA k=h.Ge s k (lN (h.mem k)-1):=by unfold Ec;rw[Q k (mem_iff.mpr ⟨hk,F⟩),IY g hk F];simp[TQ]
  have o:∀i,(h.reach s k).NB i=s.NB i+(if h.dn k=u4 i/\(h.pl k).dl=0 then Ec (h.reach s k).UA k else 0):=λi=>by rw[v];unfold Hs.reach;simp[Yd]
  have C:∀i a,(h.reach s k).ZA i a=s.ZA i a+(if h.dn k=u4 i/\(h.pl k).dl=a+1 then Ec (h.reach s k).UA k else 0):=λi a=>by rw[v];unfold Hs.reach;simp[Xy]
  have p:∀i,i<=k->(h.reach s k).NB i=s.NB i:=λi l=>by
   rw[o,if_neg]
   .lia
   .intro z;have:=g.dn k i hk z.1;lia
  have N:∀j,j∈h.mem k->j<k->∃d,h.dir j=u4 d:=λj w hjk=>by
   cases A:h.dir j with
   |some d=>exact⟨d,rfl⟩
   |none=>
    have h1:=Gz g A;have h2:=(mem_iff.mp w).2;lia
  refine⟨λi l=>?_,λi a l P=>?_,λi S l f=>?_,λi l f hli=>?_⟩
  .show _=_+(Cw k (h.c1 (h.reach s k).UA i)+h.c1 (h.reach s k).UA i k);rw[o,t.NB i l];have K:Cw k (h.c1 (h.reach s k).UA i)=Cw k (h.c1 s.UA i):=Qd λj w=>by
    by_cases E:j∈h.mem k
    .obtain⟨d,A⟩:=N j E w;unfold Hs.c1;simp[A]
    .unfold Hs.c1 Ec;rw[u j E]
   rw[K];unfold Hs.c1;simp[kn g F,true_and];lia
  .show _=_+(Cw k (h.o1 (h.reach s k).UA i a)+h.o1 (h.reach s k).UA i a k);rw[C,t.ZA i a l P];have K:Cw k (h.o1 (h.reach s k).UA i a)=Cw k (h.o1 s.UA i a):=Qd λj w=>by
    by_cases E:j∈h.mem k
    .obtain⟨d,A⟩:=N j E w;have O:=Yh A;unfold Hs.o1;simp[O.2.1,V8 O.2.2.1]
    .unfold Hs.o1 Ec Kv;rw[u j E]
   rw[K];unfold Hs.o1;rw[V8 I];simp;lia
  .have T:i<k:=by
    rcases j4 i k with z|z
    .exact z
    .have x:i=k:=by lia
     rw[x,I]at f;cases f
   have E:i∉h.mem k:=λz=>by have h1:=(mem_iff.mp z).2;have h2:=Gz g (km f);lia
   rw[u i E,p i (by lia)];exact t.NA i T l f
  .by_cases x:h.last i=k
   .have E:=mem_iff.mpr ⟨l,x⟩;rw[Q i E,x];have:=bW λj w=>(p j (U5 g w)).symm
    rw[<-this.1,<-this.2]
    rfl
   .rw[u i (λz=>x (mem_iff.mp z).2),t.reach i l f (by lia)];have:=bW (m:=h.last i) λj w=>(p j (by have:=U5 g w;lia)).symm
    rw[this.1,this.2]
 .
  have e:h.step yt lv s k=s:=by unfold Hs.step;rw[if_neg B,if_neg F]
  rw[e];obtain⟨d,A⟩:∃d,h.dir k=u4 d:=by
   cases A:h.dir k with
   |some d=>exact⟨d,rfl⟩
   |none=>exact absurd (Gz g A) F
  have O:=Yh A;refine⟨λi l=>?_,λi a l P=>?_,λi S l f=>?_,λi l f hli=>?_⟩
  .show _=_+(Cw k (h.c1 s.UA i)+h.c1 s.UA i k);rw[t.NB i l];unfold Hs.c1;simp[A]
  .show _=_+(Cw k (h.o1 s.UA i a)+h.o1 s.UA i a k);rw[t.ZA i a l P];unfold Hs.o1;simp[O.2.1,V8 O.2.2.1]
  .refine t.NA i ?_ l f;rcases j4 i k with z|z
   .exact z
   .have x:i=k:=by lia
    rw[x,I]at f;cases f
  .refine t.reach i l f ?_;rcases j4 (h.last i) k with z|z
   .exact z
   .have x:h.last i=k:=by lia
    have:=bT g h.n i (by lia);rw[x]at this;exact absurd this F
theorem ko(g:SA h):∀(m k:Nat)(s:Cs),k+m=h.n->TI h yt lv co fl k s->TI h yt lv co fl h.n (h.RZ yt lv m k s)
 |0,k,s,e,t=>by
  have a:k=h.n:=by lia
  rw[a]at t;exact t
 |m+1,k,s,e,t=>ko g m (k+1) _ (by lia) (IZ g (by lia) t)
def kq(g:SA h):TI h (at_%h.yr) lv co fl h.n (h.cs lv co at_ fl):=by
 refine ko g h.n 0 _ (by lia) ⟨λi b=>?_,λi a b c=>?_,(λi b=>absurd b (by lia)),(λi _ _ b=>absurd b (by lia))⟩
 .show fl i+co i 0=fl i+co i 0+0;lia
 show Gk co i a=Gk co i a+0;lia
end
section
variable{h:Hs}{yt:Int}{lv:Nat->Int}{co:Nat->Nat->Int}{fl:Nat->Int}
def O9{ms:List Nat}(hi:i<lN ms):(h.rows ms ca)[i]?=u4 (h.row ms ca ms[i]):=by
 unfold Hs.rows;rw[zw,zX hi]
 rfl
def Ic{ms:List Nat}{q:Row->Int}{k:Nat}(hk:k∈ms):col q (h.rows ms ca) (ms.idxOf k)=q (h.row ms ca k):=by have a:=qD hk;unfold col;rw[O9 a,jT a]
end
theorem kr{t:Int}:∀{r:List YL}{x:List UD},held t r x=x\/∃s∈r,held t r x=s.2
 |[],x=>.inl rfl
 | s::r,x=>by
  show held t r (if s.1<=t then s.2 else x)=x\/_;rcases kr (x:=if s.1<=t then s.2 else x)with z|⟨b,c,z⟩
  .by_cases a:s.1<=t
   .rw[if_pos a]at z;exact .inr ⟨s,by simp,by show held t r (if s.1<=t then s.2 else x)=_;rw[if_pos a];exact z⟩
   rw[if_neg a]at z;exact .inl ((if_neg a)▸z)
  exact .inr ⟨b,zJ _ c,z⟩
section
variable{h:Hs}{yt:Int}{lv:Nat->Int}{co:Nat->Nat->Int}{fl:Nat->Int}
end
theorem Yn:∀{n:Nat}{F F':Nat->Int},(∀i,i<n->F i<=F' i)->Cw n F<=Cw n F'
 |0,_,_,_=>zL _
 |n+1,F,F',h=>by
  have c:=Yn (n:=n) λi a=>h i (by lia)
  have b:=h n (by lia);show Cw n F+F n<=Cw n F'+F' n;lia
def kt{w:Int}(h:w<=a){s:UD}:TK w s<=TK a s:=by unfold TK;lia
theorem ku{w:Int}(h:w<=a):∀{st:List UD},rv w st<=rv a st
 |[]=>zL _
 |s::st=>by
  have b:=ku h (st:=st);have c:=kt h (s:=s);show(if s.r then TK w s else 0)+rv w st<=(if s.r then TK a s else 0)+rv a st
  split <;> lia
theorem ky{w:Int}(h:w<=a):∀{st:List UD},pm w st<=pm a st
 |[]=>zL _
 |s::st=>by
  have b:=ky h (st:=st);have c:=kt h (s:=s);show(if s.r then 0 else TK w s)+pm w st<=(if s.r then 0 else TK a s)+pm a st
  split <;> lia
theorem kz{w:Int}(h:w<=a):∀{st:List UD}{t:Int},Good t st->rv a st+pm a st-(rv w st+pm w st)<=max a t-max w t
 |[],t,_=>by show(0:Int)+0-(0+0)<=_;lia
 | s::st,t,b=>by
  obtain⟨d,g,c⟩:=b;have f:=kz h c;have e:∀w,rv w (s::st)+pm w (s::st)=TK w s+(rv w st+pm w st):=λw=>by
   show(if s.r then TK w s else 0)+rv w st+((if s.r then 0 else TK w s)+pm w st)=_
   split <;> lia
  rw[e,e];unfold TK;lia
theorem lC{w:Int}:∀{st:List UD}{t:Int},Good t st->rv w st+pm w st<=max 0 (w-t)
 |[],t,_=>by show(0:Int)+0<=_;lia
 | s::st,t,a=>by
  obtain⟨c,f,b⟩:=a;have d:=lC (w:=w) b;have e:rv w (s::st)+pm w (s::st)=TK w s+(rv w st+pm w st):=by
   show(if s.r then TK w s else 0)+rv w st+((if s.r then 0 else TK w s)+pm w st)=_
   split <;> lia
  rw[e];unfold TK;lia
section
variable{h:Hs}{yt:Int}{lv lv':Nat->Int}{co co':Nat->Nat->Int}{fl N9:Nat->Int}
def lD(g:SA h){k:Nat}(hk:k<h.n){b:Int}{r:List YL}{q:Option (Nat×Nat×Int)}(e:(h.pl k).kd=.NA b r q):Good 0 (held yt r []):=by
 rcases kr with z|⟨s,a,z⟩
 .rw[z];trivial
 rw[z];exact(g.UK k b r q hk e).2 s a
end
structure P9 (h:Hs) (pg:Nat->List Int):Prop where
 row:∀k,k<h.n->∃a b c d e f,pg k=[a,b,c,d,e,f]/\0<=a/\0<=b/\0<=c/\0<=d/\0<=e/\0<=f
 UK:∀k b r q,k<h.n->(h.pl k).kd=.NA b r q->(pg k).getD 5 0<=b/\(0<(pg k).getD 2 0->(pg k).getD 5 0=b)
 XE:∀k a b,k<h.n->(h.pl k).kd=.XE a b->(pg k).getD 1 0<=a
 idleB:∀k,k<h.n->(h.pl k).kd.SD=u6->(pg k).getD 1 0=0
 Iq:∀k,k<h.n->(h.pl k).kd.SD=u7->(pg k).getD 2 0=0/\(pg k).getD 4 0=0/\(pg k).getD 5 0=0
structure UM (h:Hs) (lv:Nat->Int) (co:Nat->Nat->Int):Prop where
 t?:∀k,k<h.n->0<=lv k
 W?:∀k,k<h.n->(h.pl k).kd.SD=u7->lv k=0
 US:∀k a,k<h.n->a<5->0<=co k a
section
variable{h:Hs}{yt:Int}{lv:Nat->Int}{co:Nat->Nat->Int}{fl:Nat->Int}
def Iy(g:SA h)(t:TI h yt lv co fl h.n s)(i:s.NN h.n)(v:∀k,k<h.n->0<=lv k):P9 h s.UA:=by
 refine⟨λk hk=>?_,λk b r q hk e=>?_,λk a b hk e=>?_,λk hk c=>?_,λk hk c=>?_⟩
 .cases c:(h.pl k).kd.SD with
  | true=>
   rw[t.NA k hk hk c];unfold Hs.UG;cases e:(h.pl k).kd with
   |NA b r q=>
    have B:=v k hk;have y:=i.1 k hk;have z:=lC (w:=lv k+s.NB k) (lD (yt:=yt) g hk e);have A:=(g.UK k b r q hk e).1;exact⟨_,_,_,_,_,_,rfl,y,zL _,by lia,Xf (w:=lv k+s.NB k) (st:=held yt r []),bR (w:=lv k+s.NB k) (st:=held yt r []),by lia⟩
   |_=>rw[e]at c;cases c
  |false=>
   have j:=(Hw g k).2 hk;rw[t.reach k hk c j];have p:=Mw g (m:=h.last k) i.1;have x:=mem_iff.mpr ⟨hk,rfl⟩;have d:=Tf p;have l:0<=h.Gu s.NB (h.last k) ((h.mem (h.last k)).idxOf k):=d.t0 _;have u:0<=h.Il s.NB (h.last k) ((h.mem (h.last k)).idxOf k):=by have:=d.p0 ((h.mem (h.last k)).idxOf k) (Ho▸qD x);rw[d.pg]at this;exact this
   exact⟨_,_,_,_,_,_,rfl,by lia,l,zL _,u,zL _,zL _⟩
 .have c:(h.pl k).kd.SD=u6:=by rw[e];rfl
  rw[t.NA k hk hk c];unfold Hs.UG;rw[e];simp[List.getD_cons_succ,List.getD_cons_zero];lia
 .have c:(h.pl k).kd.SD=u7:=by rw[e];rfl
  have j:=(Hw g k).2 hk;rw[t.reach k hk c j];have f:=(Tf (Mw g (m:=h.last k) i.1)).tn ((h.mem (h.last k)).idxOf k);rw[Ic (mem_iff.mpr ⟨hk,rfl⟩)]at f;have o:(h.row (h.mem (h.last k)) s.NB k).need=a:=by show h.need k=a;unfold Hs.need;rw[e]
  rw[o]at f;exact f
 .rw[t.NA k hk hk c];unfold Hs.UG
  cases e:(h.pl k).kd<;>rfl
 rw[t.reach k hk c ((Hw g k).2 hk)];exact⟨rfl,rfl,rfl⟩
def lH(g:SA h)(t:TI h yt lv co fl h.n s)(j:s.NN h.n)(o:∀k,k<h.n->0<=lv k):UM h (SG s.UA) s.ZA:=by have i:=Iy g t j o;refine⟨λk hk=>?_,λk hk p=>(i.Iq k hk p).2.2,j.2⟩;obtain⟨a,b,c,d,e,f,l,m⟩:=i.row k hk;unfold SG;rw[l];exact m.2.2.2.2.2
end
section
variable{h:Hs}{yt:Int}{lv lv':Nat->Int}{co co':Nat->Nat->Int}{fl N9:Nat->Int}
theorem lJ(g:SA h){k:Nat}(hk:k<h.n)(d:(h.pl k).kd.SD=u6){c':Int}(j:0<=lv k+c)(a:lv k+c<=lv' k+c'):
  (h.UG yt lv k c).getD 2 0<=(h.UG yt lv' k c').getD 2 0/\(h.UG yt lv k c).getD 3 0<=(h.UG yt lv' k c').getD 3 0/\(h.UG yt lv k c).getD 4 0<=(h.UG yt lv' k c').getD 4 0/\(h.UG yt lv k c).getD 5 0<=(h.UG yt lv' k c').getD 5 0:=by
 unfold Hs.UG;cases e:(h.pl k).kd with
 |NA b r q=>
  have f:=ku a (st:=held yt r []);have l:=ky a (st:=held yt r []);have i:=kz a (lD (yt:=yt) g hk e);simp[List.getD_cons_succ,List.getD_cons_zero];lia
 |_=>rw[e]at d;cases d
def lK{ms:List Nat}:RE (h.rows ms ca) (h.rows ms ca')/\∀k,col Row.need (h.rows ms ca') k=col Row.need (h.rows ms ca) k:=by
 have e:∀i,(h.rows ms ca')[i]?=(h.rows ms ca)[i]?.map λ(r:Row)=>{r with RB:=ca' (ms.getD i 0)}:=λi=>by
  by_cases a:i<lN ms
  .have b:ms.getD i 0=ms[i]:=by simp[zk,zX a]
   rw[O9 a,O9 a,b]
   rfl
  rw[z0 (by rw[Ho];lia),z0 (by rw[Ho];lia)]
  rfl
 refine⟨⟨by rw[Ho,Ho],λk=>?_,λk=>?_⟩,λk=>?_⟩
 .unfold Bh;rw[e]
  cases(h.rows ms ca)[k]?<;>rfl
 .unfold col;rw[e]
  cases(h.rows ms ca)[k]?<;>rfl
 unfold col;rw[e]
 cases(h.rows ms ca)[k]?<;>rfl
def lL(g:SA h)(r:∀k,k<h.n->0<=ca k)(f:∀k,k<h.n->0<=ca' k)(j:∀k∈h.mem m,ca k<=ca' k):
  (∀i,h.Gu ca m i<=h.Gu ca' m i)/\(m<h.n->h.last m=m->h.Il ca m ((h.mem m).idxOf m)<=h.Il ca' m ((h.mem m).idxOf m)):=by
 have e:=Mw g (m:=m) r;have d:=lK (h:=h) (ms:=h.mem m) (ca:=ca) (ca':=ca');have c:=lK (h:=h) (ms:=h.mem m) (ca:=ca) (ca':=ca);have a:∀(ca:Nat->Int)i,¬i<lN (h.mem m)->col Row.RB (h.rows (h.mem m) ca) i=0:=λca i b=>by unfold col;rw[z0 (by rw[Ho];lia)]
 have hw:=IW e (W':=col Row.RB (h.rows (h.mem m) ca')) e.RB (λi=>by
  by_cases b:i<lN (h.mem m)
  .unfold col;rw[O9 b,O9 b];exact j _ (qW b)
  .rw[a ca i b,a ca' i b];exact zL _) (λi b=>by
  rw[Ho]at b;rw[a ca i b,a ca' i b])
 have p:h.Gu ca m=_:=kh c.1 c.2;have o:h.Gu ca' m=_:=kh d.1 d.2;have t:h.Il ca m=_:=ki e c.1 c.2;have s:h.Il ca' m=_:=ki (Mw g (m:=m) f) d.1 d.2;refine⟨λi=>?_,λq l=>?_⟩
 .rw[p,o];exact hw.1 i
 rw[t,s];refine hw.2 _ ?_;have b:=qD (mem_iff.mpr ⟨q,l⟩);unfold Bh;rw[O9 b,jT b];show(h.dir m).map _=u5;rw[kn g l]
 rfl
theorem lM(g:SA h)(t:TI h yt lv co fl h.n s)(t':TI h yt lv' co' N9 h.n s')(p:s.NN h.n)(l:s'.NN h.n)(r:∀k,k<h.n->0<=lv k)(b:∀k,k<h.n->lv k<=lv' k)(i:∀k,k<h.n->co k 0<=co' k 0)(o:∀k,k<h.n->fl k<=N9 k):
  ∀(m k:Nat),k<m->k<h.n->s.NB k<=s'.NB k/\(h.dir k=u5->Ec s.UA k<=Ec s'.UA k)
 |0,k,u,_=>absurd u (by lia)
 | m+1,k,u,hk=>by
  have q:=lM g t t' p l r b i o m;have v:s.NB k<=s'.NB k:=by
   rw[t.NB k hk,t'.NB k hk];have y:=i k hk;have B:=o k hk;have C:Cw h.n (h.c1 s.UA k)<=Cw h.n (h.c1 s'.UA k):=Yn λj f=>by
    unfold Hs.c1;by_cases a:h.dir j=u5/\h.dn j=u4 k/\(h.pl j).dl=0
    .have A:=g.dn j k f a.2.1;rw[if_pos a,if_pos a];exact(q j (by lia) f).2 a.1
    rw[if_neg a,if_neg a];exact zL _
   lia
  refine⟨v,λx=>?_⟩;unfold Ec;cases d:(h.pl k).kd.SD with
  |true=>
   rw[t.NA k hk hk d,t'.NA k hk hk d];have:=b k hk;have:=r k hk;have:=p.1 k hk;have:=lJ (yt:=yt) (lv:=lv) (lv':=lv') g hk d (c:=s.NB k) (c':=s'.NB k) (by lia) (by lia);lia
  | false=>
   have w:=Gz g x;rw[t.reach k hk d (by lia),t'.reach k hk d (by lia),w];have z:=(lL g p.1 l.1 λj f=>by
    have y:=U5 g f;by_cases e:j=k
    .subst e;exact v
    exact(q j (by lia) (mem_iff.mp f).1).1).2 hk w
   simp[TQ,List.getD_cons_succ,List.getD_cons_zero];lia
structure NV (h:Hs) (pg Pc:Nat->List Int):Prop where
 took:∀k,k<h.n->(pg k).getD 1 0<=(Pc k).getD 1 0
 NA:∀k,k<h.n->(h.pl k).kd.SD=u6->(pg k).getD 2 0<=(Pc k).getD 2 0/\(pg k).getD 3 0<=(Pc k).getD 3 0/\(pg k).getD 4 0<=(Pc k).getD 4 0
 SG:∀k,k<h.n->SG pg k<=SG Pc k
 out:∀k,k<h.n->h.dir k=u5->Ec pg k<=Ec Pc k
def JA(g:SA h)(t:TI h yt lv co fl h.n s)(t':TI h yt lv' co' N9 h.n s')(u:s.NN h.n)(o:s'.NN h.n)(A:∀k,k<h.n->0<=lv k)(i:∀k,k<h.n->lv k<=lv' k)(m:∀k a,k<h.n->a<5->co k a<=co' k a)(x:∀k,k<h.n->fl k<=N9 k):
  NV h s.UA s'.UA/\∀k a,k<h.n->a<5->s.ZA k a<=s'.ZA k a:=by
 have w:=λk hk=>lM g t t' u o A i (λk hk=>m k 0 hk (by lia)) x h.n k hk hk
 have l:∀k,k<h.n->(h.pl k).kd.SD=u6->_:=λk hk b=>by have C:=i k hk;have B:=A k hk;have H:=u.1 k hk;have F:=(w k hk).1;exact lJ (yt:=yt) (lv:=lv) (lv':=lv') g hk b (c:=s.NB k) (c':=s'.NB k) (by lia) (by lia)
 have q:NV h s.UA s'.UA:=by
  refine⟨λk hk=>?_,λk hk b=>?_,λk hk=>?_,λk hk v=>(w k hk).2 v⟩
  .cases b:(h.pl k).kd.SD with
   |true=>
    rw[t.NA k hk hk b,t'.NA k hk hk b];unfold Hs.UG
    cases e:(h.pl k).kd<;>exact zL _
   |false=>
    have p:=(Hw g k).2 hk;rw[t.reach k hk b p,t'.reach k hk b p];exact(lL g u.1 o.1 λj r=>(w j (mem_iff.mp r).1).1).1 _
  .rw[t.NA k hk hk b,t'.NA k hk hk b];have:=l k hk b;exact⟨this.1,this.2.1,this.2.2.1⟩
  unfold _W.SG;cases b:(h.pl k).kd.SD with
  |true=>
   rw[t.NA k hk hk b,t'.NA k hk hk b];exact(l k hk b).2.2.2
  |false=>
   have p:=(Hw g k).2 hk;rw[t.reach k hk b p,t'.reach k hk b p];exact zL _
 refine⟨q,λk a hk y=>?_⟩;rw[t.ZA k a hk y,t'.ZA k a hk y];have C:Gk co k a<=Gk co' k a:=by
  unfold Gk;split
  .exact m k (a+1) hk (by lia)
  exact zL _
 have B:Cw h.n (h.o1 s.UA k a)<=Cw h.n (h.o1 s'.UA k a):=Yn λj r=>by
  unfold Hs.o1;have I:(if h.dn j=u4 k/\(h.pl j).dl=a+1 then Ec s.UA j else 0)<=(if h.dn j=u4 k/\(h.pl j).dl=a+1 then Ec s'.UA j else 0):=by
   by_cases f:h.dn j=u4 k/\(h.pl j).dl=a+1
   .rw[if_pos f,if_pos f];refine q.out j r ?_;cases v:h.dir j with
    |none=>rfl
    |some d=>have:=(Yh v).2.1;lia
   rw[if_neg f,if_neg f];exact zL _
  have E:(if h.P8 j=u4 (k,a+1)then Kv s.UA j else 0)<=(if h.P8 j=u4 (k,a+1)then Kv s'.UA j else 0):=by
   by_cases f:h.P8 j=u4 (k,a+1)
   .rw[if_pos f,if_pos f];have b:(h.pl j).kd.SD=u6:=by
     cases z:(h.pl j).kd.SD with
     |true=>rfl
     |false=>rw[V8 z]at f;cases f
    exact(q.NA j r b).2.2
   rw[if_neg f,if_neg f];exact zL _
  lia
 lia
end
section
variable{h:Hs}
def OV(h:Hs):List (Nat->List Int)->List (Nat->List Int)->Prop
 |[],[]=>True
 |p::r,p'::r'=>NV h p p'/\OV h r r'
 |_,_=>False
def LeF(n:Nat):List (Nat->Int)->List (Nat->Int)->Prop
 |[],[]=>True
 |p::r,p'::r'=>(∀k,k<n->p k<=p' k)/\LeF n r r'
 |_,_=>False
theorem Z7(g:SA h):∀(fls fls':List (Nat->Int))(s s':YK)(a:Int),UM h s.1 s.2->UM h s'.1 s'.2->(∀fl∈fls,∀k,k<h.n->0<=fl k)->(∀fl∈fls',∀k,k<h.n->0<=fl k)->(∀k,k<h.n->s.1 k<=s'.1 k)->(∀k a,k<h.n->a<5->s.2 k a<=s'.2 k a)->LeF h.n fls fls'->
  OV h (h.Bk fls s a) (h.Bk fls' s' a)/\∀k j,k<h.n->j<5->(h.Es fls s a).2 k j<=(h.Es fls' s' a).2 k j
 |[],[],s,s',a,_,_,_,_,_,d,_=>⟨trivial,d⟩
 |fl::r,c::y,s,s',a,p,e,w,b,q,d,l=>by
  have t:=kq (lv:=s.1) (co:=s.2) (fl:=fl) g (at_:=a);have x:=V9 g (lv:=s.1) (a:=a) p.US (w fl (by simp));have v:=kq (lv:=s'.1) (co:=s'.2) (fl:=c) g (at_:=a);have i:=V9 g (lv:=s'.1) (a:=a) e.US (b c (by simp));have m:=JA g t v x i p.t? q d l.1;have u:=Z7 g r y (h.ZM s a fl) (h.ZM s' a c) (a+1) (lH g t x p.t?) (lH g v i e.t?) (λo b=>w o (zJ _ b)) (λo f=>b o (zJ _ f)) m.1.SG m.2 l.2
  exact⟨⟨m.1,u.1⟩,u.2⟩
 |[],_::_,_,_,_,_,_,_,_,_,_,l|_::_,[],_,_,_,_,_,_,_,_,_,l=>absurd l (by intro z;exact z)
end
noncomputable def OD(h:Hs)(f:Nat->Int)(k:Nat):Int:=f (6+24*h.n+k)
def SH(h:Hs)(f:Nat->Int)(u:Int)(lv:Nat->Int)(k:Nat):Int:=match(h.pl k).kd with
 |.NA b _ _=>lv k+XG (OD h f k/2) u%(b-lv k+1)*(OD h f k%2)
 |_=>lv k
def ZH(h:Hs)(f:Nat->Int)(u:Int)(co:Nat->Nat->Int)(k j:Nat):Int:=co k j+u*(OD h f k/2%2)
noncomputable def MM(h:Hs)(f:Nat->Int)(u:Int)(fl:Nat->Nat->Int)(i k:Nat):Int:=fl i k+XG (f (6+24*h.n+h.n+i*h.n+k)/2) u*(f (6+24*h.n+h.n+i*h.n+k)%2)
def bX(a:0<=x):0<=x*(c%2):=jM a (by lia)
def Xi{k:Nat}:tab k F++[.int (F k)]=tab (k+1) F:=by simp[tab,qU]
def lO{k:Nat}:Am k co++[.tup (tab 5 (co k))]=Am (k+1) co:=by simp[Am,qU]
def Zf{n k:Nat}(hk:k<n):YC (Am n co) (k:Int)=zT (tab 5 (co k)):=Df rfl (by simp[Am,hk])
def lP{B:DO}(h:∀m,XA m ds=u6):freeze (G++[A,B]) (.ok (.ref (lN G+2)) (G++[A,B,.lst ds]))=.ok (.fl ds) (G++[A,B]):=by have:=Dh (G:=G++[A,B]) (L:=[]) (h _);simpa using this
def bY{B C:DO}(h:∀m,XA m ds=u6):freeze (G++[A,B,C]) (.ok (.ref (lN G+3)) (G++[A,B,C,.lst ds]))=.ok (.fl ds) (G++[A,B,C]):=by have:=Dh (G:=G++[A,B,C]) (L:=[]) (h _);simpa using this
section
variable{ns:List Int}{f:Nat->Int}{u:Int}{h:Hs}
def JB(T:Cf ns f)(Y:0<u)(g:SA h)(hb:∀k b r q,k<h.n->(h.pl k).kd=.NA b r q->lv k<=b){k:Nat}(hk:k<h.n){x10 x11 x12 s14 s15 s16 s17:Option D}(G:DH):∃TJ,
  R1 [zN ns,u4 h.enc,u4 (PB h.n lv co),s3,zI u,zI h.n,zI ((6+24*h.n:Nat):Int),zR (lN G),zR (lN G+1),zI k,x10,x11,x12,s14,s15,s16,s17] (G++[.lst (tab k (SH h f u lv)),.lst (Am k (ZH h f u co))])=
   .nx [zN ns,u4 h.enc,u4 (PB h.n lv co),s3,zI u,zI h.n,zI ((6+24*h.n:Nat):Int),zR (lN G),zR (lN G+1),zI k,zI (OD h f k),zI (SH h f u lv k),TJ,s14,s15,s16,s17] (G++[.lst (tab (k+1) (SH h f u lv)),.lst (Am (k+1) (ZH h f u co))]):=by
 have hn:=g.len;have L:∀G,Ay [nD ns,.int (((6+24*h.n:Nat):Int)+(k:Int))] G=.ok (.int (OD h f k)) G:=λG=>by have:=T (6+24*h.n+k) (by lia) G;rwa[show((6+24*h.n+k:Nat):Int)=((6+24*h.n:Nat):Int)+k by lia]at this
 generalize((6+24*h.n:Nat):Int)=B at L;have N:=Hs.Dw hk;have mu:∀G,Bo (.int u) (.int (OD h f k/2%2)) G=.ok (.int (u*(OD h f k/2%2))) G:=λG=>Gq (by lia) (by lia)
 have K:∀G,Bv (gV 0) Aw Xw [u5,zI u,zI (OD h f k)] (tab 5 (co k)) G=.ok (tab 5 (ZH h f u co k)) G:=λG=>K6 λj _=>by unfold Xw;simp[mu,ZH]
 have O:∀w s:List D,freeze (G++[.lst w,.lst s]) (.ok (.ref (lN G+2)) (G++[.lst w,.lst s,.lst (tab 5 (ZH h f u co k))]))=.ok (.fl (tab 5 (ZH h f u co k))) (G++[.lst w,.lst s]):=λw s=>lP λ_=>Gy
 have E:k<1000000:=by lia
 have cs:∀a b c d e f' g h i j M l m n o p q:Option D,Av 1 [4,10] [a,b,c,d,e,f',g,h,i,j,M,l,m,n,o,p,q]=[u5,e,M]:=λ_ _ _ _ _ _ _ _ _ _ _ _ _ _ _ _ _=>rfl
 have P:∀a b:DO,(G++[a,b])[lN G]?=u4 a:=λa b=>by simp
 have Z:∀a b:DO,(G++[a,b])[lN G+1]?=u4 b:=λa b=>by simp
 have X:∀a b c:DO,(G++[a,b]).set (lN G) c=G++[c,b]:=λa b c=>by simp
 have s1:∀a b c:DO,(G++[a,b]).set (lN G+1) c=G++[a,c]:=λa b c=>by simp
 have J:=Xi (k:=k) (F:=SH h f u lv);have C:=lO (k:=k) (co:=ZH h f u co);have v:lN (tab 5 (ZH h f u co k))<=1000000:=by simp
 generalize tab 5 (ZH h f u co k)=T5 at K O C v;generalize tab (k+1) (SH h f u lv)=Q at J;generalize Am (k+1) (ZH h f u co)=W at C;have A:∀TJ:Option D,Vc [zN ns,u4 h.enc,u4 (PB h.n lv co),s3,zI u,zI h.n,zI B,zR (lN G),zR (lN G+1),zI k,zI (OD h f k),zI (SH h f u lv k),TJ,s14,s15,s16,s17] (G++[.lst (tab k (SH h f u lv)),.lst (Am k (ZH h f u co))])=.nx [zN ns,u4 h.enc,u4 (PB h.n lv co),s3,zI u,zI h.n,zI B,zR (lN G),zR (lN G+1),zI k,zI (OD h f k),zI (SH h f u lv k),TJ,s14,s15,s16,s17] (G++[.lst Q,.lst W]):=λTJ=>by
  unfold Vc fb PB;simp[v,P,Z,X,s1,E,J,Zf hk,cs,K,O,λw=>rfl,C]
 have z:∃TJ:Option D,∀y,Sd [zN ns,u4 h.enc,u4 (PB h.n lv co),s3,zI u,zI h.n,zI B,zR (lN G),zR (lN G+1),zI k,zI (OD h f k),zI (lv k),x12,s14,s15,s16,s17] y=Vc [zN ns,u4 h.enc,u4 (PB h.n lv co),s3,zI u,zI h.n,zI B,zR (lN G),zR (lN G+1),zI k,zI (OD h f k),zI (SH h f u lv k),TJ,s14,s15,s16,s17] y:=by
  generalize u4 (PB h.n lv co)=S2;cases t:(h.pl k).kd with
  |NA b r q=>
   have hbl:=hb k b r q hk t;have H:SH h f u lv k=lv k+XG (OD h f k/2) u%(b-lv k+1)*(OD h f k%2):=by unfold SH;rw[t]
   have S:∀G,Bj (h.VC (h.pl k)) (.int 4) G=.ok (.int b) G:=λG=>by unfold Hs.VC;rw[t];simp
   have r0:0<b-lv k+1:=by lia
   have m2:∀x G,Bo (.int x) (.int (OD h f k%2)) G=.ok (.int (x*(OD h f k%2))) G:=λx G=>Gq (by lia) (by lia)
   have U:∀x G,Ja (.int x) (.int (b-lv k+1)) G=.ok (.int (x%(b-lv k+1))) G:=λx G=>by simp[r0]
   refine⟨zI (b-lv k+1),λy=>?_⟩;rw[H];unfold Sd;simp[Cr,N,Hi,t,Kd.SD,S,Jz Y,U,m2]
  |_=>
   have H:SH h f u lv k=lv k:=by unfold SH;rw[t]
   refine⟨x12,λy=>?_⟩;rw[H];unfold Sd;simp[Cr,N,Hi,t,Kd.SD]
 obtain⟨TJ,hm⟩:=z;refine⟨TJ,?_⟩;have I:=(hm _).trans (A TJ);have st:PB h.n lv co=.tup [.tup (tab h.n lv),.tup (Am h.n co)]:=rfl;rw[st]at I⊢;generalize(G++[.lst (tab k (SH h f u lv)),.lst (Am k (ZH h f u co))])=y at I⊢;unfold R1 fc;simp[L,Du hk,I]
theorem lQ(o:Cf ns f)(s:0<u)(g:SA h){co:Nat->Nat->Int}(p:∀k b r q,k<h.n->(h.pl k).kd=.NA b r q->lv k<=b){s3 s14 s15 s16 s17:Option D}(G:DH):∀(m k:Nat)(d x10 x11 x12:Option D),k+m=h.n->∃j c a TJ,
  An (gV 9) R1 (Bb k m) [zN ns,u4 h.enc,u4 (PB h.n lv co),s3,zI u,zI h.n,zI ((6+24*h.n:Nat):Int),zR (lN G),zR (lN G+1),d,x10,x11,x12,s14,s15,s16,s17] (G++[.lst (tab k (SH h f u lv)),.lst (Am k (ZH h f u co))])=
   .nx [zN ns,u4 h.enc,u4 (PB h.n lv co),s3,zI u,zI h.n,zI ((6+24*h.n:Nat):Int),zR (lN G),zR (lN G+1),j,c,a,TJ,s14,s15,s16,s17] (G++[.lst (tab h.n (SH h f u lv)),.lst (Am h.n (ZH h f u co))])
 |0,k,d,x10,x11,x12,e=>by
  have t:k=h.n:=by lia
  subst t;exact⟨d,x10,x11,x12,by rw[Gs,Cj]⟩
 |m+1,k,d,x10,x11,x12,e=>by obtain⟨i,l⟩:=JB o s g p (k:=k) (by lia) (s3:=s3) (x10:=x10) (x11:=x11) (x12:=x12) (s14:=s14) (s15:=s15) (s16:=s16) (s17:=s17) (co:=co) G;obtain⟨j,c,a,TJ,v⟩:=lQ o s g p G m (k+1) (zI k) (zI (OD h f k)) (zI (SH h f u lv k)) i (by lia);refine⟨j,c,a,TJ,?_⟩;rw[Fq,Bs];simp only[By,R.Bp,qY,l,Cd];exact v
def JC(W:Cf ns f)(X:0<u)(g:SA h)(hi:i<t)(ht:t<=6){s9 s10 s11 s12 s14 x16 x17:Option D}{B:DO}{acc:List D}(ha:lN acc<=100)(G:DH):∃J L,
  Pz [zN ns,u4 h.enc,s2,zF (Aa h.n ((zQ t).map fl)),zI u,zI h.n,zI ((6+24*h.n:Nat):Int),s7,s8,s9,s10,s11,s12,zR (lN G+2),zI i,x16,x17] (G++[A,B,.lst acc])=
   .nx [zN ns,u4 h.enc,s2,zF (Aa h.n ((zQ t).map fl)),zI u,zI h.n,zI ((6+24*h.n:Nat):Int),s7,s8,s9,s10,s11,s12,zR (lN G+2),zI i,J,L] (G++[A,B,.lst (acc++[.tup (tab h.n (MM h f u fl i))])]):=by
 have hn:=g.len;have U:i*h.n<=6*12:=j1 (by lia) hn;have mi:∀G,Bo (.int (i:Int)) (.int (h.n:Int)) G=.ok (.int ((i:Int)*h.n)) G:=λG=>Eu (by lia) (by lia)
 have M:∀G,Bv (gV 0) Aw Xr [u5,zN ns,zI h.n,zI ((6+24*h.n:Nat):Int),zI i] (Bb 0 h.n) G=.ok (tab h.n λk=>f (6+24*h.n+h.n+i*h.n+k)) G:=λG=>
  Ko λk hk=>by
   have N:=W (6+24*h.n+h.n+i*h.n+k) (by lia) G;have e1:((6+24*h.n+h.n+i*h.n+k:Nat):Int)=((6+24*h.n:Nat):Int)+(h.n:Int)+(i:Int)*h.n+k:=by rw[j6,j6,j6,Int.natCast_mul]
   rw[e1]at N;generalize((6+24*h.n:Nat):Int)=B at N;unfold Xr;simp[mi,N]
 have K:∀G,Bv (gV 0) Aw am [u5,zI u] (tab h.n λk=>f (6+24*h.n+h.n+i*h.n+k)) G=.ok (tab h.n λk=>XG (f (6+24*h.n+h.n+i*h.n+k)/2) u*(f (6+24*h.n+h.n+i*h.n+k)%2)) G:=λG=>
  K6 (E:=λk=>.int (f (6+24*h.n+h.n+i*h.n+k))) (F:=λk=>.int (XG (f (6+24*h.n+h.n+i*h.n+k)/2) u*(f (6+24*h.n+h.n+i*h.n+k)%2))) λk _=>by
   generalize f (6+24*h.n+h.n+i*h.n+k)=c;have m2:∀x G,Bo (.int x) (.int (c%2)) G=.ok (.int (x*(c%2))) G:=λx G=>Gq (by lia) (by lia)
   unfold am;simp[Jz X,m2]
 have Z:YC (Aa h.n ((zQ t).map fl)) (i:Int)=zT (tab h.n (fl i)):=Df rfl (by simp[Aa,hi]);have I:∀G,Bv (gV 0) Aw ao [u5,zF (Aa h.n ((zQ t).map fl)),zI i,zF (tab h.n λk=>XG (f (6+24*h.n+h.n+i*h.n+k)/2) u*(f (6+24*h.n+h.n+i*h.n+k)%2))] (Bb 0 h.n) G=.ok (tab h.n (MM h f u fl i)) G:=λG=>
  Ko λk hk=>by unfold ao;simp[Z,Du hk,Du hk,MM]
 have hr:inR (h.n:Int):=Ef (by lia) (by lia);have O:∀a b c d e r g h i j y l m n o p q:Option D,Av 1 [0,5,6,14] [a,b,c,d,e,r,g,h,i,j,y,l,m,n,o,p,q]=[u5,a,r,g,o]:=λ_ _ _ _ _ _ _ _ _ _ _ _ _ _ _ _ _=>rfl
 have P:∀a b c d e r g h i j y l m n o p q:Option D,Av 1 [4] [a,b,c,d,e,r,g,h,i,j,y,l,m,n,o,p,q]=[u5,e]:=λ_ _ _ _ _ _ _ _ _ _ _ _ _ _ _ _ _=>rfl
 have z:∀a b c d e r g h i j y l m n o p q:Option D,Av 1 [3,14,16] [a,b,c,d,e,r,g,h,i,j,y,l,m,n,o,p,q]=[u5,d,o,q]:=λ_ _ _ _ _ _ _ _ _ _ _ _ _ _ _ _ _=>rfl
 have v:=bY (G:=G) (A:=A) (B:=B) (C:=.lst acc) (ds:=tab h.n λk=>f (6+24*h.n+h.n+i*h.n+k)) λ_=>Gy
 have s:=bY (G:=G) (A:=A) (B:=B) (C:=.lst acc) (ds:=tab h.n λk=>XG (f (6+24*h.n+h.n+i*h.n+k)/2) u*(f (6+24*h.n+h.n+i*h.n+k)%2)) λ_=>Gy
 have w:=bY (G:=G) (A:=A) (B:=B) (C:=.lst acc) (ds:=tab h.n (MM h f u fl i)) λ_=>Gy
 have Y:(G++[A,B,.lst acc])[lN G+2]?=u4 (.lst acc):=by simp
 have s2:∀c:DO,(G++[A,B,.lst acc]).set (lN G+2) c=G++[A,B,c]:=λc=>by simp
 have H:lN acc<1000000:=by lia
 refine⟨zF (tab h.n λk=>f (6+24*h.n+h.n+i*h.n+k)),zF (tab h.n λk=>XG (f (6+24*h.n+h.n+i*h.n+k)/2) u*(f (6+24*h.n+h.n+i*h.n+k)%2)),?_⟩;generalize((6+24*h.n:Nat):Int)=BB at M;have S:lN (tab h.n λk=>XG (f (6+24*h.n+h.n+i*h.n+k)/2) u*(f (6+24*h.n+h.n+i*h.n+k)%2))<=1000000:=by simp;lia
 have T:lN (tab h.n λk=>f (6+24*h.n+h.n+i*h.n+k))<=1000000:=by simp;lia
 have Q:lN (tab h.n (MM h f u fl i))<=1000000:=by simp;lia
 generalize(tab h.n λk=>XG (f (6+24*h.n+h.n+i*h.n+k)/2) u*(f (6+24*h.n+h.n+i*h.n+k)%2))=T4 at K I s S;generalize(tab h.n λk=>f (6+24*h.n+h.n+i*h.n+k))=T3 at M K v T;generalize tab h.n (MM h f u fl i)=T5 at I w Q;unfold Pz fg ff;simp[T,S,Q,hr,O,P,z,M,K,I,v,s,w,Y,s2,H]
theorem lR(o:Cf ns f)(q:0<u)(g:SA h)(l:t<=6){s2 s7 s8 s9 s10 s11 s12:Option D}{A B:DO}(G:DH):∀(m i:Nat)(a x16 x17:Option D),i+m=t->∃y15 c b,
  An (gV 14) Pz (Bb i m) [zN ns,u4 h.enc,s2,zF (Aa h.n ((zQ t).map fl)),zI u,zI h.n,zI ((6+24*h.n:Nat):Int),s7,s8,s9,s10,s11,s12,zR (lN G+2),a,x16,x17] (G++[A,B,.lst (Aa h.n ((zQ i).map (MM h f u fl)))])=
   .nx [zN ns,u4 h.enc,s2,zF (Aa h.n ((zQ t).map fl)),zI u,zI h.n,zI ((6+24*h.n:Nat):Int),s7,s8,s9,s10,s11,s12,zR (lN G+2),y15,c,b] (G++[A,B,.lst (Aa h.n ((zQ t).map (MM h f u fl)))])
 |0,i,a,x16,x17,e=>by
  have r:i=t:=by lia
  subst r;exact⟨a,x16,x17,by rw[Gs,Cj]⟩
 |m+1,i,a,x16,x17,e=>by
  obtain⟨j,d,p⟩:=JC o q g (i:=i) (by lia) l (s2:=s2) (s7:=s7) (s8:=s8) (s9:=s9) (s10:=s10) (s11:=s11) (s12:=s12) (s14:=u5) (x16:=x16) (x17:=x17) (A:=A) (B:=B) (acc:=Aa h.n ((zQ i).map (MM h f u fl))) (by simp[Aa];lia) G;obtain⟨y15,c,b,s⟩:=lR o q g l G m (i+1) (zI i) j d (by lia);refine⟨y15,c,b,?_⟩;have v:Aa h.n ((zQ i).map (MM h f u fl))++[.tup (tab h.n (MM h f u fl i))]=Aa h.n ((zQ (i+1)).map (MM h f u fl)):=by simp[Aa,qU]
  rw[v]at p;rw[Fq,Bs];simp only[By,R.Bp,qY,p,Cd];exact s
def JD{B:DO}(b:XA (lN G) ds=u6)(c:PC (lN G) e=u6):freeze G (.ok (.tup [e,.ref (lN G+2)]) (G++[A,B,.lst ds]))=.ok (.tup [e,.fl ds]) G:=by
 unfold freeze;have m:Cm (G++[A,B,.lst ds]) (lN G) 9 (.tup [e,.ref (lN G+2)])=zT [e,.fl ds]:=by
  unfold Cm;have a:Cm (G++[A,B,.lst ds]) (lN G) 8 (.ref (lN G+2))=zF ds:=by unfold Cm;simp[Od b]
  have d:Cm (G++[A,B,.lst ds]) (lN G) 8 e=u4 e:=by unfold Cm;simp[c]
  simp[Hd,a,d]
 simp[m]
def JE(y:Cf ns f)(z:0<u)(cu:Cu ns u)(g:SA h)(P:∀k b r q,k<h.n->(h.pl k).kd=.NA b r q->lv k<=b)(T:t<=6)(G:DH):
  freeze G (Pu [nD ns,h.enc,PB h.n lv co,.fl (Aa h.n ((zQ t).map fl))] G)=.ok (.tup [PB h.n (SH h f u lv) (ZH h f u co),.fl (Aa h.n ((zQ t).map (MM h f u fl)))]) G:=by
 have hn:=g.len;obtain⟨I,v,l,p,U⟩:=lQ y z g P G h.n 0 u5 u5 u5 u5 (by lia);obtain⟨Q,J,N,F⟩:=lR y z g T G t 0 u5 u5 u5 (by lia);have i:An (gV 9) R1 (Bb 0 h.n) [zN ns,u4 h.enc,u4 (PB h.n lv co),zF (Aa h.n ((zQ t).map fl)),zI u,zI h.n,zI ((6+24*h.n:Nat):Int),zR (lN G),zR (lN G+1),u5,u5,u5,u5,u5,u5,u5,u5] (G++[.lst [],.lst []])=_:=U;have d:An (gV 14) Pz (Bb 0 t) [zN ns,u4 h.enc,u4 (PB h.n lv co),zF (Aa h.n ((zQ t).map fl)),zI u,zI h.n,zI ((6+24*h.n:Nat):Int),zR (lN G),zR (lN G+1),I,v,l,p,zR (lN G+2),u5,u5,u5] (G++[.lst (tab h.n (SH h f u lv)),.lst (Am h.n (ZH h f u co)),.lst []])=_:=F
 have m:∀G,Bo (.int 24) (.int (h.n:Int)) G=.ok (.int (24*(h.n:Int))) G:=λG=>Eu (by lia) (by lia)
 have x:(6+24*(h.n:Int))=((6+24*h.n:Nat):Int):=by lia
 have E:freeze G (.ok (.int u) G)=.ok (.int u) G:=Hr rfl;have O:inR (h.n:Int):=Ef (by lia) (by lia);have o:inR (t:Int):=Ef (by lia) (by lia);have M:tidy (G++[.lst []]) (.ok (.ref (lN G+1)) (G++[.lst [],.lst []]))=.ok (.ref (lN G+1)) (G++[.lst [],.lst []]):=Ur rfl;have K:∀A B:DO,tidy (G++[A,B]) (.ok (.ref (lN G+2)) (G++[A,B,.lst []]))=.ok (.ref (lN G+2)) (G++[A,B,.lst []]):=λA B=>by have:=Cq (G:=G++[A,B]) (ds:=[]) (L:=[]) rfl;simpa using this
 have j:lN (Aa h.n ((zQ t).map fl))=t:=by simp[Aa]
 have w:∀b c:DO,(G++[.lst (tab h.n (SH h f u lv)),b,c])[lN G]?=u4 (.lst (tab h.n (SH h f u lv))):=λb c=>by simp
 have C:∀a c:DO,(G++[a,.lst (Am h.n (ZH h f u co)),c])[lN G+1]?=u4 (.lst (Am h.n (ZH h f u co))):=λa c=>by simp
 have H:∀(e:D)(s:DH),tidy G (.ok (.tup [e,.ref (lN G+2)]) s)=.ok (.tup [e,.ref (lN G+2)]) s:=λe s=>Wb (by simp)
 have S:Pu [nD ns,h.enc,PB h.n lv co,.fl (Aa h.n ((zQ t).map fl))] G=.ok (.tup [PB h.n (SH h f u lv) (ZH h f u co),.ref (lN G+2)]) (G++[.lst (tab h.n (SH h f u lv)),.lst (Am h.n (ZH h f u co)),.lst (Aa h.n ((zQ t).map (MM h f u fl)))]):=by
  generalize((6+24*h.n:Nat):Int)=Y at i d x;generalize Aa h.n ((zQ t).map (MM h f u fl))=F2 at d;generalize Aa h.n ((zQ t).map fl)=Z at i d j;generalize PB h.n lv co=E0 at i d;unfold PB;generalize tab h.n (SH h f u lv)=W at i d w;generalize Am h.n (ZH h f u co)=X at i d C;unfold Pu fh;rw[Af];simp[cu,E,Cr,Hs.Hh,m,x,Ae,Cq,M,O,i,K,j,o,d,w,C,Ag,H]
 rw[S,JD (G:=G) (A:=.lst (tab h.n (SH h f u lv))) (B:=.lst (Am h.n (ZH h f u co))) (ds:=Aa h.n ((zQ t).map (MM h f u fl))) (e:=PB h.n (SH h f u lv) (ZH h f u co)) Qv Wq]
end
def lU{n:Nat}{E1 E2 F:Nat->D}{d:D}(o:Bd d G=u4 ((zQ n).map E1))(r:Bd e G=u4 ((zQ n).map E2))(h:∀k,k<n->te [u4 (E1 k),u4 (E2 k)] G=.ok (F k) G):
  Cz (Ey [d,e]) (Ai 2 (Ab (gV 0) (Ab (gV 1) Ao))) Aw te (Av 2 [] S) n 0 G=.ok ((zQ n).map F) G:=by
 have c:∀j,Ey [d,e] j G=u4 ((zQ n).map λi=>D.tup [E1 i,E2 i])[j]? :=λj=>by
  rw[af o r,Kg,List.zip_map',qP]
  rfl
 have p:Av 2 [] S=[u5,u5]:=rfl;rw[p];have b:∀m j,j+m=n->Cz (Ey [d,e]) (Ai 2 (Ab (gV 0) (Ab (gV 1) Ao))) Aw te [u5,u5] m j G=.ok ((List.range' j m).map F) G:=by
  intro m
  induction m with
  |zero=>
   intro j q;unfold Cz;rw[c,z0 (by simp;lia)]
   rfl
  |succ m l=>
   intro j q;have a:j<n:=by lia
   unfold Cz;rw[c,zw,zM a];have g:(Ai 2 (Ab (gV 0) (Ab (gV 1) Ao))) (.tup [E1 j,E2 j]) [u5,u5] G=.ok [u4 (E1 j),u4 (E2 j)] G:=by simp
   simp[xk,g,R.Hu,dS,if_true,h j a,l (j+1) (by lia)];rw[List.range'_succ,zy]
 have:=b n 0 (by lia);rw[this,List.range_eq_range']
noncomputable def UR(n:Nat)(a b:Nat->Int):Bool:=(zQ n).all λk=>decide (a k<=b k)
def Lf(w m:Nat)(A:Nat->Nat->Int):List D:=(zQ m).map λi=>D.tup (tab w (A i))
@[simp]theorem JF{A:Nat->Nat->Int}:lN (Lf w m A)=m:=by simp[Lf]
def PV(w m:Nat)(A B:Nat->Nat->Int):Bool:=(zQ m).all λi=>UR w (A i) (B i)
def lV{n:Nat}{p:Nat->Bool}:((zQ n).map λk=>D.bl (p k))=((zQ n).map p).map D.bl:=by rw[qP];rfl
def U3{ks:List Bool}:XA m (ks.map D.bl)=u6:=Dy λ_ _=>rfl
def lW{n:Nat}{a b:Nat->Int}(i:n<=1000)(G:DH):Qi [.tup (tab n a),.tup (tab n b)] G=.ok (.bl (UR n a b)) G:=by
 have d:=Rw (G:=G) (K3 (xs:=tab n a)) (K3 (xs:=tab n b));rw[FY]at d;have c:=lU (te:=Z3) (S:=[zT (tab n a),zT (tab n b)]) (F:=λk=>.bl (decide (a k<=b k))) (G:=G) (K3 (xs:=tab n a)) (K3 (xs:=tab n b)) λk _=>by unfold Z3;simp
 rw[lV]at c;have e:((zQ n).map λk=>decide (a k<=b k)).all id=UR n a b:=by rw[List.all_map];rfl
 have g:lN ((zQ n).map λk=>decide (a k<=b k))<=1000000:=by simp;lia
 generalize((zQ n).map λk=>decide (a k<=b k))=j at c e g;unfold Qi gB;rw[Af];simp[d,c,g,Dh U3,e,Az]
def lY{m':Nat}{A B:Nat->Nat->Int}(hw:w<=1000)(q:m<=1000){d:D}(n:Bd d G=u4 (Lf w m A))(j:Bd e G=u4 (Lf w m' B))(i:Be [d] G=.ok (.int m) G)(a:Be [e] G=.ok (.int m') G):
  M5 [d,e] G=.ok (.bl (decide (m=m')&&PV w m A B)) G:=by
 by_cases h:m=m'
 .subst h;have c:=Rw n j;rw[JF]at c;have b:=lU (te:=aq) (S:=[u4 d,u4 e]) (F:=λk=>.bl (UR w (A k) (B k))) n j λk _=>by unfold aq;simp[lW hw]
  rw[lV]at b;have g:((zQ m).map λk=>UR w (A k) (B k)).all id=PV w m A B:=by rw[List.all_map];rfl
  have l:lN ((zQ m).map λk=>UR w (A k) (B k))<=1000000:=by simp;lia
  generalize((zQ m).map λk=>UR w (A k) (B k))=p at b g l;unfold M5 Xc;rw[Af];simp[i,a,c,b,l,Dh U3,g,Az]
 have o:¬(m:Int)=(m':Int):=by lia
 unfold M5 Xc;rw[Af];simp[i,a,h,o,Az]
def JG{n:Nat}(c:n<=1000)(G:DH):Wm [PB n lv co,PB n lv' co'] G=.ok (.bl (UR n lv lv'&&PV 5 n co co')) G:=by
 have g:=lY (by lia) c (d:=.tup (Am n co)) (e:=.tup (Am n co')) (G:=G) rfl rfl (by simp) (by simp);simp at g;unfold PB Wm gC;rw[Af]
 cases e:UR n lv lv'<;>simp[lW c (a:=lv) (b:=lv') G,g,e,Az]
def lZ{n:Nat}:Aa n fls=Lf n (lN fls) λi=>fls.getD i λ_=>0:=by
 refine qG (by simp[Aa,Lf]) λi a b=>?_
 simp[Aa,Lf,zk,by simpa[Aa]using a]
def JH{n:Nat}(a:n<=1000)(b:lN fls<=1000)(G:DH):M5 [.fl (Aa n fls),.fl (Aa n fls')] G=.ok (.bl (decide (lN fls=lN fls')&&PV n (lN fls) (λi=>fls.getD i λ_=>0) λi=>fls'.getD i λ_=>0)) G:=
 lY a b (by rw[lZ];rfl) (by rw[lZ];rfl) (by simp[Aa]) (by simp[Aa])
def JI{n k:Nat}{g:Nat->List Int}(hk:k<n){b d e f:Int}(h:g k=[a,b,c,d,e,f]):YC (Ce n g) (k:Int)=zT [.int a,.int b,.int c,.int d,.int e,.int f]:=Df rfl (by unfold Ce;rw[zw,zM hk];simp[Je,h])
noncomputable def wt:Nat->Str
 |1=>"took"
 |2=>"spilled"
 |3=>"let"
 |4=>"pumped"
 |_=>"lies"
def NI(b:Bool):Str:=if b=u6 then "least" else "most"
def YF(b:Bool)(x m:Int):Bool:=if b=u6 then decide (x<m)else decide (m<x)
def Sg:(NI b="least")=(b=u6):=by cases b<;>simp[NI]<;>decide
def l4:(NI b="most")=(b=u7):=by cases b<;>simp[NI]<;>decide
def Bg(c p:Nat)(b:Bool)(m:Int):D:=.tup [.str (wt c),.int p,.str (NI b),.int m]
@[simp]theorem l6{c:Nat}{m:Int}{k:Nat}:PC k (Bg c p b m)=u6:=rfl
def JK{m:Int}(G:DH):U6 [.int x,.str (NI b),.int m] G=.ok (.bl (YF b x m)) G:=by
 unfold U6 fq;rw[Af]
 cases b<;>simp[Sg,YF,Az]
def ZX{P:Nat->Prop}{c:Nat}(g:1<=c)(h:c<=5)(a:P 1)(b:P 2)(d:P 3)(e:P 4)(f:P 5):P c:=by rcases(by lia:c=1\/c=2\/c=3\/c=4\/c=5)with rfl|rfl|rfl|rfl|rfl<;>assumption
noncomputable def prt:List (Str×D):=[("lies",.int 5),("spilled",.int 2),("let",.int 3),("pumped",.int 4),("took",.int 1)]
def JL{c:Nat}(b:1<=c)(d:c<=5):Fv (Gg [] (prt.map λa=>(.inr a.1,a.2))) (.inr (wt c))=zI c:=ZX (P:=λc=>Fv (Gg [] (prt.map λa=>(.inr a.1,a.2))) (.inr (wt c))=zI c) b d rfl rfl rfl rfl rfl
def l7{kvs:List (Str×D)}{x:Str}{v:D}(h:Fv (Gg [] (kvs.map λa=>(.inr a.1,a.2))) (.inr x)=u4 v)(b:PC (lN G) v=u6):tidy G ((QC (UB J6 (O7 kvs) (dV 0)) [zS x] G).ret)=.ok v G:=by
 have e:J6 (.ref (lN G)) (.str x) (G++[.WK (Gg [] (kvs.map λa=>(.inr a.1,a.2)))])=.ok v (G++[.WK (Gg [] (kvs.map λa=>(.inr a.1,a.2)))]):=by rw[yE (kvs:=Gg [] (kvs.map λa=>(.inr a.1,a.2))) (by simp) rfl,h]
 simp[e,K7,b]
def JM{c:Nat}(a:1<=c)(b:c<=5)(G:DH):Wf [.str (wt c)] G=.ok (.int c) G:=by unfold Wf ft;rw[Af];exact l7 (JL a b) rfl
def Ej(b:Bool)(m:Int):List Int->Nat->Option (Nat×Int)
 |[],_=>u5
 |x::r,k=>if YF b x m=u6 then u4 (k,x)else Ej b m r (k+1)
def Ci(b:Bool)(r:List Int)(x:Int):Int:=if b=u6 then r.foldl min x else r.foldl max x
def H8(b:Bool)(m:Int)(xs:List Int):D:=match Ej b m xs 0 with
 |some (i,x)=>.tup [.str "broken",.int i,.int x]
 |none=>match xs with
  |[]=>.tup [.str "kept",.WA,.WA]
  |x::r=>.tup [.str "kept",.int ((x::r).idxOf (Ci b r x):Nat),.int (Ci b r x)]
theorem Xa{f:Int->Int->Int}(c:∀a b,f a b=a\/f a b=b):∀(r:List Int)(x:Int),r.foldl f x∈x::r
 |[],x=>by simp
 | y::r,x=>by
  have:=Xa c r (f x y);rw[j5];rcases zK.mp this with h|h
  .rcases c x y with e|e
   .rw[h,e];simp
   rw[h,e];simp
  simp[h]
def bZ:Ci b r x∈x::r:=by
 unfold Ci;cases b
 .exact Xa (λa b=>by lia) r x
 exact Xa (λa b=>by lia) r x
theorem l8{b:Bool}{m:Int}{s0 s1 s2 s3 s6 s7 s10:Option D}{G:DH}:∀(xs:List Int)(k:Nat)(x8 a:Option D),∃c d,
  An (Ai 2 (Ab (gV 8) (Ab (gV 9) Ao))) Jt (MV k (xs.map D.int)) [s0,s1,s2,s3,zS (NI b),zI m,s6,s7,x8,a,s10] G=
   match Ej b m xs k with
   |some (i,x)=>.rt (.tup [.str "broken",.int i,.int x]) G
   |none=>.nx [s0,s1,s2,s3,zS (NI b),zI m,s6,s7,c,d,s10] G
 |[],k,x8,a=>⟨x8,a,by show An _ _ [] _ _=_;rw[Cj];rfl⟩
 | x::r,k,x8,a=>by
  obtain⟨c,d,g⟩:=l8 (b:=b) (m:=m) (s0:=s0) (s1:=s1) (s2:=s2) (s3:=s3) (s6:=s6) (s7:=s7) (s10:=s10) (G:=G) r (k+1) (zI k) (zI x);refine⟨c,d,?_⟩;have f:((k:Int)+1)=((k+1:Nat):Int):=by lia
  show An _ _ (.tup [.int k,.int x]::MV ((k:Int)+1) (r.map D.int)) _ _=_;rw[Bs,f];have h:Jt [s0,s1,s2,s3,zS (NI b),zI m,s6,s7,zI k,zI x,s10] G=if YF b x m=u6 then .rt (.tup [.str "broken",.int k,.int x]) G else .nx [s0,s1,s2,s3,zS (NI b),zI m,s6,s7,zI k,zI x,s10] G:=by
   unfold Jt
   cases e:YF b x m<;>simp[JK,e,Ag]
  simp only[Mp,Mg,Oc,By,R.Hu,R.Bp,qY,h,zH,qT,Nat.reduceAdd,if_true];unfold Ej;cases e:YF b x m with
  |true=>simp
  |false=>simp only[j2,if_false,Cd,g]
def Cp(SE:List (Nat->List Int))(p c:Nat):List Int:=SE.map λpg=>(pg p).getD c 0
abbrev WQ(h:Hs)(pg:Nat->List Int):Prop:=∀k,k<h.n->lN (pg k)=6
theorem XQ(g:SA h):∀(fls:List (Nat->Int))(s:YK)(a:Int),∀b∈h.Bk fls s a,WQ h b
 |[],s,a,b,hp=>nomatch hp
 |fl::r,s,a,b,hp=>by
  rcases zK.mp hp with rfl|hp
  .exact Wt g h.n 0 _ (by lia) λi d c=>by
    unfold Hs.done at c
    split at c<;>lia
  exact XQ g r _ _ b hp
def Rp{i:Nat->List Int}(m:WQ h i){c:Nat}(hp:p<h.n)(k:1<=c)(l:c<=5)(G:DH):∃t,YC (Ce h.n i) (p:Int)=zT t/\YC t (c:Int)=zI ((i p).getD c 0):=by obtain⟨a,b,d,e,f,g,j⟩:=P6 (m p hp);refine⟨_,JI hp j,?_⟩;rw[j];exact ZX (P:=λc=>YC [D.int a,.int b,.int d,.int e,.int f,.int g] (c:Int)=zI ([a,b,d,e,f,g].getD c 0)) k l rfl rfl rfl rfl rfl
def b0{m:Int}{xs:List Int}{k:Nat}:PC k (H8 b m xs)=u6:=by
 unfold H8;split
 .rfl
 split <;> rfl
def JN{SE:List (Nat->List Int)}(hl:lN SE<=100000)(U:∀l∈SE,WQ h l){c:Nat}(hp:p<h.n)(J:1<=c)(A:c<=5){m:Int}(G:DH):
  Ux [.fl (SE.map (OF h.n)),Bg c p b m] G=.ok (H8 b m (Cp SE p c)) G:=by
 have s:Bv (gV 0) Aw Ul [u5,zI p,zI c] (SE.map (OF h.n)) G=.ok ((Cp SE p c).map D.int) G:=by
  have:=K6 (te:=Ul) (S:=[u5,zI p,zI c]) (E:=OF h.n) (F:=λl=>.int ((l p).getD c 0)) (G:=G) λl v=>by obtain⟨t,W,M⟩:=Rp (U l v) hp J A G;unfold Ul OF;simp[W,M]
  rw[this,Cp,qP]
  rfl
 have Y:lN (Cp SE p c)=lN SE:=by simp[Cp]
 generalize Cp SE p c=d at s Y;have P:lN d<=1000000:=by lia
 obtain⟨z,w,Q⟩:=l8 d 0 u5 u5
 have f:Di (Dm 0 (.fl (d.map D.int))) (Ai 2 (Ab (gV 8) (Ab (gV 9) Ao))) Jt (lN d) 0 [zF (SE.map (OF h.n)),u4 (Bg c p b m),zS (wt c),zI p,zS (NI b),zI m,zI c,zF (d.map D.int),u5,u5,u5] G=(match Ej b m d 0 with
   |some (i,x)=>.rt (.tup [.str "broken",.int i,.int x]) G
   |none=>.nx [zF (SE.map (OF h.n)),u4 (Bg c p b m),zS (wt c),zI p,zS (NI b),zI m,zI c,zF (d.map D.int),z,w,u5] G):=by
  have:=kO (g:=Ai 2 (Ab (gV 8) (Ab (gV 9) Ao))) (b:=Jt) (xs:=d.map D.int) (a:=0) (S:=[zF (SE.map (OF h.n)),u4 (Bg c p b m),zS (wt c),zI p,zS (NI b),zI m,zI c,zF (d.map D.int),u5,u5,u5]) (G:=G);rw[zO]at this;rw[this];exact Q
 have K:freeze G (.ok (.ref (lN G)) (G++[.lst (d.map D.int)]))=.ok (.fl (d.map D.int)) G:=Dh (Dy λ_ _=>rfl);have T:Bg c p b m=.tup [.str (wt c),.int p,.str (NI b),.int m]:=rfl;have j:lN (SE.map (OF h.n))<=1000000:=by simp;exact(by lia)
 have o:lN (d.map D.int)=lN d:=by simp
 have y:Rm [zF (SE.map (OF h.n)),u4 (Bg c p b m),u5,u5,u5,u5,u5,u5,u5,u5,u5] G=Qu [zF (SE.map (OF h.n)),u4 (Bg c p b m),zS (wt c),zI p,zS (NI b),zI m,zI c,zF (d.map D.int),u5,u5,u5] G:=by
  generalize SE.map (OF h.n)=PG at s j;have k:lN (d.map D.int)<=1000000:=by simp;lia
  generalize d.map D.int=X at s K k;unfold Rm fy fx;simp[T,JM J A,Av,s,K,j,k]
 have lp:Qu [zF (SE.map (OF h.n)),u4 (Bg c p b m),zS (wt c),zI p,zS (NI b),zI m,zI c,zF (d.map D.int),u5,u5,u5] G=(match Ej b m d 0 with
   |some (i,x)=>.rt (.tup [.str "broken",.int i,.int x]) G
   |none=>S9 [zF (SE.map (OF h.n)),u4 (Bg c p b m),zS (wt c),zI p,zS (NI b),zI m,zI c,zF (d.map D.int),z,w,u5] G):=by
  unfold Qu;generalize SE.map (OF h.n)=PG at f;generalize Bg c p b m=u at f;generalize d.map D.int=X at f o;simp only[<-o]at f;rw[Q9];have e:(Bu (Bf Ez (Aq (dV 7) Bm)) (Ai 2 (Ab (gV 8) (Ab (gV 9) Ao))) Jt) [zF PG,u4 u,zS (wt c),zI p,zS (NI b),zI m,zI c,zF X,u5,u5,u5] G=_:=(by simp:_=Di (Dm 0 (.fl X)) (Ai 2 (Ab (gV 8) (Ab (gV 9) Ao))) Jt (lN X) 0 [zF PG,u4 u,zS (wt c),zI p,zS (NI b),zI m,zI c,zF X,u5,u5,u5] G).trans f
  rw[e];cases Ej b m d 0 with
  |_=>rfl
 have go:Qu [zF (SE.map (OF h.n)),u4 (Bg c p b m),zS (wt c),zI p,zS (NI b),zI m,zI c,zF (d.map D.int),u5,u5,u5] G=.rt (H8 b m d) G:=by
  rw[lp];unfold H8;cases hF:Ej b m d 0 with
  |some q=>rfl
  | none=>
   generalize SE.map (OF h.n)=PG;generalize Bg c p b m=u;cases d with
   |nil=>
    unfold S9;simp[Ag]
   | cons x r=>
    have H:∀G,Ii (.fl ((x::r).map D.int)) [.int (Ci b r x)] G=.ok (.int ((x::r).idxOf (Ci b r x):Nat)) G:=λG=>eW rfl bZ P
    have N:∀G,Ht [.fl ((x::r).map D.int)] G=.ok (.int (r.foldl min x)) G:=λG=>eS rfl
    have Z:∀G,Hm [.fl ((x::r).map D.int)] G=.ok (.int (r.foldl max x)) G:=λG=>eT rfl
    have O:¬((x::r).map D.int)=[]:=by simp
    dsimp only;have bl:Ci b r x=if b=u6 then r.foldl min x else r.foldl max x:=rfl
    generalize(((x::r).idxOf (Ci b r x):Nat):Int)=I at H⊢;generalize(x::r).map D.int=X at*;have C:Y1 (Ax (UB Hb (dV 4) (dC (.str "least")))) (RA Ht (Aq (dV 7) Bm)) (RA Hm (Aq (dV 7) Bm)) [zF PG,u4 u,zS (wt c),zI p,zS (NI b),zI m,zI c,zF X,z,w,u5] G=.ok (.int (Ci b r x)) G:=by
     rw[bl]
     cases b<;>simp[Sg,N,Z]
    generalize Ci b r x=B at*;unfold S9 fw fv;generalize Y1 (Ax (UB Hb (dV 4) (dC (.str "least")))) (RA Ht (Aq (dV 7) Bm)) (RA Hm (Aq (dV 7) Bm))=L at C;simp[O,C,H,Ag]
 unfold Ux;rw[Af];show tidy G ((Rm [zF (SE.map (OF h.n)),u4 (Bg c p b m),u5,u5,u5,u5,u5,u5,u5,u5,u5] G).ret)=_;rw[y,go];exact Az b0
def JO(G:DH):Jb (.str (NI b)) (.tup [.str "least",.str "most"]) G=.ok (.bl u7) G:=by cases b<;>rfl
noncomputable def knd:List (Str×Str):=[("lies","basin"),("spilled","basin"),("let","basin"),("pumped","basin"),("took","town")]
def NT(c:Nat):Str:=if c=1 then "town" else "basin"
def JP{c:Nat}(a:1<=c)(b:c<=5):knd.lookup (wt c)=u4 (NT c):=ZX (P:=λc=>knd.lookup (wt c)=u4 (NT c)) a b rfl rfl rfl rfl rfl
def l9{c:Nat}(hp:p<h.n)(d:1<=c)(f:c<=5)(hk:(h.pl p).kd.ZK=NT c){m:Int}(G:DH):Wi [h.enc,Bg c p b m] G=.ok .WA G:=by
 have e:=JP d f;have a:Ku knd (.str (wt c)) G=.ok (.str (NT c)) G:=B8 e;have g:Bg c p b m=.tup [.str (wt c),.int p,.str (NI b),.int m]:=rfl;have i:gA=(Ad (PD (dV 1) (Ai 4 (Ab (gV 2) (Ab (gV 3) (Ab (gV 4) (Ab (gV 5) Ao)))))) (Ad (WI (UN (Ax (UB Jb (dV 4) (dC (.tup [.str "least",.str "most"])))) (Ax (UO (Ng knd) (dV 2)))) Hk RL) (Ad (WI (Gb (Ax (Jr Jf K1 (dC (.int 0)) (dV 3) (RA Be (Aq (UB Bj (dV 0) (dC (.int 1))) Bm))))) Hk RL) (WI (Ax (UB Gm (UB Bj (UB Bj (UB Bj (dV 0) (dC (.int 1))) (dV 3)) (dC (.int 0))) (UO (Ku knd) (dV 2)))) Hk RL)))):=rfl
 unfold Wi;rw[Af,i];generalize knd=M at e a;simp[g,JO,e,a,Cr,Hs.Hh,hp,Hs.Dw hp,hk,Az]
def la{n:Nat}(a:n<=1000)(f:lN fls<=1000)(d:(UR n lv lv'&&PV 5 n co co')=u6)
  (e:(decide (lN fls=lN fls')&&PV n (lN fls) (λi=>fls.getD i λ_=>0) λi=>fls'.getD i λ_=>0)=u6) (G:DH):Wh [PB n lv co,PB n lv' co',.fl (Aa n fls),.fl (Aa n fls')] G=.ok .WA G:=by
 have b:=JG a (lv:=lv) (lv':=lv') (co:=co) (co':=co') G;have c:=JH a (fls':=fls') f G;rw[d]at b;rw[e]at c;unfold Wh gD;rw[Af];simp[b,c,Az]
def lb{n c:Nat}{m:Int}(G:DH):
  Su [PB n lv co,PB n lv' co',.fl (Aa n fls),.fl (Aa n fls'),Bg c p b m] G=.ok (.tup [PB n (if b=u6 then lv else lv') (if b=u6 then co else co'),.fl (Aa n (if b=u6 then fls else fls'))]) G:=by
 have a:Bg c p b m=.tup [.str (wt c),.int p,.str (NI b),.int m]:=rfl;unfold Su gF;rw[Af]
 cases b<;>simp[a,Sg,Ag,Az]
def Nq:Option (Nat×Nat×Bool×Int)->D
 |none=>.WA
 |some (c,p,b,m)=>Bg c p b m
theorem JQ(H:Cf ns f)(X:0<u)(cu:Cu ns u)(g:SA h)(h1:1<=h.n)(k:Nat):
  ∃o:Option (Nat×Nat×Bool×Int),(∀c p b m,o=u4 (c,p,b,m)->1<=c/\c<=5/\p<h.n/\(h.pl p).kd.ZK=NT c)/\
   ∀(x5 x6 x7 x8 a:Option D)(G:DH),∃Y Z y7 y8 y9,Mr [zN ns,u4 h.enc,zI h.n,zI ((6+20*h.n:Nat):Int),zI k,x5,x6,x7,x8,a] G=
    match o with
    |some _=>.rt (Nq o) G
    |none=>.nx [zN ns,u4 h.enc,zI h.n,zI ((6+20*h.n:Nat):Int),zI k,Y,Z,y7,y8,y9] G:=by
 have hn:=g.len;have I:∀G,Ay [nD ns,.int ((6+20*h.n:Nat):Int)] G=.ok (.int (f (6+20*h.n))) G:=H _ (by lia);have F:∀G,Ay [nD ns,.int (((6+20*h.n:Nat):Int)+1)] G=.ok (.int (f (6+20*h.n+1))) G:=λG=>by have:=H (6+20*h.n+1) (by lia) G;rwa[show((6+20*h.n+1:Nat):Int)=((6+20*h.n:Nat):Int)+1 by lia]at this
 have K:∀G,Ay [nD ns,.int (((6+20*h.n:Nat):Int)+2)] G=.ok (.int (f (6+20*h.n+2))) G:=λG=>by have:=H (6+20*h.n+2) (by lia) G;rwa[show((6+20*h.n+2:Nat):Int)=((6+20*h.n:Nat):Int)+2 by lia]at this
 generalize((6+20*h.n:Nat):Int)=B at I F K;generalize f (6+20*h.n)=A at I;generalize f (6+20*h.n+1)=t at F;generalize f (6+20*h.n+2)=d at K;have x:0<(h.n:Int):=by lia
 have y:0<h.n:=by lia
 have e0:=jz (A+k) (show(h.n:Int)≠0 by lia);have e1:=jJ (A+k) x;obtain⟨p,hp⟩:∃p:Nat,(A+k)%(h.n:Int)=p:=⟨((A+k)%(h.n:Int)).toNat,by lia⟩;have l:p<h.n:=by lia
 have W:∀G,Bj h.enc (.int 1) G=.ok (.tup h.Cg) G:=λG=>Cr
 have T:∀G,freeze G (.ok (.int u) G)=.ok (.int u) G:=λG=>Hr rfl
 have E:∀G:DH,freeze G (.ok (.ref (lN G)) (G++[.lst [.str "lies",.str "spilled",.str "let",.str "pumped"]]))=.ok (.fl [.str "lies",.str "spilled",.str "let",.str "pumped"]) G:=λG=>Dh rfl
 have M:∀G:DH,freeze G (.ok (.ref (lN G)) (G++[.lst [.str "least",.str "most"]]))=.ok (.fl [.str "least",.str "most"]) G:=λG=>Dh rfl
 obtain⟨c,hc1,WS,a4⟩:∃c:Nat,2<=c/\c<=5/\YC [D.str "lies",.str "spilled",.str "let",.str "pumped"] (t%4)=zS (wt c):=by
  rcases(by lia:t%4=0\/t%4=1\/t%4=2\/t%4=3)with z|z|z|z<;>rw[z]
  .exact⟨5,by lia,by lia,rfl⟩
  .exact⟨2,by lia,by lia,rfl⟩
  .exact⟨3,by lia,by lia,rfl⟩
  exact⟨4,by lia,by lia,rfl⟩
 obtain⟨b,S⟩:∃b:Bool,YC [D.str "least",.str "most"] (d%2)=zS (NI b):=by
  rcases(by lia:d%2=0\/d%2=1)with z|z<;>rw[z]
  .exact⟨u6,rfl⟩
  exact⟨u7,rfl⟩
 have j:∀(x5 x6 x7 x8 a:Option D)(G:DH),Mr [zN ns,u4 h.enc,zI h.n,zI B,zI k,x5,x6,x7,x8,a] G=Nk [zN ns,u4 h.enc,zI h.n,zI B,zI k,zI p,zS (h.pl p).kd.ZK,zS "took",x8,a] G:=λx5 x6 x7 x8 a G=>by generalize h.enc=N at*;unfold Mr fj fi;simp[I,x,y,hp,W,Hs.Dw l]
 have v:∀(w s:Str)(x8 a:Option D)(G:DH),¬s="mill"->Q5 [zN ns,u4 h.enc,zI h.n,zI B,zI k,zI p,zS s,zS w,x8,a] G=.rt (.tup [.str w,.int p,.str (NI b),.int (XG (d/4) u-d/2%2)]) G:=λw s x8 a G U=>by generalize h.enc=N at*;unfold Q5;simp[U,K,Ae,M,S,cu,T,Jz X,Ag]
 cases L:(h.pl p).kd with
 |NA C r q=>
  have i:(h.pl p).kd.ZK="basin":=by rw[L];rfl
  refine⟨u4 (c,p,b,XG (d/4) u-d/2%2),?_,λx5 x6 x7 x8 a G=>⟨x5,x6,x7,x8,a,?_⟩⟩
  .intro Q P C O e;cases e;exact⟨by lia,by lia,l,by rw[i];unfold NT;rw[if_neg (by lia)]⟩
  rw[j,i];have m3:Nk [zN ns,u4 h.enc,zI h.n,zI B,zI k,zI p,zS "basin",zS "took",x8,a] G=Q5 [zN ns,u4 h.enc,zI h.n,zI B,zI k,zI p,zS "basin",zS (wt c),x8,a] G:=by generalize h.enc=N at*;unfold Nk;simp[F,Ae,E,a4]
  rw[m3,v _ _ _ _ _ (by decide)]
  rfl
 |XE a' C=>
  have i:(h.pl p).kd.ZK="town":=by rw[L];rfl
  have J:¬("town":Str)="basin":=by decide
  refine⟨u4 (1,p,b,XG (d/4) u-d/2%2),?_,λx5 x6 x7 x8 a G=>⟨x5,x6,x7,x8,a,?_⟩⟩
  .intro Q P C O e;cases e;exact⟨by lia,by lia,l,by rw[i];rfl⟩
  rw[j,i];unfold Nk;generalize h.enc=N at*;simp[J,v _ "town" _ _ _ (by decide)]
  rfl
 |SM a'=>
  have i:(h.pl p).kd.ZK="mill":=by rw[L];rfl
  have J:¬("mill":Str)="basin":=by decide
  refine⟨u5,(λQ P C O e=>nomatch e),λx5 x6 x7 x8 a G=>⟨zI p,zS "mill",zS "took",x8,a,?_⟩⟩
  rw[j,i];unfold Nk Q5;simp[J]
theorem lc(t:Cf ns f)(v:0<u)(cu:Cu ns u)(g:SA h)(x:1<=h.n):∀(m k:Nat),
  ∃o:Option (Nat×Nat×Bool×Int),(∀c p b m,o=u4 (c,p,b,m)->1<=c/\c<=5/\p<h.n/\(h.pl p).kd.ZK=NT c)/\
   ∀(x4 x5 x6 x7 x8 a:Option D)(G:DH),∃F d i l r j,An (gV 4) Mr (Bb k m) [zN ns,u4 h.enc,zI h.n,zI ((6+20*h.n:Nat):Int),x4,x5,x6,x7,x8,a] G=
    match o with
    |some _=>.rt (Nq o) G
    |none=>.nx [zN ns,u4 h.enc,zI h.n,zI ((6+20*h.n:Nat):Int),F,d,i,l,r,j] G
 |0,k=>⟨u5,(λ_ _ _ _ e=>nomatch e),λx4 x5 x6 x7 x8 a G=>⟨x4,x5,x6,x7,x8,a,by rw[Gs,Cj]⟩⟩
 | m+1,k=>by
  obtain⟨o,s,w⟩:=JQ t v cu g x k;cases o with
  |some q=>
   refine⟨u4 q,s,λx4 x5 x6 x7 x8 a G=>?_⟩;obtain⟨d,i,l,r,j,e⟩:=w x5 x6 x7 x8 a G;refine⟨x4,x5,x6,x7,x8,a,?_⟩;rw[Fq,Bs];simp only[By,R.Bp,qY,e]
   rfl
  |none=>
   obtain⟨o,s,E⟩:=lc t v cu g x m (k+1);refine⟨o,s,λx4 x5 x6 x7 x8 a G=>?_⟩;obtain⟨d,i,l,r,j,e⟩:=w x5 x6 x7 x8 a G;obtain⟨A,B,C,J,y,I,z⟩:=E (zI k) d i l r j G;refine⟨A,B,C,J,y,I,?_⟩;have H:((k:Int)+1)=((k+1:Nat):Int):=by lia
   rw[Fq,Bs];simp only[By,R.Bp,qY,e,Cd,H,z]
theorem JR(t:Cf ns f)(l:0<u)(cu:Cu ns u)(g:SA h)(s:1<=h.n):
  ∃o:Option (Nat×Nat×Bool×Int),(∀c p b m,o=u4 (c,p,b,m)->1<=c/\c<=5/\p<h.n/\(h.pl p).kd.ZK=NT c)/\∀G,Ra [nD ns,h.enc] G=.ok (Nq o) G:=by
 obtain⟨o,v,r⟩:=lc t l cu g s h.n 0;refine⟨o,v,λG=>?_⟩;have y:=g.len;have j:inR (h.n:Int):=Ef (by lia) (by lia);obtain⟨z,E,w,x,A,C,e⟩:=r u5 u5 u5 u5 u5 u5 G;have a:∀G,Bo (.int 20) (.int (h.n:Int)) G=.ok (.int (20*(h.n:Int))) G:=λG=>Eu (by lia) (by lia)
 have d:(6+20*(h.n:Int))=((6+20*h.n:Nat):Int):=by lia
 have i:An (gV 4) Mr (Bb 0 h.n) _ G=_:=e;generalize((6+20*h.n:Nat):Int)=B at i d;unfold Ra fk;rw[Af];cases o with
 |some q=>
  obtain⟨c,p,b,m⟩:=q;simp[Cr,Hs.Hh,a,d,j,i,Az l6,Nq]
 |none=>simp[Cr,Hs.Hh,a,d,j,i,Az,Nq]
def lg{s:Str}{x y:D}(h:x=.WA/\y=.WA\/∃i j,x=.int i/\y=.int j)(G:DH):Ob [.tup [.str s,x,y]] G=.ok (.bl u6) G:=by
 have b:∀x y:D,PC (lN G) x=u6->PC (lN G) y=u6->freeze G (.ok (.tup [x,y]) G)=.ok (.tup [x,y]) G:=λx y c e=>Hr (by simp[c,e])
 have d:∀(a:Option D)(i:Int),Rh [a,zI i] G=.nx [a,zI i] G:=λa i=>by unfold Rh;simp[TR]
 have f:∀(a:Option D),Rh [a,u4 .WA] G=.nx [a,u4 .WA] G:=λa=>by unfold Rh;simp[TR]
 have ct:∀x y:D,cutD [D.str s,x,y] (u4 1) u5=[x,y]:=λx y=>rfl
 unfold Ob h6;rw[Af];rcases h with⟨rfl,rfl⟩|⟨i,j,rfl,rfl⟩
 .simp[TR,ct,b,Bs,Cj,f,Az]
 simp[TR,ct,b,Bs,Cj,d,Az]
theorem Z9(d:∀k b r q,k<h.n->(h.pl k).kd=.NA b r q->lv k<=b){k:Nat}(hk:k<h.n):lv k<=SH h f u lv k:=by
 unfold SH;cases e:(h.pl k).kd with
 |NA b r q=>
  have i:=d k b r q hk e;have a:0<=XG (OD h f k/2) u%(b-lv k+1):=jz _ (by lia);have g:=bX (c:=OD h f k) a;show lv k<=lv k+_;lia
 |_=>exact zL _
def Wr(b:0<u)(k j:Nat):co k j<=ZH h f u co k j:=by unfold ZH;have a:=bX (x:=u) (c:=OD h f k/2) (by lia);lia
def lh(a:0<u)(i k:Nat):fl i k<=MM h f u fl i k:=by unfold MM;have b:=bX (x:=XG (f (6+24*h.n+h.n+i*h.n+k)/2) u) (c:=f (6+24*h.n+h.n+i*h.n+k)) (Q4 a);lia
def li{n:Nat}{a b:Nat->Int}(h:∀k,k<n->a k<=b k):UR n a b=u6:=qw.mpr λk hk=>decide_eq_true (h k (qK.mp hk))
def lj{A B:Nat->Nat->Int}(h:∀i,i<m->∀k,k<w->A i k<=B i k):PV w m A B=u6:=qw.mpr λi a=>li (h i (qK.mp a))
def ll{F:Nat->Nat->Int}(hi:i<t):((zQ t).map F).getD i (λ_=>0)=F i:=by simp[zk,hi]
def JS{y:Int}:Ci b (y::r) x=Ci b r (if YF b y x=u6 then y else x):=by
 unfold Ci YF;cases b
 .simp only[j2,if_false,j5]
  congr 1
  by_cases h:x<y
  .rw[if_pos (decide_eq_true h)];lia
  rw[if_neg (by simpa using h)];lia
 simp only[if_true,j5]
 congr 1
 by_cases h:y<x
 .rw[if_pos (decide_eq_true h)];lia
 rw[if_neg (by simpa using h)];lia
def JT(i:0<u)(a:UM h lv co)(g:∀k b r q,k<h.n->(h.pl k).kd=.NA b r q->lv k<=b):UM h (SH h f u lv) (ZH h f u co):=
 ⟨λk hk=>jk (a.t? k hk) (Z9 g hk),λk hk c=>by
  unfold SH;cases e:(h.pl k).kd with
  |NA b r q=>rw[e]at c;cases c
  |XE _ _=>exact a.W? k hk c
  |SM _=>exact a.W? k hk c,λk j hk d=>jk (a.US k j hk d) (Wr i k j)⟩
def JU{b:Type}{xs:List b}{a:Nat}(h:a<=lN xs):cutD xs u5 (u4 (a:Int))=xs.take a:=by
 have:=(Ox (lN xs) (a:Int)).1;have e:HT.ZB (lN xs) (lN xs) (u4 (a:Int))=a:=by lia
 unfold cutD;rw[e];simp[HT.ZB]
noncomputable def SZ(c x y:Int):Int:=x+c*48271%2147483647%(y-x+1)
def b6{y:Int}(h:x<=y):x<=SZ c x y/\SZ c x y<=y:=by unfold SZ;have a:=jz (c*48271%2147483647) (show y-x+1≠0 by lia);have b:=jJ (c*48271%2147483647) (show 0<y-x+1 by lia);lia
def Z2{y:Int}(h:x<=y)(G:DH):J7 [.int c,.int x,.int y] G=.ok (.int (SZ c x y)) G:=by
 have m:∀G,Bo (.int c) (.int 48271) G=.ok (.int (c*48271)) G:=λG=>Gq (by lia) (by lia)
 have hp:0<y-x+1:=by lia
 unfold J7 gz;rw[Af];simp[m,hp,SZ,Az]
def YQ(f:Nat->Int)(B:Nat)(lv lv':Nat->Int)(k:Nat):Int:=SZ (f (B+k)) (lv k) (lv' k)
def NM(f:Nat->Int)(B:Nat)(co co':Nat->Nat->Int)(k j:Nat):Int:=SZ (f (B+k)+(j:Int)*j) (co k j) (co' k j)
def QF(f:Nat->Int)(B n:Nat)(fl N9:Nat->Nat->Int)(i k:Nat):Int:=SZ (f (B+i*n+k)) (fl i k) (N9 i k)
section
variable{ns:List Int}{f:Nat->Int}{h:Hs}
def JV(A:Cf ns f){n:Nat}(S:n<=12)(P:B<=500)(L:∀k,k<n->lv k<=lv' k)(z:∀k j,k<n->j<5->co k j<=co' k j){k:Nat}(hk:k<n){x7:Option D}(G:DH):
  R7 [zN ns,zI B,u4 (PB n lv co),u4 (PB n lv' co'),zR (lN G),zR (lN G+1),zI k,x7] (G++[.lst (tab k (YQ f B lv lv')),.lst (Am k (NM f B co co'))])=
   .nx [zN ns,zI B,u4 (PB n lv co),u4 (PB n lv' co'),zR (lN G),zR (lN G+1),zI k,zI (f (B+k))] (G++[.lst (tab (k+1) (YQ f B lv lv')),.lst (Am (k+1) (NM f B co co'))]):=by
 have I:∀G,Ay [nD ns,.int ((B:Int)+(k:Int))] G=.ok (.int (f (B+k))) G:=λG=>by have:=A (B+k) (by lia) G;rwa[show((B+k:Nat):Int)=(B:Int)+k by lia]at this
 have M:∀G,J7 [.int (f (B+k)),.int (lv k),.int (lv' k)] G=.ok (.int (YQ f B lv lv' k)) G:=λG=>Z2 (L k hk) G
 have u:∀G,Bv (gV 0) Aw bC [u5,u4 (PB n lv co),u4 (PB n lv' co'),zI k,zI (f (B+k))] (Bb 0 5) G=.ok (tab 5 (NM f B co co' k)) G:=λG=>Ko λj q=>by
  have J:∀G,Bo (.int (j:Int)) (.int (j:Int)) G=.ok (.int ((j:Int)*j)) G:=λG=>Eu (by lia) (by lia)
  have y:∀G,J7 [.int (f (B+k)+(j:Int)*j),.int (co k j),.int (co' k j)] G=.ok (.int (NM f B co co' k j)) G:=λG=>Z2 (z k j hk q) G
  unfold bC PB;simp[J,Zf hk,Zf hk,Du q,Du q,y]
 have v:∀m i:List D,freeze (G++[.lst m,.lst i]) (.ok (.ref (lN G+2)) (G++[.lst m,.lst i,.lst (tab 5 (NM f B co co' k))]))=.ok (.fl (tab 5 (NM f B co co' k))) (G++[.lst m,.lst i]):=λm i=>lP λ_=>Gy
 have s:k<1000000:=by lia
 have cs:∀a b c d e H g h:Option D,Av 1 [2,3,6,7] [a,b,c,d,e,H,g,h]=[u5,c,d,g,h]:=λ_ _ _ _ _ _ _ _=>rfl
 have x:∀a b:DO,(G++[a,b])[lN G]?=u4 a:=λa b=>by simp
 have E:∀a b:DO,(G++[a,b])[lN G+1]?=u4 b:=λa b=>by simp
 have C:∀a b c:DO,(G++[a,b]).set (lN G) c=G++[c,b]:=λa b c=>by simp
 have K:∀a b c:DO,(G++[a,b]).set (lN G+1) c=G++[a,c]:=λa b c=>by simp
 have t:=Xi (k:=k) (F:=YQ f B lv lv');have r:=lO (k:=k) (co:=NM f B co co');have l:lN (tab 5 (NM f B co co' k))<=1000000:=by simp
 generalize tab 5 (NM f B co co' k)=Q at u v r l;generalize tab (k+1) (YQ f B lv lv')=N at t;generalize Am (k+1) (NM f B co co')=O at r;have w:∀G,Bj (PB n lv co) (.int 0) G=.ok (.tup (tab n lv)) G:=λG=>by unfold PB;simp
 have p:∀G,Bj (PB n lv' co') (.int 0) G=.ok (.tup (tab n lv')) G:=λG=>by unfold PB;simp
 have o:inR 5:=Ef (by lia) (by lia);unfold R7;simp[l,I,w,p,Du hk,Du hk,M,x,E,C,K,s,t,cs,u,v,λm=>rfl,r,o]
theorem lm(l:Cf ns f){n:Nat}(c:n<=12)(g:B<=500)(d:∀k,k<n->lv k<=lv' k)(i:∀k j,k<n->j<5->co k j<=co' k j)(G:DH):∀(m k:Nat)(x6 x7:Option D),k+m=n->∃a b,
  An (gV 6) R7 (Bb k m) [zN ns,zI B,u4 (PB n lv co),u4 (PB n lv' co'),zR (lN G),zR (lN G+1),x6,x7] (G++[.lst (tab k (YQ f B lv lv')),.lst (Am k (NM f B co co'))])=
   .nx [zN ns,zI B,u4 (PB n lv co),u4 (PB n lv' co'),zR (lN G),zR (lN G+1),a,b] (G++[.lst (tab n (YQ f B lv lv')),.lst (Am n (NM f B co co'))])
 |0,k,x6,x7,e=>by
  have o:k=n:=by lia
  subst o;exact⟨x6,x7,by rw[Gs,Cj]⟩
 |m+1,k,x6,x7,e=>by obtain⟨a,b,p⟩:=lm l c g d i G m (k+1) (zI k) (zI (f (B+k))) (by lia);refine⟨a,b,?_⟩;rw[Fq,Bs];simp[By,R.Bp,qY,JV l c g d i (k:=k) (by lia) (x7:=x7) G,Cd];exact p
def JW(s:Cf ns f){n:Nat}(l:n<=12)(q:B<=500)(o:∀k,k<n->lv k<=lv' k)(r:∀k j,k<n->j<5->co k j<=co' k j)(G:DH):
  Qt [nD ns,.int B,PB n lv co,PB n lv' co'] G=.ok (PB n (YQ f B lv lv') (NM f B co co')) G:=by
 obtain⟨u,v,m⟩:=lm s l q o r G n 0 u5 u5 (by lia);have c:An (gV 6) R7 (Bb 0 n) [zN ns,zI B,u4 (PB n lv co),u4 (PB n lv' co'),zR (lN G),zR (lN G+1),u5,u5] (G++[.lst [],.lst []])=_:=m;have t:inR (n:Int):=Ef (by lia) (by lia);have d:∀G,Bj (PB n lv co) (.int 0) G=.ok (.tup (tab n lv)) G:=λG=>by unfold PB;simp
 have g:∀a b:DO,(G++[a,b])[lN G]?=u4 a:=λa b=>by simp
 have e:∀a b:DO,(G++[a,b])[lN G+1]?=u4 b:=λa b=>by simp
 have i:∀x:List D,tidy (G++[DO.lst x]) (.ok (.ref (lN G+1)) (G++[DO.lst x,DO.lst []]))=.ok (.ref (lN G+1)) (G++[DO.lst x,DO.lst []]):=λx=>by have:=Cq (G:=G++[DO.lst x]) (ds:=[]) (L:=[]);simpa using this
 have p:PB n (YQ f B lv lv') (NM f B co co')=.tup [.tup (tab n (YQ f B lv lv')),.tup (Am n (NM f B co co'))]:=rfl;have bs:PC (lN G) (PB n (YQ f B lv lv') (NM f B co co'))=u6:=Wq;rw[p]at bs⊢;unfold Qt hJ;rw[Af];simp[Ae,Cq,i,d,t,c,g,e,Ag,K7,bs]
def JX(o:Cf ns f){n:Nat}(r:n<=12)(v:B<=500)(u:B+t*n<=900/\t<=64)(hi:i<t){a:Nat->Nat->Int}(l:∀i k,k<n->fl i k<=a i k){k:Nat}(hk:k<n){x8:Option D}(G:DH):
  Oq [zN ns,zI B,zF (Aa n ((zQ t).map fl)),zF (Aa n ((zQ t).map a)),s4,zI i,zR (lN G),zI k,x8] (G++[.lst (tab k (QF f B n fl a i))])=
   .nx [zN ns,zI B,zF (Aa n ((zQ t).map fl)),zF (Aa n ((zQ t).map a)),s4,zI i,zR (lN G),zI k,zI (f (B+i*n+k))] (G++[.lst (tab (k+1) (QF f B n fl a i))]):=by
 have c:(i+1)*n<=t*n:=jO _ hi;rw[Nat.succ_mul]at c;have m:∀G,Ay [nD ns,.int ((B:Int)+(i:Int)*n+(k:Int))] G=.ok (.int (f (B+i*n+k))) G:=λG=>by have:=o (B+i*n+k) (by lia) G;rwa[show((B+i*n+k:Nat):Int)=(B:Int)+(i:Int)*n+k by rw[j6,j6,Int.natCast_mul]]at this
 have j:∀G,Bo (.int (i:Int)) (.int (n:Int)) G=.ok (.int ((i:Int)*n)) G:=λG=>Eu (by lia) (by lia)
 have g:YC (Aa n ((zQ t).map fl)) (i:Int)=zT (tab n (fl i)):=Df rfl (by simp[Aa,hi]);have b:YC (Aa n ((zQ t).map a)) (i:Int)=zT (tab n (a i)):=Df rfl (by simp[Aa,hi]);have p:∀G,J7 [.int (f (B+i*n+k)),.int (fl i k),.int (a i k)] G=.ok (.int (QF f B n fl a i k)) G:=λG=>Z2 (l i k hk) G
 have d:k<1000000:=by lia
 have e:=Xi (k:=k) (F:=QF f B n fl a i);generalize tab (k+1) (QF f B n fl a i)=q at e;generalize Aa n ((zQ t).map fl)=X at g;generalize Aa n ((zQ t).map a)=s at b;unfold Oq;simp[g,b,j,m,Du hk,Du hk,p,Bw,Dt,d,e]
theorem lq(o:Cf ns f){n:Nat}(d:n<=12)(l:B<=500)(g:B+t*n<=900/\t<=64)(hi:i<t){a:Nat->Nat->Int}(j:∀i k,k<n->fl i k<=a i k){s4:Option D}(G:DH):∀(m k:Nat)(x7 x8:Option D),k+m=n->∃b c,
  An (gV 7) Oq (Bb k m) [zN ns,zI B,zF (Aa n ((zQ t).map fl)),zF (Aa n ((zQ t).map a)),s4,zI i,zR (lN G),x7,x8] (G++[.lst (tab k (QF f B n fl a i))])=
   .nx [zN ns,zI B,zF (Aa n ((zQ t).map fl)),zF (Aa n ((zQ t).map a)),s4,zI i,zR (lN G),b,c] (G++[.lst (tab n (QF f B n fl a i))])
 |0,k,x7,x8,e=>by
  have p:k=n:=by lia
  subst p;exact⟨x7,x8,by rw[Gs,Cj]⟩
 |m+1,k,x7,x8,e=>by obtain⟨b,c,q⟩:=lq o d l g hi j G m (k+1) (zI k) (zI (f (B+i*n+k))) (by lia);refine⟨b,c,?_⟩;rw[Fq,Bs];simp[By,R.Bp,qY,JX o d l g hi j (k:=k) (by lia) (s4:=s4) (x8:=x8) G,Cd];exact q
theorem lr(q:Cf ns f){n:Nat}(u:n<=12)(r:B<=500)(v:B+t*n<=900/\t<=64){a:Nat->Nat->Int}(w:∀i k,k<n->fl i k<=a i k)(G:DH):∀(m i:Nat)(L:DH)(x5 x6 x7 x8:Option D),i+m=t->∃d c g l o,
  An (gV 5) Qp (Bb i m) [zN ns,zI B,zF (Aa n ((zQ t).map fl)),zF (Aa n ((zQ t).map a)),zR (lN G),x5,x6,x7,x8] (G++ .lst (Aa n ((zQ i).map (QF f B n fl a)))::L)=
   .nx [zN ns,zI B,zF (Aa n ((zQ t).map fl)),zF (Aa n ((zQ t).map a)),zR (lN G),c,g,l,o] (G++ .lst (Aa n ((zQ t).map (QF f B n fl a)))::d)
 |0,i,L,x5,x6,x7,x8,e=>by
  have I:i=t:=by lia
  subst I;exact⟨L,x5,x6,x7,x8,by rw[Gs,Cj]⟩
 | m+1,i,L,x5,x6,x7,x8,e=>by
  have s:i<t:=by lia
  obtain⟨x,p,H⟩:=lq q u r v s w (s4:=zR (lN G)) (G++ .lst (Aa n ((zQ i).map (QF f B n fl a)))::L) n 0 x7 x8 (by lia);obtain⟨d,c,g,l,o,y⟩:=lr q u r v w G m (i+1) (L++[.lst (tab n (QF f B n fl a i))]) (zI i) (zR (lN (G++ .lst (Aa n ((zQ i).map (QF f B n fl a)))::L))) x p (by lia);refine⟨d,c,g,l,o,?_⟩;have C:Aa n ((zQ i).map (QF f B n fl a))++[.tup (tab n (QF f B n fl a i))]=Aa n ((zQ (i+1)).map (QF f B n fl a)):=by simp[Aa,qU]
  have A:lN (Aa n ((zQ i).map (QF f B n fl a)))<1000000:=by simp[Aa];lia
  have z:YC (Aa n ((zQ t).map fl)) (i:Int)=zT (tab n (fl i)):=Df rfl (by simp[Aa,s]);have F:inR (n:Int):=Ef (by lia) (by lia);have j:An (gV 7) Oq (Bb 0 n) _ ((G++ .lst (Aa n ((zQ i).map (QF f B n fl a)))::L)++[.lst []])=_:=H;have bd:Qp [zN ns,zI B,zF (Aa n ((zQ t).map fl)),zF (Aa n ((zQ t).map a)),zR (lN G),zI i,x6,x7,x8] (G++ .lst (Aa n ((zQ i).map (QF f B n fl a)))::L)=
    .nx [zN ns,zI B,zF (Aa n ((zQ t).map fl)),zF (Aa n ((zQ t).map a)),zR (lN G),zI i,zR (lN (G++ .lst (Aa n ((zQ i).map (QF f B n fl a)))::L)),x,p] (G++ .lst (Aa n ((zQ (i+1)).map (QF f B n fl a)))::(L++[.lst (tab n (QF f B n fl a i))])):=by
   have K:((G++ .lst (Aa n ((zQ i).map (QF f B n fl a)))::L)++[DO.lst (tab n (QF f B n fl a i))])[lN G]?=u4 (.lst (Aa n ((zQ i).map (QF f B n fl a)))):=by simp
   have gs:((G++ .lst (Aa n ((zQ i).map (QF f B n fl a)))::L)++[DO.lst (tab n (QF f B n fl a i))]).set (lN G) (.lst (Aa n ((zQ (i+1)).map (QF f B n fl a))))=G++ .lst (Aa n ((zQ (i+1)).map (QF f B n fl a)))::(L++[.lst (tab n (QF f B n fl a i))]):=by simp
   rw[<-gs];generalize Aa n ((zQ i).map (QF f B n fl a))=M,Aa n ((zQ (i+1)).map (QF f B n fl a))=O at*;generalize E:G++DO.lst M::L=b at*;have N:tidy b (.ok (.ref (lN b)) (b++[.lst []]))=.ok (.ref (lN b)) (b++[.lst []]):=Cq rfl;have J:(b++[DO.lst (tab n (QF f B n fl a i))])[lN b]?=u4 (.lst (tab n (QF f B n fl a i))):=by simp
   have lt:lN (tab n (QF f B n fl a i))<=1000000:=by simp;lia
   generalize tab n (QF f B n fl a i)=Q,Aa n ((zQ t).map fl)=X,Aa n ((zQ t).map a)=P at*;unfold Qp;simp[Ae,N,z,F,j,J,K,A,C,lt]
  rw[Fq,Bs];simp only[By,R.Bp,qY,bd,Cd];exact y
def JY(c:Cf ns f){n:Nat}(o:n<=12)(e:B<=500)(p:B+t*n<=900/\t<=64){a:Nat->Nat->Int}(q:∀i k,k<n->fl i k<=a i k)(G:DH):
  freeze G (Qf [nD ns,.int B,.fl (Aa n ((zQ t).map fl)),.fl (Aa n ((zQ t).map a))] G)=.ok (.fl (Aa n ((zQ t).map (QF f B n fl a)))) G:=by
 obtain⟨d,s,u,w,x,l⟩:=lr c o e p q G t 0 [] u5 u5 u5 u5 (by lia);have b:An (gV 5) Qp (Bb 0 t) [zN ns,zI B,zF (Aa n ((zQ t).map fl)),zF (Aa n ((zQ t).map a)),zR (lN G),u5,u5,u5,u5] (G++[.lst []])=_:=l;have m:inR (t:Int):=Ef (by lia) (by lia);have j:lN (Aa n ((zQ t).map fl))=t:=by simp[Aa]
 have g:=Cq (G:=G) (ds:=Aa n ((zQ t).map (QF f B n fl a))) (L:=d) Qv;have r:=Dh (G:=G) (ds:=Aa n ((zQ t).map (QF f B n fl a))) (L:=[]) Qv;generalize Aa n ((zQ t).map (QF f B n fl a))=v,Aa n ((zQ t).map fl)=X,Aa n ((zQ t).map a)=y at*;unfold Qf hI;rw[Af];simp[Ae,Cq,j,m,b,g,r]
end
theorem lu{b:Bool}:∀(r:List Int)(y x:Int),x∈y::r->YF b x (Ci b r y)=u7
 |[],y,x,h=>by
  have:x=y:=by simpa using h
  subst this;unfold Ci YF
  cases b<;>simp
 | z::r,y,x,h=>by
  rw[JS];have tr:∀u v w:Int,YF b u v=u7->YF b v w=u7->YF b u w=u7:=λu v w d g=>by
   unfold YF at d g⊢
   cases b<;>simp at d g⊢<;> lia
  have c:=λx i=>lu (b:=b) r (if YF b z y=u6 then z else y) x i
  have a:=c _ (zW);rcases zK.mp h with rfl|h
  .cases e:YF b z x with
   |true=>
    rw[e]at a;simp[if_true]at a⊢;refine tr x z _ ?_ a;unfold YF at e⊢
    cases b<;>simp at e⊢<;> lia
   |false=>
    rw[e]at a;simpa using a
  rcases zK.mp h with rfl|h
  .cases e:YF b x y with
   |true=>
    rw[e]at a;simpa using a
   |false=>
    rw[e]at a;simp[j2,if_false]at a⊢;exact tr x y _ e a
  exact c x (zJ _ h)
theorem lw{m:Int}:∀{xs:List Int}{k:Nat},Ej b m xs k=u5->∀x∈xs,YF b x m=u7
 |[],k,_,x,h=>by cases h
 | y::r,k,e,x,h=>by
  unfold Ej at e;cases a:YF b y m with
  |true=>rw[a,if_pos rfl]at e;cases e
  |false=>
   rw[a,if_neg (by simp)]at e;rcases zK.mp h with rfl|h
   .exact a
   exact lw e x h
theorem Ue{m:Int}:∀{xs:List Int}{k i:Nat}{x:Int},Ej b m xs k=u4 (i,x)->k<=i/\i<k+lN xs/\xs[i-k]?=u4 x/\YF b x m=u6/\∀y∈xs.take (i-k),YF b y m=u7
 |[],k,i,x,h=>by cases h
 | y::r,k,i,x,h=>by
  unfold Ej at h;cases c:YF b y m with
  |true=>
   rw[c,if_pos rfl]at h;cases h;exact⟨zY _,by rw[zH];lia,by simp,c,by simp⟩
  |false=>
   rw[c,if_neg (by simp)]at h;obtain⟨l,n,j,g,d⟩:=Ue h;have e:i-k=(i-(k+1))+1:=by lia
   refine⟨by lia,by rw[zH];lia,by rw[e,jw];exact j,g,λz a=>?_⟩;rw[e,List.take_succ_cons]at a;rcases zK.mp a with rfl|a
   .exact c
   exact d z a
def VR:List Int->List Int->Prop
 |[],[]=>True
 |x::r,y::s=>x<=y/\VR r s
 |_,_=>False
theorem VR.up:∀{xs ys:List Int}{m:Int},VR xs ys->(∀x∈xs,m<=x)->∀y∈ys,m<=y
 |[],[],_,_,_,y,h=>by cases h
 |x::r,z::s,m,h,c,y,a=>by
  rcases zK.mp a with rfl|a
  .exact jk (c x (by simp)) h.1
  exact VR.up h.2 (λx b=>c x (zJ _ b)) y a
 |[],_::_,_,h,_,_,_|_::_,[],_,h,_,_,_=>h.elim
theorem VR.down:∀{xs ys:List Int}{m:Int},VR xs ys->(∀y∈ys,y<=m)->∀x∈xs,x<=m
 |[],[],_,_,_,y,h=>by cases h
 |x::r,z::s,m,h,c,y,a=>by
  rcases zK.mp a with rfl|a
  .exact jk h.1 (c z (by simp))
  exact VR.down h.2 (λx b=>c x (zJ _ b)) y a
 |[],_::_,_,h,_,_,_|_::_,[],_,h,_,_,_=>h.elim
theorem Zi{c:Nat}(hp:p<h.n)(d:1<=c)(b:c<=5)(hk:c≠1->(h.pl p).kd.SD=u6):∀{P a:List (Nat->List Int)},OV h P a->VR (Cp P p c) (Cp a p c)
 |[],[],_=>trivial
 |q::P,e::a,m=>by
  refine⟨?_,Zi hp d b hk m.2⟩;rcases(by lia:c=1\/c=2\/c=3\/c=4\/c=5)with rfl|rfl|rfl|rfl|rfl
  .exact m.1.took p hp
  .exact(m.1.NA p hp (hk (by lia))).1
  .exact(m.1.NA p hp (hk (by lia))).2.1
  .exact(m.1.NA p hp (hk (by lia))).2.2
  exact m.1.SG p hp
 |[],_::_,m|_::_,[],m=>m.elim
def JZ{a b:List D}(d:XA (lN G) a=u6)(e:XA (lN G) b=u6):freeze G (.ok (.tup [.ref (lN G),.ref (lN G+1)]) (G++ .lst a:: .lst b::L))=.ok (.tup [.fl a,.fl b]) G:=by
 unfold freeze;have m:Cm (G++ .lst a:: .lst b::L) (lN G) 9 (.tup [.ref (lN G),.ref (lN G+1)])=zT [.fl a,.fl b]:=by
  unfold Cm;have c:Cm (G++ .lst a:: .lst b::L) (lN G) 8 (.ref (lN G))=zF a:=by unfold Cm;simp[Od d]
  have f:Cm (G++ .lst a:: .lst b::L) (lN G) 8 (.ref (lN G+1))=zF b:=by unfold Cm;simp[Od e]
  simp[Hd,c,f]
 simp[m]
theorem lx{SW:Nat->D}:∀M:Nat,(∀v,v<=M->SW v∉OC SW v)\/∃Y,1<=Y/\Y<=M/\SW Y∈OC SW Y/\∀v,v<Y->SW v∉OC SW v
 |0=>.inl λv f=>by
  have:v=0:=by lia
  subst this;simp[OC]
 | M+1=>by
  rcases lx M with a|⟨Y,a,b,c,d⟩
  .by_cases e:SW (M+1)∈OC SW (M+1)
   .exact .inr ⟨M+1,by lia,by lia,e,λv f=>a v (by lia)⟩
   refine .inl λv f=>?_
   by_cases z:v=M+1
   .subst z;exact e
   exact a v (by lia)
  exact .inr ⟨Y,a,by lia,c,d⟩
section
variable{h:Hs}{fls:List (Nat->Int)}{s:YK}
def ly{fl:Nat->Int}:h.cs lv co (a+h.yr) fl=h.cs lv co a fl:=by simp[Hs.cs]
theorem lz:∀(r:List (Nat->Int))(s:YK)(a:Int),h.Bk r s (a+h.yr)=h.Bk r s a
 |[],_,_=>rfl
 |fl::r,s,a=>by
  have e:h.ZM s (a+h.yr) fl=h.ZM s a fl:=by unfold Hs.ZM;rw[ly]
  show(h.cs s.1 s.2 (a+h.yr) fl).UA::h.Bk r (h.ZM s (a+h.yr) fl) (a+h.yr+1)=_::h.Bk r (h.ZM s a fl) (a+1);rw[ly,e,show a+h.yr+1=a+1+h.yr by lia,lz r]
theorem mB:∀(b c:List (Nat->Int))(s:YK)(a:Int),h.Bk (b++c) s a=h.Bk b s a++h.Bk c (h.Es b s a) (a+lN b)
 |[],c,s,a=>by simp[Hs.Bk,Hs.Es]
 |fl::b,c,s,a=>by show(h.cs s.1 s.2 a fl).UA::h.Bk (b++c) (h.ZM s a fl) (a+1)=(h.cs s.1 s.2 a fl).UA::(h.Bk b (h.ZM s a fl) (a+1)++h.Bk c (h.Es b (h.ZM s a fl) (a+1)) (a+((lN b+1:Nat):Int)));rw[mB b c,show a+1+(lN b:Int)=a+((lN b+1:Nat):Int) by lia]
theorem mC:∀w,YE h fls (h.Es fls s 0) w=YE h fls s (w+1)
 |0=>rfl
 |w+1=>congrArg (λx=>h.Es fls x 0) (mC w)
theorem mD(a:(lN fls:Int)=h.yr):∀(y:Nat)(s:YK),h.Bk (zV y fls).flatten s 0=(zQ y).flatMap λw=>h.Bk fls (YE h fls s w) 0
 |0,s=>rfl
 |y+1,s=>by
  rw[zU,qk,mB,a,lz,mD a y,qH,List.flatMap_cons,List.flatMap_map];simp only[mC]
  rfl
end
def Jn{n:Nat}:(zV y (Aa n l)).flatten=Aa n (zV y l).flatten:=by simp[Aa,List.map_flatten]
def PL(n:Nat)(l l':List (Nat->Int)):Prop:=lN l=lN l'/\∀i,i<lN l->∀k,k<n->l.getD i (λ_=>0) k<=l'.getD i (λ_=>0) k
def X9{n:Nat}{a c b e:List (Nat->Int)}(h:PL n a c)(q:PL n b e):PL n (a++b) (c++e):=by
 refine⟨by simp[h.1,q.1],λi f k hk=>?_⟩;by_cases d:i<lN a
 .have:=h.2 i d k hk;simpa[zk,zP d,zP (h.1▸d)]using this
 have:=q.2 (i-lN a) (by rw[qQ]at f;lia) k hk;simpa[zk,zC (show lN a<=i by lia),zC (show lN c<=i by rw[<-h.1];lia),<-h.1]using this
theorem mE{n:Nat}(q:PL n l l'):∀y,PL n (zV y l).flatten (zV y l').flatten
 |0=>⟨rfl,λi a=>by simp at a⟩
 |y+1=>by rw[zU,zU,qk,qk];exact X9 q (mE q y)
def mF{n:Nat}(q:PL n l l'):(decide (lN l=lN l')&&PV n (lN l) (λi=>l.getD i λ_=>0) λi=>l'.getD i λ_=>0)=u6:=by rw[lj λi a k hk=>q.2 i a k hk];simp[q.1]
section
def KA(g:SA h)(N:lN l<=24)(y:lN l'<=24)(s1:∀k j,k<h.n->j<5->0<=co k j)(s2:∀k j,k<h.n->j<5->0<=co' k j)(K:∀fl∈l,∀k,k<h.n->0<=fl k)(J:∀fl∈l',∀k,k<h.n->0<=fl k)(r:((lN l:Nat):Int)=h.yr){c:Nat}(hp:p<h.n)(z:1<=c)(q:c<=5)(hk:(h.pl p).kd.ZK=NT c){m:Int}(t:(UR h.n lv lv'&&PV 5 h.n co co')=u6)(u:PL h.n l l')(E:M<=100)(d:∀v,v<=M->NF h (if b=u6 then l else l') (if b=u6 then lv else lv',if b=u6 then co else co') v∉OC (NF h (if b=u6 then l else l') (if b=u6 then lv else lv',if b=u6 then co else co')) v)(G:DH):
  ∃L,Ka [h.enc,PB h.n lv co,PB h.n lv' co',.fl (Aa h.n l),.fl (Aa h.n l'),Bg c p b m,.int M] G=.err ⟨"TooLong",[("most",.int M)]⟩ (G++L):=by
 have B:=g.len;have c1:=l9 hp z q hk (b:=b) (m:=m) G
 have e:∀k j,k<h.n->j<5->0<=(if b=u6 then co else co') k j:=by cases b<;>assumption
 have i:∀fl∈(if b=u6 then l else l'),∀k,k<h.n->0<=fl k:=by cases b<;>assumption
 have f:lN (if b=u6 then l else l')<=24:=by cases b<;>assumption
 have a:=lb (n:=h.n) (c:=c) (p:=p) (b:=b) (m:=m) (lv:=lv) (lv':=lv') (co:=co) (co':=co') (fls:=l) (fls':=l') G;generalize(if b=u6 then lv else lv')=L at a d⊢;generalize(if b=u6 then co else co')=C at e a d⊢;generalize(if b=u6 then l else l')=F at i f a d⊢;have o:PB h.n L C=NF h F (L,C) 0:=rfl;rw[o]at a;obtain⟨w,x⟩:=IS (s? g (s:=(L,C)) f e i) (by lia) d G;refine⟨w,?_⟩;generalize Bg c p b m=A,NF h F (L,C) 0=I at*
 unfold Ka Zd;rw[Af];simp[c1,kZ (H:=h.enc) (FL:=.fl (Aa h.n l)) (yr:=h.yr) (λG=>Qk) (λG=>by simp[Yq,r]) G,la (by lia) (by lia) t (mF u) G,a,x,freeze]
def KB(g:SA h)(hl:lN l<=24)(U:lN l'<=24)(s1:∀k j,k<h.n->j<5->0<=co k j)(s2:∀k j,k<h.n->j<5->0<=co' k j)(f1:∀fl∈l,∀k,k<h.n->0<=fl k)(f2:∀fl∈l',∀k,k<h.n->0<=fl k)(K:((lN l:Nat):Int)=h.yr){c:Nat}(hp:p<h.n)(I:1<=c)(u:c<=5)(hk:(h.pl p).kd.ZK=NT c){m:Int}(N:(UR h.n lv lv'&&PV 5 h.n co co')=u6)(O:PL h.n l l')(Z:M<=100)(y2:y<=M)(e:NF h (if b=u6 then l else l') (if b=u6 then lv else lv',if b=u6 then co else co') y∈OC (NF h (if b=u6 then l else l') (if b=u6 then lv else lv',if b=u6 then co else co')) y)
  (d:∀v,v<y->NF h (if b=u6 then l else l') (if b=u6 then lv else lv',if b=u6 then co else co') v∉OC (NF h (if b=u6 then l else l') (if b=u6 then lv else lv',if b=u6 then co else co')) v) (G:DH):
  Ka [h.enc,PB h.n lv co,PB h.n lv' co',.fl (Aa h.n l),.fl (Aa h.n l'),Bg c p b m,.int M] G=
   .ok (H8 b m (Cp ((zQ y).flatMap λw=>h.Bk (if b=u6 then l else l') (YE h (if b=u6 then l else l') (if b=u6 then lv else lv',if b=u6 then co else co') w) 0) p c)) G:=by
 have X:=g.len;have c1:=l9 hp I u hk (b:=b) (m:=m) G
 have z:∀k j,k<h.n->j<5->0<=(if b=u6 then co else co') k j:=by cases b<;>assumption
 have E:∀fl∈(if b=u6 then l else l'),∀k,k<h.n->0<=fl k:=by cases b<;>assumption
 have B:lN (if b=u6 then l else l')<=24:=by cases b<;>assumption
 have f:=lb (n:=h.n) (c:=c) (p:=p) (b:=b) (m:=m) (lv:=lv) (lv':=lv') (co:=co) (co':=co') (fls:=l) (fls':=l') G;generalize(if b=u6 then lv else lv')=L at f e d⊢;generalize(if b=u6 then co else co')=C at z f e d⊢;generalize(if b=u6 then l else l')=F at E B f e d⊢;have Y:=s? g (s:=(L,C)) B z E;have J:PB h.n L C=NF h F (L,C) 0:=rfl;rw[J]at f;obtain⟨Q,T⟩:=IR Y (by lia) d e (most:=(M:Int)) (by lia) G
 have t:SE (λw=>(h.Bk F (YE h F (L,C) w) 0).map (OF h.n)) y=((zQ y).flatMap λw=>h.Bk F (YE h F (L,C) w) 0).map (OF h.n):=by rw[List.map_flatMap];rfl
 have W:=Yt Y.pl y;rw[t,zO]at W;have P:∀r∈(zQ y).flatMap λw=>h.Bk F (YE h F (L,C) w) 0,WQ h r:=λr i=>by obtain⟨v,_,S⟩:=xY.mp i;exact XQ g F _ 0 r S
 have o:=JN (by lia) P hp I u (b:=b) (m:=m) G;have fr:=JZ (G:=G) (L:=Q) (a:=OC (NF h F (L,C)) (y+1)) (kU Y.PC) (kT Y.pb y);rw[<-t]at o;have x:∀q,PC q (H8 b m (Cp ((zQ y).flatMap λw=>h.Bk F (YE h F (L,C) w) 0) p c))=u6:=λq=>b0
 generalize H8 b m (Cp ((zQ y).flatMap λw=>h.Bk F (YE h F (L,C) w) 0) p c)=R' at o x⊢;generalize SE (λw=>(h.Bk F (YE h F (L,C) w) 0).map (OF h.n)) y=PG,OC (NF h F (L,C)) (y+1)=ST,Bg c p b m=A,NF h F (L,C) 0=S0 at*;unfold Ka Zd;rw[Af];simp[c1,kZ (H:=h.enc) (FL:=.fl (Aa h.n l)) (yr:=h.yr) (λG=>Qk) (λG=>by simp[Yq,K]) G,la (by lia) (by lia) N (mF O) G,f,T,fr,o,Az,x]
end
section
variable{H FL:D}{SW:Nat->D}{PG:Nat->List D}
end
section
variable{h:Hs}{fls:List (Nat->Int)}{s:YK}{p c:Nat}
theorem mG(hp:p<h.n)(d:1<=c)(f:c<=5):∀{P Q:List (Nat->List Int)},(∀q∈P,WQ h q)->(∀q∈Q,WQ h q)->P.map (OF h.n)=Q.map (OF h.n)->Cp P p c=Cp Q p c
 |[],[],_,_,_=>rfl
 |q::P,b::Q,r,j,e=>by
  obtain⟨k,m⟩:=List.cons.inj (by simpa using e:OF h.n q::P.map (OF h.n)=OF h.n b::Q.map (OF h.n));obtain⟨t,i,g⟩:=Rp (r q (by simp)) hp d f [];obtain⟨v,u,l⟩:=Rp (j b (by simp)) hp d f [];rw[D.tup.inj k,u]at i;have o:v=t:=by cases i;rfl
  rw[<-o,l]at g;show(q p).getD c 0::Cp P p c=(b p).getD c 0::Cp Q p c;rw[D.int.inj (Option.some.inj g),mG hp d f (λx a=>r x (zJ _ a)) (λx a=>j x (zJ _ a)) m]
 |[],_::_,_,_,e|_::_,[],_,_,e=>by simp at e
def Fw(h:Hs)(fls:List (Nat->Int))(s:YK)(p c w:Nat):List Int:=Cp (h.Bk fls (YE h fls s w) 0) p c
def Ww(a:(lN fls:Int)=h.yr)(y:Nat):Cp (h.Bk (zV y fls).flatten s 0) p c=(zQ y).flatMap (Fw h fls s p c):=by
 rw[mD a];unfold Cp;rw[List.map_flatMap]
 rfl
def mH(g:SA h)(r:lN fls<=24)(d:∀k j,k<h.n->j<5->0<=s.2 k j)(b:∀fl∈fls,∀k,k<h.n->0<=fl k)(hp:p<h.n)(i:1<=c)(l:c<=5){v:Nat}(e:NF h fls s w=NF h fls s v):Fw h fls s p c w=Fw h fls s p c v/\NF h fls s (w+1)=NF h fls s (v+1):=by
 have a:=W9 g (a:=0) (by lia) (V3 g d b w) b [];have q:PB h.n (YE h fls s w).1 (YE h fls s w).2=PB h.n (YE h fls s v).1 (YE h fls s v).2:=e;rw[q,W9 g (s:=YE h fls s v) (a:=0) (fls:=fls) (by lia) (V3 g d b v) b []]at a;obtain⟨o,f⟩:=R.ok.inj a;have m:(h.Bk fls (YE h fls s v) 0).map (OF h.n)=(h.Bk fls (YE h fls s w) 0).map (OF h.n):=by have:=(List.cons.inj f).1;injection this
 exact⟨mG hp i l (XQ g _ _ _) (XQ g _ _ _) m.symm,((List.cons.inj ((List.cons.inj (D.tup.inj o)).2)).1).symm⟩
def mI{SW:Nat->D}{d:D}(h:d∈OC SW y):∃v,v<y/\d=SW v:=by unfold OC at h;obtain⟨v,a,rfl⟩:=zD.mp h;exact⟨v,by simpa using a,rfl⟩
theorem mJ(g:SA h)(o:lN fls<=24)(l:∀k j,k<h.n->j<5->0<=s.2 k j)(m:∀fl∈fls,∀k,k<h.n->0<=fl k)(hp:p<h.n)(f:1<=c)(i:c<=5)(a:NF h fls s y∈OC (NF h fls s) y):∀w,∃v,v<y/\NF h fls s w=NF h fls s v
 |0=>by obtain⟨v,r,_⟩:=mI a;exact⟨0,by lia,rfl⟩
 |w+1=>by
  obtain⟨v,r,e⟩:=mJ g o l m hp f i a w;have d:=(mH g o l m hp f i e).2;by_cases z:v+1=y
  .obtain⟨q,b,t⟩:=mI a;exact⟨q,b,by rw[d,z,t]⟩
  exact⟨v+1,by lia,d⟩
def KC(g:SA h)(l:lN fls<=24)(f:∀k j,k<h.n->j<5->0<=s.2 k j)(i:∀fl∈fls,∀k,k<h.n->0<=fl k)(hp:p<h.n)(b:1<=c)(d:c<=5)(a:NF h fls s y∈OC (NF h fls s) y)(o:x∈(zQ m).flatMap (Fw h fls s p c)):x∈(zQ y).flatMap (Fw h fls s p c):=by obtain⟨w,_,hw⟩:=xY.mp o;obtain⟨v,q,e⟩:=mJ g l f i hp b d a w;rw[(mH g l f i hp b d e).1]at hw;exact xY.mpr ⟨v,by simpa using q,hw⟩
end
theorem mL{m:Int}:∀{xs ys:List Int}{k i:Nat}{x:Int},Ej b m (xs++ys) k=u4 (i,x)->i<k+lN xs->Ej b m xs k=u4 (i,x)
 |[],ys,k,i,x,h,a=>by obtain⟨d,_⟩:=Ue h;simp at a;lia
 |z::xs,ys,k,i,x,h,a=>by
  unfold Ej;have h:(if YF b z m=u6 then u4 (k,z)else Ej b m (xs++ys) (k+1))=u4 (i,x):=h;split
  .rename_i e;rw[if_pos e]at h;exact h
  rename_i e;rw[if_neg e]at h;exact mL h (by rw[zH]at a;lia)
theorem u?{zs:List Int}(hz:∀z∈zs,z∈x::r)(h:if b=u6 then VR zs ys else VR ys zs):∀y∈ys,YF b y (Ci b r x)=u7:=by
 have d:∀z∈zs,YF b z (Ci b r x)=u7:=λz q=>lu r x z (hz z q)
 intro y a;cases b with
 |true=>
  have:=VR.up (by simpa using h) (λz hz=>by have:=d z hz;unfold YF at this;simpa using this) y a
  unfold YF;simp;lia
 |false=>
  have:=VR.down (by simpa using h) (λz hz=>by have:=d z hz;unfold YF at this;simpa using this) y a
  unfold YF;simp;lia
def Ov{xs:List Int}:XA m (xs.map D.int)=u6:=Dy λ_ _=>rfl
section
variable{x0 x1 x2 x3 x4 x5:D}{G L:DH}
def lf_X{d:D}(e:Ka [x0,x1,x2,x3,x4,x5,.int 8] G=.err ⟨"TooLong",[("most",d)]⟩ (G++L)):M7 [x0,x1,x2,x3,x4,x5] G=.ok .WA G:=by have a:tidy G (.ok .WA (G++L))=.ok .WA G:=K7 rfl;generalize G++L=f at*;unfold M7 aw gc;rw[Af];simp[Ls,Y2,e,Qx,a]
def lf_Y{R:D}(d:Ka [x0,x1,x2,x3,x4,x5,.int 8] G=.ok R G)(a:PC (lN G) R=u6):M7 [x0,x1,x2,x3,x4,x5] G=.ok R G:=by unfold M7 aw;rw[Af];simp[Ls,Y2,d,Az a]
end
def KD{xs:List D}(j:∃t r,xs=.tup t::r)(h:lN xs*y<=1000000)(a:y<=1000):Dv (.fl xs) (.int (y:Int)) G=.ok (.ref (lN G)) (G++[.lst (zV y xs).flatten]):=by
 obtain⟨t,r,rfl⟩:=j;unfold Dv;have e:(y:Int).toNat=y:=by lia
 simp only[e];rw[if_pos ⟨by lia,by lia,h⟩]
theorem KF{n:Nat}(h:0<lN l):∃t r,Aa n l=.tup t::r:=by
 cases l with
 |nil=>simp at h
 |cons x l=>exact⟨_,_,rfl⟩
def Rv{n:Nat}(h:0<lN l)(d:lN l<=24)(a:y<=100)(G:DH):freeze G (Dv (.fl (Aa n l)) (.int (y:Int)) G)=.ok (.fl (Aa n (zV y l).flatten)) G:=by have:=j1 d a;rw[KD (KF h) (by rw[Yq];lia) (by lia),Jn];exact Dh Qv
def Za(g:SA h){s:YK}(a:lN fls<=1000)(d:∀k j,k<h.n->j<5->0<=s.2 k j)(f:∀fl∈fls,∀k,k<h.n->0<=fl k)(G:DH):∃e,freeze G (H9 [h.enc,PB h.n s.1 s.2,.int 0,.fl (Aa h.n fls)] G)=.ok (.tup [.fl ((h.Bk fls s 0).map (OF h.n)),e]) G:=by rw[W9 g a d f G];exact⟨_,IL kL Wq⟩
noncomputable def clm:List (Str×D):=[("took",.int 1),("spilled",.int 2),("let",.int 3),("pumped",.int 4),("lies",.int 5)]
def KG{c:Nat}(d:1<=c)(e:c<=5):Fv (Gg [] (clm.map λa=>(.inr a.1,a.2))) (.inr (wt c))=zI c:=ZX (P:=λc=>Fv (Gg [] (clm.map λa=>(.inr a.1,a.2))) (.inr (wt c))=zI c) d e rfl rfl rfl rfl rfl
def KH{c:Nat}(a:1<=c)(d:c<=5)(G:DH):V5 [.str (wt c)] G=.ok (.int c) G:=by unfold V5 gy;rw[Af];exact l7 (KG a d) rfl
def Z5{SE:List (Nat->List Int)}(j:∀a∈SE,WQ h a){c:Nat}(hp:p<h.n)(e:1<=c)(f:c<=5){m:Int}(G:DH):
  Bv (gV 0) Aw Lg [u5,u4 (Bg c p b m)] (SE.map (OF h.n)) G=.ok ((Cp SE p c).map D.int) G:=by
 have:=K6 (te:=Lg) (S:=[u5,u4 (Bg c p b m)]) (E:=OF h.n) (F:=λa=>.int ((a p).getD c 0)) (G:=G) λa d=>by obtain⟨t,g,i⟩:=Rp (j a d) hp e f G;unfold Lg OF Bg;simp[g,i,KH e f]
 rw[this,Cp,qP]
 rfl
section
variable{H S1 S2 F1 F2 A:D}{SC:List D}{G:DH}{b:Bool}{P:List D}{xs:List Int}
def mM{s10 s11:Option D}(o:Bv (gV 0) Aw Lg [u5,u4 A] P G=.ok (xs.map D.int) G)(q:lN xs<=1000):bD [s0,s1,s2,s3,s4,s5,u4 A,s7,s8,zF P,s10,s11] G=.rt (.ref (lN G)) (G++[.lst (xs.map D.int)]):=by
 have n:lN (xs.map D.int)<=1000000:=by simp;lia
 have RV:∀a b c d e f g h i j k l:Option D,Av 1 [6] [a,b,c,d,e,f,g,h,i,j,k,l]=[u5,g]:=λ_ _ _ _ _ _ _ _ _ _ _ _=>rfl
 generalize xs.map D.int=X at*;unfold bD;simp[RV,o,Ae,n]
theorem KI{B R2 r g:List D}{U K:D}(w:∀G,Bj A (.int 2) G=.ok (.str (NI b)) G)(z:∀G,Bj H (.int 0) G=.ok (.int (t:Int)) G)(W:0<t)(O:t<=24)(S:y=i/t+1)
  (f:freeze G (Dv F1 (.int (y:Int)) G)=.ok (.fl B) G) (N:freeze G (Dv F2 (.int (y:Int)) G)=.ok (.fl R2) G) (J:freeze G (H9 [H,S1,.int 0,.fl B] G)=.ok (.tup [.fl r,U]) G) (M:freeze G (H9 [H,S2,.int 0,.fl R2] G)=.ok (.tup [.fl g,K]) G)
  (T:Bv (gV 0) Aw Lg [u5,u4 A] (if b=u6 then r else g) G=.ok (xs.map D.int) G) (Q:lN xs<=1000):
  freeze G (Jd [.fl SC,H,S1,S2,F1,F2,A,.tup [.str "broken",.int (i:Int),.int x]] G)=.ok (nD xs) G:=by
 have l:∀G,Jp (.int (i:Int)) (.int (t:Int)) G=.ok (.int ((i:Int)/(t:Int))) G:=λG=>xu W (by have:=Nat.log2_lt (n:=t) (k:=10) (by lia);lia)
 have q:(i:Int)/(t:Int)+1=(y:Int):=by rw[S];simp
 have v:tidy G (.ok (.ref (lN G)) (G++[.lst (xs.map D.int)]))=.ok (.ref (lN G)) (G++[.lst (xs.map D.int)]):=Cq Ov;have F:freeze G (.ok (.ref (lN G)) (G++[.lst (xs.map D.int)]))=.ok (nD xs) G:=Dh Ov;have e:=λh E u s C j o I a d=>mM (s0:=h) (s1:=E) (s2:=u) (s3:=s) (s4:=C) (s5:=j) (s7:=o) (s8:=I) (s10:=a) (s11:=d) T Q
 unfold Jd Xk;rw[Af];cases b with
 |true=>
  simp[if_true]at e;simp[z,l,q,f,J,w,l4,e,v,F]
 |false=>
  simp[j2,if_false]at e;simp[z,l,q,f,J,w,l4,N,M,e,v,F]
def KJ{n:Nat}{Y:List D}{B:Int}{s R2 g PA:List D}{j d1 d2:D}(U:∀G,Bj H (.int 1) G=.ok (.tup Y) G)(E:lN Y=n)(Z:n<=12)(J:B=6+32*(n:Int))(F:∀G,Ay [.fl SC,.int 3] G=.ok (.int v) G)(N:1+v/10%16=(y:Int))
  (i:Qt [.fl SC,.int B,S1,S2] G=.ok j G) (z:freeze G (Dv F1 (.int (y:Int)) G)=.ok (.fl s) G) (I:freeze G (Dv F2 (.int (y:Int)) G)=.ok (.fl R2) G) (h:freeze G (Qf [.fl SC,.int (B+4),.fl s,.fl R2] G)=.ok (.fl g) G) (K:freeze G (H9 [H,j,.int 0,.fl g] G)=.ok (.tup [.fl PA,e]) G)
  (Q:Bv (gV 0) Aw Lg [u5,u4 A] PA G=.ok (xs.map D.int) G) (M:lN xs<=1000):
  freeze G (Jd [.fl SC,H,S1,S2,F1,F2,A,.tup [.str "kept",d1,d2]] G)=.ok (.fl (xs.map D.int)) G:=by
 have f:∀G,Bo (.int 32) (.int (n:Int)) G=.ok (.int (32*(n:Int))) G:=λG=>Eu (by lia) (by lia)
 have S:∀G,Be [.tup Y] G=.ok (.int (n:Int)) G:=λG=>by simp[E]
 have C:¬("kept":Str)="broken":=by decide
 have O:tidy G (.ok (.ref (lN G)) (G++[.lst (xs.map D.int)]))=.ok (.ref (lN G)) (G++[.lst (xs.map D.int)]):=Cq Ov;have W:freeze G (.ok (.ref (lN G)) (G++[.lst (xs.map D.int)]))=.ok (.fl (xs.map D.int)) G:=Dh Ov;have T:=λk w r q u l o x a d=>mM (s0:=k) (s1:=w) (s2:=r) (s3:=q) (s4:=u) (s5:=l) (s7:=o) (s8:=x) (s10:=a) (s11:=d) Q M
 rw[J]at i h;generalize xs.map D.int=X at*;unfold Jd Xk;rw[Af];simp[C,U,S,f,F,N,i,z,I,h,K,T,O,W]
end
def Ti{c:Nat}{y m:Int}(G:DH):Lk [Bg c p b m,.int x,.int y] G=.ok (.bl (YF b x y)) G:=by
 have a:Bg c p b m=.tup [.str (wt c),.int p,.str (NI b),.int m]:=rfl;unfold Lk fm;rw[Af]
 cases b<;>simp[a,Sg,YF,Az]
def mN{q:Int->Bool}(h:∀y∈ys,te (S.set 0 (zI y)) G=.ok (.bl (q y)) G):Bv (gV 0) Aw te S (ys.map D.int) G=.ok ((ys.map q).map D.bl) G:=by
 rw[K6 h,qP]
 rfl
def mO{q:Int->Bool}(h:∀y∈ys,q y=u7):(ys.map q).any id=u7:=by rw[List.any_eq_false];intro z d;obtain⟨y,a,rfl⟩:=zD.mp d;simp[h y a]
section
variable{c p t:Nat}{b:Bool}{m:Int}{SC:List D}{H S1 S2 F1 F2:D}{G:DH}{xs:List Int}
def KL(r:Ej b m xs 0=u4 (i,x))(Q:lN xs<=1000)(B:∀G,Bj H (.int 0) G=.ok (.int (t:Int)) G)(T:t<=24)(K:i<8*t)
  (cn:freeze G (Jd [.fl SC,H,S1,S2,F1,F2,Bg c p b m,.tup [.str "broken",.int (i:Int),.int x]] G)=.ok (.fl (xs.map D.int)) G) (j:Ob [.tup [.str "broken",.int (i:Int),.int x]] G=.ok (.bl u6) G):
  Jh [zF SC,u4 H,u4 S1,u4 F1,u4 S2,u4 F2,u4 (Bg c p b m),zT [.str "broken",.int (i:Int),.int x],u5] G=.rt (.bl u6) G:=by
 obtain⟨_,O,l,o,k⟩:=Ue r;rw[Nat.sub_zero]at l k;have C:YC (xs.map D.int) (i:Int)=zI x:=Df rfl (by rw[zw,l];rfl);have n:∀G,Bj (Bg c p b m) (.int 3) G=.ok (.int m) G:=λG=>rfl
 have cut:cutD (xs.map D.int) u5 (u4 (i:Int))=(xs.take i).map D.int:=by rw[List.map_take];exact JU (by simp;lia)
 have z:=mN (te:=Zb) (S:=[u5,u4 (Bg c p b m)]) (ys:=xs.take i) (q:=λy=>YF b y m) (G:=G) λy _=>by unfold Zb;simp[n,Ti]
 have F:=mO k;have J:freeze G (.ok (.ref (lN G)) (G++[.lst ((xs.take i).map D.int)]))=.ok (.fl ((xs.take i).map D.int)) G:=Dh Ov;have v:lN ((xs.take i).map λy=>YF b y m)<=1000000:=by simp;lia
 have s:lN ((xs.take i).map D.int)<=1000000:=by simp;lia
 have I:¬("broken":Str)="kept":=by decide
 have E:∀G,Jb (.str "broken") (.tup [.str "kept",.str "broken"]) G=.ok (.bl u7) G:=λG=>rfl
 have u:∀G,Bo (.int 8) (.int (t:Int)) G=.ok (.int (8*(t:Int))) G:=λG=>Eu (by lia) (by lia)
 have w:(i:Int)<8*(t:Int):=by lia
 have RV:∀a b c d e f g h i:Option D,Av 1 [6] [a,b,c,d,e,f,g,h,i]=[u5,g]:=λ_ _ _ _ _ _ _ _ _=>rfl
 generalize(xs.take i).map (λy=>YF b y m)=N,(xs.take i).map D.int=M,xs.map D.int=X at*;unfold Jh bH bG bF bE h8 h7;simp[j,Ag,E,B,u,w,cn,I,C,cut,J,RV,z,Dh U3,F,n,Ti,o,v,s]
def KM(z:Ej b m (x::r) 0=u5)(K:lN xs<=1000)(w:∀G,Bj H (.int 0) G=.ok (.int (t:Int)) G)(F:t<=24)(C:i<8*t)(k:∀y∈xs,YF b y (Ci b r x)=u7)
  (cn:freeze G (Jd [.fl SC,H,S1,S2,F1,F2,Bg c p b m,.tup [.str "kept",.int (i:Int),.int (Ci b r x)]] G)=.ok (.fl (xs.map D.int)) G) (j:Ob [.tup [.str "kept",.int (i:Int),.int (Ci b r x)]] G=.ok (.bl u6) G):
  Jh [zF SC,u4 H,u4 S1,u4 F1,u4 S2,u4 F2,u4 (Bg c p b m),zT [.str "kept",.int (i:Int),.int (Ci b r x)],u5] G=.rt (.bl u6) G:=by
 have s:∀G,Bj (Bg c p b m) (.int 3) G=.ok (.int m) G:=λG=>rfl
 have E:=lw z _ (bZ (b:=b));have v:=mN (te:=Ze) (S:=[u5,u4 (Bg c p b m),zT [.str "kept",.int (i:Int),.int (Ci b r x)]]) (ys:=xs) (q:=λy=>YF b y (Ci b r x)) (G:=G) λy _=>by unfold Ze;simp[Ti]
 have n:=mO k;have B:lN (xs.map λy=>YF b y (Ci b r x))<=1000000:=by simp;lia
 have l:∀G,Jb (.str "kept") (.tup [.str "kept",.str "broken"]) G=.ok (.bl u7) G:=λG=>rfl
 have u:∀G,Bo (.int 8) (.int (t:Int)) G=.ok (.int (8*(t:Int))) G:=λG=>Eu (by lia) (by lia)
 have o:(i:Int)<8*(t:Int):=by lia
 have RV:∀a b c d e f g h i:Option D,Av 1 [6,7] [a,b,c,d,e,f,g,h,i]=[u5,g,h]:=λ_ _ _ _ _ _ _ _ _=>rfl
 generalize xs.map (λy=>YF b y (Ci b r x))=I,xs.map D.int=X at*;generalize Ci b r x=J at*;unfold Jh bH bG bF bE;simp[j,Ag,l,w,u,o,cn,s,Ti,E,RV,v,Dh U3,n,B]
end
def mP{a:Type}{d:a}(l:List a):(zQ (lN l)).map (λi=>l.getD i d)=l:=by apply qG (by simp);intro i g e;simp[zk,zX e]
theorem b7{n:Nat}{F F':Nat->Nat->Int}(h:∀i k,k<n->F i k<=F' i k):∀l:List Nat,LeF n (l.map F) (l.map F')
 |[]=>trivial
 |i::l=>⟨λk hk=>h i k hk,b7 h l⟩
def KN{n:Nat}(q:PL n l l')(i k:Nat)(hk:k<n):l.getD i (λ_=>0) k<=l'.getD i (λ_=>0) k:=by
 by_cases a:i<lN l
 .exact q.2 i a k hk
 rw[zk,zk,z0 (by lia),z0 (by rw[<-q.1];lia)];exact zL _
def Rr{n:Nat}{r:List (Nat->Int)}(e:∀x∈r,∀k,k<n->0<=x k):∀x∈(zV y r).flatten,∀k,k<n->0<=x k:=λx a=>by obtain⟨g,d,a⟩:=List.mem_flatten.mp a;rw[(List.mem_replicate.mp d).2]at a;exact e x a
structure Two (h:Hs) (lv lv':Nat->Int) (co co':Nat->Nat->Int) (l l':List (Nat->Int)) (t:Nat):Prop where
 g:SA h
 n4:h.n<=4
 so:UM h lv co
 so':UM h lv' co'
 hlv:∀k,k<h.n->lv k<=lv' k
 hco:∀k j,k<h.n->j<5->co k j<=co' k j
 l1:lN l=t
 l2:lN l'=t
 t0:0<t
 t4:t<=4
 yr:(t:Int)=h.yr
 f1:∀x∈l,∀k,k<h.n->0<=x k
 f2:∀x∈l',∀k,k<h.n->0<=x k
 u1:(UR h.n lv lv'&&PV 5 h.n co co')=u6
 u2:PL h.n l l'
section
variable{h:Hs}{lv lv':Nat->Int}{co co':Nat->Nat->Int}{l l':List (Nat->Int)}{t:Nat}{ns:List Int}{f:Nat->Int}{p c:Nat}{b:Bool}{m:Int}{G:DH}
def Na(w:Two h lv lv' co co' l l' t)(T:Cf ns f)(hp:p<h.n)(L:1<=c)(O:c<=5)(C:c≠1->(h.pl p).kd.SD=u6){d1 d2:D}:
  ∃(Y:Nat)(xs:List Int),lN xs<=1000/\freeze G (Jd [nD ns,h.enc,PB h.n lv co,PB h.n lv' co',.fl (Aa h.n l),.fl (Aa h.n l'),Bg c p b m,.tup [.str "kept",d1,d2]] G)=.ok (nD xs) G/\
   VR (Cp (h.Bk (zV Y l).flatten (lv,co) 0) p c) xs/\VR xs (Cp (h.Bk (zV Y l').flatten (lv',co') 0) p c):=by
 obtain⟨g,n4,P,H,I,E,l1,l2,t0,t4,yr,f1,f2,u1,u2⟩:=w;have U:=g.len;obtain⟨Y,hY,eY⟩:∃Y:Nat,Y<=16/\1+f 3/10%16=(Y:Int):=⟨(1+f 3/10%16).toNat,by lia,by lia⟩;have lT:∀r:List (Nat->Int),lN r=t->lN (zV Y r).flatten=Y*t:=λr e=>by rw[RJ,e]
 have YT:=j1 hY t4;have YN:=j1 YT n4;have hR:=mE u2 Y;have k1:=lT l l1;have k2:=lT l' l2;have g1:=Rr (y:=Y) f1;have g2:=Rr (y:=Y) f2;have q1:=Rv (n:=h.n) (l:=l) (y:=Y) (by lia) (by lia) (by lia) G;have q2:=Rv (n:=h.n) (l:=l') (y:=Y) (by lia) (by lia) (by lia) G;generalize eK:(zV Y l).flatten=K,eK':(zV Y l').flatten=u at*;have S:=mP (d:=λ_=>(0:Int)) K
 have v:=mP (d:=λ_=>(0:Int)) u;rw[k1]at S;rw[k2]at v;have F:=KN hR;have cA:=JW T U (B:=6+32*h.n) (by lia) I E G;have X:=JY T U (B:=6+32*h.n+4) (by lia) (t:=Y*t) ⟨by lia,by lia⟩ F G;rw[S,v]at X;have M:∀k,k<h.n->lv k<=YQ f (6+32*h.n) lv lv' k/\YQ f (6+32*h.n) lv lv' k<=lv' k:=λk hk=>b6 (I k hk)
 have W:∀k j,k<h.n->j<5->co k j<=NM f (6+32*h.n) co co' k j/\NM f (6+32*h.n) co co' k j<=co' k j:=λk j hk q=>b6 (E k j hk q)
 have Q:∀i k,k<h.n->K.getD i (λ_=>0) k<=QF f (6+32*h.n+4) h.n (λi=>K.getD i λ_=>0) (λi=>u.getD i λ_=>0) i k/\QF f (6+32*h.n+4) h.n (λi=>K.getD i λ_=>0) (λi=>u.getD i λ_=>0) i k<=u.getD i (λ_=>0) k:=λi k hk=>b6 (F i k hk)
 have A:UM h (YQ f (6+32*h.n) lv lv') (NM f (6+32*h.n) co co'):=⟨λk hk=>jk (P.t? k hk) (M k hk).1,λk hk hB=>by have L:=P.W? k hk hB;have O:=H.W? k hk hB;have h3:=M k hk;lia,λk j hk q=>jk (P.US k j hk q) (W k j hk q).1⟩
 have Z:=b7 (λi k hk=>(Q i k hk).1) (zQ (Y*t));have fB:=b7 (λi k hk=>(Q i k hk).2) (zQ (Y*t));rw[S]at Z;rw[v]at fB;have z:∀x∈(zQ (Y*t)).map (QF f (6+32*h.n+4) h.n (λi=>K.getD i λ_=>0) (λi=>u.getD i λ_=>0)),∀k,k<h.n->0<=x k:=λx hm k hk=>by
  obtain⟨i,N,rfl⟩:=zD.mp hm;refine jk ?_ (Q i k hk).1;have N:i<lN K:=by rw[k1];simpa using N
  rw[zk,zX N];exact g1 _ (qW N) k hk
 have lA:lN ((zQ (Y*t)).map (QF f (6+32*h.n+4) h.n (λi=>K.getD i λ_=>0) (λi=>u.getD i λ_=>0)))=Y*t:=by simp
 have e4:((6+32*h.n+4:Nat):Int)=((6+32*h.n:Nat):Int)+4:=by lia
 rw[e4]at X;generalize(zQ (Y*t)).map (QF f (6+32*h.n+4) h.n (λi=>K.getD i λ_=>0) (λi=>u.getD i λ_=>0))=J,YQ f (6+32*h.n) lv lv'=o,NM f (6+32*h.n) co co'=a at*;obtain⟨e,rA⟩:=Za g (s:=(o,a)) (by lia) A.US z G;have hx:lN (Cp (h.Bk J (o,a) 0) p c)<=1000:=by rw[Cp,zO,Qa,lA];lia
 refine⟨Y,Cp (h.Bk J (o,a) 0) p c,hx,KJ (λG=>Cr) Hs.Hh U (by lia) (T 3 (by lia)) eY cA q1 q2 X rA (Z5 (XQ g _ _ _) hp L O G) hx,by rw[eK];exact(Zi hp L O C (Z7 g K J (lv,co) (o,a) 0 P A g1 z (λk hk=>(M k hk).1) (λk j hk q=>(W k j hk q).1) Z).1),by rw[eK'];exact(Zi hp L O C (Z7 g J u (o,a) (lv',co') 0 A H z g2 (λk hk=>(M k hk).2) (λk j hk q=>(W k j hk q).2) fB).1)⟩
def v?:Jh [s0,s1,s2,s3,s4,s5,s6,u4 .WA,u5] G=.rt (.bl u6) G:=by have a:Hj .WA=u6:=rfl;unfold Jh;simp[a]
theorem w?(w:Two h lv lv' co co' l l' t)(hf:Cf ns f)(hp:p<h.n)(u:1<=c)(v:c<=5)(hk:(h.pl p).kd.ZK=NT c):
  U8 [zN ns,u4 h.enc,u4 (PB h.n lv co),zF (Aa h.n l),u4 (PB h.n lv' co'),zF (Aa h.n l'),u4 (Bg c p b m),u5,u5] G=.rt (.bl u6) G:=by
 have K:c≠1->(h.pl p).kd.SD=u6:=λz=>by unfold NT at hk;rw[if_neg z,Hi]at hk;exact hk
 have kp:=λd1 d2=>Na (b:=b) (m:=m) (d1:=d1) (d2:=d2) (G:=G) w hf hp u v K
 obtain⟨g,n4,I,d,hlv,hco,l1,l2,Z,t4,W,X,N,u1,u2⟩:=w;have U:∀G,Bj h.enc (.int 0) G=.ok (.int (t:Int)) G:=λG=>W▸Qk
 have B:((lN l:Nat):Int)=h.yr:=by lia
 have lF:lN (if b=u6 then l else l')=t:=by cases b<;>assumption
 have sF:∀k j,k<h.n->j<5->0<=(if b=u6 then lv else lv',if b=u6 then co else co').2 k j:=by
  cases b
  .exact d.US
  exact I.US
 have fF:∀fl∈(if b=u6 then l else l'),∀k,k<h.n->0<=fl k:=by cases b<;>assumption
 have T:((lN (if b=u6 then l else l'):Nat):Int)=h.yr:=by lia
 have step:∀R:D,M7 [h.enc,PB h.n lv co,PB h.n lv' co',.fl (Aa h.n l),.fl (Aa h.n l'),Bg c p b m] G=.ok R G->U8 [zN ns,u4 h.enc,u4 (PB h.n lv co),zF (Aa h.n l),u4 (PB h.n lv' co'),zF (Aa h.n l'),u4 (Bg c p b m),u5,u5] G=Jh [zN ns,u4 h.enc,u4 (PB h.n lv co),zF (Aa h.n l),u4 (PB h.n lv' co'),zF (Aa h.n l'),u4 (Bg c p b m),u4 R,u5] G:=λR e=>by unfold U8;simp[e]
 rcases lx 8 with a|⟨y,y1,y2,a1,a2⟩
 .obtain⟨L,eL⟩:=KA g (by lia) (by lia) I.US d.US X N B hp u v hk u1 u2 (by lia) a G;have F:=lf_X eL;rw[step _ F];exact v?
 have F:=lf_Y (KB g (by lia) (by lia) I.US d.US X N B hp u v hk (m:=m) u1 u2 (M:=8) (by lia) y2 a1 a2 G) b0;have eN:Cp ((zQ y).flatMap λw=>h.Bk (if b=u6 then l else l') (YE h (if b=u6 then l else l') (if b=u6 then lv else lv',if b=u6 then co else co') w) 0) p c=(zQ y).flatMap (Fw h (if b=u6 then l else l') (if b=u6 then lv else lv',if b=u6 then co else co') p c):=by
  unfold Cp;rw[List.map_flatMap]
  rfl
 rw[eN]at F;rw[step _ F];have lX:∀q:Nat,lN ((zQ q).flatMap (Fw h (if b=u6 then l else l') (if b=u6 then lv else lv',if b=u6 then co else co') p c))=q*t:=λq=>by rw[<-Ww T,Cp,zO,Qa,RJ,lF]
 have E:=lX y;have yt:y*t<=8*t:=jO _ y2;have yt1:1*t<=y*t:=jO _ y1;cases o:Ej b m ((zQ y).flatMap (Fw h (if b=u6 then l else l') (if b=u6 then lv else lv',if b=u6 then co else co') p c)) 0 with
 | some q=>
  obtain⟨i,x⟩:=q;have O:H8 b m ((zQ y).flatMap (Fw h (if b=u6 then l else l') (if b=u6 then lv else lv',if b=u6 then co else co') p c))=.tup [.str "broken",.int i,.int x]:=by unfold H8;rw[o]
  rw[O];obtain⟨_,i2,_⟩:=Ue o;rw[E]at i2;have dm:=Nat.div_add_mod i t;have ml:=Nat.mod_lt i Z;have hlt:i<(i/t+1)*t:=by rw[Nat.succ_mul,Nat.mul_comm (i/t)];lia
  have S:i/t+1<=y:=by have:i/t<y:=Nat.div_lt_of_lt_mul (by rw[Nat.mul_comm];lia);lia
  have sp:(zQ y).flatMap (Fw h (if b=u6 then l else l') (if b=u6 then lv else lv',if b=u6 then co else co') p c)=(zQ (i/t+1)).flatMap (Fw h (if b=u6 then l else l') (if b=u6 then lv else lv',if b=u6 then co else co') p c)++((zQ (y-(i/t+1))).map (i/t+1 + ·)).flatMap (Fw h (if b=u6 then l else l') (if b=u6 then lv else lv',if b=u6 then co else co') p c):=by rw[<-List.flatMap_append,<-List.range_add,Nat.add_sub_cancel' S]
  rw[sp]at o;have C:=mL o (by rw[lX];lia);rw[<-Ww T]at C;have Yl:(i/t+1)*t<=8*4:=j1 (by lia) t4;have J:∀r:List (Nat->Int),lN r=t->lN (zV (i/t+1) r).flatten<=1000:=λr e=>by rw[RJ,e];lia
  obtain⟨e1,r1⟩:=Za g (s:=(lv,co)) (J l l1) I.US (Rr X) G;obtain⟨e2,r2⟩:=Za g (s:=(lv',co')) (J l' l2) d.US (Rr N) G;have H:lN (Cp (h.Bk (zV (i/t+1) (if b=u6 then l else l')).flatten (if b=u6 then lv else lv',if b=u6 then co else co') 0) p c)<=1000:=by rw[Cp,zO,Qa];exact J _ lF
  have cn:=KI (SC:=ns.map D.int) (A:=Bg c p b m) (x:=x) (λG=>rfl) U Z (by lia) rfl (Rv (by lia) (by lia) (by lia) G) (Rv (by lia) (by lia) (by lia) G) r1 r2 (by
   cases b
   .exact Z5 (XQ g _ _ _) hp u v G
   exact Z5 (XQ g _ _ _) hp u v G) H
  exact KL C H U (by lia) (by lia) cn (lg (.inr ⟨_,_,rfl,rfl⟩) G)
 | none=>
  cases Q:(zQ y).flatMap (Fw h (if b=u6 then l else l') (if b=u6 then lv else lv',if b=u6 then co else co') p c)with
  |nil=>
   rw[Q]at E;simp at E;lia
  | cons x r=>
   rw[Q]at o E;have O:H8 b m (x::r)=.tup [.str "kept",.int ((x::r).idxOf (Ci b r x):Nat),.int (Ci b r x)]:=by unfold H8;rw[o]
   rw[O];obtain⟨Y,xs,H,cn,m1,m2⟩:=kp (.int ((x::r).idxOf (Ci b r x):Nat)) (.int (Ci b r x));have P:=u? (b:=b) (ys:=xs) (zs:=(zQ Y).flatMap (Fw h (if b=u6 then l else l') (if b=u6 then lv else lv',if b=u6 then co else co') p c)) (λz hz=>by
    rw[<-Q];exact KC g (by lia) sF fF hp u v a1 hz) (by
    rw[<-Ww T];cases b
    .exact m2
    exact m1)
   exact KM o H U (by lia) (zj (List.idxOf_lt_length_iff.mpr bZ) (by lia)) P cn (lg (.inr ⟨_,_,rfl,rfl⟩) G)
end
theorem KO(hl:lN ns<=63):∃G,K8 [nD ns] []=.ok (.bl u6) G:=by
 obtain⟨f,s⟩:=cells hl;obtain⟨u,hu1,v⟩:=HM s;have a:0<u:=by lia
 obtain⟨Q,hyr,cy⟩:=HP s;obtain⟨h,C,L⟩:=IE s ⟨by lia,by lia⟩ cy a v;have g:=C.good;have hn:=g.len;have hy:=C.ey;obtain⟨t,M,et⟩:∃t:Nat,t<=4/\h.yr=t:=⟨h.yr.toNat,by lia,by lia⟩;have K:6+14*h.n+t*h.n<=1000:=by have E:=j1 M hn;lia
 have cs:=IH s a v g;have N:=IJ s a v g K (by lia) [];have d:∀k b r q,k<h.n->(h.pl k).kd=.NA b r q->TF h f u k<=b:=λk b r q hk e=>(Yb g hk).2.1 b r q e
 have P:=JE s a v g (co:=OG h f u) d (fl:=YM h.n f u) (t:=t) (by lia) [];obtain⟨o,ho,S⟩:=JR s a v g C.one;have W:UM h (TF h f u) (OG h f u):=⟨λk hk=>(Yb g hk).1,λk hk=>(Yb g hk).2.2,λk j _ _=>IG a k j⟩;have w:Two h (TF h f u) (SH h f u (TF h f u)) (OG h f u) (ZH h f u (OG h f u)) ((zQ t).map (YM h.n f u)) ((zQ t).map (MM h f u (YM h.n f u))) t:=by
  refine⟨g,C.n4,W,JT a W d,λk hk=>Z9 d hk,λk j _ _=>Wr a k j,by simp,by simp,by lia,M,by lia,λx E k _=>?_,λx E k _=>?_,?_,by simp,λi y k hk=>?_⟩
  .obtain⟨i,_,rfl⟩:=zD.mp E;exact kI a i k
  .obtain⟨i,_,rfl⟩:=zD.mp E;exact jk (kI a i k) (lh a i k)
  .rw[li λk hk=>Z9 d hk,lj λi y k hk=>Wr a i k]
   rfl
  have y:i<t:=by simpa using y
  rw[ll y,ll y];exact lh a i k
 have O:∀G,Bj h.enc (.int 0) G=.ok (.int (t:Int)) G:=λG=>by rw[<-et];exact Qk
 generalize SH h f u (TF h f u)=z,ZH h f u (OG h f u)=B,(zQ t).map (MM h f u (YM h.n f u))=T,(zQ t).map (YM h.n f u)=l,TF h f u=Y,OG h f u=J at*;have X:freeze ([]:DH) (.ok (.ref 0) [.lst (Aa h.n l)])=.ok (.fl (Aa h.n l)) []:=Dh Qv;have U:tidy ([]:DH) (.ok (.bl u6) [])=.ok (.bl u6) []:=Az rfl;refine⟨[],?_⟩;cases o with
 |none=>
  have F:freeze ([]:DH) (.ok .WA [])=.ok .WA []:=Hr rfl;generalize Aa h.n l=F1,Aa h.n T=Z,PB h.n Y J=S1,PB h.n z B=S2,h.enc=H at*;have qn:Hj .WA=u6:=rfl;unfold K8 Zc bJ Z4 Yi Zq bI;rw[Af];simp[L,cs,O,N,X,P,S,F,Nq,U,qn]
 |some q=>
  obtain⟨c,p,b,m⟩:=q;obtain⟨h1,h2,hp,hk⟩:=ho c p b m rfl;have F:freeze ([]:DH) (.ok (Bg c p b m) [])=.ok (Bg c p b m) []:=Hr l6;have qi:Hj (Bg c p b m)=u7:=rfl;have I:∀G,Ra [nD ns,h.enc] G=.ok (Bg c p b m) G:=S;have tl:=w? (b:=b) (m:=m) (G:=[]) w s hp h1 h2 hk;generalize Aa h.n l=F1,Aa h.n T=Z,PB h.n Y J=S1,PB h.n z B=S2,Bg c p b m=A,h.enc=H at*;unfold K8 Zc bJ Z4 Yi Zq bI;rw[Af];simp[L,cs,O,N,X,P,I,F,qi,tl,U]
def holds:Holds:=λd a=>KO a
end _W
set_option maxRecDepth 100000
namespace _W
open PySem PySem.W _L _D
def mQ:∀w,(openEnds vv pw w 100000).map (λs=>(openSeen vw ["KINDS_ASKED"] (vX pw.main.body) (RW OO vw) u6 s,Rj asks s.heap))=u4 (openGood vw ["KINDS_ASKED"],Qg asks):=BV (by kernel_rfl) (λs=>rfl) mY
def walked:WalkO vw ["KINDS_ASKED"] (XL vw []) (ZN OO.prog 100000) OO.row.toRowW (OW Ik) [] λf vs=>qh f vs:=
 walk (l:=OO) (K:=λw=>Rf (J8 pw 100000 w)) rfl YZ holds (λw h Y=>Y.in) λw mg fa h KX G hmg=>all_mk KX G (show mg "law"=_ from hmg) (ef (BJ mQ w))
end _W
open PySem PySem.W PyProof.Rows _D
theorem PySem.Challenge.cw_sluiceway_k57_whole_for_ever_holds : PySem.Challenge.rw_sluiceway_k57_whole_for_ever.Holds := by
 refine holds_top (l:=_W.OO) (q:=_W.vw) (loose:=["KINDS_ASKED"]) (N:=100000) (see:=Rj _W.asks) (val:=Qg _W.asks) (d:=OW _W.Ik) ?_ ?_ ?_ ?_ ?_ ?_ ?_ ?_ ?_ ?_
 .exact _W.well
 .exact _W.mQ
 .exact _W.XZ
 .exact _W.hp
 .exact _W.hk
 .rfl
 .exact _W.OB
 .exact _W.Pe
 .exact _W.hw
 .exact _W.walked
