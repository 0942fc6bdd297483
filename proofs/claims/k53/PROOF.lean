import PyProof.Rows.All
import PySem.Challenge.RW_sluiceway_k53_asks_refused
import KE.KNestM
import KE.KIsAll
import KE.KSortTup
import Wide.FinOn
import Lean
set_option compiler.extract_closed false
set_option bootstrap.genMatcherCode false
set_option genSizeOf false
set_option Elab.async false
set_option linter.all false
set_option maxRecDepth 100000
open Option renaming some->u7,none->u8
open Bool renaming true->u9,false->uA
open PySem.W renaming Frag->za,nsIn->zb,findIn->zc,keepIn->zd,instObj->zf,emptyDict->zh,kas_sort->zi,InstAt->qa,hasDictIn->qc,callWith_K->qd,hideAll->qe,takerIn->qf,fnOf->qg,lookIn->jb,plainGet->jc,kitOne->ji,hideAll_get->xf,handedIn->xg,plainGet_of->xh,isFn->xi,any_some->vR,looks_findIn->vS,methodCall_KW->vT,cellsFrom_some->vU,codeIn->va,OpenLaw->vb,KasT->ve,kat_nil->vf,specialIn->vg,kitAny->wQ,of_hideAll->wK,hideAll_none->wq,plainOver->wz,set_plain->wj,looks_clsIn->wx,makesIn->wv,codeRec_of->ww,WalkO->wD,kat_one->uZ,kat_cons->uJ,kat_go->uX,kat_yes->uV,kat_no->uW,KatTups->uK,kas_ask->uY,kat_kind->uq,mg_of->uj,isNs_of_in->ux,readsIn->uv,findCls->uw,subIn->uk,findObj->uy,notCls->u0
open PySem.F renaming slot_tuple_iterator_next->jf,slot_enumerate_next->jg,slot_zip_next->jh,excBase_ValueError->vh,slot_tuple_add->w4,entry_tuple_add->w5,args_tuple_add_2->w6,entry_tuple_iterator_next->wM,args_tuple_iterator_next_1->wO,entry_enumerate_next->wS,args_enumerate_next_1->wa,slot_enumerate_iter->wb,entry_zip_next->wc,args_zip_next_1->wd,called_enumerate->we,entry_enumerate_new->wf,owner_object->wh
open PySem renaming mem_of_lookup->ze,call->qh,Within->xa
open PyProof.Rows renaming callWith_type1->zg,slot_tuple_getitem->jd,callWith_builtin1->wk,boot_enumerate->wg,boot_zip->uQ,boot_range->uz
open PySem.SeqAt.EqAt renaming int_str->wZ,str_int->wW
open PySem.SeqAt renaming notIn_listAt->w8,notIn_tupleAt->w9,ne_of_list_tuple->wE
open PySem.Builtin.SmallTypes renaming nextOf->qi,ownedTupleIsFree->vc,ownedTupleHandOut->vd,newClass->u3,newRecord->u4,ownedTupleFields->u5,fitsIndex->u6
open PySem.Builtin.List renaming listTooLong->je
open PySem.Builtin.Str renaming strSliceIndices->qb,occurrences->ja
open List renaming range->zZ,getElem?_eq_getElem->zJ,mem_cons_of_mem->zX,replicate->zV,mem_cons_self->zW,size_toArray->zK,mem_cons->zj,getElem?_map->zw,map_cons->zk,getElem?_eq_none->z7,mem_map->z9,getD_eq_getElem?_getD->zA,getElem?_eq_some_iff->zC,mem_append_right->zD,getElem?_append_right->zG,getElem?_range->zH,length_cons->zL,length_map->zM,drop_eq_getElem_cons->zO,length_append->zP,drop_of_length_le->zU,getElem?_append_left->qJ,replicate_succ->qX,append_nil->qV,filterMap_map->qW,set->qY,filterMap_cons->qq,getElem_of_mem->qj,getElem_mem->qx,mem_range->qw,filterMap_eq_map'->q8,all_eq_true->q9,map_congr_left->qB,lookup->qC,all_cons->qE,find?_cons->qF,flatten_cons->qG,append_assoc->qH,getElem?_set->qI,ext_getElem->qM,getElem?_set_ne->qN,nodup_cons->qR,length_nil->qS,range_succ_eq_map->qT,range_succ->qU,getElem?_eq_none_iff->jQ,mem_singleton->jX,mem_of_getElem?->jW,eq_nil_of_length_eq_zero->jK,getElem?_replicate->jq,map_map->jz,getElem?_set_self->jx,lookup_cons->jv,length_set->jy,pairwise_iff_getElem->j0,mem_append_left->j1,getElem?_take_of_lt->j2,length_take->j4,map_eq_nil_iff->j5,range'->j6,getElem?_cons_succ->j7,any_cons->j9,length_singleton->jC,ext_getElem?->jD,idxOf_lt_length_of_mem->jE,map_nil->jF,range_eq_range'->jG,getLast?_eq_getElem?->jH,mem_append->jI,foldl_cons->jM,mem_filterMap->jP,getElem?_cons_zero->jS,length_replicate->jT,length_drop->jU,set_append_right->xQ,take_length->xZ,zipIdx_cons->xJ,any_eq_true->xV,range'_succ->xW,of_mem_zip->xY,nil_append->xq,forIn_cons->xz,drop_zero->xk
open Nat renaming le_refl->zY,lt_of_lt_of_le->zq,le_trans->z6,ne_of_lt->z8,lt_irrefl->qQ,lt_succ_self->qZ,le_of_ble_eq_true->qD,lt_succ_of_lt->qP,ne_of_gt->jY,le_succ->jk,zero_le->jL,le_add_right->xX,lt_or_ge->xj,mul_le_mul->xw
open Int renaming le_refl->jJ,emod_lt_of_pos->jw,mul_nonneg->j3,emod_nonneg->jB,natCast_add->jO
open Option renaming map_eq_some_iff->zE,isSome_iff_exists->jV,map_some->jN
open Bool renaming false_ne_true->zy,and_eq_true->z5,and_eq_true_iff->qO,false_eq_true->j8,or_eq_true->jA
open Array renaming getElem?_eq_some_iff->qK,length_toList->qA,getElem?_toList->jZ,find?_toList->jR
open PySem.Heap renaming get?_push_of_some->zQ,lt_size->zx,get?_push_size->z0,get?_update_self->qz,size_push->qk,get?_update_other->qy,SameBut->qL,get?_none_of_le->xK
open PySem renaming Addr->xy,Around->x0,Expr->xA,FuncData->xB,NameKind->xC,Program->xD,Scope->xE,Shared->xF,Stmt->xG,Value->xH,World->xI,assignEach->xL,attributeBase->xM,backTo->xN,backToKw->xO,behindInMarks->xP,binaryOp->xR,bootBuiltins->xS,checkBuiltinCall->xT,codeAny_mono->xU,compareOp->vQ,importedModules->vZ,keywordEach->vJ,letOwnedTupleGo->vX,mainGlobals->vV,model->vW,rawInt->vK,sizeLine_eq->vY,sliceBounds->vq,starEach->vz,treeTable->vj,wpAny->vx,wpAny_Call_Name_kw->vv,wpAny_bind->vk,wpAny_callSpecial?_slot->vA,wpAny_call_entry->vB,wpAny_field->vC,wpAny_holding->vD,wpAny_mono->vE,wpAny_newObj_type->vF,wpAny_passesOwn->vG,wpAny_pure->vH,wpAny_setField_rec->vI,wpAny_truthy_bool->vL
open PySem.W renaming Frag->vM,boot_heap->vN,kas_rev->vO
set_option maxHeartbeats 0
noncomputable section
namespace _L
open PySem PySem.Spec PyProof.Rows
noncomputable def Dz(s:xG):Arguments:=match s with
 |.FunctionDef _ a _ _ _ _ _ _ _ _=>a
 |_=>{posonlyargs:=[],args:=[],vararg:=u8,kwonlyargs:=[],kw_defaults:=[],kwarg:=u8,defaults:=[]}
def Cj(s:xG):List xG:=match s with
 |.FunctionDef _ _ b _ _ _ _ _ _ _=>b
 |_=>[]
noncomputable def Ay(s:xG):xE:=match s with
 |.FunctionDef _ _ _ _ _ _ sc _ _ _=>sc
 |_=>{kind:=.function,names:=[],isGenerator:=uA,isCoroutine:=uA}
end _L
namespace _D
open PySem PySem.W _L
variable{h:Heap}{C:xy}{m x q:Str}{st:xG}{mg:Str->Option xH}
noncomputable def M9:List Obj->Nat->vM
 |[],_=>[]
 |o::r,n=>match o.cls,o.data with
  |.none,.fields _=>M9 r (n+1)
  |_,.freed=>M9 r (n+1)
  |_,_=>(n,o)::M9 r (n+1)
def Qv(h:Heap):vM:=M9 h.objs.toList 0
noncomputable def dOf(s:xG):DefRec:=match s with
 |Stmt.FunctionDef n a b _ _ _ s _ _ p=>⟨n,a,b,s,p⟩
 |_=>⟨Str.empty,⟨[],[],u8,[],[],u8,[]⟩,[],{kind:=.module,names:=[],isGenerator:=uA,isCoroutine:=uA,more:=[]},⟨0,0,0,0⟩⟩
abbrev XtOf(l:OpenLaw)(q:xD)(s:xF):Bool:=xlAt q [] s&&recOk l.row.toRowW.records s
def Aa(K:vM)(n:Str):xy:=match nsIn K vV n with
 |some (u7 (.ref f))=>f
 |_=>0
def gOk(K:vM)(n:Str):Bool:=match nsIn K vV n with
 |some (u7 (.ref _))=>u9
 |_=>uA
def Dk(K:vM)(C:xy)(m:Str):xy:=match findIn K (.ref C) m with
 |some (u7 (.ref f))=>f
 |_=>0
noncomputable def mOk(K:vM)(C:xy)(m:Str):Bool:=match findIn K (.ref C) m with
 |some (u7 (.ref f))=>isFn K (.ref f)
 |_=>uA
def noF(K:vM)(C:xy)(m:Str):Bool:=match findIn K (.ref C) m with
 |some u8=>u9
 |_=>uA
def zOk(K:vM)(n:Str):Bool:=match nsIn K vV n with
 |some u8=>u9
 |_=>uA
noncomputable def Tr(K:vM)(C:xy):Bool:=match findIn K (.ref C) "__setattr__" with
 |some (u7 (.builtin s))=>s == "object.__setattr__"
 |_=>uA
noncomputable def iOk(K:vM)(n:Str)(v:Int):Bool:=match nsIn K vV n with
 |some (u7 (.int u _))=>decide (u=v)
 |_=>uA
noncomputable def sOk(K:vM)(n:Str)(v:Str):Bool:=match nsIn K vV n with
 |some (u7 (.str u _))=>decide (u=v)
 |_=>uA
def Gb(K:vM)(f:xy):Obj:=match K.lookup f with
 |some o=>o
 |none=>⟨.none,u8,.plain,#[]⟩
def Am(K:vM)(f:xy):xB:=match(Gb K f).data with
 |.func fd=>fd
 |_=>default
def ZKY:xH->Bool
 |.none=>u9
 |_=>uA
def ZNN:FuncBody->Option (List xG)
 |.stmts b=>u7 b
 |_=>u8
noncomputable def Te(K:vM)(x q:Str)(f:xy):Bool:=match K.lookup f with
 |some ⟨_,_,.func fd,_⟩=>decide (fd.name=x)&&decide (fd.qualname=q)&&(fd.globals==vV&&fd.builtins==builtinsNs&&fd.closure.isEmpty&&ZKY fd.defaults)&&(codeIn K fd.code q&&keepIn K (.ref f))
 |_=>uA
abbrev DefTxt:=Arguments×Option (List xG)×xE
def M4(K:vM)(f:xy):DefTxt:=((Am K f).params,ZNN (Am K f).body,(Am K f).scope)
def Lk(st:xG):DefTxt:=(Dz st,u7 (Cj st),Ay st)
noncomputable def dfl(K:vM)(d:xH)(v:Int):Bool:=match d with
 | .ref T=>match K.lookup T with
  | some o=>(match o.data with
   |.seq a _=>(match a.toList with
    |[.int i _]=>decide (i=v)
    |_=>uA)
   |_=>uA)
  |none=>uA
 |_=>uA
def ZAv(K:vM)(x q:Str)(f:xy)(v:Int):Bool:=match K.lookup f with
 |some ⟨_,_,.func fd,_⟩=>decide (fd.name=x)&&decide (fd.qualname=q)&&(fd.globals==vV&&fd.builtins==builtinsNs&&fd.closure.isEmpty&&dfl K fd.defaults v)&&(codeIn K fd.code q&&keepIn K (.ref f))
 |_=>uA
def strsOf:List xH->Option (List Str)
 |[]=>u7 []
 |.str s _::r=>(strsOf r).map (s::·)
 |_::_=>u8
noncomputable def ZAN(K:vM)(n:Str)(vs:List Str):Bool:=match nsIn K vV n with
 | some (u7 (.ref p))=>(match K.lookup p with
   |some ⟨.type t,_,.seq its _,_⟩=>t == "tuple"&&decide (strsOf its.toList=u7 vs)&&Nat.ble its.toList.length 1000
   |_=>uA)
 |_=>uA
noncomputable def ZAZ(K:vM)(n:Str)(kvs:List (Str×Str)):Bool:=match nsIn K vV n with
 | some (u7 (.ref p))=>(match K.lookup p with
   |some ⟨.type t,_,.dict es _,_⟩=>t == "dict" && !(p==sysModules)&&decide (strsOf (es.toList.map (·.key))=u7 (kvs.map (·.1)))&&decide (strsOf (es.toList.map (·.val))=u7 (kvs.map (·.2)))
   |_=>uA)
 |_=>uA
inductive Ask where
 |fn (n:Str) (st:xG)
 |mt (c m q:Str) (st:xG)
 |cl (c:Str)
 |no (c x:Str)
 |z (n:Str)
 |gi (n:Str) (v:Int)
 |gs (n v:Str)
 |gt (n:Str) (vs:List Str)
 |gd (n:Str) (kvs:List (Str×Str))
 |ck (φ:vM->Bool)
 |fd (n:Str) (st:xG) (v:Int)
def Ask.chk(K:vM):Ask->Bool
 |.fn n _=>gOk K n&&Te K n n (Aa K n)
 |.mt c m q _=>mOk K (Aa K c) m&&Te K m q (Dk K (Aa K c) m)
 |.cl c=>gOk K c&&(plainGet K (Aa K c) Str.empty&&hasDictIn K (Aa K c)&&plainOver K (Aa K c))&&(Tr K (Aa K c)&&makesIn K (Aa K c)&&keepIn K (.ref (Aa K c)))
 |.no c x=>noF K (Aa K c) x
 |.z n=>zOk K n
 |.gi n v=>iOk K n v
 |.gs n v=>sOk K n v
 |.gt n vs=>ZAN K n vs
 |.gd n kvs=>ZAZ K n kvs
 |.ck φ=>φ K
 |.fd n _ v=>gOk K n&&ZAv K n n (Aa K n) v
noncomputable def Ask.txt(K:vM):Ask->Option DefTxt
 |.fn n _=>u7 (M4 K (Aa K n))
 |.mt c m _ _=>u7 (M4 K (Dk K (Aa K c) m))
 |.fd n _ _=>u7 (M4 K (Aa K n))
 |_=>u8
def Ask.want:Ask->Option DefTxt
 |.fn _ st=>u7 (Lk st)
 |.mt _ _ _ st=>u7 (Lk st)
 |.fd _ st _=>u7 (Lk st)
 |_=>u8
def Ry(l:List Ask)(h:Heap):Bool×List (Option DefTxt):=(l.all (Ask.chk (Qv h)),l.map (Ask.txt (Qv h)))
abbrev Q3(l:List Ask):Bool×List (Option DefTxt):=(u9,l.map Ask.want)
noncomputable def V7(p:xD)(w:xI)(n₀:Nat)(ann:Option xH):Nat->SharedT->Thread->Option SharedT
 |0,_,_=>u8
 | n+1,s,t=>match through t with
  |true=>u7 s
  | false=>match PySem.W.Fast.tw6613529449190102663 n₀ ann t with
   |false=>u8
   |true=>match PySem.W.Fast.tw10156331382660048174 (PySem.W.Fast.tw11892475500146522536 PySem.W.Fast.tw14364793385576792824) p w s t with
    |some (s',t')=>V7 p w n₀ ann n s' t'
    |none=>u8
def ZBz:List Obj->Nat->BT->BT
 |[],_,t=>t
 |o::r,n,t=>ZBz r (n+1) (t.ins n o)
noncomputable def ZGF(w:xI)(os:OsState):SharedT:=⟨ZBz (vN w.params).objs.toList 0 .nil,(vN w.params).objs.size,(vN w.params).life,Array.mk [],boot_drawn,boot_toks,os⟩
def R0(p:xD)(w:xI)(os:OsState):Option SharedT:=V7 p w (vN w.params).objs.size (PySem.W.Fast.tw8920871248978507458 (vN w.params) vV "__annotations__") 100000 (ZGF w os) (topStub p)
noncomputable def Qh(p:xD)(w:xI)(s:xF):Bool:=staticsOk (PySem.W.Fast.tw5923862056798008813 p.main.body) (vN w.params) s.heap&&namesBound p s.heap&&gensDone s&&laidKept (vN w.params) s.heap
theorem ZK8(h:PySem.W.Fast.tw9446332074065402090 l=u9):l.wellSaid=u9:=by rw[PySem.W.Fast.te9446332074065402090];exact h
noncomputable def ftW(w:xI)(b:Bool):xI:={w with params:={w.params with followText:=λx=>match x == "special-get-raises" with |true=>b|false=>w.params.followText x}}
theorem ZKf(w:xI):ftW w (w.params.followText "special-get-raises")=w:=by
 obtain⟨d,p⟩:=w;obtain⟨K,H,F,J,B,f,I,C,z,c,m,n,y,j,k,i,o,v,t,q,r,b,l,u,g⟩:=p
 have e:(λx:String=>match x == "special-get-raises" with |true=>f "special-get-raises"|false=>f x)=f:=by
  funext x;cases h:x == "special-get-raises" with
  |true=>rw[beq_iff_eq.mp h]
  |false=>rfl
 unfold ftW;dsimp only;rw[e]
theorem ZON{P:xI->Prop}(d:∀w,P (ftW w u9))(c:∀w,P (ftW w uA)):∀w,P w:=λw=>by
 have h:∀b,P (ftW w b):=λb=>by cases b;exact c w;exact d w
 have:=h (w.params.followText "special-get-raises");rwa[ZKf]at this
abbrev vmro:List xH:=[.type "ValueError",.type "Exception",.type "BaseException",.type "object"]
noncomputable def Ez(K:za)(C:xy):Bool:=match K.lookup C with
 |some ⟨.type "type",_,.cls cd,sl⟩=>(match cd.mro,sl.toList with
  |.ref C'::bm,[_,_,_,_,u7 (.builtin n),_]=>C'==C&&n == "ValueError.__new__" && !cd.hasDel&&cd.hasDict&&PySem.W.tailIn K vmro bm&&PySem.W.nsOkIn K cd.ns
  |_,_=>uA)
 |_=>uA
noncomputable def Lf(K:za)(C f:xy):Bool:=match K.lookup C with
 |some ⟨_,_,.cls cd,_⟩=>zb K cd.ns "__init__"==u7 (u7 (.ref f))
 |_=>uA
def tyN:xH->String
 |.type n=>n
 |_=>""
def isRf:xH->Bool
 |.ref _=>u9
 |_=>uA
noncomputable def Q4:List xH->Bool
 |[]=>uA
 |a::r=>(isRf a&&Q4 r)||decide ((a::r).map tyN=["ValueError","Exception","BaseException","object"])
def U9(K:za)(C:xy):Bool:=(PySem.W.clsIn K C).any λcd=>Q4 cd.mro
def isB(r:Option (Option xH))(n:String):Bool:=match r with
 |some (u7 (.builtin m))=>m==n
 |_=>uA
def Fe(r:Option Bool)(b:Bool):Bool:=match r with
 |some c=>c==b
 |_=>uA
def Oh{α:Type}(r:Option (Option α)):Bool:=match r with
 |some u8=>u9
 |_=>uA
def Xz(K:vM)(a:xy):Bool:=match K.lookup a with
 |some ⟨.type t,_,_,_⟩=>t == "function"
 |_=>uA
def ZAx(c f:Str)(K:vM):Bool:=gOk K c&&keepIn K (.ref (Aa K c))&&(Ez K (Aa K c)&&Tr K (Aa K c)&&U9 K (Aa K c)&&Oh (takerIn K (Aa K c) f)&&hasDictIn K (Aa K c))&&Lf K (Aa K c) (Dk K (Aa K c) "__init__")&&Xz K (Dk K (Aa K c) "__init__") &&
 (isB (findIn K (.ref (Aa K c)) "__getattribute__") "BaseException.__getattribute__"&&Oh (findIn K (.ref (Aa K c)) "__getattr__")&&Fe (subIn K (.ref (Aa K c)) (.type "BaseException")) u9&&isB (findIn K (.ref (Aa K c)) "__class__") "object.__class__" &&
  isB (specialIn K (.builtin "object.__class__") "__get__") "getset_descriptor.__get__"&&Fe (takesIn K (.builtin "object.__class__")) u9&&Fe (mroIn K (Aa K c) (.type "object")) u9&&Fe (kitCls K (.ref (Aa K c)) (.ref (Aa K c))) u9)&&noF K (Aa K c) f
def Y6(r:Option CFound)(n:String):Bool:=match r with
 |some (.val (.builtin m))=>m==n
 |_=>uA
noncomputable def ZAn(x:Str)(K:vM):Bool:=gOk K x&&isB (specialIn K (.ref (Aa K x)) "__getattribute__") "type.__getattribute__"&&readsIn K (Aa K x) (.type "type")&&Y6 (findCls K (.ref (Aa K x)) (.type "type") "__init__") "ValueError.__init__"
def Il(K:za)(C W:xy)(b:Bool):Bool:=Ez K C&&Ez K W&&match K.lookup C with
 |some ⟨_,_,.cls cd,_⟩=>cd.mro.contains (.ref W)==b
 |_=>uA
def U5(K:vM)(C:xy):Bool:=match K.lookup C with
 |some ⟨_,_,.cls cd,_⟩=>Oh (nsIn K cd.ns "__init__")
 |_=>uA
def et0Ok(c:Str)(K:vM):Bool:=gOk K c&&keepIn K (.ref (Aa K c))&&(Ez K (Aa K c)&&hasDictIn K (Aa K c))&&U5 K (Aa K c) &&
 (isB (findIn K (.ref (Aa K c)) "__getattribute__") "BaseException.__getattribute__"&&Oh (findIn K (.ref (Aa K c)) "__getattr__")&&Fe (subIn K (.ref (Aa K c)) (.type "BaseException")) u9&&isB (findIn K (.ref (Aa K c)) "__class__") "object.__class__" &&
  isB (specialIn K (.builtin "object.__class__") "__get__") "getset_descriptor.__get__"&&Fe (takesIn K (.builtin "object.__class__")) u9&&Fe (mroIn K (Aa K c) (.type "object")) u9&&Fe (kitCls K (.ref (Aa K c)) (.ref (Aa K c))) u9)
def pss:xG:=.Pass ⟨0,0,0,0⟩
def clN:xG->Str×List xG
 |.ClassDef n [] _ b _ _ _ _ _ _ _=>(n,b)
 |_=>(Str.empty,[])
noncomputable def mtA(n:Str)(s:xG):Ask:=match s with
 |.FunctionDef m _ _ _ _ _ _ _ _ _=>.mt n m (n++"."++m) s
 |_=>.ck λ_=>u9
def noA(n:Str):xG->Ask
 |.Assign [.Attribute _ x _] _ _=>.no n x
 |_=>.ck λ_=>u9
def askC(s:xG):List Ask:=(clN s).2.map (mtA (clN s).1)++(clN s).2.flatMap λf=>(Cj f).map (noA (clN s).1)
noncomputable def Qq(s:xG):Ask:=match s with
 |.FunctionDef n a _ _ _ _ _ _ _ _=>(match a.defaults with
  |[]=>.fn n s
  |[.Constant (.int v) _ _]=>.fd n s v
  |_=>.ck λ_=>u9)
 |.ClassDef n [] _ _ _ _ _ _ _ _ _=>.cl n
 |.Assign [.Name x _] (.Constant c _ _) _=>(match c with
  |.int v=>.gi x v
  |.str v=>if x == "__name__" then .ck λ_=>u9 else .gs x v
  |_=>.ck λ_=>u9)
 |_=>.ck λ_=>u9
noncomputable def zAs:List Ask:=(["all","bool","enumerate","int","isinstance","len","list","max","min","range","set","sorted","str","sum","tuple","zip","ValueError"]:List Str).map .z
def Zm(b:List xG)(ex:List Ask):List Ask:=ex++(zAs++(b.flatMap askC++b.map Qq))
abbrev nth(b:List xG)(i:Nat):xG:=b.getD i pss
end _D
namespace _W
open PySem PySem.W _L _D
abbrev body:List xG:=PySem.Challenge.pw_sluiceway_k53_asks_refused.main.body
abbrev top(i:Nat):xG:=nth body i
noncomputable def inC(s:xG)(j:Nat):xG:=match s with
 |.ClassDef _ _ _ body _ _ _ _ _ _ _=>body.getD j (.Pass ⟨0,0,0,0⟩)
 |_=>.Pass ⟨0,0,0,0⟩
abbrev Yg:=inC (top 12) 0
abbrev Jl:=top 95
abbrev m1 (a b:Str) (v:Bool) (K:za):Bool:=Fe (ji K (.ref (Aa K a)) (.ref (Aa K b))) v abbrev mb (a:Str) (b:String) (v:Bool) (K:za):Bool:=Fe (ji K (.ref (Aa K a)) (.type b)) v abbrev mt (a:Str) (b:List Str) (v:Bool) (K:za):Bool:=Fe (wQ K (.ref (Aa K a)) (b.map λw=>Value.ref (Aa K w))) v abbrev tk (a b:Str) (v:Bool) (K:za):Bool:=Il K (Aa K a) (Aa K b) v abbrev gK (a:Str) (K:za):Bool:=gOk K a def exs:List Ask:=[.gt "SENSES" ["least","most"],.gd "KINDS_ASKED" [("lies","basin"),("spilled","basin"),("let","basin"),("pumped","basin"),("took","town")],.mt "TooLong" "__init__" "TooLong.__init__" Yg,.ck (ZAx "TooLong" "most"),.ck (et0Ok "NoAsk"),.ck (et0Ok "NoBounds"),.ck (ZAn "WaterError"),.ck (gK "NoAsk"),.ck (gK "NoBounds"),.ck (gK "NoHouse"),.ck (gK "NoLevel"),.ck (gK "NoName"),.ck (gK "NoNumber"),.ck (gK "NoPump"),.ck (gK "NoRiver"),.ck (gK "NoRow"),.ck (gK "NoRule"),.ck (gK "NoText"),.ck (gK "NoWay"),.ck (gK "TooLong"),.ck (gK "WaterError"),.ck (tk "NoAsk" "NoAsk" u9),.ck (tk "NoAsk" "TooLong" uA),.ck (tk "NoAsk" "WaterError" u9),.ck (tk "NoBounds" "NoAsk" uA),.ck (tk "NoBounds" "NoBounds" u9),.ck (tk "NoBounds" "TooLong" uA),.ck (tk "NoBounds" "WaterError" u9),.ck (tk "TooLong" "TooLong" u9),.ck (tk "TooLong" "WaterError" u9),.ck (m1 "NoAsk" "NoBounds" uA),.ck (m1 "NoBounds" "NoBounds" u9),.ck (m1 "TooLong" "NoBounds" uA),.ck (m1 "NoAsk" "TooLong" uA),.ck (m1 "NoBounds" "TooLong" uA),.ck (m1 "TooLong" "TooLong" u9),.ck (mb "NoAsk" "ValueError" u9),.ck (mb "NoBounds" "ValueError" u9),.ck (mb "TooLong" "ValueError" u9),.ck (mt "NoAsk" ["NoAsk","NoBounds"] u9),.ck (mt "NoBounds" ["NoAsk","NoBounds"] u9),.ck (mt "TooLong" ["NoAsk","NoBounds"] uA),.ck (mt "NoAsk" ["NoHouse","NoName","NoNumber","NoPump","NoRiver"] uA),.ck (mt "NoBounds" ["NoHouse","NoName","NoNumber","NoPump","NoRiver"] uA),.ck (mt "TooLong" ["NoHouse","NoName","NoNumber","NoPump","NoRiver"] uA),.ck (mt "NoAsk" ["NoLevel","NoRow","NoRule","NoText","NoWay"] uA),.ck (mt "NoBounds" ["NoLevel","NoRow","NoRule","NoText","NoWay"] uA),.ck (mt "TooLong" ["NoLevel","NoRow","NoRule","NoText","NoWay"] uA)]
def asks:List Ask:=Zm body exs
abbrev rw_:OpenLaw:=PySem.Challenge.rw_sluiceway_k53_asks_refused
abbrev pw:xD:=OpenLaw.prog PySem.Challenge.rw_sluiceway_k53_asks_refused
def vw:xD:=view pw (zZ 96)
def fA{α β γ δ ε:Type}(a:α×β×γ×δ×ε):=match a with|(a,b,c,d,_)=>(a,b,c,d)
def fB{α β γ δ ε:Type}(a:α×β×γ×δ×ε):=match a with|(_,_,_,_,x)=>x
theorem pT{S α β γ δ ε:Type}{o:Option S}{f:S->α×β×γ×δ×ε}{a}(h:o.map (λs=>((f s).1,(f s).2.1,(f s).2.2.1,(f s).2.2.2.1))=u7 (fA a))(k:o.map (λs=>(f s).2.2.2.2)=u7 (fB a)):o.map f=u7 a:=by cases o with
 |none=>cases h
 |some s=>
  obtain⟨_,_,_,_,_⟩:=a
  cases h;cases k;rfl
theorem pU{S α β γ:Type}{o:Option S}{x:S->α}{y:S->β}{z:S->γ}{a b c}(h:o.map y=u7 b)(k:o.map (λs=>(x s,z s))=u7 (a,c)):o.map (λs=>(x s,y s,z s))=u7 (a,b,c):=by cases o with
 |none=>cases h
 |some s=>cases h;cases k;rfl
noncomputable abbrev Zs:=PySem.W.Fast.tw4187177175401517315 vw ["KINDS_ASKED"] (PySem.W.Fast.tw5923862056798008813 pw.main.body) (XtOf rw_ vw) u9
noncomputable abbrev ZQ:=openGood vw ["KINDS_ASKED"]
theorem ZHqb:∀w os,(R0 pw (ftW w u9) os).map (λs=>((Zs s.abs).1,(Zs s.abs).2.1,(Zs s.abs).2.2.1,(Zs s.abs).2.2.2.1))=u7 (fA ZQ):=λw os=>by kernel_rfl
theorem ZHqc:∀w os,(R0 pw (ftW w u9) os).map (λs=>(Zs s.abs).2.2.2.2)=u7 (fB ZQ):=λw os=>by kernel_rfl
theorem ZHqa:∀w os,(R0 pw (ftW w u9) os).map (λs=>(Qh pw (ftW w u9) s.abs,Ry asks s.abs.heap))=u7 (u9,Q3 asks):=λw os=>by kernel_rfl
theorem ZHq:∀w os,(R0 pw (ftW w u9) os).map (λs=>(Qh pw (ftW w u9) s.abs,Zs s.abs,Ry asks s.abs.heap))=u7 (u9,ZQ,Q3 asks):=λw os=>pU (pT (a:=ZQ) (ZHqb w os) (ZHqc w os)) (ZHqa w os)
theorem ZJNb:∀w os,(R0 pw (ftW w uA) os).map (λs=>((Zs s.abs).1,(Zs s.abs).2.1,(Zs s.abs).2.2.1,(Zs s.abs).2.2.2.1))=u7 (fA ZQ):=λw os=>by kernel_rfl
theorem ZJNc:∀w os,(R0 pw (ftW w uA) os).map (λs=>(Zs s.abs).2.2.2.2)=u7 (fB ZQ):=λw os=>by kernel_rfl
theorem ZJNa:∀w os,(R0 pw (ftW w uA) os).map (λs=>(Qh pw (ftW w uA) s.abs,Ry asks s.abs.heap))=u7 (u9,Q3 asks):=λw os=>by kernel_rfl
theorem ZJN:∀w os,(R0 pw (ftW w uA) os).map (λs=>(Qh pw (ftW w uA) s.abs,Zs s.abs,Ry asks s.abs.heap))=u7 (u9,ZQ,Q3 asks):=λw os=>pU (pT (a:=ZQ) (ZJNb w os) (ZJNc w os)) (ZJNa w os)
theorem ZOK:∀w os,(R0 pw w os).map (λs=>(Qh pw w s.abs,PySem.W.Fast.tw4187177175401517315 vw ["KINDS_ASKED"] (PySem.W.Fast.tw5923862056798008813 pw.main.body) (XtOf rw_ vw) u9 s.abs,Ry asks s.abs.heap))=u7 (u9,openGood vw ["KINDS_ASKED"],Q3 asks):=ZON ZHq ZJN
theorem well:rw_.wellSaid=u9:=ZK8 (by kernel_rfl)
theorem hdef:defOf vw rw_.row.name=u7 (dOf Jl,[]):=by kernel_rfl
theorem hp:rw_.row.prog.theDef rw_.row.name=u7 ((dOf Jl).params,(dOf Jl).body,(dOf Jl).scope):=by kernel_rfl
theorem hk:kwWritten? (dOf Jl).params.kwonlyargs (dOf Jl).params.kw_defaults=u7 []:=by kernel_rfl
theorem hok:(chainsOk vw&&opensWell rw_.row.prog&&(frees rw_.row.toRowW&&rw_.row.within.isEmpty))=u9:=by kernel_rfl
theorem hdf:(dOf Jl).params.defaults=[]:=by kernel_rfl
theorem hbare:rw_.row.prog.bare:=⟨rfl,rfl,rfl,rfl,rfl,by decide +kernel⟩
theorem hw:rw_.row.toRowW.promised:=by w_witness2
end _W
namespace _L
open PySem PySem.Spec PyProof.Rows
variable{t':Nat}{s:xF}{vP:List (xy×Obj)}{tg:xA}{P:xD}
abbrev Key:=Sum Int Str
def Ot:Key->xH->Bool
 |.inl k,v=>Value.isInt k v
 |.inr x,v=>Value.isStrOf x v
def keyH(w:xI):Key->Int
 |.inl k=>hashInt k
 |.inr x=>hashStr w x
theorem Jf:∀{k:Key}{v:xH},Ot k v=u9->(∃i t,k=Sum.inl i/\v=Value.int i t)\/(∃x t,k=Sum.inr x/\v=Value.str x t)
 |.inl i,v,h=>by obtain⟨t,e⟩:=Value.isInt_shape h;exact .inl ⟨i,t,rfl,e⟩
 |.inr x,v,h=>by obtain⟨t,e⟩:=Value.isStrOf_shape h;exact .inr ⟨x,t,rfl,e⟩
theorem ZIm(i:Int)(t:Tok):Ot (.inl i) (.int i t)=u9:=by simp[Ot,Value.isInt]
theorem ZRF(x:Str)(t:Tok):Ot (.inr x) (.str x t)=u9:=by simp[Ot,Value.isStrOf]
theorem ZLL(a b:Int):decide ((Sum.inl a:Key)=Sum.inl b)=(a==b):=by
 by_cases e:a=b
 .subst e;simp
 rw[decide_eq_false (λq=>e (Sum.inl.inj q))];exact(beq_eq_false_iff_ne.mpr e).symm
theorem ZOb(a b:Str):decide ((Sum.inr a:Key)=Sum.inr b)=decide (a=b):=by
 by_cases e:a=b
 .subst e;simp
 rw[decide_eq_false (λq=>e (Sum.inr.inj q)),decide_eq_false e]
theorem ZJX(a:Int)(b:Str):decide ((Sum.inl a:Key)=Sum.inr b)=uA:=decide_eq_false (nofun)
theorem ZPn(a:Str)(b:Int):decide ((Sum.inr a:Key)=Sum.inl b)=uA:=decide_eq_false (nofun)
noncomputable def G7(prog:xD)(w:xI):PySem.KeyKind prog w Key where
 is:=Ot
 hash:=keyH w
 inj:=λv a b ha hb=>by
  rcases Jf ha with⟨i,t,rfl,rfl⟩|⟨x,t,rfl,rfl⟩
  .rcases Jf hb with⟨j,u,rfl,e⟩|⟨y,u,rfl,e⟩
   .injection e with e1 _;rw[e1]
   .exact nomatch e
  .rcases Jf hb with⟨j,u,rfl,e⟩|⟨y,u,rfl,e⟩
   .exact nomatch e
   .injection e with e1 _;rw[e1]
 byValue:=λk v h=>by rcases Jf h with⟨i,t,rfl,rfl⟩|⟨x,t,rfl,rfl⟩<;>rfl
 pyHash:=λhv h=>by
  rcases Jf hv with⟨i,t,rfl,rfl⟩|⟨x,t,rfl,rfl⟩
  .exact wpAny_pyHash_int h
  .exact wpAny_pyHash_str h
 eqBool:=λhu hv h=>by
  rcases Jf hu with⟨i,t,rfl,rfl⟩|⟨x,t,rfl,rfl⟩
  .rcases Jf hv with⟨j,u,rfl,rfl⟩|⟨y,u,rfl,rfl⟩
   .rw[ZLL]at h;exact wpAny_eqBool_int h
   .rw[ZJX]at h;exact wZ i t y u _ _ _ _ h
  .rcases Jf hv with⟨j,u,rfl,rfl⟩|⟨y,u,rfl,rfl⟩
   .rw[ZPn]at h;exact wW x t j u _ _ _ _ h
   .rw[ZOb]at h;exact wpAny_eqBool_str h
 «strs»:=λk x t v h=>by
  rcases Jf h with⟨i,u,rfl,e⟩|⟨y,u,rfl,e⟩
  .exact nomatch e
  .injection e with e1 _
   subst e1
   cases v<;>rfl
theorem ZII(prog:xD)(w:xI)(i:Int)(t:Tok):(G7 prog w).is (.inl i) (.int i t)=u9:=ZIm i t
theorem ZP3(prog:xD)(w:xI)(x:Str)(t:Tok):(G7 prog w).is (.inr x) (.str x t)=u9:=ZRF x t
inductive V where
 |non|bl (b:Bool)|int (i:Int)|str (x:Str)|byt (b:Array UInt8)|flt (b:UInt64)|ref (a:xy)|ty (n:String)
 deriving DecidableEq
def RelV:V->xH->Prop
 |.non,u=>u=Value.none
 |.bl b,u=>u=Value.bool b
 |.int i,u=>∃t,u=Value.int i t
 |.str x,u=>∃t,u=Value.str x t
 |.byt b,u=>∃t,u=Value.bytes b t
 |.flt b,u=>∃t,u=Value.float b t
 |.ref a,u=>u=Value.ref a
 |.ty n,u=>u=Value.type n
abbrev Vals:List V->List xH->Prop:=Paired RelV
theorem Vals.length{xs:List V}{us:List xH}(r:Vals xs us):xs.length=us.length:=Paired.length r
theorem Vals.get:∀{xs:List V}{us:List xH}{i:Nat}{x:V},Vals xs us->xs[i]?=u7 x->∃u,us[i]?=u7 u/\RelV x u
 |_,_,_,_,.nil,e=>by simp at e
 |_,_,0,_,.cons r _,e=>by simp at e;subst e;exact⟨_,rfl,r⟩
 |_,_,i+1,x,.cons _ t,e=>by obtain⟨u,j,d⟩:=Vals.get t (by simpa using e);exact⟨u,by simpa using j,d⟩
theorem Vals.set(r:RelV x u):∀{xs:List V}{us:List xH}(i:Nat),Vals xs us->Vals (xs.set i x) (us.set i u)
 |_,_,_,.nil=>.nil
 |_,_,0,.cons _ t=>.cons r t
 |_,_,i+1,.cons q t=>.cons q (Vals.set r i t)
theorem Vals.append:∀{xs ys:List V}{us ws:List xH},Vals xs us->Vals ys ws->Vals (xs++ys) (us++ws)
 |_,_,_,_,.nil,s=>s
 |_,_,_,_,.cons r t,s=>.cons r (Vals.append t s)
theorem Vals.take:∀{xs:List V}{us:List xH}(n:Nat),Vals xs us->Vals (xs.take n) (us.take n)
 |_,_,0,_|_,_,_+1,.nil=>.nil
 |_,_,n+1,.cons r t=>.cons r (Vals.take n t)
theorem Vals.drop:∀{xs:List V}{us:List xH}(n:Nat),Vals xs us->Vals (xs.drop n) (us.drop n)
 |_,_,0,r=>r
 |_,_,_+1,.nil=>.nil
 |_,_,n+1,.cons _ t=>Vals.drop n t
def RelO:Option V->Option xH->Prop
 |some v,u7 u=>RelV v u
 |none,u8=>True
 |_,_=>False
def KV{κ:Type}:List (κ×V)->List (κ×xH)->Prop:=Paired λ(p:κ×V)(q:κ×xH)=>p.1=q.1/\RelV p.2 q.2
def kV:Key->V
 |.inl i=>.int i
 |.inr x=>.str x
inductive HO where
 |lst (xs:List V)
 |tup (xs:List V)
 |dK (kvs:List (Key×V))|dT (kvs:List (List Key×V))
 |set (S:Int->Bool) (n:Nat)
 |ins (C dx:xy) (fs:List (Str×V))
 |own (x:xy)
 |xd (fs:List (Str×V))
 |met (f x:xy)
 |rng (lo hi:Int)
 |frz (o:Obj) (u:HO)
 |tbl (ps:Array xH)
 |ext (φ:Heap->Prop)
abbrev Hp:=xy->Option HO
def upd(H:Hp)(a:xy)(o:HO):Hp:=λb=>if b=a then u7 o else H b
theorem Dy:upd H a o a=u7 o:=by unfold upd;rw[if_pos rfl]
theorem Ai(h:b≠a):upd H a o b=H b:=by unfold upd;rw[if_neg h]
theorem Ge{H:Hp}{a b:xy}{o:HO}(h:H a=u7 o)(h':H b=u8):a≠b:=by intro e;subst e;rw[h]at h';cases h'
section
variable(P:xD)(w:xI)
def ObjOk(H:Hp)(h:Heap)(a:xy):HO->Prop
 |.lst xs=>xs.length<=sizeLine/\∃(its:List xH)(n:Nat),Vals xs its/\h.get? a=u7 {cls:=.type "list",data:=.seq its.toArray n}
 |.tup xs=>xs.length<=sizeLine/\∃its:List xH,Vals xs its/\IsTup h a its.toArray
 |.dK kvs=>kvs.length<=sizeLine/\(a==sysModules)=uA/\∃vs,KV kvs vs/\h.DictOf (G7 P w) a vs
 | .dT kvs=>kvs.length<=sizeLine/\(a==sysModules)=uA/\∃xs:List (List Key×xy×xH),
   Paired (λ(p:List Key×V)(q:List Key×xy×xH)=>p.1=q.1/\H q.2.1=u7 (.tup (p.1.map kV))/\RelV p.2 q.2.2) kvs xs/\
   ∃o es ep,h.get? a=u7 o/\o.ExactDict/\o.data=.dict es ep/\es.toList=xs.map (entryOfKey (tupleKind (G7 P w)))/\(xs.map (·.1)).Nodup
 |.set S n=>h.SetOf (intKind P w) a S n
 | .ins C dx fs=>H dx=u7 (.own a)/\fs.length<=1000/\dx≠a/\h.get? a=u7 (zf C dx)/\
   ∃mA,h.Ns1 dx mA/\(∀f,RelO (fs.lookup f) (mA f))/\xa mA (fs.map (·.1))
 |.own _=>∃o,h.get? a=u7 o
 |.xd fs=>∃mA,h.Ns1 a mA/\∀f,RelO (fs.lookup f) (mA f)
 |.rng lo hi=>∃t u v,h.get? a=u7 {cls:=.type "range",data:=.fields #[.int lo t,.int hi u,.int 1 v]}
 |.frz o u=>h.get? a=u7 o/\ObjOk H h a u
 |.tbl ps=>h.get? a=u7 {cls:=.none,data:=.fields ps}
 |.met f x=>h.get? a=u7 (PySem.W.methodObj (.ref f) (.ref x))
 |.ext φ=>φ h/\(∃o,h.get? a=u7 o)/\∀h1 h2:Heap,φ h1->(∀o,h1.get? a=u7 o->h2.get? a=u7 o)->φ h2
def HOk(H:Hp)(h:Heap):Prop:=∀a o,H a=u7 o->ObjOk P w H h a o
end
section
variable{P:xD}{w:xI}{H H':Hp}{h h':Heap}{a:xy}{o:HO}
theorem ObjOk.lt(x:ObjOk P w H h a o):a<h.objs.size:=by
 cases o with
 |lst xs=>obtain⟨_,_,_,_,e⟩:=x;exact zx e
 |tup xs=>obtain⟨_,_,_,p⟩:=x;exact p.lt
 |set S n=>obtain⟨o,_,_,_,e,_⟩:=x;exact zx e
 |ins C dx fs=>obtain⟨_,_,_,e,_⟩:=x;exact zx e
 |own y=>obtain⟨_,e⟩:=x;exact zx e
 |xd fs=>obtain⟨_,⟨_,_,_,e,_⟩,_⟩:=x;exact zx e
 |rng lo hi=>obtain⟨_,_,_,e⟩:=x;exact zx e
 |frz ob u=>obtain⟨e,_⟩:=x;exact zx e
 |tbl ps|met f y=>exact zx (x)
 |ext φ=>obtain⟨_,⟨_,e⟩,_⟩:=x;exact zx e
 |_=>obtain⟨_,_,_,_,o,_,_,e,_⟩:=x;exact zx e
theorem Paired.mapP{n j:Type}{F G:n->j->Prop}:∀{d:List n}{i:List j},Paired F d i->(∀a b,F a b->G a b)->Paired G d i
 |_,_,.nil,_=>.nil
 |_,_,.cons r t,f=>.cons (f _ _ r) (Paired.mapP t f)
theorem ObjOk.stay(x:ObjOk P w H h a o)(k:∀b u,(b=a\/H b=u7 (.own a))->h.get? b=u7 u->h'.get? b=u7 u)
  (ho:∀b,H b=u7 (.own a)->H' b=u7 (.own a)) (ht:∀b xs,H b=u7 (.tup xs)->H' b=u7 (.tup xs)):ObjOk P w H' h' a o:=by
 induction o with
 |lst xs=>obtain⟨z,its,n,r,e⟩:=x;exact⟨z,its,n,r,k _ _ (.inl rfl) e⟩
 |tup xs=>obtain⟨z,its,r,ob,e,c⟩:=x;exact⟨z,its,r,ob,k _ _ (.inl rfl) e,c⟩
 |dK kvs=>obtain⟨z,y,vs,r,ob,es,ep,e,c⟩:=x;exact⟨z,y,vs,r,ob,es,ep,k _ _ (.inl rfl) e,c⟩
 |dT kvs=>
  obtain⟨z,y,xs,r,ob,es,ep,e,c⟩:=x;exact⟨z,y,xs,Paired.mapP r λp q z=>⟨z.1,ht _ _ z.2.1,z.2.2⟩,ob,es,ep,k _ _ (.inl rfl) e,c⟩
 |set S n=>obtain⟨ob,es,ep,t,e,c⟩:=x;exact⟨ob,es,ep,t,k _ _ (.inl rfl) e,c⟩
 |ins C dx fs=>
  obtain⟨d,z,ne,e,mA,⟨od,es,ep,e2,c⟩,r⟩:=x;exact⟨ho _ d,z,ne,k _ _ (.inl rfl) e,mA,⟨od,es,ep,k _ _ (.inr d) e2,c⟩,r⟩
 |own y=>obtain⟨ob,e⟩:=x;exact⟨ob,k _ _ (.inl rfl) e⟩
 |xd fs=>obtain⟨mA,⟨od,es,ep,e,c⟩,r⟩:=x;exact⟨mA,⟨od,es,ep,k _ _ (.inl rfl) e,c⟩,r⟩
 |rng lo hi=>obtain⟨t,u,v,e⟩:=x;exact⟨t,u,v,k _ _ (.inl rfl) e⟩
 |frz ob u ih=>obtain⟨e,q⟩:=x;exact⟨k _ _ (.inl rfl) e,ih q⟩
 |tbl ps|met f y=>
  have e:=x;exact k a _ (.inl rfl) e
 |ext φ=>obtain⟨p,⟨o,e⟩,st⟩:=x;exact⟨st _ _ p λo q=>k _ _ (.inl rfl) q,⟨o,k _ _ (.inl rfl) e⟩,st⟩
theorem HOk.lt(x:HOk P w H h)(e:H a=u7 o):a<h.objs.size:=(x a o e).lt
theorem HOk.fresh(x:HOk P w H h)(e:h.objs.size<=a):H a=u8:=by
 cases q:H a with
 |none=>rfl
 |some u=>exact absurd (zq (x.lt q) e) (qQ _)
theorem HOk.kept(x:HOk P w H h)(k:∀b u,h.get? b=u7 u->h'.get? b=u7 u):HOk P w H h':=λa o e=>
 (x a o e).stay (λb u _ q=>k b u q) (λ_ q=>q) λ_ _ q=>q
theorem HOk.laid(x:HOk P w H h)(k:∀b u,h.get? b=u7 u->h'.get? b=u7 u)(hp:h.objs.size<=a)(d:ObjOk P w (upd H a o) h' a o):HOk P w (upd H a o) h':=λb u e=>by
 have j:=x.fresh hp;by_cases i:b=a
 .subst i;rw[Dy]at e;cases e;exact d
 rw[Ai i]at e;exact(x b u e).stay (λc v _ q=>k c v q) (λc q=>by rw[Ai (Ge q j)];exact q) λc n q=>by rw[Ai (Ge q j)];exact q
end
def Rd(H:Hp)(a:xy)(u:HO):Prop:=H a=u7 u\/∃o,H a=u7 (.frz o u)
theorem Rd.ok(r:Rd H a u)(x:HOk P w H h):ObjOk P w H h a u:=by
 rcases r with r|⟨o,r⟩
 .exact x a u r
 obtain⟨_,q⟩:=x a _ r;exact q
def Mut:Option HO->Prop
 |some (.lst _)=>True
 |some (.dK _)=>True
 |some (.dT _)=>True
 |some (.set _ _)=>True
 |some (.ins _ _ _)=>True
 |some (.ext _)=>True
 |_=>False
section
variable{P:xD}{w:xI}{H:Hp}{h h':Heap}{x e:xy}{o':HO}
theorem HOk.write(ok:HOk P w H h)(B:Mut (H x))(N:e=x\/H e=u7 (.own x))(k:∀b u,b≠e->h.get? b=u7 u->h'.get? b=u7 u)(L:∃u,h'.get? e=u7 u)
  (J:ObjOk P w (upd H x o') h' x o'):HOk P w (upd H x o') h':=λb u q=>by
 have i:∀c y,H c=u7 (.own y)->c≠x:=λc y r z=>by subst z;rw[r]at B;exact B
 have j:∀c F,H c=u7 (.tup F)->c≠x:=λc F r z=>by subst z;rw[r]at B;exact B
 by_cases n:b=x
 .subst n;rw[Dy]at q;cases q;exact J
 rw[Ai n]at q;by_cases d:b=e
 .have M:H b=u7 (.own x):=by
   rcases N with z|z
   .exact absurd (d.trans z) n
   rw[d];exact z
  rw[q]at M;cases M;obtain⟨v,O⟩:=L;exact⟨v,d▸O⟩
 .refine(ok b u q).stay (λc v I r=>k c v ?_ r) (λc r=>by rw[Ai (i c b r)];exact r) λc F r=>by rw[Ai (j c F r)];exact r
  rcases I with rfl|I
  .exact d
  .rintro rfl;rcases N with z|z
   .exact i c b I z
   rw[I]at z;cases z;exact n rfl
end
structure Un (fs ex:List xy) (H H':Hp) (h h':Heap):Prop where
 keep:∀b o,h.get? b=u7 o->H b=u8->b∉fs->b∉ex->h'.get? b=u7 o
 slot:∀b o,h.get? b=u7 o->H b=u8->b∈fs->b∉ex->∃sl,h'.get? b=u7 {o with slots:=sl}
 free:∀b o,h.get? b=u7 o->H b=u8->b∉ex->H' b=u8
 there:∀b o,h.get? b=u7 o->b∉ex->∃o',h'.get? b=u7 o'
 tups:∀b xs,H b=u7 (.tup xs)->H' b=u7 (.tup xs)
 frzs:∀b o u,H b=u7 (.frz o u)->H' b=u7 (.frz o u)
 tbls:∀b ps,H b=u7 (.tbl ps)->∃more,H' b=u7 (.tbl (ps++more))
section
variable{fs fs' ex ex':List xy}{H H1 H2:Hp}{h h1 h2 h':Heap}{a x e:xy}{o:HO}
theorem Un.any(u:Un fs ex H H1 h h1)(q:h.get? b=u7 ob)(n:H b=u8)(i:b∉ex):∃y,h1.get? b=u7 {ob with slots:=y}:=by
 by_cases j:b∈fs
 .exact u.slot b ob q n j i
 exact⟨ob.slots,u.keep b ob q n j i⟩
theorem Un.kept(k:∀b u,h.get? b=u7 u->h'.get? b=u7 u):Un fs ex H H h h':=
 ⟨λb d q _ _ _=>k b d q,λb d q _ _ _=>⟨d.slots,k b d q⟩,λ_ _ _ n _=>n,λb d q _=>⟨d,k b d q⟩,λ_ _ q=>q,λ_ _ _ q=>q,λ_ i q=>⟨#[],by rw[q];simp⟩⟩
theorem Un.refl:Un fs ex H H h h:=Un.kept λ_ _ q=>q
theorem Un.laid(k:∀b u,h.get? b=u7 u->h'.get? b=u7 u)(hp:h.objs.size<=a)(d:H a=u8):Un fs ex H (upd H a o) h h' where
 keep:=λb u q _ _ _=>k b u q
 slot:=λb u q _ _ _=>⟨u.slots,k b u q⟩
 free:=λb u q n _=>by rw[Ai (z8 (zq (zx q) hp))];exact n
 there:=λb u q _=>⟨u,k b u q⟩
 tups:=λb i q=>by rw[Ai (Ge q d)];exact q
 frzs:=λb u i q=>by rw[Ai (Ge q d)];exact q
 tbls:=λb j q=>⟨#[],by rw[Ai (Ge q d),q];simp⟩
theorem Un.write(i:Mut (H x))(J:e=x\/H e=u7 (.own x))(k:∀b u,b≠e->h.get? b=u7 u->h'.get? b=u7 u)(y:∃u,h'.get? e=u7 u):Un fs ex H (upd H x o) h h':=by
 have B:∀b,H b=u8->b≠x:=λb n z=>by subst z;rw[n]at i;exact i
 have F:∀b,H b=u8->b≠e:=λb n z=>by
  subst z;rcases J with r|r
  .exact B b n r
  rw[n]at r;cases r
 have j:∀b u,H b=u7 u->¬Mut (u7 u)->b≠x:=λb u q nm z=>by subst z;rw[q]at i;exact nm i
 refine⟨λb u q n _ _=>k b u (F b n) q,λb u q n _ _=>⟨u.slots,k b u (F b n) q⟩,λb u q n _=>by rw[Ai (B b n)];exact n,λb u q _=>?_,
  λb I q=>by rw[Ai (j b _ q λz=>z)];exact q,λb u I q=>by rw[Ai (j b _ q λz=>z)];exact q,λb L q=>⟨#[],by rw[Ai (j b _ q λz=>z),q];simp⟩⟩
 by_cases d:b=e
 .subst d;exact y
 exact⟨u,k b u d q⟩
end
def trk(h:Heap)(H:Hp):List xy:=(zZ h.objs.size).filter λa=>(H a).isSome
def Ka(h:Heap)(H:Hp):Heap:=qe h (trk h H)
theorem ZIg(h:Heap)(H:Hp):(Ka h H).objs.size=h.objs.size:=PySem.W.hideAll_size _ _
theorem ZOm(e:h.get? b=u7 o)(n:H b=u8):(Ka h H).get? b=u7 o:=
 xf _ e λd=>by have q:=(List.mem_filter.mp d).2;rw[n]at q;simp at q
theorem ZK0(e:(Ka h H).get? b=u7 o):h.get? b=u7 o/\H b=u8:=by
 have d:=wK (trk h H) e;refine⟨d,?_⟩;cases q:H b with
 |none=>rfl
 |some x=>
  have z:(Ka h H).get? b=u8:=wq (trk h H) (List.mem_filter.mpr ⟨qw.mpr (zx d),by simp[q]⟩);rw[z]at e;cases e
noncomputable def ZRC(g h:Heap)(L:xy):List (xy×Obj):=(zZ h.objs.size).filterMap λa=>if a=L\/(g.get? a).isSome=u9 then u8 else(h.get? a).map λo=>(a,o)
def rest(g h:Heap)(L d:xy):List (xy×Obj):=(ZRC g h L).filter λp=>decide (p.1≠d)
structure Mod (K:za) (mg:Str->Option xH) (base:Heap):Prop where
 kin:K.In base
 glob:base.Ns vV mg
 blt:∃mb,base.Ns builtinsNs mb/\∀x:Str,x≠"__name__"->mb x=xS x
 nolimit:base.NoLimit
structure Cx where
 prog:xD
 w:xI
 K:za
 mg:Str->Option xH
 base:Heap
 A:x0
 N:List Str
 s₀:xF
 H₀:Hp
 env:Env
 outer:List Env
 stack:List Env
 ex:List xy
 fn:Str->Bool
 calm:Bool
 pn:List (xy×Obj)
 xe:xH->xF->Prop
def frs(l:List Env):List xy:=l.filterMap (·.frame)
abbrev Cx.fs(X:Cx):List xy:=frs X.outer
def Vis(sc:xE)(x:Str):Prop:=sc.names.lookup x=u7 .local\/sc.names.lookup x=u7 .cell\/sc.names.lookup x=u7 .free
def Loc(sc:xE)(x:Str):Prop:=sc.names.lookup x=u7 .local\/sc.names.lookup x=u7 .cell
def Look(env:Env)(h:Heap)(m:Str->Option xH)(x:Str)(u:xH):Prop:=
 (env.kindOf x=u7 .local/\m x=u7 u)\/((env.kindOf x=u7 .cell\/env.kindOf x=u7 .free)/\∃c,env.cells.lookup x=u7 c/\h.IsCell c (u7 u))
structure Cx.Ok (X:Cx):Prop where
 mod:Mod X.K X.mg X.base
 kind:X.env.scope.kind=.function
 glob:X.env.globals=vV
 blt:X.env.builtins=builtinsNs
 above:X.s₀.heap.objs.size<=X.env.locals
 inj:∀x y c,X.env.cells.lookup x=u7 c->X.env.cells.lookup y=u7 c->x=y
 has:∀x,(X.env.kindOf x=u7 .cell\/X.env.kindOf x=u7 .free)->∃c,X.env.cells.lookup x=u7 c
 cab:∀x c,X.fn x=u9->X.env.cells.lookup x=u7 c->X.s₀.heap.objs.size<=c
 hd:X.calm=u9->X.A.handled=u8
 frames:X.A.frames=u7 X.stack
 stk:X.stack=X.outer\/(X.stack=X.env::X.outer/\X.env.frame=u7 X.env.locals)
 exf:∀b∈X.ex,b≠X.env.locals/\∀x c,X.env.cells.lookup x=u7 c->c≠b
 bs:∀b o,X.base.get? b=u7 o->X.s₀.heap.get? b=u7 o/\X.H₀ b=u8
 bsz:X.base.objs.size<=X.s₀.heap.objs.size
 noex:∀b o,X.base.get? b=u7 o->b∉X.ex
 exfs:∀b∈X.ex,b∉X.fs
 funs:X.s₀.heap.FunFrames X.base X.outer
 frf:∀b∈X.fs,X.H₀ b=u8
structure Inv (X:Cx) (vP:List (xy×Obj)) (σ:List (Option V)) (H:Hp) (s:xF):Prop where
 ok:X.Ok
 os:s.os=X.s₀.os
 bare:AllBare s.gens
 base:Un X.fs X.ex X.H₀ H X.s₀.heap s.heap
 loc:∃m,s.heap.Ns X.env.locals m/\∀(i:Nat)(x:Str)(v:V),X.N[i]?=u7 x->σ[i]?=u7 (u7 v)->Vis X.env.scope x->∃u,RelV v u/\Look X.env s.heap m x u
 cell:∀x c,X.env.cells.lookup x=u7 c->∃v,s.heap.IsCell c v
 free:H X.env.locals=u8
 G9:∀x c,X.env.cells.lookup x=u7 c->H c=u8
 pin:∀p∈X.pn++vP,s.heap.get? p.1=u7 p.2/\H p.1=u8/\p.1≠X.env.locals/\p.1∉X.fs/\∀v,p.2.data≠ .cell v
 hok:HOk X.prog X.w H s.heap
 len:σ.length=X.N.length
section
variable{X:Cx}{vP:List (xy×Obj)}{σ:List (Option V)}{H H':Hp}{s:xF}{h':Heap}
theorem Cx.Ok.nofr(ok:X.Ok)(e:X.base.get? b=u7 o):b∉X.fs:=λd=>by have:=(ok.funs.mem d).1;rw[e]at this;cases this
theorem Inv.bs(I:Inv X vP σ H s):∀b o,X.base.get? b=u7 o->s.heap.get? b=u7 o/\H b=u8:=λb o e=>
 ⟨I.base.keep b o (I.ok.bs b o e).1 (I.ok.bs b o e).2 (I.ok.nofr e) (I.ok.noex b o e),I.base.free b o (I.ok.bs b o e).1 (I.ok.bs b o e).2 (I.ok.noex b o e)⟩
theorem Inv.bk(I:Inv X vP σ H s):∀b o,X.base.get? b=u7 o->s.heap.get? b=u7 o:=λb o e=>(I.bs b o e).1
theorem Inv.mod(I:Inv X vP σ H s):Mod X.K X.mg X.base:=I.ok.mod
theorem Inv.kIn(I:Inv X vP σ H s):X.K.In s.heap:=I.ok.mod.kin.keeps I.bk
theorem Inv.lt(I:Inv X vP σ H s):X.env.locals<s.heap.objs.size:=let⟨_,d,_⟩:=I.loc;d.lt
theorem Inv.sz(I:Inv X vP σ H s):X.s₀.heap.objs.size<=s.heap.objs.size:=z6 I.ok.above (Nat.le_of_lt I.lt)
theorem Inv.nofs(I:Inv X vP σ H s){a:xy}(h:s.heap.objs.size<=a):a∉X.fs:=λi=>by obtain⟨_,o,d,_⟩:=I.ok.funs.mem i;exact absurd (zq (zx d) (z6 I.sz h)) (qQ _)
theorem Inv.cne(I:Inv X vP σ H s):∀x c,X.env.cells.lookup x=u7 c->c≠X.env.locals:=λx c e z=>by obtain⟨v,o,j,n⟩:=I.cell x c e;obtain⟨m,⟨y,B,q,i,d,_⟩,_⟩:=I.loc;rw[z,i]at j;cases j;rw[d]at n;cases n
theorem Inv.funs(I:Inv X vP σ H s):s.heap.FunFrames X.base X.outer:=by
 have all:∀(l:List Env),(∀b∈frs l,b∈X.fs)->X.s₀.heap.FunFrames X.base l->s.heap.FunFrames X.base l:=by
  intro l
  induction l with
  |nil=>intro _ _;trivial
  |cons F r B=>
   intro n M;obtain⟨hk,⟨L,o,j,J,q,y⟩,N⟩:=M;have i:=n L (by unfold frs;rw[qq,j];exact zW);obtain⟨O,e⟩:=I.base.slot L o q (I.ok.frf L i) i λz=>I.ok.exfs L z i
   exact⟨hk,⟨L,_,j,J,e,y⟩,B (λb d=>n b (by unfold frs;rw[qq,j];exact zX _ d)) N⟩
 exact all X.outer (λ_ d=>d) I.ok.funs
theorem Inv.stack(I:Inv X vP σ H s):s.heap.FunFrames X.base X.stack:=by
 rcases I.ok.stk with e|⟨e,d⟩
 .rw[e];exact I.funs
 .rw[e];obtain⟨m,i,_⟩:=I.loc;exact .cons (by rw[I.ok.kind];decide) d i (xK (z6 I.ok.bsz I.ok.above)) I.funs
theorem Inv.Vu(I:Inv X vP σ H s):∀b∈frs X.stack,b∈X.env.locals::X.fs:=λb d=>by
 rcases I.ok.stk with e|⟨e,i⟩
 .rw[e]at d;exact zX _ d
 rw[e]at d;unfold frs at d;rw[qq,i]at d;exact d
theorem Inv.W5(I:Inv X vP σ H s):∀b∈frs X.stack,H b=u8:=λb d=>by
 rcases zj.mp (I.Vu b d)with e|d
 .rw[e];exact I.free
 obtain⟨_,o,i,_⟩:=I.ok.funs.mem d;exact I.base.free b o i (I.ok.frf b d) λz=>I.ok.exfs b z d
theorem Inv.step{g':Array GenState}{d':Drawn}{ch:List xy}(I:Inv X vP σ H s)
  (J:∀b∈ch,(b∈X.ex\/X.s₀.heap.objs.size<=b)/\b≠X.env.locals/\(∀x c,X.env.cells.lookup x=u7 c->c≠b)/\∀p∈X.pn++vP,p.1≠b)
  (F:∀b o,b≠X.env.locals->b∉X.fs->b∉ch->s.heap.get? b=u7 o->H b=u8->h'.get? b=u7 o)
  (M:∀b o,b≠X.env.locals->b∈X.fs->b∉ch->s.heap.get? b=u7 o->H b=u8->∃sl,h'.get? b=u7 {o with slots:=sl}) (free:∀b o,b∉ch->s.heap.get? b=u7 o->H b=u8->H' b=u8)
  (B:∀b o,b∉ch->s.heap.get? b=u7 o->∃o',h'.get? b=u7 o')
  (U:∀b xs,H b=u7 (.tup xs)->H' b=u7 (.tup xs)) (Y:∀b o u,H b=u7 (.frz o u)->H' b=u7 (.frz o u)) (W:∀b ps,H b=u7 (.tbl ps)->∃more,H' b=u7 (.tbl (ps++more)))
  (ns:∀m,s.heap.Ns X.env.locals m->h'.Ns X.env.locals m) (hok:HOk X.prog X.w H' h') (hg:AllBare g'):
  Inv X vP σ H' {s with heap:=h',gens:=g',drawn:=d',toks:=t'}:=by
 have neL:∀b o,X.s₀.heap.get? b=u7 o->b≠X.env.locals:=λb o e=>z8 (zq (zx e) I.ok.above)
 have S:∀b o,X.s₀.heap.get? b=u7 o->b∉X.ex->b∉ch:=λb o e y Z=>by
  rcases(J b Z).1 with z|z
  .exact y z
  exact absurd (zq (zx e) z) (qQ _)
 have L:∀x c,X.env.cells.lookup x=u7 c->∀v,s.heap.IsCell c v->h'.IsCell c v:=λx c e v ⟨o,ho,hd⟩=>by
  have N:c∉ch:=λz=>(J c z).2.2.1 x c e rfl
  by_cases hc:c∈X.fs
  .obtain⟨sl,q⟩:=M c o (I.cne x c e) hc N ho (I.G9 x c e);exact⟨_,q,hd⟩
  exact⟨o,F c o (I.cne x c e) hc N ho (I.G9 x c e),hd⟩
 refine⟨I.ok,I.os,hg,⟨λb o e n Z y=>(F b o (neL b o e) Z (S b o e y) (I.base.keep b o e n Z y) (I.base.free b o e n y)),λb o e n Z y=>?_,λb o e n y=>?_,λb o e y=>?_,λb xs e=>U b xs (I.base.tups b xs e),λb o xs e=>Y b o xs (I.base.frzs b o xs e),λb ps e=>?_⟩,?_,λx c e=>?_,?_,λx c e=>?_,λp hp=>?_,hok,I.len⟩
 .obtain⟨sl,O⟩:=I.base.slot b o e n Z y;obtain⟨sl',e2⟩:=M b _ (neL b o e) Z (S b o e y) O (I.base.free b o e n y);exact⟨sl',e2⟩
 .obtain⟨o',O⟩:=I.base.there b o e y;exact free b o' (S b o e y) O (I.base.free b o e n y)
 .obtain⟨o',O⟩:=I.base.there b o e y;exact B b o' (S b o e y) O
 .obtain⟨m1,O⟩:=I.base.tbls b ps e;obtain⟨m2,e2⟩:=W b _ O;exact⟨m1++m2,by rw[e2,Array.append_assoc]⟩
 .obtain⟨m,hn,hl⟩:=I.loc;refine⟨m,ns m hn,λi x v O e2 e3=>?_⟩;obtain⟨u,r,l⟩:=hl i x v O e2 e3;refine⟨u,r,?_⟩;rcases l with l|⟨k,c,e,z⟩
  .exact .inl l
  exact .inr ⟨k,c,e,L x c e _ z⟩
 .obtain⟨v,z⟩:=I.cell x c e;exact⟨v,L x c e v z⟩
 .obtain⟨m,⟨o,_,_,ho,_⟩,_⟩:=I.loc;exact free _ o (λz=>(J _ z).2.1 rfl) ho I.free
 .obtain⟨v,o,ho,hd⟩:=I.cell x c e;exact free c o (λz=>(J c z).2.2.1 x c e rfl) ho (I.G9 x c e)
 obtain⟨e,n,ne,nf,d⟩:=I.pin p hp;have N:p.1∉ch:=λz=>(J p.1 z).2.2.2 p hp rfl
 exact⟨F p.1 p.2 ne nf N e n,free p.1 p.2 N e n,ne,nf,d⟩
theorem Inv.un(I:Inv X vP σ H s)(u:Un X.fs [] H H' s.heap h')(hok:HOk X.prog X.w H' h'):Inv X vP σ H' {s with heap:=h',toks:=t'}:=by
 obtain⟨m,⟨o,S,N,z,r⟩,_⟩:=id I.loc;obtain⟨M,F⟩:=u.any z I.free (by simp);exact I.step (ch:=[]) (nofun) (λb o _ j _ e n=>u.keep b o e n j (by simp)) (λb o _ j _ e n=>u.slot b o e n j (by simp)) (λb o _ e n=>u.free b o e n (by simp)) (λb o _ e=>u.there b o e (by simp)) u.tups u.frzs u.tbls (λU L=>by obtain⟨O,y,q,d,J⟩:=L;rw[z]at d;cases d;exact⟨_,y,q,F,J⟩) hok I.bare
theorem Inv.call{g':Array GenState}{d':Drawn}{ch:List xy}(I:Inv X vP σ H s)(u:Un (frs X.stack) ch H H' s.heap h')(hok:HOk X.prog X.w H' h')(S:AllBare g')
  (j:∀b∈ch,(b∈X.ex\/X.s₀.heap.objs.size<=b)/\b≠X.env.locals/\(∀x c,X.env.cells.lookup x=u7 c->c≠b)/\∀p∈X.pn++vP,p.1≠b):
  Inv X vP σ H' {s with heap:=h',gens:=g',drawn:=d',toks:=t'}:=by
 obtain⟨m,⟨o,es,Y,M,r⟩,_⟩:=id I.loc;obtain⟨sl,J⟩:=u.any M I.free λz=>(j _ z).2.1 rfl
 exact I.step j (λb o J O i e n=>u.keep b o e n (λz=>(zj.mp (I.Vu b z)).elim J O) i) (λb o _ _ i e n=>u.any e n i) (λb o i e n=>u.free b o e n i) (λb o i e=>u.there b o e i) u.tups u.frzs u.tbls (λm' W=>by obtain⟨Z,B,y,q,U⟩:=W;rw[M]at q;cases q;exact⟨_,B,y,J,U⟩) hok S
theorem Inv.turned{it:xy}(I:Inv X vP σ H s)(k:∀b o,b≠it->s.heap.get? b=u7 o->h'.get? b=u7 o)(U:H it=u8)(y:it≠X.env.locals)
  (L:it∈X.ex\/X.s₀.heap.objs.size<=it) (N:∀x c,X.env.cells.lookup x=u7 c->c≠it) (W:∀p∈X.pn++vP,p.1≠it):Inv X vP σ H {s with heap:=h',toks:=t'}:=by
 have j:∀b u,H b=u7 u->b≠it:=λb u e z=>by rw[z,U]at e;cases e
 refine I.step (ch:=[it]) (λb J=>?_) (λb o _ _ i e _=>k b o (λz=>i (by simp[z])) e) (λb o _ _ i e _=>⟨o.slots,k b o (λz=>i (by simp[z])) e⟩) (λ_ _ _ _ n=>n)
  (λb o i e=>⟨o,k b o (λz=>i (by simp[z])) e⟩) (λ_ _ e=>e) (λ_ _ _ e=>e) (λb Y e=>⟨#[],by rw[e];simp⟩) (λm S=>?_) (λb u e=>?_) I.bare
 .have e:b=it:=by simpa using J
  subst e;exact⟨L,y,N,W⟩
 .obtain⟨o,O,M,F,r⟩:=S;exact⟨o,O,M,k _ o (Ne.symm y) F,r⟩
 refine(I.hok b u e).stay (λc v i q=>k c v ?_ q) (λ_ q=>q) λ_ _ q=>q
 rcases i with z|z
 .rw[z];exact j b u e
 exact j c _ z
theorem Inv.tok(I:Inv X vP σ H s)(t:Nat):Inv X vP σ H {s with toks:=t}:=I.un Un.refl I.hok
theorem Inv.kept(I:Inv X vP σ H s)(k:∀b u,s.heap.get? b=u7 u->h'.get? b=u7 u):Inv X vP σ H {s with heap:=h',toks:=t'}:=I.un (Un.kept k) (I.hok.kept k)
theorem Inv.laid{a:xy}{o:HO}(I:Inv X vP σ H s)(k:∀b u,s.heap.get? b=u7 u->h'.get? b=u7 u)(hp:s.heap.objs.size<=a)(i:ObjOk X.prog X.w (upd H a o) h' a o):
  Inv X vP σ (upd H a o) {s with heap:=h',toks:=t'}:=I.un (Un.laid k hp (I.hok.fresh hp)) (I.hok.laid k hp i)
theorem Inv.write(I:Inv X vP σ H s)(n:Mut (H x))(q:e=x\/H e=u7 (.own x))(k:∀b u,b≠e->s.heap.get? b=u7 u->h'.get? b=u7 u)(d:∃u,h'.get? e=u7 u)
  (j:ObjOk X.prog X.w (upd H x o) h' x o):Inv X vP σ (upd H x o) {s with heap:=h',toks:=t'}:=I.un (Un.write n q k d) (I.hok.write n q k d j)
theorem Inv.Kz(I:Inv X vP σ H s)(h:∀p∈pins',s.heap.get? p.1=u7 p.2/\H p.1=u8/\p.1≠X.env.locals/\p.1∉X.fs/\∀v,p.2.data≠ .cell v):Inv X pins' σ H s:=
 ⟨I.ok,I.os,I.bare,I.base,I.loc,I.cell,I.free,I.G9,λp hp=>(jI.mp hp).elim (λz=>I.pin p (j1 _ z)) (h p),I.hok,I.len⟩
theorem ZAB{N:List Str}(n:N.Nodup){i j:Nat}{x:Str}(a:N[i]?=u7 x)(b:N[j]?=u7 x):i=j:=by obtain⟨y,d⟩:=zC.mp a;obtain⟨z,q⟩:=zC.mp b;exact(List.getElem_inj n).mp (d.trans q.symm)
theorem ZCA{M:Model}{A:x0}{E:xH->xF->Prop}{i:Nat}{x:Str}{v:V}{u:xH}{Q:Unit->xF->Prop}(I:Inv X vP σ H s)(hN:X.N.Nodup)(hi:X.N[i]?=u7 x)(O:Loc X.env.scope x)(r:RelV v u)
  (h:∀s',Inv X vP (σ.set i (u7 v)) H s'->(∃a,qL a s.heap s'.heap/\(a=X.env.locals\/X.env.cells.lookup x=u7 a))->Q () s') (hf:X.fn x=u9\/X.env.scope.names.lookup x=u7 .local:=by first|exact .inl rfl|exact .inr rfl|assumption):vx M A (storeName X.env x u) Q E s:=by
 obtain⟨m,hn,hl⟩:=id I.loc;have hcls:(X.env.scope.kind == .class||(X.env.scope.kind == .module&&X.env.locals != X.env.globals))=uA:=by rw[I.ok.kind];rfl
 have W:i<σ.length:=by rw[I.len];exact(zC.mp hi).1
 have cne:=I.cne;have J:∀{a:xy}{h':Heap},(∃o,s.heap.get? a=u7 o/\H a=u8)->qL a s.heap h'->HOk X.prog X.w H h':=λ{a h'}ha B b ob e=>by
  obtain⟨_,_,S⟩:=ha;refine(I.hok b ob e).stay (λc w' L q=>(B.2 c ?_).trans q) (λ_ q=>q) λ_ _ q=>q
  rintro rfl;rcases L with rfl|L
  .rw[S]at e;cases e
  rw[S]at L;cases L
 rcases O with hk|hk
 .refine wpAny_storeName_local hk hn (λh' hn' B=>?_) hcls;obtain⟨oL,_,_,hoL,_⟩:=id hn;refine h _ ⟨I.ok,I.os,I.bare,⟨λb o e n Y O=>?_,λb o e n Y O=>?_,I.base.free,λb o e O=>?_,I.base.tups,I.base.frzs,I.base.tbls⟩,⟨_,hn',λj y v' F U e3=>?_⟩,λy c e=>?_,I.free,I.G9,λp hp=>?_,J ⟨oL,hoL,I.free⟩ B,by simpa using I.len⟩ ⟨_,B,.inl rfl⟩
  .exact(B.2 b (z8 (zq (zx e) I.ok.above))).trans (I.base.keep b o e n Y O)
  .obtain⟨sl,F⟩:=I.base.slot b o e n Y O;exact⟨sl,(B.2 b (z8 (zq (zx e) I.ok.above))).trans F⟩
  .obtain⟨o',F⟩:=I.base.there b o e O;exact⟨o',(B.2 b (z8 (zq (zx e) I.ok.above))).trans F⟩
  .by_cases Z:j=i
   .subst Z;rw[hi]at F;cases F;rw[jx W]at U;cases U;exact⟨u,r,.inl ⟨hk,by simp⟩⟩
   rw[qN (Ne.symm Z)]at U;obtain⟨u',r',q⟩:=hl j y v' F U e3;refine⟨u',r',?_⟩;rcases q with⟨k,e⟩|⟨k,c,e,z⟩
   .refine .inl ⟨k,?_⟩;have:y≠x:=λe=>Z (ZAB hN F (e▸hi))
    simp[this,e]
   exact .inr ⟨k,c,e,z.sameBut B (cne y c e)⟩
  .obtain⟨w',z⟩:=I.cell y c e;exact⟨w',z.sameBut B (cne y c e)⟩
  obtain⟨e,n,ne,nf,d⟩:=I.pin p hp;exact⟨(B.2 p.1 ne).trans e,n,ne,nf,d⟩
 have hfn:X.fn x=u9:=by
  rcases hf with z|z
  .exact z
  rw[z]at hk;cases hk
 obtain⟨c,L⟩:=I.ok.has x (.inl hk);obtain⟨w',z⟩:=I.cell x c L;refine wpAny_storeName_cell I.ok.kind hk L z (λh' hc' B=>?_);obtain⟨oc,hoc,hocd⟩:=id z;refine h {s with heap:=h'} ⟨I.ok,I.os,I.bare,⟨λb o e n Y O=>?_,λb o e n Y O=>?_,I.base.free,λb o e O=>?_,I.base.tups,I.base.frzs,I.base.tbls⟩,⟨m,hn.sameBut B (Ne.symm (cne x c L)),λj y v' F U e3=>?_⟩,λy c' e=>?_,I.free,I.G9,λp hp=>?_,J ⟨oc,hoc,I.G9 x c L⟩ B,by simpa using I.len⟩ ⟨c,B,.inr L⟩
 .exact(B.2 b (z8 (zq (zx e) (I.ok.cab x c hfn L)))).trans (I.base.keep b o e n Y O)
 .obtain⟨sl,F⟩:=I.base.slot b o e n Y O;exact⟨sl,(B.2 b (z8 (zq (zx e) (I.ok.cab x c hfn L)))).trans F⟩
 .obtain⟨o',F⟩:=I.base.there b o e O;exact⟨o',(B.2 b (z8 (zq (zx e) (I.ok.cab x c hfn L)))).trans F⟩
 .by_cases Z:j=i
  .subst Z;rw[hi]at F;cases F;rw[jx W]at U;cases U;exact⟨u,r,.inr ⟨.inl hk,c,L,hc'⟩⟩
  .rw[qN (Ne.symm Z)]at U;obtain⟨u',r',q⟩:=hl j y v' F U e3;refine⟨u',r',?_⟩;rcases q with q|⟨k,c',e,z'⟩
   .exact .inl q
   .refine .inr ⟨k,c',e,z'.sameBut B ?_⟩;rintro rfl;exact Z (ZAB hN F (I.ok.inj _ _ _ e L▸hi))
 .by_cases hcc:c'=c
  .subst hcc;exact⟨_,hc'⟩
  .obtain⟨w2,z2⟩:=I.cell y c' e;exact⟨w2,z2.sameBut B hcc⟩
 .obtain⟨e,n,ne,nf,d⟩:=I.pin p hp;refine⟨(B.2 p.1 ?_).trans e,n,ne,nf,d⟩;intro q;rw[q,hoc]at e;exact d w' (by rw[<-(Option.some.inj e)];exact hocd)
theorem Od(I:Inv X vP σ H s)(j:X.N.Nodup)(q:X.N[i]?=u7 x)(d:Loc X.env.scope x)(r:RelV v u)
  (h:∀s',Inv X vP (σ.set i (u7 v)) H s'->Q () s') (y:X.fn x=u9\/X.env.scope.names.lookup x=u7 .local:=by first|exact .inl rfl|exact .inr rfl|assumption):vx M A (storeName X.env x u) Q E s:=
 ZCA I j q d r (λs' n _=>h s' n) y
theorem Inv.call'(I:Inv X vP σ H s)(ho:s'.os=s.os)(u:Un (frs X.stack) ch H H' s.heap s'.heap)(hok:HOk X.prog X.w H' s'.heap)(i:AllBare s'.gens)
  (d:∀b∈ch,(b∈X.ex\/X.s₀.heap.objs.size<=b)/\b≠X.env.locals/\(∀x c,X.env.cells.lookup x=u7 c->c≠b)/\∀p∈X.pn++vP,p.1≠b):Inv X vP σ H' s':=by
 obtain⟨z,n,y,j,q⟩:=s';have e:=ho;subst e;exact I.call u hok i d
end
abbrev XK:=xH->Option xy->Hp->Prop
abbrev St:=List (Option V)
abbrev VK:=V->Hp->Prop
abbrev TE:=St->Hp->VK->Prop
variable{te:TE}
abbrev TT:=St->Hp->(Bool->Hp->Prop)->Prop
abbrev TA:=St->Hp->(List V->Hp->Prop)->Prop
structure Ends where
 nx:St->Hp->Prop
 rt:VK
 bk:St->Hp->Prop:=λ_ _=>False
 ct:St->Hp->Prop:=λ_ _=>False
abbrev TS:=Ends->St->Hp->Prop
inductive EP (X:Cx) (vP:List (xy×Obj)) (σ:St) (Q:VK) (u:xH) (s':xF):Prop|mk (v:V) (H':Hp) (I:Inv X vP σ H' s') (r:RelV v u) (q:Q v H'):EP X vP σ Q u s'
inductive TP (X:Cx) (vP:List (xy×Obj)) (σ:St) (Q:Bool->Hp->Prop) (b:Bool) (s':xF):Prop|mk (H':Hp) (I:Inv X vP σ H' s') (q:Q b H'):TP X vP σ Q b s'
inductive AP (X:Cx) (vP:List (xy×Obj)) (σ:St) (Q:List V->Hp->Prop) (us:List xH) (s':xF):Prop|mk (vs:List V) (H':Hp) (I:Inv X vP σ H' s') (r:Vals vs us) (q:Q vs H'):AP X vP σ Q us s' inductive NP (X:Cx) (vP:List (xy×Obj)) (Q:St->Hp->Prop) (s':xF):Prop|mk (σ':St) (H':Hp) (I:Inv X vP σ' H' s') (q:Q σ' H'):NP X vP Q s' inductive RP (X:Cx) (vP:List (xy×Obj)) (Q:VK) (u:xH) (s':xF):Prop|mk (v:V) (σ':St) (H':Hp) (I:Inv X vP σ' H' s') (r:RelV v u) (q:Q v H'):RP X vP Q u s'
def SP(X:Cx)(vP:List (xy×Obj))(D:Ends)(f:Flow)(s':xF):Prop:=
 match f with
 |.next=>NP X vP D.nx s'
 |.brk=>NP X vP D.bk s'
 |.cont=>NP X vP D.ct s'
 |.ret u=>RP X vP D.rt u s'
def PE(X:Cx)(e:xA)(t:TE):Prop:=
 ∀(vP:List (xy×Obj))(s:xF)(σ:St)(H:Hp)(Q:VK),Inv X vP σ H s->t σ H Q->vx (vW X.prog X.w) X.A (eval e X.env) (EP X vP σ Q) X.xe s
def PT(X:Cx)(e:xA)(t:TT):Prop:=
 ∀(vP:List (xy×Obj))(s:xF)(σ:St)(H:Hp)(Q:Bool->Hp->Prop),Inv X vP σ H s->t σ H Q->vx (vW X.prog X.w) X.A (isTrue e X.env (eval e X.env)) (TP X vP σ Q) X.xe s
def PW(X:Cx)(e:xA)(t:TT):Prop:=
 ∀(whole:Sem xH)(vP:List (xy×Obj))(s:xF)(σ:St)(H:Hp)(Q:Bool->Hp->Prop),Inv X vP σ H s->t σ H Q->vx (vW X.prog X.w) X.A (isTrue e X.env whole) (TP X vP σ Q) X.xe s
theorem PW.pt(h:PW X e t):PT X e t:=h _
def PA(X:Cx)(es:List xA)(t:TA):Prop:=
 ∀(pos:Pos)(vP:List (xy×Obj))(s:xF)(σ:St)(H:Hp)(Q:List V->Hp->Prop),Inv X vP σ H s->t σ H Q->vx (vW X.prog X.w) X.A (spliced (xN pos (vz es X.env))) (AP X vP σ Q) X.xe s
def PS(X:Cx)(st:xG)(t:TS):Prop:=
 ∀(vP:List (xy×Obj))(s:xF)(σ:St)(H:Hp)(D:Ends),Inv X vP σ H s->t D σ H->vx (vW X.prog X.w) X.A (exec st X.env) (SP X vP D) X.xe s
def PSs(X:Cx)(st:List xG)(t:TS):Prop:=
 ∀(vP:List (xy×Obj))(s:xF)(σ:St)(H:Hp)(D:Ends),Inv X vP σ H s->t D σ H->vx (vW X.prog X.w) X.A (execs st X.env) (SP X vP D) X.xe s
theorem thn{i:Type}{t:Sem i}{Q d:i->xF->Prop}{M:Model}{A:x0}{E:xH->xF->Prop}(h:vx M A t Q E s)(j:∀a s,Q a s->d a s):vx M A t d E s:=vE h j λ_ _ x=>x
section
variable{X:Cx}
def Qc(i:Nat):TE:=λσ H Q=>∃v,σ[i]?=u7 (u7 v)/\Q v H
def tC(v:V):TE:=λ_ H Q=>Q v H
theorem R9{i:Nat}{x:Str}{pos:Pos}(J:X.N[i]?=u7 x)(M:Vis X.env.scope x)(q:(x==("__debug__":Str))=uA:=by decide)(y:(x==("__classdict__":Str))=uA:=by decide):PE X (.Name x pos) (Qc i):=by
 intro n s B H Q I h;obtain⟨v,e,h⟩:=h;obtain⟨m,F,O⟩:=I.loc;obtain⟨u,r,l⟩:=O i x v J e M;have j:EP X n B Q u s:=⟨v,H,I,r,h⟩;rcases l with⟨hk,L⟩|⟨hk,c,z,d⟩
 .exact wpAny_Name (wpAny_loadName_local I.ok.kind hk F L j) q
 rcases hk with hk|hk
 .exact wpAny_Name (wpAny_loadName_cell I.ok.kind hk z d j) q
 exact wpAny_Name (wpAny_loadName_free I.ok.kind hk z d j y) q
theorem ZJ6{i j pos}:PE X (.Constant (.int i) j pos) (tC (.int i)):=λ_ _ _ H _ I h=>wpAny_Constant_int ⟨.int i,H,I.tok _,⟨_,rfl⟩,h⟩
theorem ZMv{b j pos}:PE X (.Constant (.bool b) j pos) (tC (.bl b)):=λ_ _ _ H _ I h=>Constant_bool ⟨.bl b,H,I,rfl,h⟩
theorem ZHd{j pos}:PE X (.Constant .none j pos) (tC .non):=λ_ _ _ H _ I h=>Constant_none ⟨.non,H,I,rfl,h⟩
theorem Sq{x j pos}:PE X (.Constant (.str x) j pos) (tC (.str x)):=λ_ _ _ H _ I h=>Calls.Constant_str ⟨.str x,H,I.tok _,⟨_,rfl⟩,h⟩
def Gl(X:Cx)(x:Str):Prop:=X.env.kindOf x=u7 .globalImplicit
theorem Ja{E:xH->xF->Prop}{d:St}{H:Hp}{x:Str}{u:xH}{pos:Pos}{Q:xH->xF->Prop}(I:Inv X vP d H s)(j:Gl X x)(n:X.mg x=u7 u)(h:Q u s)
  (i:(x==("__debug__":Str))=uA:=by decide):vx (vW X.prog X.w) X.A (eval (.Name x pos) X.env) Q E s:=
 Calls.Name_function_global I.ok.kind j (Calls.loadGlobal_global (I.ok.glob▸I.mod.glob.keeps I.bk) n h) i
theorem Hl{E:xH->xF->Prop}{d:St}{H:Hp}{x:Str}{u:xH}{pos:Pos}{Q:xH->xF->Prop}(I:Inv X vP d H s)(q:Gl X x)(y:X.mg x=u8)(z:xS x=u7 u)(h:Q u s)
  (j:x≠"__name__":=by decide) (i:(x==("__debug__":Str))=uA:=by decide):vx (vW X.prog X.w) X.A (eval (.Name x pos) X.env) Q E s:=by
 obtain⟨F,n,B⟩:=I.mod.blt;exact Calls.Name_function_global I.ok.kind q (Calls.loadGlobal_builtin (I.ok.glob▸I.mod.glob.keeps I.bk) y (I.ok.blt▸n.keeps I.bk) ((B x j).trans z) h) i
theorem Rx(i:Gl X x)(j:X.mg x=u7 u)(r:RelV v u)(d:(x==("__debug__":Str))=uA:=by decide):PE X (.Name x pos) (tC v):=
 λ_ _ _ H _ I h=>Ja I i j ⟨v,H,I,r,h⟩ d
theorem ZL0{x:Str}{v:V}{u:xH}{pos:Pos}(i:Gl X x)(n:X.mg x=u8)(j:xS x=u7 u)(r:RelV v u)(q:x≠"__name__":=by decide)(d:(x==("__debug__":Str))=uA:=by decide):PE X (.Name x pos) (tC v):=
 λ_ _ _ H _ I h=>Hl I i n j ⟨v,H,I,r,h⟩ q d
variable{a b:xA}{ta tb:TE}{pos:Pos}
def PC(X:Cx)(op:CmpOp)(a b:xA)(t:TE):Prop:=
 ∀(vP:List (xy×Obj))(s:xF)(σ:St)(H:Hp)(Q:VK),Inv X vP σ H s->t σ H Q->
  vx (vW X.prog X.w) X.A (eval a X.env) (λv s₁=>vx (vW X.prog X.w) X.A (eval b X.env) (λu s₂=>vx (vW X.prog X.w) X.A (vQ op v u) (EP X vP σ Q) X.xe s₂) X.xe s₁) X.xe s
def tB(t:TE):TT:=λσ H Q=>t σ H λx H1=>∃c,x=.bl c/\Q c H1
theorem ZPi{e:xA}{t:TE}(h:PE X e t)(J:∀i,isTrue e X.env i=(do let v<-i;standAt e.pos;holding [v] (truthy v)):=by intro _;rfl):PT X e (tB t):=by intro j s z H Q I hw;refine isTrue_plain (thn (h j s z H _ I hw) λv L ⟨x,F,B,y,n⟩=>?_) (J _);obtain⟨d,rfl,q⟩:=n;cases y;exact vL ⟨F,B,q⟩
variable{tA tB':TT}{rest:List xA}
def tAnd(t u:TT):TT:=λσ H Q=>t σ H λc H1=>if c=u9 then u σ H1 Q else Q uA H1
def tOr(t u:TT):TT:=λσ H Q=>t σ H λc H1=>if c=u9 then Q u9 H1 else u σ H1 Q
def tNot(t:TT):TT:=λσ H Q=>t σ H λc H1=>Q (!c) H1
theorem pw_and1(j:PT X a tA):PW X (.BoolOp .And [a] pos) tA:=by
 intro q d s i H Q I h;refine isTrue_and (thn (j d s i H Q I h) λc n e=>?_);cases c with
 |true=>exact isTrue_and_nil e
 |false=>exact e
theorem pw_or1(j:PT X a tA):PW X (.BoolOp .Or [a] pos) tA:=by
 intro q d s i H Q I h;refine isTrue_or (thn (j d s i H Q I h) λc n e=>?_);cases c with
 |false=>exact isTrue_or_nil e
 |true=>exact e
theorem pw_and(z:PT X a tA)(y:PW X (.BoolOp .And (b::rest) pos) tB'):PW X (.BoolOp .And (a::b::rest) pos) (tAnd tA tB'):=by
 intro F d s j H Q I h;refine isTrue_and (thn (z d s j H _ I h) λc B ⟨q,n,i⟩=>?_);cases c with
 |true=>exact y F d B j q Q n i
 |false=>exact⟨q,n,i⟩
theorem pw_or(z:PT X a tA)(y:PW X (.BoolOp .Or (b::rest) pos) tB'):PW X (.BoolOp .Or (a::b::rest) pos) (tOr tA tB'):=by
 intro F d s j H Q I h;refine isTrue_or (thn (z d s j H _ I h) λc B ⟨q,n,i⟩=>?_);cases c with
 |true=>exact⟨q,n,i⟩
 |false=>exact y F d B j q Q n i
theorem ZRB(n:PT X a tA):PT X (.UnaryOp .Not a pos) (tNot tA):=by intro d s j H Q I h;exact isTrue_not (thn (n d s j H (λc i=>Q (!c) i) I h) λ_ _ ⟨a,b,c⟩=>⟨a,b,c⟩)
def ZHf(ta tb:TE):TE:=λσ H Q=>ta σ H λx H1=>∃c,x=.bl c/\if c=u9 then tb σ H1 Q else Q (.bl uA) H1
def tOrV(ta tb:TE):TE:=λσ H Q=>ta σ H λx H1=>∃c,x=.bl c/\if c=u9 then Q (.bl u9) H1 else tb σ H1 Q
theorem ZRb{op}(h:PE X a t):PE X (.BoolOp op [a] pos) t:=λd s i H Q I hw=>BoolOp_one (h d s i H Q I hw)
theorem ZQy(B:PE X a ta)(z:PE X (.BoolOp .And (b::rest) pos) tb):PE X (.BoolOp .And (a::b::rest) pos) (ZHf ta tb):=by
 intro d s j H Q I h;refine BoolOp_and (thn (B d s j H _ I h) λv F J=>?_);obtain⟨x,q,n,y,i⟩:=J;obtain⟨c,rfl,i⟩:=i;cases y;refine vL ?_;cases c with
 |true=>exact z d F j q Q n i
 |false=>exact⟨.bl uA,q,n,rfl,i⟩
theorem ZN6(B:PE X a ta)(z:PE X (.BoolOp .Or (b::rest) pos) tb):PE X (.BoolOp .Or (a::b::rest) pos) (tOrV ta tb):=by
 intro d s j H Q I h;refine BoolOp_or (thn (B d s j H _ I h) λv F J=>?_);obtain⟨x,q,n,y,i⟩:=J;obtain⟨c,rfl,i⟩:=i;cases y;refine vL ?_;cases c with
 |false=>exact z d F j q Q n i
 |true=>exact⟨.bl u9,q,n,rfl,i⟩
def tIf(t:TT)(ta tb:TE):TE:=λσ H Q=>t σ H λc H1=>if c=u9 then ta σ H1 Q else tb σ H1 Q
theorem ZK5{c:xA}(J:PT X c tA)(F:PE X a ta)(B:PE X b tb):PE X (.IfExp c a b pos) (tIf tA ta tb):=by
 intro i s j H Q I h;refine wpAny_IfExp (thn (J i s j H _ I h) λd y L=>?_);obtain⟨z,q,n⟩:=L;cases d with
 |true=>exact F i y j z Q q n
 |false=>exact B i y j z Q q n
end
def SqL(K:za)(H:Hp)(a:xy)(xs:List V):Prop:=
 Rd H a (.lst xs)\/
  ∃(o:Obj)(its:Array xH)(n:Nat),K.lookup a=u7 o/\o.cls=.type "list"/\o.dict=u8/\o.data=.seq its n/\its.size<=sizeLine/\Vals xs its.toList
def SqT(K:za)(H:Hp)(a:xy)(xs:List V):Prop:=
 Rd H a (.tup xs)\/
  ∃(o:Obj)(its:Array xH)(n:Nat),K.lookup a=u7 o/\o.cls=.type "tuple"/\o.data=.seq its n/\its.size<=sizeLine/\Vals xs its.toList
noncomputable def absV:xH->Option V
 |.none=>u7 .non
 |.bool b=>u7 (.bl b)
 |.int i _=>u7 (.int i)
 |.str x _=>u7 (.str x)
 |.bytes b _=>u7 (.byt b)
 |.float b _=>u7 (.flt b)
 |.ref a=>u7 (.ref a)
 |.type n=>u7 (.ty n)
 |_=>u8
theorem RelV.abs(r:RelV x u):absV u=u7 x:=by
 cases x with
 |non|bl _=>cases r;rfl
 |ref _|ty _=>cases r;rfl
 |_=>obtain⟨t,rfl⟩:=r;rfl
theorem RelV.inj(r:RelV x u)(q:RelV y u):x=y:=Option.some.inj (r.abs.symm.trans q.abs)
theorem Vals.inj:∀{xs ys:List V}{us:List xH},Vals xs us->Vals ys us->xs=ys
 |_,_,_,.nil,.nil=>rfl
 |_,_,_,.cons r t,.cons d i=>by rw[r.inj d,Vals.inj t i]
section
variable{X:Cx}{vP:List (xy×Obj)}{σ:St}{H:Hp}{s:xF}{a:xy}{xs ys:List V}
theorem SqL.of{K:za}(h:H a=u7 (.lst xs)):SqL K H a xs:=.inl (.inl h)
theorem SqT.of{K:za}(h:H a=u7 (.tup xs)):SqT K H a xs:=.inl (.inl h)
theorem Inv.list(I:Inv X vP σ H s)(h:SqL X.K H a xs):∃its:List xH,Vals xs its/\PlainL s.heap a its.toArray/\xs.length<=sizeLine:=by
 rcases h with h|⟨o,its,n,hk,i,d,j,q,r⟩
 .obtain⟨z,its,n,r,e⟩:=h.ok I.hok;exact⟨its,r,⟨_,n,e,rfl,rfl,rfl⟩,z⟩
 refine⟨its.toList,r,⟨o,n,I.kIn a o hk,i,d,by simpa using j⟩,?_⟩;have e:=r.length;simp[qA]at e;lia
theorem Inv.tuple(I:Inv X vP σ H s)(h:SqT X.K H a xs):∃its:List xH,Vals xs its/\IsTup s.heap a its.toArray/\xs.length<=sizeLine:=by
 rcases h with h|⟨o,its,n,hk,d,i,j,r⟩
 .obtain⟨z,its,r,p⟩:=h.ok I.hok;exact⟨its,r,p,z⟩
 refine⟨its.toList,r,⟨o,I.kIn a o hk,d,n,by simpa using i⟩,?_⟩;have e:=r.length;simp[qA]at e;lia
theorem Inv.ZAk(I:Inv X vP σ H s)(h:SqL X.K H a xs)(h':SqL X.K H a ys):xs=ys:=by
 obtain⟨j,r,⟨o,n,e,_,_,d⟩,_⟩:=I.list h;obtain⟨i,z,⟨J,F,y,_,_,q⟩,_⟩:=I.list h';rw[e]at y;cases y;rw[d]at q;injection q with B _
 have:j=i:=by simpa using congrArg Array.toList B
 subst this;exact r.inj z
theorem Inv.Xd(I:Inv X vP σ H s)(h:SqT X.K H a xs)(h':SqT X.K H a ys):xs=ys:=by
 obtain⟨j,r,⟨o,e,_,n,d⟩,_⟩:=I.tuple h;obtain⟨i,z,⟨J,y,_,F,q⟩,_⟩:=I.tuple h';rw[e]at y;cases y;rw[d]at q;injection q with B _
 have:j=i:=by simpa using congrArg Array.toList B
 subst this;exact r.inj z
end
abbrev Cx.wish(X:Cx)(E:xH->xF->Prop):Cx:={X with xe:=E}
abbrev Cx.nox(X:Cx):Cx:=X.wish λ_ _=>False
theorem Cx.Ok.wish{X:Cx}(ok:X.Ok)(E:xH->xF->Prop):(X.wish E).Ok:=
 ⟨ok.mod,ok.kind,ok.glob,ok.blt,ok.above,ok.inj,ok.has,ok.cab,ok.hd,ok.frames,ok.stk,ok.exf,ok.bs,ok.bsz,ok.noex,ok.exfs,ok.funs,ok.frf⟩
theorem Cx.Ok.unwish{X:Cx}{E:xH->xF->Prop}(ok:(X.wish E).Ok):X.Ok:=
 ⟨ok.mod,ok.kind,ok.glob,ok.blt,ok.above,ok.inj,ok.has,ok.cab,ok.hd,ok.frames,ok.stk,ok.exf,ok.bs,ok.bsz,ok.noex,ok.exfs,ok.funs,ok.frf⟩
section
variable{X:Cx}{vP:List (xy×Obj)}{σ:St}{H:Hp}{s:xF}{E:xH->xF->Prop}
theorem Inv.wish(I:Inv X vP σ H s)(E:xH->xF->Prop):Inv (X.wish E) vP σ H s:=⟨I.ok.wish E,I.os,I.bare,I.base,I.loc,I.cell,I.free,I.G9,I.pin,I.hok,I.len⟩
theorem Inv.unwish(I:Inv (X.wish E) vP σ H s):Inv X vP σ H s:=⟨I.ok.unwish,I.os,I.bare,I.base,I.loc,I.cell,I.free,I.G9,I.pin,I.hok,I.len⟩
theorem SP.unwish(h:SP (X.wish E) vP D f s'):SP X vP D f s':=by
 cases f with
 |ret u=>obtain⟨v,d,i,I,r,q⟩:=h;exact⟨v,d,i,I.unwish,r,q⟩
 |_=>obtain⟨d,i,I,q⟩:=h;exact⟨d,i,I.unwish,q⟩
theorem PSs.nox{st:List xG}{t:TS}(h:PSs X.nox st t):PSs X st t:=λd s i H D I hw=>
 vE (h d s i H D (I.wish _) hw) (λ_ _ q=>q.unwish) λ_ _ z=>False.elim z
end
section
variable{X:Cx}{st:xG}{rest:List xG}{t u:TS}{e:xA}{te:TE}{pos:Pos}
def ZIR:TS:=λD σ H=>D.nx σ H
def tSeq(t u:TS):TS:=λD σ H=>t {D with nx:=u D} σ H
theorem ZMb:PSs X [] ZIR:=λ_ _ d H _ I h=>wpAny_execs_nil ⟨d,H,I,h⟩
theorem ZGi(n:PS X st t)(y:PSs X rest u):PSs X (st::rest) (tSeq t u):=by
 intro d s j H D I h;refine wpAny_execs_cons (thn (n d s j H {D with nx:=u D} I h) λf B q=>?_);cases f with
 |next=>
  obtain⟨i,F,z,q⟩:=q;exact y d B i F D z q
 |_=>exact q
theorem ZGh(j:PS X st t):PSs X [st] t:=by
 intro d s i H D I h;refine wpAny_execs_cons (thn (j d s i H D I h) λf n q=>?_);cases f with
 |next=>exact wpAny_execs_nil q
 |_=>exact q
theorem Inv.quiet{d:St}{H:Hp}(I:Inv X vP d H s):interactive X.env=uA:=by simp[interactive,I.ok.kind]
def ZRM(te:TE):TS:=λD σ H=>te σ H λ_ H1=>D.nx σ H1
theorem ZHL(z:PE X e te)(y:swapsWith e u8 pos.line X.env=pure uA:=by rfl):PS X (.Expr e pos) (ZRM te):=by intro d s i H D I h;exact wpAny_Expr_any (thn (z d s i H _ I h) λv F ⟨x,q,n,B,j⟩=>⟨i,q,n,j⟩) I.quiet y
def tRet(te:TE):TS:=λD σ H=>te σ H D.rt
theorem ZNI(z:PE X e te):PS X (.Return (u7 e) pos) (tRet te):=by intro d s i H D I h;exact wpAny_Return_some (thn (z d s i H _ I h) λv B ⟨x,y,q,n,j⟩=>⟨x,i,y,q,n,j⟩)
def tIfS(c:TT)(t u:TS):TS:=λD σ H=>c σ H λb H1=>if b=u9 then t D σ H1 else u D σ H1
theorem ZJz{c:xA}{a b:List xG}{y:TT}(L:PT X c y)(J:PSs X a t)(F:PSs X b u):PS X (.If c a b pos) (tIfS y t u):=by
 intro i s j H D I h;refine wpAny_If (thn (L i s j H _ I h) λd z M=>?_);obtain⟨B,q,n⟩:=M;cases d with
 |true=>exact J i z j B D q n
 |false=>exact F i z j B D q n
end
abbrev TG:=V->St->Hp->(St->Hp->Prop)->Prop
abbrev TGs:=List V->St->Hp->(St->Hp->Prop)->Prop
def PG(X:Cx)(target:xA)(t:TG):Prop:=
 ∀(vP:List (xy×Obj))(s:xF)(σ:St)(H:Hp)(v:V)(u:xH)(Q:St->Hp->Prop),Inv X vP σ H s->RelV v u->t v σ H Q->
  vx (vW X.prog X.w) X.A (assign target X.env u) (λ_=>NP X vP Q) X.xe s
def PGs(X:Cx)(ts:List xA)(t:TGs):Prop:=
 ∀(vP:List (xy×Obj))(s:xF)(σ:St)(H:Hp)(vs:List V)(us:List xH)(Q:St->Hp->Prop),Inv X vP σ H s->Vals vs us->t vs σ H Q->
  vx (vW X.prog X.w) X.A (assignInOrder ((xL ts X.env).map (·.2)) us) (λ_=>NP X vP Q) X.xe s
abbrev TSet:=V->V->V->Hp->(Hp->Prop)->Prop
def PSet(X:Cx)(t:TSet):Prop:=
 ∀(vP:List (xy×Obj))(s:xF)(σ:St)(H:Hp)(o i v:V)(ov iv u:xH)(Q:Hp->Prop),Inv X vP σ H s->RelV o ov->RelV i iv->RelV v u->t o i v H Q->
  vx (vW X.prog X.w) X.A (setItem ov iv u) (λ_ s'=>∃H',Inv X vP σ H' s'/\Q H') X.xe s
abbrev TIp:=V->V->Hp->VK->Prop
def PIp(X:Cx)(op:Operator)(t:TIp):Prop:=
 ∀(vP:List (xy×Obj))(s:xF)(σ:St)(H:Hp)(x y:V)(v u:xH)(Q:VK),Inv X vP σ H s->RelV x v->RelV y u->t x y H Q->
  vx (vW X.prog X.w) X.A (inplaceOp op v u) (EP X vP σ Q) X.xe s
section
variable{X:Cx}{pos:Pos}
def ZCG(i:Nat):TG:=λv σ H Q=>Q (σ.set i (u7 v)) H
theorem ZQu(n:X.N.Nodup)(y:X.N[i]?=u7 x)(j:Loc X.env.scope x)(z:X.fn x=u9\/X.env.scope.names.lookup x=u7 .local:=by first|exact .inl rfl|exact .inr rfl|assumption):PG X (.Name x pos) (ZCG i):=by intro d s B H v u Q I r h;exact wpAny_assign_Name (Od I n y j r (λF q=>⟨_,H,q,h⟩) z)
def gNil:TGs:=λvs σ H Q=>vs=[]/\Q σ H
def ZOx(t:TG)(u:TGs):TGs:=λvs σ H Q=>∃v r,vs=v::r/\t v σ H λσ' H'=>u r σ' H' Q
theorem ZIe:PGs X [] gNil:=by intro d s i H n j Q I r h;obtain⟨e,h⟩:=h;subst e;cases r;exact assignInOrder_nil ⟨i,H,I,h⟩
theorem ZJo{e:xA}{es:List xA}{t:TG}{u:TGs}(y:PG X e t)(B:PGs X es u)
  (M:(xL (e::es) X.env).map (·.2)=assign e X.env::(xL es X.env).map (·.2):=by rfl):PGs X (e::es) (ZOx t u):=by
 intro d s n H S O Q I r h;obtain⟨v,N,z,h⟩:=h;subst z;cases r with
 |cons r J=>
  rw[M];exact assignInOrder_cons (thn (y d s n H _ _ _ I r h) λ_ F ⟨i,L,q,j⟩=>(B d F i L _ _ Q q J j))
def gTup(K:za)(n:Nat)(t:TGs):TG:=λv σ H Q=>∃a xs,v=.ref a/\SqT K H a xs/\xs.length=n/\t xs σ H Q
theorem ZQm{es:List xA}{k:Nat}{t:TGs}{n:Nat}(L:X.calm=u9)(h:PGs X es t)
  (M:(xL es X.env).length=n:=by rfl) (i:(xL es X.env).findIdx? (·.1)=u8:=by rfl):PG X (.Tuple es k pos) (gTup X.K n t):=by
 intro d s j H v u Q I r hw;obtain⟨a,J,y,B,N,hw⟩:=hw;subst y;cases r;obtain⟨F,rv,z,O⟩:=I.tuple B;exact assign_Tuple_tuple (I.ok.hd L) z (by simp[M,<-N,rv.length]) i λS q=>(h d _ j H J _ Q (I.kept (t':=s.toks) λb o e=>q b o (z8 (zx e)) e) (by simpa using rv) hw)
def gSub(to ti:TE)(t:TSet):TG:=λv σ H Q=>to σ H λo H1=>ti σ H1 λi H2=>t o i v H2 λH3=>Q σ H3
theorem ZQX{o i:xA}{q ti:TE}{t:TSet}(ho:PE X o q)(S:PE X i ti)(W:PSet X t)
  (N:∀v,assign (.Subscript o i pos) X.env v=(do
   let ov<-holding [v] (eval o X.env);let iv<-holding [v,ov] (eval i X.env)
   standAt pos
   holding [v,ov,iv] (setItem ov iv v)
   release [v,ov,iv] []):=by intro _;rfl):PG X (.Subscript o i pos) (gSub q ti t):=by
 intro d s j H v u Q I r h;rw[N];refine vk (vD (thn (ho d s j H _ I h) λov s1 n=>?_));obtain⟨x,U,Z,Y,z⟩:=n;refine vk (vD (thn (S d s1 j U _ Z z) λiv M n=>?_));obtain⟨y,J,I2,F,q2⟩:=n;exact vk (wpAny_standAt (vk (vD (thn (W d M j J x y v ov iv u _ I2 Y F r q2) λ_ s3 ⟨B,L,O⟩=>(wpAny_release ⟨j,B,L,O⟩)))))
def Xj(te:TE)(g:TG):TS:=λD σ H=>te σ H λx H1=>g x σ H1 D.nx
theorem ZNb{e:xA}{g:TG}(N:PE X e te)(B:PG X tg g)(M:swapsWithSole [tg] e pos.line X.env=pure uA:=by rfl)(hw:swappedStores [tg] e X.env=pure u8:=by rfl)
  (z:(xL [tg] X.env).map (·.2)=[assign tg X.env]:=by rfl):PS X (.Assign [tg] e pos) (Xj te g):=by
 intro d s i H D I h;refine wpAny_Assign_stores (thn (N d s i H _ I h) λv F L=>?_) M hw;obtain⟨x,J,y,n,j⟩:=L;rw[z];exact thn (B d F i J x v _ y n j) λ_ O q=>q
theorem ZM8{i:Nat}{x:Str}{e:xA}{d:Pos}(J:X.N.Nodup)(M:X.N[i]?=u7 x)(B:Loc X.env.scope x)(W:PE X e te)(S:swapsWith e (u7 (.Name x d)) pos.line X.env=pure uA:=by rfl)(U:X.fn x=u9\/X.env.scope.names.lookup x=u7 .local:=by first|exact .inl rfl|exact .inr rfl|assumption):
  PS X (.Assign [.Name x d] e pos) (Xj te (ZCG i)):=by
 intro j s z H D I h;exact wpAny_Assign_Name (thn (W j s z H _ I h) λv Z ⟨y,O,F,q,n⟩=>(Od F J M B q (λY L=>⟨_,O,L,n⟩) U)) S
def tPar(i j:Nat)(ta:TA):TS:=λD σ H=>ta σ H λvs H1=>∃v w,vs=[v,w]/\D.nx ((σ.set i (u7 v)).set j (u7 w)) H1
theorem ZMi{i j:Nat}{x y:Str}{a b:xA}{ta:TA}{F M pt:Pos}{kt k2 pt2}(hc:X.calm=u9)(W:X.N.Nodup)(hi:X.N[i]?=u7 x)(hj:X.N[j]?=u7 y)(S:i≠j)
  (Y:X.env.scope.names.lookup x=u7 .local) (U:X.env.scope.names.lookup y=u7 .local) (ha:PA X [a,b] ta)
  (hw:swappedStores [.Tuple [.Name x F,.Name y M] kt pt] (.Tuple [a,b] k2 pt2) X.env=pure (u7 [x,y]))
  (hs:swapsWithSole [.Tuple [.Name x F,.Name y M] kt pt] (.Tuple [a,b] k2 pt2) pos.line X.env=pure uA:=by rfl):
  PS X (.Assign [.Tuple [.Name x F,.Name y M] kt pt] (.Tuple [a,b] k2 pt2) pos) (tPar i j ta):=by
 intro d s σ H D I h;rw[exec_Assign_arm];refine vk (wpAny_standAt ?_);rw[hs];refine vk (vH ?_);rw[if_neg (by decide)];refine vk (Tuple_ (thn (ha _ d s σ H _ I h) λus O zz=>?_));obtain⟨vs,H1,I1,r1,B⟩:=zz;obtain⟨v,w,e1,B⟩:=B;subst e1;obtain⟨n,z,rfl,rv,L⟩:∃n z,us=[n,z]/\RelV v n/\RelV w z:=by
  cases r1 with
  | cons p q=>
   cases q with
   |cons p' q'=>
    cases q';exact⟨_,_,rfl,p,p'⟩
 refine vF ?_ (by show 2<=sizeLine;decide);rw[hw];refine vk (vH ?_);refine vk (wpAny_rule (vk (unpackItems_tuple (items:= #[n,z]) (I.ok.hd hc) (IsTup.new O.heap _) λh' J=>?_)));have I3:=(I1.kept (t':=O.toks) λb o e=>zQ _ e).kept (t':=O.toks) λb o e=>J b o (z8 (zx e)) e
 refine vk (assignInOrder_cons (wpAny_bindName (Od I3 W hj (.inl U) L (λs2 I4=>?_) (.inr U))));refine assignInOrder_cons (wpAny_bindName (Od I4 W hi (.inl Y) rv (λs3 Z=>assignInOrder_nil (vH ?_)) (.inr Y)));rw[List.set_comm _ _ (Ne.symm S)]at Z;exact⟨_,H1,Z,B⟩
noncomputable def tAug(i:Nat)(te:TE)(ti:TIp):TS:=λD σ H=>∃x,σ[i]?=u7 (u7 x)/\te σ H λy H1=>ti x y H1 λz H2=>D.nx (σ.set i (u7 z)) H2
theorem ZMA{i:Nat}{x:Str}{e:xA}{op:Operator}{ti:TIp}{B:Pos}(W:X.N.Nodup)(M:X.N[i]?=u7 x)(J:Loc X.env.scope x)(he:PE X e te)(ho:PIp X op ti)(hf:X.fn x=u9\/X.env.scope.names.lookup x=u7 .local:=by first|exact .inl rfl|exact .inr rfl|assumption):
  PS X (.AugAssign (.Name x B) op e pos) (tAug i te ti):=by
 intro d s L H D I h;obtain⟨v,e1,h⟩:=h;obtain⟨m,hn,hl⟩:=I.loc;have F:Vis X.env.scope x:=by rcases J with k|k;exact .inl k;exact .inr (.inl k)
 obtain⟨u,r,l⟩:=hl i x v M e1 F;refine wpAny_AugAssign_Name ?_
 have O:vx (vW X.prog X.w) X.A (eval e X.env) (λw q=>vx (vW X.prog X.w) X.A (inplaceOp op u w) (λr n=>vx (vW X.prog X.w) X.A (storeName X.env x r) (λ_=>SP X d D .next) X.xe n) X.xe q) X.xe s:=by
  refine thn (he d s L H _ I h) λw s1 zz=>?_
  obtain⟨y,H1,I1,r1,S⟩:=zz;exact thn (ho d s1 L H1 v y u w _ I1 r r1 S) λz s2 ⟨zv,Y,I2,U,q2⟩=>(Od I2 W M J U (λs3 Z=>⟨_,Y,Z,q2⟩) hf)
 rcases l with⟨hk,hm⟩|⟨hk,c,hc,j⟩
 .exact wpAny_loadName_local I.ok.kind hk hn hm O
 rcases hk with hk|hk
 .exact wpAny_loadName_cell I.ok.kind hk hc j O
 .rcases J with k|k
  .have:X.env.scope.names.lookup x=u7 .free:=hk;rw[k]at this;cases this
  .have:X.env.scope.names.lookup x=u7 .free:=hk;rw[k]at this;cases this
def ipI(f:Int->Int->Int):TIp:=λx y H Q=>∃i j,x=.int i/\y=.int j/\Q (.int (f i j)) H
theorem ZKF:PIp X .Add (ipI λi j=>i+j):=by intro d s J H x y v u Q I n z h;obtain⟨i,j,B,F,q⟩:=h;subst B;subst F;obtain⟨t,rfl⟩:=n;obtain⟨L,rfl⟩:=z;exact iadd_int ⟨.int _,H,I.tok _,⟨_,rfl⟩,q⟩
theorem ZPw:PIp X .Sub (ipI λi j=>i-j):=by intro d s J H x y v u Q I n z h;obtain⟨i,j,B,F,q⟩:=h;subst B;subst F;obtain⟨t,rfl⟩:=n;obtain⟨L,rfl⟩:=z;exact isub_int ⟨.int _,H,I.tok _,⟨_,rfl⟩,q⟩
end
section
variable{X:Cx}{pos:Pos}
noncomputable def ZO9(c:TT)(tb:TS):TS:=λD σ H=>∃W:Nat->St->Hp->Prop,(∃m,W m σ H)/\∀m σ H,W m σ H->
 c σ H λb H1=>if b=u9 then∃N:St->Hp->Prop,(∀σ' H',N σ' H'->∃m',m'<m/\W m' σ' H')/\tb {D with nx:=N,ct:=N,bk:=D.nx} σ H1 else D.nx σ H1
theorem ZJD{c:xA}{body:List xG}{tc:TT}{tb:TS}(hp:PassesOwn (vW X.prog X.w) X.A X.env X.xe)(hc:PT X c tc)(hb:PSs X body tb):PS X (.While c body [] pos) (ZO9 tc tb):=by
 intro vP s σ H D I h;obtain⟨W,⟨m0,w0⟩,turn⟩:=h;refine wpAny_While (codeAny_whileLoop (λn s'=>∃σ' H',Inv X vP σ' H' s'/\W n σ' H') ?_ m0 ⟨σ,H,I,w0⟩);rintro n s1 ⟨σ1,H1,I1,w1⟩;refine vG hp (thn (hc vP s1 σ1 H1 _ I1 (turn n σ1 H1 w1)) λb s2 zz=>?_);obtain⟨H2,I2,q2⟩:=zz;cases b with
 | true=>
  obtain⟨N,hN,q2⟩:=q2;rw[if_pos rfl];refine vG hp (thn (hb vP s2 σ1 H2 _ I2 q2) λf s3 q3=>?_);cases f with
  |next|cont=>
   obtain⟨σ3,H3,I3,n3⟩:=q3;obtain⟨m',hm,w3⟩:=hN σ3 H3 n3;exact⟨m',hm,σ3,H3,I3,w3⟩
  |_=>exact q3
 |false=>
  rw[if_neg zy];exact wpAny_execs_nil ⟨σ1,H2,I2,q2⟩
end
structure It where
 go:Nat->Hp->Prop
 yld:Nat->Hp->V->Hp->Prop
 stop:Nat->Hp->Prop
def FpOk(X:Cx)(vP:List (xy×Obj))(H:Hp)(b:xy):Prop:=
 H b=u8/\b≠X.env.locals/\b∉X.fs/\(b∈X.ex\/X.s₀.heap.objs.size<=b)/\(∀x c,X.env.cells.lookup x=u7 c->c≠b)/\∀p∈X.pn++vP,p.1≠b
theorem Inv.Hr{X:Cx}{i:St}{H H':Hp}{b:xy}(I:Inv X vP i H s)(d:s.heap.objs.size<=b)(j:H' b=u8):FpOk X vP H' b:=by
 refine⟨j,jY (zq I.lt d),I.nofs d,.inr (z6 I.sz d),λx c e z=>?_,λp hp z=>(absurd (zq (zx (I.pin p hp).1) (by rw[z];exact d)) (qQ _))⟩
 .obtain⟨v,q⟩:=I.cell x c e;exact absurd (zq q.lt (z▸d)) (qQ _)
structure Turn (P:xD) (w:xI) (K:za) (tg:xA) (J:It) (fp:List xy) (it:xy) (tn:Nat->Heap->Prop):Prop where
 mem:it∈fp
 obj:∀i h,tn i h->∀b∈fp,∃o,h.get? b=u7 o/\∀v,o.data≠ .cell v
 keep:∀i h h',tn i h->(∀b∈fp,∀o,h.get? b=u7 o->h'.get? b=u7 o)->tn i h'
 item:∀(X:Cx),X.prog=P->X.w=w->X.K=K->X.calm=u9->∀(i:Nat)(vP:List (xy×Obj))(s:xF)(σ:St)(H:Hp)(E:xH->xF->Prop),Inv X vP σ H s->(∀b∈fp,FpOk X vP H b)->tn i s.heap->J.go i H->
  vx (vW P w) X.A (pyNext (.ref it)) (λr s1=>∃u,r=u7 u/\
   vx (vW P w) X.A (vX tg (.ref it) u) (λ_ s2=>∃x H',Inv X vP σ H' s2/\RelV x u/\J.yld i H x H'/\tn (i+1) s2.heap/\∀b∈fp,H' b=u8) E s1) E s
 done:∀(X:Cx),X.prog=P->X.w=w->X.K=K->X.calm=u9->∀(i:Nat)(vP:List (xy×Obj))(s:xF)(σ:St)(H:Hp)(E:xH->xF->Prop),Inv X vP σ H s->(∀b∈fp,FpOk X vP H b)->tn i s.heap->J.stop i H->
  vx (vW P w) X.A (pyNext (.ref it)) (λr s1=>r=u8/\Inv X vP σ H s1) E s
 self:∀(A:x0)(i:Nat)(s:xF)(Q:xH->xF->Prop)(E:xH->xF->Prop),tn i s.heap->Q (.ref it) s->vx (vW P w) A (pyIter (.ref it)) Q E s
abbrev TI:=St->Hp->(It->Hp->Prop)->Prop
def PIE(X:Cx)(vP:List (xy×Obj))(σ:St)(tg:xA)(R:It->Hp->Prop)(itv:xH)(s2:xF):Prop:=
 ∃(it:xy)(fp:List xy)(tn:Nat->Heap->Prop)(J:It)(H':Hp),itv=.ref it/\Inv X vP σ H' s2/\Turn X.prog X.w X.K tg J fp it tn/\tn 0 s2.heap/\(∀b∈fp,FpOk X vP H' b)/\R J H'
def PI(X:Cx)(tg iter:xA)(wi:TI):Prop:=
 ∀(vP:List (xy×Obj))(s:xF)(σ:St)(H:Hp)(R:It->Hp->Prop),Inv X vP σ H s->wi σ H R->
  vx (vW X.prog X.w) X.A (eval iter X.env) (λv s1=>vx (vW X.prog X.w) X.A (pyIter v) (PIE X vP σ tg R) X.xe s1) X.xe s
theorem Nr(ho:s.heap.get? it=u7 o)(hc:o.cls=.type n)(hd:o.data=.fields vs)
  (hn: ["enumerate","zip","dict_itemiterator","dict_reverseitemiterator","odict_iterator","itertools.zip_longest","itertools.pairwise"].contains n=uA) (hQ:Q () s):vx M A (vX tg (.ref it) u) Q E s:=by
 unfold vX
 cases tg<;>first
  |exact vH hQ
  | (cases u<;>first
    |exact vH hQ
    | (
      refine vk (wpAny_load ho ?_);rw[hc,hd];show vx M A (if(["enumerate","zip","dict_itemiterator","dict_reverseitemiterator","odict_iterator","itertools.zip_longest","itertools.pairwise"].contains n&&vs[0]?==u7 (vK _))=u9 then _ else _) Q E s;rw[if_neg (by intro h;rw[hn,Bool.false_and]at h;cases h)];exact vH hQ))
noncomputable def Itl(K:za)(a:xy):It:=
 ⟨λi H=>∃xs x,SqL K H a xs/\xs[i]?=u7 x,λi H x H'=>H'=H/\∀xs,SqL K H a xs->xs[i]?=u7 x,λi H=>∃xs,SqL K H a xs/\xs.length<=i⟩
noncomputable def Itt(K:za)(a:xy):It:=
 ⟨λi H=>∃xs x,SqT K H a xs/\xs[i]?=u7 x,λi H x H'=>H'=H/\∀xs,SqT K H a xs->xs[i]?=u7 x,λi H=>∃xs,SqT K H a xs/\xs.length<=i⟩
def Itr(lo:Int)(n:Nat):It:=⟨λi _=>i<n,λi H x H'=>H'=H/\x=.int (lo+i),λi _=>n<=i⟩
theorem ZJ3{w:xI}{K:za}(a it:xy):Turn P w K tg (Itl K a) [it] it (λi h=>h.IsListIter it a i) where
 mem:=by simp
 obj:=λi h j b n=>by
  have e:b=it:=by simpa using n
  subst e;obtain⟨o,e,c,d⟩:=j;exact⟨o,e,λv z=>by rw[d]at z;cases z⟩
 keep:=λi h h' j k=>j.at λo e=>k it (by simp) o e
 item:=by
  intro X M hw L hc i y s σ H E I F j J;subst M hw L;obtain⟨xs,x,B,N⟩:=J;obtain⟨Z,rv,p,hz⟩:=I.list B;obtain⟨u,hu,ru⟩:=rv.get N;obtain⟨O,Y,f2,U,S,f5⟩:=F it (by simp);refine wpAny_pyNext_list_item j p.isList (by simpa using hu) λh' q sb=>?_
  obtain⟨o,e,c,d⟩:=id q;exact⟨u,rfl,Nr e c d (by decide) ⟨x,H,I.turned (t':=s.toks) (λb o n e=>(sb.2 b n).trans e) O Y U S f5,ru,⟨rfl,λys hy=>(I.ZAk hy B)▸N⟩,q,λb n=>(F b n).1⟩⟩
 done:=by intro X M hw L hc i y s σ H E I F j J;subst M hw L;obtain⟨xs,B,N⟩:=J;obtain⟨Z,rv,p,hz⟩:=I.list B;obtain⟨O,Y,f2,U,S,f5⟩:=F it (by simp);have hl:=rv.length;exact wpAny_pyNext_list_end (I.ok.hd hc) j p.isList (by simp;lia) λh' eb=>⟨rfl,I.turned (λb o n e=>eb b o n e) O Y U S f5⟩
 self:=λ_ _ _ _ _ j h=>wpAny_pyIter_listiter j h
theorem ZLu{w:xI}{K:za}(a it:xy):Turn P w K tg (Itt K a) [it] it (λi h=>h.IsTupleIter it a i) where
 mem:=by simp
 obj:=λi h j b n=>by
  have e:b=it:=by simpa using n
  subst e;obtain⟨o,e,c,d⟩:=j;exact⟨o,e,λv z=>by rw[d]at z;cases z⟩
 keep:=λi h h' j k=>j.at λo e=>k it (by simp) o e
 item:=by
  intro X M hw L hc i y s σ H E I F j J;subst M hw L;obtain⟨xs,x,B,N⟩:=J;obtain⟨Z,rv,p,hz⟩:=I.tuple B;obtain⟨u,hu,ru⟩:=rv.get N;obtain⟨O,Y,f2,U,S,f5⟩:=F it (by simp);refine wpAny_pyNext_tuple_item j (p) (by simpa using hu) λh' q sb=>?_
  obtain⟨o,e,c,d⟩:=id q;exact⟨u,rfl,Nr e c d (by decide) ⟨x,H,I.turned (t':=s.toks) (λb o n e=>(sb.2 b n).trans e) O Y U S f5,ru,⟨rfl,λys hy=>(I.Xd hy B)▸N⟩,q,λb n=>(F b n).1⟩⟩
 done:=by intro X M hw L hc i y s σ H E I F j J;subst M hw L;obtain⟨xs,B,N⟩:=J;obtain⟨Z,rv,p,hz⟩:=I.tuple B;obtain⟨O,Y,f2,U,S,f5⟩:=F it (by simp);have hl:=rv.length;exact wpAny_pyNext_tuple_end (I.ok.hd hc) j (p) (by simp;lia) λh' eb=>⟨rfl,I.turned (λb o n e=>eb b o n e) O Y U S f5⟩
 self:=λ_ _ _ _ _ j h=>wpAny_pyIter_tupleiter j h
theorem ZJf{w:xI}{K:za}(it:xy)(B:Int)(n:Nat):Turn P w K tg (Itr B n) [it] it (λi h=>IsRangeIter h it (B+(i:Nat)*1) ((n:Int)-(i:Nat)) 1) where
 mem:=by simp
 obj:=λi h d b j=>by
  have e:b=it:=by simpa using j
  subst e;exact⟨_,d,λv z=>by have z':=z;cases z'⟩
 keep:=λi h h' d k=>k it (by simp) _ d
 item:=by
  intro X M hw L U i y s σ H E I F d J;subst M hw L;obtain⟨N,Y,f2,S,O,Z⟩:=F it (by simp);refine(Walks.range (prog:=X.prog) (w:=X.w) (I.ok.hd U) it B 1 n).item i s _ _ J d λv h' tk hv q kk=>?_
  obtain⟨t,rfl⟩:=hv;refine⟨_,rfl,Nr q rfl rfl (by decide) ⟨.int (B+i),H,I.turned (λb o j e=>kk b o (by simpa using j) e) N Y S O Z,⟨t,?_⟩,⟨rfl,rfl⟩,q,λb j=>(F b j).1⟩⟩;rw[Int.mul_one]
 done:=by intro X M hw L U i y s σ H E I F d J;subst M hw L;obtain⟨N,Y,f2,S,O,Z⟩:=F it (by simp);exact wpAny_pyNext_range_end (I.ok.hd U) d (by have:n<=i:=J;lia) λh' eb=>⟨rfl,I.turned (λb o j e=>eb b o j e) N Y S O Z⟩
 self:=λ_ _ _ _ _ d h=>wpAny_pyIter_rangeiter d h
section
variable{X:Cx}{tg:xA}
def ZLS(K:za)(tl:TE):TI:=λσ H R=>tl σ H λx H1=>∃a,x=.ref a/\(∃xs,SqL K H1 a xs)/\R (Itl K a) H1
def iTup(K:za)(tl:TE):TI:=λσ H R=>tl σ H λx H1=>∃a,x=.ref a/\(∃xs,SqT K H1 a xs)/\R (Itt K a) H1
theorem Zy{l:xA}{n:TE}(J:PE X l n):PI X tg l (ZLS X.K n):=by
 intro d s B H R I h;refine thn (J d s B H _ I h) λv j O=>?_
 obtain⟨x,N,i,z,y⟩:=O;obtain⟨a,e,⟨S,L⟩,q⟩:=y;subst e;cases z;obtain⟨M,rv,p,U⟩:=i.list L;refine wpAny_pyIter_list p.isList ?_;refine⟨j.heap.objs.size,[j.heap.objs.size],_,_,N,rfl,i.kept λb o e=>zQ _ e,ZJ3 a _,⟨_,z0 _ rfl,rfl,rfl⟩,λb F=>?_,q⟩;have e:b=j.heap.objs.size:=by simpa using F
 subst e;exact i.Hr (zY _) (i.hok.fresh (zY _))
theorem ZLU{l:xA}{n:TE}(J:PE X l n):PI X tg l (iTup X.K n):=by
 intro d s B H R I h;refine thn (J d s B H _ I h) λv j O=>?_
 obtain⟨x,N,i,z,y⟩:=O;obtain⟨a,e,⟨S,L⟩,q⟩:=y;subst e;cases z;obtain⟨M,rv,p,U⟩:=i.tuple L;refine wpAny_pyIter_tuple (p) ?_;refine⟨j.heap.objs.size,[j.heap.objs.size],_,_,N,rfl,i.kept λb o e=>zQ _ e,ZLu a _,⟨_,z0 _ rfl,rfl,rfl⟩,λb F=>?_,q⟩;have e:b=j.heap.objs.size:=by simpa using F
 subst e;exact i.Hr (zY _) (i.hok.fresh (zY _))
theorem ZJC{B:St}{H:Hp}{R:It->Hp->Prop}{E:xH->xF->Prop}{i n:Int}{t u v:Tok}{tk:Nat}(I:Inv X vP B H s)(N: -(2^62)<=i)(U:i<2^62)(O: -(2^62)<=n)(L:n<2^62)
  (q:R (Itr i (n-i).toNat) H):vx (vW X.prog X.w) X.A (pyIter (.ref s.heap.objs.size)) (PIE X vP B tg R) E {s with heap:=s.heap.push {cls:=.type "range",data:=.fields #[.int i t,.int n u,.int 1 v]},toks:=tk}:=by
 refine wpAny_pyIter_range (IsRange.new ..) (small_one N U O L) ?_;have F:Inv X vP B H {s with heap:=s.heap.push {cls:=.type "range",data:=.fields #[.int i t,.int n u,.int 1 v]},toks:=tk}:=I.kept λb o e=>zQ _ e
 refine⟨(s.heap.push {cls:=.type "range",data:=.fields #[.int i t,.int n u,.int 1 v]}).objs.size,[(s.heap.push {cls:=.type "range",data:=.fields #[.int i t,.int n u,.int 1 v]}).objs.size],_,_,H,rfl,
  F.kept λb o e=>zQ _ e,ZJf _ i (n-i).toNat,?_,λb J=>?_,q⟩
 .have M:i+((0:Nat):Int)*1=i:=by simp
  have S:(((n-i).toNat:Nat):Int)-((0:Nat):Int)=Builtin.Range.rangeSize i n 1:=by rw[rangeSize_one];split <;> lia
  rw[M,S];exact z0 _ rfl
 have e:b=(s.heap.push {cls:=.type "range",data:=.fields #[.int i t,.int n u,.int 1 v]}).objs.size:=by simpa using J
 subst e;exact F.Hr (zY _) (F.hok.fresh (zY _))
def ZIZ(ta:TA):TI:=λσ H R=>ta σ H λvs H1=>∃j:Int,vs=[.int j]/\ -(2^62)<=j/\j<2^62/\R (Itr 0 j.toNat) H1
theorem ZO0{a:xA}{ta:TA}{p pos:Pos}(F:Gl X "range")(L:X.mg "range"=u8)(B:PA X [a] ta)(O:vz [a] X.env=[(uA,eval a X.env)]:=by rfl):PI X tg (.Call (.Name "range" p) [a] [] pos) (ZIZ ta):=by
 intro d s y H R I h;refine Call_ (Hl I F L boot_range (zg (thn (B pos d s y H _ I h) λU S M=>?_) O rfl));obtain⟨Y,W,z,n,i⟩:=M;obtain⟨j,e,i,N,q⟩:=i;subst e;cases n with
 |cons r J=>
  cases J;obtain⟨t,rfl⟩:=r;exact call_range_1 (ZJC z (by lia) (by lia) i N (by simpa using q))
noncomputable def tFor(wi:TI)(g:TG)(tb:TS):TS:=λD σ H=>wi σ H λJ H1=>∃W:Nat->Nat->St->Hp->Prop,(∃m,W 0 m σ H1)/\∀i m σ H,W i m σ H->
 (J.stop i H/\D.nx σ H)\/(J.go i H/\∃N:St->Hp->Prop,(∀σ' H',N σ' H'->∃m',m'<m/\W (i+1) m' σ' H')/\∀x H',J.yld i H x H'->g x σ H' λσ2 H2=>tb {D with nx:=N,ct:=N,bk:=D.nx} σ2 H2)
def Ng(fp:List xy)(h:Heap):List (xy×Obj):=fp.filterMap λb=>(h.get? b).map λo=>(b,o)
theorem Tg(d:b∈fp)(e:h.get? b=u7 o):(b,o)∈Ng fp h:=jP.mpr ⟨b,d,by rw[e];rfl⟩
theorem ZCv(hp:p∈Ng fp h):p.1∈fp/\h.get? p.1=u7 p.2:=by
 obtain⟨b,i,e⟩:=jP.mp hp;cases q:h.get? b with
 |none=>rw[q]at e;cases e
 |some o=>
  rw[q]at e;have d:=Option.some.inj e;subst d;exact⟨i,q⟩
theorem Inv.pinned{i:St}{H:Hp}{fp:List xy}(I:Inv X vP i H s)(F:∀b∈fp,FpOk X vP H b)(ho:∀b∈fp,∃o,s.heap.get? b=u7 o/\∀v,o.data≠ .cell v):Inv X (vP++Ng fp s.heap) i H s:=
 I.Kz λp hp=>(jI.mp hp).elim (λz=>I.pin p (zD _ z)) λz=>by obtain⟨j,e⟩:=ZCv z;obtain⟨q,B,y,_⟩:=F p.1 j;obtain⟨o,n,d⟩:=ho p.1 j;rw[e]at n;cases n;exact⟨e,q,B,y,d⟩
theorem Inv.unpinned{pl:List (xy×Obj)}{d:St}{H:Hp}(I:Inv X (vP++pl) d H s):Inv X vP d H s:=I.Kz λp hp=>I.pin p (zD _ (j1 _ hp))
theorem ZIy(hp:PassesOwn (vW X.prog X.w) X.A X.env X.xe)(hc:X.calm=u9)(hi:PI X tg iter wi)(hg:PG X tg g)(y:PSs X body tb)
  (hs:∀x,foldedSetIterable iter X.env x=pure x:=by intro _;rfl):PS X (.For tg iter body [] pos) (tFor wi g tb):=by
 intro j s σ H D I h;refine wpAny_For (thn (hi j s σ H _ I h) λv s1 h1=>thn h1 λitv s2 h2=>?_) hs;obtain⟨it,Z,tn,J,H2,e,I2,T,st2,f2,W,⟨m0,w0⟩,turn⟩:=h2;subst e;have z:∀{M:Hp},(∀b∈Z,M b=u8)->∀b∈Z,FpOk X j M b:=λhn b y=>⟨hn b y,(f2 b y).2⟩
 refine codeAny_forLoop_any (λn s'=>∃i F M,Inv X j F M s'/\tn i s'.heap/\(∀b∈Z,M b=u8)/\W i n F M) ?_ m0 ⟨0,σ,H2,I2,st2,λb y=>(f2 b y).1,w0⟩;rintro n s3 ⟨i,B,H3,I3,st3,fr3,w3⟩;rcases turn i n B H3 w3 with⟨stop,qn⟩|⟨go,N,hN,step⟩
 .refine vG hp (thn (T.done X rfl rfl rfl hc i j s3 B H3 X.xe I3 (z fr3) st3 stop) λr s4 ⟨hr,I4⟩=>?_);subst hr;exact wpAny_execs_nil ⟨B,H3,I4,qn⟩
 refine vG hp (thn (T.item X rfl rfl rfl hc i j s3 B H3 X.xe I3 (z fr3) st3 go) λr s4 zz=>?_);obtain⟨u,hr,h4⟩:=zz;subst hr;refine vG hp (thn h4 λ_ s5 zz=>?_);obtain⟨x,H5,I5,r5,y5,Y,fr5⟩:=zz;refine vG hp (thn (hg _ s5 B H5 x u _ (I5.pinned (z fr5) (T.obj _ _ Y)) r5 (step x H5 y5)) λ_ s6 ⟨σ6,H6,I6,q6⟩=>?_);refine vG hp (thn (y _ s6 σ6 H6 _ I6 q6) λf s7 U=>?_)
 have S:∀{q:St}{L:Hp},Inv X (j++Ng Z s5.heap) q L s7->N q L->∃m,m<n/\∃i F M,Inv X j F M s7/\tn i s7.heap/\(∀b∈Z,M b=u8)/\W i m F M:=λ{q L}O n7=>by obtain⟨m',hm,w7⟩:=hN q L n7;refine⟨m',hm,i+1,q,L,O.unpinned,T.keep _ _ _ Y λb y o e=>(O.pin (b,o) (zD _ (zD _ (Tg y e)))).1,λb y=>?_,w7⟩;obtain⟨o,e,d⟩:=T.obj _ _ Y b y;exact(O.pin (b,o) (zD _ (zD _ (Tg y e)))).2.1
 cases f with
 |brk=>obtain⟨q,L,O,U⟩:=U;exact⟨q,L,O.unpinned,U⟩
 |ret v=>obtain⟨x7,q,L,O,r7,U⟩:=U;exact⟨x7,q,L,O.unpinned,r7,U⟩
 |_=>obtain⟨q,L,O,n7⟩:=U;exact S O n7
end
abbrev R2:=V->V->Hp->VK->Prop
def OpR(X:Cx)(f:xH->xH->Sem xH)(r:R2):Prop:=
 ∀(vP:List (xy×Obj))(s:xF)(σ:St)(H:Hp)(x y:V)(v u:xH)(Q:VK),Inv X vP σ H s->RelV x v->RelV y u->r x y H Q->
  vx (vW X.prog X.w) X.A (f v u) (EP X vP σ Q) X.xe s
def UnR(X:Cx)(f:xH->Sem xH)(r:V->Hp->VK->Prop):Prop:=
 ∀(vP:List (xy×Obj))(s:xF)(σ:St)(H:Hp)(x:V)(v:xH)(Q:VK),Inv X vP σ H s->RelV x v->r x H Q->
  vx (vW X.prog X.w) X.A (f v) (EP X vP σ Q) X.xe s
def CallR(X:Cx)(f:xH)(r:List V->Hp->VK->Prop):Prop:=
 ∀(vP:List (xy×Obj))(s:xF)(σ:St)(H:Hp)(xs:List V)(us:List xH)(Q:VK),Inv X vP σ H s->Vals xs us->r xs H Q->
  vx (vW X.prog X.w) X.A (call f us) (EP X vP σ Q) X.xe s
def tOp(r:R2)(ta tb:TE):TE:=λσ H Q=>ta σ H λx H1=>tb σ H1 λy H2=>r x y H2 Q
def tUn(r:V->Hp->VK->Prop)(ta:TE):TE:=λσ H Q=>ta σ H λx H1=>r x H1 Q
def rI(C:Int->Int->Prop)(g:Int->Int->V):R2:=λx y H Q=>∃i j,x=.int i/\y=.int j/\C i j/\Q (g i j) H
def rI0(g:Int->Int->V):R2:=λx y H Q=>∃i j,x=.int i/\y=.int j/\Q (g i j) H
def rU(g:Int->V):V->Hp->VK->Prop:=λx H Q=>∃i,x=.int i/\Q (g i) H
section
variable{X:Cx}{a b c:xA}{ta tb tc:TE}{pos:Pos}
theorem Xm(L:PE X a ta)(F:PE X b tb){d:St}{H:Hp}{R:V->V->Hp->Prop}(I:Inv X vP d H s)
  (h:ta d H λx q=>tb d q λy i=>R x y i) {Q:xH->xF->Prop} {f:xH->xH->Sem xH}
  (U:∀v u s2 x y i,Inv X vP d i s2->RelV x v->RelV y u->R x y i->vx (vW X.prog X.w) X.A (f v u) Q X.xe s2):
  vx (vW X.prog X.w) X.A (eval a X.env) (λv j=>vx (vW X.prog X.w) X.A (eval b X.env) (λu n=>vx (vW X.prog X.w) X.A (f v u) Q X.xe n) X.xe j) X.xe s:=by
 refine thn (L vP s d H _ I h) λv N ⟨x,q,M,B,z⟩=>?_
 exact thn (F vP N d q _ M z) λu s2 ⟨y,i,O,J,S⟩=>(U v u s2 x y i O B J S)
theorem ZOl{op:Operator}{r:R2}(ho:OpR X (xR op) r)(z:PE X a ta)(j:PE X b tb):PE X (.BinOp a op b pos) (tOp r ta tb):=by intro d s i H Q I h;exact wpAny_BinOp (Xm z j I h λv u n x y B J F L q=>ho d n i B x y v u Q J F L q)
theorem ZQT(ho:UnR X (unaryOp op) r)(y:PE X a ta):PE X (.UnaryOp op a pos) (tUn r ta):=by intro d s i H Q I h;exact UnaryOp_ (thn (y d s i H _ I h) λv z ⟨x,B,q,n,j⟩=>ho d z i B x v Q q n j)
theorem opI{f:xH->xH->Sem xH}{C:Int->Int->Prop}{g:Int->Int->Int}
  (n:∀(i j:Int)(t u:Tok)(s:xF)(Q:xH->xF->Prop)(E:xH->xF->Prop),C i j->Q (.int (g i j) s.toks) {s with toks:=s.toks+1}->vx (vW X.prog X.w) X.A (f (.int i t) (.int j u)) Q E s):
  OpR X f (rI C λi j=>.int (g i j)):=by
 intro z s M H x y v u Q I F L h;obtain⟨i,j,rfl,rfl,J,q⟩:=h;obtain⟨t,rfl⟩:=F;obtain⟨B,rfl⟩:=L;exact n i j t B s _ _ J ⟨.int (g i j),H,I.tok _,⟨_,rfl⟩,q⟩
theorem opI0{f:xH->xH->Sem xH}{g:Int->Int->Int}
  (n:∀(i j:Int)(t u:Tok)(s:xF)(Q:xH->xF->Prop)(E:xH->xF->Prop),Q (.int (g i j) s.toks) {s with toks:=s.toks+1}->vx (vW X.prog X.w) X.A (f (.int i t) (.int j u)) Q E s):
  OpR X f (rI0 λi j=>.int (g i j)):=by
 intro z s L H x y v u Q I F J h;obtain⟨i,j,rfl,rfl,q⟩:=h;obtain⟨t,rfl⟩:=F;obtain⟨B,rfl⟩:=J;exact n i j t B s _ _ ⟨.int (g i j),H,I.tok _,⟨_,rfl⟩,q⟩
theorem Sv{f:xH->xH->Sem xH}{g:Int->Int->Bool}
  (d:∀(i j:Int)(t u:Tok)(s:xF)(Q:xH->xF->Prop)(E:xH->xF->Prop),Q (.bool (g i j)) s->vx (vW X.prog X.w) X.A (f (.int i t) (.int j u)) Q E s):
  OpR X f (rI0 λi j=>.bl (g i j)):=by
 intro n s J H x y v u Q I B F h;obtain⟨i,j,rfl,rfl,q⟩:=h;obtain⟨t,rfl⟩:=B;obtain⟨z,rfl⟩:=F;exact d i j t z s _ _ ⟨.bl (g i j),H,I,rfl,q⟩
def CPow(i j:Int):Prop:=0<=j/\j<=1000000/\i.natAbs<2^64
def CMul(i j:Int):Prop:=(-(2^64)<i/\i<2^64)\/(-(2^64)<j/\j<2^64)
theorem CMul.ok(h:CMul i j):IntMulOk i j:=by
 rcases h with⟨n,d⟩|⟨n,d⟩
 .exact .of_left (intBits_le_64 n d)
 exact .of_right (intBits_le_64 n d)
theorem ZQY:OpR X (xR .Add) (rI0 λi j=>.int (i+j)):=opI0 λ_ _ _ _ _ _ _ q=>add_int q
theorem ZRE:OpR X (xR .Sub) (rI0 λi j=>.int (i-j)):=opI0 λ_ _ _ _ _ _ _ q=>sub_int q
theorem ZJS:OpR X (xR .Mod) (rI (λ_ j=>0<j) λi j=>.int (i%j)):=opI λi j _ _ _ _ _ d q=>by exact mod_int' (by lia) (by rw[Int.fmod_eq_emod_of_nonneg i (by lia)];exact q)
theorem ZIC:OpR X (xR .Pow) (rI CPow λi j=>.int (i^j.toNat)):=opI λ_ _ _ _ _ _ _ d q=>pow_int_small d.1 d.2.1 d.2.2 q
theorem unI{f:xH->Sem xH}{g:Int->Int}
  (j:∀(i:Int)(t:Tok)(s:xF)(Q:xH->xF->Prop)(E:xH->xF->Prop),Q (.int (g i) s.toks) {s with toks:=s.toks+1}->vx (vW X.prog X.w) X.A (f (.int i t)) Q E s):
  UnR X f (rU λi=>.int (g i)):=by
 intro n s z H x v Q I y h;obtain⟨i,rfl,q⟩:=h;obtain⟨t,rfl⟩:=y;exact j i t s _ _ ⟨.int (g i),H,I.tok _,⟨_,rfl⟩,q⟩
theorem ZQc:UnR X (unaryOp .USub) (rU λi=>.int (-i)):=unI λ_ _ _ _ _ q=>neg_int q
end
section
variable{X:Cx}{a b c:xA}{ta tb tc:TE}{pos:Pos}
theorem Qa{d:St}{H:Hp}{Q:VK}{k i:Bool}(I:Inv X vP d H s)(q:Q (.bl k) H)(e:k=i):EP X vP d Q (.bool i) s:=by subst e;exact⟨.bl k,H,I,rfl,q⟩
theorem ZP8:OpR X (vQ .Lt) (rI0 λi j=>.bl (decide (i<j))):=Sv λ_ _ _ _ _ _ _ q=>lt_int q
theorem ZJZ:OpR X (vQ .LtE) (rI0 λi j=>.bl (decide (i<=j))):=Sv λ_ _ _ _ _ _ _ q=>le_int q
theorem ZNB:OpR X (vQ .Gt) (rI0 λi j=>.bl (decide (j<i))):=Sv λ_ _ _ _ _ _ _ q=>gt_int q
theorem ZH9:OpR X (vQ .GtE) (rI0 λi j=>.bl (decide (j<=i))):=Sv λ_ _ _ _ _ _ _ q=>ge_int q
theorem ZNC:OpR X (vQ .Lt) (λx y H Q=>∃i j,x=.str i/\y=.str j/\Q (.bl (decide (i.cps.toList<j.cps.toList))) H):=by intro d s B H x y v u Q I n z h;obtain⟨i,j,rfl,rfl,q⟩:=h;obtain⟨t,rfl⟩:=n;obtain⟨F,rfl⟩:=z;exact lt_str (Qa I q rfl)
theorem ZMu:OpR X (vQ .In) (λx y H Q=>∃i j,x=.str i/\y=.str j/\Q (.bl (!(ja j i 0 j.length 1).isEmpty)) H):=by intro d s B H x y v u Q I n z h;obtain⟨i,j,rfl,rfl,q⟩:=h;obtain⟨t,rfl⟩:=n;obtain⟨F,rfl⟩:=z;exact in_str (Qa I q rfl)
theorem ZMZ:OpR X (vQ .Is) (λx y H Q=>y=.non/\Q (.bl (decide (x=.non))) H):=by
 intro i s n H x y v u Q I d j h;obtain⟨rfl,q⟩:=h;cases j;refine is_none_gen (Qa I q ?_)
 cases x<;>first
  |(cases d;rfl)
  |(obtain⟨t,rfl⟩:=d;rfl)
theorem ZQo:OpR X (vQ .IsNot) (λx y H Q=>y=.non/\Q (.bl (!decide (x=.non))) H):=by
 intro i s n H x y v u Q I d j h;obtain⟨rfl,q⟩:=h;cases j;refine isnot_none_gen (Qa I q ?_)
 cases x<;>first
  |(cases d;rfl)
  |(obtain⟨t,rfl⟩:=d;rfl)
theorem ZPv:OpR X (vQ .NotIn) (λx y H Q=>∃i j,x=.str i/\y=.str j/\Q (.bl (!(!(ja j i 0 j.length 1).isEmpty))) H):=by intro d s B H x y v u Q I n z h;obtain⟨i,j,rfl,rfl,q⟩:=h;obtain⟨t,rfl⟩:=n;obtain⟨F,rfl⟩:=z;exact notIn_str (Qa I q rfl)
theorem OpR.or(h:OpR X f r)(h':OpR X f r'):OpR X f (λx y H Q=>r x y H Q\/r' x y H Q):=by
 intro d s i H x y v u Q I j n q;rcases q with q|q
 .exact h d s i H x y v u Q I j n q
 exact h' d s i H x y v u Q I j n q
theorem nomark(b:xA)(h:op≠ .In:=by decide)(d:op≠ .NotIn:=by decide):xP op b=uA:=by
 have j:(op==CmpOp.In)=uA:=by cases op<;>first|rfl|exact absurd rfl h
 have i:(op==CmpOp.NotIn)=uA:=by cases op<;>first|rfl|exact absurd rfl d
 cases b<;>simp[xP,j,i]
theorem ZKO{op:CmpOp}{r:R2}(ho:OpR X (vQ op) r)(z:PE X a ta)(j:PE X b tb)(L:xP op b=uA):PE X (.Compare a [op] [b] pos) (tOp r ta tb):=by intro d s i H Q I h;exact wpAny_Compare1 (Xm z j I h λv u n x y B J F M q=>ho d n i B x y v u Q J F M q) L
def R8(t:TE):TT:=λσ H Q=>t σ H λx H'=>∃k,x=.bl k/\Q k H'
theorem ZCi(ho:OpR X (vQ op) r)(N:PE X a ta)(q:PE X b tb)(Y:xP op b=uA):PT X (.Compare a [op] [b] pos) (R8 (tOp r ta tb)):=by
 intro d s i H Q I h;refine wpAny_isTrue_Compare1 (thn (N d s i H _ I h) λv s1 ⟨x,S,W,U,j⟩=>thn (q d s1 i S _ W j) λu M ⟨y,F,I2,B,Z⟩=>
  thn (ho d M i F x y v u _ I2 U B Z) λc s3 L=>?_) Y
 obtain⟨z,n,J,r3,k,e,O⟩:=L;subst e;cases r3;exact vL ⟨n,J,O⟩
noncomputable def ZHJ(r r':R2)(ta tb tc:TE):TE:=λσ H Q=>ta σ H λx H1=>tb σ H1 λy H2=>r x y H2 λz H3=>∃k,z=.bl k/\
 (if k=u9 then tc σ H3 λw' H4=>r' y w' H4 Q else Q (.bl uA) H3)
theorem ZNs(ho:OpR X (vQ op) r)(n:OpR X (vQ op') r')(Z:PE X a ta)(N:PE X b tb)(hc:PE X c tc)
  (hm:lastMarks [op,op'] [b,c]=uA:=by with_unfolding_all rfl):PT X (.Compare a [op,op'] [b,c] pos) (R8 (ZHJ r r' ta tb tc)):=by
 intro i s j H Q I h;refine isTrue_chain (thn (Z i s j H _ I h) λv s1 ⟨x,H1,I1,r1,L⟩=>test_link (thn (N i s1 j H1 _ I1 L) λu W ⟨y,O,I2,B,q2⟩=>
  thn (ho i W j O x y v u _ I2 r1 B q2) λd s3 U=>?_)) hm
 obtain⟨z,q,F,r3,k,e,J⟩:=U;subst e;cases r3;refine vL ?_;cases k with
 |false=>
  obtain⟨k',e',S⟩:=J;cases e';exact ite_ff ⟨q,F,S⟩
 |true=>
  refine ite_tt (test_last (thn (hc i s3 j q _ F J) λw' M ⟨z',Y,I4,r4,q4⟩=>thn (n i M j Y y z' u w' _ I4 B r4 q4) λd' s5 ⟨z2,H5,I5,r5,k2,e2,q5⟩=>?_));subst e2;cases r5;exact vL ⟨H5,I5,q5⟩
theorem line63:(sizeLine:Nat)<2^63:=by rw[vY];decide
theorem ZOC:OpR X (xR .Add) (λx y H Q=>∃i j,x=.str i/\y=.str j/\i.length+j.length<=sizeLine/\Q (.str (i++j)) H):=by intro d s J H x y v u Q I B n h;obtain⟨i,j,rfl,rfl,F,q⟩:=h;obtain⟨t,rfl⟩:=B;obtain⟨z,rfl⟩:=n;exact add_str (λz L=>⟨.str (i++j),H,I.tok _,⟨_,rfl⟩,q⟩) F
theorem ZK2:OpR X (inplaceOp .Add) (λx y H Q=>∃i j,x=.str i/\y=.str j/\i.length+j.length<=sizeLine/\Q (.str (i++j)) H):=by intro d s J H x y v u Q I B n h;obtain⟨i,j,rfl,rfl,F,q⟩:=h;obtain⟨t,rfl⟩:=B;obtain⟨z,rfl⟩:=n;exact iadd_str (λz L=>⟨.str (i++j),H,I.tok _,⟨_,rfl⟩,q⟩) F
theorem vals1(r:Vals [x] us):∃u,us=[u]/\RelV x u:=by
 cases r with
 |cons d i=>cases i;exact⟨_,rfl,d⟩
theorem vals2(r:Vals [x,y] us):∃u d,us=[u,d]/\RelV x u/\RelV y d:=by
 cases r with
 |cons i j=>
  cases j with
  |cons q n=>cases n;exact⟨_,_,rfl,i,q⟩
theorem ZQL(y:X.calm=u9):CallR X (.builtin "max") (λxs H Q=>∃i j,xs=[.int i,.int j]/\Q (.int (if j>i then j else i)) H):=by
 intro n s z H xs F Q I r h;obtain⟨i,j,rfl,q⟩:=h;obtain⟨u,J,rfl,⟨t,rfl⟩,⟨B,rfl⟩⟩:=vals2 r;refine max_two_ints (I.ok.hd y) λM L k=>⟨_,H,I.kept k,?_,q⟩
 by_cases d:j>i
 .rw[if_pos d,if_pos d];exact⟨_,rfl⟩
 rw[if_neg d,if_neg d];exact⟨_,rfl⟩
theorem ZIq(y:X.calm=u9):CallR X (.builtin "min") (λxs H Q=>∃i j,xs=[.int i,.int j]/\Q (.int (if j<i then j else i)) H):=by
 intro n s z H xs F Q I r h;obtain⟨i,j,rfl,q⟩:=h;obtain⟨u,J,rfl,⟨t,rfl⟩,⟨B,rfl⟩⟩:=vals2 r;refine min_two_ints (I.ok.hd y) λM L k=>⟨_,H,I.kept k,?_,q⟩
 by_cases d:j<i
 .rw[if_pos d,if_pos d];exact⟨_,rfl⟩
 rw[if_neg d,if_neg d];exact⟨_,rfl⟩
theorem ZOU:CallR X (.type "int") (λxs H Q=>(∃i,xs=[.int i]/\Q (.int i) H)\/∃k,xs=[.bl k]/\Q (.int (if k then 1 else 0)) H):=by
 intro d s y H xs n Q I r h;rcases h with⟨i,rfl,q⟩|⟨k,rfl,q⟩
 .obtain⟨u,rfl,t,rfl⟩:=vals1 r;exact call_int_int ⟨.int i,H,I,⟨_,rfl⟩,q⟩
 obtain⟨u,rfl,j⟩:=vals1 r;cases j;exact call_int_bool ⟨.int (if k then 1 else 0),H,I.tok _,⟨_,rfl⟩,q⟩
end
structure ObjM (h:Heap) (x dx C:xy) (mA:Str->Option xH):Prop where
 obj:h.get? x=u7 (zf C dx)
 ns:h.Ns1 dx mA
 ne:dx≠x
theorem ZE9{h:Heap}{i:xy}{j:Str->Option xH}(n:h.Ns1 i j):∃od,h.get? i=u7 od/\∀name,jb name od=u7 (j name):=by
 obtain⟨o,B,N,F,I,hk,_,L⟩:=n;refine⟨o,F,λname=>?_⟩;have e:=L name;unfold nsFind findBy at e;rw[<-jR]at e;unfold jb;rw[I];dsimp only;split
 .rename_i y q;rw[q]at e;exact congrArg u7 e
 rename_i q;rw[q]at e
 have a:B.toList.any (·.refKey)=uA:=by rw[List.any_eq_false];intro y J;obtain⟨z,t,d⟩:=hk y (Array.mem_toList_iff.mp J);simp[DictEntry.refKey,d]
 have M:¬B.toList.any (·.refKey)=u9:=a▸zy
 rw[if_neg M];exact congrArg u7 e
theorem ObjM.look(I:ObjM h x dx C mA):∃od,qa h x (zf C dx) C (u7 od)/\∀name,jb name od=u7 (mA name):=
 let⟨od,d,i⟩:=ZE9 I.ns
 ⟨od,⟨I.obj,rfl,rfl,d⟩,i⟩
section
variable{prog:xD}{w:xI}{A:x0}{E:xH->xF->Prop}{s:xF}{K:za}{x dx C f:xy}{mA:Str->Option xH}{name:Str}{v:xH}
theorem ZMT(X:K.In s.heap)(I:ObjM s.heap x dx C mA)(q:jc K C name=u9)(n:qc K C=u9)
  (j:zc K (.ref C) name=u7 u8) (y:mA name=u7 v) (i:xg v=u9) (h:Q v {s with toks:=s.toks+1}):
  vx (vW prog w) A (getAttr (.ref x) name expr) Q E s:=by
 obtain⟨B,J,z⟩:=I.look;exact PySem.W.get_value X J (xh q).1 (PySem.W.findObj_own n j rfl (by rw[z,y])) i h
theorem ZOc(X:K.In s.heap)(I:ObjM s.heap x dx C mA)(d:jc K C name=u9)
  (y:zc K (.ref C) name=u7 (u7 (.ref f))) (i:xi K (.ref f)=u9) (n:mA name=u8) (h:Q (.ref f,[.ref x]) s):
  vx (vW prog w) A (getMethod (.ref x) name pl) Q E s:=by
 obtain⟨j,J,q⟩:=I.look
 exact PySem.W.method_fn X J (xh d).1 (xh d).2 y (beq_iff_eq.mp i) (by show(jb name j).map (·.isSome)=u7 uA;rw[q,n];rfl) h
theorem ZQb(X:K.In s.heap)(I:ObjM s.heap x dx C mA)
  (U:zc K (.ref C) "__setattr__"=u7 (u7 (.builtin "object.__setattr__"))) (hp:wz K C=u9) (M:qf K C name=u7 u8) (N:qc K C=u9)
  (hw:xa mA ns) (hsz:ns.length<=sizeLine)
  (h:∀h',ObjM h' x dx C (λy=>if y=name then u7 v else mA y)->qL dx s.heap h'->Q () {s with heap:=h',toks:=s.toks+2}):
  vx (vW prog w) A (setAttr (.ref x) name v) Q E s:=by
 obtain⟨od,J,Y⟩:=I.look;refine wj X J U (PySem.W.osa_open X J hp M λb=>?_);obtain⟨cd,S,B⟩:=vR N;refine vk (vH (vk (vk (wpAny_loadPart I.obj (vk (PySem.W.Looks.here (wx X S) ?_))))));rw[B];refine vH (vk (vH (vk ?_)));refine wpAny_nsSet1 I.ns λh' n j=>?_
 obtain⟨Z,O,L,F,q,z⟩:=n.count (PySem.Within.cons name v hw);exact vk (wpAny_lookBehind F (by rw[q];exact pastItsLine_dict (z6 z (by rw[zL];lia))) (vH (h _ ⟨(j.2 _ (Ne.symm I.ne)).trans I.obj,n,I.ne⟩ j)))
theorem ZKE(X:K.In s.heap)(hm:wv K C=u9)
  (hi:zc K (.ref C) "__init__"=u7 (u7 (.ref f))) (hf:PySem.W.typeIn K (.ref f)=u7 (.type "function"))
  (h:codeAny (vW prog w) (A.under (.builtin "type.__call__" ⟨.ref C::vs,kw⟩)) (.call (.ref f) ⟨.ref (s.heap.objs.size+1)::vs,kw⟩) (PySem.W.InitBack (s.heap.objs.size+1) R)
   {s with heap:=(s.heap.push zh).push (zf C s.heap.objs.size)}):
  codeAny (vW prog w) A (.call (.ref C) ⟨vs,kw⟩) R s:=by
 obtain⟨hh,g,d,t,os⟩:=s;exact PySem.W.make_core (PySem.W.makes_of X hm) (vS X hi) (λself=>PySem.W.bind_fn X self hf) (.inl rfl) h
end
def El(f:Str)(v:V):List (Str×V)->List (Str×V)
 |[]=>[(f,v)]
 |(g,x)::r=>if g=f then(g,v)::r else(g,x)::El f v r
theorem ZCH(f g:Str)(v:V):∀fs:List (Str×V),(El f v fs).lookup g=if g=f then u7 v else fs.lookup g
 |[]=>by
  show qC g [(f,v)]=_;by_cases h:g=f
  .have d:=beq_iff_eq.mpr h;simp[qC,d,if_pos h]
  have d:=beq_eq_false_iff_ne.mpr h;simp[qC,d,if_neg h]
 | (k,x)::r=>by
  rw[show El f v ((k,x)::r)=(if k=f then(k,v)::r else(k,x)::El f v r)from rfl]
  by_cases hk:k=f
  .rw[if_pos hk];by_cases h:g=k
   .have d:=beq_iff_eq.mpr h;simp[qC,d,if_pos (h.trans hk)]
   have d:=beq_eq_false_iff_ne.mpr h;simp[qC,d,if_neg (λe:g=f=>h (e.trans hk.symm))]
  rw[if_neg hk];by_cases h:g=k
  .have d:=beq_iff_eq.mpr h;simp[qC,d,if_neg (λe:g=f=>hk (h.symm.trans e))]
  .have d:=beq_eq_false_iff_ne.mpr h;simp[qC,d];exact ZCH f g v r
theorem Zk(f:Str)(v:V):∀fs:List (Str×V),f∈(El f v fs).map (·.1)/\∀g,g∈fs.map (·.1)->g∈(El f v fs).map (·.1)
 |[]=>⟨by simp[El],λg h=>by simp at h⟩
 | (k,x)::r=>by
  obtain⟨d,i⟩:=Zk f v r
  rw[show El f v ((k,x)::r)=(if k=f then(k,v)::r else(k,x)::El f v r)from rfl]
  by_cases hk:k=f
  .rw[if_pos hk];subst hk;exact⟨by simp,λg h=>by simpa using h⟩
  rw[if_neg hk];refine⟨?_,λg h=>?_⟩
  .rw[zk];exact zX _ d
  .rw[zk]at h⊢;rcases zj.mp h with e|e
   .exact zj.mpr (.inl e)
   exact zX _ (i g e)
theorem ZDf(f:Str)(v:V):∀fs:List (Str×V),(El f v fs).length<=fs.length+1
 |[]=>by simp[El]
 |(k,x)::r=>by
  have d:=ZDf f v r
  rw[show El f v ((k,x)::r)=(if k=f then(k,v)::r else(k,x)::El f v r)from rfl]
  by_cases hk:k=f
  .rw[if_pos hk,zL,zL];lia
  rw[if_neg hk,zL,zL];lia
theorem RelO.some_of(r:RelO (u7 v) o):∃u,o=u7 u/\RelV v u:=by
 cases o with
 |none=>exact(r).elim
 |some u=>exact⟨u,rfl,r⟩
theorem RelO.none_of(r:RelO u8 o):o=u8:=by
 cases o with
 |none=>rfl
 |some u=>exact(r).elim
theorem ZO3(r:RelV v u):xg u=u9:=by
 cases v with
 |non|bl b=>cases(r);rfl
 |ref a|ty n=>cases(r);rfl
 |_=>obtain⟨t,e⟩:=(r);cases e;rfl
section
variable{P:xD}{w:xI}{H H':Hp}{h h':Heap}{a C dx:xy}{fs fs':List (Str×V)}
theorem Xr(hok:HOk P w H h)(e:H a=u7 (.ins C dx fs)):∃i,ObjM h a dx C i/\(∀f,RelO (fs.lookup f) (i f))/\xa i (fs.map (·.1))/\fs.length<=1000/\H dx=u7 (.own a):=by obtain⟨d,z,y,j,i,n,r,q⟩:=(hok a _ e);exact⟨i,⟨j,n,y⟩,r,q,z,d⟩
end
structure Cls (K:za) (C:xy):Prop where
 pg:jc K C Str.empty=u9
 hd:qc K C=u9
 po:wz K C=u9
 sa:zc K (.ref C) "__setattr__"=u7 (u7 (.builtin "object.__setattr__"))
theorem Cls.get{K:za}{C:xy}(c:Cls K C)(f:Str):jc K C f=u9:=c.pg
def NoAttr(K:za)(C:xy)(f:Str):Prop:=zc K (.ref C) f=u7 u8
theorem NoAttr.taker{K:za}{C:xy}{f:Str}(n:NoAttr K C f):qf K C f=u7 u8:=by
 unfold qf;rw[n]
 rfl
structure Meth (K:za) (C:xy) (m:Str) (f:xy):Prop where
 at_:zc K (.ref C) m=u7 (u7 (.ref f))
 fn:xi K (.ref f)=u9
 kp:zd K (.ref f)=u9
section
variable{X:Cx}{vP:List (xy×Obj)}{σ:St}{H:Hp}{s:xF}{a C dx:xy}{fs:List (Str×V)}{f:Str}{v:V}{A:x0}{E:xH->xF->Prop}
theorem ZKH(I:Inv X vP σ H s)(e:H a=u7 (.ins C dx fs))(c:Cls X.K C)(n:NoAttr X.K C f)(l:fs.lookup f=u7 v)
  (h:∀u s',Inv X vP σ H s'->RelV v u->Q u s'):vx (vW X.prog X.w) A (getAttr (.ref a) f b) Q E s:=by
 obtain⟨j,O,r,_,_,_⟩:=Xr I.hok e;obtain⟨u,i,d⟩:=RelO.some_of (by rw[<-l];exact r f);exact ZMT I.kIn O (c.get f) c.hd n i (ZO3 d) (h u _ (I.tok _) d)
theorem ZHS(I:Inv X vP σ H s)(e:H a=u7 (.ins C dx fs))(c:Cls X.K C)(k:Meth X.K C m g)(l:fs.lookup m=u8)
  (h:Q (.ref g,[.ref a]) s):vx (vW X.prog X.w) A (getMethod (.ref a) m pl) Q E s:=by
 obtain⟨d,O,r,_,_,_⟩:=Xr I.hok e;exact ZOc I.kIn O (c.get m) k.at_ k.fn (RelO.none_of (by rw[<-l];exact r m)) h
theorem ZJO(I:Inv X vP σ H s)(e:H a=u7 (.ins C dx fs))(c:Cls X.K C)(n:NoAttr X.K C f)(Y:fs.length<1000)(U:RelV y u)
  (h:∀s',Inv X vP σ (upd H a (.ins C dx (El f y fs))) s'->Q () s'):vx (vW X.prog X.w) A (setAttr (.ref a) f u) Q E s:=by
 obtain⟨M,O,r,B,_,i⟩:=Xr I.hok e
 have S:(fs.map (·.1)).length<=sizeLine:=by rw[zM,vY];lia
 refine ZQb I.kIn O c.sa c.po n.taker c.hd B S λW d F=>h _ ?_
 have j:∃o,W.get? dx=u7 o:=let⟨o,_,_,L,_⟩:=d.ns;⟨o,L⟩;refine I.write (e▸True.intro) (.inr i) (λb q J z=>(F.2 b J).trans z) j ?_;refine⟨(Ai O.ne)▸i,?_,O.ne,d.obj,_,d.ns,λg=>?_,λg N=>?_⟩
 .have:=ZDf f y fs;lia
 .rw[ZCH];by_cases q:g=f
  .rw[if_pos q,if_pos q];exact U
  rw[if_neg q,if_neg q];exact r g
 by_cases q:g=f
 .rw[q];exact(Zk f y fs).1
 .refine(Zk f y fs).2 g (B g λz=>N ?_);show(if g=f then u7 u else M g)=u8;rw[if_neg q];exact z
theorem Inv.made(I:Inv X vP σ H s):Inv X vP σ (upd (upd H s.heap.objs.size (.own (s.heap.objs.size+1))) (s.heap.objs.size+1) (.ins C s.heap.objs.size []))
  {s with heap:=(s.heap.push zh).push (zf C s.heap.objs.size)}:=by
 have e1:(s.heap.push zh).get? s.heap.objs.size=u7 zh:=z0 s.heap rfl;have e2:((s.heap.push zh).push (zf C s.heap.objs.size)).get? (s.heap.objs.size+1)=u7 (zf C s.heap.objs.size):=by have:=z0 (s.heap.push zh) (o:=zf C s.heap.objs.size) rfl;rwa[qk]at this
 refine(I.laid (a:=s.heap.objs.size) (o:=.own (s.heap.objs.size+1)) (h':=s.heap.push zh) (t':=s.toks) (λb u q=>zQ _ q) (zY _) ⟨_,e1⟩).laid (λb u q=>zQ _ q) (Nat.le_of_eq (qk _ _)) ?_;have ne:s.heap.objs.size≠s.heap.objs.size+1:=z8 (qZ _);refine⟨by rw[Ai ne,Dy],jL _,ne,e2,λ_=>u8,(Heap.Ns1.of_empty ⟨zh,#[],_,e1,rfl,(λe he=>absurd he (by simp)),λ_=>rfl⟩).at λo q=>zQ _ q,λ_=>True.intro,λy hy=>absurd rfl hy⟩
theorem ZOt{f:Str}(i:xM e f env (eval e env)=eval e env)
  (h:vx (vW prog w) A (eval e env) (λo d=>vx (vW prog w) A (getAttr o f u9) Q E d) E s):vx (vW prog w) A (eval (.Attribute e f pos) env) Q E s:=
 Attribute_any_ h (by rw[arm_eval_Attribute,i])
end
noncomputable def tFld(K:za)(ta:TE)(f:Str):TE:=λσ H Q=>ta σ H λx H1=>∃a C dx fs v,x=.ref a/\H1 a=u7 (.ins C dx fs)/\Cls K C/\NoAttr K C f/\fs.lookup f=u7 v/\Q v H1
noncomputable def sFld(K:za)(ta tv:TE)(f:Str):TS:=λD σ H=>tv σ H λy H1=>ta σ H1 λx H2=>∃a C dx fs,x=.ref a/\H2 a=u7 (.ins C dx fs)/\Cls K C/\NoAttr K C f/\fs.length<1000/\
 D.nx σ (upd H2 a (.ins C dx (El f y fs)))
section
variable{X:Cx}{o e value:xA}{f:Str}{pos pos' tpos:Pos}{ta tv:TE}
theorem ZQd(J:PE X e ta)(j:xM e f X.env (eval e X.env)=eval e X.env):PE X (.Attribute e f pos) (tFld X.K ta f):=by intro d s i H Q I h;refine ZOt j (thn (J d s i H _ I h) λu Y M=>?_);obtain⟨x,O,y,z,a,C,U,fs,v,N,B,c,n,l,q⟩:=M;subst N;obtain rfl:u=Value.ref a:=z;exact ZKH y B c n l λW S F L=>⟨v,O,F,L,q⟩
theorem ZMG(L:PE X o ta)(S:PE X value tv)(N:swapsWith value (u7 (.Attribute o f pos')) pos.line X.env=pure uA):PS X (.Assign [.Attribute o f pos'] value pos) (sFld X.K ta tv f):=by intro d s i H D I h;refine plainObj_wpAny_Assign_Attribute (thn (S d s i H _ I h) λu Y ⟨y,M,O,ry,q⟩=>thn (L d Y i M _ O q) λj s2 F=>?_) N;obtain⟨x,H2,Z,W,a,C,dx,fs,J,z,c,n,l,U⟩:=F;subst J;obtain rfl:j=Value.ref a:=W;exact ZJO Z z c n l ry λs3 B=>⟨i,_,B,U⟩
end
section
variable{X:Cx}{vP:List (xy×Obj)}{σ:St}{H:Hp}{s:xF}{A:x0}{E:xH->xF->Prop}{Q:xH->xF->Prop}{c:xH}{b:Bool}
end
structure Room (k:Nat) (A:x0):Prop where
 hd:A.handled=u8
 dp:A.depth+3*k+5<recursionLimit
 un:A.units+16*k+200<cLine
theorem Room.mono(r:Room k A)(h:j<=k):Room j A:=⟨r.hd,by have:=r.dp;lia,by have:=r.un;lia⟩
theorem Room.deeper(r:Room (k+1) A)(env:Env):Room k (A.deeper env):=
 ⟨r.hd,by have:=r.dp;show A.depth+1+3*k+5<_;lia,by have:=r.un;show A.units+3+16*k+200<_;lia⟩
theorem ZLb{A:x0}{C:xy}{us:List xH}{d:List (Str×xH)}:(A.under (.builtin "type.__call__" ⟨.ref C::us,d⟩)).depth=A.depth+1:=by
 first|rfl|simp[Around.under,Code.weight,Code.isCreation,Code.isGuard,Code.isCaller,Code.frames,Code.isFrame,guardIds]
theorem ZQK{A:x0}{C:xy}{us:List xH}{d:List (Str×xH)}:(A.under (.builtin "type.__call__" ⟨.ref C::us,d⟩)).units=A.units+1:=by
 first|rfl|simp[Around.under,Code.cUnits,Code.frames,Code.isFrame]
theorem Room.make(r:Room (k+1) A)(C:xy)(us:List xH)(d:List (Str×xH)):Room k (A.under (.builtin "type.__call__" ⟨.ref C::us,d⟩)):=
 ⟨r.hd,by have:=r.dp;rw[ZLb];lia,by have:=r.un;rw[ZQK];lia⟩
theorem Room.depth(r:Room k A):A.depth<recursionLimit:=by have:=r.dp;lia
theorem Room.units(r:Room k A):A.units+64<cLine:=by have:=r.un;lia
def Pk:TA:=λ_ H Q=>Q [] H
def Rq(ta:TE)(tr:TA):TA:=λσ H Q=>ta σ H λx H1=>tr σ H1 λxs H2=>Q (x::xs) H2
section
variable{X:Cx}{e:xA}{es:List xA}{te:TE}{t:TA}{pos:Pos}
theorem Pj:PA X [] Pk:=λ_ _ _ _ H Q I h=>Calls.spliced_nil ⟨[],H,I,.nil,h⟩
theorem Kr(B:PE X e te)(N:PA X es t)(U:vz (e::es) X.env=(uA,eval e X.env)::vz es X.env:=by rfl):PA X (e::es) (Rq te t):=by intro i d s j H Q I h;rw[U];show vx _ _ (spliced ((uA,eval e X.env)::xN i (vz es X.env))) _ _ s;exact Calls.spliced_cons (thn (B d s j H _ I h) λu L ⟨x,O,z,q,n⟩=>(thn (N i d L j O _ z n) λY W ⟨J,F,M,y,S⟩=>⟨x::J,F,M,.cons q y,S⟩))
def tTup(t:TA):TE:=λσ H Q=>t σ H λxs H1=>xs.length<=sizeLine/\∀p,H1 p=u8->Q (.ref p) (upd H1 p (.tup xs))
def tLst(t:TA):TE:=λσ H Q=>t σ H λxs H1=>xs.length<=sizeLine/\∀p,H1 p=u8->Q (.ref p) (upd H1 p (.lst xs))
theorem ZBF{x1}(h:PA X es t):PE X (.Tuple es x1 pos) (tTup t):=by intro d s n H Q I y;refine wpAny_Tuple_spliced (thn (h pos d s n H _ I y) λF j ⟨B,J,i,r,z,q⟩=>⟨by rw[<-r.length];exact z,?_⟩);exact⟨.ref j.heap.objs.size,upd J j.heap.objs.size (.tup B),i.laid (λb u e=>zQ _ e) (zY _) (⟨z,F,r,⟨_,z0 _ rfl,rfl,_,rfl⟩⟩),rfl,q _ (i.hok.fresh (zY _))⟩
theorem ZMg(h:PA X es t):PE X (.List es pos) (tLst t):=by intro d s n H Q I y;refine wpAny_List_spliced (thn (h pos d s n H _ I y) λF j ⟨B,J,i,r,z,q⟩=>⟨by rw[<-r.length];exact z,?_⟩);exact⟨.ref j.heap.objs.size,upd J j.heap.objs.size (.lst B),i.laid (λb u e=>zQ _ e) (zY _) ⟨z,F,0,r,z0 _ rfl⟩,rfl,q _ (i.hok.fresh (zY _))⟩
end
abbrev Sp:=List V->Hp->VK->XK->Prop
abbrev CXT:=List Env->Hp->xF->XK->xH->xF->Prop
structure Env0 (P:xD) (w:xI) (K:za) (mg:Str->Option xH) (base:Heap) (A:x0) (outer:List Env) (s:xF) (H:Hp):Prop where
 frames:A.frames=u7 outer
 mod:Mod K mg base
 bs:∀b o,base.get? b=u7 o->s.heap.get? b=u7 o/\H b=u8
 bsz:base.objs.size<=s.heap.objs.size
 funs:s.heap.FunFrames base outer
 frf:∀b∈frs outer,H b=u8
 hok:HOk P w H s.heap
 bare:AllBare s.gens
def CE(outer:List Env)(P:xD)(w:xI)(H:Hp)(s:xF)(Q:VK)(u:xH)(s':xF):Prop:=
 ∃v H',s'.os=s.os/\AllBare s'.gens/\Un (frs outer) [] H H' s.heap s'.heap/\HOk P w H' s'.heap/\RelV v u/\Q v H'
def CR(CX:CXT)(outer:List Env)(P:xD)(w:xI)(H:Hp)(s:xF)(Q:VK)(E:XK)(r:Result)(s':xF):Prop:=
 match r with
 |.ok (.ret u)=>CE outer P w H s Q u s'
 |.ok _=>False
 |.error e=>CX outer H s E e s'
structure FnOk (P:xD) (w:xI) (K:za) (mg:Str->Option xH) (base:Heap) (CX:CXT) (k:Nat) (f:xy) (fd:xB) (ps:List Str) (sp:Sp):Prop where
 len:∀vs H Q E,sp vs H Q E->vs.length=ps.length
 run:∀(A:x0)(outer:List Env)(s:xF)(H:Hp)(args:Args)(us:List xH)(vs:List V)(Q:VK)(E:XK),Room k A->Env0 P w K mg base A outer s H->BindsTo s fd args (ps.zip us)->Vals vs us->sp vs H Q E->
  codeAny (vW P w) A (.call (.ref f) args) (CR CX outer P w H s Q E) s
theorem Env0.make{w:xI}{K:za}{i:Str->Option xH}{d:Heap}{A:x0}{outer:List Env}{H:Hp}(e:Env0 P w K i d A outer s H)(C:xy)(us:List xH)(j:List (Str×xH)):
  Env0 P w K i d (A.under (.builtin "type.__call__" ⟨.ref C::us,j⟩)) outer s H:=⟨by first|exact e.frames|(simpa[Around.under,Code.envs,Code.isFrame,pushEnvs]using e.frames),e.mod,e.bs,e.bsz,e.funs,e.frf,e.hok,e.bare⟩
section
variable{X:Cx}{vP:List (xy×Obj)}{σ:St}{H:Hp}{s s':xF}
theorem Inv.env0(I:Inv X vP σ H s):Env0 X.prog X.w X.K X.mg X.base X.A X.stack s H:=
 ⟨I.ok.frames,I.ok.mod,I.bs,z6 I.ok.bsz I.sz,I.stack,I.W5,I.hok,I.bare⟩
theorem Inv.after(I:Inv X vP σ H s)(h:CE X.stack X.prog X.w H s Q u s'):EP X vP σ Q u s':=by obtain⟨v,y,n,i,un,hok,r,q⟩:=h;obtain⟨B,g,d,t,j⟩:=s';obtain rfl:j=s.os:=n;exact⟨v,y,I.call un hok i (λb z=>absurd z (by simp)),r,q⟩
end
def ZFw(sp:Sp)(dvs:List V)(E:XK)(t:TA):TE:=λσ H Q=>t σ H λvs H1=>sp (vs++dvs) H1 Q E
noncomputable def Zh(C:xy)(m:Str)(sp:Sp)(dvs:List V)(E:XK)(ta:TE)(t:TA):TE:=λσ H Q=>ta σ H λx H1=>∃a dx fs,x=.ref a/\H1 a=u7 (.ins C dx fs)/\fs.lookup m=u8/\
 t σ H1 λvs H2=>sp (x::(vs++dvs)) H2 Q E
noncomputable def ZRJ(C:xy)(sp:Sp)(dvs:List V)(E:XK)(t:TA):TE:=λσ H Q=>t σ H λvs H1=>∀x dx,H1 x=u8->H1 dx=u8->dx≠x->
 sp (.ref x::(vs++dvs)) (upd (upd H1 dx (.own x)) x (.ins C dx [])) (λv H2=>v=.non/\Q (.ref x) H2) E
def Binds(K:za)(fd:xB)(ps:List Str)(ds:List xH):Prop:=
 ∀(s:xF)(us:List xH),K.In s.heap->(us++ds).length=ps.length->BindsTo s fd ⟨us,[]⟩ (ps.zip (us++ds))
theorem Binds.all{K:za}{i:xB}{ps:List Str}(h:∀us:List xH,us.length=ps.length->bindArgs i ⟨us,[]⟩=pure (ps.zip us)):Binds K i ps []:=λs us _ d=>by rw[qV]at d⊢;exact .of_eq (h us d)
def Passes(CX:CXT)(X:Cx)(E:XK):Prop:=∀(vP:List (xy×Obj))(σ:St)(H:Hp)(s:xF)(e:xH)(s':xF),Inv X vP σ H s->CX X.stack H s E e s'->X.xe e s'
section
variable{X:Cx}{CX:CXT}{k:Nat}{f C:xy}{fd:xB}{ps:List Str}{sp:Sp}{dvs:List V}{ds:List xH}{E:XK}{x m:Str}{p pos apos:Pos}{e o:xA}{es:List xA}{ta:TE}{t:TA}
theorem Yc{d:St}{H:Hp}{Q:VK}{us:List xH}{vs:List V}(F:FnOk X.prog X.w X.K X.mg X.base CX k f fd ps sp)(J:Room k X.A)(q:Binds X.K fd ps ds)(y:Vals dvs ds)(z:Passes CX X E)
  (I:Inv X vP d H s) (r:Vals vs us) (h:sp (vs++dvs) H Q E):vx (vW X.prog X.w) X.A (call (.ref f) us) (EP X vP d Q) X.xe s:=by
 have j:=r.append y;have B:(us++ds).length=ps.length:=by rw[<-j.length];exact F.len _ _ _ _ h
 refine wpAny_call (xU (F.run X.A X.stack s H ⟨us,[]⟩ (us++ds) (vs++dvs) Q E J I.env0 (q s us I.kIn B) j h) λr n i=>?_);cases r with
 |error e=>exact z vP d H s e n I i
 |ok fl=>
  cases fl with
  |ret u=>exact I.after i
  |_=>exact False.elim i
theorem ZAo(F:FnOk X.prog X.w X.K X.mg X.base CX k f fd ps sp)(S:Room k X.A)(M:Gl X x)(O:X.mg x=u7 (.ref f))(hk:zd X.K (.ref f)=u9)(z:Binds X.K fd ps ds)(B:Vals dvs ds)(J:Passes CX X E)
  (L:PA X (e::es) t) (j:(x==("__debug__":Str))=uA:=by decide) (N:vz (e::es) X.env=(uA,eval e X.env)::vz es X.env:=by rfl) (i:(xN pos (vz es X.env)).any (·.1)=uA:=by rfl):
  PE X (.Call (.Name x p) (e::es) [] pos) (ZFw sp dvs E t):=by
 intro d s y H Q I h;refine vv (Ja I M O ?_ j);exact qd I.ok.mod.kin hk (thn (L pos d s y H _ I h) λZ Y ⟨vs,U,n,r,q⟩=>⟨n.kIn,Yc F S z B J n r q⟩) N i
theorem ZQF{pl:Sem Bool}(he:PE X o ta)(c:Cls X.K C)(z:Meth X.K C m f)(F:FnOk X.prog X.w X.K X.mg X.base CX k f fd ps sp)(hr:Room k X.A)(L:Binds X.K fd ps ds)(S:Vals dvs ds)(U:Passes CX X E)(Y:PA X (e::es) t)
  (j:vz (e::es) X.env=(uA,eval e X.env)::vz es X.env:=by rfl) (i:(xN pos (vz es X.env)).any (·.1)=uA:=by rfl)
  (ht:eval (.Call (.Attribute o m apos) (e::es) [] pos) X.env=(do
   let ov<-eval o X.env
   standAt apos.atName
   let(f,first)<-holding [ov] (getMethod ov m pl)
   callWith pos f first (xN pos (vz (e::es) X.env)) (xO pos (vJ [] X.env))):=by rfl):
  PE X (.Call (.Attribute o m apos) (e::es) [] pos) (Zh C m sp dvs E ta t):=by
 intro d s n H Q I h;refine vT (thn (he d s n H _ I h) λu s1 N=>?_) ht;obtain⟨x,Z,y,rx,a,dx,fs,O,M,l,q⟩:=N;subst O;obtain rfl:u=Value.ref a:=rx;refine ZHS y M c z l ?_;exact qd I.ok.mod.kin z.kp (thn (Y pos d s1 n Z _ y q) λus s2 ⟨B,H2,J,r,q2⟩=>⟨J.kIn,Yc (vs:=.ref a::B) F hr L S U J (.cons rfl r) q2⟩) j i
theorem ZOk(U:PE X o ta)(c:Cls X.K C)(j:Meth X.K C m f)(F:FnOk X.prog X.w X.K X.mg X.base CX k f fd ps sp)(S:Room k X.A)(z:Binds X.K fd ps ds)(y:Vals dvs ds)(B:Passes CX X E)
  (J:eval (.Call (.Attribute o m apos) [] [] pos) X.env=(do
   let ov<-eval o X.env
   standAt apos.atName
   let(f,first)<-holding [ov] (getMethod ov m pl)
   callWith pos f first (xN pos (vz [] X.env)) (xO pos (vJ [] X.env))):=by rfl):
  PE X (.Call (.Attribute o m apos) [] [] pos) (Zh C m sp dvs E ta Pk):=by
 intro d s n H Q I h;refine vT (thn (U d s n H _ I h) λu Z N=>?_) J;obtain⟨x,H1,i,L,a,Y,fs,O,M,l,q⟩:=N;subst O;obtain rfl:u=Value.ref a:=L;exact ZHS i M c j l (PySem.W.callWith_K0 i.kIn j.kp (Yc (vs:=[.ref a]) F S z y B i (.cons rfl .nil) q))
structure Mk (K:za) (C f:xy):Prop where
 makes:wv K C=u9
 init:zc K (.ref C) "__init__"=u7 (u7 (.ref f))
 fn:xi K (.ref f)=u9
 kp:zd K (.ref C)=u9
theorem ZRk{σ:St}{H:Hp}{Q:VK}{us:List xH}{vs:List V}(M:Mk X.K C f)(F:FnOk X.prog X.w X.K X.mg X.base CX k f fd ps sp)(hr:Room (k+1) X.A)(hb:Binds X.K fd ps ds)(hd:Vals dvs ds)
  (hx:Passes CX X E) (I:Inv X vP σ H s) (r:Vals vs us)
  (h:∀x dx,H x=u8->H dx=u8->dx≠x->sp (.ref x::(vs++dvs)) (upd (upd H dx (.own x)) x (.ins C dx [])) (λv H2=>v=.non/\Q (.ref x) H2) E):
  vx (vW X.prog X.w) X.A (call (.ref C) us) (EP X vP σ Q) X.xe s:=by
 have hq:=h (s.heap.objs.size+1) s.heap.objs.size (I.hok.fresh (jk _)) (I.hok.fresh (zY _)) (z8 (qZ _));have I2:=Inv.made (C:=C) I;have r2:Vals (V.ref (s.heap.objs.size+1)::(vs++dvs)) (Value.ref (s.heap.objs.size+1)::(us++ds)):=.cons rfl (r.append hd);have hl:(Value.ref (s.heap.objs.size+1)::us++ds).length=ps.length:=by have e:=r2.length;rw[F.len _ _ _ _ hq]at e;exact e.symm
 refine wpAny_call (ZKE I.kIn M.makes M.init (beq_iff_eq.mp M.fn) (xU (F.run _ X.stack _ _ ⟨Value.ref (s.heap.objs.size+1)::us,[]⟩ (Value.ref (s.heap.objs.size+1)::(us++ds)) _ _ E (hr.make C us [])
  (I2.env0.make C us []) (hb _ (Value.ref (s.heap.objs.size+1)::us) I2.kIn hl) r2 hq) λr s' hq'=>?_))
 cases r with
 |error e=>exact hx vP σ _ _ e s' I2 hq'
 | ok fl=>
  cases fl with
  |ret u=>
   obtain⟨v,H',I3,rv,ev,q3⟩:=I2.after hq';subst ev;exact⟨rv,⟨V.ref (s.heap.objs.size+1),H',I3,rfl,q3⟩⟩
  |_=>exact False.elim hq'
theorem ZLi(M:Mk X.K C f)(F:FnOk X.prog X.w X.K X.mg X.base CX k f fd ps sp)(U:Room (k+1) X.A)(N:Gl X x)(S:X.mg x=u7 (.ref C))(z:Binds X.K fd ps ds)(B:Vals dvs ds)(J:Passes CX X E)
  (L:PA X (e::es) t) (j:(x==("__debug__":Str))=uA:=by decide) (O:vz (e::es) X.env=(uA,eval e X.env)::vz es X.env:=by rfl) (i:(xN pos (vz es X.env)).any (·.1)=uA:=by rfl):
  PE X (.Call (.Name x p) (e::es) [] pos) (ZRJ C sp dvs E t):=by
 intro d s y H Q I h;refine vv (Ja I N S ?_ j);exact qd I.ok.mod.kin M.kp (thn (L pos d s y H _ I h) λus Z ⟨vs,Y,n,r,q⟩=>⟨n.kIn,ZRk M F U z B J n r q⟩) O i
end
def PK(X:Cx)(kws:List Keyword)(t:TA):Prop:=
 ∀(pos:Pos)(vP:List (xy×Obj))(s:xF)(σ:St)(H:Hp)(Q:List V->Hp->Prop),Inv X vP σ H s->t σ H Q->vx (vW X.prog X.w) X.A (evalAll ((xO pos (vJ kws X.env)).map (·.2))) (AP X vP σ Q) X.xe s
section
variable{X:Cx}{CX:CXT}{k:Nat}{f C:xy}{fd:xB}{ps ks:List Str}{sp:Sp}{E:XK}{x m:Str}{p pos apos kpos:Pos}{e o:xA}{es:List xA}{kws:List Keyword}{te ta:TE}{t tk:TA}{nm:Option Str}
theorem ZIA:PK X [] Pk:=λ_ _ _ _ H Q I h=>wpAny_evalAll_nil ⟨[],H,I,.nil,h⟩
theorem ZK3(B:PE X e te)(N:PK X kws t):PK X (⟨nm,e,kpos⟩::kws) (Rq te t):=by
 intro i d s j H Q I h
 show vx _ _ (evalAll ((do let v<-eval e X.env;standAt i;pure v)::(xO i (vJ kws X.env)).map (·.2))) _ _ s
 exact wpAny_evalAll_cons (vk (thn (B d s j H _ I h) λu L ⟨x,O,z,q,n⟩=>vk (wpAny_standAt (vH (thn (N i d L j O _ z n) λW U ⟨J,F,M,y,S⟩=>⟨x::J,F,M,.cons q y,S⟩)))))
variable{g:List xH->List xH->List xH}{gV:List V->List V->List V}
end
structure FnScope (N P:List Str) (sc:xE):Prop where
 kind:sc.kind=.function
 co:sc.isCoroutine=uA
 gen:sc.isGenerator=uA
 nd:N.Nodup
 pre:N.take P.length=P
 par:∀x∈P,sc.names.lookup x=u7 .local\/sc.names.lookup x=u7 .cell
 nofree:∀y∈sc.names,y.2≠ .free
theorem ZFm{d:Str->Option xC}{x:Str}:∀{binds:List (Str×xH)}{m:Str->Option xH},(∀v,(x,v)∉binds)->bindL d binds m x=m x
 |[],_,_=>rfl
 | (n,v)::r,m,h=>by
  unfold bindL;rw[ZFm λw hw=>h w (zX _ hw)];split
  .have:x≠n:=by rintro rfl;exact h v zW
   simp[this]
  rfl
theorem ZBv{d:Str->Option xC}{x:Str}:∀{binds:List (Str×xH)}{m:Str->Option xH},(∀v,(x,v)∉binds)->bindC d binds m x=m x
 |[],_,_=>rfl
 |(n,v)::r,m,h=>by
  unfold bindC;rw[ZBv λw hw=>h w (zX _ hw)];split
  .rfl
  have:x≠n:=by rintro rfl;exact h v zW
  simp[this]
theorem ZHQ{d:Str->Option xC}{x:Str}{v:xH}:∀{P:List Str}{vs:List xH}{i:Nat}{m:Str->Option xH},P.Nodup->P[i]?=u7 x->vs[i]?=u7 v->d x=u7 .local->
  bindL d (P.zip vs) m x=u7 v
 |[],_,_,_,_,h,_,_|_::_,[],_,_,_,_,h,_=>by simp at h
 |p::P,w::vs,0,m,q,j,n,hk=>by simp at j n;subst j;subst n;show bindL d ((p,w)::P.zip vs) m p=_;unfold bindL;rw[ZFm λv y=>(qR.mp q).1 (xY y).1,if_pos hk];simp
 |p::P,w::vs,i+1,m,q,j,n,hk=>by unfold bindL;exact ZHQ (qR.mp q).2 (by simpa using j) (by simpa using n) hk
theorem ZFs{d:Str->Option xC}{x:Str}{v:xH}:∀{P:List Str}{vs:List xH}{i:Nat}{m:Str->Option xH},P.Nodup->P[i]?=u7 x->vs[i]?=u7 v->d x≠u7 .local->
  bindC d (P.zip vs) m x=u7 v
 |[],_,_,_,_,h,_,_|_::_,[],_,_,_,_,h,_=>by simp at h
 |p::P,w::vs,0,m,q,j,n,hk=>by simp at j n;subst j;subst n;show bindC d ((p,w)::P.zip vs) m p=_;unfold bindC;rw[ZBv λv y=>(qR.mp q).1 (xY y).1,if_neg hk];simp
 |p::P,w::vs,i+1,m,q,j,n,hk=>by unfold bindC;exact ZFs (qR.mp q).2 (by simpa using j) (by simpa using n) hk
def start(N:List Str)(vs:List V):St:=vs.map u7++zV (N.length-vs.length) u8
noncomputable def Fd(CX:CXT)(P:xD)(w:xI)(K:za)(mg:Str->Option xH)(base:Heap)(N:List Str)(qual:Str)(scope:xE)(f:xy)(cd:xH)(A:x0)(outer:List Env)(s:xF)(H:Hp)(E:XK):Cx where
 prog:=P
 w:=w
 K:=K
 mg:=mg
 base:=base
 A:=A.deeper (envOfC qual scope s.heap.objs.size f cd)
 N:=N
 s₀:=s
 H₀:=H
 env:=envOfC qual scope s.heap.objs.size f cd
 outer:=outer
 stack:=envOfC qual scope s.heap.objs.size f cd::outer
 ex:=[]
 calm:=u9
 fn:=λ_=>u9
 pn:=[]
 xe:=λe s'=>vx (vW P w) (A.deeper (envOfC qual scope s.heap.objs.size f cd)) (leaving (envOfC qual scope s.heap.objs.size f cd) e) (λ_ s''=>CX outer H s E e s'') (λe' s''=>CX outer H s E e' s'') s'
theorem ZG7{d:xE}{n:Nat}{x:Str}(h:d.names.lookup x=u7 .cell):∃c,(cellsFrom n d.names []).lookup x=u7 c:=by exact jV.mp (vU d.names n [] (.inl h))
theorem ZCN{CX:CXT}{w:xI}{K:za}{M:Str->Option xH}{n:Heap}{N ps:List Str}{qual:Str}{d:xE}{f:xy}{cd:xH}{A:x0}{outer:List Env}{s1:xF}{H:Hp}{E:XK}{us:List xH}{vs:List V}
  (S:FnScope N ps d) (Y:A.handled=u8) (B:Env0 P w K M n A outer s H) (hl:vs.length=ps.length) (r:Vals vs us)
  (x:InCallC s s.heap.objs.size (bindL (envOfC qual d s.heap.objs.size f cd).kindOf (ps.zip us) λ_=>u8) (cellsFrom (s.heap.objs.size+1) d.names []) (bindC (envOfC qual d s.heap.objs.size f cd).kindOf (ps.zip us) λ_=>u8) s1):
  Inv (Fd CX P w K M n N qual d f cd A outer s H E) [] (start N vs) H s1:=by
 have U:ps.length<=N.length:=by have:=congrArg List.length S.pre;rw[j4]at this;lia
 obtain⟨J,tk,rfl,hk⟩:=x.done
 have noA:∀b:xy,b∉(Fd CX P w K M n N qual d f cd A outer s H E).ex:=λb z=>absurd (show b∈([]:List xy)from z) (by simp)
 refine⟨⟨B.mod,S.kind,rfl,rfl,zY _,λy z c J j=>?_,λy F=>?_,λy c _ h=>?_,λ_=>Y,Around.frames_deeper B.frames,.inr ⟨rfl,rfl⟩,λb z=>absurd z (noA b),B.bs,B.bsz,λb _ _=>noA b,λb z=>absurd z (noA b),B.funs,B.frf⟩,
  rfl,B.bare,Un.kept hk,⟨_,x.toInCall.ns,λi y v J j h3=>?_⟩,λy c h=>⟨_,x.cell y c h⟩,B.hok.fresh (zY _),λy c h=>?_,λp hp=>absurd (show p∈([]:List (xy×Obj))from hp) (by simp),B.hok.kept hk,?_⟩
 .exact name_of_addr x.apart (ze J) (ze j)
 .have F:=F;rcases F with F|F
  .exact ZG7 F
  exact absurd rfl (S.nofree _ (ze F))
 .exact Nat.le_of_lt (x.above y c (ze h))
 .have L:i<vs.length:=by
   unfold start at j;by_cases L:i<vs.length
   .exact L
   rw[zG (by simpa using L)]at j;rw[jq]at j
   split at j<;>cases j
  have Z:vs[i]?=u7 v:=by
   unfold start at j;rw[qJ (by simpa using L),zw]at j;cases e:vs[i]? with
   |none=>rw[e]at j;cases j
   |some a=>rw[e]at j;cases j;rfl
  obtain⟨u,O,rv⟩:=r.get Z;have hp:ps[i]?=u7 y:=by rw[<-S.pre,j2 (by lia)];exact J
  have I:ps.Nodup:=by rw[<-S.pre];exact S.nd.sublist (List.take_sublist _ _)
  refine⟨u,rv,?_⟩;rcases S.par y (jW hp)with k|k
  .exact .inl ⟨k,ZHQ I hp O k⟩
  obtain⟨c,e⟩:=ZG7 k;refine .inr ⟨.inl k,c,e,?_⟩;have q:=x.cell y c e;rw[ZFs I hp O (by show d.names.lookup y≠_;rw[k];decide)]at q;exact q
 .exact B.hok.fresh (Nat.le_of_lt (x.above y c (ze h)))
 unfold start;show _=N.length;rw[zP,zM,jT];lia
theorem Yx{CX:CXT}{w:xI}{K:za}{mg:Str->Option xH}{j:Heap}{k:Nat}{f:xy}{name qual:Str}{i:Arguments}{body:List xG}{d:xE}{dV kV M pm z ct oc:xH}{an od:Option xy}
  {osl:Array (Option xH)} {N ps:List Str} {sp:Sp} (lk:K.lookup f=u7 ⟨oc,od,.func (qg name qual i body d dV kV M pm an z ct),osl⟩) (hcd:va K z qual=u9) (S:FnScope N ps d)
  (len:∀vs H Q E,sp vs H Q E->vs.length=ps.length)
  (I:∀(A:x0)(outer:List Env)(s:xF)(H:Hp)(vs:List V)(Q:VK)(E:XK),Room k (A.deeper (envOfC qual d s.heap.objs.size f z))->sp vs H Q E->
   ∃t,PSs (Fd CX P w K mg j N qual d f z A outer s H E) body t/\t {nx:=λ_ H'=>Q .non H',rt:=Q} (start N vs) H):
  FnOk P w K mg j CX (k+1) f (qg name qual i body d dV kV M pm an z ct) ps sp:=by
 refine⟨len,λA outer s H args us vs Q E hr L hb r Y=>?_⟩;have hl:=len _ _ _ _ Y;have KX:=L.mod.kin.keeps λb o e=>(L.bs b o e).1
 have F:∀y∈ps.zip us,d.names.lookup y.1=u7 .local\/(d.names.lookup y.1=u7 .cell/\((cellsFrom (s.heap.objs.size+1) d.names []).lookup y.1).isSome=u9):=λ⟨n,v⟩ hy=>by
  rcases S.par n (xY hy).1 with q|q
  .exact .inl q
  exact .inr ⟨q,vU _ _ _ (.inl q)⟩
 refine codeAny_call_function hr.depth (KX _ _ lk) rfl S.co S.gen rfl (ww KX hcd) (hb _ _ _ _ ?_);refine wpAny_newFunctionEnv_cells S.kind F λenv he s1 x=>?_
 subst he;refine⟨(L.mod.nolimit.keeps λb o e=>(L.bs b o e).1).keeps x.toInCall.keep,codeAny_func ?_⟩;obtain⟨t,ht,hq⟩:=I A outer s H vs Q E (hr.deeper _) Y;refine vE (ht [] s1 (start N vs) H _ (ZCN S hr.hd L hl r x) hq) (λfl Z O=>?_) λe Z O=>O
 have U:∀{B:St}{H':Hp}{v:V}{u:xH},Inv (Fd CX P w K mg j N qual d f z A outer s H E) [] B H' Z->RelV v u->Q v H'->CE outer P w H s Q u Z:=
  λ{B H' v u}J rv q=>⟨v,H',J.os,J.bare,J.base,J.hok,rv,q⟩
 cases fl with
 |ret u=>
  obtain⟨v,B,H',J,rv,q⟩:=O;exact U J rv q
 |next=>
  obtain⟨B,H',J,q⟩:=O;exact U (v:=V.non) J rfl q
 |_=>
  obtain⟨_,_,_,q⟩:=O;exact False.elim q
section
variable{X:Cx}{x:Str}{p pos:Pos}{e:xA}{es:List xA}{t:TA}{id T:String}{r:List V->Hp->VK->Prop}
def tCB(r:List V->Hp->VK->Prop)(t:TA):TE:=λσ H Q=>t σ H λvs H1=>r vs H1 Q
theorem Yz(M:CallR X (.builtin id) r)(L:Gl X x)(U:X.mg x=u8)(W:xS x=u7 (.builtin id))(J:PA X (e::es) t)(B:x≠"__name__":=by decide)(j:(x==("__debug__":Str))=uA:=by decide)
  (S:vz (e::es) X.env=(uA,eval e X.env)::vz es X.env:=by rfl) (i:(xN pos (vz es X.env)).any (·.1)=uA:=by rfl):PE X (.Call (.Name x p) (e::es) [] pos) (tCB r t):=by
 intro d s n H Q I h;exact vv (Hl I L U W (wk (thn (J pos d s n H _ I h) λO N ⟨Y,z,F,y,q⟩=>M d N n z Y O Q F y q) S i) B j)
theorem ZL5(M:CallR X (.type T) r)(L:Gl X x)(U:X.mg x=u8)(W:xS x=u7 (.type T))(J:PA X (e::es) t)(B:x≠"__name__":=by decide)(j:(x==("__debug__":Str))=uA:=by decide)
  (S:vz (e::es) X.env=(uA,eval e X.env)::vz es X.env:=by rfl) (i:(xN pos (vz es X.env)).any (·.1)=uA:=by rfl):PE X (.Call (.Name x p) (e::es) [] pos) (tCB r t):=by
 intro d s n H Q I h;exact vv (Hl I L U W (zg (thn (J pos d s n H _ I h) λO N ⟨Y,z,F,y,q⟩=>M d N n z Y O Q F y q) S i) B j)
end
end _L
namespace HT
open PySem PyProof.Rows
section
open PySem.SeqAt
open PySem.AutoSeq1 (wpAny_loadPart')
open PySem.MeetsSeq PySem.MeetsSeq2 PySem.MeetsSeq3
end
section
variable{prog:xD}{w:xI}{A:x0}{E:xH->xF->Prop}{s:xF}
theorem ZJy(ht:IsTup s.heap t vs.toArray)(Z:IsTup s.heap b ws.toArray)(W:vs≠[])
  (h1:ws=[]->Q (.ref t) s) (h2:ws≠[]->Q (.ref s.heap.objs.size) {s with heap:=s.heap.push {cls:=.type "tuple",data:=.seq (vs++ws).toArray}})
  (hsz:vs.length+ws.length<=sizeLine):vx (vW prog w) A (xR .Add (.ref t) (.ref b)) Q E s:=by
 obtain⟨⟨L,M,j,U⟩,I,Y,n,N⟩:=id ht;obtain⟨⟨O,B,J,y⟩,i,z,S,q⟩:=id Z;simp only at Y N z q;subst Y N z q;have e:vs.toArray++ws.toArray=(vs++ws).toArray:=by simp
 by_cases hw:ws=[]
 .exact concat_meets ⟨_,I,rfl⟩ ⟨_,i,rfl⟩ noFill_tuple_add seq_tuple_add w4 w5 (w6 _ _)
   (tuple_addW1 t b vs.toArray ws.toArray n S M B U y (by simpa using W) (by simp[hw])) ⟨I,i,h1 hw⟩
 refine concat_meets ⟨_,I,rfl⟩ ⟨_,i,rfl⟩ noFill_tuple_add seq_tuple_add w4 w5 (w6 _ _)
  (tuple_addW2 t b vs.toArray ws.toArray n S M B U y (by simpa using W) (by simpa using hw) (by rw[zK,zK];exact hsz)) ⟨I,i,?_⟩
 rw[e];exact h2 hw
def sIx(n d:Nat):Option Int->Nat
 |none=>d
 |some v=>if v<0 then(v+(n:Int)).toNat else min v.toNat n
theorem ZIS(n d:Nat)(j:d<=n)(o:Option Int):sIx n d o<=n:=by
 cases o with
 |none=>exact j
 |some v=>
  show(if v<0 then(v+(n:Int)).toNat else min v.toNat n)<=n;by_cases i:v<0
  .rw[if_pos i];lia
  rw[if_neg i];exact Nat.min_le_right _ _
theorem ZEo(v:Int)(n d:Nat):(if v<0 then max (v+(n:Int)) 0 else min v (n:Int))=((sIx n d (u7 v):Nat):Int):=by
 show(if v<0 then max (v+(n:Int)) 0 else min v (n:Int))=(((if v<0 then(v+(n:Int)).toNat else min v.toNat n):Nat):Int);by_cases i:v<0
 .simp only[if_pos i];lia
 simp[if_neg i];lia
theorem ZIM(i d:Option Int)(n:Nat):Builtin.Slice.sliceAdjust i d 1 (n:Int)=(((sIx n 0 i:Nat):Int),((sIx n n d:Nat):Int)):=by
 have j:¬((1:Int)<0):=by lia
 unfold Builtin.Slice.sliceAdjust;simp only[j,if_false];refine Prod.ext ?_ ?_
 .cases i with
  |none=>rfl
  |some v=>exact ZEo v n 0
 cases d with
 |none=>rfl
 |some v=>exact ZEo v n n
theorem ZId(i j:Nat):Builtin.Slice.slicePlaces (i:Int) (j:Int) 1=j-i:=by
 unfold Builtin.Slice.slicePlaces;have d:(1:Int)>0:=by lia
 simp[d,if_true,Int.ediv_one]
 split <;> lia
theorem ZB9(p:IsPart v o)(h:Q o s):vx (vW prog w) A (Builtin.Slice.slicePartIndex v) Q E s:=by
 cases p with
 |none=>exact slicePart_none h
 |int i t=>exact slicePart_int h
theorem ZDa{B:xy}{z y:xH}{d j:Option Int}{n:Nat}{Q:Int×Int×Nat->xF->Prop}(J:s.heap.IsSliceOf B z y .none)(pl:IsPart z d)(I:IsPart y j)
  (h:Q (((sIx n 0 d:Nat):Int),1,sIx n n j-sIx n 0 d) s):vx (vW prog w) A (Builtin.Slice.sliceApplied (.ref B) (pure (n:Int))) Q E s:=by
 obtain⟨L,q,F,i⟩:=id J;unfold Builtin.Slice.sliceApplied Builtin.Slice.sliceFields;refine vk (vk (vC q i (x:=z) rfl (vk (vC q i (x:=y) rfl (vk (vC q i rfl (vH ?_)))))));refine vk (slicePart_none ?_);rw[if_neg (by decide)];refine vk (ZB9 pl (vk (ZB9 I (vk (vH ?_)))))
 show vx _ _ (match Builtin.Slice.sliceAdjust d j 1 (n:Int)with |(d,j)=>pure (d,(1:Int),Builtin.Slice.slicePlaces d j 1)) _ _ s
 rw[ZIM d j n];show vx _ _ (pure (((sIx n 0 d:Nat):Int),(1:Int),Builtin.Slice.slicePlaces ((sIx n 0 d:Nat):Int) ((sIx n n j:Nat):Int) 1)) _ _ s;rw[ZId];exact vH h
theorem ZQ8(xs:Array xH)(i k:Nat):((zZ k).filterMap λ(m:Nat)=>xs[((i:Int)+(m:Int)*1).toNat]?).toArray=((xs.toList.drop i).take k).toArray:=by
 have e:(λ(m:Nat)=>xs[((i:Int)+(m:Int)*1).toNat]?)=λm=>xs[i+m]? :=by
  funext m;have:((i:Int)+(m:Int)*1).toNat=i+m:=by lia
  rw[this]
 rw[e];have:=pick_run xs i k;rw[qW]at this;have d:((λx=>xs[x]?) ∘ λx=>i+x)=λm=>xs[i+m]? :=rfl
 rw[d]at this;rw[this]
theorem ZPW{t sl:xy}{items:Array xH}{vl vu:xH}{lo hi:Option Int}{Q:xH->xF->Prop}(ht:IsTup s.heap t items)(hs:s.heap.IsSliceOf sl vl vu .none)(pl:IsPart vl lo)(pu:IsPart vu hi)
  (hw:¬(sIx items.size 0 lo=0/\sIx items.size items.size hi=items.size))
  (h:Q (.ref s.heap.objs.size) {s with heap:=s.heap.push {cls:=.type "tuple",data:=.seq ((items.toList.drop (sIx items.size 0 lo)).take (sIx items.size items.size hi-sIx items.size 0 lo)).toArray}})
  (hsz:items.size<=sizeLine):vx (vW prog w) A (getItem (.ref t) (.ref sl)) Q E s:=by
 have htake:sizeOk (.seq ((items.toList.drop (sIx items.size 0 lo)).take (sIx items.size items.size hi-sIx items.size 0 lo)).toArray):=by show((items.toList.drop (sIx items.size 0 lo)).take (sIx items.size items.size hi-sIx items.size 0 lo)).toArray.size<=sizeLine;rw[zK,j4,jU,qA];lia
 obtain⟨os,hos,hcs,hds⟩:=id hs;unfold getItem
 try with_reducible refine vD ?_
 first|refine vk (vH ?_)|skip
 refine vk (wpAny_sequenceKey ht.typeIs (by decide) ?_);refine vk (vA ht.typeIs jd
  (vB jd ht.typeIs entry_tuple_getitem ?_ (args_tuple_getitem _ _)))
 show vx _ _ (Builtin.Tuple.tupleItemsOf (.ref t) >>=_) _ _ s;refine vk (tupleItemsOf_ ht ?_);refine vk (wpAny_typeOf ⟨os,hos,hcs⟩ ?_);rw[if_pos (by decide)];refine vk (ZDa hs pl pu ?_);have hno:¬((((sIx items.size 0 lo:Nat):Int)==0&&(1:Int)==1&&(sIx items.size items.size hi-sIx items.size 0 lo)==items.size)=u9):=by intro q;rw[z5,z5]at q;have q1:=eq_of_beq q.1.1;have q2:=eq_of_beq q.2;exact hw ⟨by lia,by lia⟩
 show vx _ _ (if(((sIx items.size 0 lo:Nat):Int)==0&&(1:Int)==1&&(sIx items.size items.size hi-sIx items.size 0 lo)==items.size)=u9 then _ else _) _ _ s;rw[if_neg hno,ZQ8]
 first
  |exact vk (vF (vH ⟨_,rfl,vH h⟩) htake)
  |exact vk (vF (vk (vH (vH ⟨_,rfl,vH h⟩))) htake)
  |exact vk (vk (vF (vH (vH ⟨_,rfl,vH h⟩)) htake))
  |exact vk (vk (vF (vH ⟨_,rfl,vH h⟩) htake))
end
end HT
namespace _L
open PySem PySem.Spec PyProof.Rows
variable{vP:List (xy×Obj)}{s:xF}
abbrev TO:=St->Hp->(Option Int->Hp->Prop)->Prop
def PO(X:Cx)(e:Option xA)(t:TO):Prop:=
 ∀(vP:List (xy×Obj))(s:xF)(σ:St)(H:Hp)(Q:Option Int->Hp->Prop),Inv X vP σ H s->t σ H Q->
  vx (vW X.prog X.w) X.A (evalPart e X.env) (λu s'=>∃o H',Inv X vP σ H' s'/\IsPart u o/\Q o H') X.xe s
def ZLQ:TO:=λ_ H Q=>Q u8 H
def ZJa(t:TE):TO:=λσ H Q=>t σ H λx H1=>∃i,x=.int i/\Q (u7 i) H1
section
variable{X:Cx}{e:xA}{te:TE}{lo hi:Option xA}{tl th:TO}{pos p2:Pos}
theorem ZKq:PO X u8 ZLQ:=by intro d s i H Q I h;rw[evalPart_none];exact vH ⟨u8,H,I,.none,h⟩
theorem ZP5(h:PE X e te):PO X (u7 e) (ZJa te):=by
 intro d s y H Q I hw;rw[evalPart_some];refine thn (h d s y H _ I hw) λu J F=>?_
 obtain⟨x,B,z,n,j⟩:=F;obtain⟨i,rfl,q⟩:=j;obtain⟨t,rfl⟩:=n;exact⟨u7 i,B,z,.int i t,q⟩
def SlR(X:Cx)(r:V->Option Int->Option Int->Hp->VK->Prop):Prop:=
 ∀(vP:List (xy×Obj))(s:xF)(σ:St)(H:Hp)(x:V)(v vl vu:xH)(lo hi:Option Int)(sl:xy)(Q:VK),Inv X vP σ H s->RelV x v->s.heap.IsSliceOf sl vl vu .none->IsPart vl lo->IsPart vu hi->r x lo hi H Q->
  ∃T id,typeLookup (.type T) "__getitem__"=pure (u7 (.builtin id))/\s.TypeIs v T/\vx (vW X.prog X.w) X.A (getItem v (.ref sl)) (EP X vP σ Q) X.xe s
theorem SlR.or(h:SlR X r)(h':SlR X r'):SlR X (λx i j H Q=>r x i j H Q\/r' x i j H Q):=by
 intro d s y H x v z n i j L Q I F B pl J q;rcases q with q|q
 .exact h d s y H x v z n i j L Q I F B pl J q
 exact h' d s y H x v z n i j L Q I F B pl J q
noncomputable def tSl(r:V->Option Int->Option Int->Hp->VK->Prop)(te:TE)(tl th:TO):TE:=λσ H Q=>te σ H λx H1=>tl σ H1 λl H2=>th σ H2 λu H3=>r x l u H3 Q
theorem ZRu(hr:SlR X r)(he:PE X e te)(S:PO X lo tl)(O:PO X hi th):PE X (.Subscript e (.Slice lo hi u8 p2) pos) (tSl r te tl th):=by
 intro d s j H Q I h;refine Subscript_ (thn (he d s j H _ I h) λv s1 y=>?_);obtain⟨x,H1,I1,r1,J⟩:=y;refine wpAny_Slice (thn (S d s1 j H1 _ I1 J) λF W ⟨l,M,I2,pl,q2⟩=>thn (O d W j M _ I2 q2) λB n y=>?_);obtain⟨u,L,U,pu,q3⟩:=y;rw[evalPart_none];refine vH ?_;obtain⟨T,id,Y,ht,N⟩:=hr d {n with heap:=n.heap.push {cls:=.type "slice",data:=.fields #[F,B,.none]}} j L x v F B l u n.heap.objs.size Q (U.kept (t':=n.toks) λb ob q=>zQ _ q) r1 (Heap.IsSliceOf.new ..) pl pu q3
 exact tail_any ht Y N (by with_unfolding_all rfl)
noncomputable def Nt(xs:List V)(lo hi:Option Int):List V:=(xs.drop (HT.sIx xs.length 0 lo)).take (HT.sIx xs.length xs.length hi-HT.sIx xs.length 0 lo)
theorem ZG4(xs:List V)(i d:Option Int):(Nt xs i d).length<=xs.length:=by unfold Nt;rw[j4,jU];lia
def rSlT(K:za):V->Option Int->Option Int->Hp->VK->Prop:=λx lo hi H Q=>∃a xs,x=.ref a/\SqT K H a xs/\
 ¬(HT.sIx xs.length 0 lo=0/\HT.sIx xs.length xs.length hi=xs.length)/\∀p,H p=u8->Q (.ref p) (upd H p (.tup (Nt xs lo hi)))
theorem ZLV:SlR X (rSlT X.K):=by
 intro B s S H x v U O j y Y Q I N M pl L h;obtain⟨a,i,rfl,J,hw,q⟩:=h;cases N;obtain⟨n,r,z,F⟩:=I.tuple J;have d:n.toArray.size=i.length:=zK▸r.length.symm;refine⟨"tuple",_,PyProof.Rows.slot_tuple_getitem.lookup,z.typeIs,?_⟩;refine HT.ZPW z M pl L (d▸hw) ?_ (d▸F);rw[d];refine⟨.ref s.heap.objs.size,_,I.laid (λb W q=>zQ _ q) (zY _) ?_,rfl,q _ (I.hok.fresh (zY _))⟩
 exact⟨z6 (ZG4 i j y) F,_,(r.drop (HT.sIx i.length 0 j)).take (HT.sIx i.length i.length y-HT.sIx i.length 0 j),IsTup.new _ _⟩
noncomputable def ZKu(K:za):R2:=λx y H Q=>∃a b xs ys,x=.ref a/\y=.ref b/\SqT K H a xs/\SqT K H b ys/\xs≠[]/\xs.length+ys.length<=sizeLine/\
 (ys=[]->Q (.ref a) H)/\(ys≠[]->∀p,H p=u8->Q (.ref p) (upd H p (.tup (xs++ys))))
theorem Vals.Z9(r:Vals xs us):us=[]↔xs=[]:=by
 cases r with
 |_=>simp
theorem ZRO:OpR X (xR .Add) (ZKu X.K):=by
 intro B s Z H x y v u Q I U Y h;obtain⟨a,b,xs,ys,rfl,rfl,N,L,M,n,F,S⟩:=h;cases U;cases Y;obtain⟨W,i,J,_⟩:=I.tuple N;obtain⟨j,d,O,_⟩:=I.tuple L;refine HT.ZJy J O (λz=>M (i.Z9.mp z)) (λz=>⟨.ref a,H,I,rfl,F (d.Z9.mp z)⟩) (λz=>?_) (by rw[<-i.length,<-d.length];exact n);refine⟨.ref s.heap.objs.size,_,I.laid (λb ob q=>zQ _ q) (zY _) ?_,rfl,S (λw=>z (d.Z9.mpr w)) _ (I.hok.fresh (zY _))⟩
 exact⟨zP▸n,_,i.append d,IsTup.new _ _⟩
end
noncomputable def ixN(n:Nat)(i:Int):Option Nat:=if 0<=i then(if i<n then u7 i.toNat else u8)else if -(n:Int)<=i then u7 (i+n).toNat else u8
def atI{α:Type}(xs:List α)(i:Int):Option α:=(ixN xs.length i).bind λj=>xs[j]?
theorem ZB2(h:ixN n i=u7 j):seqIndex? i n=u7 j/\j<n/\ -(n:Int)<=i/\i<n:=by
 unfold ixN at h;by_cases q:0<=i
 .rw[if_pos q]at h;by_cases d:i<n
  .rw[if_pos d]at h;have e:=Option.some.inj h;exact⟨by rw[seqIndex_of q d,e],by lia,by lia,d⟩
  rw[if_neg d]at h;cases h
 rw[if_neg q]at h;by_cases d: -(n:Int)<=i
 .rw[if_pos d]at h;have e:=Option.some.inj h;exact⟨by rw[seqIndex_neg (by lia) d,e],by lia,d,by lia⟩
 rw[if_neg d]at h;cases h
theorem Wa{d:Type}{xs:List d}{i:Int}{v:d}(h:atI xs i=u7 v):∃j,seqIndex? i xs.length=u7 j/\xs[j]?=u7 v/\j<xs.length/\ -(xs.length:Int)<=i/\i<xs.length:=by
 unfold atI at h;cases e:ixN xs.length i with
 |none=>rw[e]at h;cases h
 |some j=>
  rw[e]at h;obtain⟨n,y,z,q⟩:=ZB2 e;exact⟨j,n,h,y,z,q⟩
def PlainIx(b:xA):Prop:=∀o i,subscripted b uA o i=operate [o,i] (getItem o i)
def IxR(X:Cx)(r:R2):Prop:=
 ∀(value slice:xA)(vP:List (xy×Obj))(s:xF)(σ:St)(H:Hp)(x y:V)(v u:xH)(Q:VK),Inv X vP σ H s->RelV x v->RelV y u->r x y H Q->
  subscripted slice uA v u=operate [v,u] (getItem v u)->vx (vW X.prog X.w) X.A (subscriptTail value slice v u) (EP X vP σ Q) X.xe s
def MtR(X:Cx)(id:String)(r:V->List V->Hp->VK->Prop):Prop:=
 ∀(vP:List (xy×Obj))(s:xF)(σ:St)(H:Hp)(x:V)(xs:List V)(v:xH)(us:List xH)(Q:VK),Inv X vP σ H s->RelV x v->Vals xs us->r x xs H Q->
  vx (vW X.prog X.w) X.A (call (.builtin id) (v::us)) (EP X vP σ Q) X.xe s
section
variable{X:Cx}{a b:xA}{ta tb:TE}{pos:Pos}
theorem IxR.or(h:IxR X r)(h':IxR X r'):IxR X (λx y H Q=>r x y H Q\/r' x y H Q):=by
 intro d i j s n H x y v u Q I z B q F;rcases q with q|q
 .exact h d i j s n H x y v u Q I z B q F
 exact h' d i j s n H x y v u Q I z B q F
theorem ZCQ(M:IxR X r)(B:PE X a ta)(n:PE X b tb)(N:PlainIx b):PE X (.Subscript a b pos) (tOp r ta tb):=by intro d s i H Q I h;exact Subscript_ (Xm B n I h λv u z x y F L J j q=>M a b d z i F x y v u Q L J j q (N _ _))
def rIxL(K:za):R2:=λx y H Q=>∃p xs i v,x=.ref p/\y=.int i/\SqL K H p xs/\atI xs i=u7 v/\Q v H
def rIxT(K:za):R2:=λx y H Q=>∃p xs i v,x=.ref p/\y=.int i/\SqT K H p xs/\atI xs i=u7 v/\Q v H
def rIxS:R2:=λx y H Q=>∃z i c,x=.str z/\y=.int i/\z.length<=sizeLine/\atI z.cps.toList i=u7 c/\Q (.str ⟨#[c]⟩) H
theorem ZPs:IxR X (rIxL X.K):=by
 intro value slice vP s σ H x y v u Q I rx ry h hs;obtain⟨p,xs,i,z,rfl,rfl,hq,he,q⟩:=h;cases rx;obtain⟨t,rfl⟩:=ry;obtain⟨its,r,pl,hz⟩:=I.list hq;obtain⟨j,h1,h2,h3,h4,h5⟩:=Wa he;obtain⟨w,ew,rw'⟩:=r.get h2;have hl:=r.length;have hn:=line63;have fin:EP X vP σ Q w s:=⟨z,H,I,rw',q⟩;by_cases h0:0<=i
 .have hj:i.toNat=j:=by rw[seqIndex_of h0 h5]at h1;exact Option.some.inj h1
  exact item_listR pl.isList h0 (by lia) (by rw[hj];simpa using ew) fin hs
 have hj:(i+(its.toArray.size:Int)).toNat=j:=by rw[seqIndex_neg (by lia) h4]at h1;rw[zK,<-hl];exact Option.some.inj h1
 exact subscriptTail_builtinR pl.isList.typeIs slot_list_getitem.lookup
  (wpAny_getItem_list_neg pl.isList (by lia) (by rw[zK]<;>lia) (by lia) (by rw[hj];simpa using ew) ⟨rfl,fin⟩) hs
theorem ZLf:IxR X (rIxT X.K):=by
 intro value slice vP s σ H x y v u Q I rx ry h hs;obtain⟨p,xs,i,z,rfl,rfl,hq,he,q⟩:=h;cases rx;obtain⟨t,rfl⟩:=ry;obtain⟨its,r,pl,hz⟩:=I.tuple hq;obtain⟨j,h1,h2,h3,h4,h5⟩:=Wa he;obtain⟨w,ew,rw'⟩:=r.get h2;have hn:=line63;exact subscriptTail_builtinR pl.typeIs slot_tuple_getitem.lookup
  (getItem_tuple pl (by lia) (by lia) (by rw[zK,<-r.length];exact h1) (by simpa using ew) ⟨rfl,⟨z,H,I,rw',q⟩⟩) hs
theorem ZID:IxR X rIxS:=by
 intro value slice vP s σ H x y v u Q I rx ry h hs;obtain⟨z,i,c,rfl,rfl,hz,he,q⟩:=h;obtain⟨t,rfl⟩:=rx;obtain⟨t',rfl⟩:=ry;obtain⟨j,h1,h2,h3,h4,h5⟩:=Wa he;have hl:z.cps.toList.length=z.length:=by simp[Str.length]
 rw[hl]at h1 h4 h5;have hn:=line63;exact tail_any (typeIs_str s z t) slot_str_getitem.lookup (getItem_str (by rw[decide_eq_false (by lia),decide_eq_false (by lia),Bool.or_false]) (by rw[h1];simpa using h2) ⟨.str ⟨#[c]⟩,H,I.tok _,⟨_,rfl⟩,q⟩) hs
def rIx(K:za):R2:=λx y H Q=>rIxL K x y H Q\/rIxT K x y H Q\/rIxS x y H Q
theorem ZJK:IxR X (rIx X.K):=ZPs.or (ZLf.or ZID)
theorem ZKN(its:List xH)(n j:Nat)(u:xH):Obj.mapSeq (·.setIfInBounds j u) {cls:=.type "list",data:=.seq its.toArray n}={cls:=.type "list",data:=.seq (its.set j u).toArray n}:=by simp[Obj.mapSeq]
theorem Inv.lst{d:St}{H:Hp}{p:xy}{xs:List V}(I:Inv X vP d H s)(h:H p=u7 (.lst xs)):
  ∃(its:List xH)(n:Nat),Vals xs its/\s.heap.get? p=u7 {cls:=.type "list",data:=.seq its.toArray n}/\xs.length<=sizeLine:=by
 obtain⟨z,its,n,r,e⟩:=I.hok p _ h;exact⟨its,n,r,e,z⟩
theorem Inv.ZHr{j:St}{H:Hp}{p:xy}{xs ys:List V}{its its':List xH}{n i:Nat}{f:Obj->Obj}(I:Inv X vP j H s)(h:H p=u7 (.lst xs))
  (ho:s.heap.get? p=u7 {cls:=.type "list",data:=.seq its.toArray n}) (z:f {cls:=.type "list",data:=.seq its.toArray n}={cls:=.type "list",data:=.seq its'.toArray i}) (r:Vals ys its') (hz:ys.length<=sizeLine) (t:Nat):
  Inv X vP j (upd H p (.lst ys)) {s with heap:=s.heap.update p f,toks:=t}:=by
 have e:(s.heap.update p f).get? p=u7 {cls:=.type "list",data:=.seq its'.toArray i}:=by rw[qz f ho (by rw[z]<;>rfl),z]
 exact I.write (by rw[h];trivial) (.inl rfl) (λb u B q=>(qy _ _ (Ne.symm B)).trans q) ⟨_,e⟩ ⟨hz,its',i,r,e⟩
def ZPR:V->V->V->Hp->(Hp->Prop)->Prop:=λo i v H Q=>∃p xs k j,o=.ref p/\i=.int k/\H p=u7 (.lst xs)/\ixN xs.length k=u7 j/\Q (upd H p (.lst (xs.set j v)))
theorem set_list:PSet X ZPR:=by
 intro vP s σ H o i v ov iv u Q I ro ri rv h;obtain⟨p,xs,k,j,rfl,rfl,hp,hj,q⟩:=h;cases ro;obtain⟨t,rfl⟩:=ri;obtain⟨its,n,r,ho,hz⟩:=I.lst hp;obtain⟨h1,h2,h3,h4⟩:=ZB2 hj;have hl:=r.length;have hn:=line63;have I':=
  I.ZHr hp ho (ZKN its n j u) (r.set rv j) (by rw[jy];exact hz) s.toks
 by_cases h0:0<=k
 .have hk:k.toNat=j:=by rw[seqIndex_of h0 h4]at h1;exact Option.some.inj h1
  exact PySem.W.ki_setAt ho h0 (by lia) (by rw[zK,<-hl];exact h4) (by rw[hk];exact⟨_,I',q⟩)
 have hk:(k+(its.toArray.size:Int)).toNat=j:=by rw[seqIndex_neg (by lia) h3]at h1;rw[zK,<-hl];exact Option.some.inj h1
 exact PySem.W.ki_setBack ho (by lia) (by rw[zK,<-hl];exact h3) (by lia) (by rw[hk];exact⟨_,I',q⟩)
theorem ZIv(j d:Option Int)(n:Nat):(vq j d u8 n).1=((HT.sIx n 0 j:Nat):Int)/\(vq j d u8 n).2.1=((HT.sIx n n d:Nat):Int)/\(vq j d u8 n).2.2=1:=by
 refine⟨?_,?_,rfl⟩
 .cases j with
  |none=>simp[vq,HT.sIx]
  |some i=>
   simp[vq,HT.sIx,Option.getD_none,show(1:Int)>0 by decide,if_true];by_cases h:i<0
   .simp only[h,if_true]<;>lia
   simp[h,if_false]<;>lia
 cases d with
 |none=>simp[vq,HT.sIx]
 |some i=>
  simp[vq,HT.sIx,Option.getD_none,show(1:Int)>0 by decide,if_true];by_cases h:i<0
  .simp only[h,if_true]<;>lia
  simp[h,if_false]<;>lia
theorem ZLx(its:List xH)(d i:Option Int):slicePick its.toArray d i u8=((its.drop (HT.sIx its.length 0 d)).take (HT.sIx its.length its.length i-HT.sIx its.length 0 d)).toArray:=by
 obtain⟨j,n,q⟩:=ZIv d i its.toArray.size;unfold slicePick;rw[j,n,q]
 simp only[sliceRange_one,pick_run,zK]<;>rfl
def rSlL(K:za):V->Option Int->Option Int->Hp->VK->Prop:=λx lo hi H Q=>∃a xs,x=.ref a/\SqL K H a xs/\∀p,H p=u8->Q (.ref p) (upd H p (.lst (Nt xs lo hi)))
theorem ZIV:SlR X (rSlL X.K):=by
 intro z s S H x v U O j n Y Q I L J pl F h;obtain⟨a,d,rfl,B,q⟩:=h;cases L;obtain⟨M,r,y,N⟩:=I.list B;have i:=r.length;refine⟨"list",_,slot_list_getitem.lookup,y.isList.typeIs,?_⟩
 refine wpAny_getItem_list_slice y.isList J pl F .none (by simp) ?_ (by rw[zK]<;>lia)
 rw[ZLx,<-i];refine⟨.ref s.heap.objs.size,_,I.laid (λb W q=>zQ _ q) (zY _) ?_,rfl,q _ (I.hok.fresh (zY _))⟩;exact⟨z6 (ZG4 d j n) N,_,0,(r.drop (HT.sIx d.length 0 j)).take (HT.sIx d.length d.length n-HT.sIx d.length 0 j),z0 _ rfl⟩
def Cp:V->Bool
 |.non=>u9
 |.bl _=>u9
 |.int _=>u9
 |.str _=>u9
 |_=>uA
noncomputable def eqV:V->V->Bool
 |.non,.non=>u9
 |.bl a,.bl b=>a==b
 |.bl a,.int b=>(if a then 1 else 0)==b
 |.int a,.bl b=>a==(if b then 1 else 0)
 |.int a,.int b=>a==b
 |.str a,.str b=>a==b
 |_,_=>uA
theorem ZFM(n:RelV y u)(d:RelV x v)(q:Cp y=u9)(j:Cp x=u9):SeqAt.EqAt A s u v (eqV y x):=by
 cases y with
 |non=>
  cases n;cases x with
  |non=>cases d;exact SeqAt.EqAt.same _
  |bl b=>cases d;exact SeqAt.EqAt.none_bool b
  |int b=>obtain⟨t,rfl⟩:=d;exact SeqAt.EqAt.none_int b t
  |str b=>obtain⟨t,rfl⟩:=d;exact SeqAt.EqAt.none_str b t
  |_=>exact absurd (j) zy
 |bl a=>
  cases n;cases x with
  |non=>cases d;exact SeqAt.EqAt.bool_none a
  |bl b=>cases d;exact SeqAt.EqAt.bool_bool a b
  |int b=>obtain⟨t,rfl⟩:=d;exact SeqAt.EqAt.bool_int a b t
  |str b=>obtain⟨t,rfl⟩:=d;exact SeqAt.EqAt.bool_str a b t
  |_=>exact absurd (j) zy
 |int a=>
  obtain⟨i,rfl⟩:=n;cases x with
  |non=>cases d;exact SeqAt.EqAt.int_none a i
  |bl b=>cases d;exact SeqAt.EqAt.int_bool a i b
  |int b=>obtain⟨t,rfl⟩:=d;exact SeqAt.EqAt.int_int a i b t
  |str b=>obtain⟨t,rfl⟩:=d;exact wZ a i b t
  |_=>exact absurd (j) zy
 |str a=>
  obtain⟨i,rfl⟩:=n;cases x with
  |non=>cases d;exact SeqAt.EqAt.str_none a i
  |bl b=>cases d;exact SeqAt.EqAt.str_bool a i b
  |int b=>obtain⟨t,rfl⟩:=d;exact wW a i b t
  |str b=>obtain⟨t,rfl⟩:=d;exact SeqAt.EqAt.str_str a i b t
  |_=>exact absurd (j) zy
 |_=>exact absurd (q) zy
def eqU(x:V)(u:xH):Bool:=match u with
 |.none=>eqV .non x
 |.bool b=>eqV (.bl b) x
 |.int i _=>eqV (.int i) x
 |.str z _=>eqV (.str z) x
 |_=>uA
theorem ZGc(r:RelV y u)(f:Cp y=u9):eqU x u=eqV y x:=by
 cases y with
 |non|bl b=>cases r;rfl
 |int i|str z=>obtain⟨t,rfl⟩:=r;rfl
 |_=>exact absurd (f) zy
theorem R4:∀{xs:List V}{us:List xH},Vals xs us->xs.all Cp=u9->us.any (eqU x)=xs.any λy=>eqV y x
 |_,_,.nil,_=>rfl
 |y::xs,u::us,.cons r t,f=>by rw[qE,z5]at f;rw[j9,j9,ZGc r f.1,R4 t f.2]
theorem Ro(i:RelV x v)(j:Cp x=u9):∀{xs:List V}{us:List xH},Vals xs us->xs.all Cp=u9->∀u∈us,SeqAt.EqAt A s u v (eqU x u)
 |_,_,.nil,_=>λu d=>by cases d
 |y::xs,u::us,.cons r t,f=>λn d=>by
  rw[qE,z5]at f;rcases zj.mp d with rfl|d
  .rw[ZGc r f.1];exact ZFM r i f.1 j
  exact Ro i j t f.2 n d
def inV(x:V)(xs:List V):Bool:=xs.any λy=>eqV y x
def rIn(K:za)(neg:Bool):R2:=λx y H Q=>∃p xs,y=.ref p/\(SqL K H p xs\/SqT K H p xs)/\Cp x=u9/\xs.all Cp=u9/\Q (.bl (if neg then !inV x xs else inV x xs)) H
theorem ZPG:OpR X (vQ .In) (rIn X.K uA):=by
 intro n s J H x y v u Q I j F h;obtain⟨p,L,rfl,i,z,fs,q⟩:=h;cases F;rcases i with i|i
 .obtain⟨d,r,pl,B⟩:=I.list i;refine SeqAt.in_listAt (eqU x) pl.isList (λw hw=>Ro j z r fs w (by simpa using hw)) ⟨.bl _,H,I,rfl,?_⟩;rw[show d.toArray.any (eqU x)=d.any (eqU x) by simp,R4 r fs];exact q
 obtain⟨d,r,pl,B⟩:=I.tuple i;refine SeqAt.in_tupleAt (eqU x) pl (λw hw=>Ro j z r fs w (by simpa using hw)) ⟨.bl _,H,I,rfl,?_⟩;rw[show d.toArray.any (eqU x)=d.any (eqU x) by simp,R4 r fs];exact q
theorem ZP1:OpR X (vQ .NotIn) (rIn X.K u9):=by
 intro n s J H x y v u Q I j F h;obtain⟨p,L,rfl,i,z,fs,q⟩:=h;cases F;rcases i with i|i
 .obtain⟨d,r,pl,B⟩:=I.list i;refine w8 (eqU x) pl.isList (λw hw=>Ro j z r fs w (by simpa using hw)) ⟨.bl _,H,I,rfl,?_⟩;rw[show d.toArray.any (eqU x)=d.any (eqU x) by simp,R4 r fs];exact q
 obtain⟨d,r,pl,B⟩:=I.tuple i;refine w9 (eqU x) pl (λw hw=>Ro j z r fs w (by simpa using hw)) ⟨.bl _,H,I,rfl,?_⟩;rw[show d.toArray.any (eqU x)=d.any (eqU x) by simp,R4 r fs];exact q
theorem ZJG:CallR X (.builtin "len") (λxs H Q=>∃p ys,xs=[.ref p]/\(SqL X.K H p ys\/SqT X.K H p ys)/\Q (.int ys.length) H):=by
 intro vP s σ H xs us Q I r h;obtain⟨p,ys,rfl,hq,q⟩:=h;obtain⟨u,rfl,rx⟩:=vals1 r;cases rx;have hn:=line63;rcases hq with hq|hq
 .obtain⟨its,r',pl,hz⟩:=I.list hq;have hlen:=r'.length
  exact Calls.call_len_list pl.isList (by simp only[zK]<;>lia) ⟨.int ys.length,H,I.tok _,⟨s.toks+1,by rw[zK,hlen]⟩,q⟩
 obtain⟨its,r',pl,hz⟩:=I.tuple hq;have hlen:=r'.length
 exact len_tuple pl (by simp only[zK]<;>lia) ⟨.int ys.length,H,I.tok _,⟨s.toks+1,by rw[zK,hlen]⟩,q⟩
theorem ZM2:CallR X (.builtin "len") (λxs H Q=>∃z,xs=[.str z]/\z.length<=sizeLine/\Q (.int z.length) H):=by intro vP s σ H xs us Q I r h;obtain⟨z,rfl,hz,q⟩:=h;obtain⟨u,rfl,t,rfl⟩:=vals1 r;have hn:=line63;exact len_str (by lia) ⟨.int z.length,H,I.tok _,⟨_,rfl⟩,q⟩
theorem CallR.or(h:CallR X f r)(h':CallR X f r'):CallR X f (λxs H Q=>r xs H Q\/r' xs H Q):=by
 intro d s i H xs j Q I n q;rcases q with q|q
 .exact h d s i H xs j Q I n q
 exact h' d s i H xs j Q I n q
theorem ZKm:CallR X (.type "list") (λxs H Q=>∃p ys,xs=[.ref p]/\(SqL X.K H p ys\/SqT X.K H p ys)/\∀l,H l=u8->Q (.ref l) (upd H l (.lst ys))):=by
 intro M s Y H xs us Q I r h;obtain⟨p,ys,rfl,B,q⟩:=h;obtain⟨u,rfl,Z⟩:=vals1 r;cases Z;have F:∀(d:List xH),Vals ys d->ys.length<=sizeLine->∀(j:Heap)(z:Nat),(∀b W,s.heap.get? b=u7 W->j.get? b=u7 W)->
   j.get? s.heap.objs.size=u7 {cls:=.type "list",dict:=u8,data:=.seq d.toArray z,slots:= #[]}->EP X M Y Q (.ref s.heap.objs.size) {s with heap:=j}:=λd y N j z L e=>
  ⟨.ref s.heap.objs.size,_,I.laid L (zY _) (show ObjOk X.prog X.w _ j _ (.lst ys)from⟨N,d,z,y,e⟩),rfl,q _ (I.hok.fresh (zY _))⟩
 rcases B with B|B
 .obtain⟨d,y,pl,N⟩:=I.list B;have J:=y.length;obtain⟨o,S,U,n,O⟩:=pl.isList
  exact call_list_seq p (.inl rfl) S U O (λj z L e=>F d y N j z L e) (by simp[zK]<;>lia)
 obtain⟨d,y,pl,N⟩:=I.tuple B;have J:=y.length;obtain⟨o,S,U,n,O⟩:=pl
 exact call_list_seq p (.inr rfl) S U O (λj z L e=>F d y N j z L e) (by simp[zK]<;>lia)
theorem ZQ3:CallR X (.type "tuple") (λxs H Q=>∃p ys,xs=[.ref p]/\((SqL X.K H p ys/\∀l,H l=u8->Q (.ref l) (upd H l (.tup ys)))\/(SqT X.K H p ys/\Q (.ref p) H))):=by
 intro z s M H xs N Q I r h;obtain⟨p,ys,rfl,h⟩:=h;obtain⟨u,rfl,F⟩:=vals1 r;cases F;rcases h with⟨j,q⟩|⟨j,q⟩
 .obtain⟨d,i,pl,B⟩:=I.list j;have y:=i.length
  refine call_tuple_list pl.isList (λL J=>?_) (by simp[zK]<;>lia)
  have n:=I.kept (t':=s.toks) J
  exact⟨.ref L.objs.size,_,n.laid (t':=s.toks) (λb o e=>zQ _ e) (zY _) (show ObjOk X.prog X.w _ _ _ (.tup ys)from⟨B,d,i,IsTup.new _ _⟩),rfl,q _ (n.hok.fresh (zY _))⟩
 obtain⟨d,i,pl,B⟩:=I.tuple j;exact call_tuple_same pl ⟨.ref p,H,I,rfl,q⟩
def tyV(K:za)(T:String)(x:V)(H:Hp):Prop:=match x with
 |.str _=>T="str"
 |.int _=>T="int"
 | .ref p=>(T="list"/\∃xs,SqL K H p xs)\/(T="tuple"/\∃o,K.lookup p=u7 o/\o.cls=.type "tuple"/\o.dict=u8)\/
   (T="dict"/\((∃kvs,H p=u7 (.dK kvs))\/∃kvs,H p=u7 (.dT kvs)))\/(T="set"/\∃S n,H p=u7 (.set S n))
 |_=>False
theorem ZH1{F:St}{H:Hp}{T:String}{x:V}{v:xH}(I:Inv X vP F H s)(r:RelV x v)(ty:tyV X.K T x H):
  s.TypeIs v T/\∀a,v=.ref a->∃B,s.heap.get? a=u7 B/\B.dict=u8:=by
 cases x with
 |str z=>
  obtain⟨t,rfl⟩:=r;cases(ty);exact⟨typeIs_str s z t,nofun⟩
 |int i=>
  obtain⟨t,rfl⟩:=r;cases(ty);exact⟨typeIs_int s i t,nofun⟩
 | ref p=>
  cases r;rcases ty with⟨rfl,N,J⟩|⟨rfl,o,hk,M,j⟩|⟨rfl,hk⟩|⟨rfl,S,n,hk⟩
  .obtain⟨L,_,pl,_⟩:=I.list J;refine⟨pl.isList.typeIs,λa e=>?_⟩;cases e;obtain⟨o,n,e,c,j,_⟩:=pl;exact⟨o,e,j⟩
  .refine⟨⟨o,I.kIn p o hk,M⟩,λa e=>?_⟩;cases e;exact⟨o,I.kIn _ o hk,j⟩
  .have z:∃o,s.heap.get? p=u7 o/\o.ExactDict:=by
    rcases hk with⟨y,hk⟩|⟨y,hk⟩
    .obtain⟨_,_,_,_,o,_,_,e,d,_⟩:=I.hok p _ hk;exact⟨o,e,d⟩
    obtain⟨_,_,_,_,o,_,_,e,d,_⟩:=I.hok p _ hk;exact⟨o,e,d⟩
   obtain⟨o,e,d⟩:=z;refine⟨⟨o,e,d.1⟩,λa q=>?_⟩;cases q;exact⟨o,e,d.2.1⟩
  obtain⟨o,_,_,_,e,d,_⟩:=I.hok p _ hk;refine⟨⟨o,e,d.1⟩,λa q=>?_⟩;cases q;exact⟨o,e,d.2.1⟩
 |_=>exact False.elim ty
noncomputable def tBM(K:za)(T:String)(r:V->List V->Hp->VK->Prop)(to:TE)(t:TA):TE:=λσ H Q=>to σ H λx H1=>tyV K T x H1/\t σ H1 λxs H2=>r x xs H2 Q
variable{o e:xA}{es:List xA}{to:TE}{t:TA}{name:Str}{apos cpos:Pos}{T id:String}{r:V->List V->Hp->VK->Prop}
theorem ZHm(W:PlainAttrs T)(y:Slot T name id)(B:typeOf (.builtin id)=pure (.type "method_descriptor"))(hm:MtR X id r)(ho:PE X o to)(Z:PA X (e::es) t)
  (j:xM o name X.env (eval o X.env)=eval o X.env:=by rfl)
  (q:((xN cpos (vz (e::es) X.env)).all (λx=> !x.1)&&(xO cpos (vJ [] X.env)).all (λx=>x.1.isSome)
   && decide ((e::es).length+([]:List Keyword).length+(if([]:List Keyword).isEmpty then 0 else 1)<30))=u9:=by rfl)
  (n:(apos.endLine==cpos.line)=u9:=by rfl) (hs:vz (e::es) X.env=(uA,eval e X.env)::vz es X.env:=by rfl) (i:(xN cpos (vz es X.env)).any (·.1)=uA:=by rfl):
  PE X (.Call (.Attribute o name apos) (e::es) [] cpos) (tBM X.K T r to t):=by
 intro d s z H Q I h;refine wpAny_Call_method_late j q n rfl (thn (ho d s z H _ I h) λv s1 S=>?_);obtain⟨x,H1,J,F,ty,M⟩:=S;obtain⟨h1,U⟩:=ZH1 J F ty;refine⟨T,id,W,y,B,h1,U,?_⟩;have L:=Z cpos d s1 z H1 _ J M;rw[hs]at L⊢
 exact Calls.callWith_builtin (by show(uA||(xN cpos (vz es X.env)).any (·.1))=uA;rw[i]<;>rfl) (Calls.evalArgs_plain (thn L λus Y ⟨vs,O,I2,N,q2⟩=>hm d Y z O x vs v us Q I2 F N q2))
end
def MtM(X:Cx)(id:String)(r:V->List V->Hp->VK->Prop):Prop:=
 ∀(vP:List (xy×Obj))(s:xF)(σ:St)(H:Hp)(x:V)(xs:List V)(v:xH)(us:List xH)(Q:VK),Inv X vP σ H s->RelV x v->Vals xs us->r x xs H Q->
  vx (vW X.prog X.w) X.A (call (.builtin id) (v::us)) (EP X vP σ Q) X.xe s
theorem Vals.one:∀{x:V}{us:List xH},Vals [x] us->∃u,us=[u]/\RelV x u:=by intro x us h;cases h with |cons r t=>cases t;exact⟨_,rfl,r⟩
theorem Vals.rep(h:Vals xs us):∀k:Nat,Vals (zV k xs).flatten (zV k us).flatten
 |0=>.nil
 |k+1=>by rw[qX,qX,qG,qG];exact Vals.append h (Vals.rep h k)
theorem foldl_rep(its:List xH):∀(k:Nat)(acc:List xH),
  List.foldl (λx1 d=>x1++d) acc.toArray (zV k its.toArray)=(acc++(zV k its).flatten).toArray
 |0,acc=>by simp
 |k+1,acc=>by
  have e:acc.toArray++its.toArray=(acc++its).toArray:=by simp
  have i:(acc++its)++(zV k its).flatten=acc++(zV (k+1) its).flatten:=by rw[qX,qG,qH]
  rw[<-i,<-foldl_rep its k (acc++its),<-e,qX,jM]
section
variable{X:Cx}{vP:List (xy×Obj)}{σ:St}{H:Hp}{s:xF}{l b:xy}{xs ys zs:List V}
theorem Inv.lset{its its':List xH}{n:Nat}{f:Array xH->Array xH}{t':Nat}(I:Inv X vP σ H s)(hH:H l=u7 (.lst xs))
  (e:s.heap.get? l=u7 {cls:=.type "list",data:=.seq its.toArray n}) (hf:f its.toArray=its'.toArray) (hv:Vals ys its') (hz:ys.length<=sizeLine):
  Inv X vP σ (upd H l (.lst ys)) {s with heap:=s.heap.update l (Obj.mapSeq f),toks:=t'}:=by
 have q:=PySem.IsL.update e f;rw[hf]at q;exact I.write (hH▸trivial) (.inl rfl) (λb' u hb hu=>(qy s.heap (Obj.mapSeq f) (Ne.symm hb)).trans hu) ⟨_,q⟩ ⟨hz,its',_,hv,q⟩
theorem Inv.lnew(I:Inv X vP σ H s)(y:Vals ys its)(hz:ys.length<=sizeLine):
  Inv X vP σ (upd H s.heap.objs.size (.lst ys)) {s with heap:=s.heap.push {cls:=.type "list",data:=.seq its.toArray},toks:=t'}:=
 I.laid (λ_ _ q=>zQ _ q) (zY _) ⟨hz,its,0,y,z0 _ rfl⟩
theorem Inv.fresh(I:Inv X vP σ H s):H s.heap.objs.size=u8:=I.hok.fresh (zY _)
theorem Inv.Xw(I:Inv X vP σ H s)(d:H l=u7 (.lst xs)):xs.length<=sizeLine/\∃(its:List xH)(n:Nat),Vals xs its/\xs.length=its.length/\s.heap.get? l=u7 {cls:=.type "list",data:=.seq its.toArray n}:=by obtain⟨z,its,n,r,e⟩:=I.hok l _ d;exact⟨z,its,n,r,r.length,e⟩
theorem ZDW(h:n<=sizeLine):je n=uA:=by unfold je;exact decide_eq_false (by lia)
end
section
variable{X:Cx}
def ZLp:V->List V->Hp->VK->Prop:=λx vs H Q=>∃l xs y,x=.ref l/\vs=[y]/\H l=u7 (.lst xs)/\xs.length<sizeLine/\Q .non (upd H l (.lst (xs++[y])))
theorem ZH4:MtM X "list.append" ZLp:=by
 intro vP s σ H x vs v us Q I rx rv h;obtain⟨l,xs,y,rfl,rfl,hH,hz,q⟩:=h;cases rx;obtain⟨u,rfl,ru⟩:=rv.one;obtain⟨z,its,n,r,hl,e⟩:=I.Xw hH;refine call_meets F.slot_list_append ⟨_,e,rfl⟩ F.entry_list_append (F.args_list_append_2 _ _) (PySem.list_append l its.toArray n u (by rw[zK];lia)) ⟨e,?_⟩;refine⟨.non,_,I.lset hH e (by simp) (r.append (.cons ru .nil)) ?_,rfl,q⟩;rw[zP,jC]
 lia
def ZMh:V->List V->Hp->VK->Prop:=λx vs H Q=>∃l b xs zs,x=.ref l/\vs=[.ref b]/\H l=u7 (.lst xs)/\H b=u7 (.lst zs)/\xs.length+zs.length<=sizeLine/\Q .non (upd H l (.lst (xs++zs)))
theorem ZMB:MtM X "list.extend" ZMh:=by
 intro vP s σ H x vs v us Q I rx rv h;obtain⟨l,b,xs,zs,rfl,rfl,hH,hB,hz,q⟩:=h;cases rx;obtain⟨u,rfl,ru⟩:=rv.one;cases ru;obtain⟨z,its,n,r,hl,e⟩:=I.Xw hH;obtain⟨z2,its2,n2,r2,hl2,e2⟩:=I.Xw hB;have hsz:its.toArray.size+its2.toArray.size<=sizeLine:=by rw[zK,zK];lia
 have hlong:¬(!its.toArray.isEmpty&&je (its.toArray.size+its2.toArray.size))=u9:=by rw[ZDW hsz,Bool.and_false];exact zy
 refine call_meets F.slot_list_extend ⟨_,e,rfl⟩ F.entry_list_extend (F.args_list_extend_2 _ _)
  (AutoSeq1.list_extend_list_list_0 l its.toArray n b its2.toArray n2 hlong (by rw[zK];lia) (by lia)) ⟨e,e2,?_⟩
 refine⟨.non,_,I.lset hH e (by simp) (r.append r2) ?_,rfl,q⟩;rw[zP];lia
noncomputable def rRep:R2:=λx y H Q=>∃l k xs,x=.ref l/\y=.int k/\Rd H l (.lst xs)/\ -(2^63)<=k/\k<2^63/\xs.length*k.toNat<=sizeLine/\
 ∀p,H p=u8->Q (.ref p) (upd H p (.lst (zV k.toNat xs).flatten))
theorem len_rep{i:Type}(xs:List i)(k:Nat):(zV k xs).flatten.length=k*xs.length:=by
 induction k with
 |zero=>simp
 |succ k d=>rw[qX,qG,zP,d,Nat.succ_mul,Nat.add_comm]
theorem ZJu:OpR X (xR .Mult) rRep:=by
 intro vP s σ H x y v u Q I rx ry h;obtain⟨l,k,xs,rfl,rfl,hH,h1,h2,hz,q⟩:=h;cases rx;obtain⟨t,rfl⟩:=ry;obtain⟨z,its,n,r,e⟩:=hH.ok I.hok;have hl:=r.length;have hlen:its.toArray.size*k.toNat<=sizeLine:=by rw[zK,<-hl];exact hz
 have hcap:¬its.toArray.size*k.toNat>(2^63-1)/8:=by
  have:(sizeLine:Nat)<=(2^63-1)/8:=by decide
  lia
 have hfit:¬(!Builtin.List.listFitsIndex k)=u9:=by rw[fitsIndex_both h1 h2];exact zy
 have hlong:¬je (its.toArray.size*k.toNat)=u9:=by rw[ZDW hlen];exact zy
 have hnew:List.foldl (λx1 x2=>x1++x2) #[] (zV (if its.toArray.isEmpty=u9 then 0 else k.toNat) its.toArray)=(zV k.toNat its).flatten.toArray:=by
  have f0:∀m:Nat,List.foldl (λx1 x2=>x1++x2) #[] (zV m its.toArray)=(zV m its).flatten.toArray:=λm=>by have:=foldl_rep its m [];rw[xq]at this;exact this
  rw[f0];cases its with
  |nil=>simp
  |cons a r'=>rw[if_neg (by simp)]
 refine wpAny_binaryOp_repeat_ref (by decide) ⟨_,e,rfl⟩ (λs'=>typeIs_int s' k t) noFill_list_mul F.fills_int_mul F.slot_int_rmul repeat_list F.slot_int_index.lookup
  (call_meets F.slot_int_rmul (typeIs_int s k t) F.entry_int_rmul (F.args_int_rmul_2 _ _) (int___rmul___int_list k t l its.toArray n)
   ⟨e,rfl,⟨_,e,rfl⟩,call_meets F.slot_list_mul ⟨_,e,rfl⟩ F.entry_list_mul (F.args_list_mul_2 _ _) (AutoListH.list___mul___list_int_3 l its.toArray n k t hfit hcap hlong) ⟨e,?_⟩⟩)
 rw[hnew];exact⟨.ref _,_,I.lnew (r.rep k.toNat) (by rw[len_rep,Nat.mul_comm];exact hz),rfl,q _ I.fresh⟩
end
section
variable{prog:xD}{w:xI}{A:x0}{E:xH->xF->Prop}{s:xF}
end
section
variable{X:Cx}
end
end _L
namespace Att
open PySem PySem.W PySem.Calls PyProof.Rows
theorem ZJM:∀(ns:List Int)(vs:List xH),WellAll P h vs (ns.map WData.int)->IntsAre vs ns:=by
 intro ns
 induction ns with
 |nil=>
  intro vs w;rw[jF]at w;cases w;exact .nil
 | cons n ns d=>
  intro vs w;rw[zk]at w;cases w with
  |cons a b=>
   cases a;exact .cons _ _ (d _ b)
theorem ZLw{l:OpenLaw}{n:Nat}(W:l.most=u7 n){P:Params}{h:Heap}{i:List WData}{y:List xH}
  (z:l.row.toRowW.claim.pre i=u9) (L:WellAll P h y i):
  ∃a vs ns,y=[Value.ref a]/\i=[WData.list (ns.map WData.int)]/\h.get? a=u7 {cls:=.type "list",data:=.seq vs.toArray}/\IntsAre vs ns/\ns.length<=n:=by
 have M:l.pre.holds [] {args:=i}=u9:=(pre_splitW z).2;obtain⟨d,r,rfl,S,Y⟩:=hasAllW_cons ((pre_splitW z).1);obtain rfl:=hasAllW_nil Y;obtain⟨xs,rfl,Z⟩:=hasW_list S;obtain⟨ns,rfl⟩:=items_int Z;have F:ns.length<=n:=by
  unfold OpenLaw.pre at M;have J:(WTm.not (.lt (.lit (.int (n:Int))) (.len (.arg 0)))).holds [] {args:=[.list (ns.map .int)]}=u9:=by have J:=(holds_andW M).1;rw[W]at J;exact J
  have I:=condW_of J (w_not (w_lt w_lit (w_len_list (w_arg rfl))));rw[zM]at I;refine Nat.le_of_not_lt λq=>?_
  first
   |(rw[j (by lia)]at I;exact absurd I (by decide))
   |(simp at I;lia)
 cases L with
 |cons O U=>
  cases U;cases O with
  |list N B=>exact⟨_,_,ns,rfl,rfl,N,ZJM ns _ B,F⟩
theorem ZRc(l:OpenLaw)(d:List WData):l.row.toRowW.claim.post d (.bool u9) d=u9:=
 postW_of
  (show WShape.has [] (.bool u9) .bool=u9 by first|rfl|decide|simp[WShape.has,WShape.arms,WShape.armsAll])
  (w_eq_bool (w_res rfl) w_lit) rfl
theorem ZQR{l:OpenLaw}{n:Nat}{q:xD}{loose:List Str}{XP:(Str->Option xH)->Heap->Prop}{YP:xI->Heap->Prop}{d:DefRec}
  (hn:l.most=u7 n) (hdf:d.params.defaults=[])
  (call:∀(w:xI)(j i:xF)(L O:Str->Option xH)(J:xy)(o:Obj)(pm cd z:xH)(a:xy)(vs:List xH)(ns:List Int),
   Ground q loose [] XP w j L O i.heap->YP w i.heap->
   i.heap.get? J=u7 o->o.data=.func (docDef d.name d.params d.body d.scope pm cd z)->i.heap.CodeRec cd d.name->L d.name=u7 (.ref J)->
   i.heap.get? a=u7 {cls:=.type "list",data:=.seq vs.toArray}->IntsAre vs ns->ns.length<=n->i.gens= #[]->
   codeAny (vW l.prog w) callerA (.call (.ref J) ⟨[.ref a],[]⟩) (λr s'=>r=.ok (.ret (.bool u9))/\OldK i.heap s'.heap/\s'.os=i.os/\AllBare s'.gens) i):
  WalkO q loose XP YP l.row.toRowW d [] (λf vs=>qh f vs):=by
 intro w j i L O G Y J o pm cd z dV kV ho hd M Z N hg U vals as I W hrd S hlo;obtain rfl:dV=.none:=Dflts.none Z hdf;obtain rfl:kV=.none:=Dflts.noKw Z;obtain⟨a,vs,ns,rfl,rfl,F,y,B⟩:=ZLw hn I S;refine enter_call (xU (call w j i L O J o pm cd z a vs ns G Y ho (fd_plain hd) M N F y B hg) λr s' hq=>?_);obtain⟨rfl,h2,h3,h4⟩:=hq
 exact⟨.inl ⟨.bool u9,.bool u9,[],rfl,λ_=>rfl,.bool u9,ZRc l _,λ_=>⟨List.Pairwise.nil,λ_ hm=>(nomatch hm)⟩⟩,h2,h3,h4⟩
section
variable{prog:xD}{w:xI}{A:x0}{E:xH->xF->Prop}{s:xF}{K:vM}
def Va(h:Heap):Heap:={h with objs:= #[]}
theorem Yi(h:Heap)(b:xy):(Va h).get? b=u8:=by
 cases e:(Va h).get? b with
 |none=>rfl
 |some o=>exact absurd (zx e) (Nat.not_lt_zero _)
noncomputable def ledger(h:Heap)(L d:xy):List (xy×Obj):=(zZ h.objs.size).filterMap λa=>if a=L\/a=d then u8 else(h.get? a).map λo=>(a,o)
theorem Ql:(a,o)∈ledger h L d↔a≠L/\a≠d/\h.get? a=u7 o:=by
 unfold ledger;rw[jP];constructor
 .rintro⟨b,_,e⟩;split at e
  .cases e
  rename_i j;obtain⟨B,i,z⟩:=zE.mp e;cases z;exact⟨λq=>j (.inl q),λq=>j (.inr q),i⟩
 rintro⟨n,y,i⟩;refine⟨a,qw.mpr (zx i),?_⟩
 rw[if_neg (λq=>q.elim n y),i]<;>rfl
theorem ZRT(n:h.Ns L m):Fr (Va h) L h m:=
 ⟨n,λb o e=>(by rw[Yi]at e;cases e),jL _⟩
end
end Att
namespace _L
open PySem PySem.Spec PyProof.Rows
variable{P:xD}{pos:Pos}
theorem Q0:∀{vs:List xH}{ns:List Int},IntsAre vs ns->Vals (ns.map V.int) vs
 |_,_,.nil=>.nil
 |_,_,.cons n t h=>.cons ⟨t,rfl⟩ (Q0 h)
def Only(H:Hp):Prop:=∀b,H b=u8\/∃o xs,H b=u7 (.frz o (.lst xs))
theorem ZNp{w:xI}{K:za}{mg mb:Str->Option xH}{CX:CXT}{k:Nat}{fa a:xy}{fd:xB}{x:Str}{sp:Sp}{i:xF}{vs:List xH}{ns:List Int}
  (KX:K.In i.heap) (M:i.heap.Ns vV mg) (y:i.heap.Ns builtinsNs mb) (hbb:∀x:Str,x≠"__name__"->mb x=xS x) (Z:i.heap.NoLimit) (hg:i.gens= #[])
  (ha:i.heap.get? a=u7 {cls:=.type "list",data:=.seq vs.toArray}) (hi:IntsAre vs ns) (hl:ns.length<=sizeLine) (hr:Room k callerA)
  (F:∀B:Heap,K.In B->B.Ns vV mg->FnOk P w K mg B CX k fa fd [x] sp) (L:∀(s:xF)(u:xH),BindsTo s fd ⟨[u],[]⟩ [(x,u)])
  (hsp:∀H:Hp,Only H->SqL K H a (ns.map V.int)->sp [.ref a] H (λv _=>v=.bl u9) λ_ _ _=>False)
  (hCX:∀H e s',CX [] H i (λ_ _ _=>False) e s'->False):
  codeAny (vW P w) callerA (.call (.ref fa) ⟨[.ref a],[]⟩) (λr s'=>r=.ok (.ret (.bool u9))/\OldK i.heap s'.heap/\s'.os=i.os/\AllBare s'.gens) i:=by
 have rv:=Q0 hi;have Y:=hi.length;have J:∀H:Hp,Only H->SqL K H a (ns.map V.int)->HOk P w H i.heap->(∀b,H b≠u8->b=a)->(H a≠u8->K.lookup a=u8)->
   codeAny (vW P w) callerA (.call (.ref fa) ⟨[.ref a],[]⟩) (λr s'=>r=.ok (.ret (.bool u9))/\OldK i.heap s'.heap/\s'.os=i.os/\AllBare s'.gens) i:=by
  intro H hO hS hok hA hK;have j:∀{b:xy}{o:Obj},i.heap.get? b=u7 o->H b=u8->(Ka i.heap H).get? b=u7 o:=λe n=>ZOm e n
  have noA:∀{b:xy}{o:Obj}{es:Array DictEntry}{ep:Nat},i.heap.get? b=u7 o->o.data=.dict es ep->H b=u8:=λ{b o es ep}e d=>by
   cases q:H b with
   |none=>rfl
   |some u=>
    have e':=hA b (by rw[q];simp);subst e';rw[ha]at e;cases e;have d':=d;cases d'
  have I:∀{b:xy}{m:Str->Option xH},i.heap.Ns b m->(Ka i.heap H).Ns b m:=λ{b m}⟨o,es,ep,e,d,r⟩=>⟨o,es,ep,j e (noA e d),d,r⟩
  have U:K.In (Ka i.heap H):=λb o e=>j (KX b o e) (by
   cases q:H b with
   |none=>rfl
   |some u=>
    have e':=hA b (by rw[q];simp);subst e';rw[hK (by rw[q];simp)]at e;cases e)
  have hM:Mod K mg (Ka i.heap H):=⟨U,I M,⟨mb,I y,hbb⟩,let⟨mc,h1,h2⟩:=Z;⟨mc,I h1,h2⟩⟩
  refine xU ((F _ U (I M)).run callerA [] i H ⟨[.ref a],[]⟩ [.ref a] [.ref a] _ _ hr ⟨rfl,hM,λb o e=>ZK0 e,Nat.le_of_eq (ZIg _ _),trivial,λb y=>absurd (show b∈([]:List xy)from y) (by simp),hok,.of_eq hg⟩ (L i (.ref a)) (.cons rfl .nil) (hsp H hO hS)) λr s' h=>?_
  cases r with
  |error e=>exact(hCX H e s' h).elim
  | ok fl=>
   cases fl with
   | ret u=>
    obtain⟨v,H',os,S,un,N,r',q⟩:=h;have q':=q;subst q';obtain rfl:u=Value.bool u9:=r';refine⟨rfl,OldK.of_keep λb o e=>?_,os,S⟩;cases q:H b with
    |none=>exact un.keep b o e q (by intro z;exact absurd (show b∈([]:List xy)from z) (by simp)) (by simp)
    |some u=>
     rcases hO b with z|⟨ob,xs,z⟩
     .rw[q]at z;cases z
     obtain⟨e1,_⟩:=hok b _ z;obtain⟨e2,_⟩:=N b _ (un.frzs b ob _ z);rw[e]at e1;cases e1;exact e2
   |_=>exact False.elim h
 cases hk:K.lookup a with
 |some o=>
  have e:=KX a o hk;rw[ha]at e;cases e;refine J (λ_=>u8) (λ_=>.inl rfl) (.inr ⟨_,vs.toArray,_,hk,rfl,rfl,rfl,by rw[zK,Y];exact hl,by simpa using rv⟩) (λb u z=>by have O:=z;cases O) (λb z=>absurd rfl z) λz=>absurd rfl z
 | none=>
  refine J (λb=>if b=a then u7 (.frz {cls:=.type "list",data:=.seq vs.toArray} (.lst (ns.map V.int)))else u8) (λb=>?_) (.inl (.inr ⟨{cls:=.type "list",data:=.seq vs.toArray},if_pos rfl⟩)) (λb u z=>?_) (λb z=>?_) λ_=>hk
  .by_cases y:b=a
   .exact .inr ⟨_,_,if_pos y⟩
   exact .inl (if_neg y)
  .by_cases y:b=a
   .have O:=(if_pos y).symm.trans z;cases O;subst y;exact⟨ha,by rw[zM];exact hl,vs,_,rv,ha⟩
   have O:=(if_neg y).symm.trans z;cases O
  by_cases y:b=a
  .exact y
  exact absurd (if_neg y) z
theorem ZPx{l:vb}{n k:Nat}{q:xD}{loose:List Str}{XP:(Str->Option xH)->Heap->Prop}{YP:xI->Heap->Prop}{d:DefRec}{K:xI->za}{CX:xI->CXT}{sp:xI->Sp}{x:Str}
  (hn:l.most=u7 n) (M:n<=sizeLine) (hdf:d.params.defaults=[]) (hr:Room k callerA)
  (hY:∀(w:xI)(h:Heap),YP w h->(K w).In h)
  (F:∀(w:xI)(z:Str->Option xH)(J:xy)(h:Heap),(K w).In h->h.Ns vV z->z d.name=u7 (.ref J)->
   ∃O:xB,(∀(s:xF)(u:xH),BindsTo s O ⟨[u],[]⟩ [(x,u)])/\
    ∀i:Heap,(K w).In i->i.Ns vV z->FnOk l.prog w (K w) z i (CX w) k J O [x] (sp w))
  (S:∀(w:xI)(H:Hp)(a:xy)(ns:List Int),ns.length<=n->Only H->SqL (K w) H a (ns.map V.int)->sp w [.ref a] H (λv _=>v=.bl u9) λ_ _ _=>False)
  (L:∀(w:xI)(H:Hp)(s:xF)(e:xH)(s':xF),CX w [] H s (λ_ _ _=>False) e s'->False):
  wD q loose XP YP l.row.toRowW d [] (λf vs=>qh f vs):=by
 refine Att.ZQR hn hdf λw U I z mb J o pm cd doc a vs ns G Y ho hd hcd N B y j hg=>?_
 have Z:=hY w _ Y;obtain⟨O,hb,hF⟩:=F w z J _ Z G.T.g N;exact ZNp Z G.T.g G.T.b G.T.builtins G.T.nolimit hg B y (z6 j M) hr hF hb (λH hO hS=>S w H a ns j hO hS) λH e s'=>L w H I e s'
abbrev CX0:CXT:=λ_ _ _ _ _ _=>False
abbrev E0:XK:=λ_ _ _=>False
theorem pass0:Passes CX0 X E0:=λ_ _ _ _ _ _ _ h=>h.elim
structure Fun (K:za) (x qual:Str) (st:xG) (f:xy) (fd:xB):Prop where
 ex:∃(oc:xH)(od:Option xy)(kV doc pm:xH)(an:Option xy)(cdv ct:xH)(osl:Array (Option xH)),
  fd=qg x qual (Dz st) (Cj st) (Ay st) .none kV doc pm an cdv ct/\K.lookup f=u7 ⟨oc,od,.func fd,osl⟩/\va K cdv qual=u9
 kp:zd K (.ref f)=u9
section
variable{P:xD}{w:xI}{K:za}{mg:Str->Option xH}{base:Heap}
theorem Fun.ok{x qual:Str}{st:xG}{f:xy}{y:xB}{N ps:List Str}{k:Nat}{sp:Sp}(F:Fun K x qual st f y)(S:FnScope N ps (Ay st))(len:∀vs H Q E,sp vs H Q E->vs.length=ps.length)
  (i:∀(d:xH)(A:x0)(outer:List Env)(s:xF)(H:Hp)(vs:List V)(Q:VK)(E:XK),Room k (A.deeper (envOfC qual (Ay st) s.heap.objs.size f d))->sp vs H Q E->
   ∃t,PSs (Fd CX0 P w K mg base N qual (Ay st) f d A outer s H E).nox (Cj st) t/\t {nx:=λ_ H'=>Q .non H',rt:=Q} (start N vs) H):FnOk P w K mg base CX0 (k+1) f y ps sp:=by
 obtain⟨L,M,kV,I,pm,O,d,ct,B,rfl,z,n⟩:=F.ex;refine Yx z n S len λA outer s H vs Q E J j=>?_
 obtain⟨t,h,q⟩:=i d A outer s H vs Q E J j;exact⟨t,h.nox,q⟩
theorem Fun.binds{x qual:Str}{st:xG}{f:xy}{n:xB}{ps:List Str}(F:Fun K x qual st f n)
  (h:∀(kV i pm:xH)(j:Option xy)(d ct:xH)(us:List xH),us.length=ps.length->bindArgs (qg x qual (Dz st) (Cj st) (Ay st) .none kV i pm j d ct) ⟨us,[]⟩=pure (ps.zip us)):Binds K n ps []:=by
 obtain⟨B,I,kV,i,pm,j,d,ct,q,rfl,z,y⟩:=F.ex;exact .all (h kV i pm j d ct)
end
section
variable{X:Cx}
theorem pv(i:Nat){x:Str}{pos:Pos}(j:X.N[i]?=u7 x:=by rfl)(q:Vis X.env.scope x:=by first|exact Or.inl rfl|exact Or.inr (Or.inl rfl)|exact Or.inr (Or.inr rfl))(n:(x==("__debug__":Str))=uA:=by decide)
  (d:(x==("__classdict__":Str))=uA:=by decide):PE X (.Name x pos) (Qc i):=R9 j q n d
end
section
variable{κ:Type}[DecidableEq κ]
def Fg(kvs:List (κ×V))(k:κ):Option V:=(kvs.find? λkv=>decide (kv.1=k)).map (·.2)
noncomputable def putK(kvs:List (κ×V))(k:κ)(v:V):List (κ×V):=
 if(kvs.any λkv=>decide (kv.1=k))=u9 then kvs.map (λkv=>if kv.1=k then(kv.1,v)else kv)else kvs++[(k,v)]
theorem ZC0{p:κ×V}{r:List (κ×V)}{k:κ}(e:p.1=k):Fg (p::r) k=u7 p.2:=by simp[Fg,qF,e]
theorem ZFp{p:κ×V}{r:List (κ×V)}{k:κ}(e:¬p.1=k):Fg (p::r) k=Fg r k:=by simp[Fg,qF,e]
theorem ZMN(kvs:List (κ×V))(k:κ)(v:V):(putK kvs k v).length<=kvs.length+1:=by
 unfold putK;split
 .rw[zM];lia
 .rw[zP,zL,qS];lia
theorem KV.val{kvs:List (κ×V)}{vs:List (κ×xH)}(r:KV kvs vs)(k:κ):RelO (Fg kvs k) (valueAt vs k):=by
 unfold KV at r
 induction r with
 |nil=>exact True.intro
 | @cons p q ps qs h t ih=>
  obtain⟨h1,h2⟩:=h;by_cases e:p.1=k
  .have e':q.1=k:=h1.symm.trans e;have b:valueAt (q::qs) k=u7 q.2:=by simp[valueAt,qF,e']
   rw[ZC0 e,b];exact h2
  .have e':¬q.1=k:=λz=>e (h1.trans z)
   have b:valueAt (q::qs) k=valueAt qs k:=by simp[valueAt,qF,e']
   rw[ZFp e,b];exact ih
theorem KV.any{kvs:List (κ×V)}{vs:List (κ×xH)}(r:KV kvs vs)(k:κ):(kvs.any λkv=>decide (kv.1=k))=vs.any λkv=>decide (kv.1=k):=by
 unfold KV at r
 induction r with
 |nil=>rfl
 |cons h t ih=>rw[j9,j9,ih,h.1]
theorem KV.repl{kvs:List (κ×V)}{vs:List (κ×xH)}(r:KV kvs vs)(k:κ){y:V}{u:xH}(ry:RelV y u):
  KV (kvs.map λkv=>if kv.1=k then(kv.1,y)else kv) (vs.map λkv=>if kv.1=k then(kv.1,u)else kv):=by
 unfold KV at r⊢
 induction r with
 |nil=>exact .nil
 |@cons p q ps qs h t ih=>
  rw[zk,zk];refine .cons ?_ ih;obtain⟨h1,h2⟩:=h;by_cases e:p.1=k
  .rw[if_pos e,if_pos (h1.symm.trans e)];exact⟨h1,ry⟩
  .rw[if_neg e,if_neg (λz=>e (h1.trans z))];exact⟨h1,h2⟩
theorem KV.put{kvs:List (κ×V)}{vs:List (κ×xH)}(r:KV kvs vs)(k:κ){y:V}{u:xH}(ry:RelV y u):KV (putK kvs k y) (stored vs k u):=by
 unfold putK stored;rw[r.any k];by_cases e:(vs.any λkv=>decide (kv.1=k))=u9
 .rw[if_pos e,if_pos e];exact r.repl k ry
 .rw[if_neg e,if_neg e];exact Paired.snoc r ⟨rfl,ry⟩
end
theorem ZAq{w:xI}{k:Key}{u:xH}(r:RelV (kV k) u):(G7 P w).is k u=u9:=by
 cases k with
 |inl i=>obtain⟨t,e⟩:=(show∃t,u=Value.int i t from r);subst e;exact ZII P w i t
 |inr x=>obtain⟨t,e⟩:=(show∃t,u=Value.str x t from r);subst e;exact ZP3 P w x t
theorem ZDC{w:xI}:∀{ks:List Key}{us:List xH},Vals (ks.map kV) us->ItemsAre (G7 P w) ks us
 |[],_,r=>by rw[jF]at r;cases r;exact .nil
 |k::ks,_,r=>by
  rw[zk]at r;cases r with
  |cons h t=>exact .cons (ZAq h) (ZDC t)
abbrev KT(H:Hp):List (List Key×V)->List (List Key×xy×xH)->Prop:=Paired λp q=>p.1=q.1/\H q.2.1=u7 (.tup (p.1.map kV))/\RelV p.2 q.2.2
theorem KT.val{H:Hp}{kvs:List (List Key×V)}{xs:List (List Key×xy×xH)}(r:KT H kvs xs)(k:List Key):RelO (Fg kvs k) ((atKey xs k).map (·.2)):=by
 induction r with
 |nil=>exact True.intro
 | @cons p q ps qs h t ih=>
  obtain⟨h1,_,h2⟩:=h;by_cases e:p.1=k
  .have e':q.1=k:=h1.symm.trans e;have b:atKey (q::qs) k=u7 q.2:=by simp[atKey,qF,e']
   rw[ZC0 e,b];exact h2
  .have e':¬q.1=k:=λz=>e (h1.trans z)
   have b:atKey (q::qs) k=atKey qs k:=by simp[atKey,qF,e']
   rw[ZFp e,b];exact ih
section
variable{P:xD}{w:xI}{H:Hp}{h:Heap}{a:xy}
theorem ZCn{u:HO}(ok:HOk P w H h)(e:Rd H a u):ObjOk P w H h a u:=e.ok ok
theorem Zu{kvs:List (Key×V)}(ok:HOk P w H h)(e:Rd H a (.dK kvs)):kvs.length<=sizeLine/\(a==sysModules)=uA/\∃vs,KV kvs vs/\h.DictOf (G7 P w) a vs:=
 show ObjOk P w H h a (.dK kvs)from ZCn ok e
theorem ZPA{kvs:List (Key×V)}(ok:HOk P w H h)(e:H a=u7 (.dK kvs)):kvs.length<=sizeLine/\(a==sysModules)=uA/\∃vs,KV kvs vs/\h.DictOf (G7 P w) a vs:=Zu ok (.inl e)
theorem ZBi{ks:List Key}(ok:HOk P w H h)(e:H a=u7 (.tup (ks.map kV))):(tupleKind (G7 P w)).is h ks a:=by
 obtain⟨_,its,r,o,h1,h2,n,h3⟩:=(show ObjOk P w H h a (.tup (ks.map kV))from ok a _ e)
 exact⟨o,its.toArray,n,h1,h2,h3,by simpa using ZDC r⟩
theorem ZBI{kvs:List (List Key×V)}(ok:HOk P w H h)(e:Rd H a (.dT kvs)):kvs.length<=sizeLine/\(a==sysModules)=uA/\
  ∃xs,KT H kvs xs/\h.DictOfH (tupleKind (G7 P w)) a xs:=by
 obtain⟨z,y,xs,r,o,es,ep,h1,h2,h3,h4,h5⟩:=(show ObjOk P w H h a (.dT kvs)from ZCn ok e)
 refine⟨z,y,xs,r,o,es,ep,h1,h2,h3,h4,λx hx=>?_,h5⟩;have all:∀{l:List (List Key×V)}{m:List (List Key×xy×xH)},KT H l m->∀x∈m,(tupleKind (G7 P w)).is h x.1 x.2.1:=by
  intro l m q
  induction q with
  |nil=>intro x hx;exact nomatch hx
  |@cons p q ps qs hq t ih=>
   intro x hx;rcases zj.mp hx with e|hx
   .subst e;exact ZBi ok (by rw[<-hq.1];exact hq.2.1)
   .exact ih x hx
 exact all r x hx
end
def DGet(H:Hp)(a:xy)(y:V)(r:Option V):Prop:=
 (∃kvs k,Rd H a (.dK kvs)/\y=kV k/\r=Fg kvs k)\/∃kvs k b,Rd H a (.dT kvs)/\y=.ref b/\H b=u7 (.tup (k.map kV))/\r=Fg kvs k
theorem DGet.k{H:Hp}{a:xy}{kvs:List (Key×V)}{k:Key}(e:H a=u7 (.dK kvs)):DGet H a (kV k) (Fg kvs k):=.inl ⟨kvs,k,.inl e,rfl,rfl⟩
section
variable{X:Cx}{vP:List (xy×Obj)}{σ:St}{H:Hp}{s:xF}{a:xy}{y v:V}{u r:xH}{o:Option V}{A:x0}{E:xH->xF->Prop}
theorem Inv.big(I:Inv X vP σ H s):sysModules<s.heap.objs.size:=by have h:vV<s.heap.objs.size:=(I.mod.glob.keeps I.bk).lt;exact Nat.lt_trans (by decide) h
theorem ZJA{Q:xH->xF->Prop}(hu:A.units+1<cLine)(I:Inv X vP σ H s)(g:DGet H a y (u7 v))(ry:RelV y u)(h:∀w' s',Inv X vP σ H s'->RelV v w'->Q w' s'):
  vx (vW X.prog X.w) A (getItem (.ref a) u) Q E s:=by
 rcases g with⟨kvs,k,e,ey,l⟩|⟨kvs,k,b,e,ey,eb,l⟩
 .subst ey;obtain⟨z,hd,vs,rel,dd⟩:=Zu I.hok e;obtain⟨w',hw,rw'⟩:=RelO.some_of (v:=v) (o:=valueAt vs k) (by rw[l];exact rel.val k);exact wpAny_getItem_of (ZAq ry) dd.mapOf hw (h w' _ (I.tok _) rw')
 .subst ey
  cases(show u=Value.ref b from ry)
  obtain⟨z,hd,xs,rel,dd⟩:=ZBI I.hok e
  obtain⟨w',hw,rw'⟩:=RelO.some_of (v:=v) (o:=(atKey xs k).map (·.2)) (by rw[l];exact rel.val k)
  obtain⟨p,hp,hp2⟩:=zE.mp hw;refine wpAny_getItem_heap (tupleKind_room_in1 hu) (ZBi I.hok eb) dd hp ?_;rw[hp2];exact h w' _ (I.tok _) rw'
theorem ZNd{h':Heap}{t':Nat}{ob:HO}(I:Inv X vP σ H s)(mu:Mut (H a))(hs:qL a s.heap h')(he:∃q,h'.get? a=u7 q)(new:ObjOk X.prog X.w (upd H a ob) h' a ob):
  Inv X vP σ (upd H a ob) {s with heap:=h',toks:=t'}:=
 I.write (x:=a) (e:=a) mu (.inl rfl) (λb q hb z=>(hs.2 b hb).trans z) he new
theorem ZQ1{w:xI}{H':Hp}{h':Heap}{kvs:List (Key×V)}{vs:List (Key×xH)}(z:kvs.length<=sizeLine)(hd:(a==sysModules)=uA)(rel:KV kvs vs)(dd:h'.DictOf (G7 P w) a vs):
  ObjOk P w H' h' a (.dK kvs):=⟨z,hd,vs,rel,dd⟩
end
section
variable{X:Cx}{vP:List (xy×Obj)}{σ:St}{H:Hp}{s:xF}{a:xy}{kvs:List (Key×V)}{k:Key}{u:xH}{A:x0}{E:xH->xF->Prop}
end
theorem ZN0{X:Cx}{vP:List (xy×Obj)}{σ:St}{H:Hp}{s:xF}{a:xy}{y:V}{o:Option V}(I:Inv X vP σ H s)(g:DGet H a y o):s.TypeIs (.ref a) "dict":=by
 rcases g with⟨kvs,k,e,_,_⟩|⟨kvs,k,b,e,_,_,_⟩
 .obtain⟨_,_,vs,_,dd⟩:=Zu I.hok e;exact dd.typeIs
 .obtain⟨_,_,xs,_,dd⟩:=ZBI I.hok e;exact dd.typeIs
section
variable{X:Cx}{o i e value:xA}{pos pos' tpos:Pos}{td ty tv:TE}
end
theorem ZKi{w:xI}{H:Hp}(h:Heap)(hb:sysModules<h.objs.size):ObjOk P w H (h.push {cls:=.type "dict",data:=.dict #[]}) h.objs.size (.dK []):=
 ⟨jL _,beq_eq_false_iff_ne.mpr (Ne.symm (z8 hb)),[],.nil,Heap.DictOf.new h⟩
section
variable{X:Cx}{pos:Pos}
end
def Sw:List (TE×TE)->St->Hp->(List (V×V)->Hp->Prop)->Prop
 |[],_,H,Q=>Q [] H
 |(tk,tv)::r,σ,H,Q=>tk σ H λx H1=>tv σ H1 λy H2=>Sw r σ H2 λps H3=>Q ((x,y)::ps) H3
abbrev VV:List (V×V)->List (xH×xH)->Prop:=Paired λp q=>RelV p.1 q.1/\RelV p.2 q.2
def PPs(X:Cx)(pos:Pos)(keys:List (Option xA))(values:List xA)(trs:List (TE×TE)):Prop:=
 ∀(vP:List (xy×Obj))(s:xF)(σ:St)(H:Hp)(Q:List (V×V)->Hp->Prop),Inv X vP σ H s->Sw trs σ H Q->
  vx (vW X.prog X.w) X.A (evalPairs (pairTrees keys values X.env pos)) (λvs s'=>∃ps H',Inv X vP σ H' s'/\VV ps vs/\Q ps H') X.xe s
theorem ZJr{X:Cx}:PPs X pos [] [] []:=λvP s σ H Q I h=>pairTrees_nil_walk ⟨[],H,I,.nil,h⟩
theorem ZQI{X:Cx}{k v:xA}{ks:List (Option xA)}{vs:List xA}{tk tv:TE}{trs:List (TE×TE)}(hk:PE X k tk)(hv:PE X v tv)(hr:PPs X pos ks vs trs):
  PPs X pos (u7 k::ks) (v::vs) ((tk,tv)::trs):=λvP s σ H Q I h=>
 pairTrees_cons_walk (thn (hk vP s σ H _ I h) λu s1 ⟨x,H1,I1,rx,q1⟩=>thn (hv vP s1 σ H1 _ I1 q1) λw2 s2 ⟨y,H2,I2,ry,q2⟩=>
  thn (hr vP s2 σ H2 _ I2 q2) λws s3 ⟨ps,H3,I3,rel,q3⟩=>⟨(x,y)::ps,H3,I3,.cons ⟨rx,ry⟩ rel,q3⟩)
def Oz(kvs more:List (Key×V)):List (Key×V):=more.foldl (λacc kv=>putK acc kv.1 kv.2) kvs
theorem KV.merge:∀{more:List (Key×V)}{rs:List (Key×xH)}{kvs:List (Key×V)}{vs:List (Key×xH)},KV more rs->KV kvs vs->KV (Oz kvs more) (merged vs rs):=by
 intro more rs kvs vs r;unfold KV at r
 induction r generalizing kvs vs with
 |nil=>intro q;exact q
 |@cons p q ps qs h t ih=>
  intro r0;have e:KV (putK kvs p.1 p.2) (stored vs q.1 q.2):=by have:=r0.put p.1 h.2;rw[<-h.1];exact this
  exact ih e
theorem ZGj:∀(more kvs:List (Key×V)),(Oz kvs more).length<=kvs.length+more.length
 |[],kvs=>by show kvs.length<=kvs.length+0;lia
 |p::r,kvs=>by have h1:=ZGj r (putK kvs p.1 p.2);have h2:=ZMN kvs p.1 p.2;show(Oz (putK kvs p.1 p.2) r).length<=_;rw[zL];lia
theorem ZDY{P:xD}{w:xI}:∀{kvs:List (Key×V)}{ws:List (xH×xH)},VV (kvs.map λkv=>(kV kv.1,kv.2)) ws->∃rs,Carries (G7 P w) ws rs/\KV kvs rs
 |[],_,r=>by rw[jF]at r;cases r;exact⟨[],True.intro,.nil⟩
 | p::kvs,_,r=>by
  rw[zk]at r;cases r with
  |@cons a b as bs h t=>
   obtain⟨rs,c,q⟩:=ZDY (P:=P) (w:=w) t;obtain⟨b1,b2⟩:=b;exact⟨(p.1,b2)::rs,⟨ZAq h.1,rfl,c⟩,.cons ⟨rfl,h.2⟩ q⟩
def ZOn(trs:List (TE×TE)):TE:=λσ H Q=>∀p,H p=u8->Sw trs σ (upd H p (.dK [])) λps H2=>H2 p=u7 (.dK [])/\∃kvs:List (Key×V),ps=kvs.map (λkv=>(kV kv.1,kv.2))/\kvs.length<=15/\Q (.ref p) (upd H2 p (.dK (Oz [] kvs)))
theorem ZIN{X:Cx}{keys:List (Option xA)}{values:List xA}{trs:List (TE×TE)}(h:PPs X pos keys values trs)(hall:keys.all (·.isSome)=u9)(hl:keys.length=values.length)(h0:keys≠[])
  (h15:keys.length<=15):PE X (.Dict keys values pos) (ZOn trs):=by
 intro vP s σ H Q I q;have hn:=I.hok.fresh (zY s.heap.objs.size);have I1:=I.laid (a:=s.heap.objs.size) (o:=.dK []) (h':=s.heap.push {cls:=.type "dict",data:=.dict #[]}) (t':=s.toks) (λ_ _ q=>zQ _ q) (zY _) (ZKi s.heap I.big);refine wpAny_Dict_walk (knd:=G7 X.prog X.w) hall hl h0 h15 (thn (h vP _ σ _ _ I1 (q _ hn)) λws s2 ⟨ps,H2,I2,rel,e,kvs,ep,lk,q2⟩=>?_)
 subst ep;obtain⟨rs,c,rk⟩:=ZDY (P:=X.prog) (w:=X.w) rel;obtain⟨z,hd,vs0,r0,dd⟩:=ZPA I2.hok e;cases r0;refine⟨rs,c,dd,λh' dd' hs=>⟨.ref s.heap.objs.size,_,?_,rfl,q2⟩⟩;have hz:(Oz [] kvs).length<=sizeLine:=by have h1:=ZGj kvs [];rw[qS]at h1;rw[vY];lia
 have he:∃q,h'.get? s.heap.objs.size=u7 q:=let⟨q,_,_,hq,_⟩:=dd';⟨q,hq⟩;exact ZNd I2 (by rw[e];exact True.intro) hs he (ZQ1 hz hd (rk.merge .nil) dd')
section
variable{X:Cx}{vP:List (xy×Obj)}{σ:St}{H:Hp}{s:xF}{a:xy}{y d:V}{u r:xH}{o:Option V}{A:x0}{E:xH->xF->Prop}
end
section
variable{X:Cx}{o e f:xA}{apos cpos:Pos}{td ty tx:TE}
end
section
variable{X:Cx}{vP:List (xy×Obj)}{σ:St}{H:Hp}{s:xF}{a:xy}{kvs:List (Key×V)}{A:x0}{E:xH->xF->Prop}
end
section
variable{X:Cx}{vP:List (xy×Obj)}{σ:St}{H:Hp}{s:xF}{a:xy}{y:V}{u:xH}{A:x0}{E:xH->xF->Prop}
end
section
variable{X:Cx}
end
end _L
namespace _L
section
variable{κ:Type}[DecidableEq κ]
end
end _L
namespace _D
open PySem PySem.Spec _L
open PyProof.Rows hiding St
inductive D where
 |non|bl (b:Bool)|int (i:Int)|str (x:Str)|ty (n:String)
 |tup (xs:List D)
 |fl (xs:List D)
 |ref (i:Nat)
inductive DO where
 |lst (xs:List D)
 |dct (kvs:List (Key×D))
 |ins (c:Str) (fs:List (Str×D))
 |tab (c m:Str)
 |exc (c:Str) (fs:List (Str×D))
 |gone
abbrev DH:=List DO
abbrev DSt:=List (Option D)
structure Xn where
 cls:Str
 fs:List (Str×D)
inductive R (α:Type) where
 |ok (a:α) (G:DH)
 |err (x:Xn) (G:DH)
 |bad
abbrev Fx{α:Type}(_:α):Type:=Unit
noncomputable def R.bind{α β:Type}(f:α->DH->R β)(_:Fx f:=())(r:R α):R β:=match r with
 |.ok a G=>f a G
 |.err x G=>.err x G
 |.bad=>.bad
@[simp]theorem R.Hm{b c:Type}(a:b)(G:DH)(f:b->DH->R c):(R.ok a G).bind f=f a G:=id rfl
inductive SR where
 |nx (S:DSt) (G:DH)
 |rt (d:D) (G:DH)
 |bk (S:DSt) (G:DH)
 |ct (S:DSt) (G:DH)
 |err (x:Xn) (G:DH)
 |bad
abbrev DE:=DSt->DH->R D
abbrev DB:=DSt->DH->R Bool
abbrev DA:=DSt->DH->R (List D)
abbrev DS:=DSt->DH->SR
def FzL(K:za)(H:Hp)(a:xy)(xs:List V):Prop:=
 (∃o,H a=u7 (.frz o (.lst xs)))\/
  (∃ns:List Int,xs=ns.map V.int)/\∃(o:Obj)(its:Array xH)(n:Nat),K.lookup a=u7 o/\o.cls=.type "list"/\o.dict=u8/\o.data=.seq its n/\its.size<=sizeLine/\Vals xs its.toList
theorem FzL.sq{K:za}{H:Hp}{a:xy}{xs:List V}(h:FzL K H a xs):SqL K H a xs:=by
 rcases h with⟨o,h⟩|⟨_,h⟩
 .exact .inl (.inr ⟨o,h⟩)
 exact .inr h
structure Wd where
 K:za
 n:Nat
 m:Nat->xy
 H:Hp
mutual
def Rep(a:Wd):D->V->Prop
 |.non,v=>v=.non
 |.bl b,v=>v=.bl b
 |.int i,v=>v=.int i
 |.str x,v=>v=.str x
 |.ty n,v=>v=.ty n
 |.tup ds,v=>∃p vs,v=.ref p/\SqT a.K a.H p vs/\Reps a ds vs
 |.fl ds,v=>∃p vs,v=.ref p/\FzL a.K a.H p vs/\Reps a ds vs
 |.ref i,v=>i<a.n/\v=.ref (a.m i)
def Reps(a:Wd):List D->List V->Prop
 |[],vs=>vs=[]
 |d::ds,vs=>∃v r,vs=v::r/\Rep a d v/\Reps a ds r
end
def lamQ:Str:="Sending.send_by.<locals>.<lambda>"
def TabOk(H:Hp)(P:xy):Prop:=
 ∃ps:Array xH,H P=u7 (.tbl ps)/\TriplesOk ps.toList/\∀pos cv,codeAmong pos ps.toList=u7 cv->∃(c:xy)(oc:Obj)(vs:Array xH)(t:Tok),cv=.ref c/\H c=u7 (.frz oc (.own 0))/\oc.data=.fields vs/\vs[1]?=u7 (.str lamQ t)
theorem TabOk.mono(h:TabOk H P)(j:∀p ps,H p=u7 (.tbl ps)->H' p=u7 (.tbl ps))(b:∀p o u,H p=u7 (.frz o u)->H' p=u7 (.frz o u)):TabOk H' P:=by obtain⟨ps,e,t,k⟩:=h;refine⟨ps,j _ _ e,t,λa r f=>?_⟩;obtain⟨c,l,n,g,d,i,m,q⟩:=k a r f;exact⟨c,l,n,g,d,b _ _ _ i,m,q⟩
def TabAt(K:za)(C m:Str)(c P:xy):Prop:=
 ∃(Ca f:xy)(oc:xH)(od:Option xy)(fd:xB)(sl:Array (Option xH)),zb K vV C=u7 (u7 (.ref Ca))/\zc K (.ref Ca) m=u7 (u7 (.ref f))/\K.lookup f=u7 ⟨oc,od,.func fd,sl⟩/\fd.code=.ref c/\PySem.W.codeHdIn K c P=u9
structure Ext (a b:Wd):Prop where
 k:b.K=a.K
 n:a.n<=b.n
 m:∀i,i<a.n->b.m i=a.m i
 tup:∀p xs,a.H p=u7 (.tup xs)->b.H p=u7 (.tup xs)
 frz:∀p o u,a.H p=u7 (.frz o u)->b.H p=u7 (.frz o u)
 tab:∀p,TabOk a.H p->TabOk b.H p
theorem Ext.refl(a:Wd):Ext a a:=⟨rfl,zY _,λ_ _=>rfl,λ_ _ h=>h,λ_ _ _ h=>h,λ_ h=>h⟩
theorem Ext.trans(x:Ext a b)(y:Ext b c):Ext a c:=
 ⟨y.k.trans x.k,z6 x.n y.n,λi h=>(y.m i (zq h x.n)).trans (x.m i h),λp d h=>y.tup p d (x.tup p d h),λp o u h=>y.frz p o u (x.frz p o u h),λp h=>y.tab p (x.tab p h)⟩
theorem Ext.sqT(x:Ext a b)(h:SqT a.K a.H p xs):SqT b.K b.H p xs:=by
 rcases h with(h|⟨o,h⟩)|h
 .exact .inl (.inl (x.tup _ _ h))
 .exact .inl (.inr ⟨o,x.frz _ _ _ h⟩)
 exact .inr (x.k▸h)
theorem Ext.fzL(x:Ext a b)(h:FzL a.K a.H p xs):FzL b.K b.H p xs:=by
 rcases h with⟨o,h⟩|⟨e,h⟩
 .exact .inl ⟨o,x.frz _ _ _ h⟩
 exact .inr ⟨e,x.k▸h⟩
mutual
theorem Rep.mono(x:Ext a b):∀{d:D}{v:V},Rep a d v->Rep b d v
 |.non,_,h=>h
 |.bl _,_,h=>h
 |.int _,_,h=>h
 |.str _,_,h=>h
 |.ty _,_,h=>h
 |.tup f,v,h=>by obtain⟨p,c,e,q,r⟩:=h;exact⟨p,c,e,x.sqT q,Reps.mono x r⟩
 |.fl f,v,h=>by obtain⟨p,c,e,q,r⟩:=h;exact⟨p,c,e,x.fzL q,Reps.mono x r⟩
 |.ref i,v,h=>by obtain⟨l,e⟩:=h;exact⟨zq l x.n,by rw[x.m i l];exact e⟩
theorem Reps.mono(x:Ext a b):∀{ds:List D}{vs:List V},Reps a ds vs->Reps b ds vs
 |[],_,h=>h
 |d::ds,vs,h=>by obtain⟨v,r,e,f,c⟩:=h;exact⟨v,r,e,Rep.mono x f,Reps.mono x c⟩
end
theorem Reps.length:∀{ds:List D}{vs:List V},Reps a ds vs->ds.length=vs.length
 |[],vs,h=>by cases(h);rfl
 |d::ds,vs,h=>by obtain⟨v,r,e,c,b⟩:=h;subst e;show ds.length+1=r.length+1;rw[Reps.length b]
theorem Reps.get:∀{ds:List D}{vs:List V}{i:Nat}{d:D},Reps a ds vs->ds[i]?=u7 d->∃v,vs[i]?=u7 v/\Rep a d v
 |[],vs,_,_,h,e=>by simp at e
 |d::ds,vs,0,j,h,e=>by obtain⟨v,r,b,f,c⟩:=h;subst b;simp at e;subst e;exact⟨v,rfl,f⟩
 |d::ds,vs,i+1,j,h,e=>by obtain⟨v,r,b,f,c⟩:=h;subst b;obtain⟨w,g,k⟩:=Reps.get c (by simpa using e);exact⟨w,by simpa using g,k⟩
theorem Reps.get':∀{ds:List D}{vs:List V}{i:Nat}{v:V},Reps a ds vs->vs[i]?=u7 v->∃d,ds[i]?=u7 d/\Rep a d v
 |[],vs,_,_,h,e=>by cases(h);simp at e
 |d::ds,vs,0,j,h,e=>by obtain⟨v,r,b,f,c⟩:=h;subst b;simp at e;subst e;exact⟨d,rfl,f⟩
 |d::ds,vs,i+1,j,h,e=>by obtain⟨v,r,b,f,c⟩:=h;subst b;obtain⟨w,g,k⟩:=Reps.get' c (by simpa using e);exact⟨w,by simpa using g,k⟩
theorem Reps.append:∀{ds es:List D}{vs us:List V},Reps a ds vs->Reps a es us->Reps a (ds++es) (vs++us)
 |[],_,vs,_,h,b=>by cases(h);exact b
 |d::ds,es,vs,us,h,b=>by obtain⟨v,r,f,c,e⟩:=h;subst f;exact⟨v,r++us,rfl,c,.append e b⟩
theorem Reps.cons(h:Rep a d v)(r:Reps a ds vs):Reps a (d::ds) (v::vs):=⟨v,vs,rfl,h,r⟩
theorem Reps.nil:Reps a [] []:=rfl
theorem Reps.set(h:Rep a d v):∀{ds:List D}{vs:List V}(i:Nat),Reps a ds vs->Reps a (ds.set i d) (vs.set i v)
 |[],vs,_,r=>by cases(r);exact rfl
 |j::ds,vs,0,r=>by obtain⟨f,e,b,g,c⟩:=r;subst b;exact⟨v,e,rfl,h,c⟩
 |j::ds,vs,i+1,r=>by obtain⟨f,e,b,g,c⟩:=r;subst b;exact⟨f,e.set i v,rfl,g,.set h i c⟩
theorem Reps.take:∀{ds:List D}{vs:List V}(i:Nat),Reps a ds vs->Reps a (ds.take i) (vs.take i)
 |_,_,0,_=>rfl
 |[],vs,_+1,r=>by cases(r);exact rfl
 |g::ds,vs,i+1,r=>by obtain⟨d,f,b,e,c⟩:=r;subst b;exact⟨d,f.take i,rfl,e,.take i c⟩
theorem Reps.drop:∀{ds:List D}{vs:List V}(i:Nat),Reps a ds vs->Reps a (ds.drop i) (vs.drop i)
 |_,_,0,r=>r
 |[],vs,_+1,r=>by cases(r);exact rfl
 |e::ds,vs,i+1,r=>by obtain⟨d,g,b,f,c⟩:=r;subst b;exact .drop i c
theorem Reps.ints:∀(ns:List Int),Reps a (ns.map D.int) (ns.map V.int)
 |[]=>rfl
 |n::ns=>⟨.int n,ns.map V.int,rfl,rfl,.ints ns⟩
def RepKV(a:Wd)(kvs:List (Key×D))(us:List (Key×V)):Prop:=kvs.map (·.1)=us.map (·.1)/\Reps a (kvs.map (·.2)) (us.map (·.2))
def RepF(a:Wd)(fs:List (Str×D))(us:List (Str×V)):Prop:=fs.map (·.1)=us.map (·.1)/\Reps a (fs.map (·.2)) (us.map (·.2))
def XD(a:Wd)(od:Option xy)(fs:List (Str×D)):Prop:=(fs=[]/\od=u8)\/∃dx o us,od=u7 dx/\a.H dx=u7 (.frz o (.xd us))/\RepF a fs us
def ORep(a:Wd):DO->Option HO->Prop
 |.lst ds,o=>∃vs,o=u7 (.lst vs)/\Reps a ds vs
 |.dct kvs,o=>∃us,o=u7 (.dK us)/\RepKV a kvs us
 |.ins c fs,o=>∃C dx us,zb a.K vV c=u7 (u7 (.ref C))/\o=u7 (.ins C dx us)/\RepF a fs us
 |.tab C m,_=>∃c P,TabAt a.K C m c P/\TabOk a.H P
 |.exc c fs,o=>∃C oe u vs,zb a.K vV c=u7 (u7 (.ref C))/\o=u7 (.frz oe u)/\oe.cls=.ref C/\oe.data=.fields vs/\XD a oe.dict fs
 |.gone,_=>True
structure Sim (a:Wd) (G:DH):Prop where
 len:G.length=a.n
 inj:∀i j,i<a.n->j<a.n->a.m i=a.m j->i=j
 obj:∀(i:Nat)(o:DO),G[i]?=u7 o->ORep a o (a.H (a.m i))
 tr:∀i,i<a.n->a.H (a.m i)≠u8
structure RepS (a:Wd) (S:DSt) (σ:St):Prop where
 len:S.length=σ.length
 get:∀(i:Nat)(d:D),S[i]?=u7 (u7 d)->∃v,σ[i]?=u7 (u7 v)/\Rep a d v
theorem RepS.mono(x:Ext a b)(r:RepS a S σ):RepS b S σ:=⟨r.len,λi d h=>let⟨v,e,q⟩:=r.get i d h;⟨v,e,q.mono x⟩⟩
theorem RepS.set(r:RepS a S σ)(i:Nat)(h:Rep a d v):RepS a (S.set i (u7 d)) (σ.set i (u7 v)):=by
 refine⟨by simpa using r.len,λj e b=>?_⟩;rw[qI]at b⊢;by_cases c:i=j
 .subst c;rw[if_pos rfl]at b⊢;by_cases f:i<S.length
  .rw[if_pos f]at b;have g:d=e:=by simpa using b
   subst g;rw[if_pos (by rw[<-r.len];exact f)];exact⟨v,rfl,h⟩
  rw[if_neg f]at b;cases b
 rw[if_neg c]at b⊢;exact r.get j e b
def XOk(E:XK)(a:Wd)(x:Xn)(G:DH):Prop:=E≠E0/\∀(b:Wd)(C:xy)(od:Option xy),Ext a b->Sim b G->zb b.K vV x.cls=u7 (u7 (.ref C))->XD b od x.fs->E (.ref C) od b.H
def out(E:XK)(a:Wd)(r:R D)(Q:VK):Prop:=match r with
 |.ok d G=>∀(b:Wd)(v:V),Ext a b->Sim b G->Rep b d v->Q v b.H
 |.err x G=>XOk E a x G
 |.bad=>False
def Ey(E:XK)(a:Wd)(r:R Bool)(Q:Bool->Hp->Prop):Prop:=match r with
 |.ok k G=>∀(b:Wd),Ext a b->Sim b G->Q k b.H
 |.err x G=>XOk E a x G
 |.bad=>False
def Er(E:XK)(a:Wd)(r:R (List D))(Q:List V->Hp->Prop):Prop:=match r with
 |.ok ds G=>∀(b:Wd)(vs:List V),Ext a b->Sim b G->Reps b ds vs->Q vs b.H
 |.err x G=>XOk E a x G
 |.bad=>False
def Bl(E:XK)(a:Wd)(r:SR)(W:Ends):Prop:=match r with
 |.nx S G=>∀(b:Wd)(σ:St),Ext a b->Sim b G->RepS b S σ->W.nx σ b.H
 |.bk S G=>∀(b:Wd)(σ:St),Ext a b->Sim b G->RepS b S σ->W.bk σ b.H
 |.ct S G=>∀(b:Wd)(σ:St),Ext a b->Sim b G->RepS b S σ->W.ct σ b.H
 |.rt d G=>∀(b:Wd)(v:V),Ext a b->Sim b G->Rep b d v->W.rt v b.H
 |.err x G=>XOk E a x G
 |.bad=>False
theorem XOk.mono(x:Ext a b)(h:XOk E a e G):XOk E b e G:=⟨h.1,λc C d y s n q=>h.2 c C d (x.trans y) s n q⟩
theorem out.mono(x:Ext a b)(h:out E a r Q):out E b r Q:=by
 cases r with
 |ok d G=>exact λc v y s q=>h c v (x.trans y) s q
 |err e G=>exact XOk.mono x h
 |bad=>exact h
theorem Ey.mono(x:Ext a b)(h:Ey E a r Q):Ey E b r Q:=by
 cases r with
 |ok d G=>exact λc y s=>h c (x.trans y) s
 |err e G=>exact XOk.mono x h
 |bad=>exact h
theorem Er.mono(x:Ext a b)(h:Er E a r Q):Er E b r Q:=by
 cases r with
 |ok d G=>exact λc f y s q=>h c f (x.trans y) s q
 |err e G=>exact XOk.mono x h
 |bad=>exact h
theorem Bl.mono(x:Ext a b)(h:Bl E a r W):Bl E b r W:=by
 cases r with
 |err e G=>exact XOk.mono x h
 |bad=>exact h
 |_=>exact λc f y s q=>h c f (x.trans y) s q
inductive PS3 (K:za) (σ:St) (H:Hp) (φ:Wd->DSt->DH->Prop):Prop|mk (a:Wd) (S:DSt) (G:DH) (hk:a.K=K) (hH:a.H=H) (s:Sim a G) (r:RepS a S σ) (h:φ a S G):PS3 K σ H φ inductive PR3 {α β:Type} (a:Wd) (H:Hp) (r:R α) (v:β) (ρ:Wd->α->β->Prop) (φ:Wd->α->DH->Prop):Prop|mk (b:Wd) (d:α) (G:DH) (hH:b.H=H) (x:Ext a b) (s:Sim b G) (q:ρ b d v) (e:r=.ok d G) (h:φ b d G):PR3 a H r v ρ φ inductive PN3 {α β:Type} (K:za) (H:Hp) (v:β) (ρ:Wd->α->β->Prop) (φ:Wd->DH->α->Prop):Prop|mk (a:Wd) (G:DH) (d:α) (hk:a.K=K) (hH:a.H=H) (s:Sim a G) (q:ρ a d v) (h:φ a G d):PN3 K H v ρ φ inductive PD3 {α β γ δ:Type} (K:za) (H:Hp) (v:β) (w:δ) (ρ:Wd->α->β->Prop) (τ:Wd->γ->δ->Prop) (φ:Wd->DH->α->γ->Prop):Prop|mk (a:Wd) (G:DH) (d:α) (e:γ) (hk:a.K=K) (hH:a.H=H) (s:Sim a G) (q:ρ a d v) (q':τ a e w) (h:φ a G d e):PD3 K H v w ρ τ φ inductive PG3 {α β:Type} (K:za) (σ:St) (H:Hp) (v:β) (ρ:Wd->α->β->Prop) (φ:Wd->DSt->DH->α->Prop):Prop|mk (a:Wd) (S:DSt) (G:DH) (d:α) (hk:a.K=K) (hH:a.H=H) (s:Sim a G) (r:RepS a S σ) (q:ρ a d v) (h:φ a S G d):PG3 K σ H v ρ φ inductive PB3 {α:Type} (a:Wd) (H:Hp) (r:R α) (k:α) (φ:Wd->DH->Prop):Prop|mk (b:Wd) (G:DH) (hH:b.H=H) (x:Ext a b) (s:Sim b G) (e:r=.ok k G) (h:φ b G):PB3 a H r k φ def lE (K:za) (E:XK) (t:DE):TE:=λσ H Q=>PS3 K σ H λa S G=>out E a (t S G) Q
def lB(K:za)(E:XK)(t:DB):TT:=λσ H Q=>PS3 K σ H λa S G=>Ey E a (t S G) Q
def lA(K:za)(E:XK)(t:DA):TA:=λσ H Q=>PS3 K σ H λa S G=>Er E a (t S G) Q
def lS(K:za)(E:XK)(t:DS):TS:=λW σ H=>PS3 K σ H λa S G=>Bl E a (t S G) W
def lR2(K:za)(E:XK)(f:D->D->DH->R D):R2:=λx y H Q=>PD3 K H x y Rep Rep λa G d e=>out E a (f d e G) Q
def lR1(K:za)(E:XK)(f:D->DH->R D):V->Hp->VK->Prop:=λx H Q=>PN3 K H x Rep λa G d=>out E a (f d G) Q
def lRn(K:za)(E:XK)(f:List D->DH->R D):List V->Hp->VK->Prop:=λxs H Q=>PN3 K H xs Reps λa G ds=>out E a (f ds G) Q
def lF(K:za)(f:List D->DH->R D):Sp:=λxs H Q _=>PN3 K H xs Reps λa G ds=>out E0 a (f ds G) Q
def lFx(K:za)(f:List D->DH->R D):Sp:=λxs H Q E=>PN3 K H xs Reps λa G ds=>out E a (f ds G) Q
section
variable{X:Cx}{E:XK}
def QE(X:Cx)(E:XK)(e:xA)(t:DE):Prop:=PE X e (lE X.K E t)
def QT(X:Cx)(E:XK)(e:xA)(t:DB):Prop:=PT X e (lB X.K E t)
def QA(X:Cx)(E:XK)(es:List xA)(t:DA):Prop:=PA X es (lA X.K E t)
def QS(X:Cx)(E:XK)(st:xG)(t:DS):Prop:=PS X st (lS X.K E t)
def QSs(X:Cx)(E:XK)(st:List xG)(t:DS):Prop:=PSs X st (lS X.K E t)
theorem _root_._L.PE.mono(h:PE X e t)(w:∀b H Q,t' b H Q->t b H Q):PE X e t':=λa s b H Q I q=>h a s b H Q I (w b H Q q)
theorem _root_._L.PT.mono(h:PT X e t)(w:∀b H Q,t' b H Q->t b H Q):PT X e t':=λa s b H Q I q=>h a s b H Q I (w b H Q q)
theorem _root_._L.PA.mono(h:PA X e t)(w:∀b H Q,t' b H Q->t b H Q):PA X e t':=λc a s b H Q I q=>h c a s b H Q I (w b H Q q)
theorem _root_._L.PS.mono(h:PS X e t)(w:∀W b H,t' W b H->t W b H):PS X e t':=λa s b H W I q=>h a s b H W I (w W b H q)
theorem _root_._L.PSs.mono(h:PSs X e t)(w:∀W b H,t' W b H->t W b H):PSs X e t':=λa s b H W I q=>h a s b H W I (w W b H q)
theorem _root_._L.OpR.mono(h:OpR X f r)(w:∀x y H Q,r' x y H Q->r x y H Q):OpR X f r':=λa s d H x y v u Q I c b q=>h a s d H x y v u Q I c b (w _ _ _ _ q)
end
theorem Ea(h:out E a (r.bind f) Q):
  out E a r (λv H=>PR3 a H r v Rep λb d G=>out E b (f d G) Q):=by
 cases r with
 |ok d G=>exact λb v x s q=>⟨b,d,G,rfl,x,s,q,rfl,out.mono x h⟩
 |_=>exact h
theorem M7(h:out E a (r.bind f) Q):
  Er E a r (λvs H=>PR3 a H r vs Reps λb ds G=>out E b (f ds G) Q):=by
 cases r with
 |ok d G=>exact λb v x s q=>⟨b,d,G,rfl,x,s,q,rfl,out.mono x h⟩
 |_=>exact h
theorem ZBf(h:out E a (r.bind f) Q):
  Ey E a r (λk H=>PB3 a H r k λb G=>out E b (f k G) Q):=by
 cases r with
 |ok d G=>exact λb x s=>⟨b,G,rfl,x,s,rfl,out.mono x h⟩
 |_=>exact h
theorem ZPp(h:Ey E a (r.bind f) Q):
  out E a r (λv H=>PR3 a H r v Rep λb d G=>Ey E b (f d G) Q):=by
 cases r with
 |ok d G=>exact λb v x s q=>⟨b,d,G,rfl,x,s,q,rfl,Ey.mono x h⟩
 |_=>exact h
theorem Zz(h:Ey E a (r.bind f) Q):
  Ey E a r (λk H=>PB3 a H r k λb G=>Ey E b (f k G) Q):=by
 cases r with
 |ok d G=>exact λb x s=>⟨b,G,rfl,x,s,rfl,Ey.mono x h⟩
 |_=>exact h
theorem ZJP(h:Er E a (r.bind f) Q):
  out E a r (λv H=>PR3 a H r v Rep λb d G=>Er E b (f d G) Q):=by
 cases r with
 |ok d G=>exact λb v x s q=>⟨b,d,G,rfl,x,s,q,rfl,Er.mono x h⟩
 |_=>exact h
theorem ZLc(h:Er E a (r.bind f) Q):
  Er E a r (λvs H=>PR3 a H r vs Reps λb ds G=>Er E b (f ds G) Q):=by
 cases r with
 |ok d G=>exact λb v x s q=>⟨b,d,G,rfl,x,s,q,rfl,Er.mono x h⟩
 |_=>exact h
noncomputable def R.toS{α:Type}(f:α->DH->SR)(_:Fx f:=())(r:R α):SR:=match r with
 |.ok a G=>f a G
 |.err x G=>.err x G
 |.bad=>.bad
@[simp]theorem R.Bq{b:Type}(a:b)(G:DH)(f:b->DH->SR):(R.ok a G).toS f=f a G:=id rfl
@[simp]theorem R.ZR2{a:Type}(x:Xn)(G:DH)(f:a->DH->SR):(R.err x G:R a).toS f=.err x G:=id rfl
theorem Gg(h:Bl E a (r.toS f) W):
  out E a r (λv H=>PR3 a H r v Rep λb d G=>Bl E b (f d G) W):=by
 cases r with
 |ok d G=>exact λb v x s q=>⟨b,d,G,rfl,x,s,q,rfl,Bl.mono x h⟩
 |_=>exact h
theorem ZD5(h:Bl E a (r.toS f) W):
  Ey E a r (λk H=>PB3 a H r k λb G=>Bl E b (f k G) W):=by
 cases r with
 |ok d G=>exact λb x s=>⟨b,G,rfl,x,s,rfl,Bl.mono x h⟩
 |_=>exact h
section
theorem out.imp(h:out E a r Q)(w:∀v H,Q v H->Q' v H):out E a r Q':=by
 cases r with
 |ok d G=>exact λb v x s q=>w _ _ (h b v x s q)
 |_=>exact h
theorem Er.imp(h:Er E a r Q)(w:∀v H,Q v H->Q' v H):Er E a r Q':=by
 cases r with
 |ok d G=>exact λb v x s q=>w _ _ (h b v x s q)
 |_=>exact h
theorem Ey.imp(h:Ey E a r Q)(w:∀v H,Q v H->Q' v H):Ey E a r Q':=by
 cases r with
 |ok d G=>exact λb x s=>w _ _ (h b x s)
 |_=>exact h
def Wd.push(a:Wd)(p:xy)(ho:HO):Wd:=⟨a.K,a.n+1,λk=>if k=a.n then p else a.m k,upd a.H p ho⟩
def Wd.put(a:Wd)(p:xy)(ho:HO):Wd:={a with H:=upd a.H p ho}
theorem Ext.put(h:a.H p=u8):Ext a (a.put p ho):=
 ⟨rfl,zY _,λ_ _=>rfl,λq c e=>by show upd a.H p ho q=_;rw[Ai (Ge e h)];exact e,λq o u e=>by show upd a.H p ho q=_;rw[Ai (Ge e h)];exact e,λ_ t=>t.mono (λq b e=>by show upd a.H p ho q=_;rw[Ai (Ge e h)];exact e) (λq o u e=>by show upd a.H p ho q=_;rw[Ai (Ge e h)];exact e)⟩
theorem Ext.push(h:a.H p=u8):Ext a (a.push p ho):=
 ⟨rfl,jk _,λi b=>by show(if i=a.n then p else a.m i)=a.m i;rw[if_neg (z8 b)],λq d e=>by show upd a.H p ho q=_;rw[Ai (Ge e h)];exact e,λq o u e=>by show upd a.H p ho q=_;rw[Ai (Ge e h)];exact e,λ_ t=>t.mono (λq c e=>by show upd a.H p ho q=_;rw[Ai (Ge e h)];exact e) (λq o u e=>by show upd a.H p ho q=_;rw[Ai (Ge e h)];exact e)⟩
theorem XD.mono(x:Ext a b)(h:XD a od fs):XD b od fs:=by
 rcases h with h|⟨d,o,c,e,f,k,r⟩
 .exact .inl h
 exact .inr ⟨d,o,c,e,x.frz _ _ _ f,k,r.mono x⟩
theorem ORep.mono(x:Ext a b)(h:ORep a o q):ORep b o q:=by
 cases o with
 |lst s=>obtain⟨f,e,r⟩:=h;exact⟨f,e,r.mono x⟩
 |dct g=>obtain⟨d,e,k,r⟩:=h;exact⟨d,e,k,r.mono x⟩
 |ins c fs=>obtain⟨C,i,d,n,e,k,r⟩:=h;exact⟨C,i,d,x.k▸n,e,k,r.mono x⟩
 |tab C m=>obtain⟨c,P,e,t⟩:=h;exact⟨c,P,x.k▸e,x.tab _ t⟩
 |exc c fs=>obtain⟨C,p,u,f,n,e,j,l,z⟩:=h;exact⟨C,p,u,f,x.k▸n,e,j,l,z.mono x⟩
 |gone=>trivial
theorem Sim.lt(s:Sim a G)(h:G[i]?=u7 o):i<a.n:=by rw[<-s.len];exact(zC.mp h).1
theorem Sim.put(s:Sim a G)(h:a.H p=u8):Sim (a.put p ho) G:=by
 refine⟨s.len,s.inj,λi o e=>?_,λi b=>?_⟩
 .have z:=s.tr i (s.lt e);show ORep _ o (upd a.H p ho (a.m i));rw[Ai (λq=>z (by rw[q];exact h))];exact(s.obj i o e).mono (.put h)
 have z:=s.tr i b;show upd a.H p ho (a.m i)≠u8;rw[Ai (λq=>z (by rw[q];exact h))];exact z
theorem Sim.push(s:Sim a G)(h:a.H p=u8)(r:ORep (a.push p ho) o (u7 ho)):Sim (a.push p ho) (G++[o]):=by
 have f:∀i,i<a.n->a.m i≠p:=λi g q=>s.tr i g (q▸h)
 have b:∀i,i<a.n->(a.push p ho).m i=a.m i:=λi g=>by show(if i=a.n then p else a.m i)=_;rw[if_neg (z8 g)]
 have d:(a.push p ho).m a.n=p:=by show(if a.n=a.n then p else a.m a.n)=_;rw[if_pos rfl]
 refine⟨by simp[s.len,Wd.push],λi j g v e=>?_,λi u e=>?_,λi g=>?_⟩
 .have l:i<a.n+1:=g;have w:j<a.n+1:=v;by_cases c:i<a.n
  .by_cases k:j<a.n
   .rw[b i c,b j k]at e;exact s.inj i j c k e
   have:j=a.n:=by lia
   subst this;rw[b i c,d]at e;exact absurd e (f i c)
  have:i=a.n:=by lia
  subst this;by_cases k:j<a.n
  .rw[b j k,d]at e;exact absurd e.symm (f j k)
  lia
 .by_cases c:i<a.n
  .rw[qJ (s.len▸c)]at e;rw[b i c];show ORep _ u (upd a.H p ho (a.m i));rw[Ai (f i c)];exact(s.obj i u e).mono (.push h)
  have t:=(zC.mp e).1;have:i=a.n:=by rw[zP,s.len]at t;simp at t;lia
  subst this;rw[zG (s.len▸zY _),s.len]at e;simp at e;subst e;rw[d];show ORep _ o (upd a.H p ho p);rw[Dy];exact r
 have l:i<a.n+1:=g;by_cases c:i<a.n
 .rw[b i c];show upd a.H p ho (a.m i)≠u8;rw[Ai (f i c)];exact s.tr i c
 .have:i=a.n:=by lia
  subst this;rw[d];show upd a.H p ho p≠u8;rw[Dy];simp
theorem Ext.wr(h:a.H p=u7 (.lst vs)):Ext a (a.put p ho):=
 ⟨rfl,zY _,λ_ _=>rfl,λq c e=>by
  show upd a.H p ho q=_;rw[Ai (λz=>by subst z;rw[h]at e;cases e)];exact e,λq o u e=>by
  show upd a.H p ho q=_;rw[Ai (λz=>by subst z;rw[h]at e;cases e)];exact e,λ_ t=>t.mono (λq b e=>by show upd a.H p ho q=_;rw[Ai (λz=>by subst z;rw[h]at e;cases e)];exact e) (λq o u e=>by show upd a.H p ho q=_;rw[Ai (λz=>by subst z;rw[h]at e;cases e)];exact e)⟩
theorem Sim.wr(s:Sim a G)(c:i<a.n)(h:a.H (a.m i)=u7 (.lst vs))(r:Reps (a.put (a.m i) (.lst vs')) ds' vs'):Sim (a.put (a.m i) (.lst vs')) (G.set i (.lst ds')):=by
 refine⟨by rw[jy];exact s.len,s.inj,λj o e=>?_,λj d=>?_⟩
 .rw[qI]at e;show ORep _ o (upd a.H (a.m i) (.lst vs') (a.m j));by_cases b:i=j
  .subst b;rw[if_pos rfl,if_pos (s.len▸c)]at e;cases e;rw[Dy];exact⟨vs',rfl,r⟩
  rw[if_neg b]at e;rw[Ai λz=>b (s.inj _ _ (s.lt e) c z).symm];exact(s.obj j o e).mono (.wr h)
 show upd a.H (a.m i) (.lst vs') (a.m j)≠u8;by_cases b:a.m j=a.m i
 .rw[b,Dy];simp
 rw[Ai b];exact s.tr j d
mutual
noncomputable def bel(n:Nat):D->Bool
 |.ref i=>decide (i<n)
 |.tup ds=>bels n ds
 |.fl ds=>bels n ds
 |_=>u9
noncomputable def bels(n:Nat):List D->Bool
 |[]=>u9
 |d::ds=>bel n d&&bels n ds
end
def Mr(n:Nat):DO->Bool
 |.lst ds=>bels n ds
 |.dct kvs=>bels n (kvs.map (·.2))
 |.ins _ fs=>bels n (fs.map (·.2))
 |.tab _ _=>u9
 |.exc _ fs=>bels n (fs.map (·.2))
 |.gone=>u9
mutual
theorem Rep.bel:∀{d:D}{v:V},Rep a d v->bel a.n d=u9
 |.non,_,_=>by simp[_D.bel]
 |.bl _,_,_=>by simp[_D.bel]
 |.int _,_,_=>by simp[_D.bel]
 |.str _,_,_=>by simp[_D.bel]
 |.ty _,_,_=>by simp[_D.bel]
 |.tup b,v,h=>by obtain⟨p,c,e,q,r⟩:=h;simp only[_D.bel];exact Reps.bels r
 |.fl b,v,h=>by obtain⟨p,c,e,q,r⟩:=h;simp only[_D.bel];exact Reps.bels r
 |.ref i,v,h=>by obtain⟨l,e⟩:=h;simp only[_D.bel];exact decide_eq_true l
theorem Reps.bels:∀{b:List D}{vs:List V},Reps a b vs->bels a.n b=u9
 |[],_,_=>by simp[_D.bels]
 |d::b,vs,h=>by
  obtain⟨v,r,e,f,c⟩:=h;simp only[_D.bels];rw[Rep.bel f,Reps.bels c]
  rfl
end
structure Cut (b c:Wd):Prop where
 k:c.K=b.K
 h:c.H=b.H
mutual
theorem Rep.cut(x:Cut b c)(a:n<=c.n)(g:∀i,i<n->c.m i=b.m i):∀{d:D}{v:V},Rep b d v->bel n d=u9->Rep c d v
 |.non,_,h,_=>h
 |.bl _,_,h,_=>h
 |.int _,_,h,_=>h
 |.str _,_,h,_=>h
 |.ty _,_,h,_=>h
 |.tup o,v,h,q=>by obtain⟨p,f,e,t,r⟩:=h;simp only[_D.bel]at q;exact⟨p,f,e,by rw[x.k,x.h];exact t,Reps.cut x a g r q⟩
 |.fl o,v,h,q=>by obtain⟨p,f,e,t,r⟩:=h;simp only[_D.bel]at q;exact⟨p,f,e,by rw[x.k,x.h];exact t,Reps.cut x a g r q⟩
 |.ref i,v,h,q=>by obtain⟨l,e⟩:=h;simp only[_D.bel]at q;have j:=of_decide_eq_true q;exact⟨zq j a,by rw[g i j];exact e⟩
theorem Reps.cut(x:Cut b c)(f:n<=c.n)(g:∀i,i<n->c.m i=b.m i):∀{a:List D}{vs:List V},Reps b a vs->bels n a=u9->Reps c a vs
 |[],_,h,_=>h
 |d::a,vs,h,q=>by obtain⟨v,r,e,j,k⟩:=h;simp only[_D.bels,z5]at q;exact⟨v,r,e,Rep.cut x f g j q.1,Reps.cut x f g k q.2⟩
end
theorem ORep.cut(x:Cut b c)(d:n<=c.n)(g:∀i,i<n->c.m i=b.m i)(h:ORep b o q)(l:Mr n o=u9):ORep c o q:=by
 cases o with
 |lst A=>obtain⟨p,e,r⟩:=h;exact⟨p,e,.cut x d g r l⟩
 |dct s=>obtain⟨a,e,k,r⟩:=h;exact⟨a,e,k,.cut x d g r l⟩
 |ins c fs=>obtain⟨C,j,a,n,e,k,r⟩:=h;exact⟨C,j,a,x.k▸n,e,k,.cut x d g r l⟩
 |tab C m=>obtain⟨c,P,e,t⟩:=h;exact⟨c,P,x.k▸e,x.h▸t⟩
 |exc c fs=>
  obtain⟨C,y,u,p,n,e,v,w,z⟩:=h;refine⟨C,y,u,p,x.k▸n,e,v,w,?_⟩;rcases z with z|⟨j,o,a,e,f,k,r⟩
  .exact .inl z
  exact .inr ⟨j,o,a,e,x.h▸f,k,.cut x d g r l⟩
 |gone=>trivial
theorem ORep.Mr(h:ORep a o q):Mr a.n o=u9:=by
 cases o with
 |lst l=>obtain⟨i,e,r⟩:=h;exact r.bels
 |dct d=>obtain⟨b,e,k,r⟩:=h;exact r.bels
 |ins c fs=>obtain⟨C,g,b,n,e,k,r⟩:=h;exact r.bels
 |exc c fs=>
  obtain⟨C,s,u,i,n,e,j,p,z⟩:=h;rcases z with⟨z,_⟩|⟨g,o,b,e,f,k,r⟩
  .rw[z];rfl
  exact r.bels
 |_=>rfl
open Classical in
def tidy (G:DH) (r:R D):R D:=match r with
 | .ok d G'=>if G'.take G.length=G then
   (if bel G.length d=u9 then .ok d G else match d with
    |.ref i=>match G'[i]? with
     |some o=>if Mr G.length o=u9 then .ok (.ref G.length) (G++[o])else .ok d G'
     |none=>.ok d G'
    |_=>.ok d G')else .ok d G'
 |r=>r
theorem ZBh (s:Sim a G) (h:out E a (tidy G r) Q):out E a r Q:=by
 cases r with
 | ok d M=>
  intro b v x f I;unfold tidy at h;dsimp only at h;split at h
  .rename_i S;have F:∀i o,G[i]?=u7 o->M[i]?=u7 o:=λi o e=>by have C:=(zC.mp e).1;rw[<-S,j2 C]at e;exact e
   have t:∀(c:Wd),Cut b c->a.n<=c.n->(∀i,i<a.n->c.m i=b.m i)->∀i o,G[i]?=u7 o->ORep c o (c.H (c.m i)):=λc q P N i o e=>by rw[q.h,N i (s.lt e)];exact(f.obj i o (F i o e)).cut q P N (s.obj i o e).Mr
   split at h
   .rename_i z;rw[s.len]at z;let c:Wd:=⟨b.K,a.n,b.m,b.H⟩;have q:Cut b c:=⟨rfl,rfl⟩;exact h c v ⟨x.k,zY _,x.m,x.tup,x.frz,x.tab⟩ ⟨s.len,λi j C g=>f.inj i j (zq C x.n) (zq g x.n),t c q (zY _) (λ_ _=>rfl),λi C=>f.tr i (zq C x.n)⟩ (I.cut q (zY _) (λ_ _=>rfl) z)
   rename_i z;split at h
   .rename_i i;obtain⟨B,L⟩:=I;split at h
    .rename_i o T;split at h
     .rename_i A;rw[s.len]at A z h;simp[_D.bel,decide_eq_true_eq]at z;let c:Wd:=⟨b.K,a.n+1,λk=>if k=a.n then b.m i else b.m k,b.H⟩;have q:Cut b c:=⟨rfl,rfl⟩;have w:∀j,j<a.n->c.m j=b.m j:=λj g=>by show(if j=a.n then b.m i else b.m j)=_;rw[if_neg (z8 g)]
      have cn:c.m a.n=b.m i:=by show(if a.n=a.n then b.m i else b.m a.n)=_;rw[if_pos rfl]
      have l:∀j,j<a.n->j<b.n:=λj g=>zq g x.n
      refine h c v ⟨x.k,jk _,λj g=>(w j g).trans (x.m j g),x.tup,x.frz,x.tab⟩ ⟨by simp[s.len,c],λj k g hk e=>?_,λj u e=>?_,λj g=>?_⟩ ⟨qZ _,cn▸L⟩
      .have J:j<a.n+1:=g;have U:k<a.n+1:=hk;by_cases p:j<a.n
       .by_cases y:k<a.n
        .rw[w j p,w k y]at e;exact f.inj j k (l j p) (l k y) e
        .have:k=a.n:=by lia
         subst this;rw[w j p,cn]at e;have:=f.inj j i (l j p) B e;lia
       .have:j=a.n:=by lia
        subst this;by_cases y:k<a.n
        .rw[w k y,cn]at e;have:=f.inj i k B (l k y) e;lia
        lia
      .by_cases p:j<a.n
       .rw[qJ (s.len▸p)]at e;exact t c q (jk _) w j u e
       .have O:=(zC.mp e).1;have:j=a.n:=by rw[zP,s.len]at O;simp at O;lia
        subst this;rw[zG (s.len▸zY _),s.len]at e;simp at e;subst e;rw[cn];exact(f.obj i o T).cut q (jk _) w A
      .have J:j<a.n+1:=g;by_cases p:j<a.n
       .rw[w j p];exact f.tr j (l j p)
       .have:j=a.n:=by lia
        subst this;rw[cn];exact f.tr i B
     exact h b v x f ⟨B,L⟩
    exact h b v x f ⟨B,L⟩
   exact h b v x f I
  exact h b v x f I
 |_=>exact h
end
def dV(i:Nat):DE:=λS G=>match S[i]? with
 |some (u7 d)=>.ok d G
 |_=>.bad
def dC(d:D):DE:=λ_ G=>.ok d G
def dOp(f:D->D->DH->R D)(a b:DE):DE:=λS G=>(a S G).bind λx G1=>(b S G1).bind λy G2=>f x y G2
def dUn(f:D->DH->R D)(a:DE):DE:=λS G=>(a S G).bind f
def Az:DA:=λ_ G=>.ok [] G
def Ac(a:DE)(r:DA):DA:=λS G=>(a S G).bind λx G1=>(r S G1).bind λxs G2=>.ok (x::xs) G2
def dFn(f:List D->DH->R D)(t:DA):DE:=λS G=>(t S G).bind f
def Ci(t:DE):DE:=λS G=>tidy G (t S G)
def asB:D->DH->R Bool
 |.bl k,G=>.ok k G
 |_,_=>.bad
def Ak(t:DE):DB:=λS G=>(t S G).bind asB
def Ie(t u:DB):DB:=λS G=>(t S G).bind λk G1=>if k=u9 then u S G1 else .ok uA G1
def dOr(t u:DB):DB:=λS G=>(t S G).bind λk G1=>if k=u9 then .ok u9 G1 else u S G1
def Gp(t:DB):DB:=λS G=>(t S G).bind λk G1=>.ok (!k) G1
def Jc(t u:DE):DE:=λS G=>(t S G).bind λx G1=>(asB x G1).bind λk G2=>if k=u9 then u S G2 else .ok (.bl uA) G2
def Qo(t u:DE):DE:=λS G=>(t S G).bind λx G1=>(asB x G1).bind λk G2=>if k=u9 then .ok (.bl u9) G2 else u S G2
def dIf(c:DB)(t u:DE):DE:=λS G=>(c S G).bind λk G1=>if k=u9 then t S G1 else u S G1
def Jz(f g:D->D->DH->R D)(a b c:DE):DE:=λS G=>(a S G).bind λx G1=>(b S G1).bind λy G2=>(f x y G2).bind λz G3=>(asB z G3).bind λk G4=>
 if k=u9 then(c S G4).bind λw G5=>g y w G5 else .ok (.bl uA) G4
def Ah(ds:List D)(G:DH):R D:=if ds.length<=1000000 then .ok (.tup ds) G else .bad
def Af(ds:List D)(G:DH):R D:=if ds.length<=1000000 then .ok (.ref G.length) (G++[.lst ds])else .bad
noncomputable def Bd(d:D)(G:DH):Option (List D):=match d with
 |.tup xs=>u7 xs
 |.fl xs=>u7 xs
 |.ref i=>match G[i]? with
  |some (.lst xs)=>u7 xs
  |_=>u8
 |_=>u8
theorem size6:(1000000:Nat)<=sizeLine:=by decide
section
variable{X:Cx}{E:XK}{a b c:xA}{ta tb tc:DE}{pos:Pos}
theorem two{K:za}{f:D->D->DH->R D}{g:St}{H:Hp}{Q:VK}(h:lE K E (dOp f ta tb) g H Q):tOp (lR2 K E f) (lE K E ta) (lE K E tb) g H Q:=by obtain⟨a,S,G,hk,rfl,s,r,h⟩:=h;refine⟨a,S,G,hk,rfl,s,r,(Ea h).imp ?_⟩;rintro v _ ⟨b,d,i,rfl,x,z,q,_,j⟩;refine⟨b,S,i,x.k.trans hk,rfl,z,r.mono x,(Ea j).imp ?_⟩;rintro w _ ⟨c,e,n,rfl,y,m,o,_,l⟩;exact⟨c,n,d,e,y.k.trans (x.k.trans hk),rfl,m,q.mono y,o,l⟩
theorem Hn(i:Nat){pos:Pos}(j:X.N[i]?=u7 x:=by rfl)(k:Vis X.env.scope x:=by first|exact Or.inl rfl|exact Or.inr (Or.inl rfl)|exact Or.inr (Or.inr rfl))(l:(x==("__debug__":Str))=uA:=by decide)
  (f:(x==("__classdict__":Str))=uA:=by decide):QE X E (.Name x pos) (dV i):=by
 refine(R9 j k l f).mono λm H Q h=>?_
 obtain⟨a,S,G,hk,rfl,s,r,h⟩:=h;unfold dV at h;split at h
 .rename_i d e;obtain⟨v,g,q⟩:=r.get i d e;exact⟨v,g,h a v (.refl a) s q⟩
 exact h.elim
theorem Qk{K:za}{d:D}{v:V}{f:St}{H:Hp}{Q:VK}(h:lE K E (dC d) f H Q)(r:∀a:Wd,a.K=K->Rep a d v):Q v H:=by obtain⟨a,S,G,hk,rfl,s,_,h⟩:=h;exact h a v (.refl a) s (r a hk)
theorem ZRK{i:Int}{j:Nat}:QE X E (.Constant (.int i) j pos) (dC (.int i)):=ZJ6.mono λd H Q h=>Qk h λ_ _=>rfl
theorem ZJF{i:Bool}{j:Nat}:QE X E (.Constant (.bool i) j pos) (dC (.bl i)):=ZMv.mono λd H Q h=>Qk h λ_ _=>rfl
theorem ZOh{j:Nat}:QE X E (.Constant .none j pos) (dC .non):=ZHd.mono λd H Q h=>Qk h λ_ _=>rfl
theorem ZJi{i:Str}{j:Nat}:QE X E (.Constant (.str i) j pos) (dC (.str i)):=Sq.mono λd H Q h=>Qk h λ_ _=>rfl
theorem ZBE(g:Gl X x)(i:X.mg x=u7 u)(r:RelV v u)(f:∀a:Wd,a.K=X.K->Rep a d v)(j:(x==("__debug__":Str))=uA:=by decide):QE X E (.Name x pos) (dC d):=
 (Rx g i r j).mono λk H Q h=>Qk h f
theorem ZIl(ho:OpR X (xR op) (lR2 X.K E f))(g:QE X E a ta)(d:QE X E b tb):QE X E (.BinOp a op b pos) (dOp f ta tb):=
 (ZOl ho g d).mono λ_ _ _ h=>two h
theorem ZCm(ho:OpR X (vQ op) (lR2 X.K E f))(g:QE X E a ta)(d:QE X E b tb)(i:xP op b=uA):QE X E (.Compare a [op] [b] pos) (dOp f ta tb):=
 (ZKO ho g d i).mono λ_ _ _ h=>two h
theorem W2{K:za}{t:DE}{f:St}{H:Hp}{Q:Bool->Hp->Prop}(h:lB K E (Ak t) f H Q):R8 (lE K E t) f H Q:=by
 obtain⟨a,S,G,hk,rfl,s,r,h⟩:=h;refine⟨a,S,G,hk,rfl,s,r,(ZPp h).imp ?_⟩;rintro v _ ⟨b,d,j,rfl,x,i,q,_,g⟩;cases d with
 |bl k=>exact⟨k,q,g b (.refl b) i⟩
 |_=>exact g.elim
theorem ZAp(w:∀d H Q,t' d H Q->t d H Q)(d:St)(H:Hp)(Q:Bool->Hp->Prop)(h:R8 t' d H Q):R8 t d H Q:=w _ _ _ h
theorem S9(ho:OpR X (vQ op) (lR2 X.K E f))(i:QE X E a ta)(g:QE X E b tb)(j:xP op b=uA):QT X E (.Compare a [op] [b] pos) (Ak (dOp f ta tb)):=
 (ZCi ho i g j).mono λd H Q h=>ZAp (λ_ _ _ z=>two z) d H Q (W2 h)
theorem chain{K:za}{f g:D->D->DH->R D}{n:St}{H:Hp}{Q:VK}(h:lE K E (Jz f g ta tb tc) n H Q):ZHJ (lR2 K E f) (lR2 K E g) (lE K E ta) (lE K E tb) (lE K E tc) n H Q:=by
 obtain⟨a,S,G,hk,rfl,s,r,h⟩:=h;refine⟨a,S,G,hk,rfl,s,r,(Ea h).imp ?_⟩;rintro v _ ⟨b,d,B,rfl,x,U,q,_,O⟩;refine⟨b,S,B,x.k.trans hk,rfl,U,r.mono x,(Ea O).imp ?_⟩;rintro w _ ⟨c,e,J,rfl,y,P,l,_,C⟩;refine⟨c,J,d,e,y.k.trans (x.k.trans hk),rfl,P,q.mono y,l,(Ea C).imp ?_⟩;rintro z _ ⟨o,F,T,rfl,i,A,Y,_,j⟩;cases F with
 | bl k=>
  refine⟨k,Y,?_⟩;cases k with
  |false=>exact j o (.bl uA) (.refl _) A rfl
  |true=>
   refine⟨o,S,T,(i.k.trans (y.k.trans (x.k.trans hk))),rfl,A,((r.mono x).mono y).mono i,(Ea j).imp ?_⟩;rintro z4 _ ⟨M,e4,L,rfl,m,I,N,_,Z⟩;exact⟨M,L,e,e4,m.k.trans (i.k.trans (y.k.trans (x.k.trans hk))),rfl,I,(l.mono i).mono m,N,Z⟩
 |_=>exact j.elim
theorem ZK4(ho:OpR X (vQ op) (lR2 X.K E f))(d:OpR X (vQ op') (lR2 X.K E g))(k:QE X E a ta)(j:QE X E b tb)(m:QE X E c tc)
  (l:lastMarks [op,op'] [b,c]=uA:=by with_unfolding_all rfl):QT X E (.Compare a [op,op'] [b,c] pos) (Ak (Jz f g ta tb tc)):=
 (ZNs ho d k j m l).mono λi H Q h=>ZAp (λ_ _ _ z=>chain z) i H Q (W2 h)
theorem O6(g:QE X E a ta)(f:∀d,isTrue a X.env d=(do let v<-d;standAt a.pos;holding [v] (truthy v)):=by intro _;rfl):QT X E a (Ak ta):=
 (ZPi g f).mono λi H Q h=>W2 h
theorem ZLW(d:QE X E a ta):QE X E a (Ci ta):=.mono d λf H Q h=>by obtain⟨w,S,G,hk,rfl,s,r,h⟩:=h;exact⟨w,S,G,hk,rfl,s,r,ZBh s h⟩
def QW(X:Cx)(E:XK)(e:xA)(t:DB):Prop:=PW X e (lB X.K E t)
theorem _root_._L.PW.mono(h:PW X e t)(w:∀d H Q,t' d H Q->t d H Q):PW X e t':=λg f s d H Q I q=>h g f s d H Q I (w d H Q q)
variable{u t:DB}{rest:List xA}
theorem ZIH{K:za}{d:St}{H:Hp}{Q:Bool->Hp->Prop}(h:lB K E (Ie t u) d H Q):tAnd (lB K E t) (lB K E u) d H Q:=by
 obtain⟨a,S,G,hk,rfl,s,r,h⟩:=h;refine⟨a,S,G,hk,rfl,s,r,(Zz h).imp ?_⟩;rintro k _ ⟨b,i,rfl,x,g,_,f⟩;cases k with
 |true=>exact⟨b,S,i,x.k.trans hk,rfl,g,r.mono x,f⟩
 |false=>exact f b (.refl b) g
theorem ZMo{K:za}{d:St}{H:Hp}{Q:Bool->Hp->Prop}(h:lB K E (dOr t u) d H Q):tOr (lB K E t) (lB K E u) d H Q:=by
 obtain⟨a,S,G,hk,rfl,s,r,h⟩:=h;refine⟨a,S,G,hk,rfl,s,r,(Zz h).imp ?_⟩;rintro k _ ⟨b,i,rfl,x,g,_,f⟩;cases k with
 |true=>exact f b (.refl b) g
 |false=>exact⟨b,S,i,x.k.trans hk,rfl,g,r.mono x,f⟩
theorem ZDh(d:QT X E a t):QW X E (.BoolOp .And [a] pos) t:=pw_and1 d
theorem Tu(d:QT X E a t):QW X E (.BoolOp .Or [a] pos) t:=pw_or1 d
theorem ZDu(f:QT X E a t)(d:QW X E (.BoolOp .And (b::rest) pos) u):QW X E (.BoolOp .And (a::b::rest) pos) (Ie t u):=(pw_and f d).mono λ_ _ _ h=>ZIH h
theorem Ue(f:QT X E a t)(d:QW X E (.BoolOp .Or (b::rest) pos) u):QW X E (.BoolOp .Or (a::b::rest) pos) (dOr t u):=(pw_or f d).mono λ_ _ _ h=>ZMo h
theorem Py(h:QW X E a t):QT X E a t:=_L.PW.pt h
theorem Ul(f:QT X E a t):QT X E (.UnaryOp .Not a pos) (Gp t):=(ZRB f).mono λj H Q h=>by obtain⟨a,S,G,hk,rfl,s,r,h⟩:=h;refine⟨a,S,G,hk,rfl,s,r,(Zz h).imp ?_⟩;rintro k _ ⟨b,i,rfl,x,g,_,d⟩;exact d b (.refl b) g
theorem ZPo{op}(h:QE X E a ta):QE X E (.BoolOp op [a] pos) ta:=ZRb h
theorem ZQt(l:QE X E a ta)(j:QE X E (.BoolOp .And (b::rest) pos) tb):QE X E (.BoolOp .And (a::b::rest) pos) (Jc ta tb):=(ZQy l j).mono λm H Q h=>by
 obtain⟨a,S,G,hk,rfl,s,r,h⟩:=h;refine⟨a,S,G,hk,rfl,s,r,(Ea h).imp ?_⟩;rintro v _ ⟨b,d,i,rfl,x,g,q,_,f⟩;cases d with
 |bl k=>
  refine⟨k,q,?_⟩;cases k with
  |true=>exact⟨b,S,i,x.k.trans hk,rfl,g,r.mono x,f⟩
  |false=>exact f b _ (.refl b) g rfl
 |_=>exact f.elim
theorem ZBK(l:QE X E a ta)(j:QE X E (.BoolOp .Or (b::rest) pos) tb):QE X E (.BoolOp .Or (a::b::rest) pos) (Qo ta tb):=(ZN6 l j).mono λm H Q h=>by
 obtain⟨a,S,G,hk,rfl,s,r,h⟩:=h;refine⟨a,S,G,hk,rfl,s,r,(Ea h).imp ?_⟩;rintro v _ ⟨b,d,i,rfl,x,g,q,_,f⟩;cases d with
 |bl k=>
  refine⟨k,q,?_⟩;cases k with
  |false=>exact⟨b,S,i,x.k.trans hk,rfl,g,r.mono x,f⟩
  |true=>exact f b _ (.refl b) g rfl
 |_=>exact f.elim
theorem ZIu(l:QT X E c t)(j:QE X E a ta)(i:QE X E b tb):QE X E (.IfExp c a b pos) (dIf t ta tb):=(ZK5 l j i).mono λm H Q h=>by
 obtain⟨a,S,G,hk,rfl,s,r,h⟩:=h;refine⟨a,S,G,hk,rfl,s,r,(ZBf h).imp ?_⟩;rintro k _ ⟨b,d,rfl,x,g,_,f⟩;cases k with
 |_=>exact⟨b,S,d,x.k.trans hk,rfl,g,r.mono x,f⟩
variable{es:List xA}{tr:DA}
theorem Xy:QA X E [] Az:=Pj.mono λd H Q h=>by obtain⟨a,S,G,hk,rfl,s,r,h⟩:=h;exact h a [] (.refl a) s rfl
def notStar:xA->Bool
 |.Starred _ _=>uA
 |_=>u9
theorem Ed(a:xA)(es:List xA)(env:Env)(h:notStar a=u9):vz (a::es) env=(uA,eval a env)::vz es env:=by
 cases a<;>first
  |exact absurd h zy
  |rfl
theorem H8(pos:Pos)(env:Env):∀es:List xA,es.all notStar=u9->(xN pos (vz es env)).any (·.1)=uA
 |[],_=>rfl
 |a::es,h=>by
  rw[qE,z5]at h;rw[Ed a es env h.1];have d:=H8 pos env es h.2;unfold xN at d⊢;rw[zk,j9,d]
  rfl
theorem Yk(m:QE X E a ta)(o:QA X E es tr)(i:notStar a=u9:=by rfl):QA X E (a::es) (Ac ta tr):=(Kr m o (Ed a es X.env i)).mono λz H Q h=>by obtain⟨a,S,G,hk,rfl,s,r,h⟩:=h;refine⟨a,S,G,hk,rfl,s,r,(ZJP h).imp ?_⟩;rintro v _ ⟨b,d,f,rfl,x,w,q,_,g⟩;refine⟨b,S,f,x.k.trans hk,rfl,w,r.mono x,(ZLc g).imp ?_⟩;rintro A _ ⟨c,C,B,rfl,y,l,n,_,j⟩;exact j c _ (.refl c) l (.cons (q.mono y) n)
theorem ZIJ{x1}(h:QA X E es tr):QE X E (.Tuple es x1 pos) (dFn Ah tr):=(ZBF h).mono λk H Q h=>by
 obtain⟨a,S,G,hk,rfl,s,r,h⟩:=h;refine⟨a,S,G,hk,rfl,s,r,(M7 h).imp ?_⟩;rintro f _ ⟨b,l,j,rfl,x,i,q,_,d⟩;unfold Ah at d;split at d
 .rename_i g;exact⟨by rw[<-q.length];exact z6 g size6,λp hp=>(d (b.put p (.tup f)) (.ref p) (.put hp) (i.put hp) ⟨p,f,rfl,.of Dy,q.mono (.put hp)⟩)⟩
 exact d.elim
theorem ZOs(h:QA X E es tr):QE X E (.List es pos) (dFn Af tr):=(ZMg h).mono λk H Q h=>by
 obtain⟨a,S,G,hk,rfl,s,r,h⟩:=h;refine⟨a,S,G,hk,rfl,s,r,(M7 h).imp ?_⟩;rintro g _ ⟨b,l,j,rfl,x,f,q,_,d⟩;unfold Af at d;split at d
 .rename_i i;refine⟨by rw[<-q.length];exact z6 i size6,λp hp=>?_⟩;refine d (b.push p (.lst g)) (.ref p) (.push hp) (f.push hp ⟨g,rfl,q.mono (.push hp)⟩) ⟨?_,?_⟩
  .rw[f.len];exact qZ _
  rw[f.len];show V.ref p=.ref (if b.n=b.n then p else b.m b.n);rw[if_pos rfl]
 exact d.elim
variable{e:xA}{x:Str}{p:Pos}
theorem Nb{K:za}{f:List D->DH->R D}{d:St}{H:Hp}{Q:VK}(h:lE K E (dFn f tr) d H Q):lA K E tr d H (λvs g=>lRn K E f vs g Q):=by obtain⟨a,S,G,hk,rfl,s,r,h⟩:=h;refine⟨a,S,G,hk,rfl,s,r,(M7 h).imp ?_⟩;rintro vs _ ⟨b,l,i,rfl,x,m,q,_,j⟩;exact⟨b,i,l,x.k.trans hk,rfl,m,q,j⟩
theorem ZRR{id:String}{f:List D->DH->R D}(n:CallR X (.builtin id) (lRn X.K E f))(j:Gl X x)(m:X.mg x=u8)(l:xS x=u7 (.builtin id))(k:QA X E (e::es) tr)(i:x≠"__name__":=by decide)(g:(x==("__debug__":Str))=uA:=by decide)
  (o:notStar e=u9:=by rfl) (d:es.all notStar=u9:=by rfl):QE X E (.Call (.Name x p) (e::es) [] pos) (dFn f tr):=
 (Yz n j m l k i g (Ed e es X.env o) (H8 pos X.env es d)).mono λq H Q h=>Nb h
theorem Y8{id:String}{f:List D->DH->R D}(n:CallR X (.type id) (lRn X.K E f))(j:Gl X x)(m:X.mg x=u8)(l:xS x=u7 (.type id))(k:QA X E (e::es) tr)(i:x≠"__name__":=by decide)(g:(x==("__debug__":Str))=uA:=by decide)
  (o:notStar e=u9:=by rfl) (d:es.all notStar=u9:=by rfl):QE X E (.Call (.Name x p) (e::es) [] pos) (dFn f tr):=
 (ZL5 n j m l k i g (Ed e es X.env o) (H8 pos X.env es d)).mono λq H Q h=>Nb h
theorem ZJv{CX:CXT}{k:Nat}{f:xy}{i:xB}{ps:List Str}{F:List D->DH->R D}(m:FnOk X.prog X.w X.K X.mg X.base CX k f i ps (lF X.K F))(C:Room k X.A)(n:Gl X x)(z:X.mg x=u7 (.ref f))(hk:zd X.K (.ref f)=u9)(v:Binds X.K i ps [])
  (o:Passes CX X E0) (y:QA X E0 (e::es) tr) (g:(x==("__debug__":Str))=uA:=by decide) (J:notStar e=u9:=by rfl) (d:es.all notStar=u9:=by rfl):
  QE X E0 (.Call (.Name x p) (e::es) [] pos) (dFn F tr):=
 (ZAo m C n z hk v .nil o y g (Ed e es X.env J) (H8 pos X.env es d)).mono λL H Q h=>by
  replace h:=Nb h;obtain⟨a,S,G,hk,rfl,s,r,h⟩:=h
  refine⟨a,S,G,hk,rfl,s,r,h.imp ?_⟩;rintro M _ ⟨b,j,B,hk,rfl,I,q,l⟩;exact⟨b,j,B,hk,rfl,I,by rw[qV];exact q,l⟩
theorem Ww(g:IxR X (lR2 X.K E f))(i:QE X E a ta)(j:QE X E b tb)(d:PlainIx b:=by intro _ _;rfl):QE X E (.Subscript a b pos) (dOp f ta tb):=
 (ZCQ g i j d).mono λ_ _ _ h=>two h
end
instance (i j:Int):Decidable (CMul i j):=by unfold CMul;infer_instance
instance (i j:Int):Decidable (CPow i j):=by unfold CPow;infer_instance
def CDivL(j:Int):Prop:=0<j/\j.natAbs.log2<9000
instance (j:Int):Decidable (CDivL j):=by unfold CDivL;infer_instance
def Og:D->D->DH->R D
 |.int i,.int j,G=>.ok (.int (i-j)) G
 |_,_,_=>.bad
def Ou:D->D->DH->R D
 |.int i,.int j,G=>if CDivL j then .ok (.int (i/j)) G else .bad
 |_,_,_=>.bad
def Jt:D->D->DH->R D
 |.int i,.int j,G=>if 0<j then .ok (.int (i%j)) G else .bad
 |_,_,_=>.bad
def Pz:D->D->DH->R D
 |.int i,.int j,G=>if CPow i j then .ok (.int (i^j.toNat)) G else .bad
 |_,_,_=>.bad
noncomputable def Jr:D->D->DH->R D
 |.int i,.int j,G=>.ok (.bl (decide (i<j))) G
 |.str i,.str j,G=>.ok (.bl (decide (i.cps.toList<j.cps.toList))) G
 |_,_,_=>.bad
noncomputable def Ii:D->D->DH->R D
 |.int i,.int j,G=>.ok (.bl (decide (i<=j))) G
 |.str i,.str j,G=>.ok (.bl (!decide (j.cps.toList<i.cps.toList))) G
 |_,_,_=>.bad
noncomputable def Oi:D->D->DH->R D
 |.int i,.int j,G=>.ok (.bl (decide (j<i))) G
 |.str i,.str j,G=>.ok (.bl (decide (j.cps.toList<i.cps.toList))) G
 |_,_,_=>.bad
noncomputable def Uw:D->D->DH->R D
 |.int i,.int j,G=>.ok (.bl (decide (j<=i))) G
 |.str i,.str j,G=>.ok (.bl (!decide (i.cps.toList<j.cps.toList))) G
 |_,_,_=>.bad
noncomputable def Fy(d:D)(G:DH):Option (List D):=match d with
 |.fl xs=>u7 xs
 |.ref i=>match G[i]? with
  |some (.lst xs)=>u7 xs
  |_=>u8
 |_=>u8
def I8:D->D->DH->R D
 |.int i,.int j,G=>.ok (.int (i+j)) G
 |.str i,.str j,G=>if i.length+j.length<=1000000 then .ok (.str (i++j)) G else .bad
 |.tup xs,.tup ys,G=>if xs≠[]/\xs.length+ys.length<=1000000 then .ok (.tup (xs++ys)) G else .bad
 |d,e,G=>match Fy d G,Fy e G with
  |some xs,u7 ys=>if xs.length+ys.length<=1000000 then .ok (.ref G.length) (G++[.lst (xs++ys)])else .bad
  |_,_=>.bad
section
variable{X:Cx}{E:XK}
theorem Ex(ho:OpR X f r)
  (h:∀(a:Wd)(G:DH)(d e:D)(x y:V)(Q:VK),a.K=X.K->Sim a G->Rep a d x->Rep a e y->out E a (F d e G) Q->r x y a.H Q):OpR X f (lR2 X.K E F):=
 ho.mono λx y H Q zz=>by obtain⟨a,G,d,e,hk,g,s,b,c,q⟩:=zz;subst g;exact h a G d e x y Q hk s b c q
theorem ZIx:OpR X (xR .Sub) (lR2 X.K E Og):=Ex ZRE λa G d e x y Q hk s b c q=>by
 cases d<;>cases e<;>first
  |exact q.elim
  |exact⟨_,_,b,c,q a _ (.refl a) s rfl⟩
theorem ZLZ:OpR X (xR .FloorDiv) (rI (λ_ j=>CDivL j) λi j=>.int (i/j)):=opI λi j _ _ _ _ _ a q=>by refine floordiv_int (by have:=a.1;lia) (by rw[Int.fdiv_eq_ediv_of_nonneg _ (Int.le_of_lt a.1)];exact q) (.inl (PyProof.noPylong_of_log2 a.2))
theorem ZPN:OpR X (xR .FloorDiv) (lR2 X.K E Ou):=Ex ZLZ λa G d e x y Q hk s rd re q=>by
 cases d<;>cases e<;>first
  |exact q.elim
  | (
    rename_i i j;unfold Ou at q;dsimp only at q;split at q
    .exact⟨_,_,rd,re,by assumption,q a _ (.refl a) s rfl⟩
    exact q.elim)
theorem ZKC:OpR X (xR .Mod) (lR2 X.K E Jt):=Ex ZJS λa G d e x y Q hk s rd re q=>by
 cases d<;>cases e<;>first
  |exact q.elim
  | (
    rename_i i j;unfold Jt at q;dsimp only at q;split at q
    .exact⟨_,_,rd,re,by assumption,q a _ (.refl a) s rfl⟩
    exact q.elim)
theorem ZLE:OpR X (xR .Pow) (lR2 X.K E Pz):=Ex ZIC λa G d e x y Q hk s rd re q=>by
 cases d<;>cases e<;>first
  |exact q.elim
  | (
    rename_i i j;unfold Pz at q;dsimp only at q;split at q
    .exact⟨_,_,rd,re,by assumption,q a _ (.refl a) s rfl⟩
    exact q.elim)
theorem o_lt:OpR X (vQ .Lt) (lR2 X.K E Jr):=Ex (ZP8.or ZNC) λa G d e x y Q hk s b c q=>by
 cases d<;>cases e<;>first
  |exact q.elim
  |exact .inl ⟨_,_,b,c,q a _ (.refl a) s rfl⟩
  |exact .inr ⟨_,_,b,c,q a _ (.refl a) s rfl⟩
theorem ZND:OpR X (vQ .LtE) (λx y H Q=>∃i j,x=.str i/\y=.str j/\Q (.bl (!decide (j.cps.toList<i.cps.toList))) H):=by intro a s d H x y v u Q I b c h;obtain⟨i,j,rfl,rfl,q⟩:=h;obtain⟨t,rfl⟩:=b;obtain⟨e,rfl⟩:=c;exact PySem.P.le_str ⟨.bl _,H,I,rfl,q⟩
theorem ZPD:OpR X (vQ .Gt) (λx y H Q=>∃i j,x=.str i/\y=.str j/\Q (.bl (decide (j.cps.toList<i.cps.toList))) H):=by intro a s d H x y v u Q I b c h;obtain⟨i,j,rfl,rfl,q⟩:=h;obtain⟨t,rfl⟩:=b;obtain⟨e,rfl⟩:=c;exact PySem.P.gt_str ⟨.bl _,H,I,rfl,q⟩
theorem ZOE:OpR X (vQ .GtE) (λx y H Q=>∃i j,x=.str i/\y=.str j/\Q (.bl (!decide (i.cps.toList<j.cps.toList))) H):=by intro a s d H x y v u Q I b c h;obtain⟨i,j,rfl,rfl,q⟩:=h;obtain⟨t,rfl⟩:=b;obtain⟨e,rfl⟩:=c;exact PySem.P.ge_str ⟨.bl _,H,I,rfl,q⟩
theorem o_le:OpR X (vQ .LtE) (lR2 X.K E Ii):=Ex (ZJZ.or ZND) λa G d e x y Q hk s b c q=>by
 cases d<;>cases e<;>first
  |exact q.elim
  |exact .inl ⟨_,_,b,c,q a _ (.refl a) s rfl⟩
  |exact .inr ⟨_,_,b,c,q a _ (.refl a) s rfl⟩
theorem o_gt:OpR X (vQ .Gt) (lR2 X.K E Oi):=Ex (ZNB.or ZPD) λa G d e x y Q hk s b c q=>by
 cases d<;>cases e<;>first
  |exact q.elim
  |exact .inl ⟨_,_,b,c,q a _ (.refl a) s rfl⟩
  |exact .inr ⟨_,_,b,c,q a _ (.refl a) s rfl⟩
theorem o_ge:OpR X (vQ .GtE) (lR2 X.K E Uw):=Ex (ZH9.or ZOE) λa G d e x y Q hk s b c q=>by
 cases d<;>cases e<;>first
  |exact q.elim
  |exact .inl ⟨_,_,b,c,q a _ (.refl a) s rfl⟩
  |exact .inr ⟨_,_,b,c,q a _ (.refl a) s rfl⟩
theorem Sim.lst(s:Sim a G)(h:G[i]?=u7 (.lst xs)):∃vs,a.H (a.m i)=u7 (.lst vs)/\Reps a xs vs:=s.obj i _ h
theorem Jq{E:XK}(s:Sim a G)(r:Reps a ds vs)(h:out E a (.ok (.ref G.length) (G++[.lst ds])) Q)(p:xy)(hp:a.H p=u8):Q (.ref p) (upd a.H p (.lst vs)):=by
 refine h (a.push p (.lst vs)) (.ref p) (.push hp) (s.push hp ⟨vs,rfl,r.mono (.push hp)⟩) ⟨?_,?_⟩
 .rw[s.len];exact qZ _
 rw[s.len];show V.ref p=.ref (if a.n=a.n then p else a.m a.n);rw[if_pos rfl]
theorem X8{E:XK}(s:Sim a G)(r:Reps a ds vs)(h:out E a (.ok (.tup ds) G) Q)(p:xy)(hp:a.H p=u8):Q (.ref p) (upd a.H p (.tup vs)):=
 h (a.put p (.tup vs)) (.ref p) (.put hp) (s.put hp) ⟨p,vs,rfl,.of Dy,r.mono (.put hp)⟩
theorem Rb(s:Sim a G)(r:Rep a d x)(h:Fy d G=u7 xs):∃p vs,x=.ref p/\SqL a.K a.H p vs/\Reps a xs vs:=by
 cases d with
 |fl j=>
  have e:=Option.some.inj h;subst e;obtain⟨p,vs,e,q,c⟩:=r;exact⟨p,vs,e,q.sq,c⟩
 |ref i=>
  unfold Fy at h;dsimp only at h;split at h
  .rename_i j f;have e:=Option.some.inj h;subst e;obtain⟨vs,b,g⟩:=s.lst f;exact⟨a.m i,vs,r.2,.of b,g⟩
  cases h
 |_=>cases h
noncomputable def ZDl(K:za):R2:=λx y H Q=>∃l b xs zs,x=.ref l/\y=.ref b/\SqL K H l xs/\SqL K H b zs/\xs.length+zs.length<=sizeLine/\∀p,H p=u8->Q (.ref p) (upd H p (.lst (xs++zs)))
theorem ZNF:OpR X (xR .Add) (ZDl X.K):=by
 intro t s σ H x y v u Q I B U h;obtain⟨l,b,Z,W,rfl,rfl,J,A,Y,q⟩:=h;cases B;cases U;obtain⟨c,r,P,_⟩:=I.list J;obtain⟨a,m,C,_⟩:=I.list A;obtain⟨⟨N,M,k,w⟩,n,p,L,_,O⟩:=P;obtain⟨⟨o,j,e,f⟩,z,d,g,_,i⟩:=C;cases L;cases O;cases g;cases i;have hl:=r.length;have S:=m.length;refine concat_meets ⟨_,p,rfl⟩ ⟨_,d,rfl⟩ noFill_list_add seq_list_add PySem.F.slot_list_add PySem.F.entry_list_add (PySem.F.args_list_add_2 _ _) (list_addW l b c.toArray a.toArray n z M j w f (by rw[zK,zK];lia)) ⟨p,d,?_⟩
 have T:c.toArray++a.toArray=(c++a).toArray:=by simp
 rw[T];exact⟨.ref _,_,I.lnew (r.append m) (by rw[zP];lia),rfl,q _ I.fresh⟩
theorem ZPZ:OpR X (xR .Add) (lR2 X.K E I8):=Ex (ZQY.or (ZOC.or (ZNF.or ZRO))) λa G d e x y Q hk s rd re q=>by
 have lst:out E a (match Fy d G,Fy e G with
  |some xs,u7 ys=>if xs.length+ys.length<=1000000 then .ok (.ref G.length) (G++[.lst (xs++ys)])else .bad
  |_,_=>.bad) Q->ZDl X.K x y a.H Q:=λq=>by
  split at q
  .rename_i xs ys h1 h2;split at q
   .rename_i hl;obtain⟨p,vs,e1,q1,r1⟩:=Rb s rd h1;obtain⟨p',vs',e2,q2,r2⟩:=Rb s re h2;rw[hk]at q1 q2;exact⟨p,p',vs,vs',e1,e2,q1,q2,by rw[<-r1.length,<-r2.length];exact z6 hl size6,λp hp=>Jq s (r1.append r2) q p hp⟩
   exact q.elim
  exact q.elim
 cases d<;>cases e<;>first
  |exact .inl ⟨_,_,rd,re,q a _ (.refl a) s rfl⟩
  |exact(λq=>Or.inr (Or.inr (Or.inl (lst q)))) q
  |skip
 .rename_i i j;unfold I8 at q;dsimp only at q;split at q
  .rename_i hl;exact .inr (.inl ⟨_,_,rd,re,z6 hl size6,q a _ (.refl a) s rfl⟩)
  exact q.elim
 .rename_i xs ys;unfold I8 at q;dsimp only at q;split at q
  .rename_i hl;obtain⟨p,vs,e1,h1,r1⟩:=rd;obtain⟨p',vs',e2,h2,r2⟩:=re;rw[hk]at h1 h2;refine .inr (.inr (.inr ⟨p,p',vs,vs',e1,e2,h1,h2,λz=>hl.1 (jK (by rw[r1.length,z];rfl)),by rw[<-r1.length,<-r2.length];exact z6 hl.2 size6,λz=>?_,λ_ p0 hp=>(X8 s (r1.append r2) q p0 hp)⟩))
   .refine q a (.ref p) (.refl a) s ⟨p,vs,rfl,hk▸h1,?_⟩;have e3:=jK (by rw[r2.length,z];rfl);rw[e3,qV];exact r1
  exact q.elim
inductive VD where
 |flat (v:V)
 |lst (xs:List D)
 |tup (xs:List D)
 |bad
noncomputable def view(G:DH):D->VD
 |.non=>.flat .non
 |.bl b=>.flat (.bl b)
 |.int i=>.flat (.int i)
 |.str x=>.flat (.str x)
 |.ty _=>.bad
 |.tup xs=>.tup xs
 |.fl xs=>.lst xs
 |.ref i=>match G[i]? with
  |some (.lst xs)=>.lst xs
  |_=>.bad
noncomputable def eqZ(f:D->D->Option Bool):List D->List D->Option Bool
 |x::xs,y::ys=>match f x y,eqZ f xs ys with
  |some a,u7 b=>u7 (a&&b)
  |_,_=>u8
 |_,_=>u7 u9
def eqD:Nat->DH->D->D->Option Bool
 |0=>λ_ _ _=>u8
 | n+1=>λG d e=>match view G d,view G e with
  |.flat a,.flat b=>u7 (eqV a b)
  |.lst xs,.lst ys=>if xs.length=ys.length then eqZ (eqD n G) xs ys else u7 uA
  |.tup xs,.tup ys=>match eqZ (eqD n G) xs ys with
   |some b=>u7 (b&&xs.length==ys.length)
   |none=>u8
  |.bad,_=>u8
  |_,.bad=>u8
  |_,_=>u7 uA
theorem Vf:∀{xs ys:List D}{k:Bool},eqZ f xs ys=u7 k->∃e:Nat->Bool,(∀(j:Nat)(x y:D),xs[j]?=u7 x->ys[j]?=u7 y->f x y=u7 (e j))/\k=(zZ (min xs.length ys.length)).all e
 | [],ys,k,h=>⟨λ_=>u9,λj x y c _=>by simp at c,by
   have d:u7 u9=u7 k:=by cases ys<;>exact h
   cases d;simp⟩
 |x::xs,[],k,h=>⟨λ_=>u9,λj x y _ c=>by simp at c,by have d:=h;cases d;simp⟩
 | x::xs,y::ys,k,h=>by
  unfold eqZ at h;split at h
  .rename_i a b i l;obtain⟨e,n,hk⟩:=Vf l
   refine⟨λj=>match j with |0=>a|j+1=>e j,λj o m c g=>?_,?_⟩
   .cases j with
    |zero=>simp at c g;subst c;subst g;exact i
    |succ j=>exact n j o m (by simpa using c) (by simpa using g)
   rw[<-(Option.some.inj h),hk];have:min (x::xs).length (y::ys).length=min xs.length ys.length+1:=by simp only[zL];lia
   rw[this,qT,qE,List.all_map]
   rfl
  cases h
theorem W9(s:Sim a G)(r:Rep a d x):match view G d with
  |.flat v=>x=v/\Cp v=u9
  |.lst g=>∃p c,x=.ref p/\SqL a.K a.H p c/\Reps a g c
  |.tup g=>∃p c,x=.ref p/\SqT a.K a.H p c/\Reps a g c
  |.bad=>True:=by
 cases d with
 |ty n=>trivial
 |tup g=>
  obtain⟨p,c,e,h,q⟩:=r;exact⟨p,c,e,h,q⟩
 |fl g=>
  obtain⟨p,c,e,h,q⟩:=r;exact⟨p,c,e,h.sq,q⟩
 | ref i=>
  unfold view;dsimp only;split
  .rename_i v f
   split at f<;>cases f
  .rename_i g f;split at f
   .rename_i o k;cases f;obtain⟨c,j,l⟩:=s.lst k;exact⟨a.m i,c,r.2,.of j,l⟩
   cases f
  .rename_i g f
   split at f<;>cases f
  trivial
 |_=>exact⟨r,rfl⟩
theorem ZN7(f:RelV y u)(c:RelV x v)(g:Cp y=u9)(e:Cp x=u9):SeqAt.RcAt A s u v (eqV y x):=by
 cases y with
 |non=>
  cases f;cases x with
  |non=>cases c;exact .none_none
  |bl b=>cases c;exact .none_bool b
  |int b=>obtain⟨t,rfl⟩:=c;exact .none_int b t
  |str b=>obtain⟨t,rfl⟩:=c;exact .none_str b t
  |_=>exact absurd (e) zy
 |bl a=>
  cases f;cases x with
  |non=>cases c;exact .bool_none a
  |bl b=>cases c;exact .bool_bool a b
  |int b=>obtain⟨t,rfl⟩:=c;exact .bool_int a b t
  |str b=>obtain⟨t,rfl⟩:=c;exact .bool_str a b t
  |_=>exact absurd (e) zy
 |int a=>
  obtain⟨d,rfl⟩:=f;cases x with
  |non=>cases c;exact .int_none a d
  |bl b=>cases c;exact .int_bool a d b
  |int b=>obtain⟨t,rfl⟩:=c;exact .int_int a d b t
  |str b=>obtain⟨t,rfl⟩:=c;exact .int_str a d b t
  |_=>exact absurd (e) zy
 |str a=>
  obtain⟨d,rfl⟩:=f;cases x with
  |non=>cases c;exact .str_none a d
  |bl b=>cases c;exact .str_bool a d b
  |int b=>obtain⟨t,rfl⟩:=c;exact .str_int a d b t
  |str b=>obtain⟨t,rfl⟩:=c;exact .str_str a d b t
  |_=>exact absurd (e) zy
 |_=>exact absurd (g) zy
theorem ZRj(f:RelV y u)(c:RelV x v)(g:Cp y=u9)(e:Cp x=u9):SeqAt.RcNeAt A s u v (!eqV y x):=by
 cases y with
 |non=>
  cases f;cases x with
  |non=>cases c;exact .none_none
  |bl b=>cases c;exact .none_bool b
  |int b=>obtain⟨t,rfl⟩:=c;exact .none_int b t
  |str b=>obtain⟨t,rfl⟩:=c;exact .none_str b t
  |_=>exact absurd (e) zy
 |bl a=>
  cases f;cases x with
  |non=>cases c;exact .bool_none a
  |bl b=>cases c;exact .bool_bool a b
  |int b=>obtain⟨t,rfl⟩:=c;exact .bool_int a b t
  |str b=>obtain⟨t,rfl⟩:=c;exact .bool_str a b t
  |_=>exact absurd (e) zy
 |int a=>
  obtain⟨d,rfl⟩:=f;cases x with
  |non=>cases c;exact .int_none a d
  |bl b=>cases c;exact .int_bool a d b
  |int b=>obtain⟨t,rfl⟩:=c;exact .int_int a d b t
  |str b=>obtain⟨t,rfl⟩:=c;exact .int_str a d b t
  |_=>exact absurd (e) zy
 |str a=>
  obtain⟨d,rfl⟩:=f;cases x with
  |non=>cases c;exact .str_none a d
  |bl b=>cases c;exact .str_bool a d b
  |int b=>obtain⟨t,rfl⟩:=c;exact .str_int a d b t
  |str b=>obtain⟨t,rfl⟩:=c;exact .str_str a d b t
  |_=>exact absurd (e) zy
 |_=>exact absurd (g) zy
end
section
variable{X:Cx}{E:XK}{vP:List (xy×Obj)}{σ:St}{s:xF}
theorem ZJ5(v:V)(h:Cp v=u9):eqV v v=u9:=by cases v<;>first|rfl|exact absurd (h) zy|(simp[eqV])
theorem ZC3(I:Inv X vP σ a.H s)(hk:a.K=X.K)(L:Sim a G):∀(n:Nat){d e:D}{x:V}{k:Bool},Rep a d x->Rep a e x->eqD n G d e=u7 k->k=u9
 |0,_,_,_,_,_,_,h=>by cases h
 | n+1,d,e,x,k,T,P,h=>by
  have m:=W9 L T;have o:=W9 L P;have r:∀{B A:List D}{q:List V}{b:Bool},Reps a B q->Reps a A q->eqZ (eqD n G) B A=u7 b->b=u9:=λ{B A q b}y t F=>by obtain⟨f,Q,S⟩:=Vf F;rw[S,q9];intro j W;have N:=qw.mp W;have l:B[j]?=u7 (B[j]'(by lia)):=zJ (by lia);have g:A[j]?=u7 (A[j]'(by lia)):=zJ (by lia);obtain⟨Z,c,M⟩:=y.get l;obtain⟨v2,i,O⟩:=t.get g;rw[c]at i;cases i;exact ZC3 I hk L n M O (Q j _ _ l g)
  unfold eqD at h
  try dsimp only at h
  revert h m o
  cases view G d<;>cases view G e<;>intro m o h<;>dsimp only at h m o<;>first
   |cases h
   |skip
  .
   rename_i v w;obtain⟨rfl,u⟩:=m;obtain⟨rfl,Y⟩:=o;exact ZJ5 _ u
  .obtain⟨rfl,u⟩:=m;obtain⟨p,q,c,_⟩:=o;subst c;cases u
  .obtain⟨rfl,u⟩:=m;obtain⟨p,q,c,_⟩:=o;subst c;cases u
  .obtain⟨rfl,u⟩:=o;obtain⟨p,q,c,_⟩:=m;subst c;cases u
  .obtain⟨p,q,c,l,y⟩:=m;obtain⟨J,z,i,g,t⟩:=o;rw[c]at i;cases i;rw[hk]at l g;cases I.ZAk l g;split at h
   .exact r y t h
   rename_i U;exact absurd (y.length.trans t.length.symm) U
  .obtain⟨p,q,c,l,y⟩:=m;obtain⟨J,z,i,g,t⟩:=o;rw[c]at i;cases i;rw[hk]at l g;obtain⟨_,_,C,_⟩:=I.list l;obtain⟨_,_,pt,_⟩:=I.tuple g;exact absurd rfl (wE C.isList pt)
  .obtain⟨rfl,u⟩:=o;obtain⟨p,q,c,_⟩:=m;subst c;cases u
  .obtain⟨p,q,c,l,y⟩:=m;obtain⟨J,z,i,g,t⟩:=o;rw[c]at i;cases i;rw[hk]at l g;obtain⟨_,_,C,_⟩:=I.list g;obtain⟨_,_,pt,_⟩:=I.tuple l;exact absurd rfl (wE C.isList pt)
  obtain⟨p,q,c,l,y⟩:=m;obtain⟨J,z,i,g,t⟩:=o;rw[c]at i;cases i;rw[hk]at l g;cases I.Xd l g;split at h
  .rename_i b F;rw[<-(Option.some.inj h),r y t F,y.length,t.length];simp
  cases h
theorem Ub(r:Reps a xs vs)(q:Vals vs its)(h:j<its.toArray.size):∃d v,xs[j]?=u7 d/\Rep a d v/\RelV v its.toArray[j]:=by
 have b:j<its.length:=by simpa using h
 have i:=q.length▸b;obtain⟨v,c⟩:∃v,vs[j]?=u7 v:=⟨vs[j],zJ i⟩;obtain⟨d,l,f⟩:=r.get' c;obtain⟨u,e,g⟩:=q.get c;have k:u=its.toArray[j]:=by have:=zJ b;rw[this]at e;simpa using(Option.some.inj e).symm
 exact⟨d,v,l,f,by rw[<-k];exact g⟩
theorem Q5(I:Inv X vP σ a.H s)(hk:a.K=X.K)(sm:Sim a G):∀(n:Nat){A:x0}{d e:D}{x y:V}{u w:xH}{k:Bool},A.units+n<cLine->Rep a d x->Rep a e y->RelV x u->RelV y w->eqD n G d e=u7 k->
  SeqAt.EqAt A s u w k/\SeqAt.RcAt A s u w k/\SeqAt.RcNeAt A s u w (!k)
 |0,_,_,_,_,_,_,_,_,_,_,_,_,_,h=>by cases h
 | n + 1,A,d,e,x,y,u,w,k,hu,rd,re,r,m,h=>by
  have L:=W9 sm rd;have M:=W9 sm re;have c:A.units<cLine:=by lia
  have hu2:A.in1.units+n<cLine:=by show A.units+1+n<cLine;lia
  have F:∀{z:V},Rep a d z->Rep a e z->eqD (n+1) G d e=u7 k->k=u9:=λS C r3=>ZC3 I hk sm (n+1) S C r3
  have h0:=h;unfold eqD at h
  try dsimp only at h
  have O:∀{p q:xy}{k:Bool},(p=q->k=u9)->SeqAt.RcAt A s (.ref p) (.ref q) k->SeqAt.EqAt A s (.ref p) (.ref q) k:=λ{p q k}hs hr=>by
   by_cases e:p=q
   .rw[hs e,e];exact .same _
   exact .of_refs e hr
  revert h L M
  cases hvd:view G d<;>cases hve:view G e<;>intro L M h<;>dsimp only at h L M<;>first
   |cases h
   |skip
  .
   obtain⟨rfl,N⟩:=L;obtain⟨rfl,f2⟩:=M;exact⟨ZFM r m N f2,ZN7 r m N f2,ZRj r m N f2⟩
  .
   obtain⟨rfl,N⟩:=L;obtain⟨q,Y,rfl,o,C⟩:=M;cases m;rw[hk]at o;obtain⟨l,qv,g,_⟩:=I.list o;cases x with
   |non=>cases r;exact⟨.none_list g.isList c,.none_list g.isList c,.none_list g.isList c⟩
   |bl b=>cases r;exact⟨.bool_list b g.isList c,.bool_list b g.isList c,.bool_list b g.isList c⟩
   |int b=>obtain⟨t,rfl⟩:=r;exact⟨.int_list b t g.isList c,.int_list b t g.isList c,.int_list b t g.isList c⟩
   |str b=>obtain⟨t,rfl⟩:=r;exact⟨.str_list b t g.isList c,.str_list b t g.isList c,.str_list b t g.isList c⟩
   |_=>exact absurd (N) zy
  .
   obtain⟨rfl,N⟩:=L;obtain⟨q,Y,rfl,o,C⟩:=M;cases m;rw[hk]at o;obtain⟨l,qv,g,_⟩:=I.tuple o;cases x with
   |non=>cases r;exact⟨.none_tuple g c,.none_tuple g c,.none_tuple g c⟩
   |bl b=>cases r;exact⟨.bool_tuple b g c,.bool_tuple b g c,.bool_tuple b g c⟩
   |int b=>obtain⟨t,rfl⟩:=r;exact⟨.int_tuple b t g c,.int_tuple b t g c,.int_tuple b t g c⟩
   |str b=>obtain⟨t,rfl⟩:=r;exact⟨.str_tuple b t g c,.str_tuple b t g c,.str_tuple b t g c⟩
   |_=>exact absurd (N) zy
  .
   obtain⟨rfl,N⟩:=M;obtain⟨q,Y,rfl,o,C⟩:=L;cases r;rw[hk]at o;obtain⟨l,qv,g,_⟩:=I.list o;cases y with
   |non=>cases m;exact⟨.list_none g.isList c,.list_none g.isList c,.list_none g.isList c⟩
   |bl b=>cases m;exact⟨.list_bool b g.isList c,.list_bool b g.isList c,.list_bool b g.isList c⟩
   |int b=>obtain⟨t,rfl⟩:=m;exact⟨.list_int b t g.isList c,.list_int b t g.isList c,.list_int b t g.isList c⟩
   |str b=>obtain⟨t,rfl⟩:=m;exact⟨.list_str b t g.isList c,.list_str b t g.isList c,.list_str b t g.isList c⟩
   |_=>exact absurd (N) zy
  .
   obtain⟨p,Y,rfl,Q,S⟩:=L;obtain⟨q,W,rfl,o,C⟩:=M;cases r;cases m;rw[hk]at Q o;obtain⟨l,Z,B,_⟩:=I.list Q;obtain⟨i,q2,v,_⟩:=I.list o;have P:=zK▸Z.length.symm;have U:=zK▸q2.length.symm;split at h
   .rename_i hl;obtain⟨f,hf,hb⟩:=Vf h;have J:l.toArray.size=i.toArray.size:=by rw[P,U,<-S.length,<-C.length];exact hl
    have he:∀j(g1:j<l.toArray.size)(g2:j<i.toArray.size),SeqAt.EqAt A.in1 s l.toArray[j] i.toArray[j] (f j):=λj g1 g2=>by obtain⟨d1,v1,e1,rd1,rv1⟩:=Ub S Z g1;obtain⟨d2,v2,e2,rd2,rv2⟩:=Ub C q2 g2;exact(Q5 I hk sm n hu2 rd1 rd2 rv1 rv2 (hf j d1 d2 e1 e2)).1
    have T:k=(zZ l.toArray.size).all f:=by
     rw[hb]
     congr 2
     rw[P,<-S.length,hl];lia
    have rc:SeqAt.RcAt A s (.ref p) (.ref q) k:=T ▸ .lists B.isList v.isList J c he;refine⟨O (λe=>?_) rc,rc,T ▸ .lists B.isList v.isList J c he⟩;subst e;exact F rd re h0
   rename_i hl;have h':=Option.some.inj h;subst h';have J:(l.toArray.size != i.toArray.size)=u9:=by rw[bne_iff_ne,P,U,<-S.length,<-C.length];exact hl
   refine⟨O (λe=>?_) (.lists_lengths B.isList v.isList J c),.lists_lengths B.isList v.isList J c,.lists_lengths B.isList v.isList J c⟩;subst e;exact F rd re h0
  .
   obtain⟨p,Y,rfl,Q,S⟩:=L;obtain⟨q,W,rfl,o,C⟩:=M;cases r;cases m;rw[hk]at Q o;obtain⟨l,Z,B,_⟩:=I.list Q;obtain⟨i,q2,v,_⟩:=I.tuple o;exact⟨.list_tuple B.isList v c,.list_tuple B.isList v c,.list_tuple B.isList v c⟩
  .
   obtain⟨rfl,N⟩:=M;obtain⟨q,Y,rfl,o,C⟩:=L;cases r;rw[hk]at o;obtain⟨l,qv,g,_⟩:=I.tuple o;cases y with
   |non=>cases m;exact⟨.tuple_none g c,.tuple_none g c,.tuple_none g c⟩
   |bl b=>cases m;exact⟨.tuple_bool b g c,.tuple_bool b g c,.tuple_bool b g c⟩
   |int b=>obtain⟨t,rfl⟩:=m;exact⟨.tuple_int b t g c,.tuple_int b t g c,.tuple_int b t g c⟩
   |str b=>obtain⟨t,rfl⟩:=m;exact⟨.tuple_str b t g c,.tuple_str b t g c,.tuple_str b t g c⟩
   |_=>exact absurd (N) zy
  .
   obtain⟨p,Y,rfl,Q,S⟩:=L;obtain⟨q,W,rfl,o,C⟩:=M;cases r;cases m;rw[hk]at Q o;obtain⟨l,Z,B,_⟩:=I.tuple Q;obtain⟨i,q2,v,_⟩:=I.list o;exact⟨.tuple_list B v.isList c,.tuple_list B v.isList c,.tuple_list B v.isList c⟩
  rename_i xs ys;obtain⟨p,Y,rfl,Q,S⟩:=L;obtain⟨q,W,rfl,o,C⟩:=M;cases r;cases m;rw[hk]at Q o;obtain⟨l,Z,B,_⟩:=I.tuple Q;obtain⟨i,q2,v,_⟩:=I.tuple o;have P:l.toArray.size=xs.length:=by rw[zK,S.length];exact Z.length.symm
  have U:i.toArray.size=ys.length:=by rw[zK,C.length];exact q2.length.symm
  split at h
  .rename_i b hz;obtain⟨f,hf,hb⟩:=Vf hz;have he:∀j(g1:j<l.toArray.size)(g2:j<i.toArray.size),SeqAt.EqAt A.in1 s l.toArray[j] i.toArray[j] (f j):=λj g1 g2=>by obtain⟨d1,v1,e1,rd1,rv1⟩:=Ub S Z g1;obtain⟨d2,v2,e2,rd2,rv2⟩:=Ub C q2 g2;exact(Q5 I hk sm n hu2 rd1 rd2 rv1 rv2 (hf j d1 d2 e1 e2)).1
   have T:k=((zZ (min l.toArray.size i.toArray.size)).all f&&l.toArray.size==i.toArray.size):=by rw[<-(Option.some.inj h),hb,P,U]
   have rc:SeqAt.RcAt A s (.ref p) (.ref q) k:=T ▸ .tuples B v c he;refine⟨O (λe=>?_) rc,rc,T ▸ .tuples B v c he⟩;subst e;exact F rd re h0
  cases h
def Hj(d e:D)(G:DH):R D:=match eqD 30 G d e with
 |some k=>.ok (.bl k) G
 |none=>.bad
def Eg(d e:D)(G:DH):R D:=match eqD 30 G d e with
 |some k=>.ok (.bl (!k)) G
 |none=>.bad
theorem o_eq(n:X.A.units+64<cLine):OpR X (vQ .Eq) (lR2 X.K E Hj):=by
 intro b s m H x y v u Q I g l ⟨a,G,d,e,hk,j,c,f,i,q⟩;subst j;unfold Hj at q;split at q
 .rename_i k h;exact(Q5 I hk c 30 (by lia) f i g l h).2.1 _ _ _ _ ⟨.bl k,a.H,I,rfl,q a _ (.refl a) c rfl⟩
 exact q.elim
theorem o_ne(n:X.A.units+64<cLine):OpR X (vQ .NotEq) (lR2 X.K E Eg):=by
 intro b s m H x y v u Q I g l ⟨a,G,d,e,hk,j,c,f,i,q⟩;subst j;unfold Eg at q;split at q
 .rename_i k h;exact(Q5 I hk c 30 (by lia) f i g l h).2.2 _ _ _ _ ⟨.bl (!k),a.H,I,rfl,q a _ (.refl a) c rfl⟩
 exact q.elim
end
abbrev DG:=D->DSt->DH->R DSt
def Ep(E:XK)(a:Wd)(r:R DSt)(Q:St->Hp->Prop):Prop:=match r with
 |.ok S G=>∀(b:Wd)(σ:St),Ext a b->Sim b G->RepS b S σ->Q σ b.H
 |.err x G=>XOk E a x G
 |.bad=>False
def lG(K:za)(E:XK)(t:DG):TG:=λv σ H Q=>PG3 K σ H v Rep λa S G d=>Ep E a (t d S G) Q
def QG(X:Cx)(E:XK)(tg:xA)(t:DG):Prop:=PG X tg (lG X.K E t)
abbrev DGs:=List D->DSt->DH->R DSt
def lGs(K:za)(E:XK)(t:DGs):TGs:=λvs σ H Q=>PG3 K σ H vs Reps λa S G ds=>Ep E a (t ds S G) Q
def QGs(X:Cx)(E:XK)(tg:List xA)(t:DGs):Prop:=PGs X tg (lGs X.K E t)
def gV(i:Nat):DG:=λd S G=>.ok (S.set i (u7 d)) G
def Al:DGs:=λds S G=>match ds with
 |[]=>.ok S G
 |_=>.bad
def Ab(t:DG)(u:DGs):DGs:=λds S G=>match ds with
 |d::r=>(t d S G).bind λS1 G1=>u r S1 G1
 |[]=>.bad
def Aj(n:Nat)(t:DGs):DG:=λd S G=>match d with
 |.tup ds=>if ds.length=n then t ds S G else .bad
 |_=>.bad
theorem Ep.imp(h:Ep E a r Q)(w:∀v H,Q v H->Q' v H):Ep E a r Q':=by
 cases r with
 |ok d G=>exact λb v x s q=>w _ _ (h b v x s q)
 |_=>exact h
theorem Ep.mono(x:Ext a b)(h:Ep E a r Q):Ep E b r Q:=by
 cases r with
 |ok d G=>exact λc v y s q=>h c v (x.trans y) s q
 |err e G=>exact XOk.mono x h
 |bad=>exact h
theorem ZNo(h:Ep E a (r.bind f) Q):
  Ep E a r (λc H=>PR3 a H r c RepS λb S G=>Ep E b (f S G) Q):=by
 cases r with
 |ok d G=>exact λb v x s q=>⟨b,d,G,rfl,x,s,q,rfl,Ep.mono x h⟩
 |_=>exact h
theorem ZDt(h:Ep E a (r.bind f) Q):
  out E a r (λv H=>PR3 a H r v Rep λb d G=>Ep E b (f d G) Q):=by
 cases r with
 |ok d G=>exact λb v x s q=>⟨b,d,G,rfl,x,s,q,rfl,Ep.mono x h⟩
 |_=>exact h
theorem ZEt(h:Bl E a (r.toS f) W):
  Ep E a r (λc H=>PR3 a H r c RepS λb S G=>Bl E b (f S G) W):=by
 cases r with
 |ok d G=>exact λb v x s q=>⟨b,d,G,rfl,x,s,q,rfl,Bl.mono x h⟩
 |_=>exact h
section
variable{X:Cx}{E:XK}
theorem _root_._L.PG.mono(h:PG X e t)(w:∀v a H Q,t' v a H Q->t v a H Q):PG X e t':=λb s a H v u Q I r q=>h b s a H v u Q I r (w v a H Q q)
theorem _root_._L.PGs.mono(h:PGs X e t)(w:∀v a H Q,t' v a H Q->t v a H Q):PGs X e t':=λb s a H v u Q I r q=>h b s a H v u Q I r (w v a H Q q)
theorem ZJQ(i:Nat){x:Str}{pos:Pos}(b:X.N.Nodup)(c:X.N[i]?=u7 x:=by rfl)(g:Loc X.env.scope x:=by first|exact Or.inl rfl|exact Or.inr rfl)
  (f:X.fn x=u9\/X.env.scope.names.lookup x=u7 .local:=by first|exact .inl rfl|exact .inr rfl|assumption):QG X E (.Name x pos) (gV i):=
 (ZQu b c g f).mono λv j H Q h=>by obtain⟨a,S,G,d,hk,rfl,s,r,q,h⟩:=h;exact h a _ (.refl a) s (r.set i q)
theorem ZRo:QGs X E [] Al:=ZIe.mono λf c H Q h=>by
 obtain⟨a,S,G,b,hk,rfl,s,r,q,h⟩:=h;cases b with
 |nil=>exact⟨q,h a c (.refl a) s r⟩
 |cons d b=>exact h.elim
theorem ZJR(c:QG X E e t)(n:QGs X E es u)
  (l:(xL (e::es) X.env).map (·.2)=assign e X.env::(xL es X.env).map (·.2):=by rfl):QGs X E (e::es) (Ab t u):=(ZJo c n l).mono λA z H Q h=>by
 obtain⟨a,S,G,f,hk,rfl,s,r,q,h⟩:=h;cases f with
 |nil=>exact h.elim
 |cons d f=>
  obtain⟨v,rest,j,i,p⟩:=q;refine⟨v,rest,j,a,S,G,d,hk,rfl,s,r,i,(ZNo h).imp ?_⟩;rintro m _ ⟨b,w,g,rfl,x,y,o,_,c⟩;exact⟨b,w,g,f,x.k.trans hk,rfl,y,o,p.mono x,c⟩
theorem ZKy{es:List xA}{k:Nat}{t:DGs}{n:Nat}{pos:Pos}(m:X.calm=u9)(h:QGs X E es t)
  (g:(xL es X.env).length=n:=by rfl) (b:(xL es X.env).findIdx? (·.1)=u8:=by rfl):QG X E (.Tuple es k pos) (Aj n t):=(ZQm m h g b).mono λv o H Q h=>by
 obtain⟨a,S,G,d,hk,rfl,s,r,q,h⟩:=h;cases d with
 |tup l=>
  obtain⟨p,j,e,i,c⟩:=q;unfold Aj at h;dsimp only at h;split at h
  .rename_i f;exact⟨p,j,e,by rw[<-hk];exact i,by rw[<-c.length];exact f,a,S,G,l,hk,rfl,s,r,c,h⟩
  exact h.elim
 |_=>exact h.elim
def Lp(o i v:D)(G:DH):R D:=match o,i with
 | .ref p,.int k=>match G[p]? with
  |some (.lst xs)=>match ixN xs.length k with
   |some j=>.ok .non (G.set p (.lst (xs.set j v)))
   |none=>.bad
  |_=>.bad
 |_,_=>.bad
def gIx(to ti:DE):DG:=λv S G=>(to S G).bind λo G1=>(ti S G1).bind λi G2=>(Lp o i v G2).bind λ_ G3=>.ok S G3
theorem Vz(s:Sim a G)(b:i<a.n)(h:a.H (a.m i)=u7 (.lst vs))(r:Reps a ds' vs'):
  Ext a (a.put (a.m i) (.lst vs'))/\Sim (a.put (a.m i) (.lst vs')) (G.set i (.lst ds')):=⟨.wr h,s.wr b h (r.mono (.wr h))⟩
theorem ZH8(ho:QE X E o to)(N:QE X E i ti)
  (O:∀v,assign (.Subscript o i pos) X.env v=(do
   let ov<-holding [v] (eval o X.env);let iv<-holding [v,ov] (eval i X.env)
   standAt pos
   holding [v,ov,iv] (setItem ov iv v)
   release [v,ov,iv] []):=by intro _;rfl):QG X E (.Subscript o i pos) (gIx to ti):=(ZQX ho N set_list O).mono λv L H Q h=>by
 obtain⟨a,S,G,d,hk,rfl,s,r,q,h⟩:=h;refine⟨a,S,G,hk,rfl,s,r,(ZDt h).imp ?_⟩;rintro ov _ ⟨b,e,B,rfl,x,J,C,_,I⟩;refine⟨b,S,B,x.k.trans hk,rfl,J,r.mono x,(ZDt I).imp ?_⟩;rintro iv _ ⟨c,f,U,rfl,y,w,F,_,g⟩;cases e with
 | ref p=>
  cases f with
  | int k=>
   unfold Lp at g;dsimp only at g;split at g
   .rename_i W T;split at g
    .rename_i j M;obtain⟨K,n,A⟩:=w.lst T;have l:=C.mono y;obtain⟨z,P⟩:=Vz w l.1 n (A.set ((q.mono x).mono y) j);exact⟨c.m p,K,k,j,l.2,F,n,by rw[<-A.length];exact M,g _ L z P (((r.mono x).mono y).mono z)⟩
    exact g.elim
   exact g.elim
  |_=>exact g.elim
 |_=>exact g.elim
variable{st:xG}{rest:List xG}{t u:DS}{e:xA}{te:DE}{pos:Pos}
def sNx:DS:=λS G=>.nx S G
def Ae(t u:DS):DS:=λS G=>match t S G with
 |.nx S1 G1=>u S1 G1
 |r=>r
def sEx(te:DE):DS:=λS G=>(te S G).toS λ_ G1=>.nx S G1
def sRt(te:DE):DS:=λS G=>(te S G).toS λd G1=>.rt d G1
def sIf(c:DB)(t u:DS):DS:=λS G=>(c S G).toS λk G1=>if k=u9 then t S G1 else u S G1
def sAs(te:DE)(g:DG):DS:=λS G=>(te S G).toS λd G1=>(g d S G1).toS λS2 G2=>.nx S2 G2
def sAu(i:Nat)(te:DE)(f:D->D->DH->R D):DS:=λS G=>match S[i]? with
 |some (u7 x)=>(te S G).toS λy G1=>(f x y G1).toS λz G2=>.nx (S.set i (u7 z)) G2
 |_=>.bad
theorem Gu:QSs X E [] sNx:=ZMb.mono λW b H h=>by obtain⟨a,S,G,hk,rfl,s,r,h⟩:=h;exact h a b (.refl a) s r
theorem Bl.nxOf{E:XK}{a:Wd}{t u:DS}{S:DSt}{G:DH}{K:za}(hk:a.K=K){W:Ends}(h:Bl E a (Ae t u S G) W):Bl E a (t S G) {W with nx:=lS K E u W}:=by
 unfold Ae at h
 revert h
 cases t S G<;>intro h
 .exact λb c x s r=>⟨b,_,_,x.k.trans hk,rfl,s,r,Bl.mono x h⟩
 all_goals exact h
theorem Dc(c:QS X E st t)(b:QSs X E rest u):QSs X E (st::rest) (Ae t u):=(ZGi c b).mono λW d H h=>by obtain⟨a,S,G,hk,rfl,s,r,h⟩:=h;exact⟨a,S,G,hk,rfl,s,r,h.nxOf hk⟩
theorem Es(a:QS X E st t):QSs X E [st] t:=ZGh a
theorem ZRU(j:QE X E e te)(g:swapsWith e u8 pos.line X.env=pure uA:=by rfl):QS X E (.Expr e pos) (sEx te):=(ZHL j g).mono λW c H h=>by obtain⟨a,S,G,hk,rfl,s,r,h⟩:=h;refine⟨a,S,G,hk,rfl,s,r,(Gg h).imp ?_⟩;rintro v _ ⟨b,d,k,rfl,x,i,q,_,f⟩;exact f b c (.refl b) i (r.mono x)
theorem Tj(g:QE X E e te):QS X E (.Return (u7 e) pos) (sRt te):=(ZNI g).mono λW j H h=>by obtain⟨a,S,G,hk,rfl,s,r,h⟩:=h;refine⟨a,S,G,hk,rfl,s,r,(Gg h).imp ?_⟩;rintro v _ ⟨b,d,i,rfl,x,f,q,_,c⟩;exact c b v (.refl b) f q
theorem Gq(l:QT X E c tc)(j:QSs X E a t)(i:QSs X E b u):QS X E (.If c a b pos) (sIf tc t u):=(ZJz l j i).mono λW m H h=>by
 obtain⟨a,S,G,hk,rfl,s,r,h⟩:=h;refine⟨a,S,G,hk,rfl,s,r,(ZD5 h).imp ?_⟩;rintro k _ ⟨b,d,rfl,x,g,_,f⟩;cases k with
 |_=>exact⟨b,S,d,x.k.trans hk,rfl,g,r.mono x,f⟩
theorem ZKA{K:za}{g:DG}{W:Ends}{i:St}{H:Hp}(h:lS K E (sAs te g) W i H):Xj (lE K E te) (lG K E g) W i H:=by obtain⟨a,S,G,hk,rfl,s,r,h⟩:=h;refine⟨a,S,G,hk,rfl,s,r,(Gg h).imp ?_⟩;rintro v _ ⟨b,d,j,rfl,x,p,q,_,l⟩;refine⟨b,S,j,d,x.k.trans hk,rfl,p,r.mono x,q,(ZEt l).imp ?_⟩;rintro f _ ⟨c,z,w,rfl,y,n,o,_,m⟩;exact m c f (.refl c) n o
theorem ZJw(a:QE X E e te)(d:QG X E tg g)(b:swapsWithSole [tg] e pos.line X.env=pure uA:=by rfl)(hw:swappedStores [tg] e X.env=pure u8:=by rfl)
  (c:(xL [tg] X.env).map (·.2)=[assign tg X.env]:=by rfl):QS X E (.Assign [tg] e pos) (sAs te g):=(ZNb a d b hw c).mono λ_ _ _ h=>ZKA h
theorem Ye(i:Nat){x:Str}{c:Pos}(g:X.N.Nodup)(n:QE X E e te)(k:X.N[i]?=u7 x:=by rfl)(o:Loc X.env.scope x:=by first|exact Or.inl rfl|exact Or.inr rfl)(j:swapsWith e (u7 (.Name x c)) pos.line X.env=pure uA:=by rfl)
  (m:X.fn x=u9\/X.env.scope.names.lookup x=u7 .local:=by first|exact .inl rfl|exact .inr rfl|assumption):QS X E (.Assign [.Name x c] e pos) (sAs te (gV i)):=
 (ZM8 g k o n j m).mono λW w H h=>by obtain⟨a,S,G,hk,rfl,s,r,h⟩:=h;refine⟨a,S,G,hk,rfl,s,r,(Gg h).imp ?_⟩;rintro v _ ⟨b,d,p,rfl,x,l,q,_,f⟩;exact f b _ (.refl b) l ((r.mono x).set i q)
theorem ZLF(i:Nat){x:Str}{op:Operator}{f:D->D->DH->R D}{g:Pos}(J:X.N.Nodup)(I:QE X E e te)(ho:OpR X (inplaceOp op) (lR2 X.K E f))(M:X.N[i]?=u7 x:=by rfl)(O:Loc X.env.scope x:=by first|exact Or.inl rfl|exact Or.inr rfl)
  (o:X.fn x=u9\/X.env.scope.names.lookup x=u7 .local:=by first|exact .inl rfl|exact .inr rfl|assumption):QS X E (.AugAssign (.Name x g) op e pos) (sAu i te f):=
 (ZMA J M O I ho o).mono λW Q H h=>by
  obtain⟨a,S,G,hk,rfl,s,r,h⟩:=h;unfold sAu at h;split at h
  .rename_i d L;obtain⟨v,A,q⟩:=r.get i d L;refine⟨v,A,a,S,G,hk,rfl,s,r,(Gg h).imp ?_⟩;rintro w _ ⟨b,C,j,rfl,x,F,l,_,p⟩;refine⟨b,j,d,C,x.k.trans hk,rfl,F,q.mono x,l,(Gg p).imp ?_⟩;rintro z _ ⟨c,T,P,rfl,y,B,n,_,m⟩;exact m c _ (.refl c) B (((r.mono x).mono y).set i n)
  exact h.elim
noncomputable def Kc:D->D->DH->R D
 |.int i,.int j,G=>.ok (.int (i+j)) G
 |.str i,.str j,G=>if i.length+j.length<=1000000 then .ok (.str (i++j)) G else .bad
 |_,_,_=>.bad
theorem ZM9:OpR X (inplaceOp .Add) (lR2 X.K E Kc):=Ex (.or ZKF ZK2) λa G d e x y Q hk s rd re q=>by
 cases d<;>cases e<;>first
  |exact q.elim
  |exact .inl ⟨_,_,rd,re,q a _ (.refl a) s rfl⟩
  | (
    unfold Kc at q;dsimp only at q;split at q
    .rename_i hl;exact .inr ⟨_,_,rd,re,z6 hl size6,q a _ (.refl a) s rfl⟩
    exact q.elim)
theorem ZO8:OpR X (inplaceOp .Sub) (lR2 X.K E Og):=Ex ZPw λa G d e x y Q hk s b c q=>by
 cases d<;>cases e<;>first
  |exact q.elim
  |exact⟨_,_,b,c,q a _ (.refl a) s rfl⟩
end
noncomputable def aft(r:SR)(k:DSt->DH->SR)(_:Fx k:=()):SR:=match r with
 |.nx S G=>k S G
 |.ct S G=>k S G
 |.bk S G=>.nx S G
 |r=>r
def Aw(g:DG)(b:DS):List D->DS
 |[],S,G=>.nx S G
 |x::xs,S,G=>(g x S G).toS λS1 G1=>aft (b S1 G1) (Aw g b xs)
def forM(i:Nat)(g:DG)(b:DS):Nat->Nat->DS
 |0,j,S,G=>match G[i]? with
  |some (.lst xs)=>if xs.length<=j then .nx S G else .bad
  |_=>.bad
 | k+1,j,S,G=>match G[i]? with
  |some (.lst xs)=>match xs[j]? with
   |some x=>(g x S G).toS λS1 G1=>aft (b S1 G1) (forM i g b k (j+1))
   |none=>.nx S G
  |_=>.bad
def Cq(f:Nat->DH->Option (Option D))(g:DG)(b:DS):Nat->Nat->DS
 |0,j,S,G=>match f j G with
  |some u8=>.nx S G
  |_=>.bad
 |k+1,j,S,G=>match f j G with
  |some (u7 x)=>(g x S G).toS λS1 G1=>aft (b S1 G1) (Cq f g b k (j+1))
  |some u8=>.nx S G
  |none=>.bad
inductive ItD where
 |pure (xs:List D)
 |mt (i:Nat)
 |fn (n:Nat) (f:Nat->DH->Option (Option D))
abbrev DI:=DSt->DH->R ItD
def Bx(it:DI)(g:DG)(b:DS):DS:=λS G=>(it S G).toS λJ G1=>match J with
 |.pure xs=>Aw g b xs S G1
 |.mt i=>match G1[i]? with
  |some (.lst xs)=>forM i g b xs.length 0 S G1
  |_=>.bad
 |.fn n f=>Cq f g b n 0 S G1
def RepI(a:Wd):ItD->It->Prop
 |.pure xs,J=>∃vs:List V,Reps a xs vs/\∀b:Wd,Ext a b->∀i,(∀v,vs[i]?=u7 v->J.go i b.H/\∀x H',J.yld i b.H x H'->x=v/\H'=b.H)/\(vs.length<=i->J.stop i b.H)
 |.mt k,J=>k<a.n/\∀b:Wd,Ext a b->∀vs,b.H (b.m k)=u7 (.lst vs)->∀i,(∀v,vs[i]?=u7 v->J.go i b.H/\∀x H',J.yld i b.H x H'->x=v/\H'=b.H)/\(vs.length<=i->J.stop i b.H)
 |.fn _ f,J=>∀b:Wd,Ext a b->∀G,Sim b G->∀i,(∀d,f i G=u7 (u7 d)->J.go i b.H/\∀x H',J.yld i b.H x H'->∃c:Wd,c.H=H'/\Ext b c/\Sim c G/\Rep c d x)/\(f i G=u7 u8->J.stop i b.H)
def outI(E:XK)(a:Wd)(r:R ItD)(Q:It->Hp->Prop):Prop:=match r with
 |.ok J G=>∀(b:Wd)(JJ:It),Ext a b->Sim b G->RepI b J JJ->Q JJ b.H
 |.err x G=>XOk E a x G
 |.bad=>False
def lI(K:za)(E:XK)(t:DI):TI:=λσ H Q=>PS3 K σ H λa S G=>outI E a (t S G) Q
def QI(X:Cx)(E:XK)(tg iter:xA)(t:DI):Prop:=PI X tg iter (lI X.K E t)
theorem outI.imp(h:outI E a r Q)(w:∀v H,Q v H->Q' v H):outI E a r Q':=by
 cases r with
 |ok d G=>exact λb v x s q=>w _ _ (h b v x s q)
 |_=>exact h
theorem ZL4(h:Bl E a (r.toS f) W):
  outI E a r (λJ H=>PR3 a H r J RepI λb d G=>Bl E b (f d G) W):=by
 cases r with
 |ok d G=>exact λb v x s q=>⟨b,d,G,rfl,x,s,q,rfl,Bl.mono x h⟩
 |_=>exact h
theorem ZD0 (h:Bl E a (aft r k) W):
  Bl E a r {W with
            nx:=λc H=>∃(b:Wd)(S:DSt)(G:DH),b.H=H/\Ext a b/\Sim b G/\RepS b S c/\Bl E b (k S G) W,
            ct:=λc H=>∃(b:Wd)(S:DSt)(G:DH),b.H=H/\Ext a b/\Sim b G/\RepS b S c/\Bl E b (k S G) W,bk:=W.nx}:=by
 cases r with
 |nx S G|ct S G=>exact λb c x s q=>⟨b,S,G,rfl,x,s,q,Bl.mono x h⟩
 |_=>exact h
def mtF(i j:Nat)(G:DH):Option (Option D):=match G[i]? with
 |some (.lst xs)=>u7 xs[j]?
 |_=>u8
theorem ZBq(r:RepI a (.pure xs) J):RepI a (.fn n λj _=>u7 xs[j]?) J:=by
 obtain⟨p,c,h⟩:=r;refine λb x G o i=>⟨λd e=>?_,λe=>((h b x i).2 (by rw[<-c.length];exact jQ.mp (Option.some.inj e)))⟩
 .obtain⟨v,l,q⟩:=c.get (Option.some.inj e);obtain⟨g,k⟩:=(h b x i).1 v l;refine⟨g,λy f m=>?_⟩;obtain⟨rfl,rfl⟩:=k y f m;exact⟨b,rfl,.refl b,o,q.mono x⟩
theorem ZDx(r:RepI a (.mt k) J):RepI a (.fn n (mtF k)) J:=by
 obtain⟨hk,h⟩:=r;refine λb x G j i=>?_
 unfold mtF;cases t:G[k]? with
 |none=>exact⟨λd e=>(by cases e),λe=>(by cases e)⟩
 | some o=>
  cases o with
  |lst w=>
   obtain⟨f,c,g⟩:=j.lst t;refine⟨λd e=>?_,λe=>((h b x f c i).2 (by rw[<-g.length];exact jQ.mp (Option.some.inj e)))⟩
   .obtain⟨v,s,q⟩:=g.get (Option.some.inj e);obtain⟨m,p⟩:=(h b x f c i).1 v s;refine⟨m,λy l u=>?_⟩;obtain⟨rfl,rfl⟩:=p y l u;exact⟨b,rfl,.refl b,j,q⟩
  |_=>exact⟨λd e=>(by cases e),λe=>(by cases e)⟩
theorem ZDo{g:DG}{b:DS}{xs:List D}:∀(n j:Nat),j+n=xs.length->Aw g b (xs.drop j)=Cq (λj _=>u7 xs[j]?) g b n j
 |0,j,h=>by
  funext S G;rw[zU (by lia)]
  show SR.nx S G=(match u7 xs[j]? with |some u8=>.nx S G|_=>.bad)
  rw[z7 (by lia)]
 |n+1,j,h=>by
  funext S G;have d:j<xs.length:=by lia
  rw[zO d]
  show(g xs[j] S G).toS (λa c=>aft (b a c) (Aw g b (xs.drop (j+1))))=(match u7 xs[j]? with |some (u7 x)=>(g x S G).toS (λa c=>aft (b a c) (Cq (λj _=>u7 xs[j]?) g b n (j+1)))|some u8=>.nx S G|none=>.bad)
  rw[zJ d,ZDo n (j+1) (by lia)]
theorem ZFU:∀(n j:Nat),forM i g b n j=Cq (mtF i) g b n j
 | 0,j=>by
  funext S G;unfold forM Cq mtF;cases G[i]? with
  |none=>rfl
  | some o=>
   cases o with
   |lst a=>
    dsimp only;by_cases c:j<a.length
    .rw[if_neg (by lia),zJ c]
    rw[if_pos (by lia),z7 (by lia)]
   |_=>rfl
 | n+1,j=>by
  funext S G;unfold forM Cq;rw[ZFU n (j+1)];unfold mtF;cases G[i]? with
  |none=>rfl
  | some o=>
   cases o with
   |lst a=>
    dsimp only
    cases a[j]?<;>rfl
   |_=>rfl
section
variable{X:Cx}{E:XK}{tg iter:xA}{pos:Pos}
theorem ZOj{K:za}{it:DI}{g:DG}{b:DS}{W:Ends}{N:St}{H:Hp}(h:lS K E (Bx it g b) W N H):tFor (lI K E it) (lG K E g) (lS K E b) W N H:=by
 obtain⟨a,S,G,hk,rfl,s,r,h⟩:=h;refine⟨a,S,G,hk,rfl,s,r,(ZL4 h).imp ?_⟩;rintro J _ ⟨t,d,O,rfl,x1,s1,u,_,l⟩;have k1:=x1.k.trans hk
 suffices fnc:∃n f,RepI t (.fn n f) J/\Bl E t (Cq f g b n 0 S O) W by
  obtain⟨n,f,u,l⟩:=fnc;have walk:=u;refine⟨λi m N H=>∃(c:Wd)(S:DSt)(G:DH),c.H=H/\Ext t c/\Sim c G/\RepS c S N/\Bl E c (Cq f g b m i S G) W,⟨_,t,S,O,rfl,.refl _,s1,r.mono x1,l⟩,?_⟩;rintro i m C _ ⟨c,S2,F,rfl,p,x,Q,j⟩;cases m with
  |zero=>
   unfold Cq at j;split at j
   .rename_i v;exact .inl ⟨(walk c p F x i).2 v,j c C (.refl c) x Q⟩
   exact j.elim
  | succ m=>
   unfold Cq at j;split at j
   .rename_i d v;obtain⟨go,yl⟩:=(walk c p F x i).1 d v;refine .inr ⟨go,λB M=>∃(c:Wd)(S:DSt)(G:DH),c.H=M/\Ext t c/\Sim c G/\RepS c S B/\Bl E c (Cq f g b m (i+1) S G) W,λB M z=>⟨m,qZ _,z⟩,λw M y=>?_⟩;obtain⟨cc,rfl,q,ss,rd⟩:=yl w M y;refine⟨cc,S2,F,d,q.k.trans (p.k.trans k1),rfl,ss,Q.mono q,rd,(ZEt (Bl.mono q j)).imp ?_⟩;rintro σ3 _ ⟨c3,S3,G3,rfl,x3,s3,r3,_,h3⟩;have e:=ZD0 h3;refine⟨c3,S3,G3,x3.k.trans (q.k.trans (p.k.trans k1)),rfl,s3,r3,?_⟩
    revert e
    cases b S3 G3 with
    | nx L I|ct L I=>
      intro e U o x4 P Y;obtain⟨Z,S5,G5,hh,x5,s5,r5,T⟩:=e U o x4 P Y;exact⟨Z,S5,G5,hh,p.trans (q.trans (x3.trans x5)),s5,r5,T⟩
    |_=>exact λe=>e
   .rename_i v;exact .inl ⟨(walk c p F x i).2 v,j c C (.refl c) x Q⟩
   exact j.elim
 cases d with
 |pure xs=>
  have A:Bl E t (Aw g b (xs.drop 0) S O) W:=l;rw[ZDo xs.length 0 (by lia)]at A;exact⟨_,_,ZBq u,A⟩
 |mt k=>
  dsimp only at l;split at l
  .rw[ZFU]at l;exact⟨_,_,ZDx u,l⟩
  exact l.elim
 |fn n f=>exact⟨n,f,u,l⟩
theorem ZOr(hp:PassesOwn (vW X.prog X.w) X.A X.env X.xe)(f:X.calm=u9)(d:QI X E tg iter it)(a:QG X E tg g)(e:QSs X E body b)
  (c:∀x,foldedSetIterable iter X.env x=pure x:=by intro _;rfl):QS X E (.For tg iter body [] pos) (Bx it g b):=(ZIy hp f d a e c).mono λ_ _ _ h=>ZOj h
theorem _root_._L.PI.mono(h:PI X tg iter t)(w:∀a H Q,t' a H Q->t a H Q):PI X tg iter t':=λb s a H Q I q=>h b s a H Q I (w a H Q q)
def sgn(c:Nat):D:=.str ⟨#[c]⟩
def signs(x:Str):List D:=x.cps.toList.map sgn
def Its(x:Str):It:=⟨λi _=>i<x.cps.size,λi H v H'=>H'=H/\∃c,x.cps[i]?=u7 c/\v=.str ⟨#[c]⟩,λi _=>x.cps.size<=i⟩
theorem ZRi{P:xD}{w:xI}{K:za}{tg:xA}(it:xy)(x:Str)(t:Tok):Turn P w K tg (Its x) [it] it (λi h=>h.IsStrIter it "str_ascii_iterator" x t i) where
 mem:=by simp
 obj:=λi h a b f=>by
  have e:b=it:=by simpa using f
  subst e;obtain⟨o,e,c,d⟩:=a;exact⟨o,e,λv z=>by rw[d]at z;cases z⟩
 keep:=λi h J a k=>let⟨o,N,r⟩:=a;⟨o,k it (by simp) o N,r⟩
 item:=by
  intro X n hw y F i j s O H E I l a u;subst n hw y;obtain⟨B,p,L,A,q,C⟩:=l it (by simp);have m:i<x.cps.size:=u;refine wpAny_pyNext_ascii_item a (c:=x.cps[i]) (by simp[m]) λJ g Q=>?_
  obtain⟨o,e,c,d⟩:=id g;exact⟨_,rfl,Nr e c d (by decide) ⟨.str ⟨#[x.cps[i]]⟩,H,I.turned (λb o f e=>(Q.2 b f).trans e) B p A q C,⟨_,rfl⟩,⟨rfl,_,by simp[m],rfl⟩,g,λb f=>(l b f).1⟩⟩
 done:=by intro X n hw y F i j s O H E I l a u;subst n hw y;obtain⟨B,p,L,A,q,C⟩:=l it (by simp);have m:x.cps.size<=i:=u;exact wpAny_pyNext_ascii_end (I.ok.hd F) a (by simp[m]) λJ M=>⟨rfl,I.turned (λb o f e=>M b o f e) B p A q C⟩
 self:=λ_ _ _ _ _ a h=>wpAny_pyIter_striter_ascii a h
theorem ZPO{P:xD}{w:xI}{K:za}{tg:xA}(it:xy)(x:Str)(t:Tok):Turn P w K tg (Its x) [it] it (λi h=>h.IsStrIter it "str_iterator" x t i) where
 mem:=by simp
 obj:=λi h a b f=>by
  have e:b=it:=by simpa using f
  subst e;obtain⟨o,e,c,d⟩:=a;exact⟨o,e,λv z=>by rw[d]at z;cases z⟩
 keep:=λi h J a k=>let⟨o,N,r⟩:=a;⟨o,k it (by simp) o N,r⟩
 item:=by
  intro X n hw y F i j s O H E I l a u;subst n hw y;obtain⟨B,p,L,A,q,C⟩:=l it (by simp);have m:i<x.cps.size:=u;refine wpAny_pyNext_wide_item a (c:=x.cps[i]) (by simp[m]) λJ g Q=>?_
  obtain⟨o,e,c,d⟩:=id g;exact⟨_,rfl,Nr e c d (by decide) ⟨.str ⟨#[x.cps[i]]⟩,H,I.turned (λb o f e=>(Q.2 b f).trans e) B p A q C,⟨_,rfl⟩,⟨rfl,_,by simp[m],rfl⟩,g,λb f=>(l b f).1⟩⟩
 done:=by intro X n hw y F i j s O H E I l a u;subst n hw y;obtain⟨B,p,L,A,q,C⟩:=l it (by simp);have m:x.cps.size<=i:=u;exact wpAny_pyNext_wide_end (I.ok.hd F) a (by simp[m]) λJ M=>⟨rfl,I.turned (λb o f e=>M b o f e) B p A q C⟩
 self:=λ_ _ _ _ _ a h=>wpAny_pyIter_striter_wide a h
def iStr(tl:TE):TI:=λσ H R=>tl σ H λx H1=>∃z,x=.str z/\R (Its z) H1
theorem ZQ7{l:xA}{g:TE}(m:PE X l g):PI X tg l (iStr g):=by
 intro a s n H R I h;refine thn (m a s n H _ I h) λv c zz=>?_
 obtain⟨x,f,d,r,k⟩:=zz;obtain⟨z,e,q⟩:=k;subst e;obtain⟨t,rfl⟩:=r;have j:∀b∈[c.heap.objs.size],FpOk X a f b:=λb p=>by
  have e:b=c.heap.objs.size:=by simpa using p
  subst e;exact d.Hr (zY _) (d.hok.fresh (zY _))
 cases i:z.cps.all (· < 128)
 .exact wpAny_pyIter_wide i (⟨c.heap.objs.size,[c.heap.objs.size],_,_,f,rfl,d.kept λb o e=>zQ _ e,ZPO _ z t,⟨_,z0 _ rfl,rfl,rfl⟩,j,q⟩)
 .exact wpAny_pyIter_ascii i (⟨c.heap.objs.size,[c.heap.objs.size],_,_,f,rfl,d.kept λb o e=>zQ _ e,ZRi _ z t,⟨_,z0 _ rfl,rfl,rfl⟩,j,q⟩)
theorem Reps.signs(x:Str):Reps a (signs x) (x.cps.toList.map λc=>V.str ⟨#[c]⟩):=by
 unfold _D.signs
 induction x.cps.toList with
 |nil=>exact rfl
 |cons c r b=>exact⟨_,_,rfl,rfl,b⟩
noncomputable def G8:D->DH->R ItD
 |.tup xs,G=>.ok (.pure xs) G
 |.str x,G=>.ok (.pure (signs x)) G
 |.fl xs,G=>.ok (.pure xs) G
 |.ref i,G=>match G[i]? with
  |some (.lst _)=>.ok (.mt i) G
  |_=>.bad
 |_,_=>.bad
def Du(te:DE):DI:=λS G=>(te S G).bind G8
theorem ZMO(C:QE X E iter te):QI X E tg iter (Du te):=by
 intro f s M H R I h;obtain⟨a,S,G,hk,rfl,N,r,h⟩:=h;cases u:te S G with
 |bad=>
  have j:outI E a ((te S G).bind G8) R:=h;rw[u]at j;exact j.elim
 |err e W=>
  have j:outI E a ((te S G).bind G8) R:=h;rw[u]at j;refine Zy C f s M a.H R I ⟨a,S,G,hk,rfl,N,r,?_⟩;rw[u];exact j
 | ok d W=>
  have j:outI E a ((te S G).bind G8) R:=h;rw[u]at j;cases d with
  |tup Z=>
   refine ZLU C f s M a.H R I ⟨a,S,G,hk,rfl,N,r,?_⟩;rw[u];rintro b v x t ⟨p,g,rfl,n,J⟩;have A:SqT X.K b.H p g:=by rw[<-hk,<-x.k];exact n
   refine⟨p,rfl,⟨g,A⟩,j b _ x t ⟨g,J,λc y i=>⟨λv l=>⟨⟨g,v,?_,l⟩,λw P z=>?_⟩,λo=>⟨g,?_,o⟩⟩⟩⟩
   .have:=y.sqT n;rw[y.k,x.k,hk]at this;exact this
   .have:=y.sqT n;rw[y.k,x.k,hk]at this;exact⟨Option.some.inj ((z.2 g this).symm.trans l),z.1⟩
   have:=y.sqT n;rw[y.k,x.k,hk]at this;exact this
  |fl Z=>
   refine Zy C f s M a.H R I ⟨a,S,G,hk,rfl,N,r,?_⟩;rw[u];rintro b v x t ⟨p,g,rfl,n,J⟩;have A:SqL X.K b.H p g:=by rw[<-hk,<-x.k];exact n.sq
   refine⟨p,rfl,⟨g,A⟩,j b _ x t ⟨g,J,λc y i=>⟨λv l=>⟨⟨g,v,?_,l⟩,λw P z=>?_⟩,λo=>⟨g,?_,o⟩⟩⟩⟩
   .have:=(y.fzL n).sq;rw[y.k,x.k,hk]at this;exact this
   .have:=(y.fzL n).sq;rw[y.k,x.k,hk]at this;exact⟨Option.some.inj ((z.2 g this).symm.trans l),z.1⟩
   have:=(y.fzL n).sq;rw[y.k,x.k,hk]at this;exact this
  |ref k=>
   have B:outI E a (G8 (.ref k) W) R:=j;unfold G8 at B;dsimp only at B;split at B
   .rename_i Z U;refine Zy C f s M a.H R I ⟨a,S,G,hk,rfl,N,r,?_⟩;rw[u];rintro b v x t ⟨F,rfl⟩;obtain⟨g,U,_⟩:=t.lst U;refine⟨b.m k,rfl,⟨g,.of U⟩,B b _ x t ⟨F,λc y T O i=>?_⟩⟩;rw[y.m k F]at O;exact⟨λv l=>⟨⟨T,v,.of O,l⟩,λw P z=>⟨Option.some.inj ((z.2 T (.of O)).symm.trans l),z.1⟩⟩,λo=>⟨T,.of O,o⟩⟩
   exact B.elim
  | str z=>
   refine ZQ7 C f s M a.H R I ⟨a,S,G,hk,rfl,N,r,?_⟩;rw[u];intro b v x t J;cases(J);refine⟨z,rfl,j b _ x t ⟨_,.signs z,λc y i=>⟨λv l=>?_,λo=>?_⟩⟩⟩
   .rw[zw,zE]at l;obtain⟨k,Q,rfl⟩:=l;have L:z.cps[i]?=u7 k:=by rw[<-jZ];exact Q
    refine⟨(qK.mp L).1,λw P q=>?_⟩;obtain⟨e1,k',Y,e3⟩:=q;rw[L]at Y;cases Y;exact⟨e3,e1⟩
   rw[zM,qA]at o;exact o
  |_=>exact j.elim
end
def Bh(lo:Int)(n:Nat):List D:=(zZ n).map λ(k:Nat)=>D.int (lo+(k:Int))
def inR(j:Int):Prop:= -(2^62)<=j/\j<2^62
instance (j:Int):Decidable (inR j):=by unfold inR;infer_instance
noncomputable def rng1(ds:List D)(G:DH):R ItD:=match ds with
 |[.int j]=>if inR j then .ok (.pure (Bh 0 j.toNat)) G else .bad
 |_=>.bad
def Bg(f:List D->DH->R ItD)(ta:DA):DI:=λS G=>(ta S G).bind f
def sWh(c:DB)(b:DS):Nat->DS
 |0,_,_=>.bad
 |n+1,S,G=>(c S G).toS λk G1=>if k=u9 then aft (b S G1) (sWh c b n)else .nx S G1
def Aq(np nl:Nat)(b:DS):List D->DH->R D:=λds G=>if ds.length=np then tidy G (match b (ds.map u7++zV nl u8) G with
 |.nx _ G'=>.ok .non G'
 |.rt d G'=>.ok d G'
 |.err x G'=>.err x G'
 |_=>.bad)else .bad
theorem outI.mono(x:Ext a b)(h:outI E a r Q):outI E b r Q:=by
 cases r with
 |ok d G=>exact λc v y s q=>h c v (x.trans y) s q
 |err e G=>exact XOk.mono x h
 |bad=>exact h
theorem Rk(h:outI E a (r.bind f) Q):
  Er E a r (λvs H=>PR3 a H r vs Reps λb c G=>outI E b (f c G) Q):=by
 cases r with
 |ok d G=>exact λb v x s q=>⟨b,d,G,rfl,x,s,q,rfl,outI.mono x h⟩
 |_=>exact h
section
variable{X:Cx}{E:XK}{tg iter:xA}{pos:Pos}
theorem ZRI(e:Int)(n:Nat):RepI a (.pure (Bh e n)) (Itr e n):=by
 refine⟨(zZ n).map λ(k:Nat)=>V.int (e+(k:Int)),?_,λb x i=>⟨λv c=>?_,λf=>?_⟩⟩
 .unfold Bh;generalize zZ n=l
  induction l with
  |nil=>exact rfl
  |cons k l g=>exact⟨_,_,rfl,rfl,g⟩
 .rw[zw]at c;by_cases d:i<n
  .rw[zH d]at c;exact⟨d,λw h y=>⟨y.2.trans (by simpa using c),y.1⟩⟩
  rw[z7 (by simpa using d)]at c;cases c
 show n<=i;simpa using f
theorem ZHk{p pos:Pos}(i:Gl X "range")(m:X.mg "range"=u8)(l:QA X E [e] ta)(k:vz [e] X.env=[(uA,eval e X.env)]:=by rfl):QI X E tg (.Call (.Name "range" p) [e] [] pos) (Bg rng1 ta):=
 (ZO0 i m l k).mono λu H Q h=>by
  obtain⟨a,S,G,hk,rfl,s,r,h⟩:=h;refine⟨a,S,G,hk,rfl,s,r,(Rk h).imp ?_⟩;rintro w _ ⟨b,y,t,rfl,x,o,q,-,c⟩;unfold rng1 at c;split at c
  .rename_i j;split at c
   .rename_i d;obtain⟨v,r,g,f,n⟩:=q;cases(f);cases(n);exact⟨j,g,d.1,d.2,c b _ (.refl b) o (ZRI 0 j.toNat)⟩
   exact c.elim
  exact c.elim
theorem ZG1(n:Nat)(hp:PassesOwn (vW X.prog X.w) X.A X.env X.xe)(hc:QT X E c tc)(Z:QSs X E body tb):QS X E (.While c body [] pos) (sWh tc tb n):=(ZJD hp hc Z).mono λW Q H h=>by
 obtain⟨a,S,G,hk,rfl,s,r,h⟩:=h;refine⟨λm Q H=>∃(b:Wd)(S:DSt)(G:DH),b.H=H/\Ext a b/\Sim b G/\RepS b S Q/\Bl E b (sWh tc tb m S G) W,⟨n,a,S,G,rfl,.refl a,s,r,h⟩,?_⟩;rintro m J _ ⟨b,v,Y,rfl,l,s2,p,N⟩;cases m with
 |zero=>exact N.elim
 | succ m=>
  refine⟨b,v,Y,l.k.trans hk,rfl,s2,p,(ZD5 N).imp ?_⟩;rintro k _ ⟨L,O,rfl,f,U,_,T⟩;cases k with
  |false=>exact T L J (.refl L) U (p.mono f)
  | true=>
   refine⟨λg P=>∃(b:Wd)(S:DSt)(G:DH),b.H=P/\Ext a b/\Sim b G/\RepS b S g/\Bl E b (sWh tc tb m S G) W,λg P z=>⟨m,qZ _,z⟩,L,v,O,f.k.trans (l.k.trans hk),rfl,U,p.mono f,?_⟩;have d:=ZD0 T
   revert d
   cases tb v O with
   |nx j i|ct j i=>
    intro d u e B o y;obtain⟨t,I,M,C,K,x,F,q⟩:=d u e B o y;exact⟨t,I,M,C,l.trans (f.trans K),x,F,q⟩
   |_=>exact λd=>d
end
theorem ZKg(r:Reps a ds vs)(n m:Nat)(h:n=m):RepS a (ds.map u7++zV n u8) (vs.map u7++zV m u8):=by
 subst h;refine⟨by simp[r.length],λi d b=>?_⟩;by_cases c:i<ds.length
 .rw[qJ (by simpa using c),zw]at b;cases e:ds[i]? with
  |none=>rw[e]at b;cases b
  |some j=>
   rw[e]at b;have f:j=d:=by simpa using b
   subst f;obtain⟨v,g,q⟩:=r.get e;exact⟨v,by rw[qJ (by rw[zM,<-r.length];exact c),zw,g];rfl,q⟩
 rw[zG (by simpa using c),jq]at b
 split at b<;>cases b
theorem Np{K:za}{p:List Str}{n:Nat}{b:DS}{v:List V}{H:Hp}{Q:VK}{E:XK}(h:lFx K (Aq p.length n b) v H Q E):v.length=p.length:=by
 obtain⟨a,G,q,hk,rfl,t,r,h⟩:=h;unfold Aq at h;split at h
 .rename_i l;rw[<-r.length];exact l
 exact h.elim
theorem Wx{K:za}{N p:List Str}{b:DS}{v:List V}{H:Hp}{Q:VK}{E:XK}(h:lFx K (Aq p.length (N.length-p.length) b) v H Q E):lS K E b {nx:=λ_=>Q .non,rt:=Q} (start N v) H:=by
 have l:=Np h;obtain⟨a,G,q,hk,rfl,t,r,h⟩:=h;unfold Aq at h;split at h
 .have g:=ZBh t h;refine⟨a,q.map u7++zV (N.length-p.length) u8,G,hk,rfl,t,ZKg r _ _ (by rw[l]),?_⟩
  revert g
  cases b (q.map u7++zV (N.length-p.length) u8) G with
  |nx v o=>exact λg c C x B _=>g c .non x B rfl
  |bk v o|ct v o=>exact λg=>g.elim
  |_=>exact id
 exact h.elim
theorem Hu{P:xD}{w:xI}{K:za}{u:Str->Option xH}{j:Heap}{x qual:Str}{st:xG}{f:xy}{y:xB}{N ps:List Str}{k:Nat}{b:DS}(F:Fun K x qual st f y)(S:FnScope N ps (Ay st))
  (m:∀(i:xH)(A:x0)(outer:List Env)(s:xF)(H:Hp)(E:XK),Room k (A.deeper (envOfC qual (Ay st) s.heap.objs.size f i))->QSs (Fd CX0 P w K u j N qual (Ay st) f i A outer s H E).nox E0 (Cj st) b):
  FnOk P w K u j CX0 (k+1) f y ps (lF K (Aq ps.length (N.length-ps.length) b)):=by
 exact F.ok S (λ_ _ _ _=>Np) λi A o s H n Q E z h=>⟨_,m i A o s H E z,Wx h⟩
theorem Io(s:Sim a G)(r:Rep a d x)(h:Bd d G=u7 xs):∃p vs,x=.ref p/\(SqL a.K a.H p vs\/SqT a.K a.H p vs)/\Reps a xs vs:=by
 cases d with
 |tup c=>
  have e:=Option.some.inj h;subst e;obtain⟨p,vs,e,q,b⟩:=r;exact⟨p,vs,e,.inr q,b⟩
 |fl c=>
  have e:=Option.some.inj h;subst e;obtain⟨p,vs,e,q,b⟩:=r;exact⟨p,vs,e,.inl q.sq,b⟩
 |ref i=>
  unfold Bd at h;dsimp only at h;split at h
  .rename_i c j;have e:=Option.some.inj h;subst e;obtain⟨vs,g,k⟩:=s.lst j;exact⟨a.m i,vs,r.2,.inl (.of g),k⟩
  cases h
 |_=>cases h
def Bj (d e:D) (G:DH):R D:=match e with
 | .int i=>match d with
  | .str z=>if z.length<=1000000 then(match atI z.cps.toList i with
    |some c=>.ok (.str ⟨#[c]⟩) G
    |none=>.bad)else .bad
  | d=>match Bd d G with
   |some xs=>match atI xs i with
    |some v=>.ok v G
    |none=>.bad
   |none=>.bad
 |_=>.bad
theorem ZHR(r:Reps a xs vs)(h:atI xs i=u7 d):∃v,atI vs i=u7 v/\Rep a d v:=by
 unfold atI at h⊢;rw[<-r.length];cases e:ixN xs.length i with
 |none=>rw[e]at h;cases h
 |some j=>
  rw[e]at h;obtain⟨v,b,q⟩:=r.get (h);exact⟨v,b,q⟩
section
variable{X:Cx}{E:XK}
theorem _root_._L.IxR.mono(h:IxR X r)(w:∀x y H Q,r' x y H Q->r x y H Q):IxR X r':=λa b c s d H x y v u Q I i j q g=>h a b c s d H x y v u Q I i j (w _ _ _ _ q) g
theorem _root_._L.CallR.mono(h:CallR X f r)(w:∀xs H Q,r' xs H Q->r xs H Q):CallR X f r':=λa s b H xs c Q I d q=>h a s b H xs c Q I d (w _ _ _ q)
theorem _root_._L.MtM.mono{id:String}{r b:V->List V->Hp->VK->Prop}(h:MtM X id r)(w:∀x xs H Q,b x xs H Q->r x xs H Q):MtM X id b:=λa s c H x xs v d Q I i g q=>h a s c H x xs v d Q I i g (w _ _ _ _ q)
theorem Uc:IxR X (lR2 X.K E Bj):=ZJK.mono λx y H Q h=>by
 obtain⟨a,G,d,e,hk,rfl,s,r,m,q⟩:=h;cases e with
 | int i=>
  have n:∀{k:List D},Bd d G=u7 k->out E a (match atI k i with |some v=>.ok v G|none=>.bad) Q->rIx X.K x y a.H Q:=λ{k}l q=>by
   obtain⟨p,B,w,g,I⟩:=Io s r l;rw[hk]at g;split at q
   .rename_i v J;obtain⟨u,A,F⟩:=ZHR I J;have z:=q a u (.refl a) s F;rcases g with g|g
    .exact .inl ⟨p,B,i,u,w,m,g,A,z⟩
    exact .inr (.inl ⟨p,B,i,u,w,m,g,A,z⟩)
   exact q.elim
  have b:out E a (match Bd d G with |some k=>(match atI k i with |some v=>.ok v G|none=>.bad)|none=>.bad) Q->rIx X.K x y a.H Q:=λq=>by
   cases l:Bd d G with
   |none=>rw[l]at q;exact q.elim
   |some k=>rw[l]at q;exact n l q
  cases d with
  | str z=>
   unfold Bj at q;dsimp only at q;split at q
   .rename_i C;split at q
    .rename_i c L;exact .inr (.inr ⟨z,i,c,r,m,z6 C size6,L,q a _ (.refl a) s rfl⟩)
    exact q.elim
   exact q.elim
  |tup M|fl M|ref j|_=>exact b q
 |_=>exact q.elim
def Ba(ds:List D)(G:DH):R D:=match ds with
 |[.str z]=>if z.length<=1000000 then .ok (.int z.length) G else .bad
 |[d]=>match Bd d G with
  |some xs=>.ok (.int xs.length) G
  |none=>.bad
 |_=>.bad
theorem reps1(r:Reps a [d] vs):∃v,vs=[v]/\Rep a d v:=by obtain⟨v,b,e,q,z⟩:=r;cases(z);exact⟨v,e,q⟩
theorem reps2(r:Reps a [d,d'] vs):∃v b,vs=[v,b]/\Rep a d v/\Rep a d' b:=by obtain⟨v,h,e,q,z⟩:=r;obtain⟨b,g,c⟩:=reps1 z;subst g;exact⟨v,b,e,q,c⟩
theorem ZL7:CallR X (.builtin "len") (lRn X.K E Ba):=(ZJG.or ZM2).mono λl H Q h=>by
 obtain⟨a,G,m,hk,rfl,s,r,q⟩:=h;unfold Ba at q;split at q
 .rename_i z;split at q
  .rename_i g;obtain⟨v,rfl,b⟩:=reps1 r;cases(b);exact .inr ⟨z,rfl,z6 g size6,q a _ (.refl a) s rfl⟩
  exact q.elim
 .rename_i d _;split at q
  .rename_i n j;obtain⟨v,rfl,b⟩:=reps1 r;obtain⟨p,i,rfl,c,k⟩:=Io s b j;rw[hk]at c;exact .inl ⟨p,i,rfl,c,q a _ (.refl a) s (by rw[<-k.length];exact rfl)⟩
  exact q.elim
 exact q.elim
def Dr(ds:List D)(G:DH):R D:=match ds with
 |[d]=>match Bd d G with
  |some xs=>.ok (.tup xs) G
  |none=>.bad
 |_=>.bad
theorem ZPH:CallR X (.type "tuple") (lRn X.K E Dr):=ZQ3.mono λm H Q h=>by
 obtain⟨a,G,n,hk,rfl,s,r,q⟩:=h;unfold Dr at q;split at q
 .rename_i d;split at q
  .rename_i u j;obtain⟨v,rfl,k⟩:=reps1 r;obtain⟨p,c,rfl,b,g⟩:=Io s k j;refine⟨p,c,rfl,?_⟩;rcases b with b|b
   .exact .inl ⟨by rw[<-hk];exact b,λl i=>X8 s g q l i⟩
   exact .inr ⟨by rw[<-hk];exact b,q a _ (.refl a) s ⟨p,c,rfl,b,g⟩⟩
  exact q.elim
 exact q.elim
def Ri(ds:List D)(G:DH):R D:=match ds with
 |[.str z]=>if z.length<=1000000 then .ok (.ref G.length) (G++[.lst (signs z)])else .bad
 |[d]=>match Bd d G with
  |some xs=>.ok (.ref G.length) (G++[.lst xs])
  |none=>.bad
 |_=>.bad
theorem Xb:∀{vs:List V}{us:List xH},vs.length=us.length->(∀(i:Nat)(v:V)(u:xH),vs[i]?=u7 v->us[i]?=u7 u->RelV v u)->Vals vs us
 |[],[],_,_=>.nil
 |[],_::_,h,_|_::_,[],h,_=>by cases h
 |v::vs,u::us,h,f=>.cons (f 0 v u rfl rfl) (Xb (by simpa using h) λi a d c b=>f (i+1) a d (by simpa using c) (by simpa using b))
theorem ZR0(x:X.calm=u9):CallR X (.type "list") (λxs H Q=>∃z:Str,xs=[.str z]/\z.length<=sizeLine/\∀l,H l=u8->Q (.ref l) (upd H l (.lst (z.cps.toList.map λc=>V.str ⟨#[c]⟩)))):=by
 intro j s A H xs B Q I r h;obtain⟨z,rfl,m,q⟩:=h;obtain⟨u,rfl,t,rfl⟩:=vals1 r;refine PySem.call_list_str (I.ok.hd x) z t (λJ C b c hk p a=>?_) m;refine⟨.ref s.heap.objs.size,upd H s.heap.objs.size (.lst (z.cps.toList.map λc=>V.str ⟨#[c]⟩)),I.laid hk (zY _) ?_,rfl,q _ (I.hok.fresh (zY _))⟩;refine⟨by rw[zM,qA];exact m,b.toList,c,Xb ?_ λi v u d n=>?_,by simpa using p⟩
 .rw[zM,qA,qA];exact a.1.symm
 rw[zw,zE]at d;obtain⟨k,g,rfl⟩:=d;obtain⟨F,w,y,rfl⟩:=a.2 i u (by rw[<-jZ];exact n);rw[jZ,y]at g;cases g;exact⟨w,rfl⟩
theorem ZHi(m:X.calm=u9):CallR X (.type "list") (lRn X.K E Ri):=(ZKm.or (ZR0 m)).mono λn H Q h=>by
 obtain⟨a,G,u,hk,rfl,s,r,q⟩:=h;unfold Ri at q;split at q
 .rename_i z;split at q
  .rename_i b;obtain⟨v,rfl,c⟩:=reps1 r;cases(c);exact .inr ⟨z,rfl,z6 b size6,λl b=>Jq s (.signs z) q l b⟩
  exact q.elim
 .rename_i d _;split at q
  .rename_i w j;obtain⟨v,rfl,c⟩:=reps1 r;obtain⟨p,i,rfl,g,k⟩:=Io s c j;exact .inl ⟨p,i,rfl,by rw[<-hk];exact g,λl b=>Jq s k q l b⟩
  exact q.elim
 exact q.elim
def Qt(ds:List D)(G:DH):R D:=match ds with
 |[.int i,.int j]=>.ok (.int (if j>i then j else i)) G
 |_=>.bad
def Kl(ds:List D)(G:DH):R D:=match ds with
 |[.int i,.int j]=>.ok (.int (if j<i then j else i)) G
 |_=>.bad
theorem ZRL(d:X.calm=u9):CallR X (.builtin "max") (lRn X.K E Qt):=(ZQL d).mono λg H Q h=>by
 obtain⟨a,G,i,hk,rfl,s,r,q⟩:=h;unfold Qt at q;split at q
 .obtain⟨v,j,rfl,b,c⟩:=reps2 r;cases(b);cases(c);exact⟨_,_,rfl,q a _ (.refl a) s rfl⟩
 exact q.elim
theorem ZI2(d:X.calm=u9):CallR X (.builtin "min") (lRn X.K E Kl):=(ZIq d).mono λg H Q h=>by
 obtain⟨a,G,i,hk,rfl,s,r,q⟩:=h;unfold Kl at q;split at q
 .obtain⟨v,j,rfl,b,c⟩:=reps2 r;cases(b);cases(c);exact⟨_,_,rfl,q a _ (.refl a) s rfl⟩
 exact q.elim
noncomputable def Ls(ds:List D)(G:DH):R D:=match ds with
 |[.int i]=>.ok (.int i) G
 |[.bl k]=>.ok (.int (if k then 1 else 0)) G
 |_=>.bad
theorem Xc:CallR X (.type "int") (lRn X.K E Ls):=ZOU.mono λd H Q h=>by
 obtain⟨a,G,c,hk,rfl,s,r,q⟩:=h;unfold Ls at q;split at q
 .obtain⟨v,rfl,b⟩:=reps1 r;cases(b);exact .inl ⟨_,rfl,q a _ (.refl a) s rfl⟩
 .obtain⟨v,rfl,b⟩:=reps1 r;cases(b);exact .inr ⟨_,rfl,q a _ (.refl a) s rfl⟩
 exact q.elim
noncomputable def Dp(o:D)(ds:List D)(G:DH):R D:=match o,ds with
 |.ref i,[d]=>match G[i]? with
  |some (.lst xs)=>if xs.length<1000000 then .ok .non (G.set i (.lst (xs++[d])))else .bad
  |_=>.bad
 |_,_=>.bad
def lRm(K:za)(E:XK)(f:D->List D->DH->R D):V->List V->Hp->VK->Prop:=λx xs H Q=>PD3 K H x xs Rep Reps λa G d ds=>out E a (f d ds G) Q
theorem Sim.isList(s:Sim a G)(h:G[i]?=u7 (.lst xs)):∃vs,SqL a.K a.H (a.m i) vs:=let⟨vs,e,_⟩:=s.lst h;⟨vs,.of e⟩
theorem ZMq:MtM X "list.append" (lRm X.K E Dp):=ZH4.mono λx y H Q h=>by
 obtain⟨a,G,d,w,hk,rfl,s,b,r,q⟩:=h;unfold Dp at q;split at q
 .rename_i i d;obtain⟨v,rfl,p⟩:=reps1 r;split at q
  .rename_i z k;split at q
   .rename_i j;obtain⟨l,c,g⟩:=s.lst k;obtain⟨n,u⟩:=Vz s b.1 c (g.append (.cons p Reps.nil));exact⟨a.m i,l,v,b.2,rfl,c,by rw[<-g.length];exact zq j size6,q _ .non n u rfl⟩
   exact q.elim
  exact q.elim
 exact q.elim
variable{o e:xA}{es:List xA}{to:DE}{t:DA}{name:Str}{apos cpos:Pos}{T id:String}{f:D->List D->DH->R D}
noncomputable def isL(d:D)(G:DH):Bool:=match d with
 |.ref i=>match G[i]? with
  |some (.lst _)=>u9
  |_=>uA
 |.fl _=>u9
 |_=>uA
def Cv(f:D->List D->DH->R D)(o:DE)(t:DA):DE:=λS G=>(o S G).bind λx G1=>if isL x G1=u9 then(t S G1).bind λxs G2=>f x xs G2 else .bad
theorem ZMD(s:Sim a G)(r:Rep a d x)(h:isL d G=u9):tyV a.K "list" x a.H:=by
 cases d with
 |ref i=>
  unfold isL at h;dsimp only at h;split at h
  .rename_i b g;cases r.2;exact .inl ⟨rfl,s.isList g⟩
  cases h
 |fl b=>
  obtain⟨p,c,rfl,q,_⟩:=r;exact .inl ⟨rfl,c,q.sq⟩
 |_=>cases h
theorem ZPe(m:Slot "list" name id)(p:typeOf (.builtin id)=pure (.type "method_descriptor"))(L:MtM X id (lRm X.K E f))(ho:QE X E o to)(N:QA X E (e::es) t)
  (i:xM o name X.env (eval o X.env)=eval o X.env:=by rfl)
  (l:((xN cpos (vz (e::es) X.env)).all (λx=> !x.1)&&(xO cpos (vJ [] X.env)).all (λx=>x.1.isSome)
   && decide ((e::es).length+([]:List Keyword).length+(if([]:List Keyword).isEmpty then 0 else 1)<30))=u9:=by rfl)
  (j:(apos.endLine==cpos.line)=u9:=by rfl) (C:vz (e::es) X.env=(uA,eval e X.env)::vz es X.env:=by rfl) (g:(xN cpos (vz es X.env)).any (·.1)=uA:=by rfl):
  QE X E (.Call (.Attribute o name apos) (e::es) [] cpos) (Cv f to t):=(ZHm PySem.F.plainAttrs_list m p L ho N i l j C g).mono λP H Q h=>by
 obtain⟨a,S,G,hk,rfl,s,r,h⟩:=h;refine⟨a,S,G,hk,rfl,s,r,(Ea h).imp ?_⟩;rintro v _ ⟨b,d,w,rfl,x,u,q,-,n⟩;split at n
 .rename_i M;have ty:=ZMD u q M;rw[x.k,hk]at ty;refine⟨ty,b,S,w,x.k.trans hk,rfl,u,r.mono x,(M7 n).imp ?_⟩;rintro O _ ⟨c,J,A,rfl,y,I,B,-,z⟩;exact⟨c,A,d,J,y.k.trans (x.k.trans hk),rfl,I,q.mono y,B,z⟩
 exact n.elim
end
section
variable{X:Cx}{E:XK}
end
def J8:List D->Option (List Int)
 |[]=>u7 []
 |.int i::r=>(J8 r).map (i::·)
 |_=>u8
def Ml:List D->Option (List Bool)
 |[]=>u7 []
 |.bl i::r=>(Ml r).map (i::·)
 |_=>u8
@[simp]theorem Y5(ns:List Int):J8 (ns.map D.int)=u7 ns:=by
 induction ns with
 |nil=>rfl
 |cons n ns a=>simp[J8,a]
@[simp]theorem ZSB(ns:List Bool):Ml (ns.map D.bl)=u7 ns:=by
 induction ns with
 |nil=>rfl
 |cons n ns a=>simp[Ml,a]
theorem T6:∀{xs:List D}{ns:List Int},J8 xs=u7 ns->xs=ns.map D.int
 |[],ns,h=>by cases h;rfl
 |.int i::r,ns,h=>by simp[J8,zE]at h;obtain⟨b,a,rfl⟩:=h;rw[zk,T6 a]
 |.non::r,ns,h | .bl _::r,ns,h | .str _::r,ns,h | .ty _::r,ns,h | .tup _::r,ns,h | .fl _::r,ns,h | .ref _::r,ns,h=>by simp[J8]at h
theorem ZEu:∀{xs:List D}{ns:List Bool},Ml xs=u7 ns->xs=ns.map D.bl
 |[],ns,h=>by cases h;rfl
 |.bl i::r,ns,h=>by simp[Ml,zE]at h;obtain⟨b,a,rfl⟩:=h;rw[zk,ZEu a]
 |.non::r,ns,h | .int _::r,ns,h | .str _::r,ns,h | .ty _::r,ns,h | .tup _::r,ns,h | .fl _::r,ns,h | .ref _::r,ns,h=>by simp[Ml]at h
def Kw(ds:List D)(G:DH):R D:=match ds with
 | [d]=>match Bd d G with
  |some xs=>match Ml xs with
   |some ns=>.ok (.bl (ns.all id)) G
   |none=>.bad
  |none=>.bad
 |_=>.bad
section
variable{X:Cx}{E:XK}{vP:List (xy×Obj)}{σ:St}{s:xF}{H:Hp}
theorem Yw(I:Inv X vP σ H s)(t:X.calm=u9)(h:SqL X.K H p vs\/SqT X.K H p vs)
  (n:∀(it:xy)(fp wr:List xy)(its:List xH)(St:Nat->Heap->Prop)(d:xF),Vals vs its->Walks X.prog X.w X.A.in1 it fp wr its.toArray.size (λi v=>its.toArray[i]?=u7 v) St->St 0 d.heap->(∀b∈fp,b<d.heap.objs.size)->
   (∀h' tk,(∀b o,b∉wr->d.heap.get? b=u7 o->h'.get? b=u7 o)->Inv X vP σ H {d with heap:=h',toks:=tk})->Q (.ref it) d):
  vx (vW X.prog X.w) X.A.in1 (pyIter (.ref p)) Q E' s:=by
 have m:X.A.in1.handled=u8:=I.ok.hd t;rcases h with h|h
 .obtain⟨its,r,g,q⟩:=I.list h;refine wpAny_pyIter_list g.isList ?_;have hp:p<s.heap.objs.size:=by obtain⟨o,e,_⟩:=g.isList;exact zx e
  refine n _ _ _ its _ _ r (.list m _ p (z8 hp) its.toArray) ⟨⟨_,z0 _ rfl,rfl,rfl⟩,?_⟩ (λb f=>?_) λh' tk k=>?_
  .obtain⟨o,e,c⟩:=g.isList;exact⟨o,zQ _ e,c⟩
  .rw[qk];rcases zj.mp f with rfl|f
   .exact qZ _
   have e:b=p:=by simpa using f
   subst e;exact qP hp
  refine I.kept λb o e=>k b o (λf=>?_) (zQ _ e)
  have j:b=s.heap.objs.size:=by simpa using f
  subst j;exact absurd (zx e) (qQ _)
 obtain⟨its,r,g,q⟩:=I.tuple h;refine wpAny_pyIter_tuple (g) ?_;have hp:p<s.heap.objs.size:=by obtain⟨o,e,_⟩:=g;exact zx e
 refine n _ _ _ its _ _ r (.tuple m _ p (z8 hp) its.toArray) ⟨⟨_,z0 _ rfl,rfl,rfl⟩,?_⟩ (λb f=>?_) λh' tk k=>?_
 .obtain⟨o,e,c⟩:=g;exact⟨o,zQ _ e,c⟩
 .rw[qk];rcases zj.mp f with rfl|f
  .exact qZ _
  .have e:b=p:=by simpa using f
   subst e;exact qP hp
 .refine I.kept λb o e=>k b o (λf=>?_) (zQ _ e)
  have j:b=s.heap.objs.size:=by simpa using f
  subst j;exact absurd (zx e) (qQ _)
theorem Yj:∀{ns:List Int}{vs:List V},Reps a (ns.map D.int) vs->vs=ns.map V.int
 |[],vs,h=>h
 |n::ns,vs,h=>by
  obtain⟨v,r,e,c,b⟩:=h;cases(c);rw[e,Yj b]
  rfl
theorem ZEJ:∀{ns:List Bool}{vs:List V},Reps a (ns.map D.bl) vs->vs=ns.map V.bl
 |[],vs,h=>h
 |n::ns,vs,h=>by
  obtain⟨v,r,e,c,b⟩:=h;cases(c);rw[e,ZEJ b]
  rfl
theorem all_range(ns:List Bool):(zZ ns.length).all (λi=>ns.getD i u9)=ns.all id:=by
 rw[Bool.eq_iff_iff,q9,q9];constructor
 .intro h b d;obtain⟨i,c,rfl⟩:=qj d;simpa[c]using h i (qw.mpr c)
 intro h i c;have a:=qw.mp c;simpa[a]using h ns[i] (qx a)
theorem ZHl(z:X.calm=u9):CallR X (.builtin "all") (lRn X.K E Kw):=by
 intro m s U H S Y Q I C h;obtain⟨a,G,N,hk,rfl,n,r,q⟩:=h;unfold Kw at q;split at q
 .rename_i d;obtain⟨v,rfl,A⟩:=reps1 r;split at q
  .rename_i T y;split at q
   .rename_i b o;cases ZEu o;obtain⟨p,O,rfl,k,F⟩:=Io n A y;cases ZEJ F;rw[hk]at k;obtain⟨u,rfl,f⟩:=vals1 C;cases f;refine call_all_walk (Yw I z k λit fp wr its St s₂ hv W st hfp fin=>⟨it,fp,wr,its.toArray.size,_,St,λi=>b.getD i u9,rfl,W,st,λi w M L P hw j=>?_,λB t J=>?_⟩)
    .have c:its[i]?=u7 w:=by simpa using hw
     have g:i<(b.map V.bl).length:=by rw[hv.length];exact(zC.mp c).1
     have e:i<b.length:=by simpa using g
     obtain⟨u,l,f⟩:=hv.get (i:=i) (x:=V.bl b[i]) (by simp[e]);rw[c]at l;cases l;cases f;refine vL ?_;simpa[e]using j
    refine⟨.bl (b.all id),a.H,fin B t J,?_,q a _ (.refl a) n rfl⟩;have g:its.toArray.size=b.length:=by rw[zK,<-hv.length];simp
    rw[g,all_range]
    rfl
   exact q.elim
  exact q.elim
 exact q.elim
end
section
variable{X:Cx}{vP:List (xy×Obj)}{σ:St}{H:Hp}{s:xF}
theorem Zf(I:Inv X vP σ H s)(l:H a=u8)(v:X.s₀.heap.objs.size<=a)(t:a≠X.env.locals)(y:∀x c,X.env.cells.lookup x=u7 c->c≠a)(hp:∀p∈X.pn++vP,p.1≠a)
  (h:ObjOk X.prog X.w (upd H a o) s.heap a o):Inv X vP σ (upd H a o) s:=by
 have f:∀b u,H b=u7 u->b≠a:=λb u e z=>by rw[z,l]at e;cases e
 refine⟨I.ok,I.os,I.bare,⟨I.base.keep,I.base.slot,λb i q n C=>?_,I.base.there,λb j q=>?_,λb i u q=>?_,λb A q=>?_⟩,I.loc,I.cell,?_,λx c e=>?_,λp d=>?_,λb u e=>?_,I.len⟩
 .rw[Ai (z8 (zq (zx q) v))];exact I.base.free b i q n C
 .have:=I.base.tups b j q;rw[Ai (f _ _ this)];exact this
 .have:=I.base.frzs b i u q;rw[Ai (f _ _ this)];exact this
 .obtain⟨g,this⟩:=I.base.tbls b A q;exact⟨g,by rw[Ai (f _ _ this)];exact this⟩
 .rw[Ai (.symm t)];exact I.free
 .rw[Ai (y x c e)];exact I.G9 x c e
 .obtain⟨m,B,r⟩:=I.pin p d;exact⟨m,by rw[Ai (hp p d)];exact B,r⟩
 by_cases k:b=a
 .subst k;rw[Dy]at e;cases e;exact h
 .rw[Ai k]at e;exact(I.hok b u e).stay (λ_ _ _ q=>q) (λc q=>by rw[Ai (f _ _ q)];exact q) λc j q=>by rw[Ai (f _ _ q)];exact q
end
noncomputable def Ej(env:Env):List (Str×xC)->List (Str×xy)->List (Str×xy)
 |[],cs=>cs
 |(n,k)::r,cs=>if(k==NameKind.free)=u9 then Ej env r ((n,(env.cells.lookup n).getD 0)::cs)else Ej env r cs
theorem ZGP(h:∀y∈scope.names,y.2=.free->∃c,env.cells.lookup y.1=u7 c):closureFor scope env=pure (Ej env scope.names []):=by
 unfold closureFor;obtain⟨b,names,p,q⟩:=scope;have e:∀(names:List (Str×xC))(a:List (Str×xy)),(∀y∈names,y.2=.free->∃c,env.cells.lookup y.1=u7 c)->
   (forIn names a (λx r=>match x with
    |(name,b)=>if(b==NameKind.free)=u9 then(do let c<-cellOf env name;pure (.yield ((name,c)::r)))else pure (.yield r)):Sem (List (Str×xy)))=pure (Ej env names a):=by
  intro names
  induction names with
  |nil=>intro a _;rfl
  | cons y r j=>
   intro a f;obtain⟨n,k⟩:=y;rw[xz];by_cases hk:(k==NameKind.free)=u9
   .obtain⟨c,l⟩:=f (n,k) zW (by simpa using hk);have o:cellOf env n=pure c:=by unfold cellOf;rw[l]
    have i:Ej env ((n,k)::r) a=Ej env r ((n,c)::a):=by rw[Ej,if_pos hk,l];rfl
    rw[i,<-j ((n,c)::a) λg d=>f g (zX _ d)];simp only[hk,if_true,o]
    rfl
   have i:Ej env ((n,k)::r) a=Ej env r a:=by rw[Ej,if_neg hk]
   rw[i,<-j a λg d=>f g (zX _ d)];simp only[hk]
   rfl
 have:=e names [] h;exact congrArg (λm:Sem (List (Str×xy))=>m >>=λr=>pure r) this
theorem ZAV:∀{names:List (Str×xC)}{cs:List (Str×xy)},(∀y∈names,y.2=.free->∃c,env.cells.lookup y.1=u7 c)->(∀p∈cs,env.cells.lookup p.1=u7 p.2)->∀p∈Ej env names cs,env.cells.lookup p.1=u7 p.2
 |[],cs,_,a,p,hp=>a p hp
 | (n,k)::r,cs,d,a,p,hp=>by
  rw[Ej]at hp;split at hp
  .rename_i hk;obtain⟨c,e⟩:=d (n,k) zW (by simpa using hk);refine ZAV (λy b=>d y (zX _ b)) (λq f=>?_) p hp;rcases zj.mp f with rfl|f
   .rw[e];rfl
   exact a q f
  exact ZAV (λy b=>d y (zX _ b)) a p hp
theorem Us:∀{names:List (Str×xC)}{cs:List (Str×xy)},((x,.free)∈names\/∃c,(x,c)∈cs)->∃c,(x,c)∈Ej env names cs
 |[],cs,h=>by
  rcases h with h|h
  .cases h
  exact h
 | (n,k)::r,cs,h=>by
  rw[Ej];split
  .refine Us ?_;rcases h with h|⟨c,h⟩
   .rcases zj.mp h with e|h
    .cases e;exact .inr ⟨_,zW⟩
    exact .inl h
   exact .inr ⟨c,zX _ h⟩
  rename_i hk;refine Us ?_;rcases h with h|h
  .rcases zj.mp h with e|h
   .cases e;exact absurd rfl hk
   exact .inl h
  exact .inr h
theorem ZAf:∀{l:List (Str×xy)},(x,c)∈l->∃d,l.lookup x=u7 d
 |[],h=>by cases h
 |(y,d)::l,h=>by
  by_cases e:x=y
  .subst e;exact⟨d,by simp⟩
  rcases zj.mp h with z|h
  .cases z;exact absurd rfl e
  .obtain⟨a,q⟩:=ZAf h;exact⟨a,by rw[jv,beq_eq_false_iff_ne.mpr e];exact q⟩
theorem ZGO(x:Str):(relabel scope env).names.lookup x=(scope.names.lookup x).map λk=>if(k==NameKind.free&&env.scope.kind == .function&&env.kindOf x==u7 .cell)=u9 then .cell else k:=by
 unfold relabel;generalize scope.names=l
 induction l with
 |nil=>rfl
 | cons y r b=>
  obtain⟨n,k⟩:=y;by_cases e:x=n
  .subst e;simp only[zk]
   cases c:(k==NameKind.free&&env.scope.kind==ScopeKind.function&&env.kindOf x==u7 NameKind.cell) <;>
    simp only[c,if_true,jv,beq_self_eq_true,jN,j8,if_false]
  have a:=beq_eq_false_iff_ne.mpr e;simp only[zk];split
  .rw[jv,jv,a];exact b
  rw[jv,jv,a];exact b
def blk(X:Cx)(N:List Str)(scope:xE)(C:xy)(s₀:xF)(H₀:Hp)(ex:List xy):Cx where
 prog:=X.prog
 w:=X.w
 K:=X.K
 mg:=X.mg
 base:=X.base
 A:=X.A
 N:=N
 s₀:=s₀
 H₀:=H₀
 env:=compEnvC scope (Ej X.env scope.names []) C X.env
 outer:=X.stack
 stack:=X.stack
 ex:=ex
 fn:=λ_=>uA
 calm:=X.calm
 pn:=[]
 xe:=λ_ _=>False
structure CompSc (X:Cx) (N:List Str) (scope:xE) (nt:Nat) (caps:List Nat):Prop where
 kind:scope.kind=.function
 names:∀y∈scope.names,y.2=.local->scope.names.lookup y.1=u7 .local
 nocell:∀y∈scope.names,y.2≠ .cell
 free:∀y∈scope.names,y.2=.free->X.env.kindOf y.1=u7 .cell\/X.env.kindOf y.1=u7 .free
 nd:N.Nodup
 len:N.length=nt+caps.length
 cap:∀(k j:Nat),caps[k]?=u7 j->∃x,X.N[j]?=u7 x/\N[nt+k]?=u7 x/\scope.names.lookup x=u7 .free
section
variable{X:Cx}{vP:List (xy×Obj)}{σ:St}{H:Hp}{s:xF}{N:List Str}{scope:xE}{nt:Nat}{caps:List Nat}
theorem CompSc.cells(c:CompSc X N scope nt caps)(ok:X.Ok):∀y∈scope.names,y.2=.free->∃c,X.env.cells.lookup y.1=u7 c:=λy a hk=>ok.has y.1 (c.free y a hk)
theorem CompSc.cl(c:CompSc X N scope nt caps)(ok:X.Ok)(h:(Ej X.env scope.names []).lookup x=u7 d):X.env.cells.lookup x=u7 d:=
 ZAV (c.cells ok) (λp hp=>by cases hp) (x,d) (ze h)
theorem ZP2(c:CompSc X N scope nt caps)(I:Inv X vP σ H s){fp:List xy}(hf:∀b∈fp,FpOk X vP H b){C:xy}(hC:s.heap.objs.size<=C)(hCf:C∉fp):(blk X N scope C s H fp).Ok where
 mod:=I.ok.mod
 kind:=c.kind
 glob:=I.ok.glob
 blt:=I.ok.blt
 above:=hC
 inj:=λx y d h1 h2=>I.ok.inj x y d (c.cl I.ok h1) (c.cl I.ok h2)
 has:=λx h=>by
  have h':(relabel scope X.env).names.lookup x=u7 .cell\/(relabel scope X.env).names.lookup x=u7 .free:=h;rw[ZGO]at h';have hfree:scope.names.lookup x=u7 .free:=by
   cases e:scope.names.lookup x with
   |none=>rw[e]at h';rcases h' with h'|h'<;>cases h'
   |some k=>
    rw[e]at h';cases k with
    |free=>rfl
    |cell=>exact absurd rfl (c.nocell _ (ze e))
    |_=>rcases h' with h'|h'<;>(simp at h')
  obtain⟨d,hd⟩:=Us (.inl (ze hfree));exact ZAf hd
 cab:=λx d h=>by cases h
 hd:=I.ok.hd
 frames:=I.ok.frames
 stk:=.inl rfl
 exf:=λb hb=>⟨λz=>hCf (by rw[<-show b=C from z];exact hb),λx d h=>(hf b hb).2.2.2.2.1 x d (c.cl I.ok h)⟩
 bs:=I.bs
 bsz:=z6 I.ok.bsz I.sz
 noex:=λb o e hb=>by
  rcases(hf b hb).2.2.2.1 with h|h
  .exact I.ok.noex b o e h
  exact absurd (zq (zx (I.ok.bs b o e).1) h) (qQ _)
 exfs:=λb hb hz=>by
  rcases zj.mp (I.Vu b hz)with z|z
  .exact(hf b hb).2.1 z
  exact(hf b hb).2.2.1 z
 funs:=I.stack
 frf:=I.W5
end
def Cg(g:DG)(c:DB)(te:DE)(S:DSt):List D->DH->R (List D)
 |[],G=>.ok [] G
 | x::xs,G=>(g x S G).bind λS1 G1=>(c S1 G1).bind λk G2=>
   if k=u9 then(te S1 G2).bind λd G3=>(Cg g c te S xs G3).bind λds G4=>.ok (d::ds) G4 else Cg g c te S xs G2
def Fi(i:Nat)(g:DG)(c:DB)(te:DE)(S:DSt):Nat->Nat->DH->R (List D)
 |0,j,G=>match G[i]? with
  |some (.lst xs)=>if xs.length<=j then .ok [] G else .bad
  |_=>.bad
 | n + 1,j,G=>match G[i]? with
  |some (.lst xs)=>match xs[j]? with
   | some x=>(g x S G).bind λS1 G1=>(c S1 G1).bind λk G2=>
     if k=u9 then(te S1 G2).bind λd G3=>(Fi i g c te S n (j+1) G3).bind λds G4=>.ok (d::ds) G4 else Fi i g c te S n (j+1) G2
   |none=>.ok [] G
  |_=>.bad
def Cm(f:Nat->DH->Option (Option D))(g:DG)(c:DB)(te:DE)(S:DSt):Nat->Nat->DH->R (List D)
 |0,j,G=>match f j G with
  |some u8=>.ok [] G
  |_=>.bad
 | n + 1,j,G=>match f j G with
  |some (u7 x)=>(g x S G).bind λS1 G1=>(c S1 G1).bind λk G2=>
     if k=u9 then(te S1 G2).bind λd G3=>(Cm f g c te S n (j+1) G3).bind λds G4=>.ok (d::ds) G4 else Cm f g c te S n (j+1) G2
  |some u8=>.ok [] G
  |none=>.bad
def Ax(nt:Nat)(caps:List Nat)(S:DSt):DSt:=zV nt u8++caps.map λj=>(S[j]?).join
def Bt(it:DI)(nt:Nat)(caps:List Nat)(g:DG)(c:DB)(te:DE):DE:=λS G=>(it S G).bind λJ G1=>(match J with
 |.pure xs=>Cg g c te (Ax nt caps S) xs G1
 |.mt i=>match G1[i]? with
  |some (.lst xs)=>Fi i g c te (Ax nt caps S) xs.length 0 G1
  |_=>.bad
 |.fn n f=>Cm f g c te (Ax nt caps S) n 0 G1).bind Af
def Bc:DB:=λ_ G=>.ok u9 G
def GK(nt:Nat)(g:DG):Prop:=∀d S G S1 G1,g d S G=.ok S1 G1->∀i e,nt<=i->S[i]?=u7 (u7 e)->S1[i]?=u7 (u7 e)
def GKs(nt:Nat)(g:DGs):Prop:=∀d S G S1 G1,g d S G=.ok S1 G1->∀i e,nt<=i->S[i]?=u7 (u7 e)->S1[i]?=u7 (u7 e)
theorem ZRX(h:i<nt):GK nt (gV i):=λd S G b f e j x k a=>by cases e;rw[qN (by lia)];exact a
theorem ZPY:GKs nt Al:=λd S G b f e j x h a=>by
 cases d with
 |nil=>cases e;exact a
 |cons _ _=>cases e
theorem ZNM(l:GK nt t)(m:GKs nt u):GKs nt (Ab t u):=λd S G i h e j x k n=>by
 cases d with
 |nil=>cases e
 |cons a r=>
  have b:(t a S G).bind (λi h=>u r i h)=.ok i h:=e;cases f:t a S G with
  |ok p o=>rw[f]at b;exact m _ _ _ _ _ b j x k (l _ _ _ _ _ f j x k n)
  |_=>rw[f]at b;cases b
theorem ZLk(h:GKs nt t):GK nt (Aj n t):=λd S G k f e j x a b=>by
 cases d with
 |tup i=>
  unfold Aj at e;dsimp only at e;split at e
  .exact h _ _ _ _ _ e j x a b
  cases e
 |_=>cases e
theorem ZPc(h:out E a (r.bind f) Q):
  Ep E a r (λi H=>PR3 a H r i RepS λb S G=>out E b (f S G) Q):=by
 cases r with
 |ok d G=>exact λb v x s q=>⟨b,d,G,rfl,x,s,q,rfl,out.mono x h⟩
 |_=>exact h
theorem R.bind_assoc{b d e:Type}(r:R b)(f:b->DH->R d)(g:d->DH->R e):(r.bind f).bind g=r.bind λa G=>(f a G).bind g:=by cases r<;>rfl
theorem ZBU(h:out E a (r.bind f) Q):
  outI E a r (λJ H=>PR3 a H r J RepI λb d G=>out E b (f d G) Q):=by
 cases r with
 |ok d G=>exact λb v x s q=>⟨b,d,G,rfl,x,s,q,rfl,out.mono x h⟩
 |_=>exact h
section
variable{prog:xD}{w:xI}{A:x0}{R':Result->xF->Prop}{s:xF}
def CItem(prog:xD)(w:xI)(A:x0)(target elt:xA)(ifs:List xA)(acc:xH)(env:Env)(P:xF->Prop)(v:xH)(s:xF):Prop:=
 vx (vW prog w) A (assign target env v) (λ_ s₂=>
  vx (vW prog w) A (forIn ifs u9 λc r=>if r=u9 then do let ok<-isTrue c env (eval c env);pure (ForInStep.yield ok)else pure (ForInStep.yield r)) (λok s₃=>
   if ok=u9 then vx (vW prog w) A (eval elt env) (λx s₄=>vx (vW prog w) A (call (.builtin "list.append") [acc,x]) (λ_ s₅=>P s₅) (λ_ _=>False) s₄) (λ_ _=>False) s₃
   else P s₃) (λ_ _=>False) s₂) (λ_ _=>False) s
def CTurn(prog:xD)(w:xI)(A:x0)(target elt:xA)(ifs:List xA)(it acc:xH)(env:Env)(R' P:xF->Prop)(s:xF):Prop:=
 vx (vW prog w) A (pyNext it) (λr s₁=>match r with
  |none=>R' s₁
  |some v=>vx (vW prog w) A (vX target it v) (λ_ s₁=>CItem prog w A target elt ifs acc env P v s₁) (λ_ _=>False) s₁) (λ_ _=>False) s
theorem ZOv(I:Nat->xF->Prop)
  (i:∀n s,I n s->CTurn prog w A target elt ifs it acc env (R' (.ok .next)) (λs'=>∃m,m<n/\I m s') s)
  (n:Nat) (h:I n s):
  codeAny (vW prog w) A (.compLoop (.ListComp elt [⟨target,iter,ifs,0⟩] scope pos) 0 it acc env) R' s:=by
 refine codeAny_loop rfl I (λn s u=>?_) n h
 show vx _ A ((compTurn (.ListComp elt [⟨target,iter,ifs,0⟩] scope pos) 0 it acc env).onRaise (λx=>do noteFrame x env;theTreesLotGoes x)) _ _ s
 refine wpAny_noted ?_;rw[compTurn_list];refine vE ?_ (λ_ _ q=>q) (λ_ _(f:False)=>f.elim);refine vk (wpAny_standAt (vk (vE (i n s u) (λr p a=>?_) λ_ _ b=>b)));cases r with
 |none=>exact vH a
 | some v=>
  refine vk (vE a (λ_ k a=>?_) λ_ _ b=>b);refine vk (vE a (λ_ l j=>vk (vE j (λok s₃ h₃=>?_) λ_ _ b=>b)) λ_ _ b=>b);cases ok with
  |false=>exact vH ⟨rfl,h₃⟩
  |true=>
   exact vk (vk (vE h₃ (λx o d=>vk (vE d (λ_ t e=>vH (vH ⟨rfl,e⟩)) λ_ _ b=>b)) λ_ _ b=>b))
end
def QTs(X:Cx)(E:XK)(ifs:List xA)(t:DB):Prop:=
 ∀(vP:List (xy×Obj))(s:xF)(σ:St)(H:Hp)(Q:Bool->Hp->Prop),Inv X vP σ H s->lB X.K E t σ H Q->
  vx (vW X.prog X.w) X.A (forIn ifs u9 λc r=>if r=u9 then do let ok<-isTrue c X.env (eval c X.env);pure (ForInStep.yield ok)else pure (ForInStep.yield r)) (TP X vP σ Q) X.xe s
theorem ZLR:QTs X E [] Bc:=λb s e H Q I h=>by obtain⟨a,S,G,hk,rfl,d,r,h⟩:=h;exact wpAny_tests_nil ⟨a.H,I,h a (.refl a) d⟩
theorem ZRq(d:QT X E c t):QTs X E [c] t:=λa s b H Q I h=>wpAny_tests_one (d a s b H Q I h)
section
variable{X:Cx}{E:XK}{N:List Str}{scope:xE}{nt:Nat}{caps:List Nat}{tg elt iter:xA}{ifs:List xA}{pos:Pos}{it:DI}{g:DG}{c:DB}{te:DE}
theorem ZNL(r:RepS a S σ):RepS a (Ax nt caps S) (zV nt u8++caps.map λj=>(σ[j]?).join):=by
 refine⟨by simp[Ax],λi d h=>?_⟩;unfold Ax at h;by_cases f:i<nt
 .rw[qJ (by simpa using f),jq]at h
  split at h<;>cases h
 rw[zG (by simpa using f),zw]at h;rw[zG (by simpa using f),zw];rw[jT]at h⊢;cases e:caps[i-nt]? with
 |none=>rw[e]at h;cases h
 | some j=>
  rw[e]at h;have b:(S[j]?).join=u7 d:=by simpa using h
  have l:S[j]?=u7 (u7 d):=by
   cases q:S[j]? with
   |none=>rw[q]at b;cases b
   |some o=>
    rw[q]at b;have k:o=u7 d:=b;rw[k]
  obtain⟨v,m,n⟩:=r.get j d l;exact⟨v,by simp[m],n⟩
theorem ZHe(h:(Ax nt caps S)[i]?=u7 (u7 d)):nt<=i:=by
 unfold Ax at h;by_cases a:i<nt
 .rw[qJ (by simpa using a),jq]at h
  split at h<;>cases h
 lia
theorem ZBB(hc:X.calm=u9)(cs:CompSc X N t nt caps)
  (hg:∀C s₀ H₀ ex,QG (blk X N t C s₀ H₀ ex) E0 tg g) (gk:GK nt g) (hts:∀C s₀ H₀ ex,QTs (blk X N t C s₀ H₀ ex) E0 ifs c) (he:∀C s₀ H₀ ex,QE (blk X N t C s₀ H₀ ex) E0 elt te)
  {vP:List (xy×Obj)} {σ:St} {s:xF} {a:Wd} {S:DSt} {G:DH} {J:It} {n0:Nat} {f:Nat->DH->Option (Option D)} {i0:xy} {fp:List xy} {tn:Nat->Heap->Prop} (I:Inv X vP σ a.H s) (hk:a.K=X.K) (sm:Sim a G) (rS:RepS a S σ)
  (T:Turn X.prog X.w X.K tg J fp i0 tn) (t0:tn 0 s.heap) (hf:∀b∈fp,FpOk X vP a.H b) (rJ:RepI a (.fn n0 f) J) {Q:VK}
  (h:out E0 a ((Cm f g c te (Ax nt caps S) n0 0 G).bind Af) Q)
  {RR:xH->xy->Result->xF->Prop} {E':xH->xF->Prop}
  (hRR:∀(D C:xy)(s':xF)(b:Wd)(vs:List V),Inv X vP σ (upd b.H D (.lst vs)) s'->b.H D=u8->s.heap.objs.size<=C->D≠C->(∃m,s'.heap.Ns C m)->b.H C=u8->Q (.ref D) (upd b.H D (.lst vs))->RR (.ref D) C (.ok .next) s'):
  vx (vW X.prog X.w) X.A (newList []) (λF s₃=>vx (vW X.prog X.w) X.A (newFunctionEnv t X.env.globals (Ej X.env t.names []) [] X.env.qual u8 .none (u7 X.env)) (λcenv s₄=>
   codeAny (vW X.prog X.w) X.A (.compStart (.ListComp elt [⟨tg,iter,ifs,0⟩] t pos) 0 (.ref i0) F {cenv with scope:=relabel t X.env}) (RR F cenv.locals) s₄) E' s₃) E' s:=by
 refine vF (wpAny_newFunctionEnv cs.nocell (by intro y hy;simp at hy) (λh₁ hns₁ W=>?_) cs.kind);dsimp only at hns₁ W⊢;generalize hH2:s.heap.push {cls:=.type "list",dict:=u8,data:=.seq ([]:List xH).toArray}=H2 at hns₁ W⊢;have hC:H2.objs.size=s.heap.objs.size+1:=by rw[<-hH2,qk]
 have hDC:s.heap.objs.size≠H2.objs.size:=by rw[hC];exact z8 (qZ _)
 have hCle:s.heap.objs.size<=H2.objs.size:=hC▸jk _;have fpOld:∀b∈fp,b<s.heap.objs.size:=λb hb=>by obtain⟨o,e,_⟩:=T.obj 0 _ t0 b hb;exact zx e
 have hDf:s.heap.objs.size∉fp:=λhm=>qQ _ (fpOld _ hm)
 have hCf:H2.objs.size∉fp:=λhm=>by have:=fpOld _ hm;rw[hC]at this;exact qQ _ (Nat.lt_of_succ_lt this)
 have old:∀b o,s.heap.get? b=u7 o->h₁.get? b=u7 o:=λb o e=>
  W.extBut b o (by rw[hC];exact z8 (qP (zx e))) (zQ _ (hH2▸zQ _ e))
 have hacc:h₁.PlainList s.heap.objs.size ([]:List xH).toArray:=⟨_,W.extBut _ _ hDC (zQ _ (hH2▸z0 _ rfl))⟩;generalize hCe:H2.objs.size=C at*;generalize hDe:s.heap.objs.size=M at*;let B:=blk X N t C s a.H fp;have okB:=ZP2 cs I hf (hDe▸hCle) hCf;let σ0:St:=.replicate nt u8++caps.map λj=>(σ[j]?).join
 have start:∀tk,Inv B [] σ0 a.H {s with heap:=h₁,toks:=tk}:=λtk=>by
  refine⟨okB,rfl,I.bare,Un.kept old,⟨_,hns₁,λi x v e1 e2 e3=>?_⟩,λx d' e=>?_,I.hok.fresh (hDe▸hCle),λx d' e=>?_,λp hp=>?_,I.hok.kept old,?_⟩
  .have hi:nt<=i:=by
    by_cases hi:i<nt
    .have e2':=e2;rw[qJ (by simpa using hi),jq]at e2'
     split at e2'<;>cases e2'
    lia
   have e2':=e2;rw[zG (by simpa using hi),zw,jT]at e2';cases ej:caps[i-nt]? with
   |none=>rw[ej]at e2';cases e2'
   | some j=>
    rw[ej]at e2';have h1:(σ[j]?).join=u7 v:=by simpa using e2'
    have h2:σ[j]?=u7 (u7 v):=by
     cases q:σ[j]? with
     |none=>rw[q]at h1;cases h1
     |some o=>
      rw[q]at h1;have h1':o=u7 v:=h1;rw[h1']
    obtain⟨y,ey,en,ek⟩:=cs.cap (i-nt) j ej;have exy:x=y:=by
     have:nt+(i-nt)=i:=by lia
     rw[this]at en;have e1':N[i]?=u7 x:=e1;rw[e1']at en;exact Option.some.inj en
    subst exy;have kx:=cs.free (x,.free) (ze ek) rfl;have vis:Vis X.env.scope x:=by
     rcases kx with kx|kx
     .exact .inr (.inl kx)
     exact .inr (.inr kx)
    obtain⟨m,hn,hl⟩:=I.loc;obtain⟨u,ru,lk⟩:=hl j x v ey h2 vis;refine⟨u,ru,?_⟩;rcases lk with⟨k1,_⟩|⟨k1,c1,ec,hcell⟩
    .rcases kx with kx|kx
     .rw[k1]at kx;cases kx
     rw[k1]at kx;cases kx
    refine .inr ⟨?_,c1,?_,?_⟩
    .show(relabel t X.env).names.lookup x=u7 .cell\/(relabel t X.env).names.lookup x=u7 .free;rw[ZGO,ek];simp only[jN];split
     .exact .inl rfl
     exact .inr rfl
    .obtain⟨d1,hd1⟩:=Us (.inl (ze ek));obtain⟨d2,hd2⟩:=ZAf hd1;have:=cs.cl I.ok hd2;rw[ec]at this;cases this;exact hd2
    .obtain⟨o,e,dd⟩:=hcell;exact⟨o,old _ _ e,dd⟩
  .obtain⟨v,o,e',dd⟩:=I.cell x d' (cs.cl I.ok e);exact⟨v,o,old _ _ e',dd⟩
  .exact I.G9 x d' (cs.cl I.ok e)
  .exact absurd hp (by simp[B,blk])
  show σ0.length=N.length;rw[cs.len];simp[σ0]
 have young:∀b∈fp,b≠C:=λb hb z=>hCf (z▸hb)
 have fpB:∀{H':Hp}{ps:List (xy×Obj)},(∀b∈fp,H' b=u8)->(∀p∈ps,p.1∉fp)->∀b∈fp,FpOk B ps H' b:=λ{H' ps}hn hps b hb=>
  ⟨hn b hb,young b hb,okB.exfs b hb,.inl hb,λx d' e=>(hf b hb).2.2.2.2.1 x d' (cs.cl I.ok e),λp hp z=>by exact hps p (by simpa[B,blk]using hp) (z▸hb)⟩
 have nstk:M∉frs X.stack:=λz=>by
  rcases zj.mp (I.Vu M z)with z|z
  .have:=I.lt;rw[hDe,<-z]at this;exact qQ _ this
  exact I.nofs (hDe▸zY _) z
 have pinD:∀{L:St}{H':Hp}{s':xF}{l:List xH}{nD:Nat},Inv B [] L H' s'->s'.heap.get? M=u7 {cls:=.type "list",data:=.seq l.toArray nD}->H' M=u8->Inv B [(M,{cls:=.type "list",data:=.seq l.toArray nD})] L H' s':=λ{L H' s' l nD}J e n=>
  J.Kz λp hp=>by
   have ep:p=(M,{cls:=.type "list",data:=.seq l.toArray nD}):=by simpa using hp
   subst ep;exact⟨e,n,hDC,nstk,λv' z=>by cases z⟩
 have fin:∀(s':xF)(b:Wd)(L:St)(l:List xH)(U:List D)(G':DH),Inv B [] L b.H s'->Ext a b->Sim b G'->s'.heap.PlainList M l.toArray->b.H M=u8->(∃vs,Vals vs l/\Reps b U vs)->out E0 b (Af U G') Q->RR (.ref M) C (.ok .next) s':=by
  intro s' b L l U G' IB x sb pl hD ⟨vs,hv,rv⟩ hq;have hz:U.length<=1000000:=by
   unfold Af at hq;split at hq
   .assumption
   exact hq.elim
  obtain⟨n,eD⟩:=pl;have ylt:∀{q:xy}{o:Obj},s.heap.get? q=u7 o->q≠M:=λe z=>by rw[z,<-hDe]at e;exact absurd (zx e) (qQ _)
  have Ia:Inv X vP σ (upd b.H M (.lst vs)) s':=by
   refine Zf (I.call' IB.os IB.base IB.hok IB.bare λb hb=>⟨(hf b hb).2.2.2.1,(hf b hb).2.1,(hf b hb).2.2.2.2.1,(hf b hb).2.2.2.2.2⟩) hD (by rw[<-hDe];exact I.sz) ?_ (λy c' ec=>?_) (λp hp=>?_) ⟨?_,l,n,hv,eD⟩
   .rw[<-hDe];exact jY I.lt
   .obtain⟨v,o,e,_⟩:=I.cell y c' ec;exact ylt e
   .exact ylt (I.pin p hp).1
   rw[<-rv.length];exact z6 hz size6
  refine hRR M C s' b vs Ia hD hCle hDC (let⟨m,hn,_⟩:=IB.loc;⟨m,hn⟩) IB.free ?_;unfold Af at hq;rw[if_pos hz]at hq;exact Jq sb rv hq M hD
 have turnX:∀(P:xF->Prop)(rest:DH->R (List D))(s1:xF)(b:Wd)(G1:DH)(σ1:St)(l:List xH)(F:List D)(u:xH)(v:V)(x:D)(i:Nat),Inv B [] σ1 b.H s1->Ext a b->Sim b G1->RepS b (Ax nt caps S) σ1->tn i s1.heap->(∀q∈fp,b.H q=u8)->
   s1.heap.PlainList M l.toArray->b.H M=u8->(∃vs,Vals vs l/\Reps b F vs)->RelV v u->Rep b x v->
   out E0 b (((g x (Ax nt caps S) G1).bind λS1 G1=>(c S1 G1).bind λk G2=>if k=u9 then(te S1 G2).bind λd G3=>(rest G3).bind λU G4=>.ok (d::U) G4 else rest G2).bind λU G=>Af (F++U) G) Q->
   (∀(s2:xF)(b2:Wd)(G2:DH)(Z:St)(its2:List xH)(acc2:List D),Inv B [] Z b2.H s2->Ext a b2->Sim b2 G2->RepS b2 (Ax nt caps S) Z->tn i s2.heap->(∀q∈fp,b2.H q=u8)->
    s2.heap.PlainList M its2.toArray->b2.H M=u8->(∃vs,Vals vs its2/\Reps b2 acc2 vs)->out E0 b2 ((rest G2).bind λU G=>Af (acc2++U) G) Q->P s2)->
   CItem X.prog X.w X.A tg elt ifs (.ref M) B.env P u s1:=by
  intro P rest s1 b G1 σ1 l F u v x i I1 x1 sb rSb t1 hfp pl hD hacc' ru rx hq next
  rw[R.bind_assoc]at hq;obtain⟨nD,eD⟩:=id pl;let pinD:List (xy×Obj):=[(M,{cls:=.type "list",data:=.seq l.toArray nD})];have pinOk:∀{L:St}{H':Hp}{s':xF},Inv B (pinD++Ng fp s1.heap) L H' s'->s'.heap.PlainList M l.toArray/\H' M=u8/\tn i s'.heap/\∀q∈fp,H' q=u8:=λ{L H' s'}J=>by
   have p1:=J.pin (M,{cls:=.type "list",data:=.seq l.toArray nD}) (zD _ (j1 _ (by simp[pinD])));refine⟨⟨nD,p1.1⟩,p1.2.1,T.keep _ _ _ t1 λq O o e=>(J.pin (q,o) (zD _ (zD _ (Tg O e)))).1,λq O=>?_⟩;obtain⟨o,e,_⟩:=T.obj _ _ t1 q O;exact(J.pin (q,o) (zD _ (zD _ (Tg O e)))).2.1
  have I2:Inv B (pinD++Ng fp s1.heap) σ1 b.H s1:=I1.Kz λp hp=>by
   rcases jI.mp hp with hp|hp
   .have e:p=(M,{cls:=.type "list",data:=.seq l.toArray nD}):=by simpa[pinD]using hp
    subst e;exact⟨eD,hD,hDC,λz=>(nstk z),λv' z=>by cases z⟩
   obtain⟨hb,e⟩:=ZCv hp;obtain⟨f0,f1,f2,_⟩:=fpB (ps:=[]) hfp (λp hp=>by cases hp) p.1 hb;obtain⟨o,e',dd⟩:=T.obj _ _ t1 p.1 hb;rw[e]at e';cases e';exact⟨e,f0,f1,f2,dd⟩
  refine thn (hg C s a.H fp _ s1 σ1 b.H v u _ I2 ru ⟨b,Ax nt caps S,G1,x,x1.k.trans hk,rfl,sb,rSb,rx,(ZPc hq).imp λ_ _ z=>z⟩) ?_;rintro _ s2 ⟨Z,H2',J2,b2,S2,G2,rfl,y2,sb2,rS2,eg,hq2⟩;rw[R.bind_assoc]at hq2;have rS2':RepS b2 (Ax nt caps S) Z:=⟨by rw[rSb.len,I1.len];exact J2.len.symm,λj e' hj=>rS2.get j e' (gk _ _ _ _ _ eg j e' (ZHe hj) hj)⟩
  refine thn (hts C s a.H fp _ s2 Z b2.H _ J2 ⟨b2,S2,G2,y2.k.trans (x1.k.trans hk),rfl,sb2,rS2,(ZBf hq2).imp λ_ _ z=>z⟩) ?_;rintro k s3 ⟨H3,J3,b3,G3,rfl,y3,sb3,_,hq3⟩;cases k with
  |false=>
   obtain⟨p1,p2,p3,p4⟩:=pinOk J3;obtain⟨vs,hv,rv⟩:=hacc'
   exact next s3 b3 G3 Z l F (J3.Kz λp hp=>by cases hp) (x1.trans (y2.trans y3)) sb3 (rS2'.mono y3) p3 p4 p1 p2 ⟨vs,hv,(rv.mono y2).mono y3⟩ hq3
  | true=>
   have hq3':out E0 b3 (((te S2 G3).bind λd G3=>(rest G3).bind λU G4=>.ok (d::U) G4).bind λU G=>Af (F++U) G) Q:=hq3;rw[R.bind_assoc]at hq3';refine thn (he C s a.H fp _ s3 Z b3.H _ J3 ⟨b3,S2,G3,y3.k.trans (y2.k.trans (x1.k.trans hk)),rfl,sb3,rS2.mono y3,(Ea hq3').imp λ_ _ z=>z⟩) ?_;rintro w s4 ⟨vw,H4,J4,rw',b4,d4,G4,rfl,y4,sb4,q4,_,hq4⟩;obtain⟨p1,p2,p3,p4⟩:=pinOk J4;rw[R.bind_assoc]at hq4;have Y:out E0 b4 ((rest G4).bind λU G=>Af ((F++[d4])++U) G) Q:=by
    have e:(λ(U:List D)(G:DH)=>(R.ok (d4::U) G).bind λU G=>Af (F++U) G)=λU G=>Af ((F++[d4])++U) G:=by funext U G;simp
    rw[<-e];exact hq4
   obtain⟨vs,hv,rv⟩:=hacc';have hsz:l.toArray.size<=sizeLine:=by
    have:F.length<=1000000:=by
     cases hr:rest G4 with
     |ok U G5=>
      rw[hr]at Y;have hq5:out E0 b4 (Af ((F++[d4])++U) G5) Q:=Y;unfold Af at hq5;split at hq5
      .rename_i hl;simp at hl;lia
      exact hq5.elim
     |err e' G5=>rw[hr]at Y;exact(Y.1 rfl).elim
     |bad=>rw[hr]at Y;exact Y.elim
    rw[zK,<-hv.length,<-rv.length];exact z6 this size6
   refine wpAny_list_append_plain p1 (λh' hpl hsb=>?_) hsz;have J5:Inv B [] Z b4.H {s4 with heap:=h'}:=by refine(J4.Kz λp hp=>by cases hp).turned (λq o O e=>(hsb.2 q O).trans e) p2 hDC (.inr (by show s.heap.objs.size<=M;rw[hDe];exact zY _)) (λy c' ec=>?_) (λp hp=>absurd hp (by simp[B,blk]));obtain⟨v',o,e,_⟩:=I.cell y c' (cs.cl I.ok ec);intro z;rw[z,<-hDe]at e;exact absurd (zx e) (qQ _)
   refine next _ b4 G4 Z (l++[w]) (F++[d4]) J5 (x1.trans (y2.trans (y3.trans y4))) sb4 ((rS2'.mono y3).mono y4) (T.keep _ _ _ p3 λq O o e=>(hsb.2 q (λz=>hDf (z▸O))).trans e) p4 (by simpa using hpl) p2 ⟨vs++[vw],hv.append (.cons rw' .nil),(((rv.mono y2).mono y3).mono y4).append (.cons q4 Reps.nil)⟩ Y
 have loop:∀s₃:xF,s₃={s with heap:=h₁,toks:=s.toks+([]:List (Str×xH)).length}->
   codeAny (vW X.prog X.w) X.A (.compLoop (.ListComp elt [⟨tg,iter,ifs,0⟩] t pos) 0 (.ref i0) (.ref M) B.env) (RR (.ref M) C) s₃:=by
  rintro s₃ rfl;have walk:=rJ;obtain⟨Iv,hIv⟩:∃Iv:Nat->xF->Prop,∀m s',Iv m s'↔∃(i:Nat)(b:Wd)(G':DH)(L:St)(l:List xH)(F:List D),Inv B [] L b.H s'/\Ext a b/\Sim b G'/\RepS b (Ax nt caps S) L/\tn i s'.heap/\(∀q∈fp,b.H q=u8)/\s'.heap.PlainList M l.toArray/\b.H M=u8/\(∃vs,Vals vs l/\Reps b F vs)/\out E0 b ((Cm f g c te (Ax nt caps S) m i G').bind λU G=>Af (F++U) G) Q:=⟨_,λ_ _=>Iff.rfl⟩;refine ZOv Iv (λm s' h'=>?_) n0 ((hIv _ _).2 ⟨0,a,G,σ0,[],[],start _,Ext.refl a,sm,ZNL rS,T.keep _ _ _ t0 λq _ o e=>old q o e,λq hq=>(hf q hq).1,hacc,I.hok.fresh (hDe▸zY _),⟨[],.nil,rfl⟩,by simpa using h⟩)
  obtain⟨i,b,G',L,l,F,IB,x,sb,rSb,ti,hfp,pl,hD,hac,hq⟩:=(hIv _ _).1 h';clear h';obtain⟨nD,eD⟩:=pl;have I0:=pinD IB eD hD;have f0:=fpB (ps:=[(M,{cls:=.type "list",data:=.seq l.toArray nD})]) hfp (λp hp=>by
   have ep:p=(M,{cls:=.type "list",data:=.seq l.toArray nD}):=by simpa using hp
   subst ep;exact hDf)
  have stop:J.stop i b.H->out E0 b (Af F G') Q->∀P,CTurn X.prog X.w X.A tg elt ifs (.ref i0) (.ref M) B.env (RR (.ref M) C (.ok .next)) P s':=by intro st O P;refine thn (T.done B rfl rfl rfl hc i _ s' L b.H _ I0 f0 ti st) ?_;rintro r s1 ⟨rfl,I2⟩;have pD:=(I2.pin (M,{cls:=.type "list",data:=.seq l.toArray nD}) (zD _ (by simp))).1;exact fin s1 b L l F G' (I2.Kz λp hp=>by cases hp) x sb ⟨nD,pD⟩ hD hac O
  cases m with
  |zero=>
   unfold Cm at hq;split at hq
   .rename_i hf;exact stop ((walk b x G' sb i).2 hf) (by have O:out E0 b (Af (F++[]) G') Q:=hq;rw[qV]at O;exact O) _
   exact hq.elim
  | succ m=>
   unfold Cm at hq;split at hq
   .rename_i d1 hf;obtain⟨go,yl⟩:=(walk b x G' sb i).1 d1 hf;refine thn (T.item B rfl rfl rfl hc i _ s' L b.H _ I0 f0 ti go) ?_;rintro r s1 ⟨u,rfl,hgo⟩;refine thn hgo ?_;rintro _ s2 ⟨v,H',I2,ru,y,t2,hfp2⟩;obtain⟨cc,rfl,xx,ss,rd⟩:=yl v H' y;have pD:=I2.pin (M,{cls:=.type "list",data:=.seq l.toArray nD}) (zD _ (by simp));obtain⟨vs1,hv1,rv1⟩:=hac;refine turnX _ (λG3=>Cm f g c te (Ax nt caps S) m (i+1) G3) s2 cc G' L l F u _ d1 (i+1) (I2.Kz λp hp=>by cases hp) (x.trans xx) ss (rSb.mono xx) t2 hfp2 ⟨nD,pD.1⟩ pD.2.1 ⟨vs1,hv1,rv1.mono xx⟩ ru rd (out.mono xx hq) ?_
    intro s3 b3 G3 σ3 its3 acc3 a1 a2 a3 a4 a5 a6 a7 a8 a9 a10;exact⟨m,qZ _,(hIv _ _).2 ⟨i+1,b3,G3,σ3,its3,acc3,a1,a2,a3,a4,a5,a6,a7,a8,a9,a10⟩⟩
   .rename_i hf;exact stop ((walk b x G' sb i).2 hf) (by have O:out E0 b (Af (F++[]) G') Q:=hq;rw[qV]at O;exact O) _
   exact hq.elim
 exact codeAny_compStart_list (loop _ rfl) (T.self _ 0 _ _ _ (T.keep _ _ _ t0 λq _ o e=>old q o e) (loop _ rfl))
theorem ZAO{g:DG}{c:DB}{b:DE}{S:DSt}{xs:List D}:∀(n j:Nat)(G:DH),j+n=xs.length->Cg g c b S (xs.drop j) G=Cm (λj _=>u7 xs[j]?) g c b S n j G
 |0,j,G,h=>by
  rw[zU (by lia)]
  show _=(match u7 xs[j]? with |some u8=>R.ok [] G|_=>.bad)
  rw[z7 (by lia)]
  rfl
 |n+1,j,G,h=>by
  have a:j<xs.length:=by lia
  rw[zO a]
  show(g xs[j] S G).bind _=(match u7 xs[j]? with |some (u7 x)=>_|some u8=>R.ok [] G|none=>.bad)
  rw[zJ a];dsimp only
  congr 1
  funext l i
  congr 1
  funext k f;rw[ZAO n (j+1) f (by lia)]
  congr 1
  congr 1
  funext d e;rw[ZAO n (j+1) e (by lia)]
theorem ZE5{g:DG}{c:DB}{a:DE}:∀(n j:Nat)(G:DH),Fi i g c a S n j G=Cm (mtF i) g c a S n j G
 | 0,j,G=>by
  unfold Fi Cm mtF;cases G[i]? with
  |none=>rfl
  | some o=>
   cases o with
   |lst b=>
    dsimp only;by_cases d:j<b.length
    .rw[if_neg (by lia),zJ d]
    rw[if_pos (by lia),z7 (by lia)]
   |_=>rfl
 | n+1,j,G=>by
  have e:(Fi i g c a S n (j+1))=Cm (mtF i) g c a S n (j+1):=funext λG=>ZE5 n (j+1) G
  unfold Fi Cm;rw[e];unfold mtF;cases G[i]? with
  |none=>rfl
  | some o=>
   cases o with
   |lst b=>
    dsimp only
    cases b[j]?<;>rfl
   |_=>rfl
theorem ZBa(hc:X.calm=u9)(cs:CompSc X N scope nt caps)
  (hg:∀C s₀ H₀ ex,QG (blk X N scope C s₀ H₀ ex) E0 tg g) (gk:GK nt g) (hts:∀C s₀ H₀ ex,QTs (blk X N scope C s₀ H₀ ex) E0 ifs c) (he:∀C s₀ H₀ ex,QE (blk X N scope C s₀ H₀ ex) E0 elt te)
  {vP:List (xy×Obj)} {σ:St} {s:xF} {a:Wd} {S:DSt} {G:DH} {J:It} {d:ItD} {i0:xy} {fp:List xy} {tn:Nat->Heap->Prop} (I:Inv X vP σ a.H s) (hk:a.K=X.K) (sm:Sim a G) (rS:RepS a S σ)
  (T:Turn X.prog X.w X.K tg J fp i0 tn) (t0:tn 0 s.heap) (hf:∀b∈fp,FpOk X vP a.H b) (rJ:RepI a d J) {Q:VK}
  (h:out E0 a ((match d with
   |.pure xs=>Cg g c te (Ax nt caps S) xs G
   |.mt i=>match G[i]? with
    |some (.lst xs)=>Fi i g c te (Ax nt caps S) xs.length 0 G
    |_=>.bad
   |.fn n f=>Cm f g c te (Ax nt caps S) n 0 G).bind Af) Q)
  {RR:xH->xy->Result->xF->Prop} {E':xH->xF->Prop}
  (hRR:∀(D C:xy)(s':xF)(b:Wd)(vs:List V),Inv X vP σ (upd b.H D (.lst vs)) s'->b.H D=u8->s.heap.objs.size<=C->D≠C->(∃m,s'.heap.Ns C m)->b.H C=u8->Q (.ref D) (upd b.H D (.lst vs))->RR (.ref D) C (.ok .next) s'):
  vx (vW X.prog X.w) X.A (newList []) (λacc s₃=>vx (vW X.prog X.w) X.A (newFunctionEnv scope X.env.globals (Ej X.env scope.names []) [] X.env.qual u8 .none (u7 X.env)) (λcenv s₄=>
   codeAny (vW X.prog X.w) X.A (.compStart (.ListComp elt [⟨tg,iter,ifs,0⟩] scope pos) 0 (.ref i0) acc {cenv with scope:=relabel scope X.env}) (RR acc cenv.locals) s₄) E' s₃) E' s:=by
 cases d with
 |pure xs=>
  have h':out E0 a ((Cg g c te (Ax nt caps S) (xs.drop 0) G).bind Af) Q:=h;rw[ZAO xs.length 0 G (by lia)]at h';exact ZBB hc cs hg gk hts he I hk sm rS T t0 hf (ZBq rJ) h' hRR
 |mt k=>
  dsimp only at h;split at h
  .rename_i xs hx;rw[ZE5]at h;exact ZBB hc cs hg gk hts he I hk sm rS T t0 hf (ZDx rJ) h hRR
  exact h.elim
 |fn n0 f=>exact ZBB hc cs hg gk hts he I hk sm rS T t0 hf rJ h hRR
end
section
variable{X:Cx}{N:List Str}{scope:xE}{nt:Nat}{caps:List Nat}{tg elt iter:xA}{ifs:List xA}{pos:Pos}{it:DI}{g:DG}{c:DB}{te:DE}
theorem letGo{vP:List (xy×Obj)}{l:St}{H:Hp}{j s':xF}{h':Heap}{C:xy}{t':Nat}{i:St}{t:Hp}(f:Inv X vP i t j)(u:Inv X vP l H s')(h:j.heap.objs.size<=C)(n:H C=u8)(k:qL C s'.heap h'):Inv X vP l H {s' with heap:=h',toks:=t'}:=by
 have a:∀{b:xy}{o:Obj},j.heap.get? b=u7 o->b≠C:=λe z=>by rw[z]at e;exact absurd (zq (zx e) h) (qQ _)
 refine u.turned (λb o r e=>(k.2 b r).trans e) n (jY (zq f.lt h)) (.inr (z6 f.sz h)) (λx s e=>?_) λp hp=>(a (f.pin p hp).1)
 .obtain⟨v,o,q,_⟩:=f.cell x s e;exact a q
theorem ZRy(L:X.calm=u9)(cs:CompSc X N scope nt caps)(U:QI X E0 tg iter it)
  (F:∀C e f i,QG (blk X N scope C e f i) E0 tg g) (A:GK nt g) (n:∀C e f i,QTs (blk X N scope C e f i) E0 ifs c) (M:∀C e f i,QE (blk X N scope C e f i) E0 elt te)
  (K:∀x,foldedSetIterable iter X.env x=pure x:=by intro _;rfl):QE X E0 (.ListComp elt [⟨tg,iter,ifs,0⟩] scope pos) (Bt it nt caps g c te):=by
 intro j s O H Q I h;obtain⟨a,S,G,hk,rfl,Y,r,h⟩:=h;rw[eval_ListComp];refine wpAny_comprehension_free rfl K (ZGP (cs.cells I.ok)) cs.kind cs.names (thn (U j s O a.H _ I ⟨a,S,G,hk,rfl,Y,r,(ZBU h).imp λ_ _ z=>z⟩) λxv s1 o=>thn o λw s2 y=>?_);obtain⟨i0,fp,tn,J,H2,rfl,u,T,P,B,b,d,G1,rfl,x,W,Z,_,o⟩:=y;refine ZBa L cs F A n M u (x.k.trans hk) W (r.mono x) T P B Z o ?_;intro D C s' b vs Ia hD l p ⟨m,v⟩ t E
 refine⟨m,v,λh' q=>⟨.ref D,_,letGo u Ia l ?_ q,rfl,E⟩⟩;rw[Ai (.symm p)];exact t
theorem ZIk(i:Nat){y:Str}{U n:Pos}(hc:X.calm=u9)(hN:X.N.Nodup)(cs:CompSc X N scope nt caps)(hi:QI X E0 tg iter it)
  (hg:∀C f j t,QG (blk X N scope C f j t) E0 tg g) (gk:GK nt g) (A:∀C f j t,QTs (blk X N scope C f j t) E0 ifs c) (he:∀C f j t,QE (blk X N scope C f j t) E0 elt te)
  (hy:X.N[i]?=u7 y:=by rfl) (hx:Loc X.env.scope y:=by first|exact Or.inl rfl|exact Or.inr rfl) (hf:X.fn y=u9\/X.env.scope.names.lookup y=u7 .local:=by first|exact .inl rfl|exact .inr rfl|assumption)
  (Q:swapsWith (.ListComp elt [⟨tg,iter,ifs,0⟩] scope pos) (u7 (.Name y U)) n.line X.env=pure u9:=by rfl)
  (hs:∀x,foldedSetIterable iter X.env x=pure x:=by intro _;rfl):QS X E0 (.Assign [.Name y U] (.ListComp elt [⟨tg,iter,ifs,0⟩] scope pos) n) (sAs (Bt it nt caps g c te) (gV i)):=by
 intro u s σ H W I h;obtain⟨a,S,G,hk,rfl,sm,r,h⟩:=h;have h0:=Gg h;rw[exec_Assign_Name_used _ _ _ _ Q];refine vk (wpAny_standAt (vk ?_));refine vk (vE (wpAny_comprehension_free rfl hs (ZGP (cs.cells I.ok)) cs.kind cs.names
  (thn (hi u s σ a.H _ I ⟨a,S,G,hk,rfl,sm,r,(ZBU h0).imp λ_ _ z=>z⟩) λxv s1 F=>thn F λitv s2 h2=>?_)) (λ_ s' K=>vH (vH K)) λ_ _ e=>e)
 obtain⟨i0,fp,tn,J,H2,rfl,w,T,t0,f2,b,d,G1,rfl,x,sb,rJ,_,F⟩:=h2;refine ZBa hc cs hg gk A he w (x.k.trans hk) sb (r.mono x) T t0 f2 rJ F ?_;intro D C s' b' vs Ia hD l M ⟨m,Z⟩ P K;refine wpAny_assign_Name (ZCA Ia hN hy hx (v:=.ref D) rfl (λs'' B E=>?_) hf);obtain⟨a',q,p⟩:=E;have L:C≠a':=by
  rintro rfl;rcases p with rfl|p
  .exact absurd (zq w.lt l) (qQ _)
  obtain⟨v,o,e',_⟩:=w.cell _ _ p;exact absurd (zq (zx e') l) (qQ _)
 refine⟨m,Z.sameBut q L,λh' O=>⟨_,_,letGo w B l ?_ O,?_⟩⟩
 .rw[Ai (.symm M)];exact P
 obtain⟨Y,d3,G3,e3,x3,s3,q3,_,h3⟩:=K;rw[<-e3];exact h3 Y _ (.refl Y) s3 ((r.mono x3).set i q3)
end
def Fo:D->DH->R D
 |.int i,G=>.ok (.int (-i)) G
 |_,_=>.bad
def K3:D->Bool
 |.non=>u9
 |_=>uA
def Rv:D->D->DH->R D
 |d,.non,G=>.ok (.bl (K3 d)) G
 |_,_,_=>.bad
def Kq:D->D->DH->R D
 |d,.non,G=>.ok (.bl (!K3 d)) G
 |_,_,_=>.bad
noncomputable def O2:D->Option V
 |.non=>u7 .non
 |.bl b=>u7 (.bl b)
 |.int i=>u7 (.int i)
 |.str x=>u7 (.str x)
 |_=>u8
def K5:List D->Option (List V)
 |[]=>u7 []
 |d::r=>match O2 d,K5 r with
  |some v,u7 vs=>u7 (v::vs)
  |_,_=>u8
def inD(d e:D)(G:DH):Option Bool:=match e with
 |.str j=>match d with
  |.str i=>u7 (!(ja j i 0 j.length 1).isEmpty)
  |_=>u8
 |e=>match Bd e G,O2 d with
  |some xs,u7 v=>(K5 xs).map λvs=>inV v vs
  |_,_=>u8
def Jv(d e:D)(G:DH):R D:=match inD d e G with
 |some k=>.ok (.bl k) G
 |none=>.bad
def Gm(d e:D)(G:DH):R D:=match inD d e G with
 |some k=>.ok (.bl (!k)) G
 |none=>.bad
section
variable{X:Cx}{E:XK}{a b:xA}{ta tb:DE}{pos:Pos}
theorem ZMC:UnR X (unaryOp .USub) (lR1 X.K E Fo):=λc s f H x v Q I g h=>by
 obtain⟨a,G,d,hk,rfl,j,e,q⟩:=h;cases d with
 |int i=>exact ZQc c s f a.H x v Q I g ⟨i,e,q a _ (.refl a) j rfl⟩
 |_=>exact q.elim
theorem ZNa(ho:UnR X (unaryOp op) (lR1 X.K E f))(g:QE X E a ta):QE X E (.UnaryOp op a pos) (dUn f ta):=(ZQT ho g).mono λj H Q h=>by obtain⟨a,S,G,hk,rfl,s,r,h⟩:=h;refine⟨a,S,G,hk,rfl,s,r,(Ea h).imp ?_⟩;rintro v _ ⟨b,d,c,rfl,x,i,q,-,e⟩;exact⟨b,c,d,x.k.trans hk,rfl,i,q,e⟩
theorem ZEe{a:Wd}(c:Rep a d x):decide (x=V.non)=K3 d:=by
 cases d with
 |tup _|fl _=>obtain⟨p,e,rfl,_⟩:=c;rfl
 |ref _=>rw[c.2];rfl
 |_=>rw[c];rfl
theorem o_is:OpR X (vQ .Is) (lR2 X.K E Rv):=Ex ZMZ λa G d e x y Q hk s c f q=>by
 cases e with
 |non=>exact⟨f,by rw[ZEe c];cases d<;>exact q a _ (.refl a) s rfl⟩
 |_=>cases d<;>exact q.elim
theorem ZNi:OpR X (vQ .IsNot) (lR2 X.K E Kq):=Ex ZQo λa G d e x y Q hk s c f q=>by
 cases e with
 |non=>exact⟨f,by rw[ZEe c];cases d<;>exact q a _ (.refl a) s rfl⟩
 |_=>cases d<;>exact q.elim
theorem ZC5{a:Wd}(r:Rep a d x)(h:O2 d=u7 v):x=v/\Cp v=u9:=by
 cases d<;>first
  |(cases h;exact⟨r,rfl⟩)
  |cases h
theorem ZFl{a:Wd}:∀{c:List D}{xs vs:List V},Reps a c xs->K5 c=u7 vs->xs=vs/\vs.all Cp=u9
 |[],xs,vs,r,h=>by cases h;exact⟨r,rfl⟩
 |d::c,xs,vs,r,h=>by
  obtain⟨x,o,rfl,i,j⟩:=r;unfold K5 at h;split at h
  .rename_i v n e g;cases h;obtain⟨f,k⟩:=ZC5 i e;obtain⟨l,m⟩:=ZFl j g;subst f;subst l;exact⟨rfl,by rw[qE,k,m];rfl⟩
  cases h
theorem ZBp{a:Wd}(s:Sim a G)(c:Rep a d x)(f:Rep a e y)(h:inD d e G=u7 k):
  (∃i j,x=.str i/\y=.str j/\k= !(ja j i 0 j.length 1).isEmpty)\/(∃p xs,y=.ref p/\(SqL a.K a.H p xs\/SqT a.K a.H p xs)/\Cp x=u9/\xs.all Cp=u9/\k=inV x xs):=by
 have seq:(match Bd e G,O2 d with |some xs,u7 v=>(K5 xs).map λt=>inV v t|_,_=>u8)=u7 k->(∃p xs,y=.ref p/\(SqL a.K a.H p xs\/SqT a.K a.H p xs)/\Cp x=u9/\xs.all Cp=u9/\k=inV x xs):=λh=>by
  split at h
  .rename_i xs v l n;obtain⟨p,g,m,q,r⟩:=Io s f l;obtain⟨A,B⟩:=ZC5 c n;subst A;rw[zE]at h;obtain⟨C,u,w⟩:=h;obtain⟨o,z⟩:=ZFl r u;subst o;exact⟨p,g,m,q,B,z,w.symm⟩
  cases h
 cases e with
 |str j=>
  cases d with
  |str i=>exact .inl ⟨i,j,c,f,(Option.some.inj h).symm⟩
  |_=>cases h
 |tup xs|fl xs|ref i|_=>exact .inr (seq h)
theorem o_in:OpR X (vQ .In) (lR2 X.K E Jv):=Ex (ZMu.or ZPG) λa G d e x y Q hk s f l q=>by
 unfold Jv at q;split at q
 .rename_i k h;have z:=q a _ (.refl a) s rfl;rcases ZBp s f l h with⟨i,j,c,o,rfl⟩|⟨p,n,c,g,m,r,rfl⟩
  .exact .inl ⟨i,j,c,o,z⟩
  exact .inr ⟨p,n,c,by rw[<-hk];exact g,m,r,z⟩
 exact q.elim
theorem ZHM:OpR X (vQ .NotIn) (lR2 X.K E Gm):=Ex (ZPv.or ZP1) λa G d e x y Q hk s f l q=>by
 unfold Gm at q;split at q
 .rename_i k h;have z:=q a _ (.refl a) s rfl;rcases ZBp s f l h with⟨i,j,c,o,rfl⟩|⟨p,n,c,g,m,r,rfl⟩
  .exact .inl ⟨i,j,c,o,z⟩
  exact .inr ⟨p,n,c,by rw[<-hk];exact g,m,r,z⟩
 exact q.elim
end
theorem ZDX:xS "isinstance"=u7 (.builtin "isinstance"):=by decide +kernel
theorem ZRH:xS "all"=u7 (.builtin "all"):=by decide +kernel
theorem ZJx:xS "max"=u7 (.builtin "max"):=by decide +kernel
theorem ZIs:xS "min"=u7 (.builtin "min"):=by decide +kernel
theorem ZL2:xS "len"=u7 (.builtin "len"):=by decide +kernel
theorem ZAQ:xS "int"=u7 (.type "int"):=by decide +kernel
theorem ZMF:xS "tuple"=u7 (.type "tuple"):=by decide +kernel
theorem ZCK:xS "list"=u7 (.type "list"):=by decide +kernel
def Nh:xC->Bool | .local=>u9|_=>uA
def Oe:xC->Bool | .cell=>u9|_=>uA
def Mx:xC->Bool | .free=>u9|_=>uA
def isK(p:xC->Bool):Option xC->Bool|some k=>p k|none=>uA
theorem ZPU(h:Nh k=u9):k=.local:=by cases k<;>first|rfl|cases h
theorem ZKI(h:Oe k=u9):k=.cell:=by cases k<;>first|rfl|cases h
theorem ZEi(h:Mx k=u9):k=.free:=by cases k<;>first|rfl|cases h
theorem Tv(hp:∀a,p a=u9->a=k)(h:isK p o=u9):o=u7 k:=by
 cases o with
 |none=>cases h
 |some a=>rw[hp _ h]
noncomputable def Wo(dn:List (Str×xC))(N0 N:List Str)(names:List (Str×xC))(nt:Nat)(caps:List Nat):Bool:=
 names.all (λy=>(!Nh y.2||isK Nh (names.lookup y.1)) && !Oe y.2&&(!Mx y.2||isK Oe (dn.lookup y.1)||isK Mx (dn.lookup y.1)))&&decide N.Nodup&&decide (N.length=nt+caps.length) &&
 (zZ caps.length).all λk=>match caps[k]? with
  |some j=>match N0[j]? with
   |some x=>decide (N[nt+k]?=u7 x)&&isK Mx (names.lookup x)
   |none=>uA
  |none=>u9
theorem ZHD{X:Cx}{N0 N:List Str}{a:xE}{nt:Nat}{caps:List Nat}{dn:List (Str×xC)}(hk:a.kind=.function:=by rfl)(f:∀x,X.env.kindOf x=dn.lookup x:=by intro _;rfl)(m:X.N=N0:=by rfl)
  (h:Wo dn N0 N a.names nt caps=u9:=by decide +kernel):CompSc X N a nt caps:=by
 unfold Wo at h;rw[z5,z5,z5]at h;obtain⟨⟨⟨g,n⟩,o⟩,l⟩:=h;rw[q9]at g l;have b:=λ(y:Str×xC)(c:y∈a.names)=>(by have:=g y c;rw[z5,z5]at this;exact this:((!Nh y.2||isK Nh (a.names.lookup y.1))=u9/\(!Oe y.2)=u9)/\(!Mx y.2||isK Oe (dn.lookup y.1)||isK Mx (dn.lookup y.1))=u9)
 refine⟨hk,λy c d=>?_,λy c d=>?_,λy c d=>?_,of_decide_eq_true n,of_decide_eq_true o,λk j i=>?_⟩
 .have:=(b y c).1.1;rw[d]at this;exact Tv (λ_ h=>ZPU h) (by have t:(uA||isK Nh (a.names.lookup y.1))=u9:=this;simpa using t)
 .have:=(b y c).1.2;rw[d]at this;exact absurd this (by decide)
 .have:=(b y c).2;rw[d,jA]at this;rw[f];rcases this with h|h
  .exact .inl (Tv (λ_ h=>ZKI h) (by have t:(uA||isK Oe (dn.lookup y.1))=u9:=h;simpa using t))
  exact .inr (Tv (λ_ h=>ZEi h) h)
 have:=l k (qw.mpr ((zC.mp i).1));rw[i]at this;dsimp only at this;cases e:N0[j]? with
 |none=>rw[e]at this;cases this
 |some x=>
  rw[e]at this;dsimp only at this;rw[z5]at this;exact⟨x,m▸e,of_decide_eq_true this.1,Tv (λ_ h=>ZEi h) this.2⟩
section
section
variable{X:Cx}{vP:List (xy×Obj)}{σ:St}{H:Hp}{s:xF}
theorem ZNY(I:Inv X vP σ H s)(h:H p=u7 (.lst xs)):∃o,Inv X vP σ (upd H p (.frz o (.lst xs))) s:=by
 obtain⟨j,a,n,r,e⟩:=I.hok p _ h;have f:∀b(u:HO),H b=u7 u->u≠ .lst xs->b≠p:=λb u q d z=>by subst z;rw[h]at q;exact d (Option.some.inj q).symm
 refine⟨_,I.un (H':=upd H p (.frz {cls:=.type "list",data:=.seq a.toArray n} (.lst xs))) ⟨λb o q _ _ _=>q,λb o q _ _ _=>⟨o.slots,q⟩,λb o q z _=>?_,λb o q _=>⟨o,q⟩,λb i q=>?_,λb o u q=>?_,λb l q=>⟨#[],?_⟩⟩ ?_⟩
 .rw[Ai (λk=>by subst k;rw[h]at z;cases z)];exact z
 .rw[Ai (f b _ q (by intro z;cases z))];exact q
 .rw[Ai (f b _ q (by intro z;cases z))];exact q
 .rw[Ai (f b _ q (by intro z;cases z)),Array.append_empty];exact q
 intro b u q;by_cases g:b=p
 .subst g;rw[Dy]at q;cases q;exact⟨e,j,a,n,r,e⟩
 .rw[Ai g]at q;exact(I.hok b u q).stay (λc v _ z=>z) (λc z=>by rw[Ai (f c _ z (by intro z;cases z))];exact z) λc i z=>by rw[Ai (f c _ z (by intro z;cases z))];exact z
def Fz(P:xy->Prop)(H H':Hp):Prop:=∀p,(H' p=H p/\(∀vs,H p=u7 (.lst vs)->¬P p))\/∃o vs,P p/\H p=u7 (.lst vs)/\H' p=u7 (.frz o (.lst vs))
theorem ZBM(I:Inv X vP σ H s)(m:Nat->xy)(n:Nat):∀k:Nat,∃H',Inv X vP σ H' s/\Fz (λp=>∃i,n<=i/\i<n+k/\p=m i) H H'
 |0=>⟨H,I,λp=>.inl ⟨rfl,λ_ _ ⟨i,g,l,_⟩=>by lia⟩⟩
 | k + 1=>by
  obtain⟨H',r,F⟩:=ZBM I m n k;have f:(∀a,H' (m (n+k))≠u7 (.lst a))->Fz (λp=>∃i,n<=i/\i<n+(k+1)/\p=m i) H H':=λw p=>by
   rcases F p with⟨e,z⟩|⟨o,a,⟨i,g,l,d⟩,b,h⟩
   .refine .inl ⟨e,λa b ⟨i,g,l,d⟩=>?_⟩;by_cases q:i<n+k
    .exact z a b ⟨i,g,q,d⟩
    have:i=n+k:=by lia
    subst this;subst d;exact w a (e.trans b)
   exact .inr ⟨o,a,⟨i,g,by lia,d⟩,b,h⟩
  cases j:H' (m (n+k))with
  |none=>exact⟨H',r,f λa z=>by rw[j]at z;cases z⟩
  | some u=>
   cases u with
   | lst a=>
    obtain⟨o,v⟩:=ZNY r j;refine⟨_,v,λp=>?_⟩;by_cases hp:p=m (n+k)
    .subst hp;rcases F (m (n+k))with⟨e,z⟩|⟨t,c,_,b,h⟩
     .exact .inr ⟨o,a,⟨n+k,by lia,by lia,rfl⟩,e.symm.trans j,Dy⟩
     rw[j]at h;cases h
    rcases F p with⟨e,z⟩|⟨t,c,⟨i,g,l,d⟩,b,h⟩
    .refine .inl ⟨(Ai hp)▸e,λc b ⟨i,g,l,d⟩=>?_⟩;by_cases q:i<n+k
     .exact z c b ⟨i,g,q,d⟩
     .have:i=n+k:=by lia
      subst this;exact hp d
    exact .inr ⟨t,c,⟨i,g,by lia,d⟩,b,(Ai hp)▸h⟩
   |_=>exact⟨H',r,f λa z=>by rw[j]at z;cases z⟩
end
noncomputable def Hi(f:D->Option D):List D->Option (List D)
 |[]=>u7 []
 |d::r=>match f d,Hi f r with
  |some d',u7 r'=>u7 (d'::r')
  |_,_=>u8
def By(G:DH)(n:Nat):Nat->D->Option D
 |0,_=>u8
 | k+1,d=>if bel n d=u9 then u7 d else match d with
  |.ref i=>match G[i]? with
   |some (.lst xs)=>(Hi (By G n k) xs).map .fl
   |_=>u8
  |.tup xs=>(Hi (By G n k) xs).map .tup
  |.fl xs=>(Hi (By G n k) xs).map .fl
  |_=>u8
open Classical in
def freeze(G:DH)(r:R D):R D:=match r with
 | .ok d G'=>if G'.take G.length=G then(match By G' G.length 9 d with
   |some d'=>.ok d' G
   |none=>.ok d G')else .ok d G'
 |r=>r
def Ao(t:DE):DE:=λS G=>freeze G (t S G)
structure CutF (b c:Wd) (n:Nat):Prop where
 k:c.K=b.K
 n:c.n=n
 m:c.m=b.m
 tup:∀p xs,b.H p=u7 (.tup xs)->c.H p=u7 (.tup xs)
 frz:∀p o u,b.H p=u7 (.frz o u)->c.H p=u7 (.frz o u)
theorem CutF.sqT{b c:Wd}{n:Nat}(x:CutF b c n){p:xy}{xs:List V}(h:SqT b.K b.H p xs):SqT c.K c.H p xs:=by
 rcases h with(h|⟨o,h⟩)|h
 .exact .inl (.inl (x.tup _ _ h))
 .exact .inl (.inr ⟨o,x.frz _ _ _ h⟩)
 exact .inr (x.k▸h)
theorem CutF.fzL{b c:Wd}{n:Nat}(x:CutF b c n){p:xy}{xs:List V}(h:FzL b.K b.H p xs):FzL c.K c.H p xs:=by
 rcases h with⟨o,h⟩|⟨e,h⟩
 .exact .inl ⟨o,x.frz _ _ _ h⟩
 exact .inr ⟨e,x.k▸h⟩
mutual
theorem Rep.Hc(x:CutF b c n):∀{d:D}{v:V},Rep b d v->bel n d=u9->Rep c d v
 |.non,_,h,_=>h
 |.bl _,_,h,_=>h
 |.int _,_,h,_=>h
 |.str _,_,h,_=>h
 |.ty _,_,h,_=>h
 |.tup g,v,h,q=>by obtain⟨p,a,e,t,r⟩:=h;simp only[_D.bel]at q;exact⟨p,a,e,x.sqT t,Reps.Hc x r q⟩
 |.fl g,v,h,q=>by obtain⟨p,a,e,t,r⟩:=h;simp only[_D.bel]at q;exact⟨p,a,e,x.fzL t,Reps.Hc x r q⟩
 |.ref i,v,h,q=>by obtain⟨l,e⟩:=h;simp only[_D.bel]at q;have f:=of_decide_eq_true q;exact⟨by rw[x.n];exact f,by rw[x.m];exact e⟩
theorem Reps.Hc(x:CutF b c n):∀{ds:List D}{vs:List V},Reps b ds vs->bels n ds=u9->Reps c ds vs
 |[],_,h,_=>h
 |d::ds,vs,h,q=>by obtain⟨v,r,e,f,a⟩:=h;simp only[_D.bels,z5]at q;exact⟨v,r,e,Rep.Hc x f q.1,Reps.Hc x a q.2⟩
end
theorem Vr(g:∀d d' v,f d=u7 d'->Rep b d v->Rep c d' v):∀{ds a:List D}{vs:List V},Hi f ds=u7 a->Reps b ds vs->Reps c a vs
 |[],a,vs,e,h=>by cases e;exact h
 |d::ds,a,vs,e,h=>by
  obtain⟨v,r,rfl,l,j⟩:=h;unfold Hi at e;split at e
  .rename_i d' m i k;cases e;exact⟨v,r,rfl,g _ _ _ i l,Vr g k j⟩
  cases e
theorem ZGC(s:Sim b G')(x:CutF b c n)(hz:∀i,n<=i->i<b.n->∀vs,b.H (b.m i)=u7 (.lst vs)->∃o,c.H (b.m i)=u7 (.frz o (.lst vs))):∀(k:Nat)(d d':D)(v:V),By G' n k d=u7 d'->Rep b d v->Rep c d' v
 |0,d,d',v,e,h=>by cases e
 | k+1,d,d',v,e,h=>by
  have g:=ZGC s x hz k;unfold By at e;split at e
  .rename_i f;cases e;exact h.Hc x f
  rename_i f;cases d with
  | ref i=>
   dsimp only at e;split at e
   .rename_i l z;rw[zE]at e;obtain⟨j,a,rfl⟩:=e;obtain⟨vs,y,w⟩:=s.obj i _ z;obtain⟨u,rfl⟩:=h;have q:n<=i:=by simp[_D.bel,decide_eq_true_eq]at f;lia
    obtain⟨o,A⟩:=hz i q u vs y;exact⟨_,vs,rfl,.inl ⟨o,A⟩,Vr g a w⟩
   cases e
  |tup l=>
   dsimp only at e;rw[zE]at e;obtain⟨j,a,rfl⟩:=e;obtain⟨p,vs,rfl,t,r⟩:=h;exact⟨p,vs,rfl,x.sqT t,Vr g a r⟩
  |fl l=>
   dsimp only at e;rw[zE]at e;obtain⟨j,a,rfl⟩:=e;obtain⟨p,vs,rfl,t,r⟩:=h;exact⟨p,vs,rfl,x.fzL t,Vr g a r⟩
  |_=>cases e
theorem ZBu{X:Cx}{vP:List (xy×Obj)}{Z:St}{sh:xF}{a b:Wd}{G O:DH}(s:Sim a G)(hG:O.take G.length=G)(x:Ext a b)(J:Sim b O)(I:Inv X vP Z b.H sh):
  ∃c:Wd,Inv X vP Z c.H sh/\Ext a c/\Sim c G/\CutF b c a.n/\∀(k:Nat)(d d':D)(v:V),By O G.length k d=u7 d'->Rep b d v->Rep c d' v:=by
 have L:∀i o,G[i]?=u7 o->O[i]?=u7 o:=λi o e=>by have w:=(zC.mp e).1;rw[<-hG,j2 w]at e;exact e
 obtain⟨r,I',F⟩:=ZBM I b.m a.n (b.n-a.n);have S:a.n+(b.n-a.n)=b.n:=by have:=x.n;lia
 rw[S]at F;have P:∀p(u:HO),(∀g,u≠ .lst g)->b.H p=u7 u->r p=u7 u:=λp u nu e=>by
  rcases F p with⟨f,_⟩|⟨o,g,_,f,_⟩
  .exact f.trans e
  rw[e]at f;exact absurd (Option.some.inj f) (nu g)
 have l:∀p,TabOk b.H p->TabOk r p:=λp t=>t.mono (λp ps e=>P p _ (by intro _ z;cases z) e) λp o u e=>P p _ (by intro _ z;cases z) e
 have h:CutF b ⟨b.K,a.n,b.m,r⟩ a.n:=⟨rfl,rfl,rfl,λp U e=>P p _ (by intro _ z;cases z) e,λp o u e=>P p _ (by intro _ z;cases z) e⟩;have B:∀i,i<a.n->r (b.m i)=b.H (b.m i):=λi w=>by
  rcases F (b.m i)with⟨f,_⟩|⟨o,g,⟨j,h1,Q,h3⟩,f,M⟩
  .exact f
  have:=J.inj i j (zq w x.n) Q h3;lia
 refine⟨⟨b.K,a.n,b.m,r⟩,I',⟨x.k,zY _,x.m,λp U e=>h.tup p U (x.tup p U e),λp o u e=>h.frz p o u (x.frz p o u e),λp t=>l p (x.tab p t)⟩,⟨s.len,λi j w hj=>J.inj i j (zq w x.n) (zq hj x.n),λi o e=>?_,λi w=>?_⟩,h,λk d d' v Y rb=>?_⟩
 .show ORep ⟨b.K,a.n,b.m,r⟩ o (r (b.m i));rw[B i (s.lt e)];have q:=J.obj i o (L i o e);have N:=(s.obj i o e).Mr;cases o with
  |lst ds=>obtain⟨g,f,y⟩:=q;exact⟨g,f,y.Hc h N⟩
  |dct kvs=>obtain⟨E,f,A,y⟩:=q;exact⟨E,f,A,y.Hc h N⟩
  |ins c fs=>obtain⟨C,T,E,W,f,A,y⟩:=q;exact⟨C,T,E,W,f,A,y.Hc h N⟩
  |tab C m=>obtain⟨c1,P1,f,t1⟩:=q;exact⟨c1,P1,f,l _ t1⟩
  |exc c fs=>
   obtain⟨C,oe,u,g,W,f,A,k2,z⟩:=q;refine⟨C,oe,u,g,W,f,A,k2,?_⟩;rcases z with z|⟨T,o,E,M,f2,k3,y⟩
   .exact .inl z
   exact .inr ⟨T,o,E,M,h.frz _ _ _ f2,k3,y.Hc h N⟩
  |gone=>trivial
 .show r (b.m i)≠u8;rw[B i w];exact J.tr i (zq w x.n)
 rw[s.len]at Y;refine ZGC J h (λi h1 Q g e=>?_) k d d' v Y rb;rcases F (b.m i)with⟨f,z⟩|⟨o,vs',_,f,M⟩
 .exact absurd ⟨i,h1,Q,rfl⟩ (z g e)
 rw[e]at f;cases f;exact⟨o,M⟩
theorem ZK6(s:Sim a G)(h:out E a (freeze G r) Q):
  out E a r λv H=>∀(vP:List (xy×Obj))(g:St)(j:xF),Inv X vP g H j->∃H',Inv X vP g H' j/\Q v H':=by
 cases r with
 | ok d n=>
  intro b v x f i vP g j I;unfold freeze at h;dsimp only at h;split at h
  .rename_i m;split at h
   .rename_i t l;obtain⟨c,k,q,p,u,o⟩:=ZBu s m x f I;exact⟨c.H,k,h c v q p (o _ _ _ _ l i)⟩
   exact⟨_,I,h b v x f i⟩
  exact⟨_,I,h b v x f i⟩
 |_=>exact h
theorem ZQi(k:QE X E e t):QE X E e (Ao t):=λb s d H Q I h=>by
 obtain⟨a,S,G,hk,rfl,c,r,h⟩:=h;refine thn (k b s d a.H _ I ⟨a,S,G,hk,rfl,c,r,ZK6 (X:=X) c h⟩) λu j zz=>?_
 obtain⟨v,m,g,rv,q⟩:=zz;obtain⟨i,f,l⟩:=q b d j g;exact⟨v,i,f,rv,l⟩
theorem ZQa{X:Cx}{E:XK}{st:xG}{t:DE}{i:Nat}(Y:QS X E st (sAs t (gV i))):QS X E st (sAs (Ao t) (gV i)):=λg s o H W I h=>by
 obtain⟨a,S,G,hk,rfl,J,r,h⟩:=h;have Q:Bl E a (sAs t (gV i) S G) {W with nx:=λo H=>∀(g:List (xy×Obj))(F:xF),Inv X g o H F->∃C,Inv X g o C F/\W.nx o C}:=by
  unfold sAs Ao at h;unfold sAs;cases B:t S G with
  | ok d U=>
   rw[B]at h;intro b k x A n g F I;unfold freeze at h;dsimp only at h;split at h
   .rename_i hG;split at h
    .rename_i d' L;obtain⟨c,K,xc,N,cc,M⟩:=ZBu J hG x A I;refine⟨c.H,K,h c k xc N ⟨?_,λj e l=>?_⟩⟩
     .rw[jy,<-n.len,jy]
     rw[qI]at l;by_cases m:i=j
     .subst m;rw[if_pos rfl]at l;by_cases y:i<S.length
      .rw[if_pos y]at l;have Z:d'=e:=by simpa using l
       subst Z;obtain⟨v,w,rv⟩:=n.get i d (by rw[qI,if_pos rfl,if_pos y]);exact⟨v,w,M _ _ _ _ L rv⟩
      rw[if_neg y]at l;cases l
     .rw[if_neg m]at l;obtain⟨v,w,rv⟩:=n.get j e (by rw[qI,if_neg m];exact l);obtain⟨v',_,z⟩:=r.get j e l;exact⟨v,w,rv.Hc cc z.bel⟩
    exact⟨_,I,h b k x A n⟩
   exact⟨_,I,h b k x A n⟩
  |_=>rw[B]at h;exact h
 refine thn (Y g s o a.H _ I ⟨a,S,G,hk,rfl,J,r,Q⟩) λf T p=>?_
 cases f with
 |next=>
  obtain⟨k,C,I',q⟩:=p;obtain⟨H2,P,O⟩:=q g T I';exact⟨k,H2,P,O⟩
 |_=>exact p
end
section
variable{S:DSt}{G:DH}
@[simp]theorem X7:dV i S G=(match S[i]? with |some (u7 d)=>.ok d G|_=>.bad):=id rfl
@[simp]theorem ev_C:dC d S G=.ok d G:=id rfl
@[simp]theorem ev_Op:dOp f a b S G=(a S G).bind λx e=>(b S e).bind λy d=>f x y d:=id rfl
@[simp]theorem ev_Un:dUn f a S G=(a S G).bind f:=id rfl
@[simp]theorem ev_Nil:Az S G=.ok [] G:=id rfl
@[simp]theorem ZR9:Ac a r S G=(a S G).bind λx d=>(r S d).bind λxs b=>.ok (x::xs) b:=id rfl
@[simp]theorem ev_Fn:dFn f t S G=(t S G).bind f:=id rfl
@[simp]theorem ZSv:Ci t S G=tidy G (t S G):=id rfl
@[simp]theorem ev_Frz:Ao t S G=freeze G (t S G):=id rfl
@[simp]theorem ev_asB:asB (.bl k) G=.ok k G:=id rfl
@[simp]theorem ev_Tst:Ak t S G=(t S G).bind asB:=id rfl
@[simp]theorem ev_And:Ie t u S G=(t S G).bind λk a=>if k=u9 then u S a else .ok uA a:=id rfl
@[simp]theorem ev_Or:dOr t u S G=(t S G).bind λk a=>if k=u9 then .ok u9 a else u S a:=id rfl
@[simp]theorem ev_Not:Gp t S G=(t S G).bind λk a=>.ok (!k) a:=id rfl
@[simp]theorem ZSE:Jc t u S G=(t S G).bind λx b=>(asB x b).bind λk a=>if k=u9 then u S a else .ok (.bl uA) a:=id rfl
@[simp]theorem ev_OrV:Qo t u S G=(t S G).bind λx b=>(asB x b).bind λk a=>if k=u9 then .ok (.bl u9) a else u S a:=id rfl
@[simp]theorem ev_If:dIf c t u S G=(c S G).bind λk a=>if k=u9 then t S a else u S a:=id rfl
@[simp]theorem ZSb:Jz f g a b c S G=(a S G).bind λx e=>(b S e).bind λy m=>(f x y m).bind λz h=>(asB z h).bind λk d=>
 if k=u9 then(c S d).bind λw o=>g y w o else .ok (.bl uA) d:=id rfl
@[simp]theorem ev_sNx:sNx S G=.nx S G:=id rfl
def SR.then(u:DS)(_:Fx u:=())(r:SR):SR:=match r with
 |.nx S1 G1=>u S1 G1
 |r=>r
@[simp]theorem Lx:Ae t u S G=(t S G).then u:=id rfl
@[simp]theorem Wl:(SR.nx S G).then u=u S G:=id rfl
@[simp]theorem ZSt:(SR.rt d G).then u=.rt d G:=id rfl
@[simp]theorem ZS0:(SR.err x G).then u=.err x G:=id rfl
@[simp]theorem ev_sEx:sEx t S G=(t S G).toS λ_ a=>.nx S a:=id rfl
@[simp]theorem ev_sRt:sRt t S G=(t S G).toS λd a=>.rt d a:=id rfl
@[simp]theorem ev_sIf:sIf c t u S G=(c S G).toS λk a=>if k=u9 then t S a else u S a:=id rfl
@[simp]theorem ev_sAs:sAs t g S G=(t S G).toS λd b=>(g d S b).toS λe a=>.nx e a:=id rfl
@[simp]theorem ev_sAu:sAu i t f S G=(match S[i]? with
 |some (u7 x)=>(t S G).toS λy b=>(f x y b).toS λz a=>.nx (S.set i (u7 z)) a
 |_=>.bad):=id rfl
@[simp]theorem ZSF:Bx it g b S G=(it S G).toS λJ a=>(match J with
 |.pure xs=>Aw g b xs S a
 |.mt i=>match a[i]? with
  |some (.lst xs)=>forM i g b xs.length 0 S a
  |_=>.bad
 |.fn n f=>Cq f g b n 0 S a):=id rfl
@[simp]theorem ZOe:Du t S G=(t S G).bind G8:=id rfl
@[simp]theorem ZSX:Bg f t S G=(t S G).bind f:=id rfl
@[simp]theorem Ce:gV i d S G=.ok (S.set i (u7 d)) G:=id rfl
@[simp]theorem Pb:Al [] S G=.ok S G:=id rfl
@[simp]theorem Oa:Ab t u (d::r) S G=(t d S G).bind λb a=>u r b a:=id rfl
@[simp]theorem Ow:Aj n t (.tup ds) S G=if ds.length=n then t ds S G else .bad:=id rfl
@[simp]theorem ev_gIx:gIx o i v S G=(o S G).bind λo b=>(i S b).bind λi a=>(Lp o i v a).bind λ_ d=>.ok S d:=id rfl
@[simp]theorem ev_MtL:Cv f o t S G=(o S G).bind λx a=>if isL x a=u9 then(t S a).bind λxs b=>f x xs b else .bad:=id rfl
@[simp]theorem ZQj:Bt it nt caps g c te S G=(it S G).bind λJ a=>(match J with
 |.pure xs=>Cg g c te (Ax nt caps S) xs a
 |.mt i=>match a[i]? with
  |some (.lst xs)=>Fi i g c te (Ax nt caps S) xs.length 0 a
  |_=>.bad
 |.fn n f=>Cm f g c te (Ax nt caps S) n 0 a).bind Af:=id rfl
@[simp]theorem ZES:Bc S G=.ok u9 G:=id rfl
@[simp]theorem Cd:aft (.nx S G) k=k S G:=id rfl
@[simp]theorem aft_rt:aft (.rt d G) k=.rt d G:=id rfl
@[simp]theorem ZKj:aft (.err x G) k=.err x G:=id rfl
theorem Cr:Aw g b [] S G=.nx S G:=id rfl
theorem Bv:Aw g b (x::xs) S G=(g x S G).toS λd a=>aft (b d a) (Aw g b xs):=id rfl
theorem Zn:Cg g c te S (x::xs) G=(g x S G).bind λb e=>(c b e).bind λk a=>
   if k=u9 then(te b a).bind λd f=>(Cg g c te S xs f).bind λh m=>.ok (d::h) m else Cg g c te S xs a:=id rfl
def SR.ret(r:SR):R D:=match r with
 |.nx _ G'=>.ok .non G'
 |.rt d G'=>.ok d G'
 |.err x G'=>.err x G'
 |_=>.bad
@[simp]theorem ZOF:(SR.nx S G).ret=.ok .non G:=id rfl
@[simp]theorem ret_rt:(SR.rt d G).ret=.ok d G:=id rfl
@[simp]theorem ZSN:(SR.err x G).ret=.err x G:=id rfl
theorem Ag:Aq np nl b ds G=if ds.length=np then tidy G (b (ds.map u7++zV nl u8) G).ret else .bad:=id rfl
end
section
variable{n:Nat}{G:DH}
@[simp]theorem ZSl:bel n .non=u9:=by simp[_D.bel]
@[simp]theorem bel_bl:bel n (.bl b)=u9:=by simp[_D.bel]
@[simp]theorem ZNl:bel n (.int b)=u9:=by simp[_D.bel]
@[simp]theorem ZSD:bel n (.str b)=u9:=by simp[_D.bel]
@[simp]theorem ZSh:bel n (.tup b)=bels n b:=by simp[_D.bel]
@[simp]theorem bel_fl:bel n (.fl b)=bels n b:=by simp[_D.bel]
@[simp]theorem ZSz:bel n (.ref b)=decide (b<n):=by simp[_D.bel]
@[simp]theorem ZSZ:bels n []=u9:=by simp[_D.bels]
@[simp]theorem ZP9:bels n (d::ds)=(bel n d&&bels n ds):=by simp[_D.bels]
theorem ZQD:bels n ds=u9↔∀d∈ds,bel n d=u9:=by
 induction ds with
 |nil=>simp
 |cons d ds a=>simp[a]
@[simp]theorem ZHh:bels n (ds++es)=(bels n ds&&bels n es):=by
 induction ds with
 |nil=>simp
 |cons d ds a=>simp[a,Bool.and_assoc]
theorem Dw{a:Type}{f:a->D}{xs:List a}(h:∀x∈xs,bel n (f x)=u9):bels n (xs.map f)=u9:=by rw[ZQD];intro d b;obtain⟨x,e,rfl⟩:=z9.mp b;exact h x e
@[simp]theorem ZD3{xs:List Int}:bels n (xs.map D.int)=u9:=Dw λ_ _=>ZNl
theorem Ar(h:bel G.length d=u9):tidy G (.ok d G)=.ok d G:=by unfold tidy;simp[h]
theorem Je(h:bel G.length d=u9):tidy G (.ok d (G++L))=.ok d G:=by unfold tidy;simp[h]
theorem Z7(L:DH)(hk:L[k]?=u7 (.lst ds))(h:bels G.length ds=u9):tidy G (.ok (.ref (G.length+k)) (G++L))=.ok (.ref G.length) (G++[.lst ds]):=by
 unfold tidy;have e:(G++L)[G.length+k]?=u7 (.lst ds):=by rw[zG (by lia)];simpa using hk
 simp[e,Mr,h]
theorem Ds{ds:List D}{L:DH}(h:bels G.length ds=u9):tidy G (.ok (.ref G.length) (G++ .lst ds::L))=.ok (.ref G.length) (G++[.lst ds]):=Z7 (.lst ds::L) (k:=0) rfl h
@[simp]theorem ZSC:tidy G (.err x G')=.err x G':=id rfl
theorem J0(h:bel G.length d=u9):freeze G (.ok d G)=.ok d G:=by unfold freeze;simp[h,By]
theorem Ni{n:Nat}:∀{a:List D},bels n a=u9->Hi (By G' n (k+1)) a=u7 a
 |[],_=>rfl
 |d::a,h=>by simp[ZP9,z5]at h;unfold Hi;rw[Ni h.2];simp[By,h.1]
theorem ZPL(L:DH)(hk:L[k]?=u7 (.lst ds))(h:bels G.length ds=u9):freeze G (.ok (.ref (G.length+k)) (G++L))=.ok (.fl ds) G:=by
 unfold freeze;have e:(G++L)[G.length+k]?=u7 (.lst ds):=by rw[zG (by lia)];simpa using hk
 have m:By (G++L) G.length 9 (.ref (G.length+k))=u7 (.fl ds):=by unfold By;simp[e,Ni h]
 simp[m]
theorem Cz{a:List D}{L:DH}(h:bels G.length a=u9):freeze G (.ok (.ref G.length) (G++ .lst a::L))=.ok (.fl a) G:=ZPL (.lst a::L) (k:=0) rfl h
theorem Rn(L:DH)(k:Nat):(G++L)[G.length+k]?=L[k]? :=by rw[zG (by lia)];simp
theorem Bu(L:DH):(G++L)[G.length]?=L[0]? :=Rn L 0
theorem Vt(L:DH)(k:Nat)(o:DO):(G++L).set (G.length+k) o=G++L.set k o:=by rw[xQ _ _ (by lia)];simp
theorem Dq(L:DH)(o:DO):(G++L).set G.length o=G++L.set 0 o:=Vt L 0 o
theorem Ib{a:Int}:Bh a 0=[]:=id rfl
theorem Hk{a:Int}{n:Nat}:Bh a (n+1)=.int a::Bh (a+1) n:=by
 unfold Bh;rw[qT,zk,jz]
 congr 1
 .simp
 apply qB;intro k _;simp only[Function.comp]
 congr 1
 lia
end
section
variable{G:DH}{i j:Int}{x y:Str}{k l:Bool}
@[simp]theorem ev_add:I8 (.int i) (.int j) G=.ok (.int (i+j)) G:=id rfl
@[simp]theorem ev_ip:Kc (.int i) (.int j) G=.ok (.int (i+j)) G:=id rfl
@[simp]theorem ev_sub:Og (.int i) (.int j) G=.ok (.int (i-j)) G:=id rfl
theorem log2_small(h:n<10^100):n.log2<9000:=by
 by_cases a:n=0
 .subst a;decide
 rw[Nat.log2_lt a];exact Nat.lt_trans h (by decide)
@[simp]theorem ZSU{n:Nat}[NeZero n](h:n<10^100):Ou (.int i) (.int (no_index (OfNat.ofNat n))) G=.ok (.int (i/OfNat.ofNat n)) G:=
 if_pos ⟨Int.ofNat_lt.mpr (Nat.pos_of_ne_zero (NeZero.ne n)),log2_small h⟩
@[simp]theorem ev_mod:Jt (.int i) (.int j) G=if 0<j then .ok (.int (i%j)) G else .bad:=id rfl
@[simp]theorem ev_pow:Pz (.int i) (.int j) G=if 0<=j/\j<=1000000/\i.natAbs<18446744073709551616 then .ok (.int (i^j.toNat)) G else .bad:=id rfl
@[simp]theorem ev_lt:Jr (.int i) (.int j) G=.ok (.bl (decide (i<j))) G:=id rfl
@[simp]theorem ev_le:Ii (.int i) (.int j) G=.ok (.bl (decide (i<=j))) G:=id rfl
@[simp]theorem ev_gt:Oi (.int i) (.int j) G=.ok (.bl (decide (j<i))) G:=id rfl
@[simp]theorem ev_ge:Uw (.int i) (.int j) G=.ok (.bl (decide (j<=i))) G:=id rfl
@[simp]theorem ev_eq:Hj (.int i) (.int j) G=.ok (.bl (decide (i=j))) G:=id rfl
@[simp]theorem ev_ne:Eg (.int i) (.int j) G=.ok (.bl (!decide (i=j))) G:=id rfl
@[simp]theorem ev_eqS:Hj (.str x) (.str y) G=.ok (.bl (decide (x=y))) G:=id rfl
@[simp]theorem ev_neS:Eg (.str x) (.str y) G=.ok (.bl (!decide (x=y))) G:=id rfl
@[simp]theorem ev_neB:Eg (.bl k) (.bl l) G=.ok (.bl (!(k==l))) G:=id rfl
@[simp]theorem ev_neg:Fo (.int i) G=.ok (.int (-i)) G:=id rfl
@[simp]theorem ev_is:Rv d .non G=.ok (.bl (K3 d)) G:=by cases d<;>exact id rfl
@[simp]theorem ZR8:Kq d .non G=.ok (.bl (!K3 d)) G:=by cases d<;>exact id rfl
@[simp]theorem ZSa:K3 .non=u9:=id rfl
@[simp]theorem ZSw:K3 (.int i)=uA:=id rfl
@[simp]theorem ZSV:K3 (.tup ds)=uA:=id rfl
@[simp]theorem ev_max:Qt [.int i,.int j] G=.ok (.int (max i j)) G:=by
 show R.ok (D.int (if j>i then j else i)) G=_
 congr 2
 split <;> lia
@[simp]theorem ev_min:Kl [.int i,.int j] G=.ok (.int (min i j)) G:=by
 show R.ok (D.int (if j<i then j else i)) G=_
 congr 2
 split <;> lia
@[simp]theorem ZSk:Ls [.bl k] G=.ok (.int (if k then 1 else 0)) G:=id rfl
@[simp]theorem ZR3:Bd (.tup ds) G=u7 ds:=id rfl
@[simp]theorem ZSe:Bd (.fl ds) G=u7 ds:=id rfl
@[simp]theorem ZAa:Bd (.ref n) G=(match G[n]? with |some (.lst xs)=>u7 xs|_=>u8):=id rfl
@[simp]theorem ZSP:Ba [.tup ds] G=.ok (.int ds.length) G:=id rfl
@[simp]theorem ZR6:Ba [.fl ds] G=.ok (.int ds.length) G:=id rfl
@[simp]theorem ZSM:Ba [.ref n] G=(match G[n]? with |some (.lst xs)=>.ok (.int xs.length) G|_=>.bad):=by
 unfold Ba;simp[ZAa];cases G[n]? with
 |none=>rfl
 |some o=>cases o<;>rfl
@[simp]theorem ev_ixT:Bj (.tup ds) (.int i) G=(match atI ds i with |some v=>.ok v G|none=>.bad):=id rfl
@[simp]theorem ev_ixF:Bj (.fl ds) (.int i) G=(match atI ds i with |some v=>.ok v G|none=>.bad):=id rfl
@[simp]theorem ev_ixR:Bj (.ref n) (.int i) G=(match G[n]? with |some (.lst xs)=>(match atI xs i with |some v=>.ok v G|none=>.bad)|_=>.bad):=by
 unfold Bj;simp[ZAa];cases G[n]? with
 |none=>rfl
 |some o=>cases o<;>rfl
theorem Hb{n k:Nat}(h:k<n):ixN n (k:Int)=u7 k:=by unfold ixN;rw[if_pos (by lia),if_pos (by lia)];simp
theorem ZQs{a:Type}{xs:List a}{k:Nat}{d:a}(h:xs[k]?=u7 d):atI xs (k:Int)=u7 d:=by unfold atI;rw[Hb (zC.mp h).1];exact h
theorem Dj{a:Type}{xs:List a}{j:Int}{k:Nat}{d:a}(e:j=k)(h:xs[k]?=u7 d):atI xs j=u7 d:=by subst e;exact ZQs h
theorem ZEY{a:Type}{xs:List a}{j:Int}(b:j<0)(h: -(xs.length:Int)<=j):atI xs j=u7 (xs[(j+xs.length).toNat]'(by lia)):=by unfold atI ixN;rw[if_neg (by lia),if_pos h];exact zJ (by lia)
@[simp]theorem atI_0{b:Type}{a:b}{xs:List b}:atI (a::xs) 0=u7 a:=Dj rfl rfl
@[simp]theorem atI_1{d:Type}{a b:d}{xs:List d}:atI (a::b::xs) 1=u7 b:=Dj rfl rfl
@[simp]theorem atI_2{d:Type}{a b c:d}{xs:List d}:atI (a::b::c::xs) 2=u7 c:=Dj rfl rfl
@[simp]theorem atI_3{e:Type}{a b c d:e}{xs:List e}:atI (a::b::c::d::xs) 3=u7 d:=Dj rfl rfl
@[simp]theorem atI_4{f:Type}{a b c d e:f}{xs:List f}:atI (a::b::c::d::e::xs) 4=u7 e:=Dj rfl rfl
@[simp]theorem atI_5{g:Type}{a b c d e f:g}{xs:List g}:atI (a::b::c::d::e::f::xs) 5=u7 f:=Dj rfl rfl
@[simp]theorem atI_6{h:Type}{a b c d e f g:h}{xs:List h}:atI (a::b::c::d::e::f::g::xs) 6=u7 g:=Dj rfl rfl
@[simp]theorem ZSs:Ah ds G=if ds.length<=1000000 then .ok (.tup ds) G else .bad:=id rfl
@[simp]theorem ZSS:Af ds G=if ds.length<=1000000 then .ok (.ref G.length) (G++[.lst ds])else .bad:=id rfl
@[simp]theorem ZSm:Dr [.fl ds] G=.ok (.tup ds) G:=id rfl
@[simp]theorem ZSI:Dr [.ref n] G=(match G[n]? with |some (.lst xs)=>.ok (.tup xs) G|_=>.bad):=by
 unfold Dr;simp[ZAa];cases G[n]? with
 |none=>rfl
 |some o=>cases o<;>rfl
@[simp]theorem ev_itT:G8 (.tup ds) G=.ok (.pure ds) G:=id rfl
@[simp]theorem ev_itF:G8 (.fl ds) G=.ok (.pure ds) G:=id rfl
@[simp]theorem ZSH:rng1 [.int j] G=if inR j then .ok (.pure (Bh 0 j.toNat)) G else .bad:=id rfl
theorem Ek(a: -1000000000<=i)(h:i<=1000000000):inR i:=⟨by lia,by lia⟩
@[simp]theorem ZS1:isL (.fl ds) G=u9:=id rfl
@[simp]theorem ZSK:isL (.ref n) G=(match G[n]? with |some (.lst _)=>u9|_=>uA):=id rfl
@[simp]theorem ev_app:Dp (.ref n) [d] G=(match G[n]? with |some (.lst xs)=>if xs.length<1000000 then .ok .non (G.set n (.lst (xs++[d])))else .bad|_=>.bad):=id rfl
@[simp]theorem ZSp:Lp (.ref n) (.int i) d G=(match G[n]? with |some (.lst xs)=>(match ixN xs.length i with |some j=>.ok .non (G.set n (.lst (xs.set j d)))|none=>.bad)|_=>.bad):=id rfl
@[simp]theorem ZLM{ks:List Bool}:Kw [.fl (ks.map D.bl)] G=.ok (.bl (ks.all id)) G:=by simp[Kw]
end
section
variable{c:Prop}[Decidable c]
end
def Gr(kvs:List (Key×D))(k:Key):Option D:=(kvs.find? λkv=>decide (kv.1=k)).map (·.2)
noncomputable def putD(kvs:List (Key×D))(k:Key)(v:D):List (Key×D):=
 if(kvs.any λkv=>decide (kv.1=k))=u9 then kvs.map (λkv=>if kv.1=k then(kv.1,v)else kv)else kvs++[(k,v)]
def Eb:D->Option Key
 |.int i=>u7 (.inl i)
 |.str x=>u7 (.inr x)
 |_=>u8
noncomputable def Qp(d:D)(G:DH):Option (List (Key×D)):=match d with
 |.ref i=>match G[i]? with
  |some (.dct kvs)=>u7 kvs
  |_=>u8
 |_=>u8
theorem ZNR(r:Rep a d x)(h:Eb d=u7 k):x=kV k:=by
 cases d<;>first
  |(cases h;exact r)
  |cases h
theorem RepKV.nil:RepKV a [] []:=⟨rfl,rfl⟩
theorem RepKV.cons(h:RepKV a ((k,d)::kvs) us):∃v r,us=(k,v)::r/\Rep a d v/\RepKV a kvs r:=by
 obtain⟨b,v,r,c,f,e⟩:=h;cases us with
 |nil=>cases c
 |cons p us=>
  obtain⟨q,w⟩:=p;simp[zk,List.cons.injEq]at b c;obtain⟨rfl,b⟩:=b;obtain⟨rfl,rfl⟩:=c;exact⟨w,us,rfl,f,b,e⟩
theorem RepKV.mk(h:Rep a d v)(r:RepKV a kvs us):RepKV a ((k,d)::kvs) ((k,v)::us):=
 ⟨by simp[zk,r.1],.cons h r.2⟩
theorem RepKV.val:∀{b:List (Key×D)}{us:List (Key×V)},RepKV a b us->(Gr b k=u8/\Fg us k=u8)\/∃d v,Gr b k=u7 d/\Fg us k=u7 v/\Rep a d v
 |[],us,h=>by obtain⟨c,_⟩:=h;have:=j5.mp c.symm;subst this;exact .inl ⟨rfl,rfl⟩
 |(q,d)::b,us,h=>by
  obtain⟨v,r,rfl,c,i⟩:=RepKV.cons h;by_cases e:q=k
  .exact .inr ⟨d,v,by simp[Gr,e],by simp[Fg,e],c⟩
  rcases RepKV.val i with⟨f,g⟩|⟨l,m,f,g,j⟩
  .exact .inl ⟨by simpa[Gr,qF,e]using f,by simpa[Fg,qF,e]using g⟩
  exact .inr ⟨l,m,by simpa[Gr,qF,e]using f,by simpa[Fg,qF,e]using g,j⟩
theorem RepKV.any:∀{b:List (Key×D)}{us:List (Key×V)},RepKV a b us->(b.any λc=>decide (c.1=k))=us.any λc=>decide (c.1=k)
 |[],us,h=>by
  obtain⟨e,_⟩:=h;have:=j5.mp e.symm;subst this
  rfl
 |(q,d)::b,us,h=>by obtain⟨v,r,rfl,e,f⟩:=RepKV.cons h;simp[j9,RepKV.any f]
theorem RepKV.repl(i:Rep a d v):∀{b:List (Key×D)}{us:List (Key×V)},RepKV a b us->RepKV a (b.map λc=>if c.1=k then(c.1,d)else c) (us.map λc=>if c.1=k then(c.1,v)else c)
 |[],us,h=>by obtain⟨g,_⟩:=h;have:=j5.mp g.symm;subst this;exact .nil
 |(q,e)::b,us,h=>by
  obtain⟨w,r,rfl,g,j⟩:=RepKV.cons h;simp[zk];by_cases f:q=k
  .rw[if_pos f,if_pos f];exact .mk i (.repl i j)
  rw[if_neg f,if_neg f];exact .mk g (.repl i j)
theorem RepKV.put(h:RepKV a kvs us)(b:Rep a d v):RepKV a (putD kvs k d) (putK us k v):=by
 unfold putD putK;rw[RepKV.any h];split
 .exact .repl b h
 exact⟨by simp[h.1],by have:=Reps.append h.2 (.cons b (.nil));simpa using this⟩
theorem Sim.dct(s:Sim a G)(r:Rep a d x)(h:Qp d G=u7 kvs):∃i us,d=.ref i/\i<a.n/\x=.ref (a.m i)/\G[i]?=u7 (.dct kvs)/\a.H (a.m i)=u7 (.dK us)/\RepKV a kvs us:=by
 cases d with
 |ref i=>
  unfold Qp at h;dsimp only at h;split at h
  .rename_i f b;cases h;obtain⟨us,e,c⟩:=s.obj i _ b;exact⟨i,us,rfl,r.1,r.2,b,e,c⟩
  cases h
 |_=>cases h
def Kg(d e:D)(G:DH):R D:=match Qp d G,Eb e with
 |some kvs,u7 k=>match Gr kvs k with
  |some v=>.ok v G
  |none=>.bad
 |none,_=>Bj d e G
 |_,_=>.bad
section
variable{X:Cx}{E:XK}
theorem ZHn(hu:X.A.units+64<cLine):IxR X (λx y H Q=>∃a v,x=.ref a/\DGet H a y (u7 v)/\Q v H):=by
 intro value slice vP s σ H x y v u Q I rx ry h hs;obtain⟨a,w,rfl,g,q⟩:=h;obtain rfl:v=Value.ref a:=rx;have hT:=ZN0 I g;unfold subscriptTail;refine vk ?_;rw[getitemInPython_of_ne hT.not_modules];refine vk (wpAny_specialOf hT PySem.F.slot_dict_getitem.lookup ?_);have fin:vx (vW X.prog X.w) X.A (subscripted slice uA (.ref a) u) (λr s₃=>vx (vW X.prog X.w) X.A (letTemporaryGo value (.ref a) r >>=λ_=>pure r) (EP X vP σ Q) X.xe s₃) X.xe s:=by
  rw[hs];exact wpAny_operating (ZJA (by lia) I g ry λw' s3 I3 rw'=>vk (wpAny_letTemporaryGo (vH ⟨w,H,I3,rw',q⟩)))
 first
  |exact vH (vk fin)
  |exact vk (vH (vk fin))
  |exact vk fin
theorem ZQE(s:Sim a G)(f:Rep a d x)(q:Rep a e y)(h:Qp d G=u7 kvs)(l:Eb e=u7 k):
  ∃p,x=.ref p/\((Gr kvs k=u8/\DGet a.H p y u8)\/∃v w,Gr kvs k=u7 v/\Rep a v w/\DGet a.H p y (u7 w)):=by
 obtain⟨i,u,rfl,A,rfl,z,t,r⟩:=s.dct f h;have j:=ZNR q l;subst j;refine⟨a.m i,rfl,?_⟩;have g:=DGet.k (k:=k) t;rcases r.val with⟨b,c⟩|⟨v,w,b,c,o⟩
 .exact .inl ⟨b,by rw[c]at g;exact g⟩
 exact .inr ⟨v,w,b,o,by rw[c]at g;exact g⟩
theorem ZMz(l:X.A.units+64<cLine):IxR X (lR2 X.K E Kg):=(Uc.or (ZHn l)).mono λx y H Q h=>by
 obtain⟨a,G,d,e,hk,rfl,s,c,f,q⟩:=h;unfold Kg at q;split at q
 .rename_i i k j m;obtain⟨p,rfl,⟨b,_⟩|⟨v,w,b,o,g⟩⟩:=ZQE s c f j m
  .rw[b]at q;exact q.elim
  rw[b]at q;exact .inr ⟨p,w,rfl,g,q a w (.refl a) s o⟩
 .exact .inl ⟨a,G,d,e,hk,rfl,s,c,f,q⟩
 exact q.elim
theorem Ext.wrD(h:a.H p=u7 (.dK us)):Ext a (a.put p ho):=
 ⟨rfl,zY _,λ_ _=>rfl,λq c e=>by
  show upd a.H p ho q=_;rw[Ai (λz=>by subst z;rw[h]at e;cases e)];exact e,λq o u e=>by
  show upd a.H p ho q=_;rw[Ai (λz=>by subst z;rw[h]at e;cases e)];exact e,λ_ t=>t.mono (λq b e=>by show upd a.H p ho q=_;rw[Ai (λz=>by subst z;rw[h]at e;cases e)];exact e) (λq o u e=>by show upd a.H p ho q=_;rw[Ai (λz=>by subst z;rw[h]at e;cases e)];exact e)⟩
theorem Sim.wrD(s:Sim a G)(c:i<a.n)(h:a.H (a.m i)=u7 (.dK us))(r:RepKV (a.put (a.m i) (.dK us')) kvs' us'):Sim (a.put (a.m i) (.dK us')) (G.set i (.dct kvs')):=by
 refine⟨by rw[jy];exact s.len,s.inj,λj o e=>?_,λj d=>?_⟩
 .rw[qI]at e;show ORep _ o (upd a.H (a.m i) (.dK us') (a.m j));by_cases b:i=j
  .subst b;rw[if_pos rfl,if_pos (s.len▸c)]at e;cases e;rw[Dy];exact⟨us',rfl,r⟩
  rw[if_neg b]at e;rw[Ai λz=>b (s.inj _ _ (s.lt e) c z).symm];exact(s.obj j o e).mono (.wrD h)
 show upd a.H (a.m i) (.dK us') (a.m j)≠u8;by_cases b:a.m j=a.m i
 .rw[b,Dy];simp
 rw[Ai b];exact s.tr j d
end
section
variable{S:DSt}{G:DH}{n:Nat}{kvs:List (Key×D)}
@[simp]theorem ZSr:Qp (.ref n) G=(match G[n]? with |some (.dct a)=>u7 a|_=>u8):=id rfl
theorem ZNS(h:G[n]?=u7 (.dct kvs))(hk:Eb e=u7 k):Kg (.ref n) e G=(match Gr kvs k with |some v=>.ok v G|none=>.bad):=by unfold Kg;simp[h,hk]
end
noncomputable def okD:Nat->D->Bool
 |0,_=>uA
 |_+1,.non=>u9
 |_+1,.int _=>u9
 |_+1,.str _=>u9
 |n+1,.tup ds=>ds.all (okD n)
 |n+1,.fl ds=>ds.all (okD n)
 |_+1,_=>uA
theorem Zt{f:D->D->Option Bool}{P:D->Prop}(e:∀x y,P x->P y->∃b,f x y=u7 b/\(b=u9↔x=y)):∀{xs ys:List D},(∀x∈xs,P x)->(∀y∈ys,P y)->
  ∃b,eqZ f xs ys=u7 b/\(b=u9↔xs.take ys.length=ys.take xs.length)
 |[],ys,_,_=>⟨u9,by cases ys<;>rfl,by simp⟩
 |x::xs,[],_,_=>⟨u9,rfl,by simp⟩
 |x::xs,y::ys,g,d=>by obtain⟨b,i,h⟩:=e x y (g x (by simp)) (d y (by simp));obtain⟨c,k,j⟩:=Zt e (λz a=>g z (zX _ a)) (λz a=>d z (zX _ a));refine⟨b&&c,by simp[eqZ,i,k],?_⟩;simp[h,j]
theorem ZGA{G:DH}:∀(n:Nat)(d e:D),okD n d=u9->okD n e=u9->∃b,eqD n G d e=u7 b/\(b=u9↔d=e)
 |0,d,e,h,_=>by cases h
 | n+1,d,e,f,a=>by
  have o:=ZGA (G:=G) n;cases d with
  |bl _|ty _|ref _=>simp[okD]at f
  | tup l=>
   cases e with
   |bl _|ty _|ref _=>simp[okD]at a
   |tup m=>
    simp[okD,q9]at f a;obtain⟨b,j,k⟩:=Zt o (λx g=>f x g) (λx g=>a x g);refine⟨b&&l.length==m.length,by simp[eqD,view,j],?_⟩;simp[z5,k,beq_iff_eq,D.tup.injEq];constructor
    .rintro⟨e,c⟩;rw[<-c,xZ]at e;rw[e,c,xZ]
    rintro rfl;exact⟨rfl,rfl⟩
   |_=>exact⟨uA,by simp[eqD,view],by simp⟩
  | fl l=>
   cases e with
   |bl _|ty _|ref _=>simp[okD]at a
   |fl m=>
    simp[okD,q9]at f a;by_cases c:l.length=m.length
    .obtain⟨b,j,k⟩:=Zt o (λx g=>f x g) (λx g=>a x g);refine⟨b,by simp[eqD,view,c,j],?_⟩;rw[k,<-c,xZ,c,xZ];simp
    exact⟨uA,by simp[eqD,view,c],by simp;rintro rfl;exact c rfl⟩
   |_=>exact⟨uA,by simp[eqD,view],by simp⟩
  |_=>cases e<;>first|(simp[okD]at a;done)|exact⟨_,rfl,by simp[eqV]⟩
theorem Sy(h:∀d∈ds,okD n d=u9):okD (n+1) (.tup ds)=u9:=by simpa[okD]using h
noncomputable def cutD{α:Type}(xs:List α)(lo hi:Option Int):List α:=(xs.drop (HT.sIx xs.length 0 lo)).take (HT.sIx xs.length xs.length hi-HT.sIx xs.length 0 lo)
def R6(z:Str)(lo hi:Option Int):Str:=⟨(cutD z.cps.toList lo hi).toArray⟩
theorem ZSQ{b:Type}(xs:List b)(a c:Option Int):(cutD xs a c).length<=xs.length:=by unfold cutD;rw[j4,jU];lia
def Ir(t:Option DE)(S:DSt)(G:DH):R (Option Int):=match t with
 |none=>.ok u8 G
 |some t=>(t S G).bind λd G1=>match d with
  |.int i=>.ok (u7 i) G1
  |_=>.bad
def Mw(d:D)(lo hi:Option Int)(G:DH):R D:=match d with
 |.str z=>if z.length<=1000000 then .ok (.str (R6 z lo hi)) G else .bad
 |.tup xs=>.ok (.tup (cutD xs lo hi)) G
 |d=>match Fy d G with
  |some xs=>.ok (.ref G.length) (G++[.lst (cutD xs lo hi)])
  |none=>.bad
def dSl(e:DE)(lo hi:Option DE):DE:=λS G=>(e S G).bind λd G1=>(Ir lo S G1).bind λl G2=>(Ir hi S G2).bind λh G3=>Mw d l h G3
theorem V2(n:Nat)(v:Int):((HT.sIx n n (u7 v):Nat):Int)=max 0 (min (if v<0 then v+(n:Int)else v) n)/\((HT.sIx n 0 (u7 v):Nat):Int)=max 0 (min (if v<0 then v+(n:Int)else v) n):=by
 unfold HT.sIx;by_cases a:v<0
 .simp[if_pos a];lia
 simp[if_neg a];lia
theorem ZH2(xs:Array Nat)(i k:Nat):(zZ k).filterMap (λm=>xs[i+m]?)=(xs.toList.drop i).take k:=by
 induction k generalizing i with
 |zero=>simp
 | succ k d=>
  rw[qT,qq];have e:(List.map Nat.succ (.range k)).filterMap (λm=>xs[i+m]?)=(zZ k).filterMap (λm=>xs[i+1+m]?):=by
   rw[qW]
   congr 1
   funext m;simp[Function.comp]
   congr 1
   lia
  rw[e,d (i+1)];by_cases b:i<xs.size
  .have a:xs[i+0]?=u7 xs[i]:=by simp[b]
   rw[a];have c:xs.toList.drop i=xs[i]::xs.toList.drop (i+1):=by rw[zO (by simpa using b)];simp
   rw[c];simp
  have a:xs[i+0]?=u8:=by simp;lia
  rw[a];simp only;rw[zU (by simp;lia),zU (by simp;lia)];simp
theorem ZM5(x:Str)(c b:Option Int):Txt.slice x c b=R6 x c b:=by
 have d:x.length=x.cps.toList.length:=by simp[Str.length]
 have m:(qb c b 1 x.length).filterMap (x.cps[·]?)=cutD x.cps.toList c b:=by
  have n:∀(v:Option Int),(match v with |none=>(0:Int)|some i=>max 0 (min (if i<0 then i+(x.length:Int)else i) x.length))=((HT.sIx x.length 0 v:Nat):Int):=λv=>by
   cases v with
   |none=>rfl
   |some i=>exact(V2 x.length i).2.symm
  have p:∀(v:Option Int),(match v with |none=>(x.length:Int)|some i=>max 0 (min (if i<0 then i+(x.length:Int)else i) x.length))=((HT.sIx x.length x.length v:Nat):Int):=λv=>by
   cases v with
   |none=>rfl
   |some i=>exact(V2 x.length i).1.symm
  have l:qb c b 1 x.length=sliceRange ((HT.sIx x.length 0 c:Nat):Int) ((HT.sIx x.length x.length b:Nat):Int) 1:=by
   rw[<-n c,<-p b];unfold qb
   cases c<;>cases b<;>simp
  rw[l];unfold sliceRange cutD;rw[qW,<-d];generalize HT.sIx x.length 0 c=i;generalize HT.sIx x.length x.length b=j;have s:((λa=>x.cps[a]?) ∘ λ(k:Nat)=>((i:Int)+1*(k:Int)).toNat)=λk=>x.cps[i+k]? :=by
   funext k;simp only[Function.comp]
   congr 1
   lia
  have q:(if(1:Int)>0 then if(i:Int)<(j:Int)then((j:Int)-i+1-1)/1 else 0 else if(i:Int)>(j:Int)then((i:Int)-j-1-1) / -1 else 0).toNat=j-i:=by
   rw[if_pos (by lia)];split
   .rw[Int.ediv_one];lia
   lia
  rw[s,q];exact ZH2 x.cps i (j-i)
 unfold Txt.slice R6;split
 .rename_i h;have w:(qb c b 1 x.length).length=x.length:=by simpa using h
  have g:(cutD x.cps.toList c b).length=x.cps.toList.length:=by
   have l:(qb c b 1 x.length).length=HT.sIx x.length x.length b-HT.sIx x.length 0 c:=by
    have n:∀(v:Option Int),(match v with |none=>(0:Int)|some i=>max 0 (min (if i<0 then i+(x.length:Int)else i) x.length))=((HT.sIx x.length 0 v:Nat):Int):=λv=>by
     cases v with
     |none=>rfl
     |some i=>exact(V2 x.length i).2.symm
    have p:∀(v:Option Int),(match v with |none=>(x.length:Int)|some i=>max 0 (min (if i<0 then i+(x.length:Int)else i) x.length))=((HT.sIx x.length x.length v:Nat):Int):=λv=>by
     cases v with
     |none=>rfl
     |some i=>exact(V2 x.length i).1.symm
    have l:qb c b 1 x.length=sliceRange ((HT.sIx x.length 0 c:Nat):Int) ((HT.sIx x.length x.length b:Nat):Int) 1:=by
     rw[<-n c,<-p b];unfold qb
     cases c<;>cases b<;>simp
    rw[l];unfold sliceRange;rw[zM,List.length_range];generalize HT.sIx x.length 0 c=i;generalize HT.sIx x.length x.length b=j;rw[if_pos (by lia)];split
    .rw[Int.ediv_one];lia
    lia
   have u:HT.sIx x.length x.length b<=x.length:=HT.ZIS _ _ (zY _) b;unfold cutD;rw[j4,jU,<-d];lia
  have r:(cutD x.cps.toList c b).Sublist x.cps.toList:=(List.take_sublist _ _).trans (List.drop_sublist _ _);rw[r.eq_of_length g]
 rw[m]
section
variable{X:Cx}{E:XK}
theorem ZQ5:SlR X (λx c n H Q=>∃z:Str,x=.str z/\z.length<=sizeLine/\Q (.str (R6 z c n)) H):=by
 intro b s P H x v K O c n B Q I C M J r h;obtain⟨z,rfl,N,q⟩:=h;obtain⟨t,rfl⟩:=C;refine⟨"str",_,PySem.F.slot_str_getitem.lookup,typeIs_str _ _ _,?_⟩
 have a:∀(l u:Option (Int×Tok)),K=partValue l->O=partValue u->l.map (·.1)=c->u.map (·.1)=n->vx (vW X.prog X.w) X.A (getItem (.str z t) (.ref B)) (EP X b P Q) X.xe s:=by
  rintro l u rfl rfl rfl rfl;refine wpAny_getItem_str_slice (st:=u8) (M) rfl ?_
  have e:∀d,(Txt.slice z (l.map (·.1)) (u.map (·.1))).length<=sizeLine/\(∀m k,d (.str (Txt.slice z (l.map (·.1)) (u.map (·.1))) m) {s with toks:=k})->(sliceMade z t l u u8).post d s:=λd L=>post_val_or_str L
  refine e _ ⟨z6 (Txt.slice_le z _ _) N,λm k=>?_⟩;rw[ZM5];exact⟨.str _,H,I.tok k,⟨m,rfl⟩,q⟩
 cases J with
 |none=>cases r with
  |none=>exact a u8 u8 rfl rfl rfl rfl
  |int j g=>exact a u8 (u7 (j,g)) rfl rfl rfl rfl
 |int i y=>cases r with
  |none=>exact a (u7 (i,y)) u8 rfl rfl rfl rfl
  |int j g=>exact a (u7 (i,y)) (u7 (j,g)) rfl rfl rfl rfl
theorem ZMH{prog:xD}{w:xI}{A:x0}{E:xH->xF->Prop}{s:xF}{t j:xy}{items:Array xH}{m l:xH}{a d:Option Int}{Q:xH->xF->Prop}(c:IsTup s.heap t items)(k:s.heap.IsSliceOf j m l .none)(pl:IsPart m a)(p:IsPart l d)
  (hw:HT.sIx items.size 0 a=0/\HT.sIx items.size items.size d=items.size) (h:Q (.ref t) s):vx (vW prog w) A (getItem (.ref t) (.ref j)) Q E s:=by
 obtain⟨n,i,g,q⟩:=id k;unfold getItem
 try with_reducible refine vD ?_
 first|refine vk (vH ?_)|skip
 refine vk (wpAny_sequenceKey c.typeIs (by decide) ?_);refine vk (vA c.typeIs jd
  (vB jd c.typeIs entry_tuple_getitem ?_ (args_tuple_getitem _ _)))
 show vx _ _ (Builtin.Tuple.tupleItemsOf (.ref t) >>=_) _ _ s;refine vk (tupleItemsOf_ c ?_);refine vk (wpAny_typeOf ⟨n,i,g⟩ ?_);rw[if_pos (by decide)];refine vk (HT.ZDa k pl p ?_);have b:(((HT.sIx items.size 0 a:Nat):Int)==0&&(1:Int)==1&&(HT.sIx items.size items.size d-HT.sIx items.size 0 a)==items.size)=u9:=by rw[hw.1,hw.2];simp
 show vx _ _ (if(((HT.sIx items.size 0 a:Nat):Int)==0&&(1:Int)==1&&(HT.sIx items.size items.size d-HT.sIx items.size 0 a)==items.size)=u9 then _ else _) _ _ s;rw[if_pos b];refine vk ?_;unfold Builtin.Tuple.tupleIsExact;refine vk (wpAny_typeOf c.typeIs (vH ?_));rw[if_pos (by decide)];exact vk (wpAny_rule (vH ⟨_,rfl,vH h⟩))
theorem ZJ2:SlR X (λx i d H Q=>∃a xs,x=.ref a/\SqT X.K H a xs/\(HT.sIx xs.length 0 i=0/\HT.sIx xs.length xs.length d=xs.length)/\Q (.ref a) H):=by intro g s w H x v A y i d u Q I m k n l h;obtain⟨a,xs,rfl,p,hw,q⟩:=h;cases m;obtain⟨c,r,j,z⟩:=I.tuple p;exact⟨"tuple",_,PyProof.Rows.slot_tuple_getitem.lookup,j.typeIs,ZMH j k n l ((zK▸r.length.symm)▸hw) ⟨.ref a,H,I,rfl,q⟩⟩
def Pg(E:XK)(a:Wd)(r:R (Option Int))(Q:Option Int->Hp->Prop):Prop:=match r with
 |.ok k G=>∀(b:Wd),Ext a b->Sim b G->Q k b.H
 |.err x G=>XOk E a x G
 |.bad=>False
def QO(X:Cx)(E:XK)(e:Option xA)(t:Option DE):Prop:=PO X e (λσ H Q=>PS3 X.K σ H λa S G=>Pg E a (Ir t S G) Q)
theorem _root_._L.PO.mono(h:PO X e t)(w:∀a H Q,t' a H Q->t a H Q):PO X e t':=λb s a H Q I q=>h b s a H Q I (w a H Q q)
theorem ZKR:QO X E u8 u8:=ZKq.mono λb H Q h=>by obtain⟨a,S,G,hk,rfl,s,r,h⟩:=h;exact h a (.refl a) s
theorem ZIU(m:QE X E e t):QO X E (u7 e) (u7 t):=(ZP5 m).mono λn H Q h=>by
 obtain⟨a,S,G,hk,rfl,s,r,h⟩:=h;refine⟨a,S,G,hk,rfl,s,r,?_⟩
 have c:Pg E a ((t S G).bind λd g=>match d with | .int i=>.ok (u7 i) g|_=>.bad) Q:=h
 cases j:t S G with
 |ok d g=>
  rw[j]at c;intro b v x k l;cases d with
  |int i=>exact⟨i,l,c b x k⟩
  |_=>exact c.elim
 |_=>rw[j]at c;exact c
theorem Reps.cutD(r:Reps a ds vs)(b c:Option Int):Reps a (_D.cutD ds b c) (Nt vs b c):=by unfold _D.cutD Nt;rw[r.length];exact(r.drop _).take _
theorem Pg.imp(h:Pg E a r Q)(w:∀v H,Q v H->Q' v H):Pg E a r Q':=by
 cases r with
 |ok d G=>exact λb x s=>w _ _ (h b x s)
 |_=>exact h
theorem ZDb(h:out E a (r.bind f) Q):
  Pg E a r (λk H=>PB3 a H r k λb G=>out E b (f k G) Q):=by
 cases r with
 |ok d G=>exact λb x s=>⟨b,G,rfl,x,s,rfl,out.mono x h⟩
 |_=>exact h
theorem ZKo{e:xA}{N T:Option xA}{U:DE}{P th:Option DE}{p2 pos:Pos}(he:QE X E e U)(M:QO X E N P)(hu:QO X E T th):QE X E (.Subscript e (.Slice N T u8 p2) pos) (dSl U P th):=
 (ZRu (ZIV.or (ZLV.or (ZJ2.or ZQ5))) he M hu).mono λσ H Q h=>by
 obtain⟨a,S,G,hk,rfl,s,r,h⟩:=h;refine⟨a,S,G,hk,rfl,s,r,(Ea h).imp ?_⟩;rintro v _ ⟨b,d,W,rfl,x,s1,q,_,h1⟩;refine⟨b,S,W,x.k.trans hk,rfl,s1,r.mono x,(ZDb h1).imp ?_⟩;rintro l _ ⟨c,Z,rfl,y,s2,_,Y⟩;refine⟨c,S,Z,y.k.trans (x.k.trans hk),rfl,s2,(r.mono x).mono y,(ZDb Y).imp ?_⟩;rintro u _ ⟨C,J,rfl,O,F,_,g⟩;have m:=O.k.trans (y.k.trans (x.k.trans hk));have L:=(q.mono y).mono O
 have lst:out E C (match Fy d J with |some w=>.ok (.ref J.length) (J++[.lst (cutD w l u)])|none=>.bad) Q->rSlL X.K v l u C.H Q:=λg=>by
  split at g
  .rename_i w hx;obtain⟨p,j,I,B,A⟩:=Rb F L hx;exact⟨p,j,I,by rw[<-m];exact B,λp hp=>Jq F (.cutD A l u) g p hp⟩
  exact g.elim
 cases d with
 |str z=>
  have n:out E C (if z.length<=1000000 then .ok (.str (R6 z l u)) J else .bad) Q:=g;split at n
  .rename_i M;cases(L);exact .inr (.inr (.inr ⟨z,rfl,z6 M size6,n C _ (.refl _) F rfl⟩))
  exact n.elim
 | tup w=>
  have n:=g;obtain⟨p,j,I,B,A⟩:=L;by_cases hw:HT.sIx j.length 0 l=0/\HT.sIx j.length j.length u=j.length
  .refine .inr (.inr (.inl ⟨p,j,I,by rw[<-m];exact B,hw,n C _ (.refl _) F ⟨p,j,rfl,B,?_⟩⟩));have:cutD w l u=w:=by unfold cutD;rw[A.length,hw.1,hw.2,<-A.length];simp
   rw[this];exact A
  exact .inr (.inl ⟨p,j,I,by rw[<-m];exact B,hw,λp hp=>X8 F (.cutD A l u) n p hp⟩)
 |fl w|ref i=>exact .inl (lst g)
 |_=>exact(g).elim
section
variable{name:Str}{id:String}{f:D->List D->DH->R D}{o e:xA}{es:List xA}{to:DE}{t:DA}{apos cpos:Pos}
end
end
section
variable{S:DSt}{G:DH}
@[simp]theorem ev_Sl{e:DE}{b a:Option DE}:dSl e b a S G=(e S G).bind λd c=>(Ir b S c).bind λl i=>(Ir a S i).bind λh g=>Mw d l h g:=id rfl
@[simp]theorem ev_slF{xs:List D}{a b:Option Int}:Mw (.fl xs) a b G=.ok (.ref G.length) (G++[.lst (cutD xs a b)]):=id rfl
@[simp]theorem Nk:Bj (.str z) (.int i) G=if z.length<=1000000 then(match atI z.cps.toList i with |some c=>.ok (sgn c) G|none=>.bad)else .bad:=id rfl
end
end _D
namespace _D
open PySem PySem.Spec _L
open PyProof.Rows hiding St
open Builtin.Str
section
variable(p:Nat->Bool)(m:Nat)
end
def CStep(g:DG)(c:DB)(te:DE)(S:DSt)(G:DH)(x:D)(r:Option D):Prop:=
 ∃S1,g x S G=.ok S1 G/\((c S1 G=.ok uA G/\r=u8)\/(c S1 G=.ok u9 G/\∃d,te S1 G=.ok d G/\r=u7 d))
theorem Vs:∀{xs:List D},(∀x∈xs,CStep g c te S G x (F x))->Cg g c te S xs G=.ok (xs.filterMap F) G
 |[],_=>rfl
 |x::xs,h=>by
  obtain⟨k,f,a⟩:=h x (by simp);have e:=Vs (λy i=>h y (zX _ i));rw[Zn,f];rcases a with⟨a,b⟩|⟨a,d,b,j⟩
  .simp[a,b,e]
  simp[a,b,j,e]
theorem ZHF(e:G[i]?=u7 (.lst xs))(h:∀x∈xs,CStep g c te S G x (F x)):
  ∀(n j:Nat),j+n=xs.length->Fi i g c te S n j G=.ok ((xs.drop j).filterMap F) G
 |0,j,o=>by
  unfold Fi;rw[e];simp only;rw[if_pos (by lia),zU (by lia)]
  rfl
 |n+1,j,o=>by
  have a:j<xs.length:=by lia
  have k:=ZHF e h n (j+1) (by lia);obtain⟨r,l,b⟩:=h xs[j] (qx a);unfold Fi;rw[e];simp only;rw[zJ a];simp[l,R.Hm];rw[zO a,qq];rcases b with⟨b,f⟩|⟨b,d,f,q⟩
  .simp[b,f,k]
  simp[b,f,q,k]
theorem ZC4(a:G[i]?=u7 (.lst xs))(h:∀x∈xs,CStep g c te S G x (F x)):
  Fi i g c te S xs.length 0 G=.ok (xs.filterMap F) G:=ZHF a h xs.length 0 (by lia)
theorem ZEH{x y:Str}(h:x.cps.toList=y.cps.toList):x=y:=by obtain⟨a⟩:=x;obtain⟨b⟩:=y;simp only at h;rw[Array.toList_inj.mp h]
end _D
namespace _D
open PySem PySem.Spec _L
open PyProof.Rows hiding St
inductive Src where
 |l (a:xy)
 |t (a:xy)
def Src.itn:Src->String
 |.l _=>"list_iterator"
 |.t _=>"tuple_iterator"
def Src.adr:Src->xy
 |.l a=>a
 |.t a=>a
def Src.it(h:Heap)(p:xy)(k:Nat)(sr:Src):Prop:=∃o,h.get? p=u7 o/\o.cls=.type sr.itn/\o.data=.fields #[.ref sr.adr,.int k 0]
def Src.val(h:Heap)(xs:Array xH):Src->Prop
 |.l a=>h.IsList a xs
 |.t a=>h.IsTuple a xs
theorem Src.it.at{a:Src}{h h':Heap}{p:xy}{k:Nat}(x:a.it h p k)(e:∀o,h.get? p=u7 o->h'.get? p=u7 o):a.it h' p k:=let⟨o,b,r⟩:=x;⟨o,e o b,r⟩
theorem Src.val.at{b:Src}{h h':Heap}{xs:Array xH}(x:b.val h xs)(e:∀o,h.get? b.adr=u7 o->h'.get? b.adr=u7 o):b.val h' xs:=by
 cases b with
 |_=>obtain⟨o,c,r⟩:=x;exact⟨o,e o c,r⟩
theorem Src.it.lt{a:Src}{h:Heap}{p:xy}{k:Nat}(x:a.it h p k):p<h.objs.size:=let⟨_,b,_⟩:=x;zx b
section
variable{prog:xD}{w:xI}{A:x0}{E:xH->xF->Prop}{s:xF}
theorem Src.val.obj{c:Src}{h:Heap}{xs:Array xH}(x:c.val h xs):∃o n,h.get? c.adr=u7 o/\o.data=.seq xs n:=by
 cases c with
 |_=>obtain⟨o,d,_,n,b⟩:=x;exact⟨o,n,d,b⟩
theorem Src.next_item{f:Src}{p:xy}{k:Nat}{xs:Array xH}{x:xH}{Q:xH->xF->Prop}(d:f.it s.heap p k)(n:f.val s.heap xs)(r:xs[k]?=u7 x)
  (i:∀h',f.it h' p (k+1)->qL p s.heap h'->Q x {s with heap:=h'}):vx (vW prog w) A (qi (.ref p)) Q E s:=by
 cases f with
 |l a=>exact wpAny_nextOf_list_item (d) n r i
 |t a=>
  obtain⟨o,e,q,c⟩:=id d;obtain⟨u,h,_,v,g⟩:=n;have j:s.TypeIs (.ref p) "tuple_iterator":=⟨o,e,q⟩;unfold qi;refine vk (vA j jf (vB jf j wM ?_ (wO _)));refine vk (m:=field (.ref p) 0) (vC e c (x:=.ref a) rfl ?_)
  rw[if_neg (show¬((.ref a==Value.none)=u9)from zy)]
  refine vk (vC e c rfl (vk (wpAny_seqItems h g ?_)));simp[Int.toNat_natCast,r];refine vk (wpAny_setField e c (by simp) (vH ⟨x,rfl,vH (i _ ⟨_,qz _ e (Obj.isFreed_of_fields (Obj.data_mapFields c _)),(Obj.cls_mapFields ..).trans q,?_⟩ (.update ..))⟩));rw[Obj.data_mapFields c];simp[vK,Src.adr]
theorem Src.next_end{f:Src}{p:xy}{k:Nat}{xs:Array xH}{Q:xH->xF->Prop}(j:A.handled=u8)(c:f.it s.heap p k)(q:f.val s.heap xs)(u:xs[k]?=u8)
  (r:∀h' e,Heap.ExtBut p s.heap h'->(∃o,h'.get? e=u7 o/\o.cls=.type "StopIteration")->E (.ref e) {s with heap:=h'}):vx (vW prog w) A (qi (.ref p)) Q E s:=by
 cases f with
 |l a=>exact wpAny_nextOf_list_end j (c) q u r
 |t a=>
  obtain⟨o,d,v,g⟩:=id c;obtain⟨y,i,_,z,h⟩:=q;have n:s.TypeIs (.ref p) "tuple_iterator":=⟨o,d,v⟩;unfold qi;refine vk (vA n jf (vB jf n wM ?_ (wO _)));refine vk (m:=field (.ref p) 0) (vC d g (x:=.ref a) rfl ?_)
  rw[if_neg (show¬((.ref a==Value.none)=u9)from zy)]
  refine vk (vC d g rfl (vk (wpAny_seqItems i h ?_)));simp[Int.toNat_natCast,u];refine vk (wpAny_rule (vk (wpAny_setField d g (by simp) (vk ?_))));simp[newExc,newTuple]
  refine vk (vF (vk (wpAny_of_eq (by first|rfl|(simp[firstArgMember];rfl)) (vF ?_ (by size_fits)))) (by size_fits))
  simp only[raiseNew];refine vk (wpAny_handled ?_)
  first|rw[j]|rw[j]
  exact vk (vH (wpAny_throw (r _ _ (((qL.update ..).extBut.push _).push _) ⟨_,z0 _ rfl,rfl⟩)))
theorem Src.iter{c:Src}{xs:Array xH}{Q:xH->xF->Prop}(e:c.val s.heap xs)
  (f:Q (.ref s.heap.objs.size) {s with heap:=s.heap.push {cls:=.type c.itn,data:=.fields #[.ref c.adr,.int 0 0]}}):vx (vW prog w) A (pyIter (.ref c.adr)) Q E s:=by
 cases c with
 |l a=>exact wpAny_pyIter_list e f
 |t a=>exact wpAny_pyIter_tuple e f
end
abbrev En(h:Heap)(e it:xy)(f0:xH)(i:Int)(g old:xH):Prop:=
 h.get? e=u7 {cls:=.type "enumerate",dict:=u8,data:=.fields #[f0,.bool uA,.ref it,vK i,g,old],slots:= #[]}
def Gv(i:Int)(g:xH):Prop:=g=.none\/∃t,g=.int i t
section
variable{prog:xD}{w:xI}{A:x0}{E:xH->xF->Prop}{s:xF}
theorem ZOD{sr:Src}{e it:xy}{k:Nat}{i:Int}{xs:Array xH}{x g z:xH}{Q:xH->xF->Prop}(he:En s.heap e it .none i g z)(hg:Gv i g)(hit:sr.it s.heap it k)(hv:sr.val s.heap xs)(hx:xs[k]?=u7 x)(K:e≠it)
  (hQ:∀h' t tk,En h' e it (vK s.heap.objs.size) (i+1) .none x->sr.it h' it (k+1)->h'.get? s.heap.objs.size=u7 {cls:=.type "tuple",data:=.seq #[.int i t,x]}->h'.objs.size=s.heap.objs.size+1->
   (∀b o,b≠e->b≠it->s.heap.get? b=u7 o->h'.get? b=u7 o)->Q (.ref s.heap.objs.size) {s with heap:=h',toks:=tk}):
  vx (vW prog w) A (Builtin.«enumerate.__next__» ⟨[.ref e],[]⟩) (λO s'=>∃v,O=.done (.ret v)/\Q v s') E s:=by
 obtain⟨hp,gg,d,tk,os⟩:=s;refine vk (m:=field (.ref e) 2) (vC he rfl rfl (vk (Src.next_item hit hv hx λU J p=>?_)));have n:=(p.2 e K).trans he;refine vk (vC n rfl rfl ?_);refine vk (vC n rfl (x:=g) rfl ?_)
 have rest:∀(t:Tok)(P:Nat),vx (vW prog w) A (do
   setField (.ref e) 3 (vK (i+1));setField (.ref e) 4 .none
   let result<-newTuple [.int i t,x]
   if<-vc (.ref e)then
    rule "enumerate.__next__.owned-tuple-again"
    let z<-field (.ref e) 5
    setField (.ref e) 5 x
    vd (.ref e) result
    PySem.letGo [z] [result]
   ret result) (λO s'=>∃v,O=.done (.ret v)/\Q v s') E ⟨U,gg,d,P,os⟩:=by
  intro t P;refine vk (vI n (by simp) λh₂ S j=>?_);refine vk (vI S (by simp) λH l h=>?_)
  replace l:En H e it .none (i+1) .none z:=l
  have y:H.objs.size=hp.objs.size:=by rw[h.1];rw[j.1];exact p.1
  refine vk (wpAny_newTuple ?_);generalize c:H.push {cls:=.type "tuple",data:=.seq [Value.int i t,x].toArray}=f;have u:En f e it .none (i+1) .none z:=by rw[<-c];exact zQ _ l
  have N:f.get? hp.objs.size=u7 {cls:=.type "tuple",data:=.seq #[.int i t,x]}:=by rw[<-c,<-y];exact z0 _ rfl
  have z₄:f.objs.size=hp.objs.size+1:=by rw[<-c,qk,y]
  have k₄:∀b o,b≠e->b≠it->hp.get? b=u7 o->f.get? b=u7 o:=λb o M W q=>by rw[<-c];exact zQ _ ((λb o M W q=>h.extBut b o M (j.extBut b o M ((λb o _ Z q=>p.extBut b o Z q) b o M W q))) b o M W q)
  have X:sr.it f it (k+1):=((J.at λo q=>j.extBut it o (.symm K) q).at λo q=>h.extBut it o (.symm K) q).at λo q=>by rw[<-c];exact zQ _ q
  have ez:=zx he;refine vk ?_;unfold vc;refine vk (vC u rfl rfl (vH ?_));simp[if_true];refine vk (wpAny_rule (vk (vC u rfl (x:=z) rfl (vk (vI u (by simp) λY r B=>?_)))))
  replace r:En Y e it .none (i+1) .none x:=r
  refine vk ?_;unfold vd;refine vk (vI r (by simp) λh₆ T C=>?_);refine vI T (by simp) λL I F=>?_
  refine vk (wpAny_letGo (vH ⟨_,rfl,?_⟩));have up:∀b o,b≠e->f.get? b=u7 o->L.get? b=u7 o:=λb o Z q=>F.extBut b o Z (C.extBut b o Z (B.extBut b o Z q))
  rw[y];rw[y]at I;exact hQ L t P I (X.at λo q=>up it o (.symm K) q) (up _ _ (jY ez) N) (by rw[F.1];rw[C.1];rw[B.1];exact z₄) λb o M W q=>up b o M (k₄ b o M W q)
 rcases hg with rfl|⟨t,rfl⟩
 .exact vk (wpAny_mkInt (rest tk (tk+1)))
 exact vk (vH (rest t tk))
theorem ZKe{c:Src}{e it:xy}{k:Nat}{i:Int}{xs:Array xH}{x g h:xH}{Q:Option xH->xF->Prop}(m:En s.heap e it .none i g h)(p:Gv i g)(d:c.it s.heap it k)(q:c.val s.heap xs)(B:xs[k]?=u7 x)(f:e≠it)
  (y:∀h' t tk,En h' e it (vK s.heap.objs.size) (i+1) .none x->c.it h' it (k+1)->h'.get? s.heap.objs.size=u7 {cls:=.type "tuple",data:=.seq #[.int i t,x]}->h'.objs.size=s.heap.objs.size+1->
   (∀b o,b≠e->b≠it->s.heap.get? b=u7 o->h'.get? b=u7 o)->Q (u7 (.ref s.heap.objs.size)) {s with heap:=h',toks:=tk}):
  vx (vW prog w) A (pyNext (.ref e)) Q E s:=by
 have l:s.TypeIs (.ref e) "enumerate":=⟨_,m,rfl⟩;unfold pyNext;exact vk (wpAny_attempt (vA l jg
  (vB jg l wS (ZOD m p d q B f λh' t tk z u r n v=>vH (y h' t tk z u r n v)) (wa _))))
theorem ZJB{l:Src}{e it:xy}{k:Nat}{i:Int}{xs:Array xH}{g c:xH}{Q:Option xH->xF->Prop}(r:A.handled=u8)(j:En s.heap e it .none i g c)(b:l.it s.heap it k)(p:l.val s.heap xs)(u:xs[k]?=u8)
  (n:∀h',Heap.ExtBut it s.heap h'->Q u8 {s with heap:=h'}):vx (vW prog w) A (pyNext (.ref e)) Q E s:=by
 have h:s.TypeIs (.ref e) "enumerate":=⟨_,j,rfl⟩;unfold pyNext;refine vk (wpAny_attempt (vA h jg
  (vB jg h wS (vk (m:=field (.ref e) 2) (vC j rfl rfl (vk (Src.next_end r b p u λh' x f d=>?_)))) (wa _))))
 obtain⟨o,t,q⟩:=d;exact vk (wpAny_isInstance ⟨o,t,q⟩ isSubtype_stop (vH (n _ f)))
theorem ZQJ{elts:List xA}{x1}{pos:Pos}{e it a:xy}{i:Int}{g c:xH}{Q:Unit->xF->Prop}(h:En s.heap e it (vK a) i g c)
  (j:∀h',En h' e it .none i g c->qL e s.heap h'->Q () {s with heap:=h'}):vx (vW prog w) A (vX (.Tuple elts x1 pos) (.ref e) (.ref a)) Q E s:=by
 unfold vX;refine vk (wpAny_load h ?_);dsimp only;rw[if_pos (by simp)];exact vk (wpAny_rule (vI h (by simp) λh' d f=>j h' d f))
theorem Z4(b:En s.heap e it f0 i g old)(h:Q (.ref e) s):vx (vW prog w) A (pyIter (.ref e)) Q E s:=by have a:s.TypeIs (.ref e) "enumerate":=⟨_,b,rfl⟩;exact wpAny_pyIter_slot a wb (vB wb a PySem.F.entry_enumerate_iter (vH ⟨_,rfl,"enumerate",_,a,PySem.F.slot_enumerate_next.lookup,h⟩) (PySem.F.args_enumerate_iter_1 _))
end
abbrev Tp(h:Heap)(T:xy)(xs:List xH):Prop:=h.get? T=u7 {cls:=.type "tuple",data:=.seq xs.toArray}
inductive Drw (h:Heap) (i:Nat):List (Src×xy)->List xH->Prop where
 |nil:Drw h i [] []
 |cons {sr p r x us xs} (hit:Src.it h p i sr) (hv:sr.val h xs) (hx:xs[i]?=u7 x) (t:Drw h i r us):Drw h i ((sr,p)::r) (x::us)
theorem Drw.length(d:Drw h i l us):us.length=l.length:=by
 induction d with
 |nil=>rfl
 |cons _ _ _ _ a=>simp[a]
section
variable{prog:xD}{w:xI}{A:x0}{E:xH->xF->Prop}{s:xF}
theorem ZMc(b:Tp s.heap T xs)(hz:xs.length<=1000000)
  (h:∀h',Tp h' T (xs.set k x)->qL T s.heap h'->Q () {s with heap:=h'}):vx (vW prog w) A (updateSeq T (·.setIfInBounds k x)) Q E s:=by
 have c:=zK▸z6 hz size6;refine wpAny_updateSeq b rfl (h _ ?_ (.update ..)) c (by rw[Array.size_setIfInBounds];exact Nat.le_succ_of_le c);show(s.heap.update T _).get? T=_;rw[qz _ b rfl];simp[Obj.mapSeq]
def ZS(prog:xD)(w:xI)(A:x0)(E:xH->xF->Prop)(z TO p:xy)(k:Nat)(R:xF->Prop)(s:xF):Prop:=
 vx (vW prog w) A (qi (.ref p)) (λx s1=>∃os,Tp s1.heap TO os/\os.length<=1000000/\∀h',Tp h' TO (os.set k x)->qL TO s1.heap h'->R {s1 with heap:=h'})
  (λe s'=>vx (vW prog w) A (setField (.ref z) 0 .none) (λ_ s''=>E e s'') E s') s
theorem ZFe{z TO p:xy}{k i:Nat}{r:Src}{xs:Array xH}{x:xH}{q:List xH}{Q:xF->Prop}(l:Tp s.heap TO q)(hz:q.length<=1000000)(j:r.it s.heap p i)(y:r.val s.heap xs)(F:xs[i]?=u7 x)
  (h:∀h',Tp h' TO (q.set k x)->r.it h' p (i+1)->(∀b o,b≠TO->b≠p->s.heap.get? b=u7 o->h'.get? b=u7 o)->h'.objs.size=s.heap.objs.size->Q {s with heap:=h'}):ZS prog w A E z TO p k Q s:=by
 have m:TO≠p:=λe=>by
  obtain⟨o,u,C,_⟩:=j;rw[<-e,l]at u;cases u
  cases r<;>(simp[Src.itn]at C)
 exact Src.next_item j y F λt f d=>⟨q,d.extBut _ _ m l,hz,λn g c=>(h n g (f.at λo e=>c.extBut _ _ (.symm m) e) (λb o B v e=>c.extBut b o B (d.extBut b o v e)) (by rw[c.1];rw[d.1]))⟩
theorem ZFO{z TO:xy}{i:Nat}{m:xH×Nat->Option Fin×PUnit->Sem (ForInStep (Option Fin×PUnit))}{R:Option Fin×PUnit->xF->Prop}
  (hb:∀(p:xy)(k:Nat)(s:xF)(R':ForInStep (Option Fin×PUnit)->xF->Prop),ZS prog w A E z TO p k (λs'=>R' (.yield (u8,⟨⟩)) s') s->
   vx (vW prog w) A (m (.ref p,k) (u8,⟨⟩)) R' E s):
  ∀(l:List (Src×xy))(us pre post:List xH)(s:xF),Drw s.heap i l us->Tp s.heap TO (pre++post)->post.length=l.length->(pre++post).length<=1000000->(l.map (·.2)).Nodup->(∀q∈l,q.1.adr≠TO)->(∀q∈l,∀r∈l,q.1.adr≠r.2)->
   (∀h',Tp h' TO (pre++us)->(∀q∈l,q.1.it h' q.2 (i+1))->(∀b o,b≠TO->b∉l.map (·.2)->s.heap.get? b=u7 o->h'.get? b=u7 o)->h'.objs.size=s.heap.objs.size->R (u8,⟨⟩) {s with heap:=h'})->
   vx (vW prog w) A (forIn ((l.map λq=>Value.ref q.2).zipIdx pre.length) (u8,⟨⟩) m) R E s
 | [],us,pre,post,s,d,H,u,J,O,N,C,M=>by
  cases d;cases post with
  |cons _ _=>simp at u
  |nil=>
   rw[jF,List.zipIdx_nil,List.forIn_nil];exact vH (M s.heap H (λq a=>by cases a) (λb o _ _ e=>e) rfl)
 | (P,p)::l,us,pre,post,s,d,H,u,J,O,N,C,M=>by
  cases d with
  |@cons _ _ _ x us xs h hv hx d=>
  cases post with
  |nil=>simp at u
  | cons y post=>
   rw[zk,xJ,xz];refine vk (hb p pre.length s _ (ZFe H J h hv hx λh' g it' kp sz=>?_));have X:(pre++y::post).set pre.length x=(pre++[x])++post:=by simp
   rw[X]at g;have W:pre.length+1=(pre++[x]).length:=by simp
   dsimp only;rw[W]
   have f:p∉l.map (·.2)/\(l.map (·.2)).Nodup:=by simpa using O
   have j:∀q∈l,q.2≠TO:=λq a e=>by
    have:∃P k,Src.it s.heap q.2 k P:=by
     clear M N C O f X W u g J
     induction d with
     |nil=>cases a
     |cons h _ _ _ U=>
      rcases zj.mp a with rfl|a
      .exact⟨_,_,h⟩
      exact U a
    obtain⟨sr',k,o,L,Y,_⟩:=this;rw[e,H]at L;cases L
    cases sr'<;>(simp[Src.itn]at Y)
   have d':Drw h' i l us:=by
    have F:∀q∈l,q.1.adr≠TO:=λq a=>N q (zX _ a)
    have I:∀q∈l,q.1.adr≠p:=λq a=>C q (zX _ a) (P,p) zW
    have pp:∀q∈l,q.2≠p:=λq a e=>f.1 (z9.mpr ⟨q,a,e⟩)
    clear M N C O f X W u g J
    induction d with
    |nil=>exact .nil
    |@cons sr1 p1 r1 x1 us1 xs1 B T Z t1 U=>
     exact .cons (B.at λo e=>kp _ o (j _ zW) (pp _ zW) e) (T.at λo e=>kp _ o (F _ zW) (I _ zW) e) Z (U (λq a=>j q (zX _ a)) (λq a=>F q (zX _ a)) (λq a=>I q (zX _ a)) (λq a=>pp q (zX _ a)))
   refine ZFO hb l us (pre++[x]) post {s with heap:=h'} d' g (by simpa using u) (by simpa using J) f.2 (λq a=>N q (zX _ a)) (λq a r hr=>C q (zX _ a) r (zX _ hr)) λS Q t n v=>?_
   have K:p≠TO:=λe=>by
    obtain⟨o,L,Y,_⟩:=h;rw[e,H]at L;cases L
    cases P<;>(simp[Src.itn]at Y)
   refine M S (by simpa using Q) (λq a=>?_) (λb o b1 b2 e=>?_) (v.trans sz)
   .rcases zj.mp a with rfl|a
    .exact it'.at λo e=>n _ o K f.1 e
    exact t q a
   simp only[zk,zj,not_or]at b2;exact n b o b1 b2.2 (kp b o b1 b2.1 e)
end
inductive DrwE (h:Heap) (i:Nat):List (Src×xy)->Prop where
 |here {sr p r xs} (hit:Src.it h p i sr) (hv:sr.val h xs) (hx:xs[i]?=u8):DrwE h i ((sr,p)::r)
 |there {sr p r x xs} (hit:Src.it h p i sr) (hv:sr.val h xs) (hx:xs[i]?=u7 x) (t:DrwE h i r):DrwE h i ((sr,p)::r)
structure ApZ (TO:xy) (l:List (Src×xy)):Prop where
 nd:(l.map (·.2)).Nodup
 na:∀q∈l,q.1.adr≠TO
 np:∀q∈l,∀r∈l,q.1.adr≠r.2
 to:∀q∈l,q.2≠TO
theorem ApZ.tail{TO:xy}{q:Src×xy}{l:List (Src×xy)}(a:ApZ TO (q::l)):ApZ TO l:=
 ⟨(qR.mp (by simpa using a.nd)).2,λq b=>a.na q (zX _ b),λq b r c=>a.np q (zX _ b) r (zX _ c),λq b=>a.to q (zX _ b)⟩
section
variable{prog:xD}{w:xI}{A:x0}{E:xH->xF->Prop}{s:xF}
theorem DrwE.at{TO p:xy}{u:Src}{i:Nat}{h h':Heap}{l:List (Src×xy)}(a:ApZ TO ((u,p)::l))(j:∀b o,b≠TO->b≠p->h.get? b=u7 o->h'.get? b=u7 o)(d:DrwE h i l):DrwE h' i l:=by
 have n:∀q∈l,q.2≠p:=λq f e=>(qR.mp (by simpa using a.nd)).1 (z9.mpr ⟨q,f,e⟩)
 have k:∀q∈l,q.1.adr≠p:=λq f=>a.np q (zX _ f) (u,p) zW
 have g:=a.tail;clear a
 induction d with
 |here c m r=>exact .here (c.at λo e=>j _ o (g.to _ zW) (n _ zW) e) (m.at λo e=>j _ o (g.na _ zW) (k _ zW) e) r
 | there c m r t v=>
  exact .there (c.at λo e=>j _ o (g.to _ zW) (n _ zW) e) (m.at λo e=>j _ o (g.na _ zW) (k _ zW) e) r
   (v (λq f=>n q (zX _ f)) (λq f=>k q (zX _ f)) g.tail)
theorem ZBs{z TO:xy}{i:Nat}{f:xH×Nat->Option Fin×PUnit->Sem (ForInStep (Option Fin×PUnit))}{R:Option Fin×PUnit->xF->Prop}(M:A.handled=u8)
  (J:∀(p:xy)(k:Nat)(s:xF)(K:ForInStep (Option Fin×PUnit)->xF->Prop),ZS prog w A E z TO p k (λs'=>K (.yield (u8,⟨⟩)) s') s->
   vx (vW prog w) A (f (.ref p,k) (u8,⟨⟩)) K E s):
  ∀(l:List (Src×xy))(m:List xH)(n:Nat)(s:xF),DrwE s.heap i l->Tp s.heap TO m->m.length<=1000000->ApZ TO l->
   (∀h' e,(∀b o,b≠TO->b∉l.map (·.2)->s.heap.get? b=u7 o->h'.get? b=u7 o)->(∃o,h'.get? e=u7 o/\o.cls=.type "StopIteration")->vx (vW prog w) A (setField (.ref z) 0 .none) (λ_ F=>E (.ref e) F) E {s with heap:=h'})->
   vx (vW prog w) A (forIn ((l.map λq=>Value.ref q.2).zipIdx n) (u8,⟨⟩) f) R E s
 |[],m,n,s,d,I,B,a,y=>by cases d
 | (P,p)::l,m,n,s,d,I,B,a,y=>by
  rw[zk,xJ,xz];refine vk (J p n s _ ?_);cases d with
  |here g v H=>
   exact Src.next_end M g v H λh' e N x=>y h' e (λb o C h q=>N b o (λz=>h (by rw[z];simp)) q) x
  |there g v H t=>
   refine ZFe I B g v H λh' u O L sz=>?_
   refine ZBs M J l _ (n+1) {s with heap:=h'} (t.at a L) u (by simpa using B) a.tail λr e j x=>?_
   refine y r e (λb o C h q=>?_) x;simp only[zk,zj,not_or]at h;exact j b o C h.2 (L b o C h.1 q)
theorem ZFS{z TI TO:xy}{l:List (Src×xy)}{R:Fin->xF->Prop}(hz:IsZip s.heap z TI TO .none)(F:Tp s.heap TI (l.map λq=>Value.ref q.2))(J:l≠[])
  (h:∀c,IsZip c z TI TO .ellipsis->qL z s.heap c->∀f:xH×Nat->Option Fin×PUnit->Sem (ForInStep (Option Fin×PUnit)),
   (∀(p:xy)(k:Nat)(s:xF)(H:ForInStep (Option Fin×PUnit)->xF->Prop),ZS prog w A E z TO p k (λs'=>H (.yield (u8,⟨⟩)) s') s->
    vx (vW prog w) A (f (.ref p,k) (u8,⟨⟩)) H E s)->
   vx (vW prog w) A (forIn ((l.map λq=>Value.ref q.2).zipIdx 0) (u8,⟨⟩) f) (λr s'=>r.1=u8/\∃us,Tp s'.heap TO us/\us.length<=1000000/\IsZip s'.heap z TI TO .ellipsis/\
    ∀h',IsZip h' z TI TO (vK s'.heap.objs.size)->Tp h' s'.heap.objs.size us->h'.objs.size=s'.heap.objs.size+1->(∀b o,b≠z->s'.heap.get? b=u7 o->h'.get? b=u7 o)->R (.done (.ret (.ref s'.heap.objs.size))) {s' with heap:=h'}) E {s with heap:=c}):
  vx (vW prog w) A (Builtin.«zip.__next__» ⟨[.ref z],[]⟩) R E s:=by
 refine vk (m:=field (.ref z) 2) (vC hz rfl (x:=.bool uA) rfl (vk (vC hz rfl rfl (vk (wpAny_seqItems F rfl ?_)))));dsimp only;have y:(l.map λq=>Value.ref q.2).toArray.isEmpty=uA:=by cases l with
  |nil=>exact absurd rfl J
  |cons _ _=>simp
 rw[y];refine vk ?_;unfold vc;refine vk (vC hz rfl rfl (vH ?_));simp only[if_true];refine vk (wpAny_rule (vk (vC hz rfl rfl (vk (vI hz (by simp) λc j t=>?_)))));refine vk (vE (h c j t _ λp k s H C=>?_) (λr s' Q=>?_) λ_ _ x=>x)
 .refine vk (wpAny_onRaise ?_);refine vk (vE C (λx U T=>vH ?_) λ_ _ x=>x);obtain⟨W,B,I,K⟩:=T;dsimp only;refine vk (wpAny_seqItems B rfl ?_);dsimp only;exact vk (ZMc B I λh' P S=>vk (wpAny_letGo (vH (K h' P S))))
 .obtain⟨N,us,B,I,v,K⟩:=Q;rw[N];dsimp only;refine vk (wpAny_seqItems B rfl ?_);dsimp only;refine vk (wpAny_newTuple ?_ (by simpa using z6 I size6));have g:=zx v;refine vk ?_;unfold vd;have O:us.toArray.toList.toArray=us.toArray:=by simp
  rw[O];refine vk (vI (zQ _ v) (by simp) λL n e=>?_);refine vI n (by simp) λu i d=>?_
  refine vH (K u i (d.extBut _ _ (jY g) (e.extBut _ _ (jY g) (z0 _ rfl))) ?_ λb o M q=>d.extBut _ _ M (e.extBut _ _ M (zQ _ q)));rw[d.1];rw[e.1,qk]
theorem ZNu{z TI TO:xy}{i:Nat}{l:List (Src×xy)}{us W:List xH}{Q:Option xH->xF->Prop}(hz:IsZip s.heap z TI TO .none)(I:Tp s.heap TI (l.map λq=>Value.ref q.2))(U:Tp s.heap TO W)(n:W.length=l.length)(hsz:l.length<=1000000)(N:l≠[])
  (a:ApZ TO l) (y:z≠TO/\(∀q∈l,q.2≠z/\q.1.adr≠z)) (d:Drw s.heap i l us)
  (Y:∀h',IsZip h' z TI TO (vK s.heap.objs.size)->Tp h' TO us->(∀q∈l,q.1.it h' q.2 (i+1))->Tp h' s.heap.objs.size us->h'.objs.size=s.heap.objs.size+1->
   (∀b o,b≠z->b≠TO->b∉l.map (·.2)->s.heap.get? b=u7 o->h'.get? b=u7 o)->Q (u7 (.ref s.heap.objs.size)) {s with heap:=h'}):vx (vW prog w) A (pyNext (.ref z)) Q E s:=by
 have Z:s.TypeIs (.ref z) "zip":=⟨_,hz,rfl⟩;unfold pyNext;refine vk (wpAny_attempt (vA Z jh (vB jh Z wc ?_ (wd _))));refine ZFS hz I N λh x m body T=>?_
 have g:∀b o,b≠z->s.heap.get? b=u7 o->h.get? b=u7 o:=λb o T q=>m.extBut b o T q
 have O:Drw h i l us:=by
  have S:=y.2;clear I n hsz N a y Y
  induction d with
  |nil=>exact .nil
  |cons X hv hx t ih=>exact .cons (X.at λo e=>g _ o (S _ zW).1 e) (hv.at λo e=>g _ o (S _ zW).2 e) hx (ih λq C=>S q (zX _ C))
 refine ZFO T l us [] W {s with heap:=h} O (g _ _ (.symm y.1) U) n (by simpa[n]using hsz) a.nd a.na a.np λL r B u v=>⟨rfl,us,r,d.length▸hsz,?_,λM H J P K=>?_⟩
 .refine u _ _ y.1 (λhm=>?_) x;obtain⟨q,C,e⟩:=z9.mp hm;exact(y.2 q C).1 e
 have e2:=v▸m.1;refine⟨_,rfl,vH ?_⟩;have p:=H;have k:=J;have j:=P;have f:=K;rw[e2]at p k j⊢;exact Y M p (f _ _ (.symm y.1) r) (λq C=>(B q C).at λo e=>f _ o (y.2 q C).1 e) k j λb o b1 b2 b3 q=>f b o b1 (u b o b2 b3 (g b o b1 q))
theorem ZKw{z TI TO:xy}{i:Nat}{l:List (Src×xy)}{P:List xH}{Q:Option xH->xF->Prop}(hh:A.handled=u8)(hz:IsZip s.heap z TI TO .none)(u:Tp s.heap TI (l.map λq=>Value.ref q.2))(M:Tp s.heap TO P)(m:P.length=l.length)(hsz:l.length<=1000000)(H:l≠[])
  (a:ApZ TO l) (y:z≠TO/\(∀q∈l,q.2≠z/\q.1.adr≠z)) (d:DrwE s.heap i l)
  (T:∀h',(∀b o,b≠z->b≠TO->b∉l.map (·.2)->s.heap.get? b=u7 o->h'.get? b=u7 o)->Q u8 {s with heap:=h'}):vx (vW prog w) A (pyNext (.ref z)) Q E s:=by
 have U:s.TypeIs (.ref z) "zip":=⟨_,hz,rfl⟩;unfold pyNext;refine vk (wpAny_attempt (vA U jh (vB jh U wc ?_ (wd _))));refine ZFS hz u H λg n p X L=>?_
 have f:∀b o,b≠z->s.heap.get? b=u7 o->g.get? b=u7 o:=λb o L q=>p.extBut b o L q
 have I:DrwE g i l:=by
  have v:=y.2;clear u m hsz H a y T
  induction d with
  |here r J S=>exact .here (r.at λo e=>f _ o (v _ zW).1 e) (J.at λo e=>f _ o (v _ zW).2 e) S
  |there r J S t Z=>exact .there (r.at λo e=>f _ o (v _ zW).1 e) (J.at λo e=>f _ o (v _ zW).2 e) S (Z λq K=>v q (zX _ K))
 refine ZBs (A:=A.in1) (hh) L l P 0 {s with heap:=g} I (f _ _ (.symm y.1) M) (m▸hsz) a λB e k st=>?_
 have h:IsZip B z TI TO .ellipsis:=by refine k _ _ y.1 (λhm=>?_) n;obtain⟨q,K,e⟩:=z9.mp hm;exact(y.2 q K).1 e
 obtain⟨o,O,W⟩:=st;have N:e≠z:=λx=>by subst x;rw[h]at O;cases O;simp at W
 refine vI h (by simp) λC _ j=>?_
 exact vk (wpAny_isInstance ⟨o,j.extBut _ _ N O,W⟩ isSubtype_stop (vH (T C λb o Y b2 b3 q=>j.extBut _ _ Y (k b o b2 b3 (f b o Y q)))))
theorem ZE8:∀(c:List Src)(pre:Array xH)(s:xF){Q:Array xH->xF->Prop},(∀d∈c,∃xs,d.val s.heap xs)->
  (∀h',(∀q∈c.zipIdx s.heap.objs.size,q.1.it h' q.2 0)->h'.objs.size=s.heap.objs.size+c.length->(∀b o,s.heap.get? b=u7 o->h'.get? b=u7 o)->Q (pre++((c.zipIdx s.heap.objs.size).map λq=>Value.ref q.2).toArray) {s with heap:=h'})->
  vx (vW prog w) A (forIn (c.map λd=>Value.ref d.adr) pre λx r=>do let v<-holding r.toList (pyIter x);pure (ForInStep.yield (r.push v))) Q E s
 |[],pre,s,Q,j,h=>by rw[jF,List.forIn_nil];refine vH ?_;have:=h s.heap (λq f=>by cases f) rfl (λ_ _ e=>e);simpa using this
 | d::c,pre,s,Q,j,h=>by
  rw[zk,xz];obtain⟨xs,y⟩:=j d zW;refine vk (vk (vD (Src.iter y (vH ?_))));dsimp only;refine ZE8 c (pre.push (.ref s.heap.objs.size)) {s with heap:=s.heap.push {cls:=.type d.itn,data:=.fields #[.ref d.adr,.int 0 0]}} (λl t=>?_) λh' i k g=>?_
  .obtain⟨u,p⟩:=j l (zX _ t);exact⟨u,p.at λo e=>zQ _ e⟩
  dsimp only at i k g⊢;rw[qk ..]at i k⊢;have:=h h' (λq f=>?_) (by rw[k,zL];lia) (λb o e=>g b o (zQ _ e))
  .rw[xJ,zk]at this;simpa using this
  .rw[xJ]at f;rcases zj.mp f with rfl|f
   .exact⟨_,g _ _ (z0 _ rfl),rfl,rfl⟩
   exact i q f
theorem ZQ4{c:List Src}{Q:xH->xF->Prop}(r:∀d∈c,∃xs,d.val s.heap xs)(H:c.length<=1000000)
  (y:checkTypeCall "zip" ⟨c.map λd=>Value.ref d.adr,[]⟩=pure ()) (t:xT "zip.__new__" ⟨.type "zip"::c.map λd=>Value.ref d.adr,[]⟩=pure ()) (hok:∀obj,argsOk "object.__init__" ⟨obj::c.map λd=>Value.ref d.adr,[]⟩)
  (h:∀h' n,n=s.heap.objs.size+c.length->IsZip h' (n+2) n (n+1) .none->Tp h' n ((c.zipIdx s.heap.objs.size).map λq=>Value.ref q.2)->Tp h' (n+1) (c.map λ_=>Value.none)->(∀q∈c.zipIdx s.heap.objs.size,q.1.it h' q.2 0)->
   (∀b o,s.heap.get? b=u7 o->h'.get? b=u7 o)->Q (.ref (n+2)) {s with heap:=h'}):
  vx (vW prog w) A (call (.type "zip") (c.map λd=>Value.ref d.adr)) Q E s:=by
 have g:Meets (Builtin.«zip.__new__» ⟨.type "zip"::c.map λd=>.ref d.adr,[]⟩) (λ_ R s=>(∀d∈c,∃xs,d.val s.heap xs)/\
   ∀h' n,n=s.heap.objs.size+c.length->IsZip h' (n+2) n (n+1) .none->Tp h' n ((c.zipIdx s.heap.objs.size).map λq=>.ref q.2)->Tp h' (n+1) (c.map λ_=>.none)->(∀q∈c.zipIdx s.heap.objs.size,q.1.it h' q.2 0)->
    (∀b o,s.heap.get? b=u7 o->h'.get? b=u7 o)->R (.ok (.ret (.ref (n+2)))) {s with heap:=h'}):=
  .of_wp λprog w A R s M=>by
   obtain⟨r,N⟩:=M;have C:=sub_zip;unfold Builtin.«zip.__new__» u3
   wp_walk
   refine ZE8 c #[] s r λk x j u=>vH ?_
   have L:(#[]++((c.zipIdx s.heap.objs.size).map λq=>.ref q.2).toArray:Array xH).toList=(c.zipIdx s.heap.objs.size).map λq=>.ref q.2:=by simp
   rw[L];have f:((c.zipIdx s.heap.objs.size).map λq=>Value.ref q.2).length=c.length:=by simp
   refine vk (wpAny_newTuple ?_ (f▸z6 H size6));refine vk (wpAny_newTuple ?_ (by rw[zM,f];exact z6 H size6));refine vk ?_;unfold u4;dsimp only;refine vF (vH ⟨_,rfl,?_⟩) (by simp[sizeOk,u5,vY]);generalize P:s.heap.objs.size+c.length=n at*;have J:((c.zipIdx s.heap.objs.size).map λq=>Value.ref q.2).map (λ_=>.none)=c.map λ_=>Value.none:=by refine qM (by simp) λi k O=>by simp
   dsimp only;rw[J];generalize((c.zipIdx s.heap.objs.size).map λq=>Value.ref q.2)=m at*;generalize(c.map λ_=>Value.none)=B at*;have l:(k.push {cls:=.type "tuple",data:=.seq m.toArray}).objs.size=n+1:=by rw[qk,j]
   have z:((k.push {cls:=.type "tuple",data:=.seq m.toArray}).push {cls:=.type "tuple",data:=.seq B.toArray}).objs.size=n+2:=by rw[qk,l]
   rw[z];refine N _ n rfl ?_ (zQ _ (zQ _ (by rw[<-j];exact z0 _ rfl))) (zQ _ (by rw[<-l];exact z0 _ rfl)) (λq K=>(x q K).at λo e=>zQ _ (zQ _ (zQ _ e))) λb o e=>zQ _ (zQ _ (zQ _ (u b o e)))
   have:=z0 ((k.push {cls:=.type "tuple",data:=.seq m.toArray}).push {cls:=.type "tuple",data:=.seq B.toArray}) (o:={cls:=.type "zip",data:=.fields #[.none,.bool uA,.bool uA,.ref k.objs.size,.ref (k.push {cls:=.type "tuple",data:=.seq m.toArray}).objs.size]}) rfl;rw[z]at this;rw[j,l]at this;rw[j,l];exact this
 refine callType_new PySem.F.called_zip (by decide) y t hok PySem.F.entry_zip_new g ⟨r,λh' n I j p v x u=>⟨⟨_,j,rfl⟩,h h' n I j p v x u⟩⟩
end
end _D
namespace _D
open PySem PySem.W PyProof.Rows
section
def Bm(lt:Nat->Nat->Bool){α:Type}:KasT α->α
 |.ret a=>a
 |.ask i j k=>Bm lt (k (lt i j))
theorem Nj(lt:Nat->Nat->Bool){a b:Type}(f:a->KasT b):∀t:KasT a,Bm lt (t.bind f)=Bm lt (f (Bm lt t))
 |.ret _=>rfl
 |.ask i j k=>Nj lt f (k (lt i j))
structure WO (lt:Nat->Nat->Bool):Prop where
 asy:∀i j,lt i j=u9->lt j i=uA
 neg:∀i j k,lt i k=u9->lt i j=u9\/lt j k=u9
variable{lt:Nat->Nat->Bool}
theorem WO.refl(o:WO lt)(i:Nat):lt i i=uA:=by
 cases h:lt i i
 .rfl
 have:=o.asy i i h;rw[h]at this;exact this
theorem WO.tr(o:WO lt)(b:lt j i=uA)(a:lt k j=uA):lt k i=uA:=by
 cases h:lt k i
 .rfl
 rcases o.neg k j i h with z|z
 .rw[z]at a;cases a
 rw[z]at b;cases b
abbrev pt(p:Array Nat)(j:Nat):Nat:=p.getD j 0
theorem Nf(p:Array Nat)(j:Nat):pt p j=(p[j]?).getD 0:=by simp[pt]
def Srt(lt:Nat->Nat->Bool)(p:Array Nat)(k:Nat):Prop:=∀i j,i<=j->j<k->lt (pt p j) (pt p i)=uA
def NIn(lt:Nat->Nat->Bool)(p:Array Nat)(k:Nat):Prop:=∀i j,i<=j->j<k->lt (pt p i) (pt p j)=uA
theorem Gz(a:j<=p.size)(k:Nat):pt (vO p i j) k=if i<=k/\k<j then pt p (i+j-1-k)else pt p k:=by
 rw[Nf,vO,getElem?_mirror_all a]
 split <;> exact(Nf ..).symm
theorem ZIo(e:src<p.size)(c:d<=src)(k:Nat):pt (bubble p src d) k=if k=src-d then pt p src else if src-d<k/\k<=src then pt p (k-1)else pt p k:=by
 rw[Nf,getElem?_bubble e d c];by_cases b:k=src-d
 .rw[if_pos b,if_pos b];exact(Nf ..).symm
 rw[if_neg b,if_neg b];by_cases a:src-d<k/\k<=src
 .rw[if_pos a,if_pos a];exact(Nf ..).symm
 rw[if_neg a,if_neg a];exact(Nf ..).symm
theorem ZAU(o:WO lt)(p:Array Nat):∀f n,1<=n->Srt lt p n->∀m,Bm lt (kas_asc p f n)=m->n<=m/\m<=n+f/\Srt lt p m/\(m<n+f->lt (pt p m) (pt p (m-1))=u9)
 |0,n,r,h,m,e=>by have g:=e;subst g;exact⟨zY _,zY _,h,λz=>absurd z (qQ _)⟩
 | f+1,n,r,h,m,e=>by
  unfold kas_asc at e;have k:Bm lt (if lt (pt p n) (pt p (n-1))=u9 then KasT.ret n else kas_asc p f (n+1))=m:=e;cases l:lt (pt p n) (pt p (n-1))with
  |true=>
   rw[l,if_pos rfl]at k;have g:n=m:=k;subst g;exact⟨zY _,by lia,h,λ_=>l⟩
  | false=>
   rw[l,if_neg (by simp)]at k;have s:Srt lt p (n+1):=λi j q u=>by
    by_cases e:j<n
    .exact h i j q e
    have g:j=n:=by lia
    subst g;by_cases t:i=j
    .rw[t];exact o.refl _
    exact o.tr (h i (j-1) (by lia) (by lia)) l
   obtain⟨a,b,c,d⟩:=ZAU o p f (n+1) (by lia) s m k;exact⟨by lia,by lia,c,λz=>d (by lia)⟩
structure Dn (lt:Nat->Nat->Bool) (p:Array Nat) (n q:Nat):Prop where
 ni:NIn lt p n
 al:∀i j,n-(q+1)<=i->i<n->n-(q+1)<=j->j<n->lt (pt p i) (pt p j)=uA
 qn:q+1<=n
theorem NIn.rev(d:Dn lt p n q)(c:n<=p.size):NIn lt (vO p (n-(q+1)) n) n:=λi j b a=>by
 have:=d.qn;rw[Gz c,Gz c];by_cases e:n-(q+1)<=i
 .rw[if_pos ⟨e,by lia⟩,if_pos ⟨by lia,a⟩];exact d.al _ _ (by lia) (by lia) (by lia) (by lia)
 rw[if_neg (by lia)];by_cases f:n-(q+1)<=j
 .rw[if_pos ⟨f,a⟩];exact d.ni _ _ (by lia) (by lia)
 .rw[if_neg (by lia)];exact d.ni i j b a
theorem Ud(o:WO lt):∀f(p:Array Nat)n q,n+f<=p.size->Dn lt p n q->∀r,Bm lt (kas_desc f p n q)=r->r.1.Perm p/\r.2.1<=n+f/\n<=r.2.1/\Dn lt r.1 r.2.1 r.2.2
 |0,p,n,q,hz,d,r,e=>by have e':=e;subst e';exact⟨.refl _,zY _,zY _,d⟩
 | f + 1,p,n,q,hz,d,r,e=>by
  have qn:=d.qn;unfold kas_desc at e;have e1:Bm lt (if lt (pt p n) (pt p (n-1))=u9 then(if q>0 then kas_desc f (vO p (n-(q+1)) n) (n+1) 0 else kas_desc f p (n+1) 0)
   else .ask (p.getD (n-1) 0) (p.getD n 0) λd=>if d=u9 then .ret (p,n,q)else kas_desc f p (n+1) (q+1))=r:=e
  clear e;cases hc:lt (pt p n) (pt p (n-1))with
  | true=>
   rw[hc,if_pos rfl]at e1;have ext:∀p':Array Nat,NIn lt p' n->pt p' n=pt p n->(∀k,k<n->lt (pt p n) (pt p' k)=u9\/k<n)->lt (pt p' (n-1)) (pt p' n)=uA->Dn lt p' (n+1) 0:=λp' hni _ _ hl=>by
    refine⟨λi j hij hj=>?_,λi j h1 h2 h3 h4=>?_,by lia⟩
    .by_cases e:j<n
     .exact hni i j hij e
     have e':j=n:=by lia
     subst e';by_cases e2:i=j
     .rw[e2];exact o.refl _
     exact o.tr hl (hni i (j-1) (by lia) (by lia))
    have e1:i=n:=by lia
    have e2:j=n:=by lia
    rw[e1,e2];exact o.refl _
   by_cases hq:q>0
   .rw[if_pos hq]at e1;have hl:lt (pt (vO p (n-(q+1)) n) (n-1)) (pt (vO p (n-(q+1)) n) n)=uA:=by
     rw[Gz (by lia),Gz (by lia),if_pos (by lia),if_neg (by lia)];cases hx:lt (pt p (n-(q+1)+n-1-(n-1))) (pt p n)
     .rfl
     rcases o.neg _ (pt p (n-1)) _ hx with z|z
     .rw[d.al _ _ (by lia) (by lia) (by lia) (by lia)]at z;cases z
     rw[o.asy _ _ hc]at z;cases z
    obtain⟨a,b,c,dd⟩:=Ud o f _ (n+1) 0 (by rw[vO,mirror_size];lia) (ext _ (.rev d (by lia)) (by rw[Gz (by lia),if_neg (by lia)]) (λk hk=>.inr hk) hl) r e1;exact⟨a.trans (mirror_perm ..),by lia,by lia,dd⟩
   rw[if_neg hq]at e1;obtain⟨a,b,c,dd⟩:=Ud o f p (n+1) 0 (by lia) (ext p d.ni rfl (λk hk=>.inr hk) (o.asy _ _ hc)) r e1;exact⟨a,by lia,by lia,dd⟩
  | false=>
   rw[hc,if_neg (by simp)]at e1;have e2:Bm lt (if lt (pt p (n-1)) (pt p n)=u9 then .ret (p,n,q)else kas_desc f p (n+1) (q+1))=r:=e1;cases hd:lt (pt p (n-1)) (pt p n)with
   |true=>
    rw[hd,if_pos rfl]at e2;have e3:=e2;subst e3;exact⟨.refl _,by show n<=_;lia,zY _,d⟩
   | false=>
    rw[hd,if_neg (by simp)]at e2;have al':∀i,n-(q+1)<=i->i<n+1->lt (pt p i) (pt p n)=uA/\lt (pt p n) (pt p i)=uA:=λi h1 h2=>by
     by_cases e:i=n
     .rw[e];exact⟨o.refl _,o.refl _⟩
     exact⟨o.tr hd (d.al i (n-1) h1 (by lia) (by lia) (by lia)),o.tr (d.al (n-1) i (by lia) (by lia) h1 (by lia)) hc⟩
    obtain⟨a,b,c,dd⟩:=Ud o f p (n+1) (q+1) (by lia) ⟨λi j hij hj=>by
     by_cases e:j<n
     .exact d.ni i j hij e
     .have e':j=n:=by lia
      subst e';by_cases e2:i=j
      .rw[e2];exact o.refl _
      exact o.tr hd (d.ni i (j-1) (by lia) (by lia)),λi j h1 h2 h3 h4=>by
     by_cases ei:i=n
     .rw[ei];exact(al' j (by lia) h4).2
     by_cases ej:j=n
     .rw[ej];exact(al' i (by lia) h2).1
     exact d.al i j (by lia) (by lia) (by lia) (by lia),by lia⟩ r e2
    exact⟨a,by lia,by lia,dd⟩
theorem ZEp(o:WO lt)(g:1<=n)(l:n<=nrem)(hz:nrem<=p.size)(d:NIn lt p n):∀r,Bm lt (kas_tail3 n nrem p)=r->r.2.Perm p/\r.1<=nrem/\1<=r.1/\Srt lt r.2 r.1:=by
 intro r e;unfold kas_tail3 at e;rw[Nj]at e;have k:Srt lt (vO p 0 n) n:=λi j h m=>by rw[Gz (by lia),Gz (by lia),if_pos (by lia),if_pos (by lia)];exact d _ _ (by lia) (by lia)
 obtain⟨a,b,c,_⟩:=ZAU o (vO p 0 n) (nrem-n) n g k _ rfl;have f:(Bm lt (kas_asc (vO p 0 n) (nrem-n) n),vO p 0 n)=r:=e;subst f;exact⟨mirror_perm ..,by lia,by lia,c⟩
theorem ZF6(o:WO lt)(z:1<=n)(w:n<nrem)(hz:nrem<=p.size)(m:∀i j,i<n->j<n->lt (pt p i) (pt p j)=uA)(q:lt (pt p n) (pt p (n-1))=u9):
  ∀r,Bm lt (kas_descPart n nrem p)=r->r.2.Perm p/\r.1<=nrem/\1<=r.1/\Srt lt r.2 r.1:=by
 intro r e;unfold kas_descPart at e;rw[Nj]at e;have v:Dn lt p (n+1) 0:=⟨λi j u y=>by
  by_cases e:j<n
  .exact m i j (by lia) e
  .have s:j=n:=by lia
   subst s;by_cases l:i=j
   .rw[l];exact o.refl _
   exact o.tr (o.asy _ _ q) (m i (j-1) (by lia) (by lia)),λi j _ _ _ _=>by
  have t:i=n:=by lia
  have l:j=n:=by lia
  rw[t,l];exact o.refl _,by lia⟩
 obtain⟨a,b,c,d⟩:=Ud o (nrem-(n+1)) p (n+1) 0 (by lia) v _ rfl
 revert a b c d e
 generalize Bm lt (kas_desc (nrem-(n+1)) p (n+1) 0)=x;intro e a b c d;have A:=a.size_eq;split at e
 .obtain⟨f,k,g,h⟩:=ZEp o (by lia) (by lia) (by rw[vO,mirror_size];lia) (.rev d (by lia)) r e;exact⟨(f.trans (mirror_perm ..)).trans a,k,g,h⟩
 obtain⟨f,k,g,h⟩:=ZEp o (by lia) (by lia) (by lia) d.ni r e;exact⟨f.trans a,k,g,h⟩
theorem ZRa(o:WO lt)(C:1<=nrem)(hz:nrem<=p.size):∀r,Bm lt (kas_count nrem p)=r->r.2.Perm p/\r.1<=nrem/\1<=r.1/\Srt lt r.2 r.1:=by
 intro r e;unfold kas_count at e;rw[Nj]at e;obtain⟨a,b,c,d⟩:=ZAU o p (nrem-1) 1 (zY _) (λi j y k=>by
  have g:i=0:=by lia
  have h:j=0:=by lia
  rw[g,h];exact o.refl _) _ rfl
 revert a b c d e
 generalize Bm lt (kas_asc p (nrem-1) 1)=n;intro e a b c d;split at e
 .have f:(n,p)=r:=e;subst f;exact⟨.refl _,by lia,a,c⟩
 rename_i m;have t:n<nrem:=by
  have:n≠nrem:=by simpa using m
  lia
 have s:=d (by lia);split at e
 .rename_i B;have f:Bm lt (if lt (pt p 0) (pt p (n-1))=u9 then .ret (n,p)else kas_descPart n nrem (vO p 0 n))=r:=e;cases q:lt (pt p 0) (pt p (n-1))with
  |true=>
   rw[q,if_pos rfl]at f;have h:(n,p)=r:=f;subst h;exact⟨.refl _,by lia,a,c⟩
  | false=>
   rw[q,if_neg (by simp)]at f;have u:∀i j,i<n->j<n->lt (pt p i) (pt p j)=uA:=λi j l k=>o.tr (c j (n-1) (by lia) (by lia) |> λz=>z) (o.tr q (c 0 i (by lia) l) |> λz=>by exact z)
   obtain⟨v,A,w,x⟩:=ZF6 o a t (by rw[vO,mirror_size];lia) (λi j l k=>by
    rw[Gz (by lia),Gz (by lia),if_pos (by lia),if_pos (by lia)];exact u _ _ (by lia) (by lia)) (by
    rw[Gz (by lia),Gz (by lia),if_neg (by lia),if_pos (by lia)];rcases o.neg _ (pt p (0+n-1-(n-1))) _ s with z|z
    .exact z
    rw[u _ _ (by lia) (by lia)]at z;cases z) r f
   exact⟨v.trans (mirror_perm ..),A,w,x⟩
 .have g:n=1:=by lia
  subst g;exact ZF6 o (zY _) t hz (λi j l k=>by
   have g:i=0:=by lia
   have h:j=0:=by lia
   rw[g,h];exact o.refl _) s r e
theorem ZAY(o:WO lt)(p:Array Nat)(k:Nat)(c:Srt lt p k):∀f l r,r-l<=f->l<=r->r<=k->(∀i,i<l->lt (pt p k) (pt p i)=uA)->(∀i,r<=i->i<k->lt (pt p k) (pt p i)=u9)->
  ∀m,Bm lt (kas_place p k f l r)=m->m<=k/\(∀i,i<m->lt (pt p k) (pt p i)=uA)/\(∀i,m<=i->i<k->lt (pt p k) (pt p i)=u9)
 |0,l,r,q,j,n,b,g,m,e=>by have a:l=m:=e;subst a;exact⟨by lia,b,λi d hk=>g i (by lia) hk⟩
 | f+1,l,r,q,j,n,b,g,m,e=>by
  unfold kas_place at e;split at e
  .have a:l=m:=e;subst a;exact⟨by lia,b,λi d hk=>g i (by lia) hk⟩
  rename_i s;have a:Bm lt (if lt (pt p k) (pt p ((l+r)/2))=u9 then kas_place p k f l ((l+r)/2)else kas_place p k f ((l+r)/2+1) r)=m:=e;cases h:lt (pt p k) (pt p ((l+r)/2))with
  |true=>
   rw[h,if_pos rfl]at a;refine ZAY o p k c f l ((l+r)/2) (by lia) (by lia) (by lia) b (λi d hk=>?_) m a;rcases o.neg _ (pt p i) _ h with z|z
   .exact z
   rw[c _ i d hk]at z;cases z
  |false=>
   rw[h,if_neg (by simp)]at a;exact ZAY o p k c f ((l+r)/2+1) r (by lia) (by lia) n (λi d=>o.tr (c i ((l+r)/2) (by lia) (by lia)) h) g m a
theorem ZGx(o:WO lt):∀f(p:Array Nat)k,k+f=p.size->Srt lt p k->(Bm lt (kas_bin f p k)).Perm p/\Srt lt (Bm lt (kas_bin f p k)) p.size
 |0,p,k,t,c=>⟨.refl _,by
  have:k=p.size:=by lia
  rw[<-this];exact c⟩
 | f + 1,p,k,t,c=>by
  unfold kas_bin;rw[Nj];obtain⟨q,g,h⟩:=ZAY o p k c k 0 k (by lia) (by lia) (zY _) (λi s=>by lia) (λi s hk=>by lia) _ rfl
  revert q g h
  generalize Bm lt (kas_place p k k 0 k)=m;intro q g h;have sz:(bubble p k (k-m)).size=p.size:=bubble_size ..;have e:∀j,pt (bubble p k (k-m)) j=if j=m then pt p k else if m<j/\j<=k then pt p (j-1)else pt p j:=λj=>by
   rw[ZIo (by lia) (by lia)];have:k-(k-m)=m:=by lia
   rw[this]
  obtain⟨a,b⟩:=ZGx o f (bubble p k (k-m)) (k+1) (by lia) (λi j l v=>by
   rw[e i,e j];by_cases n:j=m
   .rw[if_pos n];by_cases d:i=m
    .rw[if_pos d];exact o.refl _
    rw[if_neg d,if_neg (by lia)];exact g i (by lia)
   rw[if_neg n];by_cases u:m<j
   .rw[if_pos ⟨u,by lia⟩];by_cases d:i=m
    .rw[if_pos d];exact o.asy _ _ (h _ (by lia) (by lia))
    .rw[if_neg d];by_cases r:m<i
     .rw[if_pos ⟨r,by lia⟩];exact c _ _ (by lia) (by lia)
     .rw[if_neg (by lia)];exact c _ _ (by lia) (by lia)
   .rw[if_neg (by lia),if_neg (by lia),if_neg (by lia)];exact c i j l (by lia))
  rw[sz]at b;exact⟨a.trans (bubble_perm ..),b⟩
theorem ZEw(o:WO lt)(h:1<=n):(Bm lt (kas_sort n)).toList.Perm (zZ n)/\Srt lt (Bm lt (kas_sort n)) n:=by
 unfold kas_sort;rw[Nj];obtain⟨a,b,c,d⟩:=ZRa o (p:=(zZ n).toArray) h (by simp) _ rfl
 revert a b c d
 generalize Bm lt (kas_count n (zZ n).toArray)=x;intro a b c d;have i:x.2.size=n:=by rw[a.size_eq];simp
 split
 .have e:max x.1 1=x.1:=by lia
  rw[e];obtain⟨g,f⟩:=ZGx o (n-x.1) x.2 x.1 (by lia) d;rw[i]at f;exact⟨by simpa using(g.trans a).toList,f⟩
 have e:x.1=n:=by lia
 rw[e]at d;exact⟨by simpa[Bm]using a.toList,d⟩
end
end _D
namespace _D
open PySem PySem.Spec _L
open PyProof.Rows hiding St
variable{vP:List (xy×Obj)}{elts:List xA}
section
variable{X:Cx}{vP:List (xy×Obj)}{σ:St}{H:Hp}{s:xF}{h':Heap}
theorem X5{t':Nat}{fp:List xy}(I:Inv X vP σ H s)(k:∀b o,b∉fp->s.heap.get? b=u7 o->h'.get? b=u7 o)(g:∀b∈fp,FpOk X vP H b):Inv X vP σ H {s with heap:=h',toks:=t'}:=by
 have f:∀b u,H b=u7 u->b∉fp:=λb u e z=>by rw[(g b z).1]at e;cases e
 refine I.step (λb i=>?_) (λb o _ _ a e _=>k b o a e) (λb o _ _ a e _=>⟨o.slots,k b o a e⟩) (λ_ _ _ _ n=>n)
  (λb o a e=>⟨o,k b o a e⟩) (λ_ _ e=>e) (λ_ _ _ e=>e) (λb C e=>⟨#[],by rw[e];simp⟩) (λm l=>?_) (λb u e=>?_) I.bare
 .obtain⟨B,x,F,t,A,j⟩:=g b i;exact⟨t,x,A,j⟩
 .obtain⟨o,p,w,y,r⟩:=l;exact⟨o,p,w,k _ o (λz=>(g _ z).2.1 rfl) y,r⟩
 refine(I.hok b u e).stay (λc v a q=>k c v ?_ q) (λ_ q=>q) λ_ _ q=>q
 rcases a with z|z
 .rw[z];exact f b u e
 exact f c _ z
theorem ZGq{t':Nat}{fp:List xy}{p:xy}{xs:List V}{its:List xH}(I:Inv X vP σ H s)(k:∀b o,b∉fp->s.heap.get? b=u7 o->h'.get? b=u7 o)(h:∀b∈fp,FpOk X vP H b)(hp:s.heap.objs.size<=p)
  (hz:xs.length<=sizeLine) (r:Vals xs its) (i:Tp h' p its):Inv X vP σ (upd H p (.tup xs)) {s with heap:=h',toks:=t'}:=by
 obtain⟨d,f,l,j,g,e⟩:=I.Hr hp (I.hok.fresh hp);exact Zf (X5 I k h) d (z6 I.sz hp) f g e ⟨hz,its,r,_,i,rfl,_,rfl⟩
end
def Src.sq(K:za)(H:Hp)(xs:List V):Src->Prop
 |.l a=>SqL K H a xs
 |.t a=>SqT K H a xs
theorem Src.sq.val{X:Cx}{d:St}{H:Hp}{s:xF}{b:Src}{xs:List V}(I:Inv X vP d H s)(h:b.sq X.K H xs):∃its:List xH,Vals xs its/\b.val s.heap its.toArray/\xs.length<=sizeLine:=by
 cases b with
 |l a=>obtain⟨its,r,p,c⟩:=I.list h;exact⟨its,r,p.isList,c⟩
 |t a=>obtain⟨its,r,p,c⟩:=I.tuple h;exact⟨its,r,p,c⟩
theorem Src.sq.inj{X:Cx}{c:St}{H:Hp}{s:xF}{b:Src}{xs ys:List V}(I:Inv X vP c H s)(h:b.sq X.K H xs)(h':b.sq X.K H ys):xs=ys:=by
 cases b with
 |l a=>exact I.ZAk h h'
 |t a=>exact I.Xd h h'
noncomputable def Ite(K:za)(sr:Src)(n:Int):It:=
 ⟨λi H=>∃xs x,sr.sq K H xs/\xs[i]?=u7 x,λi H v H'=>∃p x,v=.ref p/\H p=u8/\H'=upd H p (.tup [.int (n+i),x])/\∀xs,sr.sq K H xs->xs[i]?=u7 x,λi H=>∃xs,sr.sq K H xs/\xs.length<=i⟩
theorem ZCT{P:xD}{w:xI}{K:za}{x1}{pos:Pos}(Z:Src)(n:Int)(e it:xy)(B:e≠it):
  Turn P w K (.Tuple elts x1 pos) (Ite K Z n) [e,it] e (λi h=>∃g a,En h e it .none (n+i) g a/\Gv (n+i) g/\Z.it h it i) where
 mem:=by simp
 obj:=λi h f b j=>by
  obtain⟨g,a,d,_,o,ho,_,hd⟩:=f;rcases(show b=e\/b=it by simpa using j)with rfl|rfl
  .exact⟨_,d,λv z=>by cases z⟩
  exact⟨o,ho,λv z=>by rw[hd]at z;cases z⟩
 keep:=λi h h' f k=>by obtain⟨g,a,d,y,p⟩:=f;exact⟨g,a,k e (by simp) _ d,y,p.at λo q=>k it (by simp) o q⟩
 item:=by
  intro X L hw N Y i m s σ H E I F f y;subst L hw N;obtain⟨xs,x,J,Q⟩:=y;obtain⟨S,O,M,hz⟩:=Src.sq.val I J;obtain⟨u,hu,ru⟩:=O.get Q;obtain⟨g,a,d,r,p⟩:=f;refine ZKe d r p M (by simpa using hu) B λh1 t tk e1 i1 t1 z1 k1=>⟨_,rfl,?_⟩
  refine ZQJ e1 λh2 e2 T=>?_
  have A:=jY (zx d);have I2:Inv X m σ (upd H s.heap.objs.size (.tup [.int (n+i),x])) {s with heap:=h2,toks:=tk}:=
   ZGq I (λb o j q=>by
    have c:b≠e/\b≠it:=by simpa using j
    exact T.extBut b o c.1 (k1 b o c.1 c.2 q)) F (zY _) (by show 2<=sizeLine;decide) (.cons ⟨t,rfl⟩ (.cons ru .nil)) (T.extBut _ _ A t1)
  refine⟨.ref s.heap.objs.size,_,I2,rfl,⟨_,x,rfl,I.hok.fresh (zY _),rfl,λys hy=>(Src.sq.inj I hy J)▸Q⟩,⟨.none,u,?_,.inl rfl,i1.at λo q=>T.extBut _ _ (.symm B) q⟩,λb j=>?_⟩
  .have ee:n+(i:Int)+1=n+((i+1:Nat):Int):=by lia
   rw[<-ee];exact e2
  have c:b=e\/b=it:=by simpa using j
  rw[Ai (λz=>?_)]
  .exact(F b j).1
  .rcases c with rfl|rfl
   .exact A z.symm
   .have C:=Src.it.lt p;rw[z]at C;exact qQ _ C
 done:=by intro X L hw N Y i m s σ H E I F f y;subst L hw N;obtain⟨xs,J,Q⟩:=y;obtain⟨S,O,M,hz⟩:=Src.sq.val I J;obtain⟨g,a,d,r,p⟩:=f;have hl:=O.length;exact ZJB (I.ok.hd Y) d p M (by simp;lia) λh1 xb=>⟨rfl,X5 I (λb o j q=>xb b o (λz=>j (by simp[z])) q) F⟩
 self:=λ_ _ _ _ _ f h=>by obtain⟨g,a,d,_⟩:=f;exact Z4 d h
section
variable{X:Cx}{E:XK}
theorem ZPB{prog:xD}{w:xI}{A:x0}{E:xH->xF->Prop}{s:xF}{sr:Src}{xs:Array xH}{Q:xH->xF->Prop}(hv:sr.val s.heap xs)
  (h:∀h',En h' (s.heap.objs.size+1) s.heap.objs.size .none 0 .none .none->sr.it h' s.heap.objs.size 0->(∀b o,s.heap.get? b=u7 o->h'.get? b=u7 o)->Q (.ref (s.heap.objs.size+1)) {s with heap:=h'}):
  vx (vW prog w) A (call (.type "enumerate") [.ref sr.adr]) Q E s:=by
 have g:Meets (Builtin.«enumerate.__new__» ⟨[.type "enumerate",.ref sr.adr],[]⟩) (λ_ R s=>sr.val s.heap xs/\
   R (.ok (.ret (.ref (s.heap.push {cls:=.type sr.itn,data:=.fields #[.ref sr.adr,.int 0 0]}).objs.size)))
    {s with heap:=(s.heap.push {cls:=.type sr.itn,data:=.fields #[.ref sr.adr,.int 0 0]}).push {cls:=.type "enumerate",data:=.fields #[.none,.bool uA,.ref s.heap.objs.size,vK 0,.none,.none]}}):=
  .of_wp λprog w A R s h=>by
   obtain⟨hp,g,d,tk,os⟩:=s;obtain⟨hl,h⟩:=h;have hsub:=sub_enumerate;have hL:=hl
   wp_walk
   refine wpAny_stack_any λst=>vH ?_
   split
   .rename_i c _ _ _ _ _
    cases(c==Value.type "enumerate")<;>(wp_walk using Src.iter hL;exact⟨_,rfl,h⟩)
   wp_walk using Src.iter hL
   exact⟨_,rfl,h⟩
 refine callType_new we (by decide) (PySem.F.typeCall_enumerate_1 _) (PySem.F.newCall_enumerate_1 _) (λobj=>PySem.F.args_object_init_2 obj _) wf g ⟨hv,?_⟩;have hz:(s.heap.push {cls:=.type sr.itn,data:=.fields #[.ref sr.adr,.int 0 0]}).objs.size=s.heap.objs.size+1:=qk ..;rw[hz];have he:En ((s.heap.push {cls:=.type sr.itn,data:=.fields #[.ref sr.adr,.int 0 0]}).push {cls:=.type "enumerate",data:=.fields #[.none,.bool uA,.ref s.heap.objs.size,vK 0,.none,.none]}) (s.heap.objs.size+1) s.heap.objs.size .none 0 .none .none:=by
  have:=z0 (s.heap.push {cls:=.type sr.itn,data:=.fields #[.ref sr.adr,.int 0 0]}) (o:={cls:=.type "enumerate",data:=.fields #[.none,.bool uA,.ref s.heap.objs.size,vK 0,.none,.none]}) rfl;rw[hz]at this;exact this
 exact⟨⟨_,he,rfl⟩,h _ he ⟨_,zQ _ (z0 _ rfl),rfl,rfl⟩ λb o x=>zQ _ (zQ _ x)⟩
def ZKl(K:za)(ta:TA):TI:=λσ H R=>ta σ H λvs H1=>∃sr xs,vs=[.ref (Src.adr sr)]/\sr.sq K H1 xs/\R (Ite K sr 0) H1
theorem ZPM{x1}(o:Gl X "enumerate")(y:X.mg "enumerate"=u8)(F:PA X [a] ta)(v:vz [a] X.env=[(uA,eval a X.env)]:=by rfl):PI X (.Tuple elts x1 tp) (.Call (.Name "enumerate" p) [a] [] pos) (ZKl X.K ta):=by
 intro f s z H R I h;refine Call_ (Hl I o y wg (zg (thn (F pos f s z H _ I h) λP c zz=>?_) v rfl));obtain⟨L,k,g,C,l⟩:=zz;obtain⟨w,N,e,n,q⟩:=l;subst e;cases C with
 |cons r t=>
  cases t;cases r;obtain⟨A,M,m,J⟩:=Src.sq.val g n;refine ZPB m λO j B x=>?_
  refine Z4 j ?_;refine⟨c.heap.objs.size+1,[c.heap.objs.size+1,c.heap.objs.size],_,_,k,rfl,g.kept x,ZCT w 0 _ _ (Nat.succ_ne_self _),⟨.none,.none,by simpa using j,.inl rfl,B⟩,λb u=>?_,q⟩;have i:b=c.heap.objs.size+1\/b=c.heap.objs.size:=by simpa using u
  have d:c.heap.objs.size<=b:=by rcases i with rfl|rfl<;>lia
  exact g.Hr d (g.hok.fresh d)
end
inductive DrV (K:za) (H:Hp) (i:Nat):List Src->List V->Prop where
 |nil:DrV K H i [] []
 |cons {sr r v us xs} (hq:Src.sq K H xs sr) (hx:xs[i]?=u7 v) (t:DrV K H i r us):DrV K H i (sr::r) (v::us)
inductive StV (K:za) (H:Hp) (i:Nat):List Src->Prop where
 |here {sr r xs} (hq:Src.sq K H xs sr) (hx:xs.length<=i):StV K H i (sr::r)
 |there {sr r v xs} (hq:Src.sq K H xs sr) (hx:xs[i]?=u7 v) (t:StV K H i r):StV K H i (sr::r)
noncomputable def Itz(K:za)(ls:List Src):It:=
 ⟨λi H=>∃us,DrV K H i ls us,λi H v H'=>∃p us,v=.ref p/\H p=u8/\H'=upd H p (.tup us)/\∀us',DrV K H i ls us'->us'=us,λi H=>StV K H i ls⟩
theorem DrV.length{K:za}{H:Hp}{i:Nat}{a:List Src}{us:List V}(d:DrV K H i a us):us.length=a.length:=by
 induction d with
 |nil=>rfl
 |cons _ _ _ b=>simp[b]
section
variable{X:Cx}{vP:List (xy×Obj)}{σ:St}{H:Hp}{s:xF}
theorem DrV.inj(I:Inv X vP σ H s):∀{f:List Src}{us us':List V},DrV X.K H i f us->DrV X.K H i f us'->us=us'
 |[],_,_,d,b=>by cases d;cases b;rfl
 | k::f,_,_,d,b=>by
  cases d with
  | cons g j t=>
   cases b with
   |cons c a h=>
    have e:=Src.sq.inj I g c;subst e;rw[j]at a;cases a;rw[DrV.inj I t h]
theorem DrV.drw(I:Inv X vP σ H s):∀{l:List (Src×xy)}{us:List V},DrV X.K H i (l.map (·.1)) us->(∀q∈l,q.1.it s.heap q.2 i)->∃a,Drw s.heap i l a/\Vals us a
 |[],us,d,h=>by cases d;exact⟨[],.nil,.nil⟩
 | (n,p)::l,us,d,h=>by
  cases d with
  |cons b o t=>
   obtain⟨c,m,g,r⟩:=Src.sq.val I b;obtain⟨u,f,e⟩:=m.get o;obtain⟨a,j,k⟩:=DrV.drw I t λq b=>h q (zX _ b)
   exact⟨u::a,.cons (h (n,p) zW) g (by simpa using f) j,.cons e k⟩
theorem StV.drw(I:Inv X vP σ H s):∀{l:List (Src×xy)},StV X.K H i (l.map (·.1))->(∀q∈l,q.1.it s.heap q.2 i)->DrwE s.heap i l
 |[],d,h=>by cases d
 | (f,p)::l,d,h=>by
  cases d with
  |here a g=>
   obtain⟨b,e,c,k⟩:=Src.sq.val I a;have m:=e.length;exact .here (h (f,p) zW) c (by simp;lia)
  |there a g t=>
   obtain⟨b,e,c,k⟩:=Src.sq.val I a;obtain⟨u,j,n⟩:=e.get g;exact .there (h (f,p) zW) c (by simpa using j) (StV.drw I t λq a=>h q (zX _ a))
end
theorem ZOy{P:xD}{w:xI}{K:za}{x1}{pos:Pos}(l:List (Src×xy))(z TI TO:xy)(a:ApZ TO l)(A:z≠TO/\(∀q∈l,q.2≠z/\q.1.adr≠z))(M:TI≠z/\TI≠TO/\∀q∈l,q.2≠TI)(hsz:l.length<=1000000)(x:l≠[]):
  Turn P w K (.Tuple elts x1 pos) (Itz K (l.map (·.1))) (z::TI::TO::l.map (·.2)) z
   (λi h=>IsZip h z TI TO .none/\Tp h TI (l.map λq=>Value.ref q.2)/\(∃r,Tp h TO r/\r.length=l.length)/\∀q∈l,q.1.it h q.2 i) where
 mem:=by simp
 obj:=λi h j b c=>by
  obtain⟨m,d,⟨r,f,_⟩,n⟩:=j;rcases zj.mp c with rfl|c
  .exact⟨_,m,λv z=>by cases z⟩
  rcases zj.mp c with rfl|c
  .exact⟨_,d,λv z=>by cases z⟩
  .rcases zj.mp c with rfl|c
   .exact⟨_,f,λv z=>by cases z⟩
   .obtain⟨q,g,rfl⟩:=z9.mp c;obtain⟨o,p,_,Q⟩:=n q g;exact⟨o,p,λv z=>by rw[Q]at z;cases z⟩
 keep:=λi h h' j k=>by obtain⟨m,d,⟨r,f,p⟩,n⟩:=j;exact⟨k z (by simp) _ m,k TI (by simp) _ d,⟨r,k TO (by simp) _ f,p⟩,λq g=>(n q g).at λo e=>k q.2 (by simp only[zj];exact .inr (.inr (.inr (z9.mpr ⟨q,g,rfl⟩)))) o e⟩
 item:=by
  intro X C hw L O i t s σ H E I y j J;subst C hw L;obtain⟨T,F⟩:=J;obtain⟨m,d,⟨r,f,p⟩,n⟩:=j;obtain⟨ws,S,rv⟩:=DrV.drw I F n;refine ZNu m d f p hsz x a A S λh1 z1 t1 i1 p1 s1 B=>⟨_,rfl,?_⟩
  refine wpAny_letOwnedTupleGo_zip z1 λh2 z2 u=>?_
  have N:T.length<=sizeLine:=by rw[F.length,zM];exact z6 hsz size6
  have I2:=
   ZGq (t':=s.toks) I (λb o c q=>by simp only[zj,not_or]at c;exact u.extBut b o c.1 (B b o c.1 c.2.2.1 c.2.2.2 q)) y (zY _) N rv (u.extBut _ _ (jY (zx m)) p1)
  refine⟨.ref s.heap.objs.size,_,I2,rfl,⟨_,T,rfl,I.hok.fresh (zY _),rfl,λus' Y=>DrV.inj I Y F⟩,⟨z2,(λb o U b2 Z q=>u.extBut b o U (B b o U b2 Z q)) TI _ M.1 M.2.1 (λhm=>?_) d,⟨ws,u.extBut _ _ (.symm A.1) t1,S.length⟩,λq g=>(i1 q g).at λo e=>u.extBut _ _ (A.2 q g).1 e⟩,λb c=>?_⟩
  .obtain⟨q,g,e⟩:=z9.mp hm;exact M.2.2 q g e
  rw[Ai (λe=>?_)]
  .exact(y b c).1
  .have lt:b<s.heap.objs.size:=by
    rcases zj.mp c with rfl|c
    .exact zx m
    .rcases zj.mp c with rfl|c
     .exact zx d
     .rcases zj.mp c with rfl|c
      .exact zx f
      .obtain⟨q,g,rfl⟩:=z9.mp c;exact(n q g).lt
   rw[e]at lt;exact qQ _ lt
 done:=by
  intro X C hw L O i t s σ H E I y j J;subst C hw L;obtain⟨m,d,⟨r,f,p⟩,n⟩:=j;refine ZKw (I.ok.hd O) m d f p hsz x a A (StV.drw I J n) λh1 B=>⟨rfl,?_⟩
  exact X5 I (λb o c q=>by simp only[zj,not_or]at c;exact B b o c.1 c.2.2.1 c.2.2.2 q) y
 self:=λ_ _ _ _ _ j h=>wpAny_pyIter_zip j.1 h
def Gj (G:DH) (j:Nat):List D->Option (Option (List D))
 |[]=>u7 (u7 [])
 | d::r=>match Bd d G with
  |none=>u8
  | some xs=>match xs[j]? with
   |none=>u7 u8
   |some x=>match Gj G j r with
    |some (u7 ys)=>u7 (u7 (x::ys))
    |o=>o
def Em(ds:List D)(j:Nat)(G:DH):Option (Option D):=(Gj G j ds).map λo=>o.map D.tup
def lenOf(G:DH)(d:D):Nat:=match Bd d G with
 |some xs=>xs.length
 |none=>0
def Js(G:DH)(d:D):Bool:=(Bd d G).isSome
def Dh(n:Int)(d:D)(j:Nat)(G:DH):Option (Option D):=match Bd d G with
 |none=>u8
 |some xs=>u7 (xs[j]?.map λx=>.tup [.int (n+j),x])
def Fb(ds:List D)(G:DH):R ItD:=match ds with
 |[d]=>if Js G d=u9 then .ok (.fn (lenOf G d) (Dh 0 d)) G else .bad
 |_=>.bad
def Et(n:Nat)(ds:List D)(G:DH):R ItD:=if ds.all (Js G)=u9/\ds.length=n then .ok (.fn (lenOf G (ds.headD .non)) (Em ds)) G else .bad
section
variable{X:Cx}{E:XK}
theorem ZAc{a:Wd}{G:DH}{d:D}{v:V}{xs:List D}(s:Sim a G)(r:Rep a d v)(h:Bd d G=u7 xs):
  ∃j:Src,v=.ref j.adr/\(∃vs,j.sq a.K a.H vs)/\∀b:Wd,Ext a b->∀e,Sim b e->∀ys,Bd d e=u7 ys->∃us,j.sq b.K b.H us/\Reps b ys us:=by
 cases d with
 |tup B=>
  obtain⟨p,vs,rfl,f,n⟩:=r;refine⟨.t p,rfl,⟨vs,f⟩,λb x e k ys c=>?_⟩;cases(c);exact⟨vs,x.sqT f,n.mono x⟩
 |fl B=>
  obtain⟨p,vs,rfl,f,n⟩:=r;refine⟨.l p,rfl,⟨vs,f.sq⟩,λb x e k ys c=>?_⟩;cases(c);exact⟨vs,(x.fzL f).sq,n.mono x⟩
 | ref i=>
  obtain⟨z,rfl⟩:=r;have C:∃g,G[i]?=u7 (.lst g):=by
   unfold Bd at h;dsimp only at h;split at h
   .rename_i g q;exact⟨g,q⟩
   cases h
  obtain⟨g,q⟩:=C;obtain⟨vs,y,_⟩:=s.lst q;refine⟨.l (a.m i),rfl,⟨vs,.of y⟩,λb x e k ys c=>?_⟩;unfold Bd at c;dsimp only at c;split at c
  .rename_i w o;cases c;obtain⟨us,u,A⟩:=k.lst o;rw[x.m i z]at u;exact⟨us,.of u,A⟩
  cases c
 |_=>cases h
theorem ZNV{a:Wd}{G:DH}{d:D}{v:V}{z:Src}(hk:a.K=X.K)(r:∀b:Wd,Ext a b->∀h,Sim b h->∀ys,Bd d h=u7 ys->∃us,z.sq b.K b.H us/\Reps b ys us)(n:Nat):RepI a (.fn n (Dh 0 d)) (Ite X.K z 0):=by
 intro b x h j i;have A:=x.k.trans hk;constructor
 .intro e f;unfold Dh at f;split at f
  .cases f
  rename_i ys m;obtain⟨us,g,l⟩:=r b x h j ys m;rw[A]at g;cases c:ys[i]? with
  |none=>rw[c]at f;cases f
  |some y=>
   rw[c]at f;have q:D.tup [.int (0+i),y]=e:=by simpa using f
   subst q;obtain⟨u,t,B⟩:=l.get c;refine⟨⟨us,u,g,t⟩,?_⟩;rintro w F ⟨p,C,rfl,hp,rfl,o⟩;refine⟨b.put p (.tup [.int (0+i),C]),rfl,.put hp,j.put hp,p,_,rfl,.of Dy,?_⟩;have s:=o us g;rw[t]at s;cases s;exact⟨_,_,rfl,rfl,.cons (B.mono (.put hp)) rfl⟩
 intro f;unfold Dh at f;split at f
 .cases f
 .rename_i ys m;obtain⟨us,g,l⟩:=r b x h j ys m;rw[A]at g;cases c:ys[i]? with
  |none=>exact⟨us,g,by rw[<-l.length];exact jQ.mp c⟩
  |some y=>rw[c]at f;cases f
theorem ZJp{elts:List xA}{x1}{tp:Pos}{e:xA}{ta:DA}{p pos:Pos}(o:Gl X "enumerate")(y:X.mg "enumerate"=u8)(A:QA X E [e] ta)(t:vz [e] X.env=[(uA,eval e X.env)]:=by rfl):
  QI X E (.Tuple elts x1 tp) (.Call (.Name "enumerate" p) [e] [] pos) (Bg Fb ta):=(ZPM o y A t).mono λJ H Q h=>by
 obtain⟨a,S,G,hk,rfl,s,r,h⟩:=h;refine⟨a,S,G,hk,rfl,s,r,(Rk h).imp ?_⟩;rintro F _ ⟨b,C,i,rfl,x,f,q,-,c⟩;unfold Fb at c;split at c
 .rename_i d;split at c
  .rename_i hok;obtain⟨v,r,n,j,l⟩:=q;cases(l);subst n;obtain⟨I,B⟩:=jV.mp (hok);obtain⟨u,rfl,⟨z,m⟩,w⟩:=ZAc f j B;have g:=x.k.trans hk;exact⟨u,z,rfl,by rw[<-g];exact m,c b _ (.refl b) f (ZNV (G:=i) (v:=.non) g w _)⟩
  exact c.elim
 exact c.elim
theorem ZBr(s:Sim a G):∀{l:List D}{vs:List V},Reps a l vs->l.all (Js G)=u9->∃j:List Src,vs=j.map (λm=>V.ref m.adr)/\(∀m∈j,∃us,m.sq a.K a.H us)/\
   ∀b:Wd,Ext a b->∀f,Sim b f->∀i,(∀ys,Gj f i l=u7 (u7 ys)->∃us,DrV b.K b.H i j us/\Reps b ys us)/\(Gj f i l=u7 u8->StV b.K b.H i j)
 |[],vs,r,_=>by
  cases(r)
  refine⟨[],rfl,(λ_ h=>nomatch h),λb x f k i=>⟨λys h=>?_,λh=>?_⟩⟩
  .cases h;exact⟨[],.nil,rfl⟩
  cases h
 | d::l,vs,r,h=>by
  rw[qE,z5]at h;obtain⟨v,U,rfl,M,O⟩:=r;obtain⟨T,S⟩:=jV.mp (h.1);obtain⟨m,rfl,P,L⟩:=ZAc s M S;obtain⟨j,rfl,A,n⟩:=ZBr s O h.2;refine⟨m::j,rfl,λF z=>?_,λb x f k i=>⟨λys c=>?_,λc=>?_⟩⟩
  .rcases zj.mp z with rfl|z
   .exact P
   exact A F z
  .unfold Gj at c;split at c
   .cases c
   rename_i q t;obtain⟨us,p,o⟩:=L b x f k q t;split at c
   .cases c
   .rename_i y e;obtain⟨u,g,J⟩:=o.get e;split at c
    .rename_i w B;cases c;obtain⟨I,N,Q⟩:=(n b x f k i).1 w B;exact⟨u::I,.cons p g N,.cons J Q⟩
    .rename_i C;exact absurd c (C _)
  unfold Gj at c;split at c
  .cases c
  .rename_i q t;obtain⟨us,p,o⟩:=L b x f k q t;split at c
   .rename_i e;exact .here p (by rw[<-o.length];exact jQ.mp e)
   .rename_i y e;obtain⟨u,g,J⟩:=o.get e;split at c
    .cases c
    exact .there p g ((n b x f k i).2 c)
theorem ZLq(hk:a.K=X.K)(m:∀b:Wd,Ext a b->∀f,Sim b f->∀i,(∀ys,Gj f i ds=u7 (u7 ys)->∃us,DrV b.K b.H i ls us/\Reps b ys us)/\(Gj f i ds=u7 u8->StV b.K b.H i ls))(n:Nat):
  RepI a (.fn n (Em ds)) (Itz X.K ls):=by
 intro b x f h i;have q:=x.k.trans hk;constructor
 .intro e c;unfold Em at c;cases g:Gj f i ds with
  |none=>rw[g]at c;cases c
  | some o=>
   cases o with
   |none=>rw[g]at c;cases c
   |some ys=>
    rw[g]at c;have j:D.tup ys=e:=by simpa using c
    subst j;obtain⟨us,d,r⟩:=(m b x f h i).1 ys g;rw[q]at d;refine⟨⟨us,d⟩,?_⟩;rintro w t ⟨p,s,rfl,hp,rfl,l⟩;cases l us d;exact⟨b.put p (.tup us),rfl,.put hp,h.put hp,p,us,rfl,.of Dy,r.mono (.put hp)⟩
 intro c;unfold Em at c;cases g:Gj f i ds with
 |none=>rw[g]at c;cases c
 | some o=>
  cases o with
  |none=>
   have:=(m b x f h i).2 g;rw[q]at this;exact this
  |some ys=>rw[g]at c;cases c
def Yp(n:Nat)(K:za)(ta:TA):TI:=λσ H R=>ta σ H λvs H1=>∃ls:List Src,vs=ls.map (λsr=>V.ref sr.adr)/\(∀sr∈ls,∃us,sr.sq K H1 us)/\ls.length=n/\R (Itz K ls) H1
theorem ZAM:∀{b:List Src}{us:List xH},Vals (b.map λa=>V.ref a.adr) us->us=b.map λa=>Value.ref a.adr
 |[],us,h=>by cases h;rfl
 | a::b,us,h=>by
  rw[zk]at h;cases h with
  |cons r c=>
   cases r;rw[ZAM c]
   rfl
theorem Su{a:List Src}{n:Nat}{q:Src×Nat}(h:q∈a.zipIdx n):q.1∈a/\n<=q.2/\q.2<n+a.length:=by obtain⟨i,b,rfl⟩:=qj h;simp[List.length_zipIdx]at b;simp only[List.getElem_zipIdx];exact⟨qx b,by lia,by lia⟩
theorem ZEs{x1}{tp:Pos}{N:St}{H:Hp}{s:xF}{R:It->Hp->Prop}{d:List Src}(I:Inv X vP N H s)(p:∀c∈d,∃us,c.sq X.K H us)(u:d≠[])(M:d.length<=1000000)
  (x:checkTypeCall "zip" ⟨d.map λc=>Value.ref c.adr,[]⟩=pure ()) (m:xT "zip.__new__" ⟨.type "zip"::d.map λc=>Value.ref c.adr,[]⟩=pure ()) (hok:∀obj,argsOk "object.__init__" ⟨obj::d.map λc=>Value.ref c.adr,[]⟩)
  (q:R (Itz X.K d) H):vx (vW X.prog X.w) X.A (call (.type "zip") (d.map λc=>Value.ref c.adr)) (λv U=>vx (vW X.prog X.w) X.A (pyIter v) (PIE X vP N (.Tuple elts x1 tp) R) X.xe U) X.xe s:=by
 have B:∀c∈d,∃J,c.val s.heap J:=λc a=>by obtain⟨us,h⟩:=p c a;obtain⟨its,_,L,_⟩:=Src.sq.val I h;exact⟨_,L⟩
 have y:∀c∈d,c.adr<s.heap.objs.size:=λc a=>by obtain⟨J,h⟩:=B c a;obtain⟨o,n,Z,_⟩:=h.obj;exact zx Z
 refine ZQ4 B M x m hok λL n z F l t hi W=>?_
 refine wpAny_pyIter_zip F ?_
 have C:(d.zipIdx s.heap.objs.size).map (·.1)=d:=by refine qM (by simp) λi S O=>by simp
 have Q:(d.zipIdx s.heap.objs.size).map (·.2)=j6 s.heap.objs.size d.length:=by refine qM (by simp) λi S O=>by simp[Nat.add_comm]
 have g:∀q∈d.zipIdx s.heap.objs.size,q.1.adr<s.heap.objs.size/\s.heap.objs.size<=q.2/\q.2<n:=λq a=>⟨y _ (Su a).1,(Su a).2.1,by rw[z];exact(Su a).2.2⟩
 have f:=z▸xX _ _;have T:=ZOy (P:=X.prog) (w:=X.w) (K:=X.K) (elts:=elts) (x1:=x1) (pos:=tp) (d.zipIdx s.heap.objs.size) (n+2) n (n+1) ⟨Q▸List.nodup_range',λq a=>z8 (zq (g q a).1 (Nat.le_succ_of_le f)),λq a r Y=>z8 (zq (g q a).1 (g r Y).2.1),λq a=>z8 (qP (g q a).2.2)⟩ ⟨Nat.succ_ne_self (n+1),λq a=>⟨z8 (zq (g q a).2.2 (xX n 2)),z8 (zq (g q a).1 (z6 f (xX n 2)))⟩⟩
  ⟨z8 (Nat.lt_add_of_pos_right (by decide)),z8 (qZ n),λq a=>z8 (g q a).2.2⟩ (by simpa using M) (by intro e;apply u;rw[<-C,e];rfl)
 rw[C]at T;refine⟨n+2,_,_,_,H,rfl,I.kept W,T,⟨F,l,⟨_,t,by simp⟩,hi⟩,λb j=>?_,q⟩;have k:s.heap.objs.size<=b:=by
  rcases zj.mp j with rfl|j
  .exact z6 f (xX n 2)
  rcases zj.mp j with rfl|j
  .exact f
  .rcases zj.mp j with rfl|j
   .exact Nat.le_succ_of_le f
   .obtain⟨q,p,rfl⟩:=z9.mp j;exact(Su p).2.1
 exact I.Hr k (I.hok.fresh k)
theorem ZM0(a b c:xH):checkTypeCall "zip" ⟨[a,b,c],[]⟩=pure ():=by kernel_rfl
theorem ZQn(a b c:xH):xT "zip.__new__" ⟨[.type "zip",a,b,c],[]⟩=pure ():=by kernel_rfl
theorem ZLz(a b c d:xH):argsOk "object.__init__" ⟨[a,b,c,d],[]⟩:=by unfold argsOk;rw[signature?_of (n:=['_','_','t','i','n','i','_','_']) (by kernel_rfl) wh];kernel_rfl
theorem ZNE{elts:List xA}{x1}{tp:Pos}{a b:xA}{ta:TA}{p pos:Pos}(k:Gl X "zip")(o:X.mg "zip"=u8)(n:PA X [a,b] ta)(l:vz [a,b] X.env=[(uA,eval a X.env),(uA,eval b X.env)]:=by rfl)(d:vz [b] X.env=[(uA,eval b X.env)]:=by rfl):
  PI X (.Tuple elts x1 tp) (.Call (.Name "zip" p) [a,b] [] pos) (Yp 2 X.K ta):=by
 intro c s g H R I h;refine Call_ (Hl I k o uQ (zg (thn (n pos c s g H _ I h) λu w zz=>?_) (by rw[l,d]) (by rw[d];rfl)));obtain⟨v,t,i,m,f⟩:=zz;obtain⟨r,rfl,j,e,q⟩:=f;cases ZAM m
 match r,e with
 |[x,y],_=>exact ZEs i j (by simp) (by simp) (PySem.F.typeCall_zip_2 _ _) (PySem.F.newCall_zip_2 _ _) (λobj=>PySem.F.args_object_init_3 obj _ _) q
theorem ZOL{elts:List xA}{x1}{tp:Pos}{a b c:xA}{ta:TA}{p pos:Pos}(l:Gl X "zip")(r:X.mg "zip"=u8)(o:PA X [a,b,c] ta)(m:vz [a,b,c] X.env=[(uA,eval a X.env),(uA,eval b X.env),(uA,eval c X.env)]:=by rfl)
  (e:vz [b,c] X.env=[(uA,eval b X.env),(uA,eval c X.env)]:=by rfl):PI X (.Tuple elts x1 tp) (.Call (.Name "zip" p) [a,b,c] [] pos) (Yp 3 X.K ta):=by
 intro d s i H R I h;refine Call_ (Hl I l r uQ (zg (thn (o pos d s i H _ I h) λv A zz=>?_) (by rw[m,e]) (by rw[e];rfl)));obtain⟨w,u,j,n,g⟩:=zz;obtain⟨t,rfl,k,f,q⟩:=g;cases ZAM n
 match t,f with
 |[x,y,z],_=>exact ZEs j k (by simp) (by simp) (ZM0 _ _ _) (ZQn _ _ _) (λobj=>ZLz obj _ _ _) q
theorem ZHK{K:za}{n:Nat}{ta:DA}{d:St}{H:Hp}{Q:It->Hp->Prop}(l:K=X.K)(h:lI K E (Bg (Et n) ta) d H Q):Yp n K (lA K E ta) d H Q:=by
 subst l;obtain⟨a,S,G,hk,rfl,s,r,h⟩:=h;refine⟨a,S,G,hk,rfl,s,r,(Rk h).imp ?_⟩;rintro v _ ⟨b,w,u,rfl,x,g,q,-,c⟩;unfold Et at c;split at c
 .rename_i hok;obtain⟨f,e,o,j⟩:=ZBr g q hok.1;have i:=x.k.trans hk;have m:f.length=n:=by have:=q.length;rw[e,zM]at this;lia
  exact⟨f,e,λt p=>by rw[<-i];exact o t p,m,c b _ (.refl b) g (ZLq i j _)⟩
 exact c.elim
theorem ZLD{elts:List xA}{x1}{tp:Pos}{a b:xA}{ta:DA}{p pos:Pos}(d:Gl X "zip")(g:X.mg "zip"=u8)(f:QA X E [a,b] ta)(e:vz [a,b] X.env=[(uA,eval a X.env),(uA,eval b X.env)]:=by rfl)(c:vz [b] X.env=[(uA,eval b X.env)]:=by rfl):
  QI X E (.Tuple elts x1 tp) (.Call (.Name "zip" p) [a,b] [] pos) (Bg (Et 2) ta):=(ZNE d g f e c).mono λi H Q h=>ZHK rfl h
theorem ZJ8{elts:List xA}{x1}{tp:Pos}{a b c:xA}{ta:DA}{p pos:Pos}(e:Gl X "zip")(i:X.mg "zip"=u8)(g:QA X E [a,b,c] ta)(f:vz [a,b,c] X.env=[(uA,eval a X.env),(uA,eval b X.env),(uA,eval c X.env)]:=by rfl)
  (d:vz [b,c] X.env=[(uA,eval b X.env),(uA,eval c X.env)]:=by rfl):QI X E (.Tuple elts x1 tp) (.Call (.Name "zip" p) [a,b,c] [] pos) (Bg (Et 3) ta):=(ZOL e i g f d).mono λj H Q h=>ZHK rfl h
end
def ixL:D->D->DH->R D
 | .ref p,.int k,G=>match G[p]? with
  |some (.lst xs)=>match atI xs k with
   |some v=>.ok v G
   |none=>.bad
  |_=>.bad
 |_,_,_=>.bad
def K8(to ti te:DE)(f:D->D->DH->R D):DS:=λS G=>(to S G).toS λo G1=>(ti S G1).toS λi G2=>(ixL o i G2).toS λx G3=>(te S G3).toS λy G4=>(f x y G4).toS λz G5=>(Lp o i z G5).toS λ_ G6=>.nx S G6
def ZA6:DS:=λ_ _=>.bad
section
variable{X:Cx}{E:XK}
theorem ZI6{st:xG}:QS X E st ZA6:=λb s c H W I h=>by obtain⟨a,S,G,hk,rfl,d,r,h⟩:=h;exact h.elim
theorem ZMk(ho:QE X E o to)(hi:QE X E i ti)(he:QE X E e te)(U:OpR X (inplaceOp op) (lR2 X.K E f))
  (ha:∀B F c,augStore i B F c=(do holding [c,B,F] (setItem B F c);release [c,B,F] [];pure .next):=by intros;rfl):QS X E (.AugAssign (.Subscript o i tpos) op e pos) (K8 to ti te f):=by
 intro b s l H W I h;obtain⟨a,S,G,hk,rfl,sm,r,h⟩:=h;refine wpAny_AugAssign_SubscriptAny (thn (ho b s l a.H _ I ⟨a,S,G,hk,rfl,sm,r,Gg h⟩) ?_) ha;rintro B s1 ⟨vo,H1,I1,ro,b1,o,G1,rfl,M,m1,q1,_,h1⟩;have k1:=M.k.trans hk;refine thn (hi b s1 l b1.H _ I1 ⟨b1,S,G1,k1,rfl,m1,r.mono M,Gg h1⟩) ?_;rintro F s2 ⟨vi,H2,I2,ri,C,i,G2,rfl,J,m2,q2,_,g⟩;have k2:=J.k.trans k1;cases i with
 | int k=>
  cases o with
  | ref p=>
   obtain⟨hp,rfl⟩:=q1.mono J;cases(q2);cases ro;obtain⟨t,rfl⟩:=ri;unfold ixL at g;dsimp only at g;split at g
   .rename_i xs N;obtain⟨vs,e1,r1⟩:=m2.lst N;split at g
    .rename_i d hd;obtain⟨v,ev,rd⟩:=ZHR r1 hd;obtain⟨its,rv,pl,hz⟩:=I2.list (.of e1);obtain⟨j,L,g2,g3,g4,g5⟩:=Wa ev;obtain⟨w,ew,T⟩:=rv.get g2;have hl:=rv.length;have hn:=line63;have O:vx (vW X.prog X.w) X.A (getItem (.ref (C.m p)) (.int k t)) (λu Q=>u=w/\Q=s2) X.xe s2:=by
      by_cases h0:0<=k
      .have Z:k.toNat=j:=by rw[seqIndex_of h0 g5]at L;exact Option.some.inj L
       exact wpAny_getItem_list pl.isList h0 (by lia) (by rw[Z];simpa using ew) ⟨rfl,rfl⟩
      have Z:(k+(its.toArray.size:Int)).toNat=j:=by rw[seqIndex_neg (by lia) g4]at L;rw[zK,<-hl];exact Option.some.inj L
      exact wpAny_getItem_list_neg pl.isList (by lia) (by rw[zK]<;>lia) (by lia) (by rw[Z];simpa using ew) ⟨rfl,rfl⟩
     refine thn O ?_;rintro u Q ⟨rfl,rfl⟩;refine thn (he b Q l C.H _ I2 ⟨C,S,G2,k2,rfl,m2,(r.mono M).mono J,Gg g⟩) ?_;rintro yv s4 ⟨vy,H4,I4,ry,b4,y,G4,rfl,x,m4,q4,_,h4⟩;refine thn (U b s4 l b4.H v vy u yv _ I4 T ry ⟨b4,G4,d,y,x.k.trans k2,rfl,m4,rd.mono x,q4,Gg h4⟩) ?_;rintro c s5 ⟨vn,H5,I5,rn,b5,z,G5,rfl,Y,m5,q5,_,q⟩;unfold Lp at q;dsimp only at q;split at q
     .rename_i ys hy;split at q
      .rename_i jj P;obtain⟨ws,e5,r5⟩:=m5.lst hy;obtain⟨x6,m6⟩:=Vz m5 (zq hp (z6 x.n Y.n)) e5 (r5.set q5 jj);refine thn (set_list b s5 l b5.H (.ref (C.m p)) (.int k) vn (.ref (C.m p)) (.int k t) c (λH'=>W.nx l H') I5 rfl ⟨t,rfl⟩ rn ⟨b5.m p,ws,k,jj,by rw[(Y.m p (zq hp x.n)).trans (x.m p hp)],rfl,e5,by rw[<-r5.length];exact P,q _ l x6 m6 (((((r.mono M).mono J).mono x).mono Y).mono x6)⟩) ?_
       rintro _ s6 ⟨H6,I6,q6⟩;exact⟨l,H6,I6,q6⟩
      exact q.elim
     exact q.elim
    exact g.elim
   exact g.elim
  |_=>exact(g).elim
 |_=>cases o<;>exact(g).elim
end
def Gy(ds:List D)(G:DH):R D:=match ds with
 | [d]=>match Bd d G with
  |some xs=>match J8 xs with
   |some (n::ns)=>.ok (.int (ns.foldl min n)) G
   |_=>.bad
  |none=>.bad
 |_=>.bad
def Ho(ds:List D)(G:DH):R D:=match ds with
 | [d]=>match Bd d G with
  |some xs=>match J8 xs with
   |some (n::ns)=>.ok (.int (ns.foldl max n)) G
   |_=>.bad
  |none=>.bad
 |_=>.bad
theorem Uv:∀(ns:List Int)(n:Int),ns.foldl min n<=n/\(∀x∈ns,ns.foldl min n<=x)/\(ns.foldl min n=n\/ns.foldl min n∈ns)
 |[],n=>⟨jJ _,λx h=>(by cases h),.inl rfl⟩
 | m::ns,n=>by
  obtain⟨d,b,c⟩:=Uv ns (min n m);rw[jM];refine⟨by lia,λx a=>?_,?_⟩
  .rcases zj.mp a with rfl|a
   .lia
   exact b x a
  rcases c with h|h
  .by_cases e:n<=m
   .exact .inl (by rw[h];lia)
   exact .inr (by rw[h];rw[show min n m=m by lia];exact zW)
  exact .inr (zX _ h)
theorem ZBJ:∀(ns:List Int)(n:Int),n<=ns.foldl max n/\(∀x∈ns,x<=ns.foldl max n)/\(ns.foldl max n=n\/ns.foldl max n∈ns)
 |[],n=>⟨jJ _,λx h=>(by cases h),.inl rfl⟩
 | m::ns,n=>by
  obtain⟨d,b,c⟩:=ZBJ ns (max n m);rw[jM];refine⟨by lia,λx a=>?_,?_⟩
  .rcases zj.mp a with rfl|a
   .lia
   exact b x a
  rcases c with h|h
  .by_cases e:m<=n
   .exact .inl (by rw[h];lia)
   exact .inr (by rw[h];rw[show max n m=m by lia];exact zW)
  exact .inr (zX _ h)
section
variable{X:Cx}{E:XK}
theorem intAt{ns:List Int}{its:List xH}{i:Nat}{w:xH}(d:Vals (ns.map V.int) its)(hw:its.toArray[i]?=u7 w):i<ns.length/\∃t,w=.int (ns.getD i 0) t:=by
 have b:its[i]?=u7 w:=by simpa using hw
 have f:i<(ns.map V.int).length:=by rw[d.length];exact(zC.mp b).1
 have a:i<ns.length:=by simpa using f
 obtain⟨u,c,e⟩:=d.get (i:=i) (x:=V.int ns[i]) (by simp[a]);rw[b]at c;cases c;obtain⟨t,rfl⟩:=e;exact⟨a,t,by simp[a]⟩
theorem ZHj(T:X.calm=u9):CallR X (.builtin "min") (lRn X.K E Gy):=by
 intro y s σ H vs us Q I Z h;obtain⟨a,G,ds,hk,rfl,o,r,q⟩:=h;unfold Gy at q;split at q
 .rename_i d;obtain⟨v,rfl,rv⟩:=reps1 r;split at q
  .rename_i xs L;split at q
   .rename_i n b C;cases T6 C;obtain⟨p,ws,rfl,z,M⟩:=Io o rv L;cases Yj M;rw[hk]at z;obtain⟨u,rfl,F⟩:=vals1 Z;cases F;refine call_min_walk (Yw I T z λit fp wr its St s₂ hv W st hfp fin=>⟨it,fp,wr,its.toArray.size,_,St,_,rfl,W,st,hfp,?_,.ints_lt (λi=>(n::b).getD i 0) (λi w hw=>(intAt hv hw).2),λw J A hw kk=>?_⟩)
    .rw[zK,<-hv.length];simp
    obtain⟨l,t,rfl⟩:=intAt hv hw;obtain⟨b1,Y⟩:=argBest_lt (λi=>(n::b).getD i 0) (its.toArray.size-1);refine⟨.int (b.foldl min n),a.H,fin J A kk,⟨t,?_⟩,q a _ (.refl a) o rfl⟩;have hsz:its.toArray.size=b.length+1:=by rw[zK,<-hv.length];simp
    obtain⟨U,O,P⟩:=Uv b n;have f:∀x∈n::b,b.foldl min n<=x:=λx g=>by
     rcases zj.mp g with rfl|g
     .exact U
     exact O x g
    have e:b.foldl min n∈n::b:=by
     rcases P with h|h
     .rw[h];exact zW
     exact zX _ h
    obtain⟨j,k,N⟩:=qj e;have m:=f _ (qx l);have S:(n::b).getD j 0=b.foldl min n:=by rw[zA,zJ k];exact N
    have B:(n::b).getD (argBest (λi j=>decide ((λi=>(n::b).getD i 0) i<(λi=>(n::b).getD i 0) j)) (its.toArray.size-1)) 0=(n::b)[argBest (λi j=>decide ((λi=>(n::b).getD i 0) i<(λi=>(n::b).getD i 0) j)) (its.toArray.size-1)]:=by rw[zA,zJ l];rfl
    have c:=Y j (by simp at k;lia);rw[S]at c;rw[<-B]at m
    congr 1
    exact Int.le_antisymm c m
   exact q.elim
  exact q.elim
 exact q.elim
theorem ZRf(T:X.calm=u9):CallR X (.builtin "max") (lRn X.K E Ho):=by
 intro y s σ H vs us Q I Z h;obtain⟨a,G,ds,hk,rfl,o,r,q⟩:=h;unfold Ho at q;split at q
 .rename_i d;obtain⟨v,rfl,rv⟩:=reps1 r;split at q
  .rename_i xs L;split at q
   .rename_i n b C;cases T6 C;obtain⟨p,ws,rfl,z,M⟩:=Io o rv L;cases Yj M;rw[hk]at z;obtain⟨u,rfl,F⟩:=vals1 Z;cases F;refine call_max_walk (Yw I T z λit fp wr its St s₂ hv W st hfp fin=>⟨it,fp,wr,its.toArray.size,_,St,_,rfl,W,st,hfp,?_,.ints_gt (λi=>(n::b).getD i 0) (λi w hw=>(intAt hv hw).2),λw J A hw kk=>?_⟩)
    .rw[zK,<-hv.length];simp
    obtain⟨l,t,rfl⟩:=intAt hv hw;obtain⟨b1,Y⟩:=argBest_gt (λi=>(n::b).getD i 0) (its.toArray.size-1);refine⟨.int (b.foldl max n),a.H,fin J A kk,⟨t,?_⟩,q a _ (.refl a) o rfl⟩;have hsz:its.toArray.size=b.length+1:=by rw[zK,<-hv.length];simp
    obtain⟨U,O,P⟩:=ZBJ b n;have f:∀x∈n::b,x<=b.foldl max n:=λx g=>by
     rcases zj.mp g with rfl|g
     .exact U
     exact O x g
    have e:b.foldl max n∈n::b:=by
     rcases P with h|h
     .rw[h];exact zW
     exact zX _ h
    obtain⟨j,k,N⟩:=qj e;have m:=f _ (qx l);have S:(n::b).getD j 0=b.foldl max n:=by rw[zA,zJ k];exact N
    have B:(n::b).getD (argBest (λi j=>decide ((λi=>(n::b).getD i 0) i>(λi=>(n::b).getD i 0) j)) (its.toArray.size-1)) 0=(n::b)[argBest (λi j=>decide ((λi=>(n::b).getD i 0) i>(λi=>(n::b).getD i 0) j)) (its.toArray.size-1)]:=by rw[zA,zJ l];rfl
    have c:=Y j (by simp at k;lia);rw[S]at c;rw[<-B]at m
    congr 1
    exact Int.le_antisymm m c
   exact q.elim
  exact q.elim
 exact q.elim
noncomputable def Gw:D->D->DH->R D
 |.ref p,.int k,G=>match G[p]? with
  |some (.lst xs)=>if -(2^63)<=k/\k<2^63/\xs.length*k.toNat<=1000000 then .ok (.ref G.length) (G++[.lst (zV k.toNat xs).flatten])else .bad
  |_=>.bad
 |.fl (.tup t::xs),.int k,G=>(if -(2^63)<=k/\k<2^63/\(D.tup t::xs).length*k.toNat<=1000000 then .ok (.ref G.length) (G++[.lst (zV k.toNat (.tup t::xs)).flatten])else .bad)|_,_,_=>.bad
theorem Reps.rep(r:Reps a ds vs):∀k,Reps a (zV k ds).flatten (zV k vs).flatten
 |0=>rfl
 |k+1=>by rw[qX,qX,qG,qG];exact r.append (.rep r k)
theorem ZMU:OpR X (xR .Mult) (lR2 X.K E Gw):=ZJu.mono λx y H Q h=>by
 obtain⟨a,G,d,e,hk,rfl,s,j,n,q⟩:=h;cases d with
 | ref p=>
  cases e with
  | int k=>
   unfold Gw at q;dsimp only at q;split at q
   .rename_i g v;split at q
    .rename_i b;obtain⟨i,r,c⟩:=s.lst v;obtain⟨hp,rfl⟩:=j;refine⟨a.m p,k,i,rfl,n,.inl r,b.1,b.2.1,?_,λp hp=>Jq s (.rep c k.toNat) q p hp⟩;rw[<-c.length];exact z6 b.2.2 size6
    exact q.elim
   exact q.elim
  |_=>exact(q).elim
 |fl g=>(cases g with |nil=>exact(q).elim|cons d g=>(cases d with |tup t=>(cases e with |int k=>(unfold Gw at q;dsimp only at q;split at q;(rename_i b;obtain⟨l,i,rfl,f,c⟩:=j;rcases f with⟨o,f⟩|⟨⟨u,rfl⟩,_⟩;(exact⟨l,k,i,rfl,n,.inr ⟨o,f⟩,b.1,b.2.1,by rw[<-c.length];exact z6 b.2.2 size6,λp hp=>Jq s (.rep c k.toNat) q p hp⟩);(obtain⟨_,_,w,⟨_,_,rfl,_⟩,_⟩:=c;cases u<;>cases w));exact q.elim)|_=>exact(q).elim)|_=>exact(q).elim))|_=>exact(q).elim
end
end _D
namespace _D
open PySem PySem.W PyProof.Rows
def Safe(n:Nat){α:Type}(P:α->Prop):KasT α->Prop
 |.ret a=>P a
 |.ask i j k=>i<n/\j<n/\∀b,Safe n P (k b)
theorem Safe.bind{c e:Type}{f:c->KasT e}{P:c->Prop}{Q:e->Prop}(d:∀a,P a->Safe n Q (f a)):∀{t:KasT c},Safe n P t->Safe n Q (t.bind f)
 |.ret a,h=>d a h
 |.ask _ _ _,h=>⟨h.1,h.2.1,λb=>.bind d (h.2.2 b)⟩
def Ents(n:Nat)(p:Array Nat):Prop:=0<n/\p.Perm (zZ n).toArray
theorem Ents.lt(h:Ents n p)(a:x∈p):x<n:=by have:=h.2.mem_iff.mp a;simpa using this
theorem Ents.pt(h:Ents n p)(k:Nat):p.getD k 0<n:=by
 by_cases hk:k<p.size
 .have:p.getD k 0=p[k]:=by simp[Array.getD,hk]
  rw[this];exact h.lt (Array.getElem_mem hk)
 have:p.getD k 0=0:=by simp[Array.getD,hk]
 rw[this];exact h.1
theorem Ents.perm(h:Ents n p)(e:q.Perm p):Ents n q:=⟨h.1,e.trans h.2⟩
theorem ZAF(h:Ents n p):∀f m,Safe n (λ_=>True) (kas_asc p f m)
 |0,m=>trivial
 | f+1,m=>⟨h.pt _,h.pt _,λb=>by
   cases b with
   |true=>exact trivial
   |false=>exact ZAF h f (m+1)⟩
theorem U6:∀f{p:Array Nat}m q,Ents n p->Safe n (λr=>Ents n r.1) (kas_desc f p m q)
 |0,p,m,q,h=>h
 | f+1,p,m,q,h=>⟨h.pt _,h.pt _,λb=>by
   cases b with
   |true=>
    by_cases a:q>0
    .simp only[if_true,if_pos a];exact U6 f _ _ (h.perm (mirror_perm ..))
    simp only[if_true,if_neg a];exact U6 f _ _ h
   |false=>
    refine⟨h.pt _,h.pt _,λd=>?_⟩;cases d with
    |true=>exact h
    |false=>exact U6 f _ _ h⟩
theorem ZEd(h:Ents n p)(m k:Nat):Safe n (λr=>Ents n r.2) (kas_tail3 m k p):=by unfold kas_tail3;refine .bind (λa _=>?_) (ZAF (h.perm (mirror_perm ..)) _ _);exact h.perm (mirror_perm ..)
theorem ZBt(h:Ents n p)(m k:Nat):Safe n (λr=>Ents n r.2) (kas_descPart m k p):=
 Safe.bind (λa b=>by
  split
  .exact ZEd (b.perm (mirror_perm ..)) _ _
  exact ZEd b _ _) (U6 _ _ _ h)
theorem ZBG(h:Ents n p)(k:Nat):Safe n (λr=>Ents n r.2) (kas_count k p):=
 Safe.bind (λa _=>by
  split
  .exact h
  split
  .refine⟨h.pt _,h.pt _,λc=>?_⟩;cases c with
   |true=>exact h
   |false=>exact ZBt (h.perm (mirror_perm ..)) _ _
  exact ZBt h _ _) (ZAF h _ _)
theorem Yy(h:Ents n p)(k:Nat):∀f l r,Safe n (λ_=>True) (kas_place p k f l r)
 |0,l,r=>trivial
 |f+1,l,r=>by
  unfold kas_place;split
  .trivial
  refine⟨h.pt _,h.pt _,λc=>?_⟩;cases c with
  |_=>exact Yy h k f _ _
theorem ZDV:∀f{p:Array Nat}k,Ents n p->Safe n (λ_=>True) (kas_bin f p k)
 |0,p,k,h=>trivial
 |f+1,p,k,h=>.bind (λa _=>ZDV f _ (h.perm (bubble_perm ..))) (Yy h k _ _ _)
theorem ZQ0(c:0<n):Safe n (λ_=>True) (kas_sort n):=
 Safe.bind (λa b=>by
  split
  .exact ZDV _ _ b
  trivial) (ZBG ⟨c,.refl _⟩ _)
end _D
namespace _D
open PySem PySem.Spec _L
open PyProof.Rows hiding St
noncomputable def ltL:List D->List D->Option Bool
 |[],[]=>u7 uA
 |[],_::_=>u7 u9
 |_::_,[]=>u7 uA
 |.int a::r,.int b::r'=>if a=b then ltL r r' else u7 (decide (a<b))
 |.str a::r,.str b::r'=>if a=b then ltL r r' else u7 (decide (a.cps.toList<b.cps.toList))
 |_::_,_::_=>u8
def ltD:D->D->Option Bool
 |.tup xs,.tup ys=>ltL xs ys
 |_,_=>u8
def ltI(xs:List D)(i j:Nat):Bool:=(ltD (xs.getD i .non) (xs.getD j .non)).getD uA
def isIt:D->Bool
 |.tup (.int _::_)=>u9
 |_=>uA
def Wr:D->Bool
 |.tup (.str _::_)=>u9
 |_=>uA
def P0(xs:List D):Bool:=(xs.all isIt||xs.all Wr)&&xs.all λx=>xs.all λy=>(ltD x y).isSome
def K6(xs:List D):List D:=if xs.length<2 then xs else(Bm (ltI xs) (zi xs.length)).toList.map λi=>xs.getD i .non
def Nm(ds:List D)(G:DH):R D:=match ds with
 |[d]=>match Fy d G with
  |some xs=>if(xs.length<64/\(K6 xs).length<64)/\P0 xs=u9 then .ok (.ref G.length) (G++[.lst (K6 xs)])else .bad
  |none=>.bad
 |_=>.bad
theorem ZFt(h:∀i j,i<n->j<n->∀C:Bool->xF->Prop,C (lt i j) s->cmp i j C s){b:Type}{P:b->Prop}{Q:b->xF->Prop}:
  ∀{t:ve b},Safe n P t->Q (Bm lt t) s->t.kasWp cmp Q s
 |.ret _,_,c=>c
 |.ask i j k,a,c=>h i j a.1 a.2.1 _ (ZFt h (a.2.2 (lt i j)) c)
section
variable{prog:xD}{w:xI}{A:x0}{s:xF}
theorem ZIF(h:Q (decide (a<b)) s):vx (vW prog w) A (oneLt' c (.int a t) (.int b u)) Q E s:=by
 cases c with
 |true=>exact oneLt_int h
 |false=>exact uZ _ _ (lt_int h)
theorem ZJd(h:Q (decide (a.cps.toList<b.cps.toList)) s):vx (vW prog w) A (oneLt' c (.str a t) (.str b u)) Q E s:=by
 cases c with
 |true=>exact oneLt_str h
 |false=>exact uZ _ _ (lt_str h)
theorem ZA4:∀{xs ys:List D}{vs q:List V}{us o:List xH}{i:Nat}{k:Bool},Reps a xs vs->Reps a ys q->Vals vs us->Vals q o->ltL xs ys=u7 k->fin=decide (us.length<o.length)->Q k s->
  PySem.W.KatLex prog w A u9 fin Q (us.zip o) i s
 |[],[],vs,q,us,o,i,k,f,g,c,b,h,j,d=>by cases(f);cases(g);cases c;cases b;cases h;subst j;exact vf d
 |[],y::ys,vs,q,us,o,i,k,f,g,c,b,h,j,d=>by cases(f);cases c;obtain⟨F,wr,rfl,_,_⟩:=g;cases b;cases h;subst j;exact vf (by simpa using d)
 |x::xs,[],vs,q,us,o,i,k,f,g,c,b,h,j,d=>by
  cases(g);cases b;obtain⟨F,wr,rfl,_,_⟩:=f;cases c;have hk:k=uA:=by cases x<;>(simp[ltL]at h;exact h)
  subst hk;subst j;exact vf (by simpa using d)
 | x::xs,y::ys,vs,q,us,o,i,k,f,g,c,b,h,j,d=>by
  have p:(∃m n,x=.int m/\y=.int n)\/(∃m n,x=.str m/\y=.str n):=by
   cases x<;>cases y<;>first
    |exact .inl ⟨_,_,rfl,rfl⟩
    |exact .inr ⟨_,_,rfl,rfl⟩
    |(exfalso;simp[ltL]at h)
  obtain⟨B,H,rfl,z,f⟩:=f;obtain⟨C,wr,rfl,E,g⟩:=g;rcases p with⟨m,n,rfl,rfl⟩|⟨m,n,rfl,rfl⟩
  .cases(show B=V.int m from z)
   cases(show C=V.int n from E)
   cases c with
   | cons r c=>
    cases b with
    | cons v b=>
     obtain⟨t,rfl⟩:=r;obtain⟨u,rfl⟩:=v;rw[List.zip_cons_cons];refine uJ (wpAny_eqBool_int (uX (λl=>?_) λl=>?_))
     .have e:m=n:=by simpa using l
      rw[show ltL (.int m::xs) (.int n::ys)=if m=n then ltL xs ys else u7 (decide (m<n))from rfl,if_pos e]at h
      exact uV (ZA4 f g c b h (by simpa using j) d)
     have e:m≠n:=by simpa using l
     rw[show ltL (.int m::xs) (.int n::ys)=if m=n then ltL xs ys else u7 (decide (m<n))from rfl,if_neg e]at h
     cases h;exact uW (ZIF d)
  cases(show B=V.str m from z)
  cases(show C=V.str n from E)
  cases c with
  | cons r c=>
   cases b with
   | cons v b=>
    obtain⟨t,rfl⟩:=r;obtain⟨u,rfl⟩:=v;rw[List.zip_cons_cons];refine uJ (wpAny_eqBool_str (uX (λl=>?_) λl=>?_))
    .rw[show ltL (.str m::xs) (.str n::ys)=if m=n then ltL xs ys else u7 (decide (m.cps.toList<n.cps.toList))from rfl,if_pos (by simpa using l)]at h
     exact uV (ZA4 f g c b h (by simpa using j) d)
    .rw[show ltL (.str m::xs) (.str n::ys)=if m=n then ltL xs ys else u7 (decide (m.cps.toList<n.cps.toList))from rfl,if_neg (by simpa using l)]at h
     cases h;exact uW (ZJd d)
end
section
variable{X:Cx}{E:XK}{vP:List (xy×Obj)}{σ:St}{s:xF}{H:Hp}{h':Heap}
theorem ZCl(I:Inv X vP σ H s)(k:∀b o,b≠X.env.locals->s.heap.get? b=u7 o->h'.get? b=u7 o)(ns:∀m,s.heap.Ns X.env.locals m->h'.Ns X.env.locals m):Inv X vP σ H {s with heap:=h',toks:=t'}:=by
 refine I.step (ch:=[]) (nofun) (λb o f _ _ e _=>k b o f e) (λb o f _ _ e _=>⟨o.slots,k b o f e⟩) (λ_ _ _ _ n=>n) (λb o _ e=>?_) (λ_ _ e=>e) (λ_ _ _ e=>e)
  (λb r e=>⟨#[],by rw[e];simp⟩) ns (λb u e=>?_) I.bare
 .by_cases i:b=X.env.locals
  .obtain⟨m,j,_⟩:=I.loc;obtain⟨l,_,_,d,_⟩:=ns m j;exact⟨l,i▸d⟩
  exact⟨o,k b o i e⟩
 have g:∀c w,H c=u7 w->c≠X.env.locals:=λc w e z=>by rw[z,I.free]at e;cases e
 refine(I.hok b u e).stay (λc v p q=>k c v ?_ q) (λ_ q=>q) λ_ _ q=>q
 rcases p with z|z
 .rw[z];exact g b u e
 exact g c _ z
end
section
variable{prog:xD}{w:xI}{A:x0}{E:xH->xF->Prop}{s:xF}
theorem ZPm{l:xy}{vs:List xH}{Q:xH->xF->Prop}(n:s.heap.IsList l vs.toArray)(hz:vs.length<64)
  (h:∀g,g.get? (s.heap.objs.size+1)=u7 (seqObj "list" vs.toArray 0)->(∀b o,s.heap.get? b=u7 o->g.get? b=u7 o)->
   vx (vW prog w) A.in1.in1 (Builtin.«list.sort» ⟨[.ref (s.heap.objs.size+1)],[]⟩) (λd s'=>d=.done (.ret .none)/\Q (.ref (s.heap.objs.size+1)) s') E {s with heap:=g}):
  vx (vW prog w) A (call (.builtin "sorted") [.ref l]) Q E s:=by
 have c:vs.length<=sizeLine:=by rw[vY];lia
 refine Calls.call_function_entry kind_sorted plain_sorted entry_sorted (args_sorted1 _) ?_;unfold Builtin.«sorted»;refine vk (vH (vk (collect_list n (vk (wpAny_newList ?_ c)) c)))
 generalize m:(s.heap.push (seqObj "list" #[] 0)).update s.heap.objs.size (.mapSeq (·++vs.toArray))=f
 have i:f.objs.size=s.heap.objs.size+1:=by rw[<-m,Heap.size_update,size_push']
 have p:∀b o,s.heap.get? b=u7 o->f.get? b=u7 o:=λb o q=>by have e:=zx q;rw[<-m,Heap.get?_update_ne _ _ _ _ (z8 e),Heap.get?_push_ne _ _ _ (z8 e)];exact q
 have j:(f.push (seqObj "list" vs.toArray 0)).get? (s.heap.objs.size+1)=u7 (seqObj "list" vs.toArray 0):=by rw[<-i];exact z0 _ rfl
 rw[i];refine vk (vD (vB slot_list_sort ⟨_,j,rfl⟩ entry_list_sort ?_ (args_list_sort _)));exact vE (h (f.push (seqObj "list" vs.toArray 0)) j λb o q=>zQ _ (p b o q)) (λd s' k=>(⟨_,k.1,vH ⟨_,rfl,k.2⟩⟩)) λ_ _ x=>x
theorem ZQA{a:xy}{vs:List xH}{n:Nat}{P:Fin->xF->Prop}(ho:s.heap.get? a=u7 (seqObj "list" vs.toArray n))(v:vs.length<2)
  (h:∀h' c,h'.get? a=u7 (seqObj "list" vs.toArray c)->(∀b o,b≠a->s.heap.get? b=u7 o->h'.get? b=u7 o)->P (.done (.ret .none)) {s with heap:=h'}):vx (vW prog w) A (Builtin.«list.sort» ⟨[.ref a],[]⟩) P E s:=by
 obtain⟨k,g⟩:∃k,(s.heap.update a (.mapSeq λ_=>(#[]:Array xH))).get? a=u7 (seqObj "list" #[] k):=⟨_,get?_update_seq ho λ_=> #[]⟩;rw[list_sort_plain];refine vk (listItems_at ho rfl (vk (listUpdate_at ho rfl ?_ (by rw[zK,vY];lia) (jL _))));refine vk (seqEpoch_at g rfl (vk (wpAny_newTuple (vk (wpAny_newList (vD ?_) (jL _))) (by show vs.length<=_;rw[vY];lia))))
 dsimp only;have j:vs.toArray.size<2:=by rw[zK];lia
 rw[if_pos j,if_pos j];refine vk (vH (vk (wpAny_of_eq rfl ?_)));dsimp only
 have f:(arrOf (.mk' general' (vs.toArray.zip vs.toArray) #[] 7 u8)).map (·.2)=vs.toArray:=by
  show(vs.toArray.zip vs.toArray).map (·.2)=vs.toArray
  refine Array.ext (by simp) λi x v=>by simp
 rw[f];generalize t:((s.heap.update a (.mapSeq λ_=>(#[]:Array xH))).push {cls:=.type "tuple",data:=.seq vs.toArray.toList.toArray}).push {cls:=.type "list",data:=.seq ([]:List xH).toArray}=m;have e:m.get? a=u7 (seqObj "list" #[] k):=by rw[<-t];exact zQ _ (zQ _ g)
 have u:∀b o,b≠a->s.heap.get? b=u7 o->m.get? b=u7 o:=λb o l q=>by rw[<-t];exact zQ _ (zQ _ ((qL.update s.heap a (.mapSeq λ_=>(#[]:Array xH))).extBut b o l q))
 refine vk (seqEpoch_at (o:=seqObj "list" #[] k) ?_ rfl ?_)
 .exact e
 obtain⟨r,p⟩:∃r,(m.update a (.mapSeq λ_=>vs.toArray)).get? a=u7 (seqObj "list" vs.toArray r):=⟨_,get?_update_seq e λ_=>vs.toArray⟩;refine vk (listUpdate_at e rfl ?_ (jL _) (by rw[zK,vY];lia));simp[bne_self_eq_false,j8,if_false];exact vH (h _ r p λb o l q=>(qL.update m a (.mapSeq λ_=>vs.toArray)).extBut b o l (u b o l q))
end
theorem ZRQ:xS "sorted"=u7 (.builtin "sorted"):=by decide +kernel
section
variable{X:Cx}{E:XK}{vP:List (xy×Obj)}{σ:St}{s:xF}{H:Hp}
theorem Vd(I:Inv X vP σ a.H s)(hk:a.K=X.K)(r:Rep a d v)(e:RelV v u)(h:d=.tup xs):∃p o vs us n,u=.ref p/\s.heap.get? p=u7 o/\o.cls=.type "tuple"/\o.data=.seq us n/\Vals vs us.toList/\Reps a xs vs:=by subst h;obtain⟨p,vs,rfl,c,g⟩:=r;cases e;rw[hk]at c;obtain⟨b,f,⟨o,k,j,n,i⟩,l⟩:=I.tuple c;exact⟨p,o,vs,b.toArray,n,rfl,k,j,i,by simpa using f,g⟩
theorem ZKQ(h:isIt d=u9):∃i r,d=.tup (.int i::r):=by
 unfold isIt at h;split at h
 .exact⟨_,_,rfl⟩
 cases h
theorem ZOp(h:Wr d=u9):∃i r,d=.tup (.str i::r):=by
 unfold Wr at h;split at h
 .exact⟨_,_,rfl⟩
 cases h
theorem ZC8(I:Inv X vP σ a.H s)(hk:a.K=X.K):∀{xs:List D}{vs:List V}{us:List xH},Reps a xs vs->Vals vs us->xs.all isIt=u9->∃fs,uK s.heap us fs/\fs.length=us.length/\∀v∈fs,∃i t,v=.int i t
 |[],vs,us,r,v,h=>by
  cases(r);cases v
  exact⟨[],.nil,rfl,λ_ c=>nomatch c⟩
 | d::xs,vs,us,r,v,h=>by
  rw[qE,z5]at h;obtain⟨M,N,rfl,k,C⟩:=r;cases v with
  | cons g l=>
   obtain⟨i,J,rfl⟩:=ZKQ h.1;obtain⟨p,o,L,f,n,rfl,A,m,u,e,w⟩:=Vd I hk k g rfl;obtain⟨F,wr,rfl,j,O⟩:=w;cases(j);obtain⟨fs,x,y,B⟩:=ZC8 I hk C l h.2;have b:∃t,f[0]?=u7 (.int i t):=by
    cases b:f.toList with
    |nil=>rw[b]at e;cases e
    | cons z P=>
     rw[b]at e;cases e with
     |cons q _=>
      obtain⟨t,rfl⟩:=q;exact⟨t,by rw[<-jZ,b];rfl⟩
   obtain⟨t,b⟩:=b;refine⟨.int i t::fs,.cons A m u b x,by simp[y],λv c=>?_⟩;rcases zj.mp c with rfl|c
   .exact⟨i,t,rfl⟩
   exact B v c
theorem ZD8(I:Inv X vP σ a.H s)(hk:a.K=X.K):∀{xs:List D}{vs:List V}{us:List xH},Reps a xs vs->Vals vs us->xs.all Wr=u9->∃fs,uK s.heap us fs/\fs.length=us.length/\∀v∈fs,∃i t,v=.str i t
 |[],vs,us,r,v,h=>by
  cases(r);cases v
  exact⟨[],.nil,rfl,λ_ c=>nomatch c⟩
 | d::xs,vs,us,r,v,h=>by
  rw[qE,z5]at h;obtain⟨M,N,rfl,k,C⟩:=r;cases v with
  | cons g l=>
   obtain⟨i,J,rfl⟩:=ZOp h.1;obtain⟨p,o,L,f,n,rfl,A,m,u,e,w⟩:=Vd I hk k g rfl;obtain⟨F,wr,rfl,j,O⟩:=w;cases(j);obtain⟨fs,x,y,B⟩:=ZD8 I hk C l h.2;have b:∃t,f[0]?=u7 (.str i t):=by
    cases b:f.toList with
    |nil=>rw[b]at e;cases e
    | cons z P=>
     rw[b]at e;cases e with
     |cons q _=>
      obtain⟨t,rfl⟩:=q;exact⟨t,by rw[<-jZ,b];rfl⟩
   obtain⟨t,b⟩:=b;refine⟨.str i t::fs,.cons A m u b x,by simp[y],λv c=>?_⟩;rcases zj.mp c with rfl|c
   .exact⟨i,t,rfl⟩
   exact B v c
theorem ZFq(I:Inv X vP σ a.H s)(l:Sim a G)(q:out E a (.ok (.ref G.length) (G++[.lst ys])) Q)(r:Reps a ys ws)(v:Vals ws us)(hz:us.length<64)
  (h:f.get? (s.heap.objs.size+1)=u7 (seqObj "list" us.toArray c)) (k:∀b o,b≠X.env.locals->s.heap.get? b=u7 o->f.get? b=u7 o) (ns:∀m,s.heap.Ns X.env.locals m->f.Ns X.env.locals m):
  EP X vP σ Q (.ref (s.heap.objs.size+1)) {s with heap:=f}:=by
 have e:s.heap.objs.size<=s.heap.objs.size+1:=jk _;obtain⟨g,j,t,p,n,i⟩:=I.Hr e (I.hok.fresh e);refine⟨.ref (s.heap.objs.size+1),_,Zf (ZCl I k ns) g (z6 I.sz e) j n i (o:=.lst ws) ⟨?_,us,c,v,h⟩,rfl,Jq l r q _ g⟩;rw[v.length,vY];lia
end
section
variable{X:Cx}{E:XK}
theorem ZRt(h:P0 xs=u9)(b:x∈xs)(a:y∈xs):∃k,ltD x y=u7 k:=by unfold P0 at h;rw[z5]at h;exact jV.mp (q9.mp (q9.mp h.2 x b) y a)
theorem ZMt(h:ltD x y=u7 k):∃xs ys,x=.tup xs/\y=.tup ys/\ltL xs ys=u7 k:=by
 unfold ltD at h;split at h
 .exact⟨_,_,rfl,rfl,h⟩
 cases h
theorem ZF3(r:Reps a xs vs):∀l:List Nat,(∀i∈l,i<xs.length)->Reps a (l.map λi=>xs.getD i .non) (l.map λi=>vs.getD i .non)
 |[],_=>rfl
 |i::l,h=>by
  have b:=h i zW;obtain⟨v,e,f⟩:=r.get (zJ b);refine⟨vs.getD i .non,_,rfl,?_,ZF3 r l λj c=>h j (zX _ c)⟩;have d:xs.getD i .non=xs[i]:=by simp[b]
  have g:vs.getD i .non=v:=by rw[zA,e];rfl
  show Rep a (xs.getD i .non) (vs.getD i .non);rw[d,g];exact f
theorem ZBg(r:Vals vs us):∀l:List Nat,(∀i∈l,i<vs.length)->Vals (l.map λi=>vs.getD i .non) (l.map λi=>us.getD i .none)
 |[],_=>.nil
 |i::l,h=>by
  have a:=h i zW;obtain⟨u,f,d⟩:=r.get (zJ a);rw[zk,zk];have c:vs.getD i .non=vs[i]:=by simp[a]
  have e:us.getD i .none=u:=by rw[zA,f];rfl
  rw[c,e];exact .cons d (ZBg r l λj b=>h j (zX _ b))
theorem ZGS:∀{t:ve (Array Nat)},Safe n P t->P (Bm lt t)
 |.ret _,h=>h
 |.ask i j k,h=>ZGS (t:=k (lt i j)) (h.2.2 (lt i j))
theorem ZD6:∀f{p:Array Nat}k,Ents n p->Safe n (Ents n) (PySem.W.kas_bin f p k)
 |0,p,k,h=>h
 |f+1,p,k,h=>.bind (λa _=>ZD6 f _ (h.perm (bubble_perm ..))) (Yy h k _ _ _)
theorem ZC7(c:0<n):Safe n (Ents n) (zi n):=
 Safe.bind (λa b=>by
  split
  .exact ZD6 _ _ b
  exact b) (ZBG ⟨c,.refl _⟩ _)
theorem ZPf:CallR X (.builtin "sorted") (lRn X.K E Nm):=by
 intro vP s σ H vs us Q I rs h;obtain⟨a,G,ds,hk,rfl,sm,r,q⟩:=h;unfold Nm at q;split at q
 .rename_i d;obtain⟨v,rfl,rv⟩:=reps1 r;split at q
  .rename_i xs hs;split at q
   .rename_i hc;obtain⟨p,ws,rfl,h1,r1⟩:=Rb sm rv hs;rw[hk]at h1;obtain⟨u,rfl,ru⟩:=vals1 rs;cases ru;obtain⟨its,hv,pl,hz⟩:=I.list h1;have hlx:=r1.length.trans hv.length;refine ZPm pl.isList (by lia) λh1 hD k1=>?_
    obtain⟨m,hn,_⟩:=id I.loc;have hns1:=hn.keeps k1;have hDL:=jY (qP I.lt);have nsAll:∀{h2:Heap},h2.Ns X.env.locals m->∀m',s.heap.Ns X.env.locals m'->h2.Ns X.env.locals m':=λ{h2}hh m' hm'=>by have e1:=hn.eq_nsMap;have e2:=hm'.eq_nsMap;rw[e2,<-e1];exact hh
    by_cases hlen:xs.length<2
    .refine ZQA hD (by lia) λh2 c hD2 k2=>⟨rfl,?_⟩
     have es:K6 xs=xs:=by unfold K6;rw[if_pos hlen]
     rw[es]at q;exact ZFq I sm q r1 hv (by lia) hD2 (λb o hb e=>k2 b o (z8 (qP (zx e))) (k1 b o e)) (nsAll (hns1.at λo e=>k2 _ o (.symm hDL) e))
    .have es:K6 xs=(Bm (ltI xs) (zi xs.length)).toList.map λi=>xs.getD i .non:=by unfold K6;rw[if_neg hlen]
     rw[es]at q;refine PySem.W.kat_list_sort (Att.ZRT hns1) (news:=Att.ledger h1 X.env.locals (s.heap.objs.size+1)) ?_ hD hDL (Att.Yi _ _) (λ⟨_,_⟩ hp=>(Att.Ql.mp hp).2.1) (by lia) (by lia) λe1 h2 F2 N2=>?_
     .rintro⟨b,o⟩ hp;obtain⟨n1,n2,e⟩:=Att.Ql.mp hp;exact⟨e,n1,Att.Yi _ _⟩
     have I2:=ZCl (t':=s.toks) I (λb o hb e=>(N2 (b,o) (zX _ (Att.Ql.mpr ⟨hb,z8 (qP (zx e)),k1 b o e⟩))).1) (nsAll F2.ns);have hpos:0<its.length:=by lia
     have fin:(zi its.length).kasWp (uY X.prog X.w X.A.in1.in1 (tuples' u9) its) (λp s''=>PySem.W.KasFin (Att.Va h1) X.env.locals m (s.heap.objs.size+1) e1 (p.toList.map λi=>its.getD i Value.none) (λs3=>.done (.ret .none)=PySem.Fin.done (.ret .none)/\EP X vP σ Q (.ref (s.heap.objs.size+1)) s3) s'') {s with heap:=h2}:=by
      refine ZFt (lt:=ltI xs) (λi j hi hj C hC=>?_) (ZC7 hpos) ?_
      .have hxi:i<xs.length:=by lia
       have hxj:j<xs.length:=by lia
       obtain⟨v1,ev1,rv1⟩:=r1.get (zJ hxi);obtain⟨v2,ev2,rv2⟩:=r1.get (zJ hxj);obtain⟨u1,eu1,ru1⟩:=hv.get ev1;obtain⟨u2,eu2,ru2⟩:=hv.get ev2;obtain⟨k,hlt⟩:=ZRt hc.2 (qx hxi) (qx hxj);obtain⟨as,bs,ea,eb,hlL⟩:=ZMt hlt;obtain⟨p1,o1,vs1,us1,n1,rfl,ho1,_,hd1,hv1,hr1⟩:=Vd I2 hk rv1 ru1 ea;obtain⟨p2,o2,vs2,us2,n2,rfl,ho2,_,hd2,hv2,hr2⟩:=Vd I2 hk rv2 ru2 eb
       have hC':C k {s with heap:=h2}:=by
        have:ltI xs i j=k:=by
         unfold ltI;have e1:xs.getD i .non=xs[i]:=by simp[hxi]
         have e2:xs.getD j .non=xs[j]:=by simp[hxj]
         rw[e1,e2,hlt];rfl
        rw[<-this];exact hC
       unfold uY;have g1:its.getD i Value.none=.ref p1:=by rw[zA,eu1];rfl
       have g2:its.getD j Value.none=.ref p2:=by rw[zA,eu2];rfl
       rw[g1,g2];exact PySem.W.kat_lt ho1 hd1 ho2 hd2 (ZA4 hr1 hr2 hv1 hv2 hlL (by simp) hC')
      .rw[hlx]at q;refine .intro F2 N2 (.head λ⟨_,_⟩ hp=>(Att.Ql.mp hp).2.1) λh3 c F3 N3=>⟨rfl,?_⟩
       have hin:∀i∈(Bm (ltI xs) (zi its.length)).toList,i<its.length:=λi hi=>(ZGS (ZC7 hpos)).lt (by simpa using hi)
       refine ZFq I sm q (ZF3 r1 _ λi hi=>hlx▸hin i hi) (ZBg hv _ λi hi=>hv.length▸hin i hi) ?_ (N3 _ zW).1 (λb o hb e=>((N3 (b,o) (zX _ (Att.Ql.mpr ⟨hb,z8 (qP (zx e)),k1 b o e⟩))).1)) (nsAll F3.ns)
       .rw[hlx]at es;have:=hc.1.2;rw[es]at this;simpa using this
     unfold P0 at hc;rw[z5,jA]at hc;rcases hc.2.1 with hall|hall
     .obtain⟨fs,t1,t2,t3⟩:=ZC8 I2 hk r1 hv hall;refine uq (T:=.type "int") t1 (by lia) (λv hm=>?_) (by decide) fin
      .obtain⟨i,t,rfl⟩:=t3 v hm;exact .now
     .obtain⟨fs,t1,t2,t3⟩:=ZD8 I2 hk r1 hv hall;refine uq (T:=.type "str") t1 (by lia) (λv hm=>?_) (by decide) fin
      .obtain⟨i,t,rfl⟩:=t3 v hm;exact .now
   exact q.elim
  exact q.elim
 exact q.elim
end
section
variable{S:DSt}{G:DH}
@[simp]theorem ZR4:K8 to ti te f S G=(to S G).toS λo a=>(ti S a).toS λi c=>(ixL o i c).toS λx b=>(te S b).toS λy g=>(f x y g).toS λz e=>(Lp o i z e).toS λ_ d=>.nx S d:=id rfl
theorem U0(h:G[p]?=u7 (.lst xs))(e:atI xs k=u7 d):ixL (.ref p) (.int k) G=.ok d G:=by unfold ixL;simp only;rw[h];simp only;rw[e]
def Df(xs:List D):List D:=xs.zipIdx.map λq=>.tup [.int q.2,q.1]
def Ln(xs ys:List D):List D:=(xs.zip ys).map λq=>.tup [q.1,q.2]
theorem ZE6{f:Nat->DH->Option (Option D)}{g:DG}{b:DS}{xs:List D}(h:∀j G,f j G=u7 xs[j]?):∀(n j:Nat),j+n=xs.length->∀S G,Cq f g b n j S G=Aw g b (xs.drop j) S G
 |0,j,e,S,G=>by
  unfold Cq;rw[h,z7 (by lia),zU (by lia)]
  rfl
 |n+1,j,e,S,G=>by
  have a:j<xs.length:=by lia
  unfold Cq;rw[h,zJ a,zO a,Bv];have:Cq f g b n (j+1)=Aw g b (xs.drop (j+1)):=by funext S G;exact ZE6 h n (j+1) (by lia) S G
  rw[this]
theorem S7(h:∀j G,f j G=u7 xs[j]?)(a:n=xs.length):Cq f g b n 0 S G=Aw g b xs S G:=by rw[ZE6 h n 0 (by lia)];rfl
theorem Vo(j:Nat)(G:DH):Dh 0 (.fl xs) j G=u7 (Df xs)[j]? :=by
 unfold Dh Df;simp[Bd,zw,List.getElem?_zipIdx]
 cases xs[j]?<;>simp
theorem ZRS(j:Nat)(G:DH):Dh 0 (.tup xs) j G=u7 (Df xs)[j]? :=by
 unfold Dh Df;simp[Bd,zw,List.getElem?_zipIdx]
 cases xs[j]?<;>simp
theorem Jy:(Df xs).length=xs.length:=by simp[Df]
@[simp]theorem ZSq:Fb [.fl xs] G=.ok (.fn xs.length (Dh 0 (.fl xs))) G:=by simp[Fb,Js,Bd,lenOf]
@[simp]theorem ZMp:Cq (Dh 0 (.fl xs)) g b xs.length 0 S G=Aw g b (Df xs) S G:=S7 Vo Jy.symm
@[simp]theorem ZSY:Cq (Dh 0 (.tup xs)) g b xs.length 0 S G=Aw g b (Df xs) S G:=S7 ZRS Jy.symm
theorem ZGI{f:Nat->DH->Option (Option D)}{g:DG}{c:DB}{l:DE}{F:D->Option D}{xs:List D}(i:∀j,f j G=u7 xs[j]?)(h:∀x∈xs,CStep g c l S G x (F x)):
  ∀(n j:Nat),xs.length<=j+n->Cm f g c l S n j G=.ok ((xs.drop j).filterMap F) G
 |0,j,m=>by
  unfold Cm;rw[i,z7 (by lia)];simp only;rw[zU (by lia)]
  rfl
 | n+1,j,m=>by
  unfold Cm;rw[i];by_cases a:j<xs.length
  .have k:=ZGI i h n (j+1) (by lia);obtain⟨q,o,b⟩:=h xs[j] (qx a);rw[zJ a];simp[o,R.Hm];rw[zO a,qq];rcases b with⟨b,e⟩|⟨b,d,e,p⟩
   .simp[b,e,k]
   simp[b,e,p,k]
  rw[z7 (by lia),zU (by lia)]
  rfl
theorem Um{f:Nat->DH->Option (Option D)}{g:DG}{c:DB}{a:DE}{F:D->Option D}{xs:List D}{n:Nat}(b:∀j,f j G=u7 xs[j]?)(h:∀x∈xs,CStep g c a S G x (F x))(d:xs.length<=n):
  Cm f g c a S n 0 G=.ok (xs.filterMap F) G:=ZGI b h n 0 (by lia)
theorem X6(b:Bd d G=u7 xs)(a:Bd e G=u7 ys)(j:Nat):Em [d,e] j G=u7 (Ln xs ys)[j]? :=by
 unfold Em Ln;simp only[Gj,b,a,zw]
 have c:(xs.zip ys)[j]?=match xs[j]?,ys[j]? with
  |some x,u7 y=>u7 (x,y)
  |_,_=>u8:=by
  rw[List.zip,List.getElem?_zipWith]
  cases xs[j]?<;>cases ys[j]?<;>rfl
 rw[c];cases xs[j]? with
 |none=>rfl
 |some x=>
  cases ys[j]? with
  |_=>rfl
theorem V5(b:Bd d G=u7 xs)(a:Bd e G=u7 ys):Et 2 [d,e] G=.ok (.fn xs.length (Em [d,e])) G:=by simp[Et,Js,b,a,lenOf]
@[simp]theorem ZDM:Bd (.fl xs) G=u7 xs:=id rfl
@[simp]theorem K9:Bd (.tup xs) G=u7 xs:=id rfl
theorem ZLs(h:G[i]?=u7 (.lst xs)):Bd (.ref i) G=u7 xs:=by simp[Bd,h]
theorem ZFo(h:Bd d G=u7 ((n::ns).map D.int)):Gy [d] G=.ok (.int (ns.foldl min n)) G:=by simp only[Gy,h,Y5]
theorem ZGb(h:Bd d G=u7 ((n::ns).map D.int)):Ho [d] G=.ok (.int (ns.foldl max n)) G:=by simp only[Ho,h,Y5]
theorem ZEn{p:Nat}{k:Nat}{d:D}(h:G[p]?=u7 (.lst [d]))(hk:k<=1000000):Gw (.ref p) (.int (k:Int)) G=.ok (.ref G.length) (G++[.lst (zV k d)]):=by
 unfold Gw;simp only;rw[h];simp only;have e:(zV k [d]).flatten=zV k d:=by
  induction k with
  |zero=>rfl
  |succ k a=>rw[qX,qG,a (by lia),qX];rfl
 rw[if_pos ⟨by lia,by lia,by simpa using hk⟩,Int.toNat_natCast,e]
end
def Bts(i:Int):Prop:=i.natAbs.log2<33554432
def MulB(i j:Int):Prop:=CMul i j\/(Bts i/\Bts j)
instance (i:Int):Decidable (Bts i):=by unfold Bts;infer_instance
instance (i j:Int):Decidable (MulB i j):=by unfold MulB;infer_instance
theorem MulB.ok(h:MulB i j):IntMulOk i j:=by
 rcases h with h|⟨c,a⟩
 .exact h.ok
 have b:∀k:Int,Bts k->Builtin.Int.intBits k<=33554432:=λk hk=>by
  unfold Builtin.Int.intBits;split
  .exact jL _
  exact hk
 have e:=b i c;have d:=b j a;have h:Builtin.Int.intTooBig (Builtin.Int.intBits i+Builtin.Int.intBits j)=uA:=by unfold Builtin.Int.intTooBig bitsLine;exact decide_eq_false (by lia)
 unfold IntMulOk;rw[h];simp
section
variable{X:Cx}{E:XK}
theorem ZJq:OpR X (xR .Mult) (rI MulB λi j=>.int (i*j)):=opI λ_ _ _ _ _ _ _ a q=>mul_int q a.ok
end
section
variable{i j:Int}{G:DH}
end
section
variable{X:Cx}{E:XK}
end
def Fw(f:Str)(v:D):List (Str×D)->List (Str×D)
 |[]=>[(f,v)]
 |(g,x)::r=>if g=f then(g,v)::r else(g,x)::Fw f v r
theorem RepF.mono(x:Ext a b)(h:RepF a fs us):RepF b fs us:=⟨h.1,h.2.mono x⟩
theorem RepF.cons(h:Rep a d v)(r:RepF a fs us):RepF a ((g,d)::fs) ((g,v)::us):=
 ⟨by simp[r.1],v,us.map (·.2),rfl,h,r.2⟩
theorem RepF.uncons(h:RepF a ((g,d)::fs) us):∃v us',us=(g,v)::us'/\Rep a d v/\RepF a fs us':=by
 obtain⟨b,k⟩:=h;cases us with
 |nil=>simp at b
 |cons q us=>
  obtain⟨n,y⟩:=q;simp[zk,List.cons.injEq]at b;obtain⟨rfl,b⟩:=b;obtain⟨v,r,i,j,l⟩:=k;simp[zk,List.cons.injEq]at i;obtain⟨rfl,rfl⟩:=i;exact⟨y,us,rfl,j,b,l⟩
theorem RepF.nil'(h:RepF a [] us):us=[]:=by
 obtain⟨b,_⟩:=h;cases us with
 |nil=>rfl
 |cons q us=>simp at b
theorem lkc{a:Type}{f g:Str}{x:a}{fs:List (Str×a)}:qC f ((g,x)::fs)=if(f==g)=u9 then u7 x else fs.lookup f:=by
 show(match f==g with
  |true=>u7 x
  |false=>qC f fs)=_
 cases f==g<;>rfl
theorem RepF.look{a:Wd}{f:Str}{d:D}:∀{fs:List (Str×D)}{us:List (Str×V)},RepF a fs us->fs.lookup f=u7 d->∃u,us.lookup f=u7 u/\Rep a d u
 |[],us,h,e=>by simp at e
 |(g,x)::fs,us,h,e=>by
  obtain⟨v,j,rfl,i,b⟩:=h.uncons;rw[lkc]at e⊢;by_cases q:(f==g)=u9
  .rw[if_pos q]at e⊢;cases e;exact⟨v,rfl,i⟩
  rw[if_neg q]at e⊢;exact RepF.look b e
theorem RepF.Yb{a:Wd}{f:Str}:∀{fs:List (Str×D)}{us:List (Str×V)},RepF a fs us->fs.lookup f=u8->us.lookup f=u8
 |[],us,h,e=>by rw[h.nil'];rfl
 |(g,x)::fs,us,h,e=>by
  obtain⟨v,d,rfl,i,b⟩:=h.uncons;rw[lkc]at e⊢;by_cases q:(f==g)=u9
  .rw[if_pos q]at e;cases e
  rw[if_neg q]at e⊢;exact RepF.Yb b e
theorem RepF.put(q:Rep a d v):∀{fs:List (Str×D)}{us:List (Str×V)},RepF a fs us->RepF a (Fw f d fs) (El f v us)
 |[],us,h=>by rw[h.nil'];exact .cons q ⟨rfl,rfl⟩
 |(g,x)::fs,us,h=>by
  obtain⟨w,j,rfl,i,b⟩:=h.uncons;unfold Fw El;by_cases e:g=f
  .rw[if_pos e,if_pos e];exact .cons q b
  rw[if_neg e,if_neg e];exact .cons i (.put q b)
theorem RepF.len(h:RepF a fs us):us.length=fs.length:=by have:=congrArg List.length h.1;simpa using this.symm
theorem Ext.wrI(h:a.H p=u7 (.ins C dx us)):Ext a (a.put p ho):=
 ⟨rfl,zY _,λ_ _=>rfl,λq d e=>by
  show upd a.H p ho q=_;rw[Ai (λz=>by subst z;rw[h]at e;cases e)];exact e,λq o u e=>by
  show upd a.H p ho q=_;rw[Ai (λz=>by subst z;rw[h]at e;cases e)];exact e,λ_ t=>t.mono (λq b e=>by show upd a.H p ho q=_;rw[Ai (λz=>by subst z;rw[h]at e;cases e)];exact e) (λq o u e=>by show upd a.H p ho q=_;rw[Ai (λz=>by subst z;rw[h]at e;cases e)];exact e)⟩
theorem Sim.wrI(s:Sim a G)(d:i<a.n)(g:zb a.K vV c=u7 (u7 (.ref C)))(h:a.H (a.m i)=u7 (.ins C dx us))(r:RepF (a.put (a.m i) (.ins C dx us')) fs' us'):
  Sim (a.put (a.m i) (.ins C dx us')) (G.set i (.ins c fs')):=by
 refine⟨by rw[jy];exact s.len,s.inj,λj o e=>?_,λj k=>?_⟩
 .rw[qI]at e;show ORep _ o (upd a.H (a.m i) (.ins C dx us') (a.m j));by_cases b:i=j
  .subst b;rw[if_pos rfl,if_pos (s.len▸d)]at e;cases e;rw[Dy];exact⟨C,dx,us',g,rfl,r⟩
  rw[if_neg b]at e;rw[Ai λz=>b (s.inj _ _ (s.lt e) d z).symm];exact(s.obj j o e).mono (.wrI h)
 show upd a.H (a.m i) (.ins C dx us') (a.m j)≠u8;by_cases b:a.m j=a.m i
 .rw[b,Dy];simp
 rw[Ai b];exact s.tr j k
noncomputable def Hz(c:Str)(d:D)(G:DH):Option (List (Str×D)):=match d with
 |.ref i=>match G[i]? with
  |some (.ins c' fs)=>if c'=c then u7 fs else u8
  |_=>u8
 |_=>u8
theorem Sim.ins(s:Sim a G)(r:Rep a d x)(h:Hz c d G=u7 fs):
  ∃i C b us,d=.ref i/\i<a.n/\x=.ref (a.m i)/\G[i]?=u7 (.ins c fs)/\zb a.K vV c=u7 (u7 (.ref C))/\a.H (a.m i)=u7 (.ins C b us)/\RepF a fs us:=by
 unfold Hz at h;split at h
 .rename_i i;split at h
  .rename_i u q e;split at h
   .rename_i p;subst p;cases h;obtain⟨l,k⟩:=r;obtain⟨C,b,us,n,g,j⟩:=s.obj i _ e;exact⟨i,C,b,us,rfl,l,k,e,n,g,j⟩
   cases h
  cases h
 cases h
def Do(c:Str)(t:DE)(f:Str):DE:=λS G=>(t S G).bind λd G1=>match Hz c d G1 with
 |some fs=>match fs.lookup f with
  |some v=>.ok v G1
  |none=>.bad
 |none=>.bad
def Ei(c:Str)(to tv:DE)(f:Str):DS:=λS G=>(tv S G).toS λd G1=>(to S G1).toS λo G2=>match o with
 |.ref i=>match Hz c o G2 with
  |some fs=>if fs.length<1000 then .nx S (G2.set i (.ins c (Fw f d fs)))else .bad
  |none=>.bad
 |_=>.bad
def Fp(c:Str)(m:Str)(F:List D->DH->R D)(to:DE)(t:DA):DE:=λS G=>(to S G).bind λo G1=>match Hz c o G1 with
 |some fs=>match fs.lookup m with
  |none=>(t S G1).bind λds G2=>F (o::ds) G2
  |some _=>.bad
 |none=>.bad
def Q7(c:Str)(F:List D->DH->R D)(t:DA):DE:=λS G=>(t S G).bind λds G1=>(F (.ref G1.length::ds) (G1++[.ins c []])).bind λv G2=>match v with
 |.non=>.ok (.ref G1.length) G2
 |_=>.bad
section
variable{X:Cx}{E:XK}{c f m:Str}{C:xy}{e o:xA}{es:List xA}{t ta tv:DE}{tr:DA}{pos apos pos':Pos}
theorem ZOG(w:zb X.K vV c=u7 (u7 (.ref C)))(F:Cls X.K C)(y:NoAttr X.K C f)(P:QE X E e t)(A:xM e f X.env (eval e X.env)=eval e X.env:=by rfl):QE X E (.Attribute e f pos) (Do c t f):=
 (ZQd P A).mono λY H Q h=>by
  obtain⟨a,S,G,hk,rfl,s,r,h⟩:=h;refine⟨a,S,G,hk,rfl,s,r,(Ea h).imp ?_⟩;rintro v _ ⟨b,d,T,rfl,x,n,q,-,g⟩;split at g
  .rename_i fs N;obtain⟨i,p,B,M,rfl,_,rfl,_,l,z,O⟩:=n.ins q N;have j:p=C:=by
    rw[x.k,hk,w]at l;cases l
    rfl
   subst j;split at g
   .rename_i U J;obtain⟨u,L,I⟩:=O.look J;exact⟨b.m i,p,B,M,u,rfl,z,F,y,L,g b u (.refl b) n I⟩
   exact g.elim
  exact g.elim
theorem ZPI(J:zb X.K vV c=u7 (u7 (.ref C)))(T:Cls X.K C)(N:NoAttr X.K C f)(ha:QE X E o ta)(L:QE X E e tv)(Q:swapsWith e (u7 (.Attribute o f pos')) pos.line X.env=pure uA:=by rfl):
  QS X E (.Assign [.Attribute o f pos'] e pos) (Ei c ta tv f):=
 (ZMG ha L Q).mono λW σ H h=>by
  obtain⟨a,S,G,hk,rfl,s,r,h⟩:=h;refine⟨a,S,G,hk,rfl,s,r,(Gg h).imp ?_⟩;rintro v _ ⟨b,d,I,rfl,x,U,q,-,P⟩;refine⟨b,S,I,x.k.trans hk,rfl,U,r.mono x,(Gg P).imp ?_⟩;rintro v2 _ ⟨l,d2,G2,rfl,y,z,M,-,g⟩;split at g
  .rename_i i;split at g
   .rename_i fs hi;split at g
    .rename_i Z;obtain⟨i',w,A,B,O,Y,rfl,eg,u,p,F⟩:=z.ins M hi;cases O;have n:w=C:=by
      rw[y.k,x.k,hk,J]at u;cases u
      rfl
     subst n;have j:Ext l (l.put (l.m i) (.ins w A (El f v B))):=.wrI p;exact⟨l.m i,w,A,B,rfl,p,T,N,F.len▸Z,g _ σ j (z.wrI Y u p (.put ((q.mono y).mono j) (F.mono j))) (((r.mono x).mono y).mono j)⟩
    exact g.elim
   exact g.elim
  exact g.elim
theorem ZJT{sp F:List D->DH->R D}{p:St}{H:Hp}{Q:VK}(y:zb X.K vV c=u7 (u7 (.ref C)))(h:lE X.K E0 (Fp c m F ta tr) p H Q):Zh C m (lF X.K F) [] E0 (lE X.K E0 ta) (lA X.K E0 tr) p H Q:=by
 obtain⟨a,S,G,hk,rfl,s,r,h⟩:=h;refine⟨a,S,G,hk,rfl,s,r,(Ea h).imp ?_⟩;rintro v _ ⟨b,d,w,rfl,x,n,q,-,g⟩;split at g
 .rename_i fs Y;obtain⟨i,P,L,U,rfl,_,rfl,_,l,I,Z⟩:=n.ins q Y;have j:P=C:=by
   rw[x.k,hk,y]at l;cases l
   rfl
  subst j;split at g
  .rename_i O;refine⟨b.m i,L,U,rfl,I,Z.Yb O,b,S,w,x.k.trans hk,rfl,n,r.mono x,(M7 g).imp ?_⟩;rintro N _ ⟨T,M,A,rfl,u,J,B,-,z⟩;exact⟨T,A,.ref i::M,(u.k.trans x.k).trans hk,rfl,J,⟨.ref (b.m i),N,by rw[qV],q.mono u,B⟩,z⟩
  exact g.elim
 exact g.elim
theorem ZPt{CX:CXT}{k:Nat}{g:xy}{b:xB}{ps:List Str}{F:List D->DH->R D}{pl:Sem Bool}(d:zb X.K vV c=u7 (u7 (.ref C)))(r:Cls X.K C)(p:Meth X.K C m g)(i:FnOk X.prog X.w X.K X.mg X.base CX k g b ps (lF X.K F))(q:Room k X.A)(l:Binds X.K b ps [])
  (j:Passes CX X E0) (ho:QE X E0 o ta) (n:QA X E0 (e::es) tr) (s:notStar e=u9:=by rfl) (a:es.all notStar=u9:=by rfl)
  (u:eval (.Call (.Attribute o m apos) (e::es) [] pos) X.env=(do
   let ov<-eval o X.env
   standAt apos.atName
   let(f,first)<-holding [ov] (getMethod ov m pl)
   callWith pos f first (xN pos (vz (e::es) X.env)) (xO pos (vJ [] X.env))):=by rfl):QE X E0 (.Call (.Attribute o m apos) (e::es) [] pos) (Fp c m F ta tr):=
 (ZQF ho r p i q l .nil j n (Ed e es X.env s) (H8 pos X.env es a) u).mono λv H Q h=>ZJT (sp:=F) d h
theorem ZOd(z:zb X.K vV c=u7 (u7 (.ref C)))(L:Cls X.K C)(n:Meth X.K C m g)(O:FnOk X.prog X.w X.K X.mg X.base CX k g fd ps (lF X.K F))(M:Room k X.A)(I:Binds X.K fd ps [])
  (Z:Passes CX X E0) (ho:QE X E0 o ta)
  (Y:eval (.Call (.Attribute o m apos) [] [] pos) X.env=(do
   let ov<-eval o X.env
   standAt apos.atName
   let(f,first)<-holding [ov] (getMethod ov m pl)
   callWith pos f first (xN pos (vz [] X.env)) (xO pos (vJ [] X.env))):=by rfl):QE X E0 (.Call (.Attribute o m apos) [] [] pos) (Fp c m F ta Az):=
 (ZOk ho L n O M I .nil Z Y).mono λσ H Q h=>by
  obtain⟨a,S,G,hk,rfl,s,r,h⟩:=h;refine⟨a,S,G,hk,rfl,s,r,(Ea h).imp ?_⟩;rintro v _ ⟨b,d,y,rfl,x,u,q,-,j⟩;split at j
  .rename_i fs T;obtain⟨i,N,J,P,rfl,_,rfl,_,p,B,U⟩:=u.ins q T;have l:N=C:=by
    rw[x.k,hk,z]at p;cases p
    rfl
   subst l;split at j
   .rename_i n;exact⟨b.m i,J,P,rfl,B,U.Yb n,b,y,[.ref i],x.k.trans hk,rfl,u,⟨.ref (b.m i),[],rfl,q,rfl⟩,j⟩
   exact j.elim
  exact j.elim
theorem ZKW(hk:a.K=X.K)(A:zb X.K vV c=u7 (u7 (.ref C)))(s:Sim a G)(q:Reps a ds vs)
  (h:out E0 a ((F (.ref G.length::ds) (G++[.ins c []])).bind λv J=>match v with
   |.non=>.ok (.ref G.length) J
   |_=>.bad) Q):∀x g,a.H x=u8->a.H g=u8->g≠x->lF X.K F (.ref x::(vs++[])) (upd (upd a.H g (.own x)) x (.ins C g [])) (λv N=>v=.non/\Q (.ref x) N) E:=λp g hp k r=>by
 have u:Ext a (a.put g (.own p)):=.put k;have j:(a.put g (.own p)).H p=u8:=by show upd a.H g (.own p) p=u8;rw[Ai λz=>r z.symm];exact hp
 have y:Ext (a.put g (.own p)) ((a.put g (.own p)).push p (.ins C g [])):=.push j;have B:Sim ((a.put g (.own p)).push p (.ins C g [])) (G++[.ins c []]):=(s.put k).push j ⟨C,g,[],by show zb a.K vV c=_;rw[hk];exact A,rfl,rfl,rfl⟩;have i:((a.put g (.own p)).push p (.ins C g [])).m a.n=p:=by show(if a.n=a.n then p else a.m a.n)=p;rw[if_pos rfl]
 have w:Rep ((a.put g (.own p)).push p (.ins C g [])) (.ref G.length) (.ref p):=by rw[s.len];exact⟨qZ _,by rw[i]⟩
 refine⟨(a.put g (.own p)).push p (.ins C g []),_,.ref G.length::ds,hk,rfl,B,⟨.ref p,vs,by rw[qV],w,(q.mono u).mono y⟩,(Ea (out.mono (u.trans y) h)).imp ?_⟩;rintro v _ ⟨b,d,O,rfl,I,M,L,-,l⟩;split at l
 .have:=L;exact⟨this,l b _ (.refl b) M (w.mono I)⟩
 exact l.elim
theorem ZQN{CX:CXT}{k:Nat}{g:xy}{j:xB}{ps:List Str}{F:List D->DH->R D}{p:Pos}(n:zb X.K vV c=u7 (u7 (.ref C)))(M:Mk X.K C g)(v:FnOk X.prog X.w X.K X.mg X.base CX k g j ps (lF X.K F))(J:Room (k+1) X.A)(u:Gl X c)(I:X.mg c=u7 (.ref C))(z:Binds X.K j ps [])
  (y:Passes CX X E0) (B:QA X E0 (e::es) tr) (i:(c==("__debug__":Str))=uA:=by decide) (N:notStar e=u9:=by rfl) (d:es.all notStar=u9:=by rfl):QE X E0 (.Call (.Name c p) (e::es) [] pos) (Q7 c F tr):=
 (ZLi M v J u I z .nil y B i (Ed e es X.env N) (H8 pos X.env es d)).mono λP H Q h=>by obtain⟨a,S,G,hk,rfl,s,r,h⟩:=h;refine⟨a,S,G,hk,rfl,s,r,(M7 h).imp ?_⟩;rintro T _ ⟨b,U,O,rfl,x,L,q,-,l⟩;exact ZKW (x.k.trans hk) n L q l
end
def Jk(d:D)(ds:List D)(G:DH):R D:=match ds with
 | [.int k]=>match Fy d G with
  |some xs=>match J8 xs with
   |some ns=>if k∈ns/\ns.length<=1000000 then .ok (.int (ns.idxOf k)) G else .bad
   |none=>.bad
  |none=>.bad
 |_=>.bad
theorem ZBj:∀{ns:List Int}{vs:List V},Reps a (ns.map D.int) vs->vs=ns.map V.int
 |[],vs,h=>h
 |n::ns,vs,h=>by
  obtain⟨v,r,e,c,b⟩:=h;cases(c);rw[e,ZBj b]
  rfl
theorem Q0:∀{ns:List Int}{us:List xH},Vals (ns.map V.int) us->us.length=ns.length/\∀(j:Nat)(u:xH),us[j]?=u7 u->∃t,∃h:j<ns.length,u=.int ns[j] t
 |[],us,h=>by cases h;exact⟨rfl,λj u e=>by simp at e⟩
 | n::ns,us,h=>by
  cases h with
  | cons r d=>
   obtain⟨b,f⟩:=Q0 d;obtain⟨t,rfl⟩:=r;refine⟨by simp[b],λj u e=>?_⟩;cases j with
   |zero=>simp at e;exact⟨t,by simp,by simpa using e.symm⟩
   |succ j=>
    obtain⟨g,c,a⟩:=f j u (by simpa using e);exact⟨g,by simpa using c,by simpa using a⟩
section
variable{X:Cx}{E:XK}
theorem ZOq:MtM X "list.index" (lRm X.K E Jk):=by
 intro vP s σ H x xs v us Q I rx B h;obtain⟨a,G,d,ds,hk,rfl,sm,rd,L,q⟩:=h;unfold Jk at q;split at q
 .rename_i k;split at q
  .rename_i ys J;split at q
   .rename_i f T;split at q
    .rename_i S;obtain⟨j,hlen⟩:=S;obtain⟨p,vs,rfl,U,Z⟩:=Rb sm rd J;rw[T6 T]at Z;rw[ZBj Z,hk]at U;cases rx;obtain⟨v1,rfl,M⟩:=reps1 L;cases(M);obtain⟨u,rfl,ru⟩:=B.one;obtain⟨t,rfl⟩:=ru;obtain⟨b,l,⟨o,n,O,W,hdi,hd⟩,hz⟩:=I.list U;obtain⟨w,c⟩:=Q0 l;have z:=jE j;have P:f.idxOf k<b.toArray.size:=by simpa[w]using z
     have A:o={cls:=.type "list",dict:=o.dict,data:=.seq b.toArray n,slots:=o.slots}:=by
      obtain⟨c1,c2,c3,c4⟩:=o;simp only at W hd;subst W;subst hd
      rfl
     rw[A]at O
     refine call_meets PySem.F.slot_list_index ⟨_,O,rfl⟩ PySem.F.entry_list_index (PySem.F.args_list_index_2 _ _) (SeqAt.list_indexAt p b.toArray n o.dict o.slots (.int k t) (λy=>match y with | .int i _=>i==k|_=>uA) (f.idxOf k) P (by lia) ?_ ?_) ⟨O,λy J=>?_,⟨.int (f.idxOf k),a.H,I.tok _,⟨_,rfl⟩,q a _ (.refl a) sm rfl⟩⟩
     .have C:b[f.idxOf k]?=u7 b.toArray[f.idxOf k]:=by simp[zJ (by simpa[w]using z:f.idxOf k<b.length)]
      obtain⟨Y,h3,g⟩:=c _ _ C;rw[g];simp
     .intro m N r;have C:b[m]?=u7 b.toArray[m]:=by simp[zJ (by simpa using N)]
      obtain⟨Y,h3,g⟩:=c _ _ C;rw[g];have:=List.not_of_lt_findIdx r;simpa using this
     .obtain⟨m,N,e⟩:=qj (by simpa using J);obtain⟨Y,h3,g⟩:=c m y (by rw[zJ N,e]);rw[g];exact .int_int _ _ _ _
    exact q.elim
   exact q.elim
  exact q.elim
 exact q.elim
noncomputable def tLR(ta:TA):TE:=λσ H Q=>ta σ H λvs H1=>∃j:Int,vs=[.int j]/\ -(2^62)<=j/\j<=1000000/\∀l,H1 l=u8->Q (.ref l) (upd H1 l (.lst ((zZ j.toNat).map λ(i:Nat)=>V.int (i:Int))))
theorem ZQz(h:ItemsOf (λi v=>∃t,v=.int ((0:Int)+i*1) t) acc n):Vals ((zZ n).map λ(i:Nat)=>V.int (i:Int)) acc.toList:=by
 obtain⟨b,g⟩:=h;refine Xb (by simp[b]) λi v u a c=>?_
 have d:i<n:=by have:=(zC.mp a).1;simpa using this
 rw[zw,zH d]at a;have f:v=V.int (i:Int):=by simpa using a.symm
 obtain⟨t,e⟩:=g i u (by rw[<-jZ];exact c);subst f;refine⟨t,?_⟩;rw[e]
 congr 1
 lia
theorem ZPg{e:xA}{ta:TA}{p r pos a:Pos}(B:X.calm=u9)(z:Gl X "list")(J:X.mg "list"=u8)(l:Gl X "range")(m:X.mg "range"=u8)(N:PA X [e] ta)(A:vz [e] X.env=[(uA,eval e X.env)]:=by rfl)
  (d:vz [.Call (.Name "range" r) [e] [] a] X.env=[(uA,eval (.Call (.Name "range" r) [e] [] a) X.env)]:=by rfl):PE X (.Call (.Name "list" p) [.Call (.Name "range" r) [e] [] a] [] pos) (tLR ta):=by
 intro g s L H Q I h;refine Call_ (Hl I z J ZCK (zg ?_ d rfl));rw[d];refine Calls.spliced_cons (Call_ (Hl I l m uz (zg (thn (N a g s L H _ I h) λW k zz=>?_) A rfl)));obtain⟨T,P,y,M,x⟩:=zz;obtain⟨j,rfl,O,U,q⟩:=x;obtain⟨u,rfl,C⟩:=M.one;obtain⟨t,rfl⟩:=C;refine call_range_1 (Calls.spliced_nil ?_)
 have n:Builtin.Range.rangeSize 0 j 1=(j.toNat:Int):=by rw[rangeSize_one];split <;> lia
 refine call_list_range (I.ok.hd B) (.new ..) (small_one (by decide) (by decide) O (by lia)) n (by lia) λK S f F hk v c=>?_
 have w:=y.kept (t':=k.toks+1+1) (h':=k.heap.push {cls:=.type "range",data:=.fields #[.int 0 k.toks,.int j t,.int 1 (k.toks+1)]}) λb o e=>zQ _ e
 refine⟨.ref _,_,w.laid (o:=.lst ((zZ j.toNat).map λ(i:Nat)=>V.int (i:Int))) hk (zY _) ⟨?_,f.toList,F,ZQz c,by simpa using v⟩,rfl,q _ (w.hok.fresh (zY _))⟩;rw[zM,List.length_range,vY];lia
def dLR(t:DA):DE:=λS G=>(t S G).bind λds G1=>match ds with
 |[.int j]=>if inR j/\j<=1000000 then .ok (.ref G1.length) (G1++[.lst (Bh 0 j.toNat)])else .bad
 |_=>.bad
theorem ZOS{e:xA}{ta:DA}{p m pos c:Pos}(w:X.calm=u9)(t:Gl X "list")(z:X.mg "list"=u8)(f:Gl X "range")(g:X.mg "range"=u8)(C:QA X E [e] ta)(u:vz [e] X.env=[(uA,eval e X.env)]:=by rfl)
  (i:vz [.Call (.Name "range" m) [e] [] c] X.env=[(uA,eval (.Call (.Name "range" m) [e] [] c) X.env)]:=by rfl):QE X E (.Call (.Name "list" p) [.Call (.Name "range" m) [e] [] c] [] pos) (dLR ta):=
 (ZPg w t z f g C u i).mono λK H Q h=>by
  obtain⟨a,S,G,hk,rfl,s,r,h⟩:=h;refine⟨a,S,G,hk,rfl,s,r,(M7 h).imp ?_⟩;rintro J _ ⟨b,I,F,rfl,x,y,q,-,d⟩;split at d
  .rename_i j;split at d
   .rename_i n;obtain⟨v,rfl,A⟩:=reps1 q;cases(A);refine⟨j,rfl,n.1.1,n.2,λl B=>Jq y ?_ d l B⟩;unfold Bh;generalize zZ j.toNat=L
    induction L with
    |nil=>exact rfl
    |cons k L o=>exact⟨_,_,rfl,(by show V.int (k:Int)=V.int (0+(k:Int));rw[Int.zero_add]),o⟩
   exact d.elim
  exact d.elim
def Itd(lo:Int)(n:Nat):It:=⟨λi _=>i<n,λi H x H'=>H'=H/\x=.int (lo-i),λi _=>n<=i⟩
theorem ZRm{P:xD}{w:xI}{K:za}{tg:xA}(it:xy)(g:Int)(n:Nat):Turn P w K tg (Itd g n) [it] it (λi h=>IsRangeIter h it (g+(i:Nat)*(-1)) ((n:Int)-(i:Nat)) (-1)) where
 mem:=by simp
 obj:=λi h a b c=>by
  have e:b=it:=by simpa using c
  subst e;exact⟨_,a,λv z=>by have C:=z;cases C⟩
 keep:=λi h B a k=>k it (by simp) _ a
 item:=by
  intro X l hw u r i f s M H E I j a q;subst l hw u;obtain⟨y,m,J,x,p,A⟩:=j it (by simp);refine(Walks.range (I.ok.hd r) it g (-1) n).item i s _ _ q a λv B O F d N=>?_
  obtain⟨t,rfl⟩:=F;refine⟨_,rfl,Nr d rfl rfl (by decide) ⟨.int (g-i),H,I.turned (λb o c e=>N b o (by simpa using c) e) y m x p A,⟨t,?_⟩,⟨rfl,rfl⟩,d,λb c=>(j b c).1⟩⟩
  congr 1
  lia
 done:=by intro X l hw u r i f s M H E I j a q;subst l hw u;obtain⟨y,m,J,x,p,A⟩:=j it (by simp);exact wpAny_pyNext_range_end (I.ok.hd r) a (by have:n<=i:=q;lia) λB L=>⟨rfl,I.turned (λb o c e=>L b o c e) y m x p A⟩
 self:=λ_ _ _ _ _ a h=>wpAny_pyIter_rangeiter a h
theorem rangeSize_down(a b:Int):Builtin.Range.rangeSize a b (-1)=if b<a then a-b else 0:=by
 unfold Builtin.Range.rangeSize;rw[if_neg (by decide)];have e:(- (-1:Int))=1:=by decide
 rw[e,Int.ediv_one]
 split <;> lia
theorem small_down(f: -(2^62)<=a)(d:a<2^62)(e: -(2^62)<=b)(c:b<2^62):Builtin.Range.small a b (-1)=u9:=by
 unfold Builtin.Range.small;rw[rangeSize_down];simp[Builtin.Range.rangeFitsLong,z5,jA,decide_eq_true_eq,beq_iff_eq,show¬((-1:Int)>0) by decide,if_false]
 split <;> lia
noncomputable def iDn(ta:TA):TI:=λσ H R=>ta σ H λvs H1=>∃i j:Int,vs=[.int i,.int j,.int (-1)]/\(-(2^62)<=i/\i<2^62/\ -(2^62)<=j/\j<2^62)/\R (Itd i (i-j).toNat) H1
theorem ZOQ{tg a b c:xA}{ta:TA}{p pos:Pos}(M:Gl X "range")(S:X.mg "range"=u8)(U:PA X [a,b,c] ta)(O:vz [a,b,c] X.env=(uA,eval a X.env)::vz [b,c] X.env:=by rfl)(x:(xN pos (vz [b,c] X.env)).any (·.1)=uA:=by rfl):
  PI X tg (.Call (.Name "range" p) [a,b,c] [] pos) (iDn ta):=by
 intro k s B H R I h;refine Call_ (Hl I M S uz (zg (thn (U pos k s B H _ I h) λY m zz=>?_) O x));obtain⟨W,A,K,T,w⟩:=zz;obtain⟨i,j,e,⟨w,C,Q,J⟩,q⟩:=w;subst e;cases T with
 | cons r u=>
  cases u with
  | cons P u=>
   cases u with
   | cons y u=>
    cases u;obtain⟨t,rfl⟩:=r;obtain⟨v,rfl⟩:=P;obtain⟨g,rfl⟩:=y;refine call_range_3 (by decide) ?_ (.inl (PyProof.noPylong_small (by lia)));refine wpAny_pyIter_range (.new ..) (small_down w C Q J) ?_;have z:Inv X k B A {m with heap:=m.heap.push {cls:=.type "range",data:=.fields #[.int i t,.int j v,.int (-1) g]},toks:=m.toks}:=K.kept λb o e=>zQ _ e
    refine⟨(m.heap.push {cls:=.type "range",data:=.fields #[.int i t,.int j v,.int (-1) g]}).objs.size,[(m.heap.push {cls:=.type "range",data:=.fields #[.int i t,.int j v,.int (-1) g]}).objs.size],_,_,A,rfl,
     z.kept λb o e=>zQ _ e,ZRm _ i (i-j).toNat,?_,λb N=>?_,q⟩
    .have L:i+((0:Nat):Int)*(-1)=i:=by simp
     have F:(((i-j).toNat:Nat):Int)-((0:Nat):Int)=Builtin.Range.rangeSize i j (-1):=by rw[rangeSize_down];split <;> lia
     rw[L,F];exact z0 _ rfl
    have e:b=(m.heap.push {cls:=.type "range",data:=.fields #[.int i t,.int j v,.int (-1) g]}).objs.size:=by simpa using N
    subst e;exact z.Hr (zY _) (z.hok.fresh (zY _))
def Jo(lo:Int)(n:Nat):List D:=(zZ n).map λ(k:Nat)=>D.int (lo-(k:Int))
noncomputable def rng3(ds:List D)(G:DH):R ItD:=match ds with
 |[.int i,.int j,.int k]=>if inR i/\inR j/\k= -1 then .ok (.pure (Jo i (i-j).toNat)) G else .bad
 |_=>.bad
theorem ZQM(e:Int)(n:Nat):RepI a (.pure (Jo e n)) (Itd e n):=by
 refine⟨(zZ n).map λ(k:Nat)=>V.int (e-(k:Int)),?_,λb x i=>⟨λv c=>?_,λf=>?_⟩⟩
 .unfold Jo;generalize zZ n=l
  induction l with
  |nil=>exact rfl
  |cons k l g=>exact⟨_,_,rfl,rfl,g⟩
 .rw[zw]at c;by_cases d:i<n
  .rw[zH d]at c;exact⟨d,λw h y=>⟨y.2.trans (by simpa using c),y.1⟩⟩
  rw[z7 (by simpa using d)]at c;cases c
 show n<=i;simpa using f
theorem ZNX{tg e f c:xA}{ta:DA}{p pos:Pos}(z:Gl X "range")(F:X.mg "range"=u8)(I:QA X E [e,f,c] ta)(A:vz [e,f,c] X.env=(uA,eval e X.env)::vz [f,c] X.env:=by rfl)(l:(xN pos (vz [f,c] X.env)).any (·.1)=uA:=by rfl):
  QI X E tg (.Call (.Name "range" p) [e,f,c] [] pos) (Bg rng3 ta):=
 (ZOQ z F I A l).mono λT H Q h=>by
  obtain⟨a,S,G,hk,rfl,s,r,h⟩:=h;refine⟨a,S,G,hk,rfl,s,r,(Rk h).imp ?_⟩;rintro P _ ⟨b,N,J,rfl,x,B,q,-,d⟩;unfold rng3 at d;split at d
  .rename_i i j k;split at d
   .rename_i g;obtain⟨m,g,rfl⟩:=g;obtain⟨v,r,y,n,O,K,u,t,M,L,o,C,w⟩:=q;cases(n);cases(t);cases(C);cases(w);subst o;subst u;exact⟨i,j,y,⟨m.1,m.2,g.1,g.2⟩,d b _ (.refl b) B (ZQM i (i-j).toNat)⟩
   exact d.elim
  exact d.elim
end
theorem ZJ0(a b:xH):checkTypeCall "enumerate" ⟨[a],[("start",b)]⟩=pure ():=by kernel_rfl
theorem ZNg(a b:xH):xT "enumerate.__new__" ⟨[.type "enumerate",a],[("start",b)]⟩=pure ():=by kernel_rfl
theorem ZRw(o a b:xH):argsOk "object.__init__" ⟨[o,a],[("start",b)]⟩:=by
 unfold argsOk;rw[signature?_of (n:=['_','_','t','i','n','i','_','_']) (by kernel_rfl) wh]
 kernel_rfl
section
variable{prog:xD}{w:xI}{A:x0}{E:xH->xF->Prop}{s:xF}
theorem ZPV(f:typeLookup (.type T) "__init__"=pure (u7 (.builtin "object.__init__")))(h:Bind.madeBy (.type T)=pure (u7 newId))(e:(u7 newId != u7 "object.__new__")=u9):
  Meets (Builtin.«object.__init__» ⟨[self,a],kw⟩) (λ_ R s=>s.TypeIs self T/\R (.ok (.ret .none)) s):=by
 refine .of_wp λb w A R s d=>?_
 obtain⟨g,c⟩:=d
 repeat (any_goals (first|assumption|wp_step))
 exact⟨_,rfl,c⟩
theorem ZNj(d:TypeCalled T newId initId)
  (C:checkTypeCall T ⟨args,kw⟩=pure ()) (n:xT newId ⟨.type T::args,kw⟩=pure ())
  (i:entryFor table newId=u7 Bn) (f:entryFor table initId=u7 Bi) (g:Meets (Bn ⟨.type T::args,kw⟩) S) (h:S A.in1 (wants Q₁ E) s)
  (l:∀obj a,Q₁ obj a->a.TypeIs obj T/\argsOk initId ⟨obj::args,kw⟩/\∃p,Meets (Bi ⟨obj::args,kw⟩) p/\p A.in1 (wants (λr j=>r=.none/\Q obj j) E) a):
  vx (vW prog w) A (call (.type T) args kw) Q E s:=by
 obtain⟨c,K,u⟩:=d.mro;have t:=d.made;have v:=d.sub;refine wpAny_call (codeAny_of_tree ?_);refine vH ⟨Code.quiet_builtin _ (by decide +kernel),codeAny_builtin PySem.F.entry_type_call ?_⟩;rw[Around.under_plain (weight_type_call_type T args kw) (units_type_call_type T args kw)];have I:=d.notType;have H:=d.canCreate
 repeat (any_goals (first|assumption|wp_step))
 refine xU (codeAny_call_builtin d.plain i (wpAny_of_eq n (g prog w A.in1 _ s h))) λr a q=>?_
 cases r with
 |error e=>exact q
 | ok fl=>
  cases fl with
  | ret obj=>
   obtain⟨x,hok,p,y,o⟩:=l _ _ q;have B:=d.init.lookup;have z:=d.init.bind obj
   repeat (any_goals (first|assumption|wp_step))
   refine xU (codeAny_call_builtin d.init.plain f (d.init.check _ _ _ _ _ _ _ _ x hok (y prog w A.in1 _ a o))) λm j b=>?_
   cases m with
   |error e=>exact b
   | ok k=>
    cases k with
    |ret r=>
     obtain⟨rfl,J⟩:=b
     repeat (any_goals (first|assumption|wp_step))
    |_=>exact b.elim
  |_=>exact q.elim
theorem ZLX{sr:Src}{xs:Array xH}{n:Int}{t:Tok}{Q:xH->xF->Prop}(hv:sr.val s.heap xs)
  (h:∀h' tk g,Gv n g->En h' (s.heap.objs.size+1) s.heap.objs.size .none n g .none->sr.it h' s.heap.objs.size 0->(∀b o,s.heap.get? b=u7 o->h'.get? b=u7 o)->Q (.ref (s.heap.objs.size+1)) {s with heap:=h',toks:=tk}):
  vx (vW prog w) A (call (.type "enumerate") [.ref sr.adr] [("start",.int n t)]) Q E s:=by
 have g:Meets (Builtin.«enumerate.__new__» ⟨[.type "enumerate",.ref sr.adr],[("start",.int n t)]⟩) (λ_ R s=>sr.val s.heap xs/\∀g tk,Gv n g->
   R (.ok (.ret (.ref (s.heap.push {cls:=.type sr.itn,data:=.fields #[.ref sr.adr,.int 0 0]}).objs.size)))
    {s with heap:=(s.heap.push {cls:=.type sr.itn,data:=.fields #[.ref sr.adr,.int 0 0]}).push {cls:=.type "enumerate",data:=.fields #[.none,.bool uA,.ref s.heap.objs.size,vK n,g,.none]},toks:=tk}):=
  .of_wp λprog w A R s h=>by
   obtain⟨hp,g,d,tk,os⟩:=s;obtain⟨hl,h⟩:=h;have hsub:=sub_enumerate;have hL:sr.val (Shared.heap ⟨hp,g,d,tk,os⟩) xs:=hl
   wp_walk
   refine wpAny_stack_any λst=>vH ?_
   cases hf:u6 n
   .split
    .rename_i c _ _ _ _ _
     cases(c==Value.type "enumerate")<;>(wp_walk using Src.iter hL;exact⟨_,rfl,h _ _ (.inr ⟨t,rfl⟩)⟩)
    wp_walk using Src.iter hL
    exact⟨_,rfl,h _ _ (.inr ⟨t,rfl⟩)⟩
   split
   .rename_i c _ _ _ _ _
    cases(c==Value.type "enumerate")<;>(wp_walk using Src.iter hL;exact⟨_,rfl,h _ _ (.inl rfl)⟩)
   .wp_walk using Src.iter hL
    exact⟨_,rfl,h _ _ (.inl rfl)⟩
 refine ZNj (Q₁:=λobj s₁=>s₁.TypeIs obj "enumerate"/\Q obj s₁) we (ZJ0 _ _) (ZNg _ _) wf PySem.F.entry_object_init g ⟨hv,λg tk hg=>?_⟩ λobj s₁ hq=>⟨hq.1,ZRw obj _ _,_,ZPV PySem.F.called_enumerate.init.lookup PySem.F.called_enumerate.made (by decide),hq.1,rfl,hq.2⟩
 have hz:(s.heap.push {cls:=.type sr.itn,data:=.fields #[.ref sr.adr,.int 0 0]}).objs.size=s.heap.objs.size+1:=qk ..;rw[hz];have he:En ((s.heap.push {cls:=.type sr.itn,data:=.fields #[.ref sr.adr,.int 0 0]}).push {cls:=.type "enumerate",data:=.fields #[.none,.bool uA,.ref s.heap.objs.size,vK n,g,.none]}) (s.heap.objs.size+1) s.heap.objs.size .none n g .none:=by
  have:=z0 (s.heap.push {cls:=.type sr.itn,data:=.fields #[.ref sr.adr,.int 0 0]}) (o:={cls:=.type "enumerate",data:=.fields #[.none,.bool uA,.ref s.heap.objs.size,vK n,g,.none]}) rfl;rw[hz]at this;exact this
 exact⟨⟨_,he,rfl⟩,h _ tk g hg he ⟨_,zQ _ (z0 _ rfl),rfl,rfl⟩ λb o x=>zQ _ (zQ _ x)⟩
theorem ZOB{M:Model}{A:x0}{E:xH->xF->Prop}{s:xF}{env:Env}{pos:Pos}{T:String}{e:xA}{rest:List xA}{c:List Keyword}{Q:xH->xF->Prop}
  (i:(xO pos (vJ c env)).all (·.1.isSome)=u9)
  (h:vx M A (spliced (xN pos (vz (e::rest) env))) (λvs b=>vx M A (evalAll ((xO pos (vJ c env)).map (·.2)))
   (λks f=>vx M A (call (.type T) vs (((xO pos (vJ c env)).filterMap (·.1)).zip ks)) Q E f) E b) E s)
  (d:(xN pos (vz (e::rest) env)).any (·.1)=uA) (j:(xO pos (vJ c env)).any (·.1.isNone)=uA) (l:vz (e::rest) env=(uA,eval e env)::vz rest env):
  vx M A (callWith pos (.type T) [] (xN pos (vz (e::rest) env)) (xO pos (vJ c env))) Q E s:=by
 unfold callWith;refine vk (vD (vE (PyProof.Rows.evalArgs_kw2 (Q:=λa b=>vx M A (call (.type T) ([]++a.pos) a.kw) Q E b) i h l) (λa b g=>vk (wpAny_standAt ?_)) λ_ _ x=>x));simp only[d,j,Bool.or_false];exact vk (vH (vk (vE g (λr f k=>vk (vD (wpAny_point (vH k)))) λ_ _ x=>x)))
end
section
variable{X:Cx}{E:XK}
def ZRP(K:za)(ta tk:TA):TI:=λσ H R=>ta σ H λvs H1=>tk σ H1 λws H2=>∃sr xs n,vs=[.ref (Src.adr sr)]/\ws=[.int n]/\sr.sq K H2 xs/\R (Ite K sr n) H2
theorem ZNP{elts:List xA}{x1}{tp:Pos}{a b:xA}{ta tk:TA}{p pos i:Pos}(k:Gl X "enumerate")(S:X.mg "enumerate"=u8)(Z:PA X [a] ta)(hk:PK X [⟨u7 "start",b,i⟩] tk)(m:vz [a] X.env=[(uA,eval a X.env)]:=by rfl):
  PI X (.Tuple elts x1 tp) (.Call (.Name "enumerate" p) [a] [⟨u7 "start",b,i⟩] pos) (ZRP X.K ta tk):=by
 intro c s v H R I h;refine vv (Hl I k S wg (ZOB rfl (thn (Z pos c s v H _ I h) λus O ⟨vs,x,J,Y,y⟩=>thn (hk pos c O v x _ J y) λus2 d zz=>?_) (by rw[m];rfl) rfl m));obtain⟨ws,T,j,B,C⟩:=zz;obtain⟨P,xs,n,e,F,L,q⟩:=C;subst e;subst F;cases Y with
 |cons r M=>
  cases M;cases r;obtain⟨u,rfl,Q⟩:=B.one;obtain⟨t,rfl⟩:=Q;obtain⟨U,rv,z,hz⟩:=Src.sq.val j L;refine ZLX z λh' tk g k o W i=>?_
  refine Z4 o ?_;refine⟨d.heap.objs.size+1,[d.heap.objs.size+1,d.heap.objs.size],_,_,T,rfl,j.kept i,ZCT P n _ _ (Nat.succ_ne_self _),⟨g,.none,by simpa using o,by simpa using k,W⟩,λb N=>?_,q⟩;have l:b=d.heap.objs.size+1\/b=d.heap.objs.size:=by simpa using N
  have f:d.heap.objs.size<=b:=by rcases l with rfl|rfl<;>lia
  exact j.Hr f (j.hok.fresh f)
theorem ZKX(hk:a.K=X.K)(r:∀b:Wd,Ext a b->∀h,Sim b h->∀ys,Bd d h=u7 ys->∃us,sr.sq b.K b.H us/\Reps b ys us)(n:Nat):RepI a (.fn n (Dh n0 d)) (Ite X.K sr n0):=by
 intro b x h l i;have z:=x.k.trans hk;constructor
 .intro e f;unfold Dh at f;split at f
  .cases f
  rename_i ys m;obtain⟨us,g,j⟩:=r b x h l ys m;rw[z]at g;cases c:ys[i]? with
  |none=>rw[c]at f;cases f
  |some y=>
   rw[c]at f;have o:D.tup [.int (n0+i),y]=e:=by simpa using f
   subst o;obtain⟨u,v,B⟩:=j.get c;refine⟨⟨us,u,g,v⟩,?_⟩;rintro w F ⟨p,C,rfl,hp,rfl,q⟩;refine⟨b.put p (.tup [.int (n0+i),C]),rfl,.put hp,l.put hp,p,_,rfl,.of Dy,?_⟩;have t:=q us g;rw[v]at t;cases t;exact⟨_,_,rfl,rfl,.cons (B.mono (.put hp)) rfl⟩
 intro f;unfold Dh at f;split at f
 .cases f
 .rename_i ys m;obtain⟨us,g,j⟩:=r b x h l ys m;rw[z]at g;cases c:ys[i]? with
  |none=>exact⟨us,g,by rw[<-j.length];exact jQ.mp c⟩
  |some y=>rw[c]at f;cases f
def Q8(ta:DA)(tb:DE):DI:=λS G=>(ta S G).bind λds G1=>(tb S G1).bind λk G2=>match ds,k with
 |[d],.int n=>match Bd d G2 with
  |some xs=>.ok (.fn xs.length (Dh n d)) G2
  |none=>.bad
 |_,_=>.bad
theorem ZJm(a:QE X E b tb):PK X [⟨nm,b,kp⟩] (Rq (lE X.K E tb) Pk):=ZK3 a ZIA
theorem ZM1{E:XK}(h:outI E a (r.bind f) Q):
  out E a r (λv H=>∃(b:Wd)(d:D)(G:DH),b.H=H/\Ext a b/\Sim b G/\Rep b d v/\outI E b (f d G) Q):=by
 cases r with
 |ok d G=>exact λb v x s q=>⟨b,d,G,rfl,x,s,q,outI.mono x h⟩
 |_=>exact h
theorem ZOW{x1}(z:Gl X "enumerate")(L:X.mg "enumerate"=u8)(N:QA X E [e] ta)(C:QE X E b tb)(B:vz [e] X.env=[(uA,eval e X.env)]:=by rfl):
  QI X E (.Tuple elts x1 tp) (.Call (.Name "enumerate" p) [e] [⟨u7 "start",b,kp⟩] pos) (Q8 ta tb):=(ZNP z L N (ZJm C) B).mono λY H Q h=>by
 obtain⟨a,S,G,hk,rfl,s,r,h⟩:=h;refine⟨a,S,G,hk,rfl,s,r,(Rk h).imp ?_⟩;rintro U _ ⟨b,T,j,rfl,x,F,q,-,o⟩;refine⟨b,S,j,x.k.trans hk,rfl,F,r.mono x,(ZM1 o).imp ?_⟩;rintro v _ ⟨c,k,P,rfl,y,g,m,f⟩;split at f
 .rename_i d n;split at f
  .rename_i W O;obtain⟨w,r,u,l,I⟩:=q;cases(I);subst u;cases(m);obtain⟨J,rfl,⟨M,t⟩,K⟩:=ZAc g (l.mono y) O;have i:=(y.k.trans x.k).trans hk;exact⟨J,M,n,rfl,rfl,by rw[<-i];exact t,f c _ (.refl c) g (ZKX i K _)⟩
  exact f.elim
 exact f.elim
end
end _D
namespace _D
open PySem PySem.Spec _L
def I9(c f:Str)(d:D)(G:DH):R D:=match Hz c d G with
 |some fs=>match fs.lookup f with
  |some v=>.ok v G
  |none=>.bad
 |none=>.bad
def N5(c f:Str)(o d:D)(S:DSt)(G:DH):SR:=match o with
 |.ref i=>match Hz c o G with
  |some fs=>if fs.length<1000 then .nx S (G.set i (.ins c (Fw f d fs)))else .bad
  |none=>.bad
 |_=>.bad
def Wk(c m:Str)(F:List D->DH->R D)(t:DA)(S:DSt)(o:D)(G:DH):R D:=match Hz c o G with
 |some fs=>match fs.lookup m with
  |none=>(t S G).bind λds G2=>F (o::ds) G2
  |some _=>.bad
 |none=>.bad
def Y4(F:List D->DH->R D)(c:Str)(ds:List D)(G1:DH):R D:=(F (.ref G1.length::ds) (G1++[.ins c []])).bind λv G2=>match v with
 |.non=>.ok (.ref G1.length) G2
 |_=>.bad
section
variable{S:DSt}{G:DH}{c f m:Str}{t to tv:DE}{ta:DA}{F:List D->DH->R D}{i:Nat}{fs:List (Str×D)}{v d:D}
@[simp]theorem ev_fld:Do c t f S G=(t S G).bind λd a=>I9 c f d a:=id rfl
@[simp]theorem Le:Ei c to tv f S G=(tv S G).toS λd b=>(to S b).toS λo a=>N5 c f o d S a:=id rfl
@[simp]theorem ZST:Fp c m F to ta S G=(to S G).bind λo a=>Wk c m F ta S o a:=id rfl
@[simp]theorem ZSg:Q7 c F ta S G=(ta S G).bind λa b=>Y4 F c a b:=id rfl
theorem ZA9(h:G[i]?=u7 (.ins c fs)):Hz c (.ref i) G=u7 fs:=by unfold Hz;simp[h,if_true]
theorem Mu(h:G[i]?=u7 (.ins c fs))(a:fs.lookup f=u7 v):I9 c f (.ref i) G=.ok v G:=by unfold I9;rw[ZA9 h];simp[a]
theorem ZJU(h:G[i]?=u7 (.ins c fs))(a:fs.length<1000):N5 c f (.ref i) d S G=.nx S (G.set i (.ins c (Fw f d fs))):=by unfold N5;simp[ZA9 h,a,if_true]
theorem ZIi(h:G[i]?=u7 (.ins c fs))(e:fs.lookup m=u8):Wk c m F ta S (.ref i) G=(ta S G).bind λb a=>F (.ref i::b) a:=by unfold Wk;rw[ZA9 h];simp[e]
@[simp]theorem ev_LR:dLR ta S G=(ta S G).bind λb a=>match b with
 |[.int j]=>if inR j/\j<=1000000 then .ok (.ref a.length) (a++[.lst (Bh 0 j.toNat)])else .bad
 |_=>.bad:=id rfl
@[simp]theorem ZQq{i j:Int}(a:inR i)(b:inR j):rng3 [.int i,.int j,.int (-1)] G=.ok (.pure (Jo i (i-j).toNat)) G:=by simp[rng3,a,b]
theorem ZNy:Jo lo 0=[]:=rfl
theorem ZO1:Jo lo (n+1)=.int lo::Jo (lo-1) n:=by
 unfold Jo;rw[qT,zk,jz]
 congr 1
 .simp
 refine qB λk _=>?_
 simp only[Function.comp]
 congr 1
 lia
theorem ZFN{d:D}{ns:List Int}{k:Int}(h:Fy d G=u7 (ns.map D.int))(b:k∈ns)(a:ns.length<=1000000):Jk d [.int k] G=.ok (.int (ns.idxOf k)) G:=by unfold Jk;simp[h,Y5,b,a,and_self,if_true]
theorem ZKt{d:D}{G a:DH}(e:a.length=G.length)(b:bel G.length d=u9):tidy G (.ok d a)=.ok d a:=by
 unfold tidy;simp only[b,if_true];split
 .rename_i h;rw[List.take_of_length_le (by lia)]at h;rw[h]
 rfl
theorem ZMe{d:D}{G a:DH}(h:a.take G.length≠G):tidy G (.ok d a)=.ok d a:=by unfold tidy;simp[h,if_false]
end
end _D
namespace _D
open PySem PySem.Spec _L
open PyProof.Rows hiding St
noncomputable def Lr(x:Str)(n:Int):Str:=if n<1 then Str.empty else if(n==1||x.length==0)=u9 then x else⟨(zV n.toNat x.cps).foldl (·++·) #[]⟩
theorem Yh:∀(n:Nat)(b:Array Nat),((zV n a).foldl (·++·) b).toList=b.toList++(zV n a.toList).flatten
 |0,b=>by simp
 |n+1,b=>by rw[qX,jM,Yh n (b++a),qX,qG];simp
theorem ZRV{a:Array Nat}(n:Nat):((zV n a).foldl (·++·) #[]).size=n*a.size:=by rw[<-qA,Yh];simp
theorem ZNH:(Lr x n).cps.toList=(zV n.toNat x.cps.toList).flatten:=by
 unfold Lr;split
 .rename_i h;have e:n.toNat=0:=by lia
  rw[e];rfl
 rename_i h;split
 .rename_i a;rw[jA,beq_iff_eq,beq_iff_eq]at a;rcases a with rfl|a
  .simp
  .have e:x.cps.toList=[]:=by have:x.cps.size=0:=a;rw[<-qA]at this;exact jK this
   rw[e];simp
 .rw[Yh];simp
def Br:D->D->DH->R D
 |.int i,.int j,G=>if MulB i j then .ok (.int (i*j)) G else .bad
 |.str x,.int n,G=>if -1000<=n/\n<=1000/\x.length<=1000 then .ok (.str (Lr x n)) G else .bad
 |_,_,_=>.bad
section
variable{X:Cx}{E:XK}
theorem ZKv:OpR X (xR .Mult) (λx y H Q=>∃i n,x=.str i/\y=.int n/\(-1000<=n/\n<=1000/\i.length<=1000)/\Q (.str (Lr i n)) H):=by
 intro d s r H x y v u Q I k o h;obtain⟨i,n,rfl,rfl,⟨w,g,e⟩,q⟩:=h;obtain⟨t,rfl⟩:=k;obtain⟨C,rfl⟩:=o;have b:∀m:Nat,m<=1000->i.length*m<=1000000:=λm l=>z6 (xw e l) (by decide)
 refine P.mul_str ?_ (λa c=>?_) (λa c=>?_) ?_
 .rw[decide_eq_false (by lia),decide_eq_false (by lia)];rfl
 .intro p;have:(i.length:Int)*n<=2^63-1:=by have A:(i.length:Int)*n<=1000*1000:=Int.mul_le_mul (by lia) g (by lia) (by lia);lia
  have B:=(Int.le_ediv_iff_mul_le (by lia)).mpr this;lia
 .have:=b n.toNat (by lia);unfold Builtin.Str.tooLong;rw[vY];exact decide_eq_false (by lia)
 unfold Lr at q;split
 .rename_i a;rw[if_pos a]at q;exact⟨by decide,.str Str.empty,H,I.tok _,⟨_,rfl⟩,q⟩
 .rename_i a;rw[if_neg a]at q;split
  .rename_i c;rw[if_pos c]at q;exact⟨.str i,H,I,⟨t,rfl⟩,q⟩
  .rename_i c;rw[if_neg c]at q;refine⟨?_,.str _,H,I.tok _,⟨_,rfl⟩,q⟩
   show((zV n.toNat i.cps).foldl (·++·) #[]).size<=sizeLine
   have f:i.cps.size<=1000:=e;have z:=xw (show n.toNat<=1000 by lia) f;rw[ZRV,vY];lia
theorem ZPq:OpR X (xR .Mult) (lR2 X.K E Br):=Ex (ZJq.or ZKv) λa G d e x y Q hk s rd re q=>by
 cases d<;>cases e<;>first
  |exact q.elim
  | (
    rename_i i j;unfold Br at q;dsimp only at q;split at q
    .first
     |exact .inl ⟨_,_,rd,re,by assumption,q a _ (.refl a) s rfl⟩
     |exact .inr ⟨_,_,rd,re,by assumption,q a _ (.refl a) s rfl⟩
    exact q.elim)
end
section
variable{i j:Int}{G:DH}
theorem Gh(b: -(2^64)<i)(a:i<2^64):Br (.int i) (.int j) G=.ok (.int (i*j)) G:=if_pos (.inl (.inl ⟨b,a⟩))
theorem Hh(b: -(2^64)<j)(a:j<2^64):Br (.int i) (.int j) G=.ok (.int (i*j)) G:=if_pos (.inl (.inr ⟨b,a⟩))
@[simp]theorem ZSo(h:n<18446744073709551616):Br (.int (no_index (OfNat.ofNat n))) (.int j) G=.ok (.int (OfNat.ofNat n*j)) G:=
 Gh (by have:(0:Int)<=(OfNat.ofNat n:Int):=Int.natCast_nonneg n;lia) (by have:(OfNat.ofNat n:Int)<18446744073709551616:=Int.ofNat_lt.mpr h;lia)
@[simp]theorem ZR7(h:n<18446744073709551616):Br (.int i) (.int (no_index (OfNat.ofNat n))) G=.ok (.int (i*OfNat.ofNat n)) G:=
 Hh (by have:(0:Int)<=(OfNat.ofNat n:Int):=Int.natCast_nonneg n;lia) (by have:(OfNat.ofNat n:Int)<18446744073709551616:=Int.ofNat_lt.mpr h;lia)
theorem ZMP(h: -1000<=n/\n<=1000/\x.length<=1000):Br (.str x) (.int n) G=.ok (.str (Lr x n)) G:=if_pos h
end
section
variable{X:Cx}{E:XK}{e st:xA}{te:TE}{ts:TO}{p2 pos:Pos}
end
section
variable{S:DSt}{G:DH}
end
section
variable{X:Cx}{E:XK}
theorem ZDK:∀(l:List Str),Reps a (l.map D.str) (l.map V.str)
 |[]=>.nil
 |x::l=>.cons (rfl) (ZDK l)
def TupG(K:za)(mg:Str->Option xH)(n:Str)(ss:List Str):Prop:=∃(p:xy)(o:Obj)(its:Array xH)(k:Nat),mg n=u7 (.ref p)/\K.lookup p=u7 o/\o.cls=.type "tuple"/\o.data=.seq its k/\its.size<=sizeLine/\Vals (ss.map V.str) its.toList
theorem ZRs{K:za}{h:Heap}{b:Str->Option xH}{n:Str}{p:xy}{od:Option xy}{c:Array (Option xH)}{k:Nat}{its:List xH}{ss:List Str}(e:K.In h)(G:h.Ns vV b)(a:zb K vV n=u7 (u7 (.ref p)))
  (l:K.lookup p=u7 ⟨.type "tuple",od,.seq its.toArray k,c⟩) (d:its.length<=1000) (v:Vals (ss.map V.str) its):TupG K b n ss:=
 ⟨p,_,its.toArray,k,uj e G a,l,rfl,rfl,by rw[zK];exact z6 d (by decide),by simpa using v⟩
theorem ZHw(e:Gl X x)(h:TupG X.K X.mg x ss)(l:(x==("__debug__":Str))=uA:=by decide):QE X E (.Name x pos) (dC (.tup (ss.map D.str))):=by obtain⟨p,o,b,k,c,f,i,j,m,d⟩:=h;exact ZBE (v:=.ref p) e c rfl (λa g=>⟨p,ss.map V.str,rfl,.inr ⟨o,b,k,g▸f,i,j,m,d⟩,ZDK ss⟩) l
end
section
variable{S:DSt}{G:DH}
end
section
variable{X:Cx}{vP:List (xy×Obj)}{σ:St}{H:Hp}{s:xF}{N:List Str}{scope:xE}{caps:List Nat}{x qual:Str}{f:xy}{cd:xH}{A:x0}
end
section
variable{X:Cx}{vP:List (xy×Obj)}{σ:St}{s:xF}{scope:xE}{a:Wd}
end
def ltK(ks:List Int)(i j:Nat):Bool:=decide (ks.getD i 0<ks.getD j 0)
section
variable{prog:xD}{w:xI}{A:x0}{E:xH->xF->Prop}{s:xF}
end
section
variable{X:Cx}{vP:List (xy×Obj)}{σ:St}{H:Hp}{s:xF}{h':Heap}{m:Str->Option xH}
end
section
variable{X:Cx}{vP:List (xy×Obj)}{σ:St}{N:List Str}{scope:xE}{caps:List Nat}{x:Str}{f:xy}{A:x0}{a:Wd}{S:DSt}{body:xA}{te:DE}{params:Arguments}{pm ctv:xH}{c':xy}{ob oc:Obj}{vs0:Array xH}{t0:Tok}{E:XK}
 {Dd kS:xy} {e1:Nat} {m:Str->Option xH} {h₀:Heap} {Q:VK}
end
end _D
namespace _D
open PySem PySem.Spec _L
open PyProof.Rows hiding St
open PySem.W (KatKeys KatFin katRev KatBack)
section
variable{prog:xD}{w:xI}{A:x0}{E:xH->xF->Prop}{s:xF}{h₀:Heap}{L a kS:xy}{m:Str->Option xH}{P:PySem.Fin->xF->Prop}
end
end _D
namespace _D
open PySem PySem.Spec _L
open PyProof.Rows hiding St
section
variable{X:Cx}{vP:List (xy×Obj)}{σ:St}{N:List Str}{scope:xE}{caps:List Nat}{x:Str}{f:xy}{A:x0}{a:Wd}{S:DSt}{body:xA}{te:DE}{params:Arguments}{pm ctv:xH}{c':xy}{ob oc:Obj}{vs0:Array xH}{t0:Tok}
 {Dd kS:xy} {e1:Nat} {m:Str->Option xH} {h₀:Heap} {Q:VK}
end
section
variable{X:Cx}{vP:List (xy×Obj)}{σ:St}{N:List Str}{scope:xE}{caps:List Nat}{x:Str}{f:xy}{A:x0}{a:Wd}{S:DSt}{body:xA}{te:DE}{params:Arguments}{pm ctv:xH}{c':xy}{ob oc:Obj}{vs0:Array xH}{t0:Tok}{Q:VK}
end
section
variable{X:Cx}{N:List Str}{scope:xE}{caps:List Nat}{x:Str}{body:xA}{te:DE}{params:Arguments}{e:xA}{tn:DA}{p p' pos pos' lp kp kp' cp:Pos}{C m:Str}{cj:Nat}
end
end _D
namespace _D
open PySem PySem.W _L
theorem ZGw:∀{l:List Obj}{n:Nat},(M9 l n).lookup a=u7 o->n<=a/\l[a-n]?=u7 o/\∀x y z,o≠⟨x,y,.freed,z⟩
 |[],n,h=>by cases h
 | p::r,n,h=>by
  have next:(M9 r (n+1)).lookup a=u7 o->n<=a/\(p::r)[a-n]?=u7 o/\∀x y z,o≠⟨x,y,.freed,z⟩:=λh=>by obtain⟨b,c,f⟩:=ZGw h;obtain⟨k,rfl⟩:=Nat.exists_eq_add_of_le b;rw[Nat.add_sub_cancel_left]at c;refine⟨z6 (jk n) b,?_,f⟩;rw[show n+1+k-n=k+1 by rw[Nat.add_assoc,Nat.add_sub_cancel_left,Nat.add_comm],j7];exact c
  unfold M9 at h;split at h
  .exact next h
  .exact next h
  rename_i g i;rw[jv]at h;split at h
  .rename_i e;have d:a=n:=by simpa using e
   subst d;cases h;refine⟨zY _,by simp,λx y z q=>?_⟩;subst q;exact g rfl
  exact next h
theorem ZMK(h:Heap):(Qv h).In h:=λa o e=>by
 obtain⟨_,c,d⟩:=ZGw e;have b:h.objs[a]?=u7 o:=by simpa using c
 unfold Heap.get?;rw[b];split
 .rename_i q;cases q;exact absurd rfl (d _ _ _)
 rfl
def J6(p:xD)(N:Nat)(w:xI):Heap:=match openEnds vj p w N with
 |some s=>s.heap
 |none=>default
def Stays(p:xD)(N:Nat)(w:xI)(h:Heap):Prop:=∀b o,(J6 p N w).get? b=u7 o->h.get? b=u7 o
theorem Stays.in(x:Stays p N w h):(Qv (J6 p N w)).In h:=λa o e=>x a o (ZMK _ a o e)
noncomputable def We(p:xD)(N:Nat):Hook:=
 ⟨Heap,λs=>s.heap,J6 p N,Stays p N,λw s e b o q=>by rw[show s.heap=J6 p N w from e];exact q,λw h h' x k b o q=>k b o (x b o q)⟩
section
variable{p q:xD}{loose:List Str}{Xt:xF->Bool}{N:Nat}{β:Type}{see:Heap->β}{val:β}
theorem ZQW(E:∀w,(openEnds vj p w N).map (λs=>(openSeen q loose (vZ p.main.body) Xt u9 s,see s.heap))=u7 (openGood q loose,val)):
  LeftO p q loose Xt (We p N).obs (We p N).val N:=λw=>by
 obtain⟨s,b,a⟩:=zE.mp (E w);show Option.map _ _=u7 (openGood q loose,J6 p N w);unfold J6;rw[b];show u7 (openSeen q loose (vZ p.main.body) Xt u9 s,s.heap)=_;rw[(Prod.mk.inj a).1]
theorem ZM3(E:∀w,(openEnds vj p w N).map (λs=>(openSeen q loose (vZ p.main.body) Xt u9 s,see s.heap))=u7 (openGood q loose,val))(w:xI):see (J6 p N w)=val:=by obtain⟨s,b,a⟩:=zE.mp (E w);unfold J6;rw[b];exact(Prod.mk.inj a).2
end
theorem holds_top{l:OpenLaw}{q:xD}{loose:List Str}{N:Nat}{b:Type}{see:Heap->b}{val:b}{d:DefRec}(well:l.wellSaid=u9)
  (E:∀w,(openEnds vj l.prog w N).map (λs=>(openSeen q loose (vZ l.prog.main.body) (XtOf l q) u9 s,see s.heap))=u7 (openGood q loose,val))
  (hdef:defOf q l.row.name=u7 (d,[])) (hp:l.row.prog.theDef l.row.name=u7 (d.params,d.body,d.scope)) (hk:kwWritten? d.params.kwonlyargs d.params.kw_defaults=u7 []) (a:(!l.row.writes||l.row.records.isEmpty)=u9)
  (ok:(chainsOk q&&opensWell l.row.prog&&(frees l.row.toRowW&&l.row.within.isEmpty))=u9) (c:l.row.prog.bare) (hw:l.row.toRowW.promised)
  (call:WalkO q loose (XL q []) (Stays l.prog N) l.row.toRowW d [] λf vs=>qh f vs):l.Holds:=
 holds_law well λsaid=>holds_open (ZQW E) (We l.prog N).of (We l.prog N).keeps
  (λs e=>xl_of s (qO.mp e).1) XL.keeps hdef hp hk (λs e=>recFacts_of (qO.mp e).2) a said ok c hw call
theorem Ji(h:gOk K n=u9):nsIn K vV n=u7 (u7 (.ref (Aa K n))):=by
 unfold gOk at h;unfold Aa;split at h
 .rename_i e;rw[e]
 cases h
theorem ZCg(h:mOk K C m=u9):findIn K (.ref C) m=u7 (u7 (.ref (Dk K C m)))/\isFn K (.ref (Dk K C m))=u9:=by
 unfold mOk at h;unfold Dk;split at h
 .rename_i e;rw[e];exact⟨rfl,h⟩
 cases h
theorem ZBL(h:noF K C m=u9):findIn K (.ref C) m=u7 u8:=by
 unfold noF at h;split at h
 .assumption
 cases h
theorem ZL1(h:zOk K n=u9):nsIn K vV n=u7 u8:=by
 unfold zOk at h;split at h
 .assumption
 cases h
theorem ZEk(h:Tr K C=u9):findIn K (.ref C) "__setattr__"=u7 (u7 (.builtin "object.__setattr__")):=by
 unfold Tr at h;split at h
 .rename_i e;rw[e,beq_iff_eq.mp h]
 cases h
noncomputable def Lb(K:vM)(n:Str):Tok:=match nsIn K vV n with
 |some (u7 (.int _ t))=>t
 |some (u7 (.str _ t))=>t
 |_=>0
theorem ZLC(h:iOk K n v=u9):nsIn K vV n=u7 (u7 (.int v (Lb K n))):=by
 unfold iOk at h;unfold Lb;split at h
 .rename_i e;rw[e,of_decide_eq_true h]
 cases h
theorem ZQp(h:sOk K n v=u9):nsIn K vV n=u7 (u7 (.str v (Lb K n))):=by
 unfold sOk at h;unfold Lb;split at h
 .rename_i e;rw[e,of_decide_eq_true h]
 cases h
abbrev FnSaid(K:vM)(x q:Str)(st:xG)(f:xy):Prop:=
 K.lookup f=u7 ⟨(Gb K f).cls,(Gb K f).dict,.func (fnOf x q (Dz st) (Cj st) (Ay st) .none (Am K f).kwdefaults (Am K f).doc (Am K f).pyModule (Am K f).annotations (Am K f).code (Am K f).closureTuple),(Gb K f).slots⟩/\
  codeIn K (Am K f).code q=u9/\keepIn K (.ref f)=u9
theorem ZE0(h:Te K x q f=u9)(t:M4 K f=Lk st):FnSaid K x q st f:=by
 unfold Te at h;split at h
 .rename_i j l a i e;have k:Gb K f=⟨j,l,.func a,i⟩:=by unfold Gb;rw[e]
  have m:Am K f=a:=by unfold Am;rw[k]
  unfold M4 Lk at t;rw[m]at t;obtain⟨E,b⟩:=Prod.mk.inj t;obtain⟨b,C⟩:=Prod.mk.inj b;simp[z5,decide_eq_true_eq,beq_iff_eq,List.isEmpty_iff]at h;obtain⟨⟨⟨s,n⟩,⟨⟨B,y⟩,o⟩,g⟩,u,v⟩:=h;unfold FnSaid;rw[m,k,e];refine⟨?_,u,v⟩;have d:a.defaults=.none:=by
   revert g
   generalize a.defaults=A;intro g
   cases A<;>first|rfl|cases g
  have w:a.body=.stmts (Cj st):=by
   revert b
   generalize a.body=r;intro b
   cases r<;>first|(cases b;rfl)|(cases b)
  have c:a=fnOf x q (Dz st) (Cj st) (Ay st) .none a.kwdefaults a.doc a.pyModule a.annotations a.code a.closureTuple:=by show FuncData.mk a.name a.qualname a.params a.body a.scope a.globals a.closure a.defaults a.kwdefaults a.doc a.pyModule a.annotations a.code a.closureTuple a.builtins=_;rw[s,n,E,w,C,B,o,d,y]
  exact congrArg (λz=>u7 (Obj.mk j l (.func z) i)) c
 cases h
abbrev DfSaid(K:vM)(d:xH)(v:Int):Prop:=∃T o t n,d=.ref T/\K.lookup T=u7 o/\o.data=.seq #[.int v t] n
theorem ZJ1(h:dfl K d v=u9):DfSaid K d v:=by
 unfold dfl at h;split at h
 .rename_i T;split at h
  .rename_i o e;split at h
   .rename_i a n b;split at h
    .rename_i i t c;cases of_decide_eq_true h;refine⟨T,o,t,n,rfl,e,?_⟩;rw[b]
     congr 1
     rw[<-Array.toList_inj,c]
    cases h
   cases h
  cases h
 cases h
abbrev FnSaidD(K:vM)(x q:Str)(st:xG)(f:xy)(v:Int):Prop:=
 K.lookup f=u7 ⟨(Gb K f).cls,(Gb K f).dict,.func (fnOf x q (Dz st) (Cj st) (Ay st) (Am K f).defaults (Am K f).kwdefaults (Am K f).doc (Am K f).pyModule (Am K f).annotations (Am K f).code (Am K f).closureTuple),(Gb K f).slots⟩/\
  codeIn K (Am K f).code q=u9/\keepIn K (.ref f)=u9/\DfSaid K (Am K f).defaults v
theorem ZQZ(h:ZAv K x q f v=u9)(t:M4 K f=Lk st):FnSaidD K x q st f v:=by
 unfold ZAv at h;split at h
 .rename_i g j a d e;have i:Gb K f=⟨g,j,.func a,d⟩:=by unfold Gb;rw[e]
  have k:Am K f=a:=by unfold Am;rw[i]
  unfold M4 Lk at t;rw[k]at t;obtain⟨C,b⟩:=Prod.mk.inj t;obtain⟨b,B⟩:=Prod.mk.inj b;simp[z5,decide_eq_true_eq,beq_iff_eq,List.isEmpty_iff]at h;obtain⟨⟨⟨o,l⟩,⟨⟨A,w⟩,m⟩,y⟩,r,s⟩:=h;unfold FnSaidD;rw[k,i,e];refine⟨?_,r,s,ZJ1 y⟩;have u:a.body=.stmts (Cj st):=by
   revert b
   generalize a.body=n;intro b
   cases n<;>first|(cases b;rfl)|(cases b)
  have c:a=fnOf x q (Dz st) (Cj st) (Ay st) a.defaults a.kwdefaults a.doc a.pyModule a.annotations a.code a.closureTuple:=by show FuncData.mk a.name a.qualname a.params a.body a.scope a.globals a.closure a.defaults a.kwdefaults a.doc a.pyModule a.annotations a.code a.closureTuple a.builtins=_;rw[o,l,C,u,B,A,m,w]
  exact congrArg (λz=>u7 (Obj.mk g j (.func z) d)) c
 cases h
theorem Ti:∀{l:List xH}{ss:List Str},strsOf l=u7 ss->Vals (ss.map V.str) l
 |[],ss,h=>by cases h;exact .nil
 |v::r,ss,h=>by
  unfold strsOf at h;split at h
  .rename_i q;cases q
  .rename_i s t c q;cases q;obtain⟨a,b,rfl⟩:=zE.mp h;exact .cons ⟨_,rfl⟩ (Ti b)
  cases h
abbrev GtSaid(K:vM)(n:Str)(vs:List Str):Prop:=∃(p:xy)(od:Option xy)(sl:Array (Option xH))(k:Nat)(its:List xH),nsIn K vV n=u7 (u7 (.ref p))/\K.lookup p=u7 ⟨.type "tuple",od,.seq its.toArray k,sl⟩/\its.length<=1000/\Vals (vs.map V.str) its
theorem ZI9(h:ZAN K n vs=u9):GtSaid K n vs:=by
 unfold ZAN at h;split at h
 .rename_i p e;split at h
  .rename_i t c a k b g;simp only[z5,beq_iff_eq,decide_eq_true_eq]at h;obtain⟨⟨rfl,d⟩,f⟩:=h;exact⟨p,c,b,k,a.toList,e,by rw[g],qD f,Ti d⟩
  cases h
 cases h
theorem ZPu(X:K.In h)(G:h.Ns vV mg)(s:GtSaid K n vs):TupG K mg n vs:=by obtain⟨p,g,f,k,b,a,c,d,e⟩:=s;exact ZRs X G a c d e
abbrev GdSaid(K:vM)(n:Str)(kvs:List (Str×Str)):Prop:=∃(p:xy)(od:Option xy)(sl:Array (Option xH))(k:Nat)(es:Array DictEntry),nsIn K vV n=u7 (u7 (.ref p))/\K.lookup p=u7 ⟨.type "dict",od,.dict es k,sl⟩/\(p==sysModules)=uA/\Vals ((kvs.map (·.1)).map V.str) (es.toList.map (·.key))/\Vals ((kvs.map (·.2)).map V.str) (es.toList.map (·.val))
theorem ZKh(h:ZAZ K n kvs=u9):GdSaid K n kvs:=by
 unfold ZAZ at h;split at h
 .rename_i p e;split at h
  .rename_i t b f k a i;simp only[z5,beq_iff_eq,decide_eq_true_eq,Bool.not_eq_true']at h;obtain⟨⟨⟨rfl,c⟩,d⟩,g⟩:=h;exact⟨p,b,a,k,f,e,by rw[i],c,Ti d,Ti g⟩
  cases h
 cases h
def Ask.Said(K:vM):Ask->Prop
 |.fn n st=>nsIn K vV n=u7 (u7 (.ref (Aa K n)))/\FnSaid K n n st (Aa K n)
 |.mt c m q st=>findIn K (.ref (Aa K c)) m=u7 (u7 (.ref (Dk K (Aa K c) m)))/\isFn K (.ref (Dk K (Aa K c) m))=u9/\FnSaid K m q st (Dk K (Aa K c) m)
 | .cl c=>nsIn K vV c=u7 (u7 (.ref (Aa K c)))/\plainGet K (Aa K c) Str.empty=u9/\hasDictIn K (Aa K c)=u9/\plainOver K (Aa K c)=u9/\
   findIn K (.ref (Aa K c)) "__setattr__"=u7 (u7 (.builtin "object.__setattr__"))/\makesIn K (Aa K c)=u9/\keepIn K (.ref (Aa K c))=u9
 |.no c x=>findIn K (.ref (Aa K c)) x=u7 u8
 |.z n=>nsIn K vV n=u7 u8
 |.gi n v=>nsIn K vV n=u7 (u7 (.int v (Lb K n)))
 |.gs n v=>nsIn K vV n=u7 (u7 (.str v (Lb K n)))
 |.gt n vs=>GtSaid K n vs
 |.gd n kvs=>GdSaid K n kvs
 |.ck φ=>φ K=u9
 |.fd n st v=>nsIn K vV n=u7 (u7 (.ref (Aa K n)))/\FnSaidD K n n st (Aa K n) v
theorem Ask.said:∀{a:Ask},a.chk K=u9->a.txt K=a.want->a.Said K
 |.fn n e,h,t=>by obtain⟨b,d⟩:=qO.mp h;exact⟨Ji b,ZE0 d (Option.some.inj t)⟩
 |.mt c m q e,h,t=>by obtain⟨b,d⟩:=qO.mp h;exact⟨(ZCg b).1,(ZCg b).2,ZE0 d (Option.some.inj t)⟩
 |.cl c,h,_=>by simp[Ask.chk,z5]at h;obtain⟨⟨b,⟨d,j⟩,k⟩,⟨l,g⟩,i⟩:=h;exact⟨Ji b,d,j,k,ZEk l,g,i⟩
 |.no c x,h,_=>ZBL h
 |.z n,h,_=>ZL1 h
 |.gi n v,h,_=>ZLC h
 |.gs n v,h,_=>ZQp h
 |.gt n o,h,_=>ZI9 h
 |.gd n f,h,_=>ZKh h
 |.ck _,h,_=>h
 |.fd n e v,h,t=>by obtain⟨b,d⟩:=qO.mp h;exact⟨Ji b,ZQZ d (Option.some.inj t)⟩
def AllSaid(K:vM):List Ask->Prop
 |[]=>True
 |a::r=>a.Said K/\AllSaid K r
theorem ZFh:∀{l:List Ask},(l.all (Ask.chk K),l.map (Ask.txt K))=(u9,l.map Ask.want)->AllSaid K l
 |[],_=>trivial
 |a::r,h=>by obtain⟨b,c⟩:=Prod.mk.inj h;rw[qE]at b;obtain⟨e,f⟩:=qO.mp b;rw[zk,zk]at c;obtain⟨g,d⟩:=List.cons.inj c;exact⟨Ask.said e g,ZFh (by rw[f,d])⟩
theorem ZNh(F:Fun K x q st f fd)
  (h:∀(kV b g:xH)(e:Option xy)(c d:xH)(u:xH),bindArgs (fnOf x q (Dz st) (Cj st) (Ay st) .none kV b g e c d) ⟨[u],[]⟩=pure [(a,u)]):BindsTo s fd ⟨[v],[]⟩ [(a,v)]:=by
 obtain⟨l,k,kV,b,g,e,c,d,j,rfl,m,i⟩:=F.ex;exact .of_eq (h kV b g e c d v)
theorem ZGa:∀{n:Nat}{s s':SharedT}{t:Thread},V7 p w n₀ ann n s t=u7 s'->topRun vj p w n₀ ann n s.abs t=u7 s'.abs
 |0,_,_,_,h=>by cases h
 | n+1,s,s',t,h=>by
  unfold V7 at h;unfold topRun;rw[<-PySem.W.Fast.te6613529449190102663,<-PySem.W.Fast.te10156331382660048174,<-PySem.W.Fast.te11892475500146522536,<-PySem.W.Fast.te14364793385576792824]at h;cases b:through t with
  |true=>
   rw[b]at h;cases h
   rfl
  | false=>
   rw[b]at h;dsimp only at h⊢;cases a:stepOk n₀ ann t with
   |false=>rw[a]at h;cases h
   |true=>
    rw[a]at h;dsimp only at h⊢;split at h
    .rename_i c d e;rw[stepT_spec e];exact ZGa h
    cases h
theorem boot_abs:∀w a,(ZGF w a).abs=⟨vN w.params,Array.mk [],boot_drawn,boot_toks,a⟩:=λw a=>by kernel_rfl
theorem ZKJ:∀w:xI,((vN w.params).isNs vV&&(Array.mk []:Array GenState).size==0)=u9:=λw=>by kernel_rfl
theorem ZNO{p q:xD}{loose:List Str}{Xt:xF->Bool}{i:Type}{see:Heap->i}{val:i}(e:opening p=plainProg p.main.scope.names)(f:∀s,fenceModules? p s=u7 s)
  (R:∀w a,(R0 p w a).map (λs=>(Qh p w s.abs,PySem.W.Fast.tw4187177175401517315 q loose (PySem.W.Fast.tw5923862056798008813 p.main.body) Xt u9 s.abs,see s.abs.heap))=u7 (u9,openGood q loose,val)):
  ∀w,(openEnds vj p w 100000).map (λs=>(openSeen q loose (vZ p.main.body) Xt u9 s,see s.heap))=u7 (openGood q loose,val):=λw=>by
 obtain⟨⟨h,o,d,k,a⟩,n,j⟩:=zE.mp (boot_open (N:=100000) e rfl f w);obtain⟨rfl,rfl,rfl,rfl⟩:h=vN w.params/\o=Array.mk []/\d=boot_drawn/\k=boot_toks:=by simpa using j
 obtain⟨s,g,l⟩:=zE.mp (R w a);obtain⟨c,b⟩:=Prod.mk.inj l;obtain⟨b,m⟩:=Prod.mk.inj b;unfold R0 at g;have r:=ZGa g;rw[boot_abs,<-PySem.W.Fast.te8920871248978507458]at r;rw[<-PySem.W.Fast.te4187177175401517315,<-PySem.W.Fast.te5923862056798008813]at b;unfold Qh at c;rw[<-PySem.W.Fast.te5923862056798008813]at c;have t:topFrom vj p w 100000 ⟨vN w.params,.mk [],boot_drawn,boot_toks,a⟩=u7 s.abs:=by
  unfold topFrom;dsimp only;rw[ZKJ,r]
  show(match staticsOk (vZ p.main.body) (vN w.params) s.abs.heap&&namesBound p s.abs.heap&&gensDone s.abs&&laidKept (vN w.params) s.abs.heap with |true=>_|false=>_)=_
  rw[c]
 unfold openEnds;rw[n];show(topFrom vj p w 100000 _).map _=_;rw[t];exact congrArg u7 (Prod.ext b m)
structure FT (K:vM) (mg:Str->Option xH) (n:Str) (st:xG) (ps:List Str):Prop where
 F:Fun K n n st (Aa K n) (Am K (Aa K n))
 b:Binds K (Am K (Aa K n)) ps []
 m:mg n=u7 (.ref (Aa K n))
 k:keepIn K (.ref (Aa K n))=u9
structure MT (K:vM) (c m q:Str) (st:xG) (ps:List Str):Prop where
 F:Fun K m q st (Dk K (Aa K c) m) (Am K (Dk K (Aa K c) m))
 b:Binds K (Am K (Dk K (Aa K c) m)) ps []
 me:Meth K (Aa K c) m (Dk K (Aa K c) m)
structure CT (K:vM) (mg:Str->Option xH) (c:Str):Prop where
 N:nsIn K vV c=u7 (u7 (.ref (Aa K c)))
 cl:Cls K (Aa K c)
 g:mg c=u7 (.ref (Aa K c))
 mK:Mk K (Aa K c) (Dk K (Aa K c) "__init__")
theorem U4(s:FnSaid K x q st f):Fun K x q st f (Am K f):=by
 have e:Am K f=fnOf x q (Dz st) (Cj st) (Ay st) .none (Am K f).kwdefaults (Am K f).doc (Am K f).pyModule (Am K f).annotations (Am K f).code (Am K f).closureTuple:=by conv=>lhs;unfold Am Gb;rw[s.1]
 exact⟨⟨_,_,_,_,_,_,_,_,_,e,by rw[e];exact s.1,s.2.1⟩,s.2.2⟩
theorem ZHs(X:K.In h)(G:h.Ns vV mg)(s:Ask.Said K (.fn n st))
  (d:∀(kV a f:xH)(e:Option xy)(b c:xH)(us:List xH),us.length=ps.length->bindArgs (fnOf n n (Dz st) (Cj st) (Ay st) .none kV a f e b c) ⟨us,[]⟩=pure (ps.zip us)):FT K mg n st ps:=
 ⟨U4 s.2,(U4 s.2).binds d,mg_of X G s.1,s.2.2.2⟩
theorem ZF7(s:Ask.Said K (.mt c m q st))
  (e:∀(kV a g:xH)(f:Option xy)(b d:xH)(us:List xH),us.length=ps.length->bindArgs (fnOf m q (Dz st) (Cj st) (Ay st) .none kV a g f b d) ⟨us,[]⟩=pure (ps.zip us)):MT K c m q st ps:=
 ⟨U4 s.2.2,(U4 s.2.2).binds e,s.1,s.2.1,s.2.2.2.2⟩
theorem ZMn(X:K.In h)(G:h.Ns vV mg)(s:Ask.Said K (.cl c))(i:Ask.Said K (.mt c "__init__" q st)):CT K mg c:=
 ⟨s.1,⟨s.2.1,s.2.2.1,s.2.2.2.1,s.2.2.2.2.1⟩,mg_of X G s.1,s.2.2.2.2.2.1,i.1,i.2.1,s.2.2.2.2.2.2⟩
abbrev FnO(P:xD)(w:xI)(K:vM)(mg:Str->Option xH)(base:Heap)(k:Nat)(n:Str)(ps:List Str)(F:List D->DH->R D):Prop:=FnOk P w K mg base CX0 k (Aa K n) (Am K (Aa K n)) ps (lF K F)
abbrev MtO(P:xD)(w:xI)(K:vM)(mg:Str->Option xH)(base:Heap)(k:Nat)(c m:Str)(ps:List Str)(F:List D->DH->R D):Prop:=FnOk P w K mg base CX0 k (Dk K (Aa K c) m) (Am K (Dk K (Aa K c) m)) ps (lF K F)
theorem ZO6(F:Fun K x q st f fd)
  (h:∀(kV b g:xH)(e:Option xy)(c d:xH)(u:xH),bindArgs (fnOf x q (Dz st) (Cj st) (Ay st) .none kV b g e c d) ⟨[u],[]⟩=pure [(a,u)]:=by intros;rfl):BindsTo s fd ⟨[v],[]⟩ [(a,v)]:=ZNh F h
end _D
namespace _D
open PySem PySem.Spec _L
open PyProof.Rows hiding St
variable{qual:Str}{fd:xB}
section
variable{prog:xD}{w:xI}{A:x0}{E:xH->xF->Prop}{s:xF}
def strAt(es:Array DictEntry)(x:Str):Option xH:=(es.findIdx? λe=>e.key.isStr x).bind λi=>es[i]?.map (·.val)
theorem ZCh{v:xH}{x:Str}(h:v.isStr x=u9):∃t,v=.str x t:=by
 cases v<;>first
  |(rename_i y t;unfold Value.isStr at h;exact⟨t,by rw[b h]⟩)
  |(rename_i y t;simp[Value.isStr]at h;exact⟨t,by rw[h]⟩)
  |cases h
theorem ZFk{d:xy}{o:Obj}{es:Array DictEntry}{ep}{x:Str}{t:Tok}{Q:Option xH->xF->Prop}(ho:s.heap.get? d=u7 o)(g:o.data=.dict es ep)
  (c:(es.all λe=>isExactStrKey e.key)=u9) (h:Q (strAt es x) {s with toks:=s.toks+1}):
  vx (vW prog w) A (dictGet d (.str x t)) Q E s:=by
 unfold strAt at h;unfold dictGet
 try with_reducible refine vD ?_
 refine vk (wpAny_pyHash_str (vk ?_));unfold dictFind
 try with_reducible refine vD ?_
 refine vk (wpAny_dictEntries ho g ?_);dsimp only;rw[if_pos c];unfold foundByValue;cases j:es.findIdx? (λe=>e.key.isStr x)with
 |none=>rw[j]at h;exact vH (vH h)
 |some i=>
  rw[j]at h;obtain⟨f,l,_⟩:=Array.findIdx?_eq_some_iff_getElem.mp j;obtain⟨u,k⟩:=ZCh l;simp only[Array.getElem?_eq_getElem f]at h⊢;rw[k];refine vk (wpAny_dictEpoch ho g (vk (wpAny_eqBool_str (vk (wpAny_dictEpoch ho g ?_)))));rw[if_neg (by simp),decide_eq_true rfl];exact vk (wpAny_rule (vH (vk (wpAny_dictEntries ho g (vH (by simpa[Array.getElem?_eq_getElem f]using h))))))
theorem ZMd{ep}(ho:s.heap.get? d=u7 o)(j:o.cls=.type "dict")(i:o.data=.dict es ep)
  (c:(es.all λe=>isExactStrKey e.key)=u9) (g:strAt es x=u7 v) (h:Q v {s with toks:=s.toks+1}):vx (vW prog w) A (getItem (.ref d) (.str x t)) Q E s:=by
 have f:s.TypeIs (.ref d) "dict":=⟨o,ho,j⟩;unfold getItem
 try with_reducible refine vD ?_
 refine vk (wpAny_sequenceKey f (by decide) ?_);refine vk (vA f slot_dict_getitem
  (vB slot_dict_getitem f entry_dict_getitem ?_ (args_dict_getitem _ _)))
 show vx _ _ (dictGet d (.str x t) >>=_) _ _ s;refine vk (ZFk ho i c ?_);rw[g];exact vH ⟨v,rfl,vH h⟩
theorem ZI0{ep}(g:(d==sysModules)=uA)(ho:s.heap.get? d=u7 o)(k:o.cls=.type "dict")(j:o.data=.dict es ep)
  (c:(es.all λe=>isExactStrKey e.key)=u9) (h:Q (.bool (!(strAt es x).isSome)) {s with toks:=s.toks+1}):vx (vW prog w) A (vQ .NotIn (.str x t) (.ref d)) Q E s:=by
 have f:s.TypeIs (.ref d) "dict":=⟨o,ho,k⟩;refine vk ?_;unfold contains
 try with_reducible refine vD ?_
 refine vk (wpAny_specialOf f slot_dict_contains.lookup ?_);rw[if_neg (by rw[beq_builtin_none];exact zy)];refine vk (wpAny_callSpecialUnlessNone?_slot f slot_dict_contains
  (vB slot_dict_contains f entry_dict_contains ?_ (args_dict_contains _ _)))
 show vx _ _ (dictGet d (.str x t) >>=_) _ _ s;refine vk (ZFk ho j c ?_);cases i:strAt es x with
 |some v=>
  rw[i]at h;exact vH ⟨_,rfl,vL (vH h)⟩
 |none=>
  rw[i]at h;exact vk (wpAny_pendingKey_other g (vH ⟨_,rfl,vL (vH h)⟩))
end
theorem strAt_eq:strAt es x=(es.toList.find? λe=>e.key.isStr x).map (·.val):=by
 obtain⟨l⟩:=es;have e:=findBy_of_findIdx? (λ(x:Str)(v:xH)=>v.isStr x) ⟨l⟩ x;unfold findBy at e;rw[<-jR]at e;unfold strAt;rw[e]
 cases(Array.findIdx? (λe=>e.key.isStr x) ⟨l⟩)<;>rfl
def AtT(kvs:List (Str×Str))(es:Array DictEntry):Prop:=∀x,(kvs.lookup x=u8/\strAt es x=u8)\/∃v t,kvs.lookup x=u7 v/\strAt es x=u7 (.str v t)
theorem ZCY:∀{b:List (Str×Str)}{es:List DictEntry},Vals ((b.map (·.1)).map V.str) (es.map (·.key))->Vals ((b.map (·.2)).map V.str) (es.map (·.val))->(es.all λe=>isExactStrKey e.key)=u9/\
  ∀x,(b.lookup x=u8/\(es.find? λe=>e.key.isStr x).map (·.val)=u8)\/∃v t,b.lookup x=u7 v/\(es.find? λe=>e.key.isStr x).map (·.val)=u7 (.str v t)
 |[],[],_,_=>⟨rfl,λ_=>.inl ⟨rfl,rfl⟩⟩
 |[],e::es,h,_|(k,v)::b,[],h,_=>by cases h
 | (k,v)::b,⟨B,y,C⟩::es,j,m=>by
  cases j with
  | cons r i=>cases m with
   | cons n q=>
    obtain⟨g,rfl⟩:=r;obtain⟨u,rfl⟩:=n;obtain⟨c,d⟩:=ZCY i q;refine⟨by rw[qE,c];rfl,λx=>?_⟩;by_cases f:x=k
    .subst f;exact .inr ⟨v,u,by simp[qC],by simp[Value.isStr]⟩
    have o:(x==k)=uA:=by simpa using f
    have l:(Value.str k g).isStr x=uA:=by
     cases h:(Value.str k g).isStr x with
     |false=>rfl
     |true=>obtain⟨t,e⟩:=ZCh h;cases e;exact absurd rfl (λz=>f z.symm)
    rw[qC,o,qF];simp only[l];exact d x
structure DctAt (K:za) (p:xy) (kvs:List (Str×Str)):Prop where
 ex:∃(o:Obj)(es:Array DictEntry)(ep:Nat),(p==sysModules)=uA/\K.lookup p=u7 o/\o.cls=.type "dict"/\o.data=.dict es ep/\(es.all λe=>isExactStrKey e.key)=u9/\AtT kvs es
def DctG(K:za)(mg:Str->Option xH)(n:Str)(kvs:List (Str×Str)):Prop:=∃p,mg n=u7 (.ref p)/\DctAt K p kvs
theorem ZME{K:za}{h:Heap}{c:Str->Option xH}{n:Str}{b:List (Str×Str)}(X:K.In h)(G:h.Ns vV c)(s:GdSaid K n b):DctG K c n b:=by obtain⟨p,q,o,k,i,e,f,g,l,m⟩:=s;obtain⟨d,j⟩:=ZCY l m;exact⟨p,uj X G e,⟨_,i,k,g,f,rfl,rfl,by rw[<-Array.all_toList];exact d,λx=>strAt_eq▸j x⟩⟩
noncomputable def Jh(kvs:List (Str×Str)):D->DH->R D
 |.str x,G=>match kvs.lookup x with
  |some v=>.ok (.str v) G
  |none=>.bad
 |_,_=>.bad
def Lj(kvs:List (Str×Str)):D->DH->R D
 |.str x,G=>.ok (.bl (!(kvs.lookup x).isSome)) G
 |_,_=>.bad
section
variable{X:Cx}{E:XK}{p:xy}{kvs:List (Str×Str)}{x:Str}{a:xA}{ta:DE}{np pos:Pos}
theorem ix_g(D:DctAt X.K p kvs):IxR X (λx y H Q=>∃k v,x=.ref p/\y=.str k/\kvs.lookup k=u7 v/\Q (.str v) H):=by
 intro value slice vP s σ H x y v u Q I rx ry h hs;obtain⟨k,w,rfl,rfl,hl,q⟩:=h;obtain rfl:v=Value.ref p:=rx;obtain⟨t,rfl⟩:=ry;obtain⟨o,es,ep,hds,hK,hc,hd,ha,hat⟩:=D.ex;have ho:=I.kIn _ _ hK;have hT:s.TypeIs (.ref p) "dict":=⟨o,ho,hc⟩;obtain⟨v',t',hv⟩:∃v' t',strAt es k=u7 (.str v' t')/\v'=w:=by
  rcases hat k with⟨z,_⟩|⟨v',t',z,z'⟩
  .rw[hl]at z;cases z
  rw[hl]at z;cases z;exact⟨_,t',z',rfl⟩
 obtain⟨hv,rfl⟩:=hv;unfold subscriptTail;refine vk ?_;rw[getitemInPython_of_ne hT.not_modules];refine vk (wpAny_specialOf hT PySem.F.slot_dict_getitem.lookup ?_);have fin:vx (vW X.prog X.w) X.A (subscripted slice uA (.ref p) (.str k t)) (λr s₃=>vx (vW X.prog X.w) X.A (letTemporaryGo value (.ref p) r >>=λ_=>pure r) (EP X vP σ Q) X.xe s₃) X.xe s:=by rw[hs];exact wpAny_operating (ZMd ho hc hd ha hv (vk (wpAny_letTemporaryGo (vH ⟨.str v',H,I.tok _,⟨_,rfl⟩,q⟩))))
 first
  |exact vH (vk fin)
  |exact vk (vH (vk fin))
  |exact vk fin
theorem ZHz(D:DctAt X.K p kvs):OpR X (vQ .NotIn) (λy x H Q=>∃k,x=.ref p/\y=.str k/\Q (.bl (!(kvs.lookup k).isSome)) H):=by
 intro f s r H y x v u Q I m j ⟨k,e,h,q⟩;subst e h;obtain rfl:u=Value.ref p:=j;obtain⟨t,rfl⟩:=m;obtain⟨o,B,F,c,g,n,l,i,d⟩:=D.ex;refine ZI0 c (I.kIn _ _ g) n l i ⟨.bl (!(kvs.lookup k).isSome),H,I.tok _,?_,q⟩;rcases d k with⟨z,b⟩|⟨C,J,z,b⟩
 .rw[z,b];rfl
 rw[z,b];rfl
theorem ZHy(f:Gl X x)(h:DctG X.K X.mg x kvs)(i:QE X E a ta)(g:PlainIx a:=by intro _ _;rfl)(l:(x==("__debug__":Str))=uA:=by decide):QE X E (.Subscript (.Name x np) a pos) (dUn (Jh kvs) ta):=by
 obtain⟨p,j,D⟩:=h;refine(ZCQ (ix_g D) (Rx (v:=.ref p) f j rfl l) i g).mono λo H Q h=>?_
 obtain⟨a,S,G,hk,rfl,s,r,h⟩:=h;refine⟨a,S,G,hk,rfl,s,r,(Ea h).imp ?_⟩;rintro v _ ⟨b,d,n,rfl,y,m,e,_,c⟩;cases d with
 |str k=>
  cases(e);unfold Jh at c;dsimp only at c;split at c
  .rename_i w hw;exact⟨k,w,rfl,rfl,hw,c b _ (.refl b) m rfl⟩
  exact c.elim
 |_=>exact c.elim
theorem ZRp(h:lE X.K E (dUn (Lj kvs) ta) σ H Q):tOp (λy x H Q=>∃k,x=.ref p/\y=.str k/\Q (.bl (!(kvs.lookup k).isSome)) H) (lE X.K E ta) (tC (.ref p)) σ H Q:=by
 obtain⟨a,S,G,hk,rfl,s,r,h⟩:=h;refine⟨a,S,G,hk,rfl,s,r,(Ea h).imp ?_⟩;rintro v _ ⟨b,d,g,rfl,y,f,e,_,c⟩;cases d with
 |str k=>
  cases(e);exact⟨k,rfl,rfl,c b _ (.refl b) f rfl⟩
 |_=>exact c.elim
theorem ZIt(c:Gl X x)(h:DctG X.K X.mg x kvs)(d:QE X E a ta)(e:xP .NotIn (.Name x np)=uA)(f:(x==("__debug__":Str))=uA:=by decide):QT X E (.Compare a [.NotIn] [.Name x np] pos) (Ak (dUn (Lj kvs) ta)):=by obtain⟨p,hp,D⟩:=h;exact(ZCi (ZHz D) d (Rx (v:=.ref p) c hp rfl f) e).mono λb H Q h=>ZAp (λ_ _ _ z=>ZRp z) b H Q (W2 h)
end
def Hg(kvs more:List (Key×D)):List (Key×D):=more.foldl (λacc kv=>putD acc kv.1 kv.2) kvs
theorem RepKV.merge:∀{more:List (Key×D)}{ms:List (Key×V)}{b:List (Key×D)}{us:List (Key×V)},RepKV a more ms->RepKV a b us->RepKV a (Hg b more) (Oz us ms)
 |[],ms,b,us,h,r=>by have:=j5.mp h.1.symm;subst this;exact r
 |(k,d)::more,ms,b,us,h,r=>by obtain⟨v,c,rfl,f,e⟩:=RepKV.cons h;exact .merge (more:=more) (ms:=c) e (r.put f)
def Cp:D->Option V
 |.int i=>u7 (.int i)
 |.str x=>u7 (.str x)
 |_=>u8
theorem ZLa(h:Cp d=u7 w)(r:Rep a d v):v=w:=by
 cases d<;>first
  |(cases h;exact r)
  |cases h
theorem ZKa(h:Cp d=u7 w):Rep a d w:=by
 cases d<;>first
  |(cases h;rfl)
  |cases h
def Qn(kvs:List (Str×D)):DE:=λ_ G=>.ok (.ref G.length) (G++[.dct (Hg [] (kvs.map λkv=>(.inr kv.1,kv.2)))])
section
variable{X:Cx}{E:XK}{pos:Pos}
def QPs(X:Cx)(E:XK)(pos:Pos)(keys:List (Option xA))(values:List xA)(kvs:List (Str×D)):Prop:=PPs X pos keys values (kvs.map λkv=>(tC (.str kv.1),lE X.K E (dC kv.2)))
theorem ZHp:QPs X E pos [] [] []:=ZJr
theorem Rw(c:QE X E v (dC d))(b:QPs X E pos ks vs kvs):QPs X E pos (u7 (.Constant (.str x) j p)::ks) (v::vs) ((x,d)::kvs):=ZQI Sq c b
theorem ZB7:∀{e:List (Str×D)}{g:List V}{b:Wd}{Q:List (V×V)->Hp->Prop},e.map (λf=>Cp f.2)=g.map u7->b.K=X.K->Ext a0 b->Sim b G0->RepS b S σ->
  (∀c,Ext a0 c->Sim c G0->Q ((e.map λf=>V.str f.1).zip g) c.H)->Sw (e.map λf=>(tC (.str f.1),lE X.K E (dC f.2))) σ b.H Q
 |[],g,b,Q,hw,hk,i,j,l,h=>h b i j
 |(x,d)::e,[],b,Q,hw,hk,i,j,l,h=>by cases hw
 |(x,d)::e,w::g,b,Q,hw,hk,i,j,l,h=>by rw[zk,zk]at hw;obtain⟨o,r⟩:=List.cons.inj hw;refine⟨b,S,G0,hk,rfl,j,l,λc v m n u=>?_⟩;obtain rfl:=ZLa o u;exact ZB7 r (m.k.trans hk) (i.trans m) n (l.mono m) λt y q=>h t y q
theorem ZCo:∀{b:List (Str×D)},(b.all λc=>(Cp c.2).isSome)=u9->∃d:List V,b.map (λc=>Cp c.2)=d.map u7
 |[],_=>⟨[],rfl⟩
 |c::b,e=>by rw[qE,z5]at e;obtain⟨w,hw⟩:=jV.mp e.1;obtain⟨d,f⟩:=ZCo e.2;exact⟨w::d,by rw[zk,zk,f,hw]⟩
theorem ZEV:∀{b:List (Str×D)}{e:List V},b.map (λd=>Cp d.2)=e.map u7->RepKV c (b.map λd=>((.inr d.1:Key),d.2)) ((b.map λd=>(Sum.inr d.1:Key)).zip e)
 |[],_,_=>.nil
 |d::b,[],h=>by cases h
 |d::b,w::e,h=>by rw[zk,zk]at h;obtain⟨f,g⟩:=List.cons.inj h;exact .mk (ZKa f) (ZEV g)
theorem ZDD:∀{b:List (Str×D)}{d:List V},(b.map λc=>V.str c.1).zip d=((b.map λc=>(Sum.inr c.1:Key)).zip d).map λc=>(kV c.1,c.2)
 |[],_|c::b,[]=>rfl
 |c::b,w::d=>congrArg _ ZDD
theorem ZQO(h:QPs X E pos keys values kvs)(t:(kvs.all λd=>(Cp d.2).isSome)=u9:=by rfl)(F:kvs.length<=15:=by decide)(f:keys.all (·.isSome)=u9:=by rfl)(B:keys.length=values.length:=by rfl)(v:keys≠[]:=by exact λz=>nomatch z)
  (l:keys.length<=15:=by decide):QE X E (.Dict keys values pos) (Qn kvs):=by
 refine(ZIN h f B v l).mono λI H Q h=>?_
 obtain⟨a,S,G,hk,rfl,s,r,h⟩:=h;intro p hp;obtain⟨y,e⟩:=ZCo t;have C:Sim (a.push p (.dK [])) (G++[.dct []]):=s.push hp ⟨[],rfl,.nil⟩;refine ZB7 (b:=a.push p (.dK [])) e hk (.refl _) C (r.mono (.push hp)) λc k o=>?_
 have g:=zq (qZ _) k.n;have j:c.m a.n=p:=by rw[k.m a.n (qZ _)];show(if a.n=a.n then p else a.m a.n)=p;rw[if_pos rfl]
 obtain⟨J,i,u⟩:=o.obj a.n (.dct []) (by rw[<-s.len];simp);have:=j5.mp u.1.symm;subst this;rw[j]at i;refine⟨i,(kvs.map λd=>(.inr d.1:Key)).zip y,ZDD,by simp;lia,?_⟩;have hw:=o.wrD g (j▸i) (.merge (ZEV e) RepKV.nil);rw[j]at hw;have q:(G++[DO.dct []]).set a.n (.dct (Hg [] (kvs.map λd=>((.inr d.1:Key),d.2))))=G++[DO.dct (Hg [] (kvs.map λd=>((.inr d.1:Key),d.2)))]:=by rw[<-s.len];simp
 rw[q]at hw;refine h (c.put p _) (.ref p) (((Ext.push hp).trans k).trans (.wrD i)) hw ⟨s.len▸g,?_⟩;show V.ref p=V.ref (c.m G.length);rw[s.len,j]
end
section
variable{S:DSt}{G:DH}
@[simp]theorem ZSc:Qn kvs S G=.ok (.ref G.length) (G++[.dct (Hg [] (kvs.map λb=>(.inr b.1,b.2)))]):=id rfl
theorem ZDn(h:kvs.lookup x=u7 v):Jh kvs (.str x) G=.ok (.str v) G:=by
 show(match kvs.lookup x with |some v=>R.ok (D.str v) G|none=>R.bad)=_
 rw[h]
@[simp]theorem ZSW:Lj kvs (.str x) G=.ok (.bl (!(kvs.lookup x).isSome)) G:=id rfl
end
theorem ZKk{X:Cx}{k j:Nat}{n:Str}{st:xG}{ps:List Str}{F:List D->DH->R D}{p pos:Pos}{e:xA}{es:List xA}{tr:DA}(c:FnO X.prog X.w X.K X.mg X.base k n ps F)(T:FT X.K X.mg n st ps)(i:Room j X.A)(g:QA X E0 (e::es) tr)
  (d:k<=j:=by decide) (f:Gl X n:=by exact rfl) (h:(n==("__debug__":Str))=uA:=by decide) (l:notStar e=u9:=by exact rfl) (hp:es.all notStar=u9:=by exact rfl):QE X E0 (.Call (.Name n p) (e::es) [] pos) (dFn F tr):=
 ZJv c (i.mono d) f T.m T.k T.b pass0 g h l hp
theorem ZHt:(Obj.mapFields f o).dict=o.dict:=by
 obtain⟨c,d,a,b⟩:=o;unfold Obj.mapFields
 cases a<;>rfl
def Trc(h B:Heap)(e:xy)(cls:xH)(od:Option xy)(fl:xH):Prop:=
 ∃oe vs T oT ts,h.get? e=u7 oe/\(oe.cls=cls/\oe.dict=od)/\oe.data=.fields vs/\vs[1]?=u7 (.ref T)/\(B.get? T=u8/\T≠e)/\h.get? T=u7 oT/\oT.data=.fields ts/\ts[3]?=u7 fl
structure Noted (B:Heap) (l:List Env) (e:xy) (cls:xH) (od:Option xy) (fl:xH) (h h':Heap):Prop where
 st:B.StaysIn h'
 fr:h'.FunFrames B l
 tr:Trc h' B e cls od fl
 up:∀b o,h.get? b=u7 o->(∀vs,o.data≠ .fields vs)->∃sl,h'.get? b=u7 {o with slots:=sl}
 th:∀b o,h.get? b=u7 o->∃o',h'.get? b=u7 o'
section
variable{M:Model}{A:x0}{E:xH->xF->Prop}{s:xF}{B:Heap}{env:Env}{outer:List Env}{L e:xy}{oe:Obj}{vs:Array xH}{head:xH}{hn:Bool}{Q:Unit->xF->Prop}
theorem ZGM(fr:A.frames=u7 (env::outer))(p:s.heap.FunFrames B (env::outer))(J:env.frame=u7 L)(u:s.heap.get? e=u7 oe)(hk:B.StaysIn s.heap)(K:B.get? e=u8)(m:oe.data=.fields vs)(hz:1<vs.size)
  (q:∀h',Noted B (env::outer) e oe.cls oe.dict (vK L) s.heap h'->Q () {s with heap:=h'}):
  vx M A (do let a<-frameOf env;let pl<-entryPlaceOf L hn;let b<-EntryCells.newEntry head a .none (vK L) .none pl;setField (.ref e) 1 b) Q E s:=by
 have N:e∉(env::outer).filterMap (·.frame):=λv=>by obtain⟨_,o,F,l⟩:=p.mem v;rw[u]at F;cases F;exact l vs m
 refine vk (wpAny_frameOf_fun fr p J λh k=>?_);refine vk (wpAny_entryPlaceOf λpl hp=>?_);unfold EntryCells.newEntry newFields;refine vk (vF ?_ (hp.sizeOk5 _ _ _ _ _));generalize w:({cls:=.type "traceback",dict:=u8,data:=.fields ([head,.ref L,.none,vK L,.none]++(if pl.isEmpty then zV 6 Value.none else pl)).toArray}:Obj)=O;have t:O.data=.fields ([head,.ref L,.none,vK L,.none]++(if pl.isEmpty then zV 6 Value.none else pl)).toArray:=by rw[<-w]
 have C:=(k.2.1 e N).trans u;have H:B.StaysIn h:=λb o f=>(k.2.1 b λv=>by rw[(p.mem v).1]at f;cases f).trans (hk b o f)
 have y:=zQ O C;refine wpAny_setField y m hz (q _ ?_);have j:=jY (zx C)
 have I:=Obj.data_mapFields m (·.setIfInBounds 1 (.ref h.objs.size))
 have x:=qz (.mapFields (·.setIfInBounds 1 (.ref h.objs.size))) y (Obj.isFreed_of_fields I)
 have P:=(qy (h.push O) (.mapFields (·.setIfInBounds 1 (.ref h.objs.size))) (.symm j)).trans (z0 h (by rw[<-w];rfl))
 have g:∀b o,b≠e->h.get? b=u7 o->((h.push O).update e (.mapFields (·.setIfInBounds 1 (.ref h.objs.size)))).get? b=u7 o:=λb o n c=>by rw[qy _ _ (.symm n)];exact zQ _ c
 have l:∀b o,s.heap.get? b=u7 o->(∀vs,o.data≠ .fields vs)->b≠e:=λb o c n z=>by rw[z,u]at c;cases c;exact n vs m
 refine⟨λb o f=>g b o (λz=>by rw[z,K]at f;cases f) (H b o f),p.of_keeps λb o c n=>?_,⟨_,_,h.objs.size,_,_,x,⟨Obj.cls_mapFields _ _,ZHt⟩,I,by simp[hz],⟨H.fresh,j⟩,P,t,by simp⟩,λb o c n=>?_,λb o c=>?_⟩
 .obtain⟨r,i⟩:=k.2.2 b o c;exact⟨_,g b _ (l b o c n) i,rfl⟩
 .obtain⟨r,i⟩:=k.2.2 b o c;exact⟨r,g b _ (l b o c n) i⟩
 obtain⟨r,i⟩:=k.2.2 b o c;by_cases z:b=e
 .subst z;exact⟨_,x⟩
 exact⟨_,g b _ z i⟩
theorem ZPE(fr:A.frames=u7 (env::outer))(g:s.heap.FunFrames B (env::outer))(d:env.frame=u7 L)(f:s.heap.get? e=u7 oe)(hk:B.StaysIn s.heap)(h:B.get? e=u8)(c:oe.data=.fields vs)(b:vs[1]?=u7 .none)
  (q:∀h',Noted B (env::outer) e oe.cls oe.dict (vK L) s.heap h'->Q () {s with heap:=h'}):vx M A (noteFrame (.ref e) env) Q E s:=by
 unfold noteFrame;simp only[d];refine vk (vC f c b ?_);rw[if_neg (by decide)];exact ZGM fr g d f hk h c (qK.mp b).1 q
theorem ZHC(fr:A.frames=u7 (env::outer))(y:s.heap.FunFrames B (env::outer))(k:env.frame=u7 L)(C:Trc s.heap B e cls od .none)(hk:B.StaysIn s.heap)(v:B.get? e=u8)
  (q:∀h',Noted B (env::outer) e cls od (vK L) s.heap h'->Q () {s with heap:=h'}):vx M A (noteFrame (.ref e) env) Q E s:=by
 obtain⟨H,r,T,F,w,p,⟨rfl,rfl⟩,t,m,⟨x,i⟩,h,g,u⟩:=C;unfold noteFrame;simp only[k];refine vk (vC p t m ?_);rw[if_pos (by simp)];refine vk (vC h g u ?_);rw[if_neg (by simp[vK])];refine vk (wpAny_setField h g (qK.mp u).1 ?_)
 have d:∀b,b≠T->(s.heap.update T (.mapFields (·.setIfInBounds 3 Value.none))).get? b=s.heap.get? b:=λb n=>qy _ _ (.symm n)
 have l:∀b o,s.heap.get? b=u7 o->(∀r,o.data≠ .fields r)->b≠T:=λb o c n z=>by rw[z,h]at c;cases c;exact n w g
 refine ZGM fr (y.of_keeps λb o c n=>⟨o,(d b (l b o c n)).trans c,rfl⟩) k ((d e (.symm i)).trans p)
  (λb o f=>(d b λz=>by rw[z,x]at f;cases f).trans (hk b o f)) v t (qK.mp m).1
  λh' n=>q h' ⟨n.st,n.fr,n.tr,λb o c j=>n.up b o ((d b (l b o c j)).trans c) j,λb o c=>?_⟩
 by_cases z:b=T
 .subst z;exact n.th b _ (qz _ h (Obj.isFreed_of_fields (Obj.data_mapFields g _)))
 exact n.th b o ((d b z).trans c)
theorem Xe(F:s.heap.FunFrames B l)(H:Trc s.heap B e cls od fl)(hk:B.StaysIn s.heap)
  (q:∀h',Noted B l e cls od .none s.heap h'->Q () {s with heap:=h'}):vx M A (setFlight (.ref e) u8) Q E s:=by
 obtain⟨C,p,T,I,y,u,⟨rfl,rfl⟩,v,t,⟨w,i⟩,m,k,x⟩:=H;unfold setFlight;refine vk (vC u v t ?_);rw[if_pos (by simp)];refine wpAny_setField m k (qK.mp x).1 (q _ ?_)
 have d:∀b,b≠T->(s.heap.update T (.mapFields (·.setIfInBounds 3 ((u8:Option xy).elim Value.none λf=>vK f)))).get? b=s.heap.get? b:=λb n=>qy _ _ (.symm n)
 have r:∀b o,s.heap.get? b=u7 o->(∀p,o.data≠ .fields p)->b≠T:=λb o c n z=>by rw[z,m]at c;cases c;exact n y k
 have j:=Obj.data_mapFields k (·.setIfInBounds 3 ((u8:Option xy).elim Value.none λf=>vK f))
 have h:=qz (.mapFields (·.setIfInBounds 3 ((u8:Option xy).elim Value.none λf=>vK f))) m (Obj.isFreed_of_fields j)
 refine⟨λb o g=>(d b λz=>by rw[z,w]at g;cases g).trans (hk b o g),F.of_keeps λb o c n=>⟨o,(d b (r b o c n)).trans c,rfl⟩,
  ⟨C,p,T,_,_,(d e (.symm i)).trans u,⟨rfl,rfl⟩,v,t,⟨w,i⟩,h,j,by simp[(qK.mp x).1]⟩,λb o c n=>⟨o.slots,(d b (r b o c n)).trans c⟩,λb o c=>?_⟩
 by_cases z:b=T
 .subst z;exact⟨_,h⟩
 exact⟨o,(d b z).trans c⟩
theorem Noted.trans(x:Noted B l e cls od f1 h1 h2)(y:Noted B l e cls od f2 h2 h3):Noted B l e cls od f2 h1 h3:=
 ⟨y.st,y.fr,y.tr,λb o a n=>by
  obtain⟨g,k⟩:=x.up b o a n;obtain⟨c,f⟩:=y.up b _ k n;exact⟨c,f⟩,λb o a=>by
  obtain⟨d,k⟩:=x.th b o a;exact y.th b d k⟩
theorem ZQr(fr:A.frames=u7 (env::outer))(c:s.heap.FunFrames B (env::outer))(i:env.frame=u7 L)(j:s.heap.get? e=u7 oe)(hk:B.StaysIn s.heap)(g:B.get? e=u8)(h:oe.data=.fields vs)(d:vs[1]?=u7 .none)
  (q:∀h',Noted B (env::outer) e oe.cls oe.dict .none s.heap h'->Q () {s with heap:=h'}):vx M A (leaving env (.ref e)) Q E s:=by
 unfold leaving;exact vk (ZPE fr c i j hk g h d λh' n=>Xe n.fr n.tr n.st λb f=>q b (n.trans f))
theorem ZPh(fr:A.frames=u7 (env::outer))(c:s.heap.FunFrames B (env::outer))(g:env.frame=u7 L)(h:Trc s.heap B e cls od .none)(hk:B.StaysIn s.heap)(f:B.get? e=u8)
  (q:∀h',Noted B (env::outer) e cls od .none s.heap h'->Q () {s with heap:=h'}):vx M A (leaving env (.ref e)) Q E s:=by
 unfold leaving;exact vk (ZHC fr c g h hk f λh' n=>Xe n.fr n.tr n.st λb d=>q b (n.trans d))
end
structure Fly (B:Heap) (l:List Env) (e:xy) (cls:xH) (od:Option xy) (H':Hp) (h:Heap):Prop where
 st:B.StaysIn h
 fr:h.FunFrames B l
 tr:Trc h B e cls od .none
 eb:B.get? e=u8
 al:∀b,H' b≠u8->∃o,B.get? b=u7 o
noncomputable def CXx(P:xD)(w:xI):CXT:=λouter H s E e s'=>∃(ea:xy)(cls:xH)(od:Option xy)(H':Hp)(B:Heap),e=.ref ea/\s'.os=s.os/\AllBare s'.gens/\Un (frs outer) [] H H' s.heap s'.heap/\HOk P w H' s'.heap/\
 Fly B outer ea cls od H' s'.heap/\(∀b o,s.heap.get? b=u7 o->H b=u8->b∉frs outer->B.get? b=u7 o)/\s.heap.get? ea=u8/\E cls od H'/\∃C,cls=.ref C
section
variable{X:Cx}{vP:List (xy×Obj)}{σ:St}{H H':Hp}{s s':xF}{B h'':Heap}{ea:xy}{cls:xH}{od:Option xy}{E:XK}
theorem ZFP(hok:HOk P w H' h)(l:∀b,H' b≠u8->∃o,B.get? b=u7 o)(j:B.StaysIn h)(g:B.StaysIn h'):HOk P w H' h':=λa o e=>
 (hok a o e).stay (λb u c q=>by
  have f:H' b≠u8:=by
   rcases c with rfl|c
   .rw[e];simp
   rw[c];simp
  obtain⟨i,k⟩:=l b f;have d:=j b i k;rw[q]at d;cases d;exact g b u k) (λ_ q=>q) λ_ _ q=>q
theorem ZFC(I:Inv X vP σ H s)(K:X.stack=X.env::X.outer)(A:X.ex=[])(y:X.env.frame=u7 X.env.locals)(t:s'.os=s.os)(m:AllBare s'.gens)(un:Un (frs X.stack) [] H H' s.heap s'.heap)(hok:HOk X.prog X.w H' s'.heap)
  (Q:∀b o,s.heap.get? b=u7 o->H b=u8->b∉frs X.stack->B.get? b=u7 o) (J:∀b,H' b≠u8->∃o,B.get? b=u7 o) (P:B.get? ea=u8) (st:B.StaysIn s'.heap) (v:s.heap.get? ea=u8)
  (n:Noted B X.stack ea cls od .none s'.heap i) (S:E cls od H') (T:∃C,cls=.ref C):CXx X.prog X.w X.outer X.H₀ X.s₀ E (.ref ea) {s' with heap:=i}:=by
 have a:=I.base;rw[A]at a;have F:frs X.stack=X.env.locals::frs X.outer:=by rw[K];unfold frs;rw[qq,y]
 have l:∀b o,X.s₀.heap.get? b=u7 o->X.H₀ b=u8->b∉frs X.outer->B.get? b=u7 o:=λb o q d f=>by
  refine Q b o (a.keep b o q d f (by simp)) (a.free b o q d (by simp)) ?_;rw[F];intro p;rcases zj.mp p with z|z
  .exact absurd (zq (zx q) I.ok.above) (z▸qQ _)
  exact f z
 have x:i.FunFrames B X.outer:=by have:=n.fr;rw[K]at this;exact this.2.2
 refine⟨ea,cls,od,H',B,rfl,t.trans I.os,m,⟨λb o q d f _=>n.st b o (l b o q d f),λb o q d f _=>?_,λb o q d h=>?_,λb o q h=>?_,λb L q=>un.tups b L (a.tups b L q),λb o u q=>un.frzs b o u (a.frzs b o u q),λb Y q=>?_⟩,ZFP hok J st n.st,⟨n.st,x,n.tr,P,J⟩,l,?_,S,T⟩
 .obtain⟨sl,k⟩:=a.slot b o q d f (by simp);have p:=F▸zX _ f;obtain⟨W,k'⟩:=un.slot b _ k (a.free b o q d (by simp)) p (by simp);obtain⟨_,M,g,O⟩:=I.stack.mem p;rw[k]at g;cases g;obtain⟨j,Z⟩:=n.up b _ k' O;exact⟨j,Z⟩
 .obtain⟨r,e⟩:=a.there b o q h;exact un.free b r e (a.free b o q d h) h
 .obtain⟨r,e⟩:=a.there b o q h;obtain⟨M,g⟩:=un.there b r e h;exact n.th b M g
 .obtain⟨U,e⟩:=a.tbls b Y q;obtain⟨N,g⟩:=un.tbls b _ e;exact⟨U++N,by rw[g,Array.append_assoc]⟩
 cases q:X.s₀.heap.get? ea with
 |none=>rfl
 |some o=>
  obtain⟨r,e⟩:=a.there ea o q (by simp);rw[v]at e;cases e
def Ju(X:Cx)(E:XK):xH->xF->Prop:=λe s'=>vx (vW X.prog X.w) X.A (leaving X.env e) (λ_ s''=>CXx X.prog X.w X.outer X.H₀ X.s₀ E e s'') (λe' s''=>CXx X.prog X.w X.outer X.H₀ X.s₀ E e' s'') s'
theorem ZRD(d:X.stack=X.env::X.outer)(g:X.ex=[])(c:X.env.frame=u7 X.env.locals)(I:Inv X vP σ H s)(h:CXx X.prog X.w X.stack H s E e s'):Ju X E e s':=by
 obtain⟨r,j,q,p,B,rfl,l,b,un,hok,a,k,f,m,o⟩:=h;unfold Ju;refine ZPh (by rw[I.ok.frames,d]) (by rw[<-d];exact a.fr) c a.tr a.st a.eb λi n=>?_
 rw[<-d]at n;exact ZFC I d g c l b un hok k a.al a.eb a.st f n m o
theorem ZB1(x:ObjOk P w H h a o):∃c,h.get? a=u7 c:=by
 cases o with
 |lst d=>obtain⟨_,_,_,_,e⟩:=x;exact⟨_,e⟩
 |tup d=>obtain⟨_,_,_,_,e,_⟩:=x;exact⟨_,e⟩
 |set S n=>obtain⟨o,_,_,_,e,_⟩:=x;exact⟨_,e⟩
 |ins C j fs=>obtain⟨_,_,_,e,_⟩:=x;exact⟨_,e⟩
 |own y=>exact x
 |xd fs=>obtain⟨_,⟨_,_,_,e,_⟩,_⟩:=x;exact⟨_,e⟩
 |rng k i=>obtain⟨_,_,_,e⟩:=x;exact⟨_,e⟩
 |frz c u=>obtain⟨e,_⟩:=x;exact⟨_,e⟩
 |tbl l|met f y=>exact⟨_,x⟩
 |ext g=>exact x.2.1
 |_=>obtain⟨_,_,_,_,o,_,_,e,_⟩:=x;exact⟨_,e⟩
theorem ZFn{a h h':Heap}:∀{l:List Env},h.FunFrames a l->(∀b∈frs l,∀o,h.get? b=u7 o->∃f,h'.get? b=u7 {o with slots:=f})->h'.FunFrames a l
 |[],_,_=>trivial
 |e::r,⟨hk,⟨L,o,i,j,t,p⟩,q⟩,k=>by
  have g:frs (e::r)=L::frs r:=by unfold frs;rw[qq,i]
  obtain⟨f,z⟩:=k L (g▸zW) o t;exact⟨hk,⟨L,_,i,j,z,p⟩,ZFn q λb m n c=>k b (g▸zX _ m) n c⟩
structure Made (X:Cx) (H:Hp) (s:xF) (ea:xy) (cls:xH) (od:Option xy) (s':xF) (H':Hp):Prop where
 os:s'.os=s.os
 bare:AllBare s'.gens
 un:Un (frs X.stack) [] H H' s.heap s'.heap
 hok:HOk X.prog X.w H' s'.heap
 ob:∃oe vs,s'.heap.get? ea=u7 oe/\oe.cls=cls/\oe.dict=od/\oe.data=.fields vs/\vs[1]?=u7 .none
 fe:H' ea=u8
 new:s.heap.get? ea=u8
theorem ZDi(f:X.stack=X.env::X.outer)(g:X.ex=[])(d:X.env.frame=u7 X.env.locals)(I:Inv X vP σ H s)(m:Made X H s ea cls od s' H')(v:E cls od H')(w:∃C,cls=.ref C):Ju X E (.ref ea) s':=by
 obtain⟨L,M,x,rfl,rfl,y,t⟩:=m.ob;have i:(qe s'.heap (ea::frs X.stack)).get? ea=u8:=by exact wq _ zW
 have h:(qe s'.heap (ea::frs X.stack)).StaysIn s'.heap:=λb o q=>wK _ q
 have r:∀b o,s.heap.get? b=u7 o->H b=u8->b∉frs X.stack->(qe s'.heap (ea::frs X.stack)).get? b=u7 o:=λb o q l c=>xf _ (m.un.keep b o q l c (by simp)) λe=>by
  rcases zj.mp e with z|z
  .rw[z,m.new]at q;cases q
  exact c z
 have p:∀b,H' b≠u8->∃o,(qe s'.heap (ea::frs X.stack)).get? b=u7 o:=λb c=>by
  cases q:H' b with
  |none=>exact absurd q c
  |some u=>
   obtain⟨o,k⟩:=ZB1 (m.hok b u q);refine⟨o,xf _ k λe=>?_⟩;rcases zj.mp e with z|z
   .rw[z,m.fe]at q;cases q
   obtain⟨_,J,A,_⟩:=I.stack.mem z;rw[m.un.free b J A (I.W5 b z) (by simp)]at q;cases q
 unfold Ju;refine ZQr (by rw[I.ok.frames,f]) (by rw[<-f];exact(PySem.W.funFrames_hide (ZFn I.stack λb c o F=>m.un.slot b o F (I.W5 b c) c (by simp)) λenv e a q=>zX _ (jP.mpr ⟨env,e,q⟩))) d x h i y t λj n=>?_
 rw[<-f]at n;exact ZFC I f g d m.os m.bare m.un m.hok r p i h m.new n v w
end
section
variable{prog:xD}{w:xI}{A:x0}{E:xH->xF->Prop}{h:Heap}{g:Array GenState}{d:Drawn}{t:Nat}{os:OsState}
variable{nm q:Str}{C N:xy}{bs bm bmB:List xH}{hdct:Bool}{sn:List Str}{sub:List xH}{ab:Bool}{col:Option Bool}{dd:Option xy}{k0 k1 k2 k3 k5:Option xH}{B newId initId:String}
theorem ZQx(F:ExcBaseFacts B newId initId bmB)(T:OwnTail h bmB bm){y:Str->Option xH}{rest:List xH}{m:xy}{u:Obj}{Q:Fin->xF->Prop}
  (c:h.get? C=u7 (excClassObj nm q C N bs bm hdct sn sub ab col dd k0 k1 k2 k3 k5 newId)) (H:h.Ns N y) (M:y "__init__"=u7 (.ref m)) (l:h.get? m=u7 u) (p:u.cls=.type "function")
  (K:∀h' e,Heap.MadeExcOf h h' e (.ref C) rest->h.objs.size<=e->vx (vW prog w) A (call (.ref m) (.ref e::rest)) (λr s'=>r=.none/\Q (.done (.ret (.ref e))) s') E ⟨h',g,d,t,os⟩) (L:rest.length<=sizeLine):
  vx (vW prog w) A (Builtin.«type.__call__» ⟨.ref C::rest,[]⟩) Q E ⟨h,g,d,t,os⟩:=by
 repeat (first|with_reducible refine wpAny_loadPart_at c ?_|with_reducible refine wpAny_madeBy_exc c ?_|wp_step)
 refine codeAny_call_builtin_code (Code.quiet_builtin _ F.quiet) (wpAny_check_new_subT F T c ?_);refine codeAny_exc_new_subT F T c ?_ L;generalize n:({cls:=.type "tuple",data:=.seq rest.toArray}:Obj)=v;generalize a:({cls:=.ref C,data:=.fields #[.ref h.objs.size,.none,.none,.none,.bool uA,.none]}:Obj)=j;have i:∀b o,h.get? b=u7 o->((h.push v).push j).get? b=u7 o:=λb o z=>zQ _ (zQ _ z)
 have f:=i _ _ c;have s:((h.push v).push j).get? (h.objs.size+1)=u7 j:=Heap.get?_push_at (by simp[qk]) (by rw[<-a];rfl);have k:j.cls=.ref C:=by rw[<-a]
 have J:(.ref C::bm).contains (.ref C)=u9:=by simp
 unfold isInstance
 repeat (first|(with_reducible refine wpAny_loadPart_at s ?_;rw[k])|(with_reducible refine wpAny_isSubtype_exc f ?_;rw[J])|wp_step)
 refine wpAny_typeLookup_tail f (H.keeps i) (T.keeps i) F.mroIs F.init.lookup ?_;rw[M];refine vD (vk ?_);unfold bindSpecial;refine vk (wpAny_typeOf ⟨_,i _ _ l,p⟩ ?_);rw[if_pos (by decide)];refine vH (vk (vE (K _ (h.objs.size+1) ⟨i,xK (jk _),h.objs.size,by rw[s,<-a],xK (zY _),?_⟩ (jk _)) (λr s' z=>?_) λ_ _ x=>x))
 .rw[<-n];exact zQ _ (Heap.get?_push_at rfl rfl)
 obtain⟨rfl,I⟩:=z
 wp_walk
 exact I
theorem ZNc(F:ExcBaseFacts B newId initId bmB)(T:OwnTail h bmB bm){j:Str->Option xH}{rest:List xH}{b:xy}{i:Obj}{Q:xH->xF->Prop}
  (a:h.get? C=u7 (excClassObj nm q C N bs bm hdct sn sub ab col dd k0 k1 k2 k3 k5 newId)) (k:h.Ns N j) (m:j "__init__"=u7 (.ref b)) (c:h.get? b=u7 i) (f:i.cls=.type "function")
  (l:∀h' e,Heap.MadeExcOf h h' e (.ref C) rest->h.objs.size<=e->vx (vW prog w) (A.under (.builtin "type.__call__" ⟨.ref C::rest,[]⟩)) (call (.ref b) (.ref e::rest)) (λr s'=>r=.none/\Q (.ref e) s') E ⟨h',g,d,t,os⟩) (o:rest.length<=sizeLine):
  vx (vW prog w) A (call (.ref C) rest) Q E ⟨h,g,d,t,os⟩:=by
 have u:=tc_lookup;have v:=tc_bind (.ref C);have s:(⟨h,g,d,t,os⟩:xF).TypeIs (.ref C) "type":=⟨_,a,rfl⟩;refine wpAny_call (codeAny_of_tree ?_)
 repeat (any_goals (first|assumption|with_reducible refine wpAny_loadPart_at a ?_|wp_step))
 refine⟨rfl,?_⟩;exact codeAny_call_builtin_at (Code.quiet_builtin _ (by decide +kernel)) entry_typeCall (wpAny_check_type_call_sub a (ZQx F T a k m c f (λh' e n p=>(l h' e n p)) o))
end
theorem ZMV{K:za}{h:Heap}{N:xy}{m:Str->Option xH}{n:Str}{v:xH}(X:K.In h)(G:h.Ns N m)(e:zb K N n=u7 (u7 v)):m n=u7 v:=by
 obtain⟨o,l,r,g,a,_,b⟩:=G;unfold zb at e;split at e
 .rename_i c d i k j q;have:=X _ _ q;rw[g]at this;cases this;cases a;split at e
  .rename_i y f;rw[<-b];unfold nsFind findBy;rw[<-jR,f];exact Option.some.inj e
  split at e<;>cases e
 cases e
theorem Mj{K:za}{h:Heap}{C:xy}(X:K.In h)(q:Ez K C=u9):∃d N w v bs o sub r b u g i j k e,h.get? C=u7 (excClassObj w v C N bs d u9 o sub r b u g i j k e "ValueError.__new__")/\OwnTail h vmro d/\
  (∃m,h.Ns N m/\∀f,Lf K C f=u9->m "__init__"=u7 (.ref f)):=by
 unfold Ez at q;split at q
 .rename_i u A y H;split at q
  .rename_i M d g i j k n e E B;simp[z5,beq_iff_eq,Bool.not_eq_true']at q;obtain⟨⟨⟨⟨⟨rfl,rfl⟩,a⟩,c⟩,J⟩,hok⟩:=q;have I:∀f,Lf K M f=u9->zb K A.ns "__init__"=u7 (u7 (.ref f)):=λf z=>by unfold Lf at z;rw[H]at z;exact beq_iff_eq.mp z
   obtain⟨w,bs,O,F,v,P,o,sub,r,b,L⟩:=A;dsimp only at E a hok c I;subst E a c;have s:y= #[g,i,j,k,u7 (.builtin "ValueError.__new__"),e]:=by obtain⟨l⟩:=y;simp only at B;rw[B]
   subst s;exact⟨d,F,w,v,bs,o,sub,r,b,u,g,i,j,k,e,X _ _ H,PySem.W.tail_of_in X J,_,.of_isNs (ux X hok),λf z=>ZMV X (.of_isNs (ux X hok)) (I f z)⟩
  cases q
 cases q
noncomputable def exO(C:xy)(od:Option xy)(t:xy):Obj:={cls:=.ref C,dict:=od,data:=.fields #[.ref t,.none,.none,.none,.bool uA,.none]}
def exo(e C:xy)(od:Option xy)(h:Heap):Prop:=∃t,h.get? e=u7 (exO C od t)
theorem ZBD(x:exo e C od h):ObjOk P w H h e (.ext (exo e C od)):=
 ⟨x,let⟨t,k⟩:=x;⟨_,k⟩,λb a ⟨t,k⟩ s=>⟨t,s _ k⟩⟩
section
variable{X:Cx}{C W:xy}{x:Str}{mc:xH}{p apos pos:Pos}{a1 a2:xA}{t:TA}
def tBI(C:xy)(t:TA):TE:=λσ H Q=>t σ H λvs H1=>∃e v,vs=[.ref e,v]/\H1 e=u7 (.ext (exo e C u8))/\Q .non H1
theorem ZQG(h:H a=u7 o):upd H a o=H:=by
 funext b;unfold upd;split
 .rename_i z;rw[z,h]
 rfl
theorem ZPz{pl:Sem Bool}(B:Ez X.K C=u9)(O:Gl X x)(Z:X.mg x=u7 (.ref W))(P:vg X.K (.ref W) "__getattribute__"=u7 (u7 (.builtin "type.__getattribute__")))(hr:uv X.K W mc=u9)
  (M:uw X.K (.ref W) mc "__init__"=u7 (.val (.builtin "ValueError.__init__"))) (ha:PA X [a1,a2] t) (w:(x==("__debug__":Str))=uA:=by decide)
  (U:vz [a1,a2] X.env=(uA,eval a1 X.env)::vz [a2] X.env:=by rfl) (y:(xN pos (vz [a2] X.env)).any (·.1)=uA:=by rfl)
  (ht:eval (.Call (.Attribute (.Name x p) "__init__" apos) [a1,a2] [] pos) X.env=(do
   let ov<-eval (.Name x p) X.env
   standAt apos.atName
   let(f,first)<-holding [ov] (getMethod ov "__init__" pl)
   callWith pos f first (xN pos (vz [a1,a2] X.env)) (xO pos (vJ [] X.env))):=by rfl):
  PE X (.Call (.Attribute (.Name x p) "__init__" apos) [a1,a2] [] pos) (tBI C t):=by
 intro i s σ H Q I h;refine vT (Ja I O Z ?_ w) ht;refine PySem.W.method_cls I.kIn P (PySem.W.cls_value I.kIn hr M (by decide) ?_);refine wk (thn (ha pos i _ σ H _ (I.tok _) h) λus S zz=>?_) U y;obtain⟨vs,A,j,r,e,v,Y,z,q⟩:=zz;subst Y;obtain⟨u,rfl⟩:∃u,us=[.ref e,u]:=by
  cases r with
  | cons r1 L=>
   cases L with
   |cons r3 r4=>
    cases r4;obtain rfl:=(r1);exact⟨_,rfl⟩
 obtain⟨⟨tp,c⟩,_,_⟩:=j.hok e _ z;obtain⟨bm,N,nm,qn,bs,sn,sub,ab,col,dd,k0,k1,k2,k3,k5,l,T,m,hN,_⟩:=Mj j.kIn B;obtain⟨hp,g,d,E,os⟩:=S;have F:=vh;refine wpAny_call (codeAny_call_builtin F.init.plain F.initEntry (wpAny_check_init_subT F T l c rfl ?_))
 wp_walk
 have a:((hp.push {cls:=.type "tuple",data:=.seq #[u]}).update e (.mapFields (·.setIfInBounds 0 (.ref hp.objs.size)))).get? e=u7 (exO C u8 hp.objs.size):=qz _ (zQ _ c) rfl
 have J:=j.write (t':=E) (by rw[z];trivial) (.inl rfl)
  (λb o n k=>by rw[qy _ _ (.symm n)];exact zQ _ k) ⟨_,a⟩ (ZBD ⟨_,a⟩)
 rw[ZQG z]at J;exact⟨.non,A,J,rfl,q⟩
end
theorem Ux(h:tyN v=n)(a:¬""=n):v=.type n:=by cases v<;>first|exact absurd h a|exact congrArg Value.type h
theorem ZL3(h:isRf v=u9):∃c,v=.ref c:=by cases v<;>first|exact⟨_,rfl⟩|cases h
theorem ZKD(h:l.map tyN=["ValueError","Exception","BaseException","object"]):l=vmro:=by
 rcases l with _|⟨a,_|⟨b,_|⟨c,_|⟨d,_|⟨e,l⟩⟩⟩⟩⟩<;>simp only[zk,jF,List.cons.injEq,reduceCtorEq,and_false]at h
 obtain⟨i,g,j,f,_⟩:=h;rw[Ux i (by decide),Ux g (by decide),Ux j (by decide),Ux f (by decide)]
theorem ZFL{P:List xH->Prop}(g:P vmro)(b:∀c r,P r->P (.ref c::r)):∀{l:List xH},Q4 l=u9->P l:=by
 intro l
 induction l with
 |nil=>intro e;cases e
 |cons a r f=>
  intro e;rcases Bool.or_eq_true_iff.mp e with e|e
  .obtain⟨d,h⟩:=qO.mp e;obtain⟨c,rfl⟩:=ZL3 d;exact b c r (f h)
  rw[ZKD (of_decide_eq_true e)];exact g
theorem ZNG(a:xH):∀{l:List xH},Q4 l=u9->refuseLoop a "__setattr__" l=pure ():=
 ZFL (P:=λl=>refuseLoop a "__setattr__" l=pure ()) (PySem.F.store_ValueError.passes a) λc r h=>by rw[refuseLoop_ref];exact h
theorem ZNr:∀{l:List xH},Q4 l=u9->l.contains (.type "object")=u9:=
 ZFL (P:=λl=>l.contains (.type "object")=u9) (by simp) λc r h=>by rw[List.contains_cons,h,Bool.or_true]
section
open PySem.W
variable{prog:xD}{w:xI}{A:x0}{s:xF}{K:vM}{x C:xy}{R:Result->xF->Prop}
theorem ZIr(X:K.In s.heap)(I:InstAt s.heap x ox C od)(hp:U9 K C=u9)(y:takerIn K C name=u7 r)
  (h:∀b,vx (vW prog w) A.in1 (match r with |some a=>Builtin.ObjectAttr.setByDescriptor a (.ref x) v|none=>Builtin.ObjectAttr.storeInOwnDict (.ref x) (.ref C) (.str name tk) name v b)
   (λn s'=>match n with | .done f=>R (.ok f) s' | .again c'=>c'.quiet=u9/\codeAny (vW prog w) A c' R s') (λe s'=>R (.error e) s') s):
  codeAny (vW prog w) A (.call (.builtin "object.__setattr__") ⟨[.ref x,.str name tk,v],[]⟩) R s:=by
 obtain⟨m,i,c⟩:=any_some hp;obtain⟨k,o,g⟩:=Option.bind_eq_some_iff.mp y;have d:m.mro≠[]:=λz=>by rw[z]at c;cases c
 have top:mroIn K C (.type "object")=u7 u9:=by unfold mroIn;rw[i];show(if m.mro.isEmpty=u9 then _ else _)=_;rw[if_neg (by simpa using d),ZNr c]
 have j:Looks (vW prog w) s.heap (mroOf (.ref C)) m.mro:=(looks_clsIn X i).andThen Looks.now;have l:Looks (vW prog w) s.heap (Builtin.ObjectAttr.storeTaker? k) r:=by
  rcases k with _|B
  .cases g;exact .now
  obtain⟨p,q,u⟩:=zE.mp g;subst u
  exact(looks_takesIn X q).andThen (by cases p<;>exact .now)
 refine codeAny_call_builtin F.store_object.slot.plain F.store_object.entry (@check_slot (vW prog w) _ _ _ "object.__setattr__" "object" "__setattr__" (.ref x) [.str name tk,v] [] _ F.store_object.kind F.store_object.split (I.type.andThen (looks_mroIn X top)) (F.store_object.args (.ref x) (.str name tk) v) ?_);rw[osa_eq,refuse_eq];apply vk;apply vk;refine I.type.here ?_;apply vk
 refine j.here ?_;rw[ZNG _ c];apply vH;apply vk;refine I.type.here ?_;apply vk;refine(looks_findIn X o).here ?_;apply vk;exact l.here (h _)
end
section
variable{prog:xD}{w:xI}{A:x0}{E:xH->xF->Prop}{s:xF}{K:za}{e C t:xy}{name:Str}{v:xH}
theorem ZLy(X:K.In s.heap)(g:s.heap.get? e=u7 (exO C u8 t))
  (F:zc K (.ref C) "__setattr__"=u7 (u7 (.builtin "object.__setattr__"))) (hp:U9 K C=u9) (M:qf K C name=u7 u8) (L:qc K C=u9)
  (h:∀h' i tk,s.heap.objs.size<=i->h'.get? e=u7 (exO C (u7 i) t)->h'.Ns1 i (λy=>if y=name then u7 v else u8)->(∀b o,b≠e->s.heap.get? b=u7 o->h'.get? b=u7 o)->Q () {s with heap:=h',toks:=tk}):
  vx (vW prog w) A (setAttr (.ref e) name v) Q E s:=by
 have J:qa s.heap e (exO C u8 t) C u8:=⟨g,rfl,rfl,trivial⟩;refine wj X J F (ZIr X J hp M λb=>?_);obtain⟨N,I,j⟩:=vR L;refine vk (vH (vk (vk (wpAny_loadPart g (vk (PySem.W.Looks.here (wx X I) ?_))))));rw[j];have d:(s.heap.push {cls:=.type "dict",data:=.dict #[]}).get? e=u7 (exO C u8 t):=zQ _ g
 have u:=z8 (zx g);refine vk (wpAny_alloc' ?_);refine vk (wpAny_update' d ?_);unfold dictMade;refine vH ?_;unfold Builtin.ObjectAttr.storeInDict Builtin.ObjectAttr.newKeyGuard;refine vk (vH (vk (wpAny_nsSet1 (.of_empty ⟨_,#[],_,(Heap.get?_update_ne _ _ _ _ u.symm).trans (Heap.get?_push_at rfl rfl),rfl,λy H=>absurd H (by simp),λ_=>rfl⟩) λh' c f=>?_)))
 obtain⟨O,z,B,k,p,m⟩:=c.count (.cons name v Within.nil);refine vk (wpAny_lookBehind k (by rw[p];exact pastItsLine_dict (z6 m (by rw[zL,qS,vY];lia))) ?_);exact vH (h h' s.heap.objs.size _ (zY _) ((f.2 e u).trans (qz _ d rfl)) c λb o n r=>((f.2 b (z8 (zx r))).trans ((Heap.get?_update_ne _ _ _ _ n).trans (zQ _ r))))
end
structure XSet (K:za) (C:xy) (f:Str):Prop where
 ec:Ez K C=u9
 sa:zc K (.ref C) "__setattr__"=u7 (u7 (.builtin "object.__setattr__"))
 po:U9 K C=u9
 tk:qf K C f=u7 u8
 hd:qc K C=u9
section
variable{X:Cx}{C:xy}{f:Str}{o value:xA}{pos pos':Pos}{ta tv:TE}
noncomputable def sXf(C:xy)(f:Str)(ta tv:TE):TS:=λD σ H=>tv σ H λy H1=>ta σ H1 λx H2=>∃e,x=.ref e/\H2 e=u7 (.ext (exo e C u8))/\
 ∀dx o,H2 dx=u8->dx≠e->D.nx σ (upd (upd H2 e (.ext (exo e C (u7 dx)))) dx (.frz o (.xd [(f,y)])))
theorem ZIh(S:XSet X.K C f)(ha:PE X o ta)(hv:PE X value tv)(hs:swapsWith value (u7 (.Attribute o f pos')) pos.line X.env=pure uA):PS X (.Assign [.Attribute o f pos'] value pos) (sXf C f ta tv):=by
 intro i s N H D I h;refine plainObj_wpAny_Assign_Attribute (thn (hv i s N H _ I h) λu s1 ⟨y,H1,I1,ry,q⟩=>thn (ha i s1 N H1 _ I1 q) λov W zz=>?_) hs;obtain⟨x,c,v,rx,e,ex,m,q2⟩:=zz;subst ex;obtain rfl:ov=Value.ref e:=rx;obtain⟨⟨t,F⟩,_,_⟩:=v.hok e _ m;refine ZLy v.kIn F S.sa S.po S.tk S.hd λr a T Y j Q A=>?_
 have l:=v.hok.fresh Y;have ne:a≠e:=λz=>by rw[z,m]at l;cases l
 obtain⟨d,J⟩:∃d,r.get? a=u7 d:=by obtain⟨o,_,_,k,_⟩:=Q;exact⟨o,k⟩
 have p:upd c e (.ext (exo e C (u7 a))) a=u8:=by unfold upd;rw[if_neg ne];exact l
 have K2:HOk X.prog X.w (upd (upd c e (.ext (exo e C (u7 a)))) a (.frz d (.xd [(f,y)]))) r:=λb O z=>by
  by_cases Z:b=a
  .subst Z;have zo:O=.frz d (.xd [(f,y)]):=by
    have E:upd (upd c e (.ext (exo e C (u7 b)))) b (.frz d (.xd [(f,y)])) b=u7 (.frz d (.xd [(f,y)])):=by unfold upd;rw[if_pos rfl]
    rw[E]at z;exact(Option.some.inj z).symm
   subst zo;refine⟨J,_,Q,λg=>?_⟩;by_cases M:g=f
   .subst M;simp[qC];exact ry
   have:(g==f)=uA:=by simpa using M
   simp[qC,this,M]
   trivial
  have E:upd c e (.ext (exo e C (u7 a))) b=u7 O:=by unfold upd at z⊢;rw[if_neg Z]at z;exact z
  refine((v.write (t':=T) (by rw[m];trivial) (.inl rfl) (λb o n k=>A b o n k) ⟨_,j⟩ (ZBD ⟨t,j⟩)).hok b O E).stay (λ_ _ _ k=>k) (λP k=>?_) λP xs k=>?_
  .have:P≠a:=λw=>by rw[w,p]at k;cases k
   unfold upd at k⊢;rw[if_neg this];exact k
  .have:P≠a:=λw=>by rw[w,p]at k;cases k
   unfold upd at k⊢;rw[if_neg this];exact k
 have B:∀b,b≠e->b≠a->upd (upd c e (.ext (exo e C (u7 a)))) a (.frz d (.xd [(f,y)])) b=c b:=λb n1 n2=>by unfold upd;rw[if_neg n2,if_neg n1]
 have U:Un X.fs [] c (upd (upd c e (.ext (exo e C (u7 a)))) a (.frz d (.xd [(f,y)]))) W.heap r:=by
  have nd:∀b o,W.heap.get? b=u7 o->b≠a:=λb o k z=>by have:=zx k;rw[z]at this;exact absurd this (Nat.not_lt.mpr Y)
  have L:∀b,c b=u8->b≠e:=λb k z=>by rw[z,m]at k;cases k
  refine⟨λb o k n _ _=>A b o (L b n) k,λb o k n _ _=>⟨o.slots,A b o (L b n) k⟩,λb o k n _=>by rw[B b (L b n) (nd b o k)];exact n,λb o k _=>?_,λb xs k=>?_,λb o u k=>?_,λb ps k=>⟨#[],?_⟩⟩
  .by_cases z:b=e
   .subst z;exact⟨_,j⟩
   exact⟨o,A b o z k⟩
  .rw[B b (λz=>by rw[z,m]at k;cases k) (λz=>by rw[z,l]at k;cases k)];exact k
  .rw[B b (λz=>by rw[z,m]at k;cases k) (λz=>by rw[z,l]at k;cases k)];exact k
  rw[B b (λz=>by rw[z,m]at k;cases k) (λz=>by rw[z,l]at k;cases k)];simpa using k
 exact⟨N,_,v.un U K2,q2 a d l ne⟩
end
def intS(i:Int):Prop:=i.natAbs.log2<1920/\(Str.ofString (toString i)).length<=1000
def ZA0(w:V):Prop:=(∃i:Int,w=.int i/\intS i)\/w=.non
section
variable{X:Cx}{j:Nat}{v s1 s2:Str}{k1 k2 p1 p2 pv pf pos}
def tFs(j:Nat):TE:=λσ H Q=>∃w:V,σ[j]?=u7 (u7 w)/\ZA0 w/\∀x,Q (.str x) H
theorem ZLv(K:X.N[j]?=u7 v)(B:Vis X.env.scope v)(P:s1.length<=1000)(O:s2.length<=1000)(L:(v==("__debug__":Str))=uA:=by decide)(p:(v==("__classdict__":Str))=uA:=by decide):
  PE X (.JoinedStr [.Constant (.str s1) k1 p1,.FormattedValue (.Name v pv) (-1) u8 pf,.Constant (.str s2) k2 p2] pos) (tFs j):=by
 intro d s l H Q I h;obtain⟨w,y,hw,q⟩:=h;have c:∀a b:Str,(a++b).length=a.length+b.length:=λa b=>by show(Str.append a b).length=_;unfold Str.append Str.length;simp
 have sz:∀n,n<=1000000->n<=sizeLine:=λn h=>by rw[vY];lia
 refine JoinedStr_many (joinParts_cons (thn (Sq d s l H (λx g=>x=.str s1/\g=H) I ⟨rfl,rfl⟩) λu o f=>?_));obtain⟨x,z,C,e,rfl,rfl⟩:=f;obtain⟨S,rfl⟩:=e;refine⟨sz _ (by rw[c];show 0+_<=_;lia),?_⟩;refine joinParts_cons (FormattedValue_plain (thn (R9 K B L p d o l z (λx g=>x=w/\g=z) C ?_) λu J f=>?_))
 .exact⟨w,y,rfl,rfl⟩
 obtain⟨x,k,A,e,rfl,rfl⟩:=f;rcases hw with⟨i,rfl,M,E⟩|rfl
 .obtain⟨T,rfl⟩:=e;refine formatField_int_small M ⟨sz _ (by rw[c,c];show 0+_+_<=_;lia),?_⟩;refine joinParts_consE (joinParts_cons (thn (Sq d _ l k (λx g=>x=.str s2/\g=k) (A.tok _) ⟨rfl,rfl⟩) λu r f=>?_));obtain⟨x,m,t,e,rfl,rfl⟩:=f;obtain⟨F,rfl⟩:=e;exact⟨sz _ (by rw[c,c,c];show 0+_+_+_<=_;lia),joinParts_nilE (joinParts_nil ⟨.str _,m,t.tok _,⟨_,rfl⟩,q _⟩ (sz _ (by rw[c,c,c];show 0+_+_+_<=_;lia)))⟩
 .cases(e);have E:(Str.ofString "None").length<=1000:=by decide
  refine wpAny_formatField_none ⟨sz _ (by rw[c,c];show 0+_+_<=_;lia),?_⟩;refine joinParts_consE (joinParts_cons (thn (Sq d _ l k (λx g=>x=.str s2/\g=k) (A.tok _) ⟨rfl,rfl⟩) λu r f=>?_));obtain⟨x,m,t,e,rfl,rfl⟩:=f;obtain⟨F,rfl⟩:=e;exact⟨sz _ (by rw[c,c,c];show 0+_+_+_<=_;lia),joinParts_nilE (joinParts_nil ⟨.str _,m,t.tok _,⟨_,rfl⟩,q _⟩ (sz _ (by rw[c,c,c];show 0+_+_+_<=_;lia)))⟩
end
noncomputable def spI(C:xy)(f:Str):Sp:=λvs H Q _=>∃(e:xy)(i:V),vs=[.ref e,i]/\ZA0 i/\H e=u7 (.ext (exo e C u8))/\∀dx o,H dx=u8->dx≠e->Q .non (upd (upd H e (.ext (exo e C (u7 dx)))) dx (.frz o (.xd [(f,i)])))
structure XBase (K:za) (mg:Str->Option xH) (x:Str) (W:xy):Prop where
 m:mg x=u7 (.ref W)
 s:vg K (.ref W) "__getattribute__"=u7 (u7 (.builtin "type.__getattribute__"))
 r:uv K W (.type "type")=u9
 f:uw K (.ref W) (.type "type") "__init__"=u7 (.val (.builtin "ValueError.__init__"))
theorem ZHg{P:xD}{w:xI}{K:za}{t:Str->Option xH}{c:Heap}{x b v f u n:Str}{st:xG}{Z C W:xy}{k:Nat}{pw U g pe B M J T p5 p6 p7 p8 pv L:Pos}{k1 k2}
  (F:Fun K x qual st Z fd) (S:FnScope ["self",v] ["self",v] (Ay st)) (XS:XSet K C f) (O:XBase K t b W)
  (hb:Cj st=[.Expr (.Call (.Attribute (.Name b pw) "__init__" U) [.Name "self" B,.JoinedStr [.Constant (.str u) k1 M,.FormattedValue (.Name v pv) (-1) u8 L,.Constant (.str n) k2 J] T] [] g) pe,.Assign [.Attribute (.Name "self" p5) f p6] (.Name v p8) p7])
  (l1:u.length<=1000) (l2:n.length<=1000) (hgl:(Ay st).names.lookup b=u7 .globalImplicit) (Y:(b==("__debug__":Str))=uA) (o:(v==("__debug__":Str))=uA) (j:(v==("__classdict__":Str))=uA)
  (hvs:Vis (Ay st) "self") (l:Vis (Ay st) v)
  (hev:∀env:Env,∃pl:Sem Bool,eval (.Call (.Attribute (.Name b pw) "__init__" U) [.Name "self" B,.JoinedStr [.Constant (.str u) k1 M,.FormattedValue (.Name v pv) (-1) u8 L,.Constant (.str n) k2 J] T] [] g) env=(do
   let ov<-eval (.Name b pw) env
   standAt U.atName
   let(f,first)<-holding [ov] (getMethod ov "__init__" pl)
   callWith g f first (xN g (vz [.Name "self" B,.JoinedStr [.Constant (.str u) k1 M,.FormattedValue (.Name v pv) (-1) u8 L,.Constant (.str n) k2 J] T] env)) (xO g (vJ [] env)))):
  FnOk P w K t c CX0 (k+1) Z fd ["self",v] (spI C f):=by
 refine F.ok S (λvs H Q E zz=>by obtain⟨e,i,z,_⟩:=zz;rw[z];rfl) (λcdv A d s H vs Q E hr h=>?_);obtain⟨e,i,rfl,hi,hx,q⟩:=h;rw[hb];generalize I:(Fd CX0 P w K t c ["self",v] qual (Ay st) Z cdv A d s H E).nox=X;have y:X.K=K:=by rw[<-I];rfl
 have hm:X.mg=t:=by rw[<-I];rfl
 have hN:X.N=(["self",v]:List Str):=by rw[<-I];rfl
 have hs:X.env.scope=Ay st:=by rw[<-I];rfl
 have a:∀p,PE X (.Name "self" p) (Qc 0):=λp=>R9 (by rw[hN];rfl) (hs▸hvs) (by decide) (by decide)
 have pv':∀p,PE X (.Name v p) (Qc 1):=λp=>R9 (by rw[hN];rfl) (hs▸l) o j
 have hG:Gl X b:=by unfold Gl;rw[<-I];exact hgl
 obtain⟨pl,hpl⟩:=hev X.env;have c1:PE X (.Call (.Attribute (.Name b pw) "__init__" U) [.Name "self" B,.JoinedStr [.Constant (.str u) k1 M,.FormattedValue (.Name v pv) (-1) u8 L,.Constant (.str n) k2 J] T] [] g) (tBI C (Rq (Qc 0) (Rq (tFs 1) Pk))):=
  ZPz (y▸XS.ec) hG (hm▸O.m) (y▸O.s) (y▸O.r) (y▸O.f) (Kr (a B) (Kr (ZLv (by rw[hN];rfl) (hs▸l) l1 l2 o j) Pj)) Y rfl rfl hpl
 refine⟨_,ZGi (ZHL c1 rfl) (ZGh (ZIh (y▸XS) (a p5) (pv' p8) rfl)),?_⟩;exact⟨.ref e,rfl,i,rfl,hi,λxx=>⟨e,_,rfl,hx,⟨i,rfl,.ref e,rfl,e,rfl,hx,q⟩⟩⟩
section
variable{M:Model}{A:x0}{E:xH->xF->Prop}{env:Env}
variable{nm q:Str}{C N:xy}{bs bm:List xH}{hdct:Bool}{sn:List Str}{sub:List xH}{ab:Bool}{col:Option Bool}{dd:Option xy}{k0 k1 k2 k3 k5:Option xH}{newId:String}
theorem ZIQ(L:A.handled=u8)
  (h:vx M A x (λv b=>∃e od t m N H q bs i p sub r l w y z B F u c,v=.ref e/\b.heap.get? C=u7 (excClassObj H q C N bs m i p sub r l w y z B F u c)/\m.contains (.type "BaseException")=u9/\
   b.heap.get? e=u7 {cls:=.ref C,dict:=od,data:=.fields #[.ref t,.none,.none,.none,.bool uA,.none]}/\E (.ref e) b) E s):vx M A (raiseStmt env (u7 x) u8) Q E s:=by
 unfold raiseStmt;refine vk (vE h (λv b j=>?_) λ_ _ x=>x);obtain⟨e,od,t,m,N,H,q,bs,i,p,sub,r,l,w,y,z,B,F,u,c,rfl,o,I,K,J⟩:=j;have n:(.ref C::m).contains (.type "BaseException")=u9:=by rw[List.contains_cons,I,Bool.or_true]
 obtain⟨hp,g,d,O,P⟩:=b
 repeat (first|with_reducible refine wpAny_loadPart_at K ?_|with_reducible refine wpAny_loadPart_at o ?_|(with_reducible refine wpAny_isSubtype_exc o ?_;rw[n])|wp_step)
 exact wpAny_raiseNew_none L J
theorem ZGL(z:A.handled=u8)
  (h:vx M A (eval x env) (λv b=>∃e od t j N B q bs d r sub w i o p u y m n c,v=.ref e/\b.heap.get? C=u7 (excClassObj B q C N bs j d r sub w i o p u y m n c)/\j.contains (.type "BaseException")=u9/\
   b.heap.get? e=u7 {cls:=.ref C,dict:=od,data:=.fields #[.ref t,.none,.none,.none,.bool uA,.none]}/\E (.ref e) b) E s):vx M A (exec (.Raise (u7 x) u8 pos) env) Q E s:=by
 rw[arm_exec_Raise];exact vk (wpAny_standAt (ZIQ z (vk (vE h (λv l g=>vk (wpAny_standAt (vH g))) λ_ _ x=>x))))
end
section
variable{X:Cx}{C fI:xy}{f x:Str}{np cpos pos:Pos}{a:xA}{ta:TA}{E:XK}{k:Nat}{fd:xB}{v:Str}
noncomputable def tRz(C:xy)(f:Str)(E:XK)(ta:TA):TS:=λ_ σ H=>ta σ H λvs H1=>∃i:V,vs=[i]/\ZA0 i/\∀dx o,H1 dx=u8->E (.ref C) (u7 dx) (upd H1 dx (.frz o (.xd [(f,i)])))
theorem ZLt(S:X.calm=u9)(hs:X.stack=X.env::X.outer)(hex:X.ex=[])(hfr:X.env.frame=u7 X.env.locals)(hxe:∀e s,Ju X E e s->X.xe e s)
  (XS:XSet X.K C f) (hi:Lf X.K C fI=u9) (hfn:∃o,X.K.lookup fI=u7 o/\o.cls=.type "function") (F:FnOk X.prog X.w X.K X.mg X.base CX0 k fI fd ["self",v] (spI C f)) (hr:Room (k+1) X.A) (hb:Binds X.K fd ["self",v] [])
  (hg:Gl X x) (hm:X.mg x=u7 (.ref C)) (hk:zd X.K (.ref C)=u9) (ha:PA X [a] ta) (hdb:(x==("__debug__":Str))=uA:=by decide)
  (he:vz [a] X.env=(uA,eval a X.env)::vz [] X.env:=by rfl) (hpl:(xN cpos (vz [] X.env)).any (·.1)=uA:=by rfl):
  PS X (.Raise (u7 (.Call (.Name x np) [a] [] cpos)) u8 pos) (tRz C f E ta):=by
 intro vP s σ H D I h;refine ZGL (C:=C) (I.ok.hd S) ?_;refine vv (Ja I hg hm ?_ hdb);refine qd I.ok.mod.kin hk (thn (ha cpos vP s σ H _ I h) λus s1 ⟨vs,B,U,r,i,ev,hi',q⟩=>⟨U.kIn,?_⟩) he hpl;subst ev;obtain⟨bm,N,nm,qn,bs,sn,sub,ab,col,dd,k0,k1,k2,k3,k5,hcl,T,m,hN,hin⟩:=Mj U.kIn XS.ec;obtain⟨oI,hfI,hfc⟩:=hfn;have hl1:us.length<=sizeLine:=by rw[<-r.length,vY];show 1<=_;decide
 obtain⟨hp,g,d,tk,os⟩:=s1;have FB:=vh;refine ZNc FB T hcl hN (hin fI hi) (U.kIn _ _ hfI) hfc (λh' e j hz=>?_) hl1;obtain⟨t,ht,_,_⟩:=j.there;have I2:=U.laid (t':=tk) j.keeps hz (ZBD ⟨t,ht⟩);have fe:=U.hok.fresh hz;obtain⟨u,rfl⟩:∃u,us=[u]:=by
  cases r with
  |cons r1 r2=>cases r2;exact⟨_,rfl⟩
 have h2e:upd B e (.ext (exo e C u8)) e=u7 (.ext (exo e C u8)):=by unfold upd;rw[if_pos rfl]
 have l:∀b,b≠e->upd B e (.ext (exo e C u8)) b=B b:=λb n=>by unfold upd;rw[if_neg n]
 refine wpAny_call (xU (F.run _ X.stack _ _ ⟨[Value.ref e,u],[]⟩ [Value.ref e,u] [V.ref e,i] (λw H3=>w=.non/\∃c o,B c=u8/\c≠e/\H3=upd (upd (upd B e (.ext (exo e C u8))) e (.ext (exo e C (u7 c)))) c (.frz o (.xd [(f,i)]))) E0 (hr.make C [u] [])
  (I2.env0.make C [u] []) (by simpa using hb _ [Value.ref e,u] I2.kIn rfl) (.cons rfl r) ⟨e,i,rfl,hi',h2e,λc o n1 n2=>⟨rfl,c,o,by rw[<-l c n2];exact n1,n2,rfl⟩⟩) λr s' y=>?_)
 cases r with
 |error e=>exact y.elim
 | ok fl=>
  cases fl with
  | ret w=>
   obtain⟨_,_,I3,_⟩:=I2.after y;obtain⟨vw,H3,os',O,un,hok,rw',rfl,c,o,nd,ne,rfl⟩:=y;refine⟨rw',?_⟩;have p:∀b,b≠e->upd (upd (upd B e (.ext (exo e C u8))) e (.ext (exo e C (u7 c)))) c (.frz o (.xd [(f,i)])) b=upd B c (.frz o (.xd [(f,i)])) b:=λb n=>by
    unfold upd;split
    .rfl
    simp
   have P:upd (upd (upd B e (.ext (exo e C u8))) e (.ext (exo e C (u7 c)))) c (.frz o (.xd [(f,i)])) e=u7 (.ext (exo e C (u7 c))):=by unfold upd;rw[if_neg (Ne.symm ne),if_pos rfl]
   have feN:upd B c (.frz o (.xd [(f,i)])) e=u8:=by unfold upd;rw[if_neg (Ne.symm ne)];exact fe
   obtain⟨⟨t',Z⟩,_,_⟩:=hok e _ P;obtain⟨bm',N',nm',qn',bs',sn',sub',ab',Y,dd',l0,l1,l2,l3,l5,hcl',T',_⟩:=Mj I3.kIn XS.ec;have L:∀b o,hp.get? b=u7 o->b≠e:=λb o k z=>by rw[z,j.new]at k;cases k
   have mk:Made X B ⟨hp,g,d,tk,os⟩ e (.ref C) (u7 c) s' (upd B c (.frz o (.xd [(f,i)]))):=by
    refine⟨os',O,⟨λb o k n hb Q=>un.keep b o (j.keeps b o k) (by rw[l b (L b o k)];exact n) hb Q,λb o k n hb Q=>un.slot b o (j.keeps b o k) (by rw[l b (L b o k)];exact n) hb Q,λb o k n Q=>?_,λb o k Q=>un.there b o (j.keeps b o k) Q,λb xs k=>?_,λb o u k=>?_,λb ps k=>?_⟩,λb ob z=>?_,⟨_,_,Z,rfl,rfl,rfl,rfl⟩,feN,j.new⟩
    .rw[<-p b (L b o k)];exact un.free b o (j.keeps b o k) (by rw[l b (L b o k)];exact n) Q
    .have J:b≠e:=λz=>by rw[z,fe]at k;cases k
     rw[<-p b J];exact un.tups b xs ((l b J)▸k)
    .have J:b≠e:=λz=>by rw[z,fe]at k;cases k
     rw[<-p b J];exact un.frzs b o u ((l b J)▸k)
    .have J:b≠e:=λz=>by rw[z,fe]at k;cases k
     rw[<-p b J];exact un.tbls b ps ((l b J)▸k)
    have J:b≠e:=λz'=>by rw[z',feN]at z;cases z
    rw[<-p b J]at z;refine(hok b ob z).stay (λ_ _ _ k=>k) (λb' k=>?_) λb' xs k=>?_
    .rw[<-p b' (λz'=>by rw[z',P]at k;cases k)];exact k
    rw[<-p b' (λz'=>by rw[z',P]at k;cases k)];exact k
   exact⟨e,u7 c,t',bm',N',nm',qn',bs',u9,sn',sub',ab',Y,dd',l0,l1,l2,l3,l5,_,rfl,hcl',T'.hasType FB.hasBase,Z,hxe _ _ (ZDi hs hex hfr U mk (q c o nd) ⟨C,rfl⟩)⟩
  |_=>exact .elim y
end
section
variable{X:Cx}{vP:List (xy×Obj)}{σ:St}{H H':Hp}{s s':xF}{B h'':Heap}{ea:xy}{cls:xH}{od:Option xy}{E:XK}{fl:xH}
theorem ZMf(I:Inv X vP σ H s)(v:s'.os=s.os)(h:AllBare s'.gens)(un:Un (frs X.stack) [] H H' s.heap s'.heap)(hok:HOk X.prog X.w H' s'.heap)
  (N:∀b o,s.heap.get? b=u7 o->H b=u8->b∉frs X.stack->B.get? b=u7 o) (A:∀b,H' b≠u8->∃o,B.get? b=u7 o) (M:B.get? ea=u8) (st:B.StaysIn s'.heap) (l:s.heap.get? ea=u8)
  (n:Noted B X.stack ea cls od fl s'.heap g):∃c vs,g.get? ea=u7 c/\c.cls=cls/\c.dict=od/\c.data=.fields vs/\H' ea=u8/\Inv X vP σ (upd H' ea (.frz c (.own 0))) {s' with heap:=g}:=by
 obtain⟨c,vs,T,oT,ts,r,⟨O,P⟩,p,_⟩:=n.tr;have e:H' ea=u8:=by
  cases z:H' ea with
  |none=>rfl
  |some u=>
   obtain⟨o,k⟩:=A ea (by rw[z];simp);rw[M]at k;cases k
 have d:∀b,b≠ea->upd H' ea (.frz c (.own 0)) b=H' b:=λb k=>by unfold upd;rw[if_neg k]
 have Q:∀b o,s.heap.get? b=u7 o->b≠ea:=λb o k z=>by rw[z,l]at k;cases k
 refine⟨c,vs,r,O,P,p,e,I.call' (ch:=[]) v ⟨λb o q f i _=>n.st b o (N b o q f i),λb o q f i _=>?_,λb o q f y=>?_,λb o q y=>?_,λb F q=>?_,λb o u q=>?_,λb W q=>?_⟩ (λb K z=>?_) h λb z=>absurd z (by simp)⟩
 .obtain⟨sl,k⟩:=un.slot b o q f i (by simp);obtain⟨_,o2,C,L⟩:=I.stack.mem i;rw[q]at C;cases C;obtain⟨t,Z⟩:=n.up b _ k L;exact⟨t,Z⟩
 .rw[d b (Q b o q)];exact un.free b o q f y
 .obtain⟨Y,S⟩:=un.there b o q y;exact n.th b Y S
 .have:=un.tups b F q;rw[d b (λz=>by rw[z,e]at this;cases this)];exact this
 .have:=un.frzs b o u q;rw[d b (λz=>by rw[z,e]at this;cases this)];exact this
 .obtain⟨m,this⟩:=un.tbls b W q;exact⟨m,by rw[d b (λz=>by rw[z,e]at this;cases this)];exact this⟩
 by_cases J:b=ea
 .subst J;have U:K=.frz c (.own 0):=by unfold upd at z;rw[if_pos rfl]at z;exact(Option.some.inj z).symm
  subst U;exact⟨r,c,r⟩
 .rw[d b J]at z;refine((ZFP hok A st n.st) b K z).stay (λ_ _ _ k=>k) (λx k=>?_) λx F k=>?_
  .rw[d x (λj=>by rw[j,e]at k;cases k)];exact k
  rw[d x (λj=>by rw[j,e]at k;cases k)];exact k
theorem lands(k:X.stack=X.env::X.outer)(l:X.env.frame=u7 X.env.locals)(I:Inv X vP σ H s)(h:CXx X.prog X.w X.stack H s E e s')
  (q:∀(d:xy)(C:xH)(od:Option xy)(H':Hp)(c:Obj)(vs:Array xH)(b:Heap),e=.ref d->b.get? d=u7 c->c.cls=C->c.dict=od->c.data=.fields vs->E C od H'->H' d=u8->Inv X vP σ (upd H' d (.frz c (.own 0))) {s' with heap:=b}->
   (∃B:Heap,Trc b B d C od .none)->(∃L,C=.ref L)->Q () {s' with heap:=b}):
  vx (vW X.prog X.w) X.A (noteFrame e X.env) (λ_ x=>vx (vW X.prog X.w) X.A (setFlight e u8) Q E' x) E' s':=by
 obtain⟨d,cls,od,H',B,rfl,M,g,un,hok,a,v,j,y,o⟩:=h;have p:=a.fr;rw[k]at p;refine ZHC (by rw[I.ok.frames,k]) p l a.tr a.st a.eb λN i=>?_
 refine Xe i.fr i.tr i.st λt r=>?_
 have n:=i.trans r;rw[<-k]at n;obtain⟨c,vs,F,z,K,m,u,J⟩:=ZMf I M g un hok v a.al a.eb a.st j n;exact q d cls od H' c vs t rfl F z K m y u J ⟨B,n.tr⟩ o
end
section
variable{M:Model}{A:x0}{E:xH->xF->Prop}{h:Heap}{g:Array GenState}{d:Drawn}{t:Nat}{os:OsState}
theorem ZQU
  (j:h.get? C=u7 (excClassObj nm q C N bs bm hdct sn sub ab col dd k0 k1 k2 k3 k5 newId)) (i:h.get? W=u7 (excClassObj nm' q' W N' bs' bm' hdct' sn' sub' ab' col' dd' l0 l1 l2 l3 l5 newId')) (n:h.get? e=u7 oe) (m:oe.cls=.ref C)
  (l:bm'.contains (.type "BaseException")=u9) (c:(Value.ref C::bm).contains (.ref W)=b) (k:Q b ⟨h,g,d,t,os⟩):vx M A (excMatches (.ref e) (.ref W)) Q E ⟨h,g,d,t,os⟩:=by
 have a:(.ref W::bm').contains (.type "BaseException")=u9:=by rw[List.contains_cons,l,Bool.or_true]
 have f:=tc_notTuple;unfold excMatches
 repeat (first|(with_reducible refine wpAny_loadPart_at n ?_;rw[m])|with_reducible refine wpAny_loadPart_at i ?_|(with_reducible refine wpAny_isSubtype_exc i ?_;rw[a])|(with_reducible refine wpAny_isSubtype_exc j ?_;rw[c])|wp_step)
 cases b<;>(wp_walk;exact k)
theorem ZCR(x:Trc s.heap B e cls od .none)(q:∀h',(∀b o,s.heap.get? b=u7 o->h'.get? b=u7 o)->Q () {s with heap:=h'}):vx M A (setFlight (.ref e) u8) Q E s:=by
 obtain⟨I,F,T,r,l,w,_,u,n,⟨H,v⟩,f,m,j⟩:=x;unfold setFlight;refine vk (vC w u n ?_);rw[if_pos (by simp)];refine wpAny_setField f m (qK.mp j).1 (q _ λb o k=>?_);by_cases z:b=T
 .subst z;rw[f]at k;cases k;rw[qz _ f (Obj.isFreed_of_fields (Obj.data_mapFields m _))];obtain⟨c,C,p,y⟩:=r;obtain rfl:p=.fields l:=m;unfold Obj.mapFields;dsimp only
  congr 2
  have:l.setIfInBounds 3 Value.none=l:=by
   refine Array.ext_getElem? λi=>?_
   rw[Array.getElem?_setIfInBounds];split
   .rename_i z;subst z;rw[if_pos (qK.mp j).1,j]
   rfl
  exact congrArg _ this
 rw[qy _ _ (.symm z)];exact k
end
section
variable{X:Cx}{vP:List (xy×Obj)}{σ:St}{H:Hp}{s:xF}
theorem ZFA(I:Inv X vP σ H s)(S:X.N.Nodup)(Y:X.N[i]?=u7 n)(hk:X.env.kindOf n=u7 .local)
  (q:∀s',Inv X vP (σ.set i u8) H s'->Q () s'):vx M A (do bindName X.env n .none;unbindBehindTheSuite X.env n pos) Q E s:=by
 obtain⟨m,J,W⟩:=I.loc;have hp:(X.env.scope.kind == .class||(X.env.scope.kind == .module&&X.env.locals != X.env.globals))=uA:=by rw[I.ok.kind];rfl
 refine wpAny_nameGoes_keeps hk J hp λh' v x g=>q _ ?_
 have h:∀b o,X.s₀.heap.get? b=u7 o->b≠X.env.locals:=λb o e=>z8 (zq (zx e) I.ok.above)
 refine⟨I.ok,I.os,I.bare,⟨λb o e t f w=>(g.2 b (h b o e)).trans (I.base.keep b o e t f w),λb o e t f w=>?_,I.base.free,λb o e w=>?_,I.base.tups,I.base.frzs,I.base.tbls⟩,⟨_,x,λj y L r l K=>?_⟩,λy c e=>?_,I.free,I.G9,λp hp=>?_,?_,by rw[jy];exact I.len⟩
 .obtain⟨F,r⟩:=I.base.slot b o e t f w;exact⟨F,(g.2 b (h b o e)).trans r⟩
 .obtain⟨T,r⟩:=I.base.there b o e w;exact⟨T,(g.2 b (h b o e)).trans r⟩
 .have B:j≠i:=λz=>by
   subst z;rw[qI]at l;split at l
   .split at l<;>cases l
   rename_i z;exact z rfl
  rw[qN (.symm B)]at l;obtain⟨U,P,z⟩:=W j y L r l K;refine⟨U,P,?_⟩;rcases z with⟨k,e⟩|⟨k,c,e,z⟩
  .refine .inl ⟨k,?_⟩;have:y≠n:=λe=>B (ZAB S r (e▸Y))
   simp[this,e]
  exact .inr ⟨k,c,e,z.sameBut g (I.cne y c e)⟩
 .obtain⟨Z,z⟩:=I.cell y c e;exact⟨Z,z.sameBut g (I.cne y c e)⟩
 .obtain⟨e,t,C,O,d⟩:=I.pin p hp;exact⟨(g.2 p.1 C).trans e,t,C,O,d⟩
 exact λa o e=>(I.hok a o e).stay (λb u f k=>(g.2 b (λz=>by
  rcases f with rfl|f
  .rw[z,I.free]at e;cases e
  rw[z,I.free]at f;cases f)).trans k) (λ_ k=>k) λ_ _ k=>k
end
def J7(X:Cx)(ea:xy):Cx:={X with A:=X.A.mark (u7 (.ref ea)),calm:=uA,xe:=λ_ _=>False}
section
variable{X:Cx}{vP:List (xy×Obj)}{σ:St}{H:Hp}{s:xF}{ea:xy}
theorem Yq(I:Inv X vP σ H s):Inv (J7 X ea) vP σ H s:=
 ⟨⟨I.ok.mod,I.ok.kind,I.ok.glob,I.ok.blt,I.ok.above,I.ok.inj,I.ok.has,I.ok.cab,λz=>absurd z (by simp[J7]),I.ok.frames,I.ok.stk,I.ok.exf,I.ok.bs,I.ok.bsz,I.ok.noex,I.ok.exfs,I.ok.funs,I.ok.frf⟩,I.os,I.bare,I.base,I.loc,I.cell,I.free,I.G9,I.pin,I.hok,I.len⟩
theorem Ut{calm:X.calm=u9}(b:X.A.handled=u8)(I:Inv (J7 X ea) vP σ H s):Inv X vP σ H s:=
 ⟨⟨I.ok.mod,I.ok.kind,I.ok.glob,I.ok.blt,I.ok.above,I.ok.inj,I.ok.has,I.ok.cab,λ_=>b,I.ok.frames,I.ok.stk,I.ok.exf,I.ok.bs,I.ok.bsz,I.ok.noex,I.ok.exfs,I.ok.funs,I.ok.frf⟩,I.os,I.bare,I.base,I.loc,I.cell,I.free,I.G9,I.pin,I.hok,I.len⟩
end
section
variable{X:Cx}{f W:xy}{fn x n:Str}{fp cp ep np hp pos:Pos}{a:xA}{es:List xA}{ta:TA}{sp:Sp}{k i:Nat}{fd:xB}{ps:List Str}{b₀:xG}{suite:List xG}{th:TS}
def takes(K:za)(C W:xy):Bool:=Ez K C&&Ez K W&&match K.lookup C with
 |some ⟨_,_,.cls cd,_⟩=>cd.mro.contains (.ref W)
 |_=>uA
end
theorem ZOJ:∀n:Nat,n<1000->intS (n:Int):=by
 have h:∀n:Fin 1000,((n.1:Int).natAbs.log2<1920/\(Str.ofString (toString (n.1:Int))).length<=1000):=by decide +kernel
 exact λn b=>h ⟨n,b⟩
noncomputable def sRz(c f:Str)(t:DA):DS:=λS G=>match t S G with
 |.ok ds G1=>(match ds with
  |[.int i]=>if 0<=i/\i<1000 then .err ⟨c,[(f,.int i)]⟩ G1 else .bad
  |[.non]=>.err ⟨c,[(f,.non)]⟩ G1
  |_=>.bad)
 |.err x G1=>.err x G1
 |.bad=>.bad
section
variable{X:Cx}{E:XK}{C fI:xy}{c f v:Str}{np cpos pos:Pos}{a:xA}{t:DA}{k:Nat}{fd:xB}
theorem ZNm(N:zb X.K vV c=u7 (u7 (.ref C)))(g:X.calm=u9)(U:X.stack=X.env::X.outer)(I:X.ex=[])(y:X.env.frame=u7 X.env.locals)(p:∀e s,Ju X E e s->X.xe e s)
  (Q:XSet X.K C f) (O:Lf X.K C fI=u9) (u:∃o,X.K.lookup fI=u7 o/\o.cls=.type "function") (F:FnOk X.prog X.w X.K X.mg X.base CX0 k fI fd ["self",v] (spI C f)) (hr:Room (k+1) X.A) (Y:Binds X.K fd ["self",v] [])
  (T:Gl X c) (hm:X.mg c=u7 (.ref C)) (hk:zd X.K (.ref C)=u9) (ha:QA X E [a] t) (J:(c==("__debug__":Str))=uA:=by decide) (m:notStar a=u9:=by rfl):
  QS X E (.Raise (u7 (.Call (.Name c np) [a] [] cpos)) u8 pos) (sRz c f t):=
 (ZLt g U I y p Q O u F hr Y T hm hk ha J (Ed a [] X.env m) rfl).mono λW σ H h=>by
  obtain⟨w,S,G,hk,rfl,sm,r,h⟩:=h;refine⟨w,S,G,hk,rfl,sm,r,?_⟩;unfold sRz at h;cases M:t S G with
  | ok ds P=>
   rw[M]at h;dsimp only at h;split at h
   .rename_i i;split at h
    .rename_i O;intro b Z x B q;obtain⟨z,L,rfl,l,n⟩:=q;obtain rfl:z=.int i:=l;obtain rfl:L=[]:=n;refine⟨.int i,rfl,.inl ⟨i,rfl,?_⟩,λd o j=>?_⟩
     .have:=ZOJ i.toNat (by lia);rwa[show((i.toNat:Nat):Int)=i by lia]at this
     .refine h.2 (b.put d (.frz o (.xd [(f,.int i)]))) C (u7 d) (x.trans (.put j)) (B.put j) ?_ (.inr ⟨d,o,[(f,.int i)],rfl,?_,rfl,⟨.int i,[],rfl,rfl,rfl⟩⟩)
      .show zb b.K _ _=_;rw[x.k,hk];exact N
      .show upd b.H d _ d=_;unfold upd;rw[if_pos rfl]
    exact h.elim
   .intro b Z x B q;obtain⟨z,L,rfl,l,n⟩:=q;obtain rfl:z=.non:=l;obtain rfl:L=[]:=n;refine⟨.non,rfl,.inr rfl,λd o j=>?_⟩;refine h.2 (b.put d (.frz o (.xd [(f,.non)]))) C (u7 d) (x.trans (.put j)) (B.put j) ?_ (.inr ⟨d,o,[(f,.non)],rfl,?_,rfl,⟨.non,[],rfl,rfl,rfl⟩⟩)
    .show zb b.K _ _=_;rw[x.k,hk];exact N
    .show upd b.H d _ d=_;unfold upd;rw[if_pos rfl]
   exact h.elim
  |_=>rw[M]at h;exact h
end
noncomputable def unnm(i:Nat):SR->SR
 |.nx S G=>.nx (S.set i u8) G
 |.bk S G=>.bk (S.set i u8) G
 |.ct S G=>.ct (S.set i u8) G
 |.rt d G=>.rt d G
 |_=>.bad
theorem RepS.unset(r:RepS a S σ)(i:Nat):RepS a (S.set i u8) (σ.set i u8):=by
 refine⟨by simpa using r.len,λj e b=>?_⟩;rw[qI]at b⊢;by_cases c:i=j
 .subst c;rw[if_pos rfl]at b
  split at b<;>cases b
 rw[if_neg c]at b⊢;exact r.get j e b
section
variable{X:Cx}{E:XK}{f W:xy}{fn x n:Str}{fp cp ep np hp pos:Pos}{a:xA}{es:List xA}{t:DA}{F:List D->DH->R D}{k i:Nat}{fd:xB}{ps:List Str}{b₀:xG}{suite:List xG}{hb:DS}{ws:List Str}
end
theorem Qx{P:xD}{w:xI}{K:za}{mg:Str->Option xH}{base:Heap}{x:Str}{st:xG}{f:xy}{N ps:List Str}{k:Nat}{b:DS}(F:Fun K x qual st f fd)(S:FnScope N ps (Ay st))
  (hbody:∀(cdv:xH)(A:x0)(outer:List Env)(s:xF)(H:Hp)(E:XK),Room k (A.deeper (envOfC qual (Ay st) s.heap.objs.size f cdv))->QSs (Fd (CXx P w) P w K mg base N qual (Ay st) f cdv A outer s H E) E (Cj st) b):
  FnOk P w K mg base (CXx P w) (k+1) f fd ps (lFx K (Aq ps.length (N.length-ps.length) b)):=by
 obtain⟨o1,o2,o4,o5,o6,o7,c,o8,o9,rfl,lk,hc⟩:=F.ex;exact Yx lk hc S (λ_ _ _ _=>Np) λA o s H n Q E z h=>⟨_,hbody c A o s H E z,Wx h⟩
theorem ZMr{P:xD}{w:xI}{K:za}{d:Str->Option xH}{b:Heap}{N:List Str}{a:xE}{f:xy}{cd:xH}{A:x0}{outer:List Env}{s:xF}{H:Hp}{E:XK}:
  Passes (CXx P w) (Fd (CXx P w) P w K d b N qual a f cd A outer s H E) E:=λc i g k e j I h=>ZRD rfl rfl rfl I h
theorem ownX{P:xD}{w:xI}{K:za}{c:Str->Option xH}{b:Heap}{N:List Str}{a:xE}{f:xy}{cd:xH}{A:x0}{outer:List Env}{s:xF}{H:Hp}{E:XK}:
  PassesOwn (vW P w) (Fd (CXx P w) P w K c b N qual a f cd A outer s H E).A (Fd (CXx P w) P w K c b N qual a f cd A outer s H E).env (Fd (CXx P w) P w K c b N qual a f cd A outer s H E).xe:=.leaving
def nerr(F:List D->DH->R D):List D->DH->R D:=λds G=>match F ds G with
 |.ok d G1=>.ok d G1
 |_=>.bad
section
variable{X:Cx}{E:XK}{x:Str}{p pos:Pos}{e:xA}{es:List xA}{tr:DA}
theorem ZK9(h:out E b (nerr F ds G) Q):out E0 b (F ds G) Q:=by
 unfold nerr at h;cases a:F ds G with
 |err x c=>rw[a]at h;exact h.elim
 |_=>rw[a]at h;exact h
theorem ZJJ(j:FnOk X.prog X.w X.K X.mg X.base CX0 k f fd ps (lF X.K F))(u:Room k X.A)(l:Gl X x)(o:X.mg x=u7 (.ref f))(hk:zd X.K (.ref f)=u9)(m:Binds X.K fd ps [])
  (n:QA X E (e::es) tr) (d:(x==("__debug__":Str))=uA:=by decide) (y:notStar e=u9:=by rfl) (c:es.all notStar=u9:=by rfl):QE X E (.Call (.Name x p) (e::es) [] pos) (dFn (nerr F) tr):=
 (ZAo (E:=E) j u l o hk m .nil (λ_ _ _ _ _ _ _ h=>h.elim) n d (Ed e es X.env y) (H8 pos X.env es c)).mono λz H Q h=>by
  replace h:=Nb h;obtain⟨a,S,G,hk,rfl,s,r,h⟩:=h
  refine⟨a,S,G,hk,rfl,s,r,h.imp ?_⟩;rintro B _ ⟨b,g,t,hk,rfl,v,q,i⟩;exact⟨b,g,t,hk,rfl,v,by rw[qV];exact q,ZK9 i⟩
theorem ZRg(j:FnOk X.prog X.w X.K X.mg X.base (CXx X.prog X.w) k f fd ps (lFx X.K F))(u:Room k X.A)(l:Gl X x)(o:X.mg x=u7 (.ref f))(hk:zd X.K (.ref f)=u9)(m:Binds X.K fd ps [])
  (z:Passes (CXx X.prog X.w) X E) (n:QA X E (e::es) tr) (d:(x==("__debug__":Str))=uA:=by decide) (y:notStar e=u9:=by rfl) (c:es.all notStar=u9:=by rfl):QE X E (.Call (.Name x p) (e::es) [] pos) (dFn F tr):=
 (ZAo j u l o hk m .nil z n d (Ed e es X.env y) (H8 pos X.env es c)).mono λB H Q h=>by
  replace h:=Nb h;obtain⟨a,S,G,hk,rfl,s,r,h⟩:=h
  refine⟨a,S,G,hk,rfl,s,r,h.imp ?_⟩;rintro C _ ⟨b,g,t,hk,rfl,v,q,i⟩;exact⟨b,g,t,hk,rfl,v,by rw[qV];exact q,i⟩
end
structure RoomH (k:Nat) (A:x0):Prop where
 dp:A.depth+3*k+5<recursionLimit
 un:A.units+16*k+200<cLine
theorem RoomH.of(r:Room k A):RoomH k A:=⟨r.dp,r.un⟩
theorem RoomH.held(r:RoomH k A):RoomH k (A.mark v):=⟨r.dp,r.un⟩
structure FnOkH (P:xD) (w:xI) (K:za) (mg:Str->Option xH) (base:Heap) (k:Nat) (f:xy) (fd:xB) (ps:List Str) (sp:Sp):Prop where
 len:∀vs H Q E,sp vs H Q E->vs.length=ps.length
 run:∀(A:x0)(outer:List Env)(s:xF)(H:Hp)(args:Args)(us:List xH)(vs:List V)(Q:VK)(E:XK),RoomH k A->Env0 P w K mg base A outer s H->BindsTo s fd args (ps.zip us)->Vals vs us->sp vs H Q E->
  codeAny (vW P w) A (.call (.ref f) args) (CR CX0 outer P w H s Q E) s
def cxH(X:Cx):Cx:={X with calm:=uA}
theorem ZN3{P:xD}{w:xI}{K:za}{Y:Str->Option xH}{g:Heap}{x:Str}{st:xG}{f:xy}{N ps:List Str}{k:Nat}{b:DS}(F:Fun K x qual st f fd)(S:FnScope N ps (Ay st))
  (B:∀(i:xH)(A:x0)(outer:List Env)(s:xF)(H:Hp)(E:XK),RoomH k (A.deeper (envOfC qual (Ay st) s.heap.objs.size f i))->QSs (cxH (Fd CX0 P w K Y g N qual (Ay st) f i A outer s H E).nox) E0 (Cj st) b):
  FnOkH P w K Y g (k+1) f fd ps (lF K (Aq ps.length (N.length-ps.length) b)):=by
 obtain⟨oc,od,kV,doc,pm,an,i,ct,osl,rfl,lk,hcd⟩:=F.ex;refine⟨λ_ _ _ _=>Np,λA outer s H args us m Q E rm l bn rv pr=>?_⟩;have nl:=Np pr;have T:=λb o e=>(l.bs b o e).1
 have t:=l.mod.kin.keeps T;refine codeAny_call_function (show A.depth<_ by have:=rm.dp;lia) (t _ _ lk) rfl S.co S.gen rfl (ww t hcd) (bn _ _ _ _ (wpAny_newFunctionEnv_cells S.kind (λy hy=>(S.par y.1 (xY hy).1).imp id λq=>⟨q,vU _ _ _ (.inl q)⟩) λenv he M x=>?_));subst he;refine⟨(l.mod.nolimit.keeps T).keeps x.toInCall.keep,codeAny_func ?_⟩;have J:Inv (Fd CX0 P w K Y g N qual (Ay st) f i ({A with handled:=u8}:x0) outer s H E) [] (start N m) H M:=ZCN S rfl ⟨l.frames,l.mod,l.bs,l.bsz,l.funs,l.frf,l.hok,l.bare⟩ nl rv x
 have I:Inv (cxH (Fd CX0 P w K Y g N qual (Ay st) f i A outer s H E).nox) [] (start N m) H M:=by obtain⟨⟨a1,a2,a3,a4,a5,a6,a7,a8,_,a10,a11,a12,a13,a14,a15,a16,a17,a18⟩,b2,b3,b4,b5,b6,b7,b8,b9,b10,b11⟩:=J;exact⟨⟨a1,a2,a3,a4,a5,a6,a7,a8,λz=>absurd z (by simp[cxH]),a10,a11,a12,a13,a14,a15,a16,a17,a18⟩,b2,b3,b4,b5,b6,b7,b8,b9,b10,b11⟩
 have rm':RoomH k (A.deeper (envOfC qual (Ay st) s.heap.objs.size f i)):=by
  obtain⟨r1,r2⟩:=rm;constructor
  .show A.depth+1+3*k+5<_;lia
  show A.units+3+16*k+200<_;lia
 refine vE (B i A outer s H E rm' [] M (start N m) H _ I (Wx pr)) (λfl s' C=>?_) λ_ _ C=>C.elim
 rcases fl with _|_|_|u
 .obtain⟨_,O,Z,q⟩:=C;exact⟨.non,O,Z.os,Z.bare,Z.base,Z.hok,rfl,q⟩
 .obtain⟨_,_,_,q⟩:=C;exact q.elim
 .obtain⟨_,_,_,q⟩:=C;exact q.elim
 obtain⟨v,_,O,Z,ru,q⟩:=C;exact⟨v,O,Z.os,Z.bare,Z.base,Z.hok,ru,q⟩
section
variable{X:Cx}{E:XK}{x:Str}{p pos:Pos}{e:xA}{es:List xA}{tr:DA}
theorem ZI4(t:FnOkH X.prog X.w X.K X.mg X.base k f fd ps (lF X.K F))(N:RoomH k X.A)(B:Gl X x)(M:X.mg x=u7 (.ref f))(hk:zd X.K (.ref f)=u9)(C:Binds X.K fd ps [])
  (P:QA X E0 (e::es) tr) (l:(x==("__debug__":Str))=uA:=by decide) (L:notStar e=u9:=by rfl) (m:es.all notStar=u9:=by rfl):QE X E0 (.Call (.Name x p) (e::es) [] pos) (dFn F tr):=by
 have T:PE X (.Call (.Name x p) (e::es) [] pos) (ZFw (lF X.K F) [] E0 (lA X.K E0 tr)):=λd s o H Q I h=>by
  refine vv (Ja I B M ?_ l);refine qd I.ok.mod.kin hk (thn (P pos d s o H _ I h) λj i ⟨n,v,g,r,q⟩=>⟨g.kIn,?_⟩) (Ed e es X.env L) (H8 pos X.env es m)
  skip
  rw[qV]at q;have O:(j++[]).length=ps.length:=by rw[qV,<-r.length];exact t.len _ _ _ _ q
  refine wpAny_call (xU (t.run X.A X.stack i v ⟨j,[]⟩ j n Q E0 N g.env0 (by have:=C i j g.kIn O;rwa[qV]at this) r q) λr U c=>?_);cases r with
  |error e=>exact c.elim
  |ok fl=>
   cases fl with
   |ret u=>exact g.after c
   |_=>exact .elim c
 exact .mono T λo H Q h=>by
  replace h:=Nb h;obtain⟨a,S,G,hk,rfl,s,r,h⟩:=h
  refine⟨a,S,G,hk,rfl,s,r,h.imp ?_⟩;rintro n _ ⟨b,y,J,hk,rfl,i,q,z⟩;exact⟨b,y,J,hk,rfl,i,by rw[qV];exact q,z⟩
end
structure XGet (K:za) (C:xy):Prop where
 ga:zc K (.ref C) "__getattribute__"=u7 (u7 (.builtin "BaseException.__getattribute__"))
 gn:zc K (.ref C) "__getattr__"=u7 u8
 sb:uk K (.ref C) (.type "BaseException")=u7 u9
 hd:qc K C=u9
 cl:zc K (.ref C) "__class__"=u7 (u7 (.builtin "object.__class__"))
 cg:vg K (.builtin "object.__class__") "__get__"=u7 (u7 (.builtin "getset_descriptor.__get__"))
 ct:PySem.W.takesIn K (.builtin "object.__class__")=u7 u9
 mo:PySem.W.mroIn K C (.type "object")=u7 u9
 kc:PySem.W.kitCls K (.ref C) (.ref C)=u7 u9
 ec:Ez K C=u9
section
variable{prog:xD}{w:xI}{A:x0}{E:xH->xF->Prop}{s:xF}{K:za}{x C:xy}{ox:Obj}{od:Option Obj}{name:Str}{tk:Tok}
theorem ZNT(X:K.In s.heap)(I:qa s.heap x ox C od)(e:uk K (.ref C) (.type "BaseException")=u7 u9)(c:Q () s):
  vx M A (xT "BaseException.__getattribute__" ⟨[.ref x,nameV],[]⟩) Q E s:=by
 have hk:builtinKind "BaseException.__getattribute__"=u7 .slot:=by decide +kernel
 have a:splitId "BaseException.__getattribute__"=u7 ("BaseException","__getattribute__"):=by decide +kernel
 have b:PySem.W.Looks M s.heap (isInstance (.ref x) (.type "BaseException")) u9:=(I.type).andThen (PySem.W.looks_subIn X e);obtain⟨h,g,d,t,f⟩:=s;simp[xT,hk,a];refine vk (b.at ?_)
 repeat (first|wp_step)
 exact c
theorem ZRY{c a:Bool}{Q:xH->xF->Prop}(X:K.In s.heap)(I:qa s.heap x ox C od)(G:XGet K C)
  (h:∀f,vx (vW prog w) f (Builtin.«object.__getattribute__» ⟨[.ref x,.str name tk],[]⟩) (λb s'=>match b with | .done (.ret v)=>xg v=u9/\Q v s'|_=>False) (λ_ _=>False) s):
  vx (vW prog w) A (getAttrBy (.ref x) (.str name tk) c a) Q E s:=by
 have e:(a&&onTheHeap (.builtin "BaseException.__getattribute__"))=uA:=by cases a<;>rfl
 obtain⟨j,g,d,t,i⟩:=s;unfold getAttrBy;refine vD (vk ((I.type).at (vk ((vS X G.ga).at ?_))));dsimp only;rw[show(onTheHeap (.ref C)&&Value.builtin "BaseException.__getattribute__"==Value.builtin "object.__getattribute__")=uA by rw[show(.builtin "BaseException.__getattribute__"==Value.builtin "object.__getattribute__")=uA by decide +kernel];rfl]
 simp[j8,if_false];unfold getAttrByItsOwn;refine vk ((vS X G.gn).at ?_);refine vk (wpAny_attempt (vD ?_));unfold callGetattribute;rw[e];simp[j8,if_false];unfold boundAndCalled;rw[F.excAttr_ValueError.ga.bind (.ref x)];refine vk (vH ?_);refine wpAny_call (codeAny_call_builtin F.excAttr_ValueError.ga.plain F.entry_bexc_ga (ZNT X I G.sb (vE (h _) (λb s' z=>?_) λ_ _ z=>z.elim)))
 rcases b with(_|_|_|_)|_<;>first|exact z.elim|exact PySem.W.handed_on z.1 z.2
theorem ZNx{b a:Bool}{Q:xH->xF->Prop}(X:K.In s.heap)(I:qa s.heap x ox C od)(G:XGet K C)(h:Q (.ref C) s):
  vx (vW prog w) A (getAttrBy (.ref x) (.str "__class__" tk) b a) Q E s:=by
 refine ZRY X I G λl=>?_
 have f:uy K C od "__class__"=u7 (.bind (.builtin "getset_descriptor.__get__") (.builtin "object.__class__")):=by obtain⟨j,e,_⟩:=vR G.hd;unfold uy;rw[e,Option.bind_some,G.cl,Option.bind_some];simp[G.cg,G.ct]
 have c:=λ(A:x0)(R:Result->xF->Prop)(z:R (.ok (.ret (.ref C))) s)=>PySem.W.class_get (prog:=prog) (w:=w) (A:=A) (tp:=.ref C) X I G.mo z
 obtain⟨k,g,d,t,i⟩:=s;exact vk (vH (vk (vH (vk ((I.type).at (vk ((PySem.W.looks_find X I f).at (vk (vD (wpAny_call (c _ _ (vH ⟨rfl,h⟩))))))))))))
theorem ZHa(G:XGet K C):PySem.W.KitX K (.ref x) (.ref C) (λh=>qa h x ox C od):=by
 refine⟨λ_ _ _ I=>I.type,λ_ _ X _=>(PySem.W.kit_cls X G.kc).2.1,λh e j c n f X b=>?_,λ{_ _ _ _ _ s}X I k=>?_⟩
 .cases q:(Value.ref C == .ref e)with
  |false=>rfl
  |true=>
   obtain⟨_,_,_,_,_,_,_,_,_,_,_,_,_,_,_,a,_⟩:=Mj X G.ec;rw[Value.ref.inj (beq_iff_eq.mp q),b]at a;have:=congrArg Obj.cls (Option.some.inj a);exact absurd (Value.type.inj this) (by decide)
 .obtain⟨l,g,d,t,i⟩:=s;unfold getAttr? getAttrBy?;exact vk (wpAny_mkText (vk (wpAny_attempt (ZNx X I G (vH k)))))
end
noncomputable def isx(tb:List (Str×Bool))(x:D)(G:DH):R D:=match x with
 | .ref i=>(match G[i]? with
  |some (.exc c _)=>(match tb.lookup c with
   |some b=>.ok (.bl b) G
   |none=>.bad)
  |_=>.bad)
 |_=>.bad
def HeldC(H:Hp)(x:V)(C:xy):Prop:=∃a oe u vs,x=.ref a/\H a=u7 (.frz oe u)/\oe.cls=.ref C/\oe.data=.fields vs/\(oe.dict=u8\/∃dx o us,oe.dict=u7 dx/\H dx=u7 (.frz o (.xd us)))
theorem Sim.Ez(s:Sim b G)(r:Rep b (.ref i) v)(h:G[i]?=u7 (.exc c fs)):∃C,zb b.K vV c=u7 (u7 (.ref C))/\HeldC b.H v C:=by
 obtain⟨_,d⟩:=r;obtain⟨C,a,u,g,n,e,j,k,z⟩:=s.obj i _ h;rcases z with⟨_,z⟩|⟨m,o,l,q,w,x⟩
 .exact⟨C,n,_,a,u,g,d,e,j,k,.inl z⟩
 exact⟨C,n,_,a,u,g,d,e,j,k,.inr ⟨m,o,l,q,w⟩⟩
section
variable{X:Cx}{E:XK}{vP:List (xy×Obj)}{σ:St}{H:Hp}{s:xF}
theorem ZDL(I:Inv X vP σ H s)(h:HeldC H x C):∃(a:xy)(b:Obj)(od:Option Obj),x=.ref a/\qa s.heap a b C od:=by
 obtain⟨a,b,u,v,rfl,k,g,l,z⟩:=h;obtain⟨d,_⟩:=(I.hok a _ k);have c:u0 b=u9:=by unfold u0;rw[l]
 rcases z with z|⟨j,o,r,z,m⟩
 .exact⟨a,b,u8,rfl,d,g,c,by rw[z];trivial⟩
 obtain⟨w,A,i,y⟩:=(I.hok j _ m);obtain⟨od,n,q⟩:=ZE9 i;exact⟨a,b,u7 od,rfl,d,g,c,z▸n⟩
def rIs1(K:za)(cv:V)(cu:xH):List V->Hp->VK->Prop:=λvs H Q=>∃x C b,vs=[x,cv]/\HeldC H x C/\XGet K C/\ji K (.ref C) cu=u7 b/\Q (.bl b) H
theorem ZOw(c:∀u,RelV cv u->u=cu):CallR X (.builtin "isinstance") (rIs1 X.K cv cu):=by
 intro i s r H y j Q I l h;obtain⟨x,C,b,rfl,m,G,hk,q⟩:=h;obtain⟨u,g,rfl,k,d⟩:∃u g,j=[u,g]/\RelV x u/\RelV cv g:=by
  cases l with
  |cons p q=>cases q with
   |cons n o=>cases o;exact⟨_,_,rfl,p,n⟩
 cases c _ d;obtain⟨a,A,v,rfl,J⟩:=ZDL I m;cases(k);exact PySem.W.kia_one (ZHa G) I.kIn J hk (nofun) λw=>⟨.bl b,H,I.tok _,rfl,q⟩
def rIsT(K:za)(cvs:List V)(cus:List xH):List V->Hp->VK->Prop:=λvs H Q=>∃x C b p,vs=[x,.ref p]/\H p=u7 (.tup cvs)/\HeldC H x C/\XGet K C/\wQ K (.ref C) cus=u7 b/\Q (.bl b) H
theorem ZJc(g:∀us,Vals cvs us->us=cus):CallR X (.builtin "isinstance") (rIsT X.K cvs cus):=by
 intro i s T H S us Q I B h;obtain⟨x,C,b,p,rfl,hp,M,G,hk,q⟩:=h;obtain⟨u,d,rfl,r,c⟩:∃u d,us=[u,d]/\RelV x u/\RelV (.ref p) d:=by
  cases B with
  |cons p q=>cases q with
   |cons v w=>cases w;exact⟨_,_,rfl,p,v⟩
 cases(c);obtain⟨a,O,U,rfl,J⟩:=ZDL I M;cases(r);obtain⟨_,A,k,o,l,j,n,F⟩:=(I.hok p _ hp);cases g _ k;obtain⟨P,m,L,y⟩:=o;cases j;cases F;exact PySem.W.kia_tup (ZHa G) I.kIn J l hk (nofun) λN=>⟨.bl b,H,I.tok _,rfl,q⟩
variable{e ce:xA}{ces:List xA}{t:DE}{tb:List (Str×Bool)}{cv:V}{cu:xH}{cvs:List V}{cus:List xH}{p pos tp:Pos}
theorem ZEW(z:Gl X "isinstance")(J:X.mg "isinstance"=u8)(I:QE X E e t)(N:PE X ce (tC cv))(l:∀u,RelV cv u->u=cu)
  (j:∀c b,tb.lookup c=u7 b->∀C,zb X.K vV c=u7 (u7 (.ref C))->XGet X.K C/\ji X.K (.ref C) cu=u7 b) (y:notStar e=u9:=by rfl) (o:notStar ce=u9:=by rfl):
  QE X E (.Call (.Name "isinstance" p) [e,ce] [] pos) (dUn (isx tb) t):=
 (Yz (ZOw l) z J ZDX (Kr I (Kr N Pj (Ed ce [] X.env o)) (Ed e [ce] X.env y)) (by decide) (by decide) (Ed e [ce] X.env y) (H8 pos X.env [ce] (by simp[o]))).mono λP H Q h=>by
  obtain⟨a,S,G,hk,rfl,s,r,h⟩:=h;refine⟨a,S,G,hk,rfl,s,r,(Ea h).imp ?_⟩;rintro v _ ⟨b,d,O,rfl,x,w,q,-,g⟩;unfold isx at g;split at g
  .rename_i i;split at g
   .rename_i c fs F;split at g
    .rename_i m B;obtain⟨C,n,A⟩:=w.Ez q F;obtain⟨L,M⟩:=j c m B C (by rw[<-hk,<-x.k];exact n);exact⟨v,C,m,rfl,A,L,M,g b _ (.refl b) w rfl⟩
    exact g.elim
   exact g.elim
  exact g.elim
theorem ZMI(w:Gl X "isinstance")(F:X.mg "isinstance"=u8)(B:QE X E e t)(L:PA X ces (λ_ H Q=>Q cvs H))(M:cvs.length<=1000)(l:∀us,Vals cvs us->us=cus)
  (j:∀c b,tb.lookup c=u7 b->∀C,zb X.K vV c=u7 (u7 (.ref C))->XGet X.K C/\wQ X.K (.ref C) cus=u7 b) (u:notStar e=u9:=by rfl):
  QE X E (.Call (.Name "isinstance" p) [e,.Tuple ces x1 tp] [] pos) (dUn (isx tb) t):=
 (Yz (ZJc l) w F ZDX (Kr B (Kr (ZBF L) Pj (Ed _ [] X.env rfl)) (Ed e _ X.env u)) (by decide) (by decide) (Ed e _ X.env u) (H8 pos X.env _ rfl)).mono λO H Q h=>by
  obtain⟨a,S,G,hk,rfl,s,r,h⟩:=h;refine⟨a,S,G,hk,rfl,s,r,(Ea h).imp ?_⟩;rintro v _ ⟨b,d,N,rfl,x,o,q,-,g⟩;unfold isx at g;split at g
  .rename_i i;split at g
   .rename_i c fs A;split at g
    .rename_i m z;refine⟨by rw[vY];lia,λp hp=>?_⟩;obtain⟨C,n,y⟩:=(o.put hp).Ez (q.mono (.put hp)) A;obtain⟨I,J⟩:=j c m z C (by rw[<-hk,<-x.k];exact n);exact⟨v,C,m,p,rfl,Dy,y,I,J,g _ _ (.put hp) (o.put hp) rfl⟩
    exact g.elim
   exact g.elim
  exact g.elim
variable{f:Str}{cs:List Str}
end
end _D
namespace _D
open PySem PySem.Spec PySem.W _L
open PyProof.Rows hiding St
theorem M6{r:Option (Option xH)}{n:String}(h:isB r n=u9):r=u7 (u7 (.builtin n)):=by
 unfold isB at h;split at h
 .rw[beq_iff_eq.mp h]
 cases h
theorem Hx{r:Option Bool}{b:Bool}(h:Fe r b=u9):r=u7 b:=by
 unfold Fe at h;split at h
 .rw[beq_iff_eq.mp h]
 cases h
theorem W8{d:Type}{r:Option (Option d)}(h:Oh r=u9):r=u7 u8:=by
 unfold Oh at h;split at h
 .rfl
 cases h
structure ET (K:vM) (mg:Str->Option xH) (c f:Str):Prop where
 N:nsIn K vV c=u7 (u7 (.ref (Aa K c)))
 g:mg c=u7 (.ref (Aa K c))
 k:keepIn K (.ref (Aa K c))=u9
 X:XSet K (Aa K c) f
 i:Lf K (Aa K c) (Dk K (Aa K c) "__init__")=u9
 o:∃o,K.lookup (Dk K (Aa K c) "__init__")=u7 o/\o.cls=.type "function"
 G:XGet K (Aa K c)
 no:NoAttr K (Aa K c) f
theorem ZQ6{K:vM}{a:xy}(h:Xz K a=u9):∃o,K.lookup a=u7 o/\o.cls=.type "function":=by
 unfold Xz at h;split at h
 .rename_i t _ _ _ e;exact⟨_,e,by rw[beq_iff_eq.mp h]⟩
 cases h
theorem ZQQ{K:vM}{h:Heap}{l:Str->Option xH}{c f:Str}(X:K.In h)(G:h.Ns vV l)(s:ZAx c f K=u9):ET K l c f:=by simp[ZAx,z5]at s;obtain⟨⟨⟨⟨⟨⟨g,r⟩,⟨⟨⟨m,H⟩,w⟩,L⟩,i⟩,y⟩,A⟩,⟨⟨⟨⟨⟨⟨u,M⟩,B⟩,J⟩,z⟩,I⟩,o⟩,C⟩,d⟩:=s;exact⟨Ji g,mg_of X G (Ji g),r,⟨m,ZEk H,w,W8 L,i⟩,y,ZQ6 A,⟨M6 u,W8 M,Hx B,i,M6 J,M6 z,Hx I,Hx o,Hx C,m⟩,ZBL d⟩
theorem ZPC(h:Y6 r n=u9):r=u7 (.val (.builtin n)):=by
 unfold Y6 at h;split at h
 .rw[beq_iff_eq.mp h]
 cases h
theorem ZI1{K:vM}{h:Heap}{d:Str->Option xH}{x:Str}(X:K.In h)(G:h.Ns vV d)(s:ZAn x K=u9):XBase K d x (Aa K x):=by simp[ZAn,z5]at s;obtain⟨⟨⟨g,i⟩,l⟩,m⟩:=s;exact⟨mg_of X G (Ji g),M6 i,l,ZPC m⟩
theorem ZLB{K:vM}{h:Heap}{d:Str->Option xH}{x:Str}(X:K.In h)(G:h.Ns vV d)(s:gOk K x=u9):d x=u7 (.ref (Aa K x)):=mg_of X G (Ji s)
abbrev FnX(P:xD)(w:xI)(K:vM)(mg:Str->Option xH)(base:Heap)(k:Nat)(n:Str)(ps:List Str)(F:List D->DH->R D):Prop:=FnOk P w K mg base (CXx P w) k (Aa K n) (Am K (Aa K n)) ps (lFx K F)
abbrev FnH(P:xD)(w:xI)(K:vM)(mg:Str->Option xH)(base:Heap)(k:Nat)(n:Str)(ps:List Str)(F:List D->DH->R D):Prop:=FnOkH P w K mg base k (Aa K n) (Am K (Aa K n)) ps (lF K F)
theorem RoomH.mono(r:RoomH k A)(h:j<=k):RoomH j A:=⟨by have:=r.dp;lia,by have:=r.un;lia⟩
section
variable{X:Cx}{E:XK}{c x n f v:Str}{e a:xA}{es:List xA}{t:DE}{tr:DA}{p q pos cpos np:Pos}{b:Bool}{F:List D->DH->R D}{k j:Nat}{ps:List Str}{st:xG}
theorem ZC9(h:FnO X.prog X.w X.K X.mg X.base k n ps F)(T:FT X.K X.mg n st ps)(r:Room j X.A)(o:QA X E (e::es) tr)(i:Nat.ble k j=u9:=by rfl)(l:Gl X n:=by rfl)(g:(n==("__debug__":Str))=uA:=by decide)(s:notStar e=u9:=by rfl)(d:es.all notStar=u9:=by rfl):
  QE X E (.Call (.Name n p) (e::es) [] pos) (dFn (nerr F) tr):=ZJJ h (r.mono (qD i)) l T.m T.k T.b o g s d
theorem ZIp(h:FnH X.prog X.w X.K X.mg X.base k n ps F)(T:FT X.K X.mg n st ps)(r:RoomH j X.A)(o:QA X E0 (e::es) tr)(i:Nat.ble k j=u9:=by rfl)(l:Gl X n:=by rfl)(g:(n==("__debug__":Str))=uA:=by decide)(s:notStar e=u9:=by rfl)(d:es.all notStar=u9:=by rfl):
  QE X E0 (.Call (.Name n p) (e::es) [] pos) (dFn F tr):=ZI4 h (r.mono (qD i)) l T.m T.k T.b o g s d
def PC(X:Cx)(es:List xA)(ws:List Str):Prop:=PA X es (λ_ H Q=>Q (ws.map λw=>V.ref (Aa X.K w)) H)
theorem Zc:PC X [] []:=Pj
theorem Gk(g:X.mg w=u7 (.ref (Aa X.K w)))(r:PC X es ws)(h:Gl X w:=by rfl)(d:(w==("__debug__":Str))=uA:=by decide):PC X (.Name w q::es) (w::ws):=
 Kr (Rx h g (v:=.ref (Aa X.K w)) rfl d) r (Ed _ es X.env rfl)
theorem ZCz{K:vM}:∀{d:List Str}{us:List xH},Vals (d.map λw=>V.ref (Aa K w)) us->us=d.map λw=>Value.ref (Aa K w)
 |[],_,h=>by cases h;rfl
 | w::d,_,h=>by
  cases h with
  |cons a b=>
   rw[ZCz b]
   exact congrArg (·::_) a
theorem ZKB(T:ET X.K X.mg c f)(C:FnOk X.prog X.w X.K X.mg X.base CX0 k (Dk X.K (Aa X.K c) "__init__") (Am X.K (Dk X.K (Aa X.K c) "__init__")) ["self",v] (spI (Aa X.K c) f))(I:Binds X.K (Am X.K (Dk X.K (Aa X.K c) "__init__")) ["self",v] [])(L:Room j X.A)(J:QA X E [a] tr)
  (y:∀e s,Ju X E e s->X.xe e s:=by exact λ_ _ h=>h) (z:Nat.ble (k+1) j=u9:=by rfl) (d:X.calm=u9:=by rfl) (H:X.stack=X.env::X.outer:=by rfl) (m:X.ex=[]:=by rfl) (r:X.env.frame=u7 X.env.locals:=by rfl) (B:Gl X c:=by rfl) (u:(c==("__debug__":Str))=uA:=by decide) (l:notStar a=u9:=by rfl):
  QS X E (.Raise (u7 (.Call (.Name c np) [a] [] cpos)) u8 pos) (sRz c f tr):=
 ZNm T.N d H m r y T.X T.i T.o C (L.mono (qD z)) I B T.g T.k J u l
end
def SR.nr:SR->SR
 |.err _ _=>.bad
 |r=>r
def sNr(t:DS):DS:=λS G=>(t S G).nr
@[simp]theorem ev_sNr:sNr t S G=(t S G).nr:=id rfl
@[simp]theorem nr_nx:(SR.nx S G).nr=.nx S G:=id rfl
@[simp]theorem nr_rt:(SR.rt d G).nr=.rt d G:=id rfl
theorem ZKr{K:vM}{E:XK}{t:DS}{W:Ends}{e:St}{H:Hp}(h:lS K E (sNr t) W e H):lS K E0 t W e H:=by
 obtain⟨a,S,G,hk,rfl,f,r,h⟩:=h;refine⟨a,S,G,hk,rfl,f,r,?_⟩;unfold sNr at h
 revert h
 cases t S G with
 |err x b=>exact λh=>h.elim
 |_=>exact λh=>h
theorem ZIK(h:QS X E0 s t):QS X E s (sNr t):=.mono h λ_ _ _ z=>ZKr z
end _D
namespace _D
open PySem PySem.Spec _L
open PyProof.Rows hiding St
def Mm(G:DH)(d:D):List D->Option (List Bool)
 |[]=>u7 []
 |x::r=>match eqD 30 G x d,Mm G d r with
  |some k,u7 ks=>u7 (k::ks)
  |_,_=>u8
def inE(d e:D)(G:DH):Option Bool:=match Bd e G with
 |some xs=>(Mm G d xs).map λks=>ks.any id
 |none=>u8
def Ms(d e:D)(G:DH):R D:=match inE d e G with
 |some k=>.ok (.bl (!k)) G
 |none=>.bad
section
variable{X:Cx}{E:XK}{vP:List (xy×Obj)}{σ:St}{s:xF}
theorem Xk(I:Inv X vP σ a.H s)(hk:a.K=X.K)(j:Sim a G)(e:A.units+30<cLine)(c:Rep a d x)(g:RelV x v):
  ∀{xs:List D}{vs:List V}{its:List xH}{ks:List Bool},Reps a xs vs->Vals vs its->Mm G d xs=u7 ks->ks.length=its.length/\∀(i:Nat)(u:xH)(k:Bool),its[i]?=u7 u->ks[i]?=u7 k->SeqAt.EqAt A s u v k
 |[],vs,its,ks,r,q,h=>by obtain rfl:vs=[]:=r;cases q;cases h;exact⟨rfl,λi u k h=>by simp at h⟩
 | y::L,vs,its,ks,r,q,h=>by
  obtain⟨w,J,rfl,t,o⟩:=r;cases q with
  | cons p z=>
   unfold Mm at h;split at h
   .rename_i k F l n;cases h;obtain⟨m,C⟩:=Xk I hk j e c g o z n;refine⟨by simp[m],λi u B f b=>?_⟩;cases i with
    |zero=>
     cases f;cases b;exact(Q5 I hk j 30 e t c p g l).1
    |succ i=>exact C i u B (by simpa using f) (by simpa using b)
   cases h
open Classical in
theorem ZGr{A:x0}{v:xH}{its:List xH}{ks:List Bool}(t:ks.length=its.length)(f:∀(i:Nat)(u:xH)(k:Bool),its[i]?=u7 u->ks[i]?=u7 k->SeqAt.EqAt A s u v k):
  ∃e:xH->Bool,(∀y,y∈its.toArray->SeqAt.EqAt A s y v (e y))/\its.toArray.any e=ks.any id:=by
 refine⟨λu=>decide (∃i:Nat,its[i]?=u7 u/\ks[i]?=u7 u9),λy o=>?_,?_⟩
 .obtain⟨j,c,e⟩:=qj (by simpa using o:y∈its);have a:j<ks.length:=by lia
  have g:its[j]?=u7 y:=by rw[zJ c,e]
  have l:ks[j]?=u7 ks[j]:=zJ a;show SeqAt.EqAt A s y v (decide (∃i:Nat,its[i]?=u7 y/\ks[i]?=u7 u9));by_cases b:∃i:Nat,its[i]?=u7 y/\ks[i]?=u7 u9
  .rw[decide_eq_true b];obtain⟨i,r,d⟩:=b;exact f i y u9 r d
  .rw[decide_eq_false b];cases hk:ks[j]with
   |true=>exact absurd ⟨j,g,by rw[l,hk]⟩ b
   |false=>exact f j y uA g (by rw[l,hk])
 .rw[Bool.eq_iff_iff];constructor
  .intro h;have p:its.any (λu=>decide (∃i:Nat,its[i]?=u7 u/\ks[i]?=u7 u9))=u9:=by simpa using h
   obtain⟨u,_,m⟩:=xV.mp p;obtain⟨i,_,d⟩:=of_decide_eq_true m;exact xV.mpr ⟨u9,jW d,rfl⟩
  .intro h;obtain⟨k,hk,e⟩:=xV.mp h;obtain⟨j,c,q⟩:=qj hk;have a:j<its.length:=by lia
   have n:k=u9:=e;have:its.any (λu=>decide (∃i:Nat,its[i]?=u7 u/\ks[i]?=u7 u9))=u9:=xV.mpr ⟨its[j],qx a,decide_eq_true ⟨j,zJ a,by rw[zJ c,q,n]⟩⟩;simpa using this
theorem ZN4(i:Sim a G)(j:Rep a e y)(h:inE d e G=u7 k):∃xs ks p vs,y=.ref p/\(SqL a.K a.H p vs\/SqT a.K a.H p vs)/\Reps a xs vs/\Mm G d xs=u7 ks/\k=ks.any id:=by
 unfold inE at h;split at h
 .rename_i xs b;rw[zE]at h;obtain⟨ks,f,g⟩:=h;obtain⟨p,vs,c,q,r⟩:=Io i j b;exact⟨xs,ks,p,vs,c,q,r,f,g.symm⟩
 cases h
theorem ZOZ(S:X.A.units+64<cLine):OpR X (vQ .NotIn) (lR2 X.K E Ms):=by
 intro g s O H x y v u Q I B P ⟨a,G,d,e,hk,L,i,C,J,q⟩;subst L;unfold Ms at q;split at q
 .rename_i k N;obtain⟨U,F,p,T,rfl,b,r,z,rfl⟩:=ZN4 i J N;cases P;have h:X.A.in1.units+30<cLine:=by show X.A.units+1+30<cLine;lia
  rw[hk]at b;have c:EP X g O Q (.bool (!F.any id)) s:=⟨.bl _,a.H,I,rfl,q a _ (.refl a) i rfl⟩;rcases b with b|b
  .obtain⟨t,o,l,M⟩:=I.list b;obtain⟨n,w⟩:=Xk I hk i h C B r o z;obtain⟨f,j,m⟩:=ZGr n w;exact w8 f l.isList j (m▸c)
  obtain⟨t,o,l,M⟩:=I.tuple b;obtain⟨n,w⟩:=Xk I hk i h C B r o z;obtain⟨f,j,m⟩:=ZGr n w;exact w9 f l j (m▸c)
 exact q.elim
noncomputable def My(o:D)(ds:List D)(G:DH):R D:=match o,ds with
 |.ref i,[.ref j]=>match G[i]?,G[j]? with
  |some (.lst xs),u7 (.lst ys)=>if xs.length+ys.length<=1000000 then .ok .non (G.set i (.lst (xs++ys)))else .bad
  |_,_=>.bad
 |_,_=>.bad
theorem ZN2:MtM X "list.extend" (lRm X.K E My):=ZMB.mono λx A H Q h=>by
 obtain⟨a,G,d,z,hk,rfl,s,b,r,q⟩:=h;unfold My at q;split at q
 .rename_i i j;obtain⟨v,rfl,p⟩:=reps1 r;split at q
  .rename_i B y o l;split at q
   .rename_i k;obtain⟨n,c,e⟩:=s.lst o;obtain⟨g,w,f⟩:=s.lst l;obtain⟨t,u⟩:=Vz s b.1 c (e.append f);exact⟨a.m i,a.m j,n,g,b.2,by rw[p.2],c,w,by rw[<-e.length,<-f.length];exact z6 k size6,q _ .non t u rfl⟩
   exact q.elim
  exact q.elim
 exact q.elim
end
end _D
namespace _D
open PySem PySem.W PySem.Spec _L
open PyProof.Rows hiding St
structure FunD (K:za) (x qual:Str) (st:xG) (f:xy) (fd:xB):Prop where
 ex:∃(oc:xH)(od:Option xy)(dV kV doc pm:xH)(an:Option xy)(cdv ct:xH)(osl:Array (Option xH)),
  fd=qg x qual (Dz st) (Cj st) (Ay st) dV kV doc pm an cdv ct/\K.lookup f=u7 ⟨oc,od,.func fd,osl⟩/\va K cdv qual=u9
structure FTD (K:vM) (mg:Str->Option xH) (n:Str) (st:xG) (ps:List Str) (v:Int):Prop where
 F:FunD K n n st (Aa K n) (Am K (Aa K n))
 b:Binds K (Am K (Aa K n)) ps []
 d:∃t,Binds K (Am K (Aa K n)) ps [.int v t]
 m:mg n=u7 (.ref (Aa K n))
 k:keepIn K (.ref (Aa K n))=u9
theorem ZIL{P:xD}{w:xI}{K:za}{mg:Str->Option xH}{base:Heap}{x qual:Str}{st:xG}{f:xy}{fd:xB}{N ps:List Str}{k:Nat}{b:DS}(F:FunD K x qual st f fd)(S:FnScope N ps (Ay st))
  (hbody:∀(cdv:xH)(A:x0)(outer:List Env)(s:xF)(H:Hp)(E:XK),Room k (A.deeper (envOfC qual (Ay st) s.heap.objs.size f cdv))->QSs (Fd (CXx P w) P w K mg base N qual (Ay st) f cdv A outer s H E) E (Cj st) b):
  FnOk P w K mg base (CXx P w) (k+1) f fd ps (lFx K (Aq ps.length (N.length-ps.length) b)):=by
 obtain⟨o1,o2,o3,o4,o5,o6,o7,c,o8,o9,rfl,lk,hc⟩:=F.ex;exact Yx lk hc S (λ_ _ _ _=>Np) λA o s H n Q E z h=>⟨_,hbody c A o s H E z,Wx h⟩
section
variable{X:Cx}{E:XK}{x:Str}{p pos:Pos}{e:xA}{es:List xA}{tr:DA}
end
section
variable{X:Cx}{E:XK}{n:Str}{e:xA}{es:List xA}{tr:DA}{p pos:Pos}{F:List D->DH->R D}{k j:Nat}{ps:List Str}{st:xG}{v:Int}
end
section
variable{X:Cx}{E:XK}{c x n f v:Str}{e a:xA}{es:List xA}{t:DE}{tr:DA}{p q pos cpos np:Pos}{b:Bool}{F:List D->DH->R D}{k j:Nat}{ps:List Str}{st:xG}
end
theorem ZKG{K:vM}{h:Heap}{J:Str->Option xH}{n:Str}{st:xG}{ps:List Str}{v:Int}(X:K.In h)(G:h.Ns vV J)(s:Ask.Said K (.fd n st v))
  (M:∀(T:xy)(kV d C:xH)(z:Option xy)(g u:xH)(us:List xH)(t:Tok),us.length=ps.length->∃k,bindArgs (fnOf n n (Dz st) (Cj st) (Ay st) (.ref T) kV d C z g u) ⟨us,[]⟩=seqItems? (.ref T) >>=k/\k (u7 #[.int v t])=pure (ps.zip us))
  (O:∀(T:xy)(kV d C:xH)(z:Option xy)(g u:xH)(us:List xH)(t:Tok),us.length+1=ps.length->∃k,bindArgs (fnOf n n (Dz st) (Cj st) (Ay st) (.ref T) kV d C z g u) ⟨us,[]⟩=seqItems? (.ref T) >>=k/\k (u7 #[.int v t])=pure (ps.zip (us++[.int v t]))):FTD K J n st ps v:=by
 obtain⟨N,i,P,L,T,o,t,m,y,I,H⟩:=s;have r:Am K (Aa K n)=fnOf n n (Dz st) (Cj st) (Ay st) (.ref T) (Am K (Aa K n)).kwdefaults (Am K (Aa K n)).doc (Am K (Aa K n)).pyModule (Am K (Aa K n)).annotations (Am K (Aa K n)).code (Am K (Aa K n)).closureTuple:=by
  rw[<-y]
  conv=>lhs;unfold Am Gb;rw[i]
 refine⟨⟨_,_,_,_,_,_,_,_,_,_,by rw[y]at i;exact r,by rw[y,<-r]at i;exact i,P⟩,λs us w l=>?_,⟨t,λs us w l=>?_⟩,mg_of X G N,L⟩
 .rw[qV]at l⊢;rw[r];obtain⟨k,A,B⟩:=M T (Am K (Aa K n)).kwdefaults (Am K (Aa K n)).doc (Am K (Aa K n)).pyModule (Am K (Aa K n)).annotations (Am K (Aa K n)).code (Am K (Aa K n)).closureTuple us t l;exact .of_defaults rfl (w T o I) H A B
 rw[r];obtain⟨k,A,B⟩:=O T (Am K (Aa K n)).kwdefaults (Am K (Aa K n)).doc (Am K (Aa K n)).pyModule (Am K (Aa K n)).annotations (Am K (Aa K n)).code (Am K (Aa K n)).closureTuple us t (by simpa using l);exact .of_defaults rfl (w T o I) H A B
end _D
namespace _D
open PySem PySem.Spec _L
open PyProof.Rows hiding St
def dTc(F:List D->DH->R D)(t:DA):DE:=λS G=>match t S G with
 |.ok ds G1=>F ds G1
 |_=>.bad
def sTi(tt:DB)(t u:DS):DS:=λS G=>match tt S G with
 |.ok u9 G1=>t S G1
 |.ok uA G1=>u S G1
 |_=>.bad
def QTe(X:Cx)(e:xA)(t:DE):Prop:=∀(vP:List (xy×Obj))(s:xF)(σ:St)(H:Hp)(Q:VK)(E:XK),Inv X vP σ H s->lE X.K E t σ H Q->
 vx (vW X.prog X.w) X.A (eval e X.env) (EP X vP σ Q) (λe s'=>∃H1 s1,Inv X vP σ H1 s1/\CXx X.prog X.w X.stack H1 s1 E e s') s
def QTr(X:Cx)(b:List xG)(t:DS):Prop:=∀(vP:List (xy×Obj))(s:xF)(σ:St)(H:Hp)(Nx:St->Hp->Prop)(E:XK),Inv X vP σ H s->lS X.K E t {nx:=Nx,rt:=λ_ _=>False} σ H->
 vx (vW X.prog X.w) X.A (execs b X.env) (λfl s'=>fl=.next/\∃σ' H',Inv X vP σ' H' s'/\Nx σ' H') (λe s'=>∃H1 s1,Inv X vP σ H1 s1/\CXx X.prog X.w X.stack H1 s1 E e s') s
section
variable{X:Cx}{f:xy}{fn:Str}{fp cp ep pos:Pos}{a e:xA}{es:List xA}{t:DA}{te:DE}{F:List D->DH->R D}{k:Nat}{fd:xB}{ps:List Str}
theorem ZEF(U:FnOk X.prog X.w X.K X.mg X.base (CXx X.prog X.w) k f fd ps spx)(hr:Room k X.A)(C:Vals dvs dus)(B:Binds X.K fd ps dus)(Y:Gl X fn)(hm:X.mg fn=u7 (.ref f))(hk:zd X.K (.ref f)=u9)(ha:QA X.nox E0 (a::es) t)
  (hF:∀(w:Wd)(G:DH)(p:List D)(vs:List V)(Q:VK)(E:XK),w.K=X.K->Sim w G->Reps w p vs->out E w (F p G) Q->spx (vs++dvs) w.H Q E)
  (J:(fn==("__debug__":Str))=uA) (he:vz (a::es) X.env=(uA,eval a X.env)::vz es X.env) (L:(xN cp (vz es X.env)).any (·.1)=uA):
  QTe X (.Call (.Name fn fp) (a::es) [] cp) (dTc F t):=by
 intro l s T H Z E I h;have h':lA X.K E0 t T H λvs o=>spx (vs++dvs) o Z E:=by
  obtain⟨w,S,G,d,rfl,sm,r,h⟩:=h;refine⟨w,S,G,d,rfl,sm,r,?_⟩;unfold dTc at h;cases M:t S G with
  |err x N=>rw[M]at h;exact h.elim
  |bad=>rw[M]at h;exact h
  |ok p N=>
   rw[M]at h;exact λb vs y j q=>hF b N p vs _ E (y.k.trans d) j q (out.mono y h)
 refine vv (Ja I Y hm ?_ J);refine qd I.ok.mod.kin hk (vE (ha cp l s T H _ (I.wish _) h') (λv j ⟨vs,o,P,r,q⟩=>⟨P.kIn,?_⟩) λ_ _ z=>z.elim) he L;have c:=P.unwish;have O:=r.append C;have m:(v++dus).length=ps.length:=by rw[<-O.length];exact U.len _ _ _ _ q
 refine wpAny_call (xU (U.run X.A X.stack j o ⟨v,[]⟩ (v++dus) (vs++dvs) _ E hr c.env0 (B j v c.kIn m) O q) λr s' g=>?_);cases r with
 |ok fl=>
  cases fl with
  |ret u=>exact c.after g
  |_=>exact .elim g
 |error e=>exact⟨o,j,c,g⟩
theorem Wu(L:QTe X e te)(j:swapsWith e u8 ep.line X.env=pure uA:=by rfl):QTr X [.Expr e ep] (sEx te):=by
 intro g s c H C E I h;obtain⟨w,S,G,l,rfl,J,r,h⟩:=h;have M:lE X.K E te c w.H λ_ z=>C c z:=by
  refine⟨w,S,G,l,rfl,J,r,?_⟩;unfold sEx at h;cases m:te S G with
  |ok d A=>rw[m]at h;exact λb v y o q=>h b c y o (r.mono y)
  |_=>rw[m]at h;exact h
 exact wpAny_execs_cons (wpAny_Expr_any (thn (L g s c w.H _ E I M) λu o ⟨v,p,B,_,q⟩=>wpAny_execs_nil ⟨rfl,c,p,B,q⟩) I.quiet j)
theorem ZCr{t u:DS}(N:QT X.nox E0 c tc)(C:QTr X b1 t)(J:QTr X b2 u):QTr X [.If c b1 b2 pos] (sTi tc t u):=by
 intro d s j H o E I h;have O:lB X.K E0 tc j H λk m=>if k then lS X.K E t {nx:=o,rt:=λ_ _=>False} j m else lS X.K E u {nx:=o,rt:=λ_ _=>False} j m:=by
  obtain⟨w,S,G,g,rfl,M,r,h⟩:=h;refine⟨w,S,G,g,rfl,M,r,?_⟩;unfold sTi at h;cases A:tc S G with
  |err x p=>rw[A]at h;exact h.elim
  |bad=>rw[A]at h;exact h
  |ok k p=>
   rw[A]at h;cases k with
   |_=>exact λb y l=>⟨b,S,p,y.k.trans g,rfl,l,r.mono y,Bl.mono y h⟩
 refine wpAny_execs_cons (wpAny_If (vE (N d s j H _ (I.wish _) O) (λk l zz=>?_) λ_ _ z=>z.elim));obtain⟨m,B,q⟩:=zz;cases k with
 |true=>
  refine vE (C d l j m o E B.unwish q) (λfl L ⟨e,v⟩=>?_) λ_ _ z=>z
  subst e;exact wpAny_execs_nil ⟨rfl,v⟩
 |false=>
  refine vE (J d l j m o E B.unwish q) (λfl L ⟨e,v⟩=>?_) λ_ _ z=>z
  subst e;exact wpAny_execs_nil ⟨rfl,v⟩
end
abbrev DHn:=Xn->DSt->DH->SR
def QH(X:Cx)(hs:List ExceptHandler)(f:DHn):Prop:=∀(vP:List (xy×Obj))(s:xF)(σ:St)(H':Hp)(W:Ends)(ea C:xy)(oe:Obj)(vs:Array xH)(x:Xn)(w:Wd)(S:DSt)(G:DH)(E:XK),
 s.heap.get? ea=u7 oe->oe.cls=.ref C->oe.data=.fields vs->H' ea=u8->Inv X vP σ (upd H' ea (.frz oe (.own 0))) s->(∃B:Heap,Trc s.heap B ea (.ref C) oe.dict .none)->
 w.K=X.K->w.H=H'->Sim w G->RepS w S σ->zb w.K vV x.cls=u7 (u7 (.ref C))->XD w oe.dict x.fs->Bl E w (f x S G) W->
 vx (vW X.prog X.w) X.A (handleBy (.ref ea) X.env hs) (SP X vP W) X.xe s
def Om:DHn:=λ_ _ _=>.bad
theorem ZBe:QH X [] Om:=λb s d c W g C l j x w S G E _ _ _ _ _ _ _ _ _ _ _ _ h=>h.elim
def Ff(ws ns:List Str)(i:Nat)(hb:DS)(f:DHn):DHn:=λx S G=>if x.cls∈ws then unnm i (hb (S.set i (u7 (.ref G.length))) (G++[.exc x.cls x.fs]))else if x.cls∈ns then f x S G else .bad
theorem Uz{X:Cx}{vP:List (xy×Obj)}{Y:St}{H:Hp}{s:xF}{m C W:xy}{u:Obj}{x:Str}{I hp:Pos}{b:Bool}{R:Result->xF->Prop}(ho:s.heap.get? m=u7 u)(O:u.cls=.ref C)(J:Inv X vP Y H s)(j:Gl X x)(g:X.mg x=u7 (.ref W))(h:(x==("__debug__":Str))=uA)
  (r:Il X.K C W b=u9) (q:R (.ok (if b then .brk else .next)) s):codeAny (vW X.prog X.w) (X.A.mark (u7 (.ref m))) (.handlers (.ref m) [.ExceptHandler (u7 (.Name x I)) u8 [] hp] X.env) R s:=by
 unfold Il at r;simp only[z5]at r;obtain⟨⟨t1,Q⟩,p⟩:=r;obtain⟨z,N,nm,qn,bs,sn,sub,ab,Z,dd,k0,k1,k2,k3,k5,d,T,_⟩:=Mj J.kIn t1;obtain⟨S,N',nm',qn',L,P,y,M,v,B,l0,l1,l2,l3,l5,c,E,_⟩:=Mj J.kIn Q;have o:(.ref C::z).contains (.ref W)=b:=by
  split at p
  .rename_i c0 d0 cd U l;have:=J.kIn _ _ l;rw[d]at this;cases this;exact eq_of_beq p
  cases p
 exact codeAny_handlers_test (Ja (Yq J) j g (ZQU d c ho O (E.hasType PySem.F.excBase_ValueError.hasBase) o q) h)
section
variable{X:Cx}{W:xy}{x n:Str}{np hp pos:Pos}{i:Nat}{b₀:xG}{suite:List xG}{hb:DS}{ws ns:List Str}{hs:List ExceptHandler}{f:DHn}
theorem ZMa(d:X.calm=u9)(hgx:Gl X x)(T:X.mg x=u7 (.ref W))(Z:X.N.Nodup)(hi:X.N[i]?=u7 n)(Q:X.env.kindOf n=u7 .local)
  (hws:∀c∈ws,∀C,zb X.K vV c=u7 (u7 (.ref C))->Il X.K C W u9=u9) (hns:∀c∈ns,∀C,zb X.K vV c=u7 (u7 (.ref C))->Il X.K C W uA=u9)
  (hh:∀o,QSs (J7 X o) E0 (b₀::suite) hb) (hr:QH X hs f) (hdx:(x==("__debug__":Str))=uA:=by decide):
  QH X (.ExceptHandler (u7 (.Name x np)) (u7 n) (b₀::suite) hp::hs) (Ff ws ns i hb f):=by
 intro y s σ H' D o C Y vs xn w S G E ho hc U fe J tr p hH sm r hn hx h;subst hH;have b:=J.ok.hd d;unfold Ff at h;split at h
 .rename_i hw;refine wpAny_handleBy_cons (Uz ho hc J hgx T hdx (hws _ hw C (by rw[<-p];exact hn)) ?_) (by intro q;cases q);obtain⟨B,tr⟩:=tr;refine codeAny_handlers_suite_as (ZCR tr λh3 kp=>?_);refine Od (J.kept kp) Z hi (.inl Q) (v:=.ref o) rfl (λs4 I4=>?_) (.inr Q);have P:=Ext.push (ho:=.frz Y (.own 0)) fe;have run:lS X.K E0 hb {nx:=λg j=>D.nx (g.set i u8) j,rt:=D.rt,bk:=λg j=>D.bk (g.set i u8) j,ct:=λg j=>D.ct (g.set i u8) j} (σ.set i (u7 (.ref o))) (upd w.H o (.frz Y (.own 0))):=by
   refine⟨w.push o (.frz Y (.own 0)),S.set i (u7 (.ref G.length)),G++[.exc xn.cls xn.fs],p,rfl,?_,?_,?_⟩
   .exact sm.push fe ⟨C,Y,.own 0,vs,hn,rfl,hc,U,hx.mono P⟩
   .refine(r.mono P).set i ⟨?_,?_⟩
    .rw[sm.len];exact qZ _
    show V.ref o=V.ref (if G.length=w.n then o else w.m G.length);rw[if_pos sm.len]
   revert h
   cases hb (S.set i (u7 (.ref G.length))) (G++[.exc xn.cls xn.fs])with
   |rt d3 G3=>exact λh c v3 I O A=>h c v3 (P.trans I) O A
   |err x3 G3|bad=>exact λh=>h.elim
   |_=>exact λh c σ3 I O A=>h c _ (P.trans I) O (A.unset i)
  refine vE (hh o y s4 _ _ _ (Yq I4) run) (λfl s5 l=>?_) λ_ _ z=>z.elim
  cases fl with
  |next|brk|cont=>
   obtain⟨g,j,M,l⟩:=l;exact ZFA (Ut (calm:=d) b M) Z hi Q λs6 L=>⟨_,j,L,l⟩
  |ret u=>
   obtain⟨v,g,j,M,rv,l⟩:=l;exact ZFA (Ut (calm:=d) b M) Z hi Q λs6 L=>⟨v,_,j,L,rv,l⟩
 .split at h
  .rename_i hw;exact wpAny_handleBy_cons (Uz ho hc J hgx T hdx (hns _ hw C (by rw[<-p];exact hn)) (hr y s σ w.H D o C Y vs xn w S G E ho hc U fe J tr p rfl sm r hn hx h)) (by intro q;cases q)
  exact h.elim
end
noncomputable def Hw(ws ns:List Str)(hb:DS)(f:DHn):DHn:=λx S G=>if x.cls∈ws then(hb S G).nr else if x.cls∈ns then f x S G else .bad
section
variable{X:Cx}{W:xy}{x:Str}{np hp pos:Pos}{b₀:xG}{suite:List xG}{hb:DS}{ws ns:List Str}{hs:List ExceptHandler}{f:DHn}
theorem ZKn(d:X.calm=u9)(P:Gl X x)(M:X.mg x=u7 (.ref W))
  (hws:∀c∈ws,∀C,zb X.K vV c=u7 (u7 (.ref C))->Il X.K C W u9=u9) (hns:∀c∈ns,∀C,zb X.K vV c=u7 (u7 (.ref C))->Il X.K C W uA=u9)
  (hh:∀L,QSs (J7 X L) E0 (b₀::suite) hb) (hr:QH X hs f) (O:(x==("__debug__":Str))=uA:=by decide):
  QH X (.ExceptHandler (u7 (.Name x np)) u8 (b₀::suite) hp::hs) (Hw ws ns hb f):=by
 intro m s σ H' D L C U vs xn w S G E Y hc hda fe J tr l hH sm r Z hx h;subst hH;have b:=J.ok.hd d;unfold Hw at h;split at h
 .rename_i hw;refine wpAny_handleBy_cons (Uz Y hc J P M O (hws _ hw C (by rw[<-l];exact Z)) ?_) (by intro q;cases q);obtain⟨B,tr⟩:=tr;refine codeAny_handlers_suite (ZCR tr λh3 kp=>?_);have N:=Ext.put (ho:=.frz U (.own 0)) fe;have run:lS X.K E0 hb D σ (upd w.H L (.frz U (.own 0))):=by
   refine⟨w.put L (.frz U (.own 0)),S,G,l,rfl,sm.put fe,r.mono N,?_⟩
   revert h
   cases hb S G with
   |rt d3 T=>exact λh c v3 p I o=>h c v3 (N.trans p) I o
   |err x3 T|bad=>exact λh=>h.elim
   |_=>exact λh c Q p I o=>h c _ (N.trans p) I o
  refine vE (hh L m _ _ _ _ (Yq (J.kept kp)) run) (λfl s5 j=>?_) λ_ _ z=>z.elim
  cases fl with
  |next|brk|cont=>
   obtain⟨g,y,A,j⟩:=j;exact⟨g,y,Ut (calm:=d) b A,j⟩
  |ret u=>
   obtain⟨v,g,y,A,rv,j⟩:=j;exact⟨v,g,y,Ut (calm:=d) b A,rv,j⟩
 .split at h
  .rename_i hw;exact wpAny_handleBy_cons (Uz Y hc J P M O (hns _ hw C (by rw[<-l];exact Z)) (hr m s σ w.H D L C U vs xn w S G E Y hc hda fe J tr l rfl sm r Z hx h)) (by intro q;cases q)
  exact h.elim
end
def Dm(t:DS)(f:DHn):DS:=λS G=>match t S G with
 |.nx S2 G2=>.nx S2 G2
 |.err x G2=>f x S G2
 |_=>.bad
theorem ZNt(v:X.stack=X.env::X.outer)(B:X.env.frame=u7 X.env.locals)(hb:QTr X b t)(hh:QH X (h0::hs) f):QS X E (.Try b (h0::hs) [] [] pos) (Dm t f):=by
 intro j s u H D I h;obtain⟨w,S,G,o,rfl,sm,r,h⟩:=h;let E1:XK:=λl Q H'=>l=.none\/∃C x g c,l=.ref C/\zb c.K vV x.cls=u7 (u7 (.ref C))/\c.K=X.K/\c.H=H'/\Sim c g/\RepS c S u/\XD c Q x.fs/\Bl E c (f x S g) D
 have M:lS X.K E1 t {nx:=D.nx,rt:=λ_ _=>False} u w.H:=by
  refine⟨w,S,G,o,rfl,sm,r,?_⟩;unfold Dm at h;cases m:t S G with
  |bad|nx S2 g=>rw[m]at h;exact h
  |err xn g=>
   rw[m]at h;refine⟨λz=>?_,λc C Q O p y P=>.inr ⟨C,xn,g,c,rfl,y,O.k.trans o,rfl,p,r.mono O,P,Bl.mono O h⟩⟩;have:=congrFun (congrFun (congrFun z Value.none) u8) w.H;exact cast this (.inl rfl)
  |_=>rw[m]at h;exact h.elim
 refine wpAny_Try_except (vE (hb j s u w.H _ E1 I M) (λfl s1 ⟨e,T,Z,A,q⟩=>?_) λe s1 ⟨Z,p,A,hq⟩=>?_)
 .subst e;exact wpAny_execs_nil ⟨T,Z,A,q⟩
 refine lands v B A hq λea C Q H' oe U h'' ee ho hc hd L hE fe J tr Y=>?_
 subst ee;rcases hE with z|⟨C',xn,g,c,z,y,N,hH,p,r2,P,h2⟩
 .obtain⟨C2,z2⟩:=Y;rw[z]at z2;cases z2
 .subst z hd hH;exact hh j _ u c.H D ea C' oe U xn c S g E ho hc L fe J tr N rfl p r2 y P h2
end _D
namespace _D
open PySem PySem.Spec PySem.W _L
open PyProof.Rows hiding St
theorem ZJs{K:vM}{h:Heap}{N:xy}{m:Str->Option xH}{n:Str}(X:K.In h)(G:h.Ns N m)(e:nsIn K N n=u7 u8):m n=u8:=by
 obtain⟨o,z,A,r,g,_,i⟩:=G;unfold nsIn at e;split at e
 .rename_i c d s y u q;have:=X _ _ q;rw[r]at this;cases this;cases g;split at e
  .cases e
  rename_i l;rw[<-i];unfold nsFind findBy;rw[<-jR,l]
  rfl
 cases e
section
variable{X:Cx}{C:xy}{x:Str}{np cpos pos:Pos}{a:xA}{ta:TA}{E:XK}
def tRz0(C:xy)(E:XK)(ta:TA):TS:=λ_ σ H=>ta σ H λvs H1=>vs.length<=1000/\E (.ref C) u8 H1
theorem ZJY(l:X.calm=u9)(hs:X.stack=X.env::X.outer)(Q:X.ex=[])(P:X.env.frame=u7 X.env.locals)(O:∀e s,Ju X E e s->X.xe e s)
  (ec:Ez X.K C=u9) (L:U5 X.K C=u9) (hg:Gl X x) (hm:X.mg x=u7 (.ref C)) (hk:keepIn X.K (.ref C)=u9) (ha:PA X [a] ta) (S:(x==("__debug__":Str))=uA:=by decide)
  (he:vz [a] X.env=(uA,eval a X.env)::vz [] X.env:=by rfl) (Y:(xN cpos (vz [] X.env)).any (·.1)=uA:=by rfl):
  PS X (.Raise (u7 (.Call (.Name x np) [a] [] cpos)) u8 pos) (tRz0 C E ta):=by
 intro B s σ H D I h;refine ZGL (C:=C) (I.ok.hd l) ?_;refine vv (Ja I hg hm ?_ S);refine callWith_K I.ok.mod.kin hk (thn (ha cpos B s σ H _ I h) λus s1 ⟨vs,Z,y,r,hl,q⟩=>⟨y.kIn,?_⟩) he Y;obtain⟨bm,N,nm,qn,bs,sn,sub,ab,W,dd,k0,k1,k2,k3,k5,A,T,m,hN,hin⟩:=Mj y.kIn ec;have M:m "__init__"=u8:=by
  unfold U5 at L;split at L
  .rename_i c0 d0 cd sl0 U;have:=y.kIn _ _ U;rw[A]at this;cases this;exact ZJs y.kIn hN (W8 L)
  cases L
 have hl1:us.length<=sizeLine:=by rw[<-r.length,vY];lia
 obtain⟨hp,g,d,tk,os⟩:=s1;have FB:=vh;refine wpAny_call_exc_subT FB T A hN M λh' e i=>?_
 obtain⟨t,ht,_,_⟩:=i.there;have fe:Z e=u8:=by
  cases z:Z e with
  |none=>rfl
  |some u=>
   obtain⟨o,k⟩:=ZB1 (y.hok e u z);have k':=k;rw[i.new]at k';cases k'
 have J:=y.kept (t':=tk) i.keeps;exact⟨e,u8,t,bm,N,nm,qn,bs,u9,sn,sub,ab,W,dd,k0,k1,k2,k3,k5,_,rfl,i.keeps _ _ A,T.hasType FB.hasBase,ht,O _ _ (ZDi hs Q P y (⟨rfl,J.bare,⟨λb o k _ _ _=>i.keeps b o k,λb o k _ _ _=>⟨o.slots,i.keeps b o k⟩,λb o k n _=>n,λb o k _=>⟨o,i.keeps b o k⟩,λb xs k=>k,λb o u k=>k,λb ps k=>⟨#[],Array.append_empty▸k⟩⟩,J.hok,⟨_,_,ht,rfl,rfl,rfl,rfl⟩,fe,i.new⟩) q ⟨C,rfl⟩)⟩
end
noncomputable def Dt(c:Str)(t:DA):DS:=λS G=>match t S G with
 |.ok ds G1=>if ds.length=1 then .err ⟨c,[]⟩ G1 else .bad
 |.err x G1=>.err x G1
 |.bad=>.bad
structure ET0 (K:vM) (mg:Str->Option xH) (c:Str):Prop where
 N:nsIn K vV c=u7 (u7 (.ref (Aa K c)))
 g:mg c=u7 (.ref (Aa K c))
 k:keepIn K (.ref (Aa K c))=u9
 ec:Ez K (Aa K c)=u9
 ni:U5 K (Aa K c)=u9
 G:XGet K (Aa K c)
theorem ZKV{K:vM}{h:Heap}{i:Str->Option xH}{c:Str}(X:K.In h)(G:h.Ns vV i)(s:et0Ok c K=u9):ET0 K i c:=by simp[et0Ok,z5]at s;obtain⟨⟨⟨⟨d,r⟩,g,y⟩,u⟩,⟨⟨⟨⟨⟨⟨A,B⟩,o⟩,I⟩,z⟩,H⟩,l⟩,m⟩:=s;exact⟨Ji d,mg_of X G (Ji d),r,g,u,⟨M6 A,W8 B,Hx o,y,M6 I,M6 z,Hx H,Hx l,Hx m,g⟩⟩
section
variable{X:Cx}{E:XK}{c x n f v w:Str}{e a:xA}{es:List xA}{t:DE}{tr:DA}{p q pos cpos np fp cp ep hp:Pos}{b:Bool}{F:List D->DH->R D}{k j:Nat}{ps:List Str}{st:xG}
theorem Qs(T:ET0 X.K X.mg c)(J:QA X E [a] tr)
  (u:∀e s,Ju X E e s->X.xe e s:=by exact λ_ _ h=>h) (d:X.calm=u9:=by rfl) (I:X.stack=X.env::X.outer:=by rfl) (l:X.ex=[]:=by rfl) (m:X.env.frame=u7 X.env.locals:=by rfl) (B:Gl X c:=by rfl) (o:(c==("__debug__":Str))=uA:=by decide) (i:notStar a=u9:=by rfl):
  QS X E (.Raise (u7 (.Call (.Name c np) [a] [] cpos)) u8 pos) (Dt c tr):=
 (ZJY d I l m u T.ec T.ni B T.g T.k J o (Ed a [] X.env i) rfl).mono λW P H h=>by
  obtain⟨w,S,G,hk,rfl,M,r,h⟩:=h;refine⟨w,S,G,hk,rfl,M,r,?_⟩;unfold Dt at h;cases z:tr S G with
  |ok U A=>
   rw[z]at h;dsimp only at h;split at h
   .rename_i L;intro b Q y O q;refine⟨by rw[<-q.length,L];decide,h.2 b _ u8 y O ?_ (.inl ⟨rfl,rfl⟩)⟩;rw[y.k,hk];exact T.N
   exact h.elim
  |_=>rw[z]at h;exact h
theorem ZEz(l:FnX X.prog X.w X.K X.mg X.base k n ps F)(T:FT X.K X.mg n st ps)(z:Room j X.A)(u:QA X.nox E0 (a::es) tr)(i:Nat.ble k j=u9:=by rfl)(o:Gl X n:=by rfl)
  (g:(n==("__debug__":Str))=uA:=by decide) (B:vz (a::es) X.env=(uA,eval a X.env)::vz es X.env:=by rfl) (d:(xN cp (vz es X.env)).any (·.1)=uA:=by rfl):
  QTe X (.Call (.Name n fp) (a::es) [] cp) (dTc F tr):=
 ZEF l (z.mono (qD i)) .nil T.b o T.m T.k u (λw G y H Q E hk s r h=>by rw[qV];exact⟨w,G,y,hk,rfl,s,r,h⟩) g B d
theorem ZGu(l:FnX X.prog X.w X.K X.mg X.base k n ps F)(T:FTD X.K X.mg n st ps dv)(z:Room j X.A)(u:QA X.nox E0 (a::es) tr)(i:Nat.ble k j=u9:=by rfl)(o:Gl X n:=by rfl)
  (g:(n==("__debug__":Str))=uA:=by decide) (B:vz (a::es) X.env=(uA,eval a X.env)::vz es X.env:=by rfl) (d:(xN cp (vz es X.env)).any (·.1)=uA:=by rfl):
  QTe X (.Call (.Name n fp) (a::es) [] cp) (dTc F tr):=
 ZEF l (z.mono (qD i)) .nil T.b o T.m T.k u (λw G y H Q E hk s r h=>by rw[qV];exact⟨w,G,y,hk,rfl,s,r,h⟩) g B d
def Tk(K:vM)(w:Str)(b:Bool)(ws:List Str):Prop:=∀c∈ws,∀C,nsIn K vV c=u7 (u7 (.ref C))->Il K C (Aa K w) b=u9
theorem Ku{K:vM}:Tk K w b []:=λc h=>absurd h (by simp)
theorem J1{K:vM}{g:List Str}(N:nsIn K vV c=u7 (u7 (.ref (Aa K c))))(h:Il K (Aa K c) (Aa K w) b=u9)(r:Tk K w b g):Tk K w b (c::g):=λl i C d=>by
 rcases zj.mp i with z|z
 .subst z;rw[N]at d;cases d;exact h
 exact r l z C d
theorem ZAh{i:Nat}{h:xG}{d:List xG}{y:DS}{s ns:List Str}{u:List ExceptHandler}{g:DHn}(M:X.mg w=u7 (.ref (Aa X.K w)))(O:Tk X.K w u9 s)(I:Tk X.K w uA ns)(J:Room j X.A)(B:X.N.Nodup)(L:∀m,RoomH j (J7 X m).A->QSs (J7 X m) E0 (h::d) y)(hrest:QH X u g)
  (l:X.calm=u9:=by rfl) (r:Gl X w:=by rfl) (H:X.N[i]?=u7 x:=by rfl) (z:X.env.kindOf x=u7 .local:=by rfl) (o:(w==("__debug__":Str))=uA:=by decide):
  QH X (.ExceptHandler (u7 (.Name w np)) (u7 x) (h::d) hp::u) (Ff s ns i y g):=
 ZMa l r M B H z O I (λm=>L m (.held (.of J))) hrest o
theorem ZQe(s:X.mg w=u7 (.ref (Aa X.K w)))(u:Tk X.K w u9 ws)(m:Tk X.K w uA ns)(o:Room j X.A)(r:∀h,RoomH j (J7 X h).A->QSs (J7 X h) E0 (b₀::suite) hb)(hrest:QH X hs g)
  (d:X.calm=u9:=by rfl) (l:Gl X w:=by rfl) (i:(w==("__debug__":Str))=uA:=by decide):
  QH X (.ExceptHandler (u7 (.Name w np)) u8 (b₀::suite) hp::hs) (Hw ws ns hb g):=
 ZKn d l s u m (λh=>r h (.held (.of o))) hrest i
theorem ZBO(l:QTr X bd ts)(i:QH X (h0::hs) g)(d:X.stack=X.env::X.outer:=by rfl)(h:X.env.frame=u7 X.env.locals:=by rfl):QS X E (.Try bd (h0::hs) [] [] pos) (Dm ts g):=
 ZNt d h l i
def Tb(K:vM)(P:xy->Bool->Prop)(tb:List (Str×Bool)):Prop:=∀c b,tb.lookup c=u7 b->∀C,nsIn K vV c=u7 (u7 (.ref C))->P C b
theorem Oo{K:vM}{P:xy->Bool->Prop}:Tb K P []:=λc b h=>by cases h
theorem ZBN{K:vM}{P:xy->Bool->Prop}{l:List (Str×Bool)}(m:nsIn K vV c=u7 (u7 (.ref (Aa K c))))(h:P (Aa K c) b)(r:Tb K P l):Tb K P ((c,b)::l):=by
 intro i o d C g;by_cases z:i=c
 .subst z;rw[m]at g;cases g;simp[qC,beq_self_eq_true]at d;cases d;exact h
 have:(i==c)=uA:=by simpa using z
 simp[qC,this]at d;exact r i o d C g
theorem ZDz(i:X.mg "isinstance"=u8)(r:X.mg w=u7 (.ref (Aa X.K w)))(k:Tb X.K (λC b=>XGet X.K C/\kitOne X.K (.ref C) (.ref (Aa X.K w))=u7 b) tb)(g:QE X E e t)(d:Gl X "isinstance":=by rfl)(m:Gl X w:=by rfl)(l:(w==("__debug__":Str))=uA:=by decide)(o:notStar e=u9:=by rfl):
  QE X E (.Call (.Name "isinstance" p) [e,.Name w q] [] pos) (dUn (isx tb) t):=
 ZEW (cv:=.ref (Aa X.K w)) d i g (Rx m r rfl l) (λu h=>h) k o rfl
theorem ZN8(m:X.mg "isinstance"=u8)(y:X.mg w=u8)(l:xS w=u7 (.type T))(k:Tb X.K (λC b=>XGet X.K C/\kitOne X.K (.ref C) (.type T)=u7 b) tb)(i:QE X E e t)(g:Gl X "isinstance":=by rfl)(r:Gl X w:=by rfl)(d:w≠"__name__":=by decide)(o:(w==("__debug__":Str))=uA:=by decide)(s:notStar e=u9:=by rfl):
  QE X E (.Call (.Name "isinstance" p) [e,.Name w q] [] pos) (dUn (isx tb) t):=
 ZEW (cv:=.ty T) g m i (ZL0 r y l rfl d o) (λu h=>h) k s rfl
theorem Zd{g:List Str}{x1:Nat}{tp:Pos}{d:List xA}{i:List (Str×Bool)}(r:X.mg "isinstance"=u8)(s:PC X d g)(k:Tb X.K (λC b=>XGet X.K C/\kitAny X.K (.ref C) (g.map λw=>Value.ref (Aa X.K w))=u7 b) i)(o:QE X E e t)(l:Nat.ble g.length 1000=u9:=by rfl)(m:Gl X "isinstance":=by rfl)(u:notStar e=u9:=by rfl):
  QE X E (.Call (.Name "isinstance" p) [e,.Tuple d x1 tp] [] pos) (dUn (isx i) t):=
 ZMI m r o s (by rw[zM];exact qD l) (λy h=>ZCz h) k u
structure XN (K:vM) (c:Str):Prop where
 N:nsIn K vV c=u7 (u7 (.ref (Aa K c)))
 G:XGet K (Aa K c)
theorem ET.xn{K:vM}{d:Str->Option xH}(T:ET K d c f):XN K c:=⟨T.N,T.G⟩
theorem ET0.xn{K:vM}{d:Str->Option xH}(T:ET0 K d c):XN K c:=⟨T.N,T.G⟩
theorem Jw{K:vM}{cu:xH}{d:List (Str×Bool)}(T:XN K c)(k:Fe (kitOne K (.ref (Aa K c)) cu) b=u9)(r:Tb K (λC b=>XGet K C/\kitOne K (.ref C) cu=u7 b) d):Tb K (λC b=>XGet K C/\kitOne K (.ref C) cu=u7 b) ((c,b)::d):=ZBN T.N ⟨T.G,Hx k⟩ r
theorem tb_any{K:vM}{d:List xH}{g:List (Str×Bool)}(T:XN K c)(k:Fe (kitAny K (.ref (Aa K c)) d) b=u9)(r:Tb K (λC b=>XGet K C/\kitAny K (.ref C) d=u7 b) g):Tb K (λC b=>XGet K C/\kitAny K (.ref C) d=u7 b) ((c,b)::g):=ZBN T.N ⟨T.G,Hx k⟩ r
def Cf(K:vM)(f:Str)(cs:List Str):Prop:=∀c∈cs,∀C,nsIn K vV c=u7 (u7 (.ref C))->XGet K C/\NoAttr K C f
end
section
variable{X:Cx}{n y:Str}{e e2:xA}{es:List xA}{tr:DA}{tu:DE}{p pos kp:Pos}{F:List D->DH->R D}{k j:Nat}{ps:List Str}{st:xG}{v:Int}
end
section
variable{prog:xD}{w:xI}{A:x0}{E:xH->xF->Prop}{s:xF}
end
section
variable{X:Cx}{E:XK}
end
section
variable{X:Cx}{E:XK}
end
section
variable{X:Cx}{E:XK}
end
end _D
namespace _D
open PySem PySem.Spec _L
open PyProof.Rows hiding St
noncomputable def tgN:xA->List Str
 |.Name x _=>[x]
 |.Tuple es _ _=>es.flatMap λe=>match e with
  |.Name x _=>[x]
  |_=>[]
 |_=>[]
def Ik(tg:xA)(caps:List Nat)(N:List Str):List Str:=tgN tg++caps.map λj=>N.getD j ""
section
variable{X:Cx}{scope:xE}{nt:Nat}{caps:List Nat}{tg elt iter:xA}{ifs:List xA}{pos:Pos}{it:DI}{g:DG}{c:DB}{te:DE}
theorem ZNw(m:QI X E0 tg iter it)(j:∀C b a d,(Ik tg caps X.N).Nodup->QG (blk X (Ik tg caps X.N) scope C b a d) E0 tg g)(o:GK nt g)(e:∀C b a d,QTs (blk X (Ik tg caps X.N) scope C b a d) E0 ifs c)
  (k:∀C b a d,QE (blk X (Ik tg caps X.N) scope C b a d) E0 elt te) (n:X.calm=u9:=by rfl) (hk:scope.kind=.function:=by rfl) (f:∀x,X.env.kindOf x=X.env.scope.names.lookup x:=by intro _;rfl)
  (h:Wo X.env.scope.names X.N (Ik tg caps X.N) scope.names nt caps=u9:=by kernel_rfl) (l:∀x,foldedSetIterable iter X.env x=pure x:=by intro _;rfl):QE X E0 (.ListComp elt [⟨tg,iter,ifs,0⟩] scope pos) (Bt it nt caps g c te):=
 have i:=ZHD hk f rfl h
 ZRy n i m (λC b a d=>j C b a d i.nd) o e k l
theorem ZIW(i:Nat){y:Str}{l d:Pos}(u:X.N.Nodup)(v:QI X E0 tg iter it)(p:∀C a b e,(Ik tg caps X.N).Nodup->QG (blk X (Ik tg caps X.N) scope C a b e) E0 tg g)(o:GK nt g)(f:∀C a b e,QTs (blk X (Ik tg caps X.N) scope C a b e) E0 ifs c)
  (t:∀C a b e,QE (blk X (Ik tg caps X.N) scope C a b e) E0 elt te) (s:X.calm=u9:=by rfl) (hk:scope.kind=.function:=by rfl) (j:∀x,X.env.kindOf x=X.env.scope.names.lookup x:=by intro _;rfl)
  (h:Wo X.env.scope.names X.N (Ik tg caps X.N) scope.names nt caps=u9:=by kernel_rfl)
  (r:X.N[i]?=u7 y:=by rfl) (w:Loc X.env.scope y:=by first|exact Or.inl rfl|exact Or.inr rfl) (n:X.fn y=u9\/X.env.scope.names.lookup y=u7 .local:=by first|exact .inl rfl|exact .inr rfl|assumption)
  (k:swapsWith (.ListComp elt [⟨tg,iter,ifs,0⟩] scope pos) (u7 (.Name y l)) d.line X.env=pure u9:=by rfl)
  (q:∀x,foldedSetIterable iter X.env x=pure x:=by intro _;rfl):QS X E0 (.Assign [.Name y l] (.ListComp elt [⟨tg,iter,ifs,0⟩] scope pos) d) (sAs (Bt it nt caps g c te) (gV i)):=
 have m:=ZHD hk j rfl h
 ZIk i s u m v (λC a b e=>p C a b e m.nd) o f t r w n k q
end
theorem bnd0{p:List xH->Prop}(h:p [])(us:List xH)(e:us.length=0):p us:=by cases us with |nil=>exact h|cons a r=>cases e
theorem Ck{n:Nat}{p:List xH->Prop}(h:∀a r,r.length=n->p (a::r))(us:List xH)(e:us.length=n+1):p us:=by cases us with |nil=>cases e|cons a r=>exact h a r (Nat.succ.inj e)
theorem bnd1{p:List xH->Prop}(h:∀a,p [a]):∀us:List xH,us.length=1->p us:=Ck λa=>bnd0 (h a)
theorem bnd2{p:List xH->Prop}(h:∀a b,p [a,b]):∀us:List xH,us.length=2->p us:=
 Ck λa=>Ck λb=>bnd0 (h a b)
theorem bnd3{p:List xH->Prop}(h:∀a b c,p [a,b,c]):∀us:List xH,us.length=3->p us:=
 Ck λa=>Ck λb=>Ck λc=>bnd0 (h a b c)
theorem bnd4{p:List xH->Prop}(h:∀a b c d,p [a,b,c,d]):∀us:List xH,us.length=4->p us:=
 Ck λa=>Ck λb=>Ck λc=>Ck λd=>bnd0 (h a b c d)
theorem bnd5{p:List xH->Prop}(h:∀a b c d e,p [a,b,c,d,e]):∀us:List xH,us.length=5->p us:=
 Ck λa=>Ck λb=>Ck λc=>Ck λd=>Ck λe=>bnd0 (h a b c d e)
theorem bnd6{p:List xH->Prop}(h:∀a b c d e f,p [a,b,c,d,e,f]):∀us:List xH,us.length=6->p us:=
 Ck λa=>Ck λb=>Ck λc=>Ck λd=>Ck λe=>Ck λf=>bnd0 (h a b c d e f)
theorem bnd7{p:List xH->Prop}(h:∀a b c d e f g,p [a,b,c,d,e,f,g]):∀us:List xH,us.length=7->p us:=
 Ck λa=>Ck λb=>Ck λc=>Ck λd=>Ck λe=>Ck λf=>Ck λg=>bnd0 (h a b c d e f g)
theorem fsc{N P:List Str}{h:xE}(a:h.kind=.function:=by rfl)(b:h.isCoroutine=uA:=by rfl)(c:h.isGenerator=uA:=by rfl)(d:N.Nodup:=by decide +kernel)(e:N.take P.length=P:=by rfl)
  (f:∀x∈P,h.names.lookup x=u7 .local\/h.names.lookup x=u7 .cell:=by decide +kernel) (g:∀y∈h.names,y.2≠ .free:=by decide +kernel):FnScope N P h:=⟨a,b,c,d,e,f,g⟩
end _D
namespace _D
open PySem PySem.W _L
theorem ZM4{X:Cx}{E:XK}{x:Str}{n:Int}{t:Tok}{pos:Pos}(hg:Gl X x)(hm:X.mg x=u7 (.int n t))(hd:(x==("__debug__":Str))=uA:=by decide):QE X E (.Name x pos) (dC (.int n)):=
 ZBE (v:=.int n) hg hm ⟨_,rfl⟩ (λ_ _=>rfl) hd
theorem ZPX{X:Cx}{E:XK}{x:Str}{n:Str}{t:Tok}{pos:Pos}(hg:Gl X x)(hm:X.mg x=u7 (.str n t))(hd:(x==("__debug__":Str))=uA:=by decide):QE X E (.Name x pos) (dC (.str n)):=
 ZBE (v:=.str n) hg hm ⟨_,rfl⟩ (λ_ _=>rfl) hd
section
open Lean
def wA(s:String):Syntax:=.atom .none s
def wL(l:List Syntax):Syntax:=.node .none `null l.toArray
def wN(k:String)(l:List Syntax):Syntax:=.node .none ("Lean.Parser."++k).toName l.toArray
def wX(l:List Syntax):Syntax:=wN "Tactic.tacticSeq" [wN "Tactic.tacticSeq1Indented" [wL l]]
def wP(l:List Syntax):Syntax:=wN "Tactic.paren" [wA "(",wX l,wA ")"]
def wI(s:String):Syntax:=(mkIdent s.toName).raw
def wH:Syntax:=wN "Term.syntheticHole" [wA "?",wA "_"]
def wU(l:List String):Syntax:=wN "Term.fun" [wA "fun",wN "Term.basicFun" [wL (l.map wI),wL [],wA "=>",wH]]
def wY(l:List Syntax):Syntax:=match l.reverse with
 |x::y::r=>wN "Term.app" [x,wL (y::r)]
 |[x]=>x
 |_=>.missing
def wT(s:String):Syntax:=wY ((((s.replace "(" "( ").replace ")" " )").splitOn " ").foldl (λst w=>match st with
 | a::r=>
  if w="" then st else if w="(" then[]::st else if w=")" then(match r with
   |b::q=>(wY a::b)::q
   |_=>st)
  else((if w="_" then wN "Term.hole" [wA w]else if w="?" then wH else if w="." then wN "Term.ellipsis" [wA ".."]
   else if w="L" then wU ["C","s","H","e","nd"]else if w="l" then wU ["C","s","H","e"]
   else if w="d" then wN "Term.byTactic" [wA "by",wX [wN "Tactic.decide" [wA "decide",wN "Tactic.optConfig" [wL []]]]]
   else if w.isNat then(Syntax.mkNumLit w).raw else wI w)::a)::r
 |_=>st) [[]]).head!
def wF(l:List Syntax):Syntax:=wN "Tactic.first" [wA "first",wL (l.map λx=>.node .none `group #[wA "|",wX [x]])]
def wJ(a b:Syntax):Syntax:=wN "Tactic.«tactic_<;>_»" [a,wA "<;>",b]
def wG(k:String)(t:Syntax)(r:Syntax):Syntax:=wP [wN "Tactic.guardTarget" [wA "guard_target",wN "equal" [wN k [wA "="]],t],wA ";",r]
def wV:Syntax:=wN "Tactic.tacticTrivial" [wA "trivial"]
def wB(s:String):Syntax:=
 let t:=wT (s.drop 1).toString;let f:=λk=>wN ("Tactic."++k) [wA k,t]
 let c:=s.front
 if c='@' then f "apply" else if c='!' then wN "Tactic.withReducible" [wA "with_reducible",wX [f "exact"]]
 else if c='=' then wP [wJ (f "refine") (wN "Tactic.tacticRfl" [wA "rfl"])]else if c='<' then wP [wJ (f "refine'") wV]else if c='.' then f "exact" else f "refine'"
def wC(s:String):Syntax:=wF ((s.splitOn ",").flatMap λb=>match b.splitOn "^" with
 |[_,t,n]=>(n.splitOn " ").map λx=>wB ("-"++t.replace "$" x)
 |_=>[wB b])
def wR(s:String):Syntax:=wF ((s.splitOn "#").map λg=>match g.splitOn "|" with
 | h::r=>
  let b:=wF (r.map λa=>match a.splitOn ":" with
   |[a,x]=>wG "equalD" (wT (h++" "++a)) (wC x)
   |_=>wC a)
  if h.front='=' then wG "equalR" (wT (h.drop 1).toString) b else if h.front='*' then b else wG "equalD" (wT (h++" _ _")) (wJ (wP [b]) wV)
 |_=>.missing)
end
end _D
namespace _D
open PySem PySem.Spec _L
open PyProof.Rows hiding St
section
variable{M:Model}{A:x0}{E:xH->xF->Prop}{s:xF}{B:Heap}{env:Env}{outer:List Env}{L e:xy}{oe:Obj}{vs:Array xH}{head:xH}{hn:Bool}{Q:Unit->xF->Prop}
end
section
variable{X:Cx}{vP:List (xy×Obj)}{σ:St}{H H':Hp}{s s':xF}{B h'':Heap}{ea C:xy}{cls:xH}{od:Option xy}{E:XK}
end
section
variable{prog:xD}{w:xI}{A:x0}{R':Result->xF->Prop}{s:xF}
end
section
variable{X:Cx}{E:XK}{N:List Str}{scope:xE}{nt:Nat}{caps:List Nat}{tg elt iter:xA}{ifs:List xA}{pos:Pos}{it:DI}{g:DG}{c:DB}{te:DE}
end
section
variable{X:Cx}{E:XK}
end
section
variable{prog:xD}{w:xI}{A:x0}{E:xH->xF->Prop}
end
section
variable{X:Cx}{E:XK}
end
section
variable{X:Cx}{E:XK}
end
section
variable{X:Cx}{E:XK}{tg iter elt:xA}{ifs:List xA}{scope:xE}{pos:Pos}{it:DI}{nt:Nat}{caps:List Nat}{g:DG}{c:DB}{te:DE}
end
theorem ZMs(h:Bl E a (r.toS f) W):
  Er E a r (λvs H=>∃(b:Wd)(c:List D)(G:DH),b.H=H/\Ext a b/\Sim b G/\Reps b c vs/\Bl E b (f c G) W):=by
 cases r with
 |ok c G=>exact λb vs x s q=>⟨b,c,G,rfl,x,s,q,h.mono x⟩
 |_=>exact h
def Pq(i j:Nat)(t:DA):DS:=λS G=>(t S G).toS λds G1=>match ds with
 |[d,e]=>.nx ((S.set i (u7 d)).set j (u7 e)) G1
 |_=>.bad
@[simp]theorem ZSL:Pq i j t S G=(t S G).toS λa b=>match a with
 |[d,e]=>.nx ((S.set i (u7 d)).set j (u7 e)) b
 |_=>.bad:=id rfl
section
variable{X:Cx}{E:XK}
theorem ZCU(i j:Nat){x y:Str}{a b:xA}{ta:DA}{g f pt:Pos}{kt k2 pt2}{pos:Pos}(B:X.N.Nodup)(I:QA X E [a,b] ta)(u:X.calm=u9:=by rfl)(F:X.N[i]?=u7 x:=by rfl)(C:X.N[j]?=u7 y:=by rfl)(k:i≠j:=by decide)
  (J:X.env.scope.names.lookup x=u7 .local:=by rfl) (p:X.env.scope.names.lookup y=u7 .local:=by rfl)
  (hw:swappedStores [.Tuple [.Name x g,.Name y f] kt pt] (.Tuple [a,b] k2 pt2) X.env=pure (u7 [x,y]):=by rfl)
  (o:swapsWithSole [.Tuple [.Name x g,.Name y f] kt pt] (.Tuple [a,b] k2 pt2) pos.line X.env=pure uA:=by rfl):
  QS X E (.Assign [.Tuple [.Name x g,.Name y f] kt pt] (.Tuple [a,b] k2 pt2) pos) (Pq i j ta):=
 (ZMi u B F C k J p I hw o).mono λW O H h=>by
  obtain⟨a,S,G,hk,rfl,s,r,h⟩:=h;refine⟨a,S,G,hk,rfl,s,r,(ZMs h).imp ?_⟩;rintro M _ ⟨b,t,K,rfl,x,z,q,c⟩
  match t,q,c with
  |[d,e],q,c=>
   obtain⟨v,P,rfl,l,m⟩:=q;obtain⟨w,L,rfl,A,n⟩:=m;cases(n);exact⟨v,w,rfl,c b _ (.refl b) z (((r.mono x).set i l).set j A)⟩
  |[],_,c |[_],_,c|_::_::_::_,_,c=>exact c.elim
end
end _D
namespace _D
open PySem PySem.W _L
def lcl(s:xG):List Str:=(Ay s).names.filterMap λp=>match p.2 with
 |.local=>u7 p.1
 |.cell=>u7 p.1
 |_=>u8
def prm(s:xG):List Str:=(lcl s).take (Dz s).args.length
def dnm:xG->Str
 |.FunctionDef n _ _ _ _ _ _ _ _ _=>n
 |_=>Str.empty
structure Ev where
 P:xD
 w:xI
 K:vM
 mg:Str->Option xH
 base:Heap
def Ask.nm:Ask->Str
 |.z n=>n
 |.gi n _=>n
 |.gs n _=>n
 |.no c x=>c++"."++x
 |_=>Str.empty
def fnd(b:List xG)(ex:List Ask)(n:Str):Option Ask:=(Zm b ex).find? λx=>x.nm==n
theorem ZCJ:∀{l:List Ask},AllSaid K l->∀a∈l,a.Said K
 |[],_,_,h=>nomatch h
 |b::r,h,a,m=>by
  rcases zj.mp m with rfl|m
  .exact h.1
  exact ZCJ h.2 a m
abbrev clM(b:List xG)(i:Nat):Str:=(clN (nth b i)).1
abbrev Ec(b:List xG)(i j:Nat):xG:=(clN (nth b i)).2.getD j pss
abbrev qlM(b:List xG)(i j:Nat):Str:=clM b i++"."++dnm (Ec b i j)
structure Gx (b:List xG) (ex:List Ask) (U:Ev):Prop where
 h:∃h,U.K.In h/\h.Ns vV U.mg
 S:∀a∈Zm b ex,a.Said U.K
section
variable{b:List xG}{ex:List Ask}{U:Ev}(T:Gx b ex U)
include T
theorem Gx.has(e:fnd b ex n=u7 a):a.Said U.K:=T.S _ (List.mem_of_find?_eq_some e)
theorem Gx.z(e:fnd b ex n=u7 (.z n):=by kernel_rfl):U.mg n=u8:=by obtain⟨h,X,G⟩:=T.h;exact mg_none_of X G (T.has e)
theorem Gx.gi(e:fnd b ex n=u7 (.gi n v):=by kernel_rfl):U.mg n=u7 (.int v (Lb U.K n)):=by obtain⟨h,X,G⟩:=T.h;exact mg_of X G (T.has e)
theorem Gx.gs(e:fnd b ex n=u7 (.gs n v):=by kernel_rfl):U.mg n=u7 (.str v (Lb U.K n)):=by obtain⟨h,X,G⟩:=T.h;exact mg_of X G (T.has e)
theorem Gx.no(e:fnd b ex (c++"."++x)=u7 (.no c x):=by kernel_rfl):NoAttr U.K (Aa U.K c) x:=T.has e
theorem Gx.at (i:Nat):(Qq (nth b i)).Said U.K:=by
 unfold nth List.getD;rcases h:b[i]? with _|s
 .exact rfl
 exact T.S _ (zD _ (zD _ (zD _ (List.mem_map_of_mem (jW h)))))
theorem Gx.mat(i j:Nat):(mtA (clM b i) (Ec b i j)).Said U.K:=by
 unfold Ec clM nth List.getD;rcases h:b[i]? with _|s
 .exact rfl
 show(mtA (clN s).1 ((clN s).2[j]?.getD pss)).Said U.K;rcases a:(clN s).2[j]? with _|f
 .exact rfl
 exact T.S _ (zD _ (zD _ (j1 _ (List.mem_flatMap.mpr ⟨s,jW h,j1 _ (List.mem_map_of_mem (jW a))⟩))))
end
def scB(s:xG):Bool:=decide ((Ay s).kind=.function/\(Ay s).isCoroutine=uA/\(Ay s).isGenerator=uA/\(lcl s).Nodup/\(∀x∈prm s,(Ay s).names.lookup x=u7 .local\/(Ay s).names.lookup x=u7 .cell)/\∀y∈(Ay s).names,y.2≠ .free)
theorem sck(h:scB s=u9):FnScope (lcl s) (prm s) (Ay s):=by obtain⟨d,e,c,g,f,a⟩:=of_decide_eq_true h;exact⟨d,e,c,g,by unfold prm;rw[j4,<-List.take_eq_take_min],f,a⟩
def BndOk(n q:Str)(st:xG):Prop:=∀(kV doc pm:xH)(an:Option xy)(cdv ct:xH)(us:List xH),us.length=(prm st).length->bindArgs (fnOf n q (Dz st) (Cj st) (Ay st) .none kV doc pm an cdv ct) ⟨us,[]⟩=pure ((prm st).zip us)
theorem BndOk.mk(h:BndOk n q st:=by first|exact λ_ _ _ _ _ _=>bnd1 λ_=>rfl|exact λ_ _ _ _ _ _=>bnd2 λ_ _=>rfl|exact λ_ _ _ _ _ _=>bnd3 λ_ _ _=>rfl|exact λ_ _ _ _ _ _=>bnd4 λ_ _ _ _=>rfl|exact λ_ _ _ _ _ _=>bnd5 λ_ _ _ _ _=>rfl|exact λ_ _ _ _ _ _=>bnd6 λ_ _ _ _ _ _=>rfl|exact λ_ _ _ _ _ _=>bnd7 λ_ _ _ _ _ _ _=>rfl):BndOk n q st:=h
abbrev FN:=List D->DH->R D
def GO(U:Ev)(st:xG)(k:Nat)(F:FN):Prop:=FT U.K U.mg (dnm st) st (prm st)/\FnO U.P U.w U.K U.mg U.base k (dnm st) (prm st) F
def GX(U:Ev)(st:xG)(k:Nat)(F:FN):Prop:=FT U.K U.mg (dnm st) st (prm st)/\FnX U.P U.w U.K U.mg U.base k (dnm st) (prm st) F
def GH(U:Ev)(st:xG)(k:Nat)(F:FN):Prop:=FT U.K U.mg (dnm st) st (prm st)/\FnH U.P U.w U.K U.mg U.base k (dnm st) (prm st) F
def GD(U:Ev)(st:xG)(v:Int)(k:Nat)(F:FN):Prop:=FTD U.K U.mg (dnm st) st (prm st) v/\FnX U.P U.w U.K U.mg U.base k (dnm st) (prm st) F
def GM(U:Ev)(b:List xG)(i j:Nat)(k:Nat)(F:FN):Prop:=MT U.K (clM b i) (dnm (Ec b i j)) (qlM b i j) (Ec b i j) (prm (Ec b i j))/\MtO U.P U.w U.K U.mg U.base k (clM b i) (dnm (Ec b i j)) (prm (Ec b i j)) F
abbrev SC(st:xG):Prop:=FnScope (lcl st) (prm st) (Ay st)
section
variable{b:List xG}{ex:List Ask}{U:Ev}(T:Gx b ex U)
include T
theorem Gx.fs(i:Nat)(e:Qq (nth b i)=.fn (dnm (nth b i)) (nth b i):=by rfl)(S:scB (nth b i)=u9:=by kernel_rfl)(a:BndOk (dnm (nth b i)) (dnm (nth b i)) (nth b i):=by exact BndOk.mk):FT U.K U.mg (dnm (nth b i)) (nth b i) (prm (nth b i))/\SC (nth b i):=by obtain⟨h,X,G⟩:=T.h;have h:=T.at i;rw[e]at h;exact⟨ZHs X G h a,sck S⟩
theorem Gx.fds(i:Nat)(e:Qq (nth b i)=.fd (dnm (nth b i)) (nth b i) v:=by rfl)(S:scB (nth b i)=u9:=by kernel_rfl)
  (g:∀(T:xy)(kV c pm:xH)(d:Option xy)(a ct:xH)(us:List xH)(t:Tok),us.length=(prm (nth b i)).length->∃k,bindArgs (fnOf (dnm (nth b i)) (dnm (nth b i)) (Dz (nth b i)) (Cj (nth b i)) (Ay (nth b i)) (.ref T) kV c pm d a ct) ⟨us,[]⟩=seqItems? (.ref T) >>=k/\k (u7 #[.int v t])=pure ((prm (nth b i)).zip us):=by intro _ _ _ _ _ _ _ us _ f;revert us;first|exact bnd4 (λ_ _ _ _=>⟨_,rfl,rfl⟩)|exact bnd7 (λ_ _ _ _ _ _ _=>⟨_,rfl,rfl⟩))
  (j:∀(T:xy)(kV c pm:xH)(d:Option xy)(a ct:xH)(us:List xH)(t:Tok),us.length+1=(prm (nth b i)).length->∃k,bindArgs (fnOf (dnm (nth b i)) (dnm (nth b i)) (Dz (nth b i)) (Cj (nth b i)) (Ay (nth b i)) (.ref T) kV c pm d a ct) ⟨us,[]⟩=seqItems? (.ref T) >>=k/\k (u7 #[.int v t])=pure ((prm (nth b i)).zip (us++[.int v t])):=by intro _ _ _ _ _ _ _ us _ f;have hk:=Nat.succ.inj f;clear f;revert us;first|exact bnd3 (λ_ _ _=>⟨_,rfl,rfl⟩)|exact bnd6 (λ_ _ _ _ _ _=>⟨_,rfl,rfl⟩)):FTD U.K U.mg (dnm (nth b i)) (nth b i) (prm (nth b i)) v/\SC (nth b i):=by
 obtain⟨h,X,G⟩:=T.h;have h:=T.at i;rw[e]at h;exact⟨ZKG X G h g j,sck S⟩
theorem Gx.ms(i j:Nat)(e:mtA (clM b i) (Ec b i j)=.mt (clM b i) (dnm (Ec b i j)) (qlM b i j) (Ec b i j):=by rfl)(S:scB (Ec b i j)=u9:=by kernel_rfl)
  (a:BndOk (dnm (Ec b i j)) (qlM b i j) (Ec b i j):=by exact BndOk.mk):MT U.K (clM b i) (dnm (Ec b i j)) (qlM b i j) (Ec b i j) (prm (Ec b i j))/\SC (Ec b i j):=by
 have h:=T.mat i j;rw[e]at h;exact⟨ZF7 h a,sck S⟩
theorem Gx.ct(i:Nat)(e:Qq (nth b i)=.cl c:=by rfl)(f:mtA (clM b i) (Ec b i 0)=.mt c "__init__" (c++"."++"__init__") (Ec b i 0):=by rfl):CT U.K U.mg c:=by obtain⟨h,X,G⟩:=T.h;have a:=T.at i;have d:=T.mat i 0;rw[e]at a;rw[f]at d;exact ZMn X G a d
end
def _root_._L.Cx.ev(X:Cx):Ev:=⟨X.prog,X.w,X.K,X.mg,X.base⟩
theorem ZOi{X:Cx}{k j:Nat}{n:Str}{st:xG}{F:FN}{p pos:Pos}{e:xA}{es:List xA}{tr:DA}(I:GO X.ev st k F)(d:Room j X.A)(h:QA X E0 (e::es) tr)(a:dnm st=n:=by rfl)
  (c:Nat.ble k j=u9:=by rfl) (i:Gl X n:=by rfl) (f:(n==("__debug__":Str))=uA:=by decide) (g:notStar e=u9:=by rfl) (hp:es.all notStar=u9:=by rfl):QE X E0 (.Call (.Name n p) (e::es) [] pos) (dFn F tr):=by
 subst a;exact ZKk I.2 I.1 d h (qD c) i f g hp
end _D
namespace _W
open PySem _L _D
def fuel:Nat:=100000 abbrev FN:=List D->DH->R D abbrev cI (n:Int):DE:=dC (.int n) abbrev cS (n:Str):DE:=dC (.str n) abbrev d1 (a:DE):DA:=Ac a Az abbrev d2 (a b:DE):DA:=Ac a (Ac b Az) abbrev d3 (a b c:DE):DA:=Ac a (Ac b (Ac c Az)) abbrev d4 (a b c d:DE):DA:=Ac a (Ac b (Ac c (Ac d Az))) abbrev oI (a b:DE):DE:=dOp Bj a b abbrev oA (a b:DE):DE:=dOp I8 a b abbrev oM (a b:DE):DE:=dOp Jt a b abbrev oX (a b:DE):DE:=dOp Br a b abbrev oS (a b:DE):DE:=dOp Og a b abbrev oD (a b:DE):DE:=dOp Ou a b abbrev oE (a b:DE):DE:=dOp Hj a b abbrev oL (a b:DE):DE:=dOp Jr a b abbrev oG (a b:DE):DE:=dOp Oi a b abbrev oP (a b:DE):DE:=dOp Pz a b abbrev sL (k:Nat) (a:DE) (b:DS):DS:=Ae (sAs a (gV k)) b abbrev sC (a:DE) (b:DS):DS:=sIf (Ak a) b sNx abbrev v0:DE:=dV 0 abbrev v1:DE:=dV 1 abbrev v2:DE:=dV 2 abbrev v3:DE:=dV 3 abbrev v4:DE:=dV 4 abbrev v5:DE:=dV 5 abbrev v6:DE:=dV 6 abbrev v7:DE:=dV 7 abbrev v8:DE:=dV 8 abbrev v9:DE:=dV 9 abbrev v10:DE:=dV 10 abbrev v11:DE:=dV 11 abbrev v12:DE:=dV 12 abbrev v13:DE:=dV 13 abbrev v15:DE:=dV 15 abbrev g0:DG:=gV 0 abbrev g1:DG:=gV 1 abbrev g2:DG:=gV 2 abbrev g3:DG:=gV 3 abbrev g4:DG:=gV 4 abbrev g5:DG:=gV 5 abbrev g6:DG:=gV 6 abbrev g7:DG:=gV 7 abbrev g8:DG:=gV 8 abbrev g9:DG:=gV 9 abbrev g10:DG:=gV 10 abbrev g11:DG:=gV 11 abbrev g14:DG:=gV 14 abbrev c0:DE:=cI 0 abbrev c1:DE:=cI 1 abbrev c2:DE:=cI 2 abbrev c3:DE:=cI 3 abbrev c4:DE:=cI 4 abbrev c5:DE:=cI 5 abbrev c6:DE:=cI 6
theorem ZNQ:FnScope ["self","most"] ["self","most"] (Ay Yg):=fsc
noncomputable abbrev ZNf:List Str:=["_law_script","_law_first","_law_many","_law_names","_law_k","_law_places","_law_b","_law_step","_law_delay","_law_river","_law_kind","_law_amount_here","_law_rank"]
theorem ZCx:FnScope ZNf (prm (top 84)) (Ay (top 84)):=fsc
abbrev ZQg:List Str:=["rows","takes","passing","row","number"]
theorem ZDQ:FnScope ZQg (prm (top 38)) (Ay (top 38)):=fsc
abbrev ZKM:List Str:=["rows","takes","passing","number","way","take","below"]
theorem ZBl:FnScope ZKM (prm (top 37)) (Ay (top 37)):=fsc
def ZBo:DS:=sRt (oA (oX v1 (oM v0 (cI 7))) (oM (oD v0 (cI 7)) v1))
def Jp:FN:=Aq 2 0 ZBo
def R7:DS:=sAs (oD v0 (oP (cI 10) (cI 8))) g0
def Y9:DS:=Ae (sC (Jz Ii Jr c0 v0 (oP (cI 10) (cI 18))) (sL 0 (oM (oA (oA v0 (oX (cI 1009) v1)) (cI 7)) (cI 999999937)) (sL 0 (oM (oX v0 v0) (cI 999999929)) (sRt (oM (oX v0 (oA v0 v1)) (cI 99999989)))))) (Ae (Bx (Bg rng1 (d1 v1)) g2 R7) (sRt (oM v0 (oP (cI 10) (cI 8)))))
def Ss:FN:=Aq 2 1 Y9
def Yv:DS:=sRt (Jc (oG (dFn Ba (d1 v0)) c0) (Qo (oL (oI v0 c0) c0) (dOp Uw (oI v0 c0) (oP (cI 10) (cI 18)))))
def Mp:FN:=Aq 1 0 Yv
def N7:DS:=Ae (sC (dFn Mp (d1 v0)) (sL 2 c0 (Ae (sC (oL (oA c1 (oD v1 (cI 14))) (dFn Ba (d1 v0))) (sAs (oI v0 (oA c1 (oD v1 (cI 14)))) g2)) (sRt (dFn Ss (d2 v2 (oM v1 (cI 14)))))))) (Ae (sC (oL v1 (dFn Ba (d1 v0))) (sRt (oI v0 v1))) (sL 2 (oM (oX (cI 48271) (oA (oX v1 v1) (oX (cI 7) (dFn Ba (d1 v0))))) (cI 2147483647)) (Ae (sC (oG (dFn Ba (d1 v0)) c0) (sAs (oA v2 (oM (oX (oI v0 (oM v1 (dFn Ba (d1 v0)))) (cI 69621)) (cI 2147483629))) g2)) (sRt v2))))
def Bb:FN:=Aq 2 1 N7
def Wh:DS:=sRt (oI (Ao (dFn Af (d3 c1 c1 (oP (cI 10) (cI 30))))) (oM (oD (dFn Bb (d2 v0 c0)) (cI 840)) c3))
def Ij:FN:=Aq 1 0 Wh
def ZAw:DE:=oA v0 (oX v1 (oM (oD v2 c2) c2))
def ZFW:DS:=sEx (Cv Dp v8 (d1 (dFn Dr (d1 (Ao (Bt (Du (oI (oI v2 c1) v9)) 1 [4,10] g0 Bc ZAw))))))
def V9:DS:=Ae (sEx (Cv Dp v7 (d1 v11))) ZFW
def Wj:DS:=Ae (sC (oE (oI (oI (oI v1 c1) v9) c0) (cS "basin")) (sL 12 (oA (oS (oI (oI (oI v1 c1) v9) c4) v11) c1) (sAs (oA v11 (oX (oM (dFn Jp (d2 (oD v10 c2) v4)) v12) (oM v10 c2))) g11))) V9
def ZEf:DS:=sL 11 (oI (oI v2 c0) v9) Wj
def Rc:DS:=sL 10 (dFn Bb (d2 v0 (oA v6 v9))) ZEf
def Xf:DE:=dFn Bb (d2 v1 (oA (oA (oA v3 v2) (oX v4 v2)) v0))
def Xv:DE:=oX (dFn Jp (d2 (oD v0 c2) v1)) (oM v0 c2)
def Y7:DE:=oA (oI (oI v1 v2) v0) (oI v3 v0)
def ZGl:DS:=sEx (Cv Dp v13 (d1 (dFn Dr (d1 (Ao (Bt (Bg rng1 (d1 v5)) 1 [3,14,16] g0 Bc Y7))))))
def ZHX:DS:=sL 16 (Ao (Bt (Du v15) 1 [4] g0 Bc Xv)) ZGl
def Qf:DS:=sL 15 (Ao (Bt (Bg rng1 (d1 v5)) 1 [0,5,6,14] g0 Bc Xf)) ZHX
def ZGH:DS:=sL 4 (Ao (dFn Ij (d1 v0))) (sL 5 (dFn Ba (d1 (oI v1 c1))) (sL 6 (oA c6 (oX (cI 24) v5)) (sL 7 (Ci (dFn Af Az)) (sL 8 (Ci (dFn Af Az)) (Ae (Bx (Bg rng1 (d1 v5)) g9 Rc) (sL 13 (Ci (dFn Af Az)) (Ae (Bx (Bg rng1 (d1 (dFn Ba (d1 v3)))) g14 Qf) (sRt (dFn Ah (d2 (dFn Ah (d2 (dFn Dr (d1 v7)) (dFn Dr (d1 v8)))) v13))))))))))
def Rh:FN:=Aq 4 13 ZGH
def Nz:DS:=sL 2 (dFn Ba (d1 (oI v1 c1))) (sL 3 (oA c6 (oX (cI 20) v2)) (sL 4 (oM (dFn Bb (d2 v0 v3)) (cI 12)) (sL 5 (dFn Bb (d2 v0 (oA v3 c1))) (sL 6 (oI (Ao (dFn Af (Ac (cS "lies") (d4 (cS "spilled") (cS "let") (cS "pumped") (cS "took"))))) (oM v5 c5)) (sL 7 (oM (oD v5 c5) v2) (sL 8 (oI (Ao (dFn Af (d2 (cS "least") (cS "most")))) (oM (oD v5 (cI 60)) c2)) (Ae (sC (oE v4 c0) (sAs (oI (Ao (dFn Af (Ac (cS "came") (Ac (cS "") (Ac (cS "lie") (Ac (cS "Let") (d4 (cS "takes") (cS "pump") (cS "spilled ") (cS "mill")))))))) (oM (oD v5 (cI 120)) (cI 8))) g6)) (Ae (sC (oE v4 c1) (sAs (oI (Ao (dFn Af (Ac (cS "") (Ac (cS "less") (d4 (cS "more") (cS "Most") (cS "leas") (cS "mosts")))))) (oM (oD v5 (cI 120)) c6)) g8)) (Ae (sC (oE v4 c2) (sAs (oS (oS c0 c1) (oM (oD v5 (cI 120)) (oA v2 c2))) g7)) (Ae (sC (oE v4 c3) (sAs (oA v2 (oM (oD v5 (cI 120)) (cI 1000))) g7)) (sRt (dFn Ah (d4 v6 v7 v8 (oM (dFn Bb (d2 v0 (oA v3 c2))) (cI 10)))))))))))))))
def Kp:FN:=Aq 2 7 Nz
def Xi:DS:=sC (oG (oI v0 v2) (oI v1 v2)) (sRt (dC (.bl uA)))
def ZCt:DS:=Ae (Bx (Bg rng1 (d1 (dFn Ba (d1 v0)))) g2 Xi) (sRt (dC (.bl u9)))
def O4:FN:=Aq 2 1 ZCt
def Ru:DS:=sIf (Gp (Ak (dFn O4 (d2 (oI (oI v0 c1) v4) (oI (oI v1 c1) v4))))) (sRt (dC (.bl uA))) sNx
def ZAi:DE:=dFn O4 (d2 (oI v1 v0) (oI v2 v0))
def Vw:DS:=Ae (sIf (dOr (Ak (dOp Eg (dFn Ba (d1 v2)) (dFn Ba (d1 v3)))) (Gp (Ak (dFn O4 (d2 (oI v0 c0) (oI v1 c0)))))) (sRt (dC (.bl uA))) sNx) (Ae (Bx (Bg rng1 (d1 (dFn Ba (d1 (oI v0 c1))))) g4 Ru) (sRt (dFn Kw (d1 (Ao (Bt (Bg rng1 (d1 (dFn Ba (d1 v2)))) 1 [2,3] g0 Bc ZAi))))))
def Ob:FN:=Aq 4 1 Vw
def ZAl:DE:=dFn Bb (d2 v1 (oA (oA v3 (oX v4 v2)) v0))
def Xx:DE:=dFn Jp (d2 v0 (Ao (dFn Ij (d1 v1))))
def Rf:DS:=sL 7 (Ao (Bt (Bg rng1 (d1 v3)) 1 [0,3,4,6] g0 Bc ZAl)) (sEx (Cv Dp v5 (d1 (dFn Dr (d1 (Ao (Bt (Du v7) 1 [0] g0 Bc Xx)))))))
def ZGX:DS:=sL 3 (dFn Ba (d1 (oI v1 c1))) (sL 4 (oA c6 (oX (cI 14) v3)) (sL 5 (Ci (dFn Af Az)) (Ae (Bx (Bg rng1 (d1 v2)) g6 Rf) (sRt v5))))
def Rz:FN:=Aq 3 5 ZGX
def U7:DS:=Ae (sIf (dOr (Gp (Ak (Jz Ii Jr c0 (oI v1 c1) (dFn Ba (d1 (oI v0 c1)))))) (Ak (dOp Gm (oI v1 c2) (dFn Ah (d2 (cS "least") (cS "most")))))) (sRt (dC (.bl uA))) sNx) (sL 2 (oI (oI (oI v0 c1) (oI v1 c1)) c0) (Ae (sC (oE v2 (cS "basin")) (sRt (dOp Jv (oI v1 c0) (dFn Ah (d4 (cS "lies") (cS "spilled") (cS "let") (cS "pumped")))))) (sRt (Jc (oE v2 (cS "town")) (oE (oI v1 c0) (cS "took"))))))
def O7:FN:=Aq 2 1 U7
def Vc:DS:=sC (oE v4 (cS "pump")) (sAs (oA v1 v3) g1)
def ZBH:DS:=sL 1 c0 (Ae (Bx (Du v0) (Aj 3 (Ab g2 (Ab g3 (Ab g4 Al)))) Vc) (sRt v1))
def Vp:FN:=Aq 1 4 ZBH
def Qg:DS:=sL 4 (oA v4 (oX v1 (oM (oI v0 (oA c1 v5)) c4))) (sL 6 (oA c1 (oX v1 (oM (oD (oI v0 (oA c1 v5)) c4) c4))) (sL 7 (cS "river") (Ae (sIf (Ie (Ak v2) (Ak (oE (oM (oD (oI v0 (oA c1 v5)) (cI 16)) c2) c1))) (sAs (cS "pump") g7) sNx) (Ae (sEx (Cv Dp v3 (d1 (dFn Ah (d3 v4 v6 v7))))) (sAs (oA v4 v6) g4)))))
def ZBw:DS:=sL 3 (Ci (dFn Af Az)) (sL 4 c0 (Ae (Bx (Bg rng1 (d1 (oM (oI v0 c0) c4))) g5 Qg) (sRt (dFn Dr (d1 v3)))))
def Vi:FN:=Aq 3 5 ZBw
def ZG2:DS:=sRt (oA c1 (oM (dFn Bb (d2 v0 c1)) c4))
def Rg:FN:=Aq 1 0 ZG2
def Zq:DE:=oD (dFn Bb (d2 v1 (oA (oA v2 c5) (oM (oA (oX c3 v3) v0) c6)))) (oA c1 (oX (cI 7) (oD v3 c2)))
def ZAD:DE:=oD (dFn Bb (d2 v1 (oA (oA v2 c5) v0))) (oI (Ao (dFn Af (d4 c1 (cI 64) (cI 4096) (cI 262144)))) v3)
def W7:DS:=sIf (dOr (Ak (oE v7 c0)) (Ie (Ak (oE (oM v8 c2) c1)) (Ak (oL (oA v6 c1) v4)))) (Ae (sC (oG v7 c0) (sAs (oA (oA v6 c1) (oM (oD v8 c2) (oS (oS v4 v6) c1))) g6)) (sEx (Cv Dp v5 (d1 (dFn Ah (d2 v6 (dFn Vi (d3 v9 v2 v3)))))))) sNx
def ZCL:DS:=Ae (sC (dFn Mp (d1 v0)) (sL 8 (oD (dFn Bb (d2 v0 (oA v1 c4))) (oI (Ao (dFn Af (d4 c1 (cI 48) (cI 2304) (cI 110592)))) v7)) (sAs (Ao (Bt (Bg rng1 (d1 c4)) 1 [0,1,7] g0 Bc ZAD)) g9))) W7
def ZF8:DS:=sL 9 (Ao (Bt (Bg rng1 (d1 c4)) 1 [0,1,7] g0 Bc Zq)) ZCL
def Kh:DS:=sL 8 (oM (oX (oX (dFn Bb (d2 v0 (oA v1 c4))) (cI 48271)) (oA (oX v7 v7) c1)) (cI 10007)) ZF8
def ZFJ:DS:=sL 4 (dFn Rg (d1 v0)) (sL 5 (Ci (dFn Af Az)) (sL 6 c0 (Ae (Bx (Bg rng1 (d1 c4)) g7 Kh) (sRt (dFn Dr (d1 v5))))))
def Tf:FN:=Aq 4 6 ZFJ
def ZAE:DE:=dFn Vp (d1 (oI v0 c1))
def ZDv:DS:=sRt (dFn Ah (Ac (cS "basin") (Ac (oI v3 v2) (Ac (oI v4 c0) (d4 (oI v4 c1) v12 v8 v9)))))
def Ly:DS:=sL 12 (dFn Jp (d2 (dFn Bb (d2 v0 (oA v1 c3))) v5)) ZDv
def ZAe:DS:=Ae (sC v7 (sL 10 (oA (dFn Ho (d1 (Ao (Bt (Du v8) 1 [] g0 Bc ZAE)))) (oX v5 (oM (oD v6 (cI 130)) c2))) (sL 11 (oI v3 (oM (oA (oA v2 c1) (oM (oD v6 c2) (oS (dFn Ba (d1 v3)) c1))) (dFn Ba (d1 v3)))) (sAs (dFn Ah (d3 v11 (oA c1 (oM (oD v6 (cI 26)) c5)) v10)) g9)))) Ly
def Yn:DS:=sL 9 (dC .non) ZAe
def Ld:DS:=sL 8 (dFn Tf (d4 v0 v1 v5 v7)) Yn
def ZF2:DS:=sL 7 (Jc (oG (dFn Ba (d1 v3)) c1) (oE (oM v6 c2) c1)) Ld
def ZG5:DS:=sL 6 (dFn Bb (d2 v0 (oA v1 (cI 11)))) ZF2
def Y0:DS:=sL 5 (Ao (dFn Ij (d1 v0))) ZG5
def Sd:FN:=Aq 5 8 Y0
def ZF9:DS:=sL 3 (oI (cS "abcdefghijklmnopqrstuvwxyz") (oM (oD v0 (cI 21)) (cI 26))) (Ae (sIf (Ie (Ak (oE (oM v0 c3) c1)) (Ak (oL v2 (cI 9)))) (sRt (oX v3 (oA v1 c1))) sNx) (sL 4 (oI (cS "abcdefghijkl") (oM (oA (oX c5 v1) (oD v0 (cI 546))) (cI 12))) (Ae (sC (oE (oM v0 c3) c2) (sRt (oA v4 (oX v3 (oM (oD v0 c3) (cI 7)))))) (sRt (oA (oA (oX v3 (oM (oD v0 c3) (cI 7))) v4) (oX v3 (oS c6 (oM (oD v0 c3) (cI 7)))))))))
def Wm:FN:=Aq 3 2 ZF9
def Z1:DE:=dFn Wm (d3 (dFn Bb (d2 v1 c5)) v0 v2)
def N8:DS:=sIf (Ak (oL v10 c2)) (sEx (Cv Dp v5 (d1 (Ao (dFn Sd (Ac v0 (d4 v6 v4 v3 v9))))))) (sIf (Ak (oL v10 c4)) (sEx (Cv Dp v5 (d1 (dFn Ah (Ac (cS "town") (Ac (oI v3 v4) (d4 (oI v9 c0) (oI v9 c1) v11 v12))))))) (sEx (Cv Dp v5 (d1 (dFn Ah (Ac (cS "mill") (d4 (oI v3 v4) (oI v9 c0) (oI v9 c1) v11)))))))
def ZA2:DS:=sL 12 (oM (dFn Bb (d2 v0 (oA v6 c4))) (oI (Ao (dFn Af (d2 c4 (oP (cI 10) (cI 40))))) (oM (oD v1 (cI 840)) c2))) N8
def ZA8:DS:=sL 11 (dFn Jp (d2 (dFn Bb (d2 v0 (oA v6 c3))) (Ao (dFn Ij (d1 v0))))) ZA2
def Qd:DS:=sL 10 (oM (dFn Bb (d2 v0 v6)) c5) ZA8
def Zi:DS:=Ae (sC (oG v7 c0) (sAs (dFn Ah (d2 (oI v3 (oA v4 v7)) (oI v9 c1))) g9)) Qd
def ZA1:DS:=sL 9 (dFn Ah (d2 (cS "sea") (oX (oM v8 c2) (oM (oD v8 c2) c6)))) Zi
def Qm:DS:=sL 8 (dFn Bb (d2 v0 (oA v6 c2))) ZA1
def Ym:DS:=Ae (sC (oE (oM (oD v1 (cI 280)) c3) c1) (sAs (dFn Kl (d2 c1 (oS (oS v2 c1) v4))) g7)) Qm
def Td:DS:=sL 7 (oM (dFn Bb (d2 v0 (oA v6 c1))) (oS v2 v4)) Ym
def Kv:DS:=Ae (sAs (oA c6 (oX (cI 12) v4)) g6) Td
def ZDw:DS:=sL 1 (dFn Bb (d2 v0 c0)) (sL 2 (oA c1 (oM v1 c4)) (sL 3 (Ao (Bt (Bg rng1 (d1 v2)) 1 [0,2] g0 Bc Z1)) (sL 5 (Ci (dFn Af Az)) (Ae (Bx (Bg rng1 (d1 v2)) g4 Kv) (sRt (dFn Ah (d2 (dFn Rg (d1 v0)) (dFn Dr (d1 v5)))))))))
def Tq:FN:=Aq 1 12 ZDw
def ZBk:DS:=Ae (sC (dUn (isx [("NoAsk",uA),("NoBounds",uA),("TooLong",uA)]) v0) (sRt (dC (.bl u9)))) (sRt (dUn (isx [("NoAsk",uA),("NoBounds",uA),("TooLong",uA)]) v0))
def Ra:FN:=Aq 1 0 ZBk
def ZBb:DS:=Ae (sC (oE v1 (cS "least")) (sRt (oL v0 v2))) (sRt (oG v0 v2))
def Wc:FN:=Aq 3 0 ZBb
def ZF4:DS:=sRt (dOp Kg (Qn [("lies",(.int 5)),("spilled",(.int 2)),("let",(.int 3)),("pumped",(.int 4)),("took",(.int 1))]) v0)
def Wb:FN:=Aq 1 0 ZF4
def Ws:DE:=oI (oI v0 v1) v2
def Kf:DS:=sC (dFn Wc (d3 v9 v4 v5)) (sRt (dFn Ah (d3 (cS "broken") v8 v9)))
def ZGg:DS:=sRt (dFn Ah (d3 (cS "kept") (Cv Jk v7 (d1 v10)) v10))
def ZFI:DS:=sL 10 (dIf (Ak (oE v4 (cS "least"))) (dFn Gy (d1 v7)) (dFn Ho (d1 v7))) ZGg
def Wt:DS:=Ae (sC (oE (dFn Ba (d1 v7)) c0) (sRt (dFn Ah (d3 (cS "kept") (dC .non) (dC .non))))) ZFI
def R5:DS:=Ae (Bx (Bg Fb (d1 v7)) (Aj 2 (Ab g8 (Ab g9 Al))) Kf) Wt
def ZE1:DS:=sL 7 (Ao (Bt (Du v0) 1 [3,6] g0 Bc Ws)) R5
def ZEy:DS:=sL 6 (dFn Wb (d1 v2)) ZE1
def Uq:DS:=Ae (sAs v1 (Aj 4 (Ab g2 (Ab g3 (Ab g4 (Ab g5 Al)))))) ZEy
def S6:FN:=Aq 2 9 Uq
def Z5:DS:=Ae (sNr (sAs v1 (Aj 4 (Ab g2 (Ab g3 (Ab g4 (Ab g5 Al))))))) (Ae (sIf (dOr (Ak (dOp Gm v4 (dC (.tup [.str "least",.str "most"])))) (Ak (dUn (Lj [("lies","basin"),("spilled","basin"),("let","basin"),("pumped","basin"),("took","town")]) v2))) (Dt "NoAsk" (d1 (cS "an ask is of another word than these"))) sNx) (Ae (sIf (Gp (Ak (Jz Ii Jr c0 v3 (dFn Ba (d1 (oI v0 c1)))))) (Dt "NoAsk" (d1 (cS "an ask is of a place that is not there"))) sNx) (sC (dOp Eg (oI (oI (oI v0 c1) v3) c0) (dUn (Jh [("lies","basin"),("spilled","basin"),("let","basin"),("pumped","basin"),("took","town")]) v2)) (Dt "NoAsk" (d1 (cS "an ask is of a place of another kind"))))))
def Mq:FN:=Aq 2 4 Z5
def ZAd:DE:=dOp Ii v0 v1
def ZGQ:DS:=Ae (sC (dOp Eg (dFn Ba (d1 v0)) (dFn Ba (d1 v1))) (sRt (dC (.bl uA)))) (sRt (dFn Kw (d1 (Ao (Bt (Bg (Et 2) (d2 v0 v1)) 2 [] (Aj 2 (Ab g0 (Ab g1 Al))) Bc ZAd)))))
def Rr:FN:=Aq 2 0 ZGQ
def Zj:DE:=dFn Rr (d2 v0 v1)
def ZAj:DS:=Ae (sC (dOp Eg (dFn Ba (d1 v0)) (dFn Ba (d1 v1))) (sRt (dC (.bl uA)))) (sRt (dFn Kw (d1 (Ao (Bt (Bg (Et 2) (d2 v0 v1)) 2 [] (Aj 2 (Ab g0 (Ab g1 Al))) Bc Zj)))))
def M8:FN:=Aq 2 0 ZAj
def ZFf:DS:=Ae (sAs v0 (Aj 2 (Ab g2 (Ab g3 Al)))) (Ae (sAs v1 (Aj 2 (Ab g4 (Ab g5 Al)))) (sRt (Jc (dFn Rr (d2 v2 v4)) (dFn M8 (d2 v3 v5)))))
def Wv:FN:=Aq 2 4 ZFf
def ZCe:DS:=sIf (dOr (Gp (Ak (dFn (nerr Wv) (d2 v0 v1)))) (Gp (Ak (dFn (nerr M8) (d2 v2 v3))))) (Dt "NoBounds" (d1 (cS "a state or a row of floods is not under the other one"))) sNx
def Q6:FN:=Aq 4 0 ZCe
def ZGm:DS:=Ae (sAs v4 (Aj 4 (Ab g5 (Ab g6 (Ab g7 (Ab g8 Al)))))) (Ae (sC (oE v7 (cS "least")) (sRt (dFn Ah (d2 v0 v2)))) (sRt (dFn Ah (d2 v1 v3))))
def Rp:FN:=Aq 5 4 ZGm
def Uj:DE:=oA v0 (oI v1 c0)
def Qj:DE:=Ci (oA (Ao (dFn Ri (d1 (Ao (dSl v0 (u7 c1) u8))))) (Ao (dFn Af (d1 c0))))
def ZDy:DS:=Ae (sAs v2 (Aj 2 (Ab g5 (Ab g6 Al)))) (Ae (Ei "Course" v0 v1 "house") (Ae (Ei "Course" v0 v5 "levels") (Ae (Ei "Course" v0 (oM v3 (oI v1 c0)) "year_turn") (Ae (Ei "Course" v0 (Bt (Bg (Et 2) (d2 v4 v6)) 2 [] (Aj 2 (Ab g0 (Ab g1 Al))) Bc Uj) "came") (Ae (Ei "Course" v0 (Bt (Du v6) 1 [] g0 Bc Qj) "coming") (Ae (Ei "Course" v0 (Ci (dOp Gw (dFn Af (d1 (dC .non))) (dFn Ba (d1 v5)))) "page") (Ei "Course" v0 (Ci (dFn Af Az)) "reaches")))))))
def Qe:FN:=Aq 5 2 ZDy
def ZBY:DS:=sIf (Ak (oE v2 c0)) (K8 (Do "Course" v0 "came") v1 v3 Kc) (K8 (oI (Do "Course" v0 "coming") v1) (oS v2 c1) v3 Kc)
def Rm:FN:=Aq 4 0 ZBY
def Ol:DS:=sC (oE (oI v3 c1) v1) (sRt v2)
def ZCc:DS:=Ae (Bx (Bg Fb (d1 (oI v0 c1))) (Aj 2 (Ab g2 (Ab g3 Al))) Ol) ZA6
def Qy:FN:=Aq 2 2 ZCc
def ZFH:DS:=sL 2 (oI (oI (oI v0 c1) v1) c2) (Ae (sC (oE v2 (cS "sea")) (sRt (dC .non))) (sRt (dFn Qy (d2 v0 v2))))
def R3:FN:=Aq 2 1 ZFH
def ZFQ:DS:=sL 3 (dFn R3 (d2 (Do "Course" v0 "house") v1)) (sC (dOp Kq v3 (dC .non)) (sEx (Fp "Course" "send" Rm v0 (d3 v3 (oI (oI (oI (Do "Course" v0 "house") c1) v1) c3) v2))))
def R1:FN:=Aq 3 1 ZFQ
def T8:DS:=sL 7 (dFn Qt (d2 c0 (dFn Kl (d2 v5 (oS v1 v4))))) (sIf (Ak (oE v6 (cS "river"))) (sAu 2 v7 Kc) (sAu 3 v7 Kc))
def ZB8:DS:=sL 2 c0 (sL 3 c0 (Ae (Bx (Du v0) (Aj 3 (Ab g4 (Ab g5 (Ab g6 Al)))) T8) (sRt (dFn Ah (d3 v2 v3 (oS (oS v1 v2) v3))))))
def V6:FN:=Aq 2 6 ZB8
def Tt:DS:=sC (dOp Ii v3 v1) (sAs v4 g2)
def ZCq:DS:=sL 2 (dFn Ah Az) (Ae (Bx (Du v0) (Aj 2 (Ab g3 (Ab g4 Al))) Tt) (sRt v2))
def Th:FN:=Aq 2 3 ZCq
def ZFX:DS:=sL 2 (oI (oI (Do "Course" v0 "house") c1) v1) (sL 3 (oI (Do "Course" v0 "came") v1) (Ae (sAs (dFn V6 (d2 (dFn Th (d2 (oI v2 c5) (Do "Course" v0 "year_turn"))) (oA (oI (Do "Course" v0 "levels") v1) v3))) (Aj 3 (Ab g4 (Ab g5 (Ab g6 Al))))) (sL 7 (dFn Kl (d2 v6 (oI v2 c4))) (sL 8 (oS v6 v7) (Ae (sAs (dFn Ah (Ac v3 (Ac c0 (d4 v8 v4 v5 v7)))) (gIx (Do "Course" v0 "page") v1)) (Ae (sEx (Fp "Course" "send_down" R1 v0 (d2 v1 (oA v4 v8)))) (sC (dOp Kq (oI v2 c6) (dC .non)) (sEx (Fp "Course" "send" Rm v0 (d3 (dFn Qy (d2 (Do "Course" v0 "house") (oI (oI v2 c6) c0))) (oI (oI v2 c6) c1) v5))))))))))
def Vq:FN:=Aq 2 7 ZFX
def ZAb:DE:=oS (oI v0 c1) v1
def Ox:DS:=sC (dOp Kq (oI v3 c0) (dC .non)) (K8 v2 (oI v3 c0) (oI v2 v4) Kc)
def ZFD:DS:=sL 2 (Bt (Bg (Et 2) (d2 v0 v1)) 2 [] (Aj 2 (Ab g0 (Ab g1 Al))) Bc ZAb) (Ae (Bx (Bg Fb (d1 v0)) (Aj 2 (Ab g4 (Ab g3 Al))) Ox) (sRt v2))
def O5:FN:=Aq 2 3 ZFD
def ZGT:DS:=sL 2 (oI v0 c1) (sL 3 (dFn R3 (d2 v0 v1)) (Ae (sIf (dOr (Ak (dOp Rv v3 (dC .non))) (Ak (oG (oI (oI v2 v1) c3) c0))) (sRt (dC .non)) sNx) (Ae (sIf (dOr (Ak (oE (oI (oI v2 v1) c0) (cS "basin"))) (Ak (oE (oI (oI v2 v3) c0) (cS "basin")))) (sRt (dC .non)) sNx) (sRt v3))))
def Sg:FN:=Aq 2 2 ZGT
def Rj:DS:=sL 5 (oI (oI v0 c1) v4) (sL 6 (dFn Sg (d2 v0 v4)) (sL 7 (dIf (Ak (dOp Rv v6 (dC .non))) (dC .non) (Cv Jk v1 (d1 v6))) (sIf (Ak (oE (oI v5 c0) (cS "town"))) (sEx (Cv Dp v3 (d1 (dFn Ah (d4 v7 (oI v2 v4) (oI v5 c4) (oI v5 c5)))))) (sEx (Cv Dp v3 (d1 (dFn Ah (d4 v7 (oI v2 v4) c0 c0))))))))
def ZHc:DS:=sL 3 (Ci (dFn Af Az)) (Ae (Bx (Du v1) g4 Rj) (sRt v3))
def V3:FN:=Aq 3 5 ZHc
def Ze:DE:=dFn Ah (d2 (oI v1 c3) v0)
def ZAS:DE:=v1
def ZCI:DS:=sL 1 (Ao (dFn Nm (d1 (Ao (Bt (Bg Fb (d1 v0)) 2 [] (Aj 2 (Ab g0 (Ab g1 Al))) Bc Ze))))) (sRt (Bt (Du v1) 2 [] (Aj 2 (Ab g0 (Ab g1 Al))) Bc ZAS))
def U8:FN:=Aq 1 1 ZCI
def Q9:DS:=Ae (sEx (Cv Dp v2 (d1 v3))) (sAs (oI (oI v0 v3) c0) g3)
def M5:DB:=(Ak (dOp Kq (dV 3) (dC .non)))
def ZEq:DS:=sL 2 (Ci (dFn Af (d1 v1))) (sL 3 (oI (oI v0 v1) c0) (Ae (sWh M5 Q9 fuel) (sRt v2)))
def Uk:FN:=Aq 2 2 ZEq
def ZA5:DE:=oI v1 v0
def Vy:DS:=K8 v2 v6 v5 Og
def S8:DS:=sL 4 (Ao (dFn Uk (d2 v0 v3))) (sL 5 (dFn Kl (d2 (oI (oI v0 v3) c2) (dFn Gy (d1 (Ao (Bt (Du v4) 1 [2] g0 Bc ZA5)))))) (Ae (sAs v5 (gIx v1 v3)) (Bx (Du v4) g6 Vy)))
def ZEa:DS:=sL 1 (Ci (dOp Gw (dFn Af (d1 c0)) (dFn Ba (d1 v0)))) (sL 2 (Ci (dFn O5 (d2 v0 v1))) (Ae (Bx (Du (Ao (dFn U8 (d1 v0)))) g3 S8) (sRt v1)))
def W6:FN:=Aq 1 6 ZEa
def Km:DS:=Ae (sAs (dFn Ah (Ac (oA v5 v6) (Ac v5 (d4 c0 v6 c0 c0)))) (gIx (Do "Course" v0 "page") v4)) (sC (oE v4 (oI v1 (dUn Fo c1))) (sEx (Fp "Course" "send_down" R1 v0 (d2 v4 v6))))
def ZG8:DS:=sL 2 (Ao (dFn V3 (d3 (Do "Course" v0 "house") v1 (Do "Course" v0 "came")))) (sL 3 (Ao (dFn W6 (d1 v2))) (Ae (Bx (Bg (Et 3) (d3 v1 v3 (Ao (dFn O5 (d2 v2 v3))))) (Aj 3 (Ab g4 (Ab g5 (Ab g6 Al)))) Km) (sEx (Cv Dp (Do "Course" v0 "reaches") (d1 (Ci (dFn Ah (d2 v1 v2))))))))
def Vj:FN:=Aq 2 5 ZG8
def Tz:DS:=sL 3 (dFn Sg (d2 v0 v2)) (sC (dOp Kq v3 (dC .non)) (sAs (oI v1 v3) (gIx v1 v2)))
def ZGJ:DS:=sL 1 (Ci (dLR (d1 (dFn Ba (d1 (oI v0 c1)))))) (Ae (Bx (Bg rng3 (d3 (oS (dFn Ba (d1 (oI v0 c1))) c1) (dUn Fo c1) (dUn Fo c1))) g2 Tz) (sRt v1))
def Tn:FN:=Aq 1 3 ZGJ
def Ve:DE:=v0
def Pn:DB:=(Ak (dOp Hj (dV 1) (dV 2)))
def Ny:DS:=sIf (Ak (oE (oI (oI (oI (Do "Course" v0 "house") c1) v2) c0) (cS "basin"))) (sEx (Fp "Course" "go_basin" Vq v0 (d1 v2))) (sC (oE v3 v2) (sEx (Fp "Course" "go_reach" Vj v0 (d1 (Ao (Bt (Bg Fb (d1 v1)) 2 [2] (Aj 2 (Ab g0 (Ab g1 Al))) Pn Ve))))))
def ZB5:DS:=sL 1 (Ao (dFn Tn (d1 (Do "Course" v0 "house")))) (Bx (Bg Fb (d1 v1)) (Aj 2 (Ab g2 (Ab g3 Al))) Ny)
def Ui:FN:=Aq 1 3 ZB5
def Vm:DE:=oI v0 c5
def U3:DE:=dFn Dr (d1 v0)
def ZDU:DS:=sRt (dFn Ah (d2 (dFn Dr (d1 (Ao (Bt (Du (Do "Course" v0 "page")) 1 [] g0 Bc Vm)))) (dFn Dr (d1 (Ao (Bt (Du (Do "Course" v0 "coming")) 1 [] g0 Bc U3))))))
def Up:FN:=Aq 1 0 ZDU
def ZHH:DS:=sL 4 (Q7 "Course" Qe (d4 v0 v1 v2 v3)) (Ae (sEx (Fp "Course" "go" Ui v4 Az)) (sRt (dFn Ah (d2 (dFn Dr (d1 (Do "Course" v4 "page"))) (Fp "Course" "state_behind" Up v4 Az)))))
def T7:FN:=Aq 4 1 ZHH
def Qz:DS:=Ae (sAs (dFn T7 (d4 v0 v1 v5 v6)) (Aj 2 (Ab g7 (Ab g1 Al)))) (sEx (Cv Dp v4 (d1 v7)))
def ZEg:DS:=sL 4 (Ci (dFn Af Az)) (Ae (Bx (Q8 (d1 v3) v2) (Aj 2 (Ab g5 (Ab g6 Al))) Qz) (sRt (dFn Ah (d2 v4 v1))))
def Nv:FN:=Aq 4 4 ZEg
def Wi:DS:=Ae (sEx (dFn Mq (d2 v0 v6))) (Ae (sEx (dFn Q6 (d4 v1 v2 v4 v5))) (Ae (sNr (sAs (dFn Rp (Ac v1 (d4 v2 v4 v5 v6))) (Aj 2 (Ab g7 (Ab g8 Al))))) (Ae (sNr (sAs (Ao (dFn Nv (d4 v0 v7 v3 v8))) (Aj 2 (Ab g9 (Ab g10 Al))))) (sNr (sRt (dFn S6 (d2 v9 v6)))))))
def Fv:FN:=Aq 7 4 Wi
def Z6:DS:=sC (dOp Eg (dFn Ba (d1 v1)) (oI v0 c0)) (Dt "NoBounds" (d1 (cS "there is not a flood for each turn of the year")))
def O1:FN:=Aq 2 0 Z6
def Lz:DS:=Ae (sC (oG (dFn Ba (d1 v4)) v3) (sRz "TooLong" "most" (d1 v3))) (Ae (sNr (sAs (Ci (dFn Nv (d4 v0 (oI v4 (dUn Fo c1)) c0 v2))) (Aj 2 (Ab g6 (Ab g7 Al))))) (Ae (sNr (sEx (Cv My v5 (d1 v6)))) (sNr (sEx (Cv Dp v4 (d1 v7))))))
def Qw:DB:=(Ak (dOp Ms (dOp Bj (dV 4) (dUn Fo (dC (.int 1)))) (Ao (dSl (dV 4) u8 (u7 (dUn Fo (dC (.int 1))))))))
def Zv:DS:=Ae (sNr (sAs (Ci (dFn Af (d1 v1))) g4)) (Ae (sNr (sAs (Ci (dFn Af Az)) g5)) (Ae (sWh Qw Lz fuel) (sNr (sRt (dFn Ah (d2 v4 v5))))))
def Mt:FN:=Aq 4 4 Zv
def O9:DS:=Ae (sEx (dFn Mq (d2 v0 v5))) (Ae (sEx (dFn O1 (d2 v0 v3))) (Ae (sEx (dFn Q6 (d4 v1 v2 v3 v4))) (Ae (sNr (sAs (dFn Rp (Ac v1 (d4 v2 v3 v4 v5))) (Aj 2 (Ab g7 (Ab g8 Al))))) (Ae (sAs (Ao (dFn Mt (d4 v0 v7 v8 v6))) (Aj 2 (Ab g9 (Ab g10 Al)))) (sNr (sRt (dFn S6 (d2 v10 v5))))))))
def Eu:FN:=Aq 7 4 O9
def T9:DS:=sAs (cS "none") g7
def ZAy:DS:=sAs (oI (Ao (dFn Af (d2 (cS "ask") (cS "bad")))) (dFn Ls (d1 (Qo (dUn (isx [("NoAsk",uA),("NoBounds",u9),("TooLong",uA)]) v8) (dFn Ra (d1 v8)))))) g7
def ZAg:DS:=sAs (oI (Ao (dFn Af (d2 (cS "bounds") (cS "bad")))) (dFn Ls (d1 (dFn Ra (d1 v8))))) g7
def Mg:DS:=sL 9 (oI (Ao (dFn Af (d2 (cS "bad") (cS "refused")))) (dFn Ls (d1 (dUn (isx [("NoAsk",u9),("NoBounds",u9),("TooLong",u9)]) v8)))) (sIf (Ie (Ak (dUn (isx [("NoAsk",uA),("NoBounds",uA),("TooLong",u9)]) v8)) (Gp (Ak (dUn (isx [("NoAsk",u9),("NoBounds",u9),("TooLong",uA)]) v8)))) (sAs (cS "none") g9) sNx)
def Oc:DS:=sL 7 (cS "none") (Ae (Dm (sTi (Ak v6) (sEx (dTc Eu (Ac v0 (Ac v1 (Ac v2 (d4 v3 v4 v5 c3)))))) (sEx (dTc Fv (Ac v0 (Ac v1 (Ac v2 (d4 c0 v3 v4 v5))))))) (Hw ["TooLong"] ["NoAsk","NoBounds"] T9 (Ff ["NoAsk"] ["NoBounds"] 8 ZAy (Ff ["NoBounds"] [] 8 ZAg Om)))) (sL 9 (cS "none") (Ae (Dm (sTi (Ak v6) (sEx (dTc Eu (Ac v0 (Ac v1 (Ac v2 (d4 v3 v4 v5 c3)))))) (sEx (dTc Fv (Ac v0 (Ac v1 (Ac v2 (d4 c0 v3 v4 v5))))))) (Ff ["NoAsk","NoBounds","TooLong"] [] 8 Mg Om)) (Ae (sIf (Ie (Ak (dOp Eg v9 (cS "none"))) (Ak (dOp Eg v9 (cS "refused")))) (sRt (cS "bad")) sNx) (Ae (sC (dOp Eg (oE v9 (cS "none")) (oE v7 (cS "none"))) (sRt (cS "bad"))) (sRt v7))))))
def Gs:FN:=Aq 7 3 Oc
def ZEQ:DS:=sAs (oD v9 c3) g9
def Rt:DS:=Ae (sEx (Cv Dp v10 (d1 (oX v3 (oM v9 c3))))) ZEQ
def ZFc:DS:=sEx (Cv Dp v6 (d1 (dFn Dr (d1 v10))))
def V8:DS:=Ae (Bx (Bg rng1 (d1 c5)) g11 Rt) ZFc
def ZCw:DS:=sL 10 (Ci (dFn Af Az)) V8
def ZDA:DS:=sL 9 (dFn Bb (d2 v0 (oA (oA v4 (dFn Ba (d1 v2))) v7))) ZCw
def Vv:DS:=Ae (sEx (Cv Dp v5 (d1 v8))) ZDA
def ZEC:DS:=Ae (sC (oE (oI (oI v2 v7) c0) (cS "basin")) (sAs (oM (dFn Jp (d2 (dFn Bb (d2 v0 (oA v4 v7))) v3)) (oA (oI (oI v2 v7) c4) c1)) g8)) Vv
def Sh:DS:=sL 8 c0 ZEC
def ZGp:DS:=sL 2 (oI v1 c1) (sL 3 (Ao (dFn Ij (d1 v0))) (sL 4 (oA c6 (oX (cI 12) (dFn Ba (d1 v2)))) (sL 5 (Ci (dFn Af Az)) (sL 6 (Ci (dFn Af Az)) (Ae (Bx (Bg rng1 (d1 (dFn Ba (d1 v2)))) g7 Sh) (sRt (dFn Ah (d2 (dFn Dr (d1 v5)) (dFn Dr (d1 v6))))))))))
def Ug:FN:=Aq 2 10 ZGp
def Qu:DS:=sRt (oE (Ao (dFn Gs (Ac v1 (Ac v3 (Ac v5 (d4 v4 v6 v7 (dC (.bl u9)))))))) v8)
def Ph:DS:=Ae (sIf (Ie (Ak (oE v8 (cS "none"))) (Ak (dOp Eg (dFn Ba (d1 v4)) (oI v1 c0)))) (sAs (cS "bounds") g8) sNx) Qu
def Pr:DS:=Ae (sC (dOp Eg (Ao (dFn Gs (Ac v1 (Ac v3 (Ac v5 (d4 v4 v6 v7 (dC (.bl uA)))))))) v8) (sRt (dC (.bl uA)))) Ph
def Pu:DS:=Ae (sC (dFn O7 (d2 v1 v7)) (sL 8 (cS "bounds") (sC (dFn Ob (d4 v3 v5 v4 v6)) (sAs (cS "none") g8)))) Pr
def Oj:DS:=sL 8 (cS "ask") Pu
def Jg:DS:=Ae (sIf (dOr (Ak (oE (oM v2 (cI 8)) c4)) (Ak (oE (oM v2 (cI 8)) c5))) (sL 4 (Ao (dFn Af Az)) (sAs (Ao (dFn Af Az)) g6)) sNx) Oj
def Iw:DS:=Ae (sC (oE (oM v2 (cI 8)) c6) (sAs (Ao (dSl v6 u8 (u7 (dUn Fo c1)))) g6)) Jg
def Jb:DS:=Ae (sIf (dOr (Ak (oE (oM v2 (cI 8)) c3)) (Ak (oE (oM v2 (cI 8)) c6))) (sAs (Ao (dSl v4 u8 (u7 (dUn Fo c1)))) g4) sNx) Iw
def Jd:DS:=Ae (sC (oE (oM v2 (cI 8)) c2) (Pq 4 6 (d2 v6 v4))) Jb
def I7:DS:=Ae (sIf (dOr (Ak (oE (oM v2 (cI 8)) c1)) (Ak (oE (oM v2 (cI 8)) c5))) (Pq 3 5 (d2 v5 v3)) sNx) Jd
def ZGn:DS:=sL 7 (Ao (dFn Kp (d2 v0 v1))) I7
def ZGz:DS:=Ae (sAs (Ao (dFn Rh (d4 v0 v1 v3 v4))) (Aj 2 (Ab g5 (Ab g6 Al)))) ZGn
def ZFB:DS:=sL 4 (Ao (dFn Rz (d3 v0 v1 (oA (oI v1 c0) (oX (oM (oD v2 (cI 8)) c2) (oM (oD v2 (cI 16)) c2)))))) ZGz
def ZGK:DS:=sL 3 (dFn Ug (d2 v0 v1)) ZFB
def ZER:DS:=sL 2 (dFn Bb (d2 v0 c4)) ZGK
def ZCZ:DS:=sL 1 (dFn Tq (d1 v0)) ZER
def Mf:FN:=Aq 1 8 ZCZ
def Holds:Prop:=∀ns:List Int,ns.length<=63->∃G,Mf [.fl (ns.map D.int)] []=.ok (.bl u9) G
end _W
namespace _W
open PySem _L _D
seal QE QT QA QS QSs QG QGs QI QTs QW QO abbrev gR (K:za) (mg:Str->Option xH) (a:Str):Prop:=mg a=some (.ref (Aa K a))
structure Txt (U:Ev):Prop extends Gx body exs U where
 Yt:TupG U.K U.mg "SENSES" ["least","most"]
 Vh:DctG U.K U.mg "KINDS_ASKED" [("lies","basin"),("spilled","basin"),("let","basin"),("pumped","basin"),("took","town")]
 Xg:MT U.K "TooLong" "__init__" "TooLong.__init__" Yg ["self","most"]
 H7:ET U.K U.mg "TooLong" "most"
 Gi:ET0 U.K U.mg "NoAsk"
 Ga:ET0 U.K U.mg "NoBounds"
 ZEB:XBase U.K U.mg "WaterError" (Aa U.K "WaterError")
 Yd:gR U.K U.mg "NoAsk"
 W3:gR U.K U.mg "NoBounds"
 ZHb:gR U.K U.mg "NoHouse"
 ZBd:gR U.K U.mg "NoLevel"
 ZFu:gR U.K U.mg "NoName"
 ZHW:gR U.K U.mg "NoNumber"
 ZGE:gR U.K U.mg "NoPump"
 ZHT:gR U.K U.mg "NoRiver"
 ZCX:gR U.K U.mg "NoRow"
 ZFV:gR U.K U.mg "NoRule"
 ZCp:gR U.K U.mg "NoText"
 ZFT:gR U.K U.mg "NoWay"
 X4:gR U.K U.mg "TooLong"
 ZFx:gR U.K U.mg "WaterError"
 ZGD:tk "NoAsk" "NoAsk" u9 U.K=u9
 ZHV:tk "NoAsk" "TooLong" uA U.K=u9
 ZC2:tk "NoAsk" "WaterError" u9 U.K=u9
 ZEr:tk "NoBounds" "NoAsk" uA U.K=u9
 ZDH:tk "NoBounds" "NoBounds" u9 U.K=u9
 ZDj:tk "NoBounds" "TooLong" uA U.K=u9
 ZCS:tk "NoBounds" "WaterError" u9 U.K=u9
 ZEc:tk "TooLong" "TooLong" u9 U.K=u9
 ZBx:tk "TooLong" "WaterError" u9 U.K=u9
 ZBy:m1 "NoAsk" "NoBounds" uA U.K=u9
 ZFb:m1 "NoBounds" "NoBounds" u9 U.K=u9
 ZEU:m1 "TooLong" "NoBounds" uA U.K=u9
 ZEb:m1 "NoAsk" "TooLong" uA U.K=u9
 ZEA:m1 "NoBounds" "TooLong" uA U.K=u9
 ZCE:m1 "TooLong" "TooLong" u9 U.K=u9
 ZEx:mb "NoAsk" "ValueError" u9 U.K=u9
 ZGv:mb "NoBounds" "ValueError" u9 U.K=u9
 ZCk:mb "TooLong" "ValueError" u9 U.K=u9
 ZGd:mt "NoAsk" ["NoAsk","NoBounds"] u9 U.K=u9
 ZET:mt "NoBounds" ["NoAsk","NoBounds"] u9 U.K=u9
 ZCy:mt "TooLong" ["NoAsk","NoBounds"] uA U.K=u9
 ZFj:mt "NoAsk" ["NoHouse","NoName","NoNumber","NoPump","NoRiver"] uA U.K=u9
 ZDE:mt "NoBounds" ["NoHouse","NoName","NoNumber","NoPump","NoRiver"] uA U.K=u9
 ZBS:mt "TooLong" ["NoHouse","NoName","NoNumber","NoPump","NoRiver"] uA U.K=u9
 ZE3:mt "NoAsk" ["NoLevel","NoRow","NoRule","NoText","NoWay"] uA U.K=u9
 ZDB:mt "NoBounds" ["NoLevel","NoRow","NoRule","NoText","NoWay"] uA U.K=u9
 ZCD:mt "TooLong" ["NoLevel","NoRow","NoRule","NoText","NoWay"] uA U.K=u9
section
seal Ie Jc dC Jz Bt Ac Qn Do dFn Ao dIf dLR Q7 Fp Cv Az Gp dOp dOr Qo dSl dTc Ci Ak dUn dV Kw Ls Ba Ri Qt Ho Kl Gy Nm Dr Ab gIx Al Aj gV Q8 Fb Bg Du Et Dp My Jk I8 Ou Hj Uw Jh Lj Oi Jv Rv Kq Bj Kg Ii Jr Jt Br Eg Fo Gm Ms Pz Gw Og rng1 rng3 sAs sAu K8 ZA6 sEx Ei Bx sIf sNr sNx Pq sRt sRz Dt Ae sTi Dm sWh
local macro_rules | `(tactic|trivial)=> `(tactic|first|refine' (_:String)|refine' (_:Str)|refine' (_:xy))
local macro_rules | `(tactic|trivial)=>pure (wR "QS _ _|_ (sAs (Ao _) _):-ZQa ?|(Stmt.Assign (List.cons (Expr.Name .) List.nil) (Expr.ListComp .) .) _:-ZIW _ nd ? L ? l l|(Stmt.Assign (List.cons (Expr.Name .) List.nil) .) (sAs _ (gV _)):-Ye _ nd ?|_ (sEx _):-ZRU ?|_ (sAs _ _):-ZJw ? ?|_ (Ei _ _ _ _):-ZPI ? ? ? ? ?|_ (Bx _ _ _):-ZOr PassesOwn.never rfl ? ? ?|_ (K8 _ _ _ _):-ZMk ? ? ? ?|_ (sAu _ _ _):-ZLF _ nd ? ?|_ (sWh _ _ _):-ZG1 fuel PassesOwn.never ? ?|@Tj,@Gq,@ZIK,-ZKB T.H7 (ZQ2 T) T.Xg.b hr ?#QE _ _|_ (dV _):.Hn _|(Expr.Subscript .) (dOp _ _ _):-Ww ? ? ?|(Expr.Compare .) _:-ZCm ? ? ? (nomark _)|(Expr.Call (Expr.Name .) .) (dFn _ _):<ZRR ? rfl ? ? ?,<Y8 ? rfl ? ? ?,^ZOi ($ T) hr ?^ZIf ZRz ZKU ZO2 ZKc ZNv ZQH ZRW ZNq ZLr ZNA ZMj ZPy ZPF ZI5 ZQC ZOI ZLm ZKZ ZKs ZIw ZMW ZJ7 Yl ZP0 ZLJ ZNz ZOo ZMR ZLn ZPK ZKd ZNU ZR1 ZN1 ZJH ZJl ZNJ ZQ9,^ZRg (And.right ($ T)) (hr.mono d) rfl (FT.m (And.left ($ T))) (FT.k (And.left ($ T))) (FT.b (And.left ($ T))) ZMr ?^ZRr ZPT ZIY ZJg,-ZIp (And.right (ZG6 T)) (And.left (ZG6 T)) hr ?|_ (Cv _ _ _):-ZPe ? ? ? ? ?|_ (Do _ _ _):-ZOG ? ? ? ?|_ (dSl _ _ _):-ZKo ? ? ?|_ (dLR _):-ZOS rfl rfl ? rfl ? ?|_ (Bt _ _ _ _ _ _):-ZNw ? L ? l l|(Expr.Name .) (dC _):<ZM4 rfl ?,<ZPX rfl ?|(Expr.Call _ (List.cons .) .) (Fp _ _ _ _ _):^ZPt (CT.N (T.ct 52)) (CT.cl (T.ct 52)) (MT.me (And.left ($ T))) (And.right ($ T)) (hr.mono d) (MT.b (And.left ($ T))) pass0 ? ?^ZLd ZMm ZJh ZLG|_ (Q7 _ _ _):-ZQN (CT.N (T.ct 52)) (CT.mK (T.ct 52)) (And.right (ZBQ T)) (hr.mono d) rfl (CT.g (T.ct 52)) (MT.b (And.left (ZBQ T))) pass0 ?|_ (Fp _ _ _ _ _):^ZOd (CT.N (T.ct 52)) (CT.cl (T.ct 52)) (MT.me (And.left ($ T))) (And.right ($ T)) (hr.mono d) (MT.b (And.left ($ T))) pass0 ?^ZIc ZLg|.ZRK,.ZJi,.ZOh,.ZJF,@ZIl,@ZQi,@ZLW,@ZIJ,@ZOs,@ZPo,@ZQt,@ZBK,@ZNa,@ZIu#QA _ _|.Xy,-Yk ? ?#QSs _ _|@Dc,.Gu,@Es#QG _ _|_ (gV _):.ZJQ _ nd|_ (Aj _ _):-ZKy rfl ?|_ (gIx _ _):-ZH8 ? ?#QGs _ _|.ZRo,-ZJR ? ?#QTs _ _|.ZLR,-ZRq ?#QT _ _|(Expr.Compare _ (List.cons _ List.nil) .) (Ak _):-S9 ? ? ? (nomark _)|_ (Ak _):-O6 ?|(Expr.BoolOp .) _:-Py ?|(Expr.Compare _ (List.cons _ (List.cons _ List.nil)) .) _:-ZK4 ? ? ? ? ?|@Ul#QI _ _ _|(Expr.Call _ (List.cons _ List.nil) .) (Bg rng1 _):-ZHk rfl ? ?|_ (Bg rng3 _):-ZNX rfl ? ?|_ (Bg Fb _):-ZJp rfl ? ?|_ (Q8 _ _):-ZOW rfl ? ? ?|_ (Bg (Et 2) _):-ZLD rfl ? ?|_ (Bg (Et 3) _):-ZJ8 rfl ? ?|@ZMO#QW _ _|@Ue,@Tu,@ZDu,@ZDh#QO _ _|.ZKR,@ZIU#GK|_ (gV _):.ZRX d|@ZLk#GKs|.ZPY,@ZNM#=IxR _ _|!Uc#=OpR _ _ _|!ZPZ,!ZKC,!ZPN,!ZPq,!ZIx,!o_lt,!o_gt,!ZLE,!o_le,!ZM9,!ZNi,!ZMU,!o_is,!o_ge,!ZO8,.o_eq hr.units,.o_ne hr.units#=CallR _ _ _|.ZL7,.ZPH,=ZI2 ?,=ZHl ?,=ZRf ?,=ZHj ?,=ZHi ?,=ZRL ?,.ZPf,.Xc#=Eq _ none|.T.z#=Eq (bootBuiltins _) _|!ZL2,!ZMF,!ZIs,!ZRH,!ZJx,!ZCK,!ZRQ,!ZAQ#=Slot _ _ _|!PySem.F.slot_list_append,!PySem.F.slot_list_index,!PySem.F.slot_list_extend#=Eq (typeOf _) _|!PySem.F.type_list_append,!PySem.F.type_list_index,!PySem.F.type_list_extend#=MtM _ _ _|!ZMq,!ZOq,!ZN2#=Eq _ (some _)|.T.gi,.T.gs#=NoAttr _ _ _|.T.no#=UnR _ _ _|!ZMC#*|.CT.N (T.ct 52),.CT.cl (T.ct 52),.hr.mono d")
set_option hygiene false in
local macro_rules | `(tactic|exists $a)=> `(tactic|(have F:=T.fs $a;refine⟨F.1,Hu F.1.F F.2 λcdv A outer s H E hr=>?_⟩;have nd:=F.2.nd;trivial))
set_option hygiene false in
local macro_rules | `(tactic|exists $a,$b)=> `(tactic|(have F:=T.ms $a $b;refine⟨F.1,Hu F.1.F F.2 λcdv A outer s H E hr=>?_⟩;have nd:=F.2.nd;trivial))
variable{U:Ev}(T:Txt U)
include T
theorem ZQ2:FnOk U.P U.w U.K U.mg U.base CX0 1 (Dk U.K (Aa U.K "TooLong") "__init__") (Am U.K (Dk U.K (Aa U.K "TooLong") "__init__")) ["self","most"] (spI (Aa U.K "TooLong") "most"):=
 ZHg (k:=0) T.Xg.F ZNQ T.H7.X T.ZEB rfl (by decide +kernel) (by decide +kernel) rfl rfl rfl rfl (.inl rfl) (.inl rfl) (λ_=>⟨_,rfl⟩)
theorem ZRz:GO U (top 78) 1 Jp:=by exists 78
theorem ZQC:GO U (top 74) 1 Ss:=by exists 74
theorem ZKc:GO U (top 73) 1 Mp:=by exists 73
theorem ZIf:GO U (top 75) 2 Bb:=by exists 75
theorem ZKU:GO U (top 77) 3 Ij:=by exists 77
theorem ZJH:GO U (top 88) 4 Rh:=by exists 88
theorem ZJl:GO U (top 90) 3 Kp:=by exists 90
theorem ZO2:GO U (top 92) 1 O4:=by exists 92
theorem ZQ9:GO U (top 93) 2 Ob:=by exists 93
theorem ZN1:GO U (top 86) 4 Rz:=by exists 86
theorem ZNJ:GO U (top 91) 1 O7:=by
 have F:=T.fs 91;refine⟨F.1,Hu F.1.F F.2 λcdv A outer s H E hr=>?_⟩;have nd:=F.2.nd
 exact(Dc (Gq (Py (Ue (by trivial) (Tu (S9 ZHM (by trivial) (by trivial) (by with_unfolding_all rfl))))) (by trivial) Gu) (Dc (by trivial) (Dc (Gq (by trivial) (Es (Tj (ZCm o_in (by trivial) (by trivial) (by with_unfolding_all rfl)))) Gu) (by trivial))))
theorem ZKZ:GO U (top 82) 1 Vp:=by exists 82
theorem ZOI:GO U (top 80) 1 Vi:=by exists 80
theorem ZNv:GO U (top 79) 3 Rg:=by exists 79
theorem ZLm:GO U (top 81) 4 Tf:=by exists 81
theorem ZIw:GO U (top 83) 5 Sd:=by exists 83
theorem ZKs:GO U (top 76) 1 Wm:=by exists 76
theorem ZNU:GO U (top 84) 6 Tq:=by
 refine⟨(T.fs 84).1,Hu (T.fs 84).1.F ZCx λcdv A outer s H E hr=>?_⟩;have nd:=ZCx.nd
 trivial
theorem ZG6:GH U (top 89) 1 Ra:=by have F:=T.fs 89;refine⟨F.1,ZN3 F.1.F F.2 λcdv A outer s H E hr=>?_⟩;have nd:=F.2.nd;exact(Dc (Gq (O6 (Zd T.z (Gk T.ZHb (Gk T.ZFu (Gk T.ZHW (Gk T.ZGE (Gk T.ZHT Zc))))) (tb_any T.Gi.xn T.ZFj (tb_any T.Ga.xn T.ZDE (tb_any T.H7.xn T.ZBS Oo))) (Hn 0))) (by trivial) Gu) (Es (Tj (Zd T.z (Gk T.ZBd (Gk T.ZCX (Gk T.ZFV (Gk T.ZCp (Gk T.ZFT Zc))))) (tb_any T.Gi.xn T.ZE3 (tb_any T.Ga.xn T.ZDB (tb_any T.H7.xn T.ZCD Oo))) (Hn 0)))))
theorem ZJ7:GO U (top 70) 1 Wc:=by exists 70
theorem ZMW:GO U (top 71) 1 Wb:=by have F:=T.fs 71;refine⟨F.1,Hu F.1.F F.2 λcdv A outer s H E hr=>?_⟩;have nd:=F.2.nd;exact(Es (Tj (Ww (ZMz hr.units) (ZQO (Rw (by trivial) (Rw (by trivial) (Rw (by trivial) (Rw (by trivial) (Rw (by trivial) ZHp)))))) (Hn 0))))
theorem ZPF:GO U (top 69) 2 S6:=by exists 69
theorem ZRr:GX U (top 64) 1 Mq:=by
 have F:=T.fs 64;refine⟨F.1,Qx F.1.F F.2 λcdv A outer s H E hr=>?_⟩;have nd:=F.2.nd
 exact(Dc (by trivial) (Dc (Gq (Py (Ue (S9 ZHM (Hn 4) (ZHw (ss:=["least","most"]) rfl T.Yt) (by with_unfolding_all rfl)) (Tu (ZIt rfl T.Vh (Hn 2) (by with_unfolding_all rfl))))) (Es (Qs T.Gi (by trivial))) Gu) (Dc (Gq (by trivial) (Es (Qs T.Gi (by trivial))) Gu) (Es (Gq (S9 (o_ne hr.units) (by trivial) (ZHy rfl T.Vh (Hn 2)) (nomark _)) (Es (Qs T.Gi (by trivial))) Gu)))))
theorem ZQH:GO U (top 61) 1 Rr:=by exists 61
theorem Yl:GO U (top 60) 2 M8:=by exists 60
theorem ZDd:GO U (top 59) 3 Wv:=by exists 59
theorem ZPT:GX U (top 65) 4 Q6:=by have F:=T.fs 65;refine⟨F.1,Qx F.1.F F.2 λcdv A outer s H E hr=>?_⟩;have nd:=F.2.nd;exact(Es (Gq (Py (Ue (Ul (O6 (ZC9 (ZDd T).2 (ZDd T).1 hr (by trivial)))) (Tu (Ul (O6 (ZC9 (Yl T).2 (Yl T).1 hr (by trivial))))))) (Es (Qs T.Ga (by trivial))) Gu))
theorem ZMj:GO U (top 67) 1 Rp:=by exists 67
theorem ZBQ:GM U body 52 0 1 Qe:=by exists 52,0
theorem ZLd:GM U body 52 5 1 Rm:=by exists 52,5
theorem ZRW:GO U (top 30) 1 Qy:=by have F:=T.fs 30;refine⟨F.1,Hu F.1.F F.2 λcdv A outer s H E hr=>?_⟩;have nd:=F.2.nd;exact(Dc (by trivial) (Es ZI6))
theorem ZNq:GO U (top 31) 2 R3:=by exists 31
theorem ZMm:GM U body 52 4 3 R1:=by exists 52,4
theorem ZLJ:GO U (top 43) 1 V6:=by exists 43
theorem ZP0:GO U (top 42) 1 Th:=by exists 42
theorem ZJh:GM U body 52 2 4 Vq:=by exists 52,2
theorem ZNA:GO U (top 38) 1 O5:=by
 refine⟨(T.fs 38).1,Hu (T.fs 38).1.F ZDQ λcdv A outer s H E hr=>?_⟩;have nd:=ZDQ.nd
 trivial
theorem ZLr:GO U (top 54) 3 Sg:=by exists 54
theorem ZMR:GO U (top 55) 4 V3:=by exists 55
theorem ZNz:GO U (top 39) 1 U8:=by exists 39
theorem ZOo:GO U (top 40) 1 Uk:=by exists 40
theorem ZLn:GO U (top 37) 2 W6:=by
 refine⟨(T.fs 37).1,Hu (T.fs 37).1.F ZBl λcdv A outer s H E hr=>?_⟩;have nd:=ZBl.nd
 trivial
theorem ZLG:GM U body 52 3 5 Vj:=by exists 52,3
theorem ZPK:GO U (top 53) 4 Tn:=by exists 53
theorem ZIc:GM U body 52 1 6 Ui:=by exists 52,1
theorem ZLg:GM U body 52 6 1 Up:=by exists 52,6
theorem ZKd:GO U (top 50) 7 T7:=by exists 50
theorem ZPy:GO U (top 51) 8 Nv:=by exists 51
theorem Ua:GX U (top 62) 9 Fv:=by
 have F:=T.fs 62;refine⟨F.1,Qx F.1.F F.2 λcdv A outer s H E hr=>?_⟩;have nd:=F.2.nd
 trivial
theorem ZIY:GX U (top 66) 1 O1:=by have F:=T.fs 66;refine⟨F.1,Qx F.1.F F.2 λcdv A outer s H E hr=>?_⟩;have nd:=F.2.nd;exact(Es (Gq (by trivial) (Es (Qs T.Ga (by trivial))) Gu))
theorem ZJg:GX U (top 68) 9 Mt:=by
 have F:=T.fs 68;refine⟨F.1,Qx F.1.F F.2 λcdv A outer s H E hr=>?_⟩;have nd:=F.2.nd
 exact(Dc (by trivial) (Dc (by trivial) (Dc (ZG1 fuel ownX (S9 (ZOZ hr.units) (by trivial) (by trivial) (by with_unfolding_all rfl)) (by trivial)) (by trivial))))
theorem W4:GD U (top 63) 100 10 Eu:=by
 have F:=T.fds 63;refine⟨F.1,ZIL F.1.F F.2 λcdv A outer s H E hr=>?_⟩;have nd:=F.2.nd
 trivial
theorem ZI5:GO U (top 94) 11 Gs:=by
 have F:=T.fs 94;refine⟨F.1,Hu F.1.F F.2 λcdv A outer s H E hr=>?_⟩;have nd:=F.2.nd;exact(Dc (by trivial) (Dc (ZBO (ZCr (by trivial) (Wu (ZGu (W4 T).2 (W4 T).1 hr (by trivial))) (Wu (ZEz (Ua T).2 (Ua T).1 hr (by trivial)))) (ZQe T.X4 (J1 T.H7.N T.ZEc Ku) (J1 T.Gi.N T.ZHV (J1 T.Ga.N T.ZDj Ku)) hr (λea hr=>(by trivial)) (ZAh T.Yd (J1 T.Gi.N T.ZGD Ku) (J1 T.Ga.N T.ZEr Ku) hr nd (λea hr=>(Es (Ye 7 nd (Ww Uc (by trivial) (Y8 Xc rfl T.z ZAQ (Yk (ZBK (ZDz T.z T.W3 (Jw T.Gi.xn T.ZBy (Jw T.Ga.xn T.ZFb (Jw T.H7.xn T.ZEU Oo))) (Hn 8)) (by trivial)) Xy)))))) (ZAh T.W3 (J1 T.Ga.N T.ZDH Ku) Ku hr nd (λea hr=>(by trivial)) ZBe)))) (Dc (by trivial) (Dc (ZBO (ZCr (by trivial) (Wu (ZGu (W4 T).2 (W4 T).1 hr (by trivial))) (Wu (ZEz (Ua T).2 (Ua T).1 hr (by trivial)))) (ZAh T.ZFx (J1 T.Gi.N T.ZC2 (J1 T.Ga.N T.ZCS (J1 T.H7.N T.ZBx Ku))) Ku hr nd (λea hr=>(Dc (Ye 9 nd (Ww Uc (by trivial) (Y8 Xc rfl T.z ZAQ (Yk (ZN8 T.z T.z (by decide +kernel) (Jw T.Gi.xn T.ZEx (Jw T.Ga.xn T.ZGv (Jw T.H7.xn T.ZCk Oo))) (Hn 8)) Xy)))) (Es (Gq (Py (ZDu (O6 (ZDz T.z T.X4 (Jw T.Gi.xn T.ZEb (Jw T.Ga.xn T.ZEA (Jw T.H7.xn T.ZCE Oo))) (Hn 8))) (ZDh (Ul (O6 (Zd T.z (Gk T.Yd (Gk T.W3 Zc)) (tb_any T.Gi.xn T.ZGd (tb_any T.Ga.xn T.ZET (tb_any T.H7.xn T.ZCy Oo))) (Hn 8))))))) (by trivial) Gu)))) ZBe)) (by trivial)))))
theorem ZR1:GO U (top 85) 4 Ug:=by exists 85
theorem ZAW:GO U (top 95) 12 Mf:=by have F:=T.fs 95;refine⟨F.1,Hu F.1.F F.2 λcdv A outer s H E hr=>?_⟩;have nd:=F.2.nd;exact(Dc (by trivial) (Dc (by trivial) (Dc (by trivial) (Dc (by trivial) (Dc (by trivial) (Dc (by trivial) (Dc (Gq (by trivial) (Es (ZCU 3 5 nd (by trivial))) Gu) (Dc (Gq (by trivial) (Es (ZCU 4 6 nd (by trivial))) Gu) (by trivial)))))))))
end
theorem ZJL{U:Ev}{h:Heap}(X:U.K.In h)(G:h.Ns vV U.mg)(S:AllSaid U.K asks):Txt U:=by
 have A:Gx body exs U:=⟨⟨h,X,G⟩,ZCJ S⟩;obtain⟨Yt,Vh,Xg,H7,Gi,Ga,ZEB,Yd,W3,ZHb,ZBd,ZFu,ZHW,ZGE,ZHT,ZCX,ZFV,ZCp,ZFT,X4,ZFx,ZGD,ZHV,ZC2,ZEr,ZDH,ZDj,ZCS,ZEc,ZBx,ZBy,ZFb,ZEU,ZEb,ZEA,ZCE,ZEx,ZGv,ZCk,ZGd,ZET,ZCy,ZFj,ZDE,ZBS,ZE3,ZDB,ZCD,-⟩:=S
 constructor <;> first|assumption|exact ZLB X G (by assumption)|exact ZI1 X G (by assumption)|exact ZQQ X G (by assumption)|exact ZKV X G (by assumption)|exact ZF7 (by assumption) λ_ _ _ _ _ _=>bnd2 λ_ _=>rfl|exact ZPu X G Yt|exact ZME X G Vh
theorem all_mk{l:vb}{w:xI}{K:za}{h:Heap}{mg:Str->Option xH}{fa:xy}(X:K.In h)(G:h.Ns vV mg)(hfa:mg "law"=u7 (.ref fa))(S:AllSaid K asks):
  ∃fd:xB,(∀(s:xF)(v:xH),BindsTo s fd ⟨[v],[]⟩ [("_law_script",v)])/\∀base:Heap,K.In base->base.Ns vV mg->FnOk l.prog w K mg base CX0 12 fa fd ["_law_script"] (lF K Mf):=by
 have T:∀base,Txt ⟨l.prog,w,K,mg,base⟩:=λbase=>ZJL X G S
 have eL:mg "law"=u7 (.ref (Aa K "law")):=(ZAW (T h)).1.m;obtain rfl:fa=Aa K "law":=by rw[hfa]at eL;cases eL;rfl
 exact⟨_,λs v=>ZO6 (ZAW (T h)).1.F,λbase _ _=>(ZAW (T base)).2⟩
theorem walk{l:vb}{q:xD}{loose:List Str}{XP:(Str->Option xH)->Heap->Prop}{YP:xI->Heap->Prop}{d:DefRec}{K:xI->za}(hn:l.most=u7 63)(hdf:d.params.defaults=[])(HH:Holds)
  (hY:∀(w:xI)(h:Heap),YP w h->(K w).In h)
  (F:∀(w:xI)(mg:Str->Option xH)(fa:xy)(h:Heap),(K w).In h->h.Ns vV mg->mg d.name=u7 (.ref fa)->
   ∃fd:xB,(∀(s:xF)(u:xH),BindsTo s fd ⟨[u],[]⟩ [("_law_script",u)])/\∀base:Heap,(K w).In base->base.Ns vV mg->FnOk l.prog w (K w) mg base CX0 12 fa fd ["_law_script"] (lF (K w) Mf)):
  wD q loose XP YP l.row.toRowW d [] (λf vs=>qh f vs):=
 _L.ZPx (n:=63) (k:=12) (x:="_law_script") (CX:=λ_=>CX0) (sp:=λw=>lF (K w) Mf) hn (by decide) hdf ⟨rfl,by decide,by decide⟩ hY F
  (λw H a ns hl hO hS=>by
   obtain⟨G,hG⟩:=HH ns hl;refine⟨⟨K w,0,λ_=>0,H⟩,[],[.fl (ns.map D.int)],rfl,rfl,⟨rfl,λi j h=>absurd h (Nat.not_lt_zero _),λi o h=>by simp at h,λi h=>absurd h (Nat.not_lt_zero _)⟩,Reps.cons ⟨a,ns.map V.int,rfl,?_,Reps.ints ns⟩ Reps.nil,?_⟩
   .rcases hS with(hS|hS)|hS
    .rcases hO a with z|⟨o,xs,z⟩
     .rw[z]at hS;cases hS
     .rw[z]at hS;cases hS
    .exact .inl hS
    .exact .inr ⟨⟨ns,rfl⟩,hS⟩
   .rw[hG];exact λb v _ _ r=>r) λ_ _ _ _ _ z=>z
end _W
namespace _W
open PySem _L _D
variable{ns:List Int}{G L:DH}{F T P ca fl lv f xs lat lv':Nat->Int}{m i d j dl w:Nat}{A B:DO}{ds:List D}{ws:List Nat}{x s0 s1 s2 s5 s6 s7 s3:Option D}{t c a at_ u yr:Int}{H LV e:D}{q:Nat->List Int}{S:DSt}{co cel co':Nat->Nat->Int}{p b:Bool}{fls l l':List (Nat->Int)}{sn:Str}
abbrev zI(i:Int):Option D:=u7 (.int i)
abbrev zR(i:Nat):Option D:=u7 (.ref i)
abbrev zF(xs:List D):Option D:=u7 (.fl xs)
abbrev zT(xs:List D):Option D:=u7 (.tup xs)
abbrev zS(x:Str):Option D:=u7 (.str x)
abbrev zB(b:Bool):Option D:=u7 (.bl b)
section
variable{S:DSt}{G:DH}{d v:D}{o:D->D->DH->R D}{t:DE}{r:DA}{a b c e f g h i j k l m n:Option D}
@[simp high]theorem rV0:dV 0 (u7 d::S) G=.ok d G:=id rfl
@[simp high]theorem rV1:dV 1 (a::u7 d::S) G=.ok d G:=id rfl
@[simp high]theorem rV2:dV 2 (a::b::u7 d::S) G=.ok d G:=id rfl
@[simp high]theorem rV3:dV 3 (a::b::c::u7 d::S) G=.ok d G:=id rfl
@[simp high]theorem rV4:dV 4 (a::b::c::e::u7 d::S) G=.ok d G:=id rfl
@[simp high]theorem rV5:dV 5 (a::b::c::e::f::u7 d::S) G=.ok d G:=id rfl
@[simp high]theorem rV6:dV 6 (a::b::c::e::f::g::u7 d::S) G=.ok d G:=id rfl
@[simp high]theorem rV7:dV 7 (a::b::c::e::f::g::h::u7 d::S) G=.ok d G:=id rfl
@[simp high]theorem rV8:dV 8 (a::b::c::e::f::g::h::i::u7 d::S) G=.ok d G:=id rfl
@[simp high]theorem rV9:dV 9 (a::b::c::e::f::g::h::i::j::u7 d::S) G=.ok d G:=id rfl
@[simp high]theorem rV10:dV 10 (a::b::c::e::f::g::h::i::j::k::u7 d::S) G=.ok d G:=id rfl
@[simp high]theorem rV11:dV 11 (a::b::c::e::f::g::h::i::j::k::l::u7 d::S) G=.ok d G:=id rfl
@[simp high]theorem rV12:dV 12 (a::b::c::e::f::g::h::i::j::k::l::m::u7 d::S) G=.ok d G:=id rfl
@[simp high]theorem rV13:dV 13 (a::b::c::e::f::g::h::i::j::k::l::m::n::u7 d::S) G=.ok d G:=id rfl
@[simp 10002]theorem rOC0:dOp o (dV 0) (dC v) (u7 d::S) G=o d v G:=id rfl
@[simp 10002]theorem rOC1:dOp o (dV 1) (dC v) (a::u7 d::S) G=o d v G:=id rfl
@[simp 10002]theorem rOC2:dOp o (dV 2) (dC v) (a::b::u7 d::S) G=o d v G:=id rfl
@[simp 10002]theorem rOC3:dOp o (dV 3) (dC v) (a::b::c::u7 d::S) G=o d v G:=id rfl
@[simp 10002]theorem rOC4:dOp o (dV 4) (dC v) (a::b::c::e::u7 d::S) G=o d v G:=id rfl
@[simp 10002]theorem rOC5:dOp o (dV 5) (dC v) (a::b::c::e::f::u7 d::S) G=o d v G:=id rfl
@[simp 10002]theorem rOC6:dOp o (dV 6) (dC v) (a::b::c::e::f::g::u7 d::S) G=o d v G:=id rfl
@[simp 10002]theorem rOC7:dOp o (dV 7) (dC v) (a::b::c::e::f::g::h::u7 d::S) G=o d v G:=id rfl
@[simp 10002]theorem rOC8:dOp o (dV 8) (dC v) (a::b::c::e::f::g::h::i::u7 d::S) G=o d v G:=id rfl
@[simp 10002]theorem rOC9:dOp o (dV 9) (dC v) (a::b::c::e::f::g::h::i::j::u7 d::S) G=o d v G:=id rfl
@[simp 10002]theorem rOC10:dOp o (dV 10) (dC v) (a::b::c::e::f::g::h::i::j::k::u7 d::S) G=o d v G:=id rfl
@[simp high]theorem rOV0:dOp o (dV 0) t (u7 d::S) G=(t (u7 d::S) G).bind λy q=>o d y q:=id rfl
@[simp high]theorem rOV1:dOp o (dV 1) t (a::u7 d::S) G=(t (a::u7 d::S) G).bind λy q=>o d y q:=id rfl
@[simp high]theorem rOV2:dOp o (dV 2) t (a::b::u7 d::S) G=(t (a::b::u7 d::S) G).bind λy q=>o d y q:=id rfl
@[simp high]theorem rOV3:dOp o (dV 3) t (a::b::c::u7 d::S) G=(t (a::b::c::u7 d::S) G).bind λy q=>o d y q:=id rfl
@[simp high]theorem rOV4:dOp o (dV 4) t (a::b::c::e::u7 d::S) G=(t (a::b::c::e::u7 d::S) G).bind λy q=>o d y q:=id rfl
@[simp high]theorem rOV5:dOp o (dV 5) t (a::b::c::e::f::u7 d::S) G=(t (a::b::c::e::f::u7 d::S) G).bind λy q=>o d y q:=id rfl
@[simp high]theorem rOV6:dOp o (dV 6) t (a::b::c::e::f::g::u7 d::S) G=(t (a::b::c::e::f::g::u7 d::S) G).bind λy q=>o d y q:=id rfl
@[simp high]theorem rOV7:dOp o (dV 7) t (a::b::c::e::f::g::h::u7 d::S) G=(t (a::b::c::e::f::g::h::u7 d::S) G).bind λy q=>o d y q:=id rfl
@[simp high]theorem rOV11:dOp o (dV 11) t (a::b::c::e::f::g::h::i::j::k::l::u7 d::S) G=(t (a::b::c::e::f::g::h::i::j::k::l::u7 d::S) G).bind λy q=>o d y q:=id rfl
@[simp high]theorem rCV0:Ac (dV 0) r (u7 d::S) G=(r (u7 d::S) G).bind λxs q=>.ok (d::xs) q:=id rfl
@[simp high]theorem rCV1:Ac (dV 1) r (a::u7 d::S) G=(r (a::u7 d::S) G).bind λxs q=>.ok (d::xs) q:=id rfl
@[simp high]theorem rCV2:Ac (dV 2) r (a::b::u7 d::S) G=(r (a::b::u7 d::S) G).bind λxs q=>.ok (d::xs) q:=id rfl
@[simp high]theorem rCV3:Ac (dV 3) r (a::b::c::u7 d::S) G=(r (a::b::c::u7 d::S) G).bind λxs q=>.ok (d::xs) q:=id rfl
@[simp high]theorem rCV4:Ac (dV 4) r (a::b::c::e::u7 d::S) G=(r (a::b::c::e::u7 d::S) G).bind λxs q=>.ok (d::xs) q:=id rfl
@[simp high]theorem rCV5:Ac (dV 5) r (a::b::c::e::f::u7 d::S) G=(r (a::b::c::e::f::u7 d::S) G).bind λxs q=>.ok (d::xs) q:=id rfl
@[simp high]theorem rCV6:Ac (dV 6) r (a::b::c::e::f::g::u7 d::S) G=(r (a::b::c::e::f::g::u7 d::S) G).bind λxs q=>.ok (d::xs) q:=id rfl
@[simp high]theorem rCV7:Ac (dV 7) r (a::b::c::e::f::g::h::u7 d::S) G=(r (a::b::c::e::f::g::h::u7 d::S) G).bind λxs q=>.ok (d::xs) q:=id rfl
@[simp high]theorem rCV8:Ac (dV 8) r (a::b::c::e::f::g::h::i::u7 d::S) G=(r (a::b::c::e::f::g::h::i::u7 d::S) G).bind λxs q=>.ok (d::xs) q:=id rfl
@[simp high]theorem rCV9:Ac (dV 9) r (a::b::c::e::f::g::h::i::j::u7 d::S) G=(r (a::b::c::e::f::g::h::i::j::u7 d::S) G).bind λxs q=>.ok (d::xs) q:=id rfl
@[simp high]theorem rCV10:Ac (dV 10) r (a::b::c::e::f::g::h::i::j::k::u7 d::S) G=(r (a::b::c::e::f::g::h::i::j::k::u7 d::S) G).bind λxs q=>.ok (d::xs) q:=id rfl
@[simp high]theorem rCV11:Ac (dV 11) r (a::b::c::e::f::g::h::i::j::k::l::u7 d::S) G=(r (a::b::c::e::f::g::h::i::j::k::l::u7 d::S) G).bind λxs q=>.ok (d::xs) q:=id rfl
@[simp high]theorem rCV12:Ac (dV 12) r (a::b::c::e::f::g::h::i::j::k::l::m::u7 d::S) G=(r (a::b::c::e::f::g::h::i::j::k::l::m::u7 d::S) G).bind λxs q=>.ok (d::xs) q:=id rfl
@[simp high]theorem rCV13:Ac (dV 13) r (a::b::c::e::f::g::h::i::j::k::l::m::n::u7 d::S) G=(r (a::b::c::e::f::g::h::i::j::k::l::m::n::u7 d::S) G).bind λxs q=>.ok (d::xs) q:=id rfl
@[simp high]theorem rCC:Ac (dC v) r S G=(r S G).bind λxs q=>.ok (v::xs) q:=id rfl
@[simp 10001]theorem rOtC:dOp o t (dC v) S G=(t S G).bind λx G1=>o x v G1:=id rfl
@[simp 10001]theorem rOCt:dOp o (dC v) t S G=(t S G).bind λy G1=>o v y G1:=id rfl
end
theorem ZD7:∃b,∀G,Mp [.fl (ns.map D.int)] G=.ok (.bl b) G:=by
 cases ns with
 |nil=>exact⟨uA,λG=>by unfold Mp Yv;rw[Ag];simp[Ar]⟩
 |cons n r=>
  refine⟨decide (n<0)||decide (1000000000000000000<=n),λG=>?_⟩;unfold Mp Yv;rw[Ag];have q:atI ((n::r).map D.int) 0=zI n:=Dj rfl rfl;by_cases h:n<0
  .simp[q,h,Ar]
  simp[q,h,Ar]
def offV:Nat->Int->Int
 |0,v=>v
 |n+1,v=>offV n (v/100000000)
theorem ZDG{k:D}:∀(n:Nat)(j:Nat)(v:Int)(x:Option D),∃q,Aw (gV 2) R7 (Bh j n) [zI v,u7 k,x] G=.nx [zI (offV n v),u7 k,q] G
 |0,j,v,x=>⟨x,by rw[Ib,Cr];rfl⟩
 |n+1,j,v,x=>by
  obtain⟨q,w⟩:=ZDG n (j+1) (v/100000000) (zI j);refine⟨q,?_⟩;have u:R7 [zI v,u7 k,zI j] G=.nx [zI (v/100000000),u7 k,zI j] G:=by unfold R7;simp
  rw[Hk,Bv];simp[Ce,R.Bq,qY,u,Cd];have y:((j:Int)+1)=((j+1:Nat):Int):=by lia
  rw[y,w]
  rfl
theorem ZCC{v:Int}{k:Nat}(hk:k<=1000):∃r:Int,(0<=r/\r<100000000)/\∀G,Ss [.int v,.int k] G=.ok (.int r) G:=by
 by_cases h:0<=v/\v<1000000000000000000
 .let a:=(v+1009*(k:Int)+7)%999999937;let b:=a*a%999999929;refine⟨b*(b+k)%99999989,by lia,λG=>?_⟩;unfold Ss Y9;rw[Ag];have y:Br (.int a) (.int a)=λG=>R.ok (.int (a*a)) G:=by funext G;exact Gh (by lia) (by lia)
  have x:Br (.int b) (.int (b+k))=λG=>R.ok (.int (b*(b+k))) G:=by funext G;exact Gh (by lia) (by lia)
  simp[h.1,h.2]
  rw[show(v+1009*(k:Int)+7)%999999937=a from rfl,y]
  simp
  rw[show a*a%999999929=b from rfl,x]
  simp[Ar]
 refine⟨offV k v%100000000,by lia,λG=>?_⟩;obtain⟨B,A⟩:=ZDG k 0 v u8;have q:Aw (gV 2) R7 (Bh 0 k) [zI v,zI k,u8] G=.nx [zI (offV k v),zI k,B] G:=A;unfold Ss Y9;rw[Ag];have w:inR (k:Int):=Ek (by lia) (by lia);by_cases u:0<=v
 .have C:¬v<1000000000000000000:=λz=>h ⟨u,z⟩
  simp[u,C,w,q,Ar]
 simp[u,w,q,Ar]
theorem ZBT(I:ns.length<=63){k:Nat}(hk:k<=1000):∃v:Int,∀G,Bb [.fl (ns.map D.int),.int k] G=.ok (.int v) G:=by
 obtain⟨b,u⟩:=ZD7 (ns:=ns);have A:((k:Int)%14)=((k%14:Nat):Int):=by lia
 cases b with
 | true=>
  by_cases h:1+k/14<ns.length
  .obtain⟨r,E,w⟩:=ZCC (k:=k%14) (by lia);refine⟨r,λG=>?_⟩;unfold Bb N7;rw[Ag];have q:atI (ns.map D.int) (1+(k:Int)/14)=zI ns[1+k/14]:=Dj (k:=1+k/14) (by lia) (by rw[zw,zJ h];rfl);have y:(1+(k:Int)/14)<ns.length:=by lia
   simp[u,y,q];rw[A,w];simp[Ar]
  obtain⟨r,E,w⟩:=ZCC (k:=k%14) (by lia);refine⟨r,λG=>?_⟩;unfold Bb N7;rw[Ag];have y:¬(1+(k:Int)/14)<ns.length:=by lia
  simp[u,y];rw[A,w];simp[Ar]
 | false=>
  by_cases h:k<ns.length
  .refine⟨ns[k],λG=>?_⟩;unfold Bb N7;rw[Ag];have q:atI (ns.map D.int) (k:Int)=zI ns[k]:=Dj rfl (by rw[zw,zJ h];rfl);simp[u,h,q,Ar]
  have C:∀G,Br (.int k) (.int k) G=R.ok (.int ((k:Int)*k)) G:=λG=>Gh (by lia) (by lia)
  by_cases B:0<ns.length
  .have F:k%ns.length<ns.length:=Nat.mod_lt _ B;refine⟨48271*((k:Int)*k+7*ns.length)%2147483647+ns[k%ns.length]*69621%2147483629,λG=>?_⟩;unfold Bb N7;rw[Ag];have q:atI (ns.map D.int) ((k:Int)%ns.length)=zI ns[k%ns.length]:=Dj (k:=k%ns.length) (by simp) (by rw[zw,zJ F];rfl);simp[u,h,C,B,q,Ar]
  .have e:ns=[]:=jK (by lia);subst e;refine⟨48271*((k:Int)*k+7*0)%2147483647,λG=>?_⟩;unfold Bb N7;rw[Ag];have x:∀G,Mp [.fl []] G=.ok (.bl uA) G:=u;have z:¬(k:Int)<0:=by lia
   simp[x,z,C,Ar]
theorem cells(q:ns.length<=63):∃f:Nat->Int,∀k:Nat,k<=1000->∀G,Bb [.fl (ns.map D.int),.int k] G=.ok (.int (f k)) G:=by refine⟨λk=>if h:k<=1000 then(ZBT q h).choose else 0,λk hk=>?_⟩;simp[dif_pos hk];exact(ZBT q hk).choose_spec
abbrev nD(ns:List Int):D:=.fl (ns.map D.int) abbrev zN (ns:List Int):Option D:=u7 (nD ns) abbrev Cf (ns:List Int) (f:Nat->Int):Prop:=∀k:Nat,k<=1000->∀G,Bb [nD ns,.int k] G=.ok (.int (f k)) G abbrev Cu (ns:List Int) (u:Int):Prop:=∀G,Ij [nD ns] G=.ok (.int u) G abbrev Cy (ns:List Int) (u:Int):Prop:=∀G,Rg [nD ns] G=.ok (.int u) G
structure Row where
 down:Option Nat
 water:Int
 need:Int
 rank:Int
variable{rs:List Row}
def dnD:Option Nat->D
 |none=>.non
 |some d=>.int d
def Row.enc(r:Row):D:=.tup [dnD r.down,.int r.water,.int r.need,.int r.rank]
@[simp]theorem ZSx{n:Nat}{o:Option Nat}:bel n (dnD o)=u9:=by cases o<;>rfl
@[simp]theorem ZL6{n:Nat}{r:Row}:bel n r.enc=u9:=by simp[Row.enc]
@[simp]theorem ZSR{n:Nat}:bels n (rs.map Row.enc)=u9:=Dw λr _=>ZL6
@[simp]theorem ZD3{n:Nat}{xs:List Int}:bels n (xs.map D.int)=u9:=Dw λr _=>rfl
structure Fine (k n:Nat) (r:Row):Prop where
 dn:∀d,r.down=u7 d->k<d/\d<n
 w0:0<=r.water
 n0:0<=r.need
 r0:0<=r.rank
def Reach(rs:List Row):Prop:=∀k r,rs[k]?=u7 r->Fine k rs.length r
def tab(n:Nat)(F:Nat->Int):List D:=(zZ n).map λi=>D.int (F i)
def fset(F:Nat->Int)(d:Nat)(v:Int):Nat->Int:=λi=>if i=d then v else F i
@[simp]theorem ZLN{n:Nat}:(tab n F).length=n:=by simp[tab]
@[simp]theorem Hd{n:Nat}:bels m (tab n F)=u9:=Dw λ_ _=>rfl
theorem Lq{n:Nat}(h:i<n):(tab n F)[i]?=zI (F i):=by unfold tab;rw[zw,zH h];rfl
theorem Ef{n:Nat}(h:i<n):atI (tab n F) (i:Int)=zI (F i):=Dj rfl (Lq h)
theorem Mv{n:Nat}{v:Int}:(tab n F).set d (.int v)=tab n (fset F d v):=by
 refine jD λi=>?_
 by_cases q:i<n
 .by_cases e:d=i
  .subst e;rw[jx (by simpa using q),Lq q];simp[fset]
  rw[qN e,Lq q,Lq q];have:i≠d:=λz=>e z.symm
  simp[fset,this]
 rw[z7 (by simp;lia),z7 (by simp;lia)]
theorem ZDF{n:Nat}{q:Nat->Int}(h:∀i,i<n->F i=q i):tab n F=tab n q:=by
 unfold tab;refine qB λi u=>?_
 rw[h i (qw.mp u)]
def col(g:Row->Int)(rs:List Row)(i:Nat):Int:=match rs[i]? with
 |some r=>g r
 |none=>0
def Bo(rs:List Row)(i:Nat):Option Nat:=rs[i]?.bind Row.down
theorem Hf(h:Reach rs){k:Nat}(e:Bo rs k=u7 d):k<d/\d<rs.length:=by
 unfold Bo at e;cases q:rs[k]? with
 |none=>rw[q]at e;cases e
 |some r=>rw[q]at e;exact(h k r q).dn d e
theorem Uy{k:Nat}(hk:k<rs.length):Bo rs k=rs[k].down:=by unfold Bo;rw[zJ hk];rfl
theorem ZGR{k:Nat}(hk:¬k<rs.length):Bo rs k=u8:=by unfold Bo;rw[z7 (by lia)];rfl
def gstep(F:Nat->Int)(k:Nat)(o:Option Nat):Nat->Int:=match o with
 |none=>F
 |some d=>fset F d (F d+F k)
def gat(rs:List Row):Nat->Nat->(Nat->Int)->Nat->Int
 |0,_,F=>F
 |m+1,k,F=>gat rs m (k+1) (gstep F k (Bo rs k))
abbrev gath(rs:List Row)(F:Nat->Int):Nat->Int:=gat rs rs.length 0 F
theorem Z2{k:Nat}(hk:k<rs.length):atI (rs.map Row.enc) (k:Int)=zT [dnD (Bo rs k),.int (col Row.water rs k),.int (col Row.need rs k),.int (col Row.rank rs k)]:=
 Dj rfl (by rw[zw,Uy hk];simp[col,zJ hk,Row.enc])
theorem ZE7(A:Reach rs){t:D}:∀(m k:Nat)(F:Nat->Int)(x y:Option D),k+m=rs.length->∃w u,
  Aw (Aj 2 (Ab (gV 4) (Ab (gV 3) Al))) Ox ((Df (rs.map Row.enc)).drop k) [zF (rs.map Row.enc),u7 t,zR G.length,x,y] (G++[.lst (tab rs.length F)])=
   .nx [zF (rs.map Row.enc),u7 t,zR G.length,w,u] (G++[.lst (tab rs.length (gat rs m k F))])
 |0,k,F,x,y,h=>⟨x,y,by rw[zU (by rw[Jy];simp;lia),Cr];rfl⟩
 | m+1,k,F,x,y,h=>by
  have hk:k<rs.length:=by lia
  have B:(Df (rs.map Row.enc)).drop k=.tup [.int k,rs[k].enc]::(Df (rs.map Row.enc)).drop (k+1):=by rw[zO (by rw[Jy];simpa using hk)];simp[Df]
  obtain⟨w,u,I⟩:=ZE7 A m (k+1) (gstep F k (Bo rs k)) (u7 rs[k].enc) (zI k) (by lia);refine⟨w,u,?_⟩;have E:Ox [zF (rs.map Row.enc),u7 t,zR G.length,u7 rs[k].enc,zI k] (G++[.lst (tab rs.length F)])=
    .nx [zF (rs.map Row.enc),u7 t,zR G.length,u7 rs[k].enc,zI k] (G++[.lst (tab rs.length (gstep F k (Bo rs k)))]):=by
   unfold Ox;cases z:Bo rs k with
   |none=>
    have:rs[k].down=u8:=by rw[<-Uy hk];exact z
    simp[Row.enc,this,dnD,gstep]
   |some d=>
    have e:rs[k].down=u7 d:=by rw[<-Uy hk];exact z
    have q:=Hf A z;have C:(G++[DO.lst (tab rs.length F)])[G.length]?=u7 (.lst (tab rs.length F)):=by simp
    simp[Row.enc,e,dnD,gstep,U0 C (Ef q.2),Bu,Ef hk,Dq,Hb,q.2,Mv]
  rw[B,Bv];simp[Ce,E];exact I
def Ky(rs:List Row)(i:Nat):D:=.tup [dnD (Bo rs i),.int (col Row.water rs i),.int (col Row.need rs i),.int (col Row.rank rs i)]
theorem ZD1:rs.map Row.enc=(zZ rs.length).map (Ky rs):=by
 refine jD λi=>?_
 by_cases q:i<rs.length
 .rw[zw,zw,zH q,zJ q];simp[Ky,Row.enc,Uy q,col,zJ q]
 rw[z7 (by simp;lia),z7 (by simp;lia)]
theorem ZFG(I:Reach rs)(K:rs.length<=40){t:D}(y:Bd t G=u7 (tab rs.length T)):O5 [.fl (rs.map Row.enc),t] G=.ok (.ref G.length) (G++[.lst (tab rs.length (gath rs λi=>col Row.water rs i-T i))]):=by
 obtain⟨C,B,A⟩:=ZE7 I rs.length 0 (λi=>col Row.water rs i-T i) u8 u8 (by lia);have E:∀j,Em [.fl (rs.map Row.enc),t] j G=u7 ((zZ rs.length).map λi=>D.tup [Ky rs i,.int (T i)])[j]? :=λj=>by
  rw[X6 ZDM y,Ln,ZD1,tab,List.zip_map',jz]
  rfl
 let F:D->Option D:=λd=>match d with
  |.tup [.tup [_,.int w,_,_],.int v]=>zI (w-v)
  |_=>u8
 have J:Cm (Em [.fl (rs.map Row.enc),t]) (Aj 2 (Ab (gV 0) (Ab (gV 1) Al))) Bc ZAb (Ax 2 [] [zF (rs.map Row.enc),u7 t,u8,u8,u8]) rs.length 0 G=.ok (tab rs.length λi=>col Row.water rs i-T i) G:=by
  rw[Um (F:=F) E (λx z=>?_) (by simp)]
  .congr 1
   rw[qW];show(zZ rs.length).filterMap (λi=>zI (col Row.water rs i-T i))=_;rw[q8]
   rfl
  obtain⟨i,_,rfl⟩:=z9.mp z;refine⟨[u7 (Ky rs i),zI (T i)],by simp[Ax],.inr ⟨rfl,.int (col Row.water rs i-T i),?_,rfl⟩⟩;unfold ZAb;simp[Ky]
 have q:rs.length<=1000000:=by lia
 unfold O5 ZFD;rw[Ag];have u:Cq (Dh 0 (.fl (rs.map Row.enc))) (Aj 2 (Ab (gV 4) (Ab (gV 3) Al))) Ox rs.length 0 [zF (rs.map Row.enc),u7 t,zR G.length,u8,u8] (G++[.lst (tab rs.length λi=>col Row.water rs i-T i)])=.nx [zF (rs.map Row.enc),u7 t,zR G.length,C,B] (G++[.lst (tab rs.length (gath rs λi=>col Row.water rs i-T i))]):=by have:=ZMp (S:=[zF (rs.map Row.enc),u7 t,zR G.length,u8,u8]) (G:=G++[.lst (tab rs.length λi=>col Row.water rs i-T i)]) (g:=Aj 2 (Ab (gV 4) (Ab (gV 3) Al))) (b:=Ox) (xs:=rs.map Row.enc);rw[zM]at this;rw[this];exact A
 simp[V5 (ZDM) y,J,Af,q,u,Ds]
theorem ZHB{g:Row->Int}(h:∀r∈rs,0<=g r)(k:Nat):0<=col g rs k:=by
 unfold col;split
 .rename_i r q;exact h r (jW q)
 exact jJ _
theorem Reach.need(h:Reach rs)(k:Nat):0<=col Row.need rs k:=ZHB (λr q=>by obtain⟨i,u,rfl⟩:=qj q;exact(h i _ (zJ u)).n0) k
theorem Reach.water(h:Reach rs)(k:Nat):0<=col Row.water rs k:=ZHB (λr q=>by obtain⟨i,u,rfl⟩:=qj q;exact(h i _ (zJ u)).w0) k
theorem ZCf(h:bels (G.length+1) ds=u9):freeze (G++[A]) (.ok (.ref (G.length+1)) (G++A:: .lst ds::L))=.ok (.fl ds) (G++[A]):=by have:=Cz (G:=G++[A]) (L:=L) (by simpa using h);simpa using this
theorem W0(h:bels (G.length+1) ds=u9):tidy (G++[A]) (.ok (.ref (G.length+1)) (G++A:: .lst ds::L))=.ok (.ref (G.length+1)) (G++[A,.lst ds]):=by have:=Ds (G:=G++[A]) (L:=L) (by simpa using h);simpa using this
theorem ZAm(h:bels (G.length+2) ds=u9):freeze (G++[A,B]) (.ok (.ref (G.length+2)) (G++A::B:: .lst ds::L))=.ok (.fl ds) (G++[A,B]):=by have:=Cz (G:=G++[A,B]) (L:=L) (by simpa using h);simpa using this
def K4(rs:List Row):Nat->Nat->List Nat
 |0,k=>[k]
 |m+1,k=>k::(match Bo rs k with
  |none=>[]
  |some d=>K4 rs m d)
def way(rs:List Row)(k:Nat):List Nat:=K4 rs rs.length k
theorem ZCW(u:Reach rs):∀(m m' k:Nat),rs.length<=m+k+1->rs.length<=m'+k+1->K4 rs m k=K4 rs m' k
 | 0,m',k,h,x=>by
  have w:Bo rs k=u8:=by
   cases q:Bo rs k with
   |none=>rfl
   |some d=>have:=Hf u q;lia
  cases m' with
  |zero=>rfl
  |succ m'=>simp[K4,w]
 | m+1,0,k,h,x=>by
  have w:Bo rs k=u8:=by
   cases q:Bo rs k with
   |none=>rfl
   |some d=>have:=Hf u q;lia
  simp[K4,w]
 | m+1,m'+1,k,h,x=>by
  cases q:Bo rs k with
  |none=>simp[K4,q]
  |some d=>
   have:=Hf u q;simp[K4,q,ZCW u m m' d (by lia) (by lia)]
def Ip(rs:List Row):Option Nat->List Nat
 |none=>[]
 |some d=>way rs d
theorem Ig(q:Reach rs)(k:Nat):way rs k=k::Ip rs (Bo rs k):=by
 unfold way;rw[ZCW q rs.length (rs.length+1) k (by lia) (by lia)];show k::_=_;cases u:Bo rs k with
 |_=>rfl
@[simp]theorem ZSG:dnD (u7 d)=.int d:=id rfl
def Av(ws:List Nat):List D:=ws.map λ(i:Nat)=>D.int (i:Int)
@[simp]theorem ZDr:bels m (Av ws)=u9:=Dw λ_ _=>rfl
@[simp]theorem ZSJ:(Av ws).length=ws.length:=by simp[Av]
theorem ZDk(w:Reach rs)(A:rs.length<=40):∀(m:Nat)(o:Option Nat)(acc:List Nat),0<m->(∀d,o=u7 d->d<rs.length/\rs.length-d<m/\acc.length+(rs.length-d)<=100)->
  sWh M5 Q9 m [zF (rs.map Row.enc),x,zR G.length,u7 (dnD o)] (G++[.lst (Av acc)])=.nx [zF (rs.map Row.enc),x,zR G.length,u7 .non] (G++[.lst (Av (acc++Ip rs o))])
 |0,o,acc,y,h=>by lia
 |m+1,u8,acc,y,h=>by
  have u:M5 [zF (rs.map Row.enc),x,zR G.length,u7 (dnD u8)] (G++[.lst (Av acc)])=.ok uA (G++[.lst (Av acc)]):=by unfold M5;simp[dnD]
  unfold sWh;rw[u];simp[Ip,dnD]
 |m+1,u7 d,acc,y,h=>by
  obtain⟨B,E,F⟩:=h d rfl;have u:M5 [zF (rs.map Row.enc),x,zR G.length,u7 (dnD (u7 d))] (G++[.lst (Av acc)])=.ok u9 (G++[.lst (Av acc)]):=by unfold M5;simp[dnD]
  have q:acc.length<1000000:=by lia
  have C:Q9 [zF (rs.map Row.enc),x,zR G.length,u7 (dnD (u7 d))] (G++[.lst (Av acc)])=.nx [zF (rs.map Row.enc),x,zR G.length,u7 (dnD (Bo rs d))] (G++[.lst (Av (acc++[d]))]):=by unfold Q9;simp[Bu,Dq,q,Z2 B,Av]
  unfold sWh;rw[u];simp only[R.Bq,if_true,C,Cd];rw[ZDk w A m (Bo rs d) (acc++[d]) (by lia) (λe z=>by have:=Hf w z;simp;lia)]
  have:Ip rs (u7 d)=d::Ip rs (Bo rs d):=Ig w d;rw[this];simp
theorem ZH3(u:Reach rs)(y:rs.length<=40){k:Nat}(hk:k<rs.length)(G:DH):Uk [.fl (rs.map Row.enc),.int k] G=.ok (.ref G.length) (G++[.lst (Av (way rs k))]):=by
 have w:=ZDk u y (x:=zI k) (G:=G) fuel (Bo rs k) [k] (by unfold fuel;lia) (λd z=>by have:=Hf u z;unfold fuel;simp;lia)
 have q:sWh M5 Q9 fuel [zF (rs.map Row.enc),zI k,zR G.length,u7 (dnD (Bo rs k))] (G++[.lst [.int k]])=_:=w;rw[Ig u];unfold Uk ZEq;rw[Ag];simp[Af,Ds,Z2 hk,q]
noncomputable def ltK(rs:List Row)(i j:Nat):Bool:=decide (col Row.rank rs i<col Row.rank rs j\/(col Row.rank rs i=col Row.rank rs j/\i<j))
theorem ZDR(rs:List Row):WO (ltK rs) where
 asy:=λi j h=>by simp only[ltK,decide_eq_true_eq,decide_eq_false_iff_not]at h⊢;lia
 neg:=λi j k h=>by simp only[ltK,decide_eq_true_eq]at h⊢;lia
def ord(rs:List Row):List Nat:=if rs.length<2 then zZ rs.length else(Bm (ltK rs) (zi rs.length)).toList
theorem Xl(rs:List Row):(ord rs).Perm (zZ rs.length):=by
 unfold ord;split
 .exact .refl _
 exact(ZEw (ZDR rs) (by lia)).1
theorem ZCs{k:Nat}(h:k∈ord rs):k<rs.length:=by have:=(Xl rs).mem_iff.mp h;simpa using this
theorem ZDc(rs:List Row):(ord rs).length=rs.length:=by rw[(Xl rs).length_eq];simp
theorem ZDI{n:Nat}{lt q:Nat->Nat->Bool}(h:∀i j,i<n->j<n->lt i j=q i j){w:Type}{P:w->Prop}:∀{t:ve w},Safe n P t->Bm lt t=Bm q t
 |.ret _,_=>rfl
 |.ask i j k,u=>by show Bm lt (k (lt i j))=Bm q (k (q i j));rw[h i j u.1 u.2.1];exact ZDI h (u.2.2 _)
def Eb(rs:List Row)(k:Nat):D:=.tup [.int (col Row.rank rs k),.int k]
theorem ZGy(i j:Nat):ltD (Eb rs i) (Eb rs j)=u7 (ltK rs i j):=by
 have e:ltD (Eb rs i) (Eb rs j)=if col Row.rank rs i=col Row.rank rs j then(if(i:Int)=j then u7 uA else u7 (decide ((i:Int)<j)))else u7 (decide (col Row.rank rs i<col Row.rank rs j)):=rfl
 rw[e];by_cases h:col Row.rank rs i=col Row.rank rs j
 .rw[if_pos h];by_cases q:(i:Int)=j
  .rw[if_pos q]
   congr 1
   simp only[ltK]
   symm
   simp only[decide_eq_false_iff_not];lia
  rw[if_neg q]
  congr 1
  simp only[ltK];rw[decide_eq_decide];lia
 rw[if_neg h]
 congr 1
 simp only[ltK];rw[decide_eq_decide];lia
def Fj(rs:List Row):List D:=(zZ rs.length).map (Eb rs)
theorem ZAz(h:i<rs.length):(Fj rs).getD i .non=Eb rs i:=by unfold Fj;rw[zA,zw,zH h];rfl
theorem ZFg(rs:List Row):K6 (Fj rs)=(ord rs).map (Eb rs):=by
 have w:(Fj rs).length=rs.length:=by simp[Fj]
 unfold K6 ord;rw[w];split
 .rfl
 .rename_i h;have e:Bm (ltI (Fj rs)) (zi rs.length)=Bm (ltK rs) (zi rs.length):=
   ZDI (λi j q u=>by unfold ltI;rw[ZAz q,ZAz u,ZGy];rfl) (ZQ0 (by lia))
  rw[e];exact qB λi q=>(ZAz (by simpa using((ZEw (ZDR rs) (n:=rs.length) (by lia)).1).mem_iff.mp q))
theorem ZQl(rs:List Row):P0 (Fj rs)=u9:=by
 unfold P0 Fj;rw[z5,jA];refine⟨.inl ?_,?_⟩
 .rw[q9];intro x q;obtain⟨i,_,rfl⟩:=z9.mp q
  rfl
 rw[q9];intro x q;rw[q9];intro y u;obtain⟨i,_,rfl⟩:=z9.mp q;obtain⟨j,_,rfl⟩:=z9.mp u;rw[ZGy];rfl
@[simp]theorem ZL8:bels m (ws.map (Eb rs))=u9:=Dw λ_ _=>by simp[Eb]
theorem ZRd(L:rs.length<=40)(G:DH):U8 [.fl (rs.map Row.enc)] G=.ok (.ref G.length) (G++[.lst (Av (ord rs))]):=by
 have C:∀j,Dh 0 (.fl (rs.map Row.enc)) j G=u7 ((zZ rs.length).map λ(k:Nat)=>D.tup [.int (k:Int),Ky rs k])[j]? :=λj=>by
  rw[Vo,Df,ZD1,List.zipIdx_map,jz]
  congr 2
  refine qM (by simp) λi A K=>by simp
 let F:D->Option D:=λd=>match d with
  |.tup [.int k,.tup [_,_,_,.int r]]=>zT [.int r,.int k]
  |_=>u8
 have E:Cm (Dh 0 (.fl (rs.map Row.enc))) (Aj 2 (Ab (gV 0) (Ab (gV 1) Al))) Bc Ze (Ax 2 [] [zF (rs.map Row.enc),u8]) rs.length 0 G=.ok (Fj rs) G:=by
  rw[Um (F:=F) C (λx w=>?_) (by simp)]
  .congr 1
   rw[qW];show(zZ rs.length).filterMap (λi=>u7 (Eb rs i))=_;rw[q8]
   rfl
  obtain⟨i,_,rfl⟩:=z9.mp w;refine⟨[zI i,u7 (Ky rs i)],by simp[Ax],.inr ⟨rfl,Eb rs i,?_,rfl⟩⟩;unfold Ze;simp[Ky,Eb,Ah]
 let B:D->Option D:=λd=>match d with
  |.tup [_,k]=>u7 k
  |_=>u8
 have u:∀S,Cg (Aj 2 (Ab (gV 0) (Ab (gV 1) Al))) Bc ZAS (Ax 2 [] S) ((ord rs).map (Eb rs)) G=.ok (Av (ord rs)) G:=λS=>by
  rw[Vs (F:=B) (λx w=>?_)]
  .congr 1
   rw[qW];show(ord rs).filterMap (λ(i:Nat)=>zI (i:Int))=_;rw[q8]
   rfl
  obtain⟨i,_,rfl⟩:=z9.mp w;refine⟨[zI (col Row.rank rs i),zI i],by simp[Ax,Eb],.inr ⟨rfl,.int i,?_,rfl⟩⟩;unfold ZAS;simp
 have q:(Fj rs).length=rs.length:=by simp[Fj]
 have y:rs.length<=1000000:=by lia
 have I:∀G,Nm [.fl (Fj rs)] G=.ok (.ref G.length) (G++[.lst ((ord rs).map (Eb rs))]):=λG=>by have A:Fy (.fl (Fj rs)) G=u7 (Fj rs):=rfl;simp[Nm,A];rw[if_pos ⟨⟨by rw[q];lia,by rw[ZFg];simp[ZDc];lia⟩,ZQl rs⟩,ZFg]
 have z:bels G.length (Fj rs)=u9:=ZL8;have J:=ZDc rs;unfold U8 ZCI;rw[Ag];simp[E,Af,q,y,Cz,z,I,u,by omega,Ds]
def wmin(P:Nat->Int):List Nat->Int
 |[]=>0
 |k::r=>(r.map P).foldl min (P k)
theorem ZLI{b:Nat}(h:b∈ws):wmin P ws<=P b:=by
 cases ws with
 |nil=>cases h
 |cons k r=>
  obtain⟨u,q,_⟩:=Uv (r.map P) (P k);rcases zj.mp h with rfl|h
  .exact u
  exact q _ (z9.mpr ⟨b,h,rfl⟩)
theorem ZRl(h:ws≠[]):∃b∈ws,wmin P ws=P b:=by
 cases ws with
 |nil=>exact absurd rfl h
 |cons k r=>
  obtain⟨_,_,q⟩:=Uv (r.map P) (P k);rcases q with q|q
  .exact⟨k,zW,q⟩
  obtain⟨b,u,e⟩:=z9.mp q;exact⟨b,zX _ u,e.symm⟩
def Hq(P:Nat->Int)(ws:List Nat)(t:Int):Nat->Int:=λi=>if i∈ws then P i-t else P i
def V4(P:Nat->Int)(t:Int)(ws:List Nat):Nat->Int:=ws.foldl (λP b=>fset P b (P b-t)) P
theorem ZBR:∀{ws:List Nat}{P:Nat->Int},ws.Nodup->V4 P t ws=Hq P ws t
 |[],P,_=>by funext i;simp[V4,Hq]
 |b::ws,P,h=>by
  obtain⟨u,q⟩:=qR.mp h;show V4 (fset P b (P b-t)) t ws=_;rw[ZBR q];funext i;by_cases e:i=b
  .subst e;simp[Hq,fset,u]
  simp[Hq,fset,e]
theorem ZDN(u:Reach rs):∀(m k:Nat),rs.length<=m+k->k<rs.length->∀b∈way rs k,k<=b/\b<rs.length
 |0,k,h,hk,b,q=>by lia
 | m+1,k,h,hk,b,q=>by
  rw[Ig u]at q;rcases zj.mp q with rfl|q
  .lia
  cases w:Bo rs k with
  |none=>rw[w]at q;cases q
  |some d=>
   have:=Hf u w;rw[w]at q;have:=ZDN u m d (by lia) (by lia) b q;lia
theorem V1(q:Reach rs){k b:Nat}(hk:k<rs.length)(u:b∈way rs k):k<=b/\b<rs.length:=ZDN q rs.length k (by lia) hk b u
theorem ZEK(q:Reach rs):∀(m k:Nat),rs.length<=m+k->(way rs k).Nodup
 |0,k,h=>by rw[Ig q,ZGR (by lia)];simp[Ip]
 | m+1,k,h=>by
  rw[Ig q];cases x:Bo rs k with
  |none=>simp[Ip]
  |some d=>
   have u:=Hf q x;refine qR.mpr ⟨λw=>?_,ZEK q m d (by lia)⟩;have:=V1 q u.2 w;lia
theorem ZKT(q:Reach rs)(k:Nat):(way rs k).Nodup:=ZEK q rs.length k (by lia)
theorem ZCb(q:Reach rs):∀(m k:Nat),rs.length<=m+k->(way rs k).length<=m+1
 |0,k,h=>by rw[Ig q,ZGR (by lia)];simp[Ip]
 | m+1,k,h=>by
  rw[Ig q];cases w:Bo rs k with
  |none=>simp[Ip]
  |some d=>
   have u:=Hf q w;have:=ZCb q m d (by lia);show(way rs d).length+1<=_;lia
def take1(rs:List Row)(P:Nat->Int)(k:Nat):Int:=min (col Row.need rs k) (wmin P (way rs k))
def srv(rs:List Row):List Nat->(Nat->Int)->(Nat->Int)->(Nat->Int)×(Nat->Int)
 |[],P,T=>(P,T)
 |k::ks,P,T=>srv rs ks (Hq P (way rs k) (take1 rs P k)) (fset T k (take1 rs P k))
def shr(rs:List Row):Nat->Int:=(srv rs (ord rs) (gath rs (col Row.water rs)) λ_=>0).2
def pD(P:Nat->Int)(ws:List Nat):List D:=ws.map λi=>D.int (P i)
@[simp]theorem ZSu:(pD P ws).length=ws.length:=by simp[pD]
@[simp]theorem ZO5:bels m (pD P ws)=u9:=Dw λ_ _=>rfl
theorem ZHG{a b c d e:Option D}:∀(ws:List Nat)(P:Nat->Int)(x:Option D),(∀b∈ws,b<rs.length)->∃u,
  Aw (gV 6) Vy (Av ws) [a,b,zR (G.length+1),c,d,zI t,x] (G++[A,.lst (tab rs.length P)])=.nx [a,b,zR (G.length+1),c,d,zI t,u] (G++[A,.lst (tab rs.length (V4 P t ws))])
 |[],P,x,h=>⟨x,rfl⟩
 |w::ws,P,x,h=>by
  obtain⟨u,z⟩:=ZHG (e:=e) ws (fset P w (P w-t)) (zI w) λb q=>h b (zX _ q)
  refine⟨u,?_⟩;have hw:=h w zW;have y:(G++[A,DO.lst (tab rs.length P)])[G.length+1]?=u7 (.lst (tab rs.length P)):=Rn _ 1;have q:Vy [a,b,zR (G.length+1),c,d,zI t,zI w] (G++[A,.lst (tab rs.length P)])=.nx [a,b,zR (G.length+1),c,d,zI t,zI w] (G++[A,.lst (tab rs.length (fset P w (P w-t)))]):=by unfold Vy;simp[U0 y (Ef hw),y,λL o=>Vt L 1 o,Hb,hw,Mv]
  show Aw _ _ (.int w::Av ws) _ _=_;rw[Bv];simp[Ce,R.Bq,qY,q,Cd];exact z
theorem ZGe(C:Reach rs)(W:rs.length<=40){G:DH}:∀(ks:List Nat)(P T:Nat->Int)(x y z w:Option D),(∀k∈ks,k<rs.length)->∃L O J N,
  Aw (gV 3) S8 (Av ks) [zF (rs.map Row.enc),zR G.length,zR (G.length+1),x,y,z,w] (G++[.lst (tab rs.length T),.lst (tab rs.length P)])=
   .nx [zF (rs.map Row.enc),zR G.length,zR (G.length+1),L,O,J,N] (G++[.lst (tab rs.length (srv rs ks P T).2),.lst (tab rs.length (srv rs ks P T).1)])
 |[],P,T,x,y,z,w,h=>⟨x,y,z,w,rfl⟩
 | k::ks,P,T,x,y,z,w,h=>by
  have hk:=h k zW;have E:∀b∈way rs k,b<rs.length:=λb M=>(V1 C hk M).2
  obtain⟨U,u⟩:=ZHG (a:=zF (rs.map Row.enc)) (b:=zR G.length) (c:=zI k) (d:=zF (Av (way rs k))) (e:=u8) (t:=take1 rs P k) (A:=.lst (tab rs.length (fset T k (take1 rs P k)))) (G:=G) (way rs k) P w E;rw[ZBR (ZKT C k)]at u;obtain⟨L,O,J,N,ih⟩:=ZGe C W ks (Hq P (way rs k) (take1 rs P k)) (fset T k (take1 rs P k)) (zI k) (zF (Av (way rs k))) (zI (take1 rs P k)) U λj Y=>h j (zX _ Y)
  refine⟨L,O,J,N,?_⟩;have B:Cg (gV 0) Bc ZA5 (Ax 1 [2] [zF (rs.map Row.enc),zR G.length,zR (G.length+1),zI k,zF (Av (way rs k)),z,w]) (Av (way rs k)) (G++[DO.lst (tab rs.length T),DO.lst (tab rs.length P)])=.ok (pD P (way rs k)) (G++[DO.lst (tab rs.length T),DO.lst (tab rs.length P)]):=by
   rw[Vs (F:=λd=>match d with | .int i=>zI (P i.toNat)|_=>u8) (λq X=>?_)]
   .congr 1
    unfold Av;rw[qW];show(way rs k).filterMap (λ(i:Nat)=>zI (P ((i:Int).toNat)))=_;rw[q8];simp[pD]
   obtain⟨i,Z,rfl⟩:=z9.mp X;refine⟨[zI i,zR (G.length+1)],by simp[Ax],.inr ⟨rfl,.int (P i),?_,by simp⟩⟩;unfold ZA5;simp[Rn _ 1,Ef (E i Z)]
  have Q:(way rs k).length<=1000000:=by have h1:=ZCb C rs.length k (by lia);lia
  have I:∀G,Gy [.fl (pD P (way rs k))] G=.ok (.int (wmin P (way rs k))) G:=λG=>by rw[Ig C];exact ZFo (by simp[pD])
  have M:S8 [zF (rs.map Row.enc),zR G.length,zR (G.length+1),zI k,y,z,w] (G++[.lst (tab rs.length T),.lst (tab rs.length P)])=
    .nx [zF (rs.map Row.enc),zR G.length,zR (G.length+1),zI k,zF (Av (way rs k)),zI (take1 rs P k),U] (G++[.lst (tab rs.length (fset T k (take1 rs P k))),.lst (tab rs.length (Hq P (way rs k) (take1 rs P k)))]):=by
   unfold S8;have K:min (col Row.need rs k) (wmin P (way rs k))=take1 rs P k:=rfl;simp[ZH3 C W hk,ZAm ZDr,Z2 hk,B,Af,Q,ZAm ZO5,I,K,Bu,Dq,Hb,hk,Mv,u]
  show Aw _ _ (.int k::Av ks) _ _=_;rw[Bv];simp[Ce,R.Bq,qY,M,Cd];exact ih
theorem ZPd(z:Reach rs)(y:rs.length<=40)(G:DH):W6 [.fl (rs.map Row.enc)] G=.ok (.ref G.length) (G++[.lst (tab rs.length (shr rs))]):=by
 have F:zV rs.length (D.int 0)=tab rs.length λ_=>0:=by unfold tab;refine qM (by simp) λi L K=>by simp
 have u:Gw (.ref G.length) (.int (rs.length:Int)) (G++[.lst [.int 0]])=.ok (.ref (G.length+1)) (G++[.lst [.int 0],.lst (tab rs.length λ_=>0)]):=by rw[ZEn (by rw[Bu];rfl) (by lia),F];simp
 have x:tidy G (.ok (.ref (G.length+1)) (G++[.lst [.int 0],.lst (tab rs.length λ_=>0)]))=.ok (.ref G.length) (G++[.lst (tab rs.length λ_=>0)]):=Z7 _ rfl Hd;have hp:O5 [.fl (rs.map Row.enc),.ref G.length] (G++[.lst (tab rs.length λ_=>0)])=.ok (.ref (G.length+1)) (G++[.lst (tab rs.length λ_=>0),.lst (tab rs.length (gath rs (col Row.water rs)))]):=by rw[ZFG z y (ZLs (by rw[Bu];rfl))];simp
 obtain⟨I,E,C,J,B⟩:=ZGe z y (ord rs) (gath rs (col Row.water rs)) (λ_=>0) u8 u8 u8 u8 λk hk=>ZCs hk
 have q:∀A,tidy G (.ok (.ref G.length) (G++[.lst (tab rs.length (shr rs)),A]))=.ok (.ref G.length) (G++[.lst (tab rs.length (shr rs))]):=λA=>Ds Hd
 have w:Aw (gV 3) S8 (Av (ord rs)) [zF (rs.map Row.enc),zR G.length,zR (G.length+1),u8,u8,u8,u8] (G++[.lst (tab rs.length λ_=>0),.lst (tab rs.length (gath rs (col Row.water rs)))])=
   .nx [zF (rs.map Row.enc),zR G.length,zR (G.length+1),I,E,C,J] (G++[.lst (tab rs.length (shr rs)),.lst (tab rs.length (srv rs (ord rs) (gath rs (col Row.water rs)) λ_=>0).1)]):=B
 unfold W6 ZEa;rw[Ag];simp[Af,u,x,hp,W0 Hd,ZRd y,ZAm ZDr,w,q]
def ind(t:Int)(ws:List Nat):Nat->Int:=λi=>if i∈ws then t else 0
theorem ZAK(u:Reach rs){k:Nat}:∀(m j:Nat)(A:Nat->Int),k<j->gat rs m j (λi=>A i+ind t [k] i)=λi=>gat rs m j A i+ind t [k] i
 |0,j,A,h=>rfl
 | m+1,j,A,h=>by
  unfold gat;have e:gstep (λi=>A i+ind t [k] i) j (Bo rs j)=λi=>gstep A j (Bo rs j) i+ind t [k] i:=by
   cases y:Bo rs j with
   |none=>rfl
   |some d=>
    have:=Hf u y;funext i;simp only[gstep,fset,ind,jX];have x:j≠k:=by lia
    have w:d≠k:=by lia
    by_cases q:i=d
    .subst q;simp[x,w]
    simp[q]
  rw[e,ZAK u m (j+1) _ (by lia)]
theorem ZA3(u:Reach rs):∀(m j k:Nat)(A:Nat->Int),j+m=rs.length->j<=k->k<rs.length->gat rs m j (λi=>A i+ind t [k] i)=λi=>gat rs m j A i+ind t (way rs k) i
 |0,j,k,A,h,F,B=>by lia
 | m + 1,j,k,A,h,F,B=>by
  unfold gat;by_cases I:j<k
  .have e:gstep (λi=>A i+ind t [k] i) j (Bo rs j)=λi=>gstep A j (Bo rs j) i+ind t [k] i:=by
    cases x:Bo rs j with
    |none=>rfl
    |some d=>
     funext i;simp[gstep,fset,ind,jX];have y:j≠k:=by lia
     by_cases q:i=d
     .subst q;simp[y];split <;> lia
     simp[q]
   rw[e,ZA3 u m (j+1) k _ (by lia) (by lia) B]
  have E:j=k:=by lia
  subst E;cases x:Bo rs j with
  |none=>
   have hw:way rs j=[j]:=by rw[Ig u,x];rfl
   show gat rs m (j+1) (λi=>A i+ind t [j] i)=_;rw[ZAK u m (j+1) A (by lia),hw]
   rfl
  | some d=>
   have w:=Hf u x;have hw:way rs j=j::way rs d:=by rw[Ig u,x];rfl
   have e:gstep (λi=>A i+ind t [j] i) j (u7 d)=λi=>(gstep A j (u7 d) i+ind t [d] i)+ind t [j] i:=by
    funext i;simp[gstep,fset,ind,jX];have y:d≠j:=by lia
    by_cases q:i=d
    .subst q;simp[y];lia
    simp[q]
   rw[e,ZAK u m (j+1) _ (by lia),ZA3 u m (j+1) d _ (by lia) (by lia) w.2];funext i;have z:j∉way rs d:=λC=>by have:=V1 u w.2 C;lia
   simp[ind,hw,zj,jX];by_cases q:i=j
   .subst q;simp[z]
   simp[q]
theorem ZMw(u:Reach rs){W:Nat->Int}{k:Nat}(hk:k<rs.length)(w:T k=0):gath rs (λi=>W i-fset T k t i)=Hq (gath rs λi=>W i-T i) (way rs k) t:=by
 have e:(λi=>W i-fset T k t i)=λi=>(W i-T i)+ind (-t) [k] i:=by
  funext i;simp[fset,ind,jX];by_cases q:i=k
  .subst q;simp[w];lia
  simp[q]
 rw[e];show gat rs rs.length 0 _=_;rw[ZA3 u rs.length 0 k _ (by lia) (by lia) hk];funext i;simp[ind,Hq,gath]
 split <;> lia
theorem ZEl:∀(m k:Nat)(F:Nat->Int),(∀i,0<=F i)->∀i,0<=gat rs m k F i
 |0,k,F,h,i=>h i
 | m+1,k,F,h,i=>by
  refine ZEl m (k+1) _ (λj=>?_) i;cases Bo rs k with
  |none=>exact h j
  |some d=>
   simp[gstep,fset];have:=h d;have:=h k;have:=h j
   split <;> lia
structure SI (rs:List Row) (P T:Nat->Int):Prop where
 pg:P=gath rs λi=>col Row.water rs i-T i
 t0:∀i,0<=T i
 tn:∀i,T i<=col Row.need rs i
 p0:∀i,i<rs.length->0<=P i
theorem ZLh(h:∀b∈ws,0<=P b):0<=wmin P ws:=by
 cases ws with
 |nil=>exact jJ _
 |cons k r=>
  obtain⟨b,q,e⟩:=ZRl (ws:=k::r) (by simp);rw[e];exact h b q
theorem SI.take(u:Reach rs)(s:SI rs P T){k:Nat}(hk:k<rs.length):0<=take1 rs P k/\take1 rs P k<=col Row.need rs k/\∀b∈way rs k,take1 rs P k<=P b:=by
 have x:=ZLh λb q=>s.p0 b (V1 u hk q).2
 have w:=u.need k;unfold take1;refine⟨by lia,by lia,λb q=>?_⟩;have:=ZLI (P:=P) q;lia
theorem SI.step(q:Reach rs)(s:SI rs P T){k:Nat}(hk:k<rs.length)(w:T k=0):SI rs (Hq P (way rs k) (take1 rs P k)) (fset T k (take1 rs P k)):=by
 obtain⟨a,b,c⟩:=s.take q hk;refine⟨?_,λi=>?_,λi=>?_,λi x=>?_⟩
 .rw[ZMw q hk w,<-s.pg]
 .simp[fset];split
  .exact a
  exact s.t0 i
 .simp[fset];split
  .rename_i e;rw[e];exact b
  exact s.tn i
 simp[Hq];split
 .rename_i u;have:=c i u;lia
 exact s.p0 i x
theorem SI.run(w:Reach rs):∀(ks:List Nat)(P T:Nat->Int),SI rs P T->ks.Nodup->(∀k∈ks,k<rs.length/\T k=0)->SI rs (srv rs ks P T).1 (srv rs ks P T).2
 |[],P,T,s,_,_=>s
 |k::ks,P,T,s,B,h=>by
  obtain⟨z,y⟩:=qR.mp B;obtain⟨hk,A⟩:=h k zW;refine SI.run w ks _ _ (s.step w hk A) y λj x=>?_
  obtain⟨u,q⟩:=h j (zX _ x);have:j≠k:=λe=>z (e▸x)
  exact⟨u,by simp[fset,this,q]⟩
theorem ZMy(rs:List Row):(ord rs).Nodup:=(Xl rs).nodup_iff.mpr List.nodup_range
theorem SI.first(q:Reach rs):SI rs (gath rs (col Row.water rs)) λ_=>0:=
 ⟨by simp,λ_=>jJ _,q.need,λi _=>ZEl _ _ _ q.water i⟩
theorem ZRx(q:Reach rs):SI rs (srv rs (ord rs) (gath rs (col Row.water rs)) λ_=>0).1 (shr rs):=
 SI.run q (ord rs) _ _ (SI.first q) (ZMy rs) λk hk=>⟨ZCs hk,rfl⟩
theorem rp:¬(("pump":Str)="river"):=by decide
theorem pr:¬(("river":Str)="pump"):=by decide
structure Stp where
 h:Int
 m:Int
 r:Bool
variable{st:List Stp}
def wy(r:Bool):Str:=if r then "river" else "pump"
def Stp.enc(s:Stp):D:=.tup [.int s.h,.int s.m,.str (wy s.r)]
@[simp]theorem ZSn{n:Nat}:bels n (st.map Stp.enc)=u9:=Dw λs _=>by simp[Stp.enc]
@[simp]theorem ZSf{r:Bool}:(wy r="river")=(r=u9):=by
 cases r
 .exact propext ⟨λh=>absurd h rp,λh=>by cases h⟩
 exact propext ⟨λh=>rfl,λ_=>rfl⟩
@[simp]theorem ZSd{r:Bool}:(wy r="pump")=(r=uA):=by
 cases r
 .exact propext ⟨λh=>rfl,λ_=>rfl⟩
 exact propext ⟨λh=>absurd h pr,λh=>by cases h⟩
abbrev Ssn:=Int×List Stp
def Bk(s:Ssn):D:=.tup [.int s.1,.tup (s.2.map Stp.enc)]
@[simp]theorem ZSO{n:Nat}{ss:List Ssn}:bels n (ss.map Bk)=u9:=Dw λs _=>by simp[Bk]
def held(t:Int):List Ssn->List Stp->List Stp
 |[],h=>h
 |s::r,h=>held t r (if s.1<=t then s.2 else h)
theorem ZFZ{c:D}:∀{ss:List Ssn}{h:List Stp}{a b:Option D},∃q u,Aw (Aj 2 (Ab (gV 3) (Ab (gV 4) Al))) Tt (ss.map Bk) [u7 c,zI t,zT (h.map Stp.enc),a,b] G=
  .nx [u7 c,zI t,zT ((held t ss h).map Stp.enc),q,u] G
 |[],h,a,b=>⟨a,b,by rw[jF,Cr];rfl⟩
 | s::r,h,a,b=>by
  obtain⟨q,u,y⟩:=ZFZ;refine⟨q,u,?_⟩;have w:Tt [u7 c,zI t,zT (h.map Stp.enc),zI s.1,zT (s.2.map Stp.enc)] G=.nx [u7 c,zI t,zT ((if s.1<=t then s.2 else h).map Stp.enc),zI s.1,zT (s.2.map Stp.enc)] G:=by
   unfold Tt
   by_cases x:s.1<=t<;>simp[x]
  rw[zk,Bv];simp[Bk,Ow,Oa,Pb,Ce,R.Hm,R.Bq,qY,w,Cd,zL,qS,Nat.reduceAdd,if_true];exact y
theorem c_at{ss:List Ssn}:Th [.tup (ss.map Bk),.int t] G=.ok (.tup ((held t ss []).map Stp.enc)) G:=by obtain⟨a,b,h⟩:=ZFZ (c:=.tup (ss.map Bk)) (t:=t) (G:=G) (ss:=ss) (h:=[]) (a:=u8) (b:=u8);unfold Th ZCq;rw[Ag];simp at h;simp[h,Ar]
def cub(w:Int)(s:Stp):Int:=max 0 (min s.m (w-s.h))
def rv(w:Int):List Stp->Int
 |[]=>0
 |s::r=>(if s.r then cub w s else 0)+rv w r
def pm(w:Int):List Stp->Int
 |[]=>0
 |s::r=>(if s.r then 0 else cub w s)+pm w r
theorem ZHP{c:D}{w:Int}:∀{st:List Stp}{a b:Int}{e f g h:Option D},∃q u g' h',Aw (Aj 3 (Ab (gV 4) (Ab (gV 5) (Ab (gV 6) Al)))) T8 (st.map Stp.enc) [u7 c,zI w,zI a,zI b,e,f,g,h] G=
  .nx [u7 c,zI w,zI (a+rv w st),zI (b+pm w st),q,u,g',h'] G
 |[],a,b,e,f,g,h=>⟨e,f,g,h,by simp[Cr,rv,pm]⟩
 | s::r,a,b,e,f,g,h=>by
  obtain⟨q,u,g',h',y⟩:=ZHP;refine⟨q,u,g',h',?_⟩;have x:T8 [u7 c,zI w,zI a,zI b,zI s.h,zI s.m,zS (wy s.r),h] G=.nx [u7 c,zI w,zI (a+(if s.r then cub w s else 0)),zI (b+(if s.r then 0 else cub w s)),zI s.h,zI s.m,zS (wy s.r),zI (cub w s)] G:=by
   unfold T8 cub
   cases s.r<;>simp
  rw[zk,Bv];simp[Stp.enc,x];rw[y];simp[rv,pm,Int.add_assoc]
theorem ZGU{w:Int}:V6 [.tup (st.map Stp.enc),.int w] G=.ok (.tup [.int (rv w st),.int (pm w st),.int (w-rv w st-pm w st)]) G:=by obtain⟨e,f,g,h,q⟩:=ZHP (c:=.tup (st.map Stp.enc)) (w:=w) (G:=G) (st:=st) (a:=0) (b:=0) (e:=u8) (f:=u8) (g:=u8) (h:=u8);unfold V6 ZB8;rw[Ag];simp at q;simp[q,Ar]
inductive Kd where
 |basin (brim:Int) (rule:List Ssn) (pump:Option (Nat×Nat×Int))
 |town (need rank:Int)
 |mill (most:Int)
structure Pl where
 nm:Str
 dn:Option Nat
 dl:Nat
 kd:Kd
def Z0:Pl:=⟨"",u8,0,.mill 0⟩
structure Hs where
 yr:Int
 ps:List Pl
variable{h:Hs}
def Kd.txt:Kd->Str
 |.basin ..=>"basin"
 |.town ..=>"town"
 |.mill ..=>"mill"
def Kd.isB:Kd->Bool
 |.basin ..=>u9
 |_=>uA
def Kd.isT:Kd->Bool
 |.town ..=>u9
 |_=>uA
def Hs.pl(h:Hs)(k:Nat):Pl:=h.ps.getD k Z0
def Hs.n(h:Hs):Nat:=h.ps.length
def Hs.dnT(h:Hs):Option Nat->Str
 |none=>"sea"
 |some d=>(h.pl d).nm
def Hs.Lh(h:Hs):Option (Nat×Nat×Int)->D
 |none=>.non
 |some (to,dl,m)=>.tup [.str (h.pl to).nm,.int dl,.int m]
noncomputable def Hs.encP(h:Hs)(p:Pl):D:=match p.kd with
 |.basin b r q=>.tup [.str "basin",.str p.nm,.str (h.dnT p.dn),.int p.dl,.int b,.tup (r.map Bk),h.Lh q]
 |.town a b=>.tup [.str "town",.str p.nm,.str (h.dnT p.dn),.int p.dl,.int a,.int b]
 |.mill a=>.tup [.str "mill",.str p.nm,.str (h.dnT p.dn),.int p.dl,.int a]
def Hs.Bs(h:Hs):List D:=h.ps.map h.encP
def Hs.enc(h:Hs):D:=.tup [.int h.yr,.tup h.Bs]
def Good:Int->List Stp->Prop
 |_,[]=>True
 |t,s::r=>t<=s.h/\1<=s.m/\Good (s.h+s.m) r
structure GoodH (h:Hs):Prop where
 yr:0<h.yr
 len:h.n<=12
 inj:∀i j,i<h.n->j<h.n->(h.pl i).nm=(h.pl j).nm->i=j
 sea:∀i,i<h.n->(h.pl i).nm≠"sea"
 dn:∀k d,k<h.n->(h.pl k).dn=u7 d->k<d/\d<h.n
 dl:∀k,k<h.n->(h.pl k).dl<=5
 pump:∀k b r to dl m,k<h.n->(h.pl k).kd=.basin b r (u7 (to,dl,m))->to<h.n/\1<=dl/\dl<=5
 brim:∀k b r q,k<h.n->(h.pl k).kd=.basin b r q->0<=b/\∀s∈r,Good 0 s.2
 town:∀k a b,k<h.n->(h.pl k).kd=.town a b->0<=a/\0<=b
theorem Hs.Eh:h.Bs.length=h.n:=by simp[Hs.Bs,Hs.n]
theorem Hs.ZBZ{k:Nat}(hk:k<h.n):h.Bs[k]?=u7 (h.encP (h.pl k)):=by unfold Hs.Bs Hs.pl;rw[zw,zJ hk];simp[zA,zJ hk]
theorem Hs.De{k:Nat}(hk:k<h.n):atI h.Bs (k:Int)=u7 (h.encP (h.pl k)):=Dj rfl (Hs.ZBZ hk)
theorem Hs.ZLj{n:Nat}{q:Option (Nat×Nat×Int)}:bel n (h.Lh q)=u9:=by
 cases q with
 |none=>rfl
 |some x=>obtain⟨a,b,c⟩:=x;simp[Hs.Lh]
@[simp]theorem Hs.ZML{n:Nat}{p:Pl}:bel n (h.encP p)=u9:=by
 unfold Hs.encP
 cases p.kd<;>simp[Hs.ZLj]
@[simp]theorem Hs.ZSi{n:Nat}:bels n h.Bs=u9:=Dw λ_ _=>Hs.ZML
section
variable{h:Hs}{p:Pl}{G:DH}
@[simp]theorem encP0:Bj (h.encP p) (.int 0) G=.ok (.str p.kd.txt) G:=by
 unfold Hs.encP
 cases p.kd<;>simp[Kd.txt]
@[simp]theorem encP1:Bj (h.encP p) (.int 1) G=.ok (.str p.nm) G:=by
 unfold Hs.encP
 cases p.kd<;>simp
@[simp]theorem encP2:Bj (h.encP p) (.int 2) G=.ok (.str (h.dnT p.dn)) G:=by
 unfold Hs.encP
 cases p.kd<;>simp
@[simp]theorem encP3:Bj (h.encP p) (.int 3) G=.ok (.int p.dl) G:=by
 unfold Hs.encP
 cases p.kd<;>simp
theorem Bp:Bj h.enc (.int 1) G=.ok (.tup h.Bs) G:=by unfold Hs.enc;simp
theorem Mz:Bj h.enc (.int 0) G=.ok (.int h.yr) G:=by unfold Hs.enc;simp
theorem Hv{k:Kd}:(k.txt="basin")=(k.isB=u9):=by cases k<;>simp[Kd.txt,Kd.isB]<;>decide
theorem Vg{k:Kd}:(k.txt="town")=(k.isT=u9):=by cases k<;>simp[Kd.txt,Kd.isT]<;>decide
end
theorem ZEj(g:GoodH h)(w:d<h.n):∀(m k:Nat)(a b:Option D),k+m=d->
  Aw (Aj 2 (Ab (gV 2) (Ab (gV 3) Al))) Ol ((Df h.Bs).drop k) [u7 h.enc,zS (h.pl d).nm,a,b] G=.rt (.int d) G
 | m,k,a,b,e=>by
  have hk:k<h.n:=by lia
  have x:(Df h.Bs).drop k=.tup [.int k,h.encP (h.pl k)]::(Df h.Bs).drop (k+1):=by rw[zO (by rw[Jy,Hs.Eh];exact hk)];have:=Hs.ZBZ hk;rw[zJ (Hs.Eh▸hk)]at this;simp[Df,Option.some.inj this]
  rw[x,Bv];cases m with
  |zero=>
   have y:k=d:=by lia
   subst y;have u:Ol [u7 h.enc,zS (h.pl k).nm,zI k,u7 (h.encP (h.pl k))] G=.rt (.int k) G:=by unfold Ol;simp
   simp[u]
  |succ m=>
   have q:(h.pl k).nm≠(h.pl d).nm:=λz=>by have:=g.inj k d hk w z;lia
   have u:Ol [u7 h.enc,zS (h.pl d).nm,zI k,u7 (h.encP (h.pl k))] G=.nx [u7 h.enc,zS (h.pl d).nm,zI k,u7 (h.encP (h.pl k))] G:=by unfold Ol;simp[q]
   simp[u];exact ZEj g w m (k+1) _ _ (by lia)
theorem ZDT(g:GoodH h)(u:d<h.n)(G:DH):Qy [h.enc,.str (h.pl d).nm] G=.ok (.int d) G:=by have q:=ZEj g u (G:=G) d 0 u8 u8 (by lia);rw[xk]at q;unfold Qy ZCc;rw[Ag];simp[Bp,Fb,Js,lenOf,q,Ar]
def Hs.dn(h:Hs)(k:Nat):Option Nat:=(h.pl k).dn
theorem Lg(g:GoodH h){k:Nat}(hk:k<h.n)(G:DH):R3 [h.enc,.int k] G=.ok (dnD (h.dn k)) G:=by
 unfold R3 ZFH;rw[Ag];cases u:h.dn k with
 |none=>
  have e:(h.pl k).dn=u8:=u;simp[Bp,Hs.De hk,e,Hs.dnT,dnD,Ar]
 |some d=>
  have e:(h.pl k).dn=u7 d:=u;have q:=g.dn k d hk e;simp[Bp,Hs.De hk,e,Hs.dnT,g.sea d q.2,ZDT g q.2,dnD,Ar]
noncomputable def Hs.dir(h:Hs)(k:Nat):Option Nat:=match h.dn k with
 |none=>u8
 |some d=>if 0<(h.pl k).dl\/(h.pl k).kd.isB=u9\/(h.pl d).kd.isB=u9 then u8 else u7 d
theorem O8(g:GoodH h){k:Nat}(hk:k<h.n)(G:DH):Sg [h.enc,.int k] G=.ok (dnD (h.dir k)) G:=by
 unfold Sg ZGT;rw[Ag];cases q:h.dn k with
 |none=>simp[Bp,Lg g hk,q,Hs.dir,dnD,Ar]
 | some d=>
  have y:=g.dn k d hk q;by_cases u:0<(h.pl k).dl
  .simp[Bp,Lg g hk,q,Hs.dir,dnD,Ar,Hs.De hk,u]
  by_cases w:(h.pl k).kd.isB=u9
  .simp[Bp,Lg g hk,q,Hs.dir,dnD,Ar,Hs.De hk,u,Hv,w]
  .by_cases x:(h.pl d).kd.isB=u9
   .simp[Bp,Lg g hk,q,Hs.dir,dnD,Ar,Hs.De hk,Hs.De y.2,u,Hv,w,x]
   simp[Bp,Lg g hk,q,Hs.dir,dnD,Ar,Hs.De hk,Hs.De y.2,u,Hv,w,x]
theorem ZK1(g:GoodH h){k:Nat}(hk:k<h.n)(e:h.dir k=u7 d):k<d/\d<h.n:=by
 unfold Hs.dir at e;cases q:h.dn k with
 |none=>rw[q]at e;cases e
 |some u=>
  rw[q]at e;simp only at e;split at e
  .cases e
  cases e;exact g.dn k d hk q
theorem ZH5{k:Nat}(hk:¬k<h.n):h.pl k=Z0:=by
 unfold Hs.pl;rw[zA,z7 (by unfold Hs.n at hk;lia)]
 rfl
theorem Ov{k:Nat}(hk:¬k<h.n):h.dir k=u8:=by
 have e:h.dn k=u8:=by unfold Hs.dn;rw[ZH5 hk];rfl
 unfold Hs.dir;rw[e]
theorem Mh(g:GoodH h){k:Nat}(e:h.dir k=u7 d):k<d/\d<h.n/\k<h.n:=by
 by_cases hk:k<h.n
 .have:=ZK1 g hk e;lia
 rw[Ov hk]at e;cases e
def Hs.Ih(h:Hs):Nat->Nat->Nat
 |0,k=>k
 |m+1,k=>match h.dir k with
  |none=>k
  |some d=>h.Ih m d
def Hs.last(h:Hs)(k:Nat):Nat:=h.Ih h.n k
theorem ZAC(g:GoodH h):∀(m m' k:Nat),h.n<=m+k->h.n<=m'+k->h.Ih m k=h.Ih m' k
 |0,m',k,e,w=>by
  have q:h.dir k=u8:=Ov (by lia);cases m' with
  |zero=>rfl
  |succ m'=>simp[Hs.Ih,q]
 |m+1,0,k,e,w=>by have q:h.dir k=u8:=Ov (by lia);simp[Hs.Ih,q]
 | m+1,m'+1,k,e,w=>by
  cases u:h.dir k with
  |none=>simp[Hs.Ih,u]
  |some d=>
   have:=Mh g u;simp[Hs.Ih,u,ZAC g m m' d (by lia) (by lia)]
theorem Ks(g:GoodH h){k:Nat}(e:h.dir k=u8):h.last k=k:=by unfold Hs.last;rw[ZAC g h.n (h.n+1) k (by lia) (by lia)];simp[Hs.Ih,e]
theorem Nq(g:GoodH h){k:Nat}(e:h.dir k=u7 d):h.last k=h.last d:=by unfold Hs.last;rw[ZAC g h.n (h.n+1) k (by lia) (by lia)];simp[Hs.Ih,e]
theorem ZGt(g:GoodH h):∀(m k:Nat),h.n<=m+k->k<=h.last k/\(k<h.n->h.last k<h.n)
 |0,k,e=>by rw[Ks g (Ov (by lia))];lia
 | m+1,k,e=>by
  cases q:h.dir k with
  |none=>rw[Ks g q];lia
  |some d=>
   have:=Mh g q;rw[Nq g q];have:=ZGt g m d (by lia);lia
theorem ZC1(g:GoodH h)(k:Nat):k<=h.last k/\(k<h.n->h.last k<h.n):=ZGt g h.n k (by lia)
def Hs.Fq(h:Hs)(j:Nat):Nat->Int:=λi=>if j<=i then h.last i else i
theorem ZCV(g:GoodH h){G:DH}:∀(j:Nat)(x y:Option D),j<=h.n->∃B A,
  Aw (gV 2) Tz (Jo ((j:Int)-1) j) [u7 h.enc,zR G.length,x,y] (G++[.lst (tab h.n (h.Fq j))])=.nx [u7 h.enc,zR G.length,B,A] (G++[.lst (tab h.n (h.Fq 0))])
 |0,x,y,e=>⟨x,y,by rw[ZNy,Cr]⟩
 | j + 1,x,y,e=>by
  have C:j<h.n:=by lia
  obtain⟨B,A,K⟩:=ZCV g (G:=G) j (zI j) (u7 (dnD (h.dir j))) (by lia);refine⟨B,A,?_⟩;have J:(((j+1:Nat):Int)-1)=j:=by lia
  have I:Tz [u7 h.enc,zR G.length,zI j,y] (G++[.lst (tab h.n (h.Fq (j+1)))])=.nx [u7 h.enc,zR G.length,zI j,u7 (dnD (h.dir j))] (G++[.lst (tab h.n (h.Fq j))]):=by
   unfold Tz;cases u:h.dir j with
   | none=>
    have z:tab h.n (h.Fq (j+1))=tab h.n (h.Fq j):=ZDF λi E=>by
     unfold Hs.Fq;by_cases w:i=j
     .subst w;rw[Ks g u];simp
     by_cases q:j<=i
     .rw[if_pos q,if_pos (by lia)]
     rw[if_neg q,if_neg (by lia)]
    simp[O8 g C,u,dnD,z]
   | some d=>
    have F:=Mh g u;have z:tab h.n (fset (h.Fq (j+1)) j (h.Fq (j+1) d))=tab h.n (h.Fq j):=ZDF λi E=>by
     unfold Hs.Fq fset;by_cases w:i=j
     .subst w;rw[if_pos rfl,if_pos (by lia),if_pos (by lia),Nq g u]
     rw[if_neg w];dsimp only;by_cases q:j<=i
     .rw[if_pos q,if_pos (by lia)]
     rw[if_neg q,if_neg (by lia)]
    simp[O8 g C,u,dnD,Bu,Ef F.2.1,Dq,Hb,C,Mv,z]
  rw[J,ZO1,Bv];simp[Ce,R.Bq,qY,I,Cd];exact K
theorem ZH6(g:GoodH h)(G:DH):Tn [h.enc] G=.ok (.ref G.length) (G++[.lst (tab h.n λi=>(h.last i:Int))]):=by
 obtain⟨I,F,u⟩:=ZCV g (G:=G) h.n u8 u8 (zY _);have x:tab h.n (h.Fq h.n)=Bh 0 h.n:=by
  unfold tab Bh;refine qB λi y=>?_
  have:=qw.mp y;unfold Hs.Fq;rw[if_neg (by lia)];simp
 have B:h.Fq 0=λi=>(h.last i:Int):=by funext i;unfold Hs.Fq;simp
 rw[x,B]at u;have E:=g.len;have A:inR (h.n:Int):=Ek (by lia) (by lia);have z:inR ((h.n:Int)-1):=Ek (by lia) (by lia);have C:inR (-1):=Ek (by lia) (by lia);have w:(h.n:Int)<=1000000:=by lia
 have q:bels G.length (Bh 0 h.n)=u9:=Dw λ_ _=>rfl
 unfold Tn ZGJ;rw[Ag];simp[Bp,Hs.Eh,A,w,Ds q,z,C,ZQq,by omega,u,Ds]
def Hs.mem(h:Hs)(m:Nat):List Nat:=(zZ h.n).filter λk=>decide (h.last k=m)
theorem mem_iff{k:Nat}:k∈h.mem m↔k<h.n/\h.last k=m:=by unfold Hs.mem;rw[List.mem_filter,qw];simp
theorem Xp:(h.mem m).Pairwise (· < ·):=List.Pairwise.filter _ List.pairwise_lt_range
theorem ZGG:(h.mem m).length<=h.n:=by have:=List.length_filter_le (λk=>decide (h.last k=m)) (zZ h.n);simpa[Hs.mem]using this
theorem ZNW{ms:List Nat}(u:ms.Pairwise (· < ·))(w:i<ms.length)(q:j<ms.length)(h:ms[i]<ms[j]):i<j:=by
 rcases Nat.lt_trichotomy i j with z|z|z
 .exact z
 .subst z;lia
 have:=j0.mp u j i q w z;lia
theorem ZHv(g:GoodH h)(w:m<h.n)(e:h.last m=m):(h.mem m).getLast?=u7 m:=by
 have q:=mem_iff.mpr ⟨w,e⟩;have u:h.mem m≠[]:=λz=>by rw[z]at q;cases q
 rw[List.getLast?_eq_some_getLast u]
 congr 1
 have E:=mem_iff.mp (List.getLast_mem u);have A:=(ZC1 g ((h.mem m).getLast u)).1;obtain⟨i,x,C⟩:=qj q;have B:m<=(h.mem m).getLast u:=by
  rw[List.getLast_eq_getElem];by_cases y:i=(h.mem m).length-1
  .subst y;lia
  have:=j0.mp (Xp) i ((h.mem m).length-1) x (by lia) (by lia);lia
 lia
def Hs.need(h:Hs)(k:Nat):Int:=match(h.pl k).kd with
 |.town a _=>a
 |_=>0
def Hs.rank(h:Hs)(k:Nat):Int:=match(h.pl k).kd with
 |.town _ b=>b
 |_=>0
def Hs.row(h:Hs)(ms:List Nat)(ca:Nat->Int)(k:Nat):Row:=⟨(h.dir k).map λd=>ms.idxOf d,ca k,h.need k,h.rank k⟩
def Hs.rows(h:Hs)(ms:List Nat)(ca:Nat->Int):List Row:=ms.map (h.row ms ca)
theorem idx_map(d:Nat):∀ms:List Nat,(ms.map λ(i:Nat)=>(i:Int)).idxOf (d:Int)=ms.idxOf d
 |[]=>rfl
 |m::ms=>by
  rw[zk,List.idxOf_cons,List.idxOf_cons,idx_map d ms];by_cases e:m=d
  .subst e;simp
  have u:¬((m:Int)=d):=by lia
  have q:((m:Int)==(d:Int))=uA:=by simp[u]
  have w:(m==d)=uA:=by simp[e]
  rw[q,w]
theorem ZD4(g:GoodH h){ms:List Nat}(U:∀k∈ms,k<h.n/\∀d,h.dir k=u7 d->d∈ms)(Y:ms.length<=40){p:Nat}(hp:G[p]?=u7 (.lst (tab h.n ca))):∀(ks:List Nat)(acc:List Row)(x1 I B E:Option D),(∀k∈ks,k∈ms)->acc.length+ks.length<=40->∃O M Q N,
  Aw (gV 4) Rj (Av ks) [u7 h.enc,zF (Av ms),zR p,zR G.length,x1,I,B,E] (G++[.lst (acc.map Row.enc)])=
   .nx [u7 h.enc,zF (Av ms),zR p,zR G.length,O,M,Q,N] (G++[.lst ((acc++ks.map (h.row ms ca)).map Row.enc)])
 |[],acc,x1,I,B,E,_,_=>⟨x1,I,B,E,by simp[Av,Cr]⟩
 | k::ks,acc,x1,I,B,E,hk,T=>by
  obtain⟨q,P⟩:=U k (hk k zW);obtain⟨O,M,Q,N,ih⟩:=ZD4 g U Y hp ks (acc++[h.row ms ca k]) (zI k) (u7 (h.encP (h.pl k))) (u7 (dnD (h.dir k))) (u7 (dnD ((h.dir k).map λd=>ms.idxOf d))) (λj hj=>hk j (zX _ hj)) (by simp at T⊢;lia);refine⟨O,M,Q,N,?_⟩;have y:∀L:DH,(G++L)[p]?=u7 (.lst (tab h.n ca)):=λL=>by rw[qJ ((zC.mp hp).1)];exact hp
  have x:acc.length<1000000:=by simp at T;lia
  have J:h.row ms ca k=⟨(h.dir k).map λd=>ms.idxOf d,ca k,h.need k,h.rank k⟩:=rfl;have Z:Rj [u7 h.enc,zF (Av ms),zR p,zR G.length,zI k,I,B,E] (G++[.lst (acc.map Row.enc)])=
    .nx [u7 h.enc,zF (Av ms),zR p,zR G.length,zI k,u7 (h.encP (h.pl k)),u7 (dnD (h.dir k)),u7 (dnD ((h.dir k).map λd=>ms.idxOf d))] (G++[.lst ((acc++[h.row ms ca k]).map Row.enc)]):=by
   have F:∀d,h.dir k=u7 d->∀w,Jk (.fl (Av ms)) [.int (d:Int)] w=.ok (.int (ms.idxOf d:Nat)) w:=λd z w=>by
    have e:Av ms=(ms.map λ(i:Nat)=>(i:Int)).map D.int:=by simp[Av]
    rw[e,ZFN (by simp[Fy]) (z9.mpr ⟨d,P d z,rfl⟩) (by simp;lia),idx_map]
   unfold Rj;by_cases u:(h.pl k).kd.isT=u9
   .obtain⟨a,b,K⟩:∃a b,(h.pl k).kd=.town a b:=by
     cases e:(h.pl k).kd with
     |town a b=>exact⟨a,b,rfl⟩
     |_=>rw[e]at u;cases u
    have W:∀w,Bj (h.encP (h.pl k)) (.int 4) w=.ok (.int a) w:=λw=>by unfold Hs.encP;rw[K];simp
    have X:∀w,Bj (h.encP (h.pl k)) (.int 5) w=.ok (.int b) w:=λw=>by unfold Hs.encP;rw[K];simp
    have A:h.need k=a:=by unfold Hs.need;rw[K]
    have C:h.rank k=b:=by unfold Hs.rank;rw[K]
    cases z:h.dir k with
    |none=>simp[Bp,Hs.De q,O8 g q,z,dnD,Vg,u,y,Ef q,W,X,Ah,Bu,Dq,x,J,Row.enc,A,C]
    |some d=>simp[Bp,Hs.De q,O8 g q,z,dnD,F d z,Vg,u,y,Ef q,W,X,Ah,Bu,Dq,x,J,Row.enc,A,C]
   have A:h.need k=0:=by
    unfold Hs.need;cases e:(h.pl k).kd with
    |town a b=>rw[e]at u;exact absurd rfl u
    |_=>rfl
   have C:h.rank k=0:=by
    unfold Hs.rank;cases e:(h.pl k).kd with
    |town a b=>rw[e]at u;exact absurd rfl u
    |_=>rfl
   cases z:h.dir k with
   |none=>simp[Bp,Hs.De q,O8 g q,z,dnD,Vg,u,y,Ef q,Ah,Bu,Dq,x,J,Row.enc,A,C]
   |some d=>simp[Bp,Hs.De q,O8 g q,z,dnD,F d z,Vg,u,y,Ef q,Ah,Bu,Dq,x,J,Row.enc,A,C]
  show Aw _ _ (.int k::Av ks) _ _=_;rw[Bv];simp only[Ce,R.Bq,qY,Z,Cd];rw[ih];simp
theorem ZJj(g:GoodH h){ms:List Nat}(w:∀k∈ms,k<h.n/\∀d,h.dir k=u7 d->d∈ms)(u:ms.length<=40){p:Nat}(hp:G[p]?=u7 (.lst (tab h.n ca))):
  V3 [h.enc,.fl (Av ms),.ref p] G=.ok (.ref G.length) (G++[.lst ((h.rows ms ca).map Row.enc)]):=by
 obtain⟨A,x,z,B,y⟩:=ZD4 g w u hp ms [] u8 u8 u8 u8 (λk hk=>hk) (by simpa using u);have q:Aw (gV 4) Rj (Av ms) [u7 h.enc,zF (Av ms),zR p,zR G.length,u8,u8,u8,u8] (G++[.lst []])=.nx [u7 h.enc,zF (Av ms),zR p,zR G.length,A,x,z,B] (G++[.lst ((h.rows ms ca).map Row.enc)]):=y;unfold V3 ZHc;rw[Ag];simp[Af,Ds,q]
theorem ZFv(g:GoodH h)(E:∀k,k<h.n->0<=ca k):Reach (h.rows (h.mem m) ca):=λi r z=>by
 have u:i<(h.mem m).length:=by have:=(zC.mp z).1;simpa[Hs.rows]using this
 have e:r=h.row (h.mem m) ca (h.mem m)[i]:=by unfold Hs.rows at z;rw[zw,zJ u]at z;simpa using z.symm
 obtain⟨hk,w⟩:=mem_iff.mp (qx u);subst e;refine⟨λd F=>?_,E _ hk,?_,?_⟩
 .have q:(h.dir (h.mem m)[i]).map (λd=>(h.mem m).idxOf d)=u7 d:=F;cases e:h.dir (h.mem m)[i]with
  |none=>rw[e]at q;cases q
  |some B=>
   rw[e]at q;have C:(h.mem m).idxOf B=d:=by simpa using q
   have A:=Mh g e;have y:B∈h.mem m:=mem_iff.mpr ⟨A.2.1,by rw[<-Nq g e];exact w⟩;have x:=jE y;subst C;refine⟨ZNW Xp u x (by rw[List.getElem_idxOf x];exact A.1),by simpa[Hs.rows]using x⟩
 .show 0<=h.need _;unfold Hs.need;cases e:(h.pl (h.mem m)[i]).kd with
  |town a b=>exact(g.town _ a b hk e).1
  |_=>exact jJ _
 show 0<=h.rank _;unfold Hs.rank;cases e:(h.pl (h.mem m)[i]).kd with
 |town a b=>exact(g.town _ a b hk e).2
 |_=>exact jJ _
structure Cs where
 came:Nat->Int
 coming:Nat->Nat->Int
 page:Nat->List Int
 rea:List D
variable{s:Cs}
def Im(l:List Int):D:=match l with
 |[]=>.non
 |_=>.tup (l.map D.int)
@[simp]theorem ZNe{n:Nat}{l:List Int}:bel n (Im l)=u9:=by
 cases l with
 |nil=>rfl
 |cons a l=>simp only[Im,_D.bel];exact ZD3
def cfl(ds:List D):List (Str×D):=(["house","levels","year_turn","came","coming","page","reaches"]:List Str).zip ds
noncomputable def cflds(i n:Nat)(H LV:D)(yt:Int):List (Str×D):=cfl [H,LV,.int yt,.ref (i+1),.ref (i+(2+n)),.ref (i+(3+n)),.ref (i+(4+n))]
def Bw(n:Nat)(pg:Nat->List Int):List D:=(zZ n).map λk=>Im (pg k)
def Cw(i n:Nat):List D:=(zZ n).map λk=>D.ref (i+(2+k))
def csT(i n:Nat)(H LV:D)(yt:Int)(s:Cs):DH:=.ins "Course" (cflds i n H LV yt):: .lst (tab n s.came)::((zZ n).map (λk=>DO.lst (tab 5 (s.coming k)))++[.lst (Cw i n),.lst (Bw n s.page),.lst s.rea])
def csH(G:DH)(n:Nat)(H LV:D)(yt:Int)(s:Cs):DH:=G++csT G.length n H LV yt s
theorem ZIn{n:Nat}{yt:Int}:(csT i n H LV yt s).length=n+5:=by simp[csT]
theorem ZGZ{n:Nat}{yt:Int}:(csH G n H LV yt s).length=G.length+(n+5):=by unfold csH;rw[zP,ZIn]
section
variable{G:DH}{n:Nat}{H LV:D}{yt:Int}{s:Cs}
theorem O3(j:Nat):(csH G n H LV yt s)[G.length+j]?=(csT G.length n H LV yt s)[j]? :=Rn _ j
theorem Iz:(csH G n H LV yt s)[G.length]?=u7 (.ins "Course" (cflds G.length n H LV yt)):=O3 0
theorem Qi:(csH G n H LV yt s)[G.length+1]?=u7 (.lst (tab n s.came)):=O3 1
theorem Uh:(csT i n H LV yt s)[2+j]?=((zZ n).map (λk=>DO.lst (tab 5 (s.coming k)))++[.lst (Cw i n),.lst (Bw n s.page),.lst s.rea])[j]? :=by
 have e:2+j=j+1+1:=by lia
 rw[e]
 rfl
theorem ZBC{k:Nat}(hk:k<n):(csH G n H LV yt s)[G.length+(2+k)]?=u7 (.lst (tab 5 (s.coming k))):=by
 rw[O3,Uh,qJ (by simpa using hk),zw,zH hk]
 rfl
theorem Wn:(csH G n H LV yt s)[G.length+(2+n)]?=u7 (.lst (Cw G.length n)):=by rw[O3,Uh,zG (by simp)];simp
theorem K7:(csH G n H LV yt s)[G.length+(3+n)]?=u7 (.lst (Bw n s.page)):=by
 have e:3+n=2+(n+1):=by lia
 rw[e,O3,Uh,zG (by simp)];simp
theorem csHe:(csH G n H LV yt s)[G.length+(4+n)]?=u7 (.lst s.rea):=by
 have e:4+n=2+(n+2):=by lia
 rw[e,O3,Uh,zG (by simp)];simp
theorem Wf(j:Nat)(o:DO):(csH G n H LV yt s).set (G.length+j) o=G++(csT G.length n H LV yt s).set j o:=Vt _ j o
theorem csS1:(csH G n H LV yt s).set (G.length+1) (.lst (tab n ca))=csH G n H LV yt {s with came:=ca}:=Wf 1 _
def upd2(co:Nat->Nat->Int)(k:Nat)(r:Nat->Int):Nat->Nat->Int:=λi=>if i=k then r else co i
theorem Z3{o:DO}:(csT i n H LV yt s).set (2+j) o=.ins "Course" (cflds i n H LV yt):: .lst (tab n s.came)::((zZ n).map (λk=>DO.lst (tab 5 (s.coming k)))++[DO.lst (Cw i n),DO.lst (Bw n s.page),DO.lst s.rea]).set j o:=by
 have e:2+j=j+1+1:=by lia
 rw[e]
 rfl
theorem csSr{k:Nat}(hk:k<n){r:Nat->Int}:(csH G n H LV yt s).set (G.length+(2+k)) (.lst (tab 5 r))=csH G n H LV yt {s with coming:=upd2 s.coming k r}:=by
 rw[Wf,Z3,List.set_append_left _ _ (by simpa using hk)];unfold csH csT
 congr 3
 congr 1
 refine jD λi=>?_
 by_cases u:i<n
 .by_cases e:k=i
  .subst e;rw[jx (by simpa using u),zw,zH u];simp[upd2]
  rw[qN e,zw,zH u,zw,zH u];have:i≠k:=λz=>e z.symm
  simp[upd2,this]
 rw[z7 (by simp;lia),z7 (by simp;lia)]
theorem Wg:(csH G n H LV yt s).set (G.length+(3+n)) (.lst (Bw n q))=csH G n H LV yt {s with page:=q}:=by
 have e:3+n=2+(n+1):=by lia
 rw[e,Wf,Z3,xQ _ _ (by simp)];unfold csH csT;simp
theorem csSe{q:List D}:(csH G n H LV yt s).set (G.length+(4+n)) (.lst q)=csH G n H LV yt {s with rea:=q}:=by
 have e:4+n=2+(n+2):=by lia
 rw[e,Wf,Z3,xQ _ _ (by simp)];unfold csH csT;simp
theorem Iu:I9 "Course" "house" (.ref G.length) (csH G n H LV yt s)=.ok H (csH G n H LV yt s):=Mu Iz rfl
theorem ZDm:I9 "Course" "levels" (.ref G.length) (csH G n H LV yt s)=.ok LV (csH G n H LV yt s):=Mu Iz rfl
theorem ZDg:I9 "Course" "year_turn" (.ref G.length) (csH G n H LV yt s)=.ok (.int yt) (csH G n H LV yt s):=Mu Iz rfl
theorem Vk:I9 "Course" "came" (.ref G.length) (csH G n H LV yt s)=.ok (.ref (G.length+1)) (csH G n H LV yt s):=Mu Iz rfl
theorem ZHN:I9 "Course" "coming" (.ref G.length) (csH G n H LV yt s)=.ok (.ref (G.length+(2+n))) (csH G n H LV yt s):=Mu Iz rfl
theorem Nu:I9 "Course" "page" (.ref G.length) (csH G n H LV yt s)=.ok (.ref (G.length+(3+n))) (csH G n H LV yt s):=Mu Iz rfl
theorem ZK7:I9 "Course" "reaches" (.ref G.length) (csH G n H LV yt s)=.ok (.ref (G.length+(4+n))) (csH G n H LV yt s):=Mu Iz rfl
theorem Jm{m:Str}{F:List D->DH->R D}{t:DA}(q:∀i,(cflds i n H LV yt).lookup m=u8):Wk "Course" m F t S (.ref G.length) (csH G n H LV yt s)=(t S (csH G n H LV yt s)).bind λds u=>F (.ref G.length::ds) u:=ZIi Iz (q _)
theorem ZG0:∀i,(cflds i n H LV yt).lookup ("send":Str)=u8:=λ_=>rfl
theorem Ys:∀i,(cflds i n H LV yt).lookup ("send_down":Str)=u8:=λ_=>rfl
theorem ZPr:∀i,(cflds i n H LV yt).lookup ("go_basin":Str)=u8:=λ_=>rfl
theorem ZNk:∀i,(cflds i n H LV yt).lookup ("go_reach":Str)=u8:=λ_=>rfl
theorem ZIb:∀i,(cflds i n H LV yt).lookup ("go":Str)=u8:=λ_=>rfl
theorem ZPk:∀i,(cflds i n H LV yt).lookup ("state_behind":Str)=u8:=λ_=>rfl
theorem La{s':Cs}{d:D}(q:∀m,bel m d=u9):tidy (csH G n H LV yt s) (.ok d (csH G n H LV yt s'))=.ok d (csH G n H LV yt s'):=ZKt (by rw[ZGZ,ZGZ]) (q _)
theorem ZQV{k:Nat}(hk:k<n):atI (Cw i n) (k:Int)=zR (i+(2+k)):=Dj rfl (by unfold Cw;rw[zw,zH hk];rfl)
theorem ZQw{u:Nat->List Int}{k:Nat}{l:List Int}:(Bw n u).set k (Im l)=Bw n λi=>if i=k then l else u i:=by
 unfold Bw;refine jD λi=>?_
 by_cases q:i<n
 .by_cases e:k=i
  .subst e;rw[jx (by simpa using q),zw,zH q];simp
  rw[qN e,zw,zH q,zw,zH q];have:i≠k:=λz=>e z.symm
  simp[this]
 rw[z7 (by simp;lia),z7 (by simp;lia)]
@[simp]theorem ZH0:(Bw n q).length=n:=by simp[Bw]
noncomputable def Cs.send(s:Cs)(to dl:Nat)(c:Int):Cs:=if dl=0 then{s with came:=fset s.came to (s.came to+c)}else{s with coming:=upd2 s.coming to (fset (s.coming to) (dl-1) (s.coming to (dl-1)+c))}
theorem ZDs{u:Nat}(q:u<n)(y:dl<=5):Rm [.ref G.length,.int u,.int dl,.int c] (csH G n H LV yt s)=.ok .non (csH G n H LV yt (s.send u dl c)):=by
 unfold Rm ZBY;rw[Ag];by_cases w:dl=0
 .subst w;simp[Vk,U0 Qi (Ef q),Qi,Hb,q,Mv,csS1,Cs.send,La]
 have e:((dl:Int)-1)=((dl-1:Nat):Int):=by lia
 have x:dl-1<5:=by lia
 simp[w,ZHN,Wn,ZQV q,e,U0 (ZBC q) (Ef x),ZBC q,Hb,x,Mv,csSr q,Cs.send,La]
end
def Hs.Fl(h:Hs)(s:Cs)(k:Nat)(c:Int):Cs:=match h.dn k with
 |none=>s
 |some d=>s.send d (h.pl k).dl c
section
variable{G:DH}{h:Hs}{lv:Nat->Int}{yt:Int}{s:Cs}
theorem Yo(g:GoodH h){k:Nat}(hk:k<h.n):R1 [.ref G.length,.int k,.int c] (csH G h.n h.enc LV yt s)=.ok .non (csH G h.n h.enc LV yt (h.Fl s k c)):=by
 unfold R1 ZFQ;rw[Ag];cases q:h.dn k with
 |none=>simp[Iu,Lg g hk,q,dnD,Hs.Fl,La]
 |some d=>
  simp[Iu,Lg g hk,q,dnD,Jm ZG0,Bp,Hs.De hk,ZDs (g.dn k d hk q).2 (g.dl k hk),Hs.Fl,La]
theorem Uu{n:Nat}{k:Nat}{b d e f:Int}:(Bw n q).set k (.tup [.int a,.int b,.int c,.int d,.int e,.int f])=Bw n λi=>if i=k then[a,b,c,d,e,f]else q i:=ZQw (l:=[a,b,c,d,e,f])
def Hs.basin(h:Hs)(yt:Int)(lv:Nat->Int)(s:Cs)(k:Nat):Cs:=match(h.pl k).kd with
 |.basin brim rule pump=>
  let w:=lv k+s.came k;let st:=held yt rule [];let stays:=w-rv w st-pm w st;let lies:=min stays brim;let s1:Cs:={s with page:=λi=>if i=k then[s.came k,0,stays-lies,rv w st,pm w st,lies]else s.page i};let s2:=h.Fl s1 k (rv w st+(stays-lies))
  match pump with
  |none=>s2
  |some (to,dl,_)=>s2.send to dl (pm w st)
 |_=>s
theorem ZMS(g:GoodH h){k:Nat}(hk:k<h.n)(A:(h.pl k).kd.isB=u9):Vq [.ref G.length,.int k] (csH G h.n h.enc (.tup (tab h.n lv)) yt s)=.ok .non (csH G h.n h.enc (.tup (tab h.n lv)) yt (h.basin yt lv s k)):=by
 obtain⟨x,y,w,z⟩:∃a b c,(h.pl k).kd=.basin a b c:=by
  cases e:(h.pl k).kd with
  |basin a b c=>exact⟨a,b,c,rfl⟩
  |_=>rw[e]at A;cases A
 have C:∀u,Bj (h.encP (h.pl k)) (.int 4) u=.ok (.int x) u:=λu=>by unfold Hs.encP;rw[z];simp
 have E:∀u,Bj (h.encP (h.pl k)) (.int 5) u=.ok (.tup (y.map Bk)) u:=λu=>by unfold Hs.encP;rw[z];simp
 have F:∀u,Bj (h.encP (h.pl k)) (.int 6) u=.ok (h.Lh w) u:=λu=>by unfold Hs.encP;rw[z];simp
 simp[Hs.basin,z];unfold Vq ZFX;rw[Ag];cases hp:w with
 |none=>simp[Iu,Bp,Hs.De hk,Vk,Qi,Ef hk,E,ZDg,c_at,ZDm,ZGU,C,Ah,Nu,K7,Hb,hk,Uu,Wg,Jm Ys,Yo g hk,F,hp,Hs.Lh,La]
 |some q=>
  obtain⟨I,K,J⟩:=q;have B:=g.pump k x y I K J hk (by rw[z,hp]);simp[Iu,Bp,Hs.De hk,Vk,Qi,Ef hk,E,ZDg,c_at,ZDm,ZGU,C,Ah,Nu,K7,Hb,hk,Uu,Wg,Jm Ys,Yo g hk,F,hp,Hs.Lh,Jm ZG0,ZDT g B.1,ZDs B.1 B.2.2,La]
end
noncomputable def z3(ms:List Nat)(T L:Nat->Int):List D:=(zZ ms.length).map λi=>D.tup [.int (ms.getD i 0:Nat),.int (T i),.int (L i)]
theorem ZMJ{ms:List Nat}{L:Nat->Int}(j:Nat)(G:DH):Em [.fl (Av ms),.fl (tab ms.length T),.fl (tab ms.length L)] j G=u7 (z3 ms T L)[j]? :=by
 unfold Em z3;by_cases q:j<ms.length
 .have u:(Av ms)[j]?=zI (ms.getD j 0:Nat):=by unfold Av;rw[zw,zJ q];simp[zA,zJ q]
  simp[Gj,u,Lq q,zH q]
 have u:(Av ms)[j]?=u8:=z7 (by simp;lia);have w:(zZ ms.length)[j]?=u8:=z7 (by simp;lia);simp[Gj,u,w]
def rrow(T L:Nat->Int)(i:Nat):List Int:=[T i+L i,T i,0,L i,0,0]
noncomputable def pgM(ms:List Nat)(T L:Nat->Int)(pg:Nat->List Int)(i:Nat):Nat->List Int:=λk=>if k∈ms.take i then rrow T L (ms.idxOf k)else pg k
theorem ZPa{ms:List Nat}{L:Nat->Int}:pgM ms T L q 0=q:=by funext k;simp[pgM]
theorem ZCd{ms:List Nat}(w:ms.Nodup)(u:i<ms.length)(q:j<ms.length)(e:ms[i]=ms[j]):i=j:=by
 rcases Nat.lt_trichotomy i j with z|z|z
 .exact absurd e (j0.mp w i j u q z)
 .exact z
 exact absurd e.symm (j0.mp w j i q u z)
theorem ZLP{ms:List Nat}(w:ms.Nodup)(u:i<ms.length):ms.idxOf ms[i]=i:=by have q:=jE (qx u);exact ZCd w q u (List.getElem_idxOf q)
theorem ZMY{ms:List Nat}(x:ms.Nodup){L:Nat->Int}{u:Nat->List Int}(q:i<ms.length):pgM ms T L u (i+1)=λk=>if k=ms.getD i 0 then rrow T L i else pgM ms T L u i k:=by
 have w:ms.getD i 0=ms[i]:=by simp[zA,zJ q]
 funext k;rw[w];unfold pgM;rw[List.take_succ_eq_append_getElem q];by_cases e:k=ms[i]
 .subst e;rw[if_pos rfl,if_pos (jI.mpr (.inr (jX.mpr rfl))),ZLP x q]
 rw[if_neg e];have:(k∈ms.take i++[ms[i]])↔k∈ms.take i:=by rw[jI,jX];exact⟨λh=>h.elim id λz=>absurd z e,.inl⟩
 simp only[this]
section
variable{G:DH}{h:Hs}{LV:D}{yt:Int}
theorem ZG9(g:GoodH h){ms:List Nat}(C:∀k∈ms,k<h.n)(F:ms.Nodup)(u:ms.getLast?=u7 m){L:Nat->Int}{r t:D}:∀(q i:Nat)(x y z:Option D),i+q=ms.length->0<q->∃J N I,
  Aw (Aj 3 (Ab (gV 4) (Ab (gV 5) (Ab (gV 6) Al)))) Km ((z3 ms T L).drop i) [zR G.length,zF (Av ms),u7 r,u7 t,x,y,z] (csH G h.n h.enc LV yt {s with page:=pgM ms T L s.page i})=
   .nx [zR G.length,zF (Av ms),u7 r,u7 t,J,N,I] (csH G h.n h.enc LV yt (h.Fl {s with page:=pgM ms T L s.page ms.length} m (L (ms.length-1))))
 |0,i,x,y,z,e,h0=>by lia
 | q + 1,i,x,y,z,e,h0=>by
  have E:i<ms.length:=by lia
  have M:ms.getD i 0=ms[i]:=by simp[zA,zJ E]
  have hk:ms.getD i 0<h.n:=by rw[M];exact C _ (qx E)
  have Q:(z3 ms T L).drop i=.tup [.int (ms.getD i 0:Nat),.int (T i),.int (L i)]::(z3 ms T L).drop (i+1):=by rw[zO (by simp[z3];exact E)];simp[z3]
  have B:atI (Av ms) (-1)=zI (m:Nat):=by
   have hl:0<ms.length:=by lia
   rw[ZEY (by decide) (by simp;lia)]
   congr 1
   have U:((-1:Int)+((Av ms).length:Int)).toNat=ms.length-1:=by simp;lia
   simp only[U];unfold Av;rw[List.getElem_map];have W:ms[ms.length-1]'(by lia)=m:=by have:=jH (l:=ms);rw[u,zJ (by lia)]at this;exact(Option.some.inj this).symm
   rw[W]
  have w:(λk=>if k=ms.getD i 0 then[T i+L i,T i,0,L i,0,0]else pgM ms T L s.page i k)=pgM ms T L s.page (i+1):=(ZMY F E).symm;rw[Q,Bv];cases q with
  | zero=>
   have O:i=ms.length-1:=by lia
   have Z:ms.getD i 0=m:=by have:=jH (l:=ms);rw[u,zJ (by lia)]at this;rw[M];subst O;exact(Option.some.inj this).symm
   have K:Km [zR G.length,zF (Av ms),u7 r,u7 t,zI (ms.getD i 0:Nat),zI (T i),zI (L i)] (csH G h.n h.enc LV yt {s with page:=pgM ms T L s.page i})=
     .nx [zR G.length,zF (Av ms),u7 r,u7 t,zI (ms.getD i 0:Nat),zI (T i),zI (L i)] (csH G h.n h.enc LV yt (h.Fl {s with page:=pgM ms T L s.page ms.length} m (L (ms.length-1)))):=by
    have X:i+1=ms.length:=by lia
    rw[X]at w;unfold Km;simp only[Z]at hk w⊢;simp[Ah,Nu,K7,Hb,hk,Uu,w,Wg,B,Jm Ys,Yo g (C m (List.mem_of_getLast? u)),<-O]
   refine⟨zI (ms.getD i 0:Nat),zI (T i),zI (L i),?_⟩;rw[zU (by simp[z3];lia)];simp only[Ow,Oa,Pb,Ce,R.Hm,R.Bq,qY,K,Cd,zL,qS,Nat.reduceAdd,if_true,Cr]
  | succ q=>
   have hne:ms.getD i 0≠m:=λz=>by have P:=jH (l:=ms);rw[u,zJ (by lia)]at P;rw[M,Option.some.inj P]at z;have:=ZCd F E (by lia) z;lia
   have A:¬((ms.getD i 0:Nat):Int)=(m:Int):=by lia
   have K:Km [zR G.length,zF (Av ms),u7 r,u7 t,zI (ms.getD i 0:Nat),zI (T i),zI (L i)] (csH G h.n h.enc LV yt {s with page:=pgM ms T L s.page i})=
     .nx [zR G.length,zF (Av ms),u7 r,u7 t,zI (ms.getD i 0:Nat),zI (T i),zI (L i)] (csH G h.n h.enc LV yt {s with page:=pgM ms T L s.page (i+1)}):=by
    unfold Km;generalize ms.getD i 0=a at hk w A;simp[Ah,Nu,K7,Hb,hk,Uu,w,Wg,B,A]
   obtain⟨J,N,I,Y⟩:=ZG9 g C F u (q+1) (i+1) (zI (ms.getD i 0:Nat)) (zI (T i)) (zI (L i)) (by lia) (by lia);refine⟨J,N,I,?_⟩;simp only[Ow,Oa,Pb,Ce,R.Hm,R.Bq,qY,K,Cd,zL,qS,Nat.reduceAdd,if_true];exact Y
def Hs.Hy(h:Hs)(s:Cs)(m:Nat):Nat->Int:=shr (h.rows (h.mem m) s.came)
def Hs.Ha(h:Hs)(s:Cs)(m:Nat):Nat->Int:=gath (h.rows (h.mem m) s.came) λi=>col Row.water (h.rows (h.mem m) s.came) i-h.Hy s m i
def Hs.reach(h:Hs)(s:Cs)(m:Nat):Cs:=
 let s1:=h.Fl {s with page:=pgM (h.mem m) (h.Hy s m) (h.Ha s m) s.page (h.mem m).length} m (h.Ha s m ((h.mem m).length-1))
 {s1 with rea:=s1.rea++[.tup [.fl (Av (h.mem m)),.fl ((h.rows (h.mem m) s.came).map Row.enc)]]}
theorem Vb{n:Nat}(q:∀m,bels m ds=u9):freeze (csH G n H LV yt s) (.ok (.ref (csH G n H LV yt s).length) (csH G n H LV yt s++[.lst ds]))=.ok (.fl ds) (csH G n H LV yt s):=Cz (q _)
theorem Vn{ms:List Nat}:(h.rows ms ca).length=ms.length:=by simp[Hs.rows]
theorem ZJb(g:GoodH h)(I:m<h.n)(F:h.last m=m)(P:∀k,k<h.n->0<=s.came k)(Q:s.rea.length<=100):Vj [.ref G.length,.fl (Av (h.mem m))] (csH G h.n h.enc LV yt s)=.ok .non (csH G h.n h.enc LV yt (h.reach s m)):=by
 have J:=ZFv g (m:=m) P;have q:(h.rows (h.mem m) s.came).length<=40:=by have:=ZGG (h:=h) (m:=m);have:=g.len;rw[Vn];lia
 have y:=mem_iff.mpr ⟨I,F⟩;have T:=ZJj g (ms:=h.mem m) (λk hk=>⟨(mem_iff.mp hk).1,λd K=>by exact mem_iff.mpr ⟨(Mh g K).2.1,by rw[<-Nq g K];exact(mem_iff.mp hk).2⟩⟩) (by rw[<-Vn];exact q) (G:=csH G h.n h.enc LV yt s) Qi
 have cs:=ZPd J q (csH G h.n h.enc LV yt s);have A:=ZFG J q (t:=.fl (tab (h.rows (h.mem m) s.came).length (shr (h.rows (h.mem m) s.came)))) (G:=csH G h.n h.enc LV yt s) rfl;rw[Vn]at cs A;obtain⟨W,Y,U,C⟩:=ZG9 (G:=G) (LV:=LV) (yt:=yt) g (λk hk=>(mem_iff.mp hk).1) ((Xp (h:=h) (m:=m)).imp λB=>z8 B) (ZHv g I F) (r:=.fl ((h.rows (h.mem m) s.came).map Row.enc)) (t:=.fl (tab (h.mem m).length (h.Hy s m))) (h.mem m).length 0 u8 u8 u8 (by lia) (List.length_pos_of_mem y)
 rw[ZPa,xk]at C;have O:∀S u,Cq (Em [.fl (Av (h.mem m)),.fl (tab (h.mem m).length (h.Hy s m)),.fl (tab (h.mem m).length (h.Ha s m))]) (Aj 3 (Ab (gV 4) (Ab (gV 5) (Ab (gV 6) Al)))) Km (h.mem m).length 0 S u=Aw (Aj 3 (Ab (gV 4) (Ab (gV 5) (Ab (gV 6) Al)))) Km (z3 (h.mem m) (h.Hy s m) (h.Ha s m)) S u:=λS u=>S7 ZMJ (by simp[z3])
 have L:shr (h.rows (h.mem m) s.came)=h.Hy s m:=rfl;have N:gath (h.rows (h.mem m) s.came) (λi=>col Row.water (h.rows (h.mem m) s.came) i-h.Hy s m i)=h.Ha s m:=rfl;rw[L]at cs A;rw[N]at A;have z:∀w:Cs,w.rea=s.rea->w.rea.length<1000000:=λw e=>by rw[e];lia
 have E:∀w:Cs,∀k c,(h.Fl w k c).rea=w.rea:=λw k c=>by
  unfold Hs.Fl;cases h.dn k with
  |none=>rfl
  |some d=>simp[Cs.send];split <;> rfl
 have x:=z _ (E {s with page:=pgM (h.mem m) (h.Hy s m) (h.Ha s m) s.page (h.mem m).length} m (h.Ha s m ((h.mem m).length-1)));simp[Hs.reach];generalize h.Fl {s with page:=pgM (h.mem m) (h.Hy s m) (h.Ha s m) s.page (h.mem m).length} m (h.Ha s m ((h.mem m).length-1))=X at C x;have M:∀u,tidy u (.ok (.tup [.fl (Av (h.mem m)),.fl ((h.rows (h.mem m) s.came).map Row.enc)]) u)=.ok (.tup [.fl (Av (h.mem m)),.fl ((h.rows (h.mem m) s.came).map Row.enc)]) u:=λu=>Ar (by simp)
 unfold Vj ZG8;rw[Ag];simp[Iu,Vk,T,Vb,cs,A,Et,Js,lenOf,O,C,Ah,M,ZK7,csHe,x,csSe,La]
end
def Cs.NN(n:Nat)(s:Cs):Prop:=(∀k,k<n->0<=s.came k)/\∀k j,k<n->j<5->0<=s.coming k j
theorem Cs.NN.send{n:Nat}(h:s.NN n){u:Nat}(x:0<=c):(s.send u dl c).NN n:=by
 unfold Cs.send;split
 .refine⟨λk hk=>?_,h.2⟩;simp[fset];split
  .rename_i e;subst e;have:=h.1 k hk;lia
  exact h.1 k hk
 refine⟨h.1,λk j hk q=>?_⟩;simp[upd2];split
 .rename_i e;subst e;simp[fset];split
  .rename_i w;subst w;have:=h.2 k _ hk q;lia
  exact h.2 k j hk q
 exact h.2 k j hk q
theorem Cs.NN.down{n:Nat}(h:s.NN n){q:Hs}{k:Nat}(u:0<=c):(q.Fl s k c).NN n:=by
 unfold Hs.Fl;cases q.dn k with
 |none=>exact h
 |some d=>exact h.send u
theorem ZEM{w:Int}{s:Stp}:0<=cub w s:=by unfold cub;lia
theorem ZCj{w:Int}:∀{st:List Stp},0<=rv w st
 |[]=>jJ _
 |s::r=>by
  have u:=ZCj (w:=w) (st:=r);have q:=ZEM (w:=w) (s:=s);unfold rv
  split <;> lia
theorem ZGY{w:Int}:∀{st:List Stp},0<=pm w st
 |[]=>jJ _
 |s::r=>by
  have u:=ZGY (w:=w) (st:=r);have q:=ZEM (w:=w) (s:=s);unfold pm
  split <;> lia
theorem Cs.NN.page{n:Nat}(h:s.NN n):({s with page:=q}:Cs).NN n:=h
theorem ZAt{q:Nat}:(s.send q dl c).rea=s.rea/\(s.send q dl c).page=s.page:=by
 unfold Cs.send
 split <;> exact⟨rfl,rfl⟩
theorem N6{k:Nat}:(h.Fl s k c).rea=s.rea/\(h.Fl s k c).page=s.page:=by
 unfold Hs.Fl;cases h.dn k with
 |none=>exact⟨rfl,rfl⟩
 |some d=>exact ZAt
section
variable{h:Hs}{yt:Int}{lv:Nat->Int}{s:Cs}
theorem ZJV{k:Nat}(y:s.NN h.n):(h.basin yt lv s k).NN h.n:=by
 unfold Hs.basin;cases(h.pl k).kd with
 | basin z u x=>
  simp only;have A:=ZCj (w:=lv k+s.came k) (st:=held yt u []);cases x with
  |none=>exact y.page.down (by lia)
  |some q=>
   obtain⟨B,E,C⟩:=q;exact Cs.NN.send (y.page.down (by lia)) (ZGY (w:=lv k+s.came k) (st:=held yt u []))
 |_=>exact y
theorem ZMM{k:Nat}:(h.basin yt lv s k).rea=s.rea:=by
 unfold Hs.basin;cases(h.pl k).kd with
 |basin w x u=>
  simp only;cases u with
  |none=>rw[N6.1]
  |some q=>obtain⟨y,A,z⟩:=q;simp only;rw[ZAt.1,N6.1]
 |_=>rfl
theorem ZD9{k:Nat}(w:(h.pl k).kd.isB=u9):((h.basin yt lv s k).page k).length=6/\∀i,i≠k->(h.basin yt lv s k).page i=s.page i:=by
 unfold Hs.basin;cases e:(h.pl k).kd with
 | basin y z u=>
  simp only;cases u with
  |none=>
   simp only;rw[N6.2];exact⟨by simp,λi x=>by simp[x]⟩
  |some q=>
   obtain⟨A,C,B⟩:=q;simp only;rw[ZAt.2,N6.2];exact⟨by simp,λi x=>by simp[x]⟩
 |_=>rw[e]at w;cases w
theorem ZLY(g:GoodH h)(u:s.NN h.n)(w:i<(h.mem m).length):0<=h.Ha s m i:=by have q:=ZRx (ZFv g (m:=m) u.1);have:=q.p0 i (Vn▸w);rw[q.pg]at this;exact this
theorem ZRG(g:GoodH h)(w:m<h.n)(x:h.last m=m)(u:s.NN h.n):(h.reach s m).NN h.n:=by have q:=List.length_pos_of_mem (mem_iff.mpr ⟨w,x⟩);unfold Hs.reach;exact Cs.NN.down u.page (ZLY g u (by lia))
theorem ZLe:(h.reach s m).rea.length=s.rea.length+1:=by unfold Hs.reach;simp only[zP,jC];rw[N6.1]
theorem ZPP{k:Nat}:(h.reach s m).page k=if k∈h.mem m then rrow (h.Hy s m) (h.Ha s m) ((h.mem m).idxOf k)else s.page k:=by unfold Hs.reach;simp only;rw[N6.2];unfold pgM;rw[List.take_of_length_le (zY _)]
def Hs.step(h:Hs)(yt:Int)(lv:Nat->Int)(s:Cs)(k:Nat):Cs:=if(h.pl k).kd.isB=u9 then h.basin yt lv s k else if h.last k=k then h.reach s k else s
def Hs.goF(h:Hs)(yt:Int)(lv:Nat->Int):Nat->Nat->Cs->Cs
 |0,_,s=>s
 |m+1,k,s=>h.goF yt lv m (k+1) (h.step yt lv s k)
theorem ZFy(g:GoodH h){k:Nat}(hk:k<h.n)(q:s.NN h.n):(h.step yt lv s k).NN h.n:=by
 unfold Hs.step;split
 .exact ZJV q
 split
 .rename_i e;exact ZRG g hk e q
 exact q
theorem ZQv{k:Nat}:(h.step yt lv s k).rea.length<=s.rea.length+1:=by
 unfold Hs.step;split
 .rw[ZMM];lia
 split
 .rw[ZLe];lia
 lia
end
section
variable{G:DH}{h:Hs}{yt:Int}{lv:Nat->Int}
theorem Tw{q A:Type}{f w:q->Option A}:∀{l:List q},(∀x∈l,f x=w x)->l.filterMap f=l.filterMap w
 |[],_=>rfl
 |x::l,u=>by rw[qq,qq,u x zW,Tw λy z=>u y (zX _ z)]
theorem ZRe{k:Nat}(y:Ax 2 [2] S=[u8,u8,zI k])(G:DH):Cm (Dh 0 (.fl (tab h.n λi=>(h.last i:Int)))) (Aj 2 (Ab (gV 0) (Ab (gV 1) Al))) Pn Ve (Ax 2 [2] S) h.n 0 G=.ok (Av (h.mem k)) G:=by
 have w:Df (tab h.n λi=>(h.last i:Int))=(zZ h.n).map λ(i:Nat)=>D.tup [.int (i:Int),.int (h.last i:Int)]:=by refine qM (by simp[Df]) λi A z=>by simp[Df,tab]
 rw[Um (F:=λd=>match d with | .tup [.int i,.int e]=>if e=(k:Int)then zI i else u8|_=>u8) (λj=>Vo j G) (λx u=>?_) (by rw[Jy];simp)]
 .congr 1
  rw[w,qW];unfold Hs.mem Av;rw[<-List.filterMap_eq_filter,List.map_filterMap];refine Tw λi _=>?_
  by_cases e:h.last i=k
  .subst e;simp[Option.guard]
  have q:¬((h.last i:Int)=(k:Int)):=by lia
  simp[Option.guard,e,q]
 rw[w]at u;obtain⟨i,_,rfl⟩:=z9.mp u;refine⟨[zI i,zI (h.last i:Int),zI k],by rw[y];simp,?_⟩;by_cases e:h.last i=k
 .refine .inr ⟨by unfold Pn;simp[e],.int i,by unfold Ve;simp,by simp[e]⟩
 .have q:¬((h.last i:Int)=(k:Int)):=by lia
  exact .inl ⟨by unfold Pn;simp[q],by simp[q]⟩
theorem ZCa(g:GoodH h):∀(m k:Nat)(s:Cs)(x y:Option D),k+m=h.n->s.NN h.n->s.rea.length<=k->∃z w,
  Aw (Aj 2 (Ab (gV 2) (Ab (gV 3) Al))) Ny ((Df (tab h.n λi=>(h.last i:Int))).drop k) [zR G.length,zF (tab h.n λi=>(h.last i:Int)),x,y] (csH G h.n h.enc (.tup (tab h.n lv)) yt s)=
   .nx [zR G.length,zF (tab h.n λi=>(h.last i:Int)),z,w] (csH G h.n h.enc (.tup (tab h.n lv)) yt (h.goF yt lv m k s))
 |0,k,s,x,y,e,_,_=>⟨x,y,by rw[zU (by rw[Jy];simp;lia),Cr];rfl⟩
 | m+1,k,s,x,y,e,E,I=>by
  have hk:k<h.n:=by lia
  have M:=g.len;have C:=ZQv (h:=h) (yt:=yt) (lv:=lv) (s:=s) (k:=k);obtain⟨z,w,L⟩:=ZCa g m (k+1) (h.step yt lv s k) (zI k) (zI (h.last k:Int)) (by lia) (ZFy g hk E) (by lia);refine⟨z,w,?_⟩;have F:(Df (tab h.n λi=>(h.last i:Int))).drop k=.tup [.int k,.int (h.last k:Int)]::(Df (tab h.n λi=>(h.last i:Int))).drop (k+1):=by rw[zO (by rw[Jy];simpa using hk)];simp[Df,tab]
  have u:(h.mem k).length<=1000000:=by have:=ZGG (h:=h) (m:=k);lia
  have J:Ny [zR G.length,zF (tab h.n λi=>(h.last i:Int)),zI k,zI (h.last k:Int)] (csH G h.n h.enc (.tup (tab h.n lv)) yt s)=
    .nx [zR G.length,zF (tab h.n λi=>(h.last i:Int)),zI k,zI (h.last k:Int)] (csH G h.n h.enc (.tup (tab h.n lv)) yt (h.step yt lv s k)):=by
   unfold Ny Hs.step;by_cases q:(h.pl k).kd.isB=u9
   .simp[Iu,Bp,Hs.De hk,Hv,q,Jm ZPr,ZMS g hk q]
   by_cases A:h.last k=k
   .have K:Cm (Dh 0 (.fl (tab h.n λi=>(h.last i:Int)))) (Aj 2 (Ab (gV 0) (Ab (gV 1) Al))) Pn Ve (Ax 2 [2] [zR G.length,zF (tab h.n λi=>(h.last i:Int)),zI k,zI (k:Int)]) h.n 0 (csH G h.n h.enc (.tup (tab h.n lv)) yt s)=.ok (Av (h.mem k)) (csH G h.n h.enc (.tup (tab h.n lv)) yt s):=ZRe rfl _;simp[Iu,Bp,Hs.De hk,Hv,q,A,Jm ZNk,Fb,Js,lenOf,K,Af,u,Vb,ZJb g hk A E.1 (by lia)]
   .have B:¬((h.last k:Int)=(k:Int)):=by lia
    simp[Iu,Bp,Hs.De hk,Hv,q,A,B]
  rw[F,Bv];simp[Ow,Oa,Pb,Ce,R.Hm,R.Bq,qY,J,Cd,zL,qS,Nat.reduceAdd,if_true];exact L
theorem ZMx(g:GoodH h)(y:s.NN h.n)(q:s.rea=[]):Ui [.ref G.length] (csH G h.n h.enc (.tup (tab h.n lv)) yt s)=.ok .non (csH G h.n h.enc (.tup (tab h.n lv)) yt (h.goF yt lv h.n 0 s)):=by
 obtain⟨A,z,w⟩:=ZCa (G:=G) (yt:=yt) (lv:=lv) g h.n 0 s u8 u8 (by lia) y (by rw[q];simp);rw[xk]at w;unfold Ui ZB5;rw[Ag];have x:∀S u,Cq (Dh 0 (.fl (tab h.n λi=>(h.last i:Int)))) (Aj 2 (Ab (gV 2) (Ab (gV 3) Al))) Ny h.n 0 S u=Aw (Aj 2 (Ab (gV 2) (Ab (gV 3) Al))) Ny (Df (tab h.n λi=>(h.last i:Int))) S u:=λS u=>S7 Vo (by rw[Jy];simp)
 simp[Iu,ZH6 g,Vb,Fb,Js,lenOf,x,w,La]
end
def An(n:Nat)(co:Nat->Nat->Int):List D:=(zZ n).map λk=>D.tup (tab 5 (co k))
def stD(n:Nat)(lv:Nat->Int)(co:Nat->Nat->Int):D:=.tup [.tup (tab n lv),.tup (An n co)]
@[simp]theorem ZSj{n:Nat}:bels m (An n co)=u9:=Dw λk _=>by simp[Hd]
@[simp]theorem ZOa{n:Nat}:bels m (Bw n q)=u9:=Dw λk _=>ZNe
@[simp]theorem ZR5{n:Nat}:(An n co).length=n:=by simp[An]
def Ma(co:Nat->Nat->Int):Nat->Nat->Int:=λk j=>if j<4 then co k (j+1)else 0
def cs0(co:Nat->Nat->Int)(fl:Nat->Int):Cs:=⟨λk=>fl k+co k 0,Ma co,λ_=>[],[]⟩
theorem tab5:tab 5 F=[.int (F 0),.int (F 1),.int (F 2),.int (F 3),.int (F 4)]:=rfl
theorem Mi{c f:Str}{fs:List (Str×D)}{d:D}(q:fs.length<1000):N5 c f (.ref G.length) d S (G++ .ins c fs::L)=.nx S (G++ .ins c (Fw f d fs)::L):=by
 rw[ZJU (by rw[Bu];rfl) q,Dq]
 rfl
theorem ZOH{n:Nat}(G:DH):Cm (Em [.tup (tab n fl),.tup (An n co)]) (Aj 2 (Ab (gV 0) (Ab (gV 1) Al))) Bc Uj (Ax 2 [] S) n 0 G=.ok (tab n λk=>fl k+co k 0) G:=by
 have q:Ln (tab n fl) (An n co)=(zZ n).map λ(i:Nat)=>D.tup [.int (fl i),.tup (tab 5 (co i))]:=by refine qM (by simp[Ln]) λi y w=>by simp[Ln,tab,An]
 rw[Um (F:=λd=>match d with | .tup [.int c,.tup (.int a::_)]=>zI (c+a)|_=>u8) (λj=>X6 (K9) (K9) j) (λx u=>?_) (by rw[q];simp)]
 .congr 1
  rw[q,qW];show(zZ n).filterMap (λi=>zI (fl i+co i 0))=_;rw[q8]
  rfl
 rw[q]at u;obtain⟨i,_,rfl⟩:=z9.mp u;refine⟨[zI (fl i),zT (tab 5 (co i))],by simp[Ax],.inr ⟨rfl,.int (fl i+co i 0),?_,by simp[tab5]⟩⟩;unfold Uj;simp[tab5]
theorem ZNn{k:Nat}(G:DH):Qj [zT (tab 5 (co k))] G=.ok (.ref G.length) (G++[.lst (tab 5 (Ma co k))]):=by
 have q:cutD (tab 5 (co k)) (u7 1) u8=[.int (co k 1),.int (co k 2),.int (co k 3),.int (co k 4)]:=rfl;have y:Ri [.tup [.int (co k 1),.int (co k 2),.int (co k 3),.int (co k 4)]] G=.ok (.ref G.length) (G++[.lst [.int (co k 1),.int (co k 2),.int (co k 3),.int (co k 4)]]):=rfl;have w:I8 (.fl [.int (co k 1),.int (co k 2),.int (co k 3),.int (co k 4)]) (.fl [.int 0]) G=.ok (.ref G.length) (G++[.lst (tab 5 (Ma co k))]):=rfl
 have z:∀u:List D,bels G.length u=u9->freeze G (.ok (.ref G.length) (G++[.lst u]))=.ok (.fl u) G:=λu x=>Cz x
 unfold Qj;simp[Ir,Mw,q,J0,y,z,Af,w,Ds]
theorem ZF5{n:Nat}{co:Nat->Nat->Int}:∀(m k:Nat)(G:DH),k+m=n->Cg (gV 0) Bc Qj [u8] ((An n co).drop k) G=.ok ((zZ m).map λj=>D.ref (G.length+j)) (G++(zZ m).map λj=>DO.lst (tab 5 (Ma co (k+j))))
 |0,k,G,e=>by rw[zU (by simp;lia)];simp[Cg]
 | m+1,k,G,e=>by
  have q:(An n co).drop k=.tup (tab 5 (co k))::(An n co).drop (k+1):=by rw[zO (by simp;lia)];simp[An]
  rw[q,Zn];simp only[Ce,R.Hm,qY,ZES,if_true,ZNn,ZF5 (n:=n) (co:=co) m (k+1) (G++[.lst (tab 5 (Ma co k))]) (by lia)]
  congr 1
  .rw[qT,zk,jz]
   congr 1
   refine qB λj _=>?_
   simp only[Function.comp,zP,jC]
   congr 1
   lia
  rw[qT,zk,jz,qH]
  congr 1
  show _::_=_::_
  congr 1
  refine qB λj _=>?_
  simp only[Function.comp]
  congr 3
  lia
theorem ZPj(g:GoodH h):
  Qe [.ref G.length,h.enc,stD h.n lv co,.int at_,.tup (tab h.n fl)] (G++[.ins "Course" []])=.ok .non (csH G h.n h.enc (.tup (tab h.n lv)) (at_%h.yr) (cs0 co fl)):=by
 have hn:=g.len;have U:=g.yr;have K:h.n<=1000000:=by lia
 have p1:∀a:D,Fw "house" a (cfl [])=cfl [a]:=λ_=>rfl
 have p2:∀a b:D,Fw "levels" b (cfl [a])=cfl [a,b]:=λ_ _=>rfl
 have p3:∀a b c:D,Fw "year_turn" c (cfl [a,b])=cfl [a,b,c]:=λ_ _ _=>rfl
 have p4:∀a b c d:D,Fw "came" d (cfl [a,b,c])=cfl [a,b,c,d]:=λ_ _ _ _=>rfl
 have p5:∀a b c d e:D,Fw "coming" e (cfl [a,b,c,d])=cfl [a,b,c,d,e]:=λ_ _ _ _ _=>rfl
 have p6:∀a b c d e f:D,Fw "page" f (cfl [a,b,c,d,e])=cfl [a,b,c,d,e,f]:=λ_ _ _ _ _ _=>rfl
 have p7:∀a b c d e f q:D,Fw "reaches" q (cfl [a,b,c,d,e,f])=cfl [a,b,c,d,e,f,q]:=λ_ _ _ _ _ _ _=>rfl
 have C:∀ds,(cfl ds).length<1000:=λds=>by unfold cfl;rw[List.length_zip];have:(["house","levels","year_turn","came","coming","page","reaches"]:List Str).length=7:=rfl;lia
 have hz:∀y,Et 2 [.tup (tab h.n fl),.tup (An h.n co)] y=.ok (.fn h.n (Em [.tup (tab h.n fl),.tup (An h.n co)])) y:=λy=>by rw[V5 K9 K9];simp
 have F:=λy=>ZF5 (n:=h.n) (co:=co) h.n 0 y (by lia)
 simp[xk,Nat.zero_add]at F;have X:∀S:DSt,Ax 1 [] S=[u8]:=λ_=>rfl
 have T:zV h.n D.non=Bw h.n λ_=>[]:=by unfold Bw;refine qM (by simp) λi J h2=>by simp[Im]
 let S:DSt:=[zR G.length,u7 h.enc,u7 (stD h.n lv co),zI at_,zT (tab h.n fl),zT (tab h.n lv),zT (An h.n co)];have A:S=[zR G.length,u7 h.enc,u7 (stD h.n lv co),zI at_,zT (tab h.n fl),zT (tab h.n lv),zT (An h.n co)]:=rfl;let w:DH:=(zZ h.n).map λk=>DO.lst (tab 5 (Ma co k))
 have E:w.length=h.n:=by simp[w]
 let W:List D->DH->DH:=λL t=>G++ .ins "Course" (cfl L)::t
 let B:D:=.tup (tab h.n lv);let Y:D:=.int (at_%h.yr);let u:DO:=.lst (tab h.n λk=>fl k+co k 0);have q1:Ei "Course" (dV 0) (dV 1) "house" S (W [] [])=.nx S (W [h.enc] []):=by rw[Le,A];simp[W,B,X7,jS,j7,R.Bq,Mi (C _),p1]
 have q2:Ei "Course" (dV 0) (dV 5) "levels" S (W [h.enc] [])=.nx S (W [h.enc,B] []):=by rw[Le,A];simp[W,B,X7,jS,j7,R.Bq,Mi (C _),p2]
 have q3:Ei "Course" (dV 0) (dOp Jt (dV 3) (dOp Bj (dV 1) (dC (.int 0)))) "year_turn" S (W [h.enc,B] [])=.nx S (W [h.enc,B,Y] []):=by rw[Le,A];simp[W,B,Y,u,Mz,U,Mi (C _),p3]
 have q4:Ei "Course" (dV 0) (Bt (Bg (Et 2) (Ac (dV 4) (Ac (dV 6) Az))) 2 [] (Aj 2 (Ab (gV 0) (Ab (gV 1) Al))) Bc Uj) "came" S (W [h.enc,B,Y] [])=
   .nx S (W [h.enc,B,Y,.ref (G.length+1)] (u::[])):=by
  rw[Le,A];simp[W,B,Y,u,hz,ZOH,Af,K,Mi (C _),p4]
 have q5:Ei "Course" (dV 0) (Bt (Du (dV 6)) 1 [] (gV 0) Bc Qj) "coming" S (W [h.enc,B,Y,.ref (G.length+1)] (u::[]))=
   .nx S (W [h.enc,B,Y,.ref (G.length+1),.ref (G.length+(2+h.n))] (u::(w++[.lst (Cw G.length h.n)]))):=by
  have hi:G8 (.tup (An h.n co)) (W [h.enc,B,Y,.ref (G.length+1)] (u::[]))=.ok (.pure (An h.n co)) (W [h.enc,B,Y,.ref (G.length+1)] (u::[])):=rfl;have er:∀L:DH,L.length=2->(zZ h.n).map (λj=>D.ref ((G++L).length+j))=Cw G.length h.n:=λL e=>by
   unfold Cw;refine qB λj _=>?_
   rw[zP,e,Nat.add_assoc]
  have M:=F (W [h.enc,B,Y,.ref (G.length+1)] (u::[]));rw[er _ rfl]at M;have O:∀y,Af (Cw G.length h.n) y=.ok (.ref y.length) (y++[.lst (Cw G.length h.n)]):=λy=>by simp[Af,Cw,K]
  rw[Le,A];simp only[W,B,Y,u,ZQj,ZOe,X7,jS,j7,R.Hm,hi,X,M,O,R.Bq];have e2:(G++DO.ins "Course" (cfl [h.enc,.tup (tab h.n lv),.int (at_%h.yr),.ref (G.length+1)]):: .lst (tab h.n λk=>fl k+co k 0)::[]++(zZ h.n).map λj=>DO.lst (tab 5 (Ma co j))).length=G.length+(2+h.n):=by simp;lia
  rw[e2];simp only[W,qH,List.cons_append,xq];rw[Mi (C _),p5]
 have q6:Ei "Course" (dV 0) (Ci (dOp Gw (dFn Af (Ac (dC .non) Az)) (dFn Ba (Ac (dV 5) Az)))) "page" S (W [h.enc,B,Y,.ref (G.length+1),.ref (G.length+(2+h.n))] (u::(w++[.lst (Cw G.length h.n)])))=
   .nx S (W [h.enc,B,Y,.ref (G.length+1),.ref (G.length+(2+h.n)),.ref (G.length+(3+h.n))] (u::(w++[.lst (Cw G.length h.n),.lst (Bw h.n λ_=>[])]))):=by
  rw[Le,A];generalize I:W [h.enc,B,Y,.ref (G.length+1),.ref (G.length+(2+h.n))] (u::(w++[.lst (Cw G.length h.n)]))=Q;have eQ:Q.length=G.length+(3+h.n):=by rw[<-I];simp[W,E];lia
  have N:Gw (.ref Q.length) (.int (h.n:Int)) (Q++[.lst [.non]])=.ok (.ref (Q.length+1)) (Q++[.lst [.non],.lst (Bw h.n λ_=>[])]):=by rw[ZEn (d:=.non) (by rw[Bu];rfl) (by lia),T];simp
  have P:tidy Q (.ok (.ref (Q.length+1)) (Q++[.lst [.non],.lst (Bw h.n λ_=>[])]))=.ok (.ref Q.length) (Q++[.lst (Bw h.n λ_=>[])]):=Z7 _ (k:=1) rfl ZOa;have x:N5 "Course" "page" (.ref G.length) (.ref Q.length) S (Q++[.lst (Bw h.n λ_=>[])])=.nx S (W [h.enc,B,Y,.ref (G.length+1),.ref (G.length+(2+h.n)),.ref (G.length+(3+h.n))] (u::(w++[.lst (Cw G.length h.n),.lst (Bw h.n λ_=>[])]))):=by rw[eQ,<-I];simp only[W,qH,List.cons_append,xq];rw[Mi (C _),p6]
  rw[A]at x;simp[Af,N,P,x]
 have q7:Ei "Course" (dV 0) (Ci (dFn Af Az)) "reaches" S (W [h.enc,B,Y,.ref (G.length+1),.ref (G.length+(2+h.n)),.ref (G.length+(3+h.n))] (u::(w++[.lst (Cw G.length h.n),.lst (Bw h.n λ_=>[])])))=
   .nx S (W [h.enc,B,Y,.ref (G.length+1),.ref (G.length+(2+h.n)),.ref (G.length+(3+h.n)),.ref (G.length+(4+h.n))] (u::(w++[.lst (Cw G.length h.n),.lst (Bw h.n λ_=>[]),.lst []]))):=by
  rw[Le,A];generalize I:W [h.enc,B,Y,.ref (G.length+1),.ref (G.length+(2+h.n)),.ref (G.length+(3+h.n))] (u::(w++[.lst (Cw G.length h.n),.lst (Bw h.n λ_=>[])]))=Q;have eQ:Q.length=G.length+(4+h.n):=by rw[<-I];simp[W,E];lia
  have P:tidy Q (.ok (.ref Q.length) (Q++[.lst []]))=.ok (.ref Q.length) (Q++[.lst []]):=Ds rfl;have x:N5 "Course" "reaches" (.ref G.length) (.ref Q.length) S (Q++[.lst []])=.nx S (W [h.enc,B,Y,.ref (G.length+1),.ref (G.length+(2+h.n)),.ref (G.length+(3+h.n)),.ref (G.length+(4+h.n))] (u::(w++[.lst (Cw G.length h.n),.lst (Bw h.n λ_=>[]),.lst []]))):=by rw[eQ,<-I];simp only[W,qH,List.cons_append,xq];rw[Mi (C _),p7]
  rw[A]at x;simp[Af,P,x]
 have Z:tidy (G++[.ins "Course" []]) (.ok .non (csH G h.n h.enc (.tup (tab h.n lv)) (at_%h.yr) (cs0 co fl)))=.ok .non (csH G h.n h.enc (.tup (tab h.n lv)) (at_%h.yr) (cs0 co fl)):=ZMe λz=>by
  have J:=congrArg (λl:DH=>l[G.length]?) z;simp only[zP,jC]at J;rw[j2 (by lia),Iz]at J;have h2:(G++[DO.ins "Course" []])[G.length]?=u7 (.ins "Course" []):=by rw[Bu];rfl
  rw[h2]at J;simp[cflds,cfl]at J
 have q0:sAs (dV 2) (Aj 2 (Ab (gV 5) (Ab (gV 6) Al))) [zR G.length,u7 h.enc,u7 (stD h.n lv co),zI at_,zT (tab h.n fl),u8,u8] (G++[.ins "Course" []])=.nx S (W [] []):=by
  simp[stD,A]
  rfl
 unfold Qe ZDy;rw[Ag];have h5: [D.ref G.length,h.enc,stD h.n lv co,.int at_,.tup (tab h.n fl)].length=5:=rfl;rw[if_pos h5];have hd:([D.ref G.length,h.enc,stD h.n lv co,.int at_,.tup (tab h.n fl)].map u7++zV 2 u8)=[zR G.length,u7 h.enc,u7 (stD h.n lv co),zI at_,zT (tab h.n fl),u8,u8]:=rfl;rw[hd];simp only[Lx,q0,Wl,q1,q2,q3,q4,q5,q6,q7,ZOF];exact Z
section
variable{h:Hs}{yt:Int}{lv:Nat->Int}
theorem ZC6(g:GoodH h):∀(m k:Nat),h.n<=m+k->h.last k=k\/(h.pl (h.last k)).kd.isB=uA
 |0,k,e=>.inl (Ks g (Ov (by lia)))
 | m + 1,k,e=>by
  cases q:h.dir k with
  |none=>exact .inl (Ks g q)
  | some d=>
   have y:=Mh g q;rw[Nq g q];rcases ZC6 g m d (by lia)with z|z
   .refine .inr ?_;rw[z];unfold Hs.dir at q;cases u:h.dn k with
    |none=>rw[u]at q;cases q
    |some A=>
     rw[u]at q;simp only at q;split at q
     .cases q
     rename_i x;cases q;cases w:(h.pl d).kd.isB with
     |false=>rfl
     |true=>exact absurd (.inr (.inr w)) x
   exact .inr z
theorem ZGs(g:GoodH h):∀(m k:Nat),h.n<=m+k->h.last (h.last k)=h.last k
 |0,k,e=>by have u:=Ks g (k:=k) (Ov (by lia));rw[u,u]
 | m+1,k,e=>by
  cases q:h.dir k with
  |none=>rw[Ks g q,Ks g q]
  |some d=>
   have w:=Mh g q;rw[Nq g q];exact ZGs g m d (by lia)
def Hs.done(h:Hs)(j k:Nat):Prop:=if(h.pl k).kd.isB=u9 then k<j else h.last k<j
theorem ZQB(g:GoodH h){k:Nat}(hk:k<h.n)(B:∀i,i<h.n->h.done k i->(s.page i).length=6):∀i,i<h.n->h.done (k+1) i->((h.step yt lv s k).page i).length=6:=λi A w=>by
 unfold Hs.step;split
 .rename_i x;by_cases e:i=k
  .subst e;exact(ZD9 x).1
  rw[(ZD9 x).2 i e];refine B i A ?_;unfold Hs.done at w⊢;by_cases q:(h.pl i).kd.isB=u9
  .rw[if_pos q]at w⊢;lia
  .rw[if_neg q]at w⊢;rcases xj (h.last i) k with z|z
   .exact z
   .have u:h.last i=k:=by lia
    rcases ZC6 g h.n i (by lia)with y|y
    .rw[y]at u;exact absurd u e
    rw[u,x]at y;cases y
 rename_i x;split
 .rename_i C;rw[ZPP];split
  .rfl
  .rename_i E;refine B i A ?_;unfold Hs.done at w⊢;by_cases q:(h.pl i).kd.isB=u9
   .rw[if_pos q]at w⊢;rcases xj i k with z|z
    .exact z
    .have u:i=k:=by lia
     rw[u]at q;exact absurd q x
   .rw[if_neg q]at w⊢;rcases xj (h.last i) k with z|z
    .exact z
    exact absurd (mem_iff.mpr ⟨A,by lia⟩) E
 .rename_i C;refine B i A ?_;unfold Hs.done at w⊢;by_cases q:(h.pl i).kd.isB=u9
  .rw[if_pos q]at w⊢;rcases xj i k with z|z
   .exact z
   .have u:i=k:=by lia
    rw[u]at q;exact absurd q x
  .rw[if_neg q]at w⊢;rcases xj (h.last i) k with z|z
   .exact z
   .have u:h.last i=k:=by lia
    have:=ZGs g h.n i (by lia);rw[u]at this;exact absurd this C
theorem ZBA(g:GoodH h):∀(m k:Nat)(s:Cs),k+m=h.n->(∀i,i<h.n->h.done k i->(s.page i).length=6)->∀i,i<h.n->((h.goF yt lv m k s).page i).length=6
 | 0,k,s,e,u,i,q=>u i q (by
   unfold Hs.done;split
   .lia
   have:=(ZC1 g i).2 q;lia)
 |m+1,k,s,e,u,i,q=>ZBA g m (k+1) _ (by lia) (ZQB g (by lia) u) i q
theorem ZDO(g:GoodH h):∀(m k:Nat)(s:Cs),k+m=h.n->s.NN h.n->(h.goF yt lv m k s).NN h.n
 |0,k,s,e,q=>q
 |m+1,k,s,e,q=>ZDO g m (k+1) _ (by lia) (ZFy g (by lia) q)
end
def lies(pg:Nat->List Int):Nat->Int:=λk=>(pg k).getD 5 0
theorem row6{l:List Int}(h:l.length=6):∃a b c d e f,l=[a,b,c,d,e,f]:=by
 match l,h with
 |[a,b,c,d,e,f],_=>exact⟨a,b,c,d,e,f,rfl⟩
section
variable{G:DH}{h:Hs}{LV:D}{yt:Int}{s:Cs}
theorem ZLo(w:∀k,k<h.n->(s.page k).length=6):Fi (G.length+(3+h.n)) (gV 0) Bc Vm (Ax 1 [] S) h.n 0 (csH G h.n h.enc LV yt s)=.ok (tab h.n (lies s.page)) (csH G h.n h.enc LV yt s):=by
 have q:=ZC4 (g:=gV 0) (c:=Bc) (te:=Vm) (S:=Ax 1 [] S) (G:=csH G h.n h.enc LV yt s) (F:=λd=>match d with | .tup [_,_,_,_,_,x]=>u7 x|_=>u8) K7 (λx q=>by obtain⟨k,hk,rfl⟩:=z9.mp q;obtain⟨a,b,c,d,e,f,u⟩:=row6 (w k (qw.mp hk));rw[u];refine⟨[u7 (Im [a,b,c,d,e,f])],by simp[Ax],.inr ⟨rfl,.int f,?_,rfl⟩⟩;unfold Vm;simp[Im])
 rw[ZH0]at q;rw[q]
 congr 1
 unfold Bw;rw[qW];unfold tab;rw[<-q8];refine Tw λk hk=>?_
 obtain⟨a,b,c,d,e,f,u⟩:=row6 (w k (qw.mp hk));simp[Function.comp,u,Im,lies]
theorem ZOV:Fi (G.length+(2+h.n)) (gV 0) Bc U3 (Ax 1 [] S) h.n 0 (csH G h.n h.enc LV yt s)=.ok (An h.n s.coming) (csH G h.n h.enc LV yt s):=by
 have q:(Cw G.length h.n).length=h.n:=by simp[Cw]
 have u:=ZC4 (g:=gV 0) (c:=Bc) (te:=U3) (S:=Ax 1 [] S) (G:=csH G h.n h.enc LV yt s) (F:=λd=>match d with | .ref j=>zT (tab 5 (s.coming (j-(G.length+2))))|_=>u8) Wn (λx u=>by
  obtain⟨k,hk,rfl⟩:=z9.mp u;refine⟨[zR (G.length+(2+k))],by simp[Ax],.inr ⟨rfl,.tup (tab 5 (s.coming k)),?_,?_⟩⟩
  .unfold U3;simp[ZBC (qw.mp hk)]
  have e:G.length+(2+k)-(G.length+2)=k:=by lia
  simp[e])
 rw[q]at u;rw[u]
 congr 1
 unfold Cw;rw[qW];unfold An;rw[<-q8];refine Tw λk hk=>?_
 have e:G.length+(2+k)-(G.length+2)=k:=by lia
 simp[Function.comp,e]
theorem ZOz(g:GoodH h)(z:∀k,k<h.n->(s.page k).length=6):Up [.ref G.length] (csH G h.n h.enc LV yt s)=.ok (stD h.n (lies s.page) s.coming) (csH G h.n h.enc LV yt s):=by
 have A:=g.len;have q:h.n<=1000000:=by lia
 have u:(Cw G.length h.n).length=h.n:=by simp[Cw]
 have y:bel (csH G h.n h.enc LV yt s).length (stD h.n (lies s.page) s.coming)=u9:=by simp[stD]
 unfold Up ZDU;rw[Ag];unfold stD at y⊢;have w:G8 (.ref (G.length+(3+h.n))) (csH G h.n h.enc LV yt s)=.ok (.mt (G.length+(3+h.n))) (csH G h.n h.enc LV yt s):=by simp[G8,K7]
 have x:G8 (.ref (G.length+(2+h.n))) (csH G h.n h.enc LV yt s)=.ok (.mt (G.length+(2+h.n))) (csH G h.n h.enc LV yt s):=by simp[G8,Wn]
 simp[w,x,Nu,K7,ZLo z,Af,q,Vb,Ah,ZHN,Wn,u,ZOV,Ar]
def Hs.cs(h:Hs)(lv:Nat->Int)(co:Nat->Nat->Int)(at_:Int)(fl:Nat->Int):Cs:=h.goF (at_%h.yr) lv h.n 0 (cs0 co fl)
theorem ZB6{n:Nat}(q:∀k j,k<n->j<5->0<=co k j)(u:∀k,k<n->0<=fl k):(cs0 co fl).NN n:=by
 refine⟨λk hk=>?_,λk j hk w=>?_⟩
 .have:=q k 0 hk (by lia);have:=u k hk;show 0<=fl k+co k 0;lia
 show 0<=if j<4 then co k (j+1)else 0
 split
 .exact q k (j+1) hk (by lia)
 exact jJ _
theorem ZJn(g:GoodH h):∀k,k<h.n->((h.cs lv co at_ fl).page k).length=6:=ZBA g h.n 0 _ (by lia) λi u q=>by
 unfold Hs.done at q
 split at q<;>lia
theorem ZKx(g:GoodH h)(y:∀k j,k<h.n->j<5->0<=co k j)(z:∀k,k<h.n->0<=fl k)(G:DH):
  T7 [h.enc,stD h.n lv co,.int at_,.tup (tab h.n fl)] G=.ok (.tup [.tup (Bw h.n (h.cs lv co at_ fl).page),stD h.n (lies (h.cs lv co at_ fl).page) (h.cs lv co at_ fl).coming]) G:=by
 have q:=ZMx (G:=G) (lv:=lv) (yt:=at_%h.yr) g (ZB6 y z) rfl;have u:Y4 Qe "Course" [h.enc,stD h.n lv co,.int at_,.tup (tab h.n fl)] G=.ok (.ref G.length) (csH G h.n h.enc (.tup (tab h.n lv)) (at_%h.yr) (cs0 co fl)):=by
  unfold Y4;rw[ZPj g]
  rfl
 have x:h.goF (at_%h.yr) lv h.n 0 (cs0 co fl)=h.cs lv co at_ fl:=rfl;rw[x]at q;have w:∀s,csH G h.n h.enc (.tup (tab h.n lv)) (at_%h.yr) s=G++csT G.length h.n h.enc (.tup (tab h.n lv)) (at_%h.yr) s:=λ_=>rfl
 unfold T7 ZHH;rw[Ag];simp[u,Jm ZIb,q,Nu,K7,Jm ZPk,ZOz (G:=G) (LV:=.tup (tab h.n lv)) (yt:=at_%h.yr) g (ZJn g (lv:=lv) (fl:=fl) (co:=co) (at_:=at_)),Ah];rw[w];exact Je (by simp[stD])
end
theorem ZOg(x:Cf ns f):∃u:Int,(u=1\/u=1000000000000000000000000000000)/\Cu ns u:=by
 have q:∀G,Bb [nD ns,.int 0] G=.ok (.int (f 0)) G:=x 0 (by lia);have w:∀G:DH,freeze G (.ok (.ref G.length) (G++[.lst [.int 1,.int 1,.int 1000000000000000000000000000000]]))=.ok (.fl [.int 1,.int 1,.int 1000000000000000000000000000000]) G:=λG=>Cz rfl
 rcases(by lia:f 0/840%3=0\/f 0/840%3=1\/f 0/840%3=2)with h|h|h
 .refine⟨1,.inl rfl,λG=>?_⟩;unfold Ij Wh;rw[Ag];simp[q,h,Af,w,Ar]
 .refine⟨1,.inl rfl,λG=>?_⟩;unfold Ij Wh;rw[Ag];simp[q,h,Af,w,Ar]
 refine⟨1000000000000000000000000000000,.inr rfl,λG=>?_⟩;unfold Ij Wh;rw[Ag];simp[q,h,Af,w,Ar]
def amt(c u:Int):Int:=u*(c%7)+c/7%u
theorem Px(x:0<u):0<=amt c u:=by unfold amt;have w:0<=u*(c%7):=j3 (by lia) (by lia);have q:0<=c/7%u:=jB _ (by lia);lia
theorem Lw(w:0<u)(G:DH):Jp [.int c,.int u] G=.ok (.int (amt c u)) G:=by
 have q:∀G,Br (.int u) (.int (c%7)) G=.ok (.int (u*(c%7))) G:=λG=>Hh (by lia) (by lia)
 unfold Jp ZBo;rw[Ag];simp[q,w,Ar,amt]
noncomputable def Li(xs:Nat->Int)(u:Int)(p:Bool):Nat->Nat->Int->List Stp
 |0,_,_=>[]
 |n+1,j,low=>⟨low+u*(xs (1+j)%4),1+u*(xs (1+j)/4%4), !(p&&decide (xs (1+j)/16%2=1))⟩::Li xs u p n (j+1) (low+u*(xs (1+j)%4)+(1+u*(xs (1+j)/4%4)))
theorem ZEZ(w:0<u):∀(n j:Nat)(q:Int),Good q (Li xs u p n j q)
 |0,_,_=>trivial
 |n+1,j,q=>by have y:0<=u*(xs (1+j)%4):=j3 (by lia) (by lia);have x:0<=u*(xs (1+j)/4%4):=j3 (by lia) (by lia);exact⟨by show q<=q+_;lia,by show 1<=1+_;lia,ZEZ w n (j+1) _⟩
theorem ZGk:∀(n j:Nat)(q:Int),∀s∈Li xs u uA n j q,s.r=u9
 |0,_,_,s,h=>by cases h
 |n+1,j,q,s,h=>by
  rcases zj.mp h with rfl|h
  .simp
  exact ZGk n (j+1) _ s h
theorem ZCO:∀(n j:Nat)(q:Int)(acc:List Stp)(x y z:Option D),j+n<=3->acc.length+n<=10->∃K J I C,
  Aw (gV 5) Qg (Bh j n) [zF (tab 4 xs),zI u,zB p,zR G.length,zI q,x,y,z] (G++[.lst (acc.map Stp.enc)])=
   .nx [zF (tab 4 xs),zI u,zB p,zR G.length,C,K,J,I] (G++[.lst ((acc++Li xs u p n j q).map Stp.enc)])
 |0,j,q,acc,x,y,z,h,L=>⟨x,y,z,zI q,by rw[Ib,Cr];simp[Li]⟩
 | n+1,j,q,acc,x,y,z,h,L=>by
  have F:atI (tab 4 xs) (1+(j:Int))=zI (xs (1+j)):=Dj (by lia) (Lq (by lia));let s:Stp:=⟨q+u*(xs (1+j)%4),1+u*(xs (1+j)/4%4), !(p&&decide (xs (1+j)/16%2=1))⟩;obtain⟨K,J,I,C,O⟩:=ZCO n (j+1) (s.h+s.m) (acc++[s]) (zI j) (zI s.m) (zS (wy s.r)) (by lia) (by simp;lia);refine⟨K,J,I,C,?_⟩;have E:∀G,Br (.int u) (.int (xs (1+j)%4)) G=.ok (.int (u*(xs (1+j)%4))) G:=λG=>Hh (by lia) (by lia)
  have B:∀G,Br (.int u) (.int (xs (1+j)/4%4)) G=.ok (.int (u*(xs (1+j)/4%4))) G:=λG=>Hh (by lia) (by lia)
  have w:acc.length<1000000:=by lia
  have M:Qg [zF (tab 4 xs),zI u,zB p,zR G.length,zI q,zI j,y,z] (G++[.lst (acc.map Stp.enc)])=
    .nx [zF (tab 4 xs),zI u,zB p,zR G.length,zI (s.h+s.m),zI j,zI s.m,zS (wy s.r)] (G++[.lst ((acc++[s]).map Stp.enc)]):=by
   unfold Qg;cases p with
   |false=>simp[F,E,B,Bu,Dq,w,Ah,s,Stp.enc,wy]
   |true=>
    by_cases A:xs (1+j)/16%2=1
    .simp[F,E,B,A,Bu,Dq,w,Ah,s,Stp.enc,wy]
    simp[F,E,B,A,Bu,Dq,w,Ah,s,Stp.enc,wy]
  rw[Hk,Bv];simp only[Ce,R.Bq,qY,M,Cd];have N:((j:Int)+1)=((j+1:Nat):Int):=by lia
  rw[N,O];simp[Li,s]
def stps(xs:Nat->Int)(u:Int)(p:Bool):List Stp:=Li xs u p (xs 0%4).toNat 0 0
theorem ZEG(G:DH):Vi [.fl (tab 4 xs),.int u,.bl p] G=.ok (.tup ((stps xs u p).map Stp.enc)) G:=by
 obtain⟨C,B,A,w,z⟩:=ZCO (xs 0%4).toNat 0 0 [] u8 u8 u8 (by lia) (by simp;lia);have q:Aw (gV 5) Qg (Bh 0 (xs 0%4).toNat) [zF (tab 4 xs),zI u,zB p,zR G.length,zI 0,u8,u8,u8] (G++[.lst []])=.nx [zF (tab 4 xs),zI u,zB p,zR G.length,w,C,B,A] (G++[.lst ((stps xs u p).map Stp.enc)]):=z;have y:atI (tab 4 xs) 0=zI (xs 0):=Dj (k:=0) rfl (Lq (by lia));have x:inR (xs 0%4):=Ek (by lia) (by lia)
 unfold Vi ZBw;rw[Ag];simp[Af,Ds,y,x,q,Bu,Je]
def Dg(st:List Stp):Int:=match st with
 |[]=>0
 |s::r=>(if s.r then 0 else s.m)+Dg r
theorem ZEL{c:D}:∀(st:List Stp)(v:Int)(x y z:Option D),∃A u w,Aw (Aj 3 (Ab (gV 2) (Ab (gV 3) (Ab (gV 4) Al)))) Vc (st.map Stp.enc) [u7 c,zI v,x,y,z] G=.nx [u7 c,zI (v+Dg st),A,u,w] G
 |[],v,x,y,z=>⟨x,y,z,by simp[Dg,Cr]⟩
 | s::st,v,x,y,z=>by
  let q:Int:=v+if s.r then 0 else s.m
  obtain⟨A,u,w,C⟩:=ZEL st q (zI s.h) (zI s.m) (zS (wy s.r));refine⟨A,u,w,?_⟩;have B:Vc [u7 c,zI v,zI s.h,zI s.m,zS (wy s.r)] G=.nx [u7 c,zI q,zI s.h,zI s.m,zS (wy s.r)] G:=by
   unfold Vc
   cases e:s.r<;>simp[q,e]
  rw[zk,Bv];simp[Stp.enc,B];rw[C];simp[Dg,q,Int.add_assoc]
theorem ZKP(G:DH):Vp [.tup (st.map Stp.enc)] G=.ok (.int (Dg st)) G:=by obtain⟨x,u,w,q⟩:=ZEL (c:=.tup (st.map Stp.enc)) (G:=G) st 0 u8 u8 u8;unfold Vp ZBH;rw[Ag];simp at q;simp[q,Ar]
theorem ZJW(u:Cf ns f):∃y:Int,(1<=y/\y<=4)/\Cy ns y:=by have q:∀G,Bb [nD ns,.int 1] G=.ok (.int (f 1)) G:=u 1 (by lia);refine⟨1+f 1%4,by lia,λG=>?_⟩;unfold Rg ZG2;rw[Ag];simp[q,Ar]
def Dv(lat:Nat->Int)(cel:Nat->Nat->Int)(u:Int)(p:Bool)(yr:Int):Nat->Nat->Int->List Ssn
 |0,_,_=>[]
 |m+1,j,bg=>if j=0\/(lat j%2=1/\bg+1<yr)then(if 0<j then bg+1+lat j/2%(yr-bg-1)else bg,stps (cel j) u p)::Dv lat cel u p yr m (j+1) (if 0<j then bg+1+lat j/2%(yr-bg-1)else bg)
  else Dv lat cel u p yr m (j+1) bg
theorem ZAR(q:0<u):∀(m j:Nat)(w:Int),∀s∈Dv lat cel u p yr m j w,Good 0 s.2/\(p=uA->∀t∈s.2,t.r=u9)
 |0,_,_,s,h=>by cases h
 | m+1,j,w,s,h=>by
  unfold Dv at h;split at h
  .rcases zj.mp h with rfl|h
   .refine⟨ZEZ q _ _ _,λhp=>?_⟩;subst hp;exact ZGk _ _ _
   exact ZAR q m (j+1) _ s h
  exact ZAR q m (j+1) _ s h
theorem Wy{yr:Int}:∀(m j:Nat)(q:Int),0<j->q<yr->(∀s∈Dv lat cel u p yr m j q,q<s.1/\s.1<yr)/\(Dv lat cel u p yr m j q).Pairwise (λa b:Ssn=>a.1<b.1)
 |0,_,_,_,_=>⟨λs h=>(nomatch h),List.Pairwise.nil⟩
 | m+1,j,q,I,B=>by
  unfold Dv;split
  .rename_i C;have y:q+1<yr:=by
    rcases C with z|z
    .lia
    exact z.2
   have F:0<=lat j/2%(yr-q-1):=jB _ (by lia);have E:lat j/2%(yr-q-1)<yr-q-1:=jw _ (by lia);obtain⟨x,A⟩:=Wy (yr:=yr) m (j+1) (q+1+lat j/2%(yr-q-1)) (by lia) (by lia);refine⟨λs w=>?_,List.pairwise_cons.mpr ⟨λs w=>(x s w).1,A⟩⟩;rcases zj.mp w with rfl|w
   .exact⟨by lia,by show q+1+_<yr;lia⟩
   have:=x s w;lia
  exact Wy m (j+1) q (by lia) B
theorem M3{te:DE}{n:Nat}{F:Nat->D}(h:∀k:Nat,k<n->te (S.set 0 (zI k)) G=.ok (F k) G):Cg (gV 0) Bc te S (Bh 0 n) G=.ok ((zZ n).map F) G:=by
 have e:Bh 0 n=(zZ n).map λ(i:Nat)=>D.int (i:Int):=by
  refine jD λi=>?_
  simp[Bh]
 rw[Vs (F:=λd=>match d with | .int i=>u7 (F i.toNat)|_=>u8) (λq u=>?_)]
 .congr 1
  rw[e,qW];show(zZ n).filterMap (λ(i:Nat)=>u7 (F ((i:Int).toNat)))=_;rw[q8];simp
 rw[e]at u;obtain⟨i,w,rfl⟩:=z9.mp u;exact⟨S.set 0 (zI i),by simp,.inr ⟨rfl,F i,h i (qw.mp w),by simp⟩⟩
def Oq:Nat->Int
 |0=>1
 |1=>48
 |2=>2304
 |_=>110592
def Wz:Nat->Int
 |0=>1
 |1=>64
 |2=>4096
 |_=>262144
theorem ZFi(w:Cf ns f){b:Nat}(x:b<=900)(y:j<4)(G:DH):
  Cg (gV 0) Bc Zq [u8,zN ns,zI b,zI j] (Bh 0 4) G=.ok (tab 4 λk=>f (b+5+(3*j+k)%6)/(1+7*((j:Int)/2))) G:=
 M3 λk hk=>by
  have q:=w (b+5+(3*j+k)%6) (by lia) G;have u:((b+5+(3*j+k)%6:Nat):Int)=(b:Int)+5+(3*(j:Int)+k)%6:=by lia
  rw[u]at q;unfold Zq
  rcases(by lia:j=0\/j=1\/j=2\/j=3)with rfl|rfl|rfl|rfl<;>simp at q⊢<;> simp[q]
theorem ZN9(x:Cf ns f){b:Nat}(y:b<=900)(z:j<4)(G:DH):
  Cg (gV 0) Bc ZAD [u8,zN ns,zI b,zI j] (Bh 0 4) G=.ok (tab 4 λk=>f (b+5+k)/Wz j) G:=
 M3 λk hk=>by
  have q:=x (b+5+k) (by lia) G;have u:((b+5+k:Nat):Int)=(b:Int)+5+k:=by lia
  rw[u]at q;have w:freeze G (.ok (.ref G.length) (G++[.lst [.int 1,.int 64,.int 4096,.int 262144]]))=.ok (.fl [.int 1,.int 64,.int 4096,.int 262144]) G:=Cz rfl;unfold ZAD
  rcases(by lia:j=0\/j=1\/j=2\/j=3)with rfl|rfl|rfl|rfl<;>simp[q,Af,w,Wz]
theorem ZQP(N:Cf ns f){b:Nat}(X:b<=900)(Y:j<4):∃(lat:Int)(xs:Nat->Int),∀(G:DH)(q:Int)(acc:List Ssn)(x y:Option D),acc.length<=10->q<yr->∃B A,
   Kh [zN ns,zI b,zI u,zB p,zI yr,zR G.length,zI q,zI j,x,y] (G++[.lst (acc.map Bk)])=
    .nx [zN ns,zI b,zI u,zB p,zI yr,zR G.length,zI B,zI j,zI lat,zF (tab 4 xs)] (G++[.lst (A.map Bk)])/\
   ((j=0\/(lat%2=1/\q+1<yr))->B=(if 0<j then q+1+lat/2%(yr-q-1)else q)/\A=acc++[(B,stps xs u p)])/\
   (¬(j=0\/(lat%2=1/\q+1<yr))->B=q/\A=acc):=by
 obtain⟨Z,M⟩:=ZD7 (ns:=ns);have U:=N (b+4) (by lia);have e4:((b+4:Nat):Int)=(b:Int)+4:=by lia
 rw[e4]at U;let lat:Int:=if Z then f (b+4)/Oq j else f (b+4)*48271*((j:Int)*j+1)%10007
 let xs:Nat->Int:=if Z then λk=>f (b+5+k)/Wz j else λk=>f (b+5+(3*j+k)%6)/(1+7*((j:Int)/2))
 refine⟨lat,xs,λG q acc x y ha hbg=>?_⟩;have hr:inR 4:=Ek (by lia) (by lia);have E:acc.length<1000000:=by lia
 have fz:∀O:List D,(∀m,bels m O=u9)->freeze (G++[.lst (acc.map Bk)]) (.ok (.ref (G.length+1)) (G++[.lst (acc.map Bk),.lst O]))=.ok (.fl O) (G++[.lst (acc.map Bk)]):=λO h=>ZCf (h _)
 have J:∀a b c d e f' g h i j':Option D,Ax 1 [0,1,7] [a,b,c,d,e,f',g,h,i,j']=[u8,a,b,h]:=λ_ _ _ _ _ _ _ _ _ _=>rfl
 have mj:∀G,Br (.int (j:Int)) (.int (j:Int)) G=.ok (.int ((j:Int)*j)) G:=λG=>Gh (by lia) (by lia)
 have L:∀G,Br (.int (f (b+4)*48271)) (.int ((j:Int)*j+1)) G=.ok (.int (f (b+4)*48271*((j:Int)*j+1))) G:=λG=>Hh (by
   have:=j3 (show(0:Int)<=j by lia) (show(0:Int)<=j by lia);lia) (by
   rcases(by lia:j=0\/j=1\/j=2\/j=3)with rfl|rfl|rfl|rfl<;>decide)
 have F:Kh [zN ns,zI b,zI u,zB p,zI yr,zR G.length,zI q,zI j,x,y] (G++[.lst (acc.map Bk)])=
   W7 [zN ns,zI b,zI u,zB p,zI yr,zR G.length,zI q,zI j,zI lat,zF (tab 4 xs)] (G++[.lst (acc.map Bk)]):=by
  unfold Kh ZF8 ZCL;cases w:Z with
  |false=>
   have e1:lat=f (b+4)*48271*((j:Int)*j+1)%10007:=by simp[lat,w]
   have P:xs=λk=>f (b+5+(3*j+k)%6)/(1+7*((j:Int)/2)):=by simp[xs,w]
   rw[e1,P];rw[w]at M;simp[U,mj,L,hr,J,ZFi N X Y,Af,fz,M]
  |true=>
   have e1:lat=f (b+4)/Oq j:=by simp[lat,w]
   have P:xs=λk=>f (b+5+k)/Wz j:=by simp[xs,w]
   rw[e1,P];rw[w]at M;have dv:atI [D.int 1,D.int 48,D.int 2304,D.int 110592] (j:Int)=zI (Oq j):=by rcases(by lia:j=0\/j=1\/j=2\/j=3)with rfl|rfl|rfl|rfl<;>rfl
   have dd:∀T,Ou (.int (f (b+4))) (.int (Oq j)) T=.ok (.int (f (b+4)/Oq j)) T:=λT=>by rcases(by lia:j=0\/j=1\/j=2\/j=3)with rfl|rfl|rfl|rfl<;>simp[Oq]
   have Q:freeze (G++[.lst (acc.map Bk)]) (.ok (.ref (G.length+1)) (G++[.lst (acc.map Bk),.lst [D.int 1,D.int 48,D.int 2304,D.int 110592]]))=.ok (.fl [D.int 1,D.int 48,D.int 2304,D.int 110592]) (G++[.lst (acc.map Bk)]):=ZCf rfl;simp[U,mj,L,hr,J,ZFi N X Y,Af,fz,M,Q,dv,dd,ZN9 N X Y]
 rw[F]
 clear_value lat xs
 by_cases I:j=0\/(lat%2=1/\q+1<yr)
 .refine⟨_,_,?_,λ_=>⟨rfl,rfl⟩,λz=>absurd I z⟩;unfold W7;by_cases C:j=0
  .subst C;simp[ZEG,Ah,Bu,Dq,E,Bk]
  have K:lat%2=1/\q+1<yr:=by
   rcases I with z|z
   .exact absurd z C
   exact z
  have hj0:0<j:=by lia
  have hp3:1<yr-q:=by lia
  simp[C,K.1,K.2,hj0,hp3,ZEG,Ah,Bu,Dq,E,Bk]
 refine⟨q,acc,?_,λz=>absurd z I,λ_=>⟨rfl,rfl⟩⟩;have C:¬j=0:=λz=>I (.inl z)
 unfold W7;by_cases W:lat%2=1
 .have h2:¬q+1<yr:=λz=>I (.inr ⟨W,z⟩)
  simp[C,W,h2]
 simp[C,W]
theorem Zw{b:Nat} 
  (O:∀j:Nat,j<4->∀(G:DH)(q:Int)(acc:List Ssn)(x y:Option D),acc.length<=10->q<yr->∃w A,
   Kh [zN ns,zI b,zI u,zB p,zI yr,zR G.length,zI q,zI j,x,y] (G++[.lst (acc.map Bk)])=
    .nx [zN ns,zI b,zI u,zB p,zI yr,zR G.length,zI w,zI j,zI (lat j),zF (tab 4 (cel j))] (G++[.lst (A.map Bk)])/\
   ((j=0\/(lat j%2=1/\q+1<yr))->w=(if 0<j then q+1+lat j/2%(yr-q-1)else q)/\A=acc++[(w,stps (cel j) u p)])/\
   (¬(j=0\/(lat j%2=1/\q+1<yr))->w=q/\A=acc)) {G:DH}:∀(m j:Nat)(q:Int)(acc:List Ssn)(x y z:Option D),j+m=4->acc.length<=j->q<yr->∃F K E I,
   Aw (gV 7) Kh (Bh j m) [zN ns,zI b,zI u,zB p,zI yr,zR G.length,zI q,x,y,z] (G++[.lst (acc.map Bk)])=
    .nx [zN ns,zI b,zI u,zB p,zI yr,zR G.length,F,K,E,I] (G++[.lst ((acc++Dv lat cel u p yr m j q).map Bk)])
 |0,j,q,acc,x,y,z,e,U,L=>⟨zI q,x,y,z,by rw[Ib,Cr];simp[Dv]⟩
 | m + 1,j,q,acc,x,y,z,e,U,L=>by
  obtain⟨w,A,P,X,T⟩:=O j (by lia) G q acc y z (by lia) L;have Q:((j:Int)+1)=((j+1:Nat):Int):=by lia
  by_cases J:j=0\/(lat j%2=1/\q+1<yr)
  .obtain⟨B,C⟩:=X J;have M:w<yr:=by
    rw[B];split
    .have Y:q+1<yr:=by
      rcases J with z|z
      .lia
      exact z.2
     have Z:lat j/2%(yr-q-1)<yr-q-1:=jw _ (by lia);lia
    exact L
   obtain⟨F,K,E,I,N⟩:=Zw O m (j+1) w A (zI j) (zI (lat j)) (zF (tab 4 (cel j))) (by lia) (by rw[C];simp;lia) M;refine⟨F,K,E,I,?_⟩;rw[Hk,Bv];simp[Ce,R.Bq,qY,P,Cd];have W:Dv lat cel u p yr (m+1) j q=(w,stps (cel j) u p)::Dv lat cel u p yr m (j+1) w:=by rw[B];exact if_pos J
   rw[Q,N,C,W];simp
  obtain⟨B,C⟩:=T J;obtain⟨F,K,E,I,N⟩:=Zw O m (j+1) w A (zI j) (zI (lat j)) (zF (tab 4 (cel j))) (by lia) (by rw[C];lia) (B▸L);refine⟨F,K,E,I,?_⟩;rw[Hk,Bv];simp only[Ce,R.Bq,qY,P,Cd];rw[Q,N,C,B]
  conv=>rhs;unfold Dv
  rw[if_neg J]
structure RuleOk (yr:Int) (p:Bool) (r:List Ssn):Prop where
 good:∀s∈r,Good 0 s.2/\(p=uA->∀t∈s.2,t.r=u9)
 cons:∃st rest,r=(0,st)::rest
 asc:r.Pairwise (λa b:Ssn=>a.1<b.1)
 yr:∀s∈r,0<=s.1/\s.1<yr
 len:r.length<=4
theorem Xh{lat:Nat->Int}{cel:Nat->Nat->Int}{u:Int}{p:Bool}{yr:Int}:∀(m j:Nat)(q:Int),(Dv lat cel u p yr m j q).length<=m
 |0,_,_=>zY _
 |m+1,j,q=>by
  unfold Dv;split
  .have:=Xh (lat:=lat) (cel:=cel) (u:=u) (p:=p) (yr:=yr) m (j+1) (if 0<j then q+1+lat j/2%(yr-q-1)else q);simp[zL];lia
  have:=Xh (lat:=lat) (cel:=cel) (u:=u) (p:=p) (yr:=yr) m (j+1) q;lia
theorem ZDJ(T:Cf ns f)(Q:1<=yr/\yr<=24)(O:Cy ns yr){b:Nat}(Y:b<=900)(hu:0<u):
  ∃r:List Ssn,RuleOk yr p r/\∀G,Tf [nD ns,.int b,.int u,.bl p] G=.ok (.tup (r.map Bk)) G:=by
 have L:∀j:Nat,∃q:Int×(Nat->Int),j<4->∀(G:DH)(F:Int)(C:List Ssn)(x y:Option D),C.length<=10->F<yr->∃E B,
   Kh [zN ns,zI b,zI u,zB p,zI yr,zR G.length,zI F,zI j,x,y] (G++[.lst (C.map Bk)])=
    .nx [zN ns,zI b,zI u,zB p,zI yr,zR G.length,zI E,zI j,zI q.1,zF (tab 4 q.2)] (G++[.lst (B.map Bk)])/\
   ((j=0\/(q.1%2=1/\F+1<yr))->E=(if 0<j then F+1+q.1/2%(yr-F-1)else F)/\B=C++[(E,stps q.2 u p)])/\
   (¬(j=0\/(q.1%2=1/\F+1<yr))->E=F/\B=C):=λj=>by
  by_cases K:j<4
  .obtain⟨w,P,h⟩:=ZQP T Y K;exact⟨(w,P),λ_=>h⟩
  exact⟨(0,λ_=>0),λz=>absurd z K⟩
 let w:Nat->Int:=λj=>(L j).choose.1
 let A:Nat->Nat->Int:=λj=>(L j).choose.2
 refine⟨Dv w A u p yr 4 0 0,⟨ZAR hu 4 0 0,?_,?_,?_,Xh 4 0 0⟩,λG=>?_⟩
 .unfold Dv;rw[if_pos (.inl rfl)];exact⟨_,_,rfl⟩
 .unfold Dv;rw[if_pos (.inl rfl)];obtain⟨M,N⟩:=Wy (yr:=yr) 3 1 0 (by lia) (by lia);exact List.pairwise_cons.mpr ⟨λs J=>(M s J).1,N⟩
 .unfold Dv;rw[if_pos (.inl rfl)];obtain⟨M,N⟩:=Wy (yr:=yr) 3 1 0 (by lia) (by lia);intro s J;rcases zj.mp J with rfl|J
  .exact⟨jJ _,by show(0:Int)<yr;lia⟩
  have:=M s J;lia
 obtain⟨X,y',W,Z,U⟩:=Zw (lat:=w) (cel:=A) (λ(j:Nat)(K:j<4)=>(L j).choose_spec K) 4 0 0 [] u8 u8 u8 (by lia) (by simp) (by lia);have I:Aw (gV 7) Kh (Bh 0 4) [zN ns,zI b,zI u,zB p,zI yr,zR G.length,zI 0,u8,u8,u8] (G++[.lst []])=.nx [zN ns,zI b,zI u,zB p,zI yr,zR G.length,X,y',W,Z] (G++[.lst ((Dv w A u p yr 4 0 0).map Bk)]):=U;have hr:inR 4:=Ek (by lia) (by lia);generalize Dv w A u p yr 4 0 0=rl at I
 unfold Tf ZFJ;rw[Ag];simp[O,Af,Ds,hr,I,Bu,Je]
def lowA:List Nat:=("abcdefghijklmnopqrstuvwxyz":Str).cps.toList
def Zg:List Nat:=("abcdefghijkl":Str).cps.toList
theorem ZQS:∀i,i<26->lowA[i]?=u7 (97+i):=by decide +kernel
theorem ZMQ:∀i,i<12->Zg[i]?=u7 (97+i):=by decide +kernel
def Di(l:List Nat):Str:=⟨l.toArray⟩
theorem ZHZ{l q:List Nat}(h:Di l=Di q):l=q:=by simpa[Di]using(congrArg (λs:Str=>s.cps.toList) h)
theorem ZKL{l q:List Nat}:Di l++Di q=Di (l++q):=by show Str.append _ _=_;unfold Str.append Di;simp
theorem ZEH{s:Str}{l:List Nat}(h:s.cps.toList=l):s=Di l:=by obtain⟨a⟩:=s;unfold Di;simp only at h;rw[<-h]
theorem ZKb{o:Nat}{n:Int}:Lr ⟨#[o]⟩ n=Di (zV n.toNat o):=by
 refine ZEH ?_;rw[ZNH];generalize n.toNat=m
 induction m with
 |zero=>rfl
 |succ m q=>rw[qX,qG,q,qX];rfl
def ocF(c:Int):Nat:=97+(c/21%26).toNat
def tcF(c:Int)(k:Nat):Nat:=97+((5*(k:Int)+c/546)%12).toNat
noncomputable def Ew(c:Int)(n k:Nat):List Nat:=if c%3=1/\n<9 then zV (k+1) (ocF c)else if c%3=2 then tcF c k::zV (c/3%7).toNat (ocF c)else zV (c/3%7).toNat (ocF c)++tcF c k::zV (6-(c/3%7)).toNat (ocF c)
theorem ZPJ{n k:Nat}(Q:n<=12)(hk:k<n)(G:DH):Wm [.int c,.int k,.int n] G=.ok (.str (Di (Ew c n k))) G:=by
 have P:atI Zg ((5*(k:Int)+c/546)%12)=u7 (tcF c k):=Dj (by lia) (ZMQ _ (by lia));have A:∀m:Int,-1000<=m->m<=1000->∀G,Br (.str ⟨#[ocF c]⟩) (.int m) G=.ok (.str (Di (zV m.toNat (ocF c)))) G:=λm u B G=>by rw[ZMP ⟨u,B,by show(#[ocF c]).size<=1000;simp⟩,ZKb]
 have J:∀G,Bj (.str ("abcdefghijklmnopqrstuvwxyz":Str)) (.int (c/21%26)) G=R.ok (.str ⟨#[ocF c]⟩) G:=λG=>by
  rw[Nk,if_pos (by decide +kernel)]
  show(match atI lowA (c/21%26)with |some c=>R.ok (sgn c) G|none=>.bad)=_
  rw[Dj (k:=(c/21%26).toNat) (by lia) (ZQS _ (by lia))]
  rfl
 have K:∀G,Bj (.str ("abcdefghijkl":Str)) (.int ((5*(k:Int)+c/546)%12)) G=R.ok (.str (Di [tcF c k])) G:=λG=>by
  rw[Nk,if_pos (by decide +kernel)]
  show(match atI Zg ((5*(k:Int)+c/546)%12)with |some c=>R.ok (sgn c) G|none=>.bad)=_
  rw[P]
  rfl
 have q:∀(l w:List Nat)(G:DH),l.length+w.length<=1000000->I8 (.str (Di l)) (.str (Di w)) G=.ok (.str (Di (l++w))) G:=λl w G h=>by
  have e:I8 (.str (Di l)) (.str (Di w)) G=if(Di l).length+(Di w).length<=1000000 then .ok (.str (Di l++Di w)) G else .bad:=rfl
  rw[e,if_pos (by show l.toArray.size+w.toArray.size<=1000000;simpa using h),ZKL]
 unfold Wm ZF9;rw[Ag];by_cases u:c%3=1
 .by_cases M:n<9
  .have x:Ew c n k=zV (k+1) (ocF c):=if_pos ⟨u,M⟩;have I:=A ((k:Int)+1) (by lia) (by lia);have O:((k:Int)+1).toNat=k+1:=by lia
   rw[O]at I;rw[x];have y:(n:Int)<9:=by lia
   simp[-Nk,J,u,y,I,Ar]
  have x:Ew c n k=zV (c/3%7).toNat (ocF c)++tcF c k::zV (6-(c/3%7)).toNat (ocF c):=by unfold Ew;rw[if_neg (λz=>M z.2),if_neg (by lia)]
  have L:=A (c/3%7) (by lia) (by lia);have N:=A (6-(c/3%7)) (by lia) (by lia);have C:=λG=>q (zV (c/3%7).toNat (ocF c)) [tcF c k] G (by simp;lia)
  have E:=λG=>q (zV (c/3%7).toNat (ocF c)++[tcF c k]) (zV (6-(c/3%7)).toNat (ocF c)) G (by simp;lia)
  have F:zV (c/3%7).toNat (ocF c)++[tcF c k]++zV (6-(c/3%7)).toNat (ocF c)=Ew c n k:=by rw[x];simp
  rw[F]at E;have y:¬(n:Int)<9:=by lia
  simp[-Nk,J,K,u,y,L,N,C,E,Ar]
 by_cases B:c%3=2
 .have x:Ew c n k=tcF c k::zV (c/3%7).toNat (ocF c):=by unfold Ew;rw[if_neg (λz=>u z.1),if_pos B]
  have L:=A (c/3%7) (by lia) (by lia);have C:=λG=>q [tcF c k] (zV (c/3%7).toNat (ocF c)) G (by simp;lia)
  have F: [tcF c k]++zV (c/3%7).toNat (ocF c)=Ew c n k:=by rw[x];rfl
  rw[F]at C;simp[-Nk,J,K,B,L,C,Ar]
 .have x:Ew c n k=zV (c/3%7).toNat (ocF c)++tcF c k::zV (6-(c/3%7)).toNat (ocF c):=by unfold Ew;rw[if_neg (λz=>u z.1),if_neg B]
  have C:=λG=>q (zV (c/3%7).toNat (ocF c)) [tcF c k] G (by simp;lia)
  have E:=λG=>q (zV (c/3%7).toNat (ocF c)++[tcF c k]) (zV (6-(c/3%7)).toNat (ocF c)) G (by simp;lia)
  have F:zV (c/3%7).toNat (ocF c)++[tcF c k]++zV (6-(c/3%7)).toNat (ocF c)=Ew c n k:=by rw[x];simp
  rw[F]at E;simp[-Nk,J,K,u,B,A (c/3%7) (by lia) (by lia),A (6-(c/3%7)) (by lia) (by lia),C,E,Ar]
theorem ZFr{k q:Nat}(hk:k<12)(u:q<12)(h:tcF c k=tcF c q):k=q:=by unfold tcF at h;omega +splitNatSub
theorem ZPS{n k q:Nat}(w:n<=12)(hk:k<n)(u:q<n)(h:Ew c n k=Ew c n q):k=q:=by
 unfold Ew at h;split at h
 .have:=congrArg List.length h;simp at this;exact this
 split at h
 .exact ZFr (by lia) (by lia) (List.cons.inj h).1
 .have:=List.append_cancel_left h;exact ZFr (by lia) (by lia) (List.cons.inj this).1
theorem ZI7:("sea":Str)=Di [115,101,97]:=by decide +kernel
theorem ZRv{n k:Nat}:Di (Ew c n k)≠"sea":=λh=>by
 rw[ZI7]at h;have h:=ZHZ h;unfold Ew at h;split at h
 .have q:∀x∈[115,101,97],x=ocF c:=λx u=>by rw[<-h]at u;exact List.eq_of_mem_replicate u
  have a:=q 115 (by simp);have b:=q 101 (by simp);lia
 split at h
 .have:=(List.cons.inj h).1;unfold tcF at this;lia
 .have:=congrArg List.length h;simp at this;lia
theorem Pa{c:Type}{te:DE}{S:DSt}{E:c->D}{F:c->D}{G:DH}:∀{l:List c},(∀a∈l,te (S.set 0 (u7 (E a))) G=.ok (F a) G)->Cg (gV 0) Bc te S (l.map E) G=.ok (l.map F) G
 |[],_=>rfl
 |a::l,h=>by rw[zk,Zn];simp[h a (by simp),Pa (te:=te) (S:=S) (E:=E) (F:=F) (G:=G) (l:=l) λb d=>h b (zX _ d)]
def Be(nm:Nat->Str)(n:Nat):List D:=(zZ n).map λk=>.str (nm k)
theorem Ur{nm:Nat->Str}{n k:Nat}(h:k<n):atI (Be nm n) (k:Int)=zS (nm k):=Dj rfl (by simp[Be,h])
theorem Uo{nm:Nat->Str}{n:Nat}:(Be nm n).length=n:=by simp[Be]
@[simp]theorem ZKz{nm:Nat->Str}{n:Nat}:bels m (Be nm n)=u9:=Dw λ_ _=>rfl
def Ft(nm:Nat->Str):Option (Nat×Nat×Int)->D
 |none=>.non
 |some (to,dl,m)=>.tup [.str (nm to),.int dl,.int m]
@[simp]theorem ZSy{nm:Nat->Str}{q:Option (Nat×Nat×Int)}:bel m (Ft nm q)=u9:=by
 cases q with
 |none=>rfl
 |some q=>obtain⟨a,b,c⟩:=q;simp[Ft]
theorem ZRn(B:Cf ns f)(o:1<=yr/\yr<=24)(O:Cy ns yr)(M:0<u)(cu:Cu ns u){b k n:Nat}(Q:b<=900)(hk:k<n)(hn:n<=12){nm:Nat->Str}{d:Str}{dl:Int}:
  ∃(r:List Ssn)(q:Option (Nat×Nat×Int)),RuleOk yr q.isSome r/\(∀E dl m,q=u7 (E,dl,m)->E<n/\1<=dl/\dl<=5)/\
   ∀G,Sd [nD ns,.int b,.int k,.fl (Be nm n),.tup [.str d,.int dl]] G=.ok (.tup [.str "basin",.str (nm k),.str d,.int dl,.int (amt (f (b+3)) u),.tup (r.map Bk),Ft nm q]) G:=by
 have z:∀G,Bb [nD ns,.int ((b:Int)+11)] G=.ok (.int (f (b+11))) G:=λG=>by have:=B (b+11) (by lia) G;rwa[show((b+11:Nat):Int)=(b:Int)+11 by lia]at this
 have h3:∀G,Bb [nD ns,.int ((b:Int)+3)] G=.ok (.int (f (b+3))) G:=λG=>by have:=B (b+3) (by lia) G;rwa[show((b+3:Nat):Int)=(b:Int)+3 by lia]at this
 have T:atI (Be nm n) (k:Int)=zS (nm k):=Ur hk;have fu:∀G,freeze G (.ok (.int u) G)=.ok (.int u) G:=λG=>J0 rfl
 generalize f (b+11)=c at z;have L:∀G,Y0 [zN ns,zI b,zI k,zF (Be nm n),zT [.str d,.int dl],u8,u8,u8,u8,u8,u8,u8,u8] G=
   Ld [zN ns,zI b,zI k,zF (Be nm n),zT [.str d,.int dl],zI u,zI c,zB (decide (1<n/\c%2=1)),u8,u8,u8,u8,u8] G:=λG=>by
  have t:∀S:DSt,S[3]?=u7 (zF (Be nm n))->S[6]?=u7 (zI c)->Jc (dOp Oi (dFn Ba (Ac (dV 3) Az)) (dC (.int 1))) (dOp Hj (dOp Jt (dV 6) (dC (.int 2))) (dC (.int 1))) S G=.ok (.bl (decide (1<n/\c%2=1))) G:=λS C U=>by
   by_cases l:1<n
   .have a:(1:Int)<n:=by lia
    simp[dV,C,U,Uo,l,a]
   have a:¬(1:Int)<n:=by lia
   simp[dV,C,U,Uo,l,a]
  unfold Y0 ZG5 ZF2;generalize Jc (dOp Oi (dFn Ba (Ac (dV 3) Az)) (dC (.int 1))) (dOp Hj (dOp Jt (dV 6) (dC (.int 2))) (dC (.int 1)))=te at t;generalize Be nm n=H at t;simp[cu,fu,z,t]
 have x:∀(r:List Ssn)(q:Option (Nat×Nat×Int))(Y Z j y:Option D)(G:DH),Ly [zN ns,zI b,zI k,zF (Be nm n),zT [.str d,.int dl],zI u,Y,Z,zT (r.map Bk),u7 (Ft nm q),j,y,u8] G=.rt (.tup [.str "basin",.str (nm k),.str d,.int dl,.int (amt (f (b+3)) u),.tup (r.map Bk),Ft nm q]) G:=λr q Y Z j y G=>by generalize r.map Bk=RR;generalize Ft nm q=PQ;generalize Be nm n=H at T;unfold Ly ZDv;simp[h3,Lw M,T,Ah]
 have cl:∀G,Sd [nD ns,.int b,.int k,.fl (Be nm n),.tup [.str d,.int dl]] G=tidy G ((Ld [zN ns,zI b,zI k,zF (Be nm n),zT [.str d,.int dl],zI u,zI c,zB (decide (1<n/\c%2=1)),u8,u8,u8,u8,u8] G).ret):=λG=>by
  rw[<-L];unfold Sd;rw[Ag]
  rfl
 have td:∀(r:List Ssn)(q:Option (Nat×Nat×Int))(G:DH),tidy G ((SR.rt (.tup [.str "basin",.str (nm k),.str d,.int dl,.int (amt (f (b+3)) u),.tup (r.map Bk),Ft nm q]) G).ret)=.ok (.tup [.str "basin",.str (nm k),.str d,.int dl,.int (amt (f (b+3)) u),.tup (r.map Bk),Ft nm q]) G:=λr q G=>by simp[Ar]
 by_cases hp:1<n/\c%2=1
 .obtain⟨r,i,F⟩:=ZDJ B o O Q M;obtain⟨h,rest,er⟩:=i.cons;have K:0<=((k:Int)+1+c/2%((n:Int)-1))%n:=jB _ (by lia);have I:((k:Int)+1+c/2%((n:Int)-1))%n<n:=jw _ (by lia);generalize ht:((k:Int)+1+c/2%((n:Int)-1))%n=t at K I;have v:atI (Be nm n) t=zS (nm t.toNat):=by have:=Ur (nm:=nm) (n:=n) (k:=t.toNat) (by lia);rwa[show((t.toNat:Nat):Int)=t by lia]at this
  have J:∀G,Ho [.fl (r.map λs=>.int (Dg s.2))] G=.ok (.int ((rest.map λs=>Dg s.2).foldl max (Dg h))) G:=λG=>ZGb (by rw[er];simp[Bd])
  have m2:∀G,Br (.int u) (.int (c/130%2)) G=.ok (.int (u*(c/130%2))) G:=λG=>Hh (by lia) (by lia)
  have N:∀(G:DH),Cg (gV 0) Bc ZAE [u8] (r.map Bk) G=.ok (r.map λs=>.int (Dg s.2)) G:=λG=>Pa λs _=>by unfold ZAE;simp[Bk,ZKP]
  have X:∀G:DH,freeze G (.ok (.ref G.length) (G++[.lst (r.map λs=>.int (Dg s.2))]))=.ok (.fl (r.map λs=>.int (Dg s.2))) G:=λG=>Cz (Dw λ_ _=>rfl)
  have hd:((1+c/26%5).toNat:Int)=1+c/26%5:=by lia
  refine⟨r,u7 (t.toNat,(1+c/26%5).toNat,(rest.map λs=>Dg s.2).foldl max (Dg h)+u*(c/130%2)),i,?_,λG=>?_⟩
  .intro E dl m e;cases e;lia
  have C:(1:Int)<n:=by lia
  have w:0<n:=by lia
  have A:(r.map Bk).length<=1000000:=by have:=i.len;simp;lia
  have W:(r.map λs=>D.int (Dg s.2)).length<=1000000:=by have:=i.len;simp;lia
  have g:Ld [zN ns,zI b,zI k,zF (Be nm n),zT [.str d,.int dl],zI u,zI c,zB u9,u8,u8,u8,u8,u8] G=
    Ly [zN ns,zI b,zI k,zF (Be nm n),zT [.str d,.int dl],zI u,zI c,zB u9,zT (r.map Bk),u7 (Ft nm (u7 (t.toNat,(1+c/26%5).toNat,(rest.map λs=>Dg s.2).foldl max (Dg h)+u*(c/130%2)))),zI ((rest.map λs=>Dg s.2).foldl max (Dg h)+u*(c/130%2)),zS (nm t.toNat),u8] G:=by
   have P:(Be nm n).length=n:=Uo;show _=Ly [zN ns,zI b,zI k,zF (Be nm n),zT [.str d,.int dl],zI u,zI c,zB u9,zT (r.map Bk),zT [.str (nm t.toNat),.int ((1+c/26%5).toNat:Nat),.int ((rest.map λs=>Dg s.2).foldl max (Dg h)+u*(c/130%2))],zI ((rest.map λs=>Dg s.2).foldl max (Dg h)+u*(c/130%2)),zS (nm t.toNat),u8] G;rw[hd];generalize(rest.map λs=>Dg s.2).foldl max (Dg h)=MX at J
   generalize Be nm n=H at v P;generalize r.map Bk=RR at F N A;generalize(r.map λs=>D.int (Dg s.2))=RP at J N X W;unfold Ld Yn ZAe;simp[A,F,N,Ax,X,W,J,m2,P,C,by omega,by omega,w,ht,v,Ah]
  rw[cl,decide_eq_true hp,g,x,td]
 obtain⟨r,i,F⟩:=ZDJ B o O Q M (p:=uA);refine⟨r,u8,i,(nofun),λG=>?_⟩;have g:Ld [zN ns,zI b,zI k,zF (Be nm n),zT [.str d,.int dl],zI u,zI c,zB uA,u8,u8,u8,u8,u8] G=
   Ly [zN ns,zI b,zI k,zF (Be nm n),zT [.str d,.int dl],zI u,zI c,zB uA,zT (r.map Bk),u7 (Ft nm u8),u8,u8,u8] G:=by
  show _=Ly [zN ns,zI b,zI k,zF (Be nm n),zT [.str d,.int dl],zI u,zI c,zB uA,zT (r.map Bk),u7 .non,u8,u8,u8] G;generalize Be nm n=H;unfold Ld Yn ZAe;simp[F]
 rw[cl,decide_eq_false hp,g,x,td]
def dnS(nm:Nat->Str):Option Nat->Str
 |none=>"sea"
 |some d=>nm d
def Gf(nm:Nat->Str)(p:Pl):D:=match p.kd with
 |.basin b r q=>.tup [.str "basin",.str p.nm,.str (dnS nm p.dn),.int p.dl,.int b,.tup (r.map Bk),Ft nm q]
 |.town a b=>.tup [.str "town",.str p.nm,.str (dnS nm p.dn),.int p.dl,.int a,.int b]
 |.mill a=>.tup [.str "mill",.str p.nm,.str (dnS nm p.dn),.int p.dl,.int a]
structure PlOk (yr:Int) (nm:Nat->Str) (n k:Nat) (p:Pl):Prop where
 nm:p.nm=nm k
 dn:∀d,p.dn=u7 d->k<d/\d<n
 dl:p.dl<=5
 basin:∀b r q,p.kd=.basin b r q->0<=b/\RuleOk yr q.isSome r/\∀to dl m,q=u7 (to,dl,m)->to<n/\1<=dl/\dl<=5
 town:∀a b,p.kd=.town a b->0<=a/\0<=b
 mill:∀a,p.kd=.mill a->0<=a
theorem ZIz(S:Cf ns f)(Q:1<=yr/\yr<=24)(cy:Cy ns yr)(I:0<u)(cu:Cu ns u){k n:Nat}(hk:k<n)(hn:n<=12){nm:Nat->Str}:
  ∃p:Pl,PlOk yr nm n k p/\∀(G:DH)(acc:List D)(K m g i x10 x11 x12:Option D),acc.length<=20->∃y6 Z y8 y9 C B E,
   Kv [zN ns,zI c,zI n,zF (Be nm n),zI k,zR G.length,K,m,g,i,x10,x11,x12] (G++[.lst acc])=
    .nx [zN ns,zI c,zI n,zF (Be nm n),zI k,zR G.length,y6,Z,y8,y9,C,B,E] (G++[.lst (acc++[Gf nm p])]):=by
 have L:∀j:Nat,j<=11->∀G,Bb [nD ns,.int (((6+12*k:Nat):Int)+j)] G=.ok (.int (f (6+12*k+j))) G:=λj hj G=>by have:=S (6+12*k+j) (by lia) G;rwa[show((6+12*k+j:Nat):Int)=((6+12*k:Nat):Int)+j by lia]at this
 have hb:6+12*k<=900:=by lia
 have e6:(6+12*(k:Int))=((6+12*k:Nat):Int):=by lia
 have P:∀G,Br (.int 12) (.int (k:Int)) G=.ok (.int (12*(k:Int))) G:=λG=>Gh (by lia) (by lia)
 have h0:∀G,Bb [nD ns,.int ((6+12*k:Nat):Int)] G=.ok (.int (f (6+12*k))) G:=S _ (by lia);have W:∀G,Bb [nD ns,.int (((6+12*k:Nat):Int)+1)] G=.ok (.int (f (6+12*k+1))) G:=L 1 (by lia);have Y:∀G,Bb [nD ns,.int (((6+12*k:Nat):Int)+2)] G=.ok (.int (f (6+12*k+2))) G:=L 2 (by lia);have U:∀G,Bb [nD ns,.int (((6+12*k:Nat):Int)+3)] G=.ok (.int (f (6+12*k+3))) G:=L 3 (by lia)
 have T:∀G,Bb [nD ns,.int (((6+12*k:Nat):Int)+4)] G=.ok (.int (f (6+12*k+4))) G:=L 4 (by lia);have ak:atI (Be nm n) (k:Int)=zS (nm k):=Ur hk;have fu:∀G,freeze G (.ok (.int u) G)=.ok (.int u) G:=λG=>J0 rfl
 have cb:=λd l=>ZRn (nm:=nm) (d:=d) (dl:=l) S Q cy I cu hb hk hn
 generalize 6+12*k=b at L hb e6 h0 W Y U T cb;obtain⟨s,hs0,hs1,hs⟩:∃s:Int,0<=s/\s<(n:Int)-k/\∀(H:DH)(o m g i x10 x11 x12:Option D),Td [zN ns,zI c,zI n,zF (Be nm n),zI k,o,zI b,m,g,i,x10,x11,x12] H=
   Qm [zN ns,zI c,zI n,zF (Be nm n),zI k,o,zI b,zI s,g,i,x10,x11,x12] H:=by
  have X:0<(n:Int)-k:=by lia
  have M:(k:Int)<n:=by lia
  by_cases hw:c/280%3=1
  .refine⟨min 1 ((n:Int)-1-k),by lia,by lia,λH o m g i x10 x11 x12=>?_⟩;unfold Td Ym;simp[W,X,M,hk,hw]
  .refine⟨f (b+1)%((n:Int)-k),jB _ (by lia),jw _ X,λH o m g i x10 x11 x12=>?_⟩;unfold Td Ym;simp[W,X,M,hk,hw]
 obtain⟨dn,l,F,A,hr⟩:∃(dn:Option Nat)(l:Nat),(∀d,dn=u7 d->k<d/\d<n)/\l<=5/\∀(H:DH)(o g i x10 x11 x12:Option D),Qm [zN ns,zI c,zI n,zF (Be nm n),zI k,o,zI b,zI s,g,i,x10,x11,x12] H=
   Qd [zN ns,zI c,zI n,zF (Be nm n),zI k,o,zI b,zI s,zI (f (b+2)),zT [.str (dnS nm dn),.int l],x10,x11,x12] H:=by
  have N:((f (b+2)%2*(f (b+2)/2%6)).toNat:Int)=f (b+2)%2*(f (b+2)/2%6)/\(f (b+2)%2*(f (b+2)/2%6)).toNat<=5:=by rcases(by lia:f (b+2)%2=0\/f (b+2)%2=1)with z|z<;>rw[z]<;>lia
  have md:∀G,Br (.int (f (b+2)%2)) (.int (f (b+2)/2%6)) G=.ok (.int (f (b+2)%2*(f (b+2)/2%6))) G:=λG=>Hh (by lia) (by lia)
  generalize f (b+2)%2*(f (b+2)/2%6)=w at N md;by_cases hp:0<s
  .have a2:atI (Be nm n) ((k:Int)+s)=zS (nm (k+s.toNat)):=by have:=Ur (nm:=nm) (n:=n) (k:=k+s.toNat) (by lia);rwa[show((k+s.toNat:Nat):Int)=(k:Int)+s by lia]at this
   refine⟨u7 (k+s.toNat),w.toNat,λd e=>by cases e;lia,N.2,λH o g i x10 x11 x12=>?_⟩;unfold Qm ZA1 Zi;simp[Y,md,hp,a2,Ah,dnS,N.1]
  .refine⟨u8,w.toNat,(nofun),N.2,λH o g i x10 x11 x12=>?_⟩;unfold Qm ZA1 Zi;simp[Y,md,hp,Ah,dnS,N.1]
 obtain⟨y,hrk,hk2⟩:∃y:Int,0<=y/\∀(H:DH)(o m g i x10 x11 x12:Option D),Qd [zN ns,zI c,zI n,zF (Be nm n),zI k,o,zI b,m,g,i,x10,x11,x12] H=
   N8 [zN ns,zI c,zI n,zF (Be nm n),zI k,o,zI b,m,g,i,zI (f b%5),zI (amt (f (b+3)) u),zI y] H:=by
  have fz:∀G:DH,freeze G (.ok (.ref G.length) (G++[.lst [.int 4,.int 10000000000000000000000000000000000000000]]))=.ok (.fl [.int 4,.int 10000000000000000000000000000000000000000]) G:=λG=>Cz rfl
  rcases(by lia:c/840%2=0\/c/840%2=1)with z|z
  .refine⟨f (b+4)%4,by lia,λH o m g i x10 x11 x12=>?_⟩;unfold Qd ZA8 ZA2;simp[h0,U,T,cu,fu,Lw I,z,Af,fz]
  .refine⟨f (b+4)%10000000000000000000000000000000000000000,by lia,λH o m g i x10 x11 x12=>?_⟩;unfold Qd ZA8 ZA2;simp[h0,U,T,cu,fu,Lw I,z,Af,fz]
 have t:∀acc:List D,acc.length<=20->acc.length<1000000:=λacc h=>by lia
 have go:∀p:Pl,(∀(G:DH)(acc:List D),acc.length<=20->
   N8 [zN ns,zI c,zI n,zF (Be nm n),zI k,zR G.length,zI b,zI s,zI (f (b+2)),zT [.str (dnS nm dn),.int l],zI (f b%5),zI (amt (f (b+3)) u),zI y] (G++[.lst acc])=
    .nx [zN ns,zI c,zI n,zF (Be nm n),zI k,zR G.length,zI b,zI s,zI (f (b+2)),zT [.str (dnS nm dn),.int l],zI (f b%5),zI (amt (f (b+3)) u),zI y] (G++[.lst (acc++[Gf nm p])]))->
   ∀(G:DH)(acc:List D)(K m g i x10 x11 x12:Option D),acc.length<=20->∃y6 Z y8 y9 C B E,
   Kv [zN ns,zI c,zI n,zF (Be nm n),zI k,zR G.length,K,m,g,i,x10,x11,x12] (G++[.lst acc])=
    .nx [zN ns,zI c,zI n,zF (Be nm n),zI k,zR G.length,y6,Z,y8,y9,C,B,E] (G++[.lst (acc++[Gf nm p])]):=λp h9 G acc K m g i x10 x11 x12 v=>by
  refine⟨zI b,zI s,zI (f (b+2)),zT [.str (dnS nm dn),.int l],zI (f b%5),zI (amt (f (b+3)) u),zI y,?_⟩
  .unfold Kv;have e:(sAs (dOp I8 (dC (.int 6)) (dOp Br (dC (.int 12)) (dV 4))) (gV 6)) [zN ns,zI c,zI n,zF (Be nm n),zI k,zR G.length,K,m,g,i,x10,x11,x12] (G++[.lst acc])=.nx [zN ns,zI c,zI n,zF (Be nm n),zI k,zR G.length,zI b,m,g,i,x10,x11,x12] (G++[.lst acc]):=by simp[P,e6]
   rw[Lx,e,Wl,hs,hr,hk2];exact h9 G acc v
 by_cases x:f b%5<2
 .obtain⟨r,q,O,hq,cr⟩:=cb (dnS nm dn) l;refine⟨⟨nm k,dn,l,.basin (amt (f (b+3)) u) r q⟩,⟨rfl,F,A,λb' r' q' e=>?_,(nofun),(nofun)⟩,go _ λG acc v=>?_⟩
  .cases e;exact⟨Px I,O,hq⟩
  .have fr:∀G:DH,freeze G (.ok (.tup [.str "basin",.str (nm k),.str (dnS nm dn),.int l,.int (amt (f (b+3)) u),.tup (r.map Bk),Ft nm q]) G)=.ok (.tup [.str "basin",.str (nm k),.str (dnS nm dn),.int l,.int (amt (f (b+3)) u),.tup (r.map Bk),Ft nm q]) G:=λG=>J0 (by simp)
   unfold N8;simp[x,cr,fr,Bu,Dq,t acc v,Gf]
 by_cases J:f b%5<4
 .refine⟨⟨nm k,dn,l,.town (amt (f (b+3)) u) y⟩,⟨rfl,F,A,(λ_ _ _ e=>nomatch e),λa b' e=>?_,(nofun)⟩,go _ λG acc v=>?_⟩
  .cases e;exact⟨Px I,hrk⟩
  .unfold N8;simp[x,J,ak,Ah,Bu,Dq,t acc v,Gf]
 .refine⟨⟨nm k,dn,l,.mill (amt (f (b+3)) u)⟩,⟨rfl,F,A,(λ_ _ _ e=>nomatch e),(nofun),λa e=>?_⟩,go _ λG acc v=>?_⟩
  .cases e;exact Px I
  .unfold N8;simp[x,J,ak,Ah,Bu,Dq,t acc v,Gf]
theorem ZDZ{n:Nat}{nm:Nat->Str}{P:Nat->Pl} 
  (v:∀k,k<n->∀(acc:List D)(h f g j x10 x11 x12:Option D),acc.length<=20->∃o l q p b a d,
   Kv [zN ns,zI c,zI n,zF (Be nm n),zI k,zR G.length,h,f,g,j,x10,x11,x12] (G++[.lst acc])=
    .nx [zN ns,zI c,zI n,zF (Be nm n),zI k,zR G.length,o,l,q,p,b,a,d] (G++[.lst (acc++[Gf nm (P k)])])):
  ∀(m k:Nat) (acc:List D) (r h f g j x10 x11 x12:Option D),k+m=n->acc.length+m<=20->∃A o l q p b a d,
   Aw (gV 4) Kv (Bh k m) [zN ns,zI c,zI n,zF (Be nm n),r,zR G.length,h,f,g,j,x10,x11,x12] (G++[.lst acc])=
    .nx [zN ns,zI c,zI n,zF (Be nm n),A,zR G.length,o,l,q,p,b,a,d] (G++[.lst (acc++(j6 k m).map λi=>Gf nm (P i))])
 |0,k,acc,r,h,f,g,j,x10,x11,x12,e,y=>⟨r,h,f,g,j,x10,x11,x12,by rw[Ib,Cr];simp⟩
 |m+1,k,acc,r,h,f,g,j,x10,x11,x12,e,y=>by
  obtain⟨o,l,q,p,b,a,d,z⟩:=v k (by lia) acc h f g j x10 x11 x12 (by lia);obtain⟨B,F,x,w,E,t,s,u,C⟩:=ZDZ v m (k+1) (acc++[Gf nm (P k)]) (zI k) o l q p b a d (by lia) (by simp;lia);refine⟨B,F,x,w,E,t,s,u,?_⟩;rw[Hk,Bv];simp[Ce,R.Bq,qY,z,Cd];have H:((k:Int)+1)=((k+1:Nat):Int):=by lia
  rw[H,C];simp[xW]
structure Told (h:Hs) (yr:Int):Prop where
 good:GoodH h
 one:1<=h.n
 ey:h.yr=yr
 ok:∃nm:Nat->Str,∀k,k<h.n->PlOk yr nm h.n k (h.pl k)
theorem ZJ9:∃n:Nat,1<=n/\n<=12/\(n:Int)=1+c%4:=⟨(1+c%4).toNat,by lia,by lia,by lia⟩
theorem ZLH(M:Cf ns f)(K:1<=yr/\yr<=24)(cy:Cy ns yr)(hu:0<u)(cu:Cu ns u):
  ∃h:Hs,Told h yr/\∀G,Tq [nD ns] G=.ok h.enc G:=by
 obtain⟨n,hn1,W,en⟩:=ZJ9 (c:=f 0);let l:Nat->Str:=λk=>Di (Ew (f 5) n k)
 have L:∀k:Nat,∃p:Pl,k<n->(PlOk yr l n k p/\∀(G:DH)(x:List D)(x6 x7 x8 x9 I X T:Option D),x.length<=20->∃S Q Z Y A y C,
   Kv [zN ns,zI (f 0),zI n,zF (Be l n),zI k,zR G.length,x6,x7,x8,x9,I,X,T] (G++[.lst x])=
    .nx [zN ns,zI (f 0),zI n,zF (Be l n),zI k,zR G.length,S,Q,Z,Y,A,y,C] (G++[.lst (x++[Gf l p])])):=λk=>by
  by_cases hk:k<n
  .obtain⟨p,hp⟩:=ZIz M K cy hu cu hk W;exact⟨p,λ_=>hp⟩
  exact⟨Z0,λz=>absurd z hk⟩
 let P:Nat->Pl:=λk=>(L k).choose
 have v:=λ(k:Nat)(hk:k<n)=>((L k).choose_spec hk).1
 let h:Hs:=⟨yr,(zZ n).map P⟩;have t:h.n=n:=by simp[h,Hs.n]
 have g:∀k,k<n->h.pl k=P k:=λk hk=>by simp[h,Hs.pl,hk]
 have hg:GoodH h:=by
  refine⟨?_,by lia,?_,?_,?_,?_,?_,?_,?_⟩
  .show 0<yr;lia
  .intro i j w H e;rw[t]at w H;rw[g i w,g j H,(v i w).nm,(v j H).nm]at e;exact ZPS W w H (ZHZ e)
  .intro i w;rw[t]at w;rw[g i w,(v i w).nm];exact ZRv
  .intro k d hk e;rw[t]at hk⊢;rw[g k hk]at e;exact(v k hk).dn d e
  .intro k hk;rw[t]at hk;rw[g k hk];exact(v k hk).dl
  .intro k b r B F m hk e;rw[t]at hk⊢;rw[g k hk]at e;exact((v k hk).basin _ _ _ e).2.2 B F m rfl
  .intro k b r q hk e;rw[t]at hk;rw[g k hk]at e;have:=(v k hk).basin _ _ _ e;exact⟨this.1,λs hs=>(this.2.1.good s hs).1⟩
  intro k a b hk e;rw[t]at hk;rw[g k hk]at e;exact(v k hk).town _ _ e
 refine⟨h,⟨hg,by lia,rfl,l,λk hk=>by rw[t]at hk⊢;rw[g k hk];exact v k hk⟩,λG=>?_⟩;have U:∀o:Option Nat,(∀d,o=u7 d->d<n)->h.dnT o=dnS l o:=λo ho=>by
  cases o with
  |none=>rfl
  |some d=>
   show(h.pl d).nm=l d;rw[g d (ho d rfl),(v d (ho d rfl)).nm]
 have E:h.Bs=(j6 0 n).map λi=>Gf l (P i):=by
  show((zZ n).map P).map h.encP=_;rw[jz,jG];refine qB λk hk=>?_
  have N:k<n:=by have:=List.mem_range'_1.mp hk;lia
  have ok:=v k N;show h.encP (P k)=Gf l (P k);unfold Hs.encP Gf;rw[U (P k).dn λd e=>(ok.dn d e).2];cases e:(P k).kd with
  | basin b r q=>
   have hq:=(ok.basin b r q e).2.2;cases q with
   |none=>rfl
   |some q=>
    obtain⟨B,F,m⟩:=q;have ht:=(hq B F m rfl).1;have e2:(h.pl B).nm=l B:=by rw[g B ht,(v B ht).nm]
    simp[Hs.Lh,Ft,e2]
  |_=>rfl
 obtain⟨y4,S,Q,Z,Y,A,y,C,hL⟩:=ZDZ (P:=P) (λk hk=>(λ(k:Nat)(hk:k<n)=>((L k).choose_spec hk).2) k hk G) n 0 [] u8 u8 u8 u8 u8 u8 u8 u8 (by lia) (by simp;lia);rw[<-E]at hL;have J:Aw (gV 4) Kv (Bh 0 n) [zN ns,zI (f 0),zI n,zF (Be l n),u8,zR G.length,u8,u8,u8,u8,u8,u8,u8] (G++[.lst []])=
    .nx [zN ns,zI (f 0),zI n,zF (Be l n),y4,zR G.length,S,Q,Z,Y,A,y,C] (G++[.lst h.Bs]):=hL
 have f0:∀G,Bb [nD ns,.int 0] G=.ok (.int (f 0)) G:=M 0 (by lia);have f5:∀G,Bb [nD ns,.int 5] G=.ok (.int (f 5)) G:=M 5 (by lia);have cp:∀G:DH,Cg (gV 0) Bc Z1 [u8,zN ns,zI n] (Bh 0 n) G=.ok (Be l n) G:=λG=>M3 λk hk=>by unfold Z1;simp[f5,ZPJ W hk,l]
 have hr:inR (n:Int):=Ek (by lia) (by lia);have O:n<=1000000:=by lia
 have eh:h.enc=.tup [.int yr,.tup h.Bs]:=rfl;unfold Tq ZDw;rw[Ag];simp[Uo,O,f0,<-en,hr,Ax,cp,Cz ZKz,Af,Ds,J,cy,Bu,Ah,Je,eh]
def thr(c:Int):Nat->Int
 |0=>c
 |j+1=>thr (c/3) j
theorem ZO4{s4 s8:Option D}(G:DH):
  ∃y,Aw (gV 11) Rt (Bh 0 5) [s0,s1,s2,zI u,s4,s5,s6,s7,s8,zI c,zR G.length,x] (G++[.lst []])=.nx [s0,s1,s2,zI u,s4,s5,s6,s7,s8,y,zR G.length,zI 4] (G++[.lst (tab 5 λj=>u*(thr c j%3))]):=by
 have b:∀(c:Int)(a:List D)(x:Option D),a.length<=10->Rt [s0,s1,s2,zI u,s4,s5,s6,s7,s8,zI c,zR G.length,x] (G++[.lst a])=.nx [s0,s1,s2,zI u,s4,s5,s6,s7,s8,zI (c/3),zR G.length,x] (G++[.lst (a++[.int (u*(c%3))])]):=λc a x f=>by
  have m:∀G,Br (.int u) (.int (c%3)) G=.ok (.int (u*(c%3))) G:=λG=>Hh (by lia) (by lia)
  have d:a.length<1000000:=by lia
  unfold Rt ZEQ;simp[m,Bu,Dq,d]
 have e:Bh 0 5=[.int 0,.int 1,.int 2,.int 3,.int 4]:=rfl;refine⟨zI (c/3/3/3/3/3),?_⟩;rw[e];simp[Bv,Cr,Ce,R.Bq,qY,Cd];rw[b _ _ _ (by simp)];simp[Cd,Bv,Cr,Ce,R.Bq,qY];rw[b _ _ _ (by simp)];simp[Cd,Bv,Cr,Ce,R.Bq,qY];rw[b _ _ _ (by simp)];simp[Cd,Bv,Cr,Ce,R.Bq,qY];rw[b _ _ _ (by simp)];simp[Cd,Bv,Cr,Ce,R.Bq,qY];rw[b _ _ _ (by simp)];simp only[Cd,Bv,Cr,Ce,R.Bq,qY]
 simp[tab5,thr]
def lvS(h:Hs)(f:Nat->Int)(u:Int)(k:Nat):Int:=match(h.pl k).kd with
 |.basin b _ _=>amt (f (6+12*h.n+k)) u%(b+1)
 |_=>0
def coS(h:Hs)(f:Nat->Int)(u:Int)(k j:Nat):Int:=u*(thr (f (6+12*h.n+h.n+k)) j%3)
theorem ZQk(a:0<u)(k j:Nat):0<=coS h f u k j:=j3 (by lia) (by lia)
theorem ZHo(g:GoodH h){k:Nat}(hk:k<h.n):0<=lvS h f u k/\(∀b r q,(h.pl k).kd=.basin b r q->lvS h f u k<=b)/\((h.pl k).kd.isB=uA->lvS h f u k=0):=by
 unfold lvS;cases e:(h.pl k).kd with
 |basin b r q=>
  have:=(g.brim k b r q hk e).1;refine⟨jB _ (by lia),λj d i c=>?_,nofun⟩;cases c;show amt (f (6+12*h.n+k)) u%(b+1)<=b;have:=jw (amt (f (6+12*h.n+k)) u) (show 0<b+1 by lia);lia
 |_=>exact⟨jJ _,(λ_ _ _ z=>nomatch z),λ_=>rfl⟩
theorem ZBW(v:Cf ns f){u:Int}(S:0<u)(g:GoodH h){s1:Option D}{G:DH}:∀(m k:Nat)(L:DH)(t s i x10 x11:Option D),k+m=h.n->∃J A K F o l,
  Aw (gV 7) Sh (Bh k m) [zN ns,s1,zT h.Bs,zI u,zI ((6+12*h.n:Nat):Int),zR G.length,zR (G.length+1),t,s,i,x10,x11] (G++ .lst (tab k (lvS h f u)):: .lst (An k (coS h f u))::L)=
   .nx [zN ns,s1,zT h.Bs,zI u,zI ((6+12*h.n:Nat):Int),zR G.length,zR (G.length+1),A,K,F,o,l] (G++ .lst (tab h.n (lvS h f u)):: .lst (An h.n (coS h f u))::J)
 |0,k,L,t,s,i,x10,x11,e=>by
  have I:k=h.n:=by lia
  subst I;exact⟨L,t,s,i,x10,x11,by rw[Ib,Cr]⟩
 | m+1,k,L,t,s,i,x10,x11,e=>by
  have hk:k<h.n:=by lia
  have hn:=g.len;let c:Int:=f (6+12*h.n+h.n+k);let d:DH:=G++ .lst (tab (k+1) (lvS h f u)):: .lst (An k (coS h f u))::L;obtain⟨y,C⟩:=ZO4 (u:=u) (c:=c) (s0:=zN ns) (s1:=s1) (s2:=zT h.Bs) (s4:=zI ((6+12*h.n:Nat):Int)) (s5:=zR G.length) (s6:=zR (G.length+1)) (s7:=zI k) (s8:=zI (lvS h f u k)) (x:=x11) d;obtain⟨J,A,K,F,o,l,Q⟩:=ZBW v S g m (k+1) (L++[.lst (tab 5 (coS h f u k))]) (s1:=s1) (G:=G) (zI k) (zI (lvS h f u k)) y (zR d.length) (zI 4) (by lia)
  refine⟨J,A,K,F,o,l,?_⟩;have z:=Hs.De hk;have T:∀G,Bb [nD ns,.int (((6+12*h.n:Nat):Int)+(k:Int))] G=.ok (.int (f (6+12*h.n+k))) G:=λG=>by have:=v (6+12*h.n+k) (by lia) G;rwa[show((6+12*h.n+k:Nat):Int)=((6+12*h.n:Nat):Int)+k by lia]at this
  have O:∀G,Bb [nD ns,.int (((6+12*h.n:Nat):Int)+(h.n:Int)+(k:Int))] G=.ok (.int c) G:=λG=>by have:=v (6+12*h.n+h.n+k) (by lia) G;rwa[show((6+12*h.n+h.n+k:Nat):Int)=((6+12*h.n:Nat):Int)+h.n+k by lia]at this
  generalize hB:((6+12*h.n:Nat):Int)=B at T O C Q⊢;have t1:∀(H:DH)(i x10 x11:Option D),Sh [zN ns,s1,zT h.Bs,zI u,zI B,zR G.length,zR (G.length+1),zI k,s,i,x10,x11] H=Vv [zN ns,s1,zT h.Bs,zI u,zI B,zR G.length,zR (G.length+1),zI k,zI (lvS h f u k),i,x10,x11] H:=λH i x10 x11=>by
   unfold Sh ZEC lvS;cases e:(h.pl k).kd with
   |basin b r q=>
    have X:=(g.brim k b r q hk e).1;have e4:∀G,Bj (h.encP (h.pl k)) (.int 4) G=.ok (.int b) G:=λG=>by unfold Hs.encP;rw[e];simp
    have w:0<b+1:=by lia
    simp[z,Hv,e,Kd.isB,T,Lw S,e4,w,by omega]
   |_=>simp[z,Hv,e,Kd.isB]
  have p:k<1000000:=by lia
  have et:tab k (lvS h f u)++[.int (lvS h f u k)]=tab (k+1) (lvS h f u):=by simp[tab,qU]
  have Y:An k (coS h f u)++[.tup (tab 5 (coS h f u k))]=An (k+1) (coS h f u):=by simp[An,qU]
  have Z:Vv [zN ns,s1,zT h.Bs,zI u,zI B,zR G.length,zR (G.length+1),zI k,zI (lvS h f u k),i,x10,x11] (G++ .lst (tab k (lvS h f u)):: .lst (An k (coS h f u))::L)=V8 [zN ns,s1,zT h.Bs,zI u,zI B,zR G.length,zR (G.length+1),zI k,zI (lvS h f u k),zI c,zR d.length,x11] (d++[.lst []]):=by
   have U:tidy d (.ok (.ref d.length) (d++[.lst []]))=.ok (.ref d.length) (d++[.lst []]):=Ds rfl;unfold Vv ZDA ZCw;have E:(sEx (Cv Dp (dV 5) (Ac (dV 8) Az))) [zN ns,s1,zT h.Bs,zI u,zI B,zR G.length,zR (G.length+1),zI k,zI (lvS h f u k),i,x10,x11] (G++ .lst (tab k (lvS h f u)):: .lst (An k (coS h f u))::L)=.nx [zN ns,s1,zT h.Bs,zI u,zI B,zR G.length,zR (G.length+1),zI k,zI (lvS h f u k),i,x10,x11] d:=by simp[Bu,Dq,p,et,d]
   rw[Lx,E,Wl]
   clear_value d
   simp[Hs.Eh,O,Af,U]
  have W:V8 [zN ns,s1,zT h.Bs,zI u,zI B,zR G.length,zR (G.length+1),zI k,zI (lvS h f u k),zI c,zR d.length,x11] (d++[.lst []])=.nx [zN ns,s1,zT h.Bs,zI u,zI B,zR G.length,zR (G.length+1),zI k,zI (lvS h f u k),y,zR d.length,zI 4] (G++ .lst (tab (k+1) (lvS h f u)):: .lst (An (k+1) (coS h f u))::(L++[.lst (tab 5 (coS h f u k))])):=by
   have hr:inR 5:=Ek (by lia) (by lia);have eC:(tab 5 λj=>u*(thr c j%3))=tab 5 (coS h f u k):=rfl;rw[eC]at C;unfold V8;have E:(Bx (Bg rng1 (Ac (dC (.int 5)) Az)) (gV 11) Rt) [zN ns,s1,zT h.Bs,zI u,zI B,zR G.length,zR (G.length+1),zI k,zI (lvS h f u k),zI c,zR d.length,x11] (d++[.lst []])=.nx [zN ns,s1,zT h.Bs,zI u,zI B,zR G.length,zR (G.length+1),zI k,zI (lvS h f u k),y,zR d.length,zI 4] (d++[.lst (tab 5 (coS h f u k))]):=by simp[hr,C]
   rw[Lx,E,Wl];have M:(d++[DO.lst (tab 5 (coS h f u k))])[d.length]?=u7 (.lst (tab 5 (coS h f u k))):=by simp
   have P:(d++[DO.lst (tab 5 (coS h f u k))])[G.length+1]?=u7 (.lst (An k (coS h f u))):=by simp[d]
   have N:(d++[DO.lst (tab 5 (coS h f u k))]).set (G.length+1) (.lst (An (k+1) (coS h f u)))=(G++ .lst (tab (k+1) (lvS h f u)):: .lst (An (k+1) (coS h f u))::(L++[.lst (tab 5 (coS h f u k))])):=by simp[d]
   generalize d++[DO.lst (tab 5 (coS h f u k))]=G2 at M P N;unfold ZFc;simp[M,P,p,Y,N]
  rw[Hk,Bv];simp[Ce,R.Bq,qY,t1,Z,W,Cd];have I:((k:Int)+1)=((k+1:Nat):Int):=by lia
  rw[I,Q]
theorem ZLO(o:Cf ns f)(v:0<u)(cu:Cu ns u)(g:GoodH h)(G:DH):
  Ug [nD ns,h.enc] G=.ok (stD h.n (lvS h f u) (coS h f u)) G:=by
 obtain⟨b,s,x,w,e,d,p⟩:=ZBW o v g h.n 0 [] u8 u8 u8 u8 u8 (by lia);have a:Aw (gV 7) Sh (Bh 0 h.n) [zN ns,u7 h.enc,zT h.Bs,zI u,zI ((6+12*h.n:Nat):Int),zR G.length,zR (G.length+1),u8,u8,u8,u8,u8] (G++[.lst [],.lst []])=
   .nx [zN ns,u7 h.enc,zT h.Bs,zI u,zI ((6+12*h.n:Nat):Int),zR G.length,zR (G.length+1),s,x,w,e,d] (G++ .lst (tab h.n (lvS h f u)):: .lst (An h.n (coS h f u))::b):=p
 have z:=g.len;have c:∀G,Br (.int 12) (.int (h.n:Int)) G=.ok (.int (12*(h.n:Int))) G:=λG=>Gh (by lia) (by lia)
 have m:(6+12*(h.n:Int))=((6+12*h.n:Nat):Int):=by lia
 generalize A:((6+12*h.n:Nat):Int)=B at a m;have r:freeze G (.ok (.int u) G)=.ok (.int u) G:=J0 rfl;have q:inR (h.n:Int):=Ek (by lia) (by lia);have t:tidy (G++[.lst []]) (.ok (.ref (G.length+1)) (G++[.lst [],.lst []]))=.ok (.ref (G.length+1)) (G++[.lst [],.lst []]):=by have:=Ds (G:=G++[.lst []]) (ds:=[]) (L:=[]) rfl;simpa using this
 have j:(G++ .lst (tab h.n (lvS h f u)):: .lst (An h.n (coS h f u))::b)[G.length]?=u7 (.lst (tab h.n (lvS h f u))):=by simp
 have l:(G++ .lst (tab h.n (lvS h f u)):: .lst (An h.n (coS h f u))::b)[G.length+1]?=u7 (.lst (An h.n (coS h f u))):=by simp
 have i:tidy G (.ok (stD h.n (lvS h f u) (coS h f u)) (G++ .lst (tab h.n (lvS h f u)):: .lst (An h.n (coS h f u))::b))=.ok (stD h.n (lvS h f u) (coS h f u)) G:=Je (by simp[stD,Hd]);generalize G++DO.lst (tab h.n (lvS h f u))::DO.lst (An h.n (coS h f u))::b=y at a j l i;unfold stD at i⊢;unfold Ug ZGp;rw[Ag];simp[Bp,cu,r,Hs.Eh,c,m,Af,Ds,t,q,a,j,l,Ah,i]
def flS(n:Nat)(f:Nat->Int)(u:Int)(i k:Nat):Int:=amt (f (6+14*n+i*n+k)) u
theorem ZBV{n:Nat}(a:0<u)(i k:Nat):0<=flS n f u i k:=Px a
def Ad(n:Nat)(fls:List (Nat->Int)):List D:=fls.map λfl=>.tup (tab n fl)
@[simp]theorem Xo{n:Nat}:bels m (Ad n fls)=u9:=Dw λ_ _=>by simp
theorem ZFd{o:DO}(h:∀m,bels m ds=u9):freeze (G++[o]) (.ok (.ref (G.length+1)) (G++[o,.lst ds]))=.ok (.fl ds) (G++[o]):=by have:=Cz (G:=G++[o]) (L:=[]) (h _);simpa using this
theorem ZQf(F:Cf ns f)(v:0<u)(cu:Cu ns u){n:Nat}(H:6+14*n+i*n+n<=1000)(A:i<=1000)(z:n<=1000){acc:List D}(I:acc.length<=1000)(G:DH):
  Rf [zN ns,s1,s2,zI n,zI ((6+14*n:Nat):Int),zR G.length,zI i,x] (G++[.lst acc])=
   .nx [zN ns,s1,s2,zI n,zI ((6+14*n:Nat):Int),zR G.length,zI i,zF (tab n λk=>f (6+14*n+i*n+k))] (G++[.lst (acc++[.tup (tab n (flS n f u i))])]):=by
 have j:acc.length<1000000:=by lia
 have E:∀G,Br (.int (i:Int)) (.int (n:Int)) G=.ok (.int ((i:Int)*n)) G:=λG=>Gh (by lia) (by lia)
 have w:∀G,freeze G (.ok (.int u) G)=.ok (.int u) G:=λG=>J0 rfl
 have s:∀G,Cg (gV 0) Bc ZAl [u8,zN ns,zI n,zI ((6+14*n:Nat):Int),zI i] (Bh 0 n) G=.ok (tab n λk=>f (6+14*n+i*n+k)) G:=λG=>
  M3 λk hk=>by
   have q:=F (6+14*n+i*n+k) (by lia) G;have C:((6+14*n+i*n+k:Nat):Int)=((6+14*n:Nat):Int)+(i:Int)*n+k:=by rw[jO,jO,Int.natCast_mul]
   rw[C]at q;generalize((6+14*n:Nat):Int)=B at q;unfold ZAl;simp[E,q]
 have y:∀G,Cg (gV 0) Bc Xx [u8,zN ns] (tab n λk=>f (6+14*n+i*n+k)) G=.ok (tab n (flS n f u i)) G:=λG=>
  Pa λk hk=>by unfold Xx;simp[cu,w,Lw v,flS]
 have t:inR (n:Int):=Ek (by lia) (by lia);have m:∀a b c d e r g h:Option D,Ax 1 [0,3,4,6] [a,b,c,d,e,r,g,h]=[u8,a,d,e,g]:=λ_ _ _ _ _ _ _ _=>rfl
 have p:∀a b c d e r g h:Option D,Ax 1 [0] [a,b,c,d,e,r,g,h]=[u8,a]:=λ_ _ _ _ _ _ _ _=>rfl
 generalize((6+14*n:Nat):Int)=B at s;have l:n<=1000000:=by lia
 unfold Rf;simp[l,t,m,p,s,y,ZFd (G:=G) (o:=.lst acc) (ds:=tab n λk=>f (6+14*n+i*n+k)) λ_=>Hd,ZFd (G:=G) (o:=.lst acc) (ds:=tab n (flS n f u i)) λ_=>Hd,Bu,Dq,j]
theorem ZBX(p:Cf ns f)(l:0<u)(cu:Cu ns u){n t:Nat}(r:6+14*n+t*n<=1000)(h:t<=100)(a:n<=1000){s1 s2:Option D}(G:DH):∀(m i:Nat)(c b:Option D),i+m=t->∃g d,
  Aw (gV 6) Rf (Bh i m) [zN ns,s1,s2,zI n,zI ((6+14*n:Nat):Int),zR G.length,c,b] (G++[.lst (Ad n ((zZ i).map (flS n f u)))])=
   .nx [zN ns,s1,s2,zI n,zI ((6+14*n:Nat):Int),zR G.length,g,d] (G++[.lst (Ad n ((zZ t).map (flS n f u)))])
 |0,i,c,b,e=>by
  have j:i=t:=by lia
  subst j;exact⟨c,b,by rw[Ib,Cr]⟩
 |m+1,i,c,b,e=>by
  obtain⟨g,d,v⟩:=ZBX p l cu r h a G m (i+1) (zI i) (zF (tab n λk=>f (6+14*n+i*n+k))) (by lia);refine⟨g,d,?_⟩;have w:(i+1)*n<=t*n:=Nat.mul_le_mul_right n (by lia);have s:(i+1)*n=i*n+n:=Nat.succ_mul i n;have o:=ZQf p l cu (i:=i) (by lia) (by lia) a (s1:=s1) (s2:=s2) (x:=b) (acc:=Ad n ((zZ i).map (flS n f u))) (by simp[Ad];lia) G;have q:Ad n ((zZ i).map (flS n f u))++[.tup (tab n (flS n f u i))]=Ad n ((zZ (i+1)).map (flS n f u)):=by simp[Ad,qU]
  rw[q]at o;rw[Hk,Bv];simp only[Ce,R.Bq,qY,o,Cd];have j:((i:Int)+1)=((i+1:Nat):Int):=by lia
  rw[j,v]
theorem ZI8(p:Cf ns f)(i:0<u)(cu:Cu ns u)(g:GoodH h){t:Nat}(o:6+14*h.n+t*h.n<=1000)(c:t<=100)(G:DH):
  Rz [nD ns,h.enc,.int t] G=.ok (.ref G.length) (G++[.lst (Ad h.n ((zZ t).map (flS h.n f u)))]):=by
 have q:=g.len;obtain⟨m,l,j⟩:=ZBX p i cu o c (by lia) G t 0 u8 u8 (by lia);have a:Aw (gV 6) Rf (Bh 0 t) [zN ns,u7 h.enc,zI t,zI h.n,zI ((6+14*h.n:Nat):Int),zR G.length,u8,u8] (G++[.lst []])=
   .nx [zN ns,u7 h.enc,zI t,zI h.n,zI ((6+14*h.n:Nat):Int),zR G.length,m,l] (G++[.lst (Ad h.n ((zZ t).map (flS h.n f u)))]):=j
 have b:∀G,Br (.int 14) (.int (h.n:Int)) G=.ok (.int (14*(h.n:Int))) G:=λG=>Gh (by lia) (by lia)
 have d:(6+14*(h.n:Int))=((6+14*h.n:Nat):Int):=by lia
 generalize r:((6+14*h.n:Nat):Int)=B at a d;have e:inR (t:Int):=Ek (by lia) (by lia);unfold Rz ZGX;rw[Ag];simp[Bp,Hs.Eh,b,d,Af,Ds,e,a]
abbrev St2:=(Nat->Int)×(Nat->Nat->Int)
def Hs.nxt(h:Hs)(s:St2)(a:Int)(fl:Nat->Int):St2:=(lies (h.cs s.1 s.2 a fl).page,(h.cs s.1 s.2 a fl).coming)
def Hs.Gd(h:Hs):List (Nat->Int)->St2->Int->St2
 |[],s,_=>s
 |fl::r,s,a=>h.Gd r (h.nxt s a fl) (a+1)
def Hs.Dl(h:Hs):List (Nat->Int)->St2->Int->List (Nat->List Int)
 |[],_,_=>[]
 |fl::r,s,a=>(h.cs s.1 s.2 a fl).page::h.Dl r (h.nxt s a fl) (a+1)
theorem ZAu:∀{fls:List (Nat->Int)}{s:St2}{a:Int},(h.Dl fls s a).length=fls.length
 |[],_,_=>rfl
 |fl::r,s,a=>by show(h.Dl r (h.nxt s a fl) (a+1)).length+1=r.length+1;rw[ZAu]
def pgD(n:Nat)(pg:Nat->List Int):D:=.tup (Bw n pg)
@[simp]theorem ZMl{n:Nat}{a:Nat->List Int}:bel m (pgD n a)=u9:=by simp[pgD]
@[simp]theorem ZEv{n:Nat}{pgs:List (Nat->List Int)}:bels m (pgs.map (pgD n))=u9:=Dw λ_ _=>ZMl
@[simp]theorem Zb{n:Nat}:bel m (stD n lv co)=u9:=by simp[stD]
theorem ZD2(g:GoodH h)(b:∀k j,k<h.n->j<5->0<=co k j)(c:∀k,k<h.n->0<=fl k):(h.cs lv co a fl).NN h.n:=ZDO g h.n 0 _ (by lia) (ZB6 b c)
def enS:Int->List D->List D
 |_,[]=>[]
 |a,x::r=>.tup [.int a,x]::enS (a+1) r
theorem ZB0:∀(xs:List D)(a:Int)(j:Nat),(enS a xs)[j]?=xs[j]?.map λx=>.tup [.int (a+j),x]
 |[],a,j|x::r,a,0=>by simp[enS]
 |x::r,a,j+1=>by
  show(enS (a+1) r)[j]?=r[j]?.map _;rw[ZB0 r (a+1) j];have e:a+1+(j:Int)=a+((j+1:Nat):Int):=by lia
  rw[e]
theorem ZEh:∀(xs:List D)(a:Int),(enS a xs).length=xs.length
 |[],a=>rfl
 |x::r,a=>by show(enS (a+1) r).length+1=r.length+1;rw[ZEh]
theorem ZDp{g:DG}{b:DS}{xs:List D}:Cq (Dh a (.fl xs)) g b xs.length 0 S G=Aw g b (enS a xs) S G:=S7 (λj G=>by show u7 (xs[j]?.map _)=_;rw[ZB0]) (ZEh xs a).symm
theorem ZFF(g:GoodH h):∀(fls:List (Nat->Int))(s:St2)(a:Int)(acc:List D)(e d c:Option D),acc.length+fls.length<=1000->(∀k j,k<h.n->j<5->0<=s.2 k j)->(∀fl∈fls,∀k,k<h.n->0<=fl k)->∃m l i,
  Aw (Aj 2 (Ab (gV 5) (Ab (gV 6) Al))) Qz (enS a (Ad h.n fls)) [u7 h.enc,u7 (stD h.n s.1 s.2),s2,s3,zR G.length,e,d,c] (G++[.lst acc])=
   .nx [u7 h.enc,u7 (stD h.n (h.Gd fls s a).1 (h.Gd fls s a).2),s2,s3,zR G.length,m,l,i] (G++[.lst (acc++(h.Dl fls s a).map (pgD h.n))])
 |[],s,a,acc,e,d,c,_,_,_=>⟨e,d,c,by show Aw _ _ [] _ _=_;rw[Cr];simp[Hs.Gd,Hs.Dl]⟩
 |fl::r,s,a,acc,e,d,c,t,p,q=>by
  have b:=q fl (by simp);simp[zL]at t;obtain⟨m,l,i,w⟩:=ZFF g r (h.nxt s a fl) (a+1) (acc++[pgD h.n (h.cs s.1 s.2 a fl).page]) (zI a) (zT (tab h.n fl)) (u7 (pgD h.n (h.cs s.1 s.2 a fl).page)) (by simp;lia) (ZD2 g (lv:=s.1) (fl:=fl) (co:=s.2) (a:=a) p b).2 (λv o=>q v (zX _ o));refine⟨m,l,i,?_⟩;have f:acc.length<1000000:=by lia
  have u:Qz [u7 h.enc,u7 (stD h.n s.1 s.2),s2,s3,zR G.length,zI a,zT (tab h.n fl),c] (G++[.lst acc])=.nx [u7 h.enc,u7 (stD h.n (h.nxt s a fl).1 (h.nxt s a fl).2),s2,s3,zR G.length,zI a,zT (tab h.n fl),u7 (pgD h.n (h.cs s.1 s.2 a fl).page)] (G++[.lst (acc++[pgD h.n (h.cs s.1 s.2 a fl).page])]):=by unfold Qz;simp[ZKx g (lv:=s.1) (fl:=fl) (co:=s.2) (at_:=a) p b,Bu,Dq,f,pgD,Hs.nxt]
  show Aw _ _ (.tup [.int a,.tup (tab h.n fl)]::enS (a+1) (Ad h.n r)) _ _=_;rw[Bv];simp[Ow,Oa,Pb,Ce,R.Hm,R.Bq,qY,u,Cd,zL,qS,Nat.reduceAdd,if_true];rw[w];simp[Hs.Gd,Hs.Dl]
theorem Ko{n:Nat}:(Ad n fls).length=fls.length:=by simp[Ad]
theorem V0{a:DH}(h:bels G.length ds=uA):tidy G (.ok (.tup ds) a)=.ok (.tup ds) a:=by unfold tidy;simp[h]
theorem ZP4(d:bels G.length ds=u9)(b:bel G.length e=u9):freeze G (.ok (.tup [.ref G.length,e]) (G++[.lst ds]))=.ok (.tup [.fl ds,e]) G:=by
 unfold freeze;have m:By (G++[.lst ds]) G.length 9 (.tup [.ref G.length,e])=zT [.fl ds,e]:=by
  unfold By;have c:By (G++[.lst ds]) G.length 8 (.ref G.length)=zF ds:=by unfold By;simp[Ni d]
  have a:By (G++[.lst ds]) G.length 8 e=u7 e:=by unfold By;simp[b]
  simp[Hi,c,a]
 simp[m]
theorem ZDP(g:GoodH h){s:St2}(p:fls.length<=1000)(i:∀k j,k<h.n->j<5->0<=s.2 k j)(o:∀fl∈fls,∀k,k<h.n->0<=fl k)(G:DH):
  Nv [h.enc,stD h.n s.1 s.2,.int a,.fl (Ad h.n fls)] G=.ok (.tup [.ref G.length,stD h.n (h.Gd fls s a).1 (h.Gd fls s a).2]) (G++[.lst ((h.Dl fls s a).map (pgD h.n))]):=by
 obtain⟨l,f,d,c⟩:=ZFF g fls s a [] u8 u8 u8 (by simp;lia) i o;have b:Cq (Dh a (.fl (Ad h.n fls))) (Aj 2 (Ab (gV 5) (Ab (gV 6) Al))) Qz (Ad h.n fls).length 0 [u7 h.enc,u7 (stD h.n s.1 s.2),zI a,zF (Ad h.n fls),zR G.length,u8,u8,u8] (G++[.lst []])=
   .nx [u7 h.enc,u7 (stD h.n (h.Gd fls s a).1 (h.Gd fls s a).2),zI a,zF (Ad h.n fls),zR G.length,l,f,d] (G++[.lst ((h.Dl fls s a).map (pgD h.n))]):=by
  rw[ZDp];exact c
 have m:∀e:D,tidy G (.ok (.tup [.ref G.length,e]) (G++[.lst ((h.Dl fls s a).map (pgD h.n))]))=.ok (.tup [.ref G.length,e]) (G++[.lst ((h.Dl fls s a).map (pgD h.n))]):=λe=>V0 (by simp)
 unfold Nv ZEg;rw[Ag];simp[Af,Ds,Q8,b,Ah,m]
theorem ZDe{d:D}(c:okD 30 d=u9):∀xs:List D,(∀x∈xs,okD 30 x=u9)->∃ks:List Bool,Mm G d xs=u7 ks/\(ks.any id=u9↔d∈xs)
 |[],_=>⟨[],rfl,by simp⟩
 |x::xs,h=>by
  obtain⟨ks,e,g⟩:=ZDe c xs λy f=>h y (zX _ f)
  obtain⟨b,i,a⟩:=ZGA 30 x d (h x (by simp)) c;refine⟨b::ks,by unfold Mm;rw[i,e],?_⟩;rw[j9,jA,g,zj];exact⟨λz=>z.elim (λz=>.inl (a.mp z).symm) .inr,λz=>z.elim (λz=>.inl (a.mpr z.symm)) .inr⟩
theorem ZH7{d:D}{xs:List D}(g:okD 30 d=u9)(h:∀x∈xs,okD 30 x=u9)(c:d∈xs↔b=uA):Ms d (.fl xs) G=.ok (.bl b) G:=by
 obtain⟨i,f,a⟩:=ZDe (G:=G) g xs h;unfold Ms inE;have e:Bd (.fl xs) G=u7 xs:=rfl;rw[e];simp only[f,jN];cases hk:i.any id with
 |true=>
  have:=c.mp (a.mp hk);subst this
  rfl
 |false=>
  cases b with
  |true=>rfl
  |false=>rw[a.mpr (c.mpr rfl)]at hk;cases hk
theorem ZEm{a:Type}{xs:List a}{x:a}:cutD (xs++[x]) u8 (u7 (-1))=xs:=by
 have e:HT.sIx (xs++[x]).length (xs++[x]).length (u7 (-1))=xs.length:=by
  simp[HT.sIx]
  try lia
 unfold cutD;rw[e];simp[HT.sIx]
theorem ZCF{xs:List D}{x:D}:atI (xs++[x]) (-1)=u7 x:=by
 rw[ZEY (by decide) (by simp;lia)];have a:((-1:Int)+((xs++[x]).length:Int)).toNat=xs.length:=by simp;lia
 simp only[a];simp
section
variable{H FL:D}{SW:Nat->D}{PG:Nat->List D}
structure Yr (H FL:D) (SW:Nat->D) (PG:Nat->List D):Prop where
 run:∀(w:Nat)(G:DH),Nv [H,SW w,.int 0,FL] G=.ok (.tup [.ref G.length,SW (w+1)]) (G++[.lst (PG w)])
 ok:∀w,okD 30 (SW w)=u9
 bel:∀w m,bel m (SW w)=u9
 pb:∀w m,bels m (PG w)=u9
 pl:∀w,(PG w).length<=24
def pgs(PG:Nat->List D)(w:Nat):List D:=(zZ w).flatMap PG
theorem Z8:pgs PG (w+1)=pgs PG w++PG w:=by simp[pgs,qU]
theorem Xa(h:∀w,(PG w).length<=24):∀w,(pgs PG w).length<=24*w
 |0=>zY _
 |w+1=>by have:=Xa h w;have:=h w;rw[Z8,zP];lia
theorem ZGW(h:∀w m,bels m (PG w)=u9):∀w,bels m (pgs PG w)=u9
 |0=>rfl
 |w+1=>by rw[Z8,ZHh,ZGW h w,h w m];rfl
def sts(SW:Nat->D)(w:Nat):List D:=(zZ w).map SW
theorem Sx:sts SW (w+1)=sts SW w++[SW w]:=by simp[sts,qU]
theorem Xu:(sts SW w).length=w:=by simp[sts]
theorem ZCu(a:∀w m,bel m (SW w)=u9):bels m (sts SW w)=u9:=Dw λ_ _=>a _ _
theorem Zo(ho:∀w,okD 30 (SW w)=u9)(g:∀w m,bel m (SW w)=u9)(h:SW w∈sts SW w↔b=uA){P:List D}:
  Qw [s0,s1,s2,s3,zR G.length,s5,s6,s7] (G++ .lst (sts SW (w+1)):: .lst P::L)=.ok b (G++ .lst (sts SW (w+1)):: .lst P::L):=by
 have f:atI (sts SW (w+1)) (-1)=u7 (SW w):=Sx▸ZCF;have j:cutD (sts SW (w+1)) u8 (u7 (-1))=sts SW w:=Sx▸ZEm;have d:∀G,Ms (SW w) (.fl (sts SW w)) G=.ok (.bl b) G:=λG=>ZH7 (ho w) (λx e=>by obtain⟨i,_,rfl⟩:=z9.mp e;exact ho i) h
 generalize k:G++DO.lst (sts SW (w+1)):: .lst P::L=a;have c:a[G.length]?=u7 (.lst (sts SW (w+1))):=by rw[<-k,Bu];rfl
 have l:Mw (.ref G.length) u8 (u7 (-1)) a=.ok (.ref a.length) (a++[.lst (sts SW w)]):=by unfold Mw;simp[Fy,c,j]
 unfold Qw;simp[c,f,l,Cz (ZCu g),d,Ir,Fo]
theorem ZBn(b:Yr H FL SW PG){most:Int}(A:(w:Int)+1<=most)(hw:w<=1000):
  ∃(m r:Option D),Lz [u7 H,s1,u7 FL,zI most,zR G.length,zR (G.length+1),s6,s7] (G++ .lst (sts SW (w+1)):: .lst (pgs PG w)::L)=
   .nx [u7 H,s1,u7 FL,zI most,zR G.length,zR (G.length+1),m,r] (G++ .lst (sts SW (w+2)):: .lst (pgs PG (w+1))::(L++[.lst (PG w)])):=by
 have l:atI (sts SW (w+1)) (-1)=u7 (SW w):=Sx▸ZCF;have x:=Xa b.pl w;have v:=b.pl w;rw[Z8];generalize pgs PG w=P at*;have t:=b.run w (G++DO.lst (sts SW (w+1)):: .lst P::L);generalize PG w=a at*;refine⟨zR (G++DO.lst (sts SW (w+1)):: .lst P::L).length,u7 (SW (w+1)),?_⟩;have n:(G++DO.lst (sts SW (w+1)):: .lst P::L)[G.length]?=u7 (.lst (sts SW (w+1))):=by rw[Bu];rfl
 have j:¬((((sts SW (w+1)).length:Nat):Int)>most):=by rw[Xu];lia
 have e:tidy (G++DO.lst (sts SW (w+1)):: .lst P::L) (.ok (.tup [.ref (G++DO.lst (sts SW (w+1)):: .lst P::L).length,SW (w+1)]) ((G++DO.lst (sts SW (w+1)):: .lst P::L)++[DO.lst a]))=.ok (.tup [.ref (G++DO.lst (sts SW (w+1)):: .lst P::L).length,SW (w+1)]) ((G++DO.lst (sts SW (w+1)):: .lst P::L)++[DO.lst a]):=V0 (by simp);have d:((G++DO.lst (sts SW (w+1)):: .lst P::L)++[DO.lst a])[G.length+1]?=u7 (.lst P):=by
  rw[qH,Rn]
  rfl
 have p:((G++DO.lst (sts SW (w+1)):: .lst P::L)++[DO.lst a])[(G++DO.lst (sts SW (w+1)):: .lst P::L).length]?=u7 (.lst a):=by simp
 have c:∀o,((G++DO.lst (sts SW (w+1)):: .lst P::L)++[DO.lst a]).set (G.length+1) o=G++ .lst (sts SW (w+1))::o::(L++[.lst a]):=λo=>by
  rw[qH,Vt]
  rfl
 have f:My (.ref (G.length+1)) [.ref (G++DO.lst (sts SW (w+1)):: .lst P::L).length] ((G++DO.lst (sts SW (w+1)):: .lst P::L)++[DO.lst a])=.ok .non (G++ .lst (sts SW (w+1)):: .lst (P++a)::(L++[.lst a])):=by unfold My;simp only[d,p];rw[if_pos (by lia),c]
 have q:(G++DO.lst (sts SW (w+1)):: .lst (P++a)::(L++[DO.lst a]))[G.length]?=u7 (.lst (sts SW (w+1))):=by rw[Bu];rfl
 have g:∀o,(G++DO.lst (sts SW (w+1)):: .lst (P++a)::(L++[DO.lst a])).set G.length o=G++o:: .lst (P++a)::(L++[.lst a]):=λo=>by rw[Dq];rfl
 have i:(sts SW (w+1)).length<1000000:=by rw[Xu];lia
 have k:sts SW (w+2)=sts SW (w+1)++[SW (w+1)]:=Sx;rw[k];generalize(G++DO.lst (sts SW (w+1)):: .lst P::L)=z at*;generalize G++DO.lst (sts SW (w+1)):: .lst (P++a)::(L++[DO.lst a])=u at*;generalize sts SW (w+1)=y at*;unfold Lz;simp[n,j,l,t,e,d,f,q,g,i,Fo]
end
section
variable{H FL:D}{SW:Nat->D}{PG:Nat->List D}
theorem ZOM(hw:w<1000){P:List D}:
  Lz [s0,s1,s2,zI w,zR G.length,s5,s6,s7] (G++ .lst (sts SW (w+1)):: .lst P::L)=.err ⟨"TooLong",[("most",.int w)]⟩ (G++ .lst (sts SW (w+1)):: .lst P::L):=by
 generalize d:G++DO.lst (sts SW (w+1)):: .lst P::L=b;have a:b[G.length]?=u7 (.lst (sts SW (w+1))):=by rw[<-d,Bu];rfl
 have e:(w:Int)<(((sts SW (w+1)).length:Nat):Int):=by rw[Xu];lia
 have c:(0:Int)<=(w:Int)/\(w:Int)<1000:=by lia
 generalize sts SW (w+1)=f at*;unfold Lz;simp[a,e,sRz,c]
theorem ZF1(c:Yr H FL SW PG){Y:Nat}(q:Y<=900)(a:∀w,w<Y->SW w∉sts SW w)(d:SW Y∈sts SW Y){most:Int}(k:(Y:Int)<=most){s1:Option D}{G:DH}:
  ∀(n w:Nat) (L:DH) (s6 s7:Option D),w<=Y->Y<w+n->∃(f:DH)(j g:Option D),
   sWh Qw Lz n [u7 H,s1,u7 FL,zI most,zR G.length,zR (G.length+1),s6,s7] (G++ .lst (sts SW (w+1)):: .lst (pgs PG w)::L)=
    .nx [u7 H,s1,u7 FL,zI most,zR G.length,zR (G.length+1),j,g] (G++ .lst (sts SW (Y+1)):: .lst (pgs PG Y)::f)
 |0,w,L,s6,s7,m,p=>by lia
 |n+1,w,L,s6,s7,m,p=>by
  by_cases e:w=Y
  .subst e;refine⟨L,s6,s7,?_⟩;unfold sWh;rw[Zo c.ok c.bel (b:=uA) (by simp[d])];simp
  obtain⟨j,g,i⟩:=ZBn c (w:=w) (most:=most) (by lia) (by lia) (s1:=s1) (s6:=s6) (s7:=s7) (G:=G) (L:=L);obtain⟨f,l,o,r⟩:=ZF1 c q a d k n (w+1) (L++[.lst (PG w)]) j g (by lia) (by lia);refine⟨f,l,o,?_⟩;unfold sWh;rw[Zo c.ok c.bel (b:=u9) (by simp[a w (by lia)])];simp[R.Bq,if_true,i,Cd];exact r
theorem ZCP(c:Yr H FL SW PG){M:Nat}(i:M<1000)(a:∀w,w<=M->SW w∉sts SW w){s1:Option D}{G:DH}:
  ∀(n w:Nat)(L:DH)(s6 s7:Option D),w<=M->M<w+n->∃d,sWh Qw Lz n [u7 H,s1,u7 FL,zI M,zR G.length,zR (G.length+1),s6,s7] (G++ .lst (sts SW (w+1)):: .lst (pgs PG w)::L)=.err ⟨"TooLong",[("most",.int M)]⟩ (G++d)
 |0,w,L,s6,s7,g,l=>by lia
 |n+1,w,L,s6,s7,g,l=>by
  have j:=Zo c.ok c.bel (w:=w) (b:=u9) (by simp[a w g]) (s0:=u7 H) (s1:=s1) (s2:=u7 FL) (s3:=zI M) (s5:=zR (G.length+1)) (s6:=s6) (s7:=s7) (G:=G) (L:=L) (P:=pgs PG w);by_cases e:w=M
  .subst e;refine⟨.lst (sts SW (w+1)):: .lst (pgs PG w)::L,?_⟩;unfold sWh;rw[j];simp[R.Bq,if_true];rw[ZOM i,ZKj]
  obtain⟨o,k,f⟩:=ZBn c (w:=w) (most:=(M:Int)) (by lia) (by lia) (s1:=s1) (s6:=s6) (s7:=s7) (G:=G) (L:=L);obtain⟨d,m⟩:=ZCP c i a n (w+1) (L++[.lst (PG w)]) o k (by lia) (by lia);refine⟨d,?_⟩;unfold sWh;rw[j];simp[R.Bq,if_true,f,Cd];exact m
theorem ZIj(d:Yr H FL SW PG){Y:Nat}(l:Y<=900)(a:∀w,w<Y->SW w∉sts SW w)(b:SW Y∈sts SW Y){most:Int}(g:(Y:Int)<=most)(G:DH):
  ∃L,Mt [H,SW 0,FL,.int most] G=.ok (.tup [.ref G.length,.ref (G.length+1)]) (G++ .lst (sts SW (Y+1)):: .lst (pgs PG Y)::L):=by
 obtain⟨L,o,n,e⟩:=ZF1 d l a b g (s1:=u7 (SW 0)) (G:=G) fuel 0 [] u8 u8 (by lia) (by unfold fuel;lia);have i:sts SW (0+1)=[SW 0]:=rfl;have k:pgs PG 0=[]:=rfl;rw[i,k]at e;have f:tidy G (.ok (.ref G.length) (G++[.lst [SW 0]]))=.ok (.ref G.length) (G++[.lst [SW 0]]):=Ds (by simp[d.bel]);have c:tidy (G++[.lst [SW 0]]) (.ok (.ref (G.length+1)) (G++[.lst [SW 0],.lst []]))=.ok (.ref (G.length+1)) (G++[.lst [SW 0],.lst []]):=W0 rfl
 have j:tidy G (.ok (.tup [.ref G.length,.ref (G.length+1)]) (G++ .lst (sts SW (Y+1)):: .lst (pgs PG Y)::L))=.ok (.tup [.ref G.length,.ref (G.length+1)]) (G++ .lst (sts SW (Y+1)):: .lst (pgs PG Y)::L):=V0 (by simp);refine⟨L,?_⟩;generalize sts SW (Y+1)=m at*;generalize pgs PG Y=p at*;unfold Mt Zv;rw[Ag];simp[Af,f,c,e,Ah,j]
theorem ZQh(d:Yr H FL SW PG){M:Nat}(j:M<1000)(a:∀w,w<=M->SW w∉sts SW w)(G:DH):
  ∃c,Mt [H,SW 0,FL,.int M] G=.err ⟨"TooLong",[("most",.int M)]⟩ (G++c):=by
 obtain⟨c,e⟩:=ZCP d j a (s1:=u7 (SW 0)) (G:=G) fuel 0 [] u8 u8 (by lia) (by unfold fuel;lia);have g:sts SW (0+1)=[SW 0]:=rfl;have i:pgs PG 0=[]:=rfl;rw[g,i]at e;refine⟨c,?_⟩;have f:tidy G (.ok (.ref G.length) (G++[.lst [SW 0]]))=.ok (.ref G.length) (G++[.lst [SW 0]]):=Ds (by simp[d.bel]);have b:tidy (G++[.lst [SW 0]]) (.ok (.ref (G.length+1)) (G++[.lst [SW 0],.lst []]))=.ok (.ref (G.length+1)) (G++[.lst [SW 0],.lst []]):=W0 rfl
 unfold Mt Zv;rw[Ag];simp[Af,f,b,e,tidy]
theorem ZDq(b:∀G,Bj H (.int 0) G=.ok (.int yr) G)(a:∀G,Ba [FL] G=.ok (.int yr) G)(G:DH):O1 [H,FL] G=.ok .non G:=by unfold O1 Z6;rw[Ag];simp[b,a,Ar]
end
def it55(h:Hs)(fls:List (Nat->Int))(s:St2):Nat->St2
 |0=>s
 |w+1=>h.Gd fls (it55 h fls s w) 0
def SW55(h:Hs)(fls:List (Nat->Int))(s:St2)(w:Nat):D:=stD h.n (it55 h fls s w).1 (it55 h fls s w).2
theorem ZHu{n:Nat}:okD (m+4) (stD n lv co)=u9:=by
 unfold stD;refine Sy λd a=>?_
 simp[zj,List.not_mem_nil,or_false]at a;rcases a with rfl|rfl
 .refine Sy λd a=>?_
  unfold tab at a;obtain⟨i,_,rfl⟩:=z9.mp a
  rfl
 refine Sy λd a=>?_
 unfold An at a;obtain⟨i,_,rfl⟩:=z9.mp a;refine Sy λd a=>?_
 unfold tab at a;obtain⟨i,_,rfl⟩:=z9.mp a
 rfl
section
variable{h:Hs}{fls:List (Nat->Int)}{s:St2}
theorem ZFR(g:GoodH h):∀(fls:List (Nat->Int))(s:St2)(a:Int),(∀k j,k<h.n->j<5->0<=s.2 k j)->(∀fl∈fls,∀k,k<h.n->0<=fl k)->∀k j,k<h.n->j<5->0<=(h.Gd fls s a).2 k j
 |[],s,a,b,_=>b
 |fl::r,s,a,b,d=>ZFR g r (h.nxt s a fl) (a+1) (ZD2 g b (d fl (by simp))).2 λe c=>d e (zX _ c)
theorem ZFE(g:GoodH h)(b:∀k j,k<h.n->j<5->0<=s.2 k j)(a:∀fl∈fls,∀k,k<h.n->0<=fl k):∀w k j,k<h.n->j<5->0<=(it55 h fls s w).2 k j
 |0=>b
 |w+1=>ZFR g fls _ 0 (ZFE g b a w) a
theorem yr55(g:GoodH h)(b:fls.length<=24)(c:∀k j,k<h.n->j<5->0<=s.2 k j)(a:∀fl∈fls,∀k,k<h.n->0<=fl k):
  Yr h.enc (.fl (Ad h.n fls)) (SW55 h fls s) λw=>(h.Dl fls (it55 h fls s w) 0).map (pgD h.n):=
 ⟨λw G=>ZDP g (by lia) (ZFE g c a w) a G,λw=>ZHu,λw m=>Zb,λw m=>ZEv,λw=>by rw[zM,ZAu];exact b⟩
end
section
variable{H FL:D}{SW:Nat->D}{PG:Nat->List D}
end
def mcell(h:Hs)(f:Nat->Int)(k:Nat):Int:=f (6+24*h.n+k)
def lvM(h:Hs)(f:Nat->Int)(u:Int)(lv:Nat->Int)(k:Nat):Int:=match(h.pl k).kd with
 |.basin b _ _=>lv k+amt (mcell h f k/2) u%(b-lv k+1)*(mcell h f k%2)
 |_=>lv k
def coM(h:Hs)(f:Nat->Int)(u:Int)(co:Nat->Nat->Int)(k j:Nat):Int:=co k j+u*(mcell h f k/2%2)
noncomputable def flM(h:Hs)(f:Nat->Int)(u:Int)(fl:Nat->Nat->Int)(i k:Nat):Int:=fl i k+amt (f (6+24*h.n+h.n+i*h.n+k)/2) u*(f (6+24*h.n+h.n+i*h.n+k)%2)
theorem ZOf{x:Int}(a:0<=x):0<=x*(c%2):=j3 a (by lia)
theorem ZKp{k:Nat}:tab k F++[.int (F k)]=tab (k+1) F:=by simp[tab,qU]
theorem ZL9{k:Nat}:An k co++[.tup (tab 5 (co k))]=An (k+1) co:=by simp[An,qU]
theorem Zx{n k:Nat}(hk:k<n):atI (An n co) (k:Int)=zT (tab 5 (co k)):=Dj rfl (by simp[An,hk])
theorem ZPb(h:∀m,bels m ds=u9):freeze (G++[A,B]) (.ok (.ref (G.length+2)) (G++[A,B,.lst ds]))=.ok (.fl ds) (G++[A,B]):=by have:=Cz (G:=G++[A,B]) (L:=[]) (h _);simpa using this
theorem ZAJ{C:DO}(h:∀m,bels m ds=u9):freeze (G++[A,B,C]) (.ok (.ref (G.length+3)) (G++[A,B,C,.lst ds]))=.ok (.fl ds) (G++[A,B,C]):=by have:=Cz (G:=G++[A,B,C]) (L:=[]) (h _);simpa using this
section
variable{ns:List Int}{f:Nat->Int}{u:Int}{h:Hs}
theorem ZHx(hf:Cf ns f)(hu:0<u)(g:GoodH h)(hb:∀k b r q,k<h.n->(h.pl k).kd=.basin b r q->lv k<=b){k:Nat}(hk:k<h.n){x10 x11 x12 s14 s15 s16 s17:Option D}(G:DH):∃s,
  Rc [zN ns,u7 h.enc,u7 (stD h.n lv co),s3,zI u,zI h.n,zI ((6+24*h.n:Nat):Int),zR G.length,zR (G.length+1),zI k,x10,x11,x12,s14,s15,s16,s17] (G++[.lst (tab k (lvM h f u lv)),.lst (An k (coM h f u co))])=
   .nx [zN ns,u7 h.enc,u7 (stD h.n lv co),s3,zI u,zI h.n,zI ((6+24*h.n:Nat):Int),zR G.length,zR (G.length+1),zI k,zI (mcell h f k),zI (lvM h f u lv k),s,s14,s15,s16,s17] (G++[.lst (tab (k+1) (lvM h f u lv)),.lst (An (k+1) (coM h f u co))]):=by
 have hn:=g.len;have T:∀G,Bb [nD ns,.int (((6+24*h.n:Nat):Int)+(k:Int))] G=.ok (.int (mcell h f k)) G:=λG=>by have:=hf (6+24*h.n+k) (by lia) G;rwa[show((6+24*h.n+k:Nat):Int)=((6+24*h.n:Nat):Int)+k by lia]at this
 generalize((6+24*h.n:Nat):Int)=B at T;have K:atI h.Bs (k:Int)=u7 (h.encP (h.pl k)):=Hs.De hk;have al:atI (tab h.n lv) (k:Int)=zI (lv k):=Ef hk;have ar:atI (An h.n co) (k:Int)=zT (tab 5 (co k)):=Zx hk;have mu:∀G,Br (.int u) (.int (mcell h f k/2%2)) G=.ok (.int (u*(mcell h f k/2%2))) G:=λG=>Hh (by lia) (by lia)
 have J:∀G,Cg (gV 0) Bc ZAw [u8,zI u,zI (mcell h f k)] (tab 5 (co k)) G=.ok (tab 5 (coM h f u co k)) G:=λG=>Pa (E:=λj=>D.int (co k j)) (F:=λj=>.int (coM h f u co k j)) λj _=>by unfold ZAw;simp[mu,coM]
 have M:∀w t:List D,freeze (G++[.lst w,.lst t]) (.ok (.ref (G.length+2)) (G++[.lst w,.lst t,.lst (tab 5 (coM h f u co k))]))=.ok (.fl (tab 5 (coM h f u co k))) (G++[.lst w,.lst t]):=λw t=>ZPb λ_=>Hd
 have N:k<1000000:=by lia
 have cs:∀a b c d e f' g h i j S l m n o p q:Option D,Ax 1 [4,10] [a,b,c,d,e,f',g,h,i,j,S,l,m,n,o,p,q]=[u8,e,S]:=λ_ _ _ _ _ _ _ _ _ _ _ _ _ _ _ _ _=>rfl
 have X:∀a b:DO,(G++[a,b])[G.length]?=u7 a:=λa b=>by simp
 have W:∀a b:DO,(G++[a,b])[G.length+1]?=u7 b:=λa b=>by simp
 have P:∀a b c:DO,(G++[a,b]).set G.length c=G++[c,b]:=λa b c=>by simp
 have Q:∀a b c:DO,(G++[a,b]).set (G.length+1) c=G++[a,c]:=λa b c=>by simp
 have L:=ZKp (k:=k) (F:=lvM h f u lv);have H:=ZL9 (k:=k) (co:=coM h f u co);have et:∀w:List D,Dr [.fl w]=λG=>.ok (.tup w) G:=λw=>rfl
 have C:(tab 5 (coM h f u co k)).length<=1000000:=by simp
 generalize tab 5 (coM h f u co k)=T5 at J M H C;generalize tab (k+1) (lvM h f u lv)=TL at L;generalize An (k+1) (coM h f u co)=Z at H;have y:∀s:Option D,V9 [zN ns,u7 h.enc,u7 (stD h.n lv co),s3,zI u,zI h.n,zI B,zR G.length,zR (G.length+1),zI k,zI (mcell h f k),zI (lvM h f u lv k),s,s14,s15,s16,s17] (G++[.lst (tab k (lvM h f u lv)),.lst (An k (coM h f u co))])=.nx [zN ns,u7 h.enc,u7 (stD h.n lv co),s3,zI u,zI h.n,zI B,zR G.length,zR (G.length+1),zI k,zI (mcell h f k),zI (lvM h f u lv k),s,s14,s15,s16,s17] (G++[.lst TL,.lst Z]):=λs=>by
  unfold V9 ZFW stD;simp[C,X,W,P,Q,N,L,ar,cs,J,M,et,H]
 have I:∃s:Option D,∀z,Wj [zN ns,u7 h.enc,u7 (stD h.n lv co),s3,zI u,zI h.n,zI B,zR G.length,zR (G.length+1),zI k,zI (mcell h f k),zI (lv k),x12,s14,s15,s16,s17] z=V9 [zN ns,u7 h.enc,u7 (stD h.n lv co),s3,zI u,zI h.n,zI B,zR G.length,zR (G.length+1),zI k,zI (mcell h f k),zI (lvM h f u lv k),s,s14,s15,s16,s17] z:=by
  clear y M X W P Q L H J;generalize u7 (stD h.n lv co)=S2;cases v:(h.pl k).kd with
  |basin b r q=>
   have hbl:=hb k b r q hk v;have A:lvM h f u lv k=lv k+amt (mcell h f k/2) u%(b-lv k+1)*(mcell h f k%2):=by unfold lvM;rw[v]
   have e4:∀G,Bj (h.encP (h.pl k)) (.int 4) G=.ok (.int b) G:=λG=>by unfold Hs.encP;rw[v];simp
   have r0:0<b-lv k+1:=by lia
   have m2:∀x G,Br (.int x) (.int (mcell h f k%2)) G=.ok (.int (x*(mcell h f k%2))) G:=λx G=>Hh (by lia) (by lia)
   have Y:∀x G,Jt (.int x) (.int (b-lv k+1)) G=.ok (.int (x%(b-lv k+1))) G:=λx G=>by simp[r0]
   refine⟨zI (b-lv k+1),λz=>?_⟩;rw[A];unfold Wj;simp[Bp,K,Hv,v,Kd.isB,e4,Lw hu,Y,m2]
  |_=>
   have A:lvM h f u lv k=lv k:=by unfold lvM;rw[v]
   refine⟨x12,λz=>?_⟩;rw[A];unfold Wj;simp[Bp,K,Hv,v,Kd.isB]
 obtain⟨s,U⟩:=I;refine⟨s,?_⟩;have O:=(U _).trans (y s);clear y U;have st:stD h.n lv co=.tup [.tup (tab h.n lv),.tup (An h.n co)]:=rfl;rw[st]at O⊢;generalize(G++[.lst (tab k (lvM h f u lv)),.lst (An k (coM h f u co))])=z at O⊢;unfold Rc ZEf;simp[T,al,O]
theorem ZBP(t:Cf ns f)(s:0<u)(g:GoodH h){co:Nat->Nat->Int}(v:∀k b r q,k<h.n->(h.pl k).kd=.basin b r q->lv k<=b){s3 s14 s15 s16 s17:Option D}(G:DH):∀(m k:Nat)(i x10 x11 x12:Option D),k+m=h.n->∃l c a d,
  Aw (gV 9) Rc (Bh k m) [zN ns,u7 h.enc,u7 (stD h.n lv co),s3,zI u,zI h.n,zI ((6+24*h.n:Nat):Int),zR G.length,zR (G.length+1),i,x10,x11,x12,s14,s15,s16,s17] (G++[.lst (tab k (lvM h f u lv)),.lst (An k (coM h f u co))])=
   .nx [zN ns,u7 h.enc,u7 (stD h.n lv co),s3,zI u,zI h.n,zI ((6+24*h.n:Nat):Int),zR G.length,zR (G.length+1),l,c,a,d,s14,s15,s16,s17] (G++[.lst (tab h.n (lvM h f u lv)),.lst (An h.n (coM h f u co))])
 |0,k,i,x10,x11,x12,e=>by
  have o:k=h.n:=by lia
  subst o;exact⟨i,x10,x11,x12,by rw[Ib,Cr]⟩
 |m+1,k,i,x10,x11,x12,e=>by
  obtain⟨p,j⟩:=ZHx t s g v (k:=k) (by lia) (s3:=s3) (x10:=x10) (x11:=x11) (x12:=x12) (s14:=s14) (s15:=s15) (s16:=s16) (s17:=s17) (co:=co) G;obtain⟨l,c,a,d,w⟩:=ZBP t s g v G m (k+1) (zI k) (zI (mcell h f k)) (zI (lvM h f u lv k)) p (by lia);refine⟨l,c,a,d,?_⟩;rw[Hk,Bv];simp only[Ce,R.Bq,qY,j,Cd];have o:((k:Int)+1)=((k+1:Nat):Int):=by lia
  rw[o,w]
theorem ZLl(hf:Cf ns f)(Y:0<u)(g:GoodH h){fl:Nat->Nat->Int}{t:Nat}(U:i<t)(ht:t<=6){s8 s9 s10 s11 s12 s14 x16 x17:Option D}{acc:List D}(ha:acc.length<=100)(G:DH):∃L I,
  Qf [zN ns,u7 h.enc,s2,zF (Ad h.n ((zZ t).map fl)),zI u,zI h.n,zI ((6+24*h.n:Nat):Int),s7,s8,s9,s10,s11,s12,zR (G.length+2),zI i,x16,x17] (G++[A,B,.lst acc])=
   .nx [zN ns,u7 h.enc,s2,zF (Ad h.n ((zZ t).map fl)),zI u,zI h.n,zI ((6+24*h.n:Nat):Int),s7,s8,s9,s10,s11,s12,zR (G.length+2),zI i,L,I] (G++[A,B,.lst (acc++[.tup (tab h.n (flM h f u fl i))])]):=by
 have hn:=g.len;have hin:i*h.n<=6*12:=xw (by lia) hn;have Z:∀G,Br (.int (i:Int)) (.int (h.n:Int)) G=.ok (.int ((i:Int)*h.n)) G:=λG=>Gh (by lia) (by lia)
 have M:∀G,Cg (gV 0) Bc Xf [u8,zN ns,zI h.n,zI ((6+24*h.n:Nat):Int),zI i] (Bh 0 h.n) G=.ok (tab h.n λk=>f (6+24*h.n+h.n+i*h.n+k)) G:=λG=>
  M3 λk hk=>by
   have z:=hf (6+24*h.n+h.n+i*h.n+k) (by lia) G;have e1:((6+24*h.n+h.n+i*h.n+k:Nat):Int)=((6+24*h.n:Nat):Int)+(h.n:Int)+(i:Int)*h.n+k:=by rw[jO,jO,jO,Int.natCast_mul]
   rw[e1]at z;generalize((6+24*h.n:Nat):Int)=B at z;unfold Xf;simp[Z,z]
 have O:∀G,Cg (gV 0) Bc Xv [u8,zI u] (tab h.n λk=>f (6+24*h.n+h.n+i*h.n+k)) G=.ok (tab h.n λk=>amt (f (6+24*h.n+h.n+i*h.n+k)/2) u*(f (6+24*h.n+h.n+i*h.n+k)%2)) G:=λG=>
  Pa (E:=λk=>.int (f (6+24*h.n+h.n+i*h.n+k))) (F:=λk=>.int (amt (f (6+24*h.n+h.n+i*h.n+k)/2) u*(f (6+24*h.n+h.n+i*h.n+k)%2))) λk _=>by
   generalize f (6+24*h.n+h.n+i*h.n+k)=c;have W:∀x G,Br (.int x) (.int (c%2)) G=.ok (.int (x*(c%2))) G:=λx G=>Hh (by lia) (by lia)
   unfold Xv;simp[Lw Y,W]
 have af:atI (Ad h.n ((zZ t).map fl)) (i:Int)=zT (tab h.n (fl i)):=Dj rfl (by simp[Ad,U]);have J:∀G,Cg (gV 0) Bc Y7 [u8,zF (Ad h.n ((zZ t).map fl)),zI i,zF (tab h.n λk=>amt (f (6+24*h.n+h.n+i*h.n+k)/2) u*(f (6+24*h.n+h.n+i*h.n+k)%2))] (Bh 0 h.n) G=.ok (tab h.n (flM h f u fl i)) G:=λG=>
  M3 λk hk=>by unfold Y7;simp[af,Ef hk,Ef hk,flM]
 have hr:inR (h.n:Int):=Ek (by lia) (by lia);have H:∀a b c d e r g h i j v l m n o p q:Option D,Ax 1 [0,5,6,14] [a,b,c,d,e,r,g,h,i,j,v,l,m,n,o,p,q]=[u8,a,r,g,o]:=λ_ _ _ _ _ _ _ _ _ _ _ _ _ _ _ _ _=>rfl
 have K:∀a b c d e r g h i j v l m n o p q:Option D,Ax 1 [4] [a,b,c,d,e,r,g,h,i,j,v,l,m,n,o,p,q]=[u8,e]:=λ_ _ _ _ _ _ _ _ _ _ _ _ _ _ _ _ _=>rfl
 have P:∀a b c d e r g h i j v l m n o p q:Option D,Ax 1 [3,14,16] [a,b,c,d,e,r,g,h,i,j,v,l,m,n,o,p,q]=[u8,d,o,q]:=λ_ _ _ _ _ _ _ _ _ _ _ _ _ _ _ _ _=>rfl
 have y:=ZAJ (G:=G) (A:=A) (B:=B) (C:=.lst acc) (ds:=tab h.n λk=>f (6+24*h.n+h.n+i*h.n+k)) λ_=>Hd
 have s:=ZAJ (G:=G) (A:=A) (B:=B) (C:=.lst acc) (ds:=tab h.n λk=>amt (f (6+24*h.n+h.n+i*h.n+k)/2) u*(f (6+24*h.n+h.n+i*h.n+k)%2)) λ_=>Hd
 have w:=ZAJ (G:=G) (A:=A) (B:=B) (C:=.lst acc) (ds:=tab h.n (flM h f u fl i)) λ_=>Hd
 have X:(G++[A,B,.lst acc])[G.length+2]?=u7 (.lst acc):=by simp
 have s2:∀c:DO,(G++[A,B,.lst acc]).set (G.length+2) c=G++[A,B,c]:=λc=>by simp
 have N:acc.length<1000000:=by lia
 refine⟨zF (tab h.n λk=>f (6+24*h.n+h.n+i*h.n+k)),zF (tab h.n λk=>amt (f (6+24*h.n+h.n+i*h.n+k)/2) u*(f (6+24*h.n+h.n+i*h.n+k)%2)),?_⟩;generalize((6+24*h.n:Nat):Int)=BB at M;have Q:(tab h.n λk=>amt (f (6+24*h.n+h.n+i*h.n+k)/2) u*(f (6+24*h.n+h.n+i*h.n+k)%2)).length<=1000000:=by simp;lia
 have S:(tab h.n λk=>f (6+24*h.n+h.n+i*h.n+k)).length<=1000000:=by simp;lia
 have T:(tab h.n (flM h f u fl i)).length<=1000000:=by simp;lia
 generalize(tab h.n λk=>amt (f (6+24*h.n+h.n+i*h.n+k)/2) u*(f (6+24*h.n+h.n+i*h.n+k)%2))=T4 at O J s Q;generalize(tab h.n λk=>f (6+24*h.n+h.n+i*h.n+k))=T3 at M O y S;generalize tab h.n (flM h f u fl i)=T5 at J w T;unfold Qf ZHX ZGl;simp[S,Q,T,hr,H,K,P,M,O,J,y,s,w,X,s2,N]
theorem ZBc(q:Cf ns f)(p:0<u)(g:GoodH h){fl:Nat->Nat->Int}{t:Nat}(s:t<=6){s2 s7 s8 s9 s10 s11 s12:Option D}{A B:DO}(G:DH):∀(m i:Nat)(a x16 x17:Option D),i+m=t->∃c b d,
  Aw (gV 14) Qf (Bh i m) [zN ns,u7 h.enc,s2,zF (Ad h.n ((zZ t).map fl)),zI u,zI h.n,zI ((6+24*h.n:Nat):Int),s7,s8,s9,s10,s11,s12,zR (G.length+2),a,x16,x17] (G++[A,B,.lst (Ad h.n ((zZ i).map (flM h f u fl)))])=
   .nx [zN ns,u7 h.enc,s2,zF (Ad h.n ((zZ t).map fl)),zI u,zI h.n,zI ((6+24*h.n:Nat):Int),s7,s8,s9,s10,s11,s12,zR (G.length+2),c,b,d] (G++[A,B,.lst (Ad h.n ((zZ t).map (flM h f u fl)))])
 |0,i,a,x16,x17,e=>by
  have j:i=t:=by lia
  subst j;exact⟨a,x16,x17,by rw[Ib,Cr]⟩
 |m+1,i,a,x16,x17,e=>by
  obtain⟨l,o,r⟩:=ZLl q p g (i:=i) (by lia) s (s2:=s2) (s7:=s7) (s8:=s8) (s9:=s9) (s10:=s10) (s11:=s11) (s12:=s12) (s14:=u8) (x16:=x16) (x17:=x17) (A:=A) (B:=B) (acc:=Ad h.n ((zZ i).map (flM h f u fl))) (by simp[Ad];lia) G;obtain⟨c,b,d,w⟩:=ZBc q p g s G m (i+1) (zI i) l o (by lia);refine⟨c,b,d,?_⟩;have v:Ad h.n ((zZ i).map (flM h f u fl))++[.tup (tab h.n (flM h f u fl i))]=Ad h.n ((zZ (i+1)).map (flM h f u fl)):=by simp[Ad,qU]
  rw[v]at r;rw[Hk,Bv];simp only[Ce,R.Bq,qY,r,Cd];have j:((i:Int)+1)=((i+1:Nat):Int):=by lia
  rw[j,w]
theorem ZOR(b:bels G.length ds=u9)(a:bel G.length e=u9):freeze G (.ok (.tup [e,.ref (G.length+2)]) (G++[A,B,.lst ds]))=.ok (.tup [e,.fl ds]) G:=by
 unfold freeze;have m:By (G++[A,B,.lst ds]) G.length 9 (.tup [e,.ref (G.length+2)])=zT [e,.fl ds]:=by
  unfold By;have c:By (G++[A,B,.lst ds]) G.length 8 (.ref (G.length+2))=zF ds:=by unfold By;simp[Ni b]
  have d:By (G++[A,B,.lst ds]) G.length 8 e=u7 e:=by unfold By;simp[a]
  simp[Hi,c,d]
 simp[m]
theorem ZKK(y:Cf ns f)(w:0<u)(cu:Cu ns u)(g:GoodH h)(I:∀k b r q,k<h.n->(h.pl k).kd=.basin b r q->lv k<=b){fl:Nat->Nat->Int}{t:Nat}(S:t<=6)(G:DH):
  freeze G (Rh [nD ns,h.enc,stD h.n lv co,.fl (Ad h.n ((zZ t).map fl))] G)=.ok (.tup [stD h.n (lvM h f u lv) (coM h f u co),.fl (Ad h.n ((zZ t).map (flM h f u fl)))]) G:=by
 have X:=g.len;obtain⟨E,m,j,o,H⟩:=ZBP y w g I (co:=co) (s14:=u8) (s15:=u8) (s16:=u8) (s17:=u8) G h.n 0 u8 u8 u8 u8 (by lia);obtain⟨U,P,J,N⟩:=ZBc y w g (fl:=fl) S (s9:=E) (s10:=m) (s11:=j) (s12:=o) G t 0 u8 u8 u8 (by lia);have i:Aw (gV 9) Rc (Bh 0 h.n) [zN ns,u7 h.enc,u7 (stD h.n lv co),zF (Ad h.n ((zZ t).map fl)),zI u,zI h.n,zI ((6+24*h.n:Nat):Int),zR G.length,zR (G.length+1),u8,u8,u8,u8,u8,u8,u8,u8] (G++[.lst [],.lst []])=_:=H
 have d:Aw (gV 14) Qf (Bh 0 t) [zN ns,u7 h.enc,u7 (stD h.n lv co),zF (Ad h.n ((zZ t).map fl)),zI u,zI h.n,zI ((6+24*h.n:Nat):Int),zR G.length,zR (G.length+1),E,m,j,o,zR (G.length+2),u8,u8,u8] (G++[.lst (tab h.n (lvM h f u lv)),.lst (An h.n (coM h f u co)),.lst []])=_:=N;have v:∀G,Br (.int 24) (.int (h.n:Int)) G=.ok (.int (24*(h.n:Int))) G:=λG=>Gh (by lia) (by lia)
 have x:(6+24*(h.n:Int))=((6+24*h.n:Nat):Int):=by lia
 have Q:freeze G (.ok (.int u) G)=.ok (.int u) G:=J0 rfl;have T:inR (h.n:Int):=Ek (by lia) (by lia);have p:inR (t:Int):=Ek (by lia) (by lia);have M:tidy (G++[.lst []]) (.ok (.ref (G.length+1)) (G++[.lst [],.lst []]))=.ok (.ref (G.length+1)) (G++[.lst [],.lst []]):=W0 rfl;have K:∀A B:DO,tidy (G++[A,B]) (.ok (.ref (G.length+2)) (G++[A,B,.lst []]))=.ok (.ref (G.length+2)) (G++[A,B,.lst []]):=λA B=>by have:=Ds (G:=G++[A,B]) (ds:=[]) (L:=[]) rfl;simpa using this
 have l:(Ad h.n ((zZ t).map fl)).length=t:=by simp[Ad]
 have C:∀b c:DO,(G++[.lst (tab h.n (lvM h f u lv)),b,c])[G.length]?=u7 (.lst (tab h.n (lvM h f u lv))):=λb c=>by simp
 have z:∀a c:DO,(G++[a,.lst (An h.n (coM h f u co)),c])[G.length+1]?=u7 (.lst (An h.n (coM h f u co))):=λa c=>by simp
 have F:∀(e:D)(s:DH),tidy G (.ok (.tup [e,.ref (G.length+2)]) s)=.ok (.tup [e,.ref (G.length+2)]) s:=λe s=>V0 (by simp)
 have O:Rh [nD ns,h.enc,stD h.n lv co,.fl (Ad h.n ((zZ t).map fl))] G=.ok (.tup [stD h.n (lvM h f u lv) (coM h f u co),.ref (G.length+2)]) (G++[.lst (tab h.n (lvM h f u lv)),.lst (An h.n (coM h f u co)),.lst (Ad h.n ((zZ t).map (flM h f u fl)))]):=by
  generalize((6+24*h.n:Nat):Int)=Z at i d x;generalize Ad h.n ((zZ t).map (flM h f u fl))=F2 at d;generalize Ad h.n ((zZ t).map fl)=Y at i d l;generalize stD h.n lv co=E0 at i d;unfold stD;generalize tab h.n (lvM h f u lv)=TL at i d C;generalize An h.n (coM h f u co)=W at i d z;unfold Rh ZGH;rw[Ag];simp[cu,Q,Bp,Hs.Eh,v,x,Af,Ds,M,T,i,K,l,p,d,C,z,Ah,F]
 rw[O,ZOR (G:=G) (A:=.lst (tab h.n (lvM h f u lv))) (B:=.lst (An h.n (coM h f u co))) (ds:=Ad h.n ((zZ t).map (flM h f u fl))) (e:=stD h.n (lvM h f u lv) (coM h f u co)) Xo Zb]
end
theorem ZCB{te:DE}{n:Nat}{E1 E2 F:Nat->D}{d:D}(r:Bd d G=u7 ((zZ n).map E1))(o:Bd e G=u7 ((zZ n).map E2))(h:∀k,k<n->te [u7 (E1 k),u7 (E2 k)] G=.ok (F k) G):
  Cm (Em [d,e]) (Aj 2 (Ab (gV 0) (Ab (gV 1) Al))) Bc te (Ax 2 [] S) n 0 G=.ok ((zZ n).map F) G:=by
 have c:∀j,Em [d,e] j G=u7 ((zZ n).map λi=>D.tup [E1 i,E2 i])[j]? :=λj=>by
  rw[X6 r o,Ln,List.zip_map',jz]
  rfl
 have p:Ax 2 [] S=[u8,u8]:=rfl;rw[p];have b:∀m j,j+m=n->Cm (Em [d,e]) (Aj 2 (Ab (gV 0) (Ab (gV 1) Al))) Bc te [u8,u8] m j G=.ok ((j6 j m).map F) G:=by
  intro m
  induction m with
  |zero=>
   intro j q;unfold Cm;rw[c,z7 (by simp;lia)]
   rfl
  |succ m l=>
   intro j q;have a:j<n:=by lia
   unfold Cm;rw[c,zw,zH a];have g:(Aj 2 (Ab (gV 0) (Ab (gV 1) Al))) (.tup [E1 j,E2 j]) [u8,u8] G=.ok [u7 (E1 j),u7 (E2 j)] G:=by simp
   simp[jN,g,R.Hm,ZES,if_true,h j a,l (j+1) (by lia)];rw[xW,zk]
 have:=b n 0 (by lia);rw[this,jG]
def leN(n:Nat)(a b:Nat->Int):Bool:=(zZ n).all λk=>decide (a k<=b k)
def Jj(w m:Nat)(A:Nat->Nat->Int):List D:=(zZ m).map λi=>D.tup (tab w (A i))
@[simp]theorem ZRh{A:Nat->Nat->Int}:(Jj w m A).length=m:=by simp[Jj]
theorem ZEI{k:Nat}{A:Nat->Nat->Int}(hk:k<m):atI (Jj w m A) (k:Int)=zT (tab w (A k)):=Dj rfl (by simp[Jj,hk])
def leR(w m:Nat)(A B:Nat->Nat->Int):Bool:=(zZ m).all λi=>leN w (A i) (B i)
theorem Yu{n:Nat}{p:Nat->Bool}:((zZ n).map λk=>D.bl (p k))=((zZ n).map p).map D.bl:=by rw[jz];rfl
theorem Za{ks:List Bool}:bels m (ks.map D.bl)=u9:=Dw λ_ _=>rfl
theorem ZF0{n:Nat}{a b:Nat->Int}(i:n<=1000)(G:DH):Rr [.tup (tab n a),.tup (tab n b)] G=.ok (.bl (leN n a b)) G:=by
 have d:=V5 (G:=G) (K9 (xs:=tab n a)) (K9 (xs:=tab n b));rw[ZLN]at d;have c:=ZCB (te:=ZAd) (S:=[zT (tab n a),zT (tab n b)]) (F:=λk=>.bl (decide (a k<=b k))) (G:=G) (K9 (xs:=tab n a)) (K9 (xs:=tab n b)) λk _=>by unfold ZAd;simp
 rw[Yu]at c;have e:((zZ n).map λk=>decide (a k<=b k)).all id=leN n a b:=by rw[List.all_map];rfl
 have g:((zZ n).map λk=>decide (a k<=b k)).length<=1000000:=by simp;lia
 generalize((zZ n).map λk=>decide (a k<=b k))=j at c e g;unfold Rr ZGQ;rw[Ag];simp[d,c,g,Cz Za,e,Ar]
theorem ZFY{m':Nat}{A B:Nat->Nat->Int}(hw:w<=1000)(p:m<=1000){d:D}(n:Bd d G=u7 (Jj w m A))(j:Bd e G=u7 (Jj w m' B))(g:Ba [d] G=.ok (.int m) G)(a:Ba [e] G=.ok (.int m') G):
  M8 [d,e] G=.ok (.bl (decide (m=m')&&leR w m A B)) G:=by
 by_cases h:m=m'
 .subst h;have c:=V5 n j;rw[ZRh]at c;have b:=ZCB (te:=Zj) (S:=[u7 d,u7 e]) (F:=λk=>.bl (leN w (A k) (B k))) n j λk _=>by unfold Zj;simp[ZF0 hw]
  rw[Yu]at b;have i:((zZ m).map λk=>leN w (A k) (B k)).all id=leR w m A B:=by rw[List.all_map];rfl
  have l:((zZ m).map λk=>leN w (A k) (B k)).length<=1000000:=by simp;lia
  generalize((zZ m).map λk=>leN w (A k) (B k))=q at b i l;unfold M8 ZAj;rw[Ag];simp[g,a,c,b,l,Cz Za,i,Ar]
 have o:¬(m:Int)=(m':Int):=by lia
 unfold M8 ZAj;rw[Ag];simp[g,a,h,o,Ar]
theorem ZN5{n:Nat}(c:n<=1000)(G:DH):Wv [stD n lv co,stD n lv' co'] G=.ok (.bl (leN n lv lv'&&leR 5 n co co')) G:=by
 have g:=ZFY (by lia) c (d:=.tup (An n co)) (e:=.tup (An n co')) (G:=G) rfl rfl (by simp) (by simp);simp at g;unfold stD Wv ZFf;rw[Ag]
 cases e:leN n lv lv'<;>simp[ZF0 c (a:=lv) (b:=lv') G,g,e,Ar]
theorem ZG3{b:DS}{u v:Option D}{p:Nat->Bool}{n:Nat}(h:∀k:Nat,k<n->b [u,v,zI k] G=if p k=u9 then .nx [u,v,zI k] G else .rt (.bl uA) G):∀(m k:Nat)(x:Option D),k+m=n->∃y,Aw (gV 2) b (Bh k m) [u,v,x] G=if(j6 k m).all p=u9 then .nx [u,v,y] G else .rt (.bl uA) G
 |0,k,x,e=>⟨x,by rw[Ib,Cr];rfl⟩
 |m+1,k,x,e=>by
  obtain⟨y,a⟩:=ZG3 h m (k+1) (zI k) (by lia);refine⟨y,?_⟩;have c:((k:Int)+1)=((k+1:Nat):Int):=by lia
  rw[Hk,Bv];simp[Ce,R.Bq,qY,h k (by lia)];rw[xW,qE];cases hp:p k
  .simp
  simp only[if_true,Cd,c,a,Bool.true_and]
theorem ZJk{b:DS}{u v:Option D}{p:Nat->Bool}{n:Nat}(h:∀k:Nat,k<n->b [u,v,zI k] G=if p k=u9 then .nx [u,v,zI k] G else .rt (.bl uA) G):∃y,Aw (gV 2) b (Bh 0 n) [u,v,u8] G=if(j6 0 n).all p=u9 then .nx [u,v,y] G else .rt (.bl uA) G:=ZG3 h n 0 u8 (by lia)
theorem Zr{n:Nat}(l:n<=1000){a b:Nat->Int}(G:DH):O4 [.tup (tab n a),.tup (tab n b)] G=.ok (.bl (leN n a b)) G:=by
 obtain⟨y,g⟩:=ZJk (b:=Xi) (u:=zT (tab n a)) (v:=zT (tab n b)) (p:=λk=>decide (a k<=b k)) (G:=G) (λk hk=>by
  have d:atI (tab n a) (k:Int)=zI (a k):=Ef hk;have c:atI (tab n b) (k:Int)=zI (b k):=Ef hk;unfold Xi;by_cases h:a k<=b k
  .have j:¬b k<a k:=by lia
   simp[d,c,h,j]
  simp[d,c,h,by omega])
 have i:inR (n:Int):=Ek (by lia) (by lia);have e:(j6 0 n).all (λk=>decide (a k<=b k))=leN n a b:=by rw[<-jG];rfl
 rw[e]at g;unfold O4 ZCt;rw[Ag]
 cases h:leN n a b<;>simp[i,g,h,Ar]
theorem Vx{n:Nat}:Ad n fls=Jj n fls.length λi=>fls.getD i λ_=>0:=by
 refine qM (by simp[Ad,Jj]) λi a b=>?_
 simp[Ad,Jj,zA,by simpa[Ad]using a]
theorem ZP6{n:Nat}(a:n<=1000){fls':List (Nat->Int)}(b:fls.length<=1000)(G:DH):M8 [.fl (Ad n fls),.fl (Ad n fls')] G=.ok (.bl (decide (fls.length=fls'.length)&&leR n fls.length (λi=>fls.getD i λ_=>0) λi=>fls'.getD i λ_=>0)) G:=
 ZFY a b (by rw[Vx];rfl) (by rw[Vx];rfl) (by simp[Ad]) (by simp[Ad])
theorem ZPl{n k:Nat}{g:Nat->List Int}(hk:k<n){b d e f:Int}(h:g k=[a,b,c,d,e,f]):atI (Bw n g) (k:Int)=zT [.int a,.int b,.int c,.int d,.int e,.int f]:=Dj rfl (by unfold Bw;rw[zw,zH hk];simp[Im,h])
def wt:Nat->Str
 |1=>"took"
 |2=>"spilled"
 |3=>"let"
 |4=>"pumped"
 |_=>"lies"
def snT(b:Bool):Str:=if b=u9 then "least" else "most"
def byd(b:Bool)(x m:Int):Bool:=if b=u9 then decide (x<m)else decide (m<x)
theorem ZAr:(snT b="least")=(b=u9):=by cases b<;>simp[snT]<;>decide
def Eo(c p:Nat)(b:Bool)(m:Int):D:=.tup [.str (wt c),.int p,.str (snT b),.int m]
theorem ZO7{x m:Int}(G:DH):Wc [.int x,.str (snT b),.int m] G=.ok (.bl (byd b x m)) G:=by
 unfold Wc ZBb;rw[Ag]
 cases b<;>simp[ZAr,byd,Ar]
theorem five{P:Nat->Prop}{c:Nat}(h:1<=c)(g:c<=5)(a:P 1)(b:P 2)(d:P 3)(e:P 4)(f:P 5):P c:=by rcases(by lia:c=1\/c=2\/c=3\/c=4\/c=5)with rfl|rfl|rfl|rfl|rfl<;>assumption
def prt:List (Str×D):=[("lies",.int 5),("spilled",.int 2),("let",.int 3),("pumped",.int 4),("took",.int 1)]
theorem ZOY{c:Nat}(d:1<=c)(b:c<=5):Gr (Hg [] (prt.map λa=>(.inr a.1,a.2))) (.inr (wt c))=zI c:=five (P:=λc=>Gr (Hg [] (prt.map λa=>(.inr a.1,a.2))) (.inr (wt c))=zI c) d b rfl rfl rfl rfl rfl
theorem ZJt{kvs:List (Str×D)}{x:Str}{v:D}(h:Gr (Hg [] (kvs.map λa=>(.inr a.1,a.2))) (.inr x)=u7 v)(b:bel G.length v=u9):tidy G ((sRt (dOp Kg (Qn kvs) (dV 0)) [zS x] G).ret)=.ok v G:=by
 have e:Kg (.ref G.length) (.str x) (G++[.dct (Hg [] (kvs.map λa=>(.inr a.1,a.2)))])=.ok v (G++[.dct (Hg [] (kvs.map λa=>(.inr a.1,a.2)))]):=by rw[ZNS (kvs:=Hg [] (kvs.map λa=>(.inr a.1,a.2))) (by simp) rfl,h]
 simp[e,Je,b]
theorem ZM6{c:Nat}(b:1<=c)(a:c<=5)(G:DH):Wb [.str (wt c)] G=.ok (.int c) G:=by unfold Wb ZF4;rw[Ag];exact ZJt (ZOY b a) rfl
noncomputable def Ke(b:Bool)(m:Int):List Int->Nat->Option (Nat×Int)
 |[],_=>u8
 |x::r,k=>if byd b x m=u9 then u7 (k,x)else Ke b m r (k+1)
def Ht(b:Bool)(r:List Int)(x:Int):Int:=if b=u9 then r.foldl min x else r.foldl max x
def H9(b:Bool)(m:Int)(xs:List Int):D:=match Ke b m xs 0 with
 |some (i,x)=>.tup [.str "broken",.int i,.int x]
 |none=>match xs with
  |[]=>.tup [.str "kept",.non,.non]
  |x::r=>.tup [.str "kept",.int ((x::r).idxOf (Ht b r x):Nat),.int (Ht b r x)]
theorem ZAs{f:Int->Int->Int}(c:∀a b,f a b=a\/f a b=b):∀(r:List Int)(x:Int),r.foldl f x∈x::r
 |[],x=>by simp
 | y::r,x=>by
  have:=ZAs c r (f x y);rw[jM];rcases zj.mp this with h|h
  .rcases c x y with e|e
   .rw[h,e];simp
   rw[h,e];simp
  simp[h]
theorem ZM7{r:List Int}{x:Int}:Ht b r x∈x::r:=by
 unfold Ht;cases b
 .exact ZAs (λa b=>by lia) r x
 exact ZAs (λa b=>by lia) r x
theorem ZB3{b:Bool}{m:Int}{s0 s1 s2 s3 s6 s7 s10:Option D}{G:DH}:∀(xs:List Int)(k:Nat)(c a:Option D),∃d f,
  Aw (Aj 2 (Ab (gV 8) (Ab (gV 9) Al))) Kf (enS k (xs.map D.int)) [s0,s1,s2,s3,zS (snT b),zI m,s6,s7,c,a,s10] G=
   match Ke b m xs k with
   |some (i,x)=>.rt (.tup [.str "broken",.int i,.int x]) G
   |none=>.nx [s0,s1,s2,s3,zS (snT b),zI m,s6,s7,d,f,s10] G
 |[],k,c,a=>⟨c,a,by show Aw _ _ [] _ _=_;rw[Cr];rfl⟩
 | x::r,k,c,a=>by
  obtain⟨d,f,h⟩:=ZB3 (b:=b) (m:=m) (s0:=s0) (s1:=s1) (s2:=s2) (s3:=s3) (s6:=s6) (s7:=s7) (s10:=s10) (G:=G) r (k+1) (zI k) (zI x);refine⟨d,f,?_⟩;have g:((k:Int)+1)=((k+1:Nat):Int):=by lia
  show Aw _ _ (.tup [.int k,.int x]::enS ((k:Int)+1) (r.map D.int)) _ _=_;rw[Bv,g];have j:Kf [s0,s1,s2,s3,zS (snT b),zI m,s6,s7,zI k,zI x,s10] G=if byd b x m=u9 then .rt (.tup [.str "broken",.int k,.int x]) G else .nx [s0,s1,s2,s3,zS (snT b),zI m,s6,s7,zI k,zI x,s10] G:=by
   unfold Kf
   cases e:byd b x m<;>simp[ZO7,e,Ah]
  simp only[Ow,Oa,Pb,Ce,R.Hm,R.Bq,qY,j,zL,qS,Nat.reduceAdd,if_true];unfold Ke;cases e:byd b x m with
  |true=>simp
  |false=>simp only[j8,if_false,Cd,h]
def Gn(pgs:List (Nat->List Int))(p c:Nat):List Int:=pgs.map λpg=>(pg p).getD c 0
abbrev Row6(h:Hs)(pg:Nat->List Int):Prop:=∀k,k<h.n->(pg k).length=6
theorem run6(g:GoodH h):∀(fls:List (Nat->Int))(s:St2)(a:Int),∀b∈h.Dl fls s a,Row6 h b
 |[],s,a,b,hp=>nomatch hp
 |fl::r,s,a,b,hp=>by
  rcases zj.mp hp with rfl|hp
  .exact ZBA g h.n 0 _ (by lia) λi d c=>by
    unfold Hs.done at c
    split at c<;>lia
  exact run6 g r _ _ b hp
theorem ZKS{i:Nat->List Int}(m:Row6 h i){p c:Nat}(hp:p<h.n)(k:1<=c)(l:c<=5)(G:DH):∃t,atI (Bw h.n i) (p:Int)=zT t/\atI t (c:Int)=zI ((i p).getD c 0):=by obtain⟨a,b,d,e,f,g,j⟩:=row6 (m p hp);refine⟨_,ZPl hp j,?_⟩;rw[j];exact five (P:=λc=>atI [D.int a,.int b,.int d,.int e,.int f,.int g] (c:Int)=zI ([a,b,d,e,f,g].getD c 0)) k l rfl rfl rfl rfl rfl
theorem X3{m:Int}{xs:List Int}{k:Nat}:bel k (H9 b m xs)=u9:=by
 unfold H9;split
 .rfl
 split <;> rfl
theorem ZFK{pgs:List (Nat->List Int)}(hl:pgs.length<=100000)(Y:∀k∈pgs,Row6 h k){p c:Nat}(hp:p<h.n)(A:1<=c)(K:c<=5){m:Int}(G:DH):
  S6 [.fl (pgs.map (pgD h.n)),Eo c p b m] G=.ok (H9 b m (Gn pgs p c)) G:=by
 have s:Cg (gV 0) Bc Ws [u8,zI p,zI c] (pgs.map (pgD h.n)) G=.ok ((Gn pgs p c).map D.int) G:=by
  have:=Pa (te:=Ws) (S:=[u8,zI p,zI c]) (E:=pgD h.n) (F:=λk=>.int ((k p).getD c 0)) (G:=G) λk z=>by obtain⟨t,e1,U⟩:=ZKS (Y k z) hp A K G;unfold Ws pgD;simp[e1,U]
  rw[this,Gn,jz]
  rfl
 have Q:(Gn pgs p c).length=pgs.length:=by simp[Gn]
 generalize Gn pgs p c=d at s Q;have Z:d.length<=1000000:=by lia
 obtain⟨w,y,P⟩:=ZB3 d 0 u8 u8
 have f:Cq (Dh 0 (.fl (d.map D.int))) (Aj 2 (Ab (gV 8) (Ab (gV 9) Al))) Kf d.length 0 [zF (pgs.map (pgD h.n)),u7 (Eo c p b m),zS (wt c),zI p,zS (snT b),zI m,zI c,zF (d.map D.int),u8,u8,u8] G=(match Ke b m d 0 with
   |some (i,x)=>.rt (.tup [.str "broken",.int i,.int x]) G
   |none=>.nx [zF (pgs.map (pgD h.n)),u7 (Eo c p b m),zS (wt c),zI p,zS (snT b),zI m,zI c,zF (d.map D.int),w,y,u8] G):=by
  have:=ZDp (g:=Aj 2 (Ab (gV 8) (Ab (gV 9) Al))) (b:=Kf) (xs:=d.map D.int) (a:=0) (S:=[zF (pgs.map (pgD h.n)),u7 (Eo c p b m),zS (wt c),zI p,zS (snT b),zI m,zI c,zF (d.map D.int),u8,u8,u8]) (G:=G);rw[zM]at this;rw[this];exact P
 have H:freeze G (.ok (.ref G.length) (G++[.lst (d.map D.int)]))=.ok (.fl (d.map D.int)) G:=Cz (Dw λ_ _=>rfl);have L:Eo c p b m=.tup [.str (wt c),.int p,.str (snT b),.int m]:=rfl;have l:(pgs.map (pgD h.n)).length<=1000000:=by simp;exact(by lia)
 have j:(d.map D.int).length=d.length:=by simp
 have v:Uq [zF (pgs.map (pgD h.n)),u7 (Eo c p b m),u8,u8,u8,u8,u8,u8,u8,u8,u8] G=R5 [zF (pgs.map (pgD h.n)),u7 (Eo c p b m),zS (wt c),zI p,zS (snT b),zI m,zI c,zF (d.map D.int),u8,u8,u8] G:=by
  generalize pgs.map (pgD h.n)=PG at s l;have o:(d.map D.int).length<=1000000:=by simp;lia
  generalize d.map D.int=X at s H o;unfold Uq ZEy ZE1;simp[L,ZM6 A K,Ax,s,H,l,o]
 have M:R5 [zF (pgs.map (pgD h.n)),u7 (Eo c p b m),zS (wt c),zI p,zS (snT b),zI m,zI c,zF (d.map D.int),u8,u8,u8] G=(match Ke b m d 0 with
   |some (i,x)=>.rt (.tup [.str "broken",.int i,.int x]) G
   |none=>Wt [zF (pgs.map (pgD h.n)),u7 (Eo c p b m),zS (wt c),zI p,zS (snT b),zI m,zI c,zF (d.map D.int),w,y,u8] G):=by
  unfold R5;generalize pgs.map (pgD h.n)=PG at f;generalize Eo c p b m=u at f;generalize d.map D.int=X at f j;simp only[<-j]at f;rw[Lx];have e:(Bx (Bg Fb (Ac (dV 7) Az)) (Aj 2 (Ab (gV 8) (Ab (gV 9) Al))) Kf) [zF PG,u7 u,zS (wt c),zI p,zS (snT b),zI m,zI c,zF X,u8,u8,u8] G=_:=(by simp:_=Cq (Dh 0 (.fl X)) (Aj 2 (Ab (gV 8) (Ab (gV 9) Al))) Kf X.length 0 [zF PG,u7 u,zS (wt c),zI p,zS (snT b),zI m,zI c,zF X,u8,u8,u8] G).trans f
  rw[e];cases Ke b m d 0 with
  |_=>rfl
 have go:R5 [zF (pgs.map (pgD h.n)),u7 (Eo c p b m),zS (wt c),zI p,zS (snT b),zI m,zI c,zF (d.map D.int),u8,u8,u8] G=.rt (H9 b m d) G:=by
  rw[M];unfold H9;cases hF:Ke b m d 0 with
  |some q=>rfl
  | none=>
   generalize pgs.map (pgD h.n)=PG;generalize Eo c p b m=u;cases d with
   |nil=>
    unfold Wt;simp[Ah]
   | cons x r=>
    have C:∀G,Jk (.fl ((x::r).map D.int)) [.int (Ht b r x)] G=.ok (.int ((x::r).idxOf (Ht b r x):Nat)) G:=λG=>ZFN rfl ZM7 Z
    have O:∀G,Gy [.fl ((x::r).map D.int)] G=.ok (.int (r.foldl min x)) G:=λG=>ZFo rfl
    have T:∀G,Ho [.fl ((x::r).map D.int)] G=.ok (.int (r.foldl max x)) G:=λG=>ZGb rfl
    have W:¬((x::r).map D.int)=[]:=by simp
    dsimp only;have bl:Ht b r x=if b=u9 then r.foldl min x else r.foldl max x:=rfl
    generalize(((x::r).idxOf (Ht b r x):Nat):Int)=I at C⊢;generalize(x::r).map D.int=X at*;have J:dIf (Ak (dOp Hj (dV 4) (dC (.str "least")))) (dFn Gy (Ac (dV 7) Az)) (dFn Ho (Ac (dV 7) Az)) [zF PG,u7 u,zS (wt c),zI p,zS (snT b),zI m,zI c,zF X,w,y,u8] G=.ok (.int (Ht b r x)) G:=by
     rw[bl]
     cases b<;>simp[ZAr,O,T]
    generalize Ht b r x=B at*;unfold Wt ZFI ZGg;generalize dIf (Ak (dOp Hj (dV 4) (dC (.str "least")))) (dFn Gy (Ac (dV 7) Az)) (dFn Ho (Ac (dV 7) Az))=N at J;simp[W,J,C,Ah]
 unfold S6;rw[Ag];show tidy G ((Uq [zF (pgs.map (pgD h.n)),u7 (Eo c p b m),u8,u8,u8,u8,u8,u8,u8,u8,u8] G).ret)=_;rw[v,go];exact Ar X3
theorem ZBm(G:DH):Gm (.str (snT b)) (.tup [.str "least",.str "most"]) G=.ok (.bl uA) G:=by cases b<;>rfl
def knd:List (Str×Str):=[("lies","basin"),("spilled","basin"),("let","basin"),("pumped","basin"),("took","town")]
def knT(c:Nat):Str:=if c=1 then "town" else "basin"
theorem ZFz{c:Nat}(b:1<=c)(a:c<=5):knd.lookup (wt c)=u7 (knT c):=five (P:=λc=>knd.lookup (wt c)=u7 (knT c)) b a rfl rfl rfl rfl rfl
theorem ZCM{n c p:Nat}{m:Int}{fls':List (Nat->Int)}(G:DH):
  Rp [stD n lv co,stD n lv' co',.fl (Ad n fls),.fl (Ad n fls'),Eo c p b m] G=.ok (.tup [stD n (if b=u9 then lv else lv') (if b=u9 then co else co'),.fl (Ad n (if b=u9 then fls else fls'))]) G:=by
 have a:Eo c p b m=.tup [.str (wt c),.int p,.str (snT b),.int m]:=rfl;unfold Rp ZGm;rw[Ag]
 cases b<;>simp[a,ZAr,Ah,Ar]
def Bf(w:Str)(p:Int)(sn:Str)(m:Int):D:=.tup [.str w,.int p,.str sn,.int m]
def GdA(h:Hs)(w:Str)(p:Int)(sn:Str):Prop:=∃(c k:Nat)(b:Bool),p=(k:Int)/\k<h.n/\(1<=c/\c<=5)/\w=wt c/\sn=snT b/\(h.pl k).kd.txt=knT c
theorem ZPQ{w:Str}:(∃c,(1<=c/\c<=5)/\w=wt c)\/(knd.lookup w=u8/\∀c,1<=c->c<=5->w≠wt c):=by
 by_cases f:w="lies"
 .exact .inl ⟨5,by lia,f⟩
 by_cases d:w="spilled"
 .exact .inl ⟨2,by lia,d⟩
 by_cases e:w="let"
 .exact .inl ⟨3,by lia,e⟩
 by_cases b:w="pumped"
 .exact .inl ⟨4,by lia,b⟩
 by_cases a:w="took"
 .exact .inl ⟨1,by lia,a⟩
 refine .inr ⟨?_,λc g i=>five (P:=λc=>w≠wt c) g i a d e b f⟩;simp[knd,qC,f,d,e,b,a,beq_false_of_ne]
theorem ZIO:(∃b,sn=snT b)\/(¬sn="least"/\¬sn="most"):=by
 by_cases c:sn="least"
 .exact .inl ⟨u9,c⟩
 by_cases a:sn="most"
 .exact .inl ⟨uA,a⟩
 exact .inr ⟨c,a⟩
section
variable{h:Hs}{w sn:Str}{p m:Int}
theorem ZGN(r:¬GdA h w p sn)(G:DH):Mq [h.enc,Bf w p sn m] G=.err ⟨"NoAsk",[]⟩ G:=by
 have d:Bf w p sn m=.tup [.str w,.int p,.str sn,.int m]:=rfl;have s:Z5=(Ae (sNr (sAs (dV 1) (Aj 4 (Ab (gV 2) (Ab (gV 3) (Ab (gV 4) (Ab (gV 5) Al))))))) (Ae (sIf (dOr (Ak (dOp Gm (dV 4) (dC (.tup [.str "least",.str "most"])))) (Ak (dUn (Lj knd) (dV 2)))) (Dt "NoAsk" (Ac (dC (.str "an ask is of another word than these")) Az)) sNx) (Ae (sIf (Gp (Ak (Jz Ii Jr (dC (.int 0)) (dV 3) (dFn Ba (Ac (dOp Bj (dV 0) (dC (.int 1))) Az))))) (Dt "NoAsk" (Ac (dC (.str "an ask is of a place that is not there")) Az)) sNx) (sIf (Ak (dOp Eg (dOp Bj (dOp Bj (dOp Bj (dV 0) (dC (.int 1))) (dV 3)) (dC (.int 0))) (dUn (Jh knd) (dV 2)))) (Dt "NoAsk" (Ac (dC (.str "an ask is of a place of another kind")) Az)) sNx)))):=rfl
 unfold Mq;rw[Ag,s];rcases ZIO (sn:=sn)with⟨b,rfl⟩|⟨t,j⟩
 .have a:=ZBm (b:=b) G;rcases ZPQ (w:=w)with⟨c,g,rfl⟩|⟨hw,_⟩
  .have e:=ZFz g.1 g.2;have l:∀G,Jh knd (.str (wt c)) G=.ok (.str (knT c)) G:=λG=>ZDn e
   generalize u:snT b=o at*;generalize knd=M at*;by_cases hp:0<=p/\p<(h.n:Int)
   .obtain⟨k,rfl⟩:∃k:Nat,p=(k:Int):=⟨p.toNat,by lia⟩;have hk:k<h.n:=by lia
    have i:¬(h.pl k).kd.txt=knT c:=λz=>r ⟨c,k,b,rfl,hk,g,rfl,u.symm,z⟩
    simp[d,a,e,l,Bp,Hs.Eh,hk,Hs.De hk,i,Dt]
   by_cases f:0<=p
   .have q:¬p<(h.n:Int):=λz=>hp ⟨f,z⟩
    simp[d,a,e,Bp,Hs.Eh,f,q,Dt]
   simp[d,a,e,Bp,Hs.Eh,f,Dt]
  generalize snT b=o at*;generalize knd=M at*;simp[d,a,hw,Dt]
 have a:Gm (.str sn) (.tup [.str "least",.str "most"]) G=.ok (.bl u9) G:=by
  have e:inD (.str sn) (.tup [.str "least",.str "most"]) G=u7 uA:=by simp[inD,Bd,O2,K5,inV,eqV,Ne.symm t,Ne.symm j]
  unfold Gm;rw[e]
  rfl
 generalize knd=M at*;simp[d,a,Dt]
theorem Wq(j:GdA h w p sn)(G:DH):Mq [h.enc,Bf w p sn m] G=.ok .non G:=by
 obtain⟨c,k,b,rfl,hk,d,rfl,rfl,a⟩:=j;have g:Bf (wt c) k (snT b) m=.tup [.str (wt c),.int k,.str (snT b),.int m]:=rfl;have l:Z5=(Ae (sNr (sAs (dV 1) (Aj 4 (Ab (gV 2) (Ab (gV 3) (Ab (gV 4) (Ab (gV 5) Al))))))) (Ae (sIf (dOr (Ak (dOp Gm (dV 4) (dC (.tup [.str "least",.str "most"])))) (Ak (dUn (Lj knd) (dV 2)))) (Dt "NoAsk" (Ac (dC (.str "an ask is of another word than these")) Az)) sNx) (Ae (sIf (Gp (Ak (Jz Ii Jr (dC (.int 0)) (dV 3) (dFn Ba (Ac (dOp Bj (dV 0) (dC (.int 1))) Az))))) (Dt "NoAsk" (Ac (dC (.str "an ask is of a place that is not there")) Az)) sNx) (sIf (Ak (dOp Eg (dOp Bj (dOp Bj (dOp Bj (dV 0) (dC (.int 1))) (dV 3)) (dC (.int 0))) (dUn (Jh knd) (dV 2)))) (Dt "NoAsk" (Ac (dC (.str "an ask is of a place of another kind")) Az)) sNx)))):=rfl
 have i:=ZBm (b:=b) G;have e:=ZFz d.1 d.2;have f:∀G,Jh knd (.str (wt c)) G=.ok (.str (knT c)) G:=λG=>ZDn e
 unfold Mq;rw[Ag,l];generalize snT b=n at*;generalize knd=M at*;simp[g,i,e,f,Bp,Hs.Eh,hk,Hs.De hk,a,Ar]
theorem ZFa:∀l:List Str,K5 (l.map D.str)=u7 (l.map V.str)
 |[]=>rfl
 |a::l=>by
  rw[zk,K5,ZFa l]
  rfl
theorem ZE4(x:Str):∀l:List Str,inV (.str x) (l.map V.str)=decide (x∈l)
 |[]=>by simp[inV]
 |a::l=>by
  show(eqV (.str a) (.str x)||inV (.str x) (l.map V.str))=_;rw[ZE4 x l];show((a==x)||decide (x∈l))=_;by_cases e:a=x
  .subst e;simp
  have b:¬x=a:=λz=>e z.symm
  simp[e,b]
theorem ZED{x:Str}{l:List Str}:Jv (.str x) (.tup (l.map D.str)) G=.ok (.bl (decide (x∈l))) G:=by
 unfold Jv inD;dsimp only
 rw[show Bd (.tup (l.map D.str)) G=u7 (l.map D.str)from rfl,show O2 (.str x)=u7 (V.str x)from rfl]
 dsimp only;rw[ZFa,jN,ZE4]
open Classical in
theorem ZLT(G:DH):O7 [h.enc,Bf w p sn m] G=.ok (.bl (decide (GdA h w p sn))) G:=by
 have y:∀G,Bj (Bf w p sn m) (.int 0) G=.ok (.str w) G:=λG=>rfl
 have q:∀G,Bj (Bf w p sn m) (.int 1) G=.ok (.int p) G:=λG=>rfl
 have C:∀G,Bj (Bf w p sn m) (.int 2) G=.ok (.str sn) G:=λG=>rfl
 have x:Jv (.str sn) (.tup [.str "least",.str "most"]) G=.ok (.bl (decide (sn∈(["least","most"]:List Str)))) G:=ZED (l:=["least","most"]);have f:Gm (.str sn) (.tup [.str "least",.str "most"]) G=.ok (.bl (!decide (sn∈(["least","most"]:List Str)))) G:=by
  unfold Jv at x;unfold Gm;cases e:inD (.str sn) (.tup [.str "least",.str "most"]) G with
  |none=>rw[e]at x;cases x
  |some b=>rw[e]at x;cases x;rfl
 have H:Jv (.str w) (.tup [.str "lies",.str "spilled",.str "let",.str "pumped"]) G=.ok (.bl (decide (w∈(["lies","spilled","let","pumped"]:List Str)))) G:=ZED (l:=["lies","spilled","let","pumped"]);generalize Bf w p sn m=A at*;by_cases hp:0<=p/\p<(h.n:Int)
 .obtain⟨k,rfl⟩:∃k:Nat,p=(k:Int):=⟨p.toNat,by lia⟩;have hk:k<h.n:=by lia
  by_cases s:sn∈(["least","most"]:List Str)
  .obtain⟨b,t⟩:∃b,sn=snT b:=by
    simp at s;rcases s with rfl|rfl
    .exact⟨u9,rfl⟩
    .exact⟨uA,rfl⟩
   rw[decide_eq_true s]at f;unfold O7 U7;rw[Ag];by_cases g:(h.pl k).kd.txt="basin"
   .have a:decide (w∈(["lies","spilled","let","pumped"]:List Str))=decide (GdA h w k sn):=decide_eq_decide.mpr ⟨λz=>by
     simp at z;rcases z with rfl|rfl|rfl|rfl
     .exact⟨5,k,b,rfl,hk,by lia,rfl,t,g⟩
     .exact⟨2,k,b,rfl,hk,by lia,rfl,t,g⟩
     .exact⟨3,k,b,rfl,hk,by lia,rfl,t,g⟩
     .exact⟨4,k,b,rfl,hk,by lia,rfl,t,g⟩,λ⟨c,i,v,B,o,F,r,_,d⟩=>by
     obtain rfl:k=i:=by lia
     rw[g]at d;rw[r];have j:¬(("basin":Str)="town"):=by decide
     rcases(by lia:c=1\/c=2\/c=3\/c=4\/c=5)with rfl|rfl|rfl|rfl|rfl
     .exact absurd d j
     .decide
     .decide
     .decide
     .decide⟩
    rw[<-a];simp[y,q,C,Bp,Hs.Eh,hk,Ah,f,Hs.De hk,g,H,Ar]
   .by_cases u:(h.pl k).kd.txt="town"
    .have j:¬(("town":Str)="basin"):=by decide
     have a:decide (w="took")=decide (GdA h w k sn):=decide_eq_decide.mpr ⟨λz=>⟨1,k,b,rfl,hk,by lia,z,t,u⟩,λ⟨c,i,v,B,o,F,r,_,d⟩=>by
      obtain rfl:k=i:=by lia
      rw[u]at d;rcases(by lia:c=1\/c=2\/c=3\/c=4\/c=5)with rfl|rfl|rfl|rfl|rfl
      .exact r
      .exact absurd d j
      .exact absurd d j
      .exact absurd d j
      .exact absurd d j⟩
     rw[<-a];simp[y,q,C,Bp,Hs.Eh,hk,Ah,f,Hs.De hk,u,j,Ar]
    .have a:¬GdA h w k sn:=λ⟨c,i,v,B,o,F,r,_,d⟩=>by
      obtain rfl:k=i:=by lia
      unfold knT at d;split at d
      .exact u d
      .exact g d
     simp[y,q,C,Bp,Hs.Eh,hk,Ah,f,Hs.De hk,u,g,a,Ar]
  .have a:¬GdA h w k sn:=λ⟨c,i,v,B,o,F,r,I,d⟩=>s (by rw[I];cases v<;>simp[snT])
   rw[decide_eq_false s]at f;unfold O7 U7;rw[Ag];simp[y,q,C,Bp,Hs.Eh,hk,Ah,f,a,Ar]
 .have a:¬GdA h w p sn:=λ⟨c,i,v,B,o,_⟩=>hp (by lia)
  unfold O7 U7;rw[Ag];by_cases E:0<=p
  .have o:¬p<(h.n:Int):=λz=>hp ⟨E,z⟩
   simp[q,Bp,Hs.Eh,E,o,a,Ar]
  .simp[q,Bp,Hs.Eh,E,a,Ar]
end
noncomputable def BdB(n:Nat)(lv lv':Nat->Int)(co co':Nat->Nat->Int)(l l':List (Nat->Int)):Bool:=(leN n lv lv'&&leR 5 n co co')&&(decide (l.length=l'.length)&&leR n l.length (λi=>l.getD i λ_=>0) λi=>l'.getD i λ_=>0)
section
theorem Vl{n:Nat}(a:n<=1000)(f:l.length<=1000)(G:DH):Q6 [stD n lv co,stD n lv' co',.fl (Ad n l),.fl (Ad n l')] G=if BdB n lv lv' co co' l l'=u9 then .ok .non G else .err ⟨"NoBounds",[]⟩ G:=by
 have c:=ZN5 a (lv:=lv) (lv':=lv') (co:=co) (co':=co') G;have d:=ZP6 a (fls':=l') f G;unfold BdB;generalize(leN n lv lv'&&leR 5 n co co')=b at*;generalize(decide (l.length=l'.length)&&leR n l.length (λi=>l.getD i λ_=>0) λi=>l'.getD i λ_=>0)=e at*;unfold Q6 ZCe;rw[Ag]
 cases b<;>cases e<;>simp[nerr,c,d,Ar,Dt]
end
theorem ZDS{n:Nat}{co co':Nat->Nat->Int}:∀(m k:Nat)(x:Option D),k+m=n->∃y,Aw (gV 4) Ru (Bh k m) [u7 (stD n lv co),u7 (stD n lv' co'),s2,s3,x] G=if((j6 k m).all λi=>leN 5 (co i) (co' i))=u9 then .nx [u7 (stD n lv co),u7 (stD n lv' co'),s2,s3,y] G else .rt (.bl uA) G
 |0,k,x,_=>⟨x,by rw[Ib,Cr];rfl⟩
 | m+1,k,x,e=>by
  obtain⟨y,g⟩:=ZDS (n:=n) (co':=co') m (k+1) (zI k) (by lia);refine⟨y,?_⟩;have hk:k<n:=by lia
  have j:=Zr (n:=5) (by lia) (a:=co k) (b:=co' k) G;have c:∀(lv:Nat->Int)(co:Nat->Nat->Int)G,Bj (stD n lv co) (.int 1) G=.ok (.tup (An n co)) G:=λlv co G=>rfl
  have h:Ru [u7 (stD n lv co),u7 (stD n lv' co'),s2,s3,zI k] G=if leN 5 (co k) (co' k)=u9 then .nx [u7 (stD n lv co),u7 (stD n lv' co'),s2,s3,zI k] G else .rt (.bl uA) G:=by
   generalize leN 5 (co k) (co' k)=b at*;have f:=c lv co;have l:=c lv' co';generalize stD n lv co=p at*;generalize stD n lv' co'=o at*;unfold Ru
   cases b<;>simp[f,l,Zx (co:=co) hk,Zx (co:=co') hk,j]
  have d:((k:Int)+1)=((k+1:Nat):Int):=by lia
  rw[Hk,Bv,xW,qE];simp[Ce,R.Bq,qY,h];cases z:leN 5 (co k) (co' k)with
  |true=>simp[if_true,Bool.true_and,Cd];rw[d];exact g
  |false=>simp
theorem ZIa{n:Nat}(s:n<=1000)(U:l.length<=1000)(G:DH):Ob [stD n lv co,stD n lv' co',.fl (Ad n l),.fl (Ad n l')] G=.ok (.bl (BdB n lv lv' co co' l l')) G:=by
 have H:=Zr s (a:=lv) (b:=lv') G;obtain⟨y,C⟩:=ZDS (n:=n) n 0 u8 (by lia);have h:Aw (gV 4) Ru (Bh 0 n) [u7 (stD n lv co),u7 (stD n lv' co'),zF (Ad n l),zF (Ad n l'),u8] G=_:=C;have M:((j6 0 n).all λi=>leN 5 (co i) (co' i))=leR 5 n co co':=by rw[<-jG];rfl
 rw[M]at h;have t:∀(lv:Nat->Int)(co:Nat->Nat->Int)G,Bj (stD n lv co) (.int 0) G=.ok (.tup (tab n lv)) G:=λlv co G=>rfl
 have x:∀(lv:Nat->Int)(co:Nat->Nat->Int)G,Bj (stD n lv co) (.int 1) G=.ok (.tup (An n co)) G:=λlv co G=>rfl
 have K:(((An n co).length:Nat):Int)=(n:Int):=by simp[An]
 have J:inR (n:Int):=Ek (by lia) (by lia);have p:(((Ad n l).length:Nat):Int)=(l.length:Int):=by rw[Ko]
 have f:(((Ad n l').length:Nat):Int)=(l'.length:Int):=by rw[Ko]
 have q:(Ad n l).length<=1000000:=by rw[Ko];lia
 unfold BdB;by_cases e:l.length=l'.length
 .have g:(Ad n l').length<=1000000:=by rw[Ko];lia
  have o:inR (l.length:Int):=Ek (by lia) (by lia);have u:Cg (gV 0) Bc ZAi [u8,zF (Ad n l),zF (Ad n l')] (Bh 0 l.length) G=.ok ((zZ l.length).map λi=>.bl (leN n (l.getD i λ_=>0) (l'.getD i λ_=>0))) G:=M3 λk hk=>by
   have L:atI (Ad n l) (k:Int)=zT (tab n (l.getD k λ_=>0)):=Vx▸ZEI hk;have B:atI (Ad n l') (k:Int)=zT (tab n (l'.getD k λ_=>0)):=by rw[Vx];exact ZEI (by lia)
   have I:=Zr s (a:=l.getD k λ_=>0) (b:=l'.getD k λ_=>0) G;generalize(l.getD k λ_=>0)=Z at*;generalize(l'.getD k λ_=>0)=W at*;unfold ZAi;simp[L,B,I]
  rw[Yu]at u;have z:freeze G (.ok (.ref G.length) (G++[.lst (((zZ l.length).map λi=>leN n (l.getD i λ_=>0) (l'.getD i λ_=>0)).map D.bl)]))=.ok (.fl (((zZ l.length).map λi=>leN n (l.getD i λ_=>0) (l'.getD i λ_=>0)).map D.bl)) G:=Cz Za;have v:= @ZLM G ((zZ l.length).map λi=>leN n (l.getD i λ_=>0) (l'.getD i λ_=>0));have w:((zZ l.length).map λi=>leN n (l.getD i λ_=>0) (l'.getD i λ_=>0)).all id=leR n l.length (λi=>l.getD i λ_=>0) λi=>l'.getD i λ_=>0:=by rw[List.all_map];rfl
  have O:(((zZ l.length).map λi=>leN n (l.getD i λ_=>0) (l'.getD i λ_=>0)).map D.bl).length<=1000000:=by simp;lia
  have j:∀a b c d e:Option D,Ax 1 [2,3] [a,b,c,d,e]=[u8,c,d]:=λ_ _ _ _ _=>rfl
  rw[w]at v;generalize(leR n l.length (λi=>l.getD i λ_=>0) λi=>l'.getD i λ_=>0)=Q at*;generalize((zZ l.length).map λi=>leN n (l.getD i λ_=>0) (l'.getD i λ_=>0)).map D.bl=S at*;generalize leR 5 n co co'=N at*;generalize leN n lv lv'=F at*;have E:=t lv co;have m:=t lv' co';have A:=x lv co;generalize stD n lv co=S1 at*;generalize stD n lv' co'=P at*;generalize Ad n l=X at*;generalize Ad n l'=Y at*
  generalize An n co=T at*;unfold Ob Vw;rw[Ag];rw[<-e]at f;rw[decide_eq_true e]
  cases F<;>cases N<;>simp[p,f,q,g,E,m,A,H,K,J,h,o,j,u,O,z,v,Ar]
 have r:¬(l.length:Int)=(l'.length:Int):=by lia
 by_cases g:(Ad n l').length<=1000000
 .unfold Ob Vw;rw[Ag];simp[p,f,e,r,q,g,Ar]
 .unfold Ob Vw;rw[Ag];simp[p,f,e,r,q,g,Ar]
theorem ZNZ{a b:List D}(d:bels G.length a=u9)(c:bels G.length b=u9):freeze G (.ok (.tup [.ref G.length,.ref (G.length+1)]) (G++ .lst a:: .lst b::L))=.ok (.tup [.fl a,.fl b]) G:=by
 unfold freeze;have m:By (G++ .lst a:: .lst b::L) G.length 9 (.tup [.ref G.length,.ref (G.length+1)])=zT [.fl a,.fl b]:=by
  unfold By;have e:By (G++ .lst a:: .lst b::L) G.length 8 (.ref G.length)=zF a:=by unfold By;simp[Ni d]
  have f:By (G++ .lst a:: .lst b::L) G.length 8 (.ref (G.length+1))=zF b:=by unfold By;simp[Ni c]
  simp[Hi,e,f]
 simp[m]
theorem ZB4{SW:Nat->D}:∀M:Nat,(∀v,v<=M->SW v∉sts SW v)\/∃Y,1<=Y/\Y<=M/\SW Y∈sts SW Y/\∀v,v<Y->SW v∉sts SW v
 |0=>.inl λv f=>by
  have:v=0:=by lia
  subst this;simp[sts]
 | M+1=>by
  rcases ZB4 M with a|⟨Y,a,b,c,d⟩
  .by_cases e:SW (M+1)∈sts SW (M+1)
   .exact .inr ⟨M+1,by lia,by lia,e,λv f=>a v (by lia)⟩
   refine .inl λv f=>?_
   by_cases z:v=M+1
   .subst z;exact e
   exact a v (by lia)
  exact .inr ⟨Y,a,by lia,c,d⟩
section
theorem ZOu(g:GoodH h)(M:l.length<=24)(E:l'.length<=24)(s1:∀k j,k<h.n->j<5->0<=co k j)(s2:∀k j,k<h.n->j<5->0<=co' k j)(K:∀fl∈l,∀k,k<h.n->0<=fl k)(O:∀fl∈l',∀k,k<h.n->0<=fl k){w:Str}{p m:Int}(r:GdA h w p sn)(I:BdB h.n lv lv' co co' l l'=u9)(G:DH):∃d,Fv [h.enc,stD h.n lv co,stD h.n lv' co',.int 0,.fl (Ad h.n l),.fl (Ad h.n l'),Bf w p sn m] G=.ok d G:=by
 have N:=g.len;have H:=Wq (m:=m) r G;obtain⟨c,k,b,rfl,hk,o,rfl,rfl,J⟩:=r;have u:=Vl (n:=h.n) (by lia) (lv:=lv) (lv':=lv') (co:=co) (co':=co') (l:=l) (l':=l') (by lia) G;rw[I,if_pos rfl]at u
 have y:∀k j,k<h.n->j<5->0<=(if b=u9 then co else co') k j:=by cases b<;>assumption
 have t:∀fl∈(if b=u9 then l else l'),∀k,k<h.n->0<=fl k:=by cases b<;>assumption
 have v:(if b=u9 then l else l').length<=1000:=by cases b<;>simp <;> lia
 have f:=ZCM (n:=h.n) (c:=c) (p:=k) (b:=b) (m:=m) (lv:=lv) (lv':=lv') (co:=co) (co':=co') (fls:=l) (fls':=l') G;generalize(if b=u9 then lv else lv')=L at f⊢;generalize(if b=u9 then co else co')=C at y f⊢;generalize(if b=u9 then l else l')=F at t v f⊢;have x:=ZDP g (s:=(L,C)) (a:=0) v y t G;have i:=ZFK (by rw[ZAu];lia) (run6 g F (L,C) 0) hk o.1 o.2 (b:=b) (m:=m) G;have fr:=ZP4 (G:=G) (ds:=(h.Dl F (L,C) 0).map (pgD h.n)) (e:=stD h.n (h.Gd F (L,C) 0).1 (h.Gd F (L,C) 0).2) ZEv Zb
 have z:∀q,bel q (H9 b m (Gn (h.Dl F (L,C) 0) k c))=u9:=λq=>X3
 have B:Eo c k b m=Bf (wt c) (k:Int) (snT b) m:=rfl;rw[B]at f i;refine⟨H9 b m (Gn (h.Dl F (L,C) 0) k c),?_⟩;generalize Bf (wt c) (k:Int) (snT b) m=A at*;generalize H9 b m (Gn (h.Dl F (L,C) 0) k c)=P at i z⊢;generalize(h.Dl F (L,C) 0).map (pgD h.n)=PG at x i fr;unfold Fv Wi;rw[Ag];simp[H,u,f,x,fr,i,Ar,z]
theorem ZP7(g:GoodH h)(hl:l.length<=24)(X:l'.length<=24)(s1:∀k j,k<h.n->j<5->0<=co k j)(s2:∀k j,k<h.n->j<5->0<=co' k j)(f1:∀fl∈l,∀k,k<h.n->0<=fl k)(f2:∀fl∈l',∀k,k<h.n->0<=fl k){w:Str}{p m:Int}(U:((l.length:Nat):Int)=h.yr)(M:GdA h w p sn)(hB:BdB h.n lv lv' co co' l l'=u9)(G:DH):(∃d,Eu [h.enc,stD h.n lv co,stD h.n lv' co',.fl (Ad h.n l),.fl (Ad h.n l'),Bf w p sn m,.int 3] G=.ok d G)\/∃L,Eu [h.enc,stD h.n lv co,stD h.n lv' co',.fl (Ad h.n l),.fl (Ad h.n l'),Bf w p sn m,.int 3] G=.err ⟨"TooLong",[("most",.int 3)]⟩ (G++L):=by
 have hn:=g.len;have J:=Wq (m:=m) M G;obtain⟨c,k,b,rfl,hk,K,rfl,rfl,hkd⟩:=M;have x:=Vl (n:=h.n) (by lia) (lv:=lv) (lv':=lv') (co:=co) (co':=co') (l:=l) (l':=l') (by lia) G;rw[hB,if_pos rfl]at x;have H:=ZDq (FL:=.fl (Ad h.n l)) (yr:=h.yr) (λG=>Mz) (λG=>by simp[Ko,U]) G
 have Q:∀k j,k<h.n->j<5->0<=(if b=u9 then co else co') k j:=by cases b<;>assumption
 have N:∀fl∈(if b=u9 then l else l'),∀k,k<h.n->0<=fl k:=by cases b<;>assumption
 have O:(if b=u9 then l else l').length<=24:=by cases b<;>simp <;> lia
 have f:=ZCM (n:=h.n) (c:=c) (p:=k) (b:=b) (m:=m) (lv:=lv) (lv':=lv') (co:=co) (co':=co') (fls:=l) (fls':=l') G;generalize(if b=u9 then lv else lv')=L at f⊢;generalize(if b=u9 then co else co')=C at Q f⊢;generalize(if b=u9 then l else l')=F at N O f⊢;have Y:=yr55 g (s:=(L,C)) O Q N;have E:Eo c k b m=Bf (wt c) (k:Int) (snT b) m:=rfl;have S:stD h.n L C=SW55 h F (L,C) 0:=rfl;rw[S,E]at f
 rcases ZB4 3 with e|⟨y,y1,y2,u,e⟩
 .obtain⟨i,z⟩:=ZQh Y (by lia) e G;have o:Mt [h.enc,SW55 h F (L,C) 0,.fl (Ad h.n F),.int 3] G=.err ⟨"TooLong",[("most",.int 3)]⟩ (G++i):=z;refine .inr ⟨i,?_⟩;generalize Bf (wt c) (k:Int) (snT b) m=A at*;generalize SW55 h F (L,C) 0=S0 at*;unfold Eu O9;rw[Ag];simp[J,H,x,f,o,freeze]
 obtain⟨i,z⟩:=ZIj Y (by lia) e u (most:=3) (by lia) G;have I:pgs (λw=>(h.Dl F (it55 h F (L,C) w) 0).map (pgD h.n)) y=((zZ y).flatMap λw=>h.Dl F (it55 h F (L,C) w) 0).map (pgD h.n):=by rw[List.map_flatMap];rfl
 have T:=Xa Y.pl y;rw[I,zM]at T;have Z:∀t∈(zZ y).flatMap λw=>h.Dl F (it55 h F (L,C) w) 0,Row6 h t:=λt B=>by obtain⟨v,_,W⟩:=List.mem_flatMap.mp B;exact run6 g F _ 0 t W
 have r:=ZFK (by lia) Z hk K.1 K.2 (b:=b) (m:=m) G;have fr:=ZNZ (G:=G) (L:=i) (a:=sts (SW55 h F (L,C)) (y+1)) (ZCu Y.bel) (ZGW Y.pb y);rw[<-I,E]at r;have P:∀q,bel q (H9 b m (Gn ((zZ y).flatMap λw=>h.Dl F (it55 h F (L,C) w) 0) k c))=u9:=λq=>X3
 refine .inl ⟨H9 b m (Gn ((zZ y).flatMap λw=>h.Dl F (it55 h F (L,C) w) 0) k c),?_⟩
 .generalize H9 b m (Gn ((zZ y).flatMap λw=>h.Dl F (it55 h F (L,C) w) 0) k c)=R' at r P⊢;generalize pgs (λw=>(h.Dl F (it55 h F (L,C) w) 0).map (pgD h.n)) y=PG at*;generalize sts (SW55 h F (L,C)) (y+1)=ST at*;generalize Bf (wt c) (k:Int) (snT b) m=A at*;generalize SW55 h F (L,C) 0=S0 at*;unfold Eu O9;rw[Ag];simp[J,H,x,f,z,fr,r,Ar,P]
end
section
variable{h:Hs}{lv lv':Nat->Int}{co co':Nat->Nat->Int}{l l':List (Nat->Int)}{w sn:Str}{p m:Int}
theorem ZLK(b:¬GdA h w p sn)(G:DH):Fv [h.enc,stD h.n lv co,stD h.n lv' co',.int 0,.fl (Ad h.n l),.fl (Ad h.n l'),Bf w p sn m] G=.err ⟨"NoAsk",[]⟩ G:=by have a:=ZGN (m:=m) b G;generalize Bf w p sn m=A at*;unfold Fv Wi;rw[Ag];simp[a]
theorem ZJ4(b:¬GdA h w p sn)(G:DH):Eu [h.enc,stD h.n lv co,stD h.n lv' co',.fl (Ad h.n l),.fl (Ad h.n l'),Bf w p sn m,.int 3] G=.err ⟨"NoAsk",[]⟩ G:=by have a:=ZGN (m:=m) b G;generalize Bf w p sn m=A at*;unfold Eu O9;rw[Ag];simp[a]
theorem ZRZ(b:h.n<=1000)(f:l.length<=24)(c:GdA h w p sn)(e:BdB h.n lv lv' co co' l l'=uA)(G:DH):Fv [h.enc,stD h.n lv co,stD h.n lv' co',.int 0,.fl (Ad h.n l),.fl (Ad h.n l'),Bf w p sn m] G=.err ⟨"NoBounds",[]⟩ G:=by have d:=Wq (m:=m) c G;have a:=Vl b (lv:=lv) (lv':=lv') (co:=co) (co':=co') (l:=l) (l':=l') (by lia) G;rw[e,if_neg (by simp)]at a;generalize Bf w p sn m=A at*;unfold Fv Wi;rw[Ag];simp[d,a]
theorem ZEO(f:h.n<=1000)(q:l.length<=24)(j:GdA h w p sn)(o:((l.length:Nat):Int)≠h.yr\/BdB h.n lv lv' co co' l l'=uA)(G:DH):Eu [h.enc,stD h.n lv co,stD h.n lv' co',.fl (Ad h.n l),.fl (Ad h.n l'),Bf w p sn m,.int 3] G=.err ⟨"NoBounds",[]⟩ G:=by
 have d:=Wq (m:=m) j G;by_cases b:((l.length:Nat):Int)=h.yr
 .have c:=o.resolve_left (λz=>z b);have e:=Vl f (lv:=lv) (lv':=lv') (co:=co) (co':=co') (l:=l) (l':=l') (by lia) G;rw[c,if_neg (by simp)]at e;have a:=ZDq (FL:=.fl (Ad h.n l)) (yr:=h.yr) (λG=>Mz) (λG=>by simp[Ko,b]) G;generalize Bf w p sn m=A at*;unfold Eu O9;rw[Ag];simp[d,a,e]
 have g:∀G,Bj h.enc (.int 0) G=.ok (.int h.yr) G:=λG=>Mz
 have i:∀G,Ba [.fl (Ad h.n l)] G=.ok (.int (l.length:Nat)) G:=λG=>by simp[Ko]
 have a:O1 [h.enc,.fl (Ad h.n l)] G=.err ⟨"NoBounds",[]⟩ G:=by generalize h.enc=H at*;generalize Ad h.n l=k at*;unfold O1 Z6;rw[Ag];simp[g,i,b,Dt]
 generalize Bf w p sn m=A at*;unfold Eu O9;rw[Ag];simp[d,a]
end
def cl53(y:Bool)(H S1 S2 F1 F2 A:D)(G:DH):R D:=if y=u9 then Eu [H,S1,S2,F1,F2,A,.int 3] G else Fv [H,S1,S2,.int 0,F1,F2,A] G
theorem Jx{tb:List (Str×Bool)}{c:Str}{fs:List (Str×D)}(h:G[i]?=u7 (.exc c fs))(a:tb.lookup c=u7 b):isx tb (.ref i) G=.ok (.bl b) G:=by unfold isx;simp[h,a]
theorem ZGf{c:Str}{fs:List (Str×D)}(h:G[i]?=u7 (.exc c fs))(a:c="NoAsk"\/c="NoBounds"\/c="TooLong"):Ra [.ref i] G=.ok (.bl uA) G:=by
 have b:isx [("NoAsk",uA),("NoBounds",uA),("TooLong",uA)] (.ref i) G=.ok (.bl uA) G:=Jx h (by rcases a with rfl|rfl|rfl<;>rfl)
 unfold Ra ZBk;rw[Ag];simp[b,Ar]
section
variable{y:Bool}{H S1 S2 F1 F2 A:D}{G:DH}
theorem K1{r:R D}(h:cl53 u9 H S1 S2 F1 F2 A G=r):Eu [H,S1,S2,F1,F2,A,.int 3] G=r:=h
theorem J9{r:R D}(h:cl53 uA H S1 S2 F1 F2 A G=r):Fv [H,S1,S2,.int 0,F1,F2,A] G=r:=h
theorem ZMX(a:∀G,∃d,cl53 y H S1 S2 F1 F2 A G=.ok d G):Gs [H,S1,S2,F1,F2,A,.bl y] G=.ok (.str "none") G:=by
 obtain⟨d,e⟩:=a G;unfold Gs Oc;rw[Ag];cases y with
 |true=>simp[Dm,sTi,dTc,K1 e,Ar]
 |false=>simp[Dm,sTi,dTc,J9 e,Ar]
theorem ZGV(i:∀G,cl53 y H S1 S2 F1 F2 A G=.err ⟨"NoAsk",[]⟩ G):Gs [H,S1,S2,F1,F2,A,.bl y] G=.ok (.str "ask") G:=by
 have h:(G++[DO.exc "NoAsk" []])[G.length]?=u7 (.exc "NoAsk" []):=by simp
 have g:(G++[DO.exc "NoAsk" []]++[DO.exc "NoAsk" []])[(G++[DO.exc "NoAsk" []]).length]?=u7 (.exc "NoAsk" []):=by simp
 have o:=Jx (tb:=[("NoAsk",uA),("NoBounds",u9),("TooLong",uA)]) h rfl;have m:=ZGf h (.inl rfl);have q:=Jx (tb:=[("NoAsk",u9),("NoBounds",u9),("TooLong",u9)]) g rfl;have p:=Jx (tb:=[("NoAsk",uA),("NoBounds",uA),("TooLong",u9)]) g rfl;have j:∀(G:DH)(a b:Str),freeze G (.ok (.ref G.length) (G++[.lst [.str a,.str b]]))=.ok (.fl [.str a,.str b]) G:=λG a b=>Cz rfl
 have l:tidy G (.ok (.str "ask") (G++[DO.exc "NoAsk" []]++[DO.exc "NoAsk" []]))=.ok (.str "ask") G:=by rw[qH];exact Je rfl
 have f:=i G;have e:=i (G++[DO.exc "NoAsk" []]);generalize c:G++[DO.exc "NoAsk" []]=s at*;generalize d:s++[DO.exc "NoAsk" []]=t at*;have r:("refused":Str)≠"none":=by decide
 have k:("ask":Str)≠"none":=by decide
 have n:("NoAsk":Str)≠"TooLong":=by decide
 unfold Gs Oc T9 ZAy ZAg Mg;rw[Ag];cases y with
 |true=>simp[Dm,sTi,dTc,K1 f,Hw,n,Ff,c,o,m,unnm,K1 e,d,Af,j,q,p,l,r,k]
 |false=>simp[Dm,sTi,dTc,J9 f,Hw,n,Ff,c,o,m,unnm,J9 e,d,Af,j,q,p,l,r,k]
theorem Xq(h:∀G,cl53 y H S1 S2 F1 F2 A G=.err ⟨"NoBounds",[]⟩ G):Gs [H,S1,S2,F1,F2,A,.bl y] G=.ok (.str "bounds") G:=by
 have r:(G++[DO.exc "NoBounds" []])[G.length]?=u7 (.exc "NoBounds" []):=by simp
 have g:(G++[DO.exc "NoBounds" []]++[DO.exc "NoBounds" []])[(G++[DO.exc "NoBounds" []]).length]?=u7 (.exc "NoBounds" []):=by simp
 have m:=ZGf r (.inr (.inl rfl));have p:=Jx (tb:=[("NoAsk",u9),("NoBounds",u9),("TooLong",u9)]) g rfl;have o:=Jx (tb:=[("NoAsk",uA),("NoBounds",uA),("TooLong",u9)]) g rfl;have i:∀(G:DH)(a b:Str),freeze G (.ok (.ref G.length) (G++[.lst [.str a,.str b]]))=.ok (.fl [.str a,.str b]) G:=λG a b=>Cz rfl
 have k:tidy G (.ok (.str "bounds") (G++[DO.exc "NoBounds" []]++[DO.exc "NoBounds" []]))=.ok (.str "bounds") G:=by rw[qH];exact Je rfl
 have f:=h G;have e:=h (G++[DO.exc "NoBounds" []]);generalize c:G++[DO.exc "NoBounds" []]=s at*;generalize d:s++[DO.exc "NoBounds" []]=t at*;have q:("refused":Str)≠"none":=by decide
 have j:("bounds":Str)≠"none":=by decide
 have n:("NoBounds":Str)≠"TooLong":=by decide
 have l:("NoBounds":Str)≠"NoAsk":=by decide
 unfold Gs Oc T9 ZAy ZAg Mg;rw[Ag];cases y with
 |true=>simp[Dm,sTi,dTc,K1 f,Hw,n,l,Ff,c,m,unnm,K1 e,d,Af,i,p,o,k,q,j]
 |false=>simp[Dm,sTi,dTc,J9 f,Hw,n,l,Ff,c,m,unnm,J9 e,d,Af,i,p,o,k,q,j]
theorem ZRN(m:∀G,(∃d,cl53 y H S1 S2 F1 F2 A G=.ok d G)\/∃L,cl53 y H S1 S2 F1 F2 A G=.err ⟨"TooLong",[("most",.int 3)]⟩ (G++L)):Gs [H,S1,S2,F1,F2,A,.bl y] G=.ok (.str "none") G:=by
 have n:∀(G:DH)(a b:Str),freeze G (.ok (.ref G.length) (G++[.lst [.str a,.str b]]))=.ok (.fl [.str a,.str b]) G:=λG a b=>Cz rfl
 have j:∀f:DH,(∃M,f=G++M)->∃M,∀T:DS,Ae (Dm (sTi (Ak (dV 6)) (sEx (dTc Eu (Ac (dV 0) (Ac (dV 1) (Ac (dV 2) (Ac (dV 3) (Ac (dV 4) (Ac (dV 5) (Ac (dC (.int 3)) Az))))))))) (sEx (dTc Fv (Ac (dV 0) (Ac (dV 1) (Ac (dV 2) (Ac (dC (.int 0)) (Ac (dV 3) (Ac (dV 4) (Ac (dV 5) Az)))))))))) (Ff ["NoAsk","NoBounds","TooLong"] [] 8 Mg Om)) T [u7 H,u7 S1,u7 S2,u7 F1,u7 F2,u7 A,zB y,zS "none",u8,zS "none"] f=T [u7 H,u7 S1,u7 S2,u7 F1,u7 F2,u7 A,zB y,zS "none",u8,zS "none"] (G++M):=λf ⟨l,i⟩=>by
  rcases m f with⟨d,e⟩|⟨L,e⟩
  .refine⟨l,λT=>?_⟩;rw[<-i];cases y with
   |true=>simp[Dm,sTi,dTc,K1 e]
   |false=>simp[Dm,sTi,dTc,J9 e]
  refine⟨l++L++[.exc "TooLong" [("most",.int 3)]],λT=>?_⟩;have k:(f++L++[DO.exc "TooLong" [("most",.int 3)]])[(f++L).length]?=u7 (.exc "TooLong" [("most",.int 3)]):=by simp
  have q:=Jx (tb:=[("NoAsk",u9),("NoBounds",u9),("TooLong",u9)]) k rfl;have p:=Jx (tb:=[("NoAsk",uA),("NoBounds",uA),("TooLong",u9)]) k rfl;have o:=Jx (tb:=[("NoAsk",u9),("NoBounds",u9),("TooLong",uA)]) k rfl;have s:G++(l++L++[.exc "TooLong" [("most",.int 3)]])=f++L++[DO.exc "TooLong" [("most",.int 3)]]:=by rw[i];simp
  rw[s];generalize t:f++L=r at*;generalize h:r++[DO.exc "TooLong" [("most",.int 3)]]=v at*;unfold Mg;cases y with
  |true=>simp[Dm,sTi,dTc,K1 e,Ff,h,unnm,Af,n,q,p,o]
  |false=>simp[Dm,sTi,dTc,J9 e,Ff,h,unnm,Af,n,q,p,o]
 have c:∀M:DH,tidy G (.ok (.str "none") (G++M))=.ok (.str "none") G:=λM=>Je rfl
 rcases m G with⟨d,e⟩|⟨L,e⟩
 .obtain⟨M,g⟩:=j G ⟨[],by simp⟩;unfold Gs Oc;rw[Ag];generalize u:Dm (sTi (Ak (dV 6)) (sEx (dTc Eu (Ac (dV 0) (Ac (dV 1) (Ac (dV 2) (Ac (dV 3) (Ac (dV 4) (Ac (dV 5) (Ac (dC (.int 3)) Az))))))))) (sEx (dTc Fv (Ac (dV 0) (Ac (dV 1) (Ac (dV 2) (Ac (dC (.int 0)) (Ac (dV 3) (Ac (dV 4) (Ac (dV 5) Az)))))))))) (Ff ["NoAsk","NoBounds","TooLong"] [] 8 Mg Om)=TT at*;simp[Lx]at g;cases y with
  |true=>simp[Dm,sTi,dTc,K1 e,g,c]
  |false=>simp[Dm,sTi,dTc,J9 e,g,c]
 obtain⟨M,g⟩:=j (G++L) ⟨L,rfl⟩;unfold Gs Oc T9;rw[Ag];generalize u:Dm (sTi (Ak (dV 6)) (sEx (dTc Eu (Ac (dV 0) (Ac (dV 1) (Ac (dV 2) (Ac (dV 3) (Ac (dV 4) (Ac (dV 5) (Ac (dC (.int 3)) Az))))))))) (sEx (dTc Fv (Ac (dV 0) (Ac (dV 1) (Ac (dV 2) (Ac (dC (.int 0)) (Ac (dV 3) (Ac (dV 4) (Ac (dV 5) Az)))))))))) (Ff ["NoAsk","NoBounds","TooLong"] [] 8 Mg Om)=TT at*;simp[Lx]at g;cases y with
 |true=>simp[Dm,sTi,dTc,K1 e,Hw,SR.nr,g,c]
 |false=>simp[Dm,sTi,dTc,J9 e,Hw,SR.nr,g,c]
end
theorem ZJI(a:0<u){fl:Nat->Nat->Int}(i k:Nat):fl i k<=flM h f u fl i k:=by unfold flM;have b:=ZOf (x:=amt (f (6+24*h.n+h.n+i*h.n+k)/2) u) (c:=f (6+24*h.n+h.n+i*h.n+k)) (Px a);lia
theorem Tc{l:List Str}(h:0<l.length)(x:Int):∃s,atI (l.map D.str) (x%(l.length:Int))=zS s:=by
 obtain⟨k,hk,c⟩:∃k:Nat,k<l.length/\x%(l.length:Int)=(k:Int):=by have a:=jB x (show(l.length:Int)≠0 by lia);have b:=jw x (show(0:Int)<l.length by lia);exact⟨(x%(l.length:Int)).toNat,by lia,by lia⟩
 rw[c];exact⟨l[k],Dj rfl (by rw[zw,zJ hk];rfl)⟩
theorem ZJe(J:Cf ns f)(g:GoodH h)(W:1<=h.n):∃(w:Str)(p:Int)(sn:Str)(m:Int),∀G,Kp [.fl (ns.map D.int),h.enc] G=.ok (Bf w p sn m) G:=by
 have X:=g.len;have o:∀G,Bb [.fl (ns.map D.int),.int (6+20*(h.n:Int))] G=.ok (.int (f (6+20*h.n))) G:=λG=>by have:=J (6+20*h.n) (by lia) G;rwa[show((6+20*h.n:Nat):Int)=6+20*(h.n:Int) by lia]at this
 have v:∀G,Bb [.fl (ns.map D.int),.int (6+20*(h.n:Int)+1)] G=.ok (.int (f (6+20*h.n+1))) G:=λG=>by have:=J (6+20*h.n+1) (by lia) G;rwa[show((6+20*h.n+1:Nat):Int)=6+20*(h.n:Int)+1 by lia]at this
 have A:∀G,Bb [.fl (ns.map D.int),.int (6+20*(h.n:Int)+2)] G=.ok (.int (f (6+20*h.n+2))) G:=λG=>by have:=J (6+20*h.n+2) (by lia) G;rwa[show((6+20*h.n+2:Nat):Int)=6+20*(h.n:Int)+2 by lia]at this
 generalize f (6+20*h.n)=d at*;generalize f (6+20*h.n+1)=y at*;generalize f (6+20*h.n+2)=u at*;generalize ns.map D.int=N at*;obtain⟨t,S⟩:=Tc (l:=["lies","spilled","let","pumped","took"]) (by simp) y;obtain⟨q,P⟩:=Tc (l:=["least","most"]) (by simp) (y/60);obtain⟨M,U⟩:=Tc (l:=["came","","lie","Let","takes","pump","spilled ","mill"]) (by simp) (y/120);obtain⟨L,T⟩:=Tc (l:=["","less","more","Most","leas","mosts"]) (by simp) (y/120)
 have b:atI [.str "lies",.str "spilled",.str "let",.str "pumped",.str "took"] (y%5)=zS t:=S;have c:atI [.str "least",.str "most"] (y/60%2)=zS q:=P;have K:atI [.str "came",.str "",.str "lie",.str "Let",.str "takes",.str "pump",.str "spilled ",.str "mill"] (y/120%8)=zS M:=U;have I:atI [.str "",.str "less",.str "more",.str "Most",.str "leas",.str "mosts"] (y/120%6)=zS L:=T;have r:∀(G:DH)(F:List D),bels G.length F=u9->freeze G (.ok (.ref G.length) (G++[.lst F]))=.ok (.fl F) G:=λG F h=>Cz h
 have a:∀G,Br (.int 20) (.int (h.n:Int)) G=.ok (.int (20*(h.n:Int))) G:=λG=>Gh (by lia) (by lia)
 have E:(0:Int)<(h.n:Int):=by lia
 have B:¬(h.n:Int)=0:=by lia
 have z3:¬h.n=0:=by lia
 have s:0<h.n:=by lia
 have Q:¬(h.n:Int)+2=0:=by lia
 have O:(0:Int)<(h.n:Int)+2:=by lia
 have C:∀G,Bj h.enc (.int 1) G=.ok (.tup h.Bs) G:=λG=>Bp
 have j:h.Bs.length=h.n:=Hs.Eh;have e:∀(w:Str)(p:Int)(sn:Str)(m:Int),D.tup [.str w,.int p,.str sn,.int m]=Bf w p sn m:=λ_ _ _ _=>rfl
 have i:∀(w:Str)(p:Int)(sn:Str)(m:Int)(G:DH),tidy G (.ok (Bf w p sn m) G)=.ok (Bf w p sn m) G:=λ_ _ _ _ G=>Ar rfl
 generalize h.Bs=Y at*;generalize h.enc=H at*;rcases(by lia:d%12=0\/d%12=1\/d%12=2\/d%12=3\/(¬d%12=0/\¬d%12=1/\¬d%12=2/\¬d%12=3))with z|z|z|z|z
 .refine⟨M,y/5%(h.n:Int),q,u%10,λG=>?_⟩;unfold Kp Nz;rw[Ag];simp[C,j,a,o,v,A,Af,r,bels,b,c,K,z,E,B,z3,s,Ah,e,i]
 .refine⟨t,y/5%(h.n:Int),L,u%10,λG=>?_⟩;unfold Kp Nz;rw[Ag];simp[C,j,a,o,v,A,Af,r,bels,b,c,I,z,E,B,z3,s,Ah,e,i]
 .refine⟨t,0-1-y/120%((h.n:Int)+2),q,u%10,λG=>?_⟩;unfold Kp Nz;rw[Ag];simp[C,j,a,o,v,A,Af,r,bels,b,c,z,E,B,z3,s,Q,O,Ah,e,i]
 .refine⟨t,(h.n:Int)+y/120%1000,q,u%10,λG=>?_⟩;unfold Kp Nz;rw[Ag];simp[C,j,a,o,v,A,Af,r,bels,b,c,z,E,B,z3,s,Ah,e,i]
 refine⟨t,y/5%(h.n:Int),q,u%10,λG=>?_⟩;unfold Kp Nz;rw[Ag];simp[C,j,a,o,v,A,Af,r,bels,b,c,z,E,B,z3,s,Ah,e,i]
structure W53 (h:Hs) (co:Nat->Nat->Int) (l:List (Nat->Int)):Prop where
 c:∀k j,k<h.n->j<5->0<=co k j
 f:∀fl∈l,∀k,k<h.n->0<=fl k
 n:l.length<=24
section
variable{h:Hs}{s0:Option D}{w sn:Str}{p m x:Int}
open Classical in
theorem tail53(g:GoodH h)(a:W53 h co l)(b:W53 h co' l'):Oj [s0,u7 h.enc,zI x,u7 (stD h.n lv co),zF (Ad h.n l),u7 (stD h.n lv' co'),zF (Ad h.n l'),u7 (Bf w p sn m),u8] []=.rt (.bl u9) []:=by
 have J:=g.len;have E:=a.n;have j:=ZLT (h:=h) (w:=w) (p:=p) (sn:=sn) (m:=m) [];have o:=ZIa (n:=h.n) (by lia) (lv:=lv) (lv':=lv') (co:=co) (co':=co') (l:=l) (l':=l') (by lia) [];have B:∀G,Bj h.enc (.int 0) G=.ok (.int h.yr) G:=λG=>Mz
 have C:∀G,Ba [.fl (Ad h.n l)] G=.ok (.int (l.length:Nat)) G:=λG=>by simp[Ko]
 have r:∀s:Str,freeze ([]:DH) (.ok (.str s) [])=.ok (.str s) []:=λs=>J0 rfl
 have F:¬("ask":Str)="none":=by decide
 have I:¬("bounds":Str)="none":=by decide
 by_cases d:GdA h w p sn
 .rw[decide_eq_true d]at j;cases k:BdB h.n lv lv' co co' l l' with
  |false=>
   rw[k]at o;have i:=Xq (y:=uA) (H:=h.enc) (G:=[]) λG=>ZRZ (m:=m) (by lia) a.n d k G
   have e:=Xq (y:=u9) (H:=h.enc) (G:=[]) λG=>ZEO (m:=m) (by lia) a.n d (.inr k) G
   generalize Bf w p sn m=A at*;generalize stD h.n lv co=z at*;generalize stD h.n lv' co'=t at*;generalize Ad h.n l=v at*;generalize Ad h.n l'=u at*;generalize h.enc=H at*;unfold Oj Pu Pr Ph Qu;simp[j,o,i,e,r,I]
  | true=>
   rw[k]at o;have i:=ZMX (y:=uA) (H:=h.enc) (G:=[]) λG=>ZOu (m:=m) g a.n b.n a.c b.c a.f b.f d k G
   by_cases q:((l.length:Nat):Int)=h.yr
   .have e:=ZRN (y:=u9) (H:=h.enc) (G:=[]) λG=>ZP7 (m:=m) g a.n b.n a.c b.c a.f b.f q d k G
    generalize Bf w p sn m=A at*;generalize stD h.n lv co=z at*;generalize stD h.n lv' co'=t at*;generalize Ad h.n l=v at*;generalize Ad h.n l'=u at*;generalize h.enc=H at*;unfold Oj Pu Pr Ph Qu;simp[j,o,i,e,r,C,B,q]
   .have e:=Xq (y:=u9) (H:=h.enc) (G:=[]) λG=>ZEO (m:=m) (lv:=lv) (lv':=lv') (co:=co) (co':=co') (l:=l) (l':=l') (by lia) a.n d (.inl q) G
    generalize Bf w p sn m=A at*;generalize stD h.n lv co=z at*;generalize stD h.n lv' co'=t at*;generalize Ad h.n l=v at*;generalize Ad h.n l'=u at*;generalize h.enc=H at*;unfold Oj Pu Pr Ph Qu;simp[j,o,i,e,r,C,B,q]
 .rw[decide_eq_false d]at j;have i:=ZGV (y:=uA) (H:=h.enc) (G:=[]) λG=>ZLK (m:=m) (lv:=lv) (lv':=lv') (co:=co) (co':=co') (l:=l) (l':=l') d G
  have e:=ZGV (y:=u9) (H:=h.enc) (G:=[]) λG=>ZJ4 (m:=m) (lv:=lv) (lv':=lv') (co:=co) (co':=co') (l:=l) (l':=l') d G
  generalize Bf w p sn m=A at*;generalize stD h.n lv co=z at*;generalize stD h.n lv' co'=t at*;generalize Ad h.n l=v at*;generalize Ad h.n l'=u at*;generalize h.enc=H at*;unfold Oj Pu Pr Ph Qu;simp[j,i,e,r,F]
theorem turn53(g:GoodH h){t:Nat}(K:t<24){F d:Nat->Nat->Int}(a:W53 h co ((zZ (t+1)).map F))(b:W53 h co' ((zZ (t+1)).map d)):I7 [s0,u7 h.enc,zI x,u7 (stD h.n lv co),zF (Ad h.n ((zZ (t+1)).map F)),u7 (stD h.n lv' co'),zF (Ad h.n ((zZ (t+1)).map d)),u7 (Bf w p sn m),u8] []=.rt (.bl u9) []:=by
 have cut:∀F:Nat->Nat->Int,cutD (Ad h.n ((zZ (t+1)).map F)) u8 (u7 (-1))=Ad h.n ((zZ t).map F):=λF=>by
  have:Ad h.n ((zZ (t+1)).map F)=Ad h.n ((zZ t).map F)++Ad h.n [F t]:=by simp[Ad,qU]
  rw[this];exact ZEm
 have e:∀l:List (Nat->Int),freeze ([]:DH) (.ok (.ref 0) [.lst (Ad h.n l)])=.ok (.fl (Ad h.n l)) []:=λl=>Cz Xo
 have k:freeze ([]:DH) (.ok (.ref 0) [.lst []])=.ok (.fl []) []:=Cz rfl;have nil:Ad h.n []=[]:=rfl;have s:W53 h co ((zZ t).map F):=⟨a.c,λfl j=>a.f fl (by obtain⟨i,o,rfl⟩:=z9.mp j;exact z9.mpr ⟨i,by simp at o⊢;lia,rfl⟩),by simp;lia⟩
 have C:W53 h co' ((zZ t).map d):=⟨b.c,λfl j=>b.f fl (by obtain⟨i,o,rfl⟩:=z9.mp j;exact z9.mpr ⟨i,by simp at o⊢;lia,rfl⟩),by simp;lia⟩
 have v:W53 h co []:=⟨a.c,(nofun),by simp⟩;have u:W53 h co' []:=⟨b.c,(nofun),by simp⟩;have T:=λ(lv lv':Nat->Int)(co co':Nat->Nat->Int)(l B:List (Nat->Int))(a:W53 h co l)(b:W53 h co' B)=>tail53 (s0:=s0) (w:=w) (sn:=sn) (p:=p) (m:=m) (x:=x) g (lv:=lv) (lv':=lv') a b
 rcases(by lia:x%8=0\/x%8=1\/x%8=2\/x%8=3\/x%8=4\/x%8=5\/x%8=6\/x%8=7)with z|z|z|z|z|z|z|z
 .rw[<-T lv lv' co co' _ _ a b];generalize Bf w p sn m=A at*;unfold I7 Jd Jb Iw Jg;simp[z]
 .rw[<-T lv' lv co' co _ _ ⟨b.c,a.f,a.n⟩ ⟨a.c,b.f,b.n⟩];generalize Bf w p sn m=A at*;unfold I7 Jd Jb Iw Jg;simp[z,Ah]
 .rw[<-T lv lv' co co' _ _ ⟨a.c,b.f,b.n⟩ ⟨b.c,a.f,a.n⟩];generalize Bf w p sn m=A at*;unfold I7 Jd Jb Iw Jg;simp[z,Ah]
 .rw[<-T lv lv' co co' _ _ s b];have r:=cut F;have q:=e ((zZ t).map F);generalize Bf w p sn m=A at*;generalize Ad h.n ((zZ t).map F)=I at*;generalize Ad h.n ((zZ (t+1)).map F)=y at*;unfold I7 Jd Jb Iw Jg;simp[z,Ir,Fo,r,q]
 .have:=T lv lv' co co' _ _ v u;rw[nil]at this;rw[<-this];generalize Bf w p sn m=A at*;unfold I7 Jd Jb Iw Jg;simp[z,Af,k]
 .have:=T lv' lv co' co _ _ u v;rw[nil]at this;rw[<-this];generalize Bf w p sn m=A at*;unfold I7 Jd Jb Iw Jg;simp[z,Ah,Af,k]
 .rw[<-T lv lv' co co' _ _ s C];have r:=cut F;have q:=e ((zZ t).map F);have E:=cut d;have H:=e ((zZ t).map d);generalize Bf w p sn m=A at*;generalize Ad h.n ((zZ t).map F)=I at*;generalize Ad h.n ((zZ (t+1)).map F)=y at*;generalize Ad h.n ((zZ t).map d)=J at*;generalize Ad h.n ((zZ (t+1)).map d)=L at*;unfold I7 Jd Jb Iw Jg;simp[z,Ir,Fo,r,q,E,H]
 rw[<-T lv lv' co co' _ _ a b];generalize Bf w p sn m=A at*;unfold I7 Jd Jb Iw Jg;simp[z]
end
theorem ZNK(T:ns.length<=63):∃G,Mf [nD ns] []=.ok (.bl u9) G:=by
 obtain⟨f,c⟩:=cells T;obtain⟨u,K,o⟩:=ZOg c;have a:0<u:=by lia
 obtain⟨l,O,cy⟩:=ZJW c;obtain⟨h,C,ch⟩:=ZLH c ⟨by lia,by lia⟩ cy a o;have g:=C.good;have U:=g.len;have hy:=C.ey;have E:=C.one;have Z:∀G,Bb [nD ns,.int 4] G=.ok (.int (f 4)) G:=c 4 (by lia);obtain⟨t,F⟩:∃t:Nat,((t+1:Nat):Int)=h.yr+f 4/8%2*(f 4/16%2):=by
  rcases(by lia:f 4/8%2=0\/f 4/8%2=1)with z|z
  .rw[z];exact⟨(h.yr-1).toNat,by lia⟩
  rw[z];exact⟨(h.yr-1+f 4/16%2).toNat,by lia⟩
 have ht:t+1<=5:=by rcases(by lia:f 4/8%2=0\/f 4/8%2=1)with z|z<;>rw[z]at F<;>lia
 have y:6+14*h.n+(t+1)*h.n<=1000:=by have s:=xw ht U;lia
 have cs:=ZLO c a o g;have S:=ZKK c a o g (lv:=lvS h f u) (co:=coS h f u) (λk b r q hk e=>(ZHo g hk).2.1 b r q e) (fl:=flS h.n f u) (t:=t+1) (by lia) [];obtain⟨w,p,d,m,X⟩:=ZJe c g E;have I:∀k j,k<h.n->j<5->0<=coS h f u k j:=λk j _ _=>ZQk a k j
 have M:∀x:Int,0<=u*(x%2):=λx=>j3 (by lia) (by lia)
 have A:W53 h (coS h f u) ((zZ (t+1)).map (flS h.n f u)):=⟨I,(λfl s k _=>by obtain⟨i,_,rfl⟩:=z9.mp s;exact ZBV a i k),by simp;lia⟩
 have B:W53 h (coM h f u (coS h f u)) ((zZ (t+1)).map (flM h f u (flS h.n f u))):=⟨(λk j hk Q=>by
  have:=I k j hk Q;have P:=M (mcell h f k/2);show 0<=coS h f u k j+u*(mcell h f k/2%2);lia),(λfl s k _=>by
  obtain⟨i,_,rfl⟩:=z9.mp s;have E:=ZBV (n:=h.n) (f:=f) a i k;have P:=ZJI (h:=h) (f:=f) a (fl:=flS h.n f u) i k;lia),by simp;lia⟩
 have L:=turn53 (s0:=zN ns) (w:=w) (sn:=d) (p:=p) (m:=m) (x:=f 4) g (lv:=lvS h f u) (lv':=lvM h f u (lvS h f u)) (by lia) A B;have N:freeze ([]:DH) (.ok (.ref 0) [.lst (Ad h.n ((zZ (t+1)).map (flS h.n f u)))])=.ok (.fl (Ad h.n ((zZ (t+1)).map (flS h.n f u)))) []:=Cz Xo;have fk:freeze ([]:DH) (.ok (Bf w p d m) [])=.ok (Bf w p d m) []:=J0 rfl;have v:Rz [nD ns,h.enc,.int (h.yr+f 4/8%2*(f 4/16%2))] []=.ok (.ref 0) [.lst (Ad h.n ((zZ (t+1)).map (flS h.n f u)))]:=by rw[<-F];exact ZI8 c a o g y (by lia) []
 have W:∀G,Bj h.enc (.int 0) G=.ok (.int h.yr) G:=λG=>Mz
 have Y:∀G,Br (.int (f 4/8%2)) (.int (f 4/16%2)) G=.ok (.int (f 4/8%2*(f 4/16%2))) G:=λG=>Gh (by lia) (by lia)
 have J:tidy ([]:DH) (.ok (.bl u9) [])=.ok (.bl u9) []:=Ar rfl;refine⟨[],?_⟩;generalize Ad h.n ((zZ (t+1)).map (flS h.n f u))=F1 at*;generalize Ad h.n ((zZ (t+1)).map (flM h f u (flS h.n f u)))=F2 at*;generalize stD h.n (lvS h f u) (coS h f u)=S1 at*;generalize stD h.n (lvM h f u (lvS h f u)) (coM h f u (coS h f u))=S2 at*;generalize Bf w p d m=AK at*;generalize h.enc=H at*
 unfold Mf ZCZ ZER ZGK ZFB ZGz ZGn;rw[Ag];simp[ch,Z,cs,W,Y,v,N,S,X,fk,L,J]
theorem holds:Holds:=λb a=>ZNK a
end _W
set_option maxRecDepth 100000
namespace _W
open PySem PySem.W _L _D
theorem ZGB:∀w,(openEnds vj pw w 100000).map (λs=>(openSeen vw ["KINDS_ASKED"] (vZ pw.main.body) (XtOf rw_ vw) u9 s,Ry asks s.heap))=u7 (openGood vw ["KINDS_ASKED"],Q3 asks):=ZNO (by kernel_rfl) (λs=>rfl) ZOK
theorem walked:WalkO vw ["KINDS_ASKED"] (XL vw []) (Stays rw_.prog 100000) rw_.row.toRowW (dOf Jl) [] λf vs=>qh f vs:=
 walk (l:=rw_) (K:=λw=>Qv (J6 pw 100000 w)) rfl hdf holds (λw h Y=>Y.in) λw mg fa h KX G hmg=>all_mk KX G (show mg "law"=_ from hmg) (ZFh (ZM3 ZGB w))
end _W
open PySem PySem.W PyProof.Rows _D
theorem PySem.Challenge.cw_sluiceway_k53_asks_refused_holds : PySem.Challenge.rw_sluiceway_k53_asks_refused.Holds := by
 refine holds_top (l:=_W.rw_) (q:=_W.vw) (loose:=["KINDS_ASKED"]) (N:=100000) (see:=Ry _W.asks) (val:=Q3 _W.asks) (d:=dOf _W.Jl) ?_ ?_ ?_ ?_ ?_ ?_ ?_ ?_ ?_ ?_
 .exact _W.well
 .exact _W.ZGB
 .exact _W.hdef
 .exact _W.hp
 .exact _W.hk
 .rfl
 .exact _W.hok
 .exact _W.hbare
 .exact _W.hw
 .exact _W.walked
