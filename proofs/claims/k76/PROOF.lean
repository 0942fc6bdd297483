import PyProof.Rows.All
import PySem.Challenge.RW_sluiceway_k76_whole_no_plan_earns_more
import KE.KNestM
import KE.KIsAll
import KE.KSortTup
import KE.KLam
import Wide.FinOn
import Lean
set_option compiler.extract_closed false
set_option bootstrap.genMatcherCode false
set_option genSizeOf false
set_option Elab.async false
set_option linter.all false
set_option maxRecDepth 100000
open Option renaming some->u7,none->u8
open Bool renaming true->u9,false->uA
open PySem.W renaming Frag->za,nsIn->zb,findIn->zd,kla_fn->ze,instObj->zf,emptyDict->zg,codeHdIn->zh,kas_sort->zi,kia_one->qd,keepIn->qe,tabObj->qh,noTabs->qi,lookIn->ja,plainGet->jb,fnOf->jc,hasDictIn->xa,plainGet_of->xf,isFn->xg,takerIn->xh,callWith_K->xi,OpenLaw->vg,handedIn->wS,plainOver->wa,makesIn->wc,methodCall_KW->wd,cellsFrom_some->we,codeIn->wf,KasT->ux,codeHd_of_K->uw,katRev->uy,WalkO->u1
open PySem.F renaming slot_tuple_iterator_next->je,slot_enumerate_next->jf,slot_zip_next->jg,slot_dict_get->vc,slot_tuple_add->wg,entry_tuple_add->wh,args_tuple_add_2->uQ,entry_dict_get->uZ,args_dict_get_3->uJ,entry_tuple_iterator_next->uV,args_tuple_iterator_next_1->uW,entry_enumerate_next->uK,args_enumerate_next_1->uY,slot_enumerate_iter->uq,entry_zip_next->uz,args_zip_next_1->uj
open PySem renaming mem_of_lookup->zc,call->qf,Within->jh
open PyProof.Rows renaming callWith_type1->qb,slot_tuple_getitem->jd,boot_range->vf
open PyProof renaming noPylong_small->uv
open PySem.SeqAt.EqAt renaming int_str->vh,str_int->wO
open PySem.SeqAt renaming ne_of_list_tuple->uX
open PySem.Builtin.SmallTypes renaming nextOf->qg,ownedTupleIsFree->vd,ownedTupleHandOut->ve,newClass->u4,newRecord->u5,ownedTupleFields->u6
open PySem.Builtin.List renaming listTooLong->vb
open PySem.Builtin.Str renaming strSliceIndices->qc,occurrences->ji
open List renaming replicate->zQ,getElem?_eq_some_iff->zZ,getElem?_eq_getElem->zJ,mem_cons_of_mem->zV,range->zW,map_cons->zK,getD_eq_getElem?_getD->zY,length_map->zq,getElem?_map->zj,getElem?_set_ne->zw,mem_cons_self->zk,size_toArray->zy,mem_cons->z0,getElem?_append_left->z9,getElem?_eq_none->zC,length_cons->zD,mem_append_right->zE,length_append->zL,getElem?_append_right->zM,drop_eq_getElem_cons->zO,mem_of_getElem?->zU,map_append->qQ,getElem?_set_self->qZ,append_nil->qX,map_nil->qV,mem_range->qW,getElem_mem->qK,mem_append->qz,find?_cons->qj,getElem?_take_of_lt->qx,mem_map->qw,append_assoc->qk,replicate_succ->qy,nil_append->q9,getElem?_range->qB,drop_of_length_le->qE,set->qF,map_map->qG,length_set->qH,range'->qM,eq_nil_of_length_eq_zero->qO,zipIdx_cons->qP,filterMap_cons->qR,getElem?_replicate->qT,length_take->jQ,range_succ_eq_map->jZ,map_congr_left->jJ,length_replicate->jY,ext_getElem->jq,mem_append_left->jz,flatten_cons->jv,getElem?_set->jw,length_drop->jy,any_cons->j0,cons_append->j3,ext_getElem?->j5,getElem?_cons_succ->j6,lookup_cons->j7,filterMap_map->j9,lookup->jB,all_cons->jE,getElem?_eq_none_iff->jF,reverse_cons->jG,pairwise_iff_getElem->jH,forall_mem_cons->jI,idxOf_lt_length_iff->jL,drop_zero->jM,length->jO,range'_succ->jP,mem_singleton->jS,nodup_cons->jT,drop_eq_nil_of_le->xJ,length_singleton->xX,length_range->xW,all_eq_true->xY,getElem_of_mem->xq,forIn_cons->xz,take_of_length_le->xA,filterMap_eq_map'->xB,singleton_append->xG,getElem_map->xH,length_nil->xM,sum_append->xN,range_succ->xO,map_set->xU,set_set->vQ
open Nat renaming lt_of_lt_of_le->zx,le_refl->zv,le_trans->zG,ne_of_lt->zN,lt_irrefl->qA,lt_succ_self->qC,zero_add->qD,add_sub_cancel_left->qI,mul_le_mul_right->qL,add_right_comm->qN,ne_of_gt->jx,zero_le->jk,le_succ->jN,le_of_lt->jR,lt_of_succ_lt_succ->jU,add_assoc->xQ,lt_succ_of_lt->xV,succ_mul->xk,mul_comm->xy,le_add_right->xD,add_mul->xI,add_comm->xP,mul_le_mul->vZ,one_mul->vJ
open Int renaming le_refl->qY,mul_le_mul_of_nonneg_right->q0,natCast_mul->qU,mul_zero->jW,add_zero->jK,mul_nonneg->j8,emod_lt_of_pos->jA,natCast_add->jD,emod_nonneg->xZ,zero_add->xK,mul_add->xE,sub_mul->xF,add_assoc->xL,le_of_lt->xR,mul_comm->xS,zero_mul->xT
open Option renaming map_eq_some_iff->qJ,isSome_iff_exists->xw
open Bool renaming false_ne_true->zH,and_eq_true->zP,and_eq_true_iff->j4,or_eq_true->xj
open Array renaming length_toList->qS,getElem?_toList->jC
open PySem.Heap renaming get?_push_of_some->zX,get?_push_size->z3,lt_size->zA,SameBut->jX,size_push->jV,get?_update_self->xC
open PySem renaming Addr->vX,Around->vV,Expr->vW,FuncData->vK,NameKind->vY,Program->vq,Scope->vz,Shared->vj,Stmt->vx,Value->vk,World->vA,assignEach->vB,attributeBase->vC,backTo->vD,backToKw->vE,behindInMarks->vF,binaryOp->vG,bootBuiltins->vH,codeAny_mono->vI,compareOp->vL,importedModules->vM,keywordEach->vN,letOwnedTupleGo->vO,mainGlobals->vP,model->vR,rawInt->vS,sizeLine_eq->vT,sliceBounds->vU,starEach->wQ,treeTable->wZ,wpAny->wW,wpAny_Call_Name_kw->wK,wpAny_bind->wq,wpAny_callSpecial?_slot->wz,wpAny_call_entry->wj,wpAny_field->wx,wpAny_holding->wv,wpAny_mono->ww,wpAny_newObj_type->wk,wpAny_passesOwn->w5,wpAny_pure->w6,wpAny_setField_rec->w8,wpAny_truthy_bool->w9
open PySem.W renaming Frag->wD,boot_heap->wE
set_option maxHeartbeats 0
open List renaming length -> lN
noncomputable section
namespace _L
open PySem PySem.Spec PyProof.Rows
noncomputable def G8(s:vx):Arguments:=match s with
 |.FunctionDef _ a _ _ _ _ _ _ _ _=>a
 |_=>{posonlyargs:=[],args:=[],vararg:=u8,kwonlyargs:=[],kw_defaults:=[],kwarg:=u8,defaults:=[]}
noncomputable def Ei(s:vx):List vx:=match s with
 |.FunctionDef _ _ b _ _ _ _ _ _ _=>b
 |_=>[]
noncomputable def Bt(s:vx):vz:=match s with
 |.FunctionDef _ _ _ _ _ _ sc _ _ _=>sc
 |_=>{kind:=.function,names:=[],isGenerator:=uA,isCoroutine:=uA}
end _L
namespace _D
open PySem PySem.W _L
variable{h:Heap}{C:vX}{m x q:Str}{st:vx}{mg:Str->Option vk}
noncomputable def Io:List Obj->Nat->wD
 |[],_=>[]
 |o::r,n=>match o.cls,o.data with
  |.none,.fields _=>Io r (n+1)
  |_,.freed=>Io r (n+1)
  |_,_=>(n,o)::Io r (n+1)
def Cd(h:Heap):wD:=Io h.objs.toList 0
noncomputable def YN(s:vx):DefRec:=match s with
 |Stmt.FunctionDef n a b _ _ _ s _ _ p=>⟨n,a,b,s,p⟩
 |_=>⟨Str.empty,⟨[],[],u8,[],[],u8,[]⟩,[],{kind:=.module,names:=[],isGenerator:=uA,isCoroutine:=uA,more:=[]},⟨0,0,0,0⟩⟩
noncomputable abbrev WQ(l:OpenLaw)(q:vq)(s:vj):Bool:=xlAt q [] s&&recOk l.row.toRowW.records s
noncomputable def Ax(K:wD)(n:Str):vX:=match nsIn K vP n with
 |some (u7 (.ref f))=>f
 |_=>0
noncomputable def ZT(K:wD)(n:Str):Bool:=match nsIn K vP n with
 |some (u7 (.ref _))=>u9
 |_=>uA
noncomputable def Dz(K:wD)(C:vX)(m:Str):vX:=match findIn K (.ref C) m with
 |some (u7 (.ref f))=>f
 |_=>0
noncomputable def SY(K:wD)(C:vX)(m:Str):Bool:=match findIn K (.ref C) m with
 |some (u7 (.ref f))=>isFn K (.ref f)
 |_=>uA
noncomputable def TY(K:wD)(C:vX)(m:Str):Bool:=match findIn K (.ref C) m with
 |some u8=>u9
 |_=>uA
noncomputable def UY(K:wD)(n:Str):Bool:=match nsIn K vP n with
 |some u8=>u9
 |_=>uA
noncomputable def Ve(K:wD)(C:vX):Bool:=match findIn K (.ref C) "__setattr__" with
 |some (u7 (.builtin s))=>s == "object.__setattr__"
 |_=>uA
noncomputable def VY(K:wD)(n:Str)(v:Int):Bool:=match nsIn K vP n with
 |some (u7 (.int u _))=>decide (u=v)
 |_=>uA
noncomputable def WY(K:wD)(n:Str)(v:Str):Bool:=match nsIn K vP n with
 |some (u7 (.str u _))=>decide (u=v)
 |_=>uA
noncomputable def Gb(K:wD)(f:vX):Obj:=match K.lookup f with
 |some o=>o
 |none=>⟨.none,u8,.plain,#[]⟩
def Bj(K:wD)(f:vX):vK:=match(Gb K f).data with
 |.func fd=>fd
 |_=>default
noncomputable def kH:vk->Bool
 |.none=>u9
 |_=>uA
noncomputable def kI:FuncBody->Option (List vx)
 |.stmts b=>u7 b
 |_=>u8
def Rm(K:wD)(x q:Str)(f:vX):Bool:=match K.lookup f with
 |some ⟨_,_,.func fd,_⟩=>decide (fd.name=x)&&decide (fd.qualname=q)&&(fd.globals==vP&&fd.builtins==builtinsNs&&fd.closure.isEmpty&&kH fd.defaults)&&(codeIn K fd.code q&&keepIn K (.ref f))
 |_=>uA
noncomputable abbrev YD:=Arguments×Option (List vx)×vz
def Kg(K:wD)(f:vX):YD:=((Bj K f).params,kI (Bj K f).body,(Bj K f).scope)
def Ko(st:vx):YD:=(G8 st,u7 (Ei st),Bt st)
noncomputable def UK(K:wD)(d:vk)(v:Int):Bool:=match d with
 | .ref T=>match K.lookup T with
  | some o=>(match o.data with
   |.seq a _=>(match a.toList with
    |[.int i _]=>decide (i=v)
    |_=>uA)
   |_=>uA)
  |none=>uA
 |_=>uA
def Yh(K:wD)(x q:Str)(f:vX)(v:Int):Bool:=match K.lookup f with
 |some ⟨_,_,.func fd,_⟩=>decide (fd.name=x)&&decide (fd.qualname=q)&&(fd.globals==vP&&fd.builtins==builtinsNs&&fd.closure.isEmpty&&UK K fd.defaults v)&&(codeIn K fd.code q&&keepIn K (.ref f))
 |_=>uA
noncomputable def strsOf:List vk->Option (List Str)
 |[]=>u7 []
 |.str s _::r=>(strsOf r).map (s::·)
 |_::_=>u8
def Wk(K:wD)(n:Str)(vs:List Str):Bool:=match nsIn K vP n with
 | some (u7 (.ref p))=>(match K.lookup p with
   |some ⟨.type t,_,.seq OA _,_⟩=>t == "tuple"&&decide (strsOf OA.toList=u7 vs)&&Nat.ble (lN OA.toList) 1000
   |_=>uA)
 |_=>uA
def Wb(K:wD)(n:Str)(KA:List (Str×Str)):Bool:=match nsIn K vP n with
 | some (u7 (.ref p))=>(match K.lookup p with
   |some ⟨.type t,_,.dict es _,_⟩=>t == "dict" && !(p==sysModules)&&decide (strsOf (es.toList.map (·.key))=u7 (KA.map (·.1)))&&decide (strsOf (es.toList.map (·.val))=u7 (KA.map (·.2)))
   |_=>uA)
 |_=>uA
inductive Ask where
 |fn (n:Str) (st:vx)
 |mt (c m q:Str) (st:vx)
 |cl (c:Str)
 |no (c x:Str)
 |z (n:Str)
 |gi (n:Str) (v:Int)
 |gs (n v:Str)
 |gt (n:Str) (vs:List Str)
 |gd (n:Str) (KA:List (Str×Str))
 |ck (φ:wD->Bool)
 |fd (n:Str) (st:vx) (v:Int)
def Ask.MX(K:wD):Ask->Bool
 |.fn n _=>ZT K n&&Rm K n n (Ax K n)
 |.mt c m q _=>SY K (Ax K c) m&&Rm K m q (Dz K (Ax K c) m)
 |.cl c=>ZT K c&&(plainGet K (Ax K c) Str.empty&&hasDictIn K (Ax K c)&&plainOver K (Ax K c))&&(Ve K (Ax K c)&&makesIn K (Ax K c)&&keepIn K (.ref (Ax K c)))
 |.no c x=>TY K (Ax K c) x
 |.z n=>UY K n
 |.gi n v=>VY K n v
 |.gs n v=>WY K n v
 |.gt n vs=>Wk K n vs
 |.gd n KA=>Wb K n KA
 |.ck φ=>φ K
 |.fd n _ v=>ZT K n&&Yh K n n (Ax K n) v
def Ask.NF(K:wD):Ask->Option YD
 |.fn n _=>u7 (Kg K (Ax K n))
 |.mt c m _ _=>u7 (Kg K (Dz K (Ax K c) m))
 |.fd n _ _=>u7 (Kg K (Ax K n))
 |_=>u8
def Ask.XQ:Ask->Option YD
 |.fn _ st=>u7 (Ko st)
 |.mt _ _ _ st=>u7 (Ko st)
 |.fd _ st _=>u7 (Ko st)
 |_=>u8
def XY(l:List Ask)(h:Heap):Bool×List (Option YD):=(l.all (Ask.MX (Cd h)),l.map (Ask.NF (Cd h)))
noncomputable abbrev ZY(l:List Ask):Bool×List (Option YD):=(u9,l.map Ask.XQ)
def Ik(K:wD)(c m:Str):vX:=match(Bj K (Dz K (Ax K c) m)).code with
 |.ref a=>a
 |_=>0
def Nf(K:wD)(c:vX):vX:=match(Gb K c).data with
 |.fields vs=>(match(vs[11]? :Option vk)with |some (.ref P)=>P|_=>0)
 |_=>0
noncomputable def kJ:vk->Bool
 |.ref _=>u9
 |_=>uA
def Vx(c m:Str)(h:Heap):Bool:=kJ (Bj (Cd h) (Dz (Cd h) (Ax (Cd h) c) m)).code&&codeHdIn (Cd h) (Ik (Cd h) c m) (Nf (Cd h) (Ik (Cd h) c m)) &&
 (match h.get? (Nf (Cd h) (Ik (Cd h) c m))with
  |some ⟨.none,u8,.fields vs,sl⟩=>vs.isEmpty&&sl.isEmpty
  |_=>uA)
def Uv(c m:Str)(l:List Ask)(h:Heap):Bool×Bool×List (Option YD):=(Vx c m h,XY l h)
noncomputable abbrev Wz(l:List Ask):Bool×Bool×List (Option YD):=(u9,ZY l)
noncomputable def Uq(p:vq)(w:vA)(n₀:Nat)(ann:Option vk):Nat->SharedT->Thread->Option SharedT
 |0,_,_=>u8
 | n+1,s,t=>match through t with
  |true=>u7 s
  | false=>match PySem.W.Fast.tw6613529449190102663 n₀ ann t with
   |false=>u8
   |true=>match PySem.W.Fast.tw10156331382660048174 (PySem.W.Fast.tw11892475500146522536 PySem.W.Fast.tw14364793385576792824) p w s t with
    |some (s',t')=>Uq p w n₀ ann n s' t'
    |none=>u8
noncomputable def aA:List Obj->Nat->BT->BT
 |[],_,t=>t
 |o::r,n,t=>aA r (n+1) (t.ins n o)
def aB(w:vA)(os:OsState):SharedT:=⟨aA (wE w.params).objs.toList 0 .nil,(wE w.params).objs.size,(wE w.params).life,Array.mk [],boot_drawn,boot_toks,os⟩
def W2(p:vq)(w:vA)(os:OsState):Option SharedT:=Uq p w (wE w.params).objs.size (PySem.W.Fast.tw8920871248978507458 (wE w.params) vP "__annotations__") 100000 (aB w os) (topStub p)
noncomputable def Xa(p:vq)(w:vA)(s:vj):Bool:=staticsOk (PySem.W.Fast.tw5923862056798008813 p.main.body) (wE w.params) s.heap&&namesBound p s.heap&&gensDone s&&laidKept (wE w.params) s.heap
def kK(h:PySem.W.Fast.tw9446332074065402090 l=u9):l.wellSaid=u9:=by rw[PySem.W.Fast.te9446332074065402090];exact h
noncomputable def GZ:vx:=.Pass ⟨0,0,0,0⟩
noncomputable def ZN:vx->Str×List vx
 |.ClassDef n [] _ b _ _ _ _ _ _ _=>(n,b)
 |_=>(Str.empty,[])
noncomputable def GU(n:Str)(s:vx):Ask:=match s with
 |.FunctionDef m _ _ _ _ _ _ _ _ _=>.mt n m (n++"."++m) s
 |_=>.ck λ_=>u9
noncomputable def HU(n:Str):vx->Ask
 |.Assign [.Attribute _ x _] _ _=>.no n x
 |_=>.ck λ_=>u9
def HZ(s:vx):List Ask:=(ZN s).2.map (GU (ZN s).1)++(ZN s).2.flatMap λf=>(Ei f).map (HU (ZN s).1)
def Rp(s:vx):Ask:=match s with
 |.FunctionDef n a _ _ _ _ _ _ _ _=>(match a.defaults with
  |[]=>.fn n s
  |[.Constant (.int v) _ _]=>.fd n s v
  |_=>.ck λ_=>u9)
 |.ClassDef n [] _ _ _ _ _ _ _ _ _=>.cl n
 |.Assign [.Name x _] (.Constant c _ _) _=>(match c with
  |.int v=>.gi x v
  |.str v=>if x == "__name__" then .ck λ_=>u9 else .gs x v
  |_=>.ck λ_=>u9)
 |_=>.ck λ_=>u9
noncomputable def zAs:List Ask:=(["all","bool","enumerate","int","isinstance","len","list","max","min","range","set","sorted","str","sum","tuple","zip","ValueError"]:List Str).map .z
def Wg(b:List vx)(ex:List Ask):List Ask:=ex++(zAs++(b.flatMap HZ++b.map Rp))
noncomputable abbrev QH(b:List vx)(i:Nat):vx:=b.getD i GZ
end _D
namespace _W
open PySem PySem.W _L _D
noncomputable abbrev body:List vx:=PySem.Challenge.pw_sluiceway_k76_whole_no_plan_earns_more.main.body
noncomputable abbrev top(i:Nat):vx:=QH body i
noncomputable abbrev Iz:=top 67
noncomputable def IZ:List Ask:=[]
def asks:List Ask:=Wg body IZ
abbrev LJ:OpenLaw:=PySem.Challenge.rw_sluiceway_k76_whole_no_plan_earns_more
abbrev pw:vq:=OpenLaw.prog PySem.Challenge.rw_sluiceway_k76_whole_no_plan_earns_more
def vw:vq:=view pw (zW 68)
def kL:∀w os,(W2 pw w os).map (λs=>(Xa pw w s.abs,PySem.W.Fast.tw4187177175401517315 vw [] (PySem.W.Fast.tw5923862056798008813 pw.main.body) (WQ LJ vw) u9 s.abs,Uv "Sending" "send_by" asks s.abs.heap))=u7 (u9,openGood vw [],Wz asks):=λw os=>by kernel_rfl
def well:LJ.wellSaid=u9:=kK (by kernel_rfl)
def MJ:defOf vw LJ.row.name=u7 (YN Iz,[]):=by kernel_rfl
def hp:LJ.row.prog.theDef LJ.row.name=u7 ((YN Iz).params,(YN Iz).body,(YN Iz).scope):=by kernel_rfl
def hk:kwWritten? (YN Iz).params.kwonlyargs (YN Iz).params.kw_defaults=u7 []:=by kernel_rfl
def UA:(chainsOk vw&&opensWell LJ.row.prog&&(frees LJ.row.toRowW&&LJ.row.within.isEmpty))=u9:=by kernel_rfl
def YQ:(YN Iz).params.defaults=[]:=by kernel_rfl
def IU:LJ.row.prog.bare:=⟨rfl,rfl,rfl,rfl,rfl,by decide +kernel⟩
def hw:LJ.row.toRowW.promised:=by w_witness2
end _W
namespace _L
open PySem PySem.Spec PyProof.Rows
variable{t':Nat}{s:vj}{wM:List (vX×Obj)}{tg:vW}{P:vq}
noncomputable abbrev Key:=Sum Int Str
def Lj:Key->vk->Bool
 |.inl k,v=>Value.isInt k v
 |.inr x,v=>Value.isStrOf x v
def JZ(w:vA):Key->Int
 |.inl k=>hashInt k
 |.inr x=>hashStr w x
theorem Iu:∀{k:Key}{v:vk},Lj k v=u9->(∃i t,k=Sum.inl i/\v=Value.int i t)\/(∃x t,k=Sum.inr x/\v=Value.str x t)
 |.inl i,v,h=>by obtain⟨t,e⟩:=Value.isInt_shape h;exact .inl ⟨i,t,rfl,e⟩
 |.inr x,v,h=>by obtain⟨t,e⟩:=Value.isStrOf_shape h;exact .inr ⟨x,t,rfl,e⟩
def kM(i:Int)(t:Tok):Lj (.inl i) (.int i t)=u9:=by simp[Lj,Value.isInt]
def kN(x:Str)(t:Tok):Lj (.inr x) (.str x t)=u9:=by simp[Lj,Value.isStrOf]
def kO(a b:Int):decide ((Sum.inl a:Key)=Sum.inl b)=(a==b):=by
 by_cases e:a=b
 .subst e;simp
 rw[decide_eq_false (λq=>e (Sum.inl.inj q))];exact(beq_eq_false_iff_ne.mpr e).symm
def kP(a b:Str):decide ((Sum.inr a:Key)=Sum.inr b)=decide (a=b):=by
 by_cases e:a=b
 .subst e;simp
 rw[decide_eq_false (λq=>e (Sum.inr.inj q)),decide_eq_false e]
def kQ(a:Int)(b:Str):decide ((Sum.inl a:Key)=Sum.inr b)=uA:=decide_eq_false (nofun)
def kR(a:Str)(b:Int):decide ((Sum.inr a:Key)=Sum.inl b)=uA:=decide_eq_false (nofun)
def Fq(prog:vq)(w:vA):PySem.KeyKind prog w Key where
 is:=Lj
 hash:=JZ w
 inj:=λv a b ha hb=>by
  rcases Iu ha with⟨i,t,rfl,rfl⟩|⟨x,t,rfl,rfl⟩
  .rcases Iu hb with⟨j,u,rfl,e⟩|⟨y,u,rfl,e⟩
   .injection e with e1 _;rw[e1]
   .exact nomatch e
  .rcases Iu hb with⟨j,u,rfl,e⟩|⟨y,u,rfl,e⟩
   .exact nomatch e
   .injection e with e1 _;rw[e1]
 byValue:=λk v h=>by rcases Iu h with⟨i,t,rfl,rfl⟩|⟨x,t,rfl,rfl⟩<;>rfl
 pyHash:=λhv h=>by
  rcases Iu hv with⟨i,t,rfl,rfl⟩|⟨x,t,rfl,rfl⟩
  .exact wpAny_pyHash_int h
  .exact wpAny_pyHash_str h
 eqBool:=λhu hv h=>by
  rcases Iu hu with⟨i,t,rfl,rfl⟩|⟨x,t,rfl,rfl⟩
  .rcases Iu hv with⟨j,u,rfl,rfl⟩|⟨y,u,rfl,rfl⟩
   .rw[kO]at h;exact wpAny_eqBool_int h
   .rw[kQ]at h;exact vh i t y u _ _ _ _ h
  .rcases Iu hv with⟨j,u,rfl,rfl⟩|⟨y,u,rfl,rfl⟩
   .rw[kR]at h;exact wO x t j u _ _ _ _ h
   .rw[kP]at h;exact wpAny_eqBool_str h
 «strs»:=λk x t v h=>by
  rcases Iu h with⟨i,u,rfl,e⟩|⟨y,u,rfl,e⟩
  .exact nomatch e
  .injection e with e1 _
   subst e1
   cases v<;>rfl
def kT(prog:vq)(w:vA)(i:Int)(t:Tok):(Fq prog w).is (.inl i) (.int i t)=u9:=kM i t
def kU(prog:vq)(w:vA)(x:Str)(t:Tok):(Fq prog w).is (.inr x) (.str x t)=u9:=kN x t
inductive V where
 |LA|bl (b:Bool)|int (i:Int)|str (x:Str)|byt (b:Array UInt8)|flt (b:UInt64)|ref (a:vX)|ty (n:String)
 deriving DecidableEq
def RelV:V->vk->Prop
 |.LA,u=>u=Value.none
 |.bl b,u=>u=Value.bool b
 |.int i,u=>∃t,u=Value.int i t
 |.str x,u=>∃t,u=Value.str x t
 |.byt b,u=>∃t,u=Value.bytes b t
 |.flt b,u=>∃t,u=Value.float b t
 |.ref a,u=>u=Value.ref a
 |.ty n,u=>u=Value.type n
abbrev Vals:List V->List vk->Prop:=Paired RelV
def Vals.length{xs:List V}{us:List vk}(r:Vals xs us):xs.length=us.length:=Paired.length r
theorem Vals.get:∀{xs:List V}{us:List vk}{i:Nat}{x:V},Vals xs us->xs[i]?=u7 x->∃u,us[i]?=u7 u/\RelV x u
 |_,_,_,_,.nil,e=>by simp at e
 |_,_,0,_,.cons r _,e=>by simp at e;subst e;exact⟨_,rfl,r⟩
 |_,_,i+1,x,.cons _ t,e=>by obtain⟨u,j,d⟩:=Vals.get t (by simpa using e);exact⟨u,by simpa using j,d⟩
theorem Vals.set(r:RelV x u):∀{xs:List V}{us:List vk}(i:Nat),Vals xs us->Vals (xs.set i x) (us.set i u)
 |_,_,_,.nil=>.nil
 |_,_,0,.cons _ t=>.cons r t
 |_,_,i+1,.cons q t=>.cons q (Vals.set r i t)
theorem Vals.append:∀{xs ys:List V}{us ws:List vk},Vals xs us->Vals ys ws->Vals (xs++ys) (us++ws)
 |_,_,_,_,.nil,s=>s
 |_,_,_,_,.cons r t,s=>.cons r (Vals.append t s)
theorem Vals.take:∀{xs:List V}{us:List vk}(n:Nat),Vals xs us->Vals (xs.take n) (us.take n)
 |_,_,0,_|_,_,_+1,.nil=>.nil
 |_,_,n+1,.cons r t=>.cons r (Vals.take n t)
theorem Vals.drop:∀{xs:List V}{us:List vk}(n:Nat),Vals xs us->Vals (xs.drop n) (us.drop n)
 |_,_,0,r=>r
 |_,_,_+1,.nil=>.nil
 |_,_,n+1,.cons _ t=>Vals.drop n t
def RE:Option V->Option vk->Prop
 |some v,u7 u=>RelV v u
 |none,u8=>True
 |_,_=>False
def KV{κ:Type}:List (κ×V)->List (κ×vk)->Prop:=Paired λ(p:κ×V)(q:κ×vk)=>p.1=q.1/\RelV p.2 q.2
def kV:Key->V
 |.inl i=>.int i
 |.inr x=>.str x
inductive HO where
 |lst (xs:List V)
 |tup (xs:List V)
 |dK (KA:List (Key×V))|dT (KA:List (List Key×V))
 |set (S:Int->Bool) (n:Nat)
 |ins (C dx:vX) (fs:List (Str×V))
 |own (x:vX)
 |xd (fs:List (Str×V))
 |met (f x:vX)
 |JU (lo hi:Int)
 |XC (o:Obj) (u:HO)
 |QF (ps:Array vk)
 |ext (φ:Heap->Prop)
noncomputable abbrev Hp:=vX->Option HO
noncomputable def upd(H:Hp)(a:vX)(o:HO):Hp:=λb=>if b=a then u7 o else H b
def Dp:upd H a o a=u7 o:=by unfold upd;rw[if_pos rfl]
def Ah(h:b≠a):upd H a o b=H b:=by unfold upd;rw[if_neg h]
def kW{H:Hp}{a b:vX}{o u:HO}(h:H a=u7 o)(h':H b=u7 u)(d:o≠u):a≠b:=by intro e;subst e;rw[h]at h';exact d (Option.some.inj h')
def G9{H:Hp}{a b:vX}{o:HO}(h:H a=u7 o)(h':H b=u8):a≠b:=by intro e;subst e;rw[h]at h';cases h'
section
variable(P:vq)(w:vA)
def XB(H:Hp)(h:Heap)(a:vX):HO->Prop
 |.lst xs=>lN xs<=sizeLine/\∃(OA:List vk)(n:Nat),Vals xs OA/\h.get? a=u7 {cls:=.type "list",data:=.seq OA.toArray n}
 |.tup xs=>lN xs<=sizeLine/\∃OA:List vk,Vals xs OA/\IsTup h a OA.toArray
 |.dK KA=>lN KA<=sizeLine/\(a==sysModules)=uA/\∃vs,KV KA vs/\h.DictOf (Fq P w) a vs
 | .dT KA=>lN KA<=sizeLine/\(a==sysModules)=uA/\∃xs:List (List Key×vX×vk),
   Paired (λ(p:List Key×V)(q:List Key×vX×vk)=>p.1=q.1/\H q.2.1=u7 (.tup (p.1.map kV))/\RelV p.2 q.2.2) KA xs/\
   ∃o es ep,h.get? a=u7 o/\o.ExactDict/\o.data=.dict es ep/\es.toList=xs.map (entryOfKey (tupleKind (Fq P w)))/\(xs.map (·.1)).Nodup
 |.set S n=>h.SetOf (intKind P w) a S n
 | .ins C dx fs=>H dx=u7 (.own a)/\lN fs<=1000/\dx≠a/\h.get? a=u7 (zf C dx)/\
   ∃mA,h.Ns1 dx mA/\(∀f,RE (fs.lookup f) (mA f))/\jh mA (fs.map (·.1))
 |.own _=>∃o,h.get? a=u7 o
 |.xd fs=>∃mA,h.Ns1 a mA/\∀f,RE (fs.lookup f) (mA f)
 |.JU lo hi=>∃t u v,h.get? a=u7 {cls:=.type "range",data:=.fields #[.int lo t,.int hi u,.int 1 v]}
 |.XC o u=>h.get? a=u7 o/\XB H h a u
 |.QF ps=>h.get? a=u7 {cls:=.none,data:=.fields ps}
 |.met f x=>h.get? a=u7 (PySem.W.methodObj (.ref f) (.ref x))
 |.ext φ=>φ h/\(∃o,h.get? a=u7 o)/\∀h1 h2:Heap,φ h1->(∀o,h1.get? a=u7 o->h2.get? a=u7 o)->φ h2
def YE(H:Hp)(h:Heap):Prop:=∀a o,H a=u7 o->XB P w H h a o
end
section
variable{P:vq}{w:vA}{H H':Hp}{h h':Heap}{a:vX}{o:HO}
theorem XB.lt(x:XB P w H h a o):a<h.objs.size:=by
 cases o with
 |lst xs=>obtain⟨_,_,_,_,e⟩:=x;exact zA e
 |tup xs=>obtain⟨_,_,_,p⟩:=x;exact p.lt
 |set S n=>obtain⟨o,_,_,_,e,_⟩:=x;exact zA e
 |ins C dx fs=>obtain⟨_,_,_,e,_⟩:=x;exact zA e
 |own y=>obtain⟨_,e⟩:=x;exact zA e
 |xd fs=>obtain⟨_,⟨_,_,_,e,_⟩,_⟩:=x;exact zA e
 |JU lo hi=>obtain⟨_,_,_,e⟩:=x;exact zA e
 |XC ob u=>obtain⟨e,_⟩:=x;exact zA e
 |QF ps|met f y=>exact zA (x)
 |ext φ=>obtain⟨_,⟨_,e⟩,_⟩:=x;exact zA e
 |_=>obtain⟨_,_,_,_,o,_,_,e,_⟩:=x;exact zA e
theorem Paired.Vo{i d:Type}{F G:i->d->Prop}:∀{l₁:List i}{l₂:List d},Paired F l₁ l₂->(∀a b,F a b->G a b)->Paired G l₁ l₂
 |_,_,.nil,_=>.nil
 |_,_,.cons r t,f=>.cons (f _ _ r) (Paired.Vo t f)
theorem XB.ZF(x:XB P w H h a o)(k:∀b u,(b=a\/H b=u7 (.own a))->h.get? b=u7 u->h'.get? b=u7 u)
  (ho:∀b,H b=u7 (.own a)->H' b=u7 (.own a)) (ht:∀b xs,H b=u7 (.tup xs)->H' b=u7 (.tup xs)):XB P w H' h' a o:=by
 induction o with
 |lst xs=>obtain⟨z,OA,n,r,e⟩:=x;exact⟨z,OA,n,r,k _ _ (.inl rfl) e⟩
 |tup xs=>obtain⟨z,OA,r,ob,e,c⟩:=x;exact⟨z,OA,r,ob,k _ _ (.inl rfl) e,c⟩
 |dK KA=>obtain⟨z,y,vs,r,ob,es,ep,e,c⟩:=x;exact⟨z,y,vs,r,ob,es,ep,k _ _ (.inl rfl) e,c⟩
 |dT KA=>
  obtain⟨z,y,xs,r,ob,es,ep,e,c⟩:=x;exact⟨z,y,xs,Paired.Vo r λp q z=>⟨z.1,ht _ _ z.2.1,z.2.2⟩,ob,es,ep,k _ _ (.inl rfl) e,c⟩
 |set S n=>obtain⟨ob,es,ep,t,e,c⟩:=x;exact⟨ob,es,ep,t,k _ _ (.inl rfl) e,c⟩
 |ins C dx fs=>
  obtain⟨d,z,ne,e,mA,⟨od,es,ep,e2,c⟩,r⟩:=x;exact⟨ho _ d,z,ne,k _ _ (.inl rfl) e,mA,⟨od,es,ep,k _ _ (.inr d) e2,c⟩,r⟩
 |own y=>obtain⟨ob,e⟩:=x;exact⟨ob,k _ _ (.inl rfl) e⟩
 |xd fs=>obtain⟨mA,⟨od,es,ep,e,c⟩,r⟩:=x;exact⟨mA,⟨od,es,ep,k _ _ (.inl rfl) e,c⟩,r⟩
 |JU lo hi=>obtain⟨t,u,v,e⟩:=x;exact⟨t,u,v,k _ _ (.inl rfl) e⟩
 |XC ob u ih=>obtain⟨e,q⟩:=x;exact⟨k _ _ (.inl rfl) e,ih q⟩
 |QF ps|met f y=>
  have e:=x;exact k a _ (.inl rfl) e
 |ext φ=>obtain⟨p,⟨o,e⟩,st⟩:=x;exact⟨st _ _ p λo q=>k _ _ (.inl rfl) q,⟨o,k _ _ (.inl rfl) e⟩,st⟩
def YE.lt(x:YE P w H h)(e:H a=u7 o):a<h.objs.size:=(x a o e).lt
theorem YE.fresh(x:YE P w H h)(e:h.objs.size<=a):H a=u8:=by
 cases q:H a with
 |none=>rfl
 |some u=>exact absurd (zx (x.lt q) e) (qA _)
def YE.kept(x:YE P w H h)(k:∀b u,h.get? b=u7 u->h'.get? b=u7 u):YE P w H h':=λa o e=>
 (x a o e).ZF (λb u _ q=>k b u q) (λ_ q=>q) λ_ _ q=>q
def YE.laid(x:YE P w H h)(k:∀b u,h.get? b=u7 u->h'.get? b=u7 u)(hp:h.objs.size<=a)(new:XB P w (upd H a o) h' a o):YE P w (upd H a o) h':=λb u e=>by
 have d:=x.fresh hp;by_cases i:b=a
 .subst i;rw[Dp]at e;cases e;exact new
 rw[Ah i]at e;exact(x b u e).ZF (λc v _ q=>k c v q) (λc q=>by rw[Ah (G9 q d)];exact q) λc j q=>by rw[Ah (G9 q d)];exact q
end
def Rd(H:Hp)(a:vX)(u:HO):Prop:=H a=u7 u\/∃o,H a=u7 (.XC o u)
def Rd.ok(r:Rd H a u)(x:YE P w H h):XB P w H h a u:=by
 rcases r with r|⟨o,r⟩
 .exact x a u r
 obtain⟨_,q⟩:=x a _ r;exact q
def KU:Option HO->Prop
 |some (.lst _)=>True
 |some (.dK _)=>True
 |some (.dT _)=>True
 |some (.set _ _)=>True
 |some (.ins _ _ _)=>True
 |some (.ext _)=>True
 |_=>False
section
variable{P:vq}{w:vA}{H:Hp}{h h':Heap}{x e:vX}{o':HO}
def YE.write(ok:YE P w H h)(n:KU (H x))(M:e=x\/H e=u7 (.own x))(k:∀b u,b≠e->h.get? b=u7 u->h'.get? b=u7 u)(J:∃u,h'.get? e=u7 u)
  (new:XB P w (upd H x o') h' x o'):YE P w (upd H x o') h':=λb u q=>by
 have i:∀c y,H c=u7 (.own y)->c≠x:=λc y r z=>by subst z;rw[r]at n;exact n
 have j:∀c I,H c=u7 (.tup I)->c≠x:=λc I r z=>by subst z;rw[r]at n;exact n
 by_cases B:b=x
 .subst B;rw[Dp]at q;cases q;exact new
 rw[Ah B]at q;by_cases d:b=e
 .have L:H b=u7 (.own x):=by
   rcases M with z|z
   .exact absurd (d.trans z) B
   rw[d];exact z
  rw[q]at L;cases L;obtain⟨v,N⟩:=J;exact⟨v,d▸N⟩
 .refine(ok b u q).ZF (λc v F r=>k c v ?_ r) (λc r=>by rw[Ah (i c b r)];exact r) λc I r=>by rw[Ah (j c I r)];exact r
  rcases F with rfl|F
  .exact d
  .rintro rfl;rcases M with z|z
   .exact i c b F z
   rw[F]at z;cases z;exact B rfl
end
structure Un (fs ex:List vX) (H H':Hp) (h h':Heap):Prop where
 keep:∀b o,h.get? b=u7 o->H b=u8->b∉fs->b∉ex->h'.get? b=u7 o
 slot:∀b o,h.get? b=u7 o->H b=u8->b∈fs->b∉ex->∃sl,h'.get? b=u7 {o with slots:=sl}
 free:∀b o,h.get? b=u7 o->H b=u8->b∉ex->H' b=u8
 there:∀b o,h.get? b=u7 o->b∉ex->∃o',h'.get? b=u7 o'
 NJ:∀b xs,H b=u7 (.tup xs)->H' b=u7 (.tup xs)
 YH:∀b o u,H b=u7 (.XC o u)->H' b=u7 (.XC o u)
 ZH:∀b ps,H b=u7 (.QF ps)->∃more,H' b=u7 (.QF (ps++more))
section
variable{fs KZ ex ex':List vX}{H H1 H2:Hp}{h h1 h2 h':Heap}{a x e:vX}{o:HO}
def Un.any(u:Un fs ex H H1 h h1)(q:h.get? b=u7 ob)(n:H b=u8)(j:b∉ex):∃y,h1.get? b=u7 {ob with slots:=y}:=by
 by_cases i:b∈fs
 .exact u.slot b ob q n i j
 exact⟨ob.slots,u.keep b ob q n i j⟩
def Un.kept(k:∀b u,h.get? b=u7 u->h'.get? b=u7 u):Un fs ex H H h h':=
 ⟨λb d q _ _ _=>k b d q,λb d q _ _ _=>⟨d.slots,k b d q⟩,λ_ _ _ n _=>n,λb d q _=>⟨d,k b d q⟩,λ_ _ q=>q,λ_ _ _ q=>q,λ_ i q=>⟨#[],by rw[q];simp⟩⟩
def Un.refl:Un fs ex H H h h:=Un.kept λ_ _ q=>q
def Un.laid(k:∀b u,h.get? b=u7 u->h'.get? b=u7 u)(hp:h.objs.size<=a)(d:H a=u8):Un fs ex H (upd H a o) h h' where
 keep:=λb u q _ _ _=>k b u q
 slot:=λb u q _ _ _=>⟨u.slots,k b u q⟩
 free:=λb u q n _=>by rw[Ah (zN (zx (zA q) hp))];exact n
 there:=λb u q _=>⟨u,k b u q⟩
 NJ:=λb i q=>by rw[Ah (G9 q d)];exact q
 YH:=λb u i q=>by rw[Ah (G9 q d)];exact q
 ZH:=λb j q=>⟨#[],by rw[Ah (G9 q d),q];simp⟩
def Un.write(i:KU (H x))(I:e=x\/H e=u7 (.own x))(k:∀b u,b≠e->h.get? b=u7 u->h'.get? b=u7 u)(y:∃u,h'.get? e=u7 u):Un fs ex H (upd H x o) h h':=by
 have B:∀b,H b=u8->b≠x:=λb n z=>by subst z;rw[n]at i;exact i
 have F:∀b,H b=u8->b≠e:=λb n z=>by
  subst z;rcases I with r|r
  .exact B b n r
  rw[n]at r;cases r
 have j:∀b u,H b=u7 u->¬KU (u7 u)->b≠x:=λb u q nm z=>by subst z;rw[q]at i;exact nm i
 refine⟨λb u q n _ _=>k b u (F b n) q,λb u q n _ _=>⟨u.slots,k b u (F b n) q⟩,λb u q n _=>by rw[Ah (B b n)];exact n,λb u q _=>?_,
  λb J q=>by rw[Ah (j b _ q λz=>z)];exact q,λb u J q=>by rw[Ah (j b _ q λz=>z)];exact q,λb L q=>⟨#[],by rw[Ah (j b _ q λz=>z),q];simp⟩⟩
 by_cases d:b=e
 .subst d;exact y
 exact⟨u,k b u d q⟩
end
noncomputable def LZ(h:Heap)(H:Hp):List vX:=(zW h.objs.size).filter λa=>(H a).isSome
def Jd(h:Heap)(H:Hp):Heap:=PySem.W.hideAll h (LZ h H)
def kX(h:Heap)(H:Hp):(Jd h H).objs.size=h.objs.size:=PySem.W.hideAll_size _ _
def kY(e:h.get? b=u7 o)(n:H b=u8):(Jd h H).get? b=u7 o:=
 PySem.W.hideAll_get _ e λd=>by have q:=(List.mem_filter.mp d).2;rw[n]at q;simp at q
theorem kZ(e:(Jd h H).get? b=u7 o):h.get? b=u7 o/\H b=u8:=by
 have d:=PySem.W.of_hideAll (LZ h H) e;refine⟨d,?_⟩;cases q:H b with
 |none=>rfl
 |some x=>
  have z:(Jd h H).get? b=u8:=PySem.W.hideAll_none (LZ h H) (List.mem_filter.mpr ⟨qW.mpr (zA d),by simp[q]⟩);rw[z]at e;cases e
noncomputable def k4(g h:Heap)(L:vX):List (vX×Obj):=(zW h.objs.size).filterMap λa=>if a=L\/(g.get? a).isSome=u9 then u8 else(h.get? a).map λo=>(a,o)
def rest(g h:Heap)(L d:vX):List (vX×Obj):=(k4 g h L).filter λp=>decide (p.1≠d)
structure Mod (K:za) (mg:Str->Option vk) (base:Heap):Prop where
 LU:K.In base
 glob:base.Ns vP mg
 blt:∃mb,base.Ns builtinsNs mb/\∀x:Str,x≠"__name__"->mb x=vH x
 nolimit:base.NoLimit
structure Cx where
 prog:vq
 w:vA
 K:za
 mg:Str->Option vk
 base:Heap
 A:vV
 N:List Str
 s₀:vj
 H₀:Hp
 env:Env
 outer:List Env
 stack:List Env
 ex:List vX
 fn:Str->Bool
 calm:Bool
 pn:List (vX×Obj)
 xe:vk->vj->Prop
noncomputable def XI(l:List Env):List vX:=l.filterMap (·.frame)
noncomputable abbrev Cx.fs(X:Cx):List vX:=XI X.outer
def YS(sc:vz)(x:Str):Prop:=sc.names.lookup x=u7 .local\/sc.names.lookup x=u7 .cell\/sc.names.lookup x=u7 .free
def Loc(sc:vz)(x:Str):Prop:=sc.names.lookup x=u7 .local\/sc.names.lookup x=u7 .cell
def Look(env:Env)(h:Heap)(m:Str->Option vk)(x:Str)(u:vk):Prop:=
 (env.kindOf x=u7 .local/\m x=u7 u)\/((env.kindOf x=u7 .cell\/env.kindOf x=u7 .free)/\∃c,env.cells.lookup x=u7 c/\h.IsCell c (u7 u))
structure Cx.Ok (X:Cx):Prop where
 mod:Mod X.K X.mg X.base
 kind:X.env.scope.kind=.function
 glob:X.env.globals=vP
 blt:X.env.builtins=builtinsNs
 above:X.s₀.heap.objs.size<=X.env.locals
 inj:∀x y c,X.env.cells.lookup x=u7 c->X.env.cells.lookup y=u7 c->x=y
 has:∀x,(X.env.kindOf x=u7 .cell\/X.env.kindOf x=u7 .free)->∃c,X.env.cells.lookup x=u7 c
 IT:∀x c,X.fn x=u9->X.env.cells.lookup x=u7 c->X.s₀.heap.objs.size<=c
 hd:X.calm=u9->X.A.handled=u8
 frames:X.A.frames=u7 X.stack
 MU:X.stack=X.outer\/(X.stack=X.env::X.outer/\X.env.frame=u7 X.env.locals)
 MZ:∀b∈X.ex,b≠X.env.locals/\∀x c,X.env.cells.lookup x=u7 c->c≠b
 bs:∀b o,X.base.get? b=u7 o->X.s₀.heap.get? b=u7 o/\X.H₀ b=u8
 KN:X.base.objs.size<=X.s₀.heap.objs.size
 WK:∀b o,X.base.get? b=u7 o->b∉X.ex
 YK:∀b∈X.ex,b∉X.fs
 OF:X.s₀.heap.FunFrames X.base X.outer
 UP:∀b∈X.fs,X.H₀ b=u8
structure Inv (X:Cx) (wM:List (vX×Obj)) (σ:List (Option V)) (H:Hp) (s:vj):Prop where
 ok:X.Ok
 os:s.os=X.s₀.os
 bare:AllBare s.gens
 base:Un X.fs X.ex X.H₀ H X.s₀.heap s.heap
 loc:∃m,s.heap.Ns X.env.locals m/\∀(i:Nat)(x:Str)(v:V),X.N[i]?=u7 x->σ[i]?=u7 (u7 v)->YS X.env.scope x->∃u,RelV v u/\Look X.env s.heap m x u
 cell:∀x c,X.env.cells.lookup x=u7 c->∃v,s.heap.IsCell c v
 free:H X.env.locals=u8
 Gj:∀x c,X.env.cells.lookup x=u7 c->H c=u8
 pin:∀p∈X.pn++wM,s.heap.get? p.1=u7 p.2/\H p.1=u8/\p.1≠X.env.locals/\p.1∉X.fs/\∀v,p.2.data≠ .cell v
 UA:YE X.prog X.w H s.heap
 len:lN σ=lN X.N
section
variable{X:Cx}{wM:List (vX×Obj)}{σ:List (Option V)}{H H':Hp}{s:vj}{h':Heap}
def Cx.Ok.NZ(ok:X.Ok)(e:X.base.get? b=u7 o):b∉X.fs:=λd=>by have:=(ok.OF.mem d).1;rw[e]at this;cases this
def Inv.bs(I:Inv X wM σ H s):∀b o,X.base.get? b=u7 o->s.heap.get? b=u7 o/\H b=u8:=λb o e=>
 ⟨I.base.keep b o (I.ok.bs b o e).1 (I.ok.bs b o e).2 (I.ok.NZ e) (I.ok.WK b o e),I.base.free b o (I.ok.bs b o e).1 (I.ok.bs b o e).2 (I.ok.WK b o e)⟩
def Inv.bk(I:Inv X wM σ H s):∀b o,X.base.get? b=u7 o->s.heap.get? b=u7 o:=λb o e=>(I.bs b o e).1
def Inv.mod(I:Inv X wM σ H s):Mod X.K X.mg X.base:=I.ok.mod
def Inv.SG(I:Inv X wM σ H s):X.K.In s.heap:=I.ok.mod.LU.keeps I.bk
def Inv.nolimit(I:Inv X wM σ H s):s.heap.NoLimit:=I.ok.mod.nolimit.keeps I.bk
def Inv.lt(I:Inv X wM σ H s):X.env.locals<s.heap.objs.size:=let⟨_,d,_⟩:=I.loc;d.lt
def Inv.sz(I:Inv X wM σ H s):X.s₀.heap.objs.size<=s.heap.objs.size:=zG I.ok.above (jR I.lt)
def Inv.VL(I:Inv X wM σ H s){a:vX}(h:s.heap.objs.size<=a):a∉X.fs:=λi=>by obtain⟨_,o,d,_⟩:=I.ok.OF.mem i;exact absurd (zx (zA d) (zG I.sz h)) (qA _)
def Inv.ZQ(I:Inv X wM σ H s):∀x c,X.env.cells.lookup x=u7 c->c≠X.env.locals:=λx c e z=>by obtain⟨v,o,j,n⟩:=I.cell x c e;obtain⟨m,⟨q,y,B,d,i,_⟩,_⟩:=I.loc;rw[z,d]at j;cases j;rw[i]at n;cases n
def Inv.OF(I:Inv X wM σ H s):s.heap.FunFrames X.base X.outer:=by
 have all:∀(l:List Env),(∀b∈XI l,b∈X.fs)->X.s₀.heap.FunFrames X.base l->s.heap.FunFrames X.base l:=by
  intro l
  induction l with
  |nil=>intro _ _;trivial
  |cons q r B=>
   intro n M;obtain⟨hk,⟨L,o,j,y,F,N⟩,J⟩:=M;have d:=n L (by unfold XI;rw[qR,j];exact zk);obtain⟨O,e⟩:=I.base.slot L o F (I.ok.UP L d) d λz=>I.ok.YK L z d
   exact⟨hk,⟨L,_,j,y,e,N⟩,B (λb i=>n b (by unfold XI;rw[qR,j];exact zV _ i)) J⟩
 exact all X.outer (λ_ i=>i) I.ok.OF
def Inv.stack(I:Inv X wM σ H s):s.heap.FunFrames X.base X.stack:=by
 rcases I.ok.MU with e|⟨e,i⟩
 .rw[e];exact I.OF
 .rw[e];obtain⟨m,d,_⟩:=I.loc;exact .cons (by rw[I.ok.kind];decide) i d (Heap.get?_none_of_le (zG I.ok.KN I.ok.above)) I.OF
def Inv.Pu(I:Inv X wM σ H s):∀b∈XI X.stack,b∈X.env.locals::X.fs:=λb d=>by
 rcases I.ok.MU with e|⟨e,i⟩
 .rw[e]at d;exact zV _ d
 rw[e]at d;unfold XI at d;rw[qR,i]at d;exact d
def Inv.Yw(I:Inv X wM σ H s):∀b∈XI X.stack,H b=u8:=λb d=>by
 rcases z0.mp (I.Pu b d)with e|d
 .rw[e];exact I.free
 obtain⟨_,o,i,_⟩:=I.ok.OF.mem d;exact I.base.free b o i (I.ok.UP b d) λz=>I.ok.YK b z d
def Inv.step{g':Array GenState}{d':Drawn}{ch:List vX}(I:Inv X wM σ H s)
  (N:∀b∈ch,(b∈X.ex\/X.s₀.heap.objs.size<=b)/\b≠X.env.locals/\(∀x c,X.env.cells.lookup x=u7 c->c≠b)/\∀p∈X.pn++wM,p.1≠b)
  (F:∀b o,b≠X.env.locals->b∉X.fs->b∉ch->s.heap.get? b=u7 o->H b=u8->h'.get? b=u7 o)
  (L:∀b o,b≠X.env.locals->b∈X.fs->b∉ch->s.heap.get? b=u7 o->H b=u8->∃sl,h'.get? b=u7 {o with slots:=sl}) (free:∀b o,b∉ch->s.heap.get? b=u7 o->H b=u8->H' b=u8)
  (B:∀b o,b∉ch->s.heap.get? b=u7 o->∃o',h'.get? b=u7 o')
  (Y:∀b xs,H b=u7 (.tup xs)->H' b=u7 (.tup xs)) (W:∀b o u,H b=u7 (.XC o u)->H' b=u7 (.XC o u)) (U:∀b ps,H b=u7 (.QF ps)->∃more,H' b=u7 (.QF (ps++more)))
  (ns:∀m,s.heap.Ns X.env.locals m->h'.Ns X.env.locals m) (UA:YE X.prog X.w H' h') (hg:AllBare g'):
  Inv X wM σ H' {s with heap:=h',gens:=g',drawn:=d',toks:=t'}:=by
 have Nw:∀b o,X.s₀.heap.get? b=u7 o->b≠X.env.locals:=λb o e=>zN (zx (zA e) I.ok.above)
 have O:∀b o,X.s₀.heap.get? b=u7 o->b∉X.ex->b∉ch:=λb o e y Z=>by
  rcases(N b Z).1 with z|z
  .exact y z
  exact absurd (zx (zA e) z) (qA _)
 have M:∀x c,X.env.cells.lookup x=u7 c->∀v,s.heap.IsCell c v->h'.IsCell c v:=λx c e v ⟨o,ho,hd⟩=>by
  have J:c∉ch:=λz=>(N c z).2.2.1 x c e rfl
  by_cases hc:c∈X.fs
  .obtain⟨sl,q⟩:=L c o (I.ZQ x c e) hc J ho (I.Gj x c e);exact⟨_,q,hd⟩
  exact⟨o,F c o (I.ZQ x c e) hc J ho (I.Gj x c e),hd⟩
 refine⟨I.ok,I.os,hg,⟨λb o e n Z y=>(F b o (Nw b o e) Z (O b o e y) (I.base.keep b o e n Z y) (I.base.free b o e n y)),λb o e n Z y=>?_,λb o e n y=>?_,λb o e y=>?_,λb xs e=>Y b xs (I.base.NJ b xs e),λb o xs e=>W b o xs (I.base.YH b o xs e),λb ps e=>?_⟩,?_,λx c e=>?_,?_,λx c e=>?_,λp hp=>?_,UA,I.len⟩
 .obtain⟨sl,S⟩:=I.base.slot b o e n Z y;obtain⟨sl',e2⟩:=L b _ (Nw b o e) Z (O b o e y) S (I.base.free b o e n y);exact⟨sl',e2⟩
 .obtain⟨o',S⟩:=I.base.there b o e y;exact free b o' (O b o e y) S (I.base.free b o e n y)
 .obtain⟨o',S⟩:=I.base.there b o e y;exact B b o' (O b o e y) S
 .obtain⟨m1,S⟩:=I.base.ZH b ps e;obtain⟨m2,e2⟩:=U b _ S;exact⟨m1++m2,by rw[e2,Array.append_assoc]⟩
 .obtain⟨m,hn,hl⟩:=I.loc;refine⟨m,ns m hn,λi x v S e2 e3=>?_⟩;obtain⟨u,r,l⟩:=hl i x v S e2 e3;refine⟨u,r,?_⟩;rcases l with l|⟨k,c,e,z⟩
  .exact .inl l
  exact .inr ⟨k,c,e,M x c e _ z⟩
 .obtain⟨v,z⟩:=I.cell x c e;exact⟨v,M x c e v z⟩
 .obtain⟨m,⟨o,_,_,ho,_⟩,_⟩:=I.loc;exact free _ o (λz=>(N _ z).2.1 rfl) ho I.free
 .obtain⟨v,o,ho,hd⟩:=I.cell x c e;exact free c o (λz=>(N c z).2.2.1 x c e rfl) ho (I.Gj x c e)
 obtain⟨e,n,ne,nf,d⟩:=I.pin p hp;have J:p.1∉ch:=λz=>(N p.1 z).2.2.2 p hp rfl
 exact⟨F p.1 p.2 ne nf J e n,free p.1 p.2 J e n,ne,nf,d⟩
def Inv.un(I:Inv X wM σ H s)(u:Un X.fs [] H H' s.heap h')(UA:YE X.prog X.w H' h'):Inv X wM σ H' {s with heap:=h',toks:=t'}:=by
 obtain⟨m,⟨o,N,U,B,r⟩,_⟩:=id I.loc;obtain⟨O,J⟩:=u.any B I.free (by simp);exact I.step (ch:=[]) (nofun) (λb o _ y _ e n=>u.keep b o e n y (by simp)) (λb o _ y _ e n=>u.slot b o e n y (by simp)) (λb o _ e n=>u.free b o e n (by simp)) (λb o _ e=>u.there b o e (by simp)) u.NJ u.YH u.ZH (λS L=>by obtain⟨M,j,q,d,F⟩:=L;rw[B]at d;cases d;exact⟨_,j,q,J,F⟩) UA I.bare
def Inv.call{g':Array GenState}{d':Drawn}{ch:List vX}(I:Inv X wM σ H s)(u:Un (XI X.stack) ch H H' s.heap h')(UA:YE X.prog X.w H' h')(W:AllBare g')
  (q:∀b∈ch,(b∈X.ex\/X.s₀.heap.objs.size<=b)/\b≠X.env.locals/\(∀x c,X.env.cells.lookup x=u7 c->c≠b)/\∀p∈X.pn++wM,p.1≠b):
  Inv X wM σ H' {s with heap:=h',gens:=g',drawn:=d',toks:=t'}:=by
 obtain⟨m,⟨o,Z,Y,M,r⟩,_⟩:=id I.loc;obtain⟨sl,J⟩:=u.any M I.free λz=>(q _ z).2.1 rfl
 exact I.step q (λb o J O i e n=>u.keep b o e n (λz=>(z0.mp (I.Pu b z)).elim J O) i) (λb o _ _ i e n=>u.any e n i) (λb o i e n=>u.free b o e n i) (λb o i e=>u.there b o e i) u.NJ u.YH u.ZH (λm' U=>by obtain⟨o',y,B,j,S⟩:=U;rw[M]at j;cases j;exact⟨_,y,B,J,S⟩) UA W
def Inv.turned{it:vX}(I:Inv X wM σ H s)(k:∀b o,b≠it->s.heap.get? b=u7 o->h'.get? b=u7 o)(J:H it=u8)(y:it≠X.env.locals)
  (S:it∈X.ex\/X.s₀.heap.objs.size<=it) (L:∀x c,X.env.cells.lookup x=u7 c->c≠it) (F:∀p∈X.pn++wM,p.1≠it):Inv X wM σ H {s with heap:=h',toks:=t'}:=by
 have j:∀b u,H b=u7 u->b≠it:=λb u e z=>by rw[z,J]at e;cases e
 refine I.step (ch:=[it]) (λb M=>?_) (λb o _ _ i e _=>k b o (λz=>i (by simp[z])) e) (λb o _ _ i e _=>⟨o.slots,k b o (λz=>i (by simp[z])) e⟩) (λ_ _ _ _ n=>n)
  (λb o i e=>⟨o,k b o (λz=>i (by simp[z])) e⟩) (λ_ _ e=>e) (λ_ _ _ e=>e) (λb Y e=>⟨#[],by rw[e];simp⟩) (λm O=>?_) (λb u e=>?_) I.bare
 .have e:b=it:=by simpa using M
  subst e;exact⟨S,y,L,F⟩
 .obtain⟨o,N,W,U,r⟩:=O;exact⟨o,N,W,k _ o (Ne.symm y) U,r⟩
 refine(I.UA b u e).ZF (λc v i q=>k c v ?_ q) (λ_ q=>q) λ_ _ q=>q
 rcases i with z|z
 .rw[z];exact j b u e
 exact j c _ z
def Inv.tok(I:Inv X wM σ H s)(t:Nat):Inv X wM σ H {s with toks:=t}:=I.un Un.refl I.UA
def Inv.kept(I:Inv X wM σ H s)(k:∀b u,s.heap.get? b=u7 u->h'.get? b=u7 u):Inv X wM σ H {s with heap:=h',toks:=t'}:=I.un (Un.kept k) (I.UA.kept k)
def Inv.laid{a:vX}{o:HO}(I:Inv X wM σ H s)(k:∀b u,s.heap.get? b=u7 u->h'.get? b=u7 u)(hp:s.heap.objs.size<=a)(new:XB X.prog X.w (upd H a o) h' a o):
  Inv X wM σ (upd H a o) {s with heap:=h',toks:=t'}:=I.un (Un.laid k hp (I.UA.fresh hp)) (I.UA.laid k hp new)
def Inv.write(I:Inv X wM σ H s)(j:KU (H x))(n:e=x\/H e=u7 (.own x))(k:∀b u,b≠e->s.heap.get? b=u7 u->h'.get? b=u7 u)(d:∃u,h'.get? e=u7 u)
  (new:XB X.prog X.w (upd H x o) h' x o):Inv X wM σ (upd H x o) {s with heap:=h',toks:=t'}:=I.un (Un.write j n k d) (I.UA.write j n k d new)
def Inv.Gi(I:Inv X wM σ H s)(h:∀p∈pins',s.heap.get? p.1=u7 p.2/\H p.1=u8/\p.1≠X.env.locals/\p.1∉X.fs/\∀v,p.2.data≠ .cell v):Inv X pins' σ H s:=
 ⟨I.ok,I.os,I.bare,I.base,I.loc,I.cell,I.free,I.Gj,λp hp=>(qz.mp hp).elim (λz=>I.pin p (jz _ z)) (h p),I.UA,I.len⟩
def aC{N:List Str}(n:N.Nodup){i j:Nat}{x:Str}(a:N[i]?=u7 x)(b:N[j]?=u7 x):i=j:=by obtain⟨z,d⟩:=zZ.mp a;obtain⟨y,q⟩:=zZ.mp b;exact(List.getElem_inj n).mp (d.trans q.symm)
def aD{M:Model}{A:vV}{E:vk->vj->Prop}{i:Nat}{x:Str}{v:V}{u:vk}{Q:Unit->vj->Prop}(I:Inv X wM σ H s)(hN:X.N.Nodup)(hi:X.N[i]?=u7 x)(O:Loc X.env.scope x)(r:RelV v u)
  (h:∀s',Inv X wM (σ.set i (u7 v)) H s'->(∃a,jX a s.heap s'.heap/\(a=X.env.locals\/X.env.cells.lookup x=u7 a))->Q () s') (hf:X.fn x=u9\/X.env.scope.names.lookup x=u7 .local:=by first|exact .inl rfl|exact .inr rfl|assumption):wW M A (storeName X.env x u) Q E s:=by
 obtain⟨m,hn,hl⟩:=id I.loc;have OZ:(X.env.scope.kind == .class||(X.env.scope.kind == .module&&X.env.locals != X.env.globals))=uA:=by rw[I.ok.kind];rfl
 have W:i<lN σ:=by rw[I.len];exact(zZ.mp hi).1
 have ZQ:=I.ZQ;have J:∀{a:vX}{h':Heap},(∃o,s.heap.get? a=u7 o/\H a=u8)->jX a s.heap h'->YE X.prog X.w H h':=λ{a h'}ha B b ob e=>by
  obtain⟨_,_,S⟩:=ha;refine(I.UA b ob e).ZF (λc w' L q=>(B.2 c ?_).trans q) (λ_ q=>q) λ_ _ q=>q
  rintro rfl;rcases L with rfl|L
  .rw[S]at e;cases e
  rw[S]at L;cases L
 rcases O with hk|hk
 .refine wpAny_storeName_local hk hn (λh' hn' B=>?_) OZ;obtain⟨oL,_,_,hoL,_⟩:=id hn;refine h _ ⟨I.ok,I.os,I.bare,⟨λb o e n Y O=>?_,λb o e n Y O=>?_,I.base.free,λb o e O=>?_,I.base.NJ,I.base.YH,I.base.ZH⟩,⟨_,hn',λj y v' F U e3=>?_⟩,λy c e=>?_,I.free,I.Gj,λp hp=>?_,J ⟨oL,hoL,I.free⟩ B,by simpa using I.len⟩ ⟨_,B,.inl rfl⟩
  .exact(B.2 b (zN (zx (zA e) I.ok.above))).trans (I.base.keep b o e n Y O)
  .obtain⟨sl,F⟩:=I.base.slot b o e n Y O;exact⟨sl,(B.2 b (zN (zx (zA e) I.ok.above))).trans F⟩
  .obtain⟨o',F⟩:=I.base.there b o e O;exact⟨o',(B.2 b (zN (zx (zA e) I.ok.above))).trans F⟩
  .by_cases hj:j=i
   .subst hj;rw[hi]at F;cases F;rw[qZ W]at U;cases U;exact⟨u,r,.inl ⟨hk,by simp⟩⟩
   rw[zw (Ne.symm hj)]at U;obtain⟨u',r',q⟩:=hl j y v' F U e3;refine⟨u',r',?_⟩;rcases q with⟨k,e⟩|⟨k,c,e,z⟩
   .refine .inl ⟨k,?_⟩;have:y≠x:=λe=>hj (aC hN F (e▸hi))
    simp[this,e]
   exact .inr ⟨k,c,e,z.sameBut B (ZQ y c e)⟩
  .obtain⟨w',z⟩:=I.cell y c e;exact⟨w',z.sameBut B (ZQ y c e)⟩
  obtain⟨e,n,ne,nf,d⟩:=I.pin p hp;exact⟨(B.2 p.1 ne).trans e,n,ne,nf,d⟩
 have Z:X.fn x=u9:=by
  rcases hf with z|z
  .exact z
  rw[z]at hk;cases hk
 obtain⟨c,L⟩:=I.ok.has x (.inl hk);obtain⟨w',z⟩:=I.cell x c L;refine wpAny_storeName_cell I.ok.kind hk L z (λh' PZ B=>?_);obtain⟨oc,NU,QZ⟩:=id z;refine h {s with heap:=h'} ⟨I.ok,I.os,I.bare,⟨λb o e n Y O=>?_,λb o e n Y O=>?_,I.base.free,λb o e O=>?_,I.base.NJ,I.base.YH,I.base.ZH⟩,⟨m,hn.sameBut B (Ne.symm (ZQ x c L)),λj y v' F U e3=>?_⟩,λy c' e=>?_,I.free,I.Gj,λp hp=>?_,J ⟨oc,NU,I.Gj x c L⟩ B,by simpa using I.len⟩ ⟨c,B,.inr L⟩
 .exact(B.2 b (zN (zx (zA e) (I.ok.IT x c Z L)))).trans (I.base.keep b o e n Y O)
 .obtain⟨sl,F⟩:=I.base.slot b o e n Y O;exact⟨sl,(B.2 b (zN (zx (zA e) (I.ok.IT x c Z L)))).trans F⟩
 .obtain⟨o',F⟩:=I.base.there b o e O;exact⟨o',(B.2 b (zN (zx (zA e) (I.ok.IT x c Z L)))).trans F⟩
 .by_cases hj:j=i
  .subst hj;rw[hi]at F;cases F;rw[qZ W]at U;cases U;exact⟨u,r,.inr ⟨.inl hk,c,L,PZ⟩⟩
  .rw[zw (Ne.symm hj)]at U;obtain⟨u',r',q⟩:=hl j y v' F U e3;refine⟨u',r',?_⟩;rcases q with q|⟨k,c',e,z'⟩
   .exact .inl q
   .refine .inr ⟨k,c',e,z'.sameBut B ?_⟩;rintro rfl;exact hj (aC hN F (I.ok.inj _ _ _ e L▸hi))
 .by_cases hcc:c'=c
  .subst hcc;exact⟨_,PZ⟩
  .obtain⟨w2,z2⟩:=I.cell y c' e;exact⟨w2,z2.sameBut B hcc⟩
 .obtain⟨e,n,ne,nf,d⟩:=I.pin p hp;refine⟨(B.2 p.1 ?_).trans e,n,ne,nf,d⟩;intro q;rw[q,NU]at e;exact d w' (by rw[<-(Option.some.inj e)];exact QZ)
def aE(I:Inv X wM σ H s)(n:X.N.Nodup)(hi:X.N[i]?=u7 x)(q:Loc X.env.scope x)(r:RelV v u)
  (h:∀s',Inv X wM (σ.set i (u7 v)) H s'->Q () s') (d:X.fn x=u9\/X.env.scope.names.lookup x=u7 .local:=by first|exact .inl rfl|exact .inr rfl|assumption):wW M A (storeName X.env x u) Q E s:=
 aD I n hi q r (λs' j _=>h s' j) d
def Inv.OU(I:Inv X wM σ H s)(ho:s'.os=s.os)(u:Un (XI X.stack) ch H H' s.heap s'.heap)(UA:YE X.prog X.w H' s'.heap)(i:AllBare s'.gens)
  (d:∀b∈ch,(b∈X.ex\/X.s₀.heap.objs.size<=b)/\b≠X.env.locals/\(∀x c,X.env.cells.lookup x=u7 c->c≠b)/\∀p∈X.pn++wM,p.1≠b):Inv X wM σ H' s':=by
 obtain⟨j,z,q,y,n⟩:=s';have e:=ho;subst e;exact I.call u UA i d
end
noncomputable abbrev XK:=vk->Option vX->Hp->Prop
noncomputable abbrev St:=List (Option V)
noncomputable abbrev VK:=V->Hp->Prop
noncomputable abbrev TE:=St->Hp->VK->Prop
noncomputable abbrev TT:=St->Hp->(Bool->Hp->Prop)->Prop
noncomputable abbrev TA:=St->Hp->(List V->Hp->Prop)->Prop
structure Ends where
 nx:St->Hp->Prop
 rt:VK
 bk:St->Hp->Prop:=λ_ _=>False
 ct:St->Hp->Prop:=λ_ _=>False
noncomputable abbrev TS:=Ends->St->Hp->Prop
inductive EP (X:Cx) (wM:List (vX×Obj)) (σ:St) (Q:VK) (u:vk) (s':vj):Prop|mk (v:V) (H':Hp) (I:Inv X wM σ H' s') (r:RelV v u) (q:Q v H'):EP X wM σ Q u s'
inductive TP (X:Cx) (wM:List (vX×Obj)) (σ:St) (Q:Bool->Hp->Prop) (b:Bool) (s':vj):Prop|mk (H':Hp) (I:Inv X wM σ H' s') (q:Q b H'):TP X wM σ Q b s'
inductive AP (X:Cx) (wM:List (vX×Obj)) (σ:St) (Q:List V->Hp->Prop) (us:List vk) (s':vj):Prop|mk (vs:List V) (H':Hp) (I:Inv X wM σ H' s') (r:Vals vs us) (q:Q vs H'):AP X wM σ Q us s' inductive NP (X:Cx) (wM:List (vX×Obj)) (Q:St->Hp->Prop) (s':vj):Prop|mk (σ':St) (H':Hp) (I:Inv X wM σ' H' s') (q:Q σ' H'):NP X wM Q s' inductive RP (X:Cx) (wM:List (vX×Obj)) (Q:VK) (u:vk) (s':vj):Prop|mk (v:V) (σ':St) (H':Hp) (I:Inv X wM σ' H' s') (r:RelV v u) (q:Q v H'):RP X wM Q u s'
def SP(X:Cx)(wM:List (vX×Obj))(D:Ends)(f:Flow)(s':vj):Prop:=
 match f with
 |.next=>NP X wM D.nx s'
 |.brk=>NP X wM D.bk s'
 |.cont=>NP X wM D.ct s'
 |.ret u=>RP X wM D.rt u s'
def PE(X:Cx)(e:vW)(t:TE):Prop:=
 ∀(wM:List (vX×Obj))(s:vj)(σ:St)(H:Hp)(Q:VK),Inv X wM σ H s->t σ H Q->wW (vR X.prog X.w) X.A (eval e X.env) (EP X wM σ Q) X.xe s
def PT(X:Cx)(e:vW)(t:TT):Prop:=
 ∀(wM:List (vX×Obj))(s:vj)(σ:St)(H:Hp)(Q:Bool->Hp->Prop),Inv X wM σ H s->t σ H Q->wW (vR X.prog X.w) X.A (isTrue e X.env (eval e X.env)) (TP X wM σ Q) X.xe s
def PW(X:Cx)(e:vW)(t:TT):Prop:=
 ∀(whole:Sem vk)(wM:List (vX×Obj))(s:vj)(σ:St)(H:Hp)(Q:Bool->Hp->Prop),Inv X wM σ H s->t σ H Q->wW (vR X.prog X.w) X.A (isTrue e X.env whole) (TP X wM σ Q) X.xe s
def PW.pt(h:PW X e t):PT X e t:=h _
def PA(X:Cx)(es:List vW)(t:TA):Prop:=
 ∀(pos:Pos)(wM:List (vX×Obj))(s:vj)(σ:St)(H:Hp)(Q:List V->Hp->Prop),Inv X wM σ H s->t σ H Q->wW (vR X.prog X.w) X.A (spliced (vD pos (wQ es X.env))) (AP X wM σ Q) X.xe s
def PS(X:Cx)(st:vx)(t:TS):Prop:=
 ∀(wM:List (vX×Obj))(s:vj)(σ:St)(H:Hp)(D:Ends),Inv X wM σ H s->t D σ H->wW (vR X.prog X.w) X.A (exec st X.env) (SP X wM D) X.xe s
def SH(X:Cx)(st:List vx)(t:TS):Prop:=
 ∀(wM:List (vX×Obj))(s:vj)(σ:St)(H:Hp)(D:Ends),Inv X wM σ H s->t D σ H->wW (vR X.prog X.w) X.A (execs st X.env) (SP X wM D) X.xe s
def GB{i:Type}{t:Sem i}{Q d:i->vj->Prop}{M:Model}{A:vV}{E:vk->vj->Prop}(h:wW M A t Q E s)(j:∀a s,Q a s->d a s):wW M A t d E s:=ww h j λ_ _ x=>x
section
variable{X:Cx}
noncomputable def PU(i:Nat):TE:=λσ H Q=>∃v,σ[i]?=u7 (u7 v)/\Q v H
noncomputable def tC(v:V):TE:=λ_ H Q=>Q v H
def aF{i:Nat}{x:Str}{pos:Pos}(M:X.N[i]?=u7 x)(O:YS X.env.scope x)(q:(x==("__debug__":Str))=uA:=by decide)(y:(x==("__classdict__":Str))=uA:=by decide):PE X (.Name x pos) (PU i):=by
 intro n s L H Q I h;obtain⟨v,e,h⟩:=h;obtain⟨m,B,F⟩:=I.loc;obtain⟨u,r,l⟩:=F i x v M e O;have j:EP X n L Q u s:=⟨v,H,I,r,h⟩;rcases l with⟨hk,J⟩|⟨hk,c,z,d⟩
 .exact wpAny_Name (wpAny_loadName_local I.ok.kind hk B J j) q
 rcases hk with hk|hk
 .exact wpAny_Name (wpAny_loadName_cell I.ok.kind hk z d j) q
 exact wpAny_Name (wpAny_loadName_free I.ok.kind hk z d j y) q
def k6{i j pos}:PE X (.Constant (.int i) j pos) (tC (.int i)):=λ_ _ _ H _ I h=>wpAny_Constant_int ⟨.int i,H,I.tok _,⟨_,rfl⟩,h⟩
def k7{b j pos}:PE X (.Constant (.bool b) j pos) (tC (.bl b)):=λ_ _ _ H _ I h=>Constant_bool ⟨.bl b,H,I,rfl,h⟩
def k8{j pos}:PE X (.Constant .none j pos) (tC .LA):=λ_ _ _ H _ I h=>Constant_none ⟨.LA,H,I,rfl,h⟩
def k9{x j pos}:PE X (.Constant (.str x) j pos) (tC (.str x)):=λ_ _ _ H _ I h=>Calls.Constant_str ⟨.str x,H,I.tok _,⟨_,rfl⟩,h⟩
def Gl(X:Cx)(x:Str):Prop:=X.env.kindOf x=u7 .globalImplicit
def Vp{E:vk->vj->Prop}{j:St}{H:Hp}{x:Str}{u:vk}{pos:Pos}{Q:vk->vj->Prop}(I:Inv X wM j H s)(n:Gl X x)(d:X.mg x=u7 u)(h:Q u s)
  (i:(x==("__debug__":Str))=uA:=by decide):wW (vR X.prog X.w) X.A (eval (.Name x pos) X.env) Q E s:=
 Calls.Name_function_global I.ok.kind n (Calls.loadGlobal_global (I.ok.glob▸I.mod.glob.keeps I.bk) d h) i
def Ib{E:vk->vj->Prop}{q:St}{H:Hp}{x:Str}{u:vk}{pos:Pos}{Q:vk->vj->Prop}(I:Inv X wM q H s)(d:Gl X x)(n:X.mg x=u8)(B:vH x=u7 u)(h:Q u s)
  (i:x≠"__name__":=by decide) (z:(x==("__debug__":Str))=uA:=by decide):wW (vR X.prog X.w) X.A (eval (.Name x pos) X.env) Q E s:=by
 obtain⟨F,y,j⟩:=I.mod.blt;exact Calls.Name_function_global I.ok.kind d (Calls.loadGlobal_builtin (I.ok.glob▸I.mod.glob.keeps I.bk) n (I.ok.blt▸y.keeps I.bk) ((j x i).trans B) h) z
def ka(j:Gl X x)(d:X.mg x=u7 u)(r:RelV v u)(i:(x==("__debug__":Str))=uA:=by decide):PE X (.Name x pos) (tC v):=
 λ_ _ _ H _ I h=>Vp I j d ⟨v,H,I,r,h⟩ i
def kc{x:Str}{v:V}{u:vk}{pos:Pos}(n:Gl X x)(j:X.mg x=u8)(q:vH x=u7 u)(r:RelV v u)(i:x≠"__name__":=by decide)(d:(x==("__debug__":Str))=uA:=by decide):PE X (.Name x pos) (tC v):=
 λ_ _ _ H _ I h=>Ib I n j q ⟨v,H,I,r,h⟩ i d
variable{a b:vW}{ta tb:TE}{pos:Pos}
noncomputable def tB(t:TE):TT:=λσ H Q=>t σ H λx H1=>∃c,x=.bl c/\Q c H1
def ke{e:vW}{t:TE}(h:PE X e t)(z:∀i,isTrue e X.env i=(do let v<-i;standAt e.pos;holding [v] (truthy v)):=by intro _;rfl):PT X e (tB t):=by intro j s J H Q I hw;refine isTrue_plain (GB (h j s J H _ I hw) λv L ⟨x,y,B,n,F⟩=>?_) (z _);obtain⟨d,rfl,q⟩:=F;cases n;exact w9 ⟨y,B,q⟩
variable{tA NX:TT}{rest:List vW}
noncomputable def QU(t u:TT):TT:=λσ H Q=>t σ H λc H1=>if c=u9 then u σ H1 Q else Q uA H1
noncomputable def Pw(t u:TT):TT:=λσ H Q=>t σ H λc H1=>if c=u9 then Q u9 H1 else u σ H1 Q
noncomputable def RZ(t:TT):TT:=λσ H Q=>t σ H λc H1=>Q (!c) H1
theorem JO(j:PT X a tA):PW X (.BoolOp .And [a] pos) tA:=by
 intro q d s i H Q I h;refine isTrue_and (GB (j d s i H Q I h) λc n e=>?_);cases c with
 |true=>exact isTrue_and_nil e
 |false=>exact e
theorem GR(j:PT X a tA):PW X (.BoolOp .Or [a] pos) tA:=by
 intro q d s i H Q I h;refine isTrue_or (GB (j d s i H Q I h) λc n e=>?_);cases c with
 |false=>exact isTrue_or_nil e
 |true=>exact e
theorem HR(F:PT X a tA)(B:PW X (.BoolOp .And (b::rest) pos) NX):PW X (.BoolOp .And (a::b::rest) pos) (QU tA NX):=by
 intro z d s q H Q I h;refine isTrue_and (GB (F d s q H _ I h) λc y ⟨j,n,i⟩=>?_);cases c with
 |true=>exact B z d y q j Q n i
 |false=>exact⟨j,n,i⟩
theorem RU(F:PT X a tA)(B:PW X (.BoolOp .Or (b::rest) pos) NX):PW X (.BoolOp .Or (a::b::rest) pos) (Pw tA NX):=by
 intro z d s q H Q I h;refine isTrue_or (GB (F d s q H _ I h) λc y ⟨j,n,i⟩=>?_);cases c with
 |true=>exact⟨j,n,i⟩
 |false=>exact B z d y q j Q n i
def kf(i:PT X a tA):PT X (.UnaryOp .Not a pos) (RZ tA):=by intro d s j H Q I h;exact isTrue_not (GB (i d s j H (λc n=>Q (!c) n) I h) λ_ _ ⟨a,b,c⟩=>⟨a,b,c⟩)
noncomputable def kh(ta tb:TE):TE:=λσ H Q=>ta σ H λx H1=>∃c,x=.bl c/\if c=u9 then tb σ H1 Q else Q (.bl uA) H1
noncomputable def ki(ta:TE):TE:=λσ H Q=>ta σ H λx H1=>∃c,x=.bl c/\Q (.bl (!c)) H1
def kj{op}(h:PE X a t):PE X (.BoolOp op [a] pos) t:=λd s i H Q I hw=>BoolOp_one (h d s i H Q I hw)
theorem km(J:PE X a ta)(F:PE X (.BoolOp .And (b::rest) pos) tb):PE X (.BoolOp .And (a::b::rest) pos) (kh ta tb):=by
 intro d s q H Q I h;refine BoolOp_and (GB (J d s q H _ I h) λv z y=>?_);obtain⟨x,j,n,B,i⟩:=y;obtain⟨c,rfl,i⟩:=i;cases B;refine w9 ?_;cases c with
 |true=>exact F d z q j Q n i
 |false=>exact⟨.bl uA,j,n,rfl,i⟩
def kn(B:PE X a ta):PE X (.UnaryOp .Not a pos) (ki ta):=by intro d s z H Q I h;refine UnaryOp_ (GB (B d s z H _ I h) λv F j=>?_);obtain⟨x,q,y,n,i⟩:=j;obtain⟨c,rfl,i⟩:=i;cases n;exact not_of (w9 ⟨.bl (!c),q,y,rfl,i⟩)
noncomputable def tIf(t:TT)(ta tb:TE):TE:=λσ H Q=>t σ H λc H1=>if c=u9 then ta σ H1 Q else tb σ H1 Q
theorem ko{c:vW}(J:PT X c tA)(L:PE X a ta)(F:PE X b tb):PE X (.IfExp c a b pos) (tIf tA ta tb):=by
 intro i s j H Q I h;refine wpAny_IfExp (GB (J i s j H _ I h) λd n B=>?_);obtain⟨y,z,q⟩:=B;cases d with
 |true=>exact L i n j y Q z q
 |false=>exact F i n j y Q z q
end
def ME(K:za)(H:Hp)(a:vX)(xs:List V):Prop:=
 Rd H a (.lst xs)\/
  ∃(o:Obj)(OA:Array vk)(n:Nat),K.lookup a=u7 o/\o.cls=.type "list"/\o.dict=u8/\o.data=.seq OA n/\OA.size<=sizeLine/\Vals xs OA.toList
def UE(K:za)(H:Hp)(a:vX)(xs:List V):Prop:=
 Rd H a (.tup xs)\/
  ∃(o:Obj)(OA:Array vk)(n:Nat),K.lookup a=u7 o/\o.cls=.type "tuple"/\o.data=.seq OA n/\OA.size<=sizeLine/\Vals xs OA.toList
noncomputable def SZ:vk->Option V
 |.none=>u7 .LA
 |.bool b=>u7 (.bl b)
 |.int i _=>u7 (.int i)
 |.str x _=>u7 (.str x)
 |.bytes b _=>u7 (.byt b)
 |.float b _=>u7 (.flt b)
 |.ref a=>u7 (.ref a)
 |.type n=>u7 (.ty n)
 |_=>u8
theorem RelV.abs(r:RelV x u):SZ u=u7 x:=by
 cases x with
 |LA|bl _=>cases r;rfl
 |ref _|ty _=>cases r;rfl
 |_=>obtain⟨t,rfl⟩:=r;rfl
def RelV.inj(r:RelV x u)(q:RelV y u):x=y:=Option.some.inj (r.abs.symm.trans q.abs)
theorem Vals.inj:∀{xs ys:List V}{us:List vk},Vals xs us->Vals ys us->xs=ys
 |_,_,_,.nil,.nil=>rfl
 |_,_,_,.cons r t,.cons d i=>by rw[r.inj d,Vals.inj t i]
section
variable{X:Cx}{wM:List (vX×Obj)}{σ:St}{H:Hp}{s:vj}{a:vX}{xs ys:List V}
def ME.of{K:za}(h:H a=u7 (.lst xs)):ME K H a xs:=.inl (.inl h)
def UE.of{K:za}(h:H a=u7 (.tup xs)):UE K H a xs:=.inl (.inl h)
def Inv.list(I:Inv X wM σ H s)(h:ME X.K H a xs):∃OA:List vk,Vals xs OA/\PlainL s.heap a OA.toArray/\xs.length<=sizeLine:=by
 rcases h with h|⟨o,OA,n,hk,d,i,j,q,r⟩
 .obtain⟨z,OA,n,r,e⟩:=h.ok I.UA;exact⟨OA,r,⟨_,n,e,rfl,rfl,rfl⟩,z⟩
 refine⟨OA.toList,r,⟨o,n,I.SG a o hk,d,i,by simpa using j⟩,?_⟩;have e:=r.length;simp[qS]at e;lia
def Inv.tuple(I:Inv X wM σ H s)(h:UE X.K H a xs):∃OA:List vk,Vals xs OA/\IsTup s.heap a OA.toArray/\xs.length<=sizeLine:=by
 rcases h with h|⟨o,OA,n,hk,d,i,j,r⟩
 .obtain⟨z,OA,r,p⟩:=h.ok I.UA;exact⟨OA,r,p,z⟩
 refine⟨OA.toList,r,⟨o,I.SG a o hk,d,n,by simpa using i⟩,?_⟩;have e:=r.length;simp[qS]at e;lia
def Inv.X7(I:Inv X wM σ H s)(h:ME X.K H a xs)(h':ME X.K H a ys):xs=ys:=by
 obtain⟨j,r,⟨o,n,e,_,_,d⟩,_⟩:=I.list h;obtain⟨i,z,⟨F,J,q,_,_,y⟩,_⟩:=I.list h';rw[e]at q;cases q;rw[d]at y;injection y with B _
 have:j=i:=by simpa using congrArg Array.toList B
 subst this;exact r.inj z
def Inv.Ye(I:Inv X wM σ H s)(h:UE X.K H a xs)(h':UE X.K H a ys):xs=ys:=by
 obtain⟨j,r,⟨o,e,_,n,d⟩,_⟩:=I.tuple h;obtain⟨i,z,⟨F,q,_,J,y⟩,_⟩:=I.tuple h';rw[e]at q;cases q;rw[d]at y;injection y with B _
 have:j=i:=by simpa using congrArg Array.toList B
 subst this;exact r.inj z
end
noncomputable abbrev Cx.UG(X:Cx)(E:vk->vj->Prop):Cx:={X with xe:=E}
noncomputable abbrev Cx.JR(X:Cx):Cx:=X.UG λ_ _=>False
def Cx.Ok.UG{X:Cx}(ok:X.Ok)(E:vk->vj->Prop):(X.UG E).Ok:=
 ⟨ok.mod,ok.kind,ok.glob,ok.blt,ok.above,ok.inj,ok.has,ok.IT,ok.hd,ok.frames,ok.MU,ok.MZ,ok.bs,ok.KN,ok.WK,ok.YK,ok.OF,ok.UP⟩
def Cx.Ok.PF{X:Cx}{E:vk->vj->Prop}(ok:(X.UG E).Ok):X.Ok:=
 ⟨ok.mod,ok.kind,ok.glob,ok.blt,ok.above,ok.inj,ok.has,ok.IT,ok.hd,ok.frames,ok.MU,ok.MZ,ok.bs,ok.KN,ok.WK,ok.YK,ok.OF,ok.UP⟩
section
variable{X:Cx}{wM:List (vX×Obj)}{σ:St}{H:Hp}{s:vj}{E:vk->vj->Prop}
def Inv.UG(I:Inv X wM σ H s)(E:vk->vj->Prop):Inv (X.UG E) wM σ H s:=⟨I.ok.UG E,I.os,I.bare,I.base,I.loc,I.cell,I.free,I.Gj,I.pin,I.UA,I.len⟩
def Inv.PF(I:Inv (X.UG E) wM σ H s):Inv X wM σ H s:=⟨I.ok.PF,I.os,I.bare,I.base,I.loc,I.cell,I.free,I.Gj,I.pin,I.UA,I.len⟩
theorem SP.PF(h:SP (X.UG E) wM D f s'):SP X wM D f s':=by
 cases f with
 |ret u=>obtain⟨v,d,i,I,r,q⟩:=h;exact⟨v,d,i,I.PF,r,q⟩
 |_=>obtain⟨d,i,I,q⟩:=h;exact⟨d,i,I.PF,q⟩
def SH.JR{st:List vx}{t:TS}(h:SH X.JR st t):SH X st t:=λd s i H D I hw=>
 ww (h d s i H D (I.UG _) hw) (λ_ _ q=>q.PF) λ_ _ z=>False.elim z
end
section
variable{X:Cx}{st:vx}{rest:List vx}{t u:TS}{e:vW}{te:TE}{pos:Pos}
noncomputable def kq:TS:=λD σ H=>D.nx σ H
noncomputable def TZ(t u:TS):TS:=λD σ H=>t {D with nx:=u D} σ H
def kr:SH X [] kq:=λ_ _ d H _ I h=>wpAny_execs_nil ⟨d,H,I,h⟩
theorem kt(F:PS X st t)(y:SH X rest u):SH X (st::rest) (TZ t u):=by
 intro d s B H D I h;refine wpAny_execs_cons (GB (F d s B H {D with nx:=u D} I h) λf j q=>?_);cases f with
 |next=>
  obtain⟨i,n,z,q⟩:=q;exact y d j i n D z q
 |_=>exact q
theorem ku(j:PS X st t):SH X [st] t:=by
 intro d s i H D I h;refine wpAny_execs_cons (GB (j d s i H D I h) λf n q=>?_);cases f with
 |next=>exact wpAny_execs_nil q
 |_=>exact q
def Inv.quiet{d:St}{H:Hp}(I:Inv X wM d H s):interactive X.env=uA:=by simp[interactive,I.ok.kind]
noncomputable def ky(te:TE):TS:=λD σ H=>te σ H λ_ H1=>D.nx σ H1
def lC(y:PE X e te)(z:swapsWith e u8 pos.line X.env=pure uA:=by rfl):PS X (.Expr e pos) (ky te):=by intro d s i H D I h;exact wpAny_Expr_any (GB (y d s i H _ I h) λv B ⟨x,n,q,F,j⟩=>⟨i,n,q,j⟩) I.quiet z
noncomputable def UZ(te:TE):TS:=λD σ H=>te σ H D.rt
def lD(z:PE X e te):PS X (.Return (u7 e) pos) (UZ te):=by intro d s i H D I h;exact wpAny_Return_some (GB (z d s i H _ I h) λv B ⟨x,q,y,j,n⟩=>⟨x,i,q,y,j,n⟩)
noncomputable def VZ(c:TT)(t u:TS):TS:=λD σ H=>c σ H λb H1=>if b=u9 then t D σ H1 else u D σ H1
theorem lH{c:vW}{a b:List vx}{q:TT}(L:PT X c q)(M:SH X a t)(J:SH X b u):PS X (.If c a b pos) (VZ q t u):=by
 intro i s j H D I h;refine wpAny_If (GB (L i s j H _ I h) λd n F=>?_);obtain⟨y,z,B⟩:=F;cases d with
 |true=>exact M i n j y D z B
 |false=>exact J i n j y D z B
end
noncomputable abbrev TG:=V->St->Hp->(St->Hp->Prop)->Prop
noncomputable abbrev VP:=List V->St->Hp->(St->Hp->Prop)->Prop
def PG(X:Cx)(target:vW)(t:TG):Prop:=
 ∀(wM:List (vX×Obj))(s:vj)(σ:St)(H:Hp)(v:V)(u:vk)(Q:St->Hp->Prop),Inv X wM σ H s->RelV v u->t v σ H Q->
  wW (vR X.prog X.w) X.A (assign target X.env u) (λ_=>NP X wM Q) X.xe s
def ZP(X:Cx)(ts:List vW)(t:VP):Prop:=
 ∀(wM:List (vX×Obj))(s:vj)(σ:St)(H:Hp)(vs:List V)(us:List vk)(Q:St->Hp->Prop),Inv X wM σ H s->Vals vs us->t vs σ H Q->
  wW (vR X.prog X.w) X.A (assignInOrder ((vB ts X.env).map (·.2)) us) (λ_=>NP X wM Q) X.xe s
noncomputable abbrev KR:=V->V->V->Hp->(Hp->Prop)->Prop
def MR(X:Cx)(t:KR):Prop:=
 ∀(wM:List (vX×Obj))(s:vj)(σ:St)(H:Hp)(o i v:V)(ov iv u:vk)(Q:Hp->Prop),Inv X wM σ H s->RelV o ov->RelV i iv->RelV v u->t o i v H Q->
  wW (vR X.prog X.w) X.A (setItem ov iv u) (λ_ s'=>∃H',Inv X wM σ H' s'/\Q H') X.xe s
noncomputable abbrev Tx:=V->V->Hp->VK->Prop
def Iy(X:Cx)(op:Operator)(t:Tx):Prop:=
 ∀(wM:List (vX×Obj))(s:vj)(σ:St)(H:Hp)(x y:V)(v u:vk)(Q:VK),Inv X wM σ H s->RelV x v->RelV y u->t x y H Q->
  wW (vR X.prog X.w) X.A (inplaceOp op v u) (EP X wM σ Q) X.xe s
section
variable{X:Cx}{pos:Pos}
noncomputable def aG(i:Nat):TG:=λv σ H Q=>Q (σ.set i (u7 v)) H
def lJ(q:X.N.Nodup)(hi:X.N[i]?=u7 x)(j:Loc X.env.scope x)(y:X.fn x=u9\/X.env.scope.names.lookup x=u7 .local:=by first|exact .inl rfl|exact .inr rfl|assumption):PG X (.Name x pos) (aG i):=by intro d s z H v u Q I r h;exact wpAny_assign_Name (aE I q hi j r (λB n=>⟨_,H,n,h⟩) y)
noncomputable def WZ:VP:=λvs σ H Q=>vs=[]/\Q σ H
noncomputable def lK(t:TG)(u:VP):VP:=λvs σ H Q=>∃v r,vs=v::r/\t v σ H λσ' H'=>u r σ' H' Q
def lL:ZP X [] WZ:=by intro d s i H j n Q I r h;obtain⟨e,h⟩:=h;subst e;cases r;exact assignInOrder_nil ⟨i,H,I,h⟩
theorem lM{e:vW}{es:List vW}{t:TG}{u:VP}(L:PG X e t)(n:ZP X es u)
  (M:(vB (e::es) X.env).map (·.2)=assign e X.env::(vB es X.env).map (·.2):=by rfl):ZP X (e::es) (lK t u):=by
 intro d s J H O S Q I r h;obtain⟨v,N,B,h⟩:=h;subst B;cases r with
 |cons r F=>
  rw[M];exact assignInOrder_cons (GB (L d s J H _ _ _ I r h) λ_ j ⟨i,q,z,y⟩=>(n d j i q _ _ Q z F y))
noncomputable def XZ(K:za)(n:Nat)(t:VP):TG:=λv σ H Q=>∃a xs,v=.ref a/\UE K H a xs/\lN xs=n/\t xs σ H Q
def lO{es:List vW}{k:Nat}{t:VP}{n:Nat}(J:X.calm=u9)(h:ZP X es t)
  (y:(vB es X.env).length=n:=by rfl) (i:(vB es X.env).findIdx? (·.1)=u8:=by rfl):PG X (.Tuple es k pos) (XZ X.K n t):=by
 intro d s L H v u Q I r hw;obtain⟨a,M,F,N,B,hw⟩:=hw;subst F;cases r;obtain⟨z,rv,j,S⟩:=I.tuple N;exact assign_Tuple_tuple (I.ok.hd J) j (by simp[y,<-B,rv.length]) i λO q=>(h d _ L H M _ Q (I.kept (t':=s.toks) λb o e=>q b o (zN (zA e)) e) (by simpa using rv) hw)
noncomputable def YZ(to ti:TE)(t:KR):TG:=λv σ H Q=>to σ H λo H1=>ti σ H1 λi H2=>t o i v H2 λH3=>Q σ H3
def aH{o i:vW}{q ti:TE}{t:KR}(ho:PE X o q)(hi:PE X i ti)(hs:MR X t)
  (Y:∀v,assign (.Subscript o i pos) X.env v=(do
   let ov<-holding [v] (eval o X.env);let iv<-holding [v,ov] (eval i X.env)
   standAt pos
   holding [v,ov,iv] (setItem ov iv v)
   release [v,ov,iv] []):=by intro _;rfl):PG X (.Subscript o i pos) (YZ q ti t):=by
 intro d s j H v u Q I r h;rw[Y];refine wq (wv (GB (ho d s j H _ I h) λov Z n=>?_));obtain⟨x,z,B,J,q1⟩:=n;refine wq (wv (GB (hi d Z j z _ B q1) λiv S n=>?_));obtain⟨y,N,W,M,O⟩:=n;exact wq (wpAny_standAt (wq (wv (GB (hs d S j N x y v ov iv u _ W J M r O) λ_ s3 ⟨L,F,U⟩=>(wpAny_release ⟨j,L,F,U⟩)))))
noncomputable def Z8(te:TE)(g:TG):TS:=λD σ H=>te σ H λx H1=>g x σ H1 D.nx
def lP{e:vW}{te:TE}{g:TG}(B:PE X e te)(N:PG X tg g)(L:swapsWithSole [tg] e pos.line X.env=pure uA:=by rfl)(hw:swappedStores [tg] e X.env=pure u8:=by rfl)
  (M:(vB [tg] X.env).map (·.2)=[assign tg X.env]:=by rfl):PS X (.Assign [tg] e pos) (Z8 te g):=by
 intro d s i H D I h;refine wpAny_Assign_stores (GB (B d s i H _ I h) λv n j=>?_) L hw;obtain⟨x,z,F,y,J⟩:=j;rw[M];exact GB (N d n i z x v _ F y J) λ_ O q=>q
def lQ{i:Nat}{x:Str}{e:vW}{te:TE}{d:Pos}(S:X.N.Nodup)(hi:X.N[i]?=u7 x)(q:Loc X.env.scope x)(J:PE X e te)(M:swapsWith e (u7 (.Name x d)) pos.line X.env=pure uA:=by rfl)(U:X.fn x=u9\/X.env.scope.names.lookup x=u7 .local:=by first|exact .inl rfl|exact .inr rfl|assumption):
  PS X (.Assign [.Name x d] e pos) (Z8 te (aG i)):=by
 intro j s O H D I h;exact wpAny_Assign_Name (GB (J j s O H _ I h) λv W ⟨y,B,F,n,L⟩=>(aE F S hi q n (λY z=>⟨_,B,z,L⟩) U)) M
noncomputable def Oy(f:Int->Int->Int):Tx:=λx y H Q=>∃i j,x=.int i/\y=.int j/\Q (.int (f i j)) H
def lR:Iy X .Add (Oy λi j=>i+j):=by intro d s J H x y v u Q I n B h;obtain⟨i,j,z,F,q⟩:=h;subst z;subst F;obtain⟨t,rfl⟩:=n;obtain⟨L,rfl⟩:=B;exact iadd_int ⟨.int _,H,I.tok _,⟨_,rfl⟩,q⟩
def lT:Iy X .Sub (Oy λi j=>i-j):=by intro d s J H x y v u Q I n B h;obtain⟨i,j,z,F,q⟩:=h;subst z;subst F;obtain⟨t,rfl⟩:=n;obtain⟨L,rfl⟩:=B;exact isub_int ⟨.int _,H,I.tok _,⟨_,rfl⟩,q⟩
end
section
variable{X:Cx}{pos:Pos}
def lU(c:TT)(tb:TS):TS:=λD σ H=>∃W:Nat->St->Hp->Prop,(∃m,W m σ H)/\∀m σ H,W m σ H->
 c σ H λb H1=>if b=u9 then∃N:St->Hp->Prop,(∀σ' H',N σ' H'->∃m',m'<m/\W m' σ' H')/\tb {D with nx:=N,ct:=N,bk:=D.nx} σ H1 else D.nx σ H1
theorem lV{c:vW}{body:List vx}{tc:TT}{tb:TS}(hp:PassesOwn (vR X.prog X.w) X.A X.env X.xe)(hc:PT X c tc)(hb:SH X body tb):PS X (.While c body [] pos) (lU tc tb):=by
 intro wM s σ H D I h;obtain⟨W,⟨m0,w0⟩,turn⟩:=h;refine wpAny_While (codeAny_whileLoop (λn s'=>∃σ' H',Inv X wM σ' H' s'/\W n σ' H') ?_ m0 ⟨σ,H,I,w0⟩);rintro n s1 ⟨σ1,H1,I1,w1⟩;refine w5 hp (GB (hc wM s1 σ1 H1 _ I1 (turn n σ1 H1 w1)) λb s2 zz=>?_);obtain⟨H2,I2,q2⟩:=zz;cases b with
 | true=>
  obtain⟨N,hN,q2⟩:=q2;rw[if_pos rfl];refine w5 hp (GB (hb wM s2 σ1 H2 _ I2 q2) λf s3 q3=>?_);cases f with
  |next|cont=>
   obtain⟨σ3,H3,I3,n3⟩:=q3;obtain⟨m',hm,w3⟩:=hN σ3 H3 n3;exact⟨m',hm,σ3,H3,I3,w3⟩
  |_=>exact q3
 |false=>
  rw[if_neg zH];exact wpAny_execs_nil ⟨σ1,H2,I2,q2⟩
end
structure It where
 go:Nat->Hp->Prop
 TU:Nat->Hp->V->Hp->Prop
 stop:Nat->Hp->Prop
def QD(X:Cx)(wM:List (vX×Obj))(H:Hp)(b:vX):Prop:=
 H b=u8/\b≠X.env.locals/\b∉X.fs/\(b∈X.ex\/X.s₀.heap.objs.size<=b)/\(∀x c,X.env.cells.lookup x=u7 c->c≠b)/\∀p∈X.pn++wM,p.1≠b
def Inv.Gu{X:Cx}{j:St}{H H':Hp}{b:vX}(I:Inv X wM j H s)(d:s.heap.objs.size<=b)(i:H' b=u8):QD X wM H' b:=by
 refine⟨i,jx (zx I.lt d),I.VL d,.inr (zG I.sz d),λx c e z=>?_,λp hp z=>(absurd (zx (zA (I.pin p hp).1) (by rw[z];exact d)) (qA _))⟩
 .obtain⟨v,q⟩:=I.cell x c e;exact absurd (zx q.lt (z▸d)) (qA _)
structure Turn (P:vq) (w:vA) (K:za) (tg:vW) (J:It) (fp:List vX) (it:vX) (tn:Nat->Heap->Prop):Prop where
 mem:it∈fp
 obj:∀i h,tn i h->∀b∈fp,∃o,h.get? b=u7 o/\∀v,o.data≠ .cell v
 keep:∀i h h',tn i h->(∀b∈fp,∀o,h.get? b=u7 o->h'.get? b=u7 o)->tn i h'
 item:∀(X:Cx),X.prog=P->X.w=w->X.K=K->X.calm=u9->∀(i:Nat)(wM:List (vX×Obj))(s:vj)(σ:St)(H:Hp)(E:vk->vj->Prop),Inv X wM σ H s->(∀b∈fp,QD X wM H b)->tn i s.heap->J.go i H->
  wW (vR P w) X.A (pyNext (.ref it)) (λr s1=>∃u,r=u7 u/\
   wW (vR P w) X.A (vO tg (.ref it) u) (λ_ s2=>∃x H',Inv X wM σ H' s2/\RelV x u/\J.TU i H x H'/\tn (i+1) s2.heap/\∀b∈fp,H' b=u8) E s1) E s
 done:∀(X:Cx),X.prog=P->X.w=w->X.K=K->X.calm=u9->∀(i:Nat)(wM:List (vX×Obj))(s:vj)(σ:St)(H:Hp)(E:vk->vj->Prop),Inv X wM σ H s->(∀b∈fp,QD X wM H b)->tn i s.heap->J.stop i H->
  wW (vR P w) X.A (pyNext (.ref it)) (λr s1=>r=u8/\Inv X wM σ H s1) E s
 self:∀(A:vV)(i:Nat)(s:vj)(Q:vk->vj->Prop)(E:vk->vj->Prop),tn i s.heap->Q (.ref it) s->wW (vR P w) A (pyIter (.ref it)) Q E s
noncomputable abbrev TI:=St->Hp->(It->Hp->Prop)->Prop
def ZZ(X:Cx)(wM:List (vX×Obj))(σ:St)(tg:vW)(R:It->Hp->Prop)(G0:vk)(s2:vj):Prop:=
 ∃(it:vX)(fp:List vX)(tn:Nat->Heap->Prop)(J:It)(H':Hp),G0=.ref it/\Inv X wM σ H' s2/\Turn X.prog X.w X.K tg J fp it tn/\tn 0 s2.heap/\(∀b∈fp,QD X wM H' b)/\R J H'
def PI(X:Cx)(tg iter:vW)(wi:TI):Prop:=
 ∀(wM:List (vX×Obj))(s:vj)(σ:St)(H:Hp)(R:It->Hp->Prop),Inv X wM σ H s->wi σ H R->
  wW (vR X.prog X.w) X.A (eval iter X.env) (λv s1=>wW (vR X.prog X.w) X.A (pyIter v) (ZZ X wM σ tg R) X.xe s1) X.xe s
def Kz(ho:s.heap.get? it=u7 o)(hc:o.cls=.type n)(hd:o.data=.fields vs)
  (hn: ["enumerate","zip","dict_itemiterator","dict_reverseitemiterator","odict_iterator","itertools.zip_longest","itertools.pairwise"].contains n=uA) (hQ:Q () s):wW M A (vO tg (.ref it) u) Q E s:=by
 unfold vO
 cases tg<;>first
  |exact w6 hQ
  | (cases u<;>first
    |exact w6 hQ
    | (
      refine wq (wpAny_load ho ?_);rw[hc,hd];show wW M A (if(["enumerate","zip","dict_itemiterator","dict_reverseitemiterator","odict_iterator","itertools.zip_longest","itertools.pairwise"].contains n&&vs[0]?==u7 (vS _))=u9 then _ else _) Q E s;rw[if_neg (by intro h;rw[hn,Bool.false_and]at h;cases h)];exact w6 hQ))
noncomputable def Sz(K:za)(a:vX):It:=
 ⟨λi H=>∃xs x,ME K H a xs/\xs[i]?=u7 x,λi H x H'=>H'=H/\∀xs,ME K H a xs->xs[i]?=u7 x,λi H=>∃xs,ME K H a xs/\lN xs<=i⟩
noncomputable def j'(K:za)(a:vX):It:=
 ⟨λi H=>∃xs x,UE K H a xs/\xs[i]?=u7 x,λi H x H'=>H'=H/\∀xs,UE K H a xs->xs[i]?=u7 x,λi H=>∃xs,UE K H a xs/\lN xs<=i⟩
noncomputable def OX(lo:Int)(n:Nat):It:=⟨λi _=>i<n,λi H x H'=>H'=H/\x=.int (lo+i),λi _=>n<=i⟩
def lW{w:vA}{K:za}(a it:vX):Turn P w K tg (Sz K a) [it] it (λi h=>h.IsListIter it a i) where
 mem:=by simp
 obj:=λi h j b n=>by
  have e:b=it:=by simpa using n
  subst e;obtain⟨o,e,c,d⟩:=j;exact⟨o,e,λv z=>by rw[d]at z;cases z⟩
 keep:=λi h h' j k=>j.at λo e=>k it (by simp) o e
 item:=by
  intro X hP hw U hc i q s σ H E I F j Z;subst hP hw U;obtain⟨xs,x,B,L⟩:=Z;obtain⟨S,rv,p,hz⟩:=I.list B;obtain⟨u,hu,ru⟩:=rv.get L;obtain⟨O,J,f2,Y,M,N⟩:=F it (by simp);refine wpAny_pyNext_list_item j p.isList (by simpa using hu) λh' y sb=>?_
  obtain⟨o,e,c,d⟩:=id y;exact⟨u,rfl,Kz e c d (by decide) ⟨x,H,I.turned (t':=s.toks) (λb o n e=>(sb.2 b n).trans e) O J Y M N,ru,⟨rfl,λys hy=>(I.X7 hy B)▸L⟩,y,λb n=>(F b n).1⟩⟩
 done:=by intro X hP hw U hc i q s σ H E I F j Z;subst hP hw U;obtain⟨xs,B,L⟩:=Z;obtain⟨S,rv,p,hz⟩:=I.list B;obtain⟨O,J,f2,Y,M,N⟩:=F it (by simp);have hl:=rv.length;exact wpAny_pyNext_list_end (I.ok.hd hc) j p.isList (by simp;lia) λh' eb=>⟨rfl,I.turned (λb o n e=>eb b o n e) O J Y M N⟩
 self:=λ_ _ _ _ _ j h=>wpAny_pyIter_listiter j h
def lY{w:vA}{K:za}(a it:vX):Turn P w K tg (j' K a) [it] it (λi h=>h.IsTupleIter it a i) where
 mem:=by simp
 obj:=λi h j b n=>by
  have e:b=it:=by simpa using n
  subst e;obtain⟨o,e,c,d⟩:=j;exact⟨o,e,λv z=>by rw[d]at z;cases z⟩
 keep:=λi h h' j k=>j.at λo e=>k it (by simp) o e
 item:=by
  intro X hP hw U hc i q s σ H E I F j Z;subst hP hw U;obtain⟨xs,x,B,L⟩:=Z;obtain⟨S,rv,p,hz⟩:=I.tuple B;obtain⟨u,hu,ru⟩:=rv.get L;obtain⟨O,J,f2,Y,M,N⟩:=F it (by simp);refine wpAny_pyNext_tuple_item j (p) (by simpa using hu) λh' y sb=>?_
  obtain⟨o,e,c,d⟩:=id y;exact⟨u,rfl,Kz e c d (by decide) ⟨x,H,I.turned (t':=s.toks) (λb o n e=>(sb.2 b n).trans e) O J Y M N,ru,⟨rfl,λys hy=>(I.Ye hy B)▸L⟩,y,λb n=>(F b n).1⟩⟩
 done:=by intro X hP hw U hc i q s σ H E I F j Z;subst hP hw U;obtain⟨xs,B,L⟩:=Z;obtain⟨S,rv,p,hz⟩:=I.tuple B;obtain⟨O,J,f2,Y,M,N⟩:=F it (by simp);have hl:=rv.length;exact wpAny_pyNext_tuple_end (I.ok.hd hc) j (p) (by simp;lia) λh' eb=>⟨rfl,I.turned (λb o n e=>eb b o n e) O J Y M N⟩
 self:=λ_ _ _ _ _ j h=>wpAny_pyIter_tupleiter j h
def lZ{w:vA}{K:za}(it:vX)(lo:Int)(n:Nat):Turn P w K tg (OX lo n) [it] it (λi h=>IsRangeIter h it (lo+(i:Nat)*1) ((n:Int)-(i:Nat)) 1) where
 mem:=by simp
 obj:=λi h d b j=>by
  have e:b=it:=by simpa using j
  subst e;exact⟨_,d,λv z=>by have z':=z;cases z'⟩
 keep:=λi h Z d k=>k it (by simp) _ d
 item:=by
  intro X Y hw N S i q s σ H E I B d U;subst Y hw N;obtain⟨M,F,f2,O,J,L⟩:=B it (by simp);refine(Walks.range (prog:=X.prog) (w:=X.w) (I.ok.hd S) it lo 1 n).item i s _ _ U d λv Z tk hv y kk=>?_
  obtain⟨t,rfl⟩:=hv;refine⟨_,rfl,Kz y rfl rfl (by decide) ⟨.int (lo+i),H,I.turned (λb o j e=>kk b o (by simpa using j) e) M F O J L,⟨t,?_⟩,⟨rfl,rfl⟩,y,λb j=>(B b j).1⟩⟩;rw[Int.mul_one]
 done:=by intro X Y hw N S i q s σ H E I B d U;subst Y hw N;obtain⟨M,F,f2,O,J,L⟩:=B it (by simp);exact wpAny_pyNext_range_end (I.ok.hd S) d (by have:n<=i:=U;lia) λZ eb=>⟨rfl,I.turned (λb o j e=>eb b o j e) M F O J L⟩
 self:=λ_ _ _ _ _ d h=>wpAny_pyIter_rangeiter d h
section
variable{X:Cx}{tg:vW}
def l5(K:za)(tl:TE):TI:=λσ H R=>tl σ H λx H1=>∃a,x=.ref a/\(∃xs,ME K H1 a xs)/\R (Sz K a) H1
def K0(K:za)(tl:TE):TI:=λσ H R=>tl σ H λx H1=>∃a,x=.ref a/\(∃xs,UE K H1 a xs)/\R (j' K a) H1
def V4{l:vW}{n:TE}(M:PE X l n):PI X tg l (l5 X.K n):=by
 intro d s N H R I h;refine GB (M d s N H _ I h) λv j y=>?_
 obtain⟨x,F,i,z,L⟩:=y;obtain⟨a,e,⟨U,O⟩,q⟩:=L;subst e;cases z;obtain⟨B,rv,p,S⟩:=i.list O;refine wpAny_pyIter_list p.isList ?_;refine⟨j.heap.objs.size,[j.heap.objs.size],_,_,F,rfl,i.kept λb o e=>zX _ e,lW a _,⟨_,z3 _ rfl,rfl,rfl⟩,λb J=>?_,q⟩;have e:b=j.heap.objs.size:=by simpa using J
 subst e;exact i.Gu (zv _) (i.UA.fresh (zv _))
def l6{l:vW}{n:TE}(M:PE X l n):PI X tg l (K0 X.K n):=by
 intro d s N H R I h;refine GB (M d s N H _ I h) λv j y=>?_
 obtain⟨x,F,i,z,L⟩:=y;obtain⟨a,e,⟨U,O⟩,q⟩:=L;subst e;cases z;obtain⟨B,rv,p,S⟩:=i.tuple O;refine wpAny_pyIter_tuple (p) ?_;refine⟨j.heap.objs.size,[j.heap.objs.size],_,_,F,rfl,i.kept λb o e=>zX _ e,lY a _,⟨_,z3 _ rfl,rfl,rfl⟩,λb J=>?_,q⟩;have e:b=j.heap.objs.size:=by simpa using J
 subst e;exact i.Gu (zv _) (i.UA.fresh (zv _))
def l7{z:St}{H:Hp}{R:It->Hp->Prop}{E:vk->vj->Prop}{lo hi:Int}{t u v:Tok}{tk:Nat}(I:Inv X wM z H s)(M: -(2^62)<=lo)(F:lo<2^62)(B: -(2^62)<=hi)(N:hi<2^62)
  (q:R (OX lo (hi-lo).toNat) H):wW (vR X.prog X.w) X.A (pyIter (.ref s.heap.objs.size)) (ZZ X wM z tg R) E {s with heap:=s.heap.push {cls:=.type "range",data:=.fields #[.int lo t,.int hi u,.int 1 v]},toks:=tk}:=by
 refine wpAny_pyIter_range (IsRange.new ..) (small_one M F B N) ?_;have y:Inv X wM z H {s with heap:=s.heap.push {cls:=.type "range",data:=.fields #[.int lo t,.int hi u,.int 1 v]},toks:=tk}:=I.kept λb o e=>zX _ e
 refine⟨(s.heap.push {cls:=.type "range",data:=.fields #[.int lo t,.int hi u,.int 1 v]}).objs.size,[(s.heap.push {cls:=.type "range",data:=.fields #[.int lo t,.int hi u,.int 1 v]}).objs.size],_,_,H,rfl,
  y.kept λb o e=>zX _ e,lZ _ lo (hi-lo).toNat,?_,λb J=>?_,q⟩
 .have L:lo+((0:Nat):Int)*1=lo:=by simp
  have O:(((hi-lo).toNat:Nat):Int)-((0:Nat):Int)=Builtin.Range.rangeSize lo hi 1:=by rw[rangeSize_one];split <;> lia
  rw[L,O];exact z3 _ rfl
 have e:b=(s.heap.push {cls:=.type "range",data:=.fields #[.int lo t,.int hi u,.int 1 v]}).objs.size:=by simpa using J
 subst e;exact y.Gu (zv _) (y.UA.fresh (zv _))
def l8(ta:TA):TI:=λσ H R=>ta σ H λvs H1=>∃j:Int,vs=[.int j]/\ -(2^62)<=j/\j<2^62/\R (OX 0 j.toNat) H1
theorem l9{a:vW}{ta:TA}{p pos:Pos}(z:Gl X "range")(F:X.mg "range"=u8)(N:PA X [a] ta)(M:wQ [a] X.env=[(uA,eval a X.env)]:=by rfl):PI X tg (.Call (.Name "range" p) [a] [] pos) (l8 ta):=by
 intro d s L H R I h;refine Call_ (Ib I z F boot_range (qb (GB (N pos d s L H _ I h) λY S n=>?_) M rfl));obtain⟨W,U,B,y,i⟩:=n;obtain⟨j,e,i,O,q⟩:=i;subst e;cases y with
 |cons r J=>
  cases J;obtain⟨t,rfl⟩:=r;exact call_range_1 (l7 B (by lia) (by lia) i O (by simpa using q))
def UU(wi:TI)(g:TG)(tb:TS):TS:=λD σ H=>wi σ H λJ H1=>∃W:Nat->Nat->St->Hp->Prop,(∃m,W 0 m σ H1)/\∀i m σ H,W i m σ H->
 (J.stop i H/\D.nx σ H)\/(J.go i H/\∃N:St->Hp->Prop,(∀σ' H',N σ' H'->∃m',m'<m/\W (i+1) m' σ' H')/\∀x H',J.TU i H x H'->g x σ H' λσ2 H2=>tb {D with nx:=N,ct:=N,bk:=D.nx} σ2 H2)
noncomputable def Ln(fp:List vX)(h:Heap):List (vX×Obj):=fp.filterMap λb=>(h.get? b).map λo=>(b,o)
def Tg(d:b∈fp)(e:h.get? b=u7 o):(b,o)∈Ln fp h:=List.mem_filterMap.mpr ⟨b,d,by rw[e];rfl⟩
theorem aJ(hp:p∈Ln fp h):p.1∈fp/\h.get? p.1=u7 p.2:=by
 obtain⟨b,i,e⟩:=List.mem_filterMap.mp hp;cases q:h.get? b with
 |none=>rw[q]at e;cases e
 |some o=>
  rw[q]at e;have d:=Option.some.inj e;subst d;exact⟨i,q⟩
def Inv.pinned{n:St}{H:Hp}{fp:List vX}(I:Inv X wM n H s)(F:∀b∈fp,QD X wM H b)(ho:∀b∈fp,∃o,s.heap.get? b=u7 o/\∀v,o.data≠ .cell v):Inv X (wM++Ln fp s.heap) n H s:=
 I.Gi λp hp=>(qz.mp hp).elim (λz=>I.pin p (zE _ z)) λz=>by obtain⟨i,e⟩:=aJ z;obtain⟨B,q,y,_⟩:=F p.1 i;obtain⟨o,j,d⟩:=ho p.1 i;rw[e]at j;cases j;exact⟨e,B,q,y,d⟩
def Inv.GG{pl:List (vX×Obj)}{d:St}{H:Hp}(I:Inv X (wM++pl) d H s):Inv X wM d H s:=I.Gi λp hp=>I.pin p (zE _ (jz _ hp))
theorem lg(hp:PassesOwn (vR X.prog X.w) X.A X.env X.xe)(hc:X.calm=u9)(hi:PI X tg iter wi)(hg:PG X tg g)(z:SH X body tb)
  (hs:∀x,foldedSetIterable iter X.env x=pure x:=by intro _;rfl):PS X (.For tg iter body [] pos) (UU wi g tb):=by
 intro j s σ H D I h;refine wpAny_For (GB (hi j s σ H _ I h) λv s1 h1=>GB h1 λG0 s2 h2=>?_) hs;obtain⟨it,fp,tn,J,H2,e,I2,T,st2,f2,W,⟨m0,w0⟩,turn⟩:=h2;subst e;have F:∀{L:Hp},(∀b∈fp,L b=u8)->∀b∈fp,QD X j L b:=λhn b z=>⟨hn b z,(f2 b z).2⟩
 refine codeAny_forLoop_any (λn s'=>∃i y L,Inv X j y L s'/\tn i s'.heap/\(∀b∈fp,L b=u8)/\W i n y L) ?_ m0 ⟨0,σ,H2,I2,st2,λb z=>(f2 b z).1,w0⟩;rintro n s3 ⟨i,B,H3,I3,Z,fr3,w3⟩;rcases turn i n B H3 w3 with⟨stop,qn⟩|⟨go,N,hN,step⟩
 .refine w5 hp (GB (T.done X rfl rfl rfl hc i j s3 B H3 X.xe I3 (F fr3) Z stop) λr s4 ⟨hr,I4⟩=>?_);subst hr;exact wpAny_execs_nil ⟨B,H3,I4,qn⟩
 refine w5 hp (GB (T.item X rfl rfl rfl hc i j s3 B H3 X.xe I3 (F fr3) Z go) λr s4 zz=>?_);obtain⟨u,hr,h4⟩:=zz;subst hr;refine w5 hp (GB h4 λ_ s5 zz=>?_);obtain⟨x,H5,I5,r5,y5,Y,fr5⟩:=zz;refine w5 hp (GB (hg _ s5 B H5 x u _ (I5.pinned (F fr5) (T.obj _ _ Y)) r5 (step x H5 y5)) λ_ s6 ⟨σ6,H6,I6,q6⟩=>?_);refine w5 hp (GB (z _ s6 σ6 H6 _ I6 q6) λf s7 U=>?_)
 have S:∀{q:St}{M:Hp},Inv X (j++Ln fp s5.heap) q M s7->N q M->∃m,m<n/\∃i y L,Inv X j y L s7/\tn i s7.heap/\(∀b∈fp,L b=u8)/\W i m y L:=λ{q M}O n7=>by obtain⟨m',hm,w7⟩:=hN q M n7;refine⟨m',hm,i+1,q,M,O.GG,T.keep _ _ _ Y λb z o e=>(O.pin (b,o) (zE _ (zE _ (Tg z e)))).1,λb z=>?_,w7⟩;obtain⟨o,e,d⟩:=T.obj _ _ Y b z;exact(O.pin (b,o) (zE _ (zE _ (Tg z e)))).2.1
 cases f with
 |brk=>obtain⟨q,M,O,U⟩:=U;exact⟨q,M,O.GG,U⟩
 |ret v=>obtain⟨x7,q,M,O,r7,U⟩:=U;exact⟨x7,q,M,O.GG,r7,U⟩
 |_=>obtain⟨q,M,O,n7⟩:=U;exact S O n7
end
noncomputable abbrev R2:=V->V->Hp->VK->Prop
def GC(X:Cx)(f:vk->vk->Sem vk)(r:R2):Prop:=
 ∀(wM:List (vX×Obj))(s:vj)(σ:St)(H:Hp)(x y:V)(v u:vk)(Q:VK),Inv X wM σ H s->RelV x v->RelV y u->r x y H Q->
  wW (vR X.prog X.w) X.A (f v u) (EP X wM σ Q) X.xe s
def JT(X:Cx)(f:vk->Sem vk)(r:V->Hp->VK->Prop):Prop:=
 ∀(wM:List (vX×Obj))(s:vj)(σ:St)(H:Hp)(x:V)(v:vk)(Q:VK),Inv X wM σ H s->RelV x v->r x H Q->
  wW (vR X.prog X.w) X.A (f v) (EP X wM σ Q) X.xe s
def LB(X:Cx)(f:vk)(r:List V->Hp->VK->Prop):Prop:=
 ∀(wM:List (vX×Obj))(s:vj)(σ:St)(H:Hp)(xs:List V)(us:List vk)(Q:VK),Inv X wM σ H s->Vals xs us->r xs H Q->
  wW (vR X.prog X.w) X.A (call f us) (EP X wM σ Q) X.xe s
noncomputable def VU(r:R2)(ta tb:TE):TE:=λσ H Q=>ta σ H λx H1=>tb σ H1 λy H2=>r x y H2 Q
noncomputable def tUn(r:V->Hp->VK->Prop)(ta:TE):TE:=λσ H Q=>ta σ H λx H1=>r x H1 Q
noncomputable def rI(C:Int->Int->Prop)(g:Int->Int->V):R2:=λx y H Q=>∃i j,x=.int i/\y=.int j/\C i j/\Q (g i j) H
noncomputable def GQ(g:Int->Int->V):R2:=λx y H Q=>∃i j,x=.int i/\y=.int j/\Q (g i j) H
def rU(g:Int->V):V->Hp->VK->Prop:=λx H Q=>∃i,x=.int i/\Q (g i) H
section
variable{X:Cx}{a b c:vW}{ta tb tc:TE}{pos:Pos}
def Vs(O:PE X a ta)(J:PE X b tb){d:St}{H:Hp}{R:V->V->Hp->Prop}(I:Inv X wM d H s)
  (h:ta d H λx q=>tb d q λy i=>R x y i) {Q:vk->vj->Prop} {f:vk->vk->Sem vk}
  (U:∀v u s2 x y i,Inv X wM d i s2->RelV x v->RelV y u->R x y i->wW (vR X.prog X.w) X.A (f v u) Q X.xe s2):
  wW (vR X.prog X.w) X.A (eval a X.env) (λv j=>wW (vR X.prog X.w) X.A (eval b X.env) (λu n=>wW (vR X.prog X.w) X.A (f v u) Q X.xe n) X.xe j) X.xe s:=by
 refine GB (O wM s d H _ I h) λv z ⟨x,q,L,B,F⟩=>?_
 exact GB (J wM z d q _ L F) λu s2 ⟨y,i,M,N,S⟩=>(U v u s2 x y i M B N S)
def lh{op:Operator}{r:R2}(ho:GC X (vG op) r)(B:PE X a ta)(n:PE X b tb):PE X (.BinOp a op b pos) (VU r ta tb):=by intro d s z H Q I h;exact wpAny_BinOp (Vs B n I h λv u L x y F j i J q=>ho d L z F x y v u Q j i J q)
def li(ho:JT X (unaryOp op) r)(B:PE X a ta):PE X (.UnaryOp op a pos) (tUn r ta):=by intro d s i H Q I h;exact UnaryOp_ (GB (B d s i H _ I h) λv j ⟨x,y,z,n,q⟩=>ho d j i y x v Q z n q)
def PX{f:vk->vk->Sem vk}{C:Int->Int->Prop}{g:Int->Int->Int}
  (n:∀(i j:Int)(t u:Tok)(s:vj)(Q:vk->vj->Prop)(E:vk->vj->Prop),C i j->Q (.int (g i j) s.toks) {s with toks:=s.toks+1}->wW (vR X.prog X.w) X.A (f (.int i t) (.int j u)) Q E s):
  GC X f (rI C λi j=>.int (g i j)):=by
 intro z s M H x y v u Q I B L h;obtain⟨i,j,rfl,rfl,F,q⟩:=h;obtain⟨t,rfl⟩:=B;obtain⟨J,rfl⟩:=L;exact n i j t J s _ _ F ⟨.int (g i j),H,I.tok _,⟨_,rfl⟩,q⟩
def WU{f:vk->vk->Sem vk}{g:Int->Int->Int}
  (n:∀(i j:Int)(t u:Tok)(s:vj)(Q:vk->vj->Prop)(E:vk->vj->Prop),Q (.int (g i j) s.toks) {s with toks:=s.toks+1}->wW (vR X.prog X.w) X.A (f (.int i t) (.int j u)) Q E s):
  GC X f (GQ λi j=>.int (g i j)):=by
 intro z s L H x y v u Q I B J h;obtain⟨i,j,rfl,rfl,q⟩:=h;obtain⟨t,rfl⟩:=B;obtain⟨F,rfl⟩:=J;exact n i j t F s _ _ ⟨.int (g i j),H,I.tok _,⟨_,rfl⟩,q⟩
def Ug{f:vk->vk->Sem vk}{g:Int->Int->Bool}
  (d:∀(i j:Int)(t u:Tok)(s:vj)(Q:vk->vj->Prop)(E:vk->vj->Prop),Q (.bool (g i j)) s->wW (vR X.prog X.w) X.A (f (.int i t) (.int j u)) Q E s):
  GC X f (GQ λi j=>.bl (g i j)):=by
 intro n s J H x y v u Q I z F h;obtain⟨i,j,rfl,rfl,q⟩:=h;obtain⟨t,rfl⟩:=z;obtain⟨B,rfl⟩:=F;exact d i j t B s _ _ ⟨.bl (g i j),H,I,rfl,q⟩
def KO(i j:Int):Prop:=0<=j/\j<=1000000/\i.natAbs<2^64
def WL(i j:Int):Prop:=(-(2^64)<i/\i<2^64)\/(-(2^64)<j/\j<2^64)
def WL.ok(h:WL i j):IntMulOk i j:=by
 rcases h with⟨n,d⟩|⟨n,d⟩
 .exact .of_left (intBits_le_64 n d)
 exact .of_right (intBits_le_64 n d)
def lj:GC X (vG .Add) (GQ λi j=>.int (i+j)):=WU λ_ _ _ _ _ _ _ q=>add_int q
def lm:GC X (vG .Sub) (GQ λi j=>.int (i-j)):=WU λ_ _ _ _ _ _ _ q=>sub_int q
def lu:GC X (vG .Mod) (rI (λ_ j=>0<j) λi j=>.int (i%j)):=PX λi j _ _ _ _ _ d q=>by exact mod_int' (by lia) (by rw[Int.fmod_eq_emod_of_nonneg i (by lia)];exact q)
def lz:GC X (vG .Pow) (rI KO λi j=>.int (i^j.toNat)):=PX λ_ _ _ _ _ _ _ d q=>pow_int_small d.1 d.2.1 d.2.2 q
def unI{f:vk->Sem vk}{g:Int->Int}
  (j:∀(i:Int)(t:Tok)(s:vj)(Q:vk->vj->Prop)(E:vk->vj->Prop),Q (.int (g i) s.toks) {s with toks:=s.toks+1}->wW (vR X.prog X.w) X.A (f (.int i t)) Q E s):
  JT X f (rU λi=>.int (g i)):=by
 intro n s z H x v Q I y h;obtain⟨i,rfl,q⟩:=h;obtain⟨t,rfl⟩:=y;exact j i t s _ _ ⟨.int (g i),H,I.tok _,⟨_,rfl⟩,q⟩
def mB:JT X (unaryOp .USub) (rU λi=>.int (-i)):=unI λ_ _ _ _ _ q=>neg_int q
end
section
variable{X:Cx}{a b c:vW}{ta tb tc:TE}{pos:Pos}
def Up{i:St}{H:Hp}{Q:VK}{k d:Bool}(I:Inv X wM i H s)(q:Q (.bl k) H)(e:k=d):EP X wM i Q (.bool d) s:=by subst e;exact⟨.bl k,H,I,rfl,q⟩
def mC:GC X (vL .Lt) (GQ λi j=>.bl (decide (i<j))):=Ug λ_ _ _ _ _ _ _ q=>lt_int q
def mE:GC X (vL .LtE) (GQ λi j=>.bl (decide (i<=j))):=Ug λ_ _ _ _ _ _ _ q=>le_int q
def mF:GC X (vL .Gt) (GQ λi j=>.bl (decide (j<i))):=Ug λ_ _ _ _ _ _ _ q=>gt_int q
def mG:GC X (vL .GtE) (GQ λi j=>.bl (decide (j<=i))):=Ug λ_ _ _ _ _ _ _ q=>ge_int q
def mH:GC X (vL .Lt) (λx y H Q=>∃i j,x=.str i/\y=.str j/\Q (.bl (decide (i.cps.toList<j.cps.toList))) H):=by intro d s B H x y v u Q I n z h;obtain⟨i,j,rfl,rfl,q⟩:=h;obtain⟨t,rfl⟩:=n;obtain⟨F,rfl⟩:=z;exact lt_str (Up I q rfl)
def mI:GC X (vL .Is) (λx y H Q=>y=.LA/\Q (.bl (decide (x=.LA))) H):=by
 intro i s n H x y v u Q I d j h;obtain⟨rfl,q⟩:=h;cases j;refine is_none_gen (Up I q ?_)
 cases x<;>first
  |(cases d;rfl)
  |(obtain⟨t,rfl⟩:=d;rfl)
def mJ:GC X (vL .IsNot) (λx y H Q=>y=.LA/\Q (.bl (!decide (x=.LA))) H):=by
 intro i s n H x y v u Q I d j h;obtain⟨rfl,q⟩:=h;cases j;refine isnot_none_gen (Up I q ?_)
 cases x<;>first
  |(cases d;rfl)
  |(obtain⟨t,rfl⟩:=d;rfl)
def mL:GC X (vL .NotIn) (λx y H Q=>∃i j,x=.str i/\y=.str j/\Q (.bl (!(!(ji j i 0 j.length 1).isEmpty))) H):=by intro d s B H x y v u Q I n z h;obtain⟨i,j,rfl,rfl,q⟩:=h;obtain⟨t,rfl⟩:=n;obtain⟨F,rfl⟩:=z;exact notIn_str (Up I q rfl)
def GC.or(h:GC X f r)(h':GC X f r'):GC X f (λx y H Q=>r x y H Q\/r' x y H Q):=by
 intro d s n H x y v u Q I j i q;rcases q with q|q
 .exact h d s n H x y v u Q I j i q
 exact h' d s n H x y v u Q I j i q
def YL(b:vW)(h:op≠ .In:=by decide)(i:op≠ .NotIn:=by decide):vF op b=uA:=by
 have d:(op==CmpOp.In)=uA:=by cases op<;>first|rfl|exact absurd rfl h
 have j:(op==CmpOp.NotIn)=uA:=by cases op<;>first|rfl|exact absurd rfl i
 cases b<;>simp[vF,d,j]
def mM{op:CmpOp}{r:R2}(ho:GC X (vL op) r)(F:PE X a ta)(n:PE X b tb)(z:vF op b=uA):PE X (.Compare a [op] [b] pos) (VU r ta tb):=by intro d s B H Q I h;exact wpAny_Compare1 (Vs F n I h λv u M x y J j i L q=>ho d M B J x y v u Q j i L q) z
noncomputable def Oi(t:TE):TT:=λσ H Q=>t σ H λx H'=>∃k,x=.bl k/\Q k H'
def mN(ho:GC X (vL op) r)(Z:PE X a ta)(n:PE X b tb)(Y:vF op b=uA):PT X (.Compare a [op] [b] pos) (Oi (VU r ta tb)):=by
 intro d s i H Q I h;refine wpAny_isTrue_Compare1 (GB (Z d s i H _ I h) λv s1 ⟨x,j,q,F,q1⟩=>GB (n d s1 i j _ q q1) λu S ⟨y,N,W,M,O⟩=>
  GB (ho d S i N x y v u _ W F M O) λc s3 zz=>?_) Y
 obtain⟨z,J,B,L,k,e,U⟩:=zz;subst e;cases L;exact w9 ⟨J,B,U⟩
noncomputable def aK(r r':R2)(ta tb tc:TE):TE:=λσ H Q=>ta σ H λx H1=>tb σ H1 λy H2=>r x y H2 λz H3=>∃k,z=.bl k/\
 (if k=u9 then tc σ H3 λw' H4=>r' y w' H4 Q else Q (.bl uA) H3)
theorem mO(ho:GC X (vL op) r)(n:GC X (vL op') r')(ha:PE X a ta)(N:PE X b tb)(hc:PE X c tc)
  (hm:lastMarks [op,op'] [b,c]=uA:=by with_unfolding_all rfl):PT X (.Compare a [op,op'] [b,c] pos) (Oi (aK r r' ta tb tc)):=by
 intro i s j H Q I h;refine isTrue_chain (GB (ha i s j H _ I h) λv s1 ⟨x,M,O,Y,q1⟩=>test_link (GB (N i s1 j M _ O q1) λu s2 ⟨y,H2,I2,F,q2⟩=>
  GB (ho i s2 j H2 x y v u _ I2 Y F q2) λd s3 zz=>?_)) hm
 obtain⟨z,B,q,r3,k,e,J⟩:=zz;subst e;cases r3;refine w9 ?_;cases k with
 |false=>
  obtain⟨k',e',q'⟩:=J;cases e';exact ite_ff ⟨B,q,q'⟩
 |true=>
  refine ite_tt (test_last (GB (hc i s3 j B _ q J) λw' s4 ⟨z',H4,I4,r4,S⟩=>GB (n i s4 j H4 y z' u w' _ I4 F r4 S) λd' s5 ⟨z2,W,U,Z,k2,e2,L⟩=>?_));subst e2;cases Z;exact w9 ⟨W,U,L⟩
def VE:(sizeLine:Nat)<2^63:=by rw[vT];decide
def mP:GC X (vG .Add) (λx y H Q=>∃i j,x=.str i/\y=.str j/\i.length+j.length<=sizeLine/\Q (.str (i++j)) H):=by intro d s L H x y v u Q I z F h;obtain⟨i,j,rfl,rfl,n,q⟩:=h;obtain⟨t,rfl⟩:=z;obtain⟨B,rfl⟩:=F;exact add_str (λB J=>⟨.str (i++j),H,I.tok _,⟨_,rfl⟩,q⟩) n
def mQ:GC X (inplaceOp .Add) (λx y H Q=>∃i j,x=.str i/\y=.str j/\i.length+j.length<=sizeLine/\Q (.str (i++j)) H):=by intro d s L H x y v u Q I z F h;obtain⟨i,j,rfl,rfl,n,q⟩:=h;obtain⟨t,rfl⟩:=z;obtain⟨B,rfl⟩:=F;exact iadd_str (λB J=>⟨.str (i++j),H,I.tok _,⟨_,rfl⟩,q⟩) n
theorem vals1(r:Vals [x] us):∃u,us=[u]/\RelV x u:=by
 cases r with
 |cons d i=>cases i;exact⟨_,rfl,d⟩
theorem vals2(r:Vals [x,y] us):∃u d,us=[u,d]/\RelV x u/\RelV y d:=by
 cases r with
 |cons i q=>
  cases q with
  |cons n j=>cases j;exact⟨_,_,rfl,i,n⟩
def mR(y:X.calm=u9):LB X (.builtin "max") (λxs H Q=>∃i j,xs=[.int i,.int j]/\Q (.int (if j>i then j else i)) H):=by
 intro n s F H xs M Q I r h;obtain⟨i,j,rfl,q⟩:=h;obtain⟨u,J,rfl,⟨t,rfl⟩,⟨L,rfl⟩⟩:=vals2 r;refine max_two_ints (I.ok.hd y) λz B k=>⟨_,H,I.kept k,?_,q⟩
 by_cases d:j>i
 .rw[if_pos d,if_pos d];exact⟨_,rfl⟩
 rw[if_neg d,if_neg d];exact⟨_,rfl⟩
def mS(y:X.calm=u9):LB X (.builtin "min") (λxs H Q=>∃i j,xs=[.int i,.int j]/\Q (.int (if j<i then j else i)) H):=by
 intro n s F H xs M Q I r h;obtain⟨i,j,rfl,q⟩:=h;obtain⟨u,J,rfl,⟨t,rfl⟩,⟨L,rfl⟩⟩:=vals2 r;refine min_two_ints (I.ok.hd y) λz B k=>⟨_,H,I.kept k,?_,q⟩
 by_cases d:j<i
 .rw[if_pos d,if_pos d];exact⟨_,rfl⟩
 rw[if_neg d,if_neg d];exact⟨_,rfl⟩
end
structure OJ (h:Heap) (x dx C:vX) (mA:Str->Option vk):Prop where
 obj:h.get? x=u7 (zf C dx)
 ns:h.Ns1 dx mA
 ne:dx≠x
def mT{h:Heap}{i:vX}{B:Str->Option vk}(n:h.Ns1 i B):∃od,h.get? i=u7 od/\∀name,ja name od=u7 (B name):=by
 obtain⟨o,j,N,M,I,hk,_,J⟩:=n;refine⟨o,M,λname=>?_⟩;have e:=J name;unfold nsFind findBy at e;rw[<-Array.find?_toList]at e;unfold ja;rw[I];dsimp only;split
 .rename_i y q;rw[q]at e;exact congrArg u7 e
 rename_i q;rw[q]at e
 have a:j.toList.any (·.refKey)=uA:=by rw[List.any_eq_false];intro y F;obtain⟨z,t,d⟩:=hk y (Array.mem_toList_iff.mp F);simp[DictEntry.refKey,d]
 have L:¬j.toList.any (·.refKey)=u9:=a▸zH
 rw[if_neg L];exact congrArg u7 e
def OJ.look(I:OJ h x dx C mA):∃od,PySem.W.InstAt h x (zf C dx) C (u7 od)/\∀name,ja name od=u7 (mA name):=
 let⟨od,d,i⟩:=mT I.ns
 ⟨od,⟨I.obj,rfl,rfl,d⟩,i⟩
section
variable{prog:vq}{w:vA}{A:vV}{E:vk->vj->Prop}{s:vj}{K:za}{x dx C f:vX}{mA:Str->Option vk}{name:Str}{v:vk}
def mU(X:K.In s.heap)(I:OJ s.heap x dx C mA)(y:jb K C name=u9)(j:xa K C=u9)
  (q:zd K (.ref C) name=u7 u8) (z:mA name=u7 v) (i:wS v=u9) (h:Q v {s with toks:=s.toks+1}):
  wW (vR prog w) A (getAttr (.ref x) name expr) Q E s:=by
 obtain⟨B,J,n⟩:=I.look;exact PySem.W.get_value X J (xf y).1 (PySem.W.findObj_own j q rfl (by rw[n,z])) i h
def mV(X:K.In s.heap)(I:OJ s.heap x dx C mA)(d:jb K C name=u9)
  (y:zd K (.ref C) name=u7 (u7 (.ref f))) (i:xg K (.ref f)=u9) (q:mA name=u8) (h:Q (.ref f,[.ref x]) s):
  wW (vR prog w) A (getMethod (.ref x) name pl) Q E s:=by
 obtain⟨n,J,j⟩:=I.look
 exact PySem.W.method_fn X J (xf d).1 (xf d).2 y (beq_iff_eq.mp i) (by show(ja name n).map (·.isSome)=u7 uA;rw[j,q];rfl) h
def mW(X:K.In s.heap)(I:OJ s.heap x dx C mA)
  (U:zd K (.ref C) "__setattr__"=u7 (u7 (.builtin "object.__setattr__"))) (hp:wa K C=u9) (L:xh K C name=u7 u8) (S:xa K C=u9)
  (hw:jh mA ns) (hsz:lN ns<=sizeLine)
  (h:∀h',OJ h' x dx C (λy=>if y=name then u7 v else mA y)->jX dx s.heap h'->Q () {s with heap:=h',toks:=s.toks+2}):
  wW (vR prog w) A (setAttr (.ref x) name v) Q E s:=by
 obtain⟨od,J,Y⟩:=I.look;refine PySem.W.set_plain X J U (PySem.W.osa_open X J hp L λb=>?_);obtain⟨Z,O,F⟩:=PySem.W.any_some S;refine wq (w6 (wq (wq (wpAny_loadPart I.obj (wq (PySem.W.Looks.here (PySem.W.looks_clsIn X O) ?_))))));rw[F];refine w6 (wq (w6 (wq ?_)));refine wpAny_nsSet1 I.ns λh' i j=>?_
 obtain⟨oD,M,N,q,z,B⟩:=i.count (PySem.Within.cons name v hw);exact wq (wpAny_lookBehind q (by rw[z];exact pastItsLine_dict (zG B (by rw[zD];lia))) (w6 (h _ ⟨(j.2 _ (Ne.symm I.ne)).trans I.obj,i,I.ne⟩ j)))
def mX(X:K.In s.heap)(hm:wc K C=u9)
  (hi:zd K (.ref C) "__init__"=u7 (u7 (.ref f))) (hf:PySem.W.typeIn K (.ref f)=u7 (.type "function"))
  (h:codeAny (vR prog w) (A.under (.builtin "type.__call__" ⟨.ref C::vs,kw⟩)) (.call (.ref f) ⟨.ref (s.heap.objs.size+1)::vs,kw⟩) (PySem.W.InitBack (s.heap.objs.size+1) R)
   {s with heap:=(s.heap.push zg).push (zf C s.heap.objs.size)}):
  codeAny (vR prog w) A (.call (.ref C) ⟨vs,kw⟩) R s:=by
 obtain⟨hh,g,d,t,os⟩:=s;exact PySem.W.make_core (PySem.W.makes_of X hm) (PySem.W.looks_findIn X hi) (λself=>PySem.W.bind_fn X self hf) (.inl rfl) h
end
noncomputable def Er(f:Str)(v:V):List (Str×V)->List (Str×V)
 |[]=>[(f,v)]
 |(g,x)::r=>if g=f then(g,v)::r else(g,x)::Er f v r
theorem aL(f g:Str)(v:V):∀fs:List (Str×V),(Er f v fs).lookup g=if g=f then u7 v else fs.lookup g
 |[]=>by
  show jB g [(f,v)]=_;by_cases h:g=f
  .have d:=beq_iff_eq.mpr h;simp[jB,d,if_pos h]
  have d:=beq_eq_false_iff_ne.mpr h;simp[jB,d,if_neg h]
 | (k,x)::r=>by
  rw[show Er f v ((k,x)::r)=(if k=f then(k,v)::r else(k,x)::Er f v r)from rfl]
  by_cases hk:k=f
  .rw[if_pos hk];by_cases h:g=k
   .have d:=beq_iff_eq.mpr h;simp[jB,d,if_pos (h.trans hk)]
   have d:=beq_eq_false_iff_ne.mpr h;simp[jB,d,if_neg (λe:g=f=>h (e.trans hk.symm))]
  rw[if_neg hk];by_cases h:g=k
  .have d:=beq_iff_eq.mpr h;simp[jB,d,if_neg (λe:g=f=>hk (h.symm.trans e))]
  .have d:=beq_eq_false_iff_ne.mpr h;simp[jB,d];exact aL f g v r
theorem Yt(f:Str)(v:V):∀fs:List (Str×V),f∈(Er f v fs).map (·.1)/\∀g,g∈fs.map (·.1)->g∈(Er f v fs).map (·.1)
 |[]=>⟨by simp[Er],λg h=>by simp at h⟩
 | (k,x)::r=>by
  obtain⟨i,d⟩:=Yt f v r
  rw[show Er f v ((k,x)::r)=(if k=f then(k,v)::r else(k,x)::Er f v r)from rfl]
  by_cases hk:k=f
  .rw[if_pos hk];subst hk;exact⟨by simp,λg h=>by simpa using h⟩
  rw[if_neg hk];refine⟨?_,λg h=>?_⟩
  .rw[zK];exact zV _ i
  .rw[zK]at h⊢;rcases z0.mp h with e|e
   .exact z0.mpr (.inl e)
   exact zV _ (d g e)
theorem Zz(f:Str)(v:V):∀fs:List (Str×V),lN (Er f v fs)<=lN fs+1
 |[]=>by simp[Er]
 |(k,x)::r=>by
  have d:=Zz f v r
  rw[show Er f v ((k,x)::r)=(if k=f then(k,v)::r else(k,x)::Er f v r)from rfl]
  by_cases hk:k=f
  .rw[if_pos hk,zD,zD];lia
  rw[if_neg hk,zD,zD];lia
theorem RE.LO(r:RE (u7 v) o):∃u,o=u7 u/\RelV v u:=by
 cases o with
 |none=>exact(r).elim
 |some u=>exact⟨u,rfl,r⟩
theorem RE.none_of(r:RE u8 o):o=u8:=by
 cases o with
 |none=>rfl
 |some u=>exact(r).elim
theorem mY(r:RelV v u):wS u=u9:=by
 cases v with
 |LA|bl b=>cases(r);rfl
 |ref a|ty n=>cases(r);rfl
 |_=>obtain⟨t,e⟩:=(r);cases e;rfl
section
variable{P:vq}{w:vA}{H H':Hp}{h h':Heap}{a C dx:vX}{fs KZ:List (Str×V)}
def X3(UA:YE P w H h)(e:H a=u7 (.ins C dx fs)):∃i,OJ h a dx C i/\(∀f,RE (fs.lookup f) (i f))/\jh i (fs.map (·.1))/\lN fs<=1000/\H dx=u7 (.own a):=by obtain⟨d,z,y,j,i,n,r,q⟩:=(UA a _ e);exact⟨i,⟨j,n,y⟩,r,q,z,d⟩
end
structure ZJ (K:za) (C:vX):Prop where
 pg:jb K C Str.empty=u9
 hd:xa K C=u9
 po:wa K C=u9
 sa:zd K (.ref C) "__setattr__"=u7 (u7 (.builtin "object.__setattr__"))
def ZJ.get{K:za}{C:vX}(c:ZJ K C)(f:Str):jb K C f=u9:=c.pg
def HD(K:za)(C:vX)(f:Str):Prop:=zd K (.ref C) f=u7 u8
def HD.XU{K:za}{C:vX}{f:Str}(n:HD K C f):xh K C f=u7 u8:=by
 unfold xh;rw[n]
 rfl
structure ZK (K:za) (C:vX) (m:Str) (f:vX):Prop where
 at_:zd K (.ref C) m=u7 (u7 (.ref f))
 fn:xg K (.ref f)=u9
 kp:qe K (.ref f)=u9
section
variable{X:Cx}{wM:List (vX×Obj)}{σ:St}{H:Hp}{s:vj}{a C dx:vX}{fs:List (Str×V)}{f:Str}{v:V}{A:vV}{E:vk->vj->Prop}
def mZ(I:Inv X wM σ H s)(e:H a=u7 (.ins C dx fs))(c:ZJ X.K C)(n:HD X.K C f)(l:fs.lookup f=u7 v)
  (h:∀u s',Inv X wM σ H s'->RelV v u->Q u s'):wW (vR X.prog X.w) A (getAttr (.ref a) f b) Q E s:=by
 obtain⟨j,O,r,_,_,_⟩:=X3 I.UA e;obtain⟨u,i,d⟩:=RE.LO (by rw[<-l];exact r f);exact mU I.SG O (c.get f) c.hd n i (mY d) (h u _ (I.tok _) d)
def aM(I:Inv X wM σ H s)(e:H a=u7 (.ins C dx fs))(c:ZJ X.K C)(k:ZK X.K C m g)(l:fs.lookup m=u8)
  (h:Q (.ref g,[.ref a]) s):wW (vR X.prog X.w) A (getMethod (.ref a) m pl) Q E s:=by
 obtain⟨d,O,r,_,_,_⟩:=X3 I.UA e;exact mV I.SG O (c.get m) k.at_ k.fn (RE.none_of (by rw[<-l];exact r m)) h
def m7(I:Inv X wM σ H s)(e:H a=u7 (.ins C dx fs))(c:ZJ X.K C)(n:HD X.K C f)(Y:lN fs<1000)(W:RelV y u)
  (h:∀s',Inv X wM σ (upd H a (.ins C dx (Er f y fs))) s'->Q () s'):wW (vR X.prog X.w) A (setAttr (.ref a) f u) Q E s:=by
 obtain⟨S,O,r,i,_,j⟩:=X3 I.UA e
 have L:lN (fs.map (·.1))<=sizeLine:=by rw[zq,vT];lia
 refine mW I.SG O c.sa c.po n.XU c.hd i L λF d N=>h _ ?_
 have B:∃o,F.get? dx=u7 o:=let⟨o,_,_,U,_⟩:=d.ns;⟨o,U⟩;refine I.write (e▸True.intro) (.inr j) (λb q M z=>(N.2 b M).trans z) B ?_;refine⟨(Ah O.ne)▸j,?_,O.ne,d.obj,_,d.ns,λg=>?_,λg J=>?_⟩
 .have:=Zz f y fs;lia
 .rw[aL];by_cases q:g=f
  .rw[if_pos q,if_pos q];exact W
  rw[if_neg q,if_neg q];exact r g
 by_cases q:g=f
 .rw[q];exact(Yt f y fs).1
 .refine(Yt f y fs).2 g (i g λz=>J ?_);show(if g=f then u7 u else S g)=u8;rw[if_neg q];exact z
def Inv.made(I:Inv X wM σ H s):Inv X wM σ (upd (upd H s.heap.objs.size (.own (s.heap.objs.size+1))) (s.heap.objs.size+1) (.ins C s.heap.objs.size []))
  {s with heap:=(s.heap.push zg).push (zf C s.heap.objs.size)}:=by
 have e1:(s.heap.push zg).get? s.heap.objs.size=u7 zg:=z3 s.heap rfl;have e2:((s.heap.push zg).push (zf C s.heap.objs.size)).get? (s.heap.objs.size+1)=u7 (zf C s.heap.objs.size):=by have:=z3 (s.heap.push zg) (o:=zf C s.heap.objs.size) rfl;rwa[jV]at this
 refine(I.laid (a:=s.heap.objs.size) (o:=.own (s.heap.objs.size+1)) (h':=s.heap.push zg) (t':=s.toks) (λb u q=>zX _ q) (zv _) ⟨_,e1⟩).laid (λb u q=>zX _ q) (Nat.le_of_eq (jV _ _)) ?_;have ne:s.heap.objs.size≠s.heap.objs.size+1:=zN (qC _);refine⟨by rw[Ah ne,Dp],jk _,ne,e2,λ_=>u8,(Heap.Ns1.of_empty ⟨zg,#[],_,e1,rfl,(λe he=>absurd he (by simp)),λ_=>rfl⟩).at λo q=>zX _ q,λ_=>True.intro,λy hy=>absurd rfl hy⟩
def m9{f:Str}(i:vC e f env (eval e env)=eval e env)
  (h:wW (vR prog w) A (eval e env) (λo d=>wW (vR prog w) A (getAttr o f u9) Q E d) E s):wW (vR prog w) A (eval (.Attribute e f pos) env) Q E s:=
 Attribute_any_ h (by rw[arm_eval_Attribute,i])
end
def L0(K:za)(ta:TE)(f:Str):TE:=λσ H Q=>ta σ H λx H1=>∃a C dx fs v,x=.ref a/\H1 a=u7 (.ins C dx fs)/\ZJ K C/\HD K C f/\fs.lookup f=u7 v/\Q v H1
def M0(K:za)(ta tv:TE)(f:Str):TS:=λD σ H=>tv σ H λy H1=>ta σ H1 λx H2=>∃a C dx fs,x=.ref a/\H2 a=u7 (.ins C dx fs)/\ZJ K C/\HD K C f/\lN fs<1000/\
 D.nx σ (upd H2 a (.ins C dx (Er f y fs)))
section
variable{X:Cx}{o e value:vW}{f:Str}{pos pos' MH:Pos}{ta tv:TE}
def ma(L:PE X e ta)(J:vC e f X.env (eval e X.env)=eval e X.env):PE X (.Attribute e f pos) (L0 X.K ta f):=by intro d s M H Q I h;refine m9 J (GB (L d s M H _ I h) λu S i=>?_);obtain⟨x,z,B,y,a,C,W,fs,v,j,O,c,n,l,q⟩:=i;subst j;obtain rfl:u=Value.ref a:=y;exact mZ B O c n l λU Y F N=>⟨v,z,F,N,q⟩
def md(S:PE X o ta)(hv:PE X value tv)(Z:swapsWith value (u7 (.Attribute o f pos')) pos.line X.env=pure uA):PS X (.Assign [.Attribute o f pos'] value pos) (M0 X.K ta tv f):=by intro d s i H D I h;refine plainObj_wpAny_Assign_Attribute (GB (hv d s i H _ I h) λu Y ⟨y,z,B,U,q⟩=>GB (S d Y i z _ B q) λO s2 W=>?_) Z;obtain⟨x,H2,N,L,a,C,dx,fs,j,J,c,n,l,M⟩:=W;subst j;obtain rfl:O=Value.ref a:=L;exact m7 N J c n l U λs3 F=>⟨i,_,F,M⟩
end
section
variable{X:Cx}{wM:List (vX×Obj)}{σ:St}{H:Hp}{s:vj}{A:vV}{E:vk->vj->Prop}{Q:vk->vj->Prop}{c:vk}{b:Bool}
end
structure HB (k:Nat) (A:vV):Prop where
 hd:A.handled=u8
 dp:A.depth+3*k+5<recursionLimit
 un:A.units+16*k+200<cLine
def HB.mono(r:HB k A)(h:j<=k):HB j A:=⟨r.hd,by have:=r.dp;lia,by have:=r.un;lia⟩
def HB.deeper(r:HB (k+1) A)(env:Env):HB k (A.deeper env):=
 ⟨r.hd,by have:=r.dp;show A.depth+1+3*k+5<_;lia,by have:=r.un;show A.units+3+16*k+200<_;lia⟩
def HB.in1(r:HB (k+1) A):HB k A.in1:=
 ⟨r.hd,by have:=r.dp;show A.depth+3*k+5<_;lia,by have:=r.un;show A.units+1+16*k+200<_;lia⟩
def mf{A:vV}{C:vX}{us:List vk}{d:List (Str×vk)}:(A.under (.builtin "type.__call__" ⟨.ref C::us,d⟩)).depth=A.depth+1:=by
 first|rfl|simp[Around.under,Code.weight,Code.isCreation,Code.isGuard,Code.isCaller,Code.frames,Code.isFrame,guardIds]
def mh{A:vV}{C:vX}{us:List vk}{d:List (Str×vk)}:(A.under (.builtin "type.__call__" ⟨.ref C::us,d⟩)).units=A.units+1:=by
 first|rfl|simp[Around.under,Code.cUnits,Code.frames,Code.isFrame]
def HB.make(r:HB (k+1) A)(C:vX)(us:List vk)(d:List (Str×vk)):HB k (A.under (.builtin "type.__call__" ⟨.ref C::us,d⟩)):=
 ⟨r.hd,by have:=r.dp;rw[mf];lia,by have:=r.un;rw[mh];lia⟩
def HB.depth(r:HB k A):A.depth<recursionLimit:=by have:=r.dp;lia
def HB.units(r:HB k A):A.units+64<cLine:=by have:=r.un;lia
noncomputable def YU:TA:=λ_ H Q=>Q [] H
noncomputable def mi(ta:TE)(tr:TA):TA:=λσ H Q=>ta σ H λx H1=>tr σ H1 λxs H2=>Q (x::xs) H2
section
variable{X:Cx}{e:vW}{es:List vW}{te:TE}{t:TA}{pos:Pos}
def mj:PA X [] YU:=λ_ _ _ _ H Q I h=>Calls.spliced_nil ⟨[],H,I,.nil,h⟩
def mm(O:PE X e te)(L:PA X es t)(M:wQ (e::es) X.env=(uA,eval e X.env)::wQ es X.env:=by rfl):PA X (e::es) (mi te t):=by intro i d s j H Q I h;rw[M];show wW _ _ (spliced ((uA,eval e X.env)::vD i (wQ es X.env))) _ _ s;exact Calls.spliced_cons (GB (O d s j H _ I h) λu n ⟨x,y,B,q,J⟩=>(GB (L i d n j y _ B J) λW Y ⟨F,S,z,N,U⟩=>⟨x::F,S,z,.cons q N,U⟩))
def O0(t:TA):TE:=λσ H Q=>t σ H λxs H1=>lN xs<=sizeLine/\∀p,H1 p=u8->Q (.ref p) (upd H1 p (.tup xs))
def S0(t:TA):TE:=λσ H Q=>t σ H λxs H1=>lN xs<=sizeLine/\∀p,H1 p=u8->Q (.ref p) (upd H1 p (.lst xs))
def Xm{x1}(h:PA X es t):PE X (.Tuple es x1 pos) (O0 t):=by intro d s y H Q I J;refine wpAny_Tuple_spliced (GB (h pos d s y H _ I J) λF i ⟨B,n,j,r,z,q⟩=>⟨by rw[<-r.length];exact z,?_⟩);exact⟨.ref i.heap.objs.size,upd n i.heap.objs.size (.tup B),j.laid (λb u e=>zX _ e) (zv _) (⟨z,F,r,⟨_,z3 _ rfl,rfl,_,rfl⟩⟩),rfl,q _ (j.UA.fresh (zv _))⟩
def mn(h:PA X es t):PE X (.List es pos) (S0 t):=by intro d s y H Q I J;refine wpAny_List_spliced (GB (h pos d s y H _ I J) λF i ⟨B,n,j,r,z,q⟩=>⟨by rw[<-r.length];exact z,?_⟩);exact⟨.ref i.heap.objs.size,upd n i.heap.objs.size (.lst B),j.laid (λb u e=>zX _ e) (zv _) ⟨z,F,0,r,z3 _ rfl⟩,rfl,q _ (j.UA.fresh (zv _))⟩
end
noncomputable abbrev Sp:=List V->Hp->VK->XK->Prop
noncomputable abbrev PL:=List Env->Hp->vj->XK->vk->vj->Prop
structure GL (P:vq) (w:vA) (K:za) (mg:Str->Option vk) (base:Heap) (A:vV) (outer:List Env) (s:vj) (H:Hp):Prop where
 frames:A.frames=u7 outer
 mod:Mod K mg base
 bs:∀b o,base.get? b=u7 o->s.heap.get? b=u7 o/\H b=u8
 KN:base.objs.size<=s.heap.objs.size
 OF:s.heap.FunFrames base outer
 UP:∀b∈XI outer,H b=u8
 UA:YE P w H s.heap
 bare:AllBare s.gens
def CE(outer:List Env)(P:vq)(w:vA)(H:Hp)(s:vj)(Q:VK)(u:vk)(s':vj):Prop:=
 ∃v H',s'.os=s.os/\AllBare s'.gens/\Un (XI outer) [] H H' s.heap s'.heap/\YE P w H' s'.heap/\RelV v u/\Q v H'
def CR(CX:PL)(outer:List Env)(P:vq)(w:vA)(H:Hp)(s:vj)(Q:VK)(E:XK)(r:Result)(s':vj):Prop:=
 match r with
 |.ok (.ret u)=>CE outer P w H s Q u s'
 |.ok _=>False
 |.error e=>CX outer H s E e s'
structure JD (P:vq) (w:vA) (K:za) (mg:Str->Option vk) (base:Heap) (CX:PL) (k:Nat) (f:vX) (fd:vK) (ps:List Str) (sp:Sp):Prop where
 len:∀vs H Q E,sp vs H Q E->lN vs=lN ps
 run:∀(A:vV)(outer:List Env)(s:vj)(H:Hp)(args:Args)(us:List vk)(vs:List V)(Q:VK)(E:XK),HB k A->GL P w K mg base A outer s H->BindsTo s fd args (ps.zip us)->Vals vs us->sp vs H Q E->
  codeAny (vR P w) A (.call (.ref f) args) (CR CX outer P w H s Q E) s
def GL.make{w:vA}{K:za}{i:Str->Option vk}{d:Heap}{A:vV}{outer:List Env}{H:Hp}(e:GL P w K i d A outer s H)(C:vX)(us:List vk)(j:List (Str×vk)):
  GL P w K i d (A.under (.builtin "type.__call__" ⟨.ref C::us,j⟩)) outer s H:=⟨by first|exact e.frames|(simpa[Around.under,Code.envs,Code.isFrame,pushEnvs]using e.frames),e.mod,e.bs,e.KN,e.OF,e.UP,e.UA,e.bare⟩
section
variable{X:Cx}{wM:List (vX×Obj)}{σ:St}{H:Hp}{s s':vj}
def Inv.ZU(I:Inv X wM σ H s):GL X.prog X.w X.K X.mg X.base X.A X.stack s H:=
 ⟨I.ok.frames,I.ok.mod,I.bs,zG I.ok.KN I.sz,I.stack,I.Yw,I.UA,I.bare⟩
def Inv.after(I:Inv X wM σ H s)(h:CE X.stack X.prog X.w H s Q u s'):EP X wM σ Q u s':=by obtain⟨v,y,n,i,un,UA,r,q⟩:=h;obtain⟨B,g,d,t,j⟩:=s';obtain rfl:j=s.os:=n;exact⟨v,y,I.call un UA i (λb z=>absurd z (by simp)),r,q⟩
end
noncomputable def mq(sp:Sp)(ZG:List V)(E:XK)(t:TA):TE:=λσ H Q=>t σ H λvs H1=>sp (vs++ZG) H1 Q E
def Vv(C:vX)(m:Str)(sp:Sp)(ZG:List V)(E:XK)(ta:TE)(t:TA):TE:=λσ H Q=>ta σ H λx H1=>∃a dx fs,x=.ref a/\H1 a=u7 (.ins C dx fs)/\fs.lookup m=u8/\
 t σ H1 λvs H2=>sp (x::(vs++ZG)) H2 Q E
def mv(C:vX)(sp:Sp)(ZG:List V)(E:XK)(t:TA):TE:=λσ H Q=>t σ H λvs H1=>∀x dx,H1 x=u8->H1 dx=u8->dx≠x->
 sp (.ref x::(vs++ZG)) (upd (upd H1 dx (.own x)) x (.ins C dx [])) (λv H2=>v=.LA/\Q (.ref x) H2) E
def Binds(K:za)(fd:vK)(ps:List Str)(ds:List vk):Prop:=
 ∀(s:vj)(us:List vk),K.In s.heap->lN (us++ds)=lN ps->BindsTo s fd ⟨us,[]⟩ (ps.zip (us++ds))
def Binds.all{K:za}{d:vK}{ps:List Str}(h:∀us:List vk,lN us=lN ps->bindArgs d ⟨us,[]⟩=pure (ps.zip us)):Binds K d ps []:=λs us _ i=>by rw[qX]at i⊢;exact .of_eq (h us i)
def Passes(CX:PL)(X:Cx)(E:XK):Prop:=∀(wM:List (vX×Obj))(σ:St)(H:Hp)(s:vj)(e:vk)(s':vj),Inv X wM σ H s->CX X.stack H s E e s'->X.xe e s'
section
variable{X:Cx}{CX:PL}{k:Nat}{f C:vX}{fd:vK}{ps:List Str}{sp:Sp}{ZG:List V}{ds:List vk}{E:XK}{x m:Str}{p pos apos:Pos}{e o:vW}{es:List vW}{ta:TE}{t:TA}
theorem Ww{d:St}{H:Hp}{Q:VK}{us:List vk}{vs:List V}(F:JD X.prog X.w X.K X.mg X.base CX k f fd ps sp)(y:HB k X.A)(q:Binds X.K fd ps ds)(J:Vals ZG ds)(n:Passes CX X E)
  (I:Inv X wM d H s) (r:Vals vs us) (h:sp (vs++ZG) H Q E):wW (vR X.prog X.w) X.A (call (.ref f) us) (EP X wM d Q) X.xe s:=by
 have j:=r.append J;have B:(us++ds).length=ps.length:=by rw[<-j.length];exact F.len _ _ _ _ h
 refine wpAny_call (vI (F.run X.A X.stack s H ⟨us,[]⟩ (us++ds) (vs++ZG) Q E y I.ZU (q s us I.SG B) j h) λr z i=>?_);cases r with
 |error e=>exact n wM d H s e z I i
 |ok fl=>
  cases fl with
  |ret u=>exact I.after i
  |_=>exact False.elim i
def mw(F:JD X.prog X.w X.K X.mg X.base CX k f fd ps sp)(M:HB k X.A)(S:Gl X x)(L:X.mg x=u7 (.ref f))(hk:qe X.K (.ref f)=u9)(B:Binds X.K fd ps ds)(y:Vals ZG ds)(z:Passes CX X E)
  (N:PA X (e::es) t) (i:(x==("__debug__":Str))=uA:=by decide) (J:wQ (e::es) X.env=(uA,eval e X.env)::wQ es X.env:=by rfl) (j:(vD pos (wQ es X.env)).any (·.1)=uA:=by rfl):
  PE X (.Call (.Name x p) (e::es) [] pos) (mq sp ZG E t):=by
 intro d s O H Q I h;refine wK (Vp I S L ?_ i);exact xi I.ok.mod.LU hk (GB (N pos d s O H _ I h) λus U ⟨Z,Y,n,r,q⟩=>⟨n.SG,Ww F M B y z n r q⟩) J j
def mx{pl:Sem Bool}(he:PE X o ta)(c:ZJ X.K C)(B:ZK X.K C m f)(F:JD X.prog X.w X.K X.mg X.base CX k f fd ps sp)(hr:HB k X.A)(S:Binds X.K fd ps ds)(Y:Vals ZG ds)(N:Passes CX X E)(ha:PA X (e::es) t)
  (j:wQ (e::es) X.env=(uA,eval e X.env)::wQ es X.env:=by rfl) (i:(vD pos (wQ es X.env)).any (·.1)=uA:=by rfl)
  (L:eval (.Call (.Attribute o m apos) (e::es) [] pos) X.env=(do
   let ov<-eval o X.env
   standAt apos.atName
   let(f,first)<-holding [ov] (getMethod ov m pl)
   callWith pos f first (vD pos (wQ (e::es) X.env)) (vE pos (vN [] X.env))):=by rfl):
  PE X (.Call (.Attribute o m apos) (e::es) [] pos) (Vv C m sp ZG E ta t):=by
 intro d s y H Q I h;refine wd (GB (he d s y H _ I h) λu s1 zz=>?_) L;obtain⟨x,O,n,Z,a,dx,fs,M,U,l,q⟩:=zz;subst M;obtain rfl:u=Value.ref a:=Z;refine aM n U c B l ?_;exact xi I.ok.mod.LU B.kp (GB (ha pos d s1 y O _ n q) λus s2 ⟨J,H2,z,r,q2⟩=>⟨z.SG,Ww (vs:=.ref a::J) F hr S Y N z (.cons rfl r) q2⟩) j i
def my(M:PE X o ta)(c:ZJ X.K C)(j:ZK X.K C m f)(F:JD X.prog X.w X.K X.mg X.base CX k f fd ps sp)(N:HB k X.A)(L:Binds X.K fd ps ds)(U:Vals ZG ds)(B:Passes CX X E)
  (y:eval (.Call (.Attribute o m apos) [] [] pos) X.env=(do
   let ov<-eval o X.env
   standAt apos.atName
   let(f,first)<-holding [ov] (getMethod ov m pl)
   callWith pos f first (vD pos (wQ [] X.env)) (vE pos (vN [] X.env))):=by rfl):
  PE X (.Call (.Attribute o m apos) [] [] pos) (Vv C m sp ZG E ta YU):=by
 intro d s O H Q I h;refine wd (GB (M d s O H _ I h) λu Y n=>?_) y;obtain⟨x,Z,i,J,a,dx,fs,z,S,l,q⟩:=n;subst z;obtain rfl:u=Value.ref a:=J;exact aM i S c j l (PySem.W.callWith_K0 i.SG j.kp (Ww (vs:=[.ref a]) F N L U B i (.cons rfl .nil) q))
structure Mk (K:za) (C f:vX):Prop where
 makes:wc K C=u9
 init:zd K (.ref C) "__init__"=u7 (u7 (.ref f))
 fn:xg K (.ref f)=u9
 kp:qe K (.ref C)=u9
theorem mz{σ:St}{H:Hp}{Q:VK}{us:List vk}{vs:List V}(M:Mk X.K C f)(F:JD X.prog X.w X.K X.mg X.base CX k f fd ps sp)(hr:HB (k+1) X.A)(hb:Binds X.K fd ps ds)(hd:Vals ZG ds)
  (hx:Passes CX X E) (I:Inv X wM σ H s) (r:Vals vs us)
  (h:∀x dx,H x=u8->H dx=u8->dx≠x->sp (.ref x::(vs++ZG)) (upd (upd H dx (.own x)) x (.ins C dx [])) (λv H2=>v=.LA/\Q (.ref x) H2) E):
  wW (vR X.prog X.w) X.A (call (.ref C) us) (EP X wM σ Q) X.xe s:=by
 have hq:=h (s.heap.objs.size+1) s.heap.objs.size (I.UA.fresh (jN _)) (I.UA.fresh (zv _)) (zN (qC _));have I2:=Inv.made (C:=C) I;have r2:Vals (V.ref (s.heap.objs.size+1)::(vs++ZG)) (Value.ref (s.heap.objs.size+1)::(us++ds)):=.cons rfl (r.append hd);have hl:(Value.ref (s.heap.objs.size+1)::us++ds).length=ps.length:=by have e:=r2.length;rw[F.len _ _ _ _ hq]at e;exact e.symm
 refine wpAny_call (mX I.SG M.makes M.init (beq_iff_eq.mp M.fn) (vI (F.run _ X.stack _ _ ⟨Value.ref (s.heap.objs.size+1)::us,[]⟩ (Value.ref (s.heap.objs.size+1)::(us++ds)) _ _ E (hr.make C us [])
  (I2.ZU.make C us []) (hb _ (Value.ref (s.heap.objs.size+1)::us) I2.SG hl) r2 hq) λr s' X0=>?_))
 cases r with
 |error e=>exact hx wM σ _ _ e s' I2 X0
 | ok fl=>
  cases fl with
  |ret u=>
   obtain⟨v,H',I3,rv,ev,q3⟩:=I2.after X0;subst ev;exact⟨rv,⟨V.ref (s.heap.objs.size+1),H',I3,rfl,q3⟩⟩
  |_=>exact False.elim X0
def nA(M:Mk X.K C f)(F:JD X.prog X.w X.K X.mg X.base CX k f fd ps sp)(N:HB (k+1) X.A)(U:Gl X x)(L:X.mg x=u7 (.ref C))(B:Binds X.K fd ps ds)(y:Vals ZG ds)(z:Passes CX X E)
  (O:PA X (e::es) t) (i:(x==("__debug__":Str))=uA:=by decide) (J:wQ (e::es) X.env=(uA,eval e X.env)::wQ es X.env:=by rfl) (j:(vD pos (wQ es X.env)).any (·.1)=uA:=by rfl):
  PE X (.Call (.Name x p) (e::es) [] pos) (mv C sp ZG E t):=by
 intro d s S H Q I h;refine wK (Vp I U L ?_ i);exact xi I.ok.mod.LU M.kp (GB (O pos d s S H _ I h) λus Y ⟨vs,Z,n,r,q⟩=>⟨n.SG,mz M F N B y z n r q⟩) J j
end
section
variable{X:Cx}{CX:PL}{k:Nat}{f C:vX}{fd:vK}{ps ks:List Str}{sp:Sp}{E:XK}{x m:Str}{p pos apos kpos:Pos}{e o:vW}{es:List vW}{kws:List Keyword}{te ta:TE}{t tk:TA}{nm:Option Str}
variable{g:List vk->List vk->List vk}{gV:List V->List V->List V}
end
structure QC (N P:List Str) (sc:vz):Prop where
 kind:sc.kind=.function
 co:sc.isCoroutine=uA
 gen:sc.isGenerator=uA
 nd:N.Nodup
 pre:N.take (lN P)=P
 par:∀x∈P,sc.names.lookup x=u7 .local\/sc.names.lookup x=u7 .cell
 NR:∀y∈sc.names,y.2≠ .free
theorem aN{d:Str->Option vY}{x:Str}:∀{binds:List (Str×vk)}{m:Str->Option vk},(∀v,(x,v)∉binds)->bindL d binds m x=m x
 |[],_,_=>rfl
 | (n,v)::r,m,h=>by
  unfold bindL;rw[aN λw hw=>h w (zV _ hw)];split
  .have:x≠n:=by rintro rfl;exact h v zk
   simp[this]
  rfl
theorem aO{d:Str->Option vY}{x:Str}:∀{binds:List (Str×vk)}{m:Str->Option vk},(∀v,(x,v)∉binds)->bindC d binds m x=m x
 |[],_,_=>rfl
 |(n,v)::r,m,h=>by
  unfold bindC;rw[aO λw hw=>h w (zV _ hw)];split
  .rfl
  have:x≠n:=by rintro rfl;exact h v zk
  simp[this]
theorem aP{d:Str->Option vY}{x:Str}{v:vk}:∀{P:List Str}{vs:List vk}{i:Nat}{m:Str->Option vk},P.Nodup->P[i]?=u7 x->vs[i]?=u7 v->d x=u7 .local->
  bindL d (P.zip vs) m x=u7 v
 |[],_,_,_,_,h,_,_|_::_,[],_,_,_,_,h,_=>by simp at h
 |p::P,w::vs,0,m,q,n,j,hk=>by simp at n j;subst n;subst j;show bindL d ((p,w)::P.zip vs) m p=_;unfold bindL;rw[aN λv y=>(jT.mp q).1 (List.of_mem_zip y).1,if_pos hk];simp
 |p::P,w::vs,i+1,m,q,n,j,hk=>by unfold bindL;exact aP (jT.mp q).2 (by simpa using n) (by simpa using j) hk
theorem aQ{d:Str->Option vY}{x:Str}{v:vk}:∀{P:List Str}{vs:List vk}{i:Nat}{m:Str->Option vk},P.Nodup->P[i]?=u7 x->vs[i]?=u7 v->d x≠u7 .local->
  bindC d (P.zip vs) m x=u7 v
 |[],_,_,_,_,h,_,_|_::_,[],_,_,_,_,h,_=>by simp at h
 |p::P,w::vs,0,m,q,n,j,hk=>by simp at n j;subst n;subst j;show bindC d ((p,w)::P.zip vs) m p=_;unfold bindC;rw[aO λv y=>(jT.mp q).1 (List.of_mem_zip y).1,if_neg hk];simp
 |p::P,w::vs,i+1,m,q,n,j,hk=>by unfold bindC;exact aQ (jT.mp q).2 (by simpa using n) (by simpa using j) hk
noncomputable def start(N:List Str)(vs:List V):St:=vs.map u7++zQ (lN N-lN vs) u8
noncomputable def Ld(CX:PL)(P:vq)(w:vA)(K:za)(mg:Str->Option vk)(base:Heap)(N:List Str)(qual:Str)(scope:vz)(f:vX)(cd:vk)(A:vV)(outer:List Env)(s:vj)(H:Hp)(E:XK):Cx where
 prog:=P
 w:=w
 K:=K
 mg:=mg
 base:=base
 A:=A.deeper (envOfC qual scope s.heap.objs.size f cd)
 N:=N
 s₀:=s
 H₀:=H
 env:=envOfC qual scope s.heap.objs.size f cd
 outer:=outer
 stack:=envOfC qual scope s.heap.objs.size f cd::outer
 ex:=[]
 calm:=u9
 fn:=λ_=>u9
 pn:=[]
 xe:=λe s'=>wW (vR P w) (A.deeper (envOfC qual scope s.heap.objs.size f cd)) (leaving (envOfC qual scope s.heap.objs.size f cd) e) (λ_ NT=>CX outer H s E e NT) (λe' NT=>CX outer H s E e' NT) s'
def aR{d:vz}{n:Nat}{x:Str}(h:d.names.lookup x=u7 .cell):∃c,(cellsFrom n d.names []).lookup x=u7 c:=by exact xw.mp (we d.names n [] (.inl h))
def nB{CX:PL}{w:vA}{K:za}{M:Str->Option vk}{n:Heap}{N ps:List Str}{qual:Str}{d:vz}{f:vX}{cd:vk}{A:vV}{outer:List Env}{s1:vj}{H:Hp}{E:XK}{us:List vk}{vs:List V}
  (S:QC N ps d) (Z:A.handled=u8) (B:GL P w K M n A outer s H) (hl:lN vs=lN ps) (r:Vals vs us)
  (x:InCallC s s.heap.objs.size (bindL (envOfC qual d s.heap.objs.size f cd).kindOf (ps.zip us) λ_=>u8) (cellsFrom (s.heap.objs.size+1) d.names []) (bindC (envOfC qual d s.heap.objs.size f cd).kindOf (ps.zip us) λ_=>u8) s1):
  Inv (Ld CX P w K M n N qual d f cd A outer s H E) [] (start N vs) H s1:=by
 have Y:lN ps<=lN N:=by have:=congrArg jO S.pre;rw[jQ]at this;lia
 obtain⟨L,tk,rfl,hk⟩:=x.done
 have HU:∀b:vX,b∉(Ld CX P w K M n N qual d f cd A outer s H E).ex:=λb z=>absurd (show b∈([]:List vX)from z) (by simp)
 refine⟨⟨B.mod,S.kind,rfl,rfl,zv _,λy z c L j=>?_,λy F=>?_,λy c _ h=>?_,λ_=>Z,Around.frames_deeper B.frames,.inr ⟨rfl,rfl⟩,λb z=>absurd z (HU b),B.bs,B.KN,λb _ _=>HU b,λb z=>absurd z (HU b),B.OF,B.UP⟩,
  rfl,B.bare,Un.kept hk,⟨_,x.toInCall.ns,λi y v L j h3=>?_⟩,λy c h=>⟨_,x.cell y c h⟩,B.UA.fresh (zv _),λy c h=>?_,λp hp=>absurd (show p∈([]:List (vX×Obj))from hp) (by simp),B.UA.kept hk,?_⟩
 .exact name_of_addr x.apart (zc L) (zc j)
 .have F:=F;rcases F with F|F
  .exact aR F
  exact absurd rfl (S.NR _ (zc F))
 .exact jR (x.above y c (zc h))
 .have J:i<lN vs:=by
   unfold start at j;by_cases J:i<lN vs
   .exact J
   rw[zM (by simpa using J)]at j;rw[qT]at j
   split at j<;>cases j
  have U:vs[i]?=u7 v:=by
   unfold start at j;rw[z9 (by simpa using J),zj]at j;cases e:vs[i]? with
   |none=>rw[e]at j;cases j
   |some a=>rw[e]at j;cases j;rfl
  obtain⟨u,O,rv⟩:=r.get U;have hp:ps[i]?=u7 y:=by rw[<-S.pre,qx (by lia)];exact L
  have I:ps.Nodup:=by rw[<-S.pre];exact S.nd.sublist (List.take_sublist _ _)
  refine⟨u,rv,?_⟩;rcases S.par y (zU hp)with k|k
  .exact .inl ⟨k,aP I hp O k⟩
  obtain⟨c,e⟩:=aR k;refine .inr ⟨.inl k,c,e,?_⟩;have q:=x.cell y c e;rw[aQ I hp O (by show d.names.lookup y≠_;rw[k];decide)]at q;exact q
 .exact B.UA.fresh (jR (x.above y c (zc h)))
 unfold start;show _=lN N;rw[zL,zq,jY];lia
theorem aS{CX:PL}{w:vA}{K:za}{mg:Str->Option vk}{j:Heap}{k:Nat}{f:vX}{name qual:Str}{i:Arguments}{body:List vx}{d:vz}{dV kV M pm z ct oc:vk}{an od:Option vX}
  {QX:Array (Option vk)} {N ps:List Str} {sp:Sp} (lk:K.lookup f=u7 ⟨oc,od,.func (jc name qual i body d dV kV M pm an z ct),QX⟩) (Z:wf K z qual=u9) (S:QC N ps d)
  (len:∀vs H Q E,sp vs H Q E->lN vs=lN ps)
  (F:∀(A:vV)(outer:List Env)(s:vj)(H:Hp)(vs:List V)(Q:VK)(E:XK),HB k (A.deeper (envOfC qual d s.heap.objs.size f z))->sp vs H Q E->
   ∃t,SH (Ld CX P w K mg j N qual d f z A outer s H E) body t/\t {nx:=λ_ H'=>Q .LA H',rt:=Q} (start N vs) H):
  JD P w K mg j CX (k+1) f (jc name qual i body d dV kV M pm an z ct) ps sp:=by
 refine⟨len,λA outer s H args us vs Q E hr Y hb r U=>?_⟩;have hl:=len _ _ _ _ U;have KX:=Y.mod.LU.keeps λb o e=>(Y.bs b o e).1
 have I:∀y∈ps.zip us,d.names.lookup y.1=u7 .local\/(d.names.lookup y.1=u7 .cell/\((cellsFrom (s.heap.objs.size+1) d.names []).lookup y.1).isSome=u9):=λ⟨n,v⟩ hy=>by
  rcases S.par n (List.of_mem_zip hy).1 with q|q
  .exact .inl q
  exact .inr ⟨q,we _ _ _ (.inl q)⟩
 refine codeAny_call_function hr.depth (KX _ _ lk) rfl S.co S.gen rfl (PySem.W.codeRec_of KX Z) (hb _ _ _ _ ?_);refine wpAny_newFunctionEnv_cells S.kind I λenv he s1 x=>?_
 subst he;refine⟨(Y.mod.nolimit.keeps λb o e=>(Y.bs b o e).1).keeps x.toInCall.keep,codeAny_func ?_⟩;obtain⟨t,ht,hq⟩:=F A outer s H vs Q E (hr.deeper _) U;refine ww (ht [] s1 (start N vs) H _ (nB S hr.hd Y hl r x) hq) (λfl s' O=>?_) λe s' O=>O
 have L:∀{B:St}{H':Hp}{v:V}{u:vk},Inv (Ld CX P w K mg j N qual d f z A outer s H E) [] B H' s'->RelV v u->Q v H'->CE outer P w H s Q u s':=
  λ{B H' v u}J rv q=>⟨v,H',J.os,J.bare,J.base,J.UA,rv,q⟩
 cases fl with
 |ret u=>
  obtain⟨v,B,H',J,rv,q⟩:=O;exact L J rv q
 |next=>
  obtain⟨B,H',J,q⟩:=O;exact L (v:=V.LA) J rfl q
 |_=>
  obtain⟨_,_,_,q⟩:=O;exact False.elim q
section
variable{X:Cx}{x:Str}{p pos:Pos}{e:vW}{es:List vW}{t:TA}{id T:String}{r:List V->Hp->VK->Prop}
noncomputable def l'(r:List V->Hp->VK->Prop)(t:TA):TE:=λσ H Q=>t σ H λvs H1=>r vs H1 Q
def nC(N:LB X (.builtin id) r)(W:Gl X x)(M:X.mg x=u8)(Y:vH x=u7 (.builtin id))(O:PA X (e::es) t)(z:x≠"__name__":=by decide)(i:(x==("__debug__":Str))=uA:=by decide)
  (F:wQ (e::es) X.env=(uA,eval e X.env)::wQ es X.env:=by rfl) (j:(vD pos (wQ es X.env)).any (·.1)=uA:=by rfl):PE X (.Call (.Name x p) (e::es) [] pos) (l' r t):=by
 intro d s n H Q I h;exact wK (Ib I W M Y (PyProof.Rows.callWith_builtin1 (GB (O pos d s n H _ I h) λU q ⟨S,B,J,y,L⟩=>N d q n B S U Q J y L) F j) z i)
def nE(N:LB X (.type T) r)(W:Gl X x)(M:X.mg x=u8)(Y:vH x=u7 (.type T))(O:PA X (e::es) t)(z:x≠"__name__":=by decide)(i:(x==("__debug__":Str))=uA:=by decide)
  (F:wQ (e::es) X.env=(uA,eval e X.env)::wQ es X.env:=by rfl) (j:(vD pos (wQ es X.env)).any (·.1)=uA:=by rfl):PE X (.Call (.Name x p) (e::es) [] pos) (l' r t):=by
 intro d s n H Q I h;exact wK (Ib I W M Y (qb (GB (O pos d s n H _ I h) λU q ⟨S,B,J,y,L⟩=>N d q n B S U Q J y L) F j) z i)
end
end _L
namespace HT
open PySem PyProof.Rows
section
open PySem.SeqAt
open PySem.AutoSeq1 (wpAny_loadPart')
open PySem.MeetsSeq PySem.MeetsSeq2 PySem.MeetsSeq3
end
section
variable{prog:vq}{w:vA}{A:vV}{E:vk->vj->Prop}{s:vj}
def nF(Y:IsTup s.heap t vs.toArray)(Z:IsTup s.heap b ws.toArray)(W:vs≠[])
  (h1:ws=[]->Q (.ref t) s) (h2:ws≠[]->Q (.ref s.heap.objs.size) {s with heap:=s.heap.push {cls:=.type "tuple",data:=.seq (vs++ws).toArray}})
  (hsz:lN vs+lN ws<=sizeLine):wW (vR prog w) A (vG .Add (.ref t) (.ref b)) Q E s:=by
 obtain⟨⟨J,L,q,O⟩,B,U,n,N⟩:=id Y;obtain⟨⟨M,j,I,z⟩,i,MO,S,y⟩:=id Z;simp only at U N MO y;subst U N MO y;have e:vs.toArray++ws.toArray=(vs++ws).toArray:=by simp
 by_cases hw:ws=[]
 .exact concat_meets ⟨_,B,rfl⟩ ⟨_,i,rfl⟩ noFill_tuple_add seq_tuple_add wg wh (uQ _ _)
   (tuple_addW1 t b vs.toArray ws.toArray n S L j O z (by simpa using W) (by simp[hw])) ⟨B,i,h1 hw⟩
 refine concat_meets ⟨_,B,rfl⟩ ⟨_,i,rfl⟩ noFill_tuple_add seq_tuple_add wg wh (uQ _ _)
  (tuple_addW2 t b vs.toArray ws.toArray n S L j O z (by simpa using W) (by simpa using hw) (by rw[zy,zy];exact hsz)) ⟨B,i,?_⟩
 rw[e];exact h2 hw
noncomputable def JB(n d:Nat):Option Int->Nat
 |none=>d
 |some v=>if v<0 then(v+(n:Int)).toNat else min v.toNat n
theorem nG(n d:Nat)(j:d<=n)(o:Option Int):JB n d o<=n:=by
 cases o with
 |none=>exact j
 |some v=>
  show(if v<0 then(v+(n:Int)).toNat else min v.toNat n)<=n;by_cases i:v<0
  .rw[if_pos i];lia
  rw[if_neg i];exact Nat.min_le_right _ _
def aT(v:Int)(n d:Nat):(if v<0 then max (v+(n:Int)) 0 else min v (n:Int))=((JB n d (u7 v):Nat):Int):=by
 show(if v<0 then max (v+(n:Int)) 0 else min v (n:Int))=(((if v<0 then(v+(n:Int)).toNat else min v.toNat n):Nat):Int);by_cases i:v<0
 .simp only[if_pos i];lia
 simp[if_neg i];lia
theorem nH(lo hi:Option Int)(n:Nat):Builtin.Slice.sliceAdjust lo hi 1 (n:Int)=(((JB n 0 lo:Nat):Int),((JB n n hi:Nat):Int)):=by
 have d:¬((1:Int)<0):=by lia
 unfold Builtin.Slice.sliceAdjust;simp only[d,if_false];refine Prod.ext ?_ ?_
 .cases lo with
  |none=>rfl
  |some v=>exact aT v n 0
 cases hi with
 |none=>rfl
 |some v=>exact aT v n n
def nI(i j:Nat):Builtin.Slice.slicePlaces (i:Int) (j:Int) 1=j-i:=by
 unfold Builtin.Slice.slicePlaces;have d:(1:Int)>0:=by lia
 simp[d,if_true,Int.ediv_one]
 split <;> lia
theorem aU(p:IsPart v o)(h:Q o s):wW (vR prog w) A (Builtin.Slice.slicePartIndex v) Q E s:=by
 cases p with
 |none=>exact slicePart_none h
 |int i t=>exact slicePart_int h
def aV{y:vX}{j q:vk}{lo hi:Option Int}{n:Nat}{Q:Int×Int×Nat->vj->Prop}(B:s.heap.IsSliceOf y j q .none)(pl:IsPart j lo)(z:IsPart q hi)
  (h:Q (((JB n 0 lo:Nat):Int),1,JB n n hi-JB n 0 lo) s):wW (vR prog w) A (Builtin.Slice.sliceApplied (.ref y) (pure (n:Int))) Q E s:=by
 obtain⟨F,d,RX,i⟩:=id B;unfold Builtin.Slice.sliceApplied Builtin.Slice.sliceFields;refine wq (wq (wx d i (x:=j) rfl (wq (wx d i (x:=q) rfl (wq (wx d i rfl (w6 ?_)))))));refine wq (slicePart_none ?_);rw[if_neg (by decide)];refine wq (aU pl (wq (aU z (wq (w6 ?_)))))
 show wW _ _ (match Builtin.Slice.sliceAdjust lo hi 1 (n:Int)with |(lo,hi)=>pure (lo,(1:Int),Builtin.Slice.slicePlaces lo hi 1)) _ _ s
 rw[nH lo hi n];show wW _ _ (pure (((JB n 0 lo:Nat):Int),(1:Int),Builtin.Slice.slicePlaces ((JB n 0 lo:Nat):Int) ((JB n n hi:Nat):Int) 1)) _ _ s;rw[nI];exact w6 h
def nJ(xs:Array vk)(i k:Nat):((zW k).filterMap λ(m:Nat)=>xs[((i:Int)+(m:Int)*1).toNat]?).toArray=((xs.toList.drop i).take k).toArray:=by
 have e:(λ(m:Nat)=>xs[((i:Int)+(m:Int)*1).toNat]?)=λm=>xs[i+m]? :=by
  funext m;have:((i:Int)+(m:Int)*1).toNat=i+m:=by lia
  rw[this]
 rw[e];have:=pick_run xs i k;rw[j9]at this;have d:((λx=>xs[x]?) ∘ λx=>i+x)=λm=>xs[i+m]? :=rfl
 rw[d]at this;rw[this]
def nK{t sl:vX}{items:Array vk}{vl vu:vk}{lo hi:Option Int}{Q:vk->vj->Prop}(ht:IsTup s.heap t items)(hs:s.heap.IsSliceOf sl vl vu .none)(pl:IsPart vl lo)(pu:IsPart vu hi)
  (hw:¬(JB items.size 0 lo=0/\JB items.size items.size hi=items.size))
  (h:Q (.ref s.heap.objs.size) {s with heap:=s.heap.push {cls:=.type "tuple",data:=.seq ((items.toList.drop (JB items.size 0 lo)).take (JB items.size items.size hi-JB items.size 0 lo)).toArray}})
  (hsz:items.size<=sizeLine):wW (vR prog w) A (getItem (.ref t) (.ref sl)) Q E s:=by
 have HK:sizeOk (.seq ((items.toList.drop (JB items.size 0 lo)).take (JB items.size items.size hi-JB items.size 0 lo)).toArray):=by show((items.toList.drop (JB items.size 0 lo)).take (JB items.size items.size hi-JB items.size 0 lo)).toArray.size<=sizeLine;rw[zy,jQ,jy,qS];lia
 obtain⟨os,hos,RX,hds⟩:=id hs;unfold getItem
 try with_reducible refine wv ?_
 first|refine wq (w6 ?_)|skip
 refine wq (wpAny_sequenceKey ht.typeIs (by decide) ?_);refine wq (wz ht.typeIs jd
  (wj jd ht.typeIs entry_tuple_getitem ?_ (args_tuple_getitem _ _)))
 show wW _ _ (Builtin.Tuple.tupleItemsOf (.ref t) >>=_) _ _ s;refine wq (tupleItemsOf_ ht ?_);refine wq (wpAny_typeOf ⟨os,hos,RX⟩ ?_);rw[if_pos (by decide)];refine wq (aV hs pl pu ?_);have hno:¬((((JB items.size 0 lo:Nat):Int)==0&&(1:Int)==1&&(JB items.size items.size hi-JB items.size 0 lo)==items.size)=u9):=by intro q;rw[zP,zP]at q;have q1:=eq_of_beq q.1.1;have q2:=eq_of_beq q.2;exact hw ⟨by lia,by lia⟩
 show wW _ _ (if(((JB items.size 0 lo:Nat):Int)==0&&(1:Int)==1&&(JB items.size items.size hi-JB items.size 0 lo)==items.size)=u9 then _ else _) _ _ s;rw[if_neg hno,nJ]
 first
  |exact wq (wk (w6 ⟨_,rfl,w6 h⟩) HK)
  |exact wq (wk (wq (w6 (w6 ⟨_,rfl,w6 h⟩))) HK)
  |exact wq (wq (wk (w6 (w6 ⟨_,rfl,w6 h⟩)) HK))
  |exact wq (wq (wk (w6 ⟨_,rfl,w6 h⟩) HK))
end
end HT
namespace _L
open PySem PySem.Spec PyProof.Rows
variable{wM:List (vX×Obj)}{s:vj}
noncomputable abbrev TO:=St->Hp->(Option Int->Hp->Prop)->Prop
def PO(X:Cx)(e:Option vW)(t:TO):Prop:=
 ∀(wM:List (vX×Obj))(s:vj)(σ:St)(H:Hp)(Q:Option Int->Hp->Prop),Inv X wM σ H s->t σ H Q->
  wW (vR X.prog X.w) X.A (evalPart e X.env) (λu s'=>∃o H',Inv X wM σ H' s'/\IsPart u o/\Q o H') X.xe s
noncomputable def nL:TO:=λ_ H Q=>Q u8 H
noncomputable def nM(t:TE):TO:=λσ H Q=>t σ H λx H1=>∃i,x=.int i/\Q (u7 i) H1
section
variable{X:Cx}{e:vW}{te:TE}{lo hi:Option vW}{tl th:TO}{pos p2:Pos}
def nN:PO X u8 nL:=by intro d s i H Q I h;rw[evalPart_none];exact w6 ⟨u8,H,I,.none,h⟩
def nO(h:PE X e te):PO X (u7 e) (nM te):=by
 intro d s F H Q I hw;rw[evalPart_some];refine GB (h d s F H _ I hw) λu J j=>?_
 obtain⟨x,y,B,n,z⟩:=j;obtain⟨i,rfl,q⟩:=z;obtain⟨t,rfl⟩:=n;exact⟨u7 i,y,B,.int i t,q⟩
def NO(X:Cx)(r:V->Option Int->Option Int->Hp->VK->Prop):Prop:=
 ∀(wM:List (vX×Obj))(s:vj)(σ:St)(H:Hp)(x:V)(v vl vu:vk)(lo hi:Option Int)(sl:vX)(Q:VK),Inv X wM σ H s->RelV x v->s.heap.IsSliceOf sl vl vu .none->IsPart vl lo->IsPart vu hi->r x lo hi H Q->
  ∃T id,typeLookup (.type T) "__getitem__"=pure (u7 (.builtin id))/\s.TypeIs v T/\wW (vR X.prog X.w) X.A (getItem v (.ref sl)) (EP X wM σ Q) X.xe s
def NO.or(h:NO X r)(h':NO X r'):NO X (λx lo hi H Q=>r x lo hi H Q\/r' x lo hi H Q):=by
 intro d s z H x v n B lo hi F Q I j y pl i q;rcases q with q|q
 .exact h d s z H x v n B lo hi F Q I j y pl i q
 exact h' d s z H x v n B lo hi F Q I j y pl i q
noncomputable def tSl(r:V->Option Int->Option Int->Hp->VK->Prop)(te:TE)(tl th:TO):TE:=λσ H Q=>te σ H λx H1=>tl σ H1 λl H2=>th σ H2 λu H3=>r x l u H3 Q
def nQ(hr:NO X r)(he:PE X e te)(hl:PO X lo tl)(hu:PO X hi th):PE X (.Subscript e (.Slice lo hi u8 p2) pos) (tSl r te tl th):=by
 intro d s j H Q I h;refine Subscript_ (GB (he d s j H _ I h) λv s1 y=>?_);obtain⟨x,L,M,S,q1⟩:=y;refine wpAny_Slice (GB (hl d s1 j L _ M q1) λB Z ⟨l,W,I2,pl,Y⟩=>GB (hu d Z j W _ I2 Y) λF n y=>?_);obtain⟨u,U,O,pu,q3⟩:=y;rw[evalPart_none];refine w6 ?_;obtain⟨T,id,hT,J,hg⟩:=hr d {n with heap:=n.heap.push {cls:=.type "slice",data:=.fields #[B,F,.none]}} j U x v B F l u n.heap.objs.size Q (O.kept (t':=n.toks) λb ob q=>zX _ q) S (Heap.IsSliceOf.new ..) pl pu q3
 exact tail_any J hT hg (by with_unfolding_all rfl)
def Mf(xs:List V)(lo hi:Option Int):List V:=(xs.drop (HT.JB (lN xs) 0 lo)).take (HT.JB (lN xs) (lN xs) hi-HT.JB (lN xs) 0 lo)
def aW(xs:List V)(lo hi:Option Int):lN (Mf xs lo hi)<=lN xs:=by unfold Mf;rw[jQ,jy];lia
def L1(K:za):V->Option Int->Option Int->Hp->VK->Prop:=λx lo hi H Q=>∃a xs,x=.ref a/\UE K H a xs/\
 ¬(HT.JB (lN xs) 0 lo=0/\HT.JB (lN xs) (lN xs) hi=lN xs)/\∀p,H p=u8->Q (.ref p) (upd H p (.tup (Mf xs lo hi)))
def nR:NO X (L1 X.K):=by
 intro B s U H x v S W n F Y Q I M N pl L h;obtain⟨a,i,rfl,J,hw,q⟩:=h;cases M;obtain⟨j,r,y,z⟩:=I.tuple J;have d:j.toArray.size=lN i:=zy▸r.length.symm;refine⟨"tuple",_,PyProof.Rows.slot_tuple_getitem.lookup,y.typeIs,?_⟩;refine HT.nK y N pl L (d▸hw) ?_ (d▸z);rw[d];refine⟨.ref s.heap.objs.size,_,I.laid (λb O q=>zX _ q) (zv _) ?_,rfl,q _ (I.UA.fresh (zv _))⟩
 exact⟨zG (aW i n F) z,_,(r.drop (HT.JB (lN i) 0 n)).take (HT.JB (lN i) (lN i) F-HT.JB (lN i) 0 n),IsTup.new _ _⟩
def nS(K:za):R2:=λx y H Q=>∃a b xs ys,x=.ref a/\y=.ref b/\UE K H a xs/\UE K H b ys/\xs≠[]/\lN xs+lN ys<=sizeLine/\
 (ys=[]->Q (.ref a) H)/\(ys≠[]->∀p,H p=u8->Q (.ref p) (upd H p (.tup (xs++ys))))
theorem Vals.Yr(r:Vals xs us):us=[]↔xs=[]:=by
 cases r with
 |_=>simp
def nT:GC X (vG .Add) (nS X.K):=by
 intro j s Z H x y v u Q I M W h;obtain⟨a,b,xs,ys,rfl,rfl,U,J,F,B,Y,N⟩:=h;cases M;cases W;obtain⟨L,i,O,_⟩:=I.tuple U;obtain⟨n,d,S,_⟩:=I.tuple J;refine HT.nF O S (λz=>F (i.Yr.mp z)) (λz=>⟨.ref a,H,I,rfl,Y (d.Yr.mp z)⟩) (λz=>?_) (by rw[<-i.length,<-d.length];exact B);refine⟨.ref s.heap.objs.size,_,I.laid (λb ob q=>zX _ q) (zv _) ?_,rfl,N (λw=>z (d.Yr.mpr w)) _ (I.UA.fresh (zv _))⟩
 exact⟨zL▸B,_,i.append d,IsTup.new _ _⟩
end
noncomputable def PJ(n:Nat)(i:Int):Option Nat:=if 0<=i then(if i<n then u7 i.toNat else u8)else if -(n:Int)<=i then u7 (i+n).toNat else u8
def MC{α:Type}(xs:List α)(i:Int):Option α:=(PJ (lN xs) i).bind λj=>xs[j]?
def aX(h:PJ n i=u7 j):seqIndex? i n=u7 j/\j<n/\ -(n:Int)<=i/\i<n:=by
 unfold PJ at h;by_cases q:0<=i
 .rw[if_pos q]at h;by_cases d:i<n
  .rw[if_pos d]at h;have e:=Option.some.inj h;exact⟨by rw[seqIndex_of q d,e],by lia,by lia,d⟩
  rw[if_neg d]at h;cases h
 rw[if_neg q]at h;by_cases d: -(n:Int)<=i
 .rw[if_pos d]at h;have e:=Option.some.inj h;exact⟨by rw[seqIndex_neg (by lia) d,e],by lia,d,by lia⟩
 rw[if_neg d]at h;cases h
theorem Ui{d:Type}{xs:List d}{i:Int}{v:d}(h:MC xs i=u7 v):∃j,seqIndex? i (lN xs)=u7 j/\xs[j]?=u7 v/\j<lN xs/\ -(lN xs:Int)<=i/\i<lN xs:=by
 unfold MC at h;cases e:PJ (lN xs) i with
 |none=>rw[e]at h;cases h
 |some j=>
  rw[e]at h;obtain⟨y,q,n,z⟩:=aX e;exact⟨j,y,h,q,n,z⟩
def IK(b:vW):Prop:=∀o i,subscripted b uA o i=operate [o,i] (getItem o i)
def QJ(X:Cx)(r:R2):Prop:=
 ∀(value slice:vW)(wM:List (vX×Obj))(s:vj)(σ:St)(H:Hp)(x y:V)(v u:vk)(Q:VK),Inv X wM σ H s->RelV x v->RelV y u->r x y H Q->
  subscripted slice uA v u=operate [v,u] (getItem v u)->wW (vR X.prog X.w) X.A (subscriptTail value slice v u) (EP X wM σ Q) X.xe s
def MtR(X:Cx)(id:String)(r:V->List V->Hp->VK->Prop):Prop:=
 ∀(wM:List (vX×Obj))(s:vj)(σ:St)(H:Hp)(x:V)(xs:List V)(v:vk)(us:List vk)(Q:VK),Inv X wM σ H s->RelV x v->Vals xs us->r x xs H Q->
  wW (vR X.prog X.w) X.A (call (.builtin id) (v::us)) (EP X wM σ Q) X.xe s
section
variable{X:Cx}{a b:vW}{ta tb:TE}{pos:Pos}
def QJ.or(h:QJ X r)(h':QJ X r'):QJ X (λx y H Q=>r x y H Q\/r' x y H Q):=by
 intro d i j s B H x y v u Q I n F q z;rcases q with q|q
 .exact h d i j s B H x y v u Q I n F q z
 exact h' d i j s B H x y v u Q I n F q z
def nU(z:QJ X r)(J:PE X a ta)(n:PE X b tb)(B:IK b):PE X (.Subscript a b pos) (VU r ta tb):=by intro d s F H Q I h;exact Subscript_ (Vs J n I h λv u N x y L j i M q=>z a b d N F L x y v u Q j i M q (B _ _))
def HV(K:za):R2:=λx y H Q=>∃p xs i v,x=.ref p/\y=.int i/\ME K H p xs/\MC xs i=u7 v/\Q v H
def IV(K:za):R2:=λx y H Q=>∃p xs i v,x=.ref p/\y=.int i/\UE K H p xs/\MC xs i=u7 v/\Q v H
def JV:R2:=λx y H Q=>∃z i c,x=.str z/\y=.int i/\z.length<=sizeLine/\MC z.cps.toList i=u7 c/\Q (.str ⟨#[c]⟩) H
def nV:QJ X (HV X.K):=by
 intro value slice wM s σ H x y v u Q I rx ry h hs;obtain⟨p,xs,i,z,rfl,rfl,hq,he,q⟩:=h;cases rx;obtain⟨t,rfl⟩:=ry;obtain⟨OA,r,pl,hz⟩:=I.list hq;obtain⟨j,h1,h2,h3,h4,h5⟩:=Ui he;obtain⟨w,ew,OR⟩:=r.get h2;have hl:=r.length;have hn:=VE;have fin:EP X wM σ Q w s:=⟨z,H,I,OR,q⟩;by_cases h0:0<=i
 .have hj:i.toNat=j:=by rw[seqIndex_of h0 h5]at h1;exact Option.some.inj h1
  exact item_listR pl.isList h0 (by lia) (by rw[hj];simpa using ew) fin hs
 have hj:(i+(OA.toArray.size:Int)).toNat=j:=by rw[seqIndex_neg (by lia) h4]at h1;rw[zy,<-hl];exact Option.some.inj h1
 exact subscriptTail_builtinR pl.isList.typeIs slot_list_getitem.lookup
  (wpAny_getItem_list_neg pl.isList (by lia) (by rw[zy]<;>lia) (by lia) (by rw[hj];simpa using ew) ⟨rfl,fin⟩) hs
def nW:QJ X (IV X.K):=by
 intro value slice wM s σ H x y v u Q I rx ry h hs;obtain⟨p,xs,i,z,rfl,rfl,hq,he,q⟩:=h;cases rx;obtain⟨t,rfl⟩:=ry;obtain⟨OA,r,pl,hz⟩:=I.tuple hq;obtain⟨j,h1,h2,h3,h4,h5⟩:=Ui he;obtain⟨w,ew,OR⟩:=r.get h2;have hn:=VE;exact subscriptTail_builtinR pl.typeIs slot_tuple_getitem.lookup
  (getItem_tuple pl (by lia) (by lia) (by rw[zy,<-r.length];exact h1) (by simpa using ew) ⟨rfl,⟨z,H,I,OR,q⟩⟩) hs
def nX:QJ X JV:=by
 intro value slice wM s σ H x y v u Q I rx ry h hs;obtain⟨z,i,c,rfl,rfl,hz,he,q⟩:=h;obtain⟨t,rfl⟩:=rx;obtain⟨t',rfl⟩:=ry;obtain⟨j,h1,h2,h3,h4,h5⟩:=Ui he;have hl:z.cps.toList.length=z.length:=by simp[Str.length]
 rw[hl]at h1 h4 h5;have hn:=VE;exact tail_any (typeIs_str s z t) slot_str_getitem.lookup (getItem_str (by rw[decide_eq_false (by lia),decide_eq_false (by lia),Bool.or_false]) (by rw[h1];simpa using h2) ⟨.str ⟨#[c]⟩,H,I.tok _,⟨_,rfl⟩,q⟩) hs
def N1(K:za):R2:=λx y H Q=>HV K x y H Q\/IV K x y H Q\/JV x y H Q
def nY:QJ X (N1 X.K):=nV.or (nW.or nX)
def nZ(OA:List vk)(n j:Nat)(u:vk):Obj.mapSeq (·.setIfInBounds j u) {cls:=.type "list",data:=.seq OA.toArray n}={cls:=.type "list",data:=.seq (OA.set j u).toArray n}:=by simp[Obj.mapSeq]
def Inv.lst{d:St}{H:Hp}{p:vX}{xs:List V}(I:Inv X wM d H s)(h:H p=u7 (.lst xs)):
  ∃(OA:List vk)(n:Nat),Vals xs OA/\s.heap.get? p=u7 {cls:=.type "list",data:=.seq OA.toArray n}/\lN xs<=sizeLine:=by
 obtain⟨z,OA,n,r,e⟩:=I.UA p _ h;exact⟨OA,n,r,e,z⟩
def Inv.n4{j:St}{H:Hp}{p:vX}{xs ys:List V}{OA GI:List vk}{n i:Nat}{f:Obj->Obj}(I:Inv X wM j H s)(h:H p=u7 (.lst xs))
  (ho:s.heap.get? p=u7 {cls:=.type "list",data:=.seq OA.toArray n}) (z:f {cls:=.type "list",data:=.seq OA.toArray n}={cls:=.type "list",data:=.seq GI.toArray i}) (r:Vals ys GI) (hz:lN ys<=sizeLine) (t:Nat):
  Inv X wM j (upd H p (.lst ys)) {s with heap:=s.heap.update p f,toks:=t}:=by
 have e:(s.heap.update p f).get? p=u7 {cls:=.type "list",data:=.seq GI.toArray i}:=by rw[xC f ho (by rw[z]<;>rfl),z]
 exact I.write (by rw[h];trivial) (.inl rfl) (λb u B q=>(Heap.get?_update_other _ _ (Ne.symm B)).trans q) ⟨_,e⟩ ⟨hz,GI,i,r,e⟩
def n6:V->V->V->Hp->(Hp->Prop)->Prop:=λo i v H Q=>∃p xs k j,o=.ref p/\i=.int k/\H p=u7 (.lst xs)/\PJ (lN xs) k=u7 j/\Q (upd H p (.lst (xs.set j v)))
def set_list:MR X n6:=by
 intro wM s σ H o i v ov iv u Q I ro ri rv h;obtain⟨p,xs,k,j,rfl,rfl,hp,hj,q⟩:=h;cases ro;obtain⟨t,rfl⟩:=ri;obtain⟨OA,n,r,ho,hz⟩:=I.lst hp;obtain⟨h1,h2,h3,h4⟩:=aX hj;have hl:=r.length;have hn:=VE;have I':=
  I.n4 hp ho (nZ OA n j u) (r.set rv j) (by rw[qH];exact hz) s.toks
 by_cases h0:0<=k
 .have hk:k.toNat=j:=by rw[seqIndex_of h0 h4]at h1;exact Option.some.inj h1
  exact PySem.W.ki_setAt ho h0 (by lia) (by rw[zy,<-hl];exact h4) (by rw[hk];exact⟨_,I',q⟩)
 have hk:(k+(OA.toArray.size:Int)).toNat=j:=by rw[seqIndex_neg (by lia) h3]at h1;rw[zy,<-hl];exact Option.some.inj h1
 exact PySem.W.ki_setBack ho (by lia) (by rw[zy,<-hl];exact h3) (by lia) (by rw[hk];exact⟨_,I',q⟩)
theorem n8(lo hi:Option Int)(n:Nat):(vU lo hi u8 n).1=((HT.JB n 0 lo:Nat):Int)/\(vU lo hi u8 n).2.1=((HT.JB n n hi:Nat):Int)/\(vU lo hi u8 n).2.2=1:=by
 refine⟨?_,?_,rfl⟩
 .cases lo with
  |none=>simp[vU,HT.JB]
  |some i=>
   simp[vU,HT.JB,Option.getD_none,show(1:Int)>0 by decide,if_true];by_cases h:i<0
   .simp only[h,if_true]<;>lia
   simp[h,if_false]<;>lia
 cases hi with
 |none=>simp[vU,HT.JB]
 |some i=>
  simp[vU,HT.JB,Option.getD_none,show(1:Int)>0 by decide,if_true];by_cases h:i<0
  .simp only[h,if_true]<;>lia
  simp[h,if_false]<;>lia
def n9(OA:List vk)(lo hi:Option Int):slicePick OA.toArray lo hi u8=((OA.drop (HT.JB (lN OA) 0 lo)).take (HT.JB (lN OA) (lN OA) hi-HT.JB (lN OA) 0 lo)).toArray:=by
 obtain⟨j,d,i⟩:=n8 lo hi OA.toArray.size;unfold slicePick;rw[j,d,i]
 simp only[sliceRange_one,pick_run,zy]<;>rfl
def MV(K:za):V->Option Int->Option Int->Hp->VK->Prop:=λx lo hi H Q=>∃a xs,x=.ref a/\ME K H a xs/\∀p,H p=u8->Q (.ref p) (upd H p (.lst (Mf xs lo hi)))
def nc:NO X (MV X.K):=by
 intro y s U H x v S W j z Y Q I M N pl F h;obtain⟨a,i,rfl,B,q⟩:=h;cases M;obtain⟨J,r,n,L⟩:=I.list B;have d:=r.length;refine⟨"list",_,slot_list_getitem.lookup,n.isList.typeIs,?_⟩
 refine wpAny_getItem_list_slice n.isList N pl F .none (by simp) ?_ (by rw[zy]<;>lia)
 rw[n9,<-d];refine⟨.ref s.heap.objs.size,_,I.laid (λb O q=>zX _ q) (zv _) ?_,rfl,q _ (I.UA.fresh (zv _))⟩;exact⟨zG (aW i j z) L,_,0,(r.drop (HT.JB i.length 0 j)).take (HT.JB i.length i.length z-HT.JB i.length 0 j),z3 _ rfl⟩
noncomputable def Dw:V->Bool
 |.LA=>u9
 |.bl _=>u9
 |.int _=>u9
 |.str _=>u9
 |_=>uA
noncomputable def HI:V->V->Bool
 |.LA,.LA=>u9
 |.bl a,.bl b=>a==b
 |.bl a,.int b=>(if a then 1 else 0)==b
 |.int a,.bl b=>a==(if b then 1 else 0)
 |.int a,.int b=>a==b
 |.str a,.str b=>a==b
 |_,_=>uA
theorem aY(n:RelV y u)(d:RelV x v)(q:Dw y=u9)(j:Dw x=u9):SeqAt.EqAt A s u v (HI y x):=by
 cases y with
 |LA=>
  cases n;cases x with
  |LA=>cases d;exact SeqAt.EqAt.same _
  |bl b=>cases d;exact SeqAt.EqAt.none_bool b
  |int b=>obtain⟨t,rfl⟩:=d;exact SeqAt.EqAt.none_int b t
  |str b=>obtain⟨t,rfl⟩:=d;exact SeqAt.EqAt.none_str b t
  |_=>exact absurd (j) zH
 |bl a=>
  cases n;cases x with
  |LA=>cases d;exact SeqAt.EqAt.bool_none a
  |bl b=>cases d;exact SeqAt.EqAt.bool_bool a b
  |int b=>obtain⟨t,rfl⟩:=d;exact SeqAt.EqAt.bool_int a b t
  |str b=>obtain⟨t,rfl⟩:=d;exact SeqAt.EqAt.bool_str a b t
  |_=>exact absurd (j) zH
 |int a=>
  obtain⟨i,rfl⟩:=n;cases x with
  |LA=>cases d;exact SeqAt.EqAt.int_none a i
  |bl b=>cases d;exact SeqAt.EqAt.int_bool a i b
  |int b=>obtain⟨t,rfl⟩:=d;exact SeqAt.EqAt.int_int a i b t
  |str b=>obtain⟨t,rfl⟩:=d;exact vh a i b t
  |_=>exact absurd (j) zH
 |str a=>
  obtain⟨i,rfl⟩:=n;cases x with
  |LA=>cases d;exact SeqAt.EqAt.str_none a i
  |bl b=>cases d;exact SeqAt.EqAt.str_bool a i b
  |int b=>obtain⟨t,rfl⟩:=d;exact wO a i b t
  |str b=>obtain⟨t,rfl⟩:=d;exact SeqAt.EqAt.str_str a i b t
  |_=>exact absurd (j) zH
 |_=>exact absurd (q) zH
def OO(x:V)(u:vk):Bool:=match u with
 |.none=>HI .LA x
 |.bool b=>HI (.bl b) x
 |.int i _=>HI (.int i) x
 |.str z _=>HI (.str z) x
 |_=>uA
theorem aZ(r:RelV y u)(f:Dw y=u9):OO x u=HI y x:=by
 cases y with
 |LA|bl b=>cases r;rfl
 |int i|str z=>obtain⟨t,rfl⟩:=r;rfl
 |_=>exact absurd (f) zH
theorem Uw:∀{xs:List V}{us:List vk},Vals xs us->xs.all Dw=u9->us.any (OO x)=xs.any λy=>HI y x
 |_,_,.nil,_=>rfl
 |y::xs,u::us,.cons r t,f=>by rw[jE,zP]at f;rw[j0,j0,aZ r f.1,Uw t f.2]
theorem Xl(i:RelV x v)(j:Dw x=u9):∀{xs:List V}{us:List vk},Vals xs us->xs.all Dw=u9->∀u∈us,SeqAt.EqAt A s u v (OO x u)
 |_,_,.nil,_=>λu d=>by cases d
 |y::xs,u::us,.cons r t,f=>λn d=>by
  rw[jE,zP]at f;rcases z0.mp d with rfl|d
  .rw[aZ r f.1];exact aY r i f.1 j
  exact Xl i j t f.2 n d
def LN(x:V)(xs:List V):Bool:=xs.any λy=>HI y x
def rIn(K:za)(neg:Bool):R2:=λx y H Q=>∃p xs,y=.ref p/\(ME K H p xs\/UE K H p xs)/\Dw x=u9/\xs.all Dw=u9/\Q (.bl (if neg then !LN x xs else LN x xs)) H
def nh:GC X (vL .NotIn) (rIn X.K u9):=by
 intro j s J H x y v u Q I z F h;obtain⟨p,L,rfl,i,n,fs,q⟩:=h;cases F;rcases i with i|i
 .obtain⟨d,r,pl,B⟩:=I.list i;refine SeqAt.notIn_listAt (OO x) pl.isList (λw hw=>Xl z n r fs w (by simpa using hw)) ⟨.bl _,H,I,rfl,?_⟩;rw[show d.toArray.any (OO x)=d.any (OO x) by simp,Uw r fs];exact q
 obtain⟨d,r,pl,B⟩:=I.tuple i;refine SeqAt.notIn_tupleAt (OO x) pl (λw hw=>Xl z n r fs w (by simpa using hw)) ⟨.bl _,H,I,rfl,?_⟩;rw[show d.toArray.any (OO x)=d.any (OO x) by simp,Uw r fs];exact q
def ni:LB X (.builtin "len") (λxs H Q=>∃p ys,xs=[.ref p]/\(ME X.K H p ys\/UE X.K H p ys)/\Q (.int ys.length) H):=by
 intro wM s σ H xs us Q I r h;obtain⟨p,ys,rfl,hq,q⟩:=h;obtain⟨u,rfl,rx⟩:=vals1 r;cases rx;have hn:=VE;rcases hq with hq|hq
 .obtain⟨OA,r',pl,hz⟩:=I.list hq;have hlen:=r'.length
  exact Calls.call_len_list pl.isList (by simp only[zy]<;>lia) ⟨.int ys.length,H,I.tok _,⟨s.toks+1,by rw[zy,hlen]⟩,q⟩
 obtain⟨OA,r',pl,hz⟩:=I.tuple hq;have hlen:=r'.length
 exact len_tuple pl (by simp only[zy]<;>lia) ⟨.int ys.length,H,I.tok _,⟨s.toks+1,by rw[zy,hlen]⟩,q⟩
def nj:LB X (.builtin "len") (λxs H Q=>∃z,xs=[.str z]/\z.length<=sizeLine/\Q (.int z.length) H):=by intro wM s σ H xs us Q I r h;obtain⟨z,rfl,hz,q⟩:=h;obtain⟨u,rfl,t,rfl⟩:=vals1 r;have hn:=VE;exact len_str (by lia) ⟨.int z.length,H,I.tok _,⟨_,rfl⟩,q⟩
def LB.or(h:LB X f r)(h':LB X f r'):LB X f (λxs H Q=>r xs H Q\/r' xs H Q):=by
 intro d s n H xs j Q I i q;rcases q with q|q
 .exact h d s n H xs j Q I i q
 exact h' d s n H xs j Q I i q
def nk:LB X (.type "list") (λxs H Q=>∃p ys,xs=[.ref p]/\(ME X.K H p ys\/UE X.K H p ys)/\∀l,H l=u8->Q (.ref l) (upd H l (.lst ys))):=by
 intro B s Z H xs us Q I r h;obtain⟨p,ys,rfl,N,q⟩:=h;obtain⟨u,rfl,Y⟩:=vals1 r;cases Y;have J:∀(d:List vk),Vals ys d->ys.length<=sizeLine->∀(j:Heap)(z:Nat),(∀b W,s.heap.get? b=u7 W->j.get? b=u7 W)->
   j.get? s.heap.objs.size=u7 {cls:=.type "list",dict:=u8,data:=.seq d.toArray z,slots:= #[]}->EP X B Z Q (.ref s.heap.objs.size) {s with heap:=j}:=λd y F j z L e=>
  ⟨.ref s.heap.objs.size,_,I.laid L (zv _) (show XB X.prog X.w _ j _ (.lst ys)from⟨F,d,z,y,e⟩),rfl,q _ (I.UA.fresh (zv _))⟩
 rcases N with N|N
 .obtain⟨d,y,pl,F⟩:=I.list N;have M:=y.length;obtain⟨o,O,S,n,U⟩:=pl.isList
  exact call_list_seq p (.inl rfl) O S U (λj z L e=>J d y F j z L e) (by simp[zy]<;>lia)
 obtain⟨d,y,pl,F⟩:=I.tuple N;have M:=y.length;obtain⟨o,O,S,n,U⟩:=pl
 exact call_list_seq p (.inr rfl) O S U (λj z L e=>J d y F j z L e) (by simp[zy]<;>lia)
def nq:LB X (.type "tuple") (λxs H Q=>∃p ys,xs=[.ref p]/\((ME X.K H p ys/\∀l,H l=u8->Q (.ref l) (upd H l (.tup ys)))\/(UE X.K H p ys/\Q (.ref p) H))):=by
 intro y s M H xs N Q I r h;obtain⟨p,ys,rfl,h⟩:=h;obtain⟨u,rfl,J⟩:=vals1 r;cases J;rcases h with⟨j,q⟩|⟨j,q⟩
 .obtain⟨d,i,pl,n⟩:=I.list j;have B:=i.length
  refine call_tuple_list pl.isList (λF L=>?_) (by simp[zy]<;>lia)
  have z:=I.kept (t':=s.toks) L
  exact⟨.ref F.objs.size,_,z.laid (t':=s.toks) (λb o e=>zX _ e) (zv _) (show XB X.prog X.w _ _ _ (.tup ys)from⟨n,d,i,IsTup.new _ _⟩),rfl,q _ (z.UA.fresh (zv _))⟩
 obtain⟨d,i,pl,n⟩:=I.tuple j;exact call_tuple_same pl ⟨.ref p,H,I,rfl,q⟩
def Q1(K:za)(T:String)(x:V)(H:Hp):Prop:=match x with
 |.str _=>T="str"
 |.int _=>T="int"
 | .ref p=>(T="list"/\∃xs,ME K H p xs)\/(T="tuple"/\∃o,K.lookup p=u7 o/\o.cls=.type "tuple"/\o.dict=u8)\/
   (T="dict"/\((∃KA,H p=u7 (.dK KA))\/∃KA,H p=u7 (.dT KA)))\/(T="set"/\∃S n,H p=u7 (.set S n))
 |_=>False
theorem nr{L:St}{H:Hp}{T:String}{x:V}{v:vk}(I:Inv X wM L H s)(r:RelV x v)(ty:Q1 X.K T x H):
  s.TypeIs v T/\∀a,v=.ref a->∃B,s.heap.get? a=u7 B/\B.dict=u8:=by
 cases x with
 |str z=>
  obtain⟨t,rfl⟩:=r;cases(ty);exact⟨typeIs_str s z t,nofun⟩
 |int i=>
  obtain⟨t,rfl⟩:=r;cases(ty);exact⟨typeIs_int s i t,nofun⟩
 | ref p=>
  cases r;rcases ty with⟨rfl,N,M⟩|⟨rfl,o,hk,J,q⟩|⟨rfl,hk⟩|⟨rfl,S,n,hk⟩
  .obtain⟨F,_,pl,_⟩:=I.list M;refine⟨pl.isList.typeIs,λa e=>?_⟩;cases e;obtain⟨o,n,e,c,q,_⟩:=pl;exact⟨o,e,q⟩
  .refine⟨⟨o,I.SG p o hk,J⟩,λa e=>?_⟩;cases e;exact⟨o,I.SG _ o hk,q⟩
  .have z:∃o,s.heap.get? p=u7 o/\o.ExactDict:=by
    rcases hk with⟨j,hk⟩|⟨j,hk⟩
    .obtain⟨_,_,_,_,o,_,_,e,d,_⟩:=I.UA p _ hk;exact⟨o,e,d⟩
    obtain⟨_,_,_,_,o,_,_,e,d,_⟩:=I.UA p _ hk;exact⟨o,e,d⟩
   obtain⟨o,e,d⟩:=z;refine⟨⟨o,e,d.1⟩,λa y=>?_⟩;cases y;exact⟨o,e,d.2.1⟩
  obtain⟨o,_,_,_,e,d,_⟩:=I.UA p _ hk;refine⟨⟨o,e,d.1⟩,λa y=>?_⟩;cases y;exact⟨o,e,d.2.1⟩
 |_=>exact False.elim ty
noncomputable def tBM(K:za)(T:String)(r:V->List V->Hp->VK->Prop)(to:TE)(t:TA):TE:=λσ H Q=>to σ H λx H1=>Q1 K T x H1/\t σ H1 λxs H2=>r x xs H2 Q
variable{o e:vW}{es:List vW}{to:TE}{t:TA}{name:Str}{apos RB:Pos}{T id:String}{r:V->List V->Hp->VK->Prop}
def nv(pa:PlainAttrs T)(y:Slot T name id)(B:typeOf (.builtin id)=pure (.type "method_descriptor"))(Z:MtR X id r)(ho:PE X o to)(ha:PA X (e::es) t)
  (j:vC o name X.env (eval o X.env)=eval o X.env:=by rfl)
  (q:((vD RB (wQ (e::es) X.env)).all (λx=> !x.1)&&(vE RB (vN [] X.env)).all (λx=>x.1.isSome)
   && decide (lN (e::es)+lN ([]:List Keyword)+(if([]:List Keyword).isEmpty then 0 else 1)<30))=u9:=by rfl)
  (n:(apos.endLine==RB.line)=u9:=by rfl) (hs:wQ (e::es) X.env=(uA,eval e X.env)::wQ es X.env:=by rfl) (i:(vD RB (wQ es X.env)).any (·.1)=uA:=by rfl):
  PE X (.Call (.Attribute o name apos) (e::es) [] RB) (tBM X.K T r to t):=by
 intro d s z H Q I h;refine wpAny_Call_method_late j q n rfl (GB (ho d s z H _ I h) λv s1 zz=>?_);obtain⟨x,M,F,J,ty,q1⟩:=zz;obtain⟨h1,h2⟩:=nr F J ty;refine⟨T,id,pa,y,B,h1,h2,?_⟩;have L:=ha RB d s1 z M _ F q1;rw[hs]at L⊢
 exact Calls.callWith_builtin (by show(uA||(vD RB (wQ es X.env)).any (·.1))=uA;rw[i]<;>rfl) (Calls.evalArgs_plain (GB L λS W ⟨vs,O,Y,N,U⟩=>Z d W z O x vs v S Q Y J N U))
end
def MN(X:Cx)(id:String)(r:V->List V->Hp->VK->Prop):Prop:=
 ∀(wM:List (vX×Obj))(s:vj)(σ:St)(H:Hp)(x:V)(xs:List V)(v:vk)(us:List vk)(Q:VK),Inv X wM σ H s->RelV x v->Vals xs us->r x xs H Q->
  wW (vR X.prog X.w) X.A (call (.builtin id) (v::us)) (EP X wM σ Q) X.xe s
def Vals.one:∀{x:V}{us:List vk},Vals [x] us->∃u,us=[u]/\RelV x u:=by intro x us h;cases h with |cons r t=>cases t;exact⟨_,rfl,r⟩
theorem Vals.eraseIdx:∀{xs:List V}{us:List vk}(i:Nat),Vals xs us->Vals (xs.eraseIdx i) (us.eraseIdx i)
 |_,_,_,.nil=>.nil
 |_,_,0,.cons _ t=>t
 |_,_,i+1,.cons r t=>.cons r (Vals.eraseIdx i t)
theorem Vals.rep(h:Vals xs us):∀k:Nat,Vals (zQ k xs).flatten (zQ k us).flatten
 |0=>.nil
 |k+1=>by rw[qy,qy,jv,jv];exact Vals.append h (Vals.rep h k)
theorem a0{d:Type}:∀(l:List d)(i:Nat),lN (l.eraseIdx i)<=lN l
 |[],_=>zv _
 |_::_,0=>jN _
 |_::r,i+1=>Nat.succ_le_succ (a0 r i)
theorem foldl_rep(OA:List vk):∀(k:Nat)(acc:List vk),
  List.foldl (λx1 d=>x1++d) acc.toArray (zQ k OA.toArray)=(acc++(zQ k OA).flatten).toArray
 |0,acc=>by simp
 |k+1,acc=>by
  have e:acc.toArray++OA.toArray=(acc++OA).toArray:=by simp
  have i:(acc++OA)++(zQ k OA).flatten=acc++(zQ (k+1) OA).flatten:=by rw[qy,jv,qk]
  rw[<-i,<-foldl_rep OA k (acc++OA),<-e,qy,List.foldl_cons]
section
variable{X:Cx}{wM:List (vX×Obj)}{σ:St}{H:Hp}{s:vj}{l b:vX}{xs ys zs:List V}
def Inv.NV{OA GI:List vk}{n:Nat}{f:Array vk->Array vk}{t':Nat}(I:Inv X wM σ H s)(hH:H l=u7 (.lst xs))
  (e:s.heap.get? l=u7 {cls:=.type "list",data:=.seq OA.toArray n}) (hf:f OA.toArray=GI.toArray) (hv:Vals ys GI) (hz:lN ys<=sizeLine):
  Inv X wM σ (upd H l (.lst ys)) {s with heap:=s.heap.update l (Obj.mapSeq f),toks:=t'}:=by
 have q:=PySem.IsL.update e f;rw[hf]at q;exact I.write (hH▸trivial) (.inl rfl) (λb' u hb hu=>(Heap.get?_update_other s.heap (Obj.mapSeq f) (Ne.symm hb)).trans hu) ⟨_,q⟩ ⟨hz,GI,_,hv,q⟩
def Inv.OV(I:Inv X wM σ H s)(y:Vals ys OA)(hz:lN ys<=sizeLine):
  Inv X wM σ (upd H s.heap.objs.size (.lst ys)) {s with heap:=s.heap.push {cls:=.type "list",data:=.seq OA.toArray},toks:=t'}:=
 I.laid (λ_ _ q=>zX _ q) (zv _) ⟨hz,OA,0,y,z3 _ rfl⟩
def Inv.fresh(I:Inv X wM σ H s):H s.heap.objs.size=u8:=I.UA.fresh (zv _)
def Inv.PV(I:Inv X wM σ H s)(d:H l=u7 (.lst xs)):xs.length<=sizeLine/\∃(OA:List vk)(n:Nat),Vals xs OA/\xs.length=OA.length/\s.heap.get? l=u7 {cls:=.type "list",data:=.seq OA.toArray n}:=by obtain⟨z,OA,n,r,e⟩:=I.UA l _ d;exact⟨z,OA,n,r,r.length,e⟩
def nw(h:n<=sizeLine):vb n=uA:=by unfold vb;exact decide_eq_false (by lia)
end
section
variable{X:Cx}
def ny:V->List V->Hp->VK->Prop:=λx vs H Q=>∃l xs y,x=.ref l/\vs=[y]/\H l=u7 (.lst xs)/\lN xs<sizeLine/\Q .LA (upd H l (.lst (xs++[y])))
def nz:MN X "list.append" ny:=by
 intro wM s σ H x vs v us Q I rx rv h;obtain⟨l,xs,y,rfl,rfl,hH,hz,q⟩:=h;cases rx;obtain⟨u,rfl,ru⟩:=rv.one;obtain⟨z,OA,n,r,hl,e⟩:=I.PV hH;refine call_meets F.slot_list_append ⟨_,e,rfl⟩ F.entry_list_append (F.args_list_append_2 _ _) (PySem.list_append l OA.toArray n u (by rw[zy];lia)) ⟨e,?_⟩;refine⟨.LA,_,I.NV hH e (by simp) (r.append (.cons ru .nil)) ?_,rfl,q⟩;rw[zL,xX]
 lia
def oB:V->List V->Hp->VK->Prop:=λx vs H Q=>∃l xs i k y,x=.ref l/\vs=[.int i]/\H l=u7 (.lst xs)/\ -(2^63)<=i/\i<2^63/\seqIndex? i (lN xs)=u7 k/\xs[k]?=u7 y/\Q y (upd H l (.lst (xs.eraseIdx k)))
def oC:MN X "list.pop" oB:=by
 intro B s Z H x Y v us Q I N rv h;obtain⟨l,U,i,k,y,rfl,rfl,J,S,M,hk,L,q⟩:=h;cases N;obtain⟨u,rfl,W⟩:=rv.one;obtain⟨t,rfl⟩:=W;obtain⟨z,j,n,r,O,e⟩:=I.PV J;obtain⟨w,hw,d⟩:=r.get L;refine call_meets F.slot_list_pop ⟨_,e,rfl⟩ F.entry_list_pop (F.args_list_pop_2 _ _)
  (MeetsSeq.list_pop_at l j.toArray n i t k w (fitsIndex_both S M) (by rw[zy,<-O];exact hk) (by rw[<-jC];exact hw) (by rw[zy];lia)) ⟨e,?_⟩
 refine⟨y,_,I.NV J e ?_ (r.eraseIdx k) ?_,d,q⟩
 .rw[List.eraseIdxIfInBounds_toArray]
 have:=a0 U k;lia
def T1:R2:=λx y H Q=>∃l k xs,x=.ref l/\y=.int k/\Rd H l (.lst xs)/\ -(2^63)<=k/\k<2^63/\lN xs*k.toNat<=sizeLine/\
 ∀p,H p=u8->Q (.ref p) (upd H p (.lst (zQ k.toNat xs).flatten))
theorem RO{i:Type}(xs:List i)(k:Nat):lN (zQ k xs).flatten=k*lN xs:=by
 induction k with
 |zero=>simp
 |succ k d=>rw[qy,jv,zL,d,xk,xP]
def oF:GC X (vG .Mult) T1:=by
 intro wM s σ H x y v u Q I rx ry h;obtain⟨l,k,xs,rfl,rfl,hH,h1,h2,hz,q⟩:=h;cases rx;obtain⟨t,rfl⟩:=ry;obtain⟨z,OA,n,r,e⟩:=hH.ok I.UA;have hl:=r.length;have hlen:OA.toArray.size*k.toNat<=sizeLine:=by rw[zy,<-hl];exact hz
 have U1:¬OA.toArray.size*k.toNat>(2^63-1)/8:=by
  have:(sizeLine:Nat)<=(2^63-1)/8:=by decide
  lia
 have X1:¬(!Builtin.List.listFitsIndex k)=u9:=by rw[fitsIndex_both h1 h2];exact zH
 have QV:¬vb (OA.toArray.size*k.toNat)=u9:=by rw[nw hlen];exact zH
 have K2:List.foldl (λx1 x2=>x1++x2) #[] (zQ (if OA.toArray.isEmpty=u9 then 0 else k.toNat) OA.toArray)=(zQ k.toNat OA).flatten.toArray:=by
  have f0:∀m:Nat,List.foldl (λx1 x2=>x1++x2) #[] (zQ m OA.toArray)=(zQ m OA).flatten.toArray:=λm=>by have:=foldl_rep OA m [];rw[q9]at this;exact this
  rw[f0];cases OA with
  |nil=>simp
  |cons a r'=>rw[if_neg (by simp)]
 refine wpAny_binaryOp_repeat_ref (by decide) ⟨_,e,rfl⟩ (λs'=>typeIs_int s' k t) noFill_list_mul F.fills_int_mul F.slot_int_rmul repeat_list F.slot_int_index.lookup
  (call_meets F.slot_int_rmul (typeIs_int s k t) F.entry_int_rmul (F.args_int_rmul_2 _ _) (int___rmul___int_list k t l OA.toArray n)
   ⟨e,rfl,⟨_,e,rfl⟩,call_meets F.slot_list_mul ⟨_,e,rfl⟩ F.entry_list_mul (F.args_list_mul_2 _ _) (AutoListH.list___mul___list_int_3 l OA.toArray n k t X1 U1 QV) ⟨e,?_⟩⟩)
 rw[K2];exact⟨.ref _,_,I.OV (r.rep k.toNat) (by rw[RO,xy];exact hz),rfl,q _ I.fresh⟩
end
section
variable{prog:vq}{w:vA}{A:vV}{E:vk->vj->Prop}{s:vj}
end
section
variable{X:Cx}
end
end _L
namespace Att
open PySem PySem.W PySem.Calls PyProof.Rows
theorem oH:∀(ns:List Int)(vs:List vk),WellAll P h vs (ns.map WData.int)->IntsAre vs ns:=by
 intro ns
 induction ns with
 |nil=>
  intro vs w;rw[qV]at w;cases w;exact .nil
 | cons n ns d=>
  intro vs w;rw[zK]at w;cases w with
  |cons a b=>
   cases a;exact .cons _ _ (d _ b)
theorem oJ{l:OpenLaw}{n:Nat}(O:l.most=u7 n){P:Params}{h:Heap}{i:List WData}{z:List vk}
  (y:l.row.toRowW.claim.pre i=u9) (L:WellAll P h z i):
  ∃a vs ns,z=[Value.ref a]/\i=[WData.list (ns.map WData.int)]/\h.get? a=u7 {cls:=.type "list",data:=.seq vs.toArray}/\IntsAre vs ns/\lN ns<=n:=by
 have M:l.pre.holds [] {args:=i}=u9:=(pre_splitW y).2;obtain⟨d,r,rfl,Y,U⟩:=hasAllW_cons ((pre_splitW y).1);obtain rfl:=hasAllW_nil U;obtain⟨xs,rfl,N⟩:=hasW_list Y;obtain⟨ns,rfl⟩:=items_int N;have F:lN ns<=n:=by
  unfold OpenLaw.pre at M;have J:(WTm.not (.lt (.lit (.int (n:Int))) (.len (.arg 0)))).holds [] {args:=[.list (ns.map .int)]}=u9:=by have J:=(holds_andW M).1;rw[O]at J;exact J
  have I:=condW_of J (w_not (w_lt w_lit (w_len_list (w_arg rfl))));rw[zq]at I;refine Nat.le_of_not_lt λq=>?_
  first
   |(rw[j (by lia)]at I;exact absurd I (by decide))
   |(simp at I;lia)
 cases L with
 |cons S W=>
  cases W;cases S with
  |list Z B=>exact⟨_,_,ns,rfl,rfl,Z,oH ns _ B,F⟩
def oK(l:OpenLaw)(d:List WData):l.row.toRowW.claim.post d (.bool u9) d=u9:=
 postW_of
  (show WShape.has [] (.bool u9) .bool=u9 by first|rfl|decide|simp[WShape.has,WShape.arms,WShape.armsAll])
  (w_eq_bool (w_res rfl) w_lit) rfl
def oN{l:OpenLaw}{n:Nat}{q:vq}{loose:List Str}{XP:(Str->Option vk)->Heap->Prop}{YP:vA->Heap->Prop}{d:DefRec}
  (hn:l.most=u7 n) (YQ:d.params.defaults=[])
  (call:∀(w:vA)(j i:vj)(L O:Str->Option vk)(B:vX)(o:Obj)(pm cd y:vk)(a:vX)(vs:List vk)(ns:List Int),
   Ground q loose [] XP w j L O i.heap->YP w i.heap->
   i.heap.get? B=u7 o->o.data=.func (docDef d.name d.params d.body d.scope pm cd y)->i.heap.CodeRec cd d.name->L d.name=u7 (.ref B)->
   i.heap.get? a=u7 {cls:=.type "list",data:=.seq vs.toArray}->IntsAre vs ns->lN ns<=n->i.gens= #[]->
   codeAny (vR l.prog w) callerA (.call (.ref B) ⟨[.ref a],[]⟩) (λr s'=>r=.ok (.ret (.bool u9))/\OldK i.heap s'.heap/\s'.os=i.os/\AllBare s'.gens) i):
  WalkO q loose XP YP l.row.toRowW d [] (λf vs=>qf f vs):=by
 intro w j i L O G Y B o pm cd y dV kV ho hd M U S hg args W as J Z hrd N hlo;obtain rfl:dV=.none:=Dflts.none U YQ;obtain rfl:kV=.none:=Dflts.noKw U;obtain⟨a,vs,ns,rfl,rfl,F,z,I⟩:=oJ hn J N;refine enter_call (vI (call w j i L O B o pm cd y a vs ns G Y ho (fd_plain hd) M S F z I hg) λr s' hq=>?_);obtain⟨rfl,h2,h3,h4⟩:=hq
 exact⟨.inl ⟨.bool u9,.bool u9,[],rfl,λ_=>rfl,.bool u9,oK l _,λ_=>⟨List.Pairwise.nil,λ_ hm=>(nomatch hm)⟩⟩,h2,h3,h4⟩
section
variable{prog:vq}{w:vA}{A:vV}{E:vk->vj->Prop}{s:vj}{K:wD}
noncomputable def Jw(h:Heap):Heap:={h with objs:= #[]}
theorem Li(h:Heap)(b:vX):(Jw h).get? b=u8:=by
 cases e:(Jw h).get? b with
 |none=>rfl
 |some o=>exact absurd (zA e) (Nat.not_lt_zero _)
noncomputable def ledger(h:Heap)(L d:vX):List (vX×Obj):=(zW h.objs.size).filterMap λa=>if a=L\/a=d then u8 else(h.get? a).map λo=>(a,o)
def Gq:(a,o)∈ledger h L d↔a≠L/\a≠d/\h.get? a=u7 o:=by
 unfold ledger;rw[List.mem_filterMap];constructor
 .rintro⟨b,_,e⟩;split at e
  .cases e
  rename_i j;obtain⟨B,i,z⟩:=qJ.mp e;cases z;exact⟨λq=>j (.inl q),λq=>j (.inr q),i⟩
 rintro⟨n,y,i⟩;refine⟨a,qW.mpr (zA i),?_⟩
 rw[if_neg (λq=>q.elim n y),i]<;>rfl
def oO(n:h.Ns L m):Fr (Jw h) L h m:=
 ⟨n,λb o e=>(by rw[Li]at e;cases e),jk _⟩
end
end Att
namespace _L
open PySem PySem.Spec PyProof.Rows
variable{P:vq}{H':Hp}
theorem Ro:∀{vs:List vk}{ns:List Int},IntsAre vs ns->Vals (ns.map V.int) vs
 |_,_,.nil=>.nil
 |_,_,.cons n t h=>.cons ⟨t,rfl⟩ (Ro h)
noncomputable abbrev JK:PL:=λ_ _ _ _ _ _=>False
noncomputable abbrev E0:XK:=λ_ _ _=>False
def GH:Passes JK X E0:=λ_ _ _ _ _ _ _ h=>h.elim
structure QL (K:za) (x qual:Str) (st:vx) (f:vX) (fd:vK):Prop where
 ex:∃(oc:vk)(od:Option vX)(kV doc pm:vk)(an:Option vX)(VG ct:vk)(QX:Array (Option vk)),
  fd=jc x qual (G8 st) (Ei st) (Bt st) .none kV doc pm an VG ct/\K.lookup f=u7 ⟨oc,od,.func fd,QX⟩/\wf K VG qual=u9
 kp:qe K (.ref f)=u9
section
variable{P:vq}{w:vA}{K:za}{mg:Str->Option vk}{base:Heap}
def QL.ok{x qual:Str}{st:vx}{f:vX}{y:vK}{N ps:List Str}{k:Nat}{sp:Sp}(F:QL K x qual st f y)(S:QC N ps (Bt st))(len:∀vs H Q E,sp vs H Q E->lN vs=lN ps)
  (i:∀(d:vk)(A:vV)(outer:List Env)(s:vj)(H:Hp)(vs:List V)(Q:VK)(E:XK),HB k (A.deeper (envOfC qual (Bt st) s.heap.objs.size f d))->sp vs H Q E->
   ∃t,SH (Ld JK P w K mg base N qual (Bt st) f d A outer s H E).JR (Ei st) t/\t {nx:=λ_ H'=>Q .LA H',rt:=Q} (start N vs) H):JD P w K mg base JK (k+1) f y ps sp:=by
 obtain⟨M,L,kV,J,pm,O,d,ct,z,rfl,B,n⟩:=F.ex;refine aS B n S len λA outer s H vs Q E I j=>?_
 obtain⟨t,h,q⟩:=i d A outer s H vs Q E I j;exact⟨t,h.JR,q⟩
def QL.binds{x qual:Str}{st:vx}{f:vX}{n:vK}{ps:List Str}(F:QL K x qual st f n)
  (h:∀(kV i pm:vk)(j:Option vX)(d ct:vk)(us:List vk),lN us=lN ps->bindArgs (jc x qual (G8 st) (Ei st) (Bt st) .none kV i pm j d ct) ⟨us,[]⟩=pure (ps.zip us)):Binds K n ps []:=by
 obtain⟨z,I,kV,i,pm,j,d,ct,q,rfl,B,y⟩:=F.ex;exact .all (h kV i pm j d ct)
end
section
variable{X:Cx}
def pv(i:Nat){x:Str}{pos:Pos}(q:X.N[i]?=u7 x:=by rfl)(n:YS X.env.scope x:=by first|exact Or.inl rfl|exact Or.inr (Or.inl rfl)|exact Or.inr (Or.inr rfl))(j:(x==("__debug__":Str))=uA:=by decide)
  (d:(x==("__classdict__":Str))=uA:=by decide):PE X (.Name x pos) (PU i):=aF q n j d
end
section
variable{κ:Type}[DecidableEq κ]
noncomputable def Fg(KA:List (κ×V))(k:κ):Option V:=(KA.find? λkv=>decide (kv.1=k)).map (·.2)
noncomputable def putK(KA:List (κ×V))(k:κ)(v:V):List (κ×V):=
 if(KA.any λkv=>decide (kv.1=k))=u9 then KA.map (λkv=>if kv.1=k then(kv.1,v)else kv)else KA++[(k,v)]
def W8{p:κ×V}{r:List (κ×V)}{k:κ}(e:p.1=k):Fg (p::r) k=u7 p.2:=by simp[Fg,qj,e]
def Va{p:κ×V}{r:List (κ×V)}{k:κ}(e:¬p.1=k):Fg (p::r) k=Fg r k:=by simp[Fg,qj,e]
theorem ae(k:κ):∀KA:List (κ×V),(KA.any λkv=>decide (kv.1=k))=(Fg KA k).isSome
 |[]=>rfl
 |p::r=>by
  rw[j0];by_cases e:p.1=k
  .simp only[W8 e,decide_eq_true e,Bool.true_or,Option.isSome_some]
  .rw[Va e,decide_eq_false e,Bool.false_or];exact ae k r
def ag(KA:List (κ×V))(k:κ)(v:V):(putK KA k v).length<=KA.length+1:=by
 unfold putK;split
 .rw[zq];lia
 .rw[zL,zD,xM];lia
theorem RE.oQ{o:Option V}{u:Option vk}(r:RE o u):o.isSome=u.isSome:=by
 cases o with
 |none=>cases u with
  |none=>rfl
  |some _=>exact(show False from r).elim
 |some _=>cases u with
  |none=>exact(show False from r).elim
  |some _=>rfl
theorem RE.getD{o:Option V}{u:Option vk}{d:V}{d':vk}(r:RE o u)(rd:RelV d d'):RelV (o.getD d) (u.getD d'):=by
 cases o with
 |none=>cases u with
  |none=>exact rd
  |some _=>exact(show False from r).elim
 |some _=>cases u with
  |none=>exact(show False from r).elim
  |some _=>exact r
theorem KV.val{KA:List (κ×V)}{vs:List (κ×vk)}(r:KV KA vs)(k:κ):RE (Fg KA k) (valueAt vs k):=by
 unfold KV at r
 induction r with
 |nil=>exact True.intro
 | @cons p q ps qs h t ih=>
  obtain⟨h1,h2⟩:=h;by_cases e:p.1=k
  .have e':q.1=k:=h1.symm.trans e;have b:valueAt (q::qs) k=u7 q.2:=by simp[valueAt,qj,e']
   rw[W8 e,b];exact h2
  .have e':¬q.1=k:=λz=>e (h1.trans z)
   have b:valueAt (q::qs) k=valueAt qs k:=by simp[valueAt,qj,e']
   rw[Va e,b];exact ih
theorem KV.any{KA:List (κ×V)}{vs:List (κ×vk)}(r:KV KA vs)(k:κ):(KA.any λkv=>decide (kv.1=k))=vs.any λkv=>decide (kv.1=k):=by
 unfold KV at r
 induction r with
 |nil=>rfl
 |cons h t ih=>rw[j0,j0,ih,h.1]
theorem KV.RJ{KA:List (κ×V)}{vs:List (κ×vk)}(r:KV KA vs)(k:κ){y:V}{u:vk}(ry:RelV y u):
  KV (KA.map λkv=>if kv.1=k then(kv.1,y)else kv) (vs.map λkv=>if kv.1=k then(kv.1,u)else kv):=by
 unfold KV at r⊢
 induction r with
 |nil=>exact .nil
 |@cons p q ps qs h t ih=>
  rw[zK,zK];refine .cons ?_ ih;obtain⟨h1,h2⟩:=h;by_cases e:p.1=k
  .rw[if_pos e,if_pos (h1.symm.trans e)];exact⟨h1,ry⟩
  .rw[if_neg e,if_neg (λz=>e (h1.trans z))];exact⟨h1,h2⟩
def KV.put{KA:List (κ×V)}{vs:List (κ×vk)}(r:KV KA vs)(k:κ){y:V}{u:vk}(ry:RelV y u):KV (putK KA k y) (stored vs k u):=by
 unfold putK stored;rw[r.any k];by_cases e:(vs.any λkv=>decide (kv.1=k))=u9
 .rw[if_pos e,if_pos e];exact r.RJ k ry
 .rw[if_neg e,if_neg e];exact Paired.snoc r ⟨rfl,ry⟩
def KV.length{KA:List (κ×V)}{vs:List (κ×vk)}(r:KV KA vs):KA.length=vs.length:=Paired.length r
end
theorem Xb{w:vA}{k:Key}{u:vk}(r:RelV (kV k) u):(Fq P w).is k u=u9:=by
 cases k with
 |inl i=>obtain⟨t,e⟩:=(show∃t,u=Value.int i t from r);subst e;exact kT P w i t
 |inr x=>obtain⟨t,e⟩:=(show∃t,u=Value.str x t from r);subst e;exact kU P w x t
theorem ah{w:vA}:∀{ks:List Key}{us:List vk},Vals (ks.map kV) us->ItemsAre (Fq P w) ks us
 |[],_,r=>by rw[qV]at r;cases r;exact .nil
 |k::ks,_,r=>by
  rw[zK]at r;cases r with
  |cons h t=>exact .cons (Xb h) (ah t)
abbrev KT(H:Hp):List (List Key×V)->List (List Key×vX×vk)->Prop:=Paired λp q=>p.1=q.1/\H q.2.1=u7 (.tup (p.1.map kV))/\RelV p.2 q.2.2
theorem KT.val{H:Hp}{KA:List (List Key×V)}{xs:List (List Key×vX×vk)}(r:KT H KA xs)(k:List Key):RE (Fg KA k) ((atKey xs k).map (·.2)):=by
 induction r with
 |nil=>exact True.intro
 | @cons p q ps qs h t ih=>
  obtain⟨h1,_,h2⟩:=h;by_cases e:p.1=k
  .have e':q.1=k:=h1.symm.trans e;have b:atKey (q::qs) k=u7 q.2:=by simp[atKey,qj,e']
   rw[W8 e,b];exact h2
  .have e':¬q.1=k:=λz=>e (h1.trans z)
   have b:atKey (q::qs) k=atKey qs k:=by simp[atKey,qj,e']
   rw[Va e,b];exact ih
theorem KT.RJ{H:Hp}{KA:List (List Key×V)}{xs:List (List Key×vX×vk)}(r:KT H KA xs)(k:List Key){y:V}{u:vk}(ry:RelV y u):
  KT H (KA.map λkv=>if kv.1=k then(kv.1,y)else kv) (xs.map (putAt k u)):=by
 induction r with
 |nil=>exact .nil
 |@cons p q ps qs h t ih=>
  rw[zK,zK];refine .cons ?_ ih;obtain⟨h1,h2,h3⟩:=h;unfold putAt;by_cases e:p.1=k
  .rw[if_pos e,if_pos (h1.symm.trans e)];exact⟨h1,h2,ry⟩
  .rw[if_neg e,if_neg (λz=>e (h1.trans z))];exact⟨h1,h2,h3⟩
def KT.put{H:Hp}{KA:List (List Key×V)}{xs:List (List Key×vX×vk)}(r:KT H KA xs)(k:List Key){b:vX}{y:V}{u:vk}(hb:H b=u7 (.tup (k.map kV)))(ry:RelV y u):
  KT H (putK KA k y) (storedH xs k b u):=by
 have e:(KA.any λkv=>decide (kv.1=k))=(atKey xs k).isSome:=by rw[ae,(r.val k).oQ,Option.isSome_map]
 unfold putK storedH;rw[e];by_cases q:(atKey xs k).isSome=u9
 .rw[if_pos q,if_pos q];exact r.RJ k ry
 .rw[if_neg q,if_neg q];exact Paired.snoc r ⟨rfl,hb,ry⟩
def KT.keeps{H:Hp}{KA:List (List Key×V)}{xs:List (List Key×vX×vk)}(r:KT H KA xs)(ht:∀b ys,H b=u7 (.tup ys)->H' b=u7 (.tup ys)):KT H' KA xs:=
 Paired.Vo r λ_ _ z=>⟨z.1,ht _ _ z.2.1,z.2.2⟩
section
variable{P:vq}{w:vA}{H:Hp}{h:Heap}{a:vX}
def ai{u:HO}(ok:YE P w H h)(e:Rd H a u):XB P w H h a u:=e.ok ok
def Vd{KA:List (Key×V)}(ok:YE P w H h)(e:Rd H a (.dK KA)):KA.length<=sizeLine/\(a==sysModules)=uA/\∃vs,KV KA vs/\h.DictOf (Fq P w) a vs:=
 show XB P w H h a (.dK KA)from ai ok e
def oR{KA:List (Key×V)}(ok:YE P w H h)(e:H a=u7 (.dK KA)):KA.length<=sizeLine/\(a==sysModules)=uA/\∃vs,KV KA vs/\h.DictOf (Fq P w) a vs:=Vd ok (.inl e)
def Wt{ks:List Key}(ok:YE P w H h)(e:H a=u7 (.tup (ks.map kV))):(tupleKind (Fq P w)).is h ks a:=by
 obtain⟨_,OA,r,o,h1,h2,n,h3⟩:=(show XB P w H h a (.tup (ks.map kV))from ok a _ e)
 exact⟨o,OA.toArray,n,h1,h2,h3,by simpa using ah r⟩
def Yy{KA:List (List Key×V)}(ok:YE P w H h)(e:Rd H a (.dT KA)):KA.length<=sizeLine/\(a==sysModules)=uA/\
  ∃xs,KT H KA xs/\h.DictOfH (tupleKind (Fq P w)) a xs:=by
 obtain⟨z,y,xs,r,o,es,ep,h1,h2,h3,h4,h5⟩:=(show XB P w H h a (.dT KA)from ai ok e)
 refine⟨z,y,xs,r,o,es,ep,h1,h2,h3,h4,λx hx=>?_,h5⟩;have all:∀{l:List (List Key×V)}{m:List (List Key×vX×vk)},KT H l m->∀x∈m,(tupleKind (Fq P w)).is h x.1 x.2.1:=by
  intro l m q
  induction q with
  |nil=>intro x hx;exact nomatch hx
  |@cons p q ps qs hq t ih=>
   intro x hx;rcases z0.mp hx with e|hx
   .subst e;exact Wt ok (by rw[<-hq.1];exact hq.2.1)
   .exact ih x hx
 exact all r x hx
def oT{KA:List (List Key×V)}(ok:YE P w H h)(e:H a=u7 (.dT KA)):KA.length<=sizeLine/\(a==sysModules)=uA/\
  ∃xs,KT H KA xs/\h.DictOfH (tupleKind (Fq P w)) a xs:=Yy ok (.inl e)
end
def ZL(H:Hp)(a:vX)(y:V)(r:Option V):Prop:=
 (∃KA k,Rd H a (.dK KA)/\y=kV k/\r=Fg KA k)\/∃KA k b,Rd H a (.dT KA)/\y=.ref b/\H b=u7 (.tup (k.map kV))/\r=Fg KA k
def HM(H:Hp)(a:vX)(y v:V)(H':Hp):Prop:=
 (∃KA k,H a=u7 (.dK KA)/\y=kV k/\KA.length<sizeLine/\H'=upd H a (.dK (putK KA k v)))\/
 ∃KA k b,H a=u7 (.dT KA)/\y=.ref b/\H b=u7 (.tup (k.map kV))/\KA.length<sizeLine/\H'=upd H a (.dT (putK KA k v))
def ZL.t{H:Hp}{a b:vX}{KA:List (List Key×V)}{k:List Key}(e:H a=u7 (.dT KA))(eb:H b=u7 (.tup (k.map kV))):ZL H a (.ref b) (Fg KA k):=.inr ⟨KA,k,b,.inl e,rfl,eb,rfl⟩
def HM.t{H:Hp}{a b:vX}{KA:List (List Key×V)}{k:List Key}{v:V}(e:H a=u7 (.dT KA))(eb:H b=u7 (.tup (k.map kV)))(hl:KA.length<sizeLine):
  HM H a (.ref b) v (upd H a (.dT (putK KA k v))):=.inr ⟨KA,k,b,e,rfl,eb,hl,rfl⟩
section
variable{X:Cx}{wM:List (vX×Obj)}{σ:St}{H:Hp}{s:vj}{a:vX}{y v:V}{u r:vk}{o:Option V}{A:vV}{E:vk->vj->Prop}
def Inv.big(I:Inv X wM σ H s):sysModules<s.heap.objs.size:=by have h:vP<s.heap.objs.size:=(I.mod.glob.keeps I.bk).lt;exact Nat.lt_trans (by decide) h
def aj{h':Heap}{t':Nat}{ob:HO}(I:Inv X wM σ H s)(mu:KU (H a))(hs:jX a s.heap h')(he:∃q,h'.get? a=u7 q)(new:XB X.prog X.w (upd H a ob) h' a ob):
  Inv X wM σ (upd H a ob) {s with heap:=h',toks:=t'}:=
 I.write (x:=a) (e:=a) mu (.inl rfl) (λb q hb z=>(hs.2 b hb).trans z) he new
def oU{w:vA}{h':Heap}{KA:List (Key×V)}{vs:List (Key×vk)}(z:KA.length<=sizeLine)(hd:(a==sysModules)=uA)(rel:KV KA vs)(dd:h'.DictOf (Fq P w) a vs):
  XB P w H' h' a (.dK KA):=⟨z,hd,vs,rel,dd⟩
def oV{Q:Unit->vj->Prop}(hu:A.units+1<cLine)(I:Inv X wM σ H s)(g:HM H a y v H')(ry:RelV y u)(rv:RelV v r)(h:∀s',Inv X wM σ H' s'->Q () s'):
  wW (vR X.prog X.w) A (setItem (.ref a) u r) Q E s:=by
 rcases g with⟨KA,k,e,ey,l,eH⟩|⟨KA,k,b,e,ey,eb,l,eH⟩
 .subst ey eH;obtain⟨z,hd,vs,rel,dd⟩:=oR I.UA e;have hz:vs.length<=sizeLine:=by rw[<-rel.length];exact z
  have hl:(putK KA k v).length<=sizeLine:=by have:=ag KA k v;lia
  refine wpAny_setItem_pairs (hsz:=hz) (Xb ry) dd λh' SX hs=>h _ ?_
  have he:∃q,h'.get? a=u7 q:=let⟨q,_,_,hq,_⟩:=SX;⟨q,hq⟩;exact aj I (by rw[e];exact True.intro) hs he (oU hl hd (rel.put k rv) SX)
 .subst ey eH
  cases(show u=Value.ref b from ry)
  obtain⟨z,hd,xs,rel,dd⟩:=oT I.UA e;have hz:xs.length<=sizeLine:=by rw[<-Paired.length rel];exact z
  have hl:(putK KA k v).length<=sizeLine:=by have:=ag KA k v;lia
  refine wpAny_setItem_heap (hsz:=hz) (tupleKind_room_in1 hu) (Wt I.UA eb) dd λh' SX hs=>h _ ?_
  obtain⟨q,es,ep,hq,h2,h3,h4,_,h5⟩:=SX;refine aj I (by rw[e];exact True.intro) hs ⟨q,hq⟩ ⟨hl,hd,_,(rel.put k eb rv).keeps λc ys ec=>?_,q,es,ep,hq,h2,h3,h4,h5⟩
  rw[Ah (kW ec e (λz=>nomatch z))]
  exact ec
end
section
variable{X:Cx}{wM:List (vX×Obj)}{σ:St}{H:Hp}{s:vj}{a:vX}{KA:List (Key×V)}{k:Key}{u:vk}{A:vV}{E:vk->vj->Prop}
end
section
variable{X:Cx}{o i e value:vW}{pos pos' MH:Pos}{td ty tv:TE}
end
def oW{w:vA}{H:Hp}(h:Heap)(hb:sysModules<h.objs.size):XB P w H (h.push {cls:=.type "dict",data:=.dict #[]}) h.objs.size (.dT []):=
 ⟨jk _,beq_eq_false_iff_ne.mpr (Ne.symm (zN hb)),[],.nil,_,#[],0,z3 _ rfl,⟨rfl,rfl,rfl⟩,rfl,rfl,List.nodup_nil⟩
def oY:TE:=λ_ H Q=>∀p,H p=u8->Q (.ref p) (upd H p (.dT []))
section
variable{X:Cx}{pos:Pos}
def oZ:PE X (.Dict [] [] pos) oY:=λwM s σ H Q I h=>
 wpAny_Dict_empty ⟨.ref s.heap.objs.size,_,I.laid (a:=s.heap.objs.size) (o:=.dT []) (t':=s.toks) (λ_ _ q=>zX _ q) (zv _) (oW s.heap I.big),rfl,h _ (I.UA.fresh (zv _))⟩
end
structure M1 (X:Cx) (o:vW) (m:Str) (apos:Pos) (e:vW) (RB:Pos):Prop where
 base:vC o m X.env (eval o X.env)=eval o X.env
 n':((vD RB (wQ [e] X.env)).all (λx=> !x.1)&&(vE RB (vN [] X.env)).all (λx=>x.1.isSome)
  && decide (([e]:List vW).length+([]:List Keyword).length+(if([]:List Keyword).isEmpty then 0 else 1)<30))=u9
 line:(apos.endLine==RB.line)=u9
 trees:vD RB (wQ [e] X.env)=[(uA,eval e X.env)]
structure M2 (X:Cx) (o:vW) (m:Str) (apos:Pos) (e f:vW) (RB:Pos):Prop where
 base:vC o m X.env (eval o X.env)=eval o X.env
 n':((vD RB (wQ [e,f] X.env)).all (λx=> !x.1)&&(vE RB (vN [] X.env)).all (λx=>x.1.isSome)
  && decide (([e,f]:List vW).length+([]:List Keyword).length+(if([]:List Keyword).isEmpty then 0 else 1)<30))=u9
 line:(apos.endLine==RB.line)=u9
 trees:vD RB (wQ [e,f] X.env)=[(uA,eval e X.env),(uA,eval f X.env)]
def y'(H:Hp)(a:vX):Prop:=(∃KA,Rd H a (.dK KA))\/∃KA,Rd H a (.dT KA)
def o3{X:Cx}{wM:List (vX×Obj)}{σ:St}{H:Hp}{s:vj}{a:vX}(I:Inv X wM σ H s)(d:y' H a):
  s.TypeIs (.ref a) "dict"/\(∀b,Value.ref a=.ref b->∃ob,s.heap.get? b=u7 ob/\ob.dict=u8)/\(a==sysModules)=uA:=by
 rcases d with⟨KA,e⟩|⟨KA,e⟩
 .obtain⟨_,hd,vs,_,dd⟩:=Vd I.UA e;refine⟨dd.typeIs,λb q=>?_,hd⟩;cases q;obtain⟨ob,_,_,h1,h2,_⟩:=dd;exact⟨ob,h1,h2.2.1⟩
 .obtain⟨_,hd,xs,_,dd⟩:=Yy I.UA e;refine⟨dd.typeIs,λb q=>?_,hd⟩;cases q;obtain⟨ob,_,_,h1,h2,_⟩:=dd;exact⟨ob,h1,h2.2.1⟩
section
variable{X:Cx}{wM:List (vX×Obj)}{σ:St}{H:Hp}{s:vj}{a:vX}{y d:V}{u r:vk}{o:Option V}{A:vV}{E:vk->vj->Prop}
def oa{Q:vk->vj->Prop}(hu:A.units+1<cLine)(I:Inv X wM σ H s)(g:ZL H a y o)(ry:RelV y u)(rd:RelV d r)(h:∀w' s',Inv X wM σ H s'->RelV (o.getD d) w'->Q w' s'):
  wW (vR X.prog X.w) A (call (.builtin "dict.get") [.ref a,u,r]) Q E s:=by
 rcases g with⟨KA,k,e,ey,l⟩|⟨KA,k,b,e,ey,eb,l⟩
 .subst ey;obtain⟨z,hd,vs,rel,dd⟩:=Vd I.UA e;refine call_meetsIn vc dd.typeIs uZ (uJ _ _ _) (meets_dict_get_default (Fq X.prog X.w) a (Xb ry) hd r) ⟨_,dd.mapOf,h _ _ (I.tok _) ?_⟩;rw[l];exact(rel.val k).getD rd
 .subst ey
  cases(show u=Value.ref b from ry)
  obtain⟨z,hd,xs,rel,dd⟩:=Yy I.UA e;refine call_meetsIn vc dd.typeIs uZ (uJ _ _ _) (meetsH_dict_get_default (tupleKind (Fq X.prog X.w)) a b hd r) ⟨tupleKind_room_in1 hu,k,xs,Wt I.UA eb,dd,h _ _ (I.tok _) ?_⟩;rw[l];exact(rel.val k).getD rd
end
noncomputable def og(td ty tx:TE):TE:=λσ H Q=>td σ H λx H1=>∃a,x=.ref a/\y' H1 a/\ty σ H1 λy H2=>tx σ H2 λz H3=>∃o,ZL H3 a y o/\Q (o.getD z) H3
section
variable{X:Cx}{o e f:vW}{apos RB:Pos}{td ty tx:TE}
def oh(hu:X.A.units+1<cLine)(ho:PE X o td)(he:PE X e ty)(hf:PE X f tx)(m:M2 X o "get" apos e f RB):PE X (.Call (.Attribute o "get" apos) [e,f] [] RB) (og td ty tx):=by
 intro wM s σ H Q I h;refine wpAny_Call_method m.base m.n' m.line PySem.F.plainAttrs_dict vc PySem.F.type_dict_get (GB (ho wM s σ H _ I h) λu s1 ⟨x,H1,I1,rx,a,ex,d,q1⟩=>?_);subst ex;obtain rfl:u=Value.ref a:=rx;obtain⟨t1,t2,_⟩:=o3 I1 d;refine⟨t1,t2,?_⟩;rw[m.trees];refine Calls.callWith_builtin rfl (Calls.evalArgs_plain (Calls.spliced_cons (GB (he wM s1 σ H1 _ I1 q1) λiv s2 ⟨y,H2,I2,ry,q2⟩=>
  Calls.spliced_cons (GB (hf wM s2 σ H2 _ I2 q2) λfv s3 ⟨z,H3,I3,rz,ov,g,q3⟩=>Calls.spliced_nil ?_))))
 exact oa hu I3 g ry rz λw' s4 I4 OR=>⟨_,H3,I4,OR,q3⟩
end
section
variable{X:Cx}{wM:List (vX×Obj)}{σ:St}{H:Hp}{s:vj}{a:vX}{KA:List (Key×V)}{A:vV}{E:vk->vj->Prop}
end
section
variable{X:Cx}{wM:List (vX×Obj)}{σ:St}{H:Hp}{s:vj}{a:vX}{y:V}{u:vk}{A:vV}{E:vk->vj->Prop}
end
section
variable{X:Cx}
end
end _L
namespace _L
section
variable{κ:Type}[DecidableEq κ]
end
end _L
namespace _D
open PySem PySem.Spec _L
open PyProof.Rows hiding St
variable{κ:Type}
inductive D where
 |LA|bl (b:Bool)|int (i:Int)|str (x:Str)|ty (n:String)
 |tup (xs:List D)
 |fl (xs:List D)
 |ref (i:Nat)
inductive DO where
 |lst (xs:List D)
 |QR (KA:List (Key×D))
 |YB (KA:List (List Key×D))
 |ins (c:Str) (fs:List (Str×D))
 |tab (c m:Str)
 |exc (c:Str) (fs:List (Str×D))
 |gone
noncomputable abbrev DH:=List DO
noncomputable abbrev PB:=List (Option D)
structure Xn where
 cls:Str
 fs:List (Str×D)
inductive R (α:Type) where
 |ok (a:α) (G:DH)
 |err (x:Xn) (G:DH)
 |bad
abbrev Fx{α:Type}(_:α):Type:=Unit
noncomputable def R.bind{α β:Type}(f:α->DH->R β)(_:Fx f:=())(r:R α):R β:=match r with
 |.ok a G=>f a G
 |.err x G=>.err x G
 |.bad=>.bad
@[simp]theorem R.Eb{b c:Type}(a:b)(G:DH)(f:b->DH->R c):(R.ok a G).bind f=f a G:=id rfl
inductive SR where
 |nx (S:PB) (G:DH)
 |rt (d:D) (G:DH)
 |bk (S:PB) (G:DH)
 |ct (S:PB) (G:DH)
 |err (x:Xn) (G:DH)
 |bad
noncomputable abbrev DE:=PB->DH->R D
noncomputable abbrev DB:=PB->DH->R Bool
noncomputable abbrev DA:=PB->DH->R (List D)
noncomputable abbrev DS:=PB->DH->SR
def TR(K:za)(H:Hp)(a:vX)(xs:List V):Prop:=
 (∃o,H a=u7 (.XC o (.lst xs)))\/
  (∃ns:List Int,xs=ns.map V.int)/\∃(o:Obj)(OA:Array vk)(n:Nat),K.lookup a=u7 o/\o.cls=.type "list"/\o.dict=u8/\o.data=.seq OA n/\OA.size<=sizeLine/\Vals xs OA.toList
def TR.sq{K:za}{H:Hp}{a:vX}{xs:List V}(h:TR K H a xs):ME K H a xs:=by
 rcases h with⟨o,h⟩|⟨_,h⟩
 .exact .inl (.inr ⟨o,h⟩)
 exact .inr h
structure Wd where
 K:za
 n:Nat
 m:Nat->vX
 H:Hp
mutual
def NB(a:Wd):D->V->Prop
 |.LA,v=>v=.LA
 |.bl b,v=>v=.bl b
 |.int i,v=>v=.int i
 |.str x,v=>v=.str x
 |.ty n,v=>v=.ty n
 |.tup ds,v=>∃p vs,v=.ref p/\UE a.K a.H p vs/\JA a ds vs
 |.fl ds,v=>∃p vs,v=.ref p/\TR a.K a.H p vs/\JA a ds vs
 |.ref i,v=>i<a.n/\v=.ref (a.m i)
def JA(a:Wd):List D->List V->Prop
 |[],vs=>vs=[]
 |d::ds,vs=>∃v r,vs=v::r/\NB a d v/\JA a ds r
end
noncomputable def Dj:Str:="Sending.send_by.<locals>.<lambda>"
def OE(H:Hp)(P:vX):Prop:=
 ∃ps:Array vk,H P=u7 (.QF ps)/\TriplesOk ps.toList/\∀pos cv,codeAmong pos ps.toList=u7 cv->∃(c:vX)(oc:Obj)(vs:Array vk)(t:Tok),cv=.ref c/\H c=u7 (.XC oc (.own 0))/\oc.data=.fields vs/\vs[1]?=u7 (.str Dj t)
def OE.mono(h:OE H P)(j:∀p ps,H p=u7 (.QF ps)->H' p=u7 (.QF ps))(b:∀p o u,H p=u7 (.XC o u)->H' p=u7 (.XC o u)):OE H' P:=by obtain⟨ps,e,t,k⟩:=h;refine⟨ps,j _ _ e,t,λa r f=>?_⟩;obtain⟨c,l,n,g,d,i,m,q⟩:=k a r f;exact⟨c,l,n,g,d,b _ _ _ i,m,q⟩
def TabAt(K:za)(C m:Str)(c P:vX):Prop:=
 ∃(Ca f:vX)(oc:vk)(od:Option vX)(fd:vK)(sl:Array (Option vk)),zb K vP C=u7 (u7 (.ref Ca))/\zd K (.ref Ca) m=u7 (u7 (.ref f))/\K.lookup f=u7 ⟨oc,od,.func fd,sl⟩/\fd.code=.ref c/\zh K c P=u9
structure Ext (a b:Wd):Prop where
 k:b.K=a.K
 n:a.n<=b.n
 m:∀i,i<a.n->b.m i=a.m i
 tup:∀p xs,a.H p=u7 (.tup xs)->b.H p=u7 (.tup xs)
 XC:∀p o u,a.H p=u7 (.XC o u)->b.H p=u7 (.XC o u)
 tab:∀p,OE a.H p->OE b.H p
def Ext.refl(a:Wd):Ext a a:=⟨rfl,zv _,λ_ _=>rfl,λ_ _ h=>h,λ_ _ _ h=>h,λ_ h=>h⟩
def Ext.trans(x:Ext a b)(y:Ext b c):Ext a c:=
 ⟨y.k.trans x.k,zG x.n y.n,λi h=>(y.m i (zx h x.n)).trans (x.m i h),λp d h=>y.tup p d (x.tup p d h),λp o u h=>y.XC p o u (x.XC p o u h),λp h=>y.tab p (x.tab p h)⟩
def Ext.HQ(x:Ext a b)(h:UE a.K a.H p xs):UE b.K b.H p xs:=by
 rcases h with(h|⟨o,h⟩)|h
 .exact .inl (.inl (x.tup _ _ h))
 .exact .inl (.inr ⟨o,x.XC _ _ _ h⟩)
 exact .inr (x.k▸h)
def Ext.IQ(x:Ext a b)(h:TR a.K a.H p xs):TR b.K b.H p xs:=by
 rcases h with⟨o,h⟩|⟨e,h⟩
 .exact .inl ⟨o,x.XC _ _ _ h⟩
 exact .inr ⟨e,x.k▸h⟩
mutual
theorem NB.mono(x:Ext a b):∀{d:D}{v:V},NB a d v->NB b d v
 |.LA,_,h=>h
 |.bl _,_,h=>h
 |.int _,_,h=>h
 |.str _,_,h=>h
 |.ty _,_,h=>h
 |.tup f,v,h=>by obtain⟨p,c,e,q,r⟩:=h;exact⟨p,c,e,x.HQ q,JA.mono x r⟩
 |.fl f,v,h=>by obtain⟨p,c,e,q,r⟩:=h;exact⟨p,c,e,x.IQ q,JA.mono x r⟩
 |.ref i,v,h=>by obtain⟨l,e⟩:=h;exact⟨zx l x.n,by rw[x.m i l];exact e⟩
theorem JA.mono(x:Ext a b):∀{ds:List D}{vs:List V},JA a ds vs->JA b ds vs
 |[],_,h=>h
 |d::ds,vs,h=>by obtain⟨v,r,e,f,c⟩:=h;exact⟨v,r,e,NB.mono x f,JA.mono x c⟩
end
theorem JA.length:∀{ds:List D}{vs:List V},JA a ds vs->ds.length=vs.length
 |[],vs,h=>by cases(h);rfl
 |d::ds,vs,h=>by obtain⟨v,r,e,c,b⟩:=h;subst e;show ds.length+1=r.length+1;rw[JA.length b]
theorem JA.get:∀{ds:List D}{vs:List V}{i:Nat}{d:D},JA a ds vs->ds[i]?=u7 d->∃v,vs[i]?=u7 v/\NB a d v
 |[],vs,_,_,h,e=>by simp at e
 |d::ds,vs,0,j,h,e=>by obtain⟨v,r,b,f,c⟩:=h;subst b;simp at e;subst e;exact⟨v,rfl,f⟩
 |d::ds,vs,i+1,j,h,e=>by obtain⟨v,r,b,f,c⟩:=h;subst b;obtain⟨w,g,k⟩:=JA.get c (by simpa using e);exact⟨w,by simpa using g,k⟩
theorem JA.get':∀{ds:List D}{vs:List V}{i:Nat}{v:V},JA a ds vs->vs[i]?=u7 v->∃d,ds[i]?=u7 d/\NB a d v
 |[],vs,_,_,h,e=>by cases(h);simp at e
 |d::ds,vs,0,j,h,e=>by obtain⟨v,r,b,f,c⟩:=h;subst b;simp at e;subst e;exact⟨d,rfl,f⟩
 |d::ds,vs,i+1,j,h,e=>by obtain⟨v,r,b,f,c⟩:=h;subst b;obtain⟨w,g,k⟩:=JA.get' c (by simpa using e);exact⟨w,by simpa using g,k⟩
theorem JA.append:∀{ds es:List D}{vs us:List V},JA a ds vs->JA a es us->JA a (ds++es) (vs++us)
 |[],_,vs,_,h,b=>by cases(h);exact b
 |d::ds,es,vs,us,h,b=>by obtain⟨v,r,f,c,e⟩:=h;subst f;exact⟨v,r++us,rfl,c,.append e b⟩
def JA.cons(h:NB a d v)(r:JA a ds vs):JA a (d::ds) (v::vs):=⟨v,vs,rfl,h,r⟩
theorem JA.nil:JA a [] []:=rfl
theorem JA.set(h:NB a d v):∀{ds:List D}{vs:List V}(i:Nat),JA a ds vs->JA a (ds.set i d) (vs.set i v)
 |[],vs,_,r=>by cases(r);exact rfl
 |j::ds,vs,0,r=>by obtain⟨f,e,b,g,c⟩:=r;subst b;exact⟨v,e,rfl,h,c⟩
 |j::ds,vs,i+1,r=>by obtain⟨f,e,b,g,c⟩:=r;subst b;exact⟨f,e.set i v,rfl,g,.set h i c⟩
theorem JA.take:∀{ds:List D}{vs:List V}(i:Nat),JA a ds vs->JA a (ds.take i) (vs.take i)
 |_,_,0,_=>rfl
 |[],vs,_+1,r=>by cases(r);exact rfl
 |g::ds,vs,i+1,r=>by obtain⟨d,f,b,e,c⟩:=r;subst b;exact⟨d,f.take i,rfl,e,.take i c⟩
theorem JA.drop:∀{ds:List D}{vs:List V}(i:Nat),JA a ds vs->JA a (ds.drop i) (vs.drop i)
 |_,_,0,r=>r
 |[],vs,_+1,r=>by cases(r);exact rfl
 |e::ds,vs,i+1,r=>by obtain⟨d,g,b,f,c⟩:=r;subst b;exact .drop i c
theorem JA.ints:∀(ns:List Int),JA a (ns.map D.int) (ns.map V.int)
 |[]=>rfl
 |n::ns=>⟨.int n,ns.map V.int,rfl,rfl,.ints ns⟩
def SA{κ:Type}(a:Wd)(KA:List (κ×D))(us:List (κ×V)):Prop:=KA.map (·.1)=us.map (·.1)/\JA a (KA.map (·.2)) (us.map (·.2))
def RC(a:Wd)(fs:List (Str×D))(us:List (Str×V)):Prop:=fs.map (·.1)=us.map (·.1)/\JA a (fs.map (·.2)) (us.map (·.2))
def XD(a:Wd)(od:Option vX)(fs:List (Str×D)):Prop:=(fs=[]/\od=u8)\/∃dx o us,od=u7 dx/\a.H dx=u7 (.XC o (.xd us))/\RC a fs us
def RD(a:Wd):DO->Option HO->Prop
 |.lst ds,o=>∃vs,o=u7 (.lst vs)/\JA a ds vs
 |.QR KA,o=>∃us,o=u7 (.dK us)/\SA a KA us
 |.YB KA,o=>∃us,o=u7 (.dT us)/\SA a KA us
 |.ins c fs,o=>∃C dx us,zb a.K vP c=u7 (u7 (.ref C))/\o=u7 (.ins C dx us)/\RC a fs us
 |.tab C m,_=>∃c P,TabAt a.K C m c P/\OE a.H P
 |.exc c fs,o=>∃C oe u vs,zb a.K vP c=u7 (u7 (.ref C))/\o=u7 (.XC oe u)/\oe.cls=.ref C/\oe.data=.fields vs/\XD a oe.dict fs
 |.gone,_=>True
structure YA (a:Wd) (G:DH):Prop where
 len:lN G=a.n
 inj:∀i j,i<a.n->j<a.n->a.m i=a.m j->i=j
 obj:∀(i:Nat)(o:DO),G[i]?=u7 o->RD a o (a.H (a.m i))
 tr:∀i,i<a.n->a.H (a.m i)≠u8
structure UB (a:Wd) (S:PB) (σ:St):Prop where
 len:lN S=lN σ
 get:∀(i:Nat)(d:D),S[i]?=u7 (u7 d)->∃v,σ[i]?=u7 (u7 v)/\NB a d v
def UB.mono(x:Ext a b)(r:UB a S σ):UB b S σ:=⟨r.len,λi d h=>let⟨v,e,q⟩:=r.get i d h;⟨v,e,q.mono x⟩⟩
def UB.set(r:UB a S σ)(i:Nat)(h:NB a d v):UB a (S.set i (u7 d)) (σ.set i (u7 v)):=by
 refine⟨by simpa using r.len,λj e b=>?_⟩;rw[jw]at b⊢;by_cases c:i=j
 .subst c;rw[if_pos rfl]at b⊢;by_cases f:i<lN S
  .rw[if_pos f]at b;have g:d=e:=by simpa using b
   subst g;rw[if_pos (by rw[<-r.len];exact f)];exact⟨v,rfl,h⟩
  rw[if_neg f]at b;cases b
 rw[if_neg c]at b⊢;exact r.get j e b
def YI(E:XK)(a:Wd)(x:Xn)(G:DH):Prop:=E≠E0/\∀(b:Wd)(C:vX)(od:Option vX),Ext a b->YA b G->zb b.K vP x.cls=u7 (u7 (.ref C))->XD b od x.fs->E (.ref C) od b.H
def out(E:XK)(a:Wd)(r:R D)(Q:VK):Prop:=match r with
 |.ok d G=>∀(b:Wd)(v:V),Ext a b->YA b G->NB b d v->Q v b.H
 |.err x G=>YI E a x G
 |.bad=>False
def Fj(E:XK)(a:Wd)(r:R Bool)(Q:Bool->Hp->Prop):Prop:=match r with
 |.ok k G=>∀(b:Wd),Ext a b->YA b G->Q k b.H
 |.err x G=>YI E a x G
 |.bad=>False
def Cj(E:XK)(a:Wd)(r:R (List D))(Q:List V->Hp->Prop):Prop:=match r with
 |.ok ds G=>∀(b:Wd)(vs:List V),Ext a b->YA b G->JA b ds vs->Q vs b.H
 |.err x G=>YI E a x G
 |.bad=>False
def Bw(E:XK)(a:Wd)(r:SR)(W:Ends):Prop:=match r with
 |.nx S G=>∀(b:Wd)(σ:St),Ext a b->YA b G->UB b S σ->W.nx σ b.H
 |.bk S G=>∀(b:Wd)(σ:St),Ext a b->YA b G->UB b S σ->W.bk σ b.H
 |.ct S G=>∀(b:Wd)(σ:St),Ext a b->YA b G->UB b S σ->W.ct σ b.H
 |.rt d G=>∀(b:Wd)(v:V),Ext a b->YA b G->NB b d v->W.rt v b.H
 |.err x G=>YI E a x G
 |.bad=>False
def YI.mono(x:Ext a b)(h:YI E a e G):YI E b e G:=⟨h.1,λc C d y s n q=>h.2 c C d (x.trans y) s n q⟩
theorem out.mono(x:Ext a b)(h:out E a r Q):out E b r Q:=by
 cases r with
 |ok d G=>exact λc v y s q=>h c v (x.trans y) s q
 |err e G=>exact YI.mono x h
 |bad=>exact h
theorem Fj.mono(x:Ext a b)(h:Fj E a r Q):Fj E b r Q:=by
 cases r with
 |ok d G=>exact λc y s=>h c (x.trans y) s
 |err e G=>exact YI.mono x h
 |bad=>exact h
theorem Cj.mono(x:Ext a b)(h:Cj E a r Q):Cj E b r Q:=by
 cases r with
 |ok d G=>exact λc f y s q=>h c f (x.trans y) s q
 |err e G=>exact YI.mono x h
 |bad=>exact h
theorem Bw.mono(x:Ext a b)(h:Bw E a r W):Bw E b r W:=by
 cases r with
 |err e G=>exact YI.mono x h
 |bad=>exact h
 |_=>exact λc f y s q=>h c f (x.trans y) s q
inductive UR (K:za) (σ:St) (H:Hp) (φ:Wd->PB->DH->Prop):Prop|mk (a:Wd) (S:PB) (G:DH) (hk:a.K=K) (hH:a.H=H) (s:YA a G) (r:UB a S σ) (h:φ a S G):UR K σ H φ inductive PR3 {α β:Type} (a:Wd) (H:Hp) (r:R α) (v:β) (ρ:Wd->α->β->Prop) (φ:Wd->α->DH->Prop):Prop|mk (b:Wd) (d:α) (G:DH) (hH:b.H=H) (x:Ext a b) (s:YA b G) (q:ρ b d v) (e:r=.ok d G) (h:φ b d G):PR3 a H r v ρ φ inductive PN3 {α β:Type} (K:za) (H:Hp) (v:β) (ρ:Wd->α->β->Prop) (φ:Wd->DH->α->Prop):Prop|mk (a:Wd) (G:DH) (d:α) (hk:a.K=K) (hH:a.H=H) (s:YA a G) (q:ρ a d v) (h:φ a G d):PN3 K H v ρ φ inductive PD3 {α β γ δ:Type} (K:za) (H:Hp) (v:β) (w:δ) (ρ:Wd->α->β->Prop) (τ:Wd->γ->δ->Prop) (φ:Wd->DH->α->γ->Prop):Prop|mk (a:Wd) (G:DH) (d:α) (e:γ) (hk:a.K=K) (hH:a.H=H) (s:YA a G) (q:ρ a d v) (q':τ a e w) (h:φ a G d e):PD3 K H v w ρ τ φ inductive PG3 {α β:Type} (K:za) (σ:St) (H:Hp) (v:β) (ρ:Wd->α->β->Prop) (φ:Wd->PB->DH->α->Prop):Prop|mk (a:Wd) (S:PB) (G:DH) (d:α) (hk:a.K=K) (hH:a.H=H) (s:YA a G) (r:UB a S σ) (q:ρ a d v) (h:φ a S G d):PG3 K σ H v ρ φ inductive PB3 {α:Type} (a:Wd) (H:Hp) (r:R α) (k:α) (φ:Wd->DH->Prop):Prop|mk (b:Wd) (G:DH) (hH:b.H=H) (x:Ext a b) (s:YA b G) (e:r=.ok k G) (h:φ b G):PB3 a H r k φ def lE (K:za) (E:XK) (t:DE):TE:=λσ H Q=>UR K σ H λa S G=>out E a (t S G) Q
noncomputable def lB(K:za)(E:XK)(t:DB):TT:=λσ H Q=>UR K σ H λa S G=>Fj E a (t S G) Q
noncomputable def lA(K:za)(E:XK)(t:DA):TA:=λσ H Q=>UR K σ H λa S G=>Cj E a (t S G) Q
noncomputable def lS(K:za)(E:XK)(t:DS):TS:=λW σ H=>UR K σ H λa S G=>Bw E a (t S G) W
noncomputable def ZE(K:za)(E:XK)(f:D->D->DH->R D):R2:=λx y H Q=>PD3 K H x y NB NB λa G d e=>out E a (f d e G) Q
def A'(K:za)(E:XK)(f:D->DH->R D):V->Hp->VK->Prop:=λx H Q=>PN3 K H x NB λa G d=>out E a (f d G) Q
def IM(K:za)(E:XK)(f:List D->DH->R D):List V->Hp->VK->Prop:=λxs H Q=>PN3 K H xs JA λa G ds=>out E a (f ds G) Q
def lF(K:za)(f:List D->DH->R D):Sp:=λxs H Q _=>PN3 K H xs JA λa G ds=>out E0 a (f ds G) Q
noncomputable def B'(K:za)(f:List D->DH->R D):Sp:=λxs H Q E=>PN3 K H xs JA λa G ds=>out E a (f ds G) Q
section
variable{X:Cx}{E:XK}
def QE(X:Cx)(E:XK)(e:vW)(t:DE):Prop:=PE X e (lE X.K E t)
def QT(X:Cx)(E:XK)(e:vW)(t:DB):Prop:=PT X e (lB X.K E t)
def QA(X:Cx)(E:XK)(es:List vW)(t:DA):Prop:=PA X es (lA X.K E t)
def QS(X:Cx)(E:XK)(st:vx)(t:DS):Prop:=PS X st (lS X.K E t)
def RL(X:Cx)(E:XK)(st:List vx)(t:DS):Prop:=SH X st (lS X.K E t)
def _root_._L.PE.mono(h:PE X e t)(w:∀b H Q,t' b H Q->t b H Q):PE X e t':=λa s b H Q I q=>h a s b H Q I (w b H Q q)
def _root_._L.PT.mono(h:PT X e t)(w:∀b H Q,t' b H Q->t b H Q):PT X e t':=λa s b H Q I q=>h a s b H Q I (w b H Q q)
def _root_._L.PA.mono(h:PA X e t)(w:∀b H Q,t' b H Q->t b H Q):PA X e t':=λc a s b H Q I q=>h c a s b H Q I (w b H Q q)
def _root_._L.PS.mono(h:PS X e t)(w:∀W b H,t' W b H->t W b H):PS X e t':=λa s b H W I q=>h a s b H W I (w W b H q)
def _root_._L.SH.mono(h:SH X e t)(w:∀W b H,t' W b H->t W b H):SH X e t':=λa s b H W I q=>h a s b H W I (w W b H q)
def _root_._L.GC.mono(h:GC X f r)(w:∀x y H Q,r' x y H Q->r x y H Q):GC X f r':=λa s d H x y v u Q I c b q=>h a s d H x y v u Q I c b (w _ _ _ _ q)
end
theorem Eo(h:out E a (r.bind f) Q):
  out E a r (λv H=>PR3 a H r v NB λb d G=>out E b (f d G) Q):=by
 cases r with
 |ok d G=>exact λb v x s q=>⟨b,d,G,rfl,x,s,q,rfl,out.mono x h⟩
 |_=>exact h
theorem Js(h:out E a (r.bind f) Q):
  Cj E a r (λvs H=>PR3 a H r vs JA λb ds G=>out E b (f ds G) Q):=by
 cases r with
 |ok d G=>exact λb v x s q=>⟨b,d,G,rfl,x,s,q,rfl,out.mono x h⟩
 |_=>exact h
theorem Zv(h:out E a (r.bind f) Q):
  Fj E a r (λk H=>PB3 a H r k λb G=>out E b (f k G) Q):=by
 cases r with
 |ok d G=>exact λb x s=>⟨b,G,rfl,x,s,rfl,out.mono x h⟩
 |_=>exact h
theorem oi(h:Fj E a (r.bind f) Q):
  out E a r (λv H=>PR3 a H r v NB λb d G=>Fj E b (f d G) Q):=by
 cases r with
 |ok d G=>exact λb v x s q=>⟨b,d,G,rfl,x,s,q,rfl,Fj.mono x h⟩
 |_=>exact h
theorem X8(h:Fj E a (r.bind f) Q):
  Fj E a r (λk H=>PB3 a H r k λb G=>Fj E b (f k G) Q):=by
 cases r with
 |ok d G=>exact λb x s=>⟨b,G,rfl,x,s,rfl,Fj.mono x h⟩
 |_=>exact h
theorem oj(h:Cj E a (r.bind f) Q):
  out E a r (λv H=>PR3 a H r v NB λb d G=>Cj E b (f d G) Q):=by
 cases r with
 |ok d G=>exact λb v x s q=>⟨b,d,G,rfl,x,s,q,rfl,Cj.mono x h⟩
 |_=>exact h
theorem ol(h:Cj E a (r.bind f) Q):
  Cj E a r (λvs H=>PR3 a H r vs JA λb ds G=>Cj E b (f ds G) Q):=by
 cases r with
 |ok d G=>exact λb v x s q=>⟨b,d,G,rfl,x,s,q,rfl,Cj.mono x h⟩
 |_=>exact h
noncomputable def R.toS{α:Type}(f:α->DH->SR)(_:Fx f:=())(r:R α):SR:=match r with
 |.ok a G=>f a G
 |.err x G=>.err x G
 |.bad=>.bad
@[simp]theorem R.Cr{b:Type}(a:b)(G:DH)(f:b->DH->SR):(R.ok a G).toS f=f a G:=id rfl
theorem Hc(h:Bw E a (r.toS f) W):
  out E a r (λv H=>PR3 a H r v NB λb d G=>Bw E b (f d G) W):=by
 cases r with
 |ok d G=>exact λb v x s q=>⟨b,d,G,rfl,x,s,q,rfl,Bw.mono x h⟩
 |_=>exact h
theorem ak(h:Bw E a (r.toS f) W):
  Fj E a r (λk H=>PB3 a H r k λb G=>Bw E b (f k G) W):=by
 cases r with
 |ok d G=>exact λb x s=>⟨b,G,rfl,x,s,rfl,Bw.mono x h⟩
 |_=>exact h
section
theorem out.imp(h:out E a r Q)(w:∀v H,Q v H->Q' v H):out E a r Q':=by
 cases r with
 |ok d G=>exact λb v x s q=>w _ _ (h b v x s q)
 |_=>exact h
theorem Cj.imp(h:Cj E a r Q)(w:∀v H,Q v H->Q' v H):Cj E a r Q':=by
 cases r with
 |ok d G=>exact λb v x s q=>w _ _ (h b v x s q)
 |_=>exact h
theorem Fj.imp(h:Fj E a r Q)(w:∀v H,Q v H->Q' v H):Fj E a r Q':=by
 cases r with
 |ok d G=>exact λb x s=>w _ _ (h b x s)
 |_=>exact h
def Wd.push(a:Wd)(p:vX)(ho:HO):Wd:=⟨a.K,a.n+1,λk=>if k=a.n then p else a.m k,upd a.H p ho⟩
def Wd.put(a:Wd)(p:vX)(ho:HO):Wd:={a with H:=upd a.H p ho}
def Ext.put(h:a.H p=u8):Ext a (a.put p ho):=
 ⟨rfl,zv _,λ_ _=>rfl,λq c e=>by show upd a.H p ho q=_;rw[Ah (G9 e h)];exact e,λq o u e=>by show upd a.H p ho q=_;rw[Ah (G9 e h)];exact e,λ_ t=>t.mono (λq b e=>by show upd a.H p ho q=_;rw[Ah (G9 e h)];exact e) (λq o u e=>by show upd a.H p ho q=_;rw[Ah (G9 e h)];exact e)⟩
def Ext.push(h:a.H p=u8):Ext a (a.push p ho):=
 ⟨rfl,jN _,λi b=>by show(if i=a.n then p else a.m i)=a.m i;rw[if_neg (zN b)],λq d e=>by show upd a.H p ho q=_;rw[Ah (G9 e h)];exact e,λq o u e=>by show upd a.H p ho q=_;rw[Ah (G9 e h)];exact e,λ_ t=>t.mono (λq c e=>by show upd a.H p ho q=_;rw[Ah (G9 e h)];exact e) (λq o u e=>by show upd a.H p ho q=_;rw[Ah (G9 e h)];exact e)⟩
def XD.mono(x:Ext a b)(h:XD a od fs):XD b od fs:=by
 rcases h with h|⟨d,o,c,e,f,k,r⟩
 .exact .inl h
 exact .inr ⟨d,o,c,e,x.XC _ _ _ f,k,r.mono x⟩
theorem RD.mono{a b:Wd}(x:Ext a b){o:DO}{q:Option HO}(h:RD a o q):RD b o q:=by
 cases o with
 |lst ds=>obtain⟨vs,e,r⟩:=h;exact⟨vs,e,r.mono x⟩
 |QR KA=>obtain⟨us,e,k,r⟩:=h;exact⟨us,e,k,r.mono x⟩
 |YB KA=>obtain⟨us,e,k,r⟩:=h;exact⟨us,e,k,r.mono x⟩
 |ins c fs=>obtain⟨C,dx,us,n,e,k,r⟩:=h;exact⟨C,dx,us,by rw[x.k];exact n,e,k,r.mono x⟩
 |tab C m=>obtain⟨c,P,e,t⟩:=h;exact⟨c,P,by rw[x.k];exact e,x.tab _ t⟩
 |exc c fs=>obtain⟨C,oe,u,vs,n,e,k1,k2,z⟩:=h;exact⟨C,oe,u,vs,by rw[x.k];exact n,e,k1,k2,z.mono x⟩
 |gone=>trivial
def YA.lt(s:YA a G)(h:G[i]?=u7 o):i<a.n:=by rw[<-s.len];exact(zZ.mp h).1
def YA.put(s:YA a G)(h:a.H p=u8):YA (a.put p ho) G:=by
 refine⟨s.len,s.inj,λi o e=>?_,λi b=>?_⟩
 .have z:=s.tr i (s.lt e);show RD _ o (upd a.H p ho (a.m i));rw[Ah (λq=>z (by rw[q];exact h))];exact(s.obj i o e).mono (.put h)
 have z:=s.tr i b;show upd a.H p ho (a.m i)≠u8;rw[Ah (λq=>z (by rw[q];exact h))];exact z
def YA.push(s:YA a G)(h:a.H p=u8)(r:RD (a.push p ho) o (u7 ho)):YA (a.push p ho) (G++[o]):=by
 have f:∀i,i<a.n->a.m i≠p:=λi g q=>s.tr i g (q▸h)
 have b:∀i,i<a.n->(a.push p ho).m i=a.m i:=λi g=>by show(if i=a.n then p else a.m i)=_;rw[if_neg (zN g)]
 have d:(a.push p ho).m a.n=p:=by show(if a.n=a.n then p else a.m a.n)=_;rw[if_pos rfl]
 refine⟨by simp[s.len,Wd.push],λi j g v e=>?_,λi u e=>?_,λi g=>?_⟩
 .have l:i<a.n+1:=g;have w:j<a.n+1:=v;by_cases c:i<a.n
  .by_cases k:j<a.n
   .rw[b i c,b j k]at e;exact s.inj i j c k e
   have:j=a.n:=by lia
   subst this;rw[b i c,d]at e;exact absurd e (f i c)
  have:i=a.n:=by lia
  subst this;by_cases k:j<a.n
  .rw[b j k,d]at e;exact absurd e.symm (f j k)
  lia
 .by_cases c:i<a.n
  .rw[z9 (s.len▸c)]at e;rw[b i c];show RD _ u (upd a.H p ho (a.m i));rw[Ah (f i c)];exact(s.obj i u e).mono (.push h)
  have t:=(zZ.mp e).1;have:i=a.n:=by rw[zL,s.len]at t;simp at t;lia
  subst this;rw[zM (s.len▸zv _),s.len]at e;simp at e;subst e;rw[d];show RD _ o (upd a.H p ho p);rw[Dp];exact r
 have l:i<a.n+1:=g;by_cases c:i<a.n
 .rw[b i c];show upd a.H p ho (a.m i)≠u8;rw[Ah (f i c)];exact s.tr i c
 .have:i=a.n:=by lia
  subst this;rw[d];show upd a.H p ho p≠u8;rw[Dp];simp
def Ext.wr(h:a.H p=u7 (.lst vs)):Ext a (a.put p ho):=
 ⟨rfl,zv _,λ_ _=>rfl,λq c e=>by
  show upd a.H p ho q=_;rw[Ah (λz=>by subst z;rw[h]at e;cases e)];exact e,λq o u e=>by
  show upd a.H p ho q=_;rw[Ah (λz=>by subst z;rw[h]at e;cases e)];exact e,λ_ t=>t.mono (λq b e=>by show upd a.H p ho q=_;rw[Ah (λz=>by subst z;rw[h]at e;cases e)];exact e) (λq o u e=>by show upd a.H p ho q=_;rw[Ah (λz=>by subst z;rw[h]at e;cases e)];exact e)⟩
def YA.wr(s:YA a G)(c:i<a.n)(h:a.H (a.m i)=u7 (.lst vs))(r:JA (a.put (a.m i) (.lst HL)) ds' HL):YA (a.put (a.m i) (.lst HL)) (G.set i (.lst ds')):=by
 refine⟨by rw[qH];exact s.len,s.inj,λj o e=>?_,λj d=>?_⟩
 .rw[jw]at e;show RD _ o (upd a.H (a.m i) (.lst HL) (a.m j));by_cases b:i=j
  .subst b;rw[if_pos rfl,if_pos (s.len▸c)]at e;cases e;rw[Dp];exact⟨HL,rfl,r⟩
  rw[if_neg b]at e;rw[Ah λz=>b (s.inj _ _ (s.lt e) c z).symm];exact(s.obj j o e).mono (.wr h)
 show upd a.H (a.m i) (.lst HL) (a.m j)≠u8;by_cases b:a.m j=a.m i
 .rw[b,Dp];simp
 rw[Ah b];exact s.tr j d
mutual
noncomputable def TB(n:Nat):D->Bool
 |.ref i=>decide (i<n)
 |.tup ds=>MA n ds
 |.fl ds=>MA n ds
 |_=>u9
noncomputable def MA(n:Nat):List D->Bool
 |[]=>u9
 |d::ds=>TB n d&&MA n ds
end
def Ij(n:Nat):DO->Bool
 |.lst ds=>MA n ds
 |.QR KA=>MA n (KA.map (·.2))
 |.YB KA=>MA n (KA.map (·.2))
 |.ins _ fs=>MA n (fs.map (·.2))
 |.tab _ _=>u9
 |.exc _ fs=>MA n (fs.map (·.2))
 |.gone=>u9
mutual
theorem NB.TB:∀{d:D}{v:V},NB a d v->TB a.n d=u9
 |.LA,_,_=>by simp[_D.TB]
 |.bl _,_,_=>by simp[_D.TB]
 |.int _,_,_=>by simp[_D.TB]
 |.str _,_,_=>by simp[_D.TB]
 |.ty _,_,_=>by simp[_D.TB]
 |.tup b,v,h=>by obtain⟨p,c,e,q,r⟩:=h;simp only[_D.TB];exact JA.MA r
 |.fl b,v,h=>by obtain⟨p,c,e,q,r⟩:=h;simp only[_D.TB];exact JA.MA r
 |.ref i,v,h=>by obtain⟨l,e⟩:=h;simp only[_D.TB];exact decide_eq_true l
theorem JA.MA:∀{b:List D}{vs:List V},JA a b vs->MA a.n b=u9
 |[],_,_=>by simp[_D.MA]
 |d::b,vs,h=>by
  obtain⟨v,r,e,f,c⟩:=h;simp only[_D.MA];rw[NB.TB f,JA.MA c]
  rfl
end
structure Cut (b c:Wd):Prop where
 k:c.K=b.K
 h:c.H=b.H
mutual
theorem NB.cut(x:Cut b c)(a:n<=c.n)(g:∀i,i<n->c.m i=b.m i):∀{d:D}{v:V},NB b d v->TB n d=u9->NB c d v
 |.LA,_,h,_=>h
 |.bl _,_,h,_=>h
 |.int _,_,h,_=>h
 |.str _,_,h,_=>h
 |.ty _,_,h,_=>h
 |.tup o,v,h,q=>by obtain⟨p,f,e,t,r⟩:=h;simp only[_D.TB]at q;exact⟨p,f,e,by rw[x.k,x.h];exact t,JA.cut x a g r q⟩
 |.fl o,v,h,q=>by obtain⟨p,f,e,t,r⟩:=h;simp only[_D.TB]at q;exact⟨p,f,e,by rw[x.k,x.h];exact t,JA.cut x a g r q⟩
 |.ref i,v,h,q=>by obtain⟨l,e⟩:=h;simp only[_D.TB]at q;have j:=of_decide_eq_true q;exact⟨zx j a,by rw[g i j];exact e⟩
theorem JA.cut(x:Cut b c)(f:n<=c.n)(g:∀i,i<n->c.m i=b.m i):∀{a:List D}{vs:List V},JA b a vs->MA n a=u9->JA c a vs
 |[],_,h,_=>h
 |d::a,vs,h,q=>by obtain⟨v,r,e,j,k⟩:=h;simp only[_D.MA,zP]at q;exact⟨v,r,e,NB.cut x f g j q.1,JA.cut x f g k q.2⟩
end
theorem RD.cut{b c:Wd}(x:Cut b c){n:Nat}(hn:n<=c.n)(hm:∀i,i<n->c.m i=b.m i){o:DO}{q:Option HO}(h:RD b o q)(l:Ij n o=u9):RD c o q:=by
 cases o with
 |lst ds=>obtain⟨vs,e,r⟩:=h;exact⟨vs,e,JA.cut x hn hm r l⟩
 |QR KA=>obtain⟨us,e,k,r⟩:=h;exact⟨us,e,k,JA.cut x hn hm r l⟩
 |YB KA=>obtain⟨us,e,k,r⟩:=h;exact⟨us,e,k,JA.cut x hn hm r l⟩
 |ins c fs=>obtain⟨C,dx,us,n,e,k,r⟩:=h;exact⟨C,dx,us,by rw[x.k];exact n,e,k,JA.cut x hn hm r l⟩
 |tab C m=>obtain⟨c,P,e,t⟩:=h;exact⟨c,P,by rw[x.k];exact e,by rw[x.h];exact t⟩
 |exc c fs=>
  obtain⟨C,oe,u,vs,n,e,k1,k2,z⟩:=h;refine⟨C,oe,u,vs,by rw[x.k];exact n,e,k1,k2,?_⟩;rcases z with z|⟨dx,o,us,e,f,k,r⟩
  .exact .inl z
  .exact .inr ⟨dx,o,us,e,by rw[x.h];exact f,k,JA.cut x hn hm r l⟩
 |gone=>trivial
theorem RD.Ij{a:Wd}{o:DO}{q:Option HO}(h:RD a o q):Ij a.n o=u9:=by
 cases o with
 |lst ds=>obtain⟨vs,e,r⟩:=h;exact r.MA
 |QR KA=>obtain⟨us,e,k,r⟩:=h;exact r.MA
 |YB KA=>obtain⟨us,e,k,r⟩:=h;exact r.MA
 |ins c fs=>obtain⟨C,dx,us,n,e,k,r⟩:=h;exact r.MA
 |tab C m=>rfl
 |exc c fs=>
  obtain⟨C,oe,u,vs,n,e,k1,k2,z⟩:=h;rcases z with⟨z,_⟩|⟨dx,o,us,e,f,k,r⟩
  .rw[z];rfl
  .exact r.MA
 |gone=>rfl
open Classical in
def tidy (G:DH) (r:R D):R D:=match r with
 | .ok d G'=>if G'.take (lN G)=G then
   (if TB (lN G) d=u9 then .ok d G else match d with
    |.ref i=>match G'[i]? with
     |some o=>if Ij (lN G) o=u9 then .ok (.ref (lN G)) (G++[o])else .ok d G'
     |none=>.ok d G'
    |_=>.ok d G')else .ok d G'
 |r=>r
theorem am (s:YA a G) (h:out E a (tidy G r) Q):out E a r Q:=by
 cases r with
 | ok d M=>
  intro b v x f I;unfold tidy at h;dsimp only at h;split at h
  .rename_i S;have F:∀i o,G[i]?=u7 o->M[i]?=u7 o:=λi o e=>by have C:=(zZ.mp e).1;rw[<-S,qx C]at e;exact e
   have t:∀(c:Wd),Cut b c->a.n<=c.n->(∀i,i<a.n->c.m i=b.m i)->∀i o,G[i]?=u7 o->RD c o (c.H (c.m i)):=λc q P N i o e=>by rw[q.h,N i (s.lt e)];exact(f.obj i o (F i o e)).cut q P N (s.obj i o e).Ij
   split at h
   .rename_i z;rw[s.len]at z;let c:Wd:=⟨b.K,a.n,b.m,b.H⟩;have q:Cut b c:=⟨rfl,rfl⟩;exact h c v ⟨x.k,zv _,x.m,x.tup,x.XC,x.tab⟩ ⟨s.len,λi j C g=>f.inj i j (zx C x.n) (zx g x.n),t c q (zv _) (λ_ _=>rfl),λi C=>f.tr i (zx C x.n)⟩ (I.cut q (zv _) (λ_ _=>rfl) z)
   rename_i z;split at h
   .rename_i i;obtain⟨B,L⟩:=I;split at h
    .rename_i o T;split at h
     .rename_i A;rw[s.len]at A z h;simp[_D.TB,decide_eq_true_eq]at z;let c:Wd:=⟨b.K,a.n+1,λk=>if k=a.n then b.m i else b.m k,b.H⟩;have q:Cut b c:=⟨rfl,rfl⟩;have w:∀j,j<a.n->c.m j=b.m j:=λj g=>by show(if j=a.n then b.m i else b.m j)=_;rw[if_neg (zN g)]
      have cn:c.m a.n=b.m i:=by show(if a.n=a.n then b.m i else b.m a.n)=_;rw[if_pos rfl]
      have l:∀j,j<a.n->j<b.n:=λj g=>zx g x.n
      refine h c v ⟨x.k,jN _,λj g=>(w j g).trans (x.m j g),x.tup,x.XC,x.tab⟩ ⟨by simp[s.len,c],λj k g hk e=>?_,λj u e=>?_,λj g=>?_⟩ ⟨qC _,cn▸L⟩
      .have J:j<a.n+1:=g;have U:k<a.n+1:=hk;by_cases p:j<a.n
       .by_cases y:k<a.n
        .rw[w j p,w k y]at e;exact f.inj j k (l j p) (l k y) e
        .have:k=a.n:=by lia
         subst this;rw[w j p,cn]at e;have:=f.inj j i (l j p) B e;lia
       .have:j=a.n:=by lia
        subst this;by_cases y:k<a.n
        .rw[w k y,cn]at e;have:=f.inj i k B (l k y) e;lia
        lia
      .by_cases p:j<a.n
       .rw[z9 (s.len▸p)]at e;exact t c q (jN _) w j u e
       .have O:=(zZ.mp e).1;have:j=a.n:=by rw[zL,s.len]at O;simp at O;lia
        subst this;rw[zM (s.len▸zv _),s.len]at e;simp at e;subst e;rw[cn];exact(f.obj i o T).cut q (jN _) w A
      .have J:j<a.n+1:=g;by_cases p:j<a.n
       .rw[w j p];exact f.tr j (l j p)
       .have:j=a.n:=by lia
        subst this;rw[cn];exact f.tr i B
     exact h b v x f ⟨B,L⟩
    exact h b v x f ⟨B,L⟩
   exact h b v x f I
  exact h b v x f I
 |_=>exact h
end
noncomputable def dV(i:Nat):DE:=λS G=>match S[i]? with
 |some (u7 d)=>.ok d G
 |_=>.bad
noncomputable def dC(d:D):DE:=λ_ G=>.ok d G
def XA(f:D->D->DH->R D)(a b:DE):DE:=λS G=>(a S G).bind λx G1=>(b S G1).bind λy G2=>f x y G2
def JM(f:D->DH->R D)(a:DE):DE:=λS G=>(a S G).bind f
noncomputable def Bb:DA:=λ_ G=>.ok [] G
def Ai(a:DE)(r:DA):DA:=λS G=>(a S G).bind λx G1=>(r S G1).bind λxs G2=>.ok (x::xs) G2
def IA(f:List D->DH->R D)(t:DA):DE:=λS G=>(t S G).bind f
def Bk(t:DE):DE:=λS G=>tidy G (t S G)
def SO:D->DH->R Bool
 |.bl k,G=>.ok k G
 |_,_=>.bad
def Ao(t:DE):DB:=λS G=>(t S G).bind SO
def Gp(t u:DB):DB:=λS G=>(t S G).bind λk G1=>if k=u9 then u S G1 else .ok uA G1
def TH(t u:DB):DB:=λS G=>(t S G).bind λk G1=>if k=u9 then .ok u9 G1 else u S G1
def Fv(t:DB):DB:=λS G=>(t S G).bind λk G1=>.ok (!k) G1
def Qz(t u:DE):DE:=λS G=>(t S G).bind λx G1=>(SO x G1).bind λk G2=>if k=u9 then u S G2 else .ok (.bl uA) G2
def Rw(t:DE):DE:=λS G=>(t S G).bind λx G1=>(SO x G1).bind λk G2=>.ok (.bl (!k)) G2
def UO(c:DB)(t u:DE):DE:=λS G=>(c S G).bind λk G1=>if k=u9 then t S G1 else u S G1
def Nb(f g:D->D->DH->R D)(a b c:DE):DE:=λS G=>(a S G).bind λx G1=>(b S G1).bind λy G2=>(f x y G2).bind λz G3=>(SO z G3).bind λk G4=>
 if k=u9 then(c S G4).bind λw G5=>g y w G5 else .ok (.bl uA) G4
noncomputable def Az(ds:List D)(G:DH):R D:=if lN ds<=1000000 then .ok (.tup ds) G else .bad
noncomputable def Ac(ds:List D)(G:DH):R D:=if lN ds<=1000000 then .ok (.ref (lN G)) (G++[.lst ds])else .bad
noncomputable def Bm(d:D)(G:DH):Option (List D):=match d with
 |.tup xs=>u7 xs
 |.fl xs=>u7 xs
 |.ref i=>match G[i]? with
  |some (.lst xs)=>u7 xs
  |_=>u8
 |_=>u8
def VB:(1000000:Nat)<=sizeLine:=by decide
section
variable{X:Cx}{E:XK}{a b c:vW}{ta tb tc:DE}{pos:Pos}
def two{K:za}{f:D->D->DH->R D}{g:St}{H:Hp}{Q:VK}(h:lE K E (XA f ta tb) g H Q):VU (ZE K E f) (lE K E ta) (lE K E tb) g H Q:=by obtain⟨a,S,G,hk,rfl,s,r,h⟩:=h;refine⟨a,S,G,hk,rfl,s,r,(Eo h).imp ?_⟩;rintro v _ ⟨b,d,i,rfl,x,z,q,_,j⟩;refine⟨b,S,i,x.k.trans hk,rfl,z,r.mono x,(Eo j).imp ?_⟩;rintro w _ ⟨c,e,n,rfl,y,m,o,_,l⟩;exact⟨c,n,d,e,y.k.trans (x.k.trans hk),rfl,m,q.mono y,o,l⟩
def Hz(i:Nat){pos:Pos}(j:X.N[i]?=u7 x:=by rfl)(k:YS X.env.scope x:=by first|exact Or.inl rfl|exact Or.inr (Or.inl rfl)|exact Or.inr (Or.inr rfl))(l:(x==("__debug__":Str))=uA:=by decide)
  (f:(x==("__classdict__":Str))=uA:=by decide):QE X E (.Name x pos) (dV i):=by
 refine(aF j k l f).mono λm H Q h=>?_
 obtain⟨a,S,G,hk,rfl,s,r,h⟩:=h;unfold dV at h;split at h
 .rename_i d e;obtain⟨v,g,q⟩:=r.get i d e;exact⟨v,g,h a v (.refl a) s q⟩
 exact h.elim
def Mq{K:za}{d:D}{v:V}{f:St}{H:Hp}{Q:VK}(h:lE K E (dC d) f H Q)(r:∀a:Wd,a.K=K->NB a d v):Q v H:=by obtain⟨a,S,G,hk,rfl,s,_,h⟩:=h;exact h a v (.refl a) s (r a hk)
def Tf{i:Int}{j:Nat}:QE X E (.Constant (.int i) j pos) (dC (.int i)):=k6.mono λd H Q h=>Mq h λ_ _=>rfl
def ao{i:Bool}{j:Nat}:QE X E (.Constant (.bool i) j pos) (dC (.bl i)):=k7.mono λd H Q h=>Mq h λ_ _=>rfl
def om{j:Nat}:QE X E (.Constant .none j pos) (dC .LA):=k8.mono λd H Q h=>Mq h λ_ _=>rfl
def aq{i:Str}{j:Nat}:QE X E (.Constant (.str i) j pos) (dC (.str i)):=k9.mono λd H Q h=>Mq h λ_ _=>rfl
def au(g:Gl X x)(i:X.mg x=u7 u)(r:RelV v u)(f:∀a:Wd,a.K=X.K->NB a d v)(j:(x==("__debug__":Str))=uA:=by decide):QE X E (.Name x pos) (dC d):=
 (ka g i r j).mono λk H Q h=>Mq h f
def T3(ho:GC X (vG op) (ZE X.K E f))(g:QE X E a ta)(d:QE X E b tb):QE X E (.BinOp a op b pos) (XA f ta tb):=
 (lh ho g d).mono λ_ _ _ h=>two h
def oo(ho:GC X (vL op) (ZE X.K E f))(g:QE X E a ta)(d:QE X E b tb)(i:vF op b=uA):QE X E (.Compare a [op] [b] pos) (XA f ta tb):=
 (mM ho g d i).mono λ_ _ _ h=>two h
theorem Zg{K:za}{t:DE}{f:St}{H:Hp}{Q:Bool->Hp->Prop}(h:lB K E (Ao t) f H Q):Oi (lE K E t) f H Q:=by
 obtain⟨a,S,G,hk,rfl,s,r,h⟩:=h;refine⟨a,S,G,hk,rfl,s,r,(oi h).imp ?_⟩;rintro v _ ⟨b,d,j,rfl,x,i,q,_,g⟩;cases d with
 |bl k=>exact⟨k,q,g b (.refl b) i⟩
 |_=>exact g.elim
def av(w:∀d H Q,t' d H Q->t d H Q)(d:St)(H:Hp)(Q:Bool->Hp->Prop)(h:Oi t' d H Q):Oi t d H Q:=w _ _ _ h
def Xg(ho:GC X (vL op) (ZE X.K E f))(i:QE X E a ta)(g:QE X E b tb)(j:vF op b=uA):QT X E (.Compare a [op] [b] pos) (Ao (XA f ta tb)):=
 (mN ho i g j).mono λd H Q h=>av (λ_ _ _ z=>two z) d H Q (Zg h)
theorem chain{K:za}{f g:D->D->DH->R D}{n:St}{H:Hp}{Q:VK}(h:lE K E (Nb f g ta tb tc) n H Q):aK (ZE K E f) (ZE K E g) (lE K E ta) (lE K E tb) (lE K E tc) n H Q:=by
 obtain⟨a,S,G,hk,rfl,s,r,h⟩:=h;refine⟨a,S,G,hk,rfl,s,r,(Eo h).imp ?_⟩;rintro v _ ⟨b,d,B,rfl,x,U,q,_,O⟩;refine⟨b,S,B,x.k.trans hk,rfl,U,r.mono x,(Eo O).imp ?_⟩;rintro w _ ⟨c,e,J,rfl,y,P,l,_,C⟩;refine⟨c,J,d,e,y.k.trans (x.k.trans hk),rfl,P,q.mono y,l,(Eo C).imp ?_⟩;rintro z _ ⟨o,F,T,rfl,i,A,Y,_,j⟩;cases F with
 | bl k=>
  refine⟨k,Y,?_⟩;cases k with
  |false=>exact j o (.bl uA) (.refl _) A rfl
  |true=>
   refine⟨o,S,T,(i.k.trans (y.k.trans (x.k.trans hk))),rfl,A,((r.mono x).mono y).mono i,(Eo j).imp ?_⟩;rintro z4 _ ⟨M,e4,L,rfl,m,I,N,_,Z⟩;exact⟨M,L,e,e4,m.k.trans (i.k.trans (y.k.trans (x.k.trans hk))),rfl,I,(l.mono i).mono m,N,Z⟩
 |_=>exact j.elim
def oq(ho:GC X (vL op) (ZE X.K E f))(d:GC X (vL op') (ZE X.K E g))(k:QE X E a ta)(j:QE X E b tb)(m:QE X E c tc)
  (l:lastMarks [op,op'] [b,c]=uA:=by with_unfolding_all rfl):QT X E (.Compare a [op,op'] [b,c] pos) (Ao (Nb f g ta tb tc)):=
 (mO ho d k j m l).mono λi H Q h=>av (λ_ _ _ z=>chain z) i H Q (Zg h)
def ot(g:QE X E a ta)(f:∀d,isTrue a X.env d=(do let v<-d;standAt a.pos;holding [v] (truthy v)):=by intro _;rfl):QT X E a (Ao ta):=
 (ke g f).mono λi H Q h=>Zg h
def ou(d:QE X E a ta):QE X E a (Bk ta):=.mono d λf H Q h=>by obtain⟨w,S,G,hk,rfl,s,r,h⟩:=h;exact⟨w,S,G,hk,rfl,s,r,am s h⟩
def QW(X:Cx)(E:XK)(e:vW)(t:DB):Prop:=PW X e (lB X.K E t)
def _root_._L.PW.mono(h:PW X e t)(w:∀d H Q,t' d H Q->t d H Q):PW X e t':=λg f s d H Q I q=>h g f s d H Q I (w d H Q q)
variable{u t:DB}{rest:List vW}
theorem oy{K:za}{d:St}{H:Hp}{Q:Bool->Hp->Prop}(h:lB K E (Gp t u) d H Q):QU (lB K E t) (lB K E u) d H Q:=by
 obtain⟨a,S,G,hk,rfl,s,r,h⟩:=h;refine⟨a,S,G,hk,rfl,s,r,(X8 h).imp ?_⟩;rintro k _ ⟨b,i,rfl,x,g,_,f⟩;cases k with
 |true=>exact⟨b,S,i,x.k.trans hk,rfl,g,r.mono x,f⟩
 |false=>exact f b (.refl b) g
theorem oz{K:za}{d:St}{H:Hp}{Q:Bool->Hp->Prop}(h:lB K E (TH t u) d H Q):Pw (lB K E t) (lB K E u) d H Q:=by
 obtain⟨a,S,G,hk,rfl,s,r,h⟩:=h;refine⟨a,S,G,hk,rfl,s,r,(X8 h).imp ?_⟩;rintro k _ ⟨b,i,rfl,x,g,_,f⟩;cases k with
 |true=>exact f b (.refl b) g
 |false=>exact⟨b,S,i,x.k.trans hk,rfl,g,r.mono x,f⟩
def pA(d:QT X E a t):QW X E (.BoolOp .And [a] pos) t:=JO d
def pB(d:QT X E a t):QW X E (.BoolOp .Or [a] pos) t:=GR d
def Xj(f:QT X E a t)(d:QW X E (.BoolOp .And (b::rest) pos) u):QW X E (.BoolOp .And (a::b::rest) pos) (Gp t u):=(HR f d).mono λ_ _ _ h=>oy h
def pC(f:QT X E a t)(d:QW X E (.BoolOp .Or (b::rest) pos) u):QW X E (.BoolOp .Or (a::b::rest) pos) (TH t u):=(RU f d).mono λ_ _ _ h=>oz h
def RV(h:QW X E a t):QT X E a t:=_L.PW.pt h
def pE(f:QT X E a t):QT X E (.UnaryOp .Not a pos) (Fv t):=(kf f).mono λj H Q h=>by obtain⟨a,S,G,hk,rfl,s,r,h⟩:=h;refine⟨a,S,G,hk,rfl,s,r,(X8 h).imp ?_⟩;rintro k _ ⟨b,i,rfl,x,g,_,d⟩;exact d b (.refl b) g
def pF{op}(h:QE X E a ta):QE X E (.BoolOp op [a] pos) ta:=kj h
theorem pG(l:QE X E a ta)(j:QE X E (.BoolOp .And (b::rest) pos) tb):QE X E (.BoolOp .And (a::b::rest) pos) (Qz ta tb):=(km l j).mono λm H Q h=>by
 obtain⟨a,S,G,hk,rfl,s,r,h⟩:=h;refine⟨a,S,G,hk,rfl,s,r,(Eo h).imp ?_⟩;rintro v _ ⟨b,d,i,rfl,x,g,q,_,f⟩;cases d with
 |bl k=>
  refine⟨k,q,?_⟩;cases k with
  |true=>exact⟨b,S,i,x.k.trans hk,rfl,g,r.mono x,f⟩
  |false=>exact f b _ (.refl b) g rfl
 |_=>exact f.elim
theorem pH(g:QE X E a ta):QE X E (.UnaryOp .Not a pos) (Rw ta):=(kn g).mono λl H Q h=>by
 obtain⟨a,S,G,hk,rfl,s,r,h⟩:=h;refine⟨a,S,G,hk,rfl,s,r,(Eo h).imp ?_⟩;rintro v _ ⟨b,d,j,rfl,x,i,q,_,f⟩;cases d with
 |bl k=>exact⟨k,q,f b _ (.refl b) i rfl⟩
 |_=>exact f.elim
theorem pI(l:QT X E c t)(j:QE X E a ta)(i:QE X E b tb):QE X E (.IfExp c a b pos) (UO t ta tb):=(ko l j i).mono λm H Q h=>by
 obtain⟨a,S,G,hk,rfl,s,r,h⟩:=h;refine⟨a,S,G,hk,rfl,s,r,(Zv h).imp ?_⟩;rintro k _ ⟨b,d,rfl,x,g,_,f⟩;cases k with
 |_=>exact⟨b,S,d,x.k.trans hk,rfl,g,r.mono x,f⟩
variable{es:List vW}{tr:DA}
def pJ:QA X E [] Bb:=mj.mono λd H Q h=>by obtain⟨a,S,G,hk,rfl,s,r,h⟩:=h;exact h a [] (.refl a) s rfl
noncomputable def notStar:vW->Bool
 |.Starred _ _=>uA
 |_=>u9
def K1(a:vW)(es:List vW)(env:Env)(h:notStar a=u9):wQ (a::es) env=(uA,eval a env)::wQ es env:=by
 cases a<;>first
  |exact absurd h zH
  |rfl
theorem Mz(pos:Pos)(env:Env):∀es:List vW,es.all notStar=u9->(vD pos (wQ es env)).any (·.1)=uA
 |[],_=>rfl
 |a::es,h=>by
  rw[jE,zP]at h;rw[K1 a es env h.1];have d:=Mz pos env es h.2;unfold vD at d⊢;rw[zK,j0,d]
  rfl
def pK(m:QE X E a ta)(o:QA X E es tr)(i:notStar a=u9:=by rfl):QA X E (a::es) (Ai ta tr):=(mm m o (K1 a es X.env i)).mono λz H Q h=>by obtain⟨a,S,G,hk,rfl,s,r,h⟩:=h;refine⟨a,S,G,hk,rfl,s,r,(oj h).imp ?_⟩;rintro v _ ⟨b,d,f,rfl,x,w,q,_,g⟩;refine⟨b,S,f,x.k.trans hk,rfl,w,r.mono x,(ol g).imp ?_⟩;rintro A _ ⟨c,C,B,rfl,y,l,n,_,j⟩;exact j c _ (.refl c) l (.cons (q.mono y) n)
def pL{x1}(h:QA X E es tr):QE X E (.Tuple es x1 pos) (IA Az tr):=(Xm h).mono λk H Q h=>by
 obtain⟨a,S,G,hk,rfl,s,r,h⟩:=h;refine⟨a,S,G,hk,rfl,s,r,(Js h).imp ?_⟩;rintro f _ ⟨b,l,j,rfl,x,i,q,_,d⟩;unfold Az at d;split at d
 .rename_i g;exact⟨by rw[<-q.length];exact zG g VB,λp hp=>(d (b.put p (.tup f)) (.ref p) (.put hp) (i.put hp) ⟨p,f,rfl,.of Dp,q.mono (.put hp)⟩)⟩
 exact d.elim
def pM(h:QA X E es tr):QE X E (.List es pos) (IA Ac tr):=(mn h).mono λk H Q h=>by
 obtain⟨a,S,G,hk,rfl,s,r,h⟩:=h;refine⟨a,S,G,hk,rfl,s,r,(Js h).imp ?_⟩;rintro g _ ⟨b,l,j,rfl,x,f,q,_,d⟩;unfold Ac at d;split at d
 .rename_i i;refine⟨by rw[<-q.length];exact zG i VB,λp hp=>?_⟩;refine d (b.push p (.lst g)) (.ref p) (.push hp) (f.push hp ⟨g,rfl,q.mono (.push hp)⟩) ⟨?_,?_⟩
  .rw[f.len];exact qC _
  rw[f.len];show V.ref p=.ref (if b.n=b.n then p else b.m b.n);rw[if_pos rfl]
 exact d.elim
variable{e:vW}{x:Str}{p:Pos}
def Yi{K:za}{f:List D->DH->R D}{d:St}{H:Hp}{Q:VK}(h:lE K E (IA f tr) d H Q):lA K E tr d H (λvs g=>IM K E f vs g Q):=by obtain⟨a,S,G,hk,rfl,s,r,h⟩:=h;refine⟨a,S,G,hk,rfl,s,r,(Js h).imp ?_⟩;rintro vs _ ⟨b,l,i,rfl,x,m,q,_,j⟩;exact⟨b,i,l,x.k.trans hk,rfl,m,q,j⟩
def pN{id:String}{f:List D->DH->R D}(n:LB X (.builtin id) (IM X.K E f))(j:Gl X x)(m:X.mg x=u8)(l:vH x=u7 (.builtin id))(k:QA X E (e::es) tr)(i:x≠"__name__":=by decide)(g:(x==("__debug__":Str))=uA:=by decide)
  (o:notStar e=u9:=by rfl) (d:es.all notStar=u9:=by rfl):QE X E (.Call (.Name x p) (e::es) [] pos) (IA f tr):=
 (nC n j m l k i g (K1 e es X.env o) (Mz pos X.env es d)).mono λq H Q h=>Yi h
def pO{id:String}{f:List D->DH->R D}(n:LB X (.type id) (IM X.K E f))(j:Gl X x)(m:X.mg x=u8)(l:vH x=u7 (.type id))(k:QA X E (e::es) tr)(i:x≠"__name__":=by decide)(g:(x==("__debug__":Str))=uA:=by decide)
  (o:notStar e=u9:=by rfl) (d:es.all notStar=u9:=by rfl):QE X E (.Call (.Name x p) (e::es) [] pos) (IA f tr):=
 (nE n j m l k i g (K1 e es X.env o) (Mz pos X.env es d)).mono λq H Q h=>Yi h
def pP{CX:PL}{k:Nat}{f:vX}{i:vK}{ps:List Str}{F:List D->DH->R D}(m:JD X.prog X.w X.K X.mg X.base CX k f i ps (lF X.K F))(C:HB k X.A)(n:Gl X x)(z:X.mg x=u7 (.ref f))(hk:qe X.K (.ref f)=u9)(v:Binds X.K i ps [])
  (o:Passes CX X E0) (y:QA X E0 (e::es) tr) (g:(x==("__debug__":Str))=uA:=by decide) (J:notStar e=u9:=by rfl) (d:es.all notStar=u9:=by rfl):
  QE X E0 (.Call (.Name x p) (e::es) [] pos) (IA F tr):=
 (mw m C n z hk v .nil o y g (K1 e es X.env J) (Mz pos X.env es d)).mono λL H Q h=>by
  replace h:=Yi h;obtain⟨a,S,G,hk,rfl,s,r,h⟩:=h
  refine⟨a,S,G,hk,rfl,s,r,h.imp ?_⟩;rintro M _ ⟨b,j,B,hk,rfl,I,q,l⟩;exact⟨b,j,B,hk,rfl,I,by rw[qX];exact q,l⟩
def pQ(g:QJ X (ZE X.K E f))(i:QE X E a ta)(j:QE X E b tb)(d:IK b:=by intro _ _;rfl):QE X E (.Subscript a b pos) (XA f ta tb):=
 (nU g i j d).mono λ_ _ _ h=>two h
end
noncomputable instance (i j:Int):Decidable (WL i j):=by unfold WL;infer_instance
noncomputable instance (i j:Int):Decidable (KO i j):=by unfold KO;infer_instance
def LK(j:Int):Prop:=0<j/\j.natAbs.log2<9000
noncomputable instance (j:Int):Decidable (LK j):=by unfold LK;infer_instance
def Jp:D->D->DH->R D
 |.int i,.int j,G=>.ok (.int (i-j)) G
 |_,_,_=>.bad
def Ir:D->D->DH->R D
 |.int i,.int j,G=>if LK j then .ok (.int (i/j)) G else .bad
 |_,_,_=>.bad
def My:D->D->DH->R D
 |.int i,.int j,G=>if 0<j then .ok (.int (i%j)) G else .bad
 |_,_,_=>.bad
def Q9:D->D->DH->R D
 |.int i,.int j,G=>if KO i j then .ok (.int (i^j.toNat)) G else .bad
 |_,_,_=>.bad
def Ji:D->D->DH->R D
 |.int i,.int j,G=>.ok (.bl (decide (i<j))) G
 |.str i,.str j,G=>.ok (.bl (decide (i.cps.toList<j.cps.toList))) G
 |_,_,_=>.bad
def Qo:D->D->DH->R D
 |.int i,.int j,G=>.ok (.bl (decide (i<=j))) G
 |.str i,.str j,G=>.ok (.bl (!decide (j.cps.toList<i.cps.toList))) G
 |_,_,_=>.bad
def Mg:D->D->DH->R D
 |.int i,.int j,G=>.ok (.bl (decide (j<i))) G
 |.str i,.str j,G=>.ok (.bl (decide (j.cps.toList<i.cps.toList))) G
 |_,_,_=>.bad
def Qf:D->D->DH->R D
 |.int i,.int j,G=>.ok (.bl (decide (j<=i))) G
 |.str i,.str j,G=>.ok (.bl (!decide (i.cps.toList<j.cps.toList))) G
 |_,_,_=>.bad
noncomputable def Em(d:D)(G:DH):Option (List D):=match d with
 |.fl xs=>u7 xs
 |.ref i=>match G[i]? with
  |some (.lst xs)=>u7 xs
  |_=>u8
 |_=>u8
def Do:D->D->DH->R D
 |.int i,.int j,G=>.ok (.int (i+j)) G
 |.str i,.str j,G=>if i.length+j.length<=1000000 then .ok (.str (i++j)) G else .bad
 |.tup xs,.tup ys,G=>if xs≠[]/\xs.length+ys.length<=1000000 then .ok (.tup (xs++ys)) G else .bad
 |d,e,G=>match Em d G,Em e G with
  |some xs,u7 ys=>if xs.length+ys.length<=1000000 then .ok (.ref G.length) (G++[.lst (xs++ys)])else .bad
  |_,_=>.bad
section
variable{X:Cx}{E:XK}
def Fo(ho:GC X f r)
  (h:∀(a:Wd)(G:DH)(d e:D)(x y:V)(Q:VK),a.K=X.K->YA a G->NB a d x->NB a e y->out E a (F d e G) Q->r x y a.H Q):GC X f (ZE X.K E F):=
 ho.mono λx y H Q zz=>by obtain⟨a,G,d,e,hk,g,s,b,c,q⟩:=zz;subst g;exact h a G d e x y Q hk s b c q
def pR:GC X (vG .Sub) (ZE X.K E Jp):=Fo lm λa G d e x y Q hk s b c q=>by
 cases d<;>cases e<;>first
  |exact q.elim
  |exact⟨_,_,b,c,q a _ (.refl a) s rfl⟩
def pS:GC X (vG .FloorDiv) (rI (λ_ j=>LK j) λi j=>.int (i/j)):=PX λi j _ _ _ _ _ a q=>by refine floordiv_int (by have:=a.1;lia) (by rw[Int.fdiv_eq_ediv_of_nonneg _ (xR a.1)];exact q) (.inl (PyProof.noPylong_of_log2 a.2))
def pT:GC X (vG .FloorDiv) (ZE X.K E Ir):=Fo pS λa G d e x y Q hk s rd re q=>by
 cases d<;>cases e<;>first
  |exact q.elim
  | (
    rename_i i j;unfold Ir at q;dsimp only at q;split at q
    .exact⟨_,_,rd,re,by assumption,q a _ (.refl a) s rfl⟩
    exact q.elim)
def pU:GC X (vG .Mod) (ZE X.K E My):=Fo lu λa G d e x y Q hk s rd re q=>by
 cases d<;>cases e<;>first
  |exact q.elim
  | (
    rename_i i j;unfold My at q;dsimp only at q;split at q
    .exact⟨_,_,rd,re,by assumption,q a _ (.refl a) s rfl⟩
    exact q.elim)
def pV:GC X (vG .Pow) (ZE X.K E Q9):=Fo lz λa G d e x y Q hk s rd re q=>by
 cases d<;>cases e<;>first
  |exact q.elim
  | (
    rename_i i j;unfold Q9 at q;dsimp only at q;split at q
    .exact⟨_,_,rd,re,by assumption,q a _ (.refl a) s rfl⟩
    exact q.elim)
def L2:GC X (vL .Lt) (ZE X.K E Ji):=Fo (mC.or mH) λa G d e x y Q hk s b c q=>by
 cases d<;>cases e<;>first
  |exact q.elim
  |exact .inl ⟨_,_,b,c,q a _ (.refl a) s rfl⟩
  |exact .inr ⟨_,_,b,c,q a _ (.refl a) s rfl⟩
def pW:GC X (vL .LtE) (λx y H Q=>∃i j,x=.str i/\y=.str j/\Q (.bl (!decide (j.cps.toList<i.cps.toList))) H):=by intro a s d H x y v u Q I b c h;obtain⟨i,j,rfl,rfl,q⟩:=h;obtain⟨t,rfl⟩:=b;obtain⟨e,rfl⟩:=c;exact PySem.P.le_str ⟨.bl _,H,I,rfl,q⟩
def pX:GC X (vL .Gt) (λx y H Q=>∃i j,x=.str i/\y=.str j/\Q (.bl (decide (j.cps.toList<i.cps.toList))) H):=by intro a s d H x y v u Q I b c h;obtain⟨i,j,rfl,rfl,q⟩:=h;obtain⟨t,rfl⟩:=b;obtain⟨e,rfl⟩:=c;exact PySem.P.gt_str ⟨.bl _,H,I,rfl,q⟩
def pY:GC X (vL .GtE) (λx y H Q=>∃i j,x=.str i/\y=.str j/\Q (.bl (!decide (i.cps.toList<j.cps.toList))) H):=by intro a s d H x y v u Q I b c h;obtain⟨i,j,rfl,rfl,q⟩:=h;obtain⟨t,rfl⟩:=b;obtain⟨e,rfl⟩:=c;exact PySem.P.ge_str ⟨.bl _,H,I,rfl,q⟩
def P2:GC X (vL .LtE) (ZE X.K E Qo):=Fo (mE.or pW) λa G d e x y Q hk s b c q=>by
 cases d<;>cases e<;>first
  |exact q.elim
  |exact .inl ⟨_,_,b,c,q a _ (.refl a) s rfl⟩
  |exact .inr ⟨_,_,b,c,q a _ (.refl a) s rfl⟩
def Q2:GC X (vL .Gt) (ZE X.K E Mg):=Fo (mF.or pX) λa G d e x y Q hk s b c q=>by
 cases d<;>cases e<;>first
  |exact q.elim
  |exact .inl ⟨_,_,b,c,q a _ (.refl a) s rfl⟩
  |exact .inr ⟨_,_,b,c,q a _ (.refl a) s rfl⟩
def T2:GC X (vL .GtE) (ZE X.K E Qf):=Fo (mG.or pY) λa G d e x y Q hk s b c q=>by
 cases d<;>cases e<;>first
  |exact q.elim
  |exact .inl ⟨_,_,b,c,q a _ (.refl a) s rfl⟩
  |exact .inr ⟨_,_,b,c,q a _ (.refl a) s rfl⟩
def YA.lst(s:YA a G)(h:G[i]?=u7 (.lst xs)):∃vs,a.H (a.m i)=u7 (.lst vs)/\JA a xs vs:=s.obj i _ h
def Jt{E:XK}(s:YA a G)(r:JA a ds vs)(h:out E a (.ok (.ref (lN G)) (G++[.lst ds])) Q)(p:vX)(hp:a.H p=u8):Q (.ref p) (upd a.H p (.lst vs)):=by
 refine h (a.push p (.lst vs)) (.ref p) (.push hp) (s.push hp ⟨vs,rfl,r.mono (.push hp)⟩) ⟨?_,?_⟩
 .rw[s.len];exact qC _
 rw[s.len];show V.ref p=.ref (if a.n=a.n then p else a.m a.n);rw[if_pos rfl]
def Uy{E:XK}(s:YA a G)(r:JA a ds vs)(h:out E a (.ok (.tup ds) G) Q)(p:vX)(hp:a.H p=u8):Q (.ref p) (upd a.H p (.tup vs)):=
 h (a.put p (.tup vs)) (.ref p) (.put hp) (s.put hp) ⟨p,vs,rfl,.of Dp,r.mono (.put hp)⟩
theorem R1(s:YA a G)(r:NB a d x)(h:Em d G=u7 xs):∃p vs,x=.ref p/\ME a.K a.H p vs/\JA a xs vs:=by
 cases d with
 |fl j=>
  have e:=Option.some.inj h;subst e;obtain⟨p,vs,e,q,c⟩:=r;exact⟨p,vs,e,q.sq,c⟩
 |ref i=>
  unfold Em at h;dsimp only at h;split at h
  .rename_i j f;have e:=Option.some.inj h;subst e;obtain⟨vs,b,g⟩:=s.lst f;exact⟨a.m i,vs,r.2,.of b,g⟩
  cases h
 |_=>cases h
def aw(K:za):R2:=λx y H Q=>∃l b xs zs,x=.ref l/\y=.ref b/\ME K H l xs/\ME K H b zs/\lN xs+lN zs<=sizeLine/\∀p,H p=u8->Q (.ref p) (upd H p (.lst (xs++zs)))
def pZ:GC X (vG .Add) (aw X.K):=by
 intro t s σ H x y v u Q I B U h;obtain⟨l,b,Z,W,rfl,rfl,J,A,Y,q⟩:=h;cases B;cases U;obtain⟨c,r,P,_⟩:=I.list J;obtain⟨a,m,C,_⟩:=I.list A;obtain⟨⟨N,M,k,w⟩,n,p,L,_,O⟩:=P;obtain⟨⟨o,j,e,f⟩,z,d,g,_,i⟩:=C;cases L;cases O;cases g;cases i;have hl:=r.length;have S:=m.length;refine concat_meets ⟨_,p,rfl⟩ ⟨_,d,rfl⟩ noFill_list_add seq_list_add PySem.F.slot_list_add PySem.F.entry_list_add (PySem.F.args_list_add_2 _ _) (list_addW l b c.toArray a.toArray n z M j w f (by rw[zy,zy];lia)) ⟨p,d,?_⟩
 have T:c.toArray++a.toArray=(c++a).toArray:=by simp
 rw[T];exact⟨.ref _,_,I.OV (r.append m) (by rw[zL];lia),rfl,q _ I.fresh⟩
def U3:GC X (vG .Add) (ZE X.K E Do):=Fo (lj.or (mP.or (pZ.or nT))) λa G d e x y Q hk s rd re q=>by
 have lst:out E a (match Em d G,Em e G with
  |some xs,u7 ys=>if xs.length+ys.length<=1000000 then .ok (.ref G.length) (G++[.lst (xs++ys)])else .bad
  |_,_=>.bad) Q->aw X.K x y a.H Q:=λq=>by
  split at q
  .rename_i xs ys h1 h2;split at q
   .rename_i hl;obtain⟨p,vs,e1,q1,r1⟩:=R1 s rd h1;obtain⟨p',HL,e2,q2,r2⟩:=R1 s re h2;rw[hk]at q1 q2;exact⟨p,p',vs,HL,e1,e2,q1,q2,by rw[<-r1.length,<-r2.length];exact zG hl VB,λp hp=>Jt s (r1.append r2) q p hp⟩
   exact q.elim
  exact q.elim
 cases d<;>cases e<;>first
  |exact .inl ⟨_,_,rd,re,q a _ (.refl a) s rfl⟩
  |exact(λq=>Or.inr (Or.inr (Or.inl (lst q)))) q
  |skip
 .rename_i i j;unfold Do at q;dsimp only at q;split at q
  .rename_i hl;exact .inr (.inl ⟨_,_,rd,re,zG hl VB,q a _ (.refl a) s rfl⟩)
  exact q.elim
 .rename_i xs ys;unfold Do at q;dsimp only at q;split at q
  .rename_i hl;obtain⟨p,vs,e1,h1,r1⟩:=rd;obtain⟨p',HL,e2,h2,r2⟩:=re;rw[hk]at h1 h2;refine .inr (.inr (.inr ⟨p,p',vs,HL,e1,e2,h1,h2,λz=>hl.1 (qO (by rw[r1.length,z];rfl)),by rw[<-r1.length,<-r2.length];exact zG hl.2 VB,λz=>?_,λ_ p0 hp=>(Uy s (r1.append r2) q p0 hp)⟩))
   .refine q a (.ref p) (.refl a) s ⟨p,vs,rfl,hk▸h1,?_⟩;have e3:=qO (by rw[r2.length,z];rfl);rw[e3,qX];exact r1
  exact q.elim
inductive VD where
 |flat (v:V)
 |lst (xs:List D)
 |tup (xs:List D)
 |bad
def view(G:DH):D->VD
 |.LA=>.flat .LA
 |.bl b=>.flat (.bl b)
 |.int i=>.flat (.int i)
 |.str x=>.flat (.str x)
 |.ty _=>.bad
 |.tup xs=>.tup xs
 |.fl xs=>.lst xs
 |.ref i=>match G[i]? with
  |some (.lst xs)=>.lst xs
  |_=>.bad
noncomputable def OT(f:D->D->Option Bool):List D->List D->Option Bool
 |x::xs,y::ys=>match f x y,OT f xs ys with
  |some a,u7 b=>u7 (a&&b)
  |_,_=>u8
 |_,_=>u7 u9
def NN:Nat->DH->D->D->Option Bool
 |0=>λ_ _ _=>u8
 | n+1=>λG d e=>match view G d,view G e with
  |.flat a,.flat b=>u7 (HI a b)
  |.lst xs,.lst ys=>if lN xs=lN ys then OT (NN n G) xs ys else u7 uA
  |.tup xs,.tup ys=>match OT (NN n G) xs ys with
   |some b=>u7 (b&&lN xs==lN ys)
   |none=>u8
  |.bad,_=>u8
  |_,.bad=>u8
  |_,_=>u7 uA
theorem Rt:∀{xs ys:List D}{k:Bool},OT f xs ys=u7 k->∃e:Nat->Bool,(∀(j:Nat)(x y:D),xs[j]?=u7 x->ys[j]?=u7 y->f x y=u7 (e j))/\k=(zW (min (lN xs) (lN ys))).all e
 | [],ys,k,h=>⟨λ_=>u9,λj x y c _=>by simp at c,by
   have d:u7 u9=u7 k:=by cases ys<;>exact h
   cases d;simp⟩
 |x::xs,[],k,h=>⟨λ_=>u9,λj x y _ c=>by simp at c,by have d:=h;cases d;simp⟩
 | x::xs,y::ys,k,h=>by
  unfold OT at h;split at h
  .rename_i a b i l;obtain⟨e,n,hk⟩:=Rt l
   refine⟨λj=>match j with |0=>a|j+1=>e j,λj o m c g=>?_,?_⟩
   .cases j with
    |zero=>simp at c g;subst c;subst g;exact i
    |succ j=>exact n j o m (by simpa using c) (by simpa using g)
   rw[<-(Option.some.inj h),hk];have:min (lN (x::xs)) (lN (y::ys))=min (lN xs) (lN ys)+1:=by simp only[zD];lia
   rw[this,jZ,jE,List.all_map]
   rfl
  cases h
theorem Qx(s:YA a G)(r:NB a d x):match view G d with
  |.flat v=>x=v/\Dw v=u9
  |.lst g=>∃p c,x=.ref p/\ME a.K a.H p c/\JA a g c
  |.tup g=>∃p c,x=.ref p/\UE a.K a.H p c/\JA a g c
  |.bad=>True:=by
 cases d with
 |ty n=>trivial
 |tup g=>
  obtain⟨p,c,e,h,q⟩:=r;exact⟨p,c,e,h,q⟩
 |fl g=>
  obtain⟨p,c,e,h,q⟩:=r;exact⟨p,c,e,h.sq,q⟩
 | ref i=>
  unfold view;dsimp only;split
  .rename_i v f
   split at f<;>cases f
  .rename_i g f;split at f
   .rename_i o k;cases f;obtain⟨c,j,l⟩:=s.lst k;exact⟨a.m i,c,r.2,.of j,l⟩
   cases f
  .rename_i g f
   split at f<;>cases f
  trivial
 |_=>exact⟨r,rfl⟩
theorem p5(f:RelV y u)(c:RelV x v)(g:Dw y=u9)(e:Dw x=u9):SeqAt.RcAt A s u v (HI y x):=by
 cases y with
 |LA=>
  cases f;cases x with
  |LA=>cases c;exact .none_none
  |bl b=>cases c;exact .none_bool b
  |int b=>obtain⟨t,rfl⟩:=c;exact .none_int b t
  |str b=>obtain⟨t,rfl⟩:=c;exact .none_str b t
  |_=>exact absurd (e) zH
 |bl a=>
  cases f;cases x with
  |LA=>cases c;exact .bool_none a
  |bl b=>cases c;exact .bool_bool a b
  |int b=>obtain⟨t,rfl⟩:=c;exact .bool_int a b t
  |str b=>obtain⟨t,rfl⟩:=c;exact .bool_str a b t
  |_=>exact absurd (e) zH
 |int a=>
  obtain⟨d,rfl⟩:=f;cases x with
  |LA=>cases c;exact .int_none a d
  |bl b=>cases c;exact .int_bool a d b
  |int b=>obtain⟨t,rfl⟩:=c;exact .int_int a d b t
  |str b=>obtain⟨t,rfl⟩:=c;exact .int_str a d b t
  |_=>exact absurd (e) zH
 |str a=>
  obtain⟨d,rfl⟩:=f;cases x with
  |LA=>cases c;exact .str_none a d
  |bl b=>cases c;exact .str_bool a d b
  |int b=>obtain⟨t,rfl⟩:=c;exact .str_int a d b t
  |str b=>obtain⟨t,rfl⟩:=c;exact .str_str a d b t
  |_=>exact absurd (e) zH
 |_=>exact absurd (g) zH
theorem p7(f:RelV y u)(c:RelV x v)(g:Dw y=u9)(e:Dw x=u9):SeqAt.RcNeAt A s u v (!HI y x):=by
 cases y with
 |LA=>
  cases f;cases x with
  |LA=>cases c;exact .none_none
  |bl b=>cases c;exact .none_bool b
  |int b=>obtain⟨t,rfl⟩:=c;exact .none_int b t
  |str b=>obtain⟨t,rfl⟩:=c;exact .none_str b t
  |_=>exact absurd (e) zH
 |bl a=>
  cases f;cases x with
  |LA=>cases c;exact .bool_none a
  |bl b=>cases c;exact .bool_bool a b
  |int b=>obtain⟨t,rfl⟩:=c;exact .bool_int a b t
  |str b=>obtain⟨t,rfl⟩:=c;exact .bool_str a b t
  |_=>exact absurd (e) zH
 |int a=>
  obtain⟨d,rfl⟩:=f;cases x with
  |LA=>cases c;exact .int_none a d
  |bl b=>cases c;exact .int_bool a d b
  |int b=>obtain⟨t,rfl⟩:=c;exact .int_int a d b t
  |str b=>obtain⟨t,rfl⟩:=c;exact .int_str a d b t
  |_=>exact absurd (e) zH
 |str a=>
  obtain⟨d,rfl⟩:=f;cases x with
  |LA=>cases c;exact .str_none a d
  |bl b=>cases c;exact .str_bool a d b
  |int b=>obtain⟨t,rfl⟩:=c;exact .str_int a d b t
  |str b=>obtain⟨t,rfl⟩:=c;exact .str_str a d b t
  |_=>exact absurd (e) zH
 |_=>exact absurd (g) zH
end
section
variable{X:Cx}{E:XK}{wM:List (vX×Obj)}{σ:St}{s:vj}
def p8(v:V)(h:Dw v=u9):HI v v=u9:=by cases v<;>first|rfl|exact absurd (h) zH|(simp[HI])
theorem ax(I:Inv X wM σ a.H s)(hk:a.K=X.K)(L:YA a G):∀(n:Nat){d e:D}{x:V}{k:Bool},NB a d x->NB a e x->NN n G d e=u7 k->k=u9
 |0,_,_,_,_,_,_,h=>by cases h
 | n+1,d,e,x,k,T,P,h=>by
  have m:=Qx L T;have o:=Qx L P;have r:∀{B A:List D}{q:List V}{b:Bool},JA a B q->JA a A q->OT (NN n G) B A=u7 b->b=u9:=λ{B A q b}y t F=>by obtain⟨f,Q,S⟩:=Rt F;rw[S,xY];intro j W;have N:=qW.mp W;have l:B[j]?=u7 (B[j]'(by lia)):=zJ (by lia);have g:A[j]?=u7 (A[j]'(by lia)):=zJ (by lia);obtain⟨Z,c,M⟩:=y.get l;obtain⟨v2,i,O⟩:=t.get g;rw[c]at i;cases i;exact ax I hk L n M O (Q j _ _ l g)
  unfold NN at h
  try dsimp only at h
  revert h m o
  cases view G d<;>cases view G e<;>intro m o h<;>dsimp only at h m o<;>first
   |cases h
   |skip
  .
   rename_i v w;obtain⟨rfl,u⟩:=m;obtain⟨rfl,Y⟩:=o;exact p8 _ u
  .obtain⟨rfl,u⟩:=m;obtain⟨p,q,c,_⟩:=o;subst c;cases u
  .obtain⟨rfl,u⟩:=m;obtain⟨p,q,c,_⟩:=o;subst c;cases u
  .obtain⟨rfl,u⟩:=o;obtain⟨p,q,c,_⟩:=m;subst c;cases u
  .obtain⟨p,q,c,l,y⟩:=m;obtain⟨J,z,i,g,t⟩:=o;rw[c]at i;cases i;rw[hk]at l g;cases I.X7 l g;split at h
   .exact r y t h
   rename_i U;exact absurd (y.length.trans t.length.symm) U
  .obtain⟨p,q,c,l,y⟩:=m;obtain⟨J,z,i,g,t⟩:=o;rw[c]at i;cases i;rw[hk]at l g;obtain⟨_,_,C,_⟩:=I.list l;obtain⟨_,_,pt,_⟩:=I.tuple g;exact absurd rfl (uX C.isList pt)
  .obtain⟨rfl,u⟩:=o;obtain⟨p,q,c,_⟩:=m;subst c;cases u
  .obtain⟨p,q,c,l,y⟩:=m;obtain⟨J,z,i,g,t⟩:=o;rw[c]at i;cases i;rw[hk]at l g;obtain⟨_,_,C,_⟩:=I.list g;obtain⟨_,_,pt,_⟩:=I.tuple l;exact absurd rfl (uX C.isList pt)
  obtain⟨p,q,c,l,y⟩:=m;obtain⟨J,z,i,g,t⟩:=o;rw[c]at i;cases i;rw[hk]at l g;cases I.Ye l g;split at h
  .rename_i b F;rw[<-(Option.some.inj h),r y t F,y.length,t.length];simp
  cases h
def R3(r:JA a xs vs)(q:Vals vs OA)(h:j<OA.toArray.size):∃d v,xs[j]?=u7 d/\NB a d v/\RelV v OA.toArray[j]:=by
 have b:j<OA.length:=by simpa using h
 have i:=q.length▸b;obtain⟨v,c⟩:∃v,vs[j]?=u7 v:=⟨vs[j],zJ i⟩;obtain⟨d,l,f⟩:=r.get' c;obtain⟨u,e,g⟩:=q.get c;have k:u=OA.toArray[j]:=by have:=zJ b;rw[this]at e;simpa using(Option.some.inj e).symm
 exact⟨d,v,l,f,by rw[<-k];exact g⟩
theorem Rh(I:Inv X wM σ a.H s)(hk:a.K=X.K)(sm:YA a G):∀(n:Nat){A:vV}{d e:D}{x y:V}{u w:vk}{k:Bool},A.units+n<cLine->NB a d x->NB a e y->RelV x u->RelV y w->NN n G d e=u7 k->
  SeqAt.EqAt A s u w k/\SeqAt.RcAt A s u w k/\SeqAt.RcNeAt A s u w (!k)
 |0,_,_,_,_,_,_,_,_,_,_,_,_,_,h=>by cases h
 | n + 1,A,d,e,x,y,u,w,k,hu,rd,re,r,m,h=>by
  have L:=Qx sm rd;have M:=Qx sm re;have c:A.units<cLine:=by lia
  have C':A.in1.units+n<cLine:=by show A.units+1+n<cLine;lia
  have F:∀{z:V},NB a d z->NB a e z->NN (n+1) G d e=u7 k->k=u9:=λS C r3=>ax I hk sm (n+1) S C r3
  have h0:=h;unfold NN at h
  try dsimp only at h
  have O:∀{p q:vX}{k:Bool},(p=q->k=u9)->SeqAt.RcAt A s (.ref p) (.ref q) k->SeqAt.EqAt A s (.ref p) (.ref q) k:=λ{p q k}hs hr=>by
   by_cases e:p=q
   .rw[hs e,e];exact .same _
   exact .of_refs e hr
  revert h L M
  cases hvd:view G d<;>cases hve:view G e<;>intro L M h<;>dsimp only at h L M<;>first
   |cases h
   |skip
  .
   obtain⟨rfl,N⟩:=L;obtain⟨rfl,f2⟩:=M;exact⟨aY r m N f2,p5 r m N f2,p7 r m N f2⟩
  .
   obtain⟨rfl,N⟩:=L;obtain⟨q,Y,rfl,o,C⟩:=M;cases m;rw[hk]at o;obtain⟨l,qv,g,_⟩:=I.list o;cases x with
   |LA=>cases r;exact⟨.none_list g.isList c,.none_list g.isList c,.none_list g.isList c⟩
   |bl b=>cases r;exact⟨.bool_list b g.isList c,.bool_list b g.isList c,.bool_list b g.isList c⟩
   |int b=>obtain⟨t,rfl⟩:=r;exact⟨.int_list b t g.isList c,.int_list b t g.isList c,.int_list b t g.isList c⟩
   |str b=>obtain⟨t,rfl⟩:=r;exact⟨.str_list b t g.isList c,.str_list b t g.isList c,.str_list b t g.isList c⟩
   |_=>exact absurd (N) zH
  .
   obtain⟨rfl,N⟩:=L;obtain⟨q,Y,rfl,o,C⟩:=M;cases m;rw[hk]at o;obtain⟨l,qv,g,_⟩:=I.tuple o;cases x with
   |LA=>cases r;exact⟨.none_tuple g c,.none_tuple g c,.none_tuple g c⟩
   |bl b=>cases r;exact⟨.bool_tuple b g c,.bool_tuple b g c,.bool_tuple b g c⟩
   |int b=>obtain⟨t,rfl⟩:=r;exact⟨.int_tuple b t g c,.int_tuple b t g c,.int_tuple b t g c⟩
   |str b=>obtain⟨t,rfl⟩:=r;exact⟨.str_tuple b t g c,.str_tuple b t g c,.str_tuple b t g c⟩
   |_=>exact absurd (N) zH
  .
   obtain⟨rfl,N⟩:=M;obtain⟨q,Y,rfl,o,C⟩:=L;cases r;rw[hk]at o;obtain⟨l,qv,g,_⟩:=I.list o;cases y with
   |LA=>cases m;exact⟨.list_none g.isList c,.list_none g.isList c,.list_none g.isList c⟩
   |bl b=>cases m;exact⟨.list_bool b g.isList c,.list_bool b g.isList c,.list_bool b g.isList c⟩
   |int b=>obtain⟨t,rfl⟩:=m;exact⟨.list_int b t g.isList c,.list_int b t g.isList c,.list_int b t g.isList c⟩
   |str b=>obtain⟨t,rfl⟩:=m;exact⟨.list_str b t g.isList c,.list_str b t g.isList c,.list_str b t g.isList c⟩
   |_=>exact absurd (N) zH
  .
   obtain⟨p,Y,rfl,Q,S⟩:=L;obtain⟨q,W,rfl,o,C⟩:=M;cases r;cases m;rw[hk]at Q o;obtain⟨l,Z,B,_⟩:=I.list Q;obtain⟨i,q2,v,_⟩:=I.list o;have P:=zy▸Z.length.symm;have U:=zy▸q2.length.symm;split at h
   .rename_i hl;obtain⟨f,hf,hb⟩:=Rt h;have J:l.toArray.size=i.toArray.size:=by rw[P,U,<-S.length,<-C.length];exact hl
    have he:∀j(g1:j<l.toArray.size)(g2:j<i.toArray.size),SeqAt.EqAt A.in1 s l.toArray[j] i.toArray[j] (f j):=λj g1 g2=>by obtain⟨d1,v1,e1,U2,SV⟩:=R3 S Z g1;obtain⟨d2,v2,e2,X2,L3⟩:=R3 C q2 g2;exact(Rh I hk sm n C' U2 X2 SV L3 (hf j d1 d2 e1 e2)).1
    have T:k=(zW l.toArray.size).all f:=by
     rw[hb]
     congr 2
     rw[P,<-S.length,hl];lia
    have rc:SeqAt.RcAt A s (.ref p) (.ref q) k:=T ▸ .lists B.isList v.isList J c he;refine⟨O (λe=>?_) rc,rc,T ▸ .lists B.isList v.isList J c he⟩;subst e;exact F rd re h0
   rename_i hl;have h':=Option.some.inj h;subst h';have J:(l.toArray.size != i.toArray.size)=u9:=by rw[bne_iff_ne,P,U,<-S.length,<-C.length];exact hl
   refine⟨O (λe=>?_) (.lists_lengths B.isList v.isList J c),.lists_lengths B.isList v.isList J c,.lists_lengths B.isList v.isList J c⟩;subst e;exact F rd re h0
  .
   obtain⟨p,Y,rfl,Q,S⟩:=L;obtain⟨q,W,rfl,o,C⟩:=M;cases r;cases m;rw[hk]at Q o;obtain⟨l,Z,B,_⟩:=I.list Q;obtain⟨i,q2,v,_⟩:=I.tuple o;exact⟨.list_tuple B.isList v c,.list_tuple B.isList v c,.list_tuple B.isList v c⟩
  .
   obtain⟨rfl,N⟩:=M;obtain⟨q,Y,rfl,o,C⟩:=L;cases r;rw[hk]at o;obtain⟨l,qv,g,_⟩:=I.tuple o;cases y with
   |LA=>cases m;exact⟨.tuple_none g c,.tuple_none g c,.tuple_none g c⟩
   |bl b=>cases m;exact⟨.tuple_bool b g c,.tuple_bool b g c,.tuple_bool b g c⟩
   |int b=>obtain⟨t,rfl⟩:=m;exact⟨.tuple_int b t g c,.tuple_int b t g c,.tuple_int b t g c⟩
   |str b=>obtain⟨t,rfl⟩:=m;exact⟨.tuple_str b t g c,.tuple_str b t g c,.tuple_str b t g c⟩
   |_=>exact absurd (N) zH
  .
   obtain⟨p,Y,rfl,Q,S⟩:=L;obtain⟨q,W,rfl,o,C⟩:=M;cases r;cases m;rw[hk]at Q o;obtain⟨l,Z,B,_⟩:=I.tuple Q;obtain⟨i,q2,v,_⟩:=I.list o;exact⟨.tuple_list B v.isList c,.tuple_list B v.isList c,.tuple_list B v.isList c⟩
  rename_i xs ys;obtain⟨p,Y,rfl,Q,S⟩:=L;obtain⟨q,W,rfl,o,C⟩:=M;cases r;cases m;rw[hk]at Q o;obtain⟨l,Z,B,_⟩:=I.tuple Q;obtain⟨i,q2,v,_⟩:=I.tuple o;have P:l.toArray.size=xs.length:=by rw[zy,S.length];exact Z.length.symm
  have U:i.toArray.size=ys.length:=by rw[zy,C.length];exact q2.length.symm
  split at h
  .rename_i b hz;obtain⟨f,hf,hb⟩:=Rt hz;have he:∀j(g1:j<l.toArray.size)(g2:j<i.toArray.size),SeqAt.EqAt A.in1 s l.toArray[j] i.toArray[j] (f j):=λj g1 g2=>by obtain⟨d1,v1,e1,U2,SV⟩:=R3 S Z g1;obtain⟨d2,v2,e2,X2,L3⟩:=R3 C q2 g2;exact(Rh I hk sm n C' U2 X2 SV L3 (hf j d1 d2 e1 e2)).1
   have T:k=((zW (min l.toArray.size i.toArray.size)).all f&&l.toArray.size==i.toArray.size):=by rw[<-(Option.some.inj h),hb,P,U]
   have rc:SeqAt.RcAt A s (.ref p) (.ref q) k:=T ▸ .tuples B v c he;refine⟨O (λe=>?_) rc,rc,T ▸ .tuples B v c he⟩;subst e;exact F rd re h0
  cases h
def K9(d e:D)(G:DH):R D:=match NN 30 G d e with
 |some k=>.ok (.bl k) G
 |none=>.bad
def Hi(d e:D)(G:DH):R D:=match NN 30 G d e with
 |some k=>.ok (.bl (!k)) G
 |none=>.bad
def L4(n:X.A.units+64<cLine):GC X (vL .Eq) (ZE X.K E K9):=by
 intro b s m H x y v u Q I g l ⟨a,G,d,e,hk,j,c,f,i,q⟩;subst j;unfold K9 at q;split at q
 .rename_i k h;exact(Rh I hk c 30 (by lia) f i g l h).2.1 _ _ _ _ ⟨.bl k,a.H,I,rfl,q a _ (.refl a) c rfl⟩
 exact q.elim
def N4(n:X.A.units+64<cLine):GC X (vL .NotEq) (ZE X.K E Hi):=by
 intro b s m H x y v u Q I g l ⟨a,G,d,e,hk,j,c,f,i,q⟩;subst j;unfold Hi at q;split at q
 .rename_i k h;exact(Rh I hk c 30 (by lia) f i g l h).2.2 _ _ _ _ ⟨.bl (!k),a.H,I,rfl,q a _ (.refl a) c rfl⟩
 exact q.elim
end
noncomputable abbrev DG:=D->PB->DH->R PB
def Ec(E:XK)(a:Wd)(r:R PB)(Q:St->Hp->Prop):Prop:=match r with
 |.ok S G=>∀(b:Wd)(σ:St),Ext a b->YA b G->UB b S σ->Q σ b.H
 |.err x G=>YI E a x G
 |.bad=>False
noncomputable def lG(K:za)(E:XK)(t:DG):TG:=λv σ H Q=>PG3 K σ H v NB λa S G d=>Ec E a (t d S G) Q
def QG(X:Cx)(E:XK)(tg:vW)(t:DG):Prop:=PG X tg (lG X.K E t)
noncomputable abbrev JQ:=List D->PB->DH->R PB
noncomputable def lGs(K:za)(E:XK)(t:JQ):VP:=λvs σ H Q=>PG3 K σ H vs JA λa S G ds=>Ec E a (t ds S G) Q
def RT(X:Cx)(E:XK)(tg:List vW)(t:JQ):Prop:=ZP X tg (lGs X.K E t)
noncomputable def gV(i:Nat):DG:=λd S G=>.ok (S.set i (u7 d)) G
noncomputable def Bs:JQ:=λds S G=>match ds with
 |[]=>.ok S G
 |_=>.bad
def Ak(t:DG)(u:JQ):JQ:=λds S G=>match ds with
 |d::r=>(t d S G).bind λS1 G1=>u r S1 G1
 |[]=>.bad
noncomputable def Bp(n:Nat)(t:JQ):DG:=λd S G=>match d with
 |.tup ds=>if lN ds=n then t ds S G else .bad
 |_=>.bad
theorem Ec.imp(h:Ec E a r Q)(w:∀v H,Q v H->Q' v H):Ec E a r Q':=by
 cases r with
 |ok d G=>exact λb v x s q=>w _ _ (h b v x s q)
 |_=>exact h
theorem Ec.mono(x:Ext a b)(h:Ec E a r Q):Ec E b r Q:=by
 cases r with
 |ok d G=>exact λc v y s q=>h c v (x.trans y) s q
 |err e G=>exact YI.mono x h
 |bad=>exact h
theorem p9(h:Ec E a (r.bind f) Q):
  Ec E a r (λc H=>PR3 a H r c UB λb S G=>Ec E b (f S G) Q):=by
 cases r with
 |ok d G=>exact λb v x s q=>⟨b,d,G,rfl,x,s,q,rfl,Ec.mono x h⟩
 |_=>exact h
theorem Vg(h:Ec E a (r.bind f) Q):
  out E a r (λv H=>PR3 a H r v NB λb d G=>Ec E b (f d G) Q):=by
 cases r with
 |ok d G=>exact λb v x s q=>⟨b,d,G,rfl,x,s,q,rfl,Ec.mono x h⟩
 |_=>exact h
theorem ay(h:Bw E a (r.toS f) W):
  Ec E a r (λc H=>PR3 a H r c UB λb S G=>Bw E b (f S G) W):=by
 cases r with
 |ok d G=>exact λb v x s q=>⟨b,d,G,rfl,x,s,q,rfl,Bw.mono x h⟩
 |_=>exact h
section
variable{X:Cx}{E:XK}
def _root_._L.PG.mono(h:PG X e t)(w:∀v a H Q,t' v a H Q->t v a H Q):PG X e t':=λb s a H v u Q I r q=>h b s a H v u Q I r (w v a H Q q)
def _root_._L.ZP.mono(h:ZP X e t)(w:∀v a H Q,t' v a H Q->t v a H Q):ZP X e t':=λb s a H v u Q I r q=>h b s a H v u Q I r (w v a H Q q)
def az(i:Nat){x:Str}{pos:Pos}(b:X.N.Nodup)(c:X.N[i]?=u7 x:=by rfl)(g:Loc X.env.scope x:=by first|exact Or.inl rfl|exact Or.inr rfl)
  (f:X.fn x=u9\/X.env.scope.names.lookup x=u7 .local:=by first|exact .inl rfl|exact .inr rfl|assumption):QG X E (.Name x pos) (gV i):=
 (lJ b c g f).mono λv j H Q h=>by obtain⟨a,S,G,d,hk,rfl,s,r,q,h⟩:=h;exact h a _ (.refl a) s (r.set i q)
theorem pd:RT X E [] Bs:=lL.mono λf c H Q h=>by
 obtain⟨a,S,G,b,hk,rfl,s,r,q,h⟩:=h;cases b with
 |nil=>exact⟨q,h a c (.refl a) s r⟩
 |cons d b=>exact h.elim
theorem ph(c:QG X E e t)(n:RT X E es u)
  (l:(vB (e::es) X.env).map (·.2)=assign e X.env::(vB es X.env).map (·.2):=by rfl):RT X E (e::es) (Ak t u):=(lM c n l).mono λA z H Q h=>by
 obtain⟨a,S,G,f,hk,rfl,s,r,q,h⟩:=h;cases f with
 |nil=>exact h.elim
 |cons d f=>
  obtain⟨v,rest,j,i,p⟩:=q;refine⟨v,rest,j,a,S,G,d,hk,rfl,s,r,i,(p9 h).imp ?_⟩;rintro m _ ⟨b,w,g,rfl,x,y,o,_,c⟩;exact⟨b,w,g,f,x.k.trans hk,rfl,y,o,p.mono x,c⟩
theorem pj{es:List vW}{k:Nat}{t:JQ}{n:Nat}{pos:Pos}(m:X.calm=u9)(h:RT X E es t)
  (g:(vB es X.env).length=n:=by rfl) (b:(vB es X.env).findIdx? (·.1)=u8:=by rfl):QG X E (.Tuple es k pos) (Bp n t):=(lO m h g b).mono λv o H Q h=>by
 obtain⟨a,S,G,d,hk,rfl,s,r,q,h⟩:=h;cases d with
 |tup l=>
  obtain⟨p,j,e,i,c⟩:=q;unfold Bp at h;dsimp only at h;split at h
  .rename_i f;exact⟨p,j,e,by rw[<-hk];exact i,by rw[<-c.length];exact f,a,S,G,l,hk,rfl,s,r,c,h⟩
  exact h.elim
 |_=>exact h.elim
def Gg(o i v:D)(G:DH):R D:=match o,i with
 | .ref p,.int k=>match G[p]? with
  |some (.lst xs)=>match PJ (lN xs) k with
   |some j=>.ok .LA (G.set p (.lst (xs.set j v)))
   |none=>.bad
  |_=>.bad
 |_,_=>.bad
def ON(to ti:DE):DG:=λv S G=>(to S G).bind λo G1=>(ti S G1).bind λi G2=>(Gg o i v G2).bind λ_ G3=>.ok S G3
def Tc(s:YA a G)(b:i<a.n)(h:a.H (a.m i)=u7 (.lst vs))(r:JA a ds' HL):
  Ext a (a.put (a.m i) (.lst HL))/\YA (a.put (a.m i) (.lst HL)) (G.set i (.lst ds')):=⟨.wr h,s.wr b h (r.mono (.wr h))⟩
theorem pk(ho:QE X E o to)(N:QE X E i ti)
  (O:∀v,assign (.Subscript o i pos) X.env v=(do
   let ov<-holding [v] (eval o X.env);let iv<-holding [v,ov] (eval i X.env)
   standAt pos
   holding [v,ov,iv] (setItem ov iv v)
   release [v,ov,iv] []):=by intro _;rfl):QG X E (.Subscript o i pos) (ON to ti):=(aH ho N set_list O).mono λv L H Q h=>by
 obtain⟨a,S,G,d,hk,rfl,s,r,q,h⟩:=h;refine⟨a,S,G,hk,rfl,s,r,(Vg h).imp ?_⟩;rintro ov _ ⟨b,e,B,rfl,x,J,C,_,I⟩;refine⟨b,S,B,x.k.trans hk,rfl,J,r.mono x,(Vg I).imp ?_⟩;rintro iv _ ⟨c,f,U,rfl,y,w,F,_,g⟩;cases e with
 | ref p=>
  cases f with
  | int k=>
   unfold Gg at g;dsimp only at g;split at g
   .rename_i W T;split at g
    .rename_i j M;obtain⟨K,n,A⟩:=w.lst T;have l:=C.mono y;obtain⟨z,P⟩:=Tc w l.1 n (A.set ((q.mono x).mono y) j);exact⟨c.m p,K,k,j,l.2,F,n,by rw[<-A.length];exact M,g _ L z P (((r.mono x).mono y).mono z)⟩
    exact g.elim
   exact g.elim
  |_=>exact g.elim
 |_=>exact g.elim
variable{st:vx}{rest:List vx}{t u:DS}{e:vW}{te:DE}{pos:Pos}
noncomputable def TF:DS:=λS G=>.nx S G
noncomputable def Ae(t u:DS):DS:=λS G=>match t S G with
 |.nx S1 G1=>u S1 G1
 |r=>r
def KD(te:DE):DS:=λS G=>(te S G).toS λ_ G1=>.nx S G1
def ZB(te:DE):DS:=λS G=>(te S G).toS λd G1=>.rt d G1
def RF(c:DB)(t u:DS):DS:=λS G=>(c S G).toS λk G1=>if k=u9 then t S G1 else u S G1
def LC(te:DE)(g:DG):DS:=λS G=>(te S G).toS λd G1=>(g d S G1).toS λS2 G2=>.nx S2 G2
def S8:RL X E [] TF:=kr.mono λW b H h=>by obtain⟨a,S,G,hk,rfl,s,r,h⟩:=h;exact h a b (.refl a) s r
def Bw.P4{E:XK}{a:Wd}{t u:DS}{S:PB}{G:DH}{K:za}(hk:a.K=K){W:Ends}(h:Bw E a (Ae t u S G) W):Bw E a (t S G) {W with nx:=lS K E u W}:=by
 unfold Ae at h
 revert h
 cases t S G<;>intro h
 .exact λb c x s r=>⟨b,_,_,x.k.trans hk,rfl,s,r,Bw.mono x h⟩
 all_goals exact h
def Br(c:QS X E st t)(b:RL X E rest u):RL X E (st::rest) (Ae t u):=(kt c b).mono λW d H h=>by obtain⟨a,S,G,hk,rfl,s,r,h⟩:=h;exact⟨a,S,G,hk,rfl,s,r,h.P4 hk⟩
def I9(a:QS X E st t):RL X E [st] t:=ku a
def pq(j:QE X E e te)(g:swapsWith e u8 pos.line X.env=pure uA:=by rfl):QS X E (.Expr e pos) (KD te):=(lC j g).mono λW c H h=>by obtain⟨a,S,G,hk,rfl,s,r,h⟩:=h;refine⟨a,S,G,hk,rfl,s,r,(Hc h).imp ?_⟩;rintro v _ ⟨b,d,k,rfl,x,i,q,_,f⟩;exact f b c (.refl b) i (r.mono x)
def px(g:QE X E e te):QS X E (.Return (u7 e) pos) (ZB te):=(lD g).mono λW j H h=>by obtain⟨a,S,G,hk,rfl,s,r,h⟩:=h;refine⟨a,S,G,hk,rfl,s,r,(Hc h).imp ?_⟩;rintro v _ ⟨b,d,i,rfl,x,f,q,_,c⟩;exact c b v (.refl b) f q
theorem Qu(l:QT X E c tc)(j:RL X E a t)(i:RL X E b u):QS X E (.If c a b pos) (RF tc t u):=(lH l j i).mono λW m H h=>by
 obtain⟨a,S,G,hk,rfl,s,r,h⟩:=h;refine⟨a,S,G,hk,rfl,s,r,(ak h).imp ?_⟩;rintro k _ ⟨b,d,rfl,x,g,_,f⟩;cases k with
 |_=>exact⟨b,S,d,x.k.trans hk,rfl,g,r.mono x,f⟩
def pz{K:za}{g:DG}{W:Ends}{i:St}{H:Hp}(h:lS K E (LC te g) W i H):Z8 (lE K E te) (lG K E g) W i H:=by obtain⟨a,S,G,hk,rfl,s,r,h⟩:=h;refine⟨a,S,G,hk,rfl,s,r,(Hc h).imp ?_⟩;rintro v _ ⟨b,d,j,rfl,x,p,q,_,l⟩;refine⟨b,S,j,d,x.k.trans hk,rfl,p,r.mono x,q,(ay l).imp ?_⟩;rintro f _ ⟨c,z,w,rfl,y,n,o,_,m⟩;exact m c f (.refl c) n o
def V3(a:QE X E e te)(d:QG X E tg g)(b:swapsWithSole [tg] e pos.line X.env=pure uA:=by rfl)(hw:swappedStores [tg] e X.env=pure u8:=by rfl)
  (c:(vB [tg] X.env).map (·.2)=[assign tg X.env]:=by rfl):QS X E (.Assign [tg] e pos) (LC te g):=(lP a d b hw c).mono λ_ _ _ h=>pz h
def Ng(i:Nat){x:Str}{c:Pos}(g:X.N.Nodup)(n:QE X E e te)(k:X.N[i]?=u7 x:=by rfl)(o:Loc X.env.scope x:=by first|exact Or.inl rfl|exact Or.inr rfl)(j:swapsWith e (u7 (.Name x c)) pos.line X.env=pure uA:=by rfl)
  (m:X.fn x=u9\/X.env.scope.names.lookup x=u7 .local:=by first|exact .inl rfl|exact .inr rfl|assumption):QS X E (.Assign [.Name x c] e pos) (LC te (gV i)):=
 (lQ g k o n j m).mono λW w H h=>by obtain⟨a,S,G,hk,rfl,s,r,h⟩:=h;refine⟨a,S,G,hk,rfl,s,r,(Hc h).imp ?_⟩;rintro v _ ⟨b,d,p,rfl,x,l,q,_,f⟩;exact f b _ (.refl b) l ((r.mono x).set i q)
def Mj:D->D->DH->R D
 |.int i,.int j,G=>.ok (.int (i+j)) G
 |.str i,.str j,G=>if i.length+j.length<=1000000 then .ok (.str (i++j)) G else .bad
 |_,_,_=>.bad
def ql:GC X (inplaceOp .Add) (ZE X.K E Mj):=Fo (.or lR mQ) λa G d e x y Q hk s rd re q=>by
 cases d<;>cases e<;>first
  |exact q.elim
  |exact .inl ⟨_,_,rd,re,q a _ (.refl a) s rfl⟩
  | (
    unfold Mj at q;dsimp only at q;split at q
    .rename_i hl;exact .inr ⟨_,_,rd,re,zG hl VB,q a _ (.refl a) s rfl⟩
    exact q.elim)
def qm:GC X (inplaceOp .Sub) (ZE X.K E Jp):=Fo lT λa G d e x y Q hk s b c q=>by
 cases d<;>cases e<;>first
  |exact q.elim
  |exact⟨_,_,b,c,q a _ (.refl a) s rfl⟩
end
noncomputable def MK(r:SR)(k:PB->DH->SR)(_:Fx k:=()):SR:=match r with
 |.nx S G=>k S G
 |.ct S G=>k S G
 |.bk S G=>.nx S G
 |r=>r
def Av(g:DG)(b:DS):List D->DS
 |[],S,G=>.nx S G
 |x::xs,S,G=>(g x S G).toS λS1 G1=>MK (b S1 G1) (Av g b xs)
def forM(i:Nat)(g:DG)(b:DS):Nat->Nat->DS
 |0,j,S,G=>match G[i]? with
  |some (.lst xs)=>if lN xs<=j then .nx S G else .bad
  |_=>.bad
 | k+1,j,S,G=>match G[i]? with
  |some (.lst xs)=>match xs[j]? with
   |some x=>(g x S G).toS λS1 G1=>MK (b S1 G1) (forM i g b k (j+1))
   |none=>.nx S G
  |_=>.bad
def Dc(f:Nat->DH->Option (Option D))(g:DG)(b:DS):Nat->Nat->DS
 |0,j,S,G=>match f j G with
  |some u8=>.nx S G
  |_=>.bad
 |k+1,j,S,G=>match f j G with
  |some (u7 x)=>(g x S G).toS λS1 G1=>MK (b S1 G1) (Dc f g b k (j+1))
  |some u8=>.nx S G
  |none=>.bad
inductive KM where
 |pure (xs:List D)
 |mt (i:Nat)
 |fn (n:Nat) (f:Nat->DH->Option (Option D))
noncomputable abbrev DI:=PB->DH->R KM
def Bo(it:DI)(g:DG)(b:DS):DS:=λS G=>(it S G).toS λJ G1=>match J with
 |.pure xs=>Av g b xs S G1
 |.mt i=>match G1[i]? with
  |some (.lst xs)=>forM i g b (lN xs) 0 S G1
  |_=>.bad
 |.fn n f=>Dc f g b n 0 S G1
def WE(a:Wd):KM->It->Prop
 |.pure xs,J=>∃vs:List V,JA a xs vs/\∀b:Wd,Ext a b->∀i,(∀v,vs[i]?=u7 v->J.go i b.H/\∀x H',J.TU i b.H x H'->x=v/\H'=b.H)/\(lN vs<=i->J.stop i b.H)
 |.mt k,J=>k<a.n/\∀b:Wd,Ext a b->∀vs,b.H (b.m k)=u7 (.lst vs)->∀i,(∀v,vs[i]?=u7 v->J.go i b.H/\∀x H',J.TU i b.H x H'->x=v/\H'=b.H)/\(lN vs<=i->J.stop i b.H)
 |.fn _ f,J=>∀b:Wd,Ext a b->∀G,YA b G->∀i,(∀d,f i G=u7 (u7 d)->J.go i b.H/\∀x H',J.TU i b.H x H'->∃c:Wd,c.H=H'/\Ext b c/\YA c G/\NB c d x)/\(f i G=u7 u8->J.stop i b.H)
def outI(E:XK)(a:Wd)(r:R KM)(Q:It->Hp->Prop):Prop:=match r with
 |.ok J G=>∀(b:Wd)(JJ:It),Ext a b->YA b G->WE b J JJ->Q JJ b.H
 |.err x G=>YI E a x G
 |.bad=>False
noncomputable def lI(K:za)(E:XK)(t:DI):TI:=λσ H Q=>UR K σ H λa S G=>outI E a (t S G) Q
def QI(X:Cx)(E:XK)(tg iter:vW)(t:DI):Prop:=PI X tg iter (lI X.K E t)
theorem outI.imp(h:outI E a r Q)(w:∀v H,Q v H->Q' v H):outI E a r Q':=by
 cases r with
 |ok d G=>exact λb v x s q=>w _ _ (h b v x s q)
 |_=>exact h
theorem qo(h:Bw E a (r.toS f) W):
  outI E a r (λJ H=>PR3 a H r J WE λb d G=>Bw E b (f d G) W):=by
 cases r with
 |ok d G=>exact λb v x s q=>⟨b,d,G,rfl,x,s,q,rfl,Bw.mono x h⟩
 |_=>exact h
theorem bA (h:Bw E a (MK r k) W):
  Bw E a r {W with
            nx:=λc H=>∃(b:Wd)(S:PB)(G:DH),b.H=H/\Ext a b/\YA b G/\UB b S c/\Bw E b (k S G) W,
            ct:=λc H=>∃(b:Wd)(S:PB)(G:DH),b.H=H/\Ext a b/\YA b G/\UB b S c/\Bw E b (k S G) W,bk:=W.nx}:=by
 cases r with
 |nx S G|ct S G=>exact λb c x s q=>⟨b,S,G,rfl,x,s,q,Bw.mono x h⟩
 |_=>exact h
noncomputable def VO(i j:Nat)(G:DH):Option (Option D):=match G[i]? with
 |some (.lst xs)=>u7 xs[j]?
 |_=>u8
def bC(r:WE a (.pure xs) J):WE a (.fn n λj _=>u7 xs[j]?) J:=by
 obtain⟨p,c,h⟩:=r;refine λb x G o i=>⟨λd e=>?_,λe=>((h b x i).2 (by rw[<-c.length];exact jF.mp (Option.some.inj e)))⟩
 .obtain⟨v,l,q⟩:=c.get (Option.some.inj e);obtain⟨g,k⟩:=(h b x i).1 v l;refine⟨g,λy f m=>?_⟩;obtain⟨rfl,rfl⟩:=k y f m;exact⟨b,rfl,.refl b,o,q.mono x⟩
theorem bD(r:WE a (.mt k) J):WE a (.fn n (VO k)) J:=by
 obtain⟨hk,h⟩:=r;refine λb x G j i=>?_
 unfold VO;cases t:G[k]? with
 |none=>exact⟨λd e=>(by cases e),λe=>(by cases e)⟩
 | some o=>
  cases o with
  |lst w=>
   obtain⟨f,c,g⟩:=j.lst t;refine⟨λd e=>?_,λe=>((h b x f c i).2 (by rw[<-g.length];exact jF.mp (Option.some.inj e)))⟩
   .obtain⟨v,s,q⟩:=g.get (Option.some.inj e);obtain⟨m,p⟩:=(h b x f c i).1 v s;refine⟨m,λy l u=>?_⟩;obtain⟨rfl,rfl⟩:=p y l u;exact⟨b,rfl,.refl b,j,q⟩
  |_=>exact⟨λd e=>(by cases e),λe=>(by cases e)⟩
theorem Zu{g:DG}{b:DS}{xs:List D}:∀(n j:Nat),j+n=lN xs->Av g b (xs.drop j)=Dc (λj _=>u7 xs[j]?) g b n j
 |0,j,h=>by
  funext S G;rw[qE (by lia)]
  show SR.nx S G=(match u7 xs[j]? with |some u8=>.nx S G|_=>.bad)
  rw[zC (by lia)]
 |n+1,j,h=>by
  funext S G;have d:j<lN xs:=by lia
  rw[zO d]
  show(g xs[j] S G).toS (λa c=>MK (b a c) (Av g b (xs.drop (j+1))))=(match u7 xs[j]? with |some (u7 x)=>(g x S G).toS (λa c=>MK (b a c) (Dc (λj _=>u7 xs[j]?) g b n (j+1)))|some u8=>.nx S G|none=>.bad)
  rw[zJ d,Zu n (j+1) (by lia)]
theorem bE:∀(n j:Nat),forM i g b n j=Dc (VO i) g b n j
 | 0,j=>by
  funext S G;unfold forM Dc VO;cases G[i]? with
  |none=>rfl
  | some o=>
   cases o with
   |lst a=>
    dsimp only;by_cases c:j<lN a
    .rw[if_neg (by lia),zJ c]
    rw[if_pos (by lia),zC (by lia)]
   |_=>rfl
 | n+1,j=>by
  funext S G;unfold forM Dc;rw[bE n (j+1)];unfold VO;cases G[i]? with
  |none=>rfl
  | some o=>
   cases o with
   |lst a=>
    dsimp only
    cases a[j]?<;>rfl
   |_=>rfl
section
variable{X:Cx}{E:XK}{tg iter:vW}{pos:Pos}
theorem qp{K:za}{it:DI}{g:DG}{b:DS}{W:Ends}{N:St}{H:Hp}(h:lS K E (Bo it g b) W N H):UU (lI K E it) (lG K E g) (lS K E b) W N H:=by
 obtain⟨a,S,G,hk,rfl,s,r,h⟩:=h;refine⟨a,S,G,hk,rfl,s,r,(qo h).imp ?_⟩;rintro J _ ⟨t,d,O,rfl,x1,s1,u,_,l⟩;have k1:=x1.k.trans hk
 suffices fnc:∃n f,WE t (.fn n f) J/\Bw E t (Dc f g b n 0 S O) W by
  obtain⟨n,f,u,l⟩:=fnc;have walk:=u;refine⟨λi m N H=>∃(c:Wd)(S:PB)(G:DH),c.H=H/\Ext t c/\YA c G/\UB c S N/\Bw E c (Dc f g b m i S G) W,⟨_,t,S,O,rfl,.refl _,s1,r.mono x1,l⟩,?_⟩;rintro i m C _ ⟨c,S2,F,rfl,p,x,Q,j⟩;cases m with
  |zero=>
   unfold Dc at j;split at j
   .rename_i v;exact .inl ⟨(walk c p F x i).2 v,j c C (.refl c) x Q⟩
   exact j.elim
  | succ m=>
   unfold Dc at j;split at j
   .rename_i d v;obtain⟨go,yl⟩:=(walk c p F x i).1 d v;refine .inr ⟨go,λB M=>∃(c:Wd)(S:PB)(G:DH),c.H=M/\Ext t c/\YA c G/\UB c S B/\Bw E c (Dc f g b m (i+1) S G) W,λB M z=>⟨m,qC _,z⟩,λw M y=>?_⟩;obtain⟨cc,rfl,q,ss,rd⟩:=yl w M y;refine⟨cc,S2,F,d,q.k.trans (p.k.trans k1),rfl,ss,Q.mono q,rd,(ay (Bw.mono q j)).imp ?_⟩;rintro σ3 _ ⟨c3,S3,G3,rfl,x3,s3,r3,_,h3⟩;have e:=bA h3;refine⟨c3,S3,G3,x3.k.trans (q.k.trans (p.k.trans k1)),rfl,s3,r3,?_⟩
    revert e
    cases b S3 G3 with
    | nx L I|ct L I=>
      intro e U o x4 P Y;obtain⟨Z,S5,G5,hh,x5,s5,r5,T⟩:=e U o x4 P Y;exact⟨Z,S5,G5,hh,p.trans (q.trans (x3.trans x5)),s5,r5,T⟩
    |_=>exact λe=>e
   .rename_i v;exact .inl ⟨(walk c p F x i).2 v,j c C (.refl c) x Q⟩
   exact j.elim
 cases d with
 |pure xs=>
  have A:Bw E t (Av g b (xs.drop 0) S O) W:=l;rw[Zu (lN xs) 0 (by lia)]at A;exact⟨_,_,bC u,A⟩
 |mt k=>
  dsimp only at l;split at l
  .rw[bE]at l;exact⟨_,_,bD u,l⟩
  exact l.elim
 |fn n f=>exact⟨n,f,u,l⟩
def Ii(hp:PassesOwn (vR X.prog X.w) X.A X.env X.xe)(f:X.calm=u9)(d:QI X E tg iter it)(a:QG X E tg g)(e:RL X E body b)
  (c:∀x,foldedSetIterable iter X.env x=pure x:=by intro _;rfl):QS X E (.For tg iter body [] pos) (Bo it g b):=(lg hp f d a e c).mono λ_ _ _ h=>qp h
def _root_._L.PI.mono(h:PI X tg iter t)(w:∀a H Q,t' a H Q->t a H Q):PI X tg iter t':=λb s a H Q I q=>h b s a H Q I (w a H Q q)
noncomputable def sgn(c:Nat):D:=.str ⟨#[c]⟩
def signs(x:Str):List D:=x.cps.toList.map sgn
noncomputable def S4(x:Str):It:=⟨λi _=>i<x.cps.size,λi H v H'=>H'=H/\∃c,x.cps[i]?=u7 c/\v=.str ⟨#[c]⟩,λi _=>x.cps.size<=i⟩
def qt{P:vq}{w:vA}{K:za}{tg:vW}(it:vX)(x:Str)(t:Tok):Turn P w K tg (S4 x) [it] it (λi h=>h.IsStrIter it "str_ascii_iterator" x t i) where
 mem:=by simp
 obj:=λi h a b f=>by
  have e:b=it:=by simpa using f
  subst e;obtain⟨o,e,c,d⟩:=a;exact⟨o,e,λv z=>by rw[d]at z;cases z⟩
 keep:=λi h J a k=>let⟨o,N,r⟩:=a;⟨o,k it (by simp) o N,r⟩
 item:=by
  intro X n hw y F i j s O H E I l a u;subst n hw y;obtain⟨B,p,L,A,q,C⟩:=l it (by simp);have m:i<x.cps.size:=u;refine wpAny_pyNext_ascii_item a (c:=x.cps[i]) (by simp[m]) λJ g Q=>?_
  obtain⟨o,e,c,d⟩:=id g;exact⟨_,rfl,Kz e c d (by decide) ⟨.str ⟨#[x.cps[i]]⟩,H,I.turned (λb o f e=>(Q.2 b f).trans e) B p A q C,⟨_,rfl⟩,⟨rfl,_,by simp[m],rfl⟩,g,λb f=>(l b f).1⟩⟩
 done:=by intro X n hw y F i j s O H E I l a u;subst n hw y;obtain⟨B,p,L,A,q,C⟩:=l it (by simp);have m:x.cps.size<=i:=u;exact wpAny_pyNext_ascii_end (I.ok.hd F) a (by simp[m]) λJ M=>⟨rfl,I.turned (λb o f e=>M b o f e) B p A q C⟩
 self:=λ_ _ _ _ _ a h=>wpAny_pyIter_striter_ascii a h
def qu{P:vq}{w:vA}{K:za}{tg:vW}(it:vX)(x:Str)(t:Tok):Turn P w K tg (S4 x) [it] it (λi h=>h.IsStrIter it "str_iterator" x t i) where
 mem:=by simp
 obj:=λi h a b f=>by
  have e:b=it:=by simpa using f
  subst e;obtain⟨o,e,c,d⟩:=a;exact⟨o,e,λv z=>by rw[d]at z;cases z⟩
 keep:=λi h J a k=>let⟨o,N,r⟩:=a;⟨o,k it (by simp) o N,r⟩
 item:=by
  intro X n hw y F i j s O H E I l a u;subst n hw y;obtain⟨B,p,L,A,q,C⟩:=l it (by simp);have m:i<x.cps.size:=u;refine wpAny_pyNext_wide_item a (c:=x.cps[i]) (by simp[m]) λJ g Q=>?_
  obtain⟨o,e,c,d⟩:=id g;exact⟨_,rfl,Kz e c d (by decide) ⟨.str ⟨#[x.cps[i]]⟩,H,I.turned (λb o f e=>(Q.2 b f).trans e) B p A q C,⟨_,rfl⟩,⟨rfl,_,by simp[m],rfl⟩,g,λb f=>(l b f).1⟩⟩
 done:=by intro X n hw y F i j s O H E I l a u;subst n hw y;obtain⟨B,p,L,A,q,C⟩:=l it (by simp);have m:x.cps.size<=i:=u;exact wpAny_pyNext_wide_end (I.ok.hd F) a (by simp[m]) λJ M=>⟨rfl,I.turned (λb o f e=>M b o f e) B p A q C⟩
 self:=λ_ _ _ _ _ a h=>wpAny_pyIter_striter_wide a h
def L5(tl:TE):TI:=λσ H R=>tl σ H λx H1=>∃z,x=.str z/\R (S4 z) H1
def rA{l:vW}{g:TE}(m:PE X l g):PI X tg l (L5 g):=by
 intro a s n H R I h;refine GB (m a s n H _ I h) λv c zz=>?_
 obtain⟨x,f,d,r,k⟩:=zz;obtain⟨z,e,q⟩:=k;subst e;obtain⟨t,rfl⟩:=r;have j:∀b∈[c.heap.objs.size],QD X a f b:=λb p=>by
  have e:b=c.heap.objs.size:=by simpa using p
  subst e;exact d.Gu (zv _) (d.UA.fresh (zv _))
 cases i:z.cps.all (· < 128)
 .exact wpAny_pyIter_wide i (⟨c.heap.objs.size,[c.heap.objs.size],_,_,f,rfl,d.kept λb o e=>zX _ e,qu _ z t,⟨_,z3 _ rfl,rfl,rfl⟩,j,q⟩)
 .exact wpAny_pyIter_ascii i (⟨c.heap.objs.size,[c.heap.objs.size],_,_,f,rfl,d.kept λb o e=>zX _ e,qt _ z t,⟨_,z3 _ rfl,rfl,rfl⟩,j,q⟩)
theorem JA.signs(x:Str):JA a (signs x) (x.cps.toList.map λc=>V.str ⟨#[c]⟩):=by
 unfold _D.signs
 induction x.cps.toList with
 |nil=>exact rfl
 |cons c r b=>exact⟨_,_,rfl,rfl,b⟩
def Ej:D->DH->R KM
 |.tup xs,G=>.ok (.pure xs) G
 |.str x,G=>.ok (.pure (signs x)) G
 |.fl xs,G=>.ok (.pure xs) G
 |.ref i,G=>match G[i]? with
  |some (.lst _)=>.ok (.mt i) G
  |_=>.bad
 |_,_=>.bad
def De(te:DE):DI:=λS G=>(te S G).bind Ej
theorem rB(C:QE X E iter te):QI X E tg iter (De te):=by
 intro f s M H R I h;obtain⟨a,S,G,hk,rfl,N,r,h⟩:=h;cases u:te S G with
 |bad=>
  have j:outI E a ((te S G).bind Ej) R:=h;rw[u]at j;exact j.elim
 |err e W=>
  have j:outI E a ((te S G).bind Ej) R:=h;rw[u]at j;refine V4 C f s M a.H R I ⟨a,S,G,hk,rfl,N,r,?_⟩;rw[u];exact j
 | ok d W=>
  have j:outI E a ((te S G).bind Ej) R:=h;rw[u]at j;cases d with
  |tup Z=>
   refine l6 C f s M a.H R I ⟨a,S,G,hk,rfl,N,r,?_⟩;rw[u];rintro b v x t ⟨p,g,rfl,n,J⟩;have A:UE X.K b.H p g:=by rw[<-hk,<-x.k];exact n
   refine⟨p,rfl,⟨g,A⟩,j b _ x t ⟨g,J,λc y i=>⟨λv l=>⟨⟨g,v,?_,l⟩,λw P z=>?_⟩,λo=>⟨g,?_,o⟩⟩⟩⟩
   .have:=y.HQ n;rw[y.k,x.k,hk]at this;exact this
   .have:=y.HQ n;rw[y.k,x.k,hk]at this;exact⟨Option.some.inj ((z.2 g this).symm.trans l),z.1⟩
   have:=y.HQ n;rw[y.k,x.k,hk]at this;exact this
  |fl Z=>
   refine V4 C f s M a.H R I ⟨a,S,G,hk,rfl,N,r,?_⟩;rw[u];rintro b v x t ⟨p,g,rfl,n,J⟩;have A:ME X.K b.H p g:=by rw[<-hk,<-x.k];exact n.sq
   refine⟨p,rfl,⟨g,A⟩,j b _ x t ⟨g,J,λc y i=>⟨λv l=>⟨⟨g,v,?_,l⟩,λw P z=>?_⟩,λo=>⟨g,?_,o⟩⟩⟩⟩
   .have:=(y.IQ n).sq;rw[y.k,x.k,hk]at this;exact this
   .have:=(y.IQ n).sq;rw[y.k,x.k,hk]at this;exact⟨Option.some.inj ((z.2 g this).symm.trans l),z.1⟩
   have:=(y.IQ n).sq;rw[y.k,x.k,hk]at this;exact this
  |ref k=>
   have B:outI E a (Ej (.ref k) W) R:=j;unfold Ej at B;dsimp only at B;split at B
   .rename_i Z U;refine V4 C f s M a.H R I ⟨a,S,G,hk,rfl,N,r,?_⟩;rw[u];rintro b v x t ⟨F,rfl⟩;obtain⟨g,U,_⟩:=t.lst U;refine⟨b.m k,rfl,⟨g,.of U⟩,B b _ x t ⟨F,λc y T O i=>?_⟩⟩;rw[y.m k F]at O;exact⟨λv l=>⟨⟨T,v,.of O,l⟩,λw P z=>⟨Option.some.inj ((z.2 T (.of O)).symm.trans l),z.1⟩⟩,λo=>⟨T,.of O,o⟩⟩
   exact B.elim
  | str z=>
   refine rA C f s M a.H R I ⟨a,S,G,hk,rfl,N,r,?_⟩;rw[u];intro b v x t J;cases(J);refine⟨z,rfl,j b _ x t ⟨_,.signs z,λc y i=>⟨λv l=>?_,λo=>?_⟩⟩⟩
   .rw[zj,qJ]at l;obtain⟨k,Q,rfl⟩:=l;have L:z.cps[i]?=u7 k:=by rw[<-jC];exact Q
    refine⟨(Array.getElem?_eq_some_iff.mp L).1,λw P q=>?_⟩;obtain⟨e1,k',Y,e3⟩:=q;rw[L]at Y;cases Y;exact⟨e3,e1⟩
   rw[zq,qS]at o;exact o
  |_=>exact j.elim
end
noncomputable def Al(lo:Int)(n:Nat):List D:=(zW n).map λ(k:Nat)=>D.int (lo+(k:Int))
def inR(j:Int):Prop:= -(2^62)<=j/\j<2^62
noncomputable instance (j:Int):Decidable (inR j):=by unfold inR;infer_instance
def IC(ds:List D)(G:DH):R KM:=match ds with
 |[.int j]=>if inR j then .ok (.pure (Al 0 j.toNat)) G else .bad
 |_=>.bad
def Ba(f:List D->DH->R KM)(ta:DA):DI:=λS G=>(ta S G).bind f
def ZI(c:DB)(b:DS):Nat->DS
 |0,_,_=>.bad
 |n+1,S,G=>(c S G).toS λk G1=>if k=u9 then MK (b S G1) (ZI c b n)else .nx S G1
def Aw(np nl:Nat)(b:DS):List D->DH->R D:=λds G=>if lN ds=np then tidy G (match b (ds.map u7++zQ nl u8) G with
 |.nx _ G'=>.ok .LA G'
 |.rt d G'=>.ok d G'
 |.err x G'=>.err x G'
 |_=>.bad)else .bad
theorem outI.mono(x:Ext a b)(h:outI E a r Q):outI E b r Q:=by
 cases r with
 |ok d G=>exact λc v y s q=>h c v (x.trans y) s q
 |err e G=>exact YI.mono x h
 |bad=>exact h
theorem Pb(h:outI E a (r.bind f) Q):
  Cj E a r (λvs H=>PR3 a H r vs JA λb c G=>outI E b (f c G) Q):=by
 cases r with
 |ok d G=>exact λb v x s q=>⟨b,d,G,rfl,x,s,q,rfl,outI.mono x h⟩
 |_=>exact h
section
variable{X:Cx}{E:XK}{tg iter:vW}{pos:Pos}
def rC(e:Int)(n:Nat):WE a (.pure (Al e n)) (OX e n):=by
 refine⟨(zW n).map λ(k:Nat)=>V.int (e+(k:Int)),?_,λb x i=>⟨λv c=>?_,λf=>?_⟩⟩
 .unfold Al;generalize zW n=l
  induction l with
  |nil=>exact rfl
  |cons k l g=>exact⟨_,_,rfl,rfl,g⟩
 .rw[zj]at c;by_cases d:i<n
  .rw[qB d]at c;exact⟨d,λw h y=>⟨y.2.trans (by simpa using c),y.1⟩⟩
  rw[zC (by simpa using d)]at c;cases c
 show n<=i;simpa using f
def rD{p pos:Pos}(i:Gl X "range")(m:X.mg "range"=u8)(l:QA X E [e] ta)(k:wQ [e] X.env=[(uA,eval e X.env)]:=by rfl):QI X E tg (.Call (.Name "range" p) [e] [] pos) (Ba IC ta):=
 (l9 i m l k).mono λu H Q h=>by
  obtain⟨a,S,G,hk,rfl,s,r,h⟩:=h;refine⟨a,S,G,hk,rfl,s,r,(Pb h).imp ?_⟩;rintro w _ ⟨b,y,t,rfl,x,o,q,-,c⟩;unfold IC at c;split at c
  .rename_i j;split at c
   .rename_i d;obtain⟨v,r,g,f,n⟩:=q;cases(f);cases(n);exact⟨j,g,d.1,d.2,c b _ (.refl b) o (rC 0 j.toNat)⟩
   exact c.elim
  exact c.elim
theorem rE(n:Nat)(hp:PassesOwn (vR X.prog X.w) X.A X.env X.xe)(hc:QT X E c tc)(Z:RL X E body tb):QS X E (.While c body [] pos) (ZI tc tb n):=(lV hp hc Z).mono λW Q H h=>by
 obtain⟨a,S,G,hk,rfl,s,r,h⟩:=h;refine⟨λm Q H=>∃(b:Wd)(S:PB)(G:DH),b.H=H/\Ext a b/\YA b G/\UB b S Q/\Bw E b (ZI tc tb m S G) W,⟨n,a,S,G,rfl,.refl a,s,r,h⟩,?_⟩;rintro m J _ ⟨b,v,Y,rfl,l,s2,p,N⟩;cases m with
 |zero=>exact N.elim
 | succ m=>
  refine⟨b,v,Y,l.k.trans hk,rfl,s2,p,(ak N).imp ?_⟩;rintro k _ ⟨L,O,rfl,f,U,_,T⟩;cases k with
  |false=>exact T L J (.refl L) U (p.mono f)
  | true=>
   refine⟨λg P=>∃(b:Wd)(S:PB)(G:DH),b.H=P/\Ext a b/\YA b G/\UB b S g/\Bw E b (ZI tc tb m S G) W,λg P z=>⟨m,qC _,z⟩,L,v,O,f.k.trans (l.k.trans hk),rfl,U,p.mono f,?_⟩;have d:=bA T
   revert d
   cases tb v O with
   |nx j i|ct j i=>
    intro d u e B o y;obtain⟨t,I,M,C,K,x,F,q⟩:=d u e B o y;exact⟨t,I,M,C,l.trans (f.trans K),x,F,q⟩
   |_=>exact λd=>d
end
def rF(r:JA a ds vs)(n m:Nat)(h:n=m):UB a (ds.map u7++zQ n u8) (vs.map u7++zQ m u8):=by
 subst h;refine⟨by simp[r.length],λi d b=>?_⟩;by_cases c:i<ds.length
 .rw[z9 (by simpa using c),zj]at b;cases e:ds[i]? with
  |none=>rw[e]at b;cases b
  |some j=>
   rw[e]at b;have f:j=d:=by simpa using b
   subst f;obtain⟨v,g,q⟩:=r.get e;exact⟨v,by rw[z9 (by rw[zq,<-r.length];exact c),zj,g];rfl,q⟩
 rw[zM (by simpa using c),qT]at b
 split at b<;>cases b
def Vm{K:za}{p:List Str}{n:Nat}{b:DS}{v:List V}{H:Hp}{Q:VK}{E:XK}(h:B' K (Aw p.length n b) v H Q E):v.length=p.length:=by
 obtain⟨a,G,q,hk,rfl,t,r,h⟩:=h;unfold Aw at h;split at h
 .rename_i l;rw[<-r.length];exact l
 exact h.elim
def bF{K:za}{N p:List Str}{b:DS}{v:List V}{H:Hp}{Q:VK}{E:XK}(h:B' K (Aw (lN p) (lN N-lN p) b) v H Q E):lS K E b {nx:=λ_=>Q .LA,rt:=Q} (start N v) H:=by
 have l:=Vm h;obtain⟨a,G,q,hk,rfl,t,r,h⟩:=h;unfold Aw at h;split at h
 .have g:=am t h;refine⟨a,q.map u7++zQ (lN N-lN p) u8,G,hk,rfl,t,rF r _ _ (by rw[l]),?_⟩
  revert g
  cases b (q.map u7++zQ (lN N-lN p) u8) G with
  |nx v o=>exact λg c C x B _=>g c .LA x B rfl
  |bk v o|ct v o=>exact λg=>g.elim
  |_=>exact id
 exact h.elim
def Hk{P:vq}{w:vA}{K:za}{u:Str->Option vk}{j:Heap}{x qual:Str}{st:vx}{f:vX}{y:vK}{N ps:List Str}{k:Nat}{b:DS}(F:QL K x qual st f y)(S:QC N ps (Bt st))
  (m:∀(i:vk)(A:vV)(outer:List Env)(s:vj)(H:Hp)(E:XK),HB k (A.deeper (envOfC qual (Bt st) s.heap.objs.size f i))->RL (Ld JK P w K u j N qual (Bt st) f i A outer s H E).JR E0 (Ei st) b):
  JD P w K u j JK (k+1) f y ps (lF K (Aw (lN ps) (lN N-lN ps) b)):=by
 exact F.ok S (λ_ _ _ _=>Vm) λi A o s H n Q E z h=>⟨_,m i A o s H E z,bF h⟩
theorem Jz(s:YA a G)(r:NB a d x)(h:Bm d G=u7 xs):∃p vs,x=.ref p/\(ME a.K a.H p vs\/UE a.K a.H p vs)/\JA a xs vs:=by
 cases d with
 |tup c=>
  have e:=Option.some.inj h;subst e;obtain⟨p,vs,e,q,b⟩:=r;exact⟨p,vs,e,.inr q,b⟩
 |fl c=>
  have e:=Option.some.inj h;subst e;obtain⟨p,vs,e,q,b⟩:=r;exact⟨p,vs,e,.inl q.sq,b⟩
 |ref i=>
  unfold Bm at h;dsimp only at h;split at h
  .rename_i c j;have e:=Option.some.inj h;subst e;obtain⟨vs,g,k⟩:=s.lst j;exact⟨a.m i,vs,r.2,.inl (.of g),k⟩
  cases h
 |_=>cases h
def Af (d e:D) (G:DH):R D:=match e with
 | .int i=>match d with
  | .str z=>if z.length<=1000000 then(match MC z.cps.toList i with
    |some c=>.ok (.str ⟨#[c]⟩) G
    |none=>.bad)else .bad
  | d=>match Bm d G with
   |some xs=>match MC xs i with
    |some v=>.ok v G
    |none=>.bad
   |none=>.bad
 |_=>.bad
theorem bG(r:JA a xs vs)(h:MC xs i=u7 d):∃v,MC vs i=u7 v/\NB a d v:=by
 unfold MC at h⊢;rw[<-r.length];cases e:PJ xs.length i with
 |none=>rw[e]at h;cases h
 |some j=>
  rw[e]at h;obtain⟨v,b,q⟩:=r.get (h);exact⟨v,b,q⟩
section
variable{X:Cx}{E:XK}
def _root_._L.QJ.mono(h:QJ X r)(w:∀x y H Q,r' x y H Q->r x y H Q):QJ X r':=λa b c s d H x y v u Q I i j q g=>h a b c s d H x y v u Q I i j (w _ _ _ _ q) g
def _root_._L.LB.mono(h:LB X f r)(w:∀xs H Q,r' xs H Q->r xs H Q):LB X f r':=λa s b H xs c Q I d q=>h a s b H xs c Q I d (w _ _ _ q)
def _root_._L.MN.mono{id:String}{r b:V->List V->Hp->VK->Prop}(h:MN X id r)(w:∀x xs H Q,b x xs H Q->r x xs H Q):MN X id b:=λa s c H x xs v d Q I i g q=>h a s c H x xs v d Q I i g (w _ _ _ _ q)
theorem P5:QJ X (ZE X.K E Af):=nY.mono λx y H Q h=>by
 obtain⟨a,G,d,e,hk,rfl,s,r,m,q⟩:=h;cases e with
 | int i=>
  have n:∀{k:List D},Bm d G=u7 k->out E a (match MC k i with |some v=>.ok v G|none=>.bad) Q->N1 X.K x y a.H Q:=λ{k}l q=>by
   obtain⟨p,B,w,g,I⟩:=Jz s r l;rw[hk]at g;split at q
   .rename_i v J;obtain⟨u,A,F⟩:=bG I J;have z:=q a u (.refl a) s F;rcases g with g|g
    .exact .inl ⟨p,B,i,u,w,m,g,A,z⟩
    exact .inr (.inl ⟨p,B,i,u,w,m,g,A,z⟩)
   exact q.elim
  have b:out E a (match Bm d G with |some k=>(match MC k i with |some v=>.ok v G|none=>.bad)|none=>.bad) Q->N1 X.K x y a.H Q:=λq=>by
   cases l:Bm d G with
   |none=>rw[l]at q;exact q.elim
   |some k=>rw[l]at q;exact n l q
  cases d with
  | str z=>
   unfold Af at q;dsimp only at q;split at q
   .rename_i C;split at q
    .rename_i c L;exact .inr (.inr ⟨z,i,c,r,m,zG C VB,L,q a _ (.refl a) s rfl⟩)
    exact q.elim
   exact q.elim
  |tup M|fl M|ref j|_=>exact b q
 |_=>exact q.elim
def Ar(ds:List D)(G:DH):R D:=match ds with
 |[.str z]=>if z.length<=1000000 then .ok (.int z.length) G else .bad
 |[d]=>match Bm d G with
  |some xs=>.ok (.int xs.length) G
  |none=>.bad
 |_=>.bad
def OD(r:JA a [d] vs):∃v,vs=[v]/\NB a d v:=by obtain⟨v,b,e,q,z⟩:=r;cases(z);exact⟨v,e,q⟩
def LM(r:JA a [d,d'] vs):∃v b,vs=[v,b]/\NB a d v/\NB a d' b:=by obtain⟨v,h,e,q,z⟩:=r;obtain⟨b,g,c⟩:=OD z;subst g;exact⟨v,b,e,q,c⟩
def rG:LB X (.builtin "len") (IM X.K E Ar):=(ni.or nj).mono λl H Q h=>by
 obtain⟨a,G,m,hk,rfl,s,r,q⟩:=h;unfold Ar at q;split at q
 .rename_i z;split at q
  .rename_i g;obtain⟨v,rfl,b⟩:=OD r;cases(b);exact .inr ⟨z,rfl,zG g VB,q a _ (.refl a) s rfl⟩
  exact q.elim
 .rename_i d _;split at q
  .rename_i n j;obtain⟨v,rfl,b⟩:=OD r;obtain⟨p,i,rfl,c,k⟩:=Jz s b j;rw[hk]at c;exact .inl ⟨p,i,rfl,c,q a _ (.refl a) s (by rw[<-k.length];exact rfl)⟩
  exact q.elim
 exact q.elim
def Df(ds:List D)(G:DH):R D:=match ds with
 |[d]=>match Bm d G with
  |some xs=>.ok (.tup xs) G
  |none=>.bad
 |_=>.bad
def rH:LB X (.type "tuple") (IM X.K E Df):=nq.mono λm H Q h=>by
 obtain⟨a,G,n,hk,rfl,s,r,q⟩:=h;unfold Df at q;split at q
 .rename_i d;split at q
  .rename_i u j;obtain⟨v,rfl,k⟩:=OD r;obtain⟨p,c,rfl,b,g⟩:=Jz s k j;refine⟨p,c,rfl,?_⟩;rcases b with b|b
   .exact .inl ⟨by rw[<-hk];exact b,λl i=>Uy s g q l i⟩
   exact .inr ⟨by rw[<-hk];exact b,q a _ (.refl a) s ⟨p,c,rfl,b,g⟩⟩
  exact q.elim
 exact q.elim
def Gf(ds:List D)(G:DH):R D:=match ds with
 |[.str z]=>if z.length<=1000000 then .ok (.ref G.length) (G++[.lst (signs z)])else .bad
 |[d]=>match Bm d G with
  |some xs=>.ok (.ref G.length) (G++[.lst xs])
  |none=>.bad
 |_=>.bad
theorem X6:∀{vs:List V}{us:List vk},lN vs=lN us->(∀(i:Nat)(v:V)(u:vk),vs[i]?=u7 v->us[i]?=u7 u->RelV v u)->Vals vs us
 |[],[],_,_=>.nil
 |[],_::_,h,_|_::_,[],h,_=>by cases h
 |v::vs,u::us,h,f=>.cons (f 0 v u rfl rfl) (X6 (by simpa using h) λi a d c b=>f (i+1) a d (by simpa using c) (by simpa using b))
def rK(x:X.calm=u9):LB X (.type "list") (λxs H Q=>∃z:Str,xs=[.str z]/\z.length<=sizeLine/\∀l,H l=u8->Q (.ref l) (upd H l (.lst (z.cps.toList.map λc=>V.str ⟨#[c]⟩)))):=by
 intro j s A H xs B Q I r h;obtain⟨z,rfl,m,q⟩:=h;obtain⟨u,rfl,t,rfl⟩:=vals1 r;refine PySem.call_list_str (I.ok.hd x) z t (λJ C b c hk p a=>?_) m;refine⟨.ref s.heap.objs.size,upd H s.heap.objs.size (.lst (z.cps.toList.map λc=>V.str ⟨#[c]⟩)),I.laid hk (zv _) ?_,rfl,q _ (I.UA.fresh (zv _))⟩;refine⟨by rw[zq,qS];exact m,b.toList,c,X6 ?_ λi v u d n=>?_,by simpa using p⟩
 .rw[zq,qS,qS];exact a.1.symm
 rw[zj,qJ]at d;obtain⟨k,g,rfl⟩:=d;obtain⟨F,w,y,rfl⟩:=a.2 i u (by rw[<-jC];exact n);rw[jC,y]at g;cases g;exact⟨w,rfl⟩
def rL(m:X.calm=u9):LB X (.type "list") (IM X.K E Gf):=(nk.or (rK m)).mono λn H Q h=>by
 obtain⟨a,G,u,hk,rfl,s,r,q⟩:=h;unfold Gf at q;split at q
 .rename_i z;split at q
  .rename_i b;obtain⟨v,rfl,c⟩:=OD r;cases(c);exact .inr ⟨z,rfl,zG b VB,λl b=>Jt s (.signs z) q l b⟩
  exact q.elim
 .rename_i d _;split at q
  .rename_i w j;obtain⟨v,rfl,c⟩:=OD r;obtain⟨p,i,rfl,g,k⟩:=Jz s c j;exact .inl ⟨p,i,rfl,by rw[<-hk];exact g,λl b=>Jt s k q l b⟩
  exact q.elim
 exact q.elim
noncomputable def Jf(ds:List D)(G:DH):R D:=match ds with
 |[.int i,.int j]=>.ok (.int (if j>i then j else i)) G
 |_=>.bad
noncomputable def Hu(ds:List D)(G:DH):R D:=match ds with
 |[.int i,.int j]=>.ok (.int (if j<i then j else i)) G
 |_=>.bad
def rM(d:X.calm=u9):LB X (.builtin "max") (IM X.K E Jf):=(mR d).mono λg H Q h=>by
 obtain⟨a,G,i,hk,rfl,s,r,q⟩:=h;unfold Jf at q;split at q
 .obtain⟨v,j,rfl,b,c⟩:=LM r;cases(b);cases(c);exact⟨_,_,rfl,q a _ (.refl a) s rfl⟩
 exact q.elim
def rN(d:X.calm=u9):LB X (.builtin "min") (IM X.K E Hu):=(mS d).mono λg H Q h=>by
 obtain⟨a,G,i,hk,rfl,s,r,q⟩:=h;unfold Hu at q;split at q
 .obtain⟨v,j,rfl,b,c⟩:=LM r;cases(b);cases(c);exact⟨_,_,rfl,q a _ (.refl a) s rfl⟩
 exact q.elim
noncomputable def Ci(o:D)(ds:List D)(G:DH):R D:=match o,ds with
 |.ref i,[d]=>match G[i]? with
  |some (.lst xs)=>if lN xs<1000000 then .ok .LA (G.set i (.lst (xs++[d])))else .bad
  |_=>.bad
 |_,_=>.bad
def TX(K:za)(E:XK)(f:D->List D->DH->R D):V->List V->Hp->VK->Prop:=λx xs H Q=>PD3 K H x xs NB JA λa G d ds=>out E a (f d ds G) Q
def YA.isList(s:YA a G)(h:G[i]?=u7 (.lst xs)):∃vs,ME a.K a.H (a.m i) vs:=let⟨vs,e,_⟩:=s.lst h;⟨vs,.of e⟩
def rO:MN X "list.append" (TX X.K E Ci):=nz.mono λx y H Q h=>by
 obtain⟨a,G,d,w,hk,rfl,s,b,r,q⟩:=h;unfold Ci at q;split at q
 .rename_i i d;obtain⟨v,rfl,p⟩:=OD r;split at q
  .rename_i z k;split at q
   .rename_i j;obtain⟨l,c,g⟩:=s.lst k;obtain⟨n,u⟩:=Tc s b.1 c (g.append (.cons p JA.nil));exact⟨a.m i,l,v,b.2,rfl,c,by rw[<-g.length];exact zx j VB,q _ .LA n u rfl⟩
   exact q.elim
  exact q.elim
 exact q.elim
variable{o e:vW}{es:List vW}{to:DE}{t:DA}{name:Str}{apos RB:Pos}{T id:String}{f:D->List D->DH->R D}
noncomputable def UT(d:D)(G:DH):Bool:=match d with
 |.ref i=>match G[i]? with
  |some (.lst _)=>u9
  |_=>uA
 |.fl _=>u9
 |_=>uA
def Cy(f:D->List D->DH->R D)(o:DE)(t:DA):DE:=λS G=>(o S G).bind λx G1=>if UT x G1=u9 then(t S G1).bind λxs G2=>f x xs G2 else .bad
theorem rP(s:YA a G)(r:NB a d x)(h:UT d G=u9):Q1 a.K "list" x a.H:=by
 cases d with
 |ref i=>
  unfold UT at h;dsimp only at h;split at h
  .rename_i b g;cases r.2;exact .inl ⟨rfl,s.isList g⟩
  cases h
 |fl b=>
  obtain⟨p,c,rfl,q,_⟩:=r;exact .inl ⟨rfl,c,q.sq⟩
 |_=>cases h
def rQ(m:Slot "list" name id)(p:typeOf (.builtin id)=pure (.type "method_descriptor"))(L:MN X id (TX X.K E f))(ho:QE X E o to)(N:QA X E (e::es) t)
  (i:vC o name X.env (eval o X.env)=eval o X.env:=by rfl)
  (l:((vD RB (wQ (e::es) X.env)).all (λx=> !x.1)&&(vE RB (vN [] X.env)).all (λx=>x.1.isSome)
   && decide (lN (e::es)+lN ([]:List Keyword)+(if([]:List Keyword).isEmpty then 0 else 1)<30))=u9:=by rfl)
  (j:(apos.endLine==RB.line)=u9:=by rfl) (C:wQ (e::es) X.env=(uA,eval e X.env)::wQ es X.env:=by rfl) (g:(vD RB (wQ es X.env)).any (·.1)=uA:=by rfl):
  QE X E (.Call (.Attribute o name apos) (e::es) [] RB) (Cy f to t):=(nv PySem.F.plainAttrs_list m p L ho N i l j C g).mono λP H Q h=>by
 obtain⟨a,S,G,hk,rfl,s,r,h⟩:=h;refine⟨a,S,G,hk,rfl,s,r,(Eo h).imp ?_⟩;rintro v _ ⟨b,d,w,rfl,x,u,q,-,n⟩;split at n
 .rename_i M;have ty:=rP u q M;rw[x.k,hk]at ty;refine⟨ty,b,S,w,x.k.trans hk,rfl,u,r.mono x,(Js n).imp ?_⟩;rintro O _ ⟨c,J,A,rfl,y,I,B,-,z⟩;exact⟨c,A,d,J,y.k.trans (x.k.trans hk),rfl,I,q.mono y,B,z⟩
 exact n.elim
end
inductive Ty where|LA|bl|int|str|tup|lst
noncomputable def Ty.name:Ty->String
 |.LA=>"NoneType" | .bl=>"bool" | .int=>"int" | .str=>"str" | .tup=>"tuple" | .lst=>"list"
def GJ(G:DH):D->Option Ty
 |.LA=>u7 .LA
 |.bl _=>u7 .bl
 |.int _=>u7 .int
 |.str _=>u7 .str
 |.tup _=>u7 .tup
 |.fl _=>u7 .lst
 |.ref i=>match G[i]? with
  |some (.lst _)=>u7 .lst
  |_=>u8
 |.ty _=>u8
noncomputable def Ty.sub(t:Ty):String->Option Bool
 |"int"=>u7 (match t with | .int=>u9 | .bl=>u9|_=>uA)
 |"bool"=>u7 (match t with | .bl=>u9|_=>uA)
 |"str"=>u7 (match t with | .str=>u9|_=>uA)
 |"tuple"=>u7 (match t with | .tup=>u9|_=>uA)
 |"list"=>u7 (match t with | .lst=>u9|_=>uA)
 |_=>u8
def Ey(ds:List D)(G:DH):R D:=match ds with
 | [d,.ty T]=>match GJ G d with
  |some t=>match t.sub T with
   |some k=>.ok (.bl k) G
   |none=>.bad
  |none=>.bad
 |_=>.bad
def rR{K:za}{t:Ty}{T:String}{k:Bool}(h:t.sub T=u7 k):PySem.W.kitOne K (.type t.name) (.type T)=u7 k:=by
 unfold Ty.sub at h;split at h
 iterate 5 (cases t<;>cases h<;>rfl)
 cases h
section
variable{X:Cx}{E:XK}
def rT:LB X (.builtin "isinstance") (IM X.K E Ey):=by
 intro i s O H vs us Q I rs h;obtain⟨a,G,ds,hk,rfl,P,r,q⟩:=h;unfold Ey at q;split at q
 .rename_i d T;obtain⟨v,v',rfl,j,S⟩:=LM r;cases(S);obtain⟨u,J,rfl,m,F⟩:∃u J,us=[u,J]/\RelV v u/\RelV (.ty T) J:=by
   cases rs with
   |cons p q=>cases q with
    |cons Z q'=>cases q';exact⟨_,_,rfl,p,Z⟩
  cases(F);split at q
  .rename_i t g;split at q
   .rename_i k y;have f:∀B:Nat,EP X i O Q (.bool k) {s with toks:=B}:=λB=>⟨.bl k,a.H,I.tok _,rfl,q a _ (.refl a) P rfl⟩
    have e:=rR (K:=X.K) y;clear q y r;have L:∀(p:vX)(l:List V),ME X.K a.H p l->u=.ref p->t=.lst->wW (vR X.prog X.w) X.A (call (.builtin "isinstance") [u,.type T]) (EP X i O Q) X.xe s:=λp l x eu U=>by subst eu U;obtain⟨M,_,C,_⟩:=I.list x;exact qd PySem.W.kitx_list I.SG (let⟨o,e,c,_⟩:=C.isList;⟨o,e,c⟩) e (nofun) f
    cases d with
    |LA=>cases g;cases(j);cases m;exact qd PySem.W.kitx_none I.SG True.intro e (nofun) f
    |bl b=>cases g;cases(j);cases m;exact qd PySem.W.kitx_bool I.SG True.intro e (nofun) f
    |int b=>cases g;cases(j);obtain⟨B,rfl⟩:=m;exact qd PySem.W.kitx_int I.SG True.intro e (nofun) f
    |str b=>cases g;cases(j);obtain⟨B,rfl⟩:=m;exact qd PySem.W.kitx_str I.SG True.intro e (nofun) f
    |tup b=>
     cases g;obtain⟨p,l,rfl,x,_⟩:=j;cases m;rw[hk]at x;obtain⟨M,_,C,_⟩:=I.tuple x;exact qd PySem.W.kitx_tuple I.SG (let⟨o,e,c,_⟩:=C;⟨o,e,c⟩) e (nofun) f
    |fl b=>
     cases g;obtain⟨p,l,rfl,x,_⟩:=j;exact L p l (hk▸x.sq) m rfl
    |ref b=>
     unfold GJ at g;dsimp only at g;split at g
     .rename_i xs hx;cases g;obtain⟨l,Y,_⟩:=P.lst hx;cases j.2;exact L _ l (.of Y) m rfl
     cases g
    |ty n=>cases g
   exact q.elim
  exact q.elim
 exact q.elim
end
noncomputable def Ke:List D->Option (List Int)
 |[]=>u7 []
 |.int i::r=>(Ke r).map (i::·)
 |_=>u8
noncomputable def Kd:List D->Option (List Bool)
 |[]=>u7 []
 |.bl i::r=>(Kd r).map (i::·)
 |_=>u8
@[simp]theorem EU(ns:List Int):Ke (ns.map D.int)=u7 ns:=by
 induction ns with
 |nil=>rfl
 |cons n ns a=>simp[Ke,a]
@[simp]theorem EV(ns:List Bool):Kd (ns.map D.bl)=u7 ns:=by
 induction ns with
 |nil=>rfl
 |cons n ns a=>simp[Kd,a]
theorem bH:∀{xs:List D}{ns:List Int},Ke xs=u7 ns->xs=ns.map D.int
 |[],ns,h=>by cases h;rfl
 |.int i::r,ns,h=>by simp[Ke,qJ]at h;obtain⟨b,a,rfl⟩:=h;rw[zK,bH a]
 |.LA::r,ns,h | .bl _::r,ns,h | .str _::r,ns,h | .ty _::r,ns,h | .tup _::r,ns,h | .fl _::r,ns,h | .ref _::r,ns,h=>by simp[Ke]at h
theorem bI:∀{xs:List D}{ns:List Bool},Kd xs=u7 ns->xs=ns.map D.bl
 |[],ns,h=>by cases h;rfl
 |.bl i::r,ns,h=>by simp[Kd,qJ]at h;obtain⟨b,a,rfl⟩:=h;rw[zK,bI a]
 |.LA::r,ns,h | .int _::r,ns,h | .str _::r,ns,h | .ty _::r,ns,h | .tup _::r,ns,h | .fl _::r,ns,h | .ref _::r,ns,h=>by simp[Kd]at h
def Gd(ds:List D)(G:DH):R D:=match ds with
 | [d]=>match Bm d G with
  |some xs=>match Ke xs with
   |some ns=>.ok (.int ns.sum) G
   |none=>.bad
  |none=>.bad
 |_=>.bad
def J1(ds:List D)(G:DH):R D:=match ds with
 | [d]=>match Bm d G with
  |some xs=>match Kd xs with
   |some ns=>.ok (.bl (ns.all id)) G
   |none=>.bad
  |none=>.bad
 |_=>.bad
section
variable{X:Cx}{E:XK}{wM:List (vX×Obj)}{σ:St}{s:vj}{H:Hp}
def bJ(I:Inv X wM σ H s)(t:X.calm=u9)(h:ME X.K H p vs\/UE X.K H p vs)
  (n:∀(it:vX)(fp wr:List vX)(OA:List vk)(St:Nat->Heap->Prop)(d:vj),Vals vs OA->Walks X.prog X.w X.A.in1 it fp wr OA.toArray.size (λi v=>OA.toArray[i]?=u7 v) St->St 0 d.heap->(∀b∈fp,b<d.heap.objs.size)->
   (∀h' tk,(∀b o,b∉wr->d.heap.get? b=u7 o->h'.get? b=u7 o)->Inv X wM σ H {d with heap:=h',toks:=tk})->Q (.ref it) d):
  wW (vR X.prog X.w) X.A.in1 (pyIter (.ref p)) Q E' s:=by
 have m:X.A.in1.handled=u8:=I.ok.hd t;rcases h with h|h
 .obtain⟨OA,r,g,q⟩:=I.list h;refine wpAny_pyIter_list g.isList ?_;have hp:p<s.heap.objs.size:=by obtain⟨o,e,_⟩:=g.isList;exact zA e
  refine n _ _ _ OA _ _ r (.list m _ p (zN hp) OA.toArray) ⟨⟨_,z3 _ rfl,rfl,rfl⟩,?_⟩ (λb f=>?_) λh' tk k=>?_
  .obtain⟨o,e,c⟩:=g.isList;exact⟨o,zX _ e,c⟩
  .rw[jV];rcases z0.mp f with rfl|f
   .exact qC _
   have e:b=p:=by simpa using f
   subst e;exact xV hp
  refine I.kept λb o e=>k b o (λf=>?_) (zX _ e)
  have j:b=s.heap.objs.size:=by simpa using f
  subst j;exact absurd (zA e) (qA _)
 obtain⟨OA,r,g,q⟩:=I.tuple h;refine wpAny_pyIter_tuple (g) ?_;have hp:p<s.heap.objs.size:=by obtain⟨o,e,_⟩:=g;exact zA e
 refine n _ _ _ OA _ _ r (.tuple m _ p (zN hp) OA.toArray) ⟨⟨_,z3 _ rfl,rfl,rfl⟩,?_⟩ (λb f=>?_) λh' tk k=>?_
 .obtain⟨o,e,c⟩:=g;exact⟨o,zX _ e,c⟩
 .rw[jV];rcases z0.mp f with rfl|f
  .exact qC _
  .have e:b=p:=by simpa using f
   subst e;exact xV hp
 .refine I.kept λb o e=>k b o (λf=>?_) (zX _ e)
  have j:b=s.heap.objs.size:=by simpa using f
  subst j;exact absurd (zA e) (qA _)
theorem bL(ns:List Int):∀n,n<=lN ns->preSum (λi=>ns.getD i 0) n=(ns.take n).sum
 |0,_=>by simp[preSum]
 |n+1,h=>by have a:n<lN ns:=h;rw[preSum,bL ns n (by lia),List.take_succ_eq_append_getElem a,xN];simp[a]
theorem Zq:∀{ns:List Int}{vs:List V},JA a (ns.map D.int) vs->vs=ns.map V.int
 |[],vs,h=>h
 |n::ns,vs,h=>by
  obtain⟨v,r,e,c,b⟩:=h;cases(c);rw[e,Zq b]
  rfl
theorem bM:∀{ns:List Bool}{vs:List V},JA a (ns.map D.bl) vs->vs=ns.map V.bl
 |[],vs,h=>h
 |n::ns,vs,h=>by
  obtain⟨v,r,e,c,b⟩:=h;cases(c);rw[e,bM b]
  rfl
def rV(z:X.calm=u9):LB X (.builtin "sum") (IM X.K E Gd):=by
 intro l s S H O T Q I F h;obtain⟨a,G,M,hk,rfl,m,r,q⟩:=h;unfold Gd at q;split at q
 .rename_i d;obtain⟨v,rfl,B⟩:=OD r;split at q
  .rename_i P y;split at q
   .rename_i b n;cases bH n;obtain⟨p,N,rfl,j,J⟩:=Jz m B y;cases Zq J;rw[hk]at j;obtain⟨u,rfl,f⟩:=vals1 F;cases f;refine call_sum_walkG (bJ I z j λit fp wr OA St s₂ hv W st VT fin=>⟨it,fp,wr,OA.toArray.size,_,St,λi=>b.getD i 0,rfl,W,st,VT,λi w hw=>?_,λC o A L=>?_⟩)
    .have c:OA[i]?=u7 w:=by simpa using hw
     have g:i<(b.map V.int).length:=by rw[hv.length];exact(zZ.mp c).1
     have e:i<b.length:=by simpa using g
     obtain⟨u,k,f⟩:=hv.get (i:=i) (x:=V.int b[i]) (by simp[e]);rw[c]at k;cases k;obtain⟨t,rfl⟩:=f;exact⟨t,by simp[e]⟩
    refine⟨.int b.sum,a.H,fin C o L,⟨A,?_⟩,q a _ (.refl a) m rfl⟩;have g:OA.toArray.size=b.length:=by rw[zy,<-hv.length];simp
    rw[g,bL b b.length (zv _),List.take_length]
   exact q.elim
  exact q.elim
 exact q.elim
def all_range(ns:List Bool):(zW (lN ns)).all (λi=>ns.getD i u9)=ns.all id:=by
 rw[Bool.eq_iff_iff,xY,xY];constructor
 .intro h b d;obtain⟨i,c,rfl⟩:=xq d;simpa[c]using h i (qW.mpr c)
 intro h i c;have a:=qW.mp c;simpa[a]using h ns[i] (qK a)
def rW(z:X.calm=u9):LB X (.builtin "all") (IM X.K E J1):=by
 intro m s U H S Y Q I C h;obtain⟨a,G,N,hk,rfl,n,r,q⟩:=h;unfold J1 at q;split at q
 .rename_i d;obtain⟨v,rfl,A⟩:=OD r;split at q
  .rename_i T y;split at q
   .rename_i b o;cases bI o;obtain⟨p,O,rfl,k,F⟩:=Jz n A y;cases bM F;rw[hk]at k;obtain⟨u,rfl,f⟩:=vals1 C;cases f;refine call_all_walk (bJ I z k λit fp wr OA St s₂ hv W st VT fin=>⟨it,fp,wr,OA.toArray.size,_,St,λi=>b.getD i u9,rfl,W,st,λi w M L P hw j=>?_,λB t J=>?_⟩)
    .have c:OA[i]?=u7 w:=by simpa using hw
     have g:i<(b.map V.bl).length:=by rw[hv.length];exact(zZ.mp c).1
     have e:i<b.length:=by simpa using g
     obtain⟨u,l,f⟩:=hv.get (i:=i) (x:=V.bl b[i]) (by simp[e]);rw[c]at l;cases l;cases f;refine w9 ?_;simpa[e]using j
    refine⟨.bl (b.all id),a.H,fin B t J,?_,q a _ (.refl a) n rfl⟩;have g:OA.toArray.size=b.length:=by rw[zy,<-hv.length];simp
    rw[g,all_range]
    rfl
   exact q.elim
  exact q.elim
 exact q.elim
end
section
variable{X:Cx}{wM:List (vX×Obj)}{σ:St}{H:Hp}{s:vj}
def Zb(I:Inv X wM σ H s)(l:H a=u8)(v:X.s₀.heap.objs.size<=a)(t:a≠X.env.locals)(y:∀x c,X.env.cells.lookup x=u7 c->c≠a)(hp:∀p∈X.pn++wM,p.1≠a)
  (h:XB X.prog X.w (upd H a o) s.heap a o):Inv X wM σ (upd H a o) s:=by
 have f:∀b u,H b=u7 u->b≠a:=λb u e z=>by rw[z,l]at e;cases e
 refine⟨I.ok,I.os,I.bare,⟨I.base.keep,I.base.slot,λb i q n C=>?_,I.base.there,λb j q=>?_,λb i u q=>?_,λb A q=>?_⟩,I.loc,I.cell,?_,λx c e=>?_,λp d=>?_,λb u e=>?_,I.len⟩
 .rw[Ah (zN (zx (zA q) v))];exact I.base.free b i q n C
 .have:=I.base.NJ b j q;rw[Ah (f _ _ this)];exact this
 .have:=I.base.YH b i u q;rw[Ah (f _ _ this)];exact this
 .obtain⟨g,this⟩:=I.base.ZH b A q;exact⟨g,by rw[Ah (f _ _ this)];exact this⟩
 .rw[Ah (.symm t)];exact I.free
 .rw[Ah (y x c e)];exact I.Gj x c e
 .obtain⟨m,B,r⟩:=I.pin p d;exact⟨m,by rw[Ah (hp p d)];exact B,r⟩
 by_cases k:b=a
 .subst k;rw[Dp]at e;cases e;exact h
 .rw[Ah k]at e;exact(I.UA b u e).ZF (λ_ _ _ q=>q) (λc q=>by rw[Ah (f _ _ q)];exact q) λc j q=>by rw[Ah (f _ _ q)];exact q
end
noncomputable def Cz(env:Env):List (Str×vY)->List (Str×vX)->List (Str×vX)
 |[],cs=>cs
 |(n,k)::r,cs=>if(k==NameKind.free)=u9 then Cz env r ((n,(env.cells.lookup n).getD 0)::cs)else Cz env r cs
def Xu(h:∀y∈scope.names,y.2=.free->∃c,env.cells.lookup y.1=u7 c):closureFor scope env=pure (Cz env scope.names []):=by
 unfold closureFor;obtain⟨b,names,p,q⟩:=scope;have e:∀(names:List (Str×vY))(a:List (Str×vX)),(∀y∈names,y.2=.free->∃c,env.cells.lookup y.1=u7 c)->
   (forIn names a (λx r=>match x with
    |(name,b)=>if(b==NameKind.free)=u9 then(do let c<-cellOf env name;pure (.yield ((name,c)::r)))else pure (.yield r)):Sem (List (Str×vX)))=pure (Cz env names a):=by
  intro names
  induction names with
  |nil=>intro a _;rfl
  | cons y r j=>
   intro a f;obtain⟨n,k⟩:=y;rw[xz];by_cases hk:(k==NameKind.free)=u9
   .obtain⟨c,l⟩:=f (n,k) zk (by simpa using hk);have o:cellOf env n=pure c:=by unfold cellOf;rw[l]
    have i:Cz env ((n,k)::r) a=Cz env r ((n,c)::a):=by rw[Cz,if_pos hk,l];rfl
    rw[i,<-j ((n,c)::a) λg d=>f g (zV _ d)];simp only[hk,if_true,o]
    rfl
   have i:Cz env ((n,k)::r) a=Cz env r a:=by rw[Cz,if_neg hk]
   rw[i,<-j a λg d=>f g (zV _ d)];simp only[hk]
   rfl
 have:=e names [] h;exact congrArg (λm:Sem (List (Str×vX))=>m >>=λr=>pure r) this
theorem W4:∀{names:List (Str×vY)}{cs:List (Str×vX)},(∀y∈names,y.2=.free->∃c,env.cells.lookup y.1=u7 c)->(∀p∈cs,env.cells.lookup p.1=u7 p.2)->∀p∈Cz env names cs,env.cells.lookup p.1=u7 p.2
 |[],cs,_,a,p,hp=>a p hp
 | (n,k)::r,cs,d,a,p,hp=>by
  rw[Cz]at hp;split at hp
  .rename_i hk;obtain⟨c,e⟩:=d (n,k) zk (by simpa using hk);refine W4 (λy b=>d y (zV _ b)) (λq f=>?_) p hp;rcases z0.mp f with rfl|f
   .rw[e];rfl
   exact a q f
  exact W4 (λy b=>d y (zV _ b)) a p hp
theorem Mv:∀{names:List (Str×vY)}{cs:List (Str×vX)},((x,.free)∈names\/∃c,(x,c)∈cs)->∃c,(x,c)∈Cz env names cs
 |[],cs,h=>by
  rcases h with h|h
  .cases h
  exact h
 | (n,k)::r,cs,h=>by
  rw[Cz];split
  .refine Mv ?_;rcases h with h|⟨c,h⟩
   .rcases z0.mp h with e|h
    .cases e;exact .inr ⟨_,zk⟩
    exact .inl h
   exact .inr ⟨c,zV _ h⟩
  rename_i hk;refine Mv ?_;rcases h with h|h
  .rcases z0.mp h with e|h
   .cases e;exact absurd rfl hk
   exact .inl h
  exact .inr h
theorem Px:∀{l:List (Str×vX)},(x,c)∈l->∃d,l.lookup x=u7 d
 |[],h=>by cases h
 |(y,d)::l,h=>by
  by_cases e:x=y
  .subst e;exact⟨d,by simp⟩
  rcases z0.mp h with z|h
  .cases z;exact absurd rfl e
  .obtain⟨a,q⟩:=Px h;exact⟨a,by rw[j7,beq_eq_false_iff_ne.mpr e];exact q⟩
theorem bN(x:Str):(relabel scope env).names.lookup x=(scope.names.lookup x).map λk=>if(k==NameKind.free&&env.scope.kind == .function&&env.kindOf x==u7 .cell)=u9 then .cell else k:=by
 unfold relabel;generalize scope.names=l
 induction l with
 |nil=>rfl
 | cons y r b=>
  obtain⟨n,k⟩:=y;by_cases e:x=n
  .subst e;simp only[zK]
   cases c:(k==NameKind.free&&env.scope.kind==ScopeKind.function&&env.kindOf x==u7 NameKind.cell) <;>
    simp only[c,if_true,j7,beq_self_eq_true,Option.map_some,Bool.false_eq_true,if_false]
  have a:=beq_eq_false_iff_ne.mpr e;simp only[zK];split
  .rw[j7,j7,a];exact b
  rw[j7,j7,a];exact b
def IG(X:Cx)(N:List Str)(scope:vz)(C:vX)(s₀:vj)(H₀:Hp)(ex:List vX):Cx where
 prog:=X.prog
 w:=X.w
 K:=X.K
 mg:=X.mg
 base:=X.base
 A:=X.A
 N:=N
 s₀:=s₀
 H₀:=H₀
 env:=compEnvC scope (Cz X.env scope.names []) C X.env
 outer:=X.stack
 stack:=X.stack
 ex:=ex
 fn:=λ_=>uA
 calm:=X.calm
 pn:=[]
 xe:=λ_ _=>False
structure JC (X:Cx) (N:List Str) (scope:vz) (nt:Nat) (caps:List Nat):Prop where
 kind:scope.kind=.function
 names:∀y∈scope.names,y.2=.local->scope.names.lookup y.1=u7 .local
 NH:∀y∈scope.names,y.2≠ .cell
 free:∀y∈scope.names,y.2=.free->X.env.kindOf y.1=u7 .cell\/X.env.kindOf y.1=u7 .free
 nd:N.Nodup
 len:lN N=nt+lN caps
 VR:∀(k j:Nat),caps[k]?=u7 j->∃x,X.N[j]?=u7 x/\N[nt+k]?=u7 x/\scope.names.lookup x=u7 .free
section
variable{X:Cx}{wM:List (vX×Obj)}{σ:St}{H:Hp}{s:vj}{N:List Str}{scope:vz}{nt:Nat}{caps:List Nat}
def JC.cells(c:JC X N scope nt caps)(ok:X.Ok):∀y∈scope.names,y.2=.free->∃c,X.env.cells.lookup y.1=u7 c:=λy a hk=>ok.has y.1 (c.free y a hk)
def JC.cl(c:JC X N scope nt caps)(ok:X.Ok)(h:(Cz X.env scope.names []).lookup x=u7 d):X.env.cells.lookup x=u7 d:=
 W4 (c.cells ok) (λp hp=>by cases hp) (x,d) (zc h)
def rX(c:JC X N scope nt caps)(I:Inv X wM σ H s){fp:List vX}(hf:∀b∈fp,QD X wM H b){C:vX}(hC:s.heap.objs.size<=C)(UX:C∉fp):(IG X N scope C s H fp).Ok where
 mod:=I.ok.mod
 kind:=c.kind
 glob:=I.ok.glob
 blt:=I.ok.blt
 above:=hC
 inj:=λx y d h1 h2=>I.ok.inj x y d (c.cl I.ok h1) (c.cl I.ok h2)
 has:=λx h=>by
  have h':(relabel scope X.env).names.lookup x=u7 .cell\/(relabel scope X.env).names.lookup x=u7 .free:=h;rw[bN]at h';have TV:scope.names.lookup x=u7 .free:=by
   cases e:scope.names.lookup x with
   |none=>rw[e]at h';rcases h' with h'|h'<;>cases h'
   |some k=>
    rw[e]at h';cases k with
    |free=>rfl
    |cell=>exact absurd rfl (c.NH _ (zc e))
    |_=>rcases h' with h'|h'<;>(simp at h')
  obtain⟨d,hd⟩:=Mv (.inl (zc TV));exact Px hd
 IT:=λx d h=>by cases h
 hd:=I.ok.hd
 frames:=I.ok.frames
 MU:=.inl rfl
 MZ:=λb hb=>⟨λz=>UX (by rw[<-show b=C from z];exact hb),λx d h=>(hf b hb).2.2.2.2.1 x d (c.cl I.ok h)⟩
 bs:=I.bs
 KN:=zG I.ok.KN I.sz
 WK:=λb o e hb=>by
  rcases(hf b hb).2.2.2.1 with h|h
  .exact I.ok.WK b o e h
  exact absurd (zx (zA (I.ok.bs b o e).1) h) (qA _)
 YK:=λb hb hz=>by
  rcases z0.mp (I.Pu b hz)with z|z
  .exact(hf b hb).2.1 z
  exact(hf b hb).2.2.1 z
 OF:=I.stack
 UP:=I.Yw
end
def Bl(g:DG)(c:DB)(te:DE)(S:PB):List D->DH->R (List D)
 |[],G=>.ok [] G
 | x::xs,G=>(g x S G).bind λS1 G1=>(c S1 G1).bind λk G2=>
   if k=u9 then(te S1 G2).bind λd G3=>(Bl g c te S xs G3).bind λds G4=>.ok (d::ds) G4 else Bl g c te S xs G2
def Es(i:Nat)(g:DG)(c:DB)(te:DE)(S:PB):Nat->Nat->DH->R (List D)
 |0,j,G=>match G[i]? with
  |some (.lst xs)=>if lN xs<=j then .ok [] G else .bad
  |_=>.bad
 | n + 1,j,G=>match G[i]? with
  |some (.lst xs)=>match xs[j]? with
   | some x=>(g x S G).bind λS1 G1=>(c S1 G1).bind λk G2=>
     if k=u9 then(te S1 G2).bind λd G3=>(Es i g c te S n (j+1) G3).bind λds G4=>.ok (d::ds) G4 else Es i g c te S n (j+1) G2
   |none=>.ok [] G
  |_=>.bad
def Dn(f:Nat->DH->Option (Option D))(g:DG)(c:DB)(te:DE)(S:PB):Nat->Nat->DH->R (List D)
 |0,j,G=>match f j G with
  |some u8=>.ok [] G
  |_=>.bad
 | n + 1,j,G=>match f j G with
  |some (u7 x)=>(g x S G).bind λS1 G1=>(c S1 G1).bind λk G2=>
     if k=u9 then(te S1 G2).bind λd G3=>(Dn f g c te S n (j+1) G3).bind λds G4=>.ok (d::ds) G4 else Dn f g c te S n (j+1) G2
  |some u8=>.ok [] G
  |none=>.bad
noncomputable def Bg(nt:Nat)(caps:List Nat)(S:PB):PB:=zQ nt u8++caps.map λj=>(S[j]?).join
def Bv(it:DI)(nt:Nat)(caps:List Nat)(g:DG)(c:DB)(te:DE):DE:=λS G=>(it S G).bind λJ G1=>(match J with
 |.pure xs=>Bl g c te (Bg nt caps S) xs G1
 |.mt i=>match G1[i]? with
  |some (.lst xs)=>Es i g c te (Bg nt caps S) (lN xs) 0 G1
  |_=>.bad
 |.fn n f=>Dn f g c te (Bg nt caps S) n 0 G1).bind Ac
noncomputable def Aq:DB:=λ_ G=>.ok u9 G
def GK(nt:Nat)(g:DG):Prop:=∀d S G S1 G1,g d S G=.ok S1 G1->∀i e,nt<=i->S[i]?=u7 (u7 e)->S1[i]?=u7 (u7 e)
def VV(nt:Nat)(g:JQ):Prop:=∀d S G S1 G1,g d S G=.ok S1 G1->∀i e,nt<=i->S[i]?=u7 (u7 e)->S1[i]?=u7 (u7 e)
def rY(h:i<nt):GK nt (gV i):=λd S G b f e j x k a=>by cases e;rw[zw (by lia)];exact a
theorem rZ:VV nt Bs:=λd S G b f e j x h a=>by
 cases d with
 |nil=>cases e;exact a
 |cons _ _=>cases e
theorem r8(l:GK nt t)(m:VV nt u):VV nt (Ak t u):=λd S G i h e j x k n=>by
 cases d with
 |nil=>cases e
 |cons a r=>
  have b:(t a S G).bind (λi h=>u r i h)=.ok i h:=e;cases f:t a S G with
  |ok p o=>rw[f]at b;exact m _ _ _ _ _ b j x k (l _ _ _ _ _ f j x k n)
  |_=>rw[f]at b;cases b
theorem r9(h:VV nt t):GK nt (Bp n t):=λd S G k f e j x a b=>by
 cases d with
 |tup i=>
  unfold Bp at e;dsimp only at e;split at e
  .exact h _ _ _ _ _ e j x a b
  cases e
 |_=>cases e
theorem rh(h:out E a (r.bind f) Q):
  Ec E a r (λi H=>PR3 a H r i UB λb S G=>out E b (f S G) Q):=by
 cases r with
 |ok d G=>exact λb v x s q=>⟨b,d,G,rfl,x,s,q,rfl,out.mono x h⟩
 |_=>exact h
def R.bind_assoc{b d e:Type}(r:R b)(f:b->DH->R d)(g:d->DH->R e):(r.bind f).bind g=r.bind λa G=>(f a G).bind g:=by cases r<;>rfl
theorem bO(h:out E a (r.bind f) Q):
  outI E a r (λJ H=>PR3 a H r J WE λb d G=>out E b (f d G) Q):=by
 cases r with
 |ok d G=>exact λb v x s q=>⟨b,d,G,rfl,x,s,q,rfl,out.mono x h⟩
 |_=>exact h
section
variable{prog:vq}{w:vA}{A:vV}{R':Result->vj->Prop}{s:vj}
def KQ(prog:vq)(w:vA)(A:vV)(target elt:vW)(ifs:List vW)(acc:vk)(env:Env)(P:vj->Prop)(v:vk)(s:vj):Prop:=
 wW (vR prog w) A (assign target env v) (λ_ s₂=>
  wW (vR prog w) A (forIn ifs u9 λc r=>if r=u9 then do let ok<-isTrue c env (eval c env);pure (ForInStep.yield ok)else pure (ForInStep.yield r)) (λok s₃=>
   if ok=u9 then wW (vR prog w) A (eval elt env) (λx s₄=>wW (vR prog w) A (call (.builtin "list.append") [acc,x]) (λ_ s₅=>P s₅) (λ_ _=>False) s₄) (λ_ _=>False) s₃
   else P s₃) (λ_ _=>False) s₂) (λ_ _=>False) s
def LQ(prog:vq)(w:vA)(A:vV)(target elt:vW)(ifs:List vW)(it acc:vk)(env:Env)(R' P:vj->Prop)(s:vj):Prop:=
 wW (vR prog w) A (pyNext it) (λr s₁=>match r with
  |none=>R' s₁
  |some v=>wW (vR prog w) A (vO target it v) (λ_ s₁=>KQ prog w A target elt ifs acc env P v s₁) (λ_ _=>False) s₁) (λ_ _=>False) s
theorem rj(I:Nat->vj->Prop)
  (i:∀n s,I n s->LQ prog w A target elt ifs it acc env (R' (.ok .next)) (λs'=>∃m,m<n/\I m s') s)
  (n:Nat) (h:I n s):
  codeAny (vR prog w) A (.compLoop (.ListComp elt [⟨target,iter,ifs,0⟩] scope pos) 0 it acc env) R' s:=by
 refine codeAny_loop rfl I (λn s u=>?_) n h
 show wW _ A ((compTurn (.ListComp elt [⟨target,iter,ifs,0⟩] scope pos) 0 it acc env).onRaise (λx=>do noteFrame x env;theTreesLotGoes x)) _ _ s
 refine wpAny_noted ?_;rw[compTurn_list];refine ww ?_ (λ_ _ q=>q) (λ_ _(f:False)=>f.elim);refine wq (wpAny_standAt (wq (ww (i n s u) (λr p a=>?_) λ_ _ b=>b)));cases r with
 |none=>exact w6 a
 | some v=>
  refine wq (ww a (λ_ k a=>?_) λ_ _ b=>b);refine wq (ww a (λ_ l j=>wq (ww j (λok s₃ h₃=>?_) λ_ _ b=>b)) λ_ _ b=>b);cases ok with
  |false=>exact w6 ⟨rfl,h₃⟩
  |true=>
   exact wq (wq (ww h₃ (λx o d=>wq (ww d (λ_ t e=>w6 (w6 ⟨rfl,e⟩)) λ_ _ b=>b)) λ_ _ b=>b))
end
def PN(X:Cx)(E:XK)(ifs:List vW)(t:DB):Prop:=
 ∀(wM:List (vX×Obj))(s:vj)(σ:St)(H:Hp)(Q:Bool->Hp->Prop),Inv X wM σ H s->lB X.K E t σ H Q->
  wW (vR X.prog X.w) X.A (forIn ifs u9 λc r=>if r=u9 then do let ok<-isTrue c X.env (eval c X.env);pure (ForInStep.yield ok)else pure (ForInStep.yield r)) (TP X wM σ Q) X.xe s
def bP:PN X E [] Aq:=λb s e H Q I h=>by obtain⟨a,S,G,hk,rfl,d,r,h⟩:=h;exact wpAny_tests_nil ⟨a.H,I,h a (.refl a) d⟩
def rk(d:QT X E c t):PN X E [c] t:=λa s b H Q I h=>wpAny_tests_one (d a s b H Q I h)
section
variable{X:Cx}{E:XK}{N:List Str}{scope:vz}{nt:Nat}{caps:List Nat}{tg elt iter:vW}{ifs:List vW}{pos:Pos}{it:DI}{g:DG}{c:DB}{te:DE}
theorem rq(r:UB a S σ):UB a (Bg nt caps S) (zQ nt u8++caps.map λj=>(σ[j]?).join):=by
 refine⟨by simp[Bg],λi d h=>?_⟩;unfold Bg at h;by_cases f:i<nt
 .rw[z9 (by simpa using f),qT]at h
  split at h<;>cases h
 rw[zM (by simpa using f),zj]at h;rw[zM (by simpa using f),zj];rw[jY]at h⊢;cases e:caps[i-nt]? with
 |none=>rw[e]at h;cases h
 | some j=>
  rw[e]at h;have b:(S[j]?).join=u7 d:=by simpa using h
  have l:S[j]?=u7 (u7 d):=by
   cases q:S[j]? with
   |none=>rw[q]at b;cases b
   |some o=>
    rw[q]at b;have k:o=u7 d:=b;rw[k]
  obtain⟨v,m,n⟩:=r.get j d l;exact⟨v,by simp[m],n⟩
def sA(h:(Bg nt caps S)[i]?=u7 (u7 d)):nt<=i:=by
 unfold Bg at h;by_cases a:i<nt
 .rw[z9 (by simpa using a),qT]at h
  split at h<;>cases h
 lia
def Yj(hc:X.calm=u9)(cs:JC X N t nt caps)
  (hg:∀C s₀ H₀ ex,QG (IG X N t C s₀ H₀ ex) E0 tg g) (gk:GK nt g) (XV:∀C s₀ H₀ ex,PN (IG X N t C s₀ H₀ ex) E0 ifs c) (he:∀C s₀ H₀ ex,QE (IG X N t C s₀ H₀ ex) E0 elt te)
  {wM:List (vX×Obj)} {σ:St} {s:vj} {a:Wd} {S:PB} {G:DH} {J:It} {n0:Nat} {f:Nat->DH->Option (Option D)} {i0:vX} {fp:List vX} {tn:Nat->Heap->Prop} (I:Inv X wM σ a.H s) (hk:a.K=X.K) (sm:YA a G) (rS:UB a S σ)
  (T:Turn X.prog X.w X.K tg J fp i0 tn) (t0:tn 0 s.heap) (hf:∀b∈fp,QD X wM a.H b) (rJ:WE a (.fn n0 f) J) {Q:VK}
  (h:out E0 a ((Dn f g c te (Bg nt caps S) n0 0 G).bind Ac) Q)
  {RR:vk->vX->Result->vj->Prop} {E':vk->vj->Prop}
  (YV:∀(D C:vX)(s':vj)(b:Wd)(vs:List V),Inv X wM σ (upd b.H D (.lst vs)) s'->b.H D=u8->s.heap.objs.size<=C->D≠C->(∃m,s'.heap.Ns C m)->b.H C=u8->Q (.ref D) (upd b.H D (.lst vs))->RR (.ref D) C (.ok .next) s'):
  wW (vR X.prog X.w) X.A (newList []) (λF s₃=>wW (vR X.prog X.w) X.A (newFunctionEnv t X.env.globals (Cz X.env t.names []) [] X.env.qual u8 .none (u7 X.env)) (λMM s₄=>
   codeAny (vR X.prog X.w) X.A (.compStart (.ListComp elt [⟨tg,iter,ifs,0⟩] t pos) 0 (.ref i0) F {MM with scope:=relabel t X.env}) (RR F MM.locals) s₄) E' s₃) E' s:=by
 refine wk (wpAny_newFunctionEnv cs.NH (by intro y hy;simp at hy) (λh₁ SJ W=>?_) cs.kind);dsimp only at SJ W⊢;generalize hH2:s.heap.push {cls:=.type "list",dict:=u8,data:=.seq ([]:List vk).toArray}=H2 at SJ W⊢;have hC:H2.objs.size=s.heap.objs.size+1:=by rw[<-hH2,jV]
 have ZV:s.heap.objs.size≠H2.objs.size:=by rw[hC];exact zN (qC _)
 have WR:s.heap.objs.size<=H2.objs.size:=hC▸jN _;have MQ:∀b∈fp,b<s.heap.objs.size:=λb hb=>by obtain⟨o,e,_⟩:=T.obj 0 _ t0 b hb;exact zA e
 have F':s.heap.objs.size∉fp:=λhm=>qA _ (MQ _ hm)
 have UX:H2.objs.size∉fp:=λhm=>by have:=MQ _ hm;rw[hC]at this;exact qA _ (Nat.lt_of_succ_lt this)
 have old:∀b o,s.heap.get? b=u7 o->h₁.get? b=u7 o:=λb o e=>
  W.extBut b o (by rw[hC];exact zN (xV (zA e))) (zX _ (hH2▸zX _ e))
 have XR:h₁.PlainList s.heap.objs.size ([]:List vk).toArray:=⟨_,W.extBut _ _ ZV (zX _ (hH2▸z3 _ rfl))⟩;generalize hCe:H2.objs.size=C at*;generalize hDe:s.heap.objs.size=M at*;let B:=IG X N t C s a.H fp;have J':=rX cs I hf (hDe▸WR) UX;let σ0:St:=.replicate nt u8++caps.map λj=>(σ[j]?).join
 have start:∀tk,Inv B [] σ0 a.H {s with heap:=h₁,toks:=tk}:=λtk=>by
  refine⟨J',rfl,I.bare,Un.kept old,⟨_,SJ,λi x v e1 e2 e3=>?_⟩,λx d' e=>?_,I.UA.fresh (hDe▸WR),λx d' e=>?_,λp hp=>?_,I.UA.kept old,?_⟩
  .have hi:nt<=i:=by
    by_cases hi:i<nt
    .have WO:=e2;rw[z9 (by simpa using hi),qT]at WO
     split at WO<;>cases WO
    lia
   have WO:=e2;rw[zM (by simpa using hi),zj,jY]at WO;cases ej:caps[i-nt]? with
   |none=>rw[ej]at WO;cases WO
   | some j=>
    rw[ej]at WO;have h1:(σ[j]?).join=u7 v:=by simpa using WO
    have h2:σ[j]?=u7 (u7 v):=by
     cases q:σ[j]? with
     |none=>rw[q]at h1;cases h1
     |some o=>
      rw[q]at h1;have L6:o=u7 v:=h1;rw[L6]
    obtain⟨y,ey,en,ek⟩:=cs.VR (i-nt) j ej;have exy:x=y:=by
     have:nt+(i-nt)=i:=by lia
     rw[this]at en;have e1':N[i]?=u7 x:=e1;rw[e1']at en;exact Option.some.inj en
    subst exy;have kx:=cs.free (x,.free) (zc ek) rfl;have vis:YS X.env.scope x:=by
     rcases kx with kx|kx
     .exact .inr (.inl kx)
     exact .inr (.inr kx)
    obtain⟨m,hn,hl⟩:=I.loc;obtain⟨u,ru,lk⟩:=hl j x v ey h2 vis;refine⟨u,ru,?_⟩;rcases lk with⟨k1,_⟩|⟨k1,c1,ec,GW⟩
    .rcases kx with kx|kx
     .rw[k1]at kx;cases kx
     rw[k1]at kx;cases kx
    refine .inr ⟨?_,c1,?_,?_⟩
    .show(relabel t X.env).names.lookup x=u7 .cell\/(relabel t X.env).names.lookup x=u7 .free;rw[bN,ek];simp only[Option.map_some];split
     .exact .inl rfl
     exact .inr rfl
    .obtain⟨d1,hd1⟩:=Mv (.inl (zc ek));obtain⟨d2,K'⟩:=Px hd1;have:=cs.cl I.ok K';rw[ec]at this;cases this;exact K'
    .obtain⟨o,e,dd⟩:=GW;exact⟨o,old _ _ e,dd⟩
  .obtain⟨v,o,e',dd⟩:=I.cell x d' (cs.cl I.ok e);exact⟨v,o,old _ _ e',dd⟩
  .exact I.Gj x d' (cs.cl I.ok e)
  .exact absurd hp (by simp[B,IG])
  show σ0.length=N.length;rw[cs.len];simp[σ0]
 have young:∀b∈fp,b≠C:=λb hb z=>UX (z▸hb)
 have M':∀{H':Hp}{ps:List (vX×Obj)},(∀b∈fp,H' b=u8)->(∀p∈ps,p.1∉fp)->∀b∈fp,QD B ps H' b:=λ{H' ps}hn hps b hb=>
  ⟨hn b hb,young b hb,J'.YK b hb,.inl hb,λx d' e=>(hf b hb).2.2.2.2.1 x d' (cs.cl I.ok e),λp hp z=>by exact hps p (by simpa[B,IG]using hp) (z▸hb)⟩
 have HW:M∉XI X.stack:=λz=>by
  rcases z0.mp (I.Pu M z)with z|z
  .have:=I.lt;rw[hDe,<-z]at this;exact qA _ this
  exact I.VL (hDe▸zv _) z
 have IL:∀{L:St}{H':Hp}{s':vj}{l:List vk}{nD:Nat},Inv B [] L H' s'->s'.heap.get? M=u7 {cls:=.type "list",data:=.seq l.toArray nD}->H' M=u8->Inv B [(M,{cls:=.type "list",data:=.seq l.toArray nD})] L H' s':=λ{L H' s' l nD}J e n=>
  J.Gi λp hp=>by
   have ep:p=(M,{cls:=.type "list",data:=.seq l.toArray nD}):=by simpa using hp
   subst ep;exact⟨e,n,ZV,HW,λv' z=>by cases z⟩
 have fin:∀(s':vj)(b:Wd)(L:St)(l:List vk)(U:List D)(G':DH),Inv B [] L b.H s'->Ext a b->YA b G'->s'.heap.PlainList M l.toArray->b.H M=u8->(∃vs,Vals vs l/\JA b U vs)->out E0 b (Ac U G') Q->RR (.ref M) C (.ok .next) s':=by
  intro s' b L l U G' IB x sb pl hD ⟨vs,hv,rv⟩ hq;have hz:U.length<=1000000:=by
   unfold Ac at hq;split at hq
   .assumption
   exact hq.elim
  obtain⟨n,eD⟩:=pl;have N':∀{q:vX}{o:Obj},s.heap.get? q=u7 o->q≠M:=λe z=>by rw[z,<-hDe]at e;exact absurd (zA e) (qA _)
  have Ia:Inv X wM σ (upd b.H M (.lst vs)) s':=by
   refine Zb (I.OU IB.os IB.base IB.UA IB.bare λb hb=>⟨(hf b hb).2.2.2.1,(hf b hb).2.1,(hf b hb).2.2.2.2.1,(hf b hb).2.2.2.2.2⟩) hD (by rw[<-hDe];exact I.sz) ?_ (λy c' ec=>?_) (λp hp=>?_) ⟨?_,l,n,hv,eD⟩
   .rw[<-hDe];exact jx I.lt
   .obtain⟨v,o,e,_⟩:=I.cell y c' ec;exact N' e
   .exact N' (I.pin p hp).1
   rw[<-rv.length];exact zG hz VB
  refine YV M C s' b vs Ia hD WR ZV (let⟨m,hn,_⟩:=IB.loc;⟨m,hn⟩) IB.free ?_;unfold Ac at hq;rw[if_pos hz]at hq;exact Jt sb rv hq M hD
 have IW:∀(P:vj->Prop)(rest:DH->R (List D))(s1:vj)(b:Wd)(G1:DH)(σ1:St)(l:List vk)(F:List D)(u:vk)(v:V)(x:D)(i:Nat),Inv B [] σ1 b.H s1->Ext a b->YA b G1->UB b (Bg nt caps S) σ1->tn i s1.heap->(∀q∈fp,b.H q=u8)->
   s1.heap.PlainList M l.toArray->b.H M=u8->(∃vs,Vals vs l/\JA b F vs)->RelV v u->NB b x v->
   out E0 b (((g x (Bg nt caps S) G1).bind λS1 G1=>(c S1 G1).bind λk G2=>if k=u9 then(te S1 G2).bind λd G3=>(rest G3).bind λU G4=>.ok (d::U) G4 else rest G2).bind λU G=>Ac (F++U) G) Q->
   (∀(s2:vj)(b2:Wd)(G2:DH)(Z:St)(JW:List vk)(KW:List D),Inv B [] Z b2.H s2->Ext a b2->YA b2 G2->UB b2 (Bg nt caps S) Z->tn i s2.heap->(∀q∈fp,b2.H q=u8)->
    s2.heap.PlainList M JW.toArray->b2.H M=u8->(∃vs,Vals vs JW/\JA b2 KW vs)->out E0 b2 ((rest G2).bind λU G=>Ac (KW++U) G) Q->P s2)->
   KQ X.prog X.w X.A tg elt ifs (.ref M) B.env P u s1:=by
  intro P rest s1 b G1 σ1 l F u v x i I1 x1 sb VX t1 VT pl hD NQ ru rx hq next
  rw[R.bind_assoc]at hq;obtain⟨nD,eD⟩:=id pl;let IL:List (vX×Obj):=[(M,{cls:=.type "list",data:=.seq l.toArray nD})];have OQ:∀{L:St}{H':Hp}{s':vj},Inv B (IL++Ln fp s1.heap) L H' s'->s'.heap.PlainList M l.toArray/\H' M=u8/\tn i s'.heap/\∀q∈fp,H' q=u8:=λ{L H' s'}J=>by
   have p1:=J.pin (M,{cls:=.type "list",data:=.seq l.toArray nD}) (zE _ (jz _ (by simp[IL])));refine⟨⟨nD,p1.1⟩,p1.2.1,T.keep _ _ _ t1 λq O o e=>(J.pin (q,o) (zE _ (zE _ (Tg O e)))).1,λq O=>?_⟩;obtain⟨o,e,_⟩:=T.obj _ _ t1 q O;exact(J.pin (q,o) (zE _ (zE _ (Tg O e)))).2.1
  have I2:Inv B (IL++Ln fp s1.heap) σ1 b.H s1:=I1.Gi λp hp=>by
   rcases qz.mp hp with hp|hp
   .have e:p=(M,{cls:=.type "list",data:=.seq l.toArray nD}):=by simpa[IL]using hp
    subst e;exact⟨eD,hD,ZV,λz=>(HW z),λv' z=>by cases z⟩
   obtain⟨hb,e⟩:=aJ hp;obtain⟨f0,f1,f2,_⟩:=M' (ps:=[]) VT (λp hp=>by cases hp) p.1 hb;obtain⟨o,e',dd⟩:=T.obj _ _ t1 p.1 hb;rw[e]at e';cases e';exact⟨e,f0,f1,f2,dd⟩
  refine GB (hg C s a.H fp _ s1 σ1 b.H v u _ I2 ru ⟨b,Bg nt caps S,G1,x,x1.k.trans hk,rfl,sb,VX,rx,(rh hq).imp λ_ _ z=>z⟩) ?_;rintro _ s2 ⟨Z,H2',J2,b2,S2,G2,rfl,y2,sb2,rS2,eg,hq2⟩;rw[R.bind_assoc]at hq2;have LW:UB b2 (Bg nt caps S) Z:=⟨by rw[VX.len,I1.len];exact J2.len.symm,λj e' hj=>rS2.get j e' (gk _ _ _ _ _ eg j e' (sA hj) hj)⟩
  refine GB (XV C s a.H fp _ s2 Z b2.H _ J2 ⟨b2,S2,G2,y2.k.trans (x1.k.trans hk),rfl,sb2,rS2,(Zv hq2).imp λ_ _ z=>z⟩) ?_;rintro k s3 ⟨H3,J3,b3,G3,rfl,y3,sb3,_,hq3⟩;cases k with
  |false=>
   obtain⟨p1,p2,p3,p4⟩:=OQ J3;obtain⟨vs,hv,rv⟩:=NQ
   exact next s3 b3 G3 Z l F (J3.Gi λp hp=>by cases hp) (x1.trans (y2.trans y3)) sb3 (LW.mono y3) p3 p4 p1 p2 ⟨vs,hv,(rv.mono y2).mono y3⟩ hq3
  | true=>
   have MW:out E0 b3 (((te S2 G3).bind λd G3=>(rest G3).bind λU G4=>.ok (d::U) G4).bind λU G=>Ac (F++U) G) Q:=hq3;rw[R.bind_assoc]at MW;refine GB (he C s a.H fp _ s3 Z b3.H _ J3 ⟨b3,S2,G3,y3.k.trans (y2.k.trans (x1.k.trans hk)),rfl,sb3,rS2.mono y3,(Eo MW).imp λ_ _ z=>z⟩) ?_;rintro w s4 ⟨vw,H4,J4,OR,b4,d4,G4,rfl,y4,sb4,q4,_,hq4⟩;obtain⟨p1,p2,p3,p4⟩:=OQ J4;rw[R.bind_assoc]at hq4;have Y:out E0 b4 ((rest G4).bind λU G=>Ac ((F++[d4])++U) G) Q:=by
    have e:(λ(U:List D)(G:DH)=>(R.ok (d4::U) G).bind λU G=>Ac (F++U) G)=λU G=>Ac ((F++[d4])++U) G:=by funext U G;simp
    rw[<-e];exact hq4
   obtain⟨vs,hv,rv⟩:=NQ;have hsz:l.toArray.size<=sizeLine:=by
    have:F.length<=1000000:=by
     cases hr:rest G4 with
     |ok U G5=>
      rw[hr]at Y;have P6:out E0 b4 (Ac ((F++[d4])++U) G5) Q:=Y;unfold Ac at P6;split at P6
      .rename_i hl;simp at hl;lia
      exact P6.elim
     |err e' G5=>rw[hr]at Y;exact(Y.1 rfl).elim
     |bad=>rw[hr]at Y;exact Y.elim
    rw[zy,<-hv.length,<-rv.length];exact zG this VB
   refine wpAny_list_append_plain p1 (λh' hpl O'=>?_) hsz;have J5:Inv B [] Z b4.H {s4 with heap:=h'}:=by refine(J4.Gi λp hp=>by cases hp).turned (λq o O e=>(O'.2 q O).trans e) p2 ZV (.inr (by show s.heap.objs.size<=M;rw[hDe];exact zv _)) (λy c' ec=>?_) (λp hp=>absurd hp (by simp[B,IG]));obtain⟨v',o,e,_⟩:=I.cell y c' (cs.cl I.ok ec);intro z;rw[z,<-hDe]at e;exact absurd (zA e) (qA _)
   refine next _ b4 G4 Z (l++[w]) (F++[d4]) J5 (x1.trans (y2.trans (y3.trans y4))) sb4 ((LW.mono y3).mono y4) (T.keep _ _ _ p3 λq O o e=>(O'.2 q (λz=>F' (z▸O))).trans e) p4 (by simpa using hpl) p2 ⟨vs++[vw],hv.append (.cons OR .nil),(((rv.mono y2).mono y3).mono y4).append (.cons q4 JA.nil)⟩ Y
 have loop:∀s₃:vj,s₃={s with heap:=h₁,toks:=s.toks+([]:List (Str×vk)).length}->
   codeAny (vR X.prog X.w) X.A (.compLoop (.ListComp elt [⟨tg,iter,ifs,0⟩] t pos) 0 (.ref i0) (.ref M) B.env) (RR (.ref M) C) s₃:=by
  rintro s₃ rfl;have walk:=rJ;obtain⟨Iv,L7⟩:∃Iv:Nat->vj->Prop,∀m s',Iv m s'↔∃(i:Nat)(b:Wd)(G':DH)(L:St)(l:List vk)(F:List D),Inv B [] L b.H s'/\Ext a b/\YA b G'/\UB b (Bg nt caps S) L/\tn i s'.heap/\(∀q∈fp,b.H q=u8)/\s'.heap.PlainList M l.toArray/\b.H M=u8/\(∃vs,Vals vs l/\JA b F vs)/\out E0 b ((Dn f g c te (Bg nt caps S) m i G').bind λU G=>Ac (F++U) G) Q:=⟨_,λ_ _=>Iff.rfl⟩;refine rj Iv (λm s' h'=>?_) n0 ((L7 _ _).2 ⟨0,a,G,σ0,[],[],start _,Ext.refl a,sm,rq rS,T.keep _ _ _ t0 λq _ o e=>old q o e,λq hq=>(hf q hq).1,XR,I.UA.fresh (hDe▸zv _),⟨[],.nil,rfl⟩,by simpa using h⟩)
  obtain⟨i,b,G',L,l,F,IB,x,sb,VX,ti,VT,pl,hD,P',hq⟩:=(L7 _ _).1 h';clear h';obtain⟨nD,eD⟩:=pl;have I0:=IL IB eD hD;have f0:=M' (ps:=[(M,{cls:=.type "list",data:=.seq l.toArray nD})]) VT (λp hp=>by
   have ep:p=(M,{cls:=.type "list",data:=.seq l.toArray nD}):=by simpa using hp
   subst ep;exact F')
  have stop:J.stop i b.H->out E0 b (Ac F G') Q->∀P,LQ X.prog X.w X.A tg elt ifs (.ref i0) (.ref M) B.env (RR (.ref M) C (.ok .next)) P s':=by intro st O P;refine GB (T.done B rfl rfl rfl hc i _ s' L b.H _ I0 f0 ti st) ?_;rintro r s1 ⟨rfl,I2⟩;have pD:=(I2.pin (M,{cls:=.type "list",data:=.seq l.toArray nD}) (zE _ (by simp))).1;exact fin s1 b L l F G' (I2.Gi λp hp=>by cases hp) x sb ⟨nD,pD⟩ hD P' O
  cases m with
  |zero=>
   unfold Dn at hq;split at hq
   .rename_i hf;exact stop ((walk b x G' sb i).2 hf) (by have O:out E0 b (Ac (F++[]) G') Q:=hq;rw[qX]at O;exact O) _
   exact hq.elim
  | succ m=>
   unfold Dn at hq;split at hq
   .rename_i d1 hf;obtain⟨go,yl⟩:=(walk b x G' sb i).1 d1 hf;refine GB (T.item B rfl rfl rfl hc i _ s' L b.H _ I0 f0 ti go) ?_;rintro r s1 ⟨u,rfl,hgo⟩;refine GB hgo ?_;rintro _ s2 ⟨v,H',I2,ru,y,t2,hfp2⟩;obtain⟨cc,rfl,xx,ss,rd⟩:=yl v H' y;have pD:=I2.pin (M,{cls:=.type "list",data:=.seq l.toArray nD}) (zE _ (by simp));obtain⟨vs1,P7,SV⟩:=P';refine IW _ (λG3=>Dn f g c te (Bg nt caps S) m (i+1) G3) s2 cc G' L l F u _ d1 (i+1) (I2.Gi λp hp=>by cases hp) (x.trans xx) ss (VX.mono xx) t2 hfp2 ⟨nD,pD.1⟩ pD.2.1 ⟨vs1,P7,SV.mono xx⟩ ru rd (out.mono xx hq) ?_
    intro s3 b3 G3 σ3 L8 P8 a1 a2 a3 a4 a5 a6 a7 a8 a9 a10;exact⟨m,qC _,(L7 _ _).2 ⟨i+1,b3,G3,σ3,L8,P8,a1,a2,a3,a4,a5,a6,a7,a8,a9,a10⟩⟩
   .rename_i hf;exact stop ((walk b x G' sb i).2 hf) (by have O:out E0 b (Ac (F++[]) G') Q:=hq;rw[qX]at O;exact O) _
   exact hq.elim
 exact codeAny_compStart_list (loop _ rfl) (T.self _ 0 _ _ _ (T.keep _ _ _ t0 λq _ o e=>old q o e) (loop _ rfl))
theorem Xz{g:DG}{c:DB}{b:DE}{S:PB}{xs:List D}:∀(n j:Nat)(G:DH),j+n=lN xs->Bl g c b S (xs.drop j) G=Dn (λj _=>u7 xs[j]?) g c b S n j G
 |0,j,G,h=>by
  rw[qE (by lia)]
  show _=(match u7 xs[j]? with |some u8=>R.ok [] G|_=>.bad)
  rw[zC (by lia)]
  rfl
 |n+1,j,G,h=>by
  have a:j<lN xs:=by lia
  rw[zO a]
  show(g xs[j] S G).bind _=(match u7 xs[j]? with |some (u7 x)=>_|some u8=>R.ok [] G|none=>.bad)
  rw[zJ a];dsimp only
  congr 1
  funext l i
  congr 1
  funext k f;rw[Xz n (j+1) f (by lia)]
  congr 1
  congr 1
  funext d e;rw[Xz n (j+1) e (by lia)]
theorem bR{g:DG}{c:DB}{a:DE}:∀(n j:Nat)(G:DH),Es i g c a S n j G=Dn (VO i) g c a S n j G
 | 0,j,G=>by
  unfold Es Dn VO;cases G[i]? with
  |none=>rfl
  | some o=>
   cases o with
   |lst b=>
    dsimp only;by_cases d:j<lN b
    .rw[if_neg (by lia),zJ d]
    rw[if_pos (by lia),zC (by lia)]
   |_=>rfl
 | n+1,j,G=>by
  have e:(Es i g c a S n (j+1))=Dn (VO i) g c a S n (j+1):=funext λG=>bR n (j+1) G
  unfold Es Dn;rw[e];unfold VO;cases G[i]? with
  |none=>rfl
  | some o=>
   cases o with
   |lst b=>
    dsimp only
    cases b[j]?<;>rfl
   |_=>rfl
theorem bS(hc:X.calm=u9)(cs:JC X N scope nt caps)
  (hg:∀C s₀ H₀ ex,QG (IG X N scope C s₀ H₀ ex) E0 tg g) (gk:GK nt g) (XV:∀C s₀ H₀ ex,PN (IG X N scope C s₀ H₀ ex) E0 ifs c) (he:∀C s₀ H₀ ex,QE (IG X N scope C s₀ H₀ ex) E0 elt te)
  {wM:List (vX×Obj)} {σ:St} {s:vj} {a:Wd} {S:PB} {G:DH} {J:It} {d:KM} {i0:vX} {fp:List vX} {tn:Nat->Heap->Prop} (I:Inv X wM σ a.H s) (hk:a.K=X.K) (sm:YA a G) (rS:UB a S σ)
  (T:Turn X.prog X.w X.K tg J fp i0 tn) (t0:tn 0 s.heap) (hf:∀b∈fp,QD X wM a.H b) (rJ:WE a d J) {Q:VK}
  (h:out E0 a ((match d with
   |.pure xs=>Bl g c te (Bg nt caps S) xs G
   |.mt i=>match G[i]? with
    |some (.lst xs)=>Es i g c te (Bg nt caps S) (lN xs) 0 G
    |_=>.bad
   |.fn n f=>Dn f g c te (Bg nt caps S) n 0 G).bind Ac) Q)
  {RR:vk->vX->Result->vj->Prop} {E':vk->vj->Prop}
  (YV:∀(D C:vX)(s':vj)(b:Wd)(vs:List V),Inv X wM σ (upd b.H D (.lst vs)) s'->b.H D=u8->s.heap.objs.size<=C->D≠C->(∃m,s'.heap.Ns C m)->b.H C=u8->Q (.ref D) (upd b.H D (.lst vs))->RR (.ref D) C (.ok .next) s'):
  wW (vR X.prog X.w) X.A (newList []) (λacc s₃=>wW (vR X.prog X.w) X.A (newFunctionEnv scope X.env.globals (Cz X.env scope.names []) [] X.env.qual u8 .none (u7 X.env)) (λMM s₄=>
   codeAny (vR X.prog X.w) X.A (.compStart (.ListComp elt [⟨tg,iter,ifs,0⟩] scope pos) 0 (.ref i0) acc {MM with scope:=relabel scope X.env}) (RR acc MM.locals) s₄) E' s₃) E' s:=by
 cases d with
 |pure xs=>
  have h':out E0 a ((Bl g c te (Bg nt caps S) (xs.drop 0) G).bind Ac) Q:=h;rw[Xz (lN xs) 0 G (by lia)]at h';exact Yj hc cs hg gk XV he I hk sm rS T t0 hf (bC rJ) h' YV
 |mt k=>
  dsimp only at h;split at h
  .rename_i xs hx;rw[bR]at h;exact Yj hc cs hg gk XV he I hk sm rS T t0 hf (bD rJ) h YV
  exact h.elim
 |fn n0 f=>exact Yj hc cs hg gk XV he I hk sm rS T t0 hf rJ h YV
end
section
variable{X:Cx}{N:List Str}{scope:vz}{nt:Nat}{caps:List Nat}{tg elt iter:vW}{ifs:List vW}{pos:Pos}{it:DI}{g:DG}{c:DB}{te:DE}
def letGo{wM:List (vX×Obj)}{l:St}{H:Hp}{j s':vj}{h':Heap}{C:vX}{t':Nat}{i:St}{t:Hp}(f:Inv X wM i t j)(u:Inv X wM l H s')(h:j.heap.objs.size<=C)(n:H C=u8)(k:jX C s'.heap h'):Inv X wM l H {s' with heap:=h',toks:=t'}:=by
 have a:∀{b:vX}{o:Obj},j.heap.get? b=u7 o->b≠C:=λe z=>by rw[z]at e;exact absurd (zx (zA e) h) (qA _)
 refine u.turned (λb o r e=>(k.2 b r).trans e) n (jx (zx f.lt h)) (.inr (zG f.sz h)) (λx s e=>?_) λp hp=>(a (f.pin p hp).1)
 .obtain⟨v,o,q,_⟩:=f.cell x s e;exact a q
def sD(L:X.calm=u9)(cs:JC X N scope nt caps)(U:QI X E0 tg iter it)
  (F:∀C e f i,QG (IG X N scope C e f i) E0 tg g) (A:GK nt g) (n:∀C e f i,PN (IG X N scope C e f i) E0 ifs c) (M:∀C e f i,QE (IG X N scope C e f i) E0 elt te)
  (K:∀x,foldedSetIterable iter X.env x=pure x:=by intro _;rfl):QE X E0 (.ListComp elt [⟨tg,iter,ifs,0⟩] scope pos) (Bv it nt caps g c te):=by
 intro j s O H Q I h;obtain⟨a,S,G,hk,rfl,Y,r,h⟩:=h;rw[eval_ListComp];refine wpAny_comprehension_free rfl K (Xu (cs.cells I.ok)) cs.kind cs.names (GB (U j s O a.H _ I ⟨a,S,G,hk,rfl,Y,r,(bO h).imp λ_ _ z=>z⟩) λxv s1 o=>GB o λw s2 y=>?_);obtain⟨i0,fp,tn,J,H2,rfl,u,T,P,B,b,d,G1,rfl,x,W,Z,_,o⟩:=y;refine bS L cs F A n M u (x.k.trans hk) W (r.mono x) T P B Z o ?_;intro D C s' b vs Ia hD l p ⟨m,v⟩ t E
 refine⟨m,v,λh' q=>⟨.ref D,_,letGo u Ia l ?_ q,rfl,E⟩⟩;rw[Ah (.symm p)];exact t
def bT(i:Nat){y:Str}{U n:Pos}(hc:X.calm=u9)(hN:X.N.Nodup)(cs:JC X N scope nt caps)(hi:QI X E0 tg iter it)
  (hg:∀C f j t,QG (IG X N scope C f j t) E0 tg g) (gk:GK nt g) (A:∀C f j t,PN (IG X N scope C f j t) E0 ifs c) (he:∀C f j t,QE (IG X N scope C f j t) E0 elt te)
  (hy:X.N[i]?=u7 y:=by rfl) (hx:Loc X.env.scope y:=by first|exact Or.inl rfl|exact Or.inr rfl) (hf:X.fn y=u9\/X.env.scope.names.lookup y=u7 .local:=by first|exact .inl rfl|exact .inr rfl|assumption)
  (Q:swapsWith (.ListComp elt [⟨tg,iter,ifs,0⟩] scope pos) (u7 (.Name y U)) n.line X.env=pure u9:=by rfl)
  (hs:∀x,foldedSetIterable iter X.env x=pure x:=by intro _;rfl):QS X E0 (.Assign [.Name y U] (.ListComp elt [⟨tg,iter,ifs,0⟩] scope pos) n) (LC (Bv it nt caps g c te) (gV i)):=by
 intro u s σ H W I h;obtain⟨a,S,G,hk,rfl,sm,r,h⟩:=h;have h0:=Hc h;rw[exec_Assign_Name_used _ _ _ _ Q];refine wq (wpAny_standAt (wq ?_));refine wq (ww (wpAny_comprehension_free rfl hs (Xu (cs.cells I.ok)) cs.kind cs.names
  (GB (hi u s σ a.H _ I ⟨a,S,G,hk,rfl,sm,r,(bO h0).imp λ_ _ z=>z⟩) λxv s1 F=>GB F λG0 s2 h2=>?_)) (λ_ s' K=>w6 (w6 K)) λ_ _ e=>e)
 obtain⟨i0,fp,tn,J,H2,rfl,w,T,t0,f2,b,d,G1,rfl,x,sb,rJ,_,F⟩:=h2;refine bS hc cs hg gk A he w (x.k.trans hk) sb (r.mono x) T t0 f2 rJ F ?_;intro D C s' b' vs Ia hD l M ⟨m,Z⟩ P K;refine wpAny_assign_Name (aD Ia hN hy hx (v:=.ref D) rfl (λNT B E=>?_) hf);obtain⟨a',q,p⟩:=E;have L:C≠a':=by
  rintro rfl;rcases p with rfl|p
  .exact absurd (zx w.lt l) (qA _)
  obtain⟨v,o,e',_⟩:=w.cell _ _ p;exact absurd (zx (zA e') l) (qA _)
 refine⟨m,Z.sameBut q L,λh' O=>⟨_,_,letGo w B l ?_ O,?_⟩⟩
 .rw[Ah (.symm M)];exact P
 obtain⟨Y,d3,G3,e3,x3,s3,q3,_,h3⟩:=K;rw[<-e3];exact h3 Y _ (.refl Y) s3 ((r.mono x3).set i q3)
end
def Gy:D->DH->R D
 |.int i,G=>.ok (.int (-i)) G
 |_,_=>.bad
noncomputable def Dh:D->Bool
 |.LA=>u9
 |_=>uA
def Hq:D->D->DH->R D
 |d,.LA,G=>.ok (.bl (Dh d)) G
 |_,_,_=>.bad
def Jb:D->D->DH->R D
 |d,.LA,G=>.ok (.bl (!Dh d)) G
 |_,_,_=>.bad
noncomputable def Km:D->Option V
 |.LA=>u7 .LA
 |.bl b=>u7 (.bl b)
 |.int i=>u7 (.int i)
 |.str x=>u7 (.str x)
 |_=>u8
def I8:List D->Option (List V)
 |[]=>u7 []
 |d::r=>match Km d,I8 r with
  |some v,u7 vs=>u7 (v::vs)
  |_,_=>u8
def inD(d e:D)(G:DH):Option Bool:=match e with
 |.str j=>match d with
  |.str i=>u7 (!(ji j i 0 j.length 1).isEmpty)
  |_=>u8
 |e=>match Bm e G,Km d with
  |some xs,u7 v=>(I8 xs).map λvs=>LN v vs
  |_,_=>u8
def Ip(d e:D)(G:DH):R D:=match inD d e G with
 |some k=>.ok (.bl (!k)) G
 |none=>.bad
section
variable{X:Cx}{E:XK}{a b:vW}{ta tb:DE}{pos:Pos}
theorem sE:JT X (unaryOp .USub) (A' X.K E Gy):=λc s f H x v Q I g h=>by
 obtain⟨a,G,d,hk,rfl,j,e,q⟩:=h;cases d with
 |int i=>exact mB c s f a.H x v Q I g ⟨i,e,q a _ (.refl a) j rfl⟩
 |_=>exact q.elim
def sF(ho:JT X (unaryOp op) (A' X.K E f))(g:QE X E a ta):QE X E (.UnaryOp op a pos) (JM f ta):=(li ho g).mono λj H Q h=>by obtain⟨a,S,G,hk,rfl,s,r,h⟩:=h;refine⟨a,S,G,hk,rfl,s,r,(Eo h).imp ?_⟩;rintro v _ ⟨b,d,c,rfl,x,i,q,-,e⟩;exact⟨b,c,d,x.k.trans hk,rfl,i,q,e⟩
def sG(d:Gl X x)(f:X.mg x=u8)(e:vH x=u7 (.type n))(c:x≠"__name__":=by decide)(g:(x==("__debug__":Str))=uA:=by decide):QE X E (.Name x pos) (dC (.ty n)):=
 (kc (v:=.ty n) d f e rfl c g).mono λi H Q h=>Mq h λ_ _=>rfl
theorem bU{a:Wd}(c:NB a d x):decide (x=V.LA)=Dh d:=by
 cases d with
 |tup _|fl _=>obtain⟨p,e,rfl,_⟩:=c;rfl
 |ref _=>rw[c.2];rfl
 |_=>rw[c];rfl
theorem L9:GC X (vL .Is) (ZE X.K E Hq):=Fo mI λa G d e x y Q hk s c f q=>by
 cases e with
 |LA=>exact⟨f,by rw[bU c];cases d<;>exact q a _ (.refl a) s rfl⟩
 |_=>cases d<;>exact q.elim
theorem sH:GC X (vL .IsNot) (ZE X.K E Jb):=Fo mJ λa G d e x y Q hk s c f q=>by
 cases e with
 |LA=>exact⟨f,by rw[bU c];cases d<;>exact q a _ (.refl a) s rfl⟩
 |_=>cases d<;>exact q.elim
def bV{a:Wd}(r:NB a d x)(h:Km d=u7 v):x=v/\Dw v=u9:=by
 cases d<;>first
  |(cases h;exact⟨r,rfl⟩)
  |cases h
theorem bW{a:Wd}:∀{c:List D}{xs vs:List V},JA a c xs->I8 c=u7 vs->xs=vs/\vs.all Dw=u9
 |[],xs,vs,r,h=>by cases h;exact⟨r,rfl⟩
 |d::c,xs,vs,r,h=>by
  obtain⟨x,o,rfl,i,j⟩:=r;unfold I8 at h;split at h
  .rename_i v n e g;cases h;obtain⟨f,k⟩:=bV i e;obtain⟨l,m⟩:=bW j g;subst f;subst l;exact⟨rfl,by rw[jE,k,m];rfl⟩
  cases h
theorem sI{a:Wd}(s:YA a G)(c:NB a d x)(f:NB a e y)(h:inD d e G=u7 k):
  (∃i j,x=.str i/\y=.str j/\k= !(ji j i 0 j.length 1).isEmpty)\/(∃p xs,y=.ref p/\(ME a.K a.H p xs\/UE a.K a.H p xs)/\Dw x=u9/\xs.all Dw=u9/\k=LN x xs):=by
 have seq:(match Bm e G,Km d with |some xs,u7 v=>(I8 xs).map λt=>LN v t|_,_=>u8)=u7 k->(∃p xs,y=.ref p/\(ME a.K a.H p xs\/UE a.K a.H p xs)/\Dw x=u9/\xs.all Dw=u9/\k=LN x xs):=λh=>by
  split at h
  .rename_i xs v l n;obtain⟨p,g,m,q,r⟩:=Jz s f l;obtain⟨A,B⟩:=bV c n;subst A;rw[qJ]at h;obtain⟨C,u,w⟩:=h;obtain⟨o,z⟩:=bW r u;subst o;exact⟨p,g,m,q,B,z,w.symm⟩
  cases h
 cases e with
 |str j=>
  cases d with
  |str i=>exact .inl ⟨i,j,c,f,(Option.some.inj h).symm⟩
  |_=>cases h
 |tup xs|fl xs|ref i|_=>exact .inr (seq h)
def bX:GC X (vL .NotIn) (ZE X.K E Ip):=Fo (mL.or nh) λa G d e x y Q hk s f l q=>by
 unfold Ip at q;split at q
 .rename_i k h;have z:=q a _ (.refl a) s rfl;rcases sI s f l h with⟨i,j,c,o,rfl⟩|⟨p,n,c,g,m,r,rfl⟩
  .exact .inl ⟨i,j,c,o,z⟩
  exact .inr ⟨p,n,c,by rw[<-hk];exact g,m,r,z⟩
 exact q.elim
end
def sJ:vH "isinstance"=u7 (.builtin "isinstance"):=by decide +kernel
def sM:vH "all"=u7 (.builtin "all"):=by decide +kernel
def sO:vH "sum"=u7 (.builtin "sum"):=by decide +kernel
def sP:vH "max"=u7 (.builtin "max"):=by decide +kernel
def sQ:vH "min"=u7 (.builtin "min"):=by decide +kernel
def sR:vH "len"=u7 (.builtin "len"):=by decide +kernel
def sS:vH "int"=u7 (.type "int"):=by decide +kernel
def sT:vH "bool"=u7 (.type "bool"):=by decide +kernel
def sU:vH "tuple"=u7 (.type "tuple"):=by decide +kernel
def sV:vH "list"=u7 (.type "list"):=by decide +kernel
noncomputable def M6:vY->Bool | .local=>u9|_=>uA
noncomputable def Lk:vY->Bool | .cell=>u9|_=>uA
noncomputable def Mm:vY->Bool | .free=>u9|_=>uA
noncomputable def QN(p:vY->Bool):Option vY->Bool|some k=>p k|none=>uA
def sW(h:M6 k=u9):k=.local:=by cases k<;>first|rfl|cases h
def sX(h:Lk k=u9):k=.cell:=by cases k<;>first|rfl|cases h
def bY(h:Mm k=u9):k=.free:=by cases k<;>first|rfl|cases h
theorem Uh(hp:∀a,p a=u9->a=k)(h:QN p o=u9):o=u7 k:=by
 cases o with
 |none=>cases h
 |some a=>rw[hp _ h]
def Tq(dn:List (Str×vY))(N0 N:List Str)(names:List (Str×vY))(nt:Nat)(caps:List Nat):Bool:=
 names.all (λy=>(!M6 y.2||QN M6 (names.lookup y.1)) && !Lk y.2&&(!Mm y.2||QN Lk (dn.lookup y.1)||QN Mm (dn.lookup y.1)))&&decide N.Nodup&&decide (lN N=nt+lN caps) &&
 (zW (lN caps)).all λk=>match caps[k]? with
  |some j=>match N0[j]? with
   |some x=>decide (N[nt+k]?=u7 x)&&QN Mm (names.lookup x)
   |none=>uA
  |none=>u9
theorem T6{X:Cx}{N0 N:List Str}{a:vz}{nt:Nat}{caps:List Nat}{dn:List (Str×vY)}(hk:a.kind=.function:=by rfl)(f:∀x,X.env.kindOf x=dn.lookup x:=by intro _;rfl)(m:X.N=N0:=by rfl)
  (h:Tq dn N0 N a.names nt caps=u9:=by decide +kernel):JC X N a nt caps:=by
 unfold Tq at h;rw[zP,zP,zP]at h;obtain⟨⟨⟨g,n⟩,o⟩,l⟩:=h;rw[xY]at g l;have b:=λ(y:Str×vY)(c:y∈a.names)=>(by have:=g y c;rw[zP,zP]at this;exact this:((!M6 y.2||QN M6 (a.names.lookup y.1))=u9/\(!Lk y.2)=u9)/\(!Mm y.2||QN Lk (dn.lookup y.1)||QN Mm (dn.lookup y.1))=u9)
 refine⟨hk,λy c d=>?_,λy c d=>?_,λy c d=>?_,of_decide_eq_true n,of_decide_eq_true o,λk j i=>?_⟩
 .have:=(b y c).1.1;rw[d]at this;exact Uh (λ_ h=>sW h) (by have t:(uA||QN M6 (a.names.lookup y.1))=u9:=this;simpa using t)
 .have:=(b y c).1.2;rw[d]at this;exact absurd this (by decide)
 .have:=(b y c).2;rw[d,xj]at this;rw[f];rcases this with h|h
  .exact .inl (Uh (λ_ h=>sX h) (by have t:(uA||QN Lk (dn.lookup y.1))=u9:=h;simpa using t))
  exact .inr (Uh (λ_ h=>bY h) h)
 have:=l k (qW.mpr ((zZ.mp i).1));rw[i]at this;dsimp only at this;cases e:N0[j]? with
 |none=>rw[e]at this;cases this
 |some x=>
  rw[e]at this;dsimp only at this;rw[zP]at this;exact⟨x,m▸e,of_decide_eq_true this.1,Uh (λ_ h=>bY h) this.2⟩
section
section
variable{X:Cx}{wM:List (vX×Obj)}{σ:St}{H:Hp}{s:vj}
def sY(I:Inv X wM σ H s)(h:H p=u7 (.lst xs)):∃o,Inv X wM σ (upd H p (.XC o (.lst xs))) s:=by
 obtain⟨j,a,n,r,e⟩:=I.UA p _ h;have f:∀b(u:HO),H b=u7 u->u≠ .lst xs->b≠p:=λb u q d z=>by subst z;rw[h]at q;exact d (Option.some.inj q).symm
 refine⟨_,I.un (H':=upd H p (.XC {cls:=.type "list",data:=.seq a.toArray n} (.lst xs))) ⟨λb o q _ _ _=>q,λb o q _ _ _=>⟨o.slots,q⟩,λb o q z _=>?_,λb o q _=>⟨o,q⟩,λb i q=>?_,λb o u q=>?_,λb l q=>⟨#[],?_⟩⟩ ?_⟩
 .rw[Ah (λk=>by subst k;rw[h]at z;cases z)];exact z
 .rw[Ah (f b _ q (by intro z;cases z))];exact q
 .rw[Ah (f b _ q (by intro z;cases z))];exact q
 .rw[Ah (f b _ q (by intro z;cases z)),Array.append_empty];exact q
 intro b u q;by_cases g:b=p
 .subst g;rw[Dp]at q;cases q;exact⟨e,j,a,n,r,e⟩
 .rw[Ah g]at q;exact(I.UA b u q).ZF (λc v _ z=>z) (λc z=>by rw[Ah (f c _ z (by intro z;cases z))];exact z) λc i z=>by rw[Ah (f c _ z (by intro z;cases z))];exact z
def Fz(P:vX->Prop)(H H':Hp):Prop:=∀p,(H' p=H p/\(∀vs,H p=u7 (.lst vs)->¬P p))\/∃o vs,P p/\H p=u7 (.lst vs)/\H' p=u7 (.XC o (.lst vs))
theorem bZ(I:Inv X wM σ H s)(m:Nat->vX)(n:Nat):∀k:Nat,∃H',Inv X wM σ H' s/\Fz (λp=>∃i,n<=i/\i<n+k/\p=m i) H H'
 |0=>⟨H,I,λp=>.inl ⟨rfl,λ_ _ ⟨i,g,l,_⟩=>by lia⟩⟩
 | k + 1=>by
  obtain⟨H',r,F⟩:=bZ I m n k;have f:(∀a,H' (m (n+k))≠u7 (.lst a))->Fz (λp=>∃i,n<=i/\i<n+(k+1)/\p=m i) H H':=λw p=>by
   rcases F p with⟨e,z⟩|⟨o,a,⟨i,g,l,d⟩,b,h⟩
   .refine .inl ⟨e,λa b ⟨i,g,l,d⟩=>?_⟩;by_cases q:i<n+k
    .exact z a b ⟨i,g,q,d⟩
    have:i=n+k:=by lia
    subst this;subst d;exact w a (e.trans b)
   exact .inr ⟨o,a,⟨i,g,by lia,d⟩,b,h⟩
  cases j:H' (m (n+k))with
  |none=>exact⟨H',r,f λa z=>by rw[j]at z;cases z⟩
  | some u=>
   cases u with
   | lst a=>
    obtain⟨o,v⟩:=sY r j;refine⟨_,v,λp=>?_⟩;by_cases hp:p=m (n+k)
    .subst hp;rcases F (m (n+k))with⟨e,z⟩|⟨t,c,_,b,h⟩
     .exact .inr ⟨o,a,⟨n+k,by lia,by lia,rfl⟩,e.symm.trans j,Dp⟩
     rw[j]at h;cases h
    rcases F p with⟨e,z⟩|⟨t,c,⟨i,g,l,d⟩,b,h⟩
    .refine .inl ⟨(Ah hp)▸e,λc b ⟨i,g,l,d⟩=>?_⟩;by_cases q:i<n+k
     .exact z c b ⟨i,g,q,d⟩
     .have:i=n+k:=by lia
      subst this;exact hp d
    exact .inr ⟨t,c,⟨i,g,by lia,d⟩,b,(Ah hp)▸h⟩
   |_=>exact⟨H',r,f λa z=>by rw[j]at z;cases z⟩
end
noncomputable def Jo(f:D->Option D):List D->Option (List D)
 |[]=>u7 []
 |d::r=>match f d,Jo f r with
  |some d',u7 r'=>u7 (d'::r')
  |_,_=>u8
def G7(G:DH)(n:Nat):Nat->D->Option D
 |0,_=>u8
 | k+1,d=>if TB n d=u9 then u7 d else match d with
  |.ref i=>match G[i]? with
   |some (.lst xs)=>(Jo (G7 G n k) xs).map .fl
   |_=>u8
  |.tup xs=>(Jo (G7 G n k) xs).map .tup
  |.fl xs=>(Jo (G7 G n k) xs).map .fl
  |_=>u8
open Classical in
def freeze(G:DH)(r:R D):R D:=match r with
 | .ok d G'=>if G'.take (lN G)=G then(match G7 G' (lN G) 9 d with
   |some d'=>.ok d' G
   |none=>.ok d G')else .ok d G'
 |r=>r
def Ag(t:DE):DE:=λS G=>freeze G (t S G)
structure OH (b c:Wd) (n:Nat):Prop where
 k:c.K=b.K
 n:c.n=n
 m:c.m=b.m
 tup:∀p xs,b.H p=u7 (.tup xs)->c.H p=u7 (.tup xs)
 XC:∀p o u,b.H p=u7 (.XC o u)->c.H p=u7 (.XC o u)
def OH.HQ{b c:Wd}{n:Nat}(x:OH b c n){p:vX}{xs:List V}(h:UE b.K b.H p xs):UE c.K c.H p xs:=by
 rcases h with(h|⟨o,h⟩)|h
 .exact .inl (.inl (x.tup _ _ h))
 .exact .inl (.inr ⟨o,x.XC _ _ _ h⟩)
 exact .inr (x.k▸h)
def OH.IQ{b c:Wd}{n:Nat}(x:OH b c n){p:vX}{xs:List V}(h:TR b.K b.H p xs):TR c.K c.H p xs:=by
 rcases h with⟨o,h⟩|⟨e,h⟩
 .exact .inl ⟨o,x.XC _ _ _ h⟩
 exact .inr ⟨e,x.k▸h⟩
mutual
theorem NB.Gn(x:OH b c n):∀{d:D}{v:V},NB b d v->TB n d=u9->NB c d v
 |.LA,_,h,_=>h
 |.bl _,_,h,_=>h
 |.int _,_,h,_=>h
 |.str _,_,h,_=>h
 |.ty _,_,h,_=>h
 |.tup g,v,h,q=>by obtain⟨p,a,e,t,r⟩:=h;simp only[_D.TB]at q;exact⟨p,a,e,x.HQ t,JA.Gn x r q⟩
 |.fl g,v,h,q=>by obtain⟨p,a,e,t,r⟩:=h;simp only[_D.TB]at q;exact⟨p,a,e,x.IQ t,JA.Gn x r q⟩
 |.ref i,v,h,q=>by obtain⟨l,e⟩:=h;simp only[_D.TB]at q;have f:=of_decide_eq_true q;exact⟨by rw[x.n];exact f,by rw[x.m];exact e⟩
theorem JA.Gn(x:OH b c n):∀{ds:List D}{vs:List V},JA b ds vs->MA n ds=u9->JA c ds vs
 |[],_,h,_=>h
 |d::ds,vs,h,q=>by obtain⟨v,r,e,f,a⟩:=h;simp only[_D.MA,zP]at q;exact⟨v,r,e,NB.Gn x f q.1,JA.Gn x a q.2⟩
end
theorem Rk(g:∀d d' v,f d=u7 d'->NB b d v->NB c d' v):∀{ds a:List D}{vs:List V},Jo f ds=u7 a->JA b ds vs->JA c a vs
 |[],a,vs,e,h=>by cases e;exact h
 |d::ds,a,vs,e,h=>by
  obtain⟨v,r,rfl,l,j⟩:=h;unfold Jo at e;split at e
  .rename_i d' m i k;cases e;exact⟨v,r,rfl,g _ _ _ i l,Rk g k j⟩
  cases e
theorem ba(s:YA b G')(x:OH b c n)(hz:∀i,n<=i->i<b.n->∀vs,b.H (b.m i)=u7 (.lst vs)->∃o,c.H (b.m i)=u7 (.XC o (.lst vs))):∀(k:Nat)(d d':D)(v:V),G7 G' n k d=u7 d'->NB b d v->NB c d' v
 |0,d,d',v,e,h=>by cases e
 | k+1,d,d',v,e,h=>by
  have g:=ba s x hz k;unfold G7 at e;split at e
  .rename_i f;cases e;exact h.Gn x f
  rename_i f;cases d with
  | ref i=>
   dsimp only at e;split at e
   .rename_i l z;rw[qJ]at e;obtain⟨j,a,rfl⟩:=e;obtain⟨vs,y,w⟩:=s.obj i _ z;obtain⟨u,rfl⟩:=h;have q:n<=i:=by simp[_D.TB,decide_eq_true_eq]at f;lia
    obtain⟨o,A⟩:=hz i q u vs y;exact⟨_,vs,rfl,.inl ⟨o,A⟩,Rk g a w⟩
   cases e
  |tup l=>
   dsimp only at e;rw[qJ]at e;obtain⟨j,a,rfl⟩:=e;obtain⟨p,vs,rfl,t,r⟩:=h;exact⟨p,vs,rfl,x.HQ t,Rk g a r⟩
  |fl l=>
   dsimp only at e;rw[qJ]at e;obtain⟨j,a,rfl⟩:=e;obtain⟨p,vs,rfl,t,r⟩:=h;exact⟨p,vs,rfl,x.IQ t,Rk g a r⟩
  |_=>cases e
def bc{X:Cx}{wM:List (vX×Obj)}{σ:St}{sh:vj}{a b:Wd}{G G':DH}(s:YA a G)(hG:G'.take (lN G)=G)(x:Ext a b)(sb:YA b G')(I:Inv X wM σ b.H sh):
  ∃c:Wd,Inv X wM σ c.H sh/\Ext a c/\YA c G/\OH b c a.n/\∀(k:Nat)(d d':D)(v:V),G7 G' (lN G) k d=u7 d'->NB b d v->NB c d' v:=by
 have hlen:∀i o,G[i]?=u7 o->G'[i]?=u7 o:=λi o e=>by have hi:i<lN G:=(zZ.mp e).1;rw[<-hG,qx hi]at e;exact e
 obtain⟨H',I',F⟩:=bZ I b.m a.n (b.n-a.n);have N9:a.n+(b.n-a.n)=b.n:=by have:=x.n;lia
 rw[N9]at F;have ct:∀p(u:HO),(∀vs,u≠ .lst vs)->b.H p=u7 u->H' p=u7 u:=λp u nu e=>by
  rcases F p with⟨e1,_⟩|⟨o,vs,_,e1,_⟩
  .exact e1.trans e
  .rw[e]at e1;exact absurd (Option.some.inj e1) (nu vs)
 have tabs:∀p,OE b.H p->OE H' p:=λp t=>t.mono (λp ps e=>ct p _ (by intro _ z;cases z) e) λp o u e=>ct p _ (by intro _ z;cases z) e
 have cc:OH b ⟨b.K,a.n,b.m,H'⟩ a.n:=⟨rfl,rfl,rfl,λp xs e=>ct p _ (by intro _ z;cases z) e,λp o u e=>ct p _ (by intro _ z;cases z) e⟩;have old:∀i,i<a.n->H' (b.m i)=b.H (b.m i):=λi hi=>by
  rcases F (b.m i)with⟨e1,_⟩|⟨o,vs,⟨j,h1,h2,h3⟩,e1,e2⟩
  .exact e1
  .have:=sb.inj i j (zx hi x.n) h2 h3;lia
 refine⟨⟨b.K,a.n,b.m,H'⟩,I',⟨x.k,zv _,x.m,λp xs e=>cc.tup p xs (x.tup p xs e),λp o u e=>cc.XC p o u (x.XC p o u e),λp t=>tabs p (x.tab p t)⟩,⟨s.len,λi j hi hj=>sb.inj i j (zx hi x.n) (zx hj x.n),λi o e=>?_,λi hi=>?_⟩,cc,λk d d' v hd rb=>?_⟩
 .show RD ⟨b.K,a.n,b.m,H'⟩ o (H' (b.m i));rw[old i (s.lt e)];have q:=sb.obj i o (hlen i o e);have lb:=(s.obj i o e).Ij;cases o with
  |lst ds=>obtain⟨vs,e1,r1⟩:=q;exact⟨vs,e1,r1.Gn cc lb⟩
  |QR KA=>obtain⟨us,e1,k1,r1⟩:=q;exact⟨us,e1,k1,r1.Gn cc lb⟩
  |YB KA=>obtain⟨us,e1,k1,r1⟩:=q;exact⟨us,e1,k1,r1.Gn cc lb⟩
  |ins c fs=>obtain⟨C,dx,us,n1,e1,k1,r1⟩:=q;exact⟨C,dx,us,n1,e1,k1,r1.Gn cc lb⟩
  |tab C m=>obtain⟨c1,P1,e1,t1⟩:=q;exact⟨c1,P1,e1,tabs _ t1⟩
  |exc c fs=>
   obtain⟨C,oe,u,vs,n1,e1,k1,k2,z⟩:=q;refine⟨C,oe,u,vs,n1,e1,k1,k2,?_⟩;rcases z with z|⟨dx,o,us,e2,f2,k3,r1⟩
   .exact .inl z
   .exact .inr ⟨dx,o,us,e2,cc.XC _ _ _ f2,k3,r1.Gn cc lb⟩
  |gone=>trivial
 .show H' (b.m i)≠u8;rw[old i hi];exact sb.tr i (zx hi x.n)
 .rw[s.len]at hd;refine ba sb cc (λi h1 h2 vs e=>?_) k d d' v hd rb;rcases F (b.m i)with⟨e1,z⟩|⟨o,HL,_,e1,e2⟩
  .exact absurd ⟨i,h1,h2,rfl⟩ (z vs e)
  .rw[e]at e1;cases e1;exact⟨o,e2⟩
theorem sZ(s:YA a G)(h:out E a (freeze G r) Q):
  out E a r λv H=>∀(wM:List (vX×Obj))(g:St)(j:vj),Inv X wM g H j->∃H',Inv X wM g H' j/\Q v H':=by
 cases r with
 | ok d n=>
  intro b v x f i wM g j I;unfold freeze at h;dsimp only at h;split at h
  .rename_i m;split at h
   .rename_i t l;obtain⟨c,k,q,p,u,o⟩:=bc s m x f I;exact⟨c.H,k,h c v q p (o _ _ _ _ l i)⟩
   exact⟨_,I,h b v x f i⟩
  exact⟨_,I,h b v x f i⟩
 |_=>exact h
def bg(k:QE X E e t):QE X E e (Ag t):=λb s d H Q I h=>by
 obtain⟨a,S,G,hk,rfl,c,r,h⟩:=h;refine GB (k b s d a.H _ I ⟨a,S,G,hk,rfl,c,r,sZ (X:=X) c h⟩) λu j zz=>?_
 obtain⟨v,m,g,rv,q⟩:=zz;obtain⟨i,f,l⟩:=q b d j g;exact⟨v,i,f,rv,l⟩
theorem bh{X:Cx}{E:XK}{st:vx}{t:DE}{i:Nat}(Y:QS X E st (LC t (gV i))):QS X E st (LC (Ag t) (gV i)):=λg s o H W I h=>by
 obtain⟨a,S,G,hk,rfl,J,r,h⟩:=h;have Q:Bw E a (LC t (gV i) S G) {W with nx:=λo H=>∀(g:List (vX×Obj))(F:vj),Inv X g o H F->∃C,Inv X g o C F/\W.nx o C}:=by
  unfold LC Ag at h;unfold LC;cases B:t S G with
  | ok d U=>
   rw[B]at h;intro b k x A n g F I;unfold freeze at h;dsimp only at h;split at h
   .rename_i hG;split at h
    .rename_i d' L;obtain⟨c,K,xc,N,cc,M⟩:=bc J hG x A I;refine⟨c.H,K,h c k xc N ⟨?_,λj e l=>?_⟩⟩
     .rw[qH,<-n.len,qH]
     rw[jw]at l;by_cases m:i=j
     .subst m;rw[if_pos rfl]at l;by_cases y:i<lN S
      .rw[if_pos y]at l;have Z:d'=e:=by simpa using l
       subst Z;obtain⟨v,w,rv⟩:=n.get i d (by rw[jw,if_pos rfl,if_pos y]);exact⟨v,w,M _ _ _ _ L rv⟩
      rw[if_neg y]at l;cases l
     .rw[if_neg m]at l;obtain⟨v,w,rv⟩:=n.get j e (by rw[jw,if_neg m];exact l);obtain⟨v',_,z⟩:=r.get j e l;exact⟨v,w,rv.Gn cc z.TB⟩
    exact⟨_,I,h b k x A n⟩
   exact⟨_,I,h b k x A n⟩
  |_=>rw[B]at h;exact h
 refine GB (Y g s o a.H _ I ⟨a,S,G,hk,rfl,J,r,Q⟩) λf T p=>?_
 cases f with
 |next=>
  obtain⟨k,C,I',q⟩:=p;obtain⟨H2,P,O⟩:=q g T I';exact⟨k,H2,P,O⟩
 |_=>exact p
end
section
variable{S:PB}{G:DH}
@[simp]theorem ev_V:dV i S G=(match S[i]? with |some (u7 d)=>.ok d G|_=>.bad):=id rfl
@[simp]theorem ev_C:dC d S G=.ok d G:=id rfl
@[simp]theorem S':XA f a b S G=(a S G).bind λx e=>(b S e).bind λy d=>f x y d:=id rfl
@[simp]theorem T':JM f a S G=(a S G).bind f:=id rfl
@[simp]theorem P9:Bb S G=.ok [] G:=id rfl
@[simp]theorem EW:Ai a r S G=(a S G).bind λx d=>(r S d).bind λxs b=>.ok (x::xs) b:=id rfl
@[simp]theorem V':IA f t S G=(t S G).bind f:=id rfl
@[simp]theorem EX:Bk t S G=tidy G (t S G):=id rfl
@[simp]theorem X9:Ag t S G=freeze G (t S G):=id rfl
@[simp]theorem Na:SO (.bl k) G=.ok k G:=id rfl
@[simp]theorem Sa:Ao t S G=(t S G).bind SO:=id rfl
@[simp]theorem Ta:Gp t u S G=(t S G).bind λk a=>if k=u9 then u S a else .ok uA a:=id rfl
@[simp]theorem W':TH t u S G=(t S G).bind λk a=>if k=u9 then .ok u9 a else u S a:=id rfl
@[simp]theorem Ya:Fv t S G=(t S G).bind λk a=>.ok (!k) a:=id rfl
@[simp]theorem EY:Qz t u S G=(t S G).bind λx b=>(SO x b).bind λk a=>if k=u9 then u S a else .ok (.bl uA) a:=id rfl
@[simp]theorem EZ:Rw t S G=(t S G).bind λx b=>(SO x b).bind λk a=>.ok (.bl (!k)) a:=id rfl
@[simp]theorem X':UO c t u S G=(c S G).bind λk a=>if k=u9 then t S a else u S a:=id rfl
@[simp]theorem E1:Nb f g a b c S G=(a S G).bind λx e=>(b S e).bind λy m=>(f x y m).bind λz h=>(SO z h).bind λk d=>
 if k=u9 then(c S d).bind λw o=>g y w o else .ok (.bl uA) d:=id rfl
@[simp]theorem Kb:TF S G=.nx S G:=id rfl
noncomputable def SR.then(u:DS)(_:Fx u:=())(r:SR):SR:=match r with
 |.nx S1 G1=>u S1 G1
 |r=>r
@[simp]theorem S7:Ae t u S G=(t S G).then u:=id rfl
@[simp]theorem U8:(SR.nx S G).then u=u S G:=id rfl
@[simp]theorem E2:(SR.rt d G).then u=.rt d G:=id rfl
@[simp]theorem Mb:KD t S G=(t S G).toS λ_ a=>.nx S a:=id rfl
@[simp]theorem Qb:ZB t S G=(t S G).toS λd a=>.rt d a:=id rfl
@[simp]theorem Sb:RF c t u S G=(c S G).toS λk a=>if k=u9 then t S a else u S a:=id rfl
@[simp]theorem Tb:LC t g S G=(t S G).toS λd b=>(g d S b).toS λe a=>.nx e a:=id rfl
@[simp]theorem sd:Bo it g b S G=(it S G).toS λJ a=>(match J with
 |.pure xs=>Av g b xs S a
 |.mt i=>match a[i]? with
  |some (.lst xs)=>forM i g b (lN xs) 0 S a
  |_=>.bad
 |.fn n f=>Dc f g b n 0 S a):=id rfl
@[simp]theorem se:De t S G=(t S G).bind Ej:=id rfl
@[simp]theorem E3:Ba f t S G=(t S G).bind f:=id rfl
@[simp]theorem Cg:gV i d S G=.ok (S.set i (u7 d)) G:=id rfl
@[simp]theorem E4:Bs [] S G=.ok S G:=id rfl
@[simp]theorem E5:Ak t u (d::r) S G=(t d S G).bind λb a=>u r b a:=id rfl
@[simp]theorem E6:Bp n t (.tup ds) S G=if lN ds=n then t ds S G else .bad:=id rfl
@[simp]theorem Ic:ON o i v S G=(o S G).bind λo b=>(i S b).bind λi a=>(Gg o i v a).bind λ_ d=>.ok S d:=id rfl
@[simp]theorem Lc:Cy f o t S G=(o S G).bind λx a=>if UT x a=u9 then(t S a).bind λxs b=>f x xs b else .bad:=id rfl
@[simp]theorem E7:Bv it nt caps g c te S G=(it S G).bind λJ a=>(match J with
 |.pure xs=>Bl g c te (Bg nt caps S) xs a
 |.mt i=>match a[i]? with
  |some (.lst xs)=>Es i g c te (Bg nt caps S) (lN xs) 0 a
  |_=>.bad
 |.fn n f=>Dn f g c te (Bg nt caps S) n 0 a).bind Ac:=id rfl
@[simp]theorem Kw:Aq S G=.ok u9 G:=id rfl
@[simp]theorem Dk:MK (.nx S G) k=k S G:=id rfl
@[simp]theorem Mc:MK (.rt d G) k=.rt d G:=id rfl
def Ea:Av g b [] S G=.nx S G:=id rfl
def Ck:Av g b (x::xs) S G=(g x S G).toS λd a=>MK (b d a) (Av g b xs):=id rfl
def Ga:Bl g c te S (x::xs) G=(g x S G).bind λb e=>(c b e).bind λk a=>
   if k=u9 then(te b a).bind λd f=>(Bl g c te S xs f).bind λh m=>.ok (d::h) m else Bl g c te S xs a:=id rfl
noncomputable def SR.ret(r:SR):R D:=match r with
 |.nx _ G'=>.ok .LA G'
 |.rt d G'=>.ok d G'
 |.err x G'=>.err x G'
 |_=>.bad
@[simp]theorem Nc:(SR.nx S G).ret=.ok .LA G:=id rfl
@[simp]theorem Pc:(SR.rt d G).ret=.ok d G:=id rfl
def Aj:Aw np nl b ds G=if lN ds=np then tidy G (b (ds.map u7++zQ nl u8) G).ret else .bad:=id rfl
end
section
variable{n:Nat}{G:DH}
@[simp]theorem E8:TB n .LA=u9:=by simp[_D.TB]
@[simp]theorem Md:TB n (.bl b)=u9:=by simp[_D.TB]
@[simp]theorem sf:TB n (.int b)=u9:=by simp[_D.TB]
@[simp]theorem E9:TB n (.str b)=u9:=by simp[_D.TB]
@[simp]theorem Ee:TB n (.tup b)=MA n b:=by simp[_D.TB]
@[simp]theorem Nd:TB n (.fl b)=MA n b:=by simp[_D.TB]
@[simp]theorem FA:TB n (.ref b)=decide (b<n):=by simp[_D.TB]
@[simp]theorem FB:MA n []=u9:=by simp[_D.MA]
@[simp]theorem sg:MA n (d::ds)=(TB n d&&MA n ds):=by simp[_D.MA]
theorem si:MA n ds=u9↔∀d∈ds,TB n d=u9:=by
 induction ds with
 |nil=>simp
 |cons d ds a=>simp[a]
def Ek{a:Type}{f:a->D}{xs:List a}(h:∀x∈xs,TB n (f x)=u9):MA n (xs.map f)=u9:=by rw[si];intro d b;obtain⟨x,e,rfl⟩:=qw.mp b;exact h x e
@[simp]theorem Di{xs:List Int}:MA n (xs.map D.int)=u9:=Ek λ_ _=>sf
def Bc(h:TB (lN G) d=u9):tidy G (.ok d G)=.ok d G:=by unfold tidy;simp[h]
def Jy(h:TB (lN G) d=u9):tidy G (.ok d (G++L))=.ok d G:=by unfold tidy;simp[h]
def R9(L:DH)(hk:L[k]?=u7 (.lst ds))(h:MA (lN G) ds=u9):tidy G (.ok (.ref (lN G+k)) (G++L))=.ok (.ref (lN G)) (G++[.lst ds]):=by
 unfold tidy;have e:(G++L)[lN G+k]?=u7 (.lst ds):=by rw[zM (by lia)];simpa using hk
 simp[e,Ij,h]
def Dt{ds:List D}{L:DH}(h:MA (lN G) ds=u9):tidy G (.ok (.ref (lN G)) (G++ .lst ds::L))=.ok (.ref (lN G)) (G++[.lst ds]):=R9 (.lst ds::L) (k:=0) rfl h
def Jv(h:TB (lN G) d=u9):freeze G (.ok d G)=.ok d G:=by unfold freeze;simp[h,G7]
theorem bi{n:Nat}:∀{a:List D},MA n a=u9->Jo (G7 G' n (k+1)) a=u7 a
 |[],_=>rfl
 |d::a,h=>by simp[sg,zP]at h;unfold Jo;rw[bi h.2];simp[G7,h.1]
def bj(L:DH)(hk:L[k]?=u7 (.lst ds))(h:MA (lN G) ds=u9):freeze G (.ok (.ref (lN G+k)) (G++L))=.ok (.fl ds) G:=by
 unfold freeze;have e:(G++L)[lN G+k]?=u7 (.lst ds):=by rw[zM (by lia)];simpa using hk
 have m:G7 (G++L) (lN G) 9 (.ref (lN G+k))=u7 (.fl ds):=by unfold G7;simp[e,bi h]
 simp[m]
def Be{ds:List D}{L:DH}(h:MA (lN G) ds=u9):freeze G (.ok (.ref (lN G)) (G++ .lst ds::L))=.ok (.fl ds) G:=bj (.lst ds::L) (k:=0) rfl h
def Gm(L:DH)(k:Nat):(G++L)[lN G+k]?=L[k]? :=by rw[zM (by lia)];simp
def Ex(L:DH):(G++L)[lN G]?=L[0]? :=Gm L 0
def J6(L:DH)(k:Nat)(o:DO):(G++L).set (lN G+k) o=G++L.set k o:=by rw[List.set_append_right _ _ (by lia)];simp
def Fl(L:DH)(o:DO):(G++L).set (lN G) o=G++L.set 0 o:=J6 L 0 o
def Ew{a:Int}:Al a 0=[]:=id rfl
def Eh{a:Int}{n:Nat}:Al a (n+1)=.int a::Al (a+1) n:=by
 unfold Al;rw[jZ,zK,qG]
 congr 1
 .simp
 apply jJ;intro k _;simp only[Function.comp]
 congr 1
 lia
end
section
variable{G:DH}{i j:Int}{x y:Str}{k l:Bool}
@[simp]theorem Pd:Do (.int i) (.int j) G=.ok (.int (i+j)) G:=id rfl
@[simp]theorem Rf:Do (.str x) (.str y) G=if x.length+y.length<=1000000 then .ok (.str (x++y)) G else .bad:=id rfl
@[simp]theorem FC:Do (.tup xs) (.tup ys) G=if xs≠[]/\lN xs+lN ys<=1000000 then .ok (.tup (xs++ys)) G else .bad:=id rfl
@[simp]theorem Z':Mj (.int i) (.int j) G=.ok (.int (i+j)) G:=id rfl
@[simp]theorem He:Jp (.int i) (.int j) G=.ok (.int (i-j)) G:=id rfl
def sj{n:Nat}(h:0<n)(a:n.log2<9000):Ir (.int i) (.int (n:Int)) G=.ok (.int (i/n)) G:=if_pos ⟨by lia,a⟩
def log2_small(h:n<10^100):n.log2<9000:=by
 by_cases a:n=0
 .subst a;decide
 rw[Nat.log2_lt a];exact Nat.lt_trans h (by decide)
@[simp]theorem FD{n:Nat}[NeZero n](h:n<10^100):Ir (.int i) (.int (no_index (OfNat.ofNat n))) G=.ok (.int (i/OfNat.ofNat n)) G:=
 if_pos ⟨Int.ofNat_lt.mpr (Nat.pos_of_ne_zero (NeZero.ne n)),log2_small h⟩
@[simp]theorem Me:My (.int i) (.int j) G=if 0<j then .ok (.int (i%j)) G else .bad:=id rfl
@[simp]theorem Pe:Q9 (.int i) (.int j) G=if 0<=j/\j<=1000000/\i.natAbs<18446744073709551616 then .ok (.int (i^j.toNat)) G else .bad:=id rfl
@[simp]theorem b?:Ji (.int i) (.int j) G=.ok (.bl (decide (i<j))) G:=id rfl
@[simp]theorem d?:Qo (.int i) (.int j) G=.ok (.bl (decide (i<=j))) G:=id rfl
@[simp]theorem e?:Mg (.int i) (.int j) G=.ok (.bl (decide (j<i))) G:=id rfl
@[simp]theorem f?:Qf (.int i) (.int j) G=.ok (.bl (decide (j<=i))) G:=id rfl
@[simp]theorem g?:K9 (.int i) (.int j) G=.ok (.bl (decide (i=j))) G:=id rfl
@[simp]theorem i?:Hi (.int i) (.int j) G=.ok (.bl (!decide (i=j))) G:=id rfl
@[simp]theorem Se:K9 (.str x) (.str y) G=.ok (.bl (decide (x=y))) G:=id rfl
@[simp]theorem Of:Gy (.int i) G=.ok (.int (-i)) G:=id rfl
@[simp]theorem j?:Hq d .LA G=.ok (.bl (Dh d)) G:=by cases d<;>exact id rfl
@[simp]theorem FE:Jb d .LA G=.ok (.bl (!Dh d)) G:=by cases d<;>exact id rfl
@[simp]theorem FG:Dh .LA=u9:=id rfl
@[simp]theorem FH:Dh (.int i)=uA:=id rfl
@[simp]theorem FJ:Dh (.tup ds)=uA:=id rfl
@[simp]theorem Pf:Jf [.int i,.int j] G=.ok (.int (max i j)) G:=by
 show R.ok (D.int (if j>i then j else i)) G=_
 congr 2
 split <;> lia
@[simp]theorem Sf:Hu [.int i,.int j] G=.ok (.int (min i j)) G:=by
 show R.ok (D.int (if j<i then j else i)) G=_
 congr 2
 split <;> lia
@[simp]theorem FK:Bm (.tup ds) G=u7 ds:=id rfl
@[simp]theorem FM:Bm (.fl ds) G=u7 ds:=id rfl
@[simp]theorem Xf:Bm (.ref n) G=(match G[n]? with |some (.lst xs)=>u7 xs|_=>u8):=id rfl
@[simp]theorem FO:Ar [.tup ds] G=.ok (.int (lN ds)) G:=id rfl
@[simp]theorem FP:Ar [.fl ds] G=.ok (.int (lN ds)) G:=id rfl
@[simp]theorem Rr:Ar [.ref n] G=(match G[n]? with |some (.lst xs)=>.ok (.int (lN xs)) G|_=>.bad):=by
 unfold Ar;simp[Xf];cases G[n]? with
 |none=>rfl
 |some o=>cases o<;>rfl
@[simp]theorem sk:Af (.tup ds) (.int i) G=(match MC ds i with |some v=>.ok v G|none=>.bad):=id rfl
@[simp]theorem Yf:Af (.fl ds) (.int i) G=(match MC ds i with |some v=>.ok v G|none=>.bad):=id rfl
@[simp]theorem Ri:Af (.ref n) (.int i) G=(match G[n]? with |some (.lst xs)=>(match MC xs i with |some v=>.ok v G|none=>.bad)|_=>.bad):=by
 unfold Af;simp[Xf];cases G[n]? with
 |none=>rfl
 |some o=>cases o<;>rfl
def Nm{n k:Nat}(h:k<n):PJ n (k:Int)=u7 k:=by unfold PJ;rw[if_pos (by lia),if_pos (by lia)];simp
def so{a:Type}{xs:List a}{k:Nat}{d:a}(h:xs[k]?=u7 d):MC xs (k:Int)=u7 d:=by unfold MC;rw[Nm (zZ.mp h).1];exact h
def Ce{a:Type}{xs:List a}{j:Int}{k:Nat}{d:a}(e:j=k)(h:xs[k]?=u7 d):MC xs j=u7 d:=by subst e;exact so h
def T8{a:Type}{xs:List a}{j:Int}(b:0<=j)(h:j<lN xs):MC xs j=u7 (xs[j.toNat]'(by lia)):=
 Ce (by lia) (zJ (by lia))
@[simp]theorem k?{b:Type}{a:b}{xs:List b}:MC (a::xs) 0=u7 a:=Ce rfl rfl
@[simp]theorem l?{d:Type}{a b:d}{xs:List d}:MC (a::b::xs) 1=u7 b:=Ce rfl rfl
@[simp]theorem m?{d:Type}{a b c:d}{xs:List d}:MC (a::b::c::xs) 2=u7 c:=Ce rfl rfl
@[simp]theorem n?{e:Type}{a b c d:e}{xs:List e}:MC (a::b::c::d::xs) 3=u7 d:=Ce rfl rfl
@[simp]theorem o?{f:Type}{a b c d e:f}{xs:List f}:MC (a::b::c::d::e::xs) 4=u7 e:=Ce rfl rfl
@[simp]theorem p?{g:Type}{a b c d e f:g}{xs:List g}:MC (a::b::c::d::e::f::xs) 5=u7 f:=Ce rfl rfl
@[simp]theorem q?{h:Type}{a b c d e f g:h}{xs:List h}:MC (a::b::c::d::e::f::g::xs) 6=u7 g:=Ce rfl rfl
@[simp]theorem FQ:Az ds G=if lN ds<=1000000 then .ok (.tup ds) G else .bad:=id rfl
@[simp]theorem FR:Ac ds G=if lN ds<=1000000 then .ok (.ref (lN G)) (G++[.lst ds])else .bad:=id rfl
@[simp]theorem FS:Df [.fl ds] G=.ok (.tup ds) G:=id rfl
@[simp]theorem FU:Df [.ref n] G=(match G[n]? with |some (.lst xs)=>.ok (.tup xs) G|_=>.bad):=by
 unfold Df;simp[Xf];cases G[n]? with
 |none=>rfl
 |some o=>cases o<;>rfl
@[simp]theorem Ki:Ej (.tup ds) G=.ok (.pure ds) G:=id rfl
@[simp]theorem Si:Ej (.fl ds) G=.ok (.pure ds) G:=id rfl
@[simp]theorem FV:IC [.int j] G=if inR j then .ok (.pure (Al 0 j.toNat)) G else .bad:=id rfl
def Ds(a: -1000000000<=i)(h:i<=1000000000):inR i:=⟨by lia,by lia⟩
@[simp]theorem FW:UT (.fl ds) G=u9:=id rfl
@[simp]theorem FX:UT (.ref n) G=(match G[n]? with |some (.lst _)=>u9|_=>uA):=id rfl
@[simp]theorem bo:Ci (.ref n) [d] G=(match G[n]? with |some (.lst xs)=>if lN xs<1000000 then .ok .LA (G.set n (.lst (xs++[d])))else .bad|_=>.bad):=id rfl
@[simp]theorem Kr:Gg (.ref n) (.int i) d G=(match G[n]? with |some (.lst xs)=>(match PJ (lN xs) i with |some j=>.ok .LA (G.set n (.lst (xs.set j d)))|none=>.bad)|_=>.bad):=id rfl
@[simp]theorem su{ks:List Bool}:J1 [.fl (ks.map D.bl)] G=.ok (.bl (ks.all id)) G:=by simp[J1]
@[simp]theorem Yz{ks:List Int}:Gd [.fl (ks.map D.int)] G=.ok (.int ks.sum) G:=by simp[Gd]
@[simp]theorem FY:Ey [d,.ty "int"] G=(match GJ G d with |some .int=>.ok (.bl u9) G|some .bl=>.ok (.bl u9) G|some _=>.ok (.bl uA) G|none=>.bad):=by
 unfold Ey;dsimp only;cases GJ G d with
 |none=>rfl
 |some t=>cases t<;>rfl
@[simp]theorem FZ:Ey [d,.ty "bool"] G=(match GJ G d with |some .bl=>.ok (.bl u9) G|some _=>.ok (.bl uA) G|none=>.bad):=by
 unfold Ey;dsimp only;cases GJ G d with
 |none=>rfl
 |some t=>cases t<;>rfl
@[simp]theorem F0:Ey [d,.ty "tuple"] G=(match GJ G d with |some .tup=>.ok (.bl u9) G|some _=>.ok (.bl uA) G|none=>.bad):=by
 unfold Ey;dsimp only;cases GJ G d with
 |none=>rfl
 |some t=>cases t<;>rfl
@[simp]theorem F1:Ey [d,.ty "list"] G=(match GJ G d with |some .lst=>.ok (.bl u9) G|some _=>.ok (.bl uA) G|none=>.bad):=by
 unfold Ey;dsimp only;cases GJ G d with
 |none=>rfl
 |some t=>cases t<;>rfl
end
section
variable{c:Prop}[Decidable c]
@[simp]theorem Kj{d:Type}{a b:d}:(if c then R.ok a G else R.ok b G)=R.ok (if c then a else b) G:=by split <;> rfl
end
noncomputable def Fi{κ:Type}[DecidableEq κ](KA:List (κ×D))(k:κ):Option D:=(KA.find? λkv=>decide (kv.1=k)).map (·.2)
def putD{κ:Type}[DecidableEq κ](KA:List (κ×D))(k:κ)(v:D):List (κ×D):=
 if(KA.any λkv=>decide (kv.1=k))=u9 then KA.map (λkv=>if kv.1=k then(kv.1,v)else kv)else KA++[(k,v)]
def NW:D->Option Key
 |.int i=>u7 (.inl i)
 |.str x=>u7 (.inr x)
 |_=>u8
def sv(r:NB a d x)(h:NW d=u7 k):x=kV k:=by
 cases d<;>first
  |(cases h;exact r)
  |cases h
def SA.nil{a:Wd}:SA a ([]:List (κ×D)) []:=⟨rfl,rfl⟩
theorem SA.cons[DecidableEq κ]{a:Wd}{k:κ}{d:D}{KA:List (κ×D)}{us:List (κ×V)}(h:SA a ((k,d)::KA) us):∃v r,us=(k,v)::r/\NB a d v/\SA a KA r:=by
 obtain⟨h1,v,r,h2,h3,h4⟩:=h;cases us with
 |nil=>cases h2
 |cons p us=>
  obtain⟨q,w⟩:=p;simp only[zK,List.cons.injEq]at h1 h2;obtain⟨rfl,h1⟩:=h1;obtain⟨rfl,rfl⟩:=h2;exact⟨w,us,rfl,h3,h1,h4⟩
def SA.mk[DecidableEq κ]{a:Wd}{k:κ}{d:D}{v:V}{KA:List (κ×D)}{us:List (κ×V)}(h:NB a d v)(r:SA a KA us):SA a ((k,d)::KA) ((k,v)::us):=
 ⟨by simp only[zK,r.1],JA.cons h r.2⟩
theorem SA.val[DecidableEq κ]{a:Wd}{k:κ}:∀{KA:List (κ×D)}{us:List (κ×V)},SA a KA us->(Fi KA k=u8/\Fg us k=u8)\/∃d v,Fi KA k=u7 d/\Fg us k=u7 v/\NB a d v
 |[],us,h=>by obtain⟨h1,_⟩:=h;have:us=[]:=List.map_eq_nil_iff.mp h1.symm;subst this;exact .inl ⟨rfl,rfl⟩
 | (q,d)::KA,us,h=>by
  obtain⟨v,r,rfl,h1,h2⟩:=SA.cons h;by_cases e:q=k
  .exact .inr ⟨d,v,by simp[Fi,qj,e],by simp[Fg,qj,e],h1⟩
  .rcases SA.val (k:=k) h2 with⟨e1,e2⟩|⟨d',v',e1,e2,e3⟩
   .exact .inl ⟨by simpa[Fi,qj,e]using e1,by simpa[Fg,qj,e]using e2⟩
   .exact .inr ⟨d',v',by simpa[Fi,qj,e]using e1,by simpa[Fg,qj,e]using e2,e3⟩
theorem SA.any[DecidableEq κ]{a:Wd}{k:κ}:∀{KA:List (κ×D)}{us:List (κ×V)},SA a KA us->(KA.any λkv=>decide (kv.1=k))=us.any λkv=>decide (kv.1=k)
 |[],us,h=>by
  obtain⟨h1,_⟩:=h;have:us=[]:=List.map_eq_nil_iff.mp h1.symm;subst this
  rfl
 |(q,d)::KA,us,h=>by obtain⟨v,r,rfl,h1,h2⟩:=SA.cons h;simp only[j0,SA.any (k:=k) h2]
theorem SA.RJ[DecidableEq κ]{a:Wd}{k:κ}{d:D}{v:V}(hv:NB a d v):∀{KA:List (κ×D)}{us:List (κ×V)},SA a KA us->SA a (KA.map λkv=>if kv.1=k then(kv.1,d)else kv) (us.map λkv=>if kv.1=k then(kv.1,v)else kv)
 |[],us,h=>by obtain⟨h1,_⟩:=h;have:us=[]:=List.map_eq_nil_iff.mp h1.symm;subst this;exact SA.nil
 |(q,e)::KA,us,h=>by
  obtain⟨w,r,rfl,h1,h2⟩:=SA.cons h;simp only[zK];by_cases hq:q=k
  .rw[if_pos hq,if_pos hq];exact SA.mk hv (SA.RJ hv h2)
  .rw[if_neg hq,if_neg hq];exact SA.mk h1 (SA.RJ hv h2)
def SA.put[DecidableEq κ]{a:Wd}{k:κ}{d:D}{v:V}{KA:List (κ×D)}{us:List (κ×V)}(h:SA a KA us)(hv:NB a d v):SA a (putD KA k d) (putK us k v):=by
 unfold putD putK;rw[SA.any (k:=k) h];split
 .exact SA.RJ hv h
 .exact⟨by simp[h.1],by have:=JA.append h.2 (JA.cons hv (JA.nil));simpa using this⟩
def SA.len[DecidableEq κ]{a:Wd}{KA:List (κ×D)}{us:List (κ×V)}(h:SA a KA us):lN KA=lN us:=by have:=congrArg jO h.1;simpa using this
section
variable{X:Cx}{E:XK}
def set_dict(l:X.A.units+64<cLine):MR X (λo i v H Q=>∃a H',o=.ref a/\HM H a i v H'/\Q H'):=by intro b s k H o i v f p u Q I e h d ⟨a,H',j,g,q⟩;subst j;obtain rfl:f=Value.ref a:=e;exact oV (by lia) I g h d λm c=>⟨H',c,q⟩
end
section
variable{S:PB}{G:DH}{n:Nat}{KA:List (Key×D)}
end
def cutD{α:Type}(xs:List α)(lo hi:Option Int):List α:=(xs.drop (HT.JB (lN xs) 0 lo)).take (HT.JB (lN xs) (lN xs) hi-HT.JB (lN xs) 0 lo)
def Im(z:Str)(lo hi:Option Int):Str:=⟨(cutD z.cps.toList lo hi).toArray⟩
def sx{b:Type}(xs:List b)(a c:Option Int):lN (cutD xs a c)<=lN xs:=by unfold cutD;rw[jQ,jy];lia
def Lh(t:Option DE)(S:PB)(G:DH):R (Option Int):=match t with
 |none=>.ok u8 G
 |some t=>(t S G).bind λd G1=>match d with
  |.int i=>.ok (u7 i) G1
  |_=>.bad
def Gk(d:D)(lo hi:Option Int)(G:DH):R D:=match d with
 |.str z=>if z.length<=1000000 then .ok (.str (Im z lo hi)) G else .bad
 |.tup xs=>.ok (.tup (cutD xs lo hi)) G
 |d=>match Em d G with
  |some xs=>.ok (.ref G.length) (G++[.lst (cutD xs lo hi)])
  |none=>.bad
def JL(e:DE)(lo hi:Option DE):DE:=λS G=>(e S G).bind λd G1=>(Lh lo S G1).bind λl G2=>(Lh hi S G2).bind λh G3=>Gk d l h G3
def Ju(n:Nat)(v:Int):((HT.JB n n (u7 v):Nat):Int)=max 0 (min (if v<0 then v+(n:Int)else v) n)/\((HT.JB n 0 (u7 v):Nat):Int)=max 0 (min (if v<0 then v+(n:Int)else v) n):=by
 unfold HT.JB;by_cases a:v<0
 .simp[if_pos a];lia
 simp[if_neg a];lia
theorem sy(xs:Array Nat)(i k:Nat):(zW k).filterMap (λm=>xs[i+m]?)=(xs.toList.drop i).take k:=by
 induction k generalizing i with
 |zero=>simp
 | succ k d=>
  rw[jZ,qR];have e:(List.map Nat.succ (.range k)).filterMap (λm=>xs[i+m]?)=(zW k).filterMap (λm=>xs[i+1+m]?):=by
   rw[j9]
   congr 1
   funext m;simp[Function.comp]
   congr 1
   lia
  rw[e,d (i+1)];by_cases b:i<xs.size
  .have a:xs[i+0]?=u7 xs[i]:=by simp[b]
   rw[a];have c:xs.toList.drop i=xs[i]::xs.toList.drop (i+1):=by rw[zO (by simpa using b)];simp
   rw[c];simp
  have a:xs[i+0]?=u8:=by simp;lia
  rw[a];simp only;rw[qE (by simp;lia),qE (by simp;lia)];simp
def tD(x:Str)(c b:Option Int):Txt.slice x c b=Im x c b:=by
 have d:x.length=x.cps.toList.length:=by simp[Str.length]
 have m:(qc c b 1 x.length).filterMap (x.cps[·]?)=cutD x.cps.toList c b:=by
  have n:∀(v:Option Int),(match v with |none=>(0:Int)|some i=>max 0 (min (if i<0 then i+(x.length:Int)else i) x.length))=((HT.JB x.length 0 v:Nat):Int):=λv=>by
   cases v with
   |none=>rfl
   |some i=>exact(Ju x.length i).2.symm
  have p:∀(v:Option Int),(match v with |none=>(x.length:Int)|some i=>max 0 (min (if i<0 then i+(x.length:Int)else i) x.length))=((HT.JB x.length x.length v:Nat):Int):=λv=>by
   cases v with
   |none=>rfl
   |some i=>exact(Ju x.length i).1.symm
  have l:qc c b 1 x.length=sliceRange ((HT.JB x.length 0 c:Nat):Int) ((HT.JB x.length x.length b:Nat):Int) 1:=by
   rw[<-n c,<-p b];unfold qc
   cases c<;>cases b<;>simp
  rw[l];unfold sliceRange cutD;rw[j9,<-d];generalize HT.JB x.length 0 c=i;generalize HT.JB x.length x.length b=j;have s:((λa=>x.cps[a]?) ∘ λ(k:Nat)=>((i:Int)+1*(k:Int)).toNat)=λk=>x.cps[i+k]? :=by
   funext k;simp only[Function.comp]
   congr 1
   lia
  have q:(if(1:Int)>0 then if(i:Int)<(j:Int)then((j:Int)-i+1-1)/1 else 0 else if(i:Int)>(j:Int)then((i:Int)-j-1-1) / -1 else 0).toNat=j-i:=by
   rw[if_pos (by lia)];split
   .rw[Int.ediv_one];lia
   lia
  rw[s,q];exact sy x.cps i (j-i)
 unfold Txt.slice Im;split
 .rename_i h;have w:(qc c b 1 x.length).length=x.length:=by simpa using h
  have g:(cutD x.cps.toList c b).length=x.cps.toList.length:=by
   have l:(qc c b 1 x.length).length=HT.JB x.length x.length b-HT.JB x.length 0 c:=by
    have n:∀(v:Option Int),(match v with |none=>(0:Int)|some i=>max 0 (min (if i<0 then i+(x.length:Int)else i) x.length))=((HT.JB x.length 0 v:Nat):Int):=λv=>by
     cases v with
     |none=>rfl
     |some i=>exact(Ju x.length i).2.symm
    have p:∀(v:Option Int),(match v with |none=>(x.length:Int)|some i=>max 0 (min (if i<0 then i+(x.length:Int)else i) x.length))=((HT.JB x.length x.length v:Nat):Int):=λv=>by
     cases v with
     |none=>rfl
     |some i=>exact(Ju x.length i).1.symm
    have l:qc c b 1 x.length=sliceRange ((HT.JB x.length 0 c:Nat):Int) ((HT.JB x.length x.length b:Nat):Int) 1:=by
     rw[<-n c,<-p b];unfold qc
     cases c<;>cases b<;>simp
    rw[l];unfold sliceRange;rw[zq,xW];generalize HT.JB x.length 0 c=i;generalize HT.JB x.length x.length b=j;rw[if_pos (by lia)];split
    .rw[Int.ediv_one];lia
    lia
   have u:HT.JB x.length x.length b<=x.length:=HT.nG _ _ (zv _) b;unfold cutD;rw[jQ,jy,<-d];lia
  have r:(cutD x.cps.toList c b).Sublist x.cps.toList:=(List.take_sublist _ _).trans (List.drop_sublist _ _);rw[r.eq_of_length g]
 rw[m]
section
variable{X:Cx}{E:XK}
theorem tE:NO X (λx c n H Q=>∃z:Str,x=.str z/\z.length<=sizeLine/\Q (.str (Im z c n)) H):=by
 intro b s P H x v K O c n B Q I C M J r h;obtain⟨z,rfl,N,q⟩:=h;obtain⟨t,rfl⟩:=C;refine⟨"str",_,PySem.F.slot_str_getitem.lookup,typeIs_str _ _ _,?_⟩
 have a:∀(l u:Option (Int×Tok)),K=partValue l->O=partValue u->l.map (·.1)=c->u.map (·.1)=n->wW (vR X.prog X.w) X.A (getItem (.str z t) (.ref B)) (EP X b P Q) X.xe s:=by
  rintro l u rfl rfl rfl rfl;refine wpAny_getItem_str_slice (st:=u8) (M) rfl ?_
  have e:∀d,(Txt.slice z (l.map (·.1)) (u.map (·.1))).length<=sizeLine/\(∀m k,d (.str (Txt.slice z (l.map (·.1)) (u.map (·.1))) m) {s with toks:=k})->(sliceMade z t l u u8).post d s:=λd L=>post_val_or_str L
  refine e _ ⟨zG (Txt.slice_le z _ _) N,λm k=>?_⟩;rw[tD];exact⟨.str _,H,I.tok k,⟨m,rfl⟩,q⟩
 cases J with
 |none=>cases r with
  |none=>exact a u8 u8 rfl rfl rfl rfl
  |int j g=>exact a u8 (u7 (j,g)) rfl rfl rfl rfl
 |int i y=>cases r with
  |none=>exact a (u7 (i,y)) u8 rfl rfl rfl rfl
  |int j g=>exact a (u7 (i,y)) (u7 (j,g)) rfl rfl rfl rfl
def tF{prog:vq}{w:vA}{A:vV}{E:vk->vj->Prop}{s:vj}{t j:vX}{items:Array vk}{m l:vk}{a d:Option Int}{Q:vk->vj->Prop}(c:IsTup s.heap t items)(k:s.heap.IsSliceOf j m l .none)(pl:IsPart m a)(p:IsPart l d)
  (hw:HT.JB items.size 0 a=0/\HT.JB items.size items.size d=items.size) (h:Q (.ref t) s):wW (vR prog w) A (getItem (.ref t) (.ref j)) Q E s:=by
 obtain⟨n,i,g,q⟩:=id k;unfold getItem
 try with_reducible refine wv ?_
 first|refine wq (w6 ?_)|skip
 refine wq (wpAny_sequenceKey c.typeIs (by decide) ?_);refine wq (wz c.typeIs jd
  (wj jd c.typeIs entry_tuple_getitem ?_ (args_tuple_getitem _ _)))
 show wW _ _ (Builtin.Tuple.tupleItemsOf (.ref t) >>=_) _ _ s;refine wq (tupleItemsOf_ c ?_);refine wq (wpAny_typeOf ⟨n,i,g⟩ ?_);rw[if_pos (by decide)];refine wq (HT.aV k pl p ?_);have b:(((HT.JB items.size 0 a:Nat):Int)==0&&(1:Int)==1&&(HT.JB items.size items.size d-HT.JB items.size 0 a)==items.size)=u9:=by rw[hw.1,hw.2];simp
 show wW _ _ (if(((HT.JB items.size 0 a:Nat):Int)==0&&(1:Int)==1&&(HT.JB items.size items.size d-HT.JB items.size 0 a)==items.size)=u9 then _ else _) _ _ s;rw[if_pos b];refine wq ?_;unfold Builtin.Tuple.tupleIsExact;refine wq (wpAny_typeOf c.typeIs (w6 ?_));rw[if_pos (by decide)];exact wq (wpAny_rule (w6 ⟨_,rfl,w6 h⟩))
def tG:NO X (λx i d H Q=>∃a xs,x=.ref a/\UE X.K H a xs/\(HT.JB (lN xs) 0 i=0/\HT.JB (lN xs) (lN xs) d=lN xs)/\Q (.ref a) H):=by intro g s w H x v A y i d u Q I m k n l h;obtain⟨a,xs,rfl,p,hw,q⟩:=h;cases m;obtain⟨c,r,j,z⟩:=I.tuple p;exact⟨"tuple",_,PyProof.Rows.slot_tuple_getitem.lookup,j.typeIs,tF j k n l ((zy▸r.length.symm)▸hw) ⟨.ref a,H,I,rfl,q⟩⟩
def Ma(E:XK)(a:Wd)(r:R (Option Int))(Q:Option Int->Hp->Prop):Prop:=match r with
 |.ok k G=>∀(b:Wd),Ext a b->YA b G->Q k b.H
 |.err x G=>YI E a x G
 |.bad=>False
def QO(X:Cx)(E:XK)(e:Option vW)(t:Option DE):Prop:=PO X e (λσ H Q=>UR X.K σ H λa S G=>Ma E a (Lh t S G) Q)
def _root_._L.PO.mono(h:PO X e t)(w:∀a H Q,t' a H Q->t a H Q):PO X e t':=λb s a H Q I q=>h b s a H Q I (w a H Q q)
def tH:QO X E u8 u8:=nN.mono λb H Q h=>by obtain⟨a,S,G,hk,rfl,s,r,h⟩:=h;exact h a (.refl a) s
theorem tI(m:QE X E e t):QO X E (u7 e) (u7 t):=(nO m).mono λn H Q h=>by
 obtain⟨a,S,G,hk,rfl,s,r,h⟩:=h;refine⟨a,S,G,hk,rfl,s,r,?_⟩
 have c:Ma E a ((t S G).bind λd g=>match d with | .int i=>.ok (u7 i) g|_=>.bad) Q:=h
 cases j:t S G with
 |ok d g=>
  rw[j]at c;intro b v x k l;cases d with
  |int i=>exact⟨i,l,c b x k⟩
  |_=>exact c.elim
 |_=>rw[j]at c;exact c
def JA.cutD(r:JA a ds vs)(b c:Option Int):JA a (_D.cutD ds b c) (Mf vs b c):=by unfold _D.cutD Mf;rw[r.length];exact(r.drop _).take _
theorem Ma.imp(h:Ma E a r Q)(w:∀v H,Q v H->Q' v H):Ma E a r Q':=by
 cases r with
 |ok d G=>exact λb x s=>w _ _ (h b x s)
 |_=>exact h
theorem bq(h:out E a (r.bind f) Q):
  Ma E a r (λk H=>PB3 a H r k λb G=>out E b (f k G) Q):=by
 cases r with
 |ok d G=>exact λb x s=>⟨b,G,rfl,x,s,rfl,out.mono x h⟩
 |_=>exact h
theorem tJ{e:vW}{N T:Option vW}{U:DE}{P th:Option DE}{p2 pos:Pos}(he:QE X E e U)(M:QO X E N P)(hu:QO X E T th):QE X E (.Subscript e (.Slice N T u8 p2) pos) (JL U P th):=
 (nQ (nc.or (nR.or (tG.or tE))) he M hu).mono λσ H Q h=>by
 obtain⟨a,S,G,hk,rfl,s,r,h⟩:=h;refine⟨a,S,G,hk,rfl,s,r,(Eo h).imp ?_⟩;rintro v _ ⟨b,d,W,rfl,x,s1,q,_,h1⟩;refine⟨b,S,W,x.k.trans hk,rfl,s1,r.mono x,(bq h1).imp ?_⟩;rintro l _ ⟨c,Z,rfl,y,s2,_,Y⟩;refine⟨c,S,Z,y.k.trans (x.k.trans hk),rfl,s2,(r.mono x).mono y,(bq Y).imp ?_⟩;rintro u _ ⟨C,J,rfl,O,F,_,g⟩;have m:=O.k.trans (y.k.trans (x.k.trans hk));have L:=(q.mono y).mono O
 have lst:out E C (match Em d J with |some w=>.ok (.ref J.length) (J++[.lst (cutD w l u)])|none=>.bad) Q->MV X.K v l u C.H Q:=λg=>by
  split at g
  .rename_i w hx;obtain⟨p,j,I,B,A⟩:=R1 F L hx;exact⟨p,j,I,by rw[<-m];exact B,λp hp=>Jt F (.cutD A l u) g p hp⟩
  exact g.elim
 cases d with
 |str z=>
  have n:out E C (if z.length<=1000000 then .ok (.str (Im z l u)) J else .bad) Q:=g;split at n
  .rename_i M;cases(L);exact .inr (.inr (.inr ⟨z,rfl,zG M VB,n C _ (.refl _) F rfl⟩))
  exact n.elim
 | tup w=>
  have n:=g;obtain⟨p,j,I,B,A⟩:=L;by_cases hw:HT.JB j.length 0 l=0/\HT.JB j.length j.length u=j.length
  .refine .inr (.inr (.inl ⟨p,j,I,by rw[<-m];exact B,hw,n C _ (.refl _) F ⟨p,j,rfl,B,?_⟩⟩));have:cutD w l u=w:=by unfold cutD;rw[A.length,hw.1,hw.2,<-A.length];simp
   rw[this];exact A
  exact .inr (.inl ⟨p,j,I,by rw[<-m];exact B,hw,λp hp=>Uy F (.cutD A l u) n p hp⟩)
 |fl w|ref i=>exact .inl (lst g)
 |_=>exact(g).elim
section
variable{name:Str}{id:String}{f:D->List D->DH->R D}{o e:vW}{es:List vW}{to:DE}{t:DA}{apos RB:Pos}
end
noncomputable def Ku:List D->Option (List Str)
 |[]=>u7 []
 |.str x::r=>(Ku r).map (x::·)
 |_=>u8
@[simp]theorem tK(ns:List Str):Ku (ns.map D.str)=u7 ns:=by
 induction ns with
 |nil=>rfl
 |cons n ns a=>simp[Ku,a]
theorem br:∀{xs:List D}{ns:List Str},Ku xs=u7 ns->xs=ns.map D.str
 |[],ns,h=>by cases h;rfl
 |.str i::r,ns,h=>by
  unfold Ku at h;rw[qJ]at h;obtain⟨m,e,rfl⟩:=h;rw[br e]
  rfl
 |.LA::_,_,h | .bl _::_,_,h | .int _::_,_,h | .ty _::_,_,h | .tup _::_,_,h | .fl _::_,_,h | .ref _::_,_,h=>by cases h
end
section
variable{S:PB}{G:DH}
@[simp]theorem r?{e:DE}{b a:Option DE}:JL e b a S G=(e S G).bind λd c=>(Lh b S c).bind λl i=>(Lh a S i).bind λh g=>Gk d l h g:=id rfl
@[simp]theorem F4:Lh u8 S G=.ok u8 G:=id rfl
@[simp]theorem F5:Lh (u7 t) S G=(t S G).bind λd a=>match d with | .int i=>.ok (u7 i) a|_=>.bad:=id rfl
@[simp]theorem Oj{z:Str}{b a:Option Int}:Gk (.str z) b a G=if z.length<=1000000 then .ok (.str (Im z b a)) G else .bad:=id rfl
@[simp]theorem Og{xs:List D}{a b:Option Int}:Gk (.fl xs) a b G=.ok (.ref G.length) (G++[.lst (cutD xs a b)]):=id rfl
@[simp]theorem F6:Gf [.fl xs] G=.ok (.ref (lN G)) (G++[.lst xs]):=id rfl
@[simp]theorem F7:Gf [.tup xs] G=.ok (.ref (lN G)) (G++[.lst xs]):=id rfl
@[simp]theorem M8:Do (.fl xs) (.fl ys) G=if lN xs+lN ys<=1000000 then .ok (.ref (lN G)) (G++[.lst (xs++ys)])else .bad:=id rfl
end
end _D
namespace _D
open PySem PySem.Spec _L
open PyProof.Rows hiding St
open Builtin.Str
section
variable(p:Nat->Bool)(m:Nat)
end
def NK(g:DG)(c:DB)(te:DE)(S:PB)(G:DH)(x:D)(r:Option D):Prop:=
 ∃S1,g x S G=.ok S1 G/\((c S1 G=.ok uA G/\r=u8)\/(c S1 G=.ok u9 G/\∃d,te S1 G=.ok d G/\r=u7 d))
theorem bt(e:G[i]?=u7 (.lst xs))(h:∀x∈xs,NK g c te S G x (F x)):
  ∀(n j:Nat),j+n=lN xs->Es i g c te S n j G=.ok ((xs.drop j).filterMap F) G
 |0,j,o=>by
  unfold Es;rw[e];simp only;rw[if_pos (by lia),qE (by lia)]
  rfl
 |n+1,j,o=>by
  have a:j<lN xs:=by lia
  have k:=bt e h n (j+1) (by lia);obtain⟨r,l,b⟩:=h xs[j] (qK a);unfold Es;rw[e];simp only;rw[zJ a];simp[l,R.Eb];rw[zO a,qR];rcases b with⟨b,f⟩|⟨b,d,f,q⟩
  .simp[b,f,k]
  simp[b,f,q,k]
def bv(a:G[i]?=u7 (.lst xs))(h:∀x∈xs,NK g c te S G x (F x)):
  Es i g c te S (lN xs) 0 G=.ok (xs.filterMap F) G:=bt a h (lN xs) 0 (by lia)
end _D
namespace _D
open PySem PySem.Spec _L
open PyProof.Rows hiding St
inductive Src where
 |l (a:vX)
 |t (a:vX)
noncomputable def Src.NM:Src->String
 |.l _=>"list_iterator"
 |.t _=>"tuple_iterator"
noncomputable def Src.OB:Src->vX
 |.l a=>a
 |.t a=>a
def Src.it(h:Heap)(p:vX)(k:Nat)(sr:Src):Prop:=∃o,h.get? p=u7 o/\o.cls=.type sr.NM/\o.data=.fields #[.ref sr.OB,.int k 0]
def Src.val(h:Heap)(xs:Array vk):Src->Prop
 |.l a=>h.IsList a xs
 |.t a=>h.IsTuple a xs
def Src.it.at{a:Src}{h h':Heap}{p:vX}{k:Nat}(x:a.it h p k)(e:∀o,h.get? p=u7 o->h'.get? p=u7 o):a.it h' p k:=let⟨o,b,r⟩:=x;⟨o,e o b,r⟩
theorem Src.val.at{b:Src}{h h':Heap}{xs:Array vk}(x:b.val h xs)(e:∀o,h.get? b.OB=u7 o->h'.get? b.OB=u7 o):b.val h' xs:=by
 cases b with
 |_=>obtain⟨o,c,r⟩:=x;exact⟨o,e o c,r⟩
def Src.it.lt{a:Src}{h:Heap}{p:vX}{k:Nat}(x:a.it h p k):p<h.objs.size:=let⟨_,b,_⟩:=x;zA b
section
variable{prog:vq}{w:vA}{A:vV}{E:vk->vj->Prop}{s:vj}
theorem Src.val.obj{c:Src}{h:Heap}{xs:Array vk}(x:c.val h xs):∃o n,h.get? c.OB=u7 o/\o.data=.seq xs n:=by
 cases c with
 |_=>obtain⟨o,d,_,n,b⟩:=x;exact⟨o,n,d,b⟩
theorem Src.IH{f:Src}{p:vX}{k:Nat}{xs:Array vk}{x:vk}{Q:vk->vj->Prop}(d:f.it s.heap p k)(n:f.val s.heap xs)(r:xs[k]?=u7 x)
  (i:∀h',f.it h' p (k+1)->jX p s.heap h'->Q x {s with heap:=h'}):wW (vR prog w) A (qg (.ref p)) Q E s:=by
 cases f with
 |l a=>exact wpAny_nextOf_list_item (d) n r i
 |t a=>
  obtain⟨o,e,q,c⟩:=id d;obtain⟨u,h,_,v,g⟩:=n;have j:s.TypeIs (.ref p) "tuple_iterator":=⟨o,e,q⟩;unfold qg;refine wq (wz j je (wj je j uV ?_ (uW _)));refine wq (m:=field (.ref p) 0) (wx e c (x:=.ref a) rfl ?_)
  rw[if_neg (show¬((.ref a==Value.none)=u9)from zH)]
  refine wq (wx e c rfl (wq (wpAny_seqItems h g ?_)));simp[Int.toNat_natCast,r];refine wq (wpAny_setField e c (by simp) (w6 ⟨x,rfl,w6 (i _ ⟨_,xC _ e (Obj.isFreed_of_fields (Obj.data_mapFields c _)),(Obj.cls_mapFields ..).trans q,?_⟩ (.update ..))⟩));rw[Obj.data_mapFields c];simp[vS,Src.OB]
theorem Src.II{f:Src}{p:vX}{k:Nat}{xs:Array vk}{Q:vk->vj->Prop}(j:A.handled=u8)(c:f.it s.heap p k)(q:f.val s.heap xs)(u:xs[k]?=u8)
  (r:∀h' e,Heap.ExtBut p s.heap h'->(∃o,h'.get? e=u7 o/\o.cls=.type "StopIteration")->E (.ref e) {s with heap:=h'}):wW (vR prog w) A (qg (.ref p)) Q E s:=by
 cases f with
 |l a=>exact wpAny_nextOf_list_end j (c) q u r
 |t a=>
  obtain⟨o,d,v,g⟩:=id c;obtain⟨y,i,_,z,h⟩:=q;have n:s.TypeIs (.ref p) "tuple_iterator":=⟨o,d,v⟩;unfold qg;refine wq (wz n je (wj je n uV ?_ (uW _)));refine wq (m:=field (.ref p) 0) (wx d g (x:=.ref a) rfl ?_)
  rw[if_neg (show¬((.ref a==Value.none)=u9)from zH)]
  refine wq (wx d g rfl (wq (wpAny_seqItems i h ?_)));simp[Int.toNat_natCast,u];refine wq (wpAny_rule (wq (wpAny_setField d g (by simp) (wq ?_))));simp[newExc,newTuple]
  refine wq (wk (wq (wpAny_of_eq (by first|rfl|(simp[firstArgMember];rfl)) (wk ?_ (by size_fits)))) (by size_fits))
  simp only[raiseNew];refine wq (wpAny_handled ?_)
  first|rw[j]|rw[j]
  exact wq (w6 (wpAny_throw (r _ _ (((jX.update ..).extBut.push _).push _) ⟨_,z3 _ rfl,rfl⟩)))
theorem Src.iter{c:Src}{xs:Array vk}{Q:vk->vj->Prop}(e:c.val s.heap xs)
  (f:Q (.ref s.heap.objs.size) {s with heap:=s.heap.push {cls:=.type c.NM,data:=.fields #[.ref c.OB,.int 0 0]}}):wW (vR prog w) A (pyIter (.ref c.OB)) Q E s:=by
 cases c with
 |l a=>exact wpAny_pyIter_list e f
 |t a=>exact wpAny_pyIter_tuple e f
end
abbrev En(h:Heap)(e it:vX)(f0:vk)(i:Int)(g old:vk):Prop:=
 h.get? e=u7 {cls:=.type "enumerate",dict:=u8,data:=.fields #[f0,.bool uA,.ref it,vS i,g,old],slots:= #[]}
def Gv(i:Int)(g:vk):Prop:=g=.none\/∃t,g=.int i t
section
variable{prog:vq}{w:vA}{A:vV}{E:vk->vj->Prop}{s:vj}
def tL{sr:Src}{e it:vX}{k:Nat}{i:Int}{xs:Array vk}{x g z:vk}{Q:vk->vj->Prop}(he:En s.heap e it .none i g z)(hg:Gv i g)(WX:sr.it s.heap it k)(hv:sr.val s.heap xs)(hx:xs[k]?=u7 x)(K:e≠it)
  (hQ:∀h' t tk,En h' e it (vS s.heap.objs.size) (i+1) .none x->sr.it h' it (k+1)->h'.get? s.heap.objs.size=u7 {cls:=.type "tuple",data:=.seq #[.int i t,x]}->h'.objs.size=s.heap.objs.size+1->
   (∀b o,b≠e->b≠it->s.heap.get? b=u7 o->h'.get? b=u7 o)->Q (.ref s.heap.objs.size) {s with heap:=h',toks:=tk}):
  wW (vR prog w) A (Builtin.«enumerate.__next__» ⟨[.ref e],[]⟩) (λO s'=>∃v,O=.done (.ret v)/\Q v s') E s:=by
 obtain⟨hp,gg,d,tk,os⟩:=s;refine wq (m:=field (.ref e) 2) (wx he rfl rfl (wq (Src.IH WX hv hx λU J p=>?_)));have n:=(p.2 e K).trans he;refine wq (wx n rfl rfl ?_);refine wq (wx n rfl (x:=g) rfl ?_)
 have rest:∀(t:Tok)(P:Nat),wW (vR prog w) A (do
   setField (.ref e) 3 (vS (i+1));setField (.ref e) 4 .none
   let result<-newTuple [.int i t,x]
   if<-vd (.ref e)then
    rule "enumerate.__next__.owned-tuple-again"
    let z<-field (.ref e) 5
    setField (.ref e) 5 x
    ve (.ref e) result
    PySem.letGo [z] [result]
   ret result) (λO s'=>∃v,O=.done (.ret v)/\Q v s') E ⟨U,gg,d,P,os⟩:=by
  intro t P;refine wq (w8 n (by simp) λh₂ S j=>?_);refine wq (w8 S (by simp) λH l h=>?_)
  replace l:En H e it .none (i+1) .none z:=l
  have y:H.objs.size=hp.objs.size:=by rw[h.1];rw[j.1];exact p.1
  refine wq (wpAny_newTuple ?_);generalize c:H.push {cls:=.type "tuple",data:=.seq [Value.int i t,x].toArray}=f;have u:En f e it .none (i+1) .none z:=by rw[<-c];exact zX _ l
  have N:f.get? hp.objs.size=u7 {cls:=.type "tuple",data:=.seq #[.int i t,x]}:=by rw[<-c,<-y];exact z3 _ rfl
  have z₄:f.objs.size=hp.objs.size+1:=by rw[<-c,jV,y]
  have k₄:∀b o,b≠e->b≠it->hp.get? b=u7 o->f.get? b=u7 o:=λb o M W q=>by rw[<-c];exact zX _ ((λb o M W q=>h.extBut b o M (j.extBut b o M ((λb o _ Z q=>p.extBut b o Z q) b o M W q))) b o M W q)
  have X:sr.it f it (k+1):=((J.at λo q=>j.extBut it o (.symm K) q).at λo q=>h.extBut it o (.symm K) q).at λo q=>by rw[<-c];exact zX _ q
  have ez:=zA he;refine wq ?_;unfold vd;refine wq (wx u rfl rfl (w6 ?_));simp[if_true];refine wq (wpAny_rule (wq (wx u rfl (x:=z) rfl (wq (w8 u (by simp) λY r B=>?_)))))
  replace r:En Y e it .none (i+1) .none x:=r
  refine wq ?_;unfold ve;refine wq (w8 r (by simp) λh₆ T C=>?_);refine w8 T (by simp) λL I F=>?_
  refine wq (wpAny_letGo (w6 ⟨_,rfl,?_⟩));have up:∀b o,b≠e->f.get? b=u7 o->L.get? b=u7 o:=λb o Z q=>F.extBut b o Z (C.extBut b o Z (B.extBut b o Z q))
  rw[y];rw[y]at I;exact hQ L t P I (X.at λo q=>up it o (.symm K) q) (up _ _ (jx ez) N) (by rw[F.1];rw[C.1];rw[B.1];exact z₄) λb o M W q=>up b o M (k₄ b o M W q)
 rcases hg with rfl|⟨t,rfl⟩
 .exact wq (wpAny_mkInt (rest tk (tk+1)))
 exact wq (w6 (rest t tk))
def tM{c:Src}{e it:vX}{k:Nat}{i:Int}{xs:Array vk}{x g h:vk}{Q:Option vk->vj->Prop}(m:En s.heap e it .none i g h)(p:Gv i g)(d:c.it s.heap it k)(q:c.val s.heap xs)(B:xs[k]?=u7 x)(f:e≠it)
  (y:∀h' t tk,En h' e it (vS s.heap.objs.size) (i+1) .none x->c.it h' it (k+1)->h'.get? s.heap.objs.size=u7 {cls:=.type "tuple",data:=.seq #[.int i t,x]}->h'.objs.size=s.heap.objs.size+1->
   (∀b o,b≠e->b≠it->s.heap.get? b=u7 o->h'.get? b=u7 o)->Q (u7 (.ref s.heap.objs.size)) {s with heap:=h',toks:=tk}):
  wW (vR prog w) A (pyNext (.ref e)) Q E s:=by
 have l:s.TypeIs (.ref e) "enumerate":=⟨_,m,rfl⟩;unfold pyNext;exact wq (wpAny_attempt (wz l jf
  (wj jf l uK (tL m p d q B f λh' t tk z u r n v=>w6 (y h' t tk z u r n v)) (uY _))))
def tN{l:Src}{e it:vX}{k:Nat}{i:Int}{xs:Array vk}{g c:vk}{Q:Option vk->vj->Prop}(r:A.handled=u8)(j:En s.heap e it .none i g c)(b:l.it s.heap it k)(p:l.val s.heap xs)(u:xs[k]?=u8)
  (n:∀h',Heap.ExtBut it s.heap h'->Q u8 {s with heap:=h'}):wW (vR prog w) A (pyNext (.ref e)) Q E s:=by
 have h:s.TypeIs (.ref e) "enumerate":=⟨_,j,rfl⟩;unfold pyNext;refine wq (wpAny_attempt (wz h jf
  (wj jf h uK (wq (m:=field (.ref e) 2) (wx j rfl rfl (wq (Src.II r b p u λh' x f d=>?_)))) (uY _))))
 obtain⟨o,t,q⟩:=d;exact wq (wpAny_isInstance ⟨o,t,q⟩ isSubtype_stop (w6 (n _ f)))
def tO{elts:List vW}{x1}{pos:Pos}{e it a:vX}{i:Int}{g c:vk}{Q:Unit->vj->Prop}(h:En s.heap e it (vS a) i g c)
  (j:∀h',En h' e it .none i g c->jX e s.heap h'->Q () {s with heap:=h'}):wW (vR prog w) A (vO (.Tuple elts x1 pos) (.ref e) (.ref a)) Q E s:=by
 unfold vO;refine wq (wpAny_load h ?_);dsimp only;rw[if_pos (by simp)];exact wq (wpAny_rule (w8 h (by simp) λh' d f=>j h' d f))
def bx(b:En s.heap e it f0 i g old)(h:Q (.ref e) s):wW (vR prog w) A (pyIter (.ref e)) Q E s:=by have a:s.TypeIs (.ref e) "enumerate":=⟨_,b,rfl⟩;exact wpAny_pyIter_slot a uq (wj uq a PySem.F.entry_enumerate_iter (w6 ⟨_,rfl,"enumerate",_,a,PySem.F.slot_enumerate_next.lookup,h⟩) (PySem.F.args_enumerate_iter_1 _))
end
abbrev Tp(h:Heap)(T:vX)(xs:List vk):Prop:=h.get? T=u7 {cls:=.type "tuple",data:=.seq xs.toArray}
inductive RN (h:Heap) (i:Nat):List (Src×vX)->List vk->Prop where
 |nil:RN h i [] []
 |cons {sr p r x us xs} (WX:Src.it h p i sr) (hv:sr.val h xs) (hx:xs[i]?=u7 x) (t:RN h i r us):RN h i ((sr,p)::r) (x::us)
theorem RN.length(d:RN h i l us):us.length=l.length:=by
 induction d with
 |nil=>rfl
 |cons _ _ _ _ a=>simp[a]
section
variable{prog:vq}{w:vA}{A:vV}{E:vk->vj->Prop}{s:vj}
def tP(b:Tp s.heap T xs)(hz:lN xs<=1000000)
  (h:∀h',Tp h' T (xs.set k x)->jX T s.heap h'->Q () {s with heap:=h'}):wW (vR prog w) A (updateSeq T (·.setIfInBounds k x)) Q E s:=by
 have c:=zy▸zG hz VB;refine wpAny_updateSeq b rfl (h _ ?_ (.update ..)) c (by rw[Array.size_setIfInBounds];exact Nat.le_succ_of_le c);show(s.heap.update T _).get? T=_;rw[xC _ b rfl];simp[Obj.mapSeq]
def ZS(prog:vq)(w:vA)(A:vV)(E:vk->vj->Prop)(z TO p:vX)(k:Nat)(R:vj->Prop)(s:vj):Prop:=
 wW (vR prog w) A (qg (.ref p)) (λx s1=>∃os,Tp s1.heap TO os/\lN os<=1000000/\∀h',Tp h' TO (os.set k x)->jX TO s1.heap h'->R {s1 with heap:=h'})
  (λe s'=>wW (vR prog w) A (setField (.ref z) 0 .none) (λ_ NT=>E e NT) E s') s
def bz{z TO p:vX}{k i:Nat}{r:Src}{xs:Array vk}{x:vk}{q:List vk}{Q:vj->Prop}(l:Tp s.heap TO q)(hz:lN q<=1000000)(j:r.it s.heap p i)(y:r.val s.heap xs)(F:xs[i]?=u7 x)
  (h:∀h',Tp h' TO (q.set k x)->r.it h' p (i+1)->(∀b o,b≠TO->b≠p->s.heap.get? b=u7 o->h'.get? b=u7 o)->h'.objs.size=s.heap.objs.size->Q {s with heap:=h'}):ZS prog w A E z TO p k Q s:=by
 have m:TO≠p:=λe=>by
  obtain⟨o,u,C,_⟩:=j;rw[<-e,l]at u;cases u
  cases r<;>(simp[Src.NM]at C)
 exact Src.IH j y F λt f d=>⟨q,d.extBut _ _ m l,hz,λn g c=>(h n g (f.at λo e=>c.extBut _ _ (.symm m) e) (λb o B v e=>c.extBut b o B (d.extBut b o v e)) (by rw[c.1];rw[d.1]))⟩
theorem cA{z TO:vX}{i:Nat}{m:vk×Nat->Option Fin×PUnit->Sem (ForInStep (Option Fin×PUnit))}{R:Option Fin×PUnit->vj->Prop}
  (hb:∀(p:vX)(k:Nat)(s:vj)(R':ForInStep (Option Fin×PUnit)->vj->Prop),ZS prog w A E z TO p k (λs'=>R' (.yield (u8,⟨⟩)) s') s->
   wW (vR prog w) A (m (.ref p,k) (u8,⟨⟩)) R' E s):
  ∀(l:List (Src×vX))(us pre post:List vk)(s:vj),RN s.heap i l us->Tp s.heap TO (pre++post)->lN post=lN l->lN (pre++post)<=1000000->(l.map (·.2)).Nodup->(∀q∈l,q.1.OB≠TO)->(∀q∈l,∀r∈l,q.1.OB≠r.2)->
   (∀h',Tp h' TO (pre++us)->(∀q∈l,q.1.it h' q.2 (i+1))->(∀b o,b≠TO->b∉l.map (·.2)->s.heap.get? b=u7 o->h'.get? b=u7 o)->h'.objs.size=s.heap.objs.size->R (u8,⟨⟩) {s with heap:=h'})->
   wW (vR prog w) A (forIn ((l.map λq=>Value.ref q.2).zipIdx (lN pre)) (u8,⟨⟩) m) R E s
 | [],us,pre,post,s,d,H,u,J,O,N,C,M=>by
  cases d;cases post with
  |cons _ _=>simp at u
  |nil=>
   rw[qV,List.zipIdx_nil,List.forIn_nil];exact w6 (M s.heap H (λq a=>by cases a) (λb o _ _ e=>e) rfl)
 | (P,p)::l,us,pre,post,s,d,H,u,J,O,N,C,M=>by
  cases d with
  |@cons _ _ _ x us xs h hv hx d=>
  cases post with
  |nil=>simp at u
  | cons y post=>
   rw[zK,qP,xz];refine wq (hb p (lN pre) s _ (bz H J h hv hx λh' g it' kp sz=>?_));have X:(pre++y::post).set (lN pre) x=(pre++[x])++post:=by simp
   rw[X]at g;have W:lN pre+1=lN (pre++[x]):=by simp
   dsimp only;rw[W]
   have f:p∉l.map (·.2)/\(l.map (·.2)).Nodup:=by simpa using O
   have j:∀q∈l,q.2≠TO:=λq a e=>by
    have:∃P k,Src.it s.heap q.2 k P:=by
     clear M N C O f X W u g J
     induction d with
     |nil=>cases a
     |cons h _ _ _ U=>
      rcases z0.mp a with rfl|a
      .exact⟨_,_,h⟩
      exact U a
    obtain⟨sr',k,o,L,Y,_⟩:=this;rw[e,H]at L;cases L
    cases sr'<;>(simp[Src.NM]at Y)
   have d':RN h' i l us:=by
    have F:∀q∈l,q.1.OB≠TO:=λq a=>N q (zV _ a)
    have I:∀q∈l,q.1.OB≠p:=λq a=>C q (zV _ a) (P,p) zk
    have pp:∀q∈l,q.2≠p:=λq a e=>f.1 (qw.mpr ⟨q,a,e⟩)
    clear M N C O f X W u g J
    induction d with
    |nil=>exact .nil
    |@cons sr1 p1 r1 x1 us1 xs1 B T Z t1 U=>
     exact .cons (B.at λo e=>kp _ o (j _ zk) (pp _ zk) e) (T.at λo e=>kp _ o (F _ zk) (I _ zk) e) Z (U (λq a=>j q (zV _ a)) (λq a=>F q (zV _ a)) (λq a=>I q (zV _ a)) (λq a=>pp q (zV _ a)))
   refine cA hb l us (pre++[x]) post {s with heap:=h'} d' g (by simpa using u) (by simpa using J) f.2 (λq a=>N q (zV _ a)) (λq a r hr=>C q (zV _ a) r (zV _ hr)) λS Q t n v=>?_
   have K:p≠TO:=λe=>by
    obtain⟨o,L,Y,_⟩:=h;rw[e,H]at L;cases L
    cases P<;>(simp[Src.NM]at Y)
   refine M S (by simpa using Q) (λq a=>?_) (λb o b1 b2 e=>?_) (v.trans sz)
   .rcases z0.mp a with rfl|a
    .exact it'.at λo e=>n _ o K f.1 e
    exact t q a
   simp only[zK,z0,not_or]at b2;exact n b o b1 b2.2 (kp b o b1 b2.1 e)
end
inductive WG (h:Heap) (i:Nat):List (Src×vX)->Prop where
 |here {sr p r xs} (WX:Src.it h p i sr) (hv:sr.val h xs) (hx:xs[i]?=u8):WG h i ((sr,p)::r)
 |there {sr p r x xs} (WX:Src.it h p i sr) (hv:sr.val h xs) (hx:xs[i]?=u7 x) (t:WG h i r):WG h i ((sr,p)::r)
structure PQ (TO:vX) (l:List (Src×vX)):Prop where
 nd:(l.map (·.2)).Nodup
 na:∀q∈l,q.1.OB≠TO
 np:∀q∈l,∀r∈l,q.1.OB≠r.2
 to:∀q∈l,q.2≠TO
def PQ.tail{TO:vX}{q:Src×vX}{l:List (Src×vX)}(a:PQ TO (q::l)):PQ TO l:=
 ⟨(jT.mp (by simpa using a.nd)).2,λq b=>a.na q (zV _ b),λq b r c=>a.np q (zV _ b) r (zV _ c),λq b=>a.to q (zV _ b)⟩
section
variable{prog:vq}{w:vA}{A:vV}{E:vk->vj->Prop}{s:vj}
theorem WG.at{TO p:vX}{u:Src}{i:Nat}{h h':Heap}{l:List (Src×vX)}(a:PQ TO ((u,p)::l))(j:∀b o,b≠TO->b≠p->h.get? b=u7 o->h'.get? b=u7 o)(d:WG h i l):WG h' i l:=by
 have n:∀q∈l,q.2≠p:=λq f e=>(jT.mp (by simpa using a.nd)).1 (qw.mpr ⟨q,f,e⟩)
 have k:∀q∈l,q.1.OB≠p:=λq f=>a.np q (zV _ f) (u,p) zk
 have g:=a.tail;clear a
 induction d with
 |here c m r=>exact .here (c.at λo e=>j _ o (g.to _ zk) (n _ zk) e) (m.at λo e=>j _ o (g.na _ zk) (k _ zk) e) r
 | there c m r t v=>
  exact .there (c.at λo e=>j _ o (g.to _ zk) (n _ zk) e) (m.at λo e=>j _ o (g.na _ zk) (k _ zk) e) r
   (v (λq f=>n q (zV _ f)) (λq f=>k q (zV _ f)) g.tail)
theorem cB{z TO:vX}{i:Nat}{f:vk×Nat->Option Fin×PUnit->Sem (ForInStep (Option Fin×PUnit))}{R:Option Fin×PUnit->vj->Prop}(M:A.handled=u8)
  (J:∀(p:vX)(k:Nat)(s:vj)(K:ForInStep (Option Fin×PUnit)->vj->Prop),ZS prog w A E z TO p k (λs'=>K (.yield (u8,⟨⟩)) s') s->
   wW (vR prog w) A (f (.ref p,k) (u8,⟨⟩)) K E s):
  ∀(l:List (Src×vX))(m:List vk)(n:Nat)(s:vj),WG s.heap i l->Tp s.heap TO m->lN m<=1000000->PQ TO l->
   (∀h' e,(∀b o,b≠TO->b∉l.map (·.2)->s.heap.get? b=u7 o->h'.get? b=u7 o)->(∃o,h'.get? e=u7 o/\o.cls=.type "StopIteration")->wW (vR prog w) A (setField (.ref z) 0 .none) (λ_ F=>E (.ref e) F) E {s with heap:=h'})->
   wW (vR prog w) A (forIn ((l.map λq=>Value.ref q.2).zipIdx n) (u8,⟨⟩) f) R E s
 |[],m,n,s,d,I,B,a,y=>by cases d
 | (P,p)::l,m,n,s,d,I,B,a,y=>by
  rw[zK,qP,xz];refine wq (J p n s _ ?_);cases d with
  |here g v H=>
   exact Src.II M g v H λh' e N x=>y h' e (λb o C h q=>N b o (λz=>h (by rw[z];simp)) q) x
  |there g v H t=>
   refine bz I B g v H λh' u O L sz=>?_
   refine cB M J l _ (n+1) {s with heap:=h'} (t.at a L) u (by simpa using B) a.tail λr e j x=>?_
   refine y r e (λb o C h q=>?_) x;simp only[zK,z0,not_or]at h;exact j b o C h.2 (L b o C h.1 q)
def cC{z TI TO:vX}{l:List (Src×vX)}{R:Fin->vj->Prop}(hz:IsZip s.heap z TI TO .none)(F:Tp s.heap TI (l.map λq=>Value.ref q.2))(J:l≠[])
  (h:∀c,IsZip c z TI TO .ellipsis->jX z s.heap c->∀f:vk×Nat->Option Fin×PUnit->Sem (ForInStep (Option Fin×PUnit)),
   (∀(p:vX)(k:Nat)(s:vj)(H:ForInStep (Option Fin×PUnit)->vj->Prop),ZS prog w A E z TO p k (λs'=>H (.yield (u8,⟨⟩)) s') s->
    wW (vR prog w) A (f (.ref p,k) (u8,⟨⟩)) H E s)->
   wW (vR prog w) A (forIn ((l.map λq=>Value.ref q.2).zipIdx 0) (u8,⟨⟩) f) (λr s'=>r.1=u8/\∃us,Tp s'.heap TO us/\lN us<=1000000/\IsZip s'.heap z TI TO .ellipsis/\
    ∀h',IsZip h' z TI TO (vS s'.heap.objs.size)->Tp h' s'.heap.objs.size us->h'.objs.size=s'.heap.objs.size+1->(∀b o,b≠z->s'.heap.get? b=u7 o->h'.get? b=u7 o)->R (.done (.ret (.ref s'.heap.objs.size))) {s' with heap:=h'}) E {s with heap:=c}):
  wW (vR prog w) A (Builtin.«zip.__next__» ⟨[.ref z],[]⟩) R E s:=by
 refine wq (m:=field (.ref z) 2) (wx hz rfl (x:=.bool uA) rfl (wq (wx hz rfl rfl (wq (wpAny_seqItems F rfl ?_)))));dsimp only;have y:(l.map λq=>Value.ref q.2).toArray.isEmpty=uA:=by cases l with
  |nil=>exact absurd rfl J
  |cons _ _=>simp
 rw[y];refine wq ?_;unfold vd;refine wq (wx hz rfl rfl (w6 ?_));simp only[if_true];refine wq (wpAny_rule (wq (wx hz rfl rfl (wq (w8 hz (by simp) λc j t=>?_)))));refine wq (ww (h c j t _ λp k s H C=>?_) (λr s' Q=>?_) λ_ _ x=>x)
 .refine wq (wpAny_onRaise ?_);refine wq (ww C (λx U T=>w6 ?_) λ_ _ x=>x);obtain⟨W,B,I,K⟩:=T;dsimp only;refine wq (wpAny_seqItems B rfl ?_);dsimp only;exact wq (tP B I λh' P S=>wq (wpAny_letGo (w6 (K h' P S))))
 .obtain⟨N,us,B,I,v,K⟩:=Q;rw[N];dsimp only;refine wq (wpAny_seqItems B rfl ?_);dsimp only;refine wq (wpAny_newTuple ?_ (by simpa using zG I VB));have g:=zA v;refine wq ?_;unfold ve;have O:us.toArray.toList.toArray=us.toArray:=by simp
  rw[O];refine wq (w8 (zX _ v) (by simp) λL n e=>?_);refine w8 n (by simp) λu i d=>?_
  refine w6 (K u i (d.extBut _ _ (jx g) (e.extBut _ _ (jx g) (z3 _ rfl))) ?_ λb o M q=>d.extBut _ _ M (e.extBut _ _ M (zX _ q)));rw[d.1];rw[e.1,jV]
def tQ{z TI TO:vX}{i:Nat}{l:List (Src×vX)}{us W:List vk}{Q:Option vk->vj->Prop}(hz:IsZip s.heap z TI TO .none)(I:Tp s.heap TI (l.map λq=>Value.ref q.2))(U:Tp s.heap TO W)(n:W.length=l.length)(hsz:l.length<=1000000)(N:l≠[])
  (a:PQ TO l) (y:z≠TO/\(∀q∈l,q.2≠z/\q.1.OB≠z)) (d:RN s.heap i l us)
  (Y:∀h',IsZip h' z TI TO (vS s.heap.objs.size)->Tp h' TO us->(∀q∈l,q.1.it h' q.2 (i+1))->Tp h' s.heap.objs.size us->h'.objs.size=s.heap.objs.size+1->
   (∀b o,b≠z->b≠TO->b∉l.map (·.2)->s.heap.get? b=u7 o->h'.get? b=u7 o)->Q (u7 (.ref s.heap.objs.size)) {s with heap:=h'}):wW (vR prog w) A (pyNext (.ref z)) Q E s:=by
 have Z:s.TypeIs (.ref z) "zip":=⟨_,hz,rfl⟩;unfold pyNext;refine wq (wpAny_attempt (wz Z jg (wj jg Z uz ?_ (uj _))));refine cC hz I N λh x m body T=>?_
 have g:∀b o,b≠z->s.heap.get? b=u7 o->h.get? b=u7 o:=λb o T q=>m.extBut b o T q
 have O:RN h i l us:=by
  have S:=y.2;clear I n hsz N a y Y
  induction d with
  |nil=>exact .nil
  |cons X hv hx t ih=>exact .cons (X.at λo e=>g _ o (S _ zk).1 e) (hv.at λo e=>g _ o (S _ zk).2 e) hx (ih λq C=>S q (zV _ C))
 refine cA T l us [] W {s with heap:=h} O (g _ _ (.symm y.1) U) n (by simpa[n]using hsz) a.nd a.na a.np λL r B u v=>⟨rfl,us,r,d.length▸hsz,?_,λM H J P K=>?_⟩
 .refine u _ _ y.1 (λhm=>?_) x;obtain⟨q,C,e⟩:=qw.mp hm;exact(y.2 q C).1 e
 have e2:=v▸m.1;refine⟨_,rfl,w6 ?_⟩;have p:=H;have k:=J;have j:=P;have f:=K;rw[e2]at p k j⊢;exact Y M p (f _ _ (.symm y.1) r) (λq C=>(B q C).at λo e=>f _ o (y.2 q C).1 e) k j λb o b1 b2 b3 q=>f b o b1 (u b o b2 b3 (g b o b1 q))
def tR{z TI TO:vX}{i:Nat}{l:List (Src×vX)}{P:List vk}{Q:Option vk->vj->Prop}(hh:A.handled=u8)(hz:IsZip s.heap z TI TO .none)(u:Tp s.heap TI (l.map λq=>Value.ref q.2))(M:Tp s.heap TO P)(m:lN P=lN l)(hsz:lN l<=1000000)(H:l≠[])
  (a:PQ TO l) (y:z≠TO/\(∀q∈l,q.2≠z/\q.1.OB≠z)) (d:WG s.heap i l)
  (T:∀h',(∀b o,b≠z->b≠TO->b∉l.map (·.2)->s.heap.get? b=u7 o->h'.get? b=u7 o)->Q u8 {s with heap:=h'}):wW (vR prog w) A (pyNext (.ref z)) Q E s:=by
 have U:s.TypeIs (.ref z) "zip":=⟨_,hz,rfl⟩;unfold pyNext;refine wq (wpAny_attempt (wz U jg (wj jg U uz ?_ (uj _))));refine cC hz u H λg n p X L=>?_
 have f:∀b o,b≠z->s.heap.get? b=u7 o->g.get? b=u7 o:=λb o L q=>p.extBut b o L q
 have I:WG g i l:=by
  have v:=y.2;clear u m hsz H a y T
  induction d with
  |here r J S=>exact .here (r.at λo e=>f _ o (v _ zk).1 e) (J.at λo e=>f _ o (v _ zk).2 e) S
  |there r J S t Z=>exact .there (r.at λo e=>f _ o (v _ zk).1 e) (J.at λo e=>f _ o (v _ zk).2 e) S (Z λq K=>v q (zV _ K))
 refine cB (A:=A.in1) (hh) L l P 0 {s with heap:=g} I (f _ _ (.symm y.1) M) (m▸hsz) a λB e k st=>?_
 have h:IsZip B z TI TO .ellipsis:=by refine k _ _ y.1 (λhm=>?_) n;obtain⟨q,K,e⟩:=qw.mp hm;exact(y.2 q K).1 e
 obtain⟨o,O,W⟩:=st;have N:e≠z:=λx=>by subst x;rw[h]at O;cases O;simp at W
 refine w8 h (by simp) λC _ j=>?_
 exact wq (wpAny_isInstance ⟨o,j.extBut _ _ N O,W⟩ isSubtype_stop (w6 (T C λb o Y b2 b3 q=>j.extBut _ _ Y (k b o b2 b3 (f b o Y q)))))
theorem cD:∀(c:List Src)(pre:Array vk)(s:vj){Q:Array vk->vj->Prop},(∀d∈c,∃xs,d.val s.heap xs)->
  (∀h',(∀q∈c.zipIdx s.heap.objs.size,q.1.it h' q.2 0)->h'.objs.size=s.heap.objs.size+lN c->(∀b o,s.heap.get? b=u7 o->h'.get? b=u7 o)->Q (pre++((c.zipIdx s.heap.objs.size).map λq=>Value.ref q.2).toArray) {s with heap:=h'})->
  wW (vR prog w) A (forIn (c.map λd=>Value.ref d.OB) pre λx r=>do let v<-holding r.toList (pyIter x);pure (ForInStep.yield (r.push v))) Q E s
 |[],pre,s,Q,j,h=>by rw[qV,List.forIn_nil];refine w6 ?_;have:=h s.heap (λq f=>by cases f) rfl (λ_ _ e=>e);simpa using this
 | d::c,pre,s,Q,j,h=>by
  rw[zK,xz];obtain⟨xs,y⟩:=j d zk;refine wq (wq (wv (Src.iter y (w6 ?_))));dsimp only;refine cD c (pre.push (.ref s.heap.objs.size)) {s with heap:=s.heap.push {cls:=.type d.NM,data:=.fields #[.ref d.OB,.int 0 0]}} (λl t=>?_) λh' i k g=>?_
  .obtain⟨u,p⟩:=j l (zV _ t);exact⟨u,p.at λo e=>zX _ e⟩
  dsimp only at i k g⊢;rw[jV ..]at i k⊢;have:=h h' (λq f=>?_) (by rw[k,zD];lia) (λb o e=>g b o (zX _ e))
  .rw[qP,zK]at this;simpa using this
  .rw[qP]at f;rcases z0.mp f with rfl|f
   .exact⟨_,g _ _ (z3 _ rfl),rfl,rfl⟩
   exact i q f
def tS{c:List Src}{Q:vk->vj->Prop}(r:∀d∈c,∃xs,d.val s.heap xs)(H:lN c<=1000000)
  (y:checkTypeCall "zip" ⟨c.map λd=>Value.ref d.OB,[]⟩=pure ()) (t:checkBuiltinCall "zip.__new__" ⟨.type "zip"::c.map λd=>Value.ref d.OB,[]⟩=pure ()) (UA:∀obj,argsOk "object.__init__" ⟨obj::c.map λd=>Value.ref d.OB,[]⟩)
  (h:∀h' n,n=s.heap.objs.size+lN c->IsZip h' (n+2) n (n+1) .none->Tp h' n ((c.zipIdx s.heap.objs.size).map λq=>Value.ref q.2)->Tp h' (n+1) (c.map λ_=>Value.none)->(∀q∈c.zipIdx s.heap.objs.size,q.1.it h' q.2 0)->
   (∀b o,s.heap.get? b=u7 o->h'.get? b=u7 o)->Q (.ref (n+2)) {s with heap:=h'}):
  wW (vR prog w) A (call (.type "zip") (c.map λd=>Value.ref d.OB)) Q E s:=by
 have g:Meets (Builtin.«zip.__new__» ⟨.type "zip"::c.map λd=>.ref d.OB,[]⟩) (λ_ R s=>(∀d∈c,∃xs,d.val s.heap xs)/\
   ∀h' n,n=s.heap.objs.size+lN c->IsZip h' (n+2) n (n+1) .none->Tp h' n ((c.zipIdx s.heap.objs.size).map λq=>.ref q.2)->Tp h' (n+1) (c.map λ_=>.none)->(∀q∈c.zipIdx s.heap.objs.size,q.1.it h' q.2 0)->
    (∀b o,s.heap.get? b=u7 o->h'.get? b=u7 o)->R (.ok (.ret (.ref (n+2)))) {s with heap:=h'}):=
  .of_wp λprog w A R s M=>by
   obtain⟨r,N⟩:=M;have C:=sub_zip;unfold Builtin.«zip.__new__» u4
   wp_walk
   refine cD c #[] s r λk x j u=>w6 ?_
   have L:(#[]++((c.zipIdx s.heap.objs.size).map λq=>.ref q.2).toArray:Array vk).toList=(c.zipIdx s.heap.objs.size).map λq=>.ref q.2:=by simp
   rw[L];have f:lN ((c.zipIdx s.heap.objs.size).map λq=>Value.ref q.2)=lN c:=by simp
   refine wq (wpAny_newTuple ?_ (f▸zG H VB));refine wq (wpAny_newTuple ?_ (by rw[zq,f];exact zG H VB));refine wq ?_;unfold u5;dsimp only;refine wk (w6 ⟨_,rfl,?_⟩) (by simp[sizeOk,u6,vT]);generalize P:s.heap.objs.size+lN c=n at*;have J:((c.zipIdx s.heap.objs.size).map λq=>Value.ref q.2).map (λ_=>.none)=c.map λ_=>Value.none:=by refine jq (by simp) λi k O=>by simp
   dsimp only;rw[J];generalize((c.zipIdx s.heap.objs.size).map λq=>Value.ref q.2)=m at*;generalize(c.map λ_=>Value.none)=B at*;have l:(k.push {cls:=.type "tuple",data:=.seq m.toArray}).objs.size=n+1:=by rw[jV,j]
   have z:((k.push {cls:=.type "tuple",data:=.seq m.toArray}).push {cls:=.type "tuple",data:=.seq B.toArray}).objs.size=n+2:=by rw[jV,l]
   rw[z];refine N _ n rfl ?_ (zX _ (zX _ (by rw[<-j];exact z3 _ rfl))) (zX _ (by rw[<-l];exact z3 _ rfl)) (λq K=>(x q K).at λo e=>zX _ (zX _ (zX _ e))) λb o e=>zX _ (zX _ (zX _ (u b o e)))
   have:=z3 ((k.push {cls:=.type "tuple",data:=.seq m.toArray}).push {cls:=.type "tuple",data:=.seq B.toArray}) (o:={cls:=.type "zip",data:=.fields #[.none,.bool uA,.bool uA,.ref k.objs.size,.ref (k.push {cls:=.type "tuple",data:=.seq m.toArray}).objs.size]}) rfl;rw[z]at this;rw[j,l]at this;rw[j,l];exact this
 refine callType_new PySem.F.called_zip (by decide) y t UA PySem.F.entry_zip_new g ⟨r,λh' n I j p v x u=>⟨⟨_,j,rfl⟩,h h' n I j p v x u⟩⟩
end
end _D
namespace _D
open PySem PySem.W PyProof.Rows
section
def Hr(lt:Nat->Nat->Bool){α:Type}:KasT α->α
 |.ret a=>a
 |.ask i j k=>Hr lt (k (lt i j))
variable{lt:Nat->Nat->Bool}
noncomputable abbrev pt(p:Array Nat)(j:Nat):Nat:=p.getD j 0
end
end _D
namespace _D
open PySem PySem.Spec _L
open PyProof.Rows hiding St
variable{wM:List (vX×Obj)}{elts:List vW}
section
variable{X:Cx}{wM:List (vX×Obj)}{σ:St}{H:Hp}{s:vj}{h':Heap}
def Zj{t':Nat}{fp:List vX}(I:Inv X wM σ H s)(k:∀b o,b∉fp->s.heap.get? b=u7 o->h'.get? b=u7 o)(g:∀b∈fp,QD X wM H b):Inv X wM σ H {s with heap:=h',toks:=t'}:=by
 have f:∀b u,H b=u7 u->b∉fp:=λb u e z=>by rw[(g b z).1]at e;cases e
 refine I.step (λb i=>?_) (λb o _ _ a e _=>k b o a e) (λb o _ _ a e _=>⟨o.slots,k b o a e⟩) (λ_ _ _ _ n=>n)
  (λb o a e=>⟨o,k b o a e⟩) (λ_ _ e=>e) (λ_ _ _ e=>e) (λb C e=>⟨#[],by rw[e];simp⟩) (λm l=>?_) (λb u e=>?_) I.bare
 .obtain⟨B,x,F,t,A,j⟩:=g b i;exact⟨t,x,A,j⟩
 .obtain⟨o,p,w,y,r⟩:=l;exact⟨o,p,w,k _ o (λz=>(g _ z).2.1 rfl) y,r⟩
 refine(I.UA b u e).ZF (λc v a q=>k c v ?_ q) (λ_ q=>q) λ_ _ q=>q
 rcases a with z|z
 .rw[z];exact f b u e
 exact f c _ z
def cE{t':Nat}{fp:List vX}{p:vX}{xs:List V}{OA:List vk}(I:Inv X wM σ H s)(k:∀b o,b∉fp->s.heap.get? b=u7 o->h'.get? b=u7 o)(h:∀b∈fp,QD X wM H b)(hp:s.heap.objs.size<=p)
  (hz:lN xs<=sizeLine) (r:Vals xs OA) (i:Tp h' p OA):Inv X wM σ (upd H p (.tup xs)) {s with heap:=h',toks:=t'}:=by
 obtain⟨d,f,l,j,g,e⟩:=I.Gu hp (I.UA.fresh hp);exact Zb (Zj I k h) d (zG I.sz hp) f g e ⟨hz,OA,r,_,i,rfl,_,rfl⟩
end
def Src.sq(K:za)(H:Hp)(xs:List V):Src->Prop
 |.l a=>ME K H a xs
 |.t a=>UE K H a xs
theorem Src.sq.val{X:Cx}{d:St}{H:Hp}{s:vj}{b:Src}{xs:List V}(I:Inv X wM d H s)(h:b.sq X.K H xs):∃OA:List vk,Vals xs OA/\b.val s.heap OA.toArray/\lN xs<=sizeLine:=by
 cases b with
 |l a=>obtain⟨OA,r,p,c⟩:=I.list h;exact⟨OA,r,p.isList,c⟩
 |t a=>obtain⟨OA,r,p,c⟩:=I.tuple h;exact⟨OA,r,p,c⟩
theorem Src.sq.inj{X:Cx}{c:St}{H:Hp}{s:vj}{b:Src}{xs ys:List V}(I:Inv X wM c H s)(h:b.sq X.K H xs)(h':b.sq X.K H ys):xs=ys:=by
 cases b with
 |l a=>exact I.X7 h h'
 |t a=>exact I.Ye h h'
def Sj(K:za)(sr:Src)(n:Int):It:=
 ⟨λi H=>∃xs x,sr.sq K H xs/\xs[i]?=u7 x,λi H v H'=>∃p x,v=.ref p/\H p=u8/\H'=upd H p (.tup [.int (n+i),x])/\∀xs,sr.sq K H xs->xs[i]?=u7 x,λi H=>∃xs,sr.sq K H xs/\lN xs<=i⟩
def tT{P:vq}{w:vA}{K:za}{x1}{pos:Pos}(Z:Src)(n:Int)(e it:vX)(B:e≠it):
  Turn P w K (.Tuple elts x1 pos) (Sj K Z n) [e,it] e (λi h=>∃g a,En h e it .none (n+i) g a/\Gv (n+i) g/\Z.it h it i) where
 mem:=by simp
 obj:=λi h f b j=>by
  obtain⟨g,a,d,_,o,ho,_,hd⟩:=f;rcases(show b=e\/b=it by simpa using j)with rfl|rfl
  .exact⟨_,d,λv z=>by cases z⟩
  exact⟨o,ho,λv z=>by rw[hd]at z;cases z⟩
 keep:=λi h h' f k=>by obtain⟨g,a,d,y,p⟩:=f;exact⟨g,a,k e (by simp) _ d,y,p.at λo q=>k it (by simp) o q⟩
 item:=by
  intro X L hw N Y i m s σ H E I F f y;subst L hw N;obtain⟨xs,x,J,Q⟩:=y;obtain⟨S,O,M,hz⟩:=Src.sq.val I J;obtain⟨u,hu,ru⟩:=O.get Q;obtain⟨g,a,d,r,p⟩:=f;refine tM d r p M (by simpa using hu) B λh1 t tk e1 i1 t1 z1 k1=>⟨_,rfl,?_⟩
  refine tO e1 λh2 e2 T=>?_
  have A:=jx (zA d);have I2:Inv X m σ (upd H s.heap.objs.size (.tup [.int (n+i),x])) {s with heap:=h2,toks:=tk}:=
   cE I (λb o j q=>by
    have c:b≠e/\b≠it:=by simpa using j
    exact T.extBut b o c.1 (k1 b o c.1 c.2 q)) F (zv _) (by show 2<=sizeLine;decide) (.cons ⟨t,rfl⟩ (.cons ru .nil)) (T.extBut _ _ A t1)
  refine⟨.ref s.heap.objs.size,_,I2,rfl,⟨_,x,rfl,I.UA.fresh (zv _),rfl,λys hy=>(Src.sq.inj I hy J)▸Q⟩,⟨.none,u,?_,.inl rfl,i1.at λo q=>T.extBut _ _ (.symm B) q⟩,λb j=>?_⟩
  .have ee:n+(i:Int)+1=n+((i+1:Nat):Int):=by lia
   rw[<-ee];exact e2
  have c:b=e\/b=it:=by simpa using j
  rw[Ah (λz=>?_)]
  .exact(F b j).1
  .rcases c with rfl|rfl
   .exact A z.symm
   .have C:=Src.it.lt p;rw[z]at C;exact qA _ C
 done:=by intro X L hw N Y i m s σ H E I F f y;subst L hw N;obtain⟨xs,J,Q⟩:=y;obtain⟨S,O,M,hz⟩:=Src.sq.val I J;obtain⟨g,a,d,r,p⟩:=f;have hl:=O.length;exact tN (I.ok.hd Y) d p M (by simp;lia) λh1 xb=>⟨rfl,Zj I (λb o j q=>xb b o (λz=>j (by simp[z])) q) F⟩
 self:=λ_ _ _ _ _ f h=>by obtain⟨g,a,d,_⟩:=f;exact bx d h
section
variable{X:Cx}{E:XK}
def tU{prog:vq}{w:vA}{A:vV}{E:vk->vj->Prop}{s:vj}{sr:Src}{xs:Array vk}{Q:vk->vj->Prop}(hv:sr.val s.heap xs)
  (h:∀h',En h' (s.heap.objs.size+1) s.heap.objs.size .none 0 .none .none->sr.it h' s.heap.objs.size 0->(∀b o,s.heap.get? b=u7 o->h'.get? b=u7 o)->Q (.ref (s.heap.objs.size+1)) {s with heap:=h'}):
  wW (vR prog w) A (call (.type "enumerate") [.ref sr.OB]) Q E s:=by
 have g:Meets (Builtin.«enumerate.__new__» ⟨[.type "enumerate",.ref sr.OB],[]⟩) (λ_ R s=>sr.val s.heap xs/\
   R (.ok (.ret (.ref (s.heap.push {cls:=.type sr.NM,data:=.fields #[.ref sr.OB,.int 0 0]}).objs.size)))
    {s with heap:=(s.heap.push {cls:=.type sr.NM,data:=.fields #[.ref sr.OB,.int 0 0]}).push {cls:=.type "enumerate",data:=.fields #[.none,.bool uA,.ref s.heap.objs.size,vS 0,.none,.none]}}):=
  .of_wp λprog w A R s h=>by
   obtain⟨hp,g,d,tk,os⟩:=s;obtain⟨hl,h⟩:=h;have hsub:=sub_enumerate;have hL:=hl
   wp_walk
   refine wpAny_stack_any λst=>w6 ?_
   split
   .rename_i c _ _ _ _ _
    cases(c==Value.type "enumerate")<;>(wp_walk using Src.iter hL;exact⟨_,rfl,h⟩)
   wp_walk using Src.iter hL
   exact⟨_,rfl,h⟩
 refine callType_new PySem.F.called_enumerate (by decide) (PySem.F.typeCall_enumerate_1 _) (PySem.F.newCall_enumerate_1 _) (λobj=>PySem.F.args_object_init_2 obj _) PySem.F.entry_enumerate_new g ⟨hv,?_⟩;have hz:(s.heap.push {cls:=.type sr.NM,data:=.fields #[.ref sr.OB,.int 0 0]}).objs.size=s.heap.objs.size+1:=jV ..;rw[hz];have he:En ((s.heap.push {cls:=.type sr.NM,data:=.fields #[.ref sr.OB,.int 0 0]}).push {cls:=.type "enumerate",data:=.fields #[.none,.bool uA,.ref s.heap.objs.size,vS 0,.none,.none]}) (s.heap.objs.size+1) s.heap.objs.size .none 0 .none .none:=by
  have:=z3 (s.heap.push {cls:=.type sr.NM,data:=.fields #[.ref sr.OB,.int 0 0]}) (o:={cls:=.type "enumerate",data:=.fields #[.none,.bool uA,.ref s.heap.objs.size,vS 0,.none,.none]}) rfl;rw[hz]at this;exact this
 exact⟨⟨_,he,rfl⟩,h _ he ⟨_,zX _ (z3 _ rfl),rfl,rfl⟩ λb o x=>zX _ (zX _ x)⟩
def tV(K:za)(ta:TA):TI:=λσ H R=>ta σ H λvs H1=>∃sr xs,vs=[.ref (Src.OB sr)]/\sr.sq K H1 xs/\R (Sj K sr 0) H1
theorem tW{x1}(o:Gl X "enumerate")(y:X.mg "enumerate"=u8)(F:PA X [a] ta)(v:wQ [a] X.env=[(uA,eval a X.env)]:=by rfl):PI X (.Tuple elts x1 tp) (.Call (.Name "enumerate" p) [a] [] pos) (tV X.K ta):=by
 intro f s z H R I h;refine Call_ (Ib I o y PyProof.Rows.boot_enumerate (qb (GB (F pos f s z H _ I h) λP c zz=>?_) v rfl));obtain⟨L,k,g,C,l⟩:=zz;obtain⟨w,N,e,n,q⟩:=l;subst e;cases C with
 |cons r t=>
  cases t;cases r;obtain⟨A,M,m,J⟩:=Src.sq.val g n;refine tU m λO j B x=>?_
  refine bx j ?_;refine⟨c.heap.objs.size+1,[c.heap.objs.size+1,c.heap.objs.size],_,_,k,rfl,g.kept x,tT w 0 _ _ (Nat.succ_ne_self _),⟨.none,.none,by simpa using j,.inl rfl,B⟩,λb u=>?_,q⟩;have i:b=c.heap.objs.size+1\/b=c.heap.objs.size:=by simpa using u
  have d:c.heap.objs.size<=b:=by rcases i with rfl|rfl<;>lia
  exact g.Gu d (g.UA.fresh d)
end
inductive UH (K:za) (H:Hp) (i:Nat):List Src->List V->Prop where
 |nil:UH K H i [] []
 |cons {sr r v us xs} (hq:Src.sq K H xs sr) (hx:xs[i]?=u7 v) (t:UH K H i r us):UH K H i (sr::r) (v::us)
inductive TN (K:za) (H:Hp) (i:Nat):List Src->Prop where
 |here {sr r xs} (hq:Src.sq K H xs sr) (hx:lN xs<=i):TN K H i (sr::r)
 |there {sr r v xs} (hq:Src.sq K H xs sr) (hx:xs[i]?=u7 v) (t:TN K H i r):TN K H i (sr::r)
def XX(K:za)(ls:List Src):It:=
 ⟨λi H=>∃us,UH K H i ls us,λi H v H'=>∃p us,v=.ref p/\H p=u8/\H'=upd H p (.tup us)/\∀VF,UH K H i ls VF->VF=us,λi H=>TN K H i ls⟩
theorem UH.length{K:za}{H:Hp}{i:Nat}{a:List Src}{us:List V}(d:UH K H i a us):us.length=a.length:=by
 induction d with
 |nil=>rfl
 |cons _ _ _ b=>simp[b]
section
variable{X:Cx}{wM:List (vX×Obj)}{σ:St}{H:Hp}{s:vj}
theorem UH.inj(I:Inv X wM σ H s):∀{f:List Src}{us VF:List V},UH X.K H i f us->UH X.K H i f VF->us=VF
 |[],_,_,d,b=>by cases d;cases b;rfl
 | k::f,_,_,d,b=>by
  cases d with
  | cons g j t=>
   cases b with
   |cons c a h=>
    have e:=Src.sq.inj I g c;subst e;rw[j]at a;cases a;rw[UH.inj I t h]
theorem UH.OW(I:Inv X wM σ H s):∀{l:List (Src×vX)}{us:List V},UH X.K H i (l.map (·.1)) us->(∀q∈l,q.1.it s.heap q.2 i)->∃a,RN s.heap i l a/\Vals us a
 |[],us,d,h=>by cases d;exact⟨[],.nil,.nil⟩
 | (n,p)::l,us,d,h=>by
  cases d with
  |cons b o t=>
   obtain⟨c,m,g,r⟩:=Src.sq.val I b;obtain⟨u,f,e⟩:=m.get o;obtain⟨a,j,k⟩:=UH.OW I t λq b=>h q (zV _ b)
   exact⟨u::a,.cons (h (n,p) zk) g (by simpa using f) j,.cons e k⟩
theorem TN.OW(I:Inv X wM σ H s):∀{l:List (Src×vX)},TN X.K H i (l.map (·.1))->(∀q∈l,q.1.it s.heap q.2 i)->WG s.heap i l
 |[],d,h=>by cases d
 | (f,p)::l,d,h=>by
  cases d with
  |here a g=>
   obtain⟨b,e,c,k⟩:=Src.sq.val I a;have m:=e.length;exact .here (h (f,p) zk) c (by simp;lia)
  |there a g t=>
   obtain⟨b,e,c,k⟩:=Src.sq.val I a;obtain⟨u,j,n⟩:=e.get g;exact .there (h (f,p) zk) c (by simpa using j) (TN.OW I t λq a=>h q (zV _ a))
end
def tX{P:vq}{w:vA}{K:za}{x1}{pos:Pos}(l:List (Src×vX))(z TI TO:vX)(a:PQ TO l)(A:z≠TO/\(∀q∈l,q.2≠z/\q.1.OB≠z))(M:TI≠z/\TI≠TO/\∀q∈l,q.2≠TI)(hsz:l.length<=1000000)(x:l≠[]):
  Turn P w K (.Tuple elts x1 pos) (XX K (l.map (·.1))) (z::TI::TO::l.map (·.2)) z
   (λi h=>IsZip h z TI TO .none/\Tp h TI (l.map λq=>Value.ref q.2)/\(∃r,Tp h TO r/\r.length=l.length)/\∀q∈l,q.1.it h q.2 i) where
 mem:=by simp
 obj:=λi h j b c=>by
  obtain⟨m,d,⟨r,f,_⟩,n⟩:=j;rcases z0.mp c with rfl|c
  .exact⟨_,m,λv z=>by cases z⟩
  rcases z0.mp c with rfl|c
  .exact⟨_,d,λv z=>by cases z⟩
  .rcases z0.mp c with rfl|c
   .exact⟨_,f,λv z=>by cases z⟩
   .obtain⟨q,g,rfl⟩:=qw.mp c;obtain⟨o,p,_,Q⟩:=n q g;exact⟨o,p,λv z=>by rw[Q]at z;cases z⟩
 keep:=λi h h' j k=>by obtain⟨m,d,⟨r,f,p⟩,n⟩:=j;exact⟨k z (by simp) _ m,k TI (by simp) _ d,⟨r,k TO (by simp) _ f,p⟩,λq g=>(n q g).at λo e=>k q.2 (by simp only[z0];exact .inr (.inr (.inr (qw.mpr ⟨q,g,rfl⟩)))) o e⟩
 item:=by
  intro X C hw L O i t s σ H E I y j J;subst C hw L;obtain⟨T,F⟩:=J;obtain⟨m,d,⟨r,f,p⟩,n⟩:=j;obtain⟨ws,S,rv⟩:=UH.OW I F n;refine tQ m d f p hsz x a A S λh1 z1 t1 i1 p1 s1 B=>⟨_,rfl,?_⟩
  refine wpAny_letOwnedTupleGo_zip z1 λh2 z2 u=>?_
  have N:T.length<=sizeLine:=by rw[F.length,zq];exact zG hsz VB
  have I2:=
   cE (t':=s.toks) I (λb o c q=>by simp only[z0,not_or]at c;exact u.extBut b o c.1 (B b o c.1 c.2.2.1 c.2.2.2 q)) y (zv _) N rv (u.extBut _ _ (jx (zA m)) p1)
  refine⟨.ref s.heap.objs.size,_,I2,rfl,⟨_,T,rfl,I.UA.fresh (zv _),rfl,λVF Y=>UH.inj I Y F⟩,⟨z2,(λb o U b2 Z q=>u.extBut b o U (B b o U b2 Z q)) TI _ M.1 M.2.1 (λhm=>?_) d,⟨ws,u.extBut _ _ (.symm A.1) t1,S.length⟩,λq g=>(i1 q g).at λo e=>u.extBut _ _ (A.2 q g).1 e⟩,λb c=>?_⟩
  .obtain⟨q,g,e⟩:=qw.mp hm;exact M.2.2 q g e
  rw[Ah (λe=>?_)]
  .exact(y b c).1
  .have lt:b<s.heap.objs.size:=by
    rcases z0.mp c with rfl|c
    .exact zA m
    .rcases z0.mp c with rfl|c
     .exact zA d
     .rcases z0.mp c with rfl|c
      .exact zA f
      .obtain⟨q,g,rfl⟩:=qw.mp c;exact(n q g).lt
   rw[e]at lt;exact qA _ lt
 done:=by
  intro X C hw L O i t s σ H E I y j J;subst C hw L;obtain⟨m,d,⟨r,f,p⟩,n⟩:=j;refine tR (I.ok.hd O) m d f p hsz x a A (TN.OW I J n) λh1 B=>⟨rfl,?_⟩
  exact Zj I (λb o c q=>by simp only[z0,not_or]at c;exact B b o c.1 c.2.2.1 c.2.2.2 q) y
 self:=λ_ _ _ _ _ j h=>wpAny_pyIter_zip j.1 h
def Hg (G:DH) (j:Nat):List D->Option (Option (List D))
 |[]=>u7 (u7 [])
 | d::r=>match Bm d G with
  |none=>u8
  | some xs=>match xs[j]? with
   |none=>u7 u8
   |some x=>match Hg G j r with
    |some (u7 ys)=>u7 (u7 (x::ys))
    |o=>o
def Gs(ds:List D)(j:Nat)(G:DH):Option (Option D):=(Hg G j ds).map λo=>o.map D.tup
def lenOf(G:DH)(d:D):Nat:=match Bm d G with
 |some xs=>lN xs
 |none=>0
def Ih(G:DH)(d:D):Bool:=(Bm d G).isSome
def Fw(n:Int)(d:D)(j:Nat)(G:DH):Option (Option D):=match Bm d G with
 |none=>u8
 |some xs=>u7 (xs[j]?.map λx=>.tup [.int (n+j),x])
def Et(ds:List D)(G:DH):R KM:=match ds with
 |[d]=>if Ih G d=u9 then .ok (.fn (lenOf G d) (Fw 0 d)) G else .bad
 |_=>.bad
def Hb(n:Nat)(ds:List D)(G:DH):R KM:=if ds.all (Ih G)=u9/\lN ds=n then .ok (.fn (lenOf G (ds.headD .LA)) (Gs ds)) G else .bad
section
variable{X:Cx}{E:XK}
theorem cF{a:Wd}{G:DH}{d:D}{v:V}{xs:List D}(s:YA a G)(r:NB a d v)(h:Bm d G=u7 xs):
  ∃j:Src,v=.ref j.OB/\(∃vs,j.sq a.K a.H vs)/\∀b:Wd,Ext a b->∀e,YA b e->∀ys,Bm d e=u7 ys->∃us,j.sq b.K b.H us/\JA b ys us:=by
 cases d with
 |tup B=>
  obtain⟨p,vs,rfl,f,n⟩:=r;refine⟨.t p,rfl,⟨vs,f⟩,λb x e k ys c=>?_⟩;cases(c);exact⟨vs,x.HQ f,n.mono x⟩
 |fl B=>
  obtain⟨p,vs,rfl,f,n⟩:=r;refine⟨.l p,rfl,⟨vs,f.sq⟩,λb x e k ys c=>?_⟩;cases(c);exact⟨vs,(x.IQ f).sq,n.mono x⟩
 | ref i=>
  obtain⟨z,rfl⟩:=r;have C:∃g,G[i]?=u7 (.lst g):=by
   unfold Bm at h;dsimp only at h;split at h
   .rename_i g q;exact⟨g,q⟩
   cases h
  obtain⟨g,q⟩:=C;obtain⟨vs,y,_⟩:=s.lst q;refine⟨.l (a.m i),rfl,⟨vs,.of y⟩,λb x e k ys c=>?_⟩;unfold Bm at c;dsimp only at c;split at c
  .rename_i w o;cases c;obtain⟨us,u,A⟩:=k.lst o;rw[x.m i z]at u;exact⟨us,.of u,A⟩
  cases c
 |_=>cases h
def tY{a:Wd}{G:DH}{d:D}{v:V}{z:Src}(hk:a.K=X.K)(r:∀b:Wd,Ext a b->∀h,YA b h->∀ys,Bm d h=u7 ys->∃us,z.sq b.K b.H us/\JA b ys us)(n:Nat):WE a (.fn n (Fw 0 d)) (Sj X.K z 0):=by
 intro b x h j i;have A:=x.k.trans hk;constructor
 .intro e f;unfold Fw at f;split at f
  .cases f
  rename_i ys m;obtain⟨us,g,l⟩:=r b x h j ys m;rw[A]at g;cases c:ys[i]? with
  |none=>rw[c]at f;cases f
  |some y=>
   rw[c]at f;have q:D.tup [.int (0+i),y]=e:=by simpa using f
   subst q;obtain⟨u,t,B⟩:=l.get c;refine⟨⟨us,u,g,t⟩,?_⟩;rintro w F ⟨p,C,rfl,hp,rfl,o⟩;refine⟨b.put p (.tup [.int (0+i),C]),rfl,.put hp,j.put hp,p,_,rfl,.of Dp,?_⟩;have s:=o us g;rw[t]at s;cases s;exact⟨_,_,rfl,rfl,.cons (B.mono (.put hp)) rfl⟩
 intro f;unfold Fw at f;split at f
 .cases f
 .rename_i ys m;obtain⟨us,g,l⟩:=r b x h j ys m;rw[A]at g;cases c:ys[i]? with
  |none=>exact⟨us,g,by rw[<-l.length];exact jF.mp c⟩
  |some y=>rw[c]at f;cases f
def tZ{elts:List vW}{x1}{tp:Pos}{e:vW}{ta:DA}{p pos:Pos}(o:Gl X "enumerate")(y:X.mg "enumerate"=u8)(A:QA X E [e] ta)(t:wQ [e] X.env=[(uA,eval e X.env)]:=by rfl):
  QI X E (.Tuple elts x1 tp) (.Call (.Name "enumerate" p) [e] [] pos) (Ba Et ta):=(tW o y A t).mono λJ H Q h=>by
 obtain⟨a,S,G,hk,rfl,s,r,h⟩:=h;refine⟨a,S,G,hk,rfl,s,r,(Pb h).imp ?_⟩;rintro F _ ⟨b,C,i,rfl,x,f,q,-,c⟩;unfold Et at c;split at c
 .rename_i d;split at c
  .rename_i UA;obtain⟨v,r,n,j,l⟩:=q;cases(l);subst n;obtain⟨I,B⟩:=xw.mp (UA);obtain⟨u,rfl,⟨z,m⟩,w⟩:=cF f j B;have g:=x.k.trans hk;exact⟨u,z,rfl,by rw[<-g];exact m,c b _ (.refl b) f (tY (G:=i) (v:=.LA) g w _)⟩
  exact c.elim
 exact c.elim
theorem cG(s:YA a G):∀{l:List D}{vs:List V},JA a l vs->l.all (Ih G)=u9->∃j:List Src,vs=j.map (λm=>V.ref m.OB)/\(∀m∈j,∃us,m.sq a.K a.H us)/\
   ∀b:Wd,Ext a b->∀f,YA b f->∀i,(∀ys,Hg f i l=u7 (u7 ys)->∃us,UH b.K b.H i j us/\JA b ys us)/\(Hg f i l=u7 u8->TN b.K b.H i j)
 |[],vs,r,_=>by
  cases(r)
  refine⟨[],rfl,(λ_ h=>nomatch h),λb x f k i=>⟨λys h=>?_,λh=>?_⟩⟩
  .cases h;exact⟨[],.nil,rfl⟩
  cases h
 | d::l,vs,r,h=>by
  rw[jE,zP]at h;obtain⟨v,U,rfl,M,O⟩:=r;obtain⟨T,S⟩:=xw.mp (h.1);obtain⟨m,rfl,P,L⟩:=cF s M S;obtain⟨j,rfl,A,n⟩:=cG s O h.2;refine⟨m::j,rfl,λF z=>?_,λb x f k i=>⟨λys c=>?_,λc=>?_⟩⟩
  .rcases z0.mp z with rfl|z
   .exact P
   exact A F z
  .unfold Hg at c;split at c
   .cases c
   rename_i q t;obtain⟨us,p,o⟩:=L b x f k q t;split at c
   .cases c
   .rename_i y e;obtain⟨u,g,J⟩:=o.get e;split at c
    .rename_i w B;cases c;obtain⟨I,N,Q⟩:=(n b x f k i).1 w B;exact⟨u::I,.cons p g N,.cons J Q⟩
    .rename_i C;exact absurd c (C _)
  unfold Hg at c;split at c
  .cases c
  .rename_i q t;obtain⟨us,p,o⟩:=L b x f k q t;split at c
   .rename_i e;exact .here p (by rw[<-o.length];exact jF.mp e)
   .rename_i y e;obtain⟨u,g,J⟩:=o.get e;split at c
    .cases c
    exact .there p g ((n b x f k i).2 c)
theorem tf(hk:a.K=X.K)(m:∀b:Wd,Ext a b->∀f,YA b f->∀i,(∀ys,Hg f i ds=u7 (u7 ys)->∃us,UH b.K b.H i ls us/\JA b ys us)/\(Hg f i ds=u7 u8->TN b.K b.H i ls))(n:Nat):
  WE a (.fn n (Gs ds)) (XX X.K ls):=by
 intro b x f h i;have q:=x.k.trans hk;constructor
 .intro e c;unfold Gs at c;cases g:Hg f i ds with
  |none=>rw[g]at c;cases c
  | some o=>
   cases o with
   |none=>rw[g]at c;cases c
   |some ys=>
    rw[g]at c;have j:D.tup ys=e:=by simpa using c
    subst j;obtain⟨us,d,r⟩:=(m b x f h i).1 ys g;rw[q]at d;refine⟨⟨us,d⟩,?_⟩;rintro w t ⟨p,s,rfl,hp,rfl,l⟩;cases l us d;exact⟨b.put p (.tup us),rfl,.put hp,h.put hp,p,us,rfl,.of Dp,r.mono (.put hp)⟩
 intro c;unfold Gs at c;cases g:Hg f i ds with
 |none=>rw[g]at c;cases c
 | some o=>
  cases o with
  |none=>
   have:=(m b x f h i).2 g;rw[q]at this;exact this
  |some ys=>rw[g]at c;cases c
def RW(n:Nat)(K:za)(ta:TA):TI:=λσ H R=>ta σ H λvs H1=>∃ls:List Src,vs=ls.map (λsr=>V.ref sr.OB)/\(∀sr∈ls,∃us,sr.sq K H1 us)/\lN ls=n/\R (XX K ls) H1
theorem cH:∀{b:List Src}{us:List vk},Vals (b.map λa=>V.ref a.OB) us->us=b.map λa=>Value.ref a.OB
 |[],us,h=>by cases h;rfl
 | a::b,us,h=>by
  rw[zK]at h;cases h with
  |cons r c=>
   cases r;rw[cH c]
   rfl
def T5{a:List Src}{n:Nat}{q:Src×Nat}(h:q∈a.zipIdx n):q.1∈a/\n<=q.2/\q.2<n+lN a:=by obtain⟨i,b,rfl⟩:=xq h;simp[List.length_zipIdx]at b;simp only[List.getElem_zipIdx];exact⟨qK b,by lia,by lia⟩
def tj{x1}{tp:Pos}{N:St}{H:Hp}{s:vj}{R:It->Hp->Prop}{d:List Src}(I:Inv X wM N H s)(p:∀c∈d,∃us,c.sq X.K H us)(u:d≠[])(M:lN d<=1000000)
  (x:checkTypeCall "zip" ⟨d.map λc=>Value.ref c.OB,[]⟩=pure ()) (m:checkBuiltinCall "zip.__new__" ⟨.type "zip"::d.map λc=>Value.ref c.OB,[]⟩=pure ()) (UA:∀obj,argsOk "object.__init__" ⟨obj::d.map λc=>Value.ref c.OB,[]⟩)
  (q:R (XX X.K d) H):wW (vR X.prog X.w) X.A (call (.type "zip") (d.map λc=>Value.ref c.OB)) (λv U=>wW (vR X.prog X.w) X.A (pyIter v) (ZZ X wM N (.Tuple elts x1 tp) R) X.xe U) X.xe s:=by
 have B:∀c∈d,∃J,c.val s.heap J:=λc a=>by obtain⟨us,h⟩:=p c a;obtain⟨OA,_,L,_⟩:=Src.sq.val I h;exact⟨_,L⟩
 have y:∀c∈d,c.OB<s.heap.objs.size:=λc a=>by obtain⟨J,h⟩:=B c a;obtain⟨o,n,Z,_⟩:=h.obj;exact zA Z
 refine tS B M x m UA λL n z F l t hi W=>?_
 refine wpAny_pyIter_zip F ?_
 have C:(d.zipIdx s.heap.objs.size).map (·.1)=d:=by refine jq (by simp) λi S O=>by simp
 have Q:(d.zipIdx s.heap.objs.size).map (·.2)=qM s.heap.objs.size (lN d):=by refine jq (by simp) λi S O=>by simp[xP]
 have g:∀q∈d.zipIdx s.heap.objs.size,q.1.OB<s.heap.objs.size/\s.heap.objs.size<=q.2/\q.2<n:=λq a=>⟨y _ (T5 a).1,(T5 a).2.1,by rw[z];exact(T5 a).2.2⟩
 have f:=z▸xD _ _;have T:=tX (P:=X.prog) (w:=X.w) (K:=X.K) (elts:=elts) (x1:=x1) (pos:=tp) (d.zipIdx s.heap.objs.size) (n+2) n (n+1) ⟨Q▸List.nodup_range',λq a=>zN (zx (g q a).1 (Nat.le_succ_of_le f)),λq a r Y=>zN (zx (g q a).1 (g r Y).2.1),λq a=>zN (xV (g q a).2.2)⟩ ⟨Nat.succ_ne_self (n+1),λq a=>⟨zN (zx (g q a).2.2 (xD n 2)),zN (zx (g q a).1 (zG f (xD n 2)))⟩⟩
  ⟨zN (Nat.lt_add_of_pos_right (by decide)),zN (qC n),λq a=>zN (g q a).2.2⟩ (by simpa using M) (by intro e;apply u;rw[<-C,e];rfl)
 rw[C]at T;refine⟨n+2,_,_,_,H,rfl,I.kept W,T,⟨F,l,⟨_,t,by simp⟩,hi⟩,λb j=>?_,q⟩;have k:s.heap.objs.size<=b:=by
  rcases z0.mp j with rfl|j
  .exact zG f (xD n 2)
  rcases z0.mp j with rfl|j
  .exact f
  .rcases z0.mp j with rfl|j
   .exact Nat.le_succ_of_le f
   .obtain⟨q,p,rfl⟩:=qw.mp j;exact(T5 p).2.1
 exact I.Gu k (I.UA.fresh k)
theorem tq{elts:List vW}{x1}{tp:Pos}{a b:vW}{ta:TA}{p pos:Pos}(k:Gl X "zip")(o:X.mg "zip"=u8)(n:PA X [a,b] ta)(l:wQ [a,b] X.env=[(uA,eval a X.env),(uA,eval b X.env)]:=by rfl)(d:wQ [b] X.env=[(uA,eval b X.env)]:=by rfl):
  PI X (.Tuple elts x1 tp) (.Call (.Name "zip" p) [a,b] [] pos) (RW 2 X.K ta):=by
 intro c s g H R I h;refine Call_ (Ib I k o PyProof.Rows.boot_zip (qb (GB (n pos c s g H _ I h) λu w zz=>?_) (by rw[l,d]) (by rw[d];rfl)));obtain⟨v,t,i,m,f⟩:=zz;obtain⟨r,rfl,j,e,q⟩:=f;cases cH m
 match r,e with
 |[x,y],_=>exact tj i j (by simp) (by simp) (PySem.F.typeCall_zip_2 _ _) (PySem.F.newCall_zip_2 _ _) (λobj=>PySem.F.args_object_init_3 obj _ _) q
def uB{K:za}{n:Nat}{ta:DA}{d:St}{H:Hp}{Q:It->Hp->Prop}(l:K=X.K)(h:lI K E (Ba (Hb n) ta) d H Q):RW n K (lA K E ta) d H Q:=by
 subst l;obtain⟨a,S,G,hk,rfl,s,r,h⟩:=h;refine⟨a,S,G,hk,rfl,s,r,(Pb h).imp ?_⟩;rintro v _ ⟨b,w,u,rfl,x,g,q,-,c⟩;unfold Hb at c;split at c
 .rename_i UA;obtain⟨f,e,o,j⟩:=cG g q UA.1;have i:=x.k.trans hk;have m:f.length=n:=by have:=q.length;rw[e,zq]at this;lia
  exact⟨f,e,λt p=>by rw[<-i];exact o t p,m,c b _ (.refl b) g (tf i j _)⟩
 exact c.elim
def uC{elts:List vW}{x1}{tp:Pos}{a b:vW}{ta:DA}{p pos:Pos}(d:Gl X "zip")(g:X.mg "zip"=u8)(f:QA X E [a,b] ta)(e:wQ [a,b] X.env=[(uA,eval a X.env),(uA,eval b X.env)]:=by rfl)(c:wQ [b] X.env=[(uA,eval b X.env)]:=by rfl):
  QI X E (.Tuple elts x1 tp) (.Call (.Name "zip" p) [a,b] [] pos) (Ba (Hb 2) ta):=(tq d g f e c).mono λi H Q h=>uB rfl h
end
def XO:D->D->DH->R D
 | .ref p,.int k,G=>match G[p]? with
  |some (.lst xs)=>match MC xs k with
   |some v=>.ok v G
   |none=>.bad
  |_=>.bad
 |_,_,_=>.bad
def Ja(to ti te:DE)(f:D->D->DH->R D):DS:=λS G=>(to S G).toS λo G1=>(ti S G1).toS λi G2=>(XO o i G2).toS λx G3=>(te S G3).toS λy G4=>(f x y G4).toS λz G5=>(Gg o i z G5).toS λ_ G6=>.nx S G6
noncomputable def Td:DS:=λ_ _=>.bad
section
variable{X:Cx}{E:XK}
def cJ{st:vx}:QS X E st Td:=λb s c H W I h=>by obtain⟨a,S,G,hk,rfl,d,r,h⟩:=h;exact h.elim
theorem uD(ho:QE X E o to)(hi:QE X E i ti)(he:QE X E e te)(U:GC X (inplaceOp op) (ZE X.K E f))
  (ha:∀B F c,augStore i B F c=(do holding [c,B,F] (setItem B F c);release [c,B,F] [];pure .next):=by intros;rfl):QS X E (.AugAssign (.Subscript o i MH) op e pos) (Ja to ti te f):=by
 intro b s l H W I h;obtain⟨a,S,G,hk,rfl,sm,r,h⟩:=h;refine wpAny_AugAssign_SubscriptAny (GB (ho b s l a.H _ I ⟨a,S,G,hk,rfl,sm,r,Hc h⟩) ?_) ha;rintro B s1 ⟨vo,H1,I1,ro,b1,o,G1,rfl,M,m1,q1,_,h1⟩;have k1:=M.k.trans hk;refine GB (hi b s1 l b1.H _ I1 ⟨b1,S,G1,k1,rfl,m1,r.mono M,Hc h1⟩) ?_;rintro F s2 ⟨vi,H2,I2,ri,C,i,G2,rfl,J,m2,q2,_,g⟩;have k2:=J.k.trans k1;cases i with
 | int k=>
  cases o with
  | ref p=>
   obtain⟨hp,rfl⟩:=q1.mono J;cases(q2);cases ro;obtain⟨t,rfl⟩:=ri;unfold XO at g;dsimp only at g;split at g
   .rename_i xs N;obtain⟨vs,e1,r1⟩:=m2.lst N;split at g
    .rename_i d hd;obtain⟨v,ev,rd⟩:=bG r1 hd;obtain⟨OA,rv,pl,hz⟩:=I2.list (.of e1);obtain⟨j,L,g2,g3,g4,g5⟩:=Ui ev;obtain⟨w,ew,T⟩:=rv.get g2;have hl:=rv.length;have hn:=VE;have O:wW (vR X.prog X.w) X.A (getItem (.ref (C.m p)) (.int k t)) (λu Q=>u=w/\Q=s2) X.xe s2:=by
      by_cases h0:0<=k
      .have Z:k.toNat=j:=by rw[seqIndex_of h0 g5]at L;exact Option.some.inj L
       exact wpAny_getItem_list pl.isList h0 (by lia) (by rw[Z];simpa using ew) ⟨rfl,rfl⟩
      have Z:(k+(OA.toArray.size:Int)).toNat=j:=by rw[seqIndex_neg (by lia) g4]at L;rw[zy,<-hl];exact Option.some.inj L
      exact wpAny_getItem_list_neg pl.isList (by lia) (by rw[zy]<;>lia) (by lia) (by rw[Z];simpa using ew) ⟨rfl,rfl⟩
     refine GB O ?_;rintro u Q ⟨rfl,rfl⟩;refine GB (he b Q l C.H _ I2 ⟨C,S,G2,k2,rfl,m2,(r.mono M).mono J,Hc g⟩) ?_;rintro yv s4 ⟨vy,H4,I4,ry,b4,y,G4,rfl,x,m4,q4,_,h4⟩;refine GB (U b s4 l b4.H v vy u yv _ I4 T ry ⟨b4,G4,d,y,x.k.trans k2,rfl,m4,rd.mono x,q4,Hc h4⟩) ?_;rintro c s5 ⟨vn,H5,I5,rn,b5,z,G5,rfl,Y,m5,q5,_,q⟩;unfold Gg at q;dsimp only at q;split at q
     .rename_i ys hy;split at q
      .rename_i jj P;obtain⟨ws,e5,r5⟩:=m5.lst hy;obtain⟨x6,m6⟩:=Tc m5 (zx hp (zG x.n Y.n)) e5 (r5.set q5 jj);refine GB (set_list b s5 l b5.H (.ref (C.m p)) (.int k) vn (.ref (C.m p)) (.int k t) c (λH'=>W.nx l H') I5 rfl ⟨t,rfl⟩ rn ⟨b5.m p,ws,k,jj,by rw[(Y.m p (zx hp x.n)).trans (x.m p hp)],rfl,e5,by rw[<-r5.length];exact P,q _ l x6 m6 (((((r.mono M).mono J).mono x).mono Y).mono x6)⟩) ?_
       rintro _ s6 ⟨H6,I6,q6⟩;exact⟨l,H6,I6,q6⟩
      exact q.elim
     exact q.elim
    exact g.elim
   exact g.elim
  |_=>exact(g).elim
 |_=>cases o<;>exact(g).elim
end
section
variable{X:Cx}{E:XK}
def Jk:D->D->DH->R D
 |.ref p,.int k,G=>match G[p]? with
  |some (.lst xs)=>if -(2^63)<=k/\k<2^63/\lN xs*k.toNat<=1000000 then .ok (.ref (lN G)) (G++[.lst (zQ k.toNat xs).flatten])else .bad
  |_=>.bad
 |.fl (.tup t::xs),.int k,G=>(if -(2^63)<=k/\k<2^63/\lN (D.tup t::xs)*k.toNat<=1000000 then .ok (.ref (lN G)) (G++[.lst (zQ k.toNat (.tup t::xs)).flatten])else .bad)|_,_,_=>.bad
theorem JA.rep(r:JA a ds vs):∀k,JA a (zQ k ds).flatten (zQ k vs).flatten
 |0=>rfl
 |k+1=>by rw[qy,qy,jv,jv];exact r.append (.rep r k)
theorem uE:GC X (vG .Mult) (ZE X.K E Jk):=oF.mono λx y H Q h=>by
 obtain⟨a,G,d,e,hk,rfl,s,j,n,q⟩:=h;cases d with
 | ref p=>
  cases e with
  | int k=>
   unfold Jk at q;dsimp only at q;split at q
   .rename_i g v;split at q
    .rename_i b;obtain⟨i,r,c⟩:=s.lst v;obtain⟨hp,rfl⟩:=j;refine⟨a.m p,k,i,rfl,n,.inl r,b.1,b.2.1,?_,λp hp=>Jt s (.rep c k.toNat) q p hp⟩;rw[<-c.length];exact zG b.2.2 VB
    exact q.elim
   exact q.elim
  |_=>exact(q).elim
 |fl g=>(cases g with |nil=>exact(q).elim|cons d g=>(cases d with |tup t=>(cases e with |int k=>(unfold Jk at q;dsimp only at q;split at q;(rename_i b;obtain⟨l,i,rfl,f,c⟩:=j;rcases f with⟨o,f⟩|⟨⟨u,rfl⟩,_⟩;(exact⟨l,k,i,rfl,n,.inr ⟨o,f⟩,b.1,b.2.1,by rw[<-c.length];exact zG b.2.2 VB,λp hp=>Jt s (.rep c k.toNat) q p hp⟩);(obtain⟨_,_,w,⟨_,_,rfl,_⟩,_⟩:=c;cases u<;>cases w));exact q.elim)|_=>exact(q).elim)|_=>exact(q).elim))|_=>exact(q).elim
end
end _D
namespace _D
open PySem PySem.W PyProof.Rows
def SD(n:Nat){α:Type}(P:α->Prop):KasT α->Prop
 |.ret a=>P a
 |.ask i j k=>i<n/\j<n/\∀b,SD n P (k b)
theorem SD.bind{c e:Type}{f:c->KasT e}{P:c->Prop}{Q:e->Prop}(d:∀a,P a->SD n Q (f a)):∀{t:KasT c},SD n P t->SD n Q (t.bind f)
 |.ret a,h=>d a h
 |.ask _ _ _,h=>⟨h.1,h.2.1,λb=>.bind d (h.2.2 b)⟩
def ID(n:Nat)(p:Array Nat):Prop:=0<n/\p.Perm (zW n).toArray
def ID.lt(h:ID n p)(a:x∈p):x<n:=by have:=h.2.mem_iff.mp a;simpa using this
def ID.pt(h:ID n p)(k:Nat):p.getD k 0<n:=by
 by_cases hk:k<p.size
 .have:p.getD k 0=p[k]:=by simp[Array.getD,hk]
  rw[this];exact h.lt (Array.getElem_mem hk)
 have:p.getD k 0=0:=by simp[Array.getD,hk]
 rw[this];exact h.1
def ID.perm(h:ID n p)(e:q.Perm p):ID n q:=⟨h.1,e.trans h.2⟩
theorem Zi(h:ID n p):∀f m,SD n (λ_=>True) (kas_asc p f m)
 |0,m=>trivial
 | f+1,m=>⟨h.pt _,h.pt _,λb=>by
   cases b with
   |true=>exact trivial
   |false=>exact Zi h f (m+1)⟩
theorem Sd:∀f{p:Array Nat}m q,ID n p->SD n (λr=>ID n r.1) (kas_desc f p m q)
 |0,p,m,q,h=>h
 | f+1,p,m,q,h=>⟨h.pt _,h.pt _,λb=>by
   cases b with
   |true=>
    by_cases a:q>0
    .simp only[if_true,if_pos a];exact Sd f _ _ (h.perm (mirror_perm ..))
    simp only[if_true,if_neg a];exact Sd f _ _ h
   |false=>
    refine⟨h.pt _,h.pt _,λd=>?_⟩;cases d with
    |true=>exact h
    |false=>exact Sd f _ _ h⟩
def cK(h:ID n p)(m k:Nat):SD n (λr=>ID n r.2) (kas_tail3 m k p):=by unfold kas_tail3;refine .bind (λa _=>?_) (Zi (h.perm (mirror_perm ..)) _ _);exact h.perm (mirror_perm ..)
def cL(h:ID n p)(m k:Nat):SD n (λr=>ID n r.2) (kas_descPart m k p):=
 SD.bind (λa b=>by
  split
  .exact cK (b.perm (mirror_perm ..)) _ _
  exact cK b _ _) (Sd _ _ _ h)
def uF(h:ID n p)(k:Nat):SD n (λr=>ID n r.2) (kas_count k p):=
 SD.bind (λa _=>by
  split
  .exact h
  split
  .refine⟨h.pt _,h.pt _,λc=>?_⟩;cases c with
   |true=>exact h
   |false=>exact cL (h.perm (mirror_perm ..)) _ _
  exact cL h _ _) (Zi h _ _)
theorem cM(h:ID n p)(k:Nat):∀f l r,SD n (λ_=>True) (kas_place p k f l r)
 |0,l,r=>trivial
 |f+1,l,r=>by
  unfold kas_place;split
  .trivial
  refine⟨h.pt _,h.pt _,λc=>?_⟩;cases c with
  |_=>exact cM h k f _ _
end _D
namespace _D
open PySem PySem.Spec _L
open PyProof.Rows hiding St
theorem cN(h:∀i j,i<n->j<n->∀C:Bool->vj->Prop,C (lt i j) s->cmp i j C s){b:Type}{P:b->Prop}{Q:b->vj->Prop}:
  ∀{t:ux b},SD n P t->Q (Hr lt t) s->t.kasWp cmp Q s
 |.ret _,_,c=>c
 |.ask i j k,a,c=>h i j a.1 a.2.1 _ (cN h (a.2.2 (lt i j)) c)
section
variable{prog:vq}{w:vA}{A:vV}{s:vj}
end
section
variable{X:Cx}{E:XK}{wM:List (vX×Obj)}{σ:St}{s:vj}{H:Hp}{h':Heap}
def uG(I:Inv X wM σ H s)(k:∀b o,b≠X.env.locals->s.heap.get? b=u7 o->h'.get? b=u7 o)(ns:∀m,s.heap.Ns X.env.locals m->h'.Ns X.env.locals m):Inv X wM σ H {s with heap:=h',toks:=t'}:=by
 refine I.step (ch:=[]) (nofun) (λb o f _ _ e _=>k b o f e) (λb o f _ _ e _=>⟨o.slots,k b o f e⟩) (λ_ _ _ _ n=>n) (λb o _ e=>?_) (λ_ _ e=>e) (λ_ _ _ e=>e)
  (λb r e=>⟨#[],by rw[e];simp⟩) ns (λb u e=>?_) I.bare
 .by_cases i:b=X.env.locals
  .obtain⟨m,j,_⟩:=I.loc;obtain⟨l,_,_,d,_⟩:=ns m j;exact⟨l,i▸d⟩
  exact⟨o,k b o i e⟩
 have g:∀c w,H c=u7 w->c≠X.env.locals:=λc w e z=>by rw[z,I.free]at e;cases e
 refine(I.UA b u e).ZF (λc v p q=>k c v ?_ q) (λ_ q=>q) λ_ _ q=>q
 rcases p with z|z
 .rw[z];exact g b u e
 exact g c _ z
end
section
variable{prog:vq}{w:vA}{A:vV}{E:vk->vj->Prop}{s:vj}
end
def uH:vH "sorted"=u7 (.builtin "sorted"):=by decide +kernel
section
variable{X:Cx}{E:XK}{wM:List (vX×Obj)}{σ:St}{s:vj}{H:Hp}
end
section
variable{X:Cx}{E:XK}
theorem cO(r:JA a xs vs):∀l:List Nat,(∀i∈l,i<lN xs)->JA a (l.map λi=>xs.getD i .LA) (l.map λi=>vs.getD i .LA)
 |[],_=>rfl
 |i::l,h=>by
  have b:=h i zk;obtain⟨v,e,f⟩:=r.get (zJ b);refine⟨vs.getD i .LA,_,rfl,?_,cO r l λj c=>h j (zV _ c)⟩;have d:xs.getD i .LA=xs[i]:=by simp[b]
  have g:vs.getD i .LA=v:=by rw[zY,e];rfl
  show NB a (xs.getD i .LA) (vs.getD i .LA);rw[d,g];exact f
theorem cP(r:Vals vs us):∀l:List Nat,(∀i∈l,i<lN vs)->Vals (l.map λi=>vs.getD i .LA) (l.map λi=>us.getD i .none)
 |[],_=>.nil
 |i::l,h=>by
  have a:=h i zk;obtain⟨u,f,d⟩:=r.get (zJ a);rw[zK,zK];have c:vs.getD i .LA=vs[i]:=by simp[a]
  have e:us.getD i .none=u:=by rw[zY,f];rfl
  rw[c,e];exact .cons d (cP r l λj b=>h j (zV _ b))
theorem V9:∀{t:ux (Array Nat)},SD n P t->P (Hr lt t)
 |.ret _,h=>h
 |.ask i j k,h=>V9 (t:=k (lt i j)) (h.2.2 (lt i j))
theorem cQ:∀f{p:Array Nat}k,ID n p->SD n (ID n) (PySem.W.kas_bin f p k)
 |0,p,k,h=>h
 |f+1,p,k,h=>.bind (λa _=>cQ f _ (h.perm (bubble_perm ..))) (cM h k _ _ _)
def Xe(c:0<n):SD n (ID n) (zi n):=
 SD.bind (λa b=>by
  split
  .exact cQ _ _ b
  exact b) (uF ⟨c,.refl _⟩ _)
end
section
variable{S:PB}{G:DH}
@[simp]theorem F8:Ja to ti te f S G=(to S G).toS λo a=>(ti S a).toS λi c=>(XO o i c).toS λx b=>(te S b).toS λy g=>(f x y g).toS λz e=>(Gg o i z e).toS λ_ d=>.nx S d:=id rfl
def cR(h:G[p]?=u7 (.lst xs))(e:MC xs k=u7 d):XO (.ref p) (.int k) G=.ok d G:=by unfold XO;simp only;rw[h];simp only;rw[e]
noncomputable def Ez(xs:List D):List D:=xs.zipIdx.map λq=>.tup [.int q.2,q.1]
noncomputable def I7(xs ys:List D):List D:=(xs.zip ys).map λq=>.tup [q.1,q.2]
theorem cT{f:Nat->DH->Option (Option D)}{g:DG}{b:DS}{xs:List D}(h:∀j G,f j G=u7 xs[j]?):∀(n j:Nat),j+n=lN xs->∀S G,Dc f g b n j S G=Av g b (xs.drop j) S G
 |0,j,e,S,G=>by
  unfold Dc;rw[h,zC (by lia),qE (by lia)]
  rfl
 |n+1,j,e,S,G=>by
  have a:j<lN xs:=by lia
  unfold Dc;rw[h,zJ a,zO a,Ck];have:Dc f g b n (j+1)=Av g b (xs.drop (j+1)):=by funext S G;exact cT h n (j+1) (by lia) S G
  rw[this]
def cU(h:∀j G,f j G=u7 xs[j]?)(a:n=lN xs):Dc f g b n 0 S G=Av g b xs S G:=by rw[cT h n 0 (by lia)];rfl
def cV(j:Nat)(G:DH):Fw 0 (.fl xs) j G=u7 (Ez xs)[j]? :=by
 unfold Fw Ez;simp[Bm,zj,List.getElem?_zipIdx]
 cases xs[j]?<;>simp
def uI(j:Nat)(G:DH):Fw 0 (.tup xs) j G=u7 (Ez xs)[j]? :=by
 unfold Fw Ez;simp[Bm,zj,List.getElem?_zipIdx]
 cases xs[j]?<;>simp
def Vu:lN (Ez xs)=lN xs:=by simp[Ez]
@[simp]theorem F9:Dc (Fw 0 (.fl xs)) g b (lN xs) 0 S G=Av g b (Ez xs) S G:=cU cV Vu.symm
@[simp]theorem Fa:Dc (Fw 0 (.tup xs)) g b (lN xs) 0 S G=Av g b (Ez xs) S G:=cU uI Vu.symm
theorem cW{f:Nat->DH->Option (Option D)}{g:DG}{c:DB}{l:DE}{F:D->Option D}{xs:List D}(i:∀j,f j G=u7 xs[j]?)(h:∀x∈xs,NK g c l S G x (F x)):
  ∀(n j:Nat),lN xs<=j+n->Dn f g c l S n j G=.ok ((xs.drop j).filterMap F) G
 |0,j,m=>by
  unfold Dn;rw[i,zC (by lia)];simp only;rw[qE (by lia)]
  rfl
 | n+1,j,m=>by
  unfold Dn;rw[i];by_cases a:j<lN xs
  .have k:=cW i h n (j+1) (by lia);obtain⟨q,o,b⟩:=h xs[j] (qK a);rw[zJ a];simp[o,R.Eb];rw[zO a,qR];rcases b with⟨b,e⟩|⟨b,d,e,p⟩
   .simp[b,e,k]
   simp[b,e,p,k]
  rw[zC (by lia),qE (by lia)]
  rfl
def Vk{f:Nat->DH->Option (Option D)}{g:DG}{c:DB}{a:DE}{F:D->Option D}{xs:List D}{n:Nat}(b:∀j,f j G=u7 xs[j]?)(h:∀x∈xs,NK g c a S G x (F x))(d:lN xs<=n):
  Dn f g c a S n 0 G=.ok (xs.filterMap F) G:=cW b h n 0 (by lia)
theorem Ua(b:Bm d G=u7 xs)(a:Bm e G=u7 ys)(j:Nat):Gs [d,e] j G=u7 (I7 xs ys)[j]? :=by
 unfold Gs I7;simp only[Hg,b,a,zj]
 have c:(xs.zip ys)[j]?=match xs[j]?,ys[j]? with
  |some x,u7 y=>u7 (x,y)
  |_,_=>u8:=by
  rw[List.zip,List.getElem?_zipWith]
  cases xs[j]?<;>cases ys[j]?<;>rfl
 rw[c];cases xs[j]? with
 |none=>rfl
 |some x=>
  cases ys[j]? with
  |_=>rfl
def Xx(b:Bm d G=u7 xs)(a:Bm e G=u7 ys):Hb 2 [d,e] G=.ok (.fn (lN xs) (Gs [d,e])) G:=by simp[Hb,Ih,b,a,lenOf]
@[simp]theorem Jm:Bm (.fl xs) G=u7 xs:=id rfl
def Pg(h:G[i]?=u7 (.lst xs)):Bm (.ref i) G=u7 xs:=by simp[Bm,h]
def uL{p:Nat}{k:Nat}{d:D}(h:G[p]?=u7 (.lst [d]))(hk:k<=1000000):Jk (.ref p) (.int (k:Int)) G=.ok (.ref (lN G)) (G++[.lst (zQ k d)]):=by
 unfold Jk;simp only;rw[h];simp only;have e:(zQ k [d]).flatten=zQ k d:=by
  induction k with
  |zero=>rfl
  |succ k a=>rw[qy,jv,a (by lia),qy];rfl
 rw[if_pos ⟨by lia,by lia,by simpa using hk⟩,Int.toNat_natCast,e]
end
def SW(i:Int):Prop:=i.natAbs.log2<33554432
def KL(i j:Int):Prop:=WL i j\/(SW i/\SW j)
noncomputable instance (i:Int):Decidable (SW i):=by unfold SW;infer_instance
noncomputable instance (i j:Int):Decidable (KL i j):=by unfold KL;infer_instance
def KL.ok(h:KL i j):IntMulOk i j:=by
 rcases h with h|⟨c,a⟩
 .exact h.ok
 have b:∀k:Int,SW k->Builtin.Int.intBits k<=33554432:=λk hk=>by
  unfold Builtin.Int.intBits;split
  .exact jk _
  exact hk
 have e:=b i c;have d:=b j a;have h:Builtin.Int.intTooBig (Builtin.Int.intBits i+Builtin.Int.intBits j)=uA:=by unfold Builtin.Int.intTooBig bitsLine;exact decide_eq_false (by lia)
 unfold IntMulOk;rw[h];simp
section
variable{X:Cx}{E:XK}
def uM:GC X (vG .Mult) (rI KL λi j=>.int (i*j)):=PX λ_ _ _ _ _ _ _ a q=>mul_int q a.ok
end
section
variable{i j:Int}{G:DH}
end
section
variable{X:Cx}{E:XK}
end
def Hn(f:Str)(v:D):List (Str×D)->List (Str×D)
 |[]=>[(f,v)]
 |(g,x)::r=>if g=f then(g,v)::r else(g,x)::Hn f v r
def RC.mono(x:Ext a b)(h:RC a fs us):RC b fs us:=⟨h.1,h.2.mono x⟩
def RC.cons(h:NB a d v)(r:RC a fs us):RC a ((g,d)::fs) ((g,v)::us):=
 ⟨by simp[r.1],v,us.map (·.2),rfl,h,r.2⟩
theorem RC.TJ(h:RC a ((g,d)::fs) us):∃v VF,us=(g,v)::VF/\NB a d v/\RC a fs VF:=by
 obtain⟨b,k⟩:=h;cases us with
 |nil=>simp at b
 |cons q us=>
  obtain⟨n,y⟩:=q;simp[zK,List.cons.injEq]at b;obtain⟨rfl,b⟩:=b;obtain⟨v,r,i,j,l⟩:=k;simp[zK,List.cons.injEq]at i;obtain⟨rfl,rfl⟩:=i;exact⟨y,us,rfl,j,b,l⟩
theorem RC.UW(h:RC a [] us):us=[]:=by
 obtain⟨b,_⟩:=h;cases us with
 |nil=>rfl
 |cons q us=>simp at b
def s?{a:Type}{f g:Str}{x:a}{fs:List (Str×a)}:jB f ((g,x)::fs)=if(f==g)=u9 then u7 x else fs.lookup f:=by
 show(match f==g with
  |true=>u7 x
  |false=>jB f fs)=_
 cases f==g<;>rfl
theorem RC.look{a:Wd}{f:Str}{d:D}:∀{fs:List (Str×D)}{us:List (Str×V)},RC a fs us->fs.lookup f=u7 d->∃u,us.lookup f=u7 u/\NB a d u
 |[],us,h,e=>by simp at e
 |(g,x)::fs,us,h,e=>by
  obtain⟨v,j,rfl,i,b⟩:=h.TJ;rw[s?]at e⊢;by_cases q:(f==g)=u9
  .rw[if_pos q]at e⊢;cases e;exact⟨v,rfl,i⟩
  rw[if_neg q]at e⊢;exact RC.look b e
theorem RC.Yl{a:Wd}{f:Str}:∀{fs:List (Str×D)}{us:List (Str×V)},RC a fs us->fs.lookup f=u8->us.lookup f=u8
 |[],us,h,e=>by rw[h.UW];rfl
 |(g,x)::fs,us,h,e=>by
  obtain⟨v,d,rfl,i,b⟩:=h.TJ;rw[s?]at e⊢;by_cases q:(f==g)=u9
  .rw[if_pos q]at e;cases e
  rw[if_neg q]at e⊢;exact RC.Yl b e
theorem RC.put(q:NB a d v):∀{fs:List (Str×D)}{us:List (Str×V)},RC a fs us->RC a (Hn f d fs) (Er f v us)
 |[],us,h=>by rw[h.UW];exact .cons q ⟨rfl,rfl⟩
 |(g,x)::fs,us,h=>by
  obtain⟨w,j,rfl,i,b⟩:=h.TJ;unfold Hn Er;by_cases e:g=f
  .rw[if_pos e,if_pos e];exact .cons q b
  rw[if_neg e,if_neg e];exact .cons i (.put q b)
def RC.len(h:RC a fs us):lN us=lN fs:=by have:=congrArg jO h.1;simpa using this.symm
def Ext.YX(h:a.H p=u7 (.ins C dx us)):Ext a (a.put p ho):=
 ⟨rfl,zv _,λ_ _=>rfl,λq d e=>by
  show upd a.H p ho q=_;rw[Ah (λz=>by subst z;rw[h]at e;cases e)];exact e,λq o u e=>by
  show upd a.H p ho q=_;rw[Ah (λz=>by subst z;rw[h]at e;cases e)];exact e,λ_ t=>t.mono (λq b e=>by show upd a.H p ho q=_;rw[Ah (λz=>by subst z;rw[h]at e;cases e)];exact e) (λq o u e=>by show upd a.H p ho q=_;rw[Ah (λz=>by subst z;rw[h]at e;cases e)];exact e)⟩
def YA.YX(s:YA a G)(d:i<a.n)(g:zb a.K vP c=u7 (u7 (.ref C)))(h:a.H (a.m i)=u7 (.ins C dx us))(r:RC (a.put (a.m i) (.ins C dx VF)) KZ VF):
  YA (a.put (a.m i) (.ins C dx VF)) (G.set i (.ins c KZ)):=by
 refine⟨by rw[qH];exact s.len,s.inj,λj o e=>?_,λj k=>?_⟩
 .rw[jw]at e;show RD _ o (upd a.H (a.m i) (.ins C dx VF) (a.m j));by_cases b:i=j
  .subst b;rw[if_pos rfl,if_pos (s.len▸d)]at e;cases e;rw[Dp];exact⟨C,dx,VF,g,rfl,r⟩
  rw[if_neg b]at e;rw[Ah λz=>b (s.inj _ _ (s.lt e) d z).symm];exact(s.obj j o e).mono (.YX h)
 show upd a.H (a.m i) (.ins C dx VF) (a.m j)≠u8;by_cases b:a.m j=a.m i
 .rw[b,Dp];simp
 rw[Ah b];exact s.tr j k
def Hw(c:Str)(d:D)(G:DH):Option (List (Str×D)):=match d with
 |.ref i=>match G[i]? with
  |some (.ins c' fs)=>if c'=c then u7 fs else u8
  |_=>u8
 |_=>u8
def YA.ins(s:YA a G)(r:NB a d x)(h:Hw c d G=u7 fs):
  ∃i C b us,d=.ref i/\i<a.n/\x=.ref (a.m i)/\G[i]?=u7 (.ins c fs)/\zb a.K vP c=u7 (u7 (.ref C))/\a.H (a.m i)=u7 (.ins C b us)/\RC a fs us:=by
 unfold Hw at h;split at h
 .rename_i i;split at h
  .rename_i u q e;split at h
   .rename_i p;subst p;cases h;obtain⟨l,k⟩:=r;obtain⟨C,b,us,n,g,j⟩:=s.obj i _ e;exact⟨i,C,b,us,rfl,l,k,e,n,g,j⟩
   cases h
  cases h
 cases h
def Ay(c:Str)(t:DE)(f:Str):DE:=λS G=>(t S G).bind λd G1=>match Hw c d G1 with
 |some fs=>match fs.lookup f with
  |some v=>.ok v G1
  |none=>.bad
 |none=>.bad
def Cp(c:Str)(to tv:DE)(f:Str):DS:=λS G=>(tv S G).toS λd G1=>(to S G1).toS λo G2=>match o with
 |.ref i=>match Hw c o G2 with
  |some fs=>if lN fs<1000 then .nx S (G2.set i (.ins c (Hn f d fs)))else .bad
  |none=>.bad
 |_=>.bad
def Bu(c:Str)(m:Str)(F:List D->DH->R D)(to:DE)(t:DA):DE:=λS G=>(to S G).bind λo G1=>match Hw c o G1 with
 |some fs=>match fs.lookup m with
  |none=>(t S G1).bind λds G2=>F (o::ds) G2
  |some _=>.bad
 |none=>.bad
def Lx(c:Str)(F:List D->DH->R D)(t:DA):DE:=λS G=>(t S G).bind λds G1=>(F (.ref (lN G1)::ds) (G1++[.ins c []])).bind λv G2=>match v with
 |.LA=>.ok (.ref (lN G1)) G2
 |_=>.bad
section
variable{X:Cx}{E:XK}{c f m:Str}{C:vX}{e o:vW}{es:List vW}{t ta tv:DE}{tr:DA}{pos apos pos':Pos}
def uN(w:zb X.K vP c=u7 (u7 (.ref C)))(F:ZJ X.K C)(y:HD X.K C f)(P:QE X E e t)(A:vC e f X.env (eval e X.env)=eval e X.env:=by rfl):QE X E (.Attribute e f pos) (Ay c t f):=
 (ma P A).mono λY H Q h=>by
  obtain⟨a,S,G,hk,rfl,s,r,h⟩:=h;refine⟨a,S,G,hk,rfl,s,r,(Eo h).imp ?_⟩;rintro v _ ⟨b,d,T,rfl,x,n,q,-,g⟩;split at g
  .rename_i fs N;obtain⟨i,p,B,M,rfl,_,rfl,_,l,z,O⟩:=n.ins q N;have j:p=C:=by
    rw[x.k,hk,w]at l;cases l
    rfl
   subst j;split at g
   .rename_i U J;obtain⟨u,L,I⟩:=O.look J;exact⟨b.m i,p,B,M,u,rfl,z,F,y,L,g b u (.refl b) n I⟩
   exact g.elim
  exact g.elim
def uO(J:zb X.K vP c=u7 (u7 (.ref C)))(T:ZJ X.K C)(N:HD X.K C f)(ha:QE X E o ta)(L:QE X E e tv)(Q:swapsWith e (u7 (.Attribute o f pos')) pos.line X.env=pure uA:=by rfl):
  QS X E (.Assign [.Attribute o f pos'] e pos) (Cp c ta tv f):=
 (md ha L Q).mono λW σ H h=>by
  obtain⟨a,S,G,hk,rfl,s,r,h⟩:=h;refine⟨a,S,G,hk,rfl,s,r,(Hc h).imp ?_⟩;rintro v _ ⟨b,d,I,rfl,x,U,q,-,P⟩;refine⟨b,S,I,x.k.trans hk,rfl,U,r.mono x,(Hc P).imp ?_⟩;rintro v2 _ ⟨l,d2,G2,rfl,y,z,M,-,g⟩;split at g
  .rename_i i;split at g
   .rename_i fs hi;split at g
    .rename_i Z;obtain⟨i',w,A,B,O,Y,rfl,eg,u,p,F⟩:=z.ins M hi;cases O;have n:w=C:=by
      rw[y.k,x.k,hk,J]at u;cases u
      rfl
     subst n;have j:Ext l (l.put (l.m i) (.ins w A (Er f v B))):=.YX p;exact⟨l.m i,w,A,B,rfl,p,T,N,F.len▸Z,g _ σ j (z.YX Y u p (.put ((q.mono y).mono j) (F.mono j))) (((r.mono x).mono y).mono j)⟩
    exact g.elim
   exact g.elim
  exact g.elim
def uP{sp F:List D->DH->R D}{p:St}{H:Hp}{Q:VK}(y:zb X.K vP c=u7 (u7 (.ref C)))(h:lE X.K E0 (Bu c m F ta tr) p H Q):Vv C m (lF X.K F) [] E0 (lE X.K E0 ta) (lA X.K E0 tr) p H Q:=by
 obtain⟨a,S,G,hk,rfl,s,r,h⟩:=h;refine⟨a,S,G,hk,rfl,s,r,(Eo h).imp ?_⟩;rintro v _ ⟨b,d,w,rfl,x,n,q,-,g⟩;split at g
 .rename_i fs Y;obtain⟨i,P,L,U,rfl,_,rfl,_,l,I,Z⟩:=n.ins q Y;have j:P=C:=by
   rw[x.k,hk,y]at l;cases l
   rfl
  subst j;split at g
  .rename_i O;refine⟨b.m i,L,U,rfl,I,Z.Yl O,b,S,w,x.k.trans hk,rfl,n,r.mono x,(Js g).imp ?_⟩;rintro N _ ⟨T,M,A,rfl,u,J,B,-,z⟩;exact⟨T,A,.ref i::M,(u.k.trans x.k).trans hk,rfl,J,⟨.ref (b.m i),N,by rw[qX],q.mono u,B⟩,z⟩
  exact g.elim
 exact g.elim
def Zt{CX:PL}{k:Nat}{g:vX}{b:vK}{ps:List Str}{F:List D->DH->R D}{pl:Sem Bool}(d:zb X.K vP c=u7 (u7 (.ref C)))(r:ZJ X.K C)(p:ZK X.K C m g)(i:JD X.prog X.w X.K X.mg X.base CX k g b ps (lF X.K F))(q:HB k X.A)(l:Binds X.K b ps [])
  (j:Passes CX X E0) (ho:QE X E0 o ta) (n:QA X E0 (e::es) tr) (s:notStar e=u9:=by rfl) (a:es.all notStar=u9:=by rfl)
  (u:eval (.Call (.Attribute o m apos) (e::es) [] pos) X.env=(do
   let ov<-eval o X.env
   standAt apos.atName
   let(f,first)<-holding [ov] (getMethod ov m pl)
   callWith pos f first (vD pos (wQ (e::es) X.env)) (vE pos (vN [] X.env))):=by rfl):QE X E0 (.Call (.Attribute o m apos) (e::es) [] pos) (Bu c m F ta tr):=
 (mx ho r p i q l .nil j n (K1 e es X.env s) (Mz pos X.env es a) u).mono λv H Q h=>uP (sp:=F) d h
def uR(z:zb X.K vP c=u7 (u7 (.ref C)))(L:ZJ X.K C)(n:ZK X.K C m g)(O:JD X.prog X.w X.K X.mg X.base CX k g fd ps (lF X.K F))(M:HB k X.A)(I:Binds X.K fd ps [])
  (Z:Passes CX X E0) (ho:QE X E0 o ta)
  (Y:eval (.Call (.Attribute o m apos) [] [] pos) X.env=(do
   let ov<-eval o X.env
   standAt apos.atName
   let(f,first)<-holding [ov] (getMethod ov m pl)
   callWith pos f first (vD pos (wQ [] X.env)) (vE pos (vN [] X.env))):=by rfl):QE X E0 (.Call (.Attribute o m apos) [] [] pos) (Bu c m F ta Bb):=
 (my ho L n O M I .nil Z Y).mono λσ H Q h=>by
  obtain⟨a,S,G,hk,rfl,s,r,h⟩:=h;refine⟨a,S,G,hk,rfl,s,r,(Eo h).imp ?_⟩;rintro v _ ⟨b,d,y,rfl,x,u,q,-,j⟩;split at j
  .rename_i fs T;obtain⟨i,N,J,P,rfl,_,rfl,_,p,B,U⟩:=u.ins q T;have l:N=C:=by
    rw[x.k,hk,z]at p;cases p
    rfl
   subst l;split at j
   .rename_i n;exact⟨b.m i,J,P,rfl,B,U.Yl n,b,y,[.ref i],x.k.trans hk,rfl,u,⟨.ref (b.m i),[],rfl,q,rfl⟩,j⟩
   exact j.elim
  exact j.elim
def uS(hk:a.K=X.K)(A:zb X.K vP c=u7 (u7 (.ref C)))(s:YA a G)(q:JA a ds vs)
  (h:out E0 a ((F (.ref (lN G)::ds) (G++[.ins c []])).bind λv J=>match v with
   |.LA=>.ok (.ref (lN G)) J
   |_=>.bad) Q):∀x g,a.H x=u8->a.H g=u8->g≠x->lF X.K F (.ref x::(vs++[])) (upd (upd a.H g (.own x)) x (.ins C g [])) (λv N=>v=.LA/\Q (.ref x) N) E:=λp g hp k r=>by
 have u:Ext a (a.put g (.own p)):=.put k;have j:(a.put g (.own p)).H p=u8:=by show upd a.H g (.own p) p=u8;rw[Ah λz=>r z.symm];exact hp
 have y:Ext (a.put g (.own p)) ((a.put g (.own p)).push p (.ins C g [])):=.push j;have B:YA ((a.put g (.own p)).push p (.ins C g [])) (G++[.ins c []]):=(s.put k).push j ⟨C,g,[],by show zb a.K vP c=_;rw[hk];exact A,rfl,rfl,rfl⟩;have i:((a.put g (.own p)).push p (.ins C g [])).m a.n=p:=by show(if a.n=a.n then p else a.m a.n)=p;rw[if_pos rfl]
 have w:NB ((a.put g (.own p)).push p (.ins C g [])) (.ref (lN G)) (.ref p):=by rw[s.len];exact⟨qC _,by rw[i]⟩
 refine⟨(a.put g (.own p)).push p (.ins C g []),_,.ref (lN G)::ds,hk,rfl,B,⟨.ref p,vs,by rw[qX],w,(q.mono u).mono y⟩,(Eo (out.mono (u.trans y) h)).imp ?_⟩;rintro v _ ⟨b,d,O,rfl,I,M,L,-,l⟩;split at l
 .have:=L;exact⟨this,l b _ (.refl b) M (w.mono I)⟩
 exact l.elim
def cX{CX:PL}{k:Nat}{g:vX}{j:vK}{ps:List Str}{F:List D->DH->R D}{p:Pos}(n:zb X.K vP c=u7 (u7 (.ref C)))(M:Mk X.K C g)(v:JD X.prog X.w X.K X.mg X.base CX k g j ps (lF X.K F))(J:HB (k+1) X.A)(u:Gl X c)(I:X.mg c=u7 (.ref C))(z:Binds X.K j ps [])
  (y:Passes CX X E0) (B:QA X E0 (e::es) tr) (i:(c==("__debug__":Str))=uA:=by decide) (N:notStar e=u9:=by rfl) (d:es.all notStar=u9:=by rfl):QE X E0 (.Call (.Name c p) (e::es) [] pos) (Lx c F tr):=
 (nA M v J u I z .nil y B i (K1 e es X.env N) (Mz pos X.env es d)).mono λP H Q h=>by obtain⟨a,S,G,hk,rfl,s,r,h⟩:=h;refine⟨a,S,G,hk,rfl,s,r,(Js h).imp ?_⟩;rintro T _ ⟨b,U,O,rfl,x,L,q,-,l⟩;exact uS (x.k.trans hk) n L q l
end
theorem Ro:∀{ns:List Int}{us:List vk},Vals (ns.map V.int) us->lN us=lN ns/\∀(j:Nat)(u:vk),us[j]?=u7 u->∃t,∃h:j<lN ns,u=.int ns[j] t
 |[],us,h=>by cases h;exact⟨rfl,λj u e=>by simp at e⟩
 | n::ns,us,h=>by
  cases h with
  | cons r d=>
   obtain⟨b,f⟩:=Ro d;obtain⟨t,rfl⟩:=r;refine⟨by simp[b],λj u e=>?_⟩;cases j with
   |zero=>simp at e;exact⟨t,by simp,by simpa using e.symm⟩
   |succ j=>
    obtain⟨g,c,a⟩:=f j u (by simpa using e);exact⟨g,by simpa using c,by simpa using a⟩
section
variable{X:Cx}{E:XK}
def uT(h:ItemsOf (λi v=>∃t,v=.int ((0:Int)+i*1) t) acc n):Vals ((zW n).map λ(i:Nat)=>V.int (i:Int)) acc.toList:=by
 obtain⟨b,g⟩:=h;refine X6 (by simp[b]) λi v u a c=>?_
 have d:i<n:=by have:=(zZ.mp a).1;simpa using this
 rw[zj,qB d]at a;have f:v=V.int (i:Int):=by simpa using a.symm
 obtain⟨t,e⟩:=g i u (by rw[<-jC];exact c);subst f;refine⟨t,?_⟩;rw[e]
 congr 1
 lia
noncomputable def Kk(lo:Int)(n:Nat):It:=⟨λi _=>i<n,λi H x H'=>H'=H/\x=.int (lo-i),λi _=>n<=i⟩
def uU{P:vq}{w:vA}{K:za}{tg:vW}(it:vX)(g:Int)(n:Nat):Turn P w K tg (Kk g n) [it] it (λi h=>IsRangeIter h it (g+(i:Nat)*(-1)) ((n:Int)-(i:Nat)) (-1)) where
 mem:=by simp
 obj:=λi h a b c=>by
  have e:b=it:=by simpa using c
  subst e;exact⟨_,a,λv z=>by have C:=z;cases C⟩
 keep:=λi h B a k=>k it (by simp) _ a
 item:=by
  intro X l hw u r i f s M H E I j a q;subst l hw u;obtain⟨y,m,J,x,p,A⟩:=j it (by simp);refine(Walks.range (I.ok.hd r) it g (-1) n).item i s _ _ q a λv B O F d N=>?_
  obtain⟨t,rfl⟩:=F;refine⟨_,rfl,Kz d rfl rfl (by decide) ⟨.int (g-i),H,I.turned (λb o c e=>N b o (by simpa using c) e) y m x p A,⟨t,?_⟩,⟨rfl,rfl⟩,d,λb c=>(j b c).1⟩⟩
  congr 1
  lia
 done:=by intro X l hw u r i f s M H E I j a q;subst l hw u;obtain⟨y,m,J,x,p,A⟩:=j it (by simp);exact wpAny_pyNext_range_end (I.ok.hd r) a (by have:n<=i:=q;lia) λB L=>⟨rfl,I.turned (λb o c e=>L b o c e) y m x p A⟩
 self:=λ_ _ _ _ _ a h=>wpAny_pyIter_rangeiter a h
def ZD(a b:Int):Builtin.Range.rangeSize a b (-1)=if b<a then a-b else 0:=by
 unfold Builtin.Range.rangeSize;rw[if_neg (by decide)];have e:(- (-1:Int))=1:=by decide
 rw[e,Int.ediv_one]
 split <;> lia
def UJ(f: -(2^62)<=a)(d:a<2^62)(e: -(2^62)<=b)(c:b<2^62):Builtin.Range.small a b (-1)=u9:=by
 unfold Builtin.Range.small;rw[ZD];simp[Builtin.Range.rangeFitsLong,zP,xj,decide_eq_true_eq,beq_iff_eq,show¬((-1:Int)>0) by decide,if_false]
 split <;> lia
def iDn(ta:TA):TI:=λσ H R=>ta σ H λvs H1=>∃i j:Int,vs=[.int i,.int j,.int (-1)]/\(-(2^62)<=i/\i<2^62/\ -(2^62)<=j/\j<2^62)/\R (Kk i (i-j).toNat) H1
theorem ua{tg a b c:vW}{ta:TA}{p pos:Pos}(M:Gl X "range")(S:X.mg "range"=u8)(U:PA X [a,b,c] ta)(O:wQ [a,b,c] X.env=(uA,eval a X.env)::wQ [b,c] X.env:=by rfl)(x:(vD pos (wQ [b,c] X.env)).any (·.1)=uA:=by rfl):
  PI X tg (.Call (.Name "range" p) [a,b,c] [] pos) (iDn ta):=by
 intro k s B H R I h;refine Call_ (Ib I M S vf (qb (GB (U pos k s B H _ I h) λY m zz=>?_) O x));obtain⟨W,A,K,T,w⟩:=zz;obtain⟨i,j,e,⟨w,C,Q,J⟩,q⟩:=w;subst e;cases T with
 | cons r u=>
  cases u with
  | cons P u=>
   cases u with
   | cons y u=>
    cases u;obtain⟨t,rfl⟩:=r;obtain⟨v,rfl⟩:=P;obtain⟨g,rfl⟩:=y;refine call_range_3 (by decide) ?_ (.inl (uv (by lia)));refine wpAny_pyIter_range (.new ..) (UJ w C Q J) ?_;have z:Inv X k B A {m with heap:=m.heap.push {cls:=.type "range",data:=.fields #[.int i t,.int j v,.int (-1) g]},toks:=m.toks}:=K.kept λb o e=>zX _ e
    refine⟨(m.heap.push {cls:=.type "range",data:=.fields #[.int i t,.int j v,.int (-1) g]}).objs.size,[(m.heap.push {cls:=.type "range",data:=.fields #[.int i t,.int j v,.int (-1) g]}).objs.size],_,_,A,rfl,
     z.kept λb o e=>zX _ e,uU _ i (i-j).toNat,?_,λb N=>?_,q⟩
    .have L:i+((0:Nat):Int)*(-1)=i:=by simp
     have F:(((i-j).toNat:Nat):Int)-((0:Nat):Int)=Builtin.Range.rangeSize i j (-1):=by rw[ZD];split <;> lia
     rw[L,F];exact z3 _ rfl
    have e:b=(m.heap.push {cls:=.type "range",data:=.fields #[.int i t,.int j v,.int (-1) g]}).objs.size:=by simpa using N
    subst e;exact z.Gu (zv _) (z.UA.fresh (zv _))
noncomputable def J8(lo:Int)(n:Nat):List D:=(zW n).map λ(k:Nat)=>D.int (lo-(k:Int))
def VJ(ds:List D)(G:DH):R KM:=match ds with
 |[.int i,.int j,.int k]=>if inR i/\inR j/\k= -1 then .ok (.pure (J8 i (i-j).toNat)) G else .bad
 |_=>.bad
def ub(e:Int)(n:Nat):WE a (.pure (J8 e n)) (Kk e n):=by
 refine⟨(zW n).map λ(k:Nat)=>V.int (e-(k:Int)),?_,λb x i=>⟨λv c=>?_,λf=>?_⟩⟩
 .unfold J8;generalize zW n=l
  induction l with
  |nil=>exact rfl
  |cons k l g=>exact⟨_,_,rfl,rfl,g⟩
 .rw[zj]at c;by_cases d:i<n
  .rw[qB d]at c;exact⟨d,λw h y=>⟨y.2.trans (by simpa using c),y.1⟩⟩
  rw[zC (by simpa using d)]at c;cases c
 show n<=i;simpa using f
def uc{tg e f c:vW}{ta:DA}{p pos:Pos}(z:Gl X "range")(F:X.mg "range"=u8)(I:QA X E [e,f,c] ta)(A:wQ [e,f,c] X.env=(uA,eval e X.env)::wQ [f,c] X.env:=by rfl)(l:(vD pos (wQ [f,c] X.env)).any (·.1)=uA:=by rfl):
  QI X E tg (.Call (.Name "range" p) [e,f,c] [] pos) (Ba VJ ta):=
 (ua z F I A l).mono λT H Q h=>by
  obtain⟨a,S,G,hk,rfl,s,r,h⟩:=h;refine⟨a,S,G,hk,rfl,s,r,(Pb h).imp ?_⟩;rintro P _ ⟨b,N,J,rfl,x,B,q,-,d⟩;unfold VJ at d;split at d
  .rename_i i j k;split at d
   .rename_i g;obtain⟨m,g,rfl⟩:=g;obtain⟨v,r,y,n,O,K,u,t,M,L,o,C,w⟩:=q;cases(n);cases(t);cases(C);cases(w);subst o;subst u;exact⟨i,j,y,⟨m.1,m.2,g.1,g.2⟩,d b _ (.refl b) B (ub i (i-j).toNat)⟩
   exact d.elim
  exact d.elim
end
section
variable{prog:vq}{w:vA}{A:vV}{E:vk->vj->Prop}{s:vj}
end
section
variable{X:Cx}{E:XK}
end
end _D
namespace _D
open PySem PySem.Spec _L
def Cw(c f:Str)(d:D)(G:DH):R D:=match Hw c d G with
 |some fs=>match fs.lookup f with
  |some v=>.ok v G
  |none=>.bad
 |none=>.bad
def Jl(c f:Str)(o d:D)(S:PB)(G:DH):SR:=match o with
 |.ref i=>match Hw c o G with
  |some fs=>if lN fs<1000 then .nx S (G.set i (.ins c (Hn f d fs)))else .bad
  |none=>.bad
 |_=>.bad
def Ig(c m:Str)(F:List D->DH->R D)(t:DA)(S:PB)(o:D)(G:DH):R D:=match Hw c o G with
 |some fs=>match fs.lookup m with
  |none=>(t S G).bind λds G2=>F (o::ds) G2
  |some _=>.bad
 |none=>.bad
def T7(F:List D->DH->R D)(c:Str)(ds:List D)(G1:DH):R D:=(F (.ref (lN G1)::ds) (G1++[.ins c []])).bind λv G2=>match v with
 |.LA=>.ok (.ref (lN G1)) G2
 |_=>.bad
section
variable{S:PB}{G:DH}{c f m:Str}{t to tv:DE}{ta:DA}{F:List D->DH->R D}{i:Nat}{fs:List (Str×D)}{v d:D}
@[simp]theorem Sk:Ay c t f S G=(t S G).bind λd a=>Cw c f d a:=id rfl
@[simp]theorem cY:Cp c to tv f S G=(tv S G).toS λd b=>(to S b).toS λo a=>Jl c f o d S a:=id rfl
@[simp]theorem Fc:Bu c m F to ta S G=(to S G).bind λo a=>Ig c m F ta S o a:=id rfl
@[simp]theorem Fh:Lx c F ta S G=(ta S G).bind λa b=>T7 F c a b:=id rfl
def Xw(h:G[i]?=u7 (.ins c fs)):Hw c (.ref i) G=u7 fs:=by unfold Hw;simp[h,if_true]
def Dl(h:G[i]?=u7 (.ins c fs))(a:fs.lookup f=u7 v):Cw c f (.ref i) G=.ok v G:=by unfold Cw;rw[Xw h];simp[a]
def cZ(h:G[i]?=u7 (.ins c fs))(a:lN fs<1000):Jl c f (.ref i) d S G=.nx S (G.set i (.ins c (Hn f d fs))):=by unfold Jl;simp[Xw h,a,if_true]
def Tt(h:G[i]?=u7 (.ins c fs))(e:fs.lookup m=u8):Ig c m F ta S (.ref i) G=(ta S G).bind λb a=>F (.ref i::b) a:=by unfold Ig;rw[Xw h];simp[e]
@[simp]theorem c7{i j:Int}(a:inR i)(b:inR j):VJ [.int i,.int j,.int (-1)] G=.ok (.pure (J8 i (i-j).toNat)) G:=by simp[VJ,a,b]
theorem ud:J8 lo 0=[]:=rfl
def ue:J8 lo (n+1)=.int lo::J8 (lo-1) n:=by
 unfold J8;rw[jZ,zK,qG]
 congr 1
 .simp
 refine jJ λk _=>?_
 simp only[Function.comp]
 congr 1
 lia
def Hv{d:D}{G a:DH}(e:lN a=lN G)(b:TB (lN G) d=u9):tidy G (.ok d a)=.ok d a:=by
 unfold tidy;simp only[b,if_true];split
 .rename_i h;rw[xA (by lia)]at h;rw[h]
 rfl
def cf{d:D}{G a:DH}(h:a.take (lN G)≠G):tidy G (.ok d a)=.ok d a:=by unfold tidy;simp[h,if_false]
end
end _D
namespace _D
open PySem PySem.Spec _L
open PyProof.Rows hiding St
def Du(x:Str)(n:Int):Str:=if n<1 then Str.empty else if(n==1||x.length==0)=u9 then x else⟨(zQ n.toNat x.cps).foldl (·++·) #[]⟩
theorem Qy:∀(n:Nat)(b:Array Nat),((zQ n a).foldl (·++·) b).toList=b.toList++(zQ n a.toList).flatten
 |0,b=>by simp
 |n+1,b=>by rw[qy,List.foldl_cons,Qy n (b++a),qy,jv];simp
def uf{a:Array Nat}(n:Nat):((zQ n a).foldl (·++·) #[]).size=n*a.size:=by rw[<-qS,Qy];simp
def ug:(Du x n).cps.toList=(zQ n.toNat x.cps.toList).flatten:=by
 unfold Du;split
 .rename_i h;have e:n.toNat=0:=by lia
  rw[e];rfl
 rename_i h;split
 .rename_i a;rw[xj,beq_iff_eq,beq_iff_eq]at a;rcases a with rfl|a
  .simp
  .have e:x.cps.toList=[]:=by have:x.cps.size=0:=a;rw[<-qS]at this;exact qO this
   rw[e];simp
 .rw[Qy];simp
def Bq:D->D->DH->R D
 |.int i,.int j,G=>if KL i j then .ok (.int (i*j)) G else .bad
 |.str x,.int n,G=>if -1000<=n/\n<=1000/\x.length<=1000 then .ok (.str (Du x n)) G else .bad
 |_,_,_=>.bad
section
variable{X:Cx}{E:XK}
def uh:GC X (vG .Mult) (λx y H Q=>∃i n,x=.str i/\y=.int n/\(-1000<=n/\n<=1000/\i.length<=1000)/\Q (.str (Du i n)) H):=by
 intro d s r H x y v u Q I k o h;obtain⟨i,n,rfl,rfl,⟨w,g,e⟩,q⟩:=h;obtain⟨t,rfl⟩:=k;obtain⟨C,rfl⟩:=o;have b:∀m:Nat,m<=1000->i.length*m<=1000000:=λm l=>zG (vZ e l) (by decide)
 refine P.mul_str ?_ (λa c=>?_) (λa c=>?_) ?_
 .rw[decide_eq_false (by lia),decide_eq_false (by lia)];rfl
 .intro p;have:(i.length:Int)*n<=2^63-1:=by have A:(i.length:Int)*n<=1000*1000:=Int.mul_le_mul (by lia) g (by lia) (by lia);lia
  have B:=(Int.le_ediv_iff_mul_le (by lia)).mpr this;lia
 .have:=b n.toNat (by lia);unfold Builtin.Str.tooLong;rw[vT];exact decide_eq_false (by lia)
 unfold Du at q;split
 .rename_i a;rw[if_pos a]at q;exact⟨by decide,.str Str.empty,H,I.tok _,⟨_,rfl⟩,q⟩
 .rename_i a;rw[if_neg a]at q;split
  .rename_i c;rw[if_pos c]at q;exact⟨.str i,H,I,⟨t,rfl⟩,q⟩
  .rename_i c;rw[if_neg c]at q;refine⟨?_,.str _,H,I.tok _,⟨_,rfl⟩,q⟩
   show((zQ n.toNat i.cps).foldl (·++·) #[]).size<=sizeLine
   have f:i.cps.size<=1000:=e;have z:=vZ (show n.toNat<=1000 by lia) f;rw[uf,vT];lia
def ui:GC X (vG .Mult) (ZE X.K E Bq):=Fo (uM.or uh) λa G d e x y Q hk s rd re q=>by
 cases d<;>cases e<;>first
  |exact q.elim
  | (
    rename_i i j;unfold Bq at q;dsimp only at q;split at q
    .first
     |exact .inl ⟨_,_,rd,re,by assumption,q a _ (.refl a) s rfl⟩
     |exact .inr ⟨_,_,rd,re,by assumption,q a _ (.refl a) s rfl⟩
    exact q.elim)
end
section
variable{i j:Int}{G:DH}
def Dr(b: -(2^64)<i)(a:i<2^64):Bq (.int i) (.int j) G=.ok (.int (i*j)) G:=if_pos (.inl (.inl ⟨b,a⟩))
def N6(b: -(2^64)<j)(a:j<2^64):Bq (.int i) (.int j) G=.ok (.int (i*j)) G:=if_pos (.inl (.inr ⟨b,a⟩))
@[simp]theorem Fk(h:n<18446744073709551616):Bq (.int (no_index (OfNat.ofNat n))) (.int j) G=.ok (.int (OfNat.ofNat n*j)) G:=
 Dr (by have:(0:Int)<=(OfNat.ofNat n:Int):=Int.natCast_nonneg n;lia) (by have:(OfNat.ofNat n:Int)<18446744073709551616:=Int.ofNat_lt.mpr h;lia)
@[simp]theorem Fm(h:n<18446744073709551616):Bq (.int i) (.int (no_index (OfNat.ofNat n))) G=.ok (.int (i*OfNat.ofNat n)) G:=
 N6 (by have:(0:Int)<=(OfNat.ofNat n:Int):=Int.natCast_nonneg n;lia) (by have:(OfNat.ofNat n:Int)<18446744073709551616:=Int.ofNat_lt.mpr h;lia)
def ul(h: -1000<=n/\n<=1000/\x.length<=1000):Bq (.str x) (.int n) G=.ok (.str (Du x n)) G:=if_pos h
end
section
variable{X:Cx}{E:XK}{e st:vW}{te:TE}{ts:TO}{p2 pos:Pos}
end
theorem JA.rev:∀{b:List D}{vs:List V},JA a b vs->JA a b.reverse vs.reverse
 |[],vs,r=>by cases r;exact .nil
 |d::b,vs,r=>by obtain⟨v,c,rfl,h,f⟩:=r;rw[jG,jG];exact .append (.rev f) (.cons h JA.nil)
section
variable{S:PB}{G:DH}
end
section
variable{X:Cx}{E:XK}
end
section
variable{S:PB}{G:DH}
end
noncomputable abbrev Kq(X:Cx)(qual:Str)(scope:vz)(f:vX)(cd:vk)(L:vX):Env:=PySem.W.envX qual scope L f cd (Cz X.env scope.names [])
def M7(X:Cx)(N:List Str)(qual:Str)(scope:vz)(f:vX)(cd:vk)(A:vV)(s:vj)(H:Hp):Cx where
 prog:=X.prog
 w:=X.w
 K:=X.K
 mg:=X.mg
 base:=X.base
 A:=A.deeper (Kq X qual scope f cd s.heap.objs.size)
 N:=N
 s₀:=s
 H₀:=H
 env:=Kq X qual scope f cd s.heap.objs.size
 outer:=X.stack
 stack:=Kq X qual scope f cd s.heap.objs.size::X.stack
 ex:=[]
 fn:=λ_=>uA
 calm:=u9
 pn:=[]
 xe:=λ_ _=>False
noncomputable def Ie(caps:List Nat)(d:D)(S:PB):PB:=u7 d::caps.map λj=>(S[j]?).join
section
variable{X:Cx}{wM:List (vX×Obj)}{σ:St}{H:Hp}{s:vj}{N:List Str}{scope:vz}{caps:List Nat}{x qual:Str}{f:vX}{cd:vk}{A:vV}
def um(cs:JC X N scope 1 caps)(hN:N[0]?=u7 x)(hx:scope.names.lookup x=u7 .local)(I:Inv X wM σ H s)(hA:A.handled=u8)(P:A.frames=u7 X.stack)(ru:RelV v u)
  (t?:l.Ns s.heap.objs.size (λy=>jB y [(x,u)].reverse)) (k:∀b o,s.heap.get? b=u7 o->l.get? b=u7 o):
  Inv (M7 X N qual scope f cd A s H) [] (u7 v::caps.map λj=>(σ[j]?).join) H {s with heap:=l,toks:=tk}:=by
 have C:∀b:vX,b∉(M7 X N qual scope f cd A s H).ex:=λb z=>absurd (show b∈([]:List vX)from z) (by simp)
 refine⟨⟨I.ok.mod,cs.kind,rfl,rfl,zv _,λy z c E J=>I.ok.inj y z c (cs.cl I.ok E) (cs.cl I.ok J),λy hy=>?_,λy c h=>absurd (show(uA:Bool)=u9 from h) (by decide),λ_=>hA,Around.frames_deeper P,.inr ⟨rfl,rfl⟩,λb z=>absurd z (C b),I.bs,zG I.ok.KN I.sz,λb _ _=>C b,λb z=>absurd z (C b),I.stack,I.Yw⟩,
  rfl,I.bare,.kept k,⟨_,t?,λi y n e1 e2 e3=>?_⟩,λy L e=>?_,I.UA.fresh (zv _),λy L e=>I.Gj y L (cs.cl I.ok e),λp hp=>absurd (show p∈([]:List (vX×Obj))from hp) (by simp),I.UA.kept k,?_⟩
 .have hy':=hy;have t:scope.names.lookup y=u7 .free:=by
   rcases hy' with z|z
   .exact absurd rfl (cs.NH _ (zc z))
   exact z
  obtain⟨d,hd⟩:=Mv (.inl (zc t));exact Px hd
 .have w:N[i]?=u7 y:=e1;cases i with
  |zero=>
   rw[hN]at w;cases w;have a:v=n:=by simpa using e2
   subst a;exact⟨u,ru,.inl ⟨hx,by simp⟩⟩
  | succ i=>
   have a:((caps.map λj=>(σ[j]?).join)[i]?)=u7 (u7 n):=by simpa using e2
   rw[zj]at a;cases U:caps[i]? with
   |none=>rw[U]at a;cases a
   | some j=>
    rw[U]at a;have E:(σ[j]?).join=u7 n:=by simpa using a
    have J:σ[j]?=u7 (u7 n):=by
     cases q:σ[j]? with
     |none=>rw[q]at E;cases E
     |some o=>
      rw[q]at E;have T:o=u7 n:=E;rw[T]
    obtain⟨y2,ey,M,Q⟩:=cs.VR i j U;have O:y=y2:=by rw[xP]at M;rw[w]at M;exact Option.some.inj M
    subst O;have g:=cs.free (y,.free) (zc Q) rfl;have Y:YS X.env.scope y:=by
     rcases g with g|g
     .exact .inr (.inl g)
     exact .inr (.inr g)
    obtain⟨m,hn,hl⟩:=I.loc;obtain⟨u2,K,lk⟩:=hl j y n ey J Y;refine⟨u2,K,?_⟩;rcases lk with⟨W,_⟩|⟨W,c1,ec,B⟩
    .rcases g with g|g
     .rw[W]at g;cases g
     rw[W]at g;cases g
    refine .inr ⟨.inr Q,c1,?_,?_⟩
    .obtain⟨d1,Z⟩:=Mv (.inl (zc Q));obtain⟨d2,F⟩:=Px Z;have:=cs.cl I.ok F;rw[ec]at this;cases this;exact F
    .obtain⟨o,e,S⟩:=B;exact⟨o,k _ _ e,S⟩
 .obtain⟨n,o,e',S⟩:=I.cell y L (cs.cl I.ok e);exact⟨n,o,k _ _ e',S⟩
 show lN (u7 v::caps.map λj=>(σ[j]?).join)=lN N;rw[cs.len];simp;lia
theorem uo(r:UB a S σ)(l:NB a d v):UB a (Ie caps d S) (u7 v::caps.map λj=>(σ[j]?).join):=by
 refine⟨by simp[Ie],λi e h=>?_⟩;unfold Ie at h;cases i with
 |zero=>
  have b:d=e:=by simpa using h
  subst b;exact⟨v,rfl,l⟩
 | succ i=>
  have b:((caps.map λj=>(S[j]?).join)[i]?)=u7 (u7 e):=by simpa using h
  rw[zj]at b;cases g:caps[i]? with
  |none=>rw[g]at b;cases b
  | some j=>
   rw[g]at b;have c:(S[j]?).join=u7 e:=by simpa using b
   have n:S[j]?=u7 (u7 e):=by
    cases q:S[j]? with
    |none=>rw[q]at c;cases c
    |some o=>
     rw[q]at c;have k:o=u7 e:=c;rw[k]
   obtain⟨t,m,p⟩:=r.get j e n;exact⟨t,by simp[g,m],p⟩
def ur
  (cs:JC X N scope 1 caps) (hN:N[0]?=u7 x) (L:scope.names.lookup x=u7 .local) (m:scope.isCoroutine=uA) (i:scope.isGenerator=uA)
  (I:Inv X wM σ a.H s) (hk:a.K=X.K) (sm:YA a G) (O:UB a S σ) (ho:s.heap.get? f=u7 ob) (F:ob.data=.func (ze "<lambda>" qual params body scope (Cz X.env scope.names []) pm (.ref c') JI)) (n:s.heap.CodeRec (.ref c') qual)
  (c:bindArgs (ze "<lambda>" qual params body scope (Cz X.env scope.names []) pm (.ref c') JI) ⟨[u],[]⟩=pure [(x,u)])
  (z:HB (k+1) A) (p:A.frames=u7 X.stack) (U:HB k (A.deeper (Kq X qual scope f (.ref c') s.heap.objs.size))->QE (M7 X N qual scope f (.ref c') A s a.H) E0 body te)
  (ru:RelV v u) (Y:NB a d v) (h:out E0 a (te (Ie caps d S) G) Q):
  codeAny (vR X.prog X.w) A (.call (.ref f) ⟨[u],[]⟩) (CR JK X.stack X.prog X.w a.H s Q E) s:=by
 refine PySem.W.kla_callFunE z.depth ho F m i rfl n ?_;rw[c];refine w6 (wpAny_newFunctionEnv cs.NH (λy T=>?_) (λg C t=>?_) cs.kind)
 .have B:y=(x,u):=by simpa using T
  subst B;exact L
 have j:∀b o,s.heap.get? b=u7 o->g.get? b=u7 o:=λb o e=>t.extBut b o (zN (zA e)) (zX _ e)
 refine⟨I.nolimit.keeps j,?_⟩;refine PySem.W.kla_codeExpr (ww (U (z.deeper _) [] _ _ a.H Q (um (qual:=qual) (f:=f) (cd:=.ref c') cs hN L I z.hd p ru (tk:=s.toks+1) C j) ⟨a,Ie caps d S,G,hk,rfl,sm,uo O Y,h⟩) (λr s' P=>?_) λ_ _ hF=>hF.elim);obtain⟨M,Z,l,rv,q⟩:=P;exact⟨M,Z,l.os,l.bare,l.base,l.UA,rv,q⟩
end
def OM(base:Heap)(mg:Str->Option vk):Prop:=∃(bm:vX)(ob:Obj),mg "__builtins__"=u7 (.ref bm)/\bm≠builtinsNs/\base.get? bm=u7 ob/\ob.cls=.type "module"/\ob.dict=u7 builtinsNs/\ob.data=.plain
theorem ut(l:List vk)(h:TriplesOk l):TriplesOk (l++[.int i t,.int j u,c]):=by
 fun_induction TriplesOk l with
 |case1=>simp[TriplesOk]
 |case2 a b c d x rest e=>exact e h
 |case3=>exact h.elim
theorem vm(l:List vk)(h:TriplesOk l)(f:codeAmong pos (l++[.int i t,.int j u,c])=u7 cv):codeAmong pos l=u7 cv\/cv=c:=by
 fun_induction TriplesOk l with
 |case1=>
  right
  simp only[q9,codeAmong]at f;split at f
  .exact(Option.some.inj f).symm
  cases f
 |case2 a b k d x rest g=>
  simp only[j3,codeAmong]at f⊢;split at f
  .rename_i e;rw[if_pos e];exact .inl f
  rename_i e;rw[if_neg e];exact g h f
 |case3=>exact h.elim
section
variable{X:Cx}{wM:List (vX×Obj)}{σ:St}{s:vj}{scope:vz}{a:Wd}
def grown(c:a.H P=u7 (.QF ps))(d:a.H c'=u8):
  let H':=upd (upd a.H P (.QF (ps++more))) c' (.XC oc (.own 0))
  (∀b u,a.H b=u7 u->b≠P->H' b=u7 u)/\H' P=u7 (.QF (ps++more))/\H' c'=u7 (.XC oc (.own 0)):=by
 have f:P≠c':=λz=>by rw[z,d]at c;cases c
 refine⟨λb u e g=>?_,?_,Dp⟩
 .rw[Ah (G9 e d),Ah g];exact e
 rw[Ah f,Dp]
def vp(T:OE a.H P)(A:a.H P=u7 (.QF ps))(M:a.H J=u8)(O:oc.data=.fields vs)(L:vs[1]?=u7 (.str Dj tk)):
  Ext a {a with H:=upd (upd a.H P (.QF (ps++ #[.int i t,.int j u,.ref J]))) J (.XC oc (.own 0))}:=by
 obtain⟨l,Q,N⟩:=grown A M;have x:∀b(w:HO),a.H b=u7 w->(∀q,w≠ .QF q)->b≠P:=λb w e n z=>by rw[z,A]at e;exact n _ (Option.some.inj e).symm
 refine⟨rfl,zv _,λ_ _=>rfl,λb S e=>l b _ e (x b _ e (by intro q z;cases z)),λb o w e=>l b _ e (x b _ e (by intro q z;cases z)),λp K=>?_⟩;by_cases e:p=P
 .subst e;obtain⟨m,v,r,B⟩:=K;rw[A]at v;cases v;refine⟨_,Q,by simpa using ut ps.toList r,λg E f=>?_⟩;rcases vm ps.toList r (by simpa using f)with z|z
  .obtain⟨c,d,h,F,y,k,I,C⟩:=B g E z;exact⟨c,d,h,F,y,l c _ k (x c _ k (by intro q z;cases z)),I,C⟩
  exact⟨J,oc,vs,tk,z,N,O,L⟩
 obtain⟨m,v,r,B⟩:=K;refine⟨m,l p _ v e,r,λg E f=>?_⟩;obtain⟨c,d,h,F,y,k,I,C⟩:=B g E f;exact⟨c,d,h,F,y,l c _ k (x c _ k (by intro q z;cases z)),I,C⟩
def vr{b:Wd}{G:DH}(sm:YA a G)(x:Ext a b)(hn:b.n=a.n)(hm:b.m=a.m){P:vX}{ps:Array vk}(hP:a.H P=u7 (.QF ps))(h1:∀p u,a.H p=u7 u->p≠P->b.H p=u7 u)(h2:b.H P≠u8):YA b G:=by
 refine⟨by rw[hn];exact sm.len,by rw[hn,hm];exact sm.inj,λi o e=>?_,λi hi=>?_⟩
 .have q:=sm.obj i o e;rw[hm];have same:∀w:HO,a.H (a.m i)=u7 w->(∀z,w≠ .QF z)->b.H (a.m i)=a.H (a.m i):=λw e n=>by rw[h1 _ _ e (λz=>by rw[z,hP]at e;exact n _ (Option.some.inj e).symm),e]
  cases o with
  |lst ds=>
   obtain⟨us,e1,r1⟩:=q;rw[same _ e1 (by intro z y;cases y)];exact⟨us,e1,r1.mono x⟩
  |QR KA=>
   obtain⟨us,e1,k1,r1⟩:=q;rw[same _ e1 (by intro z y;cases y)];exact⟨us,e1,k1,r1.mono x⟩
  |YB KA=>
   obtain⟨us,e1,k1,r1⟩:=q;rw[same _ e1 (by intro z y;cases y)];exact⟨us,e1,k1,r1.mono x⟩
  |exc c fs=>
   obtain⟨C,oe,u,vs,n1,e1,k1,k2,z⟩:=q;rw[same _ e1 (by intro z y;cases y)];exact⟨C,oe,u,vs,by rw[x.k];exact n1,e1,k1,k2,z.mono x⟩
  |ins c fs=>
   obtain⟨C,dx,us,n1,e1,k1,r1⟩:=q;rw[same _ e1 (by intro z y;cases y)];exact⟨C,dx,us,by rw[x.k];exact n1,e1,k1,r1.mono x⟩
  |tab C m=>obtain⟨c1,P1,e1,t1⟩:=q;exact⟨c1,P1,by rw[x.k];exact e1,x.tab _ t1⟩
  |gone=>trivial
 .rw[hn]at hi;rw[hm];have z:=sm.tr i hi;cases e:a.H (a.m i)with
  |none=>exact absurd e z
  |some w=>
   by_cases hp:a.m i=P
   .rw[hp];exact h2
   .rw[h1 _ _ e hp];intro y;cases y
theorem vt{params:Arguments}{body:vW}{pos:Pos}{c P:vX}{PM:List (Str×vX)}(I:Inv X wM σ a.H s)(u?:closureFor scope X.env=pure PM)(QQ:X.env.code=.ref c)(hhd:zh X.K c P=u9)(T:OE a.H P)(B:OM X.base X.mg)
  (hq:X.env.qual++"<lambda>"=Dj) (MJ:defaultsOf params X.env=([],[])) {R:vk->vj->Prop}
  (h:∀(b:Wd)(f c':vX)(JI:vk)(ob oc:Obj)(vs:Array vk)(t:Tok)(s':vj),Ext a b->(∀G,YA a G->YA b G)->Inv X ((f,ob)::wM) σ b.H s'->ob.data=.func (ze "<lambda>" Dj params body scope PM ((X.mg "__name__").getD .none) (.ref c') JI)->
   b.H c'=u7 (.XC oc (.own 0))->oc.data=.fields vs->vs[1]?=u7 (.str Dj t)->R (.ref f) s'):
  wW (vR X.prog X.w) X.A (eval (.Lambda params body scope pos) X.env) R X.xe s:=by
 refine PySem.W.kla_eval MJ ?_;rw[hq];obtain⟨ps,YO,tr,ent⟩:=id T;have ZO:=I.UA P _ YO;have v?:=uw I.SG hhd;have G:=I.ok.mod.glob.keeps I.bk;have hgP:vP≠P:=λq=>by obtain⟨o,es,ep,e,hd,_⟩:=G;rw[q,ZO]at e;cases e;cases hd
 obtain⟨bm,ob,b1,b2,b3,b4,b5,b6⟩:=B;have VW:=I.bk _ _ b3;have hbP:bm≠P:=λq=>by rw[q,ZO]at VW;cases VW;cases b4
 have hbG:bm≠vP:=λq=>by obtain⟨o,es,ep,e,hd,_⟩:=G;rw[q,e]at VW;cases VW;rw[hd]at b6;cases b6
 have BA:s.heap.BuiltinsAt X.mg P:=⟨bm,ob,b1,b2,hbG,hbP,VW,b4,b5,b6⟩;have hLP:X.env.locals≠P:=λz=>by have:=I.free;rw[z,YO]at this;cases this
 cases hca:codeAmong pos ps.toList with
 |some cv=>
  obtain⟨c',oc,vs,t,rfl,hfz,e3,e4⟩:=ent pos cv hca;refine PySem.W.kla_makeFunctionHit u? I.ok.glob G QQ v? ZO tr hca BA λJI h' tk hk hsz=>?_
  have k2:∀b o,s.heap.get? b=u7 o->(h'.push {cls:=.type "function",data:=.func (ze "<lambda>" Dj params body scope PM ((X.mg "__name__").getD .none) (.ref c') JI)}).get? b=u7 o:=λb o e=>zX _ (hk b o e)
  have I2:=I.kept (t':=tk) k2;refine h a h'.objs.size c' JI {cls:=.type "function",data:=.func (ze "<lambda>" Dj params body scope PM ((X.mg "__name__").getD .none) (.ref c') JI)} oc vs t _ (.refl a) (λ_ z=>z) (I2.Gi λp hp=>?_) rfl hfz e3 e4;rcases z0.mp hp with rfl|hp
  .exact⟨z3 _ rfl,I.UA.fresh hsz,jx (zx I.lt hsz),I.VL hsz,λv z=>by cases z⟩
  exact I2.pin p (zE _ hp)
 | none=>
  refine PySem.W.kla_makeFunction u? I.ok.glob G QQ v? ZO tr hca hgP BA λc' JI h' tk hx WW ZX Ll htb=>?_
  obtain⟨c2,oc,vs,t,e2,NU,hd,hv⟩:=Ll;cases e2;have w?:=I.UA.fresh WW;obtain⟨g1,g2,g3⟩:=grown YO w?;have x:Ext a {a with H:=upd (upd a.H P (.QF (ps++ #[vS pos.line,vS pos.col,.ref c']))) c' (.XC oc (.own 0))}:=vp T YO w? hd hv;generalize hHe:upd (upd a.H P (.QF (ps++ #[vS pos.line,vS pos.col,.ref c']))) c' (.XC oc (.own 0))=H' at*;generalize hfo:PySem.W.kla_obj "<lambda>" Dj params body scope PM ((X.mg "__name__").getD .none) c' JI=fo
  have old:∀b o,b≠P->s.heap.get? b=u7 o->(h'.push fo).get? b=u7 o:=λb o hb e=>zX _ (hx b o hb e)
  have x?:(h'.push fo).get? P=u7 (qh (ps++ #[vS pos.line,vS pos.col,.ref c'])):=zX _ htb;have nP:∀b,a.H b=u8->b≠P:=λb e z=>by rw[z,YO]at e;cases e
  have nf:∀b,a.H b=u8->b≠c'->H' b=u8:=λb e hb=>by rw[<-hHe,Ah hb,Ah (nP b e)];exact e
  have hsz:=zG WW (jR ZX);have I2:Inv X wM σ H' {s with heap:=h'.push fo,toks:=tk}:=by
   refine I.step (ch:=[]) (nofun) (λb o _ _ _ e n=>old b o (nP b n) e) (λb o _ _ _ e n=>⟨o.slots,old b o (nP b n) e⟩) (λb o _ e n=>nf b n (zN (zx (zA e) WW))) (λb o _ e=>?_)
    x.tup x.XC (λb q e=>?_) (λm hn=>(hn.extBut hx hLP).push _) (λb u e=>?_) I.bare
   .by_cases hb:b=P
    .subst hb;exact⟨_,x?⟩
    exact⟨o,old b o hb e⟩
   .by_cases hb:b=P
    .subst hb;rw[YO]at e;cases e;exact⟨_,g2⟩
    exact⟨#[],by rw[g1 b _ e hb];simp⟩
   by_cases hb:b=c'
   .subst hb;rw[g3]at e;cases e;exact⟨zX _ NU,_,zX _ NU⟩
   .by_cases hb2:b=P
    .subst hb2;rw[g2]at e;cases e;exact x?
    .have e':a.H b=u7 u:=by rw[<-hHe,Ah hb,Ah hb2]at e;exact e
     refine(I.UA b u e').ZF (λb' o' GY q=>old b' o' ?_ q) (λb' q=>g1 b' _ q ?_) λb' xs q=>x.tup b' xs q
     .rcases GY with rfl|GY
      .exact hb2
      intro z;rw[z,YO]at GY;cases GY
     intro z;rw[z,YO]at q;cases q
  refine h _ h'.objs.size c' JI fo oc vs t _ x (λG sm=>vr sm x rfl rfl YO g1 (by show H' P≠u8;rw[g2];intro z;cases z)) (I2.Gi λp hp=>?_) (by rw[<-hfo]) g3 hd hv;rcases z0.mp hp with rfl|hp
  .refine⟨z3 _ (by rw[<-hfo];rfl),nf _ (I.UA.fresh hsz) (jx ZX),jx (zx I.lt hsz),I.VL hsz,λv z=>by rw[<-hfo]at z;cases z⟩
  exact I2.pin p (zE _ hp)
end
noncomputable def GP(ks:List Int)(i j:Nat):Bool:=decide (ks.getD i 0<ks.getD j 0)
def Fp(ks:List Int):List D:=
 if lN ks<2 then Al 0 (lN ks)else((Hr (GP ks.reverse) (zi (lN ks))).toList.map λi=>(Al 0 (lN ks)).reverse.getD i .LA).reverse
section
variable{prog:vq}{w:vA}{A:vV}{E:vk->vj->Prop}{s:vj}
def wm{r:vX}{j:Int}{t u v:Tok}{n:Nat}{Q:List vk->vj->Prop}(hh:A.handled=u8)(hr:IsRange s.heap r 0 j 1 t u v)(YR:Builtin.Range.small 0 j 1=u9)(hn:Builtin.Range.rangeSize 0 j 1=n)(hlen:n<=2^24)
  (h:∀h' tk vs,(∀b o,s.heap.get? b=u7 o->h'.get? b=u7 o)->s.heap.objs.size<h'.objs.size->Vals ((zW n).map λ(i:Nat)=>V.int (i:Int)) vs->Q vs {s with heap:=h',toks:=tk}):
  wW (vR prog w) A (collect (.ref r)) Q E s:=by
 have key:∀R:Result->vj->Prop,(∀h' tk HP c',(∀b o,b≠s.heap.objs.size->(s.heap.push (seqObj "list" #[] 0)).get? b=u7 o->h'.get? b=u7 o)->h'.get? s.heap.objs.size=u7 {cls:=.type "list",dict:=u8,data:=.seq HP c',slots:= #[]}->
   ItemsOf (λi v=>∃t,v=.int (0+i*1) t) HP n->R (.ok (.ret (.ref s.heap.objs.size))) {s with heap:=h',toks:=tk})->codeAny (vR prog w) A (.builtin "list.__iadd__" ⟨[.ref s.heap.objs.size,.ref r],[]⟩) R {s with heap:=s.heap.push (seqObj "list" #[] 0)}:=λR hR=>by
  refine codeAny_builtin entry_list_iadd' ?_;rw[Around.under_plainId PySem.F.plain_list_iadd _];exact wpAny_extend_range hh (zX _ hr) YR hn hlen s.heap.objs.size (.ref s.heap.objs.size) 0 (z3 _ rfl) hR
 unfold collect;refine wq (wpAny_runValue (codeAny_builtin entry_proto_collect' ?_));refine wq (wpAny_newList (w6 ⟨Code.quiet_builtin _ (by decide +kernel),key _ λh' tk HP c' hk y? XR=>?_⟩));exact wq (wpAny_load y? (w6 (h h' tk HP.toList (λb o e=>hk b o (zN (zA e)) (zX _ e)) (zA y?) (uT XR))))
def wt{M:Model}{A:vV}{E:vk->vj->Prop}{s:vj}{env:Env}{pos:Pos}{T:String}{e:vW}{rest:List vW}{c:List Keyword}{Q:vk->vj->Prop}
  (i:(vE pos (vN c env)).all (·.1.isSome)=u9)
  (h:wW M A (spliced (vD pos (wQ (e::rest) env))) (λvs b=>wW M A (evalAll ((vE pos (vN c env)).map (·.2)))
   (λks f=>wW M A (call (.builtin T) vs (((vE pos (vN c env)).filterMap (·.1)).zip ks)) Q E f) E b) E s)
  (d:(vD pos (wQ (e::rest) env)).any (·.1)=uA) (j:(vE pos (vN c env)).any (·.1.isNone)=uA) (l:wQ (e::rest) env=(uA,eval e env)::wQ rest env):
  wW M A (callWith pos (.builtin T) [] (vD pos (wQ (e::rest) env)) (vE pos (vN c env))) Q E s:=by
 unfold callWith;refine wq (wv (ww (PyProof.Rows.evalArgs_kw2 (Q:=λa b=>wW M A (call (.builtin T) ([]++a.pos) a.kw) Q E b) i h l) (λa b g=>wq (wpAny_standAt ?_)) λ_ _ x=>x));simp only[d,j,Bool.or_false];exact wq (w6 (wq (ww g (λr f k=>wq (wv (wpAny_point (w6 k)))) λ_ _ x=>x)))
def xl{r q:vX}{j:Int}{t u v:Tok}{n:Nat}{Q:vk->vj->Prop}(J:A.handled=u8)(K:IsRange s.heap r 0 j 1 t u v)(c:Builtin.Range.small 0 j 1=u9)(F:Builtin.Range.rangeSize 0 j 1=n)(B:n<64)
  (h:∀D g tk vs,s.heap.objs.size<=D->g.get? D=u7 (seqObj "list" vs.toArray 0)->(∀b o,s.heap.get? b=u7 o->g.get? b=u7 o)->Vals ((zW n).map λ(i:Nat)=>V.int (i:Int)) vs->
   wW (vR prog w) A.in1.in1 (PyProof.Rows.ksk_tree D (.ref q) u9) (λf s'=>f=PySem.Fin.done (.ret .none)/\Q (.ref D) s') E {s with heap:=g,toks:=tk}):
  wW (vR prog w) A (call (.builtin "sorted") [.ref r] [("key",.ref q),("reverse",.bool u9)]) Q E s:=by
 refine call_function_entry_kw kind_sorted plain_sorted entry_sorted (PyProof.Rows.ksk_s2 _ _ _) ?_;unfold Builtin.«sorted»;refine wq (w6 ?_);refine wq (wm J K c F (by lia) λd tk vs I l z=>?_);have k:vs.length=n:=by have:=z.length;simpa using this.symm
 refine wq (wpAny_newList ?_ (by rw[k,vT];lia));have y:(d.push (seqObj "list" vs.toArray 0)).get? d.objs.size=u7 (seqObj "list" vs.toArray 0):=z3 _ rfl;refine wq (wv (wpAny_call_entry_kw slot_list_sort ⟨_,y,rfl⟩ entry_list_sort ?_ (PyProof.Rows.ksk_l2 _ _ _)));rw[PyProof.Rows.ksk_t2];exact ww (h d.objs.size (d.push (seqObj "list" vs.toArray 0)) tk vs (jR l) y (λb o e=>zX _ (I b o e)) z) (λf s' C=>(⟨_,C.1,w6 ⟨_,rfl,C.2⟩⟩)) λ_ _ x=>x
end
section
variable{X:Cx}{wM:List (vX×Obj)}{σ:St}{H:Hp}{s:vj}{h':Heap}{m:Str->Option vk}
def Wi(I:Inv X wM σ H s)(f:QD X wM H q)(k:∀b o,b≠X.env.locals->b≠q->s.heap.get? b=u7 o->h'.get? b=u7 o)(C:∀o,s.heap.get? q=u7 o->∃r,h'.get? q=u7 r)(ns:∀m,s.heap.Ns X.env.locals m->h'.Ns X.env.locals m):Inv X wM σ H {s with heap:=h'}:=by
 have t:∀c w,H c=u7 w->c≠X.env.locals:=λc w e z=>by rw[z,I.free]at e;cases e
 have y:∀c w,H c=u7 w->c≠q:=λc w e z=>by rw[z,f.1]at e;cases e
 refine I.step (ch:=[q]) (λb i=>?_) (λb o p _ g e _=>k b o p (λz=>g (by simp[z])) e) (λb o p _ g e _=>⟨o.slots,k b o p (λz=>g (by simp[z])) e⟩) (λ_ _ _ _ n=>n) (λb o g e=>?_) (λ_ _ e=>e) (λ_ _ _ e=>e)
  (λb F e=>⟨#[],by rw[e];simp⟩) ns (λb u e=>?_) I.bare
 .have l:b=q:=by simpa using i
  subst l;exact⟨f.2.2.2.1,f.2.1,f.2.2.2.2.1,f.2.2.2.2.2⟩
 .by_cases i:b=X.env.locals
  .obtain⟨m,B,_⟩:=I.loc;obtain⟨r,_,_,j,_⟩:=ns m B;exact⟨r,i▸j⟩
  by_cases h:b=q
  .subst h;exact C o e
  exact⟨o,k b o i h e⟩
 refine(I.UA b u e).ZF (λc v g z=>k c v ?_ ?_ z) (λ_ z=>z) λ_ _ z=>z
 .rcases g with z|z
  .rw[z];exact t b u e
  exact t c _ z
 .rcases g with z|z
  .rw[z];exact y b u e
  exact y c _ z
def xm(I:Inv X wM σ H s)(un:Un (XI X.stack) [] H H' s.heap h2)(h:s.heap.Ns X.env.locals m):h2.Ns X.env.locals m:=by
 obtain⟨o,c,g,e,d,r⟩:=h;by_cases b:X.env.locals∈XI X.stack
 .obtain⟨j,i⟩:=un.slot _ o e I.free b (by simp);exact⟨_,c,g,i,d,r⟩
 exact⟨o,c,g,un.keep _ o e I.free b (by simp),d,r⟩
def ci(I:Inv X wM σ H s)(un:Un (XI X.stack) [] H H' s.heap h2)(f:QD X wM H q)(e:s.heap.get? q=u7 o):h2.get? q=u7 o/\QD X wM H' q:=by
 have b:q∉XI X.stack:=λz=>by
  rcases z0.mp (I.Pu q z)with z|z
  .exact f.2.1 z
  exact f.2.2.1 z
 exact⟨un.keep q o e f.1 b (by simp),un.free q o e f.1 (by simp),f.2⟩
end
def Hd(te:DE)(caps:List Nat)(S:PB):Nat->Nat->DH->R (List Int)
 |0,_,G=>.ok [] G
 |n+1,i,G=>(te (Ie caps (.int i) S) G).bind λd G1=>match d with
  |.int k=>(Hd te caps S n (i+1) G1).bind λks G2=>.ok (k::ks) G2
  |_=>.bad
structure KS (X:Cx) (wM:List (vX×Obj)) (σ:St) (D kS:vX) (e1:Nat) (m:Str->Option vk) (a b:Wd) (G:DH) (ks:List vk) (kz:List Int) (e:Nat) (s:vj):Prop where
 inv:Inv X wM σ b.H s
 ext:Ext a b
 z?:YA b G
 ns:s.heap.Ns X.env.locals m
 k:s.heap.get? kS=u7 (seqObj "list" ks.toArray e)
 d:s.heap.get? D=u7 (seqObj "list" #[] e1)
 fk:QD X wM b.H kS
 fd:QD X wM b.H D
 ne:D≠kS
 A?:X.s₀.heap.objs.size<=D
 iz:IntsAre ks kz
section
variable{X:Cx}{wM:List (vX×Obj)}{σ:St}{N:List Str}{scope:vz}{caps:List Nat}{x:Str}{f:vX}{A:vV}{a:Wd}{S:PB}{body:vW}{te:DE}{params:Arguments}{pm JI:vk}{c':vX}{ob oc:Obj}{RQ:Array vk}{t0:Tok}{E:XK}
 {Dd kS:vX} {e1:Nat} {m:Str->Option vk} {h₀:Heap} {Q:VK}
theorem Zf(cs:JC X N scope 1 caps)(hN:N[0]?=u7 x)(hx:scope.names.lookup x=u7 .local)(L:scope.isCoroutine=uA)(y:scope.isGenerator=uA)(hk:a.K=X.K)(rS:UB a S σ)(hp:(f,ob)∈wM)
  (hd:ob.data=.func (ze "<lambda>" Dj params body scope (Cz X.env scope.names []) pm (.ref c') JI)) (ZR:a.H c'=u7 (.XC oc (.own 0))) (Y:oc.data=.fields RQ) (GS:RQ[1]?=u7 (.str Dj t0))
  (j:∀u,bindArgs (ze "<lambda>" Dj params body scope (Cz X.env scope.names []) pm (.ref c') JI) ⟨[u],[]⟩=pure [(x,u)])
  {k:Nat} (hr:HB (k+1) A) (U:A.frames=u7 X.stack) (he:∀s H,HB k (A.deeper (Kq X Dj scope f (.ref c') s.heap.objs.size))->QE (M7 X N Dj scope f (.ref c') A s H) E0 body te)
  (Z:h₀=Att.Jw h₀) {n0:Nat} {g:List Int->DH->R D} {M:List vk->Nat->vj->Prop}
  (fin:∀(b:Wd)(G:DH)(ks:List vk)(kz:List Int)(e:Nat)(s:vj),KS X wM σ Dd kS e1 m a b G ks kz e s->lN kz=n0->out E0 b (g kz G) Q->M ks e s):
  ∀(r:List vk)(i:Nat)(b:Wd)(G:DH)(ks:List vk)(kz:List Int)(e:Nat)(s:vj),KS X wM σ Dd kS e1 m a b G ks kz e s->lN kz+lN r=n0->(∀(t:Nat)(v:vk),r[t]?=u7 v->∃tk,v=Value.int ((i+t:Nat):Int) tk)->
   out E0 b ((Hd te caps S (lN r) i G).bind λn l=>g (kz++n) l) Q->PySem.W.KatKeys X.prog X.w A h₀ X.env.locals m kS (.ref f) M r ks e s
 |[],i,b,G,ks,kz,e,s,K,hz,hv,h=>by refine .nil (fin b G ks kz e s K hz ?_);have h':out E0 b (g (kz++[]) G) Q:=h;rw[qX]at h';exact h'
 | v::r,i,b,G,ks,kz,e,s,K,hz,hv,h=>by
  obtain⟨tk,rfl⟩:=hv 0 v rfl;have hcr:s.heap.CodeRec (.ref c') Dj:=by obtain⟨e3,_⟩:=K.inv.UA c' _ (K.ext.XC _ _ _ ZR);exact⟨c',oc,RQ,t0,rfl,e3,Y,GS⟩
  have h1:out E0 b ((te (Ie caps (.int (i:Int)) S) G).bind λd F=>(match d with
    |.int k=>(Hd te caps S (lN r) (i+1) F).bind λn l=>g (kz++(k::n)) l
    |_=>.bad)) Q:=by
   have J:out E0 b (((te (Ie caps (.int (i:Int)) S) G).bind λd F=>(match d with
    |.int k=>(Hd te caps S (lN r) (i+1) F).bind λks l=>.ok (k::ks) l
    |_=>.bad)).bind λn l=>g (kz++n) l) Q:=h
   rw[R.bind_assoc]at J;refine cast (congrArg (λz=>out E0 b z Q) ?_) J
   congr 1
   funext d F
   cases d<;>first|rfl|(show((Hd te caps S (lN r) (i+1) F).bind _).bind _=_;rw[R.bind_assoc];rfl)
  refine .cons (wpAny_call (vI (ur (E:=E0) cs hN hx L y K.inv (K.ext.k.trans hk) K.z? (rS.mono K.ext) ((K.inv.pin _ (zE _ hp)).1) hd hcr (j _) hr U (he s b.H) (d:=.int (i:Int)) (v:=.int (i:Int)) ⟨tk,rfl⟩ rfl (Eo h1)) λq T P=>?_));cases q with
  |error e=>exact .elim P
  | ok fl=>
   cases fl with
   | ret u=>
    obtain⟨v',H',os,bare,un,UA,ru,b',d',G',rfl,x',sm',rd',_,h3⟩:=P;have I2:Inv X wM σ b'.H T:=by obtain⟨hh,g1,d1,t1,os1⟩:=T;obtain rfl:os1=s.os:=os;exact K.inv.call un UA bare (λb z=>absurd z (by simp))
    have n2:=xm K.inv un K.ns;obtain⟨k2,C⟩:=ci K.inv un K.fk K.k;obtain⟨d2,O⟩:=ci K.inv un K.fd K.d;cases d' with
    | int z=>
     cases(rd');obtain⟨tz,rfl⟩:=ru;refine⟨(kS,seqObj "list" ks.toArray e)::Att.ledger T.heap X.env.locals kS,_,⟨n2,λb o e=>?_,?_⟩,λp hp=>?_,.head λp hp=>(Att.Gq.mp hp).2.1,λJ c F2 N2=>?_⟩
     .rw[Z,Att.Li]at e;cases e
     .rw[Z];exact jk _
     .rcases z0.mp hp with rfl|hp
      .exact⟨k2,C.2.1,Z▸Att.Li _ _⟩
      obtain⟨q1,q2,q3⟩:=(Att.Gq).mp hp;exact⟨q3,q1,Z▸Att.Li _ _⟩
     have B:∀b o,b≠X.env.locals->b≠kS->T.heap.get? b=u7 o->J.get? b=u7 o:=λb o h1 B? e=>(N2 (b,o) (zV _ (Att.Gq.mpr ⟨h1,B?,e⟩))).1
     have I:=(N2 (kS,seqObj "list" (ks++[Value.int z tz]).toArray c) zk).1;have nsA:∀m',T.heap.Ns X.env.locals m'->J.Ns X.env.locals m':=λm' HS=>by rw[HS.eq_nsMap,<-n2.eq_nsMap];exact F2.ns
     refine Zf cs hN hx L y hk rS hp hd ZR Y GS j hr U he Z fin r (i+1) b' G' (ks++[Value.int z tz]) (kz++[z]) c _ ⟨Wi I2 C B (λ_ _=>⟨_,I⟩) nsA,K.ext.trans x',sm',F2.ns,I,B Dd _ O.2.1 K.ne d2,C,O,K.ne,K.A?,PyProof.Rows.ksk_snoc K.iz⟩ (by rw[zD]at hz;rw[zL,xX];lia) (λt v Nl=>?_) ?_
     .obtain⟨tk',e⟩:=hv (t+1) v (by simpa using Nl);exact⟨tk',by rw[e];congr 1;lia⟩
     .refine cast (congrArg (λz=>out E0 b' z Q) ?_) h3;show((Hd te caps S (lN r) (i+1) G').bind λn l=>g (kz++z::n) l)=_
      congr 1
      funext n l;simp
    |_=>exact h3.elim
   |_=>exact .elim P
end
end _D
namespace _D
open PySem PySem.Spec _L
open PyProof.Rows hiding St
open PySem.W (KatKeys KatFin katRev KatBack)
section
variable{prog:vq}{w:vA}{A:vV}{E:vk->vj->Prop}{s:vj}{h₀:Heap}{L a kS:vX}{m:Str->Option vk}{P:PySem.Fin->vj->Prop}
def xn(c:lN ks=1)(h:KatFin h₀ L m kS a ks e e1 [v] (λd=>P (.done (.ret .none)) d) s):wW (vR prog w) A (ksk_end a u9 [v].toArray e1 (.ref kS) ks.toArray) P E s:=by
 obtain⟨k,rfl⟩:∃k,ks=[k]:=by
  match ks,c with
  |[k],_=>exact⟨k,rfl⟩
 unfold ksk_end;dsimp only;refine wq (wpAny_rule ?_);have b: [v].toArray.size<2:=by simp
 rw[if_pos b,if_pos b];refine wq (w6 ?_);rw[StateT.run_pure];refine wq (w6 ?_);dsimp only;exact PySem.W.kat_tail (out:=[v]) (by simp[arrOf]) (by simp) (by simp) rfl h
def xo(ho:s.heap.get? a=u7 (seqObj "list" [v].toArray n))(hL:L<s.heap.objs.size)
  (h:∀p j h',a<p->s.heap.objs.size<=p->h'.get? p=u7 (seqObj "list" #[] 0)->h'.get? a=u7 (seqObj "list" #[] j)->(∀b o,b≠a->s.heap.get? b=u7 o->h'.get? b=u7 o)->
   KatKeys prog w A h₀ L m p f (λks e s'=>KatFin h₀ L m p a ks e j [v] (λK=>P (.done (.ret .none)) K) s') [v] [] 0 {s with heap:=h'}):
  wW (vR prog w) A (ksk_tree a f u9) P E s:=by
 obtain⟨j,r⟩:∃j,(s.heap.update a (.mapSeq λ_=>(#[]:Array vk))).get? a=u7 (seqObj "list" #[] j):=⟨_,get?_update_seq ho λ_=> #[]⟩;unfold ksk_tree;refine wq (listItems_at ho rfl (wq (listUpdate_at ho rfl ?_ (by rw[zy,vT];simp) (jk _))));refine wq (seqEpoch_at r rfl (wq (wpAny_newTuple (wq (wpAny_newList (wv ?_) (jk _))) (by rw[vT];simp))))
 generalize B:(s.heap.update a (.mapSeq λ_=>(#[]:Array vk))).push {cls:=.type "tuple",data:=.seq [v].toArray.toList.toArray}=i;have I:i.objs.size=s.heap.objs.size+1:=by rw[<-B,size_push',Heap.size_update]
 have T:∀b o,b≠a->s.heap.get? b=u7 o->i.get? b=u7 o:=λb o z q=>by rw[<-B];exact zX _ ((jX.update s.heap a (.mapSeq λ_=>(#[]:Array vk))).extBut b o z q)
 have O:i.get? a=u7 (seqObj "list" #[] j):=by rw[<-B];exact zX _ r
 unfold ksk_rest;refine wq (wpAny_rule ?_);rw[List.forIn_toArray,xz];refine wq (wq (wq (wpAny_attempt (ww (h i.objs.size j (i.push (seqObj "list" #[] 0)) (by rw[I];exact xV (zA ho)) (I▸jN _) (z3 _ rfl) (zX _ O) λb o z q=>zX _ (T b o z q)) (λk t hk=>?_) λ_ _ Z=>Z.elim))))
 obtain⟨y,g,X,C,U,c⟩:=hk;obtain⟨S,F,J,N,Q,Y⟩:=U.split;rw[J]at C;have u:=C (i.objs.size,seqObj "list" (List.toArray []) 0) (zE _ (.head _))
 have H:=jX.update t.heap i.objs.size (.mapSeq (·.push k))
 obtain⟨x,l⟩:∃x,(t.heap.update i.objs.size (.mapSeq (·.push k))).get? i.objs.size=u7 (seqObj "list" [k].toArray x):=⟨_,get?_update_seq u.1 (·.push k)⟩
 dsimp only;refine wq (listUpdate_at u.1 rfl ?_ (jk _) (by rw[vT];simp));refine w6 (w6 ?_);exact wq (listItems_at l rfl (xn rfl (c _ x (PySem.W.kas_fr X H u.2.1 u.2.2) (by rw[N];exact PySem.W.news_set C Q Y H l))))
end
end _D
namespace _D
open PySem PySem.Spec _L
open PyProof.Rows hiding St
theorem Wj:∀{ks:List vk}{kz:List Int},IntsAre ks kz->∀i,i<lN kz->∃t,ks.getD i Value.none=.int (kz.getD i 0) t
 |_,_,.nil,i,h=>absurd h (Nat.not_lt_zero _)
 |_,_,.cons n t r,0,_=>⟨t,rfl⟩
 |_,_,.cons n t r,i+1,h=>Wj r i (jU h)
theorem cq:∀{ks c:List vk}{kz b:List Int},IntsAre ks kz->IntsAre c b->IntsAre (ks++c) (kz++b)
 |_,_,_,_,.nil,h=>h
 |_,_,_,_,.cons n t r,h=>.cons n t (cq r h)
theorem cw:∀{ks:List vk}{kz:List Int},IntsAre ks kz->IntsAre ks.reverse kz.reverse
 |_,_,.nil=>.nil
 |_,_,.cons n t r=>by rw[jG,jG];exact cq (cw r) (.cons n t .nil)
theorem Vals.rev:∀{vs:List V}{us:List vk},Vals vs us->Vals vs.reverse us.reverse
 |_,_,.nil=>.nil
 |_,_,.cons r b=>by rw[jG,jG];exact(Vals.rev b).append (.cons r .nil)
theorem cx:∀(n i:Nat),JA a (Al i n) ((qM i n).map λ(k:Nat)=>V.int (k:Int))
 |0,i=>rfl
 |n+1,i=>by rw[jP,zK,Eh];exact⟨_,_,rfl,rfl,by have:=cx (a:=a) n (i+1);simpa using this⟩
section
variable{X:Cx}{wM:List (vX×Obj)}{σ:St}{N:List Str}{scope:vz}{caps:List Nat}{x:Str}{f:vX}{A:vV}{a:Wd}{S:PB}{body:vW}{te:DE}{params:Arguments}{pm JI:vk}{c':vX}{ob oc:Obj}{RQ:Array vk}{t0:Tok}
 {Dd kS:vX} {e1:Nat} {m:Str->Option vk} {h₀:Heap} {Q:VK}
def cy(K:KS X wM σ Dd kS e1 m a b G ks kz e s)(h0:h₀=Att.Jw h₀)(r:JA b ys ws)(v:Vals ws us)(hz:us.length<64)
  (h:out E0 b (.ok (.ref G.length) (G++[.lst ys])) Q):PySem.W.KatFin h₀ X.env.locals m kS Dd ks e e1 us (λs4=>EP X wM σ Q (.ref Dd) s4) s:=by
 have g0:∀b,h₀.get? b=u8:=λb=>h0▸Att.Li _ _
 have ab:h₀.objs.size<=X.env.locals:=h0▸jk _;refine .intro (news:=(kS,seqObj "list" ks.toArray e)::Att.ledger s.heap X.env.locals kS) ⟨K.ns,λb o e=>(by rw[g0]at e;cases e),ab⟩ (λp hp=>?_) (.head λp hp=>((Att.Gq).mp hp).2.1) λh2 c F2 N2=>?_
 .rcases z0.mp hp with rfl|hp
  .exact⟨K.k,K.fk.2.1,g0 _⟩
  obtain⟨q1,q2,q3⟩:=(Att.Gq).mp hp;exact⟨q3,q1,g0 _⟩
 have IS:∀{h3:Heap},h3.Ns X.env.locals m->∀m',s.heap.Ns X.env.locals m'->h3.Ns X.env.locals m':=λ{h3}hh m' HS=>by have e1:=K.ns.eq_nsMap;rw[HS.eq_nsMap,<-e1];exact hh
 have SQ:∀b o,b≠X.env.locals->b≠kS->s.heap.get? b=u7 o->h2.get? b=u7 o:=λb o q1 q2 e=>(N2 (b,o) (zV _ (Att.Gq.mpr ⟨q1,q2,e⟩))).1
 refine .intro (news:=(Dd,seqObj "list" #[] e1)::Att.ledger h2 X.env.locals Dd) F2 (λp hp=>?_) (.head λp hp=>((Att.Gq).mp hp).2.1) λh3 c3 F3 N3=>?_
 .rcases z0.mp hp with rfl|hp
  .exact⟨SQ Dd _ K.fd.2.1 K.ne K.d,K.fd.2.1,g0 _⟩
  obtain⟨q1,q2,q3⟩:=(Att.Gq).mp hp;exact⟨q3,q1,g0 _⟩
 have XW:=(N3 (Dd,PySem.W.listOf us.toArray c3) zk).1;have ns3:∀m',h2.Ns X.env.locals m'->h3.Ns X.env.locals m':=λm' HS=>by rw[HS.eq_nsMap,<-F2.ns.eq_nsMap];exact F3.ns
 have I3:=Wi (Wi K.inv K.fk SQ (λ_ _=>⟨_,(N2 (kS,seqObj "list" #[] c) zk).1⟩) (IS F2.ns)) K.fd (λb o q1 q2 e=>(N3 (b,o) (zV _ (Att.Gq.mpr ⟨q1,q2,e⟩))).1) (λ_ _=>⟨_,XW⟩) ns3;have WW:=K.fd.2.2.2.1.symm;have Rl:X.s₀.heap.objs.size<=Dd:=by
  rcases WW with z|z
  .exact z
  exact K.A?
 exact⟨.ref Dd,_,Zb I3 K.fd.1 Rl K.fd.2.1 K.fd.2.2.2.2.1 K.fd.2.2.2.2.2 (o:=.lst ws) ⟨by rw[v.length,vT];lia,us,c3,v,XW⟩,rfl,Jt K.z? r h _ K.fd.1⟩
end
section
variable{X:Cx}{wM:List (vX×Obj)}{σ:St}{N:List Str}{scope:vz}{caps:List Nat}{x:Str}{f:vX}{A:vV}{a:Wd}{S:PB}{body:vW}{te:DE}{params:Arguments}{pm JI:vk}{c':vX}{ob oc:Obj}{RQ:Array vk}{t0:Tok}{Q:VK}
def cz(v:Vals ((zW n).map λ(i:Nat)=>V.int (i:Int)) vs)(t:Nat)(u:vk)(h:vs[t]?=u7 u):∃tk,u=Value.int ((0+t:Nat):Int) tk:=by
 have c:vs.length=n:=by have:=v.length;simpa using this.symm
 have d:t<n:=by rw[<-c];exact(zZ.mp h).1
 obtain⟨e,b,r⟩:=v.get (by rw[zj,qB d];rfl);rw[h]at b;cases b;obtain⟨tk,rfl⟩:=r;exact⟨tk,by simp⟩
def xp(cs:JC X N scope 1 caps)(hN:N[0]?=u7 x)(hx:scope.names.lookup x=u7 .local)(Y:scope.isCoroutine=uA)(J:scope.isGenerator=uA)(hk:a.K=X.K)(rS:UB a S σ)(hp:(f,ob)∈wM)
  (hd:ob.data=.func (ze "<lambda>" Dj params body scope (Cz X.env scope.names []) pm (.ref c') JI)) (ZR:a.H c'=u7 (.XC oc (.own 0))) (MO:oc.data=.fields RQ) (GS:RQ[1]?=u7 (.str Dj t0))
  (r:∀u,bindArgs (ze "<lambda>" Dj params body scope (Cz X.env scope.names []) pm (.ref c') JI) ⟨[u],[]⟩=pure [(x,u)])
  {k:Nat} (hr:HB (k+1) A) (C?:A.frames=u7 X.stack) (he:∀s H,HB k (A.deeper (Kq X Dj scope f (.ref c') s.heap.objs.size))->QE (M7 X N Dj scope f (.ref c') A s H) E0 body te)
  {s:vj} {O:Heap} {tk n:Nat} {t:vX} {vs:List vk} {G:DH} (I:Inv X wM σ a.H s) (sm:YA a G) (T:s.heap.objs.size<=t) (oD:O.get? t=u7 (seqObj "list" vs.toArray 0)) (k1:∀b o,s.heap.get? b=u7 o->O.get? b=u7 o) (v:Vals ((zW n).map λ(i:Nat)=>V.int (i:Int)) vs) (n1:1<=n) (n64:n<64)
  (h:out E0 a ((Hd te caps S n 0 G).bind λks d=>.ok (.ref d.length) (d++[.lst (Fp ks)])) Q) {E:vk->vj->Prop}:
  wW (vR X.prog X.w) A (ksk_tree t (.ref f) u9) (λfin s'=>fin=PySem.Fin.done (.ret .none)/\EP X wM σ Q (.ref t) s') E {s with heap:=O,toks:=tk}:=by
 have hl:vs.length=n:=by have:=v.length;simpa using this.symm
 obtain⟨m,hn,_⟩:=id I.loc;have q:=hn.keeps k1;have fD:=I.Gu T (I.UA.fresh T);have IS:∀{h3:Heap},h3.Ns X.env.locals m->∀m',s.heap.Ns X.env.locals m'->h3.Ns X.env.locals m':=λ{h3}hh m' HS=>by have p:=hn.eq_nsMap;have e2:=HS.eq_nsMap;rw[e2,<-p];exact hh
 have rg:∀b:Wd,JA b (Al 0 n) ((zW n).map λ(i:Nat)=>V.int (i:Int)):=λb=>by have:=cx (a:=b) n 0;rw[<-List.range_eq_range']at this;exact this
 have start:∀y p B,s.heap.objs.size<=y->t≠y->B.get? y=u7 (seqObj "list" #[] 0)->B.get? t=u7 (seqObj "list" #[] p)->(∀b o,b≠X.env.locals->s.heap.get? b=u7 o->B.get? b=u7 o)->B.Ns X.env.locals m->
   KS X wM σ t y p m a a G [] [] 0 {s with heap:=B,toks:=tk}:=λy p B F q2 q3 q4 q5 q6=>
  ⟨uG I q5 (IS q6),.refl a,sm,q6,q3,q4,I.Gu F (I.UA.fresh F),fD,q2,zG I.sz T,.nil⟩
 have old:∀b o,s.heap.get? b=u7 o->b≠t:=λb o e=>zN (zx (zA e) T)
 have B:=hl▸h;by_cases Tl:n<2
 .have HY:n=1:=by lia
  subst HY;obtain⟨u,rfl⟩:∃u,vs=[u]:=by
   match vs,hl with
   |[u],_=>exact⟨u,rfl⟩
  refine xo (h₀:=Att.Jw O) (m:=m) oD q.lt λy p h2 F q2 q3 q4 q5=>?_
  refine Zf (n0:=1) (g:=λks d=>R.ok (D.ref (jO d)) (d++[DO.lst (Fp ks)])) cs hN hx Y J hk rS hp hd ZR MO GS r hr C? he rfl (λb d ks L e s2 K l hq=>?_) [u] 0 a G [] [] 0 _
   (start y p h2 (zG T (jR F)) (zN F) q3 q4 (λb o _ e=>q5 b o (old b o e) (k1 b o e)) (q.at λo e=>q5 _ o (Ne.symm fD.2.1) e)) rfl (cz v) B
  have es:Fp L=Al 0 1:=by unfold Fp;rw[l,if_pos (by decide)]
  rw[es]at hq;have:=cy (h₀:=Att.Jw O) K rfl (rg b) v (by simp) hq;exact this.mono λs4 z=>⟨rfl,z⟩
 refine PySem.W.kat_keyed (Att.oO q) (news:=Att.ledger O X.env.locals t) ?_ oD fD.2.1 (Att.Li _ _) (λ⟨_,_⟩ hp=>(Att.Gq.mp hp).2.1) (by lia) (by lia) λy p h2 F2 N2 F q2=>?_
 .rintro⟨b,o⟩ hp;obtain⟨n1,n2,e⟩:=Att.Gq.mp hp;exact⟨e,n1,Att.Li _ _⟩
 refine Zf (g:=λks d=>R.ok (D.ref (jO d)) (d++[DO.lst (Fp ks)])) cs hN hx Y J hk rS hp hd ZR MO GS r hr C? he rfl (λb d ks L e s2 K l hq=>?_) vs 0 a G [] [] 0 _ (start y p h2 (zG T (jR F)) (zN F) (N2 _ zk).1 (N2 _ (zV _ zk)).1 (λb o hb e=>(N2 (b,o) (zV _ (zV _ (Att.Gq.mpr ⟨hb,old b o e,k1 b o e⟩)))).1) F2.ns) (by simpa using hl) (cz v) B
 have hks:=K.iz.length▸l;have es:Fp L=((Hr (GP L.reverse) (zi n)).toList.map λi=>(Al 0 n).reverse.getD i .LA).reverse:=by unfold Fp;rw[l,if_neg Tl]
 rw[es]at hq;rw[PyProof.Rows.ksk_kind K.iz (by rw[zy,hks];lia)];refine w6 ?_;rw[hl];have M:0<n:=by lia
 refine cN (lt:=GP L.reverse) (λi j P hj C hC=>?_) (Xe M) ?_
 .unfold PySem.W.kas_ask uy;rw[if_pos rfl];have rz:=cw K.iz;obtain⟨t1,p⟩:=Wj rz i (by simpa[l]using P);obtain⟨t2,e2⟩:=Wj rz j (by simpa[l]using hj);rw[p,e2];exact PySem.W.kat_lt_int hC
 .have Z:ID n (Hr (GP L.reverse) (zi n)):=V9 (Xe M);have D?:∀i∈(Hr (GP L.reverse) (zi n)).toList,i<n:=λi P=>Z.lt (by simpa using P)
  have hsz:(Hr (GP L.reverse) (zi n)).size=n:=by have:=Z.2.size_eq;simpa using this
  unfold uy;rw[if_pos rfl,if_pos rfl];have:=cy (h₀:=Att.Jw O) K rfl (.rev (cO (rg b).rev _ λi P=>by simpa[Al]using D? i P)) (Vals.rev (cP (Vals.rev v) _ λi P=>by simpa using D? i P)) (by simpa[hsz]using n64) hq;exact this.mono λs4 z=>⟨rfl,z⟩
end
section
open Classical in
def Nt(C m:Str)(tn:DA)(caps:List Nat)(te:DE):DE:=λS G=>(tn S G).bind λds G1=>match ds with
 |[.int j]=>if(1<=j/\j<64)/\DO.tab C m∈G1 then(Hd te caps S j.toNat 0 G1).bind λks G2=>.ok (.ref (lN G2)) (G2++[.lst (Fp ks)])else .bad
 |_=>.bad
section
variable{X:Cx}{N:List Str}{scope:vz}{caps:List Nat}{x:Str}{body:vW}{te:DE}{params:Arguments}{e:vW}{tn:DA}{p p' pos pos' lp kp kp' cp:Pos}{C m:Str}{cj:Nat}
def xr(hc:X.calm=u9)(hg:Gl X "sorted")(hm:X.mg "sorted"=u8)(hg2:Gl X "range")(hm2:X.mg "range"=u8)(ha:QA X E0 [e] tn)(cs:JC X N scope 1 caps)(hN:N[0]?=u7 x)(hx:scope.names.lookup x=u7 .local)(hco:scope.isCoroutine=uA)(U:scope.isGenerator=uA)
  (l:∀(cl:List (Str×vX))(pm T:vk)(J:vX)(u:vk),bindArgs (ze "<lambda>" Dj params body scope cl pm (.ref J) T) ⟨[u],[]⟩=pure [(x,u)])
  (hq:X.env.qual++"<lambda>"=Dj) (MJ:defaultsOf params X.env=([],[])) (B:OM X.base X.mg) (q:∀c P,TabAt X.K C m c P->X.env.code=.ref c) (hr:HB (k+3) X.A)
  (he:∀f J A s H,HB k (A.deeper (Kq X Dj scope f (.ref J) s.heap.objs.size))->QE (M7 X N Dj scope f (.ref J) A s H) E0 body te)
  (hs:wQ [e] X.env=[(uA,eval e X.env)]:=by rfl) (w:wQ [.Call (.Name "range" p') [e] [] pos'] X.env=[(uA,eval (.Call (.Name "range" p') [e] [] pos') X.env)]:=by rfl):
  QE X E0 (.Call (.Name "sorted" p) [.Call (.Name "range" p') [e] [] pos'] [⟨u7 "key",.Lambda params body scope lp,kp⟩,⟨u7 "reverse",.Constant (.bool u9) cj cp,kp'⟩] pos) (Nt C m tn caps te):=by
 intro i s σ H Q I h;obtain⟨a,S,G,hk,rfl,sm,r,h⟩:=h;refine wK (Ib I hg hm uH (wt rfl ?_ (by rw[w];rfl) rfl w));rw[w];refine Calls.spliced_cons (Call_ (Ib I hg2 hm2 vf (qb (GB (ha pos' i s σ a.H _ I ⟨a,S,G,hk,rfl,sm,r,(Js h).imp λ_ _ z=>z⟩) λus g zz=>?_) hs rfl)));obtain⟨vs,H1,Z,r1,q1⟩:=zz;obtain⟨b,ds,G1,rfl,x1,O,rd,-,Y⟩:=q1;split at Y
 rotate_left
 .exact Y.elim
 rename_i j;split at Y
 rotate_left
 .exact Y.elim
 rename_i hj;obtain⟨⟨j1,j2⟩,M⟩:=hj;obtain⟨v,rfl,rv⟩:=OD rd;cases(rv);obtain⟨u,rfl,ru⟩:=r1.one;obtain⟨t,rfl⟩:=ru;refine call_range_1 (Calls.spliced_nil ?_)
 have hsz:Builtin.Range.rangeSize 0 j 1=(j.toNat:Int):=by rw[rangeSize_one];split <;> lia
 have kb:=x1.k.trans hk;have I2:=Z.kept (t':=g.toks+1+1) (h':=g.heap.push {cls:=.type "range",data:=.fields #[.int 0 g.toks,.int j t,.int 1 (g.toks+1)]}) λb o e=>zX _ e
 generalize n:({cls:=.type "range",data:=.fields #[.int 0 g.toks,.int j t,.int 1 (g.toks+1)]}:Obj)=ro at*;have I3:Inv X ((g.heap.objs.size,ro)::i) σ b.H {g with heap:=g.heap.push ro,toks:=g.toks+1+1}:=I2.Gi λp hp=>by
  rcases z0.mp hp with rfl|hp
  .exact⟨by rw[<-n];exact z3 _ rfl,Z.UA.fresh (zv _),jx Z.lt,Z.VL (zv _),λv z=>by rw[<-n]at z;cases z⟩
  exact I2.pin p (zE _ hp)
 obtain⟨ti,hti⟩:=List.getElem?_of_mem M;obtain⟨c,P,ta,tok⟩:=O.obj ti _ hti;rw[kb]at ta;have ehd:zh X.K c P=u9:=by obtain⟨_,_,_,_,_,_,_,_,_,_,z⟩:=ta;exact z
 refine wpAny_evalAll_cons (wq (vt I3 (Xu (cs.cells I3.ok)) (q c P ta) ehd tok B hq MJ λb2 f J T ob oc RQ t0 s2 L sm2 I4 hob ZR MO GS=>wq (wpAny_standAt (w6 ?_))));refine wpAny_evalAll_cons (wq (GB (ao (E:=E0) _ s2 σ b2.H (λv H'=>v=.bl u9/\∃y:Wd,y.H=H'/\Ext b2 y/\YA y G1) I4 ⟨b2,S,G1,L.k.trans kb,rfl,sm2 G1 O,(r.mono x1).mono L,λy v F s3 r3=>⟨r3,y,rfl,F,s3⟩⟩) λu3 s3 h3=>wq (wpAny_standAt (w6 (wpAny_evalAll_nil ?_)))))
 obtain⟨v3,H3,I5,ru3,rfl,y,rfl,F,JF⟩:=h3;obtain rfl:u3=Value.bool u9:=ru3;have JU:IsRange s3.heap g.heap.objs.size 0 j 1 g.toks t (g.toks+1):=by have:=(I5.pin (g.heap.objs.size,ro) (zE _ (by simp))).1;rw[<-n]at this;exact this
 refine xl (I.ok.hd hc) JU (small_one (by decide) (by decide) (by lia) (by lia)) hsz (by lia) λD L6 tk vs hD oD k1 vv=>?_
 refine ww (xp cs hN hx hco U (F.k.trans (L.k.trans kb)) (((r.mono x1).mono L).mono F) zk hob (F.XC _ _ _ ZR) MO GS (λu=>l _ _ _ _ u) hr.in1.in1 I5.ok.frames (λs' H'=>he f J X.A.in1.in1 s' H') I5 JF hD oD k1 vv (by lia) (by lia) (Y.mono (L.trans F))) (λfin s4 hf=>⟨hf.1,?_⟩) λ_ _ z=>z
 obtain⟨v4,H4,I6,r4,q4⟩:=hf.2;exact⟨v4,H4,I6.Gi λp hp=>I6.pin p (zE _ (zV _ (zV _ hp))),r4,q4⟩
end
def xt{P:vq}{w:vA}{K:za}{mg:Str->Option vk}{base:Heap}{x qual:Str}{st:vx}{f:vX}{fd:vK}{N ps:List Str}{k:Nat}{b:DS}(F:QL K x qual st f fd)(S:QC N ps (Bt st))
  (YW:∀(VG:vk)(A:vV)(outer:List Env)(s:vj)(H:Hp)(E:XK),fd.code=VG->HB k (A.deeper (envOfC qual (Bt st) s.heap.objs.size f VG))->RL (Ld JK P w K mg base N qual (Bt st) f VG A outer s H E).JR E0 (Ei st) b):
  JD P w K mg base JK (k+1) f fd ps (lF K (Aw (lN ps) (lN N-lN ps) b)):=by
 obtain⟨o1,o2,o4,o5,o6,o7,c,o8,o9,rfl,lk,hc⟩:=F.ex;exact aS lk hc S (λ_ _ _ _=>Vm) λA o s H n Q E z h=>⟨_,SH.JR (YW c A o s H E rfl z),bF h⟩
end
def QM(T:vX)(H:Hp):Prop:=∀b,H b=u8\/(∃o xs,H b=u7 (.XC o (.lst xs)))\/(b=T/\H b=u7 (.QF #[]))
theorem xu{P:vq}{w:vA}{K:za}{I mb:Str->Option vk}{k:Nat}{fa a T c:vX}{fd:vK}{x:Str}{sp:Sp}{f:vj}{vs:List vk}{ns:List Int}
  (X:K.In f.heap) (U:f.heap.Ns vP I) (g:f.heap.Ns builtinsNs mb) (Z:∀x:Str,x≠"__name__"->mb x=vH x) (M:f.heap.NoLimit) (hg:f.gens= #[]) (bm:OM f.heap I)
  (J:f.heap.get? a=u7 {cls:=.type "list",data:=.seq vs.toArray}) (hi:IntsAre vs ns) (hl:ns.length<=sizeLine) (hr:HB k callerA)
  (C:f.heap.get? T=u7 (qh #[])) (hC:zh K c T=u9) (hK:qi K=u9)
  (F:∀l:Heap,K.In l->l.Ns vP I->OM l I->JD P w K I l JK k fa fd [x] sp) (E:∀(s:vj)(u:vk),BindsTo s fd ⟨[u],[]⟩ [(x,u)])
  (hsp:∀H:Hp,QM T H->H T=u7 (.QF #[])->ME K H a (ns.map V.int)->sp [.ref a] H (λv _=>v=.bl u9) λ_ _ _=>False):
  codeAny (vR P w) callerA (.call (.ref fa) ⟨[.ref a],[]⟩) (λr s'=>r=.ok (.ret (.bool u9))/\OldK f.heap s'.heap/\s'.os=f.os/\AllBare s'.gens) f:=by
 have rv:=_L.Ro hi;have hKT:K.lookup T=u8:=by
  cases q:K.lookup T with
  |none=>rfl
  |some o=>
   have e:=X T o q;rw[C]at e;cases e;have Y:=xY.mp hK (T,qh #[]) (PySem.W.mem_of_lookupK q);exact absurd (Y) zH
 have N:a≠T:=λz=>by rw[z,C]at J;cases J
 have A:∀H:Hp,QM T H->H T=u7 (.QF #[])->ME K H a (ns.map V.int)->YE P w H f.heap->(∀b,H b≠u8->b=a\/b=T)->(H a≠u8->K.lookup a=u8)->
   codeAny (vR P w) callerA (.call (.ref fa) ⟨[.ref a],[]⟩) (λr s'=>r=.ok (.ret (.bool u9))/\OldK f.heap s'.heap/\s'.os=f.os/\AllBare s'.gens) f:=by
  intro H hO hHT hS UA hA hKa;have i:∀{b:vX}{o:Obj},f.heap.get? b=u7 o->H b=u8->(Jd f.heap H).get? b=u7 o:=λe n=>kY e n
  have Q:∀{b:vX}{o:Obj},f.heap.get? b=u7 o->(∀us n,o.data≠ .seq us n)->(∀us,o.data≠ .fields us)->H b=u8:=λ{b o}e d1 d2=>by
   cases q:H b with
   |none=>rfl
   |some u=>
    rcases hA b (by rw[q];simp)with B|B
    .subst B;rw[J]at e;cases e;exact absurd rfl (d1 _ _)
    subst B;rw[C]at e;cases e;exact absurd rfl (d2 _)
  have t:∀{b:vX}{m:Str->Option vk},f.heap.Ns b m->(Jd f.heap H).Ns b m:=λ{b m}⟨o,es,ep,e,d,r⟩=>⟨o,es,ep,i e (Q e (λ_ _ z=>by rw[d]at z;cases z) λ_ z=>by rw[d]at z;cases z),d,r⟩
  have L:K.In (Jd f.heap H):=λb o e=>i (X b o e) (by
   cases q:H b with
   |none=>rfl
   |some u=>
    rcases hA b (by rw[q];simp)with B|B
    .subst B;rw[hKa (by rw[q];simp)]at e;cases e
    subst B;rw[hKT]at e;cases e)
  have hB:OM (Jd f.heap H) I:=by obtain⟨m1,ob,b1,b2,b3,b4,b5,b6⟩:=bm;exact⟨m1,ob,b1,b2,i b3 (Q b3 (λ_ _ z=>by rw[b6]at z;cases z) λ_ z=>by rw[b6]at z;cases z),b4,b5,b6⟩
  refine vI ((F _ L (t U) hB).run callerA [] f H ⟨[.ref a],[]⟩ [.ref a] [.ref a] _ _ hr ⟨rfl,⟨L,t U,⟨mb,t g,Z⟩,let⟨mc,h1,Y⟩:=M;⟨mc,t h1,Y⟩⟩,λb o e=>kZ e,Nat.le_of_eq (kX _ _),trivial,λb g=>absurd (show b∈([]:List vX)from g) (by simp),UA,.of_eq hg⟩ (E f (.ref a)) (.cons rfl .nil) (hsp H hO hHT hS)) λr s' h=>?_
  cases r with
  |error e=>exact False.elim h
  | ok fl=>
   cases fl with
   | ret u=>
    obtain⟨v,H',os,O,un,y,r',q⟩:=h;have q':=q;subst q';obtain rfl:u=Value.bool u9:=r';refine⟨rfl,⟨λb o e=>?_,λb o e=>un.there b o e (by simp)⟩,os,O⟩;cases q:H b with
    |none=>exact .inl (un.keep b o e q (by intro z;exact absurd (show b∈([]:List vX)from z) (by simp)) (by simp))
    |some u=>
     rcases hO b with z|⟨ob,xs,z⟩|⟨rfl,z⟩
     .rw[q]at z;cases z
     .have z2:=un.YH b ob _ z;obtain⟨e1,_⟩:=UA b _ z;obtain⟨e2,_⟩:=y b _ z2;rw[e]at e1;cases e1;exact .inl e2
     obtain⟨S,z2⟩:=un.ZH b _ z;rw[C]at e;cases e;exact .inr (.inl ⟨((uw X hC).tab C).isCodeTable,rfl,#[],S,rfl,y b _ z2⟩)
   |_=>exact False.elim h
 cases hk:K.lookup a with
 | some o=>
  have e:=X a o hk;rw[J]at e;cases e;refine A (λb=>if b=T then u7 (.QF #[])else u8) (λb=>?_) (if_pos rfl) (.inr ⟨_,vs.toArray,_,hk,rfl,rfl,rfl,by rw[zy,hi.length];exact hl,by simpa using rv⟩) (λb u z=>?_) (λb z=>?_) λz=>absurd (if_neg N) z
  .by_cases g:b=T
   .exact .inr (.inr ⟨g,if_pos g⟩)
   exact .inl (if_neg g)
  .by_cases g:b=T
   .have p:=(if_pos g).symm.trans z;cases p;subst g;exact C
   have p:=(if_neg g).symm.trans z;cases p
  by_cases g:b=T
  .exact .inr g
  exact absurd (if_neg g) z
 | none=>
  refine A (λb=>if b=T then u7 (.QF #[])else if b=a then u7 (.XC {cls:=.type "list",data:=.seq vs.toArray} (.lst (ns.map V.int)))else u8) (λb=>?_) (if_pos rfl) (.inl (.inr ⟨{cls:=.type "list",data:=.seq vs.toArray},(if_neg N).trans (if_pos rfl)⟩)) (λb u z=>?_) (λb z=>?_) λ_=>hk
  .by_cases g:b=T
   .exact .inr (.inr ⟨g,if_pos g⟩)
   by_cases j:b=a
   .exact .inr (.inl ⟨_,_,(if_neg g).trans (if_pos j)⟩)
   exact .inl ((if_neg g).trans (if_neg j))
  .by_cases g:b=T
   .have p:=(if_pos g).symm.trans z;cases p;subst g;exact C
   by_cases j:b=a
   .have p:=((if_neg g).trans (if_pos j)).symm.trans z;cases p;subst j;exact⟨J,by rw[zq];exact hl,vs,_,rv,J⟩
   .have p:=((if_neg g).trans (if_neg j)).symm.trans z;cases p
  by_cases g:b=T
  .exact .inr g
  .by_cases j:b=a
   .exact .inl j
   exact absurd ((if_neg g).trans (if_neg j)) z
def yA{l:vg}{n k:Nat}{q:vq}{loose:List Str}{XP:(Str->Option vk)->Heap->Prop}{YP:vA->Heap->Prop}{d:DefRec}{K:vA->za}{sp:vA->Sp}{x:Str}{T:vA->vX}
  (L:l.most=u7 n) (B:n<=sizeLine) (YQ:d.params.defaults=[]) (hr:HB k callerA)
  (hY:∀(w:vA)(h:Heap),YP w h->(K w).In h/\h.get? (T w)=u7 (qh #[]))
  (F:∀(w:vA)(i:Str->Option vk)(t:vX)(h:Heap),(K w).In h->h.Ns vP i->i d.name=u7 (.ref t)->
   ∃(A:vK)(c:vX),(∀(s:vj)(u:vk),BindsTo s A ⟨[u],[]⟩ [(x,u)])/\zh (K w) c (T w)=u9/\qi (K w)=u9/\
    (∀(H:Hp)(a:vX)(ns:List Int),lN ns<=n->QM (T w) H->H (T w)=u7 (.QF #[])->ME (K w) H a (ns.map V.int)->sp w [.ref a] H (λv _=>v=.bl u9) λ_ _ _=>False)/\
    ∀e:Heap,(K w).In e->e.Ns vP i->OM e i->JD l.prog w (K w) i e JK k t A [x] (sp w)):
  u1 q loose XP YP l.row.toRowW d [] (λf vs=>qf f vs):=by
 refine Att.oN L YQ λw I p i mb t o pm cd Z a vs ns G Y ho hd N z r m j Q=>?_
 obtain⟨E,S⟩:=hY w _ Y;obtain⟨A,c,U,J,hK,C,hF⟩:=F w i t _ E G.T.g z;have y:OM p.heap i:=by obtain⟨y,ob,b1,b2,O,X,b5,b6⟩:=G.T.bmain;exact⟨y,ob,b1,b2,O,X,b5,b6⟩
 exact xu E G.T.g G.T.b G.T.builtins G.T.nolimit Q y r m (zG j B) hr S J hK hF U λH P M h3=>C H a ns j P M h3
end _D
namespace _D
open PySem PySem.W _L
theorem dA:∀{l:List Obj}{n:Nat},(Io l n).lookup a=u7 o->n<=a/\l[a-n]?=u7 o/\∀x y z,o≠⟨x,y,.freed,z⟩
 |[],n,h=>by cases h
 | p::r,n,h=>by
  have next:(Io r (n+1)).lookup a=u7 o->n<=a/\(p::r)[a-n]?=u7 o/\∀x y z,o≠⟨x,y,.freed,z⟩:=λh=>by obtain⟨b,c,f⟩:=dA h;obtain⟨k,rfl⟩:=Nat.exists_eq_add_of_le b;rw[qI]at c;refine⟨zG (jN n) b,?_,f⟩;rw[show n+1+k-n=k+1 by rw[xQ,qI,xP],j6];exact c
  unfold Io at h;split at h
  .exact next h
  .exact next h
  rename_i g i;rw[j7]at h;split at h
  .rename_i e;have d:a=n:=by simpa using e
   subst d;cases h;refine⟨zv _,by simp,λx y z q=>?_⟩;subst q;exact g rfl
  exact next h
def yB(h:Heap):(Cd h).In h:=λa o e=>by
 obtain⟨_,c,d⟩:=dA e;have b:h.objs[a]?=u7 o:=by simpa using c
 unfold Heap.get?;rw[b];split
 .rename_i q;cases q;exact absurd rfl (d _ _ _)
 rfl
theorem Ti:∀(l:List Obj)(n:Nat),noTabs (Io l n)=u9
 |[],n=>rfl
 |p::r,n=>by
  unfold Io;split
  .exact Ti r _
  .exact Ti r _
  rename_i e c;have:=Ti r (n+1);unfold noTabs at this⊢;rw[jE,this,Bool.and_true];split
  .rename_i d a b;exact absurd (c d a b) id
  rfl
def yC(h:Heap):noTabs (Cd h)=u9:=Ti _ _
noncomputable def Gr(p:vq)(N:Nat)(w:vA):Heap:=match openEnds wZ p w N with
 |some s=>s.heap
 |none=>default
def KI(p:vq)(N:Nat)(w:vA)(h:Heap):Prop:=∀b o,(Gr p N w).get? b=u7 o->h.get? b=u7 o
def KI.in(x:KI p N w h):(Cd (Gr p N w)).In h:=λa o e=>x a o (yB _ a o e)
def Qt(p:vq)(N:Nat):Hook:=
 ⟨Heap,λs=>s.heap,Gr p N,KI p N,λw s e b o q=>by rw[show s.heap=Gr p N w from e];exact q,λw h h' x k b o q=>k b o (x b o q)⟩
section
variable{p q:vq}{loose:List Str}{Xt:vj->Bool}{N:Nat}{β:Type}{see:Heap->β}{val:β}
def yD(E:∀w,(openEnds wZ p w N).map (λs=>(openSeen q loose (vM p.main.body) Xt u9 s,see s.heap))=u7 (openGood q loose,val)):
  LeftO p q loose Xt (Qt p N).obs (Qt p N).val N:=λw=>by
 obtain⟨s,b,a⟩:=qJ.mp (E w);show Option.map _ _=u7 (openGood q loose,Gr p N w);unfold Gr;rw[b];show u7 (openSeen q loose (vM p.main.body) Xt u9 s,s.heap)=_;rw[(Prod.mk.inj a).1]
def Ru(E:∀w,(openEnds wZ p w N).map (λs=>(openSeen q loose (vM p.main.body) Xt u9 s,see s.heap))=u7 (openGood q loose,val))(w:vA):see (Gr p N w)=val:=by obtain⟨s,b,a⟩:=qJ.mp (E w);unfold Gr;rw[b];exact(Prod.mk.inj a).2
end
def holds_top{l:OpenLaw}{q:vq}{loose:List Str}{N:Nat}{b:Type}{see:Heap->b}{val:b}{d:DefRec}(well:l.wellSaid=u9)
  (E:∀w,(openEnds wZ l.prog w N).map (λs=>(openSeen q loose (vM l.prog.main.body) (WQ l q) u9 s,see s.heap))=u7 (openGood q loose,val))
  (MJ:defOf q l.row.name=u7 (d,[])) (hp:l.row.prog.theDef l.row.name=u7 (d.params,d.body,d.scope)) (hk:kwWritten? d.params.kwonlyargs d.params.kw_defaults=u7 []) (a:(!l.row.writes||l.row.records.isEmpty)=u9)
  (ok:(chainsOk q&&opensWell l.row.prog&&(frees l.row.toRowW&&l.row.within.isEmpty))=u9) (c:l.row.prog.bare) (hw:l.row.toRowW.promised)
  (call:WalkO q loose (XL q []) (KI l.prog N) l.row.toRowW d [] λf vs=>qf f vs):l.Holds:=
 holds_law well λJS=>holds_open (yD E) (Qt l.prog N).of (Qt l.prog N).keeps
  (λs e=>xl_of s (j4.mp e).1) XL.keeps MJ hp hk (λs e=>recFacts_of (j4.mp e).2) a JS ok c hw call
def Vb(h:ZT K n=u9):nsIn K vP n=u7 (u7 (.ref (Ax K n))):=by
 unfold ZT at h;unfold Ax;split at h
 .rename_i e;rw[e]
 cases h
def dB(h:SY K C m=u9):findIn K (.ref C) m=u7 (u7 (.ref (Dz K C m)))/\isFn K (.ref (Dz K C m))=u9:=by
 unfold SY at h;unfold Dz;split at h
 .rename_i e;rw[e];exact⟨rfl,h⟩
 cases h
def yE(h:TY K C m=u9):findIn K (.ref C) m=u7 u8:=by
 unfold TY at h;split at h
 .assumption
 cases h
def yF(h:UY K n=u9):nsIn K vP n=u7 u8:=by
 unfold UY at h;split at h
 .assumption
 cases h
def yG(h:Ve K C=u9):findIn K (.ref C) "__setattr__"=u7 (u7 (.builtin "object.__setattr__")):=by
 unfold Ve at h;split at h
 .rename_i e;rw[e,beq_iff_eq.mp h]
 cases h
noncomputable def Jr(K:wD)(n:Str):Tok:=match nsIn K vP n with
 |some (u7 (.int _ t))=>t
 |some (u7 (.str _ t))=>t
 |_=>0
def yH(h:VY K n v=u9):nsIn K vP n=u7 (u7 (.int v (Jr K n))):=by
 unfold VY at h;unfold Jr;split at h
 .rename_i e;rw[e,of_decide_eq_true h]
 cases h
def yI(h:WY K n v=u9):nsIn K vP n=u7 (u7 (.str v (Jr K n))):=by
 unfold WY at h;unfold Jr;split at h
 .rename_i e;rw[e,of_decide_eq_true h]
 cases h
abbrev JG(K:wD)(x q:Str)(st:vx)(f:vX):Prop:=
 K.lookup f=u7 ⟨(Gb K f).cls,(Gb K f).dict,.func (fnOf x q (G8 st) (Ei st) (Bt st) .none (Bj K f).kwdefaults (Bj K f).doc (Bj K f).pyModule (Bj K f).annotations (Bj K f).code (Bj K f).closureTuple),(Gb K f).slots⟩/\
  codeIn K (Bj K f).code q=u9/\keepIn K (.ref f)=u9
def dD(h:Rm K x q f=u9)(t:Kg K f=Ko st):JG K x q st f:=by
 unfold Rm at h;split at h
 .rename_i j l a i e;have k:Gb K f=⟨j,l,.func a,i⟩:=by unfold Gb;rw[e]
  have m:Bj K f=a:=by unfold Bj;rw[k]
  unfold Kg Ko at t;rw[m]at t;obtain⟨E,b⟩:=Prod.mk.inj t;obtain⟨b,C⟩:=Prod.mk.inj b;simp[zP,decide_eq_true_eq,beq_iff_eq,List.isEmpty_iff]at h;obtain⟨⟨⟨s,n⟩,⟨⟨B,y⟩,o⟩,g⟩,u,v⟩:=h;unfold JG;rw[m,k,e];refine⟨?_,u,v⟩;have d:a.defaults=.none:=by
   revert g
   generalize a.defaults=A;intro g
   cases A<;>first|rfl|cases g
  have w:a.body=.stmts (Ei st):=by
   revert b
   generalize a.body=r;intro b
   cases r<;>first|(cases b;rfl)|(cases b)
  have c:a=fnOf x q (G8 st) (Ei st) (Bt st) .none a.kwdefaults a.doc a.pyModule a.annotations a.code a.closureTuple:=by show FuncData.mk a.name a.qualname a.params a.body a.scope a.globals a.closure a.defaults a.kwdefaults a.doc a.pyModule a.annotations a.code a.closureTuple a.builtins=_;rw[s,n,E,w,C,B,o,d,y]
  exact congrArg (λz=>u7 (Obj.mk j l (.func z) i)) c
 cases h
abbrev RM(K:wD)(d:vk)(v:Int):Prop:=∃T o t n,d=.ref T/\K.lookup T=u7 o/\o.data=.seq #[.int v t] n
def yJ(h:UK K d v=u9):RM K d v:=by
 unfold UK at h;split at h
 .rename_i T;split at h
  .rename_i o e;split at h
   .rename_i a n b;split at h
    .rename_i i t c;cases of_decide_eq_true h;refine⟨T,o,t,n,rfl,e,?_⟩;rw[b]
     congr 1
     rw[<-Array.toList_inj,c]
    cases h
   cases h
  cases h
 cases h
abbrev PH(K:wD)(x q:Str)(st:vx)(f:vX)(v:Int):Prop:=
 K.lookup f=u7 ⟨(Gb K f).cls,(Gb K f).dict,.func (fnOf x q (G8 st) (Ei st) (Bt st) (Bj K f).defaults (Bj K f).kwdefaults (Bj K f).doc (Bj K f).pyModule (Bj K f).annotations (Bj K f).code (Bj K f).closureTuple),(Gb K f).slots⟩/\
  codeIn K (Bj K f).code q=u9/\keepIn K (.ref f)=u9/\RM K (Bj K f).defaults v
def yK(h:Yh K x q f v=u9)(t:Kg K f=Ko st):PH K x q st f v:=by
 unfold Yh at h;split at h
 .rename_i g j a d e;have i:Gb K f=⟨g,j,.func a,d⟩:=by unfold Gb;rw[e]
  have k:Bj K f=a:=by unfold Bj;rw[i]
  unfold Kg Ko at t;rw[k]at t;obtain⟨C,b⟩:=Prod.mk.inj t;obtain⟨b,B⟩:=Prod.mk.inj b;simp[zP,decide_eq_true_eq,beq_iff_eq,List.isEmpty_iff]at h;obtain⟨⟨⟨o,l⟩,⟨⟨A,w⟩,m⟩,y⟩,r,s⟩:=h;unfold PH;rw[k,i,e];refine⟨?_,r,s,yJ y⟩;have u:a.body=.stmts (Ei st):=by
   revert b
   generalize a.body=n;intro b
   cases n<;>first|(cases b;rfl)|(cases b)
  have c:a=fnOf x q (G8 st) (Ei st) (Bt st) a.defaults a.kwdefaults a.doc a.pyModule a.annotations a.code a.closureTuple:=by show FuncData.mk a.name a.qualname a.params a.body a.scope a.globals a.closure a.defaults a.kwdefaults a.doc a.pyModule a.annotations a.code a.closureTuple a.builtins=_;rw[o,l,C,u,B,A,m,w]
  exact congrArg (λz=>u7 (Obj.mk g j (.func z) d)) c
 cases h
theorem Sy:∀{l:List vk}{ss:List Str},strsOf l=u7 ss->Vals (ss.map V.str) l
 |[],ss,h=>by cases h;exact .nil
 |v::r,ss,h=>by
  unfold strsOf at h;split at h
  .rename_i q;cases q
  .rename_i s t c q;cases q;obtain⟨a,b,rfl⟩:=qJ.mp h;exact .cons ⟨_,rfl⟩ (Sy b)
  cases h
abbrev SM(K:wD)(n:Str)(vs:List Str):Prop:=∃(p:vX)(od:Option vX)(sl:Array (Option vk))(k:Nat)(OA:List vk),nsIn K vP n=u7 (u7 (.ref p))/\K.lookup p=u7 ⟨.type "tuple",od,.seq OA.toArray k,sl⟩/\lN OA<=1000/\Vals (vs.map V.str) OA
def yL(h:Wk K n vs=u9):SM K n vs:=by
 unfold Wk at h;split at h
 .rename_i p e;split at h
  .rename_i t c a k b g;simp only[zP,beq_iff_eq,decide_eq_true_eq]at h;obtain⟨⟨rfl,d⟩,f⟩:=h;exact⟨p,c,b,k,a.toList,e,by rw[g],Nat.le_of_ble_eq_true f,Sy d⟩
  cases h
 cases h
abbrev TM(K:wD)(n:Str)(KA:List (Str×Str)):Prop:=∃(p:vX)(od:Option vX)(sl:Array (Option vk))(k:Nat)(es:Array DictEntry),nsIn K vP n=u7 (u7 (.ref p))/\K.lookup p=u7 ⟨.type "dict",od,.dict es k,sl⟩/\(p==sysModules)=uA/\Vals ((KA.map (·.1)).map V.str) (es.toList.map (·.key))/\Vals ((KA.map (·.2)).map V.str) (es.toList.map (·.val))
def yM(h:Wb K n KA=u9):TM K n KA:=by
 unfold Wb at h;split at h
 .rename_i p e;split at h
  .rename_i t b f k a i;simp only[zP,beq_iff_eq,decide_eq_true_eq,Bool.not_eq_true']at h;obtain⟨⟨⟨rfl,c⟩,d⟩,g⟩:=h;exact⟨p,b,a,k,f,e,by rw[i],c,Sy d,Sy g⟩
  cases h
 cases h
def Ask.GF(K:wD):Ask->Prop
 |.fn n st=>nsIn K vP n=u7 (u7 (.ref (Ax K n)))/\JG K n n st (Ax K n)
 |.mt c m q st=>findIn K (.ref (Ax K c)) m=u7 (u7 (.ref (Dz K (Ax K c) m)))/\isFn K (.ref (Dz K (Ax K c) m))=u9/\JG K m q st (Dz K (Ax K c) m)
 | .cl c=>nsIn K vP c=u7 (u7 (.ref (Ax K c)))/\plainGet K (Ax K c) Str.empty=u9/\hasDictIn K (Ax K c)=u9/\plainOver K (Ax K c)=u9/\
   findIn K (.ref (Ax K c)) "__setattr__"=u7 (u7 (.builtin "object.__setattr__"))/\makesIn K (Ax K c)=u9/\keepIn K (.ref (Ax K c))=u9
 |.no c x=>findIn K (.ref (Ax K c)) x=u7 u8
 |.z n=>nsIn K vP n=u7 u8
 |.gi n v=>nsIn K vP n=u7 (u7 (.int v (Jr K n)))
 |.gs n v=>nsIn K vP n=u7 (u7 (.str v (Jr K n)))
 |.gt n vs=>SM K n vs
 |.gd n KA=>TM K n KA
 |.ck φ=>φ K=u9
 |.fd n st v=>nsIn K vP n=u7 (u7 (.ref (Ax K n)))/\PH K n n st (Ax K n) v
theorem Ask.JS:∀{a:Ask},a.MX K=u9->a.NF K=a.XQ->a.GF K
 |.fn n e,h,t=>by obtain⟨b,d⟩:=j4.mp h;exact⟨Vb b,dD d (Option.some.inj t)⟩
 |.mt c m q e,h,t=>by obtain⟨b,d⟩:=j4.mp h;exact⟨(dB b).1,(dB b).2,dD d (Option.some.inj t)⟩
 |.cl c,h,_=>by simp[Ask.MX,zP]at h;obtain⟨⟨b,⟨d,j⟩,k⟩,⟨l,g⟩,i⟩:=h;exact⟨Vb b,d,j,k,yG l,g,i⟩
 |.no c x,h,_=>yE h
 |.z n,h,_=>yF h
 |.gi n v,h,_=>yH h
 |.gs n v,h,_=>yI h
 |.gt n o,h,_=>yL h
 |.gd n f,h,_=>yM h
 |.ck _,h,_=>h
 |.fd n e v,h,t=>by obtain⟨b,d⟩:=j4.mp h;exact⟨Vb b,yK d (Option.some.inj t)⟩
def HF(K:wD):List Ask->Prop
 |[]=>True
 |a::r=>a.GF K/\HF K r
theorem dF:∀{l:List Ask},(l.all (Ask.MX K),l.map (Ask.NF K))=(u9,l.map Ask.XQ)->HF K l
 |[],_=>trivial
 |a::r,h=>by obtain⟨b,c⟩:=Prod.mk.inj h;rw[jE]at b;obtain⟨e,f⟩:=j4.mp b;rw[zK,zK]at c;obtain⟨g,d⟩:=List.cons.inj c;exact⟨Ask.JS e g,dF (by rw[f,d])⟩
def yN(F:QL K x q st f fd)
  (h:∀(kV b g:vk)(e:Option vX)(c d:vk)(u:vk),bindArgs (fnOf x q (G8 st) (Ei st) (Bt st) .none kV b g e c d) ⟨[u],[]⟩=pure [(a,u)]):BindsTo s fd ⟨[v],[]⟩ [(a,v)]:=by
 obtain⟨l,k,kV,b,g,e,c,d,j,rfl,m,i⟩:=F.ex;exact .of_eq (h kV b g e c d v)
def Xk(e:Vx c m h=u9):(Bj (Cd h) (Dz (Cd h) (Ax (Cd h) c) m)).code=.ref (Ik (Cd h) c m)/\codeHdIn (Cd h) (Ik (Cd h) c m) (Nf (Cd h) (Ik (Cd h) c m))=u9/\
  h.get? (Nf (Cd h) (Ik (Cd h) c m))=u7 (tabObj #[]):=by
 simp[Vx,zP]at e;obtain⟨⟨b,d⟩,a⟩:=e;refine⟨?_,d,?_⟩
 .unfold Ik
  revert b
  generalize(Bj (Cd h) (Dz (Cd h) (Ax (Cd h) c) m)).code=v;intro b
  cases v<;>first|rfl|cases b
 split at a
 .rename_i g f q;rw[q];simp[zP,Array.isEmpty_iff]at a;obtain⟨rfl,rfl⟩:=a
  rfl
 cases a
theorem dG:∀{n:Nat}{s s':SharedT}{t:Thread},Uq p w n₀ ann n s t=u7 s'->topRun wZ p w n₀ ann n s.abs t=u7 s'.abs
 |0,_,_,_,h=>by cases h
 | n+1,s,s',t,h=>by
  unfold Uq at h;unfold topRun;rw[<-PySem.W.Fast.te6613529449190102663,<-PySem.W.Fast.te10156331382660048174,<-PySem.W.Fast.te11892475500146522536,<-PySem.W.Fast.te14364793385576792824]at h;cases b:through t with
  |true=>
   rw[b]at h;cases h
   rfl
  | false=>
   rw[b]at h;dsimp only at h⊢;cases a:stepOk n₀ ann t with
   |false=>rw[a]at h;cases h
   |true=>
    rw[a]at h;dsimp only at h⊢;split at h
    .rename_i c d e;rw[stepT_spec e];exact dG h
    cases h
def boot_abs:∀w a,(aB w a).abs=⟨wE w.params,Array.mk [],boot_drawn,boot_toks,a⟩:=λw a=>by kernel_rfl
def yO:∀w:vA,((wE w.params).isNs vP&&(Array.mk []:Array GenState).size==0)=u9:=λw=>by kernel_rfl
def yP{p q:vq}{loose:List Str}{Xt:vj->Bool}{i:Type}{see:Heap->i}{val:i}(e:opening p=plainProg p.main.scope.names)(f:∀s,fenceModules? p s=u7 s)
  (R:∀w a,(W2 p w a).map (λs=>(Xa p w s.abs,PySem.W.Fast.tw4187177175401517315 q loose (PySem.W.Fast.tw5923862056798008813 p.main.body) Xt u9 s.abs,see s.abs.heap))=u7 (u9,openGood q loose,val)):
  ∀w,(openEnds wZ p w 100000).map (λs=>(openSeen q loose (vM p.main.body) Xt u9 s,see s.heap))=u7 (openGood q loose,val):=λw=>by
 obtain⟨⟨h,o,d,k,a⟩,n,j⟩:=qJ.mp (boot_open (N:=100000) e rfl f w);obtain⟨rfl,rfl,rfl,rfl⟩:h=wE w.params/\o=Array.mk []/\d=boot_drawn/\k=boot_toks:=by simpa using j
 obtain⟨s,g,l⟩:=qJ.mp (R w a);obtain⟨c,b⟩:=Prod.mk.inj l;obtain⟨b,m⟩:=Prod.mk.inj b;unfold W2 at g;have r:=dG g;rw[boot_abs,<-PySem.W.Fast.te8920871248978507458]at r;rw[<-PySem.W.Fast.te4187177175401517315,<-PySem.W.Fast.te5923862056798008813]at b;unfold Xa at c;rw[<-PySem.W.Fast.te5923862056798008813]at c;have t:topFrom wZ p w 100000 ⟨wE w.params,.mk [],boot_drawn,boot_toks,a⟩=u7 s.abs:=by
  unfold topFrom;dsimp only;rw[yO,r]
  show(match staticsOk (vM p.main.body) (wE w.params) s.abs.heap&&namesBound p s.abs.heap&&gensDone s.abs&&laidKept (wE w.params) s.abs.heap with |true=>_|false=>_)=_
  rw[c]
 unfold openEnds;rw[n];show(topFrom wZ p w 100000 _).map _=_;rw[t];exact congrArg u7 (Prod.ext b m)
structure FT (K:wD) (mg:Str->Option vk) (n:Str) (st:vx) (ps:List Str):Prop where
 F:QL K n n st (Ax K n) (Bj K (Ax K n))
 b:Binds K (Bj K (Ax K n)) ps []
 m:mg n=u7 (.ref (Ax K n))
 k:keepIn K (.ref (Ax K n))=u9
structure MT (K:wD) (c m q:Str) (st:vx) (ps:List Str):Prop where
 F:QL K m q st (Dz K (Ax K c) m) (Bj K (Dz K (Ax K c) m))
 b:Binds K (Bj K (Dz K (Ax K c) m)) ps []
 me:ZK K (Ax K c) m (Dz K (Ax K c) m)
structure CT (K:wD) (mg:Str->Option vk) (c:Str):Prop where
 N:nsIn K vP c=u7 (u7 (.ref (Ax K c)))
 cl:ZJ K (Ax K c)
 g:mg c=u7 (.ref (Ax K c))
 mK:Mk K (Ax K c) (Dz K (Ax K c) "__init__")
def U6(s:JG K x q st f):QL K x q st f (Bj K f):=by
 have e:Bj K f=fnOf x q (G8 st) (Ei st) (Bt st) .none (Bj K f).kwdefaults (Bj K f).doc (Bj K f).pyModule (Bj K f).annotations (Bj K f).code (Bj K f).closureTuple:=by conv=>lhs;unfold Bj Gb;rw[s.1]
 exact⟨⟨_,_,_,_,_,_,_,_,_,e,by rw[e];exact s.1,s.2.1⟩,s.2.2⟩
def yQ(X:K.In h)(G:h.Ns vP mg)(s:Ask.GF K (.fn n st))
  (d:∀(kV a f:vk)(e:Option vX)(b c:vk)(us:List vk),lN us=lN ps->bindArgs (fnOf n n (G8 st) (Ei st) (Bt st) .none kV a f e b c) ⟨us,[]⟩=pure (ps.zip us)):FT K mg n st ps:=
 ⟨U6 s.2,(U6 s.2).binds d,mg_of X G s.1,s.2.2.2⟩
def yR(s:Ask.GF K (.mt c m q st))
  (e:∀(kV a g:vk)(f:Option vX)(b d:vk)(us:List vk),lN us=lN ps->bindArgs (fnOf m q (G8 st) (Ei st) (Bt st) .none kV a g f b d) ⟨us,[]⟩=pure (ps.zip us)):MT K c m q st ps:=
 ⟨U6 s.2.2,(U6 s.2.2).binds e,s.1,s.2.1,s.2.2.2.2⟩
def yS(X:K.In h)(G:h.Ns vP mg)(s:Ask.GF K (.cl c))(i:Ask.GF K (.mt c "__init__" q st)):CT K mg c:=
 ⟨s.1,⟨s.2.1,s.2.2.1,s.2.2.2.1,s.2.2.2.2.1⟩,mg_of X G s.1,s.2.2.2.2.2.1,i.1,i.2.1,s.2.2.2.2.2.2⟩
abbrev E?(P:vq)(w:vA)(K:wD)(mg:Str->Option vk)(base:Heap)(k:Nat)(n:Str)(ps:List Str)(F:List D->DH->R D):Prop:=JD P w K mg base JK k (Ax K n) (Bj K (Ax K n)) ps (lF K F)
abbrev MtO(P:vq)(w:vA)(K:wD)(mg:Str->Option vk)(base:Heap)(k:Nat)(c m:Str)(ps:List Str)(F:List D->DH->R D):Prop:=JD P w K mg base JK k (Dz K (Ax K c) m) (Bj K (Dz K (Ax K c) m)) ps (lF K F)
def yT(F:QL K x q st f fd)
  (h:∀(kV b g:vk)(e:Option vX)(c d:vk)(u:vk),bindArgs (fnOf x q (G8 st) (Ei st) (Bt st) .none kV b g e c d) ⟨[u],[]⟩=pure [(a,u)]:=by intros;rfl):BindsTo s fd ⟨[v],[]⟩ [(a,v)]:=yN F h
end _D
namespace _D
open PySem PySem.Spec _L
open PyProof.Rows hiding St
section
variable{prog:vq}{w:vA}{A:vV}{E:vk->vj->Prop}{s:vj}
end
section
variable{X:Cx}{E:XK}{p:vX}{KA:List (Str×Str)}{x:Str}{a:vW}{ta:DE}{np pos:Pos}
end
noncomputable def Dw:D->Option V
 |.int i=>u7 (.int i)
 |.str x=>u7 (.str x)
 |_=>u8
section
variable{X:Cx}{E:XK}{pos:Pos}
end
section
variable{S:PB}{G:DH}
end
def yU{X:Cx}{k j:Nat}{n:Str}{st:vx}{ps:List Str}{F:List D->DH->R D}{p pos:Pos}{e:vW}{es:List vW}{tr:DA}(c:E? X.prog X.w X.K X.mg X.base k n ps F)(T:FT X.K X.mg n st ps)(i:HB j X.A)(g:QA X E0 (e::es) tr)
  (d:k<=j:=by decide) (f:Gl X n:=by exact rfl) (h:(n==("__debug__":Str))=uA:=by decide) (l:notStar e=u9:=by exact rfl) (hp:es.all notStar=u9:=by exact rfl):QE X E0 (.Call (.Name n p) (e::es) [] pos) (IA F tr):=
 pP c (i.mono d) f T.m T.k T.b GH g h l hp
section
variable{M:Model}{A:vV}{E:vk->vj->Prop}{s:vj}{B:Heap}{env:Env}{outer:List Env}{L e:vX}{oe:Obj}{vs:Array vk}{head:vk}{hn:Bool}{Q:Unit->vj->Prop}
end
section
variable{X:Cx}{wM:List (vX×Obj)}{σ:St}{H H':Hp}{s s':vj}{B F?:Heap}{ea:vX}{cls:vk}{od:Option vX}{E:XK}
end
section
variable{prog:vq}{w:vA}{A:vV}{E:vk->vj->Prop}{h:Heap}{g:Array GenState}{d:Drawn}{t:Nat}{os:OsState}
variable{nm q:Str}{C N:vX}{bs bm bmB:List vk}{Zl:Bool}{sn:List Str}{sub:List vk}{ab:Bool}{col:Option Bool}{dd:Option vX}{k0 k1 k2 k3 k5:Option vk}{B newId Lm:String}
end
section
variable{X:Cx}{C W:vX}{x:Str}{mc:vk}{p apos pos:Pos}{a1 a2:vW}{t:TA}
end
section
open PySem.W
variable{prog:vq}{w:vA}{A:vV}{s:vj}{K:wD}{x C:vX}{R:Result->vj->Prop}
end
section
variable{prog:vq}{w:vA}{A:vV}{E:vk->vj->Prop}{s:vj}{K:za}{e C t:vX}{name:Str}{v:vk}
end
section
variable{X:Cx}{C:vX}{f:Str}{o value:vW}{pos pos':Pos}{ta tv:TE}
end
section
variable{X:Cx}{j:Nat}{v s1 s2:Str}{k1 k2 p1 p2 pv pf pos}
end
section
variable{M:Model}{A:vV}{E:vk->vj->Prop}{env:Env}
variable{nm q:Str}{C N:vX}{bs bm:List vk}{Zl:Bool}{sn:List Str}{sub:List vk}{ab:Bool}{col:Option Bool}{dd:Option vX}{k0 k1 k2 k3 k5:Option vk}{newId:String}
end
section
variable{X:Cx}{C fI:vX}{f x:Str}{np RB pos:Pos}{a:vW}{ta:TA}{E:XK}{k:Nat}{fd:vK}{v:Str}
end
section
variable{X:Cx}{wM:List (vX×Obj)}{σ:St}{H H':Hp}{s s':vj}{B F?:Heap}{ea:vX}{cls:vk}{od:Option vX}{E:XK}{fl:vk}
end
section
variable{M:Model}{A:vV}{E:vk->vj->Prop}{h:Heap}{g:Array GenState}{d:Drawn}{t:Nat}{os:OsState}
end
section
variable{X:Cx}{wM:List (vX×Obj)}{σ:St}{H:Hp}{s:vj}
end
section
variable{X:Cx}{wM:List (vX×Obj)}{σ:St}{H:Hp}{s:vj}{ea:vX}
end
section
variable{X:Cx}{f W:vX}{fn x n:Str}{fp cp ep np hp pos:Pos}{a:vW}{es:List vW}{ta:TA}{sp:Sp}{k i:Nat}{fd:vK}{ps:List Str}{b₀:vx}{UM:List vx}{th:TS}
end
section
variable{X:Cx}{E:XK}{C fI:vX}{c f v:Str}{np RB pos:Pos}{a:vW}{t:DA}{k:Nat}{fd:vK}
end
section
variable{X:Cx}{E:XK}{f W:vX}{fn x n:Str}{fp cp ep np hp pos:Pos}{a:vW}{es:List vW}{t:DA}{F:List D->DH->R D}{k i:Nat}{fd:vK}{ps:List Str}{b₀:vx}{UM:List vx}{hb:DS}{ws:List Str}
end
section
variable{X:Cx}{E:XK}{x:Str}{p pos:Pos}{e:vW}{es:List vW}{tr:DA}
end
section
variable{X:Cx}{E:XK}{x:Str}{p pos:Pos}{e:vW}{es:List vW}{tr:DA}
end
section
variable{prog:vq}{w:vA}{A:vV}{E:vk->vj->Prop}{s:vj}{K:za}{x C:vX}{ox:Obj}{od:Option Obj}{name:Str}{tk:Tok}
end
section
variable{X:Cx}{E:XK}{wM:List (vX×Obj)}{σ:St}{H:Hp}{s:vj}
variable{e ce:vW}{ces:List vW}{t:DE}{tb:List (Str×Bool)}{cv:V}{cu:vk}{cvs:List V}{cus:List vk}{p pos tp:Pos}
variable{f:Str}{cs:List Str}
end
end _D
namespace _D
open PySem PySem.Spec PySem.W _L
open PyProof.Rows hiding St
section
variable{X:Cx}{E:XK}{c x n f v:Str}{e a:vW}{es:List vW}{t:DE}{tr:DA}{p q pos RB np:Pos}{b:Bool}{F:List D->DH->R D}{k j:Nat}{ps:List Str}{st:vx}
end
end _D
namespace _D
open PySem PySem.Spec _L
open PyProof.Rows hiding St
section
variable{X:Cx}{E:XK}{wM:List (vX×Obj)}{σ:St}{s:vj}
end
end _D
namespace _D
open PySem PySem.W PySem.Spec _L
open PyProof.Rows hiding St
section
variable{X:Cx}{E:XK}{x:Str}{p pos:Pos}{e:vW}{es:List vW}{tr:DA}
end
section
variable{X:Cx}{E:XK}{n:Str}{e:vW}{es:List vW}{tr:DA}{p pos:Pos}{F:List D->DH->R D}{k j:Nat}{ps:List Str}{st:vx}{v:Int}
end
section
variable{X:Cx}{E:XK}{c x n f v:Str}{e a:vW}{es:List vW}{t:DE}{tr:DA}{p q pos RB np:Pos}{b:Bool}{F:List D->DH->R D}{k j:Nat}{ps:List Str}{st:vx}
end
end _D
namespace _D
open PySem PySem.Spec _L
open PyProof.Rows hiding St
section
variable{X:Cx}{f:vX}{fn:Str}{fp cp ep pos:Pos}{a e:vW}{es:List vW}{t:DA}{te:DE}{F:List D->DH->R D}{k:Nat}{fd:vK}{ps:List Str}
end
section
variable{X:Cx}{W:vX}{x n:Str}{np hp pos:Pos}{i:Nat}{b₀:vx}{UM:List vx}{hb:DS}{ws ns:List Str}{hs:List ExceptHandler}{f:DHn}
end
section
variable{X:Cx}{W:vX}{x:Str}{np hp pos:Pos}{b₀:vx}{UM:List vx}{hb:DS}{ws ns:List Str}{hs:List ExceptHandler}{f:DHn}
end
end _D
namespace _D
open PySem PySem.Spec PySem.W _L
open PyProof.Rows hiding St
section
variable{X:Cx}{C:vX}{x:Str}{np RB pos:Pos}{a:vW}{ta:TA}{E:XK}
end
section
variable{X:Cx}{E:XK}{c x n f v w:Str}{e a:vW}{es:List vW}{t:DE}{tr:DA}{p q pos RB np fp cp ep hp:Pos}{b:Bool}{F:List D->DH->R D}{k j:Nat}{ps:List Str}{st:vx}
end
section
variable{X:Cx}{n y:Str}{e e2:vW}{es:List vW}{tr:DA}{tu:DE}{p pos kp:Pos}{F:List D->DH->R D}{k j:Nat}{ps:List Str}{st:vx}{v:Int}
end
section
variable{prog:vq}{w:vA}{A:vV}{E:vk->vj->Prop}{s:vj}
end
section
variable{X:Cx}{E:XK}
end
section
variable{X:Cx}{E:XK}
end
section
variable{X:Cx}{E:XK}
theorem JA.eraseIdx:∀{b:List D}{vs:List V}(k:Nat),JA a b vs->JA a (b.eraseIdx k) (vs.eraseIdx k)
 |[],_,k,h=>by cases(h);exact rfl
 |d::b,_,0,⟨v,r,rfl,_,h⟩=>h
 |d::b,_,k+1,⟨v,r,rfl,c,h⟩=>⟨v,_,rfl,c,.eraseIdx k h⟩
def Lz(o:D)(ds:List D)(G:DH):R D:=match o,ds with
 | .ref i,[.int j]=>match G[i]? with
  |some (.lst xs)=>if 0<=j/\j<1000000 then(match xs[j.toNat]? with
   |some d=>.ok d (G.set i (.lst (xs.eraseIdx j.toNat)))
   |none=>.bad)else .bad
  |_=>.bad
 |_,_=>.bad
def yV:MN X "list.pop" (TX X.K E Lz):=oC.mono λx B H Q h=>by
 obtain⟨a,G,d,A,hk,rfl,s,c,r,q⟩:=h;unfold Lz at q;split at q
 .rename_i i j;obtain⟨z,rfl,b⟩:=OD r;cases(b);split at q
  .rename_i C n;split at q
   .rename_i y;split at q
    .rename_i e u;obtain⟨o,f,k⟩:=s.lst n;obtain⟨l,t⟩:=Tc s c.1 f (k.eraseIdx j.toNat);obtain⟨v,g,p⟩:=k.get u;have w:=(zZ.mp g).1;refine⟨a.m i,o,j,j.toNat,v,c.2,rfl,f,by lia,by lia,?_,g,q _ v l t (p.mono l)⟩;unfold seqIndex?;simp only[]
     split <;> simp <;> lia
    exact q.elim
   exact q.elim
  exact q.elim
 exact q.elim
def M9(d:D)(ds:List D)(G:DH):R D:=match ds with
 | [.str k]=>match Em d G with
  |some xs=>match Ku xs with
   |some ns=>if k∈ns/\lN ns<=1000000 then .ok (.int (ns.idxOf k)) G else .bad
   |none=>.bad
  |none=>.bad
 |_=>.bad
theorem dH:∀{ns:List Str}{vs:List V},JA a (ns.map D.str) vs->vs=ns.map V.str
 |[],vs,h=>h
 |n::ns,vs,h=>by
  obtain⟨v,r,e,c,b⟩:=h;rw[e,dH b];cases(c)
  rfl
theorem dI:∀{ns:List Str}{us:List vk},Vals (ns.map V.str) us->lN us=lN ns/\∀(j:Nat)(u:vk),us[j]?=u7 u->∃t,∃h:j<lN ns,u=.str ns[j] t
 |[],us,h=>by cases h;exact⟨rfl,λj u e=>by simp at e⟩
 | n::ns,us,h=>by
  cases h with
  | cons r d=>
   obtain⟨b,f⟩:=dI d;obtain⟨t,rfl⟩:=r;refine⟨by simp[b],λj u e=>?_⟩;cases j with
   |zero=>simp at e;exact⟨t,by simp,by simpa using e.symm⟩
   |succ j=>
    obtain⟨g,c,a⟩:=f j u (by simpa using e);exact⟨g,by simpa using c,by simpa using a⟩
def yW:MN X "list.index" (TX X.K E M9):=by
 intro wM s σ H x xs v us Q I rx B h;obtain⟨a,G,d,ds,hk,rfl,sm,rd,L,q⟩:=h;unfold M9 at q;split at q
 .rename_i k;split at q
  .rename_i ys J;split at q
   .rename_i f T;split at q
    .rename_i S;obtain⟨j,hlen⟩:=S;obtain⟨p,vs,rfl,U,Z⟩:=R1 sm rd J;rw[br T]at Z;rw[dH Z,hk]at U;cases rx;obtain⟨v1,rfl,M⟩:=OD L;cases(M);obtain⟨u,rfl,ru⟩:=B.one;obtain⟨t,rfl⟩:=ru;obtain⟨b,l,⟨o,n,O,W,hdi,hd⟩,hz⟩:=I.list U;obtain⟨w,c⟩:=dI l;have z:=List.idxOf_lt_length_of_mem j;have P:f.idxOf k<b.toArray.size:=by simpa[w]using z
     have A:o={cls:=.type "list",dict:=o.dict,data:=.seq b.toArray n,slots:=o.slots}:=by
      obtain⟨c1,c2,c3,c4⟩:=o;simp only at W hd;subst W;subst hd
      rfl
     rw[A]at O
     refine call_meets PySem.F.slot_list_index ⟨_,O,rfl⟩ PySem.F.entry_list_index (PySem.F.args_list_index_2 _ _) (SeqAt.list_indexAt p b.toArray n o.dict o.slots (.str k t) (λy=>match y with | .str i _=>i==k|_=>uA) (f.idxOf k) P (by lia) ?_ ?_) ⟨O,λy J=>?_,⟨.int (f.idxOf k),a.H,I.tok _,⟨_,rfl⟩,q a _ (.refl a) sm rfl⟩⟩
     .have C:b[f.idxOf k]?=u7 b.toArray[f.idxOf k]:=by simp[zJ (by simpa[w]using z:f.idxOf k<lN b)]
      obtain⟨Y,h3,g⟩:=c _ _ C;rw[g];simp
     .intro m N r;have C:b[m]?=u7 b.toArray[m]:=by simp[zJ (by simpa using N)]
      obtain⟨Y,h3,g⟩:=c _ _ C;rw[g];have:=List.not_of_lt_findIdx r;simpa using this
     .obtain⟨m,N,e⟩:=xq (by simpa using J);obtain⟨Y,h3,g⟩:=c m y (by rw[zJ N,e]);rw[g];exact .str_str _ _ _ _
    exact q.elim
   exact q.elim
  exact q.elim
 exact q.elim
end
end _D
namespace _D
open PySem PySem.Spec _L
open PyProof.Rows hiding St
noncomputable def tgN:vW->List Str
 |.Name x _=>[x]
 |.Tuple es _ _=>es.flatMap λe=>match e with
  |.Name x _=>[x]
  |_=>[]
 |_=>[]
def Hy(tg:vW)(caps:List Nat)(N:List Str):List Str:=tgN tg++caps.map λj=>N.getD j ""
section
variable{X:Cx}{scope:vz}{nt:Nat}{caps:List Nat}{tg elt iter:vW}{ifs:List vW}{pos:Pos}{it:DI}{g:DG}{c:DB}{te:DE}
def yX(m:QI X E0 tg iter it)(j:∀C b a d,(Hy tg caps X.N).Nodup->QG (IG X (Hy tg caps X.N) scope C b a d) E0 tg g)(o:GK nt g)(e:∀C b a d,PN (IG X (Hy tg caps X.N) scope C b a d) E0 ifs c)
  (k:∀C b a d,QE (IG X (Hy tg caps X.N) scope C b a d) E0 elt te) (n:X.calm=u9:=by rfl) (hk:scope.kind=.function:=by rfl) (f:∀x,X.env.kindOf x=X.env.scope.names.lookup x:=by intro _;rfl)
  (h:Tq X.env.scope.names X.N (Hy tg caps X.N) scope.names nt caps=u9:=by kernel_rfl) (l:∀x,foldedSetIterable iter X.env x=pure x:=by intro _;rfl):QE X E0 (.ListComp elt [⟨tg,iter,ifs,0⟩] scope pos) (Bv it nt caps g c te):=
 have i:=T6 hk f rfl h
 sD n i m (λC b a d=>j C b a d i.nd) o e k l
def yY(i:Nat){y:Str}{l d:Pos}(u:X.N.Nodup)(v:QI X E0 tg iter it)(p:∀C a b e,(Hy tg caps X.N).Nodup->QG (IG X (Hy tg caps X.N) scope C a b e) E0 tg g)(o:GK nt g)(f:∀C a b e,PN (IG X (Hy tg caps X.N) scope C a b e) E0 ifs c)
  (t:∀C a b e,QE (IG X (Hy tg caps X.N) scope C a b e) E0 elt te) (s:X.calm=u9:=by rfl) (hk:scope.kind=.function:=by rfl) (j:∀x,X.env.kindOf x=X.env.scope.names.lookup x:=by intro _;rfl)
  (h:Tq X.env.scope.names X.N (Hy tg caps X.N) scope.names nt caps=u9:=by kernel_rfl)
  (r:X.N[i]?=u7 y:=by rfl) (w:Loc X.env.scope y:=by first|exact Or.inl rfl|exact Or.inr rfl) (n:X.fn y=u9\/X.env.scope.names.lookup y=u7 .local:=by first|exact .inl rfl|exact .inr rfl|assumption)
  (k:swapsWith (.ListComp elt [⟨tg,iter,ifs,0⟩] scope pos) (u7 (.Name y l)) d.line X.env=pure u9:=by rfl)
  (q:∀x,foldedSetIterable iter X.env x=pure x:=by intro _;rfl):QS X E0 (.Assign [.Name y l] (.ListComp elt [⟨tg,iter,ifs,0⟩] scope pos) d) (LC (Bv it nt caps g c te) (gV i)):=
 have m:=T6 hk j rfl h
 bT i s u m v (λC a b e=>p C a b e m.nd) o f t r w n k q
end
def WJ{p:List vk->Prop}(h:p [])(us:List vk)(e:lN us=0):p us:=by cases us with |nil=>exact h|cons a r=>cases e
def Cm{n:Nat}{p:List vk->Prop}(h:∀a r,lN r=n->p (a::r))(us:List vk)(e:lN us=n+1):p us:=by cases us with |nil=>cases e|cons a r=>exact h a r (Nat.succ.inj e)
def Pm{p:List vk->Prop}(h:∀a,p [a]):∀us:List vk,lN us=1->p us:=Cm λa=>WJ (h a)
def Sm{p:List vk->Prop}(h:∀a b,p [a,b]):∀us:List vk,lN us=2->p us:=
 Cm λa=>Cm λb=>WJ (h a b)
def Jn{p:List vk->Prop}(h:∀a b c,p [a,b,c]):∀us:List vk,lN us=3->p us:=
 Cm λa=>Cm λb=>Cm λc=>WJ (h a b c)
def Kn{p:List vk->Prop}(h:∀a b c d,p [a,b,c,d]):∀us:List vk,lN us=4->p us:=
 Cm λa=>Cm λb=>Cm λc=>Cm λd=>WJ (h a b c d)
def Mn{p:List vk->Prop}(h:∀a b c d e,p [a,b,c,d,e]):∀us:List vk,lN us=5->p us:=
 Cm λa=>Cm λb=>Cm λc=>Cm λd=>Cm λe=>WJ (h a b c d e)
def Nn{p:List vk->Prop}(h:∀a b c d e f,p [a,b,c,d,e,f]):∀us:List vk,lN us=6->p us:=
 Cm λa=>Cm λb=>Cm λc=>Cm λd=>Cm λe=>Cm λf=>WJ (h a b c d e f)
def Sn{p:List vk->Prop}(h:∀a b c d e f g,p [a,b,c,d,e,f,g]):∀us:List vk,lN us=7->p us:=
 Cm λa=>Cm λb=>Cm λc=>Cm λd=>Cm λe=>Cm λf=>Cm λg=>WJ (h a b c d e f g)
def G?{N P:List Str}{h:vz}(a:h.kind=.function:=by rfl)(b:h.isCoroutine=uA:=by rfl)(c:h.isGenerator=uA:=by rfl)(d:N.Nodup:=by decide +kernel)(e:N.take (lN P)=P:=by rfl)
  (f:∀x∈P,h.names.lookup x=u7 .local\/h.names.lookup x=u7 .cell:=by decide +kernel) (g:∀y∈h.names,y.2≠ .free:=by decide +kernel):QC N P h:=⟨a,b,c,d,e,f,g⟩
end _D
namespace _D
open PySem PySem.W _L
def yZ{X:Cx}{E:XK}{x:Str}{n:Int}{t:Tok}{pos:Pos}(hg:Gl X x)(hm:X.mg x=u7 (.int n t))(hd:(x==("__debug__":Str))=uA:=by decide):QE X E (.Name x pos) (dC (.int n)):=
 au (v:=.int n) hg hm ⟨_,rfl⟩ (λ_ _=>rfl) hd
def y0{X:Cx}{E:XK}{x:Str}{n:Str}{t:Tok}{pos:Pos}(hg:Gl X x)(hm:X.mg x=u7 (.str n t))(hd:(x==("__debug__":Str))=uA:=by decide):QE X E (.Name x pos) (dC (.str n)):=
 au (v:=.str n) hg hm ⟨_,rfl⟩ (λ_ _=>rfl) hd
section
open Lean
def wA(s:String):Syntax:=.atom .none s
def wL(l:List Syntax):Syntax:=.node .none `null l.toArray
def wN(k:String)(l:List Syntax):Syntax:=.node .none ("Lean.Parser."++k).toName l.toArray
def wX(l:List Syntax):Syntax:=wN "Tactic.tacticSeq" [wN "Tactic.tacticSeq1Indented" [wL l]]
def wP(l:List Syntax):Syntax:=wN "Tactic.paren" [wA "(",wX l,wA ")"]
def wI(s:String):Syntax:=(mkIdent s.toName).raw
def wH:Syntax:=wN "Term.syntheticHole" [wA "?",wA "_"]
def wU(l:List String):Syntax:=wN "Term.fun" [wA "fun",wN "Term.basicFun" [wL (l.map wI),wL [],wA "=>",wH]]
def wY(l:List Syntax):Syntax:=match l.reverse with
 |x::y::r=>wN "Term.app" [x,wL (y::r)]
 |[x]=>x
 |_=>.missing
def wT(s:String):Syntax:=wY ((((s.replace "(" "( ").replace ")" " )").splitOn " ").foldl (λst w=>match st with
 | a::r=>
  if w="" then st else if w="(" then[]::st else if w=")" then(match r with
   |b::q=>(wY a::b)::q
   |_=>st)
  else((if w="_" then wN "Term.hole" [wA w]else if w="?" then wH else if w="." then wN "Term.ellipsis" [wA ".."]
   else if w="L" then wU ["C","s","H","e","nd"]else if w="l" then wU ["C","s","H","e"]
   else if w="d" then wN "Term.byTactic" [wA "by",wX [wN "Tactic.decide" [wA "decide",wN "Tactic.optConfig" [wL []]]]]
   else if w.isNat then(Syntax.mkNumLit w).raw else wI w)::a)::r
 |_=>st) [[]]).head!
def wF(l:List Syntax):Syntax:=wN "Tactic.first" [wA "first",wL (l.map λx=>.node .none `group #[wA "|",wX [x]])]
def wJ(a b:Syntax):Syntax:=wN "Tactic.«tactic_<;>_»" [a,wA "<;>",b]
def wG(k:String)(t:Syntax)(r:Syntax):Syntax:=wP [wN "Tactic.guardTarget" [wA "guard_target",wN "equal" [wN k [wA "="]],t],wA ";",r]
def wV:Syntax:=wN "Tactic.tacticTrivial" [wA "trivial"]
def wB(s:String):Syntax:=
 let t:=wT (s.drop 1).toString;let f:=λk=>wN ("Tactic."++k) [wA k,t]
 let c:=s.front
 if c='@' then f "apply" else if c='!' then wN "Tactic.withReducible" [wA "with_reducible",wX [f "exact"]]
 else if c='=' then wP [wJ (f "refine") (wN "Tactic.tacticRfl" [wA "rfl"])]else if c='<' then wP [wJ (f "refine'") wV]else if c='.' then f "exact" else f "refine'"
def wC(s:String):Syntax:=wF ((s.splitOn ",").flatMap λb=>match b.splitOn "^" with
 |[_,t,n]=>(n.splitOn " ").map λx=>wB ("-"++t.replace "$" x)
 |_=>[wB b])
def wR(s:String):Syntax:=wF ((s.splitOn "#").map λg=>match g.splitOn "|" with
 | h::r=>
  let b:=wF (r.map λa=>match a.splitOn ":" with
   |[a,x]=>wG "equalD" (wT (h++" "++a)) (wC x)
   |_=>wC a)
  if h.front='=' then wG "equalR" (wT (h.drop 1).toString) b else if h.front='*' then b else wG "equalD" (wT (h++" _ _")) (wJ (wP [b]) wV)
 |_=>.missing)
end
end _D
namespace _D
open PySem PySem.Spec _L
open PyProof.Rows hiding St
section
variable{M:Model}{A:vV}{E:vk->vj->Prop}{s:vj}{B:Heap}{env:Env}{outer:List Env}{L e:vX}{oe:Obj}{vs:Array vk}{head:vk}{hn:Bool}{Q:Unit->vj->Prop}
end
section
variable{X:Cx}{wM:List (vX×Obj)}{σ:St}{H H':Hp}{s s':vj}{B F?:Heap}{ea C:vX}{cls:vk}{od:Option vX}{E:XK}
end
section
variable{prog:vq}{w:vA}{A:vV}{R':Result->vj->Prop}{s:vj}
end
section
variable{X:Cx}{E:XK}{N:List Str}{scope:vz}{nt:Nat}{caps:List Nat}{tg elt iter:vW}{ifs:List vW}{pos:Pos}{it:DI}{g:DG}{c:DB}{te:DE}
end
def Ml:List D->Option (List Key)
 |[]=>u7 []
 |d::r=>match NW d,Ml r with
  |some k,u7 ks=>u7 (k::ks)
  |_,_=>u8
theorem W0{a:Wd}:∀{ds:List D}{vs:List V}{ks:List Key},JA a ds vs->Ml ds=u7 ks->vs=ks.map kV
 |[],vs,ks,r,h=>by cases h;exact r
 |d::ds,vs,ks,r,h=>by
  obtain⟨v,w,rfl,r1,r2⟩:=r;unfold Ml at h;split at h
  .rename_i k q h1 h2;cases h;rw[zK,sv r1 h1,W0 r2 h2]
  .cases h
noncomputable def Mx(d:D)(G:DH):Option (List (List Key×D)):=match d with
 |.ref i=>match G[i]? with
  |some (.YB KA)=>u7 KA
  |_=>u8
 |_=>u8
noncomputable def Sv:DE:=λ_ G=>.ok (.ref (lN G)) (G++[.YB []])
def Ly(o:D)(ds:List D)(v:D)(G:DH):R D:=match o with
 | .ref p=>match G[p]? with
  |some (.YB KA)=>match Ml ds with
   |some k=>if lN ds<=1000000/\lN KA<1000000 then .ok .LA (G.set p (.YB (putD KA k v)))else .bad
   |none=>.bad
  |_=>.bad
 |_=>.bad
def Mu(to:DE)(tk:DA):DG:=λv S G=>(to S G).bind λo G1=>(tk S G1).bind λds G2=>(Ly o ds v G2).bind λ_ G3=>.ok S G3
def K8(o:DE)(ks:DA)(x:DE):DE:=λS G=>(o S G).bind λo G1=>match Mx o G1 with
 |some _=>(ks S G1).bind λds G2=>if lN ds<=1000000 then(x S G2).bind λx G3=>match Mx o G3,Ml ds with
  |some KA,u7 q=>.ok ((Fi KA q).getD x) G3
  |_,_=>.bad
  else .bad
 |none=>.bad
theorem YA.YB{a:Wd}{G:DH}{d:D}{x:V}{KA:List (List Key×D)}(s:YA a G)(r:NB a d x)(h:Mx d G=u7 KA):∃i us,d=.ref i/\i<a.n/\x=.ref (a.m i)/\G[i]?=u7 (.YB KA)/\a.H (a.m i)=u7 (.dT us)/\SA a KA us:=by
 cases d with
 |ref i=>
  unfold Mx at h;dsimp only at h;split at h
  .rename_i UC hg;cases h;obtain⟨us,e,q⟩:=s.obj i _ hg;exact⟨i,us,rfl,r.1,r.2,hg,e,q⟩
  .cases h
 |_=>cases h
def Ext.IY{a:Wd}{p:vX}{us:List (List Key×V)}{ho:HO}(h:a.H p=u7 (.dT us)):Ext a (a.put p ho):=
 ⟨rfl,zv _,λ_ _=>rfl,λq xs e=>by
  show upd a.H p ho q=_;rw[Ah (λz=>by subst z;rw[h]at e;cases e)];exact e,λq o u e=>by
  show upd a.H p ho q=_;rw[Ah (λz=>by subst z;rw[h]at e;cases e)];exact e,λ_ t=>t.mono (λq ps e=>by show upd a.H p ho q=_;rw[Ah (λz=>by subst z;rw[h]at e;cases e)];exact e) (λq o u e=>by show upd a.H p ho q=_;rw[Ah (λz=>by subst z;rw[h]at e;cases e)];exact e)⟩
def YA.IY{a:Wd}{G:DH}(s:YA a G){i:Nat}(hi:i<a.n){us VF:List (List Key×V)}{UC:List (List Key×D)}(h:a.H (a.m i)=u7 (.dT us))(r:SA (a.put (a.m i) (.dT VF)) UC VF):YA (a.put (a.m i) (.dT VF)) (G.set i (.YB UC)):=by
 refine⟨by rw[qH];exact s.len,s.inj,λj o e=>?_,λj hj=>?_⟩
 .rw[jw]at e;show RD _ o (upd a.H (a.m i) (.dT VF) (a.m j));by_cases hij:i=j
  .subst hij;rw[if_pos rfl,if_pos (by rw[s.len];exact hi)]at e;cases e;rw[Dp];exact⟨VF,rfl,r⟩
  .rw[if_neg hij]at e;rw[Ah λz=>hij (s.inj _ _ (s.lt e) hi z).symm];exact(s.obj j o e).mono (Ext.IY h)
 .show upd a.H (a.m i) (.dT VF) (a.m j)≠u8;by_cases hij:a.m j=a.m i
  .rw[hij,Dp];simp
  .rw[Ah hij];exact s.tr j hj
theorem y1{E:XK}{a:Wd}{r:R (List D)}{f:List D->DH->R PB}{Q:St->Hp->Prop}(h:Ec E a (r.bind f) Q):
  Cj E a r (λvs H=>∃(b:Wd)(ds:List D)(G:DH),b.H=H/\Ext a b/\YA b G/\JA b ds vs/\r=.ok ds G/\Ec E b (f ds G) Q):=by
 cases r with
 |ok d G=>exact λb v x s q=>⟨b,d,G,rfl,x,s,q,rfl,Ec.mono x h⟩
 |err e G=>exact h
 |bad=>exact h
section
variable{X:Cx}{E:XK}
def ya{a:Wd}{G:DH}{Q:VK}(s:YA a G)(h:out E a (.ok (.ref (lN G)) (G++[.YB []])) Q)(p:vX)(hp:a.H p=u8):Q (.ref p) (upd a.H p (.dT [])):=
 h (a.push p (.dT [])) (.ref p) (Ext.push hp) (s.push hp ⟨[],rfl,SA.nil⟩) ⟨by rw[s.len];exact qC _,by show V.ref p=V.ref (if lN G=a.n then p else _);rw[if_pos s.len]⟩
def yb{pos:Pos}:QE X E (.Dict [] [] pos) Sv:=oZ.mono λσ H Q h=>by obtain⟨a,S,G,hk,rfl,s,r,h⟩:=h;exact λp hp=>ya s h p hp
theorem dJ(hu:X.A.units+64<cLine){o:vW}{es:List vW}{x1:_}{to:DE}{tk:DA}{pos MH:Pos}(ho:QE X E o to)(hi:QA X E es tk)
  (ha:∀v,assign (.Subscript o (.Tuple es x1 MH) pos) X.env v=(do
   let ov<-holding [v] (eval o X.env);let iv<-holding [v,ov] (eval (.Tuple es x1 MH) X.env)
   standAt pos
   holding [v,ov,iv] (setItem ov iv v)
   release [v,ov,iv] []):=by intro _;rfl):QG X E (.Subscript o (.Tuple es x1 MH) pos) (Mu to tk):=(aH ho (Xm hi) (set_dict hu) ha).mono λv σ H Q h=>by
 obtain⟨a,S,G,d,hk,rfl,s,r,q,h⟩:=h;refine⟨a,S,G,hk,rfl,s,r,(Vg h).imp ?_⟩;rintro ov _ ⟨b,e,G1,rfl,x,s1,q1,_,h1⟩;refine⟨b,S,G1,x.k.trans hk,rfl,s1,r.mono x,(y1 h1).imp ?_⟩;rintro vs _ ⟨c,ds,G2,rfl,y,s2,q2,_,h2⟩;cases e with
 | ref i=>
  unfold Ly at h2;dsimp only at h2;split at h2
  .rename_i KA hx;split at h2
   .rename_i k hkf;split at h2
    .rename_i hl;refine⟨by rw[<-q2.length];exact zG hl.1 VB,λp hp=>?_⟩;have y2:Ext c (c.put p (.tup vs)):=Ext.put hp;have JY:YA (c.put p (.tup vs)) G2:=s2.put hp;have Go:(c.put p (.tup vs)).H p=u7 (.tup vs):=Dp;rw[W0 q2 hkf]at*;obtain⟨us,e1,r1⟩:=JY.obj i _ hx;have KY:=(q1.mono y).mono y2;have rv:=((q.mono x).mono y).mono y2;have x3:Ext (c.put p (.tup (k.map kV))) ((c.put p (.tup (k.map kV))).put ((c.put p (.tup (k.map kV))).m i) (.dT (putK us k v))):=Ext.IY e1
     have s3:=JY.IY KY.1 e1 (SA.put (k:=k) ⟨r1.1,r1.2.mono x3⟩ (rv.mono x3));exact⟨_,_,KY.2,HM.t e1 Go (by rw[<-r1.len];exact zx hl.2 VB),h2 _ σ (y2.trans x3) s3 ((((r.mono x).mono y).mono y2).mono x3)⟩
    .exact h2.elim
   .exact h2.elim
  .exact h2.elim
 |_=>exact h2.elim
def Zd(hu:X.A.units+64<cLine){o f:vW}{es:List vW}{x1:_}{MH apos RB:Pos}{td tx:DE}{tk:DA}(ho:QE X E o td)(he:QA X E es tk)(hf:QE X E f tx)(m:M2 X o "get" apos (.Tuple es x1 MH) f RB):QE X E (.Call (.Attribute o "get" apos) [.Tuple es x1 MH,f] [] RB) (K8 td tk tx):=
 (oh (by lia) ho (Xm he) hf m).mono λσ H Q h=>by
 obtain⟨a,S,G,hk,rfl,s,r,h⟩:=h;refine⟨a,S,G,hk,rfl,s,r,(Eo h).imp ?_⟩;rintro ov _ ⟨b,d,G1,rfl,x,s1,q1,_,h1⟩;split at h1
 .rename_i kvs0 hd0;obtain⟨i,us,rfl,il,rfl,hg,hh,r1⟩:=s1.YB q1 hd0;refine⟨_,rfl,.inr ⟨us,.inl hh⟩,b,S,G1,x.k.trans hk,rfl,s1,r.mono x,(Js h1).imp ?_⟩;rintro vs _ ⟨c,ds,G2,rfl,y,s2,q2,_,h2⟩;split at h2
  .rename_i hl;refine⟨by rw[<-q2.length];exact zG hl VB,λp hp=>?_⟩;have y2:Ext c (c.put p (.tup vs)):=Ext.put hp;have JY:YA (c.put p (.tup vs)) G2:=s2.put hp;have Go:(c.put p (.tup vs)).H p=u7 (.tup vs):=Dp;refine⟨c.put p (.tup vs),S,G2,y.k.trans (x.k.trans hk),rfl,JY,((r.mono x).mono y).mono y2,(Eo (out.mono y2 h2)).imp ?_⟩;rintro fv _ ⟨c3,dx,G3,rfl,y3,s3,q3,_,h3⟩;split at h3
   .rename_i KA k e1 e2;have KY:=((q1.mono y).mono y2).mono y3;obtain⟨i',VF,ei,il',ex,hg',hh',r'⟩:=s3.YB KY e1;cases ei;have ev:=W0 q2 e2;have hp3:c3.H p=u7 (.tup (k.map kV)):=by rw[<-ev];exact y3.tup p vs Go
    have em:c3.m i=b.m i:=by
     have:=ex;injection this with z
     exact z.symm
    have g:=ZL.t (k:=k) (show c3.H (b.m i)=u7 (.dT VF) by rw[<-em];exact hh') hp3;rcases r'.val (k:=k)with⟨e3,e4⟩|⟨v,w,e3,e4,e5⟩
    .rw[e4]at g;rw[e3]at h3;exact⟨u8,g,h3 c3 _ (Ext.refl _) s3 q3⟩
    .rw[e4]at g;rw[e3]at h3;exact⟨u7 w,g,h3 c3 _ (Ext.refl _) s3 e5⟩
   .exact h3.elim
  .exact h2.elim
 .exact h1.elim
end
section
variable{X:Cx}{E:XK}
end
section
variable{prog:vq}{w:vA}{A:vV}{E:vk->vj->Prop}
end
section
variable{X:Cx}{E:XK}
end
section
variable{X:Cx}{E:XK}
end
section
variable{X:Cx}{E:XK}{tg iter elt:vW}{ifs:List vW}{scope:vz}{pos:Pos}{it:DI}{nt:Nat}{caps:List Nat}{g:DG}{c:DB}{te:DE}
end
section
variable{X:Cx}{E:XK}
end
end _D
namespace _D
open PySem PySem.W _L
def MY(s:vx):List Str:=(Bt s).names.filterMap λp=>match p.2 with
 |.local=>u7 p.1
 |.cell=>u7 p.1
 |_=>u8
def OK(s:vx):List Str:=(MY s).take (lN (G8 s).args)
noncomputable def LL:vx->Str
 |.FunctionDef n _ _ _ _ _ _ _ _ _=>n
 |_=>Str.empty
structure Ev where
 P:vq
 w:vA
 K:wD
 mg:Str->Option vk
 base:Heap
noncomputable def Ask.nm:Ask->Str
 |.z n=>n
 |.gi n _=>n
 |.gs n _=>n
 |.no c x=>c++"."++x
 |_=>Str.empty
def ZW(b:List vx)(ex:List Ask)(n:Str):Option Ask:=(Wg b ex).find? λx=>x.nm==n
theorem Vj:∀{l:List Ask},HF K l->∀a∈l,a.GF K
 |[],_,_,h=>nomatch h
 |b::r,h,a,m=>by
  rcases z0.mp m with rfl|m
  .exact h.1
  exact Vj h.2 a m
noncomputable abbrev IP(b:List vx)(i:Nat):Str:=(ZN (QH b i)).1
noncomputable abbrev Dg(b:List vx)(i j:Nat):vx:=(ZN (QH b i)).2.getD j GZ
noncomputable abbrev NY(b:List vx)(i j:Nat):Str:=IP b i++"."++LL (Dg b i j)
structure Gx (b:List vx) (ex:List Ask) (U:Ev):Prop where
 h:∃h,U.K.In h/\h.Ns vP U.mg
 S:∀a∈Wg b ex,a.GF U.K
section
variable{b:List vx}{ex:List Ask}{U:Ev}(T:Gx b ex U)
include T
def Gx.has(e:ZW b ex n=u7 a):a.GF U.K:=T.S _ (List.mem_of_find?_eq_some e)
def Gx.z(e:ZW b ex n=u7 (.z n):=by kernel_rfl):U.mg n=u8:=by obtain⟨h,X,G⟩:=T.h;exact mg_none_of X G (T.has e)
def Gx.gi(e:ZW b ex n=u7 (.gi n v):=by kernel_rfl):U.mg n=u7 (.int v (Jr U.K n)):=by obtain⟨h,X,G⟩:=T.h;exact mg_of X G (T.has e)
def Gx.gs(e:ZW b ex n=u7 (.gs n v):=by kernel_rfl):U.mg n=u7 (.str v (Jr U.K n)):=by obtain⟨h,X,G⟩:=T.h;exact mg_of X G (T.has e)
def Gx.no(e:ZW b ex (c++"."++x)=u7 (.no c x):=by kernel_rfl):HD U.K (Ax U.K c) x:=T.has e
def Gx.at (i:Nat):(Rp (QH b i)).GF U.K:=by
 unfold QH List.getD;rcases h:b[i]? with _|s
 .exact rfl
 exact T.S _ (zE _ (zE _ (zE _ (List.mem_map_of_mem (zU h)))))
def Gx.Lo(i j:Nat):(GU (IP b i) (Dg b i j)).GF U.K:=by
 unfold Dg IP QH List.getD;rcases h:b[i]? with _|s
 .exact rfl
 show(GU (ZN s).1 ((ZN s).2[j]?.getD GZ)).GF U.K;rcases a:(ZN s).2[j]? with _|f
 .exact rfl
 exact T.S _ (zE _ (zE _ (jz _ (List.mem_flatMap.mpr ⟨s,zU h,jz _ (List.mem_map_of_mem (zU a))⟩))))
end
def Mo(s:vx):Bool:=decide ((Bt s).kind=.function/\(Bt s).isCoroutine=uA/\(Bt s).isGenerator=uA/\(MY s).Nodup/\(∀x∈OK s,(Bt s).names.lookup x=u7 .local\/(Bt s).names.lookup x=u7 .cell)/\∀y∈(Bt s).names,y.2≠ .free)
def H?(h:Mo s=u9):QC (MY s) (OK s) (Bt s):=by obtain⟨d,e,c,g,f,a⟩:=of_decide_eq_true h;exact⟨d,e,c,g,by unfold OK;rw[jQ,<-List.take_eq_take_min],f,a⟩
def LG(n q:Str)(st:vx):Prop:=∀(kV doc pm:vk)(an:Option vX)(VG ct:vk)(us:List vk),lN us=lN (OK st)->bindArgs (fnOf n q (G8 st) (Ei st) (Bt st) .none kV doc pm an VG ct) ⟨us,[]⟩=pure ((OK st).zip us)
def LG.mk(h:LG n q st:=by first|exact λ_ _ _ _ _ _=>Pm λ_=>rfl|exact λ_ _ _ _ _ _=>Sm λ_ _=>rfl|exact λ_ _ _ _ _ _=>Jn λ_ _ _=>rfl|exact λ_ _ _ _ _ _=>Kn λ_ _ _ _=>rfl|exact λ_ _ _ _ _ _=>Mn λ_ _ _ _ _=>rfl|exact λ_ _ _ _ _ _=>Nn λ_ _ _ _ _ _=>rfl|exact λ_ _ _ _ _ _=>Sn λ_ _ _ _ _ _ _=>rfl):LG n q st:=h
noncomputable abbrev FN:=List D->DH->R D
def GO(U:Ev)(st:vx)(k:Nat)(F:FN):Prop:=FT U.K U.mg (LL st) st (OK st)/\E? U.P U.w U.K U.mg U.base k (LL st) (OK st) F
def GM(U:Ev)(b:List vx)(i j:Nat)(k:Nat)(F:FN):Prop:=MT U.K (IP b i) (LL (Dg b i j)) (NY b i j) (Dg b i j) (OK (Dg b i j))/\MtO U.P U.w U.K U.mg U.base k (IP b i) (LL (Dg b i j)) (OK (Dg b i j)) F
abbrev SC(st:vx):Prop:=QC (MY st) (OK st) (Bt st)
section
variable{b:List vx}{ex:List Ask}{U:Ev}(T:Gx b ex U)
include T
def Gx.fs(i:Nat)(e:Rp (QH b i)=.fn (LL (QH b i)) (QH b i):=by rfl)(S:Mo (QH b i)=u9:=by kernel_rfl)(a:LG (LL (QH b i)) (LL (QH b i)) (QH b i):=by exact LG.mk):FT U.K U.mg (LL (QH b i)) (QH b i) (OK (QH b i))/\SC (QH b i):=by obtain⟨h,X,G⟩:=T.h;have h:=T.at i;rw[e]at h;exact⟨yQ X G h a,H? S⟩
def Gx.ms(i j:Nat)(e:GU (IP b i) (Dg b i j)=.mt (IP b i) (LL (Dg b i j)) (NY b i j) (Dg b i j):=by rfl)(S:Mo (Dg b i j)=u9:=by kernel_rfl)
  (a:LG (LL (Dg b i j)) (NY b i j) (Dg b i j):=by exact LG.mk):MT U.K (IP b i) (LL (Dg b i j)) (NY b i j) (Dg b i j) (OK (Dg b i j))/\SC (Dg b i j):=by
 have h:=T.Lo i j;rw[e]at h;exact⟨yR h a,H? S⟩
def Gx.ct(i:Nat)(e:Rp (QH b i)=.cl c:=by rfl)(f:GU (IP b i) (Dg b i 0)=.mt c "__init__" (c++"."++"__init__") (Dg b i 0):=by rfl):CT U.K U.mg c:=by obtain⟨h,X,G⟩:=T.h;have a:=T.at i;have d:=T.Lo i 0;rw[e]at a;rw[f]at d;exact yS X G a d
end
noncomputable def _root_._L.Cx.ev(X:Cx):Ev:=⟨X.prog,X.w,X.K,X.mg,X.base⟩
def yc{X:Cx}{k j:Nat}{n:Str}{st:vx}{F:FN}{p pos:Pos}{e:vW}{es:List vW}{tr:DA}(I:GO X.ev st k F)(d:HB j X.A)(h:QA X E0 (e::es) tr)(a:LL st=n:=by rfl)
  (c:Nat.ble k j=u9:=by rfl) (i:Gl X n:=by rfl) (f:(n==("__debug__":Str))=uA:=by decide) (g:notStar e=u9:=by rfl) (hp:es.all notStar=u9:=by rfl):QE X E0 (.Call (.Name n p) (e::es) [] pos) (IA F tr):=by
 subst a;exact yU I.2 I.1 d h (Nat.le_of_ble_eq_true c) i f g hp
end _D
namespace _D
open PySem PySem.Spec _L
open PyProof.Rows hiding St
section
variable{X:Cx}{E:XK}
noncomputable def Po(lo c:Int)(n:Nat):It:=⟨λi _=>i<n,λi H x H'=>H'=H/\x=.int (lo+i*c),λi _=>n<=i⟩
def yd{P:vq}{w:vA}{K:za}{tg:vW}(it:vX)(lo c:Int)(n:Nat):Turn P w K tg (Po lo c n) [it] it (λi h=>IsRangeIter h it (lo+(i:Nat)*c) ((n:Int)-(i:Nat)) c) where
 mem:=by simp
 obj:=λi h st b hb=>by
  have e:b=it:=by simpa using hb
  subst e;exact⟨_,st,λv z=>by have z':Data.fields _=Data.cell v:=z;cases z'⟩
 keep:=λi h h' st k=>k it (by simp) _ st
 item:=by
  intro X hP hw hK hc i wM s σ H E I hf st hg;subst hP hw hK;obtain⟨f0,f1,f2,f3,f4,f5⟩:=hf it (by simp);have W:=Walks.range (prog:=X.prog) (w:=X.w) (I.ok.hd hc) it lo c n;refine W.item i s _ _ hg st λv h' tk hv I? kk=>?_
  obtain⟨t,rfl⟩:=hv;have I1:Inv X wM σ H {s with heap:=h',toks:=tk}:=I.turned (λb o hb e=>kk b o (by simpa using hb) e) f0 f1 f3 f4 f5;exact⟨_,rfl,Kz (s:={s with heap:=h',toks:=tk}) (n:="range_iterator") I? rfl rfl (by decide) ⟨.int (lo+i*c),H,I1,⟨t,rfl⟩,⟨rfl,rfl⟩,I?,λb hb=>(hf b hb).1⟩⟩
 done:=by intro X hP hw hK hc i wM s σ H E I hf st hg;subst hP hw hK;obtain⟨f0,f1,f2,f3,f4,f5⟩:=hf it (by simp);exact wpAny_pyNext_range_end (I.ok.hd hc) st (by have:n<=i:=hg;lia) λh' eb=>⟨rfl,I.turned (t':=s.toks) (λb o hb e=>eb b o hb e) f0 f1 f3 f4 f5⟩
 self:=λ_ _ _ _ _ st h=>wpAny_pyIter_rangeiter st h
def Ge(j c:Int):Nat:=if 0<j then((j-1)/c+1).toNat else 0
def dM{j c:Int}(hc:0<c)(hj:0<=j):Builtin.Range.rangeSize 0 j c=(Ge j c:Nat):=by
 unfold Builtin.Range.rangeSize Ge;rw[if_pos hc];by_cases h:0<j
 .have h2:0<=(j-1)/c:=Int.ediv_nonneg (by lia) (by lia);rw[if_pos h,if_pos h,Int.sub_zero];lia
 .rw[if_neg h,if_neg h]
  rfl
def ye{j c:Int}(hc:0<c)(PZ:c<1000)(hj:0<=j)(hj':j<1000000):Builtin.Range.small 0 j c=u9:=by
 have h1:(j-1)/c<=j:=by
  by_cases h:0<j
  .have:=Int.ediv_le_self (b:=c) (show 0<=j-1 by lia);lia
  .have:j=0:=by lia
   subst this;have:=Int.ediv_neg_of_neg_of_pos (show(0:Int)-1<0 by decide) hc;lia
 have e:=dM (c:=c) hc hj;have h2:((Ge j c:Nat):Int)<=1000001:=by
  unfold Ge
  split <;> lia
 unfold Builtin.Range.small;rw[e];simp only[Builtin.Range.rangeFitsLong,zP,xj,decide_eq_true_eq,beq_iff_eq,hc,gt_iff_lt,if_true];lia
def iSt(ta:TA):TI:=λσ H R=>ta σ H λvs H1=>∃j c:Int,vs=[.int 0,.int j,.int c]/\(0<c/\c<1000/\0<=j/\j<1000000)/\R (Po 0 c (Ge j c)) H1
theorem yf{tg a b c:vW}{ta:TA}{p pos:Pos}(hg:Gl X "range")(hm:X.mg "range"=u8)(ha:PA X [a,b,c] ta)(hs:wQ [a,b,c] X.env=(uA,eval a X.env)::wQ [b,c] X.env:=by rfl)(So:(vD pos (wQ [b,c] X.env)).any (·.1)=uA:=by rfl):
  PI X tg (.Call (.Name "range" p) [a,b,c] [] pos) (iSt ta):=by
 intro wM s σ H R I h;refine Call_ (Ib I hg hm vf (qb (GB (ha pos wM s σ H _ I h) λus s1 ⟨vs,H1,I1,r1,q1⟩=>?_) hs So));obtain⟨j,c,e,⟨q1,q2,q3,q4⟩,q⟩:=q1;subst e;cases r1 with
 | cons r rr=>
  cases rr with
  | cons r' rr=>
   cases rr with
   | cons r'' rr=>
    cases rr;obtain⟨t,rfl⟩:=r;obtain⟨t',rfl⟩:=r';obtain⟨OY,rfl⟩:=r'';refine call_range_3 (by lia) ?_ (.inl (uv (by lia)));refine wpAny_pyIter_range (IsRange.new ..) (ye q1 q2 q3 q4) ?_;have I2:Inv X wM σ H1 {s1 with heap:=s1.heap.push {cls:=.type "range",data:=.fields #[.int 0 t,.int j t',.int c OY]},toks:=s1.toks}:=I1.kept λb o e=>zX _ e
    refine⟨(s1.heap.push {cls:=.type "range",data:=.fields #[.int 0 t,.int j t',.int c OY]}).objs.size,[(s1.heap.push {cls:=.type "range",data:=.fields #[.int 0 t,.int j t',.int c OY]}).objs.size],_,_,H1,rfl,
     I2.kept (t':=s1.toks) λb o e=>zX _ e,yd _ 0 c (Ge j c),?_,λb hb=>?_,q⟩
    .have e1:0+((0:Nat):Int)*c=0:=by simp
     have e2:((Ge j c:Nat):Int)-((0:Nat):Int)=Builtin.Range.rangeSize 0 j c:=by rw[dM q1 q3];simp
     show IsRangeIter _ _ (0+((0:Nat):Int)*c) ((Ge j c:Int)-((0:Nat):Int)) c;rw[e1,e2];exact z3 _ rfl
    .have e:b=(s1.heap.push {cls:=.type "range",data:=.fields #[.int 0 t,.int j t',.int c OY]}).objs.size:=by simpa using hb
     subst e;exact I2.Gu (zv _) (I2.UA.fresh (zv _))
noncomputable def Mp(c:Int)(n:Nat):List D:=(zW n).map λ(k:Nat)=>D.int ((k:Int)*c)
def K4(ds:List D)(G:DH):R KM:=match ds with
 |[.int i,.int j,.int c]=>if i=0/\0<c/\c<1000/\0<=j/\j<1000000 then .ok (.pure (Mp c (Ge j c))) G else .bad
 |_=>.bad
def yg{a:Wd}(c:Int)(n:Nat):WE a (.pure (Mp c n)) (Po 0 c n):=by
 refine⟨(zW n).map λ(k:Nat)=>V.int ((k:Int)*c),?_,λb x i=>⟨λv hv=>?_,λhl=>?_⟩⟩
 .unfold Mp;generalize zW n=l
  induction l with
  |nil=>exact rfl
  |cons k l ih=>exact⟨_,_,rfl,rfl,ih⟩
 .rw[zj]at hv;by_cases hi:i<n
  .rw[qB hi]at hv;have Nl:V.int ((i:Int)*c)=v:=by simpa using hv
   exact⟨hi,λw H' y=>⟨y.2.trans (by rw[xK];exact Nl),y.1⟩⟩
  .rw[zC (by simpa using hi)]at hv;cases hv
 .show n<=i;simpa using hl
def dO{tg e e' GX:vW}{ta:DA}{p pos:Pos}(hg:Gl X "range")(hm:X.mg "range"=u8)(ha:QA X E [e,e',GX] ta)(hs:wQ [e,e',GX] X.env=(uA,eval e X.env)::wQ [e',GX] X.env:=by rfl)(So:(vD pos (wQ [e',GX] X.env)).any (·.1)=uA:=by rfl):
  QI X E tg (.Call (.Name "range" p) [e,e',GX] [] pos) (Ba K4 ta):=
 (yf hg hm ha hs So).mono λσ H Q h=>by
  obtain⟨a,S,G,hk,rfl,s,r,h⟩:=h;refine⟨a,S,G,hk,rfl,s,r,(Pb h).imp ?_⟩;rintro vs _ ⟨b,ds,G1,rfl,x,s1,q,-,h1⟩;unfold K4 at h1;split at h1
  .rename_i i j c;split at h1
   .rename_i hj;obtain⟨rfl,hc,MO,hj,hj2⟩:=hj;obtain⟨v,r,e1,q1,v2,r2,e2,q2,v3,r3,e3,q3,q4⟩:=q
    cases(show v=V.int 0 from q1)
    cases(show v2=V.int j from q2)
    cases(show v3=V.int c from q3)
    cases(show r3=[]from q4)
    subst e3;subst e2;exact⟨j,c,e1,⟨hc,MO,hj,hj2⟩,h1 b _ (Ext.refl b) s1 (yg c (Ge j c))⟩
   .exact h1.elim
  .exact h1.elim
@[simp]theorem dQ{j c:Int}{G:DH}(h:0<c/\c<1000/\0<=j/\j<1000000):K4 [.int 0,.int j,.int c] G=.ok (.pure (Mp c (Ge j c))) G:=by unfold K4;exact if_pos ⟨rfl,h⟩
end
end _D
namespace _W
open PySem _L _D
def fuel:Nat:=1000000000000000000000000000000000000000000000000000000000000 abbrev FN:=List D->DH->R D abbrev cI (n:Int):DE:=dC (.int n) abbrev cS (n:Str):DE:=dC (.str n) abbrev d1 (a:DE):DA:=Ai a Bb abbrev d2 (a b:DE):DA:=Ai a (Ai b Bb) abbrev d3 (a b c:DE):DA:=Ai a (Ai b (Ai c Bb)) abbrev d4 (a b c d:DE):DA:=Ai a (Ai b (Ai c (Ai d Bb))) abbrev oI (a b:DE):DE:=XA Af a b abbrev oA (a b:DE):DE:=XA Do a b abbrev oM (a b:DE):DE:=XA My a b abbrev oX (a b:DE):DE:=XA Bq a b abbrev oS (a b:DE):DE:=XA Jp a b abbrev oD (a b:DE):DE:=XA Ir a b abbrev oE (a b:DE):DE:=XA K9 a b abbrev oL (a b:DE):DE:=XA Ji a b abbrev oG (a b:DE):DE:=XA Mg a b abbrev oP (a b:DE):DE:=XA Q9 a b abbrev sL (k:Nat) (a:DE) (b:DS):DS:=Ae (LC a (gV k)) b abbrev sC (a:DE) (b:DS):DS:=RF (Ao a) b TF abbrev v0:DE:=dV 0 abbrev v1:DE:=dV 1 abbrev v2:DE:=dV 2 abbrev v3:DE:=dV 3 abbrev v4:DE:=dV 4 abbrev v5:DE:=dV 5 abbrev v6:DE:=dV 6 abbrev v7:DE:=dV 7 abbrev v8:DE:=dV 8 abbrev v9:DE:=dV 9 abbrev v10:DE:=dV 10 abbrev v11:DE:=dV 11 abbrev v12:DE:=dV 12 abbrev v13:DE:=dV 13 abbrev g0:DG:=gV 0 abbrev g1:DG:=gV 1 abbrev g2:DG:=gV 2 abbrev g3:DG:=gV 3 abbrev g4:DG:=gV 4 abbrev g5:DG:=gV 5 abbrev g6:DG:=gV 6 abbrev g7:DG:=gV 7 abbrev g8:DG:=gV 8 abbrev g9:DG:=gV 9 abbrev g10:DG:=gV 10 abbrev g12:DG:=gV 12 abbrev c0:DE:=cI 0 abbrev c1:DE:=cI 1 abbrev c2:DE:=cI 2 abbrev c3:DE:=cI 3 abbrev c4:DE:=cI 4 abbrev c5:DE:=cI 5 abbrev c6:DE:=cI 6
noncomputable abbrev dR:List Str:=["self","ways","nodes","node","link"]
def Wq:QC dR (OK (Dg body 11 6)) (Bt (Dg body 11 6)):=G?
noncomputable abbrev dS:List Str:=["house","state","floods","pays","left","draft","supplies","most","flow","prices","many","rows"]
def Xi:QC dS (OK (top 34)) (Bt (top 34)):=G?
noncomputable def Sg:DE:=oI v0 c1
def Vl:DS:=sL 2 (Ag (Bv (De (oI v0 c1)) 1 [] g0 Aq Sg)) (Ae (sC (oE (oI (oI (oI v0 c1) v1) c2) (cS "sea")) (ZB (dC .LA))) (ZB (Cy M9 v2 (d1 (oI (oI (oI v0 c1) v1) c2)))))
def Mi:FN:=Aw 2 1 Vl
def U0:DS:=Ae (RF (TH (Ao (XA Hq v2 (dC .LA))) (Ao (XA Qf v1 (IA Ar (d1 v0))))) (ZB c0) TF) (ZB (oI (oI v0 v1) v2))
def J9:FN:=Aw 3 0 U0
noncomputable def dU:DE:=oI v0 c1
def dW:DS:=sL 2 (Ag (Bv (De (oI v0 c1)) 1 [] g0 Aq dU)) (ZB (Cy M9 v2 (d1 (oI (oI (oI (oI v0 c1) v1) c6) c0))))
def Q7:FN:=Aw 2 1 dW
def dX:DS:=ZB v10
def dY:DS:=Ae (sC (XA Jb (oI v6 c6) (dC .LA)) (sL 11 (IA J9 (d3 v1 (oA v2 (oI (oI v6 c6) c1)) (IA Q7 (d2 v0 v3)))) (LC (oA v10 (oX (oI (oI v6 c6) c2) (IA Jf (d2 c0 (oS (oS v11 v4) v7))))) g10))) dX
def Vn:DS:=sL 10 (oX (oI v6 c4) (IA Jf (d2 c0 (oS v9 v7)))) dY
def dZ:DS:=Ae (sC (oL (oA v2 c1) (IA Ar (d1 v1))) (LC (oI (oI v1 (oA v2 c1)) v3) g9)) Vn
def V6:DS:=sL 9 v5 dZ
def Vy:DS:=Ae (sC (oE (oI v6 c0) (cS "mill")) (ZB (oX (oI v6 c4) (IA Jf (d2 c0 (oS (oA v8 v4) v7)))))) V6
def X5:DS:=Ae (sC (oE (oI v6 c0) (cS "town")) (ZB (oX (oI v6 c4) (IA Jf (d2 c0 (oS v4 v7)))))) Vy
def d6:DS:=sL 8 (IA J9 (d3 v1 (oA v2 (oI v6 c3)) (IA Mi (d2 v0 v3)))) X5
def d7:DS:=sL 7 (oI (oI v1 v2) v3) d6
def d8:DS:=sL 6 (oI (oI v0 c1) v3) d7
def Ph:FN:=Aw 6 6 d8
def Ov:DS:=LC (oI (oI (oI v0 c1) v2) v3) (Mu v1 (d2 v3 v2))
def Oe:DS:=Bo (Ba IC (d1 c5)) g3 Ov
def d9:DS:=sL 1 Sv (Ae (Bo (Ba IC (d1 (IA Ar (d1 (oI v0 c1))))) g2 Oe) (ZB v1))
def O2:FN:=Aw 1 3 d9
def Ks:DS:=sL 10 (oA (oI (oI v2 v8) v9) (K8 v6 (d2 v8 v9) c0)) (Ae (sC (oE v8 c0) (LC (oA v10 (oI (oI v1 c0) v9)) g10)) (sL 7 (oA v7 (oX v10 (oI (oI v5 v8) v9))) (LC (oA v7 (IA Ph (Ai v0 (Ai v5 (d4 v8 v9 (oI (oI v3 v8) v9) (oI v4 v9)))))) g7)))
def M4:DS:=Bo (Ba IC (d1 (IA Ar (d1 (oI v0 c1))))) g9 Ks
def da:DS:=sL 6 (IA O2 (d1 v1)) (sL 7 c0 (Ae (Bo (Ba IC (d1 (IA Ar (d1 v2)))) g8 M4) (ZB v7)))
def Qn:FN:=Aw 6 5 da
def dc:DS:=Ae (sC (oL v1 (IA Ar (d1 v0))) (ZB (oI v0 v1))) (ZB c0)
def Ed:FN:=Aw 2 0 dc
def K7:DS:=sL 7 (oI (oI v0 c1) v6) (sL 8 (oI (oI v1 v5) v6) (sL 9 (oI (oI v2 v5) v6) (Ae (sC (oE (oI v7 c0) (cS "town")) (LC (oA v4 (oX (oI v8 c1) v9)) g4)) (Ae (sC (oE (oI v7 c0) (cS "mill")) (LC (oA v4 (oX (IA Hu (d2 (oI v7 c4) (oI v8 c3))) v9)) g4)) (sC (oE (oI v7 c0) (cS "basin")) (sL 4 (oS v4 (oX (oI v8 c4) v9)) (sC (oE (oA v5 c1) (IA Ar (d1 v1))) (LC (oA v4 (oX (oI v8 c5) (oI v3 v6))) g4))))))))
def Qk:DS:=Bo (Ba IC (d1 (IA Ar (d1 (oI v0 c1))))) g6 K7
def de:DS:=ZB v4
def df:DS:=Ae (Bo (Ba IC (d1 (IA Ar (d1 v1)))) g5 Qk) de
def dg:DS:=sL 4 c0 df
def S6:FN:=Aw 4 6 dg
noncomputable def Rq:DE:=oA (cS "sea") (oI (cS "fghijk") v0)
def Ni:DE:=Ag (JL (cS "aaaaaa") (u7 v0) u8)
noncomputable def Te:DE:=oA (oI (cS "fghijk") v0) (cS "lake")
def Tr:DS:=sL 2 (oM v0 c3) (Ae (sC (oE v2 c0) (ZB (Bv (Ba IC (d1 v1)) 1 [] g0 Aq Rq))) (Ae (sC (oE v2 c1) (ZB (Bv (Ba IC (d1 v1)) 1 [] g0 Aq Ni))) (ZB (Bv (Ba IC (d1 v1)) 1 [] g0 Aq Te))))
def Il:FN:=Aw 2 1 Tr
def dh:DS:=ZB (oM (oM (oX v0 (cI 48271)) v1) v2)
def Dm:FN:=Aw 3 0 dh
def Lp:DS:=sL 6 (oX (oA c1 (IA Dm (d3 (oA v0 v5) (cI 10243) c4))) v2) (sL 7 (cS "river") (Ae (RF (Gp (Ao (oG v1 c0)) (Ao (oE (IA Dm (d3 (oA v0 v5) (cI 10247) c2)) c0))) (sL 7 (cS "pump") (sL 6 (IA Hu (d2 v6 v1)) (LC (oS v1 v6) g1))) TF) (Ae (KD (Cy Ci v3 (d1 (IA Az (d3 v4 v6 v7))))) (LC (oA (oA v4 v6) (oX (IA Dm (d3 (oA v0 v5) (cI 10253) c3)) v2)) g4))))
def di:DS:=sL 3 (Bk (IA Ac Bb)) (sL 4 (oX (IA Dm (d3 v0 (cI 10211) c4)) v2) (Ae (Bo (Ba IC (d1 (IA Dm (d3 v0 (cI 10223) c4)))) g5 Lp) (ZB (IA Df (d1 v3)))))
def Ql:FN:=Aw 3 5 di
def V7:DS:=sL 4 (Bk (IA Ac (d1 (IA Az (d2 c0 (IA Ql (d3 v0 v1 v2))))))) (Ae (sC (oG v3 c1) (KD (Cy Ci v4 (d1 (IA Az (d2 (oS v3 c1) (IA Ql (d3 (oA (oD v0 c3) c1) v1 v2)))))))) (ZB (IA Df (d1 v4))))
def Nh:FN:=Aw 4 1 V7
def Za:DS:=ZB (oA (oA (IA Az (d1 (cS "basin"))) v7) (IA Az (d3 v8 (IA Nh (d4 (oI v0 c2) v11 v3 v4)) v10)))
def W6:DS:=Ae (RF (Gp (Ao (oG v5 c1)) (Ao (oE (IA Dm (d3 (oI v0 c2) (cI 10067) c2)) c0))) (sL 12 (oI v2 (oM (oA (oA v1 c1) (IA Dm (d3 (oI v0 c2) (cI 10069) (oS v5 c1)))) v5)) (sL 11 (oX (IA Dm (d3 (oI v0 c2) (cI 10079) c6)) v3) (LC (IA Az (d3 v12 (oI (Ag (IA Ac (Ai c1 (Ai c1 (d4 c2 c3 c4 c5))))) (IA Dm (d3 (oI v0 c2) (cI 10091) c6))) v11)) g10))) TF) Za
def V0:DS:=sL 11 c0 W6
def Wy:DS:=sL 10 (dC .LA) V0
def Rc:DS:=Ae (sC (oE v9 c4) (ZB (oA (oA (IA Az (d1 (cS "mill"))) v7) (IA Az (d1 v8))))) Wy
def Lr:DS:=Ae (RF (TH (Ao (oE v9 c2)) (Ao (oE v9 c3))) (ZB (oA (oA (IA Az (d1 (cS "town"))) v7) (IA Az (d2 v8 (IA Dm (d3 (oI v0 c1) (cI 10061) c3)))))) TF) Rc
def dj:DS:=sL 9 (IA Dm (d3 (oI v0 c0) (cI 10039) c5)) Lr
def dk:DS:=sL 8 (oX (IA Dm (d3 (oI v0 c1) (cI 10037) (cI 8))) v3) dj
def dm:DS:=sL 7 (IA Az (d3 (oI v2 v1) v6 (oI (Ag (IA Ac (Ai c0 (Ai c0 (Ai c0 (Ai c1 (Ai c1 (d4 c2 c3 c4 c5)))))))) (IA Dm (d3 (oI v0 c0) (cI 10009) (cI 9)))))) dk
def Z2:DS:=sL 6 (oI (Ag (oA v2 (Ag (IA Ac (d1 (cS "sea")))))) (oA (oA v1 c1) (IA Dm (d3 (oI v0 c0) (cI 10007) (oS v5 v1))))) dm
def Oa:DS:=sL 5 (IA Ar (d1 v2)) Z2
def Iw:FN:=Aw 5 8 Oa
def dq:DS:=sL 2 (oI v0 c0) (Ae (LC (oD v2 v1) (ON v0 c0)) (ZB (oM v2 v1)))
def Cq:FN:=Aw 2 1 dq
def M5:DS:=sL 6 (oX (oA c1 (IA Cq (d2 v0 c4))) v2) (sL 7 (cS "river") (Ae (RF (Gp (Ao (oE (IA Cq (d2 v0 c2)) c1)) (Ao (oG v1 c0))) (sL 7 (cS "pump") (sL 6 (IA Hu (d2 v6 v1)) (LC (oS v1 v6) g1))) TF) (Ae (KD (Cy Ci v3 (d1 (IA Az (d3 v4 v6 v7))))) (LC (oA (oA v4 v6) (oX (IA Cq (d2 v0 c3)) v2)) g4))))
def dr:DS:=sL 3 (Bk (IA Ac Bb)) (sL 4 (oX (IA Cq (d2 v0 c4)) v2) (Ae (Bo (Ba IC (d1 (IA Cq (d2 v0 c4)))) g5 M5) (ZB (IA Df (d1 v3)))))
def Jq:FN:=Aw 3 5 dr
def Yc:DS:=ZB (oA v7 (IA Az (d3 v8 (IA Df (d1 v12)) v9)))
def W5:DS:=Ae (RF (Gp (Ao (oE (IA Cq (d2 v0 c2)) c1)) (Ao (oG v4 c1))) (KD (Cy Ci v12 (d1 (IA Az (d2 (oA c1 (IA Cq (d2 v0 (oS v4 c1)))) (IA Jq (d3 v0 v10 v3))))))) TF) Yc
def Qs:DS:=sL 12 (Bk (IA Ac (d1 (IA Az (d2 c0 (IA Jq (d3 v0 v10 v3))))))) W5
def Yx:DS:=Ae (RF (Gp (Ao (oE (IA Cq (d2 v0 c2)) c1)) (Ao (oG (IA Ar (d1 v2)) c1))) (sL 11 (oI v2 (oM (oA (oA v1 c1) (IA Cq (d2 v0 (oS (IA Ar (d1 v2)) c1)))) (IA Ar (d1 v2)))) (sL 10 (oX (IA Cq (d2 v0 c6)) v3) (LC (IA Az (d3 v11 (oA c1 (IA Cq (d2 v0 c5))) v10)) g9))) TF) Qs
def Zc:DS:=sL 10 c0 Yx
def Xh:DS:=sL 9 (dC .LA) Zc
def Ss:DS:=Ae (sC (oE v5 (cS "mill")) (ZB (oA v7 (IA Az (d1 v8))))) Xh
def Ka:DS:=Ae (sC (oE v5 (cS "town")) (ZB (oA v7 (IA Az (d2 v8 (IA Cq (d2 v0 c3))))))) Ss
def dt:DS:=sL 8 (oX (IA Cq (d2 v0 (cI 8))) v3) Ka
def du:DS:=sL 7 (IA Az (d4 v5 (oI v2 v1) v6 (IA Cq (d2 v0 c6)))) dt
def dw:DS:=sL 6 (oI (Ag (oA v2 (Ag (IA Ac (d1 (cS "sea")))))) (oA (oA v1 c1) (IA Cq (d2 v0 (oS (IA Ar (d1 v2)) v1))))) du
def Qv:DS:=sL 5 (oI (Ag (IA Ac (d4 (cS "basin") (cS "basin") (cS "town") (cS "mill")))) (IA Cq (d2 v0 c4))) dw
def Jx:FN:=Aw 5 8 Qv
def Hs:DS:=sL 7 (Cy Lz v5 (d1 (IA Cq (d2 v0 (IA Ar (d1 v5)))))) (sL 8 (oA (oI (Ag (IA Ac (d3 (cS "") (cS "none") (cS "sea")))) (IA Cq (d2 v0 c3))) (oX v7 (oA c1 (IA Cq (d2 v0 c3))))) (Ae (RF (Gp (Ao (oE (Ag (JL v8 u8 (u7 c4))) (cS "none"))) (Gp (Ao (XA Ip (cS "none") v4)) (Ao (oE (IA Cq (d2 v0 c2)) c1)))) (LC (cS "none") g8) TF) (KD (Cy Ci v4 (d1 v8)))))
def Nq:DE:=Ag (IA Jx (Ai v1 (d4 v0 v4 v2 v3)))
def dy:DS:=ZB (IA Az (d2 v3 (IA Df (d1 (Ag (Bv (Ba IC (d1 v1)) 1 [0,2,3,4] g0 Aq Nq))))))
def dz:DS:=Ae (Bo (Ba IC (d1 v1)) g6 Hs) dy
def eB:DS:=sL 5 (Bk (IA Gf (d1 (cS "abcdefghijklmnopqrstuvwxyz")))) dz
def eC:DS:=sL 4 (Bk (IA Ac Bb)) eB
def eE:DS:=sL 3 (oA c1 (IA Cq (d2 v0 c3))) eC
def Np:FN:=Aw 3 6 eE
def Tj:DE:=IA Ed (d2 v1 (oA (oA c4 (oX c3 v2)) v0))
def Q8:DS:=Ae (LC (Ag (Bv (Ba IC (d1 c3)) 1 [0,6] g0 Aq Tj)) g7) (KD (Cy Ci v5 (d1 (Ag (IA Iw (Ai v7 (d4 v6 v3 v2 v4)))))))
def eF:DS:=ZB (IA Az (d2 v4 (IA Df (d1 v5))))
def eG:DS:=Ae (Bo (Ba IC (d1 v1)) g6 Q8) eF
def eI:DS:=sL 5 (Bk (IA Ac Bb)) eG
def eJ:DS:=sL 4 (oA c1 (oM (oD (IA Ed (d2 v0 c1)) c3) c3)) eI
def Vh:DS:=sL 3 (Ag (IA Il (d2 (IA Ed (d2 v0 c1)) v1))) eJ
def V5:DS:=Ae (RF (Fv (Ao (Nb Qo Ji c0 (IA Ed (d2 v0 c4)) (oP (cI 10) (cI 18))))) (ZB (IA Np (d3 (Bk (IA Ac (d1 (IA Ed (d2 v0 c4))))) v1 v2))) TF) Vh
def Qa:FN:=Aw 3 5 V5
def Sw:DE:=oX (IA Dm (d3 (IA Ed (d2 v1 (oA (oA v2 (oX v6 v3)) v0))) (cI 10103) v4)) v5
def Oq:DS:=sL 8 (Ag (Bv (Ba IC (d1 v3)) 1 [0,1,3,4,5,7] g0 Aq Sw)) (KD (Cy Ci v6 (d1 (IA Df (d1 v8)))))
def eK:DS:=sL 6 (Bk (IA Ac Bb)) (Ae (Bo (Ba IC (d1 v2)) g7 Oq) (ZB v6))
def Mh:FN:=Aw 6 3 eK
def Ue:DE:=oX (oD (IA Dm (d3 (oA v2 v0) (cI 10099) c4)) c2) v1
def K3:DS:=sL 6 (IA Ed (d2 v0 (oA (cI 19) v5))) (sL 7 c0 (Ae (sC (oE (oI (oI (oI v1 c1) v5) c0) (cS "basin")) (sL 7 (oX (IA Dm (d3 v6 (cI 10093) (cI 9))) v2) (sC (oG v7 (oI (oI (oI v1 c1) v5) c4)) (LC (oI (oI (oI v1 c1) v5) c4) g7)))) (Ae (KD (Cy Ci v3 (d1 v7))) (KD (Cy Ci v4 (d1 (IA Df (d1 (Ag (Bv (Ba IC (d1 c5)) 1 [2,6] g0 Aq Ue))))))))))
def eM:DS:=sL 3 (Bk (IA Ac Bb)) (sL 4 (Bk (IA Ac Bb)) (Ae (Bo (Ba IC (d1 (IA Ar (d1 (oI v1 c1))))) g5 K3) (ZB (IA Az (d2 (IA Df (d1 v3)) (IA Df (d1 v4)))))))
def Sh:FN:=Aw 3 5 eM
def Ub:DE:=oX (IA Dm (d3 (IA Ed (d2 v1 (oA (cI 54) v0))) (cI 10111) (cI 7))) v2
def Od:DE:=UO (Ao (oE (oM v0 (cI 7)) (oM v1 (cI 7)))) (oI v2 v0) (IA Az (d1 c0))
def Wh:DS:=ZB (IA Az (Ai v6 (d4 (IA Sh (d3 v0 v6 v5)) v10 v8 (IA Df (d1 v9)))))
def Ux:DS:=Ae (sC (oG v4 (cI 7)) (LC (Ag (Bv (Ba IC (d1 v4)) 1 [1,10] g0 Aq Od)) g10)) Wh
def Xd:DS:=sL 10 (Ag (IA Mh (Ai v0 (Ai (cI 24) (d4 v4 v3 c6 v5))))) Ux
def Wu:DS:=sL 9 (Ag (Bv (Ba IC (d1 v3)) 1 [0,7] g0 Aq Ub)) Xd
def Z6:DS:=sL 8 (Ag (IA Mh (Ai v0 (Ai (cI 39) (d4 v4 v3 (cI 10) v7))))) Wu
def Xc:DS:=sL 7 (oI (Ag (IA Ac (d3 c1 c1 (cI 100)))) (oM (oD v1 (cI 60)) c3)) Z6
def Yd:DS:=sL 6 (IA Qa (d3 v0 v3 v5)) Xc
def Xy:DS:=sL 5 (oI (Ag (IA Ac (d4 c1 c1 (oA (oP (cI 10) (cI 9)) (cI 7)) (oP (cI 10) (cI 30))))) (oM (oD v1 (cI 15)) c4)) Yd
def Us:DS:=Ae (LC (oI v2 (IA Dm (d3 v1 (cI 10273) (cI 16)))) (Bp 2 (Ak g3 (Ak g4 Bs)))) Xy
def Xv:DS:=sL 2 (Ag (oA v2 (Ag (IA Ac (d3 (IA Az (d2 c1 c2)) (IA Az (d2 c2 (cI 7))) (IA Az (d2 c1 (cI 20)))))))) Us
def V2:DS:=sL 2 (Ag (IA Ac (Ai (IA Az (d2 c3 c2)) (Ai (IA Az (d2 c2 c3)) (Ai (IA Az (d2 c3 c3)) (Ai (IA Az (d2 c4 c2)) (Ai (IA Az (d2 c5 c1)) (Ai (IA Az (d2 c2 c5)) (Ai (IA Az (d2 c1 (cI 7))) (Ai (IA Az (d2 c2 c2)) (Ai (IA Az (d2 c3 c2)) (d4 (IA Az (d2 c2 c4)) (IA Az (d2 c1 c4)) (IA Az (d2 c3 c1)) (IA Az (d2 c5 c2)))))))))))))) Xv
def Yn:DS:=sL 1 (IA Ed (d2 v0 c0)) V2
def O4:FN:=Aw 1 10 Yn
def O6:DS:=sL 2 (IA Hu (d2 v1 v2)) (ZB (oI (Ag (IA Ac (d4 v2 c0 (oD v2 c2) (IA Hu (d2 v2 c1))))) (oM v0 c4)))
def J7:FN:=Aw 3 0 O6
def We:DS:=ZB (IA Az (Ai v2 (Ai c0 (d4 c0 (oS (oS v4 v6) v7) v7 v6))))
def Xq:DS:=Ae (sC (XA Jb (oI v0 c6) (dC .LA)) (LC (Ag (IA J7 (d3 (oD v3 (cI 16)) (oS v4 v6) (oI (oI v0 c6) c2)))) g7)) We
def Z9:DS:=sL 7 c0 Xq
def Wo:DS:=sL 6 (Ag (IA J7 (d3 (oD v3 c4) v4 (oI v0 c4)))) Z9
def Ra:DS:=Ae (sC (oE (oI v0 c0) (cS "mill")) (ZB (IA Az (Ai v2 (Ai c0 (d4 c0 v4 c0 c0)))))) Wo
def Ny:DS:=Ae (sC (oE (oI v0 c0) (cS "town")) (sL 5 (Ag (IA J7 (d3 v3 v4 (oI v0 c4)))) (ZB (IA Az (Ai v2 (Ai v5 (d4 c0 (oS v4 v5) c0 c0))))))) Ra
def Pj:DS:=sL 4 (oA v1 v2) Ny
def Le:FN:=Aw 4 4 Pj
def Ws:DS:=sC (XA Jb v2 (dC .LA)) (LC (oA (K8 v0 (d2 v1 v2) c0) v3) (Mu v0 (d2 v1 v2)))
def Lb:FN:=Aw 4 0 Ws
def N5:DS:=sL 10 (oI (oI v0 c1) v9) (sL 11 (oA (oI (oI v2 v7) v9) (K8 v4 (d2 v7 v9) c0)) (sL 12 (Ag (IA Le (d4 v10 (oI v5 v9) v11 (oM (oX v3 (cI 48271)) (oA (oA (cI 10007) (oX (cI 30) v9)) (oX c2 v7)))))) (Ae (KD (IA Lb (d4 v4 (oA v7 (oI v10 c3)) (IA Mi (d2 v0 v9)) (oI v12 c3)))) (Ae (sC (oG (oI v12 c4) c0) (KD (IA Lb (d4 v4 (oA v7 (oI (oI v10 c6) c1)) (IA Q7 (d2 v0 v9)) (oI v12 c4))))) (Ae (LC (oI v12 c5) (ON v5 v9)) (KD (Cy Ci v8 (d1 v12))))))))
def Pa:DS:=sL 8 (Bk (IA Ac Bb)) (Ae (Bo (Ba IC (d1 (IA Ar (d1 (oI v0 c1))))) g9 N5) (KD (Cy Ci v6 (d1 (IA Df (d1 v8))))))
def eN:DS:=sL 4 (IA O2 (d1 v1)) (sL 5 (Bk (IA Gf (d1 (oI v1 c0)))) (sL 6 (Bk (IA Ac Bb)) (Ae (Bo (Ba IC (d1 (IA Ar (d1 v2)))) g7 Pa) (ZB v6))))
def Tw:FN:=Aw 4 9 eN
def eO:DS:=ZB (Qz (IA Ey (d2 v0 (dC (.ty "int")))) (Rw (IA Ey (d2 v0 (dC (.ty "bool"))))))
def Ms:FN:=Aw 1 0 eO
def Tn:DE:=IA Ms (d1 v0)
def Rx:DS:=RF (TH (Fv (Ao (IA Ey (d2 v2 (dC (.ty "tuple")))))) (TH (Ao (XA Hi (IA Ar (d1 v2)) c6)) (Fv (Ao (IA J1 (d1 (Ag (Bv (De v2) 1 [] g0 Aq Tn)))))))) (ZB (dC (.bl uA))) TF
def eQ:DS:=Ae (RF (TH (Fv (Ao (IA Ey (d2 v0 (dC (.ty "tuple")))))) (Ao (XA Hi (IA Ar (d1 v0)) v1))) (ZB (dC (.bl uA))) TF) (Ae (Bo (De v0) g2 Rx) (ZB (dC (.bl u9))))
def Ul:FN:=Aw 2 1 eQ
def Ut:DS:=RF (TH (Fv (Ao (IA Ey (d2 v3 (dC (.ty "list")))))) (Ao (XA Hi (IA Ar (d1 v3)) v1))) (ZB (dC (.bl uA))) TF
def Zn:DE:=IA Ms (d1 v0)
def Qm:DS:=RF (TH (Fv (Ao (IA Ey (d2 v4 (dC (.ty "tuple")))))) (TH (Ao (XA Hi (IA Ar (d1 v4)) v2)) (Fv (Ao (IA J1 (d1 (Ag (Bv (De v4) 1 [] g0 Aq Zn)))))))) (ZB (dC (.bl uA))) TF
def R4:DE:=IA Ul (d2 v0 v1)
def eR:DS:=Ae (RF (TH (Fv (Ao (IA Ey (d2 v0 (dC (.ty "tuple")))))) (TH (Ao (XA Hi (IA Ar (d1 v0)) c3)) (Fv (Ao (IA Ms (d1 (oI v0 c0))))))) (ZB (dC (.bl uA))) TF) (Ae (Bo (De (Ag (IA Ac (d2 (oI v0 c1) (oI v0 c2))))) g3 Ut) (Ae (Bo (De (oI v0 c2)) g4 Qm) (ZB (IA J1 (d1 (Ag (Bv (De (oI v0 c1)) 1 [2] g0 Aq R4)))))))
def O9:FN:=Aw 3 2 eR
def Qd:DS:=sL 3 (IA Ar (d1 (oI (Ay "Draft" v0 "house") c1))) (Ae (RF (TH (Ao (XA Hq v2 (dC .LA))) (Ao (XA Qf v1 (Ay "Draft" v0 "turns")))) (ZB (oX (Ay "Draft" v0 "turns") v3)) TF) (ZB (oA (oX v1 v3) v2)))
def Dy:FN:=Aw 3 1 Qd
def eU:DS:=Ae (LC v1 (Bp 3 (Ak g5 (Ak g6 (Ak g7 Bs))))) (Ae (KD (Cy Ci (Ay "Draft" v0 "arcs") (d1 (Bk (IA Az (d4 (Bu "Draft" "node_at" Dy v0 (d2 v5 v6)) v2 v3 v4)))))) (KD (Cy Ci (Ay "Draft" v0 "spots") (d1 (Bk v1)))))
def H8:FN:=Aw 5 3 eU
def K5:DS:=sC (oE (oI v3 c1) v1) (ZB v2)
def eV:DS:=Ae (Bo (Ba Et (d1 (oI v0 c1))) (Bp 2 (Ak g2 (Ak g3 Bs))) K5) Td
def Qg:FN:=Aw 2 2 eV
def Wm:DS:=sL 2 (oI (oI (oI v0 c1) v1) c2) (Ae (sC (oE v2 (cS "sea")) (ZB (dC .LA))) (ZB (IA Qg (d2 v0 v2))))
def Ol:FN:=Aw 2 1 Wm
def eW:DS:=sL 5 (Bu "Draft" "node_at" Dy v0 (d2 (oA v1 (oI (oI (oI (Ay "Draft" v0 "house") c1) v2) c3)) (IA Ol (d2 (Ay "Draft" v0 "house") v2)))) (KD (Bu "Draft" "draw" H8 v0 (d4 (IA Az (d3 v1 v2 c3)) v5 v3 v4)))
def Ha:FN:=Aw 5 1 eW
def Vz:DS:=sL 5 (oI (oI (Ay "Draft" v0 "house") c1) v2) (Ae (KD (Bu "Draft" "draw_river" Ha v0 (d4 v1 v2 (dC .LA) c0))) (Ae (sC (XA Jb (oI v5 c6) (dC .LA)) (sL 6 (Bu "Draft" "node_at" Dy v0 (d2 (oA v1 (oI (oI v5 c6) c1)) (IA Qg (d2 (Ay "Draft" v0 "house") (oI (oI v5 c6) c0))))) (KD (Bu "Draft" "draw" H8 v0 (d4 (IA Az (d3 v1 v2 c4)) v6 (oI (oI v5 c6) c2) (JM Gy v3)))))) (sL 7 (oE v1 (oS (Ay "Draft" v0 "turns") c1)) (KD (Bu "Draft" "draw" H8 v0 (d4 (IA Az (d3 v1 v2 c5)) (Bu "Draft" "node_at" Dy v0 (d2 (oA v1 c1) v2)) (oI v5 c4) (UO (Ao v7) v4 c0)))))))
def Lq:FN:=Aw 5 3 Vz
def eX:DS:=Ae (KD (Bu "Draft" "draw_river" Ha v0 (d4 v1 v2 (oI (oI (oI (Ay "Draft" v0 "house") c1) v2) c4) v3))) (KD (Bu "Draft" "draw_river" Ha v0 (d4 v1 v2 (dC .LA) c0)))
def Om:FN:=Aw 4 0 eX
def eY:DS:=Ae (KD (Bu "Draft" "draw" H8 v0 (d4 (IA Az (d3 v1 v2 c1)) (Bu "Draft" "node_at" Dy v0 (d2 v1 (dC .LA))) (oI (oI (oI (Ay "Draft" v0 "house") c1) v2) c4) v3))) (KD (Bu "Draft" "draw_river" Ha v0 (d4 v1 v2 (dC .LA) c0)))
def Ou:FN:=Aw 4 0 eY
def Kf:DS:=RF (Ao (oE (oI v7 c0) (cS "town"))) (KD (Bu "Draft" "draw_town" Ou v0 (d3 v4 v6 (oI v5 v6)))) (RF (Ao (oE (oI v7 c0) (cS "mill"))) (KD (Bu "Draft" "draw_mill" Om v0 (d3 v4 v6 (oI v5 v6)))) (KD (Bu "Draft" "draw_basin" Lq v0 (d4 v4 v6 (oI v5 v6) (oI v3 v6)))))
def M3:DS:=Bo (Ba Et (d1 (oI v1 c1))) (Bp 2 (Ak g6 (Ak g7 Bs))) Kf
def Uo:DS:=Ae (Cp "Draft" v0 v1 "house") (Ae (Cp "Draft" v0 (IA Ar (d1 v2)) "turns") (Ae (Cp "Draft" v0 (Bk (IA Ac Bb)) "arcs") (Ae (Cp "Draft" v0 (Bk (IA Ac Bb)) "spots") (Bo (Ba Et (d1 v2)) (Bp 2 (Ak g4 (Ak g5 Bs))) M3))))
def Qj:FN:=Aw 4 4 Uo
def eZ:DS:=ZB (IA Df (d1 (Ag (oA (Ag (IA Ac (d1 (oS (IA Gd (d1 (Ag (JL v0 (u7 c1) u8)))) v1)))) (Ag (JL v0 (u7 c1) u8))))))
def Rn:FN:=Aw 2 0 eZ
def Ls:DE:=Bk (XA Jk (IA Ac (d1 c0)) c6)
def Ob:DS:=Ae (LC v5 (Bp 3 (Ak g7 (Ak g8 (Ak g9 Bs))))) (Ja (oI v4 (Bu "Draft" "node_at" Dy v0 (d2 v7 v8))) v9 v6 Mj)
def Wr:DE:=IA Rn (d2 v0 v1)
noncomputable def Ud:DE:=oI v0 c5
def Oz:DS:=sL 13 (Ag (Bv (Ba (Hb 2) (d2 (Ag (JL v4 (u7 v12) (u7 (oA v12 v3)))) v11)) 2 [] (Bp 2 (Ak g0 (Ak g1 Bs))) Aq Wr)) (sL 11 (Ag (Bv (De v13) 1 [] g0 Aq Ud)) (KD (Cy Ci v10 (d1 (IA Df (d1 v13))))))
def e6:DS:=sL 3 (IA Ar (d1 (oI (Ay "Draft" v0 "house") c1))) (sL 4 (Bv (Ba IC (d1 (oX (Ay "Draft" v0 "turns") v3))) 1 [] g0 Aq Ls) (Ae (Bo (Ba (Hb 2) (d2 (Ay "Draft" v0 "spots") v2)) (Bp 2 (Ak g5 (Ak g6 Bs))) Ob) (sL 10 (Bk (IA Ac Bb)) (sL 11 (oI v1 c0) (Ae (Bo (Ba K4 (d3 c0 (IA Ar (d1 v4)) v3)) g12 Oz) (ZB v10))))))
def Qe:FN:=Aw 3 11 e6
def e7:DS:=Ae (KD (Cy Ci (oI (Ay "Sending" v0 "links_from") v1) (d1 (Bk (IA Ar (d1 (Ay "Sending" v0 "ends"))))))) (Ae (KD (Cy Ci (Ay "Sending" v0 "ends") (d1 (Bk v2)))) (Ae (KD (Cy Ci (Ay "Sending" v0 "worths") (d1 (Bk (oS (oX v3 (Ay "Sending" v0 "scale")) c1))))) (KD (Cy Ci (Ay "Sending" v0 "rooms") (d1 (Bk v4))))))
def Hf:FN:=Aw 5 0 e7
def Lw:DE:=Bk (IA Ac Bb)
def Je:DS:=Ae (KD (Bu "Sending" "add_link" Hf v0 (d4 (oI v5 c0) (oI v5 c1) (oI v5 c3) (UO (Ao (XA Hq (oI v5 c2) (dC .LA))) v4 (oI v5 c2))))) (KD (Bu "Sending" "add_link" Hf v0 (d4 (oI v5 c1) (oI v5 c0) (JM Gy (oI v5 c3)) c0)))
def e8:DS:=sL 4 (oA (IA Gd (d1 v3)) c1) (Ae (Cp "Sending" v0 (oA v1 c1) "scale") (Ae (Cp "Sending" v0 (Bk (oA (Ag (IA Gf (d1 v3))) (Ag (IA Ac (d1 c0))))) "left") (Ae (Cp "Sending" v0 (Bv (De (Ay "Sending" v0 "left")) 1 [] g0 Aq Lw) "links_from") (Ae (Cp "Sending" v0 (Bk (IA Ac Bb)) "ends") (Ae (Cp "Sending" v0 (Bk (IA Ac Bb)) "worths") (Ae (Cp "Sending" v0 (Bk (IA Ac Bb)) "rooms") (Bo (De v2) g5 Je)))))))
def Uk:FN:=Aw 4 2 e8
def Nj:DS:=(Ae (LC (XA Af (dV 2) (XA Af (Ay "Sending" (dV 0) "ends") (dV 4))) (gV 5)) (RF (Gp (Ao (XA Mg (XA Af (Ay "Sending" (dV 0) "rooms") (dV 4)) (dC (.int 0)))) (Ao (XA Jb (dV 5) (dC .LA)))) (Ae (LC (XA Do (dV 5) (XA Af (Ay "Sending" (dV 0) "worths") (dV 4))) (gV 6)) (RF (TH (Ao (XA Hq (dV 3) (dC .LA))) (Ao (XA Ji (dV 3) (dV 6)))) (LC (dV 6) (gV 3)) TF)) TF))
def Zy:DS:=sL 3 (oI v2 v1) (Ae (Bo (De (oI (Ay "Sending" v0 "links_from") v1)) g4 Nj) (ZB v3))
def Ot:FN:=Aw 3 4 Zy
def e9:DE:=dC .LA
def Ox:DS:=sL 4 (Bu "Sending" "best_way" Ot v0 (d2 v3 v1)) (sC (XA Hi v4 (oI v1 v3)) (Ae (LC v4 (ON v1 v3)) (LC (dC (.bl uA)) g2)))
def Rz:DS:=sL 2 (dC (.bl u9)) (Bo (Ba VJ (d3 (oS (IA Ar (d1 v1)) c2) (JM Gy c1) (JM Gy c1))) g3 Ox)
def Mw:DB:=(Fv (Ao (dV 2)))
def ed:DS:=sL 1 (Bv (De (Ay "Sending" v0 "left")) 1 [] g0 Aq e9) (Ae (LC c0 (ON v1 (JM Gy c1))) (sL 2 (dC (.bl uA)) (Ae (ZI Mw Rz fuel) (ZB v1))))
def J0:FN:=Aw 1 4 ed
noncomputable def Z0:DE:=v1
def Yv:DB:=(Ao (XA K9 (XA My (dV 0) (dC (.int 2))) (dC (.int 1))))
def ef:DS:=ZB (Bv (Ba Et (d1 (Ay "Sending" v0 "rooms"))) 2 [] (Bp 2 (Ak g0 (Ak g1 Bs))) Yv Z0)
def Kh:FN:=Aw 1 0 ef
def eh:DS:=ZB (JM Gy (oD (JM Gy v1) (Ay "Sending" v0 "scale")))
def Kv:FN:=Aw 2 0 eh
def el:DS:=ZB (oM (JM Gy v1) (Ay "Sending" v0 "scale"))
def Oc:FN:=Aw 2 0 el
def eo:DS:=sL 4 (UO (Ao (oE (oM v2 c2) c0)) (oA v2 c1) (oS v2 c1)) (Ae (Ja (Ay "Sending" v0 "left") v1 v3 Jp) (Ae (Ja (Ay "Sending" v0 "left") (oI (Ay "Sending" v0 "ends") v2) v3 Mj) (Ae (Ja (Ay "Sending" v0 "rooms") v2 v3 Jp) (Ja (Ay "Sending" v0 "rooms") v4 v3 Mj))))
def Nu:FN:=Aw 4 1 eo
def Qp:DE:=Bu "Sending" "links_of" Oc v1 (d1 (oI v2 v0))
def O5:DS:=sC (oE (oI v1 v3) (oA (oI v1 (oI (Ay "Sending" v0 "ends") v4)) (oI (Ay "Sending" v0 "worths") v4))) (KD (Bu "Sending" "send_along" Nu v0 (d3 v3 v4 (IA Hu (d2 (oI (Ay "Sending" v0 "left") v3) (oI (Ay "Sending" v0 "rooms") v4))))))
def U4:DS:=Bo (De (oI (Ay "Sending" v0 "links_from") v3)) g4 O5
def et:DS:=sL 2 (Ag (Nt "Sending" "send_by" (d1 (oS (IA Ar (d1 v1)) c1)) [0,1] Qp)) (Bo (De v2) g3 U4)
def O7:FN:=Aw 2 3 et
noncomputable def Uz:DE:=oI v0 c0
def Yb:DB:=(Ao (XA Hq (XA Af (dV 0) (dC (.int 2))) (dC .LA)))
def Pr:DS:=sC (XA Ip v3 v2) Td
def fB:DS:=sL 2 (Ag (Bv (De v1) 1 [] g0 Yb Uz)) (Bo (Ba IC (d1 v0)) g3 Pr)
def Tu:FN:=Aw 2 2 fB
def Q5:DS:=Ae (KD (Bu "Sending" "send_by" O7 v3 (d1 v4))) (LC (Ag (Bu "Sending" "best_ways" J0 v3 Bb)) g4)
def Pq:DB:=(Ao (XA Mg (IA Gd (Ai (Ag (JL (Ay "Sending" (dV 3) "left") u8 (u7 (dV 0)))) Bb)) (dC (.int 0))))
noncomputable def Ym:DE:=oX v0 (oI v1 c3)
def Nz:DE:=Bu "Sending" "gain_of" Kv v1 (d1 v0)
def fC:DS:=ZB (IA Az (d3 v6 v5 (Ag (Bv (De (Ag (JL v4 u8 (u7 v0)))) 1 [3] g0 Aq Nz))))
def fE:DS:=sL 6 (IA Gd (d1 (Ag (Bv (Ba (Hb 2) (d2 v5 v1)) 2 [] (Bp 2 (Ak g0 (Ak g1 Bs))) Aq Ym)))) fC
def fF:DS:=sL 5 (Ag (Bu "Sending" "flow_sent" Kh v3 Bb)) fE
def fG:DS:=Ae (ZI Pq Q5 fuel) fF
def fJ:DS:=sL 4 (Ag (Bu "Sending" "best_ways" J0 v3 Bb)) fG
def fK:DS:=sL 3 (Lx "Sending" Uk (d3 v0 v1 v2)) fJ
def fL:DS:=Ae (KD (IA Tu (d2 v0 v1))) fK
def R5:FN:=Aw 3 4 fL
def Lf:DS:=sL 9 (UO (Ao (oL v5 (IA Ar (d1 (oI v3 v7))))) (oI (oI v3 v7) v5) c0) (sL 10 (UO (Ao (oE v5 c0)) (oI v2 v7) c0) (KD (Cy Ci v4 (d1 (oA (oA v8 v9) v10)))))
def Ow:DS:=Bo (Ba Et (d1 v6)) (Bp 2 (Ak g7 (Ak g8 Bs))) Lf
def fM:DS:=Ae (LC v0 (Bp 2 (Ak g2 (Ak g3 Bs)))) (sL 4 (Bk (IA Ac Bb)) (Ae (Bo (Ba Et (d1 v1)) (Bp 2 (Ak g5 (Ak g6 Bs))) Ow) (ZB v4)))
def Pk:FN:=Aw 2 9 fM
def Nv:DE:=IA Df (d1 (Ag (JL v1 (u7 v0) (u7 (oA v0 v2)))))
def fN:DS:=sL 5 (Lx "Draft" Qj (d3 v0 v3 v4)) (sL 6 (Ag (IA Pk (d2 v1 v2))) (Ae (LC (Ag (IA R5 (d3 (IA Ar (d1 v6)) (Ay "Draft" v5 "arcs") v6))) (Bp 3 (Ak g7 (Ak g8 (Ak g9 Bs))))) (sL 10 (IA Ar (d1 (oI v0 c1))) (sL 11 (Ag (Bv (Ba K4 (d3 c0 (IA Ar (d1 v9)) v10)) 1 [9,10] g0 Aq Nv)) (ZB (IA Az (d3 v7 (Ag (Bu "Draft" "pages_by" Qe v5 (d2 v1 v8))) v11)))))))
def O3:FN:=Aw 5 7 fN
def Py:DS:=sC (oG (IA S6 (d4 v1 (Ag (IA Tw (d4 v1 v2 v3 v7))) v4 v5)) (oI v6 c0)) (ZB (dC (.bl uA)))
def fO:DS:=ZB (oE (oI v6 c0) (IA Qn (Ai v1 (Ai v2 (d4 v3 v4 v5 (oI v6 c2))))))
def fP:DS:=Ae (Bo (De (Ag (oA (Ag (IA Ac (d1 (IA Ed (d2 v0 c2))))) (Ag (JL v0 (u7 (cI 59)) (u7 (cI 62))))))) g7 Py) fO
def fQ:DS:=Ae (RF (Fv (Ao (IA O9 (d3 v6 (IA Ar (d1 v3)) (IA Ar (d1 (oI v1 c1))))))) (ZB (dC (.bl uA))) TF) fP
def fR:DS:=sL 6 (Ag (IA O3 (Ai v1 (d4 v2 (Ag (IA Gf (d1 v3))) (Ag (IA Gf (d1 v4))) v5)))) fQ
def fU:DS:=Ae (LC (Ag (IA O4 (d1 v0))) (Bp 5 (Ak g1 (Ak g2 (Ak g3 (Ak g4 (Ak g5 Bs))))))) fR
def Ky:FN:=Aw 1 7 fU
def Holds:Prop:=∀ns:List Int,ns.length<=63->∃G,Ky [.fl (ns.map D.int)] [.tab "Sending" "send_by"]=.ok (.bl u9) G
end _W
namespace _W
open PySem _L _D
seal QE QT QA QS RL QG RT QI PN QW QO
structure Txt (U:Ev):Prop extends Gx body IZ U where
 bm:OM U.base U.mg
def yh{K:za}{C m x qual:Str}{Ca f c P:vX}{st:vx}{fd:vK}(hN:zb K vP C=u7 (u7 (.ref Ca)))(hm:zd K (.ref Ca) m=u7 (u7 (.ref f)))(F:QL K x qual st f fd)(t:TabAt K C m c P):fd.code=.ref c:=by obtain⟨Ca',f',oc,od,fd',sl,e1,e2,e3,e4,_⟩:=t;rw[hN]at e1;cases e1;rw[hm]at e2;cases e2;obtain⟨oc2,od2,kV,doc,pm,an,VG,ct,QX,e5,lk,_⟩:=F.ex;rw[lk]at e3;cases e3;exact e4
section
seal Gp Qz dC Nb Bv Ai Ay IA Ag K8 UO Lx Bu Cy Sv Bb Fv Rw XA TH JL Nt Bk Ao JM dV J1 Ey Ar Gf Jf Hu Gd Df Ak ON Mu Bs Bp gV Et Ba De Hb Ci M9 Lz Do Ir K9 Qf Mg Hq Jb Af Qo Ji My Bq Hi Gy Ip Q9 Jk Jp IC VJ K4 LC Ja Td KD Cp Bo RF TF ZB Ae ZI
local macro_rules | `(tactic|trivial)=> `(tactic|first|refine' (_:String)|refine' (_:Str)|refine' (_:vX))
local macro_rules | `(tactic|trivial)=>pure (wR "QS _ _|_ (LC (Ag _) _):-bh ?|(Stmt.Assign (List.cons (Expr.Name .) List.nil) (Expr.ListComp .) .) _:-yY _ nd ? L ? l l|(Stmt.Assign (List.cons (Expr.Name .) List.nil) .) (LC _ (gV _)):-Ng _ nd ?|_ (KD _):-pq ?|_ (LC _ _):-V3 ? ?|_ (Cp _ _ _ _):-uO ? ? ? ? ?|_ (Bo _ _ _):-Ii PassesOwn.never rfl ? ? ?|_ (Ja _ _ _ _):-uD ? ? ? ?|_ (ZI _ _ _):-rE fuel PassesOwn.never ? ?|@px,@Qu#QE _ _|_ (dV _):.Hz _|(Expr.Subscript .) (XA _ _ _):-pQ ? ? ?|(Expr.Compare .) _:-oo ? ? ? (YL _)|(Expr.Call (Expr.Name .) .) (IA _ _):<pN ? rfl ? ? ?,<pO ? rfl ? ? ?,^yc ($ T) hr ?^yi yj yk ym yn yo yp yq yt yu yw yx yy yz zl zm zo zp zr zt zu AC AD AE AF AG AH AI AJ AK AL AM AN AO AQ|_ (Cy _ _ _):-rQ ? ? ? ? ?|_ (Ay _ _ _):-uN ? ? ? ?|(Expr.Name .) (dC (D.ty .)):-sG rfl ? ?|_ (JL _ _ _):-tJ ? ? ?|_ (Bv _ _ _ _ _ _):-yX ? L ? l l|(Expr.Name .) (dC _):<yZ rfl ?,<y0 rfl ?|(Expr.Call _ (List.cons .) .) (Bu _ _ _ _ _):^Zt (CT.N (T.ct 36)) (CT.cl (T.ct 36)) (MT.me (And.left ($ T))) (And.right ($ T)) (hr.mono d) (MT.b (And.left ($ T))) GH ? ?^AR AS AU AV AW AX AY,^Zt (CT.N (T.ct 11)) (CT.cl (T.ct 11)) (MT.me (And.left ($ T))) (And.right ($ T)) (hr.mono d) (MT.b (And.left ($ T))) GH ? ?^AZ A0 A3 A4 A5 A6|_ (Bu _ _ _ _ _):^uR (CT.N (T.ct 11)) (CT.cl (T.ct 11)) (MT.me (And.left ($ T))) (And.right ($ T)) (hr.mono d) (MT.b (And.left ($ T))) GH ?^A7 A8|_ (Lx _ _ _):-cX (CT.N (T.ct 11)) (CT.mK (T.ct 11)) (And.right (fV T)) (hr.mono d) rfl (CT.g (T.ct 11)) (MT.b (And.left (fV T))) GH ?,-cX (CT.N (T.ct 36)) (CT.mK (T.ct 36)) (And.right (fW T)) (hr.mono d) rfl (CT.g (T.ct 36)) (MT.b (And.left (fW T))) GH ?|.Tf,.aq,.om,.ao,@T3,@bg,@ou,@pL,@pM,@pH,@pF,@pG,@sF,@pI#QA _ _|.pJ,-pK ? ?#RL _ _|@Br,.S8,@I9#QG _ _|_ (gV _):.az _ nd|_ (Bp _ _):-pj rfl ?|_ (ON _ _):-pk ? ?#RT _ _|.pd,-ph ? ?#PN _ _|.bP,-rk ?#QT _ _|(Expr.Compare _ (List.cons _ List.nil) .) (Ao _):-Xg ? ? ? (YL _)|_ (Ao _):-ot ?|(Expr.BoolOp .) _:-RV ?|(Expr.Compare _ (List.cons _ (List.cons _ List.nil)) .) _:-oq ? ? ? ? ?|@pE#QI _ _ _|(Expr.Call _ (List.cons _ List.nil) .) (Ba IC _):-rD rfl ? ?|_ (Ba VJ _):-uc rfl ? ?|_ (Ba Et _):-tZ rfl ? ?|_ (Ba (Hb 2) _):-uC rfl ? ?|@rB#QW _ _|@pC,@pB,@Xj,@pA#QO _ _|.tH,@tI#GK|_ (gV _):.rY d|@r9#VV|.rZ,@r8#=QJ _ _|!P5#=GC _ _ _|!U3,!ui,!pR,!pU,!Q2,!pT,!L9,!L2,!sH,!pV,!ql,!T2,!qm,!P2,!uE,.L4 hr.units,.N4 hr.units#=LB _ _ _|.rG,.rH,.rT,=rN ?,=rL ?,=rM ?,=rV ?,=rW ?#=Eq _ none|.T.z#=Eq (bootBuiltins _) _|!sR,!sU,!sJ,!sQ,!sV,!sP,!sO,!sM,!sS,!sT#=Slot _ _ _|!PySem.F.slot_list_append,!PySem.F.slot_list_index,!PySem.F.slot_list_pop#=Eq (typeOf _) _|!PySem.F.type_list_append,!PySem.F.type_list_index,!PySem.F.type_list_pop#=MN _ _ _|!rO,!yW,!yV#=Eq _ (some _)|.T.gi,.T.gs#=HD _ _ _|.T.no#=JT _ _ _|!sE#*|.CT.N (T.ct 11),.CT.cl (T.ct 11),.CT.N (T.ct 36),.CT.cl (T.ct 36),.hr.mono d")
set_option hygiene false in
local macro_rules | `(tactic|exists $a)=> `(tactic|(have F:=T.fs $a;refine⟨F.1,Hk F.1.F F.2 λVG A outer s H E hr=>?_⟩;have nd:=F.2.nd;trivial))
set_option hygiene false in
local macro_rules | `(tactic|exists $a,$b)=> `(tactic|(have F:=T.ms $a $b;refine⟨F.1,Hk F.1.F F.2 λVG A outer s H E hr=>?_⟩;have nd:=F.2.nd;trivial))
variable{U:Ev}(T:Txt U)
include T
def yo:GO U (top 54) 1 Mi:=by exists 54
def yp:GO U (top 64) 1 J9:=by exists 64
def yq:GO U (top 55) 1 Q7:=by exists 55
def zl:GO U (top 65) 2 Ph:=by exists 65
def yt:GO U (top 59) 1 O2:=by have F:=T.fs 59;refine⟨F.1,Hk F.1.F F.2 λVG A outer s H E hr=>?_⟩;have nd:=F.2.nd;exact(Br (Ng 1 nd yb) (Br (Ii PassesOwn.never rfl (by trivial) (by trivial) (I9 (Ii PassesOwn.never rfl (by trivial) (by trivial) (I9 (V3 (by trivial) (dJ hr.units (Hz 1) (by trivial))))))) (by trivial)))
def AQ:GO U (top 66) 3 Qn:=by have F:=T.fs 66;refine⟨F.1,Hk F.1.F F.2 λVG A outer s H E hr=>?_⟩;have nd:=F.2.nd;exact(Br (by trivial) (Br (by trivial) (Br (Ii PassesOwn.never rfl (by trivial) (by trivial) (I9 (Ii PassesOwn.never rfl (by trivial) (by trivial) (Br (Ng 10 nd (T3 U3 (by trivial) (Zd hr.units (Hz 6) (by trivial) Tf ⟨rfl,rfl,rfl,rfl⟩))) (by trivial))))) (by trivial))))
def yk:GO U (top 39) 1 Ed:=by exists 39
def AO:GO U (top 58) 1 S6:=by exists 58
def zr:GO U (top 42) 1 Il:=by exists 42
def yj:GO U (top 41) 1 Dm:=by exists 41
def yu:GO U (top 43) 2 Ql:=by exists 43
def zm:GO U (top 44) 3 Nh:=by exists 44
def zt:GO U (top 45) 4 Iw:=by exists 45
def yi:GO U (top 46) 1 Cq:=by exists 46
def yw:GO U (top 47) 2 Jq:=by exists 47
def zo:GO U (top 48) 3 Jx:=by exists 48
def zp:GO U (top 49) 4 Np:=by
 have F:=T.fs 49;refine⟨F.1,Hk F.1.F F.2 λVG A outer s H E hr=>?_⟩;have nd:=F.2.nd
 exact(Br (by trivial) (Br (by trivial) (Br (by trivial) (Br (Ii PassesOwn.never rfl (by trivial) (by trivial) (Br (by trivial) (Br (by trivial) (Br (Qu (RV (Xj (by trivial) (Xj (Xg bX aq (Hz 4) (by with_unfolding_all rfl)) (by trivial)))) (by trivial) S8) (by trivial))))) (by trivial)))))
def zu:GO U (top 50) 5 Qa:=by exists 50
def yx:GO U (top 52) 2 Mh:=by exists 52
def AC:GO U (top 51) 2 Sh:=by exists 51
def AK:GO U (top 53) 6 O4:=by exists 53
def ym:GO U (top 61) 1 J7:=by exists 61
def AD:GO U (top 62) 2 Le:=by exists 62
def yy:GO U (top 60) 1 Lb:=by have F:=T.fs 60;refine⟨F.1,Hk F.1.F F.2 λVG A outer s H E hr=>?_⟩;have nd:=F.2.nd;exact(I9 (Qu (by trivial) (I9 (V3 (T3 U3 (Zd hr.units (Hz 0) (by trivial) Tf ⟨rfl,rfl,rfl,rfl⟩) (Hz 3)) (dJ hr.units (Hz 0) (by trivial)))) S8))
def AN:GO U (top 63) 3 Tw:=by have F:=T.fs 63;refine⟨F.1,Hk F.1.F F.2 λVG A outer s H E hr=>?_⟩;have nd:=F.2.nd;exact(Br (by trivial) (Br (by trivial) (Br (by trivial) (Br (Ii PassesOwn.never rfl (by trivial) (by trivial) (Br (by trivial) (Br (Ii PassesOwn.never rfl (by trivial) (by trivial) (Br (by trivial) (Br (Ng 11 nd (T3 U3 (by trivial) (Zd hr.units (Hz 4) (by trivial) Tf ⟨rfl,rfl,rfl,rfl⟩))) (by trivial)))) (by trivial)))) (by trivial)))))
def yn:GO U (top 40) 1 Ms:=by exists 40
def AE:GO U (top 56) 2 Ul:=by exists 56
def AM:GO U (top 57) 3 O9:=by exists 57
def AR:GM U body 36 1 1 Dy:=by exists 36,1
def AS:GM U body 36 2 2 H8:=by exists 36,2
def yz:GO U (top 26) 1 Qg:=by have F:=T.fs 26;refine⟨F.1,Hk F.1.F F.2 λVG A outer s H E hr=>?_⟩;have nd:=F.2.nd;exact(Br (by trivial) (I9 cJ))
def AF:GO U (top 27) 2 Ol:=by exists 27
def AU:GM U body 36 3 3 Ha:=by exists 36,3
def AX:GM U body 36 6 4 Lq:=by exists 36,6
def AW:GM U body 36 5 4 Om:=by exists 36,5
def AV:GM U body 36 4 4 Ou:=by exists 36,4
def fW:GM U body 36 0 5 Qj:=by exists 36,0
def AG:GO U (top 37) 1 Rn:=by exists 37
def AY:GM U body 36 7 2 Qe:=by have F:=T.ms 36 7;refine⟨F.1,Hk F.1.F F.2 λVG A outer s H E hr=>?_⟩;have nd:=F.2.nd;exact(Br (by trivial) (Br (by trivial) (Br (by trivial) (Br (by trivial) (Br (by trivial) (Br (Ii PassesOwn.never rfl (dO rfl T.z (by trivial)) (by trivial) (by trivial)) (by trivial)))))))
def AZ:GM U body 11 1 1 Hf:=by exists 11,1
def fV:GM U body 11 0 2 Uk:=by exists 11,0
def A0:GM U body 11 5 1 Ot:=by exists 11,5
def A7:GM U body 11 4 2 J0:=by exists 11,4
def A8:GM U body 11 8 1 Kh:=by exists 11,8
def A6:GM U body 11 2 1 Kv:=by exists 11,2
def A3:GM U body 11 3 1 Oc:=by exists 11,3
def A4:GM U body 11 7 1 Nu:=by exists 11,7
def A5:GM U body 11 6 5 O7:=by refine⟨(T.ms 11 6).1,xt (T.ms 11 6).1.F Wq λVG A outer s H E hcd hr=>?_⟩;have nd:=Wq.nd;exact(Br (Ng 2 Wq.nd (bg (xr (k:=1) (C:="Sending") (m:="send_by") (x:="node") rfl rfl T.z rfl T.z (by trivial) (T6 (dn:=(Bt (Dg body 11 6)).names) (N0:=dR) (N:=["node","self","ways"]) (nt:=1) (caps:=[0,1])) rfl rfl rfl rfl (λ_ _ _ _ _=>rfl) rfl rfl T.bm (λc P t=>hcd.symm.trans (yh (T.ct 11).N (T.ms 11 6).1.me.at_ (T.ms 11 6).1.F t)) (hr.mono (by decide)) (λf c A s H hr=>(by trivial))))) (by trivial))
def AH:GO U (top 10) 1 Tu:=by
 have F:=T.fs 10;refine⟨F.1,Hk F.1.F F.2 λVG A outer s H E hr=>?_⟩;have nd:=F.2.nd
 exact(Br (by trivial) (I9 (Ii PassesOwn.never rfl (by trivial) (by trivial) (I9 (Qu (Xg bX (Hz 3) (Hz 2) (by with_unfolding_all rfl)) (I9 cJ) S8)))))
def AJ:GO U (top 9) 6 R5:=by exists 9
def AI:GO U (top 35) 1 Pk:=by exists 35
def AL:GO U (top 34) 7 O3:=by
 refine⟨(T.fs 34).1,Hk (T.fs 34).1.F Xi λVG A outer s H E hr=>?_⟩;have nd:=Xi.nd
 exact(Br (by trivial) (Br (by trivial) (Br (by trivial) (Br (by trivial) (Br (bh (bT 11 rfl Xi.nd (T6 (dn:=(Bt (top 34)).names) (N0:=dS) (N:=["first","prices","many"]) (nt:=1) (caps:=[9,10])) (dO rfl T.z (by trivial)) (λC s₀ H₀ ex=>(az 0 (show(["first","prices","many"]:List Str).Nodup by decide +kernel))) (by trivial) (λC s₀ H₀ ex=>bP) (λC s₀ H₀ ex=>(by trivial)))) (by trivial))))))
def A9:GO U (top 67) 8 Ky:=by exists 67
end
def Ap{U:Ev}{h:Heap}(X:U.K.In h)(G:h.Ns vP U.mg)(S:HF U.K asks)(To:OM U.base U.mg):Txt U:=⟨⟨⟨h,X,G⟩,Vj S⟩,To⟩
def all_mk{l:vg}{w:vA}{K:za}{h:Heap}{mg:Str->Option vk}{fa Zm T0:vX}(X:K.In h)(G:h.Ns vP mg)(ML:mg "law"=u7 (.ref fa))(tb1:(Bj K (Dz K (Ax K "Sending") "send_by")).code=.ref Zm)(fX:zh K Zm T0=u9)(As:qi K=u9)(S:HF K asks):
  ∃(fd:vK)(c:vX),(∀(s:vj)(v:vk),BindsTo s fd ⟨[v],[]⟩ [("_law_script",v)])/\zh K c T0=u9/\qi K=u9/\TabAt K "Sending" "send_by" c T0/\∀base:Heap,K.In base->base.Ns vP mg->OM base mg->JD l.prog w K mg base JK 8 fa fd ["_law_script"] (lF K Ky):=by
 have A:Gx body IZ ⟨l.prog,w,K,mg,h⟩:=⟨⟨h,X,G⟩,Vj S⟩;have F:=A.fs 67;have eL:mg "law"=u7 (.ref (Ax K "law")):=F.1.m;obtain rfl:fa=Ax K "law":=by rw[ML]at eL;cases eL;rfl
 have Au:(Ask.cl "Sending").GF K:=A.at 11;have a:(Ask.mt "Sending" "send_by" "Sending.send_by" (Dg body 11 6)).GF K:=A.Lo 11 6;obtain⟨a1,a2,a3⟩:=a;have l1:=a3.1;rw[tb1]at l1;exact⟨_,Zm,λs v=>yT F.1.F,fX,As,⟨_,_,_,_,_,_,Au.1,a1,l1,rfl,fX⟩,λbase _ _ To=>(A9 (Ap (U:=⟨l.prog,w,K,mg,base⟩) X G S To)).2⟩
def walk{l:vg}{q:vq}{loose:List Str}{XP:(Str->Option vk)->Heap->Prop}{YP:vA->Heap->Prop}{d:DefRec}{K:vA->za}{T0:vA->vX}(hn:l.most=u7 63)(YQ:d.params.defaults=[])(HH:Holds)
  (hY:∀(w:vA)(h:Heap),YP w h->(K w).In h/\h.get? (T0 w)=u7 (qh #[]))
  (F:∀(w:vA)(mg:Str->Option vk)(fa:vX)(h:Heap),(K w).In h->h.Ns vP mg->mg d.name=u7 (.ref fa)->
   ∃(fd:vK)(c:vX),(∀(s:vj)(u:vk),BindsTo s fd ⟨[u],[]⟩ [("_law_script",u)])/\zh (K w) c (T0 w)=u9/\qi (K w)=u9/\TabAt (K w) "Sending" "send_by" c (T0 w)/\∀base:Heap,(K w).In base->base.Ns vP mg->OM base mg->JD l.prog w (K w) mg base JK 8 fa fd ["_law_script"] (lF (K w) Ky)):
  u1 q loose XP YP l.row.toRowW d [] (λf vs=>qf f vs):=
 yA (n:=63) (k:=8) (x:="_law_script") (sp:=λw=>lF (K w) Ky) hn (by decide) YQ ⟨rfl,by decide,by decide⟩ hY λw mg fa h k1 k2 k3=>by
  obtain⟨fd,c,hb,hC,hK,tA,hF⟩:=F w mg fa h k1 k2 k3;refine⟨fd,c,hb,hC,hK,λH a ns hl hO hT hS=>?_,hF⟩;obtain⟨G,hG⟩:=HH ns hl;refine⟨⟨K w,1,λ_=>T0 w,H⟩,[.tab "Sending" "send_by"],[.fl (ns.map D.int)],rfl,rfl,⟨rfl,λi j h1 h2 _=>?_,λi o h=>?_,λi h=>?_⟩,JA.cons ⟨a,ns.map V.int,rfl,?_,JA.ints ns⟩ JA.nil,?_⟩
  .have L6:i<1:=h1;have B?:j<1:=h2;lia
  .cases i with
   |zero=>
    have h':o=.tab "Sending" "send_by":=by simpa using h.symm
    subst h';exact⟨c,T0 w,tA,#[],hT,trivial,λpos cv z=>by cases z⟩
   |succ i=>simp at h
  .show H (T0 w)≠u8;rw[hT];intro z;cases z
  .rcases hS with(hS|hS)|hS
   .rcases hO a with z|⟨o,xs,z⟩|⟨_,z⟩
    .rw[z]at hS;cases hS
    .rw[z]at hS;cases hS
    .rw[z]at hS;cases hS
   .exact .inl hS
   .exact .inr ⟨⟨ns,rfl⟩,hS⟩
  .rw[hG];exact λb v _ _ r=>r
end _W
namespace _W
open PySem _L _D
variable{G L Γ H M:DH}{A o:DO}{ds NS:List D}{a m n i w u l k q j T w':Nat}{f g s F:Nat->Int}{c x wide pay e:Int}{xs sc r y ly P:List Int}{lk:Nat->List Nat}{b:DS}{S:PB}{s1 s2 s3 s0:Option D}{te:DE}{d:D}{ns:List Str}{HA cm rs fl:List (List Int)}
noncomputable abbrev zI(i:Int):Option D:=u7 (.int i)
noncomputable abbrev zR(i:Nat):Option D:=u7 (.ref i)
noncomputable abbrev zF(xs:List D):Option D:=u7 (.fl xs)
noncomputable abbrev zT(xs:List D):Option D:=u7 (.tup xs)
noncomputable abbrev zS(x:Str):Option D:=u7 (.str x)
noncomputable abbrev zB(b:Bool):Option D:=u7 (.bl b)
section
variable{S:PB}{G:DH}{d v:D}{o:D->D->DH->R D}{t:DE}{r:DA}{a b c e f g h i j k l m n:Option D}
@[simp high]theorem rV0:dV 0 (u7 d::S) G=.ok d G:=id rfl
@[simp high]theorem rV1:dV 1 (a::u7 d::S) G=.ok d G:=id rfl
@[simp high]theorem rV2:dV 2 (a::b::u7 d::S) G=.ok d G:=id rfl
@[simp high]theorem rV3:dV 3 (a::b::c::u7 d::S) G=.ok d G:=id rfl
@[simp high]theorem rV4:dV 4 (a::b::c::e::u7 d::S) G=.ok d G:=id rfl
@[simp high]theorem rV5:dV 5 (a::b::c::e::f::u7 d::S) G=.ok d G:=id rfl
@[simp high]theorem rV6:dV 6 (a::b::c::e::f::g::u7 d::S) G=.ok d G:=id rfl
@[simp high]theorem rV7:dV 7 (a::b::c::e::f::g::h::u7 d::S) G=.ok d G:=id rfl
@[simp high]theorem rV8:dV 8 (a::b::c::e::f::g::h::i::u7 d::S) G=.ok d G:=id rfl
@[simp high]theorem rV9:dV 9 (a::b::c::e::f::g::h::i::j::u7 d::S) G=.ok d G:=id rfl
@[simp high]theorem rV10:dV 10 (a::b::c::e::f::g::h::i::j::k::u7 d::S) G=.ok d G:=id rfl
@[simp high]theorem rV12:dV 12 (a::b::c::e::f::g::h::i::j::k::l::m::u7 d::S) G=.ok d G:=id rfl
@[simp high]theorem rV13:dV 13 (a::b::c::e::f::g::h::i::j::k::l::m::n::u7 d::S) G=.ok d G:=id rfl
@[simp 10002]theorem rOC0:XA o (dV 0) (dC v) (u7 d::S) G=o d v G:=id rfl
@[simp 10002]theorem rOC1:XA o (dV 1) (dC v) (a::u7 d::S) G=o d v G:=id rfl
@[simp 10002]theorem rOC2:XA o (dV 2) (dC v) (a::b::u7 d::S) G=o d v G:=id rfl
@[simp 10002]theorem rOC3:XA o (dV 3) (dC v) (a::b::c::u7 d::S) G=o d v G:=id rfl
@[simp 10002]theorem rOC4:XA o (dV 4) (dC v) (a::b::c::e::u7 d::S) G=o d v G:=id rfl
@[simp 10002]theorem rOC5:XA o (dV 5) (dC v) (a::b::c::e::f::u7 d::S) G=o d v G:=id rfl
@[simp 10002]theorem rOC6:XA o (dV 6) (dC v) (a::b::c::e::f::g::u7 d::S) G=o d v G:=id rfl
@[simp 10002]theorem rOC7:XA o (dV 7) (dC v) (a::b::c::e::f::g::h::u7 d::S) G=o d v G:=id rfl
@[simp 10002]theorem rOC8:XA o (dV 8) (dC v) (a::b::c::e::f::g::h::i::u7 d::S) G=o d v G:=id rfl
@[simp 10002]theorem rOC9:XA o (dV 9) (dC v) (a::b::c::e::f::g::h::i::j::u7 d::S) G=o d v G:=id rfl
@[simp 10002]theorem J?:XA o (dV 10) (dC v) (a::b::c::e::f::g::h::i::j::k::u7 d::S) G=o d v G:=id rfl
@[simp 10002]theorem K?:XA o (dV 12) (dC v) (a::b::c::e::f::g::h::i::j::k::l::m::u7 d::S) G=o d v G:=id rfl
@[simp high]theorem rOV0:XA o (dV 0) t (u7 d::S) G=(t (u7 d::S) G).bind λy p=>o d y p:=id rfl
@[simp high]theorem rOV1:XA o (dV 1) t (a::u7 d::S) G=(t (a::u7 d::S) G).bind λy p=>o d y p:=id rfl
@[simp high]theorem rOV2:XA o (dV 2) t (a::b::u7 d::S) G=(t (a::b::u7 d::S) G).bind λy p=>o d y p:=id rfl
@[simp high]theorem rOV3:XA o (dV 3) t (a::b::c::u7 d::S) G=(t (a::b::c::u7 d::S) G).bind λy p=>o d y p:=id rfl
@[simp high]theorem rOV4:XA o (dV 4) t (a::b::c::e::u7 d::S) G=(t (a::b::c::e::u7 d::S) G).bind λy p=>o d y p:=id rfl
@[simp high]theorem rOV5:XA o (dV 5) t (a::b::c::e::f::u7 d::S) G=(t (a::b::c::e::f::u7 d::S) G).bind λy p=>o d y p:=id rfl
@[simp high]theorem rOV6:XA o (dV 6) t (a::b::c::e::f::g::u7 d::S) G=(t (a::b::c::e::f::g::u7 d::S) G).bind λy p=>o d y p:=id rfl
@[simp high]theorem rOV7:XA o (dV 7) t (a::b::c::e::f::g::h::u7 d::S) G=(t (a::b::c::e::f::g::h::u7 d::S) G).bind λy p=>o d y p:=id rfl
@[simp high]theorem rOV8:XA o (dV 8) t (a::b::c::e::f::g::h::i::u7 d::S) G=(t (a::b::c::e::f::g::h::i::u7 d::S) G).bind λy p=>o d y p:=id rfl
@[simp high]theorem rOV9:XA o (dV 9) t (a::b::c::e::f::g::h::i::j::u7 d::S) G=(t (a::b::c::e::f::g::h::i::j::u7 d::S) G).bind λy p=>o d y p:=id rfl
@[simp high]theorem L?:XA o (dV 10) t (a::b::c::e::f::g::h::i::j::k::u7 d::S) G=(t (a::b::c::e::f::g::h::i::j::k::u7 d::S) G).bind λy p=>o d y p:=id rfl
@[simp high]theorem M?:XA o (dV 11) t (a::b::c::e::f::g::h::i::j::k::l::u7 d::S) G=(t (a::b::c::e::f::g::h::i::j::k::l::u7 d::S) G).bind λy p=>o d y p:=id rfl
@[simp high]theorem N?:XA o (dV 12) t (a::b::c::e::f::g::h::i::j::k::l::m::u7 d::S) G=(t (a::b::c::e::f::g::h::i::j::k::l::m::u7 d::S) G).bind λy p=>o d y p:=id rfl
@[simp high]theorem rCV0:Ai (dV 0) r (u7 d::S) G=(r (u7 d::S) G).bind λxs p=>.ok (d::xs) p:=id rfl
@[simp high]theorem rCV1:Ai (dV 1) r (a::u7 d::S) G=(r (a::u7 d::S) G).bind λxs p=>.ok (d::xs) p:=id rfl
@[simp high]theorem rCV2:Ai (dV 2) r (a::b::u7 d::S) G=(r (a::b::u7 d::S) G).bind λxs p=>.ok (d::xs) p:=id rfl
@[simp high]theorem rCV3:Ai (dV 3) r (a::b::c::u7 d::S) G=(r (a::b::c::u7 d::S) G).bind λxs p=>.ok (d::xs) p:=id rfl
@[simp high]theorem rCV4:Ai (dV 4) r (a::b::c::e::u7 d::S) G=(r (a::b::c::e::u7 d::S) G).bind λxs p=>.ok (d::xs) p:=id rfl
@[simp high]theorem rCV5:Ai (dV 5) r (a::b::c::e::f::u7 d::S) G=(r (a::b::c::e::f::u7 d::S) G).bind λxs p=>.ok (d::xs) p:=id rfl
@[simp high]theorem rCV6:Ai (dV 6) r (a::b::c::e::f::g::u7 d::S) G=(r (a::b::c::e::f::g::u7 d::S) G).bind λxs p=>.ok (d::xs) p:=id rfl
@[simp high]theorem rCV7:Ai (dV 7) r (a::b::c::e::f::g::h::u7 d::S) G=(r (a::b::c::e::f::g::h::u7 d::S) G).bind λxs p=>.ok (d::xs) p:=id rfl
@[simp high]theorem rCV8:Ai (dV 8) r (a::b::c::e::f::g::h::i::u7 d::S) G=(r (a::b::c::e::f::g::h::i::u7 d::S) G).bind λxs p=>.ok (d::xs) p:=id rfl
@[simp high]theorem rCV9:Ai (dV 9) r (a::b::c::e::f::g::h::i::j::u7 d::S) G=(r (a::b::c::e::f::g::h::i::j::u7 d::S) G).bind λxs p=>.ok (d::xs) p:=id rfl
@[simp high]theorem O?:Ai (dV 10) r (a::b::c::e::f::g::h::i::j::k::u7 d::S) G=(r (a::b::c::e::f::g::h::i::j::k::u7 d::S) G).bind λxs p=>.ok (d::xs) p:=id rfl
@[simp high]theorem P?:Ai (dV 11) r (a::b::c::e::f::g::h::i::j::k::l::u7 d::S) G=(r (a::b::c::e::f::g::h::i::j::k::l::u7 d::S) G).bind λxs p=>.ok (d::xs) p:=id rfl
@[simp high]theorem Q?:Ai (dV 12) r (a::b::c::e::f::g::h::i::j::k::l::m::u7 d::S) G=(r (a::b::c::e::f::g::h::i::j::k::l::m::u7 d::S) G).bind λxs p=>.ok (d::xs) p:=id rfl
@[simp high]theorem R?:Ai (dV 13) r (a::b::c::e::f::g::h::i::j::k::l::m::n::u7 d::S) G=(r (a::b::c::e::f::g::h::i::j::k::l::m::n::u7 d::S) G).bind λxs p=>.ok (d::xs) p:=id rfl
@[simp high]theorem rCC:Ai (dC v) r S G=(r S G).bind λxs p=>.ok (v::xs) p:=id rfl
@[simp 10001]theorem rOtC:XA o t (dC v) S G=(t S G).bind λx p=>o x v p:=id rfl
@[simp 10001]theorem rOCt:XA o (dC v) t S G=(t S G).bind λy p=>o v y p:=id rfl
end
noncomputable def cellAt(ns:List Int)(k:Int):Int:=ns.getD k.toNat 0
def Jj{ns:List Int}{k:Int}(hk:0<=k):Ed [.fl (ns.map D.int),.int k] G=.ok (.int (cellAt ns k)) G:=by
 unfold Ed dc cellAt;rw[Aj];by_cases h:k<lN ns
 .simp[h];rw[Ce (k:=k.toNat) (by lia) (by rw[zj,zJ (by lia)];rfl)];simp[Bc,zJ (show k.toNat<lN ns by lia)]
 simp[h,Bc,zC (show lN ns<=k.toNat by lia)]
def fY(h:MA (lN G+1) ds=u9):freeze (G++[A]) (.ok (.ref (lN G+1)) (G++A:: .lst ds::L))=.ok (.fl ds) (G++[A]):=by have:=Be (G:=G++[A]) (L:=L) (by simpa using h);simpa using this
def Yo(h:MA (lN G+1) ds=u9):tidy (G++[A]) (.ok (.ref (lN G+1)) (G++A:: .lst ds::L))=.ok (.ref (lN G+1)) (G++[A,.lst ds]):=by have:=Dt (G:=G++[A]) (L:=L) (by simpa using h);simpa using this
def BB{B:DO}(h:MA (lN G+2) ds=u9):freeze (G++[A,B]) (.ok (.ref (lN G+2)) (G++A::B:: .lst ds::L))=.ok (.fl ds) (G++[A,B]):=by have:=Be (G:=G++[A,B]) (L:=L) (by simpa using h);simpa using this
def fZ{B:DO}(h:MA (lN G+2) ds=u9):tidy (G++[A,B]) (.ok (.ref (lN G+2)) (G++A::B:: .lst ds::L))=.ok (.ref (lN G+2)) (G++[A,B,.lst ds]):=by have:=Dt (G:=G++[A,B]) (L:=L) (by simpa using h);simpa using this
def f6{p:Type}{xs:List p}(h:a<=lN xs):cutD xs u8 (u7 (a:Int))=xs.take a:=by
 have:=(Ju (lN xs) (a:Int)).1;have e:HT.JB (lN xs) (lN xs) (u7 (a:Int))=a:=by lia
 unfold cutD;rw[e];simp[HT.JB]
def BC{p:Type}{xs:List p}(h:a<=lN xs):cutD xs (u7 (a:Int)) u8=xs.drop a:=by
 have:=(Ju (lN xs) (a:Int)).2;have e:HT.JB (lN xs) 0 (u7 (a:Int))=a:=by lia
 unfold cutD;rw[e];simp[HT.JB];exact xA (by simp)
noncomputable def Ab:Nat->(Nat->Int)->Int
 |0,_=>0
 |n+1,f=>Ab n f+f n
theorem Cu:∀{n:Nat},(∀k,k<n->f k=g k)->Ab n f=Ab n g
 |0,_=>rfl
 |n+1,h=>by show Ab n f+f n=Ab n g+g n;rw[Cu λk hk=>h k (by lia),h n (by lia)]
theorem Ep:∀(n:Nat),Ab n (λk=>f k+g k)=Ab n f+Ab n g
 |0=>rfl
 |n+1=>by show Ab n (λk=>f k+g k)+(f n+g n)=_;rw[Ep n];show _=(Ab n f+f n)+(Ab n g+g n);lia
theorem Gw:∀(n:Nat),Ab n (λ_=>0)=0
 |0=>rfl
 |n+1=>by
  show Ab n (λ_=>0)+0=0;rw[Gw n]
  rfl
theorem W7:∀(n:Nat),Ab n (λk=>c*f k)=c*Ab n f
 |0=>by show 0=c*0;rw[jW]
 |n+1=>by show Ab n (λk=>c*f k)+c*f n=c*(Ab n f+f n);rw[W7 n,xE]
theorem Fb:∀{n:Nat},(∀k,k<n->f k<=g k)->Ab n f<=Ab n g
 |0,_=>qY _
 |n+1,h=>by
  show Ab n f+f n<=Ab n g+g n;have q:=Fb (n:=n) λk hk=>h k (by lia)
  have p:=h n (by lia);lia
theorem Ho{x:Nat->Int}:∀{n u:Nat},u<n->Ab n (λk=>if k=u then x k else 0)=x u
 |0,u,h=>by lia
 |n+1,u,h=>by
  show Ab n (λk=>if k=u then x k else 0)+(if n=u then x n else 0)=x u;by_cases e:n=u
  .subst e;rw[if_pos rfl,Cu λk hk=>if_neg (by lia),Gw];lia
  rw[if_neg e,Ho (by lia)];lia
theorem Vq{x:Nat->Nat->Int}:∀(n:Nat),Ab n (λu=>Ab m λi=>x u i)=Ab m λi=>Ab n λu=>x u i
 |0=>by
  show 0=Ab m λi=>0
  rw[Gw]
 |n+1=>by
  show Ab n (λu=>Ab m λi=>x u i)+Ab m (λi=>x n i)=Ab m λi=>Ab n (λu=>x u i)+x n i
  rw[Vq n,Ep]
structure ZA where
 fr:Nat
 to:Nat
 mo:Option Int
 ga:Int
variable{as:List ZA}
def Cj(a:Nat->ZA)(m:Nat)(f:Nat->Int)(u:Nat):Int:=Ab m λi=>if(a i).fr=u then f i else 0
def UN(a:Nat->ZA)(m:Nat)(f:Nat->Int)(u:Nat):Int:=Ab m λi=>if(a i).to=u then f i else 0
structure MI (n m:Nat) (a:Nat->ZA) (s f:Nat->Int):Prop where
 nn:∀i,i<m->0<=f i
 le:∀i b,i<m->(a i).mo=u7 b->f i<=b
 HX:∀u,u<n->Cj a m f u=s u+UN a m f u
structure VM (m:Nat) (a:Nat->ZA) (f p:Nat->Int):Prop where
 more:∀i,i<m->(∀b,(a i).mo=u7 b->f i<b)->(a i).ga+p (a i).to<=p (a i).fr
 WM:∀i,i<m->0<f i->p (a i).fr<=(a i).ga+p (a i).to
def Hm(a:Nat->ZA)(m:Nat)(f:Nat->Int):Int:=Ab m λi=>f i*(a i).ga
def f7{q:Nat->Nat}{p:Nat->Int}(h:∀i,i<m->q i<n):Ab m (λi=>f i*p (q i))=Ab n λu=>p u*Ab m λi=>if q i=u then f i else 0:=by
 have e:(λu=>p u*Ab m λi=>if q i=u then f i else 0)=λu=>Ab m λi=>if q i=u then f i*p (q i)else 0:=by
  funext u;rw[<-W7];refine Cu λi _=>?_
  by_cases e:q i=u
  .rw[if_pos e,if_pos e,e,xS]
  rw[if_neg e,if_neg e,jW]
 rw[e,Vq];refine Cu λi w=>?_
 have s:(λu=>if q i=u then f i*p (q i)else 0)=λu=>if u=q i then f i*p (q i)else 0:=by
  funext u;by_cases e:q i=u
  .rw[if_pos e,if_pos e.symm]
  rw[if_neg e,if_neg λz=>e z.symm]
 rw[s];exact(Ho (x:=λ_=>f i*p (q i)) (h i w)).symm
def f9{a:Nat->ZA}{p:Nat->Int}(hp:p n=0)(x:∀i,i<m->(a i).fr<n/\(a i).to<=n)(F:MI n m a s f):Ab m (λi=>f i*p (a i).fr)-Ab m (λi=>f i*p (a i).to)=Ab n λu=>p u*s u:=by
 have C:=f7 (q:=λi=>(a i).to) (f:=f) (p:=p) (n:=n+1) λi w=>by have:=(x i w).2;lia
 have A:Ab (n+1) (λu=>p u*Ab m λi=>if(a i).to=u then f i else 0)=Ab n (λu=>p u*UN a m f u):=by
  show Ab n _+p n*_=_;rw[hp,xT,jK]
  rfl
 have B:Ab n (λu=>p u*Cj a m f u)=Ab n (λu=>p u*s u)+Ab n (λu=>p u*UN a m f u):=by
  rw[<-Ep];refine Cu λu y=>?_
  rw[F.HX u y,xE]
 have z:Ab m (λi=>f i*p (a i).fr)=Ab n (λu=>p u*Cj a m f u):=(f7 (q:=λi=>(a i).fr) (f:=f) (p:=p) (n:=n) (m:=m) λi w=>(x i w).1);lia
def most{a:Nat->ZA}{p:Nat->Int}(hp:p n=0)(K:∀i,i<m->(a i).fr<n/\(a i).to<=n)(F:MI n m a s f)(S:VM m a f p)(H:MI n m a s g):Hm a m g<=Hm a m f:=by
 have e:∀x:Nat->Int,MI n m a s x->Hm a m x=Ab m (λi=>x i*((a i).ga+p (a i).to-p (a i).fr))+Ab n λu=>p u*s u:=λx X=>by
  have B:=f9 hp K X;have I:Ab m (λi=>x i*((a i).ga+p (a i).to-p (a i).fr))+Ab m (λi=>x i*p (a i).fr)=Hm a m x+Ab m (λi=>x i*p (a i).to):=by
   rw[<-Ep];unfold Hm;rw[<-Ep];refine Cu λi _=>?_
   rw[Int.mul_sub,xE];lia
  lia
 rw [e g H,e f F];have:Ab m (λi=>g i*((a i).ga+p (a i).to-p (a i).fr))<=Ab m (λi=>f i*((a i).ga+p (a i).to-p (a i).fr)):=Fb λi q=>by
  generalize M:(a i).ga+p (a i).to-p (a i).fr=r;rcases Int.lt_trichotomy r 0 with z|z|z
  .have J:f i=0:=by have B:=F.nn i q;have I:=S.WM i q;lia
   rw[J,xT];have C:=H.nn i q;exact Int.mul_nonpos_of_nonneg_of_nonpos C (by lia)
  .rw[z,jW,jW];exact qY _
  have y:∃b,(a i).mo=u7 b/\b<=f i:=by
   cases E:(a i).mo with
   |none=>
    have:=S.more i q λb y=>by rw[E]at y;cases y
    lia
   |some b=>
    refine⟨b,rfl,Int.not_lt.mp λA=>?_⟩;have:=S.more i q λL w=>by rw[E]at w;cases w;exact A
    lia
  obtain⟨b,B,I⟩:=y;have C:=H.le i b q B;exact q0 (by lia) (by lia)
 lia
inductive Way (m:Nat) (a:Nat->ZA) (f:Nat->Int):Nat->Nat->Int->Prop
 |here (u:Nat):Way m a f u u 0
 |on {i v:Nat} {w:Int}:i<m->(∀b,(a i).mo=u7 b->f i<b)->Way m a f (a i).to v w->Way m a f (a i).fr v ((a i).ga+w)
 |back {i v:Nat} {w:Int}:i<m->0<f i->Way m a f (a i).fr v w->Way m a f (a i).to v (w-(a i).ga)
def bump(f:Nat->Int)(i:Nat)(c:Int):Nat->Int:=λk=>if k=i then f k+c else f k
def fc{q:Nat->Nat}:∀{m:Nat},i<m->Ab m (λk=>if q k=w then bump f i c k else 0)=Ab m (λk=>if q k=w then f k else 0)+(if q i=w then c else 0):=λ{m}hi=>by
 have e:(λk=>if q k=w then bump f i c k else 0)=λk=>(if q k=w then f k else 0)+(if k=i then(λk=>if q k=w then c else 0) k else 0):=by
  funext k;unfold bump;by_cases p:k=i
  .subst p
   by_cases s:q k=w<;>simp[s]
  simp[p]
 rw[e,Ep,Ho hi]
inductive TW (m:Nat) (a:Nat->ZA) (f d:Nat->Int) (n:Nat):Nat->Nat->Prop
 |here:TW m a f d n 0 n
 |on {i k:Nat}:i<m->(∀b,(a i).mo=u7 b->f i<b)->d (a i).fr=(a i).ga+d (a i).to->TW m a f d n k (a i).to->TW m a f d n (k+1) (a i).fr
 |back {i k:Nat}:i<m->0<f i->d (a i).fr=(a i).ga+d (a i).to->TW m a f d n k (a i).fr->TW m a f d n (k+1) (a i).to
def ex(a:Nat->ZA)(m:Nat)(f:Nat->Int)(w:Nat):Int:=Cj a m f w-UN a m f w
def BD{a:Nat->ZA}(hi:i<m):ex a m (bump f i c) w=ex a m f w+(if(a i).fr=w then c else 0)-(if(a i).to=w then c else 0):=by unfold ex Cj UN;rw[fc hi,fc hi];lia
noncomputable def WA:Option Int->D
 |none=>.LA
 |some b=>.int b
def KB(x:ZA):D:=.tup [.int x.fr,.int x.to,WA x.mo,.int x.ga]
@[simp]theorem BE{o:Option Int}:TB n (WA o)=u9:=by cases o<;>rfl
@[simp]theorem BF{x:ZA}:TB n (KB x)=u9:=by simp[KB]
def Di:MA m (xs.map D.int)=u9:=Ek λ_ _=>rfl
structure MB (n:Nat) (x:ZA):Prop where
 lt:x.fr<n
 up:x.fr<x.to
 le:x.to<=n
 mo:∀b,x.mo=u7 b->0<=b
 ga: -1000<=x.ga/\x.ga<=1000
def IX{i k:Int}(h:0<k)(p:k<1000000):Ir (.int i) (.int k) G=.ok (.int (i/k)) G:=by obtain⟨n,rfl⟩:=Int.eq_ofNat_of_zero_le (xR h);exact sj (by lia) (log2_small (Nat.lt_trans (show n<1000000 by lia) (by decide)))
structure IF (n:Nat) (as:List ZA) (s:List Int):Prop where
 n1:1<=n
 n2:n<=30
 len:lN as<=80
 RG:∀x∈as,MB n x
 way:∀k,k<n->∃x∈as,x.fr=k/\x.mo=u8
 sl:lN s=n
 sn:∀x∈s,0<=x
 sb:∀x∈s,x<10^40
noncomputable def Am(as:List ZA):Nat->ZA:=λi=>as.getD i ⟨0,0,u8,0⟩
noncomputable def Aa(xs:List Int):Nat->Int:=λi=>xs.getD i 0
structure MD (n:Nat) (as:List ZA) (s:List Int) (e:Int) (f p:List Int):Prop where
 lf:lN f=lN as
 lp:lN p=n
 fe:MI n (lN as) (Am as) (Aa s) (Aa f)
 sl:VM (lN as) (Am as) (Aa f) (Aa p)
 ea:e=Hm (Am as) (lN as) (Aa f)
 tw:∀u,u<n->∃k,TW (lN as) (Am as) (Aa f) (Aa p) n k u
 pb:∀v∈p,-1000000000<=v/\v<=1000000000
def fh{i:Int}(G:DH):Ms [.int i] G=.ok (.bl u9) G:=by unfold Ms eO;rw[Aj];simp[Bc,GJ]
def Yp(h:i<lN as):Am as i=as[i]:=by
 unfold Am;rw[zY,zJ h]
 rfl
def Gh(h:i<lN xs):Aa xs i=xs[i]:=by
 unfold Aa;rw[zY,zJ h]
 rfl
def H9(h:i<lN xs):MC (xs.map D.int) (i:Int)=zI (Aa xs i):=Ce (k:=i) (by lia) (by rw[zj,zJ h,Gh h];rfl)
def MB.of(h:∀x∈as,MB n x)(hi:i<lN as):MB n (Am as i):=by rw[Yp hi];exact h _ (qK hi)
noncomputable def gP(P:List (Option Int))(u:Nat):Option Int:=P.getD u u8
def dP(P:List (Option Int))(u:Nat):Int:=(gP P u).getD 0
def N7{P:List (Option Int)}{x:Option Int}(a:u<lN P):gP (P.set u x) w=if w=u then x else gP P w:=by
 unfold gP;simp[zY];by_cases e:w=u
 .subst e;rw[qZ a,if_pos rfl]
  rfl
 rw[zw λz=>e z.symm,if_neg e]
structure OC where
 n:Nat
 q:Nat
 fr:Nat->Nat
 to:Nat->Nat
 wo:Nat->Int
structure OC.Ok (N:OC):Prop where
 fr:∀l,l<N.q->N.fr l<=N.n
 to:∀l,l<N.q->N.to l<=N.n
 ne:∀l,l<N.q->N.fr l≠N.to l
 wb:∀l,l<N.q-> -40000<=N.wo l
 wu:∀l,l<N.q->N.wo l<=40000
def OC.Way(N:OC)(rm:Nat->Int):Prop:=∀u,u<N.n->∃l,l<N.q/\N.fr l=u/\u<N.to l/\0<rm l
def OC.PK(N:OC)(rm W:Nat->Int):Prop:=∀l,l<N.q->0<rm l->W (N.to l)+N.wo l+(if N.fr l=N.n then 2 else 0)<=W (N.fr l)
structure OC.Fix (N:OC) (rm W:Nat->Int):Prop where
 z:W N.n=0
 fix:∀l,l<N.q->0<rm l->N.fr l<N.n->W (N.to l)+N.wo l<=W (N.fr l)
 LS:∀u,u<N.n->∃l,l<N.q/\N.fr l=u/\0<rm l/\W u=W (N.to l)+N.wo l
 lo:∀u,u<N.n-> -(40000*(N.n:Int))<=W u
def pick(x:Option Int)(w:Int):Option Int:=match x with
 |none=>u7 w
 |some z=>if z<w then u7 w else u7 z
def OC.rl(N:OC)(rm:Nat->Int)(P:List (Option Int))(x:Option Int)(l:Nat):Option Int:=
 if 0<rm l then(match gP P (N.to l)with
  |none=>x
  |some y=>pick x (y+N.wo l))else x
def OC.bw(N:OC)(rm:Nat->Int)(P:List (Option Int))(ls:List Nat)(x:Option Int):Option Int:=ls.foldl (N.rl rm P) x
section
variable{N:OC}{rm π:Nat->Int}{P:List (Option Int)}
def BG{x:Option Int}{z:Int}(h:x=u7 z):∃y,N.rl rm P x l=u7 y/\z<=y:=by
 subst h;unfold OC.rl;split
 .split
  .exact⟨z,rfl,qY _⟩
  unfold pick;dsimp only;split
  .exact⟨_,rfl,by lia⟩
  exact⟨_,rfl,qY _⟩
 exact⟨z,rfl,qY _⟩
theorem BH{x:Option Int}{y:Int}(h:0<rm l)(a:gP P (N.to l)=u7 y):∃z,N.rl rm P x l=u7 z/\y+N.wo l<=z:=by
 unfold OC.rl;rw[if_pos h,a];unfold pick;cases x with
 |none=>exact⟨_,rfl,qY _⟩
 |some z=>
  dsimp only;split
  .exact⟨_,rfl,qY _⟩
  exact⟨_,rfl,by lia⟩
def BI{x:Option Int}:N.rl rm P x l=x\/∃y,0<rm l/\gP P (N.to l)=u7 y/\N.rl rm P x l=u7 (y+N.wo l):=by
 unfold OC.rl;split
 .rename_i h;split
  .exact .inl rfl
  rename_i y a;unfold pick;cases x with
  |none=>exact .inr ⟨y,h,a,rfl⟩
  |some z=>
   dsimp only;split
   .exact .inr ⟨y,h,a,rfl⟩
   exact .inl rfl
 exact .inl rfl
theorem Pz:∀(a:List Nat){x:Option Int}{z:Int},x=u7 z->∃y,N.bw rm P a x=u7 y/\z<=y
 |[],x,z,h=>⟨z,h,qY _⟩
 |l::a,x,z,h=>by obtain⟨y,c,d⟩:=BG h;obtain⟨w,b,e⟩:=Pz a c;exact⟨w,b,by lia⟩
theorem Vi:∀(a:List Nat){x:Option Int}{l:Nat}{y:Int},l∈a->0<rm l->gP P (N.to l)=u7 y->∃z,N.bw rm P a x=u7 z/\y+N.wo l<=z
 |k::a,x,l,y,b,h,c=>by
  rcases z0.mp b with rfl|b
  .obtain⟨z,e,g⟩:=BH h c;obtain⟨w,d,f⟩:=Pz a e;exact⟨w,d,by lia⟩
  exact Vi a b h c
theorem Wc:∀(a:List Nat)(x:Option Int),N.bw rm P a x=x\/∃l y,l∈a/\0<rm l/\gP P (N.to l)=u7 y/\N.bw rm P a x=u7 (y+N.wo l)
 |[],x=>.inl rfl
 | k::a,x=>by
  have e:N.bw rm P (k::a) x=N.bw rm P a (N.rl rm P x k):=rfl;rw[e];rcases Wc a (N.rl rm P x k)with h|⟨l,y,f,c,b,d⟩
  .rcases BI with g|⟨y,c,b,d⟩
   .exact .inl (h.trans g)
   exact .inr ⟨k,y,by simp,c,b,h.trans d⟩
  exact .inr ⟨l,y,by simp[f],c,b,d⟩
structure WV (N:OC) (rm π:Nat->Int) (P:List (Option Int)):Prop where
 len:lN P=N.n+1
 z:gP P N.n=u7 0
 up:∀u x,gP P u=u7 x->u<=N.n->x<=π u
 LS:∀u x,u<N.n->gP P u=u7 x->∃l y,l<N.q/\N.fr l=u/\0<rm l/\gP P (N.to l)=u7 y/\x<=y+N.wo l
def IE(N:OC)(lk:Nat->List Nat):Prop:=∀u l,l∈lk u↔l<N.q/\N.fr l=u
def lowP(N:OC)(P:List (Option Int))(u:Nat):Prop:=∃x,gP P u=u7 x/\ -(40000*((N.n:Int)-u))<=x
def BJ(ok:N.Ok)(t:IE N lk)(r:N.PK rm π)(K:WV N rm π P)(C:u<N.n):WV N rm π (P.set u (N.bw rm P (lk u) (gP P u))):=by
 have c:=K.len;have g:∀w,gP (P.set u (N.bw rm P (lk u) (gP P u))) w=if w=u then N.bw rm P (lk u) (gP P u)else gP P w:=λw=>N7 (by lia)
 have b:∀w x,gP P w=u7 x->∃y,gP (P.set u (N.bw rm P (lk u) (gP P u))) w=u7 y/\x<=y:=λw x h=>by
  rw[g];split
  .rename_i e;subst e;exact Pz (lk w) h
  exact⟨x,h,qY _⟩
 refine⟨by rw[qH];exact c,by rw[g,if_neg (by lia)];exact K.z,λw x h hw=>?_,λw x hw h=>?_⟩
 .rw[g]at h;split at h
  .rename_i e;subst e;rcases Wc (lk w) (gP P w)with s|⟨l,y,k,i,d,f⟩
   .exact K.up w x (s.symm.trans h) hw
   rw[f]at h;cases h;obtain⟨m,o⟩:=(t w l).mp k;have A:=K.up _ _ d (ok.to l m);have a:=r l m i;rw[o,if_neg (by lia)]at a;lia
  exact K.up w x h hw
 have j:∀x,gP P w=u7 x->∃l y,l<N.q/\N.fr l=w/\0<rm l/\gP (P.set u (N.bw rm P (lk u) (gP P u))) (N.to l)=u7 y/\x<=y+N.wo l:=λx h=>by obtain⟨l,y,k,i,d,f,A⟩:=K.LS w x hw h;obtain⟨p,a,v⟩:=b _ _ f;exact⟨l,p,k,i,d,a,by lia⟩
 rw[g]at h;split at h
 .rename_i e;subst e;rcases Wc (lk w) (gP P w)with s|⟨l,y,k,i,d,f⟩
  .exact j x (s.symm.trans h)
  .rw[f]at h;cases h;obtain⟨m,o⟩:=(t w l).mp k;obtain⟨p,a,v⟩:=b _ _ d;exact⟨l,p,m,o,i,a,by lia⟩
 exact j x h
def BK(K:WV N rm π P)(b:u<N.n)(h:gP P w=u7 x):∃y,gP (P.set u (N.bw rm P (lk u) (gP P u))) w=u7 y/\x<=y:=by
 have a:=K.len;rw[N7 (by lia)];split
 .rename_i e;subst e;exact Pz (lk w) h
 exact⟨x,h,qY _⟩
def BL(ok:N.Ok)(m:IE N lk)(way:N.Way rm)(K:WV N rm π P)(b:u<N.n)(h:∀v,u<v->v<=N.n->lowP N P v):∀v,u<=v->v<=N.n->lowP N (P.set u (N.bw rm P (lk u) (gP P u))) v:=λv p j=>by
 by_cases e:v=u
 .subst e;obtain⟨l,a,f,c,g⟩:=way v b;obtain⟨y,i,q⟩:=h (N.to l) (by lia) (ok.to l a);obtain⟨z,k,o⟩:=Vi (lk v) ((m v l).mpr ⟨a,f⟩) g i;have d:=K.len;refine⟨z,by rw[N7 (by lia),if_pos rfl];exact k,?_⟩;have:=ok.wb l a;lia
 obtain⟨x,a,f⟩:=h v (by lia) j;obtain⟨y,c,g⟩:=BK K b a;exact⟨y,c,by lia⟩
def OC.dn(N:OC)(rm:Nat->Int)(lk:Nat->List Nat):Nat->List (Option Int)->List (Option Int)
 |0,P=>P
 |k+1,P=>N.dn rm lk k (P.set k (N.bw rm P (lk k) (gP P k)))
def OC.LD(N:OC)(rm:Nat->Int)(lk:Nat->List Nat):Nat->List (Option Int)->Bool
 |0,_=>u9
 |k+1,P=>decide (N.bw rm P (lk k) (gP P k)=gP P k)&&N.LD rm lk k (P.set k (N.bw rm P (lk k) (gP P k)))
def XJ(N:OC)(π:Nat->Int)(P:List (Option Int))(u:Nat):Int:=match gP P u with
 |none=>π u+40000*(N.n:Int)+1
 |some x=>π u-x
def MG{x:Option Int}(h:x=gP P k)(hk:k<lN P):P.set k x=P:=by
 refine j5 λi=>?_
 by_cases e:k=i
 .subst e;rw[qZ hk,h];unfold gP;rw[zY,zJ hk]
  rfl
 rw[zw e]
theorem fi(ok:N.Ok)(i:IE N lk)(way:N.Way rm)(g:N.PK rm π):∀(k:Nat){P:List (Option Int)},WV N rm π P->k<=N.n->(∀v,k<=v->v<=N.n->lowP N P v)->
  WV N rm π (N.dn rm lk k P)/\(∀v,v<=N.n->lowP N (N.dn rm lk k P) v)/\(N.LD rm lk k P=u9->N.dn rm lk k P=P/\∀u,u<k->N.bw rm P (lk u) (gP P u)=gP P u)/\
  Ab N.n (XJ N π (N.dn rm lk k P))+(if N.LD rm lk k P=u9 then 0 else 1)<=Ab N.n (XJ N π P)
 |0,P,K,_,h=>⟨K,λv r=>h v (jk _) r,λ_=>⟨rfl,λu o=>absurd o (Nat.not_lt_zero _)⟩,by show _+(if u9=u9 then(0:Int)else 1)<=_;rw[if_pos rfl];exact Int.le_of_eq (jK _)⟩
 | k + 1,P,K,hk,h=>by
  have p:=K.len;have l:=BL ok i way K (u:=k) (by lia) λv c f=>h v (by lia) f
  obtain⟨A,w,t,m⟩:=fi ok i way g k (BJ ok i g K (u:=k) (by lia)) (by lia) l;refine⟨A,w,λhs=>?_,?_⟩
  .have a:(decide (N.bw rm P (lk k) (gP P k)=gP P k)&&N.LD rm lk k (P.set k (N.bw rm P (lk k) (gP P k))))=u9:=hs;rw[zP,decide_eq_true_eq]at a;have e:=MG a.1 (by lia);obtain⟨c,f⟩:=t a.2;rw[e]at c f;refine⟨by show N.dn rm lk k _=P;rw[e];exact c,λu o=>?_⟩;by_cases d:u=k
   .rw[d];exact a.1
   exact f u (by lia)
  by_cases e:N.bw rm P (lk k) (gP P k)=gP P k
  .have q:=MG e (by lia);have d:N.LD rm lk (k+1) P=N.LD rm lk k P:=by
    show(decide (N.bw rm P (lk k) (gP P k)=gP P k)&&N.LD rm lk k (P.set k (N.bw rm P (lk k) (gP P k))))=_;rw[q,decide_eq_true e]
    rfl
   rw[d];show Ab N.n (XJ N π (N.dn rm lk k (P.set k (N.bw rm P (lk k) (gP P k)))))+_<=_;rw[q]at m⊢;exact m
  .have d:N.LD rm lk (k+1) P=uA:=by
    show(decide (N.bw rm P (lk k) (gP P k)=gP P k)&&_)=_;rw[decide_eq_false e]
    rfl
   rw [d];show Ab N.n (XJ N π (N.dn rm lk k (P.set k (N.bw rm P (lk k) (gP P k)))))+(if uA=u9 then(0:Int)else 1)<=_;rw[if_neg (by decide)];have j:∀v,v<N.n->XJ N π (P.set k (N.bw rm P (lk k) (gP P k))) v+(if v=k then 1 else 0)<=XJ N π P v:=λv r=>by
    by_cases ev:v=k
    .rw[if_pos ev];subst ev;obtain⟨z,c,f⟩:=l v (zv _) (by lia);have b:=c;rw[N7 (by lia),if_pos rfl]at b;unfold XJ;rw[c];cases hp:gP P v with
     |none=>dsimp only;lia
     |some x=>
      obtain⟨y,s,F⟩:=Pz (lk v) hp;rw[b]at s;cases s;have H:z≠x:=λC=>e (by rw[b,hp,C])
      dsimp only;lia
    .rw[if_neg ev];unfold XJ;rw[N7 (by lia),if_neg ev];lia
   have E:=Fb j;rw[Ep,Ho (show k<N.n by lia)]at E
   have:0<=(if N.LD rm lk k (P.set k (N.bw rm P (lk k) (gP P k)))=u9 then(0:Int)else 1):=by split <;> decide
   lia
def BM(K:WV N rm π P)(a:∀u,u<N.n-> -(40000*(N.n:Int))<=π u):0<=Ab N.n (XJ N π P):=by
 have h:∀u,u<N.n->0<=XJ N π P u:=λu b=>by
  unfold XJ;cases e:gP P u with
  |none=>have:=a u b;dsimp only;lia
  |some x=>have:=K.up u x e (by lia);dsimp only;lia
 have:=Fb h;rw[Gw]at this;exact this
def BN(ok:N.Ok)(i:IE N lk)(K:WV N rm π P)(lo:∀v,v<=N.n->lowP N P v)(st:∀u,u<N.n->N.bw rm P (lk u) (gP P u)=gP P u):N.Fix rm (dP P)/\∀u,u<=N.n->dP P u<=π u:=by
 have val:∀u,u<=N.n->gP P u=u7 (dP P u):=λu b=>by
  obtain⟨x,h,_⟩:=lo u b;unfold dP;rw[h]
  rfl
 have d:∀l,l<N.q->0<rm l->N.fr l<N.n->dP P (N.to l)+N.wo l<=dP P (N.fr l):=λl a c e=>by obtain⟨z,g,j⟩:=Vi (lk (N.fr l)) ((i _ l).mpr ⟨a,rfl⟩) c (val _ (ok.to l a));rw[st _ e,val _ (by lia)]at g;have:=Option.some.inj g;lia
 refine⟨⟨by unfold dP;rw[K.z];rfl,d,λu b=>?_,λu b=>?_⟩,λu b=>K.up u _ (val u b) b⟩
 .obtain⟨l,y,a,c,e,f,k⟩:=K.LS u _ b (val u (by lia));rw[val _ (ok.to l a)]at f;cases f;have:=d l a e (by lia);rw[c]at this;exact⟨l,a,c,e,by lia⟩
 obtain⟨x,a,c⟩:=lo u (by lia);rw[val u (by lia)]at a;cases a;lia
end
theorem XM:∀(n:Nat)(l:List Nat),l.Nodup->(∀x∈l,x<n)->lN l<=n
 |0,l,_,h=>by
  cases l with
  |nil=>exact zv _
  |cons x l=>exact absurd (h x (by simp)) (by lia)
 |n+1,l,c,h=>by
  have b:=XM n (l.erase n) (c.erase n) λx e=>by have d:=(c.mem_erase_iff).mp e;have f:=h x d.2;lia
  by_cases a:n∈l
  .rw[List.length_erase_of_mem a]at b;lia
  rw[List.erase_of_not_mem a]at b;lia
def OC.Sc(N:OC)(ga:Nat->Int):Prop:=∀l,l<N.q->N.wo l=ga l*((N.n:Int)+1)-1
noncomputable def UD(N:OC)(W:Nat->Int)(u:Nat):Int:= -W u%((N.n:Int)+1)
noncomputable def gn(N:OC)(W:Nat->Int)(u:Nat):Int:= -(-W u/((N.n:Int)+1))
section
variable{N:OC}{rm W ga:Nat->Int}
def Kl(u:Nat):0<=UD N W u/\UD N W u<=N.n:=by have b:=xZ (-W u) (show((N.n:Int)+1)≠0 by lia);have a:=jA (-W u) (show 0<((N.n:Int)+1) by lia);unfold UD;lia
def Tz(u:Nat):W u=gn N W u*((N.n:Int)+1)-UD N W u:=by have h:=Int.emod_add_mul_ediv (-W u) ((N.n:Int)+1);unfold gn UD;rw[Int.neg_mul,xS];lia
def fj(sc:N.Sc ga)(a:l<N.q)(h:W (N.fr l)=W (N.to l)+N.wo l):UD N W (N.fr l)=(UD N W (N.to l)+1)%((N.n:Int)+1):=by
 unfold UD;rw[Int.add_emod,Int.emod_emod,<-Int.add_emod,h,sc l a];have e: -(W (N.to l)+(ga l*((N.n:Int)+1)-1))= -W (N.to l)+1+((N.n:Int)+1)*(-ga l):=by rw[Int.mul_neg,xS];lia
 rw[e,Int.add_mul_emod_self_left]
def Z5(ok:N.Ok)(sc:N.Sc ga)(F:N.Fix rm W)(p:u<N.n):1<=UD N W u:=by
 refine Int.not_lt.mp λr=>?_
 have q:UD N W u=0:=by have:=(Kl (N:=N) (W:=W) u).1;lia
 have E:∀t:Nat,t<=N.n->∃v,v<N.n/\UD N W v=if t=0 then 0 else(N.n:Int)+1-t:=λt=>by
  induction t with
  |zero=>exact λ_=>⟨u,p,q⟩
  | succ t s=>
   intro I;obtain⟨v,y,e⟩:=s (by lia);obtain⟨l,d,g,K,w⟩:=F.LS v y;have k:=fj sc d (g▸w);rw[g]at k;have J:=Kl (N:=N) (W:=W) (N.to l);have o:UD N W (N.to l)=(N.n:Int)+1-(t+1:Nat):=by
    by_cases c:UD N W (N.to l)=N.n
    .rw[c,Int.emod_self]at k;rw[k]at e;split at e
     .lia
     lia
    rw[Int.emod_eq_of_lt (by lia) (by lia)]at k;split at e
    .lia
    lia
   refine⟨N.to l,?_,by rw[if_neg (by lia)];exact o⟩;have H:=ok.to l d;by_cases c:N.to l=N.n
   .have:UD N W (N.to l)=0:=by
     unfold UD;rw[c,F.z]
     rfl
    lia
   lia
 have j:∀c:Nat,c<=N.n->∃v,v<N.n/\UD N W v=c:=λc i=>by
  by_cases e:c=0
  .exact⟨u,p,e▸q⟩
  obtain⟨v,d,g⟩:=E (N.n+1-c) (by lia);refine⟨v,d,?_⟩;rw[if_neg (by lia)]at g;lia
 have A:∃f:Nat->Nat,∀c,c<=N.n->f c<N.n/\UD N W (f c)=c:=⟨λc=>if h:c<=N.n then(j c h).choose else 0,λc i=>by dsimp only;rw[dif_pos i];exact(j c i).choose_spec⟩
 obtain⟨f,m⟩:=A;have:=XM N.n ((zW (N.n+1)).map f) (by
  rw[List.nodup_iff_pairwise_ne,List.pairwise_map];refine(List.pairwise_lt_range).imp_of_mem λ{a b}ha hb hab e=>?_
  have d:=(m a (by have:=qW.mp ha;lia)).2;have g:=(m b (by have:=qW.mp hb;lia)).2;rw[e]at d;lia) λx C=>by
  obtain⟨c,i,rfl⟩:=qw.mp C;exact(m c (by have:=qW.mp i;lia)).1
 rw[zq,xW]at this;lia
def BO{S:Int}(a:0<S)(h: -S<x*S):0<=x:=by
 refine Int.not_lt.mp λb=>?_
 have:=q0 (show x<= -1 by lia) (xR a);lia
def fm(ok:N.Ok)(sc:N.Sc ga)(F:N.Fix rm W)(a:N.PK rm W)(b:l<N.q)(c:0<rm l):gn N W (N.to l)+ga l<=gn N W (N.fr l):=by
 have f:=Tz (N:=N) (W:=W) (N.fr l);have g:=Tz (N:=N) (W:=W) (N.to l);have h:=Kl (N:=N) (W:=W) (N.fr l);have e:=Kl (N:=N) (W:=W) (N.to l);have p:=a l b c;rw[sc l b]at p;have d:1<=UD N W (N.fr l)+(if N.fr l=N.n then 2 else 0):=by
  split
  .lia
  have:=Z5 ok sc F (u:=N.fr l) (by have:=ok.fr l b;lia);lia
 have:=BO (x:=gn N W (N.fr l)-gn N W (N.to l)-ga l) (S:=(N.n:Int)+1) (by lia) (by rw[xF,xF];lia)
 lia
def fq(ok:N.Ok)(sc:N.Sc ga)(F:N.Fix rm W)(a:l<N.q)(b:N.fr l<N.n)(h:W (N.fr l)=W (N.to l)+N.wo l):gn N W (N.fr l)=gn N W (N.to l)+ga l/\UD N W (N.fr l)=UD N W (N.to l)+1:=by
 have t:=fj sc a h;have p:=Z5 ok sc F b;have f:=Kl (N:=N) (W:=W) (N.to l);have d:UD N W (N.fr l)=UD N W (N.to l)+1:=by
  by_cases c:UD N W (N.to l)=N.n
  .rw[c,Int.emod_self]at t;lia
  rw[Int.emod_eq_of_lt (by lia) (by lia)]at t;exact t
 refine⟨?_,d⟩;have g:=Tz (N:=N) (W:=W) (N.fr l);have i:=Tz (N:=N) (W:=W) (N.to l);rw[sc l a]at h;have e:(gn N W (N.fr l)-gn N W (N.to l)-ga l)*((N.n:Int)+1)=0:=by rw[xF,xF];lia
 rcases Int.mul_eq_zero.mp e with z|z<;>lia
def Pp{a c:Nat->Int}(ok:N.Ok)(f:N.PK a W)(F:N.Fix a c)(le:∀u,u<=N.n->c u<=W u)(h:u<N.n)(b:∀l,l<N.q->N.fr l=u->W u=W (N.to l)+N.wo l->a l=0):c u+1<=W u:=by
 obtain⟨l,d,g,i,m⟩:=F.LS u h;have j:=f l d i;have k:=le (N.to l) (ok.to l d);rw[g,if_neg (by lia)]at j;by_cases e:W u=W (N.to l)+N.wo l
 .have:=b l d g e;lia
 lia
end
def HC(l:Nat):Nat:=if l%2=0 then l+1 else l-1
def BP(l:Nat):HC (HC l)=l:=by
 unfold HC;by_cases h:l%2=0
 .rw[if_pos h,if_neg (by lia)];lia
 rw[if_neg h,if_pos (by lia)];lia
def BQ(l:Nat):HC l≠l:=by
 unfold HC
 split <;> lia
structure OC.Mt (N:OC):Prop where
 lt:∀l,l<N.q->HC l<N.q
 fr:∀l,l<N.q->N.fr (HC l)=N.to l
 to:∀l,l<N.q->N.to (HC l)=N.fr l
 wo:∀l,l<N.q->N.wo (HC l)= -2-N.wo l
def Mr(h:i<lN xs):Aa (xs.set i x) k=if k=i then x else Aa xs k:=by
 unfold Aa;simp[zY];by_cases e:k=i
 .subst e;rw[qZ h,if_pos rfl]
  rfl
 rw[zw λz=>e z.symm,if_neg e]
structure LR where
 L:List Int
 R:List Int
def LR.sa(N:OC)(x:LR)(u l:Nat)(c:Int):LR:=
 ⟨(x.L.set u (Aa x.L u-c)).set (N.to l) (Aa (x.L.set u (Aa x.L u-c)) (N.to l)+c),(x.R.set l (Aa x.R l-c)).set (HC l) (Aa (x.R.set l (Aa x.R l-c)) (HC l)+c)⟩
structure LR.Ok (N:OC) (x:LR):Prop where
 ll:lN x.L=N.n+1
 rl:lN x.R=N.q
 ln:∀u,u<=N.n->0<=Aa x.L u
 rn:∀l,l<N.q->0<=Aa x.R l
section
variable{N:OC}{W:Nat->Int}{x:LR}
def Oo(ok:N.Ok)(K:x.Ok N)(d:l<N.q)(c:Int)(v:Nat):Aa (x.sa N (N.fr l) l c).L v=Aa x.L v-(if v=N.fr l then c else 0)+(if v=N.to l then c else 0):=by
 have h:=ok.fr l d;have g:=ok.to l d;have f:=K.ll;have e:=ok.ne l d;unfold LR.sa;rw[Mr (by rw[qH];lia),Mr (by lia)];by_cases a:v=N.to l
 .rw[if_pos a,if_neg (λz=>e z.symm),if_neg (λz=>e (z.symm.trans a)),if_pos a,a];lia
 rw[if_neg a,Mr (by lia)];by_cases b:v=N.fr l
 .rw[if_pos b,if_pos b,if_neg a,b];lia
 .rw[if_neg b,if_neg b,if_neg a];lia
def Um(e:N.Mt)(K:x.Ok N)(f:l<N.q)(u:Nat)(c:Int)(k:Nat):Aa (x.sa N u l c).R k=Aa x.R k-(if k=l then c else 0)+(if k=HC l then c else 0):=by
 have h:=e.lt l f;have g:=K.rl;have d:=BQ l;unfold LR.sa;rw[Mr (by rw[qH];lia),Mr (by lia)];by_cases a:k=HC l
 .rw[if_pos a,if_neg d,if_neg (λz=>d (a.symm.trans z)),if_pos a,a];lia
 rw[if_neg a,Mr (by lia)];by_cases b:k=l
 .rw[if_pos b,if_pos b,if_neg a,b];lia
 .rw[if_neg b,if_neg b,if_neg a];lia
def BR(ok:N.Ok)(d:N.Mt)(K:x.Ok N)(a:l<N.q)(h:0<=c)(f:c<=Aa x.L (N.fr l))(b:c<=Aa x.R l):(x.sa N (N.fr l) l c).Ok N:=by
 refine⟨by unfold LR.sa;simp[K.ll],by unfold LR.sa;simp[K.rl],λv g=>?_,λk hk=>?_⟩
 .have:=K.ln v g;rw[Oo ok K a];by_cases e:v=N.fr l
  .rw[<-e]at f;rw[if_pos e]
   split <;> lia
  rw[if_neg e]
  split <;> lia
 have:=K.rn k hk;rw[Um d K a];by_cases e:k=l
 .rw[<-e]at b;rw[if_pos e]
  split <;> lia
 .rw[if_neg e]
  split <;> lia
def JH(N:OC)(W:Nat->Int)(l:Nat):Prop:=W (N.fr l)=W (N.to l)+N.wo l
def JP(N:OC)(W:Nat->Int)(R0:Nat->Int)(x:LR):Prop:=∀l,l<N.q->0<Aa x.R l->0<R0 l\/JH N W (HC l)
def BS{R0:Nat->Int}(a:N.Mt)(K:x.Ok N)(g:JP N W R0 x)(b:l<N.q)(d:JH N W l)(u:Nat)(f:0<=c):JP N W R0 (x.sa N u l c):=λk hk h=>by
 rw[Um a K b]at h;by_cases e:k=HC l
 .refine .inr ?_;rw[e,BP];exact d
 rw[if_neg e]at h;refine g k hk ?_
 split at h<;>lia
def BU(ok:N.Ok)(c:N.Mt){R0:Nat->Int}(b:N.PK R0 W)(g:JP N W R0 x):N.PK (Aa x.R) W:=λl a h=>by
 rcases g l a h with z|z
 .exact b l a z
 unfold JH at z;rw[c.fr l a,c.to l a,c.wo l a]at z
 split <;> lia
def ft(ok:N.Ok){rm π:Nat->Int}(b:N.PK rm π)(F:N.Fix rm W)(hz:π N.n=0)(le:∀u,u<=N.n->W u<=π u):N.PK rm W:=λl a h=>by
 by_cases e:N.fr l=N.n
 .have c:=b l a h;have f:=le _ (ok.to l a);have d:=F.z;rw[e,if_pos rfl]at c⊢;lia
 rw[if_neg e];have:=F.fix l a h (by have:=ok.fr l a;lia);lia
def LR.one(N:OC)(W:Nat->Int)(x:LR)(u l:Nat):LR:=open Classical in if W u=W (N.to l)+N.wo l then x.sa N u l (min (Aa x.L u) (Aa x.R l))else x
def HJ(N:OC)(W:Nat->Int)(x:LR):Int:=Ab N.n λu=>Aa x.L u*UD N W u
structure Kp (N:OC) (W R0:Nat->Int) (B:LR->Prop) (x:LR):Prop where
 ok:x.Ok N
 g:JP N W R0 x
 b:B x
structure IJ (N:OC) (W:Nat->Int) (A:Nat->Prop) (x y:LR):Prop where
 le:HJ N W y<=HJ N W x
 same:HJ N W y=HJ N W x->(∀u,Aa y.L u=Aa x.L u)/\(∀l,Aa y.R l=Aa x.R l)/\∀l,A l->JH N W l->Aa x.L (N.fr l)=0\/Aa x.R l=0
def IJ.refl(x:LR):IJ N W (λ_=>False) x x:=⟨qY _,λ_=>⟨λ_=>rfl,λ_=>rfl,λ_ h=>h.elim⟩⟩
def IJ.trans{A c:Nat->Prop}{x y z:LR}(h:IJ N W A x y)(k:IJ N W c y z):IJ N W (λl=>A l\/c l) x z:=by
 have o:=h.le;have n:=k.le;refine⟨by lia,λe=>?_⟩;obtain⟨b,f,i⟩:=h.same (by lia);obtain⟨j,m,g⟩:=k.same (by lia);refine⟨λu=>(j u).trans (b u),λl=>(m l).trans (f l),λl a d=>?_⟩;rcases a with a|a
 .exact i l a d
 have:=g l a d;rw[b,f]at this;exact this
def IJ.imp{A a:Nat->Prop}{x y:LR}(h:IJ N W A x y)(w:∀l,a l->A l):IJ N W a x y:=⟨h.le,λe=>let⟨p,q,r⟩:=h.same e;⟨p,q,λl b=>r l (w l b)⟩⟩
variable{rm ga R0:Nat->Int}{B:LR->Prop}
def fu(ok:N.Ok)(sc:N.Sc ga)(F:N.Fix rm W)(K:x.Ok N)(d:l<N.q)(f:N.fr l<N.n)(i:JH N W l)(c:Int):HJ N W (x.sa N (N.fr l) l c)=HJ N W x-c:=by
 have e:∀(w:Nat),w<=N.n->UD N W N.n=0->Ab N.n (λu=>if u=w then c*UD N W u else 0)=c*UD N W w:=λw hw a=>by
  by_cases h:w<N.n
  .exact Ho h
  rw[show w=N.n by lia,a,jW,Cu λk hk=>if_neg (by lia),Gw]
 have a:UD N W N.n=0:=by
  unfold UD;rw[F.z]
  rfl
 have g:HJ N W (x.sa N (N.fr l) l c)+Ab N.n (λu=>if u=N.fr l then c*UD N W u else 0)=HJ N W x+Ab N.n (λu=>if u=N.to l then c*UD N W u else 0):=by
  unfold HJ;rw[<-Ep,<-Ep];refine Cu λu _=>?_
  rw[Oo ok K d,Int.add_mul,xF];by_cases b:u=N.fr l
  .rw[if_pos b,if_pos b]
   split <;> lia
  rw[if_neg b,if_neg b,xT]
  split <;> lia
 rw[e _ (ok.fr l d) a,e _ (ok.to l d) a,(fq ok sc F d f i).2,xE,Int.mul_one]at g;lia
def BV(ok:N.Ok)(d:N.Mt)(sc:N.Sc ga)(F:N.Fix rm W)(j:∀(y:LR)(l:Nat)(c:Int),y.Ok N->l<N.q->B y->B (y.sa N (N.fr l) l c))(K:Kp N W R0 B x)(a:l<N.q)(f:N.fr l<N.n):Kp N W R0 B (x.one N W (N.fr l) l)/\IJ N W (λk=>k=l) x (x.one N W (N.fr l) l):=by
 unfold LR.one;have p:=K.ok.ln _ (ok.fr l a);have o:=K.ok.rn l a;split
 .rename_i h;refine⟨⟨BR ok d K.ok a (by lia) (by lia) (by lia),BS d K.ok K.g a h _ (by lia),j x l _ K.ok a K.b⟩,?_,λe=>?_⟩
  .rw[fu ok sc F K.ok a f h];lia
  rw[fu ok sc F K.ok a f h]at e;have i:min (Aa x.L (N.fr l)) (Aa x.R l)=0:=by lia
  refine⟨λu=>?_,λk=>?_,λk hk _=>?_⟩
  .rw[Oo ok K.ok a,i]
   split <;> split <;> lia
  .rw[Um d K.ok a,i]
   split <;> split <;> lia
  .subst hk;lia
 rename_i h;exact⟨K,qY _,λ_=>⟨λ_=>rfl,λ_=>rfl,λk hk m=>by subst hk;exact absurd m h⟩⟩
end
def QK(as:List ZA)(l:Nat):Int:=if l%2=0 then(Am as (l/2)).ga else -(Am as (l/2)).ga
def VA(n:Nat)(as:List ZA):OC where
 n:=n
 q:=2*lN as
 fr l:=if l%2=0 then(Am as (l/2)).fr else(Am as (l/2)).to
 to l:=if l%2=0 then(Am as (l/2)).to else(Am as (l/2)).fr
 wo l:=QK as l*((n:Int)+1)-1
def N8(h:l%2=0):(VA n as).fr l=(Am as (l/2)).fr/\(VA n as).to l=(Am as (l/2)).to/\QK as l=(Am as (l/2)).ga:=⟨if_pos h,if_pos h,if_pos h⟩
def Rj(h:¬l%2=0):(VA n as).fr l=(Am as (l/2)).to/\(VA n as).to l=(Am as (l/2)).fr/\QK as l= -(Am as (l/2)).ga:=⟨if_neg h,if_neg h,if_neg h⟩
def O8:(VA n as).Sc (QK as):=λ_ _=>rfl
def La(h:∀x∈as,MB n x)(j:n<=30):(VA n as).Ok:=by
 have k:∀l,l<2*lN as->MB n (Am as (l/2)):=λl a=>MB.of h (by lia)
 have w:∀l,l<2*lN as-> -40000<=QK as l*((n:Int)+1)-1/\QK as l*((n:Int)+1)-1<=40000:=λl a=>by
  have i:=(k l a).ga
  have b: -1000<=QK as l/\QK as l<=1000:=by unfold QK;split <;> lia
  have c:=q0 b.1 (show 0<=(n:Int)+1 by lia);have f:=q0 b.2 (show 0<=(n:Int)+1 by lia);lia
 refine⟨λl a=>?_,λl a=>?_,λl a=>?_,λl a=>(w l a).1,λl a=>(w l a).2⟩ <;>
 .have g:=(k l a).lt;have d:=(k l a).up;have e:=(k l a).le;simp[VA]
  split <;> lia
def Zk:(VA n as).Mt:=by
 have e:∀l,(l%2=0->HC l%2≠0/\HC l/2=l/2)/\(l%2≠0->HC l%2=0/\HC l/2=l/2):=λl=>by
  unfold HC;refine⟨λh=>?_,λh=>?_⟩
  .rw[if_pos h];lia
  rw[if_neg h];lia
 refine⟨λl a=>?_,λl a=>?_,λl a=>?_,λl a=>?_⟩
 .have b:l<2*lN as:=a;show HC l<2*lN as;unfold HC
  split <;> lia
 all_goals
  simp[VA,QK];by_cases h:l%2=0
  .have:=(e l).1 h;rw[if_pos h,if_neg this.1,this.2]
   try (rw[Int.neg_mul];lia)
  have:=(e l).2 h;rw[if_neg h,if_pos this.1,this.2]
  try (rw[Int.neg_mul];lia)
def VH(x:LR)(i:Nat):Int:=Aa x.R (2*i+1)
noncomputable def Hh(wide:Int)(a:ZA):Int:=match a.mo with
 |none=>wide
 |some b=>b
structure TQ (n:Nat) (as:List ZA) (s:Nat->Int) (wide:Int) (x:LR):Prop where
 VR:∀i,i<lN as->Aa x.R (2*i)+Aa x.R (2*i+1)=Hh wide (Am as i)
 HX:∀v,v<n->Aa x.L v=s v-ex (Am as) (lN as) (VH x) v
def BW(ok:(VA n as).Ok){y:LR}(K:y.Ok (VA n as))(m:l<(VA n as).q)(h:TQ n as s wide y):TQ n as s wide (y.sa (VA n as) ((VA n as).fr l) l c):=by
 have p:l<2*lN as:=m;have e:=λk=>Um Zk K m ((VA n as).fr l) c k
 have o:VH (y.sa (VA n as) ((VA n as).fr l) l c)=bump (VH y) (l/2) (if l%2=0 then c else -c):=by
  funext i;show Aa _ (2*i+1)=if i=l/2 then Aa y.R (2*i+1)+_ else Aa y.R (2*i+1)
  rw[e];unfold HC;by_cases a:l%2=0
  .rw[if_pos a,if_pos a,if_neg (by lia)];by_cases b:i=l/2
   .rw[if_pos (by lia),if_pos b];lia
   rw[if_neg (by lia),if_neg b];lia
  rw[if_neg a,if_neg a];by_cases b:i=l/2
  .rw[if_pos (by lia),if_neg (by lia),if_pos b];lia
  rw[if_neg (by lia),if_neg (by lia),if_neg b];lia
 refine⟨λi r=>?_,λv t=>?_⟩
 .have:=h.VR i r;rw[e,e];unfold HC;by_cases a:l%2=0
  .rw[if_pos a];by_cases b:2*i=l
   .rw[if_pos b,if_neg (by lia),if_neg (by lia),if_pos (by lia)];lia
   rw[if_neg b,if_neg (by lia),if_neg (by lia),if_neg (by lia)];lia
  rw[if_neg a];by_cases b:2*i+1=l
  .rw[if_neg (by lia),if_pos (by lia),if_pos b,if_neg (by lia)];lia
  rw[if_neg (by lia),if_neg (by lia),if_neg b,if_neg (by lia)];lia
 rw[o,BD (show l/2<lN as by lia),Oo ok K m,h.HX v t];by_cases a:l%2=0
 .obtain⟨g,d,_⟩:=N8 a;rw[g,d,if_pos a]
  by_cases f:(Am as (l/2)).fr=v<;>by_cases j:(Am as (l/2)).to=v<;>simp[f,j,eq_comm]<;>lia
 .obtain⟨g,d,_⟩:=Rj a;rw[g,d,if_neg a]
  by_cases f:(Am as (l/2)).fr=v<;>by_cases j:(Am as (l/2)).to=v<;>simp[f,j,eq_comm]<;>lia
theorem Vt{k:Nat}:∀{n:Nat},k<=n->(∀v,v<n->0<=s v)->Ab k s<=Ab n s
 |0,hk,_=>by rw[show k=0 by lia];exact qY _
 |n+1,hk,h=>by
  by_cases e:k=n+1
  .rw[e];exact qY _
  have c:=Vt (n:=n) (k:=k) (by lia) λv b=>h v (by lia)
  have a:=h n (by lia);show _<=Ab n s+s n;lia
theorem fy(x:Int)(w:Nat):∀k:Nat,Ab k (λv=>if w=v then x else 0)=if w<k then x else 0
 |0=>by rw[if_neg (by lia)];rfl
 |k+1=>by
  show Ab k _+(if w=k then x else 0)=_;rw[fy x w k];by_cases e:w=k
  .rw[if_neg (by lia),if_pos e,if_pos (by lia)];lia
  rw[if_neg e];by_cases a:w<k
  .rw[if_pos a,if_pos (by lia)];lia
  rw[if_neg a,if_neg (by lia)];lia
def BX{a:Nat->ZA}(d:∀i,i<m->(a i).fr<(a i).to/\(a i).fr<n)(l:∀i,i<m->0<=f i)(o:∀v,v<n->0<=s v)(h:∀v,v<n->ex a m f v<=s v)(hi:i<m):f i<=Ab n s:=by
 have hk:=(d i hi).2;have c:∀(q:Nat->Nat)(k:Nat),Ab k (λv=>Ab m λj=>if q j=v then f j else 0)=Ab m λj=>if q j<k then f j else 0:=λq k=>by rw[Vq];exact Cu λj _=>fy (f j) (q j) k
 have b:Ab ((a i).fr+1) (λv=>ex a m f v)+Ab m (λj=>if(a j).to<(a i).fr+1 then f j else 0)=Ab m λj=>if(a j).fr<(a i).fr+1 then f j else 0:=by
  rw[<-c (λj=>(a j).to),<-c (λj=>(a j).fr),<-Ep];refine Cu λv _=>?_
  unfold ex Cj UN;lia
 have p:Ab m (λj=>if j=i then f j else 0)+Ab m (λj=>if(a j).to<(a i).fr+1 then f j else 0)<=Ab m λj=>if(a j).fr<(a i).fr+1 then f j else 0:=by
  rw[<-Ep];refine Fb λj g=>?_
  have u:=d j g;have t:=l j g;by_cases e:j=i
  .subst e;rw[if_pos rfl,if_neg (by lia),if_pos (by lia)];lia
  rw[if_neg e];by_cases b:(a j).to<(a i).fr+1
  .rw[if_pos b,if_pos (by lia)];lia
  .rw[if_neg b]
   split <;> lia
 rw[Ho hi]at p;have w:Ab ((a i).fr+1) (λv=>ex a m f v)<=Ab ((a i).fr+1) s:=Fb λv y=>h v (by lia)
 have r:=Vt (k:=(a i).fr+1) (by lia) o;lia
structure XG (n:Nat) (as:List ZA) (s:Nat->Int) (wide:Int):Prop where
 YM:n<=30
 RG:∀x∈as,MB n x
 way:∀k,k<n->∃i,i<lN as/\(Am as i).fr=k/\(Am as i).mo=u8
 sn:∀v,v<n->0<=s v
 wide:wide=Ab n s+1
section
variable{n:Nat}{as:List ZA}{s:Nat->Int}{wide:Int}{x:LR}
theorem gA(Z:XG n as s wide)(K:x.Ok (VA n as))(B:TQ n as s wide x)(hi:i<lN as)(h:∀b,(Am as i).mo=u7 b->VH x i<b):0<Aa x.R (2*i):=by
 have a:=B.VR i hi;unfold Hh at a;cases c:(Am as i).mo with
 |some b=>
  rw[c]at a;have:=h b c;unfold VH at this;dsimp only at a;lia
 |none=>
  rw[c]at a;have e:=BX (f:=VH x) (λj d=>⟨(MB.of Z.RG d).up,(MB.of Z.RG d).lt⟩) (λj d=>K.rn _ (by show 2*j+1<2*lN as;lia)) Z.sn (λv g=>by have l:=B.HX v g;have m:=K.ln v (by show v<=n;lia);lia) hi
  have k:=Z.wide;unfold VH at e;dsimp only at a;lia
def gB(Z:XG n as s wide)(K:x.Ok (VA n as))(B:TQ n as s wide x):(VA n as).Way (Aa x.R):=λu d=>by
 obtain⟨i,c,f,e⟩:=Z.way u d;have g:=(MB.of Z.RG c).up;refine⟨2*i,by show 2*i<2*lN as;lia,?_,?_,gA Z K B c λb a=>by rw[e]at a;cases a⟩
 .simp only[VA];rw[if_pos (by lia),show 2*i/2=i by lia];exact f
 simp only[VA];rw[if_pos (by lia),show 2*i/2=i by lia];lia
def BY{W:Nat->Int}(Z:XG n as s wide)(K:x.Ok (VA n as))(B:TQ n as s wide x)(F:(VA n as).Fix (Aa x.R) W)(a:(VA n as).PK (Aa x.R) W):VM (lN as) (Am as) (VH x) (gn (VA n as) W):=by
 have ok:=La Z.RG Z.YM;refine⟨λi e h=>?_,λi e h=>?_⟩
 .have:=fm ok O8 F a (by show 2*i<2*lN as;lia) (gA Z K B e h);obtain⟨d,b,c⟩:=N8 (l:=2*i) (by lia);rw[d,b,c,show 2*i/2=i by lia]at this;lia
 have:=fm ok O8 F a (by show 2*i+1<2*lN as;lia) h;obtain⟨d,b,c⟩:=Rj (l:=2*i+1) (by lia);rw[d,b,c,show(2*i+1)/2=i by lia]at this;lia
def BZ{rm:Nat->Int}(Z:XG n as s wide)(h:∀i,i<lN as->rm (2*i+1)=0):(VA n as).PK rm (λu=>40000*((n:Int)-u)):=λl c o=>by
 have f:l<2*lN as:=c;have a:l%2=0:=by
  refine Decidable.byContradiction λz=>?_
  have:=h (l/2) (by lia);rw[show 2*(l/2)+1=l by lia]at this;lia
 have p:=(La (n:=n) Z.RG Z.YM).wu l c;have b:=MB.of Z.RG (i:=l/2) (by lia);have k:=b.lt;have m:=b.up;obtain⟨e,d,j⟩:=N8 a;have g:¬(Am as (l/2)).fr=(VA n as).n:=by show¬(Am as (l/2)).fr=n;lia
 dsimp only;rw[e,d,if_neg g];lia
end
noncomputable def ZM(n l f e w r:Nat):List (Str×D):=[("scale",.int ((n:Int)+1)),("left",.ref l),("links_from",.ref f),("ends",.ref e),("worths",.ref w),("rooms",.ref r)]
noncomputable def Bh(xs:List Nat):List D:=xs.map λ(i:Nat)=>D.int (i:Int)
structure Ad where
 o:Nat
 l:Nat
 f:Nat
 e:Nat
 w:Nat
 r:Nat
 fa:Nat->Nat
structure Ad.Ok (a:Ad) (n:Nat):Prop where
 lo:a.l≠a.o
 lf:a.l≠a.f
 le:a.l≠a.e
 lw:a.l≠a.w
 lr:a.l≠a.r
 la:∀u,u<=n->a.l≠a.fa u
 ro:a.r≠a.o
 rf:a.r≠a.f
 re:a.r≠a.e
 rw:a.r≠a.w
 ra:∀u,u<=n->a.r≠a.fa u
structure SN (N:OC) (lk:Nat->List Nat) (a:Ad) (x:LR) (Γ:DH):Prop where
 ad:a.Ok N.n
 ho:Γ[a.o]?=u7 (.ins "Sending" (ZM N.n a.l a.f a.e a.w a.r))
 hl:Γ[a.l]?=u7 (.lst (x.L.map D.int))
 hf:Γ[a.f]?=u7 (.lst ((zW (N.n+1)).map λu=>D.ref (a.fa u)))
 ML:∀u,u<=N.n->Γ[a.fa u]?=u7 (.lst (Bh (lk u)))
 he:Γ[a.e]?=u7 (.lst (Bh ((zW N.q).map N.to)))
 hw:Γ[a.w]?=u7 (.lst (((zW N.q).map N.wo).map D.int))
 hr:Γ[a.r]?=u7 (.lst (x.R.map D.int))
def B0{xs:List Nat}(h:xs[i]?=u7 k):MC (Bh xs) (i:Int)=zI (k:Int):=Ce (k:=i) (by lia) (by unfold Bh;rw[zj,h];rfl)
def B1{f:Nat->Nat}(h:l<q):MC (Bh ((zW q).map f)) (l:Int)=zI (f l:Int):=B0 (by rw[zj,qB h];rfl)
def B2(h:l<q):MC (((zW q).map f).map D.int) (l:Int)=zI (f l):=Ce (k:=l) (by lia) (by rw[zj,zj,qB h];rfl)
def Nk(h:i<lN xs):MC (xs.map D.int) (i:Int)=zI (Aa xs i):=H9 h
def Yu{P:List (Option Int)}(h:i<lN P):MC (P.map WA) (i:Int)=u7 (WA (gP P i)):=Ce (k:=i) (by lia) (by
 unfold gP;rw[zj,zJ h,zY,zJ h]
 rfl)
def Hx{p:Nat}{xs:List D}{i:Int}{v:D}(h:Γ[p]?=u7 (.lst xs))(b:MC xs i=u7 v):Af (.ref p) (.int i) Γ=.ok v Γ:=by rw[Ri,h];dsimp only;rw[b]
def Wv{g:DG}{xs:List D}(h:G[i]?=u7 (.lst xs))(c:lN xs<=j):_D.forM i g b 0 j S G=.nx S G:=by
 show(match G[i]? with |some (.lst xs)=>if lN xs<=j then SR.nx S G else .bad|_=>.bad)=_
 rw[h];exact if_pos c
def Xr{g:DG}{xs:List D}{x:D}(h:G[i]?=u7 (.lst xs))(e:xs[j]?=u7 x):_D.forM i g b (k+1) j S G=(g x S G).toS λc d=>MK (b c d) (_D.forM i g b k (j+1)):=by
 show(match G[i]? with |some (.lst xs)=>(match xs[j]? with |some x=>(g x S G).toS λc d=>MK (b c d) (_D.forM i g b k (j+1))|none=>.nx S G)|_=>.bad)=_
 rw[h];dsimp only;rw[e]
section
variable{N:OC}{lk:Nat->List Nat}{a:Ad}{x:LR}{Γ:DH}
def SN.scale(K:SN N lk a x Γ):Cw "Sending" "scale" (.ref a.o) Γ=.ok (.int ((N.n:Int)+1)) Γ:=Dl K.ho rfl
def SN.left(K:SN N lk a x Γ):Cw "Sending" "left" (.ref a.o) Γ=.ok (.ref a.l) Γ:=Dl K.ho rfl
def SN.from(K:SN N lk a x Γ):Cw "Sending" "links_from" (.ref a.o) Γ=.ok (.ref a.f) Γ:=Dl K.ho rfl
def SN.ends(K:SN N lk a x Γ):Cw "Sending" "ends" (.ref a.o) Γ=.ok (.ref a.e) Γ:=Dl K.ho rfl
def SN.GN(K:SN N lk a x Γ):Cw "Sending" "worths" (.ref a.o) Γ=.ok (.ref a.w) Γ:=Dl K.ho rfl
def SN.rooms(K:SN N lk a x Γ):Cw "Sending" "rooms" (.ref a.o) Γ=.ok (.ref a.r) Γ:=Dl K.ho rfl
def SN.YG(K:SN N lk a x Γ){m:Str}{F:List D->DH->R D}{t:DA}(b:∀n l f e w r,(ZM n l f e w r).lookup m=u8):Ig "Sending" m F t S (.ref a.o) Γ=(t S Γ).bind λds c=>F (.ref a.o::ds) c:=Tt K.ho (b _ _ _ _ _ _)
def SN.Zp(K:SN N lk a x Γ)(h:l<N.q):Af (.ref a.e) (.int (l:Int)) Γ=.ok (.int (N.to l:Int)) Γ:=Hx K.he (B1 h)
def SN.S?(K:SN N lk a x Γ)(h:l<N.q):Af (.ref a.w) (.int (l:Int)) Γ=.ok (.int (N.wo l)) Γ:=Hx K.hw (B2 h)
def SN.T?(K:SN N lk a x Γ)(o:x.Ok N)(h:l<N.q):Af (.ref a.r) (.int (l:Int)) Γ=.ok (.int (Aa x.R l)) Γ:=Hx K.hr (Nk (o.rl▸h))
def SN.XO(K:SN N lk a x Γ)(o:x.Ok N)(h:u<=N.n):Af (.ref a.l) (.int (u:Int)) Γ=.ok (.int (Aa x.L u)) Γ:=Hx K.hl (Nk (by rw[o.ll];lia))
def SN.U?(K:SN N lk a x Γ)(h:u<=N.n):Af (.ref a.f) (.int (u:Int)) Γ=.ok (.ref (a.fa u)) Γ:=Hx K.hf (Ce (k:=u) (by lia) (by rw[zj,qB (by lia)];rfl))
def SN.V?(K:SN N lk a x Γ)(h:u<=N.n):Ej (.ref (a.fa u)) Γ=.ok (.mt (a.fa u)) Γ:=by simp[Ej,K.ML u h]
def B3{w:Int}(K:SN N lk a x Γ):Oc [.ref a.o,.int w] Γ=.ok (.int (-w%((N.n:Int)+1))) Γ:=by unfold Oc el;rw[Aj];simp[K.scale,by omega,Bc]
def B4{w:Int}(c:N.n<1000)(K:SN N lk a x Γ):Kv [.ref a.o,.int w] Γ=.ok (.int (-(-w/((N.n:Int)+1)))) Γ:=by have b:Ir (.int (-w)) (.int ((N.n:Int)+1)) Γ=.ok (.int (-w/((N.n:Int)+1))) Γ:=IX (by lia) (by lia);unfold Kv eh;rw[Aj];simp[K.scale,b,Bc]
theorem gC{y:Nat}{P:List (Option Int)}(K:SN N lk a x Γ)(o:x.Ok N)(ok:N.Ok)(s:IE N lk)(B:Γ[y]?=u7 (.lst (P.map WA)))(hP:lN P=N.n+1)(m:u<=N.n):∀(d pre:List Nat)(z:Option Int)(z4 e b:Option D),lk u=pre++d->
  ∃L g i,forM (a.fa u) (gV 4) Nj (lN d) (lN pre) [zR a.o,s1,zR y,u7 (WA z),z4,e,b] Γ=.nx [zR a.o,s1,zR y,u7 (WA (N.bw (Aa x.R) P d z)),L,g,i] Γ
 |[],pre,z,z4,e,b,h=>by exact⟨z4,e,b,Wv (K.ML u m) (by rw[h];simp[Bh])⟩
 | l::d,pre,z,z4,e,b,h=>by
  have c:=((s u l).mp (by rw[h];simp)).1;have J:MC (P.map WA) (N.to l:Int)=u7 (WA (gP P (N.to l))):=Yu (by have:=ok.to l c;lia);have p:∃g i,Nj [zR a.o,s1,zR y,u7 (WA z),zI (l:Int),e,b] Γ=.nx [zR a.o,s1,zR y,u7 (WA (N.rl (Aa x.R) P z l)),zI (l:Int),g,i] Γ:=by
   have r:LC (XA Af (dV 2) (XA Af (Ay "Sending" (dV 0) "ends") (dV 4))) (gV 5) [zR a.o,s1,zR y,u7 (WA z),zI (l:Int),e,b] Γ=.nx [zR a.o,s1,zR y,u7 (WA z),zI (l:Int),u7 (WA (gP P (N.to l))),b] Γ:=by simp[K.ends,K.Zp c,Hx B J]
   have f:XA Af (Ay "Sending" (dV 0) "rooms") (dV 4) [zR a.o,s1,zR y,u7 (WA z),zI (l:Int),u7 (WA (gP P (N.to l))),b] Γ=.ok (.int (Aa x.R l)) Γ:=by simp[K.rooms,K.T? o c]
   have k:dV 5 [zR a.o,s1,zR y,u7 (WA z),zI (l:Int),u7 (WA (gP P (N.to l))),b] Γ=.ok (WA (gP P (N.to l))) Γ:=by simp
   unfold Nj OC.rl;rw[S7,r,U8];clear r;by_cases j:0<Aa x.R l
   .rw[if_pos j];cases q:gP P (N.to l)with
    |none=>
     rw[q]at f k;refine⟨u7 (WA u8),b,?_⟩;generalize XA Af (Ay "Sending" (dV 0) "rooms") (dV 4)=w,dV 5=C,[zR a.o,s1,zR y,u7 (WA z),zI (l:Int),u7 (WA u8),b]=S at*;simp[f,k,j,WA,Dh]
    | some v=>
     rw[q]at f k;have tB:LC (XA Do (dV 5) (XA Af (Ay "Sending" (dV 0) "worths") (dV 4))) (gV 6) [zR a.o,s1,zR y,u7 (WA z),zI (l:Int),u7 (WA (u7 v)),b] Γ=.nx [zR a.o,s1,zR y,u7 (WA z),zI (l:Int),u7 (WA (u7 v)),zI (v+N.wo l)] Γ:=by simp[K.GN,K.S? c,WA]
     refine⟨u7 (WA (u7 v)),zI (v+N.wo l),?_⟩;have tC:RF (TH (Ao (XA Hq (dV 3) (dC .LA))) (Ao (XA Ji (dV 3) (dV 6)))) (LC (dV 6) (gV 3)) TF [zR a.o,s1,zR y,u7 (WA z),zI (l:Int),u7 (WA (u7 v)),zI (v+N.wo l)] Γ=.nx [zR a.o,s1,zR y,u7 (WA (pick z (v+N.wo l))),zI (l:Int),u7 (WA (u7 v)),zI (v+N.wo l)] Γ:=by
      cases z with
      |none=>simp[WA,Dh,pick]
      |some t=>by_cases H:t<v+N.wo l<;>simp[WA,Dh,pick,H]
     generalize RF (TH (Ao (XA Hq (dV 3) (dC .LA))) (Ao (XA Ji (dV 3) (dV 6)))) (LC (dV 6) (gV 3)) TF=Q,LC (XA Do (dV 5) (XA Af (Ay "Sending" (dV 0) "worths") (dV 4))) (gV 6)=O,XA Af (Ay "Sending" (dV 0) "rooms") (dV 4)=w at*;generalize dV 5=C,[zR a.o,s1,zR y,u7 (WA z),zI (l:Int),u7 (WA (u7 v)),b]=S at*;simp[f,k,j,WA,Dh,tB];exact tC
   rw[if_neg j];refine⟨u7 (WA (gP P (N.to l))),b,?_⟩;generalize XA Af (Ay "Sending" (dV 0) "rooms") (dV 4)=w,[zR a.o,s1,zR y,u7 (WA z),zI (l:Int),u7 (WA (gP P (N.to l))),b]=S at*;simp[f,j]
  obtain⟨g,i,p⟩:=p;obtain⟨I,E,F,A⟩:=gC K o ok s B hP m d (pre++[l]) (N.rl (Aa x.R) P z l) (zI (l:Int)) g i (by rw[h];simp);refine⟨I,E,F,?_⟩;have M:(Bh (lk u))[lN pre]?=zI (l:Int):=by rw[h];simp[Bh]
  rw[zL,xX]at A;show forM (a.fa u) (gV 4) Nj (lN d+1) (lN pre) _ Γ=_;rw[Xr (K.ML u m) M];simp[Cg,R.Cr,qF,p,Dk];exact A
def B5{y:Nat}{P:List (Option Int)}(K:SN N lk a x Γ)(o:x.Ok N)(ok:N.Ok)(i:IE N lk)(b:Γ[y]?=u7 (.lst (P.map WA)))(hP:lN P=N.n+1)(k:u<N.n):
  Ot [.ref a.o,.int (u:Int),.ref y] Γ=.ok (WA (N.bw (Aa x.R) P (lk u) (gP P u))) Γ:=by
 obtain⟨l,j,m,e⟩:=gC K o ok i b hP (by lia) (lk u) [] (gP P u) u8 u8 u8 rfl;have g:=K.U? (u:=u) (by lia);have d:=K.V? (u:=u) (by lia);have f:Af (.ref y) (.int (u:Int)) Γ=.ok (WA (gP P u)) Γ:=Hx b (Yu (by lia));have h:=K.ML u (by lia);have c:lN (Bh (lk u))=lN (lk u):=by simp[Bh]
 unfold Ot Zy;rw[Aj]
 simp[K.from,g,d,f,h,c]
 rw[show(0:Nat)=lN ([]:List Nat)from rfl,e]
 simp[Bc]
end
def R8{p:Nat}{z:Int}(h:Γ[p]?=u7 (.lst (xs.map D.int)))(hi:i<lN xs):Gg (.ref p) (.int (i:Int)) (.int z) Γ=.ok .LA (Γ.set p (.lst ((xs.set i z).map D.int))):=by rw[Kr,h];dsimp only;rw[Nm (by simpa using hi)];rw[xU]
def Ur{p:Nat}(h:Γ[p]?=u7 (.lst (xs.map D.int)))(hi:i<lN xs):XO (.ref p) (.int (i:Int)) Γ=.ok (.int (Aa xs i)) Γ:=cR h (H9 hi)
section
variable{N:OC}{lk:Nat->List Nat}{a:Ad}{x:LR}{Γ:DH}
def SN.Ze(K:SN N lk a x Γ)(L:List Int):SN N lk a ⟨L,x.R⟩ (Γ.set a.l (.lst (L.map D.int))):=by
 have A:=K.ad;refine⟨A,?_,qZ ((zZ.mp K.hl).1),?_,λu b=>?_,?_,?_,?_⟩
 .rw[zw A.lo];exact K.ho
 .rw[zw A.lf];exact K.hf
 .rw[zw (A.la u b)];exact K.ML u b
 .rw[zw A.le];exact K.he
 .rw[zw A.lw];exact K.hw
 rw[zw A.lr];exact K.hr
def SN.Jl(K:SN N lk a x Γ)(R:List Int):SN N lk a ⟨x.L,R⟩ (Γ.set a.r (.lst (R.map D.int))):=by
 have A:=K.ad;refine⟨A,?_,?_,?_,λu b=>?_,?_,?_,qZ ((zZ.mp K.hr).1)⟩
 .rw[zw A.ro];exact K.ho
 .rw[zw A.lr.symm];exact K.hl
 .rw[zw A.rf];exact K.hf
 .rw[zw (A.ra u b)];exact K.ML u b
 .rw[zw A.re];exact K.he
 rw[zw A.rw];exact K.hw
noncomputable def hs(Γ:DH)(a:Ad)(x:LR):DH:=(Γ.set a.l (.lst (x.L.map D.int))).set a.r (.lst (x.R.map D.int))
def SN.at (K:SN N lk a x Γ)(y:LR):SN N lk a y (hs Γ a y):=(K.Ze y.L).Jl y.R
def B6{y:LR}:lN (hs Γ a y)=lN Γ:=by unfold hs;simp
def gD(A:a.l≠a.r)(y z:LR):hs (hs Γ a y) a z=hs Γ a z:=by unfold hs;rw[List.set_comm _ _ A.symm,vQ,vQ]
def gE{p:Nat}(h:Γ[p]?=u7 o):Γ.set p o=Γ:=by
 refine j5 λi=>?_
 by_cases e:p=i
 .subst e;rw[qZ (zZ.mp h).1,h]
 rw[zw e]
def SN.hs(K:SN N lk a x Γ):hs Γ a x=Γ:=by unfold _W.hs;rw[gE K.hl,gE K.hr]
def B7(K:SN N lk a x Γ)(o:x.Ok N)(ok:N.Ok)(u:N.Mt)(b:l<N.q):Nu [.ref a.o,.int (N.fr l:Int),.int (l:Int),.int c] Γ=.ok .LA (hs Γ a (x.sa N (N.fr l) l c)):=by
 have X:=ok.fr l b;have U:=ok.to l b;have S:=u.lt l b;have W:=o.ll;have Y:=o.rl;have d:=K.Ze (x.L.set (N.fr l) (Aa x.L (N.fr l)-c));have e:=d.Ze (x.sa N (N.fr l) l c).L;have g:=e.Jl (x.R.set l (Aa x.R l-c));have H:=Ur K.hl (i:=N.fr l) (by lia);have Q:=R8 K.hl (i:=N.fr l) (z:=Aa x.L (N.fr l)-c) (by lia);have A:=Ur d.hl (i:=N.to l) (by simp;lia);have p:=R8 d.hl (i:=N.to l) (z:=Aa (x.L.set (N.fr l) (Aa x.L (N.fr l)-c)) (N.to l)+c) (by simp;lia)
 have M:=Ur (xs:=x.R) e.hr (i:=l) (by lia);have P:=R8 (xs:=x.R) e.hr (i:=l) (z:=Aa x.R l-c) (by lia);have B:=Ur g.hr (i:=HC l) (by simp;lia);have v:=R8 g.hr (i:=HC l) (z:=Aa (x.R.set l (Aa x.R l-c)) (HC l)+c) (by simp;lia);have C:=K.left;have t:=d.left;have O:=d.ends;have F:=d.Zp b;have J:=e.rooms;have n:=g.rooms;have y:(if(l:Int)%2=0 then D.int ((l:Int)+1)else D.int ((l:Int)-1))=D.int ((HC l:Nat):Int):=by
  unfold HC;by_cases h:l%2=0
  .rw[if_pos (show(l:Int)%2=0 by lia),if_pos h];exact congrArg D.int (by lia)
  rw[if_neg (show¬(l:Int)%2=0 by lia),if_neg h];exact congrArg D.int (by lia)
 have f:tidy Γ (.ok .LA ((((Γ.set a.l (.lst ((x.L.set (N.fr l) (Aa x.L (N.fr l)-c)).map D.int))).set a.l (.lst ((x.sa N (N.fr l) l c).L.map D.int))).set a.r (.lst ((x.R.set l (Aa x.R l-c)).map D.int))).set a.r (.lst ((x.sa N (N.fr l) l c).R.map D.int))))=.ok .LA (hs Γ a (x.sa N (N.fr l) l c)):=by rw[Hv (by simp) rfl];unfold hs;rw[vQ,vQ]
 have w:Gg (.ref a.l) (.int (N.to l:Int)) (.int (Aa (x.L.set (N.fr l) (Aa x.L (N.fr l)-c)) (N.to l)+c)) (Γ.set a.l (.lst ((x.L.set (N.fr l) (Aa x.L (N.fr l)-c)).map D.int)))=.ok .LA ((Γ.set a.l (.lst ((x.L.set (N.fr l) (Aa x.L (N.fr l)-c)).map D.int))).set a.l (.lst ((x.sa N (N.fr l) l c).L.map D.int))):=p;have I:Gg (.ref a.r) (.int (HC l:Int)) (.int (Aa (x.R.set l (Aa x.R l-c)) (HC l)+c)) (((Γ.set a.l (.lst ((x.L.set (N.fr l) (Aa x.L (N.fr l)-c)).map D.int))).set a.l (.lst ((x.sa N (N.fr l) l c).L.map D.int))).set a.r (.lst ((x.R.set l (Aa x.R l-c)).map D.int)))=.ok .LA ((((Γ.set a.l (.lst ((x.L.set (N.fr l) (Aa x.L (N.fr l)-c)).map D.int))).set a.l (.lst ((x.sa N (N.fr l) l c).L.map D.int))).set a.r (.lst ((x.R.set l (Aa x.R l-c)).map D.int))).set a.r (.lst ((x.sa N (N.fr l) l c).R.map D.int))):=v
 generalize hs Γ a (x.sa N (N.fr l) l c)=s,Γ.set a.l (.lst ((x.L.set (N.fr l) (Aa x.L (N.fr l)-c)).map D.int))=j at*;generalize j.set a.l (.lst ((x.sa N (N.fr l) l c).L.map D.int))=k at*;generalize k.set a.r (.lst ((x.R.set l (Aa x.R l-c)).map D.int))=m at*;generalize m.set a.r (.lst ((x.sa N (N.fr l) l c).R.map D.int))=E,Aa (x.L.set (N.fr l) (Aa x.L (N.fr l)-c)) (N.to l)=T,Aa (x.R.set l (Aa x.R l-c)) (HC l)=Z at*
 unfold Nu eo;rw[Aj];simp[-Kr,C,t,O,F,J,n,H,Q,A,w,M,P,B,I,y,f]
end
def B8{ks:List Int}(h:1<=lN ks):∃us:List Nat,Fp ks=us.map (λ(i:Nat)=>D.int (i:Int))/\us.Perm (zW (lN ks)):=by
 unfold Fp;by_cases b:lN ks<2
 .rw[if_pos b];refine⟨zW (lN ks),?_,List.Perm.refl _⟩;unfold Al;refine jJ λi _=>?_
  rw[xK]
 rw[if_neg b];have hp:(Hr (GP ks.reverse) (zi (lN ks))).toList.Perm (zW (lN ks)):=by have:=Array.perm_iff_toList_perm.mp (V9 (lt:=GP ks.reverse) (Xe h)).2;simpa using this
 generalize e:(Hr (GP ks.reverse) (zi (lN ks))).toList=p at*;generalize lN ks=n at*;refine⟨(p.map λi=>n-1-i).reverse,?_,?_⟩
 .rw[List.map_reverse,qG]
  congr 1
  refine jJ λi d=>?_
  have c:lN (Al 0 n)=n:=by unfold Al;simp
  rw[zY,List.getElem?_reverse (by rw[c];exact(qW.mp (hp.mem_iff.mp d))),c];unfold Al;rw[zj,qB (by lia)];show D.int (0+((n-1-i:Nat):Int))=_;rw[xK]
  rfl
 .refine(List.reverse_perm _).trans ((hp.map _).trans ?_);have:(zW n).map (λi=>n-1-i)=(zW n).reverse:=by
   refine jq (by simp) λi f b=>?_
   simp
  rw[this];exact List.reverse_perm _
def B9{C m:Str}{tn:DA}{caps:List Nat}{b c:DH}{j:Int}{ks:List Int}(g:tn S G=.ok [.int j] b)(f:1<=j/\j<64)(d:DO.tab C m∈b)(e:Hd te caps S j.toNat 0 b=.ok ks c):Nt C m tn caps te S G=.ok (.ref (lN c)) (c++[.lst (Fp ks)]):=by unfold Nt;rw[g,R.Eb];dsimp only;rw[if_pos ⟨f,d⟩,e,R.Eb]
section
variable{N:OC}{lk:Nat->List Nat}{a:Ad}{x:LR}{Γ:DH}{Wl:List Int}
def Bi(b:SN N lk a x Γ)(o:x.Ok N)(ok:N.Ok)(s:N.Mt)(u:lN Wl=N.n+1)(d:l<N.q):O5 [zR a.o,zF (Wl.map D.int),s2,zI (N.fr l:Int),zI (l:Int)] Γ=.nx [zR a.o,zF (Wl.map D.int),s2,zI (N.fr l:Int),zI (l:Int)] (hs Γ a (x.one N (Aa Wl) (N.fr l) l)):=by
 have j:=Nk (xs:=Wl) (i:=N.fr l) (by have:=ok.fr l d;lia);have h:=Nk (xs:=Wl) (i:=N.to l) (by have:=ok.to l d;lia);have e:=b.ends;have g:=b.Zp d;have f:=b.GN;have k:=b.S? d;unfold O5 LR.one;by_cases c:Aa Wl (N.fr l)=Aa Wl (N.to l)+N.wo l
 .have p:=B7 b o ok s d (c:=min (Aa x.L (N.fr l)) (Aa x.R l));rw[if_pos c];generalize Wl.map D.int=Z,hs Γ a _=r at*;simp[j,h,e,g,f,k,b.left,b.XO o (ok.fr l d),b.rooms,b.T? o d,λ(t:DA)(S:PB)=>b.YG (m:="send_along") (F:=Nu) (t:=t) (S:=S) λ_ _ _ _ _ _=>rfl,p,c]
 rw[if_neg c,b.hs];generalize Wl.map D.int=Z at*;simp[j,h,e,g,f,k,c]
variable{rm ga R0:Nat->Int}{B:LR->Prop}
theorem gF(e:SN N lk a x Γ)(ok:N.Ok)(g:N.Mt)(sc:N.Sc ga)(F:N.Fix rm (Aa Wl))(t:IE N lk)(s:∀(y:LR)(l:Nat)(c:Int),y.Ok N->l<N.q->B y->B (y.sa N (N.fr l) l c))(p:lN Wl=N.n+1)(A:u<N.n){s2:Option D}:∀(b pre:List Nat)(y:LR)(z4:Option D),lk u=pre++b->Kp N (Aa Wl) R0 B y->
  ∃f m,_D.forM (a.fa u) (gV 4) O5 (lN b) (lN pre) [zR a.o,zF (Wl.map D.int),s2,zI (u:Int),z4] (hs Γ a y)=.nx [zR a.o,zF (Wl.map D.int),s2,zI (u:Int),m] (hs Γ a f)/\Kp N (Aa Wl) R0 B f/\IJ N (Aa Wl) (λl=>l∈b) y f
 |[],pre,y,z4,h,k=>⟨y,z4,Wv ((e.at y).ML u (by lia)) (by rw[h];simp[Bh]),k,(IJ.refl y).imp λ_ h=>by cases h⟩
 |l::b,pre,y,z4,h,k=>by
  have i:=(t u l).mp (by rw[h];simp);have d:=i.2;obtain⟨v,z⟩:=BV ok g sc F s k i.1 (by lia);have r:=Bi (e.at y) k.ok ok g p i.1 (s2:=s2);rw[gD e.ad.lr,d]at r;rw[d]at v z;obtain⟨f,m,w,C,H⟩:=gF e ok g sc F t s p A b (pre++[l]) (y.one N (Aa Wl) u l) (zI (l:Int)) (by rw[h];simp) v;refine⟨f,m,?_,C,(z.trans H).imp λj E=>by simpa using E⟩;have I:(Bh (lk u))[lN pre]?=zI (l:Int):=by rw[h];simp[Bh]
  rw[zL,xX]at w;show _D.forM (a.fa u) (gV 4) O5 (lN b+1) (lN pre) _ _=_;rw[Xr ((e.at y).ML u (by lia)) I];simp[Cg,R.Cr,qF,r,Dk];exact w
theorem gG(d:SN N lk a x Γ)(ok:N.Ok)(t:N.Mt)(sc:N.Sc ga)(F:N.Fix rm (Aa Wl))(m:IE N lk)(w:∀(y:LR)(l:Nat)(c:Int),y.Ok N->l<N.q->B y->B (y.sa N (N.fr l) l c))(s:lN Wl=N.n+1):∀(us:List Nat)(y:LR)(g z4:Option D),(∀u∈us,u<N.n)->Kp N (Aa Wl) R0 B y->
  ∃f K j,Av (gV 3) U4 (us.map λ(i:Nat)=>D.int (i:Int)) [zR a.o,zF (Wl.map D.int),s2,g,z4] (hs Γ a y)=.nx [zR a.o,zF (Wl.map D.int),s2,K,j] (hs Γ a f)/\Kp N (Aa Wl) R0 B f/\IJ N (Aa Wl) (λl=>l<N.q/\N.fr l∈us) y f
 |[],y,g,z4,h,k=>⟨y,g,z4,rfl,k,(IJ.refl y).imp λ_ h=>by cases h.2⟩
 |u::us,y,g,z4,h,k=>by
  have E:=h u (by simp);obtain⟨z,j,L,J,W⟩:=gF d ok t sc F m w s E (lk u) [] y z4 rfl k
  have M:=(d.at y).from
  have C:=(d.at y).U? (u:=u) (by lia);have U:=(d.at y).V? (u:=u) (by lia);have P:=(d.at y).ML u (by lia);have T:lN (Bh (lk u))=lN (lk u):=by simp[Bh]
  have I:U4 [zR a.o,zF (Wl.map D.int),s2,zI (u:Int),z4] (hs Γ a y)=.nx [zR a.o,zF (Wl.map D.int),s2,zI (u:Int),j] (hs Γ a z):=by rw[<-L];generalize hs Γ a y=A,Wl.map D.int=Z at*;unfold U4;simp[M,C,U,P,T]
  obtain⟨f,H,S,p,O,r⟩:=gG d ok t sc F m w s us z (zI (u:Int)) j (λv Q=>h v (by simp[Q])) J;refine⟨f,H,S,?_,O,(W.trans r).imp λl b=>?_⟩
  .rw[zK,Ck];simp[Cg,R.Cr,qF,I,Dk];exact p
  rcases z0.mp b.2 with e|e
  .exact .inl ((m u l).mpr ⟨b.1,e⟩)
  exact .inr ⟨b.1,e⟩
theorem gH(K:SN N lk a x Γ)(c:lN Wl=N.n+1){s4:Option D}:∀(k i:Nat),i+k<=N.n->Hd Qp [0,1] [zR a.o,zF (Wl.map D.int),s2,s3,s4] k i Γ=.ok ((qM i k).map λj=> -Aa Wl j%((N.n:Int)+1)) Γ
 |0,i,_=>rfl
 |k+1,i,h=>by
  have d:=Nk (xs:=Wl) (i:=i) (by lia);have b:Qp (Ie [0,1] (.int (i:Int)) [zR a.o,zF (Wl.map D.int),s2,s3,s4]) Γ=.ok (.int (-Aa Wl i%((N.n:Int)+1))) Γ:=by generalize Wl.map D.int=Z at*;unfold Qp Ie;simp[d,B3 (w:=Aa Wl i) K,λ(t:DA)(S:PB)=>K.YG (m:="links_of") (F:=Oc) (t:=t) (S:=S) λ_ _ _ _ _ _=>rfl]
  unfold Hd;rw[b];simp[R.Eb];rw[gH K c k (i+1) (by lia)];rw[R.Eb,jP,zK]
def Bn(K:SN N lk a x Γ)(C:DO.tab "Sending" "send_by"∈Γ)(O:1<=N.n)(L:N.n<=60)(ok:N.Ok)(r:N.Mt)(sc:N.Sc ga)(F:N.Fix rm (Aa Wl))(A:IE N lk)(w:∀(y:LR)(l:Nat)(c:Int),y.Ok N->l<N.q->B y->B (y.sa N (N.fr l) l c))(d:lN Wl=N.n+1)(k:Kp N (Aa Wl) R0 B x):
  ∃y,O7 [.ref a.o,.fl (Wl.map D.int)] Γ=.ok .LA (hs Γ a y)/\Kp N (Aa Wl) R0 B y/\IJ N (Aa Wl) (λl=>l<N.q/\N.fr l<N.n) x y:=by
 have hk:=gH K d (s2:=u8) (s3:=u8) (s4:=u8) N.n 0 (by lia);generalize e:((qM 0 N.n).map λj=> -Aa Wl j%((N.n:Int)+1))=b at*;have f:lN b=N.n:=by rw[<-e];simp
 obtain⟨t,g,hp⟩:=B8 (ks:=b) (by lia);rw[f]at hp;obtain⟨y,P,Q,i,E,M⟩:=gG K ok r sc F A w d (s2:=zF (Fp b)) t x u8 u8 (λu h=>qW.mp (hp.mem_iff.mp h)) k;rw[K.hs,<-g]at i;refine⟨y,?_,E,M.imp λl h=>⟨h.1,hp.mem_iff.mpr (qW.mpr h.2)⟩⟩;have H:freeze Γ (.ok (.ref (lN Γ)) (Γ++[.lst (Fp b)]))=.ok (.fl (Fp b)) Γ:=Be (g▸Ek λ_ _=>rfl);have m:tidy Γ (.ok .LA (hs Γ a y))=.ok .LA (hs Γ a y):=Hv B6 rfl
 have v:lN (Wl.map D.int)=N.n+1:=by simp[d]
 have z:(1:Int)<=(N.n:Int):=by lia
 have s:(N.n:Int)<64:=by lia
 have I:((N.n:Int)).toNat=N.n:=by lia
 have J:=B9 (tn:=Ai (XA Jp (IA Ar (Ai (dV 1) Bb)) (dC (.int 1))) Bb) (S:=[zR a.o,zF (Wl.map D.int),u8,u8,u8]) (G:=Γ) (by simp[v]) ⟨z,s⟩ C (I▸hk);generalize Wl.map D.int=Z,hs Γ a y=p,Fp b=Y at*;unfold O7 et;rw[Aj];simp[J,H,i,m]
end
section
variable{N:OC}{lk:Nat->List Nat}{a:Ad}{x:LR}{Γ:DH}
def SN.app(K:SN N lk a x Γ)(T:DH):SN N lk a x (Γ++T):=by
 have g:∀{p:Nat}{o:DO},Γ[p]?=u7 o->(Γ++T)[p]?=u7 o:=λ{p o}h=>by rw[z9 (zZ.mp h).1];exact h
 exact⟨K.ad,g K.ho,g K.hl,g K.hf,λu b=>g (K.ML u b),g K.he,g K.hw,g K.hr⟩
def Bz{p q:Option Int}:Hi (WA p) (WA q) G=.ok (.bl (!decide (p=q))) G:=by cases p<;>cases q<;>first|rfl|simp[WA]
def Pn:(Γ++[o])[lN Γ]?=u7 o:=by simp
def CA{P:List (Option Int)}{r:Option Int}(h:u<lN P):Gg (.ref (lN Γ)) (.int (u:Int)) (WA r) (Γ++[.lst (P.map WA)])=.ok .LA (Γ++[.lst ((P.set u r).map WA)]):=by
 rw[Kr,Pn];dsimp only;rw[Nm (by simpa using h)];dsimp only;rw[xU,Fl]
 rfl
def CB(K:SN N lk a x Γ)(o:x.Ok N)(ok:N.Ok)(v:IE N lk){P:List (Option Int)}(hP:lN P=N.n+1)(k:u<N.n){d:Bool}{z4:Option D}:∃s,Ox [zR a.o,zR (lN Γ),zB d,zI (u:Int),z4] (Γ++[.lst (P.map WA)])=
  .nx [zR a.o,zR (lN Γ),zB (d&&decide (N.bw (Aa x.R) P (lk u) (gP P u)=gP P u)),zI (u:Int),s] (Γ++[.lst ((P.set u (N.bw (Aa x.R) P (lk u) (gP P u))).map WA)]):=by
 have h:=K.app [.lst (P.map WA)];have i:=B5 h o ok v Pn hP k;have g:=λ(t:DA)(S:PB)=>h.YG (m:="best_way") (F:=Ot) (t:=t) (S:=S) λ_ _ _ _ _ _=>rfl
 have f:Af (.ref (lN Γ)) (.int (u:Int)) (Γ++[.lst (P.map WA)])=.ok (WA (gP P u)) (Γ++[.lst (P.map WA)]):=Hx Pn (Yu (by lia));have l:=CA (Γ:=Γ) (P:=P) (u:=u) (r:=N.bw (Aa x.R) P (lk u) (gP P u)) (by lia);have b:=Bz (p:=N.bw (Aa x.R) P (lk u) (gP P u)) (q:=gP P u) (G:=Γ++[.lst (P.map WA)]);by_cases c:N.bw (Aa x.R) P (lk u) (gP P u)=gP P u
 .rw[MG c (by lia),decide_eq_true c,Bool.and_true];rw[decide_eq_true c]at b;generalize Γ++[.lst (P.map WA)]=e at*;refine⟨u7 (WA (N.bw (Aa x.R) P (lk u) (gP P u))),?_⟩;unfold Ox;simp[-Ri,i,g,f,b]
 rw[decide_eq_false c,Bool.and_false];rw[decide_eq_false c]at b;generalize Γ++[.lst (P.map WA)]=e,Γ++[.lst ((P.set u (N.bw (Aa x.R) P (lk u) (gP P u))).map WA)]=j at*;refine⟨u7 (WA (N.bw (Aa x.R) P (lk u) (gP P u))),?_⟩;unfold Ox;simp[-Kr,-Ri,i,g,f,l,b]
theorem gI(K:SN N lk a x Γ)(o:x.Ok N)(ok:N.Ok)(f:IE N lk):∀(k:Nat)(P:List (Option Int))(d:Bool)(b z4:Option D),lN P=N.n+1->k<=N.n->∃g c,Av (gV 3) Ox (J8 ((k:Int)-1) k) [zR a.o,zR (lN Γ),zB d,b,z4] (Γ++[.lst (P.map WA)])=
  .nx [zR a.o,zR (lN Γ),zB (d&&N.LD (Aa x.R) lk k P),g,c] (Γ++[.lst ((N.dn (Aa x.R) lk k P).map WA)])
 |0,P,d,b,z4,hP,_=>⟨b,z4,by simp[ud,Av,OC.LD,OC.dn]⟩
 |k+1,P,d,b,z4,hP,hk=>by
  obtain⟨c,j⟩:=CB K o ok f hP (u:=k) (by lia) (d:=d) (z4:=z4);obtain⟨l,h,i⟩:=gI K o ok f k (P.set k (N.bw (Aa x.R) P (lk k) (gP P k))) (d&&decide (N.bw (Aa x.R) P (lk k) (gP P k)=gP P k)) (zI (k:Int)) c (by simp[hP]) (by lia);refine⟨l,h,?_⟩;have e:((k+1:Nat):Int)-1=(k:Int):=by lia
  rw[e,ue,Ck];simp only[Cg,R.Cr,qF,j,Dk];rw[i,Bool.and_assoc]
  rfl
variable{π:Nat->Int}
theorem gJ(K:SN N lk a x Γ)(o:x.Ok N)(ok:N.Ok)(r:IE N lk)(H:N.n<1000)(way:N.Way (Aa x.R))(j:N.PK (Aa x.R) π)(m:∀u,u<N.n-> -(40000*(N.n:Int))<=π u):∀(p:Nat)(P:List (Option Int))(d z4:Option D),WV N (Aa x.R) π P->Ab N.n (XJ N π P)<p->
  ∃b f g,ZI Mw Rz (p+1) [zR a.o,zR (lN Γ),zB uA,d,z4] (Γ++[.lst (P.map WA)])=.nx [zR a.o,zR (lN Γ),zB u9,f,g] (Γ++[.lst (b.map WA)])/\
   WV N (Aa x.R) π b/\(∀v,v<=N.n->lowP N b v)/\∀u,u<N.n->N.bw (Aa x.R) b (lk u) (gP b u)=gP b u
 |0,P,d,z4,V,h=>by have:=BM V m;lia
 | p+1,P,d,z4,V,h=>by
  obtain⟨s,A,E,y⟩:=fi ok r way j N.n V (zv _) λv Y X=>⟨0,by rw[show v=N.n by lia];exact V.z,by lia⟩
  obtain⟨f,g,C⟩:=gI K o ok r N.n P u9 d z4 V.len (zv _);rw[Bool.true_and]at C;have k:(lN (P.map WA):Int)=(N.n:Int)+1:=by simp[V.len]
  have I:inR ((N.n:Int)-1):=⟨by lia,by lia⟩;have U:inR (-1:Int):=⟨by lia,by lia⟩;have W:((N.n:Int)-1-(-1)).toNat=N.n:=by lia
  have t:Ar [.ref (lN Γ)] (Γ++[.lst (P.map WA)])=.ok (.int ((N.n:Int)+1)) (Γ++[.lst (P.map WA)]):=by rw[Rr,Pn];dsimp only;rw[k]
  have i:=c7 (G:=Γ++[.lst (P.map WA)]) I U;rw[W]at i;have l:Rz [zR a.o,zR (lN Γ),zB uA,d,z4] (Γ++[.lst (P.map WA)])=.nx [zR a.o,zR (lN Γ),zB (N.LD (Aa x.R) lk N.n P),f,g] (Γ++[.lst ((N.dn (Aa x.R) lk N.n P).map WA)]):=by
   have e:(N.n:Int)+1-2=(N.n:Int)-1:=by lia
   generalize Γ++[.lst (P.map WA)]=J at*;unfold Rz;simp[-Rr,-c7,t,e,i,C]
  have B:Mw [zR a.o,zR (lN Γ),zB uA,d,z4] (Γ++[.lst (P.map WA)])=.ok u9 (Γ++[.lst (P.map WA)]):=by unfold Mw;simp
  cases c:N.LD (Aa x.R) lk N.n P with
  |true=>
   obtain⟨T,F⟩:=E c;rw[T]at s A l;rw[c]at l;refine⟨P,f,g,?_,s,A,F⟩;have q:Mw [zR a.o,zR (lN Γ),zB u9,f,g] (Γ++[.lst (P.map WA)])=.ok uA (Γ++[.lst (P.map WA)]):=by unfold Mw;simp
   unfold ZI;rw[B];simp[R.Cr,if_true,l,Dk];unfold ZI;rw[q];simp
  |false=>
   rw[c]at l y;rw[if_neg (by decide)]at y;obtain⟨b,L,S,w,M,Q,O⟩:=gJ K o ok r H way j m p (N.dn (Aa x.R) lk N.n P) f g s (by lia);refine⟨b,L,S,?_,M,Q,O⟩;unfold ZI;rw[B];simp[R.Cr,if_true,l,Dk];exact w
def JX(N:OC)(π:Nat->Int):Prop:=∀u,u<N.n-> -(40000*(N.n:Int))<=π u/\π u<=40000*(N.n:Int)
def CC{P:List (Option Int)}(t:JX N π)(V:WV N (Aa x.R) π P)(c:∀u,u<N.n->gP P u=u8)(f:N.n<=60):Ab N.n (XJ N π P)<1000000000:=by
 have h:∀u,u<N.n->XJ N π P u<=4800001:=λu b=>by have:=(t u b).2;unfold XJ;rw[c u b];dsimp only;lia
 have e:∀k:Nat,Ab k (λ_=>(4800001:Int))=4800001*k:=λk=>by
  induction k with
  |zero=>rfl
  |succ k d=>
   show Ab k _+4800001=_;rw[d];lia
 have:=Fb h;rw[e]at this;lia
def gK(K:SN N lk a x Γ)(o:x.Ok N)(ok:N.Ok)(d:IE N lk)(M:N.n<=60)(way:N.Way (Aa x.R))(p:N.PK (Aa x.R) π)(hz:π N.n=0)(t:JX N π):
  ∃j:List Int,lN j=N.n+1/\J0 [.ref a.o] Γ=.ok (.ref (lN Γ)) (Γ++[.lst (j.map D.int)])/\N.Fix (Aa x.R) (Aa j)/\(∀u,u<=N.n->Aa j u<=π u):=by
 have gn:∀u,gP (zQ N.n (u8:Option Int)++[u7 0]) u=if u=N.n then u7 0 else u8:=λu=>by
  unfold gP;rw[zY];by_cases e:u=N.n
  .rw[if_pos e,e];simp
  rw[if_neg e];by_cases h:u<N.n
  .rw[z9 (by simpa using h),qT,if_pos h];rfl
  rw[zC (by simp;lia)];rfl
 have A:WV N (Aa x.R) π (zQ N.n u8++[u7 0]):=by
  refine⟨by simp,by rw[gn,if_pos rfl],λu y h b=>?_,λu y b h=>?_⟩
  .rw[gn]at h;split at h
   .rename_i e;cases h;rw[e,hz];exact qY _
   cases h
  rw[gn,if_neg (by lia)]at h;cases h
 have hs:=CC t A (λu b=>by rw[gn,if_neg (by lia)]) M;have O:fuel=(fuel-1)+1:=by unfold fuel;lia
 obtain⟨P,Z,w4,C,V,k,X⟩:=gJ K o ok d (by lia) way p (λu b=>(t u b).1) (fuel-1) _ u8 u8 A (by unfold fuel;lia);rw[<-O]at C;obtain⟨F,le⟩:=BN ok d V k X;have val:∀u,u<=N.n->gP P u=u7 (dP P u):=λu b=>by
  obtain⟨y,h,_⟩:=k u b;unfold dP;rw[h]
  rfl
 have f:lN ((zW (N.n+1)).map (dP P))=N.n+1:=by simp
 have c:∀u,u<=N.n->Aa ((zW (N.n+1)).map (dP P)) u=dP P u:=λu b=>by rw[Gh (by rw[f];lia)];simp
 have hP:P.map WA=((zW (N.n+1)).map (dP P)).map D.int:=by
  refine jq (by simp[V.len]) λi g B=>?_
  have Q:i<lN P:=by simpa using g
  have s:=val i (by have:=V.len;lia);unfold gP at s;rw[zY,zJ Q]at s;have q:P[i]=u7 (dP P i):=s;simp[q,WA]
 refine⟨(zW (N.n+1)).map (dP P),f,?_,?_,λu b=>(c u b)▸le u b⟩
 .rw[<-hP];have H:Ej (.ref a.l) Γ=.ok (.mt a.l) Γ:=by simp[Ej,K.hl]
  have w:∀S:PB,Bg 1 [] S=[u8]:=λ_=>rfl
  have T:Es a.l (gV 0) Aq e9 [u8] (lN (x.L.map D.int)) 0 Γ=.ok (zQ (N.n+1) .LA) Γ:=by
   rw[bv K.hl λy _=>⟨[u7 y],rfl,.inr ⟨rfl,.LA,rfl,rfl⟩⟩,xB];have e:(x.L.map D.int).map (λ_=>D.LA)=zQ (N.n+1) D.LA:=by rw[List.map_const'];simp[o.ll]
   rw[e]
  have v:lN (zQ (N.n+1) D.LA)<=1000000:=by simp;lia
  have m:Gg (.ref (lN Γ)) (.int (-1)) (.int 0) (Γ++[.lst (zQ (N.n+1) .LA)])=.ok .LA (Γ++[.lst ((zQ N.n (u8:Option Int)++[u7 0]).map WA)]):=by
   rw[Kr,Pn];dsimp only;rw[show PJ (lN (zQ (N.n+1) D.LA)) (-1)=u7 N.n by simp[PJ];lia];dsimp only;rw[Fl]
   congr 2
   rw[List.replicate_succ',List.set_append_right _ _ (by simp)];simp[WA]
  have r:=K.hl;generalize x.L.map D.int=Y,(zQ N.n (u8:Option Int)++[u7 0]).map WA=Y0,zQ (N.n+1) D.LA=Y1 at*;unfold J0 ed;rw[Aj];simp[-Kr,K.left,H,w,r,T,v,m,C,Dt (Ek λ_ _=>BE)]
 refine⟨by rw[c _ (zv _)];exact F.z,λl g B W=>?_,λu b=>?_,λu b=>by rw[c u (by lia)];exact F.lo u b⟩
 .rw[c _ (ok.to l g),c _ (by lia)];exact F.fix l g B W
 .obtain⟨l,E,I,U,J⟩:=F.LS u b;exact⟨l,E,I,U,by rw[c u (by lia),c _ (ok.to l E)];exact J⟩
end
noncomputable def OB(g n:Nat):Ad:=⟨g,g+1,g+n+3,g+n+4,g+n+5,g+n+6,λu=>g+2+u⟩
def gL{g:Nat}:(OB g n).Ok n:=by constructor <;> (try intro u a)<;>(simp only[OB];lia)
noncomputable def OC.cut(N:OC)(k:Nat):OC:=⟨N.n,k,N.fr,N.to,N.wo⟩
noncomputable def NI(N:OC)(k u:Nat):List Nat:=(zW k).filter λl=>N.fr l=u
def CD{N:OC}:IE N (NI N N.q):=λu l=>by unfold NI;simp
def U7{p:Nat}{xs:List D}(h:Γ[p]?=u7 (.lst xs))(a:lN xs<1000000):Ci (.ref p) [d] Γ=.ok .LA (Γ.set p (.lst (xs++[d]))):=by rw[bo,h];exact if_pos a
def get_set{p:Nat}{b:DO}(a:p≠i)(h:Γ[i]?=u7 o):(Γ.set p b)[i]?=u7 o:=by rw[zw a];exact h
def T9{p:Nat}{a:DO}(h:Γ[p]?=u7 o):(Γ.set p a)[p]?=u7 a:=qZ (zZ.mp h).1
section
variable{N:OC}{k g:Nat}{x:LR}{Γ:DH}
def gM(K:SN (N.cut k) (NI N k) (OB g N.n) x Γ)(hk:k<1000)(hR:lN x.R=k)(B:N.fr k<=N.n){ga room:Int}(hw:N.wo k=ga*((N.n:Int)+1)-1)(hg: -1000<=ga/\ga<=1000):
  ∃f,Hf [.ref g,.int (N.fr k:Int),.int (N.to k:Int),.int ga,.int room] Γ=.ok .LA f/\SN (N.cut (k+1)) (NI N (k+1)) (OB g N.n) ⟨x.L,x.R++[room]⟩ f/\lN f=lN Γ/\∀i,i<g->f[i]?=Γ[i]? :=by
 have j:=K.ho;have E:Γ[g+N.n+3]?=u7 (.lst ((zW (N.n+1)).map λu=>D.ref (g+2+u))):=K.hf;have v:∀u,u<=N.n->Γ[g+2+u]?=u7 (.lst (Bh (NI N k u))):=K.ML;have A:Γ[g+N.n+4]?=u7 (.lst (Bh ((zW k).map N.to))):=K.he;have I:Γ[g+N.n+5]?=u7 (.lst (((zW k).map N.wo).map D.int)):=K.hw;have Z:=K.hr;have h:lN (Bh (NI N k (N.fr k)))<1000000:=by unfold Bh NI;rw[zq];have:=List.length_filter_le (λl=>decide (N.fr l=N.fr k)) (zW k);rw[xW]at this;lia
 have Iq:lN (Bh ((zW k).map N.to))=k:=by simp[Bh]
 have len3:lN (((zW k).map N.wo).map D.int)=k:=by simp
 have C:lN (x.R.map D.int)=k:=by simp[hR]
 generalize w:Bh (NI N k (N.fr k))=o,hE:Bh ((zW k).map N.to)=y,hW:((zW k).map N.wo).map D.int=z,hX:x.R.map D.int=J at*;have p:Γ[g+2+N.fr k]?=u7 (.lst o):=by rw[v _ B,w]
 let b:=Γ.set (g+2+N.fr k) (.lst (o++[.int (k:Int)]));let a:=b.set (g+N.n+4) (.lst (y++[.int (N.to k:Int)]));let c:=a.set (g+N.n+5) (.lst (z++[.int (N.wo k)]));let d:=c.set (g+N.n+6) (.lst (J++[.int room]));have H:b[g]?=_:=get_set (by lia) j;have t:a[g]?=_:=get_set (by lia) H;have F:c[g]?=_:=get_set (by lia) t;have q:b[g+N.n+4]?=_:=get_set (by lia) A;have s:a[g+N.n+5]?=_:=get_set (by lia) (get_set (by lia) I)
 have T:a[g+N.n+6]?=_:=get_set (by lia) (get_set (by lia) Z);have m:c[g+N.n+6]?=_:=get_set (by lia) T;refine⟨d,?_,?_,by simp[d,c,a,b],λi hi=>?_⟩
 .have p1:Ci (.ref (g+2+N.fr k)) [.int (k:Int)] Γ=.ok .LA b:=U7 p h;have p2:Ci (.ref (g+N.n+4)) [.int (N.to k:Int)] b=.ok .LA a:=U7 q (by lia);have Y:Ci (.ref (g+N.n+5)) [.int (N.wo k)] a=.ok .LA c:=U7 s (by lia);have M:Ci (.ref (g+N.n+6)) [.int room] c=.ok .LA d:=U7 m (by lia);have q1:Cw "Sending" "links_from" (.ref g) Γ=.ok (.ref (g+N.n+3)) Γ:=Dl j rfl;have P:Cw "Sending" "ends" (.ref g) Γ=.ok (.ref (g+N.n+4)) Γ:=Dl j rfl
  have q3:Cw "Sending" "ends" (.ref g) b=.ok (.ref (g+N.n+4)) b:=Dl H rfl;have Q:Cw "Sending" "worths" (.ref g) a=.ok (.ref (g+N.n+5)) a:=Dl t rfl;have q5:Cw "Sending" "scale" (.ref g) a=.ok (.int ((N.n:Int)+1)) a:=Dl t rfl;have q6:Cw "Sending" "rooms" (.ref g) c=.ok (.ref (g+N.n+6)) c:=Dl F rfl;have q7:Af (.ref (g+N.n+3)) (.int (N.fr k:Int)) Γ=.ok (.ref (g+2+N.fr k)) Γ:=Hx E (Ce (k:=N.fr k) (by lia) (by rw[zj,qB (by lia)];rfl))
  have q8:Ar [.ref (g+N.n+4)] Γ=.ok (.int (k:Int)) Γ:=by rw[Rr,A];dsimp only;rw[Iq]
  have S:Bq (.int ga) (.int ((N.n:Int)+1)) a=.ok (.int (ga*((N.n:Int)+1))) a:=Dr (by lia) (by lia);have O:tidy Γ (.ok .LA d)=.ok .LA d:=Hv (by simp[d,c,a,b]) rfl
  clear_value d c a b
  unfold Hf e7;rw[Aj];simp[-bo,-Rr,-Ri,p,q,s,m,p1,p2,Y,M,q1,P,q3,Q,q5,q6,q7,q8,S,O,hw.symm,Bc]
 .have s1:(zW (k+1)).map N.to=(zW k).map N.to++[N.to k]:=by rw[xO,qQ];rfl
  have X:(zW (k+1)).map N.wo=(zW k).map N.wo++[N.wo k]:=by rw[xO,qQ];rfl
  refine⟨gL,get_set (by simp[OB];lia) F,get_set (by simp[OB];lia) (get_set (by simp[OB];lia) (get_set (by simp[OB];lia) (get_set (by simp[OB];lia) K.hl))),get_set (by simp only[OB];lia) (get_set (by simp only[OB];lia) (get_set (by simp only[OB];lia) (get_set (by simp[OB];lia) E))),λu W=>?_,?_,?_,?_⟩
  .have r:u<=N.n:=W;refine get_set (by simp[OB];lia) (get_set (by simp[OB];lia) (get_set (by simp[OB];lia) ?_));have s3:NI N (k+1) u=NI N k u++if N.fr k=u then[k]else[]:=by
    unfold NI;rw[xO,List.filter_append]
    congr 1
    by_cases e:N.fr k=u<;>simp[e]
   show b[g+2+u]?=_;rw[s3];by_cases e:N.fr k=u
   .subst e;rw[if_pos rfl];refine(T9 p).trans ?_;rw[<-w];simp[Bh]
   rw[if_neg e,qX];exact get_set (by lia) (v u r)
  .refine get_set (by simp only[OB];lia) (get_set (by simp only[OB];lia) ((T9 q).trans ?_));show u7 (DO.lst (y++_))=u7 (DO.lst (Bh ((zW (k+1)).map N.to)));rw[s1,<-hE];simp[Bh]
  .refine get_set (by simp only[OB];lia) ((T9 s).trans ?_);show u7 (DO.lst (z++_))=u7 (DO.lst (((zW (k+1)).map N.wo).map D.int));rw[X,<-hW];simp
  refine(T9 m).trans ?_;rw[<-hX];simp
 have U:(Γ.set (g+2+N.fr k) (.lst (o++[.int (k:Int)])))[i]?=Γ[i]? :=zw (by lia);rw[<-U,<-zw (l:=b) (i:=g+N.n+4) (by lia)];rw[<-zw (l:=a) (i:=g+N.n+5) (by lia)];exact zw (by lia)
end
def Eu(wide:Int)(as:List ZA):List Int:=as.flatMap λa=>[Hh wide a,0]
theorem Su:∀as:List ZA,lN (Eu wide as)=2*lN as
 |[]=>rfl
 |a::as=>by show lN (Hh wide a::0::Eu wide as)=_;rw[zD,zD,Su as,zD];lia
theorem Qh:∀(as:List ZA)(i:Nat),i<lN as->Aa (Eu wide as) (2*i)=Hh wide (Am as i)/\Aa (Eu wide as) (2*i+1)=0
 |a::as,0,_=>⟨rfl,rfl⟩
 |a::as,i+1,h=>Qh as i (by simpa using h)
section
variable{n g:Nat}{as:List ZA}{L:List Int}{wide:Int}
def CF{pre rest:List ZA}{a:ZA}:Am (pre++a::rest) (lN pre)=a:=by unfold Am;rw[zY];simp
theorem gN(UA:∀x∈as,MB n x)(T:lN as<=400){o:Nat}(f:o<g):∀(rest pre:List ZA)(Γ:DH)(z:Option D),as=pre++rest->Γ[o]?=u7 (.lst (as.map KB))->SN ((VA n as).cut (2*lN pre)) (NI (VA n as) (2*lN pre)) (OB g n) ⟨L,Eu wide pre⟩ Γ->
  ∃c w,_D.forM o (gV 5) Je (lN rest) (lN pre) [zR g,s1,s2,s3,zI wide,z] Γ=.nx [zR g,s1,s2,s3,zI wide,w] c/\SN ((VA n as).cut (2*lN as)) (NI (VA n as) (2*lN as)) (OB g n) ⟨L,Eu wide as⟩ c/\lN c=lN Γ/\∀i,i<g->c[i]?=Γ[i]?
 |[],pre,Γ,z,h,d,K=>by rw[qX]at h;subst h;exact⟨Γ,z,Wv d (by simp),K,rfl,λ_ _=>rfl⟩
 | a::rest,pre,Γ,z,h,d,K=>by
  have v:Am as (lN pre)=a:=h▸CF;have q:lN pre<lN as:=by rw[h];simp
  have r:=MB.of UA q;rw[v]at r;have s:(VA n as).fr (2*lN pre)=a.fr/\(VA n as).to (2*lN pre)=a.to/\QK as (2*lN pre)=a.ga:=by have:=N8 (n:=n) (as:=as) (l:=2*lN pre) (by lia);rw[show 2*lN pre/2=lN pre by lia,v]at this;exact this
  have u:(VA n as).fr (2*lN pre+1)=a.to/\(VA n as).to (2*lN pre+1)=a.fr/\QK as (2*lN pre+1)= -a.ga:=by have:=Rj (n:=n) (as:=as) (l:=2*lN pre+1) (by lia);rw[show(2*lN pre+1)/2=lN pre by lia,v]at this;exact this
  have h1:=r.lt;have Z:=r.ga;obtain⟨e,k,I,l1,M⟩:=gM K (by lia) (Su pre) (by rw[s.1];show a.fr<=n;lia) (by show QK as _*_-1=_;rw[s.2.2];rfl) Z;obtain⟨m,y,H,l2,O⟩:=gM I (by lia) (by simp[Su]) (u.1▸r.le) (by show QK as _*_-1=_;rw[u.2.2];rfl) (by lia);rw[s.1,s.2.1]at k;rw[u.1,u.2.1]at y;have Y:2*lN pre+1+1=2*lN (pre++[a]):=by simp;lia
  have P:Eu wide pre++[Hh wide a]++[0]=Eu wide (pre++[a]):=by unfold Eu;rw[List.flatMap_append];simp
  rw[Y]at H;have E:SN ((VA n as).cut (2*lN (pre++[a]))) (NI (VA n as) (2*lN (pre++[a]))) (OB g n) ⟨L,Eu wide (pre++[a])⟩ m:=by rw[<-P];exact H
  obtain⟨c,w,J,W,Q,U⟩:=gN UA T f rest (pre++[a]) m (u7 (KB a)) (by rw[h];simp) (by rw[O o f,M o f];exact d) E;refine⟨c,w,?_,W,by rw[Q,l2,l1],λi C=>by rw[U i C,O i C,M i C]⟩;have N:∀(t:DA)(S:PB),Ig "Sending" "add_link" Hf t S (.ref g) Γ=(t S Γ).bind λB A=>Hf (.ref g::B) A:=λt S=>K.YG λ_ _ _ _ _ _=>rfl
  have F:∀(t:DA)(S:PB),Ig "Sending" "add_link" Hf t S (.ref g) e=(t S e).bind λB A=>Hf (.ref g::B) A:=λt S=>I.YG λ_ _ _ _ _ _=>rfl
  have X:Je [zR g,s1,s2,s3,zI wide,u7 (KB a)] Γ=.nx [zR g,s1,s2,s3,zI wide,u7 (KB a)] m:=by
   unfold Je KB;cases p:a.mo with
   |none=>
    have j:Hf [.ref g,.int (a.fr:Int),.int (a.to:Int),.int a.ga,.int wide] Γ=.ok .LA e:=by unfold Hh at k;rw[p]at k;exact k
    simp[N,F,j,y,WA,Dh]
   |some b=>
    have j:Hf [.ref g,.int (a.fr:Int),.int (a.to:Int),.int a.ga,.int b] Γ=.ok .LA e:=by unfold Hh at k;rw[p]at k;exact k
    simp[N,F,j,y,WA,Dh]
  have hx:(as.map KB)[lN pre]?=u7 (KB a):=by rw[h];simp
  rw[show lN (pre++[a])=lN pre+1 by simp]at J;show _D.forM o (gV 5) Je (lN rest+1) (lN pre) _ _=_;rw[Xr d hx];simp[Cg,R.Cr,qF,X,Dk];exact J
theorem gO{p:Nat}{Y:List D}:∀(k j:Nat)(Γ:DH),Γ[p]?=u7 (.lst Y)->j+k=lN Y->Es p (gV 0) Aq Lw [u8] k j Γ=.ok ((zW k).map λi=>D.ref (lN Γ+i)) (Γ++zQ k (.lst []))
 |0,j,Γ,h,b=>by unfold Es;rw[h];dsimp only;rw[if_pos (by lia)];simp
 | k+1,j,Γ,h,b=>by
  have a:tidy Γ (.ok (.ref (lN Γ)) (Γ++[.lst []]))=.ok (.ref (lN Γ)) (Γ++[.lst []]):=Dt rfl;have c:Lw [u7 Y[j]] Γ=.ok (.ref (lN Γ)) (Γ++[.lst []]):=by unfold Lw;simp[a]
  have d:=gO k (j+1) (Γ++[.lst []]) (by rw[z9 (zZ.mp h).1];exact h) (by lia);unfold Es;rw[h];dsimp only;rw[zJ (by lia)];simp[Cg,R.Eb,qF,Aq,if_true,c];rw[d];simp only[R.Eb]
  congr 1
  .rw[jZ,zK,qG]
   congr 1
   refine jJ λi _=>?_
   simp;lia
  simp[qy]
end
def Qr{T:DH}{fs:List (Str×D)}{f:Str}(h:lN fs<1000):Jl "Sending" f (.ref (lN G)) d S (G++ .ins "Sending" fs::T)=.nx S (G++ .ins "Sending" (Hn f d fs)::T):=by
 rw[cZ (by simp) h,Fl]
 rfl
def Rv{T H':DH}{fs:List (Str×D)}{f:Str}{tv:DE}(e:tv S H=.ok d H')(b:S[0]?=u7 (zR (lN G)))(a:H'=G++ .ins "Sending" fs::T)(h:lN fs<1000):Cp "Sending" (dV 0) tv f S H=.nx S (G++ .ins "Sending" (Hn f d fs)::T):=by
 have c:dV 0 S H'=.ok (.ref (lN G)) H':=by simp[b]
 rw[cY,e,R.Cr,c,R.Cr,a];exact Qr h
def CG{s:List Int}(c:S[3]?=u7 (zF (s.map D.int)))(g:lN s<1000):Bk (XA Do (Ag (IA Gf (Ai (dV 3) Bb))) (Ag (IA Ac (Ai (dC (.int 0)) Bb)))) S H=.ok (.ref (lN H)) (H++[.lst ((s++[0]).map D.int)]):=by
 have f:freeze H (.ok (.ref (lN H)) (H++[.lst (s.map D.int)]))=.ok (.fl (s.map D.int)) H:=Be Di;have b:freeze H (.ok (.ref (lN H)) (H++[.lst [.int 0]]))=.ok (.fl [.int 0]) H:=Be rfl;have e:(s++[0]).map D.int=s.map D.int++[.int 0]:=by simp
 have d:tidy H (.ok (.ref (lN H)) (H++[.lst (s.map D.int++[.int 0])]))=.ok (.ref (lN H)) (H++[.lst (s.map D.int++[.int 0])]):=Dt (by rw[<-e];exact Di);have a:lN (s.map D.int)+1<=1000000:=by simp;lia
 rw[e];generalize s.map D.int=Z at*;simp[c,f,b,Ac,a,d]
def Xo:Bk (IA Ac Bb) S H=.ok (.ref (lN H)) (H++[.lst []]):=by have a:tidy H (.ok (.ref (lN H)) (H++[.lst []]))=.ok (.ref (lN H)) (H++[.lst []]):=Dt rfl;simp[Ac,a]
section
variable{n:Nat}{as:List ZA}{s:List Int}
def CH(ok:IF n as s)(G:DH){d:Nat}(U:G[d]?=u7 (.lst (as.map KB))):∃Γ,Uk [.ref (lN G),.int n,.ref d,.fl (s.map D.int)] (G++[.ins "Sending" []])=.ok .LA Γ/\SN (VA n as) (NI (VA n as) (VA n as).q) (OB (lN G) n) ⟨s++[0],Eu (s.sum+1) as⟩ Γ/\Γ.take (lN G)=G/\lN G<lN Γ:=by
 have YM:=ok.n2;have m40:=ok.len;have F:=ok.sl;let R:=(zW (n+1)).map λi=>D.ref (lN G+2+i)
 let b:DH:=G++[.ins "Sending" [("scale",.int ((n:Int)+1)),("left",.ref (lN G+1))],.lst ((s++[0]).map D.int)];let m:DH:=G++ .ins "Sending" [("scale",.int ((n:Int)+1)),("left",.ref (lN G+1)),("links_from",.ref (lN G+n+3))]:: .lst ((s++[0]).map D.int)::(zQ (n+1) (.lst [])++[.lst R]);let c:DH:=G++ .ins "Sending" (ZM n (lN G+1) (lN G+n+3) (lN G+n+4) (lN G+n+5) (lN G+n+6)):: .lst ((s++[0]).map D.int)::(zQ (n+1) (.lst [])++[.lst R,.lst [],.lst [],.lst []])
 have K6:SN ((VA n as).cut (2*lN ([]:List ZA))) (NI (VA n as) (2*lN ([]:List ZA))) (OB (lN G) n) ⟨s++[0],Eu (s.sum+1) []⟩ c:=by
  have B:∀(k:Nat)(o:DO),(DO.ins "Sending" (ZM n (lN G+1) (lN G+n+3) (lN G+n+4) (lN G+n+5) (lN G+n+6)):: .lst ((s++[0]).map D.int)::(zQ (n+1) (.lst [])++[.lst R,.lst [],.lst [],.lst []]))[k]?=u7 o->c[lN G+k]?=u7 o:=λk o h=>by rw[zM (by lia),qI];exact h
  have A:∀(k:Nat)(o:DO),[DO.lst R,.lst [],.lst [],.lst []][k]?=u7 o->c[lN G+(n+3+k)]?=u7 o:=λk o h=>by refine B _ _ ?_;rw[show n+3+k=(n+1+k)+1+1 by lia,j6,j6,zM (by simp)];simpa using h
  refine⟨gL,B 0 _ rfl,B 1 _ rfl,A 0 _ rfl,λu hu=>?_,A 1 _ rfl,A 2 _ rfl,A 3 _ rfl⟩;have hu':u<=n:=hu;have:=B (2+u) (.lst []) (by rw[show 2+u=u+1+1 by lia,j6,j6,z9 (by simp;lia),qT,if_pos (by lia)])
  rw[<-xQ]at this;exact this
 have t:=(zZ.mp U).1;have I:c[d]?=u7 (.lst (as.map KB)):=by rw[z9 t];exact U
 obtain⟨Γ,w,hL,K,v,y⟩:=gN ok.RG (by lia) t (s1:=zI n) (s2:=zR d) (s3:=zF (s.map D.int)) as [] c u8 rfl I K6;have J:lN G<lN Γ:=by rw[v];simp[c]
 refine⟨Γ,?_,K,?_,J⟩
 .let a:PB:=[zR (lN G),zI n,zR d,zF (s.map D.int),zI (s.sum+1),u8];let j:DH:=G++[.ins "Sending" [("scale",.int ((n:Int)+1))]];let p:DH:=G++ .ins "Sending" [("scale",.int ((n:Int)+1)),("left",.ref (lN G+1)),("links_from",.ref (lN G+n+3)),("ends",.ref (lN G+n+4))]:: .lst ((s++[0]).map D.int)::(zQ (n+1) (.lst [])++[.lst R,.lst []]);let l:DH:=G++ .ins "Sending" [("scale",.int ((n:Int)+1)),("left",.ref (lN G+1)),("links_from",.ref (lN G+n+3)),("ends",.ref (lN G+n+4)),("worths",.ref (lN G+n+5))]:: .lst ((s++[0]).map D.int)::(zQ (n+1) (.lst [])++[.lst R,.lst [],.lst []])
  have t1:LC (XA Do (IA Gd (Ai (dV 3) Bb)) (dC (.int 1))) (gV 4) [zR (lN G),zI n,zR d,zF (s.map D.int),u8,u8] (G++[.ins "Sending" []])=.nx a (G++[.ins "Sending" []]):=by show _=SR.nx [zR (lN G),zI n,zR d,zF (s.map D.int),zI (s.sum+1),u8] _;simp
  have t2:Cp "Sending" (dV 0) (XA Do (dV 1) (dC (.int 1))) "scale" a (G++[.ins "Sending" []])=.nx a j:=Rv (fs:=[]) (by simp[a]) rfl rfl (by simp);have t3:Cp "Sending" (dV 0) (Bk (XA Do (Ag (IA Gf (Ai (dV 3) Bb))) (Ag (IA Ac (Ai (dC (.int 0)) Bb))))) "left" a j=.nx a b:=by
   have e:(D.ref (lN j))=D.ref (lN G+1):=by simp[j]
   have:=Rv (f:="left") (CG (S:=a) rfl (by lia)) rfl (show j++[DO.lst ((s++[0]).map D.int)]=G++ .ins "Sending" [("scale",.int ((n:Int)+1))]::[DO.lst ((s++[0]).map D.int)] by simp[j]) (by simp);rw[e]at this;exact this
  have r:lN b=lN G+2:=by simp[b]
  have g:b[lN G+1]?=u7 (.lst ((s++[0]).map D.int)):=by
   rw[zM (by lia),qI]
   rfl
  have L:0+(n+1)=lN ((s++[0]).map D.int):=by simp[F]
  have x:=gO (n+1) 0 b g L;have cv:Bv (De (Ay "Sending" (dV 0) "left")) 1 [] (gV 0) Aq Lw a b=.ok (.ref (lN G+n+3)) (b++zQ (n+1) (.lst [])++[.lst R]):=by
   have N:Cw "Sending" "left" (.ref (lN G)) b=.ok (.ref (lN G+1)) b:=Dl (fs:=[("scale",.int ((n:Int)+1)),("left",.ref (lN G+1))]) (by simp[b]) rfl;have E:Ej (.ref (lN G+1)) b=.ok (.mt (lN G+1)) b:=by simp[Ej,g]
   have P:∀S:PB,Bg 1 [] S=[u8]:=λ_=>rfl
   have Q:((zW (n+1)).map λi=>D.ref (lN b+i))=R:=by
    refine jJ λi _=>?_
    rw[r]
   rw[Q]at x;have e4:lN R<=1000000:=by simp[R];lia
   have e5:lN (b++zQ (n+1) (DO.lst []))=lN G+n+3:=by simp[r];lia
   have C:a[0]?=u7 (zR (lN G)):=rfl;have O:lN ((s++[0]).map D.int)=n+1:=by lia
   clear_value R b a
   generalize(s++[0]).map D.int=Z,b++zQ (n+1) (DO.lst [])=H2' at*;simp[N,E,C,O,P,g,x,Ac,e4,e5]
  have t4:Cp "Sending" (dV 0) (Bv (De (Ay "Sending" (dV 0) "left")) 1 [] (gV 0) Aq Lw) "links_from" a b=.nx a m:=by have:=Rv (f:="links_from") cv rfl (show b++zQ (n+1) (.lst [])++[.lst R]=G++ .ins "Sending" [("scale",.int ((n:Int)+1)),("left",.ref (lN G+1))]::(.lst ((s++[0]).map D.int)::(zQ (n+1) (.lst [])++[.lst R])) by simp[b]) (by simp);exact this
  have nx:∀(H:DH)(T:DH)(fs:List (Str×D))(f:Str)(k:Nat),H=G++ .ins "Sending" fs::T->lN H=k->lN fs<1000->Cp "Sending" (dV 0) (Bk (IA Ac Bb)) f a H=.nx a (G++ .ins "Sending" (Hn f (.ref k) fs)::(T++[.lst []])):=λH T fs f k N E Q=>by rw[<-E];exact Rv Xo rfl (by rw[N];simp) Q
  have t5:Cp "Sending" (dV 0) (Bk (IA Ac Bb)) "ends" a m=.nx a p:=by have:=nx m _ _ "ends" (lN G+n+4) rfl (by simp[m];lia) (by simp);simp only[j3,qk,xG]at this;exact this
  have t6:Cp "Sending" (dV 0) (Bk (IA Ac Bb)) "worths" a p=.nx a l:=by have:=nx p _ _ "worths" (lN G+n+5) rfl (by simp[p];lia) (by simp);simp only[j3,qk,xG,q9]at this;exact this
  have t7:Cp "Sending" (dV 0) (Bk (IA Ac Bb)) "rooms" a l=.nx a c:=by have:=nx l _ _ "rooms" (lN G+n+6) rfl (by simp[l];lia) (by simp);simp only[j3,qk,xG,q9]at this;exact this
  have t8:Bo (De (dV 2)) (gV 5) Je a c=.nx [zR (lN G),zI n,zR d,zF (s.map D.int),zI (s.sum+1),w] Γ:=by
   have C:dV 2 a c=.ok (.ref d) c:=rfl;have O:Ej (.ref d) c=.ok (.mt d) c:=by simp[Ej,I]
   rw[sd,se,C,_D.R.Eb,O]
   show(match c[d]? with |some (.lst xs)=>_D.forM d (gV 5) Je (lN xs) 0 a c|_=>.bad)=_
   rw[I];show _D.forM d (gV 5) Je (lN (as.map KB)) 0 a c=_;rw[zq];exact hL
  have Y:tidy (G++[.ins "Sending" []]) (.ok .LA Γ)=.ok .LA Γ:=by
   refine cf λz=>?_
   have X:(Γ.take (lN (G++[DO.ins "Sending" []])))[lN G]?=u7 (.ins "Sending" []):=by rw[z];simp
   rw[qx (by simp)]at X;have W:Γ[lN G]?=u7 (.ins "Sending" (ZM n _ _ _ _ _)):=K.ho;rw[X]at W;cases W
  clear_value c l p m b j a
  unfold Uk e8;rw[Aj];simp only[S7,zK,qV,j3,q9,zQ,t1,t2,t3,t4,t5,t6,t7,t8,U8];simp[Y]
 refine j5 λi=>?_
 by_cases M:i<lN G
 .rw[qx M,y i M,z9 M]
 rw[zC (by rw[jQ];lia),zC (by lia)]
end
theorem gQ:∀l:List Nat,I8 (Bh l)=u7 (l.map λ(i:Nat)=>V.int (i:Int))
 |[]=>rfl
 |i::l=>by
  show I8 (.int (i:Int)::Bh l)=_;unfold I8;rw[gQ l]
  rfl
theorem gS(d:Nat):∀l:List Nat,LN (.int (d:Int)) (l.map λ(i:Nat)=>V.int (i:Int))=decide (d∈l)
 |[]=>rfl
 |i::l=>by
  have e:=gS d l;unfold LN at*;rw[zK,j0,e];by_cases h:d=i
  .subst h;simp[HI]
  have b:¬i=d:=λz=>h z.symm
  have c:¬((i:Int)=(d:Int)):=by lia
  simp[HI,h,b,c]
section
variable{n:Nat}{as:List ZA}{s:List Int}
def CI(ok:IF n as s)(G:DH){c:Nat}(o:G[c]?=u7 (.lst (as.map KB))):Tu [.int n,.ref c] G=.ok .LA G:=by
 have M:=ok.n2;have J:=ok.len
 let F:D->Option D:=λd=>match d with
  |.tup [a,_,.LA,_]=>u7 a
  |_=>u8
 have B:∀S:PB,Bg 1 [] S=[u8]:=λ_=>rfl
 have C:Es c (gV 0) Yb Uz [u8] (lN (as.map KB)) 0 G=.ok ((as.map KB).filterMap F) G:=bv o λy P=>by
  obtain⟨x,W,rfl⟩:=qw.mp P;refine⟨[u7 (KB x)],rfl,?_⟩;unfold Yb Uz;cases h:x.mo with
  |none=>
   refine .inr ⟨?_,.int x.fr,?_,?_⟩
   .simp[KB,h,WA,Dh]
   .simp[KB]
   simp[KB,h,WA,F]
  |some b=>
   refine .inl ⟨?_,?_⟩
   .simp[KB,h,WA,Dh]
   simp[KB,h,WA,F]
 have H:∀l:List ZA,(l.map KB).filterMap F=Bh ((l.filter λx=>x.mo.isNone).map ZA.fr):=λl=>by
  induction l with
  |nil=>rfl
  |cons x l m=>
   rw[zK,qR];cases h:x.mo with
   |_=>simp[KB,h,WA,F,List.filter_cons,Bh]at m⊢;exact m
 rw[H]at C;have j:∀u,u<n->u∈(as.filter λx=>x.mo.isNone).map ZA.fr:=λu q=>by obtain⟨x,I,r,Q⟩:=ok.way u q;exact qw.mpr ⟨x,List.mem_filter.mpr ⟨I,by rw[Q];rfl⟩,r⟩
 have p:lN (Bh ((as.filter λx=>x.mo.isNone).map ZA.fr))<=1000000:=by have:=List.length_filter_le (λx:ZA=>x.mo.isNone) as;simp[Bh,zq];lia
 have L:freeze G (.ok (.ref (lN G)) (G++[.lst (Bh ((as.filter λx=>x.mo.isNone).map ZA.fr))]))=.ok (.fl (Bh ((as.filter λx=>x.mo.isNone).map ZA.fr))) G:=Be (Ek λ_ _=>rfl);generalize(as.filter λx=>x.mo.isNone).map ZA.fr=U at*;have t:∀u,u<n->Ip (.int (u:Int)) (.fl (Bh U)) G=.ok (.bl uA) G:=λu q=>by
  unfold Ip inD;dsimp only
  rw[show Bm (.fl (Bh U)) G=u7 (Bh U)from rfl,show Km (.int (u:Int))=u7 (V.int (u:Int))from rfl]
  dsimp only;rw[gQ,Option.map_some,gS,decide_eq_true (j u q)]
  rfl
 have A:∀(k i:Nat)(z:Option D)(f g:Option D),i+k<=n->∃w,Av (gV 3) Pr (Al (i:Int) k) [f,g,zF (Bh U),z] G=.nx [f,g,zF (Bh U),w] G:=λk=>by
  induction k with
  |zero=>exact λi z f g _=>⟨z,rfl⟩
  |succ k m=>
   intro i z f g T;have K:Pr [f,g,zF (Bh U),zI (i:Int)] G=.nx [f,g,zF (Bh U),zI (i:Int)] G:=by unfold Pr;generalize Bh U=Z at*;simp[t i (by lia)]
   obtain⟨w,r⟩:=m (i+1) (zI (i:Int)) f g (by lia);refine⟨w,?_⟩;rw[Eh,Ck];simp[Cg,R.Cr,qF,K,Dk];have e:(i:Int)+1=((i+1:Nat):Int):=by lia
   rw[e,r]
 obtain⟨w,A⟩:=A n 0 u8 (zI n) (zR c) (by lia);have E:inR (n:Int):=⟨by lia,by lia⟩;have v:Av (gV 3) Pr (Al 0 n) [zI n,zR c,zF (Bh U),u8] G=.nx [zI n,zR c,zF (Bh U),w] G:=A;generalize Bh U=Z,as.map KB=Y at*;unfold Tu fB;rw[Aj];have O:Ej (.ref c) G=.ok (.mt c) G:=by simp[Ej,o]
 simp[O,o,B,C,Ac,p,L,E,v,Bc]
end
section
variable{N:OC}{lk:Nat->List Nat}{a:Ad}{x:LR}{Γ:DH}
theorem gT:∀(m:Nat)(R:List Int)(i:Nat),lN R=2*m->i%2=0->((R.zipIdx i).filterMap λp=>if p.2%2=1 then u7 p.1 else u8)=(zW m).map λj=>R.getD (2*j+1) 0
 |0,R,i,h,_=>by
  have:=qO (by omega);subst this
  rfl
 | m+1,R,i,h,c=>by
  match R,h with
  |b::d::R,h=>
   rw[qP,qP,qR,qR,if_neg (by lia),if_pos (by lia)];rw[gT m R (i+1+1) (by simp at h;lia) (by lia),jZ,zK,qG]
   rfl
def CJ(K:SN N lk a x Γ)(o:x.Ok N)(w:N.q=2*m)(v:m<=1000):Kh [.ref a.o] Γ=.ok (.ref (lN Γ)) (Γ++[.lst (((zW m).map λi=>Aa x.R (2*i+1)).map D.int)]):=by
 have hs:=Pg K.hr;have rl:=o.rl
 let F:D->Option D:=λd=>match d with
  |.tup [.int i,r]=>if i%2=1 then u7 r else u8
  |_=>u8
 have f:∀S:PB,Bg 2 [] S=[u8,u8]:=λ_=>rfl
 have g:∀j,Fw 0 (.ref a.r) j Γ=u7 (Ez (x.R.map D.int))[j]? :=λj=>by
  have:=cV (xs:=x.R.map D.int) j Γ;unfold Fw at this⊢;rw[hs]
  rw[show Bm (.fl (x.R.map D.int)) Γ=u7 (x.R.map D.int)from rfl]at this
  exact this
 have k:Dn (Fw 0 (.ref a.r)) (Bp 2 (Ak (gV 0) (Ak (gV 1) Bs))) Yv Z0 [u8,u8] (lN (x.R.map D.int)) 0 Γ=.ok ((Ez (x.R.map D.int)).filterMap F) Γ:=Vk g (λy l=>by
  unfold Ez at l;obtain⟨⟨r,i⟩,z,rfl⟩:=qw.mp l;refine⟨[zI (i:Int),u7 r],by simp,?_⟩;unfold Yv Z0;by_cases c:(i:Int)%2=1
  .exact .inr ⟨by simp[c],r,by simp,by simp[F,c]⟩
  exact .inl ⟨by simp[c],by simp[F,c]⟩) (by rw[Vu];exact zv _)
 have t:(Ez (x.R.map D.int)).filterMap F=((zW m).map λi=>Aa x.R (2*i+1)).map D.int:=by
  have:=gT m x.R 0 (by lia) rfl;unfold Ez Aa;rw[<-this,List.zipIdx_map,qG,j9,List.map_filterMap]
  congr 1
  funext p;obtain⟨r,i⟩:=p;have e:((i:Int)%2=1)=(i%2=1):=by simp;lia
  by_cases c:i%2=1<;>simp[F,c,e]
 rw[t]at k;have h:lN (((zW m).map λi=>Aa x.R (2*i+1)).map D.int)<=1000000:=by simp;lia
 have u:tidy Γ (.ok (.ref (lN Γ)) (Γ++[.lst (((zW m).map λi=>Aa x.R (2*i+1)).map D.int)]))=.ok (.ref (lN Γ)) (Γ++[.lst (((zW m).map λi=>Aa x.R (2*i+1)).map D.int)]):=Dt Di;have b:Et [.ref a.r] Γ=.ok (.fn (lN (x.R.map D.int)) (Fw 0 (.ref a.r))) Γ:=by simp[Et,Ih,hs,lenOf]
 generalize((zW m).map λi=>Aa x.R (2*i+1)).map D.int=Z,x.R.map D.int=Y at*;unfold Kh ef;rw[Aj];simp[K.rooms,b,f,k,Ac,h,u]
end
theorem Sx{s:List Int}:∀k:Nat,k<=lN s->Ab k (Aa s)=(s.take k).sum
 |0,_=>rfl
 |k+1,h=>by show Ab k (Aa s)+Aa s k=_;rw[Sx k (by lia),List.take_add_one,zJ (by lia),xN,Gh (by lia)];simp
structure BT (n:Nat) (as:List ZA) (s:Nat->Int) (wide:Int) (x:LR):Prop where
 b:TQ n as s wide x
 t:Ab (n+1) (Aa x.L)=wide-1
section
variable{n:Nat}{as:List ZA}{s:Nat->Int}{wide:Int}{x:LR}
def CK(ok:(VA n as).Ok)(y:LR)(l:Nat)(c:Int)(K:y.Ok (VA n as))(d:l<(VA n as).q)(h:BT n as s wide y):BT n as s wide (y.sa (VA n as) ((VA n as).fr l) l c):=by
 refine⟨BW ok K d h.b,?_⟩;have g:Ab (n+1) (λv=>(if v=(VA n as).fr l then c else 0))=c:=Ho (by have:_<=n:=ok.fr l d;lia);have e:Ab (n+1) (λv=>(if v=(VA n as).to l then c else 0))=c:=Ho (by have:_<=n:=ok.to l d;lia);have f:Ab (n+1) (Aa (y.sa (VA n as) ((VA n as).fr l) l c).L)+Ab (n+1) (λv=>(if v=(VA n as).fr l then c else 0))=Ab (n+1) (Aa y.L)+Ab (n+1) (λv=>(if v=(VA n as).to l then c else 0)):=by
  rw[<-Ep,<-Ep];refine Cu λv _=>?_
  rw[Oo ok K d];lia
 have:=h.t;lia
structure Iv (n:Nat) (as:List ZA) (s:Nat->Int) (wide:Int) (x:LR) (Wl:List Int):Prop where
 ok:x.Ok (VA n as)
 b:BT n as s wide x
 wl:lN Wl=n+1
 fx:(VA n as).Fix (Aa x.R) (Aa Wl)
 W?:(VA n as).PK (Aa x.R) (Aa Wl)
 up:∀u,u<n->Aa Wl u<=40000*(n:Int)
def todo(n:Nat)(as:List ZA)(wide:Int)(x:LR)(Wl:List Int):Int:=Ab n (λu=>Aa Wl u+40000*(n:Int))*(40*wide)+HJ (VA n as) (Aa Wl) x
def Uj(Z:XG n as s wide)(K:x.Ok (VA n as))(B:BT n as s wide x)(W:Nat->Int):0<=HJ (VA n as) W x/\HJ (VA n as) W x<40*wide:=by
 have e:=Z.YM;have f:∀u,u<n->0<=Aa x.L u*UD (VA n as) W u/\Aa x.L u*UD (VA n as) W u<=30*Aa x.L u:=λu c=>by
  have b:=K.ln u (by show u<=n;lia);have d:=Kl (N:=VA n as) (W:=W) u;have g:UD (VA n as) W u<=30:=by have:_<=(n:Int):=d.2;lia
  refine⟨j8 b d.1,?_⟩;rw[xS];exact q0 g b
 have b:=Fb λu c=>(f u c).1
 rw[Gw]at b;have d:=Fb λu c=>(f u c).2
 rw[W7]at d;have g:=Vt (k:=n) (n:=n+1) (by lia) λv j=>K.ln v (by show v<=n;lia)
 have h:=B.t;have i:0<=Ab n s:=by have:=Fb Z.sn;rw[Gw]at this;exact this
 refine⟨b,?_⟩;show Ab n _<_;lia
def CL{y:LR}{f c:List Int}(Z:XG n as s wide)(I:Iv n as s wide x f)(p:Iv n as s wide y c)(le:∀u,u<=n->Aa c u<=Aa f u)(o:(VA n as).PK (Aa y.R) (Aa f))(S:IJ (VA n as) (Aa f) (λl=>l<(VA n as).q/\(VA n as).fr l<n) x y)(h:0<Ab n (Aa x.L)):todo n as wide y c+1<=todo n as wide x f:=by
 have M:=Uj Z p.ok p.b (Aa c);have J:=Uj Z I.ok I.b (Aa f);have i:0<40*wide:=by lia
 have g:(∃u,u<n/\Aa c u+1<=Aa f u)->todo n as wide y c+1<=todo n as wide x f:=λH=>by
  obtain⟨u,d,j⟩:=H;have A:∀v,v<n->(Aa c v+40000*(n:Int))+(if v=u then 1 else 0)<=Aa f v+40000*(n:Int):=λv N=>by
   have:=le v (by lia);by_cases e:v=u
   .rw[if_pos e,e];lia
   rw[if_neg e];lia
  have r:=Fb A;rw[Ep,Ho d]at r;have B:=q0 r (xR i);rw[Int.add_mul,Int.one_mul]at B;unfold todo;lia
 by_cases hs:HJ (VA n as) (Aa f) y=HJ (VA n as) (Aa f) x
 .obtain⟨K,w,E⟩:=S.same hs;have k:∃u,u<n/\0<Aa x.L u:=by
   refine Classical.byContradiction λz=>?_
   have j:∀u,u<n->Aa x.L u<=0:=λu d=>Int.not_lt.mp λq=>z ⟨u,d,q⟩
   have:=Fb j;rw[Gw]at this;lia
  obtain⟨u,d,j⟩:=k;refine g ⟨u,d,Pp (La (n:=n) Z.RG Z.YM) o p.fx le d λl F m C=>?_⟩;rw[w];rcases E l ⟨F,m▸d⟩ (by unfold JH;rw[m];exact C)with z|z
  .rw[m]at z;lia
  exact z
 by_cases hw:∃u,u<n/\Aa c u≠Aa f u
 .obtain⟨u,d,j⟩:=hw;have:=le u (by lia);exact g ⟨u,d,by lia⟩
 .have t:∀u,u<n->Aa c u=Aa f u:=λu d=>Classical.byContradiction λz=>hw ⟨u,d,z⟩
  have j:HJ (VA n as) (Aa c) y=HJ (VA n as) (Aa f) y:=Cu λu d=>by unfold UD;rw[t u d]
  have r:=S.le;unfold todo;rw[j,Cu λu d=>by rw[t u d]];lia
variable{lk:Nat->List Nat}{a:Ad}{Γ:DH}{sl:List Int}
theorem gU(Z:XG n as s wide)(N:1<=n)(C:IE (VA n as) lk){x0:LR}(p:SN (VA n as) lk a x0 Γ)(Q:∀y,DO.tab "Sending" "send_by"∈hs Γ a y){A1 A2:D}:∀(w:Nat)(x:LR)(e:List Int),Iv n as s wide x e->todo n as wide x e<w->
  ∃r d,ZI Pq Q5 w [zI n,u7 A1,u7 A2,zR a.o,zF (e.map D.int),u8,u8] (hs Γ a x)=.nx [zI n,u7 A1,u7 A2,zR a.o,zF (d.map D.int),u8,u8] (hs Γ a r)/\Iv n as s wide r d/\∀u,u<n->Aa r.L u=0
 |0,x,e,I,h=>by
  have f2:=Uj Z I.ok I.b (Aa e);have B:∀u,u<n->0<=Aa e u+40000*(n:Int):=λu i=>by have: -(40000*(n:Int))<=_:=I.fx.lo u i;lia
  have j:=Fb B;rw[Gw]at j;have:=j8 j (show 0<=40*wide by lia);unfold todo at h;lia
 | w+1,x,e,I,h=>by
  have q:=Z.YM;have ok:=La Z.RG Z.YM;have K:=p.at x;have ll:lN x.L=n+1:=I.ok.ll;have cut:cutD (x.L.map D.int) u8 (u7 (n:Int))=(x.L.take n).map D.int:=by rw[f6 (by simp;lia),List.map_take]
  have fz:∀G:DH,freeze G (.ok (.ref (lN G)) (G++[.lst ((x.L.take n).map D.int)]))=.ok (.fl ((x.L.take n).map D.int)) G:=λG=>Be Di
  have sl:∀G:DH,G[a.l]?=u7 (.lst (x.L.map D.int))->Gk (.ref a.l) u8 (u7 (n:Int)) G=.ok (.ref (lN G)) (G++[.lst ((x.L.take n).map D.int)]):=λG hG=>by
   show(match Em (.ref a.l) G with |some xs=>R.ok (D.ref (lN G)) (G++[DO.lst (cutD xs u8 (u7 (n:Int)))])|none=>R.bad)=_
   rw[show Em (.ref a.l) G=u7 (x.L.map D.int) by simp[Em,hG]];dsimp only;rw[cut]
  have A:Pq [zI n,u7 A1,u7 A2,zR a.o,zF (e.map D.int),u8,u8] (hs Γ a x)=.ok (decide (0<(x.L.take n).sum)) (hs Γ a x):=by have e3:=fz (hs Γ a x);have e4:Gd [.fl ((x.L.take n).map D.int)] (hs Γ a x)=.ok (.int (x.L.take n).sum) (hs Γ a x):=Yz;generalize hs Γ a x=E,e.map D.int=Y,(x.L.take n).map D.int=Y1 at*;unfold Pq;simp[K.left,sl _ K.hl,e3,e4]
  by_cases c:0<(x.L.take n).sum
  .rw[decide_eq_true c]at A;have c':0<Ab n (Aa x.L):=by rw[Sx n (by lia)];exact c
   obtain⟨y,T,k,S⟩:=Bn K (Q x) N (by show n<=60;lia) ok Zk O8 I.fx C (λy l c B j M=>CK ok y l c B j M) I.wl ⟨I.ok,λl _ h=>.inl h,I.b⟩;rw[gD p.ad.lr]at T;have f:=BU ok Zk I.W? k.g;obtain⟨d,J,hw,U,le⟩:=gK (p.at y) k.ok ok C (by show n<=60;lia) (gB Z k.ok k.b.b) f I.fx.z λu i=>⟨I.fx.lo u i,I.up u i⟩
   have O:Iv n as s wide y d:=⟨k.ok,k.b,J,U,ft ok f U I.fx.z le,λu i=>Int.le_trans (le u (by show u<=n;lia)) (I.up u i)⟩;have tl:=CL Z I O le f S c';obtain⟨r,H,hL,I2,z⟩:=gU Z N C p Q (A1:=A1) (A2:=A2) w y d O (by lia);refine⟨r,H,?_,I2,z⟩;have hb:Q5 [zI n,u7 A1,u7 A2,zR a.o,zF (e.map D.int),u8,u8] (hs Γ a x)=.nx [zI n,u7 A1,u7 A2,zR a.o,zF (d.map D.int),u8,u8] (hs Γ a y):=by
    have m2:=λ(t:DA)(S:PB)=>(p.at y).YG (m:="best_ways") (F:=J0) (t:=t) (S:=S) λ_ _ _ _ _ _=>rfl
    have X:freeze (hs Γ a y) (.ok (.ref (lN (hs Γ a y))) (hs Γ a y++[.lst (d.map D.int)]))=.ok (.fl (d.map D.int)) (hs Γ a y):=Be Di;generalize hs Γ a x=E,hs Γ a y=Γ8,e.map D.int=Y,d.map D.int=Y' at*;unfold Q5;simp[λ(t:DA)(S:PB)=>K.YG (m:="send_by") (F:=O7) (t:=t) (S:=S) λ_ _ _ _ _ _=>rfl,m2,T,hw,X]
   unfold ZI;rw[A];simp[R.Cr,if_true,hb,Dk];exact hL
  rw[decide_eq_false c]at A;refine⟨x,e,?_,I,λu i=>?_⟩
  .unfold ZI;rw[A];simp
  .have B:Ab n (Aa x.L)<=0:=by rw[Sx n (by lia)];lia
   have P:∀v,v<n->0<=Aa x.L v:=λv W=>I.ok.ln v (by show v<=n;lia)
   have j:∀v,v<n->(if v=u then Aa x.L v else 0)<=Aa x.L v:=λv W=>by
    have:=P v W
    split <;> lia
   have M:=Fb j;rw[Ho i]at M;have:=P u i;lia
end
theorem gW:∀m:Nat,((zW m).map g).sum=Ab m g
 |0=>rfl
 |m+1=>by rw[xO,qQ,xN,gW m];show Ab m g+(g m+0)=Ab m g+g m;lia
section
variable{n:Nat}{as:List ZA}{s:Nat->Int}{wide:Int}{x:LR}{W:Nat->Int}
theorem gX(Z:XG n as s wide)(K:x.Ok (VA n as))(B:TQ n as s wide x)(F:(VA n as).Fix (Aa x.R) W):∀(k u:Nat),u<n->UD (VA n as) W u<=k->∃j,TW (lN as) (Am as) (VH x) (gn (VA n as) W) n j u
 |0,u,g,h=>by have:=Z5 (La Z.RG Z.YM) O8 F g;lia
 | k+1,u,g,h=>by
  have ok:=La Z.RG Z.YM;obtain⟨l,q,a,m,y⟩:=F.LS u g;have v:l<2*lN as:=q;obtain⟨d,w⟩:=fq ok O8 F q (a▸g) (a▸y);have z:(VA n as).to l<=n:=ok.to l q;have f:∃j,TW (lN as) (Am as) (VH x) (gn (VA n as) W) n j ((VA n as).to l):=by
   by_cases e:(VA n as).to l=n
   .rw[e];exact⟨0,.here⟩
   exact gX Z K B F k _ (by lia) (by rw[a]at w;lia)
  obtain⟨j,f⟩:=f;by_cases r:l%2=0
  .obtain⟨p,i,o⟩:=N8 r;rw[p]at a d;rw[i]at f d;rw[o]at d;rw[<-a];refine⟨j+1,.on (by lia) (λb t=>?_) (by lia) f⟩;have c:=B.VR (l/2) (by lia);unfold Hh at c;rw[t]at c;dsimp only at c;rw[show l=2*(l/2) by lia]at m;unfold VH;lia
  obtain⟨p,i,o⟩:=Rj r;rw[p]at a d;rw[i]at f d;rw[o]at d;rw[<-a];refine⟨j+1,.back (by lia) ?_ (by lia) f⟩;rw[show l=2*(l/2)+1 by lia]at m;exact m
theorem TW.congr{a:Nat->ZA}{p d d':Nat->Int}(o:∀i,i<m->p i=f i)(hd:∀u,u<=n->d' u=d u)(e:∀i,i<m->(a i).fr<=n/\(a i).to<=n)(h:TW m a f d n k u):TW m a p d' n k u:=by
 induction h with
 |here=>exact .here
 |on c g l _ j=>exact .on c (λb h=>(o _ c)▸g b h) (by rw[hd _ (e _ c).1,hd _ (e _ c).2];exact l) j
 |back c g l _ j=>exact .back c ((o _ c)▸g) (by rw[hd _ (e _ c).1,hd _ (e _ c).2];exact l) j
def CN(Z:XG n as s wide)(K:x.Ok (VA n as))(B:TQ n as s wide x)(j:∀u,u<n->Aa x.L u=0)(d:∀i,i<lN as->f i=VH x i):MI n (lN as) (Am as) s f:=by
 refine⟨λi a=>?_,λi b a h=>?_,λv g=>?_⟩
 .rw[d i a];exact K.rn (2*i+1) (by show 2*i+1<2*lN as;lia)
 .have c:=B.VR i a;have r:=K.rn (2*i) (by show 2*i<2*lN as;lia);unfold Hh at c;rw[h]at c;rw[d i a];unfold VH;dsimp only at c;lia
 have b:=B.HX v g;rw[j v g]at b;have e:∀q:Nat->Nat,Ab (lN as) (λi=>if q i=v then f i else 0)=Ab (lN as) (λi=>if q i=v then VH x i else 0):=λq=>Cu λi a=>by rw[d i a]
 unfold ex Cj UN at b;unfold Cj UN;rw[e λi=>(Am as i).fr,e λi=>(Am as i).to];lia
end
def CO{a:DH}(h:a.take (lN G)=G)(b:TB (lN G) d=u9):tidy G (.ok d a)=.ok d G:=by unfold tidy;dsimp only;rw[if_pos h,if_pos b]
section
variable{n:Nat}{as:List ZA}{s:List Int}
def Ys(ok:IF n as s):XG n as (Aa s) (s.sum+1):=by
 have b:=ok.sl;refine⟨ok.n2,ok.RG,λk hk=>?_,λv g=>?_,?_⟩
 .obtain⟨x,c,f,d⟩:=ok.way k hk;obtain⟨i,a,e⟩:=xq c
  refine⟨i,a,?_,?_⟩<;>rw[Yp a,e]<;>assumption
 .rw[Gh (by lia)];exact ok.sn _ (qK _)
 rw[Sx n (by lia),xA (by lia)]
def CP(ok:IF n as s):LR.Ok (VA n as) ⟨s++[0],Eu (s.sum+1) as⟩/\BT n as (Aa s) (s.sum+1) ⟨s++[0],Eu (s.sum+1) as⟩:=by
 have Z:=Ys ok;have k:=ok.sl;have d:∀u,Aa (s++[0]) u=Aa s u:=λu=>by
  unfold Aa;simp[zY];by_cases h:u<lN s
  .rw[z9 h]
  rw[zC (l:=s) (by lia),zM (by lia)];by_cases e:u=lN s
  .rw[e,Nat.sub_self];rfl
  rw[zC (by simp;lia)]
 have a:Aa s n=0:=by
  unfold Aa;rw[zY,zC (by lia)]
  rfl
 have j:0<=Ab n (Aa s):=by have:=Fb Z.sn;rw[Gw]at this;exact this
 have hw:=Z.wide;refine⟨⟨by simp[k];rfl,Su as,λu m=>?_,λl r=>?_⟩,⟨⟨λi f=>?_,λv w=>?_⟩,?_⟩⟩
 .dsimp only;rw[d];by_cases e:u=n
  .rw[e,a];exact qY _
  exact Z.sn u (by have:u<=n:=m;lia)
 .have p:l<2*lN as:=r;have c:=Qh (wide:=s.sum+1) as (l/2) (by lia);by_cases t:l%2=0
  .rw[show l=2*(l/2) by lia,c.1];unfold Hh;cases o:(Am as (l/2)).mo with
   |none=>dsimp only;lia
   |some b=>exact(MB.of ok.RG (by lia)).mo b o
  rw[show l=2*(l/2)+1 by lia,c.2];exact qY _
 .have c:=Qh (wide:=s.sum+1) as i f;rw[c.1,c.2,jK]
 .have g:∀q:Nat->Nat,Ab (lN as) (λi=>if q i=v then VH ⟨s++[0],Eu (s.sum+1) as⟩ i else 0)=0:=λq=>by
   rw[Cu λi f=>?_,Gw];have:VH ⟨s++[0],Eu (s.sum+1) as⟩ i=0:=(Qh as i f).2;rw[this]
   split <;> rfl
  rw[d];unfold ex Cj UN;rw[g λi=>(Am as i).fr,g λi=>(Am as i).to];lia
 show Ab n _+Aa (s++[0]) n=_;rw[d,a,Cu λu _=>d u];lia
def CQ(ok:IF n as s){x:LR}{d:List Int}(I:Iv n as (Aa s) (s.sum+1) x d):todo n as (s.sum+1) x d<(fuel:Int):=by
 have Z:=Ys ok;have h:=ok.n2;have o:=Uj Z I.ok I.b (Aa d);have a:∀(c:Int)(k:Nat),Ab k (λ_=>c)=c*k:=λc k=>by
  induction k with
  |zero=>show 0=c*0;rw[jW]
  |succ k f=>
   show Ab k _+c=_;rw[f,jD,xE];lia
 have i:=Fb λu e=>show Aa d u+40000*(n:Int)<=2400000 by have:=I.up u e;lia
 rw[a]at i;have g:=Fb (n:=n) λu e=>show Aa s u<=10^40 by have j:=ok.sl;rw[Gh (by lia)];exact xR (ok.sb _ (qK _))
 rw[a]at g;have p:=Z.wide;have l:Ab n (λu=>Aa d u+40000*(n:Int))<=72000000:=by lia
 have m:=q0 l (show 0<=40*(s.sum+1) by lia);unfold todo fuel;lia
end
section
variable{n:Nat}{as:List ZA}{s:List Int}
def CS(ok:IF n as s)(G:DH){H:Nat}(hA:G[H]?=u7 (.lst (as.map KB)))(hT:DO.tab "Sending" "send_by"∈G):∃e f p,MD n as s e f p/\R5 [.int n,.ref H,.fl (s.map D.int)] G=.ok (.tup [.int e,.fl (f.map D.int),.fl (p.map D.int)]) G:=by
 have Z:=Ys ok;have YM:=ok.n2;have m40:=ok.len;have O:=La Z.RG Z.YM;obtain⟨r,o,K,U,ZX⟩:=CH ok G hA;obtain⟨o0,b0⟩:=CP ok;have hl:IE (VA n as) (NI (VA n as) (VA n as).q):=CD;have B:=BZ (rm:=Aa (Eu (s.sum+1) as)) Z λi o=>(Qh as i o).2
 obtain⟨C,wl,hw,F,le⟩:=gK K o0 O hl (by show n<=60;lia) (gB Z o0 b0.b) B (by show 40000*((n:Int)-n)=0;lia) λu w=>by have hu':u<n:=w;show -(40000*(n:Int))<=40000*((n:Int)-u)/\40000*((n:Int)-u)<=40000*(n:Int);lia
 have I0:Iv n as (Aa s) (s.sum+1) ⟨s++[0],Eu (s.sum+1) as⟩ C:=⟨o0,b0,wl,F,ft O B F (by show 40000*((n:Int)-n)=0;lia) le,λu w=>by have J:=le u (by show u<=n;lia);have T:=J;lia⟩
 have E:∀y,(hs r (OB (lN G) n) y).take (lN G)=G:=λy=>by
  refine j5 λi=>?_
  by_cases o:i<lN G
  .rw[qx o];unfold hs OB;dsimp only;rw[zw (by lia),zw (by lia),<-qx o,U]
  rw[zC (by rw[jQ];lia),zC (by lia)]
 have hT':∀y,DO.tab "Sending" "send_by"∈hs r (OB (lN G) n) y:=λy=>List.mem_of_mem_take ((E y)▸hT)
 obtain⟨x,k,hL,I,hz⟩:=gU Z ok.n1 hl K hT' (A1:=.ref H) (A2:=.fl (s.map D.int)) fuel _ C I0 (CQ ok I0);rw[K.hs]at hL;have Kx:=K.at x;have hfl:=CJ Kx I.ok rfl (by lia);have Sl:=BY Z I.ok I.b.b I.fx I.W?;have wl':=I.wl;have Q:∀i,i<lN as->Aa ((zW (lN as)).map λi=>Aa x.R (2*i+1)) i=VH x i:=λi o=>by rw[Gh (by simpa using o)];simp[VH]
 have Y:∀u,u<=n->Aa ((zW n).map (gn (VA n as) (Aa k))) u=gn (VA n as) (Aa k) u:=λu w=>by
  by_cases e:u=n
  .subst e;have e0:Aa k u=0:=I.fx.z;have e1:Aa ((zW u).map (gn (VA u as) (Aa k))) u=0:=by
    unfold Aa;rw[zY,zC (by simp)]
    rfl
   rw[e1];unfold gn;rw[e0];simp
  rw[Gh (by simp;lia)];simp
 refine⟨(((zW (lN as)).map λi=>Aa x.R (2*i+1)*(Am as i).ga)).sum,(zW (lN as)).map λi=>Aa x.R (2*i+1),(zW n).map (gn (VA n as) (Aa k)),⟨by simp,by simp,CN Z I.ok I.b.b hz Q,⟨λi o h=>?_,λi o h=>?_⟩,?_,λu w=>?_,λv hv=>?_⟩,?_⟩
 .have A:=MB.of ok.RG o;have J:=A.lt;rw[Y _ A.le,Y _ (by lia)];exact Sl.more i o λb hb=>by rw[<-Q i o];exact h b hb
 .have A:=MB.of ok.RG o;have J:=A.lt;rw[Y _ A.le,Y _ (by lia)];exact Sl.WM i o (by rw[<-Q i o];exact h)
 .rw[gW];exact Cu λi o=>by rw[Q i o];rfl
 .obtain⟨j,h⟩:=gX Z I.ok I.b.b I.fx n u w (by have:=(Kl (N:=VA n as) (W:=Aa k) u).2;have:UD (VA n as) (Aa k) u<=(n:Int):=this;lia);exact⟨j,h.congr Q Y λi o=>⟨by have:=(MB.of ok.RG o).lt;lia,(MB.of ok.RG o).le⟩⟩
 .obtain⟨u,w,rfl⟩:=qw.mp hv;have w:=qW.mp w;have J: -(40000*(n:Int))<=Aa k u:=I.fx.lo u w;have T:=I.up u w;have e:gn (VA n as) (Aa k) u= -(-Aa k u/((n:Int)+1)):=rfl;rw[e];have h3:=Int.le_ediv_of_mul_le (a:= -1000000000) (b:= -Aa k u) (c:=(n:Int)+1) (by lia) (by lia);have h4:=Int.ediv_le_of_le_mul (a:= -Aa k u) (b:=1000000000) (c:=(n:Int)+1) (by lia) (by lia)
  lia
 have aI:(zW (lN as)).map (λi=>KB (Am as i))=as.map KB:=by
  refine jq (by simp) λi J T=>?_
  have o:i<lN as:=by simpa using T
  simp[Yp o]
 have c1:=CI ok G hA;have m1:∀(t:DA)(S:PB),Ig "Sending" "best_ways" J0 t S (.ref (lN G)) r=(t S r).bind λM L=>J0 (.ref (lN G)::M) L:=λt S=>K.YG λ_ _ _ _ _ _=>rfl
 have m2:∀(t:DA)(S:PB),Ig "Sending" "flow_sent" Kh t S (.ref (lN G)) (hs r (OB (lN G) n) x)=(t S (hs r (OB (lN G) n) x)).bind λM L=>Kh (.ref (lN G)::M) L:=λt S=>Kx.YG λ_ _ _ _ _ _=>rfl
 have m3:∀(t:DA)(S:PB),Ig "Sending" "gain_of" Kv t S (.ref (lN G)) (hs r (OB (lN G) n) x)=(t S (hs r (OB (lN G) n) x)).bind λM L=>Kv (.ref (lN G)::M) L:=λt S=>Kx.YG λ_ _ _ _ _ _=>rfl
 have hw':J0 [.ref (lN G)] r=.ok (.ref (lN r)) (r++[.lst (C.map D.int)]):=hw;have fw:freeze r (.ok (.ref (lN r)) (r++[.lst (C.map D.int)]))=.ok (.fl (C.map D.int)) r:=Be Di;have hL':ZI Pq Q5 fuel [zI n,zR H,zF (s.map D.int),zR (lN G),zF (C.map D.int),u8,u8] r=.nx [zI n,zR H,zF (s.map D.int),zR (lN G),zF (k.map D.int),u8,u8] (hs r (OB (lN G) n) x):=hL;have cg:∀u,u<n->Kv [.ref (lN G),.int (Aa k u)] (hs r (OB (lN G) n) x)=.ok (.int (gn (VA n as) (Aa k) u)) (hs r (OB (lN G) n) x):=λu w=>B4 (by show n<1000;lia) Kx
 have Sr:Kh [.ref (lN G)] (hs r (OB (lN G) n) x)=_:=hfl;have td:∀d,TB (lN G) d=u9->tidy G (.ok d (hs r (OB (lN G) n) x))=.ok d G:=λd hd=>CO (E x) hd
 have hA9:(hs r (OB (lN G) n) x)[H]?=u7 (.lst (as.map KB)):=by rw[<-qx (zZ.mp hA).1,E x];exact hA
 have P:=Pg hA9;generalize hs r (OB (lN G) n) x=m at*;have ff:freeze m (.ok (.ref (lN m)) (m++[.lst (((zW (lN as)).map λi=>Aa x.R (2*i+1)).map D.int)]))=.ok (.fl (((zW (lN as)).map λi=>Aa x.R (2*i+1)).map D.int)) m:=Be Di;have RX:∀S:PB,Bg 2 [] S=[u8,u8]:=λ_=>rfl
 have z2:Dn (Gs [.fl (((zW (lN as)).map λi=>Aa x.R (2*i+1)).map D.int),.ref H]) (Bp 2 (Ak (gV 0) (Ak (gV 1) Bs))) Aq Ym [u8,u8] (lN (((zW (lN as)).map λi=>Aa x.R (2*i+1)).map D.int)) 0 m=.ok (((zW (lN as)).map λi=>Aa x.R (2*i+1)*(Am as i).ga).map D.int) m:=by
  rw[Vk (F:=λd=>match d with | .tup [.int f,.tup [_,_,_,.int g]]=>zI (f*g)|_=>u8) (λj=>Ua Jm P j) (λy hy=>?_) (by simp[I7])]
  .congr 1
   rw[<-aI,I7,qG,List.zip_map',qG,j9,qG];exact congrFun xB _
  .rw[<-aI,I7,qG,List.zip_map',qG]at hy;obtain⟨i,o,rfl⟩:=qw.mp hy;have A:=(MB.of ok.RG (qW.mp o)).ga;refine⟨[zI (Aa x.R (2*i+1)),u7 (KB (Am as i))],by simp,.inr ⟨rfl,.int (Aa x.R (2*i+1)*(Am as i).ga),?_,rfl⟩⟩;have mu:Bq (.int (Aa x.R (2*i+1))) (.int (Am as i).ga) m=.ok (.int (Aa x.R (2*i+1)*(Am as i).ga)) m:=N6 (by lia) (by lia)
   unfold Ym KB;simp[mu]
 have HY:lN (((zW (lN as)).map λi=>Aa x.R (2*i+1)*(Am as i).ga).map D.int)<=1000000:=by simp;lia
 have f2:freeze m (.ok (.ref (lN m)) (m++[.lst (((zW (lN as)).map λi=>Aa x.R (2*i+1)*(Am as i).ga).map D.int)]))=.ok (.fl (((zW (lN as)).map λi=>Aa x.R (2*i+1)*(Am as i).ga).map D.int)) m:=Be Di;have sm:Gd [.fl (((zW (lN as)).map λi=>Aa x.R (2*i+1)*(Am as i).ga).map D.int)] m=.ok (.int (((zW (lN as)).map λi=>Aa x.R (2*i+1)*(Am as i).ga)).sum) m:=Yz
 have sw:Gk (.fl (k.map D.int)) u8 (u7 (n:Int)) m=.ok (.ref (lN m)) (m++[.lst (((zW n).map (Aa k)).map D.int)]):=by
  rw[Og,f6 (by simp;lia)];have:(k.map D.int).take n=((zW n).map (Aa k)).map D.int:=by
   refine jq (by simp;lia) λi J T=>?_
   have o:i<n:=by simp at T;lia
   simp[Gh (show i<lN k by lia)]
  rw[this]
 have f3:freeze m (.ok (.ref (lN m)) (m++[.lst (((zW n).map (Aa k)).map D.int)]))=.ok (.fl (((zW n).map (Aa k)).map D.int)) m:=Be Di;have p1:Bl (gV 0) Aq Nz [u8,zR (lN G)] (((zW n).map (Aa k)).map D.int) m=.ok (((zW n).map (gn (VA n as) (Aa k))).map D.int) m:=by
  rw[qG,qG];have:∀l:List Nat,(∀u∈l,u<n)->Bl (gV 0) Aq Nz [u8,zR (lN G)] (l.map (D.int∘Aa k)) m=.ok (l.map (D.int∘gn (VA n as) (Aa k))) m:=λl=>by
   induction l with
   |nil=>exact λ_=>rfl
   |cons u l ih=>
    intro h;have hb:Nz [zI (Aa k u),zR (lN G)] m=.ok (.int (gn (VA n as) (Aa k) u)) m:=by unfold Nz;simp[m3,cg u (h u (by simp))]
    rw[zK,Ga];simp[hb,ih λv hv=>h v (by simp[hv]),Aq]
  exact this _ λu w=>qW.mp w
 have Tl:lN (((zW n).map (gn (VA n as) (Aa k))).map D.int)<=1000000:=by simp;lia
 have f4:freeze m (.ok (.ref (lN m)) (m++[.lst (((zW n).map (gn (VA n as) (Aa k))).map D.int)]))=.ok (.fl (((zW n).map (gn (VA n as) (Aa k))).map D.int)) m:=Be Di;have X:∀v0 v1 v2 v4 v5 v6:Option D,Bg 1 [3] [v0,v1,v2,zR (lN G),v4,v5,v6]=[u8,zR (lN G)]:=λ_ _ _ _ _ _=>rfl
 have fin:=td (.tup [.int (((zW (lN as)).map λi=>Aa x.R (2*i+1)*(Am as i).ga)).sum,.fl (((zW (lN as)).map λi=>Aa x.R (2*i+1)).map D.int),.fl (((zW n).map (gn (VA n as) (Aa k))).map D.int)]) (by show(u9&&(MA _ _&&(MA _ _&&u9)))=u9;rw[Di,Di];rfl);generalize(((zW (lN as)).map λi=>Aa x.R (2*i+1)*(Am as i).ga)).sum=e,((zW (lN as)).map λi=>Aa x.R (2*i+1)*(Am as i).ga).map D.int=Y1,((zW (lN as)).map λi=>Aa x.R (2*i+1)).map D.int=Y2,((zW n).map (gn (VA n as) (Aa k))).map D.int=Y3,((zW n).map (Aa k)).map D.int=Y4,C.map D.int=Y5,k.map D.int=Y6,as.map KB=Y7,s.map D.int=Y8 at*
 unfold R5 fL fK fJ fG fF fE fC;rw[Aj];simp[-Og,c1,T7,o,m1,hw',fw,hL',m2,Sr,ff,Xx Jm P,RX,z2,Ac,HY,f2,sm,sw,f3,X,p1,Tl,f4,fin]
end
def rp:¬(("pump":Str)="river"):=by decide
def pr:¬(("river":Str)="pump"):=by decide
structure WB where
 h:Int
 m:Int
 r:Bool
def wy(r:Bool):Str:=if r then "river" else "pump"
def WB.enc(s:WB):D:=.tup [.int s.h,.int s.m,.str (wy s.r)]
@[simp]theorem Fn{st:List WB}:MA n (st.map WB.enc)=u9:=Ek λs _=>by simp[WB.enc]
noncomputable abbrev MS:=Int×List WB
def Ft(s:MS):D:=.tup [.int s.1,.tup (s.2.map WB.enc)]
@[simp]theorem Fs{ss:List MS}:MA n (ss.map Ft)=u9:=Ek λs _=>by simp[Ft]
inductive RK where
 |RA (b:Int) (r:List MS) (q:Option (Str×Int×Int))
 |YC (a b:Int)
 |GD (a:Int)
structure RP where
 nm:Str
 dn:Str
 dl:Int
 kd:RK
variable{p:RP}{ps:List RP}
noncomputable def KJ:Option (Str×Int×Int)->D
 |none=>.LA
 |some (t,d,m)=>.tup [.str t,.int d,.int m]
noncomputable def RK.NF:RK->Str
 |.RA ..=>"basin"
 |.YC ..=>"town"
 |.GD ..=>"mill"
def RK.rest:RK->List D
 |.RA b r q=>[.int b,.tup (r.map Ft),KJ q]
 |.YC a b=>[.int a,.int b]
 |.GD a=>[.int a]
def RP.row(p:RP):List D:=.str p.kd.NF:: .str p.nm:: .str p.dn:: .int p.dl::p.kd.rest
def RP.enc(p:RP):D:=.tup p.row
structure RH where
 yr:Int
 ps:List RP
variable{h:RH}
noncomputable def RH.enc(h:RH):D:=.tup [.int h.yr,.tup (h.ps.map RP.enc)]
@[simp]theorem Fu{q:Option (Str×Int×Int)}:TB n (KJ q)=u9:=by
 cases q with
 |none=>rfl
 |some x=>obtain⟨a,b,c⟩:=x;rfl
@[simp]theorem GA:MA n p.row=u9:=by
 unfold RP.row RK.rest
 cases p.kd<;>simp
@[simp]theorem Nr:TB n p.enc=u9:=by simp[RP.enc]
@[simp]theorem CU{l:List RP}:MA n (l.map RP.enc)=u9:=Ek λ_ _=>Nr
@[simp]theorem Sq:TB n h.enc=u9:=by simp[RH.enc]
section
variable{p:RP}{h:RH}{G:DH}
@[simp]theorem OI:Af p.enc (.int 0) G=.ok (.str p.kd.NF) G:=by simp[RP.enc,RP.row]
@[simp]theorem X?:Af p.enc (.int 1) G=.ok (.str p.nm) G:=by simp[RP.enc,RP.row]
@[simp]theorem UQ:Af p.enc (.int 2) G=.ok (.str p.dn) G:=by simp[RP.enc,RP.row]
@[simp]theorem VQ:Af p.enc (.int 3) G=.ok (.int p.dl) G:=by simp[RP.enc,RP.row]
def Dq:Af h.enc (.int 1) G=.ok (.tup (h.ps.map RP.enc)) G:=by simp[RH.enc]
end
structure R6 where
 a:Int
 b:Int
 c:Int
 d:Int
 e:Int
 f:Int
noncomputable def R6.enc(r:R6):D:=.tup [.int r.a,.int r.b,.int r.c,.int r.d,.int r.e,.int r.f]
def PD(pg:List R6):D:=.tup (pg.map R6.enc)
def Hj(hp:ps[k]?=u7 p):MC (ps.map RP.enc) (k:Int)=u7 p.enc:=Ce rfl (by rw[zj,hp];rfl)
def El(c:Int){p m:Int}(hp:0<p)(b:0<m):∃i:Int,(0<=i/\i<m)/\∀G,Dm [.int c,.int p,.int m] G=.ok (.int i) G:=by
 have d:¬p=0:=by lia
 have a:¬m=0:=by lia
 refine⟨c*48271%p%m,⟨xZ _ a,jA _ b⟩,λG=>?_⟩;unfold Dm dh;rw[Aj];simp[hp,b,d,a,Bc]
theorem Oh{Q:D->Prop}:∀(n j:Nat),(∀k,j<=k->k<j+n->∃d,Q d/\∀G,te (S.set 0 (zI (k:Int))) G=.ok d G)->∃ds:List D,lN ds=n/\(∀d∈ds,Q d)/\∀G,Bl (gV 0) Aq te S (Al (j:Int) n) G=.ok ds G
 |0,j,_=>⟨[],rfl,by simp,λG=>by rw[Ew];rfl⟩
 |n+1,j,h=>by
  obtain⟨d,g,a⟩:=h j (by lia) (by lia);obtain⟨ds,f,e,b⟩:=Oh n (j+1) λk i l=>h k (by lia) (by lia)
  refine⟨d::ds,by simp[f],jI.mpr ⟨g,e⟩,λG=>?_⟩;rw[Eh,Ga];simp[Cg,R.Eb,Kw,if_true,a];have c:((j:Int)+1)=((j+1:Nat):Int):=by lia
  rw[c,b]
  rfl
theorem XF:∀{ds:List D}{Q:Int->Prop},(∀d∈ds,∃i,Q i/\d=.int i)->∃l:List Int,ds=l.map D.int/\∀i∈l,Q i
 |[],Q,_=>⟨[],rfl,by simp⟩
 |d::ds,Q,h=>by
  obtain⟨i,a,rfl⟩:=h d (by simp);obtain⟨l,rfl,b⟩:=XF λx c=>h x (zV _ c)
  exact⟨i::l,rfl,jI.mpr ⟨a,b⟩⟩
def S9{l:List Str}:MA m (l.map D.str)=u9:=Ek λ_ _=>rfl
def Gz{l:List Int}:MA m (l.map D.int)=u9:=Ek λ_ _=>rfl
def fsT(x:Str)(G:DH):freeze G (.ok (.str x) G)=.ok (.str x) G:=Jv rfl
structure NG (ns:List Str):Prop where
 nd:ns.Nodup
 sea:("sea":Str)∉ns
noncomputable def KP:List Str:=["seaf","seag","seah","seai","seaj","seak"]
noncomputable def HN:List Str:=["aaaaaa","aaaaa","aaaa","aaa","aa","a"]
noncomputable def LP:List Str:=["flake","glake","hlake","ilake","jlake","klake"]
theorem Tv{f:Nat->Str}:∀(n j:Nat),(∀k,j<=k->k<j+n->∀G,te [zI (k:Int)] G=.ok (.str (f k)) G)->∀G,Bl (gV 0) Aq te [u8] (Al (j:Int) n) G=.ok (((qM j n).map f).map D.str) G
 |0,j,_,G=>by rw[Ew];rfl
 |n+1,j,h,G=>by
  have a:((j:Int)+1)=((j+1:Nat):Int):=by lia
  rw[Eh,Ga,a];simp only[Cg,R.Eb,qF,Kw,if_true,h j (by lia) (by lia)];rw[Tv n (j+1) λk c b=>h k (by lia) (by lia)];simp[jP]
def Wx{t:List Str}(f:n<=6)(h:∀a,a<6->t.getD a ""≠("sea":Str)/\∀b,b<6->t.getD a ""=t.getD b ""->a=b):NG ((qM 0 n).map λk=>t.getD k ""):=by
 refine⟨?_,λz=>?_⟩
 .rw[List.Nodup,List.pairwise_map];refine List.Pairwise.imp_of_mem (λ{a b}c d q z=>?_) List.nodup_range';have c:=List.mem_range'_1.mp c;have d:=List.mem_range'_1.mp d;exact q ((h a (by lia)).2 b (by lia) z)
 obtain⟨a,c,e⟩:=qw.mp z;have c:=List.mem_range'_1.mp c;exact(h a (by lia)).1 e
def CV(c:Int)(r:n<=6):∃ns:List Str,ns.length=n/\NG ns/\∀G,freeze G (Il [.int c,.int (n:Int)] G)=.ok (.fl (ns.map D.str)) G:=by
 have q:inR (n:Int):=Ds (by lia) (by lia);have i:∀a b c:Option D,Bg 1 [] [a,b,c]=[u8]:=λ_ _ _=>rfl
 have j:∀(o:DE)(ns:List Str),ns.length=n->(∀G,Bl (gV 0) Aq o [u8] (Al 0 n) G=.ok (ns.map D.str) G)->∀G,freeze G (tidy G ((Bl (gV 0) Aq o [u8] (Al 0 n) G).bind Ac))=.ok (.fl (ns.map D.str)) G:=λo ns m h G=>by
  rw[h];have l:(ns.map D.str).length<=1000000:=by rw[zq];lia
  have s:MA G.length (ns.map D.str)=u9:=S9;simp only[R.Eb,Ac,if_pos l];rw[Dt s,Be s]
 have m:∀f:Nat->Str,((qM 0 n).map f).length=n:=λf=>by simp
 rcases(by lia:c%3=0\/c%3=1\/c%3=2)with p|p|p
 .have g:=Tv (te:=Rq) (f:=λk=>KP.getD k "") n 0 λk _ hk G=>by rcases(by lia:k=0\/k=1\/k=2\/k=3\/k=4\/k=5)with rfl|rfl|rfl|rfl|rfl|rfl<;>kernel_rfl
  refine⟨_,m _,Wx (t:=KP) r (by decide +kernel),λG=>?_⟩;have e:Il [.int c,.int (n:Int)] G=tidy G ((Bl (gV 0) Aq Rq [u8] (Al 0 n) G).bind Ac):=by
   unfold Il Tr;rw[Aj];have d:Bl (gV 0) Aq Rq [u8] (Al 0 n) G=_:=g G;have l:(((qM 0 n).map λk=>KP.getD k "").map D.str).length<=1000000:=by simp;lia
   generalize((qM 0 n).map λk=>KP.getD k "").map D.str=Z at*;simp[p,q,i,d,Ac,l]
  rw[e];exact j _ _ (m _) g G
 .have g:=Tv (te:=Ni) (f:=λk=>HN.getD k "") n 0 λk _ hk G=>by
   have v:("aaaaaa":Str).length<=1000000:=by decide +kernel
   have u:Im "aaaaaa" (u7 (k:Int)) u8=HN.getD k "":=by rcases(by lia:k=0\/k=1\/k=2\/k=3\/k=4\/k=5)with rfl|rfl|rfl|rfl|rfl|rfl<;>decide +kernel
   unfold Ni;simp[v,fsT,u]
  refine⟨_,m _,Wx (t:=HN) r (by decide +kernel),λG=>?_⟩;have e:Il [.int c,.int (n:Int)] G=tidy G ((Bl (gV 0) Aq Ni [u8] (Al 0 n) G).bind Ac):=by
   unfold Il Tr;rw[Aj];have d:Bl (gV 0) Aq Ni [u8] (Al 0 n) G=_:=g G;have l:(((qM 0 n).map λk=>HN.getD k "").map D.str).length<=1000000:=by simp;lia
   generalize((qM 0 n).map λk=>HN.getD k "").map D.str=Z at*;simp[p,q,i,d,Ac,l]
  rw[e];exact j _ _ (m _) g G
 have g:=Tv (te:=Te) (f:=λk=>LP.getD k "") n 0 λk _ hk G=>by rcases(by lia:k=0\/k=1\/k=2\/k=3\/k=4\/k=5)with rfl|rfl|rfl|rfl|rfl|rfl<;>kernel_rfl
 refine⟨_,m _,Wx (t:=LP) r (by decide +kernel),λG=>?_⟩;have e:Il [.int c,.int (n:Int)] G=tidy G ((Bl (gV 0) Aq Te [u8] (Al 0 n) G).bind Ac):=by
  unfold Il Tr;rw[Aj];have d:Bl (gV 0) Aq Te [u8] (Al 0 n) G=_:=g G;have l:(((qM 0 n).map λk=>LP.getD k "").map D.str).length<=1000000:=by simp;lia
  generalize((qM 0 n).map λk=>LP.getD k "").map D.str=Z at*;simp[p,q,i,d,Ac,l]
 rw[e];exact j _ _ (m _) g G
def CW{k:Int}(hk:0<k)(b:k<1000000)(G L:DH):Cq [.ref (lN G),.int k] (G++ .lst [.int x]::L)=.ok (.int (x%k)) (G++ .lst [.int (x/k)]::L):=by
 have f:tidy (G++ .lst [.int x]::L) (.ok (.int (x%k)) (G++ .lst [.int (x/k)]::L))=.ok (.int (x%k)) (G++ .lst [.int (x/k)]::L):=Hv (by simp) rfl;have c:∀o:DO,(G++o::L)[lN G]?=u7 o:=λo=>by rw[Ex];rfl
 have g:∀o a:DO,(G++o::L).set (lN G) a=G++a::L:=λo a=>by rw[Fl];rfl
 have e:∀H:DH,Ir (.int x) (.int k) H=.ok (.int (x/k)) H:=λH=>IX hk b
 unfold Cq dq;rw[Aj];have d:PJ 1 0=u7 0:=by decide
 simp[c,g,hk,e,f,d]
def tk(x:Int){k:Int}(hk:0<k)(a:k<1000000):∃i y:Int,(0<=i/\i<k)/\∀G L:DH,Cq [.ref (lN G),.int k] (G++ .lst [.int x]::L)=.ok (.int i) (G++ .lst [.int y]::L):=
 ⟨x%k,x/k,⟨xZ _ (by lia),jA _ hk⟩,λG L=>CW hk a G L⟩
def gY(hd:TB (lN G) d=u9):tidy G (.ok d H)=.ok d G\/tidy G (.ok d H)=.ok d H:=by
 unfold tidy;by_cases h:H.take (lN G)=G
 .left
  simp[h,hd,if_true]
 right
 simp[h,if_false]
def Pl(G L:DH)(r:R D)(d:D):Prop:=∃(y:Int)(M:DH),r=.ok d (G++ .lst [.int y]::(L++M))
def gZ{y:Int}(hd:∀n,TB n d=u9):Pl G L (tidy (G++ .lst [.int x]::L) (.ok d (G++ .lst [.int y]::(L++M)))) d:=by
 rcases gY (hd _)with h|h
 .exact⟨x,[],by rw[h,qX]⟩
 exact⟨y,M,h⟩
def Uc(G L:DH)(A o:DO):(G++A::(L++[o]))[lN G+(lN L+1)]?=u7 o:=by rw[Gm];simp
def Zh(G L:DH)(A o a:DO):(G++A::(L++[o])).set (lN G+(lN L+1)) a=G++A::(L++[a]):=by rw[J6];simp
theorem gb{scale:Int}:∀(m j:Nat)(x most a:Int)(acc:List WB)(o l i:Option D),lN acc+m<=100->∃(st:List WB)(F b d:Int)(M f g:Option D),
  Av (gV 5) M5 (Al j m) [zR (lN G),zI most,zI scale,zR (lN G+(lN L+1)),zI a,o,l,i] (G++ .lst [.int x]::(L++[.lst (acc.map WB.enc)]))=
   .nx [zR (lN G),zI b,zI scale,zR (lN G+(lN L+1)),zI d,M,f,g] (G++ .lst [.int F]::(L++[.lst (st.map WB.enc)]))
 |0,j,x,most,a,acc,o,l,i,_=>⟨acc,x,most,a,o,l,i,by rw[Ew,Ea]⟩
 | m+1,j,x,most,a,acc,o,l,i,h=>by
  obtain⟨c,Q,Z,C⟩:=tk x (k:=4) (by decide) (by decide);obtain⟨I,N,X,E⟩:=tk Q (k:=2) (by decide) (by decide);obtain⟨n,H,Y,t⟩:=tk N (k:=3) (by decide) (by decide);have p:∀G,Bq (.int (1+c)) (.int scale) G=.ok (.int ((1+c)*scale)) G:=λG=>Dr (by lia) (by lia)
  have u:∀G,Bq (.int n) (.int scale) G=.ok (.int (n*scale)) G:=λG=>Dr (by lia) (by lia)
  have e:lN (acc.map WB.enc)<1000000:=by rw[zq];lia
  have q:∃(s:WB)(b d:Int)(f g:Option D),M5 [zR (lN G),zI most,zI scale,zR (lN G+(lN L+1)),zI a,zI j,l,i] (G++ .lst [.int x]::(L++[.lst (acc.map WB.enc)]))=
    .nx [zR (lN G),zI b,zI scale,zR (lN G+(lN L+1)),zI d,zI j,f,g] (G++ .lst [.int H]::(L++[.lst ((acc++[s]).map WB.enc)])):=by
   by_cases y:I=1/\0<most
   .refine⟨⟨a,min ((1+c)*scale) most,uA⟩,most-min ((1+c)*scale) most,a+min ((1+c)*scale) most+n*scale,zI (min ((1+c)*scale) most),zS "pump",?_⟩;have r:WB.enc ⟨a,min ((1+c)*scale) most,uA⟩=.tup [.int a,.int (min ((1+c)*scale) most),.str "pump"]:=rfl;rw[qQ,zK,qV,r];generalize acc.map WB.enc=A at*;unfold M5;simp[C,E,t,p,u,y.1,y.2,Uc,Zh,e]
   refine⟨⟨a,(1+c)*scale,u9⟩,most,a+(1+c)*scale+n*scale,zI ((1+c)*scale),zS "river",?_⟩;have r:WB.enc ⟨a,(1+c)*scale,u9⟩=.tup [.int a,.int ((1+c)*scale),.str "river"]:=rfl;rw[qQ,zK,qV,r];generalize acc.map WB.enc=A at*;unfold M5;by_cases v:I=1
   .have U:¬0<most:=λz=>y ⟨v,z⟩
    simp[C,E,t,p,u,v,U,Uc,Zh,e]
   simp[C,E,t,p,u,v,Uc,Zh,e]
  obtain⟨s,S,W,f,g,O⟩:=q;obtain⟨st,F,w,B,T,K,J,P⟩:=gb m (j+1) H S W (acc++[s]) (zI j) f g (by simp;lia);refine⟨st,F,w,B,T,K,J,?_⟩;rw[Eh,Ck];simp only[Cg,R.Cr,qF,O,Dk];exact P
def SK(x most scale:Int)(G L:DH):∃st:List WB,Pl G L (Jq [.ref (lN G),.int most,.int scale] (G++ .lst [.int x]::L)) (.tup (st.map WB.enc)):=by
 obtain⟨a,l,u,m⟩:=tk x (k:=4) (by decide) (by decide);obtain⟨d,c,r,p⟩:=tk l (k:=4) (by decide) (by decide);obtain⟨n,o⟩:∃n:Nat,d=n:=⟨d.toNat,by lia⟩;obtain⟨st,q,v,y,s,t,w,j⟩:=gb n 0 c most (a*scale) [] u8 u8 u8 (by simp;lia);refine⟨st,?_⟩;have f:∀G,Bq (.int a) (.int scale) G=.ok (.int (a*scale)) G:=λG=>Dr (by lia) (by lia)
 have g:inR (n:Int):=Ds (by lia) (by lia);have h:tidy (G++ .lst [.int x]::L) (.ok (.ref (lN G+(lN L+1))) (G++ .lst [.int x]::(L++[.lst []])))=.ok (.ref (lN G+(lN L+1))) (G++ .lst [.int x]::(L++[.lst []])):=by have:=Dt (G:=G++ .lst [.int x]::L) (ds:=[]) (L:=[]) rfl;simpa using this
 have b:Av (gV 5) M5 (Al 0 n) [zR (lN G),zI most,zI scale,zR (lN G+(lN L+1)),zI (a*scale),u8,u8,u8] (G++ .lst [.int c]::(L++[.lst []]))=_:=j;have i:∀n,TB n (.tup (st.map WB.enc))=u9:=λn=>by simp
 generalize st.map WB.enc=Z at*;have e:Jq [.ref (lN G),.int most,.int scale] (G++ .lst [.int x]::L)=tidy (G++ .lst [.int x]::L) (.ok (.tup Z) (G++ .lst [.int q]::(L++[.lst Z]))):=by unfold Jq dr;rw[Aj];simp[Ac,h,m,f,p,o,g,b,Uc]
 rw[e];exact gZ i
theorem gc{cell scale:Int}:∀(m j:Nat)(most a:Int)(acc:List WB)(n k i:Option D),lN acc+m<=100->∃(st:List WB)(b d:Int)(I f g:Option D),∀G:DH,
  Av (gV 5) Lp (Al (j:Int) m) [zI cell,zI most,zI scale,zR (lN G),zI a,n,k,i] (G++[.lst (acc.map WB.enc)])=
   .nx [zI cell,zI b,zI scale,zR (lN G),zI d,I,f,g] (G++[.lst (st.map WB.enc)])
 |0,j,most,a,acc,n,k,i,_=>⟨acc,most,a,n,k,i,λG=>by rw[Ew,Ea]⟩
 | m+1,j,most,a,acc,n,k,i,h=>by
  obtain⟨c,T,B⟩:=El (cell+(j:Int)) (p:=10243) (m:=4) (by decide) (by decide);obtain⟨E,Q,C⟩:=El (cell+(j:Int)) (p:=10247) (m:=2) (by decide) (by decide);obtain⟨l,S,t⟩:=El (cell+(j:Int)) (p:=10253) (m:=3) (by decide) (by decide);have o:∀G,Bq (.int (1+c)) (.int scale) G=.ok (.int ((1+c)*scale)) G:=λG=>Dr (by lia) (by lia)
  have u:∀G,Bq (.int l) (.int scale) G=.ok (.int (l*scale)) G:=λG=>Dr (by lia) (by lia)
  have e:lN (acc.map WB.enc)<1000000:=by rw[zq];lia
  have q:∃(s:WB)(b d:Int)(f g:Option D),∀G:DH,Lp [zI cell,zI most,zI scale,zR (lN G),zI a,zI (j:Int),k,i] (G++[.lst (acc.map WB.enc)])=
    .nx [zI cell,zI b,zI scale,zR (lN G),zI d,zI (j:Int),f,g] (G++[.lst ((acc++[s]).map WB.enc)]):=by
   by_cases x:0<most/\E=0
   .refine⟨⟨a,min ((1+c)*scale) most,uA⟩,most-min ((1+c)*scale) most,a+min ((1+c)*scale) most+l*scale,zI (min ((1+c)*scale) most),zS "pump",λG=>?_⟩;have r:WB.enc ⟨a,min ((1+c)*scale) most,uA⟩=.tup [.int a,.int (min ((1+c)*scale) most),.str "pump"]:=rfl;rw[qQ,zK,qV,r];generalize acc.map WB.enc=A at*;unfold Lp;simp[B,C,t,o,u,x.1,x.2,Ex,Fl,e]
   refine⟨⟨a,(1+c)*scale,u9⟩,most,a+(1+c)*scale+l*scale,zI ((1+c)*scale),zS "river",λG=>?_⟩;have r:WB.enc ⟨a,(1+c)*scale,u9⟩=.tup [.int a,.int ((1+c)*scale),.str "river"]:=rfl;rw[qQ,zK,qV,r];generalize acc.map WB.enc=A at*;unfold Lp;by_cases v:0<most
   .have O:¬E=0:=λz=>x ⟨v,z⟩
    simp[B,C,t,o,u,v,O,Ex,Fl,e]
   simp[B,C,t,o,u,v,Ex,Fl,e]
  obtain⟨s,M,P,f,g,J⟩:=q;obtain⟨st,w,y,N,H,F,L⟩:=gc m (j+1) M P (acc++[s]) (zI (j:Int)) f g (by simp;lia);refine⟨st,w,y,N,H,F,λG=>?_⟩;rw[Eh,Ck];simp only[Cg,R.Cr,qF,J,Dk];have K:((j:Int)+1)=((j+1:Nat):Int):=by lia
  rw[K,L]
def gf(cell most scale:Int):∃st:List WB,∀G,Ql [.int cell,.int most,.int scale] G=.ok (.tup (st.map WB.enc)) G:=by
 obtain⟨a,t,j⟩:=El cell (p:=10211) (m:=4) (by decide) (by decide);obtain⟨c,o,l⟩:=El cell (p:=10223) (m:=4) (by decide) (by decide);obtain⟨n,k⟩:∃n:Nat,c=n:=⟨c.toNat,by lia⟩;obtain⟨st,s,v,q,r,u,i⟩:=gc n 0 most (a*scale) [] u8 u8 u8 (by simp;lia);refine⟨st,λG=>?_⟩;have d:∀G,Bq (.int a) (.int scale) G=.ok (.int (a*scale)) G:=λG=>Dr (by lia) (by lia)
 have f:inR (n:Int):=Ds (by lia) (by lia);have g:tidy G (.ok (.ref (lN G)) (G++[.lst []]))=.ok (.ref (lN G)) (G++[.lst []]):=Dt rfl;have b:Av (gV 5) Lp (Al 0 n) [zI cell,zI most,zI scale,zR (lN G),zI (a*scale),u8,u8,u8] (G++[.lst []])=_:=i G;have h:MA (lN G) (st.map WB.enc)=u9:=by simp
 generalize st.map WB.enc=Z at*;have e:tidy G (.ok (.tup Z) (G++[.lst Z]))=.ok (.tup Z) G:=Jy (by simpa[TB]using h);unfold Ql di;rw[Aj];simp[Ac,g,j,d,l,k,f,b,Ex,e]
def gh(cell most scale year:Int):∃r:List MS,∀G,Nh [.int cell,.int most,.int scale,.int year] G=.ok (.tup (r.map Ft)) G:=by
 obtain⟨b,h⟩:=gf cell most scale;obtain⟨c,j⟩:=gf (cell/3+1) most scale;have a:∀n,MA n (b.map WB.enc)=u9:=λn=>by simp
 have d:∀n,MA n (c.map WB.enc)=u9:=λn=>by simp
 by_cases i:1<year
 .refine⟨[(0,b),(year-1,c)],λG=>?_⟩;have e: [((0:Int),b),(year-1,c)].map Ft=[.tup [.int 0,.tup (b.map WB.enc)],.tup [.int (year-1),.tup (c.map WB.enc)]]:=rfl;rw[e];generalize b.map WB.enc=A,c.map WB.enc=B at*;have g:tidy G (.ok (.ref (lN G)) (G++[.lst [.tup [.int 0,.tup A]]]))=.ok (.ref (lN G)) (G++[.lst [.tup [.int 0,.tup A]]]):=Dt (by simp[a]);have f:∀L:DH,tidy G (.ok (.tup [.tup [.int 0,.tup A],.tup [.int (year-1),.tup B]]) (G++L))=.ok (.tup [.tup [.int 0,.tup A],.tup [.int (year-1),.tup B]]) G:=λL=>Jy (by simp[a,d])
  unfold Nh V7;rw[Aj];simp[Ac,h,g,i,j,Ex,Fl,f]
 refine⟨[(0,b)],λG=>?_⟩;have e: [((0:Int),b)].map Ft=[.tup [.int 0,.tup (b.map WB.enc)]]:=rfl;rw[e];generalize b.map WB.enc=A at*;have g:tidy G (.ok (.ref (lN G)) (G++[.lst [.tup [.int 0,.tup A]]]))=.ok (.ref (lN G)) (G++[.lst [.tup [.int 0,.tup A]]]):=Dt (by simp[a]);have f:∀L:DH,tidy G (.ok (.tup [.tup [.int 0,.tup A]]) (G++L))=.ok (.tup [.tup [.int 0,.tup A]]) G:=λL=>Jy (by simp[a])
 unfold Nh V7;rw[Aj];simp[Ac,h,g,i,Ex,f]
def Qq{l:List Str}{i:Int}(b:0<=i)(c:i<(lN l:Int)):∃v∈l,MC (l.map D.str) i=zS v:=by
 have a:i<(lN (l.map D.str):Int):=by rw[zq];exact c
 have e:=T8 b a;rw[xH]at e;exact⟨_,qK _,e⟩
def KG(ns:List Str):RK->Prop
 |.RA b _ q=>0<=b/\∀t d m,q=u7 (t,d,m)->t∈ns/\(1<=d/\d<=5)/\0<=m
 |.YC a _=>0<=a
 |.GD a=>0<=a
structure PG (ns:List Str) (k:Nat) (p:RP):Prop where
 dn:∃j,k<j/\(ns++[("sea":Str)])[j]?=u7 p.dn
 dl:0<=p.dl/\p.dl<=5
 kd:KG ns p.kd
def Vw{l:List Int}{i:Int}(b:0<=i)(c:i<(lN l:Int)):∃v∈l,∀G,Af (.fl (l.map D.int)) (.int i) G=.ok (.int v) G:=by
 have a:i<(lN (l.map D.int):Int):=by rw[zq];exact c
 have e:=T8 b a;rw[xH]at e;exact⟨_,qK _,λG=>by simp[e];rfl⟩
def gj{l:List Str}{i:Int}(b:0<=i)(c:i<(lN l:Int)):∃v,l[i.toNat]?=u7 v/\MC (l.map D.str) i=zS v:=by
 have a:i<(lN (l.map D.str):Int):=by rw[zq];exact c
 have e:=T8 b a;rw[xH]at e;exact⟨_,zJ (by lia),e⟩
def CY(hn:lN ns=n)(hk:k<n)(hn6:n<=6)(x y g:Int){scale:Int}(K:0<=scale)(year:Int):∃p:RP,p.nm=ns.getD k ""/\PG ns k p/\∀G,freeze G (Iw [.fl [.int x,.int y,.int g],.int (k:Int),.fl (ns.map D.str),.int scale,.int year] G)=.ok p.enc G:=by
 obtain⟨i1,b1,t1⟩:=El x (p:=10007) (m:=(n:Int)-(k:Int)) (by decide) (by lia);obtain⟨i2,b2,t2⟩:=El x (p:=10009) (m:=9) (by decide) (by decide);obtain⟨w,b3,t3⟩:=El y (p:=10037) (m:=8) (by decide) (by decide);obtain⟨A,b4,t4⟩:=El x (p:=10039) (m:=5) (by decide) (by decide);obtain⟨i5,b5,t5⟩:=El y (p:=10061) (m:=3) (by decide) (by decide);obtain⟨i6,b6,t6⟩:=El g (p:=10067) (m:=2) (by decide) (by decide)
 obtain⟨dn,Ps,I⟩:=gj (l:=ns++[("sea":Str)]) (i:=(k:Int)+1+i1) (by lia) (by simp;lia);have c:∃j,k<j/\(ns++[("sea":Str)])[j]?=u7 dn:=⟨_,by lia,Ps⟩;have u:=j8 b3.1 K;obtain⟨q,hdm,S⟩:=Vw (l:=[0,0,0,1,1,2,3,4,5]) (by lia) b2.2;have o:0<=q/\q<=5:=by simp at hdm;lia
 have J:∀G,Af (.fl [.int 0,.int 0,.int 0,.int 1,.int 1,.int 2,.int 3,.int 4,.int 5]) (.int i2) G=.ok (.int q) G:=S;have X:MC (ns.map D.str) (k:Int)=zS (ns.getD k ""):=Ce rfl (by rw[zj,zJ (by lia)];simp[zY,(by lia:k<lN ns)]);have m3:∀G,Bq (.int w) (.int scale) G=.ok (.int (w*scale)) G:=λG=>Dr (by lia) (by lia)
 have fz1:∀G:DH,freeze G (.ok (.ref (lN G)) (G++[.lst [.str "sea"]]))=.ok (.fl [.str "sea"]) G:=λG=>Be rfl
 have es:(ns++[("sea":Str)]).map D.str=ns.map D.str++[.str "sea"]:=by simp
 have Q:∀G:DH,freeze G (.ok (.ref (lN G)) (G++[.lst (ns.map D.str++[.str "sea"])]))=.ok (.fl (ns.map D.str++[.str "sea"])) G:=λG=>Be (by rw[<-es];exact S9)
 have ll:lN (ns.map D.str)+1<=1000000:=by rw[zq];lia
 have ad:∀G,Do (.fl (ns.map D.str)) (.fl [.str "sea"]) G=.ok (.ref (lN G)) (G++[.lst (ns.map D.str++[.str "sea"])]):=λG=>by simp;lia
 have fz3:∀G:DH,freeze G (.ok (.ref (lN G)) (G++[.lst [.int 0,.int 0,.int 0,.int 1,.int 1,.int 2,.int 3,.int 4,.int 5]]))=.ok (.fl [.int 0,.int 0,.int 0,.int 1,.int 1,.int 2,.int 3,.int 4,.int 5]) G:=λG=>Be rfl
 have b:∀G,Ar [.fl (ns.map D.str)] G=.ok (.int n) G:=λG=>by simp[hn]
 have s:∀(p:RP),(∀G,Iw [.fl [.int x,.int y,.int g],.int (k:Int),.fl (ns.map D.str),.int scale,.int year] G=.ok p.enc G)->∀G,freeze G (Iw [.fl [.int x,.int y,.int g],.int (k:Int),.fl (ns.map D.str),.int scale,.int year] G)=.ok p.enc G:=λp h G=>by rw[h];exact Jv Nr
 rw[es]at I;generalize hNM:ns.getD k ""=nm at*;have a:∀G,Z2 [zF [.int x,.int y,.int g],zI (k:Int),zF (ns.map D.str),zI scale,zI year,zI n,u8,u8,u8,u8,u8,u8,u8] G=
   Lr [zF [.int x,.int y,.int g],zI (k:Int),zF (ns.map D.str),zI scale,zI year,zI n,zS dn,zT [.str nm,.str dn,.int q],zI (w*scale),zI A,u8,u8,u8] G:=λG=>by
  generalize ns.map D.str=N at*;unfold Z2 dm dk dj;simp[-M8,Ac,fz1,ad,Q,t1,I,X,fz3,t2,J,t3,m3,t4]
 rcases(by lia:(A=2\/A=3)\/A=4\/(¬A=2/\¬A=3/\¬A=4))with h|h|h
 .refine⟨⟨nm,dn,q,.YC (w*scale) i5⟩,rfl,⟨c,o,u⟩,s _ λG=>?_⟩;have B:TB (lN G) (RP.enc ⟨nm,dn,q,.YC (w*scale) i5⟩)=u9:=Nr;unfold RP.enc RP.row RK.rest RK.NF at*;generalize ns.map D.str=N at*;unfold Iw Oa;rw[Aj];simp[]at B;unfold Lr at a;rcases h with h|h
  .simp[b,a,h,t5,Bc]
  simp[b,a,h,t5,Bc]
 .refine⟨⟨nm,dn,q,.GD (w*scale)⟩,rfl,⟨c,o,u⟩,s _ λG=>?_⟩;unfold RP.enc RP.row RK.rest RK.NF at*;generalize ns.map D.str=N at*;unfold Iw Oa;rw[Aj];unfold Lr Rc at a;simp[b,a,h,Bc]
 obtain⟨U,h3,W⟩:=h;by_cases hp:1<n/\i6=0
 .obtain⟨i7,b7,t7⟩:=El g (p:=10069) (m:=(n:Int)-1) (by decide) (by lia);obtain⟨M,b8,t8⟩:=El g (p:=10079) (m:=6) (by decide) (by decide);obtain⟨i9,b9,t9⟩:=El g (p:=10091) (m:=6) (by decide) (by decide);have F:(0:Int)<(n:Int):=by lia
  obtain⟨to,Z,T⟩:=Qq (i:=((k:Int)+1+i7)%(n:Int)) (xZ _ (by lia)) (by rw[hn];exact jA _ F);obtain⟨L,C,hdy⟩:=Vw (l:=[1,1,2,3,4,5]) (by lia) b9.2;have E:1<=L/\L<=5:=by simp at C;lia
  have H:∀G,Af (.fl [.int 1,.int 1,.int 2,.int 3,.int 4,.int 5]) (.int i9) G=.ok (.int L) G:=hdy;have P:∀G:DH,freeze G (.ok (.ref (lN G)) (G++[.lst [.int 1,.int 1,.int 2,.int 3,.int 4,.int 5]]))=.ok (.fl [.int 1,.int 1,.int 2,.int 3,.int 4,.int 5]) G:=λG=>Be rfl
  have m8:∀G,Bq (.int M) (.int scale) G=.ok (.int (M*scale)) G:=λG=>Dr (by lia) (by lia)
  obtain⟨r,O⟩:=gh g (M*scale) scale year;refine⟨⟨nm,dn,q,.RA (w*scale) r (u7 (to,L,M*scale))⟩,rfl,⟨c,o,u,λt d m z=>by cases z;exact⟨Z,E,j8 b8.1 K⟩⟩,s _ λG=>?_⟩;have f:(1:Int)<(n:Int):=by lia
  have Y:0<n:=by lia
  have B:MA (lN G) (r.map Ft)=u9:=by simp
  unfold RP.enc RP.row RK.rest RK.NF KJ at*;generalize v:r.map Ft=RR,ns.map D.str=N at*;unfold Iw Oa;rw[Aj];unfold Lr Rc Wy V0 W6 Za at a;simp[Ac,b,a,U,h3,W,hp.1,f,t6,hp.2,t7,F,Y,T,t8,m8,P,t9,H,O,B,v,Bc]
 .obtain⟨r,O⟩:=gh g 0 scale year;refine⟨⟨nm,dn,q,.RA (w*scale) r u8⟩,rfl,⟨c,o,u,λt d m z=>by cases z⟩,s _ λG=>?_⟩;have B:MA (lN G) (r.map Ft)=u9:=by simp
  unfold RP.enc RP.row RK.rest RK.NF KJ at*;generalize v:r.map Ft=RR,ns.map D.str=N at*;unfold Iw Oa;rw[Aj];unfold Lr Rc Wy V0 W6 Za at a;by_cases f:1<n
  .have e:(1:Int)<(n:Int):=by lia
   have h6:¬i6=0:=λz=>hp ⟨f,z⟩
   simp[b,a,U,h3,W,f,e,t6,h6,O,B,v,Bc]
  .have e:¬(1:Int)<(n:Int):=by lia
   simp[b,a,U,h3,W,f,e,O,B,v,Bc]
theorem gm(h:PG ns j p)(b:∀i q,ps[i]?=u7 q->PG ns (j+1+i) q):∀i q,(p::ps)[i]?=u7 q->PG ns (j+i) q:=λi q a=>by
 cases i with
 |zero=>
  cases a;exact h
 |succ i=>
  have:=b i q a;rwa[show j+1+i=j+(i+1) by lia]at this
structure HG (h:RH):Prop where
 ng:NG (h.ps.map RP.nm)
 pg:∀i p,h.ps[i]?=u7 p->PG (h.ps.map RP.nm) i p
theorem gq{ns:List Str}(y:lN ns=n)(q:n<=6){scale year:Int}(o:0<=scale){s1:Option D}:∀(m j:Nat)(acc:List RP)(r l:Option D),j+m=n->lN acc+m<=100->∃(ps:List RP)(M O:Option D),ps.map RP.nm=(qM j m).map (λk=>ns.getD k "")/\(∀i p,ps[i]?=u7 p->PG ns (j+i) p)/\∀G:DH,
  Av (gV 6) Q8 (Al (j:Int) m) [zF (sc.map D.int),s1,zI scale,zF (ns.map D.str),zI year,zR (lN G),r,l] (G++[.lst (acc.map RP.enc)])=
   .nx [zF (sc.map D.int),s1,zI scale,zF (ns.map D.str),zI year,zR (lN G),M,O] (G++[.lst ((acc++ps).map RP.enc)])
 |0,j,acc,r,l,_,_=>⟨[],r,l,rfl,λi p h=>by simp at h,λG=>by rw[Ew,Ea,qX]⟩
 | m+1,j,acc,r,l,e,T=>by
  obtain⟨p,P,S,H⟩:=CY y (k:=j) (by lia) q (cellAt sc (4+3*(j:Int)+0)) (cellAt sc (4+3*(j:Int)+1)) (cellAt sc (4+3*(j:Int)+2)) o year;obtain⟨ps,E,B,J,I,Q⟩:=gq y q (year:=year) o (s1:=s1) m (j+1) (acc++[p]) (zI (j:Int)) (zF [.int (cellAt sc (4+3*(j:Int)+0)),.int (cellAt sc (4+3*(j:Int)+1)),.int (cellAt sc (4+3*(j:Int)+2))]) (by lia) (by simp;lia);refine⟨p::ps,E,B,?_,gm S I,λG=>?_⟩
  .rw[zK,J,P,jP,zK]
  have L:∀G,Bl (gV 0) Aq Tj [u8,zF (sc.map D.int),zI (j:Int)] (Al 0 3) G=.ok [.int (cellAt sc (4+3*(j:Int)+0)),.int (cellAt sc (4+3*(j:Int)+1)),.int (cellAt sc (4+3*(j:Int)+2))] G:=λG=>by
   have u:∀(i:Int),0<=i->∀G,Tj [zI i,zF (sc.map D.int),zI (j:Int)] G=.ok (.int (cellAt sc (4+3*(j:Int)+i))) G:=λi U G=>by
    have c:=λG=>Jj (ns:=sc) (k:=4+3*(j:Int)+i) (G:=G) (by lia)
    generalize cellAt sc (4+3*(j:Int)+i)=V,sc.map D.int=SC at*;unfold Tj;simp[c]
   have C:Al 0 3=[.int 0,.int 1,.int 2]:=rfl;rw[C,Ga];simp[Cg,R.Eb,qF,Kw,if_true,u 0 (by decide)];rw[Ga];simp[Cg,R.Eb,qF,Kw,if_true,u 1 (by decide)];rw[Ga];simp[Cg,R.Eb,qF,Kw,if_true,u 2 (by decide)]
   rfl
  have F:inR 3:=Ds (by decide) (by decide);have v:∀a b c d e f g h:Option D,Bg 1 [0,6] [a,b,c,d,e,f,g,h]=[u8,a,g]:=λ_ _ _ _ _ _ _ _=>rfl
  have t:lN (acc.map RP.enc)<1000000:=by rw[zq];lia
  have K:Q8 [zF (sc.map D.int),s1,zI scale,zF (ns.map D.str),zI year,zR (lN G),zI (j:Int),l] (G++[.lst (acc.map RP.enc)])=
    .nx [zF (sc.map D.int),s1,zI scale,zF (ns.map D.str),zI year,zR (lN G),zI (j:Int),zF [.int (cellAt sc (4+3*(j:Int)+0)),.int (cellAt sc (4+3*(j:Int)+1)),.int (cellAt sc (4+3*(j:Int)+2))]] (G++[.lst ((acc++[p]).map RP.enc)]):=by
   rw[qQ,zK,qV];generalize cellAt sc (4+3*(j:Int)+0)=z,cellAt sc (4+3*(j:Int)+1)=w,cellAt sc (4+3*(j:Int)+2)=x,sc.map D.int=SC,ns.map D.str=X,p.enc=W,acc.map RP.enc=A at*;have s:∀A:DO,freeze (G++[A]) (.ok (.ref (lN G+1)) (G++[A,.lst [.int z,.int w,.int x]]))=.ok (.fl [.int z,.int w,.int x]) (G++[A]):=λA=>fY rfl
   unfold Q8;simp[Ac,F,v,L,s,H,Ex,Fl,t]
  rw[Eh,Ck];simp only[Cg,R.Cr,qF,K,Dk];have N:((j:Int)+1)=((j+1:Nat):Int):=by lia
  rw[N,Q,qk]
  rfl
def gr:(qM 0 (lN ns)).map (λk=>ns.getD k "")=ns:=by
 apply j5;intro i;rw[zj];by_cases h:i<lN ns
 .rw[List.getElem?_range' h,zJ h];simp[zY,h]
 rw[zC (by simp;lia),zC (by lia)]
 rfl
def CZ(b:n<=6){scale:Int}(d:0<=scale):∃h:RH,lN h.ps=n/\HG h/\∀(G:DH)(f k u v t:Option D),Vh [zF (sc.map D.int),zI (n:Int),zI scale,f,k,u8,u8,u8] G=.rt h.enc (G++[.lst (h.ps.map RP.enc)]):=by
 obtain⟨c,g,ng,m⟩:=CV (cellAt sc 1) b;obtain⟨ps,x,y,s,w,q⟩:=gq g b d n 0 [] u8 u8 (by lia) (by simp;lia);have a:ps.map RP.nm=c:=by rw[s,<-g];exact gr
 refine⟨⟨1+cellAt sc 1/3%3,ps⟩,?_,⟨by rw[show RH.ps ⟨1+cellAt sc 1/3%3,ps⟩=ps from rfl,a];exact ng,λi p r=>by rw[show RH.ps ⟨1+cellAt sc 1/3%3,ps⟩=ps from rfl,a];have:=w i p r;rwa[qD]at this⟩,λG f k u v t=>?_⟩
 .have:=congrArg jO a;rw[zq]at this;show lN ps=n;lia
 have e:∀G,Ed [.fl (sc.map D.int),.int 1] G=.ok (.int (cellAt sc 1)) G:=λG=>Jj (by decide)
 have l:inR (n:Int):=Ds (by lia) (by lia);have o:tidy G (.ok (.ref (lN G)) (G++[.lst []]))=.ok (.ref (lN G)) (G++[.lst []]):=Dt rfl;have j:Av (gV 6) Q8 (Al 0 n) [zF (sc.map D.int),zI (n:Int),zI scale,zF (c.map D.str),zI (1+cellAt sc 1/3%3),zR (lN G),u8,u8] (G++[.lst []])=_:=q G;rw[q9]at j;unfold RH.enc;generalize ps.map RP.enc=PS at*;generalize cellAt sc 1=V,sc.map D.int=SC,c.map D.str=z at*
 unfold Vh eJ eI eG eF;simp[Ac,e,m,o,l,j,Ex]
def C0{a:DH}{y:Int}(b:a=L++M)(f:∀n,MA n ds=u9):∃(c N:DH)(z:Int),c=L++N/\
  tidy (G++ .lst [.int x]:: .lst NS::L) (.ok (.ref (lN G+(lN a+1+1))) (G++ .lst [.int y]:: .lst NS::(a++[.lst ds])))=.ok (.ref (lN G+(lN c+1+1))) (G++ .lst [.int z]:: .lst NS::(c++[.lst ds])):=by
 have e:(G++ .lst [.int y]:: .lst NS::(a++[.lst ds]))[lN G+(lN a+1+1)]?=u7 (.lst ds):=by rw[Gm];simp
 have d:TB (lN (G++ .lst [.int x]:: .lst NS::L)) (.ref (lN G+(lN a+1+1)))=uA:=by rw[b];simp[TB]
 by_cases hp:(G++DO.lst [.int y]::DO.lst NS::(a++[DO.lst ds])).take (lN (G++DO.lst [.int x]::DO.lst NS::L))=G++DO.lst [.int x]::DO.lst NS::L
 .refine⟨L,[],x,by simp,?_⟩;unfold tidy;simp only[hp,if_true,d,e,Ij,f];simp
 refine⟨a,M,y,b,?_⟩;unfold tidy;simp only[hp,if_false]
def Z1(G L M:DH)(A B o:DO):(G++A::B::(L++o::M))[lN G+(lN L+1+1)]?=u7 o:=by rw[Gm];simp
def C1(G L M:DH)(A B o a:DO):(G++A::B::(L++o::M)).set (lN G+(lN L+1+1)) a=G++A::B::(L++a::M):=by rw[J6];simp
def gu(x most scale year:Int)(S:year<1000000)(L:DH){s5 s6:Option D}{hd:List D}(h:¬hd=[])(f:lN hd<=999997){sz:Int}{pm:D}{s11:Option D}:∃(r:List MS)(y:Int)(M:DH),
  Qs [zR (lN G),s1,zR (lN G+1),zI scale,zI year,s5,s6,zT hd,zI sz,u7 pm,zI most,s11,u8] (G++ .lst [.int x]:: .lst NS::L)=.rt (.tup (hd++[.int sz,.tup (r.map Ft),pm])) (G++ .lst [.int y]:: .lst NS::(L++M)):=by
 obtain⟨a,E,M1,I⟩:=SK x most scale G (.lst NS::L);have g:Jq [.ref (lN G),.int most,.int scale] (G++ .lst [.int x]:: .lst NS::L)=.ok (.tup (a.map WB.enc)) (G++ .lst [.int E]:: .lst NS::(L++M1)):=I;generalize t:L++M1=P at*;obtain⟨d,m,N,l,q⟩:=C0 (G:=G) (NS:=NS) (ds:=[.tup [.int 0,.tup (a.map WB.enc)]]) (x:=x) (y:=E) t.symm (λn=>by simp);obtain⟨F,C,O,K⟩:=tk N (k:=2) (by decide) (by decide)
 have c:=K G (.lst NS::(d++[.lst [.tup [.int 0,.tup (a.map WB.enc)]]]));by_cases s:F=1/\1<year
 .obtain⟨i,v,Q,H⟩:=tk C (k:=year-1) (by lia) (by lia);have p:=H G (.lst NS::(d++[.lst [.tup [.int 0,.tup (a.map WB.enc)]]]));obtain⟨b,w,M2,j⟩:=SK v most scale G (.lst NS::(d++[.lst [.tup [.int 0,.tup (a.map WB.enc)]]]));have u:Jq [.ref (lN G),.int most,.int scale] (G++ .lst [.int v]:: .lst NS::(d++[.lst [.tup [.int 0,.tup (a.map WB.enc)]]]))=.ok (.tup (b.map WB.enc)) (G++ .lst [.int w]:: .lst NS::(d++ .lst [.tup [.int 0,.tup (a.map WB.enc)]]::M2)):=by rw[j];simp
  refine⟨[(0,a),(1+i,b)],w,m++ .lst [.tup [.int 0,.tup (a.map WB.enc)],.tup [.int (1+i),.tup (b.map WB.enc)]]::M2,?_⟩;have e: [((0:Int),a),(1+i,b)].map Ft=[.tup [.int 0,.tup (a.map WB.enc)],.tup [.int (1+i),.tup (b.map WB.enc)]]:=rfl;have o:L++(m++ .lst [.tup [.int 0,.tup (a.map WB.enc)],.tup [.int (1+i),.tup (b.map WB.enc)]]::M2)=d++ .lst [.tup [.int 0,.tup (a.map WB.enc)],.tup [.int (1+i),.tup (b.map WB.enc)]]::M2:=by rw[l];simp
  rw[e,o];generalize a.map WB.enc=A,b.map WB.enc=B at*;unfold Qs W5 Yc;simp[Ac,g,q,c,s.1,s.2,p,u,Z1,C1,h,f]
 refine⟨[(0,a)],C,m++[.lst [.tup [.int 0,.tup (a.map WB.enc)]]],?_⟩;have e: [((0:Int),a)].map Ft=[.tup [.int 0,.tup (a.map WB.enc)]]:=rfl;have o:L++(m++[.lst [.tup [.int 0,.tup (a.map WB.enc)]]])=d++[.lst [.tup [.int 0,.tup (a.map WB.enc)]]]:=by rw[l];simp
 rw[e,o];generalize a.map WB.enc=A at*;unfold Qs W5 Yc;by_cases j:F=1
 .have J:¬1<year:=λz=>s ⟨j,z⟩
  simp[Ac,g,q,c,j,J,Z1,h,f]
 simp[Ac,g,q,c,j,Z1,h,f]
def nsG(G L:DH)(A:DO)(NS:List D):(G++A:: .lst NS::L)[lN G+1]?=u7 (.lst NS):=by rw[Gm];rfl
def OS(hn:lN ns=n)(hk:k<n)(hn6:n<=6)(x:Int){scale:Int}(S:0<=scale)(year:Int)(hy:year<1000000)(G L:DH):∃p:RP,p.nm=ns.getD k ""/\PG ns k p/\
  Pl G (.lst (ns.map D.str)::L) (Jx [.ref (lN G),.int (k:Int),.ref (lN G+1),.int scale,.int year] (G++ .lst [.int x]:: .lst (ns.map D.str)::L)) p.enc:=by
 obtain⟨a,c⟩:∃a:Int->DH,∀x,a x=G++ .lst [.int x]:: .lst (ns.map D.str)::L:=⟨_,λ_=>rfl⟩;have T:∀(x:Int){m:Int},0<m->m<1000000->∃i y:Int,(0<=i/\i<m)/\Cq [.ref (lN G),.int m] (a x)=.ok (.int i) (a y):=λx m h0 h1=>by obtain⟨i,y,b,t⟩:=tk x h0 h1;exact⟨i,y,b,by rw[c,c];exact t G _⟩
 have E:∀x,(a x)[lN G+1]?=u7 (.lst (ns.map D.str)):=λx=>by rw[c];exact nsG _ _ _ _
 have X:∀(x:Int)(U:List D),(∀n,MA n U=u9)->freeze (a x) (.ok (.ref (lN (a x))) (a x++[.lst U]))=.ok (.fl U) (a x):=λx U be=>Be (be _)
 obtain⟨i1,x1,b1,t1⟩:=T x (m:=4) (by decide) (by decide);obtain⟨i2,x2,b2,t2⟩:=T x1 (m:=(n:Int)-(k:Int)) (by lia) (by lia);obtain⟨g,x3,b3,t3⟩:=T x2 (m:=6) (by decide) (by decide);obtain⟨o,Q,b4,t4⟩:=T x3 (m:=8) (by decide) (by decide);obtain⟨i5,x5,b5,t5⟩:=T Q (m:=3) (by decide) (by decide);obtain⟨i6,x6,b6,t6⟩:=T Q (m:=2) (by decide) (by decide);obtain⟨A,K,akd⟩:=Qq (l:=[("basin":Str),"basin","town","mill"]) (by lia) b1.2
 have P:MC [D.str "basin",.str "basin",.str "town",.str "mill"] i1=zS A:=akd;obtain⟨dn,Ps,N⟩:=gj (l:=ns++[("sea":Str)]) (i:=(k:Int)+1+i2) (by lia) (by simp;lia);have f:∃j,k<j/\(ns++[("sea":Str)])[j]?=u7 dn:=⟨_,by lia,Ps⟩;have q:0<=g/\g<=5:=by lia
 have s:=j8 b4.1 S;have ank:MC (ns.map D.str) (k:Int)=zS (ns.getD k ""):=Ce rfl (by rw[zj,zJ (by lia)];simp[zY,(by lia:k<lN ns)]);have m4:∀G,Bq (.int o) (.int scale) G=.ok (.int (o*scale)) G:=λG=>Dr (by lia) (by lia)
 have es:(ns++[("sea":Str)]).map D.str=ns.map D.str++[.str "sea"]:=by simp
 rw[es]at N;have fd:=λx=>X x (ns.map D.str++[.str "sea"]) (λn=>by rw[<-es];exact S9)
 have W:lN (ns.map D.str)=n:=by rw[zq];exact hn
 have ad:∀x,Do (.ref (lN G+1)) (.fl [.str "sea"]) (a x)=.ok (.ref (lN (a x))) (a x++[.lst (ns.map D.str++[.str "sea"])]):=λx=>by
  show(match Em (.ref (lN G+1)) (a x),Em (.fl [.str "sea"]) (a x)with
   |some xs,u7 ys=>if lN xs+lN ys<=1000000 then R.ok (D.ref (lN (a x))) (a x++[DO.lst (xs++ys)])else .bad
   |_,_=>.bad)=_
  have e1:Em (.ref (lN G+1)) (a x)=u7 (ns.map D.str):=by simp[Em,E]
  have e2:Em (.fl [.str "sea"]) (a x)=u7 [.str "sea"]:=rfl;rw[e1,e2];exact if_pos (by rw[W];simp;lia)
 have u:∀(p:RP)(y:Int)(M:DH),Jx [.ref (lN G),.int (k:Int),.ref (lN G+1),.int scale,.int year] (a x)=tidy (a x) (.ok p.enc (G++ .lst [.int y]::(.lst (ns.map D.str)::L++M)))->Pl G (.lst (ns.map D.str)::L) (Jx [.ref (lN G),.int (k:Int),.ref (lN G+1),.int scale,.int year] (G++ .lst [.int x]:: .lst (ns.map D.str)::L)) p.enc:=λp y M e=>by rw[<-c,e,c];exact gZ λ_=>Nr
 generalize hNM:ns.getD k ""=nm at*;have J:Qv [zR (lN G),zI (k:Int),zR (lN G+1),zI scale,zI year,u8,u8,u8,u8,u8,u8,u8,u8] (a x)=
   Ka [zR (lN G),zI (k:Int),zR (lN G+1),zI scale,zI year,zS A,zS dn,zT [.str A,.str nm,.str dn,.int g],zI (o*scale),u8,u8,u8,u8] (a Q):=by
  generalize ns.map D.str=NS at*;unfold Qv dw du dt;simp[Ac,t1,λx=>X x [.str "basin",.str "basin",.str "town",.str "mill"] (λn=>rfl),P,E,λx=>X x [.str "sea"] (λn=>rfl),ad,fd,W,t2,N,E,ank,t3,t4,m4]
 have q1:¬(("basin":Str)="town"):=by decide
 have Y:¬(("basin":Str)="mill"):=by decide
 have q3:¬(("mill":Str)="town"):=by decide
 have hk3:A="town"\/A="mill"\/A="basin":=by
  simp at K;rcases K with h|h|h
  .exact .inr (.inr h)
  .exact .inl h
  exact .inr (.inl h)
 have w:∀(d:D)(H:DH),Ka [zR (lN G),zI (k:Int),zR (lN G+1),zI scale,zI year,zS A,zS dn,zT [.str A,.str nm,.str dn,.int g],zI (o*scale),u8,u8,u8,u8] (a Q)=.rt d H->Jx [.ref (lN G),.int (k:Int),.ref (lN G+1),.int scale,.int year] (a x)=tidy (a x) (.ok d H):=λd H e=>by
  unfold Jx;rw[Aj];show tidy (a x) (Qv [zR (lN G),zI (k:Int),zR (lN G+1),zI scale,zI year,u8,u8,u8,u8,u8,u8,u8,u8] (a x)).ret=_;rw[J,e]
  rfl
 rcases hk3 with rfl|rfl|rfl
 .refine⟨⟨nm,dn,g,.YC (o*scale) i5⟩,rfl,⟨f,q,s⟩,u _ x5 [] ?_⟩;rw[qX,<-c];refine w _ _ ?_;unfold RP.enc RP.row RK.rest RK.NF Ka;simp[t5]
 .refine⟨⟨nm,dn,g,.GD (o*scale)⟩,rfl,⟨f,q,s⟩,u _ Q [] ?_⟩;rw[qX,<-c];refine w _ _ ?_;unfold RP.enc RP.row RK.rest RK.NF Ka Ss;simp[q3]
 by_cases hp:i6=1/\1<n
 .obtain⟨i7,x7,b7,t7⟩:=T x6 (m:=(n:Int)-1) (by lia) (by lia);obtain⟨O,x8,b8,t8⟩:=T x7 (m:=6) (by decide) (by decide);obtain⟨i9,x9,b9,t9⟩:=T x8 (m:=5) (by decide) (by decide);have I:(0:Int)<(n:Int):=by lia
  have hn0:0<n:=by lia
  obtain⟨Z,hto,ato⟩:=Qq (i:=((k:Int)+1+i7)%(n:Int)) (xZ _ (by lia)) (by rw[hn];exact jA _ I);have m8:∀G,Bq (.int O) (.int scale) G=.ok (.int (O*scale)) G:=λG=>Dr (by lia) (by lia)
  obtain⟨r,y,M,C⟩:=gu x9 (O*scale) scale year hy L (s1:=zI (k:Int)) (s5:=zS "basin") (s6:=zS dn) (hd:=[.str "basin",.str nm,.str dn,.int g]) (by simp) (by simp) (sz:=o*scale) (pm:=.tup [.str Z,.int (1+i9),.int (O*scale)]) (s11:=zS Z);rw[<-c]at C;refine⟨⟨nm,dn,g,.RA (o*scale) r (u7 (Z,1+i9,O*scale))⟩,rfl,⟨f,q,s,λt d m z=>by cases z;exact⟨hto,⟨by lia,by lia⟩,j8 b8.1 S⟩⟩,u _ y M ?_⟩
  refine w _ _ ?_;have B:(1:Int)<(n:Int):=by lia
  unfold RP.enc RP.row RK.rest RK.NF KJ;unfold Ka Ss Xh Zc Yx;generalize v:r.map Ft=RR,ns.map D.str=NS at*;simp[q1,Y,t6,hp.1,hp.2,B,E,W,t7,I,hn0,E,ato,t8,m8,t9,C,v]
 .obtain⟨r,y,M,C⟩:=gu x6 0 scale year hy L (s1:=zI (k:Int)) (s5:=zS "basin") (s6:=zS dn) (hd:=[.str "basin",.str nm,.str dn,.int g]) (by simp) (by simp) (sz:=o*scale) (pm:=.LA) (s11:=u8);rw[<-c]at C;refine⟨⟨nm,dn,g,.RA (o*scale) r u8⟩,rfl,⟨f,q,s,λt d m z=>by cases z⟩,u _ y M ?_⟩;refine w _ _ ?_;unfold RP.enc RP.row RK.rest RK.NF KJ;unfold Ka Ss Xh Zc Yx;generalize v:r.map Ft=RR,ns.map D.str=NS at*
  by_cases h6:i6=1
  .have B:¬1<n:=λz=>hp ⟨h6,z⟩
   have F:¬(1:Int)<(n:Int):=by lia
   simp[q1,Y,t6,h6,B,F,E,W,C,v]
  simp[q1,Y,t6,h6,C,v]
noncomputable def cp(s:Str):List Nat:=s.cps.toList
def C2{a b:Str}:cp (a++b)=cp a++cp b:=by show(Str.append a b).cps.toList=_;simp[Str.append,cp]
def C3{c:Nat}{n:Int}(a:1<=n):cp (Du ⟨#[c]⟩ n)=zQ n.toNat c:=by
 unfold Du;rw[if_neg (by lia)];by_cases h:n=1
 .subst h
  rfl
 have e:(n==1||Str.length ⟨#[c]⟩==0)=uA:=by simp[h,Str.length]
 rw[e]
 show((zQ n.toNat #[c]).foldl (·++·) #[]).toList=_
 rw[Qy];simp
def Own(c:Nat)(nm:Str):Prop:=∃(pre:Str)(k:Nat),pre∈[("":Str),"none","sea"]/\1<=k/\k<=3/\cp nm=cp pre++zQ k c
def Zr{c:Nat}{nm:Str}(h:Own c nm):(cp nm).getLast?=u7 c:=by obtain⟨a,k,_,b,_,e⟩:=h;obtain⟨m,rfl⟩:∃m,k=m+1:=⟨k-1,by lia⟩;rw[e,List.replicate_succ',<-qk,List.getLast?_concat]
def gw{c:Nat}{nm:Str}(h:Own c nm):nm≠("none":Str)/\nm≠("sea":Str):=by
 obtain⟨d,k,hp,g,f,e⟩:=h;have p0:cp ("":Str)=[]:=by decide +kernel
 have a:cp ("none":Str)=[110,111,110,101]:=by decide +kernel
 have b:cp ("sea":Str)=[115,101,97]:=by decide +kernel
 have hk:k=1\/k=2\/k=3:=by lia
 simp[z0,List.not_mem_nil,or_false]at hp;refine⟨λz=>?_,λz=>?_⟩
 .rw[z,a]at e;rcases hp with rfl|rfl|rfl
  .rw[p0]at e
   rcases hk with rfl|rfl|rfl<;>simp[zQ]at e
  .rw[a]at e
   rcases hk with rfl|rfl|rfl<;>simp[zQ]at e
  rw[b]at e
  rcases hk with rfl|rfl|rfl<;>simp[zQ]at e
 rw[z,b]at e;rcases hp with rfl|rfl|rfl
 .rw[p0]at e
  rcases hk with rfl|rfl|rfl<;>simp[zQ]at e
  lia
 .rw[a]at e
  rcases hk with rfl|rfl|rfl<;>simp[zQ]at e
 .rw[b]at e
  rcases hk with rfl|rfl|rfl<;>simp[zQ]at e
structure NL (ns:List Str) (lt:List Nat):Prop where
 nd:ns.Nodup
 ld:lt.Nodup
 ow:∀nm∈ns,nm=("none":Str)\/∃c,c∉lt/\Own c nm
def NL.ng{lt:List Nat}(h:NL ns lt):NG ns:=⟨h.nd,λz=>by
 rcases h.ow _ z with e|⟨c,_,o⟩
 .exact absurd e (by decide +kernel)
 exact(gw o).2 rfl⟩
def NL.own{lt:List Nat}(h:NL ns lt)(l:j<lN lt){nm:Str}(o:Own lt[j] nm):NL (ns++[nm]) (lt.eraseIdx j):=by
 have p:lt[j]∉lt.eraseIdx j:=λz=>by
  obtain⟨i,s,e⟩:=List.mem_eraseIdx_iff_getElem?.mp z;obtain⟨n,m⟩:=zZ.mp e;rcases Nat.lt_trichotomy i j with q|q|q
  .exact jH.mp h.ld i j n l q m
  .exact s q
  exact jH.mp h.ld j i l n q m.symm
 refine⟨List.nodup_append.mpr ⟨h.nd,by simp,λa r b g z=>?_⟩,h.ld.sublist (List.eraseIdx_sublist ..),λx d=>?_⟩
 .have g:b=nm:=by simpa using g
  subst g;subst z;rcases h.ow _ r with e|⟨c,f,k⟩
  .exact(gw o).1 e
  have:=(Zr k).symm.trans (Zr o);cases this;exact f (qK l)
 rcases qz.mp d with d|d
 .rcases h.ow _ d with e|⟨c,f,k⟩
  .exact .inl e
  exact .inr ⟨c,(λc f z=>f (List.mem_of_mem_eraseIdx z)) c f,k⟩
 .have d:x=nm:=by simpa using d
  subst d;exact .inr ⟨_,p,o⟩
def NL.none{lt:List Nat}(h:NL ns lt)(l:("none":Str)∉ns):NL (ns++[("none":Str)]) (lt.eraseIdx j):=by
 refine⟨List.nodup_append.mpr ⟨h.nd,by simp,λa k b f z=>?_⟩,h.ld.sublist (List.eraseIdx_sublist ..),λx d=>?_⟩
 .have f:b=("none":Str):=by simpa using f
  subst f;subst z;exact l k
 rcases qz.mp d with d|d
 .rcases h.ow _ d with e|⟨c,g,i⟩
  .exact .inl e
  exact .inr ⟨c,λz=>g (List.mem_of_mem_eraseIdx z),i⟩
 exact .inl (by simpa using d)
def C4(h:H[q]?=u7 (.lst (ns.map D.str))):∃b:Bool,(b=u9->("none":Str)∉ns)/\Ip (.str "none") (.ref q) H=.ok (.bl b) H:=by
 have hs:Bm (.ref q) H=u7 (ns.map D.str):=by simp[Bm,h]
 have c:∀l:List Str,I8 (l.map D.str)=u7 (l.map V.str):=λl=>by
  induction l with
  |nil=>rfl
  |cons s l a=>simp[I8,Km,a]
 have d:∀l:List Str,LN (.str "none") (l.map V.str)=decide (("none":Str)∈l):=λl=>by
  unfold LN
  induction l with
  |nil=>rfl
  |cons s l a=>
   rw[zK,j0,a];by_cases e:s=("none":Str)
   .subst e;simp[HI]
   have f:¬("none":Str)=s:=λz=>e z.symm
   simp[HI,e,f]
 refine⟨!decide (("none":Str)∈ns),λz=>by simpa using z,?_⟩;unfold Ip;rw[show inD (.str "none") (.ref q) H=u7 (decide (("none":Str)∈ns)) by simp[inD,hs,Km,c,d]]
def C5{x:Str}{n:Int}(c:x.length<=10)(d:0<=n)(e:n<=10):(Du x n).length<=100:=by
 have b:(Du x n).length=(Du x n).cps.toList.length:=by simp[Str.length]
 have a:x.length=x.cps.toList.length:=by simp[Str.length]
 rw[b,congrArg jO (ug (x:=x) (n:=n)),List.length_flatten,List.map_replicate,List.sum_replicate_nat,<-a];have:n.toNat<=10:=by lia
 exact vZ this c
theorem gx{a b:Type}(f:a->b):∀(l:List a)(j:Nat),(l.map f).eraseIdx j=(l.eraseIdx j).map f
 |[],_|x::l,0=>by simp
 |x::l,j+1=>by simp[gx f l j]
noncomputable def one(c:Nat):Str:=⟨#[c]⟩
def C6{d:List Nat}(nl:NL ns d)(t?:ns.length<=20)(ZX:1<=d.length/\d.length<=26)(x:Int)(s1 s2 s3 s6 x7 x8:Option D):∃(nm:Str)(s:List Nat)(y:Int)(F H:Option D),s.length+1=d.length/\NL (ns++[nm]) s/\
  Hs [zR G.length,s1,s2,s3,zR (G.length+1),zR (G.length+2),s6,x7,x8] (G++[.lst [.int x],.lst (ns.map D.str),.lst (d.map (D.str∘one))])=
   .nx [zR G.length,s1,s2,s3,zR (G.length+1),zR (G.length+2),s6,F,H] (G++[.lst [.int y],.lst ((ns++[nm]).map D.str),.lst (s.map (D.str∘one))]):=by
 obtain⟨q,k⟩:∃q:Int->List D->List D->DH,∀x a b,q x a b=G++[.lst [.int x],.lst a,.lst b]:=⟨_,λ_ _ _=>rfl⟩;have T:∀(x:Int)(a b:List D){m:Int},0<m->m<1000000->∃i y:Int,(0<=i/\i<m)/\Cq [.ref G.length,.int m] (q x a b)=.ok (.int i) (q y a b):=λx a b m h0 h1=>by obtain⟨i,y,c,t⟩:=tk x h0 h1;exact⟨i,y,c,by rw[k,k];exact t G _⟩
 have P:∀x a b,(q x a b)[G.length+1]?=u7 (.lst a):=λx a b=>by rw[k,Gm];rfl
 have N:∀x a b,(q x a b)[G.length+2]?=u7 (.lst b):=λx a b=>by rw[k,Gm];rfl
 have sN:∀x a b c,(q x a b).set (G.length+1) (.lst c)=q x c b:=λx a b c=>by rw[k,k,J6];rfl
 have sL:∀x a b c,(q x a b).set (G.length+2) (.lst c)=q x a c:=λx a b c=>by rw[k,k,J6];rfl
 have fz:∀(x:Int)(a b S:List D),(∀n,MA n S=u9)->freeze (q x a b) (.ok (.ref (q x a b).length) (q x a b++[.lst S]))=.ok (.fl S) (q x a b):=λx a b S be=>Be (be _)
 obtain⟨i1,x1,b1,W⟩:=T x (ns.map D.str) (d.map (D.str∘one)) (m:=(d.length:Int)) (by lia) (by lia);obtain⟨j,ej⟩:∃j:Nat,i1=j:=⟨i1.toNat,by lia⟩;subst ej;have hj:j<d.length:=by lia
 have B:(d.map (D.str∘one)).length=d.length:=zq ..;have z:Lz (.ref (G.length+2)) [.int (j:Int)] (q x1 (ns.map D.str) (d.map (D.str∘one)))=.ok (.str (one d[j])) (q x1 (ns.map D.str) ((d.eraseIdx j).map (D.str∘one))):=by
  have e1:(d.map (D.str∘one))[(j:Int).toNat]?=zS (one d[j]):=by simp[hj]
  have e2:(d.map (D.str∘one)).eraseIdx (j:Int).toNat=(d.eraseIdx j).map (D.str∘one):=gx _ _ _;unfold Lz;simp only[N,e1,e2,sL];rw[if_pos (by lia)]
 have M:(one d[j]).length<=10:=by show 1<=10;decide
 generalize w:d.eraseIdx j=g at*;have K:g.length+1=d.length:=by rw[<-w,List.length_eraseIdx_of_lt hj];lia
 have ow:=λnm(o:Own d[j] nm)=>nl.own hj o
 have on:=λh=>nl.none h (j:=j)
 rw[w]at on;simp[w]at ow;generalize d[j]=cc at*;obtain⟨r,O⟩:∃r,r=one cc:=⟨_,rfl⟩;rw[<-O]at M z;obtain⟨i2,x2,b2,t2⟩:=T x1 (ns.map D.str) (g.map (D.str∘one)) (m:=3) (by decide) (by decide);obtain⟨v,X,b3,Y⟩:=T x2 (ns.map D.str) (g.map (D.str∘one)) (m:=3) (by decide) (by decide);obtain⟨i4,x4,b4,t4⟩:=T X (ns.map D.str) (g.map (D.str∘one)) (m:=2) (by decide) (by decide);obtain⟨f,A,L⟩:=Qq (l:=[("":Str),"none","sea"]) (by lia) b2.2
 have p:MC [D.str "",.str "none",.str "sea"] i2=zS f:=L;have Y?:f.length<=10:=by
  simp at A
  rcases A with rfl|rfl|rfl<;>decide +kernel
 have Q:=fz x2 (ns.map D.str) (g.map (D.str∘one)) [.str "",.str "none",.str "sea"] (λn=>rfl);have f2:=fz x1 (ns.map D.str) (g.map (D.str∘one)) [.str "",.str "none",.str "sea"] (λn=>rfl);have mu:∀G,Bq (.str r) (.int (1+v)) G=.ok (.str (Du r (1+v))) G:=λG=>ul ⟨by lia,by lia,by lia⟩
 have hrl:=C5 (n:=1+v) M (by lia) (by lia);have U:∀G,Do (.str f) (.str (Du r (1+v))) G=.ok (.str (f++Du r (1+v))) G:=λG=>by show(if f.length+(Du r (1+v)).length<=1000000 then R.ok (D.str (f++Du r (1+v))) G else .bad)=_;rw[if_pos (by lia)]
 have on1:Own cc (f++Du r (1+v)):=⟨f,(1+v).toNat,A,by lia,by lia,by rw[C2,O];exact congrArg _ (C3 (by lia))⟩;have J:=ow _ on1;have hnl:(f++Du r (1+v)).length<=1000000:=by
  have:(f++Du r (1+v)).length=f.length+(Du r (1+v)).length:=by show(Str.append _ _).length=_;simp[Str.append,Str.length]
  lia
 generalize f++Du r (1+v)=nm at*;have Z:∀G,Gk (.str nm) u8 (u7 4) G=.ok (.str (Im nm u8 (u7 4))) G:=λG=>by rw[Oj,if_pos hnl]
 obtain⟨bb,N9,I⟩:=C4 (P X (ns.map D.str) (g.map (D.str∘one)));have fs:∀(x:Str)(G:DH),freeze G (.ok (.str x) G)=.ok (.str x) G:=λx G=>Jv rfl
 have C:(ns.map D.str).length<1000000:=by rw[zq];lia
 have u:∀(E:Str)(y:Int)(F H:Option D),NL (ns++[E]) g->Hs [zR G.length,s1,s2,s3,zR (G.length+1),zR (G.length+2),s6,x7,x8] (q x (ns.map D.str) (d.map (D.str∘one)))=.nx [zR G.length,s1,s2,s3,zR (G.length+1),zR (G.length+2),s6,F,H] (q y (ns.map D.str++[.str E]) (g.map (D.str∘one)))->∃(nm:Str)(s:List Nat)(y:Int)(F H:Option D),s.length+1=d.length/\NL (ns++[nm]) s/\
  Hs [zR G.length,s1,s2,s3,zR (G.length+1),zR (G.length+2),s6,x7,x8] (G++[.lst [.int x],.lst (ns.map D.str),.lst (d.map (D.str∘one))])=
   .nx [zR G.length,s1,s2,s3,zR (G.length+1),zR (G.length+2),s6,F,H] (G++[.lst [.int y],.lst ((ns++[nm]).map D.str),.lst (s.map (D.str∘one))]):=λE y F H hN e=>⟨E,g,y,F,H,K,hN,by
   rw[k,k]at e;rw[e];simp⟩
 have on2:=on;generalize g.map (D.str∘one)=LT2,d.map (D.str∘one)=LT,ns.map D.str=NS,d.length=ln,hcu:Im nm u8 (u7 4)=cu at*;by_cases c1:cu=("none":Str)
 .cases bb with
  |true=>
   by_cases c3:i4=1
   .refine u "none" x4 (zS r) (zS "none") (on2 (N9 rfl)) ?_;unfold Hs;simp[-Oj,-Rf,Ac,N,B,W,z,t2,f2,Q,p,Y,mu,U,Z,fs,c1,I,t4,c3,P,sN,C]
   refine u nm x4 (zS r) (zS nm) J ?_;unfold Hs;simp[-Oj,-Rf,Ac,N,B,W,z,t2,f2,Q,p,Y,mu,U,Z,fs,c1,I,t4,c3,P,sN,C]
  |false=>
   refine u nm X (zS r) (zS nm) J ?_;unfold Hs;simp[-Oj,-Rf,Ac,N,B,W,z,t2,f2,Q,p,Y,mu,U,Z,fs,c1,I,P,sN,C]
 refine u nm X (zS r) (zS nm) J ?_;unfold Hs;simp[-Oj,-Rf,Ac,N,B,W,z,t2,f2,Q,p,Y,mu,U,Z,fs,c1,P,sN,C]
theorem gy{G:DH}:∀(m j:Nat)(ns:List Str)(b:List Nat)(x:Int)(d c x8:Option D),lN ns+m<=20->m<=lN b->lN b<=26->NL ns b->∃(a:List Str)(k:List Nat)(y:Int)(q i e:Option D),lN a=lN ns+m/\NG a/\
  Av (gV 6) Hs (Al (j:Int) m) [zR (lN G),s1,s2,s3,zR (lN G+1),zR (lN G+2),d,c,x8] (G++[.lst [.int x],.lst (ns.map D.str),.lst (b.map (D.str∘one))])=
   .nx [zR (lN G),s1,s2,s3,zR (lN G+1),zR (lN G+2),q,i,e] (G++[.lst [.int y],.lst (a.map D.str),.lst (k.map (D.str∘one))])
 |0,j,ns,b,x,d,c,x8,_,_,_,h=>⟨ns,b,x,d,c,x8,rfl,h.ng,by rw[Ew,Ea]⟩
 |m+1,j,ns,b,x,d,c,x8,A,w,t,s=>by obtain⟨nm,f,y,i,e,B,v,p⟩:=C6 (G:=G) s (by lia) ⟨by lia,t⟩ x s1 s2 s3 (zI (j:Int)) c x8;obtain⟨a,g,z,n,l,u,o,ng,r⟩:=gy m (j+1) (ns++[nm]) f y (zI (j:Int)) i e (by simp;lia) (by lia) (by lia) v;refine⟨a,g,z,n,l,u,by rw[o];simp;lia,ng,?_⟩;rw[Eh,Ck];simp only[Cg,R.Cr,qF,p,Dk];exact r
def C7(hd:TB (lN G) d=u9):freeze G (.ok d H)=.ok d G\/freeze G (.ok d H)=.ok d H:=by
 unfold freeze;have e:G7 H (lN G) 9 d=u7 d:=by unfold G7;rw[if_pos hd]
 by_cases h:H.take (lN G)=G
 .left
  simp[h,e,if_true]
 right
 simp[h,if_false]
theorem gz(o:lN ns=n)(a:n<=6){scale year:Int}(b:0<=scale)(l:year<1000000):∀(m j:Nat)(x:Int)(L:DH),j+m=n->∃(ps:List RP)(y:Int)(M:DH),ps.map RP.nm=(qM j m).map (λk=>ns.getD k "")/\(∀i p,ps[i]?=u7 p->PG ns (j+i) p)/\
  Bl (gV 0) Aq Nq [u8,zR (lN G),zI scale,zI year,zR (lN G+1)] (Al (j:Int) m) (G++ .lst [.int x]:: .lst (ns.map D.str)::L)=.ok (ps.map RP.enc) (G++ .lst [.int y]:: .lst (ns.map D.str)::(L++M))
 |0,j,x,L,_=>⟨[],x,[],rfl,λi p h=>by simp at h,by rw[Ew,qX];rfl⟩
 | m+1,j,x,L,e=>by
  obtain⟨p,q,z,d,M1,u⟩:=OS o (k:=j) (by lia) a x b year l G L;have f:Jx [.ref (lN G),.int (j:Int),.ref (lN G+1),.int scale,.int year] (G++ .lst [.int x]:: .lst (ns.map D.str)::L)=.ok p.enc (G++ .lst [.int d]:: .lst (ns.map D.str)::(L++M1)):=u;obtain⟨c,M2,r⟩:∃(c:Int)(M2:DH),Nq [zI (j:Int),zR (lN G),zI scale,zI year,zR (lN G+1)] (G++ .lst [.int x]:: .lst (ns.map D.str)::L)=.ok p.enc (G++ .lst [.int c]:: .lst (ns.map D.str)::(L++M2)):=by
   have g:Nq [zI (j:Int),zR (lN G),zI scale,zI year,zR (lN G+1)] (G++ .lst [.int x]:: .lst (ns.map D.str)::L)=freeze (G++ .lst [.int x]:: .lst (ns.map D.str)::L) (.ok p.enc (G++ .lst [.int d]:: .lst (ns.map D.str)::(L++M1))):=by
    rw[<-f]
    rfl
   rcases C7 Nr with h|h
   .exact⟨x,[],by rw[g,h,qX]⟩
   exact⟨d,M1,by rw[g,h]⟩
  obtain⟨ps,y,M,v,w,s⟩:=gz o a b l m (j+1) c (L++M2) (by lia);refine⟨p::ps,y,M2++M,?_,gm z w,?_⟩
  .rw[zK,v,q,jP,zK]
  have t:((j:Int)+1)=((j+1:Nat):Int):=by lia
  rw[Eh,Ga,t];simp only[Cg,R.Eb,qF,Kw,if_true,r];rw[s,R.Eb,qk]
  rfl
def C8{y:Int}(i:∀n,MA n ds=u9):∃(z:Int)(N:DH),(freeze (G++ .lst [.int x]:: .lst NS::L) (.ok (.ref (lN G+(lN L+lN M+1+1))) (G++ .lst [.int y]:: .lst NS::(L++(M++[.lst ds]))))).bind (λd f=>Df [d] f)=.ok (.tup ds) (G++ .lst [.int z]:: .lst NS::(L++N)):=by
 have h:(G++ .lst [.int y]:: .lst NS::(L++(M++[.lst ds])))[lN G+(lN L+lN M+1+1)]?=u7 (.lst ds):=by rw[Gm];simp
 by_cases hp:(G++DO.lst [.int y]::DO.lst NS::(L++(M++[DO.lst ds]))).take (lN (G++DO.lst [.int x]::DO.lst NS::L))=G++DO.lst [.int x]::DO.lst NS::L
 .refine⟨x,[],?_⟩;have b:(G++DO.lst [.int y]::DO.lst NS::(L++(M++[DO.lst ds])))=(G++DO.lst [.int x]::DO.lst NS::L)++(M++[DO.lst ds]):=by
   have a:=List.take_append_drop (lN (G++DO.lst [.int x]::DO.lst NS::L)) (G++DO.lst [.int y]::DO.lst NS::(L++(M++[DO.lst ds])));rw[hp]at a;have g:(G++DO.lst [.int y]::DO.lst NS::(L++(M++[DO.lst ds]))).drop (lN (G++DO.lst [.int x]::DO.lst NS::L))=M++[DO.lst ds]:=by
    have e:(G++DO.lst [.int y]::DO.lst NS::(L++(M++[DO.lst ds])))=(G++DO.lst [.int y]::DO.lst NS::L)++(M++[DO.lst ds]):=by simp
    have j:lN (G++DO.lst [.int x]::DO.lst NS::L)=lN (G++DO.lst [.int y]::DO.lst NS::L):=by simp
    rw[e,j,List.drop_append_of_le_length (zv _),List.drop_length]
    rfl
   rw[g]at a;exact a.symm
  have c:lN G+(lN L+lN M+1+1)=lN (G++DO.lst [.int x]::DO.lst NS::L)+lN M:=by simp;lia
  rw[b,c,bj (M++[DO.lst ds]) (by simp) (i _),qX]
  rfl
 refine⟨y,M++[.lst ds],?_⟩;have e:freeze (G++ .lst [.int x]:: .lst NS::L) (.ok (.ref (lN G+(lN L+lN M+1+1))) (G++ .lst [.int y]:: .lst NS::(L++(M++[.lst ds]))))=.ok (.ref (lN G+(lN L+lN M+1+1))) (G++ .lst [.int y]:: .lst NS::(L++(M++[.lst ds]))):=by unfold freeze;simp only[hp,if_false]
 rw[e,R.Eb];simp[h]
def Ts:∃a:List Nat,lN a=26/\NL [] a/\signs ("abcdefghijklmnopqrstuvwxyz":Str)=a.map (D.str∘one):=by
 refine⟨("abcdefghijklmnopqrstuvwxyz":Str).cps.toList,by decide +kernel,⟨by simp,by decide +kernel,by simp⟩,?_⟩;unfold signs
 rfl
def RS(x:Int){scale:Int}(J:0<=scale)(HY:1<=n)(P:n<=6)(G:DH):∃h:RH,lN h.ps=n/\HG h/\∃L:DH,Np [.ref (lN G),.int (n:Int),.int scale] (G++[.lst [.int x]])=.ok h.enc (G++L):=by
 obtain⟨q,m,b1,t1⟩:=tk x (k:=3) (by decide) (by decide);obtain⟨lt,lt1,t,F⟩:=Ts;obtain⟨o,j,A,y6,y7,y8,X,ng,hL⟩:=gy n 0 [] lt m u8 u8 u8 (by simp;lia) (by lia) (by lia) t;have s:lN o=n:=by simpa using X
 obtain⟨ps,y,M,p1,p2,Y⟩:=gz s P (year:=1+q) J (by lia) n 0 A [.lst (j.map (D.str∘one))] (by lia);have l:ps.map RP.nm=o:=by rw[p1,<-s];exact gr
 obtain⟨z,N,w⟩:=C8 (G:=G) (L:=[.lst (j.map (D.str∘one))]) (M:=M) (NS:=o.map D.str) (x:=A) (y:=y) (λ_=>CU);have K:lN (ps.map RP.enc)<=1000000:=by have:=congrArg jO l;rw[zq]at this⊢;lia
 refine⟨⟨1+q,ps⟩,?_,⟨by rw[show RH.ps ⟨1+q,ps⟩=ps from rfl,l];exact ng,λi p Z=>by rw[show RH.ps ⟨1+q,ps⟩=ps from rfl,l];have:=p2 i p Z;rwa[qD]at this⟩,?_⟩
 .have:=congrArg jO l;rw[zq]at this;show lN ps=n;lia
 have T:inR (n:Int):=Ds (by lia) (by lia);have H:tidy (G++[.lst [.int m]]) (.ok (.ref (lN G+1)) (G++[.lst [.int m],.lst []]))=.ok (.ref (lN G+1)) (G++[.lst [.int m],.lst []]):=Yo rfl;have E:tidy (G++[.lst [.int m],.lst []]) (.ok (.ref (lN G+2)) (G++[.lst [.int m],.lst [],.lst (lt.map (D.str∘one))]))=.ok (.ref (lN G+2)) (G++[.lst [.int m],.lst [],.lst (lt.map (D.str∘one))]):=fZ (Ek λ_ _=>rfl)
 have B:∀G,Gf [.str "abcdefghijklmnopqrstuvwxyz"] G=.ok (.ref (lN G)) (G++[.lst (lt.map (D.str∘one))]):=λG=>by
  rw[<-F]
  rfl
 have O:∀a b c d e f g h i:Option D,Bg 1 [0,2,3,4] [a,b,c,d,e,f,g,h,i]=[u8,a,c,d,e]:=λ_ _ _ _ _ _ _ _ _=>rfl
 have C:Av (gV 6) Hs (Al 0 n) [zR (lN G),zI (n:Int),zI scale,zI (1+q),zR (lN G+1),zR (lN G+2),u8,u8,u8] (G++[.lst [.int m],.lst [],.lst (lt.map (D.str∘one))])=_:=hL;have I:Bl (gV 0) Aq Nq [u8,zR (lN G),zI scale,zI (1+q),zR (lN G+1)] (Al 0 n) (G++[.lst [.int A],.lst (o.map D.str),.lst (j.map (D.str∘one))])=.ok (ps.map RP.enc) (G++ .lst [.int y]:: .lst (o.map D.str):: .lst (j.map (D.str∘one))::M):=Y
 have e:Np [.ref (lN G),.int (n:Int),.int scale] (G++[.lst [.int x]])=tidy (G++[.lst [.int x]]) (.ok (RH.enc ⟨1+q,ps⟩) (G++ .lst [.int z]:: .lst (o.map D.str)::([.lst (j.map (D.str∘one))]++N))):=by
  unfold RH.enc;generalize ps.map RP.enc=PS,o.map D.str=NS,lt.map (D.str∘one)=LT,j.map (D.str∘one)=LT' at*;unfold Np eE eC eB dz dy;rw[Aj];simp at w;simp[Ac,t1 G [],H,B,E,T,C,O,I,K];have Q:1+lN M+1+1=lN M+1+1+1:=by lia
  rw[Q]at w
  have u:∀(r:R D)(S:PB),((r.bind λx v=>(Bb S v).bind λU W=>R.ok (x::U) W).bind Df)=r.bind λd v=>Df [d] v:=λr S=>by cases r<;>rfl
  rw[u,w];simp
 rcases gY Sq with h|h
 .exact⟨_,by rw[e,h]⟩
 exact⟨_,by rw[e,h]⟩
noncomputable def tupI(l:List Int):D:=.tup (l.map D.int)
def QB(lv:List Int)(cm:List (List Int)):D:=.tup [tupI lv,.tup (cm.map tupI)]
noncomputable def KC(HA:List (List Int)):List D:=HA.map λl=>.tup (l.map D.int)
def Bd(x:Int):Prop:=0<=x/\x<=10^32
def Yg{i k s:Int}(a:0<=i)(c:i<=k)(hk:k<=50)(s0:0<=s)(s1:s<=10^30):Bd (i*s):=by refine⟨j8 a s0,?_⟩;have b:=q0 (show i<=50 by lia) s0;lia
def C9(l:1<=n)(d:n<=6){scale:Int}(b:0<=scale)(G:DH):∃h:RH,lN h.ps=n/\HG h/\Qa [.fl (sc.map D.int),.int (n:Int),.int scale] G=.ok h.enc G:=by
 have a:∀G,Ed [.fl (sc.map D.int),.int 4] G=.ok (.int (cellAt sc 4)) G:=λG=>Jj (by decide)
 by_cases f:0<=cellAt sc 4/\cellAt sc 4<10^18
 .obtain⟨h,o,m,i⟩:=CZ (sc:=sc) d b;refine⟨h,o,m,?_⟩;have r:TB (lN G) h.enc=u9:=Sq;have g:∀L:DH,tidy G (.ok h.enc (G++L))=.ok h.enc G:=λL=>Jy r
  have k:cellAt sc 4<1000000000000000000:=f.2;generalize h.ps.map RP.enc=PS,h.enc=q,cellAt sc 4=V,sc.map D.int=SC at*;unfold Qa V5;rw[Aj];simp[a,f.1,f.2,k,i G u8 u8 u8 u8 u8,g]
 obtain⟨h,o,m,L,i⟩:=RS (cellAt sc 4) b l d G;refine⟨h,o,m,?_⟩;have g:∀L:DH,tidy G (.ok h.enc (G++L))=.ok h.enc G:=λL=>Jy Sq
 have p:tidy G (.ok (.ref (lN G)) (G++[.lst [.int (cellAt sc 4)]]))=.ok (.ref (lN G)) (G++[.lst [.int (cellAt sc 4)]]):=Dt rfl;generalize h.enc=q,cellAt sc 4=V,sc.map D.int=SC at*;unfold Qa V5;rw[Aj];by_cases j:0<=V
 .have c:¬V<10^18:=λz=>f ⟨j,z⟩
  have e:¬V<1000000000000000000:=c;simp[Ac,a,j,c,e,p,i,g]
 simp[Ac,a,j,p,i,g]
def Cb(cell:Int){scale:Int}(s0:0<=scale)(s1:scale<=10^30):∃r:List Int,(lN r=5/\∀x∈r,Bd x)/\∀G,Bl (gV 0) Aq Ue [u8,zI scale,zI cell] (Al 0 5) G=.ok (r.map D.int) G:=by
 obtain⟨h,f,e,c⟩:=Oh (te:=Ue) (S:=[u8,zI scale,zI cell]) (Q:=λd=>∃i,Bd i/\d=.int i) 5 0 λk _ _=>by
  obtain⟨i,b,t⟩:=El (cell+(k:Int)) (p:=10099) (m:=4) (by decide) (by decide);have a:∀G,Bq (.int (i/2)) (.int scale) G=.ok (.int (i/2*scale)) G:=λG=>Dr (by lia) (by lia)
  refine⟨.int (i/2*scale),⟨_,Yg (k:=2) (by lia) (by lia) (by decide) s0 s1,rfl⟩,λG=>?_⟩;unfold Ue;simp[t,a]
 obtain⟨l,rfl,g⟩:=XF e;exact⟨l,⟨by simpa using f,g⟩,c⟩
theorem hI(K:HG h){scale:Int}(y:0<=scale)(H:scale<=10^30):∀(m j:Nat)(lv:List Int)(cm:List (List Int))(P O N:Option D),j+m=lN h.ps->lN lv+m<=100->lN cm+m<=100->(∀r∈cm,lN r=5/\∀x∈r,Bd x)->(∀x∈lv,Bd x)->∃(n:List Int)(l:List (List Int))(y5 y6 M:Option D),lN n=lN lv+m/\lN l=lN cm+m/\(∀r∈l,lN r=5/\∀x∈r,Bd x)/\(∀x∈n,Bd x)/\∀G:DH,
  Av (gV 5) K3 (Al (j:Int) m) [zF (sc.map D.int),u7 h.enc,zI scale,zR (lN G),zR (lN G+1),P,O,N] (G++[.lst (lv.map D.int),.lst (cm.map tupI)])=
   .nx [zF (sc.map D.int),u7 h.enc,zI scale,zR (lN G),zR (lN G+1),y5,y6,M] (G++[.lst (n.map D.int),.lst (l.map tupI)])
 |0,j,lv,cm,P,O,N,_,_,_,X,hv=>⟨lv,cm,P,O,N,rfl,rfl,X,hv,λG=>by rw[Ew,Ea]⟩
 | m + 1,j,lv,cm,P,O,N,e,h1,h2,X,hv=>by
  obtain⟨p,hp⟩:∃p,h.ps[j]?=u7 p:=⟨_,zJ (by lia)⟩;have ap:=Hj hp;have Z:∀G,Af h.enc (.int 1) G=.ok (.tup (h.ps.map RP.enc)) G:=λG=>Dq
  have s:∀G,Ed [.fl (sc.map D.int),.int (19+(j:Int))] G=.ok (.int (cellAt sc (19+(j:Int)))) G:=λG=>Jj (by lia)
  obtain⟨r,⟨r1,r0⟩,W⟩:=Cb (cellAt sc (19+(j:Int))) y H;obtain⟨i,b,t⟩:=El (cellAt sc (19+(j:Int))) (p:=10093) (m:=9) (by decide) (by decide);have m1:∀G,Bq (.int i) (.int scale) G=.ok (.int (i*scale)) G:=λG=>Dr (by lia) (by lia)
  have F:inR 5:=Ds (by decide) (by decide);have I:∀a b c d e f g h:Option D,Bg 1 [2,6] [a,b,c,d,e,f,g,h]=[u8,c,g]:=λ_ _ _ _ _ _ _ _=>rfl
  have p0:∀G,Af p.enc (.int 0) G=.ok (.str p.kd.NF) G:=λG=>OI
  have Q:∃(v:Int)(M:Option D),Bd v/\∀G:DH,K3 [zF (sc.map D.int),u7 h.enc,zI scale,zR (lN G),zR (lN G+1),zI (j:Int),O,N] (G++[.lst (lv.map D.int),.lst (cm.map tupI)])=
    .nx [zF (sc.map D.int),u7 h.enc,zI scale,zR (lN G),zR (lN G+1),zI (j:Int),zI (cellAt sc (19+(j:Int))),M] (G++[.lst ((lv++[v]).map D.int),.lst ((cm++[r]).map tupI)]):=by
   have U:tupI r=.tup (r.map D.int):=rfl;have E:lN (lv.map D.int)<1000000:=by rw[zq];lia
   have w:lN (cm.map tupI)<1000000:=by rw[zq];lia
   have u:lN (r.map D.int)<=1000000:=by rw[zq];lia
   have Y:∀(G:DH)(A B:DO),freeze (G++[A,B]) (.ok (.ref (lN G+2)) (G++[A,B,.lst (r.map D.int)]))=.ok (.fl (r.map D.int)) (G++[A,B]):=λG A B=>BB Gz
   have g0:∀(G:DH)(A B:DO),(G++[A,B])[lN G]?=u7 A:=λG A B=>by rw[Ex];rfl
   have S:∀(G:DH)(A B:DO),(G++[A,B])[lN G+1]?=u7 B:=λG A B=>by rw[Gm];rfl
   have s0:∀(G:DH)(A B C:DO),(G++[A,B]).set (lN G) C=G++[C,B]:=λG A B C=>by rw[Fl];rfl
   have s1:∀(G:DH)(A B C:DO),(G++[A,B]).set (lN G+1) C=G++[A,C]:=λG A B C=>by rw[J6];rfl
   by_cases q:p.kd.NF="basin"
   .obtain⟨z,rr,qq,J⟩:∃z rr qq,p.kd=.RA z rr qq:=by
     cases hk:p.kd with
     |RA a b c=>exact⟨a,b,c,rfl⟩
     |YC a b=>rw[hk]at q;exact absurd q (by show¬(("town":Str)="basin");decide)
     |GD a=>rw[hk]at q;exact absurd q (by show¬(("mill":Str)="basin");decide)
    have p4:∀G,Af p.enc (.int 4) G=.ok (.int z) G:=λG=>by unfold RP.enc RP.row RK.rest;rw[J];simp
    have T:0<=z:=by have:=(K.pg j p hp).kd;rw[J]at this;exact this.1
    have L:Bd (i*scale):=Yg (k:=9) (by lia) (by lia) (by decide) y H;by_cases hg:z<i*scale
    .refine⟨z,zI z,⟨T,by have:=L.2;lia⟩,λG=>?_⟩;rw[qQ,qQ,zK,zK,qV,qV,U];generalize cellAt sc (19+(j:Int))=V,h.ps.map RP.enc=PS,h.enc=he,p.enc=pe,sc.map D.int=SC,r.map D.int=RI,lv.map D.int=LV,cm.map tupI=CM at*;unfold K3;simp[Ac,s,Z,ap,p0,q,t,m1,p4,hg,g0,S,s0,s1,E,w,F,I,W,u,Y]
    refine⟨i*scale,zI (i*scale),L,λG=>?_⟩;rw[qQ,qQ,zK,zK,qV,qV,U];generalize cellAt sc (19+(j:Int))=V,h.ps.map RP.enc=PS,h.enc=he,p.enc=pe,sc.map D.int=SC,r.map D.int=RI,lv.map D.int=LV,cm.map tupI=CM at*;unfold K3;simp[Ac,s,Z,ap,p0,q,t,m1,p4,hg,g0,S,s0,s1,E,w,F,I,W,u,Y]
   refine⟨0,zI 0,⟨by decide,by decide⟩,λG=>?_⟩;rw[qQ,qQ,zK,zK,qV,qV,U];generalize cellAt sc (19+(j:Int))=V,h.ps.map RP.enc=PS,h.enc=he,p.enc=pe,sc.map D.int=SC,r.map D.int=RI,lv.map D.int=LV,cm.map tupI=CM at*;unfold K3;simp[Ac,s,Z,ap,p0,q,g0,S,s0,s1,E,w,F,I,W,u,Y]
  obtain⟨v,M,P7,q⟩:=Q;obtain⟨n,l,z5,z6,z7,c1,c2,c3,c4,hL⟩:=hI K y H m (j+1) (lv++[v]) (cm++[r]) (zI (j:Int)) (zI (cellAt sc (19+(j:Int)))) M (by lia) (by simp;lia) (by simp;lia) (λx o=>by
   rcases qz.mp o with o|o
   .exact X x o
   .have:x=r:=by simpa using o
    rw[this];exact⟨r1,r0⟩) (λx o=>by
   rcases qz.mp o with o|o
   .exact hv x o
   have:x=v:=by simpa using o
   rw[this];exact P7)
  refine⟨n,l,z5,z6,z7,by rw[c1];simp;lia,by rw[c2];simp;lia,c3,c4,λG=>?_⟩;rw[Eh,Ck];simp only[Cg,R.Cr,qF,q,Dk];have e1:((j:Int)+1)=((j+1:Nat):Int):=by lia
  rw[e1,hL]
def Cc(c:HG h)(z:lN h.ps<=100){scale:Int}(b:0<=scale)(e:scale<=10^30):∃(lv:List Int)(cm:List (List Int)),lN lv=lN h.ps/\lN cm=lN h.ps/\(∀r∈cm,lN r=5/\∀x∈r,Bd x)/\(∀x∈lv,Bd x)/\∀G,Sh [.fl (sc.map D.int),h.enc,.int scale] G=.ok (QB lv cm) G:=by
 obtain⟨lv,cm,E,F,H,q,k,y,g,t⟩:=hI c b e (lN h.ps) 0 [] [] u8 u8 u8 (by lia) (by simp;lia) (by simp;lia) (by simp) (by simp);refine⟨lv,cm,by simpa using q,by simpa using k,y,g,λG=>?_⟩;have s:∀G,Af h.enc (.int 1) G=.ok (.tup (h.ps.map RP.enc)) G:=λG=>Dq
 have a:∀G,Ar [.tup (h.ps.map RP.enc)] G=.ok (.int (lN h.ps)) G:=λG=>by simp
 have i:inR (lN h.ps:Int):=Ds (by lia) (by lia);have u:tidy G (.ok (.ref (lN G)) (G++[.lst []]))=.ok (.ref (lN G)) (G++[.lst []]):=Dt rfl;have w:tidy (G++[.lst []]) (.ok (.ref (lN G+1)) (G++[.lst [],.lst []]))=.ok (.ref (lN G+1)) (G++[.lst [],.lst []]):=Yo rfl;have d:Av (gV 5) K3 (Al 0 (lN h.ps)) [zF (sc.map D.int),u7 h.enc,zI scale,zR (lN G),zR (lN G+1),u8,u8,u8] (G++[.lst [],.lst []])=_:=t G
 have v:∀(G:DH)(A B:DO),(G++[A,B])[lN G]?=u7 A:=λG A B=>by rw[Ex];rfl
 have j:∀(G:DH)(A B:DO),(G++[A,B])[lN G+1]?=u7 B:=λG A B=>by rw[Gm];rfl
 have o:TB (lN G) (QB lv cm)=u9:=by
  have p:MA (lN G) (cm.map tupI)=u9:=Ek λr _=>by exact Gz
  have m:TB (lN G) (tupI lv)=u9:=by exact Gz
  unfold QB;simp[p,m]
 have f:∀L:DH,tidy G (.ok (QB lv cm) (G++L))=.ok (QB lv cm) G:=λL=>Jy o
 have l:QB lv cm=.tup [.tup (lv.map D.int),.tup (cm.map tupI)]:=rfl;rw[l]at f⊢;generalize h.ps.map RP.enc=PS,lN h.ps=n,h.enc=I,sc.map D.int=SC,lv.map D.int=C,cm.map tupI=J at*;unfold Sh eM;rw[Aj];simp[Ac,u,w,s,a,i,d,v,j,f]
def Cf(first w a top scale:Int)(u:0<=first)(hw:0<=w/\w<1000)(j:0<=a/\a<=100)(q:0<top/\top<=100):∃r:List Int,lN r=n/\(∀v∈r,∃i,(0<=i/\i<top)/\v=i*scale)/\∀G,Bl (gV 0) Aq Sw [u8,zF (sc.map D.int),zI first,zI a,zI top,zI scale,zI w] (Al 0 n) G=.ok (r.map D.int) G:=by
 obtain⟨x,s,o,g⟩:=Oh (te:=Sw) (S:=[u8,zF (sc.map D.int),zI first,zI a,zI top,zI scale,zI w]) (Q:=λd=>∃v,(∃i,(0<=i/\i<top)/\v=i*scale)/\d=.int v) n 0 λk _ _=>by
  have f:=j8 hw.1 j.1
  have c:∀G,Ed [.fl (sc.map D.int),.int (first+w*a+(k:Int))] G=.ok (.int (cellAt sc (first+w*a+(k:Int)))) G:=λG=>Jj (by lia)
  obtain⟨i,b,t⟩:=El (cellAt sc (first+w*a+(k:Int))) (p:=10103) (by decide) q.1
  have e:∀G,Bq (.int i) (.int scale) G=.ok (.int (i*scale)) G:=λG=>Dr (by lia) (by lia)
  have h:∀G,Bq (.int w) (.int a) G=.ok (.int (w*a)) G:=λG=>Dr (by lia) (by lia)
  refine⟨.int (i*scale),⟨_,⟨i,b,rfl⟩,rfl⟩,λG=>?_⟩
  generalize cellAt sc (first+w*a+(k:Int))=V,sc.map D.int=SC at*
  unfold Sw;simp[h,c,t,e]
 obtain⟨l,rfl,m⟩:=XF o;exact⟨l,by simpa using s,m,g⟩
theorem hJ{first top scale:Int}{turns:Nat}(p:0<=first)(B:n<=100)(q:0<top/\top<=100){s2:Option D}:∀(m w:Nat)(acc:List (List Int))(j x8:Option D),w+m<=900->lN acc+m<=1000->∃(rs:List (List Int))(K z:Option D),lN rs=m/\(∀r∈rs,lN r=n/\∀v∈r,∃i,(0<=i/\i<top)/\v=i*scale)/\∀G:DH,
  Av (gV 7) Oq (Al (w:Int) m) [zF (sc.map D.int),zI first,s2,zI (n:Int),zI top,zI scale,zR (lN G),j,x8] (G++[.lst (acc.map tupI)])=
   .nx [zF (sc.map D.int),zI first,s2,zI (n:Int),zI top,zI scale,zR (lN G),K,z] (G++[.lst ((acc++rs).map tupI)])
 |0,w,acc,j,x8,_,_=>⟨[],j,x8,rfl,by simp,λG=>by rw[Ew,Ea,qX]⟩
 | m+1,w,acc,j,x8,P,O=>by
  obtain⟨r,I,C,t⟩:=Cf first (w:Int) (n:Int) top scale p ⟨by lia,by lia⟩ ⟨by lia,by lia⟩ q
  obtain⟨rs,s,L,E,x,M⟩:=hJ (turns:=turns) p B q (s2:=s2) m (w+1) (acc++[r]) (zI (w:Int)) (zF (r.map D.int)) (by lia) (by simp;lia);refine⟨r::rs,s,L,by simp[E],jI.mpr ⟨⟨I,C⟩,x⟩,λG=>?_⟩;have u:inR (n:Int):=Ds (by lia) (by lia);have o:∀a b c d e f g h i:Option D,Bg 1 [0,1,3,4,5,7] [a,b,c,d,e,f,g,h,i]=[u8,a,b,d,e,f,h]:=λ_ _ _ _ _ _ _ _ _=>rfl
  have k:lN (r.map D.int)<=1000000:=by rw[zq];lia
  have l:lN (acc.map tupI)<1000000:=by rw[zq];lia
  have y:tupI r=.tup (r.map D.int):=rfl;have H:∀A:DO,freeze (G++[A]) (.ok (.ref (lN G+1)) (G++[A,.lst (r.map D.int)]))=.ok (.fl (r.map D.int)) (G++[A]):=λA=>fY Gz
  have F:Oq [zF (sc.map D.int),zI first,s2,zI (n:Int),zI top,zI scale,zR (lN G),zI (w:Int),x8] (G++[.lst (acc.map tupI)])=
    .nx [zF (sc.map D.int),zI first,s2,zI (n:Int),zI top,zI scale,zR (lN G),zI (w:Int),zF (r.map D.int)] (G++[.lst ((acc++[r]).map tupI)]):=by
   rw[qQ,zK,qV,y];generalize sc.map D.int=SC,r.map D.int=N,acc.map tupI=A at*;unfold Oq;simp[Ac,u,o,t,k,H,Ex,Fl,l]
  rw[Eh,Ck];simp only[Cg,R.Cr,qF,F,Dk];have J:((w:Int)+1)=((w+1:Nat):Int):=by lia
  rw[J,M,qk]
  rfl
def Fe{l:List (List Int)}:MA n (l.map tupI)=u9:=Ek λr _=>by exact Gz
def hM{first top scale:Int}{turns:Nat}(f:0<=first)(d:n<=100)(j:turns<=100)(m:0<top/\top<=100):∃rs:List (List Int),lN rs=turns/\(∀r∈rs,lN r=n/\∀v∈r,∃i,(0<=i/\i<top)/\v=i*scale)/\∀G,freeze G (Mh [.fl (sc.map D.int),.int first,.int (turns:Int),.int (n:Int),.int top,.int scale] G)=.ok (.fl (rs.map tupI)) G:=by
 obtain⟨rs,q,p,g,o,h⟩:=hJ (turns:=turns) f d m turns 0 [] u8 u8 (by lia) (by simp;lia);refine⟨rs,g,o,λG=>?_⟩;have k:inR (turns:Int):=Ds (by lia) (by lia);have b:tidy G (.ok (.ref (lN G)) (G++[.lst []]))=.ok (.ref (lN G)) (G++[.lst []]):=Dt rfl
 have a:Av (gV 7) Oq (Al 0 turns) [zF (sc.map D.int),zI first,zI (turns:Int),zI (n:Int),zI top,zI scale,zR (lN G),u8,u8] (G++[.lst []])=_:=h G
 rw[q9]at a;have l:tidy G (.ok (.ref (lN G)) (G++[.lst (rs.map tupI)]))=.ok (.ref (lN G)) (G++[.lst (rs.map tupI)]):=Dt Fe;have c:freeze G (.ok (.ref (lN G)) (G++[.lst (rs.map tupI)]))=.ok (.fl (rs.map tupI)) G:=Be Fe;generalize rs.map tupI=Z,sc.map D.int=SC at*
 have e:Mh [.fl SC,.int first,.int (turns:Int),.int (n:Int),.int top,.int scale] G=.ok (.ref (lN G)) (G++[.lst Z]):=by unfold Mh eK;rw[Aj];simp[Ac,b,k,a,l]
 rw[e,c]
noncomputable def WD:List (Int×Int):=[(3,2),(2,3),(3,3),(4,2),(5,1),(2,5),(1,7),(2,2),(3,2),(2,4),(1,4),(3,1),(5,2),(1,2),(2,7),(1,20)]
noncomputable def SI(p:Int×Int):D:=.tup [.int p.1,.int p.2]
def Ch:∀p∈WD,(1<=p.1/\p.1<=5)/\(1<=p.2/\p.2<=20)/\(7<p.2->p.1=1)/\p.1*p.2<=20:=by decide
def Cn{i:Int}(j:0<=i)(o:i<16):∃n t:Nat,(1<=n/\n<=5)/\(1<=t/\t<=20)/\(7<t->n=1)/\n*t<=20/\MC (WD.map SI) i=zT [.int (n:Int),.int (t:Int)]:=by
 have r:i<(lN (WD.map SI):Int):=by
  have:lN (WD.map SI)=16:=by rw[zq];decide
  rw[this];exact o
 have e:=T8 j r;rw[xH]at e;have m:=Ch _ (qK (n:=i.toNat) (by
  have:lN WD=16:=by decide
  lia))
 generalize WD[i.toNat]'(by
  have:lN WD=16:=by decide
  lia)=p at*
 obtain⟨a,b⟩:=p;obtain⟨h,k,g,f⟩:=m;dsimp only at h k g f;have c:((a.toNat:Nat):Int)=a:=by lia
 have d:((b.toNat:Nat):Int)=b:=by lia
 refine⟨a.toNat,b.toNat,by lia,by lia,λz=>by have:=g (by lia);lia,by
  have:((a.toNat*b.toNat:Nat):Int)<=20:=by rw[qU,c,d];exact f
  lia,?_⟩
 rw[e];unfold SI;have l:((a.toNat:Nat):Int)=a:=by lia
 have q:((b.toNat:Nat):Int)=b:=by lia
 rw[l,q]
def bd0:∀x∈[(0:Int)],Bd x:=λx a=>by
 have:x=0:=by simpa using a
 rw[this];exact⟨by decide,by decide⟩
structure GV (h:RH) (lv:List Int) (cm fl HA:List (List Int)) (left:List Int):Prop where
 n1:1<=lN h.ps
 n5:lN h.ps<=5
 t1:1<=lN fl
 WT:lN fl<=20
 nt:lN h.ps*lN fl<=20
 hg:HG h
 lv:lN lv=lN h.ps/\∀x∈lv,Bd x
 cm:lN cm=lN h.ps/\∀r∈cm,lN r=5/\∀x∈r,Bd x
 fr:∀f∈fl,lN f=lN h.ps/\∀x∈f,Bd x
 pn:lN HA=lN fl
 pr:∀l∈HA,lN l=lN h.ps/\∀x∈l,0<=x/\x<=900
 lf:lN left=lN h.ps/\∀x∈left,0<=x/\x<=600
def hU{l:List Int}{a top:Int}(hd:a=1\/a=100)(h:∀v∈l,∃i,(0<=i/\i<top)/\v=i*a):∀x∈l,0<=x/\x<=100*(top-1):=λy b=>by
 obtain⟨i,c,rfl⟩:=h y b
 rcases hd with rfl|rfl<;>lia
def Co(sc:List Int)(G:DH):∃(h:RH)(lv:List Int)(cm fl HA:List (List Int))(left:List Int),GV h lv cm fl HA left/\O4 [.fl (sc.map D.int)] G=.ok (.tup [h.enc,QB lv cm,.fl (fl.map tupI),.fl (KC HA),.tup (left.map D.int)]) G:=by
 have K:∀G,Ed [.fl (sc.map D.int),.int 0] G=.ok (.int (cellAt sc 0)) G:=λG=>Jj (by decide)
 obtain⟨i1,b1,t1⟩:=El (cellAt sc 0) (p:=10273) (m:=16) (by decide) (by decide);obtain⟨n,tr,hn,htr,h71,Z?,ap⟩:=Cn b1.1 b1.2;obtain⟨scale,hsm,hsc⟩:=Vw (l:=[1,1,1000000007,10^30]) (i:=cellAt sc 0/15%4) (xZ _ (by decide)) (jA _ (by decide));have s:0<=scale/\scale<=10^30:=by simp at hsm;lia
 obtain⟨o,hdr,O⟩:∃o:Int,(o=1\/o=100)/\∀G,Af (.fl [.int 1,.int 1,.int 100]) (.int (cellAt sc 0/60%3)) G=.ok (.int o) G:=by
  rcases(by lia:cellAt sc 0/60%3=0\/cellAt sc 0/60%3=1\/cellAt sc 0/60%3=2)with h|h|h<;>rw[h]
  .exact⟨1,.inl rfl,λG=>by simp⟩
  .exact⟨1,.inl rfl,λG=>by simp⟩
  exact⟨100,.inr rfl,λG=>by simp⟩
 obtain⟨h,C,Z,P⟩:=C9 hn.1 (by lia) s.1 G;obtain⟨lv,cm,s1,s2,s3,s5,s4⟩:=Cc Z (by lia) s.1 s.2
 obtain⟨HA,p1,p2,p3⟩:=hM (first:=39) (top:=10) (scale:=o) (n:=n) (turns:=tr) (by decide) (by lia) (by lia) (by decide)
 obtain⟨fl,f1,f2,f3⟩:=hM (first:=24) (top:=6) (scale:=scale) (n:=n) (turns:=tr) (by decide) (by lia) (by lia) (by decide)
 obtain⟨lds,l1,l2,l3⟩:=Oh (te:=Ub) (S:=[u8,zF (sc.map D.int),zI o]) (Q:=λd=>∃v,(∃i,(0<=i/\i<7)/\v=i*o)/\d=.int v) n 0 λk _ _=>by
  have hce:∀G,Ed [.fl (sc.map D.int),.int (54+(k:Int))] G=.ok (.int (cellAt sc (54+(k:Int)))) G:=λG=>Jj (by lia)
  obtain⟨i,b,t⟩:=El (cellAt sc (54+(k:Int))) (p:=10111) (m:=7) (by decide) (by decide);have m1:∀G,Bq (.int i) (.int o) G=.ok (.int (i*o)) G:=λG=>Dr (by lia) (by lia)
  refine⟨.int (i*o),⟨_,⟨i,b,rfl⟩,rfl⟩,λG=>?_⟩;generalize cellAt sc (54+(k:Int))=V,sc.map D.int=SC at*;unfold Ub;simp[hce,t,m1]
 obtain⟨left,rfl,l4⟩:=XF l2;have hln:lN left=n:=by simpa using l1
 have L:∀G,Bl (gV 0) Aq Ub [u8,zF (sc.map D.int),zI o] (Al 0 n) G=.ok (left.map D.int) G:=l3;have fb:∀f∈fl,∀x∈f,Bd x:=λf r x E=>by obtain⟨i,hi,rfl⟩:=(f2 f r).2 x E;exact Yg (k:=6) hi.1 (by lia) (by decide) s.1 s.2
 obtain⟨q,g1,g2,g3⟩:∃q:List (List Int),lN q=tr/\(∀f∈q,(7<tr->lN f=n)/\∀x∈f,Bd x)/\∀G,Bl (gV 0) Aq Od [u8,zI (cellAt sc 0),zF (fl.map tupI)] (Al 0 tr) G=.ok (q.map tupI) G:=by
  obtain⟨I,d1,d2,d3⟩:=Oh (te:=Od) (S:=[u8,zI (cellAt sc 0),zF (fl.map tupI)]) (Q:=λd=>∃f:List Int,((7<tr->lN f=n)/\∀x∈f,Bd x)/\d=tupI f) tr 0 λk _ k2=>by
   obtain⟨f,r⟩:∃f,fl[k]?=u7 f:=⟨_,zJ (by lia)⟩;have af:MC (fl.map tupI) (k:Int)=u7 (tupI f):=Ce rfl (by rw[zj,r];rfl);by_cases hk:(k:Int)%7=cellAt sc 0%7
   .refine⟨tupI f,⟨f,⟨λ_=>(f2 f (zU r)).1,fb f (zU r)⟩,rfl⟩,λG=>?_⟩;generalize cellAt sc 0=V,fl.map tupI=FL at*;unfold Od;simp[hk,af]
   refine⟨tupI [0],⟨[0],⟨λz=>by rw[h71 z];rfl,bd0⟩,rfl⟩,λG=>?_⟩;have e0:tupI [0]=.tup [.int 0]:=rfl;rw[e0];generalize cellAt sc 0=V,fl.map tupI=FL at*;unfold Od;simp[hk]
  have fo:∀{I:List D},(∀d∈I,∃f:List Int,((7<tr->lN f=n)/\∀x∈f,Bd x)/\d=tupI f)->∃l:List (List Int),I=l.map tupI/\∀f∈l,(7<tr->lN f=n)/\∀x∈f,Bd x:=by
   intro I
   induction I with
   |nil=>exact λ_=>⟨[],rfl,by simp⟩
   |cons d I ih=>
    intro hd;obtain⟨f,r,rfl⟩:=hd d (by simp);obtain⟨l,rfl,J⟩:=ih λx E=>hd x (zV _ E)
    exact⟨f::l,rfl,jI.mpr ⟨r,J⟩⟩
  obtain⟨l,rfl,J⟩:=fo d2;exact⟨l,by simpa using d1,J,d3⟩
 have w:∀G,Af (.fl [.int 1,.int 1,.int 1000000007,.int 1000000000000000000000000000000]) (.int (cellAt sc 0/15%4)) G=.ok (.int scale) G:=hsc;have W:∀G:DH,freeze G (.ok (.ref (lN G)) (G++[.lst [.int 1,.int 1,.int 1000000007,.int 1000000000000000000000000000000]]))=.ok (.fl [.int 1,.int 1,.int 1000000007,.int 1000000000000000000000000000000]) G:=λG=>Be rfl
 have N:∀G:DH,freeze G (.ok (.ref (lN G)) (G++[.lst [.int 1,.int 1,.int 100]]))=.ok (.fl [.int 1,.int 1,.int 100]) G:=λG=>Be rfl
 have u:∀G:DH,freeze G (.ok (.ref (lN G)) (G++[.lst ((WD.take 13).map SI)]))=.ok (.fl ((WD.take 13).map SI)) G:=λG=>Be rfl
 have H:∀G:DH,freeze G (.ok (.ref (lN G)) (G++[.lst ((WD.drop 13).map SI)]))=.ok (.fl ((WD.drop 13).map SI)) G:=λG=>Be rfl
 have y:∀G:DH,freeze G (.ok (.ref (lN G)) (G++[.lst (WD.map SI)]))=.ok (.fl (WD.map SI)) G:=λG=>Be rfl
 have ad:∀G,Do (.fl ((WD.take 13).map SI)) (.fl ((WD.drop 13).map SI)) G=.ok (.ref (lN G)) (G++[.lst (WD.map SI)]):=λG=>rfl
 have U:inR (n:Int):=Ds (by lia) (by lia);have hrt:inR (tr:Int):=Ds (by lia) (by lia);have M:∀G:DH,freeze G (.ok (.ref (lN G)) (G++[.lst (left.map D.int)]))=.ok (.fl (left.map D.int)) G:=λG=>Be Gz
 have fzf:∀G:DH,freeze G (.ok (.ref (lN G)) (G++[.lst (q.map tupI)]))=.ok (.fl (q.map tupI)) G:=λG=>Be Fe
 have ll:lN (left.map D.int)<=1000000:=by rw[zq];lia
 have lf2:lN (q.map tupI)<=1000000:=by rw[zq];lia
 have A:∀a b c d e f g h i j k:Option D,Bg 1 [0,7] [a,b,c,d,e,f,g,h,i,j,k]=[u8,a,h]:=λ_ _ _ _ _ _ _ _ _ _ _=>rfl
 have T:∀a b c d e f g h i j k:Option D,Bg 1 [1,10] [a,b,c,d,e,f,g,h,i,j,k]=[u8,b,k]:=λ_ _ _ _ _ _ _ _ _ _ _=>rfl
 have epy:KC HA=HA.map tupI:=rfl;have X:TB (lN G) (QB lv cm)=u9:=by
  have h2:TB (lN G) (tupI lv)=u9:=by exact Gz
  unfold QB;simp[h2,Fe]
 have Y:TB (lN G) h.enc=u9:=Sq;have bl:MA (lN G) (left.map D.int)=u9:=Gz;have bp:MA (lN G) (HA.map tupI)=u9:=Fe;have bf:MA (lN G) (fl.map tupI)=u9:=Fe;have bf2:MA (lN G) (q.map tupI)=u9:=Fe;have e13:(WD.take 13).map SI=[.tup [.int 3,.int 2],.tup [.int 2,.int 3],.tup [.int 3,.int 3],.tup [.int 4,.int 2],.tup [.int 5,.int 1],.tup [.int 2,.int 5],.tup [.int 1,.int 7],.tup [.int 2,.int 2],.tup [.int 3,.int 2],.tup [.int 2,.int 4],.tup [.int 1,.int 4],.tup [.int 3,.int 1],.tup [.int 5,.int 2]]:=rfl
 have e3:(WD.drop 13).map SI=[.tup [.int 1,.int 2],.tup [.int 2,.int 7],.tup [.int 1,.int 20]]:=rfl;rw[e13]at u ad;rw[e3]at H ad;have gv:∀F:List (List Int),lN F=tr->(∀f∈F,lN f=n/\∀x∈f,Bd x)->GV h lv cm F HA left:=λF hF hFn=>⟨by lia,by lia,by lia,by lia,by rw[C,hF];exact Z?,Z,⟨s1,s5⟩,⟨s2,s3⟩,λf r=>C▸hFn f r,by lia,λl J=>⟨by rw[C];exact(p2 l J).1,λx E=>by have:=hU hdr (p2 l J).2 x E;lia⟩,by lia,λx E=>by have:=hU hdr l4 x E;lia⟩
 by_cases h7:7<tr
 .refine⟨h,lv,cm,q,HA,left,gv q g1 λf r=>⟨(g2 f r).1 h7,(g2 f r).2⟩,?_⟩;have B:(7:Int)<(tr:Int):=by lia
  rw[epy];generalize WD.map SI=PR,q.map tupI=FL2,fl.map tupI=FL,HA.map tupI=PY,left.map D.int=LF,QB lv cm=SE,h.enc=he,cellAt sc 0=V,sc.map D.int=SC at*;unfold O4 Yn V2 Xv Us Xy Yd Xc Z6 Wu Xd Ux Wh;rw[Aj];simp[-M8,Ac,K,u,H,ad,y,t1,ap,W,w,P,N,O,p3,U,A,L,ll,M,f3,h7,B,hrt,T,g3,lf2,fzf,s4,Y,X,bf2,bp,bl,Bc]
 refine⟨h,lv,cm,fl,HA,left,gv fl f1 λf r=>⟨(f2 f r).1,fb f r⟩,?_⟩;have B:¬(7:Int)<(tr:Int):=by lia
 rw[epy];generalize WD.map SI=PR,q.map tupI=FL2,fl.map tupI=FL,HA.map tupI=PY,left.map D.int=LF,QB lv cm=SE,h.enc=he,cellAt sc 0=V,sc.map D.int=SC at*;unfold O4 Yn V2 Xv Us Xy Yd Xc Z6 Wu Xd Ux Wh;rw[Aj];simp[-M8,Ac,K,u,H,ad,y,t1,ap,W,w,P,N,O,p3,U,A,L,ll,M,f3,h7,B,s4,Y,X,bf,bp,bl,Bc]
def NC(h:RH):List Str:=h.ps.map RP.nm
def HE(h:RH)(p:RP):Option Nat:=if p.dn="sea" then u8 else u7 ((NC h).idxOf p.dn)
noncomputable def dN:Option Nat->D
 |none=>.LA
 |some d=>.int (d:Int)
theorem hV{he:D}{G:DH}:∀(ps:List RP)(k:Nat)(x:Str)(s2 s3:Option D),x∈ps.map RP.nm->Av (Bp 2 (Ak (gV 2) (Ak (gV 3) Bs))) K5 (((ps.map RP.enc).zipIdx k).map λ(x,i)=>.tup [.int (i:Int),x]) [u7 he,zS x,s2,s3] G=.rt (.int ((k+(ps.map RP.nm).idxOf x:Nat):Int)) G
 |[],_,x,_,_,h=>by simp at h
 | p::ps,k,x,s2,s3,h=>by
  rw[zK,qP,zK,Ck];by_cases e:p.nm=x
  .have a:K5 [u7 he,zS x,zI (k:Int),u7 p.enc] G=.rt (.int (k:Int)) G:=by unfold K5;simp[e]
   simp[a,e]
  have a:K5 [u7 he,zS x,zI (k:Int),u7 p.enc] G=.nx [u7 he,zS x,zI (k:Int),u7 p.enc] G:=by unfold K5;simp[e]
  have c:x∈ps.map RP.nm:=by
   rcases z0.mp h with z|z
   .exact absurd z.symm e
   exact z
  have b:k+List.idxOf x (p.nm::ps.map RP.nm)=k+1+List.idxOf x (ps.map RP.nm):=by rw[List.idxOf_cons,show(p.nm==x)=uA by simp[e]];simp;lia
  rw[zK,b];simp[a];simpa using(hV (he:=he) (G:=G) ps (k+1) x (zI (k:Int)) (u7 p.enc) c)
def hZ{x:Str}(e:x∈NC h)(G:DH):Qg [h.enc,.str x] G=.ok (.int ((NC h).idxOf x:Nat)) G:=by
 have b:=hV (he:=h.enc) (G:=G) h.ps 0 x u8 u8 e;rw[qD]at b;have a:Av (Bp 2 (Ak (gV 2) (Ak (gV 3) Bs))) K5 (Ez (h.ps.map RP.enc)) [u7 h.enc,zS x,u8,u8] G=.rt (.int ((NC h).idxOf x:Nat)) G:=b;have d:∀G,Af h.enc (.int 1) G=.ok (.tup (h.ps.map RP.enc)) G:=λG=>Dq
 generalize h.ps.map RP.enc=Y,(NC h).idxOf x=f,h.enc=c at*;unfold Qg eV;rw[Aj];simp[d,Et,Ih,lenOf,a,Bc]
def PG.mem(g:HG h)(hp:h.ps[k]?=u7 p):p.dn="sea"\/p.dn∈NC h:=by
 obtain⟨j,_,e⟩:=(g.pg k p hp).dn;rcases qz.mp (zU e)with z|z
 .exact .inr z
 exact .inl (by simpa using z)
def Cs(g:HG h)(hp:h.ps[k]?=u7 p)(G:DH):Ol [h.enc,.int (k:Int)] G=.ok (dN (HE h p)) G:=by
 have c:∀G,Af h.enc (.int 1) G=.ok (.tup (h.ps.map RP.enc)) G:=λG=>Dq
 have a:=Hj hp;have b:∀G,Af p.enc (.int 2) G=.ok (.str p.dn) G:=λG=>UQ
 unfold HE dN;by_cases hs:p.dn="sea"
 .rw[if_pos hs];rw[hs]at b;generalize h.ps.map RP.enc=Y,p.enc=f,h.enc=e at*;unfold Ol Wm;rw[Aj];simp[c,a,b,Bc]
 rw[if_neg hs];have d:=λG=>hZ ((PG.mem g hp).resolve_left hs) G
 generalize(NC h).idxOf p.dn=i,h.ps.map RP.enc=Y,p.enc=f,h.enc=e at*;unfold Ol Wm;rw[Aj];simp[c,a,b,hs,d,Bc]
def An(n T w:Nat):Option Nat->Nat
 |none=>T*n
 |some d=>if T<=w then T*n else w*n+d
noncomputable abbrev Spot:=Nat×Nat×Nat
noncomputable def Cv(s:Spot):D:=.tup [.int (s.1:Int),.int (s.2.1:Int),.int (s.2.2:Int)]
theorem Ct{s:Spot}:TB n (Cv s)=u9:=rfl
def UK(h:RH)(T g:Nat):List (Str×D):=[("house",h.enc),("turns",.int (T:Int)),("arcs",.ref (g+1)),("spots",.ref (g+2))]
def hD(G:DH)(h:RH)(T:Nat)(as:List ZA)(ss:List Spot):DH:=G++[.ins "Draft" (UK h T (lN G)),.lst (as.map KB),.lst (ss.map Cv)]
section
variable{G:DH}{h:RH}{T:Nat}{as:List ZA}{ss:List Spot}
def SS:(hD G h T as ss)[lN G]?=u7 (.ins "Draft" (UK h T (lN G))):=by unfold hD;rw[Ex];rfl
def hD1:(hD G h T as ss)[lN G+1]?=u7 (.lst (as.map KB)):=by unfold hD;rw[Gm];rfl
def hD2:(hD G h T as ss)[lN G+2]?=u7 (.lst (ss.map Cv)):=by unfold hD;rw[Gm];rfl
def Xs{bs:List ZA}:(hD G h T as ss).set (lN G+1) (.lst (bs.map KB))=hD G h T bs ss:=by unfold hD;rw[J6];rfl
def Zs{ts:List Spot}:(hD G h T as ss).set (lN G+2) (.lst (ts.map Cv))=hD G h T as ts:=by unfold hD;rw[J6];rfl
def VN:lN (hD G h T as ss)=lN G+3:=by simp[hD]
def fH:Cw "Draft" "house" (.ref (lN G)) (hD G h T as ss)=.ok h.enc (hD G h T as ss):=Dl SS rfl
def fT:Cw "Draft" "turns" (.ref (lN G)) (hD G h T as ss)=.ok (.int (T:Int)) (hD G h T as ss):=Dl SS rfl
def fA:Cw "Draft" "arcs" (.ref (lN G)) (hD G h T as ss)=.ok (.ref (lN G+1)) (hD G h T as ss):=Dl SS rfl
def fS:Cw "Draft" "spots" (.ref (lN G)) (hD G h T as ss)=.ok (.ref (lN G+2)) (hD G h T as ss):=Dl SS rfl
def mD{m:Str}{F:List D->DH->R D}{t:DA}(a:(UK h T (lN G)).lookup m=u8):Ig "Draft" m F t S (.ref (lN G)) (hD G h T as ss)=(t S (hD G h T as ss)).bind λds b=>F (.ref (lN G)::ds) b:=Tt SS a
theorem Q4(n:lN h.ps<=100)(o:T<=100)(hw:w<=1000)(d:Option Nat):Dy [.ref (lN G),.int (w:Int),dN d] (hD G h T as ss)=.ok (.int (An (lN h.ps) T w d:Nat)) (hD G h T as ss):=by
 have f:∀G,Af h.enc (.int 1) G=.ok (.tup (h.ps.map RP.enc)) G:=λG=>Dq
 have b:∀G,Ar [.tup (h.ps.map RP.enc)] G=.ok (.int (lN h.ps:Int)) G:=λG=>by simp
 have i:∀G,Bq (.int (T:Int)) (.int (lN h.ps:Int)) G=.ok (.int ((T:Int)*(lN h.ps:Int))) G:=λG=>Dr (by lia) (by lia)
 have k:∀G,Bq (.int (w:Int)) (.int (lN h.ps:Int)) G=.ok (.int ((w:Int)*(lN h.ps:Int))) G:=λG=>Dr (by lia) (by lia)
 have c:=fH (G:=G) (h:=h) (T:=T) (as:=as) (ss:=ss);have e:=fT (G:=G) (h:=h) (T:=T) (as:=as) (ss:=ss);have j:(((T*lN h.ps:Nat)):Int)=(T:Int)*(lN h.ps:Int):=qU ..;have l:∀d:Nat,(((w*lN h.ps+d:Nat)):Int)=(w:Int)*(lN h.ps:Int)+(d:Int):=λd=>by rw[jD,qU]
 generalize hD G h T as ss=H,h.ps.map RP.enc=Y,h.enc=m at*;unfold An;cases d with
 |none=>
  rw[j];unfold Dy Qd dN;rw[Aj];simp[c,e,f,b,i,Dh,Bc]
 | some d=>
  dsimp only;by_cases a:T<=w
  .have g:(T:Int)<=(w:Int):=by lia
   rw[if_pos a,j];unfold Dy Qd dN;rw[Aj];simp[c,e,f,b,i,Dh,a,g,Bc]
  rw[if_neg a,l];unfold Dy Qd dN;rw[Aj];simp[c,e,f,b,k,Dh,a,by omega,Bc]
def U5(n:lN h.ps<=100)(r:T<=100)(hw:w<T)(e:Nat)(mo:Option Int)(ga:Int)(C:lN as<1000)(hs:lN ss<1000):
  H8 [.ref (lN G),Cv (w,k,q),.int (e:Int),WA mo,.int ga] (hD G h T as ss)=.ok .LA (hD G h T (as++[⟨w*lN h.ps+k,e,mo,ga⟩]) (ss++[(w,k,q)])):=by
 have hk:=Q4 (G:=G) (as:=as) (ss:=ss) n r (w:=w) (by lia) (u7 k);have v:An (lN h.ps) T w (u7 k)=w*lN h.ps+k:=by unfold An;exact if_neg (by lia)
 rw[v]at hk;unfold dN at hk;dsimp only at hk;have s:=λt S=>mD (G:=G) (h:=h) (T:=T) (as:=as) (ss:=ss) (m:="node_at") (F:=Dy) (t:=t) (S:=S) rfl
 have u:=fA (G:=G) (h:=h) (T:=T) (as:=as) (ss:=ss);have d:lN (as.map KB)<1000000:=by rw[zq];lia
 have c:lN (ss.map Cv)<1000000:=by rw[zq];lia
 have l:=hD1 (G:=G) (h:=h) (T:=T) (as:=as) (ss:=ss);have i:(hD G h T as ss).set (lN G+1) (.lst (as.map KB++[KB ⟨w*lN h.ps+k,e,mo,ga⟩]))=hD G h T (as++[⟨w*lN h.ps+k,e,mo,ga⟩]) ss:=by have:=Xs (G:=G) (h:=h) (T:=T) (as:=as) (ss:=ss) (bs:=as++[⟨w*lN h.ps+k,e,mo,ga⟩]);rwa[qQ,zK,qV]at this
 have o:=fS (G:=G) (h:=h) (T:=T) (as:=as++[⟨w*lN h.ps+k,e,mo,ga⟩]) (ss:=ss);have p:=hD2 (G:=G) (h:=h) (T:=T) (as:=as++[⟨w*lN h.ps+k,e,mo,ga⟩]) (ss:=ss);have g:(hD G h T (as++[⟨w*lN h.ps+k,e,mo,ga⟩]) ss).set (lN G+2) (.lst (ss.map Cv++[Cv (w,k,q)]))=hD G h T (as++[⟨w*lN h.ps+k,e,mo,ga⟩]) (ss++[(w,k,q)]):=by have:=Zs (G:=G) (h:=h) (T:=T) (as:=as++[⟨w*lN h.ps+k,e,mo,ga⟩]) (ss:=ss) (ts:=ss++[(w,k,q)]);rwa[qQ,zK,qV]at this
 have j:tidy (hD G h T as ss) (.ok .LA (hD G h T (as++[⟨w*lN h.ps+k,e,mo,ga⟩]) (ss++[(w,k,q)])))=.ok .LA (hD G h T (as++[⟨w*lN h.ps+k,e,mo,ga⟩]) (ss++[(w,k,q)])):=Hv (by rw[VN,VN]) rfl;have x:∀(A:ZA)(H:DH),tidy H (.ok (KB A) H)=.ok (KB A) H:=λA H=>Bc BF
 have y:∀(A:Spot)(H:DH),tidy H (.ok (Cv A) H)=.ok (Cv A) H:=λA H=>Bc Ct
 have z:KB ⟨w*lN h.ps+k,e,mo,ga⟩=.tup [.int ((w*lN h.ps+k:Nat):Int),.int (e:Int),WA mo,.int ga]:=rfl;have f:Cv (w,k,q)=.tup [.int (w:Int),.int (k:Int),.int (q:Int)]:=rfl;have b:=x ⟨w*lN h.ps+k,e,mo,ga⟩;have a:=y (w,k,q);rw[z]at i b;rw[f]at g a;rw[f];generalize hD G h T (as++[⟨w*lN h.ps+k,e,mo,ga⟩]) (ss++[(w,k,q)])=B,hD G h T (as++[⟨w*lN h.ps+k,e,mo,ga⟩]) ss=E,hD G h T as ss=K,as.map KB=J,ss.map Cv=I,((w*lN h.ps+k:Nat):Int)=L,WA mo=M at*
 unfold H8 eU;rw[Aj];simp[s,hk,u,l,i,d,b,o,p,g,c,a,j]
end
def PC(h:RH)(T w k:Nat)(p:RP)(mo:Option Int)(ga:Int):ZA:=⟨w*lN h.ps+k,An (lN h.ps) T (w+p.dl.toNat) (HE h p),mo,ga⟩
def YJ(h:RH)(T w k:Nat)(pay:Int):Option (Str×Int×Int)->List ZA
 |none=>[]
 |some (t,d,m)=>[⟨w*lN h.ps+k,An (lN h.ps) T (w+d.toNat) (u7 ((NC h).idxOf t)),u7 m,-pay⟩]
def TC(h:RH)(T w k:Nat)(pay left:Int)(p:RP):List ZA:=match p.kd with
 |.YC a _=>[⟨w*lN h.ps+k,An (lN h.ps) T w u8,u7 a,pay⟩,PC h T w k p u8 0]
 |.GD a=>[PC h T w k p (u7 a) pay,PC h T w k p u8 0]
 |.RA b _ q=>PC h T w k p u8 0::YJ h T w k pay q++[⟨w*lN h.ps+k,An (lN h.ps) T (w+1) (u7 k),u7 b,if w+1=T then left else 0⟩]
def XT(w k:Nat):Option (Str×Int×Int)->List Spot
 |none=>[]
 |some _=>[(w,k,4)]
def YF(w k:Nat)(p:RP):List Spot:=match p.kd with
 |.YC _ _=>[(w,k,1),(w,k,3)]
 |.GD _=>[(w,k,3),(w,k,3)]
 |.RA _ _ q=>(w,k,3)::XT w k q++[(w,k,5)]
section
variable{G:DH}{h:RH}{T:Nat}{as:List ZA}{ss:List Spot}{w k:Nat}{p:RP}
def Rb(g:HG h)(l:lN h.ps<=100)(n:T<=100)(hw:w<T)(hp:h.ps[k]?=u7 p)(mo:Option Int)(ga:Int)(x:lN as<1000)(hs:lN ss<1000):
  Ha [.ref (lN G),.int (w:Int),.int (k:Int),WA mo,.int ga] (hD G h T as ss)=.ok .LA (hD G h T (as++[PC h T w k p mo ga]) (ss++[(w,k,3)])):=by
 have M:=(g.pg k p hp).dl;obtain⟨b,j⟩:∃b:Nat,p.dl=b:=⟨p.dl.toNat,by lia⟩;have f:p.dl.toNat=b:=by lia
 have z:∀G,Af h.enc (.int 1) G=.ok (.tup (h.ps.map RP.enc)) G:=λG=>Dq
 have a:=Hj hp;have v:∀G,Af p.enc (.int 3) G=.ok (.int (b:Int)) G:=λG=>by rw[VQ,j]
 have i:=Cs g hp (hD G h T as ss);have c:Dy [.ref (lN G),.int ((w:Int)+(b:Int)),dN (HE h p)] (hD G h T as ss)=.ok (.int (An (lN h.ps) T (w+b) (HE h p):Nat)) (hD G h T as ss):=by rw[<-jD];exact Q4 (G:=G) (as:=as) (ss:=ss) l n (w:=w+b) (by lia) (HE h p)
 have d:=U5 (G:=G) l n (k:=k) (q:=3) hw (An (lN h.ps) T (w+b) (HE h p)) mo ga x hs;have o:=λ(m:Str)(y:(UK h T (lN G)).lookup m=u8)F t S=>mD (as:=as) (ss:=ss) (F:=F) (t:=t) (S:=S) y
 have r:=o "node_at" rfl Dy;have C:=o "draw" rfl H8;have B:=fH (G:=G) (h:=h) (T:=T) (as:=as) (ss:=ss);have A:(⟨w*lN h.ps+k,An (lN h.ps) T (w+b) (HE h p),mo,ga⟩:ZA)=PC h T w k p mo ga:=by unfold PC;rw[f]
 rw[A]at d;have u:tidy (hD G h T as ss) (.ok .LA (hD G h T (as++[PC h T w k p mo ga]) (ss++[(w,k,3)])))=.ok .LA (hD G h T (as++[PC h T w k p mo ga]) (ss++[(w,k,3)])):=Hv (by rw[VN,VN]) rfl;have s:Cv (w,k,3)=.tup [.int (w:Int),.int (k:Int),.int 3]:=rfl;rw[s]at d;generalize hD G h T (as++[PC h T w k p mo ga]) (ss++[(w,k,3)])=H,hD G h T as ss=I,An (lN h.ps) T (w+b) (HE h p)=e,dN (HE h p)=E,WA mo=L,p.enc=J,h.ps.map RP.enc=Y,h.enc=K at*
 unfold Ha eW;rw[Aj];simp[B,z,a,v,i,r,c,C,d,u]
def DC(g:HG h)(d:lN h.ps<=100)(f:T<=100)(hw:w<T)(hp:h.ps[k]?=u7 p){b:Int}(c:p.kd=.YC b x)(pay:Int)(H:lN as<900)(hs:lN ss<900):
  Ou [.ref (lN G),.int (w:Int),.int (k:Int),.int pay] (hD G h T as ss)=.ok .LA (hD G h T (as++TC h T w k pay 0 p) (ss++YF w k p)):=by
 have v:∀G,Af h.enc (.int 1) G=.ok (.tup (h.ps.map RP.enc)) G:=λG=>Dq
 have a:=Hj hp;have s:∀G,Af p.enc (.int 4) G=.ok (.int b) G:=λG=>by unfold RP.enc RP.row RK.rest;rw[c];simp
 have hk:=Q4 (G:=G) (as:=as) (ss:=ss) d f (w:=w) (by lia) u8;have j:=U5 (G:=G) (as:=as) (ss:=ss) d f (k:=k) (q:=1) hw (An (lN h.ps) T w u8) (u7 b) pay (by lia) (by lia);have l:=Rb (G:=G) (as:=as++[⟨w*lN h.ps+k,An (lN h.ps) T w u8,u7 b,pay⟩]) (ss:=ss++[(w,k,1)]) g d f hw hp u8 0 (by simp;lia) (by simp;lia);have n:=λt S=>mD (G:=G) (h:=h) (T:=T) (as:=as) (ss:=ss) (m:="node_at") (F:=Dy) (t:=t) (S:=S) rfl
 have A:=λt S=>mD (G:=G) (h:=h) (T:=T) (as:=as) (ss:=ss) (m:="draw") (F:=H8) (t:=t) (S:=S) rfl
 have u:=λt S=>mD (G:=G) (h:=h) (T:=T) (as:=as++[⟨w*lN h.ps+k,An (lN h.ps) T w u8,u7 b,pay⟩]) (ss:=ss++[(w,k,1)]) (m:="draw_river") (F:=Ha) (t:=t) (S:=S) rfl
 have z:=fH (G:=G) (h:=h) (T:=T) (as:=as) (ss:=ss);have C:as++TC h T w k pay 0 p=as++[⟨w*lN h.ps+k,An (lN h.ps) T w u8,u7 b,pay⟩]++[PC h T w k p u8 0]:=by unfold TC;rw[c];simp
 have i:ss++YF w k p=ss++[(w,k,1)]++[(w,k,3)]:=by unfold YF;rw[c];simp
 rw[C,i];have r:tidy (hD G h T as ss) (.ok .LA (hD G h T (as++[⟨w*lN h.ps+k,An (lN h.ps) T w u8,u7 b,pay⟩]++[PC h T w k p u8 0]) (ss++[(w,k,1)]++[(w,k,3)])))=.ok .LA (hD G h T (as++[⟨w*lN h.ps+k,An (lN h.ps) T w u8,u7 b,pay⟩]++[PC h T w k p u8 0]) (ss++[(w,k,1)]++[(w,k,3)])):=Hv (by rw[VN,VN]) rfl;have o:Cv (w,k,1)=.tup [.int (w:Int),.int (k:Int),.int 1]:=rfl;rw[o]at j
 unfold dN at hk;dsimp only at hk;have y:WA (u7 b)=.int b:=rfl;have B:WA u8=.LA:=rfl;rw[y]at j;rw[B]at l;generalize hD G h T (as++[⟨w*lN h.ps+k,An (lN h.ps) T w u8,u7 b,pay⟩]++[PC h T w k p u8 0]) (ss++[(w,k,1)]++[(w,k,3)])=E,hD G h T (as++[⟨w*lN h.ps+k,An (lN h.ps) T w u8,u7 b,pay⟩]) (ss++[(w,k,1)])=I,hD G h T as ss=J at*;generalize An (lN h.ps) T w u8=e,p.enc=K,h.ps.map RP.enc=Y,h.enc=L at*
 unfold Ou eY;rw[Aj];simp[z,v,a,s,n,hk,A,j,u,l,r]
def DD(g:HG h)(e:lN h.ps<=100)(f:T<=100)(hw:w<T)(hp:h.ps[k]?=u7 p){mo:Int}(b:p.kd=.GD mo)(pay:Int)(y:lN as<900)(hs:lN ss<900):
  Om [.ref (lN G),.int (w:Int),.int (k:Int),.int pay] (hD G h T as ss)=.ok .LA (hD G h T (as++TC h T w k pay 0 p) (ss++YF w k p)):=by
 have o:∀G,Af h.enc (.int 1) G=.ok (.tup (h.ps.map RP.enc)) G:=λG=>Dq
 have a:=Hj hp;have l:∀G,Af p.enc (.int 4) G=.ok (.int mo) G:=λG=>by unfold RP.enc RP.row RK.rest;rw[b];simp
 have i:=Rb (G:=G) (as:=as) (ss:=ss) g e f hw hp (u7 mo) pay (by lia) (by lia);have d:=Rb (G:=G) (as:=as++[PC h T w k p (u7 mo) pay]) (ss:=ss++[(w,k,3)]) g e f hw hp u8 0 (by simp;lia) (by simp;lia);have s:=λt S=>mD (G:=G) (h:=h) (T:=T) (as:=as) (ss:=ss) (m:="draw_river") (F:=Ha) (t:=t) (S:=S) rfl
 have n:=λt S=>mD (G:=G) (h:=h) (T:=T) (as:=as++[PC h T w k p (u7 mo) pay]) (ss:=ss++[(w,k,3)]) (m:="draw_river") (F:=Ha) (t:=t) (S:=S) rfl
 have r:=fH (G:=G) (h:=h) (T:=T) (as:=as) (ss:=ss);have v:as++TC h T w k pay 0 p=as++[PC h T w k p (u7 mo) pay]++[PC h T w k p u8 0]:=by unfold TC;rw[b];simp
 have c:ss++YF w k p=ss++[(w,k,3)]++[(w,k,3)]:=by unfold YF;rw[b];simp
 rw[v,c];have j:tidy (hD G h T as ss) (.ok .LA (hD G h T (as++[PC h T w k p (u7 mo) pay]++[PC h T w k p u8 0]) (ss++[(w,k,3)]++[(w,k,3)])))=.ok .LA (hD G h T (as++[PC h T w k p (u7 mo) pay]++[PC h T w k p u8 0]) (ss++[(w,k,3)]++[(w,k,3)])):=Hv (by rw[VN,VN]) rfl;have q:WA (u7 mo)=.int mo:=rfl;have u:WA u8=.LA:=rfl;rw[q]at i;rw[u]at d;generalize hD G h T (as++[PC h T w k p (u7 mo) pay]++[PC h T w k p u8 0]) (ss++[(w,k,3)]++[(w,k,3)])=x,hD G h T (as++[PC h T w k p (u7 mo) pay]) (ss++[(w,k,3)])=z,hD G h T as ss=A,p.enc=B,h.ps.map RP.enc=Y,h.enc=C at*
 unfold Om eX;rw[Aj];simp[r,o,a,l,s,i,n,d,j]
end
section
variable{G:DH}{h:RH}{T:Nat}{as:List ZA}{ss:List Spot}{w k:Nat}{p:RP}
def MP(h:RH)(T w k:Nat)(b left:Int):ZA:=⟨w*lN h.ps+k,An (lN h.ps) T (w+1) (u7 k),u7 b,if w+1=T then left else 0⟩
theorem DF(g:HG h)(B:lN h.ps<=100)(I:T<=100)(hw:w<T)(hp:h.ps[k]?=u7 p){b:Int}{r:List MS}{q:Option (Str×Int×Int)}(c:p.kd=.RA b r q)(pay left:Int)(ha:lN as<900)(hs:lN ss<900):
  Lq [.ref (lN G),.int (w:Int),.int (k:Int),.int pay,.int left] (hD G h T as ss)=.ok .LA (hD G h T (as++TC h T w k pay left p) (ss++YF w k p)):=by
 have N:∀G,Af h.enc (.int 1) G=.ok (.tup (h.ps.map RP.enc)) G:=λG=>Dq
 have a:=Hj hp;have M:∀G,Af p.enc (.int 4) G=.ok (.int b) G:=λG=>by unfold RP.enc RP.row RK.rest;rw[c];simp
 have v:∀G,Af p.enc (.int 6) G=.ok (KJ q) G:=λG=>by unfold RP.enc RP.row RK.rest;rw[c];simp
 have en:WA u8=.LA:=rfl;have em:∀m:Int,WA (u7 m)=.int m:=λ_=>rfl
 have J:=Rb (G:=G) (as:=as) (ss:=ss) g B I hw hp u8 0 (by lia) (by lia);rw[en]at J;have O:=λas ss=>fH (G:=G) (h:=h) (T:=T) (as:=as) (ss:=ss)
 have eT:=λas ss=>fT (G:=G) (h:=h) (T:=T) (as:=as) (ss:=ss)
 have mr:=λas ss t S=>mD (G:=G) (h:=h) (T:=T) (as:=as) (ss:=ss) (m:="draw_river") (F:=Ha) (t:=t) (S:=S) rfl
 have W:=λas ss t S=>mD (G:=G) (h:=h) (T:=T) (as:=as) (ss:=ss) (m:="node_at") (F:=Dy) (t:=t) (S:=S) rfl
 have Z:=λas ss t S=>mD (G:=G) (h:=h) (T:=T) (as:=as) (ss:=ss) (m:="draw") (F:=H8) (t:=t) (S:=S) rfl
 have s:((w:Int)=(T:Int)-1)=(w+1=T):=by simp;lia
 have o:∀(bs:List ZA)(f:List Spot),lN bs<1000->lN f<1000->Dy [.ref (lN G),.int ((w:Int)+1),.int (k:Int)] (hD G h T bs f)=.ok (.int (An (lN h.ps) T (w+1) (u7 k):Nat)) (hD G h T bs f)/\
   H8 [.ref (lN G),.tup [.int (w:Int),.int (k:Int),.int 5],.int (An (lN h.ps) T (w+1) (u7 k):Nat),.int b,.int (if w+1=T then left else 0)] (hD G h T bs f)=.ok .LA (hD G h T (bs++[MP h T w k b left]) (f++[(w,k,5)])):=λbs f hb ht=>by
  exact⟨by rw[<-show((w+1:Nat):Int)=(w:Int)+1 by lia];exact(Q4 (G:=G) (as:=bs) (ss:=f) B I (w:=w+1) (by lia) (u7 k)),U5 (G:=G) (as:=bs) (ss:=f) B I (w:=w) (k:=k) (q:=5) hw (An (lN h.ps) T (w+1) (u7 k)) (u7 b) (if w+1=T then left else 0) hb ht⟩
 have C:∀(bs:List ZA)(f:List Spot),tidy (hD G h T as ss) (.ok .LA (hD G h T bs f))=.ok .LA (hD G h T bs f):=λbs f=>Hv (by rw[VN,VN]) rfl
 cases q with
 |none=>
  have j:=o (as++[PC h T w k p u8 0]) (ss++[(w,k,3)]) (by simp;lia) (by simp;lia);have eA:as++TC h T w k pay left p=as++[PC h T w k p u8 0]++[MP h T w k b left]:=by unfold TC MP;rw[c];simp[YJ]
  have u:ss++YF w k p=ss++[(w,k,3)]++[(w,k,5)]:=by unfold YF;rw[c];simp[XT]
  rw[eA,u];have U:KJ u8=.LA:=rfl;rw[U]at v;have K:=O as ss;have P:=O (as++[PC h T w k p u8 0]) (ss++[(w,k,3)]);have L:=eT (as++[PC h T w k p u8 0]) (ss++[(w,k,3)]);have E:=mr as ss;have H:=W (as++[PC h T w k p u8 0]) (ss++[(w,k,3)]);have z:=Z (as++[PC h T w k p u8 0]) (ss++[(w,k,3)]);have y:=C (as++[PC h T w k p u8 0]++[MP h T w k b left]) (ss++[(w,k,3)]++[(w,k,5)])
  obtain⟨j,l⟩:=j;generalize hD G h T (as++[PC h T w k p u8 0]++[MP h T w k b left]) (ss++[(w,k,3)]++[(w,k,5)])=H3,hD G h T (as++[PC h T w k p u8 0]) (ss++[(w,k,3)])=H2,hD G h T as ss=H1,An (lN h.ps) T (w+1) (u7 k)=e,p.enc=pe,h.ps.map RP.enc=Y,h.enc=he at*;unfold Lq Vz;rw[Aj];by_cases i:w+1=T
  .simp only[i,if_true]at l s;simp[K,N,a,E,J,v,Dh,L,H,j,M,z,l,y,s,i]
  simp[i,if_false]at l s;simp[K,N,a,E,J,v,Dh,L,H,j,M,z,l,y,s,i]
 |some X=>
  obtain⟨t,d,m⟩:=X;have kg:=(g.pg k p hp).kd;rw[c]at kg;obtain⟨X,tb,tp⟩:=kg.2 t d m rfl;obtain⟨dn,edn⟩:∃dn:Nat,d=dn:=⟨d.toNat,by lia⟩;have Q:d.toNat=dn:=by lia
  have n:=λG=>hZ X G
  have hk:=Q4 (G:=G) (as:=as++[PC h T w k p u8 0]) (ss:=ss++[(w,k,3)]) B I (w:=w+dn) (by lia) (u7 ((NC h).idxOf t));have x:Dy [.ref (lN G),.int ((w:Int)+(dn:Int)),.int ((NC h).idxOf t:Nat)] (hD G h T (as++[PC h T w k p u8 0]) (ss++[(w,k,3)]))=.ok (.int (An (lN h.ps) T (w+dn) (u7 ((NC h).idxOf t)):Nat)) (hD G h T (as++[PC h T w k p u8 0]) (ss++[(w,k,3)])):=by rw[<-jD];exact hk
  have A:=U5 (G:=G) (as:=as++[PC h T w k p u8 0]) (ss:=ss++[(w,k,3)]) B I (k:=k) (q:=4) hw (An (lN h.ps) T (w+dn) (u7 ((NC h).idxOf t))) (u7 m) (-pay) (by simp;lia) (by simp;lia);rw[em]at A;have eS:Cv (w,k,4)=.tup [.int (w:Int),.int (k:Int),.int 4]:=rfl;rw[eS]at A;have eP:YJ h T w k pay (u7 (t,d,m))=[⟨w*lN h.ps+k,An (lN h.ps) T (w+dn) (u7 ((NC h).idxOf t)),u7 m,-pay⟩]:=by unfold YJ;dsimp only;rw[Q]
  have j:=o (as++[PC h T w k p u8 0]++YJ h T w k pay (u7 (t,d,m))) (ss++[(w,k,3)]++[(w,k,4)]) (by simp[eP];lia) (by simp;lia);rw[<-eP]at A;have eA:as++TC h T w k pay left p=as++[PC h T w k p u8 0]++YJ h T w k pay (u7 (t,d,m))++[MP h T w k b left]:=by unfold TC MP;rw[c];simp
  have u:ss++YF w k p=ss++[(w,k,3)]++[(w,k,4)]++[(w,k,5)]:=by unfold YF;rw[c];simp[XT]
  rw[eA,u];have U:KJ (u7 (t,d,m))=.tup [.str t,.int (dn:Int),.int m]:=by rw[edn];rfl
  rw[U]at v;have K:=O as ss;have P:=O (as++[PC h T w k p u8 0]) (ss++[(w,k,3)]);have L:=eT (as++[PC h T w k p u8 0]++YJ h T w k pay (u7 (t,d,m))) (ss++[(w,k,3)]++[(w,k,4)]);have E:=mr as ss;have H:=W (as++[PC h T w k p u8 0]) (ss++[(w,k,3)]);have z:=Z (as++[PC h T w k p u8 0]) (ss++[(w,k,3)]);have y2:=W (as++[PC h T w k p u8 0]++YJ h T w k pay (u7 (t,d,m))) (ss++[(w,k,3)]++[(w,k,4)])
  have y3:=Z (as++[PC h T w k p u8 0]++YJ h T w k pay (u7 (t,d,m))) (ss++[(w,k,3)]++[(w,k,4)]);have y:=C (as++[PC h T w k p u8 0]++YJ h T w k pay (u7 (t,d,m))++[MP h T w k b left]) (ss++[(w,k,3)]++[(w,k,4)]++[(w,k,5)]);obtain⟨j,l⟩:=j;generalize hD G h T (as++[PC h T w k p u8 0]++YJ h T w k pay (u7 (t,d,m))++[MP h T w k b left]) (ss++[(w,k,3)]++[(w,k,4)]++[(w,k,5)])=H4,hD G h T (as++[PC h T w k p u8 0]++YJ h T w k pay (u7 (t,d,m))) (ss++[(w,k,3)]++[(w,k,4)])=H3,hD G h T (as++[PC h T w k p u8 0]) (ss++[(w,k,3)])=H2,hD G h T as ss=H1,An (lN h.ps) T (w+1) (u7 k)=e,An (lN h.ps) T (w+dn) (u7 ((NC h).idxOf t))=e',(NC h).idxOf t=ix,p.enc=pe,h.ps.map RP.enc=Y,h.enc=he at*
  unfold Lq Vz;rw[Aj];by_cases i:w+1=T
  .simp only[i,if_true]at l s;simp[K,N,a,E,J,v,Dh,P,n,H,x,z,A,L,y2,j,M,y3,l,y,s,i]
  simp[i,if_false]at l s;simp[K,N,a,E,J,v,Dh,P,n,H,x,z,A,L,y2,j,M,y3,l,y,s,i]
end
def ND(h:RH)(T w:Nat)(pay left:List Int):Nat->List RP->List ZA
 |_,[]=>[]
 |k,p::ps=>TC h T w k (Aa pay k) (Aa left k) p++ND h T w pay left (k+1) ps
def KH(w:Nat):Nat->List RP->List Spot
 |_,[]=>[]
 |k,p::ps=>YF w k p++KH w (k+1) ps
def ZC(h:RH)(T:Nat)(left:List Int):Nat->List (List Int)->List ZA
 |_,[]=>[]
 |w,y::ys=>ND h T w y left 0 h.ps++ZC h T left (w+1) ys
def MF(h:RH):Nat->Nat->List Spot
 |_,0=>[]
 |w,m+1=>KH w 0 h.ps++MF h (w+1) m
theorem W9{left:Int}:lN (TC h T w k pay left p)<=3/\lN (TC h T w k pay left p)=lN (YF w k p):=by
 unfold TC YF;cases p.kd with
 |RA b r q=>cases q<;>simp[YJ,XT]
 |_=>simp
theorem Rg{h:RH}{T w:Nat}{pay left:List Int}:∀(ps:List RP)(k:Nat),lN (ND h T w pay left k ps)<=3*lN ps/\lN (ND h T w pay left k ps)=lN (KH w k ps)
 |[],_=>by simp[ND,KH]
 |p::ps,k=>by have b:=W9 (h:=h) (T:=T) (w:=w) (k:=k) (pay:=Aa pay k) (left:=Aa left k) (p:=p);have a:=Rg (h:=h) (T:=T) (w:=w) (pay:=pay) (left:=left) ps (k+1);simp[ND,KH,zL,zD];lia
theorem V8{h:RH}{T:Nat}{left:List Int}:∀(ys:List (List Int))(w:Nat),lN (ZC h T left w ys)<=3*lN h.ps*lN ys/\lN (ZC h T left w ys)=lN (MF h w (lN ys))
 |[],_=>by simp[ZC,MF]
 |y::ys,w=>by have b:=Rg (h:=h) (T:=T) (w:=w) (pay:=y) (left:=left) h.ps 0;have a:=V8 (h:=h) (T:=T) (left:=left) ys (w+1);simp[ZC,MF,zL,zD];rw[Nat.mul_add];lia
def Jg(h:k<lN xs):Af (.tup (xs.map D.int)) (.int (k:Int)) G=.ok (.int (Aa xs k)) G:=by simp[H9 h]
section
variable{G:DH}{h:RH}{T:Nat}
theorem h8(g:HG h)(f:lN h.ps<=100)(j:T<=100){w:Nat}(hw:w<T){pay left:List Int}(hp:lN pay=lN h.ps)(M:lN left=lN h.ps):∀(ps:List RP)(k:Nat)(as:List ZA)(ss:List Spot)(s6 s7:Option D),h.ps.drop k=ps->lN as+3*lN ps<900->lN ss+3*lN ps<900->∃o u,
  Av (Bp 2 (Ak (gV 6) (Ak (gV 7) Bs))) Kf (((ps.map RP.enc).zipIdx k).map λ(x,i)=>.tup [.int (i:Int),x]) [zR (lN G),u7 h.enc,s2,zT (left.map D.int),zI (w:Int),zT (pay.map D.int),s6,s7] (hD G h T as ss)=
   .nx [zR (lN G),u7 h.enc,s2,zT (left.map D.int),zI (w:Int),zT (pay.map D.int),o,u] (hD G h T (as++ND h T w pay left k ps) (ss++KH w k ps))
 |[],k,as,ss,s6,s7,_,_,_=>⟨s6,s7,by simp[ND,KH,Ea]⟩
 | p::ps,k,as,ss,s6,s7,H,L,K=>by
  have hk:h.ps[k]?=u7 p:=by have:=congrArg (λl=>l[0]?) H;simpa using this
  have I:=(zZ.mp hk).1;have n:h.ps.drop (k+1)=ps:=by have:=congrArg (List.drop 1) H;simpa[List.drop_drop,xP]using this
  have W:=W9 (h:=h) (T:=T) (w:=w) (k:=k) (pay:=Aa pay k) (left:=Aa left k) (p:=p);simp[zD]at L K;obtain⟨o,u,O⟩:=h8 g f j hw hp M ps (k+1) (as++TC h T w k (Aa pay k) (Aa left k) p) (ss++YF w k p) (zI (k:Int)) (u7 p.enc) n (by rw[zL];lia) (by rw[zL];lia);refine⟨o,u,?_⟩;have s:=λG=>Jg (G:=G) (xs:=pay) (k:=k) (by lia)
  have U:=λG=>Jg (G:=G) (xs:=left) (k:=k) (by lia)
  have e:∀G,Af p.enc (.int 0) G=.ok (.str p.kd.NF) G:=λG=>OI
  have Q:¬(("mill":Str)="town"):=by decide
  have J:¬(("basin":Str)="town"):=by decide
  have P:¬(("basin":Str)="mill"):=by decide
  have N:Kf [zR (lN G),u7 h.enc,s2,zT (left.map D.int),zI (w:Int),zT (pay.map D.int),zI (k:Int),u7 p.enc] (hD G h T as ss)=
    .nx [zR (lN G),u7 h.enc,s2,zT (left.map D.int),zI (w:Int),zT (pay.map D.int),zI (k:Int),u7 p.enc] (hD G h T (as++TC h T w k (Aa pay k) (Aa left k) p) (ss++YF w k p)):=by
   cases d:p.kd with
   |YC a b=>
    have c:=DC (G:=G) (as:=as) (ss:=ss) g f j hw hk d (Aa pay k) (by lia) (by lia);have v:TC h T w k (Aa pay k) 0 p=TC h T w k (Aa pay k) (Aa left k) p:=by unfold TC;rw[d]
    rw[v]at c;have m:=λt S=>mD (G:=G) (h:=h) (T:=T) (as:=as) (ss:=ss) (m:="draw_town") (F:=Ou) (t:=t) (S:=S) rfl
    rw[d]at e;unfold RK.NF at e;dsimp only at e;generalize hD G h T (as++TC h T w k (Aa pay k) (Aa left k) p) (ss++YF w k p)=y,hD G h T as ss=A,pay.map D.int=z,left.map D.int=E,p.enc=B,h.enc=C at*;unfold Kf;simp[e,s,m,c]
   |GD a=>
    have c:=DD (G:=G) (as:=as) (ss:=ss) g f j hw hk d (Aa pay k) (by lia) (by lia);have v:TC h T w k (Aa pay k) 0 p=TC h T w k (Aa pay k) (Aa left k) p:=by unfold TC;rw[d]
    rw[v]at c;have m:=λt S=>mD (G:=G) (h:=h) (T:=T) (as:=as) (ss:=ss) (m:="draw_mill") (F:=Om) (t:=t) (S:=S) rfl
    rw[d]at e;unfold RK.NF at e;dsimp only at e;generalize hD G h T (as++TC h T w k (Aa pay k) (Aa left k) p) (ss++YF w k p)=y,hD G h T as ss=A,pay.map D.int=z,left.map D.int=E,p.enc=B,h.enc=C at*;unfold Kf;simp[e,Q,s,m,c]
   |RA b r q=>
    have c:=DF (G:=G) (as:=as) (ss:=ss) g f j hw hk d (Aa pay k) (Aa left k) (by lia) (by lia);have m:=λt S=>mD (G:=G) (h:=h) (T:=T) (as:=as) (ss:=ss) (m:="draw_basin") (F:=Lq) (t:=t) (S:=S) rfl
    rw[d]at e;unfold RK.NF at e;dsimp only at e;generalize hD G h T (as++TC h T w k (Aa pay k) (Aa left k) p) (ss++YF w k p)=y,hD G h T as ss=A,pay.map D.int=z,left.map D.int=E,p.enc=B,h.enc=C at*;unfold Kf;simp[e,J,P,s,U,m,c]
  rw[zK,qP,zK,Ck];simp[ND,KH];rw[<-qk,<-qk,<-O];simp[N]
theorem h9(g:HG h)(l:lN h.ps<=100)(n:T<=100){left:List Int}(m:lN left=lN h.ps){s2:Option D}:∀(ys:List (List Int))(w:Nat)(as:List ZA)(ss:List Spot)(s4 s5 s6 s7:Option D),w+lN ys=T->(∀y∈ys,lN y=lN h.ps)->lN as+3*lN h.ps*lN ys<900->lN ss+3*lN h.ps*lN ys<900->∃d b e f,
  Av (Bp 2 (Ak (gV 4) (Ak (gV 5) Bs))) M3 (((KC ys).zipIdx w).map λ(x,i)=>.tup [.int (i:Int),x]) [zR (lN G),u7 h.enc,s2,zT (left.map D.int),s4,s5,s6,s7] (hD G h T as ss)=
   .nx [zR (lN G),u7 h.enc,s2,zT (left.map D.int),d,b,e,f] (hD G h T (as++ZC h T left w ys) (ss++MF h w (lN ys)))
 |[],w,as,ss,s4,s5,s6,s7,_,_,_,_=>⟨s4,s5,s6,s7,by simp[ZC,MF,KC,Ea]⟩
 | y::ys,w,as,ss,s4,s5,s6,s7,hw,o,q,p=>by
  simp[zD,Nat.mul_add]at hw q p;have E:=Rg (h:=h) (T:=T) (w:=w) (pay:=y) (left:=left) h.ps 0;obtain⟨k,j,r⟩:=h8 g l n (w:=w) (by lia) (o y (by simp)) m h.ps 0 as ss s6 s7 rfl (by lia) (by lia);obtain⟨d,b,e,f,u⟩:=h9 g l n m (s2:=s2) ys (w+1) (as++ND h T w y left 0 h.ps) (ss++KH w 0 h.ps) (zI (w:Int)) (zT (y.map D.int)) k j (by lia) (λz t=>o z (zV _ t)) (by rw[zL];lia) (by rw[zL];lia)
  refine⟨d,b,e,f,?_⟩;have a:Av (Bp 2 (Ak (gV 6) (Ak (gV 7) Bs))) Kf (Ez (h.ps.map RP.enc)) [zR (lN G),u7 h.enc,s2,zT (left.map D.int),zI (w:Int),zT (y.map D.int),s6,s7] (hD G h T as ss)=_:=r;have c:∀G,Af h.enc (.int 1) G=.ok (.tup (h.ps.map RP.enc)) G:=λG=>Dq
  have s:M3 [zR (lN G),u7 h.enc,s2,zT (left.map D.int),zI (w:Int),zT (y.map D.int),s6,s7] (hD G h T as ss)=
    .nx [zR (lN G),u7 h.enc,s2,zT (left.map D.int),zI (w:Int),zT (y.map D.int),k,j] (hD G h T (as++ND h T w y left 0 h.ps) (ss++KH w 0 h.ps)):=by
   generalize hD G h T (as++ND h T w y left 0 h.ps) (ss++KH w 0 h.ps)=A,hD G h T as ss=B,y.map D.int=H,left.map D.int=F,h.ps.map RP.enc=Y,h.enc=C at*;unfold M3;simp[c,Et,Ih,lenOf,a]
  have v:KC (y::ys)=.tup (y.map D.int)::KC ys:=rfl;rw[v,qP,zK,Ck];simp[ZC,MF,zD];rw[<-qk,<-qk,<-u];simp[s]
end
def DJ{T:DH}{fs:List (Str×D)}{f:Str}(h:lN fs<1000):Jl "Draft" f (.ref (lN G)) d S (G++ .ins "Draft" fs::T)=.nx S (G++ .ins "Draft" (Hn f d fs)::T):=by
 rw[cZ (by simp) h,Fl]
 rfl
def U9{T H':DH}{fs:List (Str×D)}{f:Str}{tv:DE}(e:tv S H=.ok d H')(b:S[0]?=u7 (zR (lN G)))(a:H'=G++ .ins "Draft" fs::T)(h:lN fs<1000):Cp "Draft" (dV 0) tv f S H=.nx S (G++ .ins "Draft" (Hn f d fs)::T):=by
 have c:dV 0 S H'=.ok (.ref (lN G)) H':=by simp[b]
 rw[cY,e,R.Cr,c,R.Cr,a];exact DJ h
def DK(g:HG h)(s:lN h.ps<=100)(w:lN HA<=100){left:List Int}(v:lN left=lN h.ps)(x:∀y∈HA,lN y=lN h.ps)(C:3*lN h.ps*lN HA<900)(G:DH):
  Qj [.ref (lN G),h.enc,.fl (KC HA),.tup (left.map D.int)] (G++[.ins "Draft" []])=.ok .LA (hD G h (lN HA) (ZC h (lN HA) left 0 HA) (MF h 0 (lN HA))):=by
 obtain⟨j,i,k,m,l⟩:=h9 g s w v HA 0 [] [] u8 u8 u8 u8 (by lia) x (by simp;lia) (by simp;lia);rw[q9,q9]at l;let a:PB:=[zR (lN G),u7 h.enc,zF (KC HA),zT (left.map D.int),u8,u8,u8,u8];have c:Av (Bp 2 (Ak (gV 4) (Ak (gV 5) Bs))) M3 (Ez (KC HA)) a (hD G h (lN HA) [] [])=_:=l;have d:lN (KC HA)=lN HA:=by simp[KC]
 have A:Cp "Draft" (dV 0) (dV 1) "house" a (G++[.ins "Draft" []])=.nx a (G++[.ins "Draft" [("house",h.enc)]]):=U9 (fs:=[]) (by simp[a]) rfl rfl (by simp);have B:Cp "Draft" (dV 0) (IA Ar (Ai (dV 2) Bb)) "turns" a (G++[.ins "Draft" [("house",h.enc)]])=.nx a (G++[.ins "Draft" [("house",h.enc),("turns",.int (lN HA:Int))]]):=U9 (fs:=[("house",h.enc)]) (by simp[a,d]) rfl rfl (by simp);have t:Cp "Draft" (dV 0) (Bk (IA Ac Bb)) "arcs" a (G++[.ins "Draft" [("house",h.enc),("turns",.int (lN HA:Int))]])=.nx a (G++[.ins "Draft" [("house",h.enc),("turns",.int (lN HA:Int)),("arcs",.ref (lN G+1))],.lst []]):=by
  have e:D.ref (lN (G++[DO.ins "Draft" [("house",h.enc),("turns",.int (lN HA:Int))]]))=.ref (lN G+1):=by simp
  have:=U9 (f:="arcs") (fs:=[("house",h.enc),("turns",.int (lN HA:Int))]) (T:=[.lst []]) (Xo (S:=a) (H:=G++[.ins "Draft" [("house",h.enc),("turns",.int (lN HA:Int))]])) rfl (by simp) (by simp);rw[e]at this;exact this
 have u:Cp "Draft" (dV 0) (Bk (IA Ac Bb)) "spots" a (G++[.ins "Draft" [("house",h.enc),("turns",.int (lN HA:Int)),("arcs",.ref (lN G+1))],.lst []])=.nx a (hD G h (lN HA) [] []):=by
  have e:D.ref (lN (G++[DO.ins "Draft" [("house",h.enc),("turns",.int (lN HA:Int)),("arcs",.ref (lN G+1))],.lst []]))=.ref (lN G+2):=by simp
  have:=U9 (f:="spots") (fs:=[("house",h.enc),("turns",.int (lN HA:Int)),("arcs",.ref (lN G+1))]) (T:=[.lst [],.lst []]) (Xo (S:=a) (H:=G++[.ins "Draft" [("house",h.enc),("turns",.int (lN HA:Int)),("arcs",.ref (lN G+1))],.lst []])) rfl (by simp) (by simp);rw[e]at this;exact this
 have r:Bo (Ba Et (Ai (dV 2) Bb)) (Bp 2 (Ak (gV 4) (Ak (gV 5) Bs))) M3 a (hD G h (lN HA) [] [])=.nx [zR (lN G),u7 h.enc,zF (KC HA),zT (left.map D.int),j,i,k,m] (hD G h (lN HA) (ZC h (lN HA) left 0 HA) (MF h 0 (lN HA))):=by
  rw[<-c];have q:a[2]?=u7 (zF (KC HA)):=rfl
  clear_value a
  generalize hD G h (lN HA) [] []=E,KC HA=F at*;simp[q,Et,Ih,lenOf]
 have p:tidy (G++[.ins "Draft" []]) (.ok .LA (hD G h (lN HA) (ZC h (lN HA) left 0 HA) (MF h 0 (lN HA))))=.ok .LA (hD G h (lN HA) (ZC h (lN HA) left 0 HA) (MF h 0 (lN HA))):=by
  refine cf λz=>?_
  have o:((hD G h (lN HA) (ZC h (lN HA) left 0 HA) (MF h 0 (lN HA))).take (lN (G++[DO.ins "Draft" []])))[lN G]?=u7 (.ins "Draft" []):=by rw[z];simp
  rw[qx (by simp),SS]at o;cases o
 have b:Uo a (G++[.ins "Draft" []])=.nx [zR (lN G),u7 h.enc,zF (KC HA),zT (left.map D.int),j,i,k,m] (hD G h (lN HA) (ZC h (lN HA) left 0 HA) (MF h 0 (lN HA))):=by
  clear_value a
  unfold Uo;simp only[S7,A,B,t,u,r,U8]
 unfold Qj;rw[Aj];show tidy _ (Uo a _).ret=_;rw[b];exact p
def Fy(lv:List Int)(cm:List (List Int))(w k:Nat)(x:Int):Int:=x+(if w<5 then Aa (cm.getD k []) w else 0)+(if w=0 then Aa lv k else 0)
def Eg(lv:List Int)(cm:List (List Int))(w:Nat):Nat->List Int->List Int
 |_,[]=>[]
 |k,x::xs=>Fy lv cm w k x::Eg lv cm w (k+1) xs
def Bx(lv:List Int)(cm:List (List Int)):Nat->List (List Int)->List Int
 |_,[]=>[]
 |w,f::fs=>Eg lv cm w 0 f++Bx lv cm (w+1) fs
theorem Nx{lv:List Int}:∀(xs:List Int)(k:Nat),lN (Eg lv cm w k xs)=lN xs
 |[],_=>rfl
 |x::xs,k=>by simp[Eg,Nx xs]
section
variable{lv:List Int}{cm:List (List Int)}{n:Nat}{G:DH}
theorem iA(s:lN lv=n)(m:lN cm=n)(h:∀r∈cm,lN r=5){w:Nat}{s0 s1 s6:Option D}:∀(xs:List Int)(k:Nat)(acc:List Int)(s7 s8 s9 WH:Option D),k+lN xs<=n->lN acc+lN xs<1000->∃t o u e,
  Av (Bp 2 (Ak (gV 7) (Ak (gV 8) Bs))) Lf (((xs.map D.int).zipIdx k).map λ(x,i)=>.tup [.int (i:Int),x]) [s0,s1,u7 (tupI lv),zT (cm.map tupI),zR (lN G),zI (w:Int),s6,s7,s8,s9,WH] (G++[.lst (acc.map D.int)])=
   .nx [s0,s1,u7 (tupI lv),zT (cm.map tupI),zR (lN G),zI (w:Int),s6,t,o,u,e] (G++[.lst ((acc++Eg lv cm w k xs).map D.int)])
 |[],k,acc,s7,s8,s9,WH,_,_=>⟨s7,s8,s9,WH,by simp[Eg,Ea]⟩
 | x::xs,k,acc,s7,s8,s9,WH,I,H=>by
  simp[zD]at I H;obtain⟨c,q⟩:∃c,cm[k]?=u7 c:=⟨_,zJ (by lia)⟩;have K:=h c (zU q);have E:cm.getD k []=c:=by simp[zY,q]
  have F:MC (cm.map tupI) (k:Int)=u7 (tupI c):=Ce rfl (by rw[zj,q];rfl);have N:=λG=>Jg (G:=G) (xs:=lv) (k:=k) (by lia)
  have p:∀G,Af (.tup (cm.map tupI)) (.int (k:Int)) G=.ok (.tup (c.map D.int)) G:=λG=>by simp[F,tupI]
  have d:∀G,Ar [.tup (c.map D.int)] G=.ok (.int 5) G:=λG=>by simp[K]
  have f:lN (acc.map D.int)<1000000:=by rw[zq];lia
  let v:=Fy lv cm w k x;obtain⟨t,o,u,e,L⟩:=iA s m h (w:=w) (s0:=s0) (s1:=s1) (s6:=s6) xs (k+1) (acc++[Fy lv cm w k x]) (zI (k:Int)) (zI x) (zI (if w<5 then Aa (cm.getD k []) w else 0)) (zI (if w=0 then Aa lv k else 0)) (by lia) (by simp;lia);refine⟨t,o,u,e,?_⟩;have J:Lf [s0,s1,u7 (tupI lv),zT (cm.map tupI),zR (lN G),zI (w:Int),s6,zI (k:Int),zI x,s9,WH] (G++[.lst (acc.map D.int)])=
    .nx [s0,s1,u7 (tupI lv),zT (cm.map tupI),zR (lN G),zI (w:Int),s6,zI (k:Int),zI x,zI (if w<5 then Aa (cm.getD k []) w else 0),zI (if w=0 then Aa lv k else 0)] (G++[.lst ((acc++[Fy lv cm w k x]).map D.int)]):=by
   rw[qQ,zK,qV];unfold Fy;rw[E];have M:tupI lv=.tup (lv.map D.int):=rfl;rw[M];by_cases g:w<5
   .have b:(w:Int)<5:=by lia
    have z:=λG=>Jg (G:=G) (xs:=c) (k:=w) (by lia)
    by_cases a:w=0
    .subst a;have l:∀G,Af (.tup (c.map D.int)) (.int 0) G=.ok (.int (Aa c 0)) G:=z;generalize c.map D.int=C,cm.map tupI=B,acc.map D.int=A,lv.map D.int=y at*;unfold Lf;simp[p,d,l,N,Ex,Fl,f]
    have j:¬(w:Int)=0:=by lia
    generalize c.map D.int=C,cm.map tupI=B,acc.map D.int=A,lv.map D.int=y at*;unfold Lf;simp[p,d,g,b,a,j,z,Ex,Fl,f]
   have b:¬(w:Int)<5:=by lia
   have a:¬w=0:=by lia
   generalize c.map D.int=C,cm.map tupI=B,acc.map D.int=A,lv.map D.int=y at*;unfold Lf;simp[p,d,g,b,a,by omega,Ex,Fl,f]
  rw[zK,qP,zK,Ck];simp only[Eg];rw[show acc++Fy lv cm w k x::Eg lv cm w (k+1) xs=acc++[Fy lv cm w k x]++Eg lv cm w (k+1) xs by simp,<-L];simp[J]
theorem iB(h:lN lv=n)(e:lN cm=n)(c:∀r∈cm,lN r=5){s0 s1:Option D}:∀(fs:List (List Int))(w:Nat)(acc:List Int)(s5 s6 s7 s8 s9 WH:Option D),(∀f∈fs,lN f=n)->lN acc+n*lN fs<1000->∃k l m j o a,
  Av (Bp 2 (Ak (gV 5) (Ak (gV 6) Bs))) Ow (((fs.map tupI).zipIdx w).map λ(x,i)=>.tup [.int (i:Int),x]) [s0,s1,u7 (tupI lv),zT (cm.map tupI),zR (lN G),s5,s6,s7,s8,s9,WH] (G++[.lst (acc.map D.int)])=
   .nx [s0,s1,u7 (tupI lv),zT (cm.map tupI),zR (lN G),k,l,m,j,o,a] (G++[.lst ((acc++Bx lv cm w fs).map D.int)])
 |[],w,acc,s5,s6,s7,s8,s9,WH,_,_=>⟨s5,s6,s7,s8,s9,WH,by simp[Bx,Ea]⟩
 | f::fs,w,acc,s5,s6,s7,s8,s9,WH,s,u=>by
  simp[zD,Nat.mul_add,Nat.mul_one]at u;have C:=s f (by simp);obtain⟨p,t,q,d,v⟩:=iA h e c f 0 acc s7 s8 s9 WH (by lia) (by lia);obtain⟨k,l,m,j,o,a,z⟩:=iB h e c (s0:=s0) (s1:=s1) fs (w+1) (acc++Eg lv cm w 0 f) (zI (w:Int)) (u7 (tupI f)) p t q d (λg B=>s g (zV _ B)) (by rw[zL,Nx];lia);refine⟨k,l,m,j,o,a,?_⟩;have b:Av (Bp 2 (Ak (gV 7) (Ak (gV 8) Bs))) Lf (Ez (f.map D.int)) [s0,s1,u7 (tupI lv),zT (cm.map tupI),zR (lN G),zI (w:Int),u7 (tupI f),s7,s8,s9,WH] (G++[.lst (acc.map D.int)])=_:=v
  have y:Ow [s0,s1,u7 (tupI lv),zT (cm.map tupI),zR (lN G),zI (w:Int),u7 (tupI f),s7,s8,s9,WH] (G++[.lst (acc.map D.int)])=
    .nx [s0,s1,u7 (tupI lv),zT (cm.map tupI),zR (lN G),zI (w:Int),u7 (tupI f),p,t,q,d] (G++[.lst ((acc++Eg lv cm w 0 f).map D.int)]):=by
   have A:tupI f=.tup (f.map D.int):=rfl;rw[A]at b⊢;generalize(acc++Eg lv cm w 0 f).map D.int=I,acc.map D.int=H,f.map D.int=E,tupI lv=F,cm.map tupI=J at*;unfold Ow;simp[Et,Ih,lenOf,b]
  rw[zK,qP,zK,Ck];simp only[Bx];rw[<-qk,<-z];simp[y]
def DL(d:lN lv=n)(c:lN cm=n)(b:∀r∈cm,lN r=5){fs:List (List Int)}(h:∀f∈fs,lN f=n)(t:n*lN fs<900)(G:DH):freeze G (Pk [QB lv cm,.fl (fs.map tupI)] G)=.ok (.fl ((Bx lv cm 0 fs).map D.int)) G:=by
 obtain⟨s,u,v,p,x,j,g⟩:=iB (G:=G) d c b fs 0 [] u8 u8 u8 u8 u8 u8 h (by simp;lia);rw[q9]at g;have a:Av (Bp 2 (Ak (gV 5) (Ak (gV 6) Bs))) Ow (Ez (fs.map tupI)) [u7 (QB lv cm),zF (fs.map tupI),u7 (tupI lv),zT (cm.map tupI),zR (lN G),u8,u8,u8,u8,u8,u8] (G++[.lst []])=_:=g;have k:tidy G (.ok (.ref (lN G)) (G++[.lst []]))=.ok (.ref (lN G)) (G++[.lst []]):=Dt rfl
 have l:tidy G (.ok (.ref (lN G)) (G++[.lst ((Bx lv cm 0 fs).map D.int)]))=.ok (.ref (lN G)) (G++[.lst ((Bx lv cm 0 fs).map D.int)]):=Dt Di;have i:QB lv cm=.tup [tupI lv,.tup (cm.map tupI)]:=rfl;have e:Pk [QB lv cm,.fl (fs.map tupI)] G=.ok (.ref (lN G)) (G++[.lst ((Bx lv cm 0 fs).map D.int)]):=by rw[i]at a⊢;generalize(Bx lv cm 0 fs).map D.int=m,fs.map tupI=o,tupI lv=q,cm.map tupI=w at*;unfold Pk fM;rw[Aj];simp[Ac,k,Et,Ih,lenOf,a,l]
 rw[e,Be Di]
end
def DM{o:Nat}(e:Cw "Draft" "house" (.ref o) H=.ok h.enc H)(i:Cw "Draft" "turns" (.ref o) H=.ok (.int (T:Int)) H)(l:lN h.ps<=100)(j:T<=100)(hw:w<T):Dy [.ref o,.int (w:Int),.int (k:Int)] H=.ok (.int (w*lN h.ps+k:Nat)) H:=by
 have d:∀G,Af h.enc (.int 1) G=.ok (.tup (h.ps.map RP.enc)) G:=λG=>Dq
 have c:∀G,Ar [.tup (h.ps.map RP.enc)] G=.ok (.int (lN h.ps:Int)) G:=λG=>by simp
 have f:∀G,Bq (.int (w:Int)) (.int (lN h.ps:Int)) G=.ok (.int ((w:Int)*(lN h.ps:Int))) G:=λG=>Dr (by lia) (by lia)
 have b:(((w*lN h.ps+k:Nat)):Int)=(w:Int)*(lN h.ps:Int)+(k:Int):=by rw[jD,qU]
 have a:¬T<=w:=by lia
 rw[b];generalize h.ps.map RP.enc=Y,h.enc=m at*;unfold Dy Qd;rw[Aj];simp[e,i,d,c,f,Dh,a,by omega,Bc]
def DN{f:Nat->DH->Option (Option D)}{g:DG}{x:D}(h:f j G=u7 (u7 x)):Dc f g b (m+1) j S G=(g x S G).toS λa c=>MK (b a c) (Dc f g b m (j+1)):=by
 show(match f j G with |some (u7 x)=>(g x S G).toS λa c=>MK (b a c) (Dc f g b m (j+1))|some u8=>.nx S G|none=>.bad)=_
 rw[h]
def DP{f:Nat->DH->Option (Option D)}{g:DG}(h:f j G=u7 u8):Dc f g b 0 j S G=.nx S G:=by
 show(match f j G with |some u8=>SR.nx S G|_=>.bad)=_
 rw[h]
noncomputable def H7(r:List Int):DO:=.lst (r.map D.int)
def hP(H:DH)(rs:List (List Int)):DH:=H++(rs.map H7++[.lst ((zW (lN rs)).map λi=>D.ref (lN H+i))])
section
variable{H:DH}{rs:List (List Int)}
def P0(h:i<lN H):(hP H rs)[i]?=H[i]? :=z9 h
def iC(h:rs[i]?=u7 r):(hP H rs)[lN H+i]?=u7 (.lst (r.map D.int)):=by
 unfold hP;rw[zM (by lia),qI,z9 (by simpa using((zZ.mp h).1)),zj,h]
 rfl
def W3:(hP H rs)[lN H+lN rs]?=u7 (.lst ((zW (lN rs)).map λi=>D.ref (lN H+i))):=by unfold hP;rw[zM (by lia),qI,zM (by simp)];simp
def DQ(h:i<lN rs)(r:List Int):(hP H rs).set (lN H+i) (.lst (r.map D.int))=hP H (rs.set i r):=by
 unfold hP;rw[J6,List.set_append,if_pos (by simpa using h),xU,qH]
 rfl
def Q0:lN (hP H rs)=lN H+lN rs+1:=by simp[hP];lia
end
noncomputable def NA:List Int:=[0,0,0,0,0,0]
theorem iD{S:PB}:∀(m j:Nat)(Γ:DH),Bl (gV 0) Aq Ls (u8::S) (Al (j:Int) m) Γ=.ok ((zW m).map λi=>D.ref (lN Γ+i)) (Γ++zQ m (H7 NA))
 |0,j,Γ=>by rw[Ew];simp[Bl]
 | m+1,j,Γ=>by
  have a:tidy Γ (.ok (.ref (lN Γ+1)) (Γ++[.lst [.int 0],H7 NA]))=.ok (.ref (lN Γ)) (Γ++[H7 NA]):=R9 [.lst [.int 0],H7 NA] rfl rfl;have rp:Jk (.ref (lN Γ)) (.int 6) (Γ++[.lst [.int 0]])=.ok (.ref (lN Γ+1)) (Γ++[.lst [.int 0],H7 NA]):=by have:=uL (G:=Γ++[.lst [.int 0]]) (k:=6) (by rw[Ex];rfl) (by decide);simpa[H7,NA]using this
  have b:∀x,Ls (u7 x::S) Γ=.ok (.ref (lN Γ)) (Γ++[H7 NA]):=λx=>by unfold Ls;simp[Ac,rp,a]
  have c:((j:Int)+1)=((j+1:Nat):Int):=by lia
  rw[Eh,Ga,c];simp only[Cg,R.Eb,qF,Kw,if_true,b];rw[iD (S:=S) m (j+1) (Γ++[H7 NA]),R.Eb]
  congr 1
  .rw[jZ,zK,qG]
   congr 1
   refine jJ λi _=>?_
   simp;lia
  simp[qy]
def TL(rs:List (List Int))(u q:Nat)(c:Int):List (List Int):=rs.set u ((rs.getD u []).set q (Aa (rs.getD u []) q+c))
def iE:lN (TL rs u q c)=lN rs:=by simp[TL]
def iF(h:∀r∈rs,lN r=6):∀r∈TL rs u q c,lN r=6:=λr a=>by
 unfold TL at a;by_cases b:u<lN rs
 .rcases List.mem_or_eq_of_mem_set a with z|z
  .exact h r z
  rw[z,qH,zY,zJ b];exact h _ (qK _)
 rw[List.set_eq_of_length_le (by lia)]at a;exact h r a
def By(n:Nat):List Spot->List Int->List (List Int)->List (List Int)
 |s::ss,c::cs,rs=>By n ss cs (TL rs (s.1*n+s.2.1) s.2.2 c)
 |_,_,rs=>rs
theorem Wn{n:Nat}:∀(ss:List Spot)(cs:List Int)(rs:List (List Int)),(∀r∈rs,lN r=6)->lN (By n ss cs rs)=lN rs/\∀r∈By n ss cs rs,lN r=6
 |s::ss,c::cs,rs,h=>by have:=Wn (n:=n) ss cs (TL rs (s.1*n+s.2.1) s.2.2 c) (iF h);rw[iE]at this;exact this
 |[],_,rs,h=>by cases‹List Int› <;> exact⟨rfl,h⟩
 |_::_,[],rs,h=>⟨rfl,h⟩
section
variable{Γ:DH}{g:Nat}{h:RH}{T:Nat}{ss:List Spot}
theorem iG(o:Γ[g]?=u7 (.ins "Draft" (UK h T g)))(c:Γ[g+2]?=u7 (.lst (ss.map Cv)))(E:lN h.ps<=100)(I:T<=100)(hs:∀s∈ss,s.1<T/\s.2.1<lN h.ps/\s.2.2<6){f:List Int}(Q:lN f=lN ss){WH s11 OP WN:Option D}:∀(m j:Nat)(rs:List (List Int))(s5 s6 s7 s8 s9:Option D),j+m=lN ss->lN rs=T*lN h.ps->(∀r∈rs,lN r=6)->∃y B C i l,
  Dc (Gs [.ref (g+2),.fl (f.map D.int)]) (Bp 2 (Ak (gV 5) (Ak (gV 6) Bs))) Ob m j [zR g,s1,s2,s3,zR (lN Γ+T*lN h.ps),s5,s6,s7,s8,s9,WH,s11,OP,WN] (hP Γ rs)=
   .nx [zR g,s1,s2,s3,zR (lN Γ+T*lN h.ps),y,B,C,i,l,WH,s11,OP,WN] (hP Γ (By (lN h.ps) (ss.drop j) (f.drop j) rs))
 | 0,j,rs,s5,s6,s7,s8,s9,L,e,v=>⟨s5,s6,s7,s8,s9,by
   have z:(hP Γ rs)[g+2]?=u7 (.lst (ss.map Cv)):=by rw[P0 (zZ.mp c).1];exact c
   rw[DP (by rw[Ua (Pg z) Jm,zC];simp[I7];lia),qE (by lia)]
   rfl⟩
 | m+1,j,rs,s5,s6,s7,s8,s9,L,e,v=>by
  have d:j<lN ss:=by lia
  have a:j<lN f:=by lia
  obtain⟨⟨w,k,q⟩,A⟩:∃s,ss[j]?=u7 s:=⟨_,zJ d⟩;obtain⟨hw,hk,hq⟩:=hs _ (zU A);dsimp only at hw hk hq;have J:f[j]?=u7 (Aa f j):=(Gh a)▸zJ a;have x:w*lN h.ps+k<lN rs:=by
   rw[e];have Y:w*lN h.ps+k<(w+1)*lN h.ps:=by rw[xI,vJ];lia
   exact zx Y (qL _ (by lia))
  obtain⟨r,p⟩:∃r,rs[w*lN h.ps+k]?=u7 r:=⟨_,zJ x⟩;have r6:=v r (zU p);have u:rs.getD (w*lN h.ps+k) []=r:=by rw[zY,p];rfl
  have P:ss.drop j=(w,k,q)::ss.drop (j+1):=by
   rw[zO d]
   congr 1
   exact(zZ.mp A).2
  have Z:f.drop j=Aa f j::f.drop (j+1):=by rw[zO a,Gh a]
  obtain⟨y,B,C,i,l,ih⟩:=iG o c E I hs Q m (j+1) (TL rs (w*lN h.ps+k) q (Aa f j)) (u7 (Cv (w,k,q))) (zI (Aa f j)) (zI (w:Int)) (zI (k:Int)) (zI (q:Int)) (by lia) (by rw[iE];exact e) (iF v);refine⟨y,B,C,i,l,?_⟩;have n:(hP Γ rs)[g]?=u7 (.ins "Draft" (UK h T g)):=by rw[P0 (zZ.mp o).1];exact o
  have z:(hP Γ rs)[g+2]?=u7 (.lst (ss.map Cv)):=by rw[P0 (zZ.mp c).1];exact c
  have ez:Gs [.ref (g+2),.fl (f.map D.int)] j (hP Γ rs)=u7 (zT [Cv (w,k,q),.int (Aa f j)]):=by
   rw[Ua (Pg z) Jm];unfold I7;have U:((ss.map Cv).zip (f.map D.int))[j]?=u7 (Cv (w,k,q),D.int (Aa f j)):=List.getElem?_zip_eq_some.mpr ⟨by rw[zj,A];rfl,by rw[zj,J];rfl⟩;rw[zj,U]
   rfl
  have cn:=DM (Dl n rfl) (Dl n rfl) E I (k:=k) hw;have N:=λt S=>Tt (m:="node_at") (F:=Dy) (ta:=t) (S:=S) n rfl
  have X:Af (.ref (lN Γ+T*lN h.ps)) (.int ((w*lN h.ps+k:Nat):Int)) (hP Γ rs)=.ok (.ref (lN Γ+(w*lN h.ps+k))) (hP Γ rs):=by rw[<-e];exact Hx W3 (Ce rfl (by rw[zj,qB x];rfl))
  have b:=iC (H:=Γ) p;have W:XO (.ref (lN Γ+(w*lN h.ps+k))) (.int (q:Int)) (hP Γ rs)=.ok (.int (Aa r q)) (hP Γ rs):=cR b (H9 (by lia));have iN:PJ (lN (r.map D.int)) (q:Int)=u7 q:=by rw[zq];exact Nm (by lia)
  have O:Gg (.ref (lN Γ+(w*lN h.ps+k))) (.int (q:Int)) (.int (Aa r q+Aa f j)) (hP Γ rs)=.ok .LA (hP Γ (TL rs (w*lN h.ps+k) q (Aa f j))):=by rw[Kr,b];simp only[iN];unfold TL;rw[u,<-DQ x,xU]
  have M:Ob [zR g,s1,s2,s3,zR (lN Γ+T*lN h.ps),u7 (Cv (w,k,q)),zI (Aa f j),s7,s8,s9,WH,s11,OP,WN] (hP Γ rs)=
    .nx [zR g,s1,s2,s3,zR (lN Γ+T*lN h.ps),u7 (Cv (w,k,q)),zI (Aa f j),zI (w:Int),zI (k:Int),zI (q:Int),WH,s11,OP,WN] (hP Γ (TL rs (w*lN h.ps+k) q (Aa f j))):=by
   have K:Cv (w,k,q)=.tup [.int (w:Int),.int (k:Int),.int (q:Int)]:=rfl;rw[K];generalize hP Γ (TL rs (w*lN h.ps+k) q (Aa f j))=H2,hP Γ rs=H1,lN Γ+T*lN h.ps=a1,lN Γ+(w*lN h.ps+k)=a2,((w*lN h.ps+k:Nat):Int)=uu at*;unfold Ob;simp[N,cn,X,W,O]
  rw[DN ez,P,Z];show _=SR.nx _ (hP Γ (By (lN h.ps) (ss.drop (j+1)) (f.drop (j+1)) (TL rs (w*lN h.ps+k) q (Aa f j))));rw[<-ih];simp[M]
end
def iH{e:Type}{xs:List e}{b:Nat}(c:a<=b)(g:b<=lN xs):cutD xs (u7 (a:Int)) (u7 (b:Int))=(xs.drop a).take (b-a):=by
 have i:=(Ju (lN xs) (a:Int)).2;have h:=(Ju (lN xs) (b:Int)).1;have d:HT.JB (lN xs) 0 (u7 (a:Int))=a:=by lia
 have f:HT.JB (lN xs) (lN xs) (u7 (b:Int))=b:=by lia
 unfold cutD;rw[d,f]
noncomputable def US(r:List Int)(l:Int):List Int:=((r.drop 1).sum-l)::r.drop 1
def DR(hi:Γ[i]?=u7 (.lst (r.map D.int)))(a:lN r=6)(l:Int):Rn [.ref i,.int l] Γ=.ok (tupI (US r l)) Γ:=by
 have m:Gk (.ref i) (u7 1) u8 Γ=.ok (.ref (lN Γ)) (Γ++[.lst ((r.drop 1).map D.int)]):=by have e:cutD (r.map D.int) (u7 ((1:Nat):Int)) u8=(r.map D.int).drop 1:=BC (by rw[zq];lia);have b:cutD (r.map D.int) (u7 1) u8=(r.drop 1).map D.int:=List.map_drop▸e;simp[Gk,Em,hi,b]
 have j:freeze Γ (.ok (.ref (lN Γ)) (Γ++[.lst ((r.drop 1).map D.int)]))=.ok (.fl ((r.drop 1).map D.int)) Γ:=Be Di;have c:Gd [.fl ((r.drop 1).map D.int)] Γ=.ok (.int (r.drop 1).sum) Γ:=Yz;have d:freeze Γ (.ok (.ref (lN Γ)) (Γ++[.lst [.int ((r.drop 1).sum-l)]]))=.ok (.fl [.int ((r.drop 1).sum-l)]) Γ:=Be rfl;have h:freeze Γ (.ok (.ref (lN Γ)) (Γ++[.lst (.int ((r.drop 1).sum-l)::(r.drop 1).map D.int)]))=.ok (.fl (.int ((r.drop 1).sum-l)::(r.drop 1).map D.int)) Γ:=Be (by exact Di)
 have n:tupI (US r l)=.tup (.int ((r.drop 1).sum-l)::(r.drop 1).map D.int):=rfl;have o:lN ((r.drop 1).map D.int)+1<=1000000:=by simp[a]
 have g:tidy Γ (.ok (.tup (.int ((r.drop 1).sum-l)::(r.drop 1).map D.int)) Γ)=.ok (.tup (.int ((r.drop 1).sum-l)::(r.drop 1).map D.int)) Γ:=Bc (by exact Di);have k:Do (.fl [.int ((r.drop 1).sum-l)]) (.fl ((r.drop 1).map D.int)) Γ=.ok (.ref (lN Γ)) (Γ++[.lst (.int ((r.drop 1).sum-l)::(r.drop 1).map D.int)]):=by generalize(r.drop 1).map D.int=Z at*;simp;lia
 rw[n];generalize(r.drop 1).map D.int=Z,(r.drop 1).sum=f at*;unfold Rn eZ;rw[Aj];simp[-M8,m,j,c,Ac,d,k,h,g]
def XE(rs:List (List Int))(n w:Nat)(lay:List Int):List (List Int):=(zW n).map λi=>US (rs.getD (w*n+i) []) (Aa lay i)
def Ef(rs:List (List Int))(n:Nat):Nat->Nat->List Int->List (List (List Int))
 |0,_,_=>[]
 |m+1,w,lay=>XE rs n w lay::Ef rs n m (w+1) ((XE rs n w lay).map λr=>Aa r 5)
def JE(pg:List (List Int)):D:=.tup (pg.map tupI)
def DT{pg:List (List Int)}:TB n (JE pg)=u9:=by exact Fe
def Q6{l:List (List (List Int))}:MA n (l.map JE)=u9:=Ek λ_ _=>DT
theorem iI{G:DH}:∀pg:List (List Int),(∀r∈pg,lN r=6)->Bl (gV 0) Aq Ud [u8] (pg.map tupI) G=.ok ((pg.map λr=>Aa r 5).map D.int) G
 |[],_=>rfl
 |r::pg,h=>by
  have e:=h r (by simp);have a:=Jg (G:=G) (xs:=r) (k:=5) (by lia);have c:Ud [u7 (tupI r)] G=.ok (.int (Aa r 5)) G:=by have b:((5:Nat):Int)=5:=rfl;rw[b]at a;unfold Ud tupI;generalize r.map D.int=Z at*;simp[-sk,a]
  rw[zK,Ga];simp[c,iI (G:=G) pg λx d=>h x (zV _ d)]
theorem iJ(P:n<=100)(x:1<=n)(hT:T<=100)(F:lN rs=T*n)(s:∀r∈rs,lN r=6){s5 s6 s7 s8 s9:Option D}:∀(m w:Nat)(acc:List (List (List Int)))(L:D)(lay:List Int)(OP WN:Option D),w+m=T->lN lay=n->(∀Γ,Bm L Γ=u7 (lay.map D.int))->lN acc+m<1000->∃f g e,
  Av (gV 12) Oz ((qM w m).map λ(k:Nat)=>D.int ((k:Int)*(n:Int))) [s0,s1,s2,zI (n:Int),zR (lN H+lN rs),s5,s6,s7,s8,s9,zR (lN (hP H rs)),u7 L,OP,WN] (hP H rs++[.lst (acc.map JE)])=
   .nx [s0,s1,s2,zI (n:Int),zR (lN H+lN rs),s5,s6,s7,s8,s9,zR (lN (hP H rs)),f,g,e] (hP H rs++[.lst ((acc++Ef rs n m w lay).map JE)])
 |0,w,acc,L,lay,OP,WN,_,_,_,_=>⟨u7 L,OP,WN,by simp[Ef,Ea]⟩
 | m+1,w,acc,L,lay,OP,WN,hw,J,K,ha=>by
  have C:w*n+n<=lN rs:=by rw[F,<-xk];exact qL _ (by lia)
  have p6:∀r∈XE rs n w lay,lN r=6:=λr u=>by obtain⟨i,b,rfl⟩:=qw.mp u;have b:=qW.mp b;have:=s (rs.getD (w*n+i) []) (by rw[zY,zJ (by lia)];exact qK _);unfold US;rw[zD,jy,this]
  have B:lN (XE rs n w lay)=n:=by simp[XE]
  obtain⟨f,g,e,ih⟩:=iJ P x hT F s m (w+1) (acc++[XE rs n w lay]) (.fl (((XE rs n w lay).map λr=>Aa r 5).map D.int)) ((XE rs n w lay).map λr=>Aa r 5) (zI ((w:Int)*(n:Int))) (zF ((XE rs n w lay).map tupI)) (by lia) (by rw[zq,B]) (λΓ=>Jm) (by simp;lia);refine⟨f,g,e,?_⟩;obtain⟨Γ,a⟩:∃Γ,Γ=hP H rs++[.lst (acc.map JE)]:=⟨_,rfl⟩;have gR:Γ[lN H+lN rs]?=u7 (.lst ((zW (lN rs)).map λi=>D.ref (lN H+i))):=by rw[a,z9 (by rw[Q0];lia)];exact W3
  have O:∀i,i<n->Γ[lN H+(w*n+i)]?=u7 (.lst ((rs.getD (w*n+i) []).map D.int)):=λi b=>by rw[a,z9 (by rw[Q0];lia)];exact iC (by rw[zY,zJ (by lia)];rfl)
  have gp:Γ[lN (hP H rs)]?=u7 (.lst (acc.map JE)):=by rw[a,Ex];rfl
  have Y:∀t,Γ.set (lN (hP H rs)) (.lst t)=hP H rs++[.lst t]:=λt=>by rw[a,Fl];rfl
  have o:lN Γ=lN H+lN rs+1+1:=by rw[a,zL,Q0];rfl
  let c:=(zW n).map λi=>D.ref (lN H+(w*n+i))
  have h:cutD ((zW (lN rs)).map λi=>D.ref (lN H+i)) (u7 ((w:Int)*(n:Int))) (u7 ((w:Int)*(n:Int)+(n:Int)))=c:=by
   rw[(qU ..).symm,(jD ..).symm,iH (by lia) (by simpa using C)];refine jq (by rw[jQ,jy,zq,xW,qI];simp[c,zq,xW];lia) λi I W=>?_
   simp[c,xQ]
  have Z:Gk (.ref (lN H+lN rs)) (u7 ((w:Int)*(n:Int))) (u7 ((w:Int)*(n:Int)+(n:Int))) Γ=.ok (.ref (lN Γ)) (Γ++[.lst c]):=by simp[Gk,Em,gR,h]
  have f1:freeze Γ (.ok (.ref (lN Γ)) (Γ++[.lst c]))=.ok (.fl c) Γ:=Be (Ek λi b=>by have b:=qW.mp b;rw[o];exact decide_eq_true (by lia))
  have E:lay.map D.int=(zW n).map λi=>D.int (Aa lay i):=by
   refine jq (by simp[J]) λi I W=>?_
   have b:i<lN lay:=by simpa using I
   simp[Gh b]
  have z2:Dn (Gs [.fl c,L]) (Bp 2 (Ak (gV 0) (Ak (gV 1) Bs))) Aq Wr [u8,u8] (lN c) 0 Γ=.ok ((XE rs n w lay).map tupI) Γ:=by
   rw[Vk (λj=>Ua Jm (K Γ) j) (λy M=>?_) (by simp[I7,c,J])]
   .congr 1
    rw[E,I7,List.zip_map',qG,j9];unfold XE;rw[qG]
    have:((λd=>match d with |D.tup [D.ref i,D.int l]=>u7 (tupI (US (rs.getD (i-lN H) []) l))|_=>u8)∘((λq:D×D=>D.tup [q.1,q.2]) ∘ λi=>(D.ref (lN H+(w*n+i)),D.int (Aa lay i))))=λi=>u7 ((tupI ∘ λi=>US (rs.getD (w*n+i) []) (Aa lay i)) i):=by funext i;simp
    rw[this];exact congrFun xB _
   rw[E,I7,List.zip_map',qG]at M;obtain⟨i,b,rfl⟩:=qw.mp M;have b:=qW.mp b;refine⟨[zR (lN H+(w*n+i)),zI (Aa lay i)],by simp,.inr ⟨rfl,tupI (US (rs.getD (w*n+i) []) (Aa lay i)),?_,by simp⟩⟩;unfold Wr;simp[DR (O i b) (s (rs.getD (w*n+i) []) (by rw[zY,zJ (by lia)];exact qK _)) (Aa lay i)]
  have Q:freeze Γ (.ok (.ref (lN Γ)) (Γ++[.lst ((XE rs n w lay).map tupI)]))=.ok (.fl ((XE rs n w lay).map tupI)) Γ:=Be Fe;have l2:lN ((XE rs n w lay).map tupI)<=1000000:=by rw[zq,B];lia
  have lc:=iI (G:=Γ) (XE rs n w lay) p6;have N:freeze Γ (.ok (.ref (lN Γ)) (Γ++[.lst (((XE rs n w lay).map λr=>Aa r 5).map D.int)]))=.ok (.fl (((XE rs n w lay).map λr=>Aa r 5).map D.int)) Γ:=Be Di;have U:lN (((XE rs n w lay).map λr=>Aa r 5).map D.int)<=1000000:=by rw[zq,zq,B];lia
  have v:lN (acc.map JE)<1000000:=by rw[zq];lia
  have z:∀S:PB,Bg 2 [] S=[u8,u8]:=λ_=>rfl
  have p:∀S:PB,Bg 1 [] S=[u8]:=λ_=>rfl
  have X:JE (XE rs n w lay)=.tup ((XE rs n w lay).map tupI):=rfl;have A:=Y (acc.map JE++[.tup ((XE rs n w lay).map tupI)]);have hb:Oz [s0,s1,s2,zI (n:Int),zR (lN H+lN rs),s5,s6,s7,s8,s9,zR (lN (hP H rs)),u7 L,zI ((w:Int)*(n:Int)),WN] Γ=
    .nx [s0,s1,s2,zI (n:Int),zR (lN H+lN rs),s5,s6,s7,s8,s9,zR (lN (hP H rs)),zF (((XE rs n w lay).map λr=>Aa r 5).map D.int),zI ((w:Int)*(n:Int)),zF ((XE rs n w lay).map tupI)] (hP H rs++[.lst (acc.map JE++[.tup ((XE rs n w lay).map tupI)])]):=by
   clear_value c
   generalize((XE rs n w lay).map λr=>Aa r 5).map D.int=LY,(XE rs n w lay).map tupI=PG,acc.map JE=AA,lN (hP H rs)=ap,lN H+lN rs=ar,(w:Int)*(n:Int)=wn at*;unfold Oz;simp[-Og,Z,f1,Xx Jm (K Γ),z,z2,Ac,l2,Q,p,lc,U,N,gp,v,A]
  rw[jP,zK,Ck,<-a];simp only[Ef];rw[show acc++XE rs n w lay::Ef rs n m (w+1) ((XE rs n w lay).map λr=>Aa r 5)=acc++[XE rs n w lay]++Ef rs n m (w+1) ((XE rs n w lay).map λr=>Aa r 5) by simp,<-ih];rw[qQ,zK,qV,X];simp[hb]
def iK(c:1<=n):Ge ((T:Int)*(n:Int)) (n:Int)=T:=by
 unfold Ge;by_cases a:T=0
 .subst a;simp
 rw[if_pos (Int.mul_pos (by lia) (by lia))];have b:((T:Int)*(n:Int)-1)/(n:Int)=(T:Int)-1:=by
  have e:(T:Int)*(n:Int)-1=((T:Int)-1)*(n:Int)+((n:Int)-1):=by rw[xF];lia
  rw[e,Int.add_comm,Int.add_mul_ediv_right _ _ (by lia),Int.ediv_eq_zero_of_lt (by lia) (by lia)];lia
 lia
section
variable{Γ:DH}{g:Nat}{h:RH}{T:Nat}{ss:List Spot}
def DV(m:Γ[g]?=u7 (.ins "Draft" (UK h T g)))(B:Γ[g+2]?=u7 (.lst (ss.map Cv)))(k:1<=lN h.ps)(u:lN h.ps<=100)(A:T<=100)(hs:∀s∈ss,s.1<T/\s.2.1<lN h.ps/\s.2.2<6){f:List Int}(hf:lN f=lN ss){lv:List Int}(q:lN lv=lN h.ps):
  Qe [.ref g,QB lv cm,.fl (f.map D.int)] Γ=.ok (.ref (lN Γ)) (Γ++[.lst ((Ef (By (lN h.ps) ss f (zQ (T*lN h.ps) NA)) (lN h.ps) T 0 lv).map JE)]):=by
 have L:∀r∈zQ (T*lN h.ps) NA,lN r=6:=λr hr=>by rw[(List.mem_replicate.mp hr).2];rfl
 obtain⟨rl,X⟩:=Wn ss f (zQ (T*lN h.ps) NA) L;rw[jY]at rl;obtain⟨z,F,J,o,p,C⟩:=iG m B u A hs hf (lN ss) 0 (zQ (T*lN h.ps) NA) u8 u8 u8 u8 u8 (by lia) (jY ..) L;rw[jM,jM]at C;have M:(hP Γ (zQ (T*lN h.ps) NA))[g+2]?=u7 (.lst (ss.map Cv)):=by rw[P0 (zZ.mp B).1];exact B
 have K:(hP Γ (zQ (T*lN h.ps) NA))[g]?=u7 (.ins "Draft" (UK h T g)):=by rw[P0 (zZ.mp m).1];exact m
 have d:Cw "Draft" "spots" (.ref g) (hP Γ (zQ (T*lN h.ps) NA))=.ok (.ref (g+2)) (hP Γ (zQ (T*lN h.ps) NA)):=Dl K rfl;have x:=Xx (e:=.fl (f.map D.int)) (Pg M) (Jm);rw[zq]at x;obtain⟨I,w,v,a⟩:=iJ u k A rl X T 0 [] (tupI lv) lv u8 u8 (by lia) q (λΓ=>rfl) (by simp;lia);rw[q9,<-List.range_eq_range']at a;have l:Av (gV 12) Oz (Mp (lN h.ps:Int) T) [zR g,u7 (QB lv cm),zF (f.map D.int),zI (lN h.ps:Int),zR (lN Γ+T*lN h.ps),z,F,J,o,p,zR (lN (hP Γ (By (lN h.ps) ss f (zQ (T*lN h.ps) NA)))),u7 (tupI lv),u8,u8] (hP Γ (By (lN h.ps) ss f (zQ (T*lN h.ps) NA))++[.lst []])=.nx [zR g,u7 (QB lv cm),zF (f.map D.int),zI (lN h.ps:Int),zR (lN Γ+T*lN h.ps),z,F,J,o,p,zR (lN (hP Γ (By (lN h.ps) ss f (zQ (T*lN h.ps) NA)))),I,w,v] (hP Γ (By (lN h.ps) ss f (zQ (T*lN h.ps) NA))++[.lst ((Ef (By (lN h.ps) ss f (zQ (T*lN h.ps) NA)) (lN h.ps) T 0 lv).map JE)]):=by
  rw[rl]at a;exact a
 have h1:∀G,Af h.enc (.int 1) G=.ok (.tup (h.ps.map RP.enc)) G:=λG=>Dq
 have U:∀G,Ar [.tup (h.ps.map RP.enc)] G=.ok (.int (lN h.ps:Int)) G:=λG=>by simp
 have O:∀G,Bq (.int (T:Int)) (.int (lN h.ps:Int)) G=.ok (.int ((T:Int)*(lN h.ps:Int))) G:=λG=>Dr (by lia) (by lia)
 have b:(T:Int)*(lN h.ps:Int)=((T*lN h.ps:Nat):Int):=(qU ..).symm;have W:=vZ A u;have rc:Bl (gV 0) Aq Ls [u8] (Al 0 (T*lN h.ps)) Γ=.ok ((zW (T*lN h.ps)).map λi=>D.ref (lN Γ+i)) (Γ++zQ (T*lN h.ps) (H7 NA)):=iD (T*lN h.ps) 0 Γ;have n:Γ++zQ (T*lN h.ps) (H7 NA)++[.lst ((zW (T*lN h.ps)).map λi=>D.ref (lN Γ+i))]=hP Γ (zQ (T*lN h.ps) NA):=by unfold hP;rw[List.map_replicate,jY,qk]
 have y:lN ((zW (T*lN h.ps)).map λi=>D.ref (lN Γ+i))<=1000000:=by simp;lia
 have i1:inR ((T*lN h.ps:Nat):Int):=Ds (by lia) (by lia);have t:∀S:PB,Bg 1 [] S=[u8]:=λ_=>rfl
 have eH:Cw "Draft" "house" (.ref g) Γ=.ok h.enc Γ:=Dl m rfl;have eT:Cw "Draft" "turns" (.ref g) Γ=.ok (.int (T:Int)) Γ:=Dl m rfl;have Z:LC (IA Ar (Ai (XA Af (Ay "Draft" (dV 0) "house") (dC (.int 1))) Bb)) (gV 3) [zR g,u7 (QB lv cm),zF (f.map D.int),u8,u8,u8,u8,u8,u8,u8,u8,u8,u8,u8] Γ=.nx [zR g,u7 (QB lv cm),zF (f.map D.int),zI (lN h.ps:Int),u8,u8,u8,u8,u8,u8,u8,u8,u8,u8] Γ:=by generalize h.ps.map RP.enc=Y,h.enc=he at*;simp[eH,h1,U]
 have t2:LC (Bv (Ba IC (Ai (XA Bq (Ay "Draft" (dV 0) "turns") (dV 3)) Bb)) 1 [] (gV 0) Aq Ls) (gV 4) [zR g,u7 (QB lv cm),zF (f.map D.int),zI (lN h.ps:Int),u8,u8,u8,u8,u8,u8,u8,u8,u8,u8] Γ=.nx [zR g,u7 (QB lv cm),zF (f.map D.int),zI (lN h.ps:Int),zR (lN Γ+T*lN h.ps),u8,u8,u8,u8,u8,u8,u8,u8,u8] (hP Γ (zQ (T*lN h.ps) NA)):=by rw[b]at O;rw[<-n];clear C a l M K d x n;generalize(zW (T*lN h.ps)).map (λi=>D.ref (lN Γ+i))=RR at*;generalize T*lN h.ps=N at*;simp[eT,O,i1,t,rc,Ac,y]
 have t3:Bo (Ba (Hb 2) (Ai (Ay "Draft" (dV 0) "spots") (Ai (dV 2) Bb))) (Bp 2 (Ak (gV 5) (Ak (gV 6) Bs))) Ob [zR g,u7 (QB lv cm),zF (f.map D.int),zI (lN h.ps:Int),zR (lN Γ+T*lN h.ps),u8,u8,u8,u8,u8,u8,u8,u8,u8] (hP Γ (zQ (T*lN h.ps) NA))=.nx [zR g,u7 (QB lv cm),zF (f.map D.int),zI (lN h.ps:Int),zR (lN Γ+T*lN h.ps),z,F,J,o,p,u8,u8,u8,u8] (hP Γ (By (lN h.ps) ss f (zQ (T*lN h.ps) NA))):=by rw[<-C];generalize hP Γ (zQ (T*lN h.ps) NA)=H1,lN Γ+T*lN h.ps=a1,f.map D.int=FF at*;simp[d,x]
 have tn:tidy (hP Γ (By (lN h.ps) ss f (zQ (T*lN h.ps) NA))) (.ok (.ref (lN (hP Γ (By (lN h.ps) ss f (zQ (T*lN h.ps) NA))))) (hP Γ (By (lN h.ps) ss f (zQ (T*lN h.ps) NA))++[.lst []]))=_:=Dt rfl;have Q:(hP Γ (By (lN h.ps) ss f (zQ (T*lN h.ps) NA))++[.lst []])[lN Γ+T*lN h.ps]?=u7 (.lst ((zW (T*lN h.ps)).map λi=>D.ref (lN Γ+i))):=by rw[z9 (by rw[Q0,rl];lia)];have:=W3 (H:=Γ) (rs:=By (lN h.ps) ss f (zQ (T*lN h.ps) NA));rw[rl]at this;exact this
 have E:Ar [.ref (lN Γ+T*lN h.ps)] (hP Γ (By (lN h.ps) ss f (zQ (T*lN h.ps) NA))++[.lst []])=.ok (.int ((T:Int)*(lN h.ps:Int))) (hP Γ (By (lN h.ps) ss f (zQ (T*lN h.ps) NA))++[.lst []]):=by rw[b];simp[Q]
 have P:=dQ (G:=hP Γ (By (lN h.ps) ss f (zQ (T*lN h.ps) NA))++[.lst []]) (j:=(T:Int)*(lN h.ps:Int)) (c:=(lN h.ps:Int)) ⟨by lia,by lia,by rw[b];lia,by rw[b];lia⟩;rw[iK k]at P;have td:tidy Γ (.ok (.ref (lN (hP Γ (By (lN h.ps) ss f (zQ (T*lN h.ps) NA))))) (hP Γ (By (lN h.ps) ss f (zQ (T*lN h.ps) NA))++[.lst ((Ef (By (lN h.ps) ss f (zQ (T*lN h.ps) NA)) (lN h.ps) T 0 lv).map JE)]))=.ok (.ref (lN Γ)) (Γ++[.lst ((Ef (By (lN h.ps) ss f (zQ (T*lN h.ps) NA)) (lN h.ps) T 0 lv).map JE)]):=by
  rw[Q0,xQ];unfold hP;rw[qk];refine R9 _ ?_ Q6;rw[zM (by simp)];simp
 have i0:∀H:DH,Af (QB lv cm) (.int 0) H=.ok (tupI lv) H:=λH=>by unfold QB;simp
 unfold Qe e6;rw[Aj];simp only[S7,zK,qV,j3,q9,zQ,Z,t2,t3,U8];generalize hP Γ (By (lN h.ps) ss f (zQ (T*lN h.ps) NA))=H3,(Ef (By (lN h.ps) ss f (zQ (T*lN h.ps) NA)) (lN h.ps) T 0 lv).map JE=PS,QB lv cm=SE,tupI lv=LV,f.map D.int=FF at*;simp[Ac,tn,i0,E,P,l,td]
end
noncomputable def OG(p:List Int)(n w:Nat):List Int:=(p.drop (w*n)).take n
def Bf(p:List Int)(n T:Nat):List (List Int):=(zW T).map λw=>OG p n w
def DW{lv:List Int}{left:List Int}(g:GV h lv cm fl HA left)(ok:IF (lN fl*lN h.ps) (ZC h (lN HA) left 0 HA) (Bx lv cm 0 fl))(C:∀s∈MF h 0 (lN HA),s.1<lN HA/\s.2.1<lN h.ps/\s.2.2<6)(G:DH)(hT:DO.tab "Sending" "send_by"∈G):
  ∃(e:Int)(f p:List Int),MD (lN fl*lN h.ps) (ZC h (lN HA) left 0 HA) (Bx lv cm 0 fl) e f p/\
   O3 [h.enc,QB lv cm,.fl (fl.map tupI),.fl (KC HA),.tup (left.map D.int)] G=.ok (.tup [.int e,.fl ((Ef (By (lN h.ps) (MF h 0 (lN HA)) f (zQ (lN HA*lN h.ps) NA)) (lN h.ps) (lN HA) 0 lv).map JE),.fl ((Bf p (lN h.ps) (lN HA)).map tupI)]) G:=by
 have u:=g.n1;have hn5:=g.n5;have M:=g.WT;have o:=g.pn;have Z?:=g.nt;have h3:3*lN h.ps*lN HA<900:=by rw[o,Nat.mul_assoc];lia
 have P:=DK g.hg (by lia) (by lia) g.lf.1 (λy hy=>(g.pr y hy).1) h3 G;obtain⟨H,n⟩:∃H,H=hD G h (lN HA) (ZC h (lN HA) left 0 HA) (MF h 0 (lN HA)):=⟨_,rfl⟩;have cs:=DL g.lv.1 g.cm.1 (λr hr=>(g.cm.2 r hr).1) (λf hf=>(g.fr f hf).1) (by lia) H;have I:DO.tab "Sending" "send_by"∈H:=n▸jz _ hT;have W:H[lN G+1]?=u7 (.lst ((ZC h (lN HA) left 0 HA).map KB)):=n▸hD1
 obtain⟨e,f,p,E,cb⟩:=CS ok H W I;refine⟨e,f,p,E,?_⟩;have nl:=V8 (h:=h) (T:=lN HA) (left:=left) HA 0;have J:H[lN G]?=u7 (.ins "Draft" (UK h (lN HA) (lN G))):=n▸SS;have cp:=DV J (n▸hD2) u (by lia) (by lia) C (by rw[E.lf,nl.2]) (cm:=cm) g.lv.1;rw[<-n]at P;have fp:freeze H (.ok (.ref (lN H)) (H++[.lst ((Ef (By (lN h.ps) (MF h 0 (lN HA)) f (zQ (lN HA*lN h.ps) NA)) (lN h.ps) (lN HA) 0 lv).map JE)]))=.ok (.fl ((Ef (By (lN h.ps) (MF h 0 (lN HA)) f (zQ (lN HA*lN h.ps) NA)) (lN h.ps) (lN HA) 0 lv).map JE)) H:=Be Q6
 have fa:Cw "Draft" "arcs" (.ref (lN G)) H=.ok (.ref (lN G+1)) H:=Dl J rfl;have N:=λt S=>Tt (m:="pages_by") (F:=Qe) (ta:=t) (S:=S) J rfl
 have mk:∀(t:List D)(d:DH),T7 Qj "Draft" [h.enc,.fl (KC HA),.tup (left.map D.int)] G=.ok (.ref (lN G)) H:=λ_ _=>by simp[T7,P]
 have fb:freeze H (.ok (.tup [.int e,.fl (f.map D.int),.fl (p.map D.int)]) H)=.ok (.tup [.int e,.fl (f.map D.int),.fl (p.map D.int)]) H:=Jv (by show(u9&&(MA _ _&&(MA _ _&&u9)))=u9;rw[Di,Di];rfl);have L:lN ((Bx lv cm 0 fl).map D.int)=lN fl*lN h.ps:=by rw[zq];exact ok.sl
 have U:=E.lp;have K:(lN (p.map D.int):Int)=(lN fl:Int)*(lN h.ps:Int):=by rw[zq,U];exact qU ..
 have Y:∀G,Af h.enc (.int 1) G=.ok (.tup (h.ps.map RP.enc)) G:=λG=>Dq
 have hl:∀G,Ar [.tup (h.ps.map RP.enc)] G=.ok (.int (lN h.ps:Int)) G:=λG=>by simp
 have Q:=dQ (G:=H) (j:=(lN fl:Int)*(lN h.ps:Int)) (c:=(lN h.ps:Int)) ⟨by lia,by lia,by rw[<-qU];lia,by rw[<-qU];have:=xy (lN fl) (lN h.ps);lia⟩;rw[iK u]at Q;have rc:∀l:List Nat,(∀w∈l,w<lN fl)->Bl (gV 0) Aq Nv [u8,zF (p.map D.int),zI (lN h.ps:Int)] (l.map λ(k:Nat)=>D.int ((k:Int)*(lN h.ps:Int))) H=.ok ((l.map λw=>OG p (lN h.ps) w).map tupI) H:=λl=>by
  induction l with
  |nil=>exact λ_=>rfl
  | cons w l ih=>
   intro q;have hw:=q w (by simp);have A:w*lN h.ps+lN h.ps<=lN p:=by rw[U,<-xk];exact qL _ (by lia)
   have ec:cutD (p.map D.int) (u7 ((w:Int)*(lN h.ps:Int))) (u7 ((w:Int)*(lN h.ps:Int)+(lN h.ps:Int)))=(OG p (lN h.ps) w).map D.int:=by
    rw[(qU ..).symm,(jD ..).symm,iH (by lia) (by simpa using A),qI,<-List.map_drop,<-List.map_take]
    rfl
   have B:Gk (.fl (p.map D.int)) (u7 ((w:Int)*(lN h.ps:Int))) (u7 ((w:Int)*(lN h.ps:Int)+(lN h.ps:Int))) H=.ok (.ref (lN H)) (H++[.lst ((OG p (lN h.ps) w).map D.int)]):=by rw[Og,ec]
   have X:freeze H (.ok (.ref (lN H)) (H++[.lst ((OG p (lN h.ps) w).map D.int)]))=.ok (.fl ((OG p (lN h.ps) w).map D.int)) H:=Be Di;have O:Nv [zI ((w:Int)*(lN h.ps:Int)),zF (p.map D.int),zI (lN h.ps:Int)] H=.ok (tupI (OG p (lN h.ps) w)) H:=by unfold Nv tupI;generalize(OG p (lN h.ps) w).map D.int=Z,p.map D.int=PP at*;simp[-Og,B,X]
   rw[zK,Ga];simp[O,ih λx hx=>q x (zV _ hx)]
 have v:Bl (gV 0) Aq Nv [u8,zF (p.map D.int),zI (lN h.ps:Int)] (Mp (lN h.ps:Int) (lN fl)) H=.ok ((Bf p (lN h.ps) (lN HA)).map tupI) H:=by rw[o];exact rc (zW (lN fl)) λw hw=>qW.mp hw
 have fr:freeze H (.ok (.ref (lN H)) (H++[.lst ((Bf p (lN h.ps) (lN HA)).map tupI)]))=.ok (.fl ((Bf p (lN h.ps) (lN HA)).map tupI)) H:=Be Fe;have lr:lN ((Bf p (lN h.ps) (lN HA)).map tupI)<=1000000:=by simp[Bf];lia
 have z:∀a b c d e f g h i j k l:Option D,Bg 1 [9,10] [a,b,c,d,e,f,g,h,i,j,k,l]=[u8,j,k]:=λ_ _ _ _ _ _ _ _ _ _ _ _=>rfl
 have td:tidy G (.ok (.tup [.int e,.fl ((Ef (By (lN h.ps) (MF h 0 (lN HA)) f (zQ (lN HA*lN h.ps) NA)) (lN h.ps) (lN HA) 0 lv).map JE),.fl ((Bf p (lN h.ps) (lN HA)).map tupI)]) H)=.ok (.tup [.int e,.fl ((Ef (By (lN h.ps) (MF h 0 (lN HA)) f (zQ (lN HA*lN h.ps) NA)) (lN h.ps) (lN HA) 0 lv).map JE),.fl ((Bf p (lN h.ps) (lN HA)).map tupI)]) G:=by rw[n];unfold hD;exact Jy (by show(u9&&(MA _ _&&(MA _ _&&u9)))=u9;rw[Q6,Fe];rfl)
 rw[qU ..]at cb;generalize(Ef (By (lN h.ps) (MF h 0 (lN HA)) f (zQ (lN HA*lN h.ps) NA)) (lN h.ps) (lN HA) 0 lv).map JE=PG,(Bf p (lN h.ps) (lN HA)).map tupI=PR,(Bx lv cm 0 fl).map D.int=SU,f.map D.int=FF,p.map D.int=PP,KC HA=PY,left.map D.int=LF,fl.map tupI=FL,QB lv cm=SE,h.ps.map RP.enc=YY,h.enc=O at*;unfold O3 fN;rw[Aj];simp[mk [] [],cs,L,fa,cb,fb,Y,hl,K,Q,z,v,Ac,lr,fr,N,cp,fp,td]
def DX(c:ns.Nodup){x:Str}(h:ns[j]?=u7 x):ns.idxOf x=j:=by
 obtain⟨d,e⟩:=zZ.mp h;have a:=jL.mpr (zU h);have b:=List.getElem_idxOf a;rcases Nat.lt_trichotomy (ns.idxOf x) j with q|q|q
 .exact absurd (b.trans e.symm) (jH.mp c _ _ a d q)
 .exact q
 exact absurd (e.trans b.symm) (jH.mp c _ _ d a q)
def Q3(g:HG h)(hp:h.ps[k]?=u7 p){d:Nat}(hd:HE h p=u7 d):k<d/\d<lN h.ps:=by
 obtain⟨j,f,e⟩:=(g.pg k p hp).dn;unfold HE at hd;split at hd
 .cases hd
 rename_i hs;have a:j<lN (NC h):=by
  have b:=(zZ.mp e).1;rw[zL]at b;by_cases q:j<lN (NC h)
  .exact q
  .exfalso
   have c:j=lN (h.ps.map RP.nm):=by have:lN (NC h)=lN (h.ps.map RP.nm):=rfl;simp at b;rw[this]at q;simp at q;simp;lia
   rw[c,zM (zv _),Nat.sub_self]at e;exact hs (Option.some.inj e).symm
 have q:=DX (ns:=NC h) g.ng.nd ((z9 a).symm.trans e);rw[<-(Option.some.inj hd),q];refine⟨f,?_⟩;simpa[NC]using a
theorem R7{d:Option Nat}(hd:∀j,d=u7 j->j<n):An n T w d<=T*n:=by
 unfold An;cases d with
 |none=>exact zv _
 |some j=>
  dsimp only;split
  .exact zv _
  have:=hd j rfl;have a:w*n+j<(w+1)*n:=by rw[xI,vJ];lia
  exact jR (zx a (qL _ (by lia)))
def Jh(hw:w<T)(hk:k<n):w*n+k<T*n:=by
 have a:w*n+k<(w+1)*n:=by rw[xI,vJ];lia
 exact zx a (qL _ (by lia))
theorem T4(hw:w<T)(hk:k<n){d:Option Nat}(h:∀j,d=u7 j->w<w'\/w<=w'/\k<j):w*n+k<An n T w' d:=by
 have a:=Jh hw hk;unfold An;cases d with
 |none=>exact a
 | some j=>
  dsimp only;split
  .exact a
  rcases h j rfl with z|⟨z,e⟩
  .have c:w*n+k<(w+1)*n:=by rw[xI,vJ];lia
   have b:(w+1)*n<=w'*n:=qL _ (by lia);lia
  .have b:w*n<=w'*n:=qL _ z;lia
section
variable{h:RH}{T w k:Nat}{p:RP}
def iL(g:HG h)(hw:w<T)(hp:h.ps[k]?=u7 p){mo:Option Int}{ga:Int}(d:∀b,mo=u7 b->0<=b)(c: -1000<=ga/\ga<=1000):MB (T*lN h.ps) (PC h T w k p mo ga):=by have hk:=(zZ.mp hp).1;exact⟨Jh hw hk,T4 hw hk (λj a=>.inr ⟨by lia,(Q3 g hp a).1⟩),R7 (λj a=>(Q3 g hp a).2),d,c⟩
theorem DY(g:HG h)(hw:w<T)(hp:h.ps[k]?=u7 p){left:Int}(A:0<=pay/\pay<=900)(B:0<=left/\left<=600):∀x∈TC h T w k pay left p,MB (T*lN h.ps) x:=by
 have hk:=(zZ.mp hp).1;have i:=iL g hw hp (mo:=u8) (ga:=0) (λb z=>by cases z) (by lia);have e:=(g.pg k p hp).kd;intro x c;unfold TC at c;cases f:p.kd with
 |YC a b=>
  rw[f]at c e;have e:0<=a:=e;rcases z0.mp c with rfl|c
  .exact⟨Jh hw hk,T4 (d:=u8) (w':=w) hw hk (λj z=>by cases z),R7 (d:=u8) (w:=w) (λj z=>by cases z),(λb z=>by cases z;exact e),by dsimp only;lia⟩
  rw[jS.mp c];exact i
 |GD a=>
  rw[f]at c e;have e:0<=a:=e;rcases z0.mp c with rfl|c
  .exact iL g hw hp (λb z=>by cases z;exact e) (by lia)
  rw[jS.mp c];exact i
 | RA b r q=>
  rw[f]at c e;obtain⟨l,n⟩:=e;dsimp only at c;rcases qz.mp c with c|c
  .rcases z0.mp c with rfl|c
   .exact i
   cases q with
   |none=>cases c
   |some z=>
    obtain⟨t,d,m⟩:=z;obtain⟨s,v,o⟩:=n t d m rfl;have u:(NC h).idxOf t<lN h.ps:=by have:=jL.mpr s;simpa[NC]using this
    rw[jS.mp (c)];exact⟨Jh hw hk,T4 (d:=u7 ((NC h).idxOf t)) hw hk (λj z=>.inl (by lia)),R7 (d:=u7 ((NC h).idxOf t)) (λj z=>by cases z;exact u),(λb z=>by cases z;exact o),by dsimp only;lia⟩
  rw[jS.mp c]
  exact⟨Jh hw hk,T4 (d:=u7 k) hw hk (λj z=>.inl (by lia)),R7 (d:=u7 k) (λj z=>by cases z;exact hk),(λy z=>by cases z;exact l),by dsimp only;split <;> lia⟩
def DZ{left:Int}:PC h T w k p u8 0∈TC h T w k pay left p:=by
 unfold TC
 cases p.kd<;>simp
theorem Wa:∀s∈YF w k p,s.1=w/\s.2.1=k/\s.2.2<6:=by
 intro s hs;unfold YF at hs;cases c:p.kd with
 |YC a b=>rw[c]at hs;simp at hs;rcases hs with rfl|rfl<;>simp
 |GD a=>rw[c]at hs;simp at hs;subst hs;simp
 |RA b r q=>
  rw[c]at hs;cases q with
  |none=>simp[XT]at hs;rcases hs with rfl|rfl<;>simp
  |some z=>simp[XT]at hs;rcases hs with rfl|rfl|rfl<;>simp
end
theorem iM{h:RH}{T w:Nat}{y left:List Int}:∀(ps:List RP)(f j:Nat)(p:RP),ps[j]?=u7 p->∃a b:List ZA,∃c d:List Spot,ND h T w y left f ps=a++TC h T w (f+j) (Aa y (f+j)) (Aa left (f+j)) p++b/\KH w f ps=c++YF w (f+j) p++d/\lN a=lN c/\(∀s∈c,s.1=w/\f<=s.2.1/\s.2.1<f+j)/\∀s∈d,s.1=w/\f+j<s.2.1/\s.2.1<f+lN ps
 |[],_,_,_,m=>by simp at m
 | p0::ps,f,0,p,m=>by
  have e:p0=p:=by simpa using m
  subst e;refine⟨[],ND h T w y left (f+1) ps,[],KH w (f+1) ps,by simp[ND],by simp[KH],rfl,by simp,λs hs=>?_⟩;have all:∀(ps:List RP)(k:Nat),∀s∈KH w k ps,s.1=w/\k<=s.2.1/\s.2.1<k+lN ps:=λps=>by
   induction ps with
   |nil=>exact λk s hs=>by simp[KH]at hs
   |cons q ps v=>
    intro k s hs;rcases qz.mp hs with hs|hs
    .obtain⟨g,i,_⟩:=Wa s hs;exact⟨g,by lia,by simp;lia⟩
    obtain⟨g,i,n⟩:=v (k+1) s hs;exact⟨g,by lia,by simp;lia⟩
  obtain⟨g,i,n⟩:=all ps (f+1) s hs;exact⟨g,by lia,by simp;lia⟩
 | p0::ps,f,j+1,p,m=>by
  obtain⟨a,b,c,d,g,i,n,r,t⟩:=iM (h:=h) (T:=T) (w:=w) (y:=y) (left:=left) ps (f+1) j p (by simpa using m);have x:f+1+j=f+(j+1):=by lia
  rw[x]at g i r t;refine⟨TC h T w f (Aa y f) (Aa left f) p0++a,b,YF w f p0++c,d,by simp[ND,g],by simp[KH,i],by rw[zL,zL,n,W9.2],λs hs=>?_,λs hs=>?_⟩
  .rcases qz.mp hs with hs|hs
   .obtain⟨l,o,_⟩:=Wa s hs;exact⟨l,by lia,by lia⟩
   obtain⟨l,o,u⟩:=r s hs;exact⟨l,by lia,by lia⟩
  obtain⟨l,o,u⟩:=t s hs;exact⟨l,o,by simp;lia⟩
theorem Vr:∀(ps:List RP)(k:Nat),∀s∈KH w k ps,s.1=w/\s.2.1<k+lN ps/\s.2.2<6
 |[],k,s,hs=>by simp[KH]at hs
 |p::ps,k,s,hs=>by
  rcases qz.mp hs with hs|hs
  .obtain⟨b,c,a⟩:=Wa s hs;exact⟨b,by simp;lia,a⟩
  obtain⟨b,c,a⟩:=Vr ps (k+1) s hs;exact⟨b,by simp;lia,a⟩
theorem Yk:∀(m w:Nat),∀s∈MF h w m,w<=s.1/\s.1<w+m/\s.2.1<lN h.ps/\s.2.2<6
 |0,w,s,hs=>by simp[MF]at hs
 |m+1,w,s,hs=>by
  rcases qz.mp hs with hs|hs
  .obtain⟨c,b,a⟩:=Vr h.ps 0 s hs;exact⟨by lia,by lia,by lia,a⟩
  obtain⟨c,b,a⟩:=Yk m (w+1) s hs;exact⟨by lia,by lia,a⟩
structure Seg (h:RH) (T:Nat) (left:List Int) (w0:Nat) (ys:List (List Int)) (w k:Nat) (y:List Int) (p:RP) (a b:List ZA) (c d:List Spot):Prop where
 ea:ZC h T left w0 ys=a++TC h T w k (Aa y k) (Aa left k) p++b
 es:MF h w0 (lN ys)=c++YF w k p++d
 le:lN a=lN c
 hc:∀s∈c,s.2.1<lN h.ps/\(s.1=w->s.2.1≠k)
 hd:∀s∈d,s.2.1<lN h.ps/\(s.1=w->s.2.1≠k)
theorem iO{T:Nat}{left:List Int}(hp:h.ps[k]?=u7 p):∀(ys:List (List Int))(f j:Nat)(y:List Int),ys[j]?=u7 y->∃a b c d,Seg h T left f ys (f+j) k y p a b c d
 |[],_,_,_,i=>by simp at i
 |m::ys,f,0,y,i=>by
  have e:m=y:=by simpa using i
  subst e;obtain⟨a,b,c,d,r,o,u,n,t⟩:=iM h.ps 0 k p hp;rw[qD]at r o n t;have hk:=(zZ.mp hp).1;refine⟨a,b++ZC h T left (f+1) ys,c,d++MF h (f+1) (lN ys),?_,?_,u,λs hs=>?_,λs hs=>?_⟩
  .rw[ZC,r];simp
  .rw[zD,MF,o];simp
  .obtain⟨_,_,q⟩:=n s hs;exact⟨by lia,λ_=>by lia⟩
  rcases qz.mp hs with hs|hs
  .obtain⟨_,q,l⟩:=t s hs;exact⟨by lia,λ_=>by lia⟩
  .obtain⟨q,_,l,_⟩:=Yk _ _ s hs;exact⟨l,λ_=>by lia⟩
 |m::ys,f,j+1,y,i=>by
  obtain⟨a,b,c,d,g⟩:=iO hp (T:=T) (left:=left) ys (f+1) j y (by simpa using i);have v:f+1+j=f+(j+1):=by lia
  rw[v]at g;refine⟨ND h T f m left 0 h.ps++a,b,KH f 0 h.ps++c,d,?_,?_,?_,λs hs=>?_,g.hd⟩
  .rw[ZC,g.ea];simp
  .rw[zD,MF,g.es];simp
  .rw[zL,zL,(Rg ..).2,g.le]
  rcases qz.mp hs with hs|hs
  .obtain⟨w,l,_⟩:=Vr _ _ s hs;exact⟨by lia,λ_=>by lia⟩
  exact g.hc s hs
theorem iP(g:HG h)(hw:w<T){left:List Int}(b:∀k,0<=Aa y k/\Aa y k<=900)(c:∀k,0<=Aa left k/\Aa left k<=600):∀(ps:List RP)(k:Nat),(∀i p,ps[i]?=u7 p->h.ps[k+i]?=u7 p)->∀x∈ND h T w y left k ps,MB (T*lN h.ps) x
 |[],k,_,x,a=>by simp[ND]at a
 |p::ps,k,e,x,a=>by
  rcases qz.mp a with a|a
  .exact DY g hw (e 0 p rfl) (b k) (c k) x a
  exact iP g hw b c ps (k+1) (λi q d=>by rw[qN];exact e (i+1) q d) x a
theorem Hl{P:Int->Prop}(a:P 0){l:List Int}(h:∀x∈l,P x)(k:Nat):P (Aa l k):=by
 unfold Aa;rw[zY];cases e:l[k]? with
 |none=>exact a
 |some v=>exact h v (zU e)
theorem iQ(g:HG h){left:List Int}(c:∀k,0<=Aa left k/\Aa left k<=600):∀(ys:List (List Int))(w:Nat),w+lN ys<=T->(∀y∈ys,∀x∈y,0<=x/\x<=900)->∀x∈ZC h T left w ys,MB (T*lN h.ps) x
 |[],w,_,_,x,a=>by simp[ZC]at a
 |y::ys,w,hw,b,x,a=>by
  rw[zD]at hw;rcases qz.mp a with a|a
  .exact iP g (by lia) (Hl (by lia) (b y (by simp))) c h.ps 0 (λi p hp=>by rw[qD];exact hp) x a
  exact iQ g c ys (w+1) (by lia) (λz d=>b z (zV _ d)) x a
theorem iR{lv:List Int}(f:∀x∈lv,Bd x)(d:∀r∈cm,∀x∈r,Bd x):∀(xs:List Int)(k:Nat),(∀x∈xs,Bd x)->∀v∈Eg lv cm w k xs,0<=v/\v<10^40
 |[],k,_,v,b=>by simp[Eg]at b
 | x::xs,k,g,v,b=>by
  rcases z0.mp b with rfl|b
  .have c:Bd 0:=⟨by decide,by decide⟩;have i:=g x (by simp);have j:=Hl c f k;have h:Bd (Aa (cm.getD k []) w):=Hl c (λz a=>by
    rw[zY]at a;cases e:cm[k]? with
    |none=>rw[e]at a;simp at a
    |some r=>rw[e]at a;exact d r (zU e) z a) w
   unfold Bd at i j h;unfold Fy
   split <;> split <;> lia
  exact iR f d xs (k+1) (λz a=>g z (zV _ a)) v b
theorem iS{lv:List Int}(d:∀x∈lv,Bd x)(c:∀r∈cm,∀x∈r,Bd x):∀(fs:List (List Int))(w:Nat),(∀f∈fs,lN f=n/\∀x∈f,Bd x)->lN (Bx lv cm w fs)=lN fs*n/\∀v∈Bx lv cm w fs,0<=v/\v<10^40
 |[],w,_=>⟨by simp[Bx],λv a=>by simp[Bx]at a⟩
 |f::fs,w,b=>by
  obtain⟨h,i⟩:=iS d c fs (w+1) λz g=>b z (zV _ g)
  obtain⟨e,j⟩:=b f (by simp);refine⟨by rw[Bx,zL,Nx,h,e,zD,xI];lia,λv a=>?_⟩;rcases qz.mp a with a|a
  .exact iR d c f 0 j v a
  exact i v a
def V1{lv:List Int}{left:List Int}(g:GV h lv cm fl HA left):IF (lN fl*lN h.ps) (ZC h (lN HA) left 0 HA) (Bx lv cm 0 fl):=by
 have f:=g.n1;have l:=g.nt;have e:=g.pn;have p:=(V8 (h:=h) (T:=lN HA) (left:=left) HA 0).1;obtain⟨o,j⟩:=iS g.lv.2 (λr m=>(g.cm.2 r m).2) fl 0 g.fr;have t:lN fl*lN h.ps=lN h.ps*lN fl:=xy ..;refine⟨Nat.mul_pos g.t1 f,by lia,?_,?_,λu s=>?_,o,λx i=>(j x i).1,λx i=>(j x i).2⟩
 .have q:3*lN h.ps*lN HA<=60:=by rw[e,Nat.mul_assoc];lia
  lia
 .rw[<-e];exact iQ g.hg (Hl (by lia) g.lf.2) HA 0 (by lia) λy n=>(g.pr y n).2
 have hk:u%lN h.ps<lN h.ps:=Nat.mod_lt _ f;have hw:u/lN h.ps<lN HA:=by rw[e];exact Nat.div_lt_of_lt_mul (by lia)
 obtain⟨a,b,c,d,k⟩:=iO (zJ hk) HA 0 _ _ (zJ hw);rw[qD]at k;refine⟨PC h (lN HA) (u/lN h.ps) (u%lN h.ps) h.ps[u%lN h.ps] u8 0,?_,?_,rfl⟩
 .rw[k.ea];exact jz _ (zE _ DZ)
 .show u/lN h.ps*lN h.ps+u%lN h.ps=u;rw[xy];exact Nat.div_add_mod ..
theorem X4(G:DH):∀ps:List RP,Bl (gV 0) Aq Sg [u8] (ps.map RP.enc) G=.ok ((ps.map RP.nm).map D.str) G
 |[]=>rfl
 |p::ps=>by
  have a:Sg [u7 p.enc] G=.ok (.str p.nm) G:=by unfold Sg;simp
  rw[zK,Ga];simp[a,X4 G ps]
def D1(G:DH):∀ps:List RP,Bl (gV 0) Aq dU [u8] (ps.map RP.enc) G=.ok ((ps.map RP.nm).map D.str) G:=X4 G
def iT{x:Str}(h:x∈ns)(a:lN ns<=1000000)(G:DH):M9 (.fl (ns.map D.str)) [.str x] G=.ok (.int (ns.idxOf x)) G:=by
 show(match Ku (ns.map D.str)with |some ns=>if x∈ns/\lN ns<=1000000 then R.ok (D.int (ns.idxOf x)) G else .bad|none=>.bad)=_
 rw[tK _];exact if_pos ⟨h,a⟩
def iU(h:RH)(G:DH):freeze G (.ok (.ref (lN G)) (G++[.lst ((NC h).map D.str)]))=.ok (.fl ((NC h).map D.str)) G:=Be S9
def iV(g:HG h)(s:lN h.ps<=100)(hp:h.ps[k]?=u7 p)(G:DH):Mi [h.enc,.int (k:Int)] G=.ok (dN (HE h p)) G:=by
 have l:∀G,Af h.enc (.int 1) G=.ok (.tup (h.ps.map RP.enc)) G:=λG=>Dq
 have a:=Hj hp;have e:=λG=>X4 G h.ps
 have i:=λG=>iU h G
 have j:lN ((NC h).map D.str)<=1000000:=by unfold NC;simp;lia
 have d:∀a b c:Option D,Bg 1 [] [a,b,c]=[u8]:=λ_ _ _=>rfl
 have n:(h.ps.map RP.nm).map D.str=(NC h).map D.str:=rfl;have f:∀G,Af p.enc (.int 2) G=.ok (.str p.dn) G:=λG=>UQ
 rw[n]at e;unfold HE dN;by_cases hs:p.dn="sea"
 .rw[if_pos hs];rw[hs]at f;generalize(NC h).map D.str=Z,h.ps.map RP.enc=Y,p.enc=q,h.enc=m at*;unfold Mi Vl;rw[Aj];simp[l,d,e,j,i,a,f,Bc]
 rw[if_neg hs];have o:=λG=>iT ((PG.mem g hp).resolve_left hs) (by unfold NC;simp;lia) G
 generalize(NC h).idxOf p.dn=r,(NC h).map D.str=Z,h.ps.map RP.enc=Y,p.enc=q,h.enc=m at*;unfold Mi Vl;rw[Aj];simp[l,d,e,j,i,a,f,hs,o,Bc]
def LX(w:lN h.ps<=100)(hp:h.ps[k]?=u7 p){b:Int}{r:List MS}{t:Str}{d m:Int}(hk:p.kd=.RA b r (u7 (t,d,m)))(l:t∈NC h)(G:DH):Q7 [h.enc,.int (k:Int)] G=.ok (.int ((NC h).idxOf t:Nat)) G:=by
 have o:∀G,Af h.enc (.int 1) G=.ok (.tup (h.ps.map RP.enc)) G:=λG=>Dq
 have a:=Hj hp;have f:=λG=>D1 G h.ps
 have g:=λG=>iU h G
 have n:lN ((NC h).map D.str)<=1000000:=by unfold NC;simp;lia
 have e:∀a b c:Option D,Bg 1 [] [a,b,c]=[u8]:=λ_ _ _=>rfl
 have j:(h.ps.map RP.nm).map D.str=(NC h).map D.str:=rfl;have q:=λG=>iT l (by unfold NC;simp;lia) G
 have i:∀G,Af p.enc (.int 6) G=.ok (.tup [.str t,.int d,.int m]) G:=λG=>by unfold RP.enc RP.row RK.rest;rw[hk];simp[KJ]
 rw[j]at f;generalize x:(((NC h).idxOf t:Nat):Int)=v,(NC h).map D.str=Z,h.ps.map RP.enc=Y,p.enc=s,h.enc=u at*;unfold Q7 dW;rw[Aj];simp[o,e,f,n,g,a,i,q,Bc]
def iW{l:List Int}(h:lN l<=i):Aa l i=0:=by
 unfold Aa;rw[zY,zC h]
 rfl
def Uu{p:List Int}(a:j<n):Aa (OG p n w) j=Aa p (w*n+j):=by unfold Aa OG;rw[zY,zY,qx a,List.getElem?_drop]
def Qw{p:List Int}(hp:lN p=T*n)(hw:w<T):lN (OG p n w)=n:=by have q:(w+1)*n<=T*n:=qL _ hw;rw[xI,vJ]at q;unfold OG;rw[jQ,jy];lia
def Xp{p:List Int}(hw:w<T):MC ((Bf p n T).map tupI) (w:Int)=u7 (tupI (OG p n w)):=Ce rfl (by
 unfold Bf;rw[zj,zj,qB hw]
 rfl)
theorem D2{p:List Int}(f:T<=100)(hp:lN p=T*n){d:Option Nat}(hd:∀j,d=u7 j->j<n)(G:DH):J9 [.fl ((Bf p n T).map tupI),.int (w:Int),dN d] G=.ok (.int (Aa p (An n T w d))) G:=by
 have z:Aa p (T*n)=0:=iW (by lia);have a:lN ((Bf p n T).map tupI)=T:=by simp[Bf]
 cases d with
 |none=>
  unfold dN An;rw[z];generalize(Bf p n T).map tupI=Z at*;unfold J9 U0;rw[Aj];simp[Bc]
 |some j=>
  have b:=hd j rfl;unfold dN An;by_cases hw:T<=w
  .dsimp only;rw[if_pos hw,z];generalize(Bf p n T).map tupI=Z at*;unfold J9 U0;rw[Aj];simp[a,hw,Bc]
  dsimp only;rw[if_neg hw,<-Uu b];have e:MC ((Bf p n T).map tupI) (w:Int)=zT ((OG p n w).map D.int):=Xp (show w<T by lia);have c:=λG=>Jg (xs:=OG p n w) (by rw[Qw hp (by lia)];exact b) (G:=G)
  generalize(Bf p n T).map tupI=Z,Aa (OG p n w) j=v,(OG p n w).map D.int=V at*;unfold J9 U0;rw[Aj];simp[a,hw,e,c,Bc]
theorem iX{R:List (List Int)}:∀(m w:Nat)(lay:List Int),lN (Ef R n m w lay)=m
 |0,_,_=>rfl
 |m+1,w,lay=>congrArg (· + 1) (iX m (w+1) _)
theorem iY{R:List (List Int)}(a:∀r∈R,lN r=6)(b:lN R=T*n):∀(m w:Nat)(lay:List Int),w+m<=T->∀pg∈Ef R n m w lay,lN pg=n/\∀r∈pg,lN r=6
 |0,_,_,_,pg,hp=>by simp[Ef]at hp
 | m+1,w,lay,hw,pg,hp=>by
  rcases z0.mp hp with rfl|hp
  .refine⟨by simp[XE],λr d=>?_⟩;obtain⟨i,e,rfl⟩:=qw.mp d;have f:w*n+i<lN R:=by rw[b];exact Jh (by lia) (qW.mp e)
   have c:lN (R.getD (w*n+i) [])=6:=by rw[zY,zJ f];exact a _ (qK _)
   show lN ((R.getD (w*n+i) []).drop 1)+1=6;rw[jy,c]
  exact iY a b m (w+1) _ (by lia) pg hp
theorem Z3(G:DH):∀xs:List Int,Bl (gV 0) Aq Tn [u8] (xs.map D.int) G=.ok ((xs.map λ_=>u9).map D.bl) G
 |[]=>rfl
 |x::xs=>by
  have a:Tn [zI x] G=.ok (.bl u9) G:=by unfold Tn;simp[fh]
  rw[zK,Ga];simp[a,Z3 G xs]
def Y9(G:DH)(l:List Bool):freeze G (.ok (.ref (lN G)) (G++[.lst (l.map D.bl)]))=.ok (.fl (l.map D.bl)) G:=Be (Ek λ_ _=>rfl)
def Yq{a:Type}(xs:List a)(G:DH):J1 [.fl ((xs.map λ_=>u9).map D.bl)] G=.ok (.bl u9) G:=by
 have b:((xs.map λ_=>u9).all id)=u9:=by simp
 rw[su,b]
def D3(e:lN r=6):Rx [s0,s1,u7 (tupI r)] G=.nx [s0,s1,u7 (tupI r)] G:=by
 have f:=λG=>Z3 G r
 have d:∀a b c:Option D,Bg 1 [] [a,b,c]=[u8]:=λ_ _ _=>rfl
 have h:lN ((r.map λ_=>u9).map D.bl)<=1000000:=by simp[e]
 have g:=λG=>Y9 G (r.map λ_=>u9)
 have k:=λG=>Yq r G
 have j:lN (r.map D.int)=6:=by simp[e]
 have i:tupI r=.tup (r.map D.int):=rfl;rw[i];generalize(r.map λ_=>u9).map D.bl=Z,r.map D.int=Y at*;unfold Rx;simp[GJ,j,d,f,h,g,k]
theorem iZ{s0 s1:Option D}{G:DH}:∀(pg:List (List Int))(x:Option D),(∀r∈pg,lN r=6)->∃y,Av (gV 2) Rx (pg.map tupI) [s0,s1,x] G=.nx [s0,s1,y] G
 |[],x,_=>⟨x,rfl⟩
 |r::pg,x,h=>by
  obtain⟨y,b⟩:=iZ pg (u7 (tupI r)) λz a=>h z (zV _ a)
  refine⟨y,?_⟩;rw[zK,Ck];simp[D3 (h r (by simp)) (s0:=s0) (s1:=s1) (G:=G)];exact b
def D4{pg:List (List Int)}(e:lN pg=n)(b:∀r∈pg,lN r=6)(G:DH):Ul [JE pg,.int (n:Int)] G=.ok (.bl u9) G:=by
 obtain⟨y,a⟩:=iZ (s0:=u7 (JE pg)) (s1:=zI (n:Int)) (G:=G) pg u8 b;have c:lN (pg.map tupI)=n:=by simp[e]
 have d:JE pg=.tup (pg.map tupI):=rfl;rw[d]at a⊢;generalize pg.map tupI=Y at*;unfold Ul eQ;rw[Aj];simp[GJ,c,a,Bc]
theorem i8(G:DH):∀a:List (List (List Int)),(∀pg∈a,lN pg=n/\∀r∈pg,lN r=6)->Bl (gV 0) Aq R4 [u8,zI (n:Int)] (a.map JE) G=.ok ((a.map λ_=>u9).map D.bl) G
 |[],_=>rfl
 |pg::a,h=>by
  obtain⟨e,d⟩:=h pg (by simp);have b:R4 [u7 (JE pg),zI (n:Int)] G=.ok (.bl u9) G:=by unfold R4;simp[D4 e d]
  rw[zK,Ga];simp[b,i8 G a λz c=>h z (zV _ c)]
theorem ia:∀(WD:List (List Int))(x:Option D),(∀r∈WD,lN r=n)->n<=100->∃y,Av (gV 4) Qm (WD.map tupI) [s0,s1,zI (n:Int),s3,x] G=.nx [s0,s1,zI (n:Int),s3,y] G
 |[],x,_,_=>⟨x,rfl⟩
 | r::WD,x,h,t=>by
  obtain⟨y,m⟩:=ia WD (u7 (tupI r)) (λz k=>h z (zV _ k)) t;refine⟨y,?_⟩;have o:=h r (by simp);have g:Qm [s0,s1,zI (n:Int),s3,u7 (tupI r)] G=.nx [s0,s1,zI (n:Int),s3,u7 (tupI r)] G:=by
   have i:∀G,Bl (gV 0) Aq Zn [u8] (r.map D.int) G=.ok ((r.map λ_=>u9).map D.bl) G:=λG=>Z3 G r
   have f:∀a b c d e:Option D,Bg 1 [] [a,b,c,d,e]=[u8]:=λ_ _ _ _ _=>rfl
   have p:lN ((r.map λ_=>u9).map D.bl)<=1000000:=by simp;lia
   have j:=λG=>Y9 G (r.map λ_=>u9)
   have l:=λG=>Yq r G
   have s:lN (r.map D.int)=n:=by simp[o]
   have q:tupI r=.tup (r.map D.int):=rfl;rw[q];generalize(r.map λ_=>u9).map D.bl=Z,r.map D.int=Y at*;unfold Qm;simp[GJ,s,f,i,p,j,l]
  rw[zK,Ck];simp[g];exact m
def D5{f:List (List (List Int))}{WD:List (List Int)}(v:lN f=T)(t:lN WD=T)(o:∀pg∈f,lN pg=n/\∀r∈pg,lN r=6)(s:∀r∈WD,lN r=n)(z:n<=100)(C:T<=100)(G:DH):
  O9 [.tup [.int e,.fl (f.map JE),.fl (WD.map tupI)],.int (T:Int),.int (n:Int)] G=.ok (.bl u9) G:=by
 have i:=λG=>i8 G f o
 have u:lN ((f.map λ_=>u9).map D.bl)<=1000000:=by simp;lia
 have j:=λG=>Y9 G (f.map λ_=>u9)
 have q:=λG=>Yq f G
 have l:lN (f.map JE)=T:=by simp[v]
 have w:lN (WD.map tupI)=T:=by simp[t]
 have k:freeze G (.ok (.ref (lN G)) (G++[.lst [.fl (f.map JE),.fl (WD.map tupI)]]))=.ok (.fl [.fl (f.map JE),.fl (WD.map tupI)]) G:=Be (by show(MA _ _&&(MA _ _&&u9))=u9;rw[Q6,Fe];rfl);have g:∀a b c d e:Option D,Bg 1 [2] [a,b,c,d,e]=[u8,c]:=λ_ _ _ _ _=>rfl
 obtain⟨y,p⟩:=ia (s0:=zT [.int e,.fl (f.map JE),.fl (WD.map tupI)]) (s1:=zI (T:Int)) (s3:=zF (WD.map tupI)) (G:=G) WD u8 s z;generalize(f.map λ_=>u9).map D.bl=Z,f.map JE=A,WD.map tupI=B at*;have h:∀X:List D,lN X=T->∀x,Ut [zT [.int e,.fl A,.fl B],zI (T:Int),zI (n:Int),zF X,x] G=.nx [zT [.int e,.fl A,.fl B],zI (T:Int),zI (n:Int),zF X,x] G:=λX m x=>by unfold Ut;simp[GJ,m]
 unfold O9 eR;rw[Aj];simp[GJ,fh,Ac,k,Ck,Ea,h A l,h B w,p,g,i,u,j,q,Bc]
def D6{a:Nat->ZA}{t x p:Nat->Int}(hp:p n=0)(b:∀i,i<m->(a i).fr<n/\(a i).to<=n)(X:MI n m a t x):Hm a m x=Ab m (λi=>x i*((a i).ga+p (a i).to-p (a i).fr))+Ab n λu=>p u*t u:=by
 have d:=f9 hp b X;have c:Ab m (λi=>x i*((a i).ga+p (a i).to-p (a i).fr))+Ab m (λi=>x i*p (a i).fr)=Hm a m x+Ab m (λi=>x i*p (a i).to):=by
  rw[<-Ep];unfold Hm;rw[<-Ep];refine Cu λi _=>?_
  rw[Int.mul_sub,xE];lia
 lia
def ib(h:∀x∈as,MB n x):∀i,i<lN as->(Am as i).fr<n/\(Am as i).to<=n:=λ_ a=>⟨(MB.of h a).lt,(MB.of h a).le⟩
def MD.p0{s:List Int}{f p:List Int}(b:MD n as s e f p):Aa p n=0:=by
 unfold Aa;rw[zY,zC (by rw[b.lp];lia)]
 rfl
theorem Kc:∀n,Ab (n+1) f=f 0+Ab n λk=>f (k+1)
 |0=>by show 0+f 0=f 0+0;lia
 |n+1=>by show Ab (n+1) f+f (n+1)=f 0+(Ab n (λk=>f (k+1))+f (n+1));rw[Kc n];lia
noncomputable def sumZ(F:ZA->Int->Int):List ZA->List Int->Int
 |a::as,x::xs=>F a x+sumZ F as xs
 |_,_=>0
theorem Th{F:ZA->Int->Int}:∀{as:List ZA}{xs:List Int},lN xs=lN as->Ab (lN as) (λi=>F (Am as i) (Aa xs i))=sumZ F as xs
 |[],[],_=>rfl
 |a::as,x::xs,h=>by
  rw[zD,Kc]
  exact congrArg (F a x + ·) (Th (by simpa using h))
theorem Qi{F:ZA->Int->Int}:∀{as bs:List ZA}{xs ys:List Int},lN xs=lN as->sumZ F (as++bs) (xs++ys)=sumZ F as xs+sumZ F bs ys
 |[],bs,[],ys,_=>(xK _).symm
 |a::as,bs,x::xs,ys,h=>by show F a x+sumZ F (as++bs) (xs++ys)=F a x+sumZ F as xs+sumZ F bs ys;rw[Qi (by simpa using h),xL]
def Jc(P:ZA->Int->Prop):List ZA->List Int->Prop
 |a::as,x::xs=>P a x/\Jc P as xs
 |_,_=>True
theorem Z4{P:ZA->Int->Prop}:∀{as bs:List ZA}{xs ys:List Int},lN xs=lN as->Jc P as xs->Jc P bs ys->Jc P (as++bs) (xs++ys)
 |[],bs,[],ys,_,_,h=>h
 |a::as,bs,x::xs,ys,h,b,c=>⟨b.1,Z4 (by simpa using h) b.2 c⟩
theorem Z7{P:ZA->Int->Prop}:∀{as:List ZA}{xs:List Int},lN xs=lN as->Jc P as xs->∀i,i<lN as->P (Am as i) (Aa xs i)
 |a::as,x::xs,h,q,0,_=>q.1
 |a::as,x::xs,h,q,i+1,b=>Z7 (by simpa using h) q.2 i (by simpa using b)
structure UI (p:RP) (l:Int) (r:R6):Prop where
 b0:0<=r.b
 d0:0<=r.d
 e0:0<=r.e
 f0:0<=r.f
 sm:r.b+r.d+r.e+r.f=l+r.a
 kd:match p.kd with
  |.YC a _=>r.b<=a/\r.e=0/\r.f=0
  |.GD a=>0<=a/\r.b=0/\r.e=0/\r.f=0
  |.RA b _ u8=>r.b=0/\r.f<=b/\r.e=0
  |.RA b _ (u7 (_,_,m))=>r.b=0/\r.f<=b/\r.e<=m
noncomputable def TK(p:RP)(r:R6):List Int:=match p.kd with
 |.YC _ _=>[r.b,r.d]
 |.GD a=>[min r.d a,r.d-min r.d a]
 |.RA _ _ u8=>[r.d,r.f]
 |.RA _ _ (u7 _)=>[r.d,r.e,r.f]
def XH:List RP->List R6->List Int
 |p::ps,r::rs=>TK p r++XH ps rs
 |_,_=>[]
def OL(h:RH):List (List R6)->List Int
 |[]=>[]
 |pg::VC=>XH h.ps pg++OL h VC
noncomputable abbrev DU:=Nat->Nat->Int
variable{U:DU}
def Fd(D:DU)(w:Nat)(o:Option Nat)(c:Int):DU:=λw' k'=>if w'=w/\o=u7 k' then D w' k'+c else D w' k'
def Kt(h:RH)(w:Nat)(r:R6)(D:DU):Option (Str×Int×Int)->DU
 |none=>D
 |some (t,d,_)=>Fd D (w+d.toNat) (u7 ((NC h).idxOf t)) r.e
def Ht(h:RH)(w:Nat)(p:RP)(r:R6)(D:DU):DU:=match p.kd with
 |.RA _ _ q=>Kt h w r (Fd D (w+p.dl.toNat) (HE h p) r.d) q
 |_=>Fd D (w+p.dl.toNat) (HE h p) r.d
def Lg(L:Nat->Int)(k:Nat)(x:Int):Nat->Int:=λj=>if j=k then x else L j
def VI(h:RH)(w:Nat)(f:List Int):Nat->List RP->List R6->DU->(Nat->Int)->DU->(Nat->Int)->Prop
 |_,[],[],D,L,D',L'=>D'=D/\L'=L
 |k,p::ps,r::rs,D,L,D',L'=>r.a=Aa f k+D w k/\UI p (L k) r/\VI h w f (k+1) ps rs (Ht h w p r D) (Lg L k r.f) D' L'
 |_,_,_,_,_,_,_=>False
def SF(h:RH):Nat->List (List Int)->List (List R6)->DU->(Nat->Int)->Prop
 |_,[],[],_,_=>True
 |w,f::fs,pg::VC,D,L=>∃D' L',VI h w f 0 h.ps pg D L D' L'/\SF h (w+1) fs VC D' L'
 |_,_,_,_,_=>False
def UL(w' k' w k:Nat)(D:DU)(L:Nat->Int):Int:=D w' k'+if(w'=w/\k<=k')\/(w'=w+1/\k'<k)then L k' else 0
def YT(h:RH)(w' k' w k:Nat)(p:RP)(r:R6):Int:=(if w'=w+p.dl.toNat/\HE h p=u7 k' then r.d else 0)+(match p.kd with | .RA _ _ (u7 (t,d,_))=>(if w'=w+d.toNat/\(NC h).idxOf t=k' then r.e else 0)|_=>0)+if w'=w+1/\k'=k then r.f else 0
theorem D7{k':Nat}{r:R6}{D:DU}{L:Nat->Int}(l:(w'=w/\k<k')\/w<w'):UL w' k' w (k+1) (Ht h w p r D) (Lg L k r.f)=UL w' k' w k D L+YT h w' k' w k p r:=by
 have j:(if(w'=w/\k+1<=k')\/(w'=w+1/\k'<k+1)then Lg L k r.f k' else 0)=(if(w'=w/\k<=k')\/(w'=w+1/\k'<k)then L k' else 0)+if w'=w+1/\k'=k then r.f else 0:=by
  unfold Lg;by_cases z:k'=k
  .subst z;by_cases g:w'=w+1
   .rw[if_pos (by lia),if_pos rfl,if_neg (by lia),if_pos ⟨g,rfl⟩];lia
   rw[if_neg (by lia),if_neg (by lia),if_neg (by lia)]
   rfl
  have g:¬(w'=w+1/\k'=k):=λq=>z q.2
  rw[if_neg z,if_neg g,jK];by_cases i:(w'=w/\k<=k')\/(w'=w+1/\k'<k)
  .rw[if_pos i,if_pos (by lia)]
  rw[if_neg i,if_neg (by lia)]
 have a:∀{e:Nat}{o:Option Nat}{c:Int}{D:DU},Fd D e o c w' k'=D w' k'+if w'=e/\o=u7 k' then c else 0:=λ{e o c D}=>by
  unfold Fd
  split <;> lia
 unfold UL;rw[j];unfold Ht YT;cases p.kd with
 | RA b q o=>
  cases o with
  |none=>dsimp only[Kt];rw[a];lia
  |some z=>
   obtain⟨t,d,m⟩:=z;dsimp only[Kt];rw[a,a];simp[Option.some.injEq];lia
 |_=>dsimp only;rw[a];lia
def Zw{b:Nat}(c:j<n)(hk:k<n)(h:a*n+j=b*n+k):a=b/\j=k:=by
 have q:∀{a b:Nat},a<b->a*n+n<=b*n:=λ{a b}h=>by have:=qL n (h);rwa[xk]at this
 rcases Nat.lt_trichotomy a b with z|z|z
 .have:=q z;lia
 .subst z;exact⟨rfl,by lia⟩
 have:=q z;lia
theorem Vc{k':Nat}{o:Option Nat}(hw:w'<T)(hk:k'<n)(ho:∀j,o=u7 j->j<n):(if An n T a o=w'*n+k' then x else 0)=if w'=a/\o=u7 k' then x else 0:=by
 have b:=Jh hw hk;unfold An;cases o with
 |none=>rw[if_neg (by dsimp only;lia),if_neg (by simp)]
 |some j=>
  by_cases z:T<=a
  .simp[if_pos z];rw[if_neg (by lia),if_neg (by lia)]
  simp[if_neg z];by_cases e:a*n+j=w'*n+k'
  .obtain⟨rfl,rfl⟩:=Zw (ho j rfl) hk e;rw[if_pos e,if_pos ⟨rfl,rfl⟩]
  .rw[if_neg e,if_neg];rintro⟨rfl,q⟩;cases q;exact e rfl
section
variable{h:RH}{T w k w' k':Nat}{p:RP}{r:R6}{l pay left:Int}
theorem Ry:lN (TK p r)=lN (TC h T w k pay left p):=by
 unfold TK TC;cases p.kd with
 |RA b s q=>
  cases q with
  |none=>rfl
  |some z=>obtain⟨t,d,m⟩:=z;rfl
 |_=>rfl
theorem D8(ok:UI p l r){v:Nat}:sumZ (λa x=>if a.fr=v then x else 0) (TC h T w k pay left p) (TK p r)=if w*lN h.ps+k=v then r.b+r.d+r.e+r.f else 0:=by
 have c:=ok.kd;unfold TC TK;cases e:p.kd with
 |YC a b|GD a=>
  simp[e]at c;simp[sumZ,PC]
  split <;> lia
 | RA b s q=>
  cases q with
  |none=>
   simp[e]at c;simp[sumZ,PC,YJ,j3,q9]
   split <;> lia
  |some z=>
   obtain⟨t,d,m⟩:=z;simp[e]at c;simp[sumZ,PC,YJ,j3,q9]
   split <;> lia
theorem D9(g:HG h)(hp:h.ps[k]?=u7 p)(ok:UI p l r)(hw:w'<T)(hk:k'<lN h.ps):sumZ (λa x=>if a.to=w'*lN h.ps+k' then x else 0) (TC h T w k pay left p) (TK p r)=YT h w' k' w k p r:=by
 have c:=ok.kd;have u:=(g.pg k p hp).kd;have A:=Jh hw hk;have n:=(zZ.mp hp).1;have rv:∀x:Int,(if An (lN h.ps) T (w+p.dl.toNat) (HE h p)=w'*lN h.ps+k' then x else 0)=if w'=w+p.dl.toNat/\HE h p=u7 k' then x else 0:=λx=>Vc hw hk λj i=>(Q3 g hp i).2
 have o:∀x:Int,(if An (lN h.ps) T (w+1) (u7 k)=w'*lN h.ps+k' then x else 0)=if w'=w+1/\k'=k then x else 0:=λx=>by rw[Vc hw hk λj i=>by cases i;exact n];simp[Option.some.injEq,eq_comm]
 unfold TC TK YT;cases e:p.kd with
 |YC a b=>
  simp[e]at c;have z:¬An (lN h.ps) T w u8=w'*lN h.ps+k':=by show¬T*lN h.ps=_;lia
  show(if An (lN h.ps) T w u8=w'*lN h.ps+k' then r.b else 0)+((if An (lN h.ps) T (w+p.dl.toNat) (HE h p)=w'*lN h.ps+k' then r.d else 0)+0)=_;rw[if_neg z,rv,c.2.2]
  split <;> split <;> lia
 |GD a=>
  simp[e]at c;show(if An (lN h.ps) T (w+p.dl.toNat) (HE h p)=w'*lN h.ps+k' then min r.d a else 0)+((if An (lN h.ps) T (w+p.dl.toNat) (HE h p)=w'*lN h.ps+k' then r.d-min r.d a else 0)+0)=_;rw[rv,rv,c.2.2.2]
  split <;> split <;> lia
 | RA b s q=>
  cases q with
  |none=>
   show(if An (lN h.ps) T (w+p.dl.toNat) (HE h p)=w'*lN h.ps+k' then r.d else 0)+((if An (lN h.ps) T (w+1) (u7 k)=w'*lN h.ps+k' then r.f else 0)+0)=_;rw[rv,o];dsimp only;lia
  |some z=>
   obtain⟨t,d,m⟩:=z;rw[e]at u;obtain⟨v,_,_⟩:=u.2 t d m rfl;have y:(NC h).idxOf t<lN h.ps:=by have:=jL.mpr v;simpa[NC]using this
   have pm:∀x:Int,(if An (lN h.ps) T (w+d.toNat) (u7 ((NC h).idxOf t))=w'*lN h.ps+k' then x else 0)=if w'=w+d.toNat/\(NC h).idxOf t=k' then x else 0:=λx=>by rw[Vc hw hk λj i=>by cases i;exact y];simp[Option.some.injEq]
   show(if An (lN h.ps) T (w+p.dl.toNat) (HE h p)=w'*lN h.ps+k' then r.d else 0)+((if An (lN h.ps) T (w+d.toNat) (u7 ((NC h).idxOf t))=w'*lN h.ps+k' then r.e else 0)+((if An (lN h.ps) T (w+1) (u7 k)=w'*lN h.ps+k' then r.f else 0)+0))=_;rw[rv,o,pm];dsimp only;lia
theorem ic(g:HG h)(hp:h.ps[k]?=u7 p)(i:w'<w\/(w'=w/\k'<=k)):YT h w' k' w k p r=0:=by
 have a:=(g.pg k p hp).kd;have c:¬(w'=w+p.dl.toNat/\HE h p=u7 k'):=λ⟨n,f⟩=>by have:=(Q3 g hp f).1;lia
 unfold YT;rw[if_neg c,if_neg (by lia)];cases e:p.kd with
 | RA b s q=>
  cases q with
  |none=>rfl
  |some z=>
   obtain⟨t,d,m⟩:=z;rw[e]at a;obtain⟨_,j,_⟩:=a.2 t d m rfl;dsimp only;rw[if_neg (by lia)]
   rfl
 |_=>rfl
end
theorem VI.len{f:List Int}:∀{ps:List RP}{k:Nat}{rs:List R6}{D b:DU}{L a:Nat->Int},VI h w f k ps rs D L b a->lN rs=lN ps
 |[],_,[],_,_,_,_,_=>rfl
 |_::_,_,_::_,_,_,_,_,q=>congrArg (· + 1) q.2.2.len
 |[],_,_::_,_,_,_,_,q|_::_,_,[],_,_,_,_,q=>q.elim
theorem O1{left:List Int}:∀{ps:List RP}{rs:List R6}(k:Nat),lN rs=lN ps->lN (XH ps rs)=lN (ND h T w y left k ps)
 |[],[],_,_=>rfl
 |p::ps,r::rs,k,e=>by show lN (TK p r++XH ps rs)=lN (TC h T w k (Aa y k) (Aa left k) p++ND h T w y left (k+1) ps);rw[zL,zL,O1 (k+1) (by simpa using e),Ry]
section
variable{h:RH}{T w' k':Nat}{left:List Int}
structure TrB (w' k' w k m:Nat) (f:List Int) (D:DU) (L:Nat->Int) (D':DU) (L':Nat->Int) (O I:Int):Prop where
 a:w'=w->k<=k'->O=Aa f k'+UL w' k' w k D L+I
 b:w<w'->O=0/\UL w' k' w (k+m) D' L'=UL w' k' w k D L+I
 c:w'<w\/(w'=w/\k'<k)->O=0/\I=0
theorem ie(g:HG h)(o:w'<T)(j:k'<lN h.ps){w:Nat}{f y:List Int}:∀(ps:List RP)(k:Nat)(rs:List R6)(D:DU)(L:Nat->Int)(u:DU)(t:Nat->Int),(∀i p,ps[i]?=u7 p->h.ps[k+i]?=u7 p)->k+lN ps=lN h.ps->VI h w f k ps rs D L u t->
  TrB w' k' w k (lN ps) f D L u t (sumZ (λa x=>if a.fr=w'*lN h.ps+k' then x else 0) (ND h T w y left k ps) (XH ps rs)) (sumZ (λa x=>if a.to=w'*lN h.ps+k' then x else 0) (ND h T w y left k ps) (XH ps rs))
 |[],k,[],D,L,u,t,hp,C,q=>by obtain⟨rfl,rfl⟩:=q;simp[xM,Nat.add_zero]at C;refine⟨λ_ z=>by lia,λ_=>⟨rfl,(jK _).symm⟩,λ_=>⟨rfl,rfl⟩⟩
 | p::ps,k,r::rs,D,L,u,t,hp,C,q=>by
  obtain⟨P,B,N⟩:=q;have m:h.ps[k]?=u7 p:=hp 0 p rfl;rw[zD]at C;have A:=ie g o j (y:=y) ps (k+1) rs _ _ u t (λi x S=>by rw[qN];exact hp (i+1) x S) (by lia) N;have E:∀F:ZA->Int->Int,sumZ F (ND h T w y left k (p::ps)) (XH (p::ps) (r::rs))=sumZ F (TC h T w k (Aa y k) (Aa left k) p) (TK p r)+sumZ F (ND h T w y left (k+1) ps) (XH ps rs):=λF=>Qi Ry
  rw[E,E,D8 B,D9 g m B o j];generalize sumZ _ (ND h T w y left (k+1) ps) (XH ps rs)=O at*;generalize sumZ _ (ND h T w y left (k+1) ps) (XH ps rs)=I at*;have fr:¬(w'=w/\k'=k)->(if w*lN h.ps+k=w'*lN h.ps+k' then r.b+r.d+r.e+r.f else 0)=0:=λz=>if_neg λH=>by obtain⟨M,K⟩:=Zw (by lia) j H;exact z ⟨M.symm,K.symm⟩
  have J:=D7 (h:=h) (w':=w') (k':=k') (w:=w) (k:=k) (p:=p) (r:=r) (D:=D) (L:=L);have Q:k+lN (p::ps)=k+1+lN ps:=by rw[zD];lia
  refine⟨λn H=>?_,λn=>?_,λn=>?_⟩
  .by_cases z:k'=k
   .subst n z;obtain⟨s,v⟩:=A.c (.inr ⟨rfl,by lia⟩);rw[s,v,if_pos rfl,ic g m (.inr ⟨rfl,zv _⟩),B.sm,P];unfold UL;rw[if_pos (.inl ⟨rfl,zv _⟩)];lia
   rw[fr λx=>z x.2,A.a n (by lia),J (.inl ⟨n,by lia⟩)];lia
  .obtain⟨s,v⟩:=A.b n;rw[fr λx=>by lia,s,Q,v,J (.inr n)];exact⟨rfl,by lia⟩
  obtain⟨s,v⟩:=A.c (by lia);rw[fr λx=>by lia,s,v,ic g m (by lia)];exact⟨rfl,rfl⟩
 |[],_,_::_,_,_,_,_,_,_,q|_::_,_,[],_,_,_,_,_,_,q=>q.elim
theorem SF.len:∀{fs:List (List Int)}{w:Nat}{a:List (List R6)}{D:DU}{L:Nat->Int},SF h w fs a D L->lN a=lN fs/\∀pg∈a,lN pg=lN h.ps
 |[],_,[],_,_,_=>⟨rfl,λ_ h=>by cases h⟩
 |_::_,_,_::_,_,_,q=>by
  obtain⟨g,f,c,d⟩:=q;obtain⟨b,e⟩:=d.len
  exact⟨congrArg (· + 1) b,jI.mpr ⟨c.len,e⟩⟩
 |[],_,_::_,_,_,q|_::_,_,[],_,_,q=>q.elim
theorem ig:∀{ys:List (List Int)}{a:List (List R6)}(w:Nat),lN a=lN ys->(∀pg∈a,lN pg=lN h.ps)->lN (OL h a)=lN (ZC h T left w ys)
 |[],[],_,_,_=>rfl
 |y::ys,pg::a,w,e,q=>by show lN (XH h.ps pg++OL h a)=lN (ND h T w y left 0 h.ps++ZC h T left (w+1) ys);rw[zL,zL,ig (w+1) (by simpa using e) λx b=>q x (zV _ b),O1 0 (q pg (by simp))]
theorem ii(g:HG h)(m:w'<T)(j:k'<lN h.ps):∀(fs ys:List (List Int))(d:List (List R6))(w:Nat)(D:DU)(L:Nat->Int),lN fs=lN ys->w+lN fs=T->SF h w fs d D L->∃O I:Int,sumZ (λa x=>if a.fr=w'*lN h.ps+k' then x else 0) (ZC h T left w ys) (OL h d)=O/\sumZ (λa x=>if a.to=w'*lN h.ps+k' then x else 0) (ZC h T left w ys) (OL h d)=I/\
  (w<=w'->O=Aa (fs.getD (w'-w) []) k'+UL w' k' w 0 D L+I)/\(w'<w->O=0/\I=0)
 |[],[],[],w,D,L,_,A,_=>⟨0,0,rfl,rfl,λz=>by simp at A;lia,λ_=>⟨rfl,rfl⟩⟩
 | f::fs,y::ys,o::d,w,D,L,e,A,q=>by
  obtain⟨v,u,C,J⟩:=q;rw[zD]at A;have t:=ie g m j (left:=left) (y:=y) h.ps 0 o D L v u (λi p hp=>by rw[qD];exact hp) (qD _) C;obtain⟨O,I,K,Q,N,E⟩:=ii g m j fs ys d (w+1) v u (by simpa using e) (by lia) J;have B:∀F:ZA->Int->Int,sumZ F (ZC h T left w (y::ys)) (OL h (o::d))=sumZ F (ND h T w y left 0 h.ps) (XH h.ps o)+sumZ F (ZC h T left (w+1) ys) (OL h d):=λF=>Qi (O1 0 C.len)
  refine⟨_,_,B _,B _,?_⟩;rw[K,Q];generalize sumZ _ (ND h T w y left 0 h.ps) (XH h.ps o)=W,sumZ _ (ND h T w y left 0 h.ps) (XH h.ps o)=U at*;refine⟨λz=>?_,λz=>?_⟩
  .by_cases P:w'=w
   .obtain⟨s,n⟩:=E (by lia);rw[t.a P (jk _),s,n,show w'-w=0 by lia];show _=Aa f k'+_+_;lia
   obtain⟨s,n⟩:=t.b (by lia);rw[s,N (by lia),show w'-w=(w'-(w+1))+1 by lia];have pt:UL w' k' (w+1) 0 v u=UL w' k' w (0+lN h.ps) v u:=by
    unfold UL;by_cases S:w'=w+1
    .rw[if_pos (by lia),if_pos (by lia)]
    rw[if_neg (by lia),if_neg (by lia)]
   rw[pt,n];show _=Aa (fs.getD (w'-(w+1)) []) k'+_+_;lia
  obtain⟨s,n⟩:=t.c (.inl z);obtain⟨H,M⟩:=E (by lia);rw[s,n,H,M];exact⟨rfl,rfl⟩
 |[],_,_::_,_,_,_,_,_,q|_::_,_,[],_,_,_,_,_,q=>q.elim
end
noncomputable def tv(p:RP)(r:R6)(y:Int):Int:=match p.kd with
 |.YC _ _=>r.b*y
 |.GD a=>min r.d a*y
 |.RA _ _ _=> -(r.e*y)
noncomputable def lv(p:RP)(r:R6)(l:Int):Int:=match p.kd with
 |.RA _ _ _=>r.f*l
 |_=>0
noncomputable def JF(f:RP->R6->Int->Int):List RP->List R6->List Int->Int
 |p::ps,r::rs,y::ys=>f p r y+JF f ps rs ys
 |_,_,_=>0
def ij{f:RP->R6->Int->Int}{rs:List R6}{ys:List Int}{r:R6}{y:Int}(n:ps[j]?=u7 p)(g:rs[j]?=u7 r)(e:ys[j]?=u7 y):JF f (ps.drop j) (rs.drop j) (ys.drop j)=f p r y+JF f (ps.drop (j+1)) (rs.drop (j+1)) (ys.drop (j+1)):=by
 obtain⟨i,m⟩:=zZ.mp n;obtain⟨c,a⟩:=zZ.mp g;obtain⟨b,d⟩:=zZ.mp e;rw[zO i,zO c,zO b,m,a,d]
 rfl
def Zx{f:RP->R6->Int->Int}{rs:List R6}{ys:List Int}(h:lN ps<=j):JF f (ps.drop j) (rs.drop j) (ys.drop j)=0:=by
 rw[xJ h]
 rfl
def QY(l:List Int):Prop:=∀y∈l,-(2^64)<y/\y<2^64
section
variable{h:RH}{pg:List R6}{pay left:List Int}{G:DH}
def Da(hp:lN pg=lN h.ps){r:R6}(g:pg[j]?=u7 r):MC (pg.map R6.enc) (j:Int)=zT [.int r.a,.int r.b,.int r.c,.int r.d,.int r.e,.int r.f]:=Ce rfl (by rw[zj,g];rfl)
def int_at{l:List Int}{y:Int}(a:l[j]?=u7 y):MC (l.map D.int) (j:Int)=zI y:=Ce rfl (by rw[zj,a];rfl)
theorem ik{g:List (List R6)}(hw:g[w]?=u7 pg)(hy:HA[w]?=u7 pay)(l1:lN pg=lN h.ps)(l2:lN pay=lN h.ps)(l3:lN left=lN h.ps)(sm:QY pay)(Z:QY left):∀(m j:Nat)(acc:Int)(L x x8 x9:Option D),j+m=lN h.ps->∃Q S O X,Av (gV 6) K7 (Al j m) [u7 h.enc,zF (g.map PD),zF (KC HA),zT (left.map D.int),zI acc,zI w,L,x,x8,x9] G=
  .nx [u7 h.enc,zF (g.map PD),zF (KC HA),zT (left.map D.int),zI (acc+JF tv (h.ps.drop j) (pg.drop j) (pay.drop j)+if w+1=lN g then JF lv (h.ps.drop j) (pg.drop j) (left.drop j)else 0),zI w,Q,S,O,X] G
 |0,j,acc,L,x,x8,x9,e=>⟨L,x,x8,x9,by rw[Ew,Ea,Zx (by lia),Zx (by lia)];simp⟩
 | m + 1,j,acc,L,x,x8,x9,e=>by
  obtain⟨p,hp⟩:∃p,h.ps[j]?=u7 p:=⟨_,zJ (by lia)⟩;obtain⟨r,M⟩:∃r,pg[j]?=u7 r:=⟨_,zJ (by lia)⟩;obtain⟨y,n⟩:∃y,pay[j]?=u7 y:=⟨_,zJ (by lia)⟩;obtain⟨u,t⟩:∃y,left[j]?=u7 y:=⟨_,zJ (by lia)⟩;obtain⟨Q,S,O,X,ih⟩:=ik hw hy l1 l2 l3 sm Z m (j+1) (acc+tv p r y+if w+1=lN g then lv p r u else 0) (zI j) (u7 p.enc) (u7 r.enc) (zI y) (by lia)
  refine⟨Q,S,O,X,?_⟩;have B:=Da l1 M;have E:=Hj hp;have C:=int_at n;have al:=int_at t;have A:MC (g.map PD) (w:Int)=zT (pg.map R6.enc):=Ce rfl (by rw[zj,hw];rfl);have K:MC (KC HA) (w:Int)=zT (pay.map D.int):=Ce rfl (by unfold KC;rw[zj,hy];rfl);obtain⟨b1,b2⟩:=sm y (zU n);obtain⟨b3,b4⟩:=Z u (zU t);have J:∀(i:Int)(G:DH),Bq (.int i) (.int y) G=.ok (.int (i*y)) G:=λi G=>N6 b1 b2
  have ml:∀(i:Int)(G:DH),Bq (.int i) (.int u) G=.ok (.int (i*u)) G:=λi G=>N6 b3 b4
  have t1:¬(("basin":Str)="town"):=by decide
  have t2:¬(("basin":Str)="mill"):=by decide
  have t3:¬(("mill":Str)="town"):=by decide
  have t4:¬(("mill":Str)="basin"):=by decide
  have t5:¬(("town":Str)="basin"):=by decide
  have t6:¬(("town":Str)="mill"):=by decide
  have I:∀G,Af h.enc (.int 1) G=.ok (.tup (h.ps.map RP.enc)) G:=λG=>Dq
  have er:r.enc=.tup [.int r.a,.int r.b,.int r.c,.int r.d,.int r.e,.int r.f]:=rfl;have Y:((lN (g.map PD):Nat):Int)=(lN g:Int):=by rw[zq]
  have hb:K7 [u7 h.enc,zF (g.map PD),zF (KC HA),zT (left.map D.int),zI acc,zI w,zI j,x,x8,x9] G=.nx [u7 h.enc,zF (g.map PD),zF (KC HA),zT (left.map D.int),zI (acc+tv p r y+if w+1=lN g then lv p r u else 0),zI w,zI j,u7 p.enc,u7 r.enc,zI y] G:=by
   rw[er];unfold tv lv;cases F:p.kd with
   |YC a b=>
    have v:∀G,Af p.enc (.int 0) G=.ok (.str "town") G:=λG=>by rw[OI,F];rfl
    generalize g.map PD=s,KC HA=o,left.map D.int=W,h.ps.map RP.enc=PS,h.enc=H,p.enc=P at*;unfold K7;simp[I,E,A,B,K,C,v,J,t5,t6]
   |GD a=>
    have v:∀G,Af p.enc (.int 0) G=.ok (.str "mill") G:=λG=>by rw[OI,F];rfl
    have e4:∀G,Af p.enc (.int 4) G=.ok (.int a) G:=λG=>by simp[RP.enc,RP.row,F,RK.rest]
    generalize g.map PD=s,KC HA=o,left.map D.int=W,h.ps.map RP.enc=PS,h.enc=H,p.enc=P at*;unfold K7;simp[I,E,A,B,K,C,v,e4,J,t3,t4,Int.min_comm a r.d]
   | RA b r' q=>
    have v:∀G,Af p.enc (.int 0) G=.ok (.str "basin") G:=λG=>by rw[OI,F];rfl
    generalize g.map PD=s,KC HA=o,left.map D.int=W,h.ps.map RP.enc=PS,h.enc=H,p.enc=P at*;unfold K7;by_cases z:w+1=lN g
    .have U:(w:Int)+1=(lN g:Int):=by lia
     simp[I,E,A,B,K,C,v,J,t1,t2,Y,z,U,al,ml];lia
    have U:¬(w:Int)+1=(lN g:Int):=by lia
    simp[I,E,A,B,K,C,v,J,t1,t2,Y,z,U];lia
  have s2:=ij (f:=lv) hp M t;have e1:((j:Int)+1)=((j+1:Nat):Int):=by lia
  have N:acc+JF tv (h.ps.drop j) (pg.drop j) (pay.drop j)+(if w+1=lN g then JF lv (h.ps.drop j) (pg.drop j) (left.drop j)else 0)=(acc+tv p r y+if w+1=lN g then lv p r u else 0)+JF tv (h.ps.drop (j+1)) (pg.drop (j+1)) (pay.drop (j+1))+if w+1=lN g then JF lv (h.ps.drop (j+1)) (pg.drop (j+1)) (left.drop (j+1))else 0:=by
   rw[ij (f:=tv) hp M n,s2]
   split <;> lia
  rw[N,Eh,Ck,e1];generalize g.map PD=s,KC HA=o,left.map D.int=W at*;simp only[Cg,R.Cr,qF,hb,Dk,ih]
end
structure Pt (h:RH) (VC:List (List R6)) (HA:List (List Int)) (left:List Int):Prop where
 n:lN HA=lN VC
 pg:∀pg∈VC,lN pg=lN h.ps
 py:∀l∈HA,lN l=lN h.ps/\QY l
 lf:lN left=lN h.ps/\QY left
def WI(h:RH):List (List R6)->List (List Int)->Int
 |pg::VC,py::pys=>JF tv h.ps pg py+WI h VC pys
 |_,_=>0
def Dx{a:List (List R6)}{pg:List R6}{b:List Int}(i:a[j]?=u7 pg)(e:HA[j]?=u7 b):WI h (a.drop j) (HA.drop j)=JF tv h.ps pg b+WI h (a.drop (j+1)) (HA.drop (j+1)):=by
 obtain⟨f,g⟩:=zZ.mp i;obtain⟨d,c⟩:=zZ.mp e;rw[zO f,zO d,g,c]
 rfl
def WC(h:RH)(VC:List (List R6))(left:List Int):Int:=match VC.getLast? with
 |some pg=>JF lv h.ps pg left
 |none=>0
section
variable{h:RH}{VC:List (List R6)}{HA:List (List Int)}{left:List Int}{G:DH}
theorem io(f:Pt h VC HA left)(L:lN h.ps<=100):∀(m j:Nat)(acc:Int)(g c b x8 x9:Option D),j+m=lN VC->∃q s y i A,Av (gV 5) Qk (Al j m) [u7 h.enc,zF (VC.map PD),zF (KC HA),zT (left.map D.int),zI acc,g,c,b,x8,x9] G=
  .nx [u7 h.enc,zF (VC.map PD),zF (KC HA),zT (left.map D.int),zI (acc+WI h (VC.drop j) (HA.drop j)+if m=0 then 0 else WC h VC left),q,s,y,i,A] G
 |0,j,acc,g,c,b,x8,x9,e=>⟨g,c,b,x8,x9,by rw[Ew,Ea,xJ (by lia)];simp[WI]⟩
 | m+1,j,acc,g,c,b,x8,x9,e=>by
  obtain⟨a,hp⟩:∃p,VC[j]?=u7 p:=⟨_,zJ (by lia)⟩;have Y:=f.n;obtain⟨d,v⟩:∃p,HA[j]?=u7 p:=⟨_,zJ (by lia)⟩;obtain⟨X,J⟩:=f.py d (zU v);obtain⟨E,B,I,C,F⟩:=ik hp v (f.pg a (zU hp)) X f.lf.1 J f.lf.2 (lN h.ps) 0 acc c b x8 x9 (by lia);simp[jM]at F;have t:Av (gV 6) K7 (Al 0 (lN h.ps)) [u7 h.enc,zF (VC.map PD),zF (KC HA),zT (left.map D.int),zI acc,zI j,c,b,x8,x9] G=_:=F
  obtain⟨q,s,y,i,A,Q⟩:=io f L m (j+1) (acc+JF tv h.ps a d+if j+1=lN VC then JF lv h.ps a left else 0) (zI j) E B I C (by lia);refine⟨q,s,y,i,A,?_⟩;have U:∀G,Af h.enc (.int 1) G=.ok (.tup (h.ps.map RP.enc)) G:=λG=>Dq
  have M:((lN (h.ps.map RP.enc):Nat):Int)=(lN h.ps:Int):=by rw[zq]
  have K:inR (lN h.ps:Int):=Ds (by lia) (by lia);have P:((j:Int)+1)=((j+1:Nat):Int):=by lia
  have o:acc+WI h (VC.drop j) (HA.drop j)+(if m+1=0 then 0 else WC h VC left)=(acc+JF tv h.ps a d+if j+1=lN VC then JF lv h.ps a left else 0)+WI h (VC.drop (j+1)) (HA.drop (j+1))+if m=0 then 0 else WC h VC left:=by
   rw[Dx (h:=h) hp v,if_neg (by lia)];by_cases z:m=0
   .have O:VC.getLast?=u7 a:=by rw[List.getLast?_eq_getElem?,show lN VC-1=j by lia,hp]
    have S:WC h VC left=JF lv h.ps a left:=by unfold WC;rw[O]
    rw[if_pos z,if_pos (by lia),S];lia
   rw[if_neg z,if_neg (by lia)];lia
  have N:Qk [u7 h.enc,zF (VC.map PD),zF (KC HA),zT (left.map D.int),zI acc,zI j,c,b,x8,x9] G=.nx [u7 h.enc,zF (VC.map PD),zF (KC HA),zT (left.map D.int),zI (acc+JF tv h.ps a d+if j+1=lN VC then JF lv h.ps a left else 0),zI j,E,B,I,C] G:=by generalize VC.map PD=x,KC HA=u,left.map D.int=W,h.ps.map RP.enc=PS,h.enc=H at*;unfold Qk;simp[U,M,K,t]
  rw[o,Eh,Ck,P];generalize VC.map PD=x,KC HA=u,left.map D.int=W at*;simp only[Cg,R.Cr,qF,N,Dk,Q]
def EA(f:Pt h VC HA left)(c:lN h.ps<=100)(hp:lN VC<=1000)(G:DH):S6 [h.enc,.fl (VC.map PD),.fl (KC HA),.tup (left.map D.int)] G=.ok (.int (WI h VC HA+WC h VC left)) G:=by
 obtain⟨n,m,t,s,q,b⟩:=io f c (lN VC) 0 0 u8 u8 u8 u8 u8 (by lia);simp only[jM,xK]at b;have a:Av (gV 5) Qk (Al 0 (lN VC)) [u7 h.enc,zF (VC.map PD),zF (KC HA),zT (left.map D.int),zI 0,u8,u8,u8,u8,u8] G=_:=b;have e:WI h VC HA+(if lN VC=0 then 0 else WC h VC left)=WI h VC HA+WC h VC left:=by
  split
  .rename_i z;have:=qO z;subst this
   rfl
  rfl
 rw[e]at a;have g:((lN (VC.map PD):Nat):Int)=(lN VC:Int):=by rw[zq]
 have i:inR (lN VC:Int):=Ds (by lia) (by lia);generalize VC.map PD=j,KC HA=d,left.map D.int=o,h.enc=H at*;unfold S6 dg df de;rw[Aj];simp[g,i,a,Bc]
end
theorem ip{B:List Int}:∀{A:List Int}{j:Nat},j<lN A->Aa (A++B) j=Aa A j
 |_::_,0,_=>rfl
 |_::A,j+1,h=>ip (j:=j) (jU h)
theorem iq{B:List Int}:∀(A:List Int)(j:Nat),Aa (A++B) (lN A+j)=Aa B j
 |[],j=>by simp
 |a::A,j=>by rw[zD,qN];exact iq A j
theorem Zo:∀(xs:List Int)(j k:Nat),k<lN xs->Aa (Eg ly cm w j xs) k=Fy ly cm w (j+k) (Aa xs k)
 |x::xs,j,0,_=>rfl
 |x::xs,j,k+1,h=>by show Aa (Eg ly cm w (j+1) xs) k=Fy ly cm w (j+(k+1)) (Aa xs k);rw[Zo xs (j+1) k (jU h),qN,xQ]
theorem Wf(hk:k<n):∀(fs:List (List Int))(w i:Nat),i<lN fs->(∀f∈fs,lN f=n)->Aa (Bx ly cm w fs) (i*n+k)=Fy ly cm (w+i) k (Aa (fs.getD i []) k)
 |f::fs,w,0,_,h=>by have l:=h f (by simp);show Aa (Eg ly cm w 0 f++Bx ly cm (w+1) fs) (0*n+k)=Fy ly cm w k (Aa f k);rw[Nat.zero_mul,qD,ip (by rw[Nx];lia),Zo _ _ _ (by lia),qD]
 |f::fs,w,i+1,b,h=>by
  have l:lN (Eg ly cm w 0 f)=n:=by rw[Nx];exact h f (by simp)
  show Aa (Eg ly cm w 0 f++Bx ly cm (w+1) fs) ((i+1)*n+k)=Fy ly cm (w+(i+1)) k (Aa (fs.getD i []) k);rw[show(i+1)*n+k=lN (Eg ly cm w 0 f)+(i*n+k) by rw[l,xk];lia,iq,Wf hk fs (w+1) i (jU b) λz a=>h z (zV _ a),show w+1+i=w+(i+1) by lia]
def D0(cm:List (List Int)):DU:=λw k=>if w<5 then Aa (cm.getD k []) w else 0
def JN(a:ZA)(x:Int):Prop:=0<=x/\∀b,a.mo=u7 b->x<=b
section
variable{h:RH}{T w k:Nat}{p:RP}{r:R6}{l pay LH:Int}
theorem EB(ok:UI p l r):Jc JN (TC h T w k pay LH p) (TK p r):=by
 have c:=ok.kd;have n:∀{x:Int},0<=x->∀{q:ZA},q.mo=u8->JN q x:=λi q e=>⟨i,λb z=>by rw[e]at z;cases z⟩
 have s:∀{x m:Int},0<=x->x<=m->∀{q:ZA},q.mo=u7 m->JN q x:=λi j q e=>⟨i,λb z=>by rw[e]at z;cases z;exact j⟩
 have f:=ok.d0;have g:=ok.f0;unfold TC TK;cases e:p.kd with
 |YC a b=>
  simp[e]at c;exact⟨s ok.b0 c.1 rfl,n f rfl,trivial⟩
 |GD a=>
  simp[e]at c;exact⟨s (by lia) (by lia) rfl,n (by lia) rfl,trivial⟩
 | RA b t q=>
  cases q with
  |none=>
   simp[e]at c;exact⟨n f rfl,s g c.2.1 rfl,trivial⟩
  |some z=>
   obtain⟨t,d,m⟩:=z;simp[e]at c;exact⟨n f rfl,s ok.e0 c.2.2 rfl,s g c.2.1 rfl,trivial⟩
theorem EC(ok:UI p l r):sumZ (λa x=>x*a.ga) (TC h T w k pay LH p) (TK p r)=tv p r pay+if w+1=T then _W.lv p r LH else 0:=by
 have c:=ok.kd;unfold TC TK tv _W.lv;cases e:p.kd with
 |YC a b=>
  show r.b*pay+(r.d*0+0)=r.b*pay+if w+1=T then 0 else 0
  rw[jW]
  split <;> lia
 |GD a=>
  show min r.d a*pay+((r.d-min r.d a)*0+0)=min r.d a*pay+if w+1=T then 0 else 0
  rw[jW]
  split <;> lia
 | RA b t q=>
  cases q with
  |none=>
   simp[e]at c;show r.d*0+(r.f*(if w+1=T then LH else 0)+0)= -(r.e*pay)+if w+1=T then r.f*LH else 0
   rw[c.2.2,jW,xT]
   split <;> simp
  |some z=>
   obtain⟨t,d,m⟩:=z;show r.d*0+(r.e * -pay+(r.f*(if w+1=T then LH else 0)+0))= -(r.e*pay)+if w+1=T then r.f*LH else 0
   rw[jW,Int.mul_neg];split
   .lia
   rw[jW];lia
end
def ir(h:k<lN y):y.drop k=Aa y k::y.drop (k+1):=by rw[zO h,Gh h]
section
variable{h:RH}{T:Nat}{left:List Int}
theorem iu{f y:List Int}:∀(ps:List RP)(k:Nat)(rs:List R6)(D:DU)(L:Nat->Int)(c:DU)(b:Nat->Int),k+lN ps<=lN y->k+lN ps<=lN left->VI h w f k ps rs D L c b->
  Jc JN (ND h T w y left k ps) (XH ps rs)/\sumZ (λa x=>x*a.ga) (ND h T w y left k ps) (XH ps rs)=JF tv ps rs (y.drop k)+if w+1=T then JF _W.lv ps rs (left.drop k)else 0
 |[],k,[],D,L,c,b,_,_,q=>⟨trivial,by split <;> rfl⟩
 |p::ps,k,r::rs,D,L,c,b,j,i,q=>by
  obtain⟨n,d,g⟩:=q;rw[zD]at j i;obtain⟨e,m⟩:=iu (y:=y) ps (k+1) rs _ _ c b (by lia) (by lia) g;refine⟨Z4 Ry (EB d) e,?_⟩;show sumZ _ (TC h T w k (Aa y k) (Aa left k) p++ND h T w y left (k+1) ps) (TK p r++XH ps rs)=_;rw[Qi Ry,EC d,m,ir (show k<lN y by lia),ir (show k<lN left by lia)];show _=tv p r (Aa y k)+JF tv ps rs (y.drop (k+1))+if w+1=T then _W.lv p r (Aa left k)+JF _W.lv ps rs (left.drop (k+1))else 0
  split <;> lia
 |[],_,_::_,_,_,_,_,_,_,q|_::_,_,[],_,_,_,_,_,_,q=>q.elim
theorem iw(E:lN left=lN h.ps):∀(fs ys:List (List Int))(c:List (List R6))(w:Nat)(D:DU)(L:Nat->Int),(∀y∈ys,lN y=lN h.ps)->lN fs=lN ys->w+lN ys=T->SF h w fs c D L->
  Jc JN (ZC h T left w ys) (OL h c)/\sumZ (λa x=>x*a.ga) (ZC h T left w ys) (OL h c)=WI h c ys+WC h c left
 |[],[],[],w,D,L,_,_,_,_=>⟨trivial,rfl⟩
 | f::fs,y::ys,d::c,w,D,L,n,e,F,q=>by
  obtain⟨j,i,g,m⟩:=q;rw[zD]at F;have H:=n y (by simp);obtain⟨s,B⟩:=iu (left:=left) (y:=y) h.ps 0 d D L j i (by lia) (by lia) g;obtain⟨o,C⟩:=iw E fs ys c (w+1) j i (λz t=>n z (zV _ t)) (by simpa using e) (by lia) m;refine⟨Z4 (O1 0 g.len) s o,?_⟩;show sumZ _ (ND h T w y left 0 h.ps++ZC h T left (w+1) ys) (XH h.ps d++OL h c)=_;rw[Qi (O1 0 g.len),B,C,jM,jM]
  show _=JF tv h.ps d y+WI h c ys+WC h (d::c) left;have A:=m.len.1;simp only[zD]at e;by_cases z:w+1=T
  .have u:c=[]:=qO (by lia);subst u;rw[if_pos z];show _+(WI h [] ys+0)=_+WI h [] ys+JF _W.lv h.ps d left;lia
  rw[if_neg z];cases c with
  |nil=>simp[xM]at A;lia
  |cons a b=>
   have v:WC h (d::a::b) left=WC h (a::b) left:=by unfold WC;rw[List.getLast?_cons_cons]
   rw[v];lia
 |[],_,_::_,_,_,_,_,_,_,q|_::_,_,[],_,_,_,_,_,_,q=>q.elim
def ED(g:GV h ly cm fl HA left){f:List Int}(ok:MD (lN fl*lN h.ps) (ZC h (lN HA) left 0 HA) (Bx ly cm 0 fl) e f P){c:List (List R6)}(q:SF h 0 fl c (D0 cm) (Aa ly)):WI h c HA+WC h c left<=e:=by
 have d:=g.pn;obtain⟨m,A⟩:=iw g.lf.1 fl HA c 0 _ _ (λy H=>(g.pr y H).1) d.symm (qD _) q;have lF:lN (OL h c)=lN (ZC h (lN HA) left 0 HA):=ig 0 (by rw[q.len.1,d]) q.len.2;have F:MI (lN fl*lN h.ps) (lN (ZC h (lN HA) left 0 HA)) (Am (ZC h (lN HA) left 0 HA)) (Aa (Bx ly cm 0 fl)) (Aa (OL h c)):=by
  refine⟨λi j=>(Z7 lF m i j).1,λi b j n=>(Z7 lF m i j).2 b n,λu o=>?_⟩;have hk:u%lN h.ps<lN h.ps:=Nat.mod_lt _ g.n1;have hw:u/lN h.ps<lN HA:=by rw[d];exact Nat.div_lt_of_lt_mul (by rw[xy];exact o)
  have s:u/lN h.ps*lN h.ps+u%lN h.ps=u:=by rw[xy];exact Nat.div_add_mod ..
  generalize u/lN h.ps=w at*;generalize u%lN h.ps=k at*;obtain⟨O,I,E,t,B,_⟩:=ii g.hg hw hk fl HA c 0 _ _ d.symm (by lia) q;unfold Cj UN;rw[Th (F:=λa x=>if a.fr=u then x else 0) lF,Th (F:=λa x=>if a.to=u then x else 0) lF,<-s,E,t,B (jk _),Wf hk fl 0 w (by lia) λz v=>(g.fr z v).1];rw[qD _];unfold Fy UL D0;rw[Nat.sub_zero];by_cases z:w=0
  .rw[if_pos (show(w=0/\0<=k)\/(w=0+1/\k<0) by lia),if_pos z];lia
  rw[if_neg (show¬((w=0/\0<=k)\/(w=0+1/\k<0)) by lia),if_neg z];lia
 have C:Hm (Am (ZC h (lN HA) left 0 HA)) (lN (ZC h (lN HA) left 0 HA)) (Aa (OL h c))=WI h c HA+WC h c left:=by unfold Hm;rw[Th (F:=λa x=>x*a.ga) lF,A]
 rw[<-C,ok.ea];exact most ok.p0 (ib (V1 g).RG) ok.fe ok.sl F
end
def RY(P:List Int)(a:ZA):Int:=match a.mo with
 |none=>0
 |some m=>m*max 0 (a.ga+Aa P a.to-Aa P a.fr)
def Ff(P:List Int)(as:List ZA):Int:=(as.map (RY P)).sum
def iy{bs:List ZA}:Ff P (as++bs)=Ff P as+Ff P bs:=by unfold Ff;rw[qQ,xN]
theorem jl:∀as:List ZA,Ab (lN as) (λi=>RY P (Am as i))=Ff P as
 |[]=>rfl
 |a::as=>by
  rw[zD,Kc]
  exact congrArg (RY P a + ·) (jl as)
theorem Lu{N:Nat}{s f:List Int}(b:MD N as s e f P)(ok:IF N as s):e=Ff P as+Ab N λu=>Aa P u*Aa s u:=by
 rw[b.ea,D6 b.p0 (ib ok.RG) b.fe,<-jl]
 refine congrArg (· + _) (Cu λi c=>?_)
 have k:=b.fe.nn i c;have le:=b.fe.le i;have g:=b.sl.more i c;have h:=b.sl.WM i c;unfold RY;generalize Am as i=q at*;generalize l:q.ga+Aa P q.to-Aa P q.fr=r at*;have z:r<=0->Aa f i*r=0:=λz=>by
  by_cases e:Aa f i=0
  .rw[e,xT]
  have:=h (by lia);rw[show r=0 by lia,jW]
 cases d:q.mo with
 |none=>
  have:=g λb a=>by rw[d]at a;cases a
  exact z (by lia)
 | some m=>
  have le:=le m c d;dsimp only;by_cases j:r<=0
  .rw[z j,show max 0 r=0 by lia,jW]
  have:¬Aa f i<m:=λlt=>by
   have:=g λb a=>by rw[d]at a;cases a;exact lt
   lia
  rw[show Aa f i=m by lia,show max 0 r=r by lia]
theorem jm:∀b,Ab (a+b) f=Ab a f+Ab b λk=>f (a+k)
 |0=>(jK _).symm
 |b+1=>by show Ab (a+b) f+f (a+b)=Ab a f+(Ab b (λk=>f (a+k))+f (a+b));rw[jm b];lia
theorem jn:∀T,Ab (T*n) f=Ab T λw=>Ab n λk=>f (w*n+k)
 |0=>by rw[Nat.zero_mul];rfl
 |T+1=>by
  rw[xk,jm,jn T]
  rfl
def XN(h:RH)(T:Nat)(left:List Int)(ys:List (List Int))(P:List Int)(w k:Nat):Int:=match h.ps[k]?,ys[w]? with
 |some p,u7 y=>Ff P (TC h T w k (Aa y k) (Aa left k) p)
 |_,_=>0
theorem jo{left:List Int}:∀(ps:List RP)(k:Nat),(∀i p,ps[i]?=u7 p->F (k+i)=Ff P (TC h T w (k+i) (Aa y (k+i)) (Aa left (k+i)) p))->Ff P (ND h T w y left k ps)=Ab (lN ps) λi=>F (k+i)
 |[],k,_=>rfl
 |p::ps,k,a=>by
  rw[zD,Kc];show Ff P (TC h T w k (Aa y k) (Aa left k) p++ND h T w y left (k+1) ps)=_;rw[a 0 p rfl,iy,jo ps (k+1) λi q b=>by rw[qN];exact a (i+1) q b]
  refine congrArg (_ + ·) (Cu λi _=>?_)
  rw[qN]
  rfl
theorem jp{left:List Int}:∀(ys:List (List Int))(w:Nat),(∀i y,ys[i]?=u7 y->F (w+i)=Ff P (ND h T (w+i) y left 0 h.ps))->Ff P (ZC h T left w ys)=Ab (lN ys) λi=>F (w+i)
 |[],w,_=>rfl
 |y::ys,w,a=>by
  rw[zD,Kc];show Ff P (ND h T w y left 0 h.ps++ZC h T left (w+1) ys)=_;rw[a 0 y rfl,iy,jp ys (w+1) λi q b=>by rw[qN];exact a (i+1) q b]
  refine congrArg (_ + ·) (Cu λi _=>?_)
  rw[qN]
  rfl
def EE{left:List Int}(g:GV h ly cm fl HA left){f:List Int}(ok:MD (lN fl*lN h.ps) (ZC h (lN HA) left 0 HA) (Bx ly cm 0 fl) e f P):e=Ab (lN fl) λw=>Ab (lN h.ps) λk=>Aa (Bx ly cm 0 fl) (w*lN h.ps+k)*Aa P (w*lN h.ps+k)+XN h (lN HA) left HA P w k:=by
 have b:Ff P (ZC h (lN HA) left 0 HA)=Ab (lN fl) λw=>Ab (lN h.ps) λk=>XN h (lN HA) left HA P w k:=by
  rw[jp (F:=λw=>Ab (lN h.ps) λk=>XN h (lN HA) left HA P w k) HA 0 λi y a=>?_,g.pn]
  .exact Cu λi _=>by rw[qD]
  rw[qD,jo h.ps 0 λj p hp=>?_]
  .exact Cu λj _=>by rw[qD]
  .unfold XN;rw[qD,hp,a]
 rw[Lu ok (V1 g),b,jn,<-Ep];refine Cu λw _=>?_
 rw[<-Ep];refine Cu λk _=>?_
 rw[xS (Aa P _)];lia
section
variable{h:RH}{T:Nat}{P:List Int}
theorem EF(g:HG h)(B:lN h.ps<=100)(hT:T<=100)(hP:lN P=T*lN h.ps)(pb:∀v∈P,-1000000000<=v/\v<=1000000000)(hw:w<T)(hp:h.ps[k]?=u7 p){LH:Int}(hy:0<=pay/\pay<=900)(hl:0<=LH/\LH<=600)(G:DH):
  Ph [h.enc,.fl ((Bf P (lN h.ps) T).map tupI),.int (w:Int),.int (k:Int),.int pay,.int LH] G=.ok (.int (Ff P (TC h T w k pay LH p))) G:=by
 have hk:=(zZ.mp hp).1;have s:=g.pg k p hp;have S:=Hl (by lia) pb;have I:Aa P (T*lN h.ps)=0:=iW (by lia);have M:∀{x:Int}{o:Option Nat},0<=x->(∀j,o=u7 j->j<lN h.ps)->∀G,J9 [.fl ((Bf P (lN h.ps) T).map tupI),.int ((w:Int)+x),dN o] G=.ok (.int (Aa P (An (lN h.ps) T (w+x.toNat) o))) G:=λ{x o}hx ho G=>by rw[show(w:Int)+x=((w+x.toNat:Nat):Int) by lia];exact D2 hT hP ho G
 have J:∀{u:Nat},u<T->MC ((Bf P (lN h.ps) T).map tupI) (u:Int)=zT ((OG P (lN h.ps) u).map D.int):=Xp;have pv:∀{u:Nat},u<T->∀G,Af (.tup ((OG P (lN h.ps) u).map D.int)) (.int (k:Int)) G=.ok (.int (Aa P (u*lN h.ps+k))) G:=λX G=>by rw[Jg (by rw[Qw hP X];exact hk),Uu hk]
 have i:∀(m x:Int)(G:DH),x<=10000000000->Bq (.int m) (.int (max 0 x)) G=.ok (.int (m*max 0 x)) G:=λm x G hx=>N6 (by lia) (by lia)
 have L:lN ((Bf P (lN h.ps) T).map tupI)=T:=by simp[Bf]
 have E:Ph [h.enc,.fl ((Bf P (lN h.ps) T).map tupI),.int (w:Int),.int (k:Int),.int pay,.int LH] G=tidy G (X5 [u7 h.enc,zF ((Bf P (lN h.ps) T).map tupI),zI (w:Int),zI (k:Int),zI pay,zI LH,u7 p.enc,zI (Aa P (w*lN h.ps+k)),zI (Aa P (An (lN h.ps) T (w+p.dl.toNat) (HE h p))),u8,u8,u8] G).ret:=by
  have t:=M s.dl.1 λj W=>(Q3 g hp W).2
  unfold Ph d8 d7 d6;rw[Aj];simp[Dq,Hj hp,J hw,pv hw,iV g B hp,t]
 have bB:=S (An (lN h.ps) T (w+p.dl.toNat) (HE h p));have bu:=S (w*lN h.ps+k);have n:∀v l,p.kd.rest=.int v::l->∀G,Af p.enc (.int 4) G=.ok (.int v) G:=λv l e G=>by simp[RP.enc,RP.row,e]
 rw[E];unfold Ff TC X5;cases c:p.kd with
 |YC x y=>
  have f:=n x _ (by rw[c];rfl);have A:=λG=>i x (pay-Aa P (w*lN h.ps+k)) G (by lia)
  simp[c,RK.NF,f,A,Bc];show _=x*max 0 (pay+Aa P (T*lN h.ps)-_)+0;rw[I,jK,jK]
 |GD x=>
  have f:=n x _ (by rw[c];rfl);have A:=λG=>i x (Aa P (An (lN h.ps) T (w+p.dl.toNat) (HE h p))+pay-Aa P (w*lN h.ps+k)) G (by lia)
  have Q:¬(("mill":Str)="town"):=by decide
  unfold Vy;simp[c,RK.NF,Q,f,A,Bc];show _=x*max 0 (pay+_-_)+0;rw[Int.add_comm pay,jK]
  rfl
 | RA b r q=>
  have f:=n b _ (by rw[c];rfl);obtain⟨K,C,bK,sK⟩:∃K:Int,(if w+1=T then LH else 0)+Aa P (An (lN h.ps) T (w+1) (u7 k))=K/\(-1000000000<=K/\K<=1000000000)/\∀a b c d e,V6 [a,zF ((Bf P (lN h.ps) T).map tupI),zI (w:Int),zI (k:Int),b,zI LH,c,d,e,u8,u8,u8] G=Vn [a,zF ((Bf P (lN h.ps) T).map tupI),zI (w:Int),zI (k:Int),b,zI LH,c,d,e,zI K,u8,u8] G:=by
   unfold An V6 dZ;by_cases z:w+1<T
   .have F:=J z;rw[show((w+1:Nat):Int)=(w:Int)+1 by lia]at F;have lt:((w:Int)+1<(T:Int)):=by lia
    refine⟨Aa P ((w+1)*lN h.ps+k),?_,S _,λa b c d e=>?_⟩
    .dsimp only;rw[if_neg (by lia),if_neg (by lia),xK]
    generalize(Bf P (lN h.ps) T).map tupI=Z at*;simp[L,lt,F,pv z]
   have lt:¬((w:Int)+1<(T:Int)):=by lia
   refine⟨LH,?_,by lia,λa b c d e=>?_⟩
   .dsimp only;rw[if_pos (by lia),if_pos (by lia),I,jK]
   .generalize(Bf P (lN h.ps) T).map tupI=Z at*;simp[L,lt]
  have A:=λG=>i b (K-Aa P (w*lN h.ps+k)) G (by lia)
  have H:=s.kd;rw[c]at H;have U:¬(("basin":Str)="town"):=by decide
  have Y:¬(("basin":Str)="mill"):=by decide
  have N:∀G,Af p.enc (.int 6) G=.ok (KJ q) G:=λG=>by simp[RP.enc,RP.row,c,RK.rest]
  unfold Vy;simp[c,RK.NF,U,Y,sK];unfold Vn dY dX;cases q with
  |none=>
   simp[f,A,N,KJ,Bc];show _=0+(0+b*max 0 ((if w+1=T then LH else 0)+Aa P (An (lN h.ps) T (w+1) (u7 k))-Aa P (w*lN h.ps+k)));rw[C];lia
  |some z=>
   obtain⟨t,d,m⟩:=z;obtain⟨O,tb,tp⟩:=H.2 t d m rfl;have ti:(NC h).idxOf t<lN h.ps:=by have:=jL.mpr O;simpa[NC]using this
   have t2:∀G,J9 [.fl ((Bf P (lN h.ps) T).map tupI),.int ((w:Int)+d),.int ((NC h).idxOf t:Nat)] G=_:=M (o:=u7 _) (show 0<=d by lia) λj W=>by cases W;exact ti
   have bQ:=S (An (lN h.ps) T (w+d.toNat) (u7 ((NC h).idxOf t)));simp[f,A,N,KJ,λG=>LX B hp c O G,t2,λG=>i m (Aa P (An (lN h.ps) T (w+d.toNat) (u7 ((NC h).idxOf t)))-pay-Aa P (w*lN h.ps+k)) G (by lia),Bc];show _=0+(m*max 0 (-pay+Aa P (An (lN h.ps) T (w+d.toNat) (u7 ((NC h).idxOf t)))-Aa P (w*lN h.ps+k))+0+b*max 0 ((if w+1=T then LH else 0)+Aa P (An (lN h.ps) T (w+1) (u7 k))-Aa P (w*lN h.ps+k)))
   rw[C,Int.add_comm (-pay),<-Int.sub_eq_add_neg];lia
end
def EG{m:Type}[DecidableEq m]{c:List (m×D)}{k j:m}{v:D}:Fi (putD c k v) j=if j=k then u7 v else Fi c j:=by
 unfold putD;split
 .rename_i h
  induction c with
  |nil=>simp at h
  | cons p r n=>
   obtain⟨q,w⟩:=p;by_cases l:(r.any λa=>decide (a.1=k))=u9
   .have:=n l;by_cases i:q=k
    .by_cases b:j=k
     .simp[Fi,qj,i,b]
     have f:¬k=j:=λz=>b z.symm
     simp[Fi,qj,i,b,f]at this⊢;exact this
    by_cases b:q=j
    .have:¬j=k:=λz=>i (b.trans z)
     simp[Fi,qj,i,b,this]
    .simp[Fi,qj,i,b]at this⊢;exact this
   have o:q=k:=by simp only[j0,xj,decide_eq_true_eq]at h;exact h.resolve_right l
   subst o;have g:r.map (λa=>if a.1=q then(a.1,v)else a)=r:=by
    conv=>rhs;rw[<-List.map_id r]
    apply jJ;intro a d;rw[if_neg]
    .rfl
    .intro e;exact l (List.any_eq_true.mpr ⟨a,d,by simp[e]⟩)
   by_cases b:j=q
   .simp[Fi,qj,b]
   .have f:¬q=j:=λz=>b z.symm
    simp[zK,if_pos,g];simp[Fi,qj,b,f]
 rename_i h;have s:∀a∈c,a.1≠k:=λa d e=>h (List.any_eq_true.mpr ⟨a,d,by simp[e]⟩)
 unfold Fi;rw[List.find?_append];by_cases b:j=k
 .subst b;rw[if_pos rfl,List.find?_eq_none.mpr (λa d=>by simp[s a d])];simp
 .rw[if_neg b];have f:¬k=j:=λz=>b z.symm
  cases c.find? (λa=>decide (a.1=j))with
  |none=>simp[qj,f]
  |some w=>simp
structure Dv (KA:List (List Key×D)) (U:DU):Prop where
 i:∀kv∈KA,∃i:Int,kv.2=.int i
 v:∀w k:Nat,(Fi KA [.inl (w:Int),.inl (k:Int)]).getD (.int 0)=.int (U w k)
def Dv.put{a:List (List Key×D)}(h:Dv a U){U':DU}(f:∀w' k',U' w' k'=if w'=w/\k'=k then x else U w' k'):Dv (putD a [.inl (w:Int),.inl (k:Int)] (.int x)) U'/\lN (putD a [.inl (w:Int),.inl (k:Int)] (.int x))<=lN a+1:=by
 refine⟨⟨?_,λw' k'=>?_⟩,?_⟩
 .unfold putD;split
  .intro d b;obtain⟨q,c,rfl⟩:=qw.mp b;split
   .exact⟨x,rfl⟩
   exact h.i q c
  intro d b;rcases qz.mp b with c|c
  .exact h.i d c
  .rw[jS.mp c];exact⟨x,rfl⟩
 .rw[EG,f];by_cases z:w'=w/\k'=k
  .obtain⟨rfl,rfl⟩:=z;rw[if_pos rfl,if_pos ⟨rfl,rfl⟩]
   rfl
  rw[if_neg z,if_neg,h.v];intro e;simp at e;lia
 unfold putD
 split <;> simp
theorem VS(i j:Int):Ml [.int i,.int j]=u7 [.inl i,.inl j]:=rfl
def WS{c:List (List Key×D)}(h:Dv c U)(f:H[q]?=u7 (.YB c)){to ta tb:DE}{b:Nat}(ho:to S H=.ok (.ref q) H)(e:ta S H=.ok (.int (a:Int)) H)(d:tb S H=.ok (.int (b:Int)) H):K8 to (Ai ta (Ai tb Bb)) (dC (.int 0)) S H=.ok (.int (U a b)) H:=by
 have g:Mx (.ref q) H=u7 c:=by simp[Mx,f]
 unfold K8;rw[ho];simp[g,e,d,VS,h.v]
theorem jr{a:List (List Key×D)}(h:Dv a U)(r:lN a<1000000)(b:H[q]?=u7 (.YB a))(w:Nat)(c:Int)(o:Option Nat):∃UC,Dv UC (Fd U w o c)/\lN UC<=lN a+1/\Lb [.ref q,.int (w:Int),dN o,.int c] H=.ok .LA (H.set q (.YB UC)):=by
 cases o with
 | none=>
  refine⟨a,?_,by lia,?_⟩
  .have e:Fd U w u8 c=U:=by funext d f;exact if_neg λz=>by cases z.2
   rw[e];exact h
  have e:H.set q (.YB a)=H:=by
   apply j5;intro n;rw[jw];split
   .rename_i z;subst z;obtain⟨p,t⟩:=zZ.mp b;rw[if_pos p,b]
   rfl
  rw[e];unfold Lb Ws dN;rw[Aj];simp[Bc]
 | some i=>
  have s:=WS h b (S:=[zR q,zI (w:Int),zI (i:Int),zI c]) (to:=dV 0) (ta:=dV 1) (tb:=dV 2) rfl rfl rfl;obtain⟨m,l⟩:=h.put (U':=Fd U w (u7 i) c) λd f=>by
   unfold Fd;by_cases z:d=w/\f=i
   .obtain⟨rfl,rfl⟩:=z;rw[if_pos ⟨rfl,rfl⟩,if_pos ⟨rfl,rfl⟩]
   rw[if_neg z,if_neg λy=>z ⟨y.1,(Option.some.inj y.2).symm⟩]
  refine⟨_,m,l,?_⟩;have k:Ly (.ref q) [.int (w:Int),.int (i:Int)] (.int (U w i+c)) H=.ok .LA (H.set q (.YB (putD a [.inl (w:Int),.inl (i:Int)] (.int (U w i+c))))):=by unfold Ly;simp[b,VS,r]
  have g:tidy H (.ok .LA (H.set q (.YB (putD a [.inl (w:Int),.inl (i:Int)] (.int (U w i+c))))))=.ok .LA (H.set q (.YB (putD a [.inl (w:Int),.inl (i:Int)] (.int (U w i+c))))):=Hv (by simp) rfl;generalize putD a [.inl (w:Int),.inl (i:Int)] (.int (U w i+c))=j,U w i=u at*;unfold Lb Ws dN;rw[Aj];simp[s,Mu,k,g]
def dE(cm:List (List Int))(k j:Nat):DU:=λw' k'=>if(k'<k/\w'<5)\/(k'=k/\w'<j)then Aa (cm.getD k' []) w' else 0
def EH:dE cm k 5=dE cm (k+1) 0:=by
 funext b a;unfold dE;by_cases z:(a<k/\b<5)\/(a=k/\b<5)
 .rw[if_pos z,if_pos (by lia)]
 rw[if_neg z,if_neg (by lia)]
theorem js{k:Nat}(hk:cm[k]?=u7 r)(o:lN r=5):∀(m j:Nat)(a:List (List Key×D))(c:Option D),j+m=5->Dv a (dE cm k j)->lN a+m<=100000->∃(UC:List (List Key×D))(p:Option D),Dv UC (dE cm k 5)/\lN UC<=lN a+m/\
  Av (gV 3) Ov (Al (j:Int) m) [u7 (QB ly cm),zR (lN G),zI (k:Int),c] (G++[.YB a])=.nx [u7 (QB ly cm),zR (lN G),zI (k:Int),p] (G++[.YB UC])
 |0,j,a,c,e,d,t=>⟨a,c,by rw[show j=5 by lia]at d;exact d,by lia,by rw[Ew,Ea]⟩
 | m+1,j,a,c,e,d,t=>by
  have w:cm.getD k []=r:=by rw[zY,hk];rfl
  obtain⟨B,H⟩:=d.put (w:=j) (k:=k) (x:=Aa r j) (U':=dE cm k (j+1)) λh g=>by
   unfold dE;by_cases z:h=j/\g=k
   .obtain⟨rfl,rfl⟩:=z;rw[if_pos (.inr ⟨rfl,by lia⟩),if_pos ⟨rfl,rfl⟩,w]
   rw[if_neg z];by_cases l:(g<k/\h<5)\/(g=k/\h<j)
   .rw[if_pos l,if_pos (by lia)]
   rw[if_neg l,if_neg (by lia)]
  have y:Ly (.ref (lN G)) [.int (j:Int),.int (k:Int)] (.int (Aa r j)) (G++[.YB a])=.ok .LA (G++[.YB (putD a [.inl (j:Int),.inl (k:Int)] (.int (Aa r j)))]):=by
   unfold Ly;have:lN a<1000000:=by lia
   simp[VS,this]
  generalize putD a [.inl (j:Int),.inl (k:Int)] (.int (Aa r j))=b at*;have x:∀G,Af (QB ly cm) (.int 1) G=.ok (.tup (cm.map tupI)) G:=λG=>by simp[QB]
  have u:MC (cm.map tupI) (k:Int)=zT (r.map D.int):=Ce rfl (by rw[zj,hk];rfl);have q:=H9 (xs:=r) (i:=j) (by lia);have v:Ov [u7 (QB ly cm),zR (lN G),zI (k:Int),zI (j:Int)] (G++[.YB a])=.nx [u7 (QB ly cm),zR (lN G),zI (k:Int),zI (j:Int)] (G++[.YB b]):=by generalize Aa r j=J,cm.map tupI=C,QB ly cm=I,r.map D.int=F at*;unfold Ov;simp[x,u,q,Mu,y]
  obtain⟨f,n,s,E,A⟩:=js hk o m (j+1) b (zI (j:Int)) (by lia) B (by lia);refine⟨f,n,s,by lia,?_⟩;rw[Eh,Ck];simp[Cg,R.Cr,qF,v,Dk];exact A
theorem jt(d:∀r∈cm,lN r=5):∀(m k:Nat)(a:List (List Key×D))(g b:Option D),k+m=lN cm->Dv a (dE cm k 0)->lN a+5*m<=100000->∃(UC:List (List Key×D))(u f:Option D),Dv UC (dE cm (lN cm) 0)/\lN UC<=lN a+5*m/\
  Av (gV 2) Oe (Al (k:Int) m) [u7 (QB ly cm),zR (lN G),g,b] (G++[.YB a])=.nx [u7 (QB ly cm),zR (lN G),u,f] (G++[.YB UC])
 |0,k,a,g,b,e,h,s=>⟨a,g,b,by rw[show k=lN cm by lia]at h;exact h,by lia,by rw[Ew,Ea]⟩
 |m+1,k,a,g,b,e,h,s=>by
  obtain⟨r,hk⟩:∃r,cm[k]?=u7 r:=⟨_,zJ (by lia)⟩;obtain⟨c,f,n,y,p⟩:=js hk (d r (zU hk)) 5 0 a b (by lia) h (by lia);rw[EH]at n;have i:Av (gV 3) Ov (Al 0 5) [u7 (QB ly cm),zR (lN G),zI (k:Int),b] (G++[.YB a])=_:=p;have l:inR 5:=Ds (by decide) (by decide);have t:Oe [u7 (QB ly cm),zR (lN G),zI (k:Int),b] (G++[.YB a])=.nx [u7 (QB ly cm),zR (lN G),zI (k:Int),f] (G++[.YB c]):=by generalize QB ly cm=z at*;unfold Oe;simp[l,i]
  obtain⟨j,w,o,q,x,v⟩:=jt d m (k+1) c (zI (k:Int)) f (by lia) n (by lia);refine⟨j,w,o,q,by lia,?_⟩;rw[Eh,Ck];simp[Cg,R.Cr,qF,t,Dk];exact v
def ju(c:∀r∈cm,lN r=5)(y:lN cm<=100)(G:DH):∃a,Dv a (D0 cm)/\lN a<=500/\O2 [QB ly cm] G=.ok (.ref (lN G)) (G++[.YB a]):=by
 have v:Dv [] (dE cm 0 0):=by
  refine⟨λj h=>(by cases h),λw k=>?_⟩;have:¬((k<0/\w<5)\/(k=0/\w<0)):=by lia
  show D.int 0=.int (dE cm 0 0 w k);unfold dE;rw[if_neg this]
 obtain⟨a,A,x,g,p,t⟩:=jt c (lN cm) 0 [] u8 u8 (by lia) v (by simp;lia);have m:dE cm (lN cm) 0=D0 cm:=by
  funext w k;unfold dE D0;by_cases z:w<5
  .rw[if_pos z];by_cases E:k<lN cm
   .rw[if_pos (by lia)]
   rw[if_neg (by lia),zY,zC (by lia)]
   rfl
  rw[if_neg z,if_neg (by lia)]
 rw[m]at g;refine⟨a,g,by simp at p;lia,?_⟩;have d:Av (gV 2) Oe (Al 0 (lN cm)) [u7 (QB ly cm),zR (lN G),u8,u8] (G++[.YB []])=_:=t;have s:∀G,Af (QB ly cm) (.int 1) G=.ok (.tup (cm.map tupI)) G:=λG=>by simp[QB]
 have b:∀G,Ar [.tup (cm.map tupI)] G=.ok (.int (lN cm)) G:=λG=>by simp
 have o:inR (lN cm:Int):=Ds (by lia) (by lia);have u:Ij (lN G) (.YB a)=u9:=by
  exact Ek λj f=>by obtain⟨i,q⟩:=g.i j f;rw[q];rfl
 have l:tidy G (.ok (.ref (lN G)) (G++[.YB a]))=.ok (.ref (lN G)) (G++[.YB a]):=by
  unfold tidy;have e:(G++[DO.YB a])[lN G]?=u7 (.YB a):=by simp
  simp[e,u]
 generalize cm.map tupI=C,QB ly cm=B,lN cm=n at*;unfold O2 d9;rw[Aj];simp[Sv,s,b,o,d,l]
def Vf(c a m:Int)(d:0<=a)(e:0<=m):∃i:Int,(0<=i/\i<=a/\i<=m)/\∀G,J7 [.int c,.int a,.int m] G=.ok (.int i) G:=by
 have b:∀(x y z w:Int)(G:DH),freeze G (.ok (.ref (lN G)) (G++[.lst [.int x,.int y,.int z,.int w]]))=.ok (.fl [.int x,.int y,.int z,.int w]) G:=λx y z w G=>Be rfl
 rcases(by lia:c%4=0\/c%4=1\/c%4=2\/c%4=3)with h|h|h|h
 .refine⟨min a m,by lia,λG=>?_⟩;unfold J7 O6;rw[Aj];simp[Ac,b,h,Bc]
 .refine⟨0,by lia,λG=>?_⟩;unfold J7 O6;rw[Aj];simp[Ac,b,h,Bc]
 .refine⟨min a m/2,by lia,λG=>?_⟩;unfold J7 O6;rw[Aj];simp[Ac,b,h,Bc]
 refine⟨min (min a m) 1,by lia,λG=>?_⟩;unfold J7 O6;rw[Aj];simp[Ac,b,h,Bc]
def Lv(i:Int)(G:DH):freeze G (.ok (.int i) G)=.ok (.int i) G:=Jv rfl
theorem EI(e:KG ns p.kd){lay came:Int}(g:0<=lay+came)(cell:Int):∃r:R6,r.a=came/\UI p lay r/\∀G,Le [p.enc,.int lay,.int came,.int cell] G=.ok r.enc G:=by
 have h:¬(("basin":Str)="town"):=by decide
 have l:¬(("basin":Str)="mill"):=by decide
 have u:¬(("mill":Str)="town"):=by decide
 obtain⟨nm,dn,v,kd⟩:=p;cases kd with
 |YC a b=>
  have e:=e;obtain⟨i,c,f⟩:=Vf cell (lay+came) a g e;refine⟨⟨came,i,0,lay+came-i,0,0⟩,rfl,⟨c.1,by dsimp only;lia,qY _,qY _,by dsimp only;lia,c.2.2,rfl,rfl⟩,λG=>?_⟩;unfold Le Pj Ny RP.enc RP.row RK.rest RK.NF R6.enc;rw[Aj];simp[f,Lv,Bc]
 |GD a=>
  have e:=e;refine⟨⟨came,0,0,lay+came,0,0⟩,rfl,⟨qY _,g,qY _,qY _,by dsimp only;lia,e,rfl,rfl,rfl⟩,λG=>?_⟩;unfold Le Pj Ny Ra RP.enc RP.row RK.rest RK.NF R6.enc;rw[Aj];simp[u,Bc]
 | RA b r q=>
  obtain⟨n,o⟩:=e;obtain⟨i,c,f⟩:=Vf (cell/4) (lay+came) b g n;cases q with
  |none=>
   refine⟨⟨came,0,0,lay+came-i-0,0,i⟩,rfl,⟨qY _,by dsimp only;lia,qY _,c.1,by dsimp only;lia,rfl,c.2.2,rfl⟩,λG=>?_⟩;unfold Le Pj Ny Ra Wo Z9 Xq We RP.enc RP.row RK.rest RK.NF R6.enc KJ;rw[Aj];simp[h,l,f,Lv,Bc]
  |some q=>
   obtain⟨t,d,m⟩:=q;obtain⟨j,k,s⟩:=Vf (cell/16) (lay+came-i) m (by lia) (o t d m rfl).2.2;refine⟨⟨came,0,0,lay+came-i-j,j,i⟩,rfl,⟨qY _,by dsimp only;lia,k.1,c.1,by dsimp only;lia,rfl,c.2.2,k.2.2⟩,λG=>?_⟩;unfold Le Pj Ny Ra Wo Z9 Xq We RP.enc RP.row RK.rest RK.NF R6.enc KJ;rw[Aj];simp[h,l,f,s,Lv,Bc]
def fzR(r:R6)(G:DH):freeze G (.ok r.enc G)=.ok r.enc G:=Jv (by simp[R6.enc])
def EJ{o:Option Nat}:Fd U w o 0=U:=by
 funext b a;unfold Fd
 split <;> lia
def kA(h:∀w k,0<=U w k){o:Option Nat}(a:0<=c):∀w' k',0<=Fd U w o c w' k':=λw' k'=>by
 have:=h w' k';unfold Fd
 split <;> lia
theorem EK(c:∀w k,0<=U w k){l:Int}{r:R6}(ok:UI p l r):∀w' k',0<=Ht h w p r U w' k':=by
 have a:=kA c (w:=w+p.dl.toNat) (o:=HE h p) ok.d0;unfold Ht;cases p.kd with
 |RA b s q=>
  cases q with
  |none=>exact a
  |some z=>obtain⟨t,d,m⟩:=z;exact kA a ok.e0
 |_=>exact a
def EL{l:List Int}(h:k<lN l):Lg (Aa l) k x=Aa (l.set k x):=by
 funext j;unfold Lg Aa;simp[zY];by_cases e:j=k
 .subst e;rw[qZ h,if_pos rfl]
  rfl
 rw[zw λz=>e z.symm,if_neg e]
def EM(g:HG h)(hn:lN h.ps<=100){f:List Int}(hw:fl[w]?=u7 f)(hf:lN f=lN h.ps)(f0:∀x∈f,0<=x)(hp:h.ps[k]?=u7 p){lay:List Int}(hlay:lN lay=lN h.ps)(l0:∀k,0<=Aa lay k){pg:List R6}(hpg:lN pg<=1000){n:List (List Key×D)}(hd:Dv n U)(u0:∀w k,0<=U w k)(hkl:lN n<=100000)
  {H:DH} {q a r:Nat} (Y:H[q]?=u7 (.YB n)) (X:H[a]?=u7 (.lst (lay.map D.int))) (h3:H[r]?=u7 (.lst (pg.map R6.enc))) (qa:q≠a) (qr:q≠r) (ar:a≠r) {s1 s6 x10 x11 x12:Option D} {cell:Int}:
  ∃(UC:List (List Key×D)) (v:R6) (T P W:Option D),Dv UC (Ht h w p v U)/\lN UC<=lN n+2/\v.a=Aa f k+U w k/\UI p (Aa lay k) v/\
   N5 [u7 h.enc,s1,zF (fl.map tupI),zI cell,zR q,zR a,s6,zI (w:Int),zR r,zI (k:Int),x10,x11,x12] H=
    .nx [u7 h.enc,s1,zF (fl.map tupI),zI cell,zR q,zR a,s6,zI (w:Int),zR r,zI (k:Int),T,P,W] (((H.set q (.YB UC)).set a (.lst ((lay.set k v.f).map D.int))).set r (.lst ((pg++[v]).map R6.enc))):=by
 have hk:=(zZ.mp hp).1;have F:=g.pg k p hp;have dl0:=F.dl.1;have o1:∀G,Af h.enc (.int 1) G=.ok (.tup (h.ps.map RP.enc)) G:=λG=>Dq
 have ap:=Hj hp;have af:MC (fl.map tupI) (w:Int)=zT (f.map D.int):=Ce rfl (by rw[zj,hw];rfl);have J:=H9 (xs:=f) (i:=k) (by lia);have N:=H9 (xs:=lay) (i:=k) (by lia);have hg:=WS hd Y (S:=[u7 h.enc,s1,zF (fl.map tupI),zI cell,zR q,zR a,s6,zI (w:Int),zR r,zI (k:Int),u7 p.enc,x11,x12]) (to:=dV 4) (ta:=dV 7) (tb:=dV 9) rfl rfl rfl;have A:(0:Int)<10007+30*(k:Int)+2*(w:Int):=by lia
 have nf:=Hl (qY _) f0 k;obtain⟨v,va,ok,y⟩:=EI F.kd (lay:=Aa lay k) (came:=Aa f k+U w k) (by have:=l0 k;have:=u0 w k;lia) (cell*48271%(10007+30*(k:Int)+2*(w:Int)));have l:=λG=>iV g hn hp G
 obtain⟨C,e1,l1,E⟩:=jr hd (by lia) Y (w+p.dl.toNat) v.d (HE h p);rw[show((w+p.dl.toNat:Nat):Int)=(w:Int)+p.dl by lia]at E;have p3:∀G,Af p.enc (.int 3) G=.ok (.int p.dl) G:=λG=>VQ
 have v3:∀G,Af v.enc (.int 3) G=.ok (.int v.d) G:=λG=>by simp[R6.enc]
 have v4:∀G,Af v.enc (.int 4) G=.ok (.int v.e) G:=λG=>by simp[R6.enc]
 have v5:∀G,Af v.enc (.int 5) G=.ok (.int v.f) G:=λG=>by simp[R6.enc]
 have M:lN (pg.map R6.enc)<1000000:=by rw[zq];lia
 have K:∀j:List (List Key×D),(H.set q (.YB j))[a]?=u7 (.lst (lay.map D.int))/\((H.set q (.YB j)).set a (.lst ((lay.set k v.f).map D.int)))[r]?=u7 (.lst (pg.map R6.enc)):=λj=>by rw[zw qa,zw ar,zw qr];exact⟨X,h3⟩
 have i0:PJ (lN (lay.map D.int)) (k:Int)=u7 k:=Nm (by rw[zq];lia);have eS:(lay.map D.int).set k (.int v.f)=(lay.set k v.f).map D.int:=by rw[xU]
 have B:=ok.kd;by_cases he:0<v.e
 .obtain⟨b,rr,t,I,m,c⟩:∃b rr t d m,p.kd=.RA b rr (u7 (t,d,m)):=by
   cases c:p.kd with
   |RA b s o=>
    cases o with
    |none=>simp[c]at B;lia
    |some z=>obtain⟨t,d,m⟩:=z;exact⟨b,s,t,d,m,rfl⟩
   |_=>simp[c]at B;lia
  have kg:=F.kd;rw[c]at kg;obtain⟨tm,td,_⟩:=kg.2 t I m rfl;have O:=λG=>LX hn hp c tm G
  obtain⟨j,e2,l2,u⟩:=jr e1 (by lia) (qZ (zZ.mp Y).1) (w+I.toNat) v.e (u7 ((NC h).idxOf t));rw[vQ,show((w+I.toNat:Nat):Int)=(w:Int)+I by lia]at u;have u:Lb [.ref q,.int ((w:Int)+I),.int ((NC h).idxOf t:Nat),.int v.e] (H.set q (.YB C))=_:=u;obtain⟨k1,k2⟩:=K j;have p6:∀G,Af p.enc (.int 6) G=.ok (.tup [.str t,.int I,.int m]) G:=λG=>by unfold RP.enc RP.row RK.rest;rw[c];simp[KJ]
  have eq:Ht h w p v U=Fd (Fd U (w+p.dl.toNat) (HE h p) v.d) (w+I.toNat) (u7 ((NC h).idxOf t)) v.e:=by
   unfold Ht;rw[c]
   rfl
  refine⟨j,v,u7 p.enc,zI (Aa f k+U w k),u7 v.enc,eq▸e2,by lia,va,ok,?_⟩;rw[qQ,zK,qV];generalize Aa lay k=lk,Aa f k=fk,U w k=uk,(NC h).idxOf t=ix,dN (HE h p)=dnd,(lay.set k v.f).map D.int=Z,lay.map D.int=LY,pg.map R6.enc=PG,fl.map tupI=FL,h.ps.map RP.enc=PS,f.map D.int=FI,hve:v.enc=L,hpe:p.enc=pe,h.enc=Q at*;have fz:freeze H (.ok L H)=.ok L H:=by rw[<-hve];exact fzR v H
  unfold N5;simp[o1,ap,af,J,X,N,hg,A,y,fz,l,p3,v3,E,v4,he,p6,O,u,v5,ON,k1,i0,eS,k2,M]
 obtain⟨k1,k2⟩:=K C;have ez:v.e=0:=by have:=ok.e0;lia
 have eq:Ht h w p v U=Fd U (w+p.dl.toNat) (HE h p) v.d:=by
  unfold Ht;cases p.kd with
  | RA b s o=>
   cases o with
   |none=>rfl
   |some z=>
    obtain⟨t,d,m⟩:=z;show Fd _ _ _ v.e=_;rw[ez,EJ]
  |_=>rfl
 refine⟨C,v,u7 p.enc,zI (Aa f k+U w k),u7 v.enc,eq▸e1,by lia,va,ok,?_⟩;rw[qQ,zK,qV];generalize Aa lay k=lk,Aa f k=fk,U w k=uk,dN (HE h p)=dnd,(lay.set k v.f).map D.int=Z,lay.map D.int=LY,pg.map R6.enc=PG,fl.map tupI=FL,h.ps.map RP.enc=PS,f.map D.int=FI,hve:v.enc=L,hpe:p.enc=pe,h.enc=Q at*;have fz:freeze H (.ok L H)=.ok L H:=by rw[<-hve];exact fzR v H
 unfold N5;simp[o1,ap,af,J,X,N,hg,A,y,fz,l,p3,v3,E,v4,he,v5,ON,k1,i0,eS,k2,M]
section
variable{h:RH}{fl:List (List Int)}{s1:Option D}{cell:Int}
structure RwB (H0 H:DH) (q a r:Nat) (n m:Nat) (KA:List (List Key×D)) (lay:List Int) (U:DU) (pg:List R6) (kl:Nat):Prop where
 len:lN H=lN H0
 old:∀i,i≠q->i≠a->i≠r->H[i]?=H0[i]?
 ll:lN lay=n
 l0:∀k,0<=Aa lay k
 dv:Dv KA U
 u0:∀w k,0<=U w k
 kl:lN KA<=kl+2*m
 h1:H[q]?=u7 (.YB KA)
 h2:H[a]?=u7 (.lst (lay.map D.int))
 h3:H[r]?=u7 (.lst (pg.map R6.enc))
theorem kB(g:HG h)(Q:lN h.ps<=100){f:List Int}(hw:fl[w]?=u7 f)(S:lN f=lN h.ps)(F:∀x∈f,0<=x){r:Nat}(z:q≠a)(M:q≠r)(I:a≠r){s6:Option D}:
  ∀(m k:Nat)(H:DH)(b:List (List Key×D))(lay:List Int)(U:DU)(pg:List R6)(x9 x10 x11 x12:Option D),k+m=lN h.ps->lN pg+m<=1000->lN b+2*m<=100000->RwB H H q a r (lN h.ps) 0 b lay U pg (lN b)->
  ∃(H':DH) (UC:List (List Key×D)) (c:List Int) (U':DU) (rs:List R6) (y9 o l n:Option D),RwB H H' q a r (lN h.ps) m UC c U' (pg++rs) (lN b)/\VI h w f k (h.ps.drop k) rs U (Aa lay) U' (Aa c)/\
   Av (gV 9) N5 (Al (k:Int) m) [u7 h.enc,s1,zF (fl.map tupI),zI cell,zR q,zR a,s6,zI (w:Int),zR r,x9,x10,x11,x12] H=
    .nx [u7 h.enc,s1,zF (fl.map tupI),zI cell,zR q,zR a,s6,zI (w:Int),zR r,y9,o,l,n] H'
 |0,k,H,b,lay,U,pg,x9,x10,x11,x12,e,_,_,B=>⟨H,b,lay,U,[],x9,x10,x11,x12,by rw[qX];exact B,by rw[xJ (by lia)];exact⟨rfl,rfl⟩,by rw[Ew,Ea]⟩
 | m+1,k,H,b,lay,U,pg,x9,x10,x11,x12,e,hp,hk,B=>by
  have p:k<lN h.ps:=by lia
  obtain⟨s,v,o,l,n,b1,b2,b3,N,Z⟩:=EM g Q hw S F (zJ p) B.ll B.l0 (by lia) B.dv B.u0 (by lia) B.h1 B.h2 B.h3 z M I (s1:=s1) (s6:=s6) (x10:=x10) (x11:=x11) (x12:=x12) (cell:=cell);have lq:=(zZ.mp B.h1).1;have Y:=(zZ.mp B.h2).1;have lr:=(zZ.mp B.h3).1;have O:=EL (x:=v.f) (show k<lN lay by rw[B.ll];exact p)
  have L:∀j,0<=Aa (lay.set k v.f) j:=λj=>by
   rw[<-O];have:=B.l0 j;have:=N.f0;unfold Lg
   split <;> lia
  generalize d:((H.set q (.YB s)).set a (.lst ((lay.set k v.f).map D.int))).set r (.lst ((pg++[v]).map R6.enc))=T at*;have W:lN T=lN H:=by rw[<-d];simp
  obtain⟨H',J,c,U',rs,X,A,E,K,C,P,hL⟩:=kB g Q hw S F z M I m (k+1) T s (lay.set k v.f) _ (pg++[v]) (zI (k:Int)) o l n (by lia) (by simp;lia) (by lia) ⟨rfl,λ_ _ _ _=>rfl,by rw[qH];exact B.ll,L,b1,EK B.u0 N,by lia,by rw[<-d,zw (Ne.symm M),zw (Ne.symm z),qZ lq],by rw[<-d,zw (Ne.symm I),qZ (by simpa using Y)],by rw[<-d,qZ (by simpa using lr)]⟩
  have cl:=C.kl;refine⟨H',J,c,U',v::rs,X,A,E,K,⟨C.len.trans W,λi t y u=>(C.old i t y u).trans ((λi t y u=>by rw[<-d,zw (Ne.symm u),zw (Ne.symm y),zw (Ne.symm t)]) i t y u),C.ll,C.l0,C.dv,C.u0,by lia,C.h1,C.h2,by rw[List.append_cons];exact C.h3⟩,?_,?_⟩
  .rw[zO p];exact⟨b3,N,O▸P⟩
  rw[Eh,Ck];simp[Cg,R.Cr,qF,Z,Dk];exact hL
def EN(g:HG h)(W:lN h.ps<=100){f:List Int}(hw:fl[w]?=u7 f)(Z:lN f=lN h.ps)(f0:∀x∈f,0<=x){c:Nat}(N:q≠a)(K:q≠c)(F:a≠c)(H:DH)(e:List (List Key×D))(lay:List Int)(U:DU)(b:List (List R6))(x8 x9 x10 x11 x12:Option D)(hl:lN lay=lN h.ps)(E:∀k,0<=Aa lay k)(hp:lN b<=1000)(hd:Dv e U)(M:∀w k,0<=U w k)(hk:lN e+200<=100000)(u:H[q]?=u7 (.YB e))(t:H[a]?=u7 (.lst (lay.map D.int)))(A:H[c]?=u7 (.lst (b.map PD))):
  ∃(H':DH) (UC:List (List Key×D)) (d:List Int) (U':DU) (pg:List R6) (T B l j m:Option D),lN H'=lN H+1/\(∀i,i<lN H->i≠q->i≠a->i≠c->H'[i]?=H[i]?)/\(lN d=lN h.ps/\∀k,0<=Aa d k)/\(Dv UC U'/\∀w k,0<=U' w k)/\lN UC<=lN e+200/\H'[q]?=u7 (.YB UC)/\H'[a]?=u7 (.lst (d.map D.int))/\H'[c]?=u7 (.lst ((b++[pg]).map PD))/\VI h w f 0 h.ps pg U (Aa lay) U' (Aa d)/\
   Pa [u7 h.enc,s1,zF (fl.map tupI),zI cell,zR q,zR a,zR c,zI (w:Int),x8,x9,x10,x11,x12] H=
    .nx [u7 h.enc,s1,zF (fl.map tupI),zI cell,zR q,zR a,zR c,zI (w:Int),T,B,l,j,m] H':=by
 have app:∀{i:Nat}{o:DO},H[i]?=u7 o->(H++[DO.lst []])[i]?=u7 o:=λ{i o}z=>by rw[z9 (zZ.mp z).1];exact z
 obtain⟨I,s,r,Y,pg,B,l,j,m,C,P,hL⟩:=kB g W hw Z f0 N (zN ((zZ.mp u).1)) (zN ((zZ.mp t).1)) (lN h.ps) 0 (H++[.lst []]) e lay U [] x9 x10 x11 x12 (by lia) (by simp;lia) (by lia) ⟨rfl,λ_ _ _ _=>rfl,hl,E,hd,M,by lia,app u,app t,by simp⟩;rw[q9]at C;have J:I[c]?=u7 (.lst (b.map PD)):=by rw[C.old c (Ne.symm K) (Ne.symm F) (zN ((zZ.mp A).1))];exact app A
 have c9:=C.h3;have tn:tidy H (.ok (.ref (lN H)) (H++[.lst []]))=.ok (.ref (lN H)) (H++[.lst []]):=Dt rfl;have o1:∀G,Af h.enc (.int 1) G=.ok (.tup (h.ps.map RP.enc)) G:=λG=>Dq
 have p:∀G,Ar [.tup (h.ps.map RP.enc)] G=.ok (.int (lN h.ps)) G:=λG=>by simp
 have S:inR (lN h.ps:Int):=Ds (by lia) (by lia);have y:lN (b.map PD)<1000000:=by rw[zq];lia
 have v:Av (gV 9) N5 (Al 0 (lN h.ps)) [u7 h.enc,s1,zF (fl.map tupI),zI cell,zR q,zR a,zR c,zI (w:Int),zR (lN H),x9,x10,x11,x12] (H++[.lst []])=_:=hL;have ep:D.tup (pg.map R6.enc)=PD pg:=rfl;have cl:=C.kl;refine⟨I.set c (.lst ((b++[pg]).map PD)),s,r,Y,pg,zR (lN H),B,l,j,m,by rw[qH,C.len];simp,λi L X O i3=>?_,⟨C.ll,C.l0⟩,⟨C.dv,C.u0⟩,by lia,by rw[zw (Ne.symm K)];exact C.h1,by rw[zw (Ne.symm F)];exact C.h2,qZ ((zZ.mp J).1),P,?_⟩
 .rw[zw (Ne.symm i3),C.old i X O (zN L),z9 L]
 rw[qQ,zK,qV];generalize PD pg=PE,b.map PD=PG,fl.map tupI=FL,h.ps.map RP.enc=PS,lN h.ps=n,h.enc=he,hHl:lN H=Q at*;unfold Pa;simp[Ac,hHl,tn,o1,p,S,v,c9,ep,J,y]
theorem kC(g:HG h)(J:lN h.ps<=100)(s:∀f∈fl,lN f=lN h.ps/\∀x∈f,0<=x){c:Nat}(I:q≠a)(Q:q≠c)(M:a≠c):
  ∀(m w:Nat)(H:DH)(d:List (List Key×D))(lay:List Int)(U:DU)(b:List (List R6))(t x8 x9 x10 x11 x12:Option D),w+m=lN fl->(lN lay=lN h.ps/\∀k,0<=Aa lay k)->lN b+m<=1000->(Dv d U/\∀w k,0<=U w k)->lN d+200*m<=100000->H[q]?=u7 (.YB d)->H[a]?=u7 (.lst (lay.map D.int))->H[c]?=u7 (.lst (b.map PD))->
  ∃(H':DH) (j:List (List R6)) (y7 y E p o r:Option D),lN H<=lN H'/\(∀i,i<lN H->i≠q->i≠a->i≠c->H'[i]?=H[i]?)/\SF h w (fl.drop w) j U (Aa lay)/\H'[c]?=u7 (.lst ((b++j).map PD))/\
   Av (gV 7) Pa (Al (w:Int) m) [u7 h.enc,s1,zF (fl.map tupI),zI cell,zR q,zR a,zR c,t,x8,x9,x10,x11,x12] H=
    .nx [u7 h.enc,s1,zF (fl.map tupI),zI cell,zR q,zR a,zR c,y7,y,E,p,o,r] H'
 |0,w,H,d,lay,U,b,t,x8,x9,x10,x11,x12,e,A,hp,F,hk,O,N,C=>⟨H,[],t,x8,x9,x10,x11,x12,zv _,λ_ _ _ _ _=>rfl,by rw[xJ (by lia)];trivial,by rw[qX];exact C,by rw[Ew,Ea]⟩
 |m+1,w,H,d,lay,U,b,t,x8,x9,x10,x11,x12,e,A,hp,F,hk,O,N,C=>by
  have n:w<lN fl:=by lia
  obtain⟨f1,f2⟩:=s _ (qK n);obtain⟨H1,u,l,L,T,y,E,p,o,r,c1,c2,c3,c5,c6,X,c8,c9,P,hb⟩:=EN g J (zJ n) f1 f2 I Q M (s1:=s1) (cell:=cell) H d lay U b x8 x9 x10 x11 x12 A.1 A.2 (by lia) F.1 F.2 (by lia) O N C;obtain⟨H',j,Y,z8,Z,v,z,B,d1,d2,d3,d5,hL⟩:=kC g J s I Q M m (w+1) H1 u l L (b++[T]) (zI (w:Int)) y E p o r (by lia) c3 (by simp;lia) c5 (by lia) X c8 c9
  refine⟨H',T::j,Y,z8,Z,v,z,B,by lia,λi i0 K W S=>(d2 i (by lia) K W S).trans (c2 i i0 K W S),?_,by rw[List.append_cons];exact d5,?_⟩
  .rw[zO n];exact⟨L,Aa l,P,d3⟩
  rw[Eh,Ck];simp[Cg,R.Cr,qF,hb,Dk];exact hL
end
section
variable{h:RH}{ly left:List Int}{cm fl HA:List (List Int)}
def EO(g:GV h ly cm fl HA left)(cell:Int)(G:DH):∃d:List (List R6),SF h 0 fl d (D0 cm) (Aa ly)/\freeze G (Tw [h.enc,QB ly cm,.fl (fl.map tupI),.int cell] G)=.ok (.fl (d.map PD)) G:=by
 have S:=g.n5;have y:=g.WT;have u:=g.lv.1;have N:=g.cm.1;obtain⟨b,P,b2,p⟩:=ju (λr s=>(g.cm.2 r s).1) (by lia) (ly:=ly) G;have C:Bd 0:=⟨by decide,by decide⟩;have X:∀w k,0<=D0 cm w k:=λw k=>by
  unfold D0;split
  .refine(Hl C (λx l=>?_) w).1;rw[zY]at l;cases e:cm[k]? with
   |none=>rw[e]at l;cases l
   |some r=>rw[e]at l;exact(g.cm.2 r (zU e)).2 x l
  exact qY _
 obtain⟨j,d,y7,Y,y9,K,J,L,d1,I,E,B,O⟩:=kC g.hg (by lia) (λf v=>⟨(g.fr f v).1,λx l=>((g.fr f v).2 x l).1⟩) (q:=lN G) (a:=lN G+1) (c:=lN G+2) (by lia) (by lia) (by lia) (lN fl) 0 (G++[.YB b,.lst (ly.map D.int),.lst []]) b ly (D0 cm) [] u8 u8 u8 u8 u8 u8 (by lia) ⟨u,λk=>(Hl C g.lv.2 k).1⟩ (by simp;lia) ⟨P,X⟩ (by lia) (by simp) (by simp) (by simp);rw[q9]at B
 rw[jM]at E;refine⟨d,E,?_⟩;have t:Av (gV 7) Pa (Al 0 (lN fl)) [u7 h.enc,u7 (QB ly cm),zF (fl.map tupI),zI cell,zR (lN G),zR (lN G+1),zR (lN G+2),u8,u8,u8,u8,u8,u8] (G++[.YB b,.lst (ly.map D.int),.lst []])=_:=O;have o:j.take (lN G)=G:=by
  apply j5;intro i;by_cases A:i<lN G
  .rw[qx A,I i (by simp;lia) (by lia) (by lia) (by lia),z9 A]
  rw[zC (by simp;lia),zC (by lia)]
 have U:j=G++j.drop (lN G):=by have:=List.take_append_drop (lN G) j;rw[o]at this;exact this.symm
 have M:(j.drop (lN G))[2]?=u7 (.lst (d.map PD)):=by rw[List.getElem?_drop];exact B
 have z:MA (lN G) (d.map PD)=u9:=Ek λpg _=>by unfold PD;exact Ek λr _=>by simp[R6.enc]
 have H:tidy G (.ok (.ref (lN G+2)) j)=.ok (.ref (lN G)) (G++[.lst (d.map PD)]):=by rw[U];exact R9 (j.drop (lN G)) M z
 have F:∀G,Af (QB ly cm) (.int 0) G=.ok (.tup (ly.map D.int)) G:=λG=>by simp[QB,tupI]
 have T:tidy (G++[.YB b]) (.ok (.ref (lN G+1)) (G++[.YB b,.lst (ly.map D.int)]))=.ok (.ref (lN G+1)) (G++[.YB b,.lst (ly.map D.int)]):=Yo Gz;have W:tidy (G++[.YB b,.lst (ly.map D.int)]) (.ok (.ref (lN G+2)) (G++[.YB b,.lst (ly.map D.int),.lst []]))=.ok (.ref (lN G+2)) (G++[.YB b,.lst (ly.map D.int),.lst []]):=fZ rfl;have m:∀G,Ar [.fl (fl.map tupI)] G=.ok (.int (lN fl)) G:=λG=>by simp
 have s:inR (lN fl:Int):=Ds (by lia) (by lia);have Q:lN (ly.map D.int)<=1000000:=by simp;lia
 generalize fl.map tupI=FL,d.map PD=PG,ly.map D.int=Z,lN fl=n,QB ly cm=SE,h.enc=he at*;unfold Tw eN;rw[Aj];simp[Ac,p,F,T,W,m,s,t,H,Be z,Q]
def EQ(g:GV h ly cm fl HA left)(I:lN P=lN HA*lN h.ps)(B:∀v∈P,-1000000000<=v/\v<=1000000000){d:List (List Key×D)}(hd:Dv d (D0 cm))(Q:G[q]?=u7 (.YB d))(hw:w<lN HA)(hk:k<lN h.ps)(acc:Int)(x10:Option D):∃s,Ks [u7 h.enc,u7 (QB ly cm),zF (fl.map tupI),zF (KC HA),zT (left.map D.int),zF ((Bf P (lN h.ps) (lN HA)).map tupI),zR q,zI acc,zI (w:Int),zI (k:Int),x10] G=
  .nx [u7 h.enc,u7 (QB ly cm),zF (fl.map tupI),zF (KC HA),zT (left.map D.int),zF ((Bf P (lN h.ps) (lN HA)).map tupI),zR q,zI (acc+(Aa (Bx ly cm 0 fl) (w*lN h.ps+k)*Aa P (w*lN h.ps+k)+XN h (lN HA) left HA P w k)),zI (w:Int),zI (k:Int),s] G:=by
 have hn5:=g.n5;have C:=g.WT;have Z:=g.pn;have hp:=zJ hk;have m:=zJ hw;have a:w<lN fl:=by lia
 have l:=zJ a;obtain⟨yl,U⟩:=g.pr _ (qK hw);have L:=(g.fr _ (qK a)).1;have e:XN h (lN HA) left HA P w k=Ff P (TC h (lN HA) w k (Aa HA[w] k) (Aa left k) h.ps[k]):=by unfold XN;rw[hp,m]
 have b:=Wf (ly:=ly) (cm:=cm) hk fl 0 w a λz X=>(g.fr z X).1
 rw[qD,show fl.getD w []=fl[w] by rw[zY,l];rfl]at b;have n:=λG=>EF g.hg (by lia) (show lN HA<=100 by lia) I B hw hp (Hl (by lia) U k) (Hl (by lia) g.lf.2 k) G
 rw[<-e]at n;generalize XN h (lN HA) left HA P w k=AB,h.ps[k]=p,HA[w]=y,fl[w]=f at*;have t:MC ((Bf P (lN h.ps) (lN HA)).map tupI) (w:Int)=zT ((OG P (lN h.ps) w).map D.int):=Xp hw;have A:∀G,Af (.tup ((OG P (lN h.ps) w).map D.int)) (.int (k:Int)) G=.ok (.int (Aa P (w*lN h.ps+k))) G:=λG=>by rw[Jg (by rw[Qw I hw];exact hk),Uu hk]
 have u:MC (fl.map tupI) (w:Int)=zT (f.map D.int):=Ce rfl (by rw[zj,l];rfl);have E:=H9 (xs:=f) (i:=k) (by lia);have r:MC (KC HA) (w:Int)=zT (y.map D.int):=Ce rfl (by unfold KC;rw[zj,m];rfl);have H:=H9 (xs:=y) (i:=k) (by lia);have F:=H9 (g.lf.1▸hk);have T:=H9 (g.lv.1▸hk);have J:∀G,Af (QB ly cm) (.int 0) G=.ok (.tup (ly.map D.int)) G:=λG=>by simp[QB,tupI]
 have o:=WS hd Q (S:=[u7 h.enc,u7 (QB ly cm),zF (fl.map tupI),zF (KC HA),zT (left.map D.int),zF ((Bf P (lN h.ps) (lN HA)).map tupI),zR q,zI acc,zI (w:Int),zI (k:Int),x10]) (to:=dV 6) (ta:=dV 8) (tb:=dV 9) rfl rfl rfl;have bp:=Hl (by lia) B (w*lN h.ps+k);have x:∀(c:Int)(G:DH),Bq (.int c) (.int (Aa P (w*lN h.ps+k))) G=.ok (.int (c*Aa P (w*lN h.ps+k))) G:=λc G=>N6 (by lia) (by lia)
 have j:Aa (Bx ly cm 0 fl) (w*lN h.ps+k)=Aa f k+D0 cm w k+if w=0 then Aa ly k else 0:=b
 rw[j];clear j b e;by_cases z:w=0
 .rw[if_pos z];refine⟨zI (Aa f k+D0 cm w k+Aa ly k),?_⟩;rw[<-xL];generalize(OG P (lN h.ps) w).map D.int=PW,(Bf P (lN h.ps) (lN HA)).map tupI=Y,Aa P (w*lN h.ps+k)=pr,fl.map tupI=O,KC HA=PY,f.map D.int=M,y.map D.int=N,left.map D.int=LF,ly.map D.int=LI,QB ly cm=W,h.enc=he at*;subst z;have K:((0:Nat):Int)=0:=rfl;simp[K]at t u r o n⊢;unfold Ks;simp[t,A,u,E,r,H,F,T,J,o,x,n]
 rw[if_neg z,jK];refine⟨zI (Aa f k+D0 cm w k),?_⟩;rw[<-xL];generalize(OG P (lN h.ps) w).map D.int=PW,(Bf P (lN h.ps) (lN HA)).map tupI=Y,Aa P (w*lN h.ps+k)=pr,fl.map tupI=O,KC HA=PY,f.map D.int=M,y.map D.int=N,left.map D.int=LF,QB ly cm=W,h.enc=he at*;unfold Ks;simp[t,A,u,E,r,H,F,o,x,n,z]
theorem kD{he b f g c:D}(o:∀k,k<n->∀(acc:Int)(x10:Option D),∃a,Ks [u7 he,u7 b,u7 f,u7 g,u7 c,u7 d,zR q,zI acc,zI (w:Int),zI (k:Int),x10] G=.nx [u7 he,u7 b,u7 f,u7 g,u7 c,u7 d,zR q,zI (acc+F k),zI (w:Int),zI (k:Int),a] G):
  ∀(m k:Nat)(acc:Int)(x9 x10:Option D),k+m=n->∃j a,Av (gV 9) Ks (Al (k:Int) m) [u7 he,u7 b,u7 f,u7 g,u7 c,u7 d,zR q,zI acc,zI (w:Int),x9,x10] G=.nx [u7 he,u7 b,u7 f,u7 g,u7 c,u7 d,zR q,zI (acc+Ab m λi=>F (k+i)),zI (w:Int),j,a] G
 |0,k,acc,x9,x10,_=>⟨x9,x10,by rw[Ew,Ea];show _=SR.nx [_,_,_,_,_,_,_,zI (acc+0),_,_,_] G;rw[jK]⟩
 | m+1,k,acc,x9,x10,e=>by
  obtain⟨l,t⟩:=o k (by lia) acc x10;obtain⟨j,a,r⟩:=kD o m (k+1) (acc+F k) (zI (k:Int)) l (by lia);refine⟨j,a,?_⟩;rw[Eh,Ck];simp[Cg,R.Cr,qF,t,Dk];have p:((k:Int)+1)=((k+1:Nat):Int):=by lia
  have s:acc+Ab (m+1) (λi=>F (k+i))=acc+F k+Ab m λi=>F (k+1+i):=by
   rw[Kc,<-xL]
   exact congrArg (_ + ·) (Cu λi _=>by rw[qN,xQ])
  rw[p,r,s]
theorem kE{he c g j f:D}(n:∀w,w<T->∀(acc:Int)(x9 x10:Option D),∃b a,M4 [u7 he,u7 c,u7 g,u7 j,u7 d,u7 f,zR q,zI acc,zI (w:Int),x9,x10] G=.nx [u7 he,u7 c,u7 g,u7 j,u7 d,u7 f,zR q,zI (acc+F w),zI (w:Int),b,a] G):
  ∀(m w:Nat)(acc:Int)(x8 x9 x10:Option D),w+m=T->∃l b a,Av (gV 8) M4 (Al (w:Int) m) [u7 he,u7 c,u7 g,u7 j,u7 d,u7 f,zR q,zI acc,x8,x9,x10] G=.nx [u7 he,u7 c,u7 g,u7 j,u7 d,u7 f,zR q,zI (acc+Ab m λi=>F (w+i)),l,b,a] G
 |0,w,acc,x8,x9,x10,_=>⟨x8,x9,x10,by rw[Ew,Ea];show _=SR.nx [_,_,_,_,_,_,_,zI (acc+0),_,_,_] G;rw[jK]⟩
 | m+1,w,acc,x8,x9,x10,e=>by
  obtain⟨p,k,t⟩:=n w (by lia) acc x9 x10;obtain⟨l,b,a,r⟩:=kE n m (w+1) (acc+F w) (zI (w:Int)) p k (by lia);refine⟨l,b,a,?_⟩;rw[Eh,Ck];simp[Cg,R.Cr,qF,t,Dk];have o:((w:Int)+1)=((w+1:Nat):Int):=by lia
  have s:acc+Ab (m+1) (λi=>F (w+i))=acc+F w+Ab m λi=>F (w+1+i):=by
   rw[Kc,<-xL]
   exact congrArg (_ + ·) (Cu λi _=>by rw[qN,xQ])
  rw[o,r,s]
def ER(g:GV h ly cm fl HA left){f:List Int}(ok:MD (lN fl*lN h.ps) (ZC h (lN HA) left 0 HA) (Bx ly cm 0 fl) e f P)(G:DH):Qn [h.enc,QB ly cm,.fl (fl.map tupI),.fl (KC HA),.tup (left.map D.int),.fl ((Bf P (lN h.ps) (lN HA)).map tupI)] G=.ok (.int e) G:=by
 have J:=g.n5;have v:=g.WT;have t:=g.pn;have C:=g.cm.1;obtain⟨a,I,O,m⟩:=ju (λr q=>(g.cm.2 r q).1) (by lia) G;have y:(G++[DO.YB a])[lN G]?=u7 (.YB a):=by simp
 have A:∀G,Af h.enc (.int 1) G=.ok (.tup (h.ps.map RP.enc)) G:=λG=>Dq
 have B:∀G,Ar [.tup (h.ps.map RP.enc)] G=.ok (.int (lN h.ps:Int)) G:=λG=>by simp
 have q:inR (lN h.ps:Int):=Ds (by lia) (by lia);have p:inR (lN fl:Int):=Ds (by lia) (by lia);have l:∀G,Ar [.fl (fl.map tupI)] G=.ok (.int (lN fl)) G:=λG=>by simp
 have s:∀w,w<lN fl->∀(b:Int)(u c:Option D),∃o d,M4 [u7 h.enc,u7 (QB ly cm),zF (fl.map tupI),zF (KC HA),zT (left.map D.int),zF ((Bf P (lN h.ps) (lN HA)).map tupI),zR (lN G),zI b,zI (w:Int),u,c] (G++[.YB a])=
   .nx [u7 h.enc,u7 (QB ly cm),zF (fl.map tupI),zF (KC HA),zT (left.map D.int),zF ((Bf P (lN h.ps) (lN HA)).map tupI),zR (lN G),zI (b+Ab (lN h.ps) λk=>Aa (Bx ly cm 0 fl) (w*lN h.ps+k)*Aa P (w*lN h.ps+k)+XN h (lN HA) left HA P w k),zI (w:Int),o,d] (G++[.YB a]):=λw hw b u c=>by
  obtain⟨o,d,j⟩:=kD (F:=λk=>Aa (Bx ly cm 0 fl) (w*lN h.ps+k)*Aa P (w*lN h.ps+k)+XN h (lN HA) left HA P w k) (λk hk b c=>EQ g (by rw[ok.lp,t]) ok.pb I y (by lia) hk b c) (lN h.ps) 0 b u c (by lia);simp[qD]at j;refine⟨o,d,?_⟩;have i:Av (gV 9) Ks (Al 0 (lN h.ps)) _ (G++[.YB a])=_:=j;generalize Ab (lN h.ps) _=Q,(Bf P (lN h.ps) (lN HA)).map tupI=H,fl.map tupI=z,KC HA=M,left.map D.int=L,QB ly cm=E,h.ps.map RP.enc=Y,lN h.ps=n,h.enc=K at*
  unfold M4;simp[A,B,q,i]
 obtain⟨N,o,d,j⟩:=kE s (lN fl) 0 0 u8 u8 u8 (by lia);simp[qD,xK]at j;rw[<-EE g ok]at j;have i:Av (gV 8) M4 (Al 0 (lN fl)) _ (G++[.YB a])=_:=j;have x:tidy G (.ok (.int e) (G++[.YB a]))=.ok (.int e) G:=Jy rfl;generalize(Bf P (lN h.ps) (lN HA)).map tupI=H,fl.map tupI=z,KC HA=M,left.map D.int=L,QB ly cm=E,h.enc=K at*;unfold Qn da;rw[Aj];simp[m,l,p,i,x]
end
def kF{l:List (List Int)}:MA n (KC l)=u9:=Fe
section
variable{h:RH}{lv:List Int}{cm fl HA:List (List Int)}{left:List Int}{G:DH}
structure Pld (h:RH) (HA:List (List Int)) (T:Nat) (G:DH) (e:Int) (P:List Int) (d:D):Prop where
 dd:∃A,d=.tup [.int e,.fl A,.fl ((Bf P (lN h.ps) (lN HA)).map tupI)]
 fz:freeze G (.ok d G)=.ok d G
 sh:O9 [d,.int (T:Int),.int (lN h.ps:Int)] G=.ok (.bl u9) G
def QP(g:GV h lv cm fl HA left)(n:DO.tab "Sending" "send_by"∈G):∃(e:Int)(f P:List Int)(d:D),MD (lN fl*lN h.ps) (ZC h (lN HA) left 0 HA) (Bx lv cm 0 fl) e f P/\O3 [h.enc,QB lv cm,.fl (fl.map tupI),.fl (KC HA),.tup (left.map D.int)] G=.ok d G/\Pld h HA (lN fl) G e P d:=by
 have m:=g.n5;have k:=g.WT;have a:=g.pn;obtain⟨e,f,P,ok,cp⟩:=DW g (V1 g) (λs hs=>by obtain⟨_,o,l⟩:=Yk _ _ s hs;exact⟨by lia,l⟩) G n
 have b:∀r∈zQ (lN HA*lN h.ps) NA,lN r=6:=λr j=>by rw[List.eq_of_mem_replicate j];rfl
 obtain⟨i,c⟩:=Wn (MF h 0 (lN HA)) f _ b;refine⟨e,f,P,_,ok,cp,⟨_,rfl⟩,Jv (by
  show(u9&&(MA _ _&&(MA _ _&&u9)))=u9;rw[Q6,Fe]
  rfl),?_⟩
 rw[<-a];exact D5 (iX ..) (by simp[Bf]) (iY c (by rw[i,jY]) _ _ _ (by lia)) (λr j=>by obtain⟨w,hw,rfl⟩:=qw.mp j;exact Qw (by rw[ok.lp,a]) (qW.mp hw)) (by lia) (by lia) G
end
def ES{lo hi:Option Int}:∃xs:List Int,cutD (sc.map D.int) lo hi=xs.map D.int/\lN xs<=lN sc:=by refine⟨cutD sc lo hi,?_,sx _ _ _⟩;unfold cutD;rw[zq,List.map_take,List.map_drop]
theorem kG{a b c d e f g:Option D}(k:∀x:Int,Py [a,b,c,d,e,f,g,zI x] G=.nx [a,b,c,d,e,f,g,zI x] G):∀(xs:List Int)(i:Option D),∃j,Av (gV 7) Py (xs.map D.int) [a,b,c,d,e,f,g,i] G=.nx [a,b,c,d,e,f,g,j] G
 |[],i=>⟨i,rfl⟩
 |x::xs,i=>by obtain⟨j,l⟩:=kG k xs (zI x);refine⟨j,?_⟩;rw[zK,Ck];simp[k x];exact l
def ET(sc:List Int)(hs:lN sc<=63)(G:DH)(I:DO.tab "Sending" "send_by"∈G):Ky [.fl (sc.map D.int)] G=.ok (.bl u9) G:=by
 obtain⟨h,i,j,fl,a,left,b,Z⟩:=Co sc G;have Q:=b.n5;have s:=b.WT;have O:=b.pn;obtain⟨e,f,P,d,ok,cp,⟨PG,rfl⟩,ff,S⟩:=QP b I;have z:∀G,Ed [.fl (sc.map D.int),.int 2] G=.ok (.int (cellAt sc 2)) G:=λG=>Jj (by decide)
 have K:∀x:Int,Py [zF (sc.map D.int),u7 h.enc,u7 (QB i j),zF (fl.map tupI),zF (KC a),zT (left.map D.int),zT [.int e,.fl PG,.fl ((Bf P (lN h.ps) (lN a)).map tupI)],zI x] G=.nx [zF (sc.map D.int),u7 h.enc,u7 (QB i j),zF (fl.map tupI),zF (KC a),zT (left.map D.int),zT [.int e,.fl PG,.fl ((Bf P (lN h.ps) (lN a)).map tupI)],zI x] G:=λx=>by
  obtain⟨g,q,hp⟩:=EO b x G;obtain⟨u,r⟩:=q.len;have m:Pt h g a left:=⟨by lia,r,λl k=>⟨(b.pr l k).1,λy p=>by have:=(b.pr l k).2 y p;lia⟩,b.lf.1,λy p=>by have:=b.lf.2 y p;lia⟩;have A:=EA m (by lia) (by lia) G;have le:=Int.not_lt.mpr (ED b ok q);generalize WI h g a+WC h g left=er,g.map PD=PE,(Bf P (lN h.ps) (lN a)).map tupI=M,sc.map D.int=SC,fl.map tupI=E,KC a=PY,left.map D.int=X,QB i j=L,h.enc=U at*
  unfold Py;simp[hp,A,le]
 obtain⟨c,ex,lx⟩:=ES (sc:=sc) (lo:=u7 59) (hi:=u7 62);obtain⟨y7,t⟩:=kG K (cellAt sc 2::c) u8;rw[zK]at t;have J:=ER b ok G;have C:MA (lN G) [h.enc,QB i j,.fl (fl.map tupI),.fl (KC a),.tup (left.map D.int)]=u9:=by
  have o:TB (lN G) (QB i j)=u9:=by
   have o:TB (lN G) (tupI i)=u9:=by exact Gz
   unfold QB;simp[o,Fe]
  simp[o,Fe,kF,Gz]
 have fg:freeze G (.ok (.tup [h.enc,QB i j,.fl (fl.map tupI),.fl (KC a),.tup (left.map D.int)]) G)=.ok (.tup [h.enc,QB i j,.fl (fl.map tupI),.fl (KC a),.tup (left.map D.int)]) G:=Jv (by simpa[TB]using C);have z1:freeze G (.ok (.ref (lN G)) (G++[.lst (fl.map tupI)]))=.ok (.fl (fl.map tupI)) G:=Be Fe;have N:freeze G (.ok (.ref (lN G)) (G++[.lst (KC a)]))=.ok (.fl (KC a)) G:=Be kF;have w:freeze G (.ok (.ref (lN G)) (G++[.lst [.int (cellAt sc 2)]]))=.ok (.fl [.int (cellAt sc 2)]) G:=Be rfl
 have v:freeze G (.ok (.ref (lN G)) (G++[.lst (c.map D.int)]))=.ok (.fl (c.map D.int)) G:=Be Di;have W:freeze G (.ok (.ref (lN G)) (G++[.lst (.int (cellAt sc 2)::c.map D.int)]))=.ok (.fl (.int (cellAt sc 2)::c.map D.int)) G:=Be (Di);have lX:lN (c.map D.int)<=100:=by rw[zq];lia
 have F:Do (.fl [.int (cellAt sc 2)]) (.fl (c.map D.int)) G=.ok (.ref (lN G)) (G++[.lst (.int (cellAt sc 2)::c.map D.int)]):=by
  rw[M8,if_pos (by simp[zD,xM];lia)]
  rfl
 have u:lN (fl.map tupI)=lN fl:=by simp
 have r:lN (KC a)<=1000000:=by simp[KC];lia
 have B:lN (fl.map tupI)<=1000000:=by simp;lia
 have H:∀G,Af h.enc (.int 1) G=.ok (.tup (h.ps.map RP.enc)) G:=λG=>Dq
 have k:∀G,Ar [.tup (h.ps.map RP.enc)] G=.ok (.int (lN h.ps:Int)) G:=λG=>by simp
 generalize cellAt sc 2=cl,(Bf P (lN h.ps) (lN a)).map tupI=M,c.map D.int=XS,sc.map D.int=SC,fl.map tupI=E,lN fl=T,KC a=PY,left.map D.int=X,QB i j=L,h.ps.map RP.enc=Y,lN h.ps=n,h.enc=U at*;unfold Ky fU fR fQ fP fO;rw[Aj];simp[-M8,Z,fg,u,r,B,z1,N,cp,ff,H,k,S,z,Ac,w,ex,v,F,W,t,J,Bc]
def holds:Holds:=λa b=>⟨_,ET a b _ (by simp)⟩
end _W
set_option maxRecDepth 100000
namespace _W
open PySem PySem.W _L _D
def Qc:∀w,(openEnds wZ pw w 100000).map (λs=>(openSeen vw [] (vM pw.main.body) (WQ LJ vw) u9 s,Uv "Sending" "send_by" asks s.heap))=u7 (openGood vw [],Wz asks):=yP (by kernel_rfl) (λs=>rfl) kL
def walked:WalkO vw [] (XL vw []) (KI LJ.prog 100000) LJ.row.toRowW (YN Iz) [] λf vs=>qf f vs:=
 walk (l:=LJ) (K:=λw=>Cd (Gr pw 100000 w)) (T0:=λw=>Nf (Cd (Gr pw 100000 w)) (Ik (Cd (Gr pw 100000 w)) "Sending" "send_by")) rfl YQ holds (λw h Y=>⟨Y.in,Y _ _ (Xk (Prod.mk.inj (Ru Qc w)).1).2.2⟩) λw mg fa h KX G hmg=>all_mk KX G (show mg "law"=_ from hmg) (Xk (Prod.mk.inj (Ru Qc w)).1).1 (Xk (Prod.mk.inj (Ru Qc w)).1).2.1 (yC _) (dF (Prod.mk.inj (Ru Qc w)).2)
end _W
open PySem PySem.W PyProof.Rows _D
theorem PySem.Challenge.cw_sluiceway_k76_whole_no_plan_earns_more_holds : PySem.Challenge.rw_sluiceway_k76_whole_no_plan_earns_more.Holds := by
 refine holds_top (l:=_W.LJ) (q:=_W.vw) (loose:=[]) (N:=100000) (see:=Uv "Sending" "send_by" _W.asks) (val:=Wz _W.asks) (d:=YN _W.Iz) ?_ ?_ ?_ ?_ ?_ ?_ ?_ ?_ ?_ ?_
 .exact _W.well
 .exact _W.Qc
 .exact _W.MJ
 .exact _W.hp
 .exact _W.hk
 .rfl
 .exact _W.UA
 .exact _W.IU
 .exact _W.hw
 .exact _W.walked
