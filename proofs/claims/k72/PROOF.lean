import PyProof.Rows.All
import PySem.Challenge.RW_sluiceway_k72_a_plan_is_possible
import KE.KNestM
import KE.KIsAll
import KE.KSortTup
import KE.KLam
import Wide.FinOn
import Lean
set_option compiler.extract_closed false
set_option bootstrap.genMatcherCode false
set_option genSizeOf false
set_option Elab.async false
set_option linter.all false
set_option maxRecDepth 100000
open Option renaming some->uA,none->uB
open Bool renaming true->uC,false->uD
open PySem.W renaming Frag->za,nsIn->zb,findIn->zd,kla_fn->ze,instObj->zf,emptyDict->zg,codeHdIn->zh,kas_sort->zi,kia_one->qc,keepIn->qd,tabObj->qg,noTabs->qh,lookIn->qi,plainGet->ja,fnOf->jb,hasDictIn->ji,plainGet_of->xa,isFn->xf,takerIn->xg,callWith_K->xh,OpenLaw->vg,handedIn->wc,plainOver->wd,makesIn->we,methodCall_KW->wf,cellsFrom_some->wg,codeIn->wh,KasT->uy,codeHd_of_K->u4,katRev->u5,WalkO->u6
open PySem.F renaming slot_tuple_iterator_next->jd,slot_enumerate_next->je,slot_zip_next->jf,slot_dict_get->vb,slot_tuple_add->uQ,entry_tuple_add->uZ,args_tuple_add_2->uJ,entry_dict_get->uX,args_dict_get_3->uV,plainAttrs_list->uK,entry_tuple_iterator_next->uY,args_tuple_iterator_next_1->uq,entry_enumerate_next->uz,args_enumerate_next_1->uj,slot_enumerate_iter->ux,entry_zip_next->uv,args_zip_next_1->uw
open PySem renaming mem_of_lookup->zc,call->qe,Within->jg
open PyProof.Rows renaming callWith_type1->qa,slot_tuple_getitem->jc,boot_range->vf
open PyProof renaming noPylong_small->u1
open PySem.SeqAt.EqAt renaming int_str->vh,str_int->wa
open PySem.SeqAt renaming ne_of_list_tuple->uW
open PySem.Builtin.SmallTypes renaming nextOf->qf,ownedTupleIsFree->vc,ownedTupleHandOut->vd,newClass->u7,newRecord->u8,ownedTupleFields->u9
open PySem.Builtin.List renaming listTooLong->xi
open PySem.Builtin.Str renaming strSliceIndices->qb,occurrences->jh
open List renaming replicate->zQ,getElem?_eq_getElem->zZ,getElem?_eq_some_iff->zX,mem_cons_of_mem->zV,range->zW,getD_eq_getElem?_getD->zK,map_cons->zY,length_map->zq,getElem?_map->zv,mem_cons->zw,size_toArray->zk,mem_cons_self->zy,getElem?_set_ne->z0,getElem?_append_left->zC,length_cons->zE,mem_append_right->zG,length_append->zH,getElem?_eq_none->zM,getElem?_append_right->zO,mem_of_getElem?->zP,drop_eq_getElem_cons->zU,mem_append->qJ,append_nil->qV,append_assoc->qW,mem_map->qY,mem_range->qz,find?_cons->qj,map_append->qx,getElem_mem->qw,map_map->qk,map_nil->qy,replicate_succ->q0,getElem?_set_self->qA,getElem?_take_of_lt->qE,getElem?_range->qF,map_congr_left->qG,nil_append->qH,length_drop->qI,drop_of_length_le->qL,set->qM,length_take->qN,length_replicate->qO,getElem?_replicate->qP,mem_append_left->qT,range'->qU,length_set->jQ,range_succ_eq_map->jZ,zipIdx_cons->jJ,filterMap_cons->jX,eq_nil_of_length_eq_zero->jz,mem_singleton->jx,ext_getElem->jv,flatten_cons->jk,getElem?_set->jy,any_cons->j3,cons_append->j4,getElem?_cons_succ->j7,getElem_of_mem->j8,all_eq_true->j9,lookup_cons->jA,filterMap_map->jC,lookup->jE,all_cons->jH,getElem?_eq_none_iff->jI,reverse_cons->jL,ext_getElem?->jM,pairwise_iff_getElem->jN,forall_mem_cons->jO,drop_zero->jP,length->jS,range'_succ->jT,nodup_cons->xQ,length_nil->xZ,filterMap_eq_map'->xV,length_singleton->xW,length_range->xY,take_length->xj,forIn_cons->xw,idxOf_lt_length_iff->xA,getElem?_drop->xC,take_of_length_le->xE,drop_eq_nil_of_le->xF,singleton_append->xM,getElem_map->xN,take_append_drop->xO,range_succ->xS,map_set->vQ,drop_drop->vJ
open Nat renaming lt_of_lt_of_le->zj,le_refl->zx,le_trans->zN,ne_of_lt->qZ,lt_irrefl->qB,lt_succ_self->qC,mul_le_mul_right->qD,add_sub_cancel_left->qR,zero_add->qS,ne_of_gt->jw,succ_mul->j0,zero_le->j6,le_succ->jR,le_of_lt->jU,lt_of_succ_lt_succ->xJ,lt_succ_of_lt->xK,le_of_eq->xq,add_comm->xz,add_right_comm->xB,le_add_right->xH,add_assoc->xI,add_mul->xP,not_lt_zero->xR,mul_le_mul->vZ,one_mul->vV
open Int renaming le_refl->qK,mul_le_mul_of_nonneg_right->q9,natCast_mul->jW,mul_zero->jq,mul_nonneg->jB,emod_lt_of_pos->jD,natCast_add->jG,emod_nonneg->xX,add_zero->xD,sub_mul->xL,le_of_lt->xT,zero_add->xU,mul_add->vX
open Option renaming map_eq_some_iff->qX,isSome_iff_exists->xy
open Bool renaming false_ne_true->zL,and_eq_true->qQ,and_eq_true_iff->j5,or_eq_true->xk
open Array renaming length_toList->jV,getElem?_toList->jF
open PySem.Heap renaming get?_push_of_some->zJ,get?_push_size->zA,lt_size->zD,SameBut->jK,size_push->jY,get?_update_self->xG
open PySem renaming Addr->vW,Around->vK,Expr->vY,FuncData->vq,NameKind->vz,Program->vj,Scope->vx,Shared->vk,Stmt->vA,Value->vB,World->vC,assignEach->vD,attributeBase->vE,backTo->vF,backToKw->vG,behindInMarks->vH,binaryOp->vI,bootBuiltins->vL,codeAny_mono->vM,compareOp->vN,importedModules->vO,keywordEach->vP,letOwnedTupleGo->vR,mainGlobals->vS,model->vT,rawInt->vU,sizeLine_eq->wQ,sliceBounds->wZ,starEach->wW,treeTable->wK,wpAny->wq,wpAny_Call_Name_kw->wz,wpAny_bind->wj,wpAny_callSpecial?_slot->wx,wpAny_call_entry->wv,wpAny_field->ww,wpAny_holding->wk,wpAny_mono->w5,wpAny_newObj_type->w6,wpAny_passesOwn->w8,wpAny_pure->w9,wpAny_setField_rec->wD,wpAny_truthy_bool->wE
open PySem.W renaming Frag->wM,boot_heap->wO
set_option maxHeartbeats 0
open List renaming length -> lN
noncomputable section
namespace _L
open PySem PySem.Spec PyProof.Rows
noncomputable def Fw(s:vA):Arguments:=match s with
 |.FunctionDef _ a _ _ _ _ _ _ _ _=>a
 |_=>{posonlyargs:=[],args:=[],vararg:=uB,kwonlyargs:=[],kw_defaults:=[],kwarg:=uB,defaults:=[]}
noncomputable def Eg(s:vA):List vA:=match s with
 |.FunctionDef _ _ b _ _ _ _ _ _ _=>b
 |_=>[]
noncomputable def Bs(s:vA):vx:=match s with
 |.FunctionDef _ _ _ _ _ _ sc _ _ _=>sc
 |_=>{kind:=.function,names:=[],isGenerator:=uD,isCoroutine:=uD}
end _L
namespace _D
open PySem PySem.W _L
variable{h:Heap}{C:vW}{m x q:Str}{st:vA}{mg:Str->Option vB}
noncomputable def Ik:List Obj->Nat->wM
 |[],_=>[]
 |o::r,n=>match o.cls,o.data with
  |.none,.fields _=>Ik r (n+1)
  |_,.freed=>Ik r (n+1)
  |_,_=>(n,o)::Ik r (n+1)
def Bx(h:Heap):wM:=Ik h.objs.toList 0
noncomputable def YN(s:vA):DefRec:=match s with
 |Stmt.FunctionDef n a b _ _ _ s _ _ p=>⟨n,a,b,s,p⟩
 |_=>⟨Str.empty,⟨[],[],uB,[],[],uB,[]⟩,[],{kind:=.module,names:=[],isGenerator:=uD,isCoroutine:=uD,more:=[]},⟨0,0,0,0⟩⟩
noncomputable abbrev JR(l:OpenLaw)(q:vj)(s:vk):Bool:=xlAt q [] s&&recOk l.row.toRowW.records s
noncomputable def Ar(K:wM)(n:Str):vW:=match nsIn K vS n with
 |some (uA (.ref f))=>f
 |_=>0
noncomputable def GU(K:wM)(n:Str):Bool:=match nsIn K vS n with
 |some (uA (.ref _))=>uC
 |_=>uD
noncomputable def Ef(K:wM)(C:vW)(m:Str):vW:=match findIn K (.ref C) m with
 |some (uA (.ref f))=>f
 |_=>0
noncomputable def WY(K:wM)(C:vW)(m:Str):Bool:=match findIn K (.ref C) m with
 |some (uA (.ref f))=>isFn K (.ref f)
 |_=>uD
noncomputable def XY(K:wM)(C:vW)(m:Str):Bool:=match findIn K (.ref C) m with
 |some uB=>uC
 |_=>uD
noncomputable def ZY(K:wM)(n:Str):Bool:=match nsIn K vS n with
 |some uB=>uC
 |_=>uD
noncomputable def Uu(K:wM)(C:vW):Bool:=match findIn K (.ref C) "__setattr__" with
 |some (uA (.builtin s))=>s == "object.__setattr__"
 |_=>uD
noncomputable def GZ(K:wM)(n:Str)(v:Int):Bool:=match nsIn K vS n with
 |some (uA (.int u _))=>decide (u=v)
 |_=>uD
noncomputable def HZ(K:wM)(n:Str)(v:Str):Bool:=match nsIn K vS n with
 |some (uA (.str u _))=>decide (u=v)
 |_=>uD
noncomputable def Ge(K:wM)(f:vW):Obj:=match K.lookup f with
 |some o=>o
 |none=>⟨.none,uB,.plain,#[]⟩
def Bh(K:wM)(f:vW):vq:=match(Ge K f).data with
 |.func fd=>fd
 |_=>default
noncomputable def kA:vB->Bool
 |.none=>uC
 |_=>uD
noncomputable def kB:FuncBody->Option (List vA)
 |.stmts b=>uA b
 |_=>uB
def Ru(K:wM)(x q:Str)(f:vW):Bool:=match K.lookup f with
 |some ⟨_,_,.func fd,_⟩=>decide (fd.name=x)&&decide (fd.qualname=q)&&(fd.globals==vS&&fd.builtins==builtinsNs&&fd.closure.isEmpty&&kA fd.defaults)&&(codeIn K fd.code q&&keepIn K (.ref f))
 |_=>uD
noncomputable abbrev WD:=Arguments×Option (List vA)×vx
def Ka(K:wM)(f:vW):WD:=((Bh K f).params,kB (Bh K f).body,(Bh K f).scope)
def Jv(st:vA):WD:=(Fw st,uA (Eg st),Bs st)
noncomputable def ZJ(K:wM)(d:vB)(v:Int):Bool:=match d with
 | .ref T=>match K.lookup T with
  | some o=>(match o.data with
   |.seq a _=>(match a.toList with
    |[.int i _]=>decide (i=v)
    |_=>uD)
   |_=>uD)
  |none=>uD
 |_=>uD
def Vq(K:wM)(x q:Str)(f:vW)(v:Int):Bool:=match K.lookup f with
 |some ⟨_,_,.func fd,_⟩=>decide (fd.name=x)&&decide (fd.qualname=q)&&(fd.globals==vS&&fd.builtins==builtinsNs&&fd.closure.isEmpty&&ZJ K fd.defaults v)&&(codeIn K fd.code q&&keepIn K (.ref f))
 |_=>uD
noncomputable def strsOf:List vB->Option (List Str)
 |[]=>uA []
 |.str s _::r=>(strsOf r).map (s::·)
 |_::_=>uB
def Wq(K:wM)(n:Str)(vs:List Str):Bool:=match nsIn K vS n with
 | some (uA (.ref p))=>(match K.lookup p with
   |some ⟨.type t,_,.seq MA _,_⟩=>t == "tuple"&&decide (strsOf MA.toList=uA vs)&&Nat.ble (lN MA.toList) 1000
   |_=>uD)
 |_=>uD
def V1(K:wM)(n:Str)(JA:List (Str×Str)):Bool:=match nsIn K vS n with
 | some (uA (.ref p))=>(match K.lookup p with
   |some ⟨.type t,_,.dict es _,_⟩=>t == "dict" && !(p==sysModules)&&decide (strsOf (es.toList.map (·.key))=uA (JA.map (·.1)))&&decide (strsOf (es.toList.map (·.val))=uA (JA.map (·.2)))
   |_=>uD)
 |_=>uD
inductive Ask where
 |fn (n:Str) (st:vA)
 |mt (c m q:Str) (st:vA)
 |cl (c:Str)
 |no (c x:Str)
 |z (n:Str)
 |gi (n:Str) (v:Int)
 |gs (n v:Str)
 |gt (n:Str) (vs:List Str)
 |gd (n:Str) (JA:List (Str×Str))
 |ck (φ:wM->Bool)
 |fd (n:Str) (st:vA) (v:Int)
def Ask.NX(K:wM):Ask->Bool
 |.fn n _=>GU K n&&Ru K n n (Ar K n)
 |.mt c m q _=>WY K (Ar K c) m&&Ru K m q (Ef K (Ar K c) m)
 |.cl c=>GU K c&&(plainGet K (Ar K c) Str.empty&&hasDictIn K (Ar K c)&&plainOver K (Ar K c))&&(Uu K (Ar K c)&&makesIn K (Ar K c)&&keepIn K (.ref (Ar K c)))
 |.no c x=>XY K (Ar K c) x
 |.z n=>ZY K n
 |.gi n v=>GZ K n v
 |.gs n v=>HZ K n v
 |.gt n vs=>Wq K n vs
 |.gd n JA=>V1 K n JA
 |.ck φ=>φ K
 |.fd n _ v=>GU K n&&Vq K n n (Ar K n) v
def Ask.TF(K:wM):Ask->Option WD
 |.fn n _=>uA (Ka K (Ar K n))
 |.mt c m _ _=>uA (Ka K (Ef K (Ar K c) m))
 |.fd n _ _=>uA (Ka K (Ar K n))
 |_=>uB
def Ask.KR:Ask->Option WD
 |.fn _ st=>uA (Jv st)
 |.mt _ _ _ st=>uA (Jv st)
 |.fd _ st _=>uA (Jv st)
 |_=>uB
def IZ(l:List Ask)(h:Heap):Bool×List (Option WD):=(l.all (Ask.NX (Bx h)),l.map (Ask.TF (Bx h)))
noncomputable abbrev JZ(l:List Ask):Bool×List (Option WD):=(uC,l.map Ask.KR)
def Ii(K:wM)(c m:Str):vW:=match(Bh K (Ef K (Ar K c) m)).code with
 |.ref a=>a
 |_=>0
def Q0(K:wM)(c:vW):vW:=match(Ge K c).data with
 |.fields vs=>(match(vs[11]? :Option vB)with |some (.ref P)=>P|_=>0)
 |_=>0
noncomputable def kC:vB->Bool
 |.ref _=>uC
 |_=>uD
def Wb(c m:Str)(h:Heap):Bool:=kC (Bh (Bx h) (Ef (Bx h) (Ar (Bx h) c) m)).code&&codeHdIn (Bx h) (Ii (Bx h) c m) (Q0 (Bx h) (Ii (Bx h) c m)) &&
 (match h.get? (Q0 (Bx h) (Ii (Bx h) c m))with
  |some ⟨.none,uB,.fields vs,sl⟩=>vs.isEmpty&&sl.isEmpty
  |_=>uD)
def Xk(c m:Str)(l:List Ask)(h:Heap):Bool×Bool×List (Option WD):=(Wb c m h,IZ l h)
noncomputable abbrev Yd(l:List Ask):Bool×Bool×List (Option WD):=(uC,JZ l)
noncomputable def T6(p:vj)(w:vC)(n₀:Nat)(ann:Option vB):Nat->SharedT->Thread->Option SharedT
 |0,_,_=>uB
 | n+1,s,t=>match through t with
  |true=>uA s
  | false=>match PySem.W.Fast.tw6613529449190102663 n₀ ann t with
   |false=>uB
   |true=>match PySem.W.Fast.tw10156331382660048174 (PySem.W.Fast.tw11892475500146522536 PySem.W.Fast.tw14364793385576792824) p w s t with
    |some (s',t')=>T6 p w n₀ ann n s' t'
    |none=>uB
noncomputable def aA:List Obj->Nat->BT->BT
 |[],_,t=>t
 |o::r,n,t=>aA r (n+1) (t.ins n o)
def aB(w:vC)(os:OsState):SharedT:=⟨aA (wO w.params).objs.toList 0 .nil,(wO w.params).objs.size,(wO w.params).life,Array.mk [],boot_drawn,boot_toks,os⟩
def Wm(p:vj)(w:vC)(os:OsState):Option SharedT:=T6 p w (wO w.params).objs.size (PySem.W.Fast.tw8920871248978507458 (wO w.params) vS "__annotations__") 100000 (aB w os) (topStub p)
noncomputable def Vk(p:vj)(w:vC)(s:vk):Bool:=staticsOk (PySem.W.Fast.tw5923862056798008813 p.main.body) (wO w.params) s.heap&&namesBound p s.heap&&gensDone s&&laidKept (wO w.params) s.heap
def kD(h:PySem.W.Fast.tw9446332074065402090 l=uC):l.wellSaid=uC:=by rw[PySem.W.Fast.te9446332074065402090];exact h
noncomputable def KZ:vA:=.Pass ⟨0,0,0,0⟩
noncomputable def ZN:vA->Str×List vA
 |.ClassDef n [] _ b _ _ _ _ _ _ _=>(n,b)
 |_=>(Str.empty,[])
noncomputable def HU(n:Str)(s:vA):Ask:=match s with
 |.FunctionDef m _ _ _ _ _ _ _ _ _=>.mt n m (n++"."++m) s
 |_=>.ck λ_=>uC
noncomputable def IU(n:Str):vA->Ask
 |.Assign [.Attribute _ x _] _ _=>.no n x
 |_=>.ck λ_=>uC
def LZ(s:vA):List Ask:=(ZN s).2.map (HU (ZN s).1)++(ZN s).2.flatMap λf=>(Eg f).map (IU (ZN s).1)
def Qp(s:vA):Ask:=match s with
 |.FunctionDef n a _ _ _ _ _ _ _ _=>(match a.defaults with
  |[]=>.fn n s
  |[.Constant (.int v) _ _]=>.fd n s v
  |_=>.ck λ_=>uC)
 |.ClassDef n [] _ _ _ _ _ _ _ _ _=>.cl n
 |.Assign [.Name x _] (.Constant c _ _) _=>(match c with
  |.int v=>.gi x v
  |.str v=>if x == "__name__" then .ck λ_=>uC else .gs x v
  |_=>.ck λ_=>uC)
 |_=>.ck λ_=>uC
noncomputable def Y?:List Ask:=(["all","bool","enumerate","int","isinstance","len","list","max","min","range","set","sorted","str","sum","tuple","zip","ValueError"]:List Str).map .z
def Wx(b:List vA)(ex:List Ask):List Ask:=ex++(Y?++(b.flatMap LZ++b.map Qp))
noncomputable abbrev UH(b:List vA)(i:Nat):vA:=b.getD i KZ
end _D
namespace _W
open PySem PySem.W _L _D
noncomputable abbrev body:List vA:=PySem.Challenge.pw_sluiceway_k72_a_plan_is_possible.main.body
noncomputable abbrev top(i:Nat):vA:=UH body i
noncomputable abbrev J7:=top 66
noncomputable def MZ:List Ask:=[]
def asks:List Ask:=Wx body MZ
abbrev GJ:OpenLaw:=PySem.Challenge.rw_sluiceway_k72_a_plan_is_possible
abbrev pw:vj:=OpenLaw.prog PySem.Challenge.rw_sluiceway_k72_a_plan_is_possible
def vw:vj:=view pw (zW 67)
def kE:∀w os,(Wm pw w os).map (λs=>(Vk pw w s.abs,PySem.W.Fast.tw4187177175401517315 vw [] (PySem.W.Fast.tw5923862056798008813 pw.main.body) (JR GJ vw) uC s.abs,Xk "Sending" "send_by" asks s.abs.heap))=uA (uC,openGood vw [],Yd asks):=λw os=>by kernel_rfl
def well:GJ.wellSaid=uC:=kD (by kernel_rfl)
def HJ:defOf vw GJ.row.name=uA (YN J7,[]):=by kernel_rfl
def hp:GJ.row.prog.theDef GJ.row.name=uA ((YN J7).params,(YN J7).body,(YN J7).scope):=by kernel_rfl
def hk:kwWritten? (YN J7).params.kwonlyargs (YN J7).params.kw_defaults=uA []:=by kernel_rfl
def SA:(chainsOk vw&&opensWell GJ.row.prog&&(frees GJ.row.toRowW&&GJ.row.within.isEmpty))=uC:=by kernel_rfl
def MR:(YN J7).params.defaults=[]:=by kernel_rfl
def JU:GJ.row.prog.bare:=⟨rfl,rfl,rfl,rfl,rfl,by decide +kernel⟩
def hw:GJ.row.toRowW.promised:=by w_witness2
end _W
namespace _L
open PySem PySem.Spec PyProof.Rows
variable{t':Nat}{s:vk}{wS:List (vW×Obj)}{tg:vY}{P:vj}
noncomputable abbrev Key:=Sum Int Str
def Mh:Key->vB->Bool
 |.inl k,v=>Value.isInt k v
 |.inr x,v=>Value.isStrOf x v
def NZ(w:vC):Key->Int
 |.inl k=>hashInt k
 |.inr x=>hashStr w x
theorem Il:∀{k:Key}{v:vB},Mh k v=uC->(∃i t,k=Sum.inl i/\v=Value.int i t)\/(∃x t,k=Sum.inr x/\v=Value.str x t)
 |.inl i,v,h=>by obtain⟨t,e⟩:=Value.isInt_shape h;exact .inl ⟨i,t,rfl,e⟩
 |.inr x,v,h=>by obtain⟨t,e⟩:=Value.isStrOf_shape h;exact .inr ⟨x,t,rfl,e⟩
def kF(i:Int)(t:Tok):Mh (.inl i) (.int i t)=uC:=by simp[Mh,Value.isInt]
def kG(x:Str)(t:Tok):Mh (.inr x) (.str x t)=uC:=by simp[Mh,Value.isStrOf]
def kH(a b:Int):decide ((Sum.inl a:Key)=Sum.inl b)=(a==b):=by
 by_cases e:a=b
 .subst e;simp
 rw[decide_eq_false (λq=>e (Sum.inl.inj q))];exact(beq_eq_false_iff_ne.mpr e).symm
def kI(a b:Str):decide ((Sum.inr a:Key)=Sum.inr b)=decide (a=b):=by
 by_cases e:a=b
 .subst e;simp
 rw[decide_eq_false (λq=>e (Sum.inr.inj q)),decide_eq_false e]
def kJ(a:Int)(b:Str):decide ((Sum.inl a:Key)=Sum.inr b)=uD:=decide_eq_false (nofun)
def kK(a:Str)(b:Int):decide ((Sum.inr a:Key)=Sum.inl b)=uD:=decide_eq_false (nofun)
def Fl(prog:vj)(w:vC):PySem.KeyKind prog w Key where
 is:=Mh
 hash:=NZ w
 inj:=λv a b ha hb=>by
  rcases Il ha with⟨i,t,rfl,rfl⟩|⟨x,t,rfl,rfl⟩
  .rcases Il hb with⟨j,u,rfl,e⟩|⟨y,u,rfl,e⟩
   .injection e with e1 _;rw[e1]
   .exact nomatch e
  .rcases Il hb with⟨j,u,rfl,e⟩|⟨y,u,rfl,e⟩
   .exact nomatch e
   .injection e with e1 _;rw[e1]
 byValue:=λk v h=>by rcases Il h with⟨i,t,rfl,rfl⟩|⟨x,t,rfl,rfl⟩<;>rfl
 pyHash:=λhv h=>by
  rcases Il hv with⟨i,t,rfl,rfl⟩|⟨x,t,rfl,rfl⟩
  .exact wpAny_pyHash_int h
  .exact wpAny_pyHash_str h
 eqBool:=λhu hv h=>by
  rcases Il hu with⟨i,t,rfl,rfl⟩|⟨x,t,rfl,rfl⟩
  .rcases Il hv with⟨j,u,rfl,rfl⟩|⟨y,u,rfl,rfl⟩
   .rw[kH]at h;exact wpAny_eqBool_int h
   .rw[kJ]at h;exact vh i t y u _ _ _ _ h
  .rcases Il hv with⟨j,u,rfl,rfl⟩|⟨y,u,rfl,rfl⟩
   .rw[kK]at h;exact wa x t j u _ _ _ _ h
   .rw[kI]at h;exact wpAny_eqBool_str h
 «strs»:=λk x t v h=>by
  rcases Il h with⟨i,u,rfl,e⟩|⟨y,u,rfl,e⟩
  .exact nomatch e
  .injection e with e1 _
   subst e1
   cases v<;>rfl
def kL(prog:vj)(w:vC)(i:Int)(t:Tok):(Fl prog w).is (.inl i) (.int i t)=uC:=kF i t
def kM(prog:vj)(w:vC)(x:Str)(t:Tok):(Fl prog w).is (.inr x) (.str x t)=uC:=kG x t
inductive V where
 |KA|bl (b:Bool)|int (i:Int)|str (x:Str)|byt (b:Array UInt8)|flt (b:UInt64)|ref (a:vW)|ty (n:String)
 deriving DecidableEq
def RelV:V->vB->Prop
 |.KA,u=>u=Value.none
 |.bl b,u=>u=Value.bool b
 |.int i,u=>∃t,u=Value.int i t
 |.str x,u=>∃t,u=Value.str x t
 |.byt b,u=>∃t,u=Value.bytes b t
 |.flt b,u=>∃t,u=Value.float b t
 |.ref a,u=>u=Value.ref a
 |.ty n,u=>u=Value.type n
abbrev Vals:List V->List vB->Prop:=Paired RelV
def Vals.length{xs:List V}{us:List vB}(r:Vals xs us):xs.length=us.length:=Paired.length r
theorem Vals.get:∀{xs:List V}{us:List vB}{i:Nat}{x:V},Vals xs us->xs[i]?=uA x->∃u,us[i]?=uA u/\RelV x u
 |_,_,_,_,.nil,e=>by simp at e
 |_,_,0,_,.cons r _,e=>by simp at e;subst e;exact⟨_,rfl,r⟩
 |_,_,i+1,x,.cons _ t,e=>by obtain⟨u,j,d⟩:=Vals.get t (by simpa using e);exact⟨u,by simpa using j,d⟩
theorem Vals.set(r:RelV x u):∀{xs:List V}{us:List vB}(i:Nat),Vals xs us->Vals (xs.set i x) (us.set i u)
 |_,_,_,.nil=>.nil
 |_,_,0,.cons _ t=>.cons r t
 |_,_,i+1,.cons q t=>.cons q (Vals.set r i t)
theorem Vals.append:∀{xs ys:List V}{us ws:List vB},Vals xs us->Vals ys ws->Vals (xs++ys) (us++ws)
 |_,_,_,_,.nil,s=>s
 |_,_,_,_,.cons r t,s=>.cons r (Vals.append t s)
theorem Vals.take:∀{xs:List V}{us:List vB}(n:Nat),Vals xs us->Vals (xs.take n) (us.take n)
 |_,_,0,_|_,_,_+1,.nil=>.nil
 |_,_,n+1,.cons r t=>.cons r (Vals.take n t)
theorem Vals.drop:∀{xs:List V}{us:List vB}(n:Nat),Vals xs us->Vals (xs.drop n) (us.drop n)
 |_,_,0,r=>r
 |_,_,_+1,.nil=>.nil
 |_,_,n+1,.cons _ t=>Vals.drop n t
def UE:Option V->Option vB->Prop
 |some v,uA u=>RelV v u
 |none,uB=>True
 |_,_=>False
def KV{κ:Type}:List (κ×V)->List (κ×vB)->Prop:=Paired λ(p:κ×V)(q:κ×vB)=>p.1=q.1/\RelV p.2 q.2
def kV:Key->V
 |.inl i=>.int i
 |.inr x=>.str x
inductive HO where
 |lst (xs:List V)
 |tup (xs:List V)
 |dK (JA:List (Key×V))|dT (JA:List (List Key×V))
 |set (S:Int->Bool) (n:Nat)
 |ins (C dx:vW) (fs:List (Str×V))
 |own (x:vW)
 |xd (fs:List (Str×V))
 |met (f x:vW)
 |KU (lo hi:Int)
 |WC (o:Obj) (u:HO)
 |RF (ps:Array vB)
 |ext (φ:Heap->Prop)
noncomputable abbrev Hp:=vW->Option HO
noncomputable def upd(H:Hp)(a:vW)(o:HO):Hp:=λb=>if b=a then uA o else H b
def Di:upd H a o a=uA o:=by unfold upd;rw[if_pos rfl]
def Ag(h:b≠a):upd H a o b=H b:=by unfold upd;rw[if_neg h]
def kN{H:Hp}{a b:vW}{o u:HO}(h:H a=uA o)(h':H b=uA u)(d:o≠u):a≠b:=by intro e;subst e;rw[h]at h';exact d (Option.some.inj h')
def Ft{H:Hp}{a b:vW}{o:HO}(h:H a=uA o)(h':H b=uB):a≠b:=by intro e;subst e;rw[h]at h';cases h'
section
variable(P:vj)(w:vC)
def VB(H:Hp)(h:Heap)(a:vW):HO->Prop
 |.lst xs=>lN xs<=sizeLine/\∃(MA:List vB)(n:Nat),Vals xs MA/\h.get? a=uA {cls:=.type "list",data:=.seq MA.toArray n}
 |.tup xs=>lN xs<=sizeLine/\∃MA:List vB,Vals xs MA/\IsTup h a MA.toArray
 |.dK JA=>lN JA<=sizeLine/\(a==sysModules)=uD/\∃vs,KV JA vs/\h.DictOf (Fl P w) a vs
 | .dT JA=>lN JA<=sizeLine/\(a==sysModules)=uD/\∃xs:List (List Key×vW×vB),
   Paired (λ(p:List Key×V)(q:List Key×vW×vB)=>p.1=q.1/\H q.2.1=uA (.tup (p.1.map kV))/\RelV p.2 q.2.2) JA xs/\
   ∃o es ep,h.get? a=uA o/\o.ExactDict/\o.data=.dict es ep/\es.toList=xs.map (entryOfKey (tupleKind (Fl P w)))/\(xs.map (·.1)).Nodup
 |.set S n=>h.SetOf (intKind P w) a S n
 | .ins C dx fs=>H dx=uA (.own a)/\lN fs<=1000/\dx≠a/\h.get? a=uA (zf C dx)/\
   ∃mA,h.Ns1 dx mA/\(∀f,UE (fs.lookup f) (mA f))/\jg mA (fs.map (·.1))
 |.own _=>∃o,h.get? a=uA o
 |.xd fs=>∃mA,h.Ns1 a mA/\∀f,UE (fs.lookup f) (mA f)
 |.KU lo hi=>∃t u v,h.get? a=uA {cls:=.type "range",data:=.fields #[.int lo t,.int hi u,.int 1 v]}
 |.WC o u=>h.get? a=uA o/\VB H h a u
 |.RF ps=>h.get? a=uA {cls:=.none,data:=.fields ps}
 |.met f x=>h.get? a=uA (PySem.W.methodObj (.ref f) (.ref x))
 |.ext φ=>φ h/\(∃o,h.get? a=uA o)/\∀h1 h2:Heap,φ h1->(∀o,h1.get? a=uA o->h2.get? a=uA o)->φ h2
def ZE(H:Hp)(h:Heap):Prop:=∀a o,H a=uA o->VB P w H h a o
end
section
variable{P:vj}{w:vC}{H H':Hp}{h h':Heap}{a:vW}{o:HO}
theorem VB.lt(x:VB P w H h a o):a<h.objs.size:=by
 cases o with
 |lst xs=>obtain⟨_,_,_,_,e⟩:=x;exact zD e
 |tup xs=>obtain⟨_,_,_,p⟩:=x;exact p.lt
 |set S n=>obtain⟨o,_,_,_,e,_⟩:=x;exact zD e
 |ins C dx fs=>obtain⟨_,_,_,e,_⟩:=x;exact zD e
 |own y=>obtain⟨_,e⟩:=x;exact zD e
 |xd fs=>obtain⟨_,⟨_,_,_,e,_⟩,_⟩:=x;exact zD e
 |KU lo hi=>obtain⟨_,_,_,e⟩:=x;exact zD e
 |WC ob u=>obtain⟨e,_⟩:=x;exact zD e
 |RF ps|met f y=>exact zD (x)
 |ext φ=>obtain⟨_,⟨_,e⟩,_⟩:=x;exact zD e
 |_=>obtain⟨_,_,_,_,o,_,_,e,_⟩:=x;exact zD e
theorem Paired.Vn{i d:Type}{F G:i->d->Prop}:∀{l₁:List i}{l₂:List d},Paired F l₁ l₂->(∀a b,F a b->G a b)->Paired G l₁ l₂
 |_,_,.nil,_=>.nil
 |_,_,.cons r t,f=>.cons (f _ _ r) (Paired.Vn t f)
theorem VB.ZF(x:VB P w H h a o)(k:∀b u,(b=a\/H b=uA (.own a))->h.get? b=uA u->h'.get? b=uA u)
  (ho:∀b,H b=uA (.own a)->H' b=uA (.own a)) (ht:∀b xs,H b=uA (.tup xs)->H' b=uA (.tup xs)):VB P w H' h' a o:=by
 induction o with
 |lst xs=>obtain⟨z,MA,n,r,e⟩:=x;exact⟨z,MA,n,r,k _ _ (.inl rfl) e⟩
 |tup xs=>obtain⟨z,MA,r,ob,e,c⟩:=x;exact⟨z,MA,r,ob,k _ _ (.inl rfl) e,c⟩
 |dK JA=>obtain⟨z,y,vs,r,ob,es,ep,e,c⟩:=x;exact⟨z,y,vs,r,ob,es,ep,k _ _ (.inl rfl) e,c⟩
 |dT JA=>
  obtain⟨z,y,xs,r,ob,es,ep,e,c⟩:=x;exact⟨z,y,xs,Paired.Vn r λp q z=>⟨z.1,ht _ _ z.2.1,z.2.2⟩,ob,es,ep,k _ _ (.inl rfl) e,c⟩
 |set S n=>obtain⟨ob,es,ep,t,e,c⟩:=x;exact⟨ob,es,ep,t,k _ _ (.inl rfl) e,c⟩
 |ins C dx fs=>
  obtain⟨d,z,ne,e,mA,⟨od,es,ep,e2,c⟩,r⟩:=x;exact⟨ho _ d,z,ne,k _ _ (.inl rfl) e,mA,⟨od,es,ep,k _ _ (.inr d) e2,c⟩,r⟩
 |own y=>obtain⟨ob,e⟩:=x;exact⟨ob,k _ _ (.inl rfl) e⟩
 |xd fs=>obtain⟨mA,⟨od,es,ep,e,c⟩,r⟩:=x;exact⟨mA,⟨od,es,ep,k _ _ (.inl rfl) e,c⟩,r⟩
 |KU lo hi=>obtain⟨t,u,v,e⟩:=x;exact⟨t,u,v,k _ _ (.inl rfl) e⟩
 |WC ob u ih=>obtain⟨e,q⟩:=x;exact⟨k _ _ (.inl rfl) e,ih q⟩
 |RF ps|met f y=>
  have e:=x;exact k a _ (.inl rfl) e
 |ext φ=>obtain⟨p,⟨o,e⟩,st⟩:=x;exact⟨st _ _ p λo q=>k _ _ (.inl rfl) q,⟨o,k _ _ (.inl rfl) e⟩,st⟩
def ZE.lt(x:ZE P w H h)(e:H a=uA o):a<h.objs.size:=(x a o e).lt
theorem ZE.fresh(x:ZE P w H h)(e:h.objs.size<=a):H a=uB:=by
 cases q:H a with
 |none=>rfl
 |some u=>exact absurd (zj (x.lt q) e) (qB _)
def ZE.kept(x:ZE P w H h)(k:∀b u,h.get? b=uA u->h'.get? b=uA u):ZE P w H h':=λa o e=>
 (x a o e).ZF (λb u _ q=>k b u q) (λ_ q=>q) λ_ _ q=>q
def ZE.laid(x:ZE P w H h)(k:∀b u,h.get? b=uA u->h'.get? b=uA u)(hp:h.objs.size<=a)(new:VB P w (upd H a o) h' a o):ZE P w (upd H a o) h':=λb u e=>by
 have d:=x.fresh hp;by_cases i:b=a
 .subst i;rw[Di]at e;cases e;exact new
 rw[Ag i]at e;exact(x b u e).ZF (λc v _ q=>k c v q) (λc q=>by rw[Ag (Ft q d)];exact q) λc j q=>by rw[Ag (Ft q d)];exact q
end
def Rd(H:Hp)(a:vW)(u:HO):Prop:=H a=uA u\/∃o,H a=uA (.WC o u)
def Rd.ok(r:Rd H a u)(x:ZE P w H h):VB P w H h a u:=by
 rcases r with r|⟨o,r⟩
 .exact x a u r
 obtain⟨_,q⟩:=x a _ r;exact q
def LU:Option HO->Prop
 |some (.lst _)=>True
 |some (.dK _)=>True
 |some (.dT _)=>True
 |some (.set _ _)=>True
 |some (.ins _ _ _)=>True
 |some (.ext _)=>True
 |_=>False
section
variable{P:vj}{w:vC}{H:Hp}{h h':Heap}{x e:vW}{o':HO}
def ZE.write(ok:ZE P w H h)(n:LU (H x))(M:e=x\/H e=uA (.own x))(k:∀b u,b≠e->h.get? b=uA u->h'.get? b=uA u)(J:∃u,h'.get? e=uA u)
  (new:VB P w (upd H x o') h' x o'):ZE P w (upd H x o') h':=λb u q=>by
 have i:∀c y,H c=uA (.own y)->c≠x:=λc y r z=>by subst z;rw[r]at n;exact n
 have j:∀c I,H c=uA (.tup I)->c≠x:=λc I r z=>by subst z;rw[r]at n;exact n
 by_cases B:b=x
 .subst B;rw[Di]at q;cases q;exact new
 rw[Ag B]at q;by_cases d:b=e
 .have L:H b=uA (.own x):=by
   rcases M with z|z
   .exact absurd (d.trans z) B
   rw[d];exact z
  rw[q]at L;cases L;obtain⟨v,N⟩:=J;exact⟨v,d▸N⟩
 .refine(ok b u q).ZF (λc v F r=>k c v ?_ r) (λc r=>by rw[Ag (i c b r)];exact r) λc I r=>by rw[Ag (j c I r)];exact r
  rcases F with rfl|F
  .exact d
  .rintro rfl;rcases M with z|z
   .exact i c b F z
   rw[F]at z;cases z;exact B rfl
end
structure Un (fs ex:List vW) (H H':Hp) (h h':Heap):Prop where
 keep:∀b o,h.get? b=uA o->H b=uB->b∉fs->b∉ex->h'.get? b=uA o
 slot:∀b o,h.get? b=uA o->H b=uB->b∈fs->b∉ex->∃sl,h'.get? b=uA {o with slots:=sl}
 free:∀b o,h.get? b=uA o->H b=uB->b∉ex->H' b=uB
 there:∀b o,h.get? b=uA o->b∉ex->∃o',h'.get? b=uA o'
 IJ:∀b xs,H b=uA (.tup xs)->H' b=uA (.tup xs)
 GI:∀b o u,H b=uA (.WC o u)->H' b=uA (.WC o u)
 HI:∀b ps,H b=uA (.RF ps)->∃more,H' b=uA (.RF (ps++more))
section
variable{fs OZ ex ex':List vW}{H H1 H2:Hp}{h h1 h2 h':Heap}{a x e:vW}{o:HO}
def Un.any(u:Un fs ex H H1 h h1)(q:h.get? b=uA ob)(n:H b=uB)(j:b∉ex):∃y,h1.get? b=uA {ob with slots:=y}:=by
 by_cases i:b∈fs
 .exact u.slot b ob q n i j
 exact⟨ob.slots,u.keep b ob q n i j⟩
def Un.kept(k:∀b u,h.get? b=uA u->h'.get? b=uA u):Un fs ex H H h h':=
 ⟨λb d q _ _ _=>k b d q,λb d q _ _ _=>⟨d.slots,k b d q⟩,λ_ _ _ n _=>n,λb d q _=>⟨d,k b d q⟩,λ_ _ q=>q,λ_ _ _ q=>q,λ_ i q=>⟨#[],by rw[q];simp⟩⟩
def Un.refl:Un fs ex H H h h:=Un.kept λ_ _ q=>q
def Un.laid(k:∀b u,h.get? b=uA u->h'.get? b=uA u)(hp:h.objs.size<=a)(d:H a=uB):Un fs ex H (upd H a o) h h' where
 keep:=λb u q _ _ _=>k b u q
 slot:=λb u q _ _ _=>⟨u.slots,k b u q⟩
 free:=λb u q n _=>by rw[Ag (qZ (zj (zD q) hp))];exact n
 there:=λb u q _=>⟨u,k b u q⟩
 IJ:=λb i q=>by rw[Ag (Ft q d)];exact q
 GI:=λb u i q=>by rw[Ag (Ft q d)];exact q
 HI:=λb j q=>⟨#[],by rw[Ag (Ft q d),q];simp⟩
def Un.write(i:LU (H x))(I:e=x\/H e=uA (.own x))(k:∀b u,b≠e->h.get? b=uA u->h'.get? b=uA u)(y:∃u,h'.get? e=uA u):Un fs ex H (upd H x o) h h':=by
 have B:∀b,H b=uB->b≠x:=λb n z=>by subst z;rw[n]at i;exact i
 have F:∀b,H b=uB->b≠e:=λb n z=>by
  subst z;rcases I with r|r
  .exact B b n r
  rw[n]at r;cases r
 have j:∀b u,H b=uA u->¬LU (uA u)->b≠x:=λb u q nm z=>by subst z;rw[q]at i;exact nm i
 refine⟨λb u q n _ _=>k b u (F b n) q,λb u q n _ _=>⟨u.slots,k b u (F b n) q⟩,λb u q n _=>by rw[Ag (B b n)];exact n,λb u q _=>?_,
  λb J q=>by rw[Ag (j b _ q λz=>z)];exact q,λb u J q=>by rw[Ag (j b _ q λz=>z)];exact q,λb L q=>⟨#[],by rw[Ag (j b _ q λz=>z),q];simp⟩⟩
 by_cases d:b=e
 .subst d;exact y
 exact⟨u,k b u d q⟩
end
noncomputable def PZ(h:Heap)(H:Hp):List vW:=(zW h.objs.size).filter λa=>(H a).isSome
def Jk(h:Heap)(H:Hp):Heap:=PySem.W.hideAll h (PZ h H)
def kO(h:Heap)(H:Hp):(Jk h H).objs.size=h.objs.size:=PySem.W.hideAll_size _ _
def kP(e:h.get? b=uA o)(n:H b=uB):(Jk h H).get? b=uA o:=
 PySem.W.hideAll_get _ e λd=>by have q:=(List.mem_filter.mp d).2;rw[n]at q;simp at q
theorem kQ(e:(Jk h H).get? b=uA o):h.get? b=uA o/\H b=uB:=by
 have d:=PySem.W.of_hideAll (PZ h H) e;refine⟨d,?_⟩;cases q:H b with
 |none=>rfl
 |some x=>
  have z:(Jk h H).get? b=uB:=PySem.W.hideAll_none (PZ h H) (List.mem_filter.mpr ⟨qz.mpr (zD d),by simp[q]⟩);rw[z]at e;cases e
noncomputable def kR(g h:Heap)(L:vW):List (vW×Obj):=(zW h.objs.size).filterMap λa=>if a=L\/(g.get? a).isSome=uC then uB else(h.get? a).map λo=>(a,o)
def rest(g h:Heap)(L d:vW):List (vW×Obj):=(kR g h L).filter λp=>decide (p.1≠d)
structure Mod (K:za) (mg:Str->Option vB) (base:Heap):Prop where
 MU:K.In base
 glob:base.Ns vS mg
 blt:∃mb,base.Ns builtinsNs mb/\∀x:Str,x≠"__name__"->mb x=vL x
 nolimit:base.NoLimit
structure Cx where
 prog:vj
 w:vC
 K:za
 mg:Str->Option vB
 base:Heap
 A:vK
 N:List Str
 s₀:vk
 H₀:Hp
 env:Env
 outer:List Env
 stack:List Env
 ex:List vW
 fn:Str->Bool
 calm:Bool
 pn:List (vW×Obj)
 xe:vB->vk->Prop
noncomputable def OI(l:List Env):List vW:=l.filterMap (·.frame)
noncomputable abbrev Cx.fs(X:Cx):List vW:=OI X.outer
def NU(sc:vx)(x:Str):Prop:=sc.names.lookup x=uA .local\/sc.names.lookup x=uA .cell\/sc.names.lookup x=uA .free
def Loc(sc:vx)(x:Str):Prop:=sc.names.lookup x=uA .local\/sc.names.lookup x=uA .cell
def Look(env:Env)(h:Heap)(m:Str->Option vB)(x:Str)(u:vB):Prop:=
 (env.kindOf x=uA .local/\m x=uA u)\/((env.kindOf x=uA .cell\/env.kindOf x=uA .free)/\∃c,env.cells.lookup x=uA c/\h.IsCell c (uA u))
structure Cx.Ok (X:Cx):Prop where
 mod:Mod X.K X.mg X.base
 kind:X.env.scope.kind=.function
 glob:X.env.globals=vS
 blt:X.env.builtins=builtinsNs
 above:X.s₀.heap.objs.size<=X.env.locals
 inj:∀x y c,X.env.cells.lookup x=uA c->X.env.cells.lookup y=uA c->x=y
 has:∀x,(X.env.kindOf x=uA .cell\/X.env.kindOf x=uA .free)->∃c,X.env.cells.lookup x=uA c
 RT:∀x c,X.fn x=uC->X.env.cells.lookup x=uA c->X.s₀.heap.objs.size<=c
 hd:X.calm=uC->X.A.handled=uB
 frames:X.A.frames=uA X.stack
 PU:X.stack=X.outer\/(X.stack=X.env::X.outer/\X.env.frame=uA X.env.locals)
 QZ:∀b∈X.ex,b≠X.env.locals/\∀x c,X.env.cells.lookup x=uA c->c≠b
 bs:∀b o,X.base.get? b=uA o->X.s₀.heap.get? b=uA o/\X.H₀ b=uB
 MN:X.base.objs.size<=X.s₀.heap.objs.size
 YK:∀b o,X.base.get? b=uA o->b∉X.ex
 ZK:∀b∈X.ex,b∉X.fs
 NF:X.s₀.heap.FunFrames X.base X.outer
 VP:∀b∈X.fs,X.H₀ b=uB
structure Inv (X:Cx) (wS:List (vW×Obj)) (σ:List (Option V)) (H:Hp) (s:vk):Prop where
 ok:X.Ok
 os:s.os=X.s₀.os
 bare:AllBare s.gens
 base:Un X.fs X.ex X.H₀ H X.s₀.heap s.heap
 loc:∃m,s.heap.Ns X.env.locals m/\∀(i:Nat)(x:Str)(v:V),X.N[i]?=uA x->σ[i]?=uA (uA v)->NU X.env.scope x->∃u,RelV v u/\Look X.env s.heap m x u
 cell:∀x c,X.env.cells.lookup x=uA c->∃v,s.heap.IsCell c v
 free:H X.env.locals=uB
 Gh:∀x c,X.env.cells.lookup x=uA c->H c=uB
 pin:∀p∈X.pn++wS,s.heap.get? p.1=uA p.2/\H p.1=uB/\p.1≠X.env.locals/\p.1∉X.fs/\∀v,p.2.data≠ .cell v
 SA:ZE X.prog X.w H s.heap
 len:lN σ=lN X.N
section
variable{X:Cx}{wS:List (vW×Obj)}{σ:List (Option V)}{H H':Hp}{s:vk}{h':Heap}
def Cx.Ok.RZ(ok:X.Ok)(e:X.base.get? b=uA o):b∉X.fs:=λd=>by have:=(ok.NF.mem d).1;rw[e]at this;cases this
def Inv.bs(I:Inv X wS σ H s):∀b o,X.base.get? b=uA o->s.heap.get? b=uA o/\H b=uB:=λb o e=>
 ⟨I.base.keep b o (I.ok.bs b o e).1 (I.ok.bs b o e).2 (I.ok.RZ e) (I.ok.YK b o e),I.base.free b o (I.ok.bs b o e).1 (I.ok.bs b o e).2 (I.ok.YK b o e)⟩
def Inv.bk(I:Inv X wS σ H s):∀b o,X.base.get? b=uA o->s.heap.get? b=uA o:=λb o e=>(I.bs b o e).1
def Inv.mod(I:Inv X wS σ H s):Mod X.K X.mg X.base:=I.ok.mod
def Inv.WG(I:Inv X wS σ H s):X.K.In s.heap:=I.ok.mod.MU.keeps I.bk
def Inv.nolimit(I:Inv X wS σ H s):s.heap.NoLimit:=I.ok.mod.nolimit.keeps I.bk
def Inv.lt(I:Inv X wS σ H s):X.env.locals<s.heap.objs.size:=let⟨_,d,_⟩:=I.loc;d.lt
def Inv.sz(I:Inv X wS σ H s):X.s₀.heap.objs.size<=s.heap.objs.size:=zN I.ok.above (jU I.lt)
def Inv.YL(I:Inv X wS σ H s){a:vW}(h:s.heap.objs.size<=a):a∉X.fs:=λi=>by obtain⟨_,o,d,_⟩:=I.ok.NF.mem i;exact absurd (zj (zD d) (zN I.sz h)) (qB _)
def Inv.NR(I:Inv X wS σ H s):∀x c,X.env.cells.lookup x=uA c->c≠X.env.locals:=λx c e z=>by obtain⟨v,o,j,n⟩:=I.cell x c e;obtain⟨m,⟨q,y,B,d,i,_⟩,_⟩:=I.loc;rw[z,d]at j;cases j;rw[i]at n;cases n
def Inv.NF(I:Inv X wS σ H s):s.heap.FunFrames X.base X.outer:=by
 have all:∀(l:List Env),(∀b∈OI l,b∈X.fs)->X.s₀.heap.FunFrames X.base l->s.heap.FunFrames X.base l:=by
  intro l
  induction l with
  |nil=>intro _ _;trivial
  |cons q r B=>
   intro n M;obtain⟨hk,⟨L,o,j,y,F,N⟩,J⟩:=M;have d:=n L (by unfold OI;rw[jX,j];exact zy);obtain⟨O,e⟩:=I.base.slot L o F (I.ok.VP L d) d λz=>I.ok.ZK L z d
   exact⟨hk,⟨L,_,j,y,e,N⟩,B (λb i=>n b (by unfold OI;rw[jX,j];exact zV _ i)) J⟩
 exact all X.outer (λ_ i=>i) I.ok.NF
def Inv.stack(I:Inv X wS σ H s):s.heap.FunFrames X.base X.stack:=by
 rcases I.ok.PU with e|⟨e,i⟩
 .rw[e];exact I.NF
 .rw[e];obtain⟨m,d,_⟩:=I.loc;exact .cons (by rw[I.ok.kind];decide) i d (Heap.get?_none_of_le (zN I.ok.MN I.ok.above)) I.NF
def Inv.Nt(I:Inv X wS σ H s):∀b∈OI X.stack,b∈X.env.locals::X.fs:=λb d=>by
 rcases I.ok.PU with e|⟨e,i⟩
 .rw[e]at d;exact zV _ d
 rw[e]at d;unfold OI at d;rw[jX,i]at d;exact d
def Inv.Wg(I:Inv X wS σ H s):∀b∈OI X.stack,H b=uB:=λb d=>by
 rcases zw.mp (I.Nt b d)with e|d
 .rw[e];exact I.free
 obtain⟨_,o,i,_⟩:=I.ok.NF.mem d;exact I.base.free b o i (I.ok.VP b d) λz=>I.ok.ZK b z d
def Inv.step{g':Array GenState}{d':Drawn}{ch:List vW}(I:Inv X wS σ H s)
  (N:∀b∈ch,(b∈X.ex\/X.s₀.heap.objs.size<=b)/\b≠X.env.locals/\(∀x c,X.env.cells.lookup x=uA c->c≠b)/\∀p∈X.pn++wS,p.1≠b)
  (F:∀b o,b≠X.env.locals->b∉X.fs->b∉ch->s.heap.get? b=uA o->H b=uB->h'.get? b=uA o)
  (L:∀b o,b≠X.env.locals->b∈X.fs->b∉ch->s.heap.get? b=uA o->H b=uB->∃sl,h'.get? b=uA {o with slots:=sl}) (free:∀b o,b∉ch->s.heap.get? b=uA o->H b=uB->H' b=uB)
  (B:∀b o,b∉ch->s.heap.get? b=uA o->∃o',h'.get? b=uA o')
  (Y:∀b xs,H b=uA (.tup xs)->H' b=uA (.tup xs)) (W:∀b o u,H b=uA (.WC o u)->H' b=uA (.WC o u)) (U:∀b ps,H b=uA (.RF ps)->∃more,H' b=uA (.RF (ps++more)))
  (ns:∀m,s.heap.Ns X.env.locals m->h'.Ns X.env.locals m) (SA:ZE X.prog X.w H' h') (hg:AllBare g'):
  Inv X wS σ H' {s with heap:=h',gens:=g',drawn:=d',toks:=t'}:=by
 have Lu:∀b o,X.s₀.heap.get? b=uA o->b≠X.env.locals:=λb o e=>qZ (zj (zD e) I.ok.above)
 have O:∀b o,X.s₀.heap.get? b=uA o->b∉X.ex->b∉ch:=λb o e y Z=>by
  rcases(N b Z).1 with z|z
  .exact y z
  exact absurd (zj (zD e) z) (qB _)
 have M:∀x c,X.env.cells.lookup x=uA c->∀v,s.heap.IsCell c v->h'.IsCell c v:=λx c e v ⟨o,ho,hd⟩=>by
  have J:c∉ch:=λz=>(N c z).2.2.1 x c e rfl
  by_cases hc:c∈X.fs
  .obtain⟨sl,q⟩:=L c o (I.NR x c e) hc J ho (I.Gh x c e);exact⟨_,q,hd⟩
  exact⟨o,F c o (I.NR x c e) hc J ho (I.Gh x c e),hd⟩
 refine⟨I.ok,I.os,hg,⟨λb o e n Z y=>(F b o (Lu b o e) Z (O b o e y) (I.base.keep b o e n Z y) (I.base.free b o e n y)),λb o e n Z y=>?_,λb o e n y=>?_,λb o e y=>?_,λb xs e=>Y b xs (I.base.IJ b xs e),λb o xs e=>W b o xs (I.base.GI b o xs e),λb ps e=>?_⟩,?_,λx c e=>?_,?_,λx c e=>?_,λp hp=>?_,SA,I.len⟩
 .obtain⟨sl,S⟩:=I.base.slot b o e n Z y;obtain⟨Z?,e2⟩:=L b _ (Lu b o e) Z (O b o e y) S (I.base.free b o e n y);exact⟨Z?,e2⟩
 .obtain⟨o',S⟩:=I.base.there b o e y;exact free b o' (O b o e y) S (I.base.free b o e n y)
 .obtain⟨o',S⟩:=I.base.there b o e y;exact B b o' (O b o e y) S
 .obtain⟨m1,S⟩:=I.base.HI b ps e;obtain⟨m2,e2⟩:=U b _ S;exact⟨m1++m2,by rw[e2,Array.append_assoc]⟩
 .obtain⟨m,hn,hl⟩:=I.loc;refine⟨m,ns m hn,λi x v S e2 e3=>?_⟩;obtain⟨u,r,l⟩:=hl i x v S e2 e3;refine⟨u,r,?_⟩;rcases l with l|⟨k,c,e,z⟩
  .exact .inl l
  exact .inr ⟨k,c,e,M x c e _ z⟩
 .obtain⟨v,z⟩:=I.cell x c e;exact⟨v,M x c e v z⟩
 .obtain⟨m,⟨o,_,_,ho,_⟩,_⟩:=I.loc;exact free _ o (λz=>(N _ z).2.1 rfl) ho I.free
 .obtain⟨v,o,ho,hd⟩:=I.cell x c e;exact free c o (λz=>(N c z).2.2.1 x c e rfl) ho (I.Gh x c e)
 obtain⟨e,n,ne,nf,d⟩:=I.pin p hp;have J:p.1∉ch:=λz=>(N p.1 z).2.2.2 p hp rfl
 exact⟨F p.1 p.2 ne nf J e n,free p.1 p.2 J e n,ne,nf,d⟩
def Inv.un(I:Inv X wS σ H s)(u:Un X.fs [] H H' s.heap h')(SA:ZE X.prog X.w H' h'):Inv X wS σ H' {s with heap:=h',toks:=t'}:=by
 obtain⟨m,⟨o,N,U,B,r⟩,_⟩:=id I.loc;obtain⟨O,J⟩:=u.any B I.free (by simp);exact I.step (ch:=[]) (nofun) (λb o _ y _ e n=>u.keep b o e n y (by simp)) (λb o _ y _ e n=>u.slot b o e n y (by simp)) (λb o _ e n=>u.free b o e n (by simp)) (λb o _ e=>u.there b o e (by simp)) u.IJ u.GI u.HI (λS L=>by obtain⟨M,j,q,d,F⟩:=L;rw[B]at d;cases d;exact⟨_,j,q,J,F⟩) SA I.bare
def Inv.call{g':Array GenState}{d':Drawn}{ch:List vW}(I:Inv X wS σ H s)(u:Un (OI X.stack) ch H H' s.heap h')(SA:ZE X.prog X.w H' h')(W:AllBare g')
  (q:∀b∈ch,(b∈X.ex\/X.s₀.heap.objs.size<=b)/\b≠X.env.locals/\(∀x c,X.env.cells.lookup x=uA c->c≠b)/\∀p∈X.pn++wS,p.1≠b):
  Inv X wS σ H' {s with heap:=h',gens:=g',drawn:=d',toks:=t'}:=by
 obtain⟨m,⟨o,Z,Y,M,r⟩,_⟩:=id I.loc;obtain⟨sl,J⟩:=u.any M I.free λz=>(q _ z).2.1 rfl
 exact I.step q (λb o J O i e n=>u.keep b o e n (λz=>(zw.mp (I.Nt b z)).elim J O) i) (λb o _ _ i e n=>u.any e n i) (λb o i e n=>u.free b o e n i) (λb o i e=>u.there b o e i) u.IJ u.GI u.HI (λm' U=>by obtain⟨o',y,B,j,S⟩:=U;rw[M]at j;cases j;exact⟨_,y,B,J,S⟩) SA W
def Inv.turned{it:vW}(I:Inv X wS σ H s)(k:∀b o,b≠it->s.heap.get? b=uA o->h'.get? b=uA o)(J:H it=uB)(y:it≠X.env.locals)
  (S:it∈X.ex\/X.s₀.heap.objs.size<=it) (L:∀x c,X.env.cells.lookup x=uA c->c≠it) (F:∀p∈X.pn++wS,p.1≠it):Inv X wS σ H {s with heap:=h',toks:=t'}:=by
 have j:∀b u,H b=uA u->b≠it:=λb u e z=>by rw[z,J]at e;cases e
 refine I.step (ch:=[it]) (λb M=>?_) (λb o _ _ i e _=>k b o (λz=>i (by simp[z])) e) (λb o _ _ i e _=>⟨o.slots,k b o (λz=>i (by simp[z])) e⟩) (λ_ _ _ _ n=>n)
  (λb o i e=>⟨o,k b o (λz=>i (by simp[z])) e⟩) (λ_ _ e=>e) (λ_ _ _ e=>e) (λb Y e=>⟨#[],by rw[e];simp⟩) (λm O=>?_) (λb u e=>?_) I.bare
 .have e:b=it:=by simpa using M
  subst e;exact⟨S,y,L,F⟩
 .obtain⟨o,N,W,U,r⟩:=O;exact⟨o,N,W,k _ o (Ne.symm y) U,r⟩
 refine(I.SA b u e).ZF (λc v i q=>k c v ?_ q) (λ_ q=>q) λ_ _ q=>q
 rcases i with z|z
 .rw[z];exact j b u e
 exact j c _ z
def Inv.tok(I:Inv X wS σ H s)(t:Nat):Inv X wS σ H {s with toks:=t}:=I.un Un.refl I.SA
def Inv.kept(I:Inv X wS σ H s)(k:∀b u,s.heap.get? b=uA u->h'.get? b=uA u):Inv X wS σ H {s with heap:=h',toks:=t'}:=I.un (Un.kept k) (I.SA.kept k)
def Inv.laid{a:vW}{o:HO}(I:Inv X wS σ H s)(k:∀b u,s.heap.get? b=uA u->h'.get? b=uA u)(hp:s.heap.objs.size<=a)(new:VB X.prog X.w (upd H a o) h' a o):
  Inv X wS σ (upd H a o) {s with heap:=h',toks:=t'}:=I.un (Un.laid k hp (I.SA.fresh hp)) (I.SA.laid k hp new)
def Inv.write(I:Inv X wS σ H s)(j:LU (H x))(n:e=x\/H e=uA (.own x))(k:∀b u,b≠e->s.heap.get? b=uA u->h'.get? b=uA u)(d:∃u,h'.get? e=uA u)
  (new:VB X.prog X.w (upd H x o) h' x o):Inv X wS σ (upd H x o) {s with heap:=h',toks:=t'}:=I.un (Un.write j n k d) (I.SA.write j n k d new)
def Inv.Gm(I:Inv X wS σ H s)(h:∀p∈pins',s.heap.get? p.1=uA p.2/\H p.1=uB/\p.1≠X.env.locals/\p.1∉X.fs/\∀v,p.2.data≠ .cell v):Inv X pins' σ H s:=
 ⟨I.ok,I.os,I.bare,I.base,I.loc,I.cell,I.free,I.Gh,λp hp=>(qJ.mp hp).elim (λz=>I.pin p (qT _ z)) (h p),I.SA,I.len⟩
def aC{N:List Str}(n:N.Nodup){i j:Nat}{x:Str}(a:N[i]?=uA x)(b:N[j]?=uA x):i=j:=by obtain⟨z,d⟩:=zX.mp a;obtain⟨y,q⟩:=zX.mp b;exact(List.getElem_inj n).mp (d.trans q.symm)
def Zy{M:Model}{A:vK}{E:vB->vk->Prop}{i:Nat}{x:Str}{v:V}{u:vB}{Q:Unit->vk->Prop}(I:Inv X wS σ H s)(hN:X.N.Nodup)(hi:X.N[i]?=uA x)(O:Loc X.env.scope x)(r:RelV v u)
  (h:∀s',Inv X wS (σ.set i (uA v)) H s'->(∃a,jK a s.heap s'.heap/\(a=X.env.locals\/X.env.cells.lookup x=uA a))->Q () s') (hf:X.fn x=uC\/X.env.scope.names.lookup x=uA .local:=by first|exact .inl rfl|exact .inr rfl|assumption):wq M A (storeName X.env x u) Q E s:=by
 obtain⟨m,hn,hl⟩:=id I.loc;have SZ:(X.env.scope.kind == .class||(X.env.scope.kind == .module&&X.env.locals != X.env.globals))=uD:=by rw[I.ok.kind];rfl
 have W:i<lN σ:=by rw[I.len];exact(zX.mp hi).1
 have NR:=I.NR;have J:∀{a:vW}{h':Heap},(∃o,s.heap.get? a=uA o/\H a=uB)->jK a s.heap h'->ZE X.prog X.w H h':=λ{a h'}ha B b ob e=>by
  obtain⟨_,_,S⟩:=ha;refine(I.SA b ob e).ZF (λc w' L q=>(B.2 c ?_).trans q) (λ_ q=>q) λ_ _ q=>q
  rintro rfl;rcases L with rfl|L
  .rw[S]at e;cases e
  rw[S]at L;cases L
 rcases O with hk|hk
 .refine wpAny_storeName_local hk hn (λh' hn' B=>?_) SZ;obtain⟨oL,_,_,hoL,_⟩:=id hn;refine h _ ⟨I.ok,I.os,I.bare,⟨λb o e n Y O=>?_,λb o e n Y O=>?_,I.base.free,λb o e O=>?_,I.base.IJ,I.base.GI,I.base.HI⟩,⟨_,hn',λj y v' F U e3=>?_⟩,λy c e=>?_,I.free,I.Gh,λp hp=>?_,J ⟨oL,hoL,I.free⟩ B,by simpa using I.len⟩ ⟨_,B,.inl rfl⟩
  .exact(B.2 b (qZ (zj (zD e) I.ok.above))).trans (I.base.keep b o e n Y O)
  .obtain⟨sl,F⟩:=I.base.slot b o e n Y O;exact⟨sl,(B.2 b (qZ (zj (zD e) I.ok.above))).trans F⟩
  .obtain⟨o',F⟩:=I.base.there b o e O;exact⟨o',(B.2 b (qZ (zj (zD e) I.ok.above))).trans F⟩
  .by_cases hj:j=i
   .subst hj;rw[hi]at F;cases F;rw[qA W]at U;cases U;exact⟨u,r,.inl ⟨hk,by simp⟩⟩
   rw[z0 (Ne.symm hj)]at U;obtain⟨u',r',q⟩:=hl j y v' F U e3;refine⟨u',r',?_⟩;rcases q with⟨k,e⟩|⟨k,c,e,z⟩
   .refine .inl ⟨k,?_⟩;have:y≠x:=λe=>hj (aC hN F (e▸hi))
    simp[this,e]
   exact .inr ⟨k,c,e,z.sameBut B (NR y c e)⟩
  .obtain⟨w',z⟩:=I.cell y c e;exact⟨w',z.sameBut B (NR y c e)⟩
  obtain⟨e,n,ne,nf,d⟩:=I.pin p hp;exact⟨(B.2 p.1 ne).trans e,n,ne,nf,d⟩
 have Z:X.fn x=uC:=by
  rcases hf with z|z
  .exact z
  rw[z]at hk;cases hk
 obtain⟨c,L⟩:=I.ok.has x (.inl hk);obtain⟨w',z⟩:=I.cell x c L;refine wpAny_storeName_cell I.ok.kind hk L z (λh' TZ B=>?_);obtain⟨oc,QU,UZ⟩:=id z;refine h {s with heap:=h'} ⟨I.ok,I.os,I.bare,⟨λb o e n Y O=>?_,λb o e n Y O=>?_,I.base.free,λb o e O=>?_,I.base.IJ,I.base.GI,I.base.HI⟩,⟨m,hn.sameBut B (Ne.symm (NR x c L)),λj y v' F U e3=>?_⟩,λy c' e=>?_,I.free,I.Gh,λp hp=>?_,J ⟨oc,QU,I.Gh x c L⟩ B,by simpa using I.len⟩ ⟨c,B,.inr L⟩
 .exact(B.2 b (qZ (zj (zD e) (I.ok.RT x c Z L)))).trans (I.base.keep b o e n Y O)
 .obtain⟨sl,F⟩:=I.base.slot b o e n Y O;exact⟨sl,(B.2 b (qZ (zj (zD e) (I.ok.RT x c Z L)))).trans F⟩
 .obtain⟨o',F⟩:=I.base.there b o e O;exact⟨o',(B.2 b (qZ (zj (zD e) (I.ok.RT x c Z L)))).trans F⟩
 .by_cases hj:j=i
  .subst hj;rw[hi]at F;cases F;rw[qA W]at U;cases U;exact⟨u,r,.inr ⟨.inl hk,c,L,TZ⟩⟩
  .rw[z0 (Ne.symm hj)]at U;obtain⟨u',r',q⟩:=hl j y v' F U e3;refine⟨u',r',?_⟩;rcases q with q|⟨k,c',e,z'⟩
   .exact .inl q
   .refine .inr ⟨k,c',e,z'.sameBut B ?_⟩;rintro rfl;exact hj (aC hN F (I.ok.inj _ _ _ e L▸hi))
 .by_cases hcc:c'=c
  .subst hcc;exact⟨_,TZ⟩
  .obtain⟨w2,z2⟩:=I.cell y c' e;exact⟨w2,z2.sameBut B hcc⟩
 .obtain⟨e,n,ne,nf,d⟩:=I.pin p hp;refine⟨(B.2 p.1 ?_).trans e,n,ne,nf,d⟩;intro q;rw[q,QU]at e;exact d w' (by rw[<-(Option.some.inj e)];exact UZ)
def aD(I:Inv X wS σ H s)(n:X.N.Nodup)(hi:X.N[i]?=uA x)(q:Loc X.env.scope x)(r:RelV v u)
  (h:∀s',Inv X wS (σ.set i (uA v)) H s'->Q () s') (d:X.fn x=uC\/X.env.scope.names.lookup x=uA .local:=by first|exact .inl rfl|exact .inr rfl|assumption):wq M A (storeName X.env x u) Q E s:=
 Zy I n hi q r (λs' j _=>h s' j) d
def Inv.RU(I:Inv X wS σ H s)(ho:s'.os=s.os)(u:Un (OI X.stack) ch H H' s.heap s'.heap)(SA:ZE X.prog X.w H' s'.heap)(i:AllBare s'.gens)
  (d:∀b∈ch,(b∈X.ex\/X.s₀.heap.objs.size<=b)/\b≠X.env.locals/\(∀x c,X.env.cells.lookup x=uA c->c≠b)/\∀p∈X.pn++wS,p.1≠b):Inv X wS σ H' s':=by
 obtain⟨j,z,q,y,n⟩:=s';have e:=ho;subst e;exact I.call u SA i d
end
noncomputable abbrev XK:=vB->Option vW->Hp->Prop
noncomputable abbrev St:=List (Option V)
noncomputable abbrev VK:=V->Hp->Prop
noncomputable abbrev TE:=St->Hp->VK->Prop
noncomputable abbrev TT:=St->Hp->(Bool->Hp->Prop)->Prop
noncomputable abbrev TA:=St->Hp->(List V->Hp->Prop)->Prop
structure Ends where
 nx:St->Hp->Prop
 rt:VK
 bk:St->Hp->Prop:=λ_ _=>False
 ct:St->Hp->Prop:=λ_ _=>False
noncomputable abbrev TS:=Ends->St->Hp->Prop
inductive EP (X:Cx) (wS:List (vW×Obj)) (σ:St) (Q:VK) (u:vB) (s':vk):Prop|mk (v:V) (H':Hp) (I:Inv X wS σ H' s') (r:RelV v u) (q:Q v H'):EP X wS σ Q u s'
inductive TP (X:Cx) (wS:List (vW×Obj)) (σ:St) (Q:Bool->Hp->Prop) (b:Bool) (s':vk):Prop|mk (H':Hp) (I:Inv X wS σ H' s') (q:Q b H'):TP X wS σ Q b s'
inductive AP (X:Cx) (wS:List (vW×Obj)) (σ:St) (Q:List V->Hp->Prop) (us:List vB) (s':vk):Prop|mk (vs:List V) (H':Hp) (I:Inv X wS σ H' s') (r:Vals vs us) (q:Q vs H'):AP X wS σ Q us s' inductive NP (X:Cx) (wS:List (vW×Obj)) (Q:St->Hp->Prop) (s':vk):Prop|mk (σ':St) (H':Hp) (I:Inv X wS σ' H' s') (q:Q σ' H'):NP X wS Q s' inductive RP (X:Cx) (wS:List (vW×Obj)) (Q:VK) (u:vB) (s':vk):Prop|mk (v:V) (σ':St) (H':Hp) (I:Inv X wS σ' H' s') (r:RelV v u) (q:Q v H'):RP X wS Q u s'
def SP(X:Cx)(wS:List (vW×Obj))(D:Ends)(f:Flow)(s':vk):Prop:=
 match f with
 |.next=>NP X wS D.nx s'
 |.brk=>NP X wS D.bk s'
 |.cont=>NP X wS D.ct s'
 |.ret u=>RP X wS D.rt u s'
def PE(X:Cx)(e:vY)(t:TE):Prop:=
 ∀(wS:List (vW×Obj))(s:vk)(σ:St)(H:Hp)(Q:VK),Inv X wS σ H s->t σ H Q->wq (vT X.prog X.w) X.A (eval e X.env) (EP X wS σ Q) X.xe s
def PT(X:Cx)(e:vY)(t:TT):Prop:=
 ∀(wS:List (vW×Obj))(s:vk)(σ:St)(H:Hp)(Q:Bool->Hp->Prop),Inv X wS σ H s->t σ H Q->wq (vT X.prog X.w) X.A (isTrue e X.env (eval e X.env)) (TP X wS σ Q) X.xe s
def PW(X:Cx)(e:vY)(t:TT):Prop:=
 ∀(whole:Sem vB)(wS:List (vW×Obj))(s:vk)(σ:St)(H:Hp)(Q:Bool->Hp->Prop),Inv X wS σ H s->t σ H Q->wq (vT X.prog X.w) X.A (isTrue e X.env whole) (TP X wS σ Q) X.xe s
def PW.pt(h:PW X e t):PT X e t:=h _
def PA(X:Cx)(es:List vY)(t:TA):Prop:=
 ∀(pos:Pos)(wS:List (vW×Obj))(s:vk)(σ:St)(H:Hp)(Q:List V->Hp->Prop),Inv X wS σ H s->t σ H Q->wq (vT X.prog X.w) X.A (spliced (vF pos (wW es X.env))) (AP X wS σ Q) X.xe s
def PS(X:Cx)(st:vA)(t:TS):Prop:=
 ∀(wS:List (vW×Obj))(s:vk)(σ:St)(H:Hp)(D:Ends),Inv X wS σ H s->t D σ H->wq (vT X.prog X.w) X.A (exec st X.env) (SP X wS D) X.xe s
def VH(X:Cx)(st:List vA)(t:TS):Prop:=
 ∀(wS:List (vW×Obj))(s:vk)(σ:St)(H:Hp)(D:Ends),Inv X wS σ H s->t D σ H->wq (vT X.prog X.w) X.A (execs st X.env) (SP X wS D) X.xe s
def YA{i:Type}{t:Sem i}{Q d:i->vk->Prop}{M:Model}{A:vK}{E:vB->vk->Prop}(h:wq M A t Q E s)(j:∀a s,Q a s->d a s):wq M A t d E s:=w5 h j λ_ _ x=>x
section
variable{X:Cx}
noncomputable def VZ(i:Nat):TE:=λσ H Q=>∃v,σ[i]?=uA (uA v)/\Q v H
noncomputable def tC(v:V):TE:=λ_ H Q=>Q v H
def kT{i:Nat}{x:Str}{pos:Pos}(M:X.N[i]?=uA x)(O:NU X.env.scope x)(q:(x==("__debug__":Str))=uD:=by decide)(y:(x==("__classdict__":Str))=uD:=by decide):PE X (.Name x pos) (VZ i):=by
 intro n s L H Q I h;obtain⟨v,e,h⟩:=h;obtain⟨m,B,F⟩:=I.loc;obtain⟨u,r,l⟩:=F i x v M e O;have j:EP X n L Q u s:=⟨v,H,I,r,h⟩;rcases l with⟨hk,J⟩|⟨hk,c,z,d⟩
 .exact wpAny_Name (wpAny_loadName_local I.ok.kind hk B J j) q
 rcases hk with hk|hk
 .exact wpAny_Name (wpAny_loadName_cell I.ok.kind hk z d j) q
 exact wpAny_Name (wpAny_loadName_free I.ok.kind hk z d j y) q
def kU{i j pos}:PE X (.Constant (.int i) j pos) (tC (.int i)):=λ_ _ _ H _ I h=>wpAny_Constant_int ⟨.int i,H,I.tok _,⟨_,rfl⟩,h⟩
def kW{b j pos}:PE X (.Constant (.bool b) j pos) (tC (.bl b)):=λ_ _ _ H _ I h=>Constant_bool ⟨.bl b,H,I,rfl,h⟩
def kX{j pos}:PE X (.Constant .none j pos) (tC .KA):=λ_ _ _ H _ I h=>Constant_none ⟨.KA,H,I,rfl,h⟩
def kY{x j pos}:PE X (.Constant (.str x) j pos) (tC (.str x)):=λ_ _ _ H _ I h=>Calls.Constant_str ⟨.str x,H,I.tok _,⟨_,rfl⟩,h⟩
def Gl(X:Cx)(x:Str):Prop:=X.env.kindOf x=uA .globalImplicit
def Z3{E:vB->vk->Prop}{j:St}{H:Hp}{x:Str}{u:vB}{pos:Pos}{Q:vB->vk->Prop}(I:Inv X wS j H s)(n:Gl X x)(d:X.mg x=uA u)(h:Q u s)
  (i:(x==("__debug__":Str))=uD:=by decide):wq (vT X.prog X.w) X.A (eval (.Name x pos) X.env) Q E s:=
 Calls.Name_function_global I.ok.kind n (Calls.loadGlobal_global (I.ok.glob▸I.mod.glob.keeps I.bk) d h) i
def Hv{E:vB->vk->Prop}{q:St}{H:Hp}{x:Str}{u:vB}{pos:Pos}{Q:vB->vk->Prop}(I:Inv X wS q H s)(d:Gl X x)(n:X.mg x=uB)(B:vL x=uA u)(h:Q u s)
  (i:x≠"__name__":=by decide) (z:(x==("__debug__":Str))=uD:=by decide):wq (vT X.prog X.w) X.A (eval (.Name x pos) X.env) Q E s:=by
 obtain⟨F,y,j⟩:=I.mod.blt;exact Calls.Name_function_global I.ok.kind d (Calls.loadGlobal_builtin (I.ok.glob▸I.mod.glob.keeps I.bk) n (I.ok.blt▸y.keeps I.bk) ((j x i).trans B) h) z
def kZ(j:Gl X x)(d:X.mg x=uA u)(r:RelV v u)(i:(x==("__debug__":Str))=uD:=by decide):PE X (.Name x pos) (tC v):=
 λ_ _ _ H _ I h=>Z3 I j d ⟨v,H,I,r,h⟩ i
def k4{x:Str}{v:V}{u:vB}{pos:Pos}(n:Gl X x)(j:X.mg x=uB)(q:vL x=uA u)(r:RelV v u)(i:x≠"__name__":=by decide)(d:(x==("__debug__":Str))=uD:=by decide):PE X (.Name x pos) (tC v):=
 λ_ _ _ H _ I h=>Hv I n j q ⟨v,H,I,r,h⟩ i d
variable{a b:vY}{ta tb:TE}{pos:Pos}
noncomputable def tB(t:TE):TT:=λσ H Q=>t σ H λx H1=>∃c,x=.bl c/\Q c H1
def k6{e:vY}{t:TE}(h:PE X e t)(z:∀i,isTrue e X.env i=(do let v<-i;standAt e.pos;holding [v] (truthy v)):=by intro _;rfl):PT X e (tB t):=by intro j s J H Q I hw;refine isTrue_plain (YA (h j s J H _ I hw) λv L ⟨x,y,B,n,F⟩=>?_) (z _);obtain⟨d,rfl,q⟩:=F;cases n;exact wE ⟨y,B,q⟩
variable{tA OX:TT}{rest:List vY}
noncomputable def TU(t u:TT):TT:=λσ H Q=>t σ H λc H1=>if c=uC then u σ H1 Q else Q uD H1
noncomputable def Lv(t u:TT):TT:=λσ H Q=>t σ H λc H1=>if c=uC then Q uC H1 else u σ H1 Q
noncomputable def WZ(t:TT):TT:=λσ H Q=>t σ H λc H1=>Q (!c) H1
theorem JO(j:PT X a tA):PW X (.BoolOp .And [a] pos) tA:=by
 intro q d s i H Q I h;refine isTrue_and (YA (j d s i H Q I h) λc n e=>?_);cases c with
 |true=>exact isTrue_and_nil e
 |false=>exact e
theorem OR(j:PT X a tA):PW X (.BoolOp .Or [a] pos) tA:=by
 intro q d s i H Q I h;refine isTrue_or (YA (j d s i H Q I h) λc n e=>?_);cases c with
 |false=>exact isTrue_or_nil e
 |true=>exact e
theorem QR(F:PT X a tA)(B:PW X (.BoolOp .And (b::rest) pos) OX):PW X (.BoolOp .And (a::b::rest) pos) (TU tA OX):=by
 intro z d s q H Q I h;refine isTrue_and (YA (F d s q H _ I h) λc y ⟨j,n,i⟩=>?_);cases c with
 |true=>exact B z d y q j Q n i
 |false=>exact⟨j,n,i⟩
theorem UU(F:PT X a tA)(B:PW X (.BoolOp .Or (b::rest) pos) OX):PW X (.BoolOp .Or (a::b::rest) pos) (Lv tA OX):=by
 intro z d s q H Q I h;refine isTrue_or (YA (F d s q H _ I h) λc y ⟨j,n,i⟩=>?_);cases c with
 |true=>exact⟨j,n,i⟩
 |false=>exact B z d y q j Q n i
def k7(i:PT X a tA):PT X (.UnaryOp .Not a pos) (WZ tA):=by intro d s j H Q I h;exact isTrue_not (YA (i d s j H (λc n=>Q (!c) n) I h) λ_ _ ⟨a,b,c⟩=>⟨a,b,c⟩)
noncomputable def k8(ta tb:TE):TE:=λσ H Q=>ta σ H λx H1=>∃c,x=.bl c/\if c=uC then tb σ H1 Q else Q (.bl uD) H1
noncomputable def k9(ta:TE):TE:=λσ H Q=>ta σ H λx H1=>∃c,x=.bl c/\Q (.bl (!c)) H1
def ka{op}(h:PE X a t):PE X (.BoolOp op [a] pos) t:=λd s i H Q I hw=>BoolOp_one (h d s i H Q I hw)
theorem kc(J:PE X a ta)(F:PE X (.BoolOp .And (b::rest) pos) tb):PE X (.BoolOp .And (a::b::rest) pos) (k8 ta tb):=by
 intro d s q H Q I h;refine BoolOp_and (YA (J d s q H _ I h) λv z y=>?_);obtain⟨x,j,n,B,i⟩:=y;obtain⟨c,rfl,i⟩:=i;cases B;refine wE ?_;cases c with
 |true=>exact F d z q j Q n i
 |false=>exact⟨.bl uD,j,n,rfl,i⟩
def ke(B:PE X a ta):PE X (.UnaryOp .Not a pos) (k9 ta):=by intro d s z H Q I h;refine UnaryOp_ (YA (B d s z H _ I h) λv F j=>?_);obtain⟨x,q,y,n,i⟩:=j;obtain⟨c,rfl,i⟩:=i;cases n;exact not_of (wE ⟨.bl (!c),q,y,rfl,i⟩)
noncomputable def tIf(t:TT)(ta tb:TE):TE:=λσ H Q=>t σ H λc H1=>if c=uC then ta σ H1 Q else tb σ H1 Q
theorem kf{c:vY}(J:PT X c tA)(L:PE X a ta)(F:PE X b tb):PE X (.IfExp c a b pos) (tIf tA ta tb):=by
 intro i s j H Q I h;refine wpAny_IfExp (YA (J i s j H _ I h) λd n B=>?_);obtain⟨y,z,q⟩:=B;cases d with
 |true=>exact L i n j y Q z q
 |false=>exact F i n j y Q z q
end
def OE(K:za)(H:Hp)(a:vW)(xs:List V):Prop:=
 Rd H a (.lst xs)\/
  ∃(o:Obj)(MA:Array vB)(n:Nat),K.lookup a=uA o/\o.cls=.type "list"/\o.dict=uB/\o.data=.seq MA n/\MA.size<=sizeLine/\Vals xs MA.toList
def VE(K:za)(H:Hp)(a:vW)(xs:List V):Prop:=
 Rd H a (.tup xs)\/
  ∃(o:Obj)(MA:Array vB)(n:Nat),K.lookup a=uA o/\o.cls=.type "tuple"/\o.data=.seq MA n/\MA.size<=sizeLine/\Vals xs MA.toList
noncomputable def XZ:vB->Option V
 |.none=>uA .KA
 |.bool b=>uA (.bl b)
 |.int i _=>uA (.int i)
 |.str x _=>uA (.str x)
 |.bytes b _=>uA (.byt b)
 |.float b _=>uA (.flt b)
 |.ref a=>uA (.ref a)
 |.type n=>uA (.ty n)
 |_=>uB
theorem RelV.abs(r:RelV x u):XZ u=uA x:=by
 cases x with
 |KA|bl _=>cases r;rfl
 |ref _|ty _=>cases r;rfl
 |_=>obtain⟨t,rfl⟩:=r;rfl
def RelV.inj(r:RelV x u)(q:RelV y u):x=y:=Option.some.inj (r.abs.symm.trans q.abs)
theorem Vals.inj:∀{xs ys:List V}{us:List vB},Vals xs us->Vals ys us->xs=ys
 |_,_,_,.nil,.nil=>rfl
 |_,_,_,.cons r t,.cons d i=>by rw[r.inj d,Vals.inj t i]
section
variable{X:Cx}{wS:List (vW×Obj)}{σ:St}{H:Hp}{s:vk}{a:vW}{xs ys:List V}
def OE.of{K:za}(h:H a=uA (.lst xs)):OE K H a xs:=.inl (.inl h)
def VE.of{K:za}(h:H a=uA (.tup xs)):VE K H a xs:=.inl (.inl h)
def Inv.list(I:Inv X wS σ H s)(h:OE X.K H a xs):∃MA:List vB,Vals xs MA/\PlainL s.heap a MA.toArray/\xs.length<=sizeLine:=by
 rcases h with h|⟨o,MA,n,hk,d,i,j,q,r⟩
 .obtain⟨z,MA,n,r,e⟩:=h.ok I.SA;exact⟨MA,r,⟨_,n,e,rfl,rfl,rfl⟩,z⟩
 refine⟨MA.toList,r,⟨o,n,I.WG a o hk,d,i,by simpa using j⟩,?_⟩;have e:=r.length;simp[jV]at e;lia
def Inv.tuple(I:Inv X wS σ H s)(h:VE X.K H a xs):∃MA:List vB,Vals xs MA/\IsTup s.heap a MA.toArray/\xs.length<=sizeLine:=by
 rcases h with h|⟨o,MA,n,hk,d,i,j,r⟩
 .obtain⟨z,MA,r,p⟩:=h.ok I.SA;exact⟨MA,r,p,z⟩
 refine⟨MA.toList,r,⟨o,I.WG a o hk,d,n,by simpa using i⟩,?_⟩;have e:=r.length;simp[jV]at e;lia
def Inv.Yc(I:Inv X wS σ H s)(h:OE X.K H a xs)(h':OE X.K H a ys):xs=ys:=by
 obtain⟨j,r,⟨o,n,e,_,_,d⟩,_⟩:=I.list h;obtain⟨i,z,⟨F,J,q,_,_,y⟩,_⟩:=I.list h';rw[e]at q;cases q;rw[d]at y;injection y with B _
 have:j=i:=by simpa using congrArg Array.toList B
 subst this;exact r.inj z
def Inv.Yx(I:Inv X wS σ H s)(h:VE X.K H a xs)(h':VE X.K H a ys):xs=ys:=by
 obtain⟨j,r,⟨o,e,_,n,d⟩,_⟩:=I.tuple h;obtain⟨i,z,⟨F,q,_,J,y⟩,_⟩:=I.tuple h';rw[e]at q;cases q;rw[d]at y;injection y with B _
 have:j=i:=by simpa using congrArg Array.toList B
 subst this;exact r.inj z
end
noncomputable abbrev Cx.XG(X:Cx)(E:vB->vk->Prop):Cx:={X with xe:=E}
noncomputable abbrev Cx.TR(X:Cx):Cx:=X.XG λ_ _=>False
def Cx.Ok.XG{X:Cx}(ok:X.Ok)(E:vB->vk->Prop):(X.XG E).Ok:=
 ⟨ok.mod,ok.kind,ok.glob,ok.blt,ok.above,ok.inj,ok.has,ok.RT,ok.hd,ok.frames,ok.PU,ok.QZ,ok.bs,ok.MN,ok.YK,ok.ZK,ok.NF,ok.VP⟩
def Cx.Ok.OF{X:Cx}{E:vB->vk->Prop}(ok:(X.XG E).Ok):X.Ok:=
 ⟨ok.mod,ok.kind,ok.glob,ok.blt,ok.above,ok.inj,ok.has,ok.RT,ok.hd,ok.frames,ok.PU,ok.QZ,ok.bs,ok.MN,ok.YK,ok.ZK,ok.NF,ok.VP⟩
section
variable{X:Cx}{wS:List (vW×Obj)}{σ:St}{H:Hp}{s:vk}{E:vB->vk->Prop}
def Inv.XG(I:Inv X wS σ H s)(E:vB->vk->Prop):Inv (X.XG E) wS σ H s:=⟨I.ok.XG E,I.os,I.bare,I.base,I.loc,I.cell,I.free,I.Gh,I.pin,I.SA,I.len⟩
def Inv.OF(I:Inv (X.XG E) wS σ H s):Inv X wS σ H s:=⟨I.ok.OF,I.os,I.bare,I.base,I.loc,I.cell,I.free,I.Gh,I.pin,I.SA,I.len⟩
theorem SP.OF(h:SP (X.XG E) wS D f s'):SP X wS D f s':=by
 cases f with
 |ret u=>obtain⟨v,d,i,I,r,q⟩:=h;exact⟨v,d,i,I.OF,r,q⟩
 |_=>obtain⟨d,i,I,q⟩:=h;exact⟨d,i,I.OF,q⟩
def VH.TR{st:List vA}{t:TS}(h:VH X.TR st t):VH X st t:=λd s i H D I hw=>
 w5 (h d s i H D (I.XG _) hw) (λ_ _ q=>q.OF) λ_ _ z=>False.elim z
end
section
variable{X:Cx}{st:vA}{rest:List vA}{t u:TS}{e:vY}{te:TE}{pos:Pos}
noncomputable def kh:TS:=λD σ H=>D.nx σ H
noncomputable def YZ(t u:TS):TS:=λD σ H=>t {D with nx:=u D} σ H
def ki:VH X [] kh:=λ_ _ d H _ I h=>wpAny_execs_nil ⟨d,H,I,h⟩
theorem kj(F:PS X st t)(y:VH X rest u):VH X (st::rest) (YZ t u):=by
 intro d s B H D I h;refine wpAny_execs_cons (YA (F d s B H {D with nx:=u D} I h) λf j q=>?_);cases f with
 |next=>
  obtain⟨i,n,z,q⟩:=q;exact y d j i n D z q
 |_=>exact q
theorem kl(j:PS X st t):VH X [st] t:=by
 intro d s i H D I h;refine wpAny_execs_cons (YA (j d s i H D I h) λf n q=>?_);cases f with
 |next=>exact wpAny_execs_nil q
 |_=>exact q
def Inv.quiet{d:St}{H:Hp}(I:Inv X wS d H s):interactive X.env=uD:=by simp[interactive,I.ok.kind]
noncomputable def km(te:TE):TS:=λD σ H=>te σ H λ_ H1=>D.nx σ H1
def kn(y:PE X e te)(z:swapsWith e uB pos.line X.env=pure uD:=by rfl):PS X (.Expr e pos) (km te):=by intro d s i H D I h;exact wpAny_Expr_any (YA (y d s i H _ I h) λv B ⟨x,n,q,F,j⟩=>⟨i,n,q,j⟩) I.quiet z
noncomputable def ZZ(te:TE):TS:=λD σ H=>te σ H D.rt
def ko(z:PE X e te):PS X (.Return (uA e) pos) (ZZ te):=by intro d s i H D I h;exact wpAny_Return_some (YA (z d s i H _ I h) λv B ⟨x,q,y,j,n⟩=>⟨x,i,q,y,j,n⟩)
noncomputable def G0(c:TT)(t u:TS):TS:=λD σ H=>c σ H λb H1=>if b=uC then t D σ H1 else u D σ H1
theorem kq{c:vY}{a b:List vA}{q:TT}(L:PT X c q)(M:VH X a t)(J:VH X b u):PS X (.If c a b pos) (G0 q t u):=by
 intro i s j H D I h;refine wpAny_If (YA (L i s j H _ I h) λd n F=>?_);obtain⟨y,z,B⟩:=F;cases d with
 |true=>exact M i n j y D z B
 |false=>exact J i n j y D z B
end
noncomputable abbrev TG:=V->St->Hp->(St->Hp->Prop)->Prop
noncomputable abbrev ZP:=List V->St->Hp->(St->Hp->Prop)->Prop
def PG(X:Cx)(target:vY)(t:TG):Prop:=
 ∀(wS:List (vW×Obj))(s:vk)(σ:St)(H:Hp)(v:V)(u:vB)(Q:St->Hp->Prop),Inv X wS σ H s->RelV v u->t v σ H Q->
  wq (vT X.prog X.w) X.A (assign target X.env u) (λ_=>NP X wS Q) X.xe s
def GQ(X:Cx)(ts:List vY)(t:ZP):Prop:=
 ∀(wS:List (vW×Obj))(s:vk)(σ:St)(H:Hp)(vs:List V)(us:List vB)(Q:St->Hp->Prop),Inv X wS σ H s->Vals vs us->t vs σ H Q->
  wq (vT X.prog X.w) X.A (assignInOrder ((vD ts X.env).map (·.2)) us) (λ_=>NP X wS Q) X.xe s
noncomputable abbrev UR:=V->V->V->Hp->(Hp->Prop)->Prop
def VR(X:Cx)(t:UR):Prop:=
 ∀(wS:List (vW×Obj))(s:vk)(σ:St)(H:Hp)(o i v:V)(ov iv u:vB)(Q:Hp->Prop),Inv X wS σ H s->RelV o ov->RelV i iv->RelV v u->t o i v H Q->
  wq (vT X.prog X.w) X.A (setItem ov iv u) (λ_ s'=>∃H',Inv X wS σ H' s'/\Q H') X.xe s
noncomputable abbrev Nw:=V->V->Hp->VK->Prop
def Pw(X:Cx)(op:Operator)(t:Nw):Prop:=
 ∀(wS:List (vW×Obj))(s:vk)(σ:St)(H:Hp)(x y:V)(v u:vB)(Q:VK),Inv X wS σ H s->RelV x v->RelV y u->t x y H Q->
  wq (vT X.prog X.w) X.A (inplaceOp op v u) (EP X wS σ Q) X.xe s
section
variable{X:Cx}{pos:Pos}
noncomputable def aE(i:Nat):TG:=λv σ H Q=>Q (σ.set i (uA v)) H
def kr(q:X.N.Nodup)(hi:X.N[i]?=uA x)(j:Loc X.env.scope x)(y:X.fn x=uC\/X.env.scope.names.lookup x=uA .local:=by first|exact .inl rfl|exact .inr rfl|assumption):PG X (.Name x pos) (aE i):=by intro d s z H v u Q I r h;exact wpAny_assign_Name (aD I q hi j r (λB n=>⟨_,H,n,h⟩) y)
noncomputable def H0:ZP:=λvs σ H Q=>vs=[]/\Q σ H
noncomputable def kt(t:TG)(u:ZP):ZP:=λvs σ H Q=>∃v r,vs=v::r/\t v σ H λσ' H'=>u r σ' H' Q
def ku:GQ X [] H0:=by intro d s i H j n Q I r h;obtain⟨e,h⟩:=h;subst e;cases r;exact assignInOrder_nil ⟨i,H,I,h⟩
theorem ky{e:vY}{es:List vY}{t:TG}{u:ZP}(L:PG X e t)(n:GQ X es u)
  (M:(vD (e::es) X.env).map (·.2)=assign e X.env::(vD es X.env).map (·.2):=by rfl):GQ X (e::es) (kt t u):=by
 intro d s J H O S Q I r h;obtain⟨v,N,B,h⟩:=h;subst B;cases r with
 |cons r F=>
  rw[M];exact assignInOrder_cons (YA (L d s J H _ _ _ I r h) λ_ j ⟨i,q,z,y⟩=>(n d j i q _ _ Q z F y))
noncomputable def K0(K:za)(n:Nat)(t:ZP):TG:=λv σ H Q=>∃a xs,v=.ref a/\VE K H a xs/\lN xs=n/\t xs σ H Q
def lC{es:List vY}{k:Nat}{t:ZP}{n:Nat}(J:X.calm=uC)(h:GQ X es t)
  (y:(vD es X.env).length=n:=by rfl) (i:(vD es X.env).findIdx? (·.1)=uB:=by rfl):PG X (.Tuple es k pos) (K0 X.K n t):=by
 intro d s L H v u Q I r hw;obtain⟨a,M,F,N,B,hw⟩:=hw;subst F;cases r;obtain⟨z,rv,j,S⟩:=I.tuple N;exact assign_Tuple_tuple (I.ok.hd J) j (by simp[y,<-B,rv.length]) i λO q=>(h d _ L H M _ Q (I.kept (t':=s.toks) λb o e=>q b o (qZ (zD e)) e) (by simpa using rv) hw)
noncomputable def L0(to ti:TE)(t:UR):TG:=λv σ H Q=>to σ H λo H1=>ti σ H1 λi H2=>t o i v H2 λH3=>Q σ H3
def aF{o i:vY}{q ti:TE}{t:UR}(ho:PE X o q)(hi:PE X i ti)(hs:VR X t)
  (Y:∀v,assign (.Subscript o i pos) X.env v=(do
   let ov<-holding [v] (eval o X.env);let iv<-holding [v,ov] (eval i X.env)
   standAt pos
   holding [v,ov,iv] (setItem ov iv v)
   release [v,ov,iv] []):=by intro _;rfl):PG X (.Subscript o i pos) (L0 q ti t):=by
 intro d s j H v u Q I r h;rw[Y];refine wj (wk (YA (ho d s j H _ I h) λov Z n=>?_));obtain⟨x,z,B,J,q1⟩:=n;refine wj (wk (YA (hi d Z j z _ B q1) λiv S n=>?_));obtain⟨y,N,W,M,O⟩:=n;exact wj (wpAny_standAt (wj (wk (YA (hs d S j N x y v ov iv u _ W J M r O) λ_ s3 ⟨L,F,U⟩=>(wpAny_release ⟨j,L,F,U⟩)))))
noncomputable def Uz(te:TE)(g:TG):TS:=λD σ H=>te σ H λx H1=>g x σ H1 D.nx
def lD{e:vY}{te:TE}{g:TG}(B:PE X e te)(N:PG X tg g)(L:swapsWithSole [tg] e pos.line X.env=pure uD:=by rfl)(hw:swappedStores [tg] e X.env=pure uB:=by rfl)
  (M:(vD [tg] X.env).map (·.2)=[assign tg X.env]:=by rfl):PS X (.Assign [tg] e pos) (Uz te g):=by
 intro d s i H D I h;refine wpAny_Assign_stores (YA (B d s i H _ I h) λv n j=>?_) L hw;obtain⟨x,z,F,y,J⟩:=j;rw[M];exact YA (N d n i z x v _ F y J) λ_ O q=>q
def lH{i:Nat}{x:Str}{e:vY}{te:TE}{d:Pos}(S:X.N.Nodup)(hi:X.N[i]?=uA x)(q:Loc X.env.scope x)(J:PE X e te)(M:swapsWith e (uA (.Name x d)) pos.line X.env=pure uD:=by rfl)(U:X.fn x=uC\/X.env.scope.names.lookup x=uA .local:=by first|exact .inl rfl|exact .inr rfl|assumption):
  PS X (.Assign [.Name x d] e pos) (Uz te (aE i)):=by
 intro j s O H D I h;exact wpAny_Assign_Name (YA (J j s O H _ I h) λv W ⟨y,B,F,n,L⟩=>(aD F S hi q n (λY z=>⟨_,B,z,L⟩) U)) M
noncomputable def Tx(f:Int->Int->Int):Nw:=λx y H Q=>∃i j,x=.int i/\y=.int j/\Q (.int (f i j)) H
def lJ:Pw X .Add (Tx λi j=>i+j):=by intro d s J H x y v u Q I n B h;obtain⟨i,j,z,F,q⟩:=h;subst z;subst F;obtain⟨t,rfl⟩:=n;obtain⟨L,rfl⟩:=B;exact iadd_int ⟨.int _,H,I.tok _,⟨_,rfl⟩,q⟩
def lK:Pw X .Sub (Tx λi j=>i-j):=by intro d s J H x y v u Q I n B h;obtain⟨i,j,z,F,q⟩:=h;subst z;subst F;obtain⟨t,rfl⟩:=n;obtain⟨L,rfl⟩:=B;exact isub_int ⟨.int _,H,I.tok _,⟨_,rfl⟩,q⟩
end
section
variable{X:Cx}{pos:Pos}
def lL(c:TT)(tb:TS):TS:=λD σ H=>∃W:Nat->St->Hp->Prop,(∃m,W m σ H)/\∀m σ H,W m σ H->
 c σ H λb H1=>if b=uC then∃N:St->Hp->Prop,(∀σ' H',N σ' H'->∃m',m'<m/\W m' σ' H')/\tb {D with nx:=N,ct:=N,bk:=D.nx} σ H1 else D.nx σ H1
theorem lM{c:vY}{body:List vA}{tc:TT}{tb:TS}(hp:PassesOwn (vT X.prog X.w) X.A X.env X.xe)(hc:PT X c tc)(hb:VH X body tb):PS X (.While c body [] pos) (lL tc tb):=by
 intro wS s σ H D I h;obtain⟨W,⟨m0,w0⟩,turn⟩:=h;refine wpAny_While (codeAny_whileLoop (λn s'=>∃σ' H',Inv X wS σ' H' s'/\W n σ' H') ?_ m0 ⟨σ,H,I,w0⟩);rintro n s1 ⟨σ1,H1,I1,w1⟩;refine w8 hp (YA (hc wS s1 σ1 H1 _ I1 (turn n σ1 H1 w1)) λb s2 zz=>?_);obtain⟨H2,I2,q2⟩:=zz;cases b with
 | true=>
  obtain⟨N,hN,q2⟩:=q2;rw[if_pos rfl];refine w8 hp (YA (hb wS s2 σ1 H2 _ I2 q2) λf s3 q3=>?_);cases f with
  |next|cont=>
   obtain⟨σ3,H3,I3,n3⟩:=q3;obtain⟨m',hm,w3⟩:=hN σ3 H3 n3;exact⟨m',hm,σ3,H3,I3,w3⟩
  |_=>exact q3
 |false=>
  rw[if_neg zL];exact wpAny_execs_nil ⟨σ1,H2,I2,q2⟩
end
structure It where
 go:Nat->Hp->Prop
 VU:Nat->Hp->V->Hp->Prop
 stop:Nat->Hp->Prop
def PD(X:Cx)(wS:List (vW×Obj))(H:Hp)(b:vW):Prop:=
 H b=uB/\b≠X.env.locals/\b∉X.fs/\(b∈X.ex\/X.s₀.heap.objs.size<=b)/\(∀x c,X.env.cells.lookup x=uA c->c≠b)/\∀p∈X.pn++wS,p.1≠b
def Inv.Hj{X:Cx}{j:St}{H H':Hp}{b:vW}(I:Inv X wS j H s)(d:s.heap.objs.size<=b)(i:H' b=uB):PD X wS H' b:=by
 refine⟨i,jw (zj I.lt d),I.YL d,.inr (zN I.sz d),λx c e z=>?_,λp hp z=>(absurd (zj (zD (I.pin p hp).1) (by rw[z];exact d)) (qB _))⟩
 .obtain⟨v,q⟩:=I.cell x c e;exact absurd (zj q.lt (z▸d)) (qB _)
structure Turn (P:vj) (w:vC) (K:za) (tg:vY) (J:It) (fp:List vW) (it:vW) (tn:Nat->Heap->Prop):Prop where
 mem:it∈fp
 obj:∀i h,tn i h->∀b∈fp,∃o,h.get? b=uA o/\∀v,o.data≠ .cell v
 keep:∀i h h',tn i h->(∀b∈fp,∀o,h.get? b=uA o->h'.get? b=uA o)->tn i h'
 item:∀(X:Cx),X.prog=P->X.w=w->X.K=K->X.calm=uC->∀(i:Nat)(wS:List (vW×Obj))(s:vk)(σ:St)(H:Hp)(E:vB->vk->Prop),Inv X wS σ H s->(∀b∈fp,PD X wS H b)->tn i s.heap->J.go i H->
  wq (vT P w) X.A (pyNext (.ref it)) (λr s1=>∃u,r=uA u/\
   wq (vT P w) X.A (vR tg (.ref it) u) (λ_ s2=>∃x H',Inv X wS σ H' s2/\RelV x u/\J.VU i H x H'/\tn (i+1) s2.heap/\∀b∈fp,H' b=uB) E s1) E s
 done:∀(X:Cx),X.prog=P->X.w=w->X.K=K->X.calm=uC->∀(i:Nat)(wS:List (vW×Obj))(s:vk)(σ:St)(H:Hp)(E:vB->vk->Prop),Inv X wS σ H s->(∀b∈fp,PD X wS H b)->tn i s.heap->J.stop i H->
  wq (vT P w) X.A (pyNext (.ref it)) (λr s1=>r=uB/\Inv X wS σ H s1) E s
 self:∀(A:vK)(i:Nat)(s:vk)(Q:vB->vk->Prop)(E:vB->vk->Prop),tn i s.heap->Q (.ref it) s->wq (vT P w) A (pyIter (.ref it)) Q E s
noncomputable abbrev TI:=St->Hp->(It->Hp->Prop)->Prop
def M0(X:Cx)(wS:List (vW×Obj))(σ:St)(tg:vY)(R:It->Hp->Prop)(O0:vB)(s2:vk):Prop:=
 ∃(it:vW)(fp:List vW)(tn:Nat->Heap->Prop)(J:It)(H':Hp),O0=.ref it/\Inv X wS σ H' s2/\Turn X.prog X.w X.K tg J fp it tn/\tn 0 s2.heap/\(∀b∈fp,PD X wS H' b)/\R J H'
def PI(X:Cx)(tg iter:vY)(wi:TI):Prop:=
 ∀(wS:List (vW×Obj))(s:vk)(σ:St)(H:Hp)(R:It->Hp->Prop),Inv X wS σ H s->wi σ H R->
  wq (vT X.prog X.w) X.A (eval iter X.env) (λv s1=>wq (vT X.prog X.w) X.A (pyIter v) (M0 X wS σ tg R) X.xe s1) X.xe s
def Jy(ho:s.heap.get? it=uA o)(hc:o.cls=.type n)(hd:o.data=.fields vs)
  (hn: ["enumerate","zip","dict_itemiterator","dict_reverseitemiterator","odict_iterator","itertools.zip_longest","itertools.pairwise"].contains n=uD) (hQ:Q () s):wq M A (vR tg (.ref it) u) Q E s:=by
 unfold vR
 cases tg<;>first
  |exact w9 hQ
  | (cases u<;>first
    |exact w9 hQ
    | (
      refine wj (wpAny_load ho ?_);rw[hc,hd];show wq M A (if(["enumerate","zip","dict_itemiterator","dict_reverseitemiterator","odict_iterator","itertools.zip_longest","itertools.pairwise"].contains n&&vs[0]?==uA (vU _))=uC then _ else _) Q E s;rw[if_neg (by intro h;rw[hn,Bool.false_and]at h;cases h)];exact w9 hQ))
noncomputable def Iy(K:za)(a:vW):It:=
 ⟨λi H=>∃xs x,OE K H a xs/\xs[i]?=uA x,λi H x H'=>H'=H/\∀xs,OE K H a xs->xs[i]?=uA x,λi H=>∃xs,OE K H a xs/\lN xs<=i⟩
noncomputable def Oy(K:za)(a:vW):It:=
 ⟨λi H=>∃xs x,VE K H a xs/\xs[i]?=uA x,λi H x H'=>H'=H/\∀xs,VE K H a xs->xs[i]?=uA x,λi H=>∃xs,VE K H a xs/\lN xs<=i⟩
noncomputable def PX(lo:Int)(n:Nat):It:=⟨λi _=>i<n,λi H x H'=>H'=H/\x=.int (lo+i),λi _=>n<=i⟩
def lO{w:vC}{K:za}(a it:vW):Turn P w K tg (Iy K a) [it] it (λi h=>h.IsListIter it a i) where
 mem:=by simp
 obj:=λi h j b n=>by
  have e:b=it:=by simpa using n
  subst e;obtain⟨o,e,c,d⟩:=j;exact⟨o,e,λv z=>by rw[d]at z;cases z⟩
 keep:=λi h h' j k=>j.at λo e=>k it (by simp) o e
 item:=by
  intro X hP hw U hc i q s σ H E I F j Z;subst hP hw U;obtain⟨xs,x,B,L⟩:=Z;obtain⟨S,rv,p,hz⟩:=I.list B;obtain⟨u,hu,ru⟩:=rv.get L;obtain⟨O,J,f2,Y,M,N⟩:=F it (by simp);refine wpAny_pyNext_list_item j p.isList (by simpa using hu) λh' y sb=>?_
  obtain⟨o,e,c,d⟩:=id y;exact⟨u,rfl,Jy e c d (by decide) ⟨x,H,I.turned (t':=s.toks) (λb o n e=>(sb.2 b n).trans e) O J Y M N,ru,⟨rfl,λys hy=>(I.Yc hy B)▸L⟩,y,λb n=>(F b n).1⟩⟩
 done:=by intro X hP hw U hc i q s σ H E I F j Z;subst hP hw U;obtain⟨xs,B,L⟩:=Z;obtain⟨S,rv,p,hz⟩:=I.list B;obtain⟨O,J,f2,Y,M,N⟩:=F it (by simp);have hl:=rv.length;exact wpAny_pyNext_list_end (I.ok.hd hc) j p.isList (by simp;lia) λh' eb=>⟨rfl,I.turned (λb o n e=>eb b o n e) O J Y M N⟩
 self:=λ_ _ _ _ _ j h=>wpAny_pyIter_listiter j h
def lP{w:vC}{K:za}(a it:vW):Turn P w K tg (Oy K a) [it] it (λi h=>h.IsTupleIter it a i) where
 mem:=by simp
 obj:=λi h j b n=>by
  have e:b=it:=by simpa using n
  subst e;obtain⟨o,e,c,d⟩:=j;exact⟨o,e,λv z=>by rw[d]at z;cases z⟩
 keep:=λi h h' j k=>j.at λo e=>k it (by simp) o e
 item:=by
  intro X hP hw U hc i q s σ H E I F j Z;subst hP hw U;obtain⟨xs,x,B,L⟩:=Z;obtain⟨S,rv,p,hz⟩:=I.tuple B;obtain⟨u,hu,ru⟩:=rv.get L;obtain⟨O,J,f2,Y,M,N⟩:=F it (by simp);refine wpAny_pyNext_tuple_item j (p) (by simpa using hu) λh' y sb=>?_
  obtain⟨o,e,c,d⟩:=id y;exact⟨u,rfl,Jy e c d (by decide) ⟨x,H,I.turned (t':=s.toks) (λb o n e=>(sb.2 b n).trans e) O J Y M N,ru,⟨rfl,λys hy=>(I.Yx hy B)▸L⟩,y,λb n=>(F b n).1⟩⟩
 done:=by intro X hP hw U hc i q s σ H E I F j Z;subst hP hw U;obtain⟨xs,B,L⟩:=Z;obtain⟨S,rv,p,hz⟩:=I.tuple B;obtain⟨O,J,f2,Y,M,N⟩:=F it (by simp);have hl:=rv.length;exact wpAny_pyNext_tuple_end (I.ok.hd hc) j (p) (by simp;lia) λh' eb=>⟨rfl,I.turned (λb o n e=>eb b o n e) O J Y M N⟩
 self:=λ_ _ _ _ _ j h=>wpAny_pyIter_tupleiter j h
def lQ{w:vC}{K:za}(it:vW)(lo:Int)(n:Nat):Turn P w K tg (PX lo n) [it] it (λi h=>IsRangeIter h it (lo+(i:Nat)*1) ((n:Int)-(i:Nat)) 1) where
 mem:=by simp
 obj:=λi h d b j=>by
  have e:b=it:=by simpa using j
  subst e;exact⟨_,d,λv z=>by have z':=z;cases z'⟩
 keep:=λi h Z d k=>k it (by simp) _ d
 item:=by
  intro X Y hw N S i q s σ H E I B d U;subst Y hw N;obtain⟨M,F,f2,O,J,L⟩:=B it (by simp);refine(Walks.range (prog:=X.prog) (w:=X.w) (I.ok.hd S) it lo 1 n).item i s _ _ U d λv Z tk hv y kk=>?_
  obtain⟨t,rfl⟩:=hv;refine⟨_,rfl,Jy y rfl rfl (by decide) ⟨.int (lo+i),H,I.turned (λb o j e=>kk b o (by simpa using j) e) M F O J L,⟨t,?_⟩,⟨rfl,rfl⟩,y,λb j=>(B b j).1⟩⟩;rw[Int.mul_one]
 done:=by intro X Y hw N S i q s σ H E I B d U;subst Y hw N;obtain⟨M,F,f2,O,J,L⟩:=B it (by simp);exact wpAny_pyNext_range_end (I.ok.hd S) d (by have:n<=i:=U;lia) λZ eb=>⟨rfl,I.turned (λb o j e=>eb b o j e) M F O J L⟩
 self:=λ_ _ _ _ _ d h=>wpAny_pyIter_rangeiter d h
section
variable{X:Cx}{tg:vY}
def lR(K:za)(tl:TE):TI:=λσ H R=>tl σ H λx H1=>∃a,x=.ref a/\(∃xs,OE K H1 a xs)/\R (Iy K a) H1
def S0(K:za)(tl:TE):TI:=λσ H R=>tl σ H λx H1=>∃a,x=.ref a/\(∃xs,VE K H1 a xs)/\R (Oy K a) H1
def Vf{l:vY}{n:TE}(M:PE X l n):PI X tg l (lR X.K n):=by
 intro d s N H R I h;refine YA (M d s N H _ I h) λv j y=>?_
 obtain⟨x,F,i,z,L⟩:=y;obtain⟨a,e,⟨U,O⟩,q⟩:=L;subst e;cases z;obtain⟨B,rv,p,S⟩:=i.list O;refine wpAny_pyIter_list p.isList ?_;refine⟨j.heap.objs.size,[j.heap.objs.size],_,_,F,rfl,i.kept λb o e=>zJ _ e,lO a _,⟨_,zA _ rfl,rfl,rfl⟩,λb J=>?_,q⟩;have e:b=j.heap.objs.size:=by simpa using J
 subst e;exact i.Hj (zx _) (i.SA.fresh (zx _))
def lT{l:vY}{n:TE}(M:PE X l n):PI X tg l (S0 X.K n):=by
 intro d s N H R I h;refine YA (M d s N H _ I h) λv j y=>?_
 obtain⟨x,F,i,z,L⟩:=y;obtain⟨a,e,⟨U,O⟩,q⟩:=L;subst e;cases z;obtain⟨B,rv,p,S⟩:=i.tuple O;refine wpAny_pyIter_tuple (p) ?_;refine⟨j.heap.objs.size,[j.heap.objs.size],_,_,F,rfl,i.kept λb o e=>zJ _ e,lP a _,⟨_,zA _ rfl,rfl,rfl⟩,λb J=>?_,q⟩;have e:b=j.heap.objs.size:=by simpa using J
 subst e;exact i.Hj (zx _) (i.SA.fresh (zx _))
def lU{z:St}{H:Hp}{R:It->Hp->Prop}{E:vB->vk->Prop}{lo hi:Int}{t u v:Tok}{tk:Nat}(I:Inv X wS z H s)(M: -(2^62)<=lo)(F:lo<2^62)(B: -(2^62)<=hi)(N:hi<2^62)
  (q:R (PX lo (hi-lo).toNat) H):wq (vT X.prog X.w) X.A (pyIter (.ref s.heap.objs.size)) (M0 X wS z tg R) E {s with heap:=s.heap.push {cls:=.type "range",data:=.fields #[.int lo t,.int hi u,.int 1 v]},toks:=tk}:=by
 refine wpAny_pyIter_range (IsRange.new ..) (small_one M F B N) ?_;have y:Inv X wS z H {s with heap:=s.heap.push {cls:=.type "range",data:=.fields #[.int lo t,.int hi u,.int 1 v]},toks:=tk}:=I.kept λb o e=>zJ _ e
 refine⟨(s.heap.push {cls:=.type "range",data:=.fields #[.int lo t,.int hi u,.int 1 v]}).objs.size,[(s.heap.push {cls:=.type "range",data:=.fields #[.int lo t,.int hi u,.int 1 v]}).objs.size],_,_,H,rfl,
  y.kept λb o e=>zJ _ e,lQ _ lo (hi-lo).toNat,?_,λb J=>?_,q⟩
 .have L:lo+((0:Nat):Int)*1=lo:=by simp
  have O:(((hi-lo).toNat:Nat):Int)-((0:Nat):Int)=Builtin.Range.rangeSize lo hi 1:=by rw[rangeSize_one];split <;> lia
  rw[L,O];exact zA _ rfl
 have e:b=(s.heap.push {cls:=.type "range",data:=.fields #[.int lo t,.int hi u,.int 1 v]}).objs.size:=by simpa using J
 subst e;exact y.Hj (zx _) (y.SA.fresh (zx _))
def lV(ta:TA):TI:=λσ H R=>ta σ H λvs H1=>∃j:Int,vs=[.int j]/\ -(2^62)<=j/\j<2^62/\R (PX 0 j.toNat) H1
theorem lW{a:vY}{ta:TA}{p pos:Pos}(z:Gl X "range")(F:X.mg "range"=uB)(N:PA X [a] ta)(M:wW [a] X.env=[(uD,eval a X.env)]:=by rfl):PI X tg (.Call (.Name "range" p) [a] [] pos) (lV ta):=by
 intro d s L H R I h;refine Call_ (Hv I z F boot_range (qa (YA (N pos d s L H _ I h) λY S n=>?_) M rfl));obtain⟨W,U,B,y,i⟩:=n;obtain⟨j,e,i,O,q⟩:=i;subst e;cases y with
 |cons r J=>
  cases J;obtain⟨t,rfl⟩:=r;exact call_range_1 (lU B (by lia) (by lia) i O (by simpa using q))
def WU(wi:TI)(g:TG)(tb:TS):TS:=λD σ H=>wi σ H λJ H1=>∃W:Nat->Nat->St->Hp->Prop,(∃m,W 0 m σ H1)/\∀i m σ H,W i m σ H->
 (J.stop i H/\D.nx σ H)\/(J.go i H/\∃N:St->Hp->Prop,(∀σ' H',N σ' H'->∃m',m'<m/\W (i+1) m' σ' H')/\∀x H',J.VU i H x H'->g x σ H' λσ2 H2=>tb {D with nx:=N,ct:=N,bk:=D.nx} σ2 H2)
noncomputable def Lz(fp:List vW)(h:Heap):List (vW×Obj):=fp.filterMap λb=>(h.get? b).map λo=>(b,o)
def Rv(d:b∈fp)(e:h.get? b=uA o):(b,o)∈Lz fp h:=List.mem_filterMap.mpr ⟨b,d,by rw[e];rfl⟩
theorem aG(hp:p∈Lz fp h):p.1∈fp/\h.get? p.1=uA p.2:=by
 obtain⟨b,i,e⟩:=List.mem_filterMap.mp hp;cases q:h.get? b with
 |none=>rw[q]at e;cases e
 |some o=>
  rw[q]at e;have d:=Option.some.inj e;subst d;exact⟨i,q⟩
def Inv.pinned{n:St}{H:Hp}{fp:List vW}(I:Inv X wS n H s)(F:∀b∈fp,PD X wS H b)(ho:∀b∈fp,∃o,s.heap.get? b=uA o/\∀v,o.data≠ .cell v):Inv X (wS++Lz fp s.heap) n H s:=
 I.Gm λp hp=>(qJ.mp hp).elim (λz=>I.pin p (zG _ z)) λz=>by obtain⟨i,e⟩:=aG z;obtain⟨B,q,y,_⟩:=F p.1 i;obtain⟨o,j,d⟩:=ho p.1 i;rw[e]at j;cases j;exact⟨e,B,q,y,d⟩
def Inv.GG{pl:List (vW×Obj)}{d:St}{H:Hp}(I:Inv X (wS++pl) d H s):Inv X wS d H s:=I.Gm λp hp=>I.pin p (zG _ (qT _ hp))
theorem lX(hp:PassesOwn (vT X.prog X.w) X.A X.env X.xe)(hc:X.calm=uC)(hi:PI X tg iter wi)(hg:PG X tg g)(z:VH X body tb)
  (hs:∀x,foldedSetIterable iter X.env x=pure x:=by intro _;rfl):PS X (.For tg iter body [] pos) (WU wi g tb):=by
 intro j s σ H D I h;refine wpAny_For (YA (hi j s σ H _ I h) λv s1 h1=>YA h1 λO0 s2 h2=>?_) hs;obtain⟨it,fp,tn,J,H2,e,I2,T,st2,f2,W,⟨m0,w0⟩,turn⟩:=h2;subst e;have F:∀{L:Hp},(∀b∈fp,L b=uB)->∀b∈fp,PD X j L b:=λhn b z=>⟨hn b z,(f2 b z).2⟩
 refine codeAny_forLoop_any (λn s'=>∃i y L,Inv X j y L s'/\tn i s'.heap/\(∀b∈fp,L b=uB)/\W i n y L) ?_ m0 ⟨0,σ,H2,I2,st2,λb z=>(f2 b z).1,w0⟩;rintro n s3 ⟨i,B,H3,I3,Z,fr3,w3⟩;rcases turn i n B H3 w3 with⟨stop,qn⟩|⟨go,N,hN,step⟩
 .refine w8 hp (YA (T.done X rfl rfl rfl hc i j s3 B H3 X.xe I3 (F fr3) Z stop) λr s4 ⟨hr,I4⟩=>?_);subst hr;exact wpAny_execs_nil ⟨B,H3,I4,qn⟩
 refine w8 hp (YA (T.item X rfl rfl rfl hc i j s3 B H3 X.xe I3 (F fr3) Z go) λr s4 zz=>?_);obtain⟨u,hr,h4⟩:=zz;subst hr;refine w8 hp (YA h4 λ_ s5 zz=>?_);obtain⟨x,H5,I5,r5,y5,Y,fr5⟩:=zz;refine w8 hp (YA (hg _ s5 B H5 x u _ (I5.pinned (F fr5) (T.obj _ _ Y)) r5 (step x H5 y5)) λ_ s6 ⟨σ6,H6,I6,q6⟩=>?_);refine w8 hp (YA (z _ s6 σ6 H6 _ I6 q6) λf s7 U=>?_)
 have S:∀{q:St}{M:Hp},Inv X (j++Lz fp s5.heap) q M s7->N q M->∃m,m<n/\∃i y L,Inv X j y L s7/\tn i s7.heap/\(∀b∈fp,L b=uB)/\W i m y L:=λ{q M}O n7=>by obtain⟨m',hm,w7⟩:=hN q M n7;refine⟨m',hm,i+1,q,M,O.GG,T.keep _ _ _ Y λb z o e=>(O.pin (b,o) (zG _ (zG _ (Rv z e)))).1,λb z=>?_,w7⟩;obtain⟨o,e,d⟩:=T.obj _ _ Y b z;exact(O.pin (b,o) (zG _ (zG _ (Rv z e)))).2.1
 cases f with
 |brk=>obtain⟨q,M,O,U⟩:=U;exact⟨q,M,O.GG,U⟩
 |ret v=>obtain⟨x7,q,M,O,r7,U⟩:=U;exact⟨x7,q,M,O.GG,r7,U⟩
 |_=>obtain⟨q,M,O,n7⟩:=U;exact S O n7
end
noncomputable abbrev R2:=V->V->Hp->VK->Prop
def WB(X:Cx)(f:vB->vB->Sem vB)(r:R2):Prop:=
 ∀(wS:List (vW×Obj))(s:vk)(σ:St)(H:Hp)(x y:V)(v u:vB)(Q:VK),Inv X wS σ H s->RelV x v->RelV y u->r x y H Q->
  wq (vT X.prog X.w) X.A (f v u) (EP X wS σ Q) X.xe s
def UT(X:Cx)(f:vB->Sem vB)(r:V->Hp->VK->Prop):Prop:=
 ∀(wS:List (vW×Obj))(s:vk)(σ:St)(H:Hp)(x:V)(v:vB)(Q:VK),Inv X wS σ H s->RelV x v->r x H Q->
  wq (vT X.prog X.w) X.A (f v) (EP X wS σ Q) X.xe s
def OB(X:Cx)(f:vB)(r:List V->Hp->VK->Prop):Prop:=
 ∀(wS:List (vW×Obj))(s:vk)(σ:St)(H:Hp)(xs:List V)(us:List vB)(Q:VK),Inv X wS σ H s->Vals xs us->r xs H Q->
  wq (vT X.prog X.w) X.A (call f us) (EP X wS σ Q) X.xe s
noncomputable def XU(r:R2)(ta tb:TE):TE:=λσ H Q=>ta σ H λx H1=>tb σ H1 λy H2=>r x y H2 Q
noncomputable def tUn(r:V->Hp->VK->Prop)(ta:TE):TE:=λσ H Q=>ta σ H λx H1=>r x H1 Q
noncomputable def rI(C:Int->Int->Prop)(g:Int->Int->V):R2:=λx y H Q=>∃i j,x=.int i/\y=.int j/\C i j/\Q (g i j) H
noncomputable def HQ(g:Int->Int->V):R2:=λx y H Q=>∃i j,x=.int i/\y=.int j/\Q (g i j) H
def rU(g:Int->V):V->Hp->VK->Prop:=λx H Q=>∃i,x=.int i/\Q (g i) H
section
variable{X:Cx}{a b c:vY}{ta tb tc:TE}{pos:Pos}
def V7(O:PE X a ta)(J:PE X b tb){d:St}{H:Hp}{R:V->V->Hp->Prop}(I:Inv X wS d H s)
  (h:ta d H λx q=>tb d q λy i=>R x y i) {Q:vB->vk->Prop} {f:vB->vB->Sem vB}
  (U:∀v u s2 x y i,Inv X wS d i s2->RelV x v->RelV y u->R x y i->wq (vT X.prog X.w) X.A (f v u) Q X.xe s2):
  wq (vT X.prog X.w) X.A (eval a X.env) (λv j=>wq (vT X.prog X.w) X.A (eval b X.env) (λu n=>wq (vT X.prog X.w) X.A (f v u) Q X.xe n) X.xe j) X.xe s:=by
 refine YA (O wS s d H _ I h) λv z ⟨x,q,L,B,F⟩=>?_
 exact YA (J wS z d q _ L F) λu s2 ⟨y,i,M,N,S⟩=>(U v u s2 x y i M B N S)
def lY{op:Operator}{r:R2}(ho:WB X (vI op) r)(B:PE X a ta)(n:PE X b tb):PE X (.BinOp a op b pos) (XU r ta tb):=by intro d s z H Q I h;exact wpAny_BinOp (V7 B n I h λv u L x y F j i J q=>ho d L z F x y v u Q j i J q)
def lZ(ho:UT X (unaryOp op) r)(B:PE X a ta):PE X (.UnaryOp op a pos) (tUn r ta):=by intro d s i H Q I h;exact UnaryOp_ (YA (B d s i H _ I h) λv j ⟨x,y,z,n,q⟩=>ho d j i y x v Q z n q)
def QX{f:vB->vB->Sem vB}{C:Int->Int->Prop}{g:Int->Int->Int}
  (n:∀(i j:Int)(t u:Tok)(s:vk)(Q:vB->vk->Prop)(E:vB->vk->Prop),C i j->Q (.int (g i j) s.toks) {s with toks:=s.toks+1}->wq (vT X.prog X.w) X.A (f (.int i t) (.int j u)) Q E s):
  WB X f (rI C λi j=>.int (g i j)):=by
 intro z s M H x y v u Q I B L h;obtain⟨i,j,rfl,rfl,F,q⟩:=h;obtain⟨t,rfl⟩:=B;obtain⟨J,rfl⟩:=L;exact n i j t J s _ _ F ⟨.int (g i j),H,I.tok _,⟨_,rfl⟩,q⟩
def YU{f:vB->vB->Sem vB}{g:Int->Int->Int}
  (n:∀(i j:Int)(t u:Tok)(s:vk)(Q:vB->vk->Prop)(E:vB->vk->Prop),Q (.int (g i j) s.toks) {s with toks:=s.toks+1}->wq (vT X.prog X.w) X.A (f (.int i t) (.int j u)) Q E s):
  WB X f (HQ λi j=>.int (g i j)):=by
 intro z s L H x y v u Q I B J h;obtain⟨i,j,rfl,rfl,q⟩:=h;obtain⟨t,rfl⟩:=B;obtain⟨F,rfl⟩:=J;exact n i j t F s _ _ ⟨.int (g i j),H,I.tok _,⟨_,rfl⟩,q⟩
def Tg{f:vB->vB->Sem vB}{g:Int->Int->Bool}
  (d:∀(i j:Int)(t u:Tok)(s:vk)(Q:vB->vk->Prop)(E:vB->vk->Prop),Q (.bool (g i j)) s->wq (vT X.prog X.w) X.A (f (.int i t) (.int j u)) Q E s):
  WB X f (HQ λi j=>.bl (g i j)):=by
 intro n s J H x y v u Q I z F h;obtain⟨i,j,rfl,rfl,q⟩:=h;obtain⟨t,rfl⟩:=z;obtain⟨B,rfl⟩:=F;exact d i j t B s _ _ ⟨.bl (g i j),H,I,rfl,q⟩
def KO(i j:Int):Prop:=0<=j/\j<=1000000/\i.natAbs<2^64
def ZL(i j:Int):Prop:=(-(2^64)<i/\i<2^64)\/(-(2^64)<j/\j<2^64)
def ZL.ok(h:ZL i j):IntMulOk i j:=by
 rcases h with⟨n,d⟩|⟨n,d⟩
 .exact .of_left (intBits_le_64 n d)
 exact .of_right (intBits_le_64 n d)
def l0:WB X (vI .Add) (HQ λi j=>.int (i+j)):=YU λ_ _ _ _ _ _ _ q=>add_int q
def l5:WB X (vI .Sub) (HQ λi j=>.int (i-j)):=YU λ_ _ _ _ _ _ _ q=>sub_int q
def l6:WB X (vI .Mod) (rI (λ_ j=>0<j) λi j=>.int (i%j)):=QX λi j _ _ _ _ _ d q=>by exact mod_int' (by lia) (by rw[Int.fmod_eq_emod_of_nonneg i (by lia)];exact q)
def l7:WB X (vI .Pow) (rI KO λi j=>.int (i^j.toNat)):=QX λ_ _ _ _ _ _ _ d q=>pow_int_small d.1 d.2.1 d.2.2 q
def unI{f:vB->Sem vB}{g:Int->Int}
  (j:∀(i:Int)(t:Tok)(s:vk)(Q:vB->vk->Prop)(E:vB->vk->Prop),Q (.int (g i) s.toks) {s with toks:=s.toks+1}->wq (vT X.prog X.w) X.A (f (.int i t)) Q E s):
  UT X f (rU λi=>.int (g i)):=by
 intro n s z H x v Q I y h;obtain⟨i,rfl,q⟩:=h;obtain⟨t,rfl⟩:=y;exact j i t s _ _ ⟨.int (g i),H,I.tok _,⟨_,rfl⟩,q⟩
def l8:UT X (unaryOp .USub) (rU λi=>.int (-i)):=unI λ_ _ _ _ _ q=>neg_int q
end
section
variable{X:Cx}{a b c:vY}{ta tb tc:TE}{pos:Pos}
def Td{i:St}{H:Hp}{Q:VK}{k d:Bool}(I:Inv X wS i H s)(q:Q (.bl k) H)(e:k=d):EP X wS i Q (.bool d) s:=by subst e;exact⟨.bl k,H,I,rfl,q⟩
def l9:WB X (vN .Lt) (HQ λi j=>.bl (decide (i<j))):=Tg λ_ _ _ _ _ _ _ q=>lt_int q
def lg:WB X (vN .LtE) (HQ λi j=>.bl (decide (i<=j))):=Tg λ_ _ _ _ _ _ _ q=>le_int q
def lh:WB X (vN .Gt) (HQ λi j=>.bl (decide (j<i))):=Tg λ_ _ _ _ _ _ _ q=>gt_int q
def li:WB X (vN .GtE) (HQ λi j=>.bl (decide (j<=i))):=Tg λ_ _ _ _ _ _ _ q=>ge_int q
def lj:WB X (vN .Lt) (λx y H Q=>∃i j,x=.str i/\y=.str j/\Q (.bl (decide (i.cps.toList<j.cps.toList))) H):=by intro d s B H x y v u Q I n z h;obtain⟨i,j,rfl,rfl,q⟩:=h;obtain⟨t,rfl⟩:=n;obtain⟨F,rfl⟩:=z;exact lt_str (Td I q rfl)
def lm:WB X (vN .Is) (λx y H Q=>y=.KA/\Q (.bl (decide (x=.KA))) H):=by
 intro i s n H x y v u Q I d j h;obtain⟨rfl,q⟩:=h;cases j;refine is_none_gen (Td I q ?_)
 cases x<;>first
  |(cases d;rfl)
  |(obtain⟨t,rfl⟩:=d;rfl)
def lq:WB X (vN .IsNot) (λx y H Q=>y=.KA/\Q (.bl (!decide (x=.KA))) H):=by
 intro i s n H x y v u Q I d j h;obtain⟨rfl,q⟩:=h;cases j;refine isnot_none_gen (Td I q ?_)
 cases x<;>first
  |(cases d;rfl)
  |(obtain⟨t,rfl⟩:=d;rfl)
def lu:WB X (vN .NotIn) (λx y H Q=>∃i j,x=.str i/\y=.str j/\Q (.bl (!(!(jh j i 0 j.length 1).isEmpty))) H):=by intro d s B H x y v u Q I n z h;obtain⟨i,j,rfl,rfl,q⟩:=h;obtain⟨t,rfl⟩:=n;obtain⟨F,rfl⟩:=z;exact notIn_str (Td I q rfl)
def WB.or(h:WB X f r)(h':WB X f r'):WB X f (λx y H Q=>r x y H Q\/r' x y H Q):=by
 intro d s n H x y v u Q I j i q;rcases q with q|q
 .exact h d s n H x y v u Q I j i q
 exact h' d s n H x y v u Q I j i q
def KJ(b:vY)(h:op≠ .In:=by decide)(i:op≠ .NotIn:=by decide):vH op b=uD:=by
 have d:(op==CmpOp.In)=uD:=by cases op<;>first|rfl|exact absurd rfl h
 have j:(op==CmpOp.NotIn)=uD:=by cases op<;>first|rfl|exact absurd rfl i
 cases b<;>simp[vH,d,j]
def lx{op:CmpOp}{r:R2}(ho:WB X (vN op) r)(F:PE X a ta)(n:PE X b tb)(z:vH op b=uD):PE X (.Compare a [op] [b] pos) (XU r ta tb):=by intro d s B H Q I h;exact wpAny_Compare1 (V7 F n I h λv u M x y J j i L q=>ho d M B J x y v u Q j i L q) z
noncomputable def Pa(t:TE):TT:=λσ H Q=>t σ H λx H'=>∃k,x=.bl k/\Q k H'
def lz(ho:WB X (vN op) r)(Z:PE X a ta)(n:PE X b tb)(Y:vH op b=uD):PT X (.Compare a [op] [b] pos) (Pa (XU r ta tb)):=by
 intro d s i H Q I h;refine wpAny_isTrue_Compare1 (YA (Z d s i H _ I h) λv s1 ⟨x,j,q,F,q1⟩=>YA (n d s1 i j _ q q1) λu S ⟨y,N,W,M,O⟩=>
  YA (ho d S i N x y v u _ W F M O) λc s3 zz=>?_) Y
 obtain⟨z,J,B,L,k,e,U⟩:=zz;subst e;cases L;exact wE ⟨J,B,U⟩
noncomputable def aH(r r':R2)(ta tb tc:TE):TE:=λσ H Q=>ta σ H λx H1=>tb σ H1 λy H2=>r x y H2 λz H3=>∃k,z=.bl k/\
 (if k=uC then tc σ H3 λw' H4=>r' y w' H4 Q else Q (.bl uD) H3)
theorem mB(ho:WB X (vN op) r)(n:WB X (vN op') r')(ha:PE X a ta)(N:PE X b tb)(hc:PE X c tc)
  (hm:lastMarks [op,op'] [b,c]=uD:=by with_unfolding_all rfl):PT X (.Compare a [op,op'] [b,c] pos) (Pa (aH r r' ta tb tc)):=by
 intro i s j H Q I h;refine isTrue_chain (YA (ha i s j H _ I h) λv s1 ⟨x,M,O,Y,q1⟩=>test_link (YA (N i s1 j M _ O q1) λu s2 ⟨y,H2,I2,F,q2⟩=>
  YA (ho i s2 j H2 x y v u _ I2 Y F q2) λd s3 zz=>?_)) hm
 obtain⟨z,B,q,r3,k,e,J⟩:=zz;subst e;cases r3;refine wE ?_;cases k with
 |false=>
  obtain⟨k',e',q'⟩:=J;cases e';exact ite_ff ⟨B,q,q'⟩
 |true=>
  refine ite_tt (test_last (YA (hc i s3 j B _ q J) λw' s4 ⟨z',H4,I4,r4,S⟩=>YA (n i s4 j H4 y z' u w' _ I4 F r4 S) λd' s5 ⟨z2,W,U,Z,k2,e2,L⟩=>?_));subst e2;cases Z;exact wE ⟨W,U,L⟩
def WE:(sizeLine:Nat)<2^63:=by rw[wQ];decide
def mC:WB X (vI .Add) (λx y H Q=>∃i j,x=.str i/\y=.str j/\i.length+j.length<=sizeLine/\Q (.str (i++j)) H):=by intro d s L H x y v u Q I z F h;obtain⟨i,j,rfl,rfl,n,q⟩:=h;obtain⟨t,rfl⟩:=z;obtain⟨B,rfl⟩:=F;exact add_str (λB J=>⟨.str (i++j),H,I.tok _,⟨_,rfl⟩,q⟩) n
def mE:WB X (inplaceOp .Add) (λx y H Q=>∃i j,x=.str i/\y=.str j/\i.length+j.length<=sizeLine/\Q (.str (i++j)) H):=by intro d s L H x y v u Q I z F h;obtain⟨i,j,rfl,rfl,n,q⟩:=h;obtain⟨t,rfl⟩:=z;obtain⟨B,rfl⟩:=F;exact iadd_str (λB J=>⟨.str (i++j),H,I.tok _,⟨_,rfl⟩,q⟩) n
theorem vals1(r:Vals [x] us):∃u,us=[u]/\RelV x u:=by
 cases r with
 |cons d i=>cases i;exact⟨_,rfl,d⟩
theorem vals2(r:Vals [x,y] us):∃u d,us=[u,d]/\RelV x u/\RelV y d:=by
 cases r with
 |cons i q=>
  cases q with
  |cons n j=>cases j;exact⟨_,_,rfl,i,n⟩
def mF(y:X.calm=uC):OB X (.builtin "min") (λxs H Q=>∃i j,xs=[.int i,.int j]/\Q (.int (if j<i then j else i)) H):=by
 intro n s F H xs M Q I r h;obtain⟨i,j,rfl,q⟩:=h;obtain⟨u,J,rfl,⟨t,rfl⟩,⟨L,rfl⟩⟩:=vals2 r;refine min_two_ints (I.ok.hd y) λz B k=>⟨_,H,I.kept k,?_,q⟩
 by_cases d:j<i
 .rw[if_pos d,if_pos d];exact⟨_,rfl⟩
 rw[if_neg d,if_neg d];exact⟨_,rfl⟩
end
structure LJ (h:Heap) (x dx C:vW) (mA:Str->Option vB):Prop where
 obj:h.get? x=uA (zf C dx)
 ns:h.Ns1 dx mA
 ne:dx≠x
def mG{h:Heap}{i:vW}{B:Str->Option vB}(n:h.Ns1 i B):∃od,h.get? i=uA od/\∀name,qi name od=uA (B name):=by
 obtain⟨o,j,N,M,I,hk,_,J⟩:=n;refine⟨o,M,λname=>?_⟩;have e:=J name;unfold nsFind findBy at e;rw[<-Array.find?_toList]at e;unfold qi;rw[I];dsimp only;split
 .rename_i y q;rw[q]at e;exact congrArg uA e
 rename_i q;rw[q]at e
 have a:j.toList.any (·.refKey)=uD:=by rw[List.any_eq_false];intro y F;obtain⟨z,t,d⟩:=hk y (Array.mem_toList_iff.mp F);simp[DictEntry.refKey,d]
 have L:¬j.toList.any (·.refKey)=uC:=a▸zL
 rw[if_neg L];exact congrArg uA e
def LJ.look(I:LJ h x dx C mA):∃od,PySem.W.InstAt h x (zf C dx) C (uA od)/\∀name,qi name od=uA (mA name):=
 let⟨od,d,i⟩:=mG I.ns
 ⟨od,⟨I.obj,rfl,rfl,d⟩,i⟩
section
variable{prog:vj}{w:vC}{A:vK}{E:vB->vk->Prop}{s:vk}{K:za}{x dx C f:vW}{mA:Str->Option vB}{name:Str}{v:vB}
def mH(X:K.In s.heap)(I:LJ s.heap x dx C mA)(y:ja K C name=uC)(j:ji K C=uC)
  (q:zd K (.ref C) name=uA uB) (z:mA name=uA v) (i:wc v=uC) (h:Q v {s with toks:=s.toks+1}):
  wq (vT prog w) A (getAttr (.ref x) name expr) Q E s:=by
 obtain⟨B,J,n⟩:=I.look;exact PySem.W.get_value X J (xa y).1 (PySem.W.findObj_own j q rfl (by rw[n,z])) i h
def mI(X:K.In s.heap)(I:LJ s.heap x dx C mA)(d:ja K C name=uC)
  (y:zd K (.ref C) name=uA (uA (.ref f))) (i:xf K (.ref f)=uC) (q:mA name=uB) (h:Q (.ref f,[.ref x]) s):
  wq (vT prog w) A (getMethod (.ref x) name pl) Q E s:=by
 obtain⟨n,J,j⟩:=I.look
 exact PySem.W.method_fn X J (xa d).1 (xa d).2 y (beq_iff_eq.mp i) (by show(qi name n).map (·.isSome)=uA uD;rw[j,q];rfl) h
def mJ(X:K.In s.heap)(I:LJ s.heap x dx C mA)
  (U:zd K (.ref C) "__setattr__"=uA (uA (.builtin "object.__setattr__"))) (hp:wd K C=uC) (L:xg K C name=uA uB) (S:ji K C=uC)
  (hw:jg mA ns) (hsz:lN ns<=sizeLine)
  (h:∀h',LJ h' x dx C (λy=>if y=name then uA v else mA y)->jK dx s.heap h'->Q () {s with heap:=h',toks:=s.toks+2}):
  wq (vT prog w) A (setAttr (.ref x) name v) Q E s:=by
 obtain⟨od,J,Y⟩:=I.look;refine PySem.W.set_plain X J U (PySem.W.osa_open X J hp L λb=>?_);obtain⟨Z,O,F⟩:=PySem.W.any_some S;refine wj (w9 (wj (wj (wpAny_loadPart I.obj (wj (PySem.W.Looks.here (PySem.W.looks_clsIn X O) ?_))))));rw[F];refine w9 (wj (w9 (wj ?_)));refine wpAny_nsSet1 I.ns λh' i j=>?_
 obtain⟨oD,M,N,q,z,B⟩:=i.count (PySem.Within.cons name v hw);exact wj (wpAny_lookBehind q (by rw[z];exact pastItsLine_dict (zN B (by rw[zE];lia))) (w9 (h _ ⟨(j.2 _ (Ne.symm I.ne)).trans I.obj,i,I.ne⟩ j)))
def mL(X:K.In s.heap)(hm:we K C=uC)
  (hi:zd K (.ref C) "__init__"=uA (uA (.ref f))) (hf:PySem.W.typeIn K (.ref f)=uA (.type "function"))
  (h:codeAny (vT prog w) (A.under (.builtin "type.__call__" ⟨.ref C::vs,kw⟩)) (.call (.ref f) ⟨.ref (s.heap.objs.size+1)::vs,kw⟩) (PySem.W.InitBack (s.heap.objs.size+1) R)
   {s with heap:=(s.heap.push zg).push (zf C s.heap.objs.size)}):
  codeAny (vT prog w) A (.call (.ref C) ⟨vs,kw⟩) R s:=by
 obtain⟨hh,g,d,t,os⟩:=s;exact PySem.W.make_core (PySem.W.makes_of X hm) (PySem.W.looks_findIn X hi) (λself=>PySem.W.bind_fn X self hf) (.inl rfl) h
end
noncomputable def Ep(f:Str)(v:V):List (Str×V)->List (Str×V)
 |[]=>[(f,v)]
 |(g,x)::r=>if g=f then(g,v)::r else(g,x)::Ep f v r
theorem aJ(f g:Str)(v:V):∀fs:List (Str×V),(Ep f v fs).lookup g=if g=f then uA v else fs.lookup g
 |[]=>by
  show jE g [(f,v)]=_;by_cases h:g=f
  .have d:=beq_iff_eq.mpr h;simp[jE,d,if_pos h]
  have d:=beq_eq_false_iff_ne.mpr h;simp[jE,d,if_neg h]
 | (k,x)::r=>by
  rw[show Ep f v ((k,x)::r)=(if k=f then(k,v)::r else(k,x)::Ep f v r)from rfl]
  by_cases hk:k=f
  .rw[if_pos hk];by_cases h:g=k
   .have d:=beq_iff_eq.mpr h;simp[jE,d,if_pos (h.trans hk)]
   have d:=beq_eq_false_iff_ne.mpr h;simp[jE,d,if_neg (λe:g=f=>h (e.trans hk.symm))]
  rw[if_neg hk];by_cases h:g=k
  .have d:=beq_iff_eq.mpr h;simp[jE,d,if_neg (λe:g=f=>hk (h.symm.trans e))]
  .have d:=beq_eq_false_iff_ne.mpr h;simp[jE,d];exact aJ f g v r
theorem Vc(f:Str)(v:V):∀fs:List (Str×V),f∈(Ep f v fs).map (·.1)/\∀g,g∈fs.map (·.1)->g∈(Ep f v fs).map (·.1)
 |[]=>⟨by simp[Ep],λg h=>by simp at h⟩
 | (k,x)::r=>by
  obtain⟨i,d⟩:=Vc f v r
  rw[show Ep f v ((k,x)::r)=(if k=f then(k,v)::r else(k,x)::Ep f v r)from rfl]
  by_cases hk:k=f
  .rw[if_pos hk];subst hk;exact⟨by simp,λg h=>by simpa using h⟩
  rw[if_neg hk];refine⟨?_,λg h=>?_⟩
  .rw[zY];exact zV _ i
  .rw[zY]at h⊢;rcases zw.mp h with e|e
   .exact zw.mpr (.inl e)
   exact zV _ (d g e)
theorem aK(f:Str)(v:V):∀fs:List (Str×V),lN (Ep f v fs)<=lN fs+1
 |[]=>by simp[Ep]
 |(k,x)::r=>by
  have d:=aK f v r
  rw[show Ep f v ((k,x)::r)=(if k=f then(k,v)::r else(k,x)::Ep f v r)from rfl]
  by_cases hk:k=f
  .rw[if_pos hk,zE,zE];lia
  rw[if_neg hk,zE,zE];lia
theorem UE.LO(r:UE (uA v) o):∃u,o=uA u/\RelV v u:=by
 cases o with
 |none=>exact(r).elim
 |some u=>exact⟨u,rfl,r⟩
theorem UE.none_of(r:UE uB o):o=uB:=by
 cases o with
 |none=>rfl
 |some u=>exact(r).elim
theorem mM(r:RelV v u):wc u=uC:=by
 cases v with
 |KA|bl b=>cases(r);rfl
 |ref a|ty n=>cases(r);rfl
 |_=>obtain⟨t,e⟩:=(r);cases e;rfl
section
variable{P:vj}{w:vC}{H H':Hp}{h h':Heap}{a C dx:vW}{fs OZ:List (Str×V)}
def Ww(SA:ZE P w H h)(e:H a=uA (.ins C dx fs)):∃i,LJ h a dx C i/\(∀f,UE (fs.lookup f) (i f))/\jg i (fs.map (·.1))/\lN fs<=1000/\H dx=uA (.own a):=by obtain⟨d,z,y,j,i,n,r,q⟩:=(SA a _ e);exact⟨i,⟨j,n,y⟩,r,q,z,d⟩
end
structure HK (K:za) (C:vW):Prop where
 pg:ja K C Str.empty=uC
 hd:ji K C=uC
 po:wd K C=uC
 sa:zd K (.ref C) "__setattr__"=uA (uA (.builtin "object.__setattr__"))
def HK.get{K:za}{C:vW}(c:HK K C)(f:Str):ja K C f=uC:=c.pg
def GD(K:za)(C:vW)(f:Str):Prop:=zd K (.ref C) f=uA uB
def GD.ZU{K:za}{C:vW}{f:Str}(n:GD K C f):xg K C f=uA uB:=by
 unfold xg;rw[n]
 rfl
structure GL (K:za) (C:vW) (m:Str) (f:vW):Prop where
 at_:zd K (.ref C) m=uA (uA (.ref f))
 fn:xf K (.ref f)=uC
 kp:qd K (.ref f)=uC
section
variable{X:Cx}{wS:List (vW×Obj)}{σ:St}{H:Hp}{s:vk}{a C dx:vW}{fs:List (Str×V)}{f:Str}{v:V}{A:vK}{E:vB->vk->Prop}
def mN(I:Inv X wS σ H s)(e:H a=uA (.ins C dx fs))(c:HK X.K C)(n:GD X.K C f)(l:fs.lookup f=uA v)
  (h:∀u s',Inv X wS σ H s'->RelV v u->Q u s'):wq (vT X.prog X.w) A (getAttr (.ref a) f b) Q E s:=by
 obtain⟨j,O,r,_,_,_⟩:=Ww I.SA e;obtain⟨u,i,d⟩:=UE.LO (by rw[<-l];exact r f);exact mH I.WG O (c.get f) c.hd n i (mM d) (h u _ (I.tok _) d)
def aL(I:Inv X wS σ H s)(e:H a=uA (.ins C dx fs))(c:HK X.K C)(k:GL X.K C m g)(l:fs.lookup m=uB)
  (h:Q (.ref g,[.ref a]) s):wq (vT X.prog X.w) A (getMethod (.ref a) m pl) Q E s:=by
 obtain⟨d,O,r,_,_,_⟩:=Ww I.SA e;exact mI I.WG O (c.get m) k.at_ k.fn (UE.none_of (by rw[<-l];exact r m)) h
def mO(I:Inv X wS σ H s)(e:H a=uA (.ins C dx fs))(c:HK X.K C)(n:GD X.K C f)(Y:lN fs<1000)(W:RelV y u)
  (h:∀s',Inv X wS σ (upd H a (.ins C dx (Ep f y fs))) s'->Q () s'):wq (vT X.prog X.w) A (setAttr (.ref a) f u) Q E s:=by
 obtain⟨S,O,r,i,_,j⟩:=Ww I.SA e
 have L:lN (fs.map (·.1))<=sizeLine:=by rw[zq,wQ];lia
 refine mJ I.WG O c.sa c.po n.ZU c.hd i L λF d N=>h _ ?_
 have B:∃o,F.get? dx=uA o:=let⟨o,_,_,U,_⟩:=d.ns;⟨o,U⟩;refine I.write (e▸True.intro) (.inr j) (λb q M z=>(N.2 b M).trans z) B ?_;refine⟨(Ag O.ne)▸j,?_,O.ne,d.obj,_,d.ns,λg=>?_,λg J=>?_⟩
 .have:=aK f y fs;lia
 .rw[aJ];by_cases q:g=f
  .rw[if_pos q,if_pos q];exact W
  rw[if_neg q,if_neg q];exact r g
 by_cases q:g=f
 .rw[q];exact(Vc f y fs).1
 .refine(Vc f y fs).2 g (i g λz=>J ?_);show(if g=f then uA u else S g)=uB;rw[if_neg q];exact z
def Inv.made(I:Inv X wS σ H s):Inv X wS σ (upd (upd H s.heap.objs.size (.own (s.heap.objs.size+1))) (s.heap.objs.size+1) (.ins C s.heap.objs.size []))
  {s with heap:=(s.heap.push zg).push (zf C s.heap.objs.size)}:=by
 have e1:(s.heap.push zg).get? s.heap.objs.size=uA zg:=zA s.heap rfl;have e2:((s.heap.push zg).push (zf C s.heap.objs.size)).get? (s.heap.objs.size+1)=uA (zf C s.heap.objs.size):=by have:=zA (s.heap.push zg) (o:=zf C s.heap.objs.size) rfl;rwa[jY]at this
 refine(I.laid (a:=s.heap.objs.size) (o:=.own (s.heap.objs.size+1)) (h':=s.heap.push zg) (t':=s.toks) (λb u q=>zJ _ q) (zx _) ⟨_,e1⟩).laid (λb u q=>zJ _ q) (xq (jY _ _)) ?_;have ne:s.heap.objs.size≠s.heap.objs.size+1:=qZ (qC _);refine⟨by rw[Ag ne,Di],j6 _,ne,e2,λ_=>uB,(Heap.Ns1.of_empty ⟨zg,#[],_,e1,rfl,(λe he=>absurd he (by simp)),λ_=>rfl⟩).at λo q=>zJ _ q,λ_=>True.intro,λy hy=>absurd rfl hy⟩
def mP{f:Str}(i:vE e f env (eval e env)=eval e env)
  (h:wq (vT prog w) A (eval e env) (λo d=>wq (vT prog w) A (getAttr o f uC) Q E d) E s):wq (vT prog w) A (eval (.Attribute e f pos) env) Q E s:=
 Attribute_any_ h (by rw[arm_eval_Attribute,i])
end
def X0(K:za)(ta:TE)(f:Str):TE:=λσ H Q=>ta σ H λx H1=>∃a C dx fs v,x=.ref a/\H1 a=uA (.ins C dx fs)/\HK K C/\GD K C f/\fs.lookup f=uA v/\Q v H1
def L1(K:za)(ta tv:TE)(f:Str):TS:=λD σ H=>tv σ H λy H1=>ta σ H1 λx H2=>∃a C dx fs,x=.ref a/\H2 a=uA (.ins C dx fs)/\HK K C/\GD K C f/\lN fs<1000/\
 D.nx σ (upd H2 a (.ins C dx (Ep f y fs)))
section
variable{X:Cx}{o e value:vY}{f:Str}{pos pos' PH:Pos}{ta tv:TE}
def mQ(L:PE X e ta)(J:vE e f X.env (eval e X.env)=eval e X.env):PE X (.Attribute e f pos) (X0 X.K ta f):=by intro d s M H Q I h;refine mP J (YA (L d s M H _ I h) λu S i=>?_);obtain⟨x,z,B,y,a,C,W,fs,v,j,O,c,n,l,q⟩:=i;subst j;obtain rfl:u=Value.ref a:=y;exact mN B O c n l λU Y F N=>⟨v,z,F,N,q⟩
def mR(S:PE X o ta)(hv:PE X value tv)(Z:swapsWith value (uA (.Attribute o f pos')) pos.line X.env=pure uD):PS X (.Assign [.Attribute o f pos'] value pos) (L1 X.K ta tv f):=by intro d s i H D I h;refine plainObj_wpAny_Assign_Attribute (YA (hv d s i H _ I h) λu Y ⟨y,z,B,U,q⟩=>YA (S d Y i z _ B q) λO s2 W=>?_) Z;obtain⟨x,H2,N,L,a,C,dx,fs,j,J,c,n,l,M⟩:=W;subst j;obtain rfl:O=Value.ref a:=L;exact mO N J c n l U λs3 F=>⟨i,_,F,M⟩
end
section
variable{X:Cx}{wS:List (vW×Obj)}{σ:St}{H:Hp}{s:vk}{A:vK}{E:vB->vk->Prop}{Q:vB->vk->Prop}{c:vB}{b:Bool}
end
structure GB (k:Nat) (A:vK):Prop where
 hd:A.handled=uB
 dp:A.depth+3*k+5<recursionLimit
 un:A.units+16*k+200<cLine
def GB.mono(r:GB k A)(h:j<=k):GB j A:=⟨r.hd,by have:=r.dp;lia,by have:=r.un;lia⟩
def GB.deeper(r:GB (k+1) A)(env:Env):GB k (A.deeper env):=
 ⟨r.hd,by have:=r.dp;show A.depth+1+3*k+5<_;lia,by have:=r.un;show A.units+3+16*k+200<_;lia⟩
def GB.in1(r:GB (k+1) A):GB k A.in1:=
 ⟨r.hd,by have:=r.dp;show A.depth+3*k+5<_;lia,by have:=r.un;show A.units+1+16*k+200<_;lia⟩
def mS{A:vK}{C:vW}{us:List vB}{d:List (Str×vB)}:(A.under (.builtin "type.__call__" ⟨.ref C::us,d⟩)).depth=A.depth+1:=by
 first|rfl|simp[Around.under,Code.weight,Code.isCreation,Code.isGuard,Code.isCaller,Code.frames,Code.isFrame,guardIds]
def mT{A:vK}{C:vW}{us:List vB}{d:List (Str×vB)}:(A.under (.builtin "type.__call__" ⟨.ref C::us,d⟩)).units=A.units+1:=by
 first|rfl|simp[Around.under,Code.cUnits,Code.frames,Code.isFrame]
def GB.make(r:GB (k+1) A)(C:vW)(us:List vB)(d:List (Str×vB)):GB k (A.under (.builtin "type.__call__" ⟨.ref C::us,d⟩)):=
 ⟨r.hd,by have:=r.dp;rw[mS];lia,by have:=r.un;rw[mT];lia⟩
def GB.depth(r:GB k A):A.depth<recursionLimit:=by have:=r.dp;lia
def GB.units(r:GB k A):A.units+64<cLine:=by have:=r.un;lia
noncomputable def HV:TA:=λ_ H Q=>Q [] H
noncomputable def mU(ta:TE)(tr:TA):TA:=λσ H Q=>ta σ H λx H1=>tr σ H1 λxs H2=>Q (x::xs) H2
section
variable{X:Cx}{e:vY}{es:List vY}{te:TE}{t:TA}{pos:Pos}
def mV:PA X [] HV:=λ_ _ _ _ H Q I h=>Calls.spliced_nil ⟨[],H,I,.nil,h⟩
def mW(O:PE X e te)(L:PA X es t)(M:wW (e::es) X.env=(uD,eval e X.env)::wW es X.env:=by rfl):PA X (e::es) (mU te t):=by intro i d s j H Q I h;rw[M];show wq _ _ (spliced ((uD,eval e X.env)::vF i (wW es X.env))) _ _ s;exact Calls.spliced_cons (YA (O d s j H _ I h) λu n ⟨x,y,B,q,J⟩=>(YA (L i d n j y _ B J) λW Y ⟨F,S,z,N,U⟩=>⟨x::F,S,z,.cons q N,U⟩))
def N1(t:TA):TE:=λσ H Q=>t σ H λxs H1=>lN xs<=sizeLine/\∀p,H1 p=uB->Q (.ref p) (upd H1 p (.tup xs))
def Q1(t:TA):TE:=λσ H Q=>t σ H λxs H1=>lN xs<=sizeLine/\∀p,H1 p=uB->Q (.ref p) (upd H1 p (.lst xs))
def V9{x1}(h:PA X es t):PE X (.Tuple es x1 pos) (N1 t):=by intro d s y H Q I J;refine wpAny_Tuple_spliced (YA (h pos d s y H _ I J) λF i ⟨B,n,j,r,z,q⟩=>⟨by rw[<-r.length];exact z,?_⟩);exact⟨.ref i.heap.objs.size,upd n i.heap.objs.size (.tup B),j.laid (λb u e=>zJ _ e) (zx _) (⟨z,F,r,⟨_,zA _ rfl,rfl,_,rfl⟩⟩),rfl,q _ (j.SA.fresh (zx _))⟩
def mX(h:PA X es t):PE X (.List es pos) (Q1 t):=by intro d s y H Q I J;refine wpAny_List_spliced (YA (h pos d s y H _ I J) λF i ⟨B,n,j,r,z,q⟩=>⟨by rw[<-r.length];exact z,?_⟩);exact⟨.ref i.heap.objs.size,upd n i.heap.objs.size (.lst B),j.laid (λb u e=>zJ _ e) (zx _) ⟨z,F,0,r,zA _ rfl⟩,rfl,q _ (j.SA.fresh (zx _))⟩
end
noncomputable abbrev Sp:=List V->Hp->VK->XK->Prop
noncomputable abbrev RL:=List Env->Hp->vk->XK->vB->vk->Prop
structure HL (P:vj) (w:vC) (K:za) (mg:Str->Option vB) (base:Heap) (A:vK) (outer:List Env) (s:vk) (H:Hp):Prop where
 frames:A.frames=uA outer
 mod:Mod K mg base
 bs:∀b o,base.get? b=uA o->s.heap.get? b=uA o/\H b=uB
 MN:base.objs.size<=s.heap.objs.size
 NF:s.heap.FunFrames base outer
 VP:∀b∈OI outer,H b=uB
 SA:ZE P w H s.heap
 bare:AllBare s.gens
def CE(outer:List Env)(P:vj)(w:vC)(H:Hp)(s:vk)(Q:VK)(u:vB)(s':vk):Prop:=
 ∃v H',s'.os=s.os/\AllBare s'.gens/\Un (OI outer) [] H H' s.heap s'.heap/\ZE P w H' s'.heap/\RelV v u/\Q v H'
def CR(CX:RL)(outer:List Env)(P:vj)(w:vC)(H:Hp)(s:vk)(Q:VK)(E:XK)(r:Result)(s':vk):Prop:=
 match r with
 |.ok (.ret u)=>CE outer P w H s Q u s'
 |.ok _=>False
 |.error e=>CX outer H s E e s'
structure ID (P:vj) (w:vC) (K:za) (mg:Str->Option vB) (base:Heap) (CX:RL) (k:Nat) (f:vW) (fd:vq) (ps:List Str) (sp:Sp):Prop where
 len:∀vs H Q E,sp vs H Q E->lN vs=lN ps
 run:∀(A:vK)(outer:List Env)(s:vk)(H:Hp)(args:Args)(us:List vB)(vs:List V)(Q:VK)(E:XK),GB k A->HL P w K mg base A outer s H->BindsTo s fd args (ps.zip us)->Vals vs us->sp vs H Q E->
  codeAny (vT P w) A (.call (.ref f) args) (CR CX outer P w H s Q E) s
def HL.make{w:vC}{K:za}{i:Str->Option vB}{d:Heap}{A:vK}{outer:List Env}{H:Hp}(e:HL P w K i d A outer s H)(C:vW)(us:List vB)(j:List (Str×vB)):
  HL P w K i d (A.under (.builtin "type.__call__" ⟨.ref C::us,j⟩)) outer s H:=⟨by first|exact e.frames|(simpa[Around.under,Code.envs,Code.isFrame,pushEnvs]using e.frames),e.mod,e.bs,e.MN,e.NF,e.VP,e.SA,e.bare⟩
section
variable{X:Cx}{wS:List (vW×Obj)}{σ:St}{H:Hp}{s s':vk}
def Inv.IV(I:Inv X wS σ H s):HL X.prog X.w X.K X.mg X.base X.A X.stack s H:=
 ⟨I.ok.frames,I.ok.mod,I.bs,zN I.ok.MN I.sz,I.stack,I.Wg,I.SA,I.bare⟩
def Inv.after(I:Inv X wS σ H s)(h:CE X.stack X.prog X.w H s Q u s'):EP X wS σ Q u s':=by obtain⟨v,y,n,i,un,SA,r,q⟩:=h;obtain⟨B,g,d,t,j⟩:=s';obtain rfl:j=s.os:=n;exact⟨v,y,I.call un SA i (λb z=>absurd z (by simp)),r,q⟩
end
noncomputable def mY(sp:Sp)(KH:List V)(E:XK)(t:TA):TE:=λσ H Q=>t σ H λvs H1=>sp (vs++KH) H1 Q E
def V6(C:vW)(m:Str)(sp:Sp)(KH:List V)(E:XK)(ta:TE)(t:TA):TE:=λσ H Q=>ta σ H λx H1=>∃a dx fs,x=.ref a/\H1 a=uA (.ins C dx fs)/\fs.lookup m=uB/\
 t σ H1 λvs H2=>sp (x::(vs++KH)) H2 Q E
def mZ(C:vW)(sp:Sp)(KH:List V)(E:XK)(t:TA):TE:=λσ H Q=>t σ H λvs H1=>∀x dx,H1 x=uB->H1 dx=uB->dx≠x->
 sp (.ref x::(vs++KH)) (upd (upd H1 dx (.own x)) x (.ins C dx [])) (λv H2=>v=.KA/\Q (.ref x) H2) E
def Binds(K:za)(fd:vq)(ps:List Str)(ds:List vB):Prop:=
 ∀(s:vk)(us:List vB),K.In s.heap->lN (us++ds)=lN ps->BindsTo s fd ⟨us,[]⟩ (ps.zip (us++ds))
def Binds.all{K:za}{d:vq}{ps:List Str}(h:∀us:List vB,lN us=lN ps->bindArgs d ⟨us,[]⟩=pure (ps.zip us)):Binds K d ps []:=λs us _ i=>by rw[qV]at i⊢;exact .of_eq (h us i)
def Passes(CX:RL)(X:Cx)(E:XK):Prop:=∀(wS:List (vW×Obj))(σ:St)(H:Hp)(s:vk)(e:vB)(s':vk),Inv X wS σ H s->CX X.stack H s E e s'->X.xe e s'
section
variable{X:Cx}{CX:RL}{k:Nat}{f C:vW}{fd:vq}{ps:List Str}{sp:Sp}{KH:List V}{ds:List vB}{E:XK}{x m:Str}{p pos apos:Pos}{e o:vY}{es:List vY}{ta:TE}{t:TA}
theorem Yl{d:St}{H:Hp}{Q:VK}{us:List vB}{vs:List V}(F:ID X.prog X.w X.K X.mg X.base CX k f fd ps sp)(y:GB k X.A)(q:Binds X.K fd ps ds)(J:Vals KH ds)(n:Passes CX X E)
  (I:Inv X wS d H s) (r:Vals vs us) (h:sp (vs++KH) H Q E):wq (vT X.prog X.w) X.A (call (.ref f) us) (EP X wS d Q) X.xe s:=by
 have j:=r.append J;have B:(us++ds).length=ps.length:=by rw[<-j.length];exact F.len _ _ _ _ h
 refine wpAny_call (vM (F.run X.A X.stack s H ⟨us,[]⟩ (us++ds) (vs++KH) Q E y I.IV (q s us I.WG B) j h) λr z i=>?_);cases r with
 |error e=>exact n wS d H s e z I i
 |ok fl=>
  cases fl with
  |ret u=>exact I.after i
  |_=>exact False.elim i
def m7(F:ID X.prog X.w X.K X.mg X.base CX k f fd ps sp)(M:GB k X.A)(S:Gl X x)(L:X.mg x=uA (.ref f))(hk:qd X.K (.ref f)=uC)(B:Binds X.K fd ps ds)(y:Vals KH ds)(z:Passes CX X E)
  (N:PA X (e::es) t) (i:(x==("__debug__":Str))=uD:=by decide) (J:wW (e::es) X.env=(uD,eval e X.env)::wW es X.env:=by rfl) (j:(vF pos (wW es X.env)).any (·.1)=uD:=by rfl):
  PE X (.Call (.Name x p) (e::es) [] pos) (mY sp KH E t):=by
 intro d s O H Q I h;refine wz (Z3 I S L ?_ i);exact xh I.ok.mod.MU hk (YA (N pos d s O H _ I h) λus U ⟨Z,Y,n,r,q⟩=>⟨n.WG,Yl F M B y z n r q⟩) J j
def m9{pl:Sem Bool}(he:PE X o ta)(c:HK X.K C)(B:GL X.K C m f)(F:ID X.prog X.w X.K X.mg X.base CX k f fd ps sp)(hr:GB k X.A)(S:Binds X.K fd ps ds)(Y:Vals KH ds)(N:Passes CX X E)(ha:PA X (e::es) t)
  (j:wW (e::es) X.env=(uD,eval e X.env)::wW es X.env:=by rfl) (i:(vF pos (wW es X.env)).any (·.1)=uD:=by rfl)
  (L:eval (.Call (.Attribute o m apos) (e::es) [] pos) X.env=(do
   let ov<-eval o X.env
   standAt apos.atName
   let(f,first)<-holding [ov] (getMethod ov m pl)
   callWith pos f first (vF pos (wW (e::es) X.env)) (vG pos (vP [] X.env))):=by rfl):
  PE X (.Call (.Attribute o m apos) (e::es) [] pos) (V6 C m sp KH E ta t):=by
 intro d s y H Q I h;refine wf (YA (he d s y H _ I h) λu s1 zz=>?_) L;obtain⟨x,O,n,Z,a,dx,fs,M,U,l,q⟩:=zz;subst M;obtain rfl:u=Value.ref a:=Z;refine aL n U c B l ?_;exact xh I.ok.mod.MU B.kp (YA (ha pos d s1 y O _ n q) λus s2 ⟨J,H2,z,r,q2⟩=>⟨z.WG,Yl (vs:=.ref a::J) F hr S Y N z (.cons rfl r) q2⟩) j i
def md(M:PE X o ta)(c:HK X.K C)(j:GL X.K C m f)(F:ID X.prog X.w X.K X.mg X.base CX k f fd ps sp)(N:GB k X.A)(L:Binds X.K fd ps ds)(U:Vals KH ds)(B:Passes CX X E)
  (y:eval (.Call (.Attribute o m apos) [] [] pos) X.env=(do
   let ov<-eval o X.env
   standAt apos.atName
   let(f,first)<-holding [ov] (getMethod ov m pl)
   callWith pos f first (vF pos (wW [] X.env)) (vG pos (vP [] X.env))):=by rfl):
  PE X (.Call (.Attribute o m apos) [] [] pos) (V6 C m sp KH E ta HV):=by
 intro d s O H Q I h;refine wf (YA (M d s O H _ I h) λu Y n=>?_) y;obtain⟨x,Z,i,J,a,dx,fs,z,S,l,q⟩:=n;subst z;obtain rfl:u=Value.ref a:=J;exact aL i S c j l (PySem.W.callWith_K0 i.WG j.kp (Yl (vs:=[.ref a]) F N L U B i (.cons rfl .nil) q))
structure Mk (K:za) (C f:vW):Prop where
 makes:we K C=uC
 init:zd K (.ref C) "__init__"=uA (uA (.ref f))
 fn:xf K (.ref f)=uC
 kp:qd K (.ref C)=uC
theorem mf{σ:St}{H:Hp}{Q:VK}{us:List vB}{vs:List V}(M:Mk X.K C f)(F:ID X.prog X.w X.K X.mg X.base CX k f fd ps sp)(hr:GB (k+1) X.A)(hb:Binds X.K fd ps ds)(hd:Vals KH ds)
  (hx:Passes CX X E) (I:Inv X wS σ H s) (r:Vals vs us)
  (h:∀x dx,H x=uB->H dx=uB->dx≠x->sp (.ref x::(vs++KH)) (upd (upd H dx (.own x)) x (.ins C dx [])) (λv H2=>v=.KA/\Q (.ref x) H2) E):
  wq (vT X.prog X.w) X.A (call (.ref C) us) (EP X wS σ Q) X.xe s:=by
 have hq:=h (s.heap.objs.size+1) s.heap.objs.size (I.SA.fresh (jR _)) (I.SA.fresh (zx _)) (qZ (qC _));have I2:=Inv.made (C:=C) I;have r2:Vals (V.ref (s.heap.objs.size+1)::(vs++KH)) (Value.ref (s.heap.objs.size+1)::(us++ds)):=.cons rfl (r.append hd);have hl:(Value.ref (s.heap.objs.size+1)::us++ds).length=ps.length:=by have e:=r2.length;rw[F.len _ _ _ _ hq]at e;exact e.symm
 refine wpAny_call (mL I.WG M.makes M.init (beq_iff_eq.mp M.fn) (vM (F.run _ X.stack _ _ ⟨Value.ref (s.heap.objs.size+1)::us,[]⟩ (Value.ref (s.heap.objs.size+1)::(us++ds)) _ _ E (hr.make C us [])
  (I2.IV.make C us []) (hb _ (Value.ref (s.heap.objs.size+1)::us) I2.WG hl) r2 hq) λr s' T1=>?_))
 cases r with
 |error e=>exact hx wS σ _ _ e s' I2 T1
 | ok fl=>
  cases fl with
  |ret u=>
   obtain⟨v,H',I3,rv,ev,q3⟩:=I2.after T1;subst ev;exact⟨rv,⟨V.ref (s.heap.objs.size+1),H',I3,rfl,q3⟩⟩
  |_=>exact False.elim T1
def mh(M:Mk X.K C f)(F:ID X.prog X.w X.K X.mg X.base CX k f fd ps sp)(N:GB (k+1) X.A)(U:Gl X x)(L:X.mg x=uA (.ref C))(B:Binds X.K fd ps ds)(y:Vals KH ds)(z:Passes CX X E)
  (O:PA X (e::es) t) (i:(x==("__debug__":Str))=uD:=by decide) (J:wW (e::es) X.env=(uD,eval e X.env)::wW es X.env:=by rfl) (j:(vF pos (wW es X.env)).any (·.1)=uD:=by rfl):
  PE X (.Call (.Name x p) (e::es) [] pos) (mZ C sp KH E t):=by
 intro d s S H Q I h;refine wz (Z3 I U L ?_ i);exact xh I.ok.mod.MU M.kp (YA (O pos d s S H _ I h) λus Y ⟨vs,Z,n,r,q⟩=>⟨n.WG,mf M F N B y z n r q⟩) J j
end
section
variable{X:Cx}{CX:RL}{k:Nat}{f C:vW}{fd:vq}{ps ks:List Str}{sp:Sp}{E:XK}{x m:Str}{p pos apos kpos:Pos}{e o:vY}{es:List vY}{kws:List Keyword}{te ta:TE}{t tk:TA}{nm:Option Str}
variable{g:List vB->List vB->List vB}{gV:List V->List V->List V}
end
structure KC (N P:List Str) (sc:vx):Prop where
 kind:sc.kind=.function
 co:sc.isCoroutine=uD
 gen:sc.isGenerator=uD
 nd:N.Nodup
 pre:N.take (lN P)=P
 par:∀x∈P,sc.names.lookup x=uA .local\/sc.names.lookup x=uA .cell
 WR:∀y∈sc.names,y.2≠ .free
theorem aM{d:Str->Option vz}{x:Str}:∀{binds:List (Str×vB)}{m:Str->Option vB},(∀v,(x,v)∉binds)->bindL d binds m x=m x
 |[],_,_=>rfl
 | (n,v)::r,m,h=>by
  unfold bindL;rw[aM λw hw=>h w (zV _ hw)];split
  .have:x≠n:=by rintro rfl;exact h v zy
   simp[this]
  rfl
theorem aN{d:Str->Option vz}{x:Str}:∀{binds:List (Str×vB)}{m:Str->Option vB},(∀v,(x,v)∉binds)->bindC d binds m x=m x
 |[],_,_=>rfl
 |(n,v)::r,m,h=>by
  unfold bindC;rw[aN λw hw=>h w (zV _ hw)];split
  .rfl
  have:x≠n:=by rintro rfl;exact h v zy
  simp[this]
theorem aO{d:Str->Option vz}{x:Str}{v:vB}:∀{P:List Str}{vs:List vB}{i:Nat}{m:Str->Option vB},P.Nodup->P[i]?=uA x->vs[i]?=uA v->d x=uA .local->
  bindL d (P.zip vs) m x=uA v
 |[],_,_,_,_,h,_,_|_::_,[],_,_,_,_,h,_=>by simp at h
 |p::P,w::vs,0,m,q,n,j,hk=>by simp at n j;subst n;subst j;show bindL d ((p,w)::P.zip vs) m p=_;unfold bindL;rw[aM λv y=>(xQ.mp q).1 (List.of_mem_zip y).1,if_pos hk];simp
 |p::P,w::vs,i+1,m,q,n,j,hk=>by unfold bindL;exact aO (xQ.mp q).2 (by simpa using n) (by simpa using j) hk
theorem aP{d:Str->Option vz}{x:Str}{v:vB}:∀{P:List Str}{vs:List vB}{i:Nat}{m:Str->Option vB},P.Nodup->P[i]?=uA x->vs[i]?=uA v->d x≠uA .local->
  bindC d (P.zip vs) m x=uA v
 |[],_,_,_,_,h,_,_|_::_,[],_,_,_,_,h,_=>by simp at h
 |p::P,w::vs,0,m,q,n,j,hk=>by simp at n j;subst n;subst j;show bindC d ((p,w)::P.zip vs) m p=_;unfold bindC;rw[aN λv y=>(xQ.mp q).1 (List.of_mem_zip y).1,if_neg hk];simp
 |p::P,w::vs,i+1,m,q,n,j,hk=>by unfold bindC;exact aP (xQ.mp q).2 (by simpa using n) (by simpa using j) hk
noncomputable def start(N:List Str)(vs:List V):St:=vs.map uA++zQ (lN N-lN vs) uB
noncomputable def Kl(CX:RL)(P:vj)(w:vC)(K:za)(mg:Str->Option vB)(base:Heap)(N:List Str)(qual:Str)(scope:vx)(f:vW)(cd:vB)(A:vK)(outer:List Env)(s:vk)(H:Hp)(E:XK):Cx where
 prog:=P
 w:=w
 K:=K
 mg:=mg
 base:=base
 A:=A.deeper (envOfC qual scope s.heap.objs.size f cd)
 N:=N
 s₀:=s
 H₀:=H
 env:=envOfC qual scope s.heap.objs.size f cd
 outer:=outer
 stack:=envOfC qual scope s.heap.objs.size f cd::outer
 ex:=[]
 calm:=uC
 fn:=λ_=>uC
 pn:=[]
 xe:=λe s'=>wq (vT P w) (A.deeper (envOfC qual scope s.heap.objs.size f cd)) (leaving (envOfC qual scope s.heap.objs.size f cd) e) (λ_ VT=>CX outer H s E e VT) (λe' VT=>CX outer H s E e' VT) s'
def aQ{d:vx}{n:Nat}{x:Str}(h:d.names.lookup x=uA .cell):∃c,(cellsFrom n d.names []).lookup x=uA c:=by exact xy.mp (wg d.names n [] (.inl h))
def mi{CX:RL}{w:vC}{K:za}{M:Str->Option vB}{n:Heap}{N ps:List Str}{qual:Str}{d:vx}{f:vW}{cd:vB}{A:vK}{outer:List Env}{s1:vk}{H:Hp}{E:XK}{us:List vB}{vs:List V}
  (S:KC N ps d) (Z:A.handled=uB) (B:HL P w K M n A outer s H) (hl:lN vs=lN ps) (r:Vals vs us)
  (x:InCallC s s.heap.objs.size (bindL (envOfC qual d s.heap.objs.size f cd).kindOf (ps.zip us) λ_=>uB) (cellsFrom (s.heap.objs.size+1) d.names []) (bindC (envOfC qual d s.heap.objs.size f cd).kindOf (ps.zip us) λ_=>uB) s1):
  Inv (Kl CX P w K M n N qual d f cd A outer s H E) [] (start N vs) H s1:=by
 have Y:lN ps<=lN N:=by have:=congrArg jS S.pre;rw[qN]at this;lia
 obtain⟨L,tk,rfl,hk⟩:=x.done
 have IU:∀b:vW,b∉(Kl CX P w K M n N qual d f cd A outer s H E).ex:=λb z=>absurd (show b∈([]:List vW)from z) (by simp)
 refine⟨⟨B.mod,S.kind,rfl,rfl,zx _,λy z c L j=>?_,λy F=>?_,λy c _ h=>?_,λ_=>Z,Around.frames_deeper B.frames,.inr ⟨rfl,rfl⟩,λb z=>absurd z (IU b),B.bs,B.MN,λb _ _=>IU b,λb z=>absurd z (IU b),B.NF,B.VP⟩,
  rfl,B.bare,Un.kept hk,⟨_,x.toInCall.ns,λi y v L j h3=>?_⟩,λy c h=>⟨_,x.cell y c h⟩,B.SA.fresh (zx _),λy c h=>?_,λp hp=>absurd (show p∈([]:List (vW×Obj))from hp) (by simp),B.SA.kept hk,?_⟩
 .exact name_of_addr x.apart (zc L) (zc j)
 .have F:=F;rcases F with F|F
  .exact aQ F
  exact absurd rfl (S.WR _ (zc F))
 .exact jU (x.above y c (zc h))
 .have J:i<lN vs:=by
   unfold start at j;by_cases J:i<lN vs
   .exact J
   rw[zO (by simpa using J)]at j;rw[qP]at j
   split at j<;>cases j
  have U:vs[i]?=uA v:=by
   unfold start at j;rw[zC (by simpa using J),zv]at j;cases e:vs[i]? with
   |none=>rw[e]at j;cases j
   |some a=>rw[e]at j;cases j;rfl
  obtain⟨u,O,rv⟩:=r.get U;have hp:ps[i]?=uA y:=by rw[<-S.pre,qE (by lia)];exact L
  have I:ps.Nodup:=by rw[<-S.pre];exact S.nd.sublist (List.take_sublist _ _)
  refine⟨u,rv,?_⟩;rcases S.par y (zP hp)with k|k
  .exact .inl ⟨k,aO I hp O k⟩
  obtain⟨c,e⟩:=aQ k;refine .inr ⟨.inl k,c,e,?_⟩;have q:=x.cell y c e;rw[aP I hp O (by show d.names.lookup y≠_;rw[k];decide)]at q;exact q
 .exact B.SA.fresh (jU (x.above y c (zc h)))
 unfold start;show _=lN N;rw[zH,zq,qO];lia
theorem Zk{CX:RL}{w:vC}{K:za}{mg:Str->Option vB}{j:Heap}{k:Nat}{f:vW}{name qual:Str}{i:Arguments}{body:List vA}{d:vx}{dV kV M pm z ct oc:vB}{an od:Option vW}
  {RX:Array (Option vB)} {N ps:List Str} {sp:Sp} (lk:K.lookup f=uA ⟨oc,od,.func (jb name qual i body d dV kV M pm an z ct),RX⟩) (Z:wh K z qual=uC) (S:KC N ps d)
  (len:∀vs H Q E,sp vs H Q E->lN vs=lN ps)
  (F:∀(A:vK)(outer:List Env)(s:vk)(H:Hp)(vs:List V)(Q:VK)(E:XK),GB k (A.deeper (envOfC qual d s.heap.objs.size f z))->sp vs H Q E->
   ∃t,VH (Kl CX P w K mg j N qual d f z A outer s H E) body t/\t {nx:=λ_ H'=>Q .KA H',rt:=Q} (start N vs) H):
  ID P w K mg j CX (k+1) f (jb name qual i body d dV kV M pm an z ct) ps sp:=by
 refine⟨len,λA outer s H args us vs Q E hr Y hb r U=>?_⟩;have hl:=len _ _ _ _ U;have KX:=Y.mod.MU.keeps λb o e=>(Y.bs b o e).1
 have I:∀y∈ps.zip us,d.names.lookup y.1=uA .local\/(d.names.lookup y.1=uA .cell/\((cellsFrom (s.heap.objs.size+1) d.names []).lookup y.1).isSome=uC):=λ⟨n,v⟩ hy=>by
  rcases S.par n (List.of_mem_zip hy).1 with q|q
  .exact .inl q
  exact .inr ⟨q,wg _ _ _ (.inl q)⟩
 refine codeAny_call_function hr.depth (KX _ _ lk) rfl S.co S.gen rfl (PySem.W.codeRec_of KX Z) (hb _ _ _ _ ?_);refine wpAny_newFunctionEnv_cells S.kind I λenv he s1 x=>?_
 subst he;refine⟨(Y.mod.nolimit.keeps λb o e=>(Y.bs b o e).1).keeps x.toInCall.keep,codeAny_func ?_⟩;obtain⟨t,ht,hq⟩:=F A outer s H vs Q E (hr.deeper _) U;refine w5 (ht [] s1 (start N vs) H _ (mi S hr.hd Y hl r x) hq) (λfl s' O=>?_) λe s' O=>O
 have L:∀{B:St}{H':Hp}{v:V}{u:vB},Inv (Kl CX P w K mg j N qual d f z A outer s H E) [] B H' s'->RelV v u->Q v H'->CE outer P w H s Q u s':=
  λ{B H' v u}J rv q=>⟨v,H',J.os,J.bare,J.base,J.SA,rv,q⟩
 cases fl with
 |ret u=>
  obtain⟨v,B,H',J,rv,q⟩:=O;exact L J rv q
 |next=>
  obtain⟨B,H',J,q⟩:=O;exact L (v:=V.KA) J rfl q
 |_=>
  obtain⟨_,_,_,q⟩:=O;exact False.elim q
section
variable{X:Cx}{x:Str}{p pos:Pos}{e:vY}{es:List vY}{t:TA}{id T:String}{r:List V->Hp->VK->Prop}
noncomputable def Sz(r:List V->Hp->VK->Prop)(t:TA):TE:=λσ H Q=>t σ H λvs H1=>r vs H1 Q
def mj(N:OB X (.builtin id) r)(W:Gl X x)(M:X.mg x=uB)(Y:vL x=uA (.builtin id))(O:PA X (e::es) t)(z:x≠"__name__":=by decide)(i:(x==("__debug__":Str))=uD:=by decide)
  (F:wW (e::es) X.env=(uD,eval e X.env)::wW es X.env:=by rfl) (j:(vF pos (wW es X.env)).any (·.1)=uD:=by rfl):PE X (.Call (.Name x p) (e::es) [] pos) (Sz r t):=by
 intro d s n H Q I h;exact wz (Hv I W M Y (PyProof.Rows.callWith_builtin1 (YA (O pos d s n H _ I h) λU q ⟨S,B,J,y,L⟩=>N d q n B S U Q J y L) F j) z i)
def mm(N:OB X (.type T) r)(W:Gl X x)(M:X.mg x=uB)(Y:vL x=uA (.type T))(O:PA X (e::es) t)(z:x≠"__name__":=by decide)(i:(x==("__debug__":Str))=uD:=by decide)
  (F:wW (e::es) X.env=(uD,eval e X.env)::wW es X.env:=by rfl) (j:(vF pos (wW es X.env)).any (·.1)=uD:=by rfl):PE X (.Call (.Name x p) (e::es) [] pos) (Sz r t):=by
 intro d s n H Q I h;exact wz (Hv I W M Y (qa (YA (O pos d s n H _ I h) λU q ⟨S,B,J,y,L⟩=>N d q n B S U Q J y L) F j) z i)
end
end _L
namespace HT
open PySem PyProof.Rows
section
open PySem.SeqAt
open PySem.AutoSeq1 (wpAny_loadPart')
open PySem.MeetsSeq PySem.MeetsSeq2 PySem.MeetsSeq3
end
section
variable{prog:vj}{w:vC}{A:vK}{E:vB->vk->Prop}{s:vk}
def mn(Y:IsTup s.heap t vs.toArray)(Z:IsTup s.heap b ws.toArray)(W:vs≠[])
  (h1:ws=[]->Q (.ref t) s) (h2:ws≠[]->Q (.ref s.heap.objs.size) {s with heap:=s.heap.push {cls:=.type "tuple",data:=.seq (vs++ws).toArray}})
  (hsz:lN vs+lN ws<=sizeLine):wq (vT prog w) A (vI .Add (.ref t) (.ref b)) Q E s:=by
 obtain⟨⟨J,L,q,O⟩,B,U,n,N⟩:=id Y;obtain⟨⟨M,j,I,z⟩,i,MO,S,y⟩:=id Z;simp only at U N MO y;subst U N MO y;have e:vs.toArray++ws.toArray=(vs++ws).toArray:=by simp
 by_cases hw:ws=[]
 .exact concat_meets ⟨_,B,rfl⟩ ⟨_,i,rfl⟩ noFill_tuple_add seq_tuple_add uQ uZ (uJ _ _)
   (tuple_addW1 t b vs.toArray ws.toArray n S L j O z (by simpa using W) (by simp[hw])) ⟨B,i,h1 hw⟩
 refine concat_meets ⟨_,B,rfl⟩ ⟨_,i,rfl⟩ noFill_tuple_add seq_tuple_add uQ uZ (uJ _ _)
  (tuple_addW2 t b vs.toArray ws.toArray n S L j O z (by simpa using W) (by simpa using hw) (by rw[zk,zk];exact hsz)) ⟨B,i,?_⟩
 rw[e];exact h2 hw
noncomputable def HB(n d:Nat):Option Int->Nat
 |none=>d
 |some v=>if v<0 then(v+(n:Int)).toNat else min v.toNat n
theorem mq(n d:Nat)(j:d<=n)(o:Option Int):HB n d o<=n:=by
 cases o with
 |none=>exact j
 |some v=>
  show(if v<0 then(v+(n:Int)).toNat else min v.toNat n)<=n;by_cases i:v<0
  .rw[if_pos i];lia
  rw[if_neg i];exact Nat.min_le_right _ _
def aR(v:Int)(n d:Nat):(if v<0 then max (v+(n:Int)) 0 else min v (n:Int))=((HB n d (uA v):Nat):Int):=by
 show(if v<0 then max (v+(n:Int)) 0 else min v (n:Int))=(((if v<0 then(v+(n:Int)).toNat else min v.toNat n):Nat):Int);by_cases i:v<0
 .simp only[if_pos i];lia
 simp[if_neg i];lia
theorem mv(lo hi:Option Int)(n:Nat):Builtin.Slice.sliceAdjust lo hi 1 (n:Int)=(((HB n 0 lo:Nat):Int),((HB n n hi:Nat):Int)):=by
 have d:¬((1:Int)<0):=by lia
 unfold Builtin.Slice.sliceAdjust;simp only[d,if_false];refine Prod.ext ?_ ?_
 .cases lo with
  |none=>rfl
  |some v=>exact aR v n 0
 cases hi with
 |none=>rfl
 |some v=>exact aR v n n
def mw(i j:Nat):Builtin.Slice.slicePlaces (i:Int) (j:Int) 1=j-i:=by
 unfold Builtin.Slice.slicePlaces;have d:(1:Int)>0:=by lia
 simp[d,if_true,Int.ediv_one]
 split <;> lia
theorem aS(p:IsPart v o)(h:Q o s):wq (vT prog w) A (Builtin.Slice.slicePartIndex v) Q E s:=by
 cases p with
 |none=>exact slicePart_none h
 |int i t=>exact slicePart_int h
def aT{y:vW}{j q:vB}{lo hi:Option Int}{n:Nat}{Q:Int×Int×Nat->vk->Prop}(B:s.heap.IsSliceOf y j q .none)(pl:IsPart j lo)(z:IsPart q hi)
  (h:Q (((HB n 0 lo:Nat):Int),1,HB n n hi-HB n 0 lo) s):wq (vT prog w) A (Builtin.Slice.sliceApplied (.ref y) (pure (n:Int))) Q E s:=by
 obtain⟨F,d,SX,i⟩:=id B;unfold Builtin.Slice.sliceApplied Builtin.Slice.sliceFields;refine wj (wj (ww d i (x:=j) rfl (wj (ww d i (x:=q) rfl (wj (ww d i rfl (w9 ?_)))))));refine wj (slicePart_none ?_);rw[if_neg (by decide)];refine wj (aS pl (wj (aS z (wj (w9 ?_)))))
 show wq _ _ (match Builtin.Slice.sliceAdjust lo hi 1 (n:Int)with |(lo,hi)=>pure (lo,(1:Int),Builtin.Slice.slicePlaces lo hi 1)) _ _ s
 rw[mv lo hi n];show wq _ _ (pure (((HB n 0 lo:Nat):Int),(1:Int),Builtin.Slice.slicePlaces ((HB n 0 lo:Nat):Int) ((HB n n hi:Nat):Int) 1)) _ _ s;rw[mw];exact w9 h
def mx(xs:Array vB)(i k:Nat):((zW k).filterMap λ(m:Nat)=>xs[((i:Int)+(m:Int)*1).toNat]?).toArray=((xs.toList.drop i).take k).toArray:=by
 have e:(λ(m:Nat)=>xs[((i:Int)+(m:Int)*1).toNat]?)=λm=>xs[i+m]? :=by
  funext m;have:((i:Int)+(m:Int)*1).toNat=i+m:=by lia
  rw[this]
 rw[e];have:=pick_run xs i k;rw[jC]at this;have d:((λx=>xs[x]?) ∘ λx=>i+x)=λm=>xs[i+m]? :=rfl
 rw[d]at this;rw[this]
def my{t sl:vW}{items:Array vB}{vl vu:vB}{lo hi:Option Int}{Q:vB->vk->Prop}(ht:IsTup s.heap t items)(hs:s.heap.IsSliceOf sl vl vu .none)(pl:IsPart vl lo)(pu:IsPart vu hi)
  (hw:¬(HB items.size 0 lo=0/\HB items.size items.size hi=items.size))
  (h:Q (.ref s.heap.objs.size) {s with heap:=s.heap.push {cls:=.type "tuple",data:=.seq ((items.toList.drop (HB items.size 0 lo)).take (HB items.size items.size hi-HB items.size 0 lo)).toArray}})
  (hsz:items.size<=sizeLine):wq (vT prog w) A (getItem (.ref t) (.ref sl)) Q E s:=by
 have IK:sizeOk (.seq ((items.toList.drop (HB items.size 0 lo)).take (HB items.size items.size hi-HB items.size 0 lo)).toArray):=by show((items.toList.drop (HB items.size 0 lo)).take (HB items.size items.size hi-HB items.size 0 lo)).toArray.size<=sizeLine;rw[zk,qN,qI,jV];lia
 obtain⟨os,hos,SX,hds⟩:=id hs;unfold getItem
 try with_reducible refine wk ?_
 first|refine wj (w9 ?_)|skip
 refine wj (wpAny_sequenceKey ht.typeIs (by decide) ?_);refine wj (wx ht.typeIs jc
  (wv jc ht.typeIs entry_tuple_getitem ?_ (args_tuple_getitem _ _)))
 show wq _ _ (Builtin.Tuple.tupleItemsOf (.ref t) >>=_) _ _ s;refine wj (tupleItemsOf_ ht ?_);refine wj (wpAny_typeOf ⟨os,hos,SX⟩ ?_);rw[if_pos (by decide)];refine wj (aT hs pl pu ?_);have hno:¬((((HB items.size 0 lo:Nat):Int)==0&&(1:Int)==1&&(HB items.size items.size hi-HB items.size 0 lo)==items.size)=uC):=by intro q;rw[qQ,qQ]at q;have q1:=eq_of_beq q.1.1;have q2:=eq_of_beq q.2;exact hw ⟨by lia,by lia⟩
 show wq _ _ (if(((HB items.size 0 lo:Nat):Int)==0&&(1:Int)==1&&(HB items.size items.size hi-HB items.size 0 lo)==items.size)=uC then _ else _) _ _ s;rw[if_neg hno,mx]
 first
  |exact wj (w6 (w9 ⟨_,rfl,w9 h⟩) IK)
  |exact wj (w6 (wj (w9 (w9 ⟨_,rfl,w9 h⟩))) IK)
  |exact wj (wj (w6 (w9 (w9 ⟨_,rfl,w9 h⟩)) IK))
  |exact wj (wj (w6 (w9 ⟨_,rfl,w9 h⟩) IK))
end
end HT
namespace _L
open PySem PySem.Spec PyProof.Rows
variable{wS:List (vW×Obj)}{s:vk}
noncomputable abbrev TO:=St->Hp->(Option Int->Hp->Prop)->Prop
def PO(X:Cx)(e:Option vY)(t:TO):Prop:=
 ∀(wS:List (vW×Obj))(s:vk)(σ:St)(H:Hp)(Q:Option Int->Hp->Prop),Inv X wS σ H s->t σ H Q->
  wq (vT X.prog X.w) X.A (evalPart e X.env) (λu s'=>∃o H',Inv X wS σ H' s'/\IsPart u o/\Q o H') X.xe s
noncomputable def mz:TO:=λ_ H Q=>Q uB H
noncomputable def nA(t:TE):TO:=λσ H Q=>t σ H λx H1=>∃i,x=.int i/\Q (uA i) H1
section
variable{X:Cx}{e:vY}{te:TE}{lo hi:Option vY}{tl th:TO}{pos p2:Pos}
def nB:PO X uB mz:=by intro d s i H Q I h;rw[evalPart_none];exact w9 ⟨uB,H,I,.none,h⟩
def nC(h:PE X e te):PO X (uA e) (nA te):=by
 intro d s F H Q I hw;rw[evalPart_some];refine YA (h d s F H _ I hw) λu J j=>?_
 obtain⟨x,y,B,n,z⟩:=j;obtain⟨i,rfl,q⟩:=z;obtain⟨t,rfl⟩:=n;exact⟨uA i,y,B,.int i t,q⟩
def NO(X:Cx)(r:V->Option Int->Option Int->Hp->VK->Prop):Prop:=
 ∀(wS:List (vW×Obj))(s:vk)(σ:St)(H:Hp)(x:V)(v vl vu:vB)(lo hi:Option Int)(sl:vW)(Q:VK),Inv X wS σ H s->RelV x v->s.heap.IsSliceOf sl vl vu .none->IsPart vl lo->IsPart vu hi->r x lo hi H Q->
  ∃T id,typeLookup (.type T) "__getitem__"=pure (uA (.builtin id))/\s.TypeIs v T/\wq (vT X.prog X.w) X.A (getItem v (.ref sl)) (EP X wS σ Q) X.xe s
def NO.or(h:NO X r)(h':NO X r'):NO X (λx lo hi H Q=>r x lo hi H Q\/r' x lo hi H Q):=by
 intro d s z H x v n B lo hi F Q I j y pl i q;rcases q with q|q
 .exact h d s z H x v n B lo hi F Q I j y pl i q
 exact h' d s z H x v n B lo hi F Q I j y pl i q
noncomputable def tSl(r:V->Option Int->Option Int->Hp->VK->Prop)(te:TE)(tl th:TO):TE:=λσ H Q=>te σ H λx H1=>tl σ H1 λl H2=>th σ H2 λu H3=>r x l u H3 Q
def nE(hr:NO X r)(he:PE X e te)(hl:PO X lo tl)(hu:PO X hi th):PE X (.Subscript e (.Slice lo hi uB p2) pos) (tSl r te tl th):=by
 intro d s j H Q I h;refine Subscript_ (YA (he d s j H _ I h) λv s1 y=>?_);obtain⟨x,L,M,S,q1⟩:=y;refine wpAny_Slice (YA (hl d s1 j L _ M q1) λB Z ⟨l,W,I2,pl,Y⟩=>YA (hu d Z j W _ I2 Y) λF n y=>?_);obtain⟨u,U,O,pu,q3⟩:=y;rw[evalPart_none];refine w9 ?_;obtain⟨T,id,hT,J,hg⟩:=hr d {n with heap:=n.heap.push {cls:=.type "slice",data:=.fields #[B,F,.none]}} j U x v B F l u n.heap.objs.size Q (O.kept (t':=n.toks) λb ob q=>zJ _ q) S (Heap.IsSliceOf.new ..) pl pu q3
 exact tail_any J hT hg (by with_unfolding_all rfl)
def My(xs:List V)(lo hi:Option Int):List V:=(xs.drop (HT.HB (lN xs) 0 lo)).take (HT.HB (lN xs) (lN xs) hi-HT.HB (lN xs) 0 lo)
def aU(xs:List V)(lo hi:Option Int):lN (My xs lo hi)<=lN xs:=by unfold My;rw[qN,qI];lia
def U1(K:za):V->Option Int->Option Int->Hp->VK->Prop:=λx lo hi H Q=>∃a xs,x=.ref a/\VE K H a xs/\
 ¬(HT.HB (lN xs) 0 lo=0/\HT.HB (lN xs) (lN xs) hi=lN xs)/\∀p,H p=uB->Q (.ref p) (upd H p (.tup (My xs lo hi)))
def nF:NO X (U1 X.K):=by
 intro B s U H x v S W n F Y Q I M N pl L h;obtain⟨a,i,rfl,J,hw,q⟩:=h;cases M;obtain⟨j,r,y,z⟩:=I.tuple J;have d:j.toArray.size=lN i:=zk▸r.length.symm;refine⟨"tuple",_,PyProof.Rows.slot_tuple_getitem.lookup,y.typeIs,?_⟩;refine HT.my y N pl L (d▸hw) ?_ (d▸z);rw[d];refine⟨.ref s.heap.objs.size,_,I.laid (λb O q=>zJ _ q) (zx _) ?_,rfl,q _ (I.SA.fresh (zx _))⟩
 exact⟨zN (aU i n F) z,_,(r.drop (HT.HB (lN i) 0 n)).take (HT.HB (lN i) (lN i) F-HT.HB (lN i) 0 n),IsTup.new _ _⟩
def nG(K:za):R2:=λx y H Q=>∃a b xs ys,x=.ref a/\y=.ref b/\VE K H a xs/\VE K H b ys/\xs≠[]/\lN xs+lN ys<=sizeLine/\
 (ys=[]->Q (.ref a) H)/\(ys≠[]->∀p,H p=uB->Q (.ref p) (upd H p (.tup (xs++ys))))
theorem Vals.Wf(r:Vals xs us):us=[]↔xs=[]:=by
 cases r with
 |_=>simp
def nH:WB X (vI .Add) (nG X.K):=by
 intro j s Z H x y v u Q I M W h;obtain⟨a,b,xs,ys,rfl,rfl,U,J,F,B,Y,N⟩:=h;cases M;cases W;obtain⟨L,i,O,_⟩:=I.tuple U;obtain⟨n,d,S,_⟩:=I.tuple J;refine HT.mn O S (λz=>F (i.Wf.mp z)) (λz=>⟨.ref a,H,I,rfl,Y (d.Wf.mp z)⟩) (λz=>?_) (by rw[<-i.length,<-d.length];exact B);refine⟨.ref s.heap.objs.size,_,I.laid (λb ob q=>zJ _ q) (zx _) ?_,rfl,N (λw=>z (d.Wf.mpr w)) _ (I.SA.fresh (zx _))⟩
 exact⟨zH▸B,_,i.append d,IsTup.new _ _⟩
end
noncomputable def MJ(n:Nat)(i:Int):Option Nat:=if 0<=i then(if i<n then uA i.toNat else uB)else if -(n:Int)<=i then uA (i+n).toNat else uB
def NC{α:Type}(xs:List α)(i:Int):Option α:=(MJ (lN xs) i).bind λj=>xs[j]?
def aV(h:MJ n i=uA j):seqIndex? i n=uA j/\j<n/\ -(n:Int)<=i/\i<n:=by
 unfold MJ at h;by_cases q:0<=i
 .rw[if_pos q]at h;by_cases d:i<n
  .rw[if_pos d]at h;have e:=Option.some.inj h;exact⟨by rw[seqIndex_of q d,e],by lia,by lia,d⟩
  rw[if_neg d]at h;cases h
 rw[if_neg q]at h;by_cases d: -(n:Int)<=i
 .rw[if_pos d]at h;have e:=Option.some.inj h;exact⟨by rw[seqIndex_neg (by lia) d,e],by lia,d,by lia⟩
 rw[if_neg d]at h;cases h
theorem Qw{d:Type}{xs:List d}{i:Int}{v:d}(h:NC xs i=uA v):∃j,seqIndex? i (lN xs)=uA j/\xs[j]?=uA v/\j<lN xs/\ -(lN xs:Int)<=i/\i<lN xs:=by
 unfold NC at h;cases e:MJ (lN xs) i with
 |none=>rw[e]at h;cases h
 |some j=>
  rw[e]at h;obtain⟨y,q,n,z⟩:=aV e;exact⟨j,y,h,q,n,z⟩
def JK(b:vY):Prop:=∀o i,subscripted b uD o i=operate [o,i] (getItem o i)
def NJ(X:Cx)(r:R2):Prop:=
 ∀(value slice:vY)(wS:List (vW×Obj))(s:vk)(σ:St)(H:Hp)(x y:V)(v u:vB)(Q:VK),Inv X wS σ H s->RelV x v->RelV y u->r x y H Q->
  subscripted slice uD v u=operate [v,u] (getItem v u)->wq (vT X.prog X.w) X.A (subscriptTail value slice v u) (EP X wS σ Q) X.xe s
def j'(X:Cx)(id:String)(r:V->List V->Hp->VK->Prop):Prop:=
 ∀(wS:List (vW×Obj))(s:vk)(σ:St)(H:Hp)(x:V)(xs:List V)(v:vB)(us:List vB)(Q:VK),Inv X wS σ H s->RelV x v->Vals xs us->r x xs H Q->
  wq (vT X.prog X.w) X.A (call (.builtin id) (v::us)) (EP X wS σ Q) X.xe s
section
variable{X:Cx}{a b:vY}{ta tb:TE}{pos:Pos}
def NJ.or(h:NJ X r)(h':NJ X r'):NJ X (λx y H Q=>r x y H Q\/r' x y H Q):=by
 intro d i j s B H x y v u Q I n F q z;rcases q with q|q
 .exact h d i j s B H x y v u Q I n F q z
 exact h' d i j s B H x y v u Q I n F q z
def nI(z:NJ X r)(J:PE X a ta)(n:PE X b tb)(B:JK b):PE X (.Subscript a b pos) (XU r ta tb):=by intro d s F H Q I h;exact Subscript_ (V7 J n I h λv u N x y L j i M q=>z a b d N F L x y v u Q j i M q (B _ _))
def JV(K:za):R2:=λx y H Q=>∃p xs i v,x=.ref p/\y=.int i/\OE K H p xs/\NC xs i=uA v/\Q v H
def MV(K:za):R2:=λx y H Q=>∃p xs i v,x=.ref p/\y=.int i/\VE K H p xs/\NC xs i=uA v/\Q v H
def NV:R2:=λx y H Q=>∃z i c,x=.str z/\y=.int i/\z.length<=sizeLine/\NC z.cps.toList i=uA c/\Q (.str ⟨#[c]⟩) H
def nJ:NJ X (JV X.K):=by
 intro value slice wS s σ H x y v u Q I rx ry h hs;obtain⟨p,xs,i,z,rfl,rfl,hq,he,q⟩:=h;cases rx;obtain⟨t,rfl⟩:=ry;obtain⟨MA,r,pl,hz⟩:=I.list hq;obtain⟨j,h1,h2,h3,h4,h5⟩:=Qw he;obtain⟨w,ew,XR⟩:=r.get h2;have hl:=r.length;have hn:=WE;have fin:EP X wS σ Q w s:=⟨z,H,I,XR,q⟩;by_cases h0:0<=i
 .have hj:i.toNat=j:=by rw[seqIndex_of h0 h5]at h1;exact Option.some.inj h1
  exact item_listR pl.isList h0 (by lia) (by rw[hj];simpa using ew) fin hs
 have hj:(i+(MA.toArray.size:Int)).toNat=j:=by rw[seqIndex_neg (by lia) h4]at h1;rw[zk,<-hl];exact Option.some.inj h1
 exact subscriptTail_builtinR pl.isList.typeIs slot_list_getitem.lookup
  (wpAny_getItem_list_neg pl.isList (by lia) (by rw[zk]<;>lia) (by lia) (by rw[hj];simpa using ew) ⟨rfl,fin⟩) hs
def nK:NJ X (MV X.K):=by
 intro value slice wS s σ H x y v u Q I rx ry h hs;obtain⟨p,xs,i,z,rfl,rfl,hq,he,q⟩:=h;cases rx;obtain⟨t,rfl⟩:=ry;obtain⟨MA,r,pl,hz⟩:=I.tuple hq;obtain⟨j,h1,h2,h3,h4,h5⟩:=Qw he;obtain⟨w,ew,XR⟩:=r.get h2;have hn:=WE;exact subscriptTail_builtinR pl.typeIs slot_tuple_getitem.lookup
  (getItem_tuple pl (by lia) (by lia) (by rw[zk,<-r.length];exact h1) (by simpa using ew) ⟨rfl,⟨z,H,I,XR,q⟩⟩) hs
def nL:NJ X NV:=by
 intro value slice wS s σ H x y v u Q I rx ry h hs;obtain⟨z,i,c,rfl,rfl,hz,he,q⟩:=h;obtain⟨t,rfl⟩:=rx;obtain⟨t',rfl⟩:=ry;obtain⟨j,h1,h2,h3,h4,h5⟩:=Qw he;have hl:z.cps.toList.length=z.length:=by simp[Str.length]
 rw[hl]at h1 h4 h5;have hn:=WE;exact tail_any (typeIs_str s z t) slot_str_getitem.lookup (getItem_str (by rw[decide_eq_false (by lia),decide_eq_false (by lia),Bool.or_false]) (by rw[h1];simpa using h2) ⟨.str ⟨#[c]⟩,H,I.tok _,⟨_,rfl⟩,q⟩) hs
def X1(K:za):R2:=λx y H Q=>JV K x y H Q\/MV K x y H Q\/NV x y H Q
def nM:NJ X (X1 X.K):=nJ.or (nK.or nL)
def nN(MA:List vB)(n j:Nat)(u:vB):Obj.mapSeq (·.setIfInBounds j u) {cls:=.type "list",data:=.seq MA.toArray n}={cls:=.type "list",data:=.seq (MA.set j u).toArray n}:=by simp[Obj.mapSeq]
def Inv.lst{d:St}{H:Hp}{p:vW}{xs:List V}(I:Inv X wS d H s)(h:H p=uA (.lst xs)):
  ∃(MA:List vB)(n:Nat),Vals xs MA/\s.heap.get? p=uA {cls:=.type "list",data:=.seq MA.toArray n}/\lN xs<=sizeLine:=by
 obtain⟨z,MA,n,r,e⟩:=I.SA p _ h;exact⟨MA,n,r,e,z⟩
def Inv.nO{j:St}{H:Hp}{p:vW}{xs ys:List V}{MA its':List vB}{n i:Nat}{f:Obj->Obj}(I:Inv X wS j H s)(h:H p=uA (.lst xs))
  (ho:s.heap.get? p=uA {cls:=.type "list",data:=.seq MA.toArray n}) (z:f {cls:=.type "list",data:=.seq MA.toArray n}={cls:=.type "list",data:=.seq its'.toArray i}) (r:Vals ys its') (hz:lN ys<=sizeLine) (t:Nat):
  Inv X wS j (upd H p (.lst ys)) {s with heap:=s.heap.update p f,toks:=t}:=by
 have e:(s.heap.update p f).get? p=uA {cls:=.type "list",data:=.seq its'.toArray i}:=by rw[xG f ho (by rw[z]<;>rfl),z]
 exact I.write (by rw[h];trivial) (.inl rfl) (λb u B q=>(Heap.get?_update_other _ _ (Ne.symm B)).trans q) ⟨_,e⟩ ⟨hz,its',i,r,e⟩
def nQ:V->V->V->Hp->(Hp->Prop)->Prop:=λo i v H Q=>∃p xs k j,o=.ref p/\i=.int k/\H p=uA (.lst xs)/\MJ (lN xs) k=uA j/\Q (upd H p (.lst (xs.set j v)))
def set_list:VR X nQ:=by
 intro wS s σ H o i v ov iv u Q I ro ri rv h;obtain⟨p,xs,k,j,rfl,rfl,hp,hj,q⟩:=h;cases ro;obtain⟨t,rfl⟩:=ri;obtain⟨MA,n,r,ho,hz⟩:=I.lst hp;obtain⟨h1,h2,h3,h4⟩:=aV hj;have hl:=r.length;have hn:=WE;have I':=
  I.nO hp ho (nN MA n j u) (r.set rv j) (by rw[jQ];exact hz) s.toks
 by_cases h0:0<=k
 .have hk:k.toNat=j:=by rw[seqIndex_of h0 h4]at h1;exact Option.some.inj h1
  exact PySem.W.ki_setAt ho h0 (by lia) (by rw[zk,<-hl];exact h4) (by rw[hk];exact⟨_,I',q⟩)
 have hk:(k+(MA.toArray.size:Int)).toNat=j:=by rw[seqIndex_neg (by lia) h3]at h1;rw[zk,<-hl];exact Option.some.inj h1
 exact PySem.W.ki_setBack ho (by lia) (by rw[zk,<-hl];exact h3) (by lia) (by rw[hk];exact⟨_,I',q⟩)
theorem nR(lo hi:Option Int)(n:Nat):(wZ lo hi uB n).1=((HT.HB n 0 lo:Nat):Int)/\(wZ lo hi uB n).2.1=((HT.HB n n hi:Nat):Int)/\(wZ lo hi uB n).2.2=1:=by
 refine⟨?_,?_,rfl⟩
 .cases lo with
  |none=>simp[wZ,HT.HB]
  |some i=>
   simp[wZ,HT.HB,Option.getD_none,show(1:Int)>0 by decide,if_true];by_cases h:i<0
   .simp only[h,if_true]<;>lia
   simp[h,if_false]<;>lia
 cases hi with
 |none=>simp[wZ,HT.HB]
 |some i=>
  simp[wZ,HT.HB,Option.getD_none,show(1:Int)>0 by decide,if_true];by_cases h:i<0
  .simp only[h,if_true]<;>lia
  simp[h,if_false]<;>lia
def nS(MA:List vB)(lo hi:Option Int):slicePick MA.toArray lo hi uB=((MA.drop (HT.HB (lN MA) 0 lo)).take (HT.HB (lN MA) (lN MA) hi-HT.HB (lN MA) 0 lo)).toArray:=by
 obtain⟨j,d,i⟩:=nR lo hi MA.toArray.size;unfold slicePick;rw[j,d,i]
 simp only[sliceRange_one,pick_run,zk]<;>rfl
def OV(K:za):V->Option Int->Option Int->Hp->VK->Prop:=λx lo hi H Q=>∃a xs,x=.ref a/\OE K H a xs/\∀p,H p=uB->Q (.ref p) (upd H p (.lst (My xs lo hi)))
def nT:NO X (OV X.K):=by
 intro y s U H x v S W j z Y Q I M N pl F h;obtain⟨a,i,rfl,B,q⟩:=h;cases M;obtain⟨J,r,n,L⟩:=I.list B;have d:=r.length;refine⟨"list",_,slot_list_getitem.lookup,n.isList.typeIs,?_⟩
 refine wpAny_getItem_list_slice n.isList N pl F .none (by simp) ?_ (by rw[zk]<;>lia)
 rw[nS,<-d];refine⟨.ref s.heap.objs.size,_,I.laid (λb O q=>zJ _ q) (zx _) ?_,rfl,q _ (I.SA.fresh (zx _))⟩;exact⟨zN (aU i j z) L,_,0,(r.drop (HT.HB i.length 0 j)).take (HT.HB i.length i.length z-HT.HB i.length 0 j),zA _ rfl⟩
noncomputable def Dt:V->Bool
 |.KA=>uC
 |.bl _=>uC
 |.int _=>uC
 |.str _=>uC
 |_=>uD
noncomputable def WH:V->V->Bool
 |.KA,.KA=>uC
 |.bl a,.bl b=>a==b
 |.bl a,.int b=>(if a then 1 else 0)==b
 |.int a,.bl b=>a==(if b then 1 else 0)
 |.int a,.int b=>a==b
 |.str a,.str b=>a==b
 |_,_=>uD
theorem aW(n:RelV y u)(d:RelV x v)(q:Dt y=uC)(j:Dt x=uC):SeqAt.EqAt A s u v (WH y x):=by
 cases y with
 |KA=>
  cases n;cases x with
  |KA=>cases d;exact SeqAt.EqAt.same _
  |bl b=>cases d;exact SeqAt.EqAt.none_bool b
  |int b=>obtain⟨t,rfl⟩:=d;exact SeqAt.EqAt.none_int b t
  |str b=>obtain⟨t,rfl⟩:=d;exact SeqAt.EqAt.none_str b t
  |_=>exact absurd (j) zL
 |bl a=>
  cases n;cases x with
  |KA=>cases d;exact SeqAt.EqAt.bool_none a
  |bl b=>cases d;exact SeqAt.EqAt.bool_bool a b
  |int b=>obtain⟨t,rfl⟩:=d;exact SeqAt.EqAt.bool_int a b t
  |str b=>obtain⟨t,rfl⟩:=d;exact SeqAt.EqAt.bool_str a b t
  |_=>exact absurd (j) zL
 |int a=>
  obtain⟨i,rfl⟩:=n;cases x with
  |KA=>cases d;exact SeqAt.EqAt.int_none a i
  |bl b=>cases d;exact SeqAt.EqAt.int_bool a i b
  |int b=>obtain⟨t,rfl⟩:=d;exact SeqAt.EqAt.int_int a i b t
  |str b=>obtain⟨t,rfl⟩:=d;exact vh a i b t
  |_=>exact absurd (j) zL
 |str a=>
  obtain⟨i,rfl⟩:=n;cases x with
  |KA=>cases d;exact SeqAt.EqAt.str_none a i
  |bl b=>cases d;exact SeqAt.EqAt.str_bool a i b
  |int b=>obtain⟨t,rfl⟩:=d;exact wa a i b t
  |str b=>obtain⟨t,rfl⟩:=d;exact SeqAt.EqAt.str_str a i b t
  |_=>exact absurd (j) zL
 |_=>exact absurd (q) zL
def OO(x:V)(u:vB):Bool:=match u with
 |.none=>WH .KA x
 |.bool b=>WH (.bl b) x
 |.int i _=>WH (.int i) x
 |.str z _=>WH (.str z) x
 |_=>uD
theorem Zj(r:RelV y u)(f:Dt y=uC):OO x u=WH y x:=by
 cases y with
 |KA|bl b=>cases r;rfl
 |int i|str z=>obtain⟨t,rfl⟩:=r;rfl
 |_=>exact absurd (f) zL
theorem Vy:∀{xs:List V}{us:List vB},Vals xs us->xs.all Dt=uC->us.any (OO x)=xs.any λy=>WH y x
 |_,_,.nil,_=>rfl
 |y::xs,u::us,.cons r t,f=>by rw[jH,qQ]at f;rw[j3,j3,Zj r f.1,Vy t f.2]
theorem Ve(i:RelV x v)(j:Dt x=uC):∀{xs:List V}{us:List vB},Vals xs us->xs.all Dt=uC->∀u∈us,SeqAt.EqAt A s u v (OO x u)
 |_,_,.nil,_=>λu d=>by cases d
 |y::xs,u::us,.cons r t,f=>λn d=>by
  rw[jH,qQ]at f;rcases zw.mp d with rfl|d
  .rw[Zj r f.1];exact aW r i f.1 j
  exact Ve i j t f.2 n d
def NN(x:V)(xs:List V):Bool:=xs.any λy=>WH y x
def rIn(K:za)(neg:Bool):R2:=λx y H Q=>∃p xs,y=.ref p/\(OE K H p xs\/VE K H p xs)/\Dt x=uC/\xs.all Dt=uC/\Q (.bl (if neg then !NN x xs else NN x xs)) H
def nU:WB X (vN .NotIn) (rIn X.K uC):=by
 intro j s J H x y v u Q I z F h;obtain⟨p,L,rfl,i,n,fs,q⟩:=h;cases F;rcases i with i|i
 .obtain⟨d,r,pl,B⟩:=I.list i;refine SeqAt.notIn_listAt (OO x) pl.isList (λw hw=>Ve z n r fs w (by simpa using hw)) ⟨.bl _,H,I,rfl,?_⟩;rw[show d.toArray.any (OO x)=d.any (OO x) by simp,Vy r fs];exact q
 obtain⟨d,r,pl,B⟩:=I.tuple i;refine SeqAt.notIn_tupleAt (OO x) pl (λw hw=>Ve z n r fs w (by simpa using hw)) ⟨.bl _,H,I,rfl,?_⟩;rw[show d.toArray.any (OO x)=d.any (OO x) by simp,Vy r fs];exact q
def nV:OB X (.builtin "len") (λxs H Q=>∃p ys,xs=[.ref p]/\(OE X.K H p ys\/VE X.K H p ys)/\Q (.int ys.length) H):=by
 intro wS s σ H xs us Q I r h;obtain⟨p,ys,rfl,hq,q⟩:=h;obtain⟨u,rfl,rx⟩:=vals1 r;cases rx;have hn:=WE;rcases hq with hq|hq
 .obtain⟨MA,r',pl,hz⟩:=I.list hq;have hlen:=r'.length
  exact Calls.call_len_list pl.isList (by simp only[zk]<;>lia) ⟨.int ys.length,H,I.tok _,⟨s.toks+1,by rw[zk,hlen]⟩,q⟩
 obtain⟨MA,r',pl,hz⟩:=I.tuple hq;have hlen:=r'.length
 exact len_tuple pl (by simp only[zk]<;>lia) ⟨.int ys.length,H,I.tok _,⟨s.toks+1,by rw[zk,hlen]⟩,q⟩
def nW:OB X (.builtin "len") (λxs H Q=>∃z,xs=[.str z]/\z.length<=sizeLine/\Q (.int z.length) H):=by intro wS s σ H xs us Q I r h;obtain⟨z,rfl,hz,q⟩:=h;obtain⟨u,rfl,t,rfl⟩:=vals1 r;have hn:=WE;exact len_str (by lia) ⟨.int z.length,H,I.tok _,⟨_,rfl⟩,q⟩
def OB.or(h:OB X f r)(h':OB X f r'):OB X f (λxs H Q=>r xs H Q\/r' xs H Q):=by
 intro d s n H xs j Q I i q;rcases q with q|q
 .exact h d s n H xs j Q I i q
 exact h' d s n H xs j Q I i q
def nX:OB X (.type "list") (λxs H Q=>∃p ys,xs=[.ref p]/\(OE X.K H p ys\/VE X.K H p ys)/\∀l,H l=uB->Q (.ref l) (upd H l (.lst ys))):=by
 intro B s Z H xs us Q I r h;obtain⟨p,ys,rfl,N,q⟩:=h;obtain⟨u,rfl,Y⟩:=vals1 r;cases Y;have J:∀(d:List vB),Vals ys d->ys.length<=sizeLine->∀(j:Heap)(z:Nat),(∀b W,s.heap.get? b=uA W->j.get? b=uA W)->
   j.get? s.heap.objs.size=uA {cls:=.type "list",dict:=uB,data:=.seq d.toArray z,slots:= #[]}->EP X B Z Q (.ref s.heap.objs.size) {s with heap:=j}:=λd y F j z L e=>
  ⟨.ref s.heap.objs.size,_,I.laid L (zx _) (show VB X.prog X.w _ j _ (.lst ys)from⟨F,d,z,y,e⟩),rfl,q _ (I.SA.fresh (zx _))⟩
 rcases N with N|N
 .obtain⟨d,y,pl,F⟩:=I.list N;have M:=y.length;obtain⟨o,O,S,n,U⟩:=pl.isList
  exact call_list_seq p (.inl rfl) O S U (λj z L e=>J d y F j z L e) (by simp[zk]<;>lia)
 obtain⟨d,y,pl,F⟩:=I.tuple N;have M:=y.length;obtain⟨o,O,S,n,U⟩:=pl
 exact call_list_seq p (.inr rfl) O S U (λj z L e=>J d y F j z L e) (by simp[zk]<;>lia)
def nY:OB X (.type "tuple") (λxs H Q=>∃p ys,xs=[.ref p]/\((OE X.K H p ys/\∀l,H l=uB->Q (.ref l) (upd H l (.tup ys)))\/(VE X.K H p ys/\Q (.ref p) H))):=by
 intro y s M H xs N Q I r h;obtain⟨p,ys,rfl,h⟩:=h;obtain⟨u,rfl,J⟩:=vals1 r;cases J;rcases h with⟨j,q⟩|⟨j,q⟩
 .obtain⟨d,i,pl,n⟩:=I.list j;have B:=i.length
  refine call_tuple_list pl.isList (λF L=>?_) (by simp[zk]<;>lia)
  have z:=I.kept (t':=s.toks) L
  exact⟨.ref F.objs.size,_,z.laid (t':=s.toks) (λb o e=>zJ _ e) (zx _) (show VB X.prog X.w _ _ _ (.tup ys)from⟨n,d,i,IsTup.new _ _⟩),rfl,q _ (z.SA.fresh (zx _))⟩
 obtain⟨d,i,pl,n⟩:=I.tuple j;exact call_tuple_same pl ⟨.ref p,H,I,rfl,q⟩
def TX(K:za)(T:String)(x:V)(H:Hp):Prop:=match x with
 |.str _=>T="str"
 |.int _=>T="int"
 | .ref p=>(T="list"/\∃xs,OE K H p xs)\/(T="tuple"/\∃o,K.lookup p=uA o/\o.cls=.type "tuple"/\o.dict=uB)\/
   (T="dict"/\((∃JA,H p=uA (.dK JA))\/∃JA,H p=uA (.dT JA)))\/(T="set"/\∃S n,H p=uA (.set S n))
 |_=>False
theorem aX{L:St}{H:Hp}{T:String}{x:V}{v:vB}(I:Inv X wS L H s)(r:RelV x v)(ty:TX X.K T x H):
  s.TypeIs v T/\∀a,v=.ref a->∃B,s.heap.get? a=uA B/\B.dict=uB:=by
 cases x with
 |str z=>
  obtain⟨t,rfl⟩:=r;cases(ty);exact⟨typeIs_str s z t,nofun⟩
 |int i=>
  obtain⟨t,rfl⟩:=r;cases(ty);exact⟨typeIs_int s i t,nofun⟩
 | ref p=>
  cases r;rcases ty with⟨rfl,N,M⟩|⟨rfl,o,hk,J,q⟩|⟨rfl,hk⟩|⟨rfl,S,n,hk⟩
  .obtain⟨F,_,pl,_⟩:=I.list M;refine⟨pl.isList.typeIs,λa e=>?_⟩;cases e;obtain⟨o,n,e,c,q,_⟩:=pl;exact⟨o,e,q⟩
  .refine⟨⟨o,I.WG p o hk,J⟩,λa e=>?_⟩;cases e;exact⟨o,I.WG _ o hk,q⟩
  .have z:∃o,s.heap.get? p=uA o/\o.ExactDict:=by
    rcases hk with⟨j,hk⟩|⟨j,hk⟩
    .obtain⟨_,_,_,_,o,_,_,e,d,_⟩:=I.SA p _ hk;exact⟨o,e,d⟩
    obtain⟨_,_,_,_,o,_,_,e,d,_⟩:=I.SA p _ hk;exact⟨o,e,d⟩
   obtain⟨o,e,d⟩:=z;refine⟨⟨o,e,d.1⟩,λa y=>?_⟩;cases y;exact⟨o,e,d.2.1⟩
  obtain⟨o,_,_,_,e,d,_⟩:=I.SA p _ hk;refine⟨⟨o,e,d.1⟩,λa y=>?_⟩;cases y;exact⟨o,e,d.2.1⟩
 |_=>exact False.elim ty
noncomputable def K2(K:za)(T:String)(r:V->List V->Hp->VK->Prop)(to:TE):TE:=λσ H Q=>to σ H λx H1=>TX K T x H1/\r x [] H1 Q
noncomputable def tBM(K:za)(T:String)(r:V->List V->Hp->VK->Prop)(to:TE)(t:TA):TE:=λσ H Q=>to σ H λx H1=>TX K T x H1/\t σ H1 λxs H2=>r x xs H2 Q
variable{o e:vY}{es:List vY}{to:TE}{t:TA}{name:Str}{apos NB:Pos}{T id:String}{r:V->List V->Hp->VK->Prop}
def nZ(U:PlainAttrs T)(n:Slot T name id)(q:typeOf (.builtin id)=pure (.type "method_descriptor"))(O:j' X id r)(ho:PE X o to)
  (i:vE o name X.env (eval o X.env)=eval o X.env:=by rfl) (j:(apos.endLine==NB.line)=uC:=by rfl):PE X (.Call (.Attribute o name apos) [] [] NB) (K2 X.K T r to):=by
 intro d s B H Q I h;refine wpAny_Call_method0_late i j (YA (ho d s B H _ I h) λv J F=>?_);obtain⟨x,M,z,y,ty,N⟩:=F;obtain⟨S,L⟩:=aX z y ty;exact⟨T,id,U,n,q,S,L,Calls.callWith_builtin rfl (PySem.evalArgs_none (O d J B M x [] v [] Q z y .nil N))⟩
def n4(pa:PlainAttrs T)(y:Slot T name id)(B:typeOf (.builtin id)=pure (.type "method_descriptor"))(Z:j' X id r)(ho:PE X o to)(ha:PA X (e::es) t)
  (j:vE o name X.env (eval o X.env)=eval o X.env:=by rfl)
  (q:((vF NB (wW (e::es) X.env)).all (λx=> !x.1)&&(vG NB (vP [] X.env)).all (λx=>x.1.isSome)
   && decide (lN (e::es)+lN ([]:List Keyword)+(if([]:List Keyword).isEmpty then 0 else 1)<30))=uC:=by rfl)
  (n:(apos.endLine==NB.line)=uC:=by rfl) (hs:wW (e::es) X.env=(uD,eval e X.env)::wW es X.env:=by rfl) (i:(vF NB (wW es X.env)).any (·.1)=uD:=by rfl):
  PE X (.Call (.Attribute o name apos) (e::es) [] NB) (tBM X.K T r to t):=by
 intro d s z H Q I h;refine wpAny_Call_method_late j q n rfl (YA (ho d s z H _ I h) λv s1 zz=>?_);obtain⟨x,M,F,J,ty,q1⟩:=zz;obtain⟨h1,h2⟩:=aX F J ty;refine⟨T,id,pa,y,B,h1,h2,?_⟩;have L:=ha NB d s1 z M _ F q1;rw[hs]at L⊢
 exact Calls.callWith_builtin (by show(uD||(vF NB (wW es X.env)).any (·.1))=uD;rw[i]<;>rfl) (Calls.evalArgs_plain (YA L λS W ⟨vs,O,Y,N,U⟩=>Z d W z O x vs v S Q Y J N U))
end
def LK(X:Cx)(id:String)(r:V->List V->Hp->VK->Prop):Prop:=
 ∀(wS:List (vW×Obj))(s:vk)(σ:St)(H:Hp)(x:V)(xs:List V)(v:vB)(us:List vB)(Q:VK),Inv X wS σ H s->RelV x v->Vals xs us->r x xs H Q->
  wq (vT X.prog X.w) X.A (call (.builtin id) (v::us)) (EP X wS σ Q) X.xe s
def Vals.one:∀{x:V}{us:List vB},Vals [x] us->∃u,us=[u]/\RelV x u:=by intro x us h;cases h with |cons r t=>cases t;exact⟨_,rfl,r⟩
theorem Vals.zero:∀{us:List vB},Vals [] us->us=[]
 |_,.nil=>rfl
theorem Vals.eraseIdx:∀{xs:List V}{us:List vB}(i:Nat),Vals xs us->Vals (xs.eraseIdx i) (us.eraseIdx i)
 |_,_,_,.nil=>.nil
 |_,_,0,.cons _ t=>t
 |_,_,i+1,.cons r t=>.cons r (Vals.eraseIdx i t)
theorem Vals.rep(h:Vals xs us):∀k:Nat,Vals (zQ k xs).flatten (zQ k us).flatten
 |0=>.nil
 |k+1=>by rw[q0,q0,jk,jk];exact Vals.append h (Vals.rep h k)
theorem aY{d:Type}:∀(l:List d)(i:Nat),lN (l.eraseIdx i)<=lN l
 |[],_=>zx _
 |_::_,0=>jR _
 |_::r,i+1=>Nat.succ_le_succ (aY r i)
theorem foldl_rep(MA:List vB):∀(k:Nat)(acc:List vB),
  List.foldl (λx1 d=>x1++d) acc.toArray (zQ k MA.toArray)=(acc++(zQ k MA).flatten).toArray
 |0,acc=>by simp
 |k+1,acc=>by
  have e:acc.toArray++MA.toArray=(acc++MA).toArray:=by simp
  have i:(acc++MA)++(zQ k MA).flatten=acc++(zQ (k+1) MA).flatten:=by rw[q0,jk,qW]
  rw[<-i,<-foldl_rep MA k (acc++MA),<-e,q0,List.foldl_cons]
section
variable{X:Cx}{wS:List (vW×Obj)}{σ:St}{H:Hp}{s:vk}{l b:vW}{xs ys zs:List V}
def Inv.RO{MA its':List vB}{n:Nat}{f:Array vB->Array vB}{t':Nat}(I:Inv X wS σ H s)(hH:H l=uA (.lst xs))
  (e:s.heap.get? l=uA {cls:=.type "list",data:=.seq MA.toArray n}) (hf:f MA.toArray=its'.toArray) (hv:Vals ys its') (hz:lN ys<=sizeLine):
  Inv X wS σ (upd H l (.lst ys)) {s with heap:=s.heap.update l (Obj.mapSeq f),toks:=t'}:=by
 have q:=PySem.IsL.update e f;rw[hf]at q;exact I.write (hH▸trivial) (.inl rfl) (λb' u hb hu=>(Heap.get?_update_other s.heap (Obj.mapSeq f) (Ne.symm hb)).trans hu) ⟨_,q⟩ ⟨hz,its',_,hv,q⟩
def Inv.QV(I:Inv X wS σ H s)(y:Vals ys MA)(hz:lN ys<=sizeLine):
  Inv X wS σ (upd H s.heap.objs.size (.lst ys)) {s with heap:=s.heap.push {cls:=.type "list",data:=.seq MA.toArray},toks:=t'}:=
 I.laid (λ_ _ q=>zJ _ q) (zx _) ⟨hz,MA,0,y,zA _ rfl⟩
def Inv.fresh(I:Inv X wS σ H s):H s.heap.objs.size=uB:=I.SA.fresh (zx _)
def Inv.Sw(I:Inv X wS σ H s)(d:H l=uA (.lst xs)):xs.length<=sizeLine/\∃(MA:List vB)(n:Nat),Vals xs MA/\xs.length=MA.length/\s.heap.get? l=uA {cls:=.type "list",data:=.seq MA.toArray n}:=by obtain⟨z,MA,n,r,e⟩:=I.SA l _ d;exact⟨z,MA,n,r,r.length,e⟩
def n6(h:n<=sizeLine):xi n=uD:=by unfold xi;exact decide_eq_false (by lia)
end
section
variable{X:Cx}
def n8:V->List V->Hp->VK->Prop:=λx vs H Q=>∃l xs y,x=.ref l/\vs=[y]/\H l=uA (.lst xs)/\lN xs<sizeLine/\Q .KA (upd H l (.lst (xs++[y])))
def n9:LK X "list.append" n8:=by
 intro wS s σ H x vs v us Q I rx rv h;obtain⟨l,xs,y,rfl,rfl,hH,hz,q⟩:=h;cases rx;obtain⟨u,rfl,ru⟩:=rv.one;obtain⟨z,MA,n,r,hl,e⟩:=I.Sw hH;refine call_meets F.slot_list_append ⟨_,e,rfl⟩ F.entry_list_append (F.args_list_append_2 _ _) (PySem.list_append l MA.toArray n u (by rw[zk];lia)) ⟨e,?_⟩;refine⟨.KA,_,I.RO hH e (by simp) (r.append (.cons ru .nil)) ?_,rfl,q⟩;rw[zH,xW]
 lia
def nc:V->List V->Hp->VK->Prop:=λx vs H Q=>∃l xs i k y,x=.ref l/\vs=[.int i]/\H l=uA (.lst xs)/\ -(2^63)<=i/\i<2^63/\seqIndex? i (lN xs)=uA k/\xs[k]?=uA y/\Q y (upd H l (.lst (xs.eraseIdx k)))
def nh:LK X "list.pop" nc:=by
 intro B s Z H x Y v us Q I N rv h;obtain⟨l,U,i,k,y,rfl,rfl,J,S,M,hk,L,q⟩:=h;cases N;obtain⟨u,rfl,W⟩:=rv.one;obtain⟨t,rfl⟩:=W;obtain⟨z,j,n,r,O,e⟩:=I.Sw J;obtain⟨w,hw,d⟩:=r.get L;refine call_meets F.slot_list_pop ⟨_,e,rfl⟩ F.entry_list_pop (F.args_list_pop_2 _ _)
  (MeetsSeq.list_pop_at l j.toArray n i t k w (fitsIndex_both S M) (by rw[zk,<-O];exact hk) (by rw[<-jF];exact hw) (by rw[zk];lia)) ⟨e,?_⟩
 refine⟨y,_,I.RO J e ?_ (r.eraseIdx k) ?_,d,q⟩
 .rw[List.eraseIdxIfInBounds_toArray]
 have:=aY U k;lia
def Yv:V->List V->Hp->VK->Prop:=λx vs H Q=>∃l xs,x=.ref l/\vs=[]/\H l=uA (.lst xs)/\Q .KA (upd H l (.lst []))
def aZ:LK X "list.clear" Yv:=by intro j s M H x L v O Q I B rv h;obtain⟨l,N,rfl,rfl,y,q⟩:=h;cases B;have i:=rv.zero;subst i;obtain⟨z,d,n,r,J,e⟩:=I.Sw y;exact call_meets F.slot_list_clear ⟨_,e,rfl⟩ F.entry_list_clear (F.args_list_clear_1 _) (AutoSeq1.list_clear_list_0 l d.toArray n (by rw[zk];lia)) ⟨e,⟨.KA,_,I.RO y e rfl .nil (j6 _),rfl,q⟩⟩
def L2:R2:=λx y H Q=>∃l k xs,x=.ref l/\y=.int k/\Rd H l (.lst xs)/\ -(2^63)<=k/\k<2^63/\lN xs*k.toNat<=sizeLine/\
 ∀p,H p=uB->Q (.ref p) (upd H p (.lst (zQ k.toNat xs).flatten))
theorem SO{i:Type}(xs:List i)(k:Nat):lN (zQ k xs).flatten=k*lN xs:=by
 induction k with
 |zero=>simp
 |succ k d=>rw[q0,jk,zH,d,j0,xz]
def ni:WB X (vI .Mult) L2:=by
 intro wS s σ H x y v u Q I rx ry h;obtain⟨l,k,xs,rfl,rfl,hH,h1,h2,hz,q⟩:=h;cases rx;obtain⟨t,rfl⟩:=ry;obtain⟨z,MA,n,r,e⟩:=hH.ok I.SA;have hl:=r.length;have hlen:MA.toArray.size*k.toNat<=sizeLine:=by rw[zk,<-hl];exact hz
 have Q2:¬MA.toArray.size*k.toNat>(2^63-1)/8:=by
  have:(sizeLine:Nat)<=(2^63-1)/8:=by decide
  lia
 have T2:¬(!Builtin.List.listFitsIndex k)=uC:=by rw[fitsIndex_both h1 h2];exact zL
 have RV:¬xi (MA.toArray.size*k.toNat)=uC:=by rw[n6 hlen];exact zL
 have U2:List.foldl (λx1 x2=>x1++x2) #[] (zQ (if MA.toArray.isEmpty=uC then 0 else k.toNat) MA.toArray)=(zQ k.toNat MA).flatten.toArray:=by
  have f0:∀m:Nat,List.foldl (λx1 x2=>x1++x2) #[] (zQ m MA.toArray)=(zQ m MA).flatten.toArray:=λm=>by have:=foldl_rep MA m [];rw[qH]at this;exact this
  rw[f0];cases MA with
  |nil=>simp
  |cons a r'=>rw[if_neg (by simp)]
 refine wpAny_binaryOp_repeat_ref (by decide) ⟨_,e,rfl⟩ (λs'=>typeIs_int s' k t) noFill_list_mul F.fills_int_mul F.slot_int_rmul repeat_list F.slot_int_index.lookup
  (call_meets F.slot_int_rmul (typeIs_int s k t) F.entry_int_rmul (F.args_int_rmul_2 _ _) (int___rmul___int_list k t l MA.toArray n)
   ⟨e,rfl,⟨_,e,rfl⟩,call_meets F.slot_list_mul ⟨_,e,rfl⟩ F.entry_list_mul (F.args_list_mul_2 _ _) (AutoListH.list___mul___list_int_3 l MA.toArray n k t T2 Q2 RV) ⟨e,?_⟩⟩)
 rw[U2];exact⟨.ref _,_,I.QV (r.rep k.toNat) (by rw[SO,Nat.mul_comm];exact hz),rfl,q _ I.fresh⟩
end
section
variable{prog:vj}{w:vC}{A:vK}{E:vB->vk->Prop}{s:vk}
end
section
variable{X:Cx}
end
end _L
namespace Att
open PySem PySem.W PySem.Calls PyProof.Rows
theorem nj:∀(ns:List Int)(vs:List vB),WellAll P h vs (ns.map WData.int)->IntsAre vs ns:=by
 intro ns
 induction ns with
 |nil=>
  intro vs w;rw[qy]at w;cases w;exact .nil
 | cons n ns d=>
  intro vs w;rw[zY]at w;cases w with
  |cons a b=>
   cases a;exact .cons _ _ (d _ b)
theorem nk{l:OpenLaw}{n:Nat}(O:l.most=uA n){P:Params}{h:Heap}{i:List WData}{z:List vB}
  (y:l.row.toRowW.claim.pre i=uC) (L:WellAll P h z i):
  ∃a vs ns,z=[Value.ref a]/\i=[WData.list (ns.map WData.int)]/\h.get? a=uA {cls:=.type "list",data:=.seq vs.toArray}/\IntsAre vs ns/\lN ns<=n:=by
 have M:l.pre.holds [] {args:=i}=uC:=(pre_splitW y).2;obtain⟨d,r,rfl,Y,U⟩:=hasAllW_cons ((pre_splitW y).1);obtain rfl:=hasAllW_nil U;obtain⟨xs,rfl,N⟩:=hasW_list Y;obtain⟨ns,rfl⟩:=items_int N;have F:lN ns<=n:=by
  unfold OpenLaw.pre at M;have J:(WTm.not (.lt (.lit (.int (n:Int))) (.len (.arg 0)))).holds [] {args:=[.list (ns.map .int)]}=uC:=by have J:=(holds_andW M).1;rw[O]at J;exact J
  have I:=condW_of J (w_not (w_lt w_lit (w_len_list (w_arg rfl))));rw[zq]at I;refine Nat.le_of_not_lt λq=>?_
  first
   |(rw[j (by lia)]at I;exact absurd I (by decide))
   |(simp at I;lia)
 cases L with
 |cons S W=>
  cases W;cases S with
  |list Z B=>exact⟨_,_,ns,rfl,rfl,Z,nj ns _ B,F⟩
def nq(l:OpenLaw)(d:List WData):l.row.toRowW.claim.post d (.bool uC) d=uC:=
 postW_of
  (show WShape.has [] (.bool uC) .bool=uC by first|rfl|decide|simp[WShape.has,WShape.arms,WShape.armsAll])
  (w_eq_bool (w_res rfl) w_lit) rfl
def nr{l:OpenLaw}{n:Nat}{q:vj}{loose:List Str}{XP:(Str->Option vB)->Heap->Prop}{YP:vC->Heap->Prop}{d:DefRec}
  (hn:l.most=uA n) (MR:d.params.defaults=[])
  (call:∀(w:vC)(j i:vk)(L O:Str->Option vB)(B:vW)(o:Obj)(pm cd y:vB)(a:vW)(vs:List vB)(ns:List Int),
   Ground q loose [] XP w j L O i.heap->YP w i.heap->
   i.heap.get? B=uA o->o.data=.func (docDef d.name d.params d.body d.scope pm cd y)->i.heap.CodeRec cd d.name->L d.name=uA (.ref B)->
   i.heap.get? a=uA {cls:=.type "list",data:=.seq vs.toArray}->IntsAre vs ns->lN ns<=n->i.gens= #[]->
   codeAny (vT l.prog w) callerA (.call (.ref B) ⟨[.ref a],[]⟩) (λr s'=>r=.ok (.ret (.bool uC))/\OldK i.heap s'.heap/\s'.os=i.os/\AllBare s'.gens) i):
  WalkO q loose XP YP l.row.toRowW d [] (λf vs=>qe f vs):=by
 intro w j i L O G Y B o pm cd y dV kV ho hd M U S hg args W as J Z hrd N hlo;obtain rfl:dV=.none:=Dflts.none U MR;obtain rfl:kV=.none:=Dflts.noKw U;obtain⟨a,vs,ns,rfl,rfl,F,z,I⟩:=nk hn J N;refine enter_call (vM (call w j i L O B o pm cd y a vs ns G Y ho (fd_plain hd) M S F z I hg) λr s' hq=>?_);obtain⟨rfl,h2,h3,h4⟩:=hq
 exact⟨.inl ⟨.bool uC,.bool uC,[],rfl,λ_=>rfl,.bool uC,nq l _,λ_=>⟨List.Pairwise.nil,λ_ hm=>(nomatch hm)⟩⟩,h2,h3,h4⟩
section
variable{prog:vj}{w:vC}{A:vK}{E:vB->vk->Prop}{s:vk}{K:wM}
noncomputable def Jq(h:Heap):Heap:={h with objs:= #[]}
theorem Jx(h:Heap)(b:vW):(Jq h).get? b=uB:=by
 cases e:(Jq h).get? b with
 |none=>rfl
 |some o=>exact absurd (zD e) (xR _)
noncomputable def ledger(h:Heap)(L d:vW):List (vW×Obj):=(zW h.objs.size).filterMap λa=>if a=L\/a=d then uB else(h.get? a).map λo=>(a,o)
def Gj:(a,o)∈ledger h L d↔a≠L/\a≠d/\h.get? a=uA o:=by
 unfold ledger;rw[List.mem_filterMap];constructor
 .rintro⟨b,_,e⟩;split at e
  .cases e
  rename_i j;obtain⟨B,i,z⟩:=qX.mp e;cases z;exact⟨λq=>j (.inl q),λq=>j (.inr q),i⟩
 rintro⟨n,y,i⟩;refine⟨a,qz.mpr (zD i),?_⟩
 rw[if_neg (λq=>q.elim n y),i]<;>rfl
def nv(n:h.Ns L m):Fr (Jq h) L h m:=
 ⟨n,λb o e=>(by rw[Jx]at e;cases e),j6 _⟩
end
end Att
namespace _L
open PySem PySem.Spec PyProof.Rows
variable{P:vj}{H':Hp}
theorem Tu:∀{vs:List vB}{ns:List Int},IntsAre vs ns->Vals (ns.map V.int) vs
 |_,_,.nil=>.nil
 |_,_,.cons n t h=>.cons ⟨t,rfl⟩ (Tu h)
noncomputable abbrev MK:RL:=λ_ _ _ _ _ _=>False
noncomputable abbrev E0:XK:=λ_ _ _=>False
def LH:Passes MK X E0:=λ_ _ _ _ _ _ _ h=>h.elim
structure TL (K:za) (x qual:Str) (st:vA) (f:vW) (fd:vq):Prop where
 ex:∃(oc:vB)(od:Option vW)(kV doc pm:vB)(an:Option vW)(YG ct:vB)(RX:Array (Option vB)),
  fd=jb x qual (Fw st) (Eg st) (Bs st) .none kV doc pm an YG ct/\K.lookup f=uA ⟨oc,od,.func fd,RX⟩/\wh K YG qual=uC
 kp:qd K (.ref f)=uC
section
variable{P:vj}{w:vC}{K:za}{mg:Str->Option vB}{base:Heap}
def TL.ok{x qual:Str}{st:vA}{f:vW}{y:vq}{N ps:List Str}{k:Nat}{sp:Sp}(F:TL K x qual st f y)(S:KC N ps (Bs st))(len:∀vs H Q E,sp vs H Q E->lN vs=lN ps)
  (i:∀(d:vB)(A:vK)(outer:List Env)(s:vk)(H:Hp)(vs:List V)(Q:VK)(E:XK),GB k (A.deeper (envOfC qual (Bs st) s.heap.objs.size f d))->sp vs H Q E->
   ∃t,VH (Kl MK P w K mg base N qual (Bs st) f d A outer s H E).TR (Eg st) t/\t {nx:=λ_ H'=>Q .KA H',rt:=Q} (start N vs) H):ID P w K mg base MK (k+1) f y ps sp:=by
 obtain⟨M,L,kV,J,pm,O,d,ct,z,rfl,B,n⟩:=F.ex;refine Zk B n S len λA outer s H vs Q E I j=>?_
 obtain⟨t,h,q⟩:=i d A outer s H vs Q E I j;exact⟨t,h.TR,q⟩
def TL.binds{x qual:Str}{st:vA}{f:vW}{n:vq}{ps:List Str}(F:TL K x qual st f n)
  (h:∀(kV i pm:vB)(j:Option vW)(d ct:vB)(us:List vB),lN us=lN ps->bindArgs (jb x qual (Fw st) (Eg st) (Bs st) .none kV i pm j d ct) ⟨us,[]⟩=pure (ps.zip us)):Binds K n ps []:=by
 obtain⟨z,I,kV,i,pm,j,d,ct,q,rfl,B,y⟩:=F.ex;exact .all (h kV i pm j d ct)
end
section
variable{X:Cx}
end
section
variable{κ:Type}[DecidableEq κ]
noncomputable def Fe(JA:List (κ×V))(k:κ):Option V:=(JA.find? λkv=>decide (kv.1=k)).map (·.2)
noncomputable def putK(JA:List (κ×V))(k:κ)(v:V):List (κ×V):=
 if(JA.any λkv=>decide (kv.1=k))=uC then JA.map (λkv=>if kv.1=k then(kv.1,v)else kv)else JA++[(k,v)]
def Vw{p:κ×V}{r:List (κ×V)}{k:κ}(e:p.1=k):Fe (p::r) k=uA p.2:=by simp[Fe,qj,e]
def Uy{p:κ×V}{r:List (κ×V)}{k:κ}(e:¬p.1=k):Fe (p::r) k=Fe r k:=by simp[Fe,qj,e]
theorem ae(k:κ):∀JA:List (κ×V),(JA.any λkv=>decide (kv.1=k))=(Fe JA k).isSome
 |[]=>rfl
 |p::r=>by
  rw[j3];by_cases e:p.1=k
  .simp only[Vw e,decide_eq_true e,Bool.true_or,Option.isSome_some]
  .rw[Uy e,decide_eq_false e,Bool.false_or];exact ae k r
def ag(JA:List (κ×V))(k:κ)(v:V):(putK JA k v).length<=JA.length+1:=by
 unfold putK;split
 .rw[zq];lia
 .rw[zH,zE,xZ];lia
theorem UE.nw{o:Option V}{u:Option vB}(r:UE o u):o.isSome=u.isSome:=by
 cases o with
 |none=>cases u with
  |none=>rfl
  |some _=>exact(show False from r).elim
 |some _=>cases u with
  |none=>exact(show False from r).elim
  |some _=>rfl
theorem UE.getD{o:Option V}{u:Option vB}{d:V}{d':vB}(r:UE o u)(rd:RelV d d'):RelV (o.getD d) (u.getD d'):=by
 cases o with
 |none=>cases u with
  |none=>exact rd
  |some _=>exact(show False from r).elim
 |some _=>cases u with
  |none=>exact(show False from r).elim
  |some _=>exact r
theorem KV.val{JA:List (κ×V)}{vs:List (κ×vB)}(r:KV JA vs)(k:κ):UE (Fe JA k) (valueAt vs k):=by
 unfold KV at r
 induction r with
 |nil=>exact True.intro
 | @cons p q ps qs h t ih=>
  obtain⟨h1,h2⟩:=h;by_cases e:p.1=k
  .have e':q.1=k:=h1.symm.trans e;have b:valueAt (q::qs) k=uA q.2:=by simp[valueAt,qj,e']
   rw[Vw e,b];exact h2
  .have e':¬q.1=k:=λz=>e (h1.trans z)
   have b:valueAt (q::qs) k=valueAt qs k:=by simp[valueAt,qj,e']
   rw[Uy e,b];exact ih
theorem KV.any{JA:List (κ×V)}{vs:List (κ×vB)}(r:KV JA vs)(k:κ):(JA.any λkv=>decide (kv.1=k))=vs.any λkv=>decide (kv.1=k):=by
 unfold KV at r
 induction r with
 |nil=>rfl
 |cons h t ih=>rw[j3,j3,ih,h.1]
theorem KV.OJ{JA:List (κ×V)}{vs:List (κ×vB)}(r:KV JA vs)(k:κ){y:V}{u:vB}(ry:RelV y u):
  KV (JA.map λkv=>if kv.1=k then(kv.1,y)else kv) (vs.map λkv=>if kv.1=k then(kv.1,u)else kv):=by
 unfold KV at r⊢
 induction r with
 |nil=>exact .nil
 |@cons p q ps qs h t ih=>
  rw[zY,zY];refine .cons ?_ ih;obtain⟨h1,h2⟩:=h;by_cases e:p.1=k
  .rw[if_pos e,if_pos (h1.symm.trans e)];exact⟨h1,ry⟩
  .rw[if_neg e,if_neg (λz=>e (h1.trans z))];exact⟨h1,h2⟩
def KV.put{JA:List (κ×V)}{vs:List (κ×vB)}(r:KV JA vs)(k:κ){y:V}{u:vB}(ry:RelV y u):KV (putK JA k y) (stored vs k u):=by
 unfold putK stored;rw[r.any k];by_cases e:(vs.any λkv=>decide (kv.1=k))=uC
 .rw[if_pos e,if_pos e];exact r.OJ k ry
 .rw[if_neg e,if_neg e];exact Paired.snoc r ⟨rfl,ry⟩
def KV.length{JA:List (κ×V)}{vs:List (κ×vB)}(r:KV JA vs):JA.length=vs.length:=Paired.length r
end
theorem W7{w:vC}{k:Key}{u:vB}(r:RelV (kV k) u):(Fl P w).is k u=uC:=by
 cases k with
 |inl i=>obtain⟨t,e⟩:=(show∃t,u=Value.int i t from r);subst e;exact kL P w i t
 |inr x=>obtain⟨t,e⟩:=(show∃t,u=Value.str x t from r);subst e;exact kM P w x t
theorem ah{w:vC}:∀{ks:List Key}{us:List vB},Vals (ks.map kV) us->ItemsAre (Fl P w) ks us
 |[],_,r=>by rw[qy]at r;cases r;exact .nil
 |k::ks,_,r=>by
  rw[zY]at r;cases r with
  |cons h t=>exact .cons (W7 h) (ah t)
abbrev KT(H:Hp):List (List Key×V)->List (List Key×vW×vB)->Prop:=Paired λp q=>p.1=q.1/\H q.2.1=uA (.tup (p.1.map kV))/\RelV p.2 q.2.2
theorem KT.val{H:Hp}{JA:List (List Key×V)}{xs:List (List Key×vW×vB)}(r:KT H JA xs)(k:List Key):UE (Fe JA k) ((atKey xs k).map (·.2)):=by
 induction r with
 |nil=>exact True.intro
 | @cons p q ps qs h t ih=>
  obtain⟨h1,_,h2⟩:=h;by_cases e:p.1=k
  .have e':q.1=k:=h1.symm.trans e;have b:atKey (q::qs) k=uA q.2:=by simp[atKey,qj,e']
   rw[Vw e,b];exact h2
  .have e':¬q.1=k:=λz=>e (h1.trans z)
   have b:atKey (q::qs) k=atKey qs k:=by simp[atKey,qj,e']
   rw[Uy e,b];exact ih
theorem KT.OJ{H:Hp}{JA:List (List Key×V)}{xs:List (List Key×vW×vB)}(r:KT H JA xs)(k:List Key){y:V}{u:vB}(ry:RelV y u):
  KT H (JA.map λkv=>if kv.1=k then(kv.1,y)else kv) (xs.map (putAt k u)):=by
 induction r with
 |nil=>exact .nil
 |@cons p q ps qs h t ih=>
  rw[zY,zY];refine .cons ?_ ih;obtain⟨h1,h2,h3⟩:=h;unfold putAt;by_cases e:p.1=k
  .rw[if_pos e,if_pos (h1.symm.trans e)];exact⟨h1,h2,ry⟩
  .rw[if_neg e,if_neg (λz=>e (h1.trans z))];exact⟨h1,h2,h3⟩
def KT.put{H:Hp}{JA:List (List Key×V)}{xs:List (List Key×vW×vB)}(r:KT H JA xs)(k:List Key){b:vW}{y:V}{u:vB}(hb:H b=uA (.tup (k.map kV)))(ry:RelV y u):
  KT H (putK JA k y) (storedH xs k b u):=by
 have e:(JA.any λkv=>decide (kv.1=k))=(atKey xs k).isSome:=by rw[ae,(r.val k).nw,Option.isSome_map]
 unfold putK storedH;rw[e];by_cases q:(atKey xs k).isSome=uC
 .rw[if_pos q,if_pos q];exact r.OJ k ry
 .rw[if_neg q,if_neg q];exact Paired.snoc r ⟨rfl,hb,ry⟩
def KT.keeps{H:Hp}{JA:List (List Key×V)}{xs:List (List Key×vW×vB)}(r:KT H JA xs)(ht:∀b ys,H b=uA (.tup ys)->H' b=uA (.tup ys)):KT H' JA xs:=
 Paired.Vn r λ_ _ z=>⟨z.1,ht _ _ z.2.1,z.2.2⟩
section
variable{P:vj}{w:vC}{H:Hp}{h:Heap}{a:vW}
def ai{u:HO}(ok:ZE P w H h)(e:Rd H a u):VB P w H h a u:=e.ok ok
def V0{JA:List (Key×V)}(ok:ZE P w H h)(e:Rd H a (.dK JA)):JA.length<=sizeLine/\(a==sysModules)=uD/\∃vs,KV JA vs/\h.DictOf (Fl P w) a vs:=
 show VB P w H h a (.dK JA)from ai ok e
def ny{JA:List (Key×V)}(ok:ZE P w H h)(e:H a=uA (.dK JA)):JA.length<=sizeLine/\(a==sysModules)=uD/\∃vs,KV JA vs/\h.DictOf (Fl P w) a vs:=V0 ok (.inl e)
def Vg{ks:List Key}(ok:ZE P w H h)(e:H a=uA (.tup (ks.map kV))):(tupleKind (Fl P w)).is h ks a:=by
 obtain⟨_,MA,r,o,h1,h2,n,h3⟩:=(show VB P w H h a (.tup (ks.map kV))from ok a _ e)
 exact⟨o,MA.toArray,n,h1,h2,h3,by simpa using ah r⟩
def Z8{JA:List (List Key×V)}(ok:ZE P w H h)(e:Rd H a (.dT JA)):JA.length<=sizeLine/\(a==sysModules)=uD/\
  ∃xs,KT H JA xs/\h.DictOfH (tupleKind (Fl P w)) a xs:=by
 obtain⟨z,y,xs,r,o,es,ep,h1,h2,h3,h4,h5⟩:=(show VB P w H h a (.dT JA)from ai ok e)
 refine⟨z,y,xs,r,o,es,ep,h1,h2,h3,h4,λx hx=>?_,h5⟩;have all:∀{l:List (List Key×V)}{m:List (List Key×vW×vB)},KT H l m->∀x∈m,(tupleKind (Fl P w)).is h x.1 x.2.1:=by
  intro l m q
  induction q with
  |nil=>intro x hx;exact nomatch hx
  |@cons p q ps qs hq t ih=>
   intro x hx;rcases zw.mp hx with e|hx
   .subst e;exact Vg ok (by rw[<-hq.1];exact hq.2.1)
   .exact ih x hx
 exact all r x hx
def nz{JA:List (List Key×V)}(ok:ZE P w H h)(e:H a=uA (.dT JA)):JA.length<=sizeLine/\(a==sysModules)=uD/\
  ∃xs,KT H JA xs/\h.DictOfH (tupleKind (Fl P w)) a xs:=Z8 ok (.inl e)
end
def HM(H:Hp)(a:vW)(y:V)(r:Option V):Prop:=
 (∃JA k,Rd H a (.dK JA)/\y=kV k/\r=Fe JA k)\/∃JA k b,Rd H a (.dT JA)/\y=.ref b/\H b=uA (.tup (k.map kV))/\r=Fe JA k
def IM(H:Hp)(a:vW)(y v:V)(H':Hp):Prop:=
 (∃JA k,H a=uA (.dK JA)/\y=kV k/\JA.length<sizeLine/\H'=upd H a (.dK (putK JA k v)))\/
 ∃JA k b,H a=uA (.dT JA)/\y=.ref b/\H b=uA (.tup (k.map kV))/\JA.length<sizeLine/\H'=upd H a (.dT (putK JA k v))
def HM.t{H:Hp}{a b:vW}{JA:List (List Key×V)}{k:List Key}(e:H a=uA (.dT JA))(eb:H b=uA (.tup (k.map kV))):HM H a (.ref b) (Fe JA k):=.inr ⟨JA,k,b,.inl e,rfl,eb,rfl⟩
def IM.t{H:Hp}{a b:vW}{JA:List (List Key×V)}{k:List Key}{v:V}(e:H a=uA (.dT JA))(eb:H b=uA (.tup (k.map kV)))(hl:JA.length<sizeLine):
  IM H a (.ref b) v (upd H a (.dT (putK JA k v))):=.inr ⟨JA,k,b,e,rfl,eb,hl,rfl⟩
section
variable{X:Cx}{wS:List (vW×Obj)}{σ:St}{H:Hp}{s:vk}{a:vW}{y v:V}{u r:vB}{o:Option V}{A:vK}{E:vB->vk->Prop}
def Inv.big(I:Inv X wS σ H s):sysModules<s.heap.objs.size:=by have h:vS<s.heap.objs.size:=(I.mod.glob.keeps I.bk).lt;exact Nat.lt_trans (by decide) h
def am{h':Heap}{t':Nat}{ob:HO}(I:Inv X wS σ H s)(mu:LU (H a))(hs:jK a s.heap h')(he:∃q,h'.get? a=uA q)(new:VB X.prog X.w (upd H a ob) h' a ob):
  Inv X wS σ (upd H a ob) {s with heap:=h',toks:=t'}:=
 I.write (x:=a) (e:=a) mu (.inl rfl) (λb q hb z=>(hs.2 b hb).trans z) he new
def oB{w:vC}{h':Heap}{JA:List (Key×V)}{vs:List (Key×vB)}(z:JA.length<=sizeLine)(hd:(a==sysModules)=uD)(rel:KV JA vs)(dd:h'.DictOf (Fl P w) a vs):
  VB P w H' h' a (.dK JA):=⟨z,hd,vs,rel,dd⟩
def oC{Q:Unit->vk->Prop}(hu:A.units+1<cLine)(I:Inv X wS σ H s)(g:IM H a y v H')(ry:RelV y u)(rv:RelV v r)(h:∀s',Inv X wS σ H' s'->Q () s'):
  wq (vT X.prog X.w) A (setItem (.ref a) u r) Q E s:=by
 rcases g with⟨JA,k,e,ey,l,eH⟩|⟨JA,k,b,e,ey,eb,l,eH⟩
 .subst ey eH;obtain⟨z,hd,vs,rel,dd⟩:=ny I.SA e;have hz:vs.length<=sizeLine:=by rw[<-rel.length];exact z
  have hl:(putK JA k v).length<=sizeLine:=by have:=ag JA k v;lia
  refine wpAny_setItem_pairs (hsz:=hz) (W7 ry) dd λh' UX hs=>h _ ?_
  have he:∃q,h'.get? a=uA q:=let⟨q,_,_,hq,_⟩:=UX;⟨q,hq⟩;exact am I (by rw[e];exact True.intro) hs he (oB hl hd (rel.put k rv) UX)
 .subst ey eH
  cases(show u=Value.ref b from ry)
  obtain⟨z,hd,xs,rel,dd⟩:=nz I.SA e;have hz:xs.length<=sizeLine:=by rw[<-Paired.length rel];exact z
  have hl:(putK JA k v).length<=sizeLine:=by have:=ag JA k v;lia
  refine wpAny_setItem_heap (hsz:=hz) (tupleKind_room_in1 hu) (Vg I.SA eb) dd λh' UX hs=>h _ ?_
  obtain⟨q,es,ep,hq,h2,h3,h4,_,h5⟩:=UX;refine am I (by rw[e];exact True.intro) hs ⟨q,hq⟩ ⟨hl,hd,_,(rel.put k eb rv).keeps λc ys ec=>?_,q,es,ep,hq,h2,h3,h4,h5⟩
  rw[Ag (kN ec e (λz=>nomatch z))]
  exact ec
end
section
variable{X:Cx}{wS:List (vW×Obj)}{σ:St}{H:Hp}{s:vk}{a:vW}{JA:List (Key×V)}{k:Key}{u:vB}{A:vK}{E:vB->vk->Prop}
end
section
variable{X:Cx}{o i e value:vY}{pos pos' PH:Pos}{td ty tv:TE}
end
def oF{w:vC}{H:Hp}(h:Heap)(hb:sysModules<h.objs.size):VB P w H (h.push {cls:=.type "dict",data:=.dict #[]}) h.objs.size (.dT []):=
 ⟨j6 _,beq_eq_false_iff_ne.mpr (Ne.symm (qZ hb)),[],.nil,_,#[],0,zA _ rfl,⟨rfl,rfl,rfl⟩,rfl,rfl,List.nodup_nil⟩
def oH:TE:=λ_ H Q=>∀p,H p=uB->Q (.ref p) (upd H p (.dT []))
section
variable{X:Cx}{pos:Pos}
def oJ:PE X (.Dict [] [] pos) oH:=λwS s σ H Q I h=>
 wpAny_Dict_empty ⟨.ref s.heap.objs.size,_,I.laid (a:=s.heap.objs.size) (o:=.dT []) (t':=s.toks) (λ_ _ q=>zJ _ q) (zx _) (oF s.heap I.big),rfl,h _ (I.SA.fresh (zx _))⟩
end
structure M1 (X:Cx) (o:vY) (m:Str) (apos:Pos) (e:vY) (NB:Pos):Prop where
 base:vE o m X.env (eval o X.env)=eval o X.env
 l':((vF NB (wW [e] X.env)).all (λx=> !x.1)&&(vG NB (vP [] X.env)).all (λx=>x.1.isSome)
  && decide (([e]:List vY).length+([]:List Keyword).length+(if([]:List Keyword).isEmpty then 0 else 1)<30))=uC
 line:(apos.endLine==NB.line)=uC
 trees:vF NB (wW [e] X.env)=[(uD,eval e X.env)]
structure M2 (X:Cx) (o:vY) (m:Str) (apos:Pos) (e f:vY) (NB:Pos):Prop where
 base:vE o m X.env (eval o X.env)=eval o X.env
 l':((vF NB (wW [e,f] X.env)).all (λx=> !x.1)&&(vG NB (vP [] X.env)).all (λx=>x.1.isSome)
  && decide (([e,f]:List vY).length+([]:List Keyword).length+(if([]:List Keyword).isEmpty then 0 else 1)<30))=uC
 line:(apos.endLine==NB.line)=uC
 trees:vF NB (wW [e,f] X.env)=[(uD,eval e X.env),(uD,eval f X.env)]
def n'(H:Hp)(a:vW):Prop:=(∃JA,Rd H a (.dK JA))\/∃JA,Rd H a (.dT JA)
def oK{X:Cx}{wS:List (vW×Obj)}{σ:St}{H:Hp}{s:vk}{a:vW}(I:Inv X wS σ H s)(d:n' H a):
  s.TypeIs (.ref a) "dict"/\(∀b,Value.ref a=.ref b->∃ob,s.heap.get? b=uA ob/\ob.dict=uB)/\(a==sysModules)=uD:=by
 rcases d with⟨JA,e⟩|⟨JA,e⟩
 .obtain⟨_,hd,vs,_,dd⟩:=V0 I.SA e;refine⟨dd.typeIs,λb q=>?_,hd⟩;cases q;obtain⟨ob,_,_,h1,h2,_⟩:=dd;exact⟨ob,h1,h2.2.1⟩
 .obtain⟨_,hd,xs,_,dd⟩:=Z8 I.SA e;refine⟨dd.typeIs,λb q=>?_,hd⟩;cases q;obtain⟨ob,_,_,h1,h2,_⟩:=dd;exact⟨ob,h1,h2.2.1⟩
section
variable{X:Cx}{wS:List (vW×Obj)}{σ:St}{H:Hp}{s:vk}{a:vW}{y d:V}{u r:vB}{o:Option V}{A:vK}{E:vB->vk->Prop}
def oN{Q:vB->vk->Prop}(hu:A.units+1<cLine)(I:Inv X wS σ H s)(g:HM H a y o)(ry:RelV y u)(rd:RelV d r)(h:∀w' s',Inv X wS σ H s'->RelV (o.getD d) w'->Q w' s'):
  wq (vT X.prog X.w) A (call (.builtin "dict.get") [.ref a,u,r]) Q E s:=by
 rcases g with⟨JA,k,e,ey,l⟩|⟨JA,k,b,e,ey,eb,l⟩
 .subst ey;obtain⟨z,hd,vs,rel,dd⟩:=V0 I.SA e;refine call_meetsIn vb dd.typeIs uX (uV _ _ _) (meets_dict_get_default (Fl X.prog X.w) a (W7 ry) hd r) ⟨_,dd.mapOf,h _ _ (I.tok _) ?_⟩;rw[l];exact(rel.val k).getD rd
 .subst ey
  cases(show u=Value.ref b from ry)
  obtain⟨z,hd,xs,rel,dd⟩:=Z8 I.SA e;refine call_meetsIn vb dd.typeIs uX (uV _ _ _) (meetsH_dict_get_default (tupleKind (Fl X.prog X.w)) a b hd r) ⟨tupleKind_room_in1 hu,k,xs,Vg I.SA eb,dd,h _ _ (I.tok _) ?_⟩;rw[l];exact(rel.val k).getD rd
end
noncomputable def oO(td ty tx:TE):TE:=λσ H Q=>td σ H λx H1=>∃a,x=.ref a/\n' H1 a/\ty σ H1 λy H2=>tx σ H2 λz H3=>∃o,HM H3 a y o/\Q (o.getD z) H3
section
variable{X:Cx}{o e f:vY}{apos NB:Pos}{td ty tx:TE}
def oQ(hu:X.A.units+1<cLine)(ho:PE X o td)(he:PE X e ty)(hf:PE X f tx)(m:M2 X o "get" apos e f NB):PE X (.Call (.Attribute o "get" apos) [e,f] [] NB) (oO td ty tx):=by
 intro wS s σ H Q I h;refine wpAny_Call_method m.base m.l' m.line PySem.F.plainAttrs_dict vb PySem.F.type_dict_get (YA (ho wS s σ H _ I h) λu s1 ⟨x,H1,I1,rx,a,ex,d,q1⟩=>?_);subst ex;obtain rfl:u=Value.ref a:=rx;obtain⟨t1,t2,_⟩:=oK I1 d;refine⟨t1,t2,?_⟩;rw[m.trees];refine Calls.callWith_builtin rfl (Calls.evalArgs_plain (Calls.spliced_cons (YA (he wS s1 σ H1 _ I1 q1) λiv s2 ⟨y,H2,I2,ry,q2⟩=>
  Calls.spliced_cons (YA (hf wS s2 σ H2 _ I2 q2) λfv s3 ⟨z,H3,I3,rz,ov,g,q3⟩=>Calls.spliced_nil ?_))))
 exact oN hu I3 g ry rz λw' s4 I4 XR=>⟨_,H3,I4,XR,q3⟩
end
section
variable{X:Cx}{wS:List (vW×Obj)}{σ:St}{H:Hp}{s:vk}{a:vW}{JA:List (Key×V)}{A:vK}{E:vB->vk->Prop}
end
section
variable{X:Cx}{wS:List (vW×Obj)}{σ:St}{H:Hp}{s:vk}{a:vW}{y:V}{u:vB}{A:vK}{E:vB->vk->Prop}
end
section
variable{X:Cx}
end
end _L
namespace _L
section
variable{κ:Type}[DecidableEq κ]
end
end _L
namespace _D
open PySem PySem.Spec _L
open PyProof.Rows hiding St
variable{κ:Type}
inductive D where
 |KA|bl (b:Bool)|int (i:Int)|str (x:Str)|ty (n:String)
 |tup (xs:List D)
 |fl (xs:List D)
 |ref (i:Nat)
inductive DO where
 |lst (xs:List D)
 |YR (JA:List (Key×D))
 |RC (JA:List (List Key×D))
 |ins (c:Str) (fs:List (Str×D))
 |tab (c m:Str)
 |exc (c:Str) (fs:List (Str×D))
 |gone
noncomputable abbrev DH:=List DO
noncomputable abbrev PB:=List (Option D)
structure Xn where
 cls:Str
 fs:List (Str×D)
inductive R (α:Type) where
 |ok (a:α) (G:DH)
 |err (x:Xn) (G:DH)
 |bad
abbrev Fx{α:Type}(_:α):Type:=Unit
noncomputable def R.bind{α β:Type}(f:α->DH->R β)(_:Fx f:=())(r:R α):R β:=match r with
 |.ok a G=>f a G
 |.err x G=>.err x G
 |.bad=>.bad
@[simp]theorem R.Ea{b c:Type}(a:b)(G:DH)(f:b->DH->R c):(R.ok a G).bind f=f a G:=id rfl
inductive SR where
 |nx (S:PB) (G:DH)
 |rt (d:D) (G:DH)
 |bk (S:PB) (G:DH)
 |ct (S:PB) (G:DH)
 |err (x:Xn) (G:DH)
 |bad
noncomputable abbrev DE:=PB->DH->R D
noncomputable abbrev DB:=PB->DH->R Bool
noncomputable abbrev DA:=PB->DH->R (List D)
noncomputable abbrev DS:=PB->DH->SR
def ZR(K:za)(H:Hp)(a:vW)(xs:List V):Prop:=
 (∃o,H a=uA (.WC o (.lst xs)))\/
  (∃ns:List Int,xs=ns.map V.int)/\∃(o:Obj)(MA:Array vB)(n:Nat),K.lookup a=uA o/\o.cls=.type "list"/\o.dict=uB/\o.data=.seq MA n/\MA.size<=sizeLine/\Vals xs MA.toList
def ZR.sq{K:za}{H:Hp}{a:vW}{xs:List V}(h:ZR K H a xs):OE K H a xs:=by
 rcases h with⟨o,h⟩|⟨_,h⟩
 .exact .inl (.inr ⟨o,h⟩)
 exact .inr h
structure Wd where
 K:za
 n:Nat
 m:Nat->vW
 H:Hp
mutual
def LB(a:Wd):D->V->Prop
 |.KA,v=>v=.KA
 |.bl b,v=>v=.bl b
 |.int i,v=>v=.int i
 |.str x,v=>v=.str x
 |.ty n,v=>v=.ty n
 |.tup ds,v=>∃p vs,v=.ref p/\VE a.K a.H p vs/\HA a ds vs
 |.fl ds,v=>∃p vs,v=.ref p/\ZR a.K a.H p vs/\HA a ds vs
 |.ref i,v=>i<a.n/\v=.ref (a.m i)
def HA(a:Wd):List D->List V->Prop
 |[],vs=>vs=[]
 |d::ds,vs=>∃v r,vs=v::r/\LB a d v/\HA a ds r
end
noncomputable def Df:Str:="Sending.send_by.<locals>.<lambda>"
def RE(H:Hp)(P:vW):Prop:=
 ∃ps:Array vB,H P=uA (.RF ps)/\TriplesOk ps.toList/\∀pos cv,codeAmong pos ps.toList=uA cv->∃(c:vW)(oc:Obj)(vs:Array vB)(t:Tok),cv=.ref c/\H c=uA (.WC oc (.own 0))/\oc.data=.fields vs/\vs[1]?=uA (.str Df t)
def RE.mono(h:RE H P)(j:∀p ps,H p=uA (.RF ps)->H' p=uA (.RF ps))(b:∀p o u,H p=uA (.WC o u)->H' p=uA (.WC o u)):RE H' P:=by obtain⟨ps,e,t,k⟩:=h;refine⟨ps,j _ _ e,t,λa r f=>?_⟩;obtain⟨c,l,n,g,d,i,m,q⟩:=k a r f;exact⟨c,l,n,g,d,b _ _ _ i,m,q⟩
def TabAt(K:za)(C m:Str)(c P:vW):Prop:=
 ∃(Ca f:vW)(oc:vB)(od:Option vW)(fd:vq)(sl:Array (Option vB)),zb K vS C=uA (uA (.ref Ca))/\zd K (.ref Ca) m=uA (uA (.ref f))/\K.lookup f=uA ⟨oc,od,.func fd,sl⟩/\fd.code=.ref c/\zh K c P=uC
structure Ext (a b:Wd):Prop where
 k:b.K=a.K
 n:a.n<=b.n
 m:∀i,i<a.n->b.m i=a.m i
 tup:∀p xs,a.H p=uA (.tup xs)->b.H p=uA (.tup xs)
 WC:∀p o u,a.H p=uA (.WC o u)->b.H p=uA (.WC o u)
 tab:∀p,RE a.H p->RE b.H p
def Ext.refl(a:Wd):Ext a a:=⟨rfl,zx _,λ_ _=>rfl,λ_ _ h=>h,λ_ _ _ h=>h,λ_ h=>h⟩
def Ext.trans(x:Ext a b)(y:Ext b c):Ext a c:=
 ⟨y.k.trans x.k,zN x.n y.n,λi h=>(y.m i (zj h x.n)).trans (x.m i h),λp d h=>y.tup p d (x.tup p d h),λp o u h=>y.WC p o u (x.WC p o u h),λp h=>y.tab p (x.tab p h)⟩
def Ext.IQ(x:Ext a b)(h:VE a.K a.H p xs):VE b.K b.H p xs:=by
 rcases h with(h|⟨o,h⟩)|h
 .exact .inl (.inl (x.tup _ _ h))
 .exact .inl (.inr ⟨o,x.WC _ _ _ h⟩)
 exact .inr (x.k▸h)
def Ext.JQ(x:Ext a b)(h:ZR a.K a.H p xs):ZR b.K b.H p xs:=by
 rcases h with⟨o,h⟩|⟨e,h⟩
 .exact .inl ⟨o,x.WC _ _ _ h⟩
 exact .inr ⟨e,x.k▸h⟩
mutual
theorem LB.mono(x:Ext a b):∀{d:D}{v:V},LB a d v->LB b d v
 |.KA,_,h=>h
 |.bl _,_,h=>h
 |.int _,_,h=>h
 |.str _,_,h=>h
 |.ty _,_,h=>h
 |.tup f,v,h=>by obtain⟨p,c,e,q,r⟩:=h;exact⟨p,c,e,x.IQ q,HA.mono x r⟩
 |.fl f,v,h=>by obtain⟨p,c,e,q,r⟩:=h;exact⟨p,c,e,x.JQ q,HA.mono x r⟩
 |.ref i,v,h=>by obtain⟨l,e⟩:=h;exact⟨zj l x.n,by rw[x.m i l];exact e⟩
theorem HA.mono(x:Ext a b):∀{ds:List D}{vs:List V},HA a ds vs->HA b ds vs
 |[],_,h=>h
 |d::ds,vs,h=>by obtain⟨v,r,e,f,c⟩:=h;exact⟨v,r,e,LB.mono x f,HA.mono x c⟩
end
theorem HA.length:∀{ds:List D}{vs:List V},HA a ds vs->ds.length=vs.length
 |[],vs,h=>by cases(h);rfl
 |d::ds,vs,h=>by obtain⟨v,r,e,c,b⟩:=h;subst e;show ds.length+1=r.length+1;rw[HA.length b]
theorem HA.get:∀{ds:List D}{vs:List V}{i:Nat}{d:D},HA a ds vs->ds[i]?=uA d->∃v,vs[i]?=uA v/\LB a d v
 |[],vs,_,_,h,e=>by simp at e
 |d::ds,vs,0,j,h,e=>by obtain⟨v,r,b,f,c⟩:=h;subst b;simp at e;subst e;exact⟨v,rfl,f⟩
 |d::ds,vs,i+1,j,h,e=>by obtain⟨v,r,b,f,c⟩:=h;subst b;obtain⟨w,g,k⟩:=HA.get c (by simpa using e);exact⟨w,by simpa using g,k⟩
theorem HA.get':∀{ds:List D}{vs:List V}{i:Nat}{v:V},HA a ds vs->vs[i]?=uA v->∃d,ds[i]?=uA d/\LB a d v
 |[],vs,_,_,h,e=>by cases(h);simp at e
 |d::ds,vs,0,j,h,e=>by obtain⟨v,r,b,f,c⟩:=h;subst b;simp at e;subst e;exact⟨d,rfl,f⟩
 |d::ds,vs,i+1,j,h,e=>by obtain⟨v,r,b,f,c⟩:=h;subst b;obtain⟨w,g,k⟩:=HA.get' c (by simpa using e);exact⟨w,by simpa using g,k⟩
theorem HA.append:∀{ds es:List D}{vs us:List V},HA a ds vs->HA a es us->HA a (ds++es) (vs++us)
 |[],_,vs,_,h,b=>by cases(h);exact b
 |d::ds,es,vs,us,h,b=>by obtain⟨v,r,f,c,e⟩:=h;subst f;exact⟨v,r++us,rfl,c,.append e b⟩
def HA.cons(h:LB a d v)(r:HA a ds vs):HA a (d::ds) (v::vs):=⟨v,vs,rfl,h,r⟩
theorem HA.nil:HA a [] []:=rfl
theorem HA.set(h:LB a d v):∀{ds:List D}{vs:List V}(i:Nat),HA a ds vs->HA a (ds.set i d) (vs.set i v)
 |[],vs,_,r=>by cases(r);exact rfl
 |j::ds,vs,0,r=>by obtain⟨f,e,b,g,c⟩:=r;subst b;exact⟨v,e,rfl,h,c⟩
 |j::ds,vs,i+1,r=>by obtain⟨f,e,b,g,c⟩:=r;subst b;exact⟨f,e.set i v,rfl,g,.set h i c⟩
theorem HA.take:∀{ds:List D}{vs:List V}(i:Nat),HA a ds vs->HA a (ds.take i) (vs.take i)
 |_,_,0,_=>rfl
 |[],vs,_+1,r=>by cases(r);exact rfl
 |g::ds,vs,i+1,r=>by obtain⟨d,f,b,e,c⟩:=r;subst b;exact⟨d,f.take i,rfl,e,.take i c⟩
theorem HA.drop:∀{ds:List D}{vs:List V}(i:Nat),HA a ds vs->HA a (ds.drop i) (vs.drop i)
 |_,_,0,r=>r
 |[],vs,_+1,r=>by cases(r);exact rfl
 |e::ds,vs,i+1,r=>by obtain⟨d,g,b,f,c⟩:=r;subst b;exact .drop i c
theorem HA.ints:∀(ns:List Int),HA a (ns.map D.int) (ns.map V.int)
 |[]=>rfl
 |n::ns=>⟨.int n,ns.map V.int,rfl,rfl,.ints ns⟩
def RA{κ:Type}(a:Wd)(JA:List (κ×D))(us:List (κ×V)):Prop:=JA.map (·.1)=us.map (·.1)/\HA a (JA.map (·.2)) (us.map (·.2))
def OC(a:Wd)(fs:List (Str×D))(us:List (Str×V)):Prop:=fs.map (·.1)=us.map (·.1)/\HA a (fs.map (·.2)) (us.map (·.2))
def XD(a:Wd)(od:Option vW)(fs:List (Str×D)):Prop:=(fs=[]/\od=uB)\/∃dx o us,od=uA dx/\a.H dx=uA (.WC o (.xd us))/\OC a fs us
def QD(a:Wd):DO->Option HO->Prop
 |.lst ds,o=>∃vs,o=uA (.lst vs)/\HA a ds vs
 |.YR JA,o=>∃us,o=uA (.dK us)/\RA a JA us
 |.RC JA,o=>∃us,o=uA (.dT us)/\RA a JA us
 |.ins c fs,o=>∃C dx us,zb a.K vS c=uA (uA (.ref C))/\o=uA (.ins C dx us)/\OC a fs us
 |.tab C m,_=>∃c P,TabAt a.K C m c P/\RE a.H P
 |.exc c fs,o=>∃C oe u vs,zb a.K vS c=uA (uA (.ref C))/\o=uA (.WC oe u)/\oe.cls=.ref C/\oe.data=.fields vs/\XD a oe.dict fs
 |.gone,_=>True
structure XA (a:Wd) (G:DH):Prop where
 len:lN G=a.n
 inj:∀i j,i<a.n->j<a.n->a.m i=a.m j->i=j
 obj:∀(i:Nat)(o:DO),G[i]?=uA o->QD a o (a.H (a.m i))
 tr:∀i,i<a.n->a.H (a.m i)≠uB
structure RB (a:Wd) (S:PB) (σ:St):Prop where
 len:lN S=lN σ
 get:∀(i:Nat)(d:D),S[i]?=uA (uA d)->∃v,σ[i]?=uA (uA v)/\LB a d v
def RB.mono(x:Ext a b)(r:RB a S σ):RB b S σ:=⟨r.len,λi d h=>let⟨v,e,q⟩:=r.get i d h;⟨v,e,q.mono x⟩⟩
def RB.set(r:RB a S σ)(i:Nat)(h:LB a d v):RB a (S.set i (uA d)) (σ.set i (uA v)):=by
 refine⟨by simpa using r.len,λj e b=>?_⟩;rw[jy]at b⊢;by_cases c:i=j
 .subst c;rw[if_pos rfl]at b⊢;by_cases f:i<lN S
  .rw[if_pos f]at b;have g:d=e:=by simpa using b
   subst g;rw[if_pos (by rw[<-r.len];exact f)];exact⟨v,rfl,h⟩
  rw[if_neg f]at b;cases b
 rw[if_neg c]at b⊢;exact r.get j e b
def SI(E:XK)(a:Wd)(x:Xn)(G:DH):Prop:=E≠E0/\∀(b:Wd)(C:vW)(od:Option vW),Ext a b->XA b G->zb b.K vS x.cls=uA (uA (.ref C))->XD b od x.fs->E (.ref C) od b.H
def out(E:XK)(a:Wd)(r:R D)(Q:VK):Prop:=match r with
 |.ok d G=>∀(b:Wd)(v:V),Ext a b->XA b G->LB b d v->Q v b.H
 |.err x G=>SI E a x G
 |.bad=>False
def Fi(E:XK)(a:Wd)(r:R Bool)(Q:Bool->Hp->Prop):Prop:=match r with
 |.ok k G=>∀(b:Wd),Ext a b->XA b G->Q k b.H
 |.err x G=>SI E a x G
 |.bad=>False
def Ce(E:XK)(a:Wd)(r:R (List D))(Q:List V->Hp->Prop):Prop:=match r with
 |.ok ds G=>∀(b:Wd)(vs:List V),Ext a b->XA b G->HA b ds vs->Q vs b.H
 |.err x G=>SI E a x G
 |.bad=>False
def Bw(E:XK)(a:Wd)(r:SR)(W:Ends):Prop:=match r with
 |.nx S G=>∀(b:Wd)(σ:St),Ext a b->XA b G->RB b S σ->W.nx σ b.H
 |.bk S G=>∀(b:Wd)(σ:St),Ext a b->XA b G->RB b S σ->W.bk σ b.H
 |.ct S G=>∀(b:Wd)(σ:St),Ext a b->XA b G->RB b S σ->W.ct σ b.H
 |.rt d G=>∀(b:Wd)(v:V),Ext a b->XA b G->LB b d v->W.rt v b.H
 |.err x G=>SI E a x G
 |.bad=>False
def SI.mono(x:Ext a b)(h:SI E a e G):SI E b e G:=⟨h.1,λc C d y s n q=>h.2 c C d (x.trans y) s n q⟩
theorem out.mono(x:Ext a b)(h:out E a r Q):out E b r Q:=by
 cases r with
 |ok d G=>exact λc v y s q=>h c v (x.trans y) s q
 |err e G=>exact SI.mono x h
 |bad=>exact h
theorem Fi.mono(x:Ext a b)(h:Fi E a r Q):Fi E b r Q:=by
 cases r with
 |ok d G=>exact λc y s=>h c (x.trans y) s
 |err e G=>exact SI.mono x h
 |bad=>exact h
theorem Ce.mono(x:Ext a b)(h:Ce E a r Q):Ce E b r Q:=by
 cases r with
 |ok d G=>exact λc f y s q=>h c f (x.trans y) s q
 |err e G=>exact SI.mono x h
 |bad=>exact h
theorem Bw.mono(x:Ext a b)(h:Bw E a r W):Bw E b r W:=by
 cases r with
 |err e G=>exact SI.mono x h
 |bad=>exact h
 |_=>exact λc f y s q=>h c f (x.trans y) s q
inductive GS (K:za) (σ:St) (H:Hp) (φ:Wd->PB->DH->Prop):Prop|mk (a:Wd) (S:PB) (G:DH) (hk:a.K=K) (hH:a.H=H) (s:XA a G) (r:RB a S σ) (h:φ a S G):GS K σ H φ inductive PR3 {α β:Type} (a:Wd) (H:Hp) (r:R α) (v:β) (ρ:Wd->α->β->Prop) (φ:Wd->α->DH->Prop):Prop|mk (b:Wd) (d:α) (G:DH) (hH:b.H=H) (x:Ext a b) (s:XA b G) (q:ρ b d v) (e:r=.ok d G) (h:φ b d G):PR3 a H r v ρ φ inductive PN3 {α β:Type} (K:za) (H:Hp) (v:β) (ρ:Wd->α->β->Prop) (φ:Wd->DH->α->Prop):Prop|mk (a:Wd) (G:DH) (d:α) (hk:a.K=K) (hH:a.H=H) (s:XA a G) (q:ρ a d v) (h:φ a G d):PN3 K H v ρ φ inductive PD3 {α β γ δ:Type} (K:za) (H:Hp) (v:β) (w:δ) (ρ:Wd->α->β->Prop) (τ:Wd->γ->δ->Prop) (φ:Wd->DH->α->γ->Prop):Prop|mk (a:Wd) (G:DH) (d:α) (e:γ) (hk:a.K=K) (hH:a.H=H) (s:XA a G) (q:ρ a d v) (q':τ a e w) (h:φ a G d e):PD3 K H v w ρ τ φ inductive PG3 {α β:Type} (K:za) (σ:St) (H:Hp) (v:β) (ρ:Wd->α->β->Prop) (φ:Wd->PB->DH->α->Prop):Prop|mk (a:Wd) (S:PB) (G:DH) (d:α) (hk:a.K=K) (hH:a.H=H) (s:XA a G) (r:RB a S σ) (q:ρ a d v) (h:φ a S G d):PG3 K σ H v ρ φ inductive PB3 {α:Type} (a:Wd) (H:Hp) (r:R α) (k:α) (φ:Wd->DH->Prop):Prop|mk (b:Wd) (G:DH) (hH:b.H=H) (x:Ext a b) (s:XA b G) (e:r=.ok k G) (h:φ b G):PB3 a H r k φ def lE (K:za) (E:XK) (t:DE):TE:=λσ H Q=>GS K σ H λa S G=>out E a (t S G) Q
noncomputable def lB(K:za)(E:XK)(t:DB):TT:=λσ H Q=>GS K σ H λa S G=>Fi E a (t S G) Q
noncomputable def lA(K:za)(E:XK)(t:DA):TA:=λσ H Q=>GS K σ H λa S G=>Ce E a (t S G) Q
noncomputable def lS(K:za)(E:XK)(t:DS):TS:=λW σ H=>GS K σ H λa S G=>Bw E a (t S G) W
noncomputable def GF(K:za)(E:XK)(f:D->D->DH->R D):R2:=λx y H Q=>PD3 K H x y LB LB λa G d e=>out E a (f d e G) Q
def y'(K:za)(E:XK)(f:D->DH->R D):V->Hp->VK->Prop:=λx H Q=>PN3 K H x LB λa G d=>out E a (f d G) Q
def JM(K:za)(E:XK)(f:List D->DH->R D):List V->Hp->VK->Prop:=λxs H Q=>PN3 K H xs HA λa G ds=>out E a (f ds G) Q
def lF(K:za)(f:List D->DH->R D):Sp:=λxs H Q _=>PN3 K H xs HA λa G ds=>out E0 a (f ds G) Q
noncomputable def A'(K:za)(f:List D->DH->R D):Sp:=λxs H Q E=>PN3 K H xs HA λa G ds=>out E a (f ds G) Q
section
variable{X:Cx}{E:XK}
def QE(X:Cx)(E:XK)(e:vY)(t:DE):Prop:=PE X e (lE X.K E t)
def QT(X:Cx)(E:XK)(e:vY)(t:DB):Prop:=PT X e (lB X.K E t)
def QA(X:Cx)(E:XK)(es:List vY)(t:DA):Prop:=PA X es (lA X.K E t)
def QS(X:Cx)(E:XK)(st:vA)(t:DS):Prop:=PS X st (lS X.K E t)
def UL(X:Cx)(E:XK)(st:List vA)(t:DS):Prop:=VH X st (lS X.K E t)
def _root_._L.PE.mono(h:PE X e t)(w:∀b H Q,t' b H Q->t b H Q):PE X e t':=λa s b H Q I q=>h a s b H Q I (w b H Q q)
def _root_._L.PT.mono(h:PT X e t)(w:∀b H Q,t' b H Q->t b H Q):PT X e t':=λa s b H Q I q=>h a s b H Q I (w b H Q q)
def _root_._L.PA.mono(h:PA X e t)(w:∀b H Q,t' b H Q->t b H Q):PA X e t':=λc a s b H Q I q=>h c a s b H Q I (w b H Q q)
def _root_._L.PS.mono(h:PS X e t)(w:∀W b H,t' W b H->t W b H):PS X e t':=λa s b H W I q=>h a s b H W I (w W b H q)
def _root_._L.VH.mono(h:VH X e t)(w:∀W b H,t' W b H->t W b H):VH X e t':=λa s b H W I q=>h a s b H W I (w W b H q)
def _root_._L.WB.mono(h:WB X f r)(w:∀x y H Q,r' x y H Q->r x y H Q):WB X f r':=λa s d H x y v u Q I c b q=>h a s d H x y v u Q I c b (w _ _ _ _ q)
end
theorem Eb(h:out E a (r.bind f) Q):
  out E a r (λv H=>PR3 a H r v LB λb d G=>out E b (f d G) Q):=by
 cases r with
 |ok d G=>exact λb v x s q=>⟨b,d,G,rfl,x,s,q,rfl,out.mono x h⟩
 |_=>exact h
theorem J9(h:out E a (r.bind f) Q):
  Ce E a r (λvs H=>PR3 a H r vs HA λb ds G=>out E b (f ds G) Q):=by
 cases r with
 |ok d G=>exact λb v x s q=>⟨b,d,G,rfl,x,s,q,rfl,out.mono x h⟩
 |_=>exact h
theorem ao(h:out E a (r.bind f) Q):
  Fi E a r (λk H=>PB3 a H r k λb G=>out E b (f k G) Q):=by
 cases r with
 |ok d G=>exact λb x s=>⟨b,G,rfl,x,s,rfl,out.mono x h⟩
 |_=>exact h
theorem oR(h:Fi E a (r.bind f) Q):
  out E a r (λv H=>PR3 a H r v LB λb d G=>Fi E b (f d G) Q):=by
 cases r with
 |ok d G=>exact λb v x s q=>⟨b,d,G,rfl,x,s,q,rfl,Fi.mono x h⟩
 |_=>exact h
theorem Yw(h:Fi E a (r.bind f) Q):
  Fi E a r (λk H=>PB3 a H r k λb G=>Fi E b (f k G) Q):=by
 cases r with
 |ok d G=>exact λb x s=>⟨b,G,rfl,x,s,rfl,Fi.mono x h⟩
 |_=>exact h
theorem oT(h:Ce E a (r.bind f) Q):
  out E a r (λv H=>PR3 a H r v LB λb d G=>Ce E b (f d G) Q):=by
 cases r with
 |ok d G=>exact λb v x s q=>⟨b,d,G,rfl,x,s,q,rfl,Ce.mono x h⟩
 |_=>exact h
theorem oU(h:Ce E a (r.bind f) Q):
  Ce E a r (λvs H=>PR3 a H r vs HA λb ds G=>Ce E b (f ds G) Q):=by
 cases r with
 |ok d G=>exact λb v x s q=>⟨b,d,G,rfl,x,s,q,rfl,Ce.mono x h⟩
 |_=>exact h
noncomputable def R.toS{α:Type}(f:α->DH->SR)(_:Fx f:=())(r:R α):SR:=match r with
 |.ok a G=>f a G
 |.err x G=>.err x G
 |.bad=>.bad
@[simp]theorem R.Cq{b:Type}(a:b)(G:DH)(f:b->DH->SR):(R.ok a G).toS f=f a G:=id rfl
theorem Gs(h:Bw E a (r.toS f) W):
  out E a r (λv H=>PR3 a H r v LB λb d G=>Bw E b (f d G) W):=by
 cases r with
 |ok d G=>exact λb v x s q=>⟨b,d,G,rfl,x,s,q,rfl,Bw.mono x h⟩
 |_=>exact h
theorem aq(h:Bw E a (r.toS f) W):
  Fi E a r (λk H=>PB3 a H r k λb G=>Bw E b (f k G) W):=by
 cases r with
 |ok d G=>exact λb x s=>⟨b,G,rfl,x,s,rfl,Bw.mono x h⟩
 |_=>exact h
section
theorem out.imp(h:out E a r Q)(w:∀v H,Q v H->Q' v H):out E a r Q':=by
 cases r with
 |ok d G=>exact λb v x s q=>w _ _ (h b v x s q)
 |_=>exact h
theorem Ce.imp(h:Ce E a r Q)(w:∀v H,Q v H->Q' v H):Ce E a r Q':=by
 cases r with
 |ok d G=>exact λb v x s q=>w _ _ (h b v x s q)
 |_=>exact h
theorem Fi.imp(h:Fi E a r Q)(w:∀v H,Q v H->Q' v H):Fi E a r Q':=by
 cases r with
 |ok d G=>exact λb x s=>w _ _ (h b x s)
 |_=>exact h
def Wd.push(a:Wd)(p:vW)(ho:HO):Wd:=⟨a.K,a.n+1,λk=>if k=a.n then p else a.m k,upd a.H p ho⟩
def Wd.put(a:Wd)(p:vW)(ho:HO):Wd:={a with H:=upd a.H p ho}
def Ext.put(h:a.H p=uB):Ext a (a.put p ho):=
 ⟨rfl,zx _,λ_ _=>rfl,λq c e=>by show upd a.H p ho q=_;rw[Ag (Ft e h)];exact e,λq o u e=>by show upd a.H p ho q=_;rw[Ag (Ft e h)];exact e,λ_ t=>t.mono (λq b e=>by show upd a.H p ho q=_;rw[Ag (Ft e h)];exact e) (λq o u e=>by show upd a.H p ho q=_;rw[Ag (Ft e h)];exact e)⟩
def Ext.push(h:a.H p=uB):Ext a (a.push p ho):=
 ⟨rfl,jR _,λi b=>by show(if i=a.n then p else a.m i)=a.m i;rw[if_neg (qZ b)],λq d e=>by show upd a.H p ho q=_;rw[Ag (Ft e h)];exact e,λq o u e=>by show upd a.H p ho q=_;rw[Ag (Ft e h)];exact e,λ_ t=>t.mono (λq c e=>by show upd a.H p ho q=_;rw[Ag (Ft e h)];exact e) (λq o u e=>by show upd a.H p ho q=_;rw[Ag (Ft e h)];exact e)⟩
def XD.mono(x:Ext a b)(h:XD a od fs):XD b od fs:=by
 rcases h with h|⟨d,o,c,e,f,k,r⟩
 .exact .inl h
 exact .inr ⟨d,o,c,e,x.WC _ _ _ f,k,r.mono x⟩
theorem QD.mono{a b:Wd}(x:Ext a b){o:DO}{q:Option HO}(h:QD a o q):QD b o q:=by
 cases o with
 |lst ds=>obtain⟨vs,e,r⟩:=h;exact⟨vs,e,r.mono x⟩
 |YR JA=>obtain⟨us,e,k,r⟩:=h;exact⟨us,e,k,r.mono x⟩
 |RC JA=>obtain⟨us,e,k,r⟩:=h;exact⟨us,e,k,r.mono x⟩
 |ins c fs=>obtain⟨C,dx,us,n,e,k,r⟩:=h;exact⟨C,dx,us,by rw[x.k];exact n,e,k,r.mono x⟩
 |tab C m=>obtain⟨c,P,e,t⟩:=h;exact⟨c,P,by rw[x.k];exact e,x.tab _ t⟩
 |exc c fs=>obtain⟨C,oe,u,vs,n,e,k1,k2,z⟩:=h;exact⟨C,oe,u,vs,by rw[x.k];exact n,e,k1,k2,z.mono x⟩
 |gone=>trivial
def XA.lt(s:XA a G)(h:G[i]?=uA o):i<a.n:=by rw[<-s.len];exact(zX.mp h).1
def XA.put(s:XA a G)(h:a.H p=uB):XA (a.put p ho) G:=by
 refine⟨s.len,s.inj,λi o e=>?_,λi b=>?_⟩
 .have z:=s.tr i (s.lt e);show QD _ o (upd a.H p ho (a.m i));rw[Ag (λq=>z (by rw[q];exact h))];exact(s.obj i o e).mono (.put h)
 have z:=s.tr i b;show upd a.H p ho (a.m i)≠uB;rw[Ag (λq=>z (by rw[q];exact h))];exact z
def XA.push(s:XA a G)(h:a.H p=uB)(r:QD (a.push p ho) o (uA ho)):XA (a.push p ho) (G++[o]):=by
 have f:∀i,i<a.n->a.m i≠p:=λi g q=>s.tr i g (q▸h)
 have b:∀i,i<a.n->(a.push p ho).m i=a.m i:=λi g=>by show(if i=a.n then p else a.m i)=_;rw[if_neg (qZ g)]
 have d:(a.push p ho).m a.n=p:=by show(if a.n=a.n then p else a.m a.n)=_;rw[if_pos rfl]
 refine⟨by simp[s.len,Wd.push],λi j g v e=>?_,λi u e=>?_,λi g=>?_⟩
 .have l:i<a.n+1:=g;have w:j<a.n+1:=v;by_cases c:i<a.n
  .by_cases k:j<a.n
   .rw[b i c,b j k]at e;exact s.inj i j c k e
   have:j=a.n:=by lia
   subst this;rw[b i c,d]at e;exact absurd e (f i c)
  have:i=a.n:=by lia
  subst this;by_cases k:j<a.n
  .rw[b j k,d]at e;exact absurd e.symm (f j k)
  lia
 .by_cases c:i<a.n
  .rw[zC (s.len▸c)]at e;rw[b i c];show QD _ u (upd a.H p ho (a.m i));rw[Ag (f i c)];exact(s.obj i u e).mono (.push h)
  have t:=(zX.mp e).1;have:i=a.n:=by rw[zH,s.len]at t;simp at t;lia
  subst this;rw[zO (s.len▸zx _),s.len]at e;simp at e;subst e;rw[d];show QD _ o (upd a.H p ho p);rw[Di];exact r
 have l:i<a.n+1:=g;by_cases c:i<a.n
 .rw[b i c];show upd a.H p ho (a.m i)≠uB;rw[Ag (f i c)];exact s.tr i c
 .have:i=a.n:=by lia
  subst this;rw[d];show upd a.H p ho p≠uB;rw[Di];simp
def Ext.wr(h:a.H p=uA (.lst vs)):Ext a (a.put p ho):=
 ⟨rfl,zx _,λ_ _=>rfl,λq c e=>by
  show upd a.H p ho q=_;rw[Ag (λz=>by subst z;rw[h]at e;cases e)];exact e,λq o u e=>by
  show upd a.H p ho q=_;rw[Ag (λz=>by subst z;rw[h]at e;cases e)];exact e,λ_ t=>t.mono (λq b e=>by show upd a.H p ho q=_;rw[Ag (λz=>by subst z;rw[h]at e;cases e)];exact e) (λq o u e=>by show upd a.H p ho q=_;rw[Ag (λz=>by subst z;rw[h]at e;cases e)];exact e)⟩
def XA.wr(s:XA a G)(c:i<a.n)(h:a.H (a.m i)=uA (.lst vs))(r:HA (a.put (a.m i) (.lst IL)) ds' IL):XA (a.put (a.m i) (.lst IL)) (G.set i (.lst ds')):=by
 refine⟨by rw[jQ];exact s.len,s.inj,λj o e=>?_,λj d=>?_⟩
 .rw[jy]at e;show QD _ o (upd a.H (a.m i) (.lst IL) (a.m j));by_cases b:i=j
  .subst b;rw[if_pos rfl,if_pos (s.len▸c)]at e;cases e;rw[Di];exact⟨IL,rfl,r⟩
  rw[if_neg b]at e;rw[Ag λz=>b (s.inj _ _ (s.lt e) c z).symm];exact(s.obj j o e).mono (.wr h)
 show upd a.H (a.m i) (.lst IL) (a.m j)≠uB;by_cases b:a.m j=a.m i
 .rw[b,Di];simp
 rw[Ag b];exact s.tr j d
mutual
noncomputable def QB(n:Nat):D->Bool
 |.ref i=>decide (i<n)
 |.tup ds=>NA n ds
 |.fl ds=>NA n ds
 |_=>uC
noncomputable def NA(n:Nat):List D->Bool
 |[]=>uC
 |d::ds=>QB n d&&NA n ds
end
def Ie(n:Nat):DO->Bool
 |.lst ds=>NA n ds
 |.YR JA=>NA n (JA.map (·.2))
 |.RC JA=>NA n (JA.map (·.2))
 |.ins _ fs=>NA n (fs.map (·.2))
 |.tab _ _=>uC
 |.exc _ fs=>NA n (fs.map (·.2))
 |.gone=>uC
mutual
theorem LB.QB:∀{d:D}{v:V},LB a d v->QB a.n d=uC
 |.KA,_,_=>by simp[_D.QB]
 |.bl _,_,_=>by simp[_D.QB]
 |.int _,_,_=>by simp[_D.QB]
 |.str _,_,_=>by simp[_D.QB]
 |.ty _,_,_=>by simp[_D.QB]
 |.tup b,v,h=>by obtain⟨p,c,e,q,r⟩:=h;simp only[_D.QB];exact HA.NA r
 |.fl b,v,h=>by obtain⟨p,c,e,q,r⟩:=h;simp only[_D.QB];exact HA.NA r
 |.ref i,v,h=>by obtain⟨l,e⟩:=h;simp only[_D.QB];exact decide_eq_true l
theorem HA.NA:∀{b:List D}{vs:List V},HA a b vs->NA a.n b=uC
 |[],_,_=>by simp[_D.NA]
 |d::b,vs,h=>by
  obtain⟨v,r,e,f,c⟩:=h;simp only[_D.NA];rw[LB.QB f,HA.NA c]
  rfl
end
structure Cut (b c:Wd):Prop where
 k:c.K=b.K
 h:c.H=b.H
mutual
theorem LB.cut(x:Cut b c)(a:n<=c.n)(g:∀i,i<n->c.m i=b.m i):∀{d:D}{v:V},LB b d v->QB n d=uC->LB c d v
 |.KA,_,h,_=>h
 |.bl _,_,h,_=>h
 |.int _,_,h,_=>h
 |.str _,_,h,_=>h
 |.ty _,_,h,_=>h
 |.tup o,v,h,q=>by obtain⟨p,f,e,t,r⟩:=h;simp only[_D.QB]at q;exact⟨p,f,e,by rw[x.k,x.h];exact t,HA.cut x a g r q⟩
 |.fl o,v,h,q=>by obtain⟨p,f,e,t,r⟩:=h;simp only[_D.QB]at q;exact⟨p,f,e,by rw[x.k,x.h];exact t,HA.cut x a g r q⟩
 |.ref i,v,h,q=>by obtain⟨l,e⟩:=h;simp only[_D.QB]at q;have j:=of_decide_eq_true q;exact⟨zj j a,by rw[g i j];exact e⟩
theorem HA.cut(x:Cut b c)(f:n<=c.n)(g:∀i,i<n->c.m i=b.m i):∀{a:List D}{vs:List V},HA b a vs->NA n a=uC->HA c a vs
 |[],_,h,_=>h
 |d::a,vs,h,q=>by obtain⟨v,r,e,j,k⟩:=h;simp only[_D.NA,qQ]at q;exact⟨v,r,e,LB.cut x f g j q.1,HA.cut x f g k q.2⟩
end
theorem QD.cut{b c:Wd}(x:Cut b c){n:Nat}(hn:n<=c.n)(hm:∀i,i<n->c.m i=b.m i){o:DO}{q:Option HO}(h:QD b o q)(l:Ie n o=uC):QD c o q:=by
 cases o with
 |lst ds=>obtain⟨vs,e,r⟩:=h;exact⟨vs,e,HA.cut x hn hm r l⟩
 |YR JA=>obtain⟨us,e,k,r⟩:=h;exact⟨us,e,k,HA.cut x hn hm r l⟩
 |RC JA=>obtain⟨us,e,k,r⟩:=h;exact⟨us,e,k,HA.cut x hn hm r l⟩
 |ins c fs=>obtain⟨C,dx,us,n,e,k,r⟩:=h;exact⟨C,dx,us,by rw[x.k];exact n,e,k,HA.cut x hn hm r l⟩
 |tab C m=>obtain⟨c,P,e,t⟩:=h;exact⟨c,P,by rw[x.k];exact e,by rw[x.h];exact t⟩
 |exc c fs=>
  obtain⟨C,oe,u,vs,n,e,k1,k2,z⟩:=h;refine⟨C,oe,u,vs,by rw[x.k];exact n,e,k1,k2,?_⟩;rcases z with z|⟨dx,o,us,e,f,k,r⟩
  .exact .inl z
  .exact .inr ⟨dx,o,us,e,by rw[x.h];exact f,k,HA.cut x hn hm r l⟩
 |gone=>trivial
theorem QD.Ie{a:Wd}{o:DO}{q:Option HO}(h:QD a o q):Ie a.n o=uC:=by
 cases o with
 |lst ds=>obtain⟨vs,e,r⟩:=h;exact r.NA
 |YR JA=>obtain⟨us,e,k,r⟩:=h;exact r.NA
 |RC JA=>obtain⟨us,e,k,r⟩:=h;exact r.NA
 |ins c fs=>obtain⟨C,dx,us,n,e,k,r⟩:=h;exact r.NA
 |tab C m=>rfl
 |exc c fs=>
  obtain⟨C,oe,u,vs,n,e,k1,k2,z⟩:=h;rcases z with⟨z,_⟩|⟨dx,o,us,e,f,k,r⟩
  .rw[z];rfl
  .exact r.NA
 |gone=>rfl
open Classical in
def tidy (G:DH) (r:R D):R D:=match r with
 | .ok d G'=>if G'.take (lN G)=G then
   (if QB (lN G) d=uC then .ok d G else match d with
    |.ref i=>match G'[i]? with
     |some o=>if Ie (lN G) o=uC then .ok (.ref (lN G)) (G++[o])else .ok d G'
     |none=>.ok d G'
    |_=>.ok d G')else .ok d G'
 |r=>r
theorem au (s:XA a G) (h:out E a (tidy G r) Q):out E a r Q:=by
 cases r with
 | ok d M=>
  intro b v x f I;unfold tidy at h;dsimp only at h;split at h
  .rename_i S;have F:∀i o,G[i]?=uA o->M[i]?=uA o:=λi o e=>by have C:=(zX.mp e).1;rw[<-S,qE C]at e;exact e
   have t:∀(c:Wd),Cut b c->a.n<=c.n->(∀i,i<a.n->c.m i=b.m i)->∀i o,G[i]?=uA o->QD c o (c.H (c.m i)):=λc q P N i o e=>by rw[q.h,N i (s.lt e)];exact(f.obj i o (F i o e)).cut q P N (s.obj i o e).Ie
   split at h
   .rename_i z;rw[s.len]at z;let c:Wd:=⟨b.K,a.n,b.m,b.H⟩;have q:Cut b c:=⟨rfl,rfl⟩;exact h c v ⟨x.k,zx _,x.m,x.tup,x.WC,x.tab⟩ ⟨s.len,λi j C g=>f.inj i j (zj C x.n) (zj g x.n),t c q (zx _) (λ_ _=>rfl),λi C=>f.tr i (zj C x.n)⟩ (I.cut q (zx _) (λ_ _=>rfl) z)
   rename_i z;split at h
   .rename_i i;obtain⟨B,L⟩:=I;split at h
    .rename_i o T;split at h
     .rename_i A;rw[s.len]at A z h;simp[_D.QB,decide_eq_true_eq]at z;let c:Wd:=⟨b.K,a.n+1,λk=>if k=a.n then b.m i else b.m k,b.H⟩;have q:Cut b c:=⟨rfl,rfl⟩;have w:∀j,j<a.n->c.m j=b.m j:=λj g=>by show(if j=a.n then b.m i else b.m j)=_;rw[if_neg (qZ g)]
      have cn:c.m a.n=b.m i:=by show(if a.n=a.n then b.m i else b.m a.n)=_;rw[if_pos rfl]
      have l:∀j,j<a.n->j<b.n:=λj g=>zj g x.n
      refine h c v ⟨x.k,jR _,λj g=>(w j g).trans (x.m j g),x.tup,x.WC,x.tab⟩ ⟨by simp[s.len,c],λj k g hk e=>?_,λj u e=>?_,λj g=>?_⟩ ⟨qC _,cn▸L⟩
      .have J:j<a.n+1:=g;have U:k<a.n+1:=hk;by_cases p:j<a.n
       .by_cases y:k<a.n
        .rw[w j p,w k y]at e;exact f.inj j k (l j p) (l k y) e
        .have:k=a.n:=by lia
         subst this;rw[w j p,cn]at e;have:=f.inj j i (l j p) B e;lia
       .have:j=a.n:=by lia
        subst this;by_cases y:k<a.n
        .rw[w k y,cn]at e;have:=f.inj i k B (l k y) e;lia
        lia
      .by_cases p:j<a.n
       .rw[zC (s.len▸p)]at e;exact t c q (jR _) w j u e
       .have O:=(zX.mp e).1;have:j=a.n:=by rw[zH,s.len]at O;simp at O;lia
        subst this;rw[zO (s.len▸zx _),s.len]at e;simp at e;subst e;rw[cn];exact(f.obj i o T).cut q (jR _) w A
      .have J:j<a.n+1:=g;by_cases p:j<a.n
       .rw[w j p];exact f.tr j (l j p)
       .have:j=a.n:=by lia
        subst this;rw[cn];exact f.tr i B
     exact h b v x f ⟨B,L⟩
    exact h b v x f ⟨B,L⟩
   exact h b v x f I
  exact h b v x f I
 |_=>exact h
end
noncomputable def dV(i:Nat):DE:=λS G=>match S[i]? with
 |some (uA d)=>.ok d G
 |_=>.bad
noncomputable def dC(d:D):DE:=λ_ G=>.ok d G
def WA(f:D->D->DH->R D)(a b:DE):DE:=λS G=>(a S G).bind λx G1=>(b S G1).bind λy G2=>f x y G2
def KM(f:D->DH->R D)(a:DE):DE:=λS G=>(a S G).bind f
noncomputable def Ba:DA:=λ_ G=>.ok [] G
def Ak(a:DE)(r:DA):DA:=λS G=>(a S G).bind λx G1=>(r S G1).bind λxs G2=>.ok (x::xs) G2
def IA(f:List D->DH->R D)(t:DA):DE:=λS G=>(t S G).bind f
def Bg(t:DE):DE:=λS G=>tidy G (t S G)
def UO:D->DH->R Bool
 |.bl k,G=>.ok k G
 |_,_=>.bad
def Ai(t:DE):DB:=λS G=>(t S G).bind UO
def Gi(t u:DB):DB:=λS G=>(t S G).bind λk G1=>if k=uC then u S G1 else .ok uD G1
def IG(t u:DB):DB:=λS G=>(t S G).bind λk G1=>if k=uC then .ok uC G1 else u S G1
def Ex(t:DB):DB:=λS G=>(t S G).bind λk G1=>.ok (!k) G1
def Hm(t u:DE):DE:=λS G=>(t S G).bind λx G1=>(UO x G1).bind λk G2=>if k=uC then u S G2 else .ok (.bl uD) G2
def Ti(t:DE):DE:=λS G=>(t S G).bind λx G1=>(UO x G1).bind λk G2=>.ok (.bl (!k)) G2
def VO(c:DB)(t u:DE):DE:=λS G=>(c S G).bind λk G1=>if k=uC then t S G1 else u S G1
def Ov(f g:D->D->DH->R D)(a b c:DE):DE:=λS G=>(a S G).bind λx G1=>(b S G1).bind λy G2=>(f x y G2).bind λz G3=>(UO z G3).bind λk G4=>
 if k=uC then(c S G4).bind λw G5=>g y w G5 else .ok (.bl uD) G4
noncomputable def Bc(ds:List D)(G:DH):R D:=if lN ds<=1000000 then .ok (.tup ds) G else .bad
noncomputable def Ac(ds:List D)(G:DH):R D:=if lN ds<=1000000 then .ok (.ref (lN G)) (G++[.lst ds])else .bad
noncomputable def Bk(d:D)(G:DH):Option (List D):=match d with
 |.tup xs=>uA xs
 |.fl xs=>uA xs
 |.ref i=>match G[i]? with
  |some (.lst xs)=>uA xs
  |_=>uB
 |_=>uB
def TB:(1000000:Nat)<=sizeLine:=by decide
section
variable{X:Cx}{E:XK}{a b c:vY}{ta tb tc:DE}{pos:Pos}
def two{K:za}{f:D->D->DH->R D}{g:St}{H:Hp}{Q:VK}(h:lE K E (WA f ta tb) g H Q):XU (GF K E f) (lE K E ta) (lE K E tb) g H Q:=by obtain⟨a,S,G,hk,rfl,s,r,h⟩:=h;refine⟨a,S,G,hk,rfl,s,r,(Eb h).imp ?_⟩;rintro v _ ⟨b,d,i,rfl,x,z,q,_,j⟩;refine⟨b,S,i,x.k.trans hk,rfl,z,r.mono x,(Eb j).imp ?_⟩;rintro w _ ⟨c,e,n,rfl,y,m,o,_,l⟩;exact⟨c,n,d,e,y.k.trans (x.k.trans hk),rfl,m,q.mono y,o,l⟩
def Ij(i:Nat){pos:Pos}(j:X.N[i]?=uA x:=by rfl)(k:NU X.env.scope x:=by first|exact Or.inl rfl|exact Or.inr (Or.inl rfl)|exact Or.inr (Or.inr rfl))(l:(x==("__debug__":Str))=uD:=by decide)
  (f:(x==("__classdict__":Str))=uD:=by decide):QE X E (.Name x pos) (dV i):=by
 refine(kT j k l f).mono λm H Q h=>?_
 obtain⟨a,S,G,hk,rfl,s,r,h⟩:=h;unfold dV at h;split at h
 .rename_i d e;obtain⟨v,g,q⟩:=r.get i d e;exact⟨v,g,h a v (.refl a) s q⟩
 exact h.elim
def Li{K:za}{d:D}{v:V}{f:St}{H:Hp}{Q:VK}(h:lE K E (dC d) f H Q)(r:∀a:Wd,a.K=K->LB a d v):Q v H:=by obtain⟨a,S,G,hk,rfl,s,_,h⟩:=h;exact h a v (.refl a) s (r a hk)
def Yn{i:Int}{j:Nat}:QE X E (.Constant (.int i) j pos) (dC (.int i)):=kU.mono λd H Q h=>Li h λ_ _=>rfl
def Zq{i:Bool}{j:Nat}:QE X E (.Constant (.bool i) j pos) (dC (.bl i)):=kW.mono λd H Q h=>Li h λ_ _=>rfl
def oV{j:Nat}:QE X E (.Constant .none j pos) (dC .KA):=kX.mono λd H Q h=>Li h λ_ _=>rfl
def av{i:Str}{j:Nat}:QE X E (.Constant (.str i) j pos) (dC (.str i)):=kY.mono λd H Q h=>Li h λ_ _=>rfl
def aw(g:Gl X x)(i:X.mg x=uA u)(r:RelV v u)(f:∀a:Wd,a.K=X.K->LB a d v)(j:(x==("__debug__":Str))=uD:=by decide):QE X E (.Name x pos) (dC d):=
 (kZ g i r j).mono λk H Q h=>Li h f
def Wj(ho:WB X (vI op) (GF X.K E f))(g:QE X E a ta)(d:QE X E b tb):QE X E (.BinOp a op b pos) (WA f ta tb):=
 (lY ho g d).mono λ_ _ _ h=>two h
def oW(ho:WB X (vN op) (GF X.K E f))(g:QE X E a ta)(d:QE X E b tb)(i:vH op b=uD):QE X E (.Compare a [op] [b] pos) (WA f ta tb):=
 (lx ho g d i).mono λ_ _ _ h=>two h
theorem Ye{K:za}{t:DE}{f:St}{H:Hp}{Q:Bool->Hp->Prop}(h:lB K E (Ai t) f H Q):Pa (lE K E t) f H Q:=by
 obtain⟨a,S,G,hk,rfl,s,r,h⟩:=h;refine⟨a,S,G,hk,rfl,s,r,(oR h).imp ?_⟩;rintro v _ ⟨b,d,j,rfl,x,i,q,_,g⟩;cases d with
 |bl k=>exact⟨k,q,g b (.refl b) i⟩
 |_=>exact g.elim
def ax(w:∀d H Q,t' d H Q->t d H Q)(d:St)(H:Hp)(Q:Bool->Hp->Prop)(h:Pa t' d H Q):Pa t d H Q:=w _ _ _ h
def Ro(ho:WB X (vN op) (GF X.K E f))(i:QE X E a ta)(g:QE X E b tb)(j:vH op b=uD):QT X E (.Compare a [op] [b] pos) (Ai (WA f ta tb)):=
 (lz ho i g j).mono λd H Q h=>ax (λ_ _ _ z=>two z) d H Q (Ye h)
theorem chain{K:za}{f g:D->D->DH->R D}{n:St}{H:Hp}{Q:VK}(h:lE K E (Ov f g ta tb tc) n H Q):aH (GF K E f) (GF K E g) (lE K E ta) (lE K E tb) (lE K E tc) n H Q:=by
 obtain⟨a,S,G,hk,rfl,s,r,h⟩:=h;refine⟨a,S,G,hk,rfl,s,r,(Eb h).imp ?_⟩;rintro v _ ⟨b,d,B,rfl,x,U,q,_,O⟩;refine⟨b,S,B,x.k.trans hk,rfl,U,r.mono x,(Eb O).imp ?_⟩;rintro w _ ⟨c,e,J,rfl,y,P,l,_,C⟩;refine⟨c,J,d,e,y.k.trans (x.k.trans hk),rfl,P,q.mono y,l,(Eb C).imp ?_⟩;rintro z _ ⟨o,F,T,rfl,i,A,Y,_,j⟩;cases F with
 | bl k=>
  refine⟨k,Y,?_⟩;cases k with
  |false=>exact j o (.bl uD) (.refl _) A rfl
  |true=>
   refine⟨o,S,T,(i.k.trans (y.k.trans (x.k.trans hk))),rfl,A,((r.mono x).mono y).mono i,(Eb j).imp ?_⟩;rintro z4 _ ⟨M,e4,L,rfl,m,I,N,_,Z⟩;exact⟨M,L,e,e4,m.k.trans (i.k.trans (y.k.trans (x.k.trans hk))),rfl,I,(l.mono i).mono m,N,Z⟩
 |_=>exact j.elim
def oY(ho:WB X (vN op) (GF X.K E f))(d:WB X (vN op') (GF X.K E g))(k:QE X E a ta)(j:QE X E b tb)(m:QE X E c tc)
  (l:lastMarks [op,op'] [b,c]=uD:=by with_unfolding_all rfl):QT X E (.Compare a [op,op'] [b,c] pos) (Ai (Ov f g ta tb tc)):=
 (mB ho d k j m l).mono λi H Q h=>ax (λ_ _ _ z=>chain z) i H Q (Ye h)
def oZ(g:QE X E a ta)(f:∀d,isTrue a X.env d=(do let v<-d;standAt a.pos;holding [v] (truthy v)):=by intro _;rfl):QT X E a (Ai ta):=
 (k6 g f).mono λi H Q h=>Ye h
def o3(d:QE X E a ta):QE X E a (Bg ta):=.mono d λf H Q h=>by obtain⟨w,S,G,hk,rfl,s,r,h⟩:=h;exact⟨w,S,G,hk,rfl,s,r,au s h⟩
def QW(X:Cx)(E:XK)(e:vY)(t:DB):Prop:=PW X e (lB X.K E t)
def _root_._L.PW.mono(h:PW X e t)(w:∀d H Q,t' d H Q->t d H Q):PW X e t':=λg f s d H Q I q=>h g f s d H Q I (w d H Q q)
variable{u t:DB}{rest:List vY}
theorem oa{K:za}{d:St}{H:Hp}{Q:Bool->Hp->Prop}(h:lB K E (Gi t u) d H Q):TU (lB K E t) (lB K E u) d H Q:=by
 obtain⟨a,S,G,hk,rfl,s,r,h⟩:=h;refine⟨a,S,G,hk,rfl,s,r,(Yw h).imp ?_⟩;rintro k _ ⟨b,i,rfl,x,g,_,f⟩;cases k with
 |true=>exact⟨b,S,i,x.k.trans hk,rfl,g,r.mono x,f⟩
 |false=>exact f b (.refl b) g
theorem og{K:za}{d:St}{H:Hp}{Q:Bool->Hp->Prop}(h:lB K E (IG t u) d H Q):Lv (lB K E t) (lB K E u) d H Q:=by
 obtain⟨a,S,G,hk,rfl,s,r,h⟩:=h;refine⟨a,S,G,hk,rfl,s,r,(Yw h).imp ?_⟩;rintro k _ ⟨b,i,rfl,x,g,_,f⟩;cases k with
 |true=>exact f b (.refl b) g
 |false=>exact⟨b,S,i,x.k.trans hk,rfl,g,r.mono x,f⟩
def oh(d:QT X E a t):QW X E (.BoolOp .And [a] pos) t:=JO d
def oi(d:QT X E a t):QW X E (.BoolOp .Or [a] pos) t:=OR d
def Xl(f:QT X E a t)(d:QW X E (.BoolOp .And (b::rest) pos) u):QW X E (.BoolOp .And (a::b::rest) pos) (Gi t u):=(QR f d).mono λ_ _ _ h=>oa h
def ay(f:QT X E a t)(d:QW X E (.BoolOp .Or (b::rest) pos) u):QW X E (.BoolOp .Or (a::b::rest) pos) (IG t u):=(UU f d).mono λ_ _ _ h=>og h
def W0(h:QW X E a t):QT X E a t:=_L.PW.pt h
def oj(f:QT X E a t):QT X E (.UnaryOp .Not a pos) (Ex t):=(k7 f).mono λj H Q h=>by obtain⟨a,S,G,hk,rfl,s,r,h⟩:=h;refine⟨a,S,G,hk,rfl,s,r,(Yw h).imp ?_⟩;rintro k _ ⟨b,i,rfl,x,g,_,d⟩;exact d b (.refl b) g
def ol{op}(h:QE X E a ta):QE X E (.BoolOp op [a] pos) ta:=ka h
theorem om(l:QE X E a ta)(j:QE X E (.BoolOp .And (b::rest) pos) tb):QE X E (.BoolOp .And (a::b::rest) pos) (Hm ta tb):=(kc l j).mono λm H Q h=>by
 obtain⟨a,S,G,hk,rfl,s,r,h⟩:=h;refine⟨a,S,G,hk,rfl,s,r,(Eb h).imp ?_⟩;rintro v _ ⟨b,d,i,rfl,x,g,q,_,f⟩;cases d with
 |bl k=>
  refine⟨k,q,?_⟩;cases k with
  |true=>exact⟨b,S,i,x.k.trans hk,rfl,g,r.mono x,f⟩
  |false=>exact f b _ (.refl b) g rfl
 |_=>exact f.elim
theorem oo(g:QE X E a ta):QE X E (.UnaryOp .Not a pos) (Ti ta):=(ke g).mono λl H Q h=>by
 obtain⟨a,S,G,hk,rfl,s,r,h⟩:=h;refine⟨a,S,G,hk,rfl,s,r,(Eb h).imp ?_⟩;rintro v _ ⟨b,d,j,rfl,x,i,q,_,f⟩;cases d with
 |bl k=>exact⟨k,q,f b _ (.refl b) i rfl⟩
 |_=>exact f.elim
theorem oq(l:QT X E c t)(j:QE X E a ta)(i:QE X E b tb):QE X E (.IfExp c a b pos) (VO t ta tb):=(kf l j i).mono λm H Q h=>by
 obtain⟨a,S,G,hk,rfl,s,r,h⟩:=h;refine⟨a,S,G,hk,rfl,s,r,(ao h).imp ?_⟩;rintro k _ ⟨b,d,rfl,x,g,_,f⟩;cases k with
 |_=>exact⟨b,S,d,x.k.trans hk,rfl,g,r.mono x,f⟩
variable{es:List vY}{tr:DA}
def ot:QA X E [] Ba:=mV.mono λd H Q h=>by obtain⟨a,S,G,hk,rfl,s,r,h⟩:=h;exact h a [] (.refl a) s rfl
noncomputable def notStar:vY->Bool
 |.Starred _ _=>uD
 |_=>uC
def K1(a:vY)(es:List vY)(env:Env)(h:notStar a=uC):wW (a::es) env=(uD,eval a env)::wW es env:=by
 cases a<;>first
  |exact absurd h zL
  |rfl
theorem Mm(pos:Pos)(env:Env):∀es:List vY,es.all notStar=uC->(vF pos (wW es env)).any (·.1)=uD
 |[],_=>rfl
 |a::es,h=>by
  rw[jH,qQ]at h;rw[K1 a es env h.1];have d:=Mm pos env es h.2;unfold vF at d⊢;rw[zY,j3,d]
  rfl
def ou(m:QE X E a ta)(o:QA X E es tr)(i:notStar a=uC:=by rfl):QA X E (a::es) (Ak ta tr):=(mW m o (K1 a es X.env i)).mono λz H Q h=>by obtain⟨a,S,G,hk,rfl,s,r,h⟩:=h;refine⟨a,S,G,hk,rfl,s,r,(oT h).imp ?_⟩;rintro v _ ⟨b,d,f,rfl,x,w,q,_,g⟩;refine⟨b,S,f,x.k.trans hk,rfl,w,r.mono x,(oU g).imp ?_⟩;rintro A _ ⟨c,C,B,rfl,y,l,n,_,j⟩;exact j c _ (.refl c) l (.cons (q.mono y) n)
def oy{x1}(h:QA X E es tr):QE X E (.Tuple es x1 pos) (IA Bc tr):=(V9 h).mono λk H Q h=>by
 obtain⟨a,S,G,hk,rfl,s,r,h⟩:=h;refine⟨a,S,G,hk,rfl,s,r,(J9 h).imp ?_⟩;rintro f _ ⟨b,l,j,rfl,x,i,q,_,d⟩;unfold Bc at d;split at d
 .rename_i g;exact⟨by rw[<-q.length];exact zN g TB,λp hp=>(d (b.put p (.tup f)) (.ref p) (.put hp) (i.put hp) ⟨p,f,rfl,.of Di,q.mono (.put hp)⟩)⟩
 exact d.elim
def oz(h:QA X E es tr):QE X E (.List es pos) (IA Ac tr):=(mX h).mono λk H Q h=>by
 obtain⟨a,S,G,hk,rfl,s,r,h⟩:=h;refine⟨a,S,G,hk,rfl,s,r,(J9 h).imp ?_⟩;rintro g _ ⟨b,l,j,rfl,x,f,q,_,d⟩;unfold Ac at d;split at d
 .rename_i i;refine⟨by rw[<-q.length];exact zN i TB,λp hp=>?_⟩;refine d (b.push p (.lst g)) (.ref p) (.push hp) (f.push hp ⟨g,rfl,q.mono (.push hp)⟩) ⟨?_,?_⟩
  .rw[f.len];exact qC _
  rw[f.len];show V.ref p=.ref (if b.n=b.n then p else b.m b.n);rw[if_pos rfl]
 exact d.elim
variable{e:vY}{x:Str}{p:Pos}
def Us{K:za}{f:List D->DH->R D}{d:St}{H:Hp}{Q:VK}(h:lE K E (IA f tr) d H Q):lA K E tr d H (λvs g=>JM K E f vs g Q):=by obtain⟨a,S,G,hk,rfl,s,r,h⟩:=h;refine⟨a,S,G,hk,rfl,s,r,(J9 h).imp ?_⟩;rintro vs _ ⟨b,l,i,rfl,x,m,q,_,j⟩;exact⟨b,i,l,x.k.trans hk,rfl,m,q,j⟩
def pA{id:String}{f:List D->DH->R D}(n:OB X (.builtin id) (JM X.K E f))(j:Gl X x)(m:X.mg x=uB)(l:vL x=uA (.builtin id))(k:QA X E (e::es) tr)(i:x≠"__name__":=by decide)(g:(x==("__debug__":Str))=uD:=by decide)
  (o:notStar e=uC:=by rfl) (d:es.all notStar=uC:=by rfl):QE X E (.Call (.Name x p) (e::es) [] pos) (IA f tr):=
 (mj n j m l k i g (K1 e es X.env o) (Mm pos X.env es d)).mono λq H Q h=>Us h
def pB{id:String}{f:List D->DH->R D}(n:OB X (.type id) (JM X.K E f))(j:Gl X x)(m:X.mg x=uB)(l:vL x=uA (.type id))(k:QA X E (e::es) tr)(i:x≠"__name__":=by decide)(g:(x==("__debug__":Str))=uD:=by decide)
  (o:notStar e=uC:=by rfl) (d:es.all notStar=uC:=by rfl):QE X E (.Call (.Name x p) (e::es) [] pos) (IA f tr):=
 (mm n j m l k i g (K1 e es X.env o) (Mm pos X.env es d)).mono λq H Q h=>Us h
def pC{CX:RL}{k:Nat}{f:vW}{i:vq}{ps:List Str}{F:List D->DH->R D}(m:ID X.prog X.w X.K X.mg X.base CX k f i ps (lF X.K F))(C:GB k X.A)(n:Gl X x)(z:X.mg x=uA (.ref f))(hk:qd X.K (.ref f)=uC)(v:Binds X.K i ps [])
  (o:Passes CX X E0) (y:QA X E0 (e::es) tr) (g:(x==("__debug__":Str))=uD:=by decide) (J:notStar e=uC:=by rfl) (d:es.all notStar=uC:=by rfl):
  QE X E0 (.Call (.Name x p) (e::es) [] pos) (IA F tr):=
 (m7 m C n z hk v .nil o y g (K1 e es X.env J) (Mm pos X.env es d)).mono λL H Q h=>by
  replace h:=Us h;obtain⟨a,S,G,hk,rfl,s,r,h⟩:=h
  refine⟨a,S,G,hk,rfl,s,r,h.imp ?_⟩;rintro M _ ⟨b,j,B,hk,rfl,I,q,l⟩;exact⟨b,j,B,hk,rfl,I,by rw[qV];exact q,l⟩
def pE(g:NJ X (GF X.K E f))(i:QE X E a ta)(j:QE X E b tb)(d:JK b:=by intro _ _;rfl):QE X E (.Subscript a b pos) (WA f ta tb):=
 (nI g i j d).mono λ_ _ _ h=>two h
end
noncomputable instance (i j:Int):Decidable (ZL i j):=by unfold ZL;infer_instance
noncomputable instance (i j:Int):Decidable (KO i j):=by unfold KO;infer_instance
def NK(j:Int):Prop:=0<j/\j.natAbs.log2<9000
noncomputable instance (j:Int):Decidable (NK j):=by unfold NK;infer_instance
def Jg:D->D->DH->R D
 |.int i,.int j,G=>.ok (.int (i-j)) G
 |_,_,_=>.bad
def Iw:D->D->DH->R D
 |.int i,.int j,G=>if NK j then .ok (.int (i/j)) G else .bad
 |_,_,_=>.bad
def Lj:D->D->DH->R D
 |.int i,.int j,G=>if 0<j then .ok (.int (i%j)) G else .bad
 |_,_,_=>.bad
def Ou:D->D->DH->R D
 |.int i,.int j,G=>if KO i j then .ok (.int (i^j.toNat)) G else .bad
 |_,_,_=>.bad
def Jh:D->D->DH->R D
 |.int i,.int j,G=>.ok (.bl (decide (i<j))) G
 |.str i,.str j,G=>.ok (.bl (decide (i.cps.toList<j.cps.toList))) G
 |_,_,_=>.bad
def Kf:D->D->DH->R D
 |.int i,.int j,G=>.ok (.bl (decide (i<=j))) G
 |.str i,.str j,G=>.ok (.bl (!decide (j.cps.toList<i.cps.toList))) G
 |_,_,_=>.bad
def Mv:D->D->DH->R D
 |.int i,.int j,G=>.ok (.bl (decide (j<i))) G
 |.str i,.str j,G=>.ok (.bl (decide (j.cps.toList<i.cps.toList))) G
 |_,_,_=>.bad
def Th:D->D->DH->R D
 |.int i,.int j,G=>.ok (.bl (decide (j<=i))) G
 |.str i,.str j,G=>.ok (.bl (!decide (i.cps.toList<j.cps.toList))) G
 |_,_,_=>.bad
noncomputable def Ej(d:D)(G:DH):Option (List D):=match d with
 |.fl xs=>uA xs
 |.ref i=>match G[i]? with
  |some (.lst xs)=>uA xs
  |_=>uB
 |_=>uB
def Dq:D->D->DH->R D
 |.int i,.int j,G=>.ok (.int (i+j)) G
 |.str i,.str j,G=>if i.length+j.length<=1000000 then .ok (.str (i++j)) G else .bad
 |.tup xs,.tup ys,G=>if xs≠[]/\xs.length+ys.length<=1000000 then .ok (.tup (xs++ys)) G else .bad
 |d,e,G=>match Ej d G,Ej e G with
  |some xs,uA ys=>if xs.length+ys.length<=1000000 then .ok (.ref G.length) (G++[.lst (xs++ys)])else .bad
  |_,_=>.bad
section
variable{X:Cx}{E:XK}
def Fp(ho:WB X f r)
  (h:∀(a:Wd)(G:DH)(d e:D)(x y:V)(Q:VK),a.K=X.K->XA a G->LB a d x->LB a e y->out E a (F d e G) Q->r x y a.H Q):WB X f (GF X.K E F):=
 ho.mono λx y H Q zz=>by obtain⟨a,G,d,e,hk,g,s,b,c,q⟩:=zz;subst g;exact h a G d e x y Q hk s b c q
def pF:WB X (vI .Sub) (GF X.K E Jg):=Fp l5 λa G d e x y Q hk s b c q=>by
 cases d<;>cases e<;>first
  |exact q.elim
  |exact⟨_,_,b,c,q a _ (.refl a) s rfl⟩
def pG:WB X (vI .FloorDiv) (rI (λ_ j=>NK j) λi j=>.int (i/j)):=QX λi j _ _ _ _ _ a q=>by refine floordiv_int (by have:=a.1;lia) (by rw[Int.fdiv_eq_ediv_of_nonneg _ (xT a.1)];exact q) (.inl (PyProof.noPylong_of_log2 a.2))
def pH:WB X (vI .FloorDiv) (GF X.K E Iw):=Fp pG λa G d e x y Q hk s rd re q=>by
 cases d<;>cases e<;>first
  |exact q.elim
  | (
    rename_i i j;unfold Iw at q;dsimp only at q;split at q
    .exact⟨_,_,rd,re,by assumption,q a _ (.refl a) s rfl⟩
    exact q.elim)
def pI:WB X (vI .Mod) (GF X.K E Lj):=Fp l6 λa G d e x y Q hk s rd re q=>by
 cases d<;>cases e<;>first
  |exact q.elim
  | (
    rename_i i j;unfold Lj at q;dsimp only at q;split at q
    .exact⟨_,_,rd,re,by assumption,q a _ (.refl a) s rfl⟩
    exact q.elim)
def pJ:WB X (vI .Pow) (GF X.K E Ou):=Fp l7 λa G d e x y Q hk s rd re q=>by
 cases d<;>cases e<;>first
  |exact q.elim
  | (
    rename_i i j;unfold Ou at q;dsimp only at q;split at q
    .exact⟨_,_,rd,re,by assumption,q a _ (.refl a) s rfl⟩
    exact q.elim)
def X2:WB X (vN .Lt) (GF X.K E Jh):=Fp (l9.or lj) λa G d e x y Q hk s b c q=>by
 cases d<;>cases e<;>first
  |exact q.elim
  |exact .inl ⟨_,_,b,c,q a _ (.refl a) s rfl⟩
  |exact .inr ⟨_,_,b,c,q a _ (.refl a) s rfl⟩
def pK:WB X (vN .LtE) (λx y H Q=>∃i j,x=.str i/\y=.str j/\Q (.bl (!decide (j.cps.toList<i.cps.toList))) H):=by intro a s d H x y v u Q I b c h;obtain⟨i,j,rfl,rfl,q⟩:=h;obtain⟨t,rfl⟩:=b;obtain⟨e,rfl⟩:=c;exact PySem.P.le_str ⟨.bl _,H,I,rfl,q⟩
def pL:WB X (vN .Gt) (λx y H Q=>∃i j,x=.str i/\y=.str j/\Q (.bl (decide (j.cps.toList<i.cps.toList))) H):=by intro a s d H x y v u Q I b c h;obtain⟨i,j,rfl,rfl,q⟩:=h;obtain⟨t,rfl⟩:=b;obtain⟨e,rfl⟩:=c;exact PySem.P.gt_str ⟨.bl _,H,I,rfl,q⟩
def pM:WB X (vN .GtE) (λx y H Q=>∃i j,x=.str i/\y=.str j/\Q (.bl (!decide (i.cps.toList<j.cps.toList))) H):=by intro a s d H x y v u Q I b c h;obtain⟨i,j,rfl,rfl,q⟩:=h;obtain⟨t,rfl⟩:=b;obtain⟨e,rfl⟩:=c;exact PySem.P.ge_str ⟨.bl _,H,I,rfl,q⟩
def L3:WB X (vN .LtE) (GF X.K E Kf):=Fp (lg.or pK) λa G d e x y Q hk s b c q=>by
 cases d<;>cases e<;>first
  |exact q.elim
  |exact .inl ⟨_,_,b,c,q a _ (.refl a) s rfl⟩
  |exact .inr ⟨_,_,b,c,q a _ (.refl a) s rfl⟩
def L4:WB X (vN .Gt) (GF X.K E Mv):=Fp (lh.or pL) λa G d e x y Q hk s b c q=>by
 cases d<;>cases e<;>first
  |exact q.elim
  |exact .inl ⟨_,_,b,c,q a _ (.refl a) s rfl⟩
  |exact .inr ⟨_,_,b,c,q a _ (.refl a) s rfl⟩
def N4:WB X (vN .GtE) (GF X.K E Th):=Fp (li.or pM) λa G d e x y Q hk s b c q=>by
 cases d<;>cases e<;>first
  |exact q.elim
  |exact .inl ⟨_,_,b,c,q a _ (.refl a) s rfl⟩
  |exact .inr ⟨_,_,b,c,q a _ (.refl a) s rfl⟩
def XA.lst(s:XA a G)(h:G[i]?=uA (.lst xs)):∃vs,a.H (a.m i)=uA (.lst vs)/\HA a xs vs:=s.obj i _ h
def J8{E:XK}(s:XA a G)(r:HA a ds vs)(h:out E a (.ok (.ref (lN G)) (G++[.lst ds])) Q)(p:vW)(hp:a.H p=uB):Q (.ref p) (upd a.H p (.lst vs)):=by
 refine h (a.push p (.lst vs)) (.ref p) (.push hp) (s.push hp ⟨vs,rfl,r.mono (.push hp)⟩) ⟨?_,?_⟩
 .rw[s.len];exact qC _
 rw[s.len];show V.ref p=.ref (if a.n=a.n then p else a.m a.n);rw[if_pos rfl]
def Xe{E:XK}(s:XA a G)(r:HA a ds vs)(h:out E a (.ok (.tup ds) G) Q)(p:vW)(hp:a.H p=uB):Q (.ref p) (upd a.H p (.tup vs)):=
 h (a.put p (.tup vs)) (.ref p) (.put hp) (s.put hp) ⟨p,vs,rfl,.of Di,r.mono (.put hp)⟩
theorem T5(s:XA a G)(r:LB a d x)(h:Ej d G=uA xs):∃p vs,x=.ref p/\OE a.K a.H p vs/\HA a xs vs:=by
 cases d with
 |fl j=>
  have e:=Option.some.inj h;subst e;obtain⟨p,vs,e,q,c⟩:=r;exact⟨p,vs,e,q.sq,c⟩
 |ref i=>
  unfold Ej at h;dsimp only at h;split at h
  .rename_i j f;have e:=Option.some.inj h;subst e;obtain⟨vs,b,g⟩:=s.lst f;exact⟨a.m i,vs,r.2,.of b,g⟩
  cases h
 |_=>cases h
def az(K:za):R2:=λx y H Q=>∃l b xs zs,x=.ref l/\y=.ref b/\OE K H l xs/\OE K H b zs/\lN xs+lN zs<=sizeLine/\∀p,H p=uB->Q (.ref p) (upd H p (.lst (xs++zs)))
def pN:WB X (vI .Add) (az X.K):=by
 intro t s σ H x y v u Q I B U h;obtain⟨l,b,Z,W,rfl,rfl,J,A,Y,q⟩:=h;cases B;cases U;obtain⟨c,r,P,_⟩:=I.list J;obtain⟨a,m,C,_⟩:=I.list A;obtain⟨⟨N,M,k,w⟩,n,p,L,_,O⟩:=P;obtain⟨⟨o,j,e,f⟩,z,d,g,_,i⟩:=C;cases L;cases O;cases g;cases i;have hl:=r.length;have S:=m.length;refine concat_meets ⟨_,p,rfl⟩ ⟨_,d,rfl⟩ noFill_list_add seq_list_add PySem.F.slot_list_add PySem.F.entry_list_add (PySem.F.args_list_add_2 _ _) (list_addW l b c.toArray a.toArray n z M j w f (by rw[zk,zk];lia)) ⟨p,d,?_⟩
 have T:c.toArray++a.toArray=(c++a).toArray:=by simp
 rw[T];exact⟨.ref _,_,I.QV (r.append m) (by rw[zH];lia),rfl,q _ I.fresh⟩
def Yi:WB X (vI .Add) (GF X.K E Dq):=Fp (l0.or (mC.or (pN.or nH))) λa G d e x y Q hk s rd re q=>by
 have lst:out E a (match Ej d G,Ej e G with
  |some xs,uA ys=>if xs.length+ys.length<=1000000 then .ok (.ref G.length) (G++[.lst (xs++ys)])else .bad
  |_,_=>.bad) Q->az X.K x y a.H Q:=λq=>by
  split at q
  .rename_i xs ys h1 h2;split at q
   .rename_i hl;obtain⟨p,vs,e1,q1,r1⟩:=T5 s rd h1;obtain⟨p',IL,e2,q2,r2⟩:=T5 s re h2;rw[hk]at q1 q2;exact⟨p,p',vs,IL,e1,e2,q1,q2,by rw[<-r1.length,<-r2.length];exact zN hl TB,λp hp=>J8 s (r1.append r2) q p hp⟩
   exact q.elim
  exact q.elim
 cases d<;>cases e<;>first
  |exact .inl ⟨_,_,rd,re,q a _ (.refl a) s rfl⟩
  |exact(λq=>Or.inr (Or.inr (Or.inl (lst q)))) q
  |skip
 .rename_i i j;unfold Dq at q;dsimp only at q;split at q
  .rename_i hl;exact .inr (.inl ⟨_,_,rd,re,zN hl TB,q a _ (.refl a) s rfl⟩)
  exact q.elim
 .rename_i xs ys;unfold Dq at q;dsimp only at q;split at q
  .rename_i hl;obtain⟨p,vs,e1,h1,r1⟩:=rd;obtain⟨p',IL,e2,h2,r2⟩:=re;rw[hk]at h1 h2;refine .inr (.inr (.inr ⟨p,p',vs,IL,e1,e2,h1,h2,λz=>hl.1 (jz (by rw[r1.length,z];rfl)),by rw[<-r1.length,<-r2.length];exact zN hl.2 TB,λz=>?_,λ_ p0 hp=>(Xe s (r1.append r2) q p0 hp)⟩))
   .refine q a (.ref p) (.refl a) s ⟨p,vs,rfl,hk▸h1,?_⟩;have e3:=jz (by rw[r2.length,z];rfl);rw[e3,qV];exact r1
  exact q.elim
inductive VD where
 |flat (v:V)
 |lst (xs:List D)
 |tup (xs:List D)
 |bad
def view(G:DH):D->VD
 |.KA=>.flat .KA
 |.bl b=>.flat (.bl b)
 |.int i=>.flat (.int i)
 |.str x=>.flat (.str x)
 |.ty _=>.bad
 |.tup xs=>.tup xs
 |.fl xs=>.lst xs
 |.ref i=>match G[i]? with
  |some (.lst xs)=>.lst xs
  |_=>.bad
noncomputable def KQ(f:D->D->Option Bool):List D->List D->Option Bool
 |x::xs,y::ys=>match f x y,KQ f xs ys with
  |some a,uA b=>uA (a&&b)
  |_,_=>uB
 |_,_=>uA uC
def UI:Nat->DH->D->D->Option Bool
 |0=>λ_ _ _=>uB
 | n+1=>λG d e=>match view G d,view G e with
  |.flat a,.flat b=>uA (WH a b)
  |.lst xs,.lst ys=>if lN xs=lN ys then KQ (UI n G) xs ys else uA uD
  |.tup xs,.tup ys=>match KQ (UI n G) xs ys with
   |some b=>uA (b&&lN xs==lN ys)
   |none=>uB
  |.bad,_=>uB
  |_,.bad=>uB
  |_,_=>uA uD
theorem Qu:∀{xs ys:List D}{k:Bool},KQ f xs ys=uA k->∃e:Nat->Bool,(∀(j:Nat)(x y:D),xs[j]?=uA x->ys[j]?=uA y->f x y=uA (e j))/\k=(zW (min (lN xs) (lN ys))).all e
 | [],ys,k,h=>⟨λ_=>uC,λj x y c _=>by simp at c,by
   have d:uA uC=uA k:=by cases ys<;>exact h
   cases d;simp⟩
 |x::xs,[],k,h=>⟨λ_=>uC,λj x y _ c=>by simp at c,by have d:=h;cases d;simp⟩
 | x::xs,y::ys,k,h=>by
  unfold KQ at h;split at h
  .rename_i a b i l;obtain⟨e,n,hk⟩:=Qu l
   refine⟨λj=>match j with |0=>a|j+1=>e j,λj o m c g=>?_,?_⟩
   .cases j with
    |zero=>simp at c g;subst c;subst g;exact i
    |succ j=>exact n j o m (by simpa using c) (by simpa using g)
   rw[<-(Option.some.inj h),hk];have:min (lN (x::xs)) (lN (y::ys))=min (lN xs) (lN ys)+1:=by simp only[zE];lia
   rw[this,jZ,jH,List.all_map]
   rfl
  cases h
theorem Ra(s:XA a G)(r:LB a d x):match view G d with
  |.flat v=>x=v/\Dt v=uC
  |.lst g=>∃p c,x=.ref p/\OE a.K a.H p c/\HA a g c
  |.tup g=>∃p c,x=.ref p/\VE a.K a.H p c/\HA a g c
  |.bad=>True:=by
 cases d with
 |ty n=>trivial
 |tup g=>
  obtain⟨p,c,e,h,q⟩:=r;exact⟨p,c,e,h,q⟩
 |fl g=>
  obtain⟨p,c,e,h,q⟩:=r;exact⟨p,c,e,h.sq,q⟩
 | ref i=>
  unfold view;dsimp only;split
  .rename_i v f
   split at f<;>cases f
  .rename_i g f;split at f
   .rename_i o k;cases f;obtain⟨c,j,l⟩:=s.lst k;exact⟨a.m i,c,r.2,.of j,l⟩
   cases f
  .rename_i g f
   split at f<;>cases f
  trivial
 |_=>exact⟨r,rfl⟩
theorem pO(f:RelV y u)(c:RelV x v)(g:Dt y=uC)(e:Dt x=uC):SeqAt.RcAt A s u v (WH y x):=by
 cases y with
 |KA=>
  cases f;cases x with
  |KA=>cases c;exact .none_none
  |bl b=>cases c;exact .none_bool b
  |int b=>obtain⟨t,rfl⟩:=c;exact .none_int b t
  |str b=>obtain⟨t,rfl⟩:=c;exact .none_str b t
  |_=>exact absurd (e) zL
 |bl a=>
  cases f;cases x with
  |KA=>cases c;exact .bool_none a
  |bl b=>cases c;exact .bool_bool a b
  |int b=>obtain⟨t,rfl⟩:=c;exact .bool_int a b t
  |str b=>obtain⟨t,rfl⟩:=c;exact .bool_str a b t
  |_=>exact absurd (e) zL
 |int a=>
  obtain⟨d,rfl⟩:=f;cases x with
  |KA=>cases c;exact .int_none a d
  |bl b=>cases c;exact .int_bool a d b
  |int b=>obtain⟨t,rfl⟩:=c;exact .int_int a d b t
  |str b=>obtain⟨t,rfl⟩:=c;exact .int_str a d b t
  |_=>exact absurd (e) zL
 |str a=>
  obtain⟨d,rfl⟩:=f;cases x with
  |KA=>cases c;exact .str_none a d
  |bl b=>cases c;exact .str_bool a d b
  |int b=>obtain⟨t,rfl⟩:=c;exact .str_int a d b t
  |str b=>obtain⟨t,rfl⟩:=c;exact .str_str a d b t
  |_=>exact absurd (e) zL
 |_=>exact absurd (g) zL
theorem pP(f:RelV y u)(c:RelV x v)(g:Dt y=uC)(e:Dt x=uC):SeqAt.RcNeAt A s u v (!WH y x):=by
 cases y with
 |KA=>
  cases f;cases x with
  |KA=>cases c;exact .none_none
  |bl b=>cases c;exact .none_bool b
  |int b=>obtain⟨t,rfl⟩:=c;exact .none_int b t
  |str b=>obtain⟨t,rfl⟩:=c;exact .none_str b t
  |_=>exact absurd (e) zL
 |bl a=>
  cases f;cases x with
  |KA=>cases c;exact .bool_none a
  |bl b=>cases c;exact .bool_bool a b
  |int b=>obtain⟨t,rfl⟩:=c;exact .bool_int a b t
  |str b=>obtain⟨t,rfl⟩:=c;exact .bool_str a b t
  |_=>exact absurd (e) zL
 |int a=>
  obtain⟨d,rfl⟩:=f;cases x with
  |KA=>cases c;exact .int_none a d
  |bl b=>cases c;exact .int_bool a d b
  |int b=>obtain⟨t,rfl⟩:=c;exact .int_int a d b t
  |str b=>obtain⟨t,rfl⟩:=c;exact .int_str a d b t
  |_=>exact absurd (e) zL
 |str a=>
  obtain⟨d,rfl⟩:=f;cases x with
  |KA=>cases c;exact .str_none a d
  |bl b=>cases c;exact .str_bool a d b
  |int b=>obtain⟨t,rfl⟩:=c;exact .str_int a d b t
  |str b=>obtain⟨t,rfl⟩:=c;exact .str_str a d b t
  |_=>exact absurd (e) zL
 |_=>exact absurd (g) zL
end
section
variable{X:Cx}{E:XK}{wS:List (vW×Obj)}{σ:St}{s:vk}
def pQ(v:V)(h:Dt v=uC):WH v v=uC:=by cases v<;>first|rfl|exact absurd (h) zL|(simp[WH])
theorem bA(I:Inv X wS σ a.H s)(hk:a.K=X.K)(L:XA a G):∀(n:Nat){d e:D}{x:V}{k:Bool},LB a d x->LB a e x->UI n G d e=uA k->k=uC
 |0,_,_,_,_,_,_,h=>by cases h
 | n+1,d,e,x,k,T,P,h=>by
  have m:=Ra L T;have o:=Ra L P;have r:∀{B A:List D}{q:List V}{b:Bool},HA a B q->HA a A q->KQ (UI n G) B A=uA b->b=uC:=λ{B A q b}y t F=>by obtain⟨f,Q,S⟩:=Qu F;rw[S,j9];intro j W;have N:=qz.mp W;have l:B[j]?=uA (B[j]'(by lia)):=zZ (by lia);have g:A[j]?=uA (A[j]'(by lia)):=zZ (by lia);obtain⟨Z,c,M⟩:=y.get l;obtain⟨v2,i,O⟩:=t.get g;rw[c]at i;cases i;exact bA I hk L n M O (Q j _ _ l g)
  unfold UI at h
  try dsimp only at h
  revert h m o
  cases view G d<;>cases view G e<;>intro m o h<;>dsimp only at h m o<;>first
   |cases h
   |skip
  .
   rename_i v w;obtain⟨rfl,u⟩:=m;obtain⟨rfl,Y⟩:=o;exact pQ _ u
  .obtain⟨rfl,u⟩:=m;obtain⟨p,q,c,_⟩:=o;subst c;cases u
  .obtain⟨rfl,u⟩:=m;obtain⟨p,q,c,_⟩:=o;subst c;cases u
  .obtain⟨rfl,u⟩:=o;obtain⟨p,q,c,_⟩:=m;subst c;cases u
  .obtain⟨p,q,c,l,y⟩:=m;obtain⟨J,z,i,g,t⟩:=o;rw[c]at i;cases i;rw[hk]at l g;cases I.Yc l g;split at h
   .exact r y t h
   rename_i U;exact absurd (y.length.trans t.length.symm) U
  .obtain⟨p,q,c,l,y⟩:=m;obtain⟨J,z,i,g,t⟩:=o;rw[c]at i;cases i;rw[hk]at l g;obtain⟨_,_,C,_⟩:=I.list l;obtain⟨_,_,pt,_⟩:=I.tuple g;exact absurd rfl (uW C.isList pt)
  .obtain⟨rfl,u⟩:=o;obtain⟨p,q,c,_⟩:=m;subst c;cases u
  .obtain⟨p,q,c,l,y⟩:=m;obtain⟨J,z,i,g,t⟩:=o;rw[c]at i;cases i;rw[hk]at l g;obtain⟨_,_,C,_⟩:=I.list g;obtain⟨_,_,pt,_⟩:=I.tuple l;exact absurd rfl (uW C.isList pt)
  obtain⟨p,q,c,l,y⟩:=m;obtain⟨J,z,i,g,t⟩:=o;rw[c]at i;cases i;rw[hk]at l g;cases I.Yx l g;split at h
  .rename_i b F;rw[<-(Option.some.inj h),r y t F,y.length,t.length];simp
  cases h
def Um(r:HA a xs vs)(q:Vals vs MA)(h:j<MA.toArray.size):∃d v,xs[j]?=uA d/\LB a d v/\RelV v MA.toArray[j]:=by
 have b:j<MA.length:=by simpa using h
 have i:=q.length▸b;obtain⟨v,c⟩:∃v,vs[j]?=uA v:=⟨vs[j],zZ i⟩;obtain⟨d,l,f⟩:=r.get' c;obtain⟨u,e,g⟩:=q.get c;have k:u=MA.toArray[j]:=by have:=zZ b;rw[this]at e;simpa using(Option.some.inj e).symm
 exact⟨d,v,l,f,by rw[<-k];exact g⟩
theorem Qy(I:Inv X wS σ a.H s)(hk:a.K=X.K)(sm:XA a G):∀(n:Nat){A:vK}{d e:D}{x y:V}{u w:vB}{k:Bool},A.units+n<cLine->LB a d x->LB a e y->RelV x u->RelV y w->UI n G d e=uA k->
  SeqAt.EqAt A s u w k/\SeqAt.RcAt A s u w k/\SeqAt.RcNeAt A s u w (!k)
 |0,_,_,_,_,_,_,_,_,_,_,_,_,_,h=>by cases h
 | n + 1,A,d,e,x,y,u,w,k,hu,rd,re,r,m,h=>by
  have L:=Ra sm rd;have M:=Ra sm re;have c:A.units<cLine:=by lia
  have B':A.in1.units+n<cLine:=by show A.units+1+n<cLine;lia
  have F:∀{z:V},LB a d z->LB a e z->UI (n+1) G d e=uA k->k=uC:=λS C r3=>bA I hk sm (n+1) S C r3
  have h0:=h;unfold UI at h
  try dsimp only at h
  have O:∀{p q:vW}{k:Bool},(p=q->k=uC)->SeqAt.RcAt A s (.ref p) (.ref q) k->SeqAt.EqAt A s (.ref p) (.ref q) k:=λ{p q k}hs hr=>by
   by_cases e:p=q
   .rw[hs e,e];exact .same _
   exact .of_refs e hr
  revert h L M
  cases hvd:view G d<;>cases hve:view G e<;>intro L M h<;>dsimp only at h L M<;>first
   |cases h
   |skip
  .
   obtain⟨rfl,N⟩:=L;obtain⟨rfl,f2⟩:=M;exact⟨aW r m N f2,pO r m N f2,pP r m N f2⟩
  .
   obtain⟨rfl,N⟩:=L;obtain⟨q,Y,rfl,o,C⟩:=M;cases m;rw[hk]at o;obtain⟨l,qv,g,_⟩:=I.list o;cases x with
   |KA=>cases r;exact⟨.none_list g.isList c,.none_list g.isList c,.none_list g.isList c⟩
   |bl b=>cases r;exact⟨.bool_list b g.isList c,.bool_list b g.isList c,.bool_list b g.isList c⟩
   |int b=>obtain⟨t,rfl⟩:=r;exact⟨.int_list b t g.isList c,.int_list b t g.isList c,.int_list b t g.isList c⟩
   |str b=>obtain⟨t,rfl⟩:=r;exact⟨.str_list b t g.isList c,.str_list b t g.isList c,.str_list b t g.isList c⟩
   |_=>exact absurd (N) zL
  .
   obtain⟨rfl,N⟩:=L;obtain⟨q,Y,rfl,o,C⟩:=M;cases m;rw[hk]at o;obtain⟨l,qv,g,_⟩:=I.tuple o;cases x with
   |KA=>cases r;exact⟨.none_tuple g c,.none_tuple g c,.none_tuple g c⟩
   |bl b=>cases r;exact⟨.bool_tuple b g c,.bool_tuple b g c,.bool_tuple b g c⟩
   |int b=>obtain⟨t,rfl⟩:=r;exact⟨.int_tuple b t g c,.int_tuple b t g c,.int_tuple b t g c⟩
   |str b=>obtain⟨t,rfl⟩:=r;exact⟨.str_tuple b t g c,.str_tuple b t g c,.str_tuple b t g c⟩
   |_=>exact absurd (N) zL
  .
   obtain⟨rfl,N⟩:=M;obtain⟨q,Y,rfl,o,C⟩:=L;cases r;rw[hk]at o;obtain⟨l,qv,g,_⟩:=I.list o;cases y with
   |KA=>cases m;exact⟨.list_none g.isList c,.list_none g.isList c,.list_none g.isList c⟩
   |bl b=>cases m;exact⟨.list_bool b g.isList c,.list_bool b g.isList c,.list_bool b g.isList c⟩
   |int b=>obtain⟨t,rfl⟩:=m;exact⟨.list_int b t g.isList c,.list_int b t g.isList c,.list_int b t g.isList c⟩
   |str b=>obtain⟨t,rfl⟩:=m;exact⟨.list_str b t g.isList c,.list_str b t g.isList c,.list_str b t g.isList c⟩
   |_=>exact absurd (N) zL
  .
   obtain⟨p,Y,rfl,Q,S⟩:=L;obtain⟨q,W,rfl,o,C⟩:=M;cases r;cases m;rw[hk]at Q o;obtain⟨l,Z,B,_⟩:=I.list Q;obtain⟨i,q2,v,_⟩:=I.list o;have P:=zk▸Z.length.symm;have U:=zk▸q2.length.symm;split at h
   .rename_i hl;obtain⟨f,hf,hb⟩:=Qu h;have J:l.toArray.size=i.toArray.size:=by rw[P,U,<-S.length,<-C.length];exact hl
    have he:∀j(g1:j<l.toArray.size)(g2:j<i.toArray.size),SeqAt.EqAt A.in1 s l.toArray[j] i.toArray[j] (f j):=λj g1 g2=>by obtain⟨d1,v1,e1,P4,SV⟩:=Um S Z g1;obtain⟨d2,v2,e2,S4,L5⟩:=Um C q2 g2;exact(Qy I hk sm n B' P4 S4 SV L5 (hf j d1 d2 e1 e2)).1
    have T:k=(zW l.toArray.size).all f:=by
     rw[hb]
     congr 2
     rw[P,<-S.length,hl];lia
    have rc:SeqAt.RcAt A s (.ref p) (.ref q) k:=T ▸ .lists B.isList v.isList J c he;refine⟨O (λe=>?_) rc,rc,T ▸ .lists B.isList v.isList J c he⟩;subst e;exact F rd re h0
   rename_i hl;have h':=Option.some.inj h;subst h';have J:(l.toArray.size != i.toArray.size)=uC:=by rw[bne_iff_ne,P,U,<-S.length,<-C.length];exact hl
   refine⟨O (λe=>?_) (.lists_lengths B.isList v.isList J c),.lists_lengths B.isList v.isList J c,.lists_lengths B.isList v.isList J c⟩;subst e;exact F rd re h0
  .
   obtain⟨p,Y,rfl,Q,S⟩:=L;obtain⟨q,W,rfl,o,C⟩:=M;cases r;cases m;rw[hk]at Q o;obtain⟨l,Z,B,_⟩:=I.list Q;obtain⟨i,q2,v,_⟩:=I.tuple o;exact⟨.list_tuple B.isList v c,.list_tuple B.isList v c,.list_tuple B.isList v c⟩
  .
   obtain⟨rfl,N⟩:=M;obtain⟨q,Y,rfl,o,C⟩:=L;cases r;rw[hk]at o;obtain⟨l,qv,g,_⟩:=I.tuple o;cases y with
   |KA=>cases m;exact⟨.tuple_none g c,.tuple_none g c,.tuple_none g c⟩
   |bl b=>cases m;exact⟨.tuple_bool b g c,.tuple_bool b g c,.tuple_bool b g c⟩
   |int b=>obtain⟨t,rfl⟩:=m;exact⟨.tuple_int b t g c,.tuple_int b t g c,.tuple_int b t g c⟩
   |str b=>obtain⟨t,rfl⟩:=m;exact⟨.tuple_str b t g c,.tuple_str b t g c,.tuple_str b t g c⟩
   |_=>exact absurd (N) zL
  .
   obtain⟨p,Y,rfl,Q,S⟩:=L;obtain⟨q,W,rfl,o,C⟩:=M;cases r;cases m;rw[hk]at Q o;obtain⟨l,Z,B,_⟩:=I.tuple Q;obtain⟨i,q2,v,_⟩:=I.list o;exact⟨.tuple_list B v.isList c,.tuple_list B v.isList c,.tuple_list B v.isList c⟩
  rename_i xs ys;obtain⟨p,Y,rfl,Q,S⟩:=L;obtain⟨q,W,rfl,o,C⟩:=M;cases r;cases m;rw[hk]at Q o;obtain⟨l,Z,B,_⟩:=I.tuple Q;obtain⟨i,q2,v,_⟩:=I.tuple o;have P:l.toArray.size=xs.length:=by rw[zk,S.length];exact Z.length.symm
  have U:i.toArray.size=ys.length:=by rw[zk,C.length];exact q2.length.symm
  split at h
  .rename_i b hz;obtain⟨f,hf,hb⟩:=Qu hz;have he:∀j(g1:j<l.toArray.size)(g2:j<i.toArray.size),SeqAt.EqAt A.in1 s l.toArray[j] i.toArray[j] (f j):=λj g1 g2=>by obtain⟨d1,v1,e1,P4,SV⟩:=Um S Z g1;obtain⟨d2,v2,e2,S4,L5⟩:=Um C q2 g2;exact(Qy I hk sm n B' P4 S4 SV L5 (hf j d1 d2 e1 e2)).1
   have T:k=((zW (min l.toArray.size i.toArray.size)).all f&&l.toArray.size==i.toArray.size):=by rw[<-(Option.some.inj h),hb,P,U]
   have rc:SeqAt.RcAt A s (.ref p) (.ref q) k:=T ▸ .tuples B v c he;refine⟨O (λe=>?_) rc,rc,T ▸ .tuples B v c he⟩;subst e;exact F rd re h0
  cases h
def Jz(d e:D)(G:DH):R D:=match UI 30 G d e with
 |some k=>.ok (.bl k) G
 |none=>.bad
def Do(d e:D)(G:DH):R D:=match UI 30 G d e with
 |some k=>.ok (.bl (!k)) G
 |none=>.bad
def P5(n:X.A.units+64<cLine):WB X (vN .Eq) (GF X.K E Jz):=by
 intro b s m H x y v u Q I g l ⟨a,G,d,e,hk,j,c,f,i,q⟩;subst j;unfold Jz at q;split at q
 .rename_i k h;exact(Qy I hk c 30 (by lia) f i g l h).2.1 _ _ _ _ ⟨.bl k,a.H,I,rfl,q a _ (.refl a) c rfl⟩
 exact q.elim
def TV(n:X.A.units+64<cLine):WB X (vN .NotEq) (GF X.K E Do):=by
 intro b s m H x y v u Q I g l ⟨a,G,d,e,hk,j,c,f,i,q⟩;subst j;unfold Do at q;split at q
 .rename_i k h;exact(Qy I hk c 30 (by lia) f i g l h).2.2 _ _ _ _ ⟨.bl (!k),a.H,I,rfl,q a _ (.refl a) c rfl⟩
 exact q.elim
end
noncomputable abbrev DG:=D->PB->DH->R PB
def Ec(E:XK)(a:Wd)(r:R PB)(Q:St->Hp->Prop):Prop:=match r with
 |.ok S G=>∀(b:Wd)(σ:St),Ext a b->XA b G->RB b S σ->Q σ b.H
 |.err x G=>SI E a x G
 |.bad=>False
noncomputable def lG(K:za)(E:XK)(t:DG):TG:=λv σ H Q=>PG3 K σ H v LB λa S G d=>Ec E a (t d S G) Q
def QG(X:Cx)(E:XK)(tg:vY)(t:DG):Prop:=PG X tg (lG X.K E t)
noncomputable abbrev LQ:=List D->PB->DH->R PB
noncomputable def lGs(K:za)(E:XK)(t:LQ):ZP:=λvs σ H Q=>PG3 K σ H vs HA λa S G ds=>Ec E a (t ds S G) Q
def WT(X:Cx)(E:XK)(tg:List vY)(t:LQ):Prop:=GQ X tg (lGs X.K E t)
noncomputable def gV(i:Nat):DG:=λd S G=>.ok (S.set i (uA d)) G
noncomputable def Bq:LQ:=λds S G=>match ds with
 |[]=>.ok S G
 |_=>.bad
def Ah(t:DG)(u:LQ):LQ:=λds S G=>match ds with
 |d::r=>(t d S G).bind λS1 G1=>u r S1 G1
 |[]=>.bad
noncomputable def Bm(n:Nat)(t:LQ):DG:=λd S G=>match d with
 |.tup ds=>if lN ds=n then t ds S G else .bad
 |_=>.bad
theorem Ec.imp(h:Ec E a r Q)(w:∀v H,Q v H->Q' v H):Ec E a r Q':=by
 cases r with
 |ok d G=>exact λb v x s q=>w _ _ (h b v x s q)
 |_=>exact h
theorem Ec.mono(x:Ext a b)(h:Ec E a r Q):Ec E b r Q:=by
 cases r with
 |ok d G=>exact λc v y s q=>h c v (x.trans y) s q
 |err e G=>exact SI.mono x h
 |bad=>exact h
theorem pR(h:Ec E a (r.bind f) Q):
  Ec E a r (λc H=>PR3 a H r c RB λb S G=>Ec E b (f S G) Q):=by
 cases r with
 |ok d G=>exact λb v x s q=>⟨b,d,G,rfl,x,s,q,rfl,Ec.mono x h⟩
 |_=>exact h
theorem Vi(h:Ec E a (r.bind f) Q):
  out E a r (λv H=>PR3 a H r v LB λb d G=>Ec E b (f d G) Q):=by
 cases r with
 |ok d G=>exact λb v x s q=>⟨b,d,G,rfl,x,s,q,rfl,Ec.mono x h⟩
 |_=>exact h
theorem bB(h:Bw E a (r.toS f) W):
  Ec E a r (λc H=>PR3 a H r c RB λb S G=>Bw E b (f S G) W):=by
 cases r with
 |ok d G=>exact λb v x s q=>⟨b,d,G,rfl,x,s,q,rfl,Bw.mono x h⟩
 |_=>exact h
section
variable{X:Cx}{E:XK}
def _root_._L.PG.mono(h:PG X e t)(w:∀v a H Q,t' v a H Q->t v a H Q):PG X e t':=λb s a H v u Q I r q=>h b s a H v u Q I r (w v a H Q q)
def _root_._L.GQ.mono(h:GQ X e t)(w:∀v a H Q,t' v a H Q->t v a H Q):GQ X e t':=λb s a H v u Q I r q=>h b s a H v u Q I r (w v a H Q q)
def bC(i:Nat){x:Str}{pos:Pos}(b:X.N.Nodup)(c:X.N[i]?=uA x:=by rfl)(g:Loc X.env.scope x:=by first|exact Or.inl rfl|exact Or.inr rfl)
  (f:X.fn x=uC\/X.env.scope.names.lookup x=uA .local:=by first|exact .inl rfl|exact .inr rfl|assumption):QG X E (.Name x pos) (gV i):=
 (kr b c g f).mono λv j H Q h=>by obtain⟨a,S,G,d,hk,rfl,s,r,q,h⟩:=h;exact h a _ (.refl a) s (r.set i q)
theorem pS:WT X E [] Bq:=ku.mono λf c H Q h=>by
 obtain⟨a,S,G,b,hk,rfl,s,r,q,h⟩:=h;cases b with
 |nil=>exact⟨q,h a c (.refl a) s r⟩
 |cons d b=>exact h.elim
theorem pT(c:QG X E e t)(n:WT X E es u)
  (l:(vD (e::es) X.env).map (·.2)=assign e X.env::(vD es X.env).map (·.2):=by rfl):WT X E (e::es) (Ah t u):=(ky c n l).mono λA z H Q h=>by
 obtain⟨a,S,G,f,hk,rfl,s,r,q,h⟩:=h;cases f with
 |nil=>exact h.elim
 |cons d f=>
  obtain⟨v,rest,j,i,p⟩:=q;refine⟨v,rest,j,a,S,G,d,hk,rfl,s,r,i,(pR h).imp ?_⟩;rintro m _ ⟨b,w,g,rfl,x,y,o,_,c⟩;exact⟨b,w,g,f,x.k.trans hk,rfl,y,o,p.mono x,c⟩
theorem pU{es:List vY}{k:Nat}{t:LQ}{n:Nat}{pos:Pos}(m:X.calm=uC)(h:WT X E es t)
  (g:(vD es X.env).length=n:=by rfl) (b:(vD es X.env).findIdx? (·.1)=uB:=by rfl):QG X E (.Tuple es k pos) (Bm n t):=(lC m h g b).mono λv o H Q h=>by
 obtain⟨a,S,G,d,hk,rfl,s,r,q,h⟩:=h;cases d with
 |tup l=>
  obtain⟨p,j,e,i,c⟩:=q;unfold Bm at h;dsimp only at h;split at h
  .rename_i f;exact⟨p,j,e,by rw[<-hk];exact i,by rw[<-c.length];exact f,a,S,G,l,hk,rfl,s,r,c,h⟩
  exact h.elim
 |_=>exact h.elim
def Fy(o i v:D)(G:DH):R D:=match o,i with
 | .ref p,.int k=>match G[p]? with
  |some (.lst xs)=>match MJ (lN xs) k with
   |some j=>.ok .KA (G.set p (.lst (xs.set j v)))
   |none=>.bad
  |_=>.bad
 |_,_=>.bad
def ON(to ti:DE):DG:=λv S G=>(to S G).bind λo G1=>(ti S G1).bind λi G2=>(Fy o i v G2).bind λ_ G3=>.ok S G3
def Qe(s:XA a G)(b:i<a.n)(h:a.H (a.m i)=uA (.lst vs))(r:HA a ds' IL):
  Ext a (a.put (a.m i) (.lst IL))/\XA (a.put (a.m i) (.lst IL)) (G.set i (.lst ds')):=⟨.wr h,s.wr b h (r.mono (.wr h))⟩
theorem pV(ho:QE X E o to)(N:QE X E i ti)
  (O:∀v,assign (.Subscript o i pos) X.env v=(do
   let ov<-holding [v] (eval o X.env);let iv<-holding [v,ov] (eval i X.env)
   standAt pos
   holding [v,ov,iv] (setItem ov iv v)
   release [v,ov,iv] []):=by intro _;rfl):QG X E (.Subscript o i pos) (ON to ti):=(aF ho N set_list O).mono λv L H Q h=>by
 obtain⟨a,S,G,d,hk,rfl,s,r,q,h⟩:=h;refine⟨a,S,G,hk,rfl,s,r,(Vi h).imp ?_⟩;rintro ov _ ⟨b,e,B,rfl,x,J,C,_,I⟩;refine⟨b,S,B,x.k.trans hk,rfl,J,r.mono x,(Vi I).imp ?_⟩;rintro iv _ ⟨c,f,U,rfl,y,w,F,_,g⟩;cases e with
 | ref p=>
  cases f with
  | int k=>
   unfold Fy at g;dsimp only at g;split at g
   .rename_i W T;split at g
    .rename_i j M;obtain⟨K,n,A⟩:=w.lst T;have l:=C.mono y;obtain⟨z,P⟩:=Qe w l.1 n (A.set ((q.mono x).mono y) j);exact⟨c.m p,K,k,j,l.2,F,n,by rw[<-A.length];exact M,g _ L z P (((r.mono x).mono y).mono z)⟩
    exact g.elim
   exact g.elim
  |_=>exact g.elim
 |_=>exact g.elim
variable{st:vA}{rest:List vA}{t u:DS}{e:vY}{te:DE}{pos:Pos}
noncomputable def PF:DS:=λS G=>.nx S G
noncomputable def Ae(t u:DS):DS:=λS G=>match t S G with
 |.nx S1 G1=>u S1 G1
 |r=>r
def JD(te:DE):DS:=λS G=>(te S G).toS λ_ G1=>.nx S G1
def YB(te:DE):DS:=λS G=>(te S G).toS λd G1=>.rt d G1
def HF(c:DB)(t u:DS):DS:=λS G=>(c S G).toS λk G1=>if k=uC then t S G1 else u S G1
def JC(te:DE)(g:DG):DS:=λS G=>(te S G).toS λd G1=>(g d S G1).toS λS2 G2=>.nx S2 G2
def Oi:UL X E [] PF:=ki.mono λW b H h=>by obtain⟨a,S,G,hk,rfl,s,r,h⟩:=h;exact h a b (.refl a) s r
def Bw.L6{E:XK}{a:Wd}{t u:DS}{S:PB}{G:DH}{K:za}(hk:a.K=K){W:Ends}(h:Bw E a (Ae t u S G) W):Bw E a (t S G) {W with nx:=lS K E u W}:=by
 unfold Ae at h
 revert h
 cases t S G<;>intro h
 .exact λb c x s r=>⟨b,_,_,x.k.trans hk,rfl,s,r,Bw.mono x h⟩
 all_goals exact h
def Bp(c:QS X E st t)(b:UL X E rest u):UL X E (st::rest) (Ae t u):=(kj c b).mono λW d H h=>by obtain⟨a,S,G,hk,rfl,s,r,h⟩:=h;exact⟨a,S,G,hk,rfl,s,r,h.L6 hk⟩
def Ho(a:QS X E st t):UL X E [st] t:=kl a
def bD(j:QE X E e te)(g:swapsWith e uB pos.line X.env=pure uD:=by rfl):QS X E (.Expr e pos) (JD te):=(kn j g).mono λW c H h=>by obtain⟨a,S,G,hk,rfl,s,r,h⟩:=h;refine⟨a,S,G,hk,rfl,s,r,(Gs h).imp ?_⟩;rintro v _ ⟨b,d,k,rfl,x,i,q,_,f⟩;exact f b c (.refl b) i (r.mono x)
def pW(g:QE X E e te):QS X E (.Return (uA e) pos) (YB te):=(ko g).mono λW j H h=>by obtain⟨a,S,G,hk,rfl,s,r,h⟩:=h;refine⟨a,S,G,hk,rfl,s,r,(Gs h).imp ?_⟩;rintro v _ ⟨b,d,i,rfl,x,f,q,_,c⟩;exact c b v (.refl b) f q
theorem Nk(l:QT X E c tc)(j:UL X E a t)(i:UL X E b u):QS X E (.If c a b pos) (HF tc t u):=(kq l j i).mono λW m H h=>by
 obtain⟨a,S,G,hk,rfl,s,r,h⟩:=h;refine⟨a,S,G,hk,rfl,s,r,(aq h).imp ?_⟩;rintro k _ ⟨b,d,rfl,x,g,_,f⟩;cases k with
 |_=>exact⟨b,S,d,x.k.trans hk,rfl,g,r.mono x,f⟩
def pX{K:za}{g:DG}{W:Ends}{i:St}{H:Hp}(h:lS K E (JC te g) W i H):Uz (lE K E te) (lG K E g) W i H:=by obtain⟨a,S,G,hk,rfl,s,r,h⟩:=h;refine⟨a,S,G,hk,rfl,s,r,(Gs h).imp ?_⟩;rintro v _ ⟨b,d,j,rfl,x,p,q,_,l⟩;refine⟨b,S,j,d,x.k.trans hk,rfl,p,r.mono x,q,(bB l).imp ?_⟩;rintro f _ ⟨c,z,w,rfl,y,n,o,_,m⟩;exact m c f (.refl c) n o
def Z4(a:QE X E e te)(d:QG X E tg g)(b:swapsWithSole [tg] e pos.line X.env=pure uD:=by rfl)(hw:swappedStores [tg] e X.env=pure uB:=by rfl)
  (c:(vD [tg] X.env).map (·.2)=[assign tg X.env]:=by rfl):QS X E (.Assign [tg] e pos) (JC te g):=(lD a d b hw c).mono λ_ _ _ h=>pX h
def Z6(i:Nat){x:Str}{c:Pos}(g:X.N.Nodup)(n:QE X E e te)(k:X.N[i]?=uA x:=by rfl)(o:Loc X.env.scope x:=by first|exact Or.inl rfl|exact Or.inr rfl)(j:swapsWith e (uA (.Name x c)) pos.line X.env=pure uD:=by rfl)
  (m:X.fn x=uC\/X.env.scope.names.lookup x=uA .local:=by first|exact .inl rfl|exact .inr rfl|assumption):QS X E (.Assign [.Name x c] e pos) (JC te (gV i)):=
 (lH g k o n j m).mono λW w H h=>by obtain⟨a,S,G,hk,rfl,s,r,h⟩:=h;refine⟨a,S,G,hk,rfl,s,r,(Gs h).imp ?_⟩;rintro v _ ⟨b,d,p,rfl,x,l,q,_,f⟩;exact f b _ (.refl b) l ((r.mono x).set i q)
def Mr:D->D->DH->R D
 |.int i,.int j,G=>.ok (.int (i+j)) G
 |.str i,.str j,G=>if i.length+j.length<=1000000 then .ok (.str (i++j)) G else .bad
 |_,_,_=>.bad
def pY:WB X (inplaceOp .Add) (GF X.K E Mr):=Fp (.or lJ mE) λa G d e x y Q hk s rd re q=>by
 cases d<;>cases e<;>first
  |exact q.elim
  |exact .inl ⟨_,_,rd,re,q a _ (.refl a) s rfl⟩
  | (
    unfold Mr at q;dsimp only at q;split at q
    .rename_i hl;exact .inr ⟨_,_,rd,re,zN hl TB,q a _ (.refl a) s rfl⟩
    exact q.elim)
def pZ:WB X (inplaceOp .Sub) (GF X.K E Jg):=Fp lK λa G d e x y Q hk s b c q=>by
 cases d<;>cases e<;>first
  |exact q.elim
  |exact⟨_,_,b,c,q a _ (.refl a) s rfl⟩
end
noncomputable def OK(r:SR)(k:PB->DH->SR)(_:Fx k:=()):SR:=match r with
 |.nx S G=>k S G
 |.ct S G=>k S G
 |.bk S G=>.nx S G
 |r=>r
def Aw(g:DG)(b:DS):List D->DS
 |[],S,G=>.nx S G
 |x::xs,S,G=>(g x S G).toS λS1 G1=>OK (b S1 G1) (Aw g b xs)
def forM(i:Nat)(g:DG)(b:DS):Nat->Nat->DS
 |0,j,S,G=>match G[i]? with
  |some (.lst xs)=>if lN xs<=j then .nx S G else .bad
  |_=>.bad
 | k+1,j,S,G=>match G[i]? with
  |some (.lst xs)=>match xs[j]? with
   |some x=>(g x S G).toS λS1 G1=>OK (b S1 G1) (forM i g b k (j+1))
   |none=>.nx S G
  |_=>.bad
def Cv(f:Nat->DH->Option (Option D))(g:DG)(b:DS):Nat->Nat->DS
 |0,j,S,G=>match f j G with
  |some uB=>.nx S G
  |_=>.bad
 |k+1,j,S,G=>match f j G with
  |some (uA x)=>(g x S G).toS λS1 G1=>OK (b S1 G1) (Cv f g b k (j+1))
  |some uB=>.nx S G
  |none=>.bad
inductive LM where
 |pure (xs:List D)
 |mt (i:Nat)
 |fn (n:Nat) (f:Nat->DH->Option (Option D))
noncomputable abbrev DI:=PB->DH->R LM
def Br(it:DI)(g:DG)(b:DS):DS:=λS G=>(it S G).toS λJ G1=>match J with
 |.pure xs=>Aw g b xs S G1
 |.mt i=>match G1[i]? with
  |some (.lst xs)=>forM i g b (lN xs) 0 S G1
  |_=>.bad
 |.fn n f=>Cv f g b n 0 S G1
def XE(a:Wd):LM->It->Prop
 |.pure xs,J=>∃vs:List V,HA a xs vs/\∀b:Wd,Ext a b->∀i,(∀v,vs[i]?=uA v->J.go i b.H/\∀x H',J.VU i b.H x H'->x=v/\H'=b.H)/\(lN vs<=i->J.stop i b.H)
 |.mt k,J=>k<a.n/\∀b:Wd,Ext a b->∀vs,b.H (b.m k)=uA (.lst vs)->∀i,(∀v,vs[i]?=uA v->J.go i b.H/\∀x H',J.VU i b.H x H'->x=v/\H'=b.H)/\(lN vs<=i->J.stop i b.H)
 |.fn _ f,J=>∀b:Wd,Ext a b->∀G,XA b G->∀i,(∀d,f i G=uA (uA d)->J.go i b.H/\∀x H',J.VU i b.H x H'->∃c:Wd,c.H=H'/\Ext b c/\XA c G/\LB c d x)/\(f i G=uA uB->J.stop i b.H)
def outI(E:XK)(a:Wd)(r:R LM)(Q:It->Hp->Prop):Prop:=match r with
 |.ok J G=>∀(b:Wd)(JJ:It),Ext a b->XA b G->XE b J JJ->Q JJ b.H
 |.err x G=>SI E a x G
 |.bad=>False
noncomputable def lI(K:za)(E:XK)(t:DI):TI:=λσ H Q=>GS K σ H λa S G=>outI E a (t S G) Q
def QI(X:Cx)(E:XK)(tg iter:vY)(t:DI):Prop:=PI X tg iter (lI X.K E t)
theorem outI.imp(h:outI E a r Q)(w:∀v H,Q v H->Q' v H):outI E a r Q':=by
 cases r with
 |ok d G=>exact λb v x s q=>w _ _ (h b v x s q)
 |_=>exact h
theorem p5(h:Bw E a (r.toS f) W):
  outI E a r (λJ H=>PR3 a H r J XE λb d G=>Bw E b (f d G) W):=by
 cases r with
 |ok d G=>exact λb v x s q=>⟨b,d,G,rfl,x,s,q,rfl,Bw.mono x h⟩
 |_=>exact h
theorem bE (h:Bw E a (OK r k) W):
  Bw E a r {W with
            nx:=λc H=>∃(b:Wd)(S:PB)(G:DH),b.H=H/\Ext a b/\XA b G/\RB b S c/\Bw E b (k S G) W,
            ct:=λc H=>∃(b:Wd)(S:PB)(G:DH),b.H=H/\Ext a b/\XA b G/\RB b S c/\Bw E b (k S G) W,bk:=W.nx}:=by
 cases r with
 |nx S G|ct S G=>exact λb c x s q=>⟨b,S,G,rfl,x,s,q,Bw.mono x h⟩
 |_=>exact h
noncomputable def WO(i j:Nat)(G:DH):Option (Option D):=match G[i]? with
 |some (.lst xs)=>uA xs[j]?
 |_=>uB
def bF(r:XE a (.pure xs) J):XE a (.fn n λj _=>uA xs[j]?) J:=by
 obtain⟨p,c,h⟩:=r;refine λb x G o i=>⟨λd e=>?_,λe=>((h b x i).2 (by rw[<-c.length];exact jI.mp (Option.some.inj e)))⟩
 .obtain⟨v,l,q⟩:=c.get (Option.some.inj e);obtain⟨g,k⟩:=(h b x i).1 v l;refine⟨g,λy f m=>?_⟩;obtain⟨rfl,rfl⟩:=k y f m;exact⟨b,rfl,.refl b,o,q.mono x⟩
theorem bG(r:XE a (.mt k) J):XE a (.fn n (WO k)) J:=by
 obtain⟨hk,h⟩:=r;refine λb x G j i=>?_
 unfold WO;cases t:G[k]? with
 |none=>exact⟨λd e=>(by cases e),λe=>(by cases e)⟩
 | some o=>
  cases o with
  |lst w=>
   obtain⟨f,c,g⟩:=j.lst t;refine⟨λd e=>?_,λe=>((h b x f c i).2 (by rw[<-g.length];exact jI.mp (Option.some.inj e)))⟩
   .obtain⟨v,s,q⟩:=g.get (Option.some.inj e);obtain⟨m,p⟩:=(h b x f c i).1 v s;refine⟨m,λy l u=>?_⟩;obtain⟨rfl,rfl⟩:=p y l u;exact⟨b,rfl,.refl b,j,q⟩
  |_=>exact⟨λd e=>(by cases e),λe=>(by cases e)⟩
theorem bH{g:DG}{b:DS}{xs:List D}:∀(n j:Nat),j+n=lN xs->Aw g b (xs.drop j)=Cv (λj _=>uA xs[j]?) g b n j
 |0,j,h=>by
  funext S G;rw[qL (by lia)]
  show SR.nx S G=(match uA xs[j]? with |some uB=>.nx S G|_=>.bad)
  rw[zM (by lia)]
 |n+1,j,h=>by
  funext S G;have d:j<lN xs:=by lia
  rw[zU d]
  show(g xs[j] S G).toS (λa c=>OK (b a c) (Aw g b (xs.drop (j+1))))=(match uA xs[j]? with |some (uA x)=>(g x S G).toS (λa c=>OK (b a c) (Cv (λj _=>uA xs[j]?) g b n (j+1)))|some uB=>.nx S G|none=>.bad)
  rw[zZ d,bH n (j+1) (by lia)]
theorem bI:∀(n j:Nat),forM i g b n j=Cv (WO i) g b n j
 | 0,j=>by
  funext S G;unfold forM Cv WO;cases G[i]? with
  |none=>rfl
  | some o=>
   cases o with
   |lst a=>
    dsimp only;by_cases c:j<lN a
    .rw[if_neg (by lia),zZ c]
    rw[if_pos (by lia),zM (by lia)]
   |_=>rfl
 | n+1,j=>by
  funext S G;unfold forM Cv;rw[bI n (j+1)];unfold WO;cases G[i]? with
  |none=>rfl
  | some o=>
   cases o with
   |lst a=>
    dsimp only
    cases a[j]?<;>rfl
   |_=>rfl
section
variable{X:Cx}{E:XK}{tg iter:vY}{pos:Pos}
theorem p7{K:za}{it:DI}{g:DG}{b:DS}{W:Ends}{N:St}{H:Hp}(h:lS K E (Br it g b) W N H):WU (lI K E it) (lG K E g) (lS K E b) W N H:=by
 obtain⟨a,S,G,hk,rfl,s,r,h⟩:=h;refine⟨a,S,G,hk,rfl,s,r,(p5 h).imp ?_⟩;rintro J _ ⟨t,d,O,rfl,x1,s1,u,_,l⟩;have k1:=x1.k.trans hk
 suffices fnc:∃n f,XE t (.fn n f) J/\Bw E t (Cv f g b n 0 S O) W by
  obtain⟨n,f,u,l⟩:=fnc;have walk:=u;refine⟨λi m N H=>∃(c:Wd)(S:PB)(G:DH),c.H=H/\Ext t c/\XA c G/\RB c S N/\Bw E c (Cv f g b m i S G) W,⟨_,t,S,O,rfl,.refl _,s1,r.mono x1,l⟩,?_⟩;rintro i m C _ ⟨c,S2,F,rfl,p,x,Q,j⟩;cases m with
  |zero=>
   unfold Cv at j;split at j
   .rename_i v;exact .inl ⟨(walk c p F x i).2 v,j c C (.refl c) x Q⟩
   exact j.elim
  | succ m=>
   unfold Cv at j;split at j
   .rename_i d v;obtain⟨go,yl⟩:=(walk c p F x i).1 d v;refine .inr ⟨go,λB M=>∃(c:Wd)(S:PB)(G:DH),c.H=M/\Ext t c/\XA c G/\RB c S B/\Bw E c (Cv f g b m (i+1) S G) W,λB M z=>⟨m,qC _,z⟩,λw M y=>?_⟩;obtain⟨cc,rfl,q,ss,rd⟩:=yl w M y;refine⟨cc,S2,F,d,q.k.trans (p.k.trans k1),rfl,ss,Q.mono q,rd,(bB (Bw.mono q j)).imp ?_⟩;rintro σ3 _ ⟨c3,S3,G3,rfl,x3,s3,r3,_,h3⟩;have e:=bE h3;refine⟨c3,S3,G3,x3.k.trans (q.k.trans (p.k.trans k1)),rfl,s3,r3,?_⟩
    revert e
    cases b S3 G3 with
    | nx L I|ct L I=>
      intro e U o x4 P Y;obtain⟨Z,S5,G5,hh,x5,s5,r5,T⟩:=e U o x4 P Y;exact⟨Z,S5,G5,hh,p.trans (q.trans (x3.trans x5)),s5,r5,T⟩
    |_=>exact λe=>e
   .rename_i v;exact .inl ⟨(walk c p F x i).2 v,j c C (.refl c) x Q⟩
   exact j.elim
 cases d with
 |pure xs=>
  have A:Bw E t (Aw g b (xs.drop 0) S O) W:=l;rw[bH (lN xs) 0 (by lia)]at A;exact⟨_,_,bF u,A⟩
 |mt k=>
  dsimp only at l;split at l
  .rw[bI]at l;exact⟨_,_,bG u,l⟩
  exact l.elim
 |fn n f=>exact⟨n,f,u,l⟩
def Jp(hp:PassesOwn (vT X.prog X.w) X.A X.env X.xe)(f:X.calm=uC)(d:QI X E tg iter it)(a:QG X E tg g)(e:UL X E body b)
  (c:∀x,foldedSetIterable iter X.env x=pure x:=by intro _;rfl):QS X E (.For tg iter body [] pos) (Br it g b):=(lX hp f d a e c).mono λ_ _ _ h=>p7 h
def _root_._L.PI.mono(h:PI X tg iter t)(w:∀a H Q,t' a H Q->t a H Q):PI X tg iter t':=λb s a H Q I q=>h b s a H Q I (w a H Q q)
noncomputable def sgn(c:Nat):D:=.str ⟨#[c]⟩
def signs(x:Str):List D:=x.cps.toList.map sgn
noncomputable def P6(x:Str):It:=⟨λi _=>i<x.cps.size,λi H v H'=>H'=H/\∃c,x.cps[i]?=uA c/\v=.str ⟨#[c]⟩,λi _=>x.cps.size<=i⟩
def p8{P:vj}{w:vC}{K:za}{tg:vY}(it:vW)(x:Str)(t:Tok):Turn P w K tg (P6 x) [it] it (λi h=>h.IsStrIter it "str_ascii_iterator" x t i) where
 mem:=by simp
 obj:=λi h a b f=>by
  have e:b=it:=by simpa using f
  subst e;obtain⟨o,e,c,d⟩:=a;exact⟨o,e,λv z=>by rw[d]at z;cases z⟩
 keep:=λi h J a k=>let⟨o,N,r⟩:=a;⟨o,k it (by simp) o N,r⟩
 item:=by
  intro X n hw y F i j s O H E I l a u;subst n hw y;obtain⟨B,p,L,A,q,C⟩:=l it (by simp);have m:i<x.cps.size:=u;refine wpAny_pyNext_ascii_item a (c:=x.cps[i]) (by simp[m]) λJ g Q=>?_
  obtain⟨o,e,c,d⟩:=id g;exact⟨_,rfl,Jy e c d (by decide) ⟨.str ⟨#[x.cps[i]]⟩,H,I.turned (λb o f e=>(Q.2 b f).trans e) B p A q C,⟨_,rfl⟩,⟨rfl,_,by simp[m],rfl⟩,g,λb f=>(l b f).1⟩⟩
 done:=by intro X n hw y F i j s O H E I l a u;subst n hw y;obtain⟨B,p,L,A,q,C⟩:=l it (by simp);have m:x.cps.size<=i:=u;exact wpAny_pyNext_ascii_end (I.ok.hd F) a (by simp[m]) λJ M=>⟨rfl,I.turned (λb o f e=>M b o f e) B p A q C⟩
 self:=λ_ _ _ _ _ a h=>wpAny_pyIter_striter_ascii a h
def p9{P:vj}{w:vC}{K:za}{tg:vY}(it:vW)(x:Str)(t:Tok):Turn P w K tg (P6 x) [it] it (λi h=>h.IsStrIter it "str_iterator" x t i) where
 mem:=by simp
 obj:=λi h a b f=>by
  have e:b=it:=by simpa using f
  subst e;obtain⟨o,e,c,d⟩:=a;exact⟨o,e,λv z=>by rw[d]at z;cases z⟩
 keep:=λi h J a k=>let⟨o,N,r⟩:=a;⟨o,k it (by simp) o N,r⟩
 item:=by
  intro X n hw y F i j s O H E I l a u;subst n hw y;obtain⟨B,p,L,A,q,C⟩:=l it (by simp);have m:i<x.cps.size:=u;refine wpAny_pyNext_wide_item a (c:=x.cps[i]) (by simp[m]) λJ g Q=>?_
  obtain⟨o,e,c,d⟩:=id g;exact⟨_,rfl,Jy e c d (by decide) ⟨.str ⟨#[x.cps[i]]⟩,H,I.turned (λb o f e=>(Q.2 b f).trans e) B p A q C,⟨_,rfl⟩,⟨rfl,_,by simp[m],rfl⟩,g,λb f=>(l b f).1⟩⟩
 done:=by intro X n hw y F i j s O H E I l a u;subst n hw y;obtain⟨B,p,L,A,q,C⟩:=l it (by simp);have m:x.cps.size<=i:=u;exact wpAny_pyNext_wide_end (I.ok.hd F) a (by simp[m]) λJ M=>⟨rfl,I.turned (λb o f e=>M b o f e) B p A q C⟩
 self:=λ_ _ _ _ _ a h=>wpAny_pyIter_striter_wide a h
def L7(tl:TE):TI:=λσ H R=>tl σ H λx H1=>∃z,x=.str z/\R (P6 z) H1
def pd{l:vY}{g:TE}(m:PE X l g):PI X tg l (L7 g):=by
 intro a s n H R I h;refine YA (m a s n H _ I h) λv c zz=>?_
 obtain⟨x,f,d,r,k⟩:=zz;obtain⟨z,e,q⟩:=k;subst e;obtain⟨t,rfl⟩:=r;have j:∀b∈[c.heap.objs.size],PD X a f b:=λb p=>by
  have e:b=c.heap.objs.size:=by simpa using p
  subst e;exact d.Hj (zx _) (d.SA.fresh (zx _))
 cases i:z.cps.all (· < 128)
 .exact wpAny_pyIter_wide i (⟨c.heap.objs.size,[c.heap.objs.size],_,_,f,rfl,d.kept λb o e=>zJ _ e,p9 _ z t,⟨_,zA _ rfl,rfl,rfl⟩,j,q⟩)
 .exact wpAny_pyIter_ascii i (⟨c.heap.objs.size,[c.heap.objs.size],_,_,f,rfl,d.kept λb o e=>zJ _ e,p8 _ z t,⟨_,zA _ rfl,rfl,rfl⟩,j,q⟩)
theorem HA.signs(x:Str):HA a (signs x) (x.cps.toList.map λc=>V.str ⟨#[c]⟩):=by
 unfold _D.signs
 induction x.cps.toList with
 |nil=>exact rfl
 |cons c r b=>exact⟨_,_,rfl,rfl,b⟩
def Ed:D->DH->R LM
 |.tup xs,G=>.ok (.pure xs) G
 |.str x,G=>.ok (.pure (signs x)) G
 |.fl xs,G=>.ok (.pure xs) G
 |.ref i,G=>match G[i]? with
  |some (.lst _)=>.ok (.mt i) G
  |_=>.bad
 |_,_=>.bad
def Dg(te:DE):DI:=λS G=>(te S G).bind Ed
theorem ph(C:QE X E iter te):QI X E tg iter (Dg te):=by
 intro f s M H R I h;obtain⟨a,S,G,hk,rfl,N,r,h⟩:=h;cases u:te S G with
 |bad=>
  have j:outI E a ((te S G).bind Ed) R:=h;rw[u]at j;exact j.elim
 |err e W=>
  have j:outI E a ((te S G).bind Ed) R:=h;rw[u]at j;refine Vf C f s M a.H R I ⟨a,S,G,hk,rfl,N,r,?_⟩;rw[u];exact j
 | ok d W=>
  have j:outI E a ((te S G).bind Ed) R:=h;rw[u]at j;cases d with
  |tup Z=>
   refine lT C f s M a.H R I ⟨a,S,G,hk,rfl,N,r,?_⟩;rw[u];rintro b v x t ⟨p,g,rfl,n,J⟩;have A:VE X.K b.H p g:=by rw[<-hk,<-x.k];exact n
   refine⟨p,rfl,⟨g,A⟩,j b _ x t ⟨g,J,λc y i=>⟨λv l=>⟨⟨g,v,?_,l⟩,λw P z=>?_⟩,λo=>⟨g,?_,o⟩⟩⟩⟩
   .have:=y.IQ n;rw[y.k,x.k,hk]at this;exact this
   .have:=y.IQ n;rw[y.k,x.k,hk]at this;exact⟨Option.some.inj ((z.2 g this).symm.trans l),z.1⟩
   have:=y.IQ n;rw[y.k,x.k,hk]at this;exact this
  |fl Z=>
   refine Vf C f s M a.H R I ⟨a,S,G,hk,rfl,N,r,?_⟩;rw[u];rintro b v x t ⟨p,g,rfl,n,J⟩;have A:OE X.K b.H p g:=by rw[<-hk,<-x.k];exact n.sq
   refine⟨p,rfl,⟨g,A⟩,j b _ x t ⟨g,J,λc y i=>⟨λv l=>⟨⟨g,v,?_,l⟩,λw P z=>?_⟩,λo=>⟨g,?_,o⟩⟩⟩⟩
   .have:=(y.JQ n).sq;rw[y.k,x.k,hk]at this;exact this
   .have:=(y.JQ n).sq;rw[y.k,x.k,hk]at this;exact⟨Option.some.inj ((z.2 g this).symm.trans l),z.1⟩
   have:=(y.JQ n).sq;rw[y.k,x.k,hk]at this;exact this
  |ref k=>
   have B:outI E a (Ed (.ref k) W) R:=j;unfold Ed at B;dsimp only at B;split at B
   .rename_i Z U;refine Vf C f s M a.H R I ⟨a,S,G,hk,rfl,N,r,?_⟩;rw[u];rintro b v x t ⟨F,rfl⟩;obtain⟨g,U,_⟩:=t.lst U;refine⟨b.m k,rfl,⟨g,.of U⟩,B b _ x t ⟨F,λc y T O i=>?_⟩⟩;rw[y.m k F]at O;exact⟨λv l=>⟨⟨T,v,.of O,l⟩,λw P z=>⟨Option.some.inj ((z.2 T (.of O)).symm.trans l),z.1⟩⟩,λo=>⟨T,.of O,o⟩⟩
   exact B.elim
  | str z=>
   refine pd C f s M a.H R I ⟨a,S,G,hk,rfl,N,r,?_⟩;rw[u];intro b v x t J;cases(J);refine⟨z,rfl,j b _ x t ⟨_,.signs z,λc y i=>⟨λv l=>?_,λo=>?_⟩⟩⟩
   .rw[zv,qX]at l;obtain⟨k,Q,rfl⟩:=l;have L:z.cps[i]?=uA k:=by rw[<-jF];exact Q
    refine⟨(Array.getElem?_eq_some_iff.mp L).1,λw P q=>?_⟩;obtain⟨e1,k',Y,e3⟩:=q;rw[L]at Y;cases Y;exact⟨e3,e1⟩
   rw[zq,jV]at o;exact o
  |_=>exact j.elim
end
noncomputable def An(lo:Int)(n:Nat):List D:=(zW n).map λ(k:Nat)=>D.int (lo+(k:Int))
def inR(j:Int):Prop:= -(2^62)<=j/\j<2^62
noncomputable instance (j:Int):Decidable (inR j):=by unfold inR;infer_instance
def HC(ds:List D)(G:DH):R LM:=match ds with
 |[.int j]=>if inR j then .ok (.pure (An 0 j.toNat)) G else .bad
 |_=>.bad
def Bb(f:List D->DH->R LM)(ta:DA):DI:=λS G=>(ta S G).bind f
def VI(c:DB)(b:DS):Nat->DS
 |0,_,_=>.bad
 |n+1,S,G=>(c S G).toS λk G1=>if k=uC then OK (b S G1) (VI c b n)else .nx S G1
def Ax(np nl:Nat)(b:DS):List D->DH->R D:=λds G=>if lN ds=np then tidy G (match b (ds.map uA++zQ nl uB) G with
 |.nx _ G'=>.ok .KA G'
 |.rt d G'=>.ok d G'
 |.err x G'=>.err x G'
 |_=>.bad)else .bad
theorem outI.mono(x:Ext a b)(h:outI E a r Q):outI E b r Q:=by
 cases r with
 |ok d G=>exact λc v y s q=>h c v (x.trans y) s q
 |err e G=>exact SI.mono x h
 |bad=>exact h
theorem Pg(h:outI E a (r.bind f) Q):
  Ce E a r (λvs H=>PR3 a H r vs HA λb c G=>outI E b (f c G) Q):=by
 cases r with
 |ok d G=>exact λb v x s q=>⟨b,d,G,rfl,x,s,q,rfl,outI.mono x h⟩
 |_=>exact h
section
variable{X:Cx}{E:XK}{tg iter:vY}{pos:Pos}
def pj(e:Int)(n:Nat):XE a (.pure (An e n)) (PX e n):=by
 refine⟨(zW n).map λ(k:Nat)=>V.int (e+(k:Int)),?_,λb x i=>⟨λv c=>?_,λf=>?_⟩⟩
 .unfold An;generalize zW n=l
  induction l with
  |nil=>exact rfl
  |cons k l g=>exact⟨_,_,rfl,rfl,g⟩
 .rw[zv]at c;by_cases d:i<n
  .rw[qF d]at c;exact⟨d,λw h y=>⟨y.2.trans (by simpa using c),y.1⟩⟩
  rw[zM (by simpa using d)]at c;cases c
 show n<=i;simpa using f
def pk{p pos:Pos}(i:Gl X "range")(m:X.mg "range"=uB)(l:QA X E [e] ta)(k:wW [e] X.env=[(uD,eval e X.env)]:=by rfl):QI X E tg (.Call (.Name "range" p) [e] [] pos) (Bb HC ta):=
 (lW i m l k).mono λu H Q h=>by
  obtain⟨a,S,G,hk,rfl,s,r,h⟩:=h;refine⟨a,S,G,hk,rfl,s,r,(Pg h).imp ?_⟩;rintro w _ ⟨b,y,t,rfl,x,o,q,-,c⟩;unfold HC at c;split at c
  .rename_i j;split at c
   .rename_i d;obtain⟨v,r,g,f,n⟩:=q;cases(f);cases(n);exact⟨j,g,d.1,d.2,c b _ (.refl b) o (pj 0 j.toNat)⟩
   exact c.elim
  exact c.elim
theorem pq(n:Nat)(hp:PassesOwn (vT X.prog X.w) X.A X.env X.xe)(hc:QT X E c tc)(Z:UL X E body tb):QS X E (.While c body [] pos) (VI tc tb n):=(lM hp hc Z).mono λW Q H h=>by
 obtain⟨a,S,G,hk,rfl,s,r,h⟩:=h;refine⟨λm Q H=>∃(b:Wd)(S:PB)(G:DH),b.H=H/\Ext a b/\XA b G/\RB b S Q/\Bw E b (VI tc tb m S G) W,⟨n,a,S,G,rfl,.refl a,s,r,h⟩,?_⟩;rintro m J _ ⟨b,v,Y,rfl,l,s2,p,N⟩;cases m with
 |zero=>exact N.elim
 | succ m=>
  refine⟨b,v,Y,l.k.trans hk,rfl,s2,p,(aq N).imp ?_⟩;rintro k _ ⟨L,O,rfl,f,U,_,T⟩;cases k with
  |false=>exact T L J (.refl L) U (p.mono f)
  | true=>
   refine⟨λg P=>∃(b:Wd)(S:PB)(G:DH),b.H=P/\Ext a b/\XA b G/\RB b S g/\Bw E b (VI tc tb m S G) W,λg P z=>⟨m,qC _,z⟩,L,v,O,f.k.trans (l.k.trans hk),rfl,U,p.mono f,?_⟩;have d:=bE T
   revert d
   cases tb v O with
   |nx j i|ct j i=>
    intro d u e B o y;obtain⟨t,I,M,C,K,x,F,q⟩:=d u e B o y;exact⟨t,I,M,C,l.trans (f.trans K),x,F,q⟩
   |_=>exact λd=>d
end
def px(r:HA a ds vs)(n m:Nat)(h:n=m):RB a (ds.map uA++zQ n uB) (vs.map uA++zQ m uB):=by
 subst h;refine⟨by simp[r.length],λi d b=>?_⟩;by_cases c:i<ds.length
 .rw[zC (by simpa using c),zv]at b;cases e:ds[i]? with
  |none=>rw[e]at b;cases b
  |some j=>
   rw[e]at b;have f:j=d:=by simpa using b
   subst f;obtain⟨v,g,q⟩:=r.get e;exact⟨v,by rw[zC (by rw[zq,<-r.length];exact c),zv,g];rfl,q⟩
 rw[zO (by simpa using c),qP]at b
 split at b<;>cases b
def Yg{K:za}{p:List Str}{n:Nat}{b:DS}{v:List V}{H:Hp}{Q:VK}{E:XK}(h:A' K (Ax p.length n b) v H Q E):v.length=p.length:=by
 obtain⟨a,G,q,hk,rfl,t,r,h⟩:=h;unfold Ax at h;split at h
 .rename_i l;rw[<-r.length];exact l
 exact h.elim
def bJ{K:za}{N p:List Str}{b:DS}{v:List V}{H:Hp}{Q:VK}{E:XK}(h:A' K (Ax (lN p) (lN N-lN p) b) v H Q E):lS K E b {nx:=λ_=>Q .KA,rt:=Q} (start N v) H:=by
 have l:=Yg h;obtain⟨a,G,q,hk,rfl,t,r,h⟩:=h;unfold Ax at h;split at h
 .have g:=au t h;refine⟨a,q.map uA++zQ (lN N-lN p) uB,G,hk,rfl,t,px r _ _ (by rw[l]),?_⟩
  revert g
  cases b (q.map uA++zQ (lN N-lN p) uB) G with
  |nx v o=>exact λg c C x B _=>g c .KA x B rfl
  |bk v o|ct v o=>exact λg=>g.elim
  |_=>exact id
 exact h.elim
def Hb{P:vj}{w:vC}{K:za}{u:Str->Option vB}{j:Heap}{x qual:Str}{st:vA}{f:vW}{y:vq}{N ps:List Str}{k:Nat}{b:DS}(F:TL K x qual st f y)(S:KC N ps (Bs st))
  (m:∀(i:vB)(A:vK)(outer:List Env)(s:vk)(H:Hp)(E:XK),GB k (A.deeper (envOfC qual (Bs st) s.heap.objs.size f i))->UL (Kl MK P w K u j N qual (Bs st) f i A outer s H E).TR E0 (Eg st) b):
  ID P w K u j MK (k+1) f y ps (lF K (Ax (lN ps) (lN N-lN ps) b)):=by
 exact F.ok S (λ_ _ _ _=>Yg) λi A o s H n Q E z h=>⟨_,m i A o s H E z,bJ h⟩
theorem Jo(s:XA a G)(r:LB a d x)(h:Bk d G=uA xs):∃p vs,x=.ref p/\(OE a.K a.H p vs\/VE a.K a.H p vs)/\HA a xs vs:=by
 cases d with
 |tup c=>
  have e:=Option.some.inj h;subst e;obtain⟨p,vs,e,q,b⟩:=r;exact⟨p,vs,e,.inr q,b⟩
 |fl c=>
  have e:=Option.some.inj h;subst e;obtain⟨p,vs,e,q,b⟩:=r;exact⟨p,vs,e,.inl q.sq,b⟩
 |ref i=>
  unfold Bk at h;dsimp only at h;split at h
  .rename_i c j;have e:=Option.some.inj h;subst e;obtain⟨vs,g,k⟩:=s.lst j;exact⟨a.m i,vs,r.2,.inl (.of g),k⟩
  cases h
 |_=>cases h
def Af (d e:D) (G:DH):R D:=match e with
 | .int i=>match d with
  | .str z=>if z.length<=1000000 then(match NC z.cps.toList i with
    |some c=>.ok (.str ⟨#[c]⟩) G
    |none=>.bad)else .bad
  | d=>match Bk d G with
   |some xs=>match NC xs i with
    |some v=>.ok v G
    |none=>.bad
   |none=>.bad
 |_=>.bad
theorem bK(r:HA a xs vs)(h:NC xs i=uA d):∃v,NC vs i=uA v/\LB a d v:=by
 unfold NC at h⊢;rw[<-r.length];cases e:MJ xs.length i with
 |none=>rw[e]at h;cases h
 |some j=>
  rw[e]at h;obtain⟨v,b,q⟩:=r.get (h);exact⟨v,b,q⟩
section
variable{X:Cx}{E:XK}
def _root_._L.NJ.mono(h:NJ X r)(w:∀x y H Q,r' x y H Q->r x y H Q):NJ X r':=λa b c s d H x y v u Q I i j q g=>h a b c s d H x y v u Q I i j (w _ _ _ _ q) g
def _root_._L.OB.mono(h:OB X f r)(w:∀xs H Q,r' xs H Q->r xs H Q):OB X f r':=λa s b H xs c Q I d q=>h a s b H xs c Q I d (w _ _ _ q)
def _root_._L.LK.mono{id:String}{r b:V->List V->Hp->VK->Prop}(h:LK X id r)(w:∀x xs H Q,b x xs H Q->r x xs H Q):LK X id b:=λa s c H x xs v d Q I i g q=>h a s c H x xs v d Q I i g (w _ _ _ _ q)
theorem P7:NJ X (GF X.K E Af):=nM.mono λx y H Q h=>by
 obtain⟨a,G,d,e,hk,rfl,s,r,m,q⟩:=h;cases e with
 | int i=>
  have n:∀{k:List D},Bk d G=uA k->out E a (match NC k i with |some v=>.ok v G|none=>.bad) Q->X1 X.K x y a.H Q:=λ{k}l q=>by
   obtain⟨p,B,w,g,I⟩:=Jo s r l;rw[hk]at g;split at q
   .rename_i v J;obtain⟨u,A,F⟩:=bK I J;have z:=q a u (.refl a) s F;rcases g with g|g
    .exact .inl ⟨p,B,i,u,w,m,g,A,z⟩
    exact .inr (.inl ⟨p,B,i,u,w,m,g,A,z⟩)
   exact q.elim
  have b:out E a (match Bk d G with |some k=>(match NC k i with |some v=>.ok v G|none=>.bad)|none=>.bad) Q->X1 X.K x y a.H Q:=λq=>by
   cases l:Bk d G with
   |none=>rw[l]at q;exact q.elim
   |some k=>rw[l]at q;exact n l q
  cases d with
  | str z=>
   unfold Af at q;dsimp only at q;split at q
   .rename_i C;split at q
    .rename_i c L;exact .inr (.inr ⟨z,i,c,r,m,zN C TB,L,q a _ (.refl a) s rfl⟩)
    exact q.elim
   exact q.elim
  |tup M|fl M|ref j|_=>exact b q
 |_=>exact q.elim
def Aq(ds:List D)(G:DH):R D:=match ds with
 |[.str z]=>if z.length<=1000000 then .ok (.int z.length) G else .bad
 |[d]=>match Bk d G with
  |some xs=>.ok (.int xs.length) G
  |none=>.bad
 |_=>.bad
def KD(r:HA a [d] vs):∃v,vs=[v]/\LB a d v:=by obtain⟨v,b,e,q,z⟩:=r;cases(z);exact⟨v,e,q⟩
def MQ(r:HA a [d,d'] vs):∃v b,vs=[v,b]/\LB a d v/\LB a d' b:=by obtain⟨v,h,e,q,z⟩:=r;obtain⟨b,g,c⟩:=KD z;subst g;exact⟨v,b,e,q,c⟩
def pz:OB X (.builtin "len") (JM X.K E Aq):=(nV.or nW).mono λl H Q h=>by
 obtain⟨a,G,m,hk,rfl,s,r,q⟩:=h;unfold Aq at q;split at q
 .rename_i z;split at q
  .rename_i g;obtain⟨v,rfl,b⟩:=KD r;cases(b);exact .inr ⟨z,rfl,zN g TB,q a _ (.refl a) s rfl⟩
  exact q.elim
 .rename_i d _;split at q
  .rename_i n j;obtain⟨v,rfl,b⟩:=KD r;obtain⟨p,i,rfl,c,k⟩:=Jo s b j;rw[hk]at c;exact .inl ⟨p,i,rfl,c,q a _ (.refl a) s (by rw[<-k.length];exact rfl)⟩
  exact q.elim
 exact q.elim
def Dh(ds:List D)(G:DH):R D:=match ds with
 |[d]=>match Bk d G with
  |some xs=>.ok (.tup xs) G
  |none=>.bad
 |_=>.bad
def ql:OB X (.type "tuple") (JM X.K E Dh):=nY.mono λm H Q h=>by
 obtain⟨a,G,n,hk,rfl,s,r,q⟩:=h;unfold Dh at q;split at q
 .rename_i d;split at q
  .rename_i u j;obtain⟨v,rfl,k⟩:=KD r;obtain⟨p,c,rfl,b,g⟩:=Jo s k j;refine⟨p,c,rfl,?_⟩;rcases b with b|b
   .exact .inl ⟨by rw[<-hk];exact b,λl i=>Xe s g q l i⟩
   exact .inr ⟨by rw[<-hk];exact b,q a _ (.refl a) s ⟨p,c,rfl,b,g⟩⟩
  exact q.elim
 exact q.elim
def Fq(ds:List D)(G:DH):R D:=match ds with
 |[.str z]=>if z.length<=1000000 then .ok (.ref G.length) (G++[.lst (signs z)])else .bad
 |[d]=>match Bk d G with
  |some xs=>.ok (.ref G.length) (G++[.lst xs])
  |none=>.bad
 |_=>.bad
theorem Wi:∀{vs:List V}{us:List vB},lN vs=lN us->(∀(i:Nat)(v:V)(u:vB),vs[i]?=uA v->us[i]?=uA u->RelV v u)->Vals vs us
 |[],[],_,_=>.nil
 |[],_::_,h,_|_::_,[],h,_=>by cases h
 |v::vs,u::us,h,f=>.cons (f 0 v u rfl rfl) (Wi (by simpa using h) λi a d c b=>f (i+1) a d (by simpa using c) (by simpa using b))
def qm(x:X.calm=uC):OB X (.type "list") (λxs H Q=>∃z:Str,xs=[.str z]/\z.length<=sizeLine/\∀l,H l=uB->Q (.ref l) (upd H l (.lst (z.cps.toList.map λc=>V.str ⟨#[c]⟩)))):=by
 intro j s A H xs B Q I r h;obtain⟨z,rfl,m,q⟩:=h;obtain⟨u,rfl,t,rfl⟩:=vals1 r;refine PySem.call_list_str (I.ok.hd x) z t (λJ C b c hk p a=>?_) m;refine⟨.ref s.heap.objs.size,upd H s.heap.objs.size (.lst (z.cps.toList.map λc=>V.str ⟨#[c]⟩)),I.laid hk (zx _) ?_,rfl,q _ (I.SA.fresh (zx _))⟩;refine⟨by rw[zq,jV];exact m,b.toList,c,Wi ?_ λi v u d n=>?_,by simpa using p⟩
 .rw[zq,jV,jV];exact a.1.symm
 rw[zv,qX]at d;obtain⟨k,g,rfl⟩:=d;obtain⟨F,w,y,rfl⟩:=a.2 i u (by rw[<-jF];exact n);rw[jF,y]at g;cases g;exact⟨w,rfl⟩
def qo(m:X.calm=uC):OB X (.type "list") (JM X.K E Fq):=(nX.or (qm m)).mono λn H Q h=>by
 obtain⟨a,G,u,hk,rfl,s,r,q⟩:=h;unfold Fq at q;split at q
 .rename_i z;split at q
  .rename_i b;obtain⟨v,rfl,c⟩:=KD r;cases(c);exact .inr ⟨z,rfl,zN b TB,λl b=>J8 s (.signs z) q l b⟩
  exact q.elim
 .rename_i d _;split at q
  .rename_i w j;obtain⟨v,rfl,c⟩:=KD r;obtain⟨p,i,rfl,g,k⟩:=Jo s c j;exact .inl ⟨p,i,rfl,by rw[<-hk];exact g,λl b=>J8 s k q l b⟩
  exact q.elim
 exact q.elim
noncomputable def Ji(ds:List D)(G:DH):R D:=match ds with
 |[.int i,.int j]=>.ok (.int (if j<i then j else i)) G
 |_=>.bad
def qp(d:X.calm=uC):OB X (.builtin "min") (JM X.K E Ji):=(mF d).mono λg H Q h=>by
 obtain⟨a,G,i,hk,rfl,s,r,q⟩:=h;unfold Ji at q;split at q
 .obtain⟨v,j,rfl,b,c⟩:=MQ r;cases(b);cases(c);exact⟨_,_,rfl,q a _ (.refl a) s rfl⟩
 exact q.elim
noncomputable def Cd(o:D)(ds:List D)(G:DH):R D:=match o,ds with
 |.ref i,[d]=>match G[i]? with
  |some (.lst xs)=>if lN xs<1000000 then .ok .KA (G.set i (.lst (xs++[d])))else .bad
  |_=>.bad
 |_,_=>.bad
def XT(K:za)(E:XK)(f:D->List D->DH->R D):V->List V->Hp->VK->Prop:=λx xs H Q=>PD3 K H x xs LB HA λa G d ds=>out E a (f d ds G) Q
def XA.isList(s:XA a G)(h:G[i]?=uA (.lst xs)):∃vs,OE a.K a.H (a.m i) vs:=let⟨vs,e,_⟩:=s.lst h;⟨vs,.of e⟩
def qr:LK X "list.append" (XT X.K E Cd):=n9.mono λx y H Q h=>by
 obtain⟨a,G,d,w,hk,rfl,s,b,r,q⟩:=h;unfold Cd at q;split at q
 .rename_i i d;obtain⟨v,rfl,p⟩:=KD r;split at q
  .rename_i z k;split at q
   .rename_i j;obtain⟨l,c,g⟩:=s.lst k;obtain⟨n,u⟩:=Qe s b.1 c (g.append (.cons p HA.nil));exact⟨a.m i,l,v,b.2,rfl,c,by rw[<-g.length];exact zj j TB,q _ .KA n u rfl⟩
   exact q.elim
  exact q.elim
 exact q.elim
variable{o e:vY}{es:List vY}{to:DE}{t:DA}{name:Str}{apos NB:Pos}{T id:String}{f:D->List D->DH->R D}
noncomputable def PN(d:D)(G:DH):Bool:=match d with
 |.ref i=>match G[i]? with
  |some (.lst _)=>uC
  |_=>uD
 |.fl _=>uC
 |_=>uD
def Cj(f:D->List D->DH->R D)(o:DE)(t:DA):DE:=λS G=>(o S G).bind λx G1=>if PN x G1=uC then(t S G1).bind λxs G2=>f x xs G2 else .bad
theorem bL(s:XA a G)(r:LB a d x)(h:PN d G=uC):TX a.K "list" x a.H:=by
 cases d with
 |ref i=>
  unfold PN at h;dsimp only at h;split at h
  .rename_i b g;cases r.2;exact .inl ⟨rfl,s.isList g⟩
  cases h
 |fl b=>
  obtain⟨p,c,rfl,q,_⟩:=r;exact .inl ⟨rfl,c,q.sq⟩
 |_=>cases h
def qt(m:Slot "list" name id)(p:typeOf (.builtin id)=pure (.type "method_descriptor"))(L:LK X id (XT X.K E f))(ho:QE X E o to)(N:QA X E (e::es) t)
  (i:vE o name X.env (eval o X.env)=eval o X.env:=by rfl)
  (l:((vF NB (wW (e::es) X.env)).all (λx=> !x.1)&&(vG NB (vP [] X.env)).all (λx=>x.1.isSome)
   && decide (lN (e::es)+lN ([]:List Keyword)+(if([]:List Keyword).isEmpty then 0 else 1)<30))=uC:=by rfl)
  (j:(apos.endLine==NB.line)=uC:=by rfl) (C:wW (e::es) X.env=(uD,eval e X.env)::wW es X.env:=by rfl) (g:(vF NB (wW es X.env)).any (·.1)=uD:=by rfl):
  QE X E (.Call (.Attribute o name apos) (e::es) [] NB) (Cj f to t):=(n4 uK m p L ho N i l j C g).mono λP H Q h=>by
 obtain⟨a,S,G,hk,rfl,s,r,h⟩:=h;refine⟨a,S,G,hk,rfl,s,r,(Eb h).imp ?_⟩;rintro v _ ⟨b,d,w,rfl,x,u,q,-,n⟩;split at n
 .rename_i M;have ty:=bL u q M;rw[x.k,hk]at ty;refine⟨ty,b,S,w,x.k.trans hk,rfl,u,r.mono x,(J9 n).imp ?_⟩;rintro O _ ⟨c,J,A,rfl,y,I,B,-,z⟩;exact⟨c,A,d,J,y.k.trans (x.k.trans hk),rfl,I,q.mono y,B,z⟩
 exact n.elim
def qu(i:Slot "list" name id)(l:typeOf (.builtin id)=pure (.type "method_descriptor"))(u:LK X id (XT X.K E f))(ho:QE X E o to)
  (c:vE o name X.env (eval o X.env)=eval o X.env:=by rfl) (g:(apos.endLine==NB.line)=uC:=by rfl):
  QE X E (.Call (.Attribute o name apos) [] [] NB) (Cj f to Ba):=(nZ uK i l u ho c g).mono λw H Q h=>by
 obtain⟨a,S,G,hk,rfl,s,r,h⟩:=h;refine⟨a,S,G,hk,rfl,s,r,(Eb h).imp ?_⟩;rintro v _ ⟨b,d,p,rfl,x,m,q,-,j⟩;split at j
 .rename_i n;have ty:=bL m q n;rw[x.k,hk]at ty;exact⟨ty,b,p,d,[],x.k.trans hk,rfl,m,q,rfl,j⟩
 exact j.elim
end
inductive Ty where|KA|bl|int|str|tup|lst
noncomputable def Ty.name:Ty->String
 |.KA=>"NoneType" | .bl=>"bool" | .int=>"int" | .str=>"str" | .tup=>"tuple" | .lst=>"list"
def WI(G:DH):D->Option Ty
 |.KA=>uA .KA
 |.bl _=>uA .bl
 |.int _=>uA .int
 |.str _=>uA .str
 |.tup _=>uA .tup
 |.fl _=>uA .lst
 |.ref i=>match G[i]? with
  |some (.lst _)=>uA .lst
  |_=>uB
 |.ty _=>uB
noncomputable def Ty.sub(t:Ty):String->Option Bool
 |"int"=>uA (match t with | .int=>uC | .bl=>uC|_=>uD)
 |"bool"=>uA (match t with | .bl=>uC|_=>uD)
 |"str"=>uA (match t with | .str=>uC|_=>uD)
 |"tuple"=>uA (match t with | .tup=>uC|_=>uD)
 |"list"=>uA (match t with | .lst=>uC|_=>uD)
 |_=>uB
def Eo(ds:List D)(G:DH):R D:=match ds with
 | [d,.ty T]=>match WI G d with
  |some t=>match t.sub T with
   |some k=>.ok (.bl k) G
   |none=>.bad
  |none=>.bad
 |_=>.bad
def rA{K:za}{t:Ty}{T:String}{k:Bool}(h:t.sub T=uA k):PySem.W.kitOne K (.type t.name) (.type T)=uA k:=by
 unfold Ty.sub at h;split at h
 iterate 5 (cases t<;>cases h<;>rfl)
 cases h
section
variable{X:Cx}{E:XK}
def rB:OB X (.builtin "isinstance") (JM X.K E Eo):=by
 intro i s O H vs us Q I rs h;obtain⟨a,G,ds,hk,rfl,P,r,q⟩:=h;unfold Eo at q;split at q
 .rename_i d T;obtain⟨v,v',rfl,j,S⟩:=MQ r;cases(S);obtain⟨u,J,rfl,m,F⟩:∃u J,us=[u,J]/\RelV v u/\RelV (.ty T) J:=by
   cases rs with
   |cons p q=>cases q with
    |cons Z q'=>cases q';exact⟨_,_,rfl,p,Z⟩
  cases(F);split at q
  .rename_i t g;split at q
   .rename_i k y;have f:∀B:Nat,EP X i O Q (.bool k) {s with toks:=B}:=λB=>⟨.bl k,a.H,I.tok _,rfl,q a _ (.refl a) P rfl⟩
    have e:=rA (K:=X.K) y;clear q y r;have L:∀(p:vW)(l:List V),OE X.K a.H p l->u=.ref p->t=.lst->wq (vT X.prog X.w) X.A (call (.builtin "isinstance") [u,.type T]) (EP X i O Q) X.xe s:=λp l x eu U=>by subst eu U;obtain⟨M,_,C,_⟩:=I.list x;exact qc PySem.W.kitx_list I.WG (let⟨o,e,c,_⟩:=C.isList;⟨o,e,c⟩) e (nofun) f
    cases d with
    |KA=>cases g;cases(j);cases m;exact qc PySem.W.kitx_none I.WG True.intro e (nofun) f
    |bl b=>cases g;cases(j);cases m;exact qc PySem.W.kitx_bool I.WG True.intro e (nofun) f
    |int b=>cases g;cases(j);obtain⟨B,rfl⟩:=m;exact qc PySem.W.kitx_int I.WG True.intro e (nofun) f
    |str b=>cases g;cases(j);obtain⟨B,rfl⟩:=m;exact qc PySem.W.kitx_str I.WG True.intro e (nofun) f
    |tup b=>
     cases g;obtain⟨p,l,rfl,x,_⟩:=j;cases m;rw[hk]at x;obtain⟨M,_,C,_⟩:=I.tuple x;exact qc PySem.W.kitx_tuple I.WG (let⟨o,e,c,_⟩:=C;⟨o,e,c⟩) e (nofun) f
    |fl b=>
     cases g;obtain⟨p,l,rfl,x,_⟩:=j;exact L p l (hk▸x.sq) m rfl
    |ref b=>
     unfold WI at g;dsimp only at g;split at g
     .rename_i xs hx;cases g;obtain⟨l,Y,_⟩:=P.lst hx;cases j.2;exact L _ l (.of Y) m rfl
     cases g
    |ty n=>cases g
   exact q.elim
  exact q.elim
 exact q.elim
end
noncomputable def Js:List D->Option (List Int)
 |[]=>uA []
 |.int i::r=>(Js r).map (i::·)
 |_=>uB
noncomputable def Ks:List D->Option (List Bool)
 |[]=>uA []
 |.bl i::r=>(Ks r).map (i::·)
 |_=>uB
@[simp]theorem rC(ns:List Int):Js (ns.map D.int)=uA ns:=by
 induction ns with
 |nil=>rfl
 |cons n ns a=>simp[Js,a]
@[simp]theorem EM(ns:List Bool):Ks (ns.map D.bl)=uA ns:=by
 induction ns with
 |nil=>rfl
 |cons n ns a=>simp[Ks,a]
theorem Xc:∀{xs:List D}{ns:List Int},Js xs=uA ns->xs=ns.map D.int
 |[],ns,h=>by cases h;rfl
 |.int i::r,ns,h=>by simp[Js,qX]at h;obtain⟨b,a,rfl⟩:=h;rw[zY,Xc a]
 |.KA::r,ns,h | .bl _::r,ns,h | .str _::r,ns,h | .ty _::r,ns,h | .tup _::r,ns,h | .fl _::r,ns,h | .ref _::r,ns,h=>by simp[Js]at h
theorem bM:∀{xs:List D}{ns:List Bool},Ks xs=uA ns->xs=ns.map D.bl
 |[],ns,h=>by cases h;rfl
 |.bl i::r,ns,h=>by simp[Ks,qX]at h;obtain⟨b,a,rfl⟩:=h;rw[zY,bM a]
 |.KA::r,ns,h | .int _::r,ns,h | .str _::r,ns,h | .ty _::r,ns,h | .tup _::r,ns,h | .fl _::r,ns,h | .ref _::r,ns,h=>by simp[Ks]at h
def Gg(ds:List D)(G:DH):R D:=match ds with
 | [d]=>match Bk d G with
  |some xs=>match Js xs with
   |some ns=>.ok (.int ns.sum) G
   |none=>.bad
  |none=>.bad
 |_=>.bad
def J6(ds:List D)(G:DH):R D:=match ds with
 | [d]=>match Bk d G with
  |some xs=>match Ks xs with
   |some ns=>.ok (.bl (ns.all id)) G
   |none=>.bad
  |none=>.bad
 |_=>.bad
section
variable{X:Cx}{E:XK}{wS:List (vW×Obj)}{σ:St}{s:vk}{H:Hp}
def Z5(I:Inv X wS σ H s)(t:X.calm=uC)(h:OE X.K H p vs\/VE X.K H p vs)
  (n:∀(it:vW)(fp wr:List vW)(MA:List vB)(St:Nat->Heap->Prop)(d:vk),Vals vs MA->Walks X.prog X.w X.A.in1 it fp wr MA.toArray.size (λi v=>MA.toArray[i]?=uA v) St->St 0 d.heap->(∀b∈fp,b<d.heap.objs.size)->
   (∀h' tk,(∀b o,b∉wr->d.heap.get? b=uA o->h'.get? b=uA o)->Inv X wS σ H {d with heap:=h',toks:=tk})->Q (.ref it) d):
  wq (vT X.prog X.w) X.A.in1 (pyIter (.ref p)) Q E' s:=by
 have m:X.A.in1.handled=uB:=I.ok.hd t;rcases h with h|h
 .obtain⟨MA,r,g,q⟩:=I.list h;refine wpAny_pyIter_list g.isList ?_;have hp:p<s.heap.objs.size:=by obtain⟨o,e,_⟩:=g.isList;exact zD e
  refine n _ _ _ MA _ _ r (.list m _ p (qZ hp) MA.toArray) ⟨⟨_,zA _ rfl,rfl,rfl⟩,?_⟩ (λb f=>?_) λh' tk k=>?_
  .obtain⟨o,e,c⟩:=g.isList;exact⟨o,zJ _ e,c⟩
  .rw[jY];rcases zw.mp f with rfl|f
   .exact qC _
   have e:b=p:=by simpa using f
   subst e;exact xK hp
  refine I.kept λb o e=>k b o (λf=>?_) (zJ _ e)
  have j:b=s.heap.objs.size:=by simpa using f
  subst j;exact absurd (zD e) (qB _)
 obtain⟨MA,r,g,q⟩:=I.tuple h;refine wpAny_pyIter_tuple (g) ?_;have hp:p<s.heap.objs.size:=by obtain⟨o,e,_⟩:=g;exact zD e
 refine n _ _ _ MA _ _ r (.tuple m _ p (qZ hp) MA.toArray) ⟨⟨_,zA _ rfl,rfl,rfl⟩,?_⟩ (λb f=>?_) λh' tk k=>?_
 .obtain⟨o,e,c⟩:=g;exact⟨o,zJ _ e,c⟩
 .rw[jY];rcases zw.mp f with rfl|f
  .exact qC _
  .have e:b=p:=by simpa using f
   subst e;exact xK hp
 .refine I.kept λb o e=>k b o (λf=>?_) (zJ _ e)
  have j:b=s.heap.objs.size:=by simpa using f
  subst j;exact absurd (zD e) (qB _)
theorem bN(ns:List Int):∀n,n<=lN ns->preSum (λi=>ns.getD i 0) n=(ns.take n).sum
 |0,_=>by simp[preSum]
 |n+1,h=>by have a:n<lN ns:=h;rw[preSum,bN ns n (by lia),List.take_succ_eq_append_getElem a,List.sum_append];simp[a]
theorem Vp:∀{ns:List Int}{vs:List V},HA a (ns.map D.int) vs->vs=ns.map V.int
 |[],vs,h=>h
 |n::ns,vs,h=>by
  obtain⟨v,r,e,c,b⟩:=h;cases(c);rw[e,Vp b]
  rfl
theorem bO:∀{ns:List Bool}{vs:List V},HA a (ns.map D.bl) vs->vs=ns.map V.bl
 |[],vs,h=>h
 |n::ns,vs,h=>by
  obtain⟨v,r,e,c,b⟩:=h;cases(c);rw[e,bO b]
  rfl
def rD(z:X.calm=uC):OB X (.builtin "sum") (JM X.K E Gg):=by
 intro l s S H O T Q I F h;obtain⟨a,G,M,hk,rfl,m,r,q⟩:=h;unfold Gg at q;split at q
 .rename_i d;obtain⟨v,rfl,B⟩:=KD r;split at q
  .rename_i P y;split at q
   .rename_i b n;cases Xc n;obtain⟨p,N,rfl,j,J⟩:=Jo m B y;cases Vp J;rw[hk]at j;obtain⟨u,rfl,f⟩:=vals1 F;cases f;refine call_sum_walkG (Z5 I z j λit fp wr MA St s₂ hv W st NQ fin=>⟨it,fp,wr,MA.toArray.size,_,St,λi=>b.getD i 0,rfl,W,st,NQ,λi w hw=>?_,λC o A L=>?_⟩)
    .have c:MA[i]?=uA w:=by simpa using hw
     have g:i<(b.map V.int).length:=by rw[hv.length];exact(zX.mp c).1
     have e:i<b.length:=by simpa using g
     obtain⟨u,k,f⟩:=hv.get (i:=i) (x:=V.int b[i]) (by simp[e]);rw[c]at k;cases k;obtain⟨t,rfl⟩:=f;exact⟨t,by simp[e]⟩
    refine⟨.int b.sum,a.H,fin C o L,⟨A,?_⟩,q a _ (.refl a) m rfl⟩;have g:MA.toArray.size=b.length:=by rw[zk,<-hv.length];simp
    rw[g,bN b b.length (zx _),xj]
   exact q.elim
  exact q.elim
 exact q.elim
def all_range(ns:List Bool):(zW (lN ns)).all (λi=>ns.getD i uC)=ns.all id:=by
 rw[Bool.eq_iff_iff,j9,j9];constructor
 .intro h b d;obtain⟨i,c,rfl⟩:=j8 d;simpa[c]using h i (qz.mpr c)
 intro h i c;have a:=qz.mp c;simpa[a]using h ns[i] (qw a)
def rE(z:X.calm=uC):OB X (.builtin "all") (JM X.K E J6):=by
 intro m s U H S Y Q I C h;obtain⟨a,G,N,hk,rfl,n,r,q⟩:=h;unfold J6 at q;split at q
 .rename_i d;obtain⟨v,rfl,A⟩:=KD r;split at q
  .rename_i T y;split at q
   .rename_i b o;cases bM o;obtain⟨p,O,rfl,k,F⟩:=Jo n A y;cases bO F;rw[hk]at k;obtain⟨u,rfl,f⟩:=vals1 C;cases f;refine call_all_walk (Z5 I z k λit fp wr MA St s₂ hv W st NQ fin=>⟨it,fp,wr,MA.toArray.size,_,St,λi=>b.getD i uC,rfl,W,st,λi w M L P hw j=>?_,λB t J=>?_⟩)
    .have c:MA[i]?=uA w:=by simpa using hw
     have g:i<(b.map V.bl).length:=by rw[hv.length];exact(zX.mp c).1
     have e:i<b.length:=by simpa using g
     obtain⟨u,l,f⟩:=hv.get (i:=i) (x:=V.bl b[i]) (by simp[e]);rw[c]at l;cases l;cases f;refine wE ?_;simpa[e]using j
    refine⟨.bl (b.all id),a.H,fin B t J,?_,q a _ (.refl a) n rfl⟩;have g:MA.toArray.size=b.length:=by rw[zk,<-hv.length];simp
    rw[g,all_range]
    rfl
   exact q.elim
  exact q.elim
 exact q.elim
end
section
variable{X:Cx}{wS:List (vW×Obj)}{σ:St}{H:Hp}{s:vk}
def Z9(I:Inv X wS σ H s)(l:H a=uB)(v:X.s₀.heap.objs.size<=a)(t:a≠X.env.locals)(y:∀x c,X.env.cells.lookup x=uA c->c≠a)(hp:∀p∈X.pn++wS,p.1≠a)
  (h:VB X.prog X.w (upd H a o) s.heap a o):Inv X wS σ (upd H a o) s:=by
 have f:∀b u,H b=uA u->b≠a:=λb u e z=>by rw[z,l]at e;cases e
 refine⟨I.ok,I.os,I.bare,⟨I.base.keep,I.base.slot,λb i q n C=>?_,I.base.there,λb j q=>?_,λb i u q=>?_,λb A q=>?_⟩,I.loc,I.cell,?_,λx c e=>?_,λp d=>?_,λb u e=>?_,I.len⟩
 .rw[Ag (qZ (zj (zD q) v))];exact I.base.free b i q n C
 .have:=I.base.IJ b j q;rw[Ag (f _ _ this)];exact this
 .have:=I.base.GI b i u q;rw[Ag (f _ _ this)];exact this
 .obtain⟨g,this⟩:=I.base.HI b A q;exact⟨g,by rw[Ag (f _ _ this)];exact this⟩
 .rw[Ag (.symm t)];exact I.free
 .rw[Ag (y x c e)];exact I.Gh x c e
 .obtain⟨m,B,r⟩:=I.pin p d;exact⟨m,by rw[Ag (hp p d)];exact B,r⟩
 by_cases k:b=a
 .subst k;rw[Di]at e;cases e;exact h
 .rw[Ag k]at e;exact(I.SA b u e).ZF (λ_ _ _ q=>q) (λc q=>by rw[Ag (f _ _ q)];exact q) λc j q=>by rw[Ag (f _ _ q)];exact q
end
noncomputable def Cu(env:Env):List (Str×vz)->List (Str×vW)->List (Str×vW)
 |[],cs=>cs
 |(n,k)::r,cs=>if(k==NameKind.free)=uC then Cu env r ((n,(env.cells.lookup n).getD 0)::cs)else Cu env r cs
def W9(h:∀y∈scope.names,y.2=.free->∃c,env.cells.lookup y.1=uA c):closureFor scope env=pure (Cu env scope.names []):=by
 unfold closureFor;obtain⟨b,names,p,q⟩:=scope;have e:∀(names:List (Str×vz))(a:List (Str×vW)),(∀y∈names,y.2=.free->∃c,env.cells.lookup y.1=uA c)->
   (forIn names a (λx r=>match x with
    |(name,b)=>if(b==NameKind.free)=uC then(do let c<-cellOf env name;pure (.yield ((name,c)::r)))else pure (.yield r)):Sem (List (Str×vW)))=pure (Cu env names a):=by
  intro names
  induction names with
  |nil=>intro a _;rfl
  | cons y r j=>
   intro a f;obtain⟨n,k⟩:=y;rw[xw];by_cases hk:(k==NameKind.free)=uC
   .obtain⟨c,l⟩:=f (n,k) zy (by simpa using hk);have o:cellOf env n=pure c:=by unfold cellOf;rw[l]
    have i:Cu env ((n,k)::r) a=Cu env r ((n,c)::a):=by rw[Cu,if_pos hk,l];rfl
    rw[i,<-j ((n,c)::a) λg d=>f g (zV _ d)];simp only[hk,if_true,o]
    rfl
   have i:Cu env ((n,k)::r) a=Cu env r a:=by rw[Cu,if_neg hk]
   rw[i,<-j a λg d=>f g (zV _ d)];simp only[hk]
   rfl
 have:=e names [] h;exact congrArg (λm:Sem (List (Str×vW))=>m >>=λr=>pure r) this
theorem X7:∀{names:List (Str×vz)}{cs:List (Str×vW)},(∀y∈names,y.2=.free->∃c,env.cells.lookup y.1=uA c)->(∀p∈cs,env.cells.lookup p.1=uA p.2)->∀p∈Cu env names cs,env.cells.lookup p.1=uA p.2
 |[],cs,_,a,p,hp=>a p hp
 | (n,k)::r,cs,d,a,p,hp=>by
  rw[Cu]at hp;split at hp
  .rename_i hk;obtain⟨c,e⟩:=d (n,k) zy (by simpa using hk);refine X7 (λy b=>d y (zV _ b)) (λq f=>?_) p hp;rcases zw.mp f with rfl|f
   .rw[e];rfl
   exact a q f
  exact X7 (λy b=>d y (zV _ b)) a p hp
theorem Lx:∀{names:List (Str×vz)}{cs:List (Str×vW)},((x,.free)∈names\/∃c,(x,c)∈cs)->∃c,(x,c)∈Cu env names cs
 |[],cs,h=>by
  rcases h with h|h
  .cases h
  exact h
 | (n,k)::r,cs,h=>by
  rw[Cu];split
  .refine Lx ?_;rcases h with h|⟨c,h⟩
   .rcases zw.mp h with e|h
    .cases e;exact .inr ⟨_,zy⟩
    exact .inl h
   exact .inr ⟨c,zV _ h⟩
  rename_i hk;refine Lx ?_;rcases h with h|h
  .rcases zw.mp h with e|h
   .cases e;exact absurd rfl hk
   exact .inl h
  exact .inr h
theorem Qc:∀{l:List (Str×vW)},(x,c)∈l->∃d,l.lookup x=uA d
 |[],h=>by cases h
 |(y,d)::l,h=>by
  by_cases e:x=y
  .subst e;exact⟨d,by simp⟩
  rcases zw.mp h with z|h
  .cases z;exact absurd rfl e
  .obtain⟨a,q⟩:=Qc h;exact⟨a,by rw[jA,beq_eq_false_iff_ne.mpr e];exact q⟩
theorem bP(x:Str):(relabel scope env).names.lookup x=(scope.names.lookup x).map λk=>if(k==NameKind.free&&env.scope.kind == .function&&env.kindOf x==uA .cell)=uC then .cell else k:=by
 unfold relabel;generalize scope.names=l
 induction l with
 |nil=>rfl
 | cons y r b=>
  obtain⟨n,k⟩:=y;by_cases e:x=n
  .subst e;simp only[zY]
   cases c:(k==NameKind.free&&env.scope.kind==ScopeKind.function&&env.kindOf x==uA NameKind.cell) <;>
    simp only[c,if_true,jA,beq_self_eq_true,Option.map_some,Bool.false_eq_true,if_false]
  have a:=beq_eq_false_iff_ne.mpr e;simp only[zY];split
  .rw[jA,jA,a];exact b
  rw[jA,jA,a];exact b
def JG(X:Cx)(N:List Str)(scope:vx)(C:vW)(s₀:vk)(H₀:Hp)(ex:List vW):Cx where
 prog:=X.prog
 w:=X.w
 K:=X.K
 mg:=X.mg
 base:=X.base
 A:=X.A
 N:=N
 s₀:=s₀
 H₀:=H₀
 env:=compEnvC scope (Cu X.env scope.names []) C X.env
 outer:=X.stack
 stack:=X.stack
 ex:=ex
 fn:=λ_=>uD
 calm:=X.calm
 pn:=[]
 xe:=λ_ _=>False
structure ZB (X:Cx) (N:List Str) (scope:vx) (nt:Nat) (caps:List Nat):Prop where
 kind:scope.kind=.function
 names:∀y∈scope.names,y.2=.local->scope.names.lookup y.1=uA .local
 QH:∀y∈scope.names,y.2≠ .cell
 free:∀y∈scope.names,y.2=.free->X.env.kindOf y.1=uA .cell\/X.env.kindOf y.1=uA .free
 nd:N.Nodup
 len:lN N=nt+lN caps
 HS:∀(k j:Nat),caps[k]?=uA j->∃x,X.N[j]?=uA x/\N[nt+k]?=uA x/\scope.names.lookup x=uA .free
section
variable{X:Cx}{wS:List (vW×Obj)}{σ:St}{H:Hp}{s:vk}{N:List Str}{scope:vx}{nt:Nat}{caps:List Nat}
def ZB.cells(c:ZB X N scope nt caps)(ok:X.Ok):∀y∈scope.names,y.2=.free->∃c,X.env.cells.lookup y.1=uA c:=λy a hk=>ok.has y.1 (c.free y a hk)
def ZB.cl(c:ZB X N scope nt caps)(ok:X.Ok)(h:(Cu X.env scope.names []).lookup x=uA d):X.env.cells.lookup x=uA d:=
 X7 (c.cells ok) (λp hp=>by cases hp) (x,d) (zc h)
def rF(c:ZB X N scope nt caps)(I:Inv X wS σ H s){fp:List vW}(hf:∀b∈fp,PD X wS H b){C:vW}(hC:s.heap.objs.size<=C)(VX:C∉fp):(JG X N scope C s H fp).Ok where
 mod:=I.ok.mod
 kind:=c.kind
 glob:=I.ok.glob
 blt:=I.ok.blt
 above:=hC
 inj:=λx y d h1 h2=>I.ok.inj x y d (c.cl I.ok h1) (c.cl I.ok h2)
 has:=λx h=>by
  have h':(relabel scope X.env).names.lookup x=uA .cell\/(relabel scope X.env).names.lookup x=uA .free:=h;rw[bP]at h';have VV:scope.names.lookup x=uA .free:=by
   cases e:scope.names.lookup x with
   |none=>rw[e]at h';rcases h' with h'|h'<;>cases h'
   |some k=>
    rw[e]at h';cases k with
    |free=>rfl
    |cell=>exact absurd rfl (c.QH _ (zc e))
    |_=>rcases h' with h'|h'<;>(simp at h')
  obtain⟨d,hd⟩:=Lx (.inl (zc VV));exact Qc hd
 RT:=λx d h=>by cases h
 hd:=I.ok.hd
 frames:=I.ok.frames
 PU:=.inl rfl
 QZ:=λb hb=>⟨λz=>VX (by rw[<-show b=C from z];exact hb),λx d h=>(hf b hb).2.2.2.2.1 x d (c.cl I.ok h)⟩
 bs:=I.bs
 MN:=zN I.ok.MN I.sz
 YK:=λb o e hb=>by
  rcases(hf b hb).2.2.2.1 with h|h
  .exact I.ok.YK b o e h
  exact absurd (zj (zD (I.ok.bs b o e).1) h) (qB _)
 ZK:=λb hb hz=>by
  rcases zw.mp (I.Nt b hz)with z|z
  .exact(hf b hb).2.1 z
  exact(hf b hb).2.2.1 z
 NF:=I.stack
 VP:=I.Wg
end
def Bo(g:DG)(c:DB)(te:DE)(S:PB):List D->DH->R (List D)
 |[],G=>.ok [] G
 | x::xs,G=>(g x S G).bind λS1 G1=>(c S1 G1).bind λk G2=>
   if k=uC then(te S1 G2).bind λd G3=>(Bo g c te S xs G3).bind λds G4=>.ok (d::ds) G4 else Bo g c te S xs G2
def Ei(i:Nat)(g:DG)(c:DB)(te:DE)(S:PB):Nat->Nat->DH->R (List D)
 |0,j,G=>match G[i]? with
  |some (.lst xs)=>if lN xs<=j then .ok [] G else .bad
  |_=>.bad
 | n + 1,j,G=>match G[i]? with
  |some (.lst xs)=>match xs[j]? with
   | some x=>(g x S G).bind λS1 G1=>(c S1 G1).bind λk G2=>
     if k=uC then(te S1 G2).bind λd G3=>(Ei i g c te S n (j+1) G3).bind λds G4=>.ok (d::ds) G4 else Ei i g c te S n (j+1) G2
   |none=>.ok [] G
  |_=>.bad
def Dj(f:Nat->DH->Option (Option D))(g:DG)(c:DB)(te:DE)(S:PB):Nat->Nat->DH->R (List D)
 |0,j,G=>match f j G with
  |some uB=>.ok [] G
  |_=>.bad
 | n + 1,j,G=>match f j G with
  |some (uA x)=>(g x S G).bind λS1 G1=>(c S1 G1).bind λk G2=>
     if k=uC then(te S1 G2).bind λd G3=>(Dj f g c te S n (j+1) G3).bind λds G4=>.ok (d::ds) G4 else Dj f g c te S n (j+1) G2
  |some uB=>.ok [] G
  |none=>.bad
noncomputable def Be(nt:Nat)(caps:List Nat)(S:PB):PB:=zQ nt uB++caps.map λj=>(S[j]?).join
def Bv(it:DI)(nt:Nat)(caps:List Nat)(g:DG)(c:DB)(te:DE):DE:=λS G=>(it S G).bind λJ G1=>(match J with
 |.pure xs=>Bo g c te (Be nt caps S) xs G1
 |.mt i=>match G1[i]? with
  |some (.lst xs)=>Ei i g c te (Be nt caps S) (lN xs) 0 G1
  |_=>.bad
 |.fn n f=>Dj f g c te (Be nt caps S) n 0 G1).bind Ac
noncomputable def Ao:DB:=λ_ G=>.ok uC G
def GK(nt:Nat)(g:DG):Prop:=∀d S G S1 G1,g d S G=.ok S1 G1->∀i e,nt<=i->S[i]?=uA (uA e)->S1[i]?=uA (uA e)
def XV(nt:Nat)(g:LQ):Prop:=∀d S G S1 G1,g d S G=.ok S1 G1->∀i e,nt<=i->S[i]?=uA (uA e)->S1[i]?=uA (uA e)
def rG(h:i<nt):GK nt (gV i):=λd S G b f e j x k a=>by cases e;rw[z0 (by lia)];exact a
theorem rH:XV nt Bq:=λd S G b f e j x h a=>by
 cases d with
 |nil=>cases e;exact a
 |cons _ _=>cases e
theorem rK(l:GK nt t)(m:XV nt u):XV nt (Ah t u):=λd S G i h e j x k n=>by
 cases d with
 |nil=>cases e
 |cons a r=>
  have b:(t a S G).bind (λi h=>u r i h)=.ok i h:=e;cases f:t a S G with
  |ok p o=>rw[f]at b;exact m _ _ _ _ _ b j x k (l _ _ _ _ _ f j x k n)
  |_=>rw[f]at b;cases b
theorem rL(h:XV nt t):GK nt (Bm n t):=λd S G k f e j x a b=>by
 cases d with
 |tup i=>
  unfold Bm at e;dsimp only at e;split at e
  .exact h _ _ _ _ _ e j x a b
  cases e
 |_=>cases e
theorem rM(h:out E a (r.bind f) Q):
  Ec E a r (λi H=>PR3 a H r i RB λb S G=>out E b (f S G) Q):=by
 cases r with
 |ok d G=>exact λb v x s q=>⟨b,d,G,rfl,x,s,q,rfl,out.mono x h⟩
 |_=>exact h
def R.bind_assoc{b d e:Type}(r:R b)(f:b->DH->R d)(g:d->DH->R e):(r.bind f).bind g=r.bind λa G=>(f a G).bind g:=by cases r<;>rfl
theorem bQ(h:out E a (r.bind f) Q):
  outI E a r (λJ H=>PR3 a H r J XE λb d G=>out E b (f d G) Q):=by
 cases r with
 |ok d G=>exact λb v x s q=>⟨b,d,G,rfl,x,s,q,rfl,out.mono x h⟩
 |_=>exact h
section
variable{prog:vj}{w:vC}{A:vK}{R':Result->vk->Prop}{s:vk}
def OQ(prog:vj)(w:vC)(A:vK)(target elt:vY)(ifs:List vY)(acc:vB)(env:Env)(P:vk->Prop)(v:vB)(s:vk):Prop:=
 wq (vT prog w) A (assign target env v) (λ_ s₂=>
  wq (vT prog w) A (forIn ifs uC λc r=>if r=uC then do let ok<-isTrue c env (eval c env);pure (ForInStep.yield ok)else pure (ForInStep.yield r)) (λok s₃=>
   if ok=uC then wq (vT prog w) A (eval elt env) (λx s₄=>wq (vT prog w) A (call (.builtin "list.append") [acc,x]) (λ_ s₅=>P s₅) (λ_ _=>False) s₄) (λ_ _=>False) s₃
   else P s₃) (λ_ _=>False) s₂) (λ_ _=>False) s
def PQ(prog:vj)(w:vC)(A:vK)(target elt:vY)(ifs:List vY)(it acc:vB)(env:Env)(R' P:vk->Prop)(s:vk):Prop:=
 wq (vT prog w) A (pyNext it) (λr s₁=>match r with
  |none=>R' s₁
  |some v=>wq (vT prog w) A (vR target it v) (λ_ s₁=>OQ prog w A target elt ifs acc env P v s₁) (λ_ _=>False) s₁) (λ_ _=>False) s
theorem rN(I:Nat->vk->Prop)
  (i:∀n s,I n s->PQ prog w A target elt ifs it acc env (R' (.ok .next)) (λs'=>∃m,m<n/\I m s') s)
  (n:Nat) (h:I n s):
  codeAny (vT prog w) A (.compLoop (.ListComp elt [⟨target,iter,ifs,0⟩] scope pos) 0 it acc env) R' s:=by
 refine codeAny_loop rfl I (λn s u=>?_) n h
 show wq _ A ((compTurn (.ListComp elt [⟨target,iter,ifs,0⟩] scope pos) 0 it acc env).onRaise (λx=>do noteFrame x env;theTreesLotGoes x)) _ _ s
 refine wpAny_noted ?_;rw[compTurn_list];refine w5 ?_ (λ_ _ q=>q) (λ_ _(f:False)=>f.elim);refine wj (wpAny_standAt (wj (w5 (i n s u) (λr p a=>?_) λ_ _ b=>b)));cases r with
 |none=>exact w9 a
 | some v=>
  refine wj (w5 a (λ_ k a=>?_) λ_ _ b=>b);refine wj (w5 a (λ_ l j=>wj (w5 j (λok s₃ h₃=>?_) λ_ _ b=>b)) λ_ _ b=>b);cases ok with
  |false=>exact w9 ⟨rfl,h₃⟩
  |true=>
   exact wj (wj (w5 h₃ (λx o d=>wj (w5 d (λ_ t e=>w9 (w9 ⟨rfl,e⟩)) λ_ _ b=>b)) λ_ _ b=>b))
end
def QN(X:Cx)(E:XK)(ifs:List vY)(t:DB):Prop:=
 ∀(wS:List (vW×Obj))(s:vk)(σ:St)(H:Hp)(Q:Bool->Hp->Prop),Inv X wS σ H s->lB X.K E t σ H Q->
  wq (vT X.prog X.w) X.A (forIn ifs uC λc r=>if r=uC then do let ok<-isTrue c X.env (eval c X.env);pure (ForInStep.yield ok)else pure (ForInStep.yield r)) (TP X wS σ Q) X.xe s
def bR:QN X E [] Ao:=λb s e H Q I h=>by obtain⟨a,S,G,hk,rfl,d,r,h⟩:=h;exact wpAny_tests_nil ⟨a.H,I,h a (.refl a) d⟩
def rO(d:QT X E c t):QN X E [c] t:=λa s b H Q I h=>wpAny_tests_one (d a s b H Q I h)
section
variable{X:Cx}{E:XK}{N:List Str}{scope:vx}{nt:Nat}{caps:List Nat}{tg elt iter:vY}{ifs:List vY}{pos:Pos}{it:DI}{g:DG}{c:DB}{te:DE}
theorem rP(r:RB a S σ):RB a (Be nt caps S) (zQ nt uB++caps.map λj=>(σ[j]?).join):=by
 refine⟨by simp[Be],λi d h=>?_⟩;unfold Be at h;by_cases f:i<nt
 .rw[zC (by simpa using f),qP]at h
  split at h<;>cases h
 rw[zO (by simpa using f),zv]at h;rw[zO (by simpa using f),zv];rw[qO]at h⊢;cases e:caps[i-nt]? with
 |none=>rw[e]at h;cases h
 | some j=>
  rw[e]at h;have b:(S[j]?).join=uA d:=by simpa using h
  have l:S[j]?=uA (uA d):=by
   cases q:S[j]? with
   |none=>rw[q]at b;cases b
   |some o=>
    rw[q]at b;have k:o=uA d:=b;rw[k]
  obtain⟨v,m,n⟩:=r.get j d l;exact⟨v,by simp[m],n⟩
def rQ(h:(Be nt caps S)[i]?=uA (uA d)):nt<=i:=by
 unfold Be at h;by_cases a:i<nt
 .rw[zC (by simpa using a),qP]at h
  split at h<;>cases h
 lia
def Yy(hc:X.calm=uC)(cs:ZB X N t nt caps)
  (hg:∀C s₀ H₀ ex,QG (JG X N t C s₀ H₀ ex) E0 tg g) (gk:GK nt g) (YV:∀C s₀ H₀ ex,QN (JG X N t C s₀ H₀ ex) E0 ifs c) (he:∀C s₀ H₀ ex,QE (JG X N t C s₀ H₀ ex) E0 elt te)
  {wS:List (vW×Obj)} {σ:St} {s:vk} {a:Wd} {S:PB} {G:DH} {J:It} {n0:Nat} {f:Nat->DH->Option (Option D)} {i0:vW} {fp:List vW} {tn:Nat->Heap->Prop} (I:Inv X wS σ a.H s) (hk:a.K=X.K) (sm:XA a G) (rS:RB a S σ)
  (T:Turn X.prog X.w X.K tg J fp i0 tn) (t0:tn 0 s.heap) (hf:∀b∈fp,PD X wS a.H b) (rJ:XE a (.fn n0 f) J) {Q:VK}
  (h:out E0 a ((Dj f g c te (Be nt caps S) n0 0 G).bind Ac) Q)
  {RR:vB->vW->Result->vk->Prop} {E':vB->vk->Prop}
  (ZV:∀(D C:vW)(s':vk)(b:Wd)(vs:List V),Inv X wS σ (upd b.H D (.lst vs)) s'->b.H D=uB->s.heap.objs.size<=C->D≠C->(∃m,s'.heap.Ns C m)->b.H C=uB->Q (.ref D) (upd b.H D (.lst vs))->RR (.ref D) C (.ok .next) s'):
  wq (vT X.prog X.w) X.A (newList []) (λF s₃=>wq (vT X.prog X.w) X.A (newFunctionEnv t X.env.globals (Cu X.env t.names []) [] X.env.qual uB .none (uA X.env)) (λMM s₄=>
   codeAny (vT X.prog X.w) X.A (.compStart (.ListComp elt [⟨tg,iter,ifs,0⟩] t pos) 0 (.ref i0) F {MM with scope:=relabel t X.env}) (RR F MM.locals) s₄) E' s₃) E' s:=by
 refine w6 (wpAny_newFunctionEnv cs.QH (by intro y hy;simp at hy) (λh₁ PJ W=>?_) cs.kind);dsimp only at PJ W⊢;generalize hH2:s.heap.push {cls:=.type "list",dict:=uB,data:=.seq ([]:List vB).toArray}=H2 at PJ W⊢;have hC:H2.objs.size=s.heap.objs.size+1:=by rw[<-hH2,jY]
 have GW:s.heap.objs.size≠H2.objs.size:=by rw[hC];exact qZ (qC _)
 have IS:s.heap.objs.size<=H2.objs.size:=hC▸jR _;have QQ:∀b∈fp,b<s.heap.objs.size:=λb hb=>by obtain⟨o,e,_⟩:=T.obj 0 _ t0 b hb;exact zD e
 have C':s.heap.objs.size∉fp:=λhm=>qB _ (QQ _ hm)
 have VX:H2.objs.size∉fp:=λhm=>by have:=QQ _ hm;rw[hC]at this;exact qB _ (Nat.lt_of_succ_lt this)
 have old:∀b o,s.heap.get? b=uA o->h₁.get? b=uA o:=λb o e=>
  W.extBut b o (by rw[hC];exact qZ (xK (zD e))) (zJ _ (hH2▸zJ _ e))
 have JS:h₁.PlainList s.heap.objs.size ([]:List vB).toArray:=⟨_,W.extBut _ _ GW (zJ _ (hH2▸zA _ rfl))⟩;generalize hCe:H2.objs.size=C at*;generalize hDe:s.heap.objs.size=M at*;let B:=JG X N t C s a.H fp;have F':=rF cs I hf (hDe▸IS) VX;let σ0:St:=.replicate nt uB++caps.map λj=>(σ[j]?).join
 have start:∀tk,Inv B [] σ0 a.H {s with heap:=h₁,toks:=tk}:=λtk=>by
  refine⟨F',rfl,I.bare,Un.kept old,⟨_,PJ,λi x v e1 e2 e3=>?_⟩,λx d' e=>?_,I.SA.fresh (hDe▸IS),λx d' e=>?_,λp hp=>?_,I.SA.kept old,?_⟩
  .have hi:nt<=i:=by
    by_cases hi:i<nt
    .have XO:=e2;rw[zC (by simpa using hi),qP]at XO
     split at XO<;>cases XO
    lia
   have XO:=e2;rw[zO (by simpa using hi),zv,qO]at XO;cases ej:caps[i-nt]? with
   |none=>rw[ej]at XO;cases XO
   | some j=>
    rw[ej]at XO;have h1:(σ[j]?).join=uA v:=by simpa using XO
    have h2:σ[j]?=uA (uA v):=by
     cases q:σ[j]? with
     |none=>rw[q]at h1;cases h1
     |some o=>
      rw[q]at h1;have L8:o=uA v:=h1;rw[L8]
    obtain⟨y,ey,en,ek⟩:=cs.HS (i-nt) j ej;have exy:x=y:=by
     have:nt+(i-nt)=i:=by lia
     rw[this]at en;have e1':N[i]?=uA x:=e1;rw[e1']at en;exact Option.some.inj en
    subst exy;have kx:=cs.free (x,.free) (zc ek) rfl;have vis:NU X.env.scope x:=by
     rcases kx with kx|kx
     .exact .inr (.inl kx)
     exact .inr (.inr kx)
    obtain⟨m,hn,hl⟩:=I.loc;obtain⟨u,ru,lk⟩:=hl j x v ey h2 vis;refine⟨u,ru,?_⟩;rcases lk with⟨k1,_⟩|⟨k1,c1,ec,HW⟩
    .rcases kx with kx|kx
     .rw[k1]at kx;cases kx
     rw[k1]at kx;cases kx
    refine .inr ⟨?_,c1,?_,?_⟩
    .show(relabel t X.env).names.lookup x=uA .cell\/(relabel t X.env).names.lookup x=uA .free;rw[bP,ek];simp only[Option.map_some];split
     .exact .inl rfl
     exact .inr rfl
    .obtain⟨d1,hd1⟩:=Lx (.inl (zc ek));obtain⟨d2,J'⟩:=Qc hd1;have:=cs.cl I.ok J';rw[ec]at this;cases this;exact J'
    .obtain⟨o,e,dd⟩:=HW;exact⟨o,old _ _ e,dd⟩
  .obtain⟨v,o,e',dd⟩:=I.cell x d' (cs.cl I.ok e);exact⟨v,o,old _ _ e',dd⟩
  .exact I.Gh x d' (cs.cl I.ok e)
  .exact absurd hp (by simp[B,JG])
  show σ0.length=N.length;rw[cs.len];simp[σ0]
 have young:∀b∈fp,b≠C:=λb hb z=>VX (z▸hb)
 have K':∀{H':Hp}{ps:List (vW×Obj)},(∀b∈fp,H' b=uB)->(∀p∈ps,p.1∉fp)->∀b∈fp,PD B ps H' b:=λ{H' ps}hn hps b hb=>
  ⟨hn b hb,young b hb,F'.ZK b hb,.inl hb,λx d' e=>(hf b hb).2.2.2.2.1 x d' (cs.cl I.ok e),λp hp z=>by exact hps p (by simpa[B,JG]using hp) (z▸hb)⟩
 have IW:M∉OI X.stack:=λz=>by
  rcases zw.mp (I.Nt M z)with z|z
  .have:=I.lt;rw[hDe,<-z]at this;exact qB _ this
  exact I.YL (hDe▸zx _) z
 have JL:∀{L:St}{H':Hp}{s':vk}{l:List vB}{nD:Nat},Inv B [] L H' s'->s'.heap.get? M=uA {cls:=.type "list",data:=.seq l.toArray nD}->H' M=uB->Inv B [(M,{cls:=.type "list",data:=.seq l.toArray nD})] L H' s':=λ{L H' s' l nD}J e n=>
  J.Gm λp hp=>by
   have ep:p=(M,{cls:=.type "list",data:=.seq l.toArray nD}):=by simpa using hp
   subst ep;exact⟨e,n,GW,IW,λv' z=>by cases z⟩
 have fin:∀(s':vk)(b:Wd)(L:St)(l:List vB)(U:List D)(G':DH),Inv B [] L b.H s'->Ext a b->XA b G'->s'.heap.PlainList M l.toArray->b.H M=uB->(∃vs,Vals vs l/\HA b U vs)->out E0 b (Ac U G') Q->RR (.ref M) C (.ok .next) s':=by
  intro s' b L l U G' IB x sb pl hD ⟨vs,hv,rv⟩ hq;have hz:U.length<=1000000:=by
   unfold Ac at hq;split at hq
   .assumption
   exact hq.elim
  obtain⟨n,eD⟩:=pl;have M':∀{q:vW}{o:Obj},s.heap.get? q=uA o->q≠M:=λe z=>by rw[z,<-hDe]at e;exact absurd (zD e) (qB _)
  have Ia:Inv X wS σ (upd b.H M (.lst vs)) s':=by
   refine Z9 (I.RU IB.os IB.base IB.SA IB.bare λb hb=>⟨(hf b hb).2.2.2.1,(hf b hb).2.1,(hf b hb).2.2.2.2.1,(hf b hb).2.2.2.2.2⟩) hD (by rw[<-hDe];exact I.sz) ?_ (λy c' ec=>?_) (λp hp=>?_) ⟨?_,l,n,hv,eD⟩
   .rw[<-hDe];exact jw I.lt
   .obtain⟨v,o,e,_⟩:=I.cell y c' ec;exact M' e
   .exact M' (I.pin p hp).1
   rw[<-rv.length];exact zN hz TB
  refine ZV M C s' b vs Ia hD IS GW (let⟨m,hn,_⟩:=IB.loc;⟨m,hn⟩) IB.free ?_;unfold Ac at hq;rw[if_pos hz]at hq;exact J8 sb rv hq M hD
 have JW:∀(P:vk->Prop)(rest:DH->R (List D))(s1:vk)(b:Wd)(G1:DH)(σ1:St)(l:List vB)(F:List D)(u:vB)(v:V)(x:D)(i:Nat),Inv B [] σ1 b.H s1->Ext a b->XA b G1->RB b (Be nt caps S) σ1->tn i s1.heap->(∀q∈fp,b.H q=uB)->
   s1.heap.PlainList M l.toArray->b.H M=uB->(∃vs,Vals vs l/\HA b F vs)->RelV v u->LB b x v->
   out E0 b (((g x (Be nt caps S) G1).bind λS1 G1=>(c S1 G1).bind λk G2=>if k=uC then(te S1 G2).bind λd G3=>(rest G3).bind λU G4=>.ok (d::U) G4 else rest G2).bind λU G=>Ac (F++U) G) Q->
   (∀(s2:vk)(b2:Wd)(G2:DH)(Z:St)(KW:List vB)(LW:List D),Inv B [] Z b2.H s2->Ext a b2->XA b2 G2->RB b2 (Be nt caps S) Z->tn i s2.heap->(∀q∈fp,b2.H q=uB)->
    s2.heap.PlainList M KW.toArray->b2.H M=uB->(∃vs,Vals vs KW/\HA b2 LW vs)->out E0 b2 ((rest G2).bind λU G=>Ac (LW++U) G) Q->P s2)->
   OQ X.prog X.w X.A tg elt ifs (.ref M) B.env P u s1:=by
  intro P rest s1 b G1 σ1 l F u v x i I1 x1 sb WX t1 NQ pl hD RQ ru rx hq next
  rw[R.bind_assoc]at hq;obtain⟨nD,eD⟩:=id pl;let JL:List (vW×Obj):=[(M,{cls:=.type "list",data:=.seq l.toArray nD})];have SQ:∀{L:St}{H':Hp}{s':vk},Inv B (JL++Lz fp s1.heap) L H' s'->s'.heap.PlainList M l.toArray/\H' M=uB/\tn i s'.heap/\∀q∈fp,H' q=uB:=λ{L H' s'}J=>by
   have p1:=J.pin (M,{cls:=.type "list",data:=.seq l.toArray nD}) (zG _ (qT _ (by simp[JL])));refine⟨⟨nD,p1.1⟩,p1.2.1,T.keep _ _ _ t1 λq O o e=>(J.pin (q,o) (zG _ (zG _ (Rv O e)))).1,λq O=>?_⟩;obtain⟨o,e,_⟩:=T.obj _ _ t1 q O;exact(J.pin (q,o) (zG _ (zG _ (Rv O e)))).2.1
  have I2:Inv B (JL++Lz fp s1.heap) σ1 b.H s1:=I1.Gm λp hp=>by
   rcases qJ.mp hp with hp|hp
   .have e:p=(M,{cls:=.type "list",data:=.seq l.toArray nD}):=by simpa[JL]using hp
    subst e;exact⟨eD,hD,GW,λz=>(IW z),λv' z=>by cases z⟩
   obtain⟨hb,e⟩:=aG hp;obtain⟨f0,f1,f2,_⟩:=K' (ps:=[]) NQ (λp hp=>by cases hp) p.1 hb;obtain⟨o,e',dd⟩:=T.obj _ _ t1 p.1 hb;rw[e]at e';cases e';exact⟨e,f0,f1,f2,dd⟩
  refine YA (hg C s a.H fp _ s1 σ1 b.H v u _ I2 ru ⟨b,Be nt caps S,G1,x,x1.k.trans hk,rfl,sb,WX,rx,(rM hq).imp λ_ _ z=>z⟩) ?_;rintro _ s2 ⟨Z,H2',J2,b2,S2,G2,rfl,y2,sb2,rS2,eg,hq2⟩;rw[R.bind_assoc]at hq2;have MW:RB b2 (Be nt caps S) Z:=⟨by rw[WX.len,I1.len];exact J2.len.symm,λj e' hj=>rS2.get j e' (gk _ _ _ _ _ eg j e' (rQ hj) hj)⟩
  refine YA (YV C s a.H fp _ s2 Z b2.H _ J2 ⟨b2,S2,G2,y2.k.trans (x1.k.trans hk),rfl,sb2,rS2,(ao hq2).imp λ_ _ z=>z⟩) ?_;rintro k s3 ⟨H3,J3,b3,G3,rfl,y3,sb3,_,hq3⟩;cases k with
  |false=>
   obtain⟨p1,p2,p3,p4⟩:=SQ J3;obtain⟨vs,hv,rv⟩:=RQ
   exact next s3 b3 G3 Z l F (J3.Gm λp hp=>by cases hp) (x1.trans (y2.trans y3)) sb3 (MW.mono y3) p3 p4 p1 p2 ⟨vs,hv,(rv.mono y2).mono y3⟩ hq3
  | true=>
   have NW:out E0 b3 (((te S2 G3).bind λd G3=>(rest G3).bind λU G4=>.ok (d::U) G4).bind λU G=>Ac (F++U) G) Q:=hq3;rw[R.bind_assoc]at NW;refine YA (he C s a.H fp _ s3 Z b3.H _ J3 ⟨b3,S2,G3,y3.k.trans (y2.k.trans (x1.k.trans hk)),rfl,sb3,rS2.mono y3,(Eb NW).imp λ_ _ z=>z⟩) ?_;rintro w s4 ⟨vw,H4,J4,XR,b4,d4,G4,rfl,y4,sb4,q4,_,hq4⟩;obtain⟨p1,p2,p3,p4⟩:=SQ J4;rw[R.bind_assoc]at hq4;have Y:out E0 b4 ((rest G4).bind λU G=>Ac ((F++[d4])++U) G) Q:=by
    have e:(λ(U:List D)(G:DH)=>(R.ok (d4::U) G).bind λU G=>Ac (F++U) G)=λU G=>Ac ((F++[d4])++U) G:=by funext U G;simp
    rw[<-e];exact hq4
   obtain⟨vs,hv,rv⟩:=RQ;have hsz:l.toArray.size<=sizeLine:=by
    have:F.length<=1000000:=by
     cases hr:rest G4 with
     |ok U G5=>
      rw[hr]at Y;have P8:out E0 b4 (Ac ((F++[d4])++U) G5) Q:=Y;unfold Ac at P8;split at P8
      .rename_i hl;simp at hl;lia
      exact P8.elim
     |err e' G5=>rw[hr]at Y;exact(Y.1 rfl).elim
     |bad=>rw[hr]at Y;exact Y.elim
    rw[zk,<-hv.length,<-rv.length];exact zN this TB
   refine wpAny_list_append_plain p1 (λh' hpl N'=>?_) hsz;have J5:Inv B [] Z b4.H {s4 with heap:=h'}:=by refine(J4.Gm λp hp=>by cases hp).turned (λq o O e=>(N'.2 q O).trans e) p2 GW (.inr (by show s.heap.objs.size<=M;rw[hDe];exact zx _)) (λy c' ec=>?_) (λp hp=>absurd hp (by simp[B,JG]));obtain⟨v',o,e,_⟩:=I.cell y c' (cs.cl I.ok ec);intro z;rw[z,<-hDe]at e;exact absurd (zD e) (qB _)
   refine next _ b4 G4 Z (l++[w]) (F++[d4]) J5 (x1.trans (y2.trans (y3.trans y4))) sb4 ((MW.mono y3).mono y4) (T.keep _ _ _ p3 λq O o e=>(N'.2 q (λz=>C' (z▸O))).trans e) p4 (by simpa using hpl) p2 ⟨vs++[vw],hv.append (.cons XR .nil),(((rv.mono y2).mono y3).mono y4).append (.cons q4 HA.nil)⟩ Y
 have loop:∀s₃:vk,s₃={s with heap:=h₁,toks:=s.toks+([]:List (Str×vB)).length}->
   codeAny (vT X.prog X.w) X.A (.compLoop (.ListComp elt [⟨tg,iter,ifs,0⟩] t pos) 0 (.ref i0) (.ref M) B.env) (RR (.ref M) C) s₃:=by
  rintro s₃ rfl;have walk:=rJ;obtain⟨Iv,L9⟩:∃Iv:Nat->vk->Prop,∀m s',Iv m s'↔∃(i:Nat)(b:Wd)(G':DH)(L:St)(l:List vB)(F:List D),Inv B [] L b.H s'/\Ext a b/\XA b G'/\RB b (Be nt caps S) L/\tn i s'.heap/\(∀q∈fp,b.H q=uB)/\s'.heap.PlainList M l.toArray/\b.H M=uB/\(∃vs,Vals vs l/\HA b F vs)/\out E0 b ((Dj f g c te (Be nt caps S) m i G').bind λU G=>Ac (F++U) G) Q:=⟨_,λ_ _=>Iff.rfl⟩;refine rN Iv (λm s' h'=>?_) n0 ((L9 _ _).2 ⟨0,a,G,σ0,[],[],start _,Ext.refl a,sm,rP rS,T.keep _ _ _ t0 λq _ o e=>old q o e,λq hq=>(hf q hq).1,JS,I.SA.fresh (hDe▸zx _),⟨[],.nil,rfl⟩,by simpa using h⟩)
  obtain⟨i,b,G',L,l,F,IB,x,sb,WX,ti,NQ,pl,hD,O',hq⟩:=(L9 _ _).1 h';clear h';obtain⟨nD,eD⟩:=pl;have I0:=JL IB eD hD;have f0:=K' (ps:=[(M,{cls:=.type "list",data:=.seq l.toArray nD})]) NQ (λp hp=>by
   have ep:p=(M,{cls:=.type "list",data:=.seq l.toArray nD}):=by simpa using hp
   subst ep;exact C')
  have stop:J.stop i b.H->out E0 b (Ac F G') Q->∀P,PQ X.prog X.w X.A tg elt ifs (.ref i0) (.ref M) B.env (RR (.ref M) C (.ok .next)) P s':=by intro st O P;refine YA (T.done B rfl rfl rfl hc i _ s' L b.H _ I0 f0 ti st) ?_;rintro r s1 ⟨rfl,I2⟩;have pD:=(I2.pin (M,{cls:=.type "list",data:=.seq l.toArray nD}) (zG _ (by simp))).1;exact fin s1 b L l F G' (I2.Gm λp hp=>by cases hp) x sb ⟨nD,pD⟩ hD O' O
  cases m with
  |zero=>
   unfold Dj at hq;split at hq
   .rename_i hf;exact stop ((walk b x G' sb i).2 hf) (by have O:out E0 b (Ac (F++[]) G') Q:=hq;rw[qV]at O;exact O) _
   exact hq.elim
  | succ m=>
   unfold Dj at hq;split at hq
   .rename_i d1 hf;obtain⟨go,yl⟩:=(walk b x G' sb i).1 d1 hf;refine YA (T.item B rfl rfl rfl hc i _ s' L b.H _ I0 f0 ti go) ?_;rintro r s1 ⟨u,rfl,hgo⟩;refine YA hgo ?_;rintro _ s2 ⟨v,H',I2,ru,y,t2,hfp2⟩;obtain⟨cc,rfl,xx,ss,rd⟩:=yl v H' y;have pD:=I2.pin (M,{cls:=.type "list",data:=.seq l.toArray nD}) (zG _ (by simp));obtain⟨vs1,N9,SV⟩:=O';refine JW _ (λG3=>Dj f g c te (Be nt caps S) m (i+1) G3) s2 cc G' L l F u _ d1 (i+1) (I2.Gm λp hp=>by cases hp) (x.trans xx) ss (WX.mono xx) t2 hfp2 ⟨nD,pD.1⟩ pD.2.1 ⟨vs1,N9,SV.mono xx⟩ ru rd (out.mono xx hq) ?_
    intro s3 b3 G3 σ3 P9 X9 a1 a2 a3 a4 a5 a6 a7 a8 a9 a10;exact⟨m,qC _,(L9 _ _).2 ⟨i+1,b3,G3,σ3,P9,X9,a1,a2,a3,a4,a5,a6,a7,a8,a9,a10⟩⟩
   .rename_i hf;exact stop ((walk b x G' sb i).2 hf) (by have O:out E0 b (Ac (F++[]) G') Q:=hq;rw[qV]at O;exact O) _
   exact hq.elim
 exact codeAny_compStart_list (loop _ rfl) (T.self _ 0 _ _ _ (T.keep _ _ _ t0 λq _ o e=>old q o e) (loop _ rfl))
theorem V4{g:DG}{c:DB}{b:DE}{S:PB}{xs:List D}:∀(n j:Nat)(G:DH),j+n=lN xs->Bo g c b S (xs.drop j) G=Dj (λj _=>uA xs[j]?) g c b S n j G
 |0,j,G,h=>by
  rw[qL (by lia)]
  show _=(match uA xs[j]? with |some uB=>R.ok [] G|_=>.bad)
  rw[zM (by lia)]
  rfl
 |n+1,j,G,h=>by
  have a:j<lN xs:=by lia
  rw[zU a]
  show(g xs[j] S G).bind _=(match uA xs[j]? with |some (uA x)=>_|some uB=>R.ok [] G|none=>.bad)
  rw[zZ a];dsimp only
  congr 1
  funext l i
  congr 1
  funext k f;rw[V4 n (j+1) f (by lia)]
  congr 1
  congr 1
  funext d e;rw[V4 n (j+1) e (by lia)]
theorem bS{g:DG}{c:DB}{a:DE}:∀(n j:Nat)(G:DH),Ei i g c a S n j G=Dj (WO i) g c a S n j G
 | 0,j,G=>by
  unfold Ei Dj WO;cases G[i]? with
  |none=>rfl
  | some o=>
   cases o with
   |lst b=>
    dsimp only;by_cases d:j<lN b
    .rw[if_neg (by lia),zZ d]
    rw[if_pos (by lia),zM (by lia)]
   |_=>rfl
 | n+1,j,G=>by
  have e:(Ei i g c a S n (j+1))=Dj (WO i) g c a S n (j+1):=funext λG=>bS n (j+1) G
  unfold Ei Dj;rw[e];unfold WO;cases G[i]? with
  |none=>rfl
  | some o=>
   cases o with
   |lst b=>
    dsimp only
    cases b[j]?<;>rfl
   |_=>rfl
theorem bU(hc:X.calm=uC)(cs:ZB X N scope nt caps)
  (hg:∀C s₀ H₀ ex,QG (JG X N scope C s₀ H₀ ex) E0 tg g) (gk:GK nt g) (YV:∀C s₀ H₀ ex,QN (JG X N scope C s₀ H₀ ex) E0 ifs c) (he:∀C s₀ H₀ ex,QE (JG X N scope C s₀ H₀ ex) E0 elt te)
  {wS:List (vW×Obj)} {σ:St} {s:vk} {a:Wd} {S:PB} {G:DH} {J:It} {d:LM} {i0:vW} {fp:List vW} {tn:Nat->Heap->Prop} (I:Inv X wS σ a.H s) (hk:a.K=X.K) (sm:XA a G) (rS:RB a S σ)
  (T:Turn X.prog X.w X.K tg J fp i0 tn) (t0:tn 0 s.heap) (hf:∀b∈fp,PD X wS a.H b) (rJ:XE a d J) {Q:VK}
  (h:out E0 a ((match d with
   |.pure xs=>Bo g c te (Be nt caps S) xs G
   |.mt i=>match G[i]? with
    |some (.lst xs)=>Ei i g c te (Be nt caps S) (lN xs) 0 G
    |_=>.bad
   |.fn n f=>Dj f g c te (Be nt caps S) n 0 G).bind Ac) Q)
  {RR:vB->vW->Result->vk->Prop} {E':vB->vk->Prop}
  (ZV:∀(D C:vW)(s':vk)(b:Wd)(vs:List V),Inv X wS σ (upd b.H D (.lst vs)) s'->b.H D=uB->s.heap.objs.size<=C->D≠C->(∃m,s'.heap.Ns C m)->b.H C=uB->Q (.ref D) (upd b.H D (.lst vs))->RR (.ref D) C (.ok .next) s'):
  wq (vT X.prog X.w) X.A (newList []) (λacc s₃=>wq (vT X.prog X.w) X.A (newFunctionEnv scope X.env.globals (Cu X.env scope.names []) [] X.env.qual uB .none (uA X.env)) (λMM s₄=>
   codeAny (vT X.prog X.w) X.A (.compStart (.ListComp elt [⟨tg,iter,ifs,0⟩] scope pos) 0 (.ref i0) acc {MM with scope:=relabel scope X.env}) (RR acc MM.locals) s₄) E' s₃) E' s:=by
 cases d with
 |pure xs=>
  have h':out E0 a ((Bo g c te (Be nt caps S) (xs.drop 0) G).bind Ac) Q:=h;rw[V4 (lN xs) 0 G (by lia)]at h';exact Yy hc cs hg gk YV he I hk sm rS T t0 hf (bF rJ) h' ZV
 |mt k=>
  dsimp only at h;split at h
  .rename_i xs hx;rw[bS]at h;exact Yy hc cs hg gk YV he I hk sm rS T t0 hf (bG rJ) h ZV
  exact h.elim
 |fn n0 f=>exact Yy hc cs hg gk YV he I hk sm rS T t0 hf rJ h ZV
end
section
variable{X:Cx}{N:List Str}{scope:vx}{nt:Nat}{caps:List Nat}{tg elt iter:vY}{ifs:List vY}{pos:Pos}{it:DI}{g:DG}{c:DB}{te:DE}
def letGo{wS:List (vW×Obj)}{l:St}{H:Hp}{j s':vk}{h':Heap}{C:vW}{t':Nat}{i:St}{t:Hp}(f:Inv X wS i t j)(u:Inv X wS l H s')(h:j.heap.objs.size<=C)(n:H C=uB)(k:jK C s'.heap h'):Inv X wS l H {s' with heap:=h',toks:=t'}:=by
 have a:∀{b:vW}{o:Obj},j.heap.get? b=uA o->b≠C:=λe z=>by rw[z]at e;exact absurd (zj (zD e) h) (qB _)
 refine u.turned (λb o r e=>(k.2 b r).trans e) n (jw (zj f.lt h)) (.inr (zN f.sz h)) (λx s e=>?_) λp hp=>(a (f.pin p hp).1)
 .obtain⟨v,o,q,_⟩:=f.cell x s e;exact a q
def rR(L:X.calm=uC)(cs:ZB X N scope nt caps)(U:QI X E0 tg iter it)
  (F:∀C e f i,QG (JG X N scope C e f i) E0 tg g) (A:GK nt g) (n:∀C e f i,QN (JG X N scope C e f i) E0 ifs c) (M:∀C e f i,QE (JG X N scope C e f i) E0 elt te)
  (K:∀x,foldedSetIterable iter X.env x=pure x:=by intro _;rfl):QE X E0 (.ListComp elt [⟨tg,iter,ifs,0⟩] scope pos) (Bv it nt caps g c te):=by
 intro j s O H Q I h;obtain⟨a,S,G,hk,rfl,Y,r,h⟩:=h;rw[eval_ListComp];refine wpAny_comprehension_free rfl K (W9 (cs.cells I.ok)) cs.kind cs.names (YA (U j s O a.H _ I ⟨a,S,G,hk,rfl,Y,r,(bQ h).imp λ_ _ z=>z⟩) λxv s1 o=>YA o λw s2 y=>?_);obtain⟨i0,fp,tn,J,H2,rfl,u,T,P,B,b,d,G1,rfl,x,W,Z,_,o⟩:=y;refine bU L cs F A n M u (x.k.trans hk) W (r.mono x) T P B Z o ?_;intro D C s' b vs Ia hD l p ⟨m,v⟩ t E
 refine⟨m,v,λh' q=>⟨.ref D,_,letGo u Ia l ?_ q,rfl,E⟩⟩;rw[Ag (.symm p)];exact t
def bV(i:Nat){y:Str}{U n:Pos}(hc:X.calm=uC)(hN:X.N.Nodup)(cs:ZB X N scope nt caps)(hi:QI X E0 tg iter it)
  (hg:∀C f j t,QG (JG X N scope C f j t) E0 tg g) (gk:GK nt g) (A:∀C f j t,QN (JG X N scope C f j t) E0 ifs c) (he:∀C f j t,QE (JG X N scope C f j t) E0 elt te)
  (hy:X.N[i]?=uA y:=by rfl) (hx:Loc X.env.scope y:=by first|exact Or.inl rfl|exact Or.inr rfl) (hf:X.fn y=uC\/X.env.scope.names.lookup y=uA .local:=by first|exact .inl rfl|exact .inr rfl|assumption)
  (Q:swapsWith (.ListComp elt [⟨tg,iter,ifs,0⟩] scope pos) (uA (.Name y U)) n.line X.env=pure uC:=by rfl)
  (hs:∀x,foldedSetIterable iter X.env x=pure x:=by intro _;rfl):QS X E0 (.Assign [.Name y U] (.ListComp elt [⟨tg,iter,ifs,0⟩] scope pos) n) (JC (Bv it nt caps g c te) (gV i)):=by
 intro u s σ H W I h;obtain⟨a,S,G,hk,rfl,sm,r,h⟩:=h;have h0:=Gs h;rw[exec_Assign_Name_used _ _ _ _ Q];refine wj (wpAny_standAt (wj ?_));refine wj (w5 (wpAny_comprehension_free rfl hs (W9 (cs.cells I.ok)) cs.kind cs.names
  (YA (hi u s σ a.H _ I ⟨a,S,G,hk,rfl,sm,r,(bQ h0).imp λ_ _ z=>z⟩) λxv s1 F=>YA F λO0 s2 h2=>?_)) (λ_ s' K=>w9 (w9 K)) λ_ _ e=>e)
 obtain⟨i0,fp,tn,J,H2,rfl,w,T,t0,f2,b,d,G1,rfl,x,sb,rJ,_,F⟩:=h2;refine bU hc cs hg gk A he w (x.k.trans hk) sb (r.mono x) T t0 f2 rJ F ?_;intro D C s' b' vs Ia hD l M ⟨m,Z⟩ P K;refine wpAny_assign_Name (Zy Ia hN hy hx (v:=.ref D) rfl (λVT B E=>?_) hf);obtain⟨a',q,p⟩:=E;have L:C≠a':=by
  rintro rfl;rcases p with rfl|p
  .exact absurd (zj w.lt l) (qB _)
  obtain⟨v,o,e',_⟩:=w.cell _ _ p;exact absurd (zj (zD e') l) (qB _)
 refine⟨m,Z.sameBut q L,λh' O=>⟨_,_,letGo w B l ?_ O,?_⟩⟩
 .rw[Ag (.symm M)];exact P
 obtain⟨Y,d3,G3,e3,x3,s3,q3,_,h3⟩:=K;rw[<-e3];exact h3 Y _ (.refl Y) s3 ((r.mono x3).set i q3)
end
def Gw:D->DH->R D
 |.int i,G=>.ok (.int (-i)) G
 |_,_=>.bad
noncomputable def Cy:D->Bool
 |.KA=>uC
 |_=>uD
def Ih:D->D->DH->R D
 |d,.KA,G=>.ok (.bl (Cy d)) G
 |_,_,_=>.bad
def Jw:D->D->DH->R D
 |d,.KA,G=>.ok (.bl (!Cy d)) G
 |_,_,_=>.bad
noncomputable def K4:D->Option V
 |.KA=>uA .KA
 |.bl b=>uA (.bl b)
 |.int i=>uA (.int i)
 |.str x=>uA (.str x)
 |_=>uB
def Hn:List D->Option (List V)
 |[]=>uA []
 |d::r=>match K4 d,Hn r with
  |some v,uA vs=>uA (v::vs)
  |_,_=>uB
def inD(d e:D)(G:DH):Option Bool:=match e with
 |.str j=>match d with
  |.str i=>uA (!(jh j i 0 j.length 1).isEmpty)
  |_=>uB
 |e=>match Bk e G,K4 d with
  |some xs,uA v=>(Hn xs).map λvs=>NN v vs
  |_,_=>uB
def Ir(d e:D)(G:DH):R D:=match inD d e G with
 |some k=>.ok (.bl (!k)) G
 |none=>.bad
section
variable{X:Cx}{E:XK}{a b:vY}{ta tb:DE}{pos:Pos}
theorem rT:UT X (unaryOp .USub) (y' X.K E Gw):=λc s f H x v Q I g h=>by
 obtain⟨a,G,d,hk,rfl,j,e,q⟩:=h;cases d with
 |int i=>exact l8 c s f a.H x v Q I g ⟨i,e,q a _ (.refl a) j rfl⟩
 |_=>exact q.elim
def rV(ho:UT X (unaryOp op) (y' X.K E f))(g:QE X E a ta):QE X E (.UnaryOp op a pos) (KM f ta):=(lZ ho g).mono λj H Q h=>by obtain⟨a,S,G,hk,rfl,s,r,h⟩:=h;refine⟨a,S,G,hk,rfl,s,r,(Eb h).imp ?_⟩;rintro v _ ⟨b,d,c,rfl,x,i,q,-,e⟩;exact⟨b,c,d,x.k.trans hk,rfl,i,q,e⟩
def rW(d:Gl X x)(f:X.mg x=uB)(e:vL x=uA (.type n))(c:x≠"__name__":=by decide)(g:(x==("__debug__":Str))=uD:=by decide):QE X E (.Name x pos) (dC (.ty n)):=
 (k4 (v:=.ty n) d f e rfl c g).mono λi H Q h=>Li h λ_ _=>rfl
theorem bW{a:Wd}(c:LB a d x):decide (x=V.KA)=Cy d:=by
 cases d with
 |tup _|fl _=>obtain⟨p,e,rfl,_⟩:=c;rfl
 |ref _=>rw[c.2];rfl
 |_=>rw[c];rfl
theorem Na:WB X (vN .Is) (GF X.K E Ih):=Fp lm λa G d e x y Q hk s c f q=>by
 cases e with
 |KA=>exact⟨f,by rw[bW c];cases d<;>exact q a _ (.refl a) s rfl⟩
 |_=>cases d<;>exact q.elim
theorem rX:WB X (vN .IsNot) (GF X.K E Jw):=Fp lq λa G d e x y Q hk s c f q=>by
 cases e with
 |KA=>exact⟨f,by rw[bW c];cases d<;>exact q a _ (.refl a) s rfl⟩
 |_=>cases d<;>exact q.elim
def bX{a:Wd}(r:LB a d x)(h:K4 d=uA v):x=v/\Dt v=uC:=by
 cases d<;>first
  |(cases h;exact⟨r,rfl⟩)
  |cases h
theorem bY{a:Wd}:∀{c:List D}{xs vs:List V},HA a c xs->Hn c=uA vs->xs=vs/\vs.all Dt=uC
 |[],xs,vs,r,h=>by cases h;exact⟨r,rfl⟩
 |d::c,xs,vs,r,h=>by
  obtain⟨x,o,rfl,i,j⟩:=r;unfold Hn at h;split at h
  .rename_i v n e g;cases h;obtain⟨f,k⟩:=bX i e;obtain⟨l,m⟩:=bY j g;subst f;subst l;exact⟨rfl,by rw[jH,k,m];rfl⟩
  cases h
theorem rY{a:Wd}(s:XA a G)(c:LB a d x)(f:LB a e y)(h:inD d e G=uA k):
  (∃i j,x=.str i/\y=.str j/\k= !(jh j i 0 j.length 1).isEmpty)\/(∃p xs,y=.ref p/\(OE a.K a.H p xs\/VE a.K a.H p xs)/\Dt x=uC/\xs.all Dt=uC/\k=NN x xs):=by
 have seq:(match Bk e G,K4 d with |some xs,uA v=>(Hn xs).map λt=>NN v t|_,_=>uB)=uA k->(∃p xs,y=.ref p/\(OE a.K a.H p xs\/VE a.K a.H p xs)/\Dt x=uC/\xs.all Dt=uC/\k=NN x xs):=λh=>by
  split at h
  .rename_i xs v l n;obtain⟨p,g,m,q,r⟩:=Jo s f l;obtain⟨A,B⟩:=bX c n;subst A;rw[qX]at h;obtain⟨C,u,w⟩:=h;obtain⟨o,z⟩:=bY r u;subst o;exact⟨p,g,m,q,B,z,w.symm⟩
  cases h
 cases e with
 |str j=>
  cases d with
  |str i=>exact .inl ⟨i,j,c,f,(Option.some.inj h).symm⟩
  |_=>cases h
 |tup xs|fl xs|ref i|_=>exact .inr (seq h)
def bZ:WB X (vN .NotIn) (GF X.K E Ir):=Fp (lu.or nU) λa G d e x y Q hk s f l q=>by
 unfold Ir at q;split at q
 .rename_i k h;have z:=q a _ (.refl a) s rfl;rcases rY s f l h with⟨i,j,c,o,rfl⟩|⟨p,n,c,g,m,r,rfl⟩
  .exact .inl ⟨i,j,c,o,z⟩
  exact .inr ⟨p,n,c,by rw[<-hk];exact g,m,r,z⟩
 exact q.elim
end
def rZ:vL "isinstance"=uA (.builtin "isinstance"):=by decide +kernel
def r8:vL "all"=uA (.builtin "all"):=by decide +kernel
def r9:vL "sum"=uA (.builtin "sum"):=by decide +kernel
def rh:vL "min"=uA (.builtin "min"):=by decide +kernel
def rk:vL "len"=uA (.builtin "len"):=by decide +kernel
def rq:vL "int"=uA (.type "int"):=by decide +kernel
def sA:vL "bool"=uA (.type "bool"):=by decide +kernel
def sD:vL "tuple"=uA (.type "tuple"):=by decide +kernel
def sE:vL "list"=uA (.type "list"):=by decide +kernel
noncomputable def M7:vz->Bool | .local=>uC|_=>uD
noncomputable def Ly:vz->Bool | .cell=>uC|_=>uD
noncomputable def Ln:vz->Bool | .free=>uC|_=>uD
noncomputable def RN(p:vz->Bool):Option vz->Bool|some k=>p k|none=>uD
def sF(h:M7 k=uC):k=.local:=by cases k<;>first|rfl|cases h
def sG(h:Ly k=uC):k=.cell:=by cases k<;>first|rfl|cases h
def ba(h:Ln k=uC):k=.free:=by cases k<;>first|rfl|cases h
theorem Rk(hp:∀a,p a=uC->a=k)(h:RN p o=uC):o=uA k:=by
 cases o with
 |none=>cases h
 |some a=>rw[hp _ h]
def Te(dn:List (Str×vz))(N0 N:List Str)(names:List (Str×vz))(nt:Nat)(caps:List Nat):Bool:=
 names.all (λy=>(!M7 y.2||RN M7 (names.lookup y.1)) && !Ly y.2&&(!Ln y.2||RN Ly (dn.lookup y.1)||RN Ln (dn.lookup y.1)))&&decide N.Nodup&&decide (lN N=nt+lN caps) &&
 (zW (lN caps)).all λk=>match caps[k]? with
  |some j=>match N0[j]? with
   |some x=>decide (N[nt+k]?=uA x)&&RN Ln (names.lookup x)
   |none=>uD
  |none=>uC
theorem Qt{X:Cx}{N0 N:List Str}{a:vx}{nt:Nat}{caps:List Nat}{dn:List (Str×vz)}(hk:a.kind=.function:=by rfl)(f:∀x,X.env.kindOf x=dn.lookup x:=by intro _;rfl)(m:X.N=N0:=by rfl)
  (h:Te dn N0 N a.names nt caps=uC:=by decide +kernel):ZB X N a nt caps:=by
 unfold Te at h;rw[qQ,qQ,qQ]at h;obtain⟨⟨⟨g,n⟩,o⟩,l⟩:=h;rw[j9]at g l;have b:=λ(y:Str×vz)(c:y∈a.names)=>(by have:=g y c;rw[qQ,qQ]at this;exact this:((!M7 y.2||RN M7 (a.names.lookup y.1))=uC/\(!Ly y.2)=uC)/\(!Ln y.2||RN Ly (dn.lookup y.1)||RN Ln (dn.lookup y.1))=uC)
 refine⟨hk,λy c d=>?_,λy c d=>?_,λy c d=>?_,of_decide_eq_true n,of_decide_eq_true o,λk j i=>?_⟩
 .have:=(b y c).1.1;rw[d]at this;exact Rk (λ_ h=>sF h) (by have t:(uD||RN M7 (a.names.lookup y.1))=uC:=this;simpa using t)
 .have:=(b y c).1.2;rw[d]at this;exact absurd this (by decide)
 .have:=(b y c).2;rw[d,xk]at this;rw[f];rcases this with h|h
  .exact .inl (Rk (λ_ h=>sG h) (by have t:(uD||RN Ly (dn.lookup y.1))=uC:=h;simpa using t))
  exact .inr (Rk (λ_ h=>ba h) h)
 have:=l k (qz.mpr ((zX.mp i).1));rw[i]at this;dsimp only at this;cases e:N0[j]? with
 |none=>rw[e]at this;cases this
 |some x=>
  rw[e]at this;dsimp only at this;rw[qQ]at this;exact⟨x,m▸e,of_decide_eq_true this.1,Rk (λ_ h=>ba h) this.2⟩
section
section
variable{X:Cx}{wS:List (vW×Obj)}{σ:St}{H:Hp}{s:vk}
def sH(I:Inv X wS σ H s)(h:H p=uA (.lst xs)):∃o,Inv X wS σ (upd H p (.WC o (.lst xs))) s:=by
 obtain⟨j,a,n,r,e⟩:=I.SA p _ h;have f:∀b(u:HO),H b=uA u->u≠ .lst xs->b≠p:=λb u q d z=>by subst z;rw[h]at q;exact d (Option.some.inj q).symm
 refine⟨_,I.un (H':=upd H p (.WC {cls:=.type "list",data:=.seq a.toArray n} (.lst xs))) ⟨λb o q _ _ _=>q,λb o q _ _ _=>⟨o.slots,q⟩,λb o q z _=>?_,λb o q _=>⟨o,q⟩,λb i q=>?_,λb o u q=>?_,λb l q=>⟨#[],?_⟩⟩ ?_⟩
 .rw[Ag (λk=>by subst k;rw[h]at z;cases z)];exact z
 .rw[Ag (f b _ q (by intro z;cases z))];exact q
 .rw[Ag (f b _ q (by intro z;cases z))];exact q
 .rw[Ag (f b _ q (by intro z;cases z)),Array.append_empty];exact q
 intro b u q;by_cases g:b=p
 .subst g;rw[Di]at q;cases q;exact⟨e,j,a,n,r,e⟩
 .rw[Ag g]at q;exact(I.SA b u q).ZF (λc v _ z=>z) (λc z=>by rw[Ag (f c _ z (by intro z;cases z))];exact z) λc i z=>by rw[Ag (f c _ z (by intro z;cases z))];exact z
def Fz(P:vW->Prop)(H H':Hp):Prop:=∀p,(H' p=H p/\(∀vs,H p=uA (.lst vs)->¬P p))\/∃o vs,P p/\H p=uA (.lst vs)/\H' p=uA (.WC o (.lst vs))
theorem bc(I:Inv X wS σ H s)(m:Nat->vW)(n:Nat):∀k:Nat,∃H',Inv X wS σ H' s/\Fz (λp=>∃i,n<=i/\i<n+k/\p=m i) H H'
 |0=>⟨H,I,λp=>.inl ⟨rfl,λ_ _ ⟨i,g,l,_⟩=>by lia⟩⟩
 | k + 1=>by
  obtain⟨H',r,F⟩:=bc I m n k;have f:(∀a,H' (m (n+k))≠uA (.lst a))->Fz (λp=>∃i,n<=i/\i<n+(k+1)/\p=m i) H H':=λw p=>by
   rcases F p with⟨e,z⟩|⟨o,a,⟨i,g,l,d⟩,b,h⟩
   .refine .inl ⟨e,λa b ⟨i,g,l,d⟩=>?_⟩;by_cases q:i<n+k
    .exact z a b ⟨i,g,q,d⟩
    have:i=n+k:=by lia
    subst this;subst d;exact w a (e.trans b)
   exact .inr ⟨o,a,⟨i,g,by lia,d⟩,b,h⟩
  cases j:H' (m (n+k))with
  |none=>exact⟨H',r,f λa z=>by rw[j]at z;cases z⟩
  | some u=>
   cases u with
   | lst a=>
    obtain⟨o,v⟩:=sH r j;refine⟨_,v,λp=>?_⟩;by_cases hp:p=m (n+k)
    .subst hp;rcases F (m (n+k))with⟨e,z⟩|⟨t,c,_,b,h⟩
     .exact .inr ⟨o,a,⟨n+k,by lia,by lia,rfl⟩,e.symm.trans j,Di⟩
     rw[j]at h;cases h
    rcases F p with⟨e,z⟩|⟨t,c,⟨i,g,l,d⟩,b,h⟩
    .refine .inl ⟨(Ag hp)▸e,λc b ⟨i,g,l,d⟩=>?_⟩;by_cases q:i<n+k
     .exact z c b ⟨i,g,q,d⟩
     .have:i=n+k:=by lia
      subst this;exact hp d
    exact .inr ⟨t,c,⟨i,g,by lia,d⟩,b,(Ag hp)▸h⟩
   |_=>exact⟨H',r,f λa z=>by rw[j]at z;cases z⟩
end
noncomputable def Ja(f:D->Option D):List D->Option (List D)
 |[]=>uA []
 |d::r=>match f d,Ja f r with
  |some d',uA r'=>uA (d'::r')
  |_,_=>uB
def G7(G:DH)(n:Nat):Nat->D->Option D
 |0,_=>uB
 | k+1,d=>if QB n d=uC then uA d else match d with
  |.ref i=>match G[i]? with
   |some (.lst xs)=>(Ja (G7 G n k) xs).map .fl
   |_=>uB
  |.tup xs=>(Ja (G7 G n k) xs).map .tup
  |.fl xs=>(Ja (G7 G n k) xs).map .fl
  |_=>uB
open Classical in
def freeze(G:DH)(r:R D):R D:=match r with
 | .ok d G'=>if G'.take (lN G)=G then(match G7 G' (lN G) 9 d with
   |some d'=>.ok d' G
   |none=>.ok d G')else .ok d G'
 |r=>r
def Aj(t:DE):DE:=λS G=>freeze G (t S G)
structure SH (b c:Wd) (n:Nat):Prop where
 k:c.K=b.K
 n:c.n=n
 m:c.m=b.m
 tup:∀p xs,b.H p=uA (.tup xs)->c.H p=uA (.tup xs)
 WC:∀p o u,b.H p=uA (.WC o u)->c.H p=uA (.WC o u)
def SH.IQ{b c:Wd}{n:Nat}(x:SH b c n){p:vW}{xs:List V}(h:VE b.K b.H p xs):VE c.K c.H p xs:=by
 rcases h with(h|⟨o,h⟩)|h
 .exact .inl (.inl (x.tup _ _ h))
 .exact .inl (.inr ⟨o,x.WC _ _ _ h⟩)
 exact .inr (x.k▸h)
def SH.JQ{b c:Wd}{n:Nat}(x:SH b c n){p:vW}{xs:List V}(h:ZR b.K b.H p xs):ZR c.K c.H p xs:=by
 rcases h with⟨o,h⟩|⟨e,h⟩
 .exact .inl ⟨o,x.WC _ _ _ h⟩
 exact .inr ⟨e,x.k▸h⟩
mutual
theorem LB.Gn(x:SH b c n):∀{d:D}{v:V},LB b d v->QB n d=uC->LB c d v
 |.KA,_,h,_=>h
 |.bl _,_,h,_=>h
 |.int _,_,h,_=>h
 |.str _,_,h,_=>h
 |.ty _,_,h,_=>h
 |.tup g,v,h,q=>by obtain⟨p,a,e,t,r⟩:=h;simp only[_D.QB]at q;exact⟨p,a,e,x.IQ t,HA.Gn x r q⟩
 |.fl g,v,h,q=>by obtain⟨p,a,e,t,r⟩:=h;simp only[_D.QB]at q;exact⟨p,a,e,x.JQ t,HA.Gn x r q⟩
 |.ref i,v,h,q=>by obtain⟨l,e⟩:=h;simp only[_D.QB]at q;have f:=of_decide_eq_true q;exact⟨by rw[x.n];exact f,by rw[x.m];exact e⟩
theorem HA.Gn(x:SH b c n):∀{ds:List D}{vs:List V},HA b ds vs->NA n ds=uC->HA c ds vs
 |[],_,h,_=>h
 |d::ds,vs,h,q=>by obtain⟨v,r,e,f,a⟩:=h;simp only[_D.NA,qQ]at q;exact⟨v,r,e,LB.Gn x f q.1,HA.Gn x a q.2⟩
end
theorem Ua(g:∀d d' v,f d=uA d'->LB b d v->LB c d' v):∀{ds a:List D}{vs:List V},Ja f ds=uA a->HA b ds vs->HA c a vs
 |[],a,vs,e,h=>by cases e;exact h
 |d::ds,a,vs,e,h=>by
  obtain⟨v,r,rfl,l,j⟩:=h;unfold Ja at e;split at e
  .rename_i d' m i k;cases e;exact⟨v,r,rfl,g _ _ _ i l,Ua g k j⟩
  cases e
theorem bg(s:XA b G')(x:SH b c n)(hz:∀i,n<=i->i<b.n->∀vs,b.H (b.m i)=uA (.lst vs)->∃o,c.H (b.m i)=uA (.WC o (.lst vs))):∀(k:Nat)(d d':D)(v:V),G7 G' n k d=uA d'->LB b d v->LB c d' v
 |0,d,d',v,e,h=>by cases e
 | k+1,d,d',v,e,h=>by
  have g:=bg s x hz k;unfold G7 at e;split at e
  .rename_i f;cases e;exact h.Gn x f
  rename_i f;cases d with
  | ref i=>
   dsimp only at e;split at e
   .rename_i l z;rw[qX]at e;obtain⟨j,a,rfl⟩:=e;obtain⟨vs,y,w⟩:=s.obj i _ z;obtain⟨u,rfl⟩:=h;have q:n<=i:=by simp[_D.QB,decide_eq_true_eq]at f;lia
    obtain⟨o,A⟩:=hz i q u vs y;exact⟨_,vs,rfl,.inl ⟨o,A⟩,Ua g a w⟩
   cases e
  |tup l=>
   dsimp only at e;rw[qX]at e;obtain⟨j,a,rfl⟩:=e;obtain⟨p,vs,rfl,t,r⟩:=h;exact⟨p,vs,rfl,x.IQ t,Ua g a r⟩
  |fl l=>
   dsimp only at e;rw[qX]at e;obtain⟨j,a,rfl⟩:=e;obtain⟨p,vs,rfl,t,r⟩:=h;exact⟨p,vs,rfl,x.JQ t,Ua g a r⟩
  |_=>cases e
def bh{X:Cx}{wS:List (vW×Obj)}{σ:St}{sh:vk}{a b:Wd}{G G':DH}(s:XA a G)(hG:G'.take (lN G)=G)(x:Ext a b)(sb:XA b G')(I:Inv X wS σ b.H sh):
  ∃c:Wd,Inv X wS σ c.H sh/\Ext a c/\XA c G/\SH b c a.n/\∀(k:Nat)(d d':D)(v:V),G7 G' (lN G) k d=uA d'->LB b d v->LB c d' v:=by
 have hlen:∀i o,G[i]?=uA o->G'[i]?=uA o:=λi o e=>by have hi:i<lN G:=(zX.mp e).1;rw[<-hG,qE hi]at e;exact e
 obtain⟨H',I',F⟩:=bc I b.m a.n (b.n-a.n);have Sa:a.n+(b.n-a.n)=b.n:=by have:=x.n;lia
 rw[Sa]at F;have ct:∀p(u:HO),(∀vs,u≠ .lst vs)->b.H p=uA u->H' p=uA u:=λp u nu e=>by
  rcases F p with⟨e1,_⟩|⟨o,vs,_,e1,_⟩
  .exact e1.trans e
  .rw[e]at e1;exact absurd (Option.some.inj e1) (nu vs)
 have tabs:∀p,RE b.H p->RE H' p:=λp t=>t.mono (λp ps e=>ct p _ (by intro _ z;cases z) e) λp o u e=>ct p _ (by intro _ z;cases z) e
 have cc:SH b ⟨b.K,a.n,b.m,H'⟩ a.n:=⟨rfl,rfl,rfl,λp xs e=>ct p _ (by intro _ z;cases z) e,λp o u e=>ct p _ (by intro _ z;cases z) e⟩;have old:∀i,i<a.n->H' (b.m i)=b.H (b.m i):=λi hi=>by
  rcases F (b.m i)with⟨e1,_⟩|⟨o,vs,⟨j,h1,h2,h3⟩,e1,e2⟩
  .exact e1
  .have:=sb.inj i j (zj hi x.n) h2 h3;lia
 refine⟨⟨b.K,a.n,b.m,H'⟩,I',⟨x.k,zx _,x.m,λp xs e=>cc.tup p xs (x.tup p xs e),λp o u e=>cc.WC p o u (x.WC p o u e),λp t=>tabs p (x.tab p t)⟩,⟨s.len,λi j hi hj=>sb.inj i j (zj hi x.n) (zj hj x.n),λi o e=>?_,λi hi=>?_⟩,cc,λk d d' v hd rb=>?_⟩
 .show QD ⟨b.K,a.n,b.m,H'⟩ o (H' (b.m i));rw[old i (s.lt e)];have q:=sb.obj i o (hlen i o e);have lb:=(s.obj i o e).Ie;cases o with
  |lst ds=>obtain⟨vs,e1,r1⟩:=q;exact⟨vs,e1,r1.Gn cc lb⟩
  |YR JA=>obtain⟨us,e1,k1,r1⟩:=q;exact⟨us,e1,k1,r1.Gn cc lb⟩
  |RC JA=>obtain⟨us,e1,k1,r1⟩:=q;exact⟨us,e1,k1,r1.Gn cc lb⟩
  |ins c fs=>obtain⟨C,dx,us,n1,e1,k1,r1⟩:=q;exact⟨C,dx,us,n1,e1,k1,r1.Gn cc lb⟩
  |tab C m=>obtain⟨c1,P1,e1,t1⟩:=q;exact⟨c1,P1,e1,tabs _ t1⟩
  |exc c fs=>
   obtain⟨C,oe,u,vs,n1,e1,k1,k2,z⟩:=q;refine⟨C,oe,u,vs,n1,e1,k1,k2,?_⟩;rcases z with z|⟨dx,o,us,e2,f2,k3,r1⟩
   .exact .inl z
   .exact .inr ⟨dx,o,us,e2,cc.WC _ _ _ f2,k3,r1.Gn cc lb⟩
  |gone=>trivial
 .show H' (b.m i)≠uB;rw[old i hi];exact sb.tr i (zj hi x.n)
 .rw[s.len]at hd;refine bg sb cc (λi h1 h2 vs e=>?_) k d d' v hd rb;rcases F (b.m i)with⟨e1,z⟩|⟨o,IL,_,e1,e2⟩
  .exact absurd ⟨i,h1,h2,rfl⟩ (z vs e)
  .rw[e]at e1;cases e1;exact⟨o,e2⟩
theorem sI(s:XA a G)(h:out E a (freeze G r) Q):
  out E a r λv H=>∀(wS:List (vW×Obj))(g:St)(j:vk),Inv X wS g H j->∃H',Inv X wS g H' j/\Q v H':=by
 cases r with
 | ok d n=>
  intro b v x f i wS g j I;unfold freeze at h;dsimp only at h;split at h
  .rename_i m;split at h
   .rename_i t l;obtain⟨c,k,q,p,u,o⟩:=bh s m x f I;exact⟨c.H,k,h c v q p (o _ _ _ _ l i)⟩
   exact⟨_,I,h b v x f i⟩
  exact⟨_,I,h b v x f i⟩
 |_=>exact h
def bi(k:QE X E e t):QE X E e (Aj t):=λb s d H Q I h=>by
 obtain⟨a,S,G,hk,rfl,c,r,h⟩:=h;refine YA (k b s d a.H _ I ⟨a,S,G,hk,rfl,c,r,sI (X:=X) c h⟩) λu j zz=>?_
 obtain⟨v,m,g,rv,q⟩:=zz;obtain⟨i,f,l⟩:=q b d j g;exact⟨v,i,f,rv,l⟩
theorem sJ{X:Cx}{E:XK}{st:vA}{t:DE}{i:Nat}(Y:QS X E st (JC t (gV i))):QS X E st (JC (Aj t) (gV i)):=λg s o H W I h=>by
 obtain⟨a,S,G,hk,rfl,J,r,h⟩:=h;have Q:Bw E a (JC t (gV i) S G) {W with nx:=λo H=>∀(g:List (vW×Obj))(F:vk),Inv X g o H F->∃C,Inv X g o C F/\W.nx o C}:=by
  unfold JC Aj at h;unfold JC;cases B:t S G with
  | ok d U=>
   rw[B]at h;intro b k x A n g F I;unfold freeze at h;dsimp only at h;split at h
   .rename_i hG;split at h
    .rename_i d' L;obtain⟨c,K,xc,N,cc,M⟩:=bh J hG x A I;refine⟨c.H,K,h c k xc N ⟨?_,λj e l=>?_⟩⟩
     .rw[jQ,<-n.len,jQ]
     rw[jy]at l;by_cases m:i=j
     .subst m;rw[if_pos rfl]at l;by_cases y:i<lN S
      .rw[if_pos y]at l;have Z:d'=e:=by simpa using l
       subst Z;obtain⟨v,w,rv⟩:=n.get i d (by rw[jy,if_pos rfl,if_pos y]);exact⟨v,w,M _ _ _ _ L rv⟩
      rw[if_neg y]at l;cases l
     .rw[if_neg m]at l;obtain⟨v,w,rv⟩:=n.get j e (by rw[jy,if_neg m];exact l);obtain⟨v',_,z⟩:=r.get j e l;exact⟨v,w,rv.Gn cc z.QB⟩
    exact⟨_,I,h b k x A n⟩
   exact⟨_,I,h b k x A n⟩
  |_=>rw[B]at h;exact h
 refine YA (Y g s o a.H _ I ⟨a,S,G,hk,rfl,J,r,Q⟩) λf T p=>?_
 cases f with
 |next=>
  obtain⟨k,C,I',q⟩:=p;obtain⟨H2,P,O⟩:=q g T I';exact⟨k,H2,P,O⟩
 |_=>exact p
end
section
variable{S:PB}{G:DH}
@[simp]theorem ev_V:dV i S G=(match S[i]? with |some (uA d)=>.ok d G|_=>.bad):=id rfl
@[simp]theorem ev_C:dC d S G=.ok d G:=id rfl
@[simp]theorem P':WA f a b S G=(a S G).bind λx e=>(b S e).bind λy d=>f x y d:=id rfl
@[simp]theorem S':KM f a S G=(a S G).bind f:=id rfl
@[simp]theorem Ta:Ba S G=.ok [] G:=id rfl
@[simp]theorem EN:Ak a r S G=(a S G).bind λx d=>(r S d).bind λxs b=>.ok (x::xs) b:=id rfl
@[simp]theorem T':IA f t S G=(t S G).bind f:=id rfl
@[simp]theorem EO:Bg t S G=tidy G (t S G):=id rfl
@[simp]theorem Ya:Aj t S G=freeze G (t S G):=id rfl
@[simp]theorem Kb:UO (.bl k) G=.ok k G:=id rfl
@[simp]theorem Mb:Ai t S G=(t S G).bind UO:=id rfl
@[simp]theorem Qb:Gi t u S G=(t S G).bind λk a=>if k=uC then u S a else .ok uD a:=id rfl
@[simp]theorem V':IG t u S G=(t S G).bind λk a=>if k=uC then .ok uC a else u S a:=id rfl
@[simp]theorem Sb:Ex t S G=(t S G).bind λk a=>.ok (!k) a:=id rfl
@[simp]theorem EQ:Hm t u S G=(t S G).bind λx b=>(UO x b).bind λk a=>if k=uC then u S a else .ok (.bl uD) a:=id rfl
@[simp]theorem ER:Ti t S G=(t S G).bind λx b=>(UO x b).bind λk a=>.ok (.bl (!k)) a:=id rfl
@[simp]theorem W':VO c t u S G=(c S G).bind λk a=>if k=uC then t S a else u S a:=id rfl
@[simp]theorem ES:Ov f g a b c S G=(a S G).bind λx e=>(b S e).bind λy m=>(f x y m).bind λz h=>(UO z h).bind λk d=>
 if k=uC then(c S d).bind λw o=>g y w o else .ok (.bl uD) d:=id rfl
@[simp]theorem Tb:PF S G=.nx S G:=id rfl
noncomputable def SR.then(u:DS)(_:Fx u:=())(r:SR):SR:=match r with
 |.nx S1 G1=>u S1 G1
 |r=>r
@[simp]theorem Sv:Ae t u S G=(t S G).then u:=id rfl
@[simp]theorem Rb:(SR.nx S G).then u=u S G:=id rfl
@[simp]theorem ET:(SR.rt d G).then u=.rt d G:=id rfl
@[simp]theorem Ic:JD t S G=(t S G).toS λ_ a=>.nx S a:=id rfl
@[simp]theorem Lc:YB t S G=(t S G).toS λd a=>.rt d a:=id rfl
@[simp]theorem Mc:HF c t u S G=(c S G).toS λk a=>if k=uC then t S a else u S a:=id rfl
@[simp]theorem Nc:JC t g S G=(t S G).toS λd b=>(g d S b).toS λe a=>.nx e a:=id rfl
@[simp]theorem sM:Br it g b S G=(it S G).toS λJ a=>(match J with
 |.pure xs=>Aw g b xs S a
 |.mt i=>match a[i]? with
  |some (.lst xs)=>forM i g b (lN xs) 0 S a
  |_=>.bad
 |.fn n f=>Cv f g b n 0 S a):=id rfl
@[simp]theorem sO:Dg t S G=(t S G).bind Ed:=id rfl
@[simp]theorem EU:Bb f t S G=(t S G).bind f:=id rfl
@[simp]theorem Cp:gV i d S G=.ok (S.set i (uA d)) G:=id rfl
@[simp]theorem EV:Bq [] S G=.ok S G:=id rfl
@[simp]theorem EW:Ah t u (d::r) S G=(t d S G).bind λb a=>u r b a:=id rfl
@[simp]theorem EX:Bm n t (.tup ds) S G=if lN ds=n then t ds S G else .bad:=id rfl
@[simp]theorem Pc:ON o i v S G=(o S G).bind λo b=>(i S b).bind λi a=>(Fy o i v a).bind λ_ d=>.ok S d:=id rfl
@[simp]theorem Md:Cj f o t S G=(o S G).bind λx a=>if PN x a=uC then(t S a).bind λxs b=>f x xs b else .bad:=id rfl
@[simp]theorem EY:Bv it nt caps g c te S G=(it S G).bind λJ a=>(match J with
 |.pure xs=>Bo g c te (Be nt caps S) xs a
 |.mt i=>match a[i]? with
  |some (.lst xs)=>Ei i g c te (Be nt caps S) (lN xs) 0 a
  |_=>.bad
 |.fn n f=>Dj f g c te (Be nt caps S) n 0 a).bind Ac:=id rfl
@[simp]theorem Ju:Ao S G=.ok uC G:=id rfl
@[simp]theorem Dl:OK (.nx S G) k=k S G:=id rfl
@[simp]theorem Nd:OK (.rt d G) k=.rt d G:=id rfl
def Et:Aw g b [] S G=.nx S G:=id rfl
def Dc:Aw g b (x::xs) S G=(g x S G).toS λd a=>OK (b d a) (Aw g b xs):=id rfl
def Gk:Bo g c te S (x::xs) G=(g x S G).bind λb e=>(c b e).bind λk a=>
   if k=uC then(te b a).bind λd f=>(Bo g c te S xs f).bind λh m=>.ok (d::h) m else Bo g c te S xs a:=id rfl
noncomputable def SR.ret(r:SR):R D:=match r with
 |.nx _ G'=>.ok .KA G'
 |.rt d G'=>.ok d G'
 |.err x G'=>.err x G'
 |_=>.bad
@[simp]theorem Pd:(SR.nx S G).ret=.ok .KA G:=id rfl
@[simp]theorem He:(SR.rt d G).ret=.ok d G:=id rfl
def Al:Ax np nl b ds G=if lN ds=np then tidy G (b (ds.map uA++zQ nl uB) G).ret else .bad:=id rfl
end
section
variable{n:Nat}{G:DH}
@[simp]theorem EZ:QB n .KA=uC:=by simp[_D.QB]
@[simp]theorem Me:QB n (.bl b)=uC:=by simp[_D.QB]
@[simp]theorem sP:QB n (.int b)=uC:=by simp[_D.QB]
@[simp]theorem E1:QB n (.str b)=uC:=by simp[_D.QB]
@[simp]theorem E2:QB n (.tup b)=NA n b:=by simp[_D.QB]
@[simp]theorem Pe:QB n (.fl b)=NA n b:=by simp[_D.QB]
@[simp]theorem E3:QB n (.ref b)=decide (b<n):=by simp[_D.QB]
@[simp]theorem E4:NA n []=uC:=by simp[_D.NA]
@[simp]theorem sQ:NA n (d::ds)=(QB n d&&NA n ds):=by simp[_D.NA]
theorem sR:NA n ds=uC↔∀d∈ds,QB n d=uC:=by
 induction ds with
 |nil=>simp
 |cons d ds a=>simp[a]
def Fb{a:Type}{f:a->D}{xs:List a}(h:∀x∈xs,QB n (f x)=uC):NA n (xs.map f)=uC:=by rw[sR];intro d b;obtain⟨x,e,rfl⟩:=qY.mp b;exact h x e
@[simp]theorem Dm{xs:List Int}:NA n (xs.map D.int)=uC:=Fb λ_ _=>sP
def Bl(h:QB (lN G) d=uC):tidy G (.ok d G)=.ok d G:=by unfold tidy;simp[h]
def K8(h:QB (lN G) d=uC):tidy G (.ok d (G++L))=.ok d G:=by unfold tidy;simp[h]
def X5(L:DH)(hk:L[k]?=uA (.lst ds))(h:NA (lN G) ds=uC):tidy G (.ok (.ref (lN G+k)) (G++L))=.ok (.ref (lN G)) (G++[.lst ds]):=by
 unfold tidy;have e:(G++L)[lN G+k]?=uA (.lst ds):=by rw[zO (by lia)];simpa using hk
 simp[e,Ie,h]
def Du{ds:List D}{L:DH}(h:NA (lN G) ds=uC):tidy G (.ok (.ref (lN G)) (G++ .lst ds::L))=.ok (.ref (lN G)) (G++[.lst ds]):=X5 (.lst ds::L) (k:=0) rfl h
def Qa(h:QB (lN G) d=uC):freeze G (.ok d G)=.ok d G:=by unfold freeze;simp[h,G7]
theorem bj{n:Nat}:∀{a:List D},NA n a=uC->Ja (G7 G' n (k+1)) a=uA a
 |[],_=>rfl
 |d::a,h=>by simp[sQ,qQ]at h;unfold Ja;rw[bj h.2];simp[G7,h.1]
def bq(L:DH)(hk:L[k]?=uA (.lst ds))(h:NA (lN G) ds=uC):freeze G (.ok (.ref (lN G+k)) (G++L))=.ok (.fl ds) G:=by
 unfold freeze;have e:(G++L)[lN G+k]?=uA (.lst ds):=by rw[zO (by lia)];simpa using hk
 have m:G7 (G++L) (lN G) 9 (.ref (lN G+k))=uA (.fl ds):=by unfold G7;simp[e,bj h]
 simp[m]
def Bj{ds:List D}{L:DH}(h:NA (lN G) ds=uC):freeze G (.ok (.ref (lN G)) (G++ .lst ds::L))=.ok (.fl ds) G:=bq (.lst ds::L) (k:=0) rfl h
def G8(L:DH)(k:Nat):(G++L)[lN G+k]?=L[k]? :=by rw[zO (by lia)];simp
def Dy(L:DH):(G++L)[lN G]?=L[0]? :=G8 L 0
def Ht(L:DH)(k:Nat)(o:DO):(G++L).set (lN G+k) o=G++L.set k o:=by rw[List.set_append_right _ _ (by lia)];simp
def Ez(L:DH)(o:DO):(G++L).set (lN G) o=G++L.set 0 o:=Ht L 0 o
def Ff{a:Int}:An a 0=[]:=id rfl
def Eu{a:Int}{n:Nat}:An a (n+1)=.int a::An (a+1) n:=by
 unfold An;rw[jZ,zY,qk]
 congr 1
 .simp
 apply qG;intro k _;simp only[Function.comp]
 congr 1
 lia
end
section
variable{G:DH}{i j:Int}{x y:Str}{k l:Bool}
@[simp]theorem Se:Dq (.int i) (.int j) G=.ok (.int (i+j)) G:=id rfl
@[simp]theorem U0:Dq (.str x) (.str y) G=if x.length+y.length<=1000000 then .ok (.str (x++y)) G else .bad:=id rfl
@[simp]theorem E5:Dq (.tup xs) (.tup ys) G=if xs≠[]/\lN xs+lN ys<=1000000 then .ok (.tup (xs++ys)) G else .bad:=id rfl
@[simp]theorem X':Mr (.int i) (.int j) G=.ok (.int (i+j)) G:=id rfl
@[simp]theorem Of:Jg (.int i) (.int j) G=.ok (.int (i-j)) G:=id rfl
def sS{n:Nat}(h:0<n)(a:n.log2<9000):Iw (.int i) (.int (n:Int)) G=.ok (.int (i/n)) G:=if_pos ⟨by lia,a⟩
def log2_small(h:n<10^100):n.log2<9000:=by
 by_cases a:n=0
 .subst a;decide
 rw[Nat.log2_lt a];exact Nat.lt_trans h (by decide)
@[simp]theorem E6{n:Nat}[NeZero n](h:n<10^100):Iw (.int i) (.int (no_index (OfNat.ofNat n))) G=.ok (.int (i/OfNat.ofNat n)) G:=
 if_pos ⟨Int.ofNat_lt.mpr (Nat.pos_of_ne_zero (NeZero.ne n)),log2_small h⟩
@[simp]theorem Pf:Lj (.int i) (.int j) G=if 0<j then .ok (.int (i%j)) G else .bad:=id rfl
@[simp]theorem Sf:Ou (.int i) (.int j) G=if 0<=j/\j<=1000000/\i.natAbs<18446744073709551616 then .ok (.int (i^j.toNat)) G else .bad:=id rfl
@[simp]theorem Z':Jh (.int i) (.int j) G=.ok (.bl (decide (i<j))) G:=id rfl
@[simp]theorem b?:Kf (.int i) (.int j) G=.ok (.bl (decide (i<=j))) G:=id rfl
@[simp]theorem d?:Mv (.int i) (.int j) G=.ok (.bl (decide (j<i))) G:=id rfl
@[simp]theorem e?:Th (.int i) (.int j) G=.ok (.bl (decide (j<=i))) G:=id rfl
@[simp]theorem f?:Jz (.int i) (.int j) G=.ok (.bl (decide (i=j))) G:=id rfl
@[simp]theorem g?:Do (.int i) (.int j) G=.ok (.bl (!decide (i=j))) G:=id rfl
@[simp]theorem Yf:Jz (.str x) (.str y) G=.ok (.bl (decide (x=y))) G:=id rfl
@[simp]theorem Fh:Gw (.int i) G=.ok (.int (-i)) G:=id rfl
@[simp]theorem i?:Ih d .KA G=.ok (.bl (Cy d)) G:=by cases d<;>exact id rfl
@[simp]theorem E7:Jw d .KA G=.ok (.bl (!Cy d)) G:=by cases d<;>exact id rfl
@[simp]theorem E8:Cy .KA=uC:=id rfl
@[simp]theorem E9:Cy (.int i)=uD:=id rfl
@[simp]theorem Ee:Cy (.tup ds)=uD:=id rfl
@[simp]theorem Ki:Ji [.int i,.int j] G=.ok (.int (min i j)) G:=by
 show R.ok (D.int (if j<i then j else i)) G=_
 congr 2
 split <;> lia
@[simp]theorem FA:Bk (.tup ds) G=uA ds:=id rfl
@[simp]theorem FB:Bk (.fl ds) G=uA ds:=id rfl
@[simp]theorem Uw:Bk (.ref n) G=(match G[n]? with |some (.lst xs)=>uA xs|_=>uB):=id rfl
@[simp]theorem FC:Aq [.tup ds] G=.ok (.int (lN ds)) G:=id rfl
@[simp]theorem FD:Aq [.fl ds] G=.ok (.int (lN ds)) G:=id rfl
@[simp]theorem U9:Aq [.ref n] G=(match G[n]? with |some (.lst xs)=>.ok (.int (lN xs)) G|_=>.bad):=by
 unfold Aq;simp[Uw];cases G[n]? with
 |none=>rfl
 |some o=>cases o<;>rfl
@[simp]theorem sT:Af (.tup ds) (.int i) G=(match NC ds i with |some v=>.ok v G|none=>.bad):=id rfl
@[simp]theorem Si:Af (.fl ds) (.int i) G=(match NC ds i with |some v=>.ok v G|none=>.bad):=id rfl
@[simp]theorem S8:Af (.ref n) (.int i) G=(match G[n]? with |some (.lst xs)=>(match NC xs i with |some v=>.ok v G|none=>.bad)|_=>.bad):=by
 unfold Af;simp[Uw];cases G[n]? with
 |none=>rfl
 |some o=>cases o<;>rfl
def Ob{n k:Nat}(h:k<n):MJ n (k:Int)=uA k:=by unfold MJ;rw[if_pos (by lia),if_pos (by lia)];simp
def sU{a:Type}{xs:List a}{k:Nat}{d:a}(h:xs[k]?=uA d):NC xs (k:Int)=uA d:=by unfold NC;rw[Ob (zX.mp h).1];exact h
def By{a:Type}{xs:List a}{j:Int}{k:Nat}{d:a}(e:j=k)(h:xs[k]?=uA d):NC xs j=uA d:=by subst e;exact sU h
def Tn{a:Type}{xs:List a}{j:Int}(b:0<=j)(h:j<lN xs):NC xs j=uA (xs[j.toNat]'(by lia)):=
 By (by lia) (zZ (by lia))
@[simp]theorem j?{b:Type}{a:b}{xs:List b}:NC (a::xs) 0=uA a:=By rfl rfl
@[simp]theorem k?{d:Type}{a b:d}{xs:List d}:NC (a::b::xs) 1=uA b:=By rfl rfl
@[simp]theorem l?{d:Type}{a b c:d}{xs:List d}:NC (a::b::c::xs) 2=uA c:=By rfl rfl
@[simp]theorem m?{e:Type}{a b c d:e}{xs:List e}:NC (a::b::c::d::xs) 3=uA d:=By rfl rfl
@[simp]theorem n?{f:Type}{a b c d e:f}{xs:List f}:NC (a::b::c::d::e::xs) 4=uA e:=By rfl rfl
@[simp]theorem o?{g:Type}{a b c d e f:g}{xs:List g}:NC (a::b::c::d::e::f::xs) 5=uA f:=By rfl rfl
@[simp]theorem p?{h:Type}{a b c d e f g:h}{xs:List h}:NC (a::b::c::d::e::f::g::xs) 6=uA g:=By rfl rfl
@[simp]theorem FE:Bc ds G=if lN ds<=1000000 then .ok (.tup ds) G else .bad:=id rfl
@[simp]theorem FG:Ac ds G=if lN ds<=1000000 then .ok (.ref (lN G)) (G++[.lst ds])else .bad:=id rfl
@[simp]theorem FH:Dh [.fl ds] G=.ok (.tup ds) G:=id rfl
@[simp]theorem FJ:Dh [.ref n] G=(match G[n]? with |some (.lst xs)=>.ok (.tup xs) G|_=>.bad):=by
 unfold Dh;simp[Uw];cases G[n]? with
 |none=>rfl
 |some o=>cases o<;>rfl
@[simp]theorem Kj:Ed (.tup ds) G=.ok (.pure ds) G:=id rfl
@[simp]theorem Sj:Ed (.fl ds) G=.ok (.pure ds) G:=id rfl
@[simp]theorem FK:HC [.int j] G=if inR j then .ok (.pure (An 0 j.toNat)) G else .bad:=id rfl
def Ek(a: -1000000000<=i)(h:i<=1000000000):inR i:=⟨by lia,by lia⟩
@[simp]theorem FM:PN (.fl ds) G=uC:=id rfl
@[simp]theorem FO:PN (.ref n) G=(match G[n]? with |some (.lst _)=>uC|_=>uD):=id rfl
@[simp]theorem br:Cd (.ref n) [d] G=(match G[n]? with |some (.lst xs)=>if lN xs<1000000 then .ok .KA (G.set n (.lst (xs++[d])))else .bad|_=>.bad):=id rfl
@[simp]theorem Jm:Fy (.ref n) (.int i) d G=(match G[n]? with |some (.lst xs)=>(match MJ (lN xs) i with |some j=>.ok .KA (G.set n (.lst (xs.set j d)))|none=>.bad)|_=>.bad):=id rfl
@[simp]theorem sV{ks:List Bool}:J6 [.fl (ks.map D.bl)] G=.ok (.bl (ks.all id)) G:=by simp[J6]
@[simp]theorem Wh{ks:List Int}:Gg [.fl (ks.map D.int)] G=.ok (.int ks.sum) G:=by simp[Gg]
@[simp]theorem FP:Eo [d,.ty "int"] G=(match WI G d with |some .int=>.ok (.bl uC) G|some .bl=>.ok (.bl uC) G|some _=>.ok (.bl uD) G|none=>.bad):=by
 unfold Eo;dsimp only;cases WI G d with
 |none=>rfl
 |some t=>cases t<;>rfl
@[simp]theorem FQ:Eo [d,.ty "bool"] G=(match WI G d with |some .bl=>.ok (.bl uC) G|some _=>.ok (.bl uD) G|none=>.bad):=by
 unfold Eo;dsimp only;cases WI G d with
 |none=>rfl
 |some t=>cases t<;>rfl
@[simp]theorem FR:Eo [d,.ty "tuple"] G=(match WI G d with |some .tup=>.ok (.bl uC) G|some _=>.ok (.bl uD) G|none=>.bad):=by
 unfold Eo;dsimp only;cases WI G d with
 |none=>rfl
 |some t=>cases t<;>rfl
@[simp]theorem FS:Eo [d,.ty "list"] G=(match WI G d with |some .lst=>.ok (.bl uC) G|some _=>.ok (.bl uD) G|none=>.bad):=by
 unfold Eo;dsimp only;cases WI G d with
 |none=>rfl
 |some t=>cases t<;>rfl
end
section
variable{c:Prop}[Decidable c]
@[simp]theorem Kk{d:Type}{a b:d}:(if c then R.ok a G else R.ok b G)=R.ok (if c then a else b) G:=by split <;> rfl
end
noncomputable def Fg{κ:Type}[DecidableEq κ](JA:List (κ×D))(k:κ):Option D:=(JA.find? λkv=>decide (kv.1=k)).map (·.2)
def putD{κ:Type}[DecidableEq κ](JA:List (κ×D))(k:κ)(v:D):List (κ×D):=
 if(JA.any λkv=>decide (kv.1=k))=uC then JA.map (λkv=>if kv.1=k then(kv.1,v)else kv)else JA++[(k,v)]
def OW:D->Option Key
 |.int i=>uA (.inl i)
 |.str x=>uA (.inr x)
 |_=>uB
def sW(r:LB a d x)(h:OW d=uA k):x=kV k:=by
 cases d<;>first
  |(cases h;exact r)
  |cases h
def RA.nil{a:Wd}:RA a ([]:List (κ×D)) []:=⟨rfl,rfl⟩
theorem RA.cons[DecidableEq κ]{a:Wd}{k:κ}{d:D}{JA:List (κ×D)}{us:List (κ×V)}(h:RA a ((k,d)::JA) us):∃v r,us=(k,v)::r/\LB a d v/\RA a JA r:=by
 obtain⟨h1,v,r,h2,h3,h4⟩:=h;cases us with
 |nil=>cases h2
 |cons p us=>
  obtain⟨q,w⟩:=p;simp only[zY,List.cons.injEq]at h1 h2;obtain⟨rfl,h1⟩:=h1;obtain⟨rfl,rfl⟩:=h2;exact⟨w,us,rfl,h3,h1,h4⟩
def RA.mk[DecidableEq κ]{a:Wd}{k:κ}{d:D}{v:V}{JA:List (κ×D)}{us:List (κ×V)}(h:LB a d v)(r:RA a JA us):RA a ((k,d)::JA) ((k,v)::us):=
 ⟨by simp only[zY,r.1],HA.cons h r.2⟩
theorem RA.val[DecidableEq κ]{a:Wd}{k:κ}:∀{JA:List (κ×D)}{us:List (κ×V)},RA a JA us->(Fg JA k=uB/\Fe us k=uB)\/∃d v,Fg JA k=uA d/\Fe us k=uA v/\LB a d v
 |[],us,h=>by obtain⟨h1,_⟩:=h;have:us=[]:=List.map_eq_nil_iff.mp h1.symm;subst this;exact .inl ⟨rfl,rfl⟩
 | (q,d)::JA,us,h=>by
  obtain⟨v,r,rfl,h1,h2⟩:=RA.cons h;by_cases e:q=k
  .exact .inr ⟨d,v,by simp[Fg,qj,e],by simp[Fe,qj,e],h1⟩
  .rcases RA.val (k:=k) h2 with⟨e1,e2⟩|⟨d',v',e1,e2,e3⟩
   .exact .inl ⟨by simpa[Fg,qj,e]using e1,by simpa[Fe,qj,e]using e2⟩
   .exact .inr ⟨d',v',by simpa[Fg,qj,e]using e1,by simpa[Fe,qj,e]using e2,e3⟩
theorem RA.any[DecidableEq κ]{a:Wd}{k:κ}:∀{JA:List (κ×D)}{us:List (κ×V)},RA a JA us->(JA.any λkv=>decide (kv.1=k))=us.any λkv=>decide (kv.1=k)
 |[],us,h=>by
  obtain⟨h1,_⟩:=h;have:us=[]:=List.map_eq_nil_iff.mp h1.symm;subst this
  rfl
 |(q,d)::JA,us,h=>by obtain⟨v,r,rfl,h1,h2⟩:=RA.cons h;simp only[j3,RA.any (k:=k) h2]
theorem RA.OJ[DecidableEq κ]{a:Wd}{k:κ}{d:D}{v:V}(hv:LB a d v):∀{JA:List (κ×D)}{us:List (κ×V)},RA a JA us->RA a (JA.map λkv=>if kv.1=k then(kv.1,d)else kv) (us.map λkv=>if kv.1=k then(kv.1,v)else kv)
 |[],us,h=>by obtain⟨h1,_⟩:=h;have:us=[]:=List.map_eq_nil_iff.mp h1.symm;subst this;exact RA.nil
 |(q,e)::JA,us,h=>by
  obtain⟨w,r,rfl,h1,h2⟩:=RA.cons h;simp only[zY];by_cases hq:q=k
  .rw[if_pos hq,if_pos hq];exact RA.mk hv (RA.OJ hv h2)
  .rw[if_neg hq,if_neg hq];exact RA.mk h1 (RA.OJ hv h2)
def RA.put[DecidableEq κ]{a:Wd}{k:κ}{d:D}{v:V}{JA:List (κ×D)}{us:List (κ×V)}(h:RA a JA us)(hv:LB a d v):RA a (putD JA k d) (putK us k v):=by
 unfold putD putK;rw[RA.any (k:=k) h];split
 .exact RA.OJ hv h
 .exact⟨by simp[h.1],by have:=HA.append h.2 (HA.cons hv (HA.nil));simpa using this⟩
def RA.len[DecidableEq κ]{a:Wd}{JA:List (κ×D)}{us:List (κ×V)}(h:RA a JA us):lN JA=lN us:=by have:=congrArg jS h.1;simpa using this
section
variable{X:Cx}{E:XK}
def set_dict(l:X.A.units+64<cLine):VR X (λo i v H Q=>∃a H',o=.ref a/\IM H a i v H'/\Q H'):=by intro b s k H o i v f p u Q I e h d ⟨a,H',j,g,q⟩;subst j;obtain rfl:f=Value.ref a:=e;exact oC (by lia) I g h d λm c=>⟨H',c,q⟩
end
section
variable{S:PB}{G:DH}{n:Nat}{JA:List (Key×D)}
end
section
noncomputable def MH:Nat->D->Bool
 |0,_=>uD
 |_+1,.KA=>uC
 |_+1,.int _=>uC
 |_+1,.str _=>uC
 |n+1,.tup ds=>ds.all (MH n)
 |n+1,.fl ds=>ds.all (MH n)
 |_+1,_=>uD
theorem Yo{f:D->D->Option Bool}{P:D->Prop}(e:∀x y,P x->P y->∃b,f x y=uA b/\(b=uC↔x=y)):∀{xs ys:List D},(∀x∈xs,P x)->(∀y∈ys,P y)->
  ∃b,KQ f xs ys=uA b/\(b=uC↔xs.take (lN ys)=ys.take (lN xs))
 |[],ys,_,_=>⟨uC,by cases ys<;>rfl,by simp⟩
 |x::xs,[],_,_=>⟨uC,rfl,by simp⟩
 |x::xs,y::ys,g,d=>by obtain⟨b,i,h⟩:=e x y (g x (by simp)) (d y (by simp));obtain⟨c,k,j⟩:=Yo e (λz a=>g z (zV _ a)) (λz a=>d z (zV _ a));refine⟨b&&c,by simp[KQ,i,k],?_⟩;simp[h,j]
theorem bt{G:DH}:∀(n:Nat)(d e:D),MH n d=uC->MH n e=uC->∃b,UI n G d e=uA b/\(b=uC↔d=e)
 |0,d,e,h,_=>by cases h
 | n+1,d,e,f,a=>by
  have o:=bt (G:=G) n;cases d with
  |bl _|ty _|ref _=>simp[MH]at f
  | tup l=>
   cases e with
   |bl _|ty _|ref _=>simp[MH]at a
   |tup m=>
    simp[MH,j9]at f a;obtain⟨b,j,k⟩:=Yo o (λx g=>f x g) (λx g=>a x g);refine⟨b&&lN l==lN m,by simp[UI,view,j],?_⟩;simp[qQ,k,beq_iff_eq,D.tup.injEq];constructor
    .rintro⟨e,c⟩;rw[<-c,xj]at e;rw[e,c,xj]
    rintro rfl;exact⟨rfl,rfl⟩
   |_=>exact⟨uD,by simp[UI,view],by simp⟩
  | fl l=>
   cases e with
   |bl _|ty _|ref _=>simp[MH]at a
   |fl m=>
    simp[MH,j9]at f a;by_cases c:lN l=lN m
    .obtain⟨b,j,k⟩:=Yo o (λx g=>f x g) (λx g=>a x g);refine⟨b,by simp[UI,view,c,j],?_⟩;rw[k,<-c,xj,c,xj];simp
    exact⟨uD,by simp[UI,view,c],by simp;rintro rfl;exact c rfl⟩
   |_=>exact⟨uD,by simp[UI,view],by simp⟩
  |_=>cases e<;>first|(simp[MH]at a;done)|exact⟨_,rfl,by simp[WH]⟩
open Classical in
theorem sX(c:MH 30 d=uC)(a:MH 30 e=uC):Do d e G=.ok (.bl (!decide (d=e))) G:=by
 obtain⟨b,f,h⟩:=bt (G:=G) 30 d e c a;unfold Do;rw[f];cases b with
 |true=>simp[h.mp rfl]
 |false=>simp[show¬d=e from λz=>zL (h.mpr z)]
def sY(a:MH 30 d=uC):Do d d G=.ok (.bl uD) G:=by rw[sX a a];simp
def sZ(h:∀d∈ds,MH n d=uC):MH (n+1) (.tup ds)=uC:=by simpa[MH]using h
def bu(h:∀d∈ds,MH n d=uC):MH (n+1) (.fl ds)=uC:=by simpa[MH]using h
end
def cutD{α:Type}(xs:List α)(lo hi:Option Int):List α:=(xs.drop (HT.HB (lN xs) 0 lo)).take (HT.HB (lN xs) (lN xs) hi-HT.HB (lN xs) 0 lo)
def Ig(z:Str)(lo hi:Option Int):Str:=⟨(cutD z.cps.toList lo hi).toArray⟩
def FU{b:Type}(xs:List b)(a c:Option Int):lN (cutD xs a c)<=lN xs:=by unfold cutD;rw[qN,qI];lia
def Km(t:Option DE)(S:PB)(G:DH):R (Option Int):=match t with
 |none=>.ok uB G
 |some t=>(t S G).bind λd G1=>match d with
  |.int i=>.ok (uA i) G1
  |_=>.bad
def Gq(d:D)(lo hi:Option Int)(G:DH):R D:=match d with
 |.str z=>if z.length<=1000000 then .ok (.str (Ig z lo hi)) G else .bad
 |.tup xs=>.ok (.tup (cutD xs lo hi)) G
 |d=>match Ej d G with
  |some xs=>.ok (.ref G.length) (G++[.lst (cutD xs lo hi)])
  |none=>.bad
def VL(e:DE)(lo hi:Option DE):DE:=λS G=>(e S G).bind λd G1=>(Km lo S G1).bind λl G2=>(Km hi S G2).bind λh G3=>Gq d l h G3
def Jb(n:Nat)(v:Int):((HT.HB n n (uA v):Nat):Int)=max 0 (min (if v<0 then v+(n:Int)else v) n)/\((HT.HB n 0 (uA v):Nat):Int)=max 0 (min (if v<0 then v+(n:Int)else v) n):=by
 unfold HT.HB;by_cases a:v<0
 .simp[if_pos a];lia
 simp[if_neg a];lia
theorem sd(xs:Array Nat)(i k:Nat):(zW k).filterMap (λm=>xs[i+m]?)=(xs.toList.drop i).take k:=by
 induction k generalizing i with
 |zero=>simp
 | succ k d=>
  rw[jZ,jX];have e:(List.map Nat.succ (.range k)).filterMap (λm=>xs[i+m]?)=(zW k).filterMap (λm=>xs[i+1+m]?):=by
   rw[jC]
   congr 1
   funext m;simp[Function.comp]
   congr 1
   lia
  rw[e,d (i+1)];by_cases b:i<xs.size
  .have a:xs[i+0]?=uA xs[i]:=by simp[b]
   rw[a];have c:xs.toList.drop i=xs[i]::xs.toList.drop (i+1):=by rw[zU (by simpa using b)];simp
   rw[c];simp
  have a:xs[i+0]?=uB:=by simp;lia
  rw[a];simp only;rw[qL (by simp;lia),qL (by simp;lia)];simp
def se(x:Str)(c b:Option Int):Txt.slice x c b=Ig x c b:=by
 have d:x.length=x.cps.toList.length:=by simp[Str.length]
 have m:(qb c b 1 x.length).filterMap (x.cps[·]?)=cutD x.cps.toList c b:=by
  have n:∀(v:Option Int),(match v with |none=>(0:Int)|some i=>max 0 (min (if i<0 then i+(x.length:Int)else i) x.length))=((HT.HB x.length 0 v:Nat):Int):=λv=>by
   cases v with
   |none=>rfl
   |some i=>exact(Jb x.length i).2.symm
  have p:∀(v:Option Int),(match v with |none=>(x.length:Int)|some i=>max 0 (min (if i<0 then i+(x.length:Int)else i) x.length))=((HT.HB x.length x.length v:Nat):Int):=λv=>by
   cases v with
   |none=>rfl
   |some i=>exact(Jb x.length i).1.symm
  have l:qb c b 1 x.length=sliceRange ((HT.HB x.length 0 c:Nat):Int) ((HT.HB x.length x.length b:Nat):Int) 1:=by
   rw[<-n c,<-p b];unfold qb
   cases c<;>cases b<;>simp
  rw[l];unfold sliceRange cutD;rw[jC,<-d];generalize HT.HB x.length 0 c=i;generalize HT.HB x.length x.length b=j;have s:((λa=>x.cps[a]?) ∘ λ(k:Nat)=>((i:Int)+1*(k:Int)).toNat)=λk=>x.cps[i+k]? :=by
   funext k;simp only[Function.comp]
   congr 1
   lia
  have q:(if(1:Int)>0 then if(i:Int)<(j:Int)then((j:Int)-i+1-1)/1 else 0 else if(i:Int)>(j:Int)then((i:Int)-j-1-1) / -1 else 0).toNat=j-i:=by
   rw[if_pos (by lia)];split
   .rw[Int.ediv_one];lia
   lia
  rw[s,q];exact sd x.cps i (j-i)
 unfold Txt.slice Ig;split
 .rename_i h;have w:(qb c b 1 x.length).length=x.length:=by simpa using h
  have g:(cutD x.cps.toList c b).length=x.cps.toList.length:=by
   have l:(qb c b 1 x.length).length=HT.HB x.length x.length b-HT.HB x.length 0 c:=by
    have n:∀(v:Option Int),(match v with |none=>(0:Int)|some i=>max 0 (min (if i<0 then i+(x.length:Int)else i) x.length))=((HT.HB x.length 0 v:Nat):Int):=λv=>by
     cases v with
     |none=>rfl
     |some i=>exact(Jb x.length i).2.symm
    have p:∀(v:Option Int),(match v with |none=>(x.length:Int)|some i=>max 0 (min (if i<0 then i+(x.length:Int)else i) x.length))=((HT.HB x.length x.length v:Nat):Int):=λv=>by
     cases v with
     |none=>rfl
     |some i=>exact(Jb x.length i).1.symm
    have l:qb c b 1 x.length=sliceRange ((HT.HB x.length 0 c:Nat):Int) ((HT.HB x.length x.length b:Nat):Int) 1:=by
     rw[<-n c,<-p b];unfold qb
     cases c<;>cases b<;>simp
    rw[l];unfold sliceRange;rw[zq,xY];generalize HT.HB x.length 0 c=i;generalize HT.HB x.length x.length b=j;rw[if_pos (by lia)];split
    .rw[Int.ediv_one];lia
    lia
   have u:HT.HB x.length x.length b<=x.length:=HT.mq _ _ (zx _) b;unfold cutD;rw[qN,qI,<-d];lia
  have r:(cutD x.cps.toList c b).Sublist x.cps.toList:=(List.take_sublist _ _).trans (List.drop_sublist _ _);rw[r.eq_of_length g]
 rw[m]
section
variable{X:Cx}{E:XK}
theorem sf:NO X (λx c n H Q=>∃z:Str,x=.str z/\z.length<=sizeLine/\Q (.str (Ig z c n)) H):=by
 intro b s P H x v K O c n B Q I C M J r h;obtain⟨z,rfl,N,q⟩:=h;obtain⟨t,rfl⟩:=C;refine⟨"str",_,PySem.F.slot_str_getitem.lookup,typeIs_str _ _ _,?_⟩
 have a:∀(l u:Option (Int×Tok)),K=partValue l->O=partValue u->l.map (·.1)=c->u.map (·.1)=n->wq (vT X.prog X.w) X.A (getItem (.str z t) (.ref B)) (EP X b P Q) X.xe s:=by
  rintro l u rfl rfl rfl rfl;refine wpAny_getItem_str_slice (st:=uB) (M) rfl ?_
  have e:∀d,(Txt.slice z (l.map (·.1)) (u.map (·.1))).length<=sizeLine/\(∀m k,d (.str (Txt.slice z (l.map (·.1)) (u.map (·.1))) m) {s with toks:=k})->(sliceMade z t l u uB).post d s:=λd L=>post_val_or_str L
  refine e _ ⟨zN (Txt.slice_le z _ _) N,λm k=>?_⟩;rw[se];exact⟨.str _,H,I.tok k,⟨m,rfl⟩,q⟩
 cases J with
 |none=>cases r with
  |none=>exact a uB uB rfl rfl rfl rfl
  |int j g=>exact a uB (uA (j,g)) rfl rfl rfl rfl
 |int i y=>cases r with
  |none=>exact a (uA (i,y)) uB rfl rfl rfl rfl
  |int j g=>exact a (uA (i,y)) (uA (j,g)) rfl rfl rfl rfl
def sg{prog:vj}{w:vC}{A:vK}{E:vB->vk->Prop}{s:vk}{t j:vW}{items:Array vB}{m l:vB}{a d:Option Int}{Q:vB->vk->Prop}(c:IsTup s.heap t items)(k:s.heap.IsSliceOf j m l .none)(pl:IsPart m a)(p:IsPart l d)
  (hw:HT.HB items.size 0 a=0/\HT.HB items.size items.size d=items.size) (h:Q (.ref t) s):wq (vT prog w) A (getItem (.ref t) (.ref j)) Q E s:=by
 obtain⟨n,i,g,q⟩:=id k;unfold getItem
 try with_reducible refine wk ?_
 first|refine wj (w9 ?_)|skip
 refine wj (wpAny_sequenceKey c.typeIs (by decide) ?_);refine wj (wx c.typeIs jc
  (wv jc c.typeIs entry_tuple_getitem ?_ (args_tuple_getitem _ _)))
 show wq _ _ (Builtin.Tuple.tupleItemsOf (.ref t) >>=_) _ _ s;refine wj (tupleItemsOf_ c ?_);refine wj (wpAny_typeOf ⟨n,i,g⟩ ?_);rw[if_pos (by decide)];refine wj (HT.aT k pl p ?_);have b:(((HT.HB items.size 0 a:Nat):Int)==0&&(1:Int)==1&&(HT.HB items.size items.size d-HT.HB items.size 0 a)==items.size)=uC:=by rw[hw.1,hw.2];simp
 show wq _ _ (if(((HT.HB items.size 0 a:Nat):Int)==0&&(1:Int)==1&&(HT.HB items.size items.size d-HT.HB items.size 0 a)==items.size)=uC then _ else _) _ _ s;rw[if_pos b];refine wj ?_;unfold Builtin.Tuple.tupleIsExact;refine wj (wpAny_typeOf c.typeIs (w9 ?_));rw[if_pos (by decide)];exact wj (wpAny_rule (w9 ⟨_,rfl,w9 h⟩))
def si:NO X (λx i d H Q=>∃a xs,x=.ref a/\VE X.K H a xs/\(HT.HB (lN xs) 0 i=0/\HT.HB (lN xs) (lN xs) d=lN xs)/\Q (.ref a) H):=by intro g s w H x v A y i d u Q I m k n l h;obtain⟨a,xs,rfl,p,hw,q⟩:=h;cases m;obtain⟨c,r,j,z⟩:=I.tuple p;exact⟨"tuple",_,PyProof.Rows.slot_tuple_getitem.lookup,j.typeIs,sg j k n l ((zk▸r.length.symm)▸hw) ⟨.ref a,H,I,rfl,q⟩⟩
def Ma(E:XK)(a:Wd)(r:R (Option Int))(Q:Option Int->Hp->Prop):Prop:=match r with
 |.ok k G=>∀(b:Wd),Ext a b->XA b G->Q k b.H
 |.err x G=>SI E a x G
 |.bad=>False
def QO(X:Cx)(E:XK)(e:Option vY)(t:Option DE):Prop:=PO X e (λσ H Q=>GS X.K σ H λa S G=>Ma E a (Km t S G) Q)
def _root_._L.PO.mono(h:PO X e t)(w:∀a H Q,t' a H Q->t a H Q):PO X e t':=λb s a H Q I q=>h b s a H Q I (w a H Q q)
def sj:QO X E uB uB:=nB.mono λb H Q h=>by obtain⟨a,S,G,hk,rfl,s,r,h⟩:=h;exact h a (.refl a) s
theorem sk(m:QE X E e t):QO X E (uA e) (uA t):=(nC m).mono λn H Q h=>by
 obtain⟨a,S,G,hk,rfl,s,r,h⟩:=h;refine⟨a,S,G,hk,rfl,s,r,?_⟩
 have c:Ma E a ((t S G).bind λd g=>match d with | .int i=>.ok (uA i) g|_=>.bad) Q:=h
 cases j:t S G with
 |ok d g=>
  rw[j]at c;intro b v x k l;cases d with
  |int i=>exact⟨i,l,c b x k⟩
  |_=>exact c.elim
 |_=>rw[j]at c;exact c
def HA.cutD(r:HA a ds vs)(b c:Option Int):HA a (_D.cutD ds b c) (My vs b c):=by unfold _D.cutD My;rw[r.length];exact(r.drop _).take _
theorem Ma.imp(h:Ma E a r Q)(w:∀v H,Q v H->Q' v H):Ma E a r Q':=by
 cases r with
 |ok d G=>exact λb x s=>w _ _ (h b x s)
 |_=>exact h
theorem bv(h:out E a (r.bind f) Q):
  Ma E a r (λk H=>PB3 a H r k λb G=>out E b (f k G) Q):=by
 cases r with
 |ok d G=>exact λb x s=>⟨b,G,rfl,x,s,rfl,out.mono x h⟩
 |_=>exact h
theorem so{e:vY}{N T:Option vY}{U:DE}{P th:Option DE}{p2 pos:Pos}(he:QE X E e U)(M:QO X E N P)(hu:QO X E T th):QE X E (.Subscript e (.Slice N T uB p2) pos) (VL U P th):=
 (nE (nT.or (nF.or (si.or sf))) he M hu).mono λσ H Q h=>by
 obtain⟨a,S,G,hk,rfl,s,r,h⟩:=h;refine⟨a,S,G,hk,rfl,s,r,(Eb h).imp ?_⟩;rintro v _ ⟨b,d,W,rfl,x,s1,q,_,h1⟩;refine⟨b,S,W,x.k.trans hk,rfl,s1,r.mono x,(bv h1).imp ?_⟩;rintro l _ ⟨c,Z,rfl,y,s2,_,Y⟩;refine⟨c,S,Z,y.k.trans (x.k.trans hk),rfl,s2,(r.mono x).mono y,(bv Y).imp ?_⟩;rintro u _ ⟨C,J,rfl,O,F,_,g⟩;have m:=O.k.trans (y.k.trans (x.k.trans hk));have L:=(q.mono y).mono O
 have lst:out E C (match Ej d J with |some w=>.ok (.ref J.length) (J++[.lst (cutD w l u)])|none=>.bad) Q->OV X.K v l u C.H Q:=λg=>by
  split at g
  .rename_i w hx;obtain⟨p,j,I,B,A⟩:=T5 F L hx;exact⟨p,j,I,by rw[<-m];exact B,λp hp=>J8 F (.cutD A l u) g p hp⟩
  exact g.elim
 cases d with
 |str z=>
  have n:out E C (if z.length<=1000000 then .ok (.str (Ig z l u)) J else .bad) Q:=g;split at n
  .rename_i M;cases(L);exact .inr (.inr (.inr ⟨z,rfl,zN M TB,n C _ (.refl _) F rfl⟩))
  exact n.elim
 | tup w=>
  have n:=g;obtain⟨p,j,I,B,A⟩:=L;by_cases hw:HT.HB j.length 0 l=0/\HT.HB j.length j.length u=j.length
  .refine .inr (.inr (.inl ⟨p,j,I,by rw[<-m];exact B,hw,n C _ (.refl _) F ⟨p,j,rfl,B,?_⟩⟩));have:cutD w l u=w:=by unfold cutD;rw[A.length,hw.1,hw.2,<-A.length];simp
   rw[this];exact A
  exact .inr (.inl ⟨p,j,I,by rw[<-m];exact B,hw,λp hp=>Xe F (.cutD A l u) n p hp⟩)
 |fl w|ref i=>exact .inl (lst g)
 |_=>exact(g).elim
section
variable{name:Str}{id:String}{f:D->List D->DH->R D}{o e:vY}{es:List vY}{to:DE}{t:DA}{apos NB:Pos}
end
noncomputable def Ke:List D->Option (List Str)
 |[]=>uA []
 |.str x::r=>(Ke r).map (x::·)
 |_=>uB
@[simp]theorem su(ns:List Str):Ke (ns.map D.str)=uA ns:=by
 induction ns with
 |nil=>rfl
 |cons n ns a=>simp[Ke,a]
theorem bx:∀{xs:List D}{ns:List Str},Ke xs=uA ns->xs=ns.map D.str
 |[],ns,h=>by cases h;rfl
 |.str i::r,ns,h=>by
  unfold Ke at h;rw[qX]at h;obtain⟨m,e,rfl⟩:=h;rw[bx e]
  rfl
 |.KA::_,_,h | .bl _::_,_,h | .int _::_,_,h | .ty _::_,_,h | .tup _::_,_,h | .fl _::_,_,h | .ref _::_,_,h=>by cases h
end
section
variable{S:PB}{G:DH}
@[simp]theorem q?{e:DE}{b a:Option DE}:VL e b a S G=(e S G).bind λd c=>(Km b S c).bind λl i=>(Km a S i).bind λh g=>Gq d l h g:=id rfl
@[simp]theorem FV:Km uB S G=.ok uB G:=id rfl
@[simp]theorem FW:Km (uA t) S G=(t S G).bind λd a=>match d with | .int i=>.ok (uA i) a|_=>.bad:=id rfl
@[simp]theorem O5{z:Str}{b a:Option Int}:Gq (.str z) b a G=if z.length<=1000000 then .ok (.str (Ig z b a)) G else .bad:=id rfl
@[simp]theorem Oa{xs:List D}{a b:Option Int}:Gq (.fl xs) a b G=.ok (.ref G.length) (G++[.lst (cutD xs a b)]):=id rfl
@[simp]theorem FX:Fq [.fl xs] G=.ok (.ref (lN G)) (G++[.lst xs]):=id rfl
@[simp]theorem FY:Fq [.tup xs] G=.ok (.ref (lN G)) (G++[.lst xs]):=id rfl
@[simp]theorem Ri:Dq (.fl xs) (.fl ys) G=if lN xs+lN ys<=1000000 then .ok (.ref (lN G)) (G++[.lst (xs++ys)])else .bad:=id rfl
end
end _D
namespace _D
open PySem PySem.Spec _L
open PyProof.Rows hiding St
open Builtin.Str
section
variable(p:Nat->Bool)(m:Nat)
end
def PK(g:DG)(c:DB)(te:DE)(S:PB)(G:DH)(x:D)(r:Option D):Prop:=
 ∃S1,g x S G=.ok S1 G/\((c S1 G=.ok uD G/\r=uB)\/(c S1 G=.ok uC G/\∃d,te S1 G=.ok d G/\r=uA d))
theorem bz(e:G[i]?=uA (.lst xs))(h:∀x∈xs,PK g c te S G x (F x)):
  ∀(n j:Nat),j+n=lN xs->Ei i g c te S n j G=.ok ((xs.drop j).filterMap F) G
 |0,j,o=>by
  unfold Ei;rw[e];simp only;rw[if_pos (by lia),qL (by lia)]
  rfl
 |n+1,j,o=>by
  have a:j<lN xs:=by lia
  have k:=bz e h n (j+1) (by lia);obtain⟨r,l,b⟩:=h xs[j] (qw a);unfold Ei;rw[e];simp only;rw[zZ a];simp[l,R.Ea];rw[zU a,jX];rcases b with⟨b,f⟩|⟨b,d,f,q⟩
  .simp[b,f,k]
  simp[b,f,q,k]
def W6(a:G[i]?=uA (.lst xs))(h:∀x∈xs,PK g c te S G x (F x)):
  Ei i g c te S (lN xs) 0 G=.ok (xs.filterMap F) G:=bz a h (lN xs) 0 (by lia)
end _D
namespace _D
open PySem PySem.Spec _L
open PyProof.Rows hiding St
inductive Src where
 |l (a:vW)
 |t (a:vW)
noncomputable def Src.NM:Src->String
 |.l _=>"list_iterator"
 |.t _=>"tuple_iterator"
noncomputable def Src.MB:Src->vW
 |.l a=>a
 |.t a=>a
def Src.it(h:Heap)(p:vW)(k:Nat)(sr:Src):Prop:=∃o,h.get? p=uA o/\o.cls=.type sr.NM/\o.data=.fields #[.ref sr.MB,.int k 0]
def Src.val(h:Heap)(xs:Array vB):Src->Prop
 |.l a=>h.IsList a xs
 |.t a=>h.IsTuple a xs
def Src.it.at{a:Src}{h h':Heap}{p:vW}{k:Nat}(x:a.it h p k)(e:∀o,h.get? p=uA o->h'.get? p=uA o):a.it h' p k:=let⟨o,b,r⟩:=x;⟨o,e o b,r⟩
theorem Src.val.at{b:Src}{h h':Heap}{xs:Array vB}(x:b.val h xs)(e:∀o,h.get? b.MB=uA o->h'.get? b.MB=uA o):b.val h' xs:=by
 cases b with
 |_=>obtain⟨o,c,r⟩:=x;exact⟨o,e o c,r⟩
def Src.it.lt{a:Src}{h:Heap}{p:vW}{k:Nat}(x:a.it h p k):p<h.objs.size:=let⟨_,b,_⟩:=x;zD b
section
variable{prog:vj}{w:vC}{A:vK}{E:vB->vk->Prop}{s:vk}
theorem Src.val.obj{c:Src}{h:Heap}{xs:Array vB}(x:c.val h xs):∃o n,h.get? c.MB=uA o/\o.data=.seq xs n:=by
 cases c with
 |_=>obtain⟨o,d,_,n,b⟩:=x;exact⟨o,n,d,b⟩
theorem Src.NH{f:Src}{p:vW}{k:Nat}{xs:Array vB}{x:vB}{Q:vB->vk->Prop}(d:f.it s.heap p k)(n:f.val s.heap xs)(r:xs[k]?=uA x)
  (i:∀h',f.it h' p (k+1)->jK p s.heap h'->Q x {s with heap:=h'}):wq (vT prog w) A (qf (.ref p)) Q E s:=by
 cases f with
 |l a=>exact wpAny_nextOf_list_item (d) n r i
 |t a=>
  obtain⟨o,e,q,c⟩:=id d;obtain⟨u,h,_,v,g⟩:=n;have j:s.TypeIs (.ref p) "tuple_iterator":=⟨o,e,q⟩;unfold qf;refine wj (wx j jd (wv jd j uY ?_ (uq _)));refine wj (m:=field (.ref p) 0) (ww e c (x:=.ref a) rfl ?_)
  rw[if_neg (show¬((.ref a==Value.none)=uC)from zL)]
  refine wj (ww e c rfl (wj (wpAny_seqItems h g ?_)));simp[Int.toNat_natCast,r];refine wj (wpAny_setField e c (by simp) (w9 ⟨x,rfl,w9 (i _ ⟨_,xG _ e (Obj.isFreed_of_fields (Obj.data_mapFields c _)),(Obj.cls_mapFields ..).trans q,?_⟩ (.update ..))⟩));rw[Obj.data_mapFields c];simp[vU,Src.MB]
theorem Src.II{f:Src}{p:vW}{k:Nat}{xs:Array vB}{Q:vB->vk->Prop}(j:A.handled=uB)(c:f.it s.heap p k)(q:f.val s.heap xs)(u:xs[k]?=uB)
  (r:∀h' e,Heap.ExtBut p s.heap h'->(∃o,h'.get? e=uA o/\o.cls=.type "StopIteration")->E (.ref e) {s with heap:=h'}):wq (vT prog w) A (qf (.ref p)) Q E s:=by
 cases f with
 |l a=>exact wpAny_nextOf_list_end j (c) q u r
 |t a=>
  obtain⟨o,d,v,g⟩:=id c;obtain⟨y,i,_,z,h⟩:=q;have n:s.TypeIs (.ref p) "tuple_iterator":=⟨o,d,v⟩;unfold qf;refine wj (wx n jd (wv jd n uY ?_ (uq _)));refine wj (m:=field (.ref p) 0) (ww d g (x:=.ref a) rfl ?_)
  rw[if_neg (show¬((.ref a==Value.none)=uC)from zL)]
  refine wj (ww d g rfl (wj (wpAny_seqItems i h ?_)));simp[Int.toNat_natCast,u];refine wj (wpAny_rule (wj (wpAny_setField d g (by simp) (wj ?_))));simp[newExc,newTuple]
  refine wj (w6 (wj (wpAny_of_eq (by first|rfl|(simp[firstArgMember];rfl)) (w6 ?_ (by size_fits)))) (by size_fits))
  simp only[raiseNew];refine wj (wpAny_handled ?_)
  first|rw[j]|rw[j]
  exact wj (w9 (wpAny_throw (r _ _ (((jK.update ..).extBut.push _).push _) ⟨_,zA _ rfl,rfl⟩)))
theorem Src.iter{c:Src}{xs:Array vB}{Q:vB->vk->Prop}(e:c.val s.heap xs)
  (f:Q (.ref s.heap.objs.size) {s with heap:=s.heap.push {cls:=.type c.NM,data:=.fields #[.ref c.MB,.int 0 0]}}):wq (vT prog w) A (pyIter (.ref c.MB)) Q E s:=by
 cases c with
 |l a=>exact wpAny_pyIter_list e f
 |t a=>exact wpAny_pyIter_tuple e f
end
abbrev En(h:Heap)(e it:vW)(f0:vB)(i:Int)(g old:vB):Prop:=
 h.get? e=uA {cls:=.type "enumerate",dict:=uB,data:=.fields #[f0,.bool uD,.ref it,vU i,g,old],slots:= #[]}
def Gv(i:Int)(g:vB):Prop:=g=.none\/∃t,g=.int i t
section
variable{prog:vj}{w:vC}{A:vK}{E:vB->vk->Prop}{s:vk}
def sv{sr:Src}{e it:vW}{k:Nat}{i:Int}{xs:Array vB}{x g z:vB}{Q:vB->vk->Prop}(he:En s.heap e it .none i g z)(hg:Gv i g)(XX:sr.it s.heap it k)(hv:sr.val s.heap xs)(hx:xs[k]?=uA x)(K:e≠it)
  (hQ:∀h' t tk,En h' e it (vU s.heap.objs.size) (i+1) .none x->sr.it h' it (k+1)->h'.get? s.heap.objs.size=uA {cls:=.type "tuple",data:=.seq #[.int i t,x]}->h'.objs.size=s.heap.objs.size+1->
   (∀b o,b≠e->b≠it->s.heap.get? b=uA o->h'.get? b=uA o)->Q (.ref s.heap.objs.size) {s with heap:=h',toks:=tk}):
  wq (vT prog w) A (Builtin.«enumerate.__next__» ⟨[.ref e],[]⟩) (λO s'=>∃v,O=.done (.ret v)/\Q v s') E s:=by
 obtain⟨hp,gg,d,tk,os⟩:=s;refine wj (m:=field (.ref e) 2) (ww he rfl rfl (wj (Src.NH XX hv hx λU J p=>?_)));have n:=(p.2 e K).trans he;refine wj (ww n rfl rfl ?_);refine wj (ww n rfl (x:=g) rfl ?_)
 have rest:∀(t:Tok)(P:Nat),wq (vT prog w) A (do
   setField (.ref e) 3 (vU (i+1));setField (.ref e) 4 .none
   let result<-newTuple [.int i t,x]
   if<-vc (.ref e)then
    rule "enumerate.__next__.owned-tuple-again"
    let z<-field (.ref e) 5
    setField (.ref e) 5 x
    vd (.ref e) result
    PySem.letGo [z] [result]
   ret result) (λO s'=>∃v,O=.done (.ret v)/\Q v s') E ⟨U,gg,d,P,os⟩:=by
  intro t P;refine wj (wD n (by simp) λh₂ S j=>?_);refine wj (wD S (by simp) λH l h=>?_)
  replace l:En H e it .none (i+1) .none z:=l
  have y:H.objs.size=hp.objs.size:=by rw[h.1];rw[j.1];exact p.1
  refine wj (wpAny_newTuple ?_);generalize c:H.push {cls:=.type "tuple",data:=.seq [Value.int i t,x].toArray}=f;have u:En f e it .none (i+1) .none z:=by rw[<-c];exact zJ _ l
  have N:f.get? hp.objs.size=uA {cls:=.type "tuple",data:=.seq #[.int i t,x]}:=by rw[<-c,<-y];exact zA _ rfl
  have z₄:f.objs.size=hp.objs.size+1:=by rw[<-c,jY,y]
  have k₄:∀b o,b≠e->b≠it->hp.get? b=uA o->f.get? b=uA o:=λb o M W q=>by rw[<-c];exact zJ _ ((λb o M W q=>h.extBut b o M (j.extBut b o M ((λb o _ Z q=>p.extBut b o Z q) b o M W q))) b o M W q)
  have X:sr.it f it (k+1):=((J.at λo q=>j.extBut it o (.symm K) q).at λo q=>h.extBut it o (.symm K) q).at λo q=>by rw[<-c];exact zJ _ q
  have ez:=zD he;refine wj ?_;unfold vc;refine wj (ww u rfl rfl (w9 ?_));simp[if_true];refine wj (wpAny_rule (wj (ww u rfl (x:=z) rfl (wj (wD u (by simp) λY r B=>?_)))))
  replace r:En Y e it .none (i+1) .none x:=r
  refine wj ?_;unfold vd;refine wj (wD r (by simp) λh₆ T C=>?_);refine wD T (by simp) λL I F=>?_
  refine wj (wpAny_letGo (w9 ⟨_,rfl,?_⟩));have up:∀b o,b≠e->f.get? b=uA o->L.get? b=uA o:=λb o Z q=>F.extBut b o Z (C.extBut b o Z (B.extBut b o Z q))
  rw[y];rw[y]at I;exact hQ L t P I (X.at λo q=>up it o (.symm K) q) (up _ _ (jw ez) N) (by rw[F.1];rw[C.1];rw[B.1];exact z₄) λb o M W q=>up b o M (k₄ b o M W q)
 rcases hg with rfl|⟨t,rfl⟩
 .exact wj (wpAny_mkInt (rest tk (tk+1)))
 exact wj (w9 (rest t tk))
def sx{c:Src}{e it:vW}{k:Nat}{i:Int}{xs:Array vB}{x g h:vB}{Q:Option vB->vk->Prop}(m:En s.heap e it .none i g h)(p:Gv i g)(d:c.it s.heap it k)(q:c.val s.heap xs)(B:xs[k]?=uA x)(f:e≠it)
  (y:∀h' t tk,En h' e it (vU s.heap.objs.size) (i+1) .none x->c.it h' it (k+1)->h'.get? s.heap.objs.size=uA {cls:=.type "tuple",data:=.seq #[.int i t,x]}->h'.objs.size=s.heap.objs.size+1->
   (∀b o,b≠e->b≠it->s.heap.get? b=uA o->h'.get? b=uA o)->Q (uA (.ref s.heap.objs.size)) {s with heap:=h',toks:=tk}):
  wq (vT prog w) A (pyNext (.ref e)) Q E s:=by
 have l:s.TypeIs (.ref e) "enumerate":=⟨_,m,rfl⟩;unfold pyNext;exact wj (wpAny_attempt (wx l je
  (wv je l uz (sv m p d q B f λh' t tk z u r n v=>w9 (y h' t tk z u r n v)) (uj _))))
def sy{l:Src}{e it:vW}{k:Nat}{i:Int}{xs:Array vB}{g c:vB}{Q:Option vB->vk->Prop}(r:A.handled=uB)(j:En s.heap e it .none i g c)(b:l.it s.heap it k)(p:l.val s.heap xs)(u:xs[k]?=uB)
  (n:∀h',Heap.ExtBut it s.heap h'->Q uB {s with heap:=h'}):wq (vT prog w) A (pyNext (.ref e)) Q E s:=by
 have h:s.TypeIs (.ref e) "enumerate":=⟨_,j,rfl⟩;unfold pyNext;refine wj (wpAny_attempt (wx h je
  (wv je h uz (wj (m:=field (.ref e) 2) (ww j rfl rfl (wj (Src.II r b p u λh' x f d=>?_)))) (uj _))))
 obtain⟨o,t,q⟩:=d;exact wj (wpAny_isInstance ⟨o,t,q⟩ isSubtype_stop (w9 (n _ f)))
def tD{elts:List vY}{x1}{pos:Pos}{e it a:vW}{i:Int}{g c:vB}{Q:Unit->vk->Prop}(h:En s.heap e it (vU a) i g c)
  (j:∀h',En h' e it .none i g c->jK e s.heap h'->Q () {s with heap:=h'}):wq (vT prog w) A (vR (.Tuple elts x1 pos) (.ref e) (.ref a)) Q E s:=by
 unfold vR;refine wj (wpAny_load h ?_);dsimp only;rw[if_pos (by simp)];exact wj (wpAny_rule (wD h (by simp) λh' d f=>j h' d f))
def cA(b:En s.heap e it f0 i g old)(h:Q (.ref e) s):wq (vT prog w) A (pyIter (.ref e)) Q E s:=by have a:s.TypeIs (.ref e) "enumerate":=⟨_,b,rfl⟩;exact wpAny_pyIter_slot a ux (wv ux a PySem.F.entry_enumerate_iter (w9 ⟨_,rfl,"enumerate",_,a,PySem.F.slot_enumerate_next.lookup,h⟩) (PySem.F.args_enumerate_iter_1 _))
end
abbrev Tp(h:Heap)(T:vW)(xs:List vB):Prop:=h.get? T=uA {cls:=.type "tuple",data:=.seq xs.toArray}
inductive TN (h:Heap) (i:Nat):List (Src×vW)->List vB->Prop where
 |nil:TN h i [] []
 |cons {sr p r x us xs} (XX:Src.it h p i sr) (hv:sr.val h xs) (hx:xs[i]?=uA x) (t:TN h i r us):TN h i ((sr,p)::r) (x::us)
theorem TN.length(d:TN h i l us):us.length=l.length:=by
 induction d with
 |nil=>rfl
 |cons _ _ _ _ a=>simp[a]
section
variable{prog:vj}{w:vC}{A:vK}{E:vB->vk->Prop}{s:vk}
def tE(b:Tp s.heap T xs)(hz:lN xs<=1000000)
  (h:∀h',Tp h' T (xs.set k x)->jK T s.heap h'->Q () {s with heap:=h'}):wq (vT prog w) A (updateSeq T (·.setIfInBounds k x)) Q E s:=by
 have c:=zk▸zN hz TB;refine wpAny_updateSeq b rfl (h _ ?_ (.update ..)) c (by rw[Array.size_setIfInBounds];exact Nat.le_succ_of_le c);show(s.heap.update T _).get? T=_;rw[xG _ b rfl];simp[Obj.mapSeq]
def ZS(prog:vj)(w:vC)(A:vK)(E:vB->vk->Prop)(z TO p:vW)(k:Nat)(R:vk->Prop)(s:vk):Prop:=
 wq (vT prog w) A (qf (.ref p)) (λx s1=>∃os,Tp s1.heap TO os/\lN os<=1000000/\∀h',Tp h' TO (os.set k x)->jK TO s1.heap h'->R {s1 with heap:=h'})
  (λe s'=>wq (vT prog w) A (setField (.ref z) 0 .none) (λ_ VT=>E e VT) E s') s
def cB{z TO p:vW}{k i:Nat}{r:Src}{xs:Array vB}{x:vB}{q:List vB}{Q:vk->Prop}(l:Tp s.heap TO q)(hz:lN q<=1000000)(j:r.it s.heap p i)(y:r.val s.heap xs)(F:xs[i]?=uA x)
  (h:∀h',Tp h' TO (q.set k x)->r.it h' p (i+1)->(∀b o,b≠TO->b≠p->s.heap.get? b=uA o->h'.get? b=uA o)->h'.objs.size=s.heap.objs.size->Q {s with heap:=h'}):ZS prog w A E z TO p k Q s:=by
 have m:TO≠p:=λe=>by
  obtain⟨o,u,C,_⟩:=j;rw[<-e,l]at u;cases u
  cases r<;>(simp[Src.NM]at C)
 exact Src.NH j y F λt f d=>⟨q,d.extBut _ _ m l,hz,λn g c=>(h n g (f.at λo e=>c.extBut _ _ (.symm m) e) (λb o B v e=>c.extBut b o B (d.extBut b o v e)) (by rw[c.1];rw[d.1]))⟩
theorem cC{z TO:vW}{i:Nat}{m:vB×Nat->Option Fin×PUnit->Sem (ForInStep (Option Fin×PUnit))}{R:Option Fin×PUnit->vk->Prop}
  (hb:∀(p:vW)(k:Nat)(s:vk)(R':ForInStep (Option Fin×PUnit)->vk->Prop),ZS prog w A E z TO p k (λs'=>R' (.yield (uB,⟨⟩)) s') s->
   wq (vT prog w) A (m (.ref p,k) (uB,⟨⟩)) R' E s):
  ∀(l:List (Src×vW))(us pre post:List vB)(s:vk),TN s.heap i l us->Tp s.heap TO (pre++post)->lN post=lN l->lN (pre++post)<=1000000->(l.map (·.2)).Nodup->(∀q∈l,q.1.MB≠TO)->(∀q∈l,∀r∈l,q.1.MB≠r.2)->
   (∀h',Tp h' TO (pre++us)->(∀q∈l,q.1.it h' q.2 (i+1))->(∀b o,b≠TO->b∉l.map (·.2)->s.heap.get? b=uA o->h'.get? b=uA o)->h'.objs.size=s.heap.objs.size->R (uB,⟨⟩) {s with heap:=h'})->
   wq (vT prog w) A (forIn ((l.map λq=>Value.ref q.2).zipIdx (lN pre)) (uB,⟨⟩) m) R E s
 | [],us,pre,post,s,d,H,u,J,O,N,C,M=>by
  cases d;cases post with
  |cons _ _=>simp at u
  |nil=>
   rw[qy,List.zipIdx_nil,List.forIn_nil];exact w9 (M s.heap H (λq a=>by cases a) (λb o _ _ e=>e) rfl)
 | (P,p)::l,us,pre,post,s,d,H,u,J,O,N,C,M=>by
  cases d with
  |@cons _ _ _ x us xs h hv hx d=>
  cases post with
  |nil=>simp at u
  | cons y post=>
   rw[zY,jJ,xw];refine wj (hb p (lN pre) s _ (cB H J h hv hx λh' g it' kp sz=>?_));have X:(pre++y::post).set (lN pre) x=(pre++[x])++post:=by simp
   rw[X]at g;have W:lN pre+1=lN (pre++[x]):=by simp
   dsimp only;rw[W]
   have f:p∉l.map (·.2)/\(l.map (·.2)).Nodup:=by simpa using O
   have j:∀q∈l,q.2≠TO:=λq a e=>by
    have:∃P k,Src.it s.heap q.2 k P:=by
     clear M N C O f X W u g J
     induction d with
     |nil=>cases a
     |cons h _ _ _ U=>
      rcases zw.mp a with rfl|a
      .exact⟨_,_,h⟩
      exact U a
    obtain⟨sr',k,o,L,Y,_⟩:=this;rw[e,H]at L;cases L
    cases sr'<;>(simp[Src.NM]at Y)
   have d':TN h' i l us:=by
    have F:∀q∈l,q.1.MB≠TO:=λq a=>N q (zV _ a)
    have I:∀q∈l,q.1.MB≠p:=λq a=>C q (zV _ a) (P,p) zy
    have pp:∀q∈l,q.2≠p:=λq a e=>f.1 (qY.mpr ⟨q,a,e⟩)
    clear M N C O f X W u g J
    induction d with
    |nil=>exact .nil
    |@cons sr1 p1 r1 x1 us1 xs1 B T Z t1 U=>
     exact .cons (B.at λo e=>kp _ o (j _ zy) (pp _ zy) e) (T.at λo e=>kp _ o (F _ zy) (I _ zy) e) Z (U (λq a=>j q (zV _ a)) (λq a=>F q (zV _ a)) (λq a=>I q (zV _ a)) (λq a=>pp q (zV _ a)))
   refine cC hb l us (pre++[x]) post {s with heap:=h'} d' g (by simpa using u) (by simpa using J) f.2 (λq a=>N q (zV _ a)) (λq a r hr=>C q (zV _ a) r (zV _ hr)) λS Q t n v=>?_
   have K:p≠TO:=λe=>by
    obtain⟨o,L,Y,_⟩:=h;rw[e,H]at L;cases L
    cases P<;>(simp[Src.NM]at Y)
   refine M S (by simpa using Q) (λq a=>?_) (λb o b1 b2 e=>?_) (v.trans sz)
   .rcases zw.mp a with rfl|a
    .exact it'.at λo e=>n _ o K f.1 e
    exact t q a
   simp only[zY,zw,not_or]at b2;exact n b o b1 b2.2 (kp b o b1 b2.1 e)
end
inductive ZG (h:Heap) (i:Nat):List (Src×vW)->Prop where
 |here {sr p r xs} (XX:Src.it h p i sr) (hv:sr.val h xs) (hx:xs[i]?=uB):ZG h i ((sr,p)::r)
 |there {sr p r x xs} (XX:Src.it h p i sr) (hv:sr.val h xs) (hx:xs[i]?=uA x) (t:ZG h i r):ZG h i ((sr,p)::r)
structure TQ (TO:vW) (l:List (Src×vW)):Prop where
 nd:(l.map (·.2)).Nodup
 na:∀q∈l,q.1.MB≠TO
 np:∀q∈l,∀r∈l,q.1.MB≠r.2
 to:∀q∈l,q.2≠TO
def TQ.tail{TO:vW}{q:Src×vW}{l:List (Src×vW)}(a:TQ TO (q::l)):TQ TO l:=
 ⟨(xQ.mp (by simpa using a.nd)).2,λq b=>a.na q (zV _ b),λq b r c=>a.np q (zV _ b) r (zV _ c),λq b=>a.to q (zV _ b)⟩
section
variable{prog:vj}{w:vC}{A:vK}{E:vB->vk->Prop}{s:vk}
theorem ZG.at{TO p:vW}{u:Src}{i:Nat}{h h':Heap}{l:List (Src×vW)}(a:TQ TO ((u,p)::l))(j:∀b o,b≠TO->b≠p->h.get? b=uA o->h'.get? b=uA o)(d:ZG h i l):ZG h' i l:=by
 have n:∀q∈l,q.2≠p:=λq f e=>(xQ.mp (by simpa using a.nd)).1 (qY.mpr ⟨q,f,e⟩)
 have k:∀q∈l,q.1.MB≠p:=λq f=>a.np q (zV _ f) (u,p) zy
 have g:=a.tail;clear a
 induction d with
 |here c m r=>exact .here (c.at λo e=>j _ o (g.to _ zy) (n _ zy) e) (m.at λo e=>j _ o (g.na _ zy) (k _ zy) e) r
 | there c m r t v=>
  exact .there (c.at λo e=>j _ o (g.to _ zy) (n _ zy) e) (m.at λo e=>j _ o (g.na _ zy) (k _ zy) e) r
   (v (λq f=>n q (zV _ f)) (λq f=>k q (zV _ f)) g.tail)
theorem cD{z TO:vW}{i:Nat}{f:vB×Nat->Option Fin×PUnit->Sem (ForInStep (Option Fin×PUnit))}{R:Option Fin×PUnit->vk->Prop}(M:A.handled=uB)
  (J:∀(p:vW)(k:Nat)(s:vk)(K:ForInStep (Option Fin×PUnit)->vk->Prop),ZS prog w A E z TO p k (λs'=>K (.yield (uB,⟨⟩)) s') s->
   wq (vT prog w) A (f (.ref p,k) (uB,⟨⟩)) K E s):
  ∀(l:List (Src×vW))(m:List vB)(n:Nat)(s:vk),ZG s.heap i l->Tp s.heap TO m->lN m<=1000000->TQ TO l->
   (∀h' e,(∀b o,b≠TO->b∉l.map (·.2)->s.heap.get? b=uA o->h'.get? b=uA o)->(∃o,h'.get? e=uA o/\o.cls=.type "StopIteration")->wq (vT prog w) A (setField (.ref z) 0 .none) (λ_ F=>E (.ref e) F) E {s with heap:=h'})->
   wq (vT prog w) A (forIn ((l.map λq=>Value.ref q.2).zipIdx n) (uB,⟨⟩) f) R E s
 |[],m,n,s,d,I,B,a,y=>by cases d
 | (P,p)::l,m,n,s,d,I,B,a,y=>by
  rw[zY,jJ,xw];refine wj (J p n s _ ?_);cases d with
  |here g v H=>
   exact Src.II M g v H λh' e N x=>y h' e (λb o C h q=>N b o (λz=>h (by rw[z];simp)) q) x
  |there g v H t=>
   refine cB I B g v H λh' u O L sz=>?_
   refine cD M J l _ (n+1) {s with heap:=h'} (t.at a L) u (by simpa using B) a.tail λr e j x=>?_
   refine y r e (λb o C h q=>?_) x;simp only[zY,zw,not_or]at h;exact j b o C h.2 (L b o C h.1 q)
def cE{z TI TO:vW}{l:List (Src×vW)}{R:Fin->vk->Prop}(hz:IsZip s.heap z TI TO .none)(F:Tp s.heap TI (l.map λq=>Value.ref q.2))(J:l≠[])
  (h:∀c,IsZip c z TI TO .ellipsis->jK z s.heap c->∀f:vB×Nat->Option Fin×PUnit->Sem (ForInStep (Option Fin×PUnit)),
   (∀(p:vW)(k:Nat)(s:vk)(H:ForInStep (Option Fin×PUnit)->vk->Prop),ZS prog w A E z TO p k (λs'=>H (.yield (uB,⟨⟩)) s') s->
    wq (vT prog w) A (f (.ref p,k) (uB,⟨⟩)) H E s)->
   wq (vT prog w) A (forIn ((l.map λq=>Value.ref q.2).zipIdx 0) (uB,⟨⟩) f) (λr s'=>r.1=uB/\∃us,Tp s'.heap TO us/\lN us<=1000000/\IsZip s'.heap z TI TO .ellipsis/\
    ∀h',IsZip h' z TI TO (vU s'.heap.objs.size)->Tp h' s'.heap.objs.size us->h'.objs.size=s'.heap.objs.size+1->(∀b o,b≠z->s'.heap.get? b=uA o->h'.get? b=uA o)->R (.done (.ret (.ref s'.heap.objs.size))) {s' with heap:=h'}) E {s with heap:=c}):
  wq (vT prog w) A (Builtin.«zip.__next__» ⟨[.ref z],[]⟩) R E s:=by
 refine wj (m:=field (.ref z) 2) (ww hz rfl (x:=.bool uD) rfl (wj (ww hz rfl rfl (wj (wpAny_seqItems F rfl ?_)))));dsimp only;have y:(l.map λq=>Value.ref q.2).toArray.isEmpty=uD:=by cases l with
  |nil=>exact absurd rfl J
  |cons _ _=>simp
 rw[y];refine wj ?_;unfold vc;refine wj (ww hz rfl rfl (w9 ?_));simp only[if_true];refine wj (wpAny_rule (wj (ww hz rfl rfl (wj (wD hz (by simp) λc j t=>?_)))));refine wj (w5 (h c j t _ λp k s H C=>?_) (λr s' Q=>?_) λ_ _ x=>x)
 .refine wj (wpAny_onRaise ?_);refine wj (w5 C (λx U T=>w9 ?_) λ_ _ x=>x);obtain⟨W,B,I,K⟩:=T;dsimp only;refine wj (wpAny_seqItems B rfl ?_);dsimp only;exact wj (tE B I λh' P S=>wj (wpAny_letGo (w9 (K h' P S))))
 .obtain⟨N,us,B,I,v,K⟩:=Q;rw[N];dsimp only;refine wj (wpAny_seqItems B rfl ?_);dsimp only;refine wj (wpAny_newTuple ?_ (by simpa using zN I TB));have g:=zD v;refine wj ?_;unfold vd;have O:us.toArray.toList.toArray=us.toArray:=by simp
  rw[O];refine wj (wD (zJ _ v) (by simp) λL n e=>?_);refine wD n (by simp) λu i d=>?_
  refine w9 (K u i (d.extBut _ _ (jw g) (e.extBut _ _ (jw g) (zA _ rfl))) ?_ λb o M q=>d.extBut _ _ M (e.extBut _ _ M (zJ _ q)));rw[d.1];rw[e.1,jY]
def tF{z TI TO:vW}{i:Nat}{l:List (Src×vW)}{us W:List vB}{Q:Option vB->vk->Prop}(hz:IsZip s.heap z TI TO .none)(I:Tp s.heap TI (l.map λq=>Value.ref q.2))(U:Tp s.heap TO W)(n:W.length=l.length)(hsz:l.length<=1000000)(N:l≠[])
  (a:TQ TO l) (y:z≠TO/\(∀q∈l,q.2≠z/\q.1.MB≠z)) (d:TN s.heap i l us)
  (Y:∀h',IsZip h' z TI TO (vU s.heap.objs.size)->Tp h' TO us->(∀q∈l,q.1.it h' q.2 (i+1))->Tp h' s.heap.objs.size us->h'.objs.size=s.heap.objs.size+1->
   (∀b o,b≠z->b≠TO->b∉l.map (·.2)->s.heap.get? b=uA o->h'.get? b=uA o)->Q (uA (.ref s.heap.objs.size)) {s with heap:=h'}):wq (vT prog w) A (pyNext (.ref z)) Q E s:=by
 have Z:s.TypeIs (.ref z) "zip":=⟨_,hz,rfl⟩;unfold pyNext;refine wj (wpAny_attempt (wx Z jf (wv jf Z uv ?_ (uw _))));refine cE hz I N λh x m body T=>?_
 have g:∀b o,b≠z->s.heap.get? b=uA o->h.get? b=uA o:=λb o T q=>m.extBut b o T q
 have O:TN h i l us:=by
  have S:=y.2;clear I n hsz N a y Y
  induction d with
  |nil=>exact .nil
  |cons X hv hx t ih=>exact .cons (X.at λo e=>g _ o (S _ zy).1 e) (hv.at λo e=>g _ o (S _ zy).2 e) hx (ih λq C=>S q (zV _ C))
 refine cC T l us [] W {s with heap:=h} O (g _ _ (.symm y.1) U) n (by simpa[n]using hsz) a.nd a.na a.np λL r B u v=>⟨rfl,us,r,d.length▸hsz,?_,λM H J P K=>?_⟩
 .refine u _ _ y.1 (λhm=>?_) x;obtain⟨q,C,e⟩:=qY.mp hm;exact(y.2 q C).1 e
 have e2:=v▸m.1;refine⟨_,rfl,w9 ?_⟩;have p:=H;have k:=J;have j:=P;have f:=K;rw[e2]at p k j⊢;exact Y M p (f _ _ (.symm y.1) r) (λq C=>(B q C).at λo e=>f _ o (y.2 q C).1 e) k j λb o b1 b2 b3 q=>f b o b1 (u b o b2 b3 (g b o b1 q))
def tG{z TI TO:vW}{i:Nat}{l:List (Src×vW)}{P:List vB}{Q:Option vB->vk->Prop}(hh:A.handled=uB)(hz:IsZip s.heap z TI TO .none)(u:Tp s.heap TI (l.map λq=>Value.ref q.2))(M:Tp s.heap TO P)(m:lN P=lN l)(hsz:lN l<=1000000)(H:l≠[])
  (a:TQ TO l) (y:z≠TO/\(∀q∈l,q.2≠z/\q.1.MB≠z)) (d:ZG s.heap i l)
  (T:∀h',(∀b o,b≠z->b≠TO->b∉l.map (·.2)->s.heap.get? b=uA o->h'.get? b=uA o)->Q uB {s with heap:=h'}):wq (vT prog w) A (pyNext (.ref z)) Q E s:=by
 have U:s.TypeIs (.ref z) "zip":=⟨_,hz,rfl⟩;unfold pyNext;refine wj (wpAny_attempt (wx U jf (wv jf U uv ?_ (uw _))));refine cE hz u H λg n p X L=>?_
 have f:∀b o,b≠z->s.heap.get? b=uA o->g.get? b=uA o:=λb o L q=>p.extBut b o L q
 have I:ZG g i l:=by
  have v:=y.2;clear u m hsz H a y T
  induction d with
  |here r J S=>exact .here (r.at λo e=>f _ o (v _ zy).1 e) (J.at λo e=>f _ o (v _ zy).2 e) S
  |there r J S t Z=>exact .there (r.at λo e=>f _ o (v _ zy).1 e) (J.at λo e=>f _ o (v _ zy).2 e) S (Z λq K=>v q (zV _ K))
 refine cD (A:=A.in1) (hh) L l P 0 {s with heap:=g} I (f _ _ (.symm y.1) M) (m▸hsz) a λB e k st=>?_
 have h:IsZip B z TI TO .ellipsis:=by refine k _ _ y.1 (λhm=>?_) n;obtain⟨q,K,e⟩:=qY.mp hm;exact(y.2 q K).1 e
 obtain⟨o,O,W⟩:=st;have N:e≠z:=λx=>by subst x;rw[h]at O;cases O;simp at W
 refine wD h (by simp) λC _ j=>?_
 exact wj (wpAny_isInstance ⟨o,j.extBut _ _ N O,W⟩ isSubtype_stop (w9 (T C λb o Y b2 b3 q=>j.extBut _ _ Y (k b o b2 b3 (f b o Y q)))))
theorem cF:∀(c:List Src)(pre:Array vB)(s:vk){Q:Array vB->vk->Prop},(∀d∈c,∃xs,d.val s.heap xs)->
  (∀h',(∀q∈c.zipIdx s.heap.objs.size,q.1.it h' q.2 0)->h'.objs.size=s.heap.objs.size+lN c->(∀b o,s.heap.get? b=uA o->h'.get? b=uA o)->Q (pre++((c.zipIdx s.heap.objs.size).map λq=>Value.ref q.2).toArray) {s with heap:=h'})->
  wq (vT prog w) A (forIn (c.map λd=>Value.ref d.MB) pre λx r=>do let v<-holding r.toList (pyIter x);pure (ForInStep.yield (r.push v))) Q E s
 |[],pre,s,Q,j,h=>by rw[qy,List.forIn_nil];refine w9 ?_;have:=h s.heap (λq f=>by cases f) rfl (λ_ _ e=>e);simpa using this
 | d::c,pre,s,Q,j,h=>by
  rw[zY,xw];obtain⟨xs,y⟩:=j d zy;refine wj (wj (wk (Src.iter y (w9 ?_))));dsimp only;refine cF c (pre.push (.ref s.heap.objs.size)) {s with heap:=s.heap.push {cls:=.type d.NM,data:=.fields #[.ref d.MB,.int 0 0]}} (λl t=>?_) λh' i k g=>?_
  .obtain⟨u,p⟩:=j l (zV _ t);exact⟨u,p.at λo e=>zJ _ e⟩
  dsimp only at i k g⊢;rw[jY ..]at i k⊢;have:=h h' (λq f=>?_) (by rw[k,zE];lia) (λb o e=>g b o (zJ _ e))
  .rw[jJ,zY]at this;simpa using this
  .rw[jJ]at f;rcases zw.mp f with rfl|f
   .exact⟨_,g _ _ (zA _ rfl),rfl,rfl⟩
   exact i q f
def tH{c:List Src}{Q:vB->vk->Prop}(r:∀d∈c,∃xs,d.val s.heap xs)(H:lN c<=1000000)
  (y:checkTypeCall "zip" ⟨c.map λd=>Value.ref d.MB,[]⟩=pure ()) (t:checkBuiltinCall "zip.__new__" ⟨.type "zip"::c.map λd=>Value.ref d.MB,[]⟩=pure ()) (SA:∀obj,argsOk "object.__init__" ⟨obj::c.map λd=>Value.ref d.MB,[]⟩)
  (h:∀h' n,n=s.heap.objs.size+lN c->IsZip h' (n+2) n (n+1) .none->Tp h' n ((c.zipIdx s.heap.objs.size).map λq=>Value.ref q.2)->Tp h' (n+1) (c.map λ_=>Value.none)->(∀q∈c.zipIdx s.heap.objs.size,q.1.it h' q.2 0)->
   (∀b o,s.heap.get? b=uA o->h'.get? b=uA o)->Q (.ref (n+2)) {s with heap:=h'}):
  wq (vT prog w) A (call (.type "zip") (c.map λd=>Value.ref d.MB)) Q E s:=by
 have g:Meets (Builtin.«zip.__new__» ⟨.type "zip"::c.map λd=>.ref d.MB,[]⟩) (λ_ R s=>(∀d∈c,∃xs,d.val s.heap xs)/\
   ∀h' n,n=s.heap.objs.size+lN c->IsZip h' (n+2) n (n+1) .none->Tp h' n ((c.zipIdx s.heap.objs.size).map λq=>.ref q.2)->Tp h' (n+1) (c.map λ_=>.none)->(∀q∈c.zipIdx s.heap.objs.size,q.1.it h' q.2 0)->
    (∀b o,s.heap.get? b=uA o->h'.get? b=uA o)->R (.ok (.ret (.ref (n+2)))) {s with heap:=h'}):=
  .of_wp λprog w A R s M=>by
   obtain⟨r,N⟩:=M;have C:=sub_zip;unfold Builtin.«zip.__new__» u7
   wp_walk
   refine cF c #[] s r λk x j u=>w9 ?_
   have L:(#[]++((c.zipIdx s.heap.objs.size).map λq=>.ref q.2).toArray:Array vB).toList=(c.zipIdx s.heap.objs.size).map λq=>.ref q.2:=by simp
   rw[L];have f:lN ((c.zipIdx s.heap.objs.size).map λq=>Value.ref q.2)=lN c:=by simp
   refine wj (wpAny_newTuple ?_ (f▸zN H TB));refine wj (wpAny_newTuple ?_ (by rw[zq,f];exact zN H TB));refine wj ?_;unfold u8;dsimp only;refine w6 (w9 ⟨_,rfl,?_⟩) (by simp[sizeOk,u9,wQ]);generalize P:s.heap.objs.size+lN c=n at*;have J:((c.zipIdx s.heap.objs.size).map λq=>Value.ref q.2).map (λ_=>.none)=c.map λ_=>Value.none:=by refine jv (by simp) λi k O=>by simp
   dsimp only;rw[J];generalize((c.zipIdx s.heap.objs.size).map λq=>Value.ref q.2)=m at*;generalize(c.map λ_=>Value.none)=B at*;have l:(k.push {cls:=.type "tuple",data:=.seq m.toArray}).objs.size=n+1:=by rw[jY,j]
   have z:((k.push {cls:=.type "tuple",data:=.seq m.toArray}).push {cls:=.type "tuple",data:=.seq B.toArray}).objs.size=n+2:=by rw[jY,l]
   rw[z];refine N _ n rfl ?_ (zJ _ (zJ _ (by rw[<-j];exact zA _ rfl))) (zJ _ (by rw[<-l];exact zA _ rfl)) (λq K=>(x q K).at λo e=>zJ _ (zJ _ (zJ _ e))) λb o e=>zJ _ (zJ _ (zJ _ (u b o e)))
   have:=zA ((k.push {cls:=.type "tuple",data:=.seq m.toArray}).push {cls:=.type "tuple",data:=.seq B.toArray}) (o:={cls:=.type "zip",data:=.fields #[.none,.bool uD,.bool uD,.ref k.objs.size,.ref (k.push {cls:=.type "tuple",data:=.seq m.toArray}).objs.size]}) rfl;rw[z]at this;rw[j,l]at this;rw[j,l];exact this
 refine callType_new PySem.F.called_zip (by decide) y t SA PySem.F.entry_zip_new g ⟨r,λh' n I j p v x u=>⟨⟨_,j,rfl⟩,h h' n I j p v x u⟩⟩
end
end _D
namespace _D
open PySem PySem.W PyProof.Rows
section
def Hy(lt:Nat->Nat->Bool){α:Type}:KasT α->α
 |.ret a=>a
 |.ask i j k=>Hy lt (k (lt i j))
variable{lt:Nat->Nat->Bool}
noncomputable abbrev pt(p:Array Nat)(j:Nat):Nat:=p.getD j 0
end
end _D
namespace _D
open PySem PySem.Spec _L
open PyProof.Rows hiding St
variable{wS:List (vW×Obj)}{elts:List vY}
section
variable{X:Cx}{wS:List (vW×Obj)}{σ:St}{H:Hp}{s:vk}{h':Heap}
def Xi{t':Nat}{fp:List vW}(I:Inv X wS σ H s)(k:∀b o,b∉fp->s.heap.get? b=uA o->h'.get? b=uA o)(g:∀b∈fp,PD X wS H b):Inv X wS σ H {s with heap:=h',toks:=t'}:=by
 have f:∀b u,H b=uA u->b∉fp:=λb u e z=>by rw[(g b z).1]at e;cases e
 refine I.step (λb i=>?_) (λb o _ _ a e _=>k b o a e) (λb o _ _ a e _=>⟨o.slots,k b o a e⟩) (λ_ _ _ _ n=>n)
  (λb o a e=>⟨o,k b o a e⟩) (λ_ _ e=>e) (λ_ _ _ e=>e) (λb C e=>⟨#[],by rw[e];simp⟩) (λm l=>?_) (λb u e=>?_) I.bare
 .obtain⟨B,x,F,t,A,j⟩:=g b i;exact⟨t,x,A,j⟩
 .obtain⟨o,p,w,y,r⟩:=l;exact⟨o,p,w,k _ o (λz=>(g _ z).2.1 rfl) y,r⟩
 refine(I.SA b u e).ZF (λc v a q=>k c v ?_ q) (λ_ q=>q) λ_ _ q=>q
 rcases a with z|z
 .rw[z];exact f b u e
 exact f c _ z
def cG{t':Nat}{fp:List vW}{p:vW}{xs:List V}{MA:List vB}(I:Inv X wS σ H s)(k:∀b o,b∉fp->s.heap.get? b=uA o->h'.get? b=uA o)(h:∀b∈fp,PD X wS H b)(hp:s.heap.objs.size<=p)
  (hz:lN xs<=sizeLine) (r:Vals xs MA) (i:Tp h' p MA):Inv X wS σ (upd H p (.tup xs)) {s with heap:=h',toks:=t'}:=by
 obtain⟨d,f,l,j,g,e⟩:=I.Hj hp (I.SA.fresh hp);exact Z9 (Xi I k h) d (zN I.sz hp) f g e ⟨hz,MA,r,_,i,rfl,_,rfl⟩
end
def Src.sq(K:za)(H:Hp)(xs:List V):Src->Prop
 |.l a=>OE K H a xs
 |.t a=>VE K H a xs
theorem Src.sq.val{X:Cx}{d:St}{H:Hp}{s:vk}{b:Src}{xs:List V}(I:Inv X wS d H s)(h:b.sq X.K H xs):∃MA:List vB,Vals xs MA/\b.val s.heap MA.toArray/\lN xs<=sizeLine:=by
 cases b with
 |l a=>obtain⟨MA,r,p,c⟩:=I.list h;exact⟨MA,r,p.isList,c⟩
 |t a=>obtain⟨MA,r,p,c⟩:=I.tuple h;exact⟨MA,r,p,c⟩
theorem Src.sq.inj{X:Cx}{c:St}{H:Hp}{s:vk}{b:Src}{xs ys:List V}(I:Inv X wS c H s)(h:b.sq X.K H xs)(h':b.sq X.K H ys):xs=ys:=by
 cases b with
 |l a=>exact I.Yc h h'
 |t a=>exact I.Yx h h'
def Sk(K:za)(sr:Src)(n:Int):It:=
 ⟨λi H=>∃xs x,sr.sq K H xs/\xs[i]?=uA x,λi H v H'=>∃p x,v=.ref p/\H p=uB/\H'=upd H p (.tup [.int (n+i),x])/\∀xs,sr.sq K H xs->xs[i]?=uA x,λi H=>∃xs,sr.sq K H xs/\lN xs<=i⟩
def tI{P:vj}{w:vC}{K:za}{x1}{pos:Pos}(Z:Src)(n:Int)(e it:vW)(B:e≠it):
  Turn P w K (.Tuple elts x1 pos) (Sk K Z n) [e,it] e (λi h=>∃g a,En h e it .none (n+i) g a/\Gv (n+i) g/\Z.it h it i) where
 mem:=by simp
 obj:=λi h f b j=>by
  obtain⟨g,a,d,_,o,ho,_,hd⟩:=f;rcases(show b=e\/b=it by simpa using j)with rfl|rfl
  .exact⟨_,d,λv z=>by cases z⟩
  exact⟨o,ho,λv z=>by rw[hd]at z;cases z⟩
 keep:=λi h h' f k=>by obtain⟨g,a,d,y,p⟩:=f;exact⟨g,a,k e (by simp) _ d,y,p.at λo q=>k it (by simp) o q⟩
 item:=by
  intro X L hw N Y i m s σ H E I F f y;subst L hw N;obtain⟨xs,x,J,Q⟩:=y;obtain⟨S,O,M,hz⟩:=Src.sq.val I J;obtain⟨u,hu,ru⟩:=O.get Q;obtain⟨g,a,d,r,p⟩:=f;refine sx d r p M (by simpa using hu) B λh1 t tk e1 i1 t1 z1 k1=>⟨_,rfl,?_⟩
  refine tD e1 λh2 e2 T=>?_
  have A:=jw (zD d);have I2:Inv X m σ (upd H s.heap.objs.size (.tup [.int (n+i),x])) {s with heap:=h2,toks:=tk}:=
   cG I (λb o j q=>by
    have c:b≠e/\b≠it:=by simpa using j
    exact T.extBut b o c.1 (k1 b o c.1 c.2 q)) F (zx _) (by show 2<=sizeLine;decide) (.cons ⟨t,rfl⟩ (.cons ru .nil)) (T.extBut _ _ A t1)
  refine⟨.ref s.heap.objs.size,_,I2,rfl,⟨_,x,rfl,I.SA.fresh (zx _),rfl,λys hy=>(Src.sq.inj I hy J)▸Q⟩,⟨.none,u,?_,.inl rfl,i1.at λo q=>T.extBut _ _ (.symm B) q⟩,λb j=>?_⟩
  .have ee:n+(i:Int)+1=n+((i+1:Nat):Int):=by lia
   rw[<-ee];exact e2
  have c:b=e\/b=it:=by simpa using j
  rw[Ag (λz=>?_)]
  .exact(F b j).1
  .rcases c with rfl|rfl
   .exact A z.symm
   .have C:=Src.it.lt p;rw[z]at C;exact qB _ C
 done:=by intro X L hw N Y i m s σ H E I F f y;subst L hw N;obtain⟨xs,J,Q⟩:=y;obtain⟨S,O,M,hz⟩:=Src.sq.val I J;obtain⟨g,a,d,r,p⟩:=f;have hl:=O.length;exact sy (I.ok.hd Y) d p M (by simp;lia) λh1 xb=>⟨rfl,Xi I (λb o j q=>xb b o (λz=>j (by simp[z])) q) F⟩
 self:=λ_ _ _ _ _ f h=>by obtain⟨g,a,d,_⟩:=f;exact cA d h
section
variable{X:Cx}{E:XK}
def tJ{prog:vj}{w:vC}{A:vK}{E:vB->vk->Prop}{s:vk}{sr:Src}{xs:Array vB}{Q:vB->vk->Prop}(hv:sr.val s.heap xs)
  (h:∀h',En h' (s.heap.objs.size+1) s.heap.objs.size .none 0 .none .none->sr.it h' s.heap.objs.size 0->(∀b o,s.heap.get? b=uA o->h'.get? b=uA o)->Q (.ref (s.heap.objs.size+1)) {s with heap:=h'}):
  wq (vT prog w) A (call (.type "enumerate") [.ref sr.MB]) Q E s:=by
 have g:Meets (Builtin.«enumerate.__new__» ⟨[.type "enumerate",.ref sr.MB],[]⟩) (λ_ R s=>sr.val s.heap xs/\
   R (.ok (.ret (.ref (s.heap.push {cls:=.type sr.NM,data:=.fields #[.ref sr.MB,.int 0 0]}).objs.size)))
    {s with heap:=(s.heap.push {cls:=.type sr.NM,data:=.fields #[.ref sr.MB,.int 0 0]}).push {cls:=.type "enumerate",data:=.fields #[.none,.bool uD,.ref s.heap.objs.size,vU 0,.none,.none]}}):=
  .of_wp λprog w A R s h=>by
   obtain⟨hp,g,d,tk,os⟩:=s;obtain⟨hl,h⟩:=h;have hsub:=sub_enumerate;have hL:=hl
   wp_walk
   refine wpAny_stack_any λst=>w9 ?_
   split
   .rename_i c _ _ _ _ _
    cases(c==Value.type "enumerate")<;>(wp_walk using Src.iter hL;exact⟨_,rfl,h⟩)
   wp_walk using Src.iter hL
   exact⟨_,rfl,h⟩
 refine callType_new PySem.F.called_enumerate (by decide) (PySem.F.typeCall_enumerate_1 _) (PySem.F.newCall_enumerate_1 _) (λobj=>PySem.F.args_object_init_2 obj _) PySem.F.entry_enumerate_new g ⟨hv,?_⟩;have hz:(s.heap.push {cls:=.type sr.NM,data:=.fields #[.ref sr.MB,.int 0 0]}).objs.size=s.heap.objs.size+1:=jY ..;rw[hz];have he:En ((s.heap.push {cls:=.type sr.NM,data:=.fields #[.ref sr.MB,.int 0 0]}).push {cls:=.type "enumerate",data:=.fields #[.none,.bool uD,.ref s.heap.objs.size,vU 0,.none,.none]}) (s.heap.objs.size+1) s.heap.objs.size .none 0 .none .none:=by
  have:=zA (s.heap.push {cls:=.type sr.NM,data:=.fields #[.ref sr.MB,.int 0 0]}) (o:={cls:=.type "enumerate",data:=.fields #[.none,.bool uD,.ref s.heap.objs.size,vU 0,.none,.none]}) rfl;rw[hz]at this;exact this
 exact⟨⟨_,he,rfl⟩,h _ he ⟨_,zJ _ (zA _ rfl),rfl,rfl⟩ λb o x=>zJ _ (zJ _ x)⟩
def tK(K:za)(ta:TA):TI:=λσ H R=>ta σ H λvs H1=>∃sr xs,vs=[.ref (Src.MB sr)]/\sr.sq K H1 xs/\R (Sk K sr 0) H1
theorem tL{x1}(o:Gl X "enumerate")(y:X.mg "enumerate"=uB)(F:PA X [a] ta)(v:wW [a] X.env=[(uD,eval a X.env)]:=by rfl):PI X (.Tuple elts x1 tp) (.Call (.Name "enumerate" p) [a] [] pos) (tK X.K ta):=by
 intro f s z H R I h;refine Call_ (Hv I o y PyProof.Rows.boot_enumerate (qa (YA (F pos f s z H _ I h) λP c zz=>?_) v rfl));obtain⟨L,k,g,C,l⟩:=zz;obtain⟨w,N,e,n,q⟩:=l;subst e;cases C with
 |cons r t=>
  cases t;cases r;obtain⟨A,M,m,J⟩:=Src.sq.val g n;refine tJ m λO j B x=>?_
  refine cA j ?_;refine⟨c.heap.objs.size+1,[c.heap.objs.size+1,c.heap.objs.size],_,_,k,rfl,g.kept x,tI w 0 _ _ (Nat.succ_ne_self _),⟨.none,.none,by simpa using j,.inl rfl,B⟩,λb u=>?_,q⟩;have i:b=c.heap.objs.size+1\/b=c.heap.objs.size:=by simpa using u
  have d:c.heap.objs.size<=b:=by rcases i with rfl|rfl<;>lia
  exact g.Hj d (g.SA.fresh d)
end
inductive XH (K:za) (H:Hp) (i:Nat):List Src->List V->Prop where
 |nil:XH K H i [] []
 |cons {sr r v us xs} (hq:Src.sq K H xs sr) (hx:xs[i]?=uA v) (t:XH K H i r us):XH K H i (sr::r) (v::us)
inductive UN (K:za) (H:Hp) (i:Nat):List Src->Prop where
 |here {sr r xs} (hq:Src.sq K H xs sr) (hx:lN xs<=i):UN K H i (sr::r)
 |there {sr r v xs} (hq:Src.sq K H xs sr) (hx:xs[i]?=uA v) (t:UN K H i r):UN K H i (sr::r)
def YX(K:za)(ls:List Src):It:=
 ⟨λi H=>∃us,XH K H i ls us,λi H v H'=>∃p us,v=.ref p/\H p=uB/\H'=upd H p (.tup us)/\∀VF,XH K H i ls VF->VF=us,λi H=>UN K H i ls⟩
theorem XH.length{K:za}{H:Hp}{i:Nat}{a:List Src}{us:List V}(d:XH K H i a us):us.length=a.length:=by
 induction d with
 |nil=>rfl
 |cons _ _ _ b=>simp[b]
section
variable{X:Cx}{wS:List (vW×Obj)}{σ:St}{H:Hp}{s:vk}
theorem XH.inj(I:Inv X wS σ H s):∀{f:List Src}{us VF:List V},XH X.K H i f us->XH X.K H i f VF->us=VF
 |[],_,_,d,b=>by cases d;cases b;rfl
 | k::f,_,_,d,b=>by
  cases d with
  | cons g j t=>
   cases b with
   |cons c a h=>
    have e:=Src.sq.inj I g c;subst e;rw[j]at a;cases a;rw[XH.inj I t h]
theorem XH.RW(I:Inv X wS σ H s):∀{l:List (Src×vW)}{us:List V},XH X.K H i (l.map (·.1)) us->(∀q∈l,q.1.it s.heap q.2 i)->∃a,TN s.heap i l a/\Vals us a
 |[],us,d,h=>by cases d;exact⟨[],.nil,.nil⟩
 | (n,p)::l,us,d,h=>by
  cases d with
  |cons b o t=>
   obtain⟨c,m,g,r⟩:=Src.sq.val I b;obtain⟨u,f,e⟩:=m.get o;obtain⟨a,j,k⟩:=XH.RW I t λq b=>h q (zV _ b)
   exact⟨u::a,.cons (h (n,p) zy) g (by simpa using f) j,.cons e k⟩
theorem UN.RW(I:Inv X wS σ H s):∀{l:List (Src×vW)},UN X.K H i (l.map (·.1))->(∀q∈l,q.1.it s.heap q.2 i)->ZG s.heap i l
 |[],d,h=>by cases d
 | (f,p)::l,d,h=>by
  cases d with
  |here a g=>
   obtain⟨b,e,c,k⟩:=Src.sq.val I a;have m:=e.length;exact .here (h (f,p) zy) c (by simp;lia)
  |there a g t=>
   obtain⟨b,e,c,k⟩:=Src.sq.val I a;obtain⟨u,j,n⟩:=e.get g;exact .there (h (f,p) zy) c (by simpa using j) (UN.RW I t λq a=>h q (zV _ a))
end
def tM{P:vj}{w:vC}{K:za}{x1}{pos:Pos}(l:List (Src×vW))(z TI TO:vW)(a:TQ TO l)(A:z≠TO/\(∀q∈l,q.2≠z/\q.1.MB≠z))(M:TI≠z/\TI≠TO/\∀q∈l,q.2≠TI)(hsz:l.length<=1000000)(x:l≠[]):
  Turn P w K (.Tuple elts x1 pos) (YX K (l.map (·.1))) (z::TI::TO::l.map (·.2)) z
   (λi h=>IsZip h z TI TO .none/\Tp h TI (l.map λq=>Value.ref q.2)/\(∃r,Tp h TO r/\r.length=l.length)/\∀q∈l,q.1.it h q.2 i) where
 mem:=by simp
 obj:=λi h j b c=>by
  obtain⟨m,d,⟨r,f,_⟩,n⟩:=j;rcases zw.mp c with rfl|c
  .exact⟨_,m,λv z=>by cases z⟩
  rcases zw.mp c with rfl|c
  .exact⟨_,d,λv z=>by cases z⟩
  .rcases zw.mp c with rfl|c
   .exact⟨_,f,λv z=>by cases z⟩
   .obtain⟨q,g,rfl⟩:=qY.mp c;obtain⟨o,p,_,Q⟩:=n q g;exact⟨o,p,λv z=>by rw[Q]at z;cases z⟩
 keep:=λi h h' j k=>by obtain⟨m,d,⟨r,f,p⟩,n⟩:=j;exact⟨k z (by simp) _ m,k TI (by simp) _ d,⟨r,k TO (by simp) _ f,p⟩,λq g=>(n q g).at λo e=>k q.2 (by simp only[zw];exact .inr (.inr (.inr (qY.mpr ⟨q,g,rfl⟩)))) o e⟩
 item:=by
  intro X C hw L O i t s σ H E I y j J;subst C hw L;obtain⟨T,F⟩:=J;obtain⟨m,d,⟨r,f,p⟩,n⟩:=j;obtain⟨ws,S,rv⟩:=XH.RW I F n;refine tF m d f p hsz x a A S λh1 z1 t1 i1 p1 s1 B=>⟨_,rfl,?_⟩
  refine wpAny_letOwnedTupleGo_zip z1 λh2 z2 u=>?_
  have N:T.length<=sizeLine:=by rw[F.length,zq];exact zN hsz TB
  have I2:=
   cG (t':=s.toks) I (λb o c q=>by simp only[zw,not_or]at c;exact u.extBut b o c.1 (B b o c.1 c.2.2.1 c.2.2.2 q)) y (zx _) N rv (u.extBut _ _ (jw (zD m)) p1)
  refine⟨.ref s.heap.objs.size,_,I2,rfl,⟨_,T,rfl,I.SA.fresh (zx _),rfl,λVF Y=>XH.inj I Y F⟩,⟨z2,(λb o U b2 Z q=>u.extBut b o U (B b o U b2 Z q)) TI _ M.1 M.2.1 (λhm=>?_) d,⟨ws,u.extBut _ _ (.symm A.1) t1,S.length⟩,λq g=>(i1 q g).at λo e=>u.extBut _ _ (A.2 q g).1 e⟩,λb c=>?_⟩
  .obtain⟨q,g,e⟩:=qY.mp hm;exact M.2.2 q g e
  rw[Ag (λe=>?_)]
  .exact(y b c).1
  .have lt:b<s.heap.objs.size:=by
    rcases zw.mp c with rfl|c
    .exact zD m
    .rcases zw.mp c with rfl|c
     .exact zD d
     .rcases zw.mp c with rfl|c
      .exact zD f
      .obtain⟨q,g,rfl⟩:=qY.mp c;exact(n q g).lt
   rw[e]at lt;exact qB _ lt
 done:=by
  intro X C hw L O i t s σ H E I y j J;subst C hw L;obtain⟨m,d,⟨r,f,p⟩,n⟩:=j;refine tG (I.ok.hd O) m d f p hsz x a A (UN.RW I J n) λh1 B=>⟨rfl,?_⟩
  exact Xi I (λb o c q=>by simp only[zw,not_or]at c;exact B b o c.1 c.2.2.1 c.2.2.2 q) y
 self:=λ_ _ _ _ _ j h=>wpAny_pyIter_zip j.1 h
def Gr (G:DH) (j:Nat):List D->Option (Option (List D))
 |[]=>uA (uA [])
 | d::r=>match Bk d G with
  |none=>uB
  | some xs=>match xs[j]? with
   |none=>uA uB
   |some x=>match Gr G j r with
    |some (uA ys)=>uA (uA (x::ys))
    |o=>o
def H8(ds:List D)(j:Nat)(G:DH):Option (Option D):=(Gr G j ds).map λo=>o.map D.tup
def lenOf(G:DH)(d:D):Nat:=match Bk d G with
 |some xs=>lN xs
 |none=>0
def I8(G:DH)(d:D):Bool:=(Bk d G).isSome
def Gb(n:Int)(d:D)(j:Nat)(G:DH):Option (Option D):=match Bk d G with
 |none=>uB
 |some xs=>uA (xs[j]?.map λx=>.tup [.int (n+j),x])
def Er(ds:List D)(G:DH):R LM:=match ds with
 |[d]=>if I8 G d=uC then .ok (.fn (lenOf G d) (Gb 0 d)) G else .bad
 |_=>.bad
def Gz(n:Nat)(ds:List D)(G:DH):R LM:=if ds.all (I8 G)=uC/\lN ds=n then .ok (.fn (lenOf G (ds.headD .KA)) (H8 ds)) G else .bad
section
variable{X:Cx}{E:XK}
theorem cH{a:Wd}{G:DH}{d:D}{v:V}{xs:List D}(s:XA a G)(r:LB a d v)(h:Bk d G=uA xs):
  ∃j:Src,v=.ref j.MB/\(∃vs,j.sq a.K a.H vs)/\∀b:Wd,Ext a b->∀e,XA b e->∀ys,Bk d e=uA ys->∃us,j.sq b.K b.H us/\HA b ys us:=by
 cases d with
 |tup B=>
  obtain⟨p,vs,rfl,f,n⟩:=r;refine⟨.t p,rfl,⟨vs,f⟩,λb x e k ys c=>?_⟩;cases(c);exact⟨vs,x.IQ f,n.mono x⟩
 |fl B=>
  obtain⟨p,vs,rfl,f,n⟩:=r;refine⟨.l p,rfl,⟨vs,f.sq⟩,λb x e k ys c=>?_⟩;cases(c);exact⟨vs,(x.JQ f).sq,n.mono x⟩
 | ref i=>
  obtain⟨z,rfl⟩:=r;have C:∃g,G[i]?=uA (.lst g):=by
   unfold Bk at h;dsimp only at h;split at h
   .rename_i g q;exact⟨g,q⟩
   cases h
  obtain⟨g,q⟩:=C;obtain⟨vs,y,_⟩:=s.lst q;refine⟨.l (a.m i),rfl,⟨vs,.of y⟩,λb x e k ys c=>?_⟩;unfold Bk at c;dsimp only at c;split at c
  .rename_i w o;cases c;obtain⟨us,u,A⟩:=k.lst o;rw[x.m i z]at u;exact⟨us,.of u,A⟩
  cases c
 |_=>cases h
def tN{a:Wd}{G:DH}{d:D}{v:V}{z:Src}(hk:a.K=X.K)(r:∀b:Wd,Ext a b->∀h,XA b h->∀ys,Bk d h=uA ys->∃us,z.sq b.K b.H us/\HA b ys us)(n:Nat):XE a (.fn n (Gb 0 d)) (Sk X.K z 0):=by
 intro b x h j i;have A:=x.k.trans hk;constructor
 .intro e f;unfold Gb at f;split at f
  .cases f
  rename_i ys m;obtain⟨us,g,l⟩:=r b x h j ys m;rw[A]at g;cases c:ys[i]? with
  |none=>rw[c]at f;cases f
  |some y=>
   rw[c]at f;have q:D.tup [.int (0+i),y]=e:=by simpa using f
   subst q;obtain⟨u,t,B⟩:=l.get c;refine⟨⟨us,u,g,t⟩,?_⟩;rintro w F ⟨p,C,rfl,hp,rfl,o⟩;refine⟨b.put p (.tup [.int (0+i),C]),rfl,.put hp,j.put hp,p,_,rfl,.of Di,?_⟩;have s:=o us g;rw[t]at s;cases s;exact⟨_,_,rfl,rfl,.cons (B.mono (.put hp)) rfl⟩
 intro f;unfold Gb at f;split at f
 .cases f
 .rename_i ys m;obtain⟨us,g,l⟩:=r b x h j ys m;rw[A]at g;cases c:ys[i]? with
  |none=>exact⟨us,g,by rw[<-l.length];exact jI.mp c⟩
  |some y=>rw[c]at f;cases f
def tO{elts:List vY}{x1}{tp:Pos}{e:vY}{ta:DA}{p pos:Pos}(o:Gl X "enumerate")(y:X.mg "enumerate"=uB)(A:QA X E [e] ta)(t:wW [e] X.env=[(uD,eval e X.env)]:=by rfl):
  QI X E (.Tuple elts x1 tp) (.Call (.Name "enumerate" p) [e] [] pos) (Bb Er ta):=(tL o y A t).mono λJ H Q h=>by
 obtain⟨a,S,G,hk,rfl,s,r,h⟩:=h;refine⟨a,S,G,hk,rfl,s,r,(Pg h).imp ?_⟩;rintro F _ ⟨b,C,i,rfl,x,f,q,-,c⟩;unfold Er at c;split at c
 .rename_i d;split at c
  .rename_i SA;obtain⟨v,r,n,j,l⟩:=q;cases(l);subst n;obtain⟨I,B⟩:=xy.mp (SA);obtain⟨u,rfl,⟨z,m⟩,w⟩:=cH f j B;have g:=x.k.trans hk;exact⟨u,z,rfl,by rw[<-g];exact m,c b _ (.refl b) f (tN (G:=i) (v:=.KA) g w _)⟩
  exact c.elim
 exact c.elim
theorem cJ(s:XA a G):∀{l:List D}{vs:List V},HA a l vs->l.all (I8 G)=uC->∃j:List Src,vs=j.map (λm=>V.ref m.MB)/\(∀m∈j,∃us,m.sq a.K a.H us)/\
   ∀b:Wd,Ext a b->∀f,XA b f->∀i,(∀ys,Gr f i l=uA (uA ys)->∃us,XH b.K b.H i j us/\HA b ys us)/\(Gr f i l=uA uB->UN b.K b.H i j)
 |[],vs,r,_=>by
  cases(r)
  refine⟨[],rfl,(λ_ h=>nomatch h),λb x f k i=>⟨λys h=>?_,λh=>?_⟩⟩
  .cases h;exact⟨[],.nil,rfl⟩
  cases h
 | d::l,vs,r,h=>by
  rw[jH,qQ]at h;obtain⟨v,U,rfl,M,O⟩:=r;obtain⟨T,S⟩:=xy.mp (h.1);obtain⟨m,rfl,P,L⟩:=cH s M S;obtain⟨j,rfl,A,n⟩:=cJ s O h.2;refine⟨m::j,rfl,λF z=>?_,λb x f k i=>⟨λys c=>?_,λc=>?_⟩⟩
  .rcases zw.mp z with rfl|z
   .exact P
   exact A F z
  .unfold Gr at c;split at c
   .cases c
   rename_i q t;obtain⟨us,p,o⟩:=L b x f k q t;split at c
   .cases c
   .rename_i y e;obtain⟨u,g,J⟩:=o.get e;split at c
    .rename_i w B;cases c;obtain⟨I,N,Q⟩:=(n b x f k i).1 w B;exact⟨u::I,.cons p g N,.cons J Q⟩
    .rename_i C;exact absurd c (C _)
  unfold Gr at c;split at c
  .cases c
  .rename_i q t;obtain⟨us,p,o⟩:=L b x f k q t;split at c
   .rename_i e;exact .here p (by rw[<-o.length];exact jI.mp e)
   .rename_i y e;obtain⟨u,g,J⟩:=o.get e;split at c
    .cases c
    exact .there p g ((n b x f k i).2 c)
theorem tP(hk:a.K=X.K)(m:∀b:Wd,Ext a b->∀f,XA b f->∀i,(∀ys,Gr f i ds=uA (uA ys)->∃us,XH b.K b.H i ls us/\HA b ys us)/\(Gr f i ds=uA uB->UN b.K b.H i ls))(n:Nat):
  XE a (.fn n (H8 ds)) (YX X.K ls):=by
 intro b x f h i;have q:=x.k.trans hk;constructor
 .intro e c;unfold H8 at c;cases g:Gr f i ds with
  |none=>rw[g]at c;cases c
  | some o=>
   cases o with
   |none=>rw[g]at c;cases c
   |some ys=>
    rw[g]at c;have j:D.tup ys=e:=by simpa using c
    subst j;obtain⟨us,d,r⟩:=(m b x f h i).1 ys g;rw[q]at d;refine⟨⟨us,d⟩,?_⟩;rintro w t ⟨p,s,rfl,hp,rfl,l⟩;cases l us d;exact⟨b.put p (.tup us),rfl,.put hp,h.put hp,p,us,rfl,.of Di,r.mono (.put hp)⟩
 intro c;unfold H8 at c;cases g:Gr f i ds with
 |none=>rw[g]at c;cases c
 | some o=>
  cases o with
  |none=>
   have:=(m b x f h i).2 g;rw[q]at this;exact this
  |some ys=>rw[g]at c;cases c
def SW(n:Nat)(K:za)(ta:TA):TI:=λσ H R=>ta σ H λvs H1=>∃ls:List Src,vs=ls.map (λsr=>V.ref sr.MB)/\(∀sr∈ls,∃us,sr.sq K H1 us)/\lN ls=n/\R (YX K ls) H1
theorem Zz:∀{b:List Src}{us:List vB},Vals (b.map λa=>V.ref a.MB) us->us=b.map λa=>Value.ref a.MB
 |[],us,h=>by cases h;rfl
 | a::b,us,h=>by
  rw[zY]at h;cases h with
  |cons r c=>
   cases r;rw[Zz c]
   rfl
def Sd{a:List Src}{n:Nat}{q:Src×Nat}(h:q∈a.zipIdx n):q.1∈a/\n<=q.2/\q.2<n+lN a:=by obtain⟨i,b,rfl⟩:=j8 h;simp[List.length_zipIdx]at b;simp only[List.getElem_zipIdx];exact⟨qw b,by lia,by lia⟩
def tQ{x1}{tp:Pos}{N:St}{H:Hp}{s:vk}{R:It->Hp->Prop}{d:List Src}(I:Inv X wS N H s)(p:∀c∈d,∃us,c.sq X.K H us)(u:d≠[])(M:lN d<=1000000)
  (x:checkTypeCall "zip" ⟨d.map λc=>Value.ref c.MB,[]⟩=pure ()) (m:checkBuiltinCall "zip.__new__" ⟨.type "zip"::d.map λc=>Value.ref c.MB,[]⟩=pure ()) (SA:∀obj,argsOk "object.__init__" ⟨obj::d.map λc=>Value.ref c.MB,[]⟩)
  (q:R (YX X.K d) H):wq (vT X.prog X.w) X.A (call (.type "zip") (d.map λc=>Value.ref c.MB)) (λv U=>wq (vT X.prog X.w) X.A (pyIter v) (M0 X wS N (.Tuple elts x1 tp) R) X.xe U) X.xe s:=by
 have B:∀c∈d,∃J,c.val s.heap J:=λc a=>by obtain⟨us,h⟩:=p c a;obtain⟨MA,_,L,_⟩:=Src.sq.val I h;exact⟨_,L⟩
 have y:∀c∈d,c.MB<s.heap.objs.size:=λc a=>by obtain⟨J,h⟩:=B c a;obtain⟨o,n,Z,_⟩:=h.obj;exact zD Z
 refine tH B M x m SA λL n z F l t hi W=>?_
 refine wpAny_pyIter_zip F ?_
 have C:(d.zipIdx s.heap.objs.size).map (·.1)=d:=by refine jv (by simp) λi S O=>by simp
 have Q:(d.zipIdx s.heap.objs.size).map (·.2)=qU s.heap.objs.size (lN d):=by refine jv (by simp) λi S O=>by simp[xz]
 have g:∀q∈d.zipIdx s.heap.objs.size,q.1.MB<s.heap.objs.size/\s.heap.objs.size<=q.2/\q.2<n:=λq a=>⟨y _ (Sd a).1,(Sd a).2.1,by rw[z];exact(Sd a).2.2⟩
 have f:=z▸xH _ _;have T:=tM (P:=X.prog) (w:=X.w) (K:=X.K) (elts:=elts) (x1:=x1) (pos:=tp) (d.zipIdx s.heap.objs.size) (n+2) n (n+1) ⟨Q▸List.nodup_range',λq a=>qZ (zj (g q a).1 (Nat.le_succ_of_le f)),λq a r Y=>qZ (zj (g q a).1 (g r Y).2.1),λq a=>qZ (xK (g q a).2.2)⟩ ⟨Nat.succ_ne_self (n+1),λq a=>⟨qZ (zj (g q a).2.2 (xH n 2)),qZ (zj (g q a).1 (zN f (xH n 2)))⟩⟩
  ⟨qZ (Nat.lt_add_of_pos_right (by decide)),qZ (qC n),λq a=>qZ (g q a).2.2⟩ (by simpa using M) (by intro e;apply u;rw[<-C,e];rfl)
 rw[C]at T;refine⟨n+2,_,_,_,H,rfl,I.kept W,T,⟨F,l,⟨_,t,by simp⟩,hi⟩,λb j=>?_,q⟩;have k:s.heap.objs.size<=b:=by
  rcases zw.mp j with rfl|j
  .exact zN f (xH n 2)
  rcases zw.mp j with rfl|j
  .exact f
  .rcases zw.mp j with rfl|j
   .exact Nat.le_succ_of_le f
   .obtain⟨q,p,rfl⟩:=qY.mp j;exact(Sd p).2.1
 exact I.Hj k (I.SA.fresh k)
theorem tR{elts:List vY}{x1}{tp:Pos}{a b:vY}{ta:TA}{p pos:Pos}(k:Gl X "zip")(o:X.mg "zip"=uB)(n:PA X [a,b] ta)(l:wW [a,b] X.env=[(uD,eval a X.env),(uD,eval b X.env)]:=by rfl)(d:wW [b] X.env=[(uD,eval b X.env)]:=by rfl):
  PI X (.Tuple elts x1 tp) (.Call (.Name "zip" p) [a,b] [] pos) (SW 2 X.K ta):=by
 intro c s g H R I h;refine Call_ (Hv I k o PyProof.Rows.boot_zip (qa (YA (n pos c s g H _ I h) λu w zz=>?_) (by rw[l,d]) (by rw[d];rfl)));obtain⟨v,t,i,m,f⟩:=zz;obtain⟨r,rfl,j,e,q⟩:=f;cases Zz m
 match r,e with
 |[x,y],_=>exact tQ i j (by simp) (by simp) (PySem.F.typeCall_zip_2 _ _) (PySem.F.newCall_zip_2 _ _) (λobj=>PySem.F.args_object_init_3 obj _ _) q
def tS{K:za}{n:Nat}{ta:DA}{d:St}{H:Hp}{Q:It->Hp->Prop}(l:K=X.K)(h:lI K E (Bb (Gz n) ta) d H Q):SW n K (lA K E ta) d H Q:=by
 subst l;obtain⟨a,S,G,hk,rfl,s,r,h⟩:=h;refine⟨a,S,G,hk,rfl,s,r,(Pg h).imp ?_⟩;rintro v _ ⟨b,w,u,rfl,x,g,q,-,c⟩;unfold Gz at c;split at c
 .rename_i SA;obtain⟨f,e,o,j⟩:=cJ g q SA.1;have i:=x.k.trans hk;have m:f.length=n:=by have:=q.length;rw[e,zq]at this;lia
  exact⟨f,e,λt p=>by rw[<-i];exact o t p,m,c b _ (.refl b) g (tP i j _)⟩
 exact c.elim
def tT{elts:List vY}{x1}{tp:Pos}{a b:vY}{ta:DA}{p pos:Pos}(d:Gl X "zip")(g:X.mg "zip"=uB)(f:QA X E [a,b] ta)(e:wW [a,b] X.env=[(uD,eval a X.env),(uD,eval b X.env)]:=by rfl)(c:wW [b] X.env=[(uD,eval b X.env)]:=by rfl):
  QI X E (.Tuple elts x1 tp) (.Call (.Name "zip" p) [a,b] [] pos) (Bb (Gz 2) ta):=(tR d g f e c).mono λi H Q h=>tS rfl h
end
def YO:D->D->DH->R D
 | .ref p,.int k,G=>match G[p]? with
  |some (.lst xs)=>match NC xs k with
   |some v=>.ok v G
   |none=>.bad
  |_=>.bad
 |_,_,_=>.bad
def Ip(to ti te:DE)(f:D->D->DH->R D):DS:=λS G=>(to S G).toS λo G1=>(ti S G1).toS λi G2=>(YO o i G2).toS λx G3=>(te S G3).toS λy G4=>(f x y G4).toS λz G5=>(Fy o i z G5).toS λ_ G6=>.nx S G6
noncomputable def Ss:DS:=λ_ _=>.bad
section
variable{X:Cx}{E:XK}
def cK{st:vA}:QS X E st Ss:=λb s c H W I h=>by obtain⟨a,S,G,hk,rfl,d,r,h⟩:=h;exact h.elim
theorem tU(ho:QE X E o to)(hi:QE X E i ti)(he:QE X E e te)(U:WB X (inplaceOp op) (GF X.K E f))
  (ha:∀B F c,augStore i B F c=(do holding [c,B,F] (setItem B F c);release [c,B,F] [];pure .next):=by intros;rfl):QS X E (.AugAssign (.Subscript o i PH) op e pos) (Ip to ti te f):=by
 intro b s l H W I h;obtain⟨a,S,G,hk,rfl,sm,r,h⟩:=h;refine wpAny_AugAssign_SubscriptAny (YA (ho b s l a.H _ I ⟨a,S,G,hk,rfl,sm,r,Gs h⟩) ?_) ha;rintro B s1 ⟨vo,H1,I1,ro,b1,o,G1,rfl,M,m1,q1,_,h1⟩;have k1:=M.k.trans hk;refine YA (hi b s1 l b1.H _ I1 ⟨b1,S,G1,k1,rfl,m1,r.mono M,Gs h1⟩) ?_;rintro F s2 ⟨vi,H2,I2,ri,C,i,G2,rfl,J,m2,q2,_,g⟩;have k2:=J.k.trans k1;cases i with
 | int k=>
  cases o with
  | ref p=>
   obtain⟨hp,rfl⟩:=q1.mono J;cases(q2);cases ro;obtain⟨t,rfl⟩:=ri;unfold YO at g;dsimp only at g;split at g
   .rename_i xs N;obtain⟨vs,e1,r1⟩:=m2.lst N;split at g
    .rename_i d hd;obtain⟨v,ev,rd⟩:=bK r1 hd;obtain⟨MA,rv,pl,hz⟩:=I2.list (.of e1);obtain⟨j,L,g2,g3,g4,g5⟩:=Qw ev;obtain⟨w,ew,T⟩:=rv.get g2;have hl:=rv.length;have hn:=WE;have O:wq (vT X.prog X.w) X.A (getItem (.ref (C.m p)) (.int k t)) (λu Q=>u=w/\Q=s2) X.xe s2:=by
      by_cases h0:0<=k
      .have Z:k.toNat=j:=by rw[seqIndex_of h0 g5]at L;exact Option.some.inj L
       exact wpAny_getItem_list pl.isList h0 (by lia) (by rw[Z];simpa using ew) ⟨rfl,rfl⟩
      have Z:(k+(MA.toArray.size:Int)).toNat=j:=by rw[seqIndex_neg (by lia) g4]at L;rw[zk,<-hl];exact Option.some.inj L
      exact wpAny_getItem_list_neg pl.isList (by lia) (by rw[zk]<;>lia) (by lia) (by rw[Z];simpa using ew) ⟨rfl,rfl⟩
     refine YA O ?_;rintro u Q ⟨rfl,rfl⟩;refine YA (he b Q l C.H _ I2 ⟨C,S,G2,k2,rfl,m2,(r.mono M).mono J,Gs g⟩) ?_;rintro yv s4 ⟨vy,H4,I4,ry,b4,y,G4,rfl,x,m4,q4,_,h4⟩;refine YA (U b s4 l b4.H v vy u yv _ I4 T ry ⟨b4,G4,d,y,x.k.trans k2,rfl,m4,rd.mono x,q4,Gs h4⟩) ?_;rintro c s5 ⟨vn,H5,I5,rn,b5,z,G5,rfl,Y,m5,q5,_,q⟩;unfold Fy at q;dsimp only at q;split at q
     .rename_i ys hy;split at q
      .rename_i jj P;obtain⟨ws,e5,r5⟩:=m5.lst hy;obtain⟨x6,m6⟩:=Qe m5 (zj hp (zN x.n Y.n)) e5 (r5.set q5 jj);refine YA (set_list b s5 l b5.H (.ref (C.m p)) (.int k) vn (.ref (C.m p)) (.int k t) c (λH'=>W.nx l H') I5 rfl ⟨t,rfl⟩ rn ⟨b5.m p,ws,k,jj,by rw[(Y.m p (zj hp x.n)).trans (x.m p hp)],rfl,e5,by rw[<-r5.length];exact P,q _ l x6 m6 (((((r.mono M).mono J).mono x).mono Y).mono x6)⟩) ?_
       rintro _ s6 ⟨H6,I6,q6⟩;exact⟨l,H6,I6,q6⟩
      exact q.elim
     exact q.elim
    exact g.elim
   exact g.elim
  |_=>exact(g).elim
 |_=>cases o<;>exact(g).elim
end
def Kc(ds:List D)(G:DH):R D:=match ds with
 | [d]=>match Bk d G with
  |some xs=>match Js xs with
   |some (n::ns)=>.ok (.int (ns.foldl min n)) G
   |_=>.bad
  |none=>.bad
 |_=>.bad
theorem cL:∀(ns:List Int)(n:Int),ns.foldl min n<=n/\(∀x∈ns,ns.foldl min n<=x)/\(ns.foldl min n=n\/ns.foldl min n∈ns)
 |[],n=>⟨qK _,λx h=>(by cases h),.inl rfl⟩
 | m::ns,n=>by
  obtain⟨d,b,c⟩:=cL ns (min n m);rw[List.foldl_cons];refine⟨by lia,λx a=>?_,?_⟩
  .rcases zw.mp a with rfl|a
   .lia
   exact b x a
  rcases c with h|h
  .by_cases e:n<=m
   .exact .inl (by rw[h];lia)
   exact .inr (by rw[h];rw[show min n m=m by lia];exact zy)
  exact .inr (zV _ h)
section
variable{X:Cx}{E:XK}
def intAt{ns:List Int}{MA:List vB}{i:Nat}{w:vB}(d:Vals (ns.map V.int) MA)(hw:MA.toArray[i]?=uA w):i<ns.length/\∃t,w=.int (ns.getD i 0) t:=by
 have b:MA[i]?=uA w:=by simpa using hw
 have f:i<(ns.map V.int).length:=by rw[d.length];exact(zX.mp b).1
 have a:i<ns.length:=by simpa using f
 obtain⟨u,c,e⟩:=d.get (i:=i) (x:=V.int ns[i]) (by simp[a]);rw[b]at c;cases c;obtain⟨t,rfl⟩:=e;exact⟨a,t,by simp[a]⟩
def tV(T:X.calm=uC):OB X (.builtin "min") (JM X.K E Kc):=by
 intro y s σ H vs us Q I Z h;obtain⟨a,G,ds,hk,rfl,o,r,q⟩:=h;unfold Kc at q;split at q
 .rename_i d;obtain⟨v,rfl,rv⟩:=KD r;split at q
  .rename_i xs L;split at q
   .rename_i n b C;cases Xc C;obtain⟨p,ws,rfl,z,M⟩:=Jo o rv L;cases Vp M;rw[hk]at z;obtain⟨u,rfl,F⟩:=vals1 Z;cases F;refine call_min_walk (Z5 I T z λit fp wr MA St s₂ hv W st NQ fin=>⟨it,fp,wr,MA.toArray.size,_,St,_,rfl,W,st,NQ,?_,.ints_lt (λi=>(n::b).getD i 0) (λi w hw=>(intAt hv hw).2),λw J A hw kk=>?_⟩)
    .rw[zk,<-hv.length];simp
    obtain⟨l,t,rfl⟩:=intAt hv hw;obtain⟨b1,Y⟩:=argBest_lt (λi=>(n::b).getD i 0) (MA.toArray.size-1);refine⟨.int (b.foldl min n),a.H,fin J A kk,⟨t,?_⟩,q a _ (.refl a) o rfl⟩;have hsz:MA.toArray.size=b.length+1:=by rw[zk,<-hv.length];simp
    obtain⟨U,O,P⟩:=cL b n;have f:∀x∈n::b,b.foldl min n<=x:=λx g=>by
     rcases zw.mp g with rfl|g
     .exact U
     exact O x g
    have e:b.foldl min n∈n::b:=by
     rcases P with h|h
     .rw[h];exact zy
     exact zV _ h
    obtain⟨j,k,N⟩:=j8 e;have m:=f _ (qw l);have S:(n::b).getD j 0=b.foldl min n:=by rw[zK,zZ k];exact N
    have B:(n::b).getD (argBest (λi j=>decide ((λi=>(n::b).getD i 0) i<(λi=>(n::b).getD i 0) j)) (MA.toArray.size-1)) 0=(n::b)[argBest (λi j=>decide ((λi=>(n::b).getD i 0) i<(λi=>(n::b).getD i 0) j)) (MA.toArray.size-1)]:=by rw[zK,zZ l];rfl
    have c:=Y j (by simp at k;lia);rw[S]at c;rw[<-B]at m
    congr 1
    exact Int.le_antisymm c m
   exact q.elim
  exact q.elim
 exact q.elim
def Jr:D->D->DH->R D
 |.ref p,.int k,G=>match G[p]? with
  |some (.lst xs)=>if -(2^63)<=k/\k<2^63/\lN xs*k.toNat<=1000000 then .ok (.ref (lN G)) (G++[.lst (zQ k.toNat xs).flatten])else .bad
  |_=>.bad
 |.fl (.tup t::xs),.int k,G=>(if -(2^63)<=k/\k<2^63/\lN (D.tup t::xs)*k.toNat<=1000000 then .ok (.ref (lN G)) (G++[.lst (zQ k.toNat (.tup t::xs)).flatten])else .bad)|_,_,_=>.bad
theorem HA.rep(r:HA a ds vs):∀k,HA a (zQ k ds).flatten (zQ k vs).flatten
 |0=>rfl
 |k+1=>by rw[q0,q0,jk,jk];exact r.append (.rep r k)
theorem tW:WB X (vI .Mult) (GF X.K E Jr):=ni.mono λx y H Q h=>by
 obtain⟨a,G,d,e,hk,rfl,s,j,n,q⟩:=h;cases d with
 | ref p=>
  cases e with
  | int k=>
   unfold Jr at q;dsimp only at q;split at q
   .rename_i g v;split at q
    .rename_i b;obtain⟨i,r,c⟩:=s.lst v;obtain⟨hp,rfl⟩:=j;refine⟨a.m p,k,i,rfl,n,.inl r,b.1,b.2.1,?_,λp hp=>J8 s (.rep c k.toNat) q p hp⟩;rw[<-c.length];exact zN b.2.2 TB
    exact q.elim
   exact q.elim
  |_=>exact(q).elim
 |fl g=>(cases g with |nil=>exact(q).elim|cons d g=>(cases d with |tup t=>(cases e with |int k=>(unfold Jr at q;dsimp only at q;split at q;(rename_i b;obtain⟨l,i,rfl,f,c⟩:=j;rcases f with⟨o,f⟩|⟨⟨u,rfl⟩,_⟩;(exact⟨l,k,i,rfl,n,.inr ⟨o,f⟩,b.1,b.2.1,by rw[<-c.length];exact zN b.2.2 TB,λp hp=>J8 s (.rep c k.toNat) q p hp⟩);(obtain⟨_,_,w,⟨_,_,rfl,_⟩,_⟩:=c;cases u<;>cases w));exact q.elim)|_=>exact(q).elim)|_=>exact(q).elim))|_=>exact(q).elim
end
end _D
namespace _D
open PySem PySem.W PyProof.Rows
def RD(n:Nat){α:Type}(P:α->Prop):KasT α->Prop
 |.ret a=>P a
 |.ask i j k=>i<n/\j<n/\∀b,RD n P (k b)
theorem RD.bind{c e:Type}{f:c->KasT e}{P:c->Prop}{Q:e->Prop}(d:∀a,P a->RD n Q (f a)):∀{t:KasT c},RD n P t->RD n Q (t.bind f)
 |.ret a,h=>d a h
 |.ask _ _ _,h=>⟨h.1,h.2.1,λb=>.bind d (h.2.2 b)⟩
def HD(n:Nat)(p:Array Nat):Prop:=0<n/\p.Perm (zW n).toArray
def HD.lt(h:HD n p)(a:x∈p):x<n:=by have:=h.2.mem_iff.mp a;simpa using this
def HD.pt(h:HD n p)(k:Nat):p.getD k 0<n:=by
 by_cases hk:k<p.size
 .have:p.getD k 0=p[k]:=by simp[Array.getD,hk]
  rw[this];exact h.lt (Array.getElem_mem hk)
 have:p.getD k 0=0:=by simp[Array.getD,hk]
 rw[this];exact h.1
def HD.perm(h:HD n p)(e:q.Perm p):HD n q:=⟨h.1,e.trans h.2⟩
theorem Xp(h:HD n p):∀f m,RD n (λ_=>True) (kas_asc p f m)
 |0,m=>trivial
 | f+1,m=>⟨h.pt _,h.pt _,λb=>by
   cases b with
   |true=>exact trivial
   |false=>exact Xp h f (m+1)⟩
theorem Up:∀f{p:Array Nat}m q,HD n p->RD n (λr=>HD n r.1) (kas_desc f p m q)
 |0,p,m,q,h=>h
 | f+1,p,m,q,h=>⟨h.pt _,h.pt _,λb=>by
   cases b with
   |true=>
    by_cases a:q>0
    .simp only[if_true,if_pos a];exact Up f _ _ (h.perm (mirror_perm ..))
    simp only[if_true,if_neg a];exact Up f _ _ h
   |false=>
    refine⟨h.pt _,h.pt _,λd=>?_⟩;cases d with
    |true=>exact h
    |false=>exact Up f _ _ h⟩
def cM(h:HD n p)(m k:Nat):RD n (λr=>HD n r.2) (kas_tail3 m k p):=by unfold kas_tail3;refine .bind (λa _=>?_) (Xp (h.perm (mirror_perm ..)) _ _);exact h.perm (mirror_perm ..)
def cN(h:HD n p)(m k:Nat):RD n (λr=>HD n r.2) (kas_descPart m k p):=
 RD.bind (λa b=>by
  split
  .exact cM (b.perm (mirror_perm ..)) _ _
  exact cM b _ _) (Up _ _ _ h)
def tX(h:HD n p)(k:Nat):RD n (λr=>HD n r.2) (kas_count k p):=
 RD.bind (λa _=>by
  split
  .exact h
  split
  .refine⟨h.pt _,h.pt _,λc=>?_⟩;cases c with
   |true=>exact h
   |false=>exact cN (h.perm (mirror_perm ..)) _ _
  exact cN h _ _) (Xp h _ _)
theorem cO(h:HD n p)(k:Nat):∀f l r,RD n (λ_=>True) (kas_place p k f l r)
 |0,l,r=>trivial
 |f+1,l,r=>by
  unfold kas_place;split
  .trivial
  refine⟨h.pt _,h.pt _,λc=>?_⟩;cases c with
  |_=>exact cO h k f _ _
end _D
namespace _D
open PySem PySem.Spec _L
open PyProof.Rows hiding St
theorem Zm(h:∀i j,i<n->j<n->∀C:Bool->vk->Prop,C (lt i j) s->cmp i j C s){b:Type}{P:b->Prop}{Q:b->vk->Prop}:
  ∀{t:uy b},RD n P t->Q (Hy lt t) s->t.kasWp cmp Q s
 |.ret _,_,c=>c
 |.ask i j k,a,c=>h i j a.1 a.2.1 _ (Zm h (a.2.2 (lt i j)) c)
section
variable{prog:vj}{w:vC}{A:vK}{s:vk}
end
section
variable{X:Cx}{E:XK}{wS:List (vW×Obj)}{σ:St}{s:vk}{H:Hp}{h':Heap}
def tY(I:Inv X wS σ H s)(k:∀b o,b≠X.env.locals->s.heap.get? b=uA o->h'.get? b=uA o)(ns:∀m,s.heap.Ns X.env.locals m->h'.Ns X.env.locals m):Inv X wS σ H {s with heap:=h',toks:=t'}:=by
 refine I.step (ch:=[]) (nofun) (λb o f _ _ e _=>k b o f e) (λb o f _ _ e _=>⟨o.slots,k b o f e⟩) (λ_ _ _ _ n=>n) (λb o _ e=>?_) (λ_ _ e=>e) (λ_ _ _ e=>e)
  (λb r e=>⟨#[],by rw[e];simp⟩) ns (λb u e=>?_) I.bare
 .by_cases i:b=X.env.locals
  .obtain⟨m,j,_⟩:=I.loc;obtain⟨l,_,_,d,_⟩:=ns m j;exact⟨l,i▸d⟩
  exact⟨o,k b o i e⟩
 have g:∀c w,H c=uA w->c≠X.env.locals:=λc w e z=>by rw[z,I.free]at e;cases e
 refine(I.SA b u e).ZF (λc v p q=>k c v ?_ q) (λ_ q=>q) λ_ _ q=>q
 rcases p with z|z
 .rw[z];exact g b u e
 exact g c _ z
end
section
variable{prog:vj}{w:vC}{A:vK}{E:vB->vk->Prop}{s:vk}
end
def tZ:vL "sorted"=uA (.builtin "sorted"):=by decide +kernel
section
variable{X:Cx}{E:XK}{wS:List (vW×Obj)}{σ:St}{s:vk}{H:Hp}
end
section
variable{X:Cx}{E:XK}
theorem cP(r:HA a xs vs):∀l:List Nat,(∀i∈l,i<lN xs)->HA a (l.map λi=>xs.getD i .KA) (l.map λi=>vs.getD i .KA)
 |[],_=>rfl
 |i::l,h=>by
  have b:=h i zy;obtain⟨v,e,f⟩:=r.get (zZ b);refine⟨vs.getD i .KA,_,rfl,?_,cP r l λj c=>h j (zV _ c)⟩;have d:xs.getD i .KA=xs[i]:=by simp[b]
  have g:vs.getD i .KA=v:=by rw[zK,e];rfl
  show LB a (xs.getD i .KA) (vs.getD i .KA);rw[d,g];exact f
theorem cQ(r:Vals vs us):∀l:List Nat,(∀i∈l,i<lN vs)->Vals (l.map λi=>vs.getD i .KA) (l.map λi=>us.getD i .none)
 |[],_=>.nil
 |i::l,h=>by
  have a:=h i zy;obtain⟨u,f,d⟩:=r.get (zZ a);rw[zY,zY];have c:vs.getD i .KA=vs[i]:=by simp[a]
  have e:us.getD i .none=u:=by rw[zK,f];rfl
  rw[c,e];exact .cons d (cQ r l λj b=>h j (zV _ b))
theorem Xx:∀{t:uy (Array Nat)},RD n P t->P (Hy lt t)
 |.ret _,h=>h
 |.ask i j k,h=>Xx (t:=k (lt i j)) (h.2.2 (lt i j))
theorem cR:∀f{p:Array Nat}k,HD n p->RD n (HD n) (PySem.W.kas_bin f p k)
 |0,p,k,h=>h
 |f+1,p,k,h=>.bind (λa _=>cR f _ (h.perm (bubble_perm ..))) (cO h k _ _ _)
def Yt(c:0<n):RD n (HD n) (zi n):=
 RD.bind (λa b=>by
  split
  .exact cR _ _ b
  exact b) (tX ⟨c,.refl _⟩ _)
end
section
variable{S:PB}{G:DH}
@[simp]theorem FZ:Ip to ti te f S G=(to S G).toS λo a=>(ti S a).toS λi c=>(YO o i c).toS λx b=>(te S b).toS λy g=>(f x y g).toS λz e=>(Fy o i z e).toS λ_ d=>.nx S d:=id rfl
def cT(h:G[p]?=uA (.lst xs))(e:NC xs k=uA d):YO (.ref p) (.int k) G=.ok d G:=by unfold YO;simp only;rw[h];simp only;rw[e]
noncomputable def El(xs:List D):List D:=xs.zipIdx.map λq=>.tup [.int q.2,q.1]
noncomputable def I9(xs ys:List D):List D:=(xs.zip ys).map λq=>.tup [q.1,q.2]
theorem cU{f:Nat->DH->Option (Option D)}{g:DG}{b:DS}{xs:List D}(h:∀j G,f j G=uA xs[j]?):∀(n j:Nat),j+n=lN xs->∀S G,Cv f g b n j S G=Aw g b (xs.drop j) S G
 |0,j,e,S,G=>by
  unfold Cv;rw[h,zM (by lia),qL (by lia)]
  rfl
 |n+1,j,e,S,G=>by
  have a:j<lN xs:=by lia
  unfold Cv;rw[h,zZ a,zU a,Dc];have:Cv f g b n (j+1)=Aw g b (xs.drop (j+1)):=by funext S G;exact cU h n (j+1) (by lia) S G
  rw[this]
def cV(h:∀j G,f j G=uA xs[j]?)(a:n=lN xs):Cv f g b n 0 S G=Aw g b xs S G:=by rw[cU h n 0 (by lia)];rfl
def cW(j:Nat)(G:DH):Gb 0 (.fl xs) j G=uA (El xs)[j]? :=by
 unfold Gb El;simp[Bk,zv,List.getElem?_zipIdx]
 cases xs[j]?<;>simp
def tf(j:Nat)(G:DH):Gb 0 (.tup xs) j G=uA (El xs)[j]? :=by
 unfold Gb El;simp[Bk,zv,List.getElem?_zipIdx]
 cases xs[j]?<;>simp
def Wr:lN (El xs)=lN xs:=by simp[El]
@[simp]theorem F0:Cv (Gb 0 (.fl xs)) g b (lN xs) 0 S G=Aw g b (El xs) S G:=cV cW Wr.symm
@[simp]theorem F1:Cv (Gb 0 (.tup xs)) g b (lN xs) 0 S G=Aw g b (El xs) S G:=cV tf Wr.symm
theorem cX{f:Nat->DH->Option (Option D)}{g:DG}{c:DB}{l:DE}{F:D->Option D}{xs:List D}(i:∀j,f j G=uA xs[j]?)(h:∀x∈xs,PK g c l S G x (F x)):
  ∀(n j:Nat),lN xs<=j+n->Dj f g c l S n j G=.ok ((xs.drop j).filterMap F) G
 |0,j,m=>by
  unfold Dj;rw[i,zM (by lia)];simp only;rw[qL (by lia)]
  rfl
 | n+1,j,m=>by
  unfold Dj;rw[i];by_cases a:j<lN xs
  .have k:=cX i h n (j+1) (by lia);obtain⟨q,o,b⟩:=h xs[j] (qw a);rw[zZ a];simp[o,R.Ea];rw[zU a,jX];rcases b with⟨b,e⟩|⟨b,d,e,p⟩
   .simp[b,e,k]
   simp[b,e,p,k]
  rw[zM (by lia),qL (by lia)]
  rfl
def V2{f:Nat->DH->Option (Option D)}{g:DG}{c:DB}{a:DE}{F:D->Option D}{xs:List D}{n:Nat}(b:∀j,f j G=uA xs[j]?)(h:∀x∈xs,PK g c a S G x (F x))(d:lN xs<=n):
  Dj f g c a S n 0 G=.ok (xs.filterMap F) G:=cX b h n 0 (by lia)
theorem Tt(b:Bk d G=uA xs)(a:Bk e G=uA ys)(j:Nat):H8 [d,e] j G=uA (I9 xs ys)[j]? :=by
 unfold H8 I9;simp only[Gr,b,a,zv]
 have c:(xs.zip ys)[j]?=match xs[j]?,ys[j]? with
  |some x,uA y=>uA (x,y)
  |_,_=>uB:=by
  rw[List.zip,List.getElem?_zipWith]
  cases xs[j]?<;>cases ys[j]?<;>rfl
 rw[c];cases xs[j]? with
 |none=>rfl
 |some x=>
  cases ys[j]? with
  |_=>rfl
def Zd(b:Bk d G=uA xs)(a:Bk e G=uA ys):Gz 2 [d,e] G=.ok (.fn (lN xs) (H8 [d,e])) G:=by simp[Gz,I8,b,a,lenOf]
@[simp]theorem Jj:Bk (.fl xs) G=uA xs:=id rfl
def Oc(h:G[i]?=uA (.lst xs)):Bk (.ref i) G=uA xs:=by simp[Bk,h]
def tj(h:Bk d G=uA ((n::ns).map D.int)):Kc [d] G=.ok (.int (ns.foldl min n)) G:=by simp only[Kc,h,rC]
def tq{p:Nat}{k:Nat}{d:D}(h:G[p]?=uA (.lst [d]))(hk:k<=1000000):Jr (.ref p) (.int (k:Int)) G=.ok (.ref (lN G)) (G++[.lst (zQ k d)]):=by
 unfold Jr;simp only;rw[h];simp only;have e:(zQ k [d]).flatten=zQ k d:=by
  induction k with
  |zero=>rfl
  |succ k a=>rw[q0,jk,a (by lia),q0];rfl
 rw[if_pos ⟨by lia,by lia,by simpa using hk⟩,Int.toNat_natCast,e]
end
def UW(i:Int):Prop:=i.natAbs.log2<33554432
def KL(i j:Int):Prop:=ZL i j\/(UW i/\UW j)
noncomputable instance (i:Int):Decidable (UW i):=by unfold UW;infer_instance
noncomputable instance (i j:Int):Decidable (KL i j):=by unfold KL;infer_instance
def KL.ok(h:KL i j):IntMulOk i j:=by
 rcases h with h|⟨c,a⟩
 .exact h.ok
 have b:∀k:Int,UW k->Builtin.Int.intBits k<=33554432:=λk hk=>by
  unfold Builtin.Int.intBits;split
  .exact j6 _
  exact hk
 have e:=b i c;have d:=b j a;have h:Builtin.Int.intTooBig (Builtin.Int.intBits i+Builtin.Int.intBits j)=uD:=by unfold Builtin.Int.intTooBig bitsLine;exact decide_eq_false (by lia)
 unfold IntMulOk;rw[h];simp
section
variable{X:Cx}{E:XK}
def uE:WB X (vI .Mult) (rI KL λi j=>.int (i*j)):=QX λ_ _ _ _ _ _ _ a q=>mul_int q a.ok
end
section
variable{i j:Int}{G:DH}
end
section
variable{X:Cx}{E:XK}
end
def Gy(f:Str)(v:D):List (Str×D)->List (Str×D)
 |[]=>[(f,v)]
 |(g,x)::r=>if g=f then(g,v)::r else(g,x)::Gy f v r
def OC.mono(x:Ext a b)(h:OC a fs us):OC b fs us:=⟨h.1,h.2.mono x⟩
def OC.cons(h:LB a d v)(r:OC a fs us):OC a ((g,d)::fs) ((g,v)::us):=
 ⟨by simp[r.1],v,us.map (·.2),rfl,h,r.2⟩
theorem OC.QJ(h:OC a ((g,d)::fs) us):∃v VF,us=(g,v)::VF/\LB a d v/\OC a fs VF:=by
 obtain⟨b,k⟩:=h;cases us with
 |nil=>simp at b
 |cons q us=>
  obtain⟨n,y⟩:=q;simp[zY,List.cons.injEq]at b;obtain⟨rfl,b⟩:=b;obtain⟨v,r,i,j,l⟩:=k;simp[zY,List.cons.injEq]at i;obtain⟨rfl,rfl⟩:=i;exact⟨y,us,rfl,j,b,l⟩
theorem OC.VW(h:OC a [] us):us=[]:=by
 obtain⟨b,_⟩:=h;cases us with
 |nil=>rfl
 |cons q us=>simp at b
def r?{a:Type}{f g:Str}{x:a}{fs:List (Str×a)}:jE f ((g,x)::fs)=if(f==g)=uC then uA x else fs.lookup f:=by
 show(match f==g with
  |true=>uA x
  |false=>jE f fs)=_
 cases f==g<;>rfl
theorem OC.look{a:Wd}{f:Str}{d:D}:∀{fs:List (Str×D)}{us:List (Str×V)},OC a fs us->fs.lookup f=uA d->∃u,us.lookup f=uA u/\LB a d u
 |[],us,h,e=>by simp at e
 |(g,x)::fs,us,h,e=>by
  obtain⟨v,j,rfl,i,b⟩:=h.QJ;rw[r?]at e⊢;by_cases q:(f==g)=uC
  .rw[if_pos q]at e⊢;cases e;exact⟨v,rfl,i⟩
  rw[if_neg q]at e⊢;exact OC.look b e
theorem OC.Vv{a:Wd}{f:Str}:∀{fs:List (Str×D)}{us:List (Str×V)},OC a fs us->fs.lookup f=uB->us.lookup f=uB
 |[],us,h,e=>by rw[h.VW];rfl
 |(g,x)::fs,us,h,e=>by
  obtain⟨v,d,rfl,i,b⟩:=h.QJ;rw[r?]at e⊢;by_cases q:(f==g)=uC
  .rw[if_pos q]at e;cases e
  rw[if_neg q]at e⊢;exact OC.Vv b e
theorem OC.put(q:LB a d v):∀{fs:List (Str×D)}{us:List (Str×V)},OC a fs us->OC a (Gy f d fs) (Ep f v us)
 |[],us,h=>by rw[h.VW];exact .cons q ⟨rfl,rfl⟩
 |(g,x)::fs,us,h=>by
  obtain⟨w,j,rfl,i,b⟩:=h.QJ;unfold Gy Ep;by_cases e:g=f
  .rw[if_pos e,if_pos e];exact .cons q b
  rw[if_neg e,if_neg e];exact .cons i (.put q b)
def OC.len(h:OC a fs us):lN us=lN fs:=by have:=congrArg jS h.1;simpa using this.symm
def Ext.ZX(h:a.H p=uA (.ins C dx us)):Ext a (a.put p ho):=
 ⟨rfl,zx _,λ_ _=>rfl,λq d e=>by
  show upd a.H p ho q=_;rw[Ag (λz=>by subst z;rw[h]at e;cases e)];exact e,λq o u e=>by
  show upd a.H p ho q=_;rw[Ag (λz=>by subst z;rw[h]at e;cases e)];exact e,λ_ t=>t.mono (λq b e=>by show upd a.H p ho q=_;rw[Ag (λz=>by subst z;rw[h]at e;cases e)];exact e) (λq o u e=>by show upd a.H p ho q=_;rw[Ag (λz=>by subst z;rw[h]at e;cases e)];exact e)⟩
def XA.ZX(s:XA a G)(d:i<a.n)(g:zb a.K vS c=uA (uA (.ref C)))(h:a.H (a.m i)=uA (.ins C dx us))(r:OC (a.put (a.m i) (.ins C dx VF)) OZ VF):
  XA (a.put (a.m i) (.ins C dx VF)) (G.set i (.ins c OZ)):=by
 refine⟨by rw[jQ];exact s.len,s.inj,λj o e=>?_,λj k=>?_⟩
 .rw[jy]at e;show QD _ o (upd a.H (a.m i) (.ins C dx VF) (a.m j));by_cases b:i=j
  .subst b;rw[if_pos rfl,if_pos (s.len▸d)]at e;cases e;rw[Di];exact⟨C,dx,VF,g,rfl,r⟩
  rw[if_neg b]at e;rw[Ag λz=>b (s.inj _ _ (s.lt e) d z).symm];exact(s.obj j o e).mono (.ZX h)
 show upd a.H (a.m i) (.ins C dx VF) (a.m j)≠uB;by_cases b:a.m j=a.m i
 .rw[b,Di];simp
 rw[Ag b];exact s.tr j k
def Hz(c:Str)(d:D)(G:DH):Option (List (Str×D)):=match d with
 |.ref i=>match G[i]? with
  |some (.ins c' fs)=>if c'=c then uA fs else uB
  |_=>uB
 |_=>uB
def XA.ins(s:XA a G)(r:LB a d x)(h:Hz c d G=uA fs):
  ∃i C b us,d=.ref i/\i<a.n/\x=.ref (a.m i)/\G[i]?=uA (.ins c fs)/\zb a.K vS c=uA (uA (.ref C))/\a.H (a.m i)=uA (.ins C b us)/\OC a fs us:=by
 unfold Hz at h;split at h
 .rename_i i;split at h
  .rename_i u q e;split at h
   .rename_i p;subst p;cases h;obtain⟨l,k⟩:=r;obtain⟨C,b,us,n,g,j⟩:=s.obj i _ e;exact⟨i,C,b,us,rfl,l,k,e,n,g,j⟩
   cases h
  cases h
 cases h
def Av(c:Str)(t:DE)(f:Str):DE:=λS G=>(t S G).bind λd G1=>match Hz c d G1 with
 |some fs=>match fs.lookup f with
  |some v=>.ok v G1
  |none=>.bad
 |none=>.bad
def Cm(c:Str)(to tv:DE)(f:Str):DS:=λS G=>(tv S G).toS λd G1=>(to S G1).toS λo G2=>match o with
 |.ref i=>match Hz c o G2 with
  |some fs=>if lN fs<1000 then .nx S (G2.set i (.ins c (Gy f d fs)))else .bad
  |none=>.bad
 |_=>.bad
def Bt(c:Str)(m:Str)(F:List D->DH->R D)(to:DE)(t:DA):DE:=λS G=>(to S G).bind λo G1=>match Hz c o G1 with
 |some fs=>match fs.lookup m with
  |none=>(t S G1).bind λds G2=>F (o::ds) G2
  |some _=>.bad
 |none=>.bad
def Lw(c:Str)(F:List D->DH->R D)(t:DA):DE:=λS G=>(t S G).bind λds G1=>(F (.ref (lN G1)::ds) (G1++[.ins c []])).bind λv G2=>match v with
 |.KA=>.ok (.ref (lN G1)) G2
 |_=>.bad
section
variable{X:Cx}{E:XK}{c f m:Str}{C:vW}{e o:vY}{es:List vY}{t ta tv:DE}{tr:DA}{pos apos pos':Pos}
def uF(w:zb X.K vS c=uA (uA (.ref C)))(F:HK X.K C)(y:GD X.K C f)(P:QE X E e t)(A:vE e f X.env (eval e X.env)=eval e X.env:=by rfl):QE X E (.Attribute e f pos) (Av c t f):=
 (mQ P A).mono λY H Q h=>by
  obtain⟨a,S,G,hk,rfl,s,r,h⟩:=h;refine⟨a,S,G,hk,rfl,s,r,(Eb h).imp ?_⟩;rintro v _ ⟨b,d,T,rfl,x,n,q,-,g⟩;split at g
  .rename_i fs N;obtain⟨i,p,B,M,rfl,_,rfl,_,l,z,O⟩:=n.ins q N;have j:p=C:=by
    rw[x.k,hk,w]at l;cases l
    rfl
   subst j;split at g
   .rename_i U J;obtain⟨u,L,I⟩:=O.look J;exact⟨b.m i,p,B,M,u,rfl,z,F,y,L,g b u (.refl b) n I⟩
   exact g.elim
  exact g.elim
def uG(J:zb X.K vS c=uA (uA (.ref C)))(T:HK X.K C)(N:GD X.K C f)(ha:QE X E o ta)(L:QE X E e tv)(Q:swapsWith e (uA (.Attribute o f pos')) pos.line X.env=pure uD:=by rfl):
  QS X E (.Assign [.Attribute o f pos'] e pos) (Cm c ta tv f):=
 (mR ha L Q).mono λW σ H h=>by
  obtain⟨a,S,G,hk,rfl,s,r,h⟩:=h;refine⟨a,S,G,hk,rfl,s,r,(Gs h).imp ?_⟩;rintro v _ ⟨b,d,I,rfl,x,U,q,-,P⟩;refine⟨b,S,I,x.k.trans hk,rfl,U,r.mono x,(Gs P).imp ?_⟩;rintro v2 _ ⟨l,d2,G2,rfl,y,z,M,-,g⟩;split at g
  .rename_i i;split at g
   .rename_i fs hi;split at g
    .rename_i Z;obtain⟨i',w,A,B,O,Y,rfl,eg,u,p,F⟩:=z.ins M hi;cases O;have n:w=C:=by
      rw[y.k,x.k,hk,J]at u;cases u
      rfl
     subst n;have j:Ext l (l.put (l.m i) (.ins w A (Ep f v B))):=.ZX p;exact⟨l.m i,w,A,B,rfl,p,T,N,F.len▸Z,g _ σ j (z.ZX Y u p (.put ((q.mono y).mono j) (F.mono j))) (((r.mono x).mono y).mono j)⟩
    exact g.elim
   exact g.elim
  exact g.elim
def uH{sp F:List D->DH->R D}{p:St}{H:Hp}{Q:VK}(y:zb X.K vS c=uA (uA (.ref C)))(h:lE X.K E0 (Bt c m F ta tr) p H Q):V6 C m (lF X.K F) [] E0 (lE X.K E0 ta) (lA X.K E0 tr) p H Q:=by
 obtain⟨a,S,G,hk,rfl,s,r,h⟩:=h;refine⟨a,S,G,hk,rfl,s,r,(Eb h).imp ?_⟩;rintro v _ ⟨b,d,w,rfl,x,n,q,-,g⟩;split at g
 .rename_i fs Y;obtain⟨i,P,L,U,rfl,_,rfl,_,l,I,Z⟩:=n.ins q Y;have j:P=C:=by
   rw[x.k,hk,y]at l;cases l
   rfl
  subst j;split at g
  .rename_i O;refine⟨b.m i,L,U,rfl,I,Z.Vv O,b,S,w,x.k.trans hk,rfl,n,r.mono x,(J9 g).imp ?_⟩;rintro N _ ⟨T,M,A,rfl,u,J,B,-,z⟩;exact⟨T,A,.ref i::M,(u.k.trans x.k).trans hk,rfl,J,⟨.ref (b.m i),N,by rw[qV],q.mono u,B⟩,z⟩
  exact g.elim
 exact g.elim
def cY{CX:RL}{k:Nat}{g:vW}{b:vq}{ps:List Str}{F:List D->DH->R D}{pl:Sem Bool}(d:zb X.K vS c=uA (uA (.ref C)))(r:HK X.K C)(p:GL X.K C m g)(i:ID X.prog X.w X.K X.mg X.base CX k g b ps (lF X.K F))(q:GB k X.A)(l:Binds X.K b ps [])
  (j:Passes CX X E0) (ho:QE X E0 o ta) (n:QA X E0 (e::es) tr) (s:notStar e=uC:=by rfl) (a:es.all notStar=uC:=by rfl)
  (u:eval (.Call (.Attribute o m apos) (e::es) [] pos) X.env=(do
   let ov<-eval o X.env
   standAt apos.atName
   let(f,first)<-holding [ov] (getMethod ov m pl)
   callWith pos f first (vF pos (wW (e::es) X.env)) (vG pos (vP [] X.env))):=by rfl):QE X E0 (.Call (.Attribute o m apos) (e::es) [] pos) (Bt c m F ta tr):=
 (m9 ho r p i q l .nil j n (K1 e es X.env s) (Mm pos X.env es a) u).mono λv H Q h=>uH (sp:=F) d h
def uI(z:zb X.K vS c=uA (uA (.ref C)))(L:HK X.K C)(n:GL X.K C m g)(O:ID X.prog X.w X.K X.mg X.base CX k g fd ps (lF X.K F))(M:GB k X.A)(I:Binds X.K fd ps [])
  (Z:Passes CX X E0) (ho:QE X E0 o ta)
  (Y:eval (.Call (.Attribute o m apos) [] [] pos) X.env=(do
   let ov<-eval o X.env
   standAt apos.atName
   let(f,first)<-holding [ov] (getMethod ov m pl)
   callWith pos f first (vF pos (wW [] X.env)) (vG pos (vP [] X.env))):=by rfl):QE X E0 (.Call (.Attribute o m apos) [] [] pos) (Bt c m F ta Ba):=
 (md ho L n O M I .nil Z Y).mono λσ H Q h=>by
  obtain⟨a,S,G,hk,rfl,s,r,h⟩:=h;refine⟨a,S,G,hk,rfl,s,r,(Eb h).imp ?_⟩;rintro v _ ⟨b,d,y,rfl,x,u,q,-,j⟩;split at j
  .rename_i fs T;obtain⟨i,N,J,P,rfl,_,rfl,_,p,B,U⟩:=u.ins q T;have l:N=C:=by
    rw[x.k,hk,z]at p;cases p
    rfl
   subst l;split at j
   .rename_i n;exact⟨b.m i,J,P,rfl,B,U.Vv n,b,y,[.ref i],x.k.trans hk,rfl,u,⟨.ref (b.m i),[],rfl,q,rfl⟩,j⟩
   exact j.elim
  exact j.elim
def uL(hk:a.K=X.K)(A:zb X.K vS c=uA (uA (.ref C)))(s:XA a G)(q:HA a ds vs)
  (h:out E0 a ((F (.ref (lN G)::ds) (G++[.ins c []])).bind λv J=>match v with
   |.KA=>.ok (.ref (lN G)) J
   |_=>.bad) Q):∀x g,a.H x=uB->a.H g=uB->g≠x->lF X.K F (.ref x::(vs++[])) (upd (upd a.H g (.own x)) x (.ins C g [])) (λv N=>v=.KA/\Q (.ref x) N) E:=λp g hp k r=>by
 have u:Ext a (a.put g (.own p)):=.put k;have j:(a.put g (.own p)).H p=uB:=by show upd a.H g (.own p) p=uB;rw[Ag λz=>r z.symm];exact hp
 have y:Ext (a.put g (.own p)) ((a.put g (.own p)).push p (.ins C g [])):=.push j;have B:XA ((a.put g (.own p)).push p (.ins C g [])) (G++[.ins c []]):=(s.put k).push j ⟨C,g,[],by show zb a.K vS c=_;rw[hk];exact A,rfl,rfl,rfl⟩;have i:((a.put g (.own p)).push p (.ins C g [])).m a.n=p:=by show(if a.n=a.n then p else a.m a.n)=p;rw[if_pos rfl]
 have w:LB ((a.put g (.own p)).push p (.ins C g [])) (.ref (lN G)) (.ref p):=by rw[s.len];exact⟨qC _,by rw[i]⟩
 refine⟨(a.put g (.own p)).push p (.ins C g []),_,.ref (lN G)::ds,hk,rfl,B,⟨.ref p,vs,by rw[qV],w,(q.mono u).mono y⟩,(Eb (out.mono (u.trans y) h)).imp ?_⟩;rintro v _ ⟨b,d,O,rfl,I,M,L,-,l⟩;split at l
 .have:=L;exact⟨this,l b _ (.refl b) M (w.mono I)⟩
 exact l.elim
def cZ{CX:RL}{k:Nat}{g:vW}{j:vq}{ps:List Str}{F:List D->DH->R D}{p:Pos}(n:zb X.K vS c=uA (uA (.ref C)))(M:Mk X.K C g)(v:ID X.prog X.w X.K X.mg X.base CX k g j ps (lF X.K F))(J:GB (k+1) X.A)(u:Gl X c)(I:X.mg c=uA (.ref C))(z:Binds X.K j ps [])
  (y:Passes CX X E0) (B:QA X E0 (e::es) tr) (i:(c==("__debug__":Str))=uD:=by decide) (N:notStar e=uC:=by rfl) (d:es.all notStar=uC:=by rfl):QE X E0 (.Call (.Name c p) (e::es) [] pos) (Lw c F tr):=
 (mh M v J u I z .nil y B i (K1 e es X.env N) (Mm pos X.env es d)).mono λP H Q h=>by obtain⟨a,S,G,hk,rfl,s,r,h⟩:=h;refine⟨a,S,G,hk,rfl,s,r,(J9 h).imp ?_⟩;rintro T _ ⟨b,U,O,rfl,x,L,q,-,l⟩;exact uL (x.k.trans hk) n L q l
end
theorem Tu:∀{ns:List Int}{us:List vB},Vals (ns.map V.int) us->lN us=lN ns/\∀(j:Nat)(u:vB),us[j]?=uA u->∃t,∃h:j<lN ns,u=.int ns[j] t
 |[],us,h=>by cases h;exact⟨rfl,λj u e=>by simp at e⟩
 | n::ns,us,h=>by
  cases h with
  | cons r d=>
   obtain⟨b,f⟩:=Tu d;obtain⟨t,rfl⟩:=r;refine⟨by simp[b],λj u e=>?_⟩;cases j with
   |zero=>simp at e;exact⟨t,by simp,by simpa using e.symm⟩
   |succ j=>
    obtain⟨g,c,a⟩:=f j u (by simpa using e);exact⟨g,by simpa using c,by simpa using a⟩
section
variable{X:Cx}{E:XK}
def uM(h:ItemsOf (λi v=>∃t,v=.int ((0:Int)+i*1) t) acc n):Vals ((zW n).map λ(i:Nat)=>V.int (i:Int)) acc.toList:=by
 obtain⟨b,g⟩:=h;refine Wi (by simp[b]) λi v u a c=>?_
 have d:i<n:=by have:=(zX.mp a).1;simpa using this
 rw[zv,qF d]at a;have f:v=V.int (i:Int):=by simpa using a.symm
 obtain⟨t,e⟩:=g i u (by rw[<-jF];exact c);subst f;refine⟨t,?_⟩;rw[e]
 congr 1
 lia
noncomputable def Ll(lo:Int)(n:Nat):It:=⟨λi _=>i<n,λi H x H'=>H'=H/\x=.int (lo-i),λi _=>n<=i⟩
def uN{P:vj}{w:vC}{K:za}{tg:vY}(it:vW)(g:Int)(n:Nat):Turn P w K tg (Ll g n) [it] it (λi h=>IsRangeIter h it (g+(i:Nat)*(-1)) ((n:Int)-(i:Nat)) (-1)) where
 mem:=by simp
 obj:=λi h a b c=>by
  have e:b=it:=by simpa using c
  subst e;exact⟨_,a,λv z=>by have C:=z;cases C⟩
 keep:=λi h B a k=>k it (by simp) _ a
 item:=by
  intro X l hw u r i f s M H E I j a q;subst l hw u;obtain⟨y,m,J,x,p,A⟩:=j it (by simp);refine(Walks.range (I.ok.hd r) it g (-1) n).item i s _ _ q a λv B O F d N=>?_
  obtain⟨t,rfl⟩:=F;refine⟨_,rfl,Jy d rfl rfl (by decide) ⟨.int (g-i),H,I.turned (λb o c e=>N b o (by simpa using c) e) y m x p A,⟨t,?_⟩,⟨rfl,rfl⟩,d,λb c=>(j b c).1⟩⟩
  congr 1
  lia
 done:=by intro X l hw u r i f s M H E I j a q;subst l hw u;obtain⟨y,m,J,x,p,A⟩:=j it (by simp);exact wpAny_pyNext_range_end (I.ok.hd r) a (by have:n<=i:=q;lia) λB L=>⟨rfl,I.turned (λb o c e=>L b o c e) y m x p A⟩
 self:=λ_ _ _ _ _ a h=>wpAny_pyIter_rangeiter a h
def YD(a b:Int):Builtin.Range.rangeSize a b (-1)=if b<a then a-b else 0:=by
 unfold Builtin.Range.rangeSize;rw[if_neg (by decide)];have e:(- (-1:Int))=1:=by decide
 rw[e,Int.ediv_one]
 split <;> lia
def RJ(f: -(2^62)<=a)(d:a<2^62)(e: -(2^62)<=b)(c:b<2^62):Builtin.Range.small a b (-1)=uC:=by
 unfold Builtin.Range.small;rw[YD];simp[Builtin.Range.rangeFitsLong,qQ,xk,decide_eq_true_eq,beq_iff_eq,show¬((-1:Int)>0) by decide,if_false]
 split <;> lia
def iDn(ta:TA):TI:=λσ H R=>ta σ H λvs H1=>∃i j:Int,vs=[.int i,.int j,.int (-1)]/\(-(2^62)<=i/\i<2^62/\ -(2^62)<=j/\j<2^62)/\R (Ll i (i-j).toNat) H1
theorem uO{tg a b c:vY}{ta:TA}{p pos:Pos}(M:Gl X "range")(S:X.mg "range"=uB)(U:PA X [a,b,c] ta)(O:wW [a,b,c] X.env=(uD,eval a X.env)::wW [b,c] X.env:=by rfl)(x:(vF pos (wW [b,c] X.env)).any (·.1)=uD:=by rfl):
  PI X tg (.Call (.Name "range" p) [a,b,c] [] pos) (iDn ta):=by
 intro k s B H R I h;refine Call_ (Hv I M S vf (qa (YA (U pos k s B H _ I h) λY m zz=>?_) O x));obtain⟨W,A,K,T,w⟩:=zz;obtain⟨i,j,e,⟨w,C,Q,J⟩,q⟩:=w;subst e;cases T with
 | cons r u=>
  cases u with
  | cons P u=>
   cases u with
   | cons y u=>
    cases u;obtain⟨t,rfl⟩:=r;obtain⟨v,rfl⟩:=P;obtain⟨g,rfl⟩:=y;refine call_range_3 (by decide) ?_ (.inl (u1 (by lia)));refine wpAny_pyIter_range (.new ..) (RJ w C Q J) ?_;have z:Inv X k B A {m with heap:=m.heap.push {cls:=.type "range",data:=.fields #[.int i t,.int j v,.int (-1) g]},toks:=m.toks}:=K.kept λb o e=>zJ _ e
    refine⟨(m.heap.push {cls:=.type "range",data:=.fields #[.int i t,.int j v,.int (-1) g]}).objs.size,[(m.heap.push {cls:=.type "range",data:=.fields #[.int i t,.int j v,.int (-1) g]}).objs.size],_,_,A,rfl,
     z.kept λb o e=>zJ _ e,uN _ i (i-j).toNat,?_,λb N=>?_,q⟩
    .have L:i+((0:Nat):Int)*(-1)=i:=by simp
     have F:(((i-j).toNat:Nat):Int)-((0:Nat):Int)=Builtin.Range.rangeSize i j (-1):=by rw[YD];split <;> lia
     rw[L,F];exact zA _ rfl
    have e:b=(m.heap.push {cls:=.type "range",data:=.fields #[.int i t,.int j v,.int (-1) g]}).objs.size:=by simpa using N
    subst e;exact z.Hj (zx _) (z.SA.fresh (zx _))
noncomputable def Ib(lo:Int)(n:Nat):List D:=(zW n).map λ(k:Nat)=>D.int (lo-(k:Int))
def SJ(ds:List D)(G:DH):R LM:=match ds with
 |[.int i,.int j,.int k]=>if inR i/\inR j/\k= -1 then .ok (.pure (Ib i (i-j).toNat)) G else .bad
 |_=>.bad
def uP(e:Int)(n:Nat):XE a (.pure (Ib e n)) (Ll e n):=by
 refine⟨(zW n).map λ(k:Nat)=>V.int (e-(k:Int)),?_,λb x i=>⟨λv c=>?_,λf=>?_⟩⟩
 .unfold Ib;generalize zW n=l
  induction l with
  |nil=>exact rfl
  |cons k l g=>exact⟨_,_,rfl,rfl,g⟩
 .rw[zv]at c;by_cases d:i<n
  .rw[qF d]at c;exact⟨d,λw h y=>⟨y.2.trans (by simpa using c),y.1⟩⟩
  rw[zM (by simpa using d)]at c;cases c
 show n<=i;simpa using f
def uR{tg e f c:vY}{ta:DA}{p pos:Pos}(z:Gl X "range")(F:X.mg "range"=uB)(I:QA X E [e,f,c] ta)(A:wW [e,f,c] X.env=(uD,eval e X.env)::wW [f,c] X.env:=by rfl)(l:(vF pos (wW [f,c] X.env)).any (·.1)=uD:=by rfl):
  QI X E tg (.Call (.Name "range" p) [e,f,c] [] pos) (Bb SJ ta):=
 (uO z F I A l).mono λT H Q h=>by
  obtain⟨a,S,G,hk,rfl,s,r,h⟩:=h;refine⟨a,S,G,hk,rfl,s,r,(Pg h).imp ?_⟩;rintro P _ ⟨b,N,J,rfl,x,B,q,-,d⟩;unfold SJ at d;split at d
  .rename_i i j k;split at d
   .rename_i g;obtain⟨m,g,rfl⟩:=g;obtain⟨v,r,y,n,O,K,u,t,M,L,o,C,w⟩:=q;cases(n);cases(t);cases(C);cases(w);subst o;subst u;exact⟨i,j,y,⟨m.1,m.2,g.1,g.2⟩,d b _ (.refl b) B (uP i (i-j).toNat)⟩
   exact d.elim
  exact d.elim
end
section
variable{prog:vj}{w:vC}{A:vK}{E:vB->vk->Prop}{s:vk}
end
section
variable{X:Cx}{E:XK}
end
end _D
namespace _D
open PySem PySem.Spec _L
def Cr(c f:Str)(d:D)(G:DH):R D:=match Hz c d G with
 |some fs=>match fs.lookup f with
  |some v=>.ok v G
  |none=>.bad
 |none=>.bad
def Jf(c f:Str)(o d:D)(S:PB)(G:DH):SR:=match o with
 |.ref i=>match Hz c o G with
  |some fs=>if lN fs<1000 then .nx S (G.set i (.ins c (Gy f d fs)))else .bad
  |none=>.bad
 |_=>.bad
def Hs(c m:Str)(F:List D->DH->R D)(t:DA)(S:PB)(o:D)(G:DH):R D:=match Hz c o G with
 |some fs=>match fs.lookup m with
  |none=>(t S G).bind λds G2=>F (o::ds) G2
  |some _=>.bad
 |none=>.bad
def Rm(F:List D->DH->R D)(c:Str)(ds:List D)(G1:DH):R D:=(F (.ref (lN G1)::ds) (G1++[.ins c []])).bind λv G2=>match v with
 |.KA=>.ok (.ref (lN G1)) G2
 |_=>.bad
section
variable{S:PB}{G:DH}{c f m:Str}{t to tv:DE}{ta:DA}{F:List D->DH->R D}{i:Nat}{fs:List (Str×D)}{v d:D}
@[simp]theorem Nl:Av c t f S G=(t S G).bind λd a=>Cr c f d a:=id rfl
@[simp]theorem c7:Cm c to tv f S G=(tv S G).toS λd b=>(to S b).toS λo a=>Jf c f o d S a:=id rfl
@[simp]theorem F4:Bt c m F to ta S G=(to S G).bind λo a=>Hs c m F ta S o a:=id rfl
@[simp]theorem F5:Lw c F ta S G=(ta S G).bind λa b=>Rm F c a b:=id rfl
def Z1(h:G[i]?=uA (.ins c fs)):Hz c (.ref i) G=uA fs:=by unfold Hz;simp[h,if_true]
def De(h:G[i]?=uA (.ins c fs))(a:fs.lookup f=uA v):Cr c f (.ref i) G=.ok v G:=by unfold Cr;rw[Z1 h];simp[a]
def c8(h:G[i]?=uA (.ins c fs))(a:lN fs<1000):Jf c f (.ref i) d S G=.nx S (G.set i (.ins c (Gy f d fs))):=by unfold Jf;simp[Z1 h,a,if_true]
def Sq(h:G[i]?=uA (.ins c fs))(e:fs.lookup m=uB):Hs c m F ta S (.ref i) G=(ta S G).bind λb a=>F (.ref i::b) a:=by unfold Hs;rw[Z1 h];simp[e]
@[simp]theorem c9{i j:Int}(a:inR i)(b:inR j):SJ [.int i,.int j,.int (-1)] G=.ok (.pure (Ib i (i-j).toNat)) G:=by simp[SJ,a,b]
theorem uS:Ib lo 0=[]:=rfl
def uT:Ib lo (n+1)=.int lo::Ib (lo-1) n:=by
 unfold Ib;rw[jZ,zY,qk]
 congr 1
 .simp
 refine qG λk _=>?_
 simp only[Function.comp]
 congr 1
 lia
def Hr{d:D}{G a:DH}(e:lN a=lN G)(b:QB (lN G) d=uC):tidy G (.ok d a)=.ok d a:=by
 unfold tidy;simp only[b,if_true];split
 .rename_i h;rw[xE (by lia)]at h;rw[h]
 rfl
def ci{d:D}{G a:DH}(h:a.take (lN G)≠G):tidy G (.ok d a)=.ok d a:=by unfold tidy;simp[h,if_false]
end
end _D
namespace _D
open PySem PySem.Spec _L
open PyProof.Rows hiding St
def Dr(x:Str)(n:Int):Str:=if n<1 then Str.empty else if(n==1||x.length==0)=uC then x else⟨(zQ n.toNat x.cps).foldl (·++·) #[]⟩
theorem Qm:∀(n:Nat)(b:Array Nat),((zQ n a).foldl (·++·) b).toList=b.toList++(zQ n a.toList).flatten
 |0,b=>by simp
 |n+1,b=>by rw[q0,List.foldl_cons,Qm n (b++a),q0,jk];simp
def uU{a:Array Nat}(n:Nat):((zQ n a).foldl (·++·) #[]).size=n*a.size:=by rw[<-jV,Qm];simp
def ua:(Dr x n).cps.toList=(zQ n.toNat x.cps.toList).flatten:=by
 unfold Dr;split
 .rename_i h;have e:n.toNat=0:=by lia
  rw[e];rfl
 rename_i h;split
 .rename_i a;rw[xk,beq_iff_eq,beq_iff_eq]at a;rcases a with rfl|a
  .simp
  .have e:x.cps.toList=[]:=by have:x.cps.size=0:=a;rw[<-jV]at this;exact jz this
   rw[e];simp
 .rw[Qm];simp
def Bu:D->D->DH->R D
 |.int i,.int j,G=>if KL i j then .ok (.int (i*j)) G else .bad
 |.str x,.int n,G=>if -1000<=n/\n<=1000/\x.length<=1000 then .ok (.str (Dr x n)) G else .bad
 |_,_,_=>.bad
section
variable{X:Cx}{E:XK}
def ub:WB X (vI .Mult) (λx y H Q=>∃i n,x=.str i/\y=.int n/\(-1000<=n/\n<=1000/\i.length<=1000)/\Q (.str (Dr i n)) H):=by
 intro d s r H x y v u Q I k o h;obtain⟨i,n,rfl,rfl,⟨w,g,e⟩,q⟩:=h;obtain⟨t,rfl⟩:=k;obtain⟨C,rfl⟩:=o;have b:∀m:Nat,m<=1000->i.length*m<=1000000:=λm l=>zN (vZ e l) (by decide)
 refine P.mul_str ?_ (λa c=>?_) (λa c=>?_) ?_
 .rw[decide_eq_false (by lia),decide_eq_false (by lia)];rfl
 .intro p;have:(i.length:Int)*n<=2^63-1:=by have A:(i.length:Int)*n<=1000*1000:=Int.mul_le_mul (by lia) g (by lia) (by lia);lia
  have B:=(Int.le_ediv_iff_mul_le (by lia)).mpr this;lia
 .have:=b n.toNat (by lia);unfold Builtin.Str.tooLong;rw[wQ];exact decide_eq_false (by lia)
 unfold Dr at q;split
 .rename_i a;rw[if_pos a]at q;exact⟨by decide,.str Str.empty,H,I.tok _,⟨_,rfl⟩,q⟩
 .rename_i a;rw[if_neg a]at q;split
  .rename_i c;rw[if_pos c]at q;exact⟨.str i,H,I,⟨t,rfl⟩,q⟩
  .rename_i c;rw[if_neg c]at q;refine⟨?_,.str _,H,I.tok _,⟨_,rfl⟩,q⟩
   show((zQ n.toNat i.cps).foldl (·++·) #[]).size<=sizeLine
   have f:i.cps.size<=1000:=e;have z:=vZ (show n.toNat<=1000 by lia) f;rw[uU,wQ];lia
def uc:WB X (vI .Mult) (GF X.K E Bu):=Fp (uE.or ub) λa G d e x y Q hk s rd re q=>by
 cases d<;>cases e<;>first
  |exact q.elim
  | (
    rename_i i j;unfold Bu at q;dsimp only at q;split at q
    .first
     |exact .inl ⟨_,_,rd,re,by assumption,q a _ (.refl a) s rfl⟩
     |exact .inr ⟨_,_,rd,re,by assumption,q a _ (.refl a) s rfl⟩
    exact q.elim)
end
section
variable{i j:Int}{G:DH}
def Ds(b: -(2^64)<i)(a:i<2^64):Bu (.int i) (.int j) G=.ok (.int (i*j)) G:=if_pos (.inl (.inl ⟨b,a⟩))
def Tq(b: -(2^64)<j)(a:j<2^64):Bu (.int i) (.int j) G=.ok (.int (i*j)) G:=if_pos (.inl (.inr ⟨b,a⟩))
@[simp]theorem F6(h:n<18446744073709551616):Bu (.int (no_index (OfNat.ofNat n))) (.int j) G=.ok (.int (OfNat.ofNat n*j)) G:=
 Ds (by have:(0:Int)<=(OfNat.ofNat n:Int):=Int.natCast_nonneg n;lia) (by have:(OfNat.ofNat n:Int)<18446744073709551616:=Int.ofNat_lt.mpr h;lia)
@[simp]theorem F7(h:n<18446744073709551616):Bu (.int i) (.int (no_index (OfNat.ofNat n))) G=.ok (.int (i*OfNat.ofNat n)) G:=
 Tq (by have:(0:Int)<=(OfNat.ofNat n:Int):=Int.natCast_nonneg n;lia) (by have:(OfNat.ofNat n:Int)<18446744073709551616:=Int.ofNat_lt.mpr h;lia)
def ud(h: -1000<=n/\n<=1000/\x.length<=1000):Bu (.str x) (.int n) G=.ok (.str (Dr x n)) G:=if_pos h
end
section
variable{X:Cx}{E:XK}{e st:vY}{te:TE}{ts:TO}{p2 pos:Pos}
end
theorem HA.rev:∀{b:List D}{vs:List V},HA a b vs->HA a b.reverse vs.reverse
 |[],vs,r=>by cases r;exact .nil
 |d::b,vs,r=>by obtain⟨v,c,rfl,h,f⟩:=r;rw[jL,jL];exact .append (.rev f) (.cons h HA.nil)
section
variable{S:PB}{G:DH}
end
section
variable{X:Cx}{E:XK}
end
section
variable{S:PB}{G:DH}
end
noncomputable abbrev Ko(X:Cx)(qual:Str)(scope:vx)(f:vW)(cd:vB)(L:vW):Env:=PySem.W.envX qual scope L f cd (Cu X.env scope.names [])
def Mp(X:Cx)(N:List Str)(qual:Str)(scope:vx)(f:vW)(cd:vB)(A:vK)(s:vk)(H:Hp):Cx where
 prog:=X.prog
 w:=X.w
 K:=X.K
 mg:=X.mg
 base:=X.base
 A:=A.deeper (Ko X qual scope f cd s.heap.objs.size)
 N:=N
 s₀:=s
 H₀:=H
 env:=Ko X qual scope f cd s.heap.objs.size
 outer:=X.stack
 stack:=Ko X qual scope f cd s.heap.objs.size::X.stack
 ex:=[]
 fn:=λ_=>uD
 calm:=uC
 pn:=[]
 xe:=λ_ _=>False
noncomputable def I7(caps:List Nat)(d:D)(S:PB):PB:=uA d::caps.map λj=>(S[j]?).join
section
variable{X:Cx}{wS:List (vW×Obj)}{σ:St}{H:Hp}{s:vk}{N:List Str}{scope:vx}{caps:List Nat}{x qual:Str}{f:vW}{cd:vB}{A:vK}
def ue(cs:ZB X N scope 1 caps)(hN:N[0]?=uA x)(hx:scope.names.lookup x=uA .local)(I:Inv X wS σ H s)(hA:A.handled=uB)(P:A.frames=uA X.stack)(ru:RelV v u)
  (s?:l.Ns s.heap.objs.size (λy=>jE y [(x,u)].reverse)) (k:∀b o,s.heap.get? b=uA o->l.get? b=uA o):
  Inv (Mp X N qual scope f cd A s H) [] (uA v::caps.map λj=>(σ[j]?).join) H {s with heap:=l,toks:=tk}:=by
 have C:∀b:vW,b∉(Mp X N qual scope f cd A s H).ex:=λb z=>absurd (show b∈([]:List vW)from z) (by simp)
 refine⟨⟨I.ok.mod,cs.kind,rfl,rfl,zx _,λy z c E J=>I.ok.inj y z c (cs.cl I.ok E) (cs.cl I.ok J),λy hy=>?_,λy c h=>absurd (show(uD:Bool)=uC from h) (by decide),λ_=>hA,Around.frames_deeper P,.inr ⟨rfl,rfl⟩,λb z=>absurd z (C b),I.bs,zN I.ok.MN I.sz,λb _ _=>C b,λb z=>absurd z (C b),I.stack,I.Wg⟩,
  rfl,I.bare,.kept k,⟨_,s?,λi y n e1 e2 e3=>?_⟩,λy L e=>?_,I.SA.fresh (zx _),λy L e=>I.Gh y L (cs.cl I.ok e),λp hp=>absurd (show p∈([]:List (vW×Obj))from hp) (by simp),I.SA.kept k,?_⟩
 .have hy':=hy;have t:scope.names.lookup y=uA .free:=by
   rcases hy' with z|z
   .exact absurd rfl (cs.QH _ (zc z))
   exact z
  obtain⟨d,hd⟩:=Lx (.inl (zc t));exact Qc hd
 .have w:N[i]?=uA y:=e1;cases i with
  |zero=>
   rw[hN]at w;cases w;have a:v=n:=by simpa using e2
   subst a;exact⟨u,ru,.inl ⟨hx,by simp⟩⟩
  | succ i=>
   have a:((caps.map λj=>(σ[j]?).join)[i]?)=uA (uA n):=by simpa using e2
   rw[zv]at a;cases U:caps[i]? with
   |none=>rw[U]at a;cases a
   | some j=>
    rw[U]at a;have E:(σ[j]?).join=uA n:=by simpa using a
    have J:σ[j]?=uA (uA n):=by
     cases q:σ[j]? with
     |none=>rw[q]at E;cases E
     |some o=>
      rw[q]at E;have T:o=uA n:=E;rw[T]
    obtain⟨y2,ey,M,Q⟩:=cs.HS i j U;have O:y=y2:=by rw[xz]at M;rw[w]at M;exact Option.some.inj M
    subst O;have g:=cs.free (y,.free) (zc Q) rfl;have Y:NU X.env.scope y:=by
     rcases g with g|g
     .exact .inr (.inl g)
     exact .inr (.inr g)
    obtain⟨m,hn,hl⟩:=I.loc;obtain⟨u2,K,lk⟩:=hl j y n ey J Y;refine⟨u2,K,?_⟩;rcases lk with⟨W,_⟩|⟨W,c1,ec,B⟩
    .rcases g with g|g
     .rw[W]at g;cases g
     rw[W]at g;cases g
    refine .inr ⟨.inr Q,c1,?_,?_⟩
    .obtain⟨d1,Z⟩:=Lx (.inl (zc Q));obtain⟨d2,F⟩:=Qc Z;have:=cs.cl I.ok F;rw[ec]at this;cases this;exact F
    .obtain⟨o,e,S⟩:=B;exact⟨o,k _ _ e,S⟩
 .obtain⟨n,o,e',S⟩:=I.cell y L (cs.cl I.ok e);exact⟨n,o,k _ _ e',S⟩
 show lN (uA v::caps.map λj=>(σ[j]?).join)=lN N;rw[cs.len];simp;lia
theorem uf(r:RB a S σ)(l:LB a d v):RB a (I7 caps d S) (uA v::caps.map λj=>(σ[j]?).join):=by
 refine⟨by simp[I7],λi e h=>?_⟩;unfold I7 at h;cases i with
 |zero=>
  have b:d=e:=by simpa using h
  subst b;exact⟨v,rfl,l⟩
 | succ i=>
  have b:((caps.map λj=>(S[j]?).join)[i]?)=uA (uA e):=by simpa using h
  rw[zv]at b;cases g:caps[i]? with
  |none=>rw[g]at b;cases b
  | some j=>
   rw[g]at b;have c:(S[j]?).join=uA e:=by simpa using b
   have n:S[j]?=uA (uA e):=by
    cases q:S[j]? with
    |none=>rw[q]at c;cases c
    |some o=>
     rw[q]at c;have k:o=uA e:=c;rw[k]
   obtain⟨t,m,p⟩:=r.get j e n;exact⟨t,by simp[g,m],p⟩
def ug
  (cs:ZB X N scope 1 caps) (hN:N[0]?=uA x) (L:scope.names.lookup x=uA .local) (m:scope.isCoroutine=uD) (i:scope.isGenerator=uD)
  (I:Inv X wS σ a.H s) (hk:a.K=X.K) (sm:XA a G) (O:RB a S σ) (ho:s.heap.get? f=uA ob) (F:ob.data=.func (ze "<lambda>" qual params body scope (Cu X.env scope.names []) pm (.ref c') JI)) (n:s.heap.CodeRec (.ref c') qual)
  (c:bindArgs (ze "<lambda>" qual params body scope (Cu X.env scope.names []) pm (.ref c') JI) ⟨[u],[]⟩=pure [(x,u)])
  (z:GB (k+1) A) (p:A.frames=uA X.stack) (U:GB k (A.deeper (Ko X qual scope f (.ref c') s.heap.objs.size))->QE (Mp X N qual scope f (.ref c') A s a.H) E0 body te)
  (ru:RelV v u) (Y:LB a d v) (h:out E0 a (te (I7 caps d S) G) Q):
  codeAny (vT X.prog X.w) A (.call (.ref f) ⟨[u],[]⟩) (CR MK X.stack X.prog X.w a.H s Q E) s:=by
 refine PySem.W.kla_callFunE z.depth ho F m i rfl n ?_;rw[c];refine w9 (wpAny_newFunctionEnv cs.QH (λy T=>?_) (λg C t=>?_) cs.kind)
 .have B:y=(x,u):=by simpa using T
  subst B;exact L
 have j:∀b o,s.heap.get? b=uA o->g.get? b=uA o:=λb o e=>t.extBut b o (qZ (zD e)) (zJ _ e)
 refine⟨I.nolimit.keeps j,?_⟩;refine PySem.W.kla_codeExpr (w5 (U (z.deeper _) [] _ _ a.H Q (ue (qual:=qual) (f:=f) (cd:=.ref c') cs hN L I z.hd p ru (tk:=s.toks+1) C j) ⟨a,I7 caps d S,G,hk,rfl,sm,uf O Y,h⟩) (λr s' P=>?_) λ_ _ hF=>hF.elim);obtain⟨M,Z,l,rv,q⟩:=P;exact⟨M,Z,l.os,l.bare,l.base,l.SA,rv,q⟩
end
def OM(base:Heap)(mg:Str->Option vB):Prop:=∃(bm:vW)(ob:Obj),mg "__builtins__"=uA (.ref bm)/\bm≠builtinsNs/\base.get? bm=uA ob/\ob.cls=.type "module"/\ob.dict=uA builtinsNs/\ob.data=.plain
theorem uh(l:List vB)(h:TriplesOk l):TriplesOk (l++[.int i t,.int j u,c]):=by
 fun_induction TriplesOk l with
 |case1=>simp[TriplesOk]
 |case2 a b c d x rest e=>exact e h
 |case3=>exact h.elim
theorem ui(l:List vB)(h:TriplesOk l)(f:codeAmong pos (l++[.int i t,.int j u,c])=uA cv):codeAmong pos l=uA cv\/cv=c:=by
 fun_induction TriplesOk l with
 |case1=>
  right
  simp only[qH,codeAmong]at f;split at f
  .exact(Option.some.inj f).symm
  cases f
 |case2 a b k d x rest g=>
  simp only[j4,codeAmong]at f⊢;split at f
  .rename_i e;rw[if_pos e];exact .inl f
  rename_i e;rw[if_neg e];exact g h f
 |case3=>exact h.elim
section
variable{X:Cx}{wS:List (vW×Obj)}{σ:St}{s:vk}{scope:vx}{a:Wd}
def grown(c:a.H P=uA (.RF ps))(d:a.H c'=uB):
  let H':=upd (upd a.H P (.RF (ps++more))) c' (.WC oc (.own 0))
  (∀b u,a.H b=uA u->b≠P->H' b=uA u)/\H' P=uA (.RF (ps++more))/\H' c'=uA (.WC oc (.own 0)):=by
 have f:P≠c':=λz=>by rw[z,d]at c;cases c
 refine⟨λb u e g=>?_,?_,Di⟩
 .rw[Ag (Ft e d),Ag g];exact e
 rw[Ag f,Di]
def ul(T:RE a.H P)(A:a.H P=uA (.RF ps))(M:a.H J=uB)(O:oc.data=.fields vs)(L:vs[1]?=uA (.str Df tk)):
  Ext a {a with H:=upd (upd a.H P (.RF (ps++ #[.int i t,.int j u,.ref J]))) J (.WC oc (.own 0))}:=by
 obtain⟨l,Q,N⟩:=grown A M;have x:∀b(w:HO),a.H b=uA w->(∀q,w≠ .RF q)->b≠P:=λb w e n z=>by rw[z,A]at e;exact n _ (Option.some.inj e).symm
 refine⟨rfl,zx _,λ_ _=>rfl,λb S e=>l b _ e (x b _ e (by intro q z;cases z)),λb o w e=>l b _ e (x b _ e (by intro q z;cases z)),λp K=>?_⟩;by_cases e:p=P
 .subst e;obtain⟨m,v,r,B⟩:=K;rw[A]at v;cases v;refine⟨_,Q,by simpa using uh ps.toList r,λg E f=>?_⟩;rcases ui ps.toList r (by simpa using f)with z|z
  .obtain⟨c,d,h,F,y,k,I,C⟩:=B g E z;exact⟨c,d,h,F,y,l c _ k (x c _ k (by intro q z;cases z)),I,C⟩
  exact⟨J,oc,vs,tk,z,N,O,L⟩
 obtain⟨m,v,r,B⟩:=K;refine⟨m,l p _ v e,r,λg E f=>?_⟩;obtain⟨c,d,h,F,y,k,I,C⟩:=B g E f;exact⟨c,d,h,F,y,l c _ k (x c _ k (by intro q z;cases z)),I,C⟩
def um{b:Wd}{G:DH}(sm:XA a G)(x:Ext a b)(hn:b.n=a.n)(hm:b.m=a.m){P:vW}{ps:Array vB}(hP:a.H P=uA (.RF ps))(h1:∀p u,a.H p=uA u->p≠P->b.H p=uA u)(h2:b.H P≠uB):XA b G:=by
 refine⟨by rw[hn];exact sm.len,by rw[hn,hm];exact sm.inj,λi o e=>?_,λi hi=>?_⟩
 .have q:=sm.obj i o e;rw[hm];have same:∀w:HO,a.H (a.m i)=uA w->(∀z,w≠ .RF z)->b.H (a.m i)=a.H (a.m i):=λw e n=>by rw[h1 _ _ e (λz=>by rw[z,hP]at e;exact n _ (Option.some.inj e).symm),e]
  cases o with
  |lst ds=>
   obtain⟨us,e1,r1⟩:=q;rw[same _ e1 (by intro z y;cases y)];exact⟨us,e1,r1.mono x⟩
  |YR JA=>
   obtain⟨us,e1,k1,r1⟩:=q;rw[same _ e1 (by intro z y;cases y)];exact⟨us,e1,k1,r1.mono x⟩
  |RC JA=>
   obtain⟨us,e1,k1,r1⟩:=q;rw[same _ e1 (by intro z y;cases y)];exact⟨us,e1,k1,r1.mono x⟩
  |exc c fs=>
   obtain⟨C,oe,u,vs,n1,e1,k1,k2,z⟩:=q;rw[same _ e1 (by intro z y;cases y)];exact⟨C,oe,u,vs,by rw[x.k];exact n1,e1,k1,k2,z.mono x⟩
  |ins c fs=>
   obtain⟨C,dx,us,n1,e1,k1,r1⟩:=q;rw[same _ e1 (by intro z y;cases y)];exact⟨C,dx,us,by rw[x.k];exact n1,e1,k1,r1.mono x⟩
  |tab C m=>obtain⟨c1,P1,e1,t1⟩:=q;exact⟨c1,P1,by rw[x.k];exact e1,x.tab _ t1⟩
  |gone=>trivial
 .rw[hn]at hi;rw[hm];have z:=sm.tr i hi;cases e:a.H (a.m i)with
  |none=>exact absurd e z
  |some w=>
   by_cases hp:a.m i=P
   .rw[hp];exact h2
   .rw[h1 _ _ e hp];intro y;cases y
theorem uo{params:Arguments}{body:vY}{pos:Pos}{c P:vW}{PM:List (Str×vW)}(I:Inv X wS σ a.H s)(t?:closureFor scope X.env=pure PM)(UQ:X.env.code=.ref c)(hhd:zh X.K c P=uC)(T:RE a.H P)(B:OM X.base X.mg)
  (hq:X.env.qual++"<lambda>"=Df) (HJ:defaultsOf params X.env=([],[])) {R:vB->vk->Prop}
  (h:∀(b:Wd)(f c':vW)(JI:vB)(ob oc:Obj)(vs:Array vB)(t:Tok)(s':vk),Ext a b->(∀G,XA a G->XA b G)->Inv X ((f,ob)::wS) σ b.H s'->ob.data=.func (ze "<lambda>" Df params body scope PM ((X.mg "__name__").getD .none) (.ref c') JI)->
   b.H c'=uA (.WC oc (.own 0))->oc.data=.fields vs->vs[1]?=uA (.str Df t)->R (.ref f) s'):
  wq (vT X.prog X.w) X.A (eval (.Lambda params body scope pos) X.env) R X.xe s:=by
 refine PySem.W.kla_eval HJ ?_;rw[hq];obtain⟨ps,ZO,tr,ent⟩:=id T;have GP:=I.SA P _ ZO;have u?:=u4 I.WG hhd;have G:=I.ok.mod.glob.keeps I.bk;have hgP:vS≠P:=λq=>by obtain⟨o,es,ep,e,hd,_⟩:=G;rw[q,GP]at e;cases e;cases hd
 obtain⟨bm,ob,b1,b2,b3,b4,b5,b6⟩:=B;have WW:=I.bk _ _ b3;have hbP:bm≠P:=λq=>by rw[q,GP]at WW;cases WW;cases b4
 have hbG:bm≠vS:=λq=>by obtain⟨o,es,ep,e,hd,_⟩:=G;rw[q,e]at WW;cases WW;rw[hd]at b6;cases b6
 have BA:s.heap.BuiltinsAt X.mg P:=⟨bm,ob,b1,b2,hbG,hbP,WW,b4,b5,b6⟩;have hLP:X.env.locals≠P:=λz=>by have:=I.free;rw[z,ZO]at this;cases this
 cases hca:codeAmong pos ps.toList with
 |some cv=>
  obtain⟨c',oc,vs,t,rfl,hfz,e3,e4⟩:=ent pos cv hca;refine PySem.W.kla_makeFunctionHit t? I.ok.glob G UQ u? GP tr hca BA λJI h' tk hk hsz=>?_
  have k2:∀b o,s.heap.get? b=uA o->(h'.push {cls:=.type "function",data:=.func (ze "<lambda>" Df params body scope PM ((X.mg "__name__").getD .none) (.ref c') JI)}).get? b=uA o:=λb o e=>zJ _ (hk b o e)
  have I2:=I.kept (t':=tk) k2;refine h a h'.objs.size c' JI {cls:=.type "function",data:=.func (ze "<lambda>" Df params body scope PM ((X.mg "__name__").getD .none) (.ref c') JI)} oc vs t _ (.refl a) (λ_ z=>z) (I2.Gm λp hp=>?_) rfl hfz e3 e4;rcases zw.mp hp with rfl|hp
  .exact⟨zA _ rfl,I.SA.fresh hsz,jw (zj I.lt hsz),I.YL hsz,λv z=>by cases z⟩
  exact I2.pin p (zG _ hp)
 | none=>
  refine PySem.W.kla_makeFunction t? I.ok.glob G UQ u? GP tr hca hgP BA λc' JI h' tk hx XW GY Rl htb=>?_
  obtain⟨c2,oc,vs,t,e2,QU,hd,hv⟩:=Rl;cases e2;have v?:=I.SA.fresh XW;obtain⟨g1,g2,g3⟩:=grown ZO v?;have x:Ext a {a with H:=upd (upd a.H P (.RF (ps++ #[vU pos.line,vU pos.col,.ref c']))) c' (.WC oc (.own 0))}:=ul T ZO v? hd hv;generalize hHe:upd (upd a.H P (.RF (ps++ #[vU pos.line,vU pos.col,.ref c']))) c' (.WC oc (.own 0))=H' at*;generalize hfo:PySem.W.kla_obj "<lambda>" Df params body scope PM ((X.mg "__name__").getD .none) c' JI=fo
  have old:∀b o,b≠P->s.heap.get? b=uA o->(h'.push fo).get? b=uA o:=λb o hb e=>zJ _ (hx b o hb e)
  have w?:(h'.push fo).get? P=uA (qg (ps++ #[vU pos.line,vU pos.col,.ref c'])):=zJ _ htb;have nP:∀b,a.H b=uB->b≠P:=λb e z=>by rw[z,ZO]at e;cases e
  have nf:∀b,a.H b=uB->b≠c'->H' b=uB:=λb e hb=>by rw[<-hHe,Ag hb,Ag (nP b e)];exact e
  have hsz:=zN XW (jU GY);have I2:Inv X wS σ H' {s with heap:=h'.push fo,toks:=tk}:=by
   refine I.step (ch:=[]) (nofun) (λb o _ _ _ e n=>old b o (nP b n) e) (λb o _ _ _ e n=>⟨o.slots,old b o (nP b n) e⟩) (λb o _ e n=>nf b n (qZ (zj (zD e) XW))) (λb o _ e=>?_)
    x.tup x.WC (λb q e=>?_) (λm hn=>(hn.extBut hx hLP).push _) (λb u e=>?_) I.bare
   .by_cases hb:b=P
    .subst hb;exact⟨_,w?⟩
    exact⟨o,old b o hb e⟩
   .by_cases hb:b=P
    .subst hb;rw[ZO]at e;cases e;exact⟨_,g2⟩
    exact⟨#[],by rw[g1 b _ e hb];simp⟩
   by_cases hb:b=c'
   .subst hb;rw[g3]at e;cases e;exact⟨zJ _ QU,_,zJ _ QU⟩
   .by_cases hb2:b=P
    .subst hb2;rw[g2]at e;cases e;exact w?
    .have e':a.H b=uA u:=by rw[<-hHe,Ag hb,Ag hb2]at e;exact e
     refine(I.SA b u e').ZF (λb' o' HY q=>old b' o' ?_ q) (λb' q=>g1 b' _ q ?_) λb' xs q=>x.tup b' xs q
     .rcases HY with rfl|HY
      .exact hb2
      intro z;rw[z,ZO]at HY;cases HY
     intro z;rw[z,ZO]at q;cases q
  refine h _ h'.objs.size c' JI fo oc vs t _ x (λG sm=>um sm x rfl rfl ZO g1 (by show H' P≠uB;rw[g2];intro z;cases z)) (I2.Gm λp hp=>?_) (by rw[<-hfo]) g3 hd hv;rcases zw.mp hp with rfl|hp
  .refine⟨zA _ (by rw[<-hfo];rfl),nf _ (I.SA.fresh hsz) (jw GY),jw (zj I.lt hsz),I.YL hsz,λv z=>by rw[<-hfo]at z;cases z⟩
  exact I2.pin p (zG _ hp)
end
noncomputable def HP(ks:List Int)(i j:Nat):Bool:=decide (ks.getD i 0<ks.getD j 0)
def Fj(ks:List Int):List D:=
 if lN ks<2 then An 0 (lN ks)else((Hy (HP ks.reverse) (zi (lN ks))).toList.map λi=>(An 0 (lN ks)).reverse.getD i .KA).reverse
section
variable{prog:vj}{w:vC}{A:vK}{E:vB->vk->Prop}{s:vk}
def ur{r:vW}{j:Int}{t u v:Tok}{n:Nat}{Q:List vB->vk->Prop}(hh:A.handled=uB)(hr:IsRange s.heap r 0 j 1 t u v)(LS:Builtin.Range.small 0 j 1=uC)(hn:Builtin.Range.rangeSize 0 j 1=n)(hlen:n<=2^24)
  (h:∀h' tk vs,(∀b o,s.heap.get? b=uA o->h'.get? b=uA o)->s.heap.objs.size<h'.objs.size->Vals ((zW n).map λ(i:Nat)=>V.int (i:Int)) vs->Q vs {s with heap:=h',toks:=tk}):
  wq (vT prog w) A (collect (.ref r)) Q E s:=by
 have key:∀R:Result->vk->Prop,(∀h' tk IP c',(∀b o,b≠s.heap.objs.size->(s.heap.push (seqObj "list" #[] 0)).get? b=uA o->h'.get? b=uA o)->h'.get? s.heap.objs.size=uA {cls:=.type "list",dict:=uB,data:=.seq IP c',slots:= #[]}->
   ItemsOf (λi v=>∃t,v=.int (0+i*1) t) IP n->R (.ok (.ret (.ref s.heap.objs.size))) {s with heap:=h',toks:=tk})->codeAny (vT prog w) A (.builtin "list.__iadd__" ⟨[.ref s.heap.objs.size,.ref r],[]⟩) R {s with heap:=s.heap.push (seqObj "list" #[] 0)}:=λR hR=>by
  refine codeAny_builtin entry_list_iadd' ?_;rw[Around.under_plainId PySem.F.plain_list_iadd _];exact wpAny_extend_range hh (zJ _ hr) LS hn hlen s.heap.objs.size (.ref s.heap.objs.size) 0 (zA _ rfl) hR
 unfold collect;refine wj (wpAny_runValue (codeAny_builtin entry_proto_collect' ?_));refine wj (wpAny_newList (w9 ⟨Code.quiet_builtin _ (by decide +kernel),key _ λh' tk IP c' hk x? JS=>?_⟩));exact wj (wpAny_load x? (w9 (h h' tk IP.toList (λb o e=>hk b o (qZ (zD e)) (zJ _ e)) (zD x?) (uM JS))))
def ut{M:Model}{A:vK}{E:vB->vk->Prop}{s:vk}{env:Env}{pos:Pos}{T:String}{e:vY}{rest:List vY}{c:List Keyword}{Q:vB->vk->Prop}
  (i:(vG pos (vP c env)).all (·.1.isSome)=uC)
  (h:wq M A (spliced (vF pos (wW (e::rest) env))) (λvs b=>wq M A (evalAll ((vG pos (vP c env)).map (·.2)))
   (λks f=>wq M A (call (.builtin T) vs (((vG pos (vP c env)).filterMap (·.1)).zip ks)) Q E f) E b) E s)
  (d:(vF pos (wW (e::rest) env)).any (·.1)=uD) (j:(vG pos (vP c env)).any (·.1.isNone)=uD) (l:wW (e::rest) env=(uD,eval e env)::wW rest env):
  wq M A (callWith pos (.builtin T) [] (vF pos (wW (e::rest) env)) (vG pos (vP c env))) Q E s:=by
 unfold callWith;refine wj (wk (w5 (PyProof.Rows.evalArgs_kw2 (Q:=λa b=>wq M A (call (.builtin T) ([]++a.pos) a.kw) Q E b) i h l) (λa b g=>wj (wpAny_standAt ?_)) λ_ _ x=>x));simp only[d,j,Bool.or_false];exact wj (w9 (wj (w5 g (λr f k=>wj (wk (wpAny_point (w9 k)))) λ_ _ x=>x)))
def vm{r q:vW}{j:Int}{t u v:Tok}{n:Nat}{Q:vB->vk->Prop}(J:A.handled=uB)(K:IsRange s.heap r 0 j 1 t u v)(c:Builtin.Range.small 0 j 1=uC)(F:Builtin.Range.rangeSize 0 j 1=n)(B:n<64)
  (h:∀D g tk vs,s.heap.objs.size<=D->g.get? D=uA (seqObj "list" vs.toArray 0)->(∀b o,s.heap.get? b=uA o->g.get? b=uA o)->Vals ((zW n).map λ(i:Nat)=>V.int (i:Int)) vs->
   wq (vT prog w) A.in1.in1 (PyProof.Rows.ksk_tree D (.ref q) uC) (λf s'=>f=PySem.Fin.done (.ret .none)/\Q (.ref D) s') E {s with heap:=g,toks:=tk}):
  wq (vT prog w) A (call (.builtin "sorted") [.ref r] [("key",.ref q),("reverse",.bool uC)]) Q E s:=by
 refine call_function_entry_kw kind_sorted plain_sorted entry_sorted (PyProof.Rows.ksk_s2 _ _ _) ?_;unfold Builtin.«sorted»;refine wj (w9 ?_);refine wj (ur J K c F (by lia) λd tk vs I l z=>?_);have k:vs.length=n:=by have:=z.length;simpa using this.symm
 refine wj (wpAny_newList ?_ (by rw[k,wQ];lia));have y:(d.push (seqObj "list" vs.toArray 0)).get? d.objs.size=uA (seqObj "list" vs.toArray 0):=zA _ rfl;refine wj (wk (wpAny_call_entry_kw slot_list_sort ⟨_,y,rfl⟩ entry_list_sort ?_ (PyProof.Rows.ksk_l2 _ _ _)));rw[PyProof.Rows.ksk_t2];exact w5 (h d.objs.size (d.push (seqObj "list" vs.toArray 0)) tk vs (jU l) y (λb o e=>zJ _ (I b o e)) z) (λf s' C=>(⟨_,C.1,w9 ⟨_,rfl,C.2⟩⟩)) λ_ _ x=>x
end
section
variable{X:Cx}{wS:List (vW×Obj)}{σ:St}{H:Hp}{s:vk}{h':Heap}{m:Str->Option vB}
def Xy(I:Inv X wS σ H s)(f:PD X wS H q)(k:∀b o,b≠X.env.locals->b≠q->s.heap.get? b=uA o->h'.get? b=uA o)(C:∀o,s.heap.get? q=uA o->∃r,h'.get? q=uA r)(ns:∀m,s.heap.Ns X.env.locals m->h'.Ns X.env.locals m):Inv X wS σ H {s with heap:=h'}:=by
 have t:∀c w,H c=uA w->c≠X.env.locals:=λc w e z=>by rw[z,I.free]at e;cases e
 have y:∀c w,H c=uA w->c≠q:=λc w e z=>by rw[z,f.1]at e;cases e
 refine I.step (ch:=[q]) (λb i=>?_) (λb o p _ g e _=>k b o p (λz=>g (by simp[z])) e) (λb o p _ g e _=>⟨o.slots,k b o p (λz=>g (by simp[z])) e⟩) (λ_ _ _ _ n=>n) (λb o g e=>?_) (λ_ _ e=>e) (λ_ _ _ e=>e)
  (λb F e=>⟨#[],by rw[e];simp⟩) ns (λb u e=>?_) I.bare
 .have l:b=q:=by simpa using i
  subst l;exact⟨f.2.2.2.1,f.2.1,f.2.2.2.2.1,f.2.2.2.2.2⟩
 .by_cases i:b=X.env.locals
  .obtain⟨m,B,_⟩:=I.loc;obtain⟨r,_,_,j,_⟩:=ns m B;exact⟨r,i▸j⟩
  by_cases h:b=q
  .subst h;exact C o e
  exact⟨o,k b o i h e⟩
 refine(I.SA b u e).ZF (λc v g z=>k c v ?_ ?_ z) (λ_ z=>z) λ_ _ z=>z
 .rcases g with z|z
  .rw[z];exact t b u e
  exact t c _ z
 .rcases g with z|z
  .rw[z];exact y b u e
  exact y c _ z
def vp(I:Inv X wS σ H s)(un:Un (OI X.stack) [] H H' s.heap h2)(h:s.heap.Ns X.env.locals m):h2.Ns X.env.locals m:=by
 obtain⟨o,c,g,e,d,r⟩:=h;by_cases b:X.env.locals∈OI X.stack
 .obtain⟨j,i⟩:=un.slot _ o e I.free b (by simp);exact⟨_,c,g,i,d,r⟩
 exact⟨o,c,g,un.keep _ o e I.free b (by simp),d,r⟩
def cq(I:Inv X wS σ H s)(un:Un (OI X.stack) [] H H' s.heap h2)(f:PD X wS H q)(e:s.heap.get? q=uA o):h2.get? q=uA o/\PD X wS H' q:=by
 have b:q∉OI X.stack:=λz=>by
  rcases zw.mp (I.Nt q z)with z|z
  .exact f.2.1 z
  exact f.2.2.1 z
 exact⟨un.keep q o e f.1 b (by simp),un.free q o e f.1 (by simp),f.2⟩
end
def H7(te:DE)(caps:List Nat)(S:PB):Nat->Nat->DH->R (List Int)
 |0,_,G=>.ok [] G
 |n+1,i,G=>(te (I7 caps (.int i) S) G).bind λd G1=>match d with
  |.int k=>(H7 te caps S n (i+1) G1).bind λks G2=>.ok (k::ks) G2
  |_=>.bad
structure KS (X:Cx) (wS:List (vW×Obj)) (σ:St) (D kS:vW) (e1:Nat) (m:Str->Option vB) (a b:Wd) (G:DH) (ks:List vB) (kz:List Int) (e:Nat) (s:vk):Prop where
 inv:Inv X wS σ b.H s
 ext:Ext a b
 y?:XA b G
 ns:s.heap.Ns X.env.locals m
 k:s.heap.get? kS=uA (seqObj "list" ks.toArray e)
 d:s.heap.get? D=uA (seqObj "list" #[] e1)
 fk:PD X wS b.H kS
 fd:PD X wS b.H D
 ne:D≠kS
 z?:X.s₀.heap.objs.size<=D
 iz:IntsAre ks kz
section
variable{X:Cx}{wS:List (vW×Obj)}{σ:St}{N:List Str}{scope:vx}{caps:List Nat}{x:Str}{f:vW}{A:vK}{a:Wd}{S:PB}{body:vY}{te:DE}{params:Arguments}{pm JI:vB}{c':vW}{ob oc:Obj}{VQ:Array vB}{t0:Tok}{E:XK}
 {Dd kS:vW} {e1:Nat} {m:Str->Option vB} {h₀:Heap} {Q:VK}
theorem Xo(cs:ZB X N scope 1 caps)(hN:N[0]?=uA x)(hx:scope.names.lookup x=uA .local)(L:scope.isCoroutine=uD)(y:scope.isGenerator=uD)(hk:a.K=X.K)(rS:RB a S σ)(hp:(f,ob)∈wS)
  (hd:ob.data=.func (ze "<lambda>" Df params body scope (Cu X.env scope.names []) pm (.ref c') JI)) (MS:a.H c'=uA (.WC oc (.own 0))) (Y:oc.data=.fields VQ) (OS:VQ[1]?=uA (.str Df t0))
  (j:∀u,bindArgs (ze "<lambda>" Df params body scope (Cu X.env scope.names []) pm (.ref c') JI) ⟨[u],[]⟩=pure [(x,u)])
  {k:Nat} (hr:GB (k+1) A) (U:A.frames=uA X.stack) (he:∀s H,GB k (A.deeper (Ko X Df scope f (.ref c') s.heap.objs.size))->QE (Mp X N Df scope f (.ref c') A s H) E0 body te)
  (Z:h₀=Att.Jq h₀) {n0:Nat} {g:List Int->DH->R D} {M:List vB->Nat->vk->Prop}
  (fin:∀(b:Wd)(G:DH)(ks:List vB)(kz:List Int)(e:Nat)(s:vk),KS X wS σ Dd kS e1 m a b G ks kz e s->lN kz=n0->out E0 b (g kz G) Q->M ks e s):
  ∀(r:List vB)(i:Nat)(b:Wd)(G:DH)(ks:List vB)(kz:List Int)(e:Nat)(s:vk),KS X wS σ Dd kS e1 m a b G ks kz e s->lN kz+lN r=n0->(∀(t:Nat)(v:vB),r[t]?=uA v->∃tk,v=Value.int ((i+t:Nat):Int) tk)->
   out E0 b ((H7 te caps S (lN r) i G).bind λn l=>g (kz++n) l) Q->PySem.W.KatKeys X.prog X.w A h₀ X.env.locals m kS (.ref f) M r ks e s
 |[],i,b,G,ks,kz,e,s,K,hz,hv,h=>by refine .nil (fin b G ks kz e s K hz ?_);have h':out E0 b (g (kz++[]) G) Q:=h;rw[qV]at h';exact h'
 | v::r,i,b,G,ks,kz,e,s,K,hz,hv,h=>by
  obtain⟨tk,rfl⟩:=hv 0 v rfl;have hcr:s.heap.CodeRec (.ref c') Df:=by obtain⟨e3,_⟩:=K.inv.SA c' _ (K.ext.WC _ _ _ MS);exact⟨c',oc,VQ,t0,rfl,e3,Y,OS⟩
  have h1:out E0 b ((te (I7 caps (.int (i:Int)) S) G).bind λd F=>(match d with
    |.int k=>(H7 te caps S (lN r) (i+1) F).bind λn l=>g (kz++(k::n)) l
    |_=>.bad)) Q:=by
   have J:out E0 b (((te (I7 caps (.int (i:Int)) S) G).bind λd F=>(match d with
    |.int k=>(H7 te caps S (lN r) (i+1) F).bind λks l=>.ok (k::ks) l
    |_=>.bad)).bind λn l=>g (kz++n) l) Q:=h
   rw[R.bind_assoc]at J;refine cast (congrArg (λz=>out E0 b z Q) ?_) J
   congr 1
   funext d F
   cases d<;>first|rfl|(show((H7 te caps S (lN r) (i+1) F).bind _).bind _=_;rw[R.bind_assoc];rfl)
  refine .cons (wpAny_call (vM (ug (E:=E0) cs hN hx L y K.inv (K.ext.k.trans hk) K.y? (rS.mono K.ext) ((K.inv.pin _ (zG _ hp)).1) hd hcr (j _) hr U (he s b.H) (d:=.int (i:Int)) (v:=.int (i:Int)) ⟨tk,rfl⟩ rfl (Eb h1)) λq T P=>?_));cases q with
  |error e=>exact .elim P
  | ok fl=>
   cases fl with
   | ret u=>
    obtain⟨v',H',os,bare,un,SA,ru,b',d',G',rfl,x',sm',rd',_,h3⟩:=P;have I2:Inv X wS σ b'.H T:=by obtain⟨hh,g1,d1,t1,os1⟩:=T;obtain rfl:os1=s.os:=os;exact K.inv.call un SA bare (λb z=>absurd z (by simp))
    have n2:=vp K.inv un K.ns;obtain⟨k2,C⟩:=cq K.inv un K.fk K.k;obtain⟨d2,O⟩:=cq K.inv un K.fd K.d;cases d' with
    | int z=>
     cases(rd');obtain⟨tz,rfl⟩:=ru;refine⟨(kS,seqObj "list" ks.toArray e)::Att.ledger T.heap X.env.locals kS,_,⟨n2,λb o e=>?_,?_⟩,λp hp=>?_,.head λp hp=>(Att.Gj.mp hp).2.1,λJ c F2 N2=>?_⟩
     .rw[Z,Att.Jx]at e;cases e
     .rw[Z];exact j6 _
     .rcases zw.mp hp with rfl|hp
      .exact⟨k2,C.2.1,Z▸Att.Jx _ _⟩
      obtain⟨q1,q2,q3⟩:=(Att.Gj).mp hp;exact⟨q3,q1,Z▸Att.Jx _ _⟩
     have B:∀b o,b≠X.env.locals->b≠kS->T.heap.get? b=uA o->J.get? b=uA o:=λb o h1 WQ e=>(N2 (b,o) (zV _ (Att.Gj.mpr ⟨h1,WQ,e⟩))).1
     have I:=(N2 (kS,seqObj "list" (ks++[Value.int z tz]).toArray c) zy).1;have nsA:∀m',T.heap.Ns X.env.locals m'->J.Ns X.env.locals m':=λm' RS=>by rw[RS.eq_nsMap,<-n2.eq_nsMap];exact F2.ns
     refine Xo cs hN hx L y hk rS hp hd MS Y OS j hr U he Z fin r (i+1) b' G' (ks++[Value.int z tz]) (kz++[z]) c _ ⟨Xy I2 C B (λ_ _=>⟨_,I⟩) nsA,K.ext.trans x',sm',F2.ns,I,B Dd _ O.2.1 K.ne d2,C,O,K.ne,K.z?,PyProof.Rows.ksk_snoc K.iz⟩ (by rw[zE]at hz;rw[zH,xW];lia) (λt v Tl=>?_) ?_
     .obtain⟨tk',e⟩:=hv (t+1) v (by simpa using Tl);exact⟨tk',by rw[e];congr 1;lia⟩
     .refine cast (congrArg (λz=>out E0 b' z Q) ?_) h3;show((H7 te caps S (lN r) (i+1) G').bind λn l=>g (kz++z::n) l)=_
      congr 1
      funext n l;simp
    |_=>exact h3.elim
   |_=>exact .elim P
end
end _D
namespace _D
open PySem PySem.Spec _L
open PyProof.Rows hiding St
open PySem.W (KatKeys KatFin katRev KatBack)
section
variable{prog:vj}{w:vC}{A:vK}{E:vB->vk->Prop}{s:vk}{h₀:Heap}{L a kS:vW}{m:Str->Option vB}{P:PySem.Fin->vk->Prop}
def vr(c:lN ks=1)(h:KatFin h₀ L m kS a ks e e1 [v] (λd=>P (.done (.ret .none)) d) s):wq (vT prog w) A (ksk_end a uC [v].toArray e1 (.ref kS) ks.toArray) P E s:=by
 obtain⟨k,rfl⟩:∃k,ks=[k]:=by
  match ks,c with
  |[k],_=>exact⟨k,rfl⟩
 unfold ksk_end;dsimp only;refine wj (wpAny_rule ?_);have b: [v].toArray.size<2:=by simp
 rw[if_pos b,if_pos b];refine wj (w9 ?_);rw[StateT.run_pure];refine wj (w9 ?_);dsimp only;exact PySem.W.kat_tail (out:=[v]) (by simp[arrOf]) (by simp) (by simp) rfl h
def vt(ho:s.heap.get? a=uA (seqObj "list" [v].toArray n))(hL:L<s.heap.objs.size)
  (h:∀p j h',a<p->s.heap.objs.size<=p->h'.get? p=uA (seqObj "list" #[] 0)->h'.get? a=uA (seqObj "list" #[] j)->(∀b o,b≠a->s.heap.get? b=uA o->h'.get? b=uA o)->
   KatKeys prog w A h₀ L m p f (λks e s'=>KatFin h₀ L m p a ks e j [v] (λK=>P (.done (.ret .none)) K) s') [v] [] 0 {s with heap:=h'}):
  wq (vT prog w) A (ksk_tree a f uC) P E s:=by
 obtain⟨j,r⟩:∃j,(s.heap.update a (.mapSeq λ_=>(#[]:Array vB))).get? a=uA (seqObj "list" #[] j):=⟨_,get?_update_seq ho λ_=> #[]⟩;unfold ksk_tree;refine wj (listItems_at ho rfl (wj (listUpdate_at ho rfl ?_ (by rw[zk,wQ];simp) (j6 _))));refine wj (seqEpoch_at r rfl (wj (wpAny_newTuple (wj (wpAny_newList (wk ?_) (j6 _))) (by rw[wQ];simp))))
 generalize B:(s.heap.update a (.mapSeq λ_=>(#[]:Array vB))).push {cls:=.type "tuple",data:=.seq [v].toArray.toList.toArray}=i;have I:i.objs.size=s.heap.objs.size+1:=by rw[<-B,size_push',Heap.size_update]
 have T:∀b o,b≠a->s.heap.get? b=uA o->i.get? b=uA o:=λb o z q=>by rw[<-B];exact zJ _ ((jK.update s.heap a (.mapSeq λ_=>(#[]:Array vB))).extBut b o z q)
 have O:i.get? a=uA (seqObj "list" #[] j):=by rw[<-B];exact zJ _ r
 unfold ksk_rest;refine wj (wpAny_rule ?_);rw[List.forIn_toArray,xw];refine wj (wj (wj (wpAny_attempt (w5 (h i.objs.size j (i.push (seqObj "list" #[] 0)) (by rw[I];exact xK (zD ho)) (I▸jR _) (zA _ rfl) (zJ _ O) λb o z q=>zJ _ (T b o z q)) (λk t hk=>?_) λ_ _ Z=>Z.elim))))
 obtain⟨y,g,X,C,U,c⟩:=hk;obtain⟨S,F,J,N,Q,Y⟩:=U.split;rw[J]at C;have u:=C (i.objs.size,seqObj "list" (List.toArray []) 0) (zG _ (.head _))
 have H:=jK.update t.heap i.objs.size (.mapSeq (·.push k))
 obtain⟨x,l⟩:∃x,(t.heap.update i.objs.size (.mapSeq (·.push k))).get? i.objs.size=uA (seqObj "list" [k].toArray x):=⟨_,get?_update_seq u.1 (·.push k)⟩
 dsimp only;refine wj (listUpdate_at u.1 rfl ?_ (j6 _) (by rw[wQ];simp));refine w9 (w9 ?_);exact wj (listItems_at l rfl (vr rfl (c _ x (PySem.W.kas_fr X H u.2.1 u.2.2) (by rw[N];exact PySem.W.news_set C Q Y H l))))
end
end _D
namespace _D
open PySem PySem.Spec _L
open PyProof.Rows hiding St
theorem Zb:∀{ks:List vB}{kz:List Int},IntsAre ks kz->∀i,i<lN kz->∃t,ks.getD i Value.none=.int (kz.getD i 0) t
 |_,_,.nil,i,h=>absurd h (xR _)
 |_,_,.cons n t r,0,_=>⟨t,rfl⟩
 |_,_,.cons n t r,i+1,h=>Zb r i (xJ h)
theorem cw:∀{ks c:List vB}{kz b:List Int},IntsAre ks kz->IntsAre c b->IntsAre (ks++c) (kz++b)
 |_,_,_,_,.nil,h=>h
 |_,_,_,_,.cons n t r,h=>.cons n t (cw r h)
theorem cx:∀{ks:List vB}{kz:List Int},IntsAre ks kz->IntsAre ks.reverse kz.reverse
 |_,_,.nil=>.nil
 |_,_,.cons n t r=>by rw[jL,jL];exact cw (cx r) (.cons n t .nil)
theorem Vals.rev:∀{vs:List V}{us:List vB},Vals vs us->Vals vs.reverse us.reverse
 |_,_,.nil=>.nil
 |_,_,.cons r b=>by rw[jL,jL];exact(Vals.rev b).append (.cons r .nil)
theorem cy:∀(n i:Nat),HA a (An i n) ((qU i n).map λ(k:Nat)=>V.int (k:Int))
 |0,i=>rfl
 |n+1,i=>by rw[jT,zY,Eu];exact⟨_,_,rfl,rfl,by have:=cy (a:=a) n (i+1);simpa using this⟩
section
variable{X:Cx}{wS:List (vW×Obj)}{σ:St}{N:List Str}{scope:vx}{caps:List Nat}{x:Str}{f:vW}{A:vK}{a:Wd}{S:PB}{body:vY}{te:DE}{params:Arguments}{pm JI:vB}{c':vW}{ob oc:Obj}{VQ:Array vB}{t0:Tok}
 {Dd kS:vW} {e1:Nat} {m:Str->Option vB} {h₀:Heap} {Q:VK}
def cz(K:KS X wS σ Dd kS e1 m a b G ks kz e s)(h0:h₀=Att.Jq h₀)(r:HA b ys ws)(v:Vals ws us)(hz:us.length<64)
  (h:out E0 b (.ok (.ref G.length) (G++[.lst ys])) Q):PySem.W.KatFin h₀ X.env.locals m kS Dd ks e e1 us (λs4=>EP X wS σ Q (.ref Dd) s4) s:=by
 have g0:∀b,h₀.get? b=uB:=λb=>h0▸Att.Jx _ _
 have ab:h₀.objs.size<=X.env.locals:=h0▸j6 _;refine .intro (news:=(kS,seqObj "list" ks.toArray e)::Att.ledger s.heap X.env.locals kS) ⟨K.ns,λb o e=>(by rw[g0]at e;cases e),ab⟩ (λp hp=>?_) (.head λp hp=>((Att.Gj).mp hp).2.1) λh2 c F2 N2=>?_
 .rcases zw.mp hp with rfl|hp
  .exact⟨K.k,K.fk.2.1,g0 _⟩
  obtain⟨q1,q2,q3⟩:=(Att.Gj).mp hp;exact⟨q3,q1,g0 _⟩
 have SS:∀{h3:Heap},h3.Ns X.env.locals m->∀m',s.heap.Ns X.env.locals m'->h3.Ns X.env.locals m':=λ{h3}hh m' RS=>by have e1:=K.ns.eq_nsMap;rw[RS.eq_nsMap,<-e1];exact hh
 have XQ:∀b o,b≠X.env.locals->b≠kS->s.heap.get? b=uA o->h2.get? b=uA o:=λb o q1 q2 e=>(N2 (b,o) (zV _ (Att.Gj.mpr ⟨q1,q2,e⟩))).1
 refine .intro (news:=(Dd,seqObj "list" #[] e1)::Att.ledger h2 X.env.locals Dd) F2 (λp hp=>?_) (.head λp hp=>((Att.Gj).mp hp).2.1) λh3 c3 F3 N3=>?_
 .rcases zw.mp hp with rfl|hp
  .exact⟨XQ Dd _ K.fd.2.1 K.ne K.d,K.fd.2.1,g0 _⟩
  obtain⟨q1,q2,q3⟩:=(Att.Gj).mp hp;exact⟨q3,q1,g0 _⟩
 have YW:=(N3 (Dd,PySem.W.listOf us.toArray c3) zy).1;have ns3:∀m',h2.Ns X.env.locals m'->h3.Ns X.env.locals m':=λm' RS=>by rw[RS.eq_nsMap,<-F2.ns.eq_nsMap];exact F3.ns
 have I3:=Xy (Xy K.inv K.fk XQ (λ_ _=>⟨_,(N2 (kS,seqObj "list" #[] c) zy).1⟩) (SS F2.ns)) K.fd (λb o q1 q2 e=>(N3 (b,o) (zV _ (Att.Gj.mpr ⟨q1,q2,e⟩))).1) (λ_ _=>⟨_,YW⟩) ns3;have XW:=K.fd.2.2.2.1.symm;have Zl:X.s₀.heap.objs.size<=Dd:=by
  rcases XW with z|z
  .exact z
  exact K.z?
 exact⟨.ref Dd,_,Z9 I3 K.fd.1 Zl K.fd.2.1 K.fd.2.2.2.2.1 K.fd.2.2.2.2.2 (o:=.lst ws) ⟨by rw[v.length,wQ];lia,us,c3,v,YW⟩,rfl,J8 K.y? r h _ K.fd.1⟩
end
section
variable{X:Cx}{wS:List (vW×Obj)}{σ:St}{N:List Str}{scope:vx}{caps:List Nat}{x:Str}{f:vW}{A:vK}{a:Wd}{S:PB}{body:vY}{te:DE}{params:Arguments}{pm JI:vB}{c':vW}{ob oc:Obj}{VQ:Array vB}{t0:Tok}{Q:VK}
def dA(v:Vals ((zW n).map λ(i:Nat)=>V.int (i:Int)) vs)(t:Nat)(u:vB)(h:vs[t]?=uA u):∃tk,u=Value.int ((0+t:Nat):Int) tk:=by
 have c:vs.length=n:=by have:=v.length;simpa using this.symm
 have d:t<n:=by rw[<-c];exact(zX.mp h).1
 obtain⟨e,b,r⟩:=v.get (by rw[zv,qF d];rfl);rw[h]at b;cases b;obtain⟨tk,rfl⟩:=r;exact⟨tk,by simp⟩
def wm(cs:ZB X N scope 1 caps)(hN:N[0]?=uA x)(hx:scope.names.lookup x=uA .local)(Y:scope.isCoroutine=uD)(J:scope.isGenerator=uD)(hk:a.K=X.K)(rS:RB a S σ)(hp:(f,ob)∈wS)
  (hd:ob.data=.func (ze "<lambda>" Df params body scope (Cu X.env scope.names []) pm (.ref c') JI)) (MS:a.H c'=uA (.WC oc (.own 0))) (MO:oc.data=.fields VQ) (OS:VQ[1]?=uA (.str Df t0))
  (r:∀u,bindArgs (ze "<lambda>" Df params body scope (Cu X.env scope.names []) pm (.ref c') JI) ⟨[u],[]⟩=pure [(x,u)])
  {k:Nat} (hr:GB (k+1) A) (A?:A.frames=uA X.stack) (he:∀s H,GB k (A.deeper (Ko X Df scope f (.ref c') s.heap.objs.size))->QE (Mp X N Df scope f (.ref c') A s H) E0 body te)
  {s:vk} {O:Heap} {tk n:Nat} {t:vW} {vs:List vB} {G:DH} (I:Inv X wS σ a.H s) (sm:XA a G) (T:s.heap.objs.size<=t) (oD:O.get? t=uA (seqObj "list" vs.toArray 0)) (k1:∀b o,s.heap.get? b=uA o->O.get? b=uA o) (v:Vals ((zW n).map λ(i:Nat)=>V.int (i:Int)) vs) (n1:1<=n) (n64:n<64)
  (h:out E0 a ((H7 te caps S n 0 G).bind λks d=>.ok (.ref d.length) (d++[.lst (Fj ks)])) Q) {E:vB->vk->Prop}:
  wq (vT X.prog X.w) A (ksk_tree t (.ref f) uC) (λfin s'=>fin=PySem.Fin.done (.ret .none)/\EP X wS σ Q (.ref t) s') E {s with heap:=O,toks:=tk}:=by
 have hl:vs.length=n:=by have:=v.length;simpa using this.symm
 obtain⟨m,hn,_⟩:=id I.loc;have q:=hn.keeps k1;have fD:=I.Hj T (I.SA.fresh T);have SS:∀{h3:Heap},h3.Ns X.env.locals m->∀m',s.heap.Ns X.env.locals m'->h3.Ns X.env.locals m':=λ{h3}hh m' RS=>by have p:=hn.eq_nsMap;have e2:=RS.eq_nsMap;rw[e2,<-p];exact hh
 have rg:∀b:Wd,HA b (An 0 n) ((zW n).map λ(i:Nat)=>V.int (i:Int)):=λb=>by have:=cy (a:=b) n 0;rw[<-List.range_eq_range']at this;exact this
 have start:∀y p B,s.heap.objs.size<=y->t≠y->B.get? y=uA (seqObj "list" #[] 0)->B.get? t=uA (seqObj "list" #[] p)->(∀b o,b≠X.env.locals->s.heap.get? b=uA o->B.get? b=uA o)->B.Ns X.env.locals m->
   KS X wS σ t y p m a a G [] [] 0 {s with heap:=B,toks:=tk}:=λy p B F q2 q3 q4 q5 q6=>
  ⟨tY I q5 (SS q6),.refl a,sm,q6,q3,q4,I.Hj F (I.SA.fresh F),fD,q2,zN I.sz T,.nil⟩
 have old:∀b o,s.heap.get? b=uA o->b≠t:=λb o e=>qZ (zj (zD e) T)
 have B:=hl▸h;by_cases Fm:n<2
 .have IY:n=1:=by lia
  subst IY;obtain⟨u,rfl⟩:∃u,vs=[u]:=by
   match vs,hl with
   |[u],_=>exact⟨u,rfl⟩
  refine vt (h₀:=Att.Jq O) (m:=m) oD q.lt λy p h2 F q2 q3 q4 q5=>?_
  refine Xo (n0:=1) (g:=λks d=>R.ok (D.ref (jS d)) (d++[DO.lst (Fj ks)])) cs hN hx Y J hk rS hp hd MS MO OS r hr A? he rfl (λb d ks L e s2 K l hq=>?_) [u] 0 a G [] [] 0 _
   (start y p h2 (zN T (jU F)) (qZ F) q3 q4 (λb o _ e=>q5 b o (old b o e) (k1 b o e)) (q.at λo e=>q5 _ o (Ne.symm fD.2.1) e)) rfl (dA v) B
  have es:Fj L=An 0 1:=by unfold Fj;rw[l,if_pos (by decide)]
  rw[es]at hq;have:=cz (h₀:=Att.Jq O) K rfl (rg b) v (by simp) hq;exact this.mono λs4 z=>⟨rfl,z⟩
 refine PySem.W.kat_keyed (Att.nv q) (news:=Att.ledger O X.env.locals t) ?_ oD fD.2.1 (Att.Jx _ _) (λ⟨_,_⟩ hp=>(Att.Gj.mp hp).2.1) (by lia) (by lia) λy p h2 F2 N2 F q2=>?_
 .rintro⟨b,o⟩ hp;obtain⟨n1,n2,e⟩:=Att.Gj.mp hp;exact⟨e,n1,Att.Jx _ _⟩
 refine Xo (g:=λks d=>R.ok (D.ref (jS d)) (d++[DO.lst (Fj ks)])) cs hN hx Y J hk rS hp hd MS MO OS r hr A? he rfl (λb d ks L e s2 K l hq=>?_) vs 0 a G [] [] 0 _ (start y p h2 (zN T (jU F)) (qZ F) (N2 _ zy).1 (N2 _ (zV _ zy)).1 (λb o hb e=>(N2 (b,o) (zV _ (zV _ (Att.Gj.mpr ⟨hb,old b o e,k1 b o e⟩)))).1) F2.ns) (by simpa using hl) (dA v) B
 have hks:=K.iz.length▸l;have es:Fj L=((Hy (HP L.reverse) (zi n)).toList.map λi=>(An 0 n).reverse.getD i .KA).reverse:=by unfold Fj;rw[l,if_neg Fm]
 rw[es]at hq;rw[PyProof.Rows.ksk_kind K.iz (by rw[zk,hks];lia)];refine w9 ?_;rw[hl];have M:0<n:=by lia
 refine Zm (lt:=HP L.reverse) (λi j P hj C hC=>?_) (Yt M) ?_
 .unfold PySem.W.kas_ask u5;rw[if_pos rfl];have rz:=cx K.iz;obtain⟨t1,p⟩:=Zb rz i (by simpa[l]using P);obtain⟨t2,e2⟩:=Zb rz j (by simpa[l]using hj);rw[p,e2];exact PySem.W.kat_lt_int hC
 .have Z:HD n (Hy (HP L.reverse) (zi n)):=Xx (Yt M);have B?:∀i∈(Hy (HP L.reverse) (zi n)).toList,i<n:=λi P=>Z.lt (by simpa using P)
  have hsz:(Hy (HP L.reverse) (zi n)).size=n:=by have:=Z.2.size_eq;simpa using this
  unfold u5;rw[if_pos rfl,if_pos rfl];have:=cz (h₀:=Att.Jq O) K rfl (.rev (cP (rg b).rev _ λi P=>by simpa[An]using B? i P)) (Vals.rev (cQ (Vals.rev v) _ λi P=>by simpa using B? i P)) (by simpa[hsz]using n64) hq;exact this.mono λs4 z=>⟨rfl,z⟩
end
section
open Classical in
def Pu(C m:Str)(tn:DA)(caps:List Nat)(te:DE):DE:=λS G=>(tn S G).bind λds G1=>match ds with
 |[.int j]=>if(1<=j/\j<64)/\DO.tab C m∈G1 then(H7 te caps S j.toNat 0 G1).bind λks G2=>.ok (.ref (lN G2)) (G2++[.lst (Fj ks)])else .bad
 |_=>.bad
section
variable{X:Cx}{N:List Str}{scope:vx}{caps:List Nat}{x:Str}{body:vY}{te:DE}{params:Arguments}{e:vY}{tn:DA}{p p' pos pos' lp kp kp' cp:Pos}{C m:Str}{cj:Nat}
def wt(hc:X.calm=uC)(hg:Gl X "sorted")(hm:X.mg "sorted"=uB)(hg2:Gl X "range")(hm2:X.mg "range"=uB)(ha:QA X E0 [e] tn)(cs:ZB X N scope 1 caps)(hN:N[0]?=uA x)(hx:scope.names.lookup x=uA .local)(hco:scope.isCoroutine=uD)(U:scope.isGenerator=uD)
  (l:∀(cl:List (Str×vW))(pm T:vB)(J:vW)(u:vB),bindArgs (ze "<lambda>" Df params body scope cl pm (.ref J) T) ⟨[u],[]⟩=pure [(x,u)])
  (hq:X.env.qual++"<lambda>"=Df) (HJ:defaultsOf params X.env=([],[])) (B:OM X.base X.mg) (q:∀c P,TabAt X.K C m c P->X.env.code=.ref c) (hr:GB (k+3) X.A)
  (he:∀f J A s H,GB k (A.deeper (Ko X Df scope f (.ref J) s.heap.objs.size))->QE (Mp X N Df scope f (.ref J) A s H) E0 body te)
  (hs:wW [e] X.env=[(uD,eval e X.env)]:=by rfl) (w:wW [.Call (.Name "range" p') [e] [] pos'] X.env=[(uD,eval (.Call (.Name "range" p') [e] [] pos') X.env)]:=by rfl):
  QE X E0 (.Call (.Name "sorted" p) [.Call (.Name "range" p') [e] [] pos'] [⟨uA "key",.Lambda params body scope lp,kp⟩,⟨uA "reverse",.Constant (.bool uC) cj cp,kp'⟩] pos) (Pu C m tn caps te):=by
 intro i s σ H Q I h;obtain⟨a,S,G,hk,rfl,sm,r,h⟩:=h;refine wz (Hv I hg hm tZ (ut rfl ?_ (by rw[w];rfl) rfl w));rw[w];refine Calls.spliced_cons (Call_ (Hv I hg2 hm2 vf (qa (YA (ha pos' i s σ a.H _ I ⟨a,S,G,hk,rfl,sm,r,(J9 h).imp λ_ _ z=>z⟩) λus g zz=>?_) hs rfl)));obtain⟨vs,H1,Z,r1,q1⟩:=zz;obtain⟨b,ds,G1,rfl,x1,O,rd,-,Y⟩:=q1;split at Y
 rotate_left
 .exact Y.elim
 rename_i j;split at Y
 rotate_left
 .exact Y.elim
 rename_i hj;obtain⟨⟨j1,j2⟩,M⟩:=hj;obtain⟨v,rfl,rv⟩:=KD rd;cases(rv);obtain⟨u,rfl,ru⟩:=r1.one;obtain⟨t,rfl⟩:=ru;refine call_range_1 (Calls.spliced_nil ?_)
 have hsz:Builtin.Range.rangeSize 0 j 1=(j.toNat:Int):=by rw[rangeSize_one];split <;> lia
 have kb:=x1.k.trans hk;have I2:=Z.kept (t':=g.toks+1+1) (h':=g.heap.push {cls:=.type "range",data:=.fields #[.int 0 g.toks,.int j t,.int 1 (g.toks+1)]}) λb o e=>zJ _ e
 generalize n:({cls:=.type "range",data:=.fields #[.int 0 g.toks,.int j t,.int 1 (g.toks+1)]}:Obj)=ro at*;have I3:Inv X ((g.heap.objs.size,ro)::i) σ b.H {g with heap:=g.heap.push ro,toks:=g.toks+1+1}:=I2.Gm λp hp=>by
  rcases zw.mp hp with rfl|hp
  .exact⟨by rw[<-n];exact zA _ rfl,Z.SA.fresh (zx _),jw Z.lt,Z.YL (zx _),λv z=>by rw[<-n]at z;cases z⟩
  exact I2.pin p (zG _ hp)
 obtain⟨ti,hti⟩:=List.getElem?_of_mem M;obtain⟨c,P,ta,tok⟩:=O.obj ti _ hti;rw[kb]at ta;have ehd:zh X.K c P=uC:=by obtain⟨_,_,_,_,_,_,_,_,_,_,z⟩:=ta;exact z
 refine wpAny_evalAll_cons (wj (uo I3 (W9 (cs.cells I3.ok)) (q c P ta) ehd tok B hq HJ λb2 f J T ob oc VQ t0 s2 L sm2 I4 hob MS MO OS=>wj (wpAny_standAt (w9 ?_))));refine wpAny_evalAll_cons (wj (YA (Zq (E:=E0) _ s2 σ b2.H (λv H'=>v=.bl uC/\∃y:Wd,y.H=H'/\Ext b2 y/\XA y G1) I4 ⟨b2,S,G1,L.k.trans kb,rfl,sm2 G1 O,(r.mono x1).mono L,λy v F s3 r3=>⟨r3,y,rfl,F,s3⟩⟩) λu3 s3 h3=>wj (wpAny_standAt (w9 (wpAny_evalAll_nil ?_)))))
 obtain⟨v3,H3,I5,ru3,rfl,y,rfl,F,MF⟩:=h3;obtain rfl:u3=Value.bool uC:=ru3;have KU:IsRange s3.heap g.heap.objs.size 0 j 1 g.toks t (g.toks+1):=by have:=(I5.pin (g.heap.objs.size,ro) (zG _ (by simp))).1;rw[<-n]at this;exact this
 refine vm (I.ok.hd hc) KU (small_one (by decide) (by decide) (by lia) (by lia)) hsz (by lia) λD L8 tk vs hD oD k1 vv=>?_
 refine w5 (wm cs hN hx hco U (F.k.trans (L.k.trans kb)) (((r.mono x1).mono L).mono F) zy hob (F.WC _ _ _ MS) MO OS (λu=>l _ _ _ _ u) hr.in1.in1 I5.ok.frames (λs' H'=>he f J X.A.in1.in1 s' H') I5 MF hD oD k1 vv (by lia) (by lia) (Y.mono (L.trans F))) (λfin s4 hf=>⟨hf.1,?_⟩) λ_ _ z=>z
 obtain⟨v4,H4,I6,r4,q4⟩:=hf.2;exact⟨v4,H4,I6.Gm λp hp=>I6.pin p (zG _ (zV _ (zV _ hp))),r4,q4⟩
end
def xl{P:vj}{w:vC}{K:za}{mg:Str->Option vB}{base:Heap}{x qual:Str}{st:vA}{f:vW}{fd:vq}{N ps:List Str}{k:Nat}{b:DS}(F:TL K x qual st f fd)(S:KC N ps (Bs st))
  (ZW:∀(YG:vB)(A:vK)(outer:List Env)(s:vk)(H:Hp)(E:XK),fd.code=YG->GB k (A.deeper (envOfC qual (Bs st) s.heap.objs.size f YG))->UL (Kl MK P w K mg base N qual (Bs st) f YG A outer s H E).TR E0 (Eg st) b):
  ID P w K mg base MK (k+1) f fd ps (lF K (Ax (lN ps) (lN N-lN ps) b)):=by
 obtain⟨o1,o2,o4,o5,o6,o7,c,o8,o9,rfl,lk,hc⟩:=F.ex;exact Zk lk hc S (λ_ _ _ _=>Yg) λA o s H n Q E z h=>⟨_,VH.TR (ZW c A o s H E rfl z),bJ h⟩
end
def QM(T:vW)(H:Hp):Prop:=∀b,H b=uB\/(∃o xs,H b=uA (.WC o (.lst xs)))\/(b=T/\H b=uA (.RF #[]))
theorem xm{P:vj}{w:vC}{K:za}{I mb:Str->Option vB}{k:Nat}{fa a T c:vW}{fd:vq}{x:Str}{sp:Sp}{f:vk}{vs:List vB}{ns:List Int}
  (X:K.In f.heap) (U:f.heap.Ns vS I) (g:f.heap.Ns builtinsNs mb) (Z:∀x:Str,x≠"__name__"->mb x=vL x) (M:f.heap.NoLimit) (hg:f.gens= #[]) (bm:OM f.heap I)
  (J:f.heap.get? a=uA {cls:=.type "list",data:=.seq vs.toArray}) (hi:IntsAre vs ns) (hl:ns.length<=sizeLine) (hr:GB k callerA)
  (C:f.heap.get? T=uA (qg #[])) (hC:zh K c T=uC) (hK:qh K=uC)
  (F:∀l:Heap,K.In l->l.Ns vS I->OM l I->ID P w K I l MK k fa fd [x] sp) (E:∀(s:vk)(u:vB),BindsTo s fd ⟨[u],[]⟩ [(x,u)])
  (hsp:∀H:Hp,QM T H->H T=uA (.RF #[])->OE K H a (ns.map V.int)->sp [.ref a] H (λv _=>v=.bl uC) λ_ _ _=>False):
  codeAny (vT P w) callerA (.call (.ref fa) ⟨[.ref a],[]⟩) (λr s'=>r=.ok (.ret (.bool uC))/\OldK f.heap s'.heap/\s'.os=f.os/\AllBare s'.gens) f:=by
 have rv:=_L.Tu hi;have hKT:K.lookup T=uB:=by
  cases q:K.lookup T with
  |none=>rfl
  |some o=>
   have e:=X T o q;rw[C]at e;cases e;have Y:=j9.mp hK (T,qg #[]) (PySem.W.mem_of_lookupK q);exact absurd (Y) zL
 have N:a≠T:=λz=>by rw[z,C]at J;cases J
 have A:∀H:Hp,QM T H->H T=uA (.RF #[])->OE K H a (ns.map V.int)->ZE P w H f.heap->(∀b,H b≠uB->b=a\/b=T)->(H a≠uB->K.lookup a=uB)->
   codeAny (vT P w) callerA (.call (.ref fa) ⟨[.ref a],[]⟩) (λr s'=>r=.ok (.ret (.bool uC))/\OldK f.heap s'.heap/\s'.os=f.os/\AllBare s'.gens) f:=by
  intro H hO hHT hS SA hA hKa;have i:∀{b:vW}{o:Obj},f.heap.get? b=uA o->H b=uB->(Jk f.heap H).get? b=uA o:=λe n=>kP e n
  have Q:∀{b:vW}{o:Obj},f.heap.get? b=uA o->(∀us n,o.data≠ .seq us n)->(∀us,o.data≠ .fields us)->H b=uB:=λ{b o}e d1 d2=>by
   cases q:H b with
   |none=>rfl
   |some u=>
    rcases hA b (by rw[q];simp)with B|B
    .subst B;rw[J]at e;cases e;exact absurd rfl (d1 _ _)
    subst B;rw[C]at e;cases e;exact absurd rfl (d2 _)
  have t:∀{b:vW}{m:Str->Option vB},f.heap.Ns b m->(Jk f.heap H).Ns b m:=λ{b m}⟨o,es,ep,e,d,r⟩=>⟨o,es,ep,i e (Q e (λ_ _ z=>by rw[d]at z;cases z) λ_ z=>by rw[d]at z;cases z),d,r⟩
  have L:K.In (Jk f.heap H):=λb o e=>i (X b o e) (by
   cases q:H b with
   |none=>rfl
   |some u=>
    rcases hA b (by rw[q];simp)with B|B
    .subst B;rw[hKa (by rw[q];simp)]at e;cases e
    subst B;rw[hKT]at e;cases e)
  have hB:OM (Jk f.heap H) I:=by obtain⟨m1,ob,b1,b2,b3,b4,b5,b6⟩:=bm;exact⟨m1,ob,b1,b2,i b3 (Q b3 (λ_ _ z=>by rw[b6]at z;cases z) λ_ z=>by rw[b6]at z;cases z),b4,b5,b6⟩
  refine vM ((F _ L (t U) hB).run callerA [] f H ⟨[.ref a],[]⟩ [.ref a] [.ref a] _ _ hr ⟨rfl,⟨L,t U,⟨mb,t g,Z⟩,let⟨mc,h1,Y⟩:=M;⟨mc,t h1,Y⟩⟩,λb o e=>kQ e,xq (kO _ _),trivial,λb g=>absurd (show b∈([]:List vW)from g) (by simp),SA,.of_eq hg⟩ (E f (.ref a)) (.cons rfl .nil) (hsp H hO hHT hS)) λr s' h=>?_
  cases r with
  |error e=>exact False.elim h
  | ok fl=>
   cases fl with
   | ret u=>
    obtain⟨v,H',os,O,un,y,r',q⟩:=h;have q':=q;subst q';obtain rfl:u=Value.bool uC:=r';refine⟨rfl,⟨λb o e=>?_,λb o e=>un.there b o e (by simp)⟩,os,O⟩;cases q:H b with
    |none=>exact .inl (un.keep b o e q (by intro z;exact absurd (show b∈([]:List vW)from z) (by simp)) (by simp))
    |some u=>
     rcases hO b with z|⟨ob,xs,z⟩|⟨rfl,z⟩
     .rw[q]at z;cases z
     .have z2:=un.GI b ob _ z;obtain⟨e1,_⟩:=SA b _ z;obtain⟨e2,_⟩:=y b _ z2;rw[e]at e1;cases e1;exact .inl e2
     obtain⟨S,z2⟩:=un.HI b _ z;rw[C]at e;cases e;exact .inr (.inl ⟨((u4 X hC).tab C).isCodeTable,rfl,#[],S,rfl,y b _ z2⟩)
   |_=>exact False.elim h
 cases hk:K.lookup a with
 | some o=>
  have e:=X a o hk;rw[J]at e;cases e;refine A (λb=>if b=T then uA (.RF #[])else uB) (λb=>?_) (if_pos rfl) (.inr ⟨_,vs.toArray,_,hk,rfl,rfl,rfl,by rw[zk,hi.length];exact hl,by simpa using rv⟩) (λb u z=>?_) (λb z=>?_) λz=>absurd (if_neg N) z
  .by_cases g:b=T
   .exact .inr (.inr ⟨g,if_pos g⟩)
   exact .inl (if_neg g)
  .by_cases g:b=T
   .have p:=(if_pos g).symm.trans z;cases p;subst g;exact C
   have p:=(if_neg g).symm.trans z;cases p
  by_cases g:b=T
  .exact .inr g
  exact absurd (if_neg g) z
 | none=>
  refine A (λb=>if b=T then uA (.RF #[])else if b=a then uA (.WC {cls:=.type "list",data:=.seq vs.toArray} (.lst (ns.map V.int)))else uB) (λb=>?_) (if_pos rfl) (.inl (.inr ⟨{cls:=.type "list",data:=.seq vs.toArray},(if_neg N).trans (if_pos rfl)⟩)) (λb u z=>?_) (λb z=>?_) λ_=>hk
  .by_cases g:b=T
   .exact .inr (.inr ⟨g,if_pos g⟩)
   by_cases j:b=a
   .exact .inr (.inl ⟨_,_,(if_neg g).trans (if_pos j)⟩)
   exact .inl ((if_neg g).trans (if_neg j))
  .by_cases g:b=T
   .have p:=(if_pos g).symm.trans z;cases p;subst g;exact C
   by_cases j:b=a
   .have p:=((if_neg g).trans (if_pos j)).symm.trans z;cases p;subst j;exact⟨J,by rw[zq];exact hl,vs,_,rv,J⟩
   .have p:=((if_neg g).trans (if_neg j)).symm.trans z;cases p
  by_cases g:b=T
  .exact .inr g
  .by_cases j:b=a
   .exact .inl j
   exact absurd ((if_neg g).trans (if_neg j)) z
def xn{l:vg}{n k:Nat}{q:vj}{loose:List Str}{XP:(Str->Option vB)->Heap->Prop}{YP:vC->Heap->Prop}{d:DefRec}{K:vC->za}{sp:vC->Sp}{x:Str}{T:vC->vW}
  (L:l.most=uA n) (B:n<=sizeLine) (MR:d.params.defaults=[]) (hr:GB k callerA)
  (hY:∀(w:vC)(h:Heap),YP w h->(K w).In h/\h.get? (T w)=uA (qg #[]))
  (F:∀(w:vC)(i:Str->Option vB)(t:vW)(h:Heap),(K w).In h->h.Ns vS i->i d.name=uA (.ref t)->
   ∃(A:vq)(c:vW),(∀(s:vk)(u:vB),BindsTo s A ⟨[u],[]⟩ [(x,u)])/\zh (K w) c (T w)=uC/\qh (K w)=uC/\
    (∀(H:Hp)(a:vW)(ns:List Int),lN ns<=n->QM (T w) H->H (T w)=uA (.RF #[])->OE (K w) H a (ns.map V.int)->sp w [.ref a] H (λv _=>v=.bl uC) λ_ _ _=>False)/\
    ∀e:Heap,(K w).In e->e.Ns vS i->OM e i->ID l.prog w (K w) i e MK k t A [x] (sp w)):
  u6 q loose XP YP l.row.toRowW d [] (λf vs=>qe f vs):=by
 refine Att.nr L MR λw I p i mb t o pm cd Z a vs ns G Y ho hd N z r m j Q=>?_
 obtain⟨E,S⟩:=hY w _ Y;obtain⟨A,c,U,J,hK,C,hF⟩:=F w i t _ E G.T.g z;have y:OM p.heap i:=by obtain⟨y,ob,b1,b2,O,X,b5,b6⟩:=G.T.bmain;exact⟨y,ob,b1,b2,O,X,b5,b6⟩
 exact xm E G.T.g G.T.b G.T.builtins G.T.nolimit Q y r m (zN j B) hr S J hK hF U λH P M h3=>C H a ns j P M h3
end _D
namespace _D
open PySem PySem.W _L
theorem dB:∀{l:List Obj}{n:Nat},(Ik l n).lookup a=uA o->n<=a/\l[a-n]?=uA o/\∀x y z,o≠⟨x,y,.freed,z⟩
 |[],n,h=>by cases h
 | p::r,n,h=>by
  have next:(Ik r (n+1)).lookup a=uA o->n<=a/\(p::r)[a-n]?=uA o/\∀x y z,o≠⟨x,y,.freed,z⟩:=λh=>by obtain⟨b,c,f⟩:=dB h;obtain⟨k,rfl⟩:=Nat.exists_eq_add_of_le b;rw[qR]at c;refine⟨zN (jR n) b,?_,f⟩;rw[show n+1+k-n=k+1 by rw[xI,qR,xz],j7];exact c
  unfold Ik at h;split at h
  .exact next h
  .exact next h
  rename_i g i;rw[jA]at h;split at h
  .rename_i e;have d:a=n:=by simpa using e
   subst d;cases h;refine⟨zx _,by simp,λx y z q=>?_⟩;subst q;exact g rfl
  exact next h
def xo(h:Heap):(Bx h).In h:=λa o e=>by
 obtain⟨_,c,d⟩:=dB e;have b:h.objs[a]?=uA o:=by simpa using c
 unfold Heap.get?;rw[b];split
 .rename_i q;cases q;exact absurd rfl (d _ _ _)
 rfl
theorem Ui:∀(l:List Obj)(n:Nat),noTabs (Ik l n)=uC
 |[],n=>rfl
 |p::r,n=>by
  unfold Ik;split
  .exact Ui r _
  .exact Ui r _
  rename_i e c;have:=Ui r (n+1);unfold noTabs at this⊢;rw[jH,this,Bool.and_true];split
  .rename_i d a b;exact absurd (c d a b) id
  rfl
def xp(h:Heap):noTabs (Bx h)=uC:=Ui _ _
noncomputable def H9(p:vj)(N:Nat)(w:vC):Heap:=match openEnds wK p w N with
 |some s=>s.heap
 |none=>default
def KI(p:vj)(N:Nat)(w:vC)(h:Heap):Prop:=∀b o,(H9 p N w).get? b=uA o->h.get? b=uA o
def KI.in(x:KI p N w h):(Bx (H9 p N w)).In h:=λa o e=>x a o (xo _ a o e)
def Rg(p:vj)(N:Nat):Hook:=
 ⟨Heap,λs=>s.heap,H9 p N,KI p N,λw s e b o q=>by rw[show s.heap=H9 p N w from e];exact q,λw h h' x k b o q=>k b o (x b o q)⟩
section
variable{p q:vj}{loose:List Str}{Xt:vk->Bool}{N:Nat}{β:Type}{see:Heap->β}{val:β}
def xr(E:∀w,(openEnds wK p w N).map (λs=>(openSeen q loose (vO p.main.body) Xt uC s,see s.heap))=uA (openGood q loose,val)):
  LeftO p q loose Xt (Rg p N).obs (Rg p N).val N:=λw=>by
 obtain⟨s,b,a⟩:=qX.mp (E w);show Option.map _ _=uA (openGood q loose,H9 p N w);unfold H9;rw[b];show uA (openSeen q loose (vO p.main.body) Xt uC s,s.heap)=_;rw[(Prod.mk.inj a).1]
def Qq(E:∀w,(openEnds wK p w N).map (λs=>(openSeen q loose (vO p.main.body) Xt uC s,see s.heap))=uA (openGood q loose,val))(w:vC):see (H9 p N w)=val:=by obtain⟨s,b,a⟩:=qX.mp (E w);unfold H9;rw[b];exact(Prod.mk.inj a).2
end
def holds_top{l:OpenLaw}{q:vj}{loose:List Str}{N:Nat}{b:Type}{see:Heap->b}{val:b}{d:DefRec}(well:l.wellSaid=uC)
  (E:∀w,(openEnds wK l.prog w N).map (λs=>(openSeen q loose (vO l.prog.main.body) (JR l q) uC s,see s.heap))=uA (openGood q loose,val))
  (HJ:defOf q l.row.name=uA (d,[])) (hp:l.row.prog.theDef l.row.name=uA (d.params,d.body,d.scope)) (hk:kwWritten? d.params.kwonlyargs d.params.kw_defaults=uA []) (a:(!l.row.writes||l.row.records.isEmpty)=uC)
  (ok:(chainsOk q&&opensWell l.row.prog&&(frees l.row.toRowW&&l.row.within.isEmpty))=uC) (c:l.row.prog.bare) (hw:l.row.toRowW.promised)
  (call:WalkO q loose (XL q []) (KI l.prog N) l.row.toRowW d [] λf vs=>qe f vs):l.Holds:=
 holds_law well λUS=>holds_open (xr E) (Rg l.prog N).of (Rg l.prog N).keeps
  (λs e=>xl_of s (j5.mp e).1) XL.keeps HJ hp hk (λs e=>recFacts_of (j5.mp e).2) a US ok c hw call
def Wc(h:GU K n=uC):nsIn K vS n=uA (uA (.ref (Ar K n))):=by
 unfold GU at h;unfold Ar;split at h
 .rename_i e;rw[e]
 cases h
def dD(h:WY K C m=uC):findIn K (.ref C) m=uA (uA (.ref (Ef K C m)))/\isFn K (.ref (Ef K C m))=uC:=by
 unfold WY at h;unfold Ef;split at h
 .rename_i e;rw[e];exact⟨rfl,h⟩
 cases h
def xt(h:XY K C m=uC):findIn K (.ref C) m=uA uB:=by
 unfold XY at h;split at h
 .assumption
 cases h
def xu(h:ZY K n=uC):nsIn K vS n=uA uB:=by
 unfold ZY at h;split at h
 .assumption
 cases h
def yA(h:Uu K C=uC):findIn K (.ref C) "__setattr__"=uA (uA (.builtin "object.__setattr__")):=by
 unfold Uu at h;split at h
 .rename_i e;rw[e,beq_iff_eq.mp h]
 cases h
noncomputable def Jl(K:wM)(n:Str):Tok:=match nsIn K vS n with
 |some (uA (.int _ t))=>t
 |some (uA (.str _ t))=>t
 |_=>0
def yB(h:GZ K n v=uC):nsIn K vS n=uA (uA (.int v (Jl K n))):=by
 unfold GZ at h;unfold Jl;split at h
 .rename_i e;rw[e,of_decide_eq_true h]
 cases h
def yC(h:HZ K n v=uC):nsIn K vS n=uA (uA (.str v (Jl K n))):=by
 unfold HZ at h;unfold Jl;split at h
 .rename_i e;rw[e,of_decide_eq_true h]
 cases h
abbrev LG(K:wM)(x q:Str)(st:vA)(f:vW):Prop:=
 K.lookup f=uA ⟨(Ge K f).cls,(Ge K f).dict,.func (fnOf x q (Fw st) (Eg st) (Bs st) .none (Bh K f).kwdefaults (Bh K f).doc (Bh K f).pyModule (Bh K f).annotations (Bh K f).code (Bh K f).closureTuple),(Ge K f).slots⟩/\
  codeIn K (Bh K f).code q=uC/\keepIn K (.ref f)=uC
def dF(h:Ru K x q f=uC)(t:Ka K f=Jv st):LG K x q st f:=by
 unfold Ru at h;split at h
 .rename_i j l a i e;have k:Ge K f=⟨j,l,.func a,i⟩:=by unfold Ge;rw[e]
  have m:Bh K f=a:=by unfold Bh;rw[k]
  unfold Ka Jv at t;rw[m]at t;obtain⟨E,b⟩:=Prod.mk.inj t;obtain⟨b,C⟩:=Prod.mk.inj b;simp[qQ,decide_eq_true_eq,beq_iff_eq,List.isEmpty_iff]at h;obtain⟨⟨⟨s,n⟩,⟨⟨B,y⟩,o⟩,g⟩,u,v⟩:=h;unfold LG;rw[m,k,e];refine⟨?_,u,v⟩;have d:a.defaults=.none:=by
   revert g
   generalize a.defaults=A;intro g
   cases A<;>first|rfl|cases g
  have w:a.body=.stmts (Eg st):=by
   revert b
   generalize a.body=r;intro b
   cases r<;>first|(cases b;rfl)|(cases b)
  have c:a=fnOf x q (Fw st) (Eg st) (Bs st) .none a.kwdefaults a.doc a.pyModule a.annotations a.code a.closureTuple:=by show FuncData.mk a.name a.qualname a.params a.body a.scope a.globals a.closure a.defaults a.kwdefaults a.doc a.pyModule a.annotations a.code a.closureTuple a.builtins=_;rw[s,n,E,w,C,B,o,d,y]
  exact congrArg (λz=>uA (Obj.mk j l (.func z) i)) c
 cases h
abbrev RM(K:wM)(d:vB)(v:Int):Prop:=∃T o t n,d=.ref T/\K.lookup T=uA o/\o.data=.seq #[.int v t] n
def yD(h:ZJ K d v=uC):RM K d v:=by
 unfold ZJ at h;split at h
 .rename_i T;split at h
  .rename_i o e;split at h
   .rename_i a n b;split at h
    .rename_i i t c;cases of_decide_eq_true h;refine⟨T,o,t,n,rfl,e,?_⟩;rw[b]
     congr 1
     rw[<-Array.toList_inj,c]
    cases h
   cases h
  cases h
 cases h
abbrev TH(K:wM)(x q:Str)(st:vA)(f:vW)(v:Int):Prop:=
 K.lookup f=uA ⟨(Ge K f).cls,(Ge K f).dict,.func (fnOf x q (Fw st) (Eg st) (Bs st) (Bh K f).defaults (Bh K f).kwdefaults (Bh K f).doc (Bh K f).pyModule (Bh K f).annotations (Bh K f).code (Bh K f).closureTuple),(Ge K f).slots⟩/\
  codeIn K (Bh K f).code q=uC/\keepIn K (.ref f)=uC/\RM K (Bh K f).defaults v
def yE(h:Vq K x q f v=uC)(t:Ka K f=Jv st):TH K x q st f v:=by
 unfold Vq at h;split at h
 .rename_i g j a d e;have i:Ge K f=⟨g,j,.func a,d⟩:=by unfold Ge;rw[e]
  have k:Bh K f=a:=by unfold Bh;rw[i]
  unfold Ka Jv at t;rw[k]at t;obtain⟨C,b⟩:=Prod.mk.inj t;obtain⟨b,B⟩:=Prod.mk.inj b;simp[qQ,decide_eq_true_eq,beq_iff_eq,List.isEmpty_iff]at h;obtain⟨⟨⟨o,l⟩,⟨⟨A,w⟩,m⟩,y⟩,r,s⟩:=h;unfold TH;rw[k,i,e];refine⟨?_,r,s,yD y⟩;have u:a.body=.stmts (Eg st):=by
   revert b
   generalize a.body=n;intro b
   cases n<;>first|(cases b;rfl)|(cases b)
  have c:a=fnOf x q (Fw st) (Eg st) (Bs st) a.defaults a.kwdefaults a.doc a.pyModule a.annotations a.code a.closureTuple:=by show FuncData.mk a.name a.qualname a.params a.body a.scope a.globals a.closure a.defaults a.kwdefaults a.doc a.pyModule a.annotations a.code a.closureTuple a.builtins=_;rw[o,l,C,u,B,A,m,w]
  exact congrArg (λz=>uA (Obj.mk g j (.func z) d)) c
 cases h
theorem U3:∀{l:List vB}{ss:List Str},strsOf l=uA ss->Vals (ss.map V.str) l
 |[],ss,h=>by cases h;exact .nil
 |v::r,ss,h=>by
  unfold strsOf at h;split at h
  .rename_i q;cases q
  .rename_i s t c q;cases q;obtain⟨a,b,rfl⟩:=qX.mp h;exact .cons ⟨_,rfl⟩ (U3 b)
  cases h
abbrev SM(K:wM)(n:Str)(vs:List Str):Prop:=∃(p:vW)(od:Option vW)(sl:Array (Option vB))(k:Nat)(MA:List vB),nsIn K vS n=uA (uA (.ref p))/\K.lookup p=uA ⟨.type "tuple",od,.seq MA.toArray k,sl⟩/\lN MA<=1000/\Vals (vs.map V.str) MA
def yF(h:Wq K n vs=uC):SM K n vs:=by
 unfold Wq at h;split at h
 .rename_i p e;split at h
  .rename_i t c a k b g;simp only[qQ,beq_iff_eq,decide_eq_true_eq]at h;obtain⟨⟨rfl,d⟩,f⟩:=h;exact⟨p,c,b,k,a.toList,e,by rw[g],Nat.le_of_ble_eq_true f,U3 d⟩
  cases h
 cases h
abbrev TM(K:wM)(n:Str)(JA:List (Str×Str)):Prop:=∃(p:vW)(od:Option vW)(sl:Array (Option vB))(k:Nat)(es:Array DictEntry),nsIn K vS n=uA (uA (.ref p))/\K.lookup p=uA ⟨.type "dict",od,.dict es k,sl⟩/\(p==sysModules)=uD/\Vals ((JA.map (·.1)).map V.str) (es.toList.map (·.key))/\Vals ((JA.map (·.2)).map V.str) (es.toList.map (·.val))
def yG(h:V1 K n JA=uC):TM K n JA:=by
 unfold V1 at h;split at h
 .rename_i p e;split at h
  .rename_i t b f k a i;simp only[qQ,beq_iff_eq,decide_eq_true_eq,Bool.not_eq_true']at h;obtain⟨⟨⟨rfl,c⟩,d⟩,g⟩:=h;exact⟨p,b,a,k,f,e,by rw[i],c,U3 d,U3 g⟩
  cases h
 cases h
def Ask.IF(K:wM):Ask->Prop
 |.fn n st=>nsIn K vS n=uA (uA (.ref (Ar K n)))/\LG K n n st (Ar K n)
 |.mt c m q st=>findIn K (.ref (Ar K c)) m=uA (uA (.ref (Ef K (Ar K c) m)))/\isFn K (.ref (Ef K (Ar K c) m))=uC/\LG K m q st (Ef K (Ar K c) m)
 | .cl c=>nsIn K vS c=uA (uA (.ref (Ar K c)))/\plainGet K (Ar K c) Str.empty=uC/\hasDictIn K (Ar K c)=uC/\plainOver K (Ar K c)=uC/\
   findIn K (.ref (Ar K c)) "__setattr__"=uA (uA (.builtin "object.__setattr__"))/\makesIn K (Ar K c)=uC/\keepIn K (.ref (Ar K c))=uC
 |.no c x=>findIn K (.ref (Ar K c)) x=uA uB
 |.z n=>nsIn K vS n=uA uB
 |.gi n v=>nsIn K vS n=uA (uA (.int v (Jl K n)))
 |.gs n v=>nsIn K vS n=uA (uA (.str v (Jl K n)))
 |.gt n vs=>SM K n vs
 |.gd n JA=>TM K n JA
 |.ck φ=>φ K=uC
 |.fd n st v=>nsIn K vS n=uA (uA (.ref (Ar K n)))/\TH K n n st (Ar K n) v
theorem Ask.US:∀{a:Ask},a.NX K=uC->a.TF K=a.KR->a.IF K
 |.fn n e,h,t=>by obtain⟨b,d⟩:=j5.mp h;exact⟨Wc b,dF d (Option.some.inj t)⟩
 |.mt c m q e,h,t=>by obtain⟨b,d⟩:=j5.mp h;exact⟨(dD b).1,(dD b).2,dF d (Option.some.inj t)⟩
 |.cl c,h,_=>by simp[Ask.NX,qQ]at h;obtain⟨⟨b,⟨d,j⟩,k⟩,⟨l,g⟩,i⟩:=h;exact⟨Wc b,d,j,k,yA l,g,i⟩
 |.no c x,h,_=>xt h
 |.z n,h,_=>xu h
 |.gi n v,h,_=>yB h
 |.gs n v,h,_=>yC h
 |.gt n o,h,_=>yF h
 |.gd n f,h,_=>yG h
 |.ck _,h,_=>h
 |.fd n e v,h,t=>by obtain⟨b,d⟩:=j5.mp h;exact⟨Wc b,yE d (Option.some.inj t)⟩
def JF(K:wM):List Ask->Prop
 |[]=>True
 |a::r=>a.IF K/\JF K r
theorem dG:∀{l:List Ask},(l.all (Ask.NX K),l.map (Ask.TF K))=(uC,l.map Ask.KR)->JF K l
 |[],_=>trivial
 |a::r,h=>by obtain⟨b,c⟩:=Prod.mk.inj h;rw[jH]at b;obtain⟨e,f⟩:=j5.mp b;rw[zY,zY]at c;obtain⟨g,d⟩:=List.cons.inj c;exact⟨Ask.US e g,dG (by rw[f,d])⟩
def yH(F:TL K x q st f fd)
  (h:∀(kV b g:vB)(e:Option vW)(c d:vB)(u:vB),bindArgs (fnOf x q (Fw st) (Eg st) (Bs st) .none kV b g e c d) ⟨[u],[]⟩=pure [(a,u)]):BindsTo s fd ⟨[v],[]⟩ [(a,v)]:=by
 obtain⟨l,k,kV,b,g,e,c,d,j,rfl,m,i⟩:=F.ex;exact .of_eq (h kV b g e c d v)
def Z7(e:Wb c m h=uC):(Bh (Bx h) (Ef (Bx h) (Ar (Bx h) c) m)).code=.ref (Ii (Bx h) c m)/\codeHdIn (Bx h) (Ii (Bx h) c m) (Q0 (Bx h) (Ii (Bx h) c m))=uC/\
  h.get? (Q0 (Bx h) (Ii (Bx h) c m))=uA (tabObj #[]):=by
 simp[Wb,qQ]at e;obtain⟨⟨b,d⟩,a⟩:=e;refine⟨?_,d,?_⟩
 .unfold Ii
  revert b
  generalize(Bh (Bx h) (Ef (Bx h) (Ar (Bx h) c) m)).code=v;intro b
  cases v<;>first|rfl|cases b
 split at a
 .rename_i g f q;rw[q];simp[qQ,Array.isEmpty_iff]at a;obtain⟨rfl,rfl⟩:=a
  rfl
 cases a
theorem dH:∀{n:Nat}{s s':SharedT}{t:Thread},T6 p w n₀ ann n s t=uA s'->topRun wK p w n₀ ann n s.abs t=uA s'.abs
 |0,_,_,_,h=>by cases h
 | n+1,s,s',t,h=>by
  unfold T6 at h;unfold topRun;rw[<-PySem.W.Fast.te6613529449190102663,<-PySem.W.Fast.te10156331382660048174,<-PySem.W.Fast.te11892475500146522536,<-PySem.W.Fast.te14364793385576792824]at h;cases b:through t with
  |true=>
   rw[b]at h;cases h
   rfl
  | false=>
   rw[b]at h;dsimp only at h⊢;cases a:stepOk n₀ ann t with
   |false=>rw[a]at h;cases h
   |true=>
    rw[a]at h;dsimp only at h⊢;split at h
    .rename_i c d e;rw[stepT_spec e];exact dH h
    cases h
def boot_abs:∀w a,(aB w a).abs=⟨wO w.params,Array.mk [],boot_drawn,boot_toks,a⟩:=λw a=>by kernel_rfl
def yI:∀w:vC,((wO w.params).isNs vS&&(Array.mk []:Array GenState).size==0)=uC:=λw=>by kernel_rfl
def yJ{p q:vj}{loose:List Str}{Xt:vk->Bool}{i:Type}{see:Heap->i}{val:i}(e:opening p=plainProg p.main.scope.names)(f:∀s,fenceModules? p s=uA s)
  (R:∀w a,(Wm p w a).map (λs=>(Vk p w s.abs,PySem.W.Fast.tw4187177175401517315 q loose (PySem.W.Fast.tw5923862056798008813 p.main.body) Xt uC s.abs,see s.abs.heap))=uA (uC,openGood q loose,val)):
  ∀w,(openEnds wK p w 100000).map (λs=>(openSeen q loose (vO p.main.body) Xt uC s,see s.heap))=uA (openGood q loose,val):=λw=>by
 obtain⟨⟨h,o,d,k,a⟩,n,j⟩:=qX.mp (boot_open (N:=100000) e rfl f w);obtain⟨rfl,rfl,rfl,rfl⟩:h=wO w.params/\o=Array.mk []/\d=boot_drawn/\k=boot_toks:=by simpa using j
 obtain⟨s,g,l⟩:=qX.mp (R w a);obtain⟨c,b⟩:=Prod.mk.inj l;obtain⟨b,m⟩:=Prod.mk.inj b;unfold Wm at g;have r:=dH g;rw[boot_abs,<-PySem.W.Fast.te8920871248978507458]at r;rw[<-PySem.W.Fast.te4187177175401517315,<-PySem.W.Fast.te5923862056798008813]at b;unfold Vk at c;rw[<-PySem.W.Fast.te5923862056798008813]at c;have t:topFrom wK p w 100000 ⟨wO w.params,.mk [],boot_drawn,boot_toks,a⟩=uA s.abs:=by
  unfold topFrom;dsimp only;rw[yI,r]
  show(match staticsOk (vO p.main.body) (wO w.params) s.abs.heap&&namesBound p s.abs.heap&&gensDone s.abs&&laidKept (wO w.params) s.abs.heap with |true=>_|false=>_)=_
  rw[c]
 unfold openEnds;rw[n];show(topFrom wK p w 100000 _).map _=_;rw[t];exact congrArg uA (Prod.ext b m)
structure FT (K:wM) (mg:Str->Option vB) (n:Str) (st:vA) (ps:List Str):Prop where
 F:TL K n n st (Ar K n) (Bh K (Ar K n))
 b:Binds K (Bh K (Ar K n)) ps []
 m:mg n=uA (.ref (Ar K n))
 k:keepIn K (.ref (Ar K n))=uC
structure MT (K:wM) (c m q:Str) (st:vA) (ps:List Str):Prop where
 F:TL K m q st (Ef K (Ar K c) m) (Bh K (Ef K (Ar K c) m))
 b:Binds K (Bh K (Ef K (Ar K c) m)) ps []
 me:GL K (Ar K c) m (Ef K (Ar K c) m)
structure CT (K:wM) (mg:Str->Option vB) (c:Str):Prop where
 N:nsIn K vS c=uA (uA (.ref (Ar K c)))
 cl:HK K (Ar K c)
 g:mg c=uA (.ref (Ar K c))
 mK:Mk K (Ar K c) (Ef K (Ar K c) "__init__")
def Rt(s:LG K x q st f):TL K x q st f (Bh K f):=by
 have e:Bh K f=fnOf x q (Fw st) (Eg st) (Bs st) .none (Bh K f).kwdefaults (Bh K f).doc (Bh K f).pyModule (Bh K f).annotations (Bh K f).code (Bh K f).closureTuple:=by conv=>lhs;unfold Bh Ge;rw[s.1]
 exact⟨⟨_,_,_,_,_,_,_,_,_,e,by rw[e];exact s.1,s.2.1⟩,s.2.2⟩
def yK(X:K.In h)(G:h.Ns vS mg)(s:Ask.IF K (.fn n st))
  (d:∀(kV a f:vB)(e:Option vW)(b c:vB)(us:List vB),lN us=lN ps->bindArgs (fnOf n n (Fw st) (Eg st) (Bs st) .none kV a f e b c) ⟨us,[]⟩=pure (ps.zip us)):FT K mg n st ps:=
 ⟨Rt s.2,(Rt s.2).binds d,mg_of X G s.1,s.2.2.2⟩
def yL(s:Ask.IF K (.mt c m q st))
  (e:∀(kV a g:vB)(f:Option vW)(b d:vB)(us:List vB),lN us=lN ps->bindArgs (fnOf m q (Fw st) (Eg st) (Bs st) .none kV a g f b d) ⟨us,[]⟩=pure (ps.zip us)):MT K c m q st ps:=
 ⟨Rt s.2.2,(Rt s.2.2).binds e,s.1,s.2.1,s.2.2.2.2⟩
def yM(X:K.In h)(G:h.Ns vS mg)(s:Ask.IF K (.cl c))(i:Ask.IF K (.mt c "__init__" q st)):CT K mg c:=
 ⟨s.1,⟨s.2.1,s.2.2.1,s.2.2.2.1,s.2.2.2.2.1⟩,mg_of X G s.1,s.2.2.2.2.2.1,i.1,i.2.1,s.2.2.2.2.2.2⟩
abbrev C?(P:vj)(w:vC)(K:wM)(mg:Str->Option vB)(base:Heap)(k:Nat)(n:Str)(ps:List Str)(F:List D->DH->R D):Prop:=ID P w K mg base MK k (Ar K n) (Bh K (Ar K n)) ps (lF K F)
abbrev MtO(P:vj)(w:vC)(K:wM)(mg:Str->Option vB)(base:Heap)(k:Nat)(c m:Str)(ps:List Str)(F:List D->DH->R D):Prop:=ID P w K mg base MK k (Ef K (Ar K c) m) (Bh K (Ef K (Ar K c) m)) ps (lF K F)
def yN(F:TL K x q st f fd)
  (h:∀(kV b g:vB)(e:Option vW)(c d:vB)(u:vB),bindArgs (fnOf x q (Fw st) (Eg st) (Bs st) .none kV b g e c d) ⟨[u],[]⟩=pure [(a,u)]:=by intros;rfl):BindsTo s fd ⟨[v],[]⟩ [(a,v)]:=yH F h
end _D
namespace _D
open PySem PySem.Spec _L
open PyProof.Rows hiding St
section
variable{prog:vj}{w:vC}{A:vK}{E:vB->vk->Prop}{s:vk}
end
section
variable{X:Cx}{E:XK}{p:vW}{JA:List (Str×Str)}{x:Str}{a:vY}{ta:DE}{np pos:Pos}
end
noncomputable def Dt:D->Option V
 |.int i=>uA (.int i)
 |.str x=>uA (.str x)
 |_=>uB
section
variable{X:Cx}{E:XK}{pos:Pos}
end
section
variable{S:PB}{G:DH}
end
def yO{X:Cx}{k j:Nat}{n:Str}{st:vA}{ps:List Str}{F:List D->DH->R D}{p pos:Pos}{e:vY}{es:List vY}{tr:DA}(c:C? X.prog X.w X.K X.mg X.base k n ps F)(T:FT X.K X.mg n st ps)(i:GB j X.A)(g:QA X E0 (e::es) tr)
  (d:k<=j:=by decide) (f:Gl X n:=by exact rfl) (h:(n==("__debug__":Str))=uD:=by decide) (l:notStar e=uC:=by exact rfl) (hp:es.all notStar=uC:=by exact rfl):QE X E0 (.Call (.Name n p) (e::es) [] pos) (IA F tr):=
 pC c (i.mono d) f T.m T.k T.b LH g h l hp
section
variable{M:Model}{A:vK}{E:vB->vk->Prop}{s:vk}{B:Heap}{env:Env}{outer:List Env}{L e:vW}{oe:Obj}{vs:Array vB}{head:vB}{hn:Bool}{Q:Unit->vk->Prop}
end
section
variable{X:Cx}{wS:List (vW×Obj)}{σ:St}{H H':Hp}{s s':vk}{B D?:Heap}{ea:vW}{cls:vB}{od:Option vW}{E:XK}
end
section
variable{prog:vj}{w:vC}{A:vK}{E:vB->vk->Prop}{h:Heap}{g:Array GenState}{d:Drawn}{t:Nat}{os:OsState}
variable{nm q:Str}{C N:vW}{bs bm bmB:List vB}{Lm:Bool}{sn:List Str}{sub:List vB}{ab:Bool}{col:Option Bool}{dd:Option vW}{k0 k1 k2 k3 k5:Option vB}{B newId Pm:String}
end
section
variable{X:Cx}{C W:vW}{x:Str}{mc:vB}{p apos pos:Pos}{a1 a2:vY}{t:TA}
end
section
open PySem.W
variable{prog:vj}{w:vC}{A:vK}{s:vk}{K:wM}{x C:vW}{R:Result->vk->Prop}
end
section
variable{prog:vj}{w:vC}{A:vK}{E:vB->vk->Prop}{s:vk}{K:za}{e C t:vW}{name:Str}{v:vB}
end
section
variable{X:Cx}{C:vW}{f:Str}{o value:vY}{pos pos':Pos}{ta tv:TE}
end
section
variable{X:Cx}{j:Nat}{v s1 s2:Str}{k1 k2 p1 p2 pv pf pos}
end
section
variable{M:Model}{A:vK}{E:vB->vk->Prop}{env:Env}
variable{nm q:Str}{C N:vW}{bs bm:List vB}{Lm:Bool}{sn:List Str}{sub:List vB}{ab:Bool}{col:Option Bool}{dd:Option vW}{k0 k1 k2 k3 k5:Option vB}{newId:String}
end
section
variable{X:Cx}{C fI:vW}{f x:Str}{np NB pos:Pos}{a:vY}{ta:TA}{E:XK}{k:Nat}{fd:vq}{v:Str}
end
section
variable{X:Cx}{wS:List (vW×Obj)}{σ:St}{H H':Hp}{s s':vk}{B D?:Heap}{ea:vW}{cls:vB}{od:Option vW}{E:XK}{fl:vB}
end
section
variable{M:Model}{A:vK}{E:vB->vk->Prop}{h:Heap}{g:Array GenState}{d:Drawn}{t:Nat}{os:OsState}
end
section
variable{X:Cx}{wS:List (vW×Obj)}{σ:St}{H:Hp}{s:vk}
end
section
variable{X:Cx}{wS:List (vW×Obj)}{σ:St}{H:Hp}{s:vk}{ea:vW}
end
section
variable{X:Cx}{f W:vW}{fn x n:Str}{fp cp ep np hp pos:Pos}{a:vY}{es:List vY}{ta:TA}{sp:Sp}{k i:Nat}{fd:vq}{ps:List Str}{b₀:vA}{UM:List vA}{th:TS}
end
section
variable{X:Cx}{E:XK}{C fI:vW}{c f v:Str}{np NB pos:Pos}{a:vY}{t:DA}{k:Nat}{fd:vq}
end
section
variable{X:Cx}{E:XK}{f W:vW}{fn x n:Str}{fp cp ep np hp pos:Pos}{a:vY}{es:List vY}{t:DA}{F:List D->DH->R D}{k i:Nat}{fd:vq}{ps:List Str}{b₀:vA}{UM:List vA}{hb:DS}{ws:List Str}
end
section
variable{X:Cx}{E:XK}{x:Str}{p pos:Pos}{e:vY}{es:List vY}{tr:DA}
end
section
variable{X:Cx}{E:XK}{x:Str}{p pos:Pos}{e:vY}{es:List vY}{tr:DA}
end
section
variable{prog:vj}{w:vC}{A:vK}{E:vB->vk->Prop}{s:vk}{K:za}{x C:vW}{ox:Obj}{od:Option Obj}{name:Str}{tk:Tok}
end
section
variable{X:Cx}{E:XK}{wS:List (vW×Obj)}{σ:St}{H:Hp}{s:vk}
variable{e ce:vY}{ces:List vY}{t:DE}{tb:List (Str×Bool)}{cv:V}{cu:vB}{cvs:List V}{cus:List vB}{p pos tp:Pos}
variable{f:Str}{cs:List Str}
end
end _D
namespace _D
open PySem PySem.Spec PySem.W _L
open PyProof.Rows hiding St
section
variable{X:Cx}{E:XK}{c x n f v:Str}{e a:vY}{es:List vY}{t:DE}{tr:DA}{p q pos NB np:Pos}{b:Bool}{F:List D->DH->R D}{k j:Nat}{ps:List Str}{st:vA}
end
end _D
namespace _D
open PySem PySem.Spec _L
open PyProof.Rows hiding St
section
variable{X:Cx}{E:XK}{wS:List (vW×Obj)}{σ:St}{s:vk}
end
end _D
namespace _D
open PySem PySem.W PySem.Spec _L
open PyProof.Rows hiding St
section
variable{X:Cx}{E:XK}{x:Str}{p pos:Pos}{e:vY}{es:List vY}{tr:DA}
end
section
variable{X:Cx}{E:XK}{n:Str}{e:vY}{es:List vY}{tr:DA}{p pos:Pos}{F:List D->DH->R D}{k j:Nat}{ps:List Str}{st:vA}{v:Int}
end
section
variable{X:Cx}{E:XK}{c x n f v:Str}{e a:vY}{es:List vY}{t:DE}{tr:DA}{p q pos NB np:Pos}{b:Bool}{F:List D->DH->R D}{k j:Nat}{ps:List Str}{st:vA}
end
end _D
namespace _D
open PySem PySem.Spec _L
open PyProof.Rows hiding St
section
variable{X:Cx}{f:vW}{fn:Str}{fp cp ep pos:Pos}{a e:vY}{es:List vY}{t:DA}{te:DE}{F:List D->DH->R D}{k:Nat}{fd:vq}{ps:List Str}
end
section
variable{X:Cx}{W:vW}{x n:Str}{np hp pos:Pos}{i:Nat}{b₀:vA}{UM:List vA}{hb:DS}{ws ns:List Str}{hs:List ExceptHandler}{f:DHn}
end
section
variable{X:Cx}{W:vW}{x:Str}{np hp pos:Pos}{b₀:vA}{UM:List vA}{hb:DS}{ws ns:List Str}{hs:List ExceptHandler}{f:DHn}
end
end _D
namespace _D
open PySem PySem.Spec PySem.W _L
open PyProof.Rows hiding St
section
variable{X:Cx}{C:vW}{x:Str}{np NB pos:Pos}{a:vY}{ta:TA}{E:XK}
end
section
variable{X:Cx}{E:XK}{c x n f v w:Str}{e a:vY}{es:List vY}{t:DE}{tr:DA}{p q pos NB np fp cp ep hp:Pos}{b:Bool}{F:List D->DH->R D}{k j:Nat}{ps:List Str}{st:vA}
end
section
variable{X:Cx}{n y:Str}{e e2:vY}{es:List vY}{tr:DA}{tu:DE}{p pos kp:Pos}{F:List D->DH->R D}{k j:Nat}{ps:List Str}{st:vA}{v:Int}
end
section
variable{prog:vj}{w:vC}{A:vK}{E:vB->vk->Prop}{s:vk}
end
section
variable{X:Cx}{E:XK}
end
section
variable{X:Cx}{E:XK}
end
section
variable{X:Cx}{E:XK}
theorem HA.eraseIdx:∀{b:List D}{vs:List V}(k:Nat),HA a b vs->HA a (b.eraseIdx k) (vs.eraseIdx k)
 |[],_,k,h=>by cases(h);exact rfl
 |d::b,_,0,⟨v,r,rfl,_,h⟩=>h
 |d::b,_,k+1,⟨v,r,rfl,c,h⟩=>⟨v,_,rfl,c,.eraseIdx k h⟩
def Lq(o:D)(ds:List D)(G:DH):R D:=match o,ds with
 | .ref i,[.int j]=>match G[i]? with
  |some (.lst xs)=>if 0<=j/\j<1000000 then(match xs[j.toNat]? with
   |some d=>.ok d (G.set i (.lst (xs.eraseIdx j.toNat)))
   |none=>.bad)else .bad
  |_=>.bad
 |_,_=>.bad
def yP:LK X "list.pop" (XT X.K E Lq):=nh.mono λx B H Q h=>by
 obtain⟨a,G,d,A,hk,rfl,s,c,r,q⟩:=h;unfold Lq at q;split at q
 .rename_i i j;obtain⟨z,rfl,b⟩:=KD r;cases(b);split at q
  .rename_i C n;split at q
   .rename_i y;split at q
    .rename_i e u;obtain⟨o,f,k⟩:=s.lst n;obtain⟨l,t⟩:=Qe s c.1 f (k.eraseIdx j.toNat);obtain⟨v,g,p⟩:=k.get u;have w:=(zX.mp g).1;refine⟨a.m i,o,j,j.toNat,v,c.2,rfl,f,by lia,by lia,?_,g,q _ v l t (p.mono l)⟩;unfold seqIndex?;simp only[]
     split <;> simp <;> lia
    exact q.elim
   exact q.elim
  exact q.elim
 exact q.elim
def Ls(d:D)(ds:List D)(G:DH):R D:=match ds with
 | [.str k]=>match Ej d G with
  |some xs=>match Ke xs with
   |some ns=>if k∈ns/\lN ns<=1000000 then .ok (.int (ns.idxOf k)) G else .bad
   |none=>.bad
  |none=>.bad
 |_=>.bad
theorem Zw:∀{ns:List Str}{vs:List V},HA a (ns.map D.str) vs->vs=ns.map V.str
 |[],vs,h=>h
 |n::ns,vs,h=>by
  obtain⟨v,r,e,c,b⟩:=h;rw[e,Zw b];cases(c)
  rfl
theorem dI:∀{ns:List Str}{us:List vB},Vals (ns.map V.str) us->lN us=lN ns/\∀(j:Nat)(u:vB),us[j]?=uA u->∃t,∃h:j<lN ns,u=.str ns[j] t
 |[],us,h=>by cases h;exact⟨rfl,λj u e=>by simp at e⟩
 | n::ns,us,h=>by
  cases h with
  | cons r d=>
   obtain⟨b,f⟩:=dI d;obtain⟨t,rfl⟩:=r;refine⟨by simp[b],λj u e=>?_⟩;cases j with
   |zero=>simp at e;exact⟨t,by simp,by simpa using e.symm⟩
   |succ j=>
    obtain⟨g,c,a⟩:=f j u (by simpa using e);exact⟨g,by simpa using c,by simpa using a⟩
def yQ:LK X "list.index" (XT X.K E Ls):=by
 intro wS s σ H x xs v us Q I rx B h;obtain⟨a,G,d,ds,hk,rfl,sm,rd,L,q⟩:=h;unfold Ls at q;split at q
 .rename_i k;split at q
  .rename_i ys J;split at q
   .rename_i f T;split at q
    .rename_i S;obtain⟨j,hlen⟩:=S;obtain⟨p,vs,rfl,U,Z⟩:=T5 sm rd J;rw[bx T]at Z;rw[Zw Z,hk]at U;cases rx;obtain⟨v1,rfl,M⟩:=KD L;cases(M);obtain⟨u,rfl,ru⟩:=B.one;obtain⟨t,rfl⟩:=ru;obtain⟨b,l,⟨o,n,O,W,hdi,hd⟩,hz⟩:=I.list U;obtain⟨w,c⟩:=dI l;have z:=List.idxOf_lt_length_of_mem j;have P:f.idxOf k<b.toArray.size:=by simpa[w]using z
     have A:o={cls:=.type "list",dict:=o.dict,data:=.seq b.toArray n,slots:=o.slots}:=by
      obtain⟨c1,c2,c3,c4⟩:=o;simp only at W hd;subst W;subst hd
      rfl
     rw[A]at O
     refine call_meets PySem.F.slot_list_index ⟨_,O,rfl⟩ PySem.F.entry_list_index (PySem.F.args_list_index_2 _ _) (SeqAt.list_indexAt p b.toArray n o.dict o.slots (.str k t) (λy=>match y with | .str i _=>i==k|_=>uD) (f.idxOf k) P (by lia) ?_ ?_) ⟨O,λy J=>?_,⟨.int (f.idxOf k),a.H,I.tok _,⟨_,rfl⟩,q a _ (.refl a) sm rfl⟩⟩
     .have C:b[f.idxOf k]?=uA b.toArray[f.idxOf k]:=by simp[zZ (by simpa[w]using z:f.idxOf k<lN b)]
      obtain⟨Y,h3,g⟩:=c _ _ C;rw[g];simp
     .intro m N r;have C:b[m]?=uA b.toArray[m]:=by simp[zZ (by simpa using N)]
      obtain⟨Y,h3,g⟩:=c _ _ C;rw[g];have:=List.not_of_lt_findIdx r;simpa using this
     .obtain⟨m,N,e⟩:=j8 (by simpa using J);obtain⟨Y,h3,g⟩:=c m y (by rw[zZ N,e]);rw[g];exact .str_str _ _ _ _
    exact q.elim
   exact q.elim
  exact q.elim
 exact q.elim
end
end _D
namespace _D
open PySem PySem.Spec _L
open PyProof.Rows hiding St
noncomputable def tgN:vY->List Str
 |.Name x _=>[x]
 |.Tuple es _ _=>es.flatMap λe=>match e with
  |.Name x _=>[x]
  |_=>[]
 |_=>[]
def Hl(tg:vY)(caps:List Nat)(N:List Str):List Str:=tgN tg++caps.map λj=>N.getD j ""
section
variable{X:Cx}{scope:vx}{nt:Nat}{caps:List Nat}{tg elt iter:vY}{ifs:List vY}{pos:Pos}{it:DI}{g:DG}{c:DB}{te:DE}
def yR(m:QI X E0 tg iter it)(j:∀C b a d,(Hl tg caps X.N).Nodup->QG (JG X (Hl tg caps X.N) scope C b a d) E0 tg g)(o:GK nt g)(e:∀C b a d,QN (JG X (Hl tg caps X.N) scope C b a d) E0 ifs c)
  (k:∀C b a d,QE (JG X (Hl tg caps X.N) scope C b a d) E0 elt te) (n:X.calm=uC:=by rfl) (hk:scope.kind=.function:=by rfl) (f:∀x,X.env.kindOf x=X.env.scope.names.lookup x:=by intro _;rfl)
  (h:Te X.env.scope.names X.N (Hl tg caps X.N) scope.names nt caps=uC:=by kernel_rfl) (l:∀x,foldedSetIterable iter X.env x=pure x:=by intro _;rfl):QE X E0 (.ListComp elt [⟨tg,iter,ifs,0⟩] scope pos) (Bv it nt caps g c te):=
 have i:=Qt hk f rfl h
 rR n i m (λC b a d=>j C b a d i.nd) o e k l
def yS(i:Nat){y:Str}{l d:Pos}(u:X.N.Nodup)(v:QI X E0 tg iter it)(p:∀C a b e,(Hl tg caps X.N).Nodup->QG (JG X (Hl tg caps X.N) scope C a b e) E0 tg g)(o:GK nt g)(f:∀C a b e,QN (JG X (Hl tg caps X.N) scope C a b e) E0 ifs c)
  (t:∀C a b e,QE (JG X (Hl tg caps X.N) scope C a b e) E0 elt te) (s:X.calm=uC:=by rfl) (hk:scope.kind=.function:=by rfl) (j:∀x,X.env.kindOf x=X.env.scope.names.lookup x:=by intro _;rfl)
  (h:Te X.env.scope.names X.N (Hl tg caps X.N) scope.names nt caps=uC:=by kernel_rfl)
  (r:X.N[i]?=uA y:=by rfl) (w:Loc X.env.scope y:=by first|exact Or.inl rfl|exact Or.inr rfl) (n:X.fn y=uC\/X.env.scope.names.lookup y=uA .local:=by first|exact .inl rfl|exact .inr rfl|assumption)
  (k:swapsWith (.ListComp elt [⟨tg,iter,ifs,0⟩] scope pos) (uA (.Name y l)) d.line X.env=pure uC:=by rfl)
  (q:∀x,foldedSetIterable iter X.env x=pure x:=by intro _;rfl):QS X E0 (.Assign [.Name y l] (.ListComp elt [⟨tg,iter,ifs,0⟩] scope pos) d) (JC (Bv it nt caps g c te) (gV i)):=
 have m:=Qt hk j rfl h
 bV i s u m v (λC a b e=>p C a b e m.nd) o f t r w n k q
end
def TJ{p:List vB->Prop}(h:p [])(us:List vB)(e:lN us=0):p us:=by cases us with |nil=>exact h|cons a r=>cases e
def Cg{n:Nat}{p:List vB->Prop}(h:∀a r,lN r=n->p (a::r))(us:List vB)(e:lN us=n+1):p us:=by cases us with |nil=>cases e|cons a r=>exact h a r (Nat.succ.inj e)
def Sm{p:List vB->Prop}(h:∀a,p [a]):∀us:List vB,lN us=1->p us:=Cg λa=>TJ (h a)
def Fn{p:List vB->Prop}(h:∀a b,p [a,b]):∀us:List vB,lN us=2->p us:=
 Cg λa=>Cg λb=>TJ (h a b)
def Jn{p:List vB->Prop}(h:∀a b c,p [a,b,c]):∀us:List vB,lN us=3->p us:=
 Cg λa=>Cg λb=>Cg λc=>TJ (h a b c)
def Kn{p:List vB->Prop}(h:∀a b c d,p [a,b,c,d]):∀us:List vB,lN us=4->p us:=
 Cg λa=>Cg λb=>Cg λc=>Cg λd=>TJ (h a b c d)
def Mn{p:List vB->Prop}(h:∀a b c d e,p [a,b,c,d,e]):∀us:List vB,lN us=5->p us:=
 Cg λa=>Cg λb=>Cg λc=>Cg λd=>Cg λe=>TJ (h a b c d e)
def Nn{p:List vB->Prop}(h:∀a b c d e f,p [a,b,c,d,e,f]):∀us:List vB,lN us=6->p us:=
 Cg λa=>Cg λb=>Cg λc=>Cg λd=>Cg λe=>Cg λf=>TJ (h a b c d e f)
def Sn{p:List vB->Prop}(h:∀a b c d e f g,p [a,b,c,d,e,f,g]):∀us:List vB,lN us=7->p us:=
 Cg λa=>Cg λb=>Cg λc=>Cg λd=>Cg λe=>Cg λf=>Cg λg=>TJ (h a b c d e f g)
def E?{N P:List Str}{h:vx}(a:h.kind=.function:=by rfl)(b:h.isCoroutine=uD:=by rfl)(c:h.isGenerator=uD:=by rfl)(d:N.Nodup:=by decide +kernel)(e:N.take (lN P)=P:=by rfl)
  (f:∀x∈P,h.names.lookup x=uA .local\/h.names.lookup x=uA .cell:=by decide +kernel) (g:∀y∈h.names,y.2≠ .free:=by decide +kernel):KC N P h:=⟨a,b,c,d,e,f,g⟩
end _D
namespace _D
open PySem PySem.W _L
def yT{X:Cx}{E:XK}{x:Str}{n:Int}{t:Tok}{pos:Pos}(hg:Gl X x)(hm:X.mg x=uA (.int n t))(hd:(x==("__debug__":Str))=uD:=by decide):QE X E (.Name x pos) (dC (.int n)):=
 aw (v:=.int n) hg hm ⟨_,rfl⟩ (λ_ _=>rfl) hd
def yU{X:Cx}{E:XK}{x:Str}{n:Str}{t:Tok}{pos:Pos}(hg:Gl X x)(hm:X.mg x=uA (.str n t))(hd:(x==("__debug__":Str))=uD:=by decide):QE X E (.Name x pos) (dC (.str n)):=
 aw (v:=.str n) hg hm ⟨_,rfl⟩ (λ_ _=>rfl) hd
section
open Lean
def wA(s:String):Syntax:=.atom .none s
def wL(l:List Syntax):Syntax:=.node .none `null l.toArray
def wN(k:String)(l:List Syntax):Syntax:=.node .none ("Lean.Parser."++k).toName l.toArray
def wX(l:List Syntax):Syntax:=wN "Tactic.tacticSeq" [wN "Tactic.tacticSeq1Indented" [wL l]]
def wP(l:List Syntax):Syntax:=wN "Tactic.paren" [wA "(",wX l,wA ")"]
def wI(s:String):Syntax:=(mkIdent s.toName).raw
def wH:Syntax:=wN "Term.syntheticHole" [wA "?",wA "_"]
def wU(l:List String):Syntax:=wN "Term.fun" [wA "fun",wN "Term.basicFun" [wL (l.map wI),wL [],wA "=>",wH]]
def wY(l:List Syntax):Syntax:=match l.reverse with
 |x::y::r=>wN "Term.app" [x,wL (y::r)]
 |[x]=>x
 |_=>.missing
def wT(s:String):Syntax:=wY ((((s.replace "(" "( ").replace ")" " )").splitOn " ").foldl (λst w=>match st with
 | a::r=>
  if w="" then st else if w="(" then[]::st else if w=")" then(match r with
   |b::q=>(wY a::b)::q
   |_=>st)
  else((if w="_" then wN "Term.hole" [wA w]else if w="?" then wH else if w="." then wN "Term.ellipsis" [wA ".."]
   else if w="L" then wU ["C","s","H","e","nd"]else if w="l" then wU ["C","s","H","e"]
   else if w="d" then wN "Term.byTactic" [wA "by",wX [wN "Tactic.decide" [wA "decide",wN "Tactic.optConfig" [wL []]]]]
   else if w.isNat then(Syntax.mkNumLit w).raw else wI w)::a)::r
 |_=>st) [[]]).head!
def wF(l:List Syntax):Syntax:=wN "Tactic.first" [wA "first",wL (l.map λx=>.node .none `group #[wA "|",wX [x]])]
def wJ(a b:Syntax):Syntax:=wN "Tactic.«tactic_<;>_»" [a,wA "<;>",b]
def wG(k:String)(t:Syntax)(r:Syntax):Syntax:=wP [wN "Tactic.guardTarget" [wA "guard_target",wN "equal" [wN k [wA "="]],t],wA ";",r]
def wV:Syntax:=wN "Tactic.tacticTrivial" [wA "trivial"]
def wB(s:String):Syntax:=
 let t:=wT (s.drop 1).toString;let f:=λk=>wN ("Tactic."++k) [wA k,t]
 let c:=s.front
 if c='@' then f "apply" else if c='!' then wN "Tactic.withReducible" [wA "with_reducible",wX [f "exact"]]
 else if c='=' then wP [wJ (f "refine") (wN "Tactic.tacticRfl" [wA "rfl"])]else if c='<' then wP [wJ (f "refine'") wV]else if c='.' then f "exact" else f "refine'"
def wC(s:String):Syntax:=wF ((s.splitOn ",").flatMap λb=>match b.splitOn "^" with
 |[_,t,n]=>(n.splitOn " ").map λx=>wB ("-"++t.replace "$" x)
 |_=>[wB b])
def wR(s:String):Syntax:=wF ((s.splitOn "#").map λg=>match g.splitOn "|" with
 | h::r=>
  let b:=wF (r.map λa=>match a.splitOn ":" with
   |[a,x]=>wG "equalD" (wT (h++" "++a)) (wC x)
   |_=>wC a)
  if h.front='=' then wG "equalR" (wT (h.drop 1).toString) b else if h.front='*' then b else wG "equalD" (wT (h++" _ _")) (wJ (wP [b]) wV)
 |_=>.missing)
end
end _D
namespace _D
open PySem PySem.Spec _L
open PyProof.Rows hiding St
section
variable{M:Model}{A:vK}{E:vB->vk->Prop}{s:vk}{B:Heap}{env:Env}{outer:List Env}{L e:vW}{oe:Obj}{vs:Array vB}{head:vB}{hn:Bool}{Q:Unit->vk->Prop}
end
section
variable{X:Cx}{wS:List (vW×Obj)}{σ:St}{H H':Hp}{s s':vk}{B D?:Heap}{ea C:vW}{cls:vB}{od:Option vW}{E:XK}
end
section
variable{prog:vj}{w:vC}{A:vK}{R':Result->vk->Prop}{s:vk}
end
section
variable{X:Cx}{E:XK}{N:List Str}{scope:vx}{nt:Nat}{caps:List Nat}{tg elt iter:vY}{ifs:List vY}{pos:Pos}{it:DI}{g:DG}{c:DB}{te:DE}
end
def Lr:List D->Option (List Key)
 |[]=>uA []
 |d::r=>match OW d,Lr r with
  |some k,uA ks=>uA (k::ks)
  |_,_=>uB
theorem Wa{a:Wd}:∀{ds:List D}{vs:List V}{ks:List Key},HA a ds vs->Lr ds=uA ks->vs=ks.map kV
 |[],vs,ks,r,h=>by cases h;exact r
 |d::ds,vs,ks,r,h=>by
  obtain⟨v,w,rfl,r1,r2⟩:=r;unfold Lr at h;split at h
  .rename_i k q h1 h2;cases h;rw[zY,sW r1 h1,Wa r2 h2]
  .cases h
noncomputable def Mf(d:D)(G:DH):Option (List (List Key×D)):=match d with
 |.ref i=>match G[i]? with
  |some (.RC JA)=>uA JA
  |_=>uB
 |_=>uB
noncomputable def R7:DE:=λ_ G=>.ok (.ref (lN G)) (G++[.RC []])
def Lk(o:D)(ds:List D)(v:D)(G:DH):R D:=match o with
 | .ref p=>match G[p]? with
  |some (.RC JA)=>match Lr ds with
   |some k=>if lN ds<=1000000/\lN JA<1000000 then .ok .KA (G.set p (.RC (putD JA k v)))else .bad
   |none=>.bad
  |_=>.bad
 |_=>.bad
def Mq(to:DE)(tk:DA):DG:=λv S G=>(to S G).bind λo G1=>(tk S G1).bind λds G2=>(Lk o ds v G2).bind λ_ G3=>.ok S G3
def M3(o:DE)(ks:DA)(x:DE):DE:=λS G=>(o S G).bind λo G1=>match Mf o G1 with
 |some _=>(ks S G1).bind λds G2=>if lN ds<=1000000 then(x S G2).bind λx G3=>match Mf o G3,Lr ds with
  |some JA,uA q=>.ok ((Fg JA q).getD x) G3
  |_,_=>.bad
  else .bad
 |none=>.bad
theorem XA.RC{a:Wd}{G:DH}{d:D}{x:V}{JA:List (List Key×D)}(s:XA a G)(r:LB a d x)(h:Mf d G=uA JA):∃i us,d=.ref i/\i<a.n/\x=.ref (a.m i)/\G[i]?=uA (.RC JA)/\a.H (a.m i)=uA (.dT us)/\RA a JA us:=by
 cases d with
 |ref i=>
  unfold Mf at h;dsimp only at h;split at h
  .rename_i TC hg;cases h;obtain⟨us,e,q⟩:=s.obj i _ hg;exact⟨i,us,rfl,r.1,r.2,hg,e,q⟩
  .cases h
 |_=>cases h
def Ext.JY{a:Wd}{p:vW}{us:List (List Key×V)}{ho:HO}(h:a.H p=uA (.dT us)):Ext a (a.put p ho):=
 ⟨rfl,zx _,λ_ _=>rfl,λq xs e=>by
  show upd a.H p ho q=_;rw[Ag (λz=>by subst z;rw[h]at e;cases e)];exact e,λq o u e=>by
  show upd a.H p ho q=_;rw[Ag (λz=>by subst z;rw[h]at e;cases e)];exact e,λ_ t=>t.mono (λq ps e=>by show upd a.H p ho q=_;rw[Ag (λz=>by subst z;rw[h]at e;cases e)];exact e) (λq o u e=>by show upd a.H p ho q=_;rw[Ag (λz=>by subst z;rw[h]at e;cases e)];exact e)⟩
def XA.JY{a:Wd}{G:DH}(s:XA a G){i:Nat}(hi:i<a.n){us VF:List (List Key×V)}{TC:List (List Key×D)}(h:a.H (a.m i)=uA (.dT us))(r:RA (a.put (a.m i) (.dT VF)) TC VF):XA (a.put (a.m i) (.dT VF)) (G.set i (.RC TC)):=by
 refine⟨by rw[jQ];exact s.len,s.inj,λj o e=>?_,λj hj=>?_⟩
 .rw[jy]at e;show QD _ o (upd a.H (a.m i) (.dT VF) (a.m j));by_cases hij:i=j
  .subst hij;rw[if_pos rfl,if_pos (by rw[s.len];exact hi)]at e;cases e;rw[Di];exact⟨VF,rfl,r⟩
  .rw[if_neg hij]at e;rw[Ag λz=>hij (s.inj _ _ (s.lt e) hi z).symm];exact(s.obj j o e).mono (Ext.JY h)
 .show upd a.H (a.m i) (.dT VF) (a.m j)≠uB;by_cases hij:a.m j=a.m i
  .rw[hij,Di];simp
  .rw[Ag hij];exact s.tr j hj
theorem yV{E:XK}{a:Wd}{r:R (List D)}{f:List D->DH->R PB}{Q:St->Hp->Prop}(h:Ec E a (r.bind f) Q):
  Ce E a r (λvs H=>∃(b:Wd)(ds:List D)(G:DH),b.H=H/\Ext a b/\XA b G/\HA b ds vs/\r=.ok ds G/\Ec E b (f ds G) Q):=by
 cases r with
 |ok d G=>exact λb v x s q=>⟨b,d,G,rfl,x,s,q,rfl,Ec.mono x h⟩
 |err e G=>exact h
 |bad=>exact h
section
variable{X:Cx}{E:XK}
def yW{a:Wd}{G:DH}{Q:VK}(s:XA a G)(h:out E a (.ok (.ref (lN G)) (G++[.RC []])) Q)(p:vW)(hp:a.H p=uB):Q (.ref p) (upd a.H p (.dT [])):=
 h (a.push p (.dT [])) (.ref p) (Ext.push hp) (s.push hp ⟨[],rfl,RA.nil⟩) ⟨by rw[s.len];exact qC _,by show V.ref p=V.ref (if lN G=a.n then p else _);rw[if_pos s.len]⟩
def yX{pos:Pos}:QE X E (.Dict [] [] pos) R7:=oJ.mono λσ H Q h=>by obtain⟨a,S,G,hk,rfl,s,r,h⟩:=h;exact λp hp=>yW s h p hp
theorem dJ(hu:X.A.units+64<cLine){o:vY}{es:List vY}{x1:_}{to:DE}{tk:DA}{pos PH:Pos}(ho:QE X E o to)(hi:QA X E es tk)
  (ha:∀v,assign (.Subscript o (.Tuple es x1 PH) pos) X.env v=(do
   let ov<-holding [v] (eval o X.env);let iv<-holding [v,ov] (eval (.Tuple es x1 PH) X.env)
   standAt pos
   holding [v,ov,iv] (setItem ov iv v)
   release [v,ov,iv] []):=by intro _;rfl):QG X E (.Subscript o (.Tuple es x1 PH) pos) (Mq to tk):=(aF ho (V9 hi) (set_dict hu) ha).mono λv σ H Q h=>by
 obtain⟨a,S,G,d,hk,rfl,s,r,q,h⟩:=h;refine⟨a,S,G,hk,rfl,s,r,(Vi h).imp ?_⟩;rintro ov _ ⟨b,e,G1,rfl,x,s1,q1,_,h1⟩;refine⟨b,S,G1,x.k.trans hk,rfl,s1,r.mono x,(yV h1).imp ?_⟩;rintro vs _ ⟨c,ds,G2,rfl,y,s2,q2,_,h2⟩;cases e with
 | ref i=>
  unfold Lk at h2;dsimp only at h2;split at h2
  .rename_i JA hx;split at h2
   .rename_i k hkf;split at h2
    .rename_i hl;refine⟨by rw[<-q2.length];exact zN hl.1 TB,λp hp=>?_⟩;have y2:Ext c (c.put p (.tup vs)):=Ext.put hp;have KY:XA (c.put p (.tup vs)) G2:=s2.put hp;have Go:(c.put p (.tup vs)).H p=uA (.tup vs):=Di;rw[Wa q2 hkf]at*;obtain⟨us,e1,r1⟩:=KY.obj i _ hx;have MY:=(q1.mono y).mono y2;have rv:=((q.mono x).mono y).mono y2;have x3:Ext (c.put p (.tup (k.map kV))) ((c.put p (.tup (k.map kV))).put ((c.put p (.tup (k.map kV))).m i) (.dT (putK us k v))):=Ext.JY e1
     have s3:=KY.JY MY.1 e1 (RA.put (k:=k) ⟨r1.1,r1.2.mono x3⟩ (rv.mono x3));exact⟨_,_,MY.2,IM.t e1 Go (by rw[<-r1.len];exact zj hl.2 TB),h2 _ σ (y2.trans x3) s3 ((((r.mono x).mono y).mono y2).mono x3)⟩
    .exact h2.elim
   .exact h2.elim
  .exact h2.elim
 |_=>exact h2.elim
def dM(hu:X.A.units+64<cLine){o f:vY}{es:List vY}{x1:_}{PH apos NB:Pos}{td tx:DE}{tk:DA}(ho:QE X E o td)(he:QA X E es tk)(hf:QE X E f tx)(m:M2 X o "get" apos (.Tuple es x1 PH) f NB):QE X E (.Call (.Attribute o "get" apos) [.Tuple es x1 PH,f] [] NB) (M3 td tk tx):=
 (oQ (by lia) ho (V9 he) hf m).mono λσ H Q h=>by
 obtain⟨a,S,G,hk,rfl,s,r,h⟩:=h;refine⟨a,S,G,hk,rfl,s,r,(Eb h).imp ?_⟩;rintro ov _ ⟨b,d,G1,rfl,x,s1,q1,_,h1⟩;split at h1
 .rename_i kvs0 hd0;obtain⟨i,us,rfl,il,rfl,hg,hh,r1⟩:=s1.RC q1 hd0;refine⟨_,rfl,.inr ⟨us,.inl hh⟩,b,S,G1,x.k.trans hk,rfl,s1,r.mono x,(J9 h1).imp ?_⟩;rintro vs _ ⟨c,ds,G2,rfl,y,s2,q2,_,h2⟩;split at h2
  .rename_i hl;refine⟨by rw[<-q2.length];exact zN hl TB,λp hp=>?_⟩;have y2:Ext c (c.put p (.tup vs)):=Ext.put hp;have KY:XA (c.put p (.tup vs)) G2:=s2.put hp;have Go:(c.put p (.tup vs)).H p=uA (.tup vs):=Di;refine⟨c.put p (.tup vs),S,G2,y.k.trans (x.k.trans hk),rfl,KY,((r.mono x).mono y).mono y2,(Eb (out.mono y2 h2)).imp ?_⟩;rintro fv _ ⟨c3,dx,G3,rfl,y3,s3,q3,_,h3⟩;split at h3
   .rename_i JA k e1 e2;have MY:=((q1.mono y).mono y2).mono y3;obtain⟨i',VF,ei,il',ex,hg',hh',r'⟩:=s3.RC MY e1;cases ei;have ev:=Wa q2 e2;have hp3:c3.H p=uA (.tup (k.map kV)):=by rw[<-ev];exact y3.tup p vs Go
    have em:c3.m i=b.m i:=by
     have:=ex;injection this with z
     exact z.symm
    have g:=HM.t (k:=k) (show c3.H (b.m i)=uA (.dT VF) by rw[<-em];exact hh') hp3;rcases r'.val (k:=k)with⟨e3,e4⟩|⟨v,w,e3,e4,e5⟩
    .rw[e4]at g;rw[e3]at h3;exact⟨uB,g,h3 c3 _ (Ext.refl _) s3 q3⟩
    .rw[e4]at g;rw[e3]at h3;exact⟨uA w,g,h3 c3 _ (Ext.refl _) s3 e5⟩
   .exact h3.elim
  .exact h2.elim
 .exact h1.elim
end
section
variable{X:Cx}{E:XK}
end
section
variable{prog:vj}{w:vC}{A:vK}{E:vB->vk->Prop}
end
section
variable{X:Cx}{E:XK}
end
section
variable{X:Cx}{E:XK}
end
section
variable{X:Cx}{E:XK}{tg iter elt:vY}{ifs:List vY}{scope:vx}{pos:Pos}{it:DI}{nt:Nat}{caps:List Nat}{g:DG}{c:DB}{te:DE}
end
section
variable{X:Cx}{E:XK}
end
end _D
namespace _D
open PySem PySem.W _L
def NY(s:vA):List Str:=(Bs s).names.filterMap λp=>match p.2 with
 |.local=>uA p.1
 |.cell=>uA p.1
 |_=>uB
def QK(s:vA):List Str:=(NY s).take (lN (Fw s).args)
noncomputable def LL:vA->Str
 |.FunctionDef n _ _ _ _ _ _ _ _ _=>n
 |_=>Str.empty
structure Ev where
 P:vj
 w:vC
 K:wM
 mg:Str->Option vB
 base:Heap
noncomputable def Ask.nm:Ask->Str
 |.z n=>n
 |.gi n _=>n
 |.gs n _=>n
 |.no c x=>c++"."++x
 |_=>Str.empty
def GX(b:List vA)(ex:List Ask)(n:Str):Option Ask:=(Wx b ex).find? λx=>x.nm==n
theorem Vb:∀{l:List Ask},JF K l->∀a∈l,a.IF K
 |[],_,_,h=>nomatch h
 |b::r,h,a,m=>by
  rcases zw.mp m with rfl|m
  .exact h.1
  exact Vb h.2 a m
noncomputable abbrev JP(b:List vA)(i:Nat):Str:=(ZN (UH b i)).1
noncomputable abbrev Cw(b:List vA)(i j:Nat):vA:=(ZN (UH b i)).2.getD j KZ
noncomputable abbrev OY(b:List vA)(i j:Nat):Str:=JP b i++"."++LL (Cw b i j)
structure Gx (b:List vA) (ex:List Ask) (U:Ev):Prop where
 h:∃h,U.K.In h/\h.Ns vS U.mg
 S:∀a∈Wx b ex,a.IF U.K
section
variable{b:List vA}{ex:List Ask}{U:Ev}(T:Gx b ex U)
include T
def Gx.has(e:GX b ex n=uA a):a.IF U.K:=T.S _ (List.mem_of_find?_eq_some e)
def Gx.z(e:GX b ex n=uA (.z n):=by kernel_rfl):U.mg n=uB:=by obtain⟨h,X,G⟩:=T.h;exact mg_none_of X G (T.has e)
def Gx.gi(e:GX b ex n=uA (.gi n v):=by kernel_rfl):U.mg n=uA (.int v (Jl U.K n)):=by obtain⟨h,X,G⟩:=T.h;exact mg_of X G (T.has e)
def Gx.gs(e:GX b ex n=uA (.gs n v):=by kernel_rfl):U.mg n=uA (.str v (Jl U.K n)):=by obtain⟨h,X,G⟩:=T.h;exact mg_of X G (T.has e)
def Gx.no(e:GX b ex (c++"."++x)=uA (.no c x):=by kernel_rfl):GD U.K (Ar U.K c) x:=T.has e
def Gx.at (i:Nat):(Qp (UH b i)).IF U.K:=by
 unfold UH List.getD;rcases h:b[i]? with _|s
 .exact rfl
 exact T.S _ (zG _ (zG _ (zG _ (List.mem_map_of_mem (zP h)))))
def Gx.Lo(i j:Nat):(HU (JP b i) (Cw b i j)).IF U.K:=by
 unfold Cw JP UH List.getD;rcases h:b[i]? with _|s
 .exact rfl
 show(HU (ZN s).1 ((ZN s).2[j]?.getD KZ)).IF U.K;rcases a:(ZN s).2[j]? with _|f
 .exact rfl
 exact T.S _ (zG _ (zG _ (qT _ (List.mem_flatMap.mpr ⟨s,zP h,qT _ (List.mem_map_of_mem (zP a))⟩))))
end
def Mo(s:vA):Bool:=decide ((Bs s).kind=.function/\(Bs s).isCoroutine=uD/\(Bs s).isGenerator=uD/\(NY s).Nodup/\(∀x∈QK s,(Bs s).names.lookup x=uA .local\/(Bs s).names.lookup x=uA .cell)/\∀y∈(Bs s).names,y.2≠ .free)
def F?(h:Mo s=uC):KC (NY s) (QK s) (Bs s):=by obtain⟨d,e,c,g,f,a⟩:=of_decide_eq_true h;exact⟨d,e,c,g,by unfold QK;rw[qN,<-List.take_eq_take_min],f,a⟩
def MG(n q:Str)(st:vA):Prop:=∀(kV doc pm:vB)(an:Option vW)(YG ct:vB)(us:List vB),lN us=lN (QK st)->bindArgs (fnOf n q (Fw st) (Eg st) (Bs st) .none kV doc pm an YG ct) ⟨us,[]⟩=pure ((QK st).zip us)
def MG.mk(h:MG n q st:=by first|exact λ_ _ _ _ _ _=>Sm λ_=>rfl|exact λ_ _ _ _ _ _=>Fn λ_ _=>rfl|exact λ_ _ _ _ _ _=>Jn λ_ _ _=>rfl|exact λ_ _ _ _ _ _=>Kn λ_ _ _ _=>rfl|exact λ_ _ _ _ _ _=>Mn λ_ _ _ _ _=>rfl|exact λ_ _ _ _ _ _=>Nn λ_ _ _ _ _ _=>rfl|exact λ_ _ _ _ _ _=>Sn λ_ _ _ _ _ _ _=>rfl):MG n q st:=h
noncomputable abbrev FN:=List D->DH->R D
def GO(U:Ev)(st:vA)(k:Nat)(F:FN):Prop:=FT U.K U.mg (LL st) st (QK st)/\C? U.P U.w U.K U.mg U.base k (LL st) (QK st) F
def GM(U:Ev)(b:List vA)(i j:Nat)(k:Nat)(F:FN):Prop:=MT U.K (JP b i) (LL (Cw b i j)) (OY b i j) (Cw b i j) (QK (Cw b i j))/\MtO U.P U.w U.K U.mg U.base k (JP b i) (LL (Cw b i j)) (QK (Cw b i j)) F
abbrev SC(st:vA):Prop:=KC (NY st) (QK st) (Bs st)
section
variable{b:List vA}{ex:List Ask}{U:Ev}(T:Gx b ex U)
include T
def Gx.fs(i:Nat)(e:Qp (UH b i)=.fn (LL (UH b i)) (UH b i):=by rfl)(S:Mo (UH b i)=uC:=by kernel_rfl)(a:MG (LL (UH b i)) (LL (UH b i)) (UH b i):=by exact MG.mk):FT U.K U.mg (LL (UH b i)) (UH b i) (QK (UH b i))/\SC (UH b i):=by obtain⟨h,X,G⟩:=T.h;have h:=T.at i;rw[e]at h;exact⟨yK X G h a,F? S⟩
def Gx.ms(i j:Nat)(e:HU (JP b i) (Cw b i j)=.mt (JP b i) (LL (Cw b i j)) (OY b i j) (Cw b i j):=by rfl)(S:Mo (Cw b i j)=uC:=by kernel_rfl)
  (a:MG (LL (Cw b i j)) (OY b i j) (Cw b i j):=by exact MG.mk):MT U.K (JP b i) (LL (Cw b i j)) (OY b i j) (Cw b i j) (QK (Cw b i j))/\SC (Cw b i j):=by
 have h:=T.Lo i j;rw[e]at h;exact⟨yL h a,F? S⟩
def Gx.ct(i:Nat)(e:Qp (UH b i)=.cl c:=by rfl)(f:HU (JP b i) (Cw b i 0)=.mt c "__init__" (c++"."++"__init__") (Cw b i 0):=by rfl):CT U.K U.mg c:=by obtain⟨h,X,G⟩:=T.h;have a:=T.at i;have d:=T.Lo i 0;rw[e]at a;rw[f]at d;exact yM X G a d
end
noncomputable def _root_._L.Cx.ev(X:Cx):Ev:=⟨X.prog,X.w,X.K,X.mg,X.base⟩
def yY{X:Cx}{k j:Nat}{n:Str}{st:vA}{F:FN}{p pos:Pos}{e:vY}{es:List vY}{tr:DA}(I:GO X.ev st k F)(d:GB j X.A)(h:QA X E0 (e::es) tr)(a:LL st=n:=by rfl)
  (c:Nat.ble k j=uC:=by rfl) (i:Gl X n:=by rfl) (f:(n==("__debug__":Str))=uD:=by decide) (g:notStar e=uC:=by rfl) (hp:es.all notStar=uC:=by rfl):QE X E0 (.Call (.Name n p) (e::es) [] pos) (IA F tr):=by
 subst a;exact yO I.2 I.1 d h (Nat.le_of_ble_eq_true c) i f g hp
end _D
namespace _D
open PySem PySem.Spec _L
open PyProof.Rows hiding St
section
variable{X:Cx}{E:XK}
noncomputable def Po(lo c:Int)(n:Nat):It:=⟨λi _=>i<n,λi H x H'=>H'=H/\x=.int (lo+i*c),λi _=>n<=i⟩
def yZ{P:vj}{w:vC}{K:za}{tg:vY}(it:vW)(lo c:Int)(n:Nat):Turn P w K tg (Po lo c n) [it] it (λi h=>IsRangeIter h it (lo+(i:Nat)*c) ((n:Int)-(i:Nat)) c) where
 mem:=by simp
 obj:=λi h st b hb=>by
  have e:b=it:=by simpa using hb
  subst e;exact⟨_,st,λv z=>by have z':Data.fields _=Data.cell v:=z;cases z'⟩
 keep:=λi h h' st k=>k it (by simp) _ st
 item:=by
  intro X hP hw hK hc i wS s σ H E I hf st hg;subst hP hw hK;obtain⟨f0,f1,f2,f3,f4,f5⟩:=hf it (by simp);have W:=Walks.range (prog:=X.prog) (w:=X.w) (I.ok.hd hc) it lo c n;refine W.item i s _ _ hg st λv h' tk hv G? kk=>?_
  obtain⟨t,rfl⟩:=hv;have I1:Inv X wS σ H {s with heap:=h',toks:=tk}:=I.turned (λb o hb e=>kk b o (by simpa using hb) e) f0 f1 f3 f4 f5;exact⟨_,rfl,Jy (s:={s with heap:=h',toks:=tk}) (n:="range_iterator") G? rfl rfl (by decide) ⟨.int (lo+i*c),H,I1,⟨t,rfl⟩,⟨rfl,rfl⟩,G?,λb hb=>(hf b hb).1⟩⟩
 done:=by intro X hP hw hK hc i wS s σ H E I hf st hg;subst hP hw hK;obtain⟨f0,f1,f2,f3,f4,f5⟩:=hf it (by simp);exact wpAny_pyNext_range_end (I.ok.hd hc) st (by have:n<=i:=hg;lia) λh' eb=>⟨rfl,I.turned (t':=s.toks) (λb o hb e=>eb b o hb e) f0 f1 f3 f4 f5⟩
 self:=λ_ _ _ _ _ st h=>wpAny_pyIter_rangeiter st h
def Gd(j c:Int):Nat:=if 0<j then((j-1)/c+1).toNat else 0
def dO{j c:Int}(hc:0<c)(hj:0<=j):Builtin.Range.rangeSize 0 j c=(Gd j c:Nat):=by
 unfold Builtin.Range.rangeSize Gd;rw[if_pos hc];by_cases h:0<j
 .have h2:0<=(j-1)/c:=Int.ediv_nonneg (by lia) (by lia);rw[if_pos h,if_pos h,Int.sub_zero];lia
 .rw[if_neg h,if_neg h]
  rfl
def y0{j c:Int}(hc:0<c)(TZ:c<1000)(hj:0<=j)(hj':j<1000000):Builtin.Range.small 0 j c=uC:=by
 have h1:(j-1)/c<=j:=by
  by_cases h:0<j
  .have:=Int.ediv_le_self (b:=c) (show 0<=j-1 by lia);lia
  .have:j=0:=by lia
   subst this;have:=Int.ediv_neg_of_neg_of_pos (show(0:Int)-1<0 by decide) hc;lia
 have e:=dO (c:=c) hc hj;have h2:((Gd j c:Nat):Int)<=1000001:=by
  unfold Gd
  split <;> lia
 unfold Builtin.Range.small;rw[e];simp only[Builtin.Range.rangeFitsLong,qQ,xk,decide_eq_true_eq,beq_iff_eq,hc,gt_iff_lt,if_true];lia
def iSt(ta:TA):TI:=λσ H R=>ta σ H λvs H1=>∃j c:Int,vs=[.int 0,.int j,.int c]/\(0<c/\c<1000/\0<=j/\j<1000000)/\R (Po 0 c (Gd j c)) H1
theorem y1{tg a b c:vY}{ta:TA}{p pos:Pos}(hg:Gl X "range")(hm:X.mg "range"=uB)(ha:PA X [a,b,c] ta)(hs:wW [a,b,c] X.env=(uD,eval a X.env)::wW [b,c] X.env:=by rfl)(So:(vF pos (wW [b,c] X.env)).any (·.1)=uD:=by rfl):
  PI X tg (.Call (.Name "range" p) [a,b,c] [] pos) (iSt ta):=by
 intro wS s σ H R I h;refine Call_ (Hv I hg hm vf (qa (YA (ha pos wS s σ H _ I h) λus s1 ⟨vs,H1,I1,r1,q1⟩=>?_) hs So));obtain⟨j,c,e,⟨q1,q2,q3,q4⟩,q⟩:=q1;subst e;cases r1 with
 | cons r rr=>
  cases rr with
  | cons r' rr=>
   cases rr with
   | cons r'' rr=>
    cases rr;obtain⟨t,rfl⟩:=r;obtain⟨t',rfl⟩:=r';obtain⟨QY,rfl⟩:=r'';refine call_range_3 (by lia) ?_ (.inl (u1 (by lia)));refine wpAny_pyIter_range (IsRange.new ..) (y0 q1 q2 q3 q4) ?_;have I2:Inv X wS σ H1 {s1 with heap:=s1.heap.push {cls:=.type "range",data:=.fields #[.int 0 t,.int j t',.int c QY]},toks:=s1.toks}:=I1.kept λb o e=>zJ _ e
    refine⟨(s1.heap.push {cls:=.type "range",data:=.fields #[.int 0 t,.int j t',.int c QY]}).objs.size,[(s1.heap.push {cls:=.type "range",data:=.fields #[.int 0 t,.int j t',.int c QY]}).objs.size],_,_,H1,rfl,
     I2.kept (t':=s1.toks) λb o e=>zJ _ e,yZ _ 0 c (Gd j c),?_,λb hb=>?_,q⟩
    .have e1:0+((0:Nat):Int)*c=0:=by simp
     have e2:((Gd j c:Nat):Int)-((0:Nat):Int)=Builtin.Range.rangeSize 0 j c:=by rw[dO q1 q3];simp
     show IsRangeIter _ _ (0+((0:Nat):Int)*c) ((Gd j c:Int)-((0:Nat):Int)) c;rw[e1,e2];exact zA _ rfl
    .have e:b=(s1.heap.push {cls:=.type "range",data:=.fields #[.int 0 t,.int j t',.int c QY]}).objs.size:=by simpa using hb
     subst e;exact I2.Hj (zx _) (I2.SA.fresh (zx _))
noncomputable def Ml(c:Int)(n:Nat):List D:=(zW n).map λ(k:Nat)=>D.int ((k:Int)*c)
def Kw(ds:List D)(G:DH):R LM:=match ds with
 |[.int i,.int j,.int c]=>if i=0/\0<c/\c<1000/\0<=j/\j<1000000 then .ok (.pure (Ml c (Gd j c))) G else .bad
 |_=>.bad
def y9{a:Wd}(c:Int)(n:Nat):XE a (.pure (Ml c n)) (Po 0 c n):=by
 refine⟨(zW n).map λ(k:Nat)=>V.int ((k:Int)*c),?_,λb x i=>⟨λv hv=>?_,λhl=>?_⟩⟩
 .unfold Ml;generalize zW n=l
  induction l with
  |nil=>exact rfl
  |cons k l ih=>exact⟨_,_,rfl,rfl,ih⟩
 .rw[zv]at hv;by_cases hi:i<n
  .rw[qF hi]at hv;have Tl:V.int ((i:Int)*c)=v:=by simpa using hv
   exact⟨hi,λw H' y=>⟨y.2.trans (by rw[xU];exact Tl),y.1⟩⟩
  .rw[zM (by simpa using hi)]at hv;cases hv
 .show n<=i;simpa using hl
def dQ{tg e e' HX:vY}{ta:DA}{p pos:Pos}(hg:Gl X "range")(hm:X.mg "range"=uB)(ha:QA X E [e,e',HX] ta)(hs:wW [e,e',HX] X.env=(uD,eval e X.env)::wW [e',HX] X.env:=by rfl)(So:(vF pos (wW [e',HX] X.env)).any (·.1)=uD:=by rfl):
  QI X E tg (.Call (.Name "range" p) [e,e',HX] [] pos) (Bb Kw ta):=
 (y1 hg hm ha hs So).mono λσ H Q h=>by
  obtain⟨a,S,G,hk,rfl,s,r,h⟩:=h;refine⟨a,S,G,hk,rfl,s,r,(Pg h).imp ?_⟩;rintro vs _ ⟨b,ds,G1,rfl,x,s1,q,-,h1⟩;unfold Kw at h1;split at h1
  .rename_i i j c;split at h1
   .rename_i hj;obtain⟨rfl,hc,MO,hj,hj2⟩:=hj;obtain⟨v,r,e1,q1,v2,r2,e2,q2,v3,r3,e3,q3,q4⟩:=q
    cases(show v=V.int 0 from q1)
    cases(show v2=V.int j from q2)
    cases(show v3=V.int c from q3)
    cases(show r3=[]from q4)
    subst e3;subst e2;exact⟨j,c,e1,⟨hc,MO,hj,hj2⟩,h1 b _ (Ext.refl b) s1 (y9 c (Gd j c))⟩
   .exact h1.elim
  .exact h1.elim
@[simp]theorem dR{j c:Int}{G:DH}(h:0<c/\c<1000/\0<=j/\j<1000000):Kw [.int 0,.int j,.int c] G=.ok (.pure (Ml c (Gd j c))) G:=by unfold Kw;exact if_pos ⟨rfl,h⟩
end
end _D
namespace _D
open PySem PySem.Spec PySem.W _L
open PyProof.Rows hiding St
section
variable{X:Cx}{E:XK}
def Yv:V->List V->Hp->VK->Prop:=λx vs H Q=>∃l xs,x=.ref l/\vs=[]/\H l=uA (.lst xs)/\Q .KA (upd H l (.lst []))
def aZ:LK X "list.clear" Yv:=by intro wS s σ H x vs v us Q I rx rv h;obtain⟨l,xs,rfl,rfl,hH,q⟩:=h;cases rx;have hus:=rv.zero;subst hus;obtain⟨z,MA,n,r,hl,e⟩:=I.Sw hH;refine call_meets F.slot_list_clear ⟨_,e,rfl⟩ F.entry_list_clear (F.args_list_clear_1 _) (AutoSeq1.list_clear_list_0 l MA.toArray n (by rw[zk];lia)) ⟨e,?_⟩;refine⟨.KA,_,I.RO (its':=[]) hH e (by simp) .nil ?_,rfl,q⟩;simp
noncomputable def Lp(o:D)(ds:List D)(G:DH):R D:=match o,ds with
 |.ref i,[]=>match G[i]? with
  |some (.lst _)=>.ok .KA (G.set i (.lst []))
  |_=>.bad
 |_,_=>.bad
def ya:LK X "list.clear" (XT X.K E Lp):=aZ.mono λx xs H Q h=>by
 obtain⟨a,G,d,ds,hk,rfl,s,rd,r,q⟩:=h;unfold Lp at q;split at q
 .rename_i i;split at q
  .rename_i ys hy;obtain⟨vs,e1,r1⟩:=s.lst hy;obtain⟨x3,s3⟩:=Qe s rd.1 e1 HA.nil;cases r;exact⟨a.m i,vs,rd.2,rfl,e1,q _ .KA x3 s3 rfl⟩
  .exact q.elim
 .exact q.elim
end
end _D
namespace _W
open PySem _L _D
def fuel:Nat:=1000000000000000000000000000000000000000000000000000000000000 abbrev FN:=List D->DH->R D abbrev cI (n:Int):DE:=dC (.int n) abbrev cS (n:Str):DE:=dC (.str n) abbrev d1 (a:DE):DA:=Ak a Ba abbrev d2 (a b:DE):DA:=Ak a (Ak b Ba) abbrev d3 (a b c:DE):DA:=Ak a (Ak b (Ak c Ba)) abbrev d4 (a b c d:DE):DA:=Ak a (Ak b (Ak c (Ak d Ba))) abbrev oI (a b:DE):DE:=WA Af a b abbrev oA (a b:DE):DE:=WA Dq a b abbrev oM (a b:DE):DE:=WA Lj a b abbrev oX (a b:DE):DE:=WA Bu a b abbrev oS (a b:DE):DE:=WA Jg a b abbrev oD (a b:DE):DE:=WA Iw a b abbrev oE (a b:DE):DE:=WA Jz a b abbrev oL (a b:DE):DE:=WA Jh a b abbrev oG (a b:DE):DE:=WA Mv a b abbrev oP (a b:DE):DE:=WA Ou a b abbrev sL (k:Nat) (a:DE) (b:DS):DS:=Ae (JC a (gV k)) b abbrev sC (a:DE) (b:DS):DS:=HF (Ai a) b PF abbrev v0:DE:=dV 0 abbrev v1:DE:=dV 1 abbrev v2:DE:=dV 2 abbrev v3:DE:=dV 3 abbrev v4:DE:=dV 4 abbrev v5:DE:=dV 5 abbrev v6:DE:=dV 6 abbrev v7:DE:=dV 7 abbrev v8:DE:=dV 8 abbrev v9:DE:=dV 9 abbrev v10:DE:=dV 10 abbrev v11:DE:=dV 11 abbrev v12:DE:=dV 12 abbrev v13:DE:=dV 13 abbrev g0:DG:=gV 0 abbrev g1:DG:=gV 1 abbrev g2:DG:=gV 2 abbrev g3:DG:=gV 3 abbrev g4:DG:=gV 4 abbrev g5:DG:=gV 5 abbrev g6:DG:=gV 6 abbrev g7:DG:=gV 7 abbrev g8:DG:=gV 8 abbrev g9:DG:=gV 9 abbrev g10:DG:=gV 10 abbrev g12:DG:=gV 12 abbrev c0:DE:=cI 0 abbrev c1:DE:=cI 1 abbrev c2:DE:=cI 2 abbrev c3:DE:=cI 3 abbrev c4:DE:=cI 4 abbrev c5:DE:=cI 5 abbrev c6:DE:=cI 6
noncomputable abbrev dS:List Str:=["self","ways","nodes","node","link"]
def Ur:KC dS (QK (Cw body 11 6)) (Bs (Cw body 11 6)):=E?
noncomputable abbrev dU:List Str:=["house","state","floods","pays","left","draft","supplies","most","flow","prices","many","rows"]
def X4:KC dU (QK (top 34)) (Bs (top 34)):=E?
def Kz:DS:=sL 7 (oI (oI v0 c1) v6) (sL 8 (oI (oI v1 v5) v6) (sL 9 (oI (oI v2 v5) v6) (Ae (sC (oE (oI v7 c0) (cS "town")) (JC (oA v4 (oX (oI v8 c1) v9)) g4)) (Ae (sC (oE (oI v7 c0) (cS "mill")) (JC (oA v4 (oX (IA Ji (d2 (oI v7 c4) (oI v8 c3))) v9)) g4)) (sC (oE (oI v7 c0) (cS "basin")) (sL 4 (oS v4 (oX (oI v8 c4) v9)) (sC (oE (oA v5 c1) (IA Aq (d1 v1))) (JC (oA v4 (oX (oI v8 c5) (oI v3 v6))) g4))))))))
def O1:DS:=Br (Bb HC (d1 (IA Aq (d1 (oI v0 c1))))) g6 Kz
def dW:DS:=YB v4
def dX:DS:=Ae (Br (Bb HC (d1 (IA Aq (d1 v1)))) g5 O1) dW
def dY:DS:=sL 4 c0 dX
def Nz:FN:=Ax 4 6 dY
def dZ:DS:=Ae (sC (oL v1 (IA Aq (d1 v0))) (YB (oI v0 v1))) (YB c0)
def Em:FN:=Ax 2 0 dZ
noncomputable def Tf:DE:=oA (cS "sea") (oI (cS "fghijk") v0)
def Qj:DE:=Aj (VL (cS "aaaaaa") (uA v0) uB)
noncomputable def Uo:DE:=oA (oI (cS "fghijk") v0) (cS "lake")
def Ry:DS:=sL 2 (oM v0 c3) (Ae (sC (oE v2 c0) (YB (Bv (Bb HC (d1 v1)) 1 [] g0 Ao Tf))) (Ae (sC (oE v2 c1) (YB (Bv (Bb HC (d1 v1)) 1 [] g0 Ao Qj))) (YB (Bv (Bb HC (d1 v1)) 1 [] g0 Ao Uo))))
def Iz:FN:=Ax 2 1 Ry
def d6:DS:=YB (oM (oM (oX v0 (cI 48271)) v1) v2)
def Dn:FN:=Ax 3 0 d6
def Mi:DS:=sL 6 (oX (oA c1 (IA Dn (d3 (oA v0 v5) (cI 10243) c4))) v2) (sL 7 (cS "river") (Ae (HF (Gi (Ai (oG v1 c0)) (Ai (oE (IA Dn (d3 (oA v0 v5) (cI 10247) c2)) c0))) (sL 7 (cS "pump") (sL 6 (IA Ji (d2 v6 v1)) (JC (oS v1 v6) g1))) PF) (Ae (JD (Cj Cd v3 (d1 (IA Bc (d3 v4 v6 v7))))) (JC (oA (oA v4 v6) (oX (IA Dn (d3 (oA v0 v5) (cI 10253) c3)) v2)) g4))))
def d7:DS:=sL 3 (Bg (IA Ac Ba)) (sL 4 (oX (IA Dn (d3 v0 (cI 10211) c4)) v2) (Ae (Br (Bb HC (d1 (IA Dn (d3 v0 (cI 10223) c4)))) g5 Mi) (YB (IA Dh (d1 v3)))))
def Ng:FN:=Ax 3 5 d7
def Xu:DS:=sL 4 (Bg (IA Ac (d1 (IA Bc (d2 c0 (IA Ng (d3 v0 v1 v2))))))) (Ae (sC (oG v3 c1) (JD (Cj Cd v4 (d1 (IA Bc (d2 (oS v3 c1) (IA Ng (d3 (oA (oD v0 c3) c1) v1 v2)))))))) (YB (IA Dh (d1 v4))))
def Nf:FN:=Ax 4 1 Xu
def Wv:DS:=YB (oA (oA (IA Bc (d1 (cS "basin"))) v7) (IA Bc (d3 v8 (IA Nf (d4 (oI v0 c2) v11 v3 v4)) v10)))
def Ut:DS:=Ae (HF (Gi (Ai (oG v5 c1)) (Ai (oE (IA Dn (d3 (oI v0 c2) (cI 10067) c2)) c0))) (sL 12 (oI v2 (oM (oA (oA v1 c1) (IA Dn (d3 (oI v0 c2) (cI 10069) (oS v5 c1)))) v5)) (sL 11 (oX (IA Dn (d3 (oI v0 c2) (cI 10079) c6)) v3) (JC (IA Bc (d3 v12 (oI (Aj (IA Ac (Ak c1 (Ak c1 (d4 c2 c3 c4 c5))))) (IA Dn (d3 (oI v0 c2) (cI 10091) c6))) v11)) g10))) PF) Wv
def Ze:DS:=sL 11 c0 Ut
def V5:DS:=sL 10 (dC .KA) Ze
def Su:DS:=Ae (sC (oE v9 c4) (YB (oA (oA (IA Bc (d1 (cS "mill"))) v7) (IA Bc (d1 v8))))) V5
def Mx:DS:=Ae (HF (IG (Ai (oE v9 c2)) (Ai (oE v9 c3))) (YB (oA (oA (IA Bc (d1 (cS "town"))) v7) (IA Bc (d2 v8 (IA Dn (d3 (oI v0 c1) (cI 10061) c3)))))) PF) Su
def d8:DS:=sL 9 (IA Dn (d3 (oI v0 c0) (cI 10039) c5)) Mx
def d9:DS:=sL 8 (oX (IA Dn (d3 (oI v0 c1) (cI 10037) (cI 8))) v3) d8
def da:DS:=sL 7 (IA Bc (d3 (oI v2 v1) v6 (oI (Aj (IA Ac (Ak c0 (Ak c0 (Ak c0 (Ak c1 (Ak c1 (d4 c2 c3 c4 c5)))))))) (IA Dn (d3 (oI v0 c0) (cI 10009) (cI 9)))))) d9
def Vd:DS:=sL 6 (oI (Aj (oA v2 (Aj (IA Ac (d1 (cS "sea")))))) (oA (oA v1 c1) (IA Dn (d3 (oI v0 c0) (cI 10007) (oS v5 v1))))) da
def Pz:DS:=sL 5 (IA Aq (d1 v2)) Vd
def J0:FN:=Ax 5 8 Pz
def dc:DS:=sL 2 (oI v0 c0) (Ae (JC (oD v2 v1) (ON v0 c0)) (YB (oM v2 v1)))
def Ck:FN:=Ax 2 1 dc
def Mg:DS:=sL 6 (oX (oA c1 (IA Ck (d2 v0 c4))) v2) (sL 7 (cS "river") (Ae (HF (Gi (Ai (oE (IA Ck (d2 v0 c2)) c1)) (Ai (oG v1 c0))) (sL 7 (cS "pump") (sL 6 (IA Ji (d2 v6 v1)) (JC (oS v1 v6) g1))) PF) (Ae (JD (Cj Cd v3 (d1 (IA Bc (d3 v4 v6 v7))))) (JC (oA (oA v4 v6) (oX (IA Ck (d2 v0 c3)) v2)) g4))))
def de:DS:=sL 3 (Bg (IA Ac Ba)) (sL 4 (oX (IA Ck (d2 v0 c4)) v2) (Ae (Br (Bb HC (d1 (IA Ck (d2 v0 c4)))) g5 Mg) (YB (IA Dh (d1 v3)))))
def Jc:FN:=Ax 3 5 de
def Wk:DS:=YB (oA v7 (IA Bc (d3 v8 (IA Dh (d1 v12)) v9)))
def Va:DS:=Ae (HF (Gi (Ai (oE (IA Ck (d2 v0 c2)) c1)) (Ai (oG v4 c1))) (JD (Cj Cd v12 (d1 (IA Bc (d2 (oA c1 (IA Ck (d2 v0 (oS v4 c1)))) (IA Jc (d3 v0 v10 v3))))))) PF) Wk
def R5:DS:=sL 12 (Bg (IA Ac (d1 (IA Bc (d2 c0 (IA Jc (d3 v0 v10 v3))))))) Va
def Zc:DS:=Ae (HF (Gi (Ai (oE (IA Ck (d2 v0 c2)) c1)) (Ai (oG (IA Aq (d1 v2)) c1))) (sL 11 (oI v2 (oM (oA (oA v1 c1) (IA Ck (d2 v0 (oS (IA Aq (d1 v2)) c1)))) (IA Aq (d1 v2)))) (sL 10 (oX (IA Ck (d2 v0 c6)) v3) (JC (IA Bc (d3 v11 (oA c1 (IA Ck (d2 v0 c5))) v10)) g9))) PF) R5
def V8:DS:=sL 10 c0 Zc
def Ux:DS:=sL 9 (dC .KA) V8
def Sy:DS:=Ae (sC (oE v5 (cS "mill")) (YB (oA v7 (IA Bc (d1 v8))))) Ux
def K9:DS:=Ae (sC (oE v5 (cS "town")) (YB (oA v7 (IA Bc (d2 v8 (IA Ck (d2 v0 c3))))))) Sy
def df:DS:=sL 8 (oX (IA Ck (d2 v0 (cI 8))) v3) K9
def dg:DS:=sL 7 (IA Bc (d4 v5 (oI v2 v1) v6 (IA Ck (d2 v0 c6)))) df
def dh:DS:=sL 6 (oI (Aj (oA v2 (Aj (IA Ac (d1 (cS "sea")))))) (oA (oA v1 c1) (IA Ck (d2 v0 (oS (IA Aq (d1 v2)) v1))))) dg
def S7:DS:=sL 5 (oI (Aj (IA Ac (d4 (cS "basin") (cS "basin") (cS "town") (cS "mill")))) (IA Ck (d2 v0 c4))) dh
def Jd:FN:=Ax 5 8 S7
def Hx:DS:=sL 7 (Cj Lq v5 (d1 (IA Ck (d2 v0 (IA Aq (d1 v5)))))) (sL 8 (oA (oI (Aj (IA Ac (d3 (cS "") (cS "none") (cS "sea")))) (IA Ck (d2 v0 c3))) (oX v7 (oA c1 (IA Ck (d2 v0 c3))))) (Ae (HF (Gi (Ai (oE (Aj (VL v8 uB (uA c4))) (cS "none"))) (Gi (Ai (WA Ir (cS "none") v4)) (Ai (oE (IA Ck (d2 v0 c2)) c1)))) (JC (cS "none") g8) PF) (JD (Cj Cd v4 (d1 v8)))))
def Nh:DE:=Aj (IA Jd (Ak v1 (d4 v0 v4 v2 v3)))
def di:DS:=YB (IA Bc (d2 v3 (IA Dh (d1 (Aj (Bv (Bb HC (d1 v1)) 1 [0,2,3,4] g0 Ao Nh))))))
def dj:DS:=Ae (Br (Bb HC (d1 v1)) g6 Hx) di
def dk:DS:=sL 5 (Bg (IA Fq (d1 (cS "abcdefghijklmnopqrstuvwxyz")))) dj
def dm:DS:=sL 4 (Bg (IA Ac Ba)) dk
def dq:DS:=sL 3 (oA c1 (IA Ck (d2 v0 c3))) dm
def Q3:FN:=Ax 3 6 dq
def U4:DE:=IA Em (d2 v1 (oA (oA c4 (oX c3 v2)) v0))
def Pr:DS:=Ae (JC (Aj (Bv (Bb HC (d1 c3)) 1 [0,6] g0 Ao U4)) g7) (JD (Cj Cd v5 (d1 (Aj (IA J0 (Ak v7 (d4 v6 v3 v2 v4)))))))
def dr:DS:=YB (IA Bc (d2 v4 (IA Dh (d1 v5))))
def dt:DS:=Ae (Br (Bb HC (d1 v1)) g6 Pr) dr
def du:DS:=sL 5 (Bg (IA Ac Ba)) dt
def dv:DS:=sL 4 (oA c1 (oM (oD (IA Em (d2 v0 c1)) c3) c3)) du
def Wt:DS:=sL 3 (Aj (IA Iz (d2 (IA Em (d2 v0 c1)) v1))) dv
def Xh:DS:=Ae (HF (Ex (Ai (Ov Kf Jh c0 (IA Em (d2 v0 c4)) (oP (cI 10) (cI 18))))) (YB (IA Q3 (d3 (Bg (IA Ac (d1 (IA Em (d2 v0 c4))))) v1 v2))) PF) Wt
def O2:FN:=Ax 3 5 Xh
def U8:DE:=oX (IA Dn (d3 (IA Em (d2 v1 (oA (oA v2 (oX v6 v3)) v0))) (cI 10103) v4)) v5
def Nu:DS:=sL 8 (Aj (Bv (Bb HC (d1 v3)) 1 [0,1,3,4,5,7] g0 Ao U8)) (JD (Cj Cd v6 (d1 (IA Dh (d1 v8)))))
def dw:DS:=sL 6 (Bg (IA Ac Ba)) (Ae (Br (Bb HC (d1 v2)) g7 Nu) (YB v6))
def M6:FN:=Ax 6 3 dw
def Uq:DE:=oX (oD (IA Dn (d3 (oA v2 v0) (cI 10099) c4)) c2) v1
def Kh:DS:=sL 6 (IA Em (d2 v0 (oA (cI 19) v5))) (sL 7 c0 (Ae (sC (oE (oI (oI (oI v1 c1) v5) c0) (cS "basin")) (sL 7 (oX (IA Dn (d3 v6 (cI 10093) (cI 9))) v2) (sC (oG v7 (oI (oI (oI v1 c1) v5) c4)) (JC (oI (oI (oI v1 c1) v5) c4) g7)))) (Ae (JD (Cj Cd v3 (d1 v7))) (JD (Cj Cd v4 (d1 (IA Dh (d1 (Aj (Bv (Bb HC (d1 c5)) 1 [2,6] g0 Ao Uq))))))))))
def Zx:DS:=sL 3 (Bg (IA Ac Ba)) (sL 4 (Bg (IA Ac Ba)) (Ae (Br (Bb HC (d1 (IA Aq (d1 (oI v1 c1))))) g5 Kh) (YB (IA Bc (d2 (IA Dh (d1 v3)) (IA Dh (d1 v4)))))))
def S9:FN:=Ax 3 5 Zx
def Uj:DE:=oX (IA Dn (d3 (IA Em (d2 v1 (oA (cI 54) v0))) (cI 10111) (cI 7))) v2
def Oh:DE:=VO (Ai (oE (oM v0 (cI 7)) (oM v1 (cI 7)))) (oI v2 v0) (IA Bc (d1 c0))
def Uv:DS:=YB (IA Bc (Ak v6 (d4 (IA S9 (d3 v0 v6 v5)) v10 v8 (IA Dh (d1 v9)))))
def Z2:DS:=Ae (sC (oG v4 (cI 7)) (JC (Aj (Bv (Bb HC (d1 v4)) 1 [1,10] g0 Ao Oh)) g10)) Uv
def X8:DS:=sL 10 (Aj (IA M6 (Ak v0 (Ak (cI 24) (d4 v4 v3 c6 v5))))) Z2
def Vs:DS:=sL 9 (Aj (Bv (Bb HC (d1 v3)) 1 [0,7] g0 Ao Uj)) X8
def Vr:DS:=sL 8 (Aj (IA M6 (Ak v0 (Ak (cI 39) (d4 v4 v3 (cI 10) v7))))) Vs
def Zg:DS:=sL 7 (oI (Aj (IA Ac (d3 c1 c1 (cI 100)))) (oM (oD v1 (cI 60)) c3)) Vr
def Xv:DS:=sL 6 (IA O2 (d3 v0 v3 v5)) Zg
def Xf:DS:=sL 5 (oI (Aj (IA Ac (d4 c1 c1 (oA (oP (cI 10) (cI 9)) (cI 7)) (oP (cI 10) (cI 30))))) (oM (oD v1 (cI 15)) c4)) Xv
def Vm:DS:=Ae (JC (oI v2 (IA Dn (d3 v1 (cI 10273) (cI 16)))) (Bm 2 (Ah g3 (Ah g4 Bq)))) Xf
def Vz:DS:=sL 2 (Aj (oA v2 (Aj (IA Ac (d3 (IA Bc (d2 c1 c2)) (IA Bc (d2 c2 (cI 7))) (IA Bc (d2 c1 (cI 20)))))))) Vm
def Yj:DS:=sL 2 (Aj (IA Ac (Ak (IA Bc (d2 c3 c2)) (Ak (IA Bc (d2 c2 c3)) (Ak (IA Bc (d2 c3 c3)) (Ak (IA Bc (d2 c4 c2)) (Ak (IA Bc (d2 c5 c1)) (Ak (IA Bc (d2 c2 c5)) (Ak (IA Bc (d2 c1 (cI 7))) (Ak (IA Bc (d2 c2 c2)) (Ak (IA Bc (d2 c3 c2)) (d4 (IA Bc (d2 c2 c4)) (IA Bc (d2 c1 c4)) (IA Bc (d2 c3 c1)) (IA Bc (d2 c5 c2)))))))))))))) Vz
def Yh:DS:=sL 1 (IA Em (d2 v0 c0)) Yj
def O3:FN:=Ax 1 10 Yh
noncomputable def Uc:DE:=oI v0 c1
def Yp:DS:=sL 2 (Aj (Bv (Dg (oI v0 c1)) 1 [] g0 Ao Uc)) (Ae (sC (oE (oI (oI (oI v0 c1) v1) c2) (cS "sea")) (YB (dC .KA))) (YB (Cj Ls v2 (d1 (oI (oI (oI v0 c1) v1) c2)))))
def Nb:FN:=Ax 2 1 Yp
def Ni:DS:=JC (oI (oI (oI v0 c1) v2) v3) (Mq v1 (d2 v3 v2))
def Og:DS:=Br (Bb HC (d1 c5)) g3 Ni
def dy:DS:=sL 1 R7 (Ae (Br (Bb HC (d1 (IA Aq (d1 (oI v0 c1))))) g2 Og) (YB v1))
def Ue:FN:=Ax 1 3 dy
def Xw:DS:=YB (Hm (oE v4 c0) (Hm (WA Kf v8 (oI v0 c4)) (WA Kf v7 v9)))
def Y9:DS:=Ae (sC (WA Jw (oI v0 c6) (dC .KA)) (JC (oI (oI v0 c6) c2) g9)) Xw
def Wz:DS:=sL 9 c0 Y9
def Rc:DS:=Ae (sC (oE (oI v0 c0) (cS "mill")) (YB (Hm (oE v4 c0) (Hm (oE v7 c0) (oE v8 c0))))) Wz
def Oz:DS:=Ae (sC (oE (oI v0 c0) (cS "town")) (YB (Hm (WA Kf v4 (oI v0 c4)) (Hm (oE v7 c0) (oE v8 c0))))) Rc
def Od:DS:=Ae (HF (IG (Ai (oL (IA Kc (d1 v2)) c0)) (IG (Ai (WA Do v5 c0)) (Ai (WA Do (oA v1 v3) (oA (oA (oA v4 v6) v7) v8))))) (YB (dC (.bl uD))) PF) Oz
def Qh:DS:=Ae (JC v2 (Bm 6 (Ah g3 (Ah g4 (Ah g5 (Ah g6 (Ah g7 (Ah g8 Bq)))))))) Od
def Kv:FN:=Ax 3 7 Qh
def Vj:DS:=sC (WA Jw v2 (dC .KA)) (JC (oA (M3 v0 (d2 v1 v2) c0) v3) (Mq v0 (d2 v1 v2)))
def Le:FN:=Ax 4 0 Vj
noncomputable def dz:DE:=oI v0 c1
def eB:DS:=sL 2 (Aj (Bv (Dg (oI v0 c1)) 1 [] g0 Ao dz)) (YB (Cj Ls v2 (d1 (oI (oI (oI (oI v0 c1) v1) c6) c0))))
def Qv:FN:=Ax 2 1 eB
def Mw:DS:=sL 8 (oI (oI v0 c1) v7) (sL 9 (oI (oI v3 v6) v7) (Ae (HF (IG (Ai (WA Do (oI v9 c0) (oA (oI (oI v2 v6) v7) (M3 v4 (d2 v6 v7) c0)))) (Ex (Ai (IA Kv (d3 v8 (oI v5 v7) v9))))) (YB (dC (.bl uD))) PF) (Ae (JD (IA Le (d4 v4 (oA v6 (oI v8 c3)) (IA Nb (d2 v0 v7)) (oI v9 c3)))) (Ae (sC (oG (oI v9 c4) c0) (JD (IA Le (d4 v4 (oA v6 (oI (oI v8 c6) c1)) (IA Qv (d2 v0 v7)) (oI v9 c4))))) (JC (oI v9 c5) (ON v5 v7))))))
def O8:DS:=Br (Bb HC (d1 (IA Aq (d1 (oI v0 c1))))) g7 Mw
def eC:DS:=YB (dC (.bl uC))
def eE:DS:=Ae (Br (Bb HC (d1 (IA Aq (d1 v2)))) g6 O8) eC
def eF:DS:=sL 5 (Bg (IA Fq (d1 (oI v1 c0)))) eE
def eG:DS:=sL 4 (IA Ue (d1 v1)) eF
def Lh:FN:=Ax 4 6 eG
def eI:DS:=YB (Hm (IA Eo (d2 v0 (dC (.ty "int")))) (Ti (IA Eo (d2 v0 (dC (.ty "bool"))))))
def Lf:FN:=Ax 1 0 eI
def T3:DE:=IA Lf (d1 v0)
def U7:DS:=HF (IG (Ex (Ai (IA Eo (d2 v2 (dC (.ty "tuple")))))) (IG (Ai (WA Do (IA Aq (d1 v2)) c6)) (Ex (Ai (IA J6 (d1 (Aj (Bv (Dg v2) 1 [] g0 Ao T3)))))))) (YB (dC (.bl uD))) PF
def eJ:DS:=Ae (HF (IG (Ex (Ai (IA Eo (d2 v0 (dC (.ty "tuple")))))) (Ai (WA Do (IA Aq (d1 v0)) v1))) (YB (dC (.bl uD))) PF) (Ae (Br (Dg v0) g2 U7) (YB (dC (.bl uC))))
def Qz:FN:=Ax 2 1 eJ
def W4:DS:=HF (IG (Ex (Ai (IA Eo (d2 v3 (dC (.ty "list")))))) (Ai (WA Do (IA Aq (d1 v3)) v1))) (YB (dC (.bl uD))) PF
def eK:DE:=IA Lf (d1 v0)
def R4:DS:=HF (IG (Ex (Ai (IA Eo (d2 v4 (dC (.ty "tuple")))))) (IG (Ai (WA Do (IA Aq (d1 v4)) v2)) (Ex (Ai (IA J6 (d1 (Aj (Bv (Dg v4) 1 [] g0 Ao eK)))))))) (YB (dC (.bl uD))) PF
def Yk:DE:=IA Qz (d2 v0 v1)
def eM:DS:=Ae (HF (IG (Ex (Ai (IA Eo (d2 v0 (dC (.ty "tuple")))))) (IG (Ai (WA Do (IA Aq (d1 v0)) c3)) (Ex (Ai (IA Lf (d1 (oI v0 c0))))))) (YB (dC (.bl uD))) PF) (Ae (Br (Dg (Aj (IA Ac (d2 (oI v0 c1) (oI v0 c2))))) g3 W4) (Ae (Br (Dg (oI v0 c2)) g4 R4) (YB (IA J6 (d1 (Aj (Bv (Dg (oI v0 c1)) 1 [2] g0 Ao Yk)))))))
def Mz:FN:=Ax 3 2 eM
def Q5:DS:=sL 3 (IA Aq (d1 (oI (Av "Draft" v0 "house") c1))) (Ae (HF (IG (Ai (WA Ih v2 (dC .KA))) (Ai (WA Th v1 (Av "Draft" v0 "turns")))) (YB (oX (Av "Draft" v0 "turns") v3)) PF) (YB (oA (oX v1 v3) v2)))
def Dp:FN:=Ax 3 1 Q5
def eN:DS:=Ae (JC v1 (Bm 3 (Ah g5 (Ah g6 (Ah g7 Bq))))) (Ae (JD (Cj Cd (Av "Draft" v0 "arcs") (d1 (Bg (IA Bc (d4 (Bt "Draft" "node_at" Dp v0 (d2 v5 v6)) v2 v3 v4)))))) (JD (Cj Cd (Av "Draft" v0 "spots") (d1 (Bg v1)))))
def Hd:FN:=Ax 5 3 eN
def Kr:DS:=sC (oE (oI v3 c1) v1) (YB v2)
def eO:DS:=Ae (Br (Bb Er (d1 (oI v0 c1))) (Bm 2 (Ah g2 (Ah g3 Bq))) Kr) Ss
def P0:FN:=Ax 2 2 eO
def Xq:DS:=sL 2 (oI (oI (oI v0 c1) v1) c2) (Ae (sC (oE v2 (cS "sea")) (YB (dC .KA))) (YB (IA P0 (d2 v0 v2))))
def Qk:FN:=Ax 2 1 Xq
def eQ:DS:=sL 5 (Bt "Draft" "node_at" Dp v0 (d2 (oA v1 (oI (oI (oI (Av "Draft" v0 "house") c1) v2) c3)) (IA Qk (d2 (Av "Draft" v0 "house") v2)))) (JD (Bt "Draft" "draw" Hd v0 (d4 (IA Bc (d3 v1 v2 c3)) v5 v3 v4)))
def Ha:FN:=Ax 5 1 eQ
def W3:DS:=sL 5 (oI (oI (Av "Draft" v0 "house") c1) v2) (Ae (JD (Bt "Draft" "draw_river" Ha v0 (d4 v1 v2 (dC .KA) c0))) (Ae (sC (WA Jw (oI v5 c6) (dC .KA)) (sL 6 (Bt "Draft" "node_at" Dp v0 (d2 (oA v1 (oI (oI v5 c6) c1)) (IA P0 (d2 (Av "Draft" v0 "house") (oI (oI v5 c6) c0))))) (JD (Bt "Draft" "draw" Hd v0 (d4 (IA Bc (d3 v1 v2 c4)) v6 (oI (oI v5 c6) c2) (KM Gw v3)))))) (sL 7 (oE v1 (oS (Av "Draft" v0 "turns") c1)) (JD (Bt "Draft" "draw" Hd v0 (d4 (IA Bc (d3 v1 v2 c5)) (Bt "Draft" "node_at" Dp v0 (d2 (oA v1 c1) v2)) (oI v5 c4) (VO (Ai v7) v4 c0)))))))
def M9:FN:=Ax 5 3 W3
def eR:DS:=Ae (JD (Bt "Draft" "draw_river" Ha v0 (d4 v1 v2 (oI (oI (oI (Av "Draft" v0 "house") c1) v2) c4) v3))) (JD (Bt "Draft" "draw_river" Ha v0 (d4 v1 v2 (dC .KA) c0)))
def Pk:FN:=Ax 4 0 eR
def eU:DS:=Ae (JD (Bt "Draft" "draw" Hd v0 (d4 (IA Bc (d3 v1 v2 c1)) (Bt "Draft" "node_at" Dp v0 (d2 v1 (dC .KA))) (oI (oI (oI (Av "Draft" v0 "house") c1) v2) c4) v3))) (JD (Bt "Draft" "draw_river" Ha v0 (d4 v1 v2 (dC .KA) c0)))
def N8:FN:=Ax 4 0 eU
def Lb:DS:=HF (Ai (oE (oI v7 c0) (cS "town"))) (JD (Bt "Draft" "draw_town" N8 v0 (d3 v4 v6 (oI v5 v6)))) (HF (Ai (oE (oI v7 c0) (cS "mill"))) (JD (Bt "Draft" "draw_mill" Pk v0 (d3 v4 v6 (oI v5 v6)))) (JD (Bt "Draft" "draw_basin" M9 v0 (d4 v4 v6 (oI v5 v6) (oI v3 v6)))))
def M8:DS:=Br (Bb Er (d1 (oI v1 c1))) (Bm 2 (Ah g6 (Ah g7 Bq))) Lb
def Tc:DS:=Ae (Cm "Draft" v0 v1 "house") (Ae (Cm "Draft" v0 (IA Aq (d1 v2)) "turns") (Ae (Cm "Draft" v0 (Bg (IA Ac Ba)) "arcs") (Ae (Cm "Draft" v0 (Bg (IA Ac Ba)) "spots") (Br (Bb Er (d1 v2)) (Bm 2 (Ah g4 (Ah g5 Bq))) M8))))
def O9:FN:=Ax 4 4 Tc
def eV:DS:=YB (IA Dh (d1 (Aj (oA (Aj (IA Ac (d1 (oS (IA Gg (d1 (Aj (VL v0 (uA c1) uB)))) v1)))) (Aj (VL v0 (uA c1) uB))))))
def Rw:FN:=Ax 2 0 eV
def M4:DE:=Bg (WA Jr (IA Ac (d1 c0)) c6)
def Q4:DS:=Ae (JC v5 (Bm 3 (Ah g7 (Ah g8 (Ah g9 Bq))))) (Ip (oI v4 (Bt "Draft" "node_at" Dp v0 (d2 v7 v8))) v9 v6 Mr)
def Z0:DE:=IA Rw (d2 v0 v1)
noncomputable def Sg:DE:=oI v0 c5
def Oq:DS:=sL 13 (Aj (Bv (Bb (Gz 2) (d2 (Aj (VL v4 (uA v12) (uA (oA v12 v3)))) v11)) 2 [] (Bm 2 (Ah g0 (Ah g1 Bq))) Ao Z0)) (sL 11 (Aj (Bv (Dg v13) 1 [] g0 Ao Sg)) (JD (Cj Cd v10 (d1 (IA Dh (d1 v13))))))
def eW:DS:=sL 3 (IA Aq (d1 (oI (Av "Draft" v0 "house") c1))) (sL 4 (Bv (Bb HC (d1 (oX (Av "Draft" v0 "turns") v3))) 1 [] g0 Ao M4) (Ae (Br (Bb (Gz 2) (d2 (Av "Draft" v0 "spots") v2)) (Bm 2 (Ah g5 (Ah g6 Bq))) Q4) (sL 10 (Bg (IA Ac Ba)) (sL 11 (oI v1 c0) (Ae (Br (Bb Kw (d3 c0 (IA Aq (d1 v4)) v3)) g12 Oq) (YB v10))))))
def Qi:FN:=Ax 3 11 eW
def eX:DS:=Ae (JD (Cj Cd (oI (Av "Sending" v0 "links_from") v1) (d1 (Bg (IA Aq (d1 (Av "Sending" v0 "ends"))))))) (Ae (JD (Cj Cd (Av "Sending" v0 "ends") (d1 (Bg v2)))) (Ae (JD (Cj Cd (Av "Sending" v0 "worths") (d1 (Bg (oS (oX v3 (Av "Sending" v0 "scale")) c1))))) (JD (Cj Cd (Av "Sending" v0 "rooms") (d1 (Bg v4))))))
def Hh:FN:=Ax 5 0 eX
def Mu:DE:=Bg (IA Ac Ba)
def Je:DS:=Ae (JD (Bt "Sending" "add_link" Hh v0 (d4 (oI v5 c0) (oI v5 c1) (oI v5 c3) (VO (Ai (WA Ih (oI v5 c2) (dC .KA))) v4 (oI v5 c2))))) (JD (Bt "Sending" "add_link" Hh v0 (d4 (oI v5 c1) (oI v5 c0) (KM Gw (oI v5 c3)) c0)))
def eY:DS:=sL 4 (oA (IA Gg (d1 v3)) c1) (Ae (Cm "Sending" v0 (oA v1 c1) "scale") (Ae (Cm "Sending" v0 (Bg (oA (Aj (IA Fq (d1 v3))) (Aj (IA Ac (d1 c0))))) "left") (Ae (Cm "Sending" v0 (Bv (Dg (Av "Sending" v0 "left")) 1 [] g0 Ao Mu) "links_from") (Ae (Cm "Sending" v0 (Bg (IA Ac Ba)) "ends") (Ae (Cm "Sending" v0 (Bg (IA Ac Ba)) "worths") (Ae (Cm "Sending" v0 (Bg (IA Ac Ba)) "rooms") (Br (Dg v2) g5 Je)))))))
def Qx:FN:=Ax 4 2 eY
def O4:DS:=(Ae (JC (WA Af (dV 2) (WA Af (Av "Sending" (dV 0) "ends") (dV 4))) (gV 5)) (HF (Gi (Ai (WA Mv (WA Af (Av "Sending" (dV 0) "rooms") (dV 4)) (dC (.int 0)))) (Ai (WA Jw (dV 5) (dC .KA)))) (Ae (JC (WA Dq (dV 5) (WA Af (Av "Sending" (dV 0) "worths") (dV 4))) (gV 6)) (HF (IG (Ai (WA Ih (dV 3) (dC .KA))) (Ai (WA Jh (dV 3) (dV 6)))) (JC (dV 6) (gV 3)) PF)) PF))
def eZ:DS:=sL 3 (oI v2 v1) (Ae (Br (Dg (oI (Av "Sending" v0 "links_from") v1)) g4 O4) (YB v3))
def Oo:FN:=Ax 3 4 eZ
def e6:DE:=dC .KA
def N5:DS:=sL 4 (Bt "Sending" "best_way" Oo v0 (d2 v3 v1)) (sC (WA Do v4 (oI v1 v3)) (Ae (JC v4 (ON v1 v3)) (JC (dC (.bl uD)) g2)))
def Ug:DS:=sL 2 (dC (.bl uC)) (Br (Bb SJ (d3 (oS (IA Aq (d1 v1)) c2) (KM Gw c1) (KM Gw c1))) g3 N5)
def M5:DB:=(Ex (Ai (dV 2)))
def e7:DS:=sL 1 (Bv (Dg (Av "Sending" v0 "left")) 1 [] g0 Ao e6) (Ae (JC c0 (ON v1 (KM Gw c1))) (sL 2 (dC (.bl uD)) (Ae (VI M5 Ug fuel) (YB v1))))
def Io:FN:=Ax 1 4 e7
noncomputable def Vh:DE:=v1
def Zf:DB:=(Ai (WA Jz (WA Lj (dV 0) (dC (.int 2))) (dC (.int 1))))
def e8:DS:=YB (Bv (Bb Er (d1 (Av "Sending" v0 "rooms"))) 2 [] (Bm 2 (Ah g0 (Ah g1 Bq))) Zf Vh)
def Ky:FN:=Ax 1 0 e8
def e9:DS:=YB (KM Gw (oD (KM Gw v1) (Av "Sending" v0 "scale")))
def Kg:FN:=Ax 2 0 e9
def ed:DS:=YB (oM (KM Gw v1) (Av "Sending" v0 "scale"))
def Ow:FN:=Ax 2 0 ed
def ef:DS:=sL 4 (VO (Ai (oE (oM v2 c2) c0)) (oA v2 c1) (oS v2 c1)) (Ae (Ip (Av "Sending" v0 "left") v1 v3 Jg) (Ae (Ip (Av "Sending" v0 "left") (oI (Av "Sending" v0 "ends") v2) v3 Mr) (Ae (Ip (Av "Sending" v0 "rooms") v2 v3 Jg) (Ip (Av "Sending" v0 "rooms") v4 v3 Mr))))
def Nj:FN:=Ax 4 1 ef
def Rf:DE:=Bt "Sending" "links_of" Ow v1 (d1 (oI v2 v0))
def Py:DS:=sC (oE (oI v1 v3) (oA (oI v1 (oI (Av "Sending" v0 "ends") v4)) (oI (Av "Sending" v0 "worths") v4))) (JD (Bt "Sending" "send_along" Nj v0 (d3 v3 v4 (IA Ji (d2 (oI (Av "Sending" v0 "left") v3) (oI (Av "Sending" v0 "rooms") v4))))))
def Qn:DS:=Br (Dg (oI (Av "Sending" v0 "links_from") v3)) g4 Py
def eh:DS:=sL 2 (Aj (Pu "Sending" "send_by" (d1 (oS (IA Aq (d1 v1)) c1)) [0,1] Rf)) (Br (Dg v2) g3 Qn)
def Pb:FN:=Ax 2 3 eh
noncomputable def Vl:DE:=oI v0 c0
def Wu:DB:=(Ai (WA Ih (WA Af (dV 0) (dC (.int 2))) (dC .KA)))
def Pn:DS:=sC (WA Ir v3 v2) Ss
def el:DS:=sL 2 (Aj (Bv (Dg v1) 1 [] g0 Wu Vl)) (Br (Bb HC (d1 v0)) g3 Pn)
def Ud:FN:=Ax 2 2 el
def Q6:DS:=Ae (JD (Bt "Sending" "send_by" Pb v3 (d1 v4))) (JC (Aj (Bt "Sending" "best_ways" Io v3 Ba)) g4)
def Pq:DB:=(Ai (WA Mv (IA Gg (Ak (Aj (VL (Av "Sending" (dV 3) "left") uB (uA (dV 0)))) Ba)) (dC (.int 0))))
noncomputable def Wn:DE:=oX v0 (oI v1 c3)
def Qg:DE:=Bt "Sending" "gain_of" Kg v1 (d1 v0)
def eo:DS:=YB (IA Bc (d3 v6 v5 (Aj (Bv (Dg (Aj (VL v4 uB (uA v0)))) 1 [3] g0 Ao Qg))))
def et:DS:=sL 6 (IA Gg (d1 (Aj (Bv (Bb (Gz 2) (d2 v5 v1)) 2 [] (Bm 2 (Ah g0 (Ah g1 Bq))) Ao Wn)))) eo
def fB:DS:=sL 5 (Aj (Bt "Sending" "flow_sent" Ky v3 Ba)) et
def fC:DS:=Ae (VI Pq Q6 fuel) fB
def fE:DS:=sL 4 (Aj (Bt "Sending" "best_ways" Io v3 Ba)) fC
def fF:DS:=sL 3 (Lw "Sending" Qx (d3 v0 v1 v2)) fE
def fG:DS:=Ae (JD (IA Ud (d2 v0 v1))) fF
def Tr:FN:=Ax 3 4 fG
def Kd:DS:=sL 9 (VO (Ai (oL v5 (IA Aq (d1 (oI v3 v7))))) (oI (oI v3 v7) v5) c0) (sL 10 (VO (Ai (oE v5 c0)) (oI v2 v7) c0) (JD (Cj Cd v4 (d1 (oA (oA v8 v9) v10)))))
def N6:DS:=Br (Bb Er (d1 v6)) (Bm 2 (Ah g7 (Ah g8 Bq))) Kd
def fJ:DS:=Ae (JC v0 (Bm 2 (Ah g2 (Ah g3 Bq)))) (sL 4 (Bg (IA Ac Ba)) (Ae (Br (Bb Er (d1 v1)) (Bm 2 (Ah g5 (Ah g6 Bq))) N6) (YB v4)))
def Nq:FN:=Ax 2 9 fJ
def Oe:DE:=IA Dh (d1 (Aj (VL v1 (uA v0) (uA (oA v0 v2)))))
def fK:DS:=sL 5 (Lw "Draft" O9 (d3 v0 v3 v4)) (sL 6 (Aj (IA Nq (d2 v1 v2))) (Ae (JC (Aj (IA Tr (d3 (IA Aq (d1 v6)) (Av "Draft" v5 "arcs") v6))) (Bm 3 (Ah g7 (Ah g8 (Ah g9 Bq))))) (sL 10 (IA Aq (d1 (oI v0 c1))) (sL 11 (Bv (Bb Kw (d3 c0 (IA Aq (d1 v9)) v10)) 1 [9,10] g0 Ao Oe) (YB (IA Bc (d3 v7 (Bt "Draft" "pages_by" Qi v5 (d2 v1 v8)) v11)))))))
def Lg:FN:=Ax 5 7 fK
def fL:DS:=YB (IA Lh (d4 v1 v2 v3 (oI v9 c1)))
def fM:DS:=Ae (HF (IG (Ex (Ai (IA Mz (d3 v9 (IA Aq (d1 v3)) v6)))) (Ai (WA Do (oI v9 c0) (oI v8 c0)))) (YB (dC (.bl uD))) PF) fL
def fN:DS:=sL 9 (Bg (IA Lg (Ak v1 (d4 v2 (Aj (IA Fq (d1 v3))) (Aj (IA Fq (d1 v4))) v5)))) fM
def fO:DS:=Ae (JD (Cj Cd (oI v8 c2) (d1 (Bg c1)))) fN
def fP:DS:=Ae (JD (Cj Lp (oI v8 c1) Ba)) fO
def fQ:DS:=Ae (HF (IG (Ex (Ai (IA Lh (d4 v1 v2 v3 (oI v8 c1))))) (Ai (WA Do (oI v8 c0) (IA Nz (d4 v1 (oI v8 c1) v4 v5))))) (YB (dC (.bl uD))) PF) fP
def fR:DS:=Ae (HF (IG (Ex (Ai (IA Mz (d3 v8 (IA Aq (d1 v3)) v6)))) (Ai (WA Do v7 (Aj (IA Ac (d2 v3 v4)))))) (YB (dC (.bl uD))) PF) fQ
def fU:DS:=sL 8 (Bg (IA Lg (Ak v1 (d4 v2 (oI v7 c0) (oI v7 c1) v5)))) fR
def fV:DS:=sL 7 (Aj (IA Ac (d2 (Aj (IA Fq (d1 v3))) (Aj (IA Fq (d1 v4)))))) fU
def fW:DS:=sL 6 (IA Aq (d1 (oI v1 c1))) fV
def fX:DS:=Ae (JC (Aj (IA O3 (d1 v0))) (Bm 5 (Ah g1 (Ah g2 (Ah g3 (Ah g4 (Ah g5 Bq))))))) fW
def K3:FN:=Ax 1 9 fX
def Holds:Prop:=∀ns:List Int,ns.length<=63->∃G,K3 [.fl (ns.map D.int)] [.tab "Sending" "send_by"]=.ok (.bl uC) G
end _W
namespace _W
open PySem _L _D
seal QE QT QA QS UL QG WT QI QN QW QO
structure Txt (U:Ev):Prop extends Gx body MZ U where
 bm:OM U.base U.mg
def yb{K:za}{C m x qual:Str}{Ca f c P:vW}{st:vA}{fd:vq}(hN:zb K vS C=uA (uA (.ref Ca)))(hm:zd K (.ref Ca) m=uA (uA (.ref f)))(F:TL K x qual st f fd)(t:TabAt K C m c P):fd.code=.ref c:=by obtain⟨Ca',f',oc,od,fd',sl,e1,e2,e3,e4,_⟩:=t;rw[hN]at e1;cases e1;rw[hm]at e2;cases e2;obtain⟨oc2,od2,kV,doc,pm,an,YG,ct,RX,e5,lk,_⟩:=F.ex;rw[lk]at e3;cases e3;exact e4
section
seal Gi Hm dC Ov Bv Ak Av IA Aj M3 VO Lw Bt Cj R7 Ba Ex Ti WA IG VL Pu Bg Ai KM dV J6 Eo Aq Fq Ji Kc Gg Dh Ah ON Mq Bq Bm gV Er Bb Dg Gz Cd Lp Ls Lq Dq Iw Jz Th Mv Ih Jw Af Kf Jh Lj Bu Do Gw Ir Ou Jr Jg HC SJ Kw JC Ip Ss JD Cm Br HF PF YB Ae VI
local macro_rules | `(tactic|trivial)=> `(tactic|first|refine' (_:String)|refine' (_:Str)|refine' (_:vW))
local macro_rules | `(tactic|trivial)=>pure (wR "QS _ _|_ (JC (Aj _) _):-sJ ?|(Stmt.Assign (List.cons (Expr.Name .) List.nil) (Expr.ListComp .) .) _:-yS _ nd ? L ? l l|(Stmt.Assign (List.cons (Expr.Name .) List.nil) .) (JC _ (gV _)):-Z6 _ nd ?|_ (JD _):-bD ?|_ (JC _ _):-Z4 ? ?|_ (Cm _ _ _ _):-uG ? ? ? ? ?|_ (Br _ _ _):-Jp PassesOwn.never rfl ? ? ?|_ (Ip _ _ _ _):-tU ? ? ? ?|_ (VI _ _ _):-pq fuel PassesOwn.never ? ?|@pW,@Nk#QE _ _|_ (dV _):.Ij _|(Expr.Subscript .) (WA _ _ _):-pE ? ? ?|(Expr.Compare .) _:-oW ? ? ? (KJ _)|(Expr.Call (Expr.Name .) .) (IA _ _):<pA ? rfl ? ? ?,<pB ? rfl ? ? ?,^yY ($ T) hr ?^yc yd ye yf yg yh yi yj yk ym yn yo yp yq yt yu yw yx yy yz zl zm zo zp zr zt zu AB AC AD AE|_ (Cj _ _ _):-qt ? ? ? ? ?|_ (Av _ _ _):-uF ? ? ? ?|(Expr.Name .) (dC (D.ty .)):-rW rfl ? ?|_ (VL _ _ _):-so ? ? ?|_ (Bv _ _ _ _ _ _):-yR ? L ? l l|(Expr.Name .) (dC _):<yT rfl ?,<yU rfl ?|(Expr.Call _ (List.cons .) .) (Bt _ _ _ _ _):^cY (CT.N (T.ct 36)) (CT.cl (T.ct 36)) (MT.me (And.left ($ T))) (And.right ($ T)) (hr.mono d) (MT.b (And.left ($ T))) LH ? ?^AF AG AH AI AJ AK AL,^cY (CT.N (T.ct 11)) (CT.cl (T.ct 11)) (MT.me (And.left ($ T))) (And.right ($ T)) (hr.mono d) (MT.b (And.left ($ T))) LH ? ?^AM AN AO AQ AR AS|_ (Bt _ _ _ _ _):^uI (CT.N (T.ct 11)) (CT.cl (T.ct 11)) (MT.me (And.left ($ T))) (And.right ($ T)) (hr.mono d) (MT.b (And.left ($ T))) LH ?^AU AV|_ (Lw _ _ _):-cZ (CT.N (T.ct 11)) (CT.mK (T.ct 11)) (And.right (fY T)) (hr.mono d) rfl (CT.g (T.ct 11)) (MT.b (And.left (fY T))) LH ?,-cZ (CT.N (T.ct 36)) (CT.mK (T.ct 36)) (And.right (fZ T)) (hr.mono d) rfl (CT.g (T.ct 36)) (MT.b (And.left (fZ T))) LH ?|.Yn,.av,.oV,.Zq,@Wj,@bi,@o3,@oy,@oz,@oo,@ol,@om,@rV,@oq#QA _ _|.ot,-ou ? ?#UL _ _|@Bp,.Oi,@Ho#QG _ _|_ (gV _):.bC _ nd|_ (Bm _ _):-pU rfl ?|_ (ON _ _):-pV ? ?#WT _ _|.pS,-pT ? ?#QN _ _|.bR,-rO ?#QT _ _|(Expr.Compare _ (List.cons _ List.nil) .) (Ai _):-Ro ? ? ? (KJ _)|_ (Ai _):-oZ ?|(Expr.BoolOp .) _:-W0 ?|(Expr.Compare _ (List.cons _ (List.cons _ List.nil)) .) _:-oY ? ? ? ? ?|@oj#QI _ _ _|(Expr.Call _ (List.cons _ List.nil) .) (Bb HC _):-pk rfl ? ?|_ (Bb SJ _):-uR rfl ? ?|_ (Bb Er _):-tO rfl ? ?|_ (Bb (Gz 2) _):-tT rfl ? ?|@ph#QW _ _|@ay,@oi,@Xl,@oh#QO _ _|.sj,@sk#GK|_ (gV _):.rG d|@rL#XV|.rH,@rK#=NJ _ _|!P7#=WB _ _ _|!Yi,!uc,!pF,!pI,!L4,!pH,!X2,!L3,!rX,!Na,!pJ,!pY,!pZ,!N4,!tW,.P5 hr.units,.TV hr.units#=OB _ _ _|.pz,.ql,=qo ?,.rB,=qp ?,=rD ?,=rE ?,=tV ?#=Eq _ none|.T.z#=Eq (bootBuiltins _) _|!rk,!sD,!sE,!rZ,!rh,!r9,!r8,!rq,!sA#=Slot _ _ _|!PySem.F.slot_list_append,!PySem.F.slot_list_index,!PySem.F.slot_list_pop#=Eq (typeOf _) _|!PySem.F.type_list_append,!PySem.F.type_list_index,!PySem.F.type_list_pop#=LK _ _ _|!qr,!yQ,!yP#=Eq _ (some _)|.T.gi,.T.gs#=GD _ _ _|.T.no#=UT _ _ _|!rT#*|.CT.N (T.ct 11),.CT.cl (T.ct 11),.CT.N (T.ct 36),.CT.cl (T.ct 36),.hr.mono d")
set_option hygiene false in
local macro_rules | `(tactic|exists $a)=> `(tactic|(have F:=T.fs $a;refine⟨F.1,Hb F.1.F F.2 λYG A outer s H E hr=>?_⟩;have nd:=F.2.nd;trivial))
set_option hygiene false in
local macro_rules | `(tactic|exists $a,$b)=> `(tactic|(have F:=T.ms $a $b;refine⟨F.1,Hb F.1.F F.2 λYG A outer s H E hr=>?_⟩;have nd:=F.2.nd;trivial))
variable{U:Ev}(T:Txt U)
include T
def AE:GO U (top 58) 1 Nz:=by exists 58
def ye:GO U (top 39) 1 Em:=by exists 39
def yu:GO U (top 42) 1 Iz:=by exists 42
def yd:GO U (top 41) 1 Dn:=by exists 41
def yg:GO U (top 43) 2 Ng:=by exists 43
def yp:GO U (top 44) 3 Nf:=by exists 44
def yw:GO U (top 45) 4 J0:=by exists 45
def yc:GO U (top 46) 1 Ck:=by exists 46
def yh:GO U (top 47) 2 Jc:=by exists 47
def yq:GO U (top 48) 3 Jd:=by exists 48
def yt:GO U (top 49) 4 Q3:=by
 have F:=T.fs 49;refine⟨F.1,Hb F.1.F F.2 λYG A outer s H E hr=>?_⟩;have nd:=F.2.nd
 exact(Bp (by trivial) (Bp (by trivial) (Bp (by trivial) (Bp (Jp PassesOwn.never rfl (by trivial) (by trivial) (Bp (by trivial) (Bp (by trivial) (Bp (Nk (W0 (Xl (by trivial) (Xl (Ro bZ av (Ij 4) (by with_unfolding_all rfl)) (by trivial)))) (by trivial) Oi) (by trivial))))) (by trivial)))))
def yx:GO U (top 50) 5 O2:=by exists 50
def yi:GO U (top 52) 2 M6:=by exists 52
def yy:GO U (top 51) 2 S9:=by exists 51
def AD:GO U (top 53) 6 O3:=by exists 53
def zm:GO U (top 54) 1 Nb:=by exists 54
def yz:GO U (top 59) 1 Ue:=by have F:=T.fs 59;refine⟨F.1,Hb F.1.F F.2 λYG A outer s H E hr=>?_⟩;have nd:=F.2.nd;exact(Bp (Z6 1 nd yX) (Bp (Jp PassesOwn.never rfl (by trivial) (by trivial) (Ho (Jp PassesOwn.never rfl (by trivial) (by trivial) (Ho (Z4 (by trivial) (dJ hr.units (Ij 1) (by trivial))))))) (by trivial)))
def zl:GO U (top 64) 1 Kv:=by exists 64
def yj:GO U (top 60) 1 Le:=by have F:=T.fs 60;refine⟨F.1,Hb F.1.F F.2 λYG A outer s H E hr=>?_⟩;have nd:=F.2.nd;exact(Ho (Nk (by trivial) (Ho (Z4 (Wj Yi (dM hr.units (Ij 0) (by trivial) Yn ⟨rfl,rfl,rfl,rfl⟩) (Ij 3)) (dJ hr.units (Ij 0) (by trivial)))) Oi))
def zo:GO U (top 55) 1 Qv:=by exists 55
def yo:GO U (top 65) 2 Lh:=by have F:=T.fs 65;refine⟨F.1,Hb F.1.F F.2 λYG A outer s H E hr=>?_⟩;have nd:=F.2.nd;exact(Bp (by trivial) (Bp (by trivial) (Bp (Jp PassesOwn.never rfl (by trivial) (by trivial) (Ho (Jp PassesOwn.never rfl (by trivial) (by trivial) (Bp (by trivial) (Bp (by trivial) (Bp (Nk (W0 (ay (Ro (TV hr.units) (by trivial) (Wj Yi (by trivial) (dM hr.units (Ij 4) (by trivial) Yn ⟨rfl,rfl,rfl,rfl⟩)) (KJ _)) (by trivial))) (by trivial) Oi) (by trivial))))))) (by trivial))))
def yf:GO U (top 40) 1 Lf:=by exists 40
def zp:GO U (top 56) 2 Qz:=by exists 56
def yn:GO U (top 57) 3 Mz:=by exists 57
def AF:GM U body 36 1 1 Dp:=by exists 36,1
def AG:GM U body 36 2 2 Hd:=by exists 36,2
def yk:GO U (top 26) 1 P0:=by have F:=T.fs 26;refine⟨F.1,Hb F.1.F F.2 λYG A outer s H E hr=>?_⟩;have nd:=F.2.nd;exact(Bp (by trivial) (Ho cK))
def zr:GO U (top 27) 2 Qk:=by exists 27
def AH:GM U body 36 3 3 Ha:=by exists 36,3
def AK:GM U body 36 6 4 M9:=by exists 36,6
def AJ:GM U body 36 5 4 Pk:=by exists 36,5
def AI:GM U body 36 4 4 N8:=by exists 36,4
def fZ:GM U body 36 0 5 O9:=by exists 36,0
def zt:GO U (top 37) 1 Rw:=by exists 37
def AL:GM U body 36 7 2 Qi:=by have F:=T.ms 36 7;refine⟨F.1,Hb F.1.F F.2 λYG A outer s H E hr=>?_⟩;have nd:=F.2.nd;exact(Bp (by trivial) (Bp (by trivial) (Bp (by trivial) (Bp (by trivial) (Bp (by trivial) (Bp (Jp PassesOwn.never rfl (dQ rfl T.z (by trivial)) (by trivial) (by trivial)) (by trivial)))))))
def AM:GM U body 11 1 1 Hh:=by exists 11,1
def fY:GM U body 11 0 2 Qx:=by exists 11,0
def AN:GM U body 11 5 1 Oo:=by exists 11,5
def AU:GM U body 11 4 2 Io:=by exists 11,4
def AV:GM U body 11 8 1 Ky:=by exists 11,8
def AS:GM U body 11 2 1 Kg:=by exists 11,2
def AO:GM U body 11 3 1 Ow:=by exists 11,3
def AQ:GM U body 11 7 1 Nj:=by exists 11,7
def AR:GM U body 11 6 5 Pb:=by refine⟨(T.ms 11 6).1,xl (T.ms 11 6).1.F Ur λYG A outer s H E hcd hr=>?_⟩;have nd:=Ur.nd;exact(Bp (Z6 2 Ur.nd (bi (wt (k:=1) (C:="Sending") (m:="send_by") (x:="node") rfl rfl T.z rfl T.z (by trivial) (Qt (dn:=(Bs (Cw body 11 6)).names) (N0:=dS) (N:=["node","self","ways"]) (nt:=1) (caps:=[0,1])) rfl rfl rfl rfl (λ_ _ _ _ _=>rfl) rfl rfl T.bm (λc P t=>hcd.symm.trans (yb (T.ct 11).N (T.ms 11 6).1.me.at_ (T.ms 11 6).1.F t)) (hr.mono (by decide)) (λf c A s H hr=>(by trivial))))) (by trivial))
def zu:GO U (top 10) 1 Ud:=by
 have F:=T.fs 10;refine⟨F.1,Hb F.1.F F.2 λYG A outer s H E hr=>?_⟩;have nd:=F.2.nd
 exact(Bp (by trivial) (Ho (Jp PassesOwn.never rfl (by trivial) (by trivial) (Ho (Nk (Ro bZ (Ij 3) (Ij 2) (by with_unfolding_all rfl)) (Ho cK) Oi)))))
def AC:GO U (top 9) 6 Tr:=by exists 9
def AB:GO U (top 35) 1 Nq:=by exists 35
def ym:GO U (top 34) 7 Lg:=by
 refine⟨(T.fs 34).1,Hb (T.fs 34).1.F X4 λYG A outer s H E hr=>?_⟩;have nd:=X4.nd
 exact(Bp (by trivial) (Bp (by trivial) (Bp (by trivial) (Bp (by trivial) (Bp (bV 11 rfl X4.nd (Qt (dn:=(Bs (top 34)).names) (N0:=dU) (N:=["first","prices","many"]) (nt:=1) (caps:=[9,10])) (dQ rfl T.z (by trivial)) (λC s₀ H₀ ex=>(bC 0 (show(["first","prices","many"]:List Str).Nodup by decide +kernel))) (by trivial) (λC s₀ H₀ ex=>bR) (λC s₀ H₀ ex=>(by trivial))) (by trivial))))))
def AW:GO U (top 66) 8 K3:=by have F:=T.fs 66;refine⟨F.1,Hb F.1.F F.2 λYG A outer s H E hr=>?_⟩;have nd:=F.2.nd;exact(Bp (by trivial) (Bp (by trivial) (Bp (by trivial) (Bp (by trivial) (Bp (by trivial) (Bp (by trivial) (Bp (bD (qu PySem.F.slot_list_clear PySem.F.type_list_clear ya (by trivial))) (by trivial))))))))
end
def AX{U:Ev}{h:Heap}(X:U.K.In h)(G:h.Ns vS U.mg)(S:JF U.K asks)(To:OM U.base U.mg):Txt U:=⟨⟨⟨h,X,G⟩,Vb S⟩,To⟩
def all_mk{l:vg}{w:vC}{K:za}{h:Heap}{mg:Str->Option vB}{fa Zi T0:vW}(X:K.In h)(G:h.Ns vS mg)(ML:mg "law"=uA (.ref fa))(tb1:(Bh K (Ef K (Ar K "Sending") "send_by")).code=.ref Zi)(f6:zh K Zi T0=uC)(AY:qh K=uC)(S:JF K asks):
  ∃(fd:vq)(c:vW),(∀(s:vk)(v:vB),BindsTo s fd ⟨[v],[]⟩ [("_law_script",v)])/\zh K c T0=uC/\qh K=uC/\TabAt K "Sending" "send_by" c T0/\∀base:Heap,K.In base->base.Ns vS mg->OM base mg->ID l.prog w K mg base MK 8 fa fd ["_law_script"] (lF K K3):=by
 have A:Gx body MZ ⟨l.prog,w,K,mg,h⟩:=⟨⟨h,X,G⟩,Vb S⟩;have F:=A.fs 66;have eL:mg "law"=uA (.ref (Ar K "law")):=F.1.m;obtain rfl:fa=Ar K "law":=by rw[ML]at eL;cases eL;rfl
 have AZ:(Ask.cl "Sending").IF K:=A.at 11;have a:(Ask.mt "Sending" "send_by" "Sending.send_by" (Cw body 11 6)).IF K:=A.Lo 11 6;obtain⟨a1,a2,a3⟩:=a;have l1:=a3.1;rw[tb1]at l1;exact⟨_,Zi,λs v=>yN F.1.F,f6,AY,⟨_,_,_,_,_,_,AZ.1,a1,l1,rfl,f6⟩,λbase _ _ To=>(AW (AX (U:=⟨l.prog,w,K,mg,base⟩) X G S To)).2⟩
def walk{l:vg}{q:vj}{loose:List Str}{XP:(Str->Option vB)->Heap->Prop}{YP:vC->Heap->Prop}{d:DefRec}{K:vC->za}{T0:vC->vW}(hn:l.most=uA 63)(MR:d.params.defaults=[])(HH:Holds)
  (hY:∀(w:vC)(h:Heap),YP w h->(K w).In h/\h.get? (T0 w)=uA (qg #[]))
  (F:∀(w:vC)(mg:Str->Option vB)(fa:vW)(h:Heap),(K w).In h->h.Ns vS mg->mg d.name=uA (.ref fa)->
   ∃(fd:vq)(c:vW),(∀(s:vk)(u:vB),BindsTo s fd ⟨[u],[]⟩ [("_law_script",u)])/\zh (K w) c (T0 w)=uC/\qh (K w)=uC/\TabAt (K w) "Sending" "send_by" c (T0 w)/\∀base:Heap,(K w).In base->base.Ns vS mg->OM base mg->ID l.prog w (K w) mg base MK 8 fa fd ["_law_script"] (lF (K w) K3)):
  u6 q loose XP YP l.row.toRowW d [] (λf vs=>qe f vs):=
 xn (n:=63) (k:=8) (x:="_law_script") (sp:=λw=>lF (K w) K3) hn (by decide) MR ⟨rfl,by decide,by decide⟩ hY λw mg fa h k1 k2 k3=>by
  obtain⟨fd,c,hb,hC,hK,tA,hF⟩:=F w mg fa h k1 k2 k3;refine⟨fd,c,hb,hC,hK,λH a ns hl hO hT hS=>?_,hF⟩;obtain⟨G,hG⟩:=HH ns hl;refine⟨⟨K w,1,λ_=>T0 w,H⟩,[.tab "Sending" "send_by"],[.fl (ns.map D.int)],rfl,rfl,⟨rfl,λi j h1 h2 _=>?_,λi o h=>?_,λi h=>?_⟩,HA.cons ⟨a,ns.map V.int,rfl,?_,HA.ints ns⟩ HA.nil,?_⟩
  .have L8:i<1:=h1;have WQ:j<1:=h2;lia
  .cases i with
   |zero=>
    have h':o=.tab "Sending" "send_by":=by simpa using h.symm
    subst h';exact⟨c,T0 w,tA,#[],hT,trivial,λpos cv z=>by cases z⟩
   |succ i=>simp at h
  .show H (T0 w)≠uB;rw[hT];intro z;cases z
  .rcases hS with(hS|hS)|hS
   .rcases hO a with z|⟨o,xs,z⟩|⟨_,z⟩
    .rw[z]at hS;cases hS
    .rw[z]at hS;cases hS
    .rw[z]at hS;cases hS
   .exact .inl hS
   .exact .inr ⟨⟨ns,rfl⟩,hS⟩
  .rw[hG];exact λb v _ _ r=>r
end _W
namespace _W
open PySem _L _D
variable{G L Γ H M:DH}{A o:DO}{ds NS:List D}{a m n i w u l k q j T b w':Nat}{f g s:Nat->Int}{c x wide pay:Int}{xs sc y ly:List Int}{P:List (Option Int)}{lk:Nat->List Nat}{S:PB}{s1 s2 s3 s0:Option D}{te:DE}{d:D}{ns:List Str}{GA cm rs fl:List (List Int)}{JA:List (List Key×D)}
noncomputable abbrev zI(i:Int):Option D:=uA (.int i)
noncomputable abbrev zR(i:Nat):Option D:=uA (.ref i)
noncomputable abbrev zF(xs:List D):Option D:=uA (.fl xs)
noncomputable abbrev zT(xs:List D):Option D:=uA (.tup xs)
noncomputable abbrev zS(x:Str):Option D:=uA (.str x)
noncomputable abbrev zB(b:Bool):Option D:=uA (.bl b)
section
variable{S:PB}{G:DH}{d v:D}{o:D->D->DH->R D}{t:DE}{r:DA}{a b c e f g h i j k l m n:Option D}
@[simp high]theorem rV0:dV 0 (uA d::S) G=.ok d G:=id rfl
@[simp high]theorem rV1:dV 1 (a::uA d::S) G=.ok d G:=id rfl
@[simp high]theorem rV2:dV 2 (a::b::uA d::S) G=.ok d G:=id rfl
@[simp high]theorem rV3:dV 3 (a::b::c::uA d::S) G=.ok d G:=id rfl
@[simp high]theorem rV4:dV 4 (a::b::c::e::uA d::S) G=.ok d G:=id rfl
@[simp high]theorem rV5:dV 5 (a::b::c::e::f::uA d::S) G=.ok d G:=id rfl
@[simp high]theorem rV6:dV 6 (a::b::c::e::f::g::uA d::S) G=.ok d G:=id rfl
@[simp high]theorem rV7:dV 7 (a::b::c::e::f::g::h::uA d::S) G=.ok d G:=id rfl
@[simp high]theorem rV8:dV 8 (a::b::c::e::f::g::h::i::uA d::S) G=.ok d G:=id rfl
@[simp high]theorem rV9:dV 9 (a::b::c::e::f::g::h::i::j::uA d::S) G=.ok d G:=id rfl
@[simp high]theorem rV10:dV 10 (a::b::c::e::f::g::h::i::j::k::uA d::S) G=.ok d G:=id rfl
@[simp high]theorem rV12:dV 12 (a::b::c::e::f::g::h::i::j::k::l::m::uA d::S) G=.ok d G:=id rfl
@[simp high]theorem rV13:dV 13 (a::b::c::e::f::g::h::i::j::k::l::m::n::uA d::S) G=.ok d G:=id rfl
@[simp 10002]theorem rOC0:WA o (dV 0) (dC v) (uA d::S) G=o d v G:=id rfl
@[simp 10002]theorem rOC1:WA o (dV 1) (dC v) (a::uA d::S) G=o d v G:=id rfl
@[simp 10002]theorem rOC2:WA o (dV 2) (dC v) (a::b::uA d::S) G=o d v G:=id rfl
@[simp 10002]theorem rOC3:WA o (dV 3) (dC v) (a::b::c::uA d::S) G=o d v G:=id rfl
@[simp 10002]theorem rOC4:WA o (dV 4) (dC v) (a::b::c::e::uA d::S) G=o d v G:=id rfl
@[simp 10002]theorem rOC5:WA o (dV 5) (dC v) (a::b::c::e::f::uA d::S) G=o d v G:=id rfl
@[simp 10002]theorem rOC7:WA o (dV 7) (dC v) (a::b::c::e::f::g::h::uA d::S) G=o d v G:=id rfl
@[simp 10002]theorem rOC8:WA o (dV 8) (dC v) (a::b::c::e::f::g::h::i::uA d::S) G=o d v G:=id rfl
@[simp 10002]theorem rOC9:WA o (dV 9) (dC v) (a::b::c::e::f::g::h::i::j::uA d::S) G=o d v G:=id rfl
@[simp high]theorem rOV0:WA o (dV 0) t (uA d::S) G=(t (uA d::S) G).bind λy p=>o d y p:=id rfl
@[simp high]theorem rOV1:WA o (dV 1) t (a::uA d::S) G=(t (a::uA d::S) G).bind λy p=>o d y p:=id rfl
@[simp high]theorem rOV2:WA o (dV 2) t (a::b::uA d::S) G=(t (a::b::uA d::S) G).bind λy p=>o d y p:=id rfl
@[simp high]theorem rOV3:WA o (dV 3) t (a::b::c::uA d::S) G=(t (a::b::c::uA d::S) G).bind λy p=>o d y p:=id rfl
@[simp high]theorem rOV4:WA o (dV 4) t (a::b::c::e::uA d::S) G=(t (a::b::c::e::uA d::S) G).bind λy p=>o d y p:=id rfl
@[simp high]theorem rOV5:WA o (dV 5) t (a::b::c::e::f::uA d::S) G=(t (a::b::c::e::f::uA d::S) G).bind λy p=>o d y p:=id rfl
@[simp high]theorem rOV6:WA o (dV 6) t (a::b::c::e::f::g::uA d::S) G=(t (a::b::c::e::f::g::uA d::S) G).bind λy p=>o d y p:=id rfl
@[simp high]theorem rOV7:WA o (dV 7) t (a::b::c::e::f::g::h::uA d::S) G=(t (a::b::c::e::f::g::h::uA d::S) G).bind λy p=>o d y p:=id rfl
@[simp high]theorem rOV8:WA o (dV 8) t (a::b::c::e::f::g::h::i::uA d::S) G=(t (a::b::c::e::f::g::h::i::uA d::S) G).bind λy p=>o d y p:=id rfl
@[simp high]theorem H?:WA o (dV 12) t (a::b::c::e::f::g::h::i::j::k::l::m::uA d::S) G=(t (a::b::c::e::f::g::h::i::j::k::l::m::uA d::S) G).bind λy p=>o d y p:=id rfl
@[simp high]theorem rCV0:Ak (dV 0) r (uA d::S) G=(r (uA d::S) G).bind λxs p=>.ok (d::xs) p:=id rfl
@[simp high]theorem rCV1:Ak (dV 1) r (a::uA d::S) G=(r (a::uA d::S) G).bind λxs p=>.ok (d::xs) p:=id rfl
@[simp high]theorem rCV2:Ak (dV 2) r (a::b::uA d::S) G=(r (a::b::uA d::S) G).bind λxs p=>.ok (d::xs) p:=id rfl
@[simp high]theorem rCV3:Ak (dV 3) r (a::b::c::uA d::S) G=(r (a::b::c::uA d::S) G).bind λxs p=>.ok (d::xs) p:=id rfl
@[simp high]theorem rCV4:Ak (dV 4) r (a::b::c::e::uA d::S) G=(r (a::b::c::e::uA d::S) G).bind λxs p=>.ok (d::xs) p:=id rfl
@[simp high]theorem rCV5:Ak (dV 5) r (a::b::c::e::f::uA d::S) G=(r (a::b::c::e::f::uA d::S) G).bind λxs p=>.ok (d::xs) p:=id rfl
@[simp high]theorem rCV6:Ak (dV 6) r (a::b::c::e::f::g::uA d::S) G=(r (a::b::c::e::f::g::uA d::S) G).bind λxs p=>.ok (d::xs) p:=id rfl
@[simp high]theorem rCV7:Ak (dV 7) r (a::b::c::e::f::g::h::uA d::S) G=(r (a::b::c::e::f::g::h::uA d::S) G).bind λxs p=>.ok (d::xs) p:=id rfl
@[simp high]theorem rCV8:Ak (dV 8) r (a::b::c::e::f::g::h::i::uA d::S) G=(r (a::b::c::e::f::g::h::i::uA d::S) G).bind λxs p=>.ok (d::xs) p:=id rfl
@[simp high]theorem rCV9:Ak (dV 9) r (a::b::c::e::f::g::h::i::j::uA d::S) G=(r (a::b::c::e::f::g::h::i::j::uA d::S) G).bind λxs p=>.ok (d::xs) p:=id rfl
@[simp high]theorem I?:Ak (dV 10) r (a::b::c::e::f::g::h::i::j::k::uA d::S) G=(r (a::b::c::e::f::g::h::i::j::k::uA d::S) G).bind λxs p=>.ok (d::xs) p:=id rfl
@[simp high]theorem J?:Ak (dV 11) r (a::b::c::e::f::g::h::i::j::k::l::uA d::S) G=(r (a::b::c::e::f::g::h::i::j::k::l::uA d::S) G).bind λxs p=>.ok (d::xs) p:=id rfl
@[simp high]theorem K?:Ak (dV 12) r (a::b::c::e::f::g::h::i::j::k::l::m::uA d::S) G=(r (a::b::c::e::f::g::h::i::j::k::l::m::uA d::S) G).bind λxs p=>.ok (d::xs) p:=id rfl
@[simp high]theorem L?:Ak (dV 13) r (a::b::c::e::f::g::h::i::j::k::l::m::n::uA d::S) G=(r (a::b::c::e::f::g::h::i::j::k::l::m::n::uA d::S) G).bind λxs p=>.ok (d::xs) p:=id rfl
@[simp high]theorem rCC:Ak (dC v) r S G=(r S G).bind λxs p=>.ok (v::xs) p:=id rfl
@[simp 10001]theorem rOtC:WA o t (dC v) S G=(t S G).bind λx p=>o x v p:=id rfl
@[simp 10001]theorem rOCt:WA o (dC v) t S G=(t S G).bind λy p=>o v y p:=id rfl
end
noncomputable def cellAt(ns:List Int)(k:Int):Int:=ns.getD k.toNat 0
def K5{ns:List Int}{k:Int}(hk:0<=k):Em [.fl (ns.map D.int),.int k] G=.ok (.int (cellAt ns k)) G:=by
 unfold Em dZ cellAt;rw[Al];by_cases h:k<lN ns
 .simp[h];rw[By (k:=k.toNat) (by lia) (by rw[zv,zZ (by lia)];rfl)];simp[Bl,zZ (show k.toNat<lN ns by lia)]
 simp[h,Bl,zM (show lN ns<=k.toNat by lia)]
def f7(h:NA (lN G+1) ds=uC):freeze (G++[A]) (.ok (.ref (lN G+1)) (G++A:: .lst ds::L))=.ok (.fl ds) (G++[A]):=by have:=Bj (G:=G++[A]) (L:=L) (by simpa using h);simpa using this
def V3(h:NA (lN G+1) ds=uC):tidy (G++[A]) (.ok (.ref (lN G+1)) (G++A:: .lst ds::L))=.ok (.ref (lN G+1)) (G++[A,.lst ds]):=by have:=Du (G:=G++[A]) (L:=L) (by simpa using h);simpa using this
def A0{B:DO}(h:NA (lN G+2) ds=uC):freeze (G++[A,B]) (.ok (.ref (lN G+2)) (G++A::B:: .lst ds::L))=.ok (.fl ds) (G++[A,B]):=by have:=Bj (G:=G++[A,B]) (L:=L) (by simpa using h);simpa using this
def A3{B:DO}(h:NA (lN G+2) ds=uC):tidy (G++[A,B]) (.ok (.ref (lN G+2)) (G++A::B:: .lst ds::L))=.ok (.ref (lN G+2)) (G++[A,B,.lst ds]):=by have:=Du (G:=G++[A,B]) (L:=L) (by simpa using h);simpa using this
def f9{p:Type}{xs:List p}(h:a<=lN xs):cutD xs uB (uA (a:Int))=xs.take a:=by
 have:=(Jb (lN xs) (a:Int)).1;have e:HT.HB (lN xs) (lN xs) (uA (a:Int))=a:=by lia
 unfold cutD;rw[e];simp[HT.HB]
def A4{p:Type}{xs:List p}(h:a<=lN xs):cutD xs (uA (a:Int)) uB=xs.drop a:=by
 have:=(Jb (lN xs) (a:Int)).2;have e:HT.HB (lN xs) 0 (uA (a:Int))=a:=by lia
 unfold cutD;rw[e];simp[HT.HB];exact xE (by simp)
noncomputable def Ab:Nat->(Nat->Int)->Int
 |0,_=>0
 |n+1,f=>Ab n f+f n
theorem Ey:∀{n:Nat},(∀k,k<n->f k=g k)->Ab n f=Ab n g
 |0,_=>rfl
 |n+1,h=>by show Ab n f+f n=Ab n g+g n;rw[Ey λk hk=>h k (by lia),h n (by lia)]
theorem G9:∀(n:Nat),Ab n (λk=>f k+g k)=Ab n f+Ab n g
 |0=>rfl
 |n+1=>by show Ab n (λk=>f k+g k)+(f n+g n)=_;rw[G9 n];show _=(Ab n f+f n)+(Ab n g+g n);lia
theorem Hc:∀(n:Nat),Ab n (λ_=>0)=0
 |0=>rfl
 |n+1=>by
  show Ab n (λ_=>0)+0=0;rw[Hc n]
  rfl
theorem Vo:∀(n:Nat),Ab n (λk=>c*f k)=c*Ab n f
 |0=>by show 0=c*0;rw[jq]
 |n+1=>by show Ab n (λk=>c*f k)+c*f n=c*(Ab n f+f n);rw[Vo n,vX]
theorem Ew:∀{n:Nat},(∀k,k<n->f k<=g k)->Ab n f<=Ab n g
 |0,_=>qK _
 |n+1,h=>by
  show Ab n f+f n<=Ab n g+g n;have q:=Ew (n:=n) λk hk=>h k (by lia)
  have p:=h n (by lia);lia
theorem Hu{x:Nat->Int}:∀{n u:Nat},u<n->Ab n (λk=>if k=u then x k else 0)=x u
 |0,u,h=>by lia
 |n+1,u,h=>by
  show Ab n (λk=>if k=u then x k else 0)+(if n=u then x n else 0)=x u;by_cases e:n=u
  .subst e;rw[if_pos rfl,Ey λk hk=>if_neg (by lia),Hc];lia
  rw[if_neg e,Hu (by lia)];lia
theorem W2{x:Nat->Nat->Int}:∀(n:Nat),Ab n (λu=>Ab m λi=>x u i)=Ab m λi=>Ab n λu=>x u i
 |0=>by
  show 0=Ab m λi=>0
  rw[Hc]
 |n+1=>by
  show Ab n (λu=>Ab m λi=>x u i)+Ab m (λi=>x n i)=Ab m λi=>Ab n (λu=>x u i)+x n i
  rw[W2 n,G9]
structure ZA where
 fr:Nat
 to:Nat
 mo:Option Int
 ga:Int
variable{as:List ZA}{F:ZA->Int->Int}
def Ce(a:Nat->ZA)(m:Nat)(f:Nat->Int)(u:Nat):Int:=Ab m λi=>if(a i).fr=u then f i else 0
def VN(a:Nat->ZA)(m:Nat)(f:Nat->Int)(u:Nat):Int:=Ab m λi=>if(a i).to=u then f i else 0
structure UJ (n m:Nat) (a:Nat->ZA) (s f:Nat->Int):Prop where
 nn:∀i,i<m->0<=f i
 le:∀i b,i<m->(a i).mo=uA b->f i<=b
 YT:∀u,u<n->Ce a m f u=s u+VN a m f u
structure VM (m:Nat) (a:Nat->ZA) (f p:Nat->Int):Prop where
 more:∀i,i<m->(∀b,(a i).mo=uA b->f i<b)->(a i).ga+p (a i).to<=p (a i).fr
 WM:∀i,i<m->0<f i->p (a i).fr<=(a i).ga+p (a i).to
def K7(a:Nat->ZA)(m:Nat)(f:Nat->Int):Int:=Ab m λi=>f i*(a i).ga
def fc{q:Nat->Nat}{p:Nat->Int}(h:∀i,i<m->q i<n):Ab m (λi=>f i*p (q i))=Ab n λu=>p u*Ab m λi=>if q i=u then f i else 0:=by
 have e:(λu=>p u*Ab m λi=>if q i=u then f i else 0)=λu=>Ab m λi=>if q i=u then f i*p (q i)else 0:=by
  funext u;rw[<-Vo];refine Ey λi _=>?_
  by_cases e:q i=u
  .rw[if_pos e,if_pos e,e,Int.mul_comm]
  rw[if_neg e,if_neg e,jq]
 rw[e,W2];refine Ey λi w=>?_
 have s:(λu=>if q i=u then f i*p (q i)else 0)=λu=>if u=q i then f i*p (q i)else 0:=by
  funext u;by_cases e:q i=u
  .rw[if_pos e,if_pos e.symm]
  rw[if_neg e,if_neg λz=>e z.symm]
 rw[s];exact(Hu (x:=λ_=>f i*p (q i)) (h i w)).symm
def A5{a:Nat->ZA}{p:Nat->Int}(hp:p n=0)(x:∀i,i<m->(a i).fr<n/\(a i).to<=n)(F:UJ n m a s f):Ab m (λi=>f i*p (a i).fr)-Ab m (λi=>f i*p (a i).to)=Ab n λu=>p u*s u:=by
 have C:=fc (q:=λi=>(a i).to) (f:=f) (p:=p) (n:=n+1) λi w=>by have:=(x i w).2;lia
 have A:Ab (n+1) (λu=>p u*Ab m λi=>if(a i).to=u then f i else 0)=Ab n (λu=>p u*VN a m f u):=by
  show Ab n _+p n*_=_;rw[hp,Int.zero_mul,xD]
  rfl
 have B:Ab n (λu=>p u*Ce a m f u)=Ab n (λu=>p u*s u)+Ab n (λu=>p u*VN a m f u):=by
  rw[<-G9];refine Ey λu y=>?_
  rw[F.YT u y,vX]
 have z:Ab m (λi=>f i*p (a i).fr)=Ab n (λu=>p u*Ce a m f u):=(fc (q:=λi=>(a i).fr) (f:=f) (p:=p) (n:=n) (m:=m) λi w=>(x i w).1);lia
def most{a:Nat->ZA}{p:Nat->Int}(hp:p n=0)(K:∀i,i<m->(a i).fr<n/\(a i).to<=n)(F:UJ n m a s f)(S:VM m a f p)(H:UJ n m a s g):K7 a m g<=K7 a m f:=by
 have e:∀x:Nat->Int,UJ n m a s x->K7 a m x=Ab m (λi=>x i*((a i).ga+p (a i).to-p (a i).fr))+Ab n λu=>p u*s u:=λx X=>by
  have B:=A5 hp K X;have I:Ab m (λi=>x i*((a i).ga+p (a i).to-p (a i).fr))+Ab m (λi=>x i*p (a i).fr)=K7 a m x+Ab m (λi=>x i*p (a i).to):=by
   rw[<-G9];unfold K7;rw[<-G9];refine Ey λi _=>?_
   rw[Int.mul_sub,vX];lia
  lia
 rw [e g H,e f F];have:Ab m (λi=>g i*((a i).ga+p (a i).to-p (a i).fr))<=Ab m (λi=>f i*((a i).ga+p (a i).to-p (a i).fr)):=Ew λi q=>by
  generalize M:(a i).ga+p (a i).to-p (a i).fr=r;rcases Int.lt_trichotomy r 0 with z|z|z
  .have J:f i=0:=by have B:=F.nn i q;have I:=S.WM i q;lia
   rw[J,Int.zero_mul];have C:=H.nn i q;exact Int.mul_nonpos_of_nonneg_of_nonpos C (by lia)
  .rw[z,jq,jq];exact qK _
  have y:∃b,(a i).mo=uA b/\b<=f i:=by
   cases E:(a i).mo with
   |none=>
    have:=S.more i q λb y=>by rw[E]at y;cases y
    lia
   |some b=>
    refine⟨b,rfl,Int.not_lt.mp λA=>?_⟩;have:=S.more i q λL w=>by rw[E]at w;cases w;exact A
    lia
  obtain⟨b,B,I⟩:=y;have C:=H.le i b q B;exact q9 (by lia) (by lia)
 lia
inductive Way (m:Nat) (a:Nat->ZA) (f:Nat->Int):Nat->Nat->Int->Prop
 |here (u:Nat):Way m a f u u 0
 |on {i v:Nat} {w:Int}:i<m->(∀b,(a i).mo=uA b->f i<b)->Way m a f (a i).to v w->Way m a f (a i).fr v ((a i).ga+w)
 |back {i v:Nat} {w:Int}:i<m->0<f i->Way m a f (a i).fr v w->Way m a f (a i).to v (w-(a i).ga)
def bump(f:Nat->Int)(i:Nat)(c:Int):Nat->Int:=λk=>if k=i then f k+c else f k
def fg{q:Nat->Nat}:∀{m:Nat},i<m->Ab m (λk=>if q k=w then bump f i c k else 0)=Ab m (λk=>if q k=w then f k else 0)+(if q i=w then c else 0):=λ{m}hi=>by
 have e:(λk=>if q k=w then bump f i c k else 0)=λk=>(if q k=w then f k else 0)+(if k=i then(λk=>if q k=w then c else 0) k else 0):=by
  funext k;unfold bump;by_cases p:k=i
  .subst p
   by_cases s:q k=w<;>simp[s]
  simp[p]
 rw[e,G9,Hu hi]
inductive TW (m:Nat) (a:Nat->ZA) (f d:Nat->Int) (n:Nat):Nat->Nat->Prop
 |here:TW m a f d n 0 n
 |on {i k:Nat}:i<m->(∀b,(a i).mo=uA b->f i<b)->d (a i).fr=(a i).ga+d (a i).to->TW m a f d n k (a i).to->TW m a f d n (k+1) (a i).fr
 |back {i k:Nat}:i<m->0<f i->d (a i).fr=(a i).ga+d (a i).to->TW m a f d n k (a i).fr->TW m a f d n (k+1) (a i).to
def ex(a:Nat->ZA)(m:Nat)(f:Nat->Int)(w:Nat):Int:=Ce a m f w-VN a m f w
def A6{a:Nat->ZA}(hi:i<m):ex a m (bump f i c) w=ex a m f w+(if(a i).fr=w then c else 0)-(if(a i).to=w then c else 0):=by unfold ex Ce VN;rw[fg hi,fg hi];lia
noncomputable def VA:Option Int->D
 |none=>.KA
 |some b=>.int b
def JB(x:ZA):D:=.tup [.int x.fr,.int x.to,VA x.mo,.int x.ga]
@[simp]theorem A7{o:Option Int}:QB n (VA o)=uC:=by cases o<;>rfl
@[simp]theorem A8{x:ZA}:QB n (JB x)=uC:=by simp[JB]
def Dm:NA m (xs.map D.int)=uC:=Fb λ_ _=>rfl
structure KB (n:Nat) (x:ZA):Prop where
 lt:x.fr<n
 up:x.fr<x.to
 le:x.to<=n
 mo:∀b,x.mo=uA b->0<=b
 ga: -1000<=x.ga/\x.ga<=1000
def IX{i k:Int}(h:0<k)(p:k<1000000):Iw (.int i) (.int k) G=.ok (.int (i/k)) G:=by obtain⟨n,rfl⟩:=Int.eq_ofNat_of_zero_le (xT h);exact sS (by lia) (log2_small (Nat.lt_trans (show n<1000000 by lia) (by decide)))
structure SF (n:Nat) (as:List ZA) (s:List Int):Prop where
 n1:1<=n
 n2:n<=30
 len:lN as<=80
 OG:∀x∈as,KB n x
 way:∀k,k<n->∃x∈as,x.fr=k/\x.mo=uB
 sl:lN s=n
 sn:∀x∈s,0<=x
 sb:∀x∈s,x<10^40
noncomputable def Am(as:List ZA):Nat->ZA:=λi=>as.getD i ⟨0,0,uB,0⟩
noncomputable def Aa(xs:List Int):Nat->Int:=λi=>xs.getD i 0
structure RG (n:Nat) (as:List ZA) (s:List Int) (e:Int) (f p:List Int):Prop where
 lf:lN f=lN as
 lp:lN p=n
 fe:UJ n (lN as) (Am as) (Aa s) (Aa f)
 sl:VM (lN as) (Am as) (Aa f) (Aa p)
 ea:e=K7 (Am as) (lN as) (Aa f)
 tw:∀u,u<n->∃k,TW (lN as) (Am as) (Aa f) (Aa p) n k u
 pb:∀v∈p,-1000000000<=v/\v<=1000000000
def Zu{i:Int}(G:DH):Lf [.int i] G=.ok (.bl uC) G:=by unfold Lf eI;rw[Al];simp[Bl,WI]
def Xr(h:i<lN as):Am as i=as[i]:=by
 unfold Am;rw[zK,zZ h]
 rfl
def Gf(h:i<lN xs):Aa xs i=xs[i]:=by
 unfold Aa;rw[zK,zZ h]
 rfl
def La(h:i<lN xs):NC (xs.map D.int) (i:Int)=zI (Aa xs i):=By (k:=i) (by lia) (by rw[zv,zZ h,Gf h];rfl)
def KB.of(h:∀x∈as,KB n x)(hi:i<lN as):KB n (Am as i):=by rw[Xr hi];exact h _ (qw hi)
noncomputable def gP(P:List (Option Int))(u:Nat):Option Int:=P.getD u uB
def dP(P:List (Option Int))(u:Nat):Int:=(gP P u).getD 0
def Nm{x:Option Int}(a:u<lN P):gP (P.set u x) w=if w=u then x else gP P w:=by
 unfold gP;simp[zK];by_cases e:w=u
 .subst e;rw[qA a,if_pos rfl]
  rfl
 rw[z0 λz=>e z.symm,if_neg e]
structure IC where
 n:Nat
 q:Nat
 fr:Nat->Nat
 to:Nat->Nat
 wo:Nat->Int
structure IC.Ok (N:IC):Prop where
 fr:∀l,l<N.q->N.fr l<=N.n
 to:∀l,l<N.q->N.to l<=N.n
 ne:∀l,l<N.q->N.fr l≠N.to l
 wb:∀l,l<N.q-> -40000<=N.wo l
 wu:∀l,l<N.q->N.wo l<=40000
def IC.Way(N:IC)(rm:Nat->Int):Prop:=∀u,u<N.n->∃l,l<N.q/\N.fr l=u/\u<N.to l/\0<rm l
def IC.SK(N:IC)(rm W:Nat->Int):Prop:=∀l,l<N.q->0<rm l->W (N.to l)+N.wo l+(if N.fr l=N.n then 2 else 0)<=W (N.fr l)
structure IC.Fix (N:IC) (rm W:Nat->Int):Prop where
 z:W N.n=0
 fix:∀l,l<N.q->0<rm l->N.fr l<N.n->W (N.to l)+N.wo l<=W (N.fr l)
 VS:∀u,u<N.n->∃l,l<N.q/\N.fr l=u/\0<rm l/\W u=W (N.to l)+N.wo l
 lo:∀u,u<N.n-> -(40000*(N.n:Int))<=W u
def pick(x:Option Int)(w:Int):Option Int:=match x with
 |none=>uA w
 |some z=>if z<w then uA w else uA z
def IC.rl(N:IC)(rm:Nat->Int)(P:List (Option Int))(x:Option Int)(l:Nat):Option Int:=
 if 0<rm l then(match gP P (N.to l)with
  |none=>x
  |some y=>pick x (y+N.wo l))else x
def IC.bw(N:IC)(rm:Nat->Int)(P:List (Option Int))(ls:List Nat)(x:Option Int):Option Int:=ls.foldl (N.rl rm P) x
section
variable{N:IC}{rm π:Nat->Int}{P:List (Option Int)}
def A9{x:Option Int}{z:Int}(h:x=uA z):∃y,N.rl rm P x l=uA y/\z<=y:=by
 subst h;unfold IC.rl;split
 .split
  .exact⟨z,rfl,qK _⟩
  unfold pick;dsimp only;split
  .exact⟨_,rfl,by lia⟩
  exact⟨_,rfl,qK _⟩
 exact⟨z,rfl,qK _⟩
theorem Ap{x:Option Int}{y:Int}(h:0<rm l)(a:gP P (N.to l)=uA y):∃z,N.rl rm P x l=uA z/\y+N.wo l<=z:=by
 unfold IC.rl;rw[if_pos h,a];unfold pick;cases x with
 |none=>exact⟨_,rfl,qK _⟩
 |some z=>
  dsimp only;split
  .exact⟨_,rfl,qK _⟩
  exact⟨_,rfl,by lia⟩
def As{x:Option Int}:N.rl rm P x l=x\/∃y,0<rm l/\gP P (N.to l)=uA y/\N.rl rm P x l=uA (y+N.wo l):=by
 unfold IC.rl;split
 .rename_i h;split
  .exact .inl rfl
  rename_i y a;unfold pick;cases x with
  |none=>exact .inr ⟨y,h,a,rfl⟩
  |some z=>
   dsimp only;split
   .exact .inr ⟨y,h,a,rfl⟩
   exact .inl rfl
 exact .inl rfl
theorem Om:∀(a:List Nat){x:Option Int}{z:Int},x=uA z->∃y,N.bw rm P a x=uA y/\z<=y
 |[],x,z,h=>⟨z,h,qK _⟩
 |l::a,x,z,h=>by obtain⟨y,c,d⟩:=A9 h;obtain⟨w,b,e⟩:=Om a c;exact⟨w,b,by lia⟩
theorem Yb:∀(a:List Nat){x:Option Int}{l:Nat}{y:Int},l∈a->0<rm l->gP P (N.to l)=uA y->∃z,N.bw rm P a x=uA z/\y+N.wo l<=z
 |k::a,x,l,y,b,h,c=>by
  rcases zw.mp b with rfl|b
  .obtain⟨z,e,g⟩:=Ap h c;obtain⟨w,d,f⟩:=Om a e;exact⟨w,d,by lia⟩
  exact Yb a b h c
theorem Xm:∀(a:List Nat)(x:Option Int),N.bw rm P a x=x\/∃l y,l∈a/\0<rm l/\gP P (N.to l)=uA y/\N.bw rm P a x=uA (y+N.wo l)
 |[],x=>.inl rfl
 | k::a,x=>by
  have e:N.bw rm P (k::a) x=N.bw rm P a (N.rl rm P x k):=rfl;rw[e];rcases Xm a (N.rl rm P x k)with h|⟨l,y,f,c,b,d⟩
  .rcases As with g|⟨y,c,b,d⟩
   .exact .inl (h.trans g)
   exact .inr ⟨k,y,by simp,c,b,h.trans d⟩
  exact .inr ⟨l,y,by simp[f],c,b,d⟩
structure WV (N:IC) (rm π:Nat->Int) (P:List (Option Int)):Prop where
 len:lN P=N.n+1
 z:gP P N.n=uA 0
 up:∀u x,gP P u=uA x->u<=N.n->x<=π u
 VS:∀u x,u<N.n->gP P u=uA x->∃l y,l<N.q/\N.fr l=u/\0<rm l/\gP P (N.to l)=uA y/\x<=y+N.wo l
def JE(N:IC)(lk:Nat->List Nat):Prop:=∀u l,l∈lk u↔l<N.q/\N.fr l=u
def lowP(N:IC)(P:List (Option Int))(u:Nat):Prop:=∃x,gP P u=uA x/\ -(40000*((N.n:Int)-u))<=x
def Au(ok:N.Ok)(t:JE N lk)(r:N.SK rm π)(K:WV N rm π P)(C:u<N.n):WV N rm π (P.set u (N.bw rm P (lk u) (gP P u))):=by
 have c:=K.len;have g:∀w,gP (P.set u (N.bw rm P (lk u) (gP P u))) w=if w=u then N.bw rm P (lk u) (gP P u)else gP P w:=λw=>Nm (by lia)
 have b:∀w x,gP P w=uA x->∃y,gP (P.set u (N.bw rm P (lk u) (gP P u))) w=uA y/\x<=y:=λw x h=>by
  rw[g];split
  .rename_i e;subst e;exact Om (lk w) h
  exact⟨x,h,qK _⟩
 refine⟨by rw[jQ];exact c,by rw[g,if_neg (by lia)];exact K.z,λw x h hw=>?_,λw x hw h=>?_⟩
 .rw[g]at h;split at h
  .rename_i e;subst e;rcases Xm (lk w) (gP P w)with s|⟨l,y,k,i,d,f⟩
   .exact K.up w x (s.symm.trans h) hw
   rw[f]at h;cases h;obtain⟨m,o⟩:=(t w l).mp k;have A:=K.up _ _ d (ok.to l m);have a:=r l m i;rw[o,if_neg (by lia)]at a;lia
  exact K.up w x h hw
 have j:∀x,gP P w=uA x->∃l y,l<N.q/\N.fr l=w/\0<rm l/\gP (P.set u (N.bw rm P (lk u) (gP P u))) (N.to l)=uA y/\x<=y+N.wo l:=λx h=>by obtain⟨l,y,k,i,d,f,A⟩:=K.VS w x hw h;obtain⟨p,a,v⟩:=b _ _ f;exact⟨l,p,k,i,d,a,by lia⟩
 rw[g]at h;split at h
 .rename_i e;subst e;rcases Xm (lk w) (gP P w)with s|⟨l,y,k,i,d,f⟩
  .exact j x (s.symm.trans h)
  .rw[f]at h;cases h;obtain⟨m,o⟩:=(t w l).mp k;obtain⟨p,a,v⟩:=b _ _ d;exact⟨l,p,m,o,i,a,by lia⟩
 exact j x h
def BB(K:WV N rm π P)(b:u<N.n)(h:gP P w=uA x):∃y,gP (P.set u (N.bw rm P (lk u) (gP P u))) w=uA y/\x<=y:=by
 have a:=K.len;rw[Nm (by lia)];split
 .rename_i e;subst e;exact Om (lk w) h
 exact⟨x,h,qK _⟩
def BC(ok:N.Ok)(m:JE N lk)(way:N.Way rm)(K:WV N rm π P)(b:u<N.n)(h:∀v,u<v->v<=N.n->lowP N P v):∀v,u<=v->v<=N.n->lowP N (P.set u (N.bw rm P (lk u) (gP P u))) v:=λv p j=>by
 by_cases e:v=u
 .subst e;obtain⟨l,a,f,c,g⟩:=way v b;obtain⟨y,i,q⟩:=h (N.to l) (by lia) (ok.to l a);obtain⟨z,k,o⟩:=Yb (lk v) ((m v l).mpr ⟨a,f⟩) g i;have d:=K.len;refine⟨z,by rw[Nm (by lia),if_pos rfl];exact k,?_⟩;have:=ok.wb l a;lia
 obtain⟨x,a,f⟩:=h v (by lia) j;obtain⟨y,c,g⟩:=BB K b a;exact⟨y,c,by lia⟩
def IC.dn(N:IC)(rm:Nat->Int)(lk:Nat->List Nat):Nat->List (Option Int)->List (Option Int)
 |0,P=>P
 |k+1,P=>N.dn rm lk k (P.set k (N.bw rm P (lk k) (gP P k)))
def IC.LD(N:IC)(rm:Nat->Int)(lk:Nat->List Nat):Nat->List (Option Int)->Bool
 |0,_=>uC
 |k+1,P=>decide (N.bw rm P (lk k) (gP P k)=gP P k)&&N.LD rm lk k (P.set k (N.bw rm P (lk k) (gP P k)))
def VJ(N:IC)(π:Nat->Int)(P:List (Option Int))(u:Nat):Int:=match gP P u with
 |none=>π u+40000*(N.n:Int)+1
 |some x=>π u-x
def SG{x:Option Int}(h:x=gP P k)(hk:k<lN P):P.set k x=P:=by
 refine jM λi=>?_
 by_cases e:k=i
 .subst e;rw[qA hk,h];unfold gP;rw[zK,zZ hk]
  rfl
 rw[z0 e]
theorem fh(ok:N.Ok)(i:JE N lk)(way:N.Way rm)(g:N.SK rm π):∀(k:Nat){P:List (Option Int)},WV N rm π P->k<=N.n->(∀v,k<=v->v<=N.n->lowP N P v)->
  WV N rm π (N.dn rm lk k P)/\(∀v,v<=N.n->lowP N (N.dn rm lk k P) v)/\(N.LD rm lk k P=uC->N.dn rm lk k P=P/\∀u,u<k->N.bw rm P (lk u) (gP P u)=gP P u)/\
  Ab N.n (VJ N π (N.dn rm lk k P))+(if N.LD rm lk k P=uC then 0 else 1)<=Ab N.n (VJ N π P)
 |0,P,K,_,h=>⟨K,λv r=>h v (j6 _) r,λ_=>⟨rfl,λu o=>absurd o (xR _)⟩,by show _+(if uC=uC then(0:Int)else 1)<=_;rw[if_pos rfl];exact Int.le_of_eq (xD _)⟩
 | k + 1,P,K,hk,h=>by
  have p:=K.len;have l:=BC ok i way K (u:=k) (by lia) λv c f=>h v (by lia) f
  obtain⟨A,w,t,m⟩:=fh ok i way g k (Au ok i g K (u:=k) (by lia)) (by lia) l;refine⟨A,w,λhs=>?_,?_⟩
  .have a:(decide (N.bw rm P (lk k) (gP P k)=gP P k)&&N.LD rm lk k (P.set k (N.bw rm P (lk k) (gP P k))))=uC:=hs;rw[qQ,decide_eq_true_eq]at a;have e:=SG a.1 (by lia);obtain⟨c,f⟩:=t a.2;rw[e]at c f;refine⟨by show N.dn rm lk k _=P;rw[e];exact c,λu o=>?_⟩;by_cases d:u=k
   .rw[d];exact a.1
   exact f u (by lia)
  by_cases e:N.bw rm P (lk k) (gP P k)=gP P k
  .have q:=SG e (by lia);have d:N.LD rm lk (k+1) P=N.LD rm lk k P:=by
    show(decide (N.bw rm P (lk k) (gP P k)=gP P k)&&N.LD rm lk k (P.set k (N.bw rm P (lk k) (gP P k))))=_;rw[q,decide_eq_true e]
    rfl
   rw[d];show Ab N.n (VJ N π (N.dn rm lk k (P.set k (N.bw rm P (lk k) (gP P k)))))+_<=_;rw[q]at m⊢;exact m
  .have d:N.LD rm lk (k+1) P=uD:=by
    show(decide (N.bw rm P (lk k) (gP P k)=gP P k)&&_)=_;rw[decide_eq_false e]
    rfl
   rw [d];show Ab N.n (VJ N π (N.dn rm lk k (P.set k (N.bw rm P (lk k) (gP P k)))))+(if uD=uC then(0:Int)else 1)<=_;rw[if_neg (by decide)];have j:∀v,v<N.n->VJ N π (P.set k (N.bw rm P (lk k) (gP P k))) v+(if v=k then 1 else 0)<=VJ N π P v:=λv r=>by
    by_cases ev:v=k
    .rw[if_pos ev];subst ev;obtain⟨z,c,f⟩:=l v (zx _) (by lia);have b:=c;rw[Nm (by lia),if_pos rfl]at b;unfold VJ;rw[c];cases hp:gP P v with
     |none=>dsimp only;lia
     |some x=>
      obtain⟨y,s,F⟩:=Om (lk v) hp;rw[b]at s;cases s;have H:z≠x:=λC=>e (by rw[b,hp,C])
      dsimp only;lia
    .rw[if_neg ev];unfold VJ;rw[Nm (by lia),if_neg ev];lia
   have E:=Ew j;rw[G9,Hu (show k<N.n by lia)]at E
   have:0<=(if N.LD rm lk k (P.set k (N.bw rm P (lk k) (gP P k)))=uC then(0:Int)else 1):=by split <;> decide
   lia
def BD(K:WV N rm π P)(a:∀u,u<N.n-> -(40000*(N.n:Int))<=π u):0<=Ab N.n (VJ N π P):=by
 have h:∀u,u<N.n->0<=VJ N π P u:=λu b=>by
  unfold VJ;cases e:gP P u with
  |none=>have:=a u b;dsimp only;lia
  |some x=>have:=K.up u x e (by lia);dsimp only;lia
 have:=Ew h;rw[Hc]at this;exact this
def BE(ok:N.Ok)(i:JE N lk)(K:WV N rm π P)(lo:∀v,v<=N.n->lowP N P v)(st:∀u,u<N.n->N.bw rm P (lk u) (gP P u)=gP P u):N.Fix rm (dP P)/\∀u,u<=N.n->dP P u<=π u:=by
 have val:∀u,u<=N.n->gP P u=uA (dP P u):=λu b=>by
  obtain⟨x,h,_⟩:=lo u b;unfold dP;rw[h]
  rfl
 have d:∀l,l<N.q->0<rm l->N.fr l<N.n->dP P (N.to l)+N.wo l<=dP P (N.fr l):=λl a c e=>by obtain⟨z,g,j⟩:=Yb (lk (N.fr l)) ((i _ l).mpr ⟨a,rfl⟩) c (val _ (ok.to l a));rw[st _ e,val _ (by lia)]at g;have:=Option.some.inj g;lia
 refine⟨⟨by unfold dP;rw[K.z];rfl,d,λu b=>?_,λu b=>?_⟩,λu b=>K.up u _ (val u b) b⟩
 .obtain⟨l,y,a,c,e,f,k⟩:=K.VS u _ b (val u (by lia));rw[val _ (ok.to l a)]at f;cases f;have:=d l a e (by lia);rw[c]at this;exact⟨l,a,c,e,by lia⟩
 obtain⟨x,a,c⟩:=lo u (by lia);rw[val u (by lia)]at a;cases a;lia
end
theorem XM:∀(n:Nat)(l:List Nat),l.Nodup->(∀x∈l,x<n)->lN l<=n
 |0,l,_,h=>by
  cases l with
  |nil=>exact zx _
  |cons x l=>exact absurd (h x (by simp)) (by lia)
 |n+1,l,c,h=>by
  have b:=XM n (l.erase n) (c.erase n) λx e=>by have d:=(c.mem_erase_iff).mp e;have f:=h x d.2;lia
  by_cases a:n∈l
  .rw[List.length_erase_of_mem a]at b;lia
  rw[List.erase_of_not_mem a]at b;lia
def IC.Sc(N:IC)(ga:Nat->Int):Prop:=∀l,l<N.q->N.wo l=ga l*((N.n:Int)+1)-1
noncomputable def SD(N:IC)(W:Nat->Int)(u:Nat):Int:= -W u%((N.n:Int)+1)
noncomputable def gn(N:IC)(W:Nat->Int)(u:Nat):Int:= -(-W u/((N.n:Int)+1))
section
variable{N:IC}{rm W ga:Nat->Int}
def Ld(u:Nat):0<=SD N W u/\SD N W u<=N.n:=by have b:=xX (-W u) (show((N.n:Int)+1)≠0 by lia);have a:=jD (-W u) (show 0<((N.n:Int)+1) by lia);unfold SD;lia
def Tw(u:Nat):W u=gn N W u*((N.n:Int)+1)-SD N W u:=by have h:=Int.emod_add_mul_ediv (-W u) ((N.n:Int)+1);unfold gn SD;rw[Int.neg_mul,Int.mul_comm];lia
def fi(sc:N.Sc ga)(a:l<N.q)(h:W (N.fr l)=W (N.to l)+N.wo l):SD N W (N.fr l)=(SD N W (N.to l)+1)%((N.n:Int)+1):=by
 unfold SD;rw[Int.add_emod,Int.emod_emod,<-Int.add_emod,h,sc l a];have e: -(W (N.to l)+(ga l*((N.n:Int)+1)-1))= -W (N.to l)+1+((N.n:Int)+1)*(-ga l):=by rw[Int.mul_neg,Int.mul_comm];lia
 rw[e,Int.add_mul_emod_self_left]
def Zh(ok:N.Ok)(sc:N.Sc ga)(F:N.Fix rm W)(p:u<N.n):1<=SD N W u:=by
 refine Int.not_lt.mp λr=>?_
 have q:SD N W u=0:=by have:=(Ld (N:=N) (W:=W) u).1;lia
 have E:∀t:Nat,t<=N.n->∃v,v<N.n/\SD N W v=if t=0 then 0 else(N.n:Int)+1-t:=λt=>by
  induction t with
  |zero=>exact λ_=>⟨u,p,q⟩
  | succ t s=>
   intro I;obtain⟨v,y,e⟩:=s (by lia);obtain⟨l,d,g,K,w⟩:=F.VS v y;have k:=fi sc d (g▸w);rw[g]at k;have J:=Ld (N:=N) (W:=W) (N.to l);have o:SD N W (N.to l)=(N.n:Int)+1-(t+1:Nat):=by
    by_cases c:SD N W (N.to l)=N.n
    .rw[c,Int.emod_self]at k;rw[k]at e;split at e
     .lia
     lia
    rw[Int.emod_eq_of_lt (by lia) (by lia)]at k;split at e
    .lia
    lia
   refine⟨N.to l,?_,by rw[if_neg (by lia)];exact o⟩;have H:=ok.to l d;by_cases c:N.to l=N.n
   .have:SD N W (N.to l)=0:=by
     unfold SD;rw[c,F.z]
     rfl
    lia
   lia
 have j:∀c:Nat,c<=N.n->∃v,v<N.n/\SD N W v=c:=λc i=>by
  by_cases e:c=0
  .exact⟨u,p,e▸q⟩
  obtain⟨v,d,g⟩:=E (N.n+1-c) (by lia);refine⟨v,d,?_⟩;rw[if_neg (by lia)]at g;lia
 have A:∃f:Nat->Nat,∀c,c<=N.n->f c<N.n/\SD N W (f c)=c:=⟨λc=>if h:c<=N.n then(j c h).choose else 0,λc i=>by dsimp only;rw[dif_pos i];exact(j c i).choose_spec⟩
 obtain⟨f,m⟩:=A;have:=XM N.n ((zW (N.n+1)).map f) (by
  rw[List.nodup_iff_pairwise_ne,List.pairwise_map];refine(List.pairwise_lt_range).imp_of_mem λ{a b}ha hb hab e=>?_
  have d:=(m a (by have:=qz.mp ha;lia)).2;have g:=(m b (by have:=qz.mp hb;lia)).2;rw[e]at d;lia) λx C=>by
  obtain⟨c,i,rfl⟩:=qY.mp C;exact(m c (by have:=qz.mp i;lia)).1
 rw[zq,xY]at this;lia
def BF{S:Int}(a:0<S)(h: -S<x*S):0<=x:=by
 refine Int.not_lt.mp λb=>?_
 have:=q9 (show x<= -1 by lia) (xT a);lia
def fj(ok:N.Ok)(sc:N.Sc ga)(F:N.Fix rm W)(a:N.SK rm W)(b:l<N.q)(c:0<rm l):gn N W (N.to l)+ga l<=gn N W (N.fr l):=by
 have f:=Tw (N:=N) (W:=W) (N.fr l);have g:=Tw (N:=N) (W:=W) (N.to l);have h:=Ld (N:=N) (W:=W) (N.fr l);have e:=Ld (N:=N) (W:=W) (N.to l);have p:=a l b c;rw[sc l b]at p;have d:1<=SD N W (N.fr l)+(if N.fr l=N.n then 2 else 0):=by
  split
  .lia
  have:=Zh ok sc F (u:=N.fr l) (by have:=ok.fr l b;lia);lia
 have:=BF (x:=gn N W (N.fr l)-gn N W (N.to l)-ga l) (S:=(N.n:Int)+1) (by lia) (by rw[xL,xL];lia)
 lia
def fm(ok:N.Ok)(sc:N.Sc ga)(F:N.Fix rm W)(a:l<N.q)(b:N.fr l<N.n)(h:W (N.fr l)=W (N.to l)+N.wo l):gn N W (N.fr l)=gn N W (N.to l)+ga l/\SD N W (N.fr l)=SD N W (N.to l)+1:=by
 have t:=fi sc a h;have p:=Zh ok sc F b;have f:=Ld (N:=N) (W:=W) (N.to l);have d:SD N W (N.fr l)=SD N W (N.to l)+1:=by
  by_cases c:SD N W (N.to l)=N.n
  .rw[c,Int.emod_self]at t;lia
  rw[Int.emod_eq_of_lt (by lia) (by lia)]at t;exact t
 refine⟨?_,d⟩;have g:=Tw (N:=N) (W:=W) (N.fr l);have i:=Tw (N:=N) (W:=W) (N.to l);rw[sc l a]at h;have e:(gn N W (N.fr l)-gn N W (N.to l)-ga l)*((N.n:Int)+1)=0:=by rw[xL,xL];lia
 rcases Int.mul_eq_zero.mp e with z|z<;>lia
def Pp{a c:Nat->Int}(ok:N.Ok)(f:N.SK a W)(F:N.Fix a c)(le:∀u,u<=N.n->c u<=W u)(h:u<N.n)(b:∀l,l<N.q->N.fr l=u->W u=W (N.to l)+N.wo l->a l=0):c u+1<=W u:=by
 obtain⟨l,d,g,i,m⟩:=F.VS u h;have j:=f l d i;have k:=le (N.to l) (ok.to l d);rw[g,if_neg (by lia)]at j;by_cases e:W u=W (N.to l)+N.wo l
 .have:=b l d g e;lia
 lia
end
def XB(l:Nat):Nat:=if l%2=0 then l+1 else l-1
def BG(l:Nat):XB (XB l)=l:=by
 unfold XB;by_cases h:l%2=0
 .rw[if_pos h,if_neg (by lia)];lia
 rw[if_neg h,if_pos (by lia)];lia
def BH(l:Nat):XB l≠l:=by
 unfold XB
 split <;> lia
structure IC.Mt (N:IC):Prop where
 lt:∀l,l<N.q->XB l<N.q
 fr:∀l,l<N.q->N.fr (XB l)=N.to l
 to:∀l,l<N.q->N.to (XB l)=N.fr l
 wo:∀l,l<N.q->N.wo (XB l)= -2-N.wo l
def Ms(h:i<lN xs):Aa (xs.set i x) k=if k=i then x else Aa xs k:=by
 unfold Aa;simp[zK];by_cases e:k=i
 .subst e;rw[qA h,if_pos rfl]
  rfl
 rw[z0 λz=>e z.symm,if_neg e]
structure LR where
 L:List Int
 R:List Int
def LR.sa(N:IC)(x:LR)(u l:Nat)(c:Int):LR:=
 ⟨(x.L.set u (Aa x.L u-c)).set (N.to l) (Aa (x.L.set u (Aa x.L u-c)) (N.to l)+c),(x.R.set l (Aa x.R l-c)).set (XB l) (Aa (x.R.set l (Aa x.R l-c)) (XB l)+c)⟩
structure LR.Ok (N:IC) (x:LR):Prop where
 ll:lN x.L=N.n+1
 rl:lN x.R=N.q
 ln:∀u,u<=N.n->0<=Aa x.L u
 rn:∀l,l<N.q->0<=Aa x.R l
section
variable{N:IC}{W:Nat->Int}{x:LR}
def O6(ok:N.Ok)(K:x.Ok N)(d:l<N.q)(c:Int)(v:Nat):Aa (x.sa N (N.fr l) l c).L v=Aa x.L v-(if v=N.fr l then c else 0)+(if v=N.to l then c else 0):=by
 have h:=ok.fr l d;have g:=ok.to l d;have f:=K.ll;have e:=ok.ne l d;unfold LR.sa;rw[Ms (by rw[jQ];lia),Ms (by lia)];by_cases a:v=N.to l
 .rw[if_pos a,if_neg (λz=>e z.symm),if_neg (λz=>e (z.symm.trans a)),if_pos a,a];lia
 rw[if_neg a,Ms (by lia)];by_cases b:v=N.fr l
 .rw[if_pos b,if_pos b,if_neg a,b];lia
 .rw[if_neg b,if_neg b,if_neg a];lia
def Rj(e:N.Mt)(K:x.Ok N)(f:l<N.q)(u:Nat)(c:Int)(k:Nat):Aa (x.sa N u l c).R k=Aa x.R k-(if k=l then c else 0)+(if k=XB l then c else 0):=by
 have h:=e.lt l f;have g:=K.rl;have d:=BH l;unfold LR.sa;rw[Ms (by rw[jQ];lia),Ms (by lia)];by_cases a:k=XB l
 .rw[if_pos a,if_neg d,if_neg (λz=>d (a.symm.trans z)),if_pos a,a];lia
 rw[if_neg a,Ms (by lia)];by_cases b:k=l
 .rw[if_pos b,if_pos b,if_neg a,b];lia
 .rw[if_neg b,if_neg b,if_neg a];lia
def BI(ok:N.Ok)(d:N.Mt)(K:x.Ok N)(a:l<N.q)(h:0<=c)(f:c<=Aa x.L (N.fr l))(b:c<=Aa x.R l):(x.sa N (N.fr l) l c).Ok N:=by
 refine⟨by unfold LR.sa;simp[K.ll],by unfold LR.sa;simp[K.rl],λv g=>?_,λk hk=>?_⟩
 .have:=K.ln v g;rw[O6 ok K a];by_cases e:v=N.fr l
  .rw[<-e]at f;rw[if_pos e]
   split <;> lia
  rw[if_neg e]
  split <;> lia
 have:=K.rn k hk;rw[Rj d K a];by_cases e:k=l
 .rw[<-e]at b;rw[if_pos e]
  split <;> lia
 .rw[if_neg e]
  split <;> lia
def OH(N:IC)(W:Nat->Int)(l:Nat):Prop:=W (N.fr l)=W (N.to l)+N.wo l
def KP(N:IC)(W:Nat->Int)(R0:Nat->Int)(x:LR):Prop:=∀l,l<N.q->0<Aa x.R l->0<R0 l\/OH N W (XB l)
def BJ{R0:Nat->Int}(a:N.Mt)(K:x.Ok N)(g:KP N W R0 x)(b:l<N.q)(d:OH N W l)(u:Nat)(f:0<=c):KP N W R0 (x.sa N u l c):=λk hk h=>by
 rw[Rj a K b]at h;by_cases e:k=XB l
 .refine .inr ?_;rw[e,BG];exact d
 rw[if_neg e]at h;refine g k hk ?_
 split at h<;>lia
def BK(ok:N.Ok)(c:N.Mt){R0:Nat->Int}(b:N.SK R0 W)(g:KP N W R0 x):N.SK (Aa x.R) W:=λl a h=>by
 rcases g l a h with z|z
 .exact b l a z
 unfold OH at z;rw[c.fr l a,c.to l a,c.wo l a]at z
 split <;> lia
def fq(ok:N.Ok){rm π:Nat->Int}(b:N.SK rm π)(F:N.Fix rm W)(hz:π N.n=0)(le:∀u,u<=N.n->W u<=π u):N.SK rm W:=λl a h=>by
 by_cases e:N.fr l=N.n
 .have c:=b l a h;have f:=le _ (ok.to l a);have d:=F.z;rw[e,if_pos rfl]at c⊢;lia
 rw[if_neg e];have:=F.fix l a h (by have:=ok.fr l a;lia);lia
def LR.one(N:IC)(W:Nat->Int)(x:LR)(u l:Nat):LR:=open Classical in if W u=W (N.to l)+N.wo l then x.sa N u l (min (Aa x.L u) (Aa x.R l))else x
def XI(N:IC)(W:Nat->Int)(x:LR):Int:=Ab N.n λu=>Aa x.L u*SD N W u
structure Kp (N:IC) (W R0:Nat->Int) (B:LR->Prop) (x:LR):Prop where
 ok:x.Ok N
 g:KP N W R0 x
 b:B x
structure YI (N:IC) (W:Nat->Int) (A:Nat->Prop) (x y:LR):Prop where
 le:XI N W y<=XI N W x
 same:XI N W y=XI N W x->(∀u,Aa y.L u=Aa x.L u)/\(∀l,Aa y.R l=Aa x.R l)/\∀l,A l->OH N W l->Aa x.L (N.fr l)=0\/Aa x.R l=0
def YI.refl(x:LR):YI N W (λ_=>False) x x:=⟨qK _,λ_=>⟨λ_=>rfl,λ_=>rfl,λ_ h=>h.elim⟩⟩
def YI.trans{A c:Nat->Prop}{x y z:LR}(h:YI N W A x y)(k:YI N W c y z):YI N W (λl=>A l\/c l) x z:=by
 have o:=h.le;have n:=k.le;refine⟨by lia,λe=>?_⟩;obtain⟨b,f,i⟩:=h.same (by lia);obtain⟨j,m,g⟩:=k.same (by lia);refine⟨λu=>(j u).trans (b u),λl=>(m l).trans (f l),λl a d=>?_⟩;rcases a with a|a
 .exact i l a d
 have:=g l a d;rw[b,f]at this;exact this
def YI.imp{A a:Nat->Prop}{x y:LR}(h:YI N W A x y)(w:∀l,a l->A l):YI N W a x y:=⟨h.le,λe=>let⟨p,q,r⟩:=h.same e;⟨p,q,λl b=>r l (w l b)⟩⟩
variable{rm ga R0:Nat->Int}{B:LR->Prop}
def ft(ok:N.Ok)(sc:N.Sc ga)(F:N.Fix rm W)(K:x.Ok N)(d:l<N.q)(f:N.fr l<N.n)(i:OH N W l)(c:Int):XI N W (x.sa N (N.fr l) l c)=XI N W x-c:=by
 have e:∀(w:Nat),w<=N.n->SD N W N.n=0->Ab N.n (λu=>if u=w then c*SD N W u else 0)=c*SD N W w:=λw hw a=>by
  by_cases h:w<N.n
  .exact Hu h
  rw[show w=N.n by lia,a,jq,Ey λk hk=>if_neg (by lia),Hc]
 have a:SD N W N.n=0:=by
  unfold SD;rw[F.z]
  rfl
 have g:XI N W (x.sa N (N.fr l) l c)+Ab N.n (λu=>if u=N.fr l then c*SD N W u else 0)=XI N W x+Ab N.n (λu=>if u=N.to l then c*SD N W u else 0):=by
  unfold XI;rw[<-G9,<-G9];refine Ey λu _=>?_
  rw[O6 ok K d,Int.add_mul,xL];by_cases b:u=N.fr l
  .rw[if_pos b,if_pos b]
   split <;> lia
  rw[if_neg b,if_neg b,Int.zero_mul]
  split <;> lia
 rw[e _ (ok.fr l d) a,e _ (ok.to l d) a,(fm ok sc F d f i).2,vX,Int.mul_one]at g;lia
def BL(ok:N.Ok)(d:N.Mt)(sc:N.Sc ga)(F:N.Fix rm W)(j:∀(y:LR)(l:Nat)(c:Int),y.Ok N->l<N.q->B y->B (y.sa N (N.fr l) l c))(K:Kp N W R0 B x)(a:l<N.q)(f:N.fr l<N.n):Kp N W R0 B (x.one N W (N.fr l) l)/\YI N W (λk=>k=l) x (x.one N W (N.fr l) l):=by
 unfold LR.one;have p:=K.ok.ln _ (ok.fr l a);have o:=K.ok.rn l a;split
 .rename_i h;refine⟨⟨BI ok d K.ok a (by lia) (by lia) (by lia),BJ d K.ok K.g a h _ (by lia),j x l _ K.ok a K.b⟩,?_,λe=>?_⟩
  .rw[ft ok sc F K.ok a f h];lia
  rw[ft ok sc F K.ok a f h]at e;have i:min (Aa x.L (N.fr l)) (Aa x.R l)=0:=by lia
  refine⟨λu=>?_,λk=>?_,λk hk _=>?_⟩
  .rw[O6 ok K.ok a,i]
   split <;> split <;> lia
  .rw[Rj d K.ok a,i]
   split <;> split <;> lia
  .subst hk;lia
 rename_i h;exact⟨K,qK _,λ_=>⟨λ_=>rfl,λ_=>rfl,λk hk m=>by subst hk;exact absurd m h⟩⟩
end
def TK(as:List ZA)(l:Nat):Int:=if l%2=0 then(Am as (l/2)).ga else -(Am as (l/2)).ga
def UA(n:Nat)(as:List ZA):IC where
 n:=n
 q:=2*lN as
 fr l:=if l%2=0 then(Am as (l/2)).fr else(Am as (l/2)).to
 to l:=if l%2=0 then(Am as (l/2)).to else(Am as (l/2)).fr
 wo l:=TK as l*((n:Int)+1)-1
def Qf(h:l%2=0):(UA n as).fr l=(Am as (l/2)).fr/\(UA n as).to l=(Am as (l/2)).to/\TK as l=(Am as (l/2)).ga:=⟨if_pos h,if_pos h,if_pos h⟩
def T4(h:¬l%2=0):(UA n as).fr l=(Am as (l/2)).to/\(UA n as).to l=(Am as (l/2)).fr/\TK as l= -(Am as (l/2)).ga:=⟨if_neg h,if_neg h,if_neg h⟩
def Np:(UA n as).Sc (TK as):=λ_ _=>rfl
def Kq(h:∀x∈as,KB n x)(j:n<=30):(UA n as).Ok:=by
 have k:∀l,l<2*lN as->KB n (Am as (l/2)):=λl a=>KB.of h (by lia)
 have w:∀l,l<2*lN as-> -40000<=TK as l*((n:Int)+1)-1/\TK as l*((n:Int)+1)-1<=40000:=λl a=>by
  have i:=(k l a).ga
  have b: -1000<=TK as l/\TK as l<=1000:=by unfold TK;split <;> lia
  have c:=q9 b.1 (show 0<=(n:Int)+1 by lia);have f:=q9 b.2 (show 0<=(n:Int)+1 by lia);lia
 refine⟨λl a=>?_,λl a=>?_,λl a=>?_,λl a=>(w l a).1,λl a=>(w l a).2⟩ <;>
 .have g:=(k l a).lt;have d:=(k l a).up;have e:=(k l a).le;simp[UA]
  split <;> lia
def Xb:(UA n as).Mt:=by
 have e:∀l,(l%2=0->XB l%2≠0/\XB l/2=l/2)/\(l%2≠0->XB l%2=0/\XB l/2=l/2):=λl=>by
  unfold XB;refine⟨λh=>?_,λh=>?_⟩
  .rw[if_pos h];lia
  rw[if_neg h];lia
 refine⟨λl a=>?_,λl a=>?_,λl a=>?_,λl a=>?_⟩
 .have b:l<2*lN as:=a;show XB l<2*lN as;unfold XB
  split <;> lia
 all_goals
  simp[UA,TK];by_cases h:l%2=0
  .have:=(e l).1 h;rw[if_pos h,if_neg this.1,this.2]
   try (rw[Int.neg_mul];lia)
  have:=(e l).2 h;rw[if_neg h,if_pos this.1,this.2]
  try (rw[Int.neg_mul];lia)
def YH(x:LR)(i:Nat):Int:=Aa x.R (2*i+1)
noncomputable def Hi(wide:Int)(a:ZA):Int:=match a.mo with
 |none=>wide
 |some b=>b
structure YQ (n:Nat) (as:List ZA) (s:Nat->Int) (wide:Int) (x:LR):Prop where
 HS:∀i,i<lN as->Aa x.R (2*i)+Aa x.R (2*i+1)=Hi wide (Am as i)
 YT:∀v,v<n->Aa x.L v=s v-ex (Am as) (lN as) (YH x) v
def BM(ok:(UA n as).Ok){y:LR}(K:y.Ok (UA n as))(m:l<(UA n as).q)(h:YQ n as s wide y):YQ n as s wide (y.sa (UA n as) ((UA n as).fr l) l c):=by
 have p:l<2*lN as:=m;have e:=λk=>Rj Xb K m ((UA n as).fr l) c k
 have o:YH (y.sa (UA n as) ((UA n as).fr l) l c)=bump (YH y) (l/2) (if l%2=0 then c else -c):=by
  funext i;show Aa _ (2*i+1)=if i=l/2 then Aa y.R (2*i+1)+_ else Aa y.R (2*i+1)
  rw[e];unfold XB;by_cases a:l%2=0
  .rw[if_pos a,if_pos a,if_neg (by lia)];by_cases b:i=l/2
   .rw[if_pos (by lia),if_pos b];lia
   rw[if_neg (by lia),if_neg b];lia
  rw[if_neg a,if_neg a];by_cases b:i=l/2
  .rw[if_pos (by lia),if_neg (by lia),if_pos b];lia
  rw[if_neg (by lia),if_neg (by lia),if_neg b];lia
 refine⟨λi r=>?_,λv t=>?_⟩
 .have:=h.HS i r;rw[e,e];unfold XB;by_cases a:l%2=0
  .rw[if_pos a];by_cases b:2*i=l
   .rw[if_pos b,if_neg (by lia),if_neg (by lia),if_pos (by lia)];lia
   rw[if_neg b,if_neg (by lia),if_neg (by lia),if_neg (by lia)];lia
  rw[if_neg a];by_cases b:2*i+1=l
  .rw[if_neg (by lia),if_pos (by lia),if_pos b,if_neg (by lia)];lia
  rw[if_neg (by lia),if_neg (by lia),if_neg b,if_neg (by lia)];lia
 rw[o,A6 (show l/2<lN as by lia),O6 ok K m,h.YT v t];by_cases a:l%2=0
 .obtain⟨g,d,_⟩:=Qf a;rw[g,d,if_pos a]
  by_cases f:(Am as (l/2)).fr=v<;>by_cases j:(Am as (l/2)).to=v<;>simp[f,j,eq_comm]<;>lia
 .obtain⟨g,d,_⟩:=T4 a;rw[g,d,if_neg a]
  by_cases f:(Am as (l/2)).fr=v<;>by_cases j:(Am as (l/2)).to=v<;>simp[f,j,eq_comm]<;>lia
theorem Yq{k:Nat}:∀{n:Nat},k<=n->(∀v,v<n->0<=s v)->Ab k s<=Ab n s
 |0,hk,_=>by rw[show k=0 by lia];exact qK _
 |n+1,hk,h=>by
  by_cases e:k=n+1
  .rw[e];exact qK _
  have c:=Yq (n:=n) (k:=k) (by lia) λv b=>h v (by lia)
  have a:=h n (by lia);show _<=Ab n s+s n;lia
theorem fu(x:Int)(w:Nat):∀k:Nat,Ab k (λv=>if w=v then x else 0)=if w<k then x else 0
 |0=>by rw[if_neg (by lia)];rfl
 |k+1=>by
  show Ab k _+(if w=k then x else 0)=_;rw[fu x w k];by_cases e:w=k
  .rw[if_neg (by lia),if_pos e,if_pos (by lia)];lia
  rw[if_neg e];by_cases a:w<k
  .rw[if_pos a,if_pos (by lia)];lia
  rw[if_neg a,if_neg (by lia)];lia
def BN{a:Nat->ZA}(d:∀i,i<m->(a i).fr<(a i).to/\(a i).fr<n)(l:∀i,i<m->0<=f i)(o:∀v,v<n->0<=s v)(h:∀v,v<n->ex a m f v<=s v)(hi:i<m):f i<=Ab n s:=by
 have hk:=(d i hi).2;have c:∀(q:Nat->Nat)(k:Nat),Ab k (λv=>Ab m λj=>if q j=v then f j else 0)=Ab m λj=>if q j<k then f j else 0:=λq k=>by rw[W2];exact Ey λj _=>fu (f j) (q j) k
 have b:Ab ((a i).fr+1) (λv=>ex a m f v)+Ab m (λj=>if(a j).to<(a i).fr+1 then f j else 0)=Ab m λj=>if(a j).fr<(a i).fr+1 then f j else 0:=by
  rw[<-c (λj=>(a j).to),<-c (λj=>(a j).fr),<-G9];refine Ey λv _=>?_
  unfold ex Ce VN;lia
 have p:Ab m (λj=>if j=i then f j else 0)+Ab m (λj=>if(a j).to<(a i).fr+1 then f j else 0)<=Ab m λj=>if(a j).fr<(a i).fr+1 then f j else 0:=by
  rw[<-G9];refine Ew λj g=>?_
  have u:=d j g;have t:=l j g;by_cases e:j=i
  .subst e;rw[if_pos rfl,if_neg (by lia),if_pos (by lia)];lia
  rw[if_neg e];by_cases b:(a j).to<(a i).fr+1
  .rw[if_pos b,if_pos (by lia)];lia
  .rw[if_neg b]
   split <;> lia
 rw[Hu hi]at p;have w:Ab ((a i).fr+1) (λv=>ex a m f v)<=Ab ((a i).fr+1) s:=Ew λv y=>h v (by lia)
 have r:=Yq (k:=(a i).fr+1) (by lia) o;lia
structure GH (n:Nat) (as:List ZA) (s:Nat->Int) (wide:Int):Prop where
 YM:n<=30
 OG:∀x∈as,KB n x
 way:∀k,k<n->∃i,i<lN as/\(Am as i).fr=k/\(Am as i).mo=uB
 sn:∀v,v<n->0<=s v
 wide:wide=Ab n s+1
section
variable{n:Nat}{as:List ZA}{s:Nat->Int}{wide:Int}{x:LR}
theorem fy(Z:GH n as s wide)(K:x.Ok (UA n as))(B:YQ n as s wide x)(hi:i<lN as)(h:∀b,(Am as i).mo=uA b->YH x i<b):0<Aa x.R (2*i):=by
 have a:=B.HS i hi;unfold Hi at a;cases c:(Am as i).mo with
 |some b=>
  rw[c]at a;have:=h b c;unfold YH at this;dsimp only at a;lia
 |none=>
  rw[c]at a;have e:=BN (f:=YH x) (λj d=>⟨(KB.of Z.OG d).up,(KB.of Z.OG d).lt⟩) (λj d=>K.rn _ (by show 2*j+1<2*lN as;lia)) Z.sn (λv g=>by have l:=B.YT v g;have m:=K.ln v (by show v<=n;lia);lia) hi
  have k:=Z.wide;unfold YH at e;dsimp only at a;lia
def gA(Z:GH n as s wide)(K:x.Ok (UA n as))(B:YQ n as s wide x):(UA n as).Way (Aa x.R):=λu d=>by
 obtain⟨i,c,f,e⟩:=Z.way u d;have g:=(KB.of Z.OG c).up;refine⟨2*i,by show 2*i<2*lN as;lia,?_,?_,fy Z K B c λb a=>by rw[e]at a;cases a⟩
 .simp only[UA];rw[if_pos (by lia),show 2*i/2=i by lia];exact f
 simp only[UA];rw[if_pos (by lia),show 2*i/2=i by lia];lia
def BO{W:Nat->Int}(Z:GH n as s wide)(K:x.Ok (UA n as))(B:YQ n as s wide x)(F:(UA n as).Fix (Aa x.R) W)(a:(UA n as).SK (Aa x.R) W):VM (lN as) (Am as) (YH x) (gn (UA n as) W):=by
 have ok:=Kq Z.OG Z.YM;refine⟨λi e h=>?_,λi e h=>?_⟩
 .have:=fj ok Np F a (by show 2*i<2*lN as;lia) (fy Z K B e h);obtain⟨d,b,c⟩:=Qf (l:=2*i) (by lia);rw[d,b,c,show 2*i/2=i by lia]at this;lia
 have:=fj ok Np F a (by show 2*i+1<2*lN as;lia) h;obtain⟨d,b,c⟩:=T4 (l:=2*i+1) (by lia);rw[d,b,c,show(2*i+1)/2=i by lia]at this;lia
def BP{rm:Nat->Int}(Z:GH n as s wide)(h:∀i,i<lN as->rm (2*i+1)=0):(UA n as).SK rm (λu=>40000*((n:Int)-u)):=λl c o=>by
 have f:l<2*lN as:=c;have a:l%2=0:=by
  refine Decidable.byContradiction λz=>?_
  have:=h (l/2) (by lia);rw[show 2*(l/2)+1=l by lia]at this;lia
 have p:=(Kq (n:=n) Z.OG Z.YM).wu l c;have b:=KB.of Z.OG (i:=l/2) (by lia);have k:=b.lt;have m:=b.up;obtain⟨e,d,j⟩:=Qf a;have g:¬(Am as (l/2)).fr=(UA n as).n:=by show¬(Am as (l/2)).fr=n;lia
 dsimp only;rw[e,d,if_neg g];lia
end
noncomputable def ZM(n l f e w r:Nat):List (Str×D):=[("scale",.int ((n:Int)+1)),("left",.ref l),("links_from",.ref f),("ends",.ref e),("worths",.ref w),("rooms",.ref r)]
noncomputable def Bf(xs:List Nat):List D:=xs.map λ(i:Nat)=>D.int (i:Int)
structure Ad where
 o:Nat
 l:Nat
 f:Nat
 e:Nat
 w:Nat
 r:Nat
 fa:Nat->Nat
structure Ad.Ok (a:Ad) (n:Nat):Prop where
 lo:a.l≠a.o
 lf:a.l≠a.f
 le:a.l≠a.e
 lw:a.l≠a.w
 lr:a.l≠a.r
 la:∀u,u<=n->a.l≠a.fa u
 ro:a.r≠a.o
 rf:a.r≠a.f
 re:a.r≠a.e
 rw:a.r≠a.w
 ra:∀u,u<=n->a.r≠a.fa u
structure SN (N:IC) (lk:Nat->List Nat) (a:Ad) (x:LR) (Γ:DH):Prop where
 ad:a.Ok N.n
 ho:Γ[a.o]?=uA (.ins "Sending" (ZM N.n a.l a.f a.e a.w a.r))
 hl:Γ[a.l]?=uA (.lst (x.L.map D.int))
 hf:Γ[a.f]?=uA (.lst ((zW (N.n+1)).map λu=>D.ref (a.fa u)))
 ML:∀u,u<=N.n->Γ[a.fa u]?=uA (.lst (Bf (lk u)))
 he:Γ[a.e]?=uA (.lst (Bf ((zW N.q).map N.to)))
 hw:Γ[a.w]?=uA (.lst (((zW N.q).map N.wo).map D.int))
 hr:Γ[a.r]?=uA (.lst (x.R.map D.int))
def BQ{xs:List Nat}(h:xs[i]?=uA k):NC (Bf xs) (i:Int)=zI (k:Int):=By (k:=i) (by lia) (by unfold Bf;rw[zv,h];rfl)
def BR{f:Nat->Nat}(h:l<q):NC (Bf ((zW q).map f)) (l:Int)=zI (f l:Int):=BQ (by rw[zv,qF h];rfl)
def BS(h:l<q):NC (((zW q).map f).map D.int) (l:Int)=zI (f l):=By (k:=l) (by lia) (by rw[zv,zv,qF h];rfl)
def Px(h:i<lN xs):NC (xs.map D.int) (i:Int)=zI (Aa xs i):=La h
def Xd(h:i<lN P):NC (P.map VA) (i:Int)=uA (VA (gP P i)):=By (k:=i) (by lia) (by
 unfold gP;rw[zv,zZ h,zK,zZ h]
 rfl)
def Hk{p:Nat}{xs:List D}{i:Int}{v:D}(h:Γ[p]?=uA (.lst xs))(b:NC xs i=uA v):Af (.ref p) (.int i) Γ=.ok v Γ:=by rw[S8,h];dsimp only;rw[b]
def Rh{g:DG}{b:DS}{xs:List D}(h:G[i]?=uA (.lst xs))(c:lN xs<=j):_D.forM i g b 0 j S G=.nx S G:=by
 show(match G[i]? with |some (.lst xs)=>if lN xs<=j then SR.nx S G else .bad|_=>.bad)=_
 rw[h];exact if_pos c
def Rx{g:DG}{b:DS}{xs:List D}{x:D}(h:G[i]?=uA (.lst xs))(e:xs[j]?=uA x):_D.forM i g b (k+1) j S G=(g x S G).toS λc d=>OK (b c d) (_D.forM i g b k (j+1)):=by
 show(match G[i]? with |some (.lst xs)=>(match xs[j]? with |some x=>(g x S G).toS λc d=>OK (b c d) (_D.forM i g b k (j+1))|none=>.nx S G)|_=>.bad)=_
 rw[h];dsimp only;rw[e]
section
variable{N:IC}{lk:Nat->List Nat}{a:Ad}{x:LR}{Γ:DH}
def SN.scale(K:SN N lk a x Γ):Cr "Sending" "scale" (.ref a.o) Γ=.ok (.int ((N.n:Int)+1)) Γ:=De K.ho rfl
def SN.left(K:SN N lk a x Γ):Cr "Sending" "left" (.ref a.o) Γ=.ok (.ref a.l) Γ:=De K.ho rfl
def SN.from(K:SN N lk a x Γ):Cr "Sending" "links_from" (.ref a.o) Γ=.ok (.ref a.f) Γ:=De K.ho rfl
def SN.ends(K:SN N lk a x Γ):Cr "Sending" "ends" (.ref a.o) Γ=.ok (.ref a.e) Γ:=De K.ho rfl
def SN.GN(K:SN N lk a x Γ):Cr "Sending" "worths" (.ref a.o) Γ=.ok (.ref a.w) Γ:=De K.ho rfl
def SN.rooms(K:SN N lk a x Γ):Cr "Sending" "rooms" (.ref a.o) Γ=.ok (.ref a.r) Γ:=De K.ho rfl
def SN.IH(K:SN N lk a x Γ){m:Str}{F:List D->DH->R D}{t:DA}(b:∀n l f e w r,(ZM n l f e w r).lookup m=uB):Hs "Sending" m F t S (.ref a.o) Γ=(t S Γ).bind λds c=>F (.ref a.o::ds) c:=Sq K.ho (b _ _ _ _ _ _)
def SN.Zp(K:SN N lk a x Γ)(h:l<N.q):Af (.ref a.e) (.int (l:Int)) Γ=.ok (.int (N.to l:Int)) Γ:=Hk K.he (BR h)
def SN.M?(K:SN N lk a x Γ)(h:l<N.q):Af (.ref a.w) (.int (l:Int)) Γ=.ok (.int (N.wo l)) Γ:=Hk K.hw (BS h)
def SN.N?(K:SN N lk a x Γ)(o:x.Ok N)(h:l<N.q):Af (.ref a.r) (.int (l:Int)) Γ=.ok (.int (Aa x.R l)) Γ:=Hk K.hr (Px (o.rl▸h))
def SN.YO(K:SN N lk a x Γ)(o:x.Ok N)(h:u<=N.n):Af (.ref a.l) (.int (u:Int)) Γ=.ok (.int (Aa x.L u)) Γ:=Hk K.hl (Px (by rw[o.ll];lia))
def SN.O?(K:SN N lk a x Γ)(h:u<=N.n):Af (.ref a.f) (.int (u:Int)) Γ=.ok (.ref (a.fa u)) Γ:=Hk K.hf (By (k:=u) (by lia) (by rw[zv,qF (by lia)];rfl))
def SN.P?(K:SN N lk a x Γ)(h:u<=N.n):Ed (.ref (a.fa u)) Γ=.ok (.mt (a.fa u)) Γ:=by simp[Ed,K.ML u h]
def BU{w:Int}(K:SN N lk a x Γ):Ow [.ref a.o,.int w] Γ=.ok (.int (-w%((N.n:Int)+1))) Γ:=by unfold Ow ed;rw[Al];simp[K.scale,by omega,Bl]
def BV{w:Int}(c:N.n<1000)(K:SN N lk a x Γ):Kg [.ref a.o,.int w] Γ=.ok (.int (-(-w/((N.n:Int)+1)))) Γ:=by have b:Iw (.int (-w)) (.int ((N.n:Int)+1)) Γ=.ok (.int (-w/((N.n:Int)+1))) Γ:=IX (by lia) (by lia);unfold Kg e9;rw[Al];simp[K.scale,b,Bl]
theorem gB{y:Nat}(K:SN N lk a x Γ)(o:x.Ok N)(ok:N.Ok)(s:JE N lk)(B:Γ[y]?=uA (.lst (P.map VA)))(hP:lN P=N.n+1)(m:u<=N.n):∀(d pre:List Nat)(z:Option Int)(z4 e b:Option D),lk u=pre++d->
  ∃L g i,forM (a.fa u) (gV 4) O4 (lN d) (lN pre) [zR a.o,s1,zR y,uA (VA z),z4,e,b] Γ=.nx [zR a.o,s1,zR y,uA (VA (N.bw (Aa x.R) P d z)),L,g,i] Γ
 |[],pre,z,z4,e,b,h=>by exact⟨z4,e,b,Rh (K.ML u m) (by rw[h];simp[Bf])⟩
 | l::d,pre,z,z4,e,b,h=>by
  have c:=((s u l).mp (by rw[h];simp)).1;have J:NC (P.map VA) (N.to l:Int)=uA (VA (gP P (N.to l))):=Xd (by have:=ok.to l c;lia);have p:∃g i,O4 [zR a.o,s1,zR y,uA (VA z),zI (l:Int),e,b] Γ=.nx [zR a.o,s1,zR y,uA (VA (N.rl (Aa x.R) P z l)),zI (l:Int),g,i] Γ:=by
   have r:JC (WA Af (dV 2) (WA Af (Av "Sending" (dV 0) "ends") (dV 4))) (gV 5) [zR a.o,s1,zR y,uA (VA z),zI (l:Int),e,b] Γ=.nx [zR a.o,s1,zR y,uA (VA z),zI (l:Int),uA (VA (gP P (N.to l))),b] Γ:=by simp[K.ends,K.Zp c,Hk B J]
   have f:WA Af (Av "Sending" (dV 0) "rooms") (dV 4) [zR a.o,s1,zR y,uA (VA z),zI (l:Int),uA (VA (gP P (N.to l))),b] Γ=.ok (.int (Aa x.R l)) Γ:=by simp[K.rooms,K.N? o c]
   have k:dV 5 [zR a.o,s1,zR y,uA (VA z),zI (l:Int),uA (VA (gP P (N.to l))),b] Γ=.ok (VA (gP P (N.to l))) Γ:=by simp
   unfold O4 IC.rl;rw[Sv,r,Rb];clear r;by_cases j:0<Aa x.R l
   .rw[if_pos j];cases q:gP P (N.to l)with
    |none=>
     rw[q]at f k;refine⟨uA (VA uB),b,?_⟩;generalize WA Af (Av "Sending" (dV 0) "rooms") (dV 4)=w,dV 5=C,[zR a.o,s1,zR y,uA (VA z),zI (l:Int),uA (VA uB),b]=S at*;simp[f,k,j,VA,Cy]
    | some v=>
     rw[q]at f k;have tB:JC (WA Dq (dV 5) (WA Af (Av "Sending" (dV 0) "worths") (dV 4))) (gV 6) [zR a.o,s1,zR y,uA (VA z),zI (l:Int),uA (VA (uA v)),b] Γ=.nx [zR a.o,s1,zR y,uA (VA z),zI (l:Int),uA (VA (uA v)),zI (v+N.wo l)] Γ:=by simp[K.GN,K.M? c,VA]
     refine⟨uA (VA (uA v)),zI (v+N.wo l),?_⟩;have tC:HF (IG (Ai (WA Ih (dV 3) (dC .KA))) (Ai (WA Jh (dV 3) (dV 6)))) (JC (dV 6) (gV 3)) PF [zR a.o,s1,zR y,uA (VA z),zI (l:Int),uA (VA (uA v)),zI (v+N.wo l)] Γ=.nx [zR a.o,s1,zR y,uA (VA (pick z (v+N.wo l))),zI (l:Int),uA (VA (uA v)),zI (v+N.wo l)] Γ:=by
      cases z with
      |none=>simp[VA,Cy,pick]
      |some t=>by_cases H:t<v+N.wo l<;>simp[VA,Cy,pick,H]
     generalize HF (IG (Ai (WA Ih (dV 3) (dC .KA))) (Ai (WA Jh (dV 3) (dV 6)))) (JC (dV 6) (gV 3)) PF=Q,JC (WA Dq (dV 5) (WA Af (Av "Sending" (dV 0) "worths") (dV 4))) (gV 6)=O,WA Af (Av "Sending" (dV 0) "rooms") (dV 4)=w at*;generalize dV 5=C,[zR a.o,s1,zR y,uA (VA z),zI (l:Int),uA (VA (uA v)),b]=S at*;simp[f,k,j,VA,Cy,tB];exact tC
   rw[if_neg j];refine⟨uA (VA (gP P (N.to l))),b,?_⟩;generalize WA Af (Av "Sending" (dV 0) "rooms") (dV 4)=w,[zR a.o,s1,zR y,uA (VA z),zI (l:Int),uA (VA (gP P (N.to l))),b]=S at*;simp[f,j]
  obtain⟨g,i,p⟩:=p;obtain⟨I,E,F,A⟩:=gB K o ok s B hP m d (pre++[l]) (N.rl (Aa x.R) P z l) (zI (l:Int)) g i (by rw[h];simp);refine⟨I,E,F,?_⟩;have M:(Bf (lk u))[lN pre]?=zI (l:Int):=by rw[h];simp[Bf]
  rw[zH,xW]at A;show forM (a.fa u) (gV 4) O4 (lN d+1) (lN pre) _ Γ=_;rw[Rx (K.ML u m) M];simp[Cp,R.Cq,qM,p,Dl];exact A
def BW{y:Nat}(K:SN N lk a x Γ)(o:x.Ok N)(ok:N.Ok)(i:JE N lk)(b:Γ[y]?=uA (.lst (P.map VA)))(hP:lN P=N.n+1)(k:u<N.n):
  Oo [.ref a.o,.int (u:Int),.ref y] Γ=.ok (VA (N.bw (Aa x.R) P (lk u) (gP P u))) Γ:=by
 obtain⟨l,j,m,e⟩:=gB K o ok i b hP (by lia) (lk u) [] (gP P u) uB uB uB rfl;have g:=K.O? (u:=u) (by lia);have d:=K.P? (u:=u) (by lia);have f:Af (.ref y) (.int (u:Int)) Γ=.ok (VA (gP P u)) Γ:=Hk b (Xd (by lia));have h:=K.ML u (by lia);have c:lN (Bf (lk u))=lN (lk u):=by simp[Bf]
 unfold Oo eZ;rw[Al]
 simp[K.from,g,d,f,h,c]
 rw[show(0:Nat)=lN ([]:List Nat)from rfl,e]
 simp[Bl]
end
def Rr{p:Nat}{z:Int}(h:Γ[p]?=uA (.lst (xs.map D.int)))(hi:i<lN xs):Fy (.ref p) (.int (i:Int)) (.int z) Γ=.ok .KA (Γ.set p (.lst ((xs.set i z).map D.int))):=by rw[Jm,h];dsimp only;rw[Ob (by simpa using hi)];rw[vQ]
def Tz{p:Nat}(h:Γ[p]?=uA (.lst (xs.map D.int)))(hi:i<lN xs):YO (.ref p) (.int (i:Int)) Γ=.ok (.int (Aa xs i)) Γ:=cT h (La hi)
section
variable{N:IC}{lk:Nat->List Nat}{a:Ad}{x:LR}{Γ:DH}
def SN.X6(K:SN N lk a x Γ)(L:List Int):SN N lk a ⟨L,x.R⟩ (Γ.set a.l (.lst (L.map D.int))):=by
 have A:=K.ad;refine⟨A,?_,qA ((zX.mp K.hl).1),?_,λu b=>?_,?_,?_,?_⟩
 .rw[z0 A.lo];exact K.ho
 .rw[z0 A.lf];exact K.hf
 .rw[z0 (A.la u b)];exact K.ML u b
 .rw[z0 A.le];exact K.he
 .rw[z0 A.lw];exact K.hw
 rw[z0 A.lr];exact K.hr
def SN.Jf(K:SN N lk a x Γ)(R:List Int):SN N lk a ⟨x.L,R⟩ (Γ.set a.r (.lst (R.map D.int))):=by
 have A:=K.ad;refine⟨A,?_,?_,?_,λu b=>?_,?_,?_,qA ((zX.mp K.hr).1)⟩
 .rw[z0 A.ro];exact K.ho
 .rw[z0 A.lr.symm];exact K.hl
 .rw[z0 A.rf];exact K.hf
 .rw[z0 (A.ra u b)];exact K.ML u b
 .rw[z0 A.re];exact K.he
 rw[z0 A.rw];exact K.hw
noncomputable def hs(Γ:DH)(a:Ad)(x:LR):DH:=(Γ.set a.l (.lst (x.L.map D.int))).set a.r (.lst (x.R.map D.int))
def SN.at (K:SN N lk a x Γ)(y:LR):SN N lk a y (hs Γ a y):=(K.X6 y.L).Jf y.R
def BX{y:LR}:lN (hs Γ a y)=lN Γ:=by unfold hs;simp
def gC(A:a.l≠a.r)(y z:LR):hs (hs Γ a y) a z=hs Γ a z:=by unfold hs;rw[List.set_comm _ _ A.symm,List.set_set,List.set_set]
def gD{p:Nat}(h:Γ[p]?=uA o):Γ.set p o=Γ:=by
 refine jM λi=>?_
 by_cases e:p=i
 .subst e;rw[qA (zX.mp h).1,h]
 rw[z0 e]
def SN.hs(K:SN N lk a x Γ):hs Γ a x=Γ:=by unfold _W.hs;rw[gD K.hl,gD K.hr]
def BY(K:SN N lk a x Γ)(o:x.Ok N)(ok:N.Ok)(u:N.Mt)(b:l<N.q):Nj [.ref a.o,.int (N.fr l:Int),.int (l:Int),.int c] Γ=.ok .KA (hs Γ a (x.sa N (N.fr l) l c)):=by
 have X:=ok.fr l b;have U:=ok.to l b;have S:=u.lt l b;have W:=o.ll;have Y:=o.rl;have d:=K.X6 (x.L.set (N.fr l) (Aa x.L (N.fr l)-c));have e:=d.X6 (x.sa N (N.fr l) l c).L;have g:=e.Jf (x.R.set l (Aa x.R l-c));have H:=Tz K.hl (i:=N.fr l) (by lia);have Q:=Rr K.hl (i:=N.fr l) (z:=Aa x.L (N.fr l)-c) (by lia);have A:=Tz d.hl (i:=N.to l) (by simp;lia);have p:=Rr d.hl (i:=N.to l) (z:=Aa (x.L.set (N.fr l) (Aa x.L (N.fr l)-c)) (N.to l)+c) (by simp;lia)
 have M:=Tz (xs:=x.R) e.hr (i:=l) (by lia);have P:=Rr (xs:=x.R) e.hr (i:=l) (z:=Aa x.R l-c) (by lia);have B:=Tz g.hr (i:=XB l) (by simp;lia);have v:=Rr g.hr (i:=XB l) (z:=Aa (x.R.set l (Aa x.R l-c)) (XB l)+c) (by simp;lia);have C:=K.left;have t:=d.left;have O:=d.ends;have F:=d.Zp b;have J:=e.rooms;have n:=g.rooms;have y:(if(l:Int)%2=0 then D.int ((l:Int)+1)else D.int ((l:Int)-1))=D.int ((XB l:Nat):Int):=by
  unfold XB;by_cases h:l%2=0
  .rw[if_pos (show(l:Int)%2=0 by lia),if_pos h];exact congrArg D.int (by lia)
  rw[if_neg (show¬(l:Int)%2=0 by lia),if_neg h];exact congrArg D.int (by lia)
 have f:tidy Γ (.ok .KA ((((Γ.set a.l (.lst ((x.L.set (N.fr l) (Aa x.L (N.fr l)-c)).map D.int))).set a.l (.lst ((x.sa N (N.fr l) l c).L.map D.int))).set a.r (.lst ((x.R.set l (Aa x.R l-c)).map D.int))).set a.r (.lst ((x.sa N (N.fr l) l c).R.map D.int))))=.ok .KA (hs Γ a (x.sa N (N.fr l) l c)):=by rw[Hr (by simp) rfl];unfold hs;rw[List.set_set,List.set_set]
 have w:Fy (.ref a.l) (.int (N.to l:Int)) (.int (Aa (x.L.set (N.fr l) (Aa x.L (N.fr l)-c)) (N.to l)+c)) (Γ.set a.l (.lst ((x.L.set (N.fr l) (Aa x.L (N.fr l)-c)).map D.int)))=.ok .KA ((Γ.set a.l (.lst ((x.L.set (N.fr l) (Aa x.L (N.fr l)-c)).map D.int))).set a.l (.lst ((x.sa N (N.fr l) l c).L.map D.int))):=p;have I:Fy (.ref a.r) (.int (XB l:Int)) (.int (Aa (x.R.set l (Aa x.R l-c)) (XB l)+c)) (((Γ.set a.l (.lst ((x.L.set (N.fr l) (Aa x.L (N.fr l)-c)).map D.int))).set a.l (.lst ((x.sa N (N.fr l) l c).L.map D.int))).set a.r (.lst ((x.R.set l (Aa x.R l-c)).map D.int)))=.ok .KA ((((Γ.set a.l (.lst ((x.L.set (N.fr l) (Aa x.L (N.fr l)-c)).map D.int))).set a.l (.lst ((x.sa N (N.fr l) l c).L.map D.int))).set a.r (.lst ((x.R.set l (Aa x.R l-c)).map D.int))).set a.r (.lst ((x.sa N (N.fr l) l c).R.map D.int))):=v
 generalize hs Γ a (x.sa N (N.fr l) l c)=s,Γ.set a.l (.lst ((x.L.set (N.fr l) (Aa x.L (N.fr l)-c)).map D.int))=j at*;generalize j.set a.l (.lst ((x.sa N (N.fr l) l c).L.map D.int))=k at*;generalize k.set a.r (.lst ((x.R.set l (Aa x.R l-c)).map D.int))=m at*;generalize m.set a.r (.lst ((x.sa N (N.fr l) l c).R.map D.int))=E,Aa (x.L.set (N.fr l) (Aa x.L (N.fr l)-c)) (N.to l)=T,Aa (x.R.set l (Aa x.R l-c)) (XB l)=Z at*
 unfold Nj ef;rw[Al];simp[-Jm,C,t,O,F,J,n,H,Q,A,w,M,P,B,I,y,f]
end
def BZ{ks:List Int}(h:1<=lN ks):∃us:List Nat,Fj ks=us.map (λ(i:Nat)=>D.int (i:Int))/\us.Perm (zW (lN ks)):=by
 unfold Fj;by_cases b:lN ks<2
 .rw[if_pos b];refine⟨zW (lN ks),?_,List.Perm.refl _⟩;unfold An;refine qG λi _=>?_
  rw[xU]
 rw[if_neg b];have hp:(Hy (HP ks.reverse) (zi (lN ks))).toList.Perm (zW (lN ks)):=by have:=Array.perm_iff_toList_perm.mp (Xx (lt:=HP ks.reverse) (Yt h)).2;simpa using this
 generalize e:(Hy (HP ks.reverse) (zi (lN ks))).toList=p at*;generalize lN ks=n at*;refine⟨(p.map λi=>n-1-i).reverse,?_,?_⟩
 .rw[List.map_reverse,qk]
  congr 1
  refine qG λi d=>?_
  have c:lN (An 0 n)=n:=by unfold An;simp
  rw[zK,List.getElem?_reverse (by rw[c];exact(qz.mp (hp.mem_iff.mp d))),c];unfold An;rw[zv,qF (by lia)];show D.int (0+((n-1-i:Nat):Int))=_;rw[xU]
  rfl
 .refine(List.reverse_perm _).trans ((hp.map _).trans ?_);have:(zW n).map (λi=>n-1-i)=(zW n).reverse:=by
   refine jv (by simp) λi f b=>?_
   simp
  rw[this];exact List.reverse_perm _
def B0{C m:Str}{tn:DA}{caps:List Nat}{b c:DH}{j:Int}{ks:List Int}(g:tn S G=.ok [.int j] b)(f:1<=j/\j<64)(d:DO.tab C m∈b)(e:H7 te caps S j.toNat 0 b=.ok ks c):Pu C m tn caps te S G=.ok (.ref (lN c)) (c++[.lst (Fj ks)]):=by unfold Pu;rw[g,R.Ea];dsimp only;rw[if_pos ⟨f,d⟩,e,R.Ea]
section
variable{N:IC}{lk:Nat->List Nat}{a:Ad}{x:LR}{Γ:DH}{Wl:List Int}
def B1(b:SN N lk a x Γ)(o:x.Ok N)(ok:N.Ok)(s:N.Mt)(u:lN Wl=N.n+1)(d:l<N.q):Py [zR a.o,zF (Wl.map D.int),s2,zI (N.fr l:Int),zI (l:Int)] Γ=.nx [zR a.o,zF (Wl.map D.int),s2,zI (N.fr l:Int),zI (l:Int)] (hs Γ a (x.one N (Aa Wl) (N.fr l) l)):=by
 have j:=Px (xs:=Wl) (i:=N.fr l) (by have:=ok.fr l d;lia);have h:=Px (xs:=Wl) (i:=N.to l) (by have:=ok.to l d;lia);have e:=b.ends;have g:=b.Zp d;have f:=b.GN;have k:=b.M? d;unfold Py LR.one;by_cases c:Aa Wl (N.fr l)=Aa Wl (N.to l)+N.wo l
 .have p:=BY b o ok s d (c:=min (Aa x.L (N.fr l)) (Aa x.R l));rw[if_pos c];generalize Wl.map D.int=Z,hs Γ a _=r at*;simp[j,h,e,g,f,k,b.left,b.YO o (ok.fr l d),b.rooms,b.N? o d,λ(t:DA)(S:PB)=>b.IH (m:="send_along") (F:=Nj) (t:=t) (S:=S) λ_ _ _ _ _ _=>rfl,p,c]
 rw[if_neg c,b.hs];generalize Wl.map D.int=Z at*;simp[j,h,e,g,f,k,c]
variable{rm ga R0:Nat->Int}{B:LR->Prop}
theorem gE(e:SN N lk a x Γ)(ok:N.Ok)(g:N.Mt)(sc:N.Sc ga)(F:N.Fix rm (Aa Wl))(t:JE N lk)(s:∀(y:LR)(l:Nat)(c:Int),y.Ok N->l<N.q->B y->B (y.sa N (N.fr l) l c))(p:lN Wl=N.n+1)(A:u<N.n){s2:Option D}:∀(b pre:List Nat)(y:LR)(z4:Option D),lk u=pre++b->Kp N (Aa Wl) R0 B y->
  ∃f m,_D.forM (a.fa u) (gV 4) Py (lN b) (lN pre) [zR a.o,zF (Wl.map D.int),s2,zI (u:Int),z4] (hs Γ a y)=.nx [zR a.o,zF (Wl.map D.int),s2,zI (u:Int),m] (hs Γ a f)/\Kp N (Aa Wl) R0 B f/\YI N (Aa Wl) (λl=>l∈b) y f
 |[],pre,y,z4,h,k=>⟨y,z4,Rh ((e.at y).ML u (by lia)) (by rw[h];simp[Bf]),k,(YI.refl y).imp λ_ h=>by cases h⟩
 |l::b,pre,y,z4,h,k=>by
  have i:=(t u l).mp (by rw[h];simp);have d:=i.2;obtain⟨v,z⟩:=BL ok g sc F s k i.1 (by lia);have r:=B1 (e.at y) k.ok ok g p i.1 (s2:=s2);rw[gC e.ad.lr,d]at r;rw[d]at v z;obtain⟨f,m,w,C,H⟩:=gE e ok g sc F t s p A b (pre++[l]) (y.one N (Aa Wl) u l) (zI (l:Int)) (by rw[h];simp) v;refine⟨f,m,?_,C,(z.trans H).imp λj E=>by simpa using E⟩;have I:(Bf (lk u))[lN pre]?=zI (l:Int):=by rw[h];simp[Bf]
  rw[zH,xW]at w;show _D.forM (a.fa u) (gV 4) Py (lN b+1) (lN pre) _ _=_;rw[Rx ((e.at y).ML u (by lia)) I];simp[Cp,R.Cq,qM,r,Dl];exact w
theorem gF(d:SN N lk a x Γ)(ok:N.Ok)(t:N.Mt)(sc:N.Sc ga)(F:N.Fix rm (Aa Wl))(m:JE N lk)(w:∀(y:LR)(l:Nat)(c:Int),y.Ok N->l<N.q->B y->B (y.sa N (N.fr l) l c))(s:lN Wl=N.n+1):∀(us:List Nat)(y:LR)(g z4:Option D),(∀u∈us,u<N.n)->Kp N (Aa Wl) R0 B y->
  ∃f K j,Aw (gV 3) Qn (us.map λ(i:Nat)=>D.int (i:Int)) [zR a.o,zF (Wl.map D.int),s2,g,z4] (hs Γ a y)=.nx [zR a.o,zF (Wl.map D.int),s2,K,j] (hs Γ a f)/\Kp N (Aa Wl) R0 B f/\YI N (Aa Wl) (λl=>l<N.q/\N.fr l∈us) y f
 |[],y,g,z4,h,k=>⟨y,g,z4,rfl,k,(YI.refl y).imp λ_ h=>by cases h.2⟩
 |u::us,y,g,z4,h,k=>by
  have E:=h u (by simp);obtain⟨z,j,L,J,W⟩:=gE d ok t sc F m w s E (lk u) [] y z4 rfl k
  have M:=(d.at y).from
  have C:=(d.at y).O? (u:=u) (by lia);have U:=(d.at y).P? (u:=u) (by lia);have P:=(d.at y).ML u (by lia);have T:lN (Bf (lk u))=lN (lk u):=by simp[Bf]
  have I:Qn [zR a.o,zF (Wl.map D.int),s2,zI (u:Int),z4] (hs Γ a y)=.nx [zR a.o,zF (Wl.map D.int),s2,zI (u:Int),j] (hs Γ a z):=by rw[<-L];generalize hs Γ a y=A,Wl.map D.int=Z at*;unfold Qn;simp[M,C,U,P,T]
  obtain⟨f,H,S,p,O,r⟩:=gF d ok t sc F m w s us z (zI (u:Int)) j (λv Q=>h v (by simp[Q])) J;refine⟨f,H,S,?_,O,(W.trans r).imp λl b=>?_⟩
  .rw[zY,Dc];simp[Cp,R.Cq,qM,I,Dl];exact p
  rcases zw.mp b.2 with e|e
  .exact .inl ((m u l).mpr ⟨b.1,e⟩)
  exact .inr ⟨b.1,e⟩
theorem gG(K:SN N lk a x Γ)(c:lN Wl=N.n+1){s4:Option D}:∀(k i:Nat),i+k<=N.n->H7 Rf [0,1] [zR a.o,zF (Wl.map D.int),s2,s3,s4] k i Γ=.ok ((qU i k).map λj=> -Aa Wl j%((N.n:Int)+1)) Γ
 |0,i,_=>rfl
 |k+1,i,h=>by
  have d:=Px (xs:=Wl) (i:=i) (by lia);have b:Rf (I7 [0,1] (.int (i:Int)) [zR a.o,zF (Wl.map D.int),s2,s3,s4]) Γ=.ok (.int (-Aa Wl i%((N.n:Int)+1))) Γ:=by generalize Wl.map D.int=Z at*;unfold Rf I7;simp[d,BU (w:=Aa Wl i) K,λ(t:DA)(S:PB)=>K.IH (m:="links_of") (F:=Ow) (t:=t) (S:=S) λ_ _ _ _ _ _=>rfl]
  unfold H7;rw[b];simp[R.Ea];rw[gG K c k (i+1) (by lia)];rw[R.Ea,jT,zY]
def B2(K:SN N lk a x Γ)(C:DO.tab "Sending" "send_by"∈Γ)(O:1<=N.n)(L:N.n<=60)(ok:N.Ok)(r:N.Mt)(sc:N.Sc ga)(F:N.Fix rm (Aa Wl))(A:JE N lk)(w:∀(y:LR)(l:Nat)(c:Int),y.Ok N->l<N.q->B y->B (y.sa N (N.fr l) l c))(d:lN Wl=N.n+1)(k:Kp N (Aa Wl) R0 B x):
  ∃y,Pb [.ref a.o,.fl (Wl.map D.int)] Γ=.ok .KA (hs Γ a y)/\Kp N (Aa Wl) R0 B y/\YI N (Aa Wl) (λl=>l<N.q/\N.fr l<N.n) x y:=by
 have hk:=gG K d (s2:=uB) (s3:=uB) (s4:=uB) N.n 0 (by lia);generalize e:((qU 0 N.n).map λj=> -Aa Wl j%((N.n:Int)+1))=b at*;have f:lN b=N.n:=by rw[<-e];simp
 obtain⟨t,g,hp⟩:=BZ (ks:=b) (by lia);rw[f]at hp;obtain⟨y,P,Q,i,E,M⟩:=gF K ok r sc F A w d (s2:=zF (Fj b)) t x uB uB (λu h=>qz.mp (hp.mem_iff.mp h)) k;rw[K.hs,<-g]at i;refine⟨y,?_,E,M.imp λl h=>⟨h.1,hp.mem_iff.mpr (qz.mpr h.2)⟩⟩;have H:freeze Γ (.ok (.ref (lN Γ)) (Γ++[.lst (Fj b)]))=.ok (.fl (Fj b)) Γ:=Bj (g▸Fb λ_ _=>rfl);have m:tidy Γ (.ok .KA (hs Γ a y))=.ok .KA (hs Γ a y):=Hr BX rfl
 have v:lN (Wl.map D.int)=N.n+1:=by simp[d]
 have z:(1:Int)<=(N.n:Int):=by lia
 have s:(N.n:Int)<64:=by lia
 have I:((N.n:Int)).toNat=N.n:=by lia
 have J:=B0 (tn:=Ak (WA Jg (IA Aq (Ak (dV 1) Ba)) (dC (.int 1))) Ba) (S:=[zR a.o,zF (Wl.map D.int),uB,uB,uB]) (G:=Γ) (by simp[v]) ⟨z,s⟩ C (I▸hk);generalize Wl.map D.int=Z,hs Γ a y=p,Fj b=Y at*;unfold Pb eh;rw[Al];simp[J,H,i,m]
end
section
variable{N:IC}{lk:Nat->List Nat}{a:Ad}{x:LR}{Γ:DH}
def SN.app(K:SN N lk a x Γ)(T:DH):SN N lk a x (Γ++T):=by
 have g:∀{p:Nat}{o:DO},Γ[p]?=uA o->(Γ++T)[p]?=uA o:=λ{p o}h=>by rw[zC (zX.mp h).1];exact h
 exact⟨K.ad,g K.ho,g K.hl,g K.hf,λu b=>g (K.ML u b),g K.he,g K.hw,g K.hr⟩
def B3{p q:Option Int}:Do (VA p) (VA q) G=.ok (.bl (!decide (p=q))) G:=by cases p<;>cases q<;>first|rfl|simp[VA]
def Nv:(Γ++[o])[lN Γ]?=uA o:=by simp
def B4{r:Option Int}(h:u<lN P):Fy (.ref (lN Γ)) (.int (u:Int)) (VA r) (Γ++[.lst (P.map VA)])=.ok .KA (Γ++[.lst ((P.set u r).map VA)]):=by
 rw[Jm,Nv];dsimp only;rw[Ob (by simpa using h)];dsimp only;rw[vQ,Ez]
 rfl
def B5(K:SN N lk a x Γ)(o:x.Ok N)(ok:N.Ok)(v:JE N lk)(hP:lN P=N.n+1)(k:u<N.n){d:Bool}{z4:Option D}:∃s,N5 [zR a.o,zR (lN Γ),zB d,zI (u:Int),z4] (Γ++[.lst (P.map VA)])=
  .nx [zR a.o,zR (lN Γ),zB (d&&decide (N.bw (Aa x.R) P (lk u) (gP P u)=gP P u)),zI (u:Int),s] (Γ++[.lst ((P.set u (N.bw (Aa x.R) P (lk u) (gP P u))).map VA)]):=by
 have h:=K.app [.lst (P.map VA)];have i:=BW h o ok v Nv hP k;have g:=λ(t:DA)(S:PB)=>h.IH (m:="best_way") (F:=Oo) (t:=t) (S:=S) λ_ _ _ _ _ _=>rfl
 have f:Af (.ref (lN Γ)) (.int (u:Int)) (Γ++[.lst (P.map VA)])=.ok (VA (gP P u)) (Γ++[.lst (P.map VA)]):=Hk Nv (Xd (by lia));have l:=B4 (Γ:=Γ) (P:=P) (u:=u) (r:=N.bw (Aa x.R) P (lk u) (gP P u)) (by lia);have b:=B3 (p:=N.bw (Aa x.R) P (lk u) (gP P u)) (q:=gP P u) (G:=Γ++[.lst (P.map VA)]);by_cases c:N.bw (Aa x.R) P (lk u) (gP P u)=gP P u
 .rw[SG c (by lia),decide_eq_true c,Bool.and_true];rw[decide_eq_true c]at b;generalize Γ++[.lst (P.map VA)]=e at*;refine⟨uA (VA (N.bw (Aa x.R) P (lk u) (gP P u))),?_⟩;unfold N5;simp[-S8,i,g,f,b]
 rw[decide_eq_false c,Bool.and_false];rw[decide_eq_false c]at b;generalize Γ++[.lst (P.map VA)]=e,Γ++[.lst ((P.set u (N.bw (Aa x.R) P (lk u) (gP P u))).map VA)]=j at*;refine⟨uA (VA (N.bw (Aa x.R) P (lk u) (gP P u))),?_⟩;unfold N5;simp[-Jm,-S8,i,g,f,l,b]
theorem gH(K:SN N lk a x Γ)(o:x.Ok N)(ok:N.Ok)(f:JE N lk):∀(k:Nat)(P:List (Option Int))(d:Bool)(b z4:Option D),lN P=N.n+1->k<=N.n->∃g c,Aw (gV 3) N5 (Ib ((k:Int)-1) k) [zR a.o,zR (lN Γ),zB d,b,z4] (Γ++[.lst (P.map VA)])=
  .nx [zR a.o,zR (lN Γ),zB (d&&N.LD (Aa x.R) lk k P),g,c] (Γ++[.lst ((N.dn (Aa x.R) lk k P).map VA)])
 |0,P,d,b,z4,hP,_=>⟨b,z4,by simp[uS,Aw,IC.LD,IC.dn]⟩
 |k+1,P,d,b,z4,hP,hk=>by
  obtain⟨c,j⟩:=B5 K o ok f hP (u:=k) (by lia) (d:=d) (z4:=z4);obtain⟨l,h,i⟩:=gH K o ok f k (P.set k (N.bw (Aa x.R) P (lk k) (gP P k))) (d&&decide (N.bw (Aa x.R) P (lk k) (gP P k)=gP P k)) (zI (k:Int)) c (by simp[hP]) (by lia);refine⟨l,h,?_⟩;have e:((k+1:Nat):Int)-1=(k:Int):=by lia
  rw[e,uT,Dc];simp only[Cp,R.Cq,qM,j,Dl];rw[i,Bool.and_assoc]
  rfl
variable{π:Nat->Int}
theorem gI(K:SN N lk a x Γ)(o:x.Ok N)(ok:N.Ok)(r:JE N lk)(H:N.n<1000)(way:N.Way (Aa x.R))(j:N.SK (Aa x.R) π)(m:∀u,u<N.n-> -(40000*(N.n:Int))<=π u):∀(p:Nat)(P:List (Option Int))(d z4:Option D),WV N (Aa x.R) π P->Ab N.n (VJ N π P)<p->
  ∃b f g,VI M5 Ug (p+1) [zR a.o,zR (lN Γ),zB uD,d,z4] (Γ++[.lst (P.map VA)])=.nx [zR a.o,zR (lN Γ),zB uC,f,g] (Γ++[.lst (b.map VA)])/\
   WV N (Aa x.R) π b/\(∀v,v<=N.n->lowP N b v)/\∀u,u<N.n->N.bw (Aa x.R) b (lk u) (gP b u)=gP b u
 |0,P,d,z4,V,h=>by have:=BD V m;lia
 | p+1,P,d,z4,V,h=>by
  obtain⟨s,A,E,y⟩:=fh ok r way j N.n V (zx _) λv Y X=>⟨0,by rw[show v=N.n by lia];exact V.z,by lia⟩
  obtain⟨f,g,C⟩:=gH K o ok r N.n P uC d z4 V.len (zx _);rw[Bool.true_and]at C;have k:(lN (P.map VA):Int)=(N.n:Int)+1:=by simp[V.len]
  have I:inR ((N.n:Int)-1):=⟨by lia,by lia⟩;have U:inR (-1:Int):=⟨by lia,by lia⟩;have W:((N.n:Int)-1-(-1)).toNat=N.n:=by lia
  have t:Aq [.ref (lN Γ)] (Γ++[.lst (P.map VA)])=.ok (.int ((N.n:Int)+1)) (Γ++[.lst (P.map VA)]):=by rw[U9,Nv];dsimp only;rw[k]
  have i:=c9 (G:=Γ++[.lst (P.map VA)]) I U;rw[W]at i;have l:Ug [zR a.o,zR (lN Γ),zB uD,d,z4] (Γ++[.lst (P.map VA)])=.nx [zR a.o,zR (lN Γ),zB (N.LD (Aa x.R) lk N.n P),f,g] (Γ++[.lst ((N.dn (Aa x.R) lk N.n P).map VA)]):=by
   have e:(N.n:Int)+1-2=(N.n:Int)-1:=by lia
   generalize Γ++[.lst (P.map VA)]=J at*;unfold Ug;simp[-U9,-c9,t,e,i,C]
  have B:M5 [zR a.o,zR (lN Γ),zB uD,d,z4] (Γ++[.lst (P.map VA)])=.ok uC (Γ++[.lst (P.map VA)]):=by unfold M5;simp
  cases c:N.LD (Aa x.R) lk N.n P with
  |true=>
   obtain⟨T,F⟩:=E c;rw[T]at s A l;rw[c]at l;refine⟨P,f,g,?_,s,A,F⟩;have q:M5 [zR a.o,zR (lN Γ),zB uC,f,g] (Γ++[.lst (P.map VA)])=.ok uD (Γ++[.lst (P.map VA)]):=by unfold M5;simp
   unfold VI;rw[B];simp[R.Cq,if_true,l,Dl];unfold VI;rw[q];simp
  |false=>
   rw[c]at l y;rw[if_neg (by decide)]at y;obtain⟨b,L,S,w,M,Q,O⟩:=gI K o ok r H way j m p (N.dn (Aa x.R) lk N.n P) f g s (by lia);refine⟨b,L,S,?_,M,Q,O⟩;unfold VI;rw[B];simp[R.Cq,if_true,l,Dl];exact w
def JX(N:IC)(π:Nat->Int):Prop:=∀u,u<N.n-> -(40000*(N.n:Int))<=π u/\π u<=40000*(N.n:Int)
def B6(t:JX N π)(V:WV N (Aa x.R) π P)(c:∀u,u<N.n->gP P u=uB)(f:N.n<=60):Ab N.n (VJ N π P)<1000000000:=by
 have h:∀u,u<N.n->VJ N π P u<=4800001:=λu b=>by have:=(t u b).2;unfold VJ;rw[c u b];dsimp only;lia
 have e:∀k:Nat,Ab k (λ_=>(4800001:Int))=4800001*k:=λk=>by
  induction k with
  |zero=>rfl
  |succ k d=>
   show Ab k _+4800001=_;rw[d];lia
 have:=Ew h;rw[e]at this;lia
def gJ(K:SN N lk a x Γ)(o:x.Ok N)(ok:N.Ok)(d:JE N lk)(M:N.n<=60)(way:N.Way (Aa x.R))(p:N.SK (Aa x.R) π)(hz:π N.n=0)(t:JX N π):
  ∃j:List Int,lN j=N.n+1/\Io [.ref a.o] Γ=.ok (.ref (lN Γ)) (Γ++[.lst (j.map D.int)])/\N.Fix (Aa x.R) (Aa j)/\(∀u,u<=N.n->Aa j u<=π u):=by
 have gn:∀u,gP (zQ N.n (uB:Option Int)++[uA 0]) u=if u=N.n then uA 0 else uB:=λu=>by
  unfold gP;rw[zK];by_cases e:u=N.n
  .rw[if_pos e,e];simp
  rw[if_neg e];by_cases h:u<N.n
  .rw[zC (by simpa using h),qP,if_pos h];rfl
  rw[zM (by simp;lia)];rfl
 have A:WV N (Aa x.R) π (zQ N.n uB++[uA 0]):=by
  refine⟨by simp,by rw[gn,if_pos rfl],λu y h b=>?_,λu y b h=>?_⟩
  .rw[gn]at h;split at h
   .rename_i e;cases h;rw[e,hz];exact qK _
   cases h
  rw[gn,if_neg (by lia)]at h;cases h
 have hs:=B6 t A (λu b=>by rw[gn,if_neg (by lia)]) M;have O:fuel=(fuel-1)+1:=by unfold fuel;lia
 obtain⟨P,Z,w4,C,V,k,X⟩:=gI K o ok d (by lia) way p (λu b=>(t u b).1) (fuel-1) _ uB uB A (by unfold fuel;lia);rw[<-O]at C;obtain⟨F,le⟩:=BE ok d V k X;have val:∀u,u<=N.n->gP P u=uA (dP P u):=λu b=>by
  obtain⟨y,h,_⟩:=k u b;unfold dP;rw[h]
  rfl
 have f:lN ((zW (N.n+1)).map (dP P))=N.n+1:=by simp
 have c:∀u,u<=N.n->Aa ((zW (N.n+1)).map (dP P)) u=dP P u:=λu b=>by rw[Gf (by rw[f];lia)];simp
 have hP:P.map VA=((zW (N.n+1)).map (dP P)).map D.int:=by
  refine jv (by simp[V.len]) λi g B=>?_
  have Q:i<lN P:=by simpa using g
  have s:=val i (by have:=V.len;lia);unfold gP at s;rw[zK,zZ Q]at s;have q:P[i]=uA (dP P i):=s;simp[q,VA]
 refine⟨(zW (N.n+1)).map (dP P),f,?_,?_,λu b=>(c u b)▸le u b⟩
 .rw[<-hP];have H:Ed (.ref a.l) Γ=.ok (.mt a.l) Γ:=by simp[Ed,K.hl]
  have w:∀S:PB,Be 1 [] S=[uB]:=λ_=>rfl
  have T:Ei a.l (gV 0) Ao e6 [uB] (lN (x.L.map D.int)) 0 Γ=.ok (zQ (N.n+1) .KA) Γ:=by
   rw[W6 K.hl λy _=>⟨[uA y],rfl,.inr ⟨rfl,.KA,rfl,rfl⟩⟩,xV];have e:(x.L.map D.int).map (λ_=>D.KA)=zQ (N.n+1) D.KA:=by rw[List.map_const'];simp[o.ll]
   rw[e]
  have v:lN (zQ (N.n+1) D.KA)<=1000000:=by simp;lia
  have m:Fy (.ref (lN Γ)) (.int (-1)) (.int 0) (Γ++[.lst (zQ (N.n+1) .KA)])=.ok .KA (Γ++[.lst ((zQ N.n (uB:Option Int)++[uA 0]).map VA)]):=by
   rw[Jm,Nv];dsimp only;rw[show MJ (lN (zQ (N.n+1) D.KA)) (-1)=uA N.n by simp[MJ];lia];dsimp only;rw[Ez]
   congr 2
   rw[List.replicate_succ',List.set_append_right _ _ (by simp)];simp[VA]
  have r:=K.hl;generalize x.L.map D.int=Y,(zQ N.n (uB:Option Int)++[uA 0]).map VA=Y0,zQ (N.n+1) D.KA=Y1 at*;unfold Io e7;rw[Al];simp[-Jm,K.left,H,w,r,T,v,m,C,Du (Fb λ_ _=>A7)]
 refine⟨by rw[c _ (zx _)];exact F.z,λl g B W=>?_,λu b=>?_,λu b=>by rw[c u (by lia)];exact F.lo u b⟩
 .rw[c _ (ok.to l g),c _ (by lia)];exact F.fix l g B W
 .obtain⟨l,E,I,U,J⟩:=F.VS u b;exact⟨l,E,I,U,by rw[c u (by lia),c _ (ok.to l E)];exact J⟩
end
noncomputable def MB(g n:Nat):Ad:=⟨g,g+1,g+n+3,g+n+4,g+n+5,g+n+6,λu=>g+2+u⟩
def gK{g:Nat}:(MB g n).Ok n:=by constructor <;> (try intro u a)<;>(simp only[MB];lia)
noncomputable def IC.cut(N:IC)(k:Nat):IC:=⟨N.n,k,N.fr,N.to,N.wo⟩
noncomputable def LI(N:IC)(k u:Nat):List Nat:=(zW k).filter λl=>N.fr l=u
def B7{N:IC}:JE N (LI N N.q):=λu l=>by unfold LI;simp
def Qo{p:Nat}{xs:List D}(h:Γ[p]?=uA (.lst xs))(a:lN xs<1000000):Cd (.ref p) [d] Γ=.ok .KA (Γ.set p (.lst (xs++[d]))):=by rw[br,h];exact if_pos a
def get_set{p:Nat}{b:DO}(a:p≠i)(h:Γ[i]?=uA o):(Γ.set p b)[i]?=uA o:=by rw[z0 a];exact h
def U5{p:Nat}{a:DO}(h:Γ[p]?=uA o):(Γ.set p a)[p]?=uA a:=qA (zX.mp h).1
section
variable{N:IC}{k g:Nat}{x:LR}{Γ:DH}
def gL(K:SN (N.cut k) (LI N k) (MB g N.n) x Γ)(hk:k<1000)(hR:lN x.R=k)(B:N.fr k<=N.n){ga room:Int}(hw:N.wo k=ga*((N.n:Int)+1)-1)(hg: -1000<=ga/\ga<=1000):
  ∃f,Hh [.ref g,.int (N.fr k:Int),.int (N.to k:Int),.int ga,.int room] Γ=.ok .KA f/\SN (N.cut (k+1)) (LI N (k+1)) (MB g N.n) ⟨x.L,x.R++[room]⟩ f/\lN f=lN Γ/\∀i,i<g->f[i]?=Γ[i]? :=by
 have j:=K.ho;have E:Γ[g+N.n+3]?=uA (.lst ((zW (N.n+1)).map λu=>D.ref (g+2+u))):=K.hf;have v:∀u,u<=N.n->Γ[g+2+u]?=uA (.lst (Bf (LI N k u))):=K.ML;have A:Γ[g+N.n+4]?=uA (.lst (Bf ((zW k).map N.to))):=K.he;have I:Γ[g+N.n+5]?=uA (.lst (((zW k).map N.wo).map D.int)):=K.hw;have Z:=K.hr;have h:lN (Bf (LI N k (N.fr k)))<1000000:=by unfold Bf LI;rw[zq];have:=List.length_filter_le (λl=>decide (N.fr l=N.fr k)) (zW k);rw[xY]at this;lia
 have QF:lN (Bf ((zW k).map N.to))=k:=by simp[Bf]
 have HN:lN (((zW k).map N.wo).map D.int)=k:=by simp
 have C:lN (x.R.map D.int)=k:=by simp[hR]
 generalize w:Bf (LI N k (N.fr k))=o,hE:Bf ((zW k).map N.to)=y,hW:((zW k).map N.wo).map D.int=z,hX:x.R.map D.int=J at*;have p:Γ[g+2+N.fr k]?=uA (.lst o):=by rw[v _ B,w]
 let b:=Γ.set (g+2+N.fr k) (.lst (o++[.int (k:Int)]));let a:=b.set (g+N.n+4) (.lst (y++[.int (N.to k:Int)]));let c:=a.set (g+N.n+5) (.lst (z++[.int (N.wo k)]));let d:=c.set (g+N.n+6) (.lst (J++[.int room]));have H:b[g]?=_:=get_set (by lia) j;have t:a[g]?=_:=get_set (by lia) H;have F:c[g]?=_:=get_set (by lia) t;have q:b[g+N.n+4]?=_:=get_set (by lia) A;have s:a[g+N.n+5]?=_:=get_set (by lia) (get_set (by lia) I)
 have T:a[g+N.n+6]?=_:=get_set (by lia) (get_set (by lia) Z);have m:c[g+N.n+6]?=_:=get_set (by lia) T;refine⟨d,?_,?_,by simp[d,c,a,b],λi hi=>?_⟩
 .have p1:Cd (.ref (g+2+N.fr k)) [.int (k:Int)] Γ=.ok .KA b:=Qo p h;have p2:Cd (.ref (g+N.n+4)) [.int (N.to k:Int)] b=.ok .KA a:=Qo q (by lia);have Y:Cd (.ref (g+N.n+5)) [.int (N.wo k)] a=.ok .KA c:=Qo s (by lia);have M:Cd (.ref (g+N.n+6)) [.int room] c=.ok .KA d:=Qo m (by lia);have q1:Cr "Sending" "links_from" (.ref g) Γ=.ok (.ref (g+N.n+3)) Γ:=De j rfl;have P:Cr "Sending" "ends" (.ref g) Γ=.ok (.ref (g+N.n+4)) Γ:=De j rfl
  have q3:Cr "Sending" "ends" (.ref g) b=.ok (.ref (g+N.n+4)) b:=De H rfl;have Q:Cr "Sending" "worths" (.ref g) a=.ok (.ref (g+N.n+5)) a:=De t rfl;have q5:Cr "Sending" "scale" (.ref g) a=.ok (.int ((N.n:Int)+1)) a:=De t rfl;have q6:Cr "Sending" "rooms" (.ref g) c=.ok (.ref (g+N.n+6)) c:=De F rfl;have q7:Af (.ref (g+N.n+3)) (.int (N.fr k:Int)) Γ=.ok (.ref (g+2+N.fr k)) Γ:=Hk E (By (k:=N.fr k) (by lia) (by rw[zv,qF (by lia)];rfl))
  have q8:Aq [.ref (g+N.n+4)] Γ=.ok (.int (k:Int)) Γ:=by rw[U9,A];dsimp only;rw[QF]
  have S:Bu (.int ga) (.int ((N.n:Int)+1)) a=.ok (.int (ga*((N.n:Int)+1))) a:=Ds (by lia) (by lia);have O:tidy Γ (.ok .KA d)=.ok .KA d:=Hr (by simp[d,c,a,b]) rfl
  clear_value d c a b
  unfold Hh eX;rw[Al];simp[-br,-U9,-S8,p,q,s,m,p1,p2,Y,M,q1,P,q3,Q,q5,q6,q7,q8,S,O,hw.symm,Bl]
 .have s1:(zW (k+1)).map N.to=(zW k).map N.to++[N.to k]:=by rw[xS,qx];rfl
  have X:(zW (k+1)).map N.wo=(zW k).map N.wo++[N.wo k]:=by rw[xS,qx];rfl
  refine⟨gK,get_set (by simp[MB];lia) F,get_set (by simp[MB];lia) (get_set (by simp[MB];lia) (get_set (by simp[MB];lia) (get_set (by simp[MB];lia) K.hl))),get_set (by simp only[MB];lia) (get_set (by simp only[MB];lia) (get_set (by simp only[MB];lia) (get_set (by simp[MB];lia) E))),λu W=>?_,?_,?_,?_⟩
  .have r:u<=N.n:=W;refine get_set (by simp[MB];lia) (get_set (by simp[MB];lia) (get_set (by simp[MB];lia) ?_));have s3:LI N (k+1) u=LI N k u++if N.fr k=u then[k]else[]:=by
    unfold LI;rw[xS,List.filter_append]
    congr 1
    by_cases e:N.fr k=u<;>simp[e]
   show b[g+2+u]?=_;rw[s3];by_cases e:N.fr k=u
   .subst e;rw[if_pos rfl];refine(U5 p).trans ?_;rw[<-w];simp[Bf]
   rw[if_neg e,qV];exact get_set (by lia) (v u r)
  .refine get_set (by simp only[MB];lia) (get_set (by simp only[MB];lia) ((U5 q).trans ?_));show uA (DO.lst (y++_))=uA (DO.lst (Bf ((zW (k+1)).map N.to)));rw[s1,<-hE];simp[Bf]
  .refine get_set (by simp only[MB];lia) ((U5 s).trans ?_);show uA (DO.lst (z++_))=uA (DO.lst (((zW (k+1)).map N.wo).map D.int));rw[X,<-hW];simp
  refine(U5 m).trans ?_;rw[<-hX];simp
 have U:(Γ.set (g+2+N.fr k) (.lst (o++[.int (k:Int)])))[i]?=Γ[i]? :=z0 (by lia);rw[<-U,<-z0 (l:=b) (i:=g+N.n+4) (by lia)];rw[<-z0 (l:=a) (i:=g+N.n+5) (by lia)];exact z0 (by lia)
end
def Es(wide:Int)(as:List ZA):List Int:=as.flatMap λa=>[Hi wide a,0]
theorem Sx:∀as:List ZA,lN (Es wide as)=2*lN as
 |[]=>rfl
 |a::as=>by show lN (Hi wide a::0::Es wide as)=_;rw[zE,zE,Sx as,zE];lia
theorem N7:∀(as:List ZA)(i:Nat),i<lN as->Aa (Es wide as) (2*i)=Hi wide (Am as i)/\Aa (Es wide as) (2*i+1)=0
 |a::as,0,_=>⟨rfl,rfl⟩
 |a::as,i+1,h=>N7 as i (by simpa using h)
section
variable{n g:Nat}{as:List ZA}{L:List Int}{wide:Int}
def B8{pre rest:List ZA}{a:ZA}:Am (pre++a::rest) (lN pre)=a:=by unfold Am;rw[zK];simp
theorem gM(SA:∀x∈as,KB n x)(T:lN as<=400){o:Nat}(f:o<g):∀(rest pre:List ZA)(Γ:DH)(z:Option D),as=pre++rest->Γ[o]?=uA (.lst (as.map JB))->SN ((UA n as).cut (2*lN pre)) (LI (UA n as) (2*lN pre)) (MB g n) ⟨L,Es wide pre⟩ Γ->
  ∃c w,_D.forM o (gV 5) Je (lN rest) (lN pre) [zR g,s1,s2,s3,zI wide,z] Γ=.nx [zR g,s1,s2,s3,zI wide,w] c/\SN ((UA n as).cut (2*lN as)) (LI (UA n as) (2*lN as)) (MB g n) ⟨L,Es wide as⟩ c/\lN c=lN Γ/\∀i,i<g->c[i]?=Γ[i]?
 |[],pre,Γ,z,h,d,K=>by rw[qV]at h;subst h;exact⟨Γ,z,Rh d (by simp),K,rfl,λ_ _=>rfl⟩
 | a::rest,pre,Γ,z,h,d,K=>by
  have v:Am as (lN pre)=a:=h▸B8;have q:lN pre<lN as:=by rw[h];simp
  have r:=KB.of SA q;rw[v]at r;have s:(UA n as).fr (2*lN pre)=a.fr/\(UA n as).to (2*lN pre)=a.to/\TK as (2*lN pre)=a.ga:=by have:=Qf (n:=n) (as:=as) (l:=2*lN pre) (by lia);rw[show 2*lN pre/2=lN pre by lia,v]at this;exact this
  have u:(UA n as).fr (2*lN pre+1)=a.to/\(UA n as).to (2*lN pre+1)=a.fr/\TK as (2*lN pre+1)= -a.ga:=by have:=T4 (n:=n) (as:=as) (l:=2*lN pre+1) (by lia);rw[show(2*lN pre+1)/2=lN pre by lia,v]at this;exact this
  have h1:=r.lt;have Z:=r.ga;obtain⟨e,k,I,l1,M⟩:=gL K (by lia) (Sx pre) (by rw[s.1];show a.fr<=n;lia) (by show TK as _*_-1=_;rw[s.2.2];rfl) Z;obtain⟨m,y,H,l2,O⟩:=gL I (by lia) (by simp[Sx]) (u.1▸r.le) (by show TK as _*_-1=_;rw[u.2.2];rfl) (by lia);rw[s.1,s.2.1]at k;rw[u.1,u.2.1]at y;have Y:2*lN pre+1+1=2*lN (pre++[a]):=by simp;lia
  have P:Es wide pre++[Hi wide a]++[0]=Es wide (pre++[a]):=by unfold Es;rw[List.flatMap_append];simp
  rw[Y]at H;have E:SN ((UA n as).cut (2*lN (pre++[a]))) (LI (UA n as) (2*lN (pre++[a]))) (MB g n) ⟨L,Es wide (pre++[a])⟩ m:=by rw[<-P];exact H
  obtain⟨c,w,J,W,Q,U⟩:=gM SA T f rest (pre++[a]) m (uA (JB a)) (by rw[h];simp) (by rw[O o f,M o f];exact d) E;refine⟨c,w,?_,W,by rw[Q,l2,l1],λi C=>by rw[U i C,O i C,M i C]⟩;have N:∀(t:DA)(S:PB),Hs "Sending" "add_link" Hh t S (.ref g) Γ=(t S Γ).bind λB A=>Hh (.ref g::B) A:=λt S=>K.IH λ_ _ _ _ _ _=>rfl
  have F:∀(t:DA)(S:PB),Hs "Sending" "add_link" Hh t S (.ref g) e=(t S e).bind λB A=>Hh (.ref g::B) A:=λt S=>I.IH λ_ _ _ _ _ _=>rfl
  have X:Je [zR g,s1,s2,s3,zI wide,uA (JB a)] Γ=.nx [zR g,s1,s2,s3,zI wide,uA (JB a)] m:=by
   unfold Je JB;cases p:a.mo with
   |none=>
    have j:Hh [.ref g,.int (a.fr:Int),.int (a.to:Int),.int a.ga,.int wide] Γ=.ok .KA e:=by unfold Hi at k;rw[p]at k;exact k
    simp[N,F,j,y,VA,Cy]
   |some b=>
    have j:Hh [.ref g,.int (a.fr:Int),.int (a.to:Int),.int a.ga,.int b] Γ=.ok .KA e:=by unfold Hi at k;rw[p]at k;exact k
    simp[N,F,j,y,VA,Cy]
  have hx:(as.map JB)[lN pre]?=uA (JB a):=by rw[h];simp
  rw[show lN (pre++[a])=lN pre+1 by simp]at J;show _D.forM o (gV 5) Je (lN rest+1) (lN pre) _ _=_;rw[Rx d hx];simp[Cp,R.Cq,qM,X,Dl];exact J
theorem gN{p:Nat}{Y:List D}:∀(k j:Nat)(Γ:DH),Γ[p]?=uA (.lst Y)->j+k=lN Y->Ei p (gV 0) Ao Mu [uB] k j Γ=.ok ((zW k).map λi=>D.ref (lN Γ+i)) (Γ++zQ k (.lst []))
 |0,j,Γ,h,b=>by unfold Ei;rw[h];dsimp only;rw[if_pos (by lia)];simp
 | k+1,j,Γ,h,b=>by
  have a:tidy Γ (.ok (.ref (lN Γ)) (Γ++[.lst []]))=.ok (.ref (lN Γ)) (Γ++[.lst []]):=Du rfl;have c:Mu [uA Y[j]] Γ=.ok (.ref (lN Γ)) (Γ++[.lst []]):=by unfold Mu;simp[a]
  have d:=gN k (j+1) (Γ++[.lst []]) (by rw[zC (zX.mp h).1];exact h) (by lia);unfold Ei;rw[h];dsimp only;rw[zZ (by lia)];simp[Cp,R.Ea,qM,Ao,if_true,c];rw[d];simp only[R.Ea]
  congr 1
  .rw[jZ,zY,qk]
   congr 1
   refine qG λi _=>?_
   simp;lia
  simp[q0]
end
def Iq{T:DH}{fs:List (Str×D)}{f:Str}(h:lN fs<1000):Jf "Sending" f (.ref (lN G)) d S (G++ .ins "Sending" fs::T)=.nx S (G++ .ins "Sending" (Gy f d fs)::T):=by
 rw[c8 (by simp) h,Ez]
 rfl
def Rq{T H':DH}{fs:List (Str×D)}{f:Str}{tv:DE}(e:tv S H=.ok d H')(b:S[0]?=uA (zR (lN G)))(a:H'=G++ .ins "Sending" fs::T)(h:lN fs<1000):Cm "Sending" (dV 0) tv f S H=.nx S (G++ .ins "Sending" (Gy f d fs)::T):=by
 have c:dV 0 S H'=.ok (.ref (lN G)) H':=by simp[b]
 rw[c7,e,R.Cq,c,R.Cq,a];exact Iq h
def B9{s:List Int}(c:S[3]?=uA (zF (s.map D.int)))(g:lN s<1000):Bg (WA Dq (Aj (IA Fq (Ak (dV 3) Ba))) (Aj (IA Ac (Ak (dC (.int 0)) Ba)))) S H=.ok (.ref (lN H)) (H++[.lst ((s++[0]).map D.int)]):=by
 have f:freeze H (.ok (.ref (lN H)) (H++[.lst (s.map D.int)]))=.ok (.fl (s.map D.int)) H:=Bj Dm;have b:freeze H (.ok (.ref (lN H)) (H++[.lst [.int 0]]))=.ok (.fl [.int 0]) H:=Bj rfl;have e:(s++[0]).map D.int=s.map D.int++[.int 0]:=by simp
 have d:tidy H (.ok (.ref (lN H)) (H++[.lst (s.map D.int++[.int 0])]))=.ok (.ref (lN H)) (H++[.lst (s.map D.int++[.int 0])]):=Du (by rw[<-e];exact Dm);have a:lN (s.map D.int)+1<=1000000:=by simp;lia
 rw[e];generalize s.map D.int=Z at*;simp[c,f,b,Ac,a,d]
def X3:Bg (IA Ac Ba) S H=.ok (.ref (lN H)) (H++[.lst []]):=by have a:tidy H (.ok (.ref (lN H)) (H++[.lst []]))=.ok (.ref (lN H)) (H++[.lst []]):=Du rfl;simp[Ac,a]
section
variable{n:Nat}{as:List ZA}{s:List Int}
def Bi(ok:SF n as s)(G:DH){d:Nat}(U:G[d]?=uA (.lst (as.map JB))):∃Γ,Qx [.ref (lN G),.int n,.ref d,.fl (s.map D.int)] (G++[.ins "Sending" []])=.ok .KA Γ/\SN (UA n as) (LI (UA n as) (UA n as).q) (MB (lN G) n) ⟨s++[0],Es (s.sum+1) as⟩ Γ/\Γ.take (lN G)=G/\lN G<lN Γ:=by
 have YM:=ok.n2;have m40:=ok.len;have F:=ok.sl;let R:=(zW (n+1)).map λi=>D.ref (lN G+2+i)
 let b:DH:=G++[.ins "Sending" [("scale",.int ((n:Int)+1)),("left",.ref (lN G+1))],.lst ((s++[0]).map D.int)];let m:DH:=G++ .ins "Sending" [("scale",.int ((n:Int)+1)),("left",.ref (lN G+1)),("links_from",.ref (lN G+n+3))]:: .lst ((s++[0]).map D.int)::(zQ (n+1) (.lst [])++[.lst R]);let c:DH:=G++ .ins "Sending" (ZM n (lN G+1) (lN G+n+3) (lN G+n+4) (lN G+n+5) (lN G+n+6)):: .lst ((s++[0]).map D.int)::(zQ (n+1) (.lst [])++[.lst R,.lst [],.lst [],.lst []])
 have K6:SN ((UA n as).cut (2*lN ([]:List ZA))) (LI (UA n as) (2*lN ([]:List ZA))) (MB (lN G) n) ⟨s++[0],Es (s.sum+1) []⟩ c:=by
  have B:∀(k:Nat)(o:DO),(DO.ins "Sending" (ZM n (lN G+1) (lN G+n+3) (lN G+n+4) (lN G+n+5) (lN G+n+6)):: .lst ((s++[0]).map D.int)::(zQ (n+1) (.lst [])++[.lst R,.lst [],.lst [],.lst []]))[k]?=uA o->c[lN G+k]?=uA o:=λk o h=>by rw[zO (by lia),qR];exact h
  have A:∀(k:Nat)(o:DO),[DO.lst R,.lst [],.lst [],.lst []][k]?=uA o->c[lN G+(n+3+k)]?=uA o:=λk o h=>by refine B _ _ ?_;rw[show n+3+k=(n+1+k)+1+1 by lia,j7,j7,zO (by simp)];simpa using h
  refine⟨gK,B 0 _ rfl,B 1 _ rfl,A 0 _ rfl,λu hu=>?_,A 1 _ rfl,A 2 _ rfl,A 3 _ rfl⟩;have hu':u<=n:=hu;have:=B (2+u) (.lst []) (by rw[show 2+u=u+1+1 by lia,j7,j7,zC (by simp;lia),qP,if_pos (by lia)])
  rw[<-xI]at this;exact this
 have t:=(zX.mp U).1;have I:c[d]?=uA (.lst (as.map JB)):=by rw[zC t];exact U
 obtain⟨Γ,w,hL,K,v,y⟩:=gM ok.OG (by lia) t (s1:=zI n) (s2:=zR d) (s3:=zF (s.map D.int)) as [] c uB rfl I K6;have J:lN G<lN Γ:=by rw[v];simp[c]
 refine⟨Γ,?_,K,?_,J⟩
 .let a:PB:=[zR (lN G),zI n,zR d,zF (s.map D.int),zI (s.sum+1),uB];let j:DH:=G++[.ins "Sending" [("scale",.int ((n:Int)+1))]];let p:DH:=G++ .ins "Sending" [("scale",.int ((n:Int)+1)),("left",.ref (lN G+1)),("links_from",.ref (lN G+n+3)),("ends",.ref (lN G+n+4))]:: .lst ((s++[0]).map D.int)::(zQ (n+1) (.lst [])++[.lst R,.lst []]);let l:DH:=G++ .ins "Sending" [("scale",.int ((n:Int)+1)),("left",.ref (lN G+1)),("links_from",.ref (lN G+n+3)),("ends",.ref (lN G+n+4)),("worths",.ref (lN G+n+5))]:: .lst ((s++[0]).map D.int)::(zQ (n+1) (.lst [])++[.lst R,.lst [],.lst []])
  have t1:JC (WA Dq (IA Gg (Ak (dV 3) Ba)) (dC (.int 1))) (gV 4) [zR (lN G),zI n,zR d,zF (s.map D.int),uB,uB] (G++[.ins "Sending" []])=.nx a (G++[.ins "Sending" []]):=by show _=SR.nx [zR (lN G),zI n,zR d,zF (s.map D.int),zI (s.sum+1),uB] _;simp
  have t2:Cm "Sending" (dV 0) (WA Dq (dV 1) (dC (.int 1))) "scale" a (G++[.ins "Sending" []])=.nx a j:=Rq (fs:=[]) (by simp[a]) rfl rfl (by simp);have t3:Cm "Sending" (dV 0) (Bg (WA Dq (Aj (IA Fq (Ak (dV 3) Ba))) (Aj (IA Ac (Ak (dC (.int 0)) Ba))))) "left" a j=.nx a b:=by
   have e:(D.ref (lN j))=D.ref (lN G+1):=by simp[j]
   have:=Rq (f:="left") (B9 (S:=a) rfl (by lia)) rfl (show j++[DO.lst ((s++[0]).map D.int)]=G++ .ins "Sending" [("scale",.int ((n:Int)+1))]::[DO.lst ((s++[0]).map D.int)] by simp[j]) (by simp);rw[e]at this;exact this
  have r:lN b=lN G+2:=by simp[b]
  have g:b[lN G+1]?=uA (.lst ((s++[0]).map D.int)):=by
   rw[zO (by lia),qR]
   rfl
  have L:0+(n+1)=lN ((s++[0]).map D.int):=by simp[F]
  have x:=gN (n+1) 0 b g L;have cv:Bv (Dg (Av "Sending" (dV 0) "left")) 1 [] (gV 0) Ao Mu a b=.ok (.ref (lN G+n+3)) (b++zQ (n+1) (.lst [])++[.lst R]):=by
   have N:Cr "Sending" "left" (.ref (lN G)) b=.ok (.ref (lN G+1)) b:=De (fs:=[("scale",.int ((n:Int)+1)),("left",.ref (lN G+1))]) (by simp[b]) rfl;have E:Ed (.ref (lN G+1)) b=.ok (.mt (lN G+1)) b:=by simp[Ed,g]
   have P:∀S:PB,Be 1 [] S=[uB]:=λ_=>rfl
   have Q:((zW (n+1)).map λi=>D.ref (lN b+i))=R:=by
    refine qG λi _=>?_
    rw[r]
   rw[Q]at x;have e4:lN R<=1000000:=by simp[R];lia
   have e5:lN (b++zQ (n+1) (DO.lst []))=lN G+n+3:=by simp[r];lia
   have C:a[0]?=uA (zR (lN G)):=rfl;have O:lN ((s++[0]).map D.int)=n+1:=by lia
   clear_value R b a
   generalize(s++[0]).map D.int=Z,b++zQ (n+1) (DO.lst [])=H2' at*;simp[N,E,C,O,P,g,x,Ac,e4,e5]
  have t4:Cm "Sending" (dV 0) (Bv (Dg (Av "Sending" (dV 0) "left")) 1 [] (gV 0) Ao Mu) "links_from" a b=.nx a m:=by have:=Rq (f:="links_from") cv rfl (show b++zQ (n+1) (.lst [])++[.lst R]=G++ .ins "Sending" [("scale",.int ((n:Int)+1)),("left",.ref (lN G+1))]::(.lst ((s++[0]).map D.int)::(zQ (n+1) (.lst [])++[.lst R])) by simp[b]) (by simp);exact this
  have nx:∀(H:DH)(T:DH)(fs:List (Str×D))(f:Str)(k:Nat),H=G++ .ins "Sending" fs::T->lN H=k->lN fs<1000->Cm "Sending" (dV 0) (Bg (IA Ac Ba)) f a H=.nx a (G++ .ins "Sending" (Gy f (.ref k) fs)::(T++[.lst []])):=λH T fs f k N E Q=>by rw[<-E];exact Rq X3 rfl (by rw[N];simp) Q
  have t5:Cm "Sending" (dV 0) (Bg (IA Ac Ba)) "ends" a m=.nx a p:=by have:=nx m _ _ "ends" (lN G+n+4) rfl (by simp[m];lia) (by simp);simp only[j4,qW,xM]at this;exact this
  have t6:Cm "Sending" (dV 0) (Bg (IA Ac Ba)) "worths" a p=.nx a l:=by have:=nx p _ _ "worths" (lN G+n+5) rfl (by simp[p];lia) (by simp);simp only[j4,qW,xM,qH]at this;exact this
  have t7:Cm "Sending" (dV 0) (Bg (IA Ac Ba)) "rooms" a l=.nx a c:=by have:=nx l _ _ "rooms" (lN G+n+6) rfl (by simp[l];lia) (by simp);simp only[j4,qW,xM,qH]at this;exact this
  have t8:Br (Dg (dV 2)) (gV 5) Je a c=.nx [zR (lN G),zI n,zR d,zF (s.map D.int),zI (s.sum+1),w] Γ:=by
   have C:dV 2 a c=.ok (.ref d) c:=rfl;have O:Ed (.ref d) c=.ok (.mt d) c:=by simp[Ed,I]
   rw[sM,sO,C,_D.R.Ea,O]
   show(match c[d]? with |some (.lst xs)=>_D.forM d (gV 5) Je (lN xs) 0 a c|_=>.bad)=_
   rw[I];show _D.forM d (gV 5) Je (lN (as.map JB)) 0 a c=_;rw[zq];exact hL
  have Y:tidy (G++[.ins "Sending" []]) (.ok .KA Γ)=.ok .KA Γ:=by
   refine ci λz=>?_
   have X:(Γ.take (lN (G++[DO.ins "Sending" []])))[lN G]?=uA (.ins "Sending" []):=by rw[z];simp
   rw[qE (by simp)]at X;have W:Γ[lN G]?=uA (.ins "Sending" (ZM n _ _ _ _ _)):=K.ho;rw[X]at W;cases W
  clear_value c l p m b j a
  unfold Qx eY;rw[Al];simp only[Sv,zY,qy,j4,qH,zQ,t1,t2,t3,t4,t5,t6,t7,t8,Rb];simp[Y]
 refine jM λi=>?_
 by_cases M:i<lN G
 .rw[qE M,y i M,zC M]
 rw[zM (by rw[qN];lia),zM (by lia)]
end
theorem gO:∀l:List Nat,Hn (Bf l)=uA (l.map λ(i:Nat)=>V.int (i:Int))
 |[]=>rfl
 |i::l=>by
  show Hn (.int (i:Int)::Bf l)=_;unfold Hn;rw[gO l]
  rfl
theorem gQ(d:Nat):∀l:List Nat,NN (.int (d:Int)) (l.map λ(i:Nat)=>V.int (i:Int))=decide (d∈l)
 |[]=>rfl
 |i::l=>by
  have e:=gQ d l;unfold NN at*;rw[zY,j3,e];by_cases h:d=i
  .subst h;simp[WH]
  have b:¬i=d:=λz=>h z.symm
  have c:¬((i:Int)=(d:Int)):=by lia
  simp[WH,h,b,c]
section
variable{n:Nat}{as:List ZA}{s:List Int}
def Bn(ok:SF n as s)(G:DH){c:Nat}(o:G[c]?=uA (.lst (as.map JB))):Ud [.int n,.ref c] G=.ok .KA G:=by
 have M:=ok.n2;have J:=ok.len
 let F:D->Option D:=λd=>match d with
  |.tup [a,_,.KA,_]=>uA a
  |_=>uB
 have B:∀S:PB,Be 1 [] S=[uB]:=λ_=>rfl
 have C:Ei c (gV 0) Wu Vl [uB] (lN (as.map JB)) 0 G=.ok ((as.map JB).filterMap F) G:=W6 o λy P=>by
  obtain⟨x,W,rfl⟩:=qY.mp P;refine⟨[uA (JB x)],rfl,?_⟩;unfold Wu Vl;cases h:x.mo with
  |none=>
   refine .inr ⟨?_,.int x.fr,?_,?_⟩
   .simp[JB,h,VA,Cy]
   .simp[JB]
   simp[JB,h,VA,F]
  |some b=>
   refine .inl ⟨?_,?_⟩
   .simp[JB,h,VA,Cy]
   simp[JB,h,VA,F]
 have H:∀l:List ZA,(l.map JB).filterMap F=Bf ((l.filter λx=>x.mo.isNone).map ZA.fr):=λl=>by
  induction l with
  |nil=>rfl
  |cons x l m=>
   rw[zY,jX];cases h:x.mo with
   |_=>simp[JB,h,VA,F,List.filter_cons,Bf]at m⊢;exact m
 rw[H]at C;have j:∀u,u<n->u∈(as.filter λx=>x.mo.isNone).map ZA.fr:=λu q=>by obtain⟨x,I,r,Q⟩:=ok.way u q;exact qY.mpr ⟨x,List.mem_filter.mpr ⟨I,by rw[Q];rfl⟩,r⟩
 have p:lN (Bf ((as.filter λx=>x.mo.isNone).map ZA.fr))<=1000000:=by have:=List.length_filter_le (λx:ZA=>x.mo.isNone) as;simp[Bf,zq];lia
 have L:freeze G (.ok (.ref (lN G)) (G++[.lst (Bf ((as.filter λx=>x.mo.isNone).map ZA.fr))]))=.ok (.fl (Bf ((as.filter λx=>x.mo.isNone).map ZA.fr))) G:=Bj (Fb λ_ _=>rfl);generalize(as.filter λx=>x.mo.isNone).map ZA.fr=U at*;have t:∀u,u<n->Ir (.int (u:Int)) (.fl (Bf U)) G=.ok (.bl uD) G:=λu q=>by
  unfold Ir inD;dsimp only
  rw[show Bk (.fl (Bf U)) G=uA (Bf U)from rfl,show K4 (.int (u:Int))=uA (V.int (u:Int))from rfl]
  dsimp only;rw[gO,Option.map_some,gQ,decide_eq_true (j u q)]
  rfl
 have A:∀(k i:Nat)(z:Option D)(f g:Option D),i+k<=n->∃w,Aw (gV 3) Pn (An (i:Int) k) [f,g,zF (Bf U),z] G=.nx [f,g,zF (Bf U),w] G:=λk=>by
  induction k with
  |zero=>exact λi z f g _=>⟨z,rfl⟩
  |succ k m=>
   intro i z f g T;have K:Pn [f,g,zF (Bf U),zI (i:Int)] G=.nx [f,g,zF (Bf U),zI (i:Int)] G:=by unfold Pn;generalize Bf U=Z at*;simp[t i (by lia)]
   obtain⟨w,r⟩:=m (i+1) (zI (i:Int)) f g (by lia);refine⟨w,?_⟩;rw[Eu,Dc];simp[Cp,R.Cq,qM,K,Dl];have e:(i:Int)+1=((i+1:Nat):Int):=by lia
   rw[e,r]
 obtain⟨w,A⟩:=A n 0 uB (zI n) (zR c) (by lia);have E:inR (n:Int):=⟨by lia,by lia⟩;have v:Aw (gV 3) Pn (An 0 n) [zI n,zR c,zF (Bf U),uB] G=.nx [zI n,zR c,zF (Bf U),w] G:=A;generalize Bf U=Z,as.map JB=Y at*;unfold Ud el;rw[Al];have O:Ed (.ref c) G=.ok (.mt c) G:=by simp[Ed,o]
 simp[O,o,B,C,Ac,p,L,E,v,Bl]
end
section
variable{N:IC}{lk:Nat->List Nat}{a:Ad}{x:LR}{Γ:DH}
theorem gS:∀(m:Nat)(R:List Int)(i:Nat),lN R=2*m->i%2=0->((R.zipIdx i).filterMap λp=>if p.2%2=1 then uA p.1 else uB)=(zW m).map λj=>R.getD (2*j+1) 0
 |0,R,i,h,_=>by
  have:=jz (by omega);subst this
  rfl
 | m+1,R,i,h,c=>by
  match R,h with
  |b::d::R,h=>
   rw[jJ,jJ,jX,jX,if_neg (by lia),if_pos (by lia)];rw[gS m R (i+1+1) (by simp at h;lia) (by lia),jZ,zY,qk]
   rfl
def Bz(K:SN N lk a x Γ)(o:x.Ok N)(w:N.q=2*m)(v:m<=1000):Ky [.ref a.o] Γ=.ok (.ref (lN Γ)) (Γ++[.lst (((zW m).map λi=>Aa x.R (2*i+1)).map D.int)]):=by
 have hs:=Oc K.hr;have rl:=o.rl
 let F:D->Option D:=λd=>match d with
  |.tup [.int i,r]=>if i%2=1 then uA r else uB
  |_=>uB
 have f:∀S:PB,Be 2 [] S=[uB,uB]:=λ_=>rfl
 have g:∀j,Gb 0 (.ref a.r) j Γ=uA (El (x.R.map D.int))[j]? :=λj=>by
  have:=cW (xs:=x.R.map D.int) j Γ;unfold Gb at this⊢;rw[hs]
  rw[show Bk (.fl (x.R.map D.int)) Γ=uA (x.R.map D.int)from rfl]at this
  exact this
 have k:Dj (Gb 0 (.ref a.r)) (Bm 2 (Ah (gV 0) (Ah (gV 1) Bq))) Zf Vh [uB,uB] (lN (x.R.map D.int)) 0 Γ=.ok ((El (x.R.map D.int)).filterMap F) Γ:=V2 g (λy l=>by
  unfold El at l;obtain⟨⟨r,i⟩,z,rfl⟩:=qY.mp l;refine⟨[zI (i:Int),uA r],by simp,?_⟩;unfold Zf Vh;by_cases c:(i:Int)%2=1
  .exact .inr ⟨by simp[c],r,by simp,by simp[F,c]⟩
  exact .inl ⟨by simp[c],by simp[F,c]⟩) (by rw[Wr];exact zx _)
 have t:(El (x.R.map D.int)).filterMap F=((zW m).map λi=>Aa x.R (2*i+1)).map D.int:=by
  have:=gS m x.R 0 (by lia) rfl;unfold El Aa;rw[<-this,List.zipIdx_map,qk,jC,List.map_filterMap]
  congr 1
  funext p;obtain⟨r,i⟩:=p;have e:((i:Int)%2=1)=(i%2=1):=by simp;lia
  by_cases c:i%2=1<;>simp[F,c,e]
 rw[t]at k;have h:lN (((zW m).map λi=>Aa x.R (2*i+1)).map D.int)<=1000000:=by simp;lia
 have u:tidy Γ (.ok (.ref (lN Γ)) (Γ++[.lst (((zW m).map λi=>Aa x.R (2*i+1)).map D.int)]))=.ok (.ref (lN Γ)) (Γ++[.lst (((zW m).map λi=>Aa x.R (2*i+1)).map D.int)]):=Du Dm;have b:Er [.ref a.r] Γ=.ok (.fn (lN (x.R.map D.int)) (Gb 0 (.ref a.r))) Γ:=by simp[Er,I8,hs,lenOf]
 generalize((zW m).map λi=>Aa x.R (2*i+1)).map D.int=Z,x.R.map D.int=Y at*;unfold Ky e8;rw[Al];simp[K.rooms,b,f,k,Ac,h,u]
end
theorem Rp{s:List Int}:∀k:Nat,k<=lN s->Ab k (Aa s)=(s.take k).sum
 |0,_=>rfl
 |k+1,h=>by show Ab k (Aa s)+Aa s k=_;rw[Rp k (by lia),List.take_add_one,zZ (by lia),List.sum_append,Gf (by lia)];simp
structure BT (n:Nat) (as:List ZA) (s:Nat->Int) (wide:Int) (x:LR):Prop where
 b:YQ n as s wide x
 t:Ab (n+1) (Aa x.L)=wide-1
section
variable{n:Nat}{as:List ZA}{s:Nat->Int}{wide:Int}{x:LR}
def CA(ok:(UA n as).Ok)(y:LR)(l:Nat)(c:Int)(K:y.Ok (UA n as))(d:l<(UA n as).q)(h:BT n as s wide y):BT n as s wide (y.sa (UA n as) ((UA n as).fr l) l c):=by
 refine⟨BM ok K d h.b,?_⟩;have g:Ab (n+1) (λv=>(if v=(UA n as).fr l then c else 0))=c:=Hu (by have:_<=n:=ok.fr l d;lia);have e:Ab (n+1) (λv=>(if v=(UA n as).to l then c else 0))=c:=Hu (by have:_<=n:=ok.to l d;lia);have f:Ab (n+1) (Aa (y.sa (UA n as) ((UA n as).fr l) l c).L)+Ab (n+1) (λv=>(if v=(UA n as).fr l then c else 0))=Ab (n+1) (Aa y.L)+Ab (n+1) (λv=>(if v=(UA n as).to l then c else 0)):=by
  rw[<-G9,<-G9];refine Ey λv _=>?_
  rw[O6 ok K d];lia
 have:=h.t;lia
structure Iv (n:Nat) (as:List ZA) (s:Nat->Int) (wide:Int) (x:LR) (Wl:List Int):Prop where
 ok:x.Ok (UA n as)
 b:BT n as s wide x
 wl:lN Wl=n+1
 fx:(UA n as).Fix (Aa x.R) (Aa Wl)
 Q?:(UA n as).SK (Aa x.R) (Aa Wl)
 up:∀u,u<n->Aa Wl u<=40000*(n:Int)
def todo(n:Nat)(as:List ZA)(wide:Int)(x:LR)(Wl:List Int):Int:=Ab n (λu=>Aa Wl u+40000*(n:Int))*(40*wide)+XI (UA n as) (Aa Wl) x
def U6(Z:GH n as s wide)(K:x.Ok (UA n as))(B:BT n as s wide x)(W:Nat->Int):0<=XI (UA n as) W x/\XI (UA n as) W x<40*wide:=by
 have e:=Z.YM;have f:∀u,u<n->0<=Aa x.L u*SD (UA n as) W u/\Aa x.L u*SD (UA n as) W u<=30*Aa x.L u:=λu c=>by
  have b:=K.ln u (by show u<=n;lia);have d:=Ld (N:=UA n as) (W:=W) u;have g:SD (UA n as) W u<=30:=by have:_<=(n:Int):=d.2;lia
  refine⟨jB b d.1,?_⟩;rw[Int.mul_comm];exact q9 g b
 have b:=Ew λu c=>(f u c).1
 rw[Hc]at b;have d:=Ew λu c=>(f u c).2
 rw[Vo]at d;have g:=Yq (k:=n) (n:=n+1) (by lia) λv j=>K.ln v (by show v<=n;lia)
 have h:=B.t;have i:0<=Ab n s:=by have:=Ew Z.sn;rw[Hc]at this;exact this
 refine⟨b,?_⟩;show Ab n _<_;lia
def CB{y:LR}{f c:List Int}(Z:GH n as s wide)(I:Iv n as s wide x f)(p:Iv n as s wide y c)(le:∀u,u<=n->Aa c u<=Aa f u)(o:(UA n as).SK (Aa y.R) (Aa f))(S:YI (UA n as) (Aa f) (λl=>l<(UA n as).q/\(UA n as).fr l<n) x y)(h:0<Ab n (Aa x.L)):todo n as wide y c+1<=todo n as wide x f:=by
 have M:=U6 Z p.ok p.b (Aa c);have J:=U6 Z I.ok I.b (Aa f);have i:0<40*wide:=by lia
 have g:(∃u,u<n/\Aa c u+1<=Aa f u)->todo n as wide y c+1<=todo n as wide x f:=λH=>by
  obtain⟨u,d,j⟩:=H;have A:∀v,v<n->(Aa c v+40000*(n:Int))+(if v=u then 1 else 0)<=Aa f v+40000*(n:Int):=λv N=>by
   have:=le v (by lia);by_cases e:v=u
   .rw[if_pos e,e];lia
   rw[if_neg e];lia
  have r:=Ew A;rw[G9,Hu d]at r;have B:=q9 r (xT i);rw[Int.add_mul,Int.one_mul]at B;unfold todo;lia
 by_cases hs:XI (UA n as) (Aa f) y=XI (UA n as) (Aa f) x
 .obtain⟨K,w,E⟩:=S.same hs;have k:∃u,u<n/\0<Aa x.L u:=by
   refine Classical.byContradiction λz=>?_
   have j:∀u,u<n->Aa x.L u<=0:=λu d=>Int.not_lt.mp λq=>z ⟨u,d,q⟩
   have:=Ew j;rw[Hc]at this;lia
  obtain⟨u,d,j⟩:=k;refine g ⟨u,d,Pp (Kq (n:=n) Z.OG Z.YM) o p.fx le d λl F m C=>?_⟩;rw[w];rcases E l ⟨F,m▸d⟩ (by unfold OH;rw[m];exact C)with z|z
  .rw[m]at z;lia
  exact z
 by_cases hw:∃u,u<n/\Aa c u≠Aa f u
 .obtain⟨u,d,j⟩:=hw;have:=le u (by lia);exact g ⟨u,d,by lia⟩
 .have t:∀u,u<n->Aa c u=Aa f u:=λu d=>Classical.byContradiction λz=>hw ⟨u,d,z⟩
  have j:XI (UA n as) (Aa c) y=XI (UA n as) (Aa f) y:=Ey λu d=>by unfold SD;rw[t u d]
  have r:=S.le;unfold todo;rw[j,Ey λu d=>by rw[t u d]];lia
variable{lk:Nat->List Nat}{a:Ad}{Γ:DH}{sl:List Int}
theorem gT(Z:GH n as s wide)(N:1<=n)(C:JE (UA n as) lk){x0:LR}(p:SN (UA n as) lk a x0 Γ)(Q:∀y,DO.tab "Sending" "send_by"∈hs Γ a y){A1 A2:D}:∀(w:Nat)(x:LR)(e:List Int),Iv n as s wide x e->todo n as wide x e<w->
  ∃r d,VI Pq Q6 w [zI n,uA A1,uA A2,zR a.o,zF (e.map D.int),uB,uB] (hs Γ a x)=.nx [zI n,uA A1,uA A2,zR a.o,zF (d.map D.int),uB,uB] (hs Γ a r)/\Iv n as s wide r d/\∀u,u<n->Aa r.L u=0
 |0,x,e,I,h=>by
  have f2:=U6 Z I.ok I.b (Aa e);have B:∀u,u<n->0<=Aa e u+40000*(n:Int):=λu i=>by have: -(40000*(n:Int))<=_:=I.fx.lo u i;lia
  have j:=Ew B;rw[Hc]at j;have:=jB j (show 0<=40*wide by lia);unfold todo at h;lia
 | w+1,x,e,I,h=>by
  have q:=Z.YM;have ok:=Kq Z.OG Z.YM;have K:=p.at x;have ll:lN x.L=n+1:=I.ok.ll;have cut:cutD (x.L.map D.int) uB (uA (n:Int))=(x.L.take n).map D.int:=by rw[f9 (by simp;lia),List.map_take]
  have fz:∀G:DH,freeze G (.ok (.ref (lN G)) (G++[.lst ((x.L.take n).map D.int)]))=.ok (.fl ((x.L.take n).map D.int)) G:=λG=>Bj Dm
  have sl:∀G:DH,G[a.l]?=uA (.lst (x.L.map D.int))->Gq (.ref a.l) uB (uA (n:Int)) G=.ok (.ref (lN G)) (G++[.lst ((x.L.take n).map D.int)]):=λG hG=>by
   show(match Ej (.ref a.l) G with |some xs=>R.ok (D.ref (lN G)) (G++[DO.lst (cutD xs uB (uA (n:Int)))])|none=>R.bad)=_
   rw[show Ej (.ref a.l) G=uA (x.L.map D.int) by simp[Ej,hG]];dsimp only;rw[cut]
  have A:Pq [zI n,uA A1,uA A2,zR a.o,zF (e.map D.int),uB,uB] (hs Γ a x)=.ok (decide (0<(x.L.take n).sum)) (hs Γ a x):=by have e3:=fz (hs Γ a x);have e4:Gg [.fl ((x.L.take n).map D.int)] (hs Γ a x)=.ok (.int (x.L.take n).sum) (hs Γ a x):=Wh;generalize hs Γ a x=E,e.map D.int=Y,(x.L.take n).map D.int=Y1 at*;unfold Pq;simp[K.left,sl _ K.hl,e3,e4]
  by_cases c:0<(x.L.take n).sum
  .rw[decide_eq_true c]at A;have c':0<Ab n (Aa x.L):=by rw[Rp n (by lia)];exact c
   obtain⟨y,T,k,S⟩:=B2 K (Q x) N (by show n<=60;lia) ok Xb Np I.fx C (λy l c B j M=>CA ok y l c B j M) I.wl ⟨I.ok,λl _ h=>.inl h,I.b⟩;rw[gC p.ad.lr]at T;have f:=BK ok Xb I.Q? k.g;obtain⟨d,J,hw,U,le⟩:=gJ (p.at y) k.ok ok C (by show n<=60;lia) (gA Z k.ok k.b.b) f I.fx.z λu i=>⟨I.fx.lo u i,I.up u i⟩
   have O:Iv n as s wide y d:=⟨k.ok,k.b,J,U,fq ok f U I.fx.z le,λu i=>Int.le_trans (le u (by show u<=n;lia)) (I.up u i)⟩;have tl:=CB Z I O le f S c';obtain⟨r,H,hL,I2,z⟩:=gT Z N C p Q (A1:=A1) (A2:=A2) w y d O (by lia);refine⟨r,H,?_,I2,z⟩;have hb:Q6 [zI n,uA A1,uA A2,zR a.o,zF (e.map D.int),uB,uB] (hs Γ a x)=.nx [zI n,uA A1,uA A2,zR a.o,zF (d.map D.int),uB,uB] (hs Γ a y):=by
    have m2:=λ(t:DA)(S:PB)=>(p.at y).IH (m:="best_ways") (F:=Io) (t:=t) (S:=S) λ_ _ _ _ _ _=>rfl
    have X:freeze (hs Γ a y) (.ok (.ref (lN (hs Γ a y))) (hs Γ a y++[.lst (d.map D.int)]))=.ok (.fl (d.map D.int)) (hs Γ a y):=Bj Dm;generalize hs Γ a x=E,hs Γ a y=Γ8,e.map D.int=Y,d.map D.int=Y' at*;unfold Q6;simp[λ(t:DA)(S:PB)=>K.IH (m:="send_by") (F:=Pb) (t:=t) (S:=S) λ_ _ _ _ _ _=>rfl,m2,T,hw,X]
   unfold VI;rw[A];simp[R.Cq,if_true,hb,Dl];exact hL
  rw[decide_eq_false c]at A;refine⟨x,e,?_,I,λu i=>?_⟩
  .unfold VI;rw[A];simp
  .have B:Ab n (Aa x.L)<=0:=by rw[Rp n (by lia)];lia
   have P:∀v,v<n->0<=Aa x.L v:=λv W=>I.ok.ln v (by show v<=n;lia)
   have j:∀v,v<n->(if v=u then Aa x.L v else 0)<=Aa x.L v:=λv W=>by
    have:=P v W
    split <;> lia
   have M:=Ew j;rw[Hu i]at M;have:=P u i;lia
end
theorem gU:∀m:Nat,((zW m).map g).sum=Ab m g
 |0=>rfl
 |m+1=>by rw[xS,qx,List.sum_append,gU m];show Ab m g+(g m+0)=Ab m g+g m;lia
section
variable{n:Nat}{as:List ZA}{s:Nat->Int}{wide:Int}{x:LR}{W:Nat->Int}
theorem gW(Z:GH n as s wide)(K:x.Ok (UA n as))(B:YQ n as s wide x)(F:(UA n as).Fix (Aa x.R) W):∀(k u:Nat),u<n->SD (UA n as) W u<=k->∃j,TW (lN as) (Am as) (YH x) (gn (UA n as) W) n j u
 |0,u,g,h=>by have:=Zh (Kq Z.OG Z.YM) Np F g;lia
 | k+1,u,g,h=>by
  have ok:=Kq Z.OG Z.YM;obtain⟨l,q,a,m,y⟩:=F.VS u g;have v:l<2*lN as:=q;obtain⟨d,w⟩:=fm ok Np F q (a▸g) (a▸y);have z:(UA n as).to l<=n:=ok.to l q;have f:∃j,TW (lN as) (Am as) (YH x) (gn (UA n as) W) n j ((UA n as).to l):=by
   by_cases e:(UA n as).to l=n
   .rw[e];exact⟨0,.here⟩
   exact gW Z K B F k _ (by lia) (by rw[a]at w;lia)
  obtain⟨j,f⟩:=f;by_cases r:l%2=0
  .obtain⟨p,i,o⟩:=Qf r;rw[p]at a d;rw[i]at f d;rw[o]at d;rw[<-a];refine⟨j+1,.on (by lia) (λb t=>?_) (by lia) f⟩;have c:=B.HS (l/2) (by lia);unfold Hi at c;rw[t]at c;dsimp only at c;rw[show l=2*(l/2) by lia]at m;unfold YH;lia
  obtain⟨p,i,o⟩:=T4 r;rw[p]at a d;rw[i]at f d;rw[o]at d;rw[<-a];refine⟨j+1,.back (by lia) ?_ (by lia) f⟩;rw[show l=2*(l/2)+1 by lia]at m;exact m
theorem TW.congr{a:Nat->ZA}{p d d':Nat->Int}(o:∀i,i<m->p i=f i)(hd:∀u,u<=n->d' u=d u)(e:∀i,i<m->(a i).fr<=n/\(a i).to<=n)(h:TW m a f d n k u):TW m a p d' n k u:=by
 induction h with
 |here=>exact .here
 |on c g l _ j=>exact .on c (λb h=>(o _ c)▸g b h) (by rw[hd _ (e _ c).1,hd _ (e _ c).2];exact l) j
 |back c g l _ j=>exact .back c ((o _ c)▸g) (by rw[hd _ (e _ c).1,hd _ (e _ c).2];exact l) j
def CC(Z:GH n as s wide)(K:x.Ok (UA n as))(B:YQ n as s wide x)(j:∀u,u<n->Aa x.L u=0)(d:∀i,i<lN as->f i=YH x i):UJ n (lN as) (Am as) s f:=by
 refine⟨λi a=>?_,λi b a h=>?_,λv g=>?_⟩
 .rw[d i a];exact K.rn (2*i+1) (by show 2*i+1<2*lN as;lia)
 .have c:=B.HS i a;have r:=K.rn (2*i) (by show 2*i<2*lN as;lia);unfold Hi at c;rw[h]at c;rw[d i a];unfold YH;dsimp only at c;lia
 have b:=B.YT v g;rw[j v g]at b;have e:∀q:Nat->Nat,Ab (lN as) (λi=>if q i=v then f i else 0)=Ab (lN as) (λi=>if q i=v then YH x i else 0):=λq=>Ey λi a=>by rw[d i a]
 unfold ex Ce VN at b;unfold Ce VN;rw[e λi=>(Am as i).fr,e λi=>(Am as i).to];lia
end
def CD{a:DH}(h:a.take (lN G)=G)(b:QB (lN G) d=uC):tidy G (.ok d a)=.ok d G:=by unfold tidy;dsimp only;rw[if_pos h,if_pos b]
section
variable{n:Nat}{as:List ZA}{s:List Int}
def Vt(ok:SF n as s):GH n as (Aa s) (s.sum+1):=by
 have b:=ok.sl;refine⟨ok.n2,ok.OG,λk hk=>?_,λv g=>?_,?_⟩
 .obtain⟨x,c,f,d⟩:=ok.way k hk;obtain⟨i,a,e⟩:=j8 c
  refine⟨i,a,?_,?_⟩<;>rw[Xr a,e]<;>assumption
 .rw[Gf (by lia)];exact ok.sn _ (qw _)
 rw[Rp n (by lia),xE (by lia)]
def CF(ok:SF n as s):LR.Ok (UA n as) ⟨s++[0],Es (s.sum+1) as⟩/\BT n as (Aa s) (s.sum+1) ⟨s++[0],Es (s.sum+1) as⟩:=by
 have Z:=Vt ok;have k:=ok.sl;have d:∀u,Aa (s++[0]) u=Aa s u:=λu=>by
  unfold Aa;simp[zK];by_cases h:u<lN s
  .rw[zC h]
  rw[zM (l:=s) (by lia),zO (by lia)];by_cases e:u=lN s
  .rw[e,Nat.sub_self];rfl
  rw[zM (by simp;lia)]
 have a:Aa s n=0:=by
  unfold Aa;rw[zK,zM (by lia)]
  rfl
 have j:0<=Ab n (Aa s):=by have:=Ew Z.sn;rw[Hc]at this;exact this
 have hw:=Z.wide;refine⟨⟨by simp[k];rfl,Sx as,λu m=>?_,λl r=>?_⟩,⟨⟨λi f=>?_,λv w=>?_⟩,?_⟩⟩
 .dsimp only;rw[d];by_cases e:u=n
  .rw[e,a];exact qK _
  exact Z.sn u (by have:u<=n:=m;lia)
 .have p:l<2*lN as:=r;have c:=N7 (wide:=s.sum+1) as (l/2) (by lia);by_cases t:l%2=0
  .rw[show l=2*(l/2) by lia,c.1];unfold Hi;cases o:(Am as (l/2)).mo with
   |none=>dsimp only;lia
   |some b=>exact(KB.of ok.OG (by lia)).mo b o
  rw[show l=2*(l/2)+1 by lia,c.2];exact qK _
 .have c:=N7 (wide:=s.sum+1) as i f;rw[c.1,c.2,xD]
 .have g:∀q:Nat->Nat,Ab (lN as) (λi=>if q i=v then YH ⟨s++[0],Es (s.sum+1) as⟩ i else 0)=0:=λq=>by
   rw[Ey λi f=>?_,Hc];have:YH ⟨s++[0],Es (s.sum+1) as⟩ i=0:=(N7 as i f).2;rw[this]
   split <;> rfl
  rw[d];unfold ex Ce VN;rw[g λi=>(Am as i).fr,g λi=>(Am as i).to];lia
 show Ab n _+Aa (s++[0]) n=_;rw[d,a,Ey λu _=>d u];lia
def CG(ok:SF n as s){x:LR}{d:List Int}(I:Iv n as (Aa s) (s.sum+1) x d):todo n as (s.sum+1) x d<(fuel:Int):=by
 have Z:=Vt ok;have h:=ok.n2;have o:=U6 Z I.ok I.b (Aa d);have a:∀(c:Int)(k:Nat),Ab k (λ_=>c)=c*k:=λc k=>by
  induction k with
  |zero=>show 0=c*0;rw[jq]
  |succ k f=>
   show Ab k _+c=_;rw[f,jG,vX];lia
 have i:=Ew λu e=>show Aa d u+40000*(n:Int)<=2400000 by have:=I.up u e;lia
 rw[a]at i;have g:=Ew (n:=n) λu e=>show Aa s u<=10^40 by have j:=ok.sl;rw[Gf (by lia)];exact xT (ok.sb _ (qw _))
 rw[a]at g;have p:=Z.wide;have l:Ab n (λu=>Aa d u+40000*(n:Int))<=72000000:=by lia
 have m:=q9 l (show 0<=40*(s.sum+1) by lia);unfold todo fuel;lia
end
section
variable{n:Nat}{as:List ZA}{s:List Int}
def CH(ok:SF n as s)(G:DH){H:Nat}(hA:G[H]?=uA (.lst (as.map JB)))(hT:DO.tab "Sending" "send_by"∈G):∃e f p,RG n as s e f p/\Tr [.int n,.ref H,.fl (s.map D.int)] G=.ok (.tup [.int e,.fl (f.map D.int),.fl (p.map D.int)]) G:=by
 have Z:=Vt ok;have YM:=ok.n2;have m40:=ok.len;have O:=Kq Z.OG Z.YM;obtain⟨r,o,K,U,GY⟩:=Bi ok G hA;obtain⟨o0,b0⟩:=CF ok;have hl:JE (UA n as) (LI (UA n as) (UA n as).q):=B7;have B:=BP (rm:=Aa (Es (s.sum+1) as)) Z λi o=>(N7 as i o).2
 obtain⟨C,wl,hw,F,le⟩:=gJ K o0 O hl (by show n<=60;lia) (gA Z o0 b0.b) B (by show 40000*((n:Int)-n)=0;lia) λu w=>by have hu':u<n:=w;show -(40000*(n:Int))<=40000*((n:Int)-u)/\40000*((n:Int)-u)<=40000*(n:Int);lia
 have I0:Iv n as (Aa s) (s.sum+1) ⟨s++[0],Es (s.sum+1) as⟩ C:=⟨o0,b0,wl,F,fq O B F (by show 40000*((n:Int)-n)=0;lia) le,λu w=>by have J:=le u (by show u<=n;lia);have T:=J;lia⟩
 have E:∀y,(hs r (MB (lN G) n) y).take (lN G)=G:=λy=>by
  refine jM λi=>?_
  by_cases o:i<lN G
  .rw[qE o];unfold hs MB;dsimp only;rw[z0 (by lia),z0 (by lia),<-qE o,U]
  rw[zM (by rw[qN];lia),zM (by lia)]
 have hT':∀y,DO.tab "Sending" "send_by"∈hs r (MB (lN G) n) y:=λy=>List.mem_of_mem_take ((E y)▸hT)
 obtain⟨x,k,hL,I,hz⟩:=gT Z ok.n1 hl K hT' (A1:=.ref H) (A2:=.fl (s.map D.int)) fuel _ C I0 (CG ok I0);rw[K.hs]at hL;have Kx:=K.at x;have hfl:=Bz Kx I.ok rfl (by lia);have Sl:=BO Z I.ok I.b.b I.fx I.Q?;have wl':=I.wl;have Q:∀i,i<lN as->Aa ((zW (lN as)).map λi=>Aa x.R (2*i+1)) i=YH x i:=λi o=>by rw[Gf (by simpa using o)];simp[YH]
 have Y:∀u,u<=n->Aa ((zW n).map (gn (UA n as) (Aa k))) u=gn (UA n as) (Aa k) u:=λu w=>by
  by_cases e:u=n
  .subst e;have e0:Aa k u=0:=I.fx.z;have e1:Aa ((zW u).map (gn (UA u as) (Aa k))) u=0:=by
    unfold Aa;rw[zK,zM (by simp)]
    rfl
   rw[e1];unfold gn;rw[e0];simp
  rw[Gf (by simp;lia)];simp
 refine⟨(((zW (lN as)).map λi=>Aa x.R (2*i+1)*(Am as i).ga)).sum,(zW (lN as)).map λi=>Aa x.R (2*i+1),(zW n).map (gn (UA n as) (Aa k)),⟨by simp,by simp,CC Z I.ok I.b.b hz Q,⟨λi o h=>?_,λi o h=>?_⟩,?_,λu w=>?_,λv hv=>?_⟩,?_⟩
 .have A:=KB.of ok.OG o;have J:=A.lt;rw[Y _ A.le,Y _ (by lia)];exact Sl.more i o λb hb=>by rw[<-Q i o];exact h b hb
 .have A:=KB.of ok.OG o;have J:=A.lt;rw[Y _ A.le,Y _ (by lia)];exact Sl.WM i o (by rw[<-Q i o];exact h)
 .rw[gU];exact Ey λi o=>by rw[Q i o];rfl
 .obtain⟨j,h⟩:=gW Z I.ok I.b.b I.fx n u w (by have:=(Ld (N:=UA n as) (W:=Aa k) u).2;have:SD (UA n as) (Aa k) u<=(n:Int):=this;lia);exact⟨j,h.congr Q Y λi o=>⟨by have:=(KB.of ok.OG o).lt;lia,(KB.of ok.OG o).le⟩⟩
 .obtain⟨u,w,rfl⟩:=qY.mp hv;have w:=qz.mp w;have J: -(40000*(n:Int))<=Aa k u:=I.fx.lo u w;have T:=I.up u w;have e:gn (UA n as) (Aa k) u= -(-Aa k u/((n:Int)+1)):=rfl;rw[e];have h3:=Int.le_ediv_of_mul_le (a:= -1000000000) (b:= -Aa k u) (c:=(n:Int)+1) (by lia) (by lia);have h4:=Int.ediv_le_of_le_mul (a:= -Aa k u) (b:=1000000000) (c:=(n:Int)+1) (by lia) (by lia)
  lia
 have aI:(zW (lN as)).map (λi=>JB (Am as i))=as.map JB:=by
  refine jv (by simp) λi J T=>?_
  have o:i<lN as:=by simpa using T
  simp[Xr o]
 have c1:=Bn ok G hA;have m1:∀(t:DA)(S:PB),Hs "Sending" "best_ways" Io t S (.ref (lN G)) r=(t S r).bind λM L=>Io (.ref (lN G)::M) L:=λt S=>K.IH λ_ _ _ _ _ _=>rfl
 have m2:∀(t:DA)(S:PB),Hs "Sending" "flow_sent" Ky t S (.ref (lN G)) (hs r (MB (lN G) n) x)=(t S (hs r (MB (lN G) n) x)).bind λM L=>Ky (.ref (lN G)::M) L:=λt S=>Kx.IH λ_ _ _ _ _ _=>rfl
 have m3:∀(t:DA)(S:PB),Hs "Sending" "gain_of" Kg t S (.ref (lN G)) (hs r (MB (lN G) n) x)=(t S (hs r (MB (lN G) n) x)).bind λM L=>Kg (.ref (lN G)::M) L:=λt S=>Kx.IH λ_ _ _ _ _ _=>rfl
 have hw':Io [.ref (lN G)] r=.ok (.ref (lN r)) (r++[.lst (C.map D.int)]):=hw;have fw:freeze r (.ok (.ref (lN r)) (r++[.lst (C.map D.int)]))=.ok (.fl (C.map D.int)) r:=Bj Dm;have Qr:VI Pq Q6 fuel [zI n,zR H,zF (s.map D.int),zR (lN G),zF (C.map D.int),uB,uB] r=.nx [zI n,zR H,zF (s.map D.int),zR (lN G),zF (k.map D.int),uB,uB] (hs r (MB (lN G) n) x):=hL;have cg:∀u,u<n->Kg [.ref (lN G),.int (Aa k u)] (hs r (MB (lN G) n) x)=.ok (.int (gn (UA n as) (Aa k) u)) (hs r (MB (lN G) n) x):=λu w=>BV (by show n<1000;lia) Kx
 have Sr:Ky [.ref (lN G)] (hs r (MB (lN G) n) x)=_:=hfl;have td:∀d,QB (lN G) d=uC->tidy G (.ok d (hs r (MB (lN G) n) x))=.ok d G:=λd hd=>CD (E x) hd
 have hA9:(hs r (MB (lN G) n) x)[H]?=uA (.lst (as.map JB)):=by rw[<-qE (zX.mp hA).1,E x];exact hA
 have P:=Oc hA9;generalize hs r (MB (lN G) n) x=m at*;have ff:freeze m (.ok (.ref (lN m)) (m++[.lst (((zW (lN as)).map λi=>Aa x.R (2*i+1)).map D.int)]))=.ok (.fl (((zW (lN as)).map λi=>Aa x.R (2*i+1)).map D.int)) m:=Bj Dm;have SX:∀S:PB,Be 2 [] S=[uB,uB]:=λ_=>rfl
 have z2:Dj (H8 [.fl (((zW (lN as)).map λi=>Aa x.R (2*i+1)).map D.int),.ref H]) (Bm 2 (Ah (gV 0) (Ah (gV 1) Bq))) Ao Wn [uB,uB] (lN (((zW (lN as)).map λi=>Aa x.R (2*i+1)).map D.int)) 0 m=.ok (((zW (lN as)).map λi=>Aa x.R (2*i+1)*(Am as i).ga).map D.int) m:=by
  rw[V2 (F:=λd=>match d with | .tup [.int f,.tup [_,_,_,.int g]]=>zI (f*g)|_=>uB) (λj=>Tt Jj P j) (λy hy=>?_) (by simp[I9])]
  .congr 1
   rw[<-aI,I9,qk,List.zip_map',qk,jC,qk];exact congrFun xV _
  .rw[<-aI,I9,qk,List.zip_map',qk]at hy;obtain⟨i,o,rfl⟩:=qY.mp hy;have A:=(KB.of ok.OG (qz.mp o)).ga;refine⟨[zI (Aa x.R (2*i+1)),uA (JB (Am as i))],by simp,.inr ⟨rfl,.int (Aa x.R (2*i+1)*(Am as i).ga),?_,rfl⟩⟩;have mu:Bu (.int (Aa x.R (2*i+1))) (.int (Am as i).ga) m=.ok (.int (Aa x.R (2*i+1)*(Am as i).ga)) m:=Tq (by lia) (by lia)
   unfold Wn JB;simp[mu]
 have IY:lN (((zW (lN as)).map λi=>Aa x.R (2*i+1)*(Am as i).ga).map D.int)<=1000000:=by simp;lia
 have f2:freeze m (.ok (.ref (lN m)) (m++[.lst (((zW (lN as)).map λi=>Aa x.R (2*i+1)*(Am as i).ga).map D.int)]))=.ok (.fl (((zW (lN as)).map λi=>Aa x.R (2*i+1)*(Am as i).ga).map D.int)) m:=Bj Dm;have sm:Gg [.fl (((zW (lN as)).map λi=>Aa x.R (2*i+1)*(Am as i).ga).map D.int)] m=.ok (.int (((zW (lN as)).map λi=>Aa x.R (2*i+1)*(Am as i).ga)).sum) m:=Wh
 have sw:Gq (.fl (k.map D.int)) uB (uA (n:Int)) m=.ok (.ref (lN m)) (m++[.lst (((zW n).map (Aa k)).map D.int)]):=by
  rw[Oa,f9 (by simp;lia)];have:(k.map D.int).take n=((zW n).map (Aa k)).map D.int:=by
   refine jv (by simp;lia) λi J T=>?_
   have o:i<n:=by simp at T;lia
   simp[Gf (show i<lN k by lia)]
  rw[this]
 have f3:freeze m (.ok (.ref (lN m)) (m++[.lst (((zW n).map (Aa k)).map D.int)]))=.ok (.fl (((zW n).map (Aa k)).map D.int)) m:=Bj Dm;have p1:Bo (gV 0) Ao Qg [uB,zR (lN G)] (((zW n).map (Aa k)).map D.int) m=.ok (((zW n).map (gn (UA n as) (Aa k))).map D.int) m:=by
  rw[qk,qk];have:∀l:List Nat,(∀u∈l,u<n)->Bo (gV 0) Ao Qg [uB,zR (lN G)] (l.map (D.int∘Aa k)) m=.ok (l.map (D.int∘gn (UA n as) (Aa k))) m:=λl=>by
   induction l with
   |nil=>exact λ_=>rfl
   |cons u l ih=>
    intro h;have hb:Qg [zI (Aa k u),zR (lN G)] m=.ok (.int (gn (UA n as) (Aa k) u)) m:=by unfold Qg;simp[m3,cg u (h u (by simp))]
    rw[zY,Gk];simp[hb,ih λv hv=>h v (by simp[hv]),Ao]
  exact this _ λu w=>qz.mp w
 have Fm:lN (((zW n).map (gn (UA n as) (Aa k))).map D.int)<=1000000:=by simp;lia
 have f4:freeze m (.ok (.ref (lN m)) (m++[.lst (((zW n).map (gn (UA n as) (Aa k))).map D.int)]))=.ok (.fl (((zW n).map (gn (UA n as) (Aa k))).map D.int)) m:=Bj Dm;have X:∀v0 v1 v2 v4 v5 v6:Option D,Be 1 [3] [v0,v1,v2,zR (lN G),v4,v5,v6]=[uB,zR (lN G)]:=λ_ _ _ _ _ _=>rfl
 have fin:=td (.tup [.int (((zW (lN as)).map λi=>Aa x.R (2*i+1)*(Am as i).ga)).sum,.fl (((zW (lN as)).map λi=>Aa x.R (2*i+1)).map D.int),.fl (((zW n).map (gn (UA n as) (Aa k))).map D.int)]) (by show(uC&&(NA _ _&&(NA _ _&&uC)))=uC;rw[Dm,Dm];rfl);generalize(((zW (lN as)).map λi=>Aa x.R (2*i+1)*(Am as i).ga)).sum=e,((zW (lN as)).map λi=>Aa x.R (2*i+1)*(Am as i).ga).map D.int=Y1,((zW (lN as)).map λi=>Aa x.R (2*i+1)).map D.int=Y2,((zW n).map (gn (UA n as) (Aa k))).map D.int=Y3,((zW n).map (Aa k)).map D.int=Y4,C.map D.int=Y5,k.map D.int=Y6,as.map JB=Y7,s.map D.int=Y8 at*
 unfold Tr fG fF fE fC fB et eo;rw[Al];simp[-Oa,c1,Rm,o,m1,hw',fw,Qr,m2,Sr,ff,Zd Jj P,SX,z2,Ac,IY,f2,sm,sw,f3,X,p1,Fm,f4,fin]
end
def rp:¬(("pump":Str)="river"):=by decide
def pr:¬(("river":Str)="pump"):=by decide
structure UB where
 h:Int
 m:Int
 r:Bool
def wy(r:Bool):Str:=if r then "river" else "pump"
def UB.enc(s:UB):D:=.tup [.int s.h,.int s.m,.str (wy s.r)]
@[simp]theorem F8{st:List UB}:NA n (st.map UB.enc)=uC:=Fb λs _=>by simp[UB.enc]
noncomputable abbrev WS:=Int×List UB
def Fo(s:WS):D:=.tup [.int s.1,.tup (s.2.map UB.enc)]
@[simp]theorem F9{ss:List WS}:NA n (ss.map Fo)=uC:=Fb λs _=>by simp[Fo]
inductive RK where
 |OA (b:Int) (r:List WS) (q:Option (Str×Int×Int))
 |XC (a b:Int)
 |YC (a:Int)
structure RP where
 nm:Str
 dn:Str
 dl:Int
 kd:RK
variable{p:RP}{ps:List RP}
noncomputable def OL:Option (Str×Int×Int)->D
 |none=>.KA
 |some (t,d,m)=>.tup [.str t,.int d,.int m]
noncomputable def RK.TF:RK->Str
 |.OA ..=>"basin"
 |.XC ..=>"town"
 |.YC ..=>"mill"
def RK.rest:RK->List D
 |.OA b r q=>[.int b,.tup (r.map Fo),OL q]
 |.XC a b=>[.int a,.int b]
 |.YC a=>[.int a]
def RP.row(p:RP):List D:=.str p.kd.TF:: .str p.nm:: .str p.dn:: .int p.dl::p.kd.rest
def RP.enc(p:RP):D:=.tup p.row
structure RH where
 yr:Int
 ps:List RP
variable{h:RH}
noncomputable def RH.enc(h:RH):D:=.tup [.int h.yr,.tup (h.ps.map RP.enc)]
@[simp]theorem Fa{q:Option (Str×Int×Int)}:QB n (OL q)=uC:=by
 cases q with
 |none=>rfl
 |some x=>obtain⟨a,b,c⟩:=x;rfl
@[simp]theorem Fc:NA n p.row=uC:=by
 unfold RP.row RK.rest
 cases p.kd<;>simp
@[simp]theorem Q8:QB n p.enc=uC:=by simp[RP.enc]
@[simp]theorem CI{l:List RP}:NA n (l.map RP.enc)=uC:=Fb λ_ _=>Q8
@[simp]theorem Rz:QB n h.enc=uC:=by simp[RH.enc]
section
variable{p:RP}{h:RH}{G:DH}
@[simp]theorem MI:Af p.enc (.int 0) G=.ok (.str p.kd.TF) G:=by simp[RP.enc,RP.row]
@[simp]theorem R?:Af p.enc (.int 1) G=.ok (.str p.nm) G:=by simp[RP.enc,RP.row]
@[simp]theorem ZQ:Af p.enc (.int 2) G=.ok (.str p.dn) G:=by simp[RP.enc,RP.row]
@[simp]theorem GR:Af p.enc (.int 3) G=.ok (.int p.dl) G:=by simp[RP.enc,RP.row]
def Dw:Af h.enc (.int 1) G=.ok (.tup (h.ps.map RP.enc)) G:=by simp[RH.enc]
end
structure R6 where
 a:Int
 b:Int
 c:Int
 d:Int
 e:Int
 f:Int
variable{r:R6}
noncomputable def R6.enc(r:R6):D:=.tup [.int r.a,.int r.b,.int r.c,.int r.d,.int r.e,.int r.f]
def LP(pg:List R6):D:=.tup (pg.map R6.enc)
def Hq(hp:ps[k]?=uA p):NC (ps.map RP.enc) (k:Int)=uA p.enc:=By rfl (by rw[zv,hp];rfl)
def Eh(c:Int){p m:Int}(hp:0<p)(b:0<m):∃i:Int,(0<=i/\i<m)/\∀G,Dn [.int c,.int p,.int m] G=.ok (.int i) G:=by
 have d:¬p=0:=by lia
 have a:¬m=0:=by lia
 refine⟨c*48271%p%m,⟨xX _ a,jD _ b⟩,λG=>?_⟩;unfold Dn d6;rw[Al];simp[hp,b,d,a,Bl]
theorem Ox{Q:D->Prop}:∀(n j:Nat),(∀k,j<=k->k<j+n->∃d,Q d/\∀G,te (S.set 0 (zI (k:Int))) G=.ok d G)->∃ds:List D,lN ds=n/\(∀d∈ds,Q d)/\∀G,Bo (gV 0) Ao te S (An (j:Int) n) G=.ok ds G
 |0,j,_=>⟨[],rfl,by simp,λG=>by rw[Ff];rfl⟩
 |n+1,j,h=>by
  obtain⟨d,g,a⟩:=h j (by lia) (by lia);obtain⟨ds,f,e,b⟩:=Ox n (j+1) λk i l=>h k (by lia) (by lia)
  refine⟨d::ds,by simp[f],jO.mpr ⟨g,e⟩,λG=>?_⟩;rw[Eu,Gk];simp[Cp,R.Ea,Ju,if_true,a];have c:((j:Int)+1)=((j+1:Nat):Int):=by lia
  rw[c,b]
  rfl
theorem XF:∀{ds:List D}{Q:Int->Prop},(∀d∈ds,∃i,Q i/\d=.int i)->∃l:List Int,ds=l.map D.int/\∀i∈l,Q i
 |[],Q,_=>⟨[],rfl,by simp⟩
 |d::ds,Q,h=>by
  obtain⟨i,a,rfl⟩:=h d (by simp);obtain⟨l,rfl,b⟩:=XF λx c=>h x (zV _ c)
  exact⟨i::l,rfl,jO.mpr ⟨a,b⟩⟩
def R3{l:List Str}:NA m (l.map D.str)=uC:=Fb λ_ _=>rfl
def Hf{l:List Int}:NA m (l.map D.int)=uC:=Fb λ_ _=>rfl
def fsT(x:Str)(G:DH):freeze G (.ok (.str x) G)=.ok (.str x) G:=Qa rfl
structure NG (ns:List Str):Prop where
 nd:ns.Nodup
 sea:("sea":Str)∉ns
noncomputable def MP:List Str:=["seaf","seag","seah","seai","seaj","seak"]
noncomputable def JN:List Str:=["aaaaaa","aaaaa","aaaa","aaa","aa","a"]
noncomputable def OP:List Str:=["flake","glake","hlake","ilake","jlake","klake"]
theorem Rn{f:Nat->Str}:∀(n j:Nat),(∀k,j<=k->k<j+n->∀G,te [zI (k:Int)] G=.ok (.str (f k)) G)->∀G,Bo (gV 0) Ao te [uB] (An (j:Int) n) G=.ok (((qU j n).map f).map D.str) G
 |0,j,_,G=>by rw[Ff];rfl
 |n+1,j,h,G=>by
  have a:((j:Int)+1)=((j+1:Nat):Int):=by lia
  rw[Eu,Gk,a];simp only[Cp,R.Ea,qM,Ju,if_true,h j (by lia) (by lia)];rw[Rn n (j+1) λk c b=>h k (by lia) (by lia)];simp[jT]
def Ys{t:List Str}(f:n<=6)(h:∀a,a<6->t.getD a ""≠("sea":Str)/\∀b,b<6->t.getD a ""=t.getD b ""->a=b):NG ((qU 0 n).map λk=>t.getD k ""):=by
 refine⟨?_,λz=>?_⟩
 .rw[List.Nodup,List.pairwise_map];refine List.Pairwise.imp_of_mem (λ{a b}c d q z=>?_) List.nodup_range';have c:=List.mem_range'_1.mp c;have d:=List.mem_range'_1.mp d;exact q ((h a (by lia)).2 b (by lia) z)
 obtain⟨a,c,e⟩:=qY.mp z;have c:=List.mem_range'_1.mp c;exact(h a (by lia)).1 e
def CJ(c:Int)(r:n<=6):∃ns:List Str,ns.length=n/\NG ns/\∀G,freeze G (Iz [.int c,.int (n:Int)] G)=.ok (.fl (ns.map D.str)) G:=by
 have q:inR (n:Int):=Ek (by lia) (by lia);have i:∀a b c:Option D,Be 1 [] [a,b,c]=[uB]:=λ_ _ _=>rfl
 have j:∀(o:DE)(ns:List Str),ns.length=n->(∀G,Bo (gV 0) Ao o [uB] (An 0 n) G=.ok (ns.map D.str) G)->∀G,freeze G (tidy G ((Bo (gV 0) Ao o [uB] (An 0 n) G).bind Ac))=.ok (.fl (ns.map D.str)) G:=λo ns m h G=>by
  rw[h];have l:(ns.map D.str).length<=1000000:=by rw[zq];lia
  have s:NA G.length (ns.map D.str)=uC:=R3;simp only[R.Ea,Ac,if_pos l];rw[Du s,Bj s]
 have m:∀f:Nat->Str,((qU 0 n).map f).length=n:=λf=>by simp
 rcases(by lia:c%3=0\/c%3=1\/c%3=2)with p|p|p
 .have g:=Rn (te:=Tf) (f:=λk=>MP.getD k "") n 0 λk _ hk G=>by rcases(by lia:k=0\/k=1\/k=2\/k=3\/k=4\/k=5)with rfl|rfl|rfl|rfl|rfl|rfl<;>kernel_rfl
  refine⟨_,m _,Ys (t:=MP) r (by decide +kernel),λG=>?_⟩;have e:Iz [.int c,.int (n:Int)] G=tidy G ((Bo (gV 0) Ao Tf [uB] (An 0 n) G).bind Ac):=by
   unfold Iz Ry;rw[Al];have d:Bo (gV 0) Ao Tf [uB] (An 0 n) G=_:=g G;have l:(((qU 0 n).map λk=>MP.getD k "").map D.str).length<=1000000:=by simp;lia
   generalize((qU 0 n).map λk=>MP.getD k "").map D.str=Z at*;simp[p,q,i,d,Ac,l]
  rw[e];exact j _ _ (m _) g G
 .have g:=Rn (te:=Qj) (f:=λk=>JN.getD k "") n 0 λk _ hk G=>by
   have v:("aaaaaa":Str).length<=1000000:=by decide +kernel
   have u:Ig "aaaaaa" (uA (k:Int)) uB=JN.getD k "":=by rcases(by lia:k=0\/k=1\/k=2\/k=3\/k=4\/k=5)with rfl|rfl|rfl|rfl|rfl|rfl<;>decide +kernel
   unfold Qj;simp[v,fsT,u]
  refine⟨_,m _,Ys (t:=JN) r (by decide +kernel),λG=>?_⟩;have e:Iz [.int c,.int (n:Int)] G=tidy G ((Bo (gV 0) Ao Qj [uB] (An 0 n) G).bind Ac):=by
   unfold Iz Ry;rw[Al];have d:Bo (gV 0) Ao Qj [uB] (An 0 n) G=_:=g G;have l:(((qU 0 n).map λk=>JN.getD k "").map D.str).length<=1000000:=by simp;lia
   generalize((qU 0 n).map λk=>JN.getD k "").map D.str=Z at*;simp[p,q,i,d,Ac,l]
  rw[e];exact j _ _ (m _) g G
 have g:=Rn (te:=Uo) (f:=λk=>OP.getD k "") n 0 λk _ hk G=>by rcases(by lia:k=0\/k=1\/k=2\/k=3\/k=4\/k=5)with rfl|rfl|rfl|rfl|rfl|rfl<;>kernel_rfl
 refine⟨_,m _,Ys (t:=OP) r (by decide +kernel),λG=>?_⟩;have e:Iz [.int c,.int (n:Int)] G=tidy G ((Bo (gV 0) Ao Uo [uB] (An 0 n) G).bind Ac):=by
  unfold Iz Ry;rw[Al];have d:Bo (gV 0) Ao Uo [uB] (An 0 n) G=_:=g G;have l:(((qU 0 n).map λk=>OP.getD k "").map D.str).length<=1000000:=by simp;lia
  generalize((qU 0 n).map λk=>OP.getD k "").map D.str=Z at*;simp[p,q,i,d,Ac,l]
 rw[e];exact j _ _ (m _) g G
def CK{k:Int}(hk:0<k)(b:k<1000000)(G L:DH):Ck [.ref (lN G),.int k] (G++ .lst [.int x]::L)=.ok (.int (x%k)) (G++ .lst [.int (x/k)]::L):=by
 have f:tidy (G++ .lst [.int x]::L) (.ok (.int (x%k)) (G++ .lst [.int (x/k)]::L))=.ok (.int (x%k)) (G++ .lst [.int (x/k)]::L):=Hr (by simp) rfl;have c:∀o:DO,(G++o::L)[lN G]?=uA o:=λo=>by rw[Dy];rfl
 have g:∀o a:DO,(G++o::L).set (lN G) a=G++a::L:=λo a=>by rw[Ez];rfl
 have e:∀H:DH,Iw (.int x) (.int k) H=.ok (.int (x/k)) H:=λH=>IX hk b
 unfold Ck dc;rw[Al];have d:MJ 1 0=uA 0:=by decide
 simp[c,g,hk,e,f,d]
def tk(x:Int){k:Int}(hk:0<k)(a:k<1000000):∃i y:Int,(0<=i/\i<k)/\∀G L:DH,Ck [.ref (lN G),.int k] (G++ .lst [.int x]::L)=.ok (.int i) (G++ .lst [.int y]::L):=
 ⟨x%k,x/k,⟨xX _ (by lia),jD _ hk⟩,λG L=>CK hk a G L⟩
def gX(hd:QB (lN G) d=uC):tidy G (.ok d H)=.ok d G\/tidy G (.ok d H)=.ok d H:=by
 unfold tidy;by_cases h:H.take (lN G)=G
 .left
  simp[h,hd,if_true]
 right
 simp[h,if_false]
def Pl(G L:DH)(r:R D)(d:D):Prop:=∃(y:Int)(M:DH),r=.ok d (G++ .lst [.int y]::(L++M))
def gY{y:Int}(hd:∀n,QB n d=uC):Pl G L (tidy (G++ .lst [.int x]::L) (.ok d (G++ .lst [.int y]::(L++M)))) d:=by
 rcases gX (hd _)with h|h
 .exact⟨x,[],by rw[h,qV]⟩
 exact⟨y,M,h⟩
def Ul(G L:DH)(A o:DO):(G++A::(L++[o]))[lN G+(lN L+1)]?=uA o:=by rw[G8];simp
def Ym(G L:DH)(A o a:DO):(G++A::(L++[o])).set (lN G+(lN L+1)) a=G++A::(L++[a]):=by rw[Ht];simp
theorem gZ{scale:Int}:∀(m j:Nat)(x most a:Int)(acc:List UB)(o l i:Option D),lN acc+m<=100->∃(st:List UB)(F b d:Int)(M f g:Option D),
  Aw (gV 5) Mg (An j m) [zR (lN G),zI most,zI scale,zR (lN G+(lN L+1)),zI a,o,l,i] (G++ .lst [.int x]::(L++[.lst (acc.map UB.enc)]))=
   .nx [zR (lN G),zI b,zI scale,zR (lN G+(lN L+1)),zI d,M,f,g] (G++ .lst [.int F]::(L++[.lst (st.map UB.enc)]))
 |0,j,x,most,a,acc,o,l,i,_=>⟨acc,x,most,a,o,l,i,by rw[Ff,Et]⟩
 | m+1,j,x,most,a,acc,o,l,i,h=>by
  obtain⟨c,Q,Z,C⟩:=tk x (k:=4) (by decide) (by decide);obtain⟨I,N,X,E⟩:=tk Q (k:=2) (by decide) (by decide);obtain⟨n,H,Y,t⟩:=tk N (k:=3) (by decide) (by decide);have p:∀G,Bu (.int (1+c)) (.int scale) G=.ok (.int ((1+c)*scale)) G:=λG=>Ds (by lia) (by lia)
  have u:∀G,Bu (.int n) (.int scale) G=.ok (.int (n*scale)) G:=λG=>Ds (by lia) (by lia)
  have e:lN (acc.map UB.enc)<1000000:=by rw[zq];lia
  have q:∃(s:UB)(b d:Int)(f g:Option D),Mg [zR (lN G),zI most,zI scale,zR (lN G+(lN L+1)),zI a,zI j,l,i] (G++ .lst [.int x]::(L++[.lst (acc.map UB.enc)]))=
    .nx [zR (lN G),zI b,zI scale,zR (lN G+(lN L+1)),zI d,zI j,f,g] (G++ .lst [.int H]::(L++[.lst ((acc++[s]).map UB.enc)])):=by
   by_cases y:I=1/\0<most
   .refine⟨⟨a,min ((1+c)*scale) most,uD⟩,most-min ((1+c)*scale) most,a+min ((1+c)*scale) most+n*scale,zI (min ((1+c)*scale) most),zS "pump",?_⟩;have r:UB.enc ⟨a,min ((1+c)*scale) most,uD⟩=.tup [.int a,.int (min ((1+c)*scale) most),.str "pump"]:=rfl;rw[qx,zY,qy,r];generalize acc.map UB.enc=A at*;unfold Mg;simp[C,E,t,p,u,y.1,y.2,Ul,Ym,e]
   refine⟨⟨a,(1+c)*scale,uC⟩,most,a+(1+c)*scale+n*scale,zI ((1+c)*scale),zS "river",?_⟩;have r:UB.enc ⟨a,(1+c)*scale,uC⟩=.tup [.int a,.int ((1+c)*scale),.str "river"]:=rfl;rw[qx,zY,qy,r];generalize acc.map UB.enc=A at*;unfold Mg;by_cases v:I=1
   .have U:¬0<most:=λz=>y ⟨v,z⟩
    simp[C,E,t,p,u,v,U,Ul,Ym,e]
   simp[C,E,t,p,u,v,Ul,Ym,e]
  obtain⟨s,S,W,f,g,O⟩:=q;obtain⟨st,F,w,B,T,K,J,P⟩:=gZ m (j+1) H S W (acc++[s]) (zI j) f g (by simp;lia);refine⟨st,F,w,B,T,K,J,?_⟩;rw[Eu,Dc];simp only[Cp,R.Cq,qM,O,Dl];exact P
def UK(x most scale:Int)(G L:DH):∃st:List UB,Pl G L (Jc [.ref (lN G),.int most,.int scale] (G++ .lst [.int x]::L)) (.tup (st.map UB.enc)):=by
 obtain⟨a,l,u,m⟩:=tk x (k:=4) (by decide) (by decide);obtain⟨d,c,r,p⟩:=tk l (k:=4) (by decide) (by decide);obtain⟨n,o⟩:∃n:Nat,d=n:=⟨d.toNat,by lia⟩;obtain⟨st,q,v,y,s,t,w,j⟩:=gZ n 0 c most (a*scale) [] uB uB uB (by simp;lia);refine⟨st,?_⟩;have f:∀G,Bu (.int a) (.int scale) G=.ok (.int (a*scale)) G:=λG=>Ds (by lia) (by lia)
 have g:inR (n:Int):=Ek (by lia) (by lia);have h:tidy (G++ .lst [.int x]::L) (.ok (.ref (lN G+(lN L+1))) (G++ .lst [.int x]::(L++[.lst []])))=.ok (.ref (lN G+(lN L+1))) (G++ .lst [.int x]::(L++[.lst []])):=by have:=Du (G:=G++ .lst [.int x]::L) (ds:=[]) (L:=[]) rfl;simpa using this
 have b:Aw (gV 5) Mg (An 0 n) [zR (lN G),zI most,zI scale,zR (lN G+(lN L+1)),zI (a*scale),uB,uB,uB] (G++ .lst [.int c]::(L++[.lst []]))=_:=j;have i:∀n,QB n (.tup (st.map UB.enc))=uC:=λn=>by simp
 generalize st.map UB.enc=Z at*;have e:Jc [.ref (lN G),.int most,.int scale] (G++ .lst [.int x]::L)=tidy (G++ .lst [.int x]::L) (.ok (.tup Z) (G++ .lst [.int q]::(L++[.lst Z]))):=by unfold Jc de;rw[Al];simp[Ac,h,m,f,p,o,g,b,Ul]
 rw[e];exact gY i
theorem gb{cell scale:Int}:∀(m j:Nat)(most a:Int)(acc:List UB)(n k i:Option D),lN acc+m<=100->∃(st:List UB)(b d:Int)(I f g:Option D),∀G:DH,
  Aw (gV 5) Mi (An (j:Int) m) [zI cell,zI most,zI scale,zR (lN G),zI a,n,k,i] (G++[.lst (acc.map UB.enc)])=
   .nx [zI cell,zI b,zI scale,zR (lN G),zI d,I,f,g] (G++[.lst (st.map UB.enc)])
 |0,j,most,a,acc,n,k,i,_=>⟨acc,most,a,n,k,i,λG=>by rw[Ff,Et]⟩
 | m+1,j,most,a,acc,n,k,i,h=>by
  obtain⟨c,T,B⟩:=Eh (cell+(j:Int)) (p:=10243) (m:=4) (by decide) (by decide);obtain⟨E,Q,C⟩:=Eh (cell+(j:Int)) (p:=10247) (m:=2) (by decide) (by decide);obtain⟨l,S,t⟩:=Eh (cell+(j:Int)) (p:=10253) (m:=3) (by decide) (by decide);have o:∀G,Bu (.int (1+c)) (.int scale) G=.ok (.int ((1+c)*scale)) G:=λG=>Ds (by lia) (by lia)
  have u:∀G,Bu (.int l) (.int scale) G=.ok (.int (l*scale)) G:=λG=>Ds (by lia) (by lia)
  have e:lN (acc.map UB.enc)<1000000:=by rw[zq];lia
  have q:∃(s:UB)(b d:Int)(f g:Option D),∀G:DH,Mi [zI cell,zI most,zI scale,zR (lN G),zI a,zI (j:Int),k,i] (G++[.lst (acc.map UB.enc)])=
    .nx [zI cell,zI b,zI scale,zR (lN G),zI d,zI (j:Int),f,g] (G++[.lst ((acc++[s]).map UB.enc)]):=by
   by_cases x:0<most/\E=0
   .refine⟨⟨a,min ((1+c)*scale) most,uD⟩,most-min ((1+c)*scale) most,a+min ((1+c)*scale) most+l*scale,zI (min ((1+c)*scale) most),zS "pump",λG=>?_⟩;have r:UB.enc ⟨a,min ((1+c)*scale) most,uD⟩=.tup [.int a,.int (min ((1+c)*scale) most),.str "pump"]:=rfl;rw[qx,zY,qy,r];generalize acc.map UB.enc=A at*;unfold Mi;simp[B,C,t,o,u,x.1,x.2,Dy,Ez,e]
   refine⟨⟨a,(1+c)*scale,uC⟩,most,a+(1+c)*scale+l*scale,zI ((1+c)*scale),zS "river",λG=>?_⟩;have r:UB.enc ⟨a,(1+c)*scale,uC⟩=.tup [.int a,.int ((1+c)*scale),.str "river"]:=rfl;rw[qx,zY,qy,r];generalize acc.map UB.enc=A at*;unfold Mi;by_cases v:0<most
   .have O:¬E=0:=λz=>x ⟨v,z⟩
    simp[B,C,t,o,u,v,O,Dy,Ez,e]
   simp[B,C,t,o,u,v,Dy,Ez,e]
  obtain⟨s,M,P,f,g,J⟩:=q;obtain⟨st,w,y,N,H,F,L⟩:=gb m (j+1) M P (acc++[s]) (zI (j:Int)) f g (by simp;lia);refine⟨st,w,y,N,H,F,λG=>?_⟩;rw[Eu,Dc];simp only[Cp,R.Cq,qM,J,Dl];have K:((j:Int)+1)=((j+1:Nat):Int):=by lia
  rw[K,L]
def gc(cell most scale:Int):∃st:List UB,∀G,Ng [.int cell,.int most,.int scale] G=.ok (.tup (st.map UB.enc)) G:=by
 obtain⟨a,t,j⟩:=Eh cell (p:=10211) (m:=4) (by decide) (by decide);obtain⟨c,o,l⟩:=Eh cell (p:=10223) (m:=4) (by decide) (by decide);obtain⟨n,k⟩:∃n:Nat,c=n:=⟨c.toNat,by lia⟩;obtain⟨st,s,v,q,r,u,i⟩:=gb n 0 most (a*scale) [] uB uB uB (by simp;lia);refine⟨st,λG=>?_⟩;have d:∀G,Bu (.int a) (.int scale) G=.ok (.int (a*scale)) G:=λG=>Ds (by lia) (by lia)
 have f:inR (n:Int):=Ek (by lia) (by lia);have g:tidy G (.ok (.ref (lN G)) (G++[.lst []]))=.ok (.ref (lN G)) (G++[.lst []]):=Du rfl;have b:Aw (gV 5) Mi (An 0 n) [zI cell,zI most,zI scale,zR (lN G),zI (a*scale),uB,uB,uB] (G++[.lst []])=_:=i G;have h:NA (lN G) (st.map UB.enc)=uC:=by simp
 generalize st.map UB.enc=Z at*;have e:tidy G (.ok (.tup Z) (G++[.lst Z]))=.ok (.tup Z) G:=K8 (by simpa[QB]using h);unfold Ng d7;rw[Al];simp[Ac,g,j,d,l,k,f,b,Dy,e]
def Zt(cell most scale year:Int):∃r:List WS,∀G,Nf [.int cell,.int most,.int scale,.int year] G=.ok (.tup (r.map Fo)) G:=by
 obtain⟨b,h⟩:=gc cell most scale;obtain⟨c,j⟩:=gc (cell/3+1) most scale;have a:∀n,NA n (b.map UB.enc)=uC:=λn=>by simp
 have d:∀n,NA n (c.map UB.enc)=uC:=λn=>by simp
 by_cases i:1<year
 .refine⟨[(0,b),(year-1,c)],λG=>?_⟩;have e: [((0:Int),b),(year-1,c)].map Fo=[.tup [.int 0,.tup (b.map UB.enc)],.tup [.int (year-1),.tup (c.map UB.enc)]]:=rfl;rw[e];generalize b.map UB.enc=A,c.map UB.enc=B at*;have g:tidy G (.ok (.ref (lN G)) (G++[.lst [.tup [.int 0,.tup A]]]))=.ok (.ref (lN G)) (G++[.lst [.tup [.int 0,.tup A]]]):=Du (by simp[a]);have f:∀L:DH,tidy G (.ok (.tup [.tup [.int 0,.tup A],.tup [.int (year-1),.tup B]]) (G++L))=.ok (.tup [.tup [.int 0,.tup A],.tup [.int (year-1),.tup B]]) G:=λL=>K8 (by simp[a,d])
  unfold Nf Xu;rw[Al];simp[Ac,h,g,i,j,Dy,Ez,f]
 refine⟨[(0,b)],λG=>?_⟩;have e: [((0:Int),b)].map Fo=[.tup [.int 0,.tup (b.map UB.enc)]]:=rfl;rw[e];generalize b.map UB.enc=A at*;have g:tidy G (.ok (.ref (lN G)) (G++[.lst [.tup [.int 0,.tup A]]]))=.ok (.ref (lN G)) (G++[.lst [.tup [.int 0,.tup A]]]):=Du (by simp[a]);have f:∀L:DH,tidy G (.ok (.tup [.tup [.int 0,.tup A]]) (G++L))=.ok (.tup [.tup [.int 0,.tup A]]) G:=λL=>K8 (by simp[a])
 unfold Nf Xu;rw[Al];simp[Ac,h,g,i,Dy,f]
def S6{l:List Str}{i:Int}(b:0<=i)(c:i<(lN l:Int)):∃v∈l,NC (l.map D.str) i=zS v:=by
 have a:i<(lN (l.map D.str):Int):=by rw[zq];exact c
 have e:=Tn b a;rw[xN]at e;exact⟨_,qw _,e⟩
def KG(ns:List Str):RK->Prop
 |.OA b _ q=>0<=b/\∀t d m,q=uA (t,d,m)->t∈ns/\(1<=d/\d<=5)/\0<=m
 |.XC a _=>0<=a
 |.YC a=>0<=a
structure PG (ns:List Str) (k:Nat) (p:RP):Prop where
 dn:∃j,k<j/\(ns++[("sea":Str)])[j]?=uA p.dn
 dl:0<=p.dl/\p.dl<=5
 kd:KG ns p.kd
def Yr{l:List Int}{i:Int}(b:0<=i)(c:i<(lN l:Int)):∃v∈l,∀G,Af (.fl (l.map D.int)) (.int i) G=.ok (.int v) G:=by
 have a:i<(lN (l.map D.int):Int):=by rw[zq];exact c
 have e:=Tn b a;rw[xN]at e;exact⟨_,qw _,λG=>by simp[e];rfl⟩
def gf{l:List Str}{i:Int}(b:0<=i)(c:i<(lN l:Int)):∃v,l[i.toNat]?=uA v/\NC (l.map D.str) i=zS v:=by
 have a:i<(lN (l.map D.str):Int):=by rw[zq];exact c
 have e:=Tn b a;rw[xN]at e;exact⟨_,zZ (by lia),e⟩
def CL(hn:lN ns=n)(hk:k<n)(hn6:n<=6)(x y g:Int){scale:Int}(K:0<=scale)(year:Int):∃p:RP,p.nm=ns.getD k ""/\PG ns k p/\∀G,freeze G (J0 [.fl [.int x,.int y,.int g],.int (k:Int),.fl (ns.map D.str),.int scale,.int year] G)=.ok p.enc G:=by
 obtain⟨i1,b1,t1⟩:=Eh x (p:=10007) (m:=(n:Int)-(k:Int)) (by decide) (by lia);obtain⟨i2,b2,t2⟩:=Eh x (p:=10009) (m:=9) (by decide) (by decide);obtain⟨w,b3,t3⟩:=Eh y (p:=10037) (m:=8) (by decide) (by decide);obtain⟨A,b4,t4⟩:=Eh x (p:=10039) (m:=5) (by decide) (by decide);obtain⟨i5,b5,t5⟩:=Eh y (p:=10061) (m:=3) (by decide) (by decide);obtain⟨i6,b6,t6⟩:=Eh g (p:=10067) (m:=2) (by decide) (by decide)
 obtain⟨dn,Fs,I⟩:=gf (l:=ns++[("sea":Str)]) (i:=(k:Int)+1+i1) (by lia) (by simp;lia);have c:∃j,k<j/\(ns++[("sea":Str)])[j]?=uA dn:=⟨_,by lia,Fs⟩;have u:=jB b3.1 K;obtain⟨q,hdm,S⟩:=Yr (l:=[0,0,0,1,1,2,3,4,5]) (by lia) b2.2;have o:0<=q/\q<=5:=by simp at hdm;lia
 have J:∀G,Af (.fl [.int 0,.int 0,.int 0,.int 1,.int 1,.int 2,.int 3,.int 4,.int 5]) (.int i2) G=.ok (.int q) G:=S;have X:NC (ns.map D.str) (k:Int)=zS (ns.getD k ""):=By rfl (by rw[zv,zZ (by lia)];simp[zK,(by lia:k<lN ns)]);have m3:∀G,Bu (.int w) (.int scale) G=.ok (.int (w*scale)) G:=λG=>Ds (by lia) (by lia)
 have fz1:∀G:DH,freeze G (.ok (.ref (lN G)) (G++[.lst [.str "sea"]]))=.ok (.fl [.str "sea"]) G:=λG=>Bj rfl
 have es:(ns++[("sea":Str)]).map D.str=ns.map D.str++[.str "sea"]:=by simp
 have Q:∀G:DH,freeze G (.ok (.ref (lN G)) (G++[.lst (ns.map D.str++[.str "sea"])]))=.ok (.fl (ns.map D.str++[.str "sea"])) G:=λG=>Bj (by rw[<-es];exact R3)
 have ll:lN (ns.map D.str)+1<=1000000:=by rw[zq];lia
 have ad:∀G,Dq (.fl (ns.map D.str)) (.fl [.str "sea"]) G=.ok (.ref (lN G)) (G++[.lst (ns.map D.str++[.str "sea"])]):=λG=>by simp;lia
 have fz3:∀G:DH,freeze G (.ok (.ref (lN G)) (G++[.lst [.int 0,.int 0,.int 0,.int 1,.int 1,.int 2,.int 3,.int 4,.int 5]]))=.ok (.fl [.int 0,.int 0,.int 0,.int 1,.int 1,.int 2,.int 3,.int 4,.int 5]) G:=λG=>Bj rfl
 have b:∀G,Aq [.fl (ns.map D.str)] G=.ok (.int n) G:=λG=>by simp[hn]
 have s:∀(p:RP),(∀G,J0 [.fl [.int x,.int y,.int g],.int (k:Int),.fl (ns.map D.str),.int scale,.int year] G=.ok p.enc G)->∀G,freeze G (J0 [.fl [.int x,.int y,.int g],.int (k:Int),.fl (ns.map D.str),.int scale,.int year] G)=.ok p.enc G:=λp h G=>by rw[h];exact Qa Q8
 rw[es]at I;generalize hNM:ns.getD k ""=nm at*;have a:∀G,Vd [zF [.int x,.int y,.int g],zI (k:Int),zF (ns.map D.str),zI scale,zI year,zI n,uB,uB,uB,uB,uB,uB,uB] G=
   Mx [zF [.int x,.int y,.int g],zI (k:Int),zF (ns.map D.str),zI scale,zI year,zI n,zS dn,zT [.str nm,.str dn,.int q],zI (w*scale),zI A,uB,uB,uB] G:=λG=>by
  generalize ns.map D.str=N at*;unfold Vd da d9 d8;simp[-Ri,Ac,fz1,ad,Q,t1,I,X,fz3,t2,J,t3,m3,t4]
 rcases(by lia:(A=2\/A=3)\/A=4\/(¬A=2/\¬A=3/\¬A=4))with h|h|h
 .refine⟨⟨nm,dn,q,.XC (w*scale) i5⟩,rfl,⟨c,o,u⟩,s _ λG=>?_⟩;have B:QB (lN G) (RP.enc ⟨nm,dn,q,.XC (w*scale) i5⟩)=uC:=Q8;unfold RP.enc RP.row RK.rest RK.TF at*;generalize ns.map D.str=N at*;unfold J0 Pz;rw[Al];simp[]at B;unfold Mx at a;rcases h with h|h
  .simp[b,a,h,t5,Bl]
  simp[b,a,h,t5,Bl]
 .refine⟨⟨nm,dn,q,.YC (w*scale)⟩,rfl,⟨c,o,u⟩,s _ λG=>?_⟩;unfold RP.enc RP.row RK.rest RK.TF at*;generalize ns.map D.str=N at*;unfold J0 Pz;rw[Al];unfold Mx Su at a;simp[b,a,h,Bl]
 obtain⟨U,h3,W⟩:=h;by_cases hp:1<n/\i6=0
 .obtain⟨i7,b7,t7⟩:=Eh g (p:=10069) (m:=(n:Int)-1) (by decide) (by lia);obtain⟨M,b8,t8⟩:=Eh g (p:=10079) (m:=6) (by decide) (by decide);obtain⟨i9,b9,t9⟩:=Eh g (p:=10091) (m:=6) (by decide) (by decide);have F:(0:Int)<(n:Int):=by lia
  obtain⟨to,Z,T⟩:=S6 (i:=((k:Int)+1+i7)%(n:Int)) (xX _ (by lia)) (by rw[hn];exact jD _ F);obtain⟨L,C,hdy⟩:=Yr (l:=[1,1,2,3,4,5]) (by lia) b9.2;have E:1<=L/\L<=5:=by simp at C;lia
  have H:∀G,Af (.fl [.int 1,.int 1,.int 2,.int 3,.int 4,.int 5]) (.int i9) G=.ok (.int L) G:=hdy;have P:∀G:DH,freeze G (.ok (.ref (lN G)) (G++[.lst [.int 1,.int 1,.int 2,.int 3,.int 4,.int 5]]))=.ok (.fl [.int 1,.int 1,.int 2,.int 3,.int 4,.int 5]) G:=λG=>Bj rfl
  have m8:∀G,Bu (.int M) (.int scale) G=.ok (.int (M*scale)) G:=λG=>Ds (by lia) (by lia)
  obtain⟨r,O⟩:=Zt g (M*scale) scale year;refine⟨⟨nm,dn,q,.OA (w*scale) r (uA (to,L,M*scale))⟩,rfl,⟨c,o,u,λt d m z=>by cases z;exact⟨Z,E,jB b8.1 K⟩⟩,s _ λG=>?_⟩;have f:(1:Int)<(n:Int):=by lia
  have Y:0<n:=by lia
  have B:NA (lN G) (r.map Fo)=uC:=by simp
  unfold RP.enc RP.row RK.rest RK.TF OL at*;generalize v:r.map Fo=RR,ns.map D.str=N at*;unfold J0 Pz;rw[Al];unfold Mx Su V5 Ze Ut Wv at a;simp[Ac,b,a,U,h3,W,hp.1,f,t6,hp.2,t7,F,Y,T,t8,m8,P,t9,H,O,B,v,Bl]
 .obtain⟨r,O⟩:=Zt g 0 scale year;refine⟨⟨nm,dn,q,.OA (w*scale) r uB⟩,rfl,⟨c,o,u,λt d m z=>by cases z⟩,s _ λG=>?_⟩;have B:NA (lN G) (r.map Fo)=uC:=by simp
  unfold RP.enc RP.row RK.rest RK.TF OL at*;generalize v:r.map Fo=RR,ns.map D.str=N at*;unfold J0 Pz;rw[Al];unfold Mx Su V5 Ze Ut Wv at a;by_cases f:1<n
  .have e:(1:Int)<(n:Int):=by lia
   have h6:¬i6=0:=λz=>hp ⟨f,z⟩
   simp[b,a,U,h3,W,f,e,t6,h6,O,B,v,Bl]
  .have e:¬(1:Int)<(n:Int):=by lia
   simp[b,a,U,h3,W,f,e,O,B,v,Bl]
theorem gh(h:PG ns j p)(b:∀i q,ps[i]?=uA q->PG ns (j+1+i) q):∀i q,(p::ps)[i]?=uA q->PG ns (j+i) q:=λi q a=>by
 cases i with
 |zero=>
  cases a;exact h
 |succ i=>
  have:=b i q a;rwa[show j+1+i=j+(i+1) by lia]at this
structure HG (h:RH):Prop where
 ng:NG (h.ps.map RP.nm)
 pg:∀i p,h.ps[i]?=uA p->PG (h.ps.map RP.nm) i p
theorem gj{ns:List Str}(y:lN ns=n)(q:n<=6){scale year:Int}(o:0<=scale){s1:Option D}:∀(m j:Nat)(acc:List RP)(r l:Option D),j+m=n->lN acc+m<=100->∃(ps:List RP)(M O:Option D),ps.map RP.nm=(qU j m).map (λk=>ns.getD k "")/\(∀i p,ps[i]?=uA p->PG ns (j+i) p)/\∀G:DH,
  Aw (gV 6) Pr (An (j:Int) m) [zF (sc.map D.int),s1,zI scale,zF (ns.map D.str),zI year,zR (lN G),r,l] (G++[.lst (acc.map RP.enc)])=
   .nx [zF (sc.map D.int),s1,zI scale,zF (ns.map D.str),zI year,zR (lN G),M,O] (G++[.lst ((acc++ps).map RP.enc)])
 |0,j,acc,r,l,_,_=>⟨[],r,l,rfl,λi p h=>by simp at h,λG=>by rw[Ff,Et,qV]⟩
 | m+1,j,acc,r,l,e,T=>by
  obtain⟨p,P,S,H⟩:=CL y (k:=j) (by lia) q (cellAt sc (4+3*(j:Int)+0)) (cellAt sc (4+3*(j:Int)+1)) (cellAt sc (4+3*(j:Int)+2)) o year;obtain⟨ps,E,B,J,I,Q⟩:=gj y q (year:=year) o (s1:=s1) m (j+1) (acc++[p]) (zI (j:Int)) (zF [.int (cellAt sc (4+3*(j:Int)+0)),.int (cellAt sc (4+3*(j:Int)+1)),.int (cellAt sc (4+3*(j:Int)+2))]) (by lia) (by simp;lia);refine⟨p::ps,E,B,?_,gh S I,λG=>?_⟩
  .rw[zY,J,P,jT,zY]
  have L:∀G,Bo (gV 0) Ao U4 [uB,zF (sc.map D.int),zI (j:Int)] (An 0 3) G=.ok [.int (cellAt sc (4+3*(j:Int)+0)),.int (cellAt sc (4+3*(j:Int)+1)),.int (cellAt sc (4+3*(j:Int)+2))] G:=λG=>by
   have u:∀(i:Int),0<=i->∀G,U4 [zI i,zF (sc.map D.int),zI (j:Int)] G=.ok (.int (cellAt sc (4+3*(j:Int)+i))) G:=λi U G=>by
    have c:=λG=>K5 (ns:=sc) (k:=4+3*(j:Int)+i) (G:=G) (by lia)
    generalize cellAt sc (4+3*(j:Int)+i)=V,sc.map D.int=SC at*;unfold U4;simp[c]
   have C:An 0 3=[.int 0,.int 1,.int 2]:=rfl;rw[C,Gk];simp[Cp,R.Ea,qM,Ju,if_true,u 0 (by decide)];rw[Gk];simp[Cp,R.Ea,qM,Ju,if_true,u 1 (by decide)];rw[Gk];simp[Cp,R.Ea,qM,Ju,if_true,u 2 (by decide)]
   rfl
  have F:inR 3:=Ek (by decide) (by decide);have v:∀a b c d e f g h:Option D,Be 1 [0,6] [a,b,c,d,e,f,g,h]=[uB,a,g]:=λ_ _ _ _ _ _ _ _=>rfl
  have t:lN (acc.map RP.enc)<1000000:=by rw[zq];lia
  have K:Pr [zF (sc.map D.int),s1,zI scale,zF (ns.map D.str),zI year,zR (lN G),zI (j:Int),l] (G++[.lst (acc.map RP.enc)])=
    .nx [zF (sc.map D.int),s1,zI scale,zF (ns.map D.str),zI year,zR (lN G),zI (j:Int),zF [.int (cellAt sc (4+3*(j:Int)+0)),.int (cellAt sc (4+3*(j:Int)+1)),.int (cellAt sc (4+3*(j:Int)+2))]] (G++[.lst ((acc++[p]).map RP.enc)]):=by
   rw[qx,zY,qy];generalize cellAt sc (4+3*(j:Int)+0)=z,cellAt sc (4+3*(j:Int)+1)=w,cellAt sc (4+3*(j:Int)+2)=x,sc.map D.int=SC,ns.map D.str=X,p.enc=W,acc.map RP.enc=A at*;have s:∀A:DO,freeze (G++[A]) (.ok (.ref (lN G+1)) (G++[A,.lst [.int z,.int w,.int x]]))=.ok (.fl [.int z,.int w,.int x]) (G++[A]):=λA=>f7 rfl
   unfold Pr;simp[Ac,F,v,L,s,H,Dy,Ez,t]
  rw[Eu,Dc];simp only[Cp,R.Cq,qM,K,Dl];have N:((j:Int)+1)=((j+1:Nat):Int):=by lia
  rw[N,Q,qW]
  rfl
def gm:(qU 0 (lN ns)).map (λk=>ns.getD k "")=ns:=by
 apply jM;intro i;rw[zv];by_cases h:i<lN ns
 .rw[List.getElem?_range' h,zZ h];simp[zK,h]
 rw[zM (by simp;lia),zM (by lia)]
 rfl
def CN(b:n<=6){scale:Int}(d:0<=scale):∃h:RH,lN h.ps=n/\HG h/\∀(G:DH)(f k u v t:Option D),Wt [zF (sc.map D.int),zI (n:Int),zI scale,f,k,uB,uB,uB] G=.rt h.enc (G++[.lst (h.ps.map RP.enc)]):=by
 obtain⟨c,g,ng,m⟩:=CJ (cellAt sc 1) b;obtain⟨ps,x,y,s,w,q⟩:=gj g b d n 0 [] uB uB (by lia) (by simp;lia);have a:ps.map RP.nm=c:=by rw[s,<-g];exact gm
 refine⟨⟨1+cellAt sc 1/3%3,ps⟩,?_,⟨by rw[show RH.ps ⟨1+cellAt sc 1/3%3,ps⟩=ps from rfl,a];exact ng,λi p r=>by rw[show RH.ps ⟨1+cellAt sc 1/3%3,ps⟩=ps from rfl,a];have:=w i p r;rwa[qS]at this⟩,λG f k u v t=>?_⟩
 .have:=congrArg jS a;rw[zq]at this;show lN ps=n;lia
 have e:∀G,Em [.fl (sc.map D.int),.int 1] G=.ok (.int (cellAt sc 1)) G:=λG=>K5 (by decide)
 have l:inR (n:Int):=Ek (by lia) (by lia);have o:tidy G (.ok (.ref (lN G)) (G++[.lst []]))=.ok (.ref (lN G)) (G++[.lst []]):=Du rfl;have j:Aw (gV 6) Pr (An 0 n) [zF (sc.map D.int),zI (n:Int),zI scale,zF (c.map D.str),zI (1+cellAt sc 1/3%3),zR (lN G),uB,uB] (G++[.lst []])=_:=q G;rw[qH]at j;unfold RH.enc;generalize ps.map RP.enc=PS at*;generalize cellAt sc 1=V,sc.map D.int=SC,c.map D.str=z at*
 unfold Wt dv du dt dr;simp[Ac,e,m,o,l,j,Dy]
def CO{a:DH}{y:Int}(b:a=L++M)(f:∀n,NA n ds=uC):∃(c N:DH)(z:Int),c=L++N/\
  tidy (G++ .lst [.int x]:: .lst NS::L) (.ok (.ref (lN G+(lN a+1+1))) (G++ .lst [.int y]:: .lst NS::(a++[.lst ds])))=.ok (.ref (lN G+(lN c+1+1))) (G++ .lst [.int z]:: .lst NS::(c++[.lst ds])):=by
 have e:(G++ .lst [.int y]:: .lst NS::(a++[.lst ds]))[lN G+(lN a+1+1)]?=uA (.lst ds):=by rw[G8];simp
 have d:QB (lN (G++ .lst [.int x]:: .lst NS::L)) (.ref (lN G+(lN a+1+1)))=uD:=by rw[b];simp[QB]
 by_cases hp:(G++DO.lst [.int y]::DO.lst NS::(a++[DO.lst ds])).take (lN (G++DO.lst [.int x]::DO.lst NS::L))=G++DO.lst [.int x]::DO.lst NS::L
 .refine⟨L,[],x,by simp,?_⟩;unfold tidy;simp only[hp,if_true,d,e,Ie,f];simp
 refine⟨a,M,y,b,?_⟩;unfold tidy;simp only[hp,if_false]
def W8(G L M:DH)(A B o:DO):(G++A::B::(L++o::M))[lN G+(lN L+1+1)]?=uA o:=by rw[G8];simp
def CP(G L M:DH)(A B o a:DO):(G++A::B::(L++o::M)).set (lN G+(lN L+1+1)) a=G++A::B::(L++a::M):=by rw[Ht];simp
def gq(x most scale year:Int)(S:year<1000000)(L:DH){s5 s6:Option D}{hd:List D}(h:¬hd=[])(f:lN hd<=999997){sz:Int}{pm:D}{s11:Option D}:∃(r:List WS)(y:Int)(M:DH),
  R5 [zR (lN G),s1,zR (lN G+1),zI scale,zI year,s5,s6,zT hd,zI sz,uA pm,zI most,s11,uB] (G++ .lst [.int x]:: .lst NS::L)=.rt (.tup (hd++[.int sz,.tup (r.map Fo),pm])) (G++ .lst [.int y]:: .lst NS::(L++M)):=by
 obtain⟨a,E,M1,I⟩:=UK x most scale G (.lst NS::L);have g:Jc [.ref (lN G),.int most,.int scale] (G++ .lst [.int x]:: .lst NS::L)=.ok (.tup (a.map UB.enc)) (G++ .lst [.int E]:: .lst NS::(L++M1)):=I;generalize t:L++M1=P at*;obtain⟨d,m,N,l,q⟩:=CO (G:=G) (NS:=NS) (ds:=[.tup [.int 0,.tup (a.map UB.enc)]]) (x:=x) (y:=E) t.symm (λn=>by simp);obtain⟨F,C,O,K⟩:=tk N (k:=2) (by decide) (by decide)
 have c:=K G (.lst NS::(d++[.lst [.tup [.int 0,.tup (a.map UB.enc)]]]));by_cases s:F=1/\1<year
 .obtain⟨i,v,Q,H⟩:=tk C (k:=year-1) (by lia) (by lia);have p:=H G (.lst NS::(d++[.lst [.tup [.int 0,.tup (a.map UB.enc)]]]));obtain⟨b,w,M2,j⟩:=UK v most scale G (.lst NS::(d++[.lst [.tup [.int 0,.tup (a.map UB.enc)]]]));have u:Jc [.ref (lN G),.int most,.int scale] (G++ .lst [.int v]:: .lst NS::(d++[.lst [.tup [.int 0,.tup (a.map UB.enc)]]]))=.ok (.tup (b.map UB.enc)) (G++ .lst [.int w]:: .lst NS::(d++ .lst [.tup [.int 0,.tup (a.map UB.enc)]]::M2)):=by rw[j];simp
  refine⟨[(0,a),(1+i,b)],w,m++ .lst [.tup [.int 0,.tup (a.map UB.enc)],.tup [.int (1+i),.tup (b.map UB.enc)]]::M2,?_⟩;have e: [((0:Int),a),(1+i,b)].map Fo=[.tup [.int 0,.tup (a.map UB.enc)],.tup [.int (1+i),.tup (b.map UB.enc)]]:=rfl;have o:L++(m++ .lst [.tup [.int 0,.tup (a.map UB.enc)],.tup [.int (1+i),.tup (b.map UB.enc)]]::M2)=d++ .lst [.tup [.int 0,.tup (a.map UB.enc)],.tup [.int (1+i),.tup (b.map UB.enc)]]::M2:=by rw[l];simp
  rw[e,o];generalize a.map UB.enc=A,b.map UB.enc=B at*;unfold R5 Va Wk;simp[Ac,g,q,c,s.1,s.2,p,u,W8,CP,h,f]
 refine⟨[(0,a)],C,m++[.lst [.tup [.int 0,.tup (a.map UB.enc)]]],?_⟩;have e: [((0:Int),a)].map Fo=[.tup [.int 0,.tup (a.map UB.enc)]]:=rfl;have o:L++(m++[.lst [.tup [.int 0,.tup (a.map UB.enc)]]])=d++[.lst [.tup [.int 0,.tup (a.map UB.enc)]]]:=by rw[l];simp
 rw[e,o];generalize a.map UB.enc=A at*;unfold R5 Va Wk;by_cases j:F=1
 .have J:¬1<year:=λz=>s ⟨j,z⟩
  simp[Ac,g,q,c,j,J,W8,h,f]
 simp[Ac,g,q,c,j,W8,h,f]
def nsG(G L:DH)(A:DO)(NS:List D):(G++A:: .lst NS::L)[lN G+1]?=uA (.lst NS):=by rw[G8];rfl
def XS(hn:lN ns=n)(hk:k<n)(hn6:n<=6)(x:Int){scale:Int}(S:0<=scale)(year:Int)(hy:year<1000000)(G L:DH):∃p:RP,p.nm=ns.getD k ""/\PG ns k p/\
  Pl G (.lst (ns.map D.str)::L) (Jd [.ref (lN G),.int (k:Int),.ref (lN G+1),.int scale,.int year] (G++ .lst [.int x]:: .lst (ns.map D.str)::L)) p.enc:=by
 obtain⟨a,c⟩:∃a:Int->DH,∀x,a x=G++ .lst [.int x]:: .lst (ns.map D.str)::L:=⟨_,λ_=>rfl⟩;have T:∀(x:Int){m:Int},0<m->m<1000000->∃i y:Int,(0<=i/\i<m)/\Ck [.ref (lN G),.int m] (a x)=.ok (.int i) (a y):=λx m h0 h1=>by obtain⟨i,y,b,t⟩:=tk x h0 h1;exact⟨i,y,b,by rw[c,c];exact t G _⟩
 have E:∀x,(a x)[lN G+1]?=uA (.lst (ns.map D.str)):=λx=>by rw[c];exact nsG _ _ _ _
 have X:∀(x:Int)(U:List D),(∀n,NA n U=uC)->freeze (a x) (.ok (.ref (lN (a x))) (a x++[.lst U]))=.ok (.fl U) (a x):=λx U be=>Bj (be _)
 obtain⟨i1,x1,b1,t1⟩:=T x (m:=4) (by decide) (by decide);obtain⟨i2,x2,b2,t2⟩:=T x1 (m:=(n:Int)-(k:Int)) (by lia) (by lia);obtain⟨g,x3,b3,t3⟩:=T x2 (m:=6) (by decide) (by decide);obtain⟨o,Q,b4,t4⟩:=T x3 (m:=8) (by decide) (by decide);obtain⟨i5,x5,b5,t5⟩:=T Q (m:=3) (by decide) (by decide);obtain⟨i6,x6,b6,t6⟩:=T Q (m:=2) (by decide) (by decide);obtain⟨A,K,akd⟩:=S6 (l:=[("basin":Str),"basin","town","mill"]) (by lia) b1.2
 have P:NC [D.str "basin",.str "basin",.str "town",.str "mill"] i1=zS A:=akd;obtain⟨dn,Fs,N⟩:=gf (l:=ns++[("sea":Str)]) (i:=(k:Int)+1+i2) (by lia) (by simp;lia);have f:∃j,k<j/\(ns++[("sea":Str)])[j]?=uA dn:=⟨_,by lia,Fs⟩;have q:0<=g/\g<=5:=by lia
 have s:=jB b4.1 S;have ank:NC (ns.map D.str) (k:Int)=zS (ns.getD k ""):=By rfl (by rw[zv,zZ (by lia)];simp[zK,(by lia:k<lN ns)]);have m4:∀G,Bu (.int o) (.int scale) G=.ok (.int (o*scale)) G:=λG=>Ds (by lia) (by lia)
 have es:(ns++[("sea":Str)]).map D.str=ns.map D.str++[.str "sea"]:=by simp
 rw[es]at N;have fd:=λx=>X x (ns.map D.str++[.str "sea"]) (λn=>by rw[<-es];exact R3)
 have W:lN (ns.map D.str)=n:=by rw[zq];exact hn
 have ad:∀x,Dq (.ref (lN G+1)) (.fl [.str "sea"]) (a x)=.ok (.ref (lN (a x))) (a x++[.lst (ns.map D.str++[.str "sea"])]):=λx=>by
  show(match Ej (.ref (lN G+1)) (a x),Ej (.fl [.str "sea"]) (a x)with
   |some xs,uA ys=>if lN xs+lN ys<=1000000 then R.ok (D.ref (lN (a x))) (a x++[DO.lst (xs++ys)])else .bad
   |_,_=>.bad)=_
  have e1:Ej (.ref (lN G+1)) (a x)=uA (ns.map D.str):=by simp[Ej,E]
  have e2:Ej (.fl [.str "sea"]) (a x)=uA [.str "sea"]:=rfl;rw[e1,e2];exact if_pos (by rw[W];simp;lia)
 have u:∀(p:RP)(y:Int)(M:DH),Jd [.ref (lN G),.int (k:Int),.ref (lN G+1),.int scale,.int year] (a x)=tidy (a x) (.ok p.enc (G++ .lst [.int y]::(.lst (ns.map D.str)::L++M)))->Pl G (.lst (ns.map D.str)::L) (Jd [.ref (lN G),.int (k:Int),.ref (lN G+1),.int scale,.int year] (G++ .lst [.int x]:: .lst (ns.map D.str)::L)) p.enc:=λp y M e=>by rw[<-c,e,c];exact gY λ_=>Q8
 generalize hNM:ns.getD k ""=nm at*;have J:S7 [zR (lN G),zI (k:Int),zR (lN G+1),zI scale,zI year,uB,uB,uB,uB,uB,uB,uB,uB] (a x)=
   K9 [zR (lN G),zI (k:Int),zR (lN G+1),zI scale,zI year,zS A,zS dn,zT [.str A,.str nm,.str dn,.int g],zI (o*scale),uB,uB,uB,uB] (a Q):=by
  generalize ns.map D.str=NS at*;unfold S7 dh dg df;simp[Ac,t1,λx=>X x [.str "basin",.str "basin",.str "town",.str "mill"] (λn=>rfl),P,E,λx=>X x [.str "sea"] (λn=>rfl),ad,fd,W,t2,N,E,ank,t3,t4,m4]
 have q1:¬(("basin":Str)="town"):=by decide
 have Y:¬(("basin":Str)="mill"):=by decide
 have q3:¬(("mill":Str)="town"):=by decide
 have hk3:A="town"\/A="mill"\/A="basin":=by
  simp at K;rcases K with h|h|h
  .exact .inr (.inr h)
  .exact .inl h
  exact .inr (.inl h)
 have w:∀(d:D)(H:DH),K9 [zR (lN G),zI (k:Int),zR (lN G+1),zI scale,zI year,zS A,zS dn,zT [.str A,.str nm,.str dn,.int g],zI (o*scale),uB,uB,uB,uB] (a Q)=.rt d H->Jd [.ref (lN G),.int (k:Int),.ref (lN G+1),.int scale,.int year] (a x)=tidy (a x) (.ok d H):=λd H e=>by
  unfold Jd;rw[Al];show tidy (a x) (S7 [zR (lN G),zI (k:Int),zR (lN G+1),zI scale,zI year,uB,uB,uB,uB,uB,uB,uB,uB] (a x)).ret=_;rw[J,e]
  rfl
 rcases hk3 with rfl|rfl|rfl
 .refine⟨⟨nm,dn,g,.XC (o*scale) i5⟩,rfl,⟨f,q,s⟩,u _ x5 [] ?_⟩;rw[qV,<-c];refine w _ _ ?_;unfold RP.enc RP.row RK.rest RK.TF K9;simp[t5]
 .refine⟨⟨nm,dn,g,.YC (o*scale)⟩,rfl,⟨f,q,s⟩,u _ Q [] ?_⟩;rw[qV,<-c];refine w _ _ ?_;unfold RP.enc RP.row RK.rest RK.TF K9 Sy;simp[q3]
 by_cases hp:i6=1/\1<n
 .obtain⟨i7,x7,b7,t7⟩:=T x6 (m:=(n:Int)-1) (by lia) (by lia);obtain⟨O,x8,b8,t8⟩:=T x7 (m:=6) (by decide) (by decide);obtain⟨i9,x9,b9,t9⟩:=T x8 (m:=5) (by decide) (by decide);have I:(0:Int)<(n:Int):=by lia
  have hn0:0<n:=by lia
  obtain⟨Z,hto,ato⟩:=S6 (i:=((k:Int)+1+i7)%(n:Int)) (xX _ (by lia)) (by rw[hn];exact jD _ I);have m8:∀G,Bu (.int O) (.int scale) G=.ok (.int (O*scale)) G:=λG=>Ds (by lia) (by lia)
  obtain⟨r,y,M,C⟩:=gq x9 (O*scale) scale year hy L (s1:=zI (k:Int)) (s5:=zS "basin") (s6:=zS dn) (hd:=[.str "basin",.str nm,.str dn,.int g]) (by simp) (by simp) (sz:=o*scale) (pm:=.tup [.str Z,.int (1+i9),.int (O*scale)]) (s11:=zS Z);rw[<-c]at C;refine⟨⟨nm,dn,g,.OA (o*scale) r (uA (Z,1+i9,O*scale))⟩,rfl,⟨f,q,s,λt d m z=>by cases z;exact⟨hto,⟨by lia,by lia⟩,jB b8.1 S⟩⟩,u _ y M ?_⟩
  refine w _ _ ?_;have B:(1:Int)<(n:Int):=by lia
  unfold RP.enc RP.row RK.rest RK.TF OL;unfold K9 Sy Ux V8 Zc;generalize v:r.map Fo=RR,ns.map D.str=NS at*;simp[q1,Y,t6,hp.1,hp.2,B,E,W,t7,I,hn0,E,ato,t8,m8,t9,C,v]
 .obtain⟨r,y,M,C⟩:=gq x6 0 scale year hy L (s1:=zI (k:Int)) (s5:=zS "basin") (s6:=zS dn) (hd:=[.str "basin",.str nm,.str dn,.int g]) (by simp) (by simp) (sz:=o*scale) (pm:=.KA) (s11:=uB);rw[<-c]at C;refine⟨⟨nm,dn,g,.OA (o*scale) r uB⟩,rfl,⟨f,q,s,λt d m z=>by cases z⟩,u _ y M ?_⟩;refine w _ _ ?_;unfold RP.enc RP.row RK.rest RK.TF OL;unfold K9 Sy Ux V8 Zc;generalize v:r.map Fo=RR,ns.map D.str=NS at*
  by_cases h6:i6=1
  .have B:¬1<n:=λz=>hp ⟨h6,z⟩
   have F:¬(1:Int)<(n:Int):=by lia
   simp[q1,Y,t6,h6,B,F,E,W,C,v]
  simp[q1,Y,t6,h6,C,v]
noncomputable def cp(s:Str):List Nat:=s.cps.toList
def CQ{a b:Str}:cp (a++b)=cp a++cp b:=by show(Str.append a b).cps.toList=_;simp[Str.append,cp]
def CS{c:Nat}{n:Int}(a:1<=n):cp (Dr ⟨#[c]⟩ n)=zQ n.toNat c:=by
 unfold Dr;rw[if_neg (by lia)];by_cases h:n=1
 .subst h
  rfl
 have e:(n==1||Str.length ⟨#[c]⟩==0)=uD:=by simp[h,Str.length]
 rw[e]
 show((zQ n.toNat #[c]).foldl (·++·) #[]).toList=_
 rw[Qm];simp
def Own(c:Nat)(nm:Str):Prop:=∃(pre:Str)(k:Nat),pre∈[("":Str),"none","sea"]/\1<=k/\k<=3/\cp nm=cp pre++zQ k c
def gu{c:Nat}{nm:Str}(h:Own c nm):(cp nm).getLast?=uA c:=by obtain⟨a,k,_,b,_,e⟩:=h;obtain⟨m,rfl⟩:∃m,k=m+1:=⟨k-1,by lia⟩;rw[e,List.replicate_succ',<-qW,List.getLast?_concat]
def gw{c:Nat}{nm:Str}(h:Own c nm):nm≠("none":Str)/\nm≠("sea":Str):=by
 obtain⟨d,k,hp,g,f,e⟩:=h;have p0:cp ("":Str)=[]:=by decide +kernel
 have a:cp ("none":Str)=[110,111,110,101]:=by decide +kernel
 have b:cp ("sea":Str)=[115,101,97]:=by decide +kernel
 have hk:k=1\/k=2\/k=3:=by lia
 simp[zw,List.not_mem_nil,or_false]at hp;refine⟨λz=>?_,λz=>?_⟩
 .rw[z,a]at e;rcases hp with rfl|rfl|rfl
  .rw[p0]at e
   rcases hk with rfl|rfl|rfl<;>simp[zQ]at e
  .rw[a]at e
   rcases hk with rfl|rfl|rfl<;>simp[zQ]at e
  rw[b]at e
  rcases hk with rfl|rfl|rfl<;>simp[zQ]at e
 rw[z,b]at e;rcases hp with rfl|rfl|rfl
 .rw[p0]at e
  rcases hk with rfl|rfl|rfl<;>simp[zQ]at e
  lia
 .rw[a]at e
  rcases hk with rfl|rfl|rfl<;>simp[zQ]at e
 .rw[b]at e
  rcases hk with rfl|rfl|rfl<;>simp[zQ]at e
structure NL (ns:List Str) (lt:List Nat):Prop where
 nd:ns.Nodup
 ld:lt.Nodup
 ow:∀nm∈ns,nm=("none":Str)\/∃c,c∉lt/\Own c nm
def NL.ng{lt:List Nat}(h:NL ns lt):NG ns:=⟨h.nd,λz=>by
 rcases h.ow _ z with e|⟨c,_,o⟩
 .exact absurd e (by decide +kernel)
 exact(gw o).2 rfl⟩
def NL.own{lt:List Nat}(h:NL ns lt)(l:j<lN lt){nm:Str}(o:Own lt[j] nm):NL (ns++[nm]) (lt.eraseIdx j):=by
 have p:lt[j]∉lt.eraseIdx j:=λz=>by
  obtain⟨i,s,e⟩:=List.mem_eraseIdx_iff_getElem?.mp z;obtain⟨n,m⟩:=zX.mp e;rcases Nat.lt_trichotomy i j with q|q|q
  .exact jN.mp h.ld i j n l q m
  .exact s q
  exact jN.mp h.ld j i l n q m.symm
 refine⟨List.nodup_append.mpr ⟨h.nd,by simp,λa r b g z=>?_⟩,h.ld.sublist (List.eraseIdx_sublist ..),λx d=>?_⟩
 .have g:b=nm:=by simpa using g
  subst g;subst z;rcases h.ow _ r with e|⟨c,f,k⟩
  .exact(gw o).1 e
  have:=(gu k).symm.trans (gu o);cases this;exact f (qw l)
 rcases qJ.mp d with d|d
 .rcases h.ow _ d with e|⟨c,f,k⟩
  .exact .inl e
  exact .inr ⟨c,(λc f z=>f (List.mem_of_mem_eraseIdx z)) c f,k⟩
 .have d:x=nm:=by simpa using d
  subst d;exact .inr ⟨_,p,o⟩
def NL.none{lt:List Nat}(h:NL ns lt)(l:("none":Str)∉ns):NL (ns++[("none":Str)]) (lt.eraseIdx j):=by
 refine⟨List.nodup_append.mpr ⟨h.nd,by simp,λa k b f z=>?_⟩,h.ld.sublist (List.eraseIdx_sublist ..),λx d=>?_⟩
 .have f:b=("none":Str):=by simpa using f
  subst f;subst z;exact l k
 rcases qJ.mp d with d|d
 .rcases h.ow _ d with e|⟨c,g,i⟩
  .exact .inl e
  exact .inr ⟨c,λz=>g (List.mem_of_mem_eraseIdx z),i⟩
 exact .inl (by simpa using d)
def CU(h:H[q]?=uA (.lst (ns.map D.str))):∃b:Bool,(b=uC->("none":Str)∉ns)/\Ir (.str "none") (.ref q) H=.ok (.bl b) H:=by
 have hs:Bk (.ref q) H=uA (ns.map D.str):=by simp[Bk,h]
 have c:∀l:List Str,Hn (l.map D.str)=uA (l.map V.str):=λl=>by
  induction l with
  |nil=>rfl
  |cons s l a=>simp[Hn,K4,a]
 have d:∀l:List Str,NN (.str "none") (l.map V.str)=decide (("none":Str)∈l):=λl=>by
  unfold NN
  induction l with
  |nil=>rfl
  |cons s l a=>
   rw[zY,j3,a];by_cases e:s=("none":Str)
   .subst e;simp[WH]
   have f:¬("none":Str)=s:=λz=>e z.symm
   simp[WH,e,f]
 refine⟨!decide (("none":Str)∈ns),λz=>by simpa using z,?_⟩;unfold Ir;rw[show inD (.str "none") (.ref q) H=uA (decide (("none":Str)∈ns)) by simp[inD,hs,K4,c,d]]
def CV{x:Str}{n:Int}(c:x.length<=10)(d:0<=n)(e:n<=10):(Dr x n).length<=100:=by
 have b:(Dr x n).length=(Dr x n).cps.toList.length:=by simp[Str.length]
 have a:x.length=x.cps.toList.length:=by simp[Str.length]
 rw[b,congrArg jS (ua (x:=x) (n:=n)),List.length_flatten,List.map_replicate,List.sum_replicate_nat,<-a];have:n.toNat<=10:=by lia
 exact vZ this c
theorem gx{a b:Type}(f:a->b):∀(l:List a)(j:Nat),(l.map f).eraseIdx j=(l.eraseIdx j).map f
 |[],_|x::l,0=>by simp
 |x::l,j+1=>by simp[gx f l j]
noncomputable def one(c:Nat):Str:=⟨#[c]⟩
def CW{d:List Nat}(nl:NL ns d)(s?:ns.length<=20)(GY:1<=d.length/\d.length<=26)(x:Int)(s1 s2 s3 s6 x7 x8:Option D):∃(nm:Str)(s:List Nat)(y:Int)(F H:Option D),s.length+1=d.length/\NL (ns++[nm]) s/\
  Hx [zR G.length,s1,s2,s3,zR (G.length+1),zR (G.length+2),s6,x7,x8] (G++[.lst [.int x],.lst (ns.map D.str),.lst (d.map (D.str∘one))])=
   .nx [zR G.length,s1,s2,s3,zR (G.length+1),zR (G.length+2),s6,F,H] (G++[.lst [.int y],.lst ((ns++[nm]).map D.str),.lst (s.map (D.str∘one))]):=by
 obtain⟨q,k⟩:∃q:Int->List D->List D->DH,∀x a b,q x a b=G++[.lst [.int x],.lst a,.lst b]:=⟨_,λ_ _ _=>rfl⟩;have T:∀(x:Int)(a b:List D){m:Int},0<m->m<1000000->∃i y:Int,(0<=i/\i<m)/\Ck [.ref G.length,.int m] (q x a b)=.ok (.int i) (q y a b):=λx a b m h0 h1=>by obtain⟨i,y,c,t⟩:=tk x h0 h1;exact⟨i,y,c,by rw[k,k];exact t G _⟩
 have P:∀x a b,(q x a b)[G.length+1]?=uA (.lst a):=λx a b=>by rw[k,G8];rfl
 have N:∀x a b,(q x a b)[G.length+2]?=uA (.lst b):=λx a b=>by rw[k,G8];rfl
 have sN:∀x a b c,(q x a b).set (G.length+1) (.lst c)=q x c b:=λx a b c=>by rw[k,k,Ht];rfl
 have sL:∀x a b c,(q x a b).set (G.length+2) (.lst c)=q x a c:=λx a b c=>by rw[k,k,Ht];rfl
 have fz:∀(x:Int)(a b S:List D),(∀n,NA n S=uC)->freeze (q x a b) (.ok (.ref (q x a b).length) (q x a b++[.lst S]))=.ok (.fl S) (q x a b):=λx a b S be=>Bj (be _)
 obtain⟨i1,x1,b1,W⟩:=T x (ns.map D.str) (d.map (D.str∘one)) (m:=(d.length:Int)) (by lia) (by lia);obtain⟨j,ej⟩:∃j:Nat,i1=j:=⟨i1.toNat,by lia⟩;subst ej;have hj:j<d.length:=by lia
 have B:(d.map (D.str∘one)).length=d.length:=zq ..;have z:Lq (.ref (G.length+2)) [.int (j:Int)] (q x1 (ns.map D.str) (d.map (D.str∘one)))=.ok (.str (one d[j])) (q x1 (ns.map D.str) ((d.eraseIdx j).map (D.str∘one))):=by
  have e1:(d.map (D.str∘one))[(j:Int).toNat]?=zS (one d[j]):=by simp[hj]
  have e2:(d.map (D.str∘one)).eraseIdx (j:Int).toNat=(d.eraseIdx j).map (D.str∘one):=gx _ _ _;unfold Lq;simp only[N,e1,e2,sL];rw[if_pos (by lia)]
 have M:(one d[j]).length<=10:=by show 1<=10;decide
 generalize w:d.eraseIdx j=g at*;have K:g.length+1=d.length:=by rw[<-w,List.length_eraseIdx_of_lt hj];lia
 have ow:=λnm(o:Own d[j] nm)=>nl.own hj o
 have on:=λh=>nl.none h (j:=j)
 rw[w]at on;simp[w]at ow;generalize d[j]=cc at*;obtain⟨r,O⟩:∃r,r=one cc:=⟨_,rfl⟩;rw[<-O]at M z;obtain⟨i2,x2,b2,t2⟩:=T x1 (ns.map D.str) (g.map (D.str∘one)) (m:=3) (by decide) (by decide);obtain⟨v,X,b3,Y⟩:=T x2 (ns.map D.str) (g.map (D.str∘one)) (m:=3) (by decide) (by decide);obtain⟨i4,x4,b4,t4⟩:=T X (ns.map D.str) (g.map (D.str∘one)) (m:=2) (by decide) (by decide);obtain⟨f,A,L⟩:=S6 (l:=[("":Str),"none","sea"]) (by lia) b2.2
 have p:NC [D.str "",.str "none",.str "sea"] i2=zS f:=L;have S?:f.length<=10:=by
  simp at A
  rcases A with rfl|rfl|rfl<;>decide +kernel
 have Q:=fz x2 (ns.map D.str) (g.map (D.str∘one)) [.str "",.str "none",.str "sea"] (λn=>rfl);have f2:=fz x1 (ns.map D.str) (g.map (D.str∘one)) [.str "",.str "none",.str "sea"] (λn=>rfl);have mu:∀G,Bu (.str r) (.int (1+v)) G=.ok (.str (Dr r (1+v))) G:=λG=>ud ⟨by lia,by lia,by lia⟩
 have hrl:=CV (n:=1+v) M (by lia) (by lia);have U:∀G,Dq (.str f) (.str (Dr r (1+v))) G=.ok (.str (f++Dr r (1+v))) G:=λG=>by show(if f.length+(Dr r (1+v)).length<=1000000 then R.ok (D.str (f++Dr r (1+v))) G else .bad)=_;rw[if_pos (by lia)]
 have on1:Own cc (f++Dr r (1+v)):=⟨f,(1+v).toNat,A,by lia,by lia,by rw[CQ,O];exact congrArg _ (CS (by lia))⟩;have J:=ow _ on1;have hnl:(f++Dr r (1+v)).length<=1000000:=by
  have:(f++Dr r (1+v)).length=f.length+(Dr r (1+v)).length:=by show(Str.append _ _).length=_;simp[Str.append,Str.length]
  lia
 generalize f++Dr r (1+v)=nm at*;have Z:∀G,Gq (.str nm) uB (uA 4) G=.ok (.str (Ig nm uB (uA 4))) G:=λG=>by rw[O5,if_pos hnl]
 obtain⟨bb,Sa,I⟩:=CU (P X (ns.map D.str) (g.map (D.str∘one)));have fs:∀(x:Str)(G:DH),freeze G (.ok (.str x) G)=.ok (.str x) G:=λx G=>Qa rfl
 have C:(ns.map D.str).length<1000000:=by rw[zq];lia
 have u:∀(E:Str)(y:Int)(F H:Option D),NL (ns++[E]) g->Hx [zR G.length,s1,s2,s3,zR (G.length+1),zR (G.length+2),s6,x7,x8] (q x (ns.map D.str) (d.map (D.str∘one)))=.nx [zR G.length,s1,s2,s3,zR (G.length+1),zR (G.length+2),s6,F,H] (q y (ns.map D.str++[.str E]) (g.map (D.str∘one)))->∃(nm:Str)(s:List Nat)(y:Int)(F H:Option D),s.length+1=d.length/\NL (ns++[nm]) s/\
  Hx [zR G.length,s1,s2,s3,zR (G.length+1),zR (G.length+2),s6,x7,x8] (G++[.lst [.int x],.lst (ns.map D.str),.lst (d.map (D.str∘one))])=
   .nx [zR G.length,s1,s2,s3,zR (G.length+1),zR (G.length+2),s6,F,H] (G++[.lst [.int y],.lst ((ns++[nm]).map D.str),.lst (s.map (D.str∘one))]):=λE y F H hN e=>⟨E,g,y,F,H,K,hN,by
   rw[k,k]at e;rw[e];simp⟩
 have on2:=on;generalize g.map (D.str∘one)=LT2,d.map (D.str∘one)=LT,ns.map D.str=NS,d.length=ln,hcu:Ig nm uB (uA 4)=cu at*;by_cases c1:cu=("none":Str)
 .cases bb with
  |true=>
   by_cases c3:i4=1
   .refine u "none" x4 (zS r) (zS "none") (on2 (Sa rfl)) ?_;unfold Hx;simp[-O5,-U0,Ac,N,B,W,z,t2,f2,Q,p,Y,mu,U,Z,fs,c1,I,t4,c3,P,sN,C]
   refine u nm x4 (zS r) (zS nm) J ?_;unfold Hx;simp[-O5,-U0,Ac,N,B,W,z,t2,f2,Q,p,Y,mu,U,Z,fs,c1,I,t4,c3,P,sN,C]
  |false=>
   refine u nm X (zS r) (zS nm) J ?_;unfold Hx;simp[-O5,-U0,Ac,N,B,W,z,t2,f2,Q,p,Y,mu,U,Z,fs,c1,I,P,sN,C]
 refine u nm X (zS r) (zS nm) J ?_;unfold Hx;simp[-O5,-U0,Ac,N,B,W,z,t2,f2,Q,p,Y,mu,U,Z,fs,c1,P,sN,C]
theorem gy{G:DH}:∀(m j:Nat)(ns:List Str)(b:List Nat)(x:Int)(d c x8:Option D),lN ns+m<=20->m<=lN b->lN b<=26->NL ns b->∃(a:List Str)(k:List Nat)(y:Int)(q i e:Option D),lN a=lN ns+m/\NG a/\
  Aw (gV 6) Hx (An (j:Int) m) [zR (lN G),s1,s2,s3,zR (lN G+1),zR (lN G+2),d,c,x8] (G++[.lst [.int x],.lst (ns.map D.str),.lst (b.map (D.str∘one))])=
   .nx [zR (lN G),s1,s2,s3,zR (lN G+1),zR (lN G+2),q,i,e] (G++[.lst [.int y],.lst (a.map D.str),.lst (k.map (D.str∘one))])
 |0,j,ns,b,x,d,c,x8,_,_,_,h=>⟨ns,b,x,d,c,x8,rfl,h.ng,by rw[Ff,Et]⟩
 |m+1,j,ns,b,x,d,c,x8,A,w,t,s=>by obtain⟨nm,f,y,i,e,B,v,p⟩:=CW (G:=G) s (by lia) ⟨by lia,t⟩ x s1 s2 s3 (zI (j:Int)) c x8;obtain⟨a,g,z,n,l,u,o,ng,r⟩:=gy m (j+1) (ns++[nm]) f y (zI (j:Int)) i e (by simp;lia) (by lia) (by lia) v;refine⟨a,g,z,n,l,u,by rw[o];simp;lia,ng,?_⟩;rw[Eu,Dc];simp only[Cp,R.Cq,qM,p,Dl];exact r
def CY(hd:QB (lN G) d=uC):freeze G (.ok d H)=.ok d G\/freeze G (.ok d H)=.ok d H:=by
 unfold freeze;have e:G7 H (lN G) 9 d=uA d:=by unfold G7;rw[if_pos hd]
 by_cases h:H.take (lN G)=G
 .left
  simp[h,e,if_true]
 right
 simp[h,if_false]
theorem gz(o:lN ns=n)(a:n<=6){scale year:Int}(b:0<=scale)(l:year<1000000):∀(m j:Nat)(x:Int)(L:DH),j+m=n->∃(ps:List RP)(y:Int)(M:DH),ps.map RP.nm=(qU j m).map (λk=>ns.getD k "")/\(∀i p,ps[i]?=uA p->PG ns (j+i) p)/\
  Bo (gV 0) Ao Nh [uB,zR (lN G),zI scale,zI year,zR (lN G+1)] (An (j:Int) m) (G++ .lst [.int x]:: .lst (ns.map D.str)::L)=.ok (ps.map RP.enc) (G++ .lst [.int y]:: .lst (ns.map D.str)::(L++M))
 |0,j,x,L,_=>⟨[],x,[],rfl,λi p h=>by simp at h,by rw[Ff,qV];rfl⟩
 | m+1,j,x,L,e=>by
  obtain⟨p,q,z,d,M1,u⟩:=XS o (k:=j) (by lia) a x b year l G L;have f:Jd [.ref (lN G),.int (j:Int),.ref (lN G+1),.int scale,.int year] (G++ .lst [.int x]:: .lst (ns.map D.str)::L)=.ok p.enc (G++ .lst [.int d]:: .lst (ns.map D.str)::(L++M1)):=u;obtain⟨c,M2,r⟩:∃(c:Int)(M2:DH),Nh [zI (j:Int),zR (lN G),zI scale,zI year,zR (lN G+1)] (G++ .lst [.int x]:: .lst (ns.map D.str)::L)=.ok p.enc (G++ .lst [.int c]:: .lst (ns.map D.str)::(L++M2)):=by
   have g:Nh [zI (j:Int),zR (lN G),zI scale,zI year,zR (lN G+1)] (G++ .lst [.int x]:: .lst (ns.map D.str)::L)=freeze (G++ .lst [.int x]:: .lst (ns.map D.str)::L) (.ok p.enc (G++ .lst [.int d]:: .lst (ns.map D.str)::(L++M1))):=by
    rw[<-f]
    rfl
   rcases CY Q8 with h|h
   .exact⟨x,[],by rw[g,h,qV]⟩
   exact⟨d,M1,by rw[g,h]⟩
  obtain⟨ps,y,M,v,w,s⟩:=gz o a b l m (j+1) c (L++M2) (by lia);refine⟨p::ps,y,M2++M,?_,gh z w,?_⟩
  .rw[zY,v,q,jT,zY]
  have t:((j:Int)+1)=((j+1:Nat):Int):=by lia
  rw[Eu,Gk,t];simp only[Cp,R.Ea,qM,Ju,if_true,r];rw[s,R.Ea,qW]
  rfl
def CZ{y:Int}(i:∀n,NA n ds=uC):∃(z:Int)(N:DH),(freeze (G++ .lst [.int x]:: .lst NS::L) (.ok (.ref (lN G+(lN L+lN M+1+1))) (G++ .lst [.int y]:: .lst NS::(L++(M++[.lst ds]))))).bind (λd f=>Dh [d] f)=.ok (.tup ds) (G++ .lst [.int z]:: .lst NS::(L++N)):=by
 have h:(G++ .lst [.int y]:: .lst NS::(L++(M++[.lst ds])))[lN G+(lN L+lN M+1+1)]?=uA (.lst ds):=by rw[G8];simp
 by_cases hp:(G++DO.lst [.int y]::DO.lst NS::(L++(M++[DO.lst ds]))).take (lN (G++DO.lst [.int x]::DO.lst NS::L))=G++DO.lst [.int x]::DO.lst NS::L
 .refine⟨x,[],?_⟩;have b:(G++DO.lst [.int y]::DO.lst NS::(L++(M++[DO.lst ds])))=(G++DO.lst [.int x]::DO.lst NS::L)++(M++[DO.lst ds]):=by
   have a:=xO (lN (G++DO.lst [.int x]::DO.lst NS::L)) (G++DO.lst [.int y]::DO.lst NS::(L++(M++[DO.lst ds])));rw[hp]at a;have g:(G++DO.lst [.int y]::DO.lst NS::(L++(M++[DO.lst ds]))).drop (lN (G++DO.lst [.int x]::DO.lst NS::L))=M++[DO.lst ds]:=by
    have e:(G++DO.lst [.int y]::DO.lst NS::(L++(M++[DO.lst ds])))=(G++DO.lst [.int y]::DO.lst NS::L)++(M++[DO.lst ds]):=by simp
    have j:lN (G++DO.lst [.int x]::DO.lst NS::L)=lN (G++DO.lst [.int y]::DO.lst NS::L):=by simp
    rw[e,j,List.drop_append_of_le_length (zx _),List.drop_length]
    rfl
   rw[g]at a;exact a.symm
  have c:lN G+(lN L+lN M+1+1)=lN (G++DO.lst [.int x]::DO.lst NS::L)+lN M:=by simp;lia
  rw[b,c,bq (M++[DO.lst ds]) (by simp) (i _),qV]
  rfl
 refine⟨y,M++[.lst ds],?_⟩;have e:freeze (G++ .lst [.int x]:: .lst NS::L) (.ok (.ref (lN G+(lN L+lN M+1+1))) (G++ .lst [.int y]:: .lst NS::(L++(M++[.lst ds]))))=.ok (.ref (lN G+(lN L+lN M+1+1))) (G++ .lst [.int y]:: .lst NS::(L++(M++[.lst ds]))):=by unfold freeze;simp only[hp,if_false]
 rw[e,R.Ea];simp[h]
def Ps:∃a:List Nat,lN a=26/\NL [] a/\signs ("abcdefghijklmnopqrstuvwxyz":Str)=a.map (D.str∘one):=by
 refine⟨("abcdefghijklmnopqrstuvwxyz":Str).cps.toList,by decide +kernel,⟨by simp,by decide +kernel,by simp⟩,?_⟩;unfold signs
 rfl
def YS(x:Int){scale:Int}(J:0<=scale)(IY:1<=n)(P:n<=6)(G:DH):∃h:RH,lN h.ps=n/\HG h/\∃L:DH,Q3 [.ref (lN G),.int (n:Int),.int scale] (G++[.lst [.int x]])=.ok h.enc (G++L):=by
 obtain⟨q,m,b1,t1⟩:=tk x (k:=3) (by decide) (by decide);obtain⟨lt,lt1,t,F⟩:=Ps;obtain⟨o,j,A,y6,y7,y8,X,ng,hL⟩:=gy n 0 [] lt m uB uB uB (by simp;lia) (by lia) (by lia) t;have s:lN o=n:=by simpa using X
 obtain⟨ps,y,M,p1,p2,Y⟩:=gz s P (year:=1+q) J (by lia) n 0 A [.lst (j.map (D.str∘one))] (by lia);have l:ps.map RP.nm=o:=by rw[p1,<-s];exact gm
 obtain⟨z,N,w⟩:=CZ (G:=G) (L:=[.lst (j.map (D.str∘one))]) (M:=M) (NS:=o.map D.str) (x:=A) (y:=y) (λ_=>CI);have K:lN (ps.map RP.enc)<=1000000:=by have:=congrArg jS l;rw[zq]at this⊢;lia
 refine⟨⟨1+q,ps⟩,?_,⟨by rw[show RH.ps ⟨1+q,ps⟩=ps from rfl,l];exact ng,λi p Z=>by rw[show RH.ps ⟨1+q,ps⟩=ps from rfl,l];have:=p2 i p Z;rwa[qS]at this⟩,?_⟩
 .have:=congrArg jS l;rw[zq]at this;show lN ps=n;lia
 have T:inR (n:Int):=Ek (by lia) (by lia);have H:tidy (G++[.lst [.int m]]) (.ok (.ref (lN G+1)) (G++[.lst [.int m],.lst []]))=.ok (.ref (lN G+1)) (G++[.lst [.int m],.lst []]):=V3 rfl;have E:tidy (G++[.lst [.int m],.lst []]) (.ok (.ref (lN G+2)) (G++[.lst [.int m],.lst [],.lst (lt.map (D.str∘one))]))=.ok (.ref (lN G+2)) (G++[.lst [.int m],.lst [],.lst (lt.map (D.str∘one))]):=A3 (Fb λ_ _=>rfl)
 have B:∀G,Fq [.str "abcdefghijklmnopqrstuvwxyz"] G=.ok (.ref (lN G)) (G++[.lst (lt.map (D.str∘one))]):=λG=>by
  rw[<-F]
  rfl
 have O:∀a b c d e f g h i:Option D,Be 1 [0,2,3,4] [a,b,c,d,e,f,g,h,i]=[uB,a,c,d,e]:=λ_ _ _ _ _ _ _ _ _=>rfl
 have C:Aw (gV 6) Hx (An 0 n) [zR (lN G),zI (n:Int),zI scale,zI (1+q),zR (lN G+1),zR (lN G+2),uB,uB,uB] (G++[.lst [.int m],.lst [],.lst (lt.map (D.str∘one))])=_:=hL;have I:Bo (gV 0) Ao Nh [uB,zR (lN G),zI scale,zI (1+q),zR (lN G+1)] (An 0 n) (G++[.lst [.int A],.lst (o.map D.str),.lst (j.map (D.str∘one))])=.ok (ps.map RP.enc) (G++ .lst [.int y]:: .lst (o.map D.str):: .lst (j.map (D.str∘one))::M):=Y
 have e:Q3 [.ref (lN G),.int (n:Int),.int scale] (G++[.lst [.int x]])=tidy (G++[.lst [.int x]]) (.ok (RH.enc ⟨1+q,ps⟩) (G++ .lst [.int z]:: .lst (o.map D.str)::([.lst (j.map (D.str∘one))]++N))):=by
  unfold RH.enc;generalize ps.map RP.enc=PS,o.map D.str=NS,lt.map (D.str∘one)=LT,j.map (D.str∘one)=LT' at*;unfold Q3 dq dm dk dj di;rw[Al];simp at w;simp[Ac,t1 G [],H,B,E,T,C,O,I,K];have Q:1+lN M+1+1=lN M+1+1+1:=by lia
  rw[Q]at w
  have u:∀(r:R D)(S:PB),((r.bind λx v=>(Ba S v).bind λU W=>R.ok (x::U) W).bind Dh)=r.bind λd v=>Dh [d] v:=λr S=>by cases r<;>rfl
  rw[u,w];simp
 rcases gX Rz with h|h
 .exact⟨_,by rw[e,h]⟩
 exact⟨_,by rw[e,h]⟩
noncomputable def tupI(l:List Int):D:=.tup (l.map D.int)
def GC(lv:List Int)(cm:List (List Int)):D:=.tup [tupI lv,.tup (cm.map tupI)]
noncomputable def PC(GA:List (List Int)):List D:=GA.map λl=>.tup (l.map D.int)
def Bd(x:Int):Prop:=0<=x/\x<=10^32
def We{i k s:Int}(a:0<=i)(c:i<=k)(hk:k<=50)(s0:0<=s)(s1:s<=10^30):Bd (i*s):=by refine⟨jB a s0,?_⟩;have b:=q9 (show i<=50 by lia) s0;lia
def C0(l:1<=n)(d:n<=6){scale:Int}(b:0<=scale)(G:DH):∃h:RH,lN h.ps=n/\HG h/\O2 [.fl (sc.map D.int),.int (n:Int),.int scale] G=.ok h.enc G:=by
 have a:∀G,Em [.fl (sc.map D.int),.int 4] G=.ok (.int (cellAt sc 4)) G:=λG=>K5 (by decide)
 by_cases f:0<=cellAt sc 4/\cellAt sc 4<10^18
 .obtain⟨h,o,m,i⟩:=CN (sc:=sc) d b;refine⟨h,o,m,?_⟩;have r:QB (lN G) h.enc=uC:=Rz;have g:∀L:DH,tidy G (.ok h.enc (G++L))=.ok h.enc G:=λL=>K8 r
  have k:cellAt sc 4<1000000000000000000:=f.2;generalize h.ps.map RP.enc=PS,h.enc=q,cellAt sc 4=V,sc.map D.int=SC at*;unfold O2 Xh;rw[Al];simp[a,f.1,f.2,k,i G uB uB uB uB uB,g]
 obtain⟨h,o,m,L,i⟩:=YS (cellAt sc 4) b l d G;refine⟨h,o,m,?_⟩;have g:∀L:DH,tidy G (.ok h.enc (G++L))=.ok h.enc G:=λL=>K8 Rz
 have p:tidy G (.ok (.ref (lN G)) (G++[.lst [.int (cellAt sc 4)]]))=.ok (.ref (lN G)) (G++[.lst [.int (cellAt sc 4)]]):=Du rfl;generalize h.enc=q,cellAt sc 4=V,sc.map D.int=SC at*;unfold O2 Xh;rw[Al];by_cases j:0<=V
 .have c:¬V<10^18:=λz=>f ⟨j,z⟩
  have e:¬V<1000000000000000000:=c;simp[Ac,a,j,c,e,p,i,g]
 simp[Ac,a,j,p,i,g]
def C1(cell:Int){scale:Int}(s0:0<=scale)(s1:scale<=10^30):∃r:List Int,(lN r=5/\∀x∈r,Bd x)/\∀G,Bo (gV 0) Ao Uq [uB,zI scale,zI cell] (An 0 5) G=.ok (r.map D.int) G:=by
 obtain⟨h,f,e,c⟩:=Ox (te:=Uq) (S:=[uB,zI scale,zI cell]) (Q:=λd=>∃i,Bd i/\d=.int i) 5 0 λk _ _=>by
  obtain⟨i,b,t⟩:=Eh (cell+(k:Int)) (p:=10099) (m:=4) (by decide) (by decide);have a:∀G,Bu (.int (i/2)) (.int scale) G=.ok (.int (i/2*scale)) G:=λG=>Ds (by lia) (by lia)
  refine⟨.int (i/2*scale),⟨_,We (k:=2) (by lia) (by lia) (by decide) s0 s1,rfl⟩,λG=>?_⟩;unfold Uq;simp[t,a]
 obtain⟨l,rfl,g⟩:=XF e;exact⟨l,⟨by simpa using f,g⟩,c⟩
theorem hI(K:HG h){scale:Int}(y:0<=scale)(H:scale<=10^30):∀(m j:Nat)(lv:List Int)(cm:List (List Int))(P O N:Option D),j+m=lN h.ps->lN lv+m<=100->lN cm+m<=100->(∀r∈cm,lN r=5/\∀x∈r,Bd x)->(∀x∈lv,Bd x)->∃(n:List Int)(l:List (List Int))(y5 y6 M:Option D),lN n=lN lv+m/\lN l=lN cm+m/\(∀r∈l,lN r=5/\∀x∈r,Bd x)/\(∀x∈n,Bd x)/\∀G:DH,
  Aw (gV 5) Kh (An (j:Int) m) [zF (sc.map D.int),uA h.enc,zI scale,zR (lN G),zR (lN G+1),P,O,N] (G++[.lst (lv.map D.int),.lst (cm.map tupI)])=
   .nx [zF (sc.map D.int),uA h.enc,zI scale,zR (lN G),zR (lN G+1),y5,y6,M] (G++[.lst (n.map D.int),.lst (l.map tupI)])
 |0,j,lv,cm,P,O,N,_,_,_,X,hv=>⟨lv,cm,P,O,N,rfl,rfl,X,hv,λG=>by rw[Ff,Et]⟩
 | m + 1,j,lv,cm,P,O,N,e,h1,h2,X,hv=>by
  obtain⟨p,hp⟩:∃p,h.ps[j]?=uA p:=⟨_,zZ (by lia)⟩;have ap:=Hq hp;have Z:∀G,Af h.enc (.int 1) G=.ok (.tup (h.ps.map RP.enc)) G:=λG=>Dw
  have s:∀G,Em [.fl (sc.map D.int),.int (19+(j:Int))] G=.ok (.int (cellAt sc (19+(j:Int)))) G:=λG=>K5 (by lia)
  obtain⟨r,⟨r1,r0⟩,W⟩:=C1 (cellAt sc (19+(j:Int))) y H;obtain⟨i,b,t⟩:=Eh (cellAt sc (19+(j:Int))) (p:=10093) (m:=9) (by decide) (by decide);have m1:∀G,Bu (.int i) (.int scale) G=.ok (.int (i*scale)) G:=λG=>Ds (by lia) (by lia)
  have F:inR 5:=Ek (by decide) (by decide);have I:∀a b c d e f g h:Option D,Be 1 [2,6] [a,b,c,d,e,f,g,h]=[uB,c,g]:=λ_ _ _ _ _ _ _ _=>rfl
  have p0:∀G,Af p.enc (.int 0) G=.ok (.str p.kd.TF) G:=λG=>MI
  have Q:∃(v:Int)(M:Option D),Bd v/\∀G:DH,Kh [zF (sc.map D.int),uA h.enc,zI scale,zR (lN G),zR (lN G+1),zI (j:Int),O,N] (G++[.lst (lv.map D.int),.lst (cm.map tupI)])=
    .nx [zF (sc.map D.int),uA h.enc,zI scale,zR (lN G),zR (lN G+1),zI (j:Int),zI (cellAt sc (19+(j:Int))),M] (G++[.lst ((lv++[v]).map D.int),.lst ((cm++[r]).map tupI)]):=by
   have U:tupI r=.tup (r.map D.int):=rfl;have E:lN (lv.map D.int)<1000000:=by rw[zq];lia
   have w:lN (cm.map tupI)<1000000:=by rw[zq];lia
   have u:lN (r.map D.int)<=1000000:=by rw[zq];lia
   have Y:∀(G:DH)(A B:DO),freeze (G++[A,B]) (.ok (.ref (lN G+2)) (G++[A,B,.lst (r.map D.int)]))=.ok (.fl (r.map D.int)) (G++[A,B]):=λG A B=>A0 Hf
   have g0:∀(G:DH)(A B:DO),(G++[A,B])[lN G]?=uA A:=λG A B=>by rw[Dy];rfl
   have S:∀(G:DH)(A B:DO),(G++[A,B])[lN G+1]?=uA B:=λG A B=>by rw[G8];rfl
   have s0:∀(G:DH)(A B C:DO),(G++[A,B]).set (lN G) C=G++[C,B]:=λG A B C=>by rw[Ez];rfl
   have s1:∀(G:DH)(A B C:DO),(G++[A,B]).set (lN G+1) C=G++[A,C]:=λG A B C=>by rw[Ht];rfl
   by_cases q:p.kd.TF="basin"
   .obtain⟨z,rr,qq,J⟩:∃z rr qq,p.kd=.OA z rr qq:=by
     cases hk:p.kd with
     |OA a b c=>exact⟨a,b,c,rfl⟩
     |XC a b=>rw[hk]at q;exact absurd q (by show¬(("town":Str)="basin");decide)
     |YC a=>rw[hk]at q;exact absurd q (by show¬(("mill":Str)="basin");decide)
    have p4:∀G,Af p.enc (.int 4) G=.ok (.int z) G:=λG=>by unfold RP.enc RP.row RK.rest;rw[J];simp
    have T:0<=z:=by have:=(K.pg j p hp).kd;rw[J]at this;exact this.1
    have L:Bd (i*scale):=We (k:=9) (by lia) (by lia) (by decide) y H;by_cases hg:z<i*scale
    .refine⟨z,zI z,⟨T,by have:=L.2;lia⟩,λG=>?_⟩;rw[qx,qx,zY,zY,qy,qy,U];generalize cellAt sc (19+(j:Int))=V,h.ps.map RP.enc=PS,h.enc=he,p.enc=pe,sc.map D.int=SC,r.map D.int=RI,lv.map D.int=LV,cm.map tupI=CM at*;unfold Kh;simp[Ac,s,Z,ap,p0,q,t,m1,p4,hg,g0,S,s0,s1,E,w,F,I,W,u,Y]
    refine⟨i*scale,zI (i*scale),L,λG=>?_⟩;rw[qx,qx,zY,zY,qy,qy,U];generalize cellAt sc (19+(j:Int))=V,h.ps.map RP.enc=PS,h.enc=he,p.enc=pe,sc.map D.int=SC,r.map D.int=RI,lv.map D.int=LV,cm.map tupI=CM at*;unfold Kh;simp[Ac,s,Z,ap,p0,q,t,m1,p4,hg,g0,S,s0,s1,E,w,F,I,W,u,Y]
   refine⟨0,zI 0,⟨by decide,by decide⟩,λG=>?_⟩;rw[qx,qx,zY,zY,qy,qy,U];generalize cellAt sc (19+(j:Int))=V,h.ps.map RP.enc=PS,h.enc=he,p.enc=pe,sc.map D.int=SC,r.map D.int=RI,lv.map D.int=LV,cm.map tupI=CM at*;unfold Kh;simp[Ac,s,Z,ap,p0,q,g0,S,s0,s1,E,w,F,I,W,u,Y]
  obtain⟨v,M,N9,q⟩:=Q;obtain⟨n,l,z5,z6,z7,c1,c2,c3,c4,hL⟩:=hI K y H m (j+1) (lv++[v]) (cm++[r]) (zI (j:Int)) (zI (cellAt sc (19+(j:Int)))) M (by lia) (by simp;lia) (by simp;lia) (λx o=>by
   rcases qJ.mp o with o|o
   .exact X x o
   .have:x=r:=by simpa using o
    rw[this];exact⟨r1,r0⟩) (λx o=>by
   rcases qJ.mp o with o|o
   .exact hv x o
   have:x=v:=by simpa using o
   rw[this];exact N9)
  refine⟨n,l,z5,z6,z7,by rw[c1];simp;lia,by rw[c2];simp;lia,c3,c4,λG=>?_⟩;rw[Eu,Dc];simp only[Cp,R.Cq,qM,q,Dl];have e1:((j:Int)+1)=((j+1:Nat):Int):=by lia
  rw[e1,hL]
def C2(c:HG h)(z:lN h.ps<=100){scale:Int}(b:0<=scale)(e:scale<=10^30):∃(lv:List Int)(cm:List (List Int)),lN lv=lN h.ps/\lN cm=lN h.ps/\(∀r∈cm,lN r=5/\∀x∈r,Bd x)/\(∀x∈lv,Bd x)/\∀G,S9 [.fl (sc.map D.int),h.enc,.int scale] G=.ok (GC lv cm) G:=by
 obtain⟨lv,cm,E,F,H,q,k,y,g,t⟩:=hI c b e (lN h.ps) 0 [] [] uB uB uB (by lia) (by simp;lia) (by simp;lia) (by simp) (by simp);refine⟨lv,cm,by simpa using q,by simpa using k,y,g,λG=>?_⟩;have s:∀G,Af h.enc (.int 1) G=.ok (.tup (h.ps.map RP.enc)) G:=λG=>Dw
 have a:∀G,Aq [.tup (h.ps.map RP.enc)] G=.ok (.int (lN h.ps)) G:=λG=>by simp
 have i:inR (lN h.ps:Int):=Ek (by lia) (by lia);have u:tidy G (.ok (.ref (lN G)) (G++[.lst []]))=.ok (.ref (lN G)) (G++[.lst []]):=Du rfl;have w:tidy (G++[.lst []]) (.ok (.ref (lN G+1)) (G++[.lst [],.lst []]))=.ok (.ref (lN G+1)) (G++[.lst [],.lst []]):=V3 rfl;have d:Aw (gV 5) Kh (An 0 (lN h.ps)) [zF (sc.map D.int),uA h.enc,zI scale,zR (lN G),zR (lN G+1),uB,uB,uB] (G++[.lst [],.lst []])=_:=t G
 have v:∀(G:DH)(A B:DO),(G++[A,B])[lN G]?=uA A:=λG A B=>by rw[Dy];rfl
 have j:∀(G:DH)(A B:DO),(G++[A,B])[lN G+1]?=uA B:=λG A B=>by rw[G8];rfl
 have o:QB (lN G) (GC lv cm)=uC:=by
  have p:NA (lN G) (cm.map tupI)=uC:=Fb λr _=>by exact Hf
  have m:QB (lN G) (tupI lv)=uC:=by exact Hf
  unfold GC;simp[p,m]
 have f:∀L:DH,tidy G (.ok (GC lv cm) (G++L))=.ok (GC lv cm) G:=λL=>K8 o
 have l:GC lv cm=.tup [.tup (lv.map D.int),.tup (cm.map tupI)]:=rfl;rw[l]at f⊢;generalize h.ps.map RP.enc=PS,lN h.ps=n,h.enc=I,sc.map D.int=SC,lv.map D.int=C,cm.map tupI=J at*;unfold S9 Zx;rw[Al];simp[Ac,u,w,s,a,i,d,v,j,f]
def C3(first w a top scale:Int)(u:0<=first)(hw:0<=w/\w<1000)(j:0<=a/\a<=100)(q:0<top/\top<=100):∃r:List Int,lN r=n/\(∀v∈r,∃i,(0<=i/\i<top)/\v=i*scale)/\∀G,Bo (gV 0) Ao U8 [uB,zF (sc.map D.int),zI first,zI a,zI top,zI scale,zI w] (An 0 n) G=.ok (r.map D.int) G:=by
 obtain⟨x,s,o,g⟩:=Ox (te:=U8) (S:=[uB,zF (sc.map D.int),zI first,zI a,zI top,zI scale,zI w]) (Q:=λd=>∃v,(∃i,(0<=i/\i<top)/\v=i*scale)/\d=.int v) n 0 λk _ _=>by
  have f:=jB hw.1 j.1
  have c:∀G,Em [.fl (sc.map D.int),.int (first+w*a+(k:Int))] G=.ok (.int (cellAt sc (first+w*a+(k:Int)))) G:=λG=>K5 (by lia)
  obtain⟨i,b,t⟩:=Eh (cellAt sc (first+w*a+(k:Int))) (p:=10103) (by decide) q.1
  have e:∀G,Bu (.int i) (.int scale) G=.ok (.int (i*scale)) G:=λG=>Ds (by lia) (by lia)
  have h:∀G,Bu (.int w) (.int a) G=.ok (.int (w*a)) G:=λG=>Ds (by lia) (by lia)
  refine⟨.int (i*scale),⟨_,⟨i,b,rfl⟩,rfl⟩,λG=>?_⟩
  generalize cellAt sc (first+w*a+(k:Int))=V,sc.map D.int=SC at*
  unfold U8;simp[h,c,t,e]
 obtain⟨l,rfl,m⟩:=XF o;exact⟨l,by simpa using s,m,g⟩
theorem hJ{first top scale:Int}{turns:Nat}(p:0<=first)(B:n<=100)(q:0<top/\top<=100){s2:Option D}:∀(m w:Nat)(acc:List (List Int))(j x8:Option D),w+m<=900->lN acc+m<=1000->∃(rs:List (List Int))(K z:Option D),lN rs=m/\(∀r∈rs,lN r=n/\∀v∈r,∃i,(0<=i/\i<top)/\v=i*scale)/\∀G:DH,
  Aw (gV 7) Nu (An (w:Int) m) [zF (sc.map D.int),zI first,s2,zI (n:Int),zI top,zI scale,zR (lN G),j,x8] (G++[.lst (acc.map tupI)])=
   .nx [zF (sc.map D.int),zI first,s2,zI (n:Int),zI top,zI scale,zR (lN G),K,z] (G++[.lst ((acc++rs).map tupI)])
 |0,w,acc,j,x8,_,_=>⟨[],j,x8,rfl,by simp,λG=>by rw[Ff,Et,qV]⟩
 | m+1,w,acc,j,x8,P,O=>by
  obtain⟨r,I,C,t⟩:=C3 first (w:Int) (n:Int) top scale p ⟨by lia,by lia⟩ ⟨by lia,by lia⟩ q
  obtain⟨rs,s,L,E,x,M⟩:=hJ (turns:=turns) p B q (s2:=s2) m (w+1) (acc++[r]) (zI (w:Int)) (zF (r.map D.int)) (by lia) (by simp;lia);refine⟨r::rs,s,L,by simp[E],jO.mpr ⟨⟨I,C⟩,x⟩,λG=>?_⟩;have u:inR (n:Int):=Ek (by lia) (by lia);have o:∀a b c d e f g h i:Option D,Be 1 [0,1,3,4,5,7] [a,b,c,d,e,f,g,h,i]=[uB,a,b,d,e,f,h]:=λ_ _ _ _ _ _ _ _ _=>rfl
  have k:lN (r.map D.int)<=1000000:=by rw[zq];lia
  have l:lN (acc.map tupI)<1000000:=by rw[zq];lia
  have y:tupI r=.tup (r.map D.int):=rfl;have H:∀A:DO,freeze (G++[A]) (.ok (.ref (lN G+1)) (G++[A,.lst (r.map D.int)]))=.ok (.fl (r.map D.int)) (G++[A]):=λA=>f7 Hf
  have F:Nu [zF (sc.map D.int),zI first,s2,zI (n:Int),zI top,zI scale,zR (lN G),zI (w:Int),x8] (G++[.lst (acc.map tupI)])=
    .nx [zF (sc.map D.int),zI first,s2,zI (n:Int),zI top,zI scale,zR (lN G),zI (w:Int),zF (r.map D.int)] (G++[.lst ((acc++[r]).map tupI)]):=by
   rw[qx,zY,qy,y];generalize sc.map D.int=SC,r.map D.int=N,acc.map tupI=A at*;unfold Nu;simp[Ac,u,o,t,k,H,Dy,Ez,l]
  rw[Eu,Dc];simp only[Cp,R.Cq,qM,F,Dl];have J:((w:Int)+1)=((w+1:Nat):Int):=by lia
  rw[J,M,qW]
  rfl
def Ga{l:List (List Int)}:NA n (l.map tupI)=uC:=Fb λr _=>by exact Hf
def hM{first top scale:Int}{turns:Nat}(f:0<=first)(d:n<=100)(j:turns<=100)(m:0<top/\top<=100):∃rs:List (List Int),lN rs=turns/\(∀r∈rs,lN r=n/\∀v∈r,∃i,(0<=i/\i<top)/\v=i*scale)/\∀G,freeze G (M6 [.fl (sc.map D.int),.int first,.int (turns:Int),.int (n:Int),.int top,.int scale] G)=.ok (.fl (rs.map tupI)) G:=by
 obtain⟨rs,q,p,g,o,h⟩:=hJ (turns:=turns) f d m turns 0 [] uB uB (by lia) (by simp;lia);refine⟨rs,g,o,λG=>?_⟩;have k:inR (turns:Int):=Ek (by lia) (by lia);have b:tidy G (.ok (.ref (lN G)) (G++[.lst []]))=.ok (.ref (lN G)) (G++[.lst []]):=Du rfl
 have a:Aw (gV 7) Nu (An 0 turns) [zF (sc.map D.int),zI first,zI (turns:Int),zI (n:Int),zI top,zI scale,zR (lN G),uB,uB] (G++[.lst []])=_:=h G
 rw[qH]at a;have l:tidy G (.ok (.ref (lN G)) (G++[.lst (rs.map tupI)]))=.ok (.ref (lN G)) (G++[.lst (rs.map tupI)]):=Du Ga;have c:freeze G (.ok (.ref (lN G)) (G++[.lst (rs.map tupI)]))=.ok (.fl (rs.map tupI)) G:=Bj Ga;generalize rs.map tupI=Z,sc.map D.int=SC at*
 have e:M6 [.fl SC,.int first,.int (turns:Int),.int (n:Int),.int top,.int scale] G=.ok (.ref (lN G)) (G++[.lst Z]):=by unfold M6 dw;rw[Al];simp[Ac,b,k,a,l]
 rw[e,c]
noncomputable def IE:List (Int×Int):=[(3,2),(2,3),(3,3),(4,2),(5,1),(2,5),(1,7),(2,2),(3,2),(2,4),(1,4),(3,1),(5,2),(1,2),(2,7),(1,20)]
noncomputable def NI(p:Int×Int):D:=.tup [.int p.1,.int p.2]
def C4:∀p∈IE,(1<=p.1/\p.1<=5)/\(1<=p.2/\p.2<=20)/\(7<p.2->p.1=1)/\p.1*p.2<=20:=by decide
def C5{i:Int}(j:0<=i)(o:i<16):∃n t:Nat,(1<=n/\n<=5)/\(1<=t/\t<=20)/\(7<t->n=1)/\n*t<=20/\NC (IE.map NI) i=zT [.int (n:Int),.int (t:Int)]:=by
 have r:i<(lN (IE.map NI):Int):=by
  have:lN (IE.map NI)=16:=by rw[zq];decide
  rw[this];exact o
 have e:=Tn j r;rw[xN]at e;have m:=C4 _ (qw (n:=i.toNat) (by
  have:lN IE=16:=by decide
  lia))
 generalize IE[i.toNat]'(by
  have:lN IE=16:=by decide
  lia)=p at*
 obtain⟨a,b⟩:=p;obtain⟨h,k,g,f⟩:=m;dsimp only at h k g f;have c:((a.toNat:Nat):Int)=a:=by lia
 have d:((b.toNat:Nat):Int)=b:=by lia
 refine⟨a.toNat,b.toNat,by lia,by lia,λz=>by have:=g (by lia);lia,by
  have:((a.toNat*b.toNat:Nat):Int)<=20:=by rw[jW,c,d];exact f
  lia,?_⟩
 rw[e];unfold NI;have l:((a.toNat:Nat):Int)=a:=by lia
 have q:((b.toNat:Nat):Int)=b:=by lia
 rw[l,q]
def bd0:∀x∈[(0:Int)],Bd x:=λx a=>by
 have:x=0:=by simpa using a
 rw[this];exact⟨by decide,by decide⟩
structure GV (h:RH) (lv:List Int) (cm fl GA:List (List Int)) (left:List Int):Prop where
 n1:1<=lN h.ps
 n5:lN h.ps<=5
 t1:1<=lN fl
 RY:lN fl<=20
 nt:lN h.ps*lN fl<=20
 hg:HG h
 lv:lN lv=lN h.ps/\∀x∈lv,Bd x
 cm:lN cm=lN h.ps/\∀r∈cm,lN r=5/\∀x∈r,Bd x
 fr:∀f∈fl,lN f=lN h.ps/\∀x∈f,Bd x
 pn:lN GA=lN fl
 pr:∀l∈GA,lN l=lN h.ps/\∀x∈l,0<=x/\x<=900
 lf:lN left=lN h.ps/\∀x∈left,0<=x/\x<=600
def hV{l:List Int}{a top:Int}(hd:a=1\/a=100)(h:∀v∈l,∃i,(0<=i/\i<top)/\v=i*a):∀x∈l,0<=x/\x<=100*(top-1):=λy b=>by
 obtain⟨i,c,rfl⟩:=h y b
 rcases hd with rfl|rfl<;>lia
def C6(sc:List Int)(G:DH):∃(h:RH)(lv:List Int)(cm fl GA:List (List Int))(left:List Int),GV h lv cm fl GA left/\O3 [.fl (sc.map D.int)] G=.ok (.tup [h.enc,GC lv cm,.fl (fl.map tupI),.fl (PC GA),.tup (left.map D.int)]) G:=by
 have K:∀G,Em [.fl (sc.map D.int),.int 0] G=.ok (.int (cellAt sc 0)) G:=λG=>K5 (by decide)
 obtain⟨i1,b1,t1⟩:=Eh (cellAt sc 0) (p:=10273) (m:=16) (by decide) (by decide);obtain⟨n,tr,hn,htr,h71,T?,ap⟩:=C5 b1.1 b1.2;obtain⟨scale,hsm,hsc⟩:=Yr (l:=[1,1,1000000007,10^30]) (i:=cellAt sc 0/15%4) (xX _ (by decide)) (jD _ (by decide));have s:0<=scale/\scale<=10^30:=by simp at hsm;lia
 obtain⟨o,U?,O⟩:∃o:Int,(o=1\/o=100)/\∀G,Af (.fl [.int 1,.int 1,.int 100]) (.int (cellAt sc 0/60%3)) G=.ok (.int o) G:=by
  rcases(by lia:cellAt sc 0/60%3=0\/cellAt sc 0/60%3=1\/cellAt sc 0/60%3=2)with h|h|h<;>rw[h]
  .exact⟨1,.inl rfl,λG=>by simp⟩
  .exact⟨1,.inl rfl,λG=>by simp⟩
  exact⟨100,.inr rfl,λG=>by simp⟩
 obtain⟨h,C,Z,P⟩:=C0 hn.1 (by lia) s.1 G;obtain⟨lv,cm,s1,s2,s3,s5,s4⟩:=C2 Z (by lia) s.1 s.2
 obtain⟨GA,p1,p2,p3⟩:=hM (first:=39) (top:=10) (scale:=o) (n:=n) (turns:=tr) (by decide) (by lia) (by lia) (by decide)
 obtain⟨fl,f1,f2,f3⟩:=hM (first:=24) (top:=6) (scale:=scale) (n:=n) (turns:=tr) (by decide) (by lia) (by lia) (by decide)
 obtain⟨lds,l1,l2,l3⟩:=Ox (te:=Uj) (S:=[uB,zF (sc.map D.int),zI o]) (Q:=λd=>∃v,(∃i,(0<=i/\i<7)/\v=i*o)/\d=.int v) n 0 λk _ _=>by
  have hce:∀G,Em [.fl (sc.map D.int),.int (54+(k:Int))] G=.ok (.int (cellAt sc (54+(k:Int)))) G:=λG=>K5 (by lia)
  obtain⟨i,b,t⟩:=Eh (cellAt sc (54+(k:Int))) (p:=10111) (m:=7) (by decide) (by decide);have m1:∀G,Bu (.int i) (.int o) G=.ok (.int (i*o)) G:=λG=>Ds (by lia) (by lia)
  refine⟨.int (i*o),⟨_,⟨i,b,rfl⟩,rfl⟩,λG=>?_⟩;generalize cellAt sc (54+(k:Int))=V,sc.map D.int=SC at*;unfold Uj;simp[hce,t,m1]
 obtain⟨left,rfl,l4⟩:=XF l2;have hln:lN left=n:=by simpa using l1
 have L:∀G,Bo (gV 0) Ao Uj [uB,zF (sc.map D.int),zI o] (An 0 n) G=.ok (left.map D.int) G:=l3;have fb:∀f∈fl,∀x∈f,Bd x:=λf r x E=>by obtain⟨i,hi,rfl⟩:=(f2 f r).2 x E;exact We (k:=6) hi.1 (by lia) (by decide) s.1 s.2
 obtain⟨q,g1,g2,g3⟩:∃q:List (List Int),lN q=tr/\(∀f∈q,(7<tr->lN f=n)/\∀x∈f,Bd x)/\∀G,Bo (gV 0) Ao Oh [uB,zI (cellAt sc 0),zF (fl.map tupI)] (An 0 tr) G=.ok (q.map tupI) G:=by
  obtain⟨I,d1,d2,d3⟩:=Ox (te:=Oh) (S:=[uB,zI (cellAt sc 0),zF (fl.map tupI)]) (Q:=λd=>∃f:List Int,((7<tr->lN f=n)/\∀x∈f,Bd x)/\d=tupI f) tr 0 λk _ k2=>by
   obtain⟨f,r⟩:∃f,fl[k]?=uA f:=⟨_,zZ (by lia)⟩;have af:NC (fl.map tupI) (k:Int)=uA (tupI f):=By rfl (by rw[zv,r];rfl);by_cases hk:(k:Int)%7=cellAt sc 0%7
   .refine⟨tupI f,⟨f,⟨λ_=>(f2 f (zP r)).1,fb f (zP r)⟩,rfl⟩,λG=>?_⟩;generalize cellAt sc 0=V,fl.map tupI=FL at*;unfold Oh;simp[hk,af]
   refine⟨tupI [0],⟨[0],⟨λz=>by rw[h71 z];rfl,bd0⟩,rfl⟩,λG=>?_⟩;have e0:tupI [0]=.tup [.int 0]:=rfl;rw[e0];generalize cellAt sc 0=V,fl.map tupI=FL at*;unfold Oh;simp[hk]
  have fo:∀{I:List D},(∀d∈I,∃f:List Int,((7<tr->lN f=n)/\∀x∈f,Bd x)/\d=tupI f)->∃l:List (List Int),I=l.map tupI/\∀f∈l,(7<tr->lN f=n)/\∀x∈f,Bd x:=by
   intro I
   induction I with
   |nil=>exact λ_=>⟨[],rfl,by simp⟩
   |cons d I ih=>
    intro hd;obtain⟨f,r,rfl⟩:=hd d (by simp);obtain⟨l,rfl,J⟩:=ih λx E=>hd x (zV _ E)
    exact⟨f::l,rfl,jO.mpr ⟨r,J⟩⟩
  obtain⟨l,rfl,J⟩:=fo d2;exact⟨l,by simpa using d1,J,d3⟩
 have w:∀G,Af (.fl [.int 1,.int 1,.int 1000000007,.int 1000000000000000000000000000000]) (.int (cellAt sc 0/15%4)) G=.ok (.int scale) G:=hsc;have W:∀G:DH,freeze G (.ok (.ref (lN G)) (G++[.lst [.int 1,.int 1,.int 1000000007,.int 1000000000000000000000000000000]]))=.ok (.fl [.int 1,.int 1,.int 1000000007,.int 1000000000000000000000000000000]) G:=λG=>Bj rfl
 have N:∀G:DH,freeze G (.ok (.ref (lN G)) (G++[.lst [.int 1,.int 1,.int 100]]))=.ok (.fl [.int 1,.int 1,.int 100]) G:=λG=>Bj rfl
 have u:∀G:DH,freeze G (.ok (.ref (lN G)) (G++[.lst ((IE.take 13).map NI)]))=.ok (.fl ((IE.take 13).map NI)) G:=λG=>Bj rfl
 have H:∀G:DH,freeze G (.ok (.ref (lN G)) (G++[.lst ((IE.drop 13).map NI)]))=.ok (.fl ((IE.drop 13).map NI)) G:=λG=>Bj rfl
 have y:∀G:DH,freeze G (.ok (.ref (lN G)) (G++[.lst (IE.map NI)]))=.ok (.fl (IE.map NI)) G:=λG=>Bj rfl
 have ad:∀G,Dq (.fl ((IE.take 13).map NI)) (.fl ((IE.drop 13).map NI)) G=.ok (.ref (lN G)) (G++[.lst (IE.map NI)]):=λG=>rfl
 have U:inR (n:Int):=Ek (by lia) (by lia);have hrt:inR (tr:Int):=Ek (by lia) (by lia);have M:∀G:DH,freeze G (.ok (.ref (lN G)) (G++[.lst (left.map D.int)]))=.ok (.fl (left.map D.int)) G:=λG=>Bj Hf
 have fzf:∀G:DH,freeze G (.ok (.ref (lN G)) (G++[.lst (q.map tupI)]))=.ok (.fl (q.map tupI)) G:=λG=>Bj Ga
 have ll:lN (left.map D.int)<=1000000:=by rw[zq];lia
 have lf2:lN (q.map tupI)<=1000000:=by rw[zq];lia
 have A:∀a b c d e f g h i j k:Option D,Be 1 [0,7] [a,b,c,d,e,f,g,h,i,j,k]=[uB,a,h]:=λ_ _ _ _ _ _ _ _ _ _ _=>rfl
 have T:∀a b c d e f g h i j k:Option D,Be 1 [1,10] [a,b,c,d,e,f,g,h,i,j,k]=[uB,b,k]:=λ_ _ _ _ _ _ _ _ _ _ _=>rfl
 have V?:PC GA=GA.map tupI:=rfl;have X:QB (lN G) (GC lv cm)=uC:=by
  have h2:QB (lN G) (tupI lv)=uC:=by exact Hf
  unfold GC;simp[h2,Ga]
 have Y:QB (lN G) h.enc=uC:=Rz;have bl:NA (lN G) (left.map D.int)=uC:=Hf;have bp:NA (lN G) (GA.map tupI)=uC:=Ga;have bf:NA (lN G) (fl.map tupI)=uC:=Ga;have bf2:NA (lN G) (q.map tupI)=uC:=Ga;have e13:(IE.take 13).map NI=[.tup [.int 3,.int 2],.tup [.int 2,.int 3],.tup [.int 3,.int 3],.tup [.int 4,.int 2],.tup [.int 5,.int 1],.tup [.int 2,.int 5],.tup [.int 1,.int 7],.tup [.int 2,.int 2],.tup [.int 3,.int 2],.tup [.int 2,.int 4],.tup [.int 1,.int 4],.tup [.int 3,.int 1],.tup [.int 5,.int 2]]:=rfl
 have e3:(IE.drop 13).map NI=[.tup [.int 1,.int 2],.tup [.int 2,.int 7],.tup [.int 1,.int 20]]:=rfl;rw[e13]at u ad;rw[e3]at H ad;have gv:∀F:List (List Int),lN F=tr->(∀f∈F,lN f=n/\∀x∈f,Bd x)->GV h lv cm F GA left:=λF hF hFn=>⟨by lia,by lia,by lia,by lia,by rw[C,hF];exact T?,Z,⟨s1,s5⟩,⟨s2,s3⟩,λf r=>C▸hFn f r,by lia,λl J=>⟨by rw[C];exact(p2 l J).1,λx E=>by have:=hV U? (p2 l J).2 x E;lia⟩,by lia,λx E=>by have:=hV U? l4 x E;lia⟩
 by_cases h7:7<tr
 .refine⟨h,lv,cm,q,GA,left,gv q g1 λf r=>⟨(g2 f r).1 h7,(g2 f r).2⟩,?_⟩;have B:(7:Int)<(tr:Int):=by lia
  rw[V?];generalize IE.map NI=PR,q.map tupI=FL2,fl.map tupI=FL,GA.map tupI=PY,left.map D.int=LF,GC lv cm=SE,h.enc=he,cellAt sc 0=V,sc.map D.int=SC at*;unfold O3 Yh Yj Vz Vm Xf Xv Zg Vr Vs X8 Z2 Uv;rw[Al];simp[-Ri,Ac,K,u,H,ad,y,t1,ap,W,w,P,N,O,p3,U,A,L,ll,M,f3,h7,B,hrt,T,g3,lf2,fzf,s4,Y,X,bf2,bp,bl,Bl]
 refine⟨h,lv,cm,fl,GA,left,gv fl f1 λf r=>⟨(f2 f r).1,fb f r⟩,?_⟩;have B:¬(7:Int)<(tr:Int):=by lia
 rw[V?];generalize IE.map NI=PR,q.map tupI=FL2,fl.map tupI=FL,GA.map tupI=PY,left.map D.int=LF,GC lv cm=SE,h.enc=he,cellAt sc 0=V,sc.map D.int=SC at*;unfold O3 Yh Yj Vz Vm Xf Xv Zg Vr Vs X8 Z2 Uv;rw[Al];simp[-Ri,Ac,K,u,H,ad,y,t1,ap,W,w,P,N,O,p3,U,A,L,ll,M,f3,h7,B,s4,Y,X,bf,bp,bl,Bl]
def QC(h:RH):List Str:=h.ps.map RP.nm
def ZD(h:RH)(p:RP):Option Nat:=if p.dn="sea" then uB else uA ((QC h).idxOf p.dn)
noncomputable def dN:Option Nat->D
 |none=>.KA
 |some d=>.int (d:Int)
theorem hZ{he:D}{G:DH}:∀(ps:List RP)(k:Nat)(x:Str)(s2 s3:Option D),x∈ps.map RP.nm->Aw (Bm 2 (Ah (gV 2) (Ah (gV 3) Bq))) Kr (((ps.map RP.enc).zipIdx k).map λ(x,i)=>.tup [.int (i:Int),x]) [uA he,zS x,s2,s3] G=.rt (.int ((k+(ps.map RP.nm).idxOf x:Nat):Int)) G
 |[],_,x,_,_,h=>by simp at h
 | p::ps,k,x,s2,s3,h=>by
  rw[zY,jJ,zY,Dc];by_cases e:p.nm=x
  .have a:Kr [uA he,zS x,zI (k:Int),uA p.enc] G=.rt (.int (k:Int)) G:=by unfold Kr;simp[e]
   simp[a,e]
  have a:Kr [uA he,zS x,zI (k:Int),uA p.enc] G=.nx [uA he,zS x,zI (k:Int),uA p.enc] G:=by unfold Kr;simp[e]
  have c:x∈ps.map RP.nm:=by
   rcases zw.mp h with z|z
   .exact absurd z.symm e
   exact z
  have b:k+List.idxOf x (p.nm::ps.map RP.nm)=k+1+List.idxOf x (ps.map RP.nm):=by rw[List.idxOf_cons,show(p.nm==x)=uD by simp[e]];simp;lia
  rw[zY,b];simp[a];simpa using(hZ (he:=he) (G:=G) ps (k+1) x (zI (k:Int)) (uA p.enc) c)
def h8{x:Str}(e:x∈QC h)(G:DH):P0 [h.enc,.str x] G=.ok (.int ((QC h).idxOf x:Nat)) G:=by
 have b:=hZ (he:=h.enc) (G:=G) h.ps 0 x uB uB e;rw[qS]at b;have a:Aw (Bm 2 (Ah (gV 2) (Ah (gV 3) Bq))) Kr (El (h.ps.map RP.enc)) [uA h.enc,zS x,uB,uB] G=.rt (.int ((QC h).idxOf x:Nat)) G:=b;have d:∀G,Af h.enc (.int 1) G=.ok (.tup (h.ps.map RP.enc)) G:=λG=>Dw
 generalize h.ps.map RP.enc=Y,(QC h).idxOf x=f,h.enc=c at*;unfold P0 eO;rw[Al];simp[d,Er,I8,lenOf,a,Bl]
def PG.mem(g:HG h)(hp:h.ps[k]?=uA p):p.dn="sea"\/p.dn∈QC h:=by
 obtain⟨j,_,e⟩:=(g.pg k p hp).dn;rcases qJ.mp (zP e)with z|z
 .exact .inr z
 exact .inl (by simpa using z)
def C7(g:HG h)(hp:h.ps[k]?=uA p)(G:DH):Qk [h.enc,.int (k:Int)] G=.ok (dN (ZD h p)) G:=by
 have c:∀G,Af h.enc (.int 1) G=.ok (.tup (h.ps.map RP.enc)) G:=λG=>Dw
 have a:=Hq hp;have b:∀G,Af p.enc (.int 2) G=.ok (.str p.dn) G:=λG=>ZQ
 unfold ZD dN;by_cases hs:p.dn="sea"
 .rw[if_pos hs];rw[hs]at b;generalize h.ps.map RP.enc=Y,p.enc=f,h.enc=e at*;unfold Qk Xq;rw[Al];simp[c,a,b,Bl]
 rw[if_neg hs];have d:=λG=>h8 ((PG.mem g hp).resolve_left hs) G
 generalize(QC h).idxOf p.dn=i,h.ps.map RP.enc=Y,p.enc=f,h.enc=e at*;unfold Qk Xq;rw[Al];simp[c,a,b,hs,d,Bl]
def Az(n T w:Nat):Option Nat->Nat
 |none=>T*n
 |some d=>if T<=w then T*n else w*n+d
noncomputable abbrev Spot:=Nat×Nat×Nat
noncomputable def Ci(s:Spot):D:=.tup [.int (s.1:Int),.int (s.2.1:Int),.int (s.2.2:Int)]
theorem C8{s:Spot}:QB n (Ci s)=uC:=rfl
def ZJ(h:RH)(T g:Nat):List (Str×D):=[("house",h.enc),("turns",.int (T:Int)),("arcs",.ref (g+1)),("spots",.ref (g+2))]
def hD(G:DH)(h:RH)(T:Nat)(as:List ZA)(ss:List Spot):DH:=G++[.ins "Draft" (ZJ h T (lN G)),.lst (as.map JB),.lst (ss.map Ci)]
section
variable{G:DH}{h:RH}{T:Nat}{as:List ZA}{ss:List Spot}
def IT:(hD G h T as ss)[lN G]?=uA (.ins "Draft" (ZJ h T (lN G))):=by unfold hD;rw[Dy];rfl
def W?:(hD G h T as ss)[lN G+1]?=uA (.lst (as.map JB)):=by unfold hD;rw[G8];rfl
def X?:(hD G h T as ss)[lN G+2]?=uA (.lst (ss.map Ci)):=by unfold hD;rw[G8];rfl
def Ts{bs:List ZA}:(hD G h T as ss).set (lN G+1) (.lst (bs.map JB))=hD G h T bs ss:=by unfold hD;rw[Ht];rfl
def Xs{ts:List Spot}:(hD G h T as ss).set (lN G+2) (.lst (ts.map Ci))=hD G h T as ts:=by unfold hD;rw[Ht];rfl
def WL:lN (hD G h T as ss)=lN G+3:=by simp[hD]
def fH:Cr "Draft" "house" (.ref (lN G)) (hD G h T as ss)=.ok h.enc (hD G h T as ss):=De IT rfl
def fT:Cr "Draft" "turns" (.ref (lN G)) (hD G h T as ss)=.ok (.int (T:Int)) (hD G h T as ss):=De IT rfl
def fA:Cr "Draft" "arcs" (.ref (lN G)) (hD G h T as ss)=.ok (.ref (lN G+1)) (hD G h T as ss):=De IT rfl
def fS:Cr "Draft" "spots" (.ref (lN G)) (hD G h T as ss)=.ok (.ref (lN G+2)) (hD G h T as ss):=De IT rfl
def mD{m:Str}{F:List D->DH->R D}{t:DA}(a:(ZJ h T (lN G)).lookup m=uB):Hs "Draft" m F t S (.ref (lN G)) (hD G h T as ss)=(t S (hD G h T as ss)).bind λds b=>F (.ref (lN G)::ds) b:=Sq IT a
theorem Ol(n:lN h.ps<=100)(o:T<=100)(hw:w<=1000)(d:Option Nat):Dp [.ref (lN G),.int (w:Int),dN d] (hD G h T as ss)=.ok (.int (Az (lN h.ps) T w d:Nat)) (hD G h T as ss):=by
 have f:∀G,Af h.enc (.int 1) G=.ok (.tup (h.ps.map RP.enc)) G:=λG=>Dw
 have b:∀G,Aq [.tup (h.ps.map RP.enc)] G=.ok (.int (lN h.ps:Int)) G:=λG=>by simp
 have i:∀G,Bu (.int (T:Int)) (.int (lN h.ps:Int)) G=.ok (.int ((T:Int)*(lN h.ps:Int))) G:=λG=>Ds (by lia) (by lia)
 have k:∀G,Bu (.int (w:Int)) (.int (lN h.ps:Int)) G=.ok (.int ((w:Int)*(lN h.ps:Int))) G:=λG=>Ds (by lia) (by lia)
 have c:=fH (G:=G) (h:=h) (T:=T) (as:=as) (ss:=ss);have e:=fT (G:=G) (h:=h) (T:=T) (as:=as) (ss:=ss);have j:(((T*lN h.ps:Nat)):Int)=(T:Int)*(lN h.ps:Int):=jW ..;have l:∀d:Nat,(((w*lN h.ps+d:Nat)):Int)=(w:Int)*(lN h.ps:Int)+(d:Int):=λd=>by rw[jG,jW]
 generalize hD G h T as ss=H,h.ps.map RP.enc=Y,h.enc=m at*;unfold Az;cases d with
 |none=>
  rw[j];unfold Dp Q5 dN;rw[Al];simp[c,e,f,b,i,Cy,Bl]
 | some d=>
  dsimp only;by_cases a:T<=w
  .have g:(T:Int)<=(w:Int):=by lia
   rw[if_pos a,j];unfold Dp Q5 dN;rw[Al];simp[c,e,f,b,i,Cy,a,g,Bl]
  rw[if_neg a,l];unfold Dp Q5 dN;rw[Al];simp[c,e,f,b,k,Cy,a,by omega,Bl]
def T8(n:lN h.ps<=100)(r:T<=100)(hw:w<T)(e:Nat)(mo:Option Int)(ga:Int)(C:lN as<1000)(hs:lN ss<1000):
  Hd [.ref (lN G),Ci (w,k,q),.int (e:Int),VA mo,.int ga] (hD G h T as ss)=.ok .KA (hD G h T (as++[⟨w*lN h.ps+k,e,mo,ga⟩]) (ss++[(w,k,q)])):=by
 have hk:=Ol (G:=G) (as:=as) (ss:=ss) n r (w:=w) (by lia) (uA k);have v:Az (lN h.ps) T w (uA k)=w*lN h.ps+k:=by unfold Az;exact if_neg (by lia)
 rw[v]at hk;unfold dN at hk;dsimp only at hk;have s:=λt S=>mD (G:=G) (h:=h) (T:=T) (as:=as) (ss:=ss) (m:="node_at") (F:=Dp) (t:=t) (S:=S) rfl
 have u:=fA (G:=G) (h:=h) (T:=T) (as:=as) (ss:=ss);have d:lN (as.map JB)<1000000:=by rw[zq];lia
 have c:lN (ss.map Ci)<1000000:=by rw[zq];lia
 have l:=W? (G:=G) (h:=h) (T:=T) (as:=as) (ss:=ss);have i:(hD G h T as ss).set (lN G+1) (.lst (as.map JB++[JB ⟨w*lN h.ps+k,e,mo,ga⟩]))=hD G h T (as++[⟨w*lN h.ps+k,e,mo,ga⟩]) ss:=by have:=Ts (G:=G) (h:=h) (T:=T) (as:=as) (ss:=ss) (bs:=as++[⟨w*lN h.ps+k,e,mo,ga⟩]);rwa[qx,zY,qy]at this
 have o:=fS (G:=G) (h:=h) (T:=T) (as:=as++[⟨w*lN h.ps+k,e,mo,ga⟩]) (ss:=ss);have p:=X? (G:=G) (h:=h) (T:=T) (as:=as++[⟨w*lN h.ps+k,e,mo,ga⟩]) (ss:=ss);have g:(hD G h T (as++[⟨w*lN h.ps+k,e,mo,ga⟩]) ss).set (lN G+2) (.lst (ss.map Ci++[Ci (w,k,q)]))=hD G h T (as++[⟨w*lN h.ps+k,e,mo,ga⟩]) (ss++[(w,k,q)]):=by have:=Xs (G:=G) (h:=h) (T:=T) (as:=as++[⟨w*lN h.ps+k,e,mo,ga⟩]) (ss:=ss) (ts:=ss++[(w,k,q)]);rwa[qx,zY,qy]at this
 have j:tidy (hD G h T as ss) (.ok .KA (hD G h T (as++[⟨w*lN h.ps+k,e,mo,ga⟩]) (ss++[(w,k,q)])))=.ok .KA (hD G h T (as++[⟨w*lN h.ps+k,e,mo,ga⟩]) (ss++[(w,k,q)])):=Hr (by rw[WL,WL]) rfl;have x:∀(A:ZA)(H:DH),tidy H (.ok (JB A) H)=.ok (JB A) H:=λA H=>Bl A8
 have y:∀(A:Spot)(H:DH),tidy H (.ok (Ci A) H)=.ok (Ci A) H:=λA H=>Bl C8
 have z:JB ⟨w*lN h.ps+k,e,mo,ga⟩=.tup [.int ((w*lN h.ps+k:Nat):Int),.int (e:Int),VA mo,.int ga]:=rfl;have f:Ci (w,k,q)=.tup [.int (w:Int),.int (k:Int),.int (q:Int)]:=rfl;have b:=x ⟨w*lN h.ps+k,e,mo,ga⟩;have a:=y (w,k,q);rw[z]at i b;rw[f]at g a;rw[f];generalize hD G h T (as++[⟨w*lN h.ps+k,e,mo,ga⟩]) (ss++[(w,k,q)])=B,hD G h T (as++[⟨w*lN h.ps+k,e,mo,ga⟩]) ss=E,hD G h T as ss=K,as.map JB=J,ss.map Ci=I,((w*lN h.ps+k:Nat):Int)=L,VA mo=M at*
 unfold Hd eN;rw[Al];simp[s,hk,u,l,i,d,b,o,p,g,c,a,j]
end
def LC(h:RH)(T w k:Nat)(p:RP)(mo:Option Int)(ga:Int):ZA:=⟨w*lN h.ps+k,Az (lN h.ps) T (w+p.dl.toNat) (ZD h p),mo,ga⟩
def PL(h:RH)(T w k:Nat)(pay:Int):Option (Str×Int×Int)->List ZA
 |none=>[]
 |some (t,d,m)=>[⟨w*lN h.ps+k,Az (lN h.ps) T (w+d.toNat) (uA ((QC h).idxOf t)),uA m,-pay⟩]
def UC(h:RH)(T w k:Nat)(pay left:Int)(p:RP):List ZA:=match p.kd with
 |.XC a _=>[⟨w*lN h.ps+k,Az (lN h.ps) T w uB,uA a,pay⟩,LC h T w k p uB 0]
 |.YC a=>[LC h T w k p (uA a) pay,LC h T w k p uB 0]
 |.OA b _ q=>LC h T w k p uB 0::PL h T w k pay q++[⟨w*lN h.ps+k,Az (lN h.ps) T (w+1) (uA k),uA b,if w+1=T then left else 0⟩]
def HR(w k:Nat):Option (Str×Int×Int)->List Spot
 |none=>[]
 |some _=>[(w,k,4)]
def UD(w k:Nat)(p:RP):List Spot:=match p.kd with
 |.XC _ _=>[(w,k,1),(w,k,3)]
 |.YC _=>[(w,k,3),(w,k,3)]
 |.OA _ _ q=>(w,k,3)::HR w k q++[(w,k,5)]
section
variable{G:DH}{h:RH}{T:Nat}{as:List ZA}{ss:List Spot}{w k:Nat}{p:RP}
def Ub(g:HG h)(l:lN h.ps<=100)(n:T<=100)(hw:w<T)(hp:h.ps[k]?=uA p)(mo:Option Int)(ga:Int)(x:lN as<1000)(hs:lN ss<1000):
  Ha [.ref (lN G),.int (w:Int),.int (k:Int),VA mo,.int ga] (hD G h T as ss)=.ok .KA (hD G h T (as++[LC h T w k p mo ga]) (ss++[(w,k,3)])):=by
 have M:=(g.pg k p hp).dl;obtain⟨b,j⟩:∃b:Nat,p.dl=b:=⟨p.dl.toNat,by lia⟩;have f:p.dl.toNat=b:=by lia
 have z:∀G,Af h.enc (.int 1) G=.ok (.tup (h.ps.map RP.enc)) G:=λG=>Dw
 have a:=Hq hp;have v:∀G,Af p.enc (.int 3) G=.ok (.int (b:Int)) G:=λG=>by rw[GR,j]
 have i:=C7 g hp (hD G h T as ss);have c:Dp [.ref (lN G),.int ((w:Int)+(b:Int)),dN (ZD h p)] (hD G h T as ss)=.ok (.int (Az (lN h.ps) T (w+b) (ZD h p):Nat)) (hD G h T as ss):=by rw[<-jG];exact Ol (G:=G) (as:=as) (ss:=ss) l n (w:=w+b) (by lia) (ZD h p)
 have d:=T8 (G:=G) l n (k:=k) (q:=3) hw (Az (lN h.ps) T (w+b) (ZD h p)) mo ga x hs;have o:=λ(m:Str)(y:(ZJ h T (lN G)).lookup m=uB)F t S=>mD (as:=as) (ss:=ss) (F:=F) (t:=t) (S:=S) y
 have r:=o "node_at" rfl Dp;have C:=o "draw" rfl Hd;have B:=fH (G:=G) (h:=h) (T:=T) (as:=as) (ss:=ss);have A:(⟨w*lN h.ps+k,Az (lN h.ps) T (w+b) (ZD h p),mo,ga⟩:ZA)=LC h T w k p mo ga:=by unfold LC;rw[f]
 rw[A]at d;have u:tidy (hD G h T as ss) (.ok .KA (hD G h T (as++[LC h T w k p mo ga]) (ss++[(w,k,3)])))=.ok .KA (hD G h T (as++[LC h T w k p mo ga]) (ss++[(w,k,3)])):=Hr (by rw[WL,WL]) rfl;have s:Ci (w,k,3)=.tup [.int (w:Int),.int (k:Int),.int 3]:=rfl;rw[s]at d;generalize hD G h T (as++[LC h T w k p mo ga]) (ss++[(w,k,3)])=H,hD G h T as ss=I,Az (lN h.ps) T (w+b) (ZD h p)=e,dN (ZD h p)=E,VA mo=L,p.enc=J,h.ps.map RP.enc=Y,h.enc=K at*
 unfold Ha eQ;rw[Al];simp[B,z,a,v,i,r,c,C,d,u]
def C9(g:HG h)(d:lN h.ps<=100)(f:T<=100)(hw:w<T)(hp:h.ps[k]?=uA p){b:Int}(c:p.kd=.XC b x)(pay:Int)(H:lN as<900)(hs:lN ss<900):
  N8 [.ref (lN G),.int (w:Int),.int (k:Int),.int pay] (hD G h T as ss)=.ok .KA (hD G h T (as++UC h T w k pay 0 p) (ss++UD w k p)):=by
 have v:∀G,Af h.enc (.int 1) G=.ok (.tup (h.ps.map RP.enc)) G:=λG=>Dw
 have a:=Hq hp;have s:∀G,Af p.enc (.int 4) G=.ok (.int b) G:=λG=>by unfold RP.enc RP.row RK.rest;rw[c];simp
 have hk:=Ol (G:=G) (as:=as) (ss:=ss) d f (w:=w) (by lia) uB;have j:=T8 (G:=G) (as:=as) (ss:=ss) d f (k:=k) (q:=1) hw (Az (lN h.ps) T w uB) (uA b) pay (by lia) (by lia);have l:=Ub (G:=G) (as:=as++[⟨w*lN h.ps+k,Az (lN h.ps) T w uB,uA b,pay⟩]) (ss:=ss++[(w,k,1)]) g d f hw hp uB 0 (by simp;lia) (by simp;lia);have n:=λt S=>mD (G:=G) (h:=h) (T:=T) (as:=as) (ss:=ss) (m:="node_at") (F:=Dp) (t:=t) (S:=S) rfl
 have A:=λt S=>mD (G:=G) (h:=h) (T:=T) (as:=as) (ss:=ss) (m:="draw") (F:=Hd) (t:=t) (S:=S) rfl
 have u:=λt S=>mD (G:=G) (h:=h) (T:=T) (as:=as++[⟨w*lN h.ps+k,Az (lN h.ps) T w uB,uA b,pay⟩]) (ss:=ss++[(w,k,1)]) (m:="draw_river") (F:=Ha) (t:=t) (S:=S) rfl
 have z:=fH (G:=G) (h:=h) (T:=T) (as:=as) (ss:=ss);have C:as++UC h T w k pay 0 p=as++[⟨w*lN h.ps+k,Az (lN h.ps) T w uB,uA b,pay⟩]++[LC h T w k p uB 0]:=by unfold UC;rw[c];simp
 have i:ss++UD w k p=ss++[(w,k,1)]++[(w,k,3)]:=by unfold UD;rw[c];simp
 rw[C,i];have r:tidy (hD G h T as ss) (.ok .KA (hD G h T (as++[⟨w*lN h.ps+k,Az (lN h.ps) T w uB,uA b,pay⟩]++[LC h T w k p uB 0]) (ss++[(w,k,1)]++[(w,k,3)])))=.ok .KA (hD G h T (as++[⟨w*lN h.ps+k,Az (lN h.ps) T w uB,uA b,pay⟩]++[LC h T w k p uB 0]) (ss++[(w,k,1)]++[(w,k,3)])):=Hr (by rw[WL,WL]) rfl;have o:Ci (w,k,1)=.tup [.int (w:Int),.int (k:Int),.int 1]:=rfl;rw[o]at j
 unfold dN at hk;dsimp only at hk;have y:VA (uA b)=.int b:=rfl;have B:VA uB=.KA:=rfl;rw[y]at j;rw[B]at l;generalize hD G h T (as++[⟨w*lN h.ps+k,Az (lN h.ps) T w uB,uA b,pay⟩]++[LC h T w k p uB 0]) (ss++[(w,k,1)]++[(w,k,3)])=E,hD G h T (as++[⟨w*lN h.ps+k,Az (lN h.ps) T w uB,uA b,pay⟩]) (ss++[(w,k,1)])=I,hD G h T as ss=J at*;generalize Az (lN h.ps) T w uB=e,p.enc=K,h.ps.map RP.enc=Y,h.enc=L at*
 unfold N8 eU;rw[Al];simp[z,v,a,s,n,hk,A,j,u,l,r]
def Cb(g:HG h)(e:lN h.ps<=100)(f:T<=100)(hw:w<T)(hp:h.ps[k]?=uA p){mo:Int}(b:p.kd=.YC mo)(pay:Int)(y:lN as<900)(hs:lN ss<900):
  Pk [.ref (lN G),.int (w:Int),.int (k:Int),.int pay] (hD G h T as ss)=.ok .KA (hD G h T (as++UC h T w k pay 0 p) (ss++UD w k p)):=by
 have o:∀G,Af h.enc (.int 1) G=.ok (.tup (h.ps.map RP.enc)) G:=λG=>Dw
 have a:=Hq hp;have l:∀G,Af p.enc (.int 4) G=.ok (.int mo) G:=λG=>by unfold RP.enc RP.row RK.rest;rw[b];simp
 have i:=Ub (G:=G) (as:=as) (ss:=ss) g e f hw hp (uA mo) pay (by lia) (by lia);have d:=Ub (G:=G) (as:=as++[LC h T w k p (uA mo) pay]) (ss:=ss++[(w,k,3)]) g e f hw hp uB 0 (by simp;lia) (by simp;lia);have s:=λt S=>mD (G:=G) (h:=h) (T:=T) (as:=as) (ss:=ss) (m:="draw_river") (F:=Ha) (t:=t) (S:=S) rfl
 have n:=λt S=>mD (G:=G) (h:=h) (T:=T) (as:=as++[LC h T w k p (uA mo) pay]) (ss:=ss++[(w,k,3)]) (m:="draw_river") (F:=Ha) (t:=t) (S:=S) rfl
 have r:=fH (G:=G) (h:=h) (T:=T) (as:=as) (ss:=ss);have v:as++UC h T w k pay 0 p=as++[LC h T w k p (uA mo) pay]++[LC h T w k p uB 0]:=by unfold UC;rw[b];simp
 have c:ss++UD w k p=ss++[(w,k,3)]++[(w,k,3)]:=by unfold UD;rw[b];simp
 rw[v,c];have j:tidy (hD G h T as ss) (.ok .KA (hD G h T (as++[LC h T w k p (uA mo) pay]++[LC h T w k p uB 0]) (ss++[(w,k,3)]++[(w,k,3)])))=.ok .KA (hD G h T (as++[LC h T w k p (uA mo) pay]++[LC h T w k p uB 0]) (ss++[(w,k,3)]++[(w,k,3)])):=Hr (by rw[WL,WL]) rfl;have q:VA (uA mo)=.int mo:=rfl;have u:VA uB=.KA:=rfl;rw[q]at i;rw[u]at d;generalize hD G h T (as++[LC h T w k p (uA mo) pay]++[LC h T w k p uB 0]) (ss++[(w,k,3)]++[(w,k,3)])=x,hD G h T (as++[LC h T w k p (uA mo) pay]) (ss++[(w,k,3)])=z,hD G h T as ss=A,p.enc=B,h.ps.map RP.enc=Y,h.enc=C at*
 unfold Pk eR;rw[Al];simp[r,o,a,l,s,i,n,d,j]
end
section
variable{G:DH}{h:RH}{T:Nat}{as:List ZA}{ss:List Spot}{w k:Nat}{p:RP}
def QP(h:RH)(T w k:Nat)(b left:Int):ZA:=⟨w*lN h.ps+k,Az (lN h.ps) T (w+1) (uA k),uA b,if w+1=T then left else 0⟩
theorem Cc(g:HG h)(B:lN h.ps<=100)(I:T<=100)(hw:w<T)(hp:h.ps[k]?=uA p){b:Int}{r:List WS}{q:Option (Str×Int×Int)}(c:p.kd=.OA b r q)(pay left:Int)(ha:lN as<900)(hs:lN ss<900):
  M9 [.ref (lN G),.int (w:Int),.int (k:Int),.int pay,.int left] (hD G h T as ss)=.ok .KA (hD G h T (as++UC h T w k pay left p) (ss++UD w k p)):=by
 have N:∀G,Af h.enc (.int 1) G=.ok (.tup (h.ps.map RP.enc)) G:=λG=>Dw
 have a:=Hq hp;have M:∀G,Af p.enc (.int 4) G=.ok (.int b) G:=λG=>by unfold RP.enc RP.row RK.rest;rw[c];simp
 have v:∀G,Af p.enc (.int 6) G=.ok (OL q) G:=λG=>by unfold RP.enc RP.row RK.rest;rw[c];simp
 have en:VA uB=.KA:=rfl;have em:∀m:Int,VA (uA m)=.int m:=λ_=>rfl
 have J:=Ub (G:=G) (as:=as) (ss:=ss) g B I hw hp uB 0 (by lia) (by lia);rw[en]at J;have O:=λas ss=>fH (G:=G) (h:=h) (T:=T) (as:=as) (ss:=ss)
 have eT:=λas ss=>fT (G:=G) (h:=h) (T:=T) (as:=as) (ss:=ss)
 have mr:=λas ss t S=>mD (G:=G) (h:=h) (T:=T) (as:=as) (ss:=ss) (m:="draw_river") (F:=Ha) (t:=t) (S:=S) rfl
 have W:=λas ss t S=>mD (G:=G) (h:=h) (T:=T) (as:=as) (ss:=ss) (m:="node_at") (F:=Dp) (t:=t) (S:=S) rfl
 have Z:=λas ss t S=>mD (G:=G) (h:=h) (T:=T) (as:=as) (ss:=ss) (m:="draw") (F:=Hd) (t:=t) (S:=S) rfl
 have s:((w:Int)=(T:Int)-1)=(w+1=T):=by simp;lia
 have o:∀(bs:List ZA)(f:List Spot),lN bs<1000->lN f<1000->Dp [.ref (lN G),.int ((w:Int)+1),.int (k:Int)] (hD G h T bs f)=.ok (.int (Az (lN h.ps) T (w+1) (uA k):Nat)) (hD G h T bs f)/\
   Hd [.ref (lN G),.tup [.int (w:Int),.int (k:Int),.int 5],.int (Az (lN h.ps) T (w+1) (uA k):Nat),.int b,.int (if w+1=T then left else 0)] (hD G h T bs f)=.ok .KA (hD G h T (bs++[QP h T w k b left]) (f++[(w,k,5)])):=λbs f hb ht=>by
  exact⟨by rw[<-show((w+1:Nat):Int)=(w:Int)+1 by lia];exact(Ol (G:=G) (as:=bs) (ss:=f) B I (w:=w+1) (by lia) (uA k)),T8 (G:=G) (as:=bs) (ss:=f) B I (w:=w) (k:=k) (q:=5) hw (Az (lN h.ps) T (w+1) (uA k)) (uA b) (if w+1=T then left else 0) hb ht⟩
 have C:∀(bs:List ZA)(f:List Spot),tidy (hD G h T as ss) (.ok .KA (hD G h T bs f))=.ok .KA (hD G h T bs f):=λbs f=>Hr (by rw[WL,WL]) rfl
 cases q with
 |none=>
  have j:=o (as++[LC h T w k p uB 0]) (ss++[(w,k,3)]) (by simp;lia) (by simp;lia);have eA:as++UC h T w k pay left p=as++[LC h T w k p uB 0]++[QP h T w k b left]:=by unfold UC QP;rw[c];simp[PL]
  have u:ss++UD w k p=ss++[(w,k,3)]++[(w,k,5)]:=by unfold UD;rw[c];simp[HR]
  rw[eA,u];have U:OL uB=.KA:=rfl;rw[U]at v;have K:=O as ss;have P:=O (as++[LC h T w k p uB 0]) (ss++[(w,k,3)]);have L:=eT (as++[LC h T w k p uB 0]) (ss++[(w,k,3)]);have E:=mr as ss;have H:=W (as++[LC h T w k p uB 0]) (ss++[(w,k,3)]);have z:=Z (as++[LC h T w k p uB 0]) (ss++[(w,k,3)]);have y:=C (as++[LC h T w k p uB 0]++[QP h T w k b left]) (ss++[(w,k,3)]++[(w,k,5)])
  obtain⟨j,l⟩:=j;generalize hD G h T (as++[LC h T w k p uB 0]++[QP h T w k b left]) (ss++[(w,k,3)]++[(w,k,5)])=H3,hD G h T (as++[LC h T w k p uB 0]) (ss++[(w,k,3)])=H2,hD G h T as ss=H1,Az (lN h.ps) T (w+1) (uA k)=e,p.enc=pe,h.ps.map RP.enc=Y,h.enc=he at*;unfold M9 W3;rw[Al];by_cases i:w+1=T
  .simp only[i,if_true]at l s;simp[K,N,a,E,J,v,Cy,L,H,j,M,z,l,y,s,i]
  simp[i,if_false]at l s;simp[K,N,a,E,J,v,Cy,L,H,j,M,z,l,y,s,i]
 |some X=>
  obtain⟨t,d,m⟩:=X;have kg:=(g.pg k p hp).kd;rw[c]at kg;obtain⟨X,tb,tp⟩:=kg.2 t d m rfl;obtain⟨dn,edn⟩:∃dn:Nat,d=dn:=⟨d.toNat,by lia⟩;have Q:d.toNat=dn:=by lia
  have n:=λG=>h8 X G
  have hk:=Ol (G:=G) (as:=as++[LC h T w k p uB 0]) (ss:=ss++[(w,k,3)]) B I (w:=w+dn) (by lia) (uA ((QC h).idxOf t));have x:Dp [.ref (lN G),.int ((w:Int)+(dn:Int)),.int ((QC h).idxOf t:Nat)] (hD G h T (as++[LC h T w k p uB 0]) (ss++[(w,k,3)]))=.ok (.int (Az (lN h.ps) T (w+dn) (uA ((QC h).idxOf t)):Nat)) (hD G h T (as++[LC h T w k p uB 0]) (ss++[(w,k,3)])):=by rw[<-jG];exact hk
  have A:=T8 (G:=G) (as:=as++[LC h T w k p uB 0]) (ss:=ss++[(w,k,3)]) B I (k:=k) (q:=4) hw (Az (lN h.ps) T (w+dn) (uA ((QC h).idxOf t))) (uA m) (-pay) (by simp;lia) (by simp;lia);rw[em]at A;have eS:Ci (w,k,4)=.tup [.int (w:Int),.int (k:Int),.int 4]:=rfl;rw[eS]at A;have eP:PL h T w k pay (uA (t,d,m))=[⟨w*lN h.ps+k,Az (lN h.ps) T (w+dn) (uA ((QC h).idxOf t)),uA m,-pay⟩]:=by unfold PL;dsimp only;rw[Q]
  have j:=o (as++[LC h T w k p uB 0]++PL h T w k pay (uA (t,d,m))) (ss++[(w,k,3)]++[(w,k,4)]) (by simp[eP];lia) (by simp;lia);rw[<-eP]at A;have eA:as++UC h T w k pay left p=as++[LC h T w k p uB 0]++PL h T w k pay (uA (t,d,m))++[QP h T w k b left]:=by unfold UC QP;rw[c];simp
  have u:ss++UD w k p=ss++[(w,k,3)]++[(w,k,4)]++[(w,k,5)]:=by unfold UD;rw[c];simp[HR]
  rw[eA,u];have U:OL (uA (t,d,m))=.tup [.str t,.int (dn:Int),.int m]:=by rw[edn];rfl
  rw[U]at v;have K:=O as ss;have P:=O (as++[LC h T w k p uB 0]) (ss++[(w,k,3)]);have L:=eT (as++[LC h T w k p uB 0]++PL h T w k pay (uA (t,d,m))) (ss++[(w,k,3)]++[(w,k,4)]);have E:=mr as ss;have H:=W (as++[LC h T w k p uB 0]) (ss++[(w,k,3)]);have z:=Z (as++[LC h T w k p uB 0]) (ss++[(w,k,3)]);have y2:=W (as++[LC h T w k p uB 0]++PL h T w k pay (uA (t,d,m))) (ss++[(w,k,3)]++[(w,k,4)])
  have y3:=Z (as++[LC h T w k p uB 0]++PL h T w k pay (uA (t,d,m))) (ss++[(w,k,3)]++[(w,k,4)]);have y:=C (as++[LC h T w k p uB 0]++PL h T w k pay (uA (t,d,m))++[QP h T w k b left]) (ss++[(w,k,3)]++[(w,k,4)]++[(w,k,5)]);obtain⟨j,l⟩:=j;generalize hD G h T (as++[LC h T w k p uB 0]++PL h T w k pay (uA (t,d,m))++[QP h T w k b left]) (ss++[(w,k,3)]++[(w,k,4)]++[(w,k,5)])=H4,hD G h T (as++[LC h T w k p uB 0]++PL h T w k pay (uA (t,d,m))) (ss++[(w,k,3)]++[(w,k,4)])=H3,hD G h T (as++[LC h T w k p uB 0]) (ss++[(w,k,3)])=H2,hD G h T as ss=H1,Az (lN h.ps) T (w+1) (uA k)=e,Az (lN h.ps) T (w+dn) (uA ((QC h).idxOf t))=e',(QC h).idxOf t=ix,p.enc=pe,h.ps.map RP.enc=Y,h.enc=he at*
  unfold M9 W3;rw[Al];by_cases i:w+1=T
  .simp only[i,if_true]at l s;simp[K,N,a,E,J,v,Cy,P,n,H,x,z,A,L,y2,j,M,y3,l,y,s,i]
  simp[i,if_false]at l s;simp[K,N,a,E,J,v,Cy,P,n,H,x,z,A,L,y2,j,M,y3,l,y,s,i]
end
def ME(h:RH)(T w:Nat)(pay left:List Int):Nat->List RP->List ZA
 |_,[]=>[]
 |k,p::ps=>UC h T w k (Aa pay k) (Aa left k) p++ME h T w pay left (k+1) ps
def ND(w:Nat):Nat->List RP->List Spot
 |_,[]=>[]
 |k,p::ps=>UD w k p++ND w (k+1) ps
def MD(h:RH)(T:Nat)(left:List Int):Nat->List (List Int)->List ZA
 |_,[]=>[]
 |w,y::ys=>ME h T w y left 0 h.ps++MD h T left (w+1) ys
def ZC(h:RH):Nat->Nat->List Spot
 |_,0=>[]
 |w,m+1=>ND w 0 h.ps++ZC h (w+1) m
theorem Vu{left:Int}:lN (UC h T w k pay left p)<=3/\lN (UC h T w k pay left p)=lN (UD w k p):=by
 unfold UC UD;cases p.kd with
 |OA b r q=>cases q<;>simp[PL,HR]
 |_=>simp
theorem Q7{h:RH}{T w:Nat}{pay left:List Int}:∀(ps:List RP)(k:Nat),lN (ME h T w pay left k ps)<=3*lN ps/\lN (ME h T w pay left k ps)=lN (ND w k ps)
 |[],_=>by simp[ME,ND]
 |p::ps,k=>by have b:=Vu (h:=h) (T:=T) (w:=w) (k:=k) (pay:=Aa pay k) (left:=Aa left k) (p:=p);have a:=Q7 (h:=h) (T:=T) (w:=w) (pay:=pay) (left:=left) ps (k+1);simp[ME,ND,zH,zE];lia
theorem R9{h:RH}{T:Nat}{left:List Int}:∀(ys:List (List Int))(w:Nat),lN (MD h T left w ys)<=3*lN h.ps*lN ys/\lN (MD h T left w ys)=lN (ZC h w (lN ys))
 |[],_=>by simp[MD,ZC]
 |y::ys,w=>by have b:=Q7 (h:=h) (T:=T) (w:=w) (pay:=y) (left:=left) h.ps 0;have a:=R9 (h:=h) (T:=T) (left:=left) ys (w+1);simp[MD,ZC,zH,zE];rw[Nat.mul_add];lia
def Q9(h:k<lN xs):Af (.tup (xs.map D.int)) (.int (k:Int)) G=.ok (.int (Aa xs k)) G:=by simp[La h]
section
variable{G:DH}{h:RH}{T:Nat}
theorem h9(g:HG h)(f:lN h.ps<=100)(j:T<=100){w:Nat}(hw:w<T){pay left:List Int}(hp:lN pay=lN h.ps)(M:lN left=lN h.ps):∀(ps:List RP)(k:Nat)(as:List ZA)(ss:List Spot)(s6 s7:Option D),h.ps.drop k=ps->lN as+3*lN ps<900->lN ss+3*lN ps<900->∃o u,
  Aw (Bm 2 (Ah (gV 6) (Ah (gV 7) Bq))) Lb (((ps.map RP.enc).zipIdx k).map λ(x,i)=>.tup [.int (i:Int),x]) [zR (lN G),uA h.enc,s2,zT (left.map D.int),zI (w:Int),zT (pay.map D.int),s6,s7] (hD G h T as ss)=
   .nx [zR (lN G),uA h.enc,s2,zT (left.map D.int),zI (w:Int),zT (pay.map D.int),o,u] (hD G h T (as++ME h T w pay left k ps) (ss++ND w k ps))
 |[],k,as,ss,s6,s7,_,_,_=>⟨s6,s7,by simp[ME,ND,Et]⟩
 | p::ps,k,as,ss,s6,s7,H,L,K=>by
  have hk:h.ps[k]?=uA p:=by have:=congrArg (λl=>l[0]?) H;simpa using this
  have I:=(zX.mp hk).1;have n:h.ps.drop (k+1)=ps:=by have:=congrArg (List.drop 1) H;simpa[vJ,xz]using this
  have W:=Vu (h:=h) (T:=T) (w:=w) (k:=k) (pay:=Aa pay k) (left:=Aa left k) (p:=p);simp[zE]at L K;obtain⟨o,u,O⟩:=h9 g f j hw hp M ps (k+1) (as++UC h T w k (Aa pay k) (Aa left k) p) (ss++UD w k p) (zI (k:Int)) (uA p.enc) n (by rw[zH];lia) (by rw[zH];lia);refine⟨o,u,?_⟩;have s:=λG=>Q9 (G:=G) (xs:=pay) (k:=k) (by lia)
  have U:=λG=>Q9 (G:=G) (xs:=left) (k:=k) (by lia)
  have e:∀G,Af p.enc (.int 0) G=.ok (.str p.kd.TF) G:=λG=>MI
  have Q:¬(("mill":Str)="town"):=by decide
  have J:¬(("basin":Str)="town"):=by decide
  have P:¬(("basin":Str)="mill"):=by decide
  have N:Lb [zR (lN G),uA h.enc,s2,zT (left.map D.int),zI (w:Int),zT (pay.map D.int),zI (k:Int),uA p.enc] (hD G h T as ss)=
    .nx [zR (lN G),uA h.enc,s2,zT (left.map D.int),zI (w:Int),zT (pay.map D.int),zI (k:Int),uA p.enc] (hD G h T (as++UC h T w k (Aa pay k) (Aa left k) p) (ss++UD w k p)):=by
   cases d:p.kd with
   |XC a b=>
    have c:=C9 (G:=G) (as:=as) (ss:=ss) g f j hw hk d (Aa pay k) (by lia) (by lia);have v:UC h T w k (Aa pay k) 0 p=UC h T w k (Aa pay k) (Aa left k) p:=by unfold UC;rw[d]
    rw[v]at c;have m:=λt S=>mD (G:=G) (h:=h) (T:=T) (as:=as) (ss:=ss) (m:="draw_town") (F:=N8) (t:=t) (S:=S) rfl
    rw[d]at e;unfold RK.TF at e;dsimp only at e;generalize hD G h T (as++UC h T w k (Aa pay k) (Aa left k) p) (ss++UD w k p)=y,hD G h T as ss=A,pay.map D.int=z,left.map D.int=E,p.enc=B,h.enc=C at*;unfold Lb;simp[e,s,m,c]
   |YC a=>
    have c:=Cb (G:=G) (as:=as) (ss:=ss) g f j hw hk d (Aa pay k) (by lia) (by lia);have v:UC h T w k (Aa pay k) 0 p=UC h T w k (Aa pay k) (Aa left k) p:=by unfold UC;rw[d]
    rw[v]at c;have m:=λt S=>mD (G:=G) (h:=h) (T:=T) (as:=as) (ss:=ss) (m:="draw_mill") (F:=Pk) (t:=t) (S:=S) rfl
    rw[d]at e;unfold RK.TF at e;dsimp only at e;generalize hD G h T (as++UC h T w k (Aa pay k) (Aa left k) p) (ss++UD w k p)=y,hD G h T as ss=A,pay.map D.int=z,left.map D.int=E,p.enc=B,h.enc=C at*;unfold Lb;simp[e,Q,s,m,c]
   |OA b r q=>
    have c:=Cc (G:=G) (as:=as) (ss:=ss) g f j hw hk d (Aa pay k) (Aa left k) (by lia) (by lia);have m:=λt S=>mD (G:=G) (h:=h) (T:=T) (as:=as) (ss:=ss) (m:="draw_basin") (F:=M9) (t:=t) (S:=S) rfl
    rw[d]at e;unfold RK.TF at e;dsimp only at e;generalize hD G h T (as++UC h T w k (Aa pay k) (Aa left k) p) (ss++UD w k p)=y,hD G h T as ss=A,pay.map D.int=z,left.map D.int=E,p.enc=B,h.enc=C at*;unfold Lb;simp[e,J,P,s,U,m,c]
  rw[zY,jJ,zY,Dc];simp[ME,ND];rw[<-qW,<-qW,<-O];simp[N]
theorem iA(g:HG h)(l:lN h.ps<=100)(n:T<=100){left:List Int}(m:lN left=lN h.ps){s2:Option D}:∀(ys:List (List Int))(w:Nat)(as:List ZA)(ss:List Spot)(s4 s5 s6 s7:Option D),w+lN ys=T->(∀y∈ys,lN y=lN h.ps)->lN as+3*lN h.ps*lN ys<900->lN ss+3*lN h.ps*lN ys<900->∃d b e f,
  Aw (Bm 2 (Ah (gV 4) (Ah (gV 5) Bq))) M8 (((PC ys).zipIdx w).map λ(x,i)=>.tup [.int (i:Int),x]) [zR (lN G),uA h.enc,s2,zT (left.map D.int),s4,s5,s6,s7] (hD G h T as ss)=
   .nx [zR (lN G),uA h.enc,s2,zT (left.map D.int),d,b,e,f] (hD G h T (as++MD h T left w ys) (ss++ZC h w (lN ys)))
 |[],w,as,ss,s4,s5,s6,s7,_,_,_,_=>⟨s4,s5,s6,s7,by simp[MD,ZC,PC,Et]⟩
 | y::ys,w,as,ss,s4,s5,s6,s7,hw,o,q,p=>by
  simp[zE,Nat.mul_add]at hw q p;have E:=Q7 (h:=h) (T:=T) (w:=w) (pay:=y) (left:=left) h.ps 0;obtain⟨k,j,r⟩:=h9 g l n (w:=w) (by lia) (o y (by simp)) m h.ps 0 as ss s6 s7 rfl (by lia) (by lia);obtain⟨d,b,e,f,u⟩:=iA g l n m (s2:=s2) ys (w+1) (as++ME h T w y left 0 h.ps) (ss++ND w 0 h.ps) (zI (w:Int)) (zT (y.map D.int)) k j (by lia) (λz t=>o z (zV _ t)) (by rw[zH];lia) (by rw[zH];lia)
  refine⟨d,b,e,f,?_⟩;have a:Aw (Bm 2 (Ah (gV 6) (Ah (gV 7) Bq))) Lb (El (h.ps.map RP.enc)) [zR (lN G),uA h.enc,s2,zT (left.map D.int),zI (w:Int),zT (y.map D.int),s6,s7] (hD G h T as ss)=_:=r;have c:∀G,Af h.enc (.int 1) G=.ok (.tup (h.ps.map RP.enc)) G:=λG=>Dw
  have s:M8 [zR (lN G),uA h.enc,s2,zT (left.map D.int),zI (w:Int),zT (y.map D.int),s6,s7] (hD G h T as ss)=
    .nx [zR (lN G),uA h.enc,s2,zT (left.map D.int),zI (w:Int),zT (y.map D.int),k,j] (hD G h T (as++ME h T w y left 0 h.ps) (ss++ND w 0 h.ps)):=by
   generalize hD G h T (as++ME h T w y left 0 h.ps) (ss++ND w 0 h.ps)=A,hD G h T as ss=B,y.map D.int=H,left.map D.int=F,h.ps.map RP.enc=Y,h.enc=C at*;unfold M8;simp[c,Er,I8,lenOf,a]
  have v:PC (y::ys)=.tup (y.map D.int)::PC ys:=rfl;rw[v,jJ,zY,Dc];simp[MD,ZC,zE];rw[<-qW,<-qW,<-u];simp[s]
end
def Cf{T:DH}{fs:List (Str×D)}{f:Str}(h:lN fs<1000):Jf "Draft" f (.ref (lN G)) d S (G++ .ins "Draft" fs::T)=.nx S (G++ .ins "Draft" (Gy f d fs)::T):=by
 rw[c8 (by simp) h,Ez]
 rfl
def Tv{T H':DH}{fs:List (Str×D)}{f:Str}{tv:DE}(e:tv S H=.ok d H')(b:S[0]?=uA (zR (lN G)))(a:H'=G++ .ins "Draft" fs::T)(h:lN fs<1000):Cm "Draft" (dV 0) tv f S H=.nx S (G++ .ins "Draft" (Gy f d fs)::T):=by
 have c:dV 0 S H'=.ok (.ref (lN G)) H':=by simp[b]
 rw[c7,e,R.Cq,c,R.Cq,a];exact Cf h
def Ch(g:HG h)(s:lN h.ps<=100)(w:lN GA<=100){left:List Int}(v:lN left=lN h.ps)(x:∀y∈GA,lN y=lN h.ps)(C:3*lN h.ps*lN GA<900)(G:DH):
  O9 [.ref (lN G),h.enc,.fl (PC GA),.tup (left.map D.int)] (G++[.ins "Draft" []])=.ok .KA (hD G h (lN GA) (MD h (lN GA) left 0 GA) (ZC h 0 (lN GA))):=by
 obtain⟨j,i,k,m,l⟩:=iA g s w v GA 0 [] [] uB uB uB uB (by lia) x (by simp;lia) (by simp;lia);rw[qH,qH]at l;let a:PB:=[zR (lN G),uA h.enc,zF (PC GA),zT (left.map D.int),uB,uB,uB,uB];have c:Aw (Bm 2 (Ah (gV 4) (Ah (gV 5) Bq))) M8 (El (PC GA)) a (hD G h (lN GA) [] [])=_:=l;have d:lN (PC GA)=lN GA:=by simp[PC]
 have A:Cm "Draft" (dV 0) (dV 1) "house" a (G++[.ins "Draft" []])=.nx a (G++[.ins "Draft" [("house",h.enc)]]):=Tv (fs:=[]) (by simp[a]) rfl rfl (by simp);have B:Cm "Draft" (dV 0) (IA Aq (Ak (dV 2) Ba)) "turns" a (G++[.ins "Draft" [("house",h.enc)]])=.nx a (G++[.ins "Draft" [("house",h.enc),("turns",.int (lN GA:Int))]]):=Tv (fs:=[("house",h.enc)]) (by simp[a,d]) rfl rfl (by simp);have t:Cm "Draft" (dV 0) (Bg (IA Ac Ba)) "arcs" a (G++[.ins "Draft" [("house",h.enc),("turns",.int (lN GA:Int))]])=.nx a (G++[.ins "Draft" [("house",h.enc),("turns",.int (lN GA:Int)),("arcs",.ref (lN G+1))],.lst []]):=by
  have e:D.ref (lN (G++[DO.ins "Draft" [("house",h.enc),("turns",.int (lN GA:Int))]]))=.ref (lN G+1):=by simp
  have:=Tv (f:="arcs") (fs:=[("house",h.enc),("turns",.int (lN GA:Int))]) (T:=[.lst []]) (X3 (S:=a) (H:=G++[.ins "Draft" [("house",h.enc),("turns",.int (lN GA:Int))]])) rfl (by simp) (by simp);rw[e]at this;exact this
 have u:Cm "Draft" (dV 0) (Bg (IA Ac Ba)) "spots" a (G++[.ins "Draft" [("house",h.enc),("turns",.int (lN GA:Int)),("arcs",.ref (lN G+1))],.lst []])=.nx a (hD G h (lN GA) [] []):=by
  have e:D.ref (lN (G++[DO.ins "Draft" [("house",h.enc),("turns",.int (lN GA:Int)),("arcs",.ref (lN G+1))],.lst []]))=.ref (lN G+2):=by simp
  have:=Tv (f:="spots") (fs:=[("house",h.enc),("turns",.int (lN GA:Int)),("arcs",.ref (lN G+1))]) (T:=[.lst [],.lst []]) (X3 (S:=a) (H:=G++[.ins "Draft" [("house",h.enc),("turns",.int (lN GA:Int)),("arcs",.ref (lN G+1))],.lst []])) rfl (by simp) (by simp);rw[e]at this;exact this
 have r:Br (Bb Er (Ak (dV 2) Ba)) (Bm 2 (Ah (gV 4) (Ah (gV 5) Bq))) M8 a (hD G h (lN GA) [] [])=.nx [zR (lN G),uA h.enc,zF (PC GA),zT (left.map D.int),j,i,k,m] (hD G h (lN GA) (MD h (lN GA) left 0 GA) (ZC h 0 (lN GA))):=by
  rw[<-c];have q:a[2]?=uA (zF (PC GA)):=rfl
  clear_value a
  generalize hD G h (lN GA) [] []=E,PC GA=F at*;simp[q,Er,I8,lenOf]
 have p:tidy (G++[.ins "Draft" []]) (.ok .KA (hD G h (lN GA) (MD h (lN GA) left 0 GA) (ZC h 0 (lN GA))))=.ok .KA (hD G h (lN GA) (MD h (lN GA) left 0 GA) (ZC h 0 (lN GA))):=by
  refine ci λz=>?_
  have o:((hD G h (lN GA) (MD h (lN GA) left 0 GA) (ZC h 0 (lN GA))).take (lN (G++[DO.ins "Draft" []])))[lN G]?=uA (.ins "Draft" []):=by rw[z];simp
  rw[qE (by simp),IT]at o;cases o
 have b:Tc a (G++[.ins "Draft" []])=.nx [zR (lN G),uA h.enc,zF (PC GA),zT (left.map D.int),j,i,k,m] (hD G h (lN GA) (MD h (lN GA) left 0 GA) (ZC h 0 (lN GA))):=by
  clear_value a
  unfold Tc;simp only[Sv,A,B,t,u,r,Rb]
 unfold O9;rw[Al];show tidy _ (Tc a _).ret=_;rw[b];exact p
def Fv(lv:List Int)(cm:List (List Int))(w k:Nat)(x:Int):Int:=x+(if w<5 then Aa (cm.getD k []) w else 0)+(if w=0 then Aa lv k else 0)
def Dz(lv:List Int)(cm:List (List Int))(w:Nat):Nat->List Int->List Int
 |_,[]=>[]
 |k,x::xs=>Fv lv cm w k x::Dz lv cm w (k+1) xs
def Cz(lv:List Int)(cm:List (List Int)):Nat->List (List Int)->List Int
 |_,[]=>[]
 |w,f::fs=>Dz lv cm w 0 f++Cz lv cm (w+1) fs
theorem Ot{lv:List Int}:∀(xs:List Int)(k:Nat),lN (Dz lv cm w k xs)=lN xs
 |[],_=>rfl
 |x::xs,k=>by simp[Dz,Ot xs]
section
variable{lv:List Int}{cm:List (List Int)}{n:Nat}{G:DH}
theorem iB(s:lN lv=n)(m:lN cm=n)(h:∀r∈cm,lN r=5){w:Nat}{s0 s1 s6:Option D}:∀(xs:List Int)(k:Nat)(acc:List Int)(s7 s8 s9 ZH:Option D),k+lN xs<=n->lN acc+lN xs<1000->∃t o u e,
  Aw (Bm 2 (Ah (gV 7) (Ah (gV 8) Bq))) Kd (((xs.map D.int).zipIdx k).map λ(x,i)=>.tup [.int (i:Int),x]) [s0,s1,uA (tupI lv),zT (cm.map tupI),zR (lN G),zI (w:Int),s6,s7,s8,s9,ZH] (G++[.lst (acc.map D.int)])=
   .nx [s0,s1,uA (tupI lv),zT (cm.map tupI),zR (lN G),zI (w:Int),s6,t,o,u,e] (G++[.lst ((acc++Dz lv cm w k xs).map D.int)])
 |[],k,acc,s7,s8,s9,ZH,_,_=>⟨s7,s8,s9,ZH,by simp[Dz,Et]⟩
 | x::xs,k,acc,s7,s8,s9,ZH,I,H=>by
  simp[zE]at I H;obtain⟨c,q⟩:∃c,cm[k]?=uA c:=⟨_,zZ (by lia)⟩;have K:=h c (zP q);have E:cm.getD k []=c:=by simp[zK,q]
  have F:NC (cm.map tupI) (k:Int)=uA (tupI c):=By rfl (by rw[zv,q];rfl);have N:=λG=>Q9 (G:=G) (xs:=lv) (k:=k) (by lia)
  have p:∀G,Af (.tup (cm.map tupI)) (.int (k:Int)) G=.ok (.tup (c.map D.int)) G:=λG=>by simp[F,tupI]
  have d:∀G,Aq [.tup (c.map D.int)] G=.ok (.int 5) G:=λG=>by simp[K]
  have f:lN (acc.map D.int)<1000000:=by rw[zq];lia
  let v:=Fv lv cm w k x;obtain⟨t,o,u,e,L⟩:=iB s m h (w:=w) (s0:=s0) (s1:=s1) (s6:=s6) xs (k+1) (acc++[Fv lv cm w k x]) (zI (k:Int)) (zI x) (zI (if w<5 then Aa (cm.getD k []) w else 0)) (zI (if w=0 then Aa lv k else 0)) (by lia) (by simp;lia);refine⟨t,o,u,e,?_⟩;have J:Kd [s0,s1,uA (tupI lv),zT (cm.map tupI),zR (lN G),zI (w:Int),s6,zI (k:Int),zI x,s9,ZH] (G++[.lst (acc.map D.int)])=
    .nx [s0,s1,uA (tupI lv),zT (cm.map tupI),zR (lN G),zI (w:Int),s6,zI (k:Int),zI x,zI (if w<5 then Aa (cm.getD k []) w else 0),zI (if w=0 then Aa lv k else 0)] (G++[.lst ((acc++[Fv lv cm w k x]).map D.int)]):=by
   rw[qx,zY,qy];unfold Fv;rw[E];have M:tupI lv=.tup (lv.map D.int):=rfl;rw[M];by_cases g:w<5
   .have b:(w:Int)<5:=by lia
    have z:=λG=>Q9 (G:=G) (xs:=c) (k:=w) (by lia)
    by_cases a:w=0
    .subst a;have l:∀G,Af (.tup (c.map D.int)) (.int 0) G=.ok (.int (Aa c 0)) G:=z;generalize c.map D.int=C,cm.map tupI=B,acc.map D.int=A,lv.map D.int=y at*;unfold Kd;simp[p,d,l,N,Dy,Ez,f]
    have j:¬(w:Int)=0:=by lia
    generalize c.map D.int=C,cm.map tupI=B,acc.map D.int=A,lv.map D.int=y at*;unfold Kd;simp[p,d,g,b,a,j,z,Dy,Ez,f]
   have b:¬(w:Int)<5:=by lia
   have a:¬w=0:=by lia
   generalize c.map D.int=C,cm.map tupI=B,acc.map D.int=A,lv.map D.int=y at*;unfold Kd;simp[p,d,g,b,a,by omega,Dy,Ez,f]
  rw[zY,jJ,zY,Dc];simp only[Dz];rw[show acc++Fv lv cm w k x::Dz lv cm w (k+1) xs=acc++[Fv lv cm w k x]++Dz lv cm w (k+1) xs by simp,<-L];simp[J]
theorem Zo(h:lN lv=n)(e:lN cm=n)(c:∀r∈cm,lN r=5){s0 s1:Option D}:∀(fs:List (List Int))(w:Nat)(acc:List Int)(s5 s6 s7 s8 s9 ZH:Option D),(∀f∈fs,lN f=n)->lN acc+n*lN fs<1000->∃k l m j o a,
  Aw (Bm 2 (Ah (gV 5) (Ah (gV 6) Bq))) N6 (((fs.map tupI).zipIdx w).map λ(x,i)=>.tup [.int (i:Int),x]) [s0,s1,uA (tupI lv),zT (cm.map tupI),zR (lN G),s5,s6,s7,s8,s9,ZH] (G++[.lst (acc.map D.int)])=
   .nx [s0,s1,uA (tupI lv),zT (cm.map tupI),zR (lN G),k,l,m,j,o,a] (G++[.lst ((acc++Cz lv cm w fs).map D.int)])
 |[],w,acc,s5,s6,s7,s8,s9,ZH,_,_=>⟨s5,s6,s7,s8,s9,ZH,by simp[Cz,Et]⟩
 | f::fs,w,acc,s5,s6,s7,s8,s9,ZH,s,u=>by
  simp[zE,Nat.mul_add,Nat.mul_one]at u;have C:=s f (by simp);obtain⟨p,t,q,d,v⟩:=iB h e c f 0 acc s7 s8 s9 ZH (by lia) (by lia);obtain⟨k,l,m,j,o,a,z⟩:=Zo h e c (s0:=s0) (s1:=s1) fs (w+1) (acc++Dz lv cm w 0 f) (zI (w:Int)) (uA (tupI f)) p t q d (λg B=>s g (zV _ B)) (by rw[zH,Ot];lia);refine⟨k,l,m,j,o,a,?_⟩;have b:Aw (Bm 2 (Ah (gV 7) (Ah (gV 8) Bq))) Kd (El (f.map D.int)) [s0,s1,uA (tupI lv),zT (cm.map tupI),zR (lN G),zI (w:Int),uA (tupI f),s7,s8,s9,ZH] (G++[.lst (acc.map D.int)])=_:=v
  have y:N6 [s0,s1,uA (tupI lv),zT (cm.map tupI),zR (lN G),zI (w:Int),uA (tupI f),s7,s8,s9,ZH] (G++[.lst (acc.map D.int)])=
    .nx [s0,s1,uA (tupI lv),zT (cm.map tupI),zR (lN G),zI (w:Int),uA (tupI f),p,t,q,d] (G++[.lst ((acc++Dz lv cm w 0 f).map D.int)]):=by
   have A:tupI f=.tup (f.map D.int):=rfl;rw[A]at b⊢;generalize(acc++Dz lv cm w 0 f).map D.int=I,acc.map D.int=H,f.map D.int=E,tupI lv=F,cm.map tupI=J at*;unfold N6;simp[Er,I8,lenOf,b]
  rw[zY,jJ,zY,Dc];simp only[Cz];rw[<-qW,<-z];simp[y]
def Cn(d:lN lv=n)(c:lN cm=n)(b:∀r∈cm,lN r=5){fs:List (List Int)}(h:∀f∈fs,lN f=n)(t:n*lN fs<900)(G:DH):freeze G (Nq [GC lv cm,.fl (fs.map tupI)] G)=.ok (.fl ((Cz lv cm 0 fs).map D.int)) G:=by
 obtain⟨s,u,v,p,x,j,g⟩:=Zo (G:=G) d c b fs 0 [] uB uB uB uB uB uB h (by simp;lia);rw[qH]at g;have a:Aw (Bm 2 (Ah (gV 5) (Ah (gV 6) Bq))) N6 (El (fs.map tupI)) [uA (GC lv cm),zF (fs.map tupI),uA (tupI lv),zT (cm.map tupI),zR (lN G),uB,uB,uB,uB,uB,uB] (G++[.lst []])=_:=g;have k:tidy G (.ok (.ref (lN G)) (G++[.lst []]))=.ok (.ref (lN G)) (G++[.lst []]):=Du rfl
 have l:tidy G (.ok (.ref (lN G)) (G++[.lst ((Cz lv cm 0 fs).map D.int)]))=.ok (.ref (lN G)) (G++[.lst ((Cz lv cm 0 fs).map D.int)]):=Du Dm;have i:GC lv cm=.tup [tupI lv,.tup (cm.map tupI)]:=rfl;have e:Nq [GC lv cm,.fl (fs.map tupI)] G=.ok (.ref (lN G)) (G++[.lst ((Cz lv cm 0 fs).map D.int)]):=by rw[i]at a⊢;generalize(Cz lv cm 0 fs).map D.int=m,fs.map tupI=o,tupI lv=q,cm.map tupI=w at*;unfold Nq fJ;rw[Al];simp[Ac,k,Er,I8,lenOf,a,l]
 rw[e,Bj Dm]
end
def Co{o:Nat}(e:Cr "Draft" "house" (.ref o) H=.ok h.enc H)(i:Cr "Draft" "turns" (.ref o) H=.ok (.int (T:Int)) H)(l:lN h.ps<=100)(j:T<=100)(hw:w<T):Dp [.ref o,.int (w:Int),.int (k:Int)] H=.ok (.int (w*lN h.ps+k:Nat)) H:=by
 have d:∀G,Af h.enc (.int 1) G=.ok (.tup (h.ps.map RP.enc)) G:=λG=>Dw
 have c:∀G,Aq [.tup (h.ps.map RP.enc)] G=.ok (.int (lN h.ps:Int)) G:=λG=>by simp
 have f:∀G,Bu (.int (w:Int)) (.int (lN h.ps:Int)) G=.ok (.int ((w:Int)*(lN h.ps:Int))) G:=λG=>Ds (by lia) (by lia)
 have b:(((w*lN h.ps+k:Nat)):Int)=(w:Int)*(lN h.ps:Int)+(k:Int):=by rw[jG,jW]
 have a:¬T<=w:=by lia
 rw[b];generalize h.ps.map RP.enc=Y,h.enc=m at*;unfold Dp Q5;rw[Al];simp[e,i,d,c,f,Cy,a,by omega,Bl]
def Cs{f:Nat->DH->Option (Option D)}{g:DG}{b:DS}{x:D}(h:f j G=uA (uA x)):Cv f g b (m+1) j S G=(g x S G).toS λa c=>OK (b a c) (Cv f g b m (j+1)):=by
 show(match f j G with |some (uA x)=>(g x S G).toS λa c=>OK (b a c) (Cv f g b m (j+1))|some uB=>.nx S G|none=>.bad)=_
 rw[h]
def Ct{f:Nat->DH->Option (Option D)}{g:DG}{b:DS}(h:f j G=uA uB):Cv f g b 0 j S G=.nx S G:=by
 show(match f j G with |some uB=>SR.nx S G|_=>.bad)=_
 rw[h]
noncomputable def Gu(r:List Int):DO:=.lst (r.map D.int)
def hP(H:DH)(rs:List (List Int)):DH:=H++(rs.map Gu++[.lst ((zW (lN rs)).map λi=>D.ref (lN H+i))])
section
variable{H:DH}{rs:List (List Int)}
def Ph(h:i<lN H):(hP H rs)[i]?=H[i]? :=zC h
def iC{r:List Int}(h:rs[i]?=uA r):(hP H rs)[lN H+i]?=uA (.lst (r.map D.int)):=by
 unfold hP;rw[zO (by lia),qR,zC (by simpa using((zX.mp h).1)),zv,h]
 rfl
def Za:(hP H rs)[lN H+lN rs]?=uA (.lst ((zW (lN rs)).map λi=>D.ref (lN H+i))):=by unfold hP;rw[zO (by lia),qR,zO (by simp)];simp
def DC(h:i<lN rs)(r:List Int):(hP H rs).set (lN H+i) (.lst (r.map D.int))=hP H (rs.set i r):=by
 unfold hP;rw[Ht,List.set_append,if_pos (by simpa using h),vQ,jQ]
 rfl
def Pj:lN (hP H rs)=lN H+lN rs+1:=by simp[hP];lia
end
noncomputable def LA:List Int:=[0,0,0,0,0,0]
theorem iD{S:PB}:∀(m j:Nat)(Γ:DH),Bo (gV 0) Ao M4 (uB::S) (An (j:Int) m) Γ=.ok ((zW m).map λi=>D.ref (lN Γ+i)) (Γ++zQ m (Gu LA))
 |0,j,Γ=>by rw[Ff];simp[Bo]
 | m+1,j,Γ=>by
  have a:tidy Γ (.ok (.ref (lN Γ+1)) (Γ++[.lst [.int 0],Gu LA]))=.ok (.ref (lN Γ)) (Γ++[Gu LA]):=X5 [.lst [.int 0],Gu LA] rfl rfl;have rp:Jr (.ref (lN Γ)) (.int 6) (Γ++[.lst [.int 0]])=.ok (.ref (lN Γ+1)) (Γ++[.lst [.int 0],Gu LA]):=by have:=tq (G:=Γ++[.lst [.int 0]]) (k:=6) (by rw[Dy];rfl) (by decide);simpa[Gu,LA]using this
  have b:∀x,M4 (uA x::S) Γ=.ok (.ref (lN Γ)) (Γ++[Gu LA]):=λx=>by unfold M4;simp[Ac,rp,a]
  have c:((j:Int)+1)=((j+1:Nat):Int):=by lia
  rw[Eu,Gk,c];simp only[Cp,R.Ea,qM,Ju,if_true,b];rw[iD (S:=S) m (j+1) (Γ++[Gu LA]),R.Ea]
  congr 1
  .rw[jZ,zY,qk]
   congr 1
   refine qG λi _=>?_
   simp;lia
  simp[q0]
def JH(rs:List (List Int))(u q:Nat)(c:Int):List (List Int):=rs.set u ((rs.getD u []).set q (Aa (rs.getD u []) q+c))
def Mj:lN (JH rs u q c)=lN rs:=by simp[JH]
def iE(h:∀r∈rs,lN r=6):∀r∈JH rs u q c,lN r=6:=λr a=>by
 unfold JH at a;by_cases b:u<lN rs
 .rcases List.mem_or_eq_of_mem_set a with z|z
  .exact h r z
  rw[z,jQ,zK,zZ b];exact h _ (qw _)
 rw[List.set_eq_of_length_le (by lia)]at a;exact h r a
def Ay(n:Nat):List Spot->List Int->List (List Int)->List (List Int)
 |s::ss,c::cs,rs=>Ay n ss cs (JH rs (s.1*n+s.2.1) s.2.2 c)
 |_,_,rs=>rs
theorem O7{n:Nat}:∀(ss:List Spot)(cs:List Int)(rs:List (List Int)),(∀r∈rs,lN r=6)->lN (Ay n ss cs rs)=lN rs/\∀r∈Ay n ss cs rs,lN r=6
 |s::ss,c::cs,rs,h=>by have:=O7 (n:=n) ss cs (JH rs (s.1*n+s.2.1) s.2.2 c) (iE h);rw[Mj]at this;exact this
 |[],_,rs,h=>by cases‹List Int› <;> exact⟨rfl,h⟩
 |_::_,[],rs,h=>⟨rfl,h⟩
section
variable{Γ:DH}{g:Nat}{h:RH}{T:Nat}{ss:List Spot}
theorem Zn(o:Γ[g]?=uA (.ins "Draft" (ZJ h T g)))(c:Γ[g+2]?=uA (.lst (ss.map Ci)))(E:lN h.ps<=100)(I:T<=100)(hs:∀s∈ss,s.1<T/\s.2.1<lN h.ps/\s.2.2<6){f:List Int}(Q:lN f=lN ss){ZH s11 UP WN:Option D}:∀(m j:Nat)(rs:List (List Int))(s5 s6 s7 s8 s9:Option D),j+m=lN ss->lN rs=T*lN h.ps->(∀r∈rs,lN r=6)->∃y B C i l,
  Cv (H8 [.ref (g+2),.fl (f.map D.int)]) (Bm 2 (Ah (gV 5) (Ah (gV 6) Bq))) Q4 m j [zR g,s1,s2,s3,zR (lN Γ+T*lN h.ps),s5,s6,s7,s8,s9,ZH,s11,UP,WN] (hP Γ rs)=
   .nx [zR g,s1,s2,s3,zR (lN Γ+T*lN h.ps),y,B,C,i,l,ZH,s11,UP,WN] (hP Γ (Ay (lN h.ps) (ss.drop j) (f.drop j) rs))
 | 0,j,rs,s5,s6,s7,s8,s9,L,e,v=>⟨s5,s6,s7,s8,s9,by
   have z:(hP Γ rs)[g+2]?=uA (.lst (ss.map Ci)):=by rw[Ph (zX.mp c).1];exact c
   rw[Ct (by rw[Tt (Oc z) Jj,zM];simp[I9];lia),qL (by lia)]
   rfl⟩
 | m+1,j,rs,s5,s6,s7,s8,s9,L,e,v=>by
  have d:j<lN ss:=by lia
  have a:j<lN f:=by lia
  obtain⟨⟨w,k,q⟩,A⟩:∃s,ss[j]?=uA s:=⟨_,zZ d⟩;obtain⟨hw,hk,hq⟩:=hs _ (zP A);dsimp only at hw hk hq;have J:f[j]?=uA (Aa f j):=(Gf a)▸zZ a;have x:w*lN h.ps+k<lN rs:=by
   rw[e];have Y:w*lN h.ps+k<(w+1)*lN h.ps:=by rw[xP,vV];lia
   exact zj Y (qD _ (by lia))
  obtain⟨r,p⟩:∃r,rs[w*lN h.ps+k]?=uA r:=⟨_,zZ x⟩;have r6:=v r (zP p);have u:rs.getD (w*lN h.ps+k) []=r:=by rw[zK,p];rfl
  have P:ss.drop j=(w,k,q)::ss.drop (j+1):=by
   rw[zU d]
   congr 1
   exact(zX.mp A).2
  have Z:f.drop j=Aa f j::f.drop (j+1):=by rw[zU a,Gf a]
  obtain⟨y,B,C,i,l,ih⟩:=Zn o c E I hs Q m (j+1) (JH rs (w*lN h.ps+k) q (Aa f j)) (uA (Ci (w,k,q))) (zI (Aa f j)) (zI (w:Int)) (zI (k:Int)) (zI (q:Int)) (by lia) (by rw[Mj];exact e) (iE v);refine⟨y,B,C,i,l,?_⟩;have n:(hP Γ rs)[g]?=uA (.ins "Draft" (ZJ h T g)):=by rw[Ph (zX.mp o).1];exact o
  have z:(hP Γ rs)[g+2]?=uA (.lst (ss.map Ci)):=by rw[Ph (zX.mp c).1];exact c
  have ez:H8 [.ref (g+2),.fl (f.map D.int)] j (hP Γ rs)=uA (zT [Ci (w,k,q),.int (Aa f j)]):=by
   rw[Tt (Oc z) Jj];unfold I9;have U:((ss.map Ci).zip (f.map D.int))[j]?=uA (Ci (w,k,q),D.int (Aa f j)):=List.getElem?_zip_eq_some.mpr ⟨by rw[zv,A];rfl,by rw[zv,J];rfl⟩;rw[zv,U]
   rfl
  have cn:=Co (De n rfl) (De n rfl) E I (k:=k) hw;have N:=λt S=>Sq (m:="node_at") (F:=Dp) (ta:=t) (S:=S) n rfl
  have X:Af (.ref (lN Γ+T*lN h.ps)) (.int ((w*lN h.ps+k:Nat):Int)) (hP Γ rs)=.ok (.ref (lN Γ+(w*lN h.ps+k))) (hP Γ rs):=by rw[<-e];exact Hk Za (By rfl (by rw[zv,qF x];rfl))
  have b:=iC (H:=Γ) p;have W:YO (.ref (lN Γ+(w*lN h.ps+k))) (.int (q:Int)) (hP Γ rs)=.ok (.int (Aa r q)) (hP Γ rs):=cT b (La (by lia));have iN:MJ (lN (r.map D.int)) (q:Int)=uA q:=by rw[zq];exact Ob (by lia)
  have O:Fy (.ref (lN Γ+(w*lN h.ps+k))) (.int (q:Int)) (.int (Aa r q+Aa f j)) (hP Γ rs)=.ok .KA (hP Γ (JH rs (w*lN h.ps+k) q (Aa f j))):=by rw[Jm,b];simp only[iN];unfold JH;rw[u,<-DC x,vQ]
  have M:Q4 [zR g,s1,s2,s3,zR (lN Γ+T*lN h.ps),uA (Ci (w,k,q)),zI (Aa f j),s7,s8,s9,ZH,s11,UP,WN] (hP Γ rs)=
    .nx [zR g,s1,s2,s3,zR (lN Γ+T*lN h.ps),uA (Ci (w,k,q)),zI (Aa f j),zI (w:Int),zI (k:Int),zI (q:Int),ZH,s11,UP,WN] (hP Γ (JH rs (w*lN h.ps+k) q (Aa f j))):=by
   have K:Ci (w,k,q)=.tup [.int (w:Int),.int (k:Int),.int (q:Int)]:=rfl;rw[K];generalize hP Γ (JH rs (w*lN h.ps+k) q (Aa f j))=H2,hP Γ rs=H1,lN Γ+T*lN h.ps=a1,lN Γ+(w*lN h.ps+k)=a2,((w*lN h.ps+k:Nat):Int)=uu at*;unfold Q4;simp[N,cn,X,W,O]
  rw[Cs ez,P,Z];show _=SR.nx _ (hP Γ (Ay (lN h.ps) (ss.drop (j+1)) (f.drop (j+1)) (JH rs (w*lN h.ps+k) q (Aa f j))));rw[<-ih];simp[M]
end
def iF{e:Type}{xs:List e}(c:a<=b)(g:b<=lN xs):cutD xs (uA (a:Int)) (uA (b:Int))=(xs.drop a).take (b-a):=by
 have i:=(Jb (lN xs) (a:Int)).2;have h:=(Jb (lN xs) (b:Int)).1;have d:HT.HB (lN xs) 0 (uA (a:Int))=a:=by lia
 have f:HT.HB (lN xs) (lN xs) (uA (b:Int))=b:=by lia
 unfold cutD;rw[d,f]
noncomputable def QL(r:List Int)(l:Int):List Int:=((r.drop 1).sum-l)::r.drop 1
def DD{r:List Int}(hi:Γ[i]?=uA (.lst (r.map D.int)))(a:lN r=6)(l:Int):Rw [.ref i,.int l] Γ=.ok (tupI (QL r l)) Γ:=by
 have m:Gq (.ref i) (uA 1) uB Γ=.ok (.ref (lN Γ)) (Γ++[.lst ((r.drop 1).map D.int)]):=by have e:cutD (r.map D.int) (uA ((1:Nat):Int)) uB=(r.map D.int).drop 1:=A4 (by rw[zq];lia);have b:cutD (r.map D.int) (uA 1) uB=(r.drop 1).map D.int:=List.map_drop▸e;simp[Gq,Ej,hi,b]
 have j:freeze Γ (.ok (.ref (lN Γ)) (Γ++[.lst ((r.drop 1).map D.int)]))=.ok (.fl ((r.drop 1).map D.int)) Γ:=Bj Dm;have c:Gg [.fl ((r.drop 1).map D.int)] Γ=.ok (.int (r.drop 1).sum) Γ:=Wh;have d:freeze Γ (.ok (.ref (lN Γ)) (Γ++[.lst [.int ((r.drop 1).sum-l)]]))=.ok (.fl [.int ((r.drop 1).sum-l)]) Γ:=Bj rfl;have h:freeze Γ (.ok (.ref (lN Γ)) (Γ++[.lst (.int ((r.drop 1).sum-l)::(r.drop 1).map D.int)]))=.ok (.fl (.int ((r.drop 1).sum-l)::(r.drop 1).map D.int)) Γ:=Bj (by exact Dm)
 have n:tupI (QL r l)=.tup (.int ((r.drop 1).sum-l)::(r.drop 1).map D.int):=rfl;have o:lN ((r.drop 1).map D.int)+1<=1000000:=by simp[a]
 have g:tidy Γ (.ok (.tup (.int ((r.drop 1).sum-l)::(r.drop 1).map D.int)) Γ)=.ok (.tup (.int ((r.drop 1).sum-l)::(r.drop 1).map D.int)) Γ:=Bl (by exact Dm);have k:Dq (.fl [.int ((r.drop 1).sum-l)]) (.fl ((r.drop 1).map D.int)) Γ=.ok (.ref (lN Γ)) (Γ++[.lst (.int ((r.drop 1).sum-l)::(r.drop 1).map D.int)]):=by generalize(r.drop 1).map D.int=Z at*;simp;lia
 rw[n];generalize(r.drop 1).map D.int=Z,(r.drop 1).sum=f at*;unfold Rw eV;rw[Al];simp[-Ri,m,j,c,Ac,d,k,h,g]
def HE(rs:List (List Int))(n w:Nat)(lay:List Int):List (List Int):=(zW n).map λi=>QL (rs.getD (w*n+i) []) (Aa lay i)
def Dk(rs:List (List Int))(n:Nat):Nat->Nat->List Int->List (List (List Int))
 |0,_,_=>[]
 |m+1,w,lay=>HE rs n w lay::Dk rs n m (w+1) ((HE rs n w lay).map λr=>Aa r 5)
def YE(pg:List (List Int)):D:=.tup (pg.map tupI)
def DF{pg:List (List Int)}:QB n (YE pg)=uC:=by exact Ga
def DJ{l:List (List (List Int))}:NA n (l.map YE)=uC:=Fb λ_ _=>DF
theorem iG{G:DH}:∀pg:List (List Int),(∀r∈pg,lN r=6)->Bo (gV 0) Ao Sg [uB] (pg.map tupI) G=.ok ((pg.map λr=>Aa r 5).map D.int) G
 |[],_=>rfl
 |r::pg,h=>by
  have e:=h r (by simp);have a:=Q9 (G:=G) (xs:=r) (k:=5) (by lia);have c:Sg [uA (tupI r)] G=.ok (.int (Aa r 5)) G:=by have b:((5:Nat):Int)=5:=rfl;rw[b]at a;unfold Sg tupI;generalize r.map D.int=Z at*;simp[-sT,a]
  rw[zY,Gk];simp[c,iG (G:=G) pg λx d=>h x (zV _ d)]
theorem iH(P:n<=100)(x:1<=n)(hT:T<=100)(F:lN rs=T*n)(s:∀r∈rs,lN r=6){s5 s6 s7 s8 s9:Option D}:∀(m w:Nat)(acc:List (List (List Int)))(L:D)(lay:List Int)(UP WN:Option D),w+m=T->lN lay=n->(∀Γ,Bk L Γ=uA (lay.map D.int))->lN acc+m<1000->∃f g e,
  Aw (gV 12) Oq ((qU w m).map λ(k:Nat)=>D.int ((k:Int)*(n:Int))) [s0,s1,s2,zI (n:Int),zR (lN H+lN rs),s5,s6,s7,s8,s9,zR (lN (hP H rs)),uA L,UP,WN] (hP H rs++[.lst (acc.map YE)])=
   .nx [s0,s1,s2,zI (n:Int),zR (lN H+lN rs),s5,s6,s7,s8,s9,zR (lN (hP H rs)),f,g,e] (hP H rs++[.lst ((acc++Dk rs n m w lay).map YE)])
 |0,w,acc,L,lay,UP,WN,_,_,_,_=>⟨uA L,UP,WN,by simp[Dk,Et]⟩
 | m+1,w,acc,L,lay,UP,WN,hw,J,K,ha=>by
  have C:w*n+n<=lN rs:=by rw[F,<-j0];exact qD _ (by lia)
  have p6:∀r∈HE rs n w lay,lN r=6:=λr u=>by obtain⟨i,b,rfl⟩:=qY.mp u;have b:=qz.mp b;have:=s (rs.getD (w*n+i) []) (by rw[zK,zZ (by lia)];exact qw _);unfold QL;rw[zE,qI,this]
  have B:lN (HE rs n w lay)=n:=by simp[HE]
  obtain⟨f,g,e,ih⟩:=iH P x hT F s m (w+1) (acc++[HE rs n w lay]) (.fl (((HE rs n w lay).map λr=>Aa r 5).map D.int)) ((HE rs n w lay).map λr=>Aa r 5) (zI ((w:Int)*(n:Int))) (zF ((HE rs n w lay).map tupI)) (by lia) (by rw[zq,B]) (λΓ=>Jj) (by simp;lia);refine⟨f,g,e,?_⟩;obtain⟨Γ,a⟩:∃Γ,Γ=hP H rs++[.lst (acc.map YE)]:=⟨_,rfl⟩;have gR:Γ[lN H+lN rs]?=uA (.lst ((zW (lN rs)).map λi=>D.ref (lN H+i))):=by rw[a,zC (by rw[Pj];lia)];exact Za
  have O:∀i,i<n->Γ[lN H+(w*n+i)]?=uA (.lst ((rs.getD (w*n+i) []).map D.int)):=λi b=>by rw[a,zC (by rw[Pj];lia)];exact iC (by rw[zK,zZ (by lia)];rfl)
  have gp:Γ[lN (hP H rs)]?=uA (.lst (acc.map YE)):=by rw[a,Dy];rfl
  have Y:∀t,Γ.set (lN (hP H rs)) (.lst t)=hP H rs++[.lst t]:=λt=>by rw[a,Ez];rfl
  have o:lN Γ=lN H+lN rs+1+1:=by rw[a,zH,Pj];rfl
  let c:=(zW n).map λi=>D.ref (lN H+(w*n+i))
  have h:cutD ((zW (lN rs)).map λi=>D.ref (lN H+i)) (uA ((w:Int)*(n:Int))) (uA ((w:Int)*(n:Int)+(n:Int)))=c:=by
   rw[(jW ..).symm,(jG ..).symm,iF (by lia) (by simpa using C)];refine jv (by rw[qN,qI,zq,xY,qR];simp[c,zq,xY];lia) λi I W=>?_
   simp[c,xI]
  have Z:Gq (.ref (lN H+lN rs)) (uA ((w:Int)*(n:Int))) (uA ((w:Int)*(n:Int)+(n:Int))) Γ=.ok (.ref (lN Γ)) (Γ++[.lst c]):=by simp[Gq,Ej,gR,h]
  have f1:freeze Γ (.ok (.ref (lN Γ)) (Γ++[.lst c]))=.ok (.fl c) Γ:=Bj (Fb λi b=>by have b:=qz.mp b;rw[o];exact decide_eq_true (by lia))
  have E:lay.map D.int=(zW n).map λi=>D.int (Aa lay i):=by
   refine jv (by simp[J]) λi I W=>?_
   have b:i<lN lay:=by simpa using I
   simp[Gf b]
  have z2:Dj (H8 [.fl c,L]) (Bm 2 (Ah (gV 0) (Ah (gV 1) Bq))) Ao Z0 [uB,uB] (lN c) 0 Γ=.ok ((HE rs n w lay).map tupI) Γ:=by
   rw[V2 (λj=>Tt Jj (K Γ) j) (λy M=>?_) (by simp[I9,c,J])]
   .congr 1
    rw[E,I9,List.zip_map',qk,jC];unfold HE;rw[qk]
    have:((λd=>match d with |D.tup [D.ref i,D.int l]=>uA (tupI (QL (rs.getD (i-lN H) []) l))|_=>uB)∘((λq:D×D=>D.tup [q.1,q.2]) ∘ λi=>(D.ref (lN H+(w*n+i)),D.int (Aa lay i))))=λi=>uA ((tupI ∘ λi=>QL (rs.getD (w*n+i) []) (Aa lay i)) i):=by funext i;simp
    rw[this];exact congrFun xV _
   rw[E,I9,List.zip_map',qk]at M;obtain⟨i,b,rfl⟩:=qY.mp M;have b:=qz.mp b;refine⟨[zR (lN H+(w*n+i)),zI (Aa lay i)],by simp,.inr ⟨rfl,tupI (QL (rs.getD (w*n+i) []) (Aa lay i)),?_,by simp⟩⟩;unfold Z0;simp[DD (O i b) (s (rs.getD (w*n+i) []) (by rw[zK,zZ (by lia)];exact qw _)) (Aa lay i)]
  have Q:freeze Γ (.ok (.ref (lN Γ)) (Γ++[.lst ((HE rs n w lay).map tupI)]))=.ok (.fl ((HE rs n w lay).map tupI)) Γ:=Bj Ga;have l2:lN ((HE rs n w lay).map tupI)<=1000000:=by rw[zq,B];lia
  have lc:=iG (G:=Γ) (HE rs n w lay) p6;have N:freeze Γ (.ok (.ref (lN Γ)) (Γ++[.lst (((HE rs n w lay).map λr=>Aa r 5).map D.int)]))=.ok (.fl (((HE rs n w lay).map λr=>Aa r 5).map D.int)) Γ:=Bj Dm;have U:lN (((HE rs n w lay).map λr=>Aa r 5).map D.int)<=1000000:=by rw[zq,zq,B];lia
  have v:lN (acc.map YE)<1000000:=by rw[zq];lia
  have z:∀S:PB,Be 2 [] S=[uB,uB]:=λ_=>rfl
  have p:∀S:PB,Be 1 [] S=[uB]:=λ_=>rfl
  have X:YE (HE rs n w lay)=.tup ((HE rs n w lay).map tupI):=rfl;have A:=Y (acc.map YE++[.tup ((HE rs n w lay).map tupI)]);have hb:Oq [s0,s1,s2,zI (n:Int),zR (lN H+lN rs),s5,s6,s7,s8,s9,zR (lN (hP H rs)),uA L,zI ((w:Int)*(n:Int)),WN] Γ=
    .nx [s0,s1,s2,zI (n:Int),zR (lN H+lN rs),s5,s6,s7,s8,s9,zR (lN (hP H rs)),zF (((HE rs n w lay).map λr=>Aa r 5).map D.int),zI ((w:Int)*(n:Int)),zF ((HE rs n w lay).map tupI)] (hP H rs++[.lst (acc.map YE++[.tup ((HE rs n w lay).map tupI)])]):=by
   clear_value c
   generalize((HE rs n w lay).map λr=>Aa r 5).map D.int=LY,(HE rs n w lay).map tupI=PG,acc.map YE=AA,lN (hP H rs)=ap,lN H+lN rs=ar,(w:Int)*(n:Int)=wn at*;unfold Oq;simp[-Oa,Z,f1,Zd Jj (K Γ),z,z2,Ac,l2,Q,p,lc,U,N,gp,v,A]
  rw[jT,zY,Dc,<-a];simp only[Dk];rw[show acc++HE rs n w lay::Dk rs n m (w+1) ((HE rs n w lay).map λr=>Aa r 5)=acc++[HE rs n w lay]++Dk rs n m (w+1) ((HE rs n w lay).map λr=>Aa r 5) by simp,<-ih];rw[qx,zY,qy,X];simp[hb]
def iI(c:1<=n):Gd ((T:Int)*(n:Int)) (n:Int)=T:=by
 unfold Gd;by_cases a:T=0
 .subst a;simp
 rw[if_pos (Int.mul_pos (by lia) (by lia))];have b:((T:Int)*(n:Int)-1)/(n:Int)=(T:Int)-1:=by
  have e:(T:Int)*(n:Int)-1=((T:Int)-1)*(n:Int)+((n:Int)-1):=by rw[xL];lia
  rw[e,Int.add_comm,Int.add_mul_ediv_right _ _ (by lia),Int.ediv_eq_zero_of_lt (by lia) (by lia)];lia
 lia
section
variable{Γ:DH}{g:Nat}{h:RH}{T:Nat}{ss:List Spot}
def DK(m:Γ[g]?=uA (.ins "Draft" (ZJ h T g)))(B:Γ[g+2]?=uA (.lst (ss.map Ci)))(k:1<=lN h.ps)(u:lN h.ps<=100)(A:T<=100)(hs:∀s∈ss,s.1<T/\s.2.1<lN h.ps/\s.2.2<6){f:List Int}(hf:lN f=lN ss){lv:List Int}(q:lN lv=lN h.ps):
  Qi [.ref g,GC lv cm,.fl (f.map D.int)] Γ=.ok (.ref (lN Γ)) (Γ++[.lst ((Dk (Ay (lN h.ps) ss f (zQ (T*lN h.ps) LA)) (lN h.ps) T 0 lv).map YE)]):=by
 have L:∀r∈zQ (T*lN h.ps) LA,lN r=6:=λr hr=>by rw[(List.mem_replicate.mp hr).2];rfl
 obtain⟨rl,X⟩:=O7 ss f (zQ (T*lN h.ps) LA) L;rw[qO]at rl;obtain⟨z,F,J,o,p,C⟩:=Zn m B u A hs hf (lN ss) 0 (zQ (T*lN h.ps) LA) uB uB uB uB uB (by lia) (qO ..) L;rw[jP,jP]at C;have M:(hP Γ (zQ (T*lN h.ps) LA))[g+2]?=uA (.lst (ss.map Ci)):=by rw[Ph (zX.mp B).1];exact B
 have K:(hP Γ (zQ (T*lN h.ps) LA))[g]?=uA (.ins "Draft" (ZJ h T g)):=by rw[Ph (zX.mp m).1];exact m
 have d:Cr "Draft" "spots" (.ref g) (hP Γ (zQ (T*lN h.ps) LA))=.ok (.ref (g+2)) (hP Γ (zQ (T*lN h.ps) LA)):=De K rfl;have x:=Zd (e:=.fl (f.map D.int)) (Oc M) (Jj);rw[zq]at x;obtain⟨I,w,v,a⟩:=iH u k A rl X T 0 [] (tupI lv) lv uB uB (by lia) q (λΓ=>rfl) (by simp;lia);rw[qH,<-List.range_eq_range']at a;have l:Aw (gV 12) Oq (Ml (lN h.ps:Int) T) [zR g,uA (GC lv cm),zF (f.map D.int),zI (lN h.ps:Int),zR (lN Γ+T*lN h.ps),z,F,J,o,p,zR (lN (hP Γ (Ay (lN h.ps) ss f (zQ (T*lN h.ps) LA)))),uA (tupI lv),uB,uB] (hP Γ (Ay (lN h.ps) ss f (zQ (T*lN h.ps) LA))++[.lst []])=.nx [zR g,uA (GC lv cm),zF (f.map D.int),zI (lN h.ps:Int),zR (lN Γ+T*lN h.ps),z,F,J,o,p,zR (lN (hP Γ (Ay (lN h.ps) ss f (zQ (T*lN h.ps) LA)))),I,w,v] (hP Γ (Ay (lN h.ps) ss f (zQ (T*lN h.ps) LA))++[.lst ((Dk (Ay (lN h.ps) ss f (zQ (T*lN h.ps) LA)) (lN h.ps) T 0 lv).map YE)]):=by
  rw[rl]at a;exact a
 have h1:∀G,Af h.enc (.int 1) G=.ok (.tup (h.ps.map RP.enc)) G:=λG=>Dw
 have U:∀G,Aq [.tup (h.ps.map RP.enc)] G=.ok (.int (lN h.ps:Int)) G:=λG=>by simp
 have O:∀G,Bu (.int (T:Int)) (.int (lN h.ps:Int)) G=.ok (.int ((T:Int)*(lN h.ps:Int))) G:=λG=>Ds (by lia) (by lia)
 have b:(T:Int)*(lN h.ps:Int)=((T*lN h.ps:Nat):Int):=(jW ..).symm;have W:=vZ A u;have rc:Bo (gV 0) Ao M4 [uB] (An 0 (T*lN h.ps)) Γ=.ok ((zW (T*lN h.ps)).map λi=>D.ref (lN Γ+i)) (Γ++zQ (T*lN h.ps) (Gu LA)):=iD (T*lN h.ps) 0 Γ;have n:Γ++zQ (T*lN h.ps) (Gu LA)++[.lst ((zW (T*lN h.ps)).map λi=>D.ref (lN Γ+i))]=hP Γ (zQ (T*lN h.ps) LA):=by unfold hP;rw[List.map_replicate,qO,qW]
 have y:lN ((zW (T*lN h.ps)).map λi=>D.ref (lN Γ+i))<=1000000:=by simp;lia
 have i1:inR ((T*lN h.ps:Nat):Int):=Ek (by lia) (by lia);have t:∀S:PB,Be 1 [] S=[uB]:=λ_=>rfl
 have eH:Cr "Draft" "house" (.ref g) Γ=.ok h.enc Γ:=De m rfl;have eT:Cr "Draft" "turns" (.ref g) Γ=.ok (.int (T:Int)) Γ:=De m rfl;have Z:JC (IA Aq (Ak (WA Af (Av "Draft" (dV 0) "house") (dC (.int 1))) Ba)) (gV 3) [zR g,uA (GC lv cm),zF (f.map D.int),uB,uB,uB,uB,uB,uB,uB,uB,uB,uB,uB] Γ=.nx [zR g,uA (GC lv cm),zF (f.map D.int),zI (lN h.ps:Int),uB,uB,uB,uB,uB,uB,uB,uB,uB,uB] Γ:=by generalize h.ps.map RP.enc=Y,h.enc=he at*;simp[eH,h1,U]
 have t2:JC (Bv (Bb HC (Ak (WA Bu (Av "Draft" (dV 0) "turns") (dV 3)) Ba)) 1 [] (gV 0) Ao M4) (gV 4) [zR g,uA (GC lv cm),zF (f.map D.int),zI (lN h.ps:Int),uB,uB,uB,uB,uB,uB,uB,uB,uB,uB] Γ=.nx [zR g,uA (GC lv cm),zF (f.map D.int),zI (lN h.ps:Int),zR (lN Γ+T*lN h.ps),uB,uB,uB,uB,uB,uB,uB,uB,uB] (hP Γ (zQ (T*lN h.ps) LA)):=by rw[b]at O;rw[<-n];clear C a l M K d x n;generalize(zW (T*lN h.ps)).map (λi=>D.ref (lN Γ+i))=RR at*;generalize T*lN h.ps=N at*;simp[eT,O,i1,t,rc,Ac,y]
 have t3:Br (Bb (Gz 2) (Ak (Av "Draft" (dV 0) "spots") (Ak (dV 2) Ba))) (Bm 2 (Ah (gV 5) (Ah (gV 6) Bq))) Q4 [zR g,uA (GC lv cm),zF (f.map D.int),zI (lN h.ps:Int),zR (lN Γ+T*lN h.ps),uB,uB,uB,uB,uB,uB,uB,uB,uB] (hP Γ (zQ (T*lN h.ps) LA))=.nx [zR g,uA (GC lv cm),zF (f.map D.int),zI (lN h.ps:Int),zR (lN Γ+T*lN h.ps),z,F,J,o,p,uB,uB,uB,uB] (hP Γ (Ay (lN h.ps) ss f (zQ (T*lN h.ps) LA))):=by rw[<-C];generalize hP Γ (zQ (T*lN h.ps) LA)=H1,lN Γ+T*lN h.ps=a1,f.map D.int=FF at*;simp[d,x]
 have tn:tidy (hP Γ (Ay (lN h.ps) ss f (zQ (T*lN h.ps) LA))) (.ok (.ref (lN (hP Γ (Ay (lN h.ps) ss f (zQ (T*lN h.ps) LA))))) (hP Γ (Ay (lN h.ps) ss f (zQ (T*lN h.ps) LA))++[.lst []]))=_:=Du rfl;have Q:(hP Γ (Ay (lN h.ps) ss f (zQ (T*lN h.ps) LA))++[.lst []])[lN Γ+T*lN h.ps]?=uA (.lst ((zW (T*lN h.ps)).map λi=>D.ref (lN Γ+i))):=by rw[zC (by rw[Pj,rl];lia)];have:=Za (H:=Γ) (rs:=Ay (lN h.ps) ss f (zQ (T*lN h.ps) LA));rw[rl]at this;exact this
 have E:Aq [.ref (lN Γ+T*lN h.ps)] (hP Γ (Ay (lN h.ps) ss f (zQ (T*lN h.ps) LA))++[.lst []])=.ok (.int ((T:Int)*(lN h.ps:Int))) (hP Γ (Ay (lN h.ps) ss f (zQ (T*lN h.ps) LA))++[.lst []]):=by rw[b];simp[Q]
 have P:=dR (G:=hP Γ (Ay (lN h.ps) ss f (zQ (T*lN h.ps) LA))++[.lst []]) (j:=(T:Int)*(lN h.ps:Int)) (c:=(lN h.ps:Int)) ⟨by lia,by lia,by rw[b];lia,by rw[b];lia⟩;rw[iI k]at P;have td:tidy Γ (.ok (.ref (lN (hP Γ (Ay (lN h.ps) ss f (zQ (T*lN h.ps) LA))))) (hP Γ (Ay (lN h.ps) ss f (zQ (T*lN h.ps) LA))++[.lst ((Dk (Ay (lN h.ps) ss f (zQ (T*lN h.ps) LA)) (lN h.ps) T 0 lv).map YE)]))=.ok (.ref (lN Γ)) (Γ++[.lst ((Dk (Ay (lN h.ps) ss f (zQ (T*lN h.ps) LA)) (lN h.ps) T 0 lv).map YE)]):=by
  rw[Pj,xI];unfold hP;rw[qW];refine X5 _ ?_ DJ;rw[zO (by simp)];simp
 have i0:∀H:DH,Af (GC lv cm) (.int 0) H=.ok (tupI lv) H:=λH=>by unfold GC;simp
 unfold Qi eW;rw[Al];simp only[Sv,zY,qy,j4,qH,zQ,Z,t2,t3,Rb];generalize hP Γ (Ay (lN h.ps) ss f (zQ (T*lN h.ps) LA))=H3,(Dk (Ay (lN h.ps) ss f (zQ (T*lN h.ps) LA)) (lN h.ps) T 0 lv).map YE=PS,GC lv cm=SE,tupI lv=LV,f.map D.int=FF at*;simp[Ac,tn,i0,E,P,l,td]
end
noncomputable def XN(p:List Int)(n w:Nat):List Int:=(p.drop (w*n)).take n
def Gp(p:List Int)(n T:Nat):List (List Int):=(zW T).map λw=>XN p n w
def DL{lv:List Int}{left:List Int}(g:GV h lv cm fl GA left)(ok:SF (lN fl*lN h.ps) (MD h (lN GA) left 0 GA) (Cz lv cm 0 fl))(J:∀s∈ZC h 0 (lN GA),s.1<lN GA/\s.2.1<lN h.ps/\s.2.2<6)(G:DH)(hT:DO.tab "Sending" "send_by"∈G):
  ∃(e:Int)(f p:List Int),RG (lN fl*lN h.ps) (MD h (lN GA) left 0 GA) (Cz lv cm 0 fl) e f p/\
   Lg [h.enc,GC lv cm,.fl (fl.map tupI),.fl (PC GA),.tup (left.map D.int)] G=.ok (.tup [.int e,.ref (lN G+4),.ref (lN G+3)]) (hD G h (lN GA) (MD h (lN GA) left 0 GA) (ZC h 0 (lN GA))++[.lst ((Gp p (lN h.ps) (lN GA)).map tupI),.lst ((Dk (Ay (lN h.ps) (ZC h 0 (lN GA)) f (zQ (lN GA*lN h.ps) LA)) (lN h.ps) (lN GA) 0 lv).map YE)]):=by
 have q:=g.n1;have hn5:=g.n5;have Y:=g.RY;have v:=g.pn;have T?:=g.nt;have h3:3*lN h.ps*lN GA<900:=by rw[v,Nat.mul_assoc];lia
 have X:=Ch g.hg (by lia) (by lia) g.lf.1 (λy hy=>(g.pr y hy).1) h3 G;obtain⟨H,n⟩:∃H,H=hD G h (lN GA) (MD h (lN GA) left 0 GA) (ZC h 0 (lN GA)):=⟨_,rfl⟩;have cs:=Cn g.lv.1 g.cm.1 (λr hr=>(g.cm.2 r hr).1) (λf hf=>(g.fr f hf).1) (by lia) H;have M:DO.tab "Sending" "send_by"∈H:=by rw[n];exact qT _ hT
 have hA:H[lN G+1]?=uA (.lst ((MD h (lN GA) left 0 GA).map JB)):=by rw[n];exact W?
 obtain⟨e,f,p,B,cb⟩:=CH ok H hA M;refine⟨e,f,p,B,?_⟩;have nl:=R9 (h:=h) (T:=lN GA) (left:=left) GA 0;have u:lN H=lN G+3:=by rw[n];exact WL
 have hS:H[lN G+2]?=uA (.lst ((ZC h 0 (lN GA)).map Ci)):=by rw[n];exact X?
 have O:H[lN G]?=uA (.ins "Draft" (ZJ h (lN GA) (lN G))):=by rw[n];exact IT
 have E0:(H++[DO.lst ((Gp p (lN h.ps) (lN GA)).map tupI)])[lN G]?=uA (.ins "Draft" (ZJ h (lN GA) (lN G))):=by rw[zC (by lia)];exact O
 have cp:=DK E0 (by rw[zC (by lia)];exact hS) q (by lia) (by lia) J (by rw[B.lf,nl.2]) (cm:=cm) g.lv.1;rw[<-n]at X;rw[qW]at cp;have C:lN (H++[DO.lst ((Gp p (lN h.ps) (lN GA)).map tupI)])=lN G+4:=by simp[u]
 rw[C]at cp;have fa:Cr "Draft" "arcs" (.ref (lN G)) H=.ok (.ref (lN G+1)) H:=De O rfl;have N:=λt S=>Sq (m:="pages_by") (F:=Qi) (ta:=t) (S:=S) E0 rfl
 have mk:∀(t:List D)(d:DH),Rm O9 "Draft" [h.enc,.fl (PC GA),.tup (left.map D.int)] G=.ok (.ref (lN G)) H:=λ_ _=>by simp[Rm,X]
 have fb:freeze H (.ok (.tup [.int e,.fl (f.map D.int),.fl (p.map D.int)]) H)=.ok (.tup [.int e,.fl (f.map D.int),.fl (p.map D.int)]) H:=Qa (by show(uC&&(NA _ _&&(NA _ _&&uC)))=uC;rw[Dm,Dm];rfl);have U:lN ((Cz lv cm 0 fl).map D.int)=lN fl*lN h.ps:=by rw[zq];exact ok.sl
 have P:=B.lp;have L:(lN (p.map D.int):Int)=(lN fl:Int)*(lN h.ps:Int):=by rw[zq,P];exact jW ..
 have h1:∀G,Af h.enc (.int 1) G=.ok (.tup (h.ps.map RP.enc)) G:=λG=>Dw
 have hl:∀G,Aq [.tup (h.ps.map RP.enc)] G=.ok (.int (lN h.ps:Int)) G:=λG=>by simp
 have W:=dR (G:=H) (j:=(lN fl:Int)*(lN h.ps:Int)) (c:=(lN h.ps:Int)) ⟨by lia,by lia,by rw[<-jW];lia,by rw[<-jW];have:=Nat.mul_comm (lN fl) (lN h.ps);lia⟩;rw[iI q]at W;have rc:∀l:List Nat,(∀w∈l,w<lN fl)->Bo (gV 0) Ao Oe [uB,zF (p.map D.int),zI (lN h.ps:Int)] (l.map λ(k:Nat)=>D.int ((k:Int)*(lN h.ps:Int))) H=.ok ((l.map λw=>XN p (lN h.ps) w).map tupI) H:=λl=>by
  induction l with
  |nil=>exact λ_=>rfl
  | cons w l ih=>
   intro o;have hw:=o w (by simp);have E:w*lN h.ps+lN h.ps<=lN p:=by rw[P,<-j0];exact qD _ (by lia)
   have ec:cutD (p.map D.int) (uA ((w:Int)*(lN h.ps:Int))) (uA ((w:Int)*(lN h.ps:Int)+(lN h.ps:Int)))=(XN p (lN h.ps) w).map D.int:=by
    rw[(jW ..).symm,(jG ..).symm,iF (by lia) (by simpa using E),qR,<-List.map_drop,<-List.map_take]
    rfl
   have I:Gq (.fl (p.map D.int)) (uA ((w:Int)*(lN h.ps:Int))) (uA ((w:Int)*(lN h.ps:Int)+(lN h.ps:Int))) H=.ok (.ref (lN H)) (H++[.lst ((XN p (lN h.ps) w).map D.int)]):=by rw[Oa,ec]
   have f1:freeze H (.ok (.ref (lN H)) (H++[.lst ((XN p (lN h.ps) w).map D.int)]))=.ok (.fl ((XN p (lN h.ps) w).map D.int)) H:=Bj Dm;have Q:Oe [zI ((w:Int)*(lN h.ps:Int)),zF (p.map D.int),zI (lN h.ps:Int)] H=.ok (tupI (XN p (lN h.ps) w)) H:=by unfold Oe tupI;generalize(XN p (lN h.ps) w).map D.int=Z,p.map D.int=PP at*;simp[-Oa,I,f1]
   rw[zY,Gk];simp[Q,ih λx hx=>o x (zV _ hx)]
 have K:Bo (gV 0) Ao Oe [uB,zF (p.map D.int),zI (lN h.ps:Int)] (Ml (lN h.ps:Int) (lN fl)) H=.ok ((Gp p (lN h.ps) (lN GA)).map tupI) H:=by rw[v];exact rc (zW (lN fl)) λw hw=>qz.mp hw
 have lr:lN ((Gp p (lN h.ps) (lN GA)).map tupI)<=1000000:=by simp[Gp];lia
 have A:∀a b c d e f g h i j k l:Option D,Be 1 [9,10] [a,b,c,d,e,f,g,h,i,j,k,l]=[uB,j,k]:=λ_ _ _ _ _ _ _ _ _ _ _ _=>rfl
 have td:∀z:DH,tidy G (.ok (.tup [.int e,.ref (lN G+4),.ref (lN G+3)]) z)=.ok (.tup [.int e,.ref (lN G+4),.ref (lN G+3)]) z:=λz=>by unfold tidy;simp[QB,NA];lia
 rw[jW ..]at cb;rw[<-n];generalize(Dk (Ay (lN h.ps) (ZC h 0 (lN GA)) f (zQ (lN GA*lN h.ps) LA)) (lN h.ps) (lN GA) 0 lv).map YE=PG,(Gp p (lN h.ps) (lN GA)).map tupI=PR,(Cz lv cm 0 fl).map D.int=SU,f.map D.int=FF,p.map D.int=PP,PC GA=PY,left.map D.int=LF,fl.map tupI=FL,GC lv cm=SE,h.ps.map RP.enc=YY,h.enc=Q at*;unfold Lg fK;rw[Al];simp[mk [] [],cs,U,fa,cb,fb,h1,hl,L,W,A,K,Ac,lr,u,N,cp,td]
def DM(c:ns.Nodup){x:Str}(h:ns[j]?=uA x):ns.idxOf x=j:=by
 obtain⟨d,e⟩:=zX.mp h;have a:=xA.mpr (zP h);have b:=List.getElem_idxOf a;rcases Nat.lt_trichotomy (ns.idxOf x) j with q|q|q
 .exact absurd (b.trans e.symm) (jN.mp c _ _ a d q)
 .exact q
 exact absurd (e.trans b.symm) (jN.mp c _ _ d a q)
def Uk(g:HG h)(hp:h.ps[k]?=uA p){d:Nat}(hd:ZD h p=uA d):k<d/\d<lN h.ps:=by
 obtain⟨j,f,e⟩:=(g.pg k p hp).dn;unfold ZD at hd;split at hd
 .cases hd
 rename_i hs;have a:j<lN (QC h):=by
  have b:=(zX.mp e).1;rw[zH]at b;by_cases q:j<lN (QC h)
  .exact q
  .exfalso
   have c:j=lN (h.ps.map RP.nm):=by have:lN (QC h)=lN (h.ps.map RP.nm):=rfl;simp at b;rw[this]at q;simp at q;simp;lia
   rw[c,zO (zx _),Nat.sub_self]at e;exact hs (Option.some.inj e).symm
 have q:=DM (ns:=QC h) g.ng.nd ((zC a).symm.trans e);rw[<-(Option.some.inj hd),q];refine⟨f,?_⟩;simpa[QC]using a
theorem Uh{d:Option Nat}(hd:∀j,d=uA j->j<n):Az n T w d<=T*n:=by
 unfold Az;cases d with
 |none=>exact zx _
 |some j=>
  dsimp only;split
  .exact zx _
  have:=hd j rfl;have a:w*n+j<(w+1)*n:=by rw[xP,vV];lia
  exact jU (zj a (qD _ (by lia)))
def Iu(hw:w<T)(hk:k<n):w*n+k<T*n:=by
 have a:w*n+k<(w+1)*n:=by rw[xP,vV];lia
 exact zj a (qD _ (by lia))
theorem Tj(hw:w<T)(hk:k<n){d:Option Nat}(h:∀j,d=uA j->w<w'\/w<=w'/\k<j):w*n+k<Az n T w' d:=by
 have a:=Iu hw hk;unfold Az;cases d with
 |none=>exact a
 | some j=>
  dsimp only;split
  .exact a
  rcases h j rfl with z|⟨z,e⟩
  .have c:w*n+k<(w+1)*n:=by rw[xP,vV];lia
   have b:(w+1)*n<=w'*n:=qD _ (by lia);lia
  .have b:w*n<=w'*n:=qD _ z;lia
section
variable{h:RH}{T w k:Nat}{p:RP}
def iJ(g:HG h)(hw:w<T)(hp:h.ps[k]?=uA p){mo:Option Int}{ga:Int}(d:∀b,mo=uA b->0<=b)(c: -1000<=ga/\ga<=1000):KB (T*lN h.ps) (LC h T w k p mo ga):=by have hk:=(zX.mp hp).1;exact⟨Iu hw hk,Tj hw hk (λj a=>.inr ⟨by lia,(Uk g hp a).1⟩),Uh (λj a=>(Uk g hp a).2),d,c⟩
theorem DN(g:HG h)(hw:w<T)(hp:h.ps[k]?=uA p){left:Int}(A:0<=pay/\pay<=900)(B:0<=left/\left<=600):∀x∈UC h T w k pay left p,KB (T*lN h.ps) x:=by
 have hk:=(zX.mp hp).1;have i:=iJ g hw hp (mo:=uB) (ga:=0) (λb z=>by cases z) (by lia);have e:=(g.pg k p hp).kd;intro x c;unfold UC at c;cases f:p.kd with
 |XC a b=>
  rw[f]at c e;have e:0<=a:=e;rcases zw.mp c with rfl|c
  .exact⟨Iu hw hk,Tj (d:=uB) (w':=w) hw hk (λj z=>by cases z),Uh (d:=uB) (w:=w) (λj z=>by cases z),(λb z=>by cases z;exact e),by dsimp only;lia⟩
  rw[jx.mp c];exact i
 |YC a=>
  rw[f]at c e;have e:0<=a:=e;rcases zw.mp c with rfl|c
  .exact iJ g hw hp (λb z=>by cases z;exact e) (by lia)
  rw[jx.mp c];exact i
 | OA b r q=>
  rw[f]at c e;obtain⟨l,n⟩:=e;dsimp only at c;rcases qJ.mp c with c|c
  .rcases zw.mp c with rfl|c
   .exact i
   cases q with
   |none=>cases c
   |some z=>
    obtain⟨t,d,m⟩:=z;obtain⟨s,v,o⟩:=n t d m rfl;have u:(QC h).idxOf t<lN h.ps:=by have:=xA.mpr s;simpa[QC]using this
    rw[jx.mp (c)];exact⟨Iu hw hk,Tj (d:=uA ((QC h).idxOf t)) hw hk (λj z=>.inl (by lia)),Uh (d:=uA ((QC h).idxOf t)) (λj z=>by cases z;exact u),(λb z=>by cases z;exact o),by dsimp only;lia⟩
  rw[jx.mp c]
  exact⟨Iu hw hk,Tj (d:=uA k) hw hk (λj z=>.inl (by lia)),Uh (d:=uA k) (λj z=>by cases z;exact hk),(λy z=>by cases z;exact l),by dsimp only;split <;> lia⟩
def DP{left:Int}:LC h T w k p uB 0∈UC h T w k pay left p:=by
 unfold UC
 cases p.kd<;>simp
theorem Qd:∀s∈UD w k p,s.1=w/\s.2.1=k/\s.2.2<6:=by
 intro s hs;unfold UD at hs;cases c:p.kd with
 |XC a b=>rw[c]at hs;simp at hs;rcases hs with rfl|rfl<;>simp
 |YC a=>rw[c]at hs;simp at hs;subst hs;simp
 |OA b r q=>
  rw[c]at hs;cases q with
  |none=>simp[HR]at hs;rcases hs with rfl|rfl<;>simp
  |some z=>simp[HR]at hs;rcases hs with rfl|rfl|rfl<;>simp
end
theorem iK{h:RH}{T w:Nat}{y left:List Int}:∀(ps:List RP)(f j:Nat)(p:RP),ps[j]?=uA p->∃a b:List ZA,∃c d:List Spot,ME h T w y left f ps=a++UC h T w (f+j) (Aa y (f+j)) (Aa left (f+j)) p++b/\ND w f ps=c++UD w (f+j) p++d/\lN a=lN c/\(∀s∈c,s.1=w/\f<=s.2.1/\s.2.1<f+j)/\∀s∈d,s.1=w/\f+j<s.2.1/\s.2.1<f+lN ps
 |[],_,_,_,m=>by simp at m
 | p0::ps,f,0,p,m=>by
  have e:p0=p:=by simpa using m
  subst e;refine⟨[],ME h T w y left (f+1) ps,[],ND w (f+1) ps,by simp[ME],by simp[ND],rfl,by simp,λs hs=>?_⟩;have all:∀(ps:List RP)(k:Nat),∀s∈ND w k ps,s.1=w/\k<=s.2.1/\s.2.1<k+lN ps:=λps=>by
   induction ps with
   |nil=>exact λk s hs=>by simp[ND]at hs
   |cons q ps v=>
    intro k s hs;rcases qJ.mp hs with hs|hs
    .obtain⟨g,i,_⟩:=Qd s hs;exact⟨g,by lia,by simp;lia⟩
    obtain⟨g,i,n⟩:=v (k+1) s hs;exact⟨g,by lia,by simp;lia⟩
  obtain⟨g,i,n⟩:=all ps (f+1) s hs;exact⟨g,by lia,by simp;lia⟩
 | p0::ps,f,j+1,p,m=>by
  obtain⟨a,b,c,d,g,i,n,r,t⟩:=iK (h:=h) (T:=T) (w:=w) (y:=y) (left:=left) ps (f+1) j p (by simpa using m);have x:f+1+j=f+(j+1):=by lia
  rw[x]at g i r t;refine⟨UC h T w f (Aa y f) (Aa left f) p0++a,b,UD w f p0++c,d,by simp[ME,g],by simp[ND,i],by rw[zH,zH,n,Vu.2],λs hs=>?_,λs hs=>?_⟩
  .rcases qJ.mp hs with hs|hs
   .obtain⟨l,o,_⟩:=Qd s hs;exact⟨l,by lia,by lia⟩
   obtain⟨l,o,u⟩:=r s hs;exact⟨l,by lia,by lia⟩
  obtain⟨l,o,u⟩:=t s hs;exact⟨l,o,by simp;lia⟩
theorem Nx:∀(ps:List RP)(k:Nat),∀s∈ND w k ps,s.1=w/\s.2.1<k+lN ps/\s.2.2<6
 |[],k,s,hs=>by simp[ND]at hs
 |p::ps,k,s,hs=>by
  rcases qJ.mp hs with hs|hs
  .obtain⟨b,c,a⟩:=Qd s hs;exact⟨b,by simp;lia,a⟩
  obtain⟨b,c,a⟩:=Nx ps (k+1) s hs;exact⟨b,by simp;lia,a⟩
theorem Sh:∀(m w:Nat),∀s∈ZC h w m,w<=s.1/\s.1<w+m/\s.2.1<lN h.ps/\s.2.2<6
 |0,w,s,hs=>by simp[ZC]at hs
 |m+1,w,s,hs=>by
  rcases qJ.mp hs with hs|hs
  .obtain⟨c,b,a⟩:=Nx h.ps 0 s hs;exact⟨by lia,by lia,by lia,a⟩
  obtain⟨c,b,a⟩:=Sh m (w+1) s hs;exact⟨by lia,by lia,a⟩
structure Seg (h:RH) (T:Nat) (left:List Int) (w0:Nat) (ys:List (List Int)) (w k:Nat) (y:List Int) (p:RP) (a b:List ZA) (c d:List Spot):Prop where
 ea:MD h T left w0 ys=a++UC h T w k (Aa y k) (Aa left k) p++b
 es:ZC h w0 (lN ys)=c++UD w k p++d
 le:lN a=lN c
 hc:∀s∈c,s.2.1<lN h.ps/\(s.1=w->s.2.1≠k)
 hd:∀s∈d,s.2.1<lN h.ps/\(s.1=w->s.2.1≠k)
theorem iL{T:Nat}{left:List Int}(hp:h.ps[k]?=uA p):∀(ys:List (List Int))(f j:Nat)(y:List Int),ys[j]?=uA y->∃a b c d,Seg h T left f ys (f+j) k y p a b c d
 |[],_,_,_,i=>by simp at i
 |m::ys,f,0,y,i=>by
  have e:m=y:=by simpa using i
  subst e;obtain⟨a,b,c,d,r,o,u,n,t⟩:=iK h.ps 0 k p hp;rw[qS]at r o n t;have hk:=(zX.mp hp).1;refine⟨a,b++MD h T left (f+1) ys,c,d++ZC h (f+1) (lN ys),?_,?_,u,λs hs=>?_,λs hs=>?_⟩
  .rw[MD,r];simp
  .rw[zE,ZC,o];simp
  .obtain⟨_,_,q⟩:=n s hs;exact⟨by lia,λ_=>by lia⟩
  rcases qJ.mp hs with hs|hs
  .obtain⟨_,q,l⟩:=t s hs;exact⟨by lia,λ_=>by lia⟩
  .obtain⟨q,_,l,_⟩:=Sh _ _ s hs;exact⟨l,λ_=>by lia⟩
 |m::ys,f,j+1,y,i=>by
  obtain⟨a,b,c,d,g⟩:=iL hp (T:=T) (left:=left) ys (f+1) j y (by simpa using i);have v:f+1+j=f+(j+1):=by lia
  rw[v]at g;refine⟨ME h T f m left 0 h.ps++a,b,ND f 0 h.ps++c,d,?_,?_,?_,λs hs=>?_,g.hd⟩
  .rw[MD,g.ea];simp
  .rw[zE,ZC,g.es];simp
  .rw[zH,zH,(Q7 ..).2,g.le]
  rcases qJ.mp hs with hs|hs
  .obtain⟨w,l,_⟩:=Nx _ _ s hs;exact⟨by lia,λ_=>by lia⟩
  exact g.hc s hs
theorem iM(g:HG h)(hw:w<T){left:List Int}(b:∀k,0<=Aa y k/\Aa y k<=900)(c:∀k,0<=Aa left k/\Aa left k<=600):∀(ps:List RP)(k:Nat),(∀i p,ps[i]?=uA p->h.ps[k+i]?=uA p)->∀x∈ME h T w y left k ps,KB (T*lN h.ps) x
 |[],k,_,x,a=>by simp[ME]at a
 |p::ps,k,e,x,a=>by
  rcases qJ.mp a with a|a
  .exact DN g hw (e 0 p rfl) (b k) (c k) x a
  exact iM g hw b c ps (k+1) (λi q d=>by rw[xB];exact e (i+1) q d) x a
theorem Ku{P:Int->Prop}(a:P 0){l:List Int}(h:∀x∈l,P x)(k:Nat):P (Aa l k):=by
 unfold Aa;rw[zK];cases e:l[k]? with
 |none=>exact a
 |some v=>exact h v (zP e)
theorem iO(g:HG h){left:List Int}(c:∀k,0<=Aa left k/\Aa left k<=600):∀(ys:List (List Int))(w:Nat),w+lN ys<=T->(∀y∈ys,∀x∈y,0<=x/\x<=900)->∀x∈MD h T left w ys,KB (T*lN h.ps) x
 |[],w,_,_,x,a=>by simp[MD]at a
 |y::ys,w,hw,b,x,a=>by
  rw[zE]at hw;rcases qJ.mp a with a|a
  .exact iM g (by lia) (Ku (by lia) (b y (by simp))) c h.ps 0 (λi p hp=>by rw[qS];exact hp) x a
  exact iO g c ys (w+1) (by lia) (λz d=>b z (zV _ d)) x a
theorem iP{lv:List Int}(f:∀x∈lv,Bd x)(d:∀r∈cm,∀x∈r,Bd x):∀(xs:List Int)(k:Nat),(∀x∈xs,Bd x)->∀v∈Dz lv cm w k xs,0<=v/\v<10^40
 |[],k,_,v,b=>by simp[Dz]at b
 | x::xs,k,g,v,b=>by
  rcases zw.mp b with rfl|b
  .have c:Bd 0:=⟨by decide,by decide⟩;have i:=g x (by simp);have j:=Ku c f k;have h:Bd (Aa (cm.getD k []) w):=Ku c (λz a=>by
    rw[zK]at a;cases e:cm[k]? with
    |none=>rw[e]at a;simp at a
    |some r=>rw[e]at a;exact d r (zP e) z a) w
   unfold Bd at i j h;unfold Fv
   split <;> split <;> lia
  exact iP f d xs (k+1) (λz a=>g z (zV _ a)) v b
theorem iQ{lv:List Int}(d:∀x∈lv,Bd x)(c:∀r∈cm,∀x∈r,Bd x):∀(fs:List (List Int))(w:Nat),(∀f∈fs,lN f=n/\∀x∈f,Bd x)->lN (Cz lv cm w fs)=lN fs*n/\∀v∈Cz lv cm w fs,0<=v/\v<10^40
 |[],w,_=>⟨by simp[Cz],λv a=>by simp[Cz]at a⟩
 |f::fs,w,b=>by
  obtain⟨h,i⟩:=iQ d c fs (w+1) λz g=>b z (zV _ g)
  obtain⟨e,j⟩:=b f (by simp);refine⟨by rw[Cz,zH,Ot,h,e,zE,xP];lia,λv a=>?_⟩;rcases qJ.mp a with a|a
  .exact iP d c f 0 j v a
  exact i v a
def T7{lv:List Int}{left:List Int}(g:GV h lv cm fl GA left):SF (lN fl*lN h.ps) (MD h (lN GA) left 0 GA) (Cz lv cm 0 fl):=by
 have f:=g.n1;have l:=g.nt;have e:=g.pn;have p:=(R9 (h:=h) (T:=lN GA) (left:=left) GA 0).1;obtain⟨o,j⟩:=iQ g.lv.2 (λr m=>(g.cm.2 r m).2) fl 0 g.fr;have t:lN fl*lN h.ps=lN h.ps*lN fl:=Nat.mul_comm ..;refine⟨Nat.mul_pos g.t1 f,by lia,?_,?_,λu s=>?_,o,λx i=>(j x i).1,λx i=>(j x i).2⟩
 .have q:3*lN h.ps*lN GA<=60:=by rw[e,Nat.mul_assoc];lia
  lia
 .rw[<-e];exact iO g.hg (Ku (by lia) g.lf.2) GA 0 (by lia) λy n=>(g.pr y n).2
 have hk:u%lN h.ps<lN h.ps:=Nat.mod_lt _ f;have hw:u/lN h.ps<lN GA:=by rw[e];exact Nat.div_lt_of_lt_mul (by lia)
 obtain⟨a,b,c,d,k⟩:=iL (zZ hk) GA 0 _ _ (zZ hw);rw[qS]at k;refine⟨LC h (lN GA) (u/lN h.ps) (u%lN h.ps) h.ps[u%lN h.ps] uB 0,?_,?_,rfl⟩
 .rw[k.ea];exact qT _ (zG _ DP)
 .show u/lN h.ps*lN h.ps+u%lN h.ps=u;rw[Nat.mul_comm];exact Nat.div_add_mod ..
theorem Vx(G:DH):∀ps:List RP,Bo (gV 0) Ao Uc [uB] (ps.map RP.enc) G=.ok ((ps.map RP.nm).map D.str) G
 |[]=>rfl
 |p::ps=>by
  have a:Uc [uA p.enc] G=.ok (.str p.nm) G:=by unfold Uc;simp
  rw[zY,Gk];simp[a,Vx G ps]
def DQ(G:DH):∀ps:List RP,Bo (gV 0) Ao dz [uB] (ps.map RP.enc) G=.ok ((ps.map RP.nm).map D.str) G:=Vx G
def iR{x:Str}(h:x∈ns)(a:lN ns<=1000000)(G:DH):Ls (.fl (ns.map D.str)) [.str x] G=.ok (.int (ns.idxOf x)) G:=by
 show(match Ke (ns.map D.str)with |some ns=>if x∈ns/\lN ns<=1000000 then R.ok (D.int (ns.idxOf x)) G else .bad|none=>.bad)=_
 rw[su _];exact if_pos ⟨h,a⟩
def iS(h:RH)(G:DH):freeze G (.ok (.ref (lN G)) (G++[.lst ((QC h).map D.str)]))=.ok (.fl ((QC h).map D.str)) G:=Bj R3
def DR(g:HG h)(s:lN h.ps<=100)(hp:h.ps[k]?=uA p)(G:DH):Nb [h.enc,.int (k:Int)] G=.ok (dN (ZD h p)) G:=by
 have j:∀G,Af h.enc (.int 1) G=.ok (.tup (h.ps.map RP.enc)) G:=λG=>Dw
 have a:=Hq hp;have e:=λG=>Vx G h.ps
 have l:=λG=>iS h G
 have i:lN ((QC h).map D.str)<=1000000:=by unfold QC;simp;lia
 have d:∀a b c:Option D,Be 1 [] [a,b,c]=[uB]:=λ_ _ _=>rfl
 have n:(h.ps.map RP.nm).map D.str=(QC h).map D.str:=rfl;have f:∀G,Af p.enc (.int 2) G=.ok (.str p.dn) G:=λG=>ZQ
 rw[n]at e;unfold ZD dN;by_cases hs:p.dn="sea"
 .rw[if_pos hs];rw[hs]at f;generalize(QC h).map D.str=Z,h.ps.map RP.enc=Y,p.enc=m,h.enc=q at*;unfold Nb Yp;rw[Al];simp[j,d,e,i,l,a,f,Bl]
 .rw[if_neg hs];have o:=λG=>iR ((PG.mem g hp).resolve_left hs) (by unfold QC;simp;lia) G
  generalize(QC h).idxOf p.dn=r,(QC h).map D.str=Z,h.ps.map RP.enc=Y,p.enc=m,h.enc=q at*;unfold Nb Yp;rw[Al];simp[j,d,e,i,l,a,f,hs,o,Bl]
def Zs(v:lN h.ps<=100)(hp:h.ps[k]?=uA p){b:Int}{r:List WS}{t:Str}{d m:Int}(hk:p.kd=.OA b r (uA (t,d,m)))(i:t∈QC h)(G:DH):Qv [h.enc,.int (k:Int)] G=.ok (.int ((QC h).idxOf t:Nat)) G:=by
 have j:∀G,Af h.enc (.int 1) G=.ok (.tup (h.ps.map RP.enc)) G:=λG=>Dw
 have a:=Hq hp;have f:=λG=>DQ G h.ps
 have o:=λG=>iS h G
 have g:lN ((QC h).map D.str)<=1000000:=by unfold QC;simp;lia
 have e:∀a b c:Option D,Be 1 [] [a,b,c]=[uB]:=λ_ _ _=>rfl
 have l:(h.ps.map RP.nm).map D.str=(QC h).map D.str:=rfl;have n:=λG=>iR i (by unfold QC;simp;lia) G
 have q:∀G,Af p.enc (.int 6) G=.ok (.tup [.str t,.int d,.int m]) G:=λG=>by unfold RP.enc RP.row RK.rest;rw[hk];simp[OL]
 rw[l]at f;generalize x:(((QC h).idxOf t:Nat):Int)=u,(QC h).map D.str=Z,h.ps.map RP.enc=Y,p.enc=s,h.enc=w at*;unfold Qv eB;rw[Al];simp[j,e,f,g,o,a,q,n,Bl]
def DT{p:List Int}(hp:lN p=T*n)(hw:w<T):lN (XN p n w)=n:=by have q:(w+1)*n<=T*n:=qD _ hw;rw[xP,vV]at q;unfold XN;rw[qN,qI];lia
theorem iT:∀(s1:List Spot)(b:List Int)(s2:List Spot)(a:List Int)(rs:List (List Int)),lN s1=lN b->Ay n (s1++s2) (b++a) rs=Ay n s2 a (Ay n s1 b rs)
 |[],[],s2,a,rs,_=>by simp[Ay]
 |s::s1,c::b,s2,a,rs,h=>iT s1 b s2 a _ (by simpa using h)
 |[],_::_,_,_,_,h|_::_,[],_,_,_,h=>by simp at h
def DV{v:Nat}(h:v≠u):(JH rs v q c).getD u []=rs.getD u []:=by unfold JH;rw[zK,z0 h,<-zK]
def Oj(h:u<lN rs):(JH rs u q c).getD u []=(rs.getD u []).set q (Aa (rs.getD u []) q+c):=by
 generalize e:(rs.getD u []).set q (Aa (rs.getD u []) q+c)=Z;unfold JH;rw[e,zK,qA h]
 rfl
theorem Qs:∀(ss:List Spot)(cs:List Int)(rs:List (List Int)),(∀s∈ss,s.1*n+s.2.1≠u)->(Ay n ss cs rs).getD u []=rs.getD u []
 |s::ss,c::cs,rs,h=>(Qs ss cs _ λx a=>h x (zV _ a)).trans (DV (h s (by simp)))
 |[],cs,rs,_=>by cases cs<;>rfl
 |_::_,[],_,_=>rfl
def J1{f:List Int}(h:l<lN f):f.drop l=Aa f l::f.drop (l+1):=by rw[zU h,Gf h]
noncomputable def Ny(p:RP)(x y z:Int):List Int:=match p.kd with
 |.XC _ _=>[0,x,0,y,0,0]
 |.YC _=>[0,0,0,x+y,0,0]
 |.OA _ _ uB=>[0,0,0,x,0,y]
 |.OA _ _ (uA _)=>[0,0,0,x,y,z]
theorem DW{f:List Int}(i:l+lN (UD w k p)<=lN f)(h:w*n+k<lN rs)(e:rs.getD (w*n+k) []=LA):(Ay n (UD w k p) ((f.drop l).take (lN (UD w k p))) rs).getD (w*n+k) []=Ny p (Aa f l) (Aa f (l+1)) (Aa f (l+2)):=by
 have two:∀d g x y,(Ay n [(w,k,d),(w,k,g)] [x,y] rs).getD (w*n+k) []=(LA.set d (Aa LA d+x)).set g (Aa (LA.set d (Aa LA d+x)) g+y):=λd g x y=>by show(JH (JH rs (w*n+k) d x) (w*n+k) g y).getD (w*n+k) []=_;rw[Oj (by rw[Mj];exact h),Oj h,e]
 unfold UD Ny at*;cases c:p.kd with
 |XC a b=>
  simp only[c,zE,xZ]at i;rw[J1 (by lia),J1 (by lia)];refine(two 1 3 _ _).trans ?_;simp[LA,Aa]
 |YC a=>
  simp only[c,zE,xZ]at i;rw[J1 (by lia),J1 (by lia)];refine(two 3 3 _ _).trans ?_;simp[LA,Aa]
 | OA b r q=>
  cases q with
  |none=>
   simp only[c,HR,zE,xZ,qV,j4,qH]at i;rw[J1 (by lia),J1 (by lia)];refine(two 3 5 _ _).trans ?_;simp[LA,Aa]
  |some z=>
   simp only[c,HR,zE,xZ,qV,j4,qH]at i;rw[J1 (by lia),J1 (by lia),J1 (by lia)];show(JH (JH (JH rs (w*n+k) 3 _) (w*n+k) 4 _) (w*n+k) 5 _).getD (w*n+k) []=_;rw[Oj (by rw[Mj,Mj];exact h),Oj (by rw[Mj];exact h),Oj h,e];simp[LA,Aa]
theorem iU{R:List (List Int)}:∀(m w:Nat)(lay:List Int),lN (Dk R n m w lay)=m
 |0,_,_=>rfl
 |m+1,w,lay=>congrArg (· + 1) (iU m (w+1) _)
theorem iV{R:List (List Int)}(b:∀r∈R,lN r=6)(a:lN R=T*n):∀(m w:Nat)(lay:List Int),w+m<=T->∀pg∈Dk R n m w lay,lN pg=n/\∀r∈pg,lN r=6
 |0,_,_,_,pg,hp=>by simp[Dk]at hp
 | m+1,w,lay,hw,pg,hp=>by
  rcases zw.mp hp with rfl|hp
  .refine⟨by simp[HE],λr d=>?_⟩;obtain⟨i,e,rfl⟩:=qY.mp d;have c:w*n+i<lN R:=by rw[a];exact Iu (by lia) (qz.mp e)
   have f:lN (R.getD (w*n+i) [])=6:=by rw[zK,zZ c];exact b _ (qw _)
   show lN ((R.getD (w*n+i) []).drop 1)+1=6;rw[qI,f]
  .exact iV b a m (w+1) _ (by lia) pg hp
theorem Xa(G:DH):∀xs:List Int,Bo (gV 0) Ao T3 [uB] (xs.map D.int) G=.ok ((xs.map λ_=>uC).map D.bl) G
 |[]=>rfl
 |x::xs=>by
  have a:T3 [zI x] G=.ok (.bl uC) G:=by unfold T3;simp[Zu]
  rw[zY,Gk];simp[a,Xa G xs]
def Yz(G:DH)(l:List Bool):freeze G (.ok (.ref (lN G)) (G++[.lst (l.map D.bl)]))=.ok (.fl (l.map D.bl)) G:=Bj (Fb λ_ _=>rfl)
def Yu{b:Type}(xs:List b)(G:DH):J6 [.fl ((xs.map λ_=>uC).map D.bl)] G=.ok (.bl uC) G:=by
 have a:((xs.map λ_=>uC).all id)=uC:=by simp
 rw[sV,a]
def DX{r:List Int}(e:lN r=6):U7 [s0,s1,uA (tupI r)] G=.nx [s0,s1,uA (tupI r)] G:=by
 have i:=λG=>Xa G r
 have d:∀a b c:Option D,Be 1 [] [a,b,c]=[uB]:=λ_ _ _=>rfl
 have f:lN ((r.map λ_=>uC).map D.bl)<=1000000:=by simp[e]
 have j:=λG=>Yz G (r.map λ_=>uC)
 have k:=λG=>Yu r G
 have g:lN (r.map D.int)=6:=by simp[e]
 have h:tupI r=.tup (r.map D.int):=rfl;rw[h];generalize(r.map λ_=>uC).map D.bl=Z,r.map D.int=Y at*;unfold U7;simp[WI,g,d,i,f,j,k]
theorem iW{s0 s1:Option D}{G:DH}:∀(pg:List (List Int))(x:Option D),(∀r∈pg,lN r=6)->∃y,Aw (gV 2) U7 (pg.map tupI) [s0,s1,x] G=.nx [s0,s1,y] G
 |[],x,_=>⟨x,rfl⟩
 |r::pg,x,h=>by
  obtain⟨y,b⟩:=iW pg (uA (tupI r)) λz a=>h z (zV _ a)
  refine⟨y,?_⟩;rw[zY,Dc];simp[DX (h r (by simp)) (s0:=s0) (s1:=s1) (G:=G)];exact b
def DY{pg:List (List Int)}(d:lN pg=n)(e:∀r∈pg,lN r=6)(G:DH):Qz [YE pg,.int (n:Int)] G=.ok (.bl uC) G:=by
 obtain⟨y,a⟩:=iW (s0:=uA (YE pg)) (s1:=zI (n:Int)) (G:=G) pg uB e;have b:lN (pg.map tupI)=n:=by simp[d]
 have c:YE pg=.tup (pg.map tupI):=rfl;rw[c]at a⊢;generalize pg.map tupI=Y at*;unfold Qz eJ;rw[Al];simp[WI,b,a,Bl]
def DZ{S:PB}{b:List (List (List Int))}(d:G[a]?=uA (.lst (b.map YE)))(h:∀pg∈b,lN pg=n/\∀r∈pg,lN r=6):Ei a (gV 0) Ao Yk [uB,zI (n:Int)] (lN (b.map YE)) 0 G=.ok ((b.map λ_=>uC).map D.bl) G:=by
 rw[W6 (F:=λ_=>zB uC) d λx e=>?_]
 .rw[xV,qk,qk]
  rfl
 .obtain⟨pg,hp,rfl⟩:=qY.mp e;obtain⟨c,f⟩:=h pg hp;refine⟨[uA (YE pg),zI (n:Int)],rfl,.inr ⟨rfl,.bl uC,?_,rfl⟩⟩;unfold Yk;simp[DY c f]
theorem iX{IE:List (List Int)}(i:G[b]?=uA (.lst (IE.map tupI)))(h:∀r∈IE,lN r=n)(w:n<=100):∀(m j:Nat)(x:Option D),j+m=lN IE->∃y,_D.forM b (gV 4) R4 m j [s0,s1,zI (n:Int),s3,x] G=.nx [s0,s1,zI (n:Int),s3,y] G
 |0,j,x,t=>⟨x,Rh i (by simp;lia)⟩
 | m+1,j,x,t=>by
  obtain⟨r,f⟩:∃r,IE[j]?=uA r:=⟨_,zZ (by lia)⟩;obtain⟨y,p⟩:=iX i h w m (j+1) (uA (tupI r)) (by lia);refine⟨y,?_⟩;have q:=h r (zP f);have z:R4 [s0,s1,zI (n:Int),s3,uA (tupI r)] G=.nx [s0,s1,zI (n:Int),s3,uA (tupI r)] G:=by
   have u:∀G,Bo (gV 0) Ao eK [uB] (r.map D.int) G=.ok ((r.map λ_=>uC).map D.bl) G:=λG=>Xa G r
   have g:∀a b c d e:Option D,Be 1 [] [a,b,c,d,e]=[uB]:=λ_ _ _ _ _=>rfl
   have k:lN ((r.map λ_=>uC).map D.bl)<=1000000:=by simp;lia
   have v:=λG=>Yz G (r.map λ_=>uC)
   have o:=λG=>Yu r G
   have l:lN (r.map D.int)=n:=by simp[q]
   have s:tupI r=.tup (r.map D.int):=rfl;rw[s];generalize(r.map λ_=>uC).map D.bl=Z,r.map D.int=Y at*;unfold R4;simp[WI,l,g,u,k,v,o]
  rw[Rx i (by rw[zv,f];rfl)];simp only[Cp,R.Cq,qM,z,Dl];exact p
def D1{e:Int}{f:List (List (List Int))}{IE:List (List Int)}(E:lN f=T)(H:lN IE=T)(w:∀pg∈f,lN pg=n/\∀r∈pg,lN r=6)(u:∀r∈IE,lN r=n)(q:n<=100)(I:T<=100)(h:G[a]?=uA (.lst (f.map YE)))(g:G[b]?=uA (.lst (IE.map tupI))):
  Mz [.tup [.int e,.ref a,.ref b],.int (T:Int),.int (n:Int)] G=.ok (.bl uC) G:=by
 have p:=DZ (S:=[]) h w;have m:lN ((f.map λ_=>uC).map D.bl)<=1000000:=by simp;lia
 have t:=Yz G (f.map λ_=>uC);have v:=Yu f G;have o:lN (f.map YE)=T:=by simp[E]
 have F:lN (IE.map tupI)=T:=by simp[H]
 have C:freeze G (.ok (.ref (lN G)) (G++[.lst [.ref a,.ref b]]))=.ok (.fl [.ref a,.ref b]) G:=Bj (by simp[(zX.mp h).1,(zX.mp g).1]);have j:∀a b c d e:Option D,Be 1 [2] [a,b,c,d,e]=[uB,c]:=λ_ _ _ _ _=>rfl
 obtain⟨y,l⟩:=iX (s0:=zT [.int e,.ref a,.ref b]) (s1:=zI (T:Int)) (s3:=zR b) g u q (lN IE) 0 uB (by lia);rw[show lN IE=lN (IE.map tupI) by simp]at l;generalize(f.map λ_=>uC).map D.bl=Z,f.map YE=A,IE.map tupI=B at*;have k:∀(i:Nat)(X:List D),G[i]?=uA (.lst X)->lN X=T->∀x,W4 [zT [.int e,.ref a,.ref b],zI (T:Int),zI (n:Int),zR i,x] G=.nx [zT [.int e,.ref a,.ref b],zI (T:Int),zI (n:Int),zR i,x] G:=λi X s z x=>by unfold W4;simp[WI,s,z]
 unfold Mz eM;rw[Al];simp[WI,Zu,Ac,C,Dc,Et,k a A h o,k b B g F,Ed,g,l,j,h,p,m,t,v,Bl]
def iY(h:∀x∈as,KB n x):∀i,i<lN as->(Am as i).fr<n/\(Am as i).to<=n:=λ_ a=>⟨(KB.of h a).lt,(KB.of h a).le⟩
def RG.p0{s:List Int}{e:Int}{f p:List Int}(b:RG n as s e f p):Aa p n=0:=by
 unfold Aa;rw[zK,zM (by rw[b.lp];lia)]
 rfl
theorem iZ:∀n,Ab (n+1) f=f 0+Ab n λk=>f (k+1)
 |0=>by show 0+f 0=f 0+0;lia
 |n+1=>by show Ab (n+1) f+f (n+1)=f 0+(Ab n (λk=>f (k+1))+f (n+1));rw[iZ n];lia
noncomputable def sumZ(F:ZA->Int->Int):List ZA->List Int->Int
 |a::as,x::xs=>F a x+sumZ F as xs
 |_,_=>0
theorem R8:∀{as:List ZA}{xs:List Int},lN xs=lN as->Ab (lN as) (λi=>F (Am as i) (Aa xs i))=sumZ F as xs
 |[],[],_=>rfl
 |a::as,x::xs,h=>by
  rw[zE,iZ]
  exact congrArg (F a x + ·) (R8 (by simpa using h))
theorem Xj:∀{as bs:List ZA}{xs ys:List Int},lN xs=lN as->sumZ F (as++bs) (xs++ys)=sumZ F as xs+sumZ F bs ys
 |[],bs,[],ys,_=>(xU _).symm
 |a::as,bs,x::xs,ys,h=>by show F a x+sumZ F (as++bs) (xs++ys)=F a x+sumZ F as xs+sumZ F bs ys;rw[Xj (by simpa using h),Int.add_assoc]
def Hw(P:ZA->Int->Prop):List ZA->List Int->Prop
 |a::as,x::xs=>P a x/\Hw P as xs
 |_,_=>True
structure KN (p:RP) (l:Int) (r:R6):Prop where
 b0:0<=r.b
 d0:0<=r.d
 e0:0<=r.e
 f0:0<=r.f
 sm:r.b+r.d+r.e+r.f=l+r.a
 kd:match p.kd with
  |.XC a _=>r.b<=a/\r.e=0/\r.f=0
  |.YC a=>0<=a/\r.b=0/\r.e=0/\r.f=0
  |.OA b _ uB=>r.b=0/\r.f<=b/\r.e=0
  |.OA b _ (uA (_,_,m))=>r.b=0/\r.f<=b/\r.e<=m
noncomputable abbrev DU:=Nat->Nat->Int
variable{U:DU}
def Fd(D:DU)(w:Nat)(o:Option Nat)(c:Int):DU:=λw' k'=>if w'=w/\o=uA k' then D w' k'+c else D w' k'
def Kt(h:RH)(w:Nat)(r:R6)(D:DU):Option (Str×Int×Int)->DU
 |none=>D
 |some (t,d,_)=>Fd D (w+d.toNat) (uA ((QC h).idxOf t)) r.e
def Hg(h:RH)(w:Nat)(p:RP)(r:R6)(D:DU):DU:=match p.kd with
 |.OA _ _ q=>Kt h w r (Fd D (w+p.dl.toNat) (ZD h p) r.d) q
 |_=>Fd D (w+p.dl.toNat) (ZD h p) r.d
def Im(L:Nat->Int)(k:Nat)(x:Int):Nat->Int:=λj=>if j=k then x else L j
def WJ(h:RH)(w:Nat)(f:List Int):Nat->List RP->List R6->DU->(Nat->Int)->DU->(Nat->Int)->Prop
 |_,[],[],D,L,D',L'=>D'=D/\L'=L
 |k,p::ps,r::rs,D,L,D',L'=>r.a=Aa f k+D w k/\KN p (L k) r/\WJ h w f (k+1) ps rs (Hg h w p r D) (Im L k r.f) D' L'
 |_,_,_,_,_,_,_=>False
def UG(h:RH):Nat->List (List Int)->List (List R6)->DU->(Nat->Int)->Prop
 |_,[],[],_,_=>True
 |w,f::fs,pg::MC,D,L=>∃D' L',WJ h w f 0 h.ps pg D L D' L'/\UG h (w+1) fs MC D' L'
 |_,_,_,_,_=>False
def JT(w' k' w k:Nat)(D:DU)(L:Nat->Int):Int:=D w' k'+if(w'=w/\k<=k')\/(w'=w+1/\k'<k)then L k' else 0
def ZT(h:RH)(w' k' w k:Nat)(p:RP)(r:R6):Int:=(if w'=w+p.dl.toNat/\ZD h p=uA k' then r.d else 0)+(match p.kd with | .OA _ _ (uA (t,d,_))=>(if w'=w+d.toNat/\(QC h).idxOf t=k' then r.e else 0)|_=>0)+if w'=w+1/\k'=k then r.f else 0
theorem D2{k':Nat}{D:DU}{L:Nat->Int}(l:(w'=w/\k<k')\/w<w'):JT w' k' w (k+1) (Hg h w p r D) (Im L k r.f)=JT w' k' w k D L+ZT h w' k' w k p r:=by
 have j:(if(w'=w/\k+1<=k')\/(w'=w+1/\k'<k+1)then Im L k r.f k' else 0)=(if(w'=w/\k<=k')\/(w'=w+1/\k'<k)then L k' else 0)+if w'=w+1/\k'=k then r.f else 0:=by
  unfold Im;by_cases z:k'=k
  .subst z;by_cases g:w'=w+1
   .rw[if_pos (by lia),if_pos rfl,if_neg (by lia),if_pos ⟨g,rfl⟩];lia
   rw[if_neg (by lia),if_neg (by lia),if_neg (by lia)]
   rfl
  have g:¬(w'=w+1/\k'=k):=λq=>z q.2
  rw[if_neg z,if_neg g,xD];by_cases i:(w'=w/\k<=k')\/(w'=w+1/\k'<k)
  .rw[if_pos i,if_pos (by lia)]
  rw[if_neg i,if_neg (by lia)]
 have a:∀{e:Nat}{o:Option Nat}{c:Int}{D:DU},Fd D e o c w' k'=D w' k'+if w'=e/\o=uA k' then c else 0:=λ{e o c D}=>by
  unfold Fd
  split <;> lia
 unfold JT;rw[j];unfold Hg ZT;cases p.kd with
 | OA b q o=>
  cases o with
  |none=>dsimp only[Kt];rw[a];lia
  |some z=>
   obtain⟨t,d,m⟩:=z;dsimp only[Kt];rw[a,a];simp[Option.some.injEq];lia
 |_=>dsimp only;rw[a];lia
def i3(c:j<n)(hk:k<n)(h:a*n+j=b*n+k):a=b/\j=k:=by
 have q:∀{a b:Nat},a<b->a*n+n<=b*n:=λ{a b}h=>by have:=qD n (h);rwa[j0]at this
 rcases Nat.lt_trichotomy a b with z|z|z
 .have:=q z;lia
 .subst z;exact⟨rfl,by lia⟩
 have:=q z;lia
theorem Xz{k':Nat}{o:Option Nat}(hw:w'<T)(hk:k'<n)(ho:∀j,o=uA j->j<n):(if Az n T a o=w'*n+k' then x else 0)=if w'=a/\o=uA k' then x else 0:=by
 have b:=Iu hw hk;unfold Az;cases o with
 |none=>rw[if_neg (by dsimp only;lia),if_neg (by simp)]
 |some j=>
  by_cases z:T<=a
  .simp[if_pos z];rw[if_neg (by lia),if_neg (by lia)]
  simp[if_neg z];by_cases e:a*n+j=w'*n+k'
  .obtain⟨rfl,rfl⟩:=i3 (ho j rfl) hk e;rw[if_pos e,if_pos ⟨rfl,rfl⟩]
  .rw[if_neg e,if_neg];rintro⟨rfl,q⟩;cases q;exact e rfl
section
variable{h:RH}{T w k w' k':Nat}{p:RP}{r:R6}{l pay left:Int}
theorem D3(g:HG h)(hp:h.ps[k]?=uA p)(i:w'<w\/(w'=w/\k'<=k)):ZT h w' k' w k p r=0:=by
 have a:=(g.pg k p hp).kd;have c:¬(w'=w+p.dl.toNat/\ZD h p=uA k'):=λ⟨n,f⟩=>by have:=(Uk g hp f).1;lia
 unfold ZT;rw[if_neg c,if_neg (by lia)];cases e:p.kd with
 | OA b s q=>
  cases q with
  |none=>rfl
  |some z=>
   obtain⟨t,d,m⟩:=z;rw[e]at a;obtain⟨_,j,_⟩:=a.2 t d m rfl;dsimp only;rw[if_neg (by lia)]
   rfl
 |_=>rfl
end
theorem WJ.len{f:List Int}:∀{ps:List RP}{k:Nat}{rs:List R6}{D b:DU}{L a:Nat->Int},WJ h w f k ps rs D L b a->lN rs=lN ps
 |[],_,[],_,_,_,_,_=>rfl
 |_::_,_,_::_,_,_,_,_,q=>congrArg (· + 1) q.2.2.len
 |[],_,_::_,_,_,_,_,q|_::_,_,[],_,_,_,_,q=>q.elim
section
variable{h:RH}{T w' k':Nat}{left:List Int}
theorem UG.len:∀{fs:List (List Int)}{w:Nat}{a:List (List R6)}{D:DU}{L:Nat->Int},UG h w fs a D L->lN a=lN fs/\∀pg∈a,lN pg=lN h.ps
 |[],_,[],_,_,_=>⟨rfl,λ_ h=>by cases h⟩
 |_::_,_,_::_,_,_,q=>by
  obtain⟨g,f,c,d⟩:=q;obtain⟨b,e⟩:=d.len
  exact⟨congrArg (· + 1) b,jO.mpr ⟨c.len,e⟩⟩
 |[],_,_::_,_,_,q|_::_,_,[],_,_,q=>q.elim
end
noncomputable def tv(p:RP)(r:R6)(y:Int):Int:=match p.kd with
 |.XC _ _=>r.b*y
 |.YC a=>min r.d a*y
 |.OA _ _ _=> -(r.e*y)
noncomputable def lv(p:RP)(r:R6)(l:Int):Int:=match p.kd with
 |.OA _ _ _=>r.f*l
 |_=>0
noncomputable def MF(f:RP->R6->Int->Int):List RP->List R6->List Int->Int
 |p::ps,r::rs,y::ys=>f p r y+MF f ps rs ys
 |_,_,_=>0
def Zr{f:RP->R6->Int->Int}{rs:List R6}{ys:List Int}{y:Int}(b:ps[j]?=uA p)(m:rs[j]?=uA r)(n:ys[j]?=uA y):MF f (ps.drop j) (rs.drop j) (ys.drop j)=f p r y+MF f (ps.drop (j+1)) (rs.drop (j+1)) (ys.drop (j+1)):=by
 obtain⟨d,i⟩:=zX.mp b;obtain⟨c,e⟩:=zX.mp m;obtain⟨a,g⟩:=zX.mp n;rw[zU d,zU c,zU a,i,e,g]
 rfl
def i8{f:RP->R6->Int->Int}{rs:List R6}{ys:List Int}(h:lN ps<=j):MF f (ps.drop j) (rs.drop j) (ys.drop j)=0:=by
 rw[xF h]
 rfl
def SY(l:List Int):Prop:=∀y∈l,-(2^64)<y/\y<2^64
section
variable{h:RH}{pg:List R6}{pay left:List Int}{G:DH}
def D4(hp:lN pg=lN h.ps)(g:pg[j]?=uA r):NC (pg.map R6.enc) (j:Int)=zT [.int r.a,.int r.b,.int r.c,.int r.d,.int r.e,.int r.f]:=By rfl (by rw[zv,g];rfl)
def int_at{l:List Int}{y:Int}(a:l[j]?=uA y):NC (l.map D.int) (j:Int)=zI y:=By rfl (by rw[zv,a];rfl)
theorem ia{PV:D}{g:List (List R6)}(x:Af PV (.int (w:Int)) G=.ok (.tup (pg.map R6.enc)) G)(Q:Aq [PV] G=.ok (.int (lN g:Int)) G)(hy:GA[w]?=uA pay)(Y:lN pg=lN h.ps)(l2:lN pay=lN h.ps)(l3:lN left=lN h.ps)(sm:SY pay)(sl:SY left):∀(m j:Nat)(acc:Int)(C v x8 x9:Option D),j+m=lN h.ps->∃W X M N,Aw (gV 6) Kz (An j m) [uA h.enc,uA (PV),zF (PC GA),zT (left.map D.int),zI acc,zI w,C,v,x8,x9] G=
  .nx [uA h.enc,uA (PV),zF (PC GA),zT (left.map D.int),zI (acc+MF tv (h.ps.drop j) (pg.drop j) (pay.drop j)+if w+1=lN g then MF lv (h.ps.drop j) (pg.drop j) (left.drop j)else 0),zI w,W,X,M,N] G
 |0,j,acc,C,v,x8,x9,e=>⟨C,v,x8,x9,by rw[Ff,Et,i8 (by lia),i8 (by lia)];simp⟩
 | m + 1,j,acc,C,v,x8,x9,e=>by
  obtain⟨p,hp⟩:∃p,h.ps[j]?=uA p:=⟨_,zZ (by lia)⟩;obtain⟨r,U⟩:∃r,pg[j]?=uA r:=⟨_,zZ (by lia)⟩;obtain⟨y,o⟩:∃y,pay[j]?=uA y:=⟨_,zZ (by lia)⟩;obtain⟨u,s⟩:∃y,left[j]?=uA y:=⟨_,zZ (by lia)⟩;obtain⟨W,X,M,N,ih⟩:=ia x Q hy Y l2 l3 sm sl m (j+1) (acc+tv p r y+if w+1=lN g then lv p r u else 0) (zI j) (uA p.enc) (uA r.enc) (zI y) (by lia)
  refine⟨W,X,M,N,?_⟩;have K:=D4 Y U;have E:=Hq hp;have A:=int_at o;have al:=int_at s;have B:NC (PC GA) (w:Int)=zT (pay.map D.int):=By rfl (by unfold PC;rw[zv,hy];rfl);obtain⟨b1,b2⟩:=sm y (zP o);obtain⟨b3,b4⟩:=sl u (zP s);have I:∀(i:Int)(G:DH),Bu (.int i) (.int y) G=.ok (.int (i*y)) G:=λi G=>Tq b1 b2
  have ml:∀(i:Int)(G:DH),Bu (.int i) (.int u) G=.ok (.int (i*u)) G:=λi G=>Tq b3 b4
  have Z:¬(("basin":Str)="town"):=by decide
  have t2:¬(("basin":Str)="mill"):=by decide
  have t3:¬(("mill":Str)="town"):=by decide
  have t4:¬(("mill":Str)="basin"):=by decide
  have t5:¬(("town":Str)="basin"):=by decide
  have t6:¬(("town":Str)="mill"):=by decide
  have J:∀G,Af h.enc (.int 1) G=.ok (.tup (h.ps.map RP.enc)) G:=λG=>Dw
  have er:r.enc=.tup [.int r.a,.int r.b,.int r.c,.int r.d,.int r.e,.int r.f]:=rfl;have hb:Kz [uA h.enc,uA (PV),zF (PC GA),zT (left.map D.int),zI acc,zI w,zI j,v,x8,x9] G=.nx [uA h.enc,uA (PV),zF (PC GA),zT (left.map D.int),zI (acc+tv p r y+if w+1=lN g then lv p r u else 0),zI w,zI j,uA p.enc,uA r.enc,zI y] G:=by
   rw[er];unfold tv lv;cases F:p.kd with
   |XC a b=>
    have t:∀G,Af p.enc (.int 0) G=.ok (.str "town") G:=λG=>by rw[MI,F];rfl
    generalize PC GA=n,left.map D.int=S,h.ps.map RP.enc=PS,h.enc=H,p.enc=P at*;unfold Kz;simp[J,E,x,K,B,A,t,I,t5,t6]
   |YC a=>
    have t:∀G,Af p.enc (.int 0) G=.ok (.str "mill") G:=λG=>by rw[MI,F];rfl
    have e4:∀G,Af p.enc (.int 4) G=.ok (.int a) G:=λG=>by simp[RP.enc,RP.row,F,RK.rest]
    generalize PC GA=n,left.map D.int=S,h.ps.map RP.enc=PS,h.enc=H,p.enc=P at*;unfold Kz;simp[J,E,x,K,B,A,t,e4,I,t3,t4,Int.min_comm a r.d]
   | OA b r' q=>
    have t:∀G,Af p.enc (.int 0) G=.ok (.str "basin") G:=λG=>by rw[MI,F];rfl
    generalize PC GA=n,left.map D.int=S,h.ps.map RP.enc=PS,h.enc=H,p.enc=P at*;unfold Kz;by_cases z:w+1=lN g
    .have L:(w:Int)+1=(lN g:Int):=by lia
     simp[J,E,x,K,B,A,t,I,Z,t2,Q,z,L,al,ml];lia
    .have L:¬(w:Int)+1=(lN g:Int):=by lia
     simp[J,E,x,K,B,A,t,I,Z,t2,Q,z,L];lia
  have s2:=Zr (f:=lv) hp U s;have e1:((j:Int)+1)=((j+1:Nat):Int):=by lia
  have O:acc+MF tv (h.ps.drop j) (pg.drop j) (pay.drop j)+(if w+1=lN g then MF lv (h.ps.drop j) (pg.drop j) (left.drop j)else 0)=(acc+tv p r y+if w+1=lN g then lv p r u else 0)+MF tv (h.ps.drop (j+1)) (pg.drop (j+1)) (pay.drop (j+1))+if w+1=lN g then MF lv (h.ps.drop (j+1)) (pg.drop (j+1)) (left.drop (j+1))else 0:=by
   rw[Zr (f:=tv) hp U o,s2]
   split <;> lia
  rw[O,Eu,Dc,e1];generalize PC GA=n,left.map D.int=S at*;simp only[Cp,R.Cq,qM,hb,Dl,ih]
end
structure Pt (h:RH) (MC:List (List R6)) (GA:List (List Int)) (left:List Int):Prop where
 n:lN GA=lN MC
 pg:∀pg∈MC,lN pg=lN h.ps
 py:∀l∈GA,lN l=lN h.ps/\SY l
 lf:lN left=lN h.ps/\SY left
def XJ(h:RH):List (List R6)->List (List Int)->Int
 |pg::MC,py::pys=>MF tv h.ps pg py+XJ h MC pys
 |_,_=>0
def D5{a:List (List R6)}{pg:List R6}{b:List Int}(c:a[j]?=uA pg)(i:GA[j]?=uA b):XJ h (a.drop j) (GA.drop j)=MF tv h.ps pg b+XJ h (a.drop (j+1)) (GA.drop (j+1)):=by
 obtain⟨e,g⟩:=zX.mp c;obtain⟨d,f⟩:=zX.mp i;rw[zU e,zU d,g,f]
 rfl
def VC(h:RH)(MC:List (List R6))(left:List Int):Int:=match MC.getLast? with
 |some pg=>MF lv h.ps pg left
 |none=>0
section
variable{h:RH}{PV:D}{MC:List (List R6)}{GA:List (List Int)}{left:List Int}{G:DH}
theorem ib(A:∀(w:Nat)(pg:List R6),MC[w]?=uA pg->Af PV (.int (w:Int)) G=.ok (.tup (pg.map R6.enc)) G)(y:Aq [PV] G=.ok (.int (lN MC:Int)) G)(f:Pt h MC GA left)(K:lN h.ps<=100):∀(m j:Nat)(acc:Int)(d b a x8 x9:Option D),j+m=lN MC->∃s t v g i,Aw (gV 5) O1 (An j m) [uA h.enc,uA (PV),zF (PC GA),zT (left.map D.int),zI acc,d,b,a,x8,x9] G=
  .nx [uA h.enc,uA (PV),zF (PC GA),zT (left.map D.int),zI (acc+XJ h (MC.drop j) (GA.drop j)+if m=0 then 0 else VC h MC left),s,t,v,g,i] G
 |0,j,acc,d,b,a,x8,x9,e=>⟨d,b,a,x8,x9,by rw[Ff,Et,xF (by lia)];simp[XJ]⟩
 | m+1,j,acc,d,b,a,x8,x9,e=>by
  obtain⟨pg,hp⟩:∃p,MC[j]?=uA p:=⟨_,zZ (by lia)⟩;have Y:=f.n;obtain⟨c,x⟩:∃p,GA[j]?=uA p:=⟨_,zZ (by lia)⟩;obtain⟨J,P⟩:=f.py c (zP x);obtain⟨B,E,C,I,F⟩:=ia (A j pg hp) y x (f.pg pg (zP hp)) J f.lf.1 P f.lf.2 (lN h.ps) 0 acc b a x8 x9 (by lia);simp only[jP]at F;have u:Aw (gV 6) Kz (An 0 (lN h.ps)) [uA h.enc,uA (PV),zF (PC GA),zT (left.map D.int),zI acc,zI j,b,a,x8,x9] G=_:=F
  obtain⟨s,t,v,g,i,W⟩:=ib A y f K m (j+1) (acc+MF tv h.ps pg c+if j+1=lN MC then MF lv h.ps pg left else 0) (zI j) B E C I (by lia);refine⟨s,t,v,g,i,?_⟩;have S:∀G,Af h.enc (.int 1) G=.ok (.tup (h.ps.map RP.enc)) G:=λG=>Dw
  have U:((lN (h.ps.map RP.enc):Nat):Int)=(lN h.ps:Int):=by rw[zq]
  have X:inR (lN h.ps:Int):=Ek (by lia) (by lia);have N:((j:Int)+1)=((j+1:Nat):Int):=by lia
  have q:acc+XJ h (MC.drop j) (GA.drop j)+(if m+1=0 then 0 else VC h MC left)=(acc+MF tv h.ps pg c+if j+1=lN MC then MF lv h.ps pg left else 0)+XJ h (MC.drop (j+1)) (GA.drop (j+1))+if m=0 then 0 else VC h MC left:=by
   rw[D5 (h:=h) hp x,if_neg (by lia)];by_cases z:m=0
   .have O:MC.getLast?=uA pg:=by rw[List.getLast?_eq_getElem?,show lN MC-1=j by lia,hp]
    have M:VC h MC left=MF lv h.ps pg left:=by unfold VC;rw[O]
    rw[if_pos z,if_pos (by lia),M];lia
   .rw[if_neg z,if_neg (by lia)];lia
  have L:O1 [uA h.enc,uA (PV),zF (PC GA),zT (left.map D.int),zI acc,zI j,b,a,x8,x9] G=.nx [uA h.enc,uA (PV),zF (PC GA),zT (left.map D.int),zI (acc+MF tv h.ps pg c+if j+1=lN MC then MF lv h.ps pg left else 0),zI j,B,E,C,I] G:=by generalize PC GA=o,left.map D.int=Q,h.ps.map RP.enc=PS,h.enc=H at*;unfold O1;simp[S,U,X,u]
  rw[q,Eu,Dc,N];generalize PC GA=o,left.map D.int=Q at*;simp only[Cp,R.Cq,qM,L,Dl,W]
def D6(e:∀(w:Nat)(pg:List R6),MC[w]?=uA pg->Af PV (.int (w:Int)) G=.ok (.tup (pg.map R6.enc)) G)(c:Aq [PV] G=.ok (.int (lN MC:Int)) G)(f:Pt h MC GA left)(j:lN h.ps<=100)(hp:lN MC<=1000):Nz [h.enc,PV,.fl (PC GA),.tup (left.map D.int)] G=.ok (.int (XJ h MC GA+VC h MC left)) G:=by
 obtain⟨t,q,s,m,n,b⟩:=ib e c f j (lN MC) 0 0 uB uB uB uB uB (by lia);simp only[jP,xU]at b;have a:Aw (gV 5) O1 (An 0 (lN MC)) [uA h.enc,uA (PV),zF (PC GA),zT (left.map D.int),zI 0,uB,uB,uB,uB,uB] G=_:=b;have d:XJ h MC GA+(if lN MC=0 then 0 else VC h MC left)=XJ h MC GA+VC h MC left:=by
  split
  .rename_i z;have:=jz z;subst this
   rfl
  .rfl
 rw[d]at a;have i:inR (lN MC:Int):=Ek (by lia) (by lia);generalize PC GA=g,left.map D.int=o,h.enc=H at*;unfold Nz dY dX dW;rw[Al];simp[c,i,a,Bl]
end
theorem ic{B:List Int}:∀{A:List Int}{j:Nat},j<lN A->Aa (A++B) j=Aa A j
 |_::_,0,_=>rfl
 |_::A,j+1,h=>ic (j:=j) (xJ h)
theorem ie{B:List Int}:∀(A:List Int)(j:Nat),Aa (A++B) (lN A+j)=Aa B j
 |[],j=>by simp
 |a::A,j=>by rw[zE,xB];exact ie A j
theorem ig:∀(xs:List Int)(j k:Nat),k<lN xs->Aa (Dz ly cm w j xs) k=Fv ly cm w (j+k) (Aa xs k)
 |x::xs,j,0,_=>rfl
 |x::xs,j,k+1,h=>by show Aa (Dz ly cm w (j+1) xs) k=Fv ly cm w (j+(k+1)) (Aa xs k);rw[ig xs (j+1) k (xJ h),xB,xI]
theorem ii(hk:k<n):∀(fs:List (List Int))(w i:Nat),i<lN fs->(∀f∈fs,lN f=n)->Aa (Cz ly cm w fs) (i*n+k)=Fv ly cm (w+i) k (Aa (fs.getD i []) k)
 |f::fs,w,0,_,h=>by have l:=h f (by simp);show Aa (Dz ly cm w 0 f++Cz ly cm (w+1) fs) (0*n+k)=Fv ly cm w k (Aa f k);rw[Nat.zero_mul,qS,ic (by rw[Ot];lia),ig _ _ _ (by lia),qS]
 |f::fs,w,i+1,b,h=>by
  have l:lN (Dz ly cm w 0 f)=n:=by rw[Ot];exact h f (by simp)
  show Aa (Dz ly cm w 0 f++Cz ly cm (w+1) fs) ((i+1)*n+k)=Fv ly cm (w+(i+1)) k (Aa (fs.getD i []) k);rw[show(i+1)*n+k=lN (Dz ly cm w 0 f)+(i*n+k) by rw[l,j0];lia,ie,ii hk fs (w+1) i (xJ b) λz a=>h z (zV _ a),show w+1+i=w+(i+1) by lia]
def D0(cm:List (List Int)):DU:=λw k=>if w<5 then Aa (cm.getD k []) w else 0
def NT(a:ZA)(x:Int):Prop:=0<=x/\∀b,a.mo=uA b->x<=b
section
variable{h:RH}{T w k:Nat}{p:RP}{r:R6}{l pay YJ:Int}
end
def ij(h:k<lN y):y.drop k=Aa y k::y.drop (k+1):=by rw[zU h,Gf h]
section
variable{h:RH}{T:Nat}{left:List Int}
end
def VG(p:RP)(xs:List Int)(l:Int):R6:=match p.kd with
 |.XC _ _=>⟨Aa xs 0+Aa xs 1-l,Aa xs 0,0,Aa xs 1,0,0⟩
 |.YC _=>⟨Aa xs 0+Aa xs 1-l,0,0,Aa xs 0+Aa xs 1,0,0⟩
 |.OA _ _ uB=>⟨Aa xs 0+Aa xs 1-l,0,0,Aa xs 0,0,Aa xs 1⟩
 |.OA _ _ (uA _)=>⟨Aa xs 0+Aa xs 1+Aa xs 2-l,0,0,Aa xs 0,Aa xs 1,Aa xs 2⟩
noncomputable def OD(p:RP):Nat:=match p.kd with
 |.OA _ _ (uA _)=>3
 |_=>2
def YF:List RP->List Int->List Int->List R6
 |p::ps,xs,ls=>VG p xs (Aa ls 0)::YF ps (xs.drop (OD p)) (ls.drop 1)
 |[],_,_=>[]
def ZI(h:RH):Nat->List Int->List Int->List (List R6)
 |0,_,_=>[]
 |m+1,xs,ls=>YF h.ps xs ls::ZI h m (xs.drop (h.ps.map OD).sum) ((YF h.ps xs ls).map R6.f)
theorem sumZ_zero:∀{as:List ZA}{xs:List Int},(∀a∈as,∀x,F a x=0)->sumZ F as xs=0
 |[],_,_=>by cases‹List Int› <;> rfl
 |a::as,[],_=>rfl
 |a::as,x::xs,h=>by
  show F a x+sumZ F as xs=0;rw[h a (by simp) x,sumZ_zero λb c=>h b (zV _ c)]
  rfl
def Wy{bs:List ZA}(h:lN as<=lN xs):sumZ F (as++bs) xs=sumZ F as xs+sumZ F bs (xs.drop (lN as)):=by
 have e:xs=xs.take (lN as)++xs.drop (lN as):=(xO _ _).symm;have l:lN (xs.take (lN as))=lN as:=by rw[qN];lia
 have t:∀{as:List ZA}{xs a:List Int},lN xs=lN as->sumZ F as (xs++a)=sumZ F as xs:=λ{as xs a}h=>by
  have:=Xj (F:=F) (bs:=[]) (ys:=a) h;rw[qV]at this;rw[this]
  cases a<;>exact xD _
 conv=>lhs;rw[e]
 rw[Xj l]
 conv=>rhs;rw[e]
 rw[t l,List.drop_left' l]
section
variable{h:RH}{T w k w' k':Nat}{p:RP}{pay YJ l:Int}{xs:List Int}
theorem Jt:lN (UC h T w k pay YJ p)=OD p:=by
 unfold UC OD;cases p.kd with
 |OA b s q=>
  cases q with
  |none=>rfl
  |some z=>obtain⟨t,d,m⟩:=z;rfl
 |_=>rfl
theorem D7:∀a∈UC h T w k pay YJ p,a.fr=w*lN h.ps+k:=by
 intro a c;unfold UC at c;cases e:p.kd with
 | OA b s q=>
  cases q with
  |none=>simp only[e]at c;rcases zw.mp c with rfl|c<;>first|rfl|(rw[jx.mp (c)];done)
  | some z=>
   obtain⟨t,d,m⟩:=z;simp only[e]at c;rcases zw.mp c with rfl|c
   .rfl
   .rcases zw.mp (c)with rfl|c
    .rfl
    .rw[jx.mp c]
 |_=>simp only[e]at c;rcases zw.mp c with rfl|c<;>first|rfl|(rw[jx.mp c];rfl)
theorem QF:∀{xs:List Int},2<=lN xs->∃a b r,xs=a::b::r
 |a::b::r,_=>⟨a,b,r,rfl⟩
 |[_],h |[],h=>by simp at h
theorem HN:∀{xs:List Int},3<=lN xs->∃a b c r,xs=a::b::c::r
 |a::b::c::r,_=>⟨a,b,c,r,rfl⟩
 |[_,_],h |[_],h |[],h=>by simp at h
theorem ik(c:OD p<=lN xs){v:Nat}:sumZ (λa x=>if a.fr=v then x else 0) (UC h T w k pay YJ p) xs=if w*lN h.ps+k=v then l+(VG p xs l).a else 0:=by
 unfold OD at c;unfold UC VG;cases e:p.kd with
 |XC a b|YC a=>
  simp only[e]at c;obtain⟨x,y,r,rfl⟩:=QF c;show(if w*lN h.ps+k=v then x else 0)+((if w*lN h.ps+k=v then y else 0)+0)=if w*lN h.ps+k=v then l+(x+y-l)else 0
  split <;> lia
 | OA b s q=>
  cases q with
  |none=>
   simp only[e]at c;obtain⟨x,y,r,rfl⟩:=QF c;show(if w*lN h.ps+k=v then x else 0)+((if w*lN h.ps+k=v then y else 0)+0)=if w*lN h.ps+k=v then l+(x+y-l)else 0
   split <;> lia
  |some z=>
   obtain⟨t,d,m⟩:=z;simp only[e]at c;obtain⟨x,y,z,r,rfl⟩:=HN c;show(if w*lN h.ps+k=v then x else 0)+((if w*lN h.ps+k=v then y else 0)+((if w*lN h.ps+k=v then z else 0)+0))=if w*lN h.ps+k=v then l+(x+y+z-l)else 0
   split <;> lia
theorem io(g:HG h)(hp:h.ps[k]?=uA p)(c:OD p<=lN xs)(hw:w'<T)(hk:k'<lN h.ps):sumZ (λa x=>if a.to=w'*lN h.ps+k' then x else 0) (UC h T w k pay YJ p) xs=ZT h w' k' w k p (VG p xs l):=by
 have n:=(g.pg k p hp).kd;have A:=Iu hw hk;have i:=(zX.mp hp).1;have rv:∀x:Int,(if Az (lN h.ps) T (w+p.dl.toNat) (ZD h p)=w'*lN h.ps+k' then x else 0)=if w'=w+p.dl.toNat/\ZD h p=uA k' then x else 0:=λx=>Xz hw hk λj f=>(Uk g hp f).2
 have o:∀x:Int,(if Az (lN h.ps) T (w+1) (uA k)=w'*lN h.ps+k' then x else 0)=if w'=w+1/\k'=k then x else 0:=λx=>by rw[Xz hw hk λj f=>by cases f;exact i];simp only[Option.some.injEq,eq_comm]
 unfold OD at c;unfold UC VG ZT;cases e:p.kd with
 |XC a b=>
  simp only[e]at c;obtain⟨x,y,r,rfl⟩:=QF c;have z:¬Az (lN h.ps) T w uB=w'*lN h.ps+k':=by show¬T*lN h.ps=_;lia
  show(if Az (lN h.ps) T w uB=w'*lN h.ps+k' then x else 0)+((if Az (lN h.ps) T (w+p.dl.toNat) (ZD h p)=w'*lN h.ps+k' then y else 0)+0)=(if w'=w+p.dl.toNat/\ZD h p=uA k' then y else 0)+0+if w'=w+1/\k'=k then 0 else 0
  rw[if_neg z,rv]
  split <;> split <;> lia
 |YC a=>
  simp only[e]at c;obtain⟨x,y,r,rfl⟩:=QF c;show(if Az (lN h.ps) T (w+p.dl.toNat) (ZD h p)=w'*lN h.ps+k' then x else 0)+((if Az (lN h.ps) T (w+p.dl.toNat) (ZD h p)=w'*lN h.ps+k' then y else 0)+0)=(if w'=w+p.dl.toNat/\ZD h p=uA k' then x+y else 0)+0+if w'=w+1/\k'=k then 0 else 0
  rw[rv,rv]
  split <;> split <;> lia
 | OA b s q=>
  cases q with
  |none=>
   simp only[e]at c;obtain⟨x,y,r,rfl⟩:=QF c;show(if Az (lN h.ps) T (w+p.dl.toNat) (ZD h p)=w'*lN h.ps+k' then x else 0)+((if Az (lN h.ps) T (w+1) (uA k)=w'*lN h.ps+k' then y else 0)+0)=(if w'=w+p.dl.toNat/\ZD h p=uA k' then x else 0)+0+if w'=w+1/\k'=k then y else 0
   rw[rv,o];lia
  |some z=>
   obtain⟨t,d,m⟩:=z;simp only[e]at c;obtain⟨x,y,z,r,rfl⟩:=HN c;rw[e]at n;obtain⟨u,_,_⟩:=n.2 t d m rfl;have v:(QC h).idxOf t<lN h.ps:=by have:=xA.mpr u;simpa[QC]using this
   have pm:∀x:Int,(if Az (lN h.ps) T (w+d.toNat) (uA ((QC h).idxOf t))=w'*lN h.ps+k' then x else 0)=if w'=w+d.toNat/\(QC h).idxOf t=k' then x else 0:=λx=>by rw[Xz hw hk λj f=>by cases f;exact v];simp only[Option.some.injEq]
   show(if Az (lN h.ps) T (w+p.dl.toNat) (ZD h p)=w'*lN h.ps+k' then x else 0)+((if Az (lN h.ps) T (w+d.toNat) (uA ((QC h).idxOf t))=w'*lN h.ps+k' then y else 0)+((if Az (lN h.ps) T (w+1) (uA k)=w'*lN h.ps+k' then z else 0)+0))=(if w'=w+p.dl.toNat/\ZD h p=uA k' then x else 0)+(if w'=w+d.toNat/\(QC h).idxOf t=k' then y else 0)+if w'=w+1/\k'=k then z else 0
   rw[rv,o,pm];lia
end
theorem D8{YJ l:Int}(j:KG ns p.kd)(c:OD p<=lN xs)(a:Hw NT (UC h T w k pay YJ p) xs):KN p l (VG p xs l):=by
 unfold OD at c;unfold UC at a;unfold VG;cases e:p.kd with
 |XC b t=>
  simp only[e]at c a;obtain⟨x,y,r,rfl⟩:=QF c;obtain⟨⟨g,o⟩,⟨f,_⟩,_⟩:=a;have:=o b rfl;refine⟨g,f,qK _,qK _,?_,?_⟩
  .show x+y+0+0=l+(x+y-l);lia
  .rw[e];exact⟨this,rfl,rfl⟩
 |YC b=>
  rw[e]at j;simp only[e]at c a;obtain⟨x,y,r,rfl⟩:=QF c;obtain⟨⟨g,_⟩,⟨f,_⟩,_⟩:=a;refine⟨qK _,?_,qK _,qK _,?_,?_⟩
  .show 0<=x+y;lia
  .show 0+(x+y)+0+0=l+(x+y-l);lia
  .rw[e];exact⟨j,rfl,rfl,rfl⟩
 | OA b s q=>
  cases q with
  |none=>
   simp only[e]at c a;obtain⟨x,y,r,rfl⟩:=QF c;obtain⟨⟨g,_⟩,⟨f,i⟩,_⟩:=a;have:=i b rfl;refine⟨qK _,g,qK _,f,?_,?_⟩
   .show 0+x+0+y=l+(x+y-l);lia
   .rw[e];exact⟨rfl,this,rfl⟩
  |some z=>
   obtain⟨t,d,m⟩:=z;simp only[e]at c a;obtain⟨x,y,z,r,rfl⟩:=HN c;obtain⟨⟨g,_⟩,⟨f,i⟩,⟨u,n⟩,_⟩:=a;refine⟨qK _,g,f,u,?_,?_⟩
   .show 0+x+y+z=l+(x+y+z-l);lia
   .rw[e];exact⟨rfl,n b rfl,i m rfl⟩
theorem R1{P:ZA->Int->Prop}:∀{as bs:List ZA}{xs:List Int},Hw P (as++bs) xs->Hw P as xs/\Hw P bs (xs.drop (lN as))
 |[],bs,xs,h=>⟨by cases xs<;>trivial,h⟩
 |a::as,bs,[],h=>⟨trivial,by rw[List.drop_nil];cases bs<;>trivial⟩
 |a::as,bs,x::xs,h=>by obtain⟨c,e⟩:=h;obtain⟨d,b⟩:=R1 e;exact⟨⟨c,d⟩,b⟩
theorem Ws{P:ZA->Int->Prop}:∀{as:List ZA}{xs:List Int},lN xs=lN as->(∀i,i<lN as->P (Am as i) (Aa xs i))->Hw P as xs
 |[],[],_,_=>trivial
 |a::as,x::xs,d,b=>⟨b 0 (by simp),Ws (by simpa using d) λi c=>b (i+1) (by simpa using c)⟩
theorem Wo{left:List Int}:∀(ps:List RP)(k:Nat),∀a∈ME h T w y left k ps,w*lN h.ps+k<=a.fr
 |[],_,a,b=>by cases b
 |p::ps,k,a,b=>by
  rcases qJ.mp (b)with b|b
  .exact xq (D7 a b).symm
  .have:=Wo ps (k+1) a b;lia
theorem ip{left:List Int}:∀(ys:List (List Int))(w:Nat),∀a∈MD h T left w ys,w*lN h.ps<=a.fr
 |[],_,a,b=>by cases b
 |y::ys,w,a,b=>by
  rcases qJ.mp (b)with b|b
  .exact Wo _ 0 a b
  .have:=ip ys (w+1) a b;rw[j0]at this;lia
structure TY (n T w k:Nat) (D:DU) (L:Nat->Int) (R:List ZA) (xs:List Int) (PI OU:Nat->Nat->Int):Prop where
 i:∀w' k',(w'=w/\k<=k')\/w<w'->w'<T->k'<n->JT w' k' w k D L+sumZ (λa x=>if a.to=w'*n+k' then x else 0) R xs=PI w' k'
 o:∀w' k',(w'=w/\k<=k')\/w<w'->w'<T->k'<n->sumZ (λa x=>if a.fr=w'*n+k' then x else 0) R xs=OU w' k'
 f:Hw NT R xs
 l:lN R<=lN xs
 u:∀a∈R,a.fr<a.to
section
variable{h:RH}{T:Nat}{left:List Int}{PI OU:Nat->Nat->Int}
theorem iq(g:HG h)(hw:w<T){f:List Int}{Z:List ZA}(M:∀a∈Z,(w+1)*lN h.ps<=a.fr)(N:∀k,k<lN h.ps->OU w k=Aa f k+PI w k):
  ∀(ps:List RP)(k:Nat)(xs b:List Int)(D:DU)(L:Nat->Int),(∀i p,ps[i]?=uA p->h.ps[k+i]?=uA p)->k+lN ps=lN h.ps->(∀i,i<lN ps->Aa b i=L (k+i))->TY (lN h.ps) T w k D L (ME h T w y left k ps++Z) xs PI OU->
  ∃t m,WJ h w f k ps (YF ps xs b) D L t m/\(∀j,j<k->m j=L j)/\(∀i,i<lN ps->Aa ((YF ps xs b).map R6.f) i=m (k+i))/\TY (lN h.ps) T w (lN h.ps) t m Z (xs.drop (ps.map OD).sum) PI OU
 |[],k,xs,b,D,L,hp,hk,I,r=>by rw[xZ,Nat.add_zero]at hk;subst hk;exact⟨D,L,⟨rfl,rfl⟩,λ_ _=>rfl,λi A=>absurd A (xR _),r⟩
 | p::ps,k,xs,b,D,L,hp,hk,I,r=>by
  rw[zE]at hk;have e:h.ps[k]?=uA p:=hp 0 p rfl;have d:k<lN h.ps:=by lia
  have ea:ME h T w y left k (p::ps)++Z=UC h T w k (Aa y k) (Aa left k) p++(ME h T w y left (k+1) ps++Z):=qW ..;rw[ea]at r;have s:OD p<=lN xs:=by have:=r.l;rw[zH,Jt]at this;lia
  have K:Aa b 0=L k:=I 0 (by simp);have cut:∀F:ZA->Int->Int,sumZ F (UC h T w k (Aa y k) (Aa left k) p++(ME h T w y left (k+1) ps++Z)) xs=sumZ F (UC h T w k (Aa y k) (Aa left k) p) xs+sumZ F (ME h T w y left (k+1) ps++Z) (xs.drop (OD p)):=λF=>by rw[Wy (by rw[Jt];exact s),Jt]
  have c:∀a∈ME h T w y left (k+1) ps++Z,w*lN h.ps+k<a.fr/\a.fr<a.to:=λa n=>by
   refine⟨?_,r.u a (zG _ n)⟩;rcases qJ.mp n with z|z
   .have:=Wo ps (k+1) a z;lia
   .have:=M a z;rw[j0]at this;lia
  obtain⟨f1,O⟩:=R1 r.f;rw[Jt]at O;have ok:=D8 (l:=L k) (g.pg k p e).kd s f1;have ra:(VG p xs (L k)).a=Aa f k+D w k:=by have H:=r.i w k (.inl ⟨rfl,zx _⟩) hw d;have Y:=r.o w k (.inl ⟨rfl,zx _⟩) hw d;rw[cut,io (l:=L k) g e s hw d,D3 g e (.inr ⟨rfl,zx _⟩),sumZ_zero λa n x=>if_neg (by have:=c a n;lia)]at H;rw[cut,ik (l:=L k) s,if_pos rfl,sumZ_zero λa n x=>if_neg (by have:=c a n;lia)]at Y;have q3:=N k d;unfold JT at H;rw[if_pos (.inl ⟨rfl,zx _⟩)]at H;lia
  have C:∀i,i<lN ps->Aa (b.drop 1) i=Im L k (VG p xs (L k)).f (k+1+i):=λi A=>by
   have U:Aa (b.drop 1) i=Aa b (i+1):=by unfold Aa;rw[zK,zK,xC,xz]
   rw[U,I (i+1) (by simp;lia)];unfold Im;rw[if_neg (by lia),show k+(i+1)=k+1+i by lia]
  have W:TY (lN h.ps) T w (k+1) (Hg h w p (VG p xs (L k)) D) (Im L k (VG p xs (L k)).f) (ME h T w y left (k+1) ps++Z) (xs.drop (OD p)) PI OU:=by
   refine⟨λE J S B v=>?_,λE J S B v=>?_,O,?_,λa n=>(c a n).2⟩
   .have q:=r.i E J (by lia) B v;rw[cut,io (l:=L k) g e s B v]at q;rw[D2 (by lia)];lia
   .have q:=r.o E J (by lia) B v;rw[cut,ik (l:=L k) s,if_neg λz=>by obtain⟨z1,z2⟩:=i3 d v z;lia]at q
    lia
   .have:=r.l;rw[zH,Jt]at this;rw[qI];lia
  obtain⟨t,m,b1,P,X,b4⟩:=iq g hw M N ps (k+1) (xs.drop (OD p)) (b.drop 1) _ _ (λi x Q=>by rw[xB];exact hp (i+1) x Q) (by lia) C W;refine⟨t,m,?_,λj hj=>?_,λi A=>?_,?_⟩
  .show WJ h w f k (p::ps) (VG p xs (Aa b 0)::YF ps (xs.drop (OD p)) (b.drop 1)) D L t m;rw[K];exact⟨ra,ok,b1⟩
  .rw[P j (by lia)];exact if_neg (by lia)
  .cases i with
   |zero=>
    show(VG p xs (Aa b 0)).f=m k;rw[K,P k (by lia)];exact(if_pos rfl).symm
   |succ i=>
    have:=X i (by simpa using A);rw[show k+(i+1)=k+1+i by lia];exact this
  .rw[zY,List.sum_cons,<-vJ];exact b4
theorem ir(g:HG h):∀(fs ys:List (List Int))(w:Nat)(xs a:List Int)(D:DU)(L:Nat->Int),lN fs=lN ys->w+lN fs=T->(∀i,i<lN fs->∀k,k<lN h.ps->OU (w+i) k=Aa (fs.getD i []) k+PI (w+i) k)->(∀i,i<lN h.ps->Aa a i=L i)->TY (lN h.ps) T w 0 D L (MD h T left w ys) xs PI OU->UG h w fs (ZI h (lN fs) xs a) D L
 |[],[],w,xs,a,D,L,_,_,_,_,_=>trivial
 | f::fs,y::ys,w,xs,a,D,L,e,v,s,x,r=>by
  rw[zE]at v;obtain⟨q,t,A,C,z,b⟩:=iq g (by lia) (ip ys (w+1)) (λk hk=>s 0 (by simp) k hk) h.ps 0 xs a D L (λi p hp=>by rw[qS];exact hp) (qS _) (λi d=>by rw[qS];exact x i d) r;refine⟨q,t,A,ir g fs ys (w+1) _ _ q t (by simpa using e) (by lia) (λi d k hk=>?_) (λi d=>?_) ⟨λc j B m n=>?_,λc j B m n=>b.o c j (by lia) m n,b.f,b.l,b.u⟩⟩
  .have:=s (i+1) (by simp;lia) k hk;rw[show w+(i+1)=w+1+i by lia]at this;exact this
  .have:=z i d;rw[qS]at this;exact this
  .rw[<-(b.i c j (by lia) m n)]
   refine congrArg (· + _) ?_
   unfold JT;by_cases E:c=w+1
   .rw[if_pos (by lia),if_pos (by lia)]
   .rw[if_neg (by lia),if_neg (by lia)]
def D9(g:GV h ly cm fl GA left){f:List Int}(c:lN f=lN (MD h (lN GA) left 0 GA))(F:UJ (lN fl*lN h.ps) (lN (MD h (lN GA) left 0 GA)) (Am (MD h (lN GA) left 0 GA)) (Aa (Cz ly cm 0 fl)) (Aa f)):UG h 0 fl (ZI h (lN fl) f ly) (D0 cm) (Aa ly):=by
 have d:=g.pn;refine ir g.hg fl GA 0 f ly _ _ d.symm (by lia) (λw hw k hk=>?_) (λ_ _=>rfl) ⟨λ_ _ _ _ _=>rfl,λ_ _ _ _ _=>rfl,?_,xq c.symm,λa l=>((T7 g).OG a l).up⟩
 .have b:=F.YT _ (Iu hw hk);unfold Ce VN at b;rw[R8 (F:=λa x=>if a.fr=w*lN h.ps+k then x else 0) c,R8 (F:=λa x=>if a.to=w*lN h.ps+k then x else 0) c,ii hk fl 0 w hw λz j=>(g.fr z j).1]at b;rw[qS]at b⊢;rw[b];unfold Fv JT D0;by_cases z:w=0
  .rw[if_pos z,if_pos (show(w=0/\0<=k)\/(w=0+1/\k<0) by lia)];lia
  .rw[if_neg z,if_neg (show¬((w=0/\0<=k)\/(w=0+1/\k<0)) by lia)];lia
 .exact Ws c λi e=>⟨F.nn i e,λb m=>F.le i b e m⟩
end
def Da{κ:Type}[DecidableEq κ]{JA:List (κ×D)}{k j:κ}{v:D}:Fg (putD JA k v) j=if j=k then uA v else Fg JA j:=by
 unfold putD;split
 .rename_i h
  induction JA with
  |nil=>simp at h
  | cons p r ih=>
   obtain⟨q,w⟩:=p;by_cases hr:(r.any λkv=>decide (kv.1=k))=uC
   .have:=ih hr;by_cases h1:q=k
    .by_cases h2:j=k
     .simp[Fg,qj,h1,h2]
     .have WQ:¬k=j:=λz=>h2 z.symm
      simp[Fg,qj,h1,h2,WQ]at this⊢;exact this
    .by_cases h2:q=j
     .have:¬j=k:=λz=>h1 (h2.trans z)
      simp[Fg,qj,h1,h2,this]
     .simp[Fg,qj,h1,h2]at this⊢;exact this
   .have hq:q=k:=by simp only[j3,xk,decide_eq_true_eq]at h;exact h.resolve_right hr
    subst hq;have keep:r.map (λkv=>if kv.1=q then(kv.1,v)else kv)=r:=by
     conv=>rhs;rw[<-List.map_id r]
     apply qG;intro kv LN;rw[if_neg]
     .rfl
     .intro e;exact hr (List.any_eq_true.mpr ⟨kv,LN,by simp[e]⟩)
    by_cases h2:j=q
    .simp[Fg,qj,h2]
    .have WQ:¬q=j:=λz=>h2 z.symm
     simp only[zY,if_pos,keep];simp[Fg,qj,h2,WQ]
 .rename_i h;have hn:∀kv∈JA,kv.1≠k:=λkv LN e=>h (List.any_eq_true.mpr ⟨kv,LN,by simp[e]⟩)
  unfold Fg;rw[List.find?_append];by_cases h2:j=k
  .subst h2;rw[if_pos rfl,List.find?_eq_none.mpr (λkv LN=>by simp[hn kv LN])];simp
  .rw[if_neg h2];have WQ:¬k=j:=λz=>h2 z.symm
   cases JA.find? (λkv=>decide (kv.1=j))with
   |none=>simp[qj,WQ]
   |some w=>simp
structure Dv (JA:List (List Key×D)) (U:DU):Prop where
 i:∀kv∈JA,∃i:Int,kv.2=.int i
 v:∀w k:Nat,(Fg JA [.inl (w:Int),.inl (k:Int)]).getD (.int 0)=.int (U w k)
def Dv.put(h:Dv JA U){U':DU}(hU:∀w' k',U' w' k'=if w'=w/\k'=k then x else U w' k'):Dv (putD JA [.inl (w:Int),.inl (k:Int)] (.int x)) U'/\(putD JA [.inl (w:Int),.inl (k:Int)] (.int x)).length<=JA.length+1:=by
 refine⟨⟨?_,λw' k'=>?_⟩,?_⟩
 .unfold putD;split
  .intro kv LN;obtain⟨q,hq,rfl⟩:=qY.mp LN;split
   .exact⟨x,rfl⟩
   .exact h.i q hq
  .intro kv LN;rcases qJ.mp LN with hq|hq
   .exact h.i kv hq
   .rw[jx.mp hq];exact⟨x,rfl⟩
 .rw[Da,hU];by_cases z:w'=w/\k'=k
  .obtain⟨rfl,rfl⟩:=z;rw[if_pos rfl,if_pos ⟨rfl,rfl⟩]
   rfl
  .rw[if_neg z,if_neg,h.v];intro e;simp at e;lia
 .unfold putD
  split <;> simp
theorem OT(i j:Int):Lr [.int i,.int j]=uA [.inl i,.inl j]:=rfl
def LX(h:Dv JA U)(hq:H[q]?=uA (.RC JA)){to ta tb:DE}(ho:to S H=.ok (.ref q) H)(ha:ta S H=.ok (.int (a:Int)) H)(hb:tb S H=.ok (.int (b:Int)) H):M3 to (Ak ta (Ak tb Ba)) (dC (.int 0)) S H=.ok (.int (U a b)) H:=by
 have hd:Mf (.ref q) H=uA JA:=by simp[Mf,hq]
 unfold M3;rw[ho];simp[hd,ha,hb,OT,h.v]
theorem iu(h:Dv JA U)(hl:JA.length<1000000)(hq:H[q]?=uA (.RC JA))(w:Nat)(c:Int)(o:Option Nat):∃TC,Dv TC (Fd U w o c)/\TC.length<=JA.length+1/\Le [.ref q,.int (w:Int),dN o,.int c] H=.ok .KA (H.set q (.RC TC)):=by
 cases o with
 | none=>
  refine⟨JA,?_,by lia,?_⟩
  .have e:Fd U w uB c=U:=by funext w' k';exact if_neg λz=>by cases z.2
   rw[e];exact h
  .have e:H.set q (.RC JA)=H:=by
    apply jM;intro n;rw[jy];split
    .rename_i z;subst z;obtain⟨z1,z2⟩:=zX.mp hq;rw[if_pos z1,hq]
    .rfl
   rw[e];unfold Le Vj dN;rw[Al];simp[Bl]
 | some i=>
  have hv:=LX h hq (S:=[zR q,zI (w:Int),zI (i:Int),zI c]) (to:=dV 0) (ta:=dV 1) (tb:=dV 2) (a:=w) (b:=i) rfl rfl rfl;obtain⟨h1,h2⟩:=h.put (w:=w) (k:=i) (x:=U w i+c) (U':=Fd U w (uA i) c) λw' k'=>by
   unfold Fd;by_cases z:w'=w/\k'=i
   .obtain⟨rfl,rfl⟩:=z;rw[if_pos ⟨rfl,rfl⟩,if_pos ⟨rfl,rfl⟩]
   .rw[if_neg z,if_neg λy=>z ⟨y.1,(Option.some.inj y.2).symm⟩]
  refine⟨_,h1,h2,?_⟩;have h3:Lk (.ref q) [.int (w:Int),.int (i:Int)] (.int (U w i+c)) H=.ok .KA (H.set q (.RC (putD JA [.inl (w:Int),.inl (i:Int)] (.int (U w i+c))))):=by unfold Lk;simp[hq,OT,hl]
  have td:tidy H (.ok .KA (H.set q (.RC (putD JA [.inl (w:Int),.inl (i:Int)] (.int (U w i+c))))))=.ok .KA (H.set q (.RC (putD JA [.inl (w:Int),.inl (i:Int)] (.int (U w i+c))))):=Hr (by simp) rfl;generalize putD JA [.inl (w:Int),.inl (i:Int)] (.int (U w i+c))=UY at*;generalize U w i=u at*;unfold Le Vj dN;rw[Al];simp[hv,Mq,h3,td]
def dE(cm:List (List Int))(k j:Nat):DU:=λw' k'=>if(k'<k/\w'<5)\/(k'=k/\w'<j)then Aa (cm.getD k' []) w' else 0
def Dx:dE cm k 5=dE cm (k+1) 0:=by
 funext w' k';unfold dE;by_cases z:(k'<k/\w'<5)\/(k'=k/\w'<5)
 .rw[if_pos z,if_pos (by lia)]
 .rw[if_neg z,if_neg (by lia)]
theorem iw{ly:List Int}{k:Nat}{r:List Int}(hk:cm[k]?=uA r)(hr:r.length=5){G:DH}:∀(m j:Nat)(JA:List (List Key×D))(x3:Option D),j+m=5->Dv JA (dE cm k j)->JA.length+m<=100000->∃(TC:List (List Key×D))(y3:Option D),Dv TC (dE cm k 5)/\TC.length<=JA.length+m/\
  Aw (gV 3) Ni (An (j:Int) m) [uA (GC ly cm),zR G.length,zI (k:Int),x3] (G++[.RC JA])=.nx [uA (GC ly cm),zR G.length,zI (k:Int),y3] (G++[.RC TC])
 |0,j,JA,x3,e,hd,hl=>⟨JA,x3,by rw[show j=5 by lia]at hd;exact hd,by lia,by rw[Ff,Et]⟩
 | m+1,j,JA,x3,e,hd,hl=>by
  have eg:cm.getD k []=r:=by rw[zK,hk];rfl
  obtain⟨b1,b2⟩:=hd.put (w:=j) (k:=k) (x:=Aa r j) (U':=dE cm k (j+1)) λw' k'=>by
   unfold dE;by_cases z:w'=j/\k'=k
   .obtain⟨rfl,rfl⟩:=z;rw[if_pos (.inr ⟨rfl,by lia⟩),if_pos ⟨rfl,rfl⟩,eg]
   .rw[if_neg z];by_cases z2:(k'<k/\w'<5)\/(k'=k/\w'<j)
    .rw[if_pos z2,if_pos (by lia)]
    .rw[if_neg z2,if_neg (by lia)]
  have h1:(G++[DO.RC JA])[G.length]?=uA (.RC JA):=by simp
  have b3:Lk (.ref G.length) [.int (j:Int),.int (k:Int)] (.int (Aa r j)) (G++[.RC JA])=.ok .KA (G++[.RC (putD JA [.inl (j:Int),.inl (k:Int)] (.int (Aa r j)))]):=by
   unfold Lk;have:JA.length<1000000:=by lia
   simp[OT,this]
  generalize putD JA [.inl (j:Int),.inl (k:Int)] (.int (Aa r j))=MX at*;have o1:∀G,Af (GC ly cm) (.int 1) G=.ok (.tup (cm.map tupI)) G:=λG=>by simp[GC]
  have ak:NC (cm.map tupI) (k:Int)=zT (r.map D.int):=By rfl (by rw[zv,hk];rfl);have aj:=La (xs:=r) (i:=j) (by lia);have hb:Ni [uA (GC ly cm),zR G.length,zI (k:Int),zI (j:Int)] (G++[.RC JA])=.nx [uA (GC ly cm),zR G.length,zI (k:Int),zI (j:Int)] (G++[.RC MX]):=by generalize Aa r j=rj at*;generalize cm.map tupI=C at*;generalize GC ly cm=SE at*;generalize r.map D.int=RI at*;unfold Ni;simp[o1,ak,aj,Mq,b3]
  obtain⟨UY,z3,c1,c2,hL⟩:=iw hk hr (ly:=ly) (G:=G) m (j+1) MX (zI (j:Int)) (by lia) b1 (by lia);refine⟨UY,z3,c1,by lia,?_⟩;rw[Eu,Dc];simp only[Cp,R.Cq,qM,hb,Dl];have e1:((j:Int)+1)=((j+1:Nat):Int):=by lia
  rw[e1,hL]
theorem iy{ly:List Int}(VY:∀r∈cm,r.length=5){G:DH}:∀(m k:Nat)(JA:List (List Key×D))(x2 x3:Option D),k+m=cm.length->Dv JA (dE cm k 0)->JA.length+5*m<=100000->∃(TC:List (List Key×D))(y2 y3:Option D),Dv TC (dE cm cm.length 0)/\TC.length<=JA.length+5*m/\
  Aw (gV 2) Og (An (k:Int) m) [uA (GC ly cm),zR G.length,x2,x3] (G++[.RC JA])=.nx [uA (GC ly cm),zR G.length,y2,y3] (G++[.RC TC])
 |0,k,JA,x2,x3,e,hd,hl=>⟨JA,x2,x3,by rw[show k=cm.length by lia]at hd;exact hd,by lia,by rw[Ff,Et]⟩
 |m+1,k,JA,x2,x3,e,hd,hl=>by
  obtain⟨r,hk⟩:∃r,cm[k]?=uA r:=⟨_,zZ (by lia)⟩;obtain⟨MX,y3,b1,b2,hi⟩:=iw hk (VY r (zP hk)) (ly:=ly) (G:=G) 5 0 JA x3 (by lia) hd (by lia);rw[Dx]at b1;have hi':Aw (gV 3) Ni (An 0 5) [uA (GC ly cm),zR G.length,zI (k:Int),x3] (G++[.RC JA])=_:=hi;have hr5:inR 5:=Ek (by decide) (by decide);have hb:Og [uA (GC ly cm),zR G.length,zI (k:Int),x3] (G++[.RC JA])=.nx [uA (GC ly cm),zR G.length,zI (k:Int),y3] (G++[.RC MX]):=by generalize GC ly cm=SE at*;unfold Og;simp[hr5,hi']
  obtain⟨UY,z2,z3,c1,c2,hL⟩:=iy VY (ly:=ly) (G:=G) m (k+1) MX (zI (k:Int)) y3 (by lia) b1 (by lia);refine⟨UY,z2,z3,c1,by lia,?_⟩;rw[Eu,Dc];simp only[Cp,R.Cq,qM,hb,Dl];have e1:((k:Int)+1)=((k+1:Nat):Int):=by lia
  rw[e1,hL]
def EA(VY:∀r∈cm,r.length=5)(hl:cm.length<=100)(G:DH):∃JA,Dv JA (D0 cm)/\JA.length<=500/\Ue [GC ly cm] G=.ok (.ref G.length) (G++[.RC JA]):=by
 have d0:Dv [] (dE cm 0 0):=by
  refine⟨λkv h=>(by cases h),λw k=>?_⟩;have:¬((k<0/\w<5)\/(k=0/\w<0)):=by lia
  show D.int 0=.int (dE cm 0 0 w k);unfold dE;rw[if_neg this]
 obtain⟨JA,y2,y3,b1,b2,hL⟩:=iy VY (ly:=ly) (G:=G) cm.length 0 [] uB uB (by lia) d0 (by simp;lia);have e0:dE cm cm.length 0=D0 cm:=by
  funext w k;unfold dE D0;by_cases z:w<5
  .rw[if_pos z];by_cases z2:k<cm.length
   .rw[if_pos (by lia)]
   .rw[if_neg (by lia),zK,zM (by lia)]
    rfl
  .rw[if_neg z,if_neg (by lia)]
 rw[e0]at b1;refine⟨JA,b1,by simp at b2;lia,?_⟩;have Qr:Aw (gV 2) Og (An 0 cm.length) [uA (GC ly cm),zR G.length,uB,uB] (G++[.RC []])=_:=hL;have o1:∀G,Af (GC ly cm) (.int 1) G=.ok (.tup (cm.map tupI)) G:=λG=>by simp[GC]
 have hlen:∀G,Aq [.tup (cm.map tupI)] G=.ok (.int cm.length) G:=λG=>by simp
 have hr:inR (cm.length:Int):=Ek (by lia) (by lia);have bo:Ie G.length (.RC JA)=uC:=by
  show NA G.length (JA.map (·.2))=uC
  exact Fb λkv LN=>by obtain⟨i,hi⟩:=b1.i kv LN;rw[hi];rfl
 have td:tidy G (.ok (.ref G.length) (G++[.RC JA]))=.ok (.ref G.length) (G++[.RC JA]):=by
  unfold tidy;have e:(G++[DO.RC JA])[G.length]?=uA (.RC JA):=by simp
  have nb:QB G.length (.ref G.length)=uD:=by simp[QB]
  simp[e,bo]
 generalize cm.map tupI=C at*;generalize GC ly cm=SE at*;generalize cm.length=n at*;unfold Ue dy;rw[Al];simp[R7,o1,hlen,hr,Qr,td]
noncomputable def rI(r:R6):List Int:=[r.a,r.b,r.c,r.d,r.e,r.f]
theorem Ql:lN (UD w k p)=OD p:=by
 unfold UD OD;cases p.kd with
 |OA b s q=>cases q<;>rfl
 |_=>rfl
theorem Xg:∀(ps:List RP)(k:Nat),lN (ND w k ps)=(ps.map OD).sum
 |[],_=>rfl
 |p::ps,k=>by show lN (UD w k p++ND w (k+1) ps)=OD p+(ps.map OD).sum;rw[zH,Ql,Xg ps (k+1)]
theorem jl:∀(ps:List RP)(k:Nat),∀s∈ND w k ps,k<=s.2.1
 |[],k,s,hs=>by simp[ND]at hs
 |p::ps,k,s,hs=>by
  rcases qJ.mp hs with hs|hs
  .exact xq (Qd s hs).2.1.symm
  exact Nat.le_of_succ_le (jl ps (k+1) s hs)
theorem EB{l:Int}:QL (Ny p (Aa xs 0) (Aa xs 1) (Aa xs 2)) l=rI (VG p xs l):=by
 unfold QL Ny VG rI;cases p.kd with
 |OA b s q=>cases q<;>simp <;> lia
 |_=>simp
def EC:Aa (xs.drop a) i=Aa xs (a+i):=by unfold Aa;rw[zK,zK,xC]
section
variable{n w:Nat}
def jm{s1 s2:List Spot}(h:lN s1<=lN xs):Ay n (s1++s2) xs rs=Ay n s2 (xs.drop (lN s1)) (Ay n s1 (xs.take (lN s1)) rs):=by
 conv=>lhs;rw[<-xO (lN s1) xs]
 exact iT _ _ _ _ _ (by rw[qN];lia)
theorem jn{Z:List Spot}(d:∀s∈Z,w<s.1):∀(ps:List RP)(k:Nat)(xs a:List Int)(rs:List (List Int)),k+lN ps=n->(∀r∈rs,lN r=6)->(w+1)*n<=lN rs->(∀i,w*n+k<=i->i<lN rs->rs.getD i []=LA)->lN (ND w k ps)+lN Z<=lN xs->
  (zW (lN ps)).map (λi=>QL ((Ay n (ND w k ps++Z) xs rs).getD (w*n+(k+i)) []) (Aa a i))=(YF ps xs a).map rI
 |[],_,_,_,_,_,_,_,_,_=>rfl
 | p::ps,k,xs,a,rs,hk,m,c,g,A=>by
  rw[zE]at hk;rw[j0]at c;have j:ND w k (p::ps)++Z=UD w k p++(ND w (k+1) ps++Z):=qW ..;have B:lN (ND w k (p::ps))=lN (UD w k p)+lN (ND w (k+1) ps):=zH;have hp:lN (UD w k p)<=lN xs:=by lia
  rw[j,jm hp,Ql];have x:∀s∈ND w (k+1) ps++Z,s.1*n+s.2.1≠w*n+k:=λs hs=>by
   rcases qJ.mp hs with hs|hs
   .have:=jl ps (k+1) s hs;rw[(Nx ps (k+1) s hs).1];lia
   have:=qD n (d s hs);rw[j0]at this;lia
  have t:(Ay n (ND w (k+1) ps++Z) (xs.drop (OD p)) (Ay n (UD w k p) (xs.take (OD p)) rs)).getD (w*n+k) []=Ny p (Aa xs 0) (Aa xs 1) (Aa xs 2):=by rw[Qs _ _ _ x];have:=DW (p:=p) (f:=xs) (l:=0) (by lia) (by lia) (g _ (zx _) (by lia));rw[jP,Ql]at this;exact this
  obtain⟨e,o⟩:=O7 (UD w k p) (xs.take (OD p)) rs m;have u:=jn d ps (k+1) (xs.drop (OD p)) (a.drop 1) (Ay n (UD w k p) (xs.take (OD p)) rs) (by lia) o (by rw[e,j0];exact c) (λi z b=>by rw[e]at b;rw[Qs _ _ _ λs hs=>by obtain⟨v,y,_⟩:=Qd s hs;rw[v,y];lia];exact g i (by lia) b) (by rw[qI,<-Ql (w:=w) (k:=k)];lia)
  show _=rI (VG p xs (Aa a 0))::(YF ps (xs.drop (OD p)) (a.drop 1)).map rI;rw[zE,jZ,zY,qk,<-u];refine congr (congrArg List.cons ?_) (qG λi _=>?_)
  .show QL (List.getD _ (w*n+k) []) (Aa a 0)=_;rw[t];exact EB
  show QL (List.getD _ (w*n+(k+(i+1))) []) (Aa a (i+1))=QL (List.getD _ (w*n+(k+1+i)) []) (Aa (a.drop 1) i);rw[EC,xz 1 i,show k+(i+1)=k+1+i by lia]
theorem jo(j:n=lN h.ps){T:Nat}:∀(m w:Nat)(xs a:List Int)(rs:List (List Int)),w+m=T->(∀r∈rs,lN r=6)->lN rs=T*n->(∀i,w*n<=i->i<lN rs->rs.getD i []=LA)->lN (ZC h w m)<=lN xs->Dk (Ay n (ZC h w m) xs rs) n m w a=(ZI h m xs a).map λpg=>pg.map rI
 |0,_,_,_,_,_,_,_,_,_=>rfl
 | m+1,w,xs,a,rs,hw,e,g,l,u=>by
  have c:(w+1)*n<=lN rs:=by rw[g];exact qD _ (by lia)
  have x:lN (ZC h w (m+1))=lN (ND w 0 h.ps)+lN (ZC h (w+1) m):=zH;have pg:HE (Ay n (ZC h w (m+1)) xs rs) n w a=(YF h.ps xs a).map rI:=by
   have:=jn (Z:=ZC h (w+1) m) (λs hs=>(Sh _ _ s hs).1) h.ps 0 xs a rs (by lia) e c (λi d b=>l i (by lia) b) (by lia);rw[<-j]at this;rw[<-this];unfold HE;refine qG λi _=>?_
   rw[qS]
   rfl
  obtain⟨k,p⟩:=O7 (ND w 0 h.ps) (xs.take (lN (ND w 0 h.ps))) rs e;have o:Ay n (ZC h w (m+1)) xs rs=Ay n (ZC h (w+1) m) (xs.drop (lN (ND w 0 h.ps))) (Ay n (ND w 0 h.ps) (xs.take (lN (ND w 0 h.ps))) rs):=jm (by lia);show HE (Ay n (ZC h w (m+1)) xs rs) n w a::Dk (Ay n (ZC h w (m+1)) xs rs) n m (w+1) ((HE (Ay n (ZC h w (m+1)) xs rs) n w a).map λr=>Aa r 5)=(YF h.ps xs a).map rI::(ZI h m (xs.drop (h.ps.map OD).sum) ((YF h.ps xs a).map R6.f)).map λpg=>pg.map rI
  rw[pg,o,jo j (T:=T) m (w+1) _ _ _ (by lia) p (by rw[k,g]) (λi d b=>by rw[k]at b;rw[j0]at d;rw[Qs _ _ _ λs hs=>by obtain⟨t,v,_⟩:=Nx _ _ s hs;rw[t];lia];exact l i (by lia) b) (by rw[qI];lia),Xg,qk]
  rfl
end
def Fu(q:Nat->Int)(a:ZA)(x:Int):Prop:=NT a x/\((∀b,a.mo=uA b->x<b)->a.ga+q a.to<=q a.fr)/\(0<x->q a.fr<=a.ga+q a.to)
theorem ED{YJ l:Int}{q:Nat->Int}(f:OD p<=lN xs)(F:0<=pay)(a:Hw (Fu q) (UC h T w k pay YJ p) xs):sumZ (λa x=>x*a.ga) (UC h T w k pay YJ p) xs=tv p (VG p xs l) pay+if w+1=T then _W.lv p (VG p xs l) YJ else 0:=by
 unfold OD at f;unfold UC at a⊢;unfold VG tv _W.lv;cases e:p.kd with
 |XC b t=>
  simp[e]at f;obtain⟨x,y,r,rfl⟩:=QF f;show x*pay+(y*0+0)=x*pay+if w+1=T then 0 else 0
  rw[jq]
  split <;> lia
 | YC b=>
  simp[e]at f a;obtain⟨x,y,r,rfl⟩:=QF f;obtain⟨⟨⟨_,g⟩,B,_⟩,⟨⟨E,_⟩,_,o⟩,_⟩:=a;have g:=g b rfl;have i:x*pay=min (x+y) b*pay:=by
   by_cases v:y=0
   .rw[v,xD,Int.min_eq_left g]
   by_cases j:x<b
   .have u:=B λc A=>by cases A;exact j
    have C:=o (by lia);have:pay=0:=by simp[LC]at u C;lia
    rw[this,jq,jq]
   rw[show min (x+y) b=x by lia]
  show x*pay+(y*0+0)=min (x+y) b*pay+if w+1=T then 0 else 0
  rw[jq,i]
  split <;> lia
 | OA b s q=>
  cases q with
  |none=>
   simp[e]at f;obtain⟨x,y,r,rfl⟩:=QF f;show x*0+(y*(if w+1=T then YJ else 0)+0)= -(0*pay)+if w+1=T then y*YJ else 0
   rw[jq,Int.zero_mul]
   split <;> simp
  |some z=>
   obtain⟨t,d,m⟩:=z;simp[e]at f;obtain⟨x,y,z,r,rfl⟩:=HN f;show x*0+(y * -pay+(z*(if w+1=T then YJ else 0)+0))= -(y*pay)+if w+1=T then z*YJ else 0
   rw[jq,Int.mul_neg];split
   .lia
   rw[jq];lia
section
variable{h:RH}{T:Nat}{left:List Int}{q:Nat->Int}
theorem jp(d:∀k,0<=Aa y k):∀(ps:List RP)(k:Nat)(xs b:List Int),k+lN ps<=lN y->k+lN ps<=lN left->(ps.map OD).sum<=lN xs->Hw (Fu q) (ME h T w y left k ps) xs->sumZ (λa x=>x*a.ga) (ME h T w y left k ps) xs=MF tv ps (YF ps xs b) (y.drop k)+if w+1=T then MF _W.lv ps (YF ps xs b) (left.drop k)else 0
 |[],k,xs,b,_,_,_,_=>by cases xs<;>(split <;> rfl)
 |p::ps,k,xs,b,e,g,j,a=>by
  rw[zE]at e g;rw[zY,List.sum_cons]at j;have f:ME h T w y left k (p::ps)=UC h T w k (Aa y k) (Aa left k) p++ME h T w y left (k+1) ps:=rfl;rw[f]at a⊢;obtain⟨i,c⟩:=R1 a;rw[Jt]at c;have m:=jp d ps (k+1) (xs.drop (OD p)) (b.drop 1) (by lia) (by lia) (by rw[qI];lia) c;rw[Wy (by rw[Jt];lia),Jt,ij (show k<lN y by lia),ij (show k<lN left by lia),ED (l:=Aa b 0) (by lia) (d k) i,m]
  show _=tv p (VG p xs (Aa b 0)) (Aa y k)+MF tv ps (YF ps (xs.drop (OD p)) (b.drop 1)) (y.drop (k+1))+if w+1=T then _W.lv p (VG p xs (Aa b 0)) (Aa left k)+MF _W.lv ps (YF ps (xs.drop (OD p)) (b.drop 1)) (left.drop (k+1))else 0
  split <;> lia
def T9:∀(ps:List RP)(k:Nat),lN (ME h T w y left k ps)=(ps.map OD).sum:=λps k=>by rw[(Q7 ..).2,Xg]
theorem ne_eq(p:lN left=lN h.ps):∀(ys:List (List Int))(w:Nat)(xs b:List Int),(∀y∈ys,lN y=lN h.ps/\∀x∈y,0<=x/\x<=900)->w+lN ys=T->lN (MD h T left w ys)<=lN xs->Hw (Fu q) (MD h T left w ys) xs->sumZ (λa x=>x*a.ga) (MD h T left w ys) xs=XJ h (ZI h (lN ys) xs b) ys+VC h (ZI h (lN ys) xs b) left
 |[],w,xs,b,_,_,_,_=>by cases xs<;>rfl
 | y::ys,w,xs,b,e,c,d,a=>by
  rw[zE]at c;have i:MD h T left w (y::ys)=ME h T w y left 0 h.ps++MD h T left (w+1) ys:=rfl;rw[i]at a d⊢;rw[zH,T9]at d;obtain⟨m,g⟩:=R1 a;rw[T9]at g;obtain⟨r,o⟩:=e y (by simp);rw[Wy (by rw[T9];lia),T9,jp (T:=T) (left:=left) (w:=w) (λk=>(Ku (P:=λx=>0<=x/\x<=900) (by lia) o k).1) h.ps 0 xs b (by lia) (by lia) (by lia) m,ne_eq p ys (w+1) (xs.drop (h.ps.map OD).sum) ((YF h.ps xs b).map R6.f) (λz l=>e z (zV _ l)) (by lia) (by rw[qI];lia) g,jP,jP]
  show _=MF tv h.ps (YF h.ps xs b) y+XJ h (ZI h (lN ys) (xs.drop (h.ps.map OD).sum) ((YF h.ps xs b).map R6.f)) ys+VC h (YF h.ps xs b::ZI h (lN ys) (xs.drop (h.ps.map OD).sum) ((YF h.ps xs b).map R6.f)) left;cases ys with
  |nil=>
   rw[if_pos (by simpa using c)];show _+(XJ h [] []+0)=_+XJ h [] []+MF _W.lv h.ps (YF h.ps xs b) left;lia
  |cons s ys=>
   rw[if_neg (by simp[zE]at c;lia)];have j:∀(a:List R6)(n:Nat)(u v:List Int),VC h (a::ZI h (n+1) u v) left=VC h (ZI h (n+1) u v) left:=λa n u v=>by show VC h (a::YF h.ps u v::_) left=VC h (YF h.ps u v::_) left;unfold VC;rw[List.getLast?_cons_cons]
   rw[zE,j];lia
end
theorem EE{l:Int}(ok:KN p l r)(v:r.c=0)(a0:0<=r.a)(G:DH):Kv [p.enc,.int l,r.enc] G=.ok (.bl uC) G:=by
 have s:¬(("basin":Str)="town"):=by decide
 have o:¬(("basin":Str)="mill"):=by decide
 have w:¬(("mill":Str)="town"):=by decide
 obtain⟨I,C,A,F,H,j⟩:=ok;obtain⟨a,b,c,d,e,f⟩:=r;dsimp only at*;subst v;have i:∀G,Kc [.tup [.int a,.int b,.int 0,.int d,.int e,.int f]] G=.ok (.int (min (min (min (min (min a b) 0) d) e) f)) G:=λG=>tj (ns:=[b,0,d,e,f]) rfl
 have n:¬min (min (min (min (min a b) 0) d) e) f<0:=by lia
 have g:l+a=b+d+e+f:=by lia
 generalize min (min (min (min (min a b) 0) d) e) f=B at*;obtain⟨nm,dn,E,k⟩:=p;cases k with
 |XC x y=>
  obtain⟨h,rfl,rfl⟩:=j;unfold Kv Qh Od Oz RP.enc RP.row RK.rest RK.TF R6.enc;rw[Al];simp[i,n,g,h,Bl]
 |YC x=>
  obtain⟨_,rfl,rfl,rfl⟩:=j;unfold Kv Qh Od Oz Rc RP.enc RP.row RK.rest RK.TF R6.enc;rw[Al];simp[i,n,g,w,Bl]
 | OA x r q=>
  cases q with
  |none=>
   obtain⟨rfl,h,rfl⟩:=j;unfold Kv Qh Od Oz Rc Wz Y9 Xw RP.enc RP.row RK.rest RK.TF R6.enc OL;rw[Al];simp[i,n,g,s,o,h,Bl]
  |some z=>
   obtain⟨t,J,m⟩:=z;obtain⟨rfl,h,u⟩:=j;unfold Kv Qh Od Oz Rc Wz Y9 Xw RP.enc RP.row RK.rest RK.TF R6.enc OL;rw[Al];simp[i,n,g,s,o,h,u,Bl]
def EF{o:Option Nat}:Fd U w o 0=U:=by
 funext a b;unfold Fd
 split <;> lia
def jr(h:∀w k,0<=U w k){o:Option Nat}(a:0<=c):∀w' k',0<=Fd U w o c w' k':=λw' k'=>by
 have:=h w' k';unfold Fd
 split <;> lia
theorem EG(c:∀w k,0<=U w k){l:Int}(ok:KN p l r):∀w' k',0<=Hg h w p r U w' k':=by
 have a:=jr c (w:=w+p.dl.toNat) (o:=ZD h p) ok.d0;unfold Hg;cases p.kd with
 |OA b s q=>
  cases q with
  |none=>exact a
  |some z=>obtain⟨t,d,m⟩:=z;exact jr a ok.e0
 |_=>exact a
def EH{l:List Int}(h:k<lN l):Im (Aa l) k x=Aa (l.set k x):=by
 funext j;unfold Im Aa;simp only[zK];by_cases e:j=k
 .subst e;rw[qA h,if_pos rfl]
  rfl
 .rw[z0 λz=>e z.symm,if_neg e]
noncomputable def hQ(G:DH)(JA:List (List Key×D))(lay:List Int):DH:=G++[.RC JA,.lst (lay.map D.int)]
def EI(g:HG h)(hn:lN h.ps<=100){f:List Int}(hw:fl[w]?=uA f)(hf:lN f=lN h.ps)(hp:h.ps[k]?=uA p){lay:List Int}(hlay:lN lay=lN h.ps){j:List (List Key×D)}(hd:Dv j U)(hkl:lN j<=100000)
  {u:List (List R6)} {pg:List R6} (W:u[w]?=uA pg) {v:R6} (hv:pg[k]?=uA v) (va:v.a=Aa f k+U w k) (ok:KN p (Aa lay k) v) (c0:v.c=0) (a0:0<=v.a) {G:DH} {c:Nat} (hc:G[c]?=uA (.lst (u.map LP))) {s1 x8 x9:Option D}:
  ∃TC:List (List Key×D),Dv TC (Hg h w p v U)/\lN TC<=lN j+2/\
   Mw [uA h.enc,s1,zF (fl.map tupI),zR c,zR (lN G),zR (lN G+1),zI (w:Int),zI (k:Int),x8,x9] (hQ G j lay)=
    .nx [uA h.enc,s1,zF (fl.map tupI),zR c,zR (lN G),zR (lN G+1),zI (w:Int),zI (k:Int),uA p.enc,uA v.enc] (hQ G TC (lay.set k v.f)):=by
 have hk:=(zX.mp hp).1;have K:=g.pg k p hp;have dl0:=K.dl.1;have o1:∀G,Af h.enc (.int 1) G=.ok (.tup (h.ps.map RP.enc)) G:=λG=>Dw
 have ap:=Hq hp;have af:NC (fl.map tupI) (w:Int)=zT (f.map D.int):=By rfl (by rw[zv,hw];rfl);have O:=La (xs:=f) (i:=k) (by lia);have M:=La (xs:=lay) (i:=k) (by lia);have L:NC (u.map LP) (w:Int)=zT (pg.map R6.enc):=By rfl (by rw[zv,W];rfl);have N:NC (pg.map R6.enc) (k:Int)=uA v.enc:=By rfl (by rw[zv,hv];rfl);have Y:∀n l,(hQ G n l)[lN G]?=uA (.RC n):=λn l=>by unfold hQ;rw[Dy];rfl
 have I:∀n l,(hQ G n l)[lN G+1]?=uA (.lst (l.map D.int)):=λn l=>by unfold hQ;rw[G8];rfl
 have h3:(hQ G j lay)[c]?=uA (.lst (u.map LP)):=by unfold hQ;rw[zC (zX.mp hc).1];exact hc
 have st:∀n E l,(hQ G n l).set (lN G) (.RC E)=hQ G E l:=λn E l=>by unfold hQ;rw[Ez];rfl
 have hg:=LX hd (Y j lay) (S:=[uA h.enc,s1,zF (fl.map tupI),zR c,zR (lN G),zR (lN G+1),zI (w:Int),zI (k:Int),uA p.enc,uA v.enc]) (to:=dV 4) (ta:=dV 6) (tb:=dV 7) rfl rfl rfl;have cf:=EE ok c0 a0 (hQ G j lay);have x:=λG=>DR g hn hp G
 obtain⟨q,e1,l1,F⟩:=iu hd (by lia) (Y j lay) (w+p.dl.toNat) v.d (ZD h p);rw[show((w+p.dl.toNat:Nat):Int)=(w:Int)+p.dl by lia,st]at F;have p3:∀G,Af p.enc (.int 3) G=.ok (.int p.dl) G:=λG=>GR
 have v0:∀G,Af v.enc (.int 0) G=.ok (.int (Aa f k+U w k)) G:=λG=>by rw[<-va];simp[R6.enc]
 have v3:∀G,Af v.enc (.int 3) G=.ok (.int v.d) G:=λG=>by simp[R6.enc]
 have v4:∀G,Af v.enc (.int 4) G=.ok (.int v.e) G:=λG=>by simp[R6.enc]
 have v5:∀G,Af v.enc (.int 5) G=.ok (.int v.f) G:=λG=>by simp[R6.enc]
 have i0:MJ (lN (lay.map D.int)) (k:Int)=uA k:=Ob (by rw[zq];lia);have sl:∀n,(hQ G n lay).set (lN G+1) (.lst ((lay.map D.int).set k (.int v.f)))=hQ G n (lay.set k v.f):=λn=>by unfold hQ;rw[Ht,vQ];rfl
 have J:∀n,Fy (.ref (lN G+1)) (.int (k:Int)) (.int v.f) (hQ G n lay)=.ok .KA (hQ G n (lay.set k v.f)):=λn=>by rw[Jm,I];simp only[i0,sl]
 have B:=ok.kd;by_cases he:0<v.e
 .obtain⟨b,rr,t,C,m,r⟩:∃b rr t d m,p.kd=.OA b rr (uA (t,d,m)):=by
   cases r:p.kd with
   |OA b s o=>
    cases o with
    |none=>simp only[r]at B;lia
    |some z=>obtain⟨t,d,m⟩:=z;exact⟨b,s,t,d,m,rfl⟩
   |_=>simp only[r]at B;lia
  have kg:=K.kd;rw[r]at kg;obtain⟨tm,td,_⟩:=kg.2 t C m rfl;have T:=λG=>Zs hn hp r tm G
  obtain⟨A,e2,l2,y⟩:=iu e1 (by lia) (Y q lay) (w+C.toNat) v.e (uA ((QC h).idxOf t));rw[st,show((w+C.toNat:Nat):Int)=(w:Int)+C by lia]at y;have y:Le [.ref (lN G),.int ((w:Int)+C),.int ((QC h).idxOf t:Nat),.int v.e] (hQ G q lay)=_:=y;have p6:∀G,Af p.enc (.int 6) G=.ok (.tup [.str t,.int C,.int m]) G:=λG=>by unfold RP.enc RP.row RK.rest;rw[r];simp[OL]
  have Q:Hg h w p v U=Fd (Fd U (w+p.dl.toNat) (ZD h p) v.d) (w+C.toNat) (uA ((QC h).idxOf t)) v.e:=by
   unfold Hg;rw[r]
   rfl
  refine⟨A,by rw[Q];exact e2,by lia,?_⟩;have I:=I j lay;have J:=J A;generalize hQ G A (lay.set k v.f)=H3,hQ G A lay=H2,hQ G q lay=H1,hQ G j lay=H,Aa lay k=lk,Aa f k=fk,U w k=uk,(QC h).idxOf t=ix,dN (ZD h p)=P,lay.map D.int=LY,pg.map R6.enc=PG,u.map LP=X,fl.map tupI=FL,h.ps.map RP.enc=PS,f.map D.int=FI,v.enc=ve,p.enc=pe,h.enc=Z at*;unfold Mw;simp[o1,ap,h3,L,N,v0,af,O,hg,I,M,cf,x,p3,v3,F,v4,he,p6,T,y,v5,ON,J]
 .have ez:v.e=0:=by have:=ok.e0;lia
  have Q:Hg h w p v U=Fd U (w+p.dl.toNat) (ZD h p) v.d:=by
   unfold Hg;cases p.kd with
   | OA b s o=>
    cases o with
    |none=>rfl
    |some z=>
     obtain⟨t,d,m⟩:=z;show Fd _ _ _ v.e=_;rw[ez,EF]
   |_=>rfl
  refine⟨q,by rw[Q];exact e1,by lia,?_⟩;have I:=I j lay;have J:=J q;generalize hQ G q (lay.set k v.f)=H3,hQ G q lay=H1,hQ G j lay=H,Aa lay k=lk,Aa f k=fk,U w k=uk,dN (ZD h p)=P,lay.map D.int=LY,pg.map R6.enc=PG,u.map LP=X,fl.map tupI=FL,h.ps.map RP.enc=PS,f.map D.int=FI,v.enc=ve,p.enc=pe,h.enc=Z at*;unfold Mw;simp[o1,ap,h3,L,N,v0,af,O,hg,I,M,cf,x,p3,v3,F,v4,he,v5,ON,J]
section
variable{h:RH}{fl:List (List Int)}{MC:List (List R6)}{G:DH}{c:Nat}{s1:Option D}
theorem Zv(g:HG h)(C:lN h.ps<=100)(B:G[c]?=uA (.lst (MC.map LP))){f:List Int}(hw:fl[w]?=uA f)(H:lN f=lN h.ps)(L:∀x∈f,0<=x){pg:List R6}(n:MC[w]?=uA pg)(J:∀r∈pg,r.c=0){U':DU}{E:Nat->Int}:
  ∀(m k:Nat)(b:List (List Key×D))(lay:List Int)(U:DU)(s x8 x9:Option D),k+m=lN h.ps->lN lay=lN h.ps->Dv b U->(∀w k,0<=U w k)->lN b+2*m<=100000->WJ h w f k (h.ps.drop k) (pg.drop k) U (Aa lay) U' E->
  ∃(TC:List (List Key×D)) (a:List Int) (y7 N O:Option D),lN a=lN h.ps/\Aa a=E/\Dv TC U'/\(∀w k,0<=U' w k)/\lN TC<=lN b+2*m/\
   Aw (gV 7) Mw (An (k:Int) m) [uA h.enc,s1,zF (fl.map tupI),zR c,zR (lN G),zR (lN G+1),zI (w:Int),s,x8,x9] (hQ G b lay)=
    .nx [uA h.enc,s1,zF (fl.map tupI),zR c,zR (lN G),zR (lN G+1),zI (w:Int),y7,N,O] (hQ G TC a)
 | 0,k,b,lay,U,s,x8,x9,e,p,y,t,_,q=>by
  rw[xF (show lN h.ps<=k by lia)]at q;cases d:pg.drop k with
  |cons r A=>rw[d]at q;exact q.elim
  |nil=>
   rw[d]at q;obtain⟨rfl,rfl⟩:=q;exact⟨b,lay,s,x8,x9,p,rfl,y,t,by lia,by rw[Ff,Et]⟩
 | m+1,k,b,lay,U,s,x8,x9,e,p,y,t,hk,q=>by
  have o:k<lN h.ps:=by lia
  rw[zU o]at q;cases d:pg.drop k with
  |nil=>rw[d]at q;exact q.elim
  |cons v A=>
   have F:pg[k]?=uA v:=by have:=xC (xs:=pg) (i:=k) (j:=0);rw[d]at this;exact this.symm
   have S:A=pg.drop (k+1):=by have:=vJ (l:=pg) (i:=1) (j:=k);rw[d]at this;exact this
   rw[d]at q;obtain⟨M,I,K⟩:=q;have f1:=Ku (qK _) L k;obtain⟨u,W,b2,P⟩:=EI g C hw H (zZ o) p y (by lia) n F M I (J v (zP F)) (by have:=t w k;lia) B (s1:=s1) (x8:=x8) (x9:=x9);rw[EH (by lia),S]at K;obtain⟨z,a,Z,Y,T,d1,X,Q,d4,d5,hL⟩:=Zv g C B hw H L n J m (k+1) u (lay.set k v.f) _ (zI (k:Int)) (uA h.ps[k].enc) (uA v.enc) (by lia) (by rw[jQ];exact p) W (EG t I) (by lia) K
   refine⟨z,a,Z,Y,T,d1,X,Q,d4,by lia,?_⟩;rw[Eu,Dc];simp only[Cp,R.Cq,qM,P,Dl];exact hL
theorem js(g:HG h)(K:lN h.ps<=100)(J:G[c]?=uA (.lst (MC.map LP)))(u:∀f∈fl,lN f=lN h.ps/\∀x∈f,0<=x)(N:∀pg∈MC,∀r∈pg,r.c=0):
  ∀(m w:Nat)(a:List (List Key×D))(lay:List Int)(U:DU)(z o x8 x9:Option D),w+m=lN fl->lN lay=lN h.ps->Dv a U->(∀w k,0<=U w k)->lN a+200*m<=100000->UG h w (fl.drop w) (MC.drop w) U (Aa lay)->
  ∃(TC:List (List Key×D)) (b:List Int) (y6 B v y:Option D),
   Aw (gV 6) O8 (An (w:Int) m) [uA h.enc,s1,zF (fl.map tupI),zR c,zR (lN G),zR (lN G+1),z,o,x8,x9] (hQ G a lay)=
    .nx [uA h.enc,s1,zF (fl.map tupI),zR c,zR (lN G),zR (lN G+1),y6,B,v,y] (hQ G TC b)
 |0,w,a,lay,U,z,o,x8,x9,_,_,_,_,_,_=>⟨a,lay,z,o,x8,x9,by rw[Ff,Et]⟩
 | m+1,w,a,lay,U,z,o,x8,x9,e,P,Y,u0,hk,q=>by
  have s:w<lN fl:=by lia
  obtain⟨f1,f2⟩:=u _ (qw s);rw[zU s]at q;cases A:MC.drop w with
  |nil=>rw[A]at q;exact q.elim
  |cons pg S=>
   have L:MC[w]?=uA pg:=by have:=xC (xs:=MC) (i:=w) (j:=0);rw[A]at this;exact this.symm
   have Z:S=MC.drop (w+1):=by have:=vJ (l:=MC) (i:=1) (j:=w);rw[A]at this;exact this
   rw[A]at q;obtain⟨Q,L',O,M⟩:=q;obtain⟨p,d,B,v,y,T,d2,X,d4,d5,hL⟩:=Zv g K J (zZ s) f1 f2 L (N pg (zP L)) (lN h.ps) 0 a lay U o x8 x9 (by lia) P Y u0 (by lia) O;rw[<-d2,Z]at M;obtain⟨E,b,z6,z7,z8,z9,C⟩:=js g K J u N m (w+1) p d Q (zI (w:Int)) B v y (by lia) T X d4 (by lia) M;refine⟨E,b,z6,z7,z8,z9,?_⟩;have o1:∀G,Af h.enc (.int 1) G=.ok (.tup (h.ps.map RP.enc)) G:=λG=>Dw
   have t:∀G,Aq [.tup (h.ps.map RP.enc)] G=.ok (.int (lN h.ps)) G:=λG=>by simp
   have F:inR (lN h.ps:Int):=Ek (by lia) (by lia);have I:Aw (gV 7) Mw (An 0 (lN h.ps)) [uA h.enc,s1,zF (fl.map tupI),zR c,zR (lN G),zR (lN G+1),zI (w:Int),o,x8,x9] (hQ G a lay)=_:=hL;have W:O8 [uA h.enc,s1,zF (fl.map tupI),zR c,zR (lN G),zR (lN G+1),zI (w:Int),o,x8,x9] (hQ G a lay)=.nx [uA h.enc,s1,zF (fl.map tupI),zR c,zR (lN G),zR (lN G+1),zI (w:Int),B,v,y] (hQ G p d):=by generalize hQ G p d=H1,hQ G a lay=H,fl.map tupI=FL,h.ps.map RP.enc=PS,lN h.ps=n,h.enc=he at*;unfold O8;simp[o1,t,F,I]
   rw[Eu,Dc];simp only[Cp,R.Cq,qM,W,Dl];exact C
def EJ{left:List Int}(g:GV h ly cm fl GA left)(q:UG h 0 fl MC (D0 cm) (Aa ly))(B:∀pg∈MC,∀r∈pg,r.c=0)(v:G[c]?=uA (.lst (MC.map LP))):Lh [h.enc,GC ly cm,.fl (fl.map tupI),.ref c] G=.ok (.bl uC) G:=by
 have K:=g.n5;have t:=g.RY;have m:=g.lv.1;have C:=g.cm.1;obtain⟨a,E,S,i⟩:=EA (λr o=>(g.cm.2 r o).1) (by lia) (ly:=ly) G;have I:Bd 0:=⟨by decide,by decide⟩;have A:∀w k,0<=D0 cm w k:=λw k=>by
  unfold D0;split
  .refine(Ku I (λx d=>?_) w).1;rw[zK]at d;cases e:cm[k]? with
   |none=>rw[e]at d;cases d
   |some r=>rw[e]at d;exact(g.cm.2 r (zP e)).2 x d
  .exact qK _
 obtain⟨l,b,T,U,L,M,J⟩:=js g.hg (by lia) v (λf s=>⟨(g.fr f s).1,λx d=>((g.fr f s).2 x d).1⟩) B (lN fl) 0 a ly (D0 cm) uB uB uB uB (by lia) m E A (by lia) q;have p:Aw (gV 6) O8 (An 0 (lN fl)) [uA h.enc,uA (GC ly cm),zF (fl.map tupI),zR c,zR (lN G),zR (lN G+1),uB,uB,uB,uB] (G++[.RC a,.lst (ly.map D.int)])=_:=J;have F:tidy G (.ok (.bl uC) (hQ G l b))=.ok (.bl uC) G:=K8 rfl
 have z:∀G,Af (GC ly cm) (.int 0) G=.ok (.tup (ly.map D.int)) G:=λG=>by simp[GC,tupI]
 have y:tidy (G++[.RC a]) (.ok (.ref (lN G+1)) (G++[.RC a,.lst (ly.map D.int)]))=.ok (.ref (lN G+1)) (G++[.RC a,.lst (ly.map D.int)]):=V3 Hf;have j:∀G,Aq [.fl (fl.map tupI)] G=.ok (.int (lN fl)) G:=λG=>by simp
 have o:inR (lN fl:Int):=Ek (by lia) (by lia);have u:lN (ly.map D.int)<=1000000:=by simp;lia
 generalize hQ G l b=H,fl.map tupI=N,ly.map D.int=P,lN fl=n,GC ly cm=Q,h.enc=O at*;unfold Lh eG eF eE eC;rw[Al];simp[i,z,u,y,j,o,p,F]
end
theorem jt:∀(ps:List RP)(xs d:List Int),∀r∈YF ps xs d,r.c=0
 |[],_,_,r,a=>by cases a
 | p::ps,xs,d,r,a=>by
  rcases zw.mp a with rfl|a
  .unfold VG;cases p.kd with
   |OA b s q=>cases q<;>rfl
   |_=>rfl
  .exact jt ps _ _ r a
theorem ju:∀(m:Nat)(xs a:List Int),∀pg∈ZI h m xs a,∀r∈pg,r.c=0
 |0,_,_,pg,hp=>by cases hp
 |m+1,xs,a,pg,hp=>by
  rcases zw.mp hp with rfl|hp
  .exact jt _ _ _
  .exact ju m _ _ pg hp
def W5{l:List (List Int)}:NA n (PC l)=uC:=Ga
section
variable{h:RH}{lv:List Int}{cm fl GA:List (List Int)}{left:List Int}{G:DH}
structure Pld (h:RH) (lv:List Int) (cm fl GA:List (List Int)) (left:List Int) (G:DH) (e:Int) (f:List Int) (H:DH) (PR PG:List D):Prop where
 cp:Lg [h.enc,GC lv cm,.fl (fl.map tupI),.fl (PC GA),.tup (left.map D.int)] G=.ok (.tup [.int e,.ref (lN G+4),.ref (lN G+3)]) H
 tb:DO.tab "Sending" "send_by"∈H
 gp:H[lN G+4]?=uA (.lst PG)
 gr:H[lN G+3]?=uA (.lst PR)
 lr:lN PR=lN fl
 sh:Mz [.tup [.int e,.ref (lN G+4),.ref (lN G+3)],.int (lN fl:Int),.int (lN h.ps:Int)] H=.ok (.bl uC) H
 po:Lh [h.enc,GC lv cm,.fl (fl.map tupI),.ref (lN G+4)] H=.ok (.bl uC) H
 ea:Nz [h.enc,.ref (lN G+4),.fl (PC GA),.tup (left.map D.int)] H=.ok (.int e) H
def WK(g:GV h lv cm fl GA left)(I:DO.tab "Sending" "send_by"∈G):∃(e:Int)(f P:List Int)(H:DH)(N PG:List D),RG (lN fl*lN h.ps) (MD h (lN GA) left 0 GA) (Cz lv cm 0 fl) e f P/\Pld h lv cm fl GA left G e f H N PG:=by
 have K:=g.n5;have A:=g.RY;have c:=g.pn;obtain⟨e,f,P,ok,cp⟩:=DL g (T7 g) (λs hs=>by obtain⟨_,S,O⟩:=Sh _ _ s hs;exact⟨by lia,O⟩) G I
 have k:∀r∈zQ (lN GA*lN h.ps) LA,lN r=6:=λr z=>by rw[List.eq_of_mem_replicate z];rfl
 obtain⟨v,o⟩:=O7 (ZC h 0 (lN GA)) f _ k;have t:=jo rfl (lN GA) 0 f lv _ (qS _) k (qO ..) (λi _ d=>by
  rw[qO]at d;rw[zK,qP,if_pos d]
  rfl) (xq (by rw[<-((R9 (h:=h) (T:=lN GA) (left:=left) GA 0).2),ok.lf]))
 have q:=D9 g ok.lf ok.fe;obtain⟨U,L⟩:=q.len;have n:Pt h (ZI h (lN fl) f lv) GA left:=⟨by lia,L,λl m=>⟨(g.pr l m).1,λy p=>by have:=(g.pr l m).2 y p;lia⟩,g.lf.1,λy p=>by have:=g.lf.2 y p;lia⟩;have M:XJ h (ZI h (lN fl) f lv) GA+VC h (ZI h (lN fl) f lv) left=e:=by have:=ne_eq g.lf.1 GA 0 f lv g.pr (qS _) (xq ok.lf.symm) (Ws ok.lf λi d=>⟨⟨ok.fe.nn i d,λb Q=>ok.fe.le i b d Q⟩,ok.sl.more i d,ok.sl.WM i d⟩);rw[c]at this;rw[ok.ea];unfold K7;rw[R8 (F:=λa x=>x*a.ga) ok.lf,c];exact this.symm
 have C:(Dk (Ay (lN h.ps) (ZC h 0 (lN GA)) f (zQ (lN GA*lN h.ps) LA)) (lN h.ps) (lN GA) 0 lv).map YE=(ZI h (lN fl) f lv).map LP:=by
  rw[t,qk,c];refine qG λu _=>?_
  show D.tup ((u.map rI).map tupI)=D.tup (u.map R6.enc);rw[qk]
  rfl
 have m:lN (hD G h (lN GA) (MD h (lN GA) left 0 GA) (ZC h 0 (lN GA)))=lN G+3:=WL;have j:(hD G h (lN GA) (MD h (lN GA) left 0 GA) (ZC h 0 (lN GA))++[.lst ((Gp P (lN h.ps) (lN GA)).map tupI),.lst ((Dk (Ay (lN h.ps) (ZC h 0 (lN GA)) f (zQ (lN GA*lN h.ps) LA)) (lN h.ps) (lN GA) 0 lv).map YE)])[lN G+4]?=uA (.lst ((Dk (Ay (lN h.ps) (ZC h 0 (lN GA)) f (zQ (lN GA*lN h.ps) LA)) (lN h.ps) (lN GA) 0 lv).map YE)):=by
  rw[<-show lN (hD G h (lN GA) (MD h (lN GA) left 0 GA) (ZC h 0 (lN GA)))+1=lN G+4 by rw[m],G8]
  rfl
 have J:(hD G h (lN GA) (MD h (lN GA) left 0 GA) (ZC h 0 (lN GA))++[.lst ((Gp P (lN h.ps) (lN GA)).map tupI),.lst ((Dk (Ay (lN h.ps) (ZC h 0 (lN GA)) f (zQ (lN GA*lN h.ps) LA)) (lN h.ps) (lN GA) 0 lv).map YE)])[lN G+3]?=uA (.lst ((Gp P (lN h.ps) (lN GA)).map tupI)):=by
  rw[<-m,Dy]
  rfl
 have E:=D1 (e:=e) (iU ..) (by simp[Gp]) (iV o (by rw[v,qO]) _ _ _ (by lia)) (λr z=>by obtain⟨w,hw,rfl⟩:=qY.mp z;exact DT (by rw[ok.lp,c]) (qz.mp hw)) (by lia) (by lia) j J
 rw[c]at E;refine⟨e,f,P,_,_,_,ok,cp,qT _ (qT _ I),j,J,by simp[Gp,c],c▸E,?_,?_⟩
 .rw[C]at j⊢;exact EJ g q (ju (h:=h) (lN fl) f lv) j
 rw[C]at j⊢;have B:=D6 (λw u hw=>Hk j (By rfl (by rw[zv,hw];rfl))) (by simp[j]) n (by lia) (by lia);rw[M]at B;exact B
end
def EK(G H:DH)(b:Bool):∃H',tidy G (.ok (.bl b) H)=.ok (.bl b) H':=by
 unfold tidy;dsimp only;split
 .split <;> exact⟨_,rfl⟩
 exact⟨_,rfl⟩
def EL(sc:List Int)(G:DH)(hT:DO.tab "Sending" "send_by"∈G):∃p,K3 [.fl (sc.map D.int)] G=.ok (.bl uC) p:=by
 obtain⟨h,g,k,fl,a,left,j,hg⟩:=C6 sc G;have E:=j.RY;have hpn:=j.pn;obtain⟨e,f,P,H,c,PG,ok,cp,tb,r,M,lr,sh,po,v⟩:=WK j hT;have N:((H.set (lN G+4) (.lst [])))[lN G+3]?=uA (.lst c):=by rw[z0 (by lia)];exact M
 have B:DO.tab "Sending" "send_by"∈(H.set (lN G+4) (.lst [])).set (lN G+3) (.lst (c++[.int 1])):=by
  obtain⟨i,U,ei⟩:=j8 tb;have m:H[i]?=uA (.tab "Sending" "send_by"):=by rw[zZ U,ei]
  have n1:lN G+3≠i:=λz=>by rw[<-z,M]at m;cases m
  have n2:lN G+4≠i:=λz=>by rw[<-z,r]at m;cases m
  refine zP (i:=i) ?_;rw[z0 n1,z0 n2];exact m
 obtain⟨w,f2,P2,I,PR2,PG2,b,q,_,_,_,_,t,A,_⟩:=WK j B;have ee:w=e:=by have C:=most ok.p0 (iY (T7 j).OG) ok.fe ok.sl b.fe;have o:=most b.p0 (iY (T7 j).OG) b.fe b.sl ok.fe;rw[ok.ea,b.ea];lia
 subst ee;have bT:NA (lN G) [h.enc,GC g k,.fl (fl.map tupI),.fl (PC a),.tup (left.map D.int)]=uC:=by
  have o:QB (lN G) (GC g k)=uC:=by
   have o:QB (lN G) (tupI g)=uC:=by exact Hf
   unfold GC;simp[o,Ga]
  simp[o,Ga,W5,Hf]
 have S:freeze G (.ok (.tup [h.enc,GC g k,.fl (fl.map tupI),.fl (PC a),.tup (left.map D.int)]) G)=.ok (.tup [h.enc,GC g k,.fl (fl.map tupI),.fl (PC a),.tup (left.map D.int)]) G:=Qa (by simpa[QB]using bT);have z1:∀G,freeze G (.ok (.ref (lN G)) (G++[.lst (fl.map tupI)]))=.ok (.fl (fl.map tupI)) G:=λG=>Bj Ga
 have z2:∀G,freeze G (.ok (.ref (lN G)) (G++[.lst (PC a)]))=.ok (.fl (PC a)) G:=λG=>Bj W5
 have z3:∀G,freeze G (.ok (.ref (lN G)) (G++[.lst [.fl (fl.map tupI),.fl (PC a)]]))=.ok (.fl [.fl (fl.map tupI),.fl (PC a)]) G:=λG=>Bj (by simp[Ga,W5])
 have on:∀G,Do (.fl [.fl (fl.map tupI),.fl (PC a)]) (.fl [.fl (fl.map tupI),.fl (PC a)]) G=.ok (.bl uD) G:=λG=>sY (bu λd J=>by
  have L:∀l:List (List Int),MH 29 (.fl (l.map tupI))=uC:=λl=>bu λx hx=>by
   obtain⟨y,_,rfl⟩:=qY.mp hx;exact sZ λz W=>by
    obtain⟨u,_,rfl⟩:=qY.mp W
    rfl
  simp[zw,List.not_mem_nil,or_false]at J;rcases J with rfl|rfl
  .exact L fl
  exact L a)
 have X:lN (fl.map tupI)=lN fl:=by simp
 have Z:lN (PC a)<=1000000:=by simp[PC];lia
 have Q:lN (fl.map tupI)<=1000000:=by simp;lia
 have C:∀G,Af h.enc (.int 1) G=.ok (.tup (h.ps.map RP.enc)) G:=λG=>Dw
 have hl:∀G,Aq [.tup (h.ps.map RP.enc)] G=.ok (.int (lN h.ps:Int)) G:=λG=>by simp
 have s:lN c<1000000:=by lia
 have F:∀(K:DH)(x:Int)(H:DH),tidy K (.ok (.tup [.int x,.ref (lN K+4),.ref (lN K+3)]) H)=.ok (.tup [.int x,.ref (lN K+4),.ref (lN K+3)]) H:=λK x H=>by unfold tidy;simp[QB,NA];lia
 have t2:=F ((H.set (lN G+4) (.lst [])).set (lN G+3) (.lst (c++[.int 1]))) w I;have ti:∀G,tidy G (.ok (.int 1) G)=.ok (.int 1) G:=λG=>Bl rfl
 have mc:Lp (.ref (lN G+4)) [] H=.ok .KA (H.set (lN G+4) (.lst [])):=by simp[Lp,r]
 have lp:PN (.ref (lN G+4)) H=uC:=by simp[PN,r]
 have O:PN (.ref (lN G+3)) (H.set (lN G+4) (.lst []))=uC:=by simp[PN,N]
 have ma:Cd (.ref (lN G+3)) [.int 1] (H.set (lN G+4) (.lst []))=.ok .KA ((H.set (lN G+4) (.lst [])).set (lN G+3) (.lst (c++[.int 1]))):=by simp[N,s]
 obtain⟨p,te⟩:=EK G I uC;refine⟨p,?_⟩;generalize(H.set (lN G+4) (.lst [])).set (lN G+3) (.lst (c++[.int 1]))=H4 at*;generalize H.set (lN G+4) (.lst [])=H3,sc.map D.int=SC,fl.map tupI=FL,lN fl=T,PC a=PY,left.map D.int=LF,GC g k=SE,h.ps.map RP.enc=Y,lN h.ps=n,h.enc=he at*;unfold K3 fX fW fV fU fR fQ fP fO fN fM fL;rw[Al];simp[hg,S,C,hl,X,Z,Q,z1,z2,Ac,z3,cp,F G w H,sh,on,po,v,lp,mc,O,ti,ma,q,t2,t,A,te]
def holds:Holds:=λa _=>EL a _ (by simp)
end _W
set_option maxRecDepth 100000
namespace _W
open PySem PySem.W _L _D
def Nr:∀w,(openEnds wK pw w 100000).map (λs=>(openSeen vw [] (vO pw.main.body) (JR GJ vw) uC s,Xk "Sending" "send_by" asks s.heap))=uA (openGood vw [],Yd asks):=yJ (by kernel_rfl) (λs=>rfl) kE
def walked:WalkO vw [] (XL vw []) (KI GJ.prog 100000) GJ.row.toRowW (YN J7) [] λf vs=>qe f vs:=
 walk (l:=GJ) (K:=λw=>Bx (H9 pw 100000 w)) (T0:=λw=>Q0 (Bx (H9 pw 100000 w)) (Ii (Bx (H9 pw 100000 w)) "Sending" "send_by")) rfl MR holds (λw h Y=>⟨Y.in,Y _ _ (Z7 (Prod.mk.inj (Qq Nr w)).1).2.2⟩) λw mg fa h KX G hmg=>all_mk KX G (show mg "law"=_ from hmg) (Z7 (Prod.mk.inj (Qq Nr w)).1).1 (Z7 (Prod.mk.inj (Qq Nr w)).1).2.1 (xp _) (dG (Prod.mk.inj (Qq Nr w)).2)
end _W
open PySem PySem.W PyProof.Rows _D
theorem PySem.Challenge.cw_sluiceway_k72_a_plan_is_possible_holds : PySem.Challenge.rw_sluiceway_k72_a_plan_is_possible.Holds := by
 refine holds_top (l:=_W.GJ) (q:=_W.vw) (loose:=[]) (N:=100000) (see:=Xk "Sending" "send_by" _W.asks) (val:=Yd _W.asks) (d:=YN _W.J7) ?_ ?_ ?_ ?_ ?_ ?_ ?_ ?_ ?_ ?_
 .exact _W.well
 .exact _W.Nr
 .exact _W.HJ
 .exact _W.hp
 .exact _W.hk
 .rfl
 .exact _W.SA
 .exact _W.JU
 .exact _W.hw
 .exact _W.walked
