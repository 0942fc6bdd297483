import PyProof.Rows.All
import PySem.Challenge.RW_sluiceway_k16_rows_refused
import KE.KNestM
import KE.KIsAll
import KE.KIntText
import KE.KItem
import Wide.FinOn
import Lean
set_option compiler.extract_closed false
set_option bootstrap.genMatcherCode false
set_option genSizeOf false
set_option Elab.async false
set_option linter.all false
set_option maxRecDepth 100000
open PySem.W.WData renaming weightAll->tx
open PySem.W.Fast renaming tw5923862056798008813->sj,tw4187177175401517315->tu
open List.cons renaming injEq->S0,inj->cj
open Option.some renaming inj->xv
open Option renaming some->uQ,none->uZ
open Bool renaming true->uJ,false->uX,not_eq_true->uu1
open PySem.W renaming Frag->za,nsIn->zb,keepIn->zh,findIn->qb,InstAt->qc,kia_one->qd,hideAll->qg,hideAll_get->ja,of_hideAll->jb,fnOf->jc,hideAll_none->xf,lookIn->xg,handedIn->xh,callWith_K->xi,kitOne->vM,OpenLaw->vN,specialIn->vO,hasDictIn->vR,findObj->vS,notCls->vT,cellsFrom_some->vc,codeIn->vd,WalkO->wz,isNs_of_in->wv,readsIn->ww,findCls->wk,takerIn->w9,any_some->wD,subIn->wE,looks_findIn->wM,looks_find->wO
open PySem.F renaming slot_str_split->zf,type_str_split->zg,slot_str_join->zi,type_str_join->qa,slot_str_partition->qh,type_str_partition->qi,slot_tuple_iterator_next->jf,slot_enumerate_next->jg,slot_tuple_add->vH,entry_tuple_add->vI,args_tuple_add_2->vL,excBase_ValueError->vP,plainAttrs_str->vg,entry_tuple_iterator_next->vh,args_tuple_iterator_next_1->vi,entry_enumerate_next->wW,args_enumerate_next_1->wK,slot_enumerate_iter->wq,slot_str_startswith->wS,type_str_startswith->wa
open PySem renaming mem_of_lookup->ze,call->jh,passOn->xa,intText?->wx
open PyProof.Rows renaming slot_tuple_getitem->jd,callWith_type1->vb,callWith_builtin1->ve,partition_whole->wb,mem_iff_at->wc
open PySem.SeqAt.EqAt renaming int_str->vU,str_int->va
open PySem.SeqAt renaming ne_of_list_tuple->vf
open PySem.Builtin.SmallTypes renaming nextOf->je,ownedTupleIsFree->wQ,ownedTupleHandOut->wZ,fitsIndex->we
open PySem.Builtin.Str renaming strKind->zc,occurrences->zd,strSliceIndices->qe,strSub->qf,partsBetween->ji,tooLong->wj
open List renaming mem_cons_of_mem->zQ,mem_cons->zZ,map_cons->zJ,getElem?_eq_getElem->zX,length_map->zV,size_toArray->zj,getElem?_eq_some_iff->zv,mem_append_right->zk,length_cons->z0,not_mem_nil->z5,mem_map->z7,mem_cons_self->z8,length_append->zC,getElem?_map->zD,range->zE,mem_append->zG,getElem?_append_right->zL,getElem?_append_left->zN,getD_eq_getElem?_getD->zO,length->zU,replicate->qQ,map_nil->qZ,mem_singleton->qJ,all_eq_true->qX,getElem_mem->qV,append_assoc->qW,drop_eq_getElem_cons->qK,append_nil->qY,getElem?_eq_none->qj,filterMap_cons->qx,getElem_of_mem->qw,drop_drop->qk,getElem?_set_ne->qy,set->q8,map_map->qA,mem_append_left->qB,range'->qD,length_set->qF,mem_of_mem_take->qG,length_take->qH,take_of_length_le->qI,getElem?_set->qM,length_drop->qN,mem_of_getElem?->qO,mem_of_mem_drop->qP,getElem?_replicate->qR,map_set->qS,mem_range->qT,getElem?_set_self->qU,drop_of_length_le->jQ,length_nil->jZ,length_singleton->jX,take_length->jV,mem_or_eq_of_mem_set->jK,getElem?_take_of_lt->jY,eq_nil_of_length_eq_zero->jz,map_append->jx,lookup_cons->jk,foldl_cons->j0,map_congr_left->j2,filterMap_map->j3,all_cons->j5,drop_append_of_le_length->j7,take_append_of_le_length->j8,nil_append->j9,sum_cons->jA,length_replicate->jB,take_append_drop->jC,forall_mem_cons->jE,isEmpty_iff->jF,eq_append_cons_of_mem->jG,getElem?_eq_none_iff->jH,take_succ_cons->jI,map_eq_nil_iff->jL,map_take->jM,mem_filter->jN,nodup_cons->jO,lookup->jR,getElem?_cons_succ->jT,range_succ_eq_map->xQ,map_drop->xX,length_filter_le->xV,filter_cons->xW,forIn_cons->xY,contains_cons->uu2
open Nat renaming lt_of_lt_of_le->zK,le_refl->zY,le_trans->zy,lt_irrefl->zH,ne_of_lt->zP,lt_succ_self->q9,le_of_lt->qE,toDigits->jJ,le_of_ble_eq_true->jW,mul_le_mul_right->jq,lt_trichotomy->jj,toDigits_of_lt_base->jw,le_succ->jy,ne_of_gt->jD,lt_of_le_of_lt->jS,lt_succ_of_lt->jU
open Int renaming emod_lt_of_pos->q0,emod_nonneg->q7,le_refl->xJ,lt_trans->xq
open Option renaming map_eq_some_iff->zA,map_some->jP
open Bool renaming and_eq_true->zq,false_ne_true->z6,and_eq_true_iff->qC,false_eq_true->j4,or_eq_true->j6
open Array renaming getElem?_eq_some_iff->zM,length_toList->qL,getElem?_toList->xZ,append_assoc->uu3
open PySem.Heap renaming get?_push_of_some->zW,lt_size->zx,get?_push_size->z9,get?_update_other->qq,get?_update_self->qz,SameBut->jv,size_push->j1,get?_none_of_le->xK
open PySem renaming Addr->xz,Around->xj,Expr->xw,FuncData->xk,NameKind->xy,Program->x0,Scope->x2,Shared->x9,Stmt->xA,Value->xB,World->xC,assignEach->xD,attributeBase->xE,backTo->xF,backToKw->xG,behindInMarks->xH,binaryOp->xI,bootBuiltins->xL,checkBuiltinCall->xM,codeAny_mono->xN,compareOp->xO,importedModules->xP,keywordEach->xR,letOwnedTupleGo->xS,mainGlobals->xT,model->xU,rawInt->vQ,sizeLine_eq->vZ,sliceBounds->vJ,starEach->vX,treeTable->vV,wpAny->vW,wpAny_Call_Name_kw->vK,wpAny_bind->vY,wpAny_callSpecial?_slot->vq,wpAny_call_entry->vz,wpAny_field->vj,wpAny_holding->vx,wpAny_mono->vv,wpAny_newObj_type->vy,wpAny_passesOwn->vA,wpAny_pure->vB,wpAny_setField_rec->vC,wpAny_truthy_bool->vD
open PySem.W renaming Frag->vE,boot_heap->vF
set_option maxHeartbeats 0
open List renaming length -> lN
noncomputable section
local macro_rules | `(tactic|rfl')=> `(tactic|first|exact .inl rfl|exact .inr rfl|assumption)
namespace _L
open PySem PySem.Spec PyProof.Rows
noncomputable def G9(s:xA):Arguments:=match s with
 |.FunctionDef _ a _ _ _ _ _ _ _ _=>a
 |_=>{posonlyargs:=[],args:=[],vararg:=uZ,kwonlyargs:=[],kw_defaults:=[],kwarg:=uZ,defaults:=[]}
noncomputable def Dp(s:xA):List xA:=match s with
 |.FunctionDef _ _ b _ _ _ _ _ _ _=>b
 |_=>[]
noncomputable def Ba(s:xA):x2:=match s with
 |.FunctionDef _ _ _ _ _ _ sc _ _ _=>sc
 |_=>{kind:=.function,names:=[],isGenerator:=uX,isCoroutine:=uX}
end _L
namespace _D
open PySem PySem.W _L
variable{h:Heap}{C:xz}{m x q:Str}{st:xA}{mg:Str->Option xB}
noncomputable def O5:List Obj->Nat->vE
 |[],_=>[]
 |o::r,n=>match o.cls,o.data with
  |.none,.fields _=>O5 r (n+1)
  |_,.freed=>O5 r (n+1)
  |_,_=>(n,o)::O5 r (n+1)
def Uk(h:Heap):vE:=O5 h.objs.toList 0
noncomputable def WO(s:xA):DefRec:=match s with
 |Stmt.FunctionDef n a b _ _ _ s _ _ p=>⟨n,a,b,s,p⟩
 |_=>⟨Str.empty,⟨[],[],uZ,[],[],uZ,[]⟩,[],{kind:=.module,names:=[],isGenerator:=uX,isCoroutine:=uX,more:=[]},⟨0,0,0,0⟩⟩
noncomputable abbrev XO(l:OpenLaw)(q:x0)(s:x9):Bool:=xlAt q [] s&&recOk l.row.toRowW.records s
noncomputable def Ac(K:vE)(n:Str):xz:=match nsIn K xT n with
 |some (uQ (.ref f))=>f
 |_=>0
noncomputable def LM(K:vE)(n:Str):Bool:=match nsIn K xT n with
 |some (uQ (.ref _))=>uJ
 |_=>uX
noncomputable def Bq(K:vE)(C:xz)(m:Str):xz:=match findIn K (.ref C) m with
 |some (uQ (.ref f))=>f
 |_=>0
noncomputable def YY(K:vE)(C:xz)(m:Str):Bool:=match findIn K (.ref C) m with
 |some (uQ (.ref f))=>isFn K (.ref f)
 |_=>uX
noncomputable def HY(K:vE)(C:xz)(m:Str):Bool:=match findIn K (.ref C) m with
 |some uZ=>uJ
 |_=>uX
noncomputable def ZY(K:vE)(n:Str):Bool:=match nsIn K xT n with
 |some uZ=>uJ
 |_=>uX
noncomputable def Vz(K:vE)(C:xz):Bool:=match findIn K (.ref C) "__setattr__" with
 |some (uQ (.builtin s))=>s == "object.__setattr__"
 |_=>uX
noncomputable def HZ(K:vE)(n:Str)(v:Int):Bool:=match nsIn K xT n with
 |some (uQ (.int u _))=>decide (u=v)
 |_=>uX
noncomputable def IZ(K:vE)(n:Str)(v:Str):Bool:=match nsIn K xT n with
 |some (uQ (.str u _))=>decide (u=v)
 |_=>uX
noncomputable def Hm(K:vE)(f:xz):Obj:=match K.lookup f with
 |some o=>o
 |none=>⟨.none,uZ,.plain,#[]⟩
def Bb(K:vE)(f:xz):xk:=match(Hm K f).data with
 |.func fd=>fd
 |_=>default
noncomputable def lm:xB->Bool
 |.none=>uJ
 |_=>uX
noncomputable def lq:FuncBody->Option (List xA)
 |.stmts b=>uQ b
 |_=>uZ
def Uu(K:vE)(x q:Str)(f:xz):Bool:=match K.lookup f with
 |some ⟨_,_,.func fd,_⟩=>decide (fd.name=x)&&decide (fd.qualname=q)&&(fd.globals==xT&&fd.builtins==builtinsNs&&fd.closure.isEmpty&&lm fd.defaults)&&(codeIn K fd.code q&&keepIn K (.ref f))
 |_=>uX
noncomputable abbrev MF:=Arguments×Option (List xA)×x2
def Mw(K:vE)(f:xz):MF:=((Bb K f).params,lq (Bb K f).body,(Bb K f).scope)
def N6(st:xA):MF:=(G9 st,uQ (Dp st),Ba st)
noncomputable def JZ(K:vE)(d:xB)(v:Int):Bool:=match d with
 | .ref T=>match K.lookup T with
  | some o=>(match o.data with
   |.seq a _=>(match a.toList with
    |[.int i _]=>decide (i=v)
    |_=>uX)
   |_=>uX)
  |none=>uX
 |_=>uX
def aE(K:vE)(x q:Str)(f:xz)(v:Int):Bool:=match K.lookup f with
 |some ⟨_,_,.func fd,_⟩=>decide (fd.name=x)&&decide (fd.qualname=q)&&(fd.globals==xT&&fd.builtins==builtinsNs&&fd.closure.isEmpty&&JZ K fd.defaults v)&&(codeIn K fd.code q&&keepIn K (.ref f))
 |_=>uX
noncomputable def strsOf:List xB->Option (List Str)
 |[]=>uQ []
 |.str s _::r=>(strsOf r).map (s::·)
 |_::_=>uZ
def Z7(K:vE)(n:Str)(vs:List Str):Bool:=match nsIn K xT n with
 | some (uQ (.ref p))=>(match K.lookup p with
   |some ⟨.type t,_,.seq LA _,_⟩=>t == "tuple"&&decide (strsOf LA.toList=uQ vs)&&Nat.ble LA.toList.length 1000
   |_=>uX)
 |_=>uX
def aF(K:vE)(n:Str)(LD:List (Str×Str)):Bool:=match nsIn K xT n with
 | some (uQ (.ref p))=>(match K.lookup p with
   |some ⟨.type t,_,.dict es _,_⟩=>t == "dict" && !(p==sysModules)&&decide (strsOf (es.toList.map (·.key))=uQ (LD.map (·.1)))&&decide (strsOf (es.toList.map (·.val))=uQ (LD.map (·.2)))
   |_=>uX)
 |_=>uX
inductive Ask where
 |fn (n:Str) (st:xA)
 |mt (c m q:Str) (st:xA)
 |cl (c:Str)
 |no (c x:Str)
 |z (n:Str)
 |gi (n:Str) (v:Int)
 |gs (n v:Str)
 |gt (n:Str) (vs:List Str)
 |gd (n:Str) (LD:List (Str×Str))
 |ck (φ:vE->Bool)
 |fd (n:Str) (st:xA) (v:Int)
def Ask.IY(K:vE):Ask->Bool
 |.fn n _=>LM K n&&Uu K n n (Ac K n)
 |.mt c m q _=>YY K (Ac K c) m&&Uu K m q (Bq K (Ac K c) m)
 |.cl c=>LM K c&&(plainGet K (Ac K c) Str.empty&&hasDictIn K (Ac K c)&&plainOver K (Ac K c))&&(Vz K (Ac K c)&&makesIn K (Ac K c)&&keepIn K (.ref (Ac K c)))
 |.no c x=>HY K (Ac K c) x
 |.z n=>ZY K n
 |.gi n v=>HZ K n v
 |.gs n v=>IZ K n v
 |.gt n vs=>Z7 K n vs
 |.gd n LD=>aF K n LD
 |.ck φ=>φ K
 |.fd n _ v=>LM K n&&aE K n n (Ac K n) v
def Ask.XA(K:vE):Ask->Option MF
 |.fn n _=>uQ (Mw K (Ac K n))
 |.mt c m _ _=>uQ (Mw K (Bq K (Ac K c) m))
 |.fd n _ _=>uQ (Mw K (Ac K n))
 |_=>uZ
def Ask.MR:Ask->Option MF
 |.fn _ st=>uQ (N6 st)
 |.mt _ _ _ st=>uQ (N6 st)
 |.fd _ st _=>uQ (N6 st)
 |_=>uZ
def aB(l:List Ask)(h:Heap):Bool×List (Option MF):=(l.all (Ask.IY (Uk h)),l.map (Ask.XA (Uk h)))
noncomputable abbrev aC(l:List Ask):Bool×List (Option MF):=(uJ,l.map Ask.MR)
noncomputable def Y4(p:x0)(w:xC)(n₀:Nat)(ann:Option xB):Nat->SharedT->Thread->Option SharedT
 |0,_,_=>uZ
 | n+1,s,t=>match through t with
  |true=>uQ s
  | false=>match PySem.W.Fast.tw6613529449190102663 n₀ ann t with
   |false=>uZ
   |true=>match PySem.W.Fast.tw10156331382660048174 (PySem.W.Fast.tw11892475500146522536 PySem.W.Fast.tw14364793385576792824) p w s t with
    |some (s',t')=>Y4 p w n₀ ann n s' t'
    |none=>uZ
noncomputable def cw:List Obj->Nat->BT->BT
 |[],_,t=>t
 |o::r,n,t=>cw r (n+1) (t.ins n o)
def cy(w:xC)(os:OsState):SharedT:=⟨cw (vF w.params).objs.toList 0 .nil,(vF w.params).objs.size,(vF w.params).life,Array.mk [],boot_drawn,boot_toks,os⟩
def aA(p:x0)(w:xC)(os:OsState):Option SharedT:=Y4 p w (vF w.params).objs.size (PySem.W.Fast.tw8920871248978507458 (vF w.params) xT "__annotations__") 100000 (cy w os) (topStub p)
noncomputable def aD(p:x0)(w:xC)(s:x9):Bool:=staticsOk (sj p.main.body) (vF w.params) s.heap&&namesBound p s.heap&&gensDone s&&laidKept (vF w.params) s.heap
def lu(h:PySem.W.Fast.tw9446332074065402090 l=uJ):l.wellSaid=uJ:=by rw[PySem.W.Fast.te9446332074065402090];exact h
noncomputable abbrev YO:List xB:=[.type "ValueError",.type "Exception",.type "BaseException",.type "object"]
def Eu(K:za)(C:xz):Bool:=match K.lookup C with
 |some ⟨c,_,.cls d,s⟩=>c == .type "type"&&d.mro == .ref C::d.mro.tail&&s.toList == [s.toList.getD 0 uZ,s.toList.getD 1 uZ,s.toList.getD 2 uZ,s.toList.getD 3 uZ,uQ (.builtin "ValueError.__new__"),s.toList.getD 5 uZ] && !d.hasDel&&d.hasDict&&PySem.W.tailIn K YO d.mro.tail&&PySem.W.nsOkIn K d.ns
 |_=>uX
noncomputable def Ms(K:za)(C f:xz):Bool:=match K.lookup C with
 |some ⟨_,_,.cls cd,_⟩=>zb K cd.ns "__init__"==uQ (uQ (.ref f))
 |_=>uX
noncomputable def KZ:xB->String
 |.type n=>n
 |_=>""
noncomputable def SU:xB->Bool
 |.ref _=>uJ
 |_=>uX
def T9:List xB->Bool
 |[]=>uX
 |a::r=>(SU a&&T9 r)||decide ((a::r).map KZ=["ValueError","Exception","BaseException","object"])
def Yo(K:za)(C:xz):Bool:=(PySem.W.clsIn K C).any λcd=>T9 cd.mro
noncomputable def NM(r:Option (Option xB))(n:String):Bool:=match r with
 |some (uQ (.builtin m))=>m==n
 |_=>uX
noncomputable def Dn(r:Option Bool)(b:Bool):Bool:=match r with
 |some c=>c==b
 |_=>uX
noncomputable def N5{α:Type}(r:Option (Option α)):Bool:=match r with
 |some uZ=>uJ
 |_=>uX
noncomputable def aG(K:vE)(a:xz):Bool:=match K.lookup a with
 |some ⟨.type t,_,_,_⟩=>t == "function"
 |_=>uX
def Ld(c f:Str)(K:vE):Bool:=LM K c&&keepIn K (.ref (Ac K c))&&(Eu K (Ac K c)&&Vz K (Ac K c)&&Yo K (Ac K c)&&N5 (takerIn K (Ac K c) f)&&hasDictIn K (Ac K c))&&Ms K (Ac K c) (Bq K (Ac K c) "__init__")&&aG K (Bq K (Ac K c) "__init__") &&
 (NM (findIn K (.ref (Ac K c)) "__getattribute__") "BaseException.__getattribute__"&&N5 (findIn K (.ref (Ac K c)) "__getattr__")&&Dn (subIn K (.ref (Ac K c)) (.type "BaseException")) uJ&&NM (findIn K (.ref (Ac K c)) "__class__") "object.__class__" &&
  NM (specialIn K (.builtin "object.__class__") "__get__") "getset_descriptor.__get__"&&Dn (takesIn K (.builtin "object.__class__")) uJ&&Dn (mroIn K (Ac K c) (.type "object")) uJ&&Dn (kitCls K (.ref (Ac K c)) (.ref (Ac K c))) uJ)&&HY K (Ac K c) f
noncomputable def aH(r:Option CFound)(n:String):Bool:=match r with
 |some (.val (.builtin m))=>m==n
 |_=>uX
def aI(x:Str)(K:vE):Bool:=LM K x&&NM (specialIn K (.ref (Ac K x)) "__getattribute__") "type.__getattribute__"&&readsIn K (Ac K x) (.type "type")&&aH (findCls K (.ref (Ac K x)) (.type "type") "__init__") "ValueError.__init__"
def Np(K:za)(C W:xz)(b:Bool):Bool:=Eu K C&&Eu K W&&match K.lookup C with
 |some ⟨_,_,.cls cd,_⟩=>cd.mro.contains (.ref W)==b
 |_=>uX
def Wn(K:vE)(C:xz):Bool:=match K.lookup C with
 |some ⟨_,_,.cls cd,_⟩=>N5 (nsIn K cd.ns "__init__")
 |_=>uX
def RM(c:Str)(K:vE):Bool:=LM K c&&keepIn K (.ref (Ac K c))&&(Eu K (Ac K c)&&hasDictIn K (Ac K c))&&Wn K (Ac K c) &&
 (NM (findIn K (.ref (Ac K c)) "__getattribute__") "BaseException.__getattribute__"&&N5 (findIn K (.ref (Ac K c)) "__getattr__")&&Dn (subIn K (.ref (Ac K c)) (.type "BaseException")) uJ&&NM (findIn K (.ref (Ac K c)) "__class__") "object.__class__" &&
  NM (specialIn K (.builtin "object.__class__") "__get__") "getset_descriptor.__get__"&&Dn (takesIn K (.builtin "object.__class__")) uJ&&Dn (mroIn K (Ac K c) (.type "object")) uJ&&Dn (kitCls K (.ref (Ac K c)) (.ref (Ac K c))) uJ)
noncomputable def pss:xA:=.Pass ⟨0,0,0,0⟩
noncomputable def JY:xA->Str×List xA
 |.ClassDef n [] _ b _ _ _ _ _ _ _=>(n,b)
 |_=>(Str.empty,[])
noncomputable def mtA(n:Str)(s:xA):Ask:=match s with
 |.FunctionDef m _ _ _ _ _ _ _ _ _=>.mt n m (n++"."++m) s
 |_=>.ck λ_=>uJ
noncomputable def OR(n:Str):xA->Ask
 |.Assign [.Attribute _ x _] _ _=>.no n x
 |_=>.ck λ_=>uJ
def LZ(s:xA):List Ask:=(JY s).2.map (mtA (JY s).1)++(JY s).2.flatMap λf=>(Dp f).map (OR (JY s).1)
noncomputable def Z4(s:xA):Ask:=match s with
 |.FunctionDef n a _ _ _ _ _ _ _ _=>(match a.defaults with
  |[]=>.fn n s
  |[.Constant (.int v) _ _]=>.fd n s v
  |_=>.ck λ_=>uJ)
 |.ClassDef n [] _ _ _ _ _ _ _ _ _=>.cl n
 |.Assign [.Name x _] (.Constant c _ _) _=>(match c with
  |.int v=>.gi x v
  |.str v=>if x == "__name__" then .ck λ_=>uJ else .gs x v
  |_=>.ck λ_=>uJ)
 |_=>.ck λ_=>uJ
noncomputable def zAs:List Ask:=(["all","any","bool","enumerate","int","isinstance","len","list","max","min","range","set","sorted","str","sum","tuple","zip","ValueError"]:List Str).map .z
def Zx(b:List xA)(ex:List Ask):List Ask:=ex++(zAs++(b.flatMap LZ++b.map Z4))
noncomputable abbrev IK(b:List xA)(i:Nat):xA:=b.getD i pss
def Zc(K:vE)(c:Str):Bool:=LM K c&&(Eu K (Ac K c)&&hasDictIn K (Ac K c)) &&
 (NM (findIn K (.ref (Ac K c)) "__getattribute__") "BaseException.__getattribute__"&&N5 (findIn K (.ref (Ac K c)) "__getattr__")&&Dn (subIn K (.ref (Ac K c)) (.type "BaseException")) uJ&&NM (findIn K (.ref (Ac K c)) "__class__") "object.__class__" &&
  NM (specialIn K (.builtin "object.__class__") "__get__") "getset_descriptor.__get__"&&Dn (takesIn K (.builtin "object.__class__")) uJ&&Dn (mroIn K (Ac K c) (.type "object")) uJ&&Dn (kitCls K (.ref (Ac K c)) (.ref (Ac K c))) uJ)
def aJ(cs es:List Str)(K:vE):Bool:=(cs.all λc=>LM K c&&es.all λe=>Dn (kitOne K (.ref (Ac K e)) (.ref (Ac K c))) (c==e))&&es.all λe=>Zc K e&&Np K (Ac K e) (Ac K "WaterError") uJ&&Dn (kitOne K (.ref (Ac K e)) (.type "ValueError")) uJ
end _D
namespace _W
open PySem PySem.W _L _D
noncomputable abbrev body:List xA:=PySem.Challenge.pw_sluiceway_k16_rows_refused.main.body
noncomputable abbrev top(i:Nat):xA:=IK body i
noncomputable def HU(s:xA)(j:Nat):xA:=match s with
 |.ClassDef _ _ _ body _ _ _ _ _ _ _=>body.getD j (.Pass ⟨0,0,0,0⟩)
 |_=>.Pass ⟨0,0,0,0⟩
noncomputable abbrev Zi:=HU (top 3) 0
noncomputable abbrev aL:=HU (top 5) 0
noncomputable abbrev aM:=HU (top 6) 0
noncomputable abbrev aN:=HU (top 4) 0
noncomputable abbrev aO:=HU (top 7) 0
noncomputable abbrev aP:=HU (top 8) 0
noncomputable abbrev Kc:=top 92
noncomputable def B':List Str:=["NoAsk","NoBounds","NoHouse","NoLevel","NoName","NoNumber","NoPump","NoRiver","NoRow","NoRule","NoText","NoWay","TooLong"]
noncomputable def D':List Str:=["NoHouse","NoName","NoNumber","NoPump","NoRiver","NoRule","NoText"]
def MZ:List Ask:=[.gt "WAYS" ["river","pump"],.mt "NoName" "__init__" "NoName.__init__" Zi,.mt "NoNumber" "__init__" "NoNumber.__init__" aL,.mt "NoPump" "__init__" "NoPump.__init__" aM,.mt "NoRiver" "__init__" "NoRiver.__init__" aN,.mt "NoRule" "__init__" "NoRule.__init__" aO,.mt "NoText" "__init__" "NoText.__init__" aP,.ck (Ld "NoName" "place"),.ck (Ld "NoNumber" "place"),.ck (Ld "NoPump" "place"),.ck (Ld "NoRiver" "place"),.ck (Ld "NoRule" "place"),.ck (Ld "NoText" "row"),.ck (RM "NoHouse"),.ck (aI "WaterError"),.ck (λK=>LM K "WaterError"),.ck (aJ B' D')]
def asks:List Ask:=Zx body MZ
abbrev IJ:OpenLaw:=PySem.Challenge.rw_sluiceway_k16_rows_refused
abbrev pw:x0:=OpenLaw.prog PySem.Challenge.rw_sluiceway_k16_rows_refused
noncomputable def vw:x0:=view pw (zE 93)
noncomputable def qq9{A B C D E:Type}(a:A×B×C×D×E):=match a with|(a,b,c,d,_)=>(a,b,c,d)
noncomputable def qx9{A B C D E:Type}(a:A×B×C×D×E):=match a with|(_,_,_,_,x)=>x
def qz9{S A B C D E:Type}{o:Option S}{f:S->A×B×C×D×E}{a}(h:o.map (λs=>((f s).1,(f s).2.1,(f s).2.2.1,(f s).2.2.2.1))=uQ (qq9 a))(k:o.map (λs=>(f s).2.2.2.2)=uQ (qx9 a)):o.map f=uQ a:=by cases o with
 |none=>cases h
 |some s=>
  obtain⟨_,_,_,_,_⟩:=a
  cases h;cases k;rfl
noncomputable abbrev qv9:=tu vw [] (sj pw.main.body) (XO IJ vw) uJ
def qj9:∀w os,(aA pw w os).map (λs=>((qv9 s.abs).1,(qv9 s.abs).2.1,(qv9 s.abs).2.2.1,(qv9 s.abs).2.2.2.1))=uQ (qq9 (openGood vw [])):=λw os=>by kernel_rfl
def xq9:∀w os,(aA pw w os).map (λs=>(qv9 s.abs).2.2.2.2)=uQ (qx9 (openGood vw [])):=λw os=>by kernel_rfl
def NZ:∀w os,(aA pw w os).map (λs=>tu vw [] (sj pw.main.body) (XO IJ vw) uJ s.abs)=uQ (openGood vw []):=λw os=>qz9 (qj9 w os) (xq9 w os)
def OZ:∀w os,(aA pw w os).map (λs=>(aD pw w s.abs,aB asks s.abs.heap))=uQ (uJ,aC asks):=λw os=>by kernel_rfl
theorem lw:∀w os,(aA pw w os).map (λs=>(aD pw w s.abs,tu vw [] (sj pw.main.body) (XO IJ vw) uJ s.abs,aB asks s.abs.heap))=uQ (uJ,openGood vw [],aC asks):=λw os=>by
 have h1:=NZ w os
 have h2:=OZ w os
 revert h1 h2
 generalize aA pw w os=o
 intro h1 h2
 cases o with
 |none=>cases h2
 |some s=>exact congrArg some (Prod.ext (Prod.mk.inj (xv h2)).1 (Prod.ext (xv h1) (Prod.mk.inj (xv h2)).2))
def well:IJ.wellSaid=uJ:=lu (by kernel_rfl)
def PR:defOf vw IJ.row.name=uQ (WO Kc,[]):=by kernel_rfl
def hp:IJ.row.prog.theDef IJ.row.name=uQ ((WO Kc).params,(WO Kc).body,(WO Kc).scope):=by kernel_rfl
def hk:kwWritten? (WO Kc).params.kwonlyargs (WO Kc).params.kw_defaults=uQ []:=by kernel_rfl
def SA:(chainsOk vw&&opensWell IJ.row.prog&&(frees IJ.row.toRowW&&IJ.row.within.isEmpty))=uJ:=by kernel_rfl
def TU:(WO Kc).params.defaults=[]:=by kernel_rfl
def UU:IJ.row.prog.bare:=⟨rfl,rfl,rfl,rfl,rfl,by decide +kernel⟩
def hw:IJ.row.toRowW.promised:=by w_witness2
end _W
namespace _L
open PySem PySem.Spec PyProof.Rows
variable{t':Nat}{s:x9}{vG:List (xz×Obj)}{tg:xw}{P:x0}
noncomputable abbrev Key:=Sum Int Str
noncomputable def cz:Key->xB->Bool
 |.inl k,v=>Value.isInt k v
 |.inr x,v=>Value.isStrOf x v
noncomputable def PZ(w:xC):Key->Int
 |.inl k=>hashInt k
 |.inr x=>hashStr w x
theorem Ku:∀{k:Key}{v:xB},cz k v=uJ->(∃i t,k=Sum.inl i/\v=Value.int i t)\/(∃x t,k=Sum.inr x/\v=Value.str x t)
 |.inl i,v,h=>by obtain⟨t,e⟩:=Value.isInt_shape h;exact .inl ⟨i,t,rfl,e⟩
 |.inr x,v,h=>by obtain⟨t,e⟩:=Value.isStrOf_shape h;exact .inr ⟨x,t,rfl,e⟩
def lx(a b:Int):decide ((Sum.inl a:Key)=Sum.inl b)=(a==b):=by
 by_cases e:a=b
 .subst e;simp
 rw[decide_eq_false (λq=>e (Sum.inl.inj q))];exact(beq_eq_false_iff_ne.mpr e).symm
def ly(a b:Str):decide ((Sum.inr a:Key)=Sum.inr b)=decide (a=b):=by
 by_cases e:a=b
 .subst e;simp
 rw[decide_eq_false (λq=>e (Sum.inr.inj q)),decide_eq_false e]
def mB(a:Int)(b:Str):decide ((Sum.inl a:Key)=Sum.inr b)=uX:=decide_eq_false (nofun)
def mC(a:Str)(b:Int):decide ((Sum.inr a:Key)=Sum.inl b)=uX:=decide_eq_false (nofun)
noncomputable def dA(prog:x0)(w:xC):PySem.KeyKind prog w Key where
 is:=cz
 hash:=PZ w
 inj:=λv a b ha hb=>by
  rcases Ku ha with⟨i,t,rfl,rfl⟩|⟨x,t,rfl,rfl⟩
  .rcases Ku hb with⟨j,u,rfl,e⟩|⟨y,u,rfl,e⟩
   .injection e with e1 _;rw[e1]
   .exact nomatch e
  .rcases Ku hb with⟨j,u,rfl,e⟩|⟨y,u,rfl,e⟩
   .exact nomatch e
   .injection e with e1 _;rw[e1]
 byValue:=λk v h=>by rcases Ku h with⟨i,t,rfl,rfl⟩|⟨x,t,rfl,rfl⟩<;>rfl
 pyHash:=λhv h=>by
  rcases Ku hv with⟨i,t,rfl,rfl⟩|⟨x,t,rfl,rfl⟩
  .exact wpAny_pyHash_int h
  .exact wpAny_pyHash_str h
 eqBool:=λhu hv h=>by
  rcases Ku hu with⟨i,t,rfl,rfl⟩|⟨x,t,rfl,rfl⟩
  .rcases Ku hv with⟨j,u,rfl,rfl⟩|⟨y,u,rfl,rfl⟩
   .rw[lx]at h;exact wpAny_eqBool_int h
   .rw[mB]at h;exact vU i t y u _ _ _ _ h
  .rcases Ku hv with⟨j,u,rfl,rfl⟩|⟨y,u,rfl,rfl⟩
   .rw[mC]at h;exact va x t j u _ _ _ _ h
   .rw[ly]at h;exact wpAny_eqBool_str h
 «strs»:=λk x t v h=>by
  rcases Ku h with⟨i,u,rfl,e⟩|⟨y,u,rfl,e⟩
  .exact nomatch e
  .injection e with e1 _
   subst e1
   cases v<;>rfl
inductive V where
 |UA|bl (b:Bool)|int (i:Int)|str (x:Str)|byt (b:Array UInt8)|flt (b:UInt64)|ref (a:xz)|ty (n:String)
 deriving DecidableEq
def RelV:V->xB->Prop
 |.UA,u=>u=Value.none
 |.bl b,u=>u=Value.bool b
 |.int i,u=>∃t,u=Value.int i t
 |.str x,u=>∃t,u=Value.str x t
 |.byt b,u=>∃t,u=Value.bytes b t
 |.flt b,u=>∃t,u=Value.float b t
 |.ref a,u=>u=Value.ref a
 |.ty n,u=>u=Value.type n
abbrev Vals:List V->List xB->Prop:=Paired RelV
def Vals.length{xs:List V}{us:List xB}(r:Vals xs us):xs.length=us.length:=Paired.length r
theorem Vals.get:∀{xs:List V}{us:List xB}{i:Nat}{x:V},Vals xs us->xs[i]?=uQ x->∃u,us[i]?=uQ u/\RelV x u
 |_,_,_,_,.nil,e=>by simp at e
 |_,_,0,_,.cons r _,e=>by simp at e;subst e;exact⟨_,rfl,r⟩
 |_,_,i+1,x,.cons _ t,e=>by obtain⟨u,d,j⟩:=Vals.get t (by simpa using e);exact⟨u,by simpa using d,j⟩
theorem Vals.set(r:RelV x u):∀{xs:List V}{us:List xB}(i:Nat),Vals xs us->Vals (xs.set i x) (us.set i u)
 |_,_,_,.nil=>.nil
 |_,_,0,.cons _ t=>.cons r t
 |_,_,i+1,.cons q t=>.cons q (Vals.set r i t)
theorem Vals.append:∀{xs ys:List V}{us ws:List xB},Vals xs us->Vals ys ws->Vals (xs++ys) (us++ws)
 |_,_,_,_,.nil,s=>s
 |_,_,_,_,.cons r t,s=>.cons r (Vals.append t s)
theorem Vals.take:∀{xs:List V}{us:List xB}(n:Nat),Vals xs us->Vals (xs.take n) (us.take n)
 |_,_,0,_|_,_,_+1,.nil=>.nil
 |_,_,n+1,.cons r t=>.cons r (Vals.take n t)
theorem Vals.drop:∀{xs:List V}{us:List xB}(n:Nat),Vals xs us->Vals (xs.drop n) (us.drop n)
 |_,_,0,r=>r
 |_,_,_+1,.nil=>.nil
 |_,_,n+1,.cons _ t=>Vals.drop n t
def ZK:Option V->Option xB->Prop
 |some v,uQ u=>RelV v u
 |none,uZ=>True
 |_,_=>False
def KV{κ:Type}:List (κ×V)->List (κ×xB)->Prop:=Paired λ(p:κ×V)(q:κ×xB)=>p.1=q.1/\RelV p.2 q.2
noncomputable def kV:Key->V
 |.inl i=>.int i
 |.inr x=>.str x
inductive HO where
 |lst (xs:List V)
 |tup (xs:List V)
 |dK (LD:List (Key×V))|dT (LD:List (List Key×V))
 |set (S:Int->Bool) (n:Nat)
 |ins (C dx:xz) (fs:List (Str×V))
 |own (x:xz)
 |xd (fs:List (Str×V))
 |met (f x:xz)
 |KY (lo hi:Int)
 |WB (o:Obj) (u:HO)
 |SM (ps:Array xB)
 |ext (φ:Heap->Prop)
noncomputable abbrev Hp:=xz->Option HO
noncomputable def upd(H:Hp)(a:xz)(o:HO):Hp:=λb=>if b=a then uQ o else H b
def Hw:upd H a o a=uQ o:=by unfold upd;rw[if_pos rfl]
def Aw(h:b≠a):upd H a o b=H b:=by unfold upd;rw[if_neg h]
def Hb{H:Hp}{a b:xz}{o:HO}(h:H a=uQ o)(h':H b=uZ):a≠b:=by intro e;subst e;rw[h]at h';cases h'
section
variable(P:x0)(w:xC)
def JC(H:Hp)(h:Heap)(a:xz):HO->Prop
 |.lst xs=>xs.length<=sizeLine/\∃(LA:List xB)(n:Nat),Vals xs LA/\h.get? a=uQ {cls:=.type "list",data:=.seq LA.toArray n}
 |.tup xs=>xs.length<=sizeLine/\∃LA:List xB,Vals xs LA/\IsTup h a LA.toArray
 |.dK LD=>LD.length<=sizeLine/\(a==sysModules)=uX/\∃vs,KV LD vs/\h.DictOf (dA P w) a vs
 | .dT LD=>LD.length<=sizeLine/\(a==sysModules)=uX/\∃xs:List (List Key×xz×xB),
   Paired (λ(p:List Key×V)(q:List Key×xz×xB)=>p.1=q.1/\H q.2.1=uQ (.tup (p.1.map kV))/\RelV p.2 q.2.2) LD xs/\
   ∃o es ep,h.get? a=uQ o/\o.ExactDict/\o.data=.dict es ep/\es.toList=xs.map (entryOfKey (tupleKind (dA P w)))/\(xs.map (·.1)).Nodup
 |.set S n=>h.SetOf (intKind P w) a S n
 | .ins C dx fs=>H dx=uQ (.own a)/\fs.length<=1000/\dx≠a/\h.get? a=uQ (PySem.W.instObj C dx)/\
   ∃mA,h.Ns1 dx mA/\(∀f,ZK (fs.lookup f) (mA f))/\PySem.Within mA (fs.map (·.1))
 |.own _=>∃o,h.get? a=uQ o
 |.xd fs=>∃mA,h.Ns1 a mA/\∀f,ZK (fs.lookup f) (mA f)
 |.KY lo hi=>∃t u v,h.get? a=uQ {cls:=.type "range",data:=.fields #[.int lo t,.int hi u,.int 1 v]}
 |.WB o u=>h.get? a=uQ o/\JC H h a u
 |.SM ps=>h.get? a=uQ {cls:=.none,data:=.fields ps}
 |.met f x=>h.get? a=uQ (PySem.W.methodObj (.ref f) (.ref x))
 |.ext φ=>φ h/\(∃o,h.get? a=uQ o)/\∀h1 h2:Heap,φ h1->(∀o,h1.get? a=uQ o->h2.get? a=uQ o)->φ h2
def SE(H:Hp)(h:Heap):Prop:=∀a o,H a=uQ o->JC P w H h a o
end
section
variable{P:x0}{w:xC}{H H':Hp}{h h':Heap}{a:xz}{o:HO}
theorem JC.lt(x:JC P w H h a o):a<h.objs.size:=by
 cases o with
 |lst xs=>obtain⟨_,_,_,_,e⟩:=x;exact zx e
 |tup xs=>obtain⟨_,_,_,p⟩:=x;exact p.lt
 |set S n=>obtain⟨o,_,_,_,e,_⟩:=x;exact zx e
 |ins C dx fs=>obtain⟨_,_,_,e,_⟩:=x;exact zx e
 |own y=>obtain⟨_,e⟩:=x;exact zx e
 |xd fs=>obtain⟨_,⟨_,_,_,e,_⟩,_⟩:=x;exact zx e
 |KY lo hi=>obtain⟨_,_,_,e⟩:=x;exact zx e
 |WB ob u=>obtain⟨e,_⟩:=x;exact zx e
 |SM ps|met f y=>exact zx (x)
 |ext φ=>obtain⟨_,⟨_,e⟩,_⟩:=x;exact zx e
 |_=>obtain⟨_,_,_,_,o,_,_,e,_⟩:=x;exact zx e
theorem Paired.VU{i d:Type}{F G:i->d->Prop}:∀{l₁:List i}{l₂:List d},Paired F l₁ l₂->(∀a b,F a b->G a b)->Paired G l₁ l₂
 |_,_,.nil,_=>.nil
 |_,_,.cons r t,f=>.cons (f _ _ r) (Paired.VU t f)
theorem JC.NF(x:JC P w H h a o)(k:∀b u,(b=a\/H b=uQ (.own a))->h.get? b=uQ u->h'.get? b=uQ u)
  (ho:∀b,H b=uQ (.own a)->H' b=uQ (.own a)) (ht:∀b xs,H b=uQ (.tup xs)->H' b=uQ (.tup xs)):JC P w H' h' a o:=by
 induction o with
 |lst xs=>obtain⟨z,LA,n,r,e⟩:=x;exact⟨z,LA,n,r,k _ _ (.inl rfl) e⟩
 |tup xs=>obtain⟨z,LA,r,ob,e,c⟩:=x;exact⟨z,LA,r,ob,k _ _ (.inl rfl) e,c⟩
 |dK LD=>obtain⟨z,y,vs,r,ob,es,ep,e,c⟩:=x;exact⟨z,y,vs,r,ob,es,ep,k _ _ (.inl rfl) e,c⟩
 |dT LD=>
  obtain⟨z,y,xs,r,ob,es,ep,e,c⟩:=x;exact⟨z,y,xs,Paired.VU r λp q z=>⟨z.1,ht _ _ z.2.1,z.2.2⟩,ob,es,ep,k _ _ (.inl rfl) e,c⟩
 |set S n=>obtain⟨ob,es,ep,t,e,c⟩:=x;exact⟨ob,es,ep,t,k _ _ (.inl rfl) e,c⟩
 |ins C dx fs=>
  obtain⟨d,z,ne,e,mA,⟨od,es,ep,e2,c⟩,r⟩:=x;exact⟨ho _ d,z,ne,k _ _ (.inl rfl) e,mA,⟨od,es,ep,k _ _ (.inr d) e2,c⟩,r⟩
 |own y=>obtain⟨ob,e⟩:=x;exact⟨ob,k _ _ (.inl rfl) e⟩
 |xd fs=>obtain⟨mA,⟨od,es,ep,e,c⟩,r⟩:=x;exact⟨mA,⟨od,es,ep,k _ _ (.inl rfl) e,c⟩,r⟩
 |KY lo hi=>obtain⟨t,u,v,e⟩:=x;exact⟨t,u,v,k _ _ (.inl rfl) e⟩
 |WB ob u ih=>obtain⟨e,q⟩:=x;exact⟨k _ _ (.inl rfl) e,ih q⟩
 |SM ps|met f y=>
  have e:=x;exact k a _ (.inl rfl) e
 |ext φ=>obtain⟨p,⟨o,e⟩,st⟩:=x;exact⟨st _ _ p λo q=>k _ _ (.inl rfl) q,⟨o,k _ _ (.inl rfl) e⟩,st⟩
def SE.lt(x:SE P w H h)(e:H a=uQ o):a<h.objs.size:=(x a o e).lt
theorem SE.fresh(x:SE P w H h)(e:h.objs.size<=a):H a=uZ:=by
 cases q:H a with
 |none=>rfl
 |some u=>exact absurd (zK (x.lt q) e) (zH _)
def SE.kept(x:SE P w H h)(k:∀b u,h.get? b=uQ u->h'.get? b=uQ u):SE P w H h':=λa o e=>
 (x a o e).NF (λb u _ q=>k b u q) (λ_ q=>q) λ_ _ q=>q
def SE.laid(x:SE P w H h)(k:∀b u,h.get? b=uQ u->h'.get? b=uQ u)(hp:h.objs.size<=a)(new:JC P w (upd H a o) h' a o):SE P w (upd H a o) h':=λb u e=>by
 have d:=x.fresh hp;by_cases i:b=a
 .subst i;rw[Hw]at e;cases e;exact new
 rw[Aw i]at e;exact(x b u e).NF (λc v _ q=>k c v q) (λc q=>by rw[Aw (Hb q d)];exact q) λc j q=>by rw[Aw (Hb q d)];exact q
end
def Rd(H:Hp)(a:xz)(u:HO):Prop:=H a=uQ u\/∃o,H a=uQ (.WB o u)
def Rd.ok(r:Rd H a u)(x:SE P w H h):JC P w H h a u:=by
 rcases r with r|⟨o,r⟩
 .exact x a u r
 obtain⟨_,q⟩:=x a _ r;exact q
def LY:Option HO->Prop
 |some (.lst _)=>True
 |some (.dK _)=>True
 |some (.dT _)=>True
 |some (.set _ _)=>True
 |some (.ins _ _ _)=>True
 |some (.ext _)=>True
 |_=>False
section
variable{P:x0}{w:xC}{H:Hp}{h h':Heap}{x e:xz}{o':HO}
def SE.write(ok:SE P w H h)(n:LY (H x))(M:e=x\/H e=uQ (.own x))(k:∀b u,b≠e->h.get? b=uQ u->h'.get? b=uQ u)(J:∃u,h'.get? e=uQ u)
  (new:JC P w (upd H x o') h' x o'):SE P w (upd H x o') h':=λb u q=>by
 have i:∀c y,H c=uQ (.own y)->c≠x:=λc y r z=>by subst z;rw[r]at n;exact n
 have j:∀c B,H c=uQ (.tup B)->c≠x:=λc B r z=>by subst z;rw[r]at n;exact n
 by_cases F:b=x
 .subst F;rw[Hw]at q;cases q;exact new
 rw[Aw F]at q;by_cases d:b=e
 .have L:H b=uQ (.own x):=by
   rcases M with z|z
   .exact absurd (d.trans z) F
   rw[d];exact z
  rw[q]at L;cases L;obtain⟨v,N⟩:=J;exact⟨v,d▸N⟩
 .refine(ok b u q).NF (λc v I r=>k c v ?_ r) (λc r=>by rw[Aw (i c b r)];exact r) λc B r=>by rw[Aw (j c B r)];exact r
  rcases I with rfl|I
  .exact d
  .rintro rfl;rcases M with z|z
   .exact i c b I z
   rw[I]at z;cases z;exact F rfl
end
structure Un (fs ex:List xz) (H H':Hp) (h h':Heap):Prop where
 keep:∀b o,h.get? b=uQ o->H b=uZ->b∉fs->b∉ex->h'.get? b=uQ o
 slot:∀b o,h.get? b=uQ o->H b=uZ->b∈fs->b∉ex->∃sl,h'.get? b=uQ {o with slots:=sl}
 free:∀b o,h.get? b=uQ o->H b=uZ->b∉ex->H' b=uZ
 there:∀b o,h.get? b=uQ o->b∉ex->∃o',h'.get? b=uQ o'
 ZE:∀b xs,H b=uQ (.tup xs)->H' b=uQ (.tup xs)
 UE:∀b o u,H b=uQ (.WB o u)->H' b=uQ (.WB o u)
 IF:∀b ps,H b=uQ (.SM ps)->∃more,H' b=uQ (.SM (ps++more))
section
variable{fs fs' ex ex':List xz}{H H1 H2:Hp}{h h1 h2 h':Heap}{a x e:xz}{o:HO}
def Un.any(u:Un fs ex H H1 h h1)(q:h.get? b=uQ ob)(n:H b=uZ)(i:b∉ex):∃y,h1.get? b=uQ {ob with slots:=y}:=by
 by_cases j:b∈fs
 .exact u.slot b ob q n j i
 exact⟨ob.slots,u.keep b ob q n j i⟩
def Un.kept(k:∀b u,h.get? b=uQ u->h'.get? b=uQ u):Un fs ex H H h h':=
 ⟨λb d q _ _ _=>k b d q,λb d q _ _ _=>⟨d.slots,k b d q⟩,λ_ _ _ n _=>n,λb d q _=>⟨d,k b d q⟩,λ_ _ q=>q,λ_ _ _ q=>q,λ_ i q=>⟨#[],by rw[q];simp⟩⟩
def Un.refl:Un fs ex H H h h:=Un.kept λ_ _ q=>q
def Un.laid(k:∀b u,h.get? b=uQ u->h'.get? b=uQ u)(hp:h.objs.size<=a)(d:H a=uZ):Un fs ex H (upd H a o) h h' where
 keep:=λb u q _ _ _=>k b u q
 slot:=λb u q _ _ _=>⟨u.slots,k b u q⟩
 free:=λb u q n _=>by rw[Aw (zP (zK (zx q) hp))];exact n
 there:=λb u q _=>⟨u,k b u q⟩
 ZE:=λb i q=>by rw[Aw (Hb q d)];exact q
 UE:=λb u i q=>by rw[Aw (Hb q d)];exact q
 IF:=λb j q=>⟨#[],by rw[Aw (Hb q d),q];simp⟩
def Un.write(i:LY (H x))(J:e=x\/H e=uQ (.own x))(k:∀b u,b≠e->h.get? b=uQ u->h'.get? b=uQ u)(y:∃u,h'.get? e=uQ u):Un fs ex H (upd H x o) h h':=by
 have B:∀b,H b=uZ->b≠x:=λb n z=>by subst z;rw[n]at i;exact i
 have F:∀b,H b=uZ->b≠e:=λb n z=>by
  subst z;rcases J with r|r
  .exact B b n r
  rw[n]at r;cases r
 have j:∀b u,H b=uQ u->¬LY (uQ u)->b≠x:=λb u q nm z=>by subst z;rw[q]at i;exact nm i
 refine⟨λb u q n _ _=>k b u (F b n) q,λb u q n _ _=>⟨u.slots,k b u (F b n) q⟩,λb u q n _=>by rw[Aw (B b n)];exact n,λb u q _=>?_,
  λb I q=>by rw[Aw (j b _ q λz=>z)];exact q,λb u I q=>by rw[Aw (j b _ q λz=>z)];exact q,λb L q=>⟨#[],by rw[Aw (j b _ q λz=>z),q];simp⟩⟩
 by_cases d:b=e
 .subst d;exact y
 exact⟨u,k b u d q⟩
end
noncomputable def QZ(h:Heap)(H:Hp):List xz:=(zE h.objs.size).filter λa=>(H a).isSome
def Lk(h:Heap)(H:Hp):Heap:=qg h (QZ h H)
def mD(h:Heap)(H:Hp):(Lk h H).objs.size=h.objs.size:=PySem.W.hideAll_size _ _
def mE(e:h.get? b=uQ o)(n:H b=uZ):(Lk h H).get? b=uQ o:=
 ja _ e λd=>by have q:=(jN.mp d).2;rw[n]at q;simp at q
theorem mF(e:(Lk h H).get? b=uQ o):h.get? b=uQ o/\H b=uZ:=by
 have d:=jb (QZ h H) e;refine⟨d,?_⟩;cases q:H b with
 |none=>rfl
 |some x=>
  have z:(Lk h H).get? b=uZ:=xf (QZ h H) (jN.mpr ⟨qT.mpr (zx d),by simp[q]⟩);rw[z]at e;cases e
noncomputable def mG(g h:Heap)(L:xz):List (xz×Obj):=(zE h.objs.size).filterMap λa=>if a=L\/(g.get? a).isSome=uJ then uZ else(h.get? a).map λo=>(a,o)
def rest(g h:Heap)(L d:xz):List (xz×Obj):=(mG g h L).filter λp=>decide (p.1≠d)
structure Mod (K:za) (mg:Str->Option xB) (base:Heap):Prop where
 IU:K.In base
 glob:base.Ns xT mg
 blt:∃mb,base.Ns builtinsNs mb/\∀x:Str,x≠"__name__"->mb x=xL x
 nolimit:base.NoLimit
structure Cx where
 prog:x0
 w:xC
 K:za
 mg:Str->Option xB
 base:Heap
 A:xj
 N:List Str
 s₀:x9
 H₀:Hp
 env:Env
 outer:List Env
 stack:List Env
 ex:List xz
 fn:Str->Bool
 calm:Bool
 pn:List (xz×Obj)
 xe:xB->x9->Prop
noncomputable def YC(l:List Env):List xz:=l.filterMap (·.frame)
noncomputable abbrev Cx.fs(X:Cx):List xz:=YC X.outer
def ZO(sc:x2)(x:Str):Prop:=sc.names.lookup x=uQ .local\/sc.names.lookup x=uQ .cell\/sc.names.lookup x=uQ .free
def Loc(sc:x2)(x:Str):Prop:=sc.names.lookup x=uQ .local\/sc.names.lookup x=uQ .cell
def Look(env:Env)(h:Heap)(m:Str->Option xB)(x:Str)(u:xB):Prop:=
 (env.kindOf x=uQ .local/\m x=uQ u)\/((env.kindOf x=uQ .cell\/env.kindOf x=uQ .free)/\∃c,env.cells.lookup x=uQ c/\h.IsCell c (uQ u))
structure Cx.Ok (X:Cx):Prop where
 mod:Mod X.K X.mg X.base
 kind:X.env.scope.kind=.function
 glob:X.env.globals=xT
 blt:X.env.builtins=builtinsNs
 above:X.s₀.heap.objs.size<=X.env.locals
 inj:∀x y c,X.env.cells.lookup x=uQ c->X.env.cells.lookup y=uQ c->x=y
 has:∀x,(X.env.kindOf x=uQ .cell\/X.env.kindOf x=uQ .free)->∃c,X.env.cells.lookup x=uQ c
 OQ:∀x c,X.fn x=uJ->X.env.cells.lookup x=uQ c->X.s₀.heap.objs.size<=c
 hd:X.calm=uJ->X.A.handled=uZ
 frames:X.A.frames=uQ X.stack
 QR:X.stack=X.outer\/(X.stack=X.env::X.outer/\X.env.frame=uQ X.env.locals)
 WU:∀b∈X.ex,b≠X.env.locals/\∀x c,X.env.cells.lookup x=uQ c->c≠b
 bs:∀b o,X.base.get? b=uQ o->X.s₀.heap.get? b=uQ o/\X.H₀ b=uZ
 TM:X.base.objs.size<=X.s₀.heap.objs.size
 JI:∀b o,X.base.get? b=uQ o->b∉X.ex
 MH:∀b∈X.ex,b∉X.fs
 VE:X.s₀.heap.FunFrames X.base X.outer
 NO:∀b∈X.fs,X.H₀ b=uZ
structure Inv (X:Cx) (vG:List (xz×Obj)) (σ:List (Option V)) (H:Hp) (s:x9):Prop where
 ok:X.Ok
 os:s.os=X.s₀.os
 bare:AllBare s.gens
 base:Un X.fs X.ex X.H₀ H X.s₀.heap s.heap
 loc:∃m,s.heap.Ns X.env.locals m/\∀(i:Nat)(x:Str)(v:V),X.N[i]?=uQ x->σ[i]?=uQ (uQ v)->ZO X.env.scope x->∃u,RelV v u/\Look X.env s.heap m x u
 cell:∀x c,X.env.cells.lookup x=uQ c->∃v,s.heap.IsCell c v
 free:H X.env.locals=uZ
 Fq:∀x c,X.env.cells.lookup x=uQ c->H c=uZ
 pin:∀p∈X.pn++vG,s.heap.get? p.1=uQ p.2/\H p.1=uZ/\p.1≠X.env.locals/\p.1∉X.fs/\∀v,p.2.data≠ .cell v
 SA:SE X.prog X.w H s.heap
 len:σ.length=X.N.length
section
variable{X:Cx}{vG:List (xz×Obj)}{σ:List (Option V)}{H H':Hp}{s:x9}{h':Heap}
def Cx.Ok.RZ(ok:X.Ok)(e:X.base.get? b=uQ o):b∉X.fs:=λd=>by have:=(ok.VE.mem d).1;rw[e]at this;cases this
def Inv.bs(I:Inv X vG σ H s):∀b o,X.base.get? b=uQ o->s.heap.get? b=uQ o/\H b=uZ:=λb o e=>
 ⟨I.base.keep b o (I.ok.bs b o e).1 (I.ok.bs b o e).2 (I.ok.RZ e) (I.ok.JI b o e),I.base.free b o (I.ok.bs b o e).1 (I.ok.bs b o e).2 (I.ok.JI b o e)⟩
def Inv.bk(I:Inv X vG σ H s):∀b o,X.base.get? b=uQ o->s.heap.get? b=uQ o:=λb o e=>(I.bs b o e).1
def Inv.mod(I:Inv X vG σ H s):Mod X.K X.mg X.base:=I.ok.mod
def Inv.RE(I:Inv X vG σ H s):X.K.In s.heap:=I.ok.mod.IU.keeps I.bk
def Inv.lt(I:Inv X vG σ H s):X.env.locals<s.heap.objs.size:=let⟨_,d,_⟩:=I.loc;d.lt
def Inv.sz(I:Inv X vG σ H s):X.s₀.heap.objs.size<=s.heap.objs.size:=zy I.ok.above (qE I.lt)
def Inv.HP(I:Inv X vG σ H s){a:xz}(h:s.heap.objs.size<=a):a∉X.fs:=λd=>by obtain⟨_,o,i,_⟩:=I.ok.VE.mem d;exact absurd (zK (zx i) (zy I.sz h)) (zH _)
def Inv.IP(I:Inv X vG σ H s):∀x c,X.env.cells.lookup x=uQ c->c≠X.env.locals:=λx c e z=>by obtain⟨v,o,n,j⟩:=I.cell x c e;obtain⟨m,⟨y,q,B,i,d,_⟩,_⟩:=I.loc;rw[z,i]at n;cases n;rw[d]at j;cases j
def Inv.VE(I:Inv X vG σ H s):s.heap.FunFrames X.base X.outer:=by
 have all:∀(l:List Env),(∀b∈YC l,b∈X.fs)->X.s₀.heap.FunFrames X.base l->s.heap.FunFrames X.base l:=by
  intro l
  induction l with
  |nil=>intro _ _;trivial
  |cons N r M=>
   intro n F;obtain⟨hk,⟨L,o,i,y,J,B⟩,q⟩:=F;have d:=n L (by unfold YC;rw[qx,i];exact z8);obtain⟨O,e⟩:=I.base.slot L o J (I.ok.NO L d) d λz=>I.ok.MH L z d
   exact⟨hk,⟨L,_,i,y,e,B⟩,M (λb j=>n b (by unfold YC;rw[qx,i];exact zQ _ j)) q⟩
 exact all X.outer (λ_ j=>j) I.ok.VE
def Inv.stack(I:Inv X vG σ H s):s.heap.FunFrames X.base X.stack:=by
 rcases I.ok.QR with e|⟨e,i⟩
 .rw[e];exact I.VE
 .rw[e];obtain⟨m,d,_⟩:=I.loc;exact .cons (by rw[I.ok.kind];decide) i d (xK (zy I.ok.TM I.ok.above)) I.VE
def Inv.Qm(I:Inv X vG σ H s):∀b∈YC X.stack,b∈X.env.locals::X.fs:=λb d=>by
 rcases I.ok.QR with e|⟨e,i⟩
 .rw[e]at d;exact zQ _ d
 rw[e]at d;unfold YC at d;rw[qx,i]at d;exact d
def Inv.Ys(I:Inv X vG σ H s):∀b∈YC X.stack,H b=uZ:=λb d=>by
 rcases zZ.mp (I.Qm b d)with e|d
 .rw[e];exact I.free
 obtain⟨_,o,i,_⟩:=I.ok.VE.mem d;exact I.base.free b o i (I.ok.NO b d) λz=>I.ok.MH b z d
def Inv.step{g':Array GenState}{d':Drawn}{ch:List xz}(I:Inv X vG σ H s)
  (M:∀b∈ch,(b∈X.ex\/X.s₀.heap.objs.size<=b)/\b≠X.env.locals/\(∀x c,X.env.cells.lookup x=uQ c->c≠b)/\∀p∈X.pn++vG,p.1≠b)
  (F:∀b o,b≠X.env.locals->b∉X.fs->b∉ch->s.heap.get? b=uQ o->H b=uZ->h'.get? b=uQ o)
  (L:∀b o,b≠X.env.locals->b∈X.fs->b∉ch->s.heap.get? b=uQ o->H b=uZ->∃sl,h'.get? b=uQ {o with slots:=sl}) (free:∀b o,b∉ch->s.heap.get? b=uQ o->H b=uZ->H' b=uZ)
  (B:∀b o,b∉ch->s.heap.get? b=uQ o->∃o',h'.get? b=uQ o')
  (Y:∀b xs,H b=uQ (.tup xs)->H' b=uQ (.tup xs)) (U:∀b o u,H b=uQ (.WB o u)->H' b=uQ (.WB o u)) (W:∀b ps,H b=uQ (.SM ps)->∃more,H' b=uQ (.SM (ps++more)))
  (ns:∀m,s.heap.Ns X.env.locals m->h'.Ns X.env.locals m) (SA:SE X.prog X.w H' h') (hg:AllBare g'):
  Inv X vG σ H' {s with heap:=h',gens:=g',drawn:=d',toks:=t'}:=by
 have F':∀b o,X.s₀.heap.get? b=uQ o->b≠X.env.locals:=λb o e=>zP (zK (zx e) I.ok.above)
 have O:∀b o,X.s₀.heap.get? b=uQ o->b∉X.ex->b∉ch:=λb o e y Z=>by
  rcases(M b Z).1 with z|z
  .exact y z
  exact absurd (zK (zx e) z) (zH _)
 have J:∀x c,X.env.cells.lookup x=uQ c->∀v,s.heap.IsCell c v->h'.IsCell c v:=λx c e v ⟨o,ho,hd⟩=>by
  have N:c∉ch:=λz=>(M c z).2.2.1 x c e rfl
  by_cases hc:c∈X.fs
  .obtain⟨sl,q⟩:=L c o (I.IP x c e) hc N ho (I.Fq x c e);exact⟨_,q,hd⟩
  exact⟨o,F c o (I.IP x c e) hc N ho (I.Fq x c e),hd⟩
 refine⟨I.ok,I.os,hg,⟨λb o e n Z y=>(F b o (F' b o e) Z (O b o e y) (I.base.keep b o e n Z y) (I.base.free b o e n y)),λb o e n Z y=>?_,λb o e n y=>?_,λb o e y=>?_,λb xs e=>Y b xs (I.base.ZE b xs e),λb o xs e=>U b o xs (I.base.UE b o xs e),λb ps e=>?_⟩,?_,λx c e=>?_,?_,λx c e=>?_,λp hp=>?_,SA,I.len⟩
 .obtain⟨sl,S⟩:=I.base.slot b o e n Z y;obtain⟨J',e2⟩:=L b _ (F' b o e) Z (O b o e y) S (I.base.free b o e n y);exact⟨J',e2⟩
 .obtain⟨o',S⟩:=I.base.there b o e y;exact free b o' (O b o e y) S (I.base.free b o e n y)
 .obtain⟨o',S⟩:=I.base.there b o e y;exact B b o' (O b o e y) S
 .obtain⟨m1,S⟩:=I.base.IF b ps e;obtain⟨m2,e2⟩:=W b _ S;exact⟨m1++m2,by rw[e2,uu3]⟩
 .obtain⟨m,hn,hl⟩:=I.loc;refine⟨m,ns m hn,λi x v S e2 e3=>?_⟩;obtain⟨u,r,l⟩:=hl i x v S e2 e3;refine⟨u,r,?_⟩;rcases l with l|⟨k,c,e,z⟩
  .exact .inl l
  exact .inr ⟨k,c,e,J x c e _ z⟩
 .obtain⟨v,z⟩:=I.cell x c e;exact⟨v,J x c e v z⟩
 .obtain⟨m,⟨o,_,_,ho,_⟩,_⟩:=I.loc;exact free _ o (λz=>(M _ z).2.1 rfl) ho I.free
 .obtain⟨v,o,ho,hd⟩:=I.cell x c e;exact free c o (λz=>(M c z).2.2.1 x c e rfl) ho (I.Fq x c e)
 obtain⟨e,n,ne,nf,d⟩:=I.pin p hp;have N:p.1∉ch:=λz=>(M p.1 z).2.2.2 p hp rfl
 exact⟨F p.1 p.2 ne nf N e n,free p.1 p.2 N e n,ne,nf,d⟩
def Inv.un(I:Inv X vG σ H s)(u:Un X.fs [] H H' s.heap h')(SA:SE X.prog X.w H' h'):Inv X vG σ H' {s with heap:=h',toks:=t'}:=by
 obtain⟨m,⟨o,M,U,B,r⟩,_⟩:=id I.loc;obtain⟨N,F⟩:=u.any B I.free (by simp);exact I.step (ch:=[]) (nofun) (λb o _ y _ e n=>u.keep b o e n y (by simp)) (λb o _ y _ e n=>u.slot b o e n y (by simp)) (λb o _ e n=>u.free b o e n (by simp)) (λb o _ e=>u.there b o e (by simp)) u.ZE u.UE u.IF (λO J=>by obtain⟨S,q,j,d,L⟩:=J;rw[B]at d;cases d;exact⟨_,q,j,F,L⟩) SA I.bare
def Inv.call{g':Array GenState}{d':Drawn}{ch:List xz}(I:Inv X vG σ H s)(u:Un (YC X.stack) ch H H' s.heap h')(SA:SE X.prog X.w H' h')(U:AllBare g')
  (j:∀b∈ch,(b∈X.ex\/X.s₀.heap.objs.size<=b)/\b≠X.env.locals/\(∀x c,X.env.cells.lookup x=uQ c->c≠b)/\∀p∈X.pn++vG,p.1≠b):
  Inv X vG σ H' {s with heap:=h',gens:=g',drawn:=d',toks:=t'}:=by
 obtain⟨m,⟨o,Y,ep,L,r⟩,_⟩:=id I.loc;obtain⟨Z,y⟩:=u.any L I.free λz=>(j _ z).2.1 rfl
 exact I.step j (λb o y S i e n=>u.keep b o e n (λz=>(zZ.mp (I.Qm b z)).elim y S) i) (λb o _ _ i e n=>u.any e n i) (λb o i e n=>u.free b o e n i) (λb o i e=>u.there b o e i) u.ZE u.UE u.IF (λm' W=>by obtain⟨o',F,B,q,O⟩:=W;rw[L]at q;cases q;exact⟨_,F,B,y,O⟩) SA U
def Inv.turned{it:xz}(I:Inv X vG σ H s)(k:∀b o,b≠it->s.heap.get? b=uQ o->h'.get? b=uQ o)(N:H it=uZ)(y:it≠X.env.locals)
  (F:it∈X.ex\/X.s₀.heap.objs.size<=it) (W:∀x c,X.env.cells.lookup x=uQ c->c≠it) (M:∀p∈X.pn++vG,p.1≠it):Inv X vG σ H {s with heap:=h',toks:=t'}:=by
 have j:∀b u,H b=uQ u->b≠it:=λb u e z=>by rw[z,N]at e;cases e
 refine I.step (ch:=[it]) (λb O=>?_) (λb o _ _ i e _=>k b o (λz=>i (by simp[z])) e) (λb o _ _ i e _=>⟨o.slots,k b o (λz=>i (by simp[z])) e⟩) (λ_ _ _ _ n=>n)
  (λb o i e=>⟨o,k b o (λz=>i (by simp[z])) e⟩) (λ_ _ e=>e) (λ_ _ _ e=>e) (λb Y e=>⟨#[],by rw[e];simp⟩) (λm J=>?_) (λb u e=>?_) I.bare
 .have e:b=it:=by simpa using O
  subst e;exact⟨F,y,W,M⟩
 .obtain⟨o,L,U,S,r⟩:=J;exact⟨o,L,U,k _ o (Ne.symm y) S,r⟩
 refine(I.SA b u e).NF (λc v i q=>k c v ?_ q) (λ_ q=>q) λ_ _ q=>q
 rcases i with z|z
 .rw[z];exact j b u e
 exact j c _ z
def Inv.tok(I:Inv X vG σ H s)(t:Nat):Inv X vG σ H {s with toks:=t}:=I.un Un.refl I.SA
def Inv.kept(I:Inv X vG σ H s)(k:∀b u,s.heap.get? b=uQ u->h'.get? b=uQ u):Inv X vG σ H {s with heap:=h',toks:=t'}:=I.un (Un.kept k) (I.SA.kept k)
def Inv.laid{a:xz}{o:HO}(I:Inv X vG σ H s)(k:∀b u,s.heap.get? b=uQ u->h'.get? b=uQ u)(hp:s.heap.objs.size<=a)(new:JC X.prog X.w (upd H a o) h' a o):
  Inv X vG σ (upd H a o) {s with heap:=h',toks:=t'}:=I.un (Un.laid k hp (I.SA.fresh hp)) (I.SA.laid k hp new)
def Inv.write(I:Inv X vG σ H s)(j:LY (H x))(n:e=x\/H e=uQ (.own x))(k:∀b u,b≠e->s.heap.get? b=uQ u->h'.get? b=uQ u)(i:∃u,h'.get? e=uQ u)
  (new:JC X.prog X.w (upd H x o) h' x o):Inv X vG σ (upd H x o) {s with heap:=h',toks:=t'}:=I.un (Un.write j n k i) (I.SA.write j n k i new)
def Inv.Gp(I:Inv X vG σ H s)(h:∀p∈pins',s.heap.get? p.1=uQ p.2/\H p.1=uZ/\p.1≠X.env.locals/\p.1∉X.fs/\∀v,p.2.data≠ .cell v):Inv X pins' σ H s:=
 ⟨I.ok,I.os,I.bare,I.base,I.loc,I.cell,I.free,I.Fq,λp hp=>(zG.mp hp).elim (λz=>I.pin p (qB _ z)) (h p),I.SA,I.len⟩
def aQ{N:List Str}(n:N.Nodup){i j:Nat}{x:Str}(a:N[i]?=uQ x)(b:N[j]?=uQ x):i=j:=by obtain⟨y,d⟩:=zv.mp a;obtain⟨z,q⟩:=zv.mp b;exact(List.getElem_inj n).mp (d.trans q.symm)
def aR{M:Model}{A:xj}{E:xB->x9->Prop}{i:Nat}{x:Str}{v:V}{u:xB}{Q:Unit->x9->Prop}(I:Inv X vG σ H s)(hN:X.N.Nodup)(hi:X.N[i]?=uQ x)(O:Loc X.env.scope x)(r:RelV v u)
  (h:∀s',Inv X vG (σ.set i (uQ v)) H s'->(∃a,jv a s.heap s'.heap/\(a=X.env.locals\/X.env.cells.lookup x=uQ a))->Q () s') (hf:X.fn x=uJ\/X.env.scope.names.lookup x=uQ .local:=by rfl'):vW M A (storeName X.env x u) Q E s:=by
 obtain⟨m,hn,hl⟩:=id I.loc;have SZ:(X.env.scope.kind == .class||(X.env.scope.kind == .module&&X.env.locals != X.env.globals))=uX:=by rw[I.ok.kind];rfl
 have W:i<σ.length:=by rw[I.len];exact(zv.mp hi).1
 have IP:=I.IP;have J:∀{a:xz}{h':Heap},(∃o,s.heap.get? a=uQ o/\H a=uZ)->jv a s.heap h'->SE X.prog X.w H h':=λ{a h'}ha B b ob e=>by
  obtain⟨_,_,S⟩:=ha;refine(I.SA b ob e).NF (λc w' L q=>(B.2 c ?_).trans q) (λ_ q=>q) λ_ _ q=>q
  rintro rfl;rcases L with rfl|L
  .rw[S]at e;cases e
  rw[S]at L;cases L
 rcases O with hk|hk
 .refine wpAny_storeName_local hk hn (λh' hn' B=>?_) SZ;obtain⟨oL,_,_,hoL,_⟩:=id hn;refine h _ ⟨I.ok,I.os,I.bare,⟨λb o e n Y O=>?_,λb o e n Y O=>?_,I.base.free,λb o e O=>?_,I.base.ZE,I.base.UE,I.base.IF⟩,⟨_,hn',λj y v' F U e3=>?_⟩,λy c e=>?_,I.free,I.Fq,λp hp=>?_,J ⟨oL,hoL,I.free⟩ B,by simpa using I.len⟩ ⟨_,B,.inl rfl⟩
  .exact(B.2 b (zP (zK (zx e) I.ok.above))).trans (I.base.keep b o e n Y O)
  .obtain⟨sl,F⟩:=I.base.slot b o e n Y O;exact⟨sl,(B.2 b (zP (zK (zx e) I.ok.above))).trans F⟩
  .obtain⟨o',F⟩:=I.base.there b o e O;exact⟨o',(B.2 b (zP (zK (zx e) I.ok.above))).trans F⟩
  .by_cases hj:j=i
   .subst hj;rw[hi]at F;cases F;rw[qU W]at U;cases U;exact⟨u,r,.inl ⟨hk,by simp⟩⟩
   rw[qy (Ne.symm hj)]at U;obtain⟨u',r',q⟩:=hl j y v' F U e3;refine⟨u',r',?_⟩;rcases q with⟨k,e⟩|⟨k,c,e,z⟩
   .refine .inl ⟨k,?_⟩;have:y≠x:=λe=>hj (aQ hN F (e▸hi))
    simp[this,e]
   exact .inr ⟨k,c,e,z.sameBut B (IP y c e)⟩
  .obtain⟨w',z⟩:=I.cell y c e;exact⟨w',z.sameBut B (IP y c e)⟩
  obtain⟨e,n,ne,nf,d⟩:=I.pin p hp;exact⟨(B.2 p.1 ne).trans e,n,ne,nf,d⟩
 have Z:X.fn x=uJ:=by
  rcases hf with z|z
  .exact z
  rw[z]at hk;cases hk
 obtain⟨c,L⟩:=I.ok.has x (.inl hk);obtain⟨w',z⟩:=I.cell x c L;refine wpAny_storeName_cell I.ok.kind hk L z (λh' K' B=>?_);obtain⟨oc,M',TZ⟩:=id z;refine h {s with heap:=h'} ⟨I.ok,I.os,I.bare,⟨λb o e n Y O=>?_,λb o e n Y O=>?_,I.base.free,λb o e O=>?_,I.base.ZE,I.base.UE,I.base.IF⟩,⟨m,hn.sameBut B (Ne.symm (IP x c L)),λj y v' F U e3=>?_⟩,λy c' e=>?_,I.free,I.Fq,λp hp=>?_,J ⟨oc,M',I.Fq x c L⟩ B,by simpa using I.len⟩ ⟨c,B,.inr L⟩
 .exact(B.2 b (zP (zK (zx e) (I.ok.OQ x c Z L)))).trans (I.base.keep b o e n Y O)
 .obtain⟨sl,F⟩:=I.base.slot b o e n Y O;exact⟨sl,(B.2 b (zP (zK (zx e) (I.ok.OQ x c Z L)))).trans F⟩
 .obtain⟨o',F⟩:=I.base.there b o e O;exact⟨o',(B.2 b (zP (zK (zx e) (I.ok.OQ x c Z L)))).trans F⟩
 .by_cases hj:j=i
  .subst hj;rw[hi]at F;cases F;rw[qU W]at U;cases U;exact⟨u,r,.inr ⟨.inl hk,c,L,K'⟩⟩
  .rw[qy (Ne.symm hj)]at U;obtain⟨u',r',q⟩:=hl j y v' F U e3;refine⟨u',r',?_⟩;rcases q with q|⟨k,c',e,z'⟩
   .exact .inl q
   .refine .inr ⟨k,c',e,z'.sameBut B ?_⟩;rintro rfl;exact hj (aQ hN F (I.ok.inj _ _ _ e L▸hi))
 .by_cases XU:c'=c
  .subst XU;exact⟨_,K'⟩
  .obtain⟨w2,z2⟩:=I.cell y c' e;exact⟨w2,z2.sameBut B XU⟩
 .obtain⟨e,n,ne,nf,d⟩:=I.pin p hp;refine⟨(B.2 p.1 ?_).trans e,n,ne,nf,d⟩;intro q;rw[q,M']at e;exact d w' (by rw[<-(xv e)];exact TZ)
def aS(I:Inv X vG σ H s)(j:X.N.Nodup)(hi:X.N[i]?=uQ x)(d:Loc X.env.scope x)(r:RelV v u)
  (h:∀s',Inv X vG (σ.set i (uQ v)) H s'->Q () s') (n:X.fn x=uJ\/X.env.scope.names.lookup x=uQ .local:=by rfl'):vW M A (storeName X.env x u) Q E s:=
 aR I j hi d r (λs' q _=>h s' q) n
def Inv.JK(I:Inv X vG σ H s)(ho:s'.os=s.os)(u:Un (YC X.stack) ch H H' s.heap s'.heap)(SA:SE X.prog X.w H' s'.heap)(i:AllBare s'.gens)
  (d:∀b∈ch,(b∈X.ex\/X.s₀.heap.objs.size<=b)/\b≠X.env.locals/\(∀x c,X.env.cells.lookup x=uQ c->c≠b)/\∀p∈X.pn++vG,p.1≠b):Inv X vG σ H' s':=by
 obtain⟨z,y,j,n,q⟩:=s';have e:=ho;subst e;exact I.call u SA i d
end
noncomputable abbrev XK:=xB->Option xz->Hp->Prop
noncomputable abbrev St:=List (Option V)
noncomputable abbrev VK:=V->Hp->Prop
noncomputable abbrev TE:=St->Hp->VK->Prop
noncomputable abbrev TT:=St->Hp->(Bool->Hp->Prop)->Prop
noncomputable abbrev TA:=St->Hp->(List V->Hp->Prop)->Prop
structure Ends where
 nx:St->Hp->Prop
 rt:VK
 bk:St->Hp->Prop:=λ_ _=>False
 ct:St->Hp->Prop:=λ_ _=>False
noncomputable abbrev TS:=Ends->St->Hp->Prop
inductive EP (X:Cx) (vG:List (xz×Obj)) (σ:St) (Q:VK) (u:xB) (s':x9):Prop|mk (v:V) (H':Hp) (I:Inv X vG σ H' s') (r:RelV v u) (q:Q v H'):EP X vG σ Q u s'
inductive TP (X:Cx) (vG:List (xz×Obj)) (σ:St) (Q:Bool->Hp->Prop) (b:Bool) (s':x9):Prop|mk (H':Hp) (I:Inv X vG σ H' s') (q:Q b H'):TP X vG σ Q b s'
inductive AP (X:Cx) (vG:List (xz×Obj)) (σ:St) (Q:List V->Hp->Prop) (us:List xB) (s':x9):Prop|mk (vs:List V) (H':Hp) (I:Inv X vG σ H' s') (r:Vals vs us) (q:Q vs H'):AP X vG σ Q us s' inductive NP (X:Cx) (vG:List (xz×Obj)) (Q:St->Hp->Prop) (s':x9):Prop|mk (σ':St) (H':Hp) (I:Inv X vG σ' H' s') (q:Q σ' H'):NP X vG Q s' inductive RP (X:Cx) (vG:List (xz×Obj)) (Q:VK) (u:xB) (s':x9):Prop|mk (v:V) (σ':St) (H':Hp) (I:Inv X vG σ' H' s') (r:RelV v u) (q:Q v H'):RP X vG Q u s'
def SP(X:Cx)(vG:List (xz×Obj))(D:Ends)(f:Flow)(s':x9):Prop:=
 match f with
 |.next=>NP X vG D.nx s'
 |.brk=>NP X vG D.bk s'
 |.cont=>NP X vG D.ct s'
 |.ret u=>RP X vG D.rt u s'
def PE(X:Cx)(e:xw)(t:TE):Prop:=
 ∀(vG:List (xz×Obj))(s:x9)(σ:St)(H:Hp)(Q:VK),Inv X vG σ H s->t σ H Q->vW (xU X.prog X.w) X.A (eval e X.env) (EP X vG σ Q) X.xe s
def PT(X:Cx)(e:xw)(t:TT):Prop:=
 ∀(vG:List (xz×Obj))(s:x9)(σ:St)(H:Hp)(Q:Bool->Hp->Prop),Inv X vG σ H s->t σ H Q->vW (xU X.prog X.w) X.A (isTrue e X.env (eval e X.env)) (TP X vG σ Q) X.xe s
def PW(X:Cx)(e:xw)(t:TT):Prop:=
 ∀(whole:Sem xB)(vG:List (xz×Obj))(s:x9)(σ:St)(H:Hp)(Q:Bool->Hp->Prop),Inv X vG σ H s->t σ H Q->vW (xU X.prog X.w) X.A (isTrue e X.env whole) (TP X vG σ Q) X.xe s
def PW.pt(h:PW X e t):PT X e t:=h _
def PA(X:Cx)(es:List xw)(t:TA):Prop:=
 ∀(pos:Pos)(vG:List (xz×Obj))(s:x9)(σ:St)(H:Hp)(Q:List V->Hp->Prop),Inv X vG σ H s->t σ H Q->vW (xU X.prog X.w) X.A (spliced (xF pos (vX es X.env))) (AP X vG σ Q) X.xe s
def PS(X:Cx)(st:xA)(t:TS):Prop:=
 ∀(vG:List (xz×Obj))(s:x9)(σ:St)(H:Hp)(D:Ends),Inv X vG σ H s->t D σ H->vW (xU X.prog X.w) X.A (exec st X.env) (SP X vG D) X.xe s
def KJ(X:Cx)(st:List xA)(t:TS):Prop:=
 ∀(vG:List (xz×Obj))(s:x9)(σ:St)(H:Hp)(D:Ends),Inv X vG σ H s->t D σ H->vW (xU X.prog X.w) X.A (execs st X.env) (SP X vG D) X.xe s
def ZA{i:Type}{t:Sem i}{Q d:i->x9->Prop}{M:Model}{A:xj}{E:xB->x9->Prop}(h:vW M A t Q E s)(j:∀a s,Q a s->d a s):vW M A t d E s:=vv h j λ_ _ x=>x
section
variable{X:Cx}
noncomputable def Ro(i:Nat):TE:=λσ H Q=>∃v,σ[i]?=uQ (uQ v)/\Q v H
noncomputable def tC(v:V):TE:=λ_ H Q=>Q v H
def Rv{i:Nat}{x:Str}{pos:Pos}(J:X.N[i]?=uQ x)(O:ZO X.env.scope x)(q:(x==("__debug__":Str))=uX:=by decide)(y:(x==("__classdict__":Str))=uX:=by decide):PE X (.Name x pos) (Ro i):=by
 intro n s M H Q I h;obtain⟨v,e,h⟩:=h;obtain⟨m,F,L⟩:=I.loc;obtain⟨u,r,l⟩:=L i x v J e O;have j:EP X n M Q u s:=⟨v,H,I,r,h⟩;rcases l with⟨hk,B⟩|⟨hk,c,z,d⟩
 .exact wpAny_Name (wpAny_loadName_local I.ok.kind hk F B j) q
 rcases hk with hk|hk
 .exact wpAny_Name (wpAny_loadName_cell I.ok.kind hk z d j) q
 exact wpAny_Name (wpAny_loadName_free I.ok.kind hk z d j y) q
def mH{i j pos}:PE X (.Constant (.int i) j pos) (tC (.int i)):=λ_ _ _ H _ I h=>wpAny_Constant_int ⟨.int i,H,I.tok _,⟨_,rfl⟩,h⟩
def mI{b j pos}:PE X (.Constant (.bool b) j pos) (tC (.bl b)):=λ_ _ _ H _ I h=>Constant_bool ⟨.bl b,H,I,rfl,h⟩
def mJ{j pos}:PE X (.Constant .none j pos) (tC .UA):=λ_ _ _ H _ I h=>Constant_none ⟨.UA,H,I,rfl,h⟩
def W5{x j pos}:PE X (.Constant (.str x) j pos) (tC (.str x)):=λ_ _ _ H _ I h=>Calls.Constant_str ⟨.str x,H,I.tok _,⟨_,rfl⟩,h⟩
def Gl(X:Cx)(x:Str):Prop:=X.env.kindOf x=uQ .globalImplicit
def Mt{E:xB->x9->Prop}{d:St}{H:Hp}{x:Str}{u:xB}{pos:Pos}{Q:xB->x9->Prop}(I:Inv X vG d H s)(j:Gl X x)(i:X.mg x=uQ u)(h:Q u s)
  (n:(x==("__debug__":Str))=uX:=by decide):vW (xU X.prog X.w) X.A (eval (.Name x pos) X.env) Q E s:=
 Calls.Name_function_global I.ok.kind j (Calls.loadGlobal_global (I.ok.glob▸I.mod.glob.keeps I.bk) i h) n
def Qx{E:xB->x9->Prop}{y:St}{H:Hp}{x:Str}{u:xB}{pos:Pos}{Q:xB->x9->Prop}(I:Inv X vG y H s)(q:Gl X x)(d:X.mg x=uZ)(z:xL x=uQ u)(h:Q u s)
  (i:x≠"__name__":=by decide) (n:(x==("__debug__":Str))=uX:=by decide):vW (xU X.prog X.w) X.A (eval (.Name x pos) X.env) Q E s:=by
 obtain⟨F,B,j⟩:=I.mod.blt;exact Calls.Name_function_global I.ok.kind q (Calls.loadGlobal_builtin (I.ok.glob▸I.mod.glob.keeps I.bk) d (I.ok.blt▸B.keeps I.bk) ((j x i).trans z) h) n
def dB(i:Gl X x)(d:X.mg x=uQ u)(r:RelV v u)(j:(x==("__debug__":Str))=uX:=by decide):PE X (.Name x pos) (tC v):=
 λ_ _ _ H _ I h=>Mt I i d ⟨v,H,I,r,h⟩ j
def dD{x:Str}{v:V}{u:xB}{pos:Pos}(n:Gl X x)(d:X.mg x=uZ)(q:xL x=uQ u)(r:RelV v u)(i:x≠"__name__":=by decide)(j:(x==("__debug__":Str))=uX:=by decide):PE X (.Name x pos) (tC v):=
 λ_ _ _ H _ I h=>Qx I n d q ⟨v,H,I,r,h⟩ i j
variable{a b:xw}{ta tb:TE}{pos:Pos}
noncomputable def tB(t:TE):TT:=λσ H Q=>t σ H λx H1=>∃c,x=.bl c/\Q c H1
def mK{e:xw}{t:TE}(h:PE X e t)(y:∀i,isTrue e X.env i=(do let v<-i;standAt e.pos;holding [v] (truthy v)):=by intro _;rfl):PT X e (tB t):=by intro j s F H Q I hw;refine isTrue_plain (ZA (h j s F H _ I hw) λv L ⟨x,J,z,B,n⟩=>?_) (y _);obtain⟨d,rfl,q⟩:=n;cases B;exact vD ⟨J,z,q⟩
variable{tA MY:TT}{rest:List xw}
noncomputable def YU(t u:TT):TT:=λσ H Q=>t σ H λc H1=>if c=uJ then u σ H1 Q else Q uX H1
noncomputable def O'(t u:TT):TT:=λσ H Q=>t σ H λc H1=>if c=uJ then Q uJ H1 else u σ H1 Q
noncomputable def UZ(t:TT):TT:=λσ H Q=>t σ H λc H1=>Q (!c) H1
theorem JP(i:PT X a tA):PW X (.BoolOp .And [a] pos) tA:=by
 intro n d s j H Q I h;refine isTrue_and (ZA (i d s j H Q I h) λc q e=>?_);cases c with
 |true=>exact isTrue_and_nil e
 |false=>exact e
theorem TR(i:PT X a tA):PW X (.BoolOp .Or [a] pos) tA:=by
 intro n d s j H Q I h;refine isTrue_or (ZA (i d s j H Q I h) λc q e=>?_);cases c with
 |false=>exact isTrue_or_nil e
 |true=>exact e
theorem UR(y:PT X a tA)(z:PW X (.BoolOp .And (b::rest) pos) MY):PW X (.BoolOp .And (a::b::rest) pos) (YU tA MY):=by
 intro B d s n H Q I h;refine isTrue_and (ZA (y d s n H _ I h) λc F ⟨q,j,i⟩=>?_);cases c with
 |true=>exact z B d F n q Q j i
 |false=>exact⟨q,j,i⟩
theorem ZU(y:PT X a tA)(z:PW X (.BoolOp .Or (b::rest) pos) MY):PW X (.BoolOp .Or (a::b::rest) pos) (O' tA MY):=by
 intro B d s n H Q I h;refine isTrue_or (ZA (y d s n H _ I h) λc F ⟨q,j,i⟩=>?_);cases c with
 |true=>exact⟨q,j,i⟩
 |false=>exact z B d F n q Q j i
def mL(i:PT X a tA):PT X (.UnaryOp .Not a pos) (UZ tA):=by intro d s n H Q I h;exact isTrue_not (ZA (i d s n H (λc j=>Q (!c) j) I h) λ_ _ ⟨a,b,c⟩=>⟨a,b,c⟩)
noncomputable def mM(ta tb:TE):TE:=λσ H Q=>ta σ H λx H1=>∃c,x=.bl c/\if c=uJ then tb σ H1 Q else Q (.bl uX) H1
noncomputable def VZ(ta tb:TE):TE:=λσ H Q=>ta σ H λx H1=>∃c,x=.bl c/\if c=uJ then Q (.bl uJ) H1 else tb σ H1 Q
noncomputable def mN(ta:TE):TE:=λσ H Q=>ta σ H λx H1=>∃c,x=.bl c/\Q (.bl (!c)) H1
def mO{op}(h:PE X a t):PE X (.BoolOp op [a] pos) t:=λd s i H Q I hw=>BoolOp_one (h d s i H Q I hw)
theorem mP(y:PE X a ta)(B:PE X (.BoolOp .And (b::rest) pos) tb):PE X (.BoolOp .And (a::b::rest) pos) (mM ta tb):=by
 intro d s n H Q I h;refine BoolOp_and (ZA (y d s n H _ I h) λv J z=>?_);obtain⟨x,q,j,F,i⟩:=z;obtain⟨c,rfl,i⟩:=i;cases F;refine vD ?_;cases c with
 |true=>exact B d J n q Q j i
 |false=>exact⟨.bl uX,q,j,rfl,i⟩
theorem mQ(y:PE X a ta)(B:PE X (.BoolOp .Or (b::rest) pos) tb):PE X (.BoolOp .Or (a::b::rest) pos) (VZ ta tb):=by
 intro d s n H Q I h;refine BoolOp_or (ZA (y d s n H _ I h) λv J z=>?_);obtain⟨x,q,j,F,i⟩:=z;obtain⟨c,rfl,i⟩:=i;cases F;refine vD ?_;cases c with
 |false=>exact B d J n q Q j i
 |true=>exact⟨.bl uJ,q,j,rfl,i⟩
def mR(j:PE X a ta):PE X (.UnaryOp .Not a pos) (mN ta):=by intro d s z H Q I h;refine UnaryOp_ (ZA (j d s z H _ I h) λv F n=>?_);obtain⟨x,B,q,y,i⟩:=n;obtain⟨c,rfl,i⟩:=i;cases y;exact not_of (vD ⟨.bl (!c),B,q,rfl,i⟩)
end
def IE(K:za)(H:Hp)(a:xz)(xs:List V):Prop:=
 Rd H a (.lst xs)\/
  ∃(o:Obj)(LA:Array xB)(n:Nat),K.lookup a=uQ o/\o.cls=.type "list"/\o.dict=uZ/\o.data=.seq LA n/\LA.size<=sizeLine/\Vals xs LA.toList
def JE(K:za)(H:Hp)(a:xz)(xs:List V):Prop:=
 Rd H a (.tup xs)\/
  ∃(o:Obj)(LA:Array xB)(n:Nat),K.lookup a=uQ o/\o.cls=.type "tuple"/\o.data=.seq LA n/\LA.size<=sizeLine/\Vals xs LA.toList
noncomputable def WZ:xB->Option V
 |.none=>uQ .UA
 |.bool b=>uQ (.bl b)
 |.int i _=>uQ (.int i)
 |.str x _=>uQ (.str x)
 |.bytes b _=>uQ (.byt b)
 |.float b _=>uQ (.flt b)
 |.ref a=>uQ (.ref a)
 |.type n=>uQ (.ty n)
 |_=>uZ
theorem RelV.abs(r:RelV x u):WZ u=uQ x:=by
 cases x with
 |UA|bl _=>cases r;rfl
 |ref _|ty _=>cases r;rfl
 |_=>obtain⟨t,rfl⟩:=r;rfl
def RelV.inj(r:RelV x u)(q:RelV y u):x=y:=xv (r.abs.symm.trans q.abs)
theorem Vals.inj:∀{xs ys:List V}{us:List xB},Vals xs us->Vals ys us->xs=ys
 |_,_,_,.nil,.nil=>rfl
 |_,_,_,.cons r t,.cons d i=>by rw[r.inj d,Vals.inj t i]
section
variable{X:Cx}{vG:List (xz×Obj)}{σ:St}{H:Hp}{s:x9}{a:xz}{xs ys:List V}
def IE.of{K:za}(h:H a=uQ (.lst xs)):IE K H a xs:=.inl (.inl h)
def JE.of{K:za}(h:H a=uQ (.tup xs)):JE K H a xs:=.inl (.inl h)
def Inv.list(I:Inv X vG σ H s)(h:IE X.K H a xs):∃LA:List xB,Vals xs LA/\PlainL s.heap a LA.toArray/\xs.length<=sizeLine:=by
 rcases h with h|⟨o,LA,n,hk,i,j,d,q,r⟩
 .obtain⟨z,LA,n,r,e⟩:=h.ok I.SA;exact⟨LA,r,⟨_,n,e,rfl,rfl,rfl⟩,z⟩
 refine⟨LA.toList,r,⟨o,n,I.RE a o hk,i,j,by simpa using d⟩,?_⟩;have e:=r.length;simp[qL]at e;lia
def Inv.tuple(I:Inv X vG σ H s)(h:JE X.K H a xs):∃LA:List xB,Vals xs LA/\IsTup s.heap a LA.toArray/\xs.length<=sizeLine:=by
 rcases h with h|⟨o,LA,n,hk,i,d,j,r⟩
 .obtain⟨z,LA,r,p⟩:=h.ok I.SA;exact⟨LA,r,p,z⟩
 refine⟨LA.toList,r,⟨o,I.RE a o hk,i,n,by simpa using d⟩,?_⟩;have e:=r.length;simp[qL]at e;lia
def Inv.Zr(I:Inv X vG σ H s)(h:IE X.K H a xs)(h':IE X.K H a ys):xs=ys:=by
 obtain⟨j,r,⟨o,n,e,_,_,d⟩,_⟩:=I.list h;obtain⟨i,z,⟨J,F,y,_,_,q⟩,_⟩:=I.list h';rw[e]at y;cases y;rw[d]at q;injection q with B _
 have:j=i:=by simpa using congrArg Array.toList B
 subst this;exact r.inj z
def Inv.aT(I:Inv X vG σ H s)(h:JE X.K H a xs)(h':JE X.K H a ys):xs=ys:=by
 obtain⟨j,r,⟨o,e,_,n,d⟩,_⟩:=I.tuple h;obtain⟨i,z,⟨J,y,_,F,q⟩,_⟩:=I.tuple h';rw[e]at y;cases y;rw[d]at q;injection q with B _
 have:j=i:=by simpa using congrArg Array.toList B
 subst this;exact r.inj z
end
noncomputable abbrev Cx.OF(X:Cx)(E:xB->x9->Prop):Cx:={X with xe:=E}
noncomputable abbrev Cx.PQ(X:Cx):Cx:=X.OF λ_ _=>False
def Cx.Ok.OF{X:Cx}(ok:X.Ok)(E:xB->x9->Prop):(X.OF E).Ok:=
 ⟨ok.mod,ok.kind,ok.glob,ok.blt,ok.above,ok.inj,ok.has,ok.OQ,ok.hd,ok.frames,ok.QR,ok.WU,ok.bs,ok.TM,ok.JI,ok.MH,ok.VE,ok.NO⟩
def Cx.Ok.RD{X:Cx}{E:xB->x9->Prop}(ok:(X.OF E).Ok):X.Ok:=
 ⟨ok.mod,ok.kind,ok.glob,ok.blt,ok.above,ok.inj,ok.has,ok.OQ,ok.hd,ok.frames,ok.QR,ok.WU,ok.bs,ok.TM,ok.JI,ok.MH,ok.VE,ok.NO⟩
section
variable{X:Cx}{vG:List (xz×Obj)}{σ:St}{H:Hp}{s:x9}{E:xB->x9->Prop}
def Inv.OF(I:Inv X vG σ H s)(E:xB->x9->Prop):Inv (X.OF E) vG σ H s:=⟨I.ok.OF E,I.os,I.bare,I.base,I.loc,I.cell,I.free,I.Fq,I.pin,I.SA,I.len⟩
def Inv.RD(I:Inv (X.OF E) vG σ H s):Inv X vG σ H s:=⟨I.ok.RD,I.os,I.bare,I.base,I.loc,I.cell,I.free,I.Fq,I.pin,I.SA,I.len⟩
theorem SP.RD(h:SP (X.OF E) vG D f s'):SP X vG D f s':=by
 cases f with
 |ret u=>obtain⟨v,d,i,I,r,q⟩:=h;exact⟨v,d,i,I.RD,r,q⟩
 |_=>obtain⟨d,i,I,q⟩:=h;exact⟨d,i,I.RD,q⟩
def KJ.PQ{st:List xA}{t:TS}(h:KJ X.PQ st t):KJ X st t:=λd s i H D I hw=>
 vv (h d s i H D (I.OF _) hw) (λ_ _ q=>q.RD) λ_ _ z=>False.elim z
end
section
variable{X:Cx}{st:xA}{rest:List xA}{t u:TS}{e:xw}{te:TE}{pos:Pos}
noncomputable def mS:TS:=λD σ H=>D.nx σ H
noncomputable def XZ(t u:TS):TS:=λD σ H=>t {D with nx:=u D} σ H
def mT:KJ X [] mS:=λ_ _ d H _ I h=>wpAny_execs_nil ⟨d,H,I,h⟩
theorem dE(j:PS X st t)(F:KJ X rest u):KJ X (st::rest) (XZ t u):=by
 intro d s y H D I h;refine wpAny_execs_cons (ZA (j d s y H {D with nx:=u D} I h) λf B q=>?_);cases f with
 |next=>
  obtain⟨i,n,z,q⟩:=q;exact F d B i n D z q
 |_=>exact q
theorem dF(i:PS X st t):KJ X [st] t:=by
 intro d s j H D I h;refine wpAny_execs_cons (ZA (i d s j H D I h) λf n q=>?_);cases f with
 |next=>exact wpAny_execs_nil q
 |_=>exact q
def Inv.quiet{d:St}{H:Hp}(I:Inv X vG d H s):interactive X.env=uX:=by simp[interactive,I.ok.kind]
noncomputable def mU(te:TE):TS:=λD σ H=>te σ H λ_ H1=>D.nx σ H1
def dG(n:PE X e te)(y:swapsWith e uZ pos.line X.env=pure uX:=by rfl):PS X (.Expr e pos) (mU te):=by intro d s i H D I h;exact wpAny_Expr_any (ZA (n d s i H _ I h) λv F ⟨x,z,q,B,j⟩=>⟨i,z,q,j⟩) I.quiet y
noncomputable def YZ(te:TE):TS:=λD σ H=>te σ H D.rt
def mV(n:PE X e te):PS X (.Return (uQ e) pos) (YZ te):=by intro d s i H D I h;exact wpAny_Return_some (ZA (n d s i H _ I h) λv B ⟨x,z,q,y,j⟩=>⟨x,i,z,q,y,j⟩)
noncomputable def ZZ(c:TT)(t u:TS):TS:=λD σ H=>c σ H λb H1=>if b=uJ then t D σ H1 else u D σ H1
theorem mW{c:xw}{a b:List xA}{q:TT}(M:PT X c q)(F:KJ X a t)(L:KJ X b u):PS X (.If c a b pos) (ZZ q t u):=by
 intro i s j H D I h;refine wpAny_If (ZA (M i s j H _ I h) λd B J=>?_);obtain⟨y,z,n⟩:=J;cases d with
 |true=>exact F i B j y D z n
 |false=>exact L i B j y D z n
end
noncomputable abbrev TG:=V->St->Hp->(St->Hp->Prop)->Prop
noncomputable abbrev OO:=List V->St->Hp->(St->Hp->Prop)->Prop
def PG(X:Cx)(target:xw)(t:TG):Prop:=
 ∀(vG:List (xz×Obj))(s:x9)(σ:St)(H:Hp)(v:V)(u:xB)(Q:St->Hp->Prop),Inv X vG σ H s->RelV v u->t v σ H Q->
  vW (xU X.prog X.w) X.A (assign target X.env u) (λ_=>NP X vG Q) X.xe s
def KP(X:Cx)(ts:List xw)(t:OO):Prop:=
 ∀(vG:List (xz×Obj))(s:x9)(σ:St)(H:Hp)(vs:List V)(us:List xB)(Q:St->Hp->Prop),Inv X vG σ H s->Vals vs us->t vs σ H Q->
  vW (xU X.prog X.w) X.A (assignInOrder ((xD ts X.env).map (·.2)) us) (λ_=>NP X vG Q) X.xe s
noncomputable abbrev VR:=V->V->V->Hp->(Hp->Prop)->Prop
def HV(X:Cx)(t:VR):Prop:=
 ∀(vG:List (xz×Obj))(s:x9)(σ:St)(H:Hp)(o i v:V)(ov iv u:xB)(Q:Hp->Prop),Inv X vG σ H s->RelV o ov->RelV i iv->RelV v u->t o i v H Q->
  vW (xU X.prog X.w) X.A (setItem ov iv u) (λ_ s'=>∃H',Inv X vG σ H' s'/\Q H') X.xe s
section
variable{X:Cx}{pos:Pos}
noncomputable def dH(i:Nat):TG:=λv σ H Q=>Q (σ.set i (uQ v)) H
def mX(n:X.N.Nodup)(hi:X.N[i]?=uQ x)(j:Loc X.env.scope x)(q:X.fn x=uJ\/X.env.scope.names.lookup x=uQ .local:=by rfl'):PG X (.Name x pos) (dH i):=by intro d s z H v u Q I r h;exact wpAny_assign_Name (aS I n hi j r (λB y=>⟨_,H,y,h⟩) q)
noncomputable def H0:OO:=λvs σ H Q=>vs=[]/\Q σ H
noncomputable def mY(t:TG)(u:OO):OO:=λvs σ H Q=>∃v r,vs=v::r/\t v σ H λσ' H'=>u r σ' H' Q
def mZ:KP X [] H0:=by intro d s i H n j Q I r h;obtain⟨e,h⟩:=h;subst e;cases r;exact assignInOrder_nil ⟨i,H,I,h⟩
theorem m3{e:xw}{es:List xw}{t:TG}{u:OO}(M:PG X e t)(y:KP X es u)
  (J:(xD (e::es) X.env).map (·.2)=assign e X.env::(xD es X.env).map (·.2):=by rfl):KP X (e::es) (mY t u):=by
 intro d s F H S N Q I r h;obtain⟨v,O,q,h⟩:=h;subst q;cases r with
 |cons r n=>
  rw[J];exact assignInOrder_cons (ZA (M d s F H _ _ _ I r h) λ_ L ⟨i,z,B,j⟩=>(y d L i z _ _ Q B n j))
noncomputable def K0(K:za)(n:Nat)(t:OO):TG:=λv σ H Q=>∃a xs,v=.ref a/\JE K H a xs/\xs.length=n/\t xs σ H Q
def m4{es:List xw}{k:Nat}{t:OO}{n:Nat}(N:X.calm=uJ)(h:KP X es t)
  (y:(xD es X.env).length=n:=by rfl) (i:(xD es X.env).findIdx? (·.1)=uZ:=by rfl):PG X (.Tuple es k pos) (K0 X.K n t):=by
 intro d s M H v u Q I r hw;obtain⟨a,F,j,q,J,hw⟩:=hw;subst j;cases r;obtain⟨z,rv,L,O⟩:=I.tuple q;exact assign_Tuple_tuple (I.ok.hd N) L (by simp[y,<-J,rv.length]) i λS B=>(h d _ M H F _ Q (I.kept (t':=s.toks) λb o e=>B b o (zP (zx e)) e) (by simpa using rv) hw)
noncomputable def L0(to ti:TE)(t:VR):TG:=λv σ H Q=>to σ H λo H1=>ti σ H1 λi H2=>t o i v H2 λH3=>Q σ H3
def m6{o i:xw}{q ti:TE}{t:VR}(ho:PE X o q)(hi:PE X i ti)(hs:HV X t)
  (B:∀v,assign (.Subscript o i pos) X.env v=(do
   let ov<-holding [v] (eval o X.env);let iv<-holding [v,ov] (eval i X.env)
   standAt pos
   holding [v,ov,iv] (setItem ov iv v)
   release [v,ov,iv] []):=by intro _;rfl):PG X (.Subscript o i pos) (L0 q ti t):=by
 intro d s j H v u Q I r h;rw[B];refine vY (vx (ZA (ho d s j H _ I h) λov O n=>?_));obtain⟨x,Y,U,M,q1⟩:=n;refine vY (vx (ZA (hi d O j Y _ U q1) λiv N n=>?_));obtain⟨y,Z,z,L,W⟩:=n;exact vY (wpAny_standAt (vY (vx (ZA (hs d N j Z x y v ov iv u _ z M L r W) λ_ s3 ⟨J,S,F⟩=>(wpAny_release ⟨j,J,S,F⟩)))))
noncomputable def aU(te:TE)(g:TG):TS:=λD σ H=>te σ H λx H1=>g x σ H1 D.nx
def m7{e:xw}{te:TE}{g:TG}(z:PE X e te)(B:PG X tg g)(L:swapsWithSole [tg] e pos.line X.env=pure uX:=by rfl)(hw:swappedStores [tg] e X.env=pure uZ:=by rfl)
  (N:(xD [tg] X.env).map (·.2)=[assign tg X.env]:=by rfl):PS X (.Assign [tg] e pos) (aU te g):=by
 intro d s i H D I h;refine wpAny_Assign_stores (ZA (z d s i H _ I h) λv M y=>?_) L hw;obtain⟨x,n,F,J,j⟩:=y;rw[N];exact ZA (B d M i n x v _ F J j) λ_ O q=>q
def m8{i:Nat}{x:Str}{e:xw}{te:TE}{d:Pos}(B:X.N.Nodup)(hi:X.N[i]?=uQ x)(z:Loc X.env.scope x)(J:PE X e te)(S:swapsWith e (uQ (.Name x d)) pos.line X.env=pure uX:=by rfl)(F:X.fn x=uJ\/X.env.scope.names.lookup x=uQ .local:=by rfl'):
  PS X (.Assign [.Name x d] e pos) (aU te (dH i)):=by
 intro j s O H D I h;exact wpAny_Assign_Name (ZA (J j s O H _ I h) λv Y ⟨y,U,L,M,n⟩=>(aS L B hi z M (λW q=>⟨_,U,q,n⟩) F)) S
end
structure It where
 go:Nat->Hp->Prop
 IV:Nat->Hp->V->Hp->Prop
 stop:Nat->Hp->Prop
def SD(X:Cx)(vG:List (xz×Obj))(H:Hp)(b:xz):Prop:=
 H b=uZ/\b≠X.env.locals/\b∉X.fs/\(b∈X.ex\/X.s₀.heap.objs.size<=b)/\(∀x c,X.env.cells.lookup x=uQ c->c≠b)/\∀p∈X.pn++vG,p.1≠b
def Inv.O8{X:Cx}{j:St}{H H':Hp}{b:xz}(I:Inv X vG j H s)(d:s.heap.objs.size<=b)(i:H' b=uZ):SD X vG H' b:=by
 refine⟨i,jD (zK I.lt d),I.HP d,.inr (zy I.sz d),λx c e z=>?_,λp hp z=>(absurd (zK (zx (I.pin p hp).1) (by rw[z];exact d)) (zH _))⟩
 .obtain⟨v,q⟩:=I.cell x c e;exact absurd (zK q.lt (z▸d)) (zH _)
structure Turn (P:x0) (w:xC) (K:za) (tg:xw) (J:It) (fp:List xz) (it:xz) (tn:Nat->Heap->Prop):Prop where
 mem:it∈fp
 obj:∀i h,tn i h->∀b∈fp,∃o,h.get? b=uQ o/\∀v,o.data≠ .cell v
 keep:∀i h h',tn i h->(∀b∈fp,∀o,h.get? b=uQ o->h'.get? b=uQ o)->tn i h'
 item:∀(X:Cx),X.prog=P->X.w=w->X.K=K->X.calm=uJ->∀(i:Nat)(vG:List (xz×Obj))(s:x9)(σ:St)(H:Hp)(E:xB->x9->Prop),Inv X vG σ H s->(∀b∈fp,SD X vG H b)->tn i s.heap->J.go i H->
  vW (xU P w) X.A (pyNext (.ref it)) (λr s1=>∃u,r=uQ u/\
   vW (xU P w) X.A (xS tg (.ref it) u) (λ_ s2=>∃x H',Inv X vG σ H' s2/\RelV x u/\J.IV i H x H'/\tn (i+1) s2.heap/\∀b∈fp,H' b=uZ) E s1) E s
 done:∀(X:Cx),X.prog=P->X.w=w->X.K=K->X.calm=uJ->∀(i:Nat)(vG:List (xz×Obj))(s:x9)(σ:St)(H:Hp)(E:xB->x9->Prop),Inv X vG σ H s->(∀b∈fp,SD X vG H b)->tn i s.heap->J.stop i H->
  vW (xU P w) X.A (pyNext (.ref it)) (λr s1=>r=uZ/\Inv X vG σ H s1) E s
 self:∀(A:xj)(i:Nat)(s:x9)(Q:xB->x9->Prop)(E:xB->x9->Prop),tn i s.heap->Q (.ref it) s->vW (xU P w) A (pyIter (.ref it)) Q E s
noncomputable abbrev TI:=St->Hp->(It->Hp->Prop)->Prop
def U'(X:Cx)(vG:List (xz×Obj))(σ:St)(tg:xw)(R:It->Hp->Prop)(JV:xB)(s2:x9):Prop:=
 ∃(it:xz)(fp:List xz)(tn:Nat->Heap->Prop)(J:It)(H':Hp),JV=.ref it/\Inv X vG σ H' s2/\Turn X.prog X.w X.K tg J fp it tn/\tn 0 s2.heap/\(∀b∈fp,SD X vG H' b)/\R J H'
def PI(X:Cx)(tg iter:xw)(wi:TI):Prop:=
 ∀(vG:List (xz×Obj))(s:x9)(σ:St)(H:Hp)(R:It->Hp->Prop),Inv X vG σ H s->wi σ H R->
  vW (xU X.prog X.w) X.A (eval iter X.env) (λv s1=>vW (xU X.prog X.w) X.A (pyIter v) (U' X vG σ tg R) X.xe s1) X.xe s
def Ut(ho:s.heap.get? it=uQ o)(hc:o.cls=.type n)(hd:o.data=.fields vs)
  (hn: ["enumerate","zip","dict_itemiterator","dict_reverseitemiterator","odict_iterator","itertools.zip_longest","itertools.pairwise"].contains n=uX) (hQ:Q () s):vW M A (xS tg (.ref it) u) Q E s:=by
 unfold xS
 cases tg<;>first
  |exact vB hQ
  | (cases u<;>first
    |exact vB hQ
    | (
      refine vY (wpAny_load ho ?_);rw[hc,hd];show vW M A (if(["enumerate","zip","dict_itemiterator","dict_reverseitemiterator","odict_iterator","itertools.zip_longest","itertools.pairwise"].contains n&&vs[0]?==uQ (vQ _))=uJ then _ else _) Q E s;rw[if_neg (by intro h;rw[hn,Bool.false_and]at h;cases h)];exact vB hQ))
noncomputable def V'(K:za)(a:xz):It:=
 ⟨λi H=>∃xs x,IE K H a xs/\xs[i]?=uQ x,λi H x H'=>H'=H/\∀xs,IE K H a xs->xs[i]?=uQ x,λi H=>∃xs,IE K H a xs/\xs.length<=i⟩
noncomputable def W'(K:za)(a:xz):It:=
 ⟨λi H=>∃xs x,JE K H a xs/\xs[i]?=uQ x,λi H x H'=>H'=H/\∀xs,JE K H a xs->xs[i]?=uQ x,λi H=>∃xs,JE K H a xs/\xs.length<=i⟩
noncomputable def NY(lo:Int)(n:Nat):It:=⟨λi _=>i<n,λi H x H'=>H'=H/\x=.int (lo+i),λi _=>n<=i⟩
def m9{w:xC}{K:za}(a it:xz):Turn P w K tg (V' K a) [it] it (λi h=>h.IsListIter it a i) where
 mem:=by simp
 obj:=λi h j b n=>by
  have e:b=it:=by simpa using n
  subst e;obtain⟨o,e,c,d⟩:=j;exact⟨o,e,λv z=>by rw[d]at z;cases z⟩
 keep:=λi h h' j k=>j.at λo e=>k it (by simp) o e
 item:=by
  intro X S hw hK hc i y s σ H E I F j N;subst S hw hK;obtain⟨xs,x,B,M⟩:=N;obtain⟨L,rv,p,hz⟩:=I.list B;obtain⟨u,hu,ru⟩:=rv.get M;obtain⟨Y,J,f2,Z,O,U⟩:=F it (by simp);refine wpAny_pyNext_list_item j p.isList (by simpa using hu) λh' q sb=>?_
  obtain⟨o,e,c,d⟩:=id q;exact⟨u,rfl,Ut e c d (by decide) ⟨x,H,I.turned (t':=s.toks) (λb o n e=>(sb.2 b n).trans e) Y J Z O U,ru,⟨rfl,λys hy=>(I.Zr hy B)▸M⟩,q,λb n=>(F b n).1⟩⟩
 done:=by intro X S hw hK hc i y s σ H E I F j N;subst S hw hK;obtain⟨xs,B,M⟩:=N;obtain⟨L,rv,p,hz⟩:=I.list B;obtain⟨Y,J,f2,Z,O,U⟩:=F it (by simp);have hl:=rv.length;exact wpAny_pyNext_list_end (I.ok.hd hc) j p.isList (by simp;lia) λh' eb=>⟨rfl,I.turned (λb o n e=>eb b o n e) Y J Z O U⟩
 self:=λ_ _ _ _ _ j h=>wpAny_pyIter_listiter j h
def ma{w:xC}{K:za}(a it:xz):Turn P w K tg (W' K a) [it] it (λi h=>h.IsTupleIter it a i) where
 mem:=by simp
 obj:=λi h j b n=>by
  have e:b=it:=by simpa using n
  subst e;obtain⟨o,e,c,d⟩:=j;exact⟨o,e,λv z=>by rw[d]at z;cases z⟩
 keep:=λi h h' j k=>j.at λo e=>k it (by simp) o e
 item:=by
  intro X S hw hK hc i y s σ H E I F j N;subst S hw hK;obtain⟨xs,x,B,M⟩:=N;obtain⟨L,rv,p,hz⟩:=I.tuple B;obtain⟨u,hu,ru⟩:=rv.get M;obtain⟨Y,J,f2,Z,O,U⟩:=F it (by simp);refine wpAny_pyNext_tuple_item j (p) (by simpa using hu) λh' q sb=>?_
  obtain⟨o,e,c,d⟩:=id q;exact⟨u,rfl,Ut e c d (by decide) ⟨x,H,I.turned (t':=s.toks) (λb o n e=>(sb.2 b n).trans e) Y J Z O U,ru,⟨rfl,λys hy=>(I.aT hy B)▸M⟩,q,λb n=>(F b n).1⟩⟩
 done:=by intro X S hw hK hc i y s σ H E I F j N;subst S hw hK;obtain⟨xs,B,M⟩:=N;obtain⟨L,rv,p,hz⟩:=I.tuple B;obtain⟨Y,J,f2,Z,O,U⟩:=F it (by simp);have hl:=rv.length;exact wpAny_pyNext_tuple_end (I.ok.hd hc) j (p) (by simp;lia) λh' eb=>⟨rfl,I.turned (λb o n e=>eb b o n e) Y J Z O U⟩
 self:=λ_ _ _ _ _ j h=>wpAny_pyIter_tupleiter j h
def md{w:xC}{K:za}(it:xz)(lo:Int)(n:Nat):Turn P w K tg (NY lo n) [it] it (λi h=>IsRangeIter h it (lo+(i:Nat)*1) ((n:Int)-(i:Nat)) 1) where
 mem:=by simp
 obj:=λi h d b j=>by
  have e:b=it:=by simpa using j
  subst e;exact⟨_,d,λv z=>by have z':=z;cases z'⟩
 keep:=λi h Z d k=>k it (by simp) _ d
 item:=by
  intro X M hw Y S i y s σ H E I B d J;subst M hw Y;obtain⟨O,F,f2,U,L,N⟩:=B it (by simp);refine(Walks.range (prog:=X.prog) (w:=X.w) (I.ok.hd S) it lo 1 n).item i s _ _ J d λv Z tk hv q kk=>?_
  obtain⟨t,rfl⟩:=hv;refine⟨_,rfl,Ut q rfl rfl (by decide) ⟨.int (lo+i),H,I.turned (λb o j e=>kk b o (by simpa using j) e) O F U L N,⟨t,?_⟩,⟨rfl,rfl⟩,q,λb j=>(B b j).1⟩⟩;rw[Int.mul_one]
 done:=by intro X M hw Y S i y s σ H E I B d J;subst M hw Y;obtain⟨O,F,f2,U,L,N⟩:=B it (by simp);exact wpAny_pyNext_range_end (I.ok.hd S) d (by have:n<=i:=J;lia) λZ eb=>⟨rfl,I.turned (λb o j e=>eb b o j e) O F U L N⟩
 self:=λ_ _ _ _ _ d h=>wpAny_pyIter_rangeiter d h
section
variable{X:Cx}{tg:xw}
def mf(K:za)(tl:TE):TI:=λσ H R=>tl σ H λx H1=>∃a,x=.ref a/\(∃xs,IE K H1 a xs)/\R (V' K a) H1
def M0(K:za)(tl:TE):TI:=λσ H R=>tl σ H λx H1=>∃a,x=.ref a/\(∃xs,JE K H1 a xs)/\R (W' K a) H1
def aV{l:xw}{n:TE}(J:PE X l n):PI X tg l (mf X.K n):=by
 intro d s N H R I h;refine ZA (J d s N H _ I h) λv j F=>?_
 obtain⟨x,O,i,M,y⟩:=F;obtain⟨a,e,⟨U,z⟩,q⟩:=y;subst e;cases M;obtain⟨B,rv,p,S⟩:=i.list z;refine wpAny_pyIter_list p.isList ?_;refine⟨j.heap.objs.size,[j.heap.objs.size],_,_,O,rfl,i.kept λb o e=>zW _ e,m9 a _,⟨_,z9 _ rfl,rfl,rfl⟩,λb L=>?_,q⟩;have e:b=j.heap.objs.size:=by simpa using L
 subst e;exact i.O8 (zY _) (i.SA.fresh (zY _))
def mh{l:xw}{n:TE}(J:PE X l n):PI X tg l (M0 X.K n):=by
 intro d s N H R I h;refine ZA (J d s N H _ I h) λv j F=>?_
 obtain⟨x,O,i,M,y⟩:=F;obtain⟨a,e,⟨U,z⟩,q⟩:=y;subst e;cases M;obtain⟨B,rv,p,S⟩:=i.tuple z;refine wpAny_pyIter_tuple (p) ?_;refine⟨j.heap.objs.size,[j.heap.objs.size],_,_,O,rfl,i.kept λb o e=>zW _ e,ma a _,⟨_,z9 _ rfl,rfl,rfl⟩,λb L=>?_,q⟩;have e:b=j.heap.objs.size:=by simpa using L
 subst e;exact i.O8 (zY _) (i.SA.fresh (zY _))
def mi{z:St}{H:Hp}{R:It->Hp->Prop}{E:xB->x9->Prop}{lo hi:Int}{t u v:Tok}{tk:Nat}(I:Inv X vG z H s)(N: -(2^62)<=lo)(O:lo<2^62)(F: -(2^62)<=hi)(J:hi<2^62)
  (q:R (NY lo (hi-lo).toNat) H):vW (xU X.prog X.w) X.A (pyIter (.ref s.heap.objs.size)) (U' X vG z tg R) E {s with heap:=s.heap.push {cls:=.type "range",data:=.fields #[.int lo t,.int hi u,.int 1 v]},toks:=tk}:=by
 refine wpAny_pyIter_range (IsRange.new ..) (small_one N O F J) ?_;have y:Inv X vG z H {s with heap:=s.heap.push {cls:=.type "range",data:=.fields #[.int lo t,.int hi u,.int 1 v]},toks:=tk}:=I.kept λb o e=>zW _ e
 refine⟨(s.heap.push {cls:=.type "range",data:=.fields #[.int lo t,.int hi u,.int 1 v]}).objs.size,[(s.heap.push {cls:=.type "range",data:=.fields #[.int lo t,.int hi u,.int 1 v]}).objs.size],_,_,H,rfl,
  y.kept λb o e=>zW _ e,md _ lo (hi-lo).toNat,?_,λb L=>?_,q⟩
 .have B:lo+((0:Nat):Int)*1=lo:=by simp
  have M:(((hi-lo).toNat:Nat):Int)-((0:Nat):Int)=Builtin.Range.rangeSize lo hi 1:=by rw[rangeSize_one];split <;> lia
  rw[B,M];exact z9 _ rfl
 have e:b=(s.heap.push {cls:=.type "range",data:=.fields #[.int lo t,.int hi u,.int 1 v]}).objs.size:=by simpa using L
 subst e;exact y.O8 (zY _) (y.SA.fresh (zY _))
def mj(ta:TA):TI:=λσ H R=>ta σ H λvs H1=>∃j:Int,vs=[.int j]/\ -(2^62)<=j/\j<2^62/\R (NY 0 j.toNat) H1
theorem ml{a:xw}{ta:TA}{p pos:Pos}(F:Gl X "range")(n:X.mg "range"=uZ)(z:PA X [a] ta)(O:vX [a] X.env=[(uX,eval a X.env)]:=by rfl):PI X tg (.Call (.Name "range" p) [a] [] pos) (mj ta):=by
 intro d s M H R I h;refine Call_ (Qx I F n boot_range (vb (ZA (z pos d s M H _ I h) λS W B=>?_) O rfl));obtain⟨U,Y,J,L,i⟩:=B;obtain⟨j,e,i,N,q⟩:=i;subst e;cases L with
 |cons r y=>
  cases y;obtain⟨t,rfl⟩:=r;exact call_range_1 (mi J (by lia) (by lia) i N (by simpa using q))
def LV(wi:TI)(g:TG)(tb:TS):TS:=λD σ H=>wi σ H λJ H1=>∃W:Nat->Nat->St->Hp->Prop,(∃m,W 0 m σ H1)/\∀i m σ H,W i m σ H->
 (J.stop i H/\D.nx σ H)\/(J.go i H/\∃N:St->Hp->Prop,(∀σ' H',N σ' H'->∃m',m'<m/\W (i+1) m' σ' H')/\∀x H',J.IV i H x H'->g x σ H' λσ2 H2=>tb {D with nx:=N,ct:=N,bk:=D.nx} σ2 H2)
noncomputable def Ls(fp:List xz)(h:Heap):List (xz×Obj):=fp.filterMap λb=>(h.get? b).map λo=>(b,o)
def Oc(d:b∈fp)(e:h.get? b=uQ o):(b,o)∈Ls fp h:=List.mem_filterMap.mpr ⟨b,d,by rw[e];rfl⟩
theorem aW(hp:p∈Ls fp h):p.1∈fp/\h.get? p.1=uQ p.2:=by
 obtain⟨b,d,e⟩:=List.mem_filterMap.mp hp;cases q:h.get? b with
 |none=>rw[q]at e;cases e
 |some o=>
  rw[q]at e;have i:=xv e;subst i;exact⟨d,q⟩
def Inv.pinned{n:St}{H:Hp}{fp:List xz}(I:Inv X vG n H s)(y:∀b∈fp,SD X vG H b)(ho:∀b∈fp,∃o,s.heap.get? b=uQ o/\∀v,o.data≠ .cell v):Inv X (vG++Ls fp s.heap) n H s:=
 I.Gp λp hp=>(zG.mp hp).elim (λz=>I.pin p (zk _ z)) λz=>by obtain⟨j,e⟩:=aW z;obtain⟨B,q,F,_⟩:=y p.1 j;obtain⟨o,i,d⟩:=ho p.1 j;rw[e]at i;cases i;exact⟨e,B,q,F,d⟩
def Inv.KG{pl:List (xz×Obj)}{d:St}{H:Hp}(I:Inv X (vG++pl) d H s):Inv X vG d H s:=I.Gp λp hp=>I.pin p (zk _ (qB _ hp))
theorem mn(hp:PassesOwn (xU X.prog X.w) X.A X.env X.xe)(hc:X.calm=uJ)(hi:PI X tg iter wi)(hg:PG X tg g)(z:KJ X body tb)
  (hs:∀x,foldedSetIterable iter X.env x=pure x:=by intro _;rfl):PS X (.For tg iter body [] pos) (LV wi g tb):=by
 intro j s σ H D I h;refine wpAny_For (ZA (hi j s σ H _ I h) λv s1 h1=>ZA h1 λJV s2 h2=>?_) hs;obtain⟨it,fp,tn,J,H2,e,I2,T,st2,f2,W,⟨m0,w0⟩,turn⟩:=h2;subst e;have B:∀{M:Hp},(∀b∈fp,M b=uZ)->∀b∈fp,SD X j M b:=λhn b z=>⟨hn b z,(f2 b z).2⟩
 refine codeAny_forLoop_any (λn s'=>∃i y M,Inv X j y M s'/\tn i s'.heap/\(∀b∈fp,M b=uZ)/\W i n y M) ?_ m0 ⟨0,σ,H2,I2,st2,λb z=>(f2 b z).1,w0⟩;rintro n s3 ⟨i,F,H3,I3,st3,Z,w3⟩;rcases turn i n F H3 w3 with⟨stop,qn⟩|⟨go,N,hN,step⟩
 .refine vA hp (ZA (T.done X rfl rfl rfl hc i j s3 F H3 X.xe I3 (B Z) st3 stop) λr s4 ⟨hr,I4⟩=>?_);subst hr;exact wpAny_execs_nil ⟨F,H3,I4,qn⟩
 refine vA hp (ZA (T.item X rfl rfl rfl hc i j s3 F H3 X.xe I3 (B Z) st3 go) λr s4 zz=>?_);obtain⟨u,hr,h4⟩:=zz;subst hr;refine vA hp (ZA h4 λ_ s5 zz=>?_);obtain⟨x,H5,I5,r5,y5,Y,fr5⟩:=zz;refine vA hp (ZA (hg _ s5 F H5 x u _ (I5.pinned (B fr5) (T.obj _ _ Y)) r5 (step x H5 y5)) λ_ s6 ⟨σ6,H6,I6,q6⟩=>?_);refine vA hp (ZA (z _ s6 σ6 H6 _ I6 q6) λf s7 U=>?_)
 have S:∀{q:St}{L:Hp},Inv X (j++Ls fp s5.heap) q L s7->N q L->∃m,m<n/\∃i y M,Inv X j y M s7/\tn i s7.heap/\(∀b∈fp,M b=uZ)/\W i m y M:=λ{q L}O n7=>by obtain⟨m',hm,w7⟩:=hN q L n7;refine⟨m',hm,i+1,q,L,O.KG,T.keep _ _ _ Y λb z o e=>(O.pin (b,o) (zk _ (zk _ (Oc z e)))).1,λb z=>?_,w7⟩;obtain⟨o,e,d⟩:=T.obj _ _ Y b z;exact(O.pin (b,o) (zk _ (zk _ (Oc z e)))).2.1
 cases f with
 |brk=>obtain⟨q,L,O,U⟩:=U;exact⟨q,L,O.KG,U⟩
 |ret v=>obtain⟨x7,q,L,O,r7,U⟩:=U;exact⟨x7,q,L,O.KG,r7,U⟩
 |_=>obtain⟨q,L,O,n7⟩:=U;exact S O n7
end
noncomputable abbrev R2:=V->V->Hp->VK->Prop
def VB(X:Cx)(f:xB->xB->Sem xB)(r:R2):Prop:=
 ∀(vG:List (xz×Obj))(s:x9)(σ:St)(H:Hp)(x y:V)(v u:xB)(Q:VK),Inv X vG σ H s->RelV x v->RelV y u->r x y H Q->
  vW (xU X.prog X.w) X.A (f v u) (EP X vG σ Q) X.xe s
def JU(X:Cx)(f:xB->Sem xB)(r:V->Hp->VK->Prop):Prop:=
 ∀(vG:List (xz×Obj))(s:x9)(σ:St)(H:Hp)(x:V)(v:xB)(Q:VK),Inv X vG σ H s->RelV x v->r x H Q->
  vW (xU X.prog X.w) X.A (f v) (EP X vG σ Q) X.xe s
def YA(X:Cx)(f:xB)(r:List V->Hp->VK->Prop):Prop:=
 ∀(vG:List (xz×Obj))(s:x9)(σ:St)(H:Hp)(xs:List V)(us:List xB)(Q:VK),Inv X vG σ H s->Vals xs us->r xs H Q->
  vW (xU X.prog X.w) X.A (call f us) (EP X vG σ Q) X.xe s
noncomputable def MV(r:R2)(ta tb:TE):TE:=λσ H Q=>ta σ H λx H1=>tb σ H1 λy H2=>r x y H2 Q
noncomputable def tUn(r:V->Hp->VK->Prop)(ta:TE):TE:=λσ H Q=>ta σ H λx H1=>r x H1 Q
noncomputable def rI(C:Int->Int->Prop)(g:Int->Int->V):R2:=λx y H Q=>∃i j,x=.int i/\y=.int j/\C i j/\Q (g i j) H
noncomputable def RQ(g:Int->Int->V):R2:=λx y H Q=>∃i j,x=.int i/\y=.int j/\Q (g i j) H
def rU(g:Int->V):V->Hp->VK->Prop:=λx H Q=>∃i,x=.int i/\Q (g i) H
section
variable{X:Cx}{a b c:xw}{ta tb tc:TE}{pos:Pos}
def Zf(F:PE X a ta)(M:PE X b tb){i:St}{H:Hp}{R:V->V->Hp->Prop}(I:Inv X vG i H s)
  (h:ta i H λx q=>tb i q λy d=>R x y d) {Q:xB->x9->Prop} {f:xB->xB->Sem xB}
  (J:∀v u s2 x y d,Inv X vG i d s2->RelV x v->RelV y u->R x y d->vW (xU X.prog X.w) X.A (f v u) Q X.xe s2):
  vW (xU X.prog X.w) X.A (eval a X.env) (λv n=>vW (xU X.prog X.w) X.A (eval b X.env) (λu j=>vW (xU X.prog X.w) X.A (f v u) Q X.xe j) X.xe n) X.xe s:=by
 refine ZA (F vG s i H _ I h) λv U ⟨x,q,N,O,z⟩=>?_
 exact ZA (M vG U i q _ N z) λu s2 ⟨y,d,B,L,S⟩=>(J v u s2 x y d B O L S)
def mq{op:Operator}{r:R2}(ho:VB X (xI op) r)(n:PE X a ta)(B:PE X b tb):PE X (.BinOp a op b pos) (MV r ta tb):=by intro d s J H Q I h;exact wpAny_BinOp (Zf n B I h λv u L x y i j F z q=>ho d L J i x y v u Q j F z q)
def mr(ho:JU X (unaryOp op) r)(n:PE X a ta):PE X (.UnaryOp op a pos) (tUn r ta):=by intro d s i H Q I h;exact UnaryOp_ (ZA (n d s i H _ I h) λv z ⟨x,B,q,y,j⟩=>ho d z i B x v Q q y j)
def OY{f:xB->xB->Sem xB}{C:Int->Int->Prop}{g:Int->Int->Int}
  (n:∀(i j:Int)(t u:Tok)(s:x9)(Q:xB->x9->Prop)(E:xB->x9->Prop),C i j->Q (.int (g i j) s.toks) {s with toks:=s.toks+1}->vW (xU X.prog X.w) X.A (f (.int i t) (.int j u)) Q E s):
  VB X f (rI C λi j=>.int (g i j)):=by
 intro z s M H x y v u Q I J F h;obtain⟨i,j,rfl,rfl,L,q⟩:=h;obtain⟨t,rfl⟩:=J;obtain⟨B,rfl⟩:=F;exact n i j t B s _ _ L ⟨.int (g i j),H,I.tok _,⟨_,rfl⟩,q⟩
def NV{f:xB->xB->Sem xB}{g:Int->Int->Int}
  (n:∀(i j:Int)(t u:Tok)(s:x9)(Q:xB->x9->Prop)(E:xB->x9->Prop),Q (.int (g i j) s.toks) {s with toks:=s.toks+1}->vW (xU X.prog X.w) X.A (f (.int i t) (.int j u)) Q E s):
  VB X f (RQ λi j=>.int (g i j)):=by
 intro z s L H x y v u Q I J F h;obtain⟨i,j,rfl,rfl,q⟩:=h;obtain⟨t,rfl⟩:=J;obtain⟨B,rfl⟩:=F;exact n i j t B s _ _ ⟨.int (g i j),H,I.tok _,⟨_,rfl⟩,q⟩
def Yd{f:xB->xB->Sem xB}{g:Int->Int->Bool}
  (d:∀(i j:Int)(t u:Tok)(s:x9)(Q:xB->x9->Prop)(E:xB->x9->Prop),Q (.bool (g i j)) s->vW (xU X.prog X.w) X.A (f (.int i t) (.int j u)) Q E s):
  VB X f (RQ λi j=>.bl (g i j)):=by
 intro n s J H x y v u Q I F B h;obtain⟨i,j,rfl,rfl,q⟩:=h;obtain⟨t,rfl⟩:=F;obtain⟨z,rfl⟩:=B;exact d i j t z s _ _ ⟨.bl (g i j),H,I,rfl,q⟩
def LP(i j:Int):Prop:=0<=j/\j<=1000000/\i.natAbs<2^64
def UM(i j:Int):Prop:=(-(2^64)<i/\i<2^64)\/(-(2^64)<j/\j<2^64)
def UM.ok(h:UM i j):IntMulOk i j:=by
 rcases h with⟨d,n⟩|⟨d,n⟩
 .exact .of_left (intBits_le_64 d n)
 exact .of_right (intBits_le_64 d n)
def mu:VB X (xI .Add) (RQ λi j=>.int (i+j)):=NV λ_ _ _ _ _ _ _ q=>add_int q
def mv:VB X (xI .Sub) (RQ λi j=>.int (i-j)):=NV λ_ _ _ _ _ _ _ q=>sub_int q
def mw:VB X (xI .Mod) (rI (λ_ j=>0<j) λi j=>.int (i%j)):=OY λi j _ _ _ _ _ d q=>by exact mod_int' (by lia) (by rw[Int.fmod_eq_emod_of_nonneg i (by lia)];exact q)
def mx:VB X (xI .Pow) (rI LP λi j=>.int (i^j.toNat)):=OY λ_ _ _ _ _ _ _ d q=>pow_int_small d.1 d.2.1 d.2.2 q
def unI{f:xB->Sem xB}{g:Int->Int}
  (j:∀(i:Int)(t:Tok)(s:x9)(Q:xB->x9->Prop)(E:xB->x9->Prop),Q (.int (g i) s.toks) {s with toks:=s.toks+1}->vW (xU X.prog X.w) X.A (f (.int i t)) Q E s):
  JU X f (rU λi=>.int (g i)):=by
 intro n s z H x v Q I y h;obtain⟨i,rfl,q⟩:=h;obtain⟨t,rfl⟩:=y;exact j i t s _ _ ⟨.int (g i),H,I.tok _,⟨_,rfl⟩,q⟩
def my:JU X (unaryOp .USub) (rU λi=>.int (-i)):=unI λ_ _ _ _ _ q=>neg_int q
def Qv{i:St}{H:Hp}{Q:VK}{k d:Bool}(I:Inv X vG i H s)(q:Q (.bl k) H)(e:k=d):EP X vG i Q (.bool d) s:=by subst e;exact⟨.bl k,H,I,rfl,q⟩
def mz:VB X (xO .Lt) (RQ λi j=>.bl (decide (i<j))):=Yd λ_ _ _ _ _ _ _ q=>lt_int q
def nA:VB X (xO .LtE) (RQ λi j=>.bl (decide (i<=j))):=Yd λ_ _ _ _ _ _ _ q=>le_int q
def nC:VB X (xO .Gt) (RQ λi j=>.bl (decide (j<i))):=Yd λ_ _ _ _ _ _ _ q=>gt_int q
def nE:VB X (xO .GtE) (RQ λi j=>.bl (decide (j<=i))):=Yd λ_ _ _ _ _ _ _ q=>ge_int q
def nF:VB X (xO .Lt) (λx y H Q=>∃i j,x=.str i/\y=.str j/\Q (.bl (decide (i.cps.toList<j.cps.toList))) H):=by intro d s F H x y v u Q I z n h;obtain⟨i,j,rfl,rfl,q⟩:=h;obtain⟨t,rfl⟩:=z;obtain⟨B,rfl⟩:=n;exact lt_str (Qv I q rfl)
def nG:VB X (xO .In) (λx y H Q=>∃i j,x=.str i/\y=.str j/\Q (.bl (!(zd j i 0 j.length 1).isEmpty)) H):=by intro d s F H x y v u Q I z n h;obtain⟨i,j,rfl,rfl,q⟩:=h;obtain⟨t,rfl⟩:=z;obtain⟨B,rfl⟩:=n;exact in_str (Qv I q rfl)
def nH:VB X (xO .Is) (λx y H Q=>y=.UA/\Q (.bl (decide (x=.UA))) H):=by
 intro i s n H x y v u Q I d j h;obtain⟨rfl,q⟩:=h;cases j;refine is_none_gen (Qv I q ?_)
 cases x<;>first
  |(cases d;rfl)
  |(obtain⟨t,rfl⟩:=d;rfl)
def nI:VB X (xO .IsNot) (λx y H Q=>y=.UA/\Q (.bl (!decide (x=.UA))) H):=by
 intro i s n H x y v u Q I d j h;obtain⟨rfl,q⟩:=h;cases j;refine isnot_none_gen (Qv I q ?_)
 cases x<;>first
  |(cases d;rfl)
  |(obtain⟨t,rfl⟩:=d;rfl)
def nJ:VB X (xO .NotIn) (λx y H Q=>∃i j,x=.str i/\y=.str j/\Q (.bl (!(!(zd j i 0 j.length 1).isEmpty))) H):=by intro d s F H x y v u Q I z n h;obtain⟨i,j,rfl,rfl,q⟩:=h;obtain⟨t,rfl⟩:=z;obtain⟨B,rfl⟩:=n;exact notIn_str (Qv I q rfl)
def VB.or(h:VB X f r)(h':VB X f r'):VB X f (λx y H Q=>r x y H Q\/r' x y H Q):=by
 intro d s n H x y v u Q I j i q;rcases q with q|q
 .exact h d s n H x y v u Q I j i q
 exact h' d s n H x y v u Q I j i q
def PF(b:xw)(h:op≠ .In:=by decide)(i:op≠ .NotIn:=by decide):xH op b=uX:=by
 have j:(op==CmpOp.In)=uX:=by cases op<;>first|rfl|exact absurd rfl h
 have d:(op==CmpOp.NotIn)=uX:=by cases op<;>first|rfl|exact absurd rfl i
 cases b<;>simp[xH,j,d]
def nK{op:CmpOp}{r:R2}(ho:VB X (xO op) r)(z:PE X a ta)(F:PE X b tb)(i:xH op b=uX):PE X (.Compare a [op] [b] pos) (MV r ta tb):=by intro d s L H Q I h;exact wpAny_Compare1 (Zf z F I h λv u M x y j n J B q=>ho d M L j x y v u Q n J B q) i
noncomputable def U3(t:TE):TT:=λσ H Q=>t σ H λx H'=>∃k,x=.bl k/\Q k H'
def nL(ho:VB X (xO op) r)(n:PE X a ta)(S:PE X b tb)(Z:xH op b=uX):PT X (.Compare a [op] [b] pos) (U3 (MV r ta tb)):=by
 intro d s i H Q I h;refine wpAny_isTrue_Compare1 (ZA (n d s i H _ I h) λv M ⟨x,Y,U,J,q1⟩=>ZA (S d M i Y _ U q1) λu L ⟨y,H2,j,F,W⟩=>
  ZA (ho d L i H2 x y v u _ j J F W) λc s3 zz=>?_) Z
 obtain⟨z,B,N,O,k,e,q⟩:=zz;subst e;cases O;exact vD ⟨B,N,q⟩
noncomputable def aX(r r':R2)(ta tb tc:TE):TE:=λσ H Q=>ta σ H λx H1=>tb σ H1 λy H2=>r x y H2 λz H3=>∃k,z=.bl k/\
 (if k=uJ then tc σ H3 λw' H4=>r' y w' H4 Q else Q (.bl uX) H3)
theorem nM(ho:VB X (xO op) r)(n:VB X (xO op') r')(M:PE X a ta)(hb:PE X b tb)(hc:PE X c tc)
  (hm:lastMarks [op,op'] [b,c]=uX:=by with_unfolding_all rfl):PE X (.Compare a [op,op'] [b,c] pos) (aX r r' ta tb tc):=by
 intro i s j H Q I h;refine Compare_chain (ZA (M i s j H _ I h) λv U ⟨x,H1,I1,N,q1⟩=>chain_link (ZA (hb i U j H1 _ I1 q1) λu O ⟨y,H2,L,F,q2⟩=>
  ZA (ho i O j H2 x y v u _ L N F q2) λd Y zz=>?_)) hm
 obtain⟨z,B,J,Z,k,e,q⟩:=zz;subst e;cases Z;refine vD ?_;cases k with
 |false=>exact ite_ff ⟨.bl uX,B,J,rfl,q⟩
 |true=>exact ite_tt (chain_last (ZA (hc i Y j B _ J q) λw' s4 ⟨z',H4,I4,W,S⟩=>n i s4 j H4 y z' u w' Q I4 F W S))
theorem nN(ho:VB X (xO op) r)(n:VB X (xO op') r')(N:PE X a ta)(hb:PE X b tb)(hc:PE X c tc)
  (hm:lastMarks [op,op'] [b,c]=uX:=by with_unfolding_all rfl):PT X (.Compare a [op,op'] [b,c] pos) (U3 (aX r r' ta tb tc)):=by
 intro i s j H Q I h;refine isTrue_chain (ZA (N i s j H _ I h) λv Z ⟨x,H1,I1,O,q1⟩=>test_link (ZA (hb i Z j H1 _ I1 q1) λu S ⟨y,H2,M,F,q2⟩=>
  ZA (ho i S j H2 x y v u _ M O F q2) λd s3 zz=>?_)) hm
 obtain⟨z,B,J,r3,k,e,q⟩:=zz;subst e;cases r3;refine vD ?_;cases k with
 |false=>
  obtain⟨k',e',q'⟩:=q;cases e';exact ite_ff ⟨B,J,q'⟩
 |true=>
  refine ite_tt (test_last (ZA (hc i s3 j B _ J q) λw' s4 ⟨z',H4,I4,r4,Y⟩=>ZA (n i s4 j H4 y z' u w' _ I4 F r4 Y) λd' s5 ⟨z2,L,I5,U,k2,W,q5⟩=>?_));subst W;cases U;exact vD ⟨L,I5,q5⟩
def QF:(sizeLine:Nat)<2^63:=by rw[vZ];decide
def nO:VB X (xI .Add) (λx y H Q=>∃i j,x=.str i/\y=.str j/\i.length+j.length<=sizeLine/\Q (.str (i++j)) H):=by intro d s J H x y v u Q I F B h;obtain⟨i,j,rfl,rfl,z,q⟩:=h;obtain⟨t,rfl⟩:=F;obtain⟨n,rfl⟩:=B;exact add_str (λn tk=>⟨.str (i++j),H,I.tok _,⟨_,rfl⟩,q⟩) z
theorem vals1(r:Vals [x] us):∃u,us=[u]/\RelV x u:=by
 cases r with
 |cons i d=>cases d;exact⟨_,rfl,i⟩
theorem vals2(r:Vals [x,y] us):∃u d,us=[u,d]/\RelV x u/\RelV y d:=by
 cases r with
 |cons q j=>
  cases j with
  |cons n i=>cases i;exact⟨_,_,rfl,q,n⟩
def nP(y:X.calm=uJ):YA X (.builtin "max") (λxs H Q=>∃i j,xs=[.int i,.int j]/\Q (.int (if j>i then j else i)) H):=by
 intro n s J H xs B Q I r h;obtain⟨i,j,rfl,q⟩:=h;obtain⟨u,F,rfl,⟨t,rfl⟩,⟨z,rfl⟩⟩:=vals2 r;refine max_two_ints (I.ok.hd y) λL tk k=>⟨_,H,I.kept k,?_,q⟩
 by_cases d:j>i
 .rw[if_pos d,if_pos d];exact⟨_,rfl⟩
 rw[if_neg d,if_neg d];exact⟨_,rfl⟩
def nQ:YA X (.type "int") (λxs H Q=>(∃i,xs=[.int i]/\Q (.int i) H)\/∃k,xs=[.bl k]/\Q (.int (if k then 1 else 0)) H):=by
 intro d s y H xs n Q I r h;rcases h with⟨i,rfl,q⟩|⟨k,rfl,q⟩
 .obtain⟨u,rfl,t,rfl⟩:=vals1 r;exact call_int_int ⟨.int i,H,I,⟨_,rfl⟩,q⟩
 obtain⟨u,rfl,j⟩:=vals1 r;cases j;exact call_int_bool ⟨.int (if k then 1 else 0),H,I.tok _,⟨_,rfl⟩,q⟩
def nR:YA X (.type "str") (λxs H Q=>∃i,xs=[.int i]/\i.natAbs.log2<1920/\Q (.str (toString i)) H):=by intro d s y H xs n Q I r h;obtain⟨i,rfl,j,q⟩:=h;obtain⟨u,rfl,t,rfl⟩:=vals1 r;exact PySem.P.str_of_int j ⟨.str _,H,I.tok _,⟨_,rfl⟩,q⟩
end
def dI{h:Heap}{j:xz}{B:Str->Option xB}(n:h.Ns1 j B):∃od,h.get? j=uQ od/\∀name,xg name od=uQ (B name):=by
 obtain⟨o,i,N,L,J,hk,_,F⟩:=n;refine⟨o,L,λname=>?_⟩;have e:=F name;unfold nsFind findBy at e;rw[<-Array.find?_toList]at e;unfold xg;rw[J];dsimp only;split
 .rename_i y q;rw[q]at e;exact congrArg uQ e
 rename_i q;rw[q]at e
 have a:i.toList.any (·.refKey)=uX:=by rw[List.any_eq_false];intro y I;obtain⟨z,t,d⟩:=hk y (Array.mem_toList_iff.mp I);simp[DictEntry.refKey,d]
 have M:¬i.toList.any (·.refKey)=uJ:=a▸z6
 rw[if_neg M];exact congrArg uQ e
theorem ZK.MP(r:ZK (uQ v) o):∃u,o=uQ u/\RelV v u:=by
 cases o with
 |none=>exact(r).elim
 |some u=>exact⟨u,rfl,r⟩
theorem nS(r:RelV v u):xh u=uJ:=by
 cases v with
 |UA|bl b=>cases(r);rfl
 |ref a|ty n=>cases(r);rfl
 |_=>obtain⟨t,e⟩:=(r);cases e;rfl
def NH(K:za)(C:xz)(f:Str):Prop:=qb K (.ref C) f=uQ uZ
structure O0 (K:za) (C:xz) (m:Str) (f:xz):Prop where
 at_:qb K (.ref C) m=uQ (uQ (.ref f))
 fn:PySem.W.isFn K (.ref f)=uJ
 kp:zh K (.ref f)=uJ
section
variable{X:Cx}{vG:List (xz×Obj)}{σ:St}{H:Hp}{s:x9}{a C dx:xz}{fs:List (Str×V)}{f:Str}{v:V}{A:xj}{E:xB->x9->Prop}
def nU{f:Str}(i:xE e f env (eval e env)=eval e env)
  (h:vW (xU prog w) A (eval e env) (λo d=>vW (xU prog w) A (getAttr o f uJ) Q E d) E s):vW (xU prog w) A (eval (.Attribute e f pos) env) Q E s:=
 Attribute_any_ h (by rw[arm_eval_Attribute,i])
end
structure TB (k:Nat) (A:xj):Prop where
 hd:A.handled=uZ
 dp:A.depth+3*k+5<recursionLimit
 un:A.units+16*k+200<cLine
def TB.mono(r:TB k A)(h:j<=k):TB j A:=⟨r.hd,by have:=r.dp;lia,by have:=r.un;lia⟩
def TB.deeper(r:TB (k+1) A)(env:Env):TB k (A.deeper env):=
 ⟨r.hd,by have:=r.dp;show A.depth+1+3*k+5<_;lia,by have:=r.un;show A.units+3+16*k+200<_;lia⟩
def nV{A:xj}{C:xz}{us:List xB}{d:List (Str×xB)}:(A.under (.builtin "type.__call__" ⟨.ref C::us,d⟩)).depth=A.depth+1:=by
 first|rfl|simp[Around.under,Code.weight,Code.isCreation,Code.isGuard,Code.isCaller,Code.frames,Code.isFrame,guardIds]
def nW{A:xj}{C:xz}{us:List xB}{d:List (Str×xB)}:(A.under (.builtin "type.__call__" ⟨.ref C::us,d⟩)).units=A.units+1:=by
 first|rfl|simp[Around.under,Code.cUnits,Code.frames,Code.isFrame]
def TB.make(r:TB (k+1) A)(C:xz)(us:List xB)(d:List (Str×xB)):TB k (A.under (.builtin "type.__call__" ⟨.ref C::us,d⟩)):=
 ⟨r.hd,by have:=r.dp;rw[nV];lia,by have:=r.un;rw[nW];lia⟩
def TB.depth(r:TB k A):A.depth<recursionLimit:=by have:=r.dp;lia
def TB.units(r:TB k A):A.units+64<cLine:=by have:=r.un;lia
noncomputable def Vp:TA:=λ_ H Q=>Q [] H
noncomputable def Tn(ta:TE)(tr:TA):TA:=λσ H Q=>ta σ H λx H1=>tr σ H1 λxs H2=>Q (x::xs) H2
section
variable{X:Cx}{e:xw}{es:List xw}{te:TE}{t:TA}{pos:Pos}
def aY:PA X [] Vp:=λ_ _ _ _ H Q I h=>Calls.spliced_nil ⟨[],H,I,.nil,h⟩
def R6(B:PE X e te)(y:PA X es t)(O:vX (e::es) X.env=(uX,eval e X.env)::vX es X.env:=by rfl):PA X (e::es) (Tn te t):=by intro i d s j H Q I h;rw[O];show vW _ _ (spliced ((uX,eval e X.env)::xF i (vX es X.env))) _ _ s;exact Calls.spliced_cons (ZA (B d s j H _ I h) λu S ⟨x,U,L,M,n⟩=>(ZA (y i d S j U _ L n) λW Y ⟨F,q,z,J,N⟩=>⟨x::F,q,z,.cons M J,N⟩))
def L1(t:TA):TE:=λσ H Q=>t σ H λxs H1=>xs.length<=sizeLine/\∀p,H1 p=uZ->Q (.ref p) (upd H1 p (.tup xs))
def M1(t:TA):TE:=λσ H Q=>t σ H λxs H1=>xs.length<=sizeLine/\∀p,H1 p=uZ->Q (.ref p) (upd H1 p (.lst xs))
def nX{x1}(h:PA X es t):PE X (.Tuple es x1 pos) (L1 t):=by intro d s F H Q I n;refine wpAny_Tuple_spliced (ZA (h pos d s F H _ I n) λB j ⟨y,J,i,r,z,q⟩=>⟨by rw[<-r.length];exact z,?_⟩);exact⟨.ref j.heap.objs.size,upd J j.heap.objs.size (.tup y),i.laid (λb u e=>zW _ e) (zY _) (⟨z,B,r,⟨_,z9 _ rfl,rfl,_,rfl⟩⟩),rfl,q _ (i.SA.fresh (zY _))⟩
def nY(h:PA X es t):PE X (.List es pos) (M1 t):=by intro d s F H Q I n;refine wpAny_List_spliced (ZA (h pos d s F H _ I n) λB j ⟨y,J,i,r,z,q⟩=>⟨by rw[<-r.length];exact z,?_⟩);exact⟨.ref j.heap.objs.size,upd J j.heap.objs.size (.lst y),i.laid (λb u e=>zW _ e) (zY _) ⟨z,B,0,r,z9 _ rfl⟩,rfl,q _ (i.SA.fresh (zY _))⟩
end
noncomputable abbrev Sp:=List V->Hp->VK->XK->Prop
noncomputable abbrev IL:=List Env->Hp->x9->XK->xB->x9->Prop
structure JL (P:x0) (w:xC) (K:za) (mg:Str->Option xB) (base:Heap) (A:xj) (outer:List Env) (s:x9) (H:Hp):Prop where
 frames:A.frames=uQ outer
 mod:Mod K mg base
 bs:∀b o,base.get? b=uQ o->s.heap.get? b=uQ o/\H b=uZ
 TM:base.objs.size<=s.heap.objs.size
 VE:s.heap.FunFrames base outer
 NO:∀b∈YC outer,H b=uZ
 SA:SE P w H s.heap
 bare:AllBare s.gens
def CE(outer:List Env)(P:x0)(w:xC)(H:Hp)(s:x9)(Q:VK)(u:xB)(s':x9):Prop:=
 ∃v H',s'.os=s.os/\AllBare s'.gens/\Un (YC outer) [] H H' s.heap s'.heap/\SE P w H' s'.heap/\RelV v u/\Q v H'
def CR(CX:IL)(outer:List Env)(P:x0)(w:xC)(H:Hp)(s:x9)(Q:VK)(E:XK)(r:Result)(s':x9):Prop:=
 match r with
 |.ok (.ret u)=>CE outer P w H s Q u s'
 |.ok _=>False
 |.error e=>CX outer H s E e s'
structure KC (P:x0) (w:xC) (K:za) (mg:Str->Option xB) (base:Heap) (CX:IL) (k:Nat) (f:xz) (fd:xk) (ps:List Str) (sp:Sp):Prop where
 len:∀vs H Q E,sp vs H Q E->vs.length=ps.length
 run:∀(A:xj)(outer:List Env)(s:x9)(H:Hp)(args:Args)(us:List xB)(vs:List V)(Q:VK)(E:XK),TB k A->JL P w K mg base A outer s H->BindsTo s fd args (ps.zip us)->Vals vs us->sp vs H Q E->
  codeAny (xU P w) A (.call (.ref f) args) (CR CX outer P w H s Q E) s
def JL.make{w:xC}{K:za}{i:Str->Option xB}{d:Heap}{A:xj}{outer:List Env}{H:Hp}(e:JL P w K i d A outer s H)(C:xz)(us:List xB)(j:List (Str×xB)):
  JL P w K i d (A.under (.builtin "type.__call__" ⟨.ref C::us,j⟩)) outer s H:=⟨by first|exact e.frames|(simpa[Around.under,Code.envs,Code.isFrame,pushEnvs]using e.frames),e.mod,e.bs,e.TM,e.VE,e.NO,e.SA,e.bare⟩
section
variable{X:Cx}{vG:List (xz×Obj)}{σ:St}{H:Hp}{s s':x9}
def Inv.WR(I:Inv X vG σ H s):JL X.prog X.w X.K X.mg X.base X.A X.stack s H:=
 ⟨I.ok.frames,I.ok.mod,I.bs,zy I.ok.TM I.sz,I.stack,I.Ys,I.SA,I.bare⟩
def Inv.after(I:Inv X vG σ H s)(h:CE X.stack X.prog X.w H s Q u s'):EP X vG σ Q u s':=by obtain⟨v,y,n,i,un,SA,r,q⟩:=h;obtain⟨B,g,d,t,j⟩:=s';obtain rfl:j=s.os:=n;exact⟨v,y,I.call un SA i (λb z=>absurd z (by simp)),r,q⟩
end
noncomputable def nZ(sp:Sp)(VM:List V)(E:XK)(t:TA):TE:=λσ H Q=>t σ H λvs H1=>sp (vs++VM) H1 Q E
def Binds(K:za)(fd:xk)(ps:List Str)(ds:List xB):Prop:=
 ∀(s:x9)(us:List xB),K.In s.heap->(us++ds).length=ps.length->BindsTo s fd ⟨us,[]⟩ (ps.zip (us++ds))
def Binds.all{K:za}{d:xk}{ps:List Str}(h:∀us:List xB,us.length=ps.length->bindArgs d ⟨us,[]⟩=pure (ps.zip us)):Binds K d ps []:=λs us _ i=>by rw[qY]at i⊢;exact .of_eq (h us i)
def Passes(CX:IL)(X:Cx)(E:XK):Prop:=∀(vG:List (xz×Obj))(σ:St)(H:Hp)(s:x9)(e:xB)(s':x9),Inv X vG σ H s->CX X.stack H s E e s'->X.xe e s'
section
variable{X:Cx}{CX:IL}{k:Nat}{f C:xz}{fd:xk}{ps:List Str}{sp:Sp}{VM:List V}{ds:List xB}{E:XK}{x m:Str}{p pos apos:Pos}{e o:xw}{es:List xw}{ta:TE}{t:TA}
theorem n4{i:St}{H:Hp}{Q:VK}{us:List xB}{vs:List V}(F:KC X.prog X.w X.K X.mg X.base CX k f fd ps sp)(n:TB k X.A)(B:Binds X.K fd ps ds)(y:Vals VM ds)(q:Passes CX X E)
  (I:Inv X vG i H s) (r:Vals vs us) (h:sp (vs++VM) H Q E):vW (xU X.prog X.w) X.A (call (.ref f) us) (EP X vG i Q) X.xe s:=by
 have j:=r.append y;have z:(us++ds).length=ps.length:=by rw[<-j.length];exact F.len _ _ _ _ h
 refine wpAny_call (xN (F.run X.A X.stack s H ⟨us,[]⟩ (us++ds) (vs++VM) Q E n I.WR (B s us I.RE z) j h) λr J d=>?_);cases r with
 |error e=>exact q vG i H s e J I d
 |ok fl=>
  cases fl with
  |ret u=>exact I.after d
  |_=>exact False.elim d
def aZ(F:KC X.prog X.w X.K X.mg X.base CX k f fd ps sp)(z:TB k X.A)(N:Gl X x)(y:X.mg x=uQ (.ref f))(hk:zh X.K (.ref f)=uJ)(O:Binds X.K fd ps ds)(L:Vals VM ds)(J:Passes CX X E)
  (B:PA X (e::es) t) (j:(x==("__debug__":Str))=uX:=by decide) (M:vX (e::es) X.env=(uX,eval e X.env)::vX es X.env:=by rfl) (i:(xF pos (vX es X.env)).any (·.1)=uX:=by rfl):
  PE X (.Call (.Name x p) (e::es) [] pos) (nZ sp VM E t):=by
 intro d s S H Q I h;refine vK (Mt I N y ?_ j);exact xi I.ok.mod.IU hk (ZA (B pos d s S H _ I h) λU Z ⟨Y,H1,n,r,q⟩=>⟨n.RE,n4 F z O L J n r q⟩) M i
end
def PK(X:Cx)(OV:List Keyword)(t:TA):Prop:=
 ∀(pos:Pos)(vG:List (xz×Obj))(s:x9)(σ:St)(H:Hp)(Q:List V->Hp->Prop),Inv X vG σ H s->t σ H Q->vW (xU X.prog X.w) X.A (evalAll ((xG pos (xR OV X.env)).map (·.2))) (AP X vG σ Q) X.xe s
section
variable{X:Cx}{CX:IL}{k:Nat}{f C:xz}{fd:xk}{ps ks:List Str}{sp:Sp}{E:XK}{x m:Str}{p pos apos N1:Pos}{e o:xw}{es:List xw}{OV:List Keyword}{te ta:TE}{t tk:TA}{nm:Option Str}
def n6:PK X [] Vp:=λ_ _ _ _ H Q I h=>wpAny_evalAll_nil ⟨[],H,I,.nil,h⟩
def n8(B:PE X e te)(y:PK X OV t):PK X (⟨nm,e,N1⟩::OV) (Tn te t):=by
 intro i d s j H Q I h
 show vW _ _ (evalAll ((do let v<-eval e X.env;standAt i;pure v)::(xG i (xR OV X.env)).map (·.2))) _ _ s
 exact wpAny_evalAll_cons (vY (ZA (B d s j H _ I h) λu O ⟨x,S,L,M,n⟩=>vY (wpAny_standAt (vB (ZA (y i d O j S _ L n) λU W ⟨F,q,z,J,N⟩=>⟨x::F,q,z,.cons M J,N⟩)))))
variable{g:List xB->List xB->List xB}{gV:List V->List V->List V}
end
structure MB (N P:List Str) (sc:x2):Prop where
 kind:sc.kind=.function
 co:sc.isCoroutine=uX
 gen:sc.isGenerator=uX
 nd:N.Nodup
 pre:N.take P.length=P
 par:∀x∈P,sc.names.lookup x=uQ .local\/sc.names.lookup x=uQ .cell
 XR:∀y∈sc.names,y.2≠ .free
theorem dJ{d:Str->Option xy}{x:Str}:∀{binds:List (Str×xB)}{m:Str->Option xB},(∀v,(x,v)∉binds)->bindL d binds m x=m x
 |[],_,_=>rfl
 | (n,v)::r,m,h=>by
  unfold bindL;rw[dJ λw hw=>h w (zQ _ hw)];split
  .have:x≠n:=by rintro rfl;exact h v z8
   simp[this]
  rfl
theorem dM{d:Str->Option xy}{x:Str}:∀{binds:List (Str×xB)}{m:Str->Option xB},(∀v,(x,v)∉binds)->bindC d binds m x=m x
 |[],_,_=>rfl
 |(n,v)::r,m,h=>by
  unfold bindC;rw[dM λw hw=>h w (zQ _ hw)];split
  .rfl
  have:x≠n:=by rintro rfl;exact h v z8
  simp[this]
theorem dN{d:Str->Option xy}{x:Str}{v:xB}:∀{P:List Str}{vs:List xB}{i:Nat}{m:Str->Option xB},P.Nodup->P[i]?=uQ x->vs[i]?=uQ v->d x=uQ .local->
  bindL d (P.zip vs) m x=uQ v
 |[],_,_,_,_,h,_,_|_::_,[],_,_,_,_,h,_=>by simp at h
 |p::P,w::vs,0,m,q,j,n,hk=>by simp at j n;subst j;subst n;show bindL d ((p,w)::P.zip vs) m p=_;unfold bindL;rw[dJ λv y=>(jO.mp q).1 (List.of_mem_zip y).1,if_pos hk];simp
 |p::P,w::vs,i+1,m,q,j,n,hk=>by unfold bindL;exact dN (jO.mp q).2 (by simpa using j) (by simpa using n) hk
theorem dO{d:Str->Option xy}{x:Str}{v:xB}:∀{P:List Str}{vs:List xB}{i:Nat}{m:Str->Option xB},P.Nodup->P[i]?=uQ x->vs[i]?=uQ v->d x≠uQ .local->
  bindC d (P.zip vs) m x=uQ v
 |[],_,_,_,_,h,_,_|_::_,[],_,_,_,_,h,_=>by simp at h
 |p::P,w::vs,0,m,q,j,n,hk=>by simp at j n;subst j;subst n;show bindC d ((p,w)::P.zip vs) m p=_;unfold bindC;rw[dM λv y=>(jO.mp q).1 (List.of_mem_zip y).1,if_neg hk];simp
 |p::P,w::vs,i+1,m,q,j,n,hk=>by unfold bindC;exact dO (jO.mp q).2 (by simpa using j) (by simpa using n) hk
noncomputable def start(N:List Str)(vs:List V):St:=vs.map uQ++qQ (N.length-vs.length) uZ
noncomputable def Ib(CX:IL)(P:x0)(w:xC)(K:za)(mg:Str->Option xB)(base:Heap)(N:List Str)(qual:Str)(scope:x2)(f:xz)(cd:xB)(A:xj)(outer:List Env)(s:x9)(H:Hp)(E:XK):Cx where
 prog:=P
 w:=w
 K:=K
 mg:=mg
 base:=base
 A:=A.deeper (envOfC qual scope s.heap.objs.size f cd)
 N:=N
 s₀:=s
 H₀:=H
 env:=envOfC qual scope s.heap.objs.size f cd
 outer:=outer
 stack:=envOfC qual scope s.heap.objs.size f cd::outer
 ex:=[]
 calm:=uJ
 fn:=λ_=>uJ
 pn:=[]
 xe:=λe s'=>vW (xU P w) (A.deeper (envOfC qual scope s.heap.objs.size f cd)) (leaving (envOfC qual scope s.heap.objs.size f cd) e) (λ_ OP=>CX outer H s E e OP) (λe' OP=>CX outer H s E e' OP) s'
def dP{d:x2}{n:Nat}{x:Str}(h:d.names.lookup x=uQ .cell):∃c,(cellsFrom n d.names []).lookup x=uQ c:=by exact Option.isSome_iff_exists.mp (vc d.names n [] (.inl h))
def n9{CX:IL}{w:xC}{K:za}{M:Str->Option xB}{n:Heap}{N ps:List Str}{qual:Str}{d:x2}{f:xz}{cd:xB}{A:xj}{outer:List Env}{s1:x9}{H:Hp}{E:XK}{us:List xB}{vs:List V}
  (S:MB N ps d) (Z:A.handled=uZ) (B:JL P w K M n A outer s H) (hl:vs.length=ps.length) (r:Vals vs us)
  (x:InCallC s s.heap.objs.size (bindL (envOfC qual d s.heap.objs.size f cd).kindOf (ps.zip us) λ_=>uZ) (cellsFrom (s.heap.objs.size+1) d.names []) (bindC (envOfC qual d s.heap.objs.size f cd).kindOf (ps.zip us) λ_=>uZ) s1):
  Inv (Ib CX P w K M n N qual d f cd A outer s H E) [] (start N vs) H s1:=by
 have U:ps.length<=N.length:=by have:=congrArg zU S.pre;rw[qH]at this;lia
 obtain⟨L,tk,rfl,hk⟩:=x.done
 have OR:∀b:xz,b∉(Ib CX P w K M n N qual d f cd A outer s H E).ex:=λb z=>absurd (show b∈([]:List xz)from z) (by simp)
 refine⟨⟨B.mod,S.kind,rfl,rfl,zY _,λy z c L j=>?_,λy F=>?_,λy c _ h=>?_,λ_=>Z,Around.frames_deeper B.frames,.inr ⟨rfl,rfl⟩,λb z=>absurd z (OR b),B.bs,B.TM,λb _ _=>OR b,λb z=>absurd z (OR b),B.VE,B.NO⟩,
  rfl,B.bare,Un.kept hk,⟨_,x.toInCall.ns,λi y v L j h3=>?_⟩,λy c h=>⟨_,x.cell y c h⟩,B.SA.fresh (zY _),λy c h=>?_,λp hp=>absurd (show p∈([]:List (xz×Obj))from hp) (by simp),B.SA.kept hk,?_⟩
 .exact name_of_addr x.apart (ze L) (ze j)
 .have F:=F;rcases F with F|F
  .exact dP F
  exact absurd rfl (S.XR _ (ze F))
 .exact qE (x.above y c (ze h))
 .have J:i<vs.length:=by
   unfold start at j;by_cases J:i<vs.length
   .exact J
   rw[zL (by simpa using J)]at j;rw[qR]at j
   split at j<;>cases j
  have Y:vs[i]?=uQ v:=by
   unfold start at j;rw[zN (by simpa using J),zD]at j;cases e:vs[i]? with
   |none=>rw[e]at j;cases j
   |some a=>rw[e]at j;cases j;rfl
  obtain⟨u,O,rv⟩:=r.get Y;have hp:ps[i]?=uQ y:=by rw[<-S.pre,jY (by lia)];exact L
  have I:ps.Nodup:=by rw[<-S.pre];exact S.nd.sublist (List.take_sublist _ _)
  refine⟨u,rv,?_⟩;rcases S.par y (qO hp)with k|k
  .exact .inl ⟨k,dN I hp O k⟩
  obtain⟨c,e⟩:=dP k;refine .inr ⟨.inl k,c,e,?_⟩;have q:=x.cell y c e;rw[dO I hp O (by show d.names.lookup y≠_;rw[k];decide)]at q;exact q
 .exact B.SA.fresh (qE (x.above y c (ze h)))
 unfold start;show _=N.length;rw[zC,zV,jB];lia
theorem dQ{CX:IL}{w:xC}{K:za}{mg:Str->Option xB}{i:Heap}{k:Nat}{f:xz}{name qual:Str}{j:Arguments}{body:List xA}{d:x2}{dV kV U pm z ct oc:xB}{an od:Option xz}
  {T1:Array (Option xB)} {N ps:List Str} {sp:Sp} (lk:K.lookup f=uQ ⟨oc,od,.func (jc name qual j body d dV kV U pm an z ct),T1⟩) (PY:vd K z qual=uJ) (S:MB N ps d)
  (len:∀vs H Q E,sp vs H Q E->vs.length=ps.length)
  (F:∀(A:xj)(outer:List Env)(s:x9)(H:Hp)(vs:List V)(Q:VK)(E:XK),TB k (A.deeper (envOfC qual d s.heap.objs.size f z))->sp vs H Q E->
   ∃t,KJ (Ib CX P w K mg i N qual d f z A outer s H E) body t/\t {nx:=λ_ H'=>Q .UA H',rt:=Q} (start N vs) H):
  KC P w K mg i CX (k+1) f (jc name qual j body d dV kV U pm an z ct) ps sp:=by
 refine⟨len,λA outer s H args us vs Q E Z L hb r O=>?_⟩;have hl:=len _ _ _ _ O;have KX:=L.mod.IU.keeps λb o e=>(L.bs b o e).1
 have I:∀y∈ps.zip us,d.names.lookup y.1=uQ .local\/(d.names.lookup y.1=uQ .cell/\((cellsFrom (s.heap.objs.size+1) d.names []).lookup y.1).isSome=uJ):=λ⟨n,v⟩ hy=>by
  rcases S.par n (List.of_mem_zip hy).1 with q|q
  .exact .inl q
  exact .inr ⟨q,vc _ _ _ (.inl q)⟩
 refine codeAny_call_function Z.depth (KX _ _ lk) rfl S.co S.gen rfl (PySem.W.codeRec_of KX PY) (hb _ _ _ _ ?_);refine wpAny_newFunctionEnv_cells S.kind I λenv he s1 x=>?_
 subst he;refine⟨(L.mod.nolimit.keeps λb o e=>(L.bs b o e).1).keeps x.toInCall.keep,codeAny_func ?_⟩;obtain⟨t,ht,hq⟩:=F A outer s H vs Q E (Z.deeper _) O;refine vv (ht [] s1 (start N vs) H _ (n9 S Z.hd L hl r x) hq) (λfl s' Y=>?_) λe s' Y=>Y
 have M:∀{B:St}{H':Hp}{v:V}{u:xB},Inv (Ib CX P w K mg i N qual d f z A outer s H E) [] B H' s'->RelV v u->Q v H'->CE outer P w H s Q u s':=
  λ{B H' v u}J rv q=>⟨v,H',J.os,J.bare,J.base,J.SA,rv,q⟩
 cases fl with
 |ret u=>
  obtain⟨v,B,H',J,rv,q⟩:=Y;exact M J rv q
 |next=>
  obtain⟨B,H',J,q⟩:=Y;exact M (v:=V.UA) J rfl q
 |_=>
  obtain⟨_,_,_,q⟩:=Y;exact False.elim q
section
variable{X:Cx}{x:Str}{p pos:Pos}{e:xw}{es:List xw}{t:TA}{id T:String}{r:List V->Hp->VK->Prop}
noncomputable def X'(r:List V->Hp->VK->Prop)(t:TA):TE:=λσ H Q=>t σ H λvs H1=>r vs H1 Q
def dR(Y:YA X (.builtin id) r)(N:Gl X x)(y:X.mg x=uZ)(U:xL x=uQ (.builtin id))(B:PA X (e::es) t)(z:x≠"__name__":=by decide)(j:(x==("__debug__":Str))=uX:=by decide)
  (L:vX (e::es) X.env=(uX,eval e X.env)::vX es X.env:=by rfl) (i:(xF pos (vX es X.env)).any (·.1)=uX:=by rfl):PE X (.Call (.Name x p) (e::es) [] pos) (X' r t):=by
 intro d s n H Q I h;exact vK (Qx I N y U (ve (ZA (B pos d s n H _ I h) λJ W ⟨M,F,O,S,q⟩=>Y d W n F M J Q O S q) L i) z j)
def na(Y:YA X (.type T) r)(N:Gl X x)(y:X.mg x=uZ)(U:xL x=uQ (.type T))(B:PA X (e::es) t)(z:x≠"__name__":=by decide)(j:(x==("__debug__":Str))=uX:=by decide)
  (L:vX (e::es) X.env=(uX,eval e X.env)::vX es X.env:=by rfl) (i:(xF pos (vX es X.env)).any (·.1)=uX:=by rfl):PE X (.Call (.Name x p) (e::es) [] pos) (X' r t):=by
 intro d s n H Q I h;exact vK (Qx I N y U (vb (ZA (B pos d s n H _ I h) λJ W ⟨M,F,O,S,q⟩=>Y d W n F M J Q O S q) L i) z j)
end
end _L
namespace HT
open PySem PyProof.Rows
section
variable{prog:x0}{w:xC}{A:xj}{E:xB->x9->Prop}{s:x9}
def nc(Y:IsTup s.heap t vs.toArray)(hb:IsTup s.heap b ws.toArray)(S:vs≠[])
  (Z:ws=[]->Q (.ref t) s) (h2:ws≠[]->Q (.ref s.heap.objs.size) {s with heap:=s.heap.push {cls:=.type "tuple",data:=.seq (vs++ws).toArray}})
  (LK:vs.length+ws.length<=sizeLine):vW (xU prog w) A (xI .Add (.ref t) (.ref b)) Q E s:=by
 obtain⟨⟨I,O,z,M⟩,B,U,n,L⟩:=id Y;obtain⟨⟨W,y,J,j⟩,i,YR,N,q⟩:=id hb;simp only at U L YR q;subst U L YR q;have e:vs.toArray++ws.toArray=(vs++ws).toArray:=by simp
 by_cases hw:ws=[]
 .exact concat_meets ⟨_,B,rfl⟩ ⟨_,i,rfl⟩ noFill_tuple_add seq_tuple_add vH vI (vL _ _)
   (tuple_addW1 t b vs.toArray ws.toArray n N O y M j (by simpa using S) (by simp[hw])) ⟨B,i,Z hw⟩
 refine concat_meets ⟨_,B,rfl⟩ ⟨_,i,rfl⟩ noFill_tuple_add seq_tuple_add vH vI (vL _ _)
  (tuple_addW2 t b vs.toArray ws.toArray n N O y M j (by simpa using S) (by simpa using hw) (by rw[zj,zj];exact LK)) ⟨B,i,?_⟩
 rw[e];exact h2 hw
noncomputable def NB(n d:Nat):Option Int->Nat
 |none=>d
 |some v=>if v<0 then(v+(n:Int)).toNat else min v.toNat n
theorem ng(n d:Nat)(j:d<=n)(o:Option Int):NB n d o<=n:=by
 cases o with
 |none=>exact j
 |some v=>
  show(if v<0 then(v+(n:Int)).toNat else min v.toNat n)<=n;by_cases i:v<0
  .rw[if_pos i];lia
  rw[if_neg i];exact Nat.min_le_right _ _
def dS(v:Int)(n d:Nat):(if v<0 then max (v+(n:Int)) 0 else min v (n:Int))=((NB n d (uQ v):Nat):Int):=by
 show(if v<0 then max (v+(n:Int)) 0 else min v (n:Int))=(((if v<0 then(v+(n:Int)).toNat else min v.toNat n):Nat):Int);by_cases i:v<0
 .simp only[if_pos i];lia
 simp[if_neg i];lia
theorem nh(lo hi:Option Int)(n:Nat):Builtin.Slice.sliceAdjust lo hi 1 (n:Int)=(((NB n 0 lo:Nat):Int),((NB n n hi:Nat):Int)):=by
 have d:¬((1:Int)<0):=by lia
 unfold Builtin.Slice.sliceAdjust;simp only[d,if_false];refine Prod.ext ?_ ?_
 .cases lo with
  |none=>rfl
  |some v=>exact dS v n 0
 cases hi with
 |none=>rfl
 |some v=>exact dS v n n
def nj(i j:Nat):Builtin.Slice.slicePlaces (i:Int) (j:Int) 1=j-i:=by
 unfold Builtin.Slice.slicePlaces;have d:(1:Int)>0:=by lia
 simp[d,if_true,Int.ediv_one]
 split <;> lia
theorem dU(p:IsPart v o)(h:Q o s):vW (xU prog w) A (Builtin.Slice.slicePartIndex v) Q E s:=by
 cases p with
 |none=>exact slicePart_none h
 |int i t=>exact slicePart_int h
def dW{y:xz}{q j:xB}{lo hi:Option Int}{n:Nat}{Q:Int×Int×Nat->x9->Prop}(B:s.heap.IsSliceOf y q j .none)(pl:IsPart q lo)(z:IsPart j hi)
  (h:Q (((NB n 0 lo:Nat):Int),1,NB n n hi-NB n 0 lo) s):vW (xU prog w) A (Builtin.Slice.sliceApplied (.ref y) (pure (n:Int))) Q E s:=by
 obtain⟨F,d,NC,i⟩:=id B;unfold Builtin.Slice.sliceApplied Builtin.Slice.sliceFields;refine vY (vY (vj d i (x:=q) rfl (vY (vj d i (x:=j) rfl (vY (vj d i rfl (vB ?_)))))));refine vY (slicePart_none ?_);rw[if_neg (by decide)];refine vY (dU pl (vY (dU z (vY (vB ?_)))))
 show vW _ _ (match Builtin.Slice.sliceAdjust lo hi 1 (n:Int)with |(lo,hi)=>pure (lo,(1:Int),Builtin.Slice.slicePlaces lo hi 1)) _ _ s
 rw[nh lo hi n];show vW _ _ (pure (((NB n 0 lo:Nat):Int),(1:Int),Builtin.Slice.slicePlaces ((NB n 0 lo:Nat):Int) ((NB n n hi:Nat):Int) 1)) _ _ s;rw[nj];exact vB h
def nq(xs:Array xB)(i k:Nat):((zE k).filterMap λ(m:Nat)=>xs[((i:Int)+(m:Int)*1).toNat]?).toArray=((xs.toList.drop i).take k).toArray:=by
 have e:(λ(m:Nat)=>xs[((i:Int)+(m:Int)*1).toNat]?)=λm=>xs[i+m]? :=by
  funext m;have:((i:Int)+(m:Int)*1).toNat=i+m:=by lia
  rw[this]
 rw[e];have:=pick_run xs i k;rw[j3]at this;have d:((λx=>xs[x]?) ∘ λx=>i+x)=λm=>xs[i+m]? :=rfl
 rw[d]at this;rw[this]
def nv{t sl:xz}{items:Array xB}{vl vu:xB}{lo hi:Option Int}{Q:xB->x9->Prop}(ht:IsTup s.heap t items)(hs:s.heap.IsSliceOf sl vl vu .none)(pl:IsPart vl lo)(pu:IsPart vu hi)
  (hw:¬(NB items.size 0 lo=0/\NB items.size items.size hi=items.size))
  (h:Q (.ref s.heap.objs.size) {s with heap:=s.heap.push {cls:=.type "tuple",data:=.seq ((items.toList.drop (NB items.size 0 lo)).take (NB items.size items.size hi-NB items.size 0 lo)).toArray}})
  (LK:items.size<=sizeLine):vW (xU prog w) A (getItem (.ref t) (.ref sl)) Q E s:=by
 have MK:sizeOk (.seq ((items.toList.drop (NB items.size 0 lo)).take (NB items.size items.size hi-NB items.size 0 lo)).toArray):=by show((items.toList.drop (NB items.size 0 lo)).take (NB items.size items.size hi-NB items.size 0 lo)).toArray.size<=sizeLine;rw[zj,qH,qN,qL];lia
 obtain⟨os,hos,NC,hds⟩:=id hs;unfold getItem
 try with_reducible refine vx ?_
 first|refine vY (vB ?_)|skip
 refine vY (wpAny_sequenceKey ht.typeIs (by decide) ?_);refine vY (vq ht.typeIs jd
  (vz jd ht.typeIs entry_tuple_getitem ?_ (args_tuple_getitem _ _)))
 show vW _ _ (Builtin.Tuple.tupleItemsOf (.ref t) >>=_) _ _ s;refine vY (tupleItemsOf_ ht ?_);refine vY (wpAny_typeOf ⟨os,hos,NC⟩ ?_);rw[if_pos (by decide)];refine vY (dW hs pl pu ?_);have hno:¬((((NB items.size 0 lo:Nat):Int)==0&&(1:Int)==1&&(NB items.size items.size hi-NB items.size 0 lo)==items.size)=uJ):=by intro q;rw[zq,zq]at q;have q1:=eq_of_beq q.1.1;have q2:=eq_of_beq q.2;exact hw ⟨by lia,by lia⟩
 show vW _ _ (if(((NB items.size 0 lo:Nat):Int)==0&&(1:Int)==1&&(NB items.size items.size hi-NB items.size 0 lo)==items.size)=uJ then _ else _) _ _ s;rw[if_neg hno,nq]
 first
  |exact vY (vy (vB ⟨_,rfl,vB h⟩) MK)
  |exact vY (vy (vY (vB (vB ⟨_,rfl,vB h⟩))) MK)
  |exact vY (vY (vy (vB (vB ⟨_,rfl,vB h⟩)) MK))
  |exact vY (vY (vy (vB ⟨_,rfl,vB h⟩) MK))
end
end HT
namespace _L
open PySem PySem.Spec PyProof.Rows
variable{vG:List (xz×Obj)}{s:x9}
noncomputable abbrev TO:=St->Hp->(Option Int->Hp->Prop)->Prop
def PO(X:Cx)(e:Option xw)(t:TO):Prop:=
 ∀(vG:List (xz×Obj))(s:x9)(σ:St)(H:Hp)(Q:Option Int->Hp->Prop),Inv X vG σ H s->t σ H Q->
  vW (xU X.prog X.w) X.A (evalPart e X.env) (λu s'=>∃o H',Inv X vG σ H' s'/\IsPart u o/\Q o H') X.xe s
noncomputable def nw:TO:=λ_ H Q=>Q uZ H
noncomputable def ny(t:TE):TO:=λσ H Q=>t σ H λx H1=>∃i,x=.int i/\Q (uQ i) H1
section
variable{X:Cx}{e:xw}{te:TE}{lo hi:Option xw}{tl th:TO}{pos p2:Pos}
def oB:PO X uZ nw:=by intro d s i H Q I h;rw[evalPart_none];exact vB ⟨uZ,H,I,.none,h⟩
def oC(h:PE X e te):PO X (uQ e) (ny te):=by
 intro d s B H Q I hw;rw[evalPart_some];refine ZA (h d s B H _ I hw) λu J n=>?_
 obtain⟨x,F,y,z,j⟩:=n;obtain⟨i,rfl,q⟩:=j;obtain⟨t,rfl⟩:=z;exact⟨uQ i,F,y,.int i t,q⟩
def QP(X:Cx)(r:V->Option Int->Option Int->Hp->VK->Prop):Prop:=
 ∀(vG:List (xz×Obj))(s:x9)(σ:St)(H:Hp)(x:V)(v vl vu:xB)(lo hi:Option Int)(sl:xz)(Q:VK),Inv X vG σ H s->RelV x v->s.heap.IsSliceOf sl vl vu .none->IsPart vl lo->IsPart vu hi->r x lo hi H Q->
  ∃T id,typeLookup (.type T) "__getitem__"=pure (uQ (.builtin id))/\s.TypeIs v T/\vW (xU X.prog X.w) X.A (getItem v (.ref sl)) (EP X vG σ Q) X.xe s
def QP.or(h:QP X r)(h':QP X r'):QP X (λx lo hi H Q=>r x lo hi H Q\/r' x lo hi H Q):=by
 intro d s y H x v j F lo hi i Q I n B pl z q;rcases q with q|q
 .exact h d s y H x v j F lo hi i Q I n B pl z q
 exact h' d s y H x v j F lo hi i Q I n B pl z q
noncomputable def tSl(r:V->Option Int->Option Int->Hp->VK->Prop)(te:TE)(tl th:TO):TE:=λσ H Q=>te σ H λx H1=>tl σ H1 λl H2=>th σ H2 λu H3=>r x l u H3 Q
def oF(J:QP X r)(he:PE X e te)(hl:PO X lo tl)(hu:PO X hi th):PE X (.Subscript e (.Slice lo hi uZ p2) pos) (tSl r te tl th):=by
 intro d s j H Q I h;refine Subscript_ (ZA (he d s j H _ I h) λv W y=>?_);obtain⟨x,H1,I1,S,q1⟩:=y;refine wpAny_Slice (ZA (hl d W j H1 _ I1 q1) λB U ⟨l,H2,L,pl,q2⟩=>ZA (hu d U j H2 _ L q2) λz n y=>?_);obtain⟨u,N,I3,pu,M⟩:=y;rw[evalPart_none];refine vB ?_;obtain⟨T,id,Y,O,hg⟩:=J d {n with heap:=n.heap.push {cls:=.type "slice",data:=.fields #[B,z,.none]}} j N x v B z l u n.heap.objs.size Q (I3.kept (t':=n.toks) λb ob q=>zW _ q) S (Heap.IsSliceOf.new ..) pl pu M
 exact tail_any O Y hg (by with_unfolding_all rfl)
def Om(xs:List V)(lo hi:Option Int):List V:=(xs.drop (HT.NB xs.length 0 lo)).take (HT.NB xs.length xs.length hi-HT.NB xs.length 0 lo)
def dX(xs:List V)(lo hi:Option Int):(Om xs lo hi).length<=xs.length:=by unfold Om;rw[qH,qN];lia
def U1(K:za):V->Option Int->Option Int->Hp->VK->Prop:=λx lo hi H Q=>∃a xs,x=.ref a/\JE K H a xs/\
 ¬(HT.NB xs.length 0 lo=0/\HT.NB xs.length xs.length hi=xs.length)/\∀p,H p=uZ->Q (.ref p) (upd H p (.tup (Om xs lo hi)))
def oH:QP X (U1 X.K):=by
 intro z s W H x v S Y n y O Q I L N pl M h;obtain⟨a,i,rfl,J,hw,q⟩:=h;cases L;obtain⟨j,r,F,B⟩:=I.tuple J;have d:j.toArray.size=i.length:=zj▸r.length.symm;refine⟨"tuple",_,PyProof.Rows.slot_tuple_getitem.lookup,F.typeIs,?_⟩;refine HT.nv F N pl M (d▸hw) ?_ (d▸B);rw[d];refine⟨.ref s.heap.objs.size,_,I.laid (λb U q=>zW _ q) (zY _) ?_,rfl,q _ (I.SA.fresh (zY _))⟩
 exact⟨zy (dX i n y) B,_,(r.drop (HT.NB i.length 0 n)).take (HT.NB i.length i.length y-HT.NB i.length 0 n),IsTup.new _ _⟩
def oJ(K:za):R2:=λx y H Q=>∃a b xs ys,x=.ref a/\y=.ref b/\JE K H a xs/\JE K H b ys/\xs≠[]/\xs.length+ys.length<=sizeLine/\
 (ys=[]->Q (.ref a) H)/\(ys≠[]->∀p,H p=uZ->Q (.ref p) (upd H p (.tup (xs++ys))))
theorem Vals.aa(r:Vals xs us):us=[]↔xs=[]:=by
 cases r with
 |_=>simp
def oK:VB X (xI .Add) (oJ X.K):=by
 intro n s Z H x y v u Q I W O h;obtain⟨a,b,xs,ys,rfl,rfl,F,S,N,j,Y,U⟩:=h;cases W;cases O;obtain⟨J,i,M,_⟩:=I.tuple F;obtain⟨B,d,L,_⟩:=I.tuple S;refine HT.nc M L (λz=>N (i.aa.mp z)) (λz=>⟨.ref a,H,I,rfl,Y (d.aa.mp z)⟩) (λz=>?_) (by rw[<-i.length,<-d.length];exact j);refine⟨.ref s.heap.objs.size,_,I.laid (λb ob q=>zW _ q) (zY _) ?_,rfl,U (λw=>z (d.aa.mpr w)) _ (I.SA.fresh (zY _))⟩
 exact⟨zC▸j,_,i.append d,IsTup.new _ _⟩
end
noncomputable def QJ(n:Nat)(i:Int):Option Nat:=if 0<=i then(if i<n then uQ i.toNat else uZ)else if -(n:Int)<=i then uQ (i+n).toNat else uZ
def LB{α:Type}(xs:List α)(i:Int):Option α:=(QJ xs.length i).bind λj=>xs[j]?
def dY(h:QJ n i=uQ j):seqIndex? i n=uQ j/\j<n/\ -(n:Int)<=i/\i<n:=by
 unfold QJ at h;by_cases q:0<=i
 .rw[if_pos q]at h;by_cases d:i<n
  .rw[if_pos d]at h;have e:=xv h;exact⟨by rw[seqIndex_of q d,e],by lia,by lia,d⟩
  rw[if_neg d]at h;cases h
 rw[if_neg q]at h;by_cases d: -(n:Int)<=i
 .rw[if_pos d]at h;have e:=xv h;exact⟨by rw[seqIndex_neg (by lia) d,e],by lia,d,by lia⟩
 rw[if_neg d]at h;cases h
theorem Zk{d:Type}{xs:List d}{i:Int}{v:d}(h:LB xs i=uQ v):∃j,seqIndex? i xs.length=uQ j/\xs[j]?=uQ v/\j<xs.length/\ -(xs.length:Int)<=i/\i<xs.length:=by
 unfold LB at h;cases e:QJ xs.length i with
 |none=>rw[e]at h;cases h
 |some j=>
  rw[e]at h;obtain⟨y,z,n,q⟩:=dY e;exact⟨j,y,h,z,n,q⟩
def NK(b:xw):Prop:=∀o i,subscripted b uX o i=operate [o,i] (getItem o i)
def RJ(X:Cx)(r:R2):Prop:=
 ∀(value slice:xw)(vG:List (xz×Obj))(s:x9)(σ:St)(H:Hp)(x y:V)(v u:xB)(Q:VK),Inv X vG σ H s->RelV x v->RelV y u->r x y H Q->
  subscripted slice uX v u=operate [v,u] (getItem v u)->vW (xU X.prog X.w) X.A (subscriptTail value slice v u) (EP X vG σ Q) X.xe s
def Y'(X:Cx)(id:String)(r:V->List V->Hp->VK->Prop):Prop:=
 ∀(vG:List (xz×Obj))(s:x9)(σ:St)(H:Hp)(x:V)(xs:List V)(v:xB)(us:List xB)(Q:VK),Inv X vG σ H s->RelV x v->Vals xs us->r x xs H Q->
  vW (xU X.prog X.w) X.A (call (.builtin id) (v::us)) (EP X vG σ Q) X.xe s
section
variable{X:Cx}{a b:xw}{ta tb:TE}{pos:Pos}
def RJ.or(h:RJ X r)(h':RJ X r'):RJ X (λx y H Q=>r x y H Q\/r' x y H Q):=by
 intro d i j s B H x y v u Q I z n q F;rcases q with q|q
 .exact h d i j s B H x y v u Q I z n q F
 exact h' d i j s B H x y v u Q I z n q F
def oN(j:RJ X r)(z:PE X a ta)(F:PE X b tb)(N:NK b):PE X (.Subscript a b pos) (MV r ta tb):=by intro d s L H Q I h;exact Subscript_ (Zf z F I h λv u M x y i n J B q=>j a b d M L i x y v u Q n J B q (N _ _))
def PV(K:za):R2:=λx y H Q=>∃p xs i v,x=.ref p/\y=.int i/\IE K H p xs/\LB xs i=uQ v/\Q v H
def QV(K:za):R2:=λx y H Q=>∃p xs i v,x=.ref p/\y=.int i/\JE K H p xs/\LB xs i=uQ v/\Q v H
def RV:R2:=λx y H Q=>∃z i c,x=.str z/\y=.int i/\z.length<=sizeLine/\LB z.cps.toList i=uQ c/\Q (.str ⟨#[c]⟩) H
def oO:RJ X (PV X.K):=by
 intro value slice vG s σ H x y v u Q I rx ry h hs;obtain⟨p,xs,i,z,rfl,rfl,hq,he,q⟩:=h;cases rx;obtain⟨t,rfl⟩:=ry;obtain⟨LA,r,pl,hz⟩:=I.list hq;obtain⟨j,h1,h2,h3,h4,h5⟩:=Zk he;obtain⟨w,ew,KL⟩:=r.get h2;have hl:=r.length;have hn:=QF;have fin:EP X vG σ Q w s:=⟨z,H,I,KL,q⟩;by_cases h0:0<=i
 .have hj:i.toNat=j:=by rw[seqIndex_of h0 h5]at h1;exact xv h1
  exact item_listR pl.isList h0 (by lia) (by rw[hj];simpa using ew) fin hs
 have hj:(i+(LA.toArray.size:Int)).toNat=j:=by rw[seqIndex_neg (by lia) h4]at h1;rw[zj,<-hl];exact xv h1
 exact subscriptTail_builtinR pl.isList.typeIs slot_list_getitem.lookup
  (wpAny_getItem_list_neg pl.isList (by lia) (by rw[zj]<;>lia) (by lia) (by rw[hj];simpa using ew) ⟨rfl,fin⟩) hs
def oQ:RJ X (QV X.K):=by
 intro value slice vG s σ H x y v u Q I rx ry h hs;obtain⟨p,xs,i,z,rfl,rfl,hq,he,q⟩:=h;cases rx;obtain⟨t,rfl⟩:=ry;obtain⟨LA,r,pl,hz⟩:=I.tuple hq;obtain⟨j,h1,h2,h3,h4,h5⟩:=Zk he;obtain⟨w,ew,KL⟩:=r.get h2;have hn:=QF;exact subscriptTail_builtinR pl.typeIs slot_tuple_getitem.lookup
  (getItem_tuple pl (by lia) (by lia) (by rw[zj,<-r.length];exact h1) (by simpa using ew) ⟨rfl,⟨z,H,I,KL,q⟩⟩) hs
def oU:RJ X RV:=by
 intro value slice vG s σ H x y v u Q I rx ry h hs;obtain⟨z,i,c,rfl,rfl,hz,he,q⟩:=h;obtain⟨t,rfl⟩:=rx;obtain⟨t',rfl⟩:=ry;obtain⟨j,h1,h2,h3,h4,h5⟩:=Zk he;have hl:z.cps.toList.length=z.length:=by simp[Str.length]
 rw[hl]at h1 h4 h5;have hn:=QF;exact tail_any (typeIs_str s z t) slot_str_getitem.lookup (getItem_str (by rw[decide_eq_false (by lia),decide_eq_false (by lia),Bool.or_false]) (by rw[h1];simpa using h2) ⟨.str ⟨#[c]⟩,H,I.tok _,⟨_,rfl⟩,q⟩) hs
def Y1(K:za):R2:=λx y H Q=>PV K x y H Q\/QV K x y H Q\/RV x y H Q
def oV:RJ X (Y1 X.K):=oO.or (oQ.or oU)
def oW(LA:List xB)(n j:Nat)(u:xB):Obj.mapSeq (·.setIfInBounds j u) {cls:=.type "list",data:=.seq LA.toArray n}={cls:=.type "list",data:=.seq (LA.set j u).toArray n}:=by simp[Obj.mapSeq]
def Inv.lst{d:St}{H:Hp}{p:xz}{xs:List V}(I:Inv X vG d H s)(h:H p=uQ (.lst xs)):
  ∃(LA:List xB)(n:Nat),Vals xs LA/\s.heap.get? p=uQ {cls:=.type "list",data:=.seq LA.toArray n}/\xs.length<=sizeLine:=by
 obtain⟨z,LA,n,r,e⟩:=I.SA p _ h;exact⟨LA,n,r,e,z⟩
def Inv.oY{z:St}{H:Hp}{p:xz}{xs ys:List V}{LA KI:List xB}{n i:Nat}{f:Obj->Obj}(I:Inv X vG z H s)(h:H p=uQ (.lst xs))
  (ho:s.heap.get? p=uQ {cls:=.type "list",data:=.seq LA.toArray n}) (j:f {cls:=.type "list",data:=.seq LA.toArray n}={cls:=.type "list",data:=.seq KI.toArray i}) (r:Vals ys KI) (hz:ys.length<=sizeLine) (t:Nat):
  Inv X vG z (upd H p (.lst ys)) {s with heap:=s.heap.update p f,toks:=t}:=by
 have e:(s.heap.update p f).get? p=uQ {cls:=.type "list",data:=.seq KI.toArray i}:=by rw[qz f ho (by rw[j]<;>rfl),j]
 exact I.write (by rw[h];trivial) (.inl rfl) (λb u B q=>(qq _ _ (Ne.symm B)).trans q) ⟨_,e⟩ ⟨hz,KI,i,r,e⟩
def oZ:V->V->V->Hp->(Hp->Prop)->Prop:=λo i v H Q=>∃p xs k j,o=.ref p/\i=.int k/\H p=uQ (.lst xs)/\QJ xs.length k=uQ j/\Q (upd H p (.lst (xs.set j v)))
def set_list:HV X oZ:=by
 intro vG s σ H o i v ov iv u Q I ro ri rv h;obtain⟨p,xs,k,j,rfl,rfl,hp,hj,q⟩:=h;cases ro;obtain⟨t,rfl⟩:=ri;obtain⟨LA,n,r,ho,hz⟩:=I.lst hp;obtain⟨h1,h2,h3,h4⟩:=dY hj;have hl:=r.length;have hn:=QF;have I':=
  I.oY hp ho (oW LA n j u) (r.set rv j) (by rw[qF];exact hz) s.toks
 by_cases h0:0<=k
 .have hk:k.toNat=j:=by rw[seqIndex_of h0 h4]at h1;exact xv h1
  exact PySem.W.ki_setAt ho h0 (by lia) (by rw[zj,<-hl];exact h4) (by rw[hk];exact⟨_,I',q⟩)
 have hk:(k+(LA.toArray.size:Int)).toNat=j:=by rw[seqIndex_neg (by lia) h3]at h1;rw[zj,<-hl];exact xv h1
 exact PySem.W.ki_setBack ho (by lia) (by rw[zj,<-hl];exact h3) (by lia) (by rw[hk];exact⟨_,I',q⟩)
theorem oa(lo hi:Option Int)(n:Nat):(vJ lo hi uZ n).1=((HT.NB n 0 lo:Nat):Int)/\(vJ lo hi uZ n).2.1=((HT.NB n n hi:Nat):Int)/\(vJ lo hi uZ n).2.2=1:=by
 refine⟨?_,?_,rfl⟩
 .cases lo with
  |none=>simp[vJ,HT.NB]
  |some i=>
   simp[vJ,HT.NB,Option.getD_none,show(1:Int)>0 by decide,if_true];by_cases h:i<0
   .simp only[h,if_true]<;>lia
   simp[h,if_false]<;>lia
 cases hi with
 |none=>simp[vJ,HT.NB]
 |some i=>
  simp[vJ,HT.NB,Option.getD_none,show(1:Int)>0 by decide,if_true];by_cases h:i<0
  .simp only[h,if_true]<;>lia
  simp[h,if_false]<;>lia
def og(LA:List xB)(lo hi:Option Int):slicePick LA.toArray lo hi uZ=((LA.drop (HT.NB LA.length 0 lo)).take (HT.NB LA.length LA.length hi-HT.NB LA.length 0 lo)).toArray:=by
 obtain⟨i,j,d⟩:=oa lo hi LA.toArray.size;unfold slicePick;rw[i,j,d]
 simp only[sliceRange_one,pick_run,zj]<;>rfl
def SV(K:za):V->Option Int->Option Int->Hp->VK->Prop:=λx lo hi H Q=>∃a xs,x=.ref a/\IE K H a xs/\∀p,H p=uZ->Q (.ref p) (upd H p (.lst (Om xs lo hi)))
def oh:QP X (SV X.K):=by
 intro y s W H x v S Y j n O Q I L N pl M h;obtain⟨a,d,rfl,F,q⟩:=h;cases L;obtain⟨B,r,z,J⟩:=I.list F;have i:=r.length;refine⟨"list",_,slot_list_getitem.lookup,z.isList.typeIs,?_⟩
 refine wpAny_getItem_list_slice z.isList N pl M .none (by simp) ?_ (by rw[zj]<;>lia)
 rw[og,<-i];refine⟨.ref s.heap.objs.size,_,I.laid (λb U q=>zW _ q) (zY _) ?_,rfl,q _ (I.SA.fresh (zY _))⟩;exact⟨zy (dX d j n) J,_,0,(r.drop (HT.NB d.length 0 j)).take (HT.NB d.length d.length n-HT.NB d.length 0 j),z9 _ rfl⟩
noncomputable def Dj:V->Bool
 |.UA=>uJ
 |.bl _=>uJ
 |.int _=>uJ
 |.str _=>uJ
 |_=>uX
noncomputable def LJ:V->V->Bool
 |.UA,.UA=>uJ
 |.bl a,.bl b=>a==b
 |.bl a,.int b=>(if a then 1 else 0)==b
 |.int a,.bl b=>a==(if b then 1 else 0)
 |.int a,.int b=>a==b
 |.str a,.str b=>a==b
 |_,_=>uX
theorem dZ(j:RelV y u)(d:RelV x v)(q:Dj y=uJ)(n:Dj x=uJ):SeqAt.EqAt A s u v (LJ y x):=by
 cases y with
 |UA=>
  cases j;cases x with
  |UA=>cases d;exact SeqAt.EqAt.same _
  |bl b=>cases d;exact SeqAt.EqAt.none_bool b
  |int b=>obtain⟨t,rfl⟩:=d;exact SeqAt.EqAt.none_int b t
  |str b=>obtain⟨t,rfl⟩:=d;exact SeqAt.EqAt.none_str b t
  |_=>exact absurd (n) z6
 |bl a=>
  cases j;cases x with
  |UA=>cases d;exact SeqAt.EqAt.bool_none a
  |bl b=>cases d;exact SeqAt.EqAt.bool_bool a b
  |int b=>obtain⟨t,rfl⟩:=d;exact SeqAt.EqAt.bool_int a b t
  |str b=>obtain⟨t,rfl⟩:=d;exact SeqAt.EqAt.bool_str a b t
  |_=>exact absurd (n) z6
 |int a=>
  obtain⟨i,rfl⟩:=j;cases x with
  |UA=>cases d;exact SeqAt.EqAt.int_none a i
  |bl b=>cases d;exact SeqAt.EqAt.int_bool a i b
  |int b=>obtain⟨t,rfl⟩:=d;exact SeqAt.EqAt.int_int a i b t
  |str b=>obtain⟨t,rfl⟩:=d;exact vU a i b t
  |_=>exact absurd (n) z6
 |str a=>
  obtain⟨i,rfl⟩:=j;cases x with
  |UA=>cases d;exact SeqAt.EqAt.str_none a i
  |bl b=>cases d;exact SeqAt.EqAt.str_bool a i b
  |int b=>obtain⟨t,rfl⟩:=d;exact va a i b t
  |str b=>obtain⟨t,rfl⟩:=d;exact SeqAt.EqAt.str_str a i b t
  |_=>exact absurd (n) z6
 |_=>exact absurd (q) z6
def SJ(x:V)(u:xB):Bool:=match u with
 |.none=>LJ .UA x
 |.bool b=>LJ (.bl b) x
 |.int i _=>LJ (.int i) x
 |.str z _=>LJ (.str z) x
 |_=>uX
theorem d6(r:RelV y u)(f:Dj y=uJ):SJ x u=LJ y x:=by
 cases y with
 |UA|bl b=>cases r;rfl
 |int i|str z=>obtain⟨t,rfl⟩:=r;rfl
 |_=>exact absurd (f) z6
theorem Rj:∀{xs:List V}{us:List xB},Vals xs us->xs.all Dj=uJ->us.any (SJ x)=xs.any λy=>LJ y x
 |_,_,.nil,_=>rfl
 |y::xs,u::us,.cons r t,f=>by rw[j5,zq]at f;rw[List.any_cons,List.any_cons,d6 r f.1,Rj t f.2]
theorem Sw(i:RelV x v)(j:Dj x=uJ):∀{xs:List V}{us:List xB},Vals xs us->xs.all Dj=uJ->∀u∈us,SeqAt.EqAt A s u v (SJ x u)
 |_,_,.nil,_=>λu d=>by cases d
 |y::xs,u::us,.cons r t,f=>λn d=>by
  rw[j5,zq]at f;rcases zZ.mp d with rfl|d
  .rw[d6 r f.1];exact dZ r i f.1 j
  exact Sw i j t f.2 n d
def ML(x:V)(xs:List V):Bool:=xs.any λy=>LJ y x
def Z'(K:za)(neg:Bool):R2:=λx y H Q=>∃p xs,y=.ref p/\(IE K H p xs\/JE K H p xs)/\Dj x=uJ/\xs.all Dj=uJ/\Q (.bl (if neg then !ML x xs else ML x xs)) H
def oi:VB X (xO .In) (Z' X.K uX):=by
 intro z s L H x y v u Q I j F h;obtain⟨p,J,rfl,i,n,fs,q⟩:=h;cases F;rcases i with i|i
 .obtain⟨d,r,pl,B⟩:=I.list i;refine SeqAt.in_listAt (SJ x) pl.isList (λw hw=>Sw j n r fs w (by simpa using hw)) ⟨.bl _,H,I,rfl,?_⟩;rw[show d.toArray.any (SJ x)=d.any (SJ x) by simp,Rj r fs];exact q
 obtain⟨d,r,pl,B⟩:=I.tuple i;refine SeqAt.in_tupleAt (SJ x) pl (λw hw=>Sw j n r fs w (by simpa using hw)) ⟨.bl _,H,I,rfl,?_⟩;rw[show d.toArray.any (SJ x)=d.any (SJ x) by simp,Rj r fs];exact q
def oj:VB X (xO .NotIn) (Z' X.K uJ):=by
 intro z s L H x y v u Q I j F h;obtain⟨p,J,rfl,i,n,fs,q⟩:=h;cases F;rcases i with i|i
 .obtain⟨d,r,pl,B⟩:=I.list i;refine SeqAt.notIn_listAt (SJ x) pl.isList (λw hw=>Sw j n r fs w (by simpa using hw)) ⟨.bl _,H,I,rfl,?_⟩;rw[show d.toArray.any (SJ x)=d.any (SJ x) by simp,Rj r fs];exact q
 obtain⟨d,r,pl,B⟩:=I.tuple i;refine SeqAt.notIn_tupleAt (SJ x) pl (λw hw=>Sw j n r fs w (by simpa using hw)) ⟨.bl _,H,I,rfl,?_⟩;rw[show d.toArray.any (SJ x)=d.any (SJ x) by simp,Rj r fs];exact q
def ol:YA X (.builtin "len") (λxs H Q=>∃p ys,xs=[.ref p]/\(IE X.K H p ys\/JE X.K H p ys)/\Q (.int ys.length) H):=by
 intro vG s σ H xs us Q I r h;obtain⟨p,ys,rfl,hq,q⟩:=h;obtain⟨u,rfl,rx⟩:=vals1 r;cases rx;have hn:=QF;rcases hq with hq|hq
 .obtain⟨LA,r',pl,hz⟩:=I.list hq;have hlen:=r'.length
  exact Calls.call_len_list pl.isList (by simp only[zj]<;>lia) ⟨.int ys.length,H,I.tok _,⟨s.toks+1,by rw[zj,hlen]⟩,q⟩
 obtain⟨LA,r',pl,hz⟩:=I.tuple hq;have hlen:=r'.length
 exact len_tuple pl (by simp only[zj]<;>lia) ⟨.int ys.length,H,I.tok _,⟨s.toks+1,by rw[zj,hlen]⟩,q⟩
def om:YA X (.builtin "len") (λxs H Q=>∃z,xs=[.str z]/\z.length<=sizeLine/\Q (.int z.length) H):=by intro vG s σ H xs us Q I r h;obtain⟨z,rfl,hz,q⟩:=h;obtain⟨u,rfl,t,rfl⟩:=vals1 r;have hn:=QF;exact len_str (by lia) ⟨.int z.length,H,I.tok _,⟨_,rfl⟩,q⟩
def YA.or(h:YA X f r)(h':YA X f r'):YA X f (λxs H Q=>r xs H Q\/r' xs H Q):=by
 intro d s j H xs n Q I i q;rcases q with q|q
 .exact h d s j H xs n Q I i q
 exact h' d s j H xs n Q I i q
def oo:YA X (.type "list") (λxs H Q=>∃p ys,xs=[.ref p]/\(IE X.K H p ys\/JE X.K H p ys)/\∀l,H l=uZ->Q (.ref l) (upd H l (.lst ys))):=by
 intro N s Z H xs us Q I r h;obtain⟨p,ys,rfl,B,q⟩:=h;obtain⟨u,rfl,Y⟩:=vals1 r;cases Y;have J:∀(d:List xB),Vals ys d->ys.length<=sizeLine->∀(j:Heap)(y:Nat),(∀b W,s.heap.get? b=uQ W->j.get? b=uQ W)->
   j.get? s.heap.objs.size=uQ {cls:=.type "list",dict:=uZ,data:=.seq d.toArray y,slots:= #[]}->EP X N Z Q (.ref s.heap.objs.size) {s with heap:=j}:=λd z F j y L e=>
  ⟨.ref s.heap.objs.size,_,I.laid L (zY _) (show JC X.prog X.w _ j _ (.lst ys)from⟨F,d,y,z,e⟩),rfl,q _ (I.SA.fresh (zY _))⟩
 rcases B with B|B
 .obtain⟨d,z,pl,F⟩:=I.list B;have M:=z.length;obtain⟨o,S,U,n,O⟩:=pl.isList
  exact call_list_seq p (.inl rfl) S U O (λj y L e=>J d z F j y L e) (by simp[zj]<;>lia)
 obtain⟨d,z,pl,F⟩:=I.tuple B;have M:=z.length;obtain⟨o,S,U,n,O⟩:=pl
 exact call_list_seq p (.inr rfl) S U O (λj y L e=>J d z F j y L e) (by simp[zj]<;>lia)
def oq:YA X (.type "tuple") (λxs H Q=>∃p ys,xs=[.ref p]/\((IE X.K H p ys/\∀l,H l=uZ->Q (.ref l) (upd H l (.tup ys)))\/(JE X.K H p ys/\Q (.ref p) H))):=by
 intro B s N H xs M Q I r h;obtain⟨p,ys,rfl,h⟩:=h;obtain⟨u,rfl,F⟩:=vals1 r;cases F;rcases h with⟨i,q⟩|⟨i,q⟩
 .obtain⟨d,j,pl,n⟩:=I.list i;have z:=j.length
  refine call_tuple_list pl.isList (λL J=>?_) (by simp[zj]<;>lia)
  have y:=I.kept (t':=s.toks) J
  exact⟨.ref L.objs.size,_,y.laid (t':=s.toks) (λb o e=>zW _ e) (zY _) (show JC X.prog X.w _ _ _ (.tup ys)from⟨n,d,j,IsTup.new _ _⟩),rfl,q _ (y.SA.fresh (zY _))⟩
 obtain⟨d,j,pl,n⟩:=I.tuple i;exact call_tuple_same pl ⟨.ref p,H,I,rfl,q⟩
def KU(K:za)(T:String)(x:V)(H:Hp):Prop:=match x with
 |.str _=>T="str"
 |.int _=>T="int"
 | .ref p=>(T="list"/\∃xs,IE K H p xs)\/(T="tuple"/\∃o,K.lookup p=uQ o/\o.cls=.type "tuple"/\o.dict=uZ)\/
   (T="dict"/\((∃LD,H p=uQ (.dK LD))\/∃LD,H p=uQ (.dT LD)))\/(T="set"/\∃S n,H p=uQ (.set S n))
 |_=>False
theorem d7{L:St}{H:Hp}{T:String}{x:V}{v:xB}(I:Inv X vG L H s)(r:RelV x v)(ty:KU X.K T x H):
  s.TypeIs v T/\∀a,v=.ref a->∃B,s.heap.get? a=uQ B/\B.dict=uZ:=by
 cases x with
 |str z=>
  obtain⟨t,rfl⟩:=r;cases(ty);exact⟨typeIs_str s z t,nofun⟩
 |int i=>
  obtain⟨t,rfl⟩:=r;cases(ty);exact⟨typeIs_int s i t,nofun⟩
 | ref p=>
  cases r;rcases ty with⟨rfl,N,F⟩|⟨rfl,o,hk,M,j⟩|⟨rfl,hk⟩|⟨rfl,S,n,hk⟩
  .obtain⟨J,_,pl,_⟩:=I.list F;refine⟨pl.isList.typeIs,λa e=>?_⟩;cases e;obtain⟨o,n,e,c,j,_⟩:=pl;exact⟨o,e,j⟩
  .refine⟨⟨o,I.RE p o hk,M⟩,λa e=>?_⟩;cases e;exact⟨o,I.RE _ o hk,j⟩
  .have z:∃o,s.heap.get? p=uQ o/\o.ExactDict:=by
    rcases hk with⟨y,hk⟩|⟨y,hk⟩
    .obtain⟨_,_,_,_,o,_,_,e,d,_⟩:=I.SA p _ hk;exact⟨o,e,d⟩
    obtain⟨_,_,_,_,o,_,_,e,d,_⟩:=I.SA p _ hk;exact⟨o,e,d⟩
   obtain⟨o,e,d⟩:=z;refine⟨⟨o,e,d.1⟩,λa q=>?_⟩;cases q;exact⟨o,e,d.2.1⟩
  obtain⟨o,_,_,_,e,d,_⟩:=I.SA p _ hk;refine⟨⟨o,e,d.1⟩,λa q=>?_⟩;cases q;exact⟨o,e,d.2.1⟩
 |_=>exact False.elim ty
noncomputable def L2(K:za)(T:String)(r:V->List V->Hp->VK->Prop)(to:TE):TE:=λσ H Q=>to σ H λx H1=>KU K T x H1/\r x [] H1 Q
noncomputable def tBM(K:za)(T:String)(r:V->List V->Hp->VK->Prop)(to:TE)(t:TA):TE:=λσ H Q=>to σ H λx H1=>KU K T x H1/\t σ H1 λxs H2=>r x xs H2 Q
variable{o e:xw}{es:List xw}{to:TE}{t:TA}{name:Str}{apos PB:Pos}{T id:String}{r:V->List V->Hp->VK->Prop}
def ot(F:PlainAttrs T)(n:Slot T name id)(q:typeOf (.builtin id)=pure (.type "method_descriptor"))(L:Y' X id r)(ho:PE X o to)
  (j:xE o name X.env (eval o X.env)=eval o X.env:=by rfl) (i:(apos.endLine==PB.line)=uJ:=by rfl):PE X (.Call (.Attribute o name apos) [] [] PB) (L2 X.K T r to):=by
 intro d s B H Q I h;refine wpAny_Call_method0_late j i (ZA (ho d s B H _ I h) λv S O=>?_);obtain⟨x,N,y,z,ty,J⟩:=O;obtain⟨U,M⟩:=d7 y z ty;exact⟨T,id,F,n,q,U,M,Calls.callWith_builtin rfl (PySem.evalArgs_none (L d S B N x [] v [] Q y z .nil J))⟩
def d8(pa:PlainAttrs T)(q:Slot T name id)(B:typeOf (.builtin id)=pure (.type "method_descriptor"))(hm:Y' X id r)(ho:PE X o to)(N:PA X (e::es) t)
  (j:xE o name X.env (eval o X.env)=eval o X.env:=by rfl)
  (y:((xF PB (vX (e::es) X.env)).all (λx=> !x.1)&&(xG PB (xR [] X.env)).all (λx=>x.1.isSome)
   && decide ((e::es).length+([]:List Keyword).length+(if([]:List Keyword).isEmpty then 0 else 1)<30))=uJ:=by rfl)
  (n:(apos.endLine==PB.line)=uJ:=by rfl) (hs:vX (e::es) X.env=(uX,eval e X.env)::vX es X.env:=by rfl) (i:(xF PB (vX es X.env)).any (·.1)=uX:=by rfl):
  PE X (.Call (.Attribute o name apos) (e::es) [] PB) (tBM X.K T r to t):=by
 intro d s z H Q I h;refine wpAny_Call_method_late j y n rfl (ZA (ho d s z H _ I h) λv U zz=>?_);obtain⟨x,Z,J,F,ty,q1⟩:=zz;obtain⟨W,h2⟩:=d7 J F ty;refine⟨T,id,pa,q,B,W,h2,?_⟩;have L:=N PB d U z Z _ J q1;rw[hs]at L⊢
 exact Calls.callWith_builtin (by show(uX||(xF PB (vX es X.env)).any (·.1))=uX;rw[i]<;>rfl) (Calls.evalArgs_plain (ZA L λus S ⟨vs,H2,M,O,Y⟩=>hm d S z H2 x vs v us Q M F O Y))
end
def II(X:Cx)(id:String)(r:V->List V->Hp->VK->Prop):Prop:=
 ∀(vG:List (xz×Obj))(s:x9)(σ:St)(H:Hp)(x:V)(xs:List V)(v:xB)(us:List xB)(Q:VK),Inv X vG σ H s->RelV x v->Vals xs us->r x xs H Q->
  vW (xU X.prog X.w) X.A (call (.builtin id) (v::us)) (EP X vG σ Q) X.xe s
def Vals.one:∀{x:V}{us:List xB},Vals [x] us->∃u,us=[u]/\RelV x u:=by intro x us h;cases h with |cons r t=>cases t;exact⟨_,rfl,r⟩
section
variable{X:Cx}{vG:List (xz×Obj)}{σ:St}{H:Hp}{s:x9}{l b:xz}{xs ys zs:List V}
def Inv.N2{LA KI:List xB}{n:Nat}{f:Array xB->Array xB}{t':Nat}(I:Inv X vG σ H s)(hH:H l=uQ (.lst xs))
  (e:s.heap.get? l=uQ {cls:=.type "list",data:=.seq LA.toArray n}) (hf:f LA.toArray=KI.toArray) (hv:Vals ys KI) (hz:ys.length<=sizeLine):
  Inv X vG σ (upd H l (.lst ys)) {s with heap:=s.heap.update l (Obj.mapSeq f),toks:=t'}:=by
 have q:=PySem.IsL.update e f;rw[hf]at q;exact I.write (hH▸trivial) (.inl rfl) (λb' u hb hu=>(qq s.heap (Obj.mapSeq f) (Ne.symm hb)).trans hu) ⟨_,q⟩ ⟨hz,KI,_,hv,q⟩
def Inv.T2(I:Inv X vG σ H s)(y:Vals ys LA)(hz:ys.length<=sizeLine):
  Inv X vG σ (upd H s.heap.objs.size (.lst ys)) {s with heap:=s.heap.push {cls:=.type "list",data:=.seq LA.toArray},toks:=t'}:=
 I.laid (λ_ _ q=>zW _ q) (zY _) ⟨hz,LA,0,y,z9 _ rfl⟩
def Inv.fresh(I:Inv X vG σ H s):H s.heap.objs.size=uZ:=I.SA.fresh (zY _)
def Inv.U2(I:Inv X vG σ H s)(d:H l=uQ (.lst xs)):xs.length<=sizeLine/\∃(LA:List xB)(n:Nat),Vals xs LA/\xs.length=LA.length/\s.heap.get? l=uQ {cls:=.type "list",data:=.seq LA.toArray n}:=by obtain⟨z,LA,n,r,e⟩:=I.SA l _ d;exact⟨z,LA,n,r,r.length,e⟩
end
section
variable{X:Cx}
def ou:V->List V->Hp->VK->Prop:=λx vs H Q=>∃l xs y,x=.ref l/\vs=[y]/\H l=uQ (.lst xs)/\xs.length<sizeLine/\Q .UA (upd H l (.lst (xs++[y])))
def ow:II X "list.append" ou:=by
 intro vG s σ H x vs v us Q I rx rv h;obtain⟨l,xs,y,rfl,rfl,hH,hz,q⟩:=h;cases rx;obtain⟨u,rfl,ru⟩:=rv.one;obtain⟨z,LA,n,r,hl,e⟩:=I.U2 hH;refine call_meets F.slot_list_append ⟨_,e,rfl⟩ F.entry_list_append (F.args_list_append_2 _ _) (PySem.list_append l LA.toArray n u (by rw[zj];lia)) ⟨e,?_⟩;refine⟨.UA,_,I.N2 hH e (by simp) (r.append (.cons ru .nil)) ?_,rfl,q⟩;rw[zC,jX]
 lia
end
end _L
namespace Att
open PySem PySem.W PySem.Calls PyProof.Rows
theorem oy:∀(ns:List Int)(vs:List xB),WellAll P h vs (ns.map WData.int)->IntsAre vs ns:=by
 intro ns
 induction ns with
 |nil=>
  intro vs w;rw[qZ]at w;cases w;exact .nil
 | cons n ns d=>
  intro vs w;rw[zJ]at w;cases w with
  |cons a b=>
   cases a;exact .cons _ _ (d _ b)
theorem oz{l:OpenLaw}{n:Nat}(S:l.most=uQ n){P:Params}{h:Heap}{i:List WData}{y:List xB}
  (z:l.row.toRowW.claim.pre i=uJ) (L:WellAll P h y i):
  ∃a vs ns,y=[Value.ref a]/\i=[WData.list (ns.map WData.int)]/\h.get? a=uQ {cls:=.type "list",data:=.seq vs.toArray}/\IntsAre vs ns/\ns.length<=n:=by
 have M:l.pre.holds [] {args:=i}=uJ:=(pre_splitW z).2;obtain⟨d,r,rfl,Y,Z⟩:=hasAllW_cons ((pre_splitW z).1);obtain rfl:=hasAllW_nil Z;obtain⟨xs,rfl,O⟩:=hasW_list Y;obtain⟨ns,rfl⟩:=items_int O;have F:ns.length<=n:=by
  unfold OpenLaw.pre at M;have J:(WTm.not (.lt (.lit (.int (n:Int))) (.len (.arg 0)))).holds [] {args:=[.list (ns.map .int)]}=uJ:=by have J:=(holds_andW M).1;rw[S]at J;exact J
  have I:=condW_of J (w_not (w_lt w_lit (w_len_list (w_arg rfl))));rw[zV]at I;refine Nat.le_of_not_lt λq=>?_
  first
   |(rw[j (by lia)]at I;exact absurd I (by decide))
   |(simp at I;lia)
 cases L with
 |cons N W=>
  cases W;cases N with
  |list U B=>exact⟨_,_,ns,rfl,rfl,U,oy ns _ B,F⟩
def pA(l:OpenLaw)(d:List WData):l.row.toRowW.claim.post d (.bool uJ) d=uJ:=
 postW_of
  (show WShape.has [] (.bool uJ) .bool=uJ by first|rfl|decide|simp[WShape.has,WShape.arms,WShape.armsAll])
  (w_eq_bool (w_res rfl) w_lit) rfl
end Att
namespace _L
open PySem PySem.Spec PyProof.Rows
theorem Ux:∀{vs:List xB}{ns:List Int},IntsAre vs ns->Vals (ns.map V.int) vs
 |_,_,.nil=>.nil
 |_,_,.cons n t h=>.cons ⟨t,rfl⟩ (Ux h)
def ZR(H:Hp):Prop:=∀b,H b=uZ\/∃o xs,H b=uQ (.WB o (.lst xs))
theorem pB{P:x0}{w:xC}{K:za}{mg mb:Str->Option xB}{CX:IL}{k:Nat}{fa a:xz}{fd:xk}{x:Str}{sp:Sp}{i:x9}{vs:List xB}{ns:List Int}
  (KX:K.In i.heap) (M:i.heap.Ns xT mg) (y:i.heap.Ns builtinsNs mb) (hbb:∀x:Str,x≠"__name__"->mb x=xL x) (U:i.heap.NoLimit) (hg:i.gens= #[])
  (ha:i.heap.get? a=uQ {cls:=.type "list",data:=.seq vs.toArray}) (hi:IntsAre vs ns) (hl:ns.length<=sizeLine) (hr:TB k callerA)
  (F:∀B:Heap,K.In B->B.Ns xT mg->KC P w K mg B CX k fa fd [x] sp) (L:∀(s:x9)(u:xB),BindsTo s fd ⟨[u],[]⟩ [(x,u)])
  (hsp:∀H:Hp,ZR H->IE K H a (ns.map V.int)->sp [.ref a] H (λv _=>v=.bl uJ) λ_ _ _=>False)
  (hCX:∀H e s',CX [] H i (λ_ _ _=>False) e s'->False):
  codeAny (xU P w) callerA (.call (.ref fa) ⟨[.ref a],[]⟩) (λr s'=>r=.ok (.ret (.bool uJ))/\OldK i.heap s'.heap/\s'.os=i.os/\AllBare s'.gens) i:=by
 have rv:=Ux hi;have S:=hi.length;have J:∀H:Hp,ZR H->IE K H a (ns.map V.int)->SE P w H i.heap->(∀b,H b≠uZ->b=a)->(H a≠uZ->K.lookup a=uZ)->
   codeAny (xU P w) callerA (.call (.ref fa) ⟨[.ref a],[]⟩) (λr s'=>r=.ok (.ret (.bool uJ))/\OldK i.heap s'.heap/\s'.os=i.os/\AllBare s'.gens) i:=by
  intro H hO hS SA hA hK;have j:∀{b:xz}{o:Obj},i.heap.get? b=uQ o->H b=uZ->(Lk i.heap H).get? b=uQ o:=λe n=>mE e n
  have OR:∀{b:xz}{o:Obj}{es:Array DictEntry}{ep:Nat},i.heap.get? b=uQ o->o.data=.dict es ep->H b=uZ:=λ{b o es ep}e d=>by
   cases q:H b with
   |none=>rfl
   |some u=>
    have e':=hA b (by rw[q];simp);subst e';rw[ha]at e;cases e;have d':=d;cases d'
  have I:∀{b:xz}{m:Str->Option xB},i.heap.Ns b m->(Lk i.heap H).Ns b m:=λ{b m}⟨o,es,ep,e,d,r⟩=>⟨o,es,ep,j e (OR e d),d,r⟩
  have Z:K.In (Lk i.heap H):=λb o e=>j (KX b o e) (by
   cases q:H b with
   |none=>rfl
   |some u=>
    have e':=hA b (by rw[q];simp);subst e';rw[hK (by rw[q];simp)]at e;cases e)
  have hM:Mod K mg (Lk i.heap H):=⟨Z,I M,⟨mb,I y,hbb⟩,let⟨mc,h1,h2⟩:=U;⟨mc,I h1,h2⟩⟩
  refine xN ((F _ Z (I M)).run callerA [] i H ⟨[.ref a],[]⟩ [.ref a] [.ref a] _ _ hr ⟨rfl,hM,λb o e=>mF e,Nat.le_of_eq (mD _ _),trivial,λb y=>absurd (show b∈([]:List xz)from y) (by simp),SA,.of_eq hg⟩ (L i (.ref a)) (.cons rfl .nil) (hsp H hO hS)) λr s' h=>?_
  cases r with
  |error e=>exact(hCX H e s' h).elim
  | ok fl=>
   cases fl with
   | ret u=>
    obtain⟨v,H',os,Y,un,O,r',q⟩:=h;have q':=q;subst q';obtain rfl:u=Value.bool uJ:=r';refine⟨rfl,OldK.of_keep λb o e=>?_,os,Y⟩;cases q:H b with
    |none=>exact un.keep b o e q (by intro z;exact absurd (show b∈([]:List xz)from z) (by simp)) (by simp)
    |some u=>
     rcases hO b with z|⟨ob,xs,z⟩
     .rw[q]at z;cases z
     obtain⟨e1,_⟩:=SA b _ z;obtain⟨e2,_⟩:=O b _ (un.UE b ob _ z);rw[e]at e1;cases e1;exact e2
   |_=>exact False.elim h
 cases hk:K.lookup a with
 |some o=>
  have e:=KX a o hk;rw[ha]at e;cases e;refine J (λ_=>uZ) (λ_=>.inl rfl) (.inr ⟨_,vs.toArray,_,hk,rfl,rfl,rfl,by rw[zj,S];exact hl,by simpa using rv⟩) (λb u z=>by have N:=z;cases N) (λb z=>absurd rfl z) λz=>absurd rfl z
 | none=>
  refine J (λb=>if b=a then uQ (.WB {cls:=.type "list",data:=.seq vs.toArray} (.lst (ns.map V.int)))else uZ) (λb=>?_) (.inl (.inr ⟨{cls:=.type "list",data:=.seq vs.toArray},if_pos rfl⟩)) (λb u z=>?_) (λb z=>?_) λ_=>hk
  .by_cases y:b=a
   .exact .inr ⟨_,_,if_pos y⟩
   exact .inl (if_neg y)
  .by_cases y:b=a
   .have N:=(if_pos y).symm.trans z;cases N;subst y;exact⟨ha,by rw[zV];exact hl,vs,_,rv,ha⟩
   have N:=(if_neg y).symm.trans z;cases N
  by_cases y:b=a
  .exact y
  exact absurd (if_neg y) z
noncomputable abbrev WG:IL:=λ_ _ _ _ _ _=>False
noncomputable abbrev E0:XK:=λ_ _ _=>False
def TV:Passes WG X E0:=λ_ _ _ _ _ _ _ h=>h.elim
structure OM (K:za) (x qual:Str) (st:xA) (f:xz) (fd:xk):Prop where
 ex:∃(oc:xB)(od:Option xz)(kV doc pm:xB)(an:Option xz)(ID ct:xB)(T1:Array (Option xB)),
  fd=jc x qual (G9 st) (Dp st) (Ba st) .none kV doc pm an ID ct/\K.lookup f=uQ ⟨oc,od,.func fd,T1⟩/\vd K ID qual=uJ
 kp:zh K (.ref f)=uJ
section
variable{P:x0}{w:xC}{K:za}{mg:Str->Option xB}{base:Heap}
def OM.ok{x qual:Str}{st:xA}{f:xz}{y:xk}{N ps:List Str}{k:Nat}{sp:Sp}(F:OM K x qual st f y)(S:MB N ps (Ba st))(len:∀vs H Q E,sp vs H Q E->vs.length=ps.length)
  (i:∀(d:xB)(A:xj)(outer:List Env)(s:x9)(H:Hp)(vs:List V)(Q:VK)(E:XK),TB k (A.deeper (envOfC qual (Ba st) s.heap.objs.size f d))->sp vs H Q E->
   ∃t,KJ (Ib WG P w K mg base N qual (Ba st) f d A outer s H E).PQ (Dp st) t/\t {nx:=λ_ H'=>Q .UA H',rt:=Q} (start N vs) H):KC P w K mg base WG (k+1) f y ps sp:=by
 obtain⟨M,O,kV,B,pm,L,d,ct,I,rfl,J,j⟩:=F.ex;refine dQ J j S len λA outer s H vs Q E z n=>?_
 obtain⟨t,h,q⟩:=i d A outer s H vs Q E z n;exact⟨t,h.PQ,q⟩
def OM.binds{x qual:Str}{st:xA}{f:xz}{n:xk}{ps:List Str}(F:OM K x qual st f n)
  (h:∀(kV d pm:xB)(j:Option xz)(i ct:xB)(us:List xB),us.length=ps.length->bindArgs (jc x qual (G9 st) (Dp st) (Ba st) .none kV d pm j i ct) ⟨us,[]⟩=pure (ps.zip us)):Binds K n ps []:=by
 obtain⟨B,I,kV,d,pm,j,i,ct,q,rfl,z,y⟩:=F.ex;exact .all (h kV d pm j i ct)
end
section
variable{X:Cx}
def pv(i:Nat){x:Str}{pos:Pos}(n:X.N[i]?=uQ x:=by rfl)(j:ZO X.env.scope x:=by first|exact Or.inl rfl|exact Or.inr (Or.inl rfl)|exact Or.inr (Or.inr rfl))(q:(x==("__debug__":Str))=uX:=by decide)
  (d:(x==("__classdict__":Str))=uX:=by decide):PE X (.Name x pos) (Ro i):=Rv n j q d
end
end _L
namespace _D
open PySem PySem.Spec _L
open PyProof.Rows hiding St
inductive D where
 |UA|bl (b:Bool)|int (i:Int)|str (x:Str)|ty (n:String)
 |tup (xs:List D)
 |fl (xs:List D)
 |ref (i:Nat)
inductive DO where
 |lst (xs:List D)
 |LU (LD:List (Key×D))
 |ins (c:Str) (fs:List (Str×D))
 |tab (c m:Str)
 |exc (c:Str) (fs:List (Str×D))
 |gone
noncomputable abbrev DH:=List DO
noncomputable abbrev ZB:=List (Option D)
structure Xn where
 cls:Str
 fs:List (Str×D)
inductive R (α:Type) where
 |ok (a:α) (G:DH)
 |err (x:Xn) (G:DH)
 |bad
abbrev Fx{α:Type}(_:α):Type:=Unit
noncomputable def R.bind{α β:Type}(f:α->DH->R β)(_:Fx f:=())(r:R α):R β:=match r with
 |.ok a G=>f a G
 |.err x G=>.err x G
 |.bad=>.bad
@[simp]theorem R.Es{b c:Type}(a:b)(G:DH)(f:b->DH->R c):(R.ok a G).bind f=f a G:=id rfl
@[simp]theorem R.Nf{a b:Type}(x:Xn)(G:DH)(f:a->DH->R b):(R.err x G:R a).bind f=.err x G:=id rfl
inductive SR where
 |nx (S:ZB) (G:DH)
 |rt (d:D) (G:DH)
 |bk (S:ZB) (G:DH)
 |ct (S:ZB) (G:DH)
 |err (x:Xn) (G:DH)
 |bad
noncomputable abbrev DE:=ZB->DH->R D
noncomputable abbrev DB:=ZB->DH->R Bool
noncomputable abbrev DA:=ZB->DH->R (List D)
noncomputable abbrev DS:=ZB->DH->SR
def HS(K:za)(H:Hp)(a:xz)(xs:List V):Prop:=
 (∃o,H a=uQ (.WB o (.lst xs)))\/
  (∃ns:List Int,xs=ns.map V.int)/\∃(o:Obj)(LA:Array xB)(n:Nat),K.lookup a=uQ o/\o.cls=.type "list"/\o.dict=uZ/\o.data=.seq LA n/\LA.size<=sizeLine/\Vals xs LA.toList
def HS.sq{K:za}{H:Hp}{a:xz}{xs:List V}(h:HS K H a xs):IE K H a xs:=by
 rcases h with⟨o,h⟩|⟨_,h⟩
 .exact .inl (.inr ⟨o,h⟩)
 exact .inr h
structure Wd where
 K:za
 n:Nat
 m:Nat->xz
 H:Hp
mutual
def UB(a:Wd):D->V->Prop
 |.UA,v=>v=.UA
 |.bl b,v=>v=.bl b
 |.int i,v=>v=.int i
 |.str x,v=>v=.str x
 |.ty n,v=>v=.ty n
 |.tup ds,v=>∃p vs,v=.ref p/\JE a.K a.H p vs/\KA a ds vs
 |.fl ds,v=>∃p vs,v=.ref p/\HS a.K a.H p vs/\KA a ds vs
 |.ref i,v=>i<a.n/\v=.ref (a.m i)
def KA(a:Wd):List D->List V->Prop
 |[],vs=>vs=[]
 |d::ds,vs=>∃v r,vs=v::r/\UB a d v/\KA a ds r
end
noncomputable def Y2:Str:="Sending.send_by.<locals>.<lambda>"
def XF(H:Hp)(P:xz):Prop:=
 ∃ps:Array xB,H P=uQ (.SM ps)/\TriplesOk ps.toList/\∀pos cv,codeAmong pos ps.toList=uQ cv->∃(c:xz)(oc:Obj)(vs:Array xB)(t:Tok),cv=.ref c/\H c=uQ (.WB oc (.own 0))/\oc.data=.fields vs/\vs[1]?=uQ (.str Y2 t)
def XF.mono(h:XF H P)(j:∀p ps,H p=uQ (.SM ps)->H' p=uQ (.SM ps))(b:∀p o u,H p=uQ (.WB o u)->H' p=uQ (.WB o u)):XF H' P:=by obtain⟨ps,e,t,k⟩:=h;refine⟨ps,j _ _ e,t,λa r f=>?_⟩;obtain⟨c,l,n,g,d,i,m,q⟩:=k a r f;exact⟨c,l,n,g,d,b _ _ _ i,m,q⟩
def TabAt(K:za)(C m:Str)(c P:xz):Prop:=
 ∃(Ca f:xz)(oc:xB)(od:Option xz)(fd:xk)(sl:Array (Option xB)),zb K xT C=uQ (uQ (.ref Ca))/\qb K (.ref Ca) m=uQ (uQ (.ref f))/\K.lookup f=uQ ⟨oc,od,.func fd,sl⟩/\fd.code=.ref c/\PySem.W.codeHdIn K c P=uJ
structure Ext (a b:Wd):Prop where
 k:b.K=a.K
 n:a.n<=b.n
 m:∀i,i<a.n->b.m i=a.m i
 tup:∀p xs,a.H p=uQ (.tup xs)->b.H p=uQ (.tup xs)
 WB:∀p o u,a.H p=uQ (.WB o u)->b.H p=uQ (.WB o u)
 tab:∀p,XF a.H p->XF b.H p
def Ext.refl(a:Wd):Ext a a:=⟨rfl,zY _,λ_ _=>rfl,λ_ _ h=>h,λ_ _ _ h=>h,λ_ h=>h⟩
def Ext.trans(x:Ext a b)(y:Ext b c):Ext a c:=
 ⟨y.k.trans x.k,zy x.n y.n,λi h=>(y.m i (zK h x.n)).trans (x.m i h),λp d h=>y.tup p d (x.tup p d h),λp o u h=>y.WB p o u (x.WB p o u h),λp h=>y.tab p (x.tab p h)⟩
def Ext.SQ(x:Ext a b)(h:JE a.K a.H p xs):JE b.K b.H p xs:=by
 rcases h with(h|⟨o,h⟩)|h
 .exact .inl (.inl (x.tup _ _ h))
 .exact .inl (.inr ⟨o,x.WB _ _ _ h⟩)
 exact .inr (x.k▸h)
def Ext.NL(x:Ext a b)(h:HS a.K a.H p xs):HS b.K b.H p xs:=by
 rcases h with⟨o,h⟩|⟨e,h⟩
 .exact .inl ⟨o,x.WB _ _ _ h⟩
 exact .inr ⟨e,x.k▸h⟩
mutual
theorem UB.mono(x:Ext a b):∀{d:D}{v:V},UB a d v->UB b d v
 |.UA,_,h=>h
 |.bl _,_,h=>h
 |.int _,_,h=>h
 |.str _,_,h=>h
 |.ty _,_,h=>h
 |.tup f,v,h=>by obtain⟨p,c,e,q,r⟩:=h;exact⟨p,c,e,x.SQ q,KA.mono x r⟩
 |.fl f,v,h=>by obtain⟨p,c,e,q,r⟩:=h;exact⟨p,c,e,x.NL q,KA.mono x r⟩
 |.ref i,v,h=>by obtain⟨l,e⟩:=h;exact⟨zK l x.n,by rw[x.m i l];exact e⟩
theorem KA.mono(x:Ext a b):∀{ds:List D}{vs:List V},KA a ds vs->KA b ds vs
 |[],_,h=>h
 |d::ds,vs,h=>by obtain⟨v,r,e,f,c⟩:=h;exact⟨v,r,e,UB.mono x f,KA.mono x c⟩
end
theorem KA.length:∀{ds:List D}{vs:List V},KA a ds vs->ds.length=vs.length
 |[],vs,h=>by cases(h);rfl
 |d::ds,vs,h=>by obtain⟨v,r,e,c,b⟩:=h;subst e;show ds.length+1=r.length+1;rw[KA.length b]
theorem KA.get:∀{ds:List D}{vs:List V}{i:Nat}{d:D},KA a ds vs->ds[i]?=uQ d->∃v,vs[i]?=uQ v/\UB a d v
 |[],vs,_,_,h,e=>by simp at e
 |d::ds,vs,0,j,h,e=>by obtain⟨v,r,b,f,c⟩:=h;subst b;simp at e;subst e;exact⟨v,rfl,f⟩
 |d::ds,vs,i+1,j,h,e=>by obtain⟨v,r,b,f,c⟩:=h;subst b;obtain⟨w,g,k⟩:=KA.get c (by simpa using e);exact⟨w,by simpa using g,k⟩
theorem KA.get':∀{ds:List D}{vs:List V}{i:Nat}{v:V},KA a ds vs->vs[i]?=uQ v->∃d,ds[i]?=uQ d/\UB a d v
 |[],vs,_,_,h,e=>by cases(h);simp at e
 |d::ds,vs,0,j,h,e=>by obtain⟨v,r,b,f,c⟩:=h;subst b;simp at e;subst e;exact⟨d,rfl,f⟩
 |d::ds,vs,i+1,j,h,e=>by obtain⟨v,r,b,f,c⟩:=h;subst b;obtain⟨w,g,k⟩:=KA.get' c (by simpa using e);exact⟨w,by simpa using g,k⟩
theorem KA.append:∀{ds es:List D}{vs us:List V},KA a ds vs->KA a es us->KA a (ds++es) (vs++us)
 |[],_,vs,_,h,b=>by cases(h);exact b
 |d::ds,es,vs,us,h,b=>by obtain⟨v,r,f,c,e⟩:=h;subst f;exact⟨v,r++us,rfl,c,.append e b⟩
def KA.cons(h:UB a d v)(r:KA a ds vs):KA a (d::ds) (v::vs):=⟨v,vs,rfl,h,r⟩
theorem KA.nil:KA a [] []:=rfl
theorem KA.set(h:UB a d v):∀{ds:List D}{vs:List V}(i:Nat),KA a ds vs->KA a (ds.set i d) (vs.set i v)
 |[],vs,_,r=>by cases(r);exact rfl
 |j::ds,vs,0,r=>by obtain⟨f,e,b,g,c⟩:=r;subst b;exact⟨v,e,rfl,h,c⟩
 |j::ds,vs,i+1,r=>by obtain⟨f,e,b,g,c⟩:=r;subst b;exact⟨f,e.set i v,rfl,g,.set h i c⟩
theorem KA.take:∀{ds:List D}{vs:List V}(i:Nat),KA a ds vs->KA a (ds.take i) (vs.take i)
 |_,_,0,_=>rfl
 |[],vs,_+1,r=>by cases(r);exact rfl
 |g::ds,vs,i+1,r=>by obtain⟨d,f,b,e,c⟩:=r;subst b;exact⟨d,f.take i,rfl,e,.take i c⟩
theorem KA.drop:∀{ds:List D}{vs:List V}(i:Nat),KA a ds vs->KA a (ds.drop i) (vs.drop i)
 |_,_,0,r=>r
 |[],vs,_+1,r=>by cases(r);exact rfl
 |e::ds,vs,i+1,r=>by obtain⟨d,g,b,f,c⟩:=r;subst b;exact .drop i c
theorem KA.ints:∀(ns:List Int),KA a (ns.map D.int) (ns.map V.int)
 |[]=>rfl
 |n::ns=>⟨.int n,ns.map V.int,rfl,rfl,.ints ns⟩
def VV(a:Wd)(LD:List (Key×D))(us:List (Key×V)):Prop:=LD.map (·.1)=us.map (·.1)/\KA a (LD.map (·.2)) (us.map (·.2))
def OH(a:Wd)(fs:List (Str×D))(us:List (Str×V)):Prop:=fs.map (·.1)=us.map (·.1)/\KA a (fs.map (·.2)) (us.map (·.2))
def XD(a:Wd)(od:Option xz)(fs:List (Str×D)):Prop:=(fs=[]/\od=uZ)\/∃dx o us,od=uQ dx/\a.H dx=uQ (.WB o (.xd us))/\OH a fs us
def ME(a:Wd):DO->Option HO->Prop
 |.lst ds,o=>∃vs,o=uQ (.lst vs)/\KA a ds vs
 |.LU LD,o=>∃us,o=uQ (.dK us)/\VV a LD us
 |.ins c fs,o=>∃C dx us,zb a.K xT c=uQ (uQ (.ref C))/\o=uQ (.ins C dx us)/\OH a fs us
 |.tab C m,_=>∃c P,TabAt a.K C m c P/\XF a.H P
 |.exc c fs,o=>∃C oe u vs,zb a.K xT c=uQ (uQ (.ref C))/\o=uQ (.WB oe u)/\oe.cls=.ref C/\oe.data=.fields vs/\XD a oe.dict fs
 |.gone,_=>True
structure QB (a:Wd) (G:DH):Prop where
 len:G.length=a.n
 inj:∀i j,i<a.n->j<a.n->a.m i=a.m j->i=j
 obj:∀(i:Nat)(o:DO),G[i]?=uQ o->ME a o (a.H (a.m i))
 tr:∀i,i<a.n->a.H (a.m i)≠uZ
structure RB (a:Wd) (S:ZB) (σ:St):Prop where
 len:S.length=σ.length
 get:∀(i:Nat)(d:D),S[i]?=uQ (uQ d)->∃v,σ[i]?=uQ (uQ v)/\UB a d v
def RB.mono(x:Ext a b)(r:RB a S σ):RB b S σ:=⟨r.len,λi d h=>let⟨v,e,q⟩:=r.get i d h;⟨v,e,q.mono x⟩⟩
def RB.set(r:RB a S σ)(i:Nat)(h:UB a d v):RB a (S.set i (uQ d)) (σ.set i (uQ v)):=by
 refine⟨by simpa using r.len,λj e b=>?_⟩;rw[qM]at b⊢;by_cases c:i=j
 .subst c;rw[if_pos rfl]at b⊢;by_cases f:i<S.length
  .rw[if_pos f]at b;have g:d=e:=by simpa using b
   subst g;rw[if_pos (by rw[<-r.len];exact f)];exact⟨v,rfl,h⟩
  rw[if_neg f]at b;cases b
 rw[if_neg c]at b⊢;exact r.get j e b
def MJ(E:XK)(a:Wd)(x:Xn)(G:DH):Prop:=E≠E0/\∀(b:Wd)(C:xz)(od:Option xz),Ext a b->QB b G->zb b.K xT x.cls=uQ (uQ (.ref C))->XD b od x.fs->E (.ref C) od b.H
def out(E:XK)(a:Wd)(r:R D)(Q:VK):Prop:=match r with
 |.ok d G=>∀(b:Wd)(v:V),Ext a b->QB b G->UB b d v->Q v b.H
 |.err x G=>MJ E a x G
 |.bad=>False
def Ff(E:XK)(a:Wd)(r:R Bool)(Q:Bool->Hp->Prop):Prop:=match r with
 |.ok k G=>∀(b:Wd),Ext a b->QB b G->Q k b.H
 |.err x G=>MJ E a x G
 |.bad=>False
def Ez(E:XK)(a:Wd)(r:R (List D))(Q:List V->Hp->Prop):Prop:=match r with
 |.ok ds G=>∀(b:Wd)(vs:List V),Ext a b->QB b G->KA b ds vs->Q vs b.H
 |.err x G=>MJ E a x G
 |.bad=>False
def Bh(E:XK)(a:Wd)(r:SR)(W:Ends):Prop:=match r with
 |.nx S G=>∀(b:Wd)(σ:St),Ext a b->QB b G->RB b S σ->W.nx σ b.H
 |.bk S G=>∀(b:Wd)(σ:St),Ext a b->QB b G->RB b S σ->W.bk σ b.H
 |.ct S G=>∀(b:Wd)(σ:St),Ext a b->QB b G->RB b S σ->W.ct σ b.H
 |.rt d G=>∀(b:Wd)(v:V),Ext a b->QB b G->UB b d v->W.rt v b.H
 |.err x G=>MJ E a x G
 |.bad=>False
def MJ.mono(x:Ext a b)(h:MJ E a e G):MJ E b e G:=⟨h.1,λc C d y s n q=>h.2 c C d (x.trans y) s n q⟩
theorem out.mono(x:Ext a b)(h:out E a r Q):out E b r Q:=by
 cases r with
 |ok d G=>exact λc v y s q=>h c v (x.trans y) s q
 |err e G=>exact MJ.mono x h
 |bad=>exact h
theorem Ff.mono(x:Ext a b)(h:Ff E a r Q):Ff E b r Q:=by
 cases r with
 |ok d G=>exact λc y s=>h c (x.trans y) s
 |err e G=>exact MJ.mono x h
 |bad=>exact h
theorem Ez.mono(x:Ext a b)(h:Ez E a r Q):Ez E b r Q:=by
 cases r with
 |ok d G=>exact λc f y s q=>h c f (x.trans y) s q
 |err e G=>exact MJ.mono x h
 |bad=>exact h
theorem Bh.mono(x:Ext a b)(h:Bh E a r W):Bh E b r W:=by
 cases r with
 |err e G=>exact MJ.mono x h
 |bad=>exact h
 |_=>exact λc f y s q=>h c f (x.trans y) s q
inductive IS (K:za) (σ:St) (H:Hp) (φ:Wd->ZB->DH->Prop):Prop|mk (a:Wd) (S:ZB) (G:DH) (hk:a.K=K) (hH:a.H=H) (s:QB a G) (r:RB a S σ) (h:φ a S G):IS K σ H φ inductive PR3 {α β:Type} (a:Wd) (H:Hp) (r:R α) (v:β) (ρ:Wd->α->β->Prop) (φ:Wd->α->DH->Prop):Prop|mk (b:Wd) (d:α) (G:DH) (hH:b.H=H) (x:Ext a b) (s:QB b G) (q:ρ b d v) (e:r=.ok d G) (h:φ b d G):PR3 a H r v ρ φ inductive PN3 {α β:Type} (K:za) (H:Hp) (v:β) (ρ:Wd->α->β->Prop) (φ:Wd->DH->α->Prop):Prop|mk (a:Wd) (G:DH) (d:α) (hk:a.K=K) (hH:a.H=H) (s:QB a G) (q:ρ a d v) (h:φ a G d):PN3 K H v ρ φ inductive PD3 {α β γ δ:Type} (K:za) (H:Hp) (v:β) (w:δ) (ρ:Wd->α->β->Prop) (τ:Wd->γ->δ->Prop) (φ:Wd->DH->α->γ->Prop):Prop|mk (a:Wd) (G:DH) (d:α) (e:γ) (hk:a.K=K) (hH:a.H=H) (s:QB a G) (q:ρ a d v) (q':τ a e w) (h:φ a G d e):PD3 K H v w ρ τ φ inductive PG3 {α β:Type} (K:za) (σ:St) (H:Hp) (v:β) (ρ:Wd->α->β->Prop) (φ:Wd->ZB->DH->α->Prop):Prop|mk (a:Wd) (S:ZB) (G:DH) (d:α) (hk:a.K=K) (hH:a.H=H) (s:QB a G) (r:RB a S σ) (q:ρ a d v) (h:φ a S G d):PG3 K σ H v ρ φ inductive PB3 {α:Type} (a:Wd) (H:Hp) (r:R α) (k:α) (φ:Wd->DH->Prop):Prop|mk (b:Wd) (G:DH) (hH:b.H=H) (x:Ext a b) (s:QB b G) (e:r=.ok k G) (h:φ b G):PB3 a H r k φ def lE (K:za) (E:XK) (t:DE):TE:=λσ H Q=>IS K σ H λa S G=>out E a (t S G) Q
noncomputable def lB(K:za)(E:XK)(t:DB):TT:=λσ H Q=>IS K σ H λa S G=>Ff E a (t S G) Q
noncomputable def lA(K:za)(E:XK)(t:DA):TA:=λσ H Q=>IS K σ H λa S G=>Ez E a (t S G) Q
noncomputable def lS(K:za)(E:XK)(t:DS):TS:=λW σ H=>IS K σ H λa S G=>Bh E a (t S G) W
noncomputable def WE(K:za)(E:XK)(f:D->D->DH->R D):R2:=λx y H Q=>PD3 K H x y UB UB λa G d e=>out E a (f d e G) Q
def b?(K:za)(E:XK)(f:D->DH->R D):V->Hp->VK->Prop:=λx H Q=>PN3 K H x UB λa G d=>out E a (f d G) Q
def TJ(K:za)(E:XK)(f:List D->DH->R D):List V->Hp->VK->Prop:=λxs H Q=>PN3 K H xs KA λa G ds=>out E a (f ds G) Q
def lF(K:za)(f:List D->DH->R D):Sp:=λxs H Q _=>PN3 K H xs KA λa G ds=>out E0 a (f ds G) Q
noncomputable def WV(K:za)(f:List D->DH->R D):Sp:=λxs H Q E=>PN3 K H xs KA λa G ds=>out E a (f ds G) Q
section
variable{X:Cx}{E:XK}
def QE(X:Cx)(E:XK)(e:xw)(t:DE):Prop:=PE X e (lE X.K E t)
def QT(X:Cx)(E:XK)(e:xw)(t:DB):Prop:=PT X e (lB X.K E t)
def QA(X:Cx)(E:XK)(es:List xw)(t:DA):Prop:=PA X es (lA X.K E t)
def QS(X:Cx)(E:XK)(st:xA)(t:DS):Prop:=PS X st (lS X.K E t)
def OL(X:Cx)(E:XK)(st:List xA)(t:DS):Prop:=KJ X st (lS X.K E t)
def _root_._L.PE.mono(h:PE X e t)(w:∀b H Q,t' b H Q->t b H Q):PE X e t':=λa s b H Q I q=>h a s b H Q I (w b H Q q)
def _root_._L.PT.mono(h:PT X e t)(w:∀b H Q,t' b H Q->t b H Q):PT X e t':=λa s b H Q I q=>h a s b H Q I (w b H Q q)
def _root_._L.PA.mono(h:PA X e t)(w:∀b H Q,t' b H Q->t b H Q):PA X e t':=λc a s b H Q I q=>h c a s b H Q I (w b H Q q)
def _root_._L.PS.mono(h:PS X e t)(w:∀W b H,t' W b H->t W b H):PS X e t':=λa s b H W I q=>h a s b H W I (w W b H q)
def _root_._L.KJ.mono(h:KJ X e t)(w:∀W b H,t' W b H->t W b H):KJ X e t':=λa s b H W I q=>h a s b H W I (w W b H q)
def _root_._L.VB.mono(h:VB X f r)(w:∀x y H Q,r' x y H Q->r x y H Q):VB X f r':=λa s d H x y v u Q I c b q=>h a s d H x y v u Q I c b (w _ _ _ _ q)
end
theorem Ec(h:out E a (r.bind f) Q):
  out E a r (λv H=>PR3 a H r v UB λb d G=>out E b (f d G) Q):=by
 cases r with
 |ok d G=>exact λb v x s q=>⟨b,d,G,rfl,x,s,q,rfl,out.mono x h⟩
 |_=>exact h
theorem T5(h:out E a (r.bind f) Q):
  Ez E a r (λvs H=>PR3 a H r vs KA λb ds G=>out E b (f ds G) Q):=by
 cases r with
 |ok d G=>exact λb v x s q=>⟨b,d,G,rfl,x,s,q,rfl,out.mono x h⟩
 |_=>exact h
theorem d9(h:out E a (r.bind f) Q):
  Ff E a r (λk H=>PB3 a H r k λb G=>out E b (f k G) Q):=by
 cases r with
 |ok d G=>exact λb x s=>⟨b,G,rfl,x,s,rfl,out.mono x h⟩
 |_=>exact h
theorem pC(h:Ff E a (r.bind f) Q):
  out E a r (λv H=>PR3 a H r v UB λb d G=>Ff E b (f d G) Q):=by
 cases r with
 |ok d G=>exact λb v x s q=>⟨b,d,G,rfl,x,s,q,rfl,Ff.mono x h⟩
 |_=>exact h
theorem Za(h:Ff E a (r.bind f) Q):
  Ff E a r (λk H=>PB3 a H r k λb G=>Ff E b (f k G) Q):=by
 cases r with
 |ok d G=>exact λb x s=>⟨b,G,rfl,x,s,rfl,Ff.mono x h⟩
 |_=>exact h
theorem pE(h:Ez E a (r.bind f) Q):
  out E a r (λv H=>PR3 a H r v UB λb d G=>Ez E b (f d G) Q):=by
 cases r with
 |ok d G=>exact λb v x s q=>⟨b,d,G,rfl,x,s,q,rfl,Ez.mono x h⟩
 |_=>exact h
theorem pF(h:Ez E a (r.bind f) Q):
  Ez E a r (λvs H=>PR3 a H r vs KA λb ds G=>Ez E b (f ds G) Q):=by
 cases r with
 |ok d G=>exact λb v x s q=>⟨b,d,G,rfl,x,s,q,rfl,Ez.mono x h⟩
 |_=>exact h
noncomputable def R.toS{α:Type}(f:α->DH->SR)(_:Fx f:=())(r:R α):SR:=match r with
 |.ok a G=>f a G
 |.err x G=>.err x G
 |.bad=>.bad
@[simp]theorem R.Gh{b:Type}(a:b)(G:DH)(f:b->DH->SR):(R.ok a G).toS f=f a G:=id rfl
@[simp]theorem R.F4{a:Type}(x:Xn)(G:DH)(f:a->DH->SR):(R.err x G:R a).toS f=.err x G:=id rfl
theorem Oh(h:Bh E a (r.toS f) W):
  out E a r (λv H=>PR3 a H r v UB λb d G=>Bh E b (f d G) W):=by
 cases r with
 |ok d G=>exact λb v x s q=>⟨b,d,G,rfl,x,s,q,rfl,Bh.mono x h⟩
 |_=>exact h
theorem pG(h:Bh E a (r.toS f) W):
  Ff E a r (λk H=>PB3 a H r k λb G=>Bh E b (f k G) W):=by
 cases r with
 |ok d G=>exact λb x s=>⟨b,G,rfl,x,s,rfl,Bh.mono x h⟩
 |_=>exact h
section
theorem out.imp(h:out E a r Q)(w:∀v H,Q v H->Q' v H):out E a r Q':=by
 cases r with
 |ok d G=>exact λb v x s q=>w _ _ (h b v x s q)
 |_=>exact h
theorem Ez.imp(h:Ez E a r Q)(w:∀v H,Q v H->Q' v H):Ez E a r Q':=by
 cases r with
 |ok d G=>exact λb v x s q=>w _ _ (h b v x s q)
 |_=>exact h
theorem Ff.imp(h:Ff E a r Q)(w:∀v H,Q v H->Q' v H):Ff E a r Q':=by
 cases r with
 |ok d G=>exact λb x s=>w _ _ (h b x s)
 |_=>exact h
def Wd.push(a:Wd)(p:xz)(ho:HO):Wd:=⟨a.K,a.n+1,λk=>if k=a.n then p else a.m k,upd a.H p ho⟩
def Wd.put(a:Wd)(p:xz)(ho:HO):Wd:={a with H:=upd a.H p ho}
def Ext.put(h:a.H p=uZ):Ext a (a.put p ho):=
 ⟨rfl,zY _,λ_ _=>rfl,λq c e=>by show upd a.H p ho q=_;rw[Aw (Hb e h)];exact e,λq o u e=>by show upd a.H p ho q=_;rw[Aw (Hb e h)];exact e,λ_ t=>t.mono (λq b e=>by show upd a.H p ho q=_;rw[Aw (Hb e h)];exact e) (λq o u e=>by show upd a.H p ho q=_;rw[Aw (Hb e h)];exact e)⟩
def Ext.push(h:a.H p=uZ):Ext a (a.push p ho):=
 ⟨rfl,jy _,λi b=>by show(if i=a.n then p else a.m i)=a.m i;rw[if_neg (zP b)],λq d e=>by show upd a.H p ho q=_;rw[Aw (Hb e h)];exact e,λq o u e=>by show upd a.H p ho q=_;rw[Aw (Hb e h)];exact e,λ_ t=>t.mono (λq c e=>by show upd a.H p ho q=_;rw[Aw (Hb e h)];exact e) (λq o u e=>by show upd a.H p ho q=_;rw[Aw (Hb e h)];exact e)⟩
def XD.mono(x:Ext a b)(h:XD a od fs):XD b od fs:=by
 rcases h with h|⟨d,o,c,e,f,k,r⟩
 .exact .inl h
 exact .inr ⟨d,o,c,e,x.WB _ _ _ f,k,r.mono x⟩
theorem ME.mono(x:Ext a b)(h:ME a o q):ME b o q:=by
 cases o with
 |lst s=>obtain⟨f,e,r⟩:=h;exact⟨f,e,r.mono x⟩
 |LU g=>obtain⟨d,e,k,r⟩:=h;exact⟨d,e,k,r.mono x⟩
 |ins c fs=>obtain⟨C,i,d,n,e,k,r⟩:=h;exact⟨C,i,d,x.k▸n,e,k,r.mono x⟩
 |tab C m=>obtain⟨c,P,e,t⟩:=h;exact⟨c,P,x.k▸e,x.tab _ t⟩
 |exc c fs=>obtain⟨C,p,u,f,n,e,j,l,z⟩:=h;exact⟨C,p,u,f,x.k▸n,e,j,l,z.mono x⟩
 |gone=>trivial
def QB.lt(s:QB a G)(h:G[i]?=uQ o):i<a.n:=by rw[<-s.len];exact(zv.mp h).1
def QB.put(s:QB a G)(h:a.H p=uZ):QB (a.put p ho) G:=by
 refine⟨s.len,s.inj,λi o e=>?_,λi b=>?_⟩
 .have z:=s.tr i (s.lt e);show ME _ o (upd a.H p ho (a.m i));rw[Aw (λq=>z (by rw[q];exact h))];exact(s.obj i o e).mono (.put h)
 have z:=s.tr i b;show upd a.H p ho (a.m i)≠uZ;rw[Aw (λq=>z (by rw[q];exact h))];exact z
def QB.push(s:QB a G)(h:a.H p=uZ)(r:ME (a.push p ho) o (uQ ho)):QB (a.push p ho) (G++[o]):=by
 have f:∀i,i<a.n->a.m i≠p:=λi g q=>s.tr i g (q▸h)
 have b:∀i,i<a.n->(a.push p ho).m i=a.m i:=λi g=>by show(if i=a.n then p else a.m i)=_;rw[if_neg (zP g)]
 have d:(a.push p ho).m a.n=p:=by show(if a.n=a.n then p else a.m a.n)=_;rw[if_pos rfl]
 refine⟨by simp[s.len,Wd.push],λi j g v e=>?_,λi u e=>?_,λi g=>?_⟩
 .have l:i<a.n+1:=g;have w:j<a.n+1:=v;by_cases c:i<a.n
  .by_cases k:j<a.n
   .rw[b i c,b j k]at e;exact s.inj i j c k e
   have:j=a.n:=by lia
   subst this;rw[b i c,d]at e;exact absurd e (f i c)
  have:i=a.n:=by lia
  subst this;by_cases k:j<a.n
  .rw[b j k,d]at e;exact absurd e.symm (f j k)
  lia
 .by_cases c:i<a.n
  .rw[zN (s.len▸c)]at e;rw[b i c];show ME _ u (upd a.H p ho (a.m i));rw[Aw (f i c)];exact(s.obj i u e).mono (.push h)
  have t:=(zv.mp e).1;have:i=a.n:=by rw[zC,s.len]at t;simp at t;lia
  subst this;rw[zL (s.len▸zY _),s.len]at e;simp at e;subst e;rw[d];show ME _ o (upd a.H p ho p);rw[Hw];exact r
 have l:i<a.n+1:=g;by_cases c:i<a.n
 .rw[b i c];show upd a.H p ho (a.m i)≠uZ;rw[Aw (f i c)];exact s.tr i c
 .have:i=a.n:=by lia
  subst this;rw[d];show upd a.H p ho p≠uZ;rw[Hw];simp
def Ext.wr(h:a.H p=uQ (.lst vs)):Ext a (a.put p ho):=
 ⟨rfl,zY _,λ_ _=>rfl,λq c e=>by
  show upd a.H p ho q=_;rw[Aw (λz=>by subst z;rw[h]at e;cases e)];exact e,λq o u e=>by
  show upd a.H p ho q=_;rw[Aw (λz=>by subst z;rw[h]at e;cases e)];exact e,λ_ t=>t.mono (λq b e=>by show upd a.H p ho q=_;rw[Aw (λz=>by subst z;rw[h]at e;cases e)];exact e) (λq o u e=>by show upd a.H p ho q=_;rw[Aw (λz=>by subst z;rw[h]at e;cases e)];exact e)⟩
def QB.wr(s:QB a G)(c:i<a.n)(h:a.H (a.m i)=uQ (.lst vs))(r:KA (a.put (a.m i) (.lst PL)) ds' PL):QB (a.put (a.m i) (.lst PL)) (G.set i (.lst ds')):=by
 refine⟨by rw[qF];exact s.len,s.inj,λj o e=>?_,λj d=>?_⟩
 .rw[qM]at e;show ME _ o (upd a.H (a.m i) (.lst PL) (a.m j));by_cases b:i=j
  .subst b;rw[if_pos rfl,if_pos (s.len▸c)]at e;cases e;rw[Hw];exact⟨PL,rfl,r⟩
  rw[if_neg b]at e;rw[Aw λz=>b (s.inj _ _ (s.lt e) c z).symm];exact(s.obj j o e).mono (.wr h)
 show upd a.H (a.m i) (.lst PL) (a.m j)≠uZ;by_cases b:a.m j=a.m i
 .rw[b,Hw];simp
 rw[Aw b];exact s.tr j d
mutual
noncomputable def lC(n:Nat):D->Bool
 |.ref i=>decide (i<n)
 |.tup ds=>MA n ds
 |.fl ds=>MA n ds
 |_=>uJ
noncomputable def MA(n:Nat):List D->Bool
 |[]=>uJ
 |d::ds=>lC n d&&MA n ds
end
def M3(n:Nat):DO->Bool
 |.lst ds=>MA n ds
 |.LU LD=>MA n (LD.map (·.2))
 |.ins _ fs=>MA n (fs.map (·.2))
 |.tab _ _=>uJ
 |.exc _ fs=>MA n (fs.map (·.2))
 |.gone=>uJ
mutual
theorem UB.lC:∀{d:D}{v:V},UB a d v->lC a.n d=uJ
 |.UA,_,_=>by simp[_D.lC]
 |.bl _,_,_=>by simp[_D.lC]
 |.int _,_,_=>by simp[_D.lC]
 |.str _,_,_=>by simp[_D.lC]
 |.ty _,_,_=>by simp[_D.lC]
 |.tup b,v,h=>by obtain⟨p,c,e,q,r⟩:=h;simp only[_D.lC];exact KA.MA r
 |.fl b,v,h=>by obtain⟨p,c,e,q,r⟩:=h;simp only[_D.lC];exact KA.MA r
 |.ref i,v,h=>by obtain⟨l,e⟩:=h;simp only[_D.lC];exact decide_eq_true l
theorem KA.MA:∀{b:List D}{vs:List V},KA a b vs->MA a.n b=uJ
 |[],_,_=>by simp[_D.MA]
 |d::b,vs,h=>by
  obtain⟨v,r,e,f,c⟩:=h;simp only[_D.MA];rw[UB.lC f,KA.MA c]
  rfl
end
structure Cut (b c:Wd):Prop where
 k:c.K=b.K
 h:c.H=b.H
mutual
theorem UB.cut(x:Cut b c)(a:n<=c.n)(g:∀i,i<n->c.m i=b.m i):∀{d:D}{v:V},UB b d v->lC n d=uJ->UB c d v
 |.UA,_,h,_=>h
 |.bl _,_,h,_=>h
 |.int _,_,h,_=>h
 |.str _,_,h,_=>h
 |.ty _,_,h,_=>h
 |.tup o,v,h,q=>by obtain⟨p,f,e,t,r⟩:=h;simp only[_D.lC]at q;exact⟨p,f,e,by rw[x.k,x.h];exact t,KA.cut x a g r q⟩
 |.fl o,v,h,q=>by obtain⟨p,f,e,t,r⟩:=h;simp only[_D.lC]at q;exact⟨p,f,e,by rw[x.k,x.h];exact t,KA.cut x a g r q⟩
 |.ref i,v,h,q=>by obtain⟨l,e⟩:=h;simp only[_D.lC]at q;have j:=of_decide_eq_true q;exact⟨zK j a,by rw[g i j];exact e⟩
theorem KA.cut(x:Cut b c)(f:n<=c.n)(g:∀i,i<n->c.m i=b.m i):∀{a:List D}{vs:List V},KA b a vs->MA n a=uJ->KA c a vs
 |[],_,h,_=>h
 |d::a,vs,h,q=>by obtain⟨v,r,e,j,k⟩:=h;simp only[_D.MA,zq]at q;exact⟨v,r,e,UB.cut x f g j q.1,KA.cut x f g k q.2⟩
end
theorem ME.cut(x:Cut b c)(d:n<=c.n)(g:∀i,i<n->c.m i=b.m i)(h:ME b o q)(l:M3 n o=uJ):ME c o q:=by
 cases o with
 |lst A=>obtain⟨p,e,r⟩:=h;exact⟨p,e,.cut x d g r l⟩
 |LU s=>obtain⟨a,e,k,r⟩:=h;exact⟨a,e,k,.cut x d g r l⟩
 |ins c fs=>obtain⟨C,j,a,n,e,k,r⟩:=h;exact⟨C,j,a,x.k▸n,e,k,.cut x d g r l⟩
 |tab C m=>obtain⟨c,P,e,t⟩:=h;exact⟨c,P,x.k▸e,x.h▸t⟩
 |exc c fs=>
  obtain⟨C,y,u,p,n,e,v,w,z⟩:=h;refine⟨C,y,u,p,x.k▸n,e,v,w,?_⟩;rcases z with z|⟨j,o,a,e,f,k,r⟩
  .exact .inl z
  exact .inr ⟨j,o,a,e,x.h▸f,k,.cut x d g r l⟩
 |gone=>trivial
theorem ME.M3(h:ME a o q):M3 a.n o=uJ:=by
 cases o with
 |lst l=>obtain⟨i,e,r⟩:=h;exact r.MA
 |LU d=>obtain⟨b,e,k,r⟩:=h;exact r.MA
 |ins c fs=>obtain⟨C,g,b,n,e,k,r⟩:=h;exact r.MA
 |exc c fs=>
  obtain⟨C,s,u,i,n,e,j,p,z⟩:=h;rcases z with⟨z,_⟩|⟨g,o,b,e,f,k,r⟩
  .rw[z];rfl
  exact r.MA
 |_=>rfl
open Classical in
def tidy (G:DH) (r:R D):R D:=match r with
 | .ok d G'=>if G'.take G.length=G then
   (if lC G.length d=uJ then .ok d G else match d with
    |.ref i=>match G'[i]? with
     |some o=>if M3 G.length o=uJ then .ok (.ref G.length) (G++[o])else .ok d G'
     |none=>.ok d G'
    |_=>.ok d G')else .ok d G'
 |r=>r
theorem da (s:QB a G) (h:out E a (tidy G r) Q):out E a r Q:=by
 cases r with
 | ok d M=>
  intro b v x f I;unfold tidy at h;dsimp only at h;split at h
  .rename_i S;have F:∀i o,G[i]?=uQ o->M[i]?=uQ o:=λi o e=>by have C:=(zv.mp e).1;rw[<-S,jY C]at e;exact e
   have t:∀(c:Wd),Cut b c->a.n<=c.n->(∀i,i<a.n->c.m i=b.m i)->∀i o,G[i]?=uQ o->ME c o (c.H (c.m i)):=λc q P N i o e=>by rw[q.h,N i (s.lt e)];exact(f.obj i o (F i o e)).cut q P N (s.obj i o e).M3
   split at h
   .rename_i z;rw[s.len]at z;let c:Wd:=⟨b.K,a.n,b.m,b.H⟩;have q:Cut b c:=⟨rfl,rfl⟩;exact h c v ⟨x.k,zY _,x.m,x.tup,x.WB,x.tab⟩ ⟨s.len,λi j C g=>f.inj i j (zK C x.n) (zK g x.n),t c q (zY _) (λ_ _=>rfl),λi C=>f.tr i (zK C x.n)⟩ (I.cut q (zY _) (λ_ _=>rfl) z)
   rename_i z;split at h
   .rename_i i;obtain⟨B,L⟩:=I;split at h
    .rename_i o T;split at h
     .rename_i A;rw[s.len]at A z h;simp[_D.lC,decide_eq_true_eq]at z;let c:Wd:=⟨b.K,a.n+1,λk=>if k=a.n then b.m i else b.m k,b.H⟩;have q:Cut b c:=⟨rfl,rfl⟩;have w:∀j,j<a.n->c.m j=b.m j:=λj g=>by show(if j=a.n then b.m i else b.m j)=_;rw[if_neg (zP g)]
      have cn:c.m a.n=b.m i:=by show(if a.n=a.n then b.m i else b.m a.n)=_;rw[if_pos rfl]
      have l:∀j,j<a.n->j<b.n:=λj g=>zK g x.n
      refine h c v ⟨x.k,jy _,λj g=>(w j g).trans (x.m j g),x.tup,x.WB,x.tab⟩ ⟨by simp[s.len,c],λj k g hk e=>?_,λj u e=>?_,λj g=>?_⟩ ⟨q9 _,cn▸L⟩
      .have J:j<a.n+1:=g;have U:k<a.n+1:=hk;by_cases p:j<a.n
       .by_cases y:k<a.n
        .rw[w j p,w k y]at e;exact f.inj j k (l j p) (l k y) e
        .have:k=a.n:=by lia
         subst this;rw[w j p,cn]at e;have:=f.inj j i (l j p) B e;lia
       .have:j=a.n:=by lia
        subst this;by_cases y:k<a.n
        .rw[w k y,cn]at e;have:=f.inj i k B (l k y) e;lia
        lia
      .by_cases p:j<a.n
       .rw[zN (s.len▸p)]at e;exact t c q (jy _) w j u e
       .have O:=(zv.mp e).1;have:j=a.n:=by rw[zC,s.len]at O;simp at O;lia
        subst this;rw[zL (s.len▸zY _),s.len]at e;simp at e;subst e;rw[cn];exact(f.obj i o T).cut q (jy _) w A
      .have J:j<a.n+1:=g;by_cases p:j<a.n
       .rw[w j p];exact f.tr j (l j p)
       .have:j=a.n:=by lia
        subst this;rw[cn];exact f.tr i B
     exact h b v x f ⟨B,L⟩
    exact h b v x f ⟨B,L⟩
   exact h b v x f I
  exact h b v x f I
 |_=>exact h
end
noncomputable def dV(i:Nat):DE:=λS G=>match S[i]? with
 |some (uQ d)=>.ok d G
 |_=>.bad
noncomputable def dC(d:D):DE:=λ_ G=>.ok d G
def NA(f:D->D->DH->R D)(a b:DE):DE:=λS G=>(a S G).bind λx G1=>(b S G1).bind λy G2=>f x y G2
def XE(f:D->DH->R D)(a:DE):DE:=λS G=>(a S G).bind f
noncomputable def Bl:DA:=λ_ G=>.ok [] G
def An(a:DE)(r:DA):DA:=λS G=>(a S G).bind λx G1=>(r S G1).bind λxs G2=>.ok (x::xs) G2
def JA(f:List D->DH->R D)(t:DA):DE:=λS G=>(t S G).bind f
def Ei(t:DE):DE:=λS G=>tidy G (t S G)
noncomputable def WM:D->DH->R Bool
 |.bl k,G=>.ok k G
 |_,_=>.bad
def Al(t:DE):DB:=λS G=>(t S G).bind WM
def Ck(t u:DB):DB:=λS G=>(t S G).bind λk G1=>if k=uJ then u S G1 else .ok uX G1
def PH(t u:DB):DB:=λS G=>(t S G).bind λk G1=>if k=uJ then .ok uJ G1 else u S G1
def Cp(t:DB):DB:=λS G=>(t S G).bind λk G1=>.ok (!k) G1
def J6(t u:DE):DE:=λS G=>(t S G).bind λx G1=>(WM x G1).bind λk G2=>if k=uJ then u S G2 else .ok (.bl uX) G2
def Th(t u:DE):DE:=λS G=>(t S G).bind λx G1=>(WM x G1).bind λk G2=>if k=uJ then .ok (.bl uJ) G2 else u S G2
def Sq(t:DE):DE:=λS G=>(t S G).bind λx G1=>(WM x G1).bind λk G2=>.ok (.bl (!k)) G2
def I7(f g:D->D->DH->R D)(a b c:DE):DE:=λS G=>(a S G).bind λx G1=>(b S G1).bind λy G2=>(f x y G2).bind λz G3=>(WM z G3).bind λk G4=>
 if k=uJ then(c S G4).bind λw G5=>g y w G5 else .ok (.bl uX) G4
noncomputable def Aq(ds:List D)(G:DH):R D:=if ds.length<=1000000 then .ok (.tup ds) G else .bad
noncomputable def Ai(ds:List D)(G:DH):R D:=if ds.length<=1000000 then .ok (.ref G.length) (G++[.lst ds])else .bad
noncomputable def Be(d:D)(G:DH):Option (List D):=match d with
 |.tup xs=>uQ xs
 |.fl xs=>uQ xs
 |.ref i=>match G[i]? with
  |some (.lst xs)=>uQ xs
  |_=>uZ
 |_=>uZ
def UC:(1000000:Nat)<=sizeLine:=by decide
section
variable{X:Cx}{E:XK}{a b c:xw}{ta tb tc:DE}{pos:Pos}
def two{K:za}{f:D->D->DH->R D}{g:St}{H:Hp}{Q:VK}(h:lE K E (NA f ta tb) g H Q):MV (WE K E f) (lE K E ta) (lE K E tb) g H Q:=by obtain⟨a,S,G,hk,rfl,s,r,h⟩:=h;refine⟨a,S,G,hk,rfl,s,r,(Ec h).imp ?_⟩;rintro v _ ⟨b,d,i,rfl,x,z,q,_,j⟩;refine⟨b,S,i,x.k.trans hk,rfl,z,r.mono x,(Ec j).imp ?_⟩;rintro w _ ⟨c,e,n,rfl,y,m,o,_,l⟩;exact⟨c,n,d,e,y.k.trans (x.k.trans hk),rfl,m,q.mono y,o,l⟩
def Av(i:Nat){pos:Pos}(j:X.N[i]?=uQ x:=by rfl)(k:ZO X.env.scope x:=by first|exact Or.inl rfl|exact Or.inr (Or.inl rfl)|exact Or.inr (Or.inr rfl))(l:(x==("__debug__":Str))=uX:=by decide)
  (f:(x==("__classdict__":Str))=uX:=by decide):QE X E (.Name x pos) (dV i):=by
 refine(Rv j k l f).mono λm H Q h=>?_
 obtain⟨a,S,G,hk,rfl,s,r,h⟩:=h;unfold dV at h;split at h
 .rename_i d e;obtain⟨v,g,q⟩:=r.get i d e;exact⟨v,g,h a v (.refl a) s q⟩
 exact h.elim
def Pq{K:za}{d:D}{v:V}{f:St}{H:Hp}{Q:VK}(h:lE K E (dC d) f H Q)(r:∀a:Wd,a.K=K->UB a d v):Q v H:=by obtain⟨a,S,G,hk,rfl,s,_,h⟩:=h;exact h a v (.refl a) s (r a hk)
def Gz{i:Int}{j:Nat}:QE X E (.Constant (.int i) j pos) (dC (.int i)):=mH.mono λd H Q h=>Pq h λ_ _=>rfl
def pI{i:Bool}{j:Nat}:QE X E (.Constant (.bool i) j pos) (dC (.bl i)):=mI.mono λd H Q h=>Pq h λ_ _=>rfl
def pJ{j:Nat}:QE X E (.Constant .none j pos) (dC .UA):=mJ.mono λd H Q h=>Pq h λ_ _=>rfl
def Ii{i:Str}{j:Nat}:QE X E (.Constant (.str i) j pos) (dC (.str i)):=W5.mono λd H Q h=>Pq h λ_ _=>rfl
def ae(g:Gl X x)(i:X.mg x=uQ u)(r:RelV v u)(f:∀a:Wd,a.K=X.K->UB a d v)(j:(x==("__debug__":Str))=uX:=by decide):QE X E (.Name x pos) (dC d):=
 (dB g i r j).mono λk H Q h=>Pq h f
def J0(ho:VB X (xI op) (WE X.K E f))(g:QE X E a ta)(d:QE X E b tb):QE X E (.BinOp a op b pos) (NA f ta tb):=
 (mq ho g d).mono λ_ _ _ h=>two h
def Nb(ho:VB X (xO op) (WE X.K E f))(g:QE X E a ta)(d:QE X E b tb)(i:xH op b=uX):QE X E (.Compare a [op] [b] pos) (NA f ta tb):=
 (nK ho g d i).mono λ_ _ _ h=>two h
theorem af{K:za}{t:DE}{f:St}{H:Hp}{Q:Bool->Hp->Prop}(h:lB K E (Al t) f H Q):U3 (lE K E t) f H Q:=by
 obtain⟨a,S,G,hk,rfl,s,r,h⟩:=h;refine⟨a,S,G,hk,rfl,s,r,(pC h).imp ?_⟩;rintro v _ ⟨b,d,j,rfl,x,i,q,_,g⟩;cases d with
 |bl k=>exact⟨k,q,g b (.refl b) i⟩
 |_=>exact g.elim
def dc(w:∀d H Q,t' d H Q->t d H Q)(d:St)(H:Hp)(Q:Bool->Hp->Prop)(h:U3 t' d H Q):U3 t d H Q:=w _ _ _ h
def Mx(ho:VB X (xO op) (WE X.K E f))(i:QE X E a ta)(g:QE X E b tb)(j:xH op b=uX):QT X E (.Compare a [op] [b] pos) (Al (NA f ta tb)):=
 (nL ho i g j).mono λd H Q h=>dc (λ_ _ _ z=>two z) d H Q (af h)
theorem chain{K:za}{f g:D->D->DH->R D}{n:St}{H:Hp}{Q:VK}(h:lE K E (I7 f g ta tb tc) n H Q):aX (WE K E f) (WE K E g) (lE K E ta) (lE K E tb) (lE K E tc) n H Q:=by
 obtain⟨a,S,G,hk,rfl,s,r,h⟩:=h;refine⟨a,S,G,hk,rfl,s,r,(Ec h).imp ?_⟩;rintro v _ ⟨b,d,B,rfl,x,U,q,_,O⟩;refine⟨b,S,B,x.k.trans hk,rfl,U,r.mono x,(Ec O).imp ?_⟩;rintro w _ ⟨c,e,J,rfl,y,P,l,_,C⟩;refine⟨c,J,d,e,y.k.trans (x.k.trans hk),rfl,P,q.mono y,l,(Ec C).imp ?_⟩;rintro z _ ⟨o,F,T,rfl,i,A,Y,_,j⟩;cases F with
 | bl k=>
  refine⟨k,Y,?_⟩;cases k with
  |false=>exact j o (.bl uX) (.refl _) A rfl
  |true=>
   refine⟨o,S,T,(i.k.trans (y.k.trans (x.k.trans hk))),rfl,A,((r.mono x).mono y).mono i,(Ec j).imp ?_⟩;rintro z4 _ ⟨M,e4,L,rfl,m,I,N,_,Z⟩;exact⟨M,L,e,e4,m.k.trans (i.k.trans (y.k.trans (x.k.trans hk))),rfl,I,(l.mono i).mono m,N,Z⟩
 |_=>exact j.elim
def de(ho:VB X (xO op) (WE X.K E f))(d:VB X (xO op') (WE X.K E g))(j:QE X E a ta)(i:QE X E b tb)(l:QE X E c tc)
  (k:lastMarks [op,op'] [b,c]=uX:=by with_unfolding_all rfl):QE X E (.Compare a [op,op'] [b,c] pos) (I7 f g ta tb tc):=
 (nM ho d j i l k).mono λ_ _ _ h=>chain h
def pK(ho:VB X (xO op) (WE X.K E f))(d:VB X (xO op') (WE X.K E g))(k:QE X E a ta)(j:QE X E b tb)(m:QE X E c tc)
  (l:lastMarks [op,op'] [b,c]=uX:=by with_unfolding_all rfl):QT X E (.Compare a [op,op'] [b,c] pos) (Al (I7 f g ta tb tc)):=
 (nN ho d k j m l).mono λi H Q h=>dc (λ_ _ _ z=>chain z) i H Q (af h)
def Hu(g:QE X E a ta)(f:∀d,isTrue a X.env d=(do let v<-d;standAt a.pos;holding [v] (truthy v)):=by intro _;rfl):QT X E a (Al ta):=
 (mK g f).mono λi H Q h=>af h
def S6(d:QE X E a ta):QE X E a (Ei ta):=.mono d λf H Q h=>by obtain⟨w,S,G,hk,rfl,s,r,h⟩:=h;exact⟨w,S,G,hk,rfl,s,r,da s h⟩
def QW(X:Cx)(E:XK)(e:xw)(t:DB):Prop:=PW X e (lB X.K E t)
def _root_._L.PW.mono(h:PW X e t)(w:∀d H Q,t' d H Q->t d H Q):PW X e t':=λg f s d H Q I q=>h g f s d H Q I (w d H Q q)
variable{u t:DB}{rest:List xw}
theorem pL{K:za}{d:St}{H:Hp}{Q:Bool->Hp->Prop}(h:lB K E (Ck t u) d H Q):YU (lB K E t) (lB K E u) d H Q:=by
 obtain⟨a,S,G,hk,rfl,s,r,h⟩:=h;refine⟨a,S,G,hk,rfl,s,r,(Za h).imp ?_⟩;rintro k _ ⟨b,i,rfl,x,g,_,f⟩;cases k with
 |true=>exact⟨b,S,i,x.k.trans hk,rfl,g,r.mono x,f⟩
 |false=>exact f b (.refl b) g
theorem pM{K:za}{d:St}{H:Hp}{Q:Bool->Hp->Prop}(h:lB K E (PH t u) d H Q):O' (lB K E t) (lB K E u) d H Q:=by
 obtain⟨a,S,G,hk,rfl,s,r,h⟩:=h;refine⟨a,S,G,hk,rfl,s,r,(Za h).imp ?_⟩;rintro k _ ⟨b,i,rfl,x,g,_,f⟩;cases k with
 |true=>exact f b (.refl b) g
 |false=>exact⟨b,S,i,x.k.trans hk,rfl,g,r.mono x,f⟩
def Zn(d:QT X E a t):QW X E (.BoolOp .And [a] pos) t:=JP d
def Qu(d:QT X E a t):QW X E (.BoolOp .Or [a] pos) t:=TR d
def T8(f:QT X E a t)(d:QW X E (.BoolOp .And (b::rest) pos) u):QW X E (.BoolOp .And (a::b::rest) pos) (Ck t u):=(UR f d).mono λ_ _ _ h=>pL h
def N8(f:QT X E a t)(d:QW X E (.BoolOp .Or (b::rest) pos) u):QW X E (.BoolOp .Or (a::b::rest) pos) (PH t u):=(ZU f d).mono λ_ _ _ h=>pM h
def Jf(h:QW X E a t):QT X E a t:=_L.PW.pt h
def Hy(f:QT X E a t):QT X E (.UnaryOp .Not a pos) (Cp t):=(mL f).mono λj H Q h=>by obtain⟨a,S,G,hk,rfl,s,r,h⟩:=h;refine⟨a,S,G,hk,rfl,s,r,(Za h).imp ?_⟩;rintro k _ ⟨b,i,rfl,x,g,_,d⟩;exact d b (.refl b) g
def Qw{op}(h:QE X E a ta):QE X E (.BoolOp op [a] pos) ta:=mO h
theorem ag(l:QE X E a ta)(j:QE X E (.BoolOp .And (b::rest) pos) tb):QE X E (.BoolOp .And (a::b::rest) pos) (J6 ta tb):=(mP l j).mono λm H Q h=>by
 obtain⟨a,S,G,hk,rfl,s,r,h⟩:=h;refine⟨a,S,G,hk,rfl,s,r,(Ec h).imp ?_⟩;rintro v _ ⟨b,d,i,rfl,x,g,q,_,f⟩;cases d with
 |bl k=>
  refine⟨k,q,?_⟩;cases k with
  |true=>exact⟨b,S,i,x.k.trans hk,rfl,g,r.mono x,f⟩
  |false=>exact f b _ (.refl b) g rfl
 |_=>exact f.elim
theorem df(l:QE X E a ta)(j:QE X E (.BoolOp .Or (b::rest) pos) tb):QE X E (.BoolOp .Or (a::b::rest) pos) (Th ta tb):=(mQ l j).mono λm H Q h=>by
 obtain⟨a,S,G,hk,rfl,s,r,h⟩:=h;refine⟨a,S,G,hk,rfl,s,r,(Ec h).imp ?_⟩;rintro v _ ⟨b,d,i,rfl,x,g,q,_,f⟩;cases d with
 |bl k=>
  refine⟨k,q,?_⟩;cases k with
  |false=>exact⟨b,S,i,x.k.trans hk,rfl,g,r.mono x,f⟩
  |true=>exact f b _ (.refl b) g rfl
 |_=>exact f.elim
theorem dg(g:QE X E a ta):QE X E (.UnaryOp .Not a pos) (Sq ta):=(mR g).mono λl H Q h=>by
 obtain⟨a,S,G,hk,rfl,s,r,h⟩:=h;refine⟨a,S,G,hk,rfl,s,r,(Ec h).imp ?_⟩;rintro v _ ⟨b,d,j,rfl,x,i,q,_,f⟩;cases d with
 |bl k=>exact⟨k,q,f b _ (.refl b) i rfl⟩
 |_=>exact f.elim
variable{es:List xw}{tr:DA}
def Ef:QA X E [] Bl:=aY.mono λd H Q h=>by obtain⟨a,S,G,hk,rfl,s,r,h⟩:=h;exact h a [] (.refl a) s rfl
noncomputable def notStar:xw->Bool
 |.Starred _ _=>uX
 |_=>uJ
def Ht(a:xw)(es:List xw)(env:Env)(h:notStar a=uJ):vX (a::es) env=(uX,eval a env)::vX es env:=by
 cases a<;>first
  |exact absurd h z6
  |rfl
theorem Mu(pos:Pos)(env:Env):∀es:List xw,es.all notStar=uJ->(xF pos (vX es env)).any (·.1)=uX
 |[],_=>rfl
 |a::es,h=>by
  rw[j5,zq]at h;rw[Ht a es env h.1];have d:=Mu pos env es h.2;unfold xF at d⊢;rw[zJ,List.any_cons,d]
  rfl
def Cq(m:QE X E a ta)(o:QA X E es tr)(i:notStar a=uJ:=by rfl):QA X E (a::es) (An ta tr):=(R6 m o (Ht a es X.env i)).mono λz H Q h=>by obtain⟨a,S,G,hk,rfl,s,r,h⟩:=h;refine⟨a,S,G,hk,rfl,s,r,(pE h).imp ?_⟩;rintro v _ ⟨b,d,f,rfl,x,w,q,_,g⟩;refine⟨b,S,f,x.k.trans hk,rfl,w,r.mono x,(pF g).imp ?_⟩;rintro A _ ⟨c,C,B,rfl,y,l,n,_,j⟩;exact j c _ (.refl c) l (.cons (q.mono y) n)
def pN{x1}(h:QA X E es tr):QE X E (.Tuple es x1 pos) (JA Aq tr):=(nX h).mono λk H Q h=>by
 obtain⟨a,S,G,hk,rfl,s,r,h⟩:=h;refine⟨a,S,G,hk,rfl,s,r,(T5 h).imp ?_⟩;rintro f _ ⟨b,l,j,rfl,x,i,q,_,d⟩;unfold Aq at d;split at d
 .rename_i g;exact⟨by rw[<-q.length];exact zy g UC,λp hp=>(d (b.put p (.tup f)) (.ref p) (.put hp) (i.put hp) ⟨p,f,rfl,.of Hw,q.mono (.put hp)⟩)⟩
 exact d.elim
def Qk(h:QA X E es tr):QE X E (.List es pos) (JA Ai tr):=(nY h).mono λk H Q h=>by
 obtain⟨a,S,G,hk,rfl,s,r,h⟩:=h;refine⟨a,S,G,hk,rfl,s,r,(T5 h).imp ?_⟩;rintro g _ ⟨b,l,j,rfl,x,f,q,_,d⟩;unfold Ai at d;split at d
 .rename_i i;refine⟨by rw[<-q.length];exact zy i UC,λp hp=>?_⟩;refine d (b.push p (.lst g)) (.ref p) (.push hp) (f.push hp ⟨g,rfl,q.mono (.push hp)⟩) ⟨?_,?_⟩
  .rw[f.len];exact q9 _
  rw[f.len];show V.ref p=.ref (if b.n=b.n then p else b.m b.n);rw[if_pos rfl]
 exact d.elim
variable{e:xw}{x:Str}{p:Pos}
def T6{K:za}{f:List D->DH->R D}{d:St}{H:Hp}{Q:VK}(h:lE K E (JA f tr) d H Q):lA K E tr d H (λvs g=>TJ K E f vs g Q):=by obtain⟨a,S,G,hk,rfl,s,r,h⟩:=h;refine⟨a,S,G,hk,rfl,s,r,(T5 h).imp ?_⟩;rintro vs _ ⟨b,l,i,rfl,x,m,q,_,j⟩;exact⟨b,i,l,x.k.trans hk,rfl,m,q,j⟩
def Nh{id:String}{f:List D->DH->R D}(n:YA X (.builtin id) (TJ X.K E f))(j:Gl X x)(m:X.mg x=uZ)(l:xL x=uQ (.builtin id))(k:QA X E (e::es) tr)(i:x≠"__name__":=by decide)(g:(x==("__debug__":Str))=uX:=by decide)
  (o:notStar e=uJ:=by rfl) (d:es.all notStar=uJ:=by rfl):QE X E (.Call (.Name x p) (e::es) [] pos) (JA f tr):=
 (dR n j m l k i g (Ht e es X.env o) (Mu pos X.env es d)).mono λq H Q h=>T6 h
def ai{id:String}{f:List D->DH->R D}(n:YA X (.type id) (TJ X.K E f))(j:Gl X x)(m:X.mg x=uZ)(l:xL x=uQ (.type id))(k:QA X E (e::es) tr)(i:x≠"__name__":=by decide)(g:(x==("__debug__":Str))=uX:=by decide)
  (o:notStar e=uJ:=by rfl) (d:es.all notStar=uJ:=by rfl):QE X E (.Call (.Name x p) (e::es) [] pos) (JA f tr):=
 (na n j m l k i g (Ht e es X.env o) (Mu pos X.env es d)).mono λq H Q h=>T6 h
def pO{CX:IL}{k:Nat}{f:xz}{i:xk}{ps:List Str}{F:List D->DH->R D}(m:KC X.prog X.w X.K X.mg X.base CX k f i ps (lF X.K F))(C:TB k X.A)(n:Gl X x)(z:X.mg x=uQ (.ref f))(hk:zh X.K (.ref f)=uJ)(v:Binds X.K i ps [])
  (o:Passes CX X E0) (y:QA X E0 (e::es) tr) (g:(x==("__debug__":Str))=uX:=by decide) (J:notStar e=uJ:=by rfl) (d:es.all notStar=uJ:=by rfl):
  QE X E0 (.Call (.Name x p) (e::es) [] pos) (JA F tr):=
 (aZ m C n z hk v .nil o y g (Ht e es X.env J) (Mu pos X.env es d)).mono λL H Q h=>by
  replace h:=T6 h;obtain⟨a,S,G,hk,rfl,s,r,h⟩:=h
  refine⟨a,S,G,hk,rfl,s,r,h.imp ?_⟩;rintro M _ ⟨b,j,B,hk,rfl,I,q,l⟩;exact⟨b,j,B,hk,rfl,I,by rw[qY];exact q,l⟩
def Ol(g:RJ X (WE X.K E f))(i:QE X E a ta)(j:QE X E b tb)(d:NK b:=by intro _ _;rfl):QE X E (.Subscript a b pos) (NA f ta tb):=
 (oN g i j d).mono λ_ _ _ h=>two h
end
noncomputable instance (i j:Int):Decidable (UM i j):=by unfold UM;infer_instance
noncomputable instance (i j:Int):Decidable (LP i j):=by unfold LP;infer_instance
def OK(j:Int):Prop:=0<j/\j.natAbs.log2<9000
noncomputable instance (j:Int):Decidable (OK j):=by unfold OK;infer_instance
noncomputable def S9:D->D->DH->R D
 |.int i,.int j,G=>.ok (.int (i-j)) G
 |_,_,_=>.bad
def R1:D->D->DH->R D
 |.int i,.int j,G=>if OK j then .ok (.int (i/j)) G else .bad
 |_,_,_=>.bad
noncomputable def K7:D->D->DH->R D
 |.int i,.int j,G=>if 0<j then .ok (.int (i%j)) G else .bad
 |_,_,_=>.bad
def Tz:D->D->DH->R D
 |.int i,.int j,G=>if LP i j then .ok (.int (i^j.toNat)) G else .bad
 |_,_,_=>.bad
noncomputable def M6:D->D->DH->R D
 |.int i,.int j,G=>.ok (.bl (decide (i<j))) G
 |.str i,.str j,G=>.ok (.bl (decide (i.cps.toList<j.cps.toList))) G
 |_,_,_=>.bad
noncomputable def Fg:D->D->DH->R D
 |.int i,.int j,G=>.ok (.bl (decide (i<=j))) G
 |.str i,.str j,G=>.ok (.bl (!decide (j.cps.toList<i.cps.toList))) G
 |_,_,_=>.bad
noncomputable def R9:D->D->DH->R D
 |.int i,.int j,G=>.ok (.bl (decide (j<i))) G
 |.str i,.str j,G=>.ok (.bl (decide (j.cps.toList<i.cps.toList))) G
 |_,_,_=>.bad
noncomputable def Mq:D->D->DH->R D
 |.int i,.int j,G=>.ok (.bl (decide (j<=i))) G
 |.str i,.str j,G=>.ok (.bl (!decide (i.cps.toList<j.cps.toList))) G
 |_,_,_=>.bad
noncomputable def Ij(d:D)(G:DH):Option (List D):=match d with
 |.fl xs=>uQ xs
 |.ref i=>match G[i]? with
  |some (.lst xs)=>uQ xs
  |_=>uZ
 |_=>uZ
def By:D->D->DH->R D
 |.int i,.int j,G=>.ok (.int (i+j)) G
 |.str i,.str j,G=>if i.length+j.length<=1000000 then .ok (.str (i++j)) G else .bad
 |.tup xs,.tup ys,G=>if xs≠[]/\xs.length+ys.length<=1000000 then .ok (.tup (xs++ys)) G else .bad
 |d,e,G=>match Ij d G,Ij e G with
  |some xs,uQ ys=>if xs.length+ys.length<=1000000 then .ok (.ref G.length) (G++[.lst (xs++ys)])else .bad
  |_,_=>.bad
section
variable{X:Cx}{E:XK}
def Fy(ho:VB X f r)
  (h:∀(a:Wd)(G:DH)(d e:D)(x y:V)(Q:VK),a.K=X.K->QB a G->UB a d x->UB a e y->out E a (F d e G) Q->r x y a.H Q):VB X f (WE X.K E F):=
 ho.mono λx y H Q zz=>by obtain⟨a,G,d,e,hk,g,s,b,c,q⟩:=zz;subst g;exact h a G d e x y Q hk s b c q
def pP:VB X (xI .Sub) (WE X.K E S9):=Fy mv λa G d e x y Q hk s b c q=>by
 cases d<;>cases e<;>first
  |exact q.elim
  |exact⟨_,_,b,c,q a _ (.refl a) s rfl⟩
def pQ:VB X (xI .FloorDiv) (rI (λ_ j=>OK j) λi j=>.int (i/j)):=OY λi j _ _ _ _ _ a q=>by refine floordiv_int (by have:=a.1;lia) (by rw[Int.fdiv_eq_ediv_of_nonneg _ (Int.le_of_lt a.1)];exact q) (.inl (PyProof.noPylong_of_log2 a.2))
def pR:VB X (xI .FloorDiv) (WE X.K E R1):=Fy pQ λa G d e x y Q hk s rd re q=>by
 cases d<;>cases e<;>first
  |exact q.elim
  | (
    rename_i i j;unfold R1 at q;dsimp only at q;split at q
    .exact⟨_,_,rd,re,by assumption,q a _ (.refl a) s rfl⟩
    exact q.elim)
def dh:VB X (xI .Mod) (WE X.K E K7):=Fy mw λa G d e x y Q hk s rd re q=>by
 cases d<;>cases e<;>first
  |exact q.elim
  | (
    rename_i i j;unfold K7 at q;dsimp only at q;split at q
    .exact⟨_,_,rd,re,by assumption,q a _ (.refl a) s rfl⟩
    exact q.elim)
def pS:VB X (xI .Pow) (WE X.K E Tz):=Fy mx λa G d e x y Q hk s rd re q=>by
 cases d<;>cases e<;>first
  |exact q.elim
  | (
    rename_i i j;unfold Tz at q;dsimp only at q;split at q
    .exact⟨_,_,rd,re,by assumption,q a _ (.refl a) s rfl⟩
    exact q.elim)
def XV:VB X (xO .Lt) (WE X.K E M6):=Fy (mz.or nF) λa G d e x y Q hk s b c q=>by
 cases d<;>cases e<;>first
  |exact q.elim
  |exact .inl ⟨_,_,b,c,q a _ (.refl a) s rfl⟩
  |exact .inr ⟨_,_,b,c,q a _ (.refl a) s rfl⟩
def pT:VB X (xO .LtE) (λx y H Q=>∃i j,x=.str i/\y=.str j/\Q (.bl (!decide (j.cps.toList<i.cps.toList))) H):=by intro a s d H x y v u Q I b c h;obtain⟨i,j,rfl,rfl,q⟩:=h;obtain⟨t,rfl⟩:=b;obtain⟨e,rfl⟩:=c;exact PySem.P.le_str ⟨.bl _,H,I,rfl,q⟩
def pU:VB X (xO .Gt) (λx y H Q=>∃i j,x=.str i/\y=.str j/\Q (.bl (decide (j.cps.toList<i.cps.toList))) H):=by intro a s d H x y v u Q I b c h;obtain⟨i,j,rfl,rfl,q⟩:=h;obtain⟨t,rfl⟩:=b;obtain⟨e,rfl⟩:=c;exact PySem.P.gt_str ⟨.bl _,H,I,rfl,q⟩
def pV:VB X (xO .GtE) (λx y H Q=>∃i j,x=.str i/\y=.str j/\Q (.bl (!decide (i.cps.toList<j.cps.toList))) H):=by intro a s d H x y v u Q I b c h;obtain⟨i,j,rfl,rfl,q⟩:=h;obtain⟨t,rfl⟩:=b;obtain⟨e,rfl⟩:=c;exact PySem.P.ge_str ⟨.bl _,H,I,rfl,q⟩
def Tq:VB X (xO .LtE) (WE X.K E Fg):=Fy (nA.or pT) λa G d e x y Q hk s b c q=>by
 cases d<;>cases e<;>first
  |exact q.elim
  |exact .inl ⟨_,_,b,c,q a _ (.refl a) s rfl⟩
  |exact .inr ⟨_,_,b,c,q a _ (.refl a) s rfl⟩
def L3:VB X (xO .Gt) (WE X.K E R9):=Fy (nC.or pU) λa G d e x y Q hk s b c q=>by
 cases d<;>cases e<;>first
  |exact q.elim
  |exact .inl ⟨_,_,b,c,q a _ (.refl a) s rfl⟩
  |exact .inr ⟨_,_,b,c,q a _ (.refl a) s rfl⟩
def N3:VB X (xO .GtE) (WE X.K E Mq):=Fy (nE.or pV) λa G d e x y Q hk s b c q=>by
 cases d<;>cases e<;>first
  |exact q.elim
  |exact .inl ⟨_,_,b,c,q a _ (.refl a) s rfl⟩
  |exact .inr ⟨_,_,b,c,q a _ (.refl a) s rfl⟩
def QB.lst(s:QB a G)(h:G[i]?=uQ (.lst xs)):∃vs,a.H (a.m i)=uQ (.lst vs)/\KA a xs vs:=s.obj i _ h
def Lf{E:XK}(s:QB a G)(r:KA a ds vs)(h:out E a (.ok (.ref G.length) (G++[.lst ds])) Q)(p:xz)(hp:a.H p=uZ):Q (.ref p) (upd a.H p (.lst vs)):=by
 refine h (a.push p (.lst vs)) (.ref p) (.push hp) (s.push hp ⟨vs,rfl,r.mono (.push hp)⟩) ⟨?_,?_⟩
 .rw[s.len];exact q9 _
 rw[s.len];show V.ref p=.ref (if a.n=a.n then p else a.m a.n);rw[if_pos rfl]
def Ue{E:XK}(s:QB a G)(r:KA a ds vs)(h:out E a (.ok (.tup ds) G) Q)(p:xz)(hp:a.H p=uZ):Q (.ref p) (upd a.H p (.tup vs)):=
 h (a.put p (.tup vs)) (.ref p) (.put hp) (s.put hp) ⟨p,vs,rfl,.of Hw,r.mono (.put hp)⟩
theorem Wz(s:QB a G)(r:UB a d x)(h:Ij d G=uQ xs):∃p vs,x=.ref p/\IE a.K a.H p vs/\KA a xs vs:=by
 cases d with
 |fl j=>
  have e:=xv h;subst e;obtain⟨p,vs,e,q,c⟩:=r;exact⟨p,vs,e,q.sq,c⟩
 |ref i=>
  unfold Ij at h;dsimp only at h;split at h
  .rename_i j f;have e:=xv h;subst e;obtain⟨vs,b,g⟩:=s.lst f;exact⟨a.m i,vs,r.2,.of b,g⟩
  cases h
 |_=>cases h
def dj(K:za):R2:=λx y H Q=>∃l b xs zs,x=.ref l/\y=.ref b/\IE K H l xs/\IE K H b zs/\xs.length+zs.length<=sizeLine/\∀p,H p=uZ->Q (.ref p) (upd H p (.lst (xs++zs)))
def pW:VB X (xI .Add) (dj X.K):=by
 intro t s σ H x y v u Q I B U h;obtain⟨l,b,Z,W,rfl,rfl,J,A,Y,q⟩:=h;cases B;cases U;obtain⟨c,r,P,_⟩:=I.list J;obtain⟨a,m,C,_⟩:=I.list A;obtain⟨⟨N,M,k,w⟩,n,p,L,_,O⟩:=P;obtain⟨⟨o,j,e,f⟩,z,d,g,_,i⟩:=C;cases L;cases O;cases g;cases i;have hl:=r.length;have S:=m.length;refine concat_meets ⟨_,p,rfl⟩ ⟨_,d,rfl⟩ noFill_list_add seq_list_add PySem.F.slot_list_add PySem.F.entry_list_add (PySem.F.args_list_add_2 _ _) (list_addW l b c.toArray a.toArray n z M j w f (by rw[zj,zj];lia)) ⟨p,d,?_⟩
 have T:c.toArray++a.toArray=(c++a).toArray:=by simp
 rw[T];exact⟨.ref _,_,I.T2 (r.append m) (by rw[zC];lia),rfl,q _ I.fresh⟩
def Ir:VB X (xI .Add) (WE X.K E By):=Fy (mu.or (nO.or (pW.or oK))) λa G d e x y Q hk s rd re q=>by
 have lst:out E a (match Ij d G,Ij e G with
  |some xs,uQ ys=>if xs.length+ys.length<=1000000 then .ok (.ref G.length) (G++[.lst (xs++ys)])else .bad
  |_,_=>.bad) Q->dj X.K x y a.H Q:=λq=>by
  split at q
  .rename_i xs ys h1 h2;split at q
   .rename_i hl;obtain⟨p,vs,e1,q1,r1⟩:=Wz s rd h1;obtain⟨p',PL,e2,q2,r2⟩:=Wz s re h2;rw[hk]at q1 q2;exact⟨p,p',vs,PL,e1,e2,q1,q2,by rw[<-r1.length,<-r2.length];exact zy hl UC,λp hp=>Lf s (r1.append r2) q p hp⟩
   exact q.elim
  exact q.elim
 cases d<;>cases e<;>first
  |exact .inl ⟨_,_,rd,re,q a _ (.refl a) s rfl⟩
  |exact(λq=>Or.inr (Or.inr (Or.inl (lst q)))) q
  |skip
 .rename_i i j;unfold By at q;dsimp only at q;split at q
  .rename_i hl;exact .inr (.inl ⟨_,_,rd,re,zy hl UC,q a _ (.refl a) s rfl⟩)
  exact q.elim
 .rename_i xs ys;unfold By at q;dsimp only at q;split at q
  .rename_i hl;obtain⟨p,vs,e1,h1,r1⟩:=rd;obtain⟨p',PL,e2,h2,r2⟩:=re;rw[hk]at h1 h2;refine .inr (.inr (.inr ⟨p,p',vs,PL,e1,e2,h1,h2,λz=>hl.1 (jz (by rw[r1.length,z];rfl)),by rw[<-r1.length,<-r2.length];exact zy hl.2 UC,λz=>?_,λ_ p0 hp=>(Ue s (r1.append r2) q p0 hp)⟩))
   .refine q a (.ref p) (.refl a) s ⟨p,vs,rfl,hk▸h1,?_⟩;have e3:=jz (by rw[r2.length,z];rfl);rw[e3,qY];exact r1
  exact q.elim
inductive VD where
 |flat (v:V)
 |lst (xs:List D)
 |tup (xs:List D)
 |bad
noncomputable def view(G:DH):D->VD
 |.UA=>.flat .UA
 |.bl b=>.flat (.bl b)
 |.int i=>.flat (.int i)
 |.str x=>.flat (.str x)
 |.ty _=>.bad
 |.tup xs=>.tup xs
 |.fl xs=>.lst xs
 |.ref i=>match G[i]? with
  |some (.lst xs)=>.lst xs
  |_=>.bad
noncomputable def TQ(f:D->D->Option Bool):List D->List D->Option Bool
 |x::xs,y::ys=>match f x y,TQ f xs ys with
  |some a,uQ b=>uQ (a&&b)
  |_,_=>uZ
 |_,_=>uQ uJ
def NJ:Nat->DH->D->D->Option Bool
 |0=>λ_ _ _=>uZ
 | n+1=>λG d e=>match view G d,view G e with
  |.flat a,.flat b=>uQ (LJ a b)
  |.lst xs,.lst ys=>if xs.length=ys.length then TQ (NJ n G) xs ys else uQ uX
  |.tup xs,.tup ys=>match TQ (NJ n G) xs ys with
   |some b=>uQ (b&&xs.length==ys.length)
   |none=>uZ
  |.bad,_=>uZ
  |_,.bad=>uZ
  |_,_=>uQ uX
theorem Xx:∀{xs ys:List D}{k:Bool},TQ f xs ys=uQ k->∃e:Nat->Bool,(∀(j:Nat)(x y:D),xs[j]?=uQ x->ys[j]?=uQ y->f x y=uQ (e j))/\k=(zE (min xs.length ys.length)).all e
 | [],ys,k,h=>⟨λ_=>uJ,λj x y c _=>by simp at c,by
   have d:uQ uJ=uQ k:=by cases ys<;>exact h
   cases d;simp⟩
 |x::xs,[],k,h=>⟨λ_=>uJ,λj x y _ c=>by simp at c,by have d:=h;cases d;simp⟩
 | x::xs,y::ys,k,h=>by
  unfold TQ at h;split at h
  .rename_i a b i l;obtain⟨e,n,hk⟩:=Xx l
   refine⟨λj=>match j with |0=>a|j+1=>e j,λj o m c g=>?_,?_⟩
   .cases j with
    |zero=>simp at c g;subst c;subst g;exact i
    |succ j=>exact n j o m (by simpa using c) (by simpa using g)
   rw[<-(xv h),hk];have:min (x::xs).length (y::ys).length=min xs.length ys.length+1:=by simp only[z0];lia
   rw[this,xQ,j5,List.all_map]
   rfl
  cases h
theorem Xh(s:QB a G)(r:UB a d x):match view G d with
  |.flat v=>x=v/\Dj v=uJ
  |.lst g=>∃p c,x=.ref p/\IE a.K a.H p c/\KA a g c
  |.tup g=>∃p c,x=.ref p/\JE a.K a.H p c/\KA a g c
  |.bad=>True:=by
 cases d with
 |ty n=>trivial
 |tup g=>
  obtain⟨p,c,e,h,q⟩:=r;exact⟨p,c,e,h,q⟩
 |fl g=>
  obtain⟨p,c,e,h,q⟩:=r;exact⟨p,c,e,h.sq,q⟩
 | ref i=>
  unfold view;dsimp only;split
  .rename_i v f
   split at f<;>cases f
  .rename_i g f;split at f
   .rename_i o k;cases f;obtain⟨c,j,l⟩:=s.lst k;exact⟨a.m i,c,r.2,.of j,l⟩
   cases f
  .rename_i g f
   split at f<;>cases f
  trivial
 |_=>exact⟨r,rfl⟩
theorem pX(f:RelV y u)(c:RelV x v)(g:Dj y=uJ)(e:Dj x=uJ):SeqAt.RcAt A s u v (LJ y x):=by
 cases y with
 |UA=>
  cases f;cases x with
  |UA=>cases c;exact .none_none
  |bl b=>cases c;exact .none_bool b
  |int b=>obtain⟨t,rfl⟩:=c;exact .none_int b t
  |str b=>obtain⟨t,rfl⟩:=c;exact .none_str b t
  |_=>exact absurd (e) z6
 |bl a=>
  cases f;cases x with
  |UA=>cases c;exact .bool_none a
  |bl b=>cases c;exact .bool_bool a b
  |int b=>obtain⟨t,rfl⟩:=c;exact .bool_int a b t
  |str b=>obtain⟨t,rfl⟩:=c;exact .bool_str a b t
  |_=>exact absurd (e) z6
 |int a=>
  obtain⟨d,rfl⟩:=f;cases x with
  |UA=>cases c;exact .int_none a d
  |bl b=>cases c;exact .int_bool a d b
  |int b=>obtain⟨t,rfl⟩:=c;exact .int_int a d b t
  |str b=>obtain⟨t,rfl⟩:=c;exact .int_str a d b t
  |_=>exact absurd (e) z6
 |str a=>
  obtain⟨d,rfl⟩:=f;cases x with
  |UA=>cases c;exact .str_none a d
  |bl b=>cases c;exact .str_bool a d b
  |int b=>obtain⟨t,rfl⟩:=c;exact .str_int a d b t
  |str b=>obtain⟨t,rfl⟩:=c;exact .str_str a d b t
  |_=>exact absurd (e) z6
 |_=>exact absurd (g) z6
theorem pY(f:RelV y u)(c:RelV x v)(g:Dj y=uJ)(e:Dj x=uJ):SeqAt.RcNeAt A s u v (!LJ y x):=by
 cases y with
 |UA=>
  cases f;cases x with
  |UA=>cases c;exact .none_none
  |bl b=>cases c;exact .none_bool b
  |int b=>obtain⟨t,rfl⟩:=c;exact .none_int b t
  |str b=>obtain⟨t,rfl⟩:=c;exact .none_str b t
  |_=>exact absurd (e) z6
 |bl a=>
  cases f;cases x with
  |UA=>cases c;exact .bool_none a
  |bl b=>cases c;exact .bool_bool a b
  |int b=>obtain⟨t,rfl⟩:=c;exact .bool_int a b t
  |str b=>obtain⟨t,rfl⟩:=c;exact .bool_str a b t
  |_=>exact absurd (e) z6
 |int a=>
  obtain⟨d,rfl⟩:=f;cases x with
  |UA=>cases c;exact .int_none a d
  |bl b=>cases c;exact .int_bool a d b
  |int b=>obtain⟨t,rfl⟩:=c;exact .int_int a d b t
  |str b=>obtain⟨t,rfl⟩:=c;exact .int_str a d b t
  |_=>exact absurd (e) z6
 |str a=>
  obtain⟨d,rfl⟩:=f;cases x with
  |UA=>cases c;exact .str_none a d
  |bl b=>cases c;exact .str_bool a d b
  |int b=>obtain⟨t,rfl⟩:=c;exact .str_int a d b t
  |str b=>obtain⟨t,rfl⟩:=c;exact .str_str a d b t
  |_=>exact absurd (e) z6
 |_=>exact absurd (g) z6
end
section
variable{X:Cx}{E:XK}{vG:List (xz×Obj)}{σ:St}{s:x9}
def pZ(v:V)(h:Dj v=uJ):LJ v v=uJ:=by cases v<;>first|rfl|exact absurd (h) z6|(simp[LJ])
theorem dk(I:Inv X vG σ a.H s)(hk:a.K=X.K)(L:QB a G):∀(n:Nat){d e:D}{x:V}{k:Bool},UB a d x->UB a e x->NJ n G d e=uQ k->k=uJ
 |0,_,_,_,_,_,_,h=>by cases h
 | n+1,d,e,x,k,T,P,h=>by
  have m:=Xh L T;have o:=Xh L P;have r:∀{B A:List D}{q:List V}{b:Bool},KA a B q->KA a A q->TQ (NJ n G) B A=uQ b->b=uJ:=λ{B A q b}y t F=>by obtain⟨f,Q,S⟩:=Xx F;rw[S,qX];intro j W;have N:=qT.mp W;have l:B[j]?=uQ (B[j]'(by lia)):=zX (by lia);have g:A[j]?=uQ (A[j]'(by lia)):=zX (by lia);obtain⟨Z,c,M⟩:=y.get l;obtain⟨v2,i,O⟩:=t.get g;rw[c]at i;cases i;exact dk I hk L n M O (Q j _ _ l g)
  unfold NJ at h
  try dsimp only at h
  revert h m o
  cases view G d<;>cases view G e<;>intro m o h<;>dsimp only at h m o<;>first
   |cases h
   |skip
  .
   rename_i v w;obtain⟨rfl,u⟩:=m;obtain⟨rfl,Y⟩:=o;exact pZ _ u
  .obtain⟨rfl,u⟩:=m;obtain⟨p,q,c,_⟩:=o;subst c;cases u
  .obtain⟨rfl,u⟩:=m;obtain⟨p,q,c,_⟩:=o;subst c;cases u
  .obtain⟨rfl,u⟩:=o;obtain⟨p,q,c,_⟩:=m;subst c;cases u
  .obtain⟨p,q,c,l,y⟩:=m;obtain⟨J,z,i,g,t⟩:=o;rw[c]at i;cases i;rw[hk]at l g;cases I.Zr l g;split at h
   .exact r y t h
   rename_i U;exact absurd (y.length.trans t.length.symm) U
  .obtain⟨p,q,c,l,y⟩:=m;obtain⟨J,z,i,g,t⟩:=o;rw[c]at i;cases i;rw[hk]at l g;obtain⟨_,_,C,_⟩:=I.list l;obtain⟨_,_,pt,_⟩:=I.tuple g;exact absurd rfl (vf C.isList pt)
  .obtain⟨rfl,u⟩:=o;obtain⟨p,q,c,_⟩:=m;subst c;cases u
  .obtain⟨p,q,c,l,y⟩:=m;obtain⟨J,z,i,g,t⟩:=o;rw[c]at i;cases i;rw[hk]at l g;obtain⟨_,_,C,_⟩:=I.list g;obtain⟨_,_,pt,_⟩:=I.tuple l;exact absurd rfl (vf C.isList pt)
  obtain⟨p,q,c,l,y⟩:=m;obtain⟨J,z,i,g,t⟩:=o;rw[c]at i;cases i;rw[hk]at l g;cases I.aT l g;split at h
  .rename_i b F;rw[<-(xv h),r y t F,y.length,t.length];simp
  cases h
def Ve(r:KA a xs vs)(q:Vals vs LA)(h:j<LA.toArray.size):∃d v,xs[j]?=uQ d/\UB a d v/\RelV v LA.toArray[j]:=by
 have b:j<LA.length:=by simpa using h
 have i:=q.length▸b;obtain⟨v,c⟩:∃v,vs[j]?=uQ v:=⟨vs[j],zX i⟩;obtain⟨d,l,f⟩:=r.get' c;obtain⟨u,e,g⟩:=q.get c;have k:u=LA.toArray[j]:=by have:=zX b;rw[this]at e;simpa using(xv e).symm
 exact⟨d,v,l,f,by rw[<-k];exact g⟩
theorem Y6(I:Inv X vG σ a.H s)(hk:a.K=X.K)(sm:QB a G):∀(n:Nat){A:xj}{d e:D}{x y:V}{u w:xB}{k:Bool},A.units+n<cLine->UB a d x->UB a e y->RelV x u->RelV y w->NJ n G d e=uQ k->
  SeqAt.EqAt A s u w k/\SeqAt.RcAt A s u w k/\SeqAt.RcNeAt A s u w (!k)
 |0,_,_,_,_,_,_,_,_,_,_,_,_,_,h=>by cases h
 | n + 1,A,d,e,x,y,u,w,k,hu,rd,re,r,m,h=>by
  have L:=Xh sm rd;have M:=Xh sm re;have c:A.units<cLine:=by lia
  have d?:A.in1.units+n<cLine:=by show A.units+1+n<cLine;lia
  have F:∀{z:V},UB a d z->UB a e z->NJ (n+1) G d e=uQ k->k=uJ:=λS C r3=>dk I hk sm (n+1) S C r3
  have h0:=h;unfold NJ at h
  try dsimp only at h
  have O:∀{p q:xz}{k:Bool},(p=q->k=uJ)->SeqAt.RcAt A s (.ref p) (.ref q) k->SeqAt.EqAt A s (.ref p) (.ref q) k:=λ{p q k}hs hr=>by
   by_cases e:p=q
   .rw[hs e,e];exact .same _
   exact .of_refs e hr
  revert h L M
  cases hvd:view G d<;>cases hve:view G e<;>intro L M h<;>dsimp only at h L M<;>first
   |cases h
   |skip
  .
   obtain⟨rfl,N⟩:=L;obtain⟨rfl,f2⟩:=M;exact⟨dZ r m N f2,pX r m N f2,pY r m N f2⟩
  .
   obtain⟨rfl,N⟩:=L;obtain⟨q,Y,rfl,o,C⟩:=M;cases m;rw[hk]at o;obtain⟨l,qv,g,_⟩:=I.list o;cases x with
   |UA=>cases r;exact⟨.none_list g.isList c,.none_list g.isList c,.none_list g.isList c⟩
   |bl b=>cases r;exact⟨.bool_list b g.isList c,.bool_list b g.isList c,.bool_list b g.isList c⟩
   |int b=>obtain⟨t,rfl⟩:=r;exact⟨.int_list b t g.isList c,.int_list b t g.isList c,.int_list b t g.isList c⟩
   |str b=>obtain⟨t,rfl⟩:=r;exact⟨.str_list b t g.isList c,.str_list b t g.isList c,.str_list b t g.isList c⟩
   |_=>exact absurd (N) z6
  .
   obtain⟨rfl,N⟩:=L;obtain⟨q,Y,rfl,o,C⟩:=M;cases m;rw[hk]at o;obtain⟨l,qv,g,_⟩:=I.tuple o;cases x with
   |UA=>cases r;exact⟨.none_tuple g c,.none_tuple g c,.none_tuple g c⟩
   |bl b=>cases r;exact⟨.bool_tuple b g c,.bool_tuple b g c,.bool_tuple b g c⟩
   |int b=>obtain⟨t,rfl⟩:=r;exact⟨.int_tuple b t g c,.int_tuple b t g c,.int_tuple b t g c⟩
   |str b=>obtain⟨t,rfl⟩:=r;exact⟨.str_tuple b t g c,.str_tuple b t g c,.str_tuple b t g c⟩
   |_=>exact absurd (N) z6
  .
   obtain⟨rfl,N⟩:=M;obtain⟨q,Y,rfl,o,C⟩:=L;cases r;rw[hk]at o;obtain⟨l,qv,g,_⟩:=I.list o;cases y with
   |UA=>cases m;exact⟨.list_none g.isList c,.list_none g.isList c,.list_none g.isList c⟩
   |bl b=>cases m;exact⟨.list_bool b g.isList c,.list_bool b g.isList c,.list_bool b g.isList c⟩
   |int b=>obtain⟨t,rfl⟩:=m;exact⟨.list_int b t g.isList c,.list_int b t g.isList c,.list_int b t g.isList c⟩
   |str b=>obtain⟨t,rfl⟩:=m;exact⟨.list_str b t g.isList c,.list_str b t g.isList c,.list_str b t g.isList c⟩
   |_=>exact absurd (N) z6
  .
   obtain⟨p,Y,rfl,Q,S⟩:=L;obtain⟨q,W,rfl,o,C⟩:=M;cases r;cases m;rw[hk]at Q o;obtain⟨l,Z,B,_⟩:=I.list Q;obtain⟨i,q2,v,_⟩:=I.list o;have P:=zj▸Z.length.symm;have U:=zj▸q2.length.symm;split at h
   .rename_i hl;obtain⟨f,hf,hb⟩:=Xx h;have J:l.toArray.size=i.toArray.size:=by rw[P,U,<-S.length,<-C.length];exact hl
    have he:∀j(g1:j<l.toArray.size)(g2:j<i.toArray.size),SeqAt.EqAt A.in1 s l.toArray[j] i.toArray[j] (f j):=λj g1 g2=>by obtain⟨d1,v1,e1,Y3,JS⟩:=Ve S Z g1;obtain⟨d2,v2,e2,L4,N4⟩:=Ve C q2 g2;exact(Y6 I hk sm n d? Y3 L4 JS N4 (hf j d1 d2 e1 e2)).1
    have T:k=(zE l.toArray.size).all f:=by
     rw[hb]
     congr 2
     rw[P,<-S.length,hl];lia
    have rc:SeqAt.RcAt A s (.ref p) (.ref q) k:=T ▸ .lists B.isList v.isList J c he;refine⟨O (λe=>?_) rc,rc,T ▸ .lists B.isList v.isList J c he⟩;subst e;exact F rd re h0
   rename_i hl;have h':=xv h;subst h';have J:(l.toArray.size != i.toArray.size)=uJ:=by rw[bne_iff_ne,P,U,<-S.length,<-C.length];exact hl
   refine⟨O (λe=>?_) (.lists_lengths B.isList v.isList J c),.lists_lengths B.isList v.isList J c,.lists_lengths B.isList v.isList J c⟩;subst e;exact F rd re h0
  .
   obtain⟨p,Y,rfl,Q,S⟩:=L;obtain⟨q,W,rfl,o,C⟩:=M;cases r;cases m;rw[hk]at Q o;obtain⟨l,Z,B,_⟩:=I.list Q;obtain⟨i,q2,v,_⟩:=I.tuple o;exact⟨.list_tuple B.isList v c,.list_tuple B.isList v c,.list_tuple B.isList v c⟩
  .
   obtain⟨rfl,N⟩:=M;obtain⟨q,Y,rfl,o,C⟩:=L;cases r;rw[hk]at o;obtain⟨l,qv,g,_⟩:=I.tuple o;cases y with
   |UA=>cases m;exact⟨.tuple_none g c,.tuple_none g c,.tuple_none g c⟩
   |bl b=>cases m;exact⟨.tuple_bool b g c,.tuple_bool b g c,.tuple_bool b g c⟩
   |int b=>obtain⟨t,rfl⟩:=m;exact⟨.tuple_int b t g c,.tuple_int b t g c,.tuple_int b t g c⟩
   |str b=>obtain⟨t,rfl⟩:=m;exact⟨.tuple_str b t g c,.tuple_str b t g c,.tuple_str b t g c⟩
   |_=>exact absurd (N) z6
  .
   obtain⟨p,Y,rfl,Q,S⟩:=L;obtain⟨q,W,rfl,o,C⟩:=M;cases r;cases m;rw[hk]at Q o;obtain⟨l,Z,B,_⟩:=I.tuple Q;obtain⟨i,q2,v,_⟩:=I.list o;exact⟨.tuple_list B v.isList c,.tuple_list B v.isList c,.tuple_list B v.isList c⟩
  rename_i xs ys;obtain⟨p,Y,rfl,Q,S⟩:=L;obtain⟨q,W,rfl,o,C⟩:=M;cases r;cases m;rw[hk]at Q o;obtain⟨l,Z,B,_⟩:=I.tuple Q;obtain⟨i,q2,v,_⟩:=I.tuple o;have P:l.toArray.size=xs.length:=by rw[zj,S.length];exact Z.length.symm
  have U:i.toArray.size=ys.length:=by rw[zj,C.length];exact q2.length.symm
  split at h
  .rename_i b hz;obtain⟨f,hf,hb⟩:=Xx hz;have he:∀j(g1:j<l.toArray.size)(g2:j<i.toArray.size),SeqAt.EqAt A.in1 s l.toArray[j] i.toArray[j] (f j):=λj g1 g2=>by obtain⟨d1,v1,e1,Y3,JS⟩:=Ve S Z g1;obtain⟨d2,v2,e2,L4,N4⟩:=Ve C q2 g2;exact(Y6 I hk sm n d? Y3 L4 JS N4 (hf j d1 d2 e1 e2)).1
   have T:k=((zE (min l.toArray.size i.toArray.size)).all f&&l.toArray.size==i.toArray.size):=by rw[<-(xv h),hb,P,U]
   have rc:SeqAt.RcAt A s (.ref p) (.ref q) k:=T ▸ .tuples B v c he;refine⟨O (λe=>?_) rc,rc,T ▸ .tuples B v c he⟩;subst e;exact F rd re h0
  cases h
def Fl(d e:D)(G:DH):R D:=match NJ 30 G d e with
 |some k=>.ok (.bl k) G
 |none=>.bad
def Eg(d e:D)(G:DH):R D:=match NJ 30 G d e with
 |some k=>.ok (.bl (!k)) G
 |none=>.bad
def YV(n:X.A.units+64<cLine):VB X (xO .Eq) (WE X.K E Fl):=by
 intro b s m H x y v u Q I g l ⟨a,G,d,e,hk,j,c,f,i,q⟩;subst j;unfold Fl at q;split at q
 .rename_i k h;exact(Y6 I hk c 30 (by lia) f i g l h).2.1 _ _ _ _ ⟨.bl k,a.H,I,rfl,q a _ (.refl a) c rfl⟩
 exact q.elim
def aj(n:X.A.units+64<cLine):VB X (xO .NotEq) (WE X.K E Eg):=by
 intro b s m H x y v u Q I g l ⟨a,G,d,e,hk,j,c,f,i,q⟩;subst j;unfold Eg at q;split at q
 .rename_i k h;exact(Y6 I hk c 30 (by lia) f i g l h).2.2 _ _ _ _ ⟨.bl (!k),a.H,I,rfl,q a _ (.refl a) c rfl⟩
 exact q.elim
end
noncomputable abbrev DG:=D->ZB->DH->R ZB
def Ep(E:XK)(a:Wd)(r:R ZB)(Q:St->Hp->Prop):Prop:=match r with
 |.ok S G=>∀(b:Wd)(σ:St),Ext a b->QB b G->RB b S σ->Q σ b.H
 |.err x G=>MJ E a x G
 |.bad=>False
noncomputable def lG(K:za)(E:XK)(t:DG):TG:=λv σ H Q=>PG3 K σ H v UB λa S G d=>Ep E a (t d S G) Q
def QG(X:Cx)(E:XK)(tg:xw)(t:DG):Prop:=PG X tg (lG X.K E t)
noncomputable abbrev RO:=List D->ZB->DH->R ZB
noncomputable def lGs(K:za)(E:XK)(t:RO):OO:=λvs σ H Q=>PG3 K σ H vs KA λa S G ds=>Ep E a (t ds S G) Q
def MS(X:Cx)(E:XK)(tg:List xw)(t:RO):Prop:=KP X tg (lGs X.K E t)
noncomputable def gV(i:Nat):DG:=λd S G=>.ok (S.set i (uQ d)) G
noncomputable def Bg:RO:=λds S G=>match ds with
 |[]=>.ok S G
 |_=>.bad
def Am(t:DG)(u:RO):RO:=λds S G=>match ds with
 |d::r=>(t d S G).bind λS1 G1=>u r S1 G1
 |[]=>.bad
noncomputable def Bf(n:Nat)(t:RO):DG:=λd S G=>match d with
 |.tup ds=>if ds.length=n then t ds S G else .bad
 |_=>.bad
theorem Ep.imp(h:Ep E a r Q)(w:∀v H,Q v H->Q' v H):Ep E a r Q':=by
 cases r with
 |ok d G=>exact λb v x s q=>w _ _ (h b v x s q)
 |_=>exact h
theorem Ep.mono(x:Ext a b)(h:Ep E a r Q):Ep E b r Q:=by
 cases r with
 |ok d G=>exact λc v y s q=>h c v (x.trans y) s q
 |err e G=>exact MJ.mono x h
 |bad=>exact h
theorem p9(h:Ep E a (r.bind f) Q):
  Ep E a r (λc H=>PR3 a H r c RB λb S G=>Ep E b (f S G) Q):=by
 cases r with
 |ok d G=>exact λb v x s q=>⟨b,d,G,rfl,x,s,q,rfl,Ep.mono x h⟩
 |_=>exact h
theorem dm(h:Ep E a (r.bind f) Q):
  out E a r (λv H=>PR3 a H r v UB λb d G=>Ep E b (f d G) Q):=by
 cases r with
 |ok d G=>exact λb v x s q=>⟨b,d,G,rfl,x,s,q,rfl,Ep.mono x h⟩
 |_=>exact h
theorem dq(h:Bh E a (r.toS f) W):
  Ep E a r (λc H=>PR3 a H r c RB λb S G=>Bh E b (f S G) W):=by
 cases r with
 |ok d G=>exact λb v x s q=>⟨b,d,G,rfl,x,s,q,rfl,Bh.mono x h⟩
 |_=>exact h
section
variable{X:Cx}{E:XK}
def _root_._L.PG.mono(h:PG X e t)(w:∀v a H Q,t' v a H Q->t v a H Q):PG X e t':=λb s a H v u Q I r q=>h b s a H v u Q I r (w v a H Q q)
def _root_._L.KP.mono(h:KP X e t)(w:∀v a H Q,t' v a H Q->t v a H Q):KP X e t':=λb s a H v u Q I r q=>h b s a H v u Q I r (w v a H Q q)
def Gn(i:Nat){x:Str}{pos:Pos}(b:X.N.Nodup)(c:X.N[i]?=uQ x:=by rfl)(g:Loc X.env.scope x:=by rfl')
  (f:X.fn x=uJ\/X.env.scope.names.lookup x=uQ .local:=by rfl'):QG X E (.Name x pos) (gV i):=
 (mX b c g f).mono λv j H Q h=>by obtain⟨a,S,G,d,hk,rfl,s,r,q,h⟩:=h;exact h a _ (.refl a) s (r.set i q)
theorem Vq:MS X E [] Bg:=mZ.mono λf c H Q h=>by
 obtain⟨a,S,G,b,hk,rfl,s,r,q,h⟩:=h;cases b with
 |nil=>exact⟨q,h a c (.refl a) s r⟩
 |cons d b=>exact h.elim
theorem Ma(c:QG X E e t)(n:MS X E es u)
  (l:(xD (e::es) X.env).map (·.2)=assign e X.env::(xD es X.env).map (·.2):=by rfl):MS X E (e::es) (Am t u):=(m3 c n l).mono λA z H Q h=>by
 obtain⟨a,S,G,f,hk,rfl,s,r,q,h⟩:=h;cases f with
 |nil=>exact h.elim
 |cons d f=>
  obtain⟨v,rest,j,i,p⟩:=q;refine⟨v,rest,j,a,S,G,d,hk,rfl,s,r,i,(p9 h).imp ?_⟩;rintro m _ ⟨b,w,g,rfl,x,y,o,_,c⟩;exact⟨b,w,g,f,x.k.trans hk,rfl,y,o,p.mono x,c⟩
theorem Yh{es:List xw}{k:Nat}{t:RO}{n:Nat}{pos:Pos}(m:X.calm=uJ)(h:MS X E es t)
  (g:(xD es X.env).length=n:=by rfl) (b:(xD es X.env).findIdx? (·.1)=uZ:=by rfl):QG X E (.Tuple es k pos) (Bf n t):=(m4 m h g b).mono λv o H Q h=>by
 obtain⟨a,S,G,d,hk,rfl,s,r,q,h⟩:=h;cases d with
 |tup l=>
  obtain⟨p,j,e,i,c⟩:=q;unfold Bf at h;dsimp only at h;split at h
  .rename_i f;exact⟨p,j,e,by rw[<-hk];exact i,by rw[<-c.length];exact f,a,S,G,l,hk,rfl,s,r,c,h⟩
  exact h.elim
 |_=>exact h.elim
def Wa(o i v:D)(G:DH):R D:=match o,i with
 | .ref p,.int k=>match G[p]? with
  |some (.lst xs)=>match QJ xs.length k with
   |some j=>.ok .UA (G.set p (.lst (xs.set j v)))
   |none=>.bad
  |_=>.bad
 |_,_=>.bad
def XM(to ti:DE):DG:=λv S G=>(to S G).bind λo G1=>(ti S G1).bind λi G2=>(Wa o i v G2).bind λ_ G3=>.ok S G3
def dr(s:QB a G)(b:i<a.n)(h:a.H (a.m i)=uQ (.lst vs))(r:KA a ds' PL):
  Ext a (a.put (a.m i) (.lst PL))/\QB (a.put (a.m i) (.lst PL)) (G.set i (.lst ds')):=⟨.wr h,s.wr b h (r.mono (.wr h))⟩
theorem pb(ho:QE X E o to)(N:QE X E i ti)
  (O:∀v,assign (.Subscript o i pos) X.env v=(do
   let ov<-holding [v] (eval o X.env);let iv<-holding [v,ov] (eval i X.env)
   standAt pos
   holding [v,ov,iv] (setItem ov iv v)
   release [v,ov,iv] []):=by intro _;rfl):QG X E (.Subscript o i pos) (XM to ti):=(m6 ho N set_list O).mono λv L H Q h=>by
 obtain⟨a,S,G,d,hk,rfl,s,r,q,h⟩:=h;refine⟨a,S,G,hk,rfl,s,r,(dm h).imp ?_⟩;rintro ov _ ⟨b,e,B,rfl,x,J,C,_,I⟩;refine⟨b,S,B,x.k.trans hk,rfl,J,r.mono x,(dm I).imp ?_⟩;rintro iv _ ⟨c,f,U,rfl,y,w,F,_,g⟩;cases e with
 | ref p=>
  cases f with
  | int k=>
   unfold Wa at g;dsimp only at g;split at g
   .rename_i W T;split at g
    .rename_i j M;obtain⟨K,n,A⟩:=w.lst T;have l:=C.mono y;obtain⟨z,P⟩:=dr w l.1 n (A.set ((q.mono x).mono y) j);exact⟨c.m p,K,k,j,l.2,F,n,by rw[<-A.length];exact M,g _ L z P (((r.mono x).mono y).mono z)⟩
    exact g.elim
   exact g.elim
  |_=>exact g.elim
 |_=>exact g.elim
variable{st:xA}{rest:List xA}{t u:DS}{e:xw}{te:DE}{pos:Pos}
noncomputable def VC:DS:=λS G=>.nx S G
noncomputable def Ad(t u:DS):DS:=λS G=>match t S G with
 |.nx S1 G1=>u S1 G1
 |r=>r
def XG(te:DE):DS:=λS G=>(te S G).toS λ_ G1=>.nx S G1
def WA(te:DE):DS:=λS G=>(te S G).toS λd G1=>.rt d G1
def PC(c:DB)(t u:DS):DS:=λS G=>(c S G).toS λk G1=>if k=uJ then t S G1 else u S G1
def XB(te:DE)(g:DG):DS:=λS G=>(te S G).toS λd G1=>(g d S G1).toS λS2 G2=>.nx S2 G2
def Dl:OL X E [] VC:=mT.mono λW b H h=>by obtain⟨a,S,G,hk,rfl,s,r,h⟩:=h;exact h a b (.refl a) s r
def Bh.P4{E:XK}{a:Wd}{t u:DS}{S:ZB}{G:DH}{K:za}(hk:a.K=K){W:Ends}(h:Bh E a (Ad t u S G) W):Bh E a (t S G) {W with nx:=lS K E u W}:=by
 unfold Ad at h
 revert h
 cases t S G<;>intro h
 .exact λb c x s r=>⟨b,_,_,x.k.trans hk,rfl,s,r,Bh.mono x h⟩
 all_goals exact h
def Ak(c:QS X E st t)(b:OL X E rest u):OL X E (st::rest) (Ad t u):=(dE c b).mono λW d H h=>by obtain⟨a,S,G,hk,rfl,s,r,h⟩:=h;exact⟨a,S,G,hk,rfl,s,r,h.P4 hk⟩
def Dh(a:QS X E st t):OL X E [st] t:=dF a
def dt(j:QE X E e te)(g:swapsWith e uZ pos.line X.env=pure uX:=by rfl):QS X E (.Expr e pos) (XG te):=(dG j g).mono λW c H h=>by obtain⟨a,S,G,hk,rfl,s,r,h⟩:=h;refine⟨a,S,G,hk,rfl,s,r,(Oh h).imp ?_⟩;rintro v _ ⟨b,d,k,rfl,x,i,q,_,f⟩;exact f b c (.refl b) i (r.mono x)
def Em(g:QE X E e te):QS X E (.Return (uQ e) pos) (WA te):=(mV g).mono λW j H h=>by obtain⟨a,S,G,hk,rfl,s,r,h⟩:=h;refine⟨a,S,G,hk,rfl,s,r,(Oh h).imp ?_⟩;rintro v _ ⟨b,d,i,rfl,x,f,q,_,c⟩;exact c b v (.refl b) f q
theorem De(l:QT X E c tc)(j:OL X E a t)(i:OL X E b u):QS X E (.If c a b pos) (PC tc t u):=(mW l j i).mono λW m H h=>by
 obtain⟨a,S,G,hk,rfl,s,r,h⟩:=h;refine⟨a,S,G,hk,rfl,s,r,(pG h).imp ?_⟩;rintro k _ ⟨b,d,rfl,x,g,_,f⟩;cases k with
 |_=>exact⟨b,S,d,x.k.trans hk,rfl,g,r.mono x,f⟩
def pg{K:za}{g:DG}{W:Ends}{i:St}{H:Hp}(h:lS K E (XB te g) W i H):aU (lE K E te) (lG K E g) W i H:=by obtain⟨a,S,G,hk,rfl,s,r,h⟩:=h;refine⟨a,S,G,hk,rfl,s,r,(Oh h).imp ?_⟩;rintro v _ ⟨b,d,j,rfl,x,p,q,_,l⟩;refine⟨b,S,j,d,x.k.trans hk,rfl,p,r.mono x,q,(dq l).imp ?_⟩;rintro f _ ⟨c,z,w,rfl,y,n,o,_,m⟩;exact m c f (.refl c) n o
def Ql(a:QE X E e te)(d:QG X E tg g)(b:swapsWithSole [tg] e pos.line X.env=pure uX:=by rfl)(hw:swappedStores [tg] e X.env=pure uZ:=by rfl)
  (c:(xD [tg] X.env).map (·.2)=[assign tg X.env]:=by rfl):QS X E (.Assign [tg] e pos) (XB te g):=(m7 a d b hw c).mono λ_ _ _ h=>pg h
def Dr(i:Nat){x:Str}{c:Pos}(g:X.N.Nodup)(n:QE X E e te)(k:X.N[i]?=uQ x:=by rfl)(o:Loc X.env.scope x:=by rfl')(j:swapsWith e (uQ (.Name x c)) pos.line X.env=pure uX:=by rfl)
  (m:X.fn x=uJ\/X.env.scope.names.lookup x=uQ .local:=by rfl'):QS X E (.Assign [.Name x c] e pos) (XB te (gV i)):=
 (m8 g k o n j m).mono λW w H h=>by obtain⟨a,S,G,hk,rfl,s,r,h⟩:=h;refine⟨a,S,G,hk,rfl,s,r,(Oh h).imp ?_⟩;rintro v _ ⟨b,d,p,rfl,x,l,q,_,f⟩;exact f b _ (.refl b) l ((r.mono x).set i q)
end
noncomputable def SO(r:SR)(k:ZB->DH->SR)(_:Fx k:=()):SR:=match r with
 |.nx S G=>k S G
 |.ct S G=>k S G
 |.bk S G=>.nx S G
 |r=>r
def Bt(g:DG)(b:DS):List D->DS
 |[],S,G=>.nx S G
 |x::xs,S,G=>(g x S G).toS λS1 G1=>SO (b S1 G1) (Bt g b xs)
def forM(i:Nat)(g:DG)(b:DS):Nat->Nat->DS
 |0,j,S,G=>match G[i]? with
  |some (.lst xs)=>if xs.length<=j then .nx S G else .bad
  |_=>.bad
 | k+1,j,S,G=>match G[i]? with
  |some (.lst xs)=>match xs[j]? with
   |some x=>(g x S G).toS λS1 G1=>SO (b S1 G1) (forM i g b k (j+1))
   |none=>.nx S G
  |_=>.bad
def Hh(f:Nat->DH->Option (Option D))(g:DG)(b:DS):Nat->Nat->DS
 |0,j,S,G=>match f j G with
  |some uZ=>.nx S G
  |_=>.bad
 |k+1,j,S,G=>match f j G with
  |some (uQ x)=>(g x S G).toS λS1 G1=>SO (b S1 G1) (Hh f g b k (j+1))
  |some uZ=>.nx S G
  |none=>.bad
inductive UQ where
 |pure (xs:List D)
 |mt (i:Nat)
 |fn (n:Nat) (f:Nat->DH->Option (Option D))
noncomputable abbrev DI:=ZB->DH->R UQ
def Dz(it:DI)(g:DG)(b:DS):DS:=λS G=>(it S G).toS λJ G1=>match J with
 |.pure xs=>Bt g b xs S G1
 |.mt i=>match G1[i]? with
  |some (.lst xs)=>forM i g b xs.length 0 S G1
  |_=>.bad
 |.fn n f=>Hh f g b n 0 S G1
def RF(a:Wd):UQ->It->Prop
 |.pure xs,J=>∃vs:List V,KA a xs vs/\∀b:Wd,Ext a b->∀i,(∀v,vs[i]?=uQ v->J.go i b.H/\∀x H',J.IV i b.H x H'->x=v/\H'=b.H)/\(vs.length<=i->J.stop i b.H)
 |.mt k,J=>k<a.n/\∀b:Wd,Ext a b->∀vs,b.H (b.m k)=uQ (.lst vs)->∀i,(∀v,vs[i]?=uQ v->J.go i b.H/\∀x H',J.IV i b.H x H'->x=v/\H'=b.H)/\(vs.length<=i->J.stop i b.H)
 |.fn _ f,J=>∀b:Wd,Ext a b->∀G,QB b G->∀i,(∀d,f i G=uQ (uQ d)->J.go i b.H/\∀x H',J.IV i b.H x H'->∃c:Wd,c.H=H'/\Ext b c/\QB c G/\UB c d x)/\(f i G=uQ uZ->J.stop i b.H)
def outI(E:XK)(a:Wd)(r:R UQ)(Q:It->Hp->Prop):Prop:=match r with
 |.ok J G=>∀(b:Wd)(JJ:It),Ext a b->QB b G->RF b J JJ->Q JJ b.H
 |.err x G=>MJ E a x G
 |.bad=>False
noncomputable def lI(K:za)(E:XK)(t:DI):TI:=λσ H Q=>IS K σ H λa S G=>outI E a (t S G) Q
def QI(X:Cx)(E:XK)(tg iter:xw)(t:DI):Prop:=PI X tg iter (lI X.K E t)
theorem outI.imp(h:outI E a r Q)(w:∀v H,Q v H->Q' v H):outI E a r Q':=by
 cases r with
 |ok d G=>exact λb v x s q=>w _ _ (h b v x s q)
 |_=>exact h
theorem ph(h:Bh E a (r.toS f) W):
  outI E a r (λJ H=>PR3 a H r J RF λb d G=>Bh E b (f d G) W):=by
 cases r with
 |ok d G=>exact λb v x s q=>⟨b,d,G,rfl,x,s,q,rfl,Bh.mono x h⟩
 |_=>exact h
theorem pj (h:Bh E a (SO r k) W):
  Bh E a r {W with
            nx:=λc H=>∃(b:Wd)(S:ZB)(G:DH),b.H=H/\Ext a b/\QB b G/\RB b S c/\Bh E b (k S G) W,
            ct:=λc H=>∃(b:Wd)(S:ZB)(G:DH),b.H=H/\Ext a b/\QB b G/\RB b S c/\Bh E b (k S G) W,bk:=W.nx}:=by
 cases r with
 |nx S G|ct S G=>exact λb c x s q=>⟨b,S,G,rfl,x,s,q,Bh.mono x h⟩
 |_=>exact h
noncomputable def UP(i j:Nat)(G:DH):Option (Option D):=match G[i]? with
 |some (.lst xs)=>uQ xs[j]?
 |_=>uZ
def am(r:RF a (.pure xs) J):RF a (.fn n λj _=>uQ xs[j]?) J:=by
 obtain⟨p,c,h⟩:=r;refine λb x G o i=>⟨λd e=>?_,λe=>((h b x i).2 (by rw[<-c.length];exact jH.mp (xv e)))⟩
 .obtain⟨v,l,q⟩:=c.get (xv e);obtain⟨g,k⟩:=(h b x i).1 v l;refine⟨g,λy f m=>?_⟩;obtain⟨rfl,rfl⟩:=k y f m;exact⟨b,rfl,.refl b,o,q.mono x⟩
theorem du(r:RF a (.mt k) J):RF a (.fn n (UP k)) J:=by
 obtain⟨hk,h⟩:=r;refine λb x G j i=>?_
 unfold UP;cases t:G[k]? with
 |none=>exact⟨λd e=>(by cases e),λe=>(by cases e)⟩
 | some o=>
  cases o with
  |lst w=>
   obtain⟨f,c,g⟩:=j.lst t;refine⟨λd e=>?_,λe=>((h b x f c i).2 (by rw[<-g.length];exact jH.mp (xv e)))⟩
   .obtain⟨v,s,q⟩:=g.get (xv e);obtain⟨m,p⟩:=(h b x f c i).1 v s;refine⟨m,λy l u=>?_⟩;obtain⟨rfl,rfl⟩:=p y l u;exact⟨b,rfl,.refl b,j,q⟩
  |_=>exact⟨λd e=>(by cases e),λe=>(by cases e)⟩
theorem dv{g:DG}{b:DS}{xs:List D}:∀(n j:Nat),j+n=xs.length->Bt g b (xs.drop j)=Hh (λj _=>uQ xs[j]?) g b n j
 |0,j,h=>by
  funext S G;rw[jQ (by lia)]
  show SR.nx S G=(match uQ xs[j]? with |some uZ=>.nx S G|_=>.bad)
  rw[qj (by lia)]
 |n+1,j,h=>by
  funext S G;have d:j<xs.length:=by lia
  rw[qK d]
  show(g xs[j] S G).toS (λa c=>SO (b a c) (Bt g b (xs.drop (j+1))))=(match uQ xs[j]? with |some (uQ x)=>(g x S G).toS (λa c=>SO (b a c) (Hh (λj _=>uQ xs[j]?) g b n (j+1)))|some uZ=>.nx S G|none=>.bad)
  rw[zX d,dv n (j+1) (by lia)]
theorem dw:∀(n j:Nat),forM i g b n j=Hh (UP i) g b n j
 | 0,j=>by
  funext S G;unfold forM Hh UP;cases G[i]? with
  |none=>rfl
  | some o=>
   cases o with
   |lst a=>
    dsimp only;by_cases c:j<a.length
    .rw[if_neg (by lia),zX c]
    rw[if_pos (by lia),qj (by lia)]
   |_=>rfl
 | n+1,j=>by
  funext S G;unfold forM Hh;rw[dw n (j+1)];unfold UP;cases G[i]? with
  |none=>rfl
  | some o=>
   cases o with
   |lst a=>
    dsimp only
    cases a[j]?<;>rfl
   |_=>rfl
section
variable{X:Cx}{E:XK}{tg iter:xw}{pos:Pos}
theorem pk{K:za}{it:DI}{g:DG}{b:DS}{W:Ends}{N:St}{H:Hp}(h:lS K E (Dz it g b) W N H):LV (lI K E it) (lG K E g) (lS K E b) W N H:=by
 obtain⟨a,S,G,hk,rfl,s,r,h⟩:=h;refine⟨a,S,G,hk,rfl,s,r,(ph h).imp ?_⟩;rintro J _ ⟨t,d,O,rfl,x1,s1,u,_,l⟩;have k1:=x1.k.trans hk
 suffices fnc:∃n f,RF t (.fn n f) J/\Bh E t (Hh f g b n 0 S O) W by
  obtain⟨n,f,u,l⟩:=fnc;have walk:=u;refine⟨λi m N H=>∃(c:Wd)(S:ZB)(G:DH),c.H=H/\Ext t c/\QB c G/\RB c S N/\Bh E c (Hh f g b m i S G) W,⟨_,t,S,O,rfl,.refl _,s1,r.mono x1,l⟩,?_⟩;rintro i m C _ ⟨c,S2,F,rfl,p,x,Q,j⟩;cases m with
  |zero=>
   unfold Hh at j;split at j
   .rename_i v;exact .inl ⟨(walk c p F x i).2 v,j c C (.refl c) x Q⟩
   exact j.elim
  | succ m=>
   unfold Hh at j;split at j
   .rename_i d v;obtain⟨go,yl⟩:=(walk c p F x i).1 d v;refine .inr ⟨go,λB M=>∃(c:Wd)(S:ZB)(G:DH),c.H=M/\Ext t c/\QB c G/\RB c S B/\Bh E c (Hh f g b m (i+1) S G) W,λB M z=>⟨m,q9 _,z⟩,λw M y=>?_⟩;obtain⟨cc,rfl,q,ss,rd⟩:=yl w M y;refine⟨cc,S2,F,d,q.k.trans (p.k.trans k1),rfl,ss,Q.mono q,rd,(dq (Bh.mono q j)).imp ?_⟩;rintro σ3 _ ⟨c3,S3,G3,rfl,x3,s3,r3,_,h3⟩;have e:=pj h3;refine⟨c3,S3,G3,x3.k.trans (q.k.trans (p.k.trans k1)),rfl,s3,r3,?_⟩
    revert e
    cases b S3 G3 with
    | nx L I|ct L I=>
      intro e U o x4 P Y;obtain⟨Z,S5,G5,hh,x5,s5,r5,T⟩:=e U o x4 P Y;exact⟨Z,S5,G5,hh,p.trans (q.trans (x3.trans x5)),s5,r5,T⟩
    |_=>exact λe=>e
   .rename_i v;exact .inl ⟨(walk c p F x i).2 v,j c C (.refl c) x Q⟩
   exact j.elim
 cases d with
 |pure xs=>
  have A:Bh E t (Bt g b (xs.drop 0) S O) W:=l;rw[dv xs.length 0 (by lia)]at A;exact⟨_,_,am u,A⟩
 |mt k=>
  dsimp only at l;split at l
  .rw[dw]at l;exact⟨_,_,du u,l⟩
  exact l.elim
 |fn n f=>exact⟨n,f,u,l⟩
def ao(hp:PassesOwn (xU X.prog X.w) X.A X.env X.xe)(f:X.calm=uJ)(d:QI X E tg iter it)(a:QG X E tg g)(e:OL X E body b)
  (c:∀x,foldedSetIterable iter X.env x=pure x:=by intro _;rfl):QS X E (.For tg iter body [] pos) (Dz it g b):=(mn hp f d a e c).mono λ_ _ _ h=>pk h
def _root_._L.PI.mono(h:PI X tg iter t)(w:∀a H Q,t' a H Q->t a H Q):PI X tg iter t':=λb s a H Q I q=>h b s a H Q I (w a H Q q)
noncomputable def sgn(c:Nat):D:=.str ⟨#[c]⟩
def signs(x:Str):List D:=x.cps.toList.map sgn
noncomputable def L5(x:Str):It:=⟨λi _=>i<x.cps.size,λi H v H'=>H'=H/\∃c,x.cps[i]?=uQ c/\v=.str ⟨#[c]⟩,λi _=>x.cps.size<=i⟩
def px{P:x0}{w:xC}{K:za}{tg:xw}(it:xz)(x:Str)(t:Tok):Turn P w K tg (L5 x) [it] it (λi h=>h.IsStrIter it "str_ascii_iterator" x t i) where
 mem:=by simp
 obj:=λi h a b f=>by
  have e:b=it:=by simpa using f
  subst e;obtain⟨o,e,c,d⟩:=a;exact⟨o,e,λv z=>by rw[d]at z;cases z⟩
 keep:=λi h J a k=>let⟨o,N,r⟩:=a;⟨o,k it (by simp) o N,r⟩
 item:=by
  intro X n hw y F i j s O H E I l a u;subst n hw y;obtain⟨B,p,L,A,q,C⟩:=l it (by simp);have m:i<x.cps.size:=u;refine wpAny_pyNext_ascii_item a (c:=x.cps[i]) (by simp[m]) λJ g Q=>?_
  obtain⟨o,e,c,d⟩:=id g;exact⟨_,rfl,Ut e c d (by decide) ⟨.str ⟨#[x.cps[i]]⟩,H,I.turned (λb o f e=>(Q.2 b f).trans e) B p A q C,⟨_,rfl⟩,⟨rfl,_,by simp[m],rfl⟩,g,λb f=>(l b f).1⟩⟩
 done:=by intro X n hw y F i j s O H E I l a u;subst n hw y;obtain⟨B,p,L,A,q,C⟩:=l it (by simp);have m:x.cps.size<=i:=u;exact wpAny_pyNext_ascii_end (I.ok.hd F) a (by simp[m]) λJ M=>⟨rfl,I.turned (λb o f e=>M b o f e) B p A q C⟩
 self:=λ_ _ _ _ _ a h=>wpAny_pyIter_striter_ascii a h
def pz{P:x0}{w:xC}{K:za}{tg:xw}(it:xz)(x:Str)(t:Tok):Turn P w K tg (L5 x) [it] it (λi h=>h.IsStrIter it "str_iterator" x t i) where
 mem:=by simp
 obj:=λi h a b f=>by
  have e:b=it:=by simpa using f
  subst e;obtain⟨o,e,c,d⟩:=a;exact⟨o,e,λv z=>by rw[d]at z;cases z⟩
 keep:=λi h J a k=>let⟨o,N,r⟩:=a;⟨o,k it (by simp) o N,r⟩
 item:=by
  intro X n hw y F i j s O H E I l a u;subst n hw y;obtain⟨B,p,L,A,q,C⟩:=l it (by simp);have m:i<x.cps.size:=u;refine wpAny_pyNext_wide_item a (c:=x.cps[i]) (by simp[m]) λJ g Q=>?_
  obtain⟨o,e,c,d⟩:=id g;exact⟨_,rfl,Ut e c d (by decide) ⟨.str ⟨#[x.cps[i]]⟩,H,I.turned (λb o f e=>(Q.2 b f).trans e) B p A q C,⟨_,rfl⟩,⟨rfl,_,by simp[m],rfl⟩,g,λb f=>(l b f).1⟩⟩
 done:=by intro X n hw y F i j s O H E I l a u;subst n hw y;obtain⟨B,p,L,A,q,C⟩:=l it (by simp);have m:x.cps.size<=i:=u;exact wpAny_pyNext_wide_end (I.ok.hd F) a (by simp[m]) λJ M=>⟨rfl,I.turned (λb o f e=>M b o f e) B p A q C⟩
 self:=λ_ _ _ _ _ a h=>wpAny_pyIter_striter_wide a h
def P5(tl:TE):TI:=λσ H R=>tl σ H λx H1=>∃z,x=.str z/\R (L5 z) H1
def ql{l:xw}{g:TE}(m:PE X l g):PI X tg l (P5 g):=by
 intro a s n H R I h;refine ZA (m a s n H _ I h) λv c zz=>?_
 obtain⟨x,f,d,r,k⟩:=zz;obtain⟨z,e,q⟩:=k;subst e;obtain⟨t,rfl⟩:=r;have j:∀b∈[c.heap.objs.size],SD X a f b:=λb p=>by
  have e:b=c.heap.objs.size:=by simpa using p
  subst e;exact d.O8 (zY _) (d.SA.fresh (zY _))
 cases i:z.cps.all (· < 128)
 .exact wpAny_pyIter_wide i (⟨c.heap.objs.size,[c.heap.objs.size],_,_,f,rfl,d.kept λb o e=>zW _ e,pz _ z t,⟨_,z9 _ rfl,rfl,rfl⟩,j,q⟩)
 .exact wpAny_pyIter_ascii i (⟨c.heap.objs.size,[c.heap.objs.size],_,_,f,rfl,d.kept λb o e=>zW _ e,px _ z t,⟨_,z9 _ rfl,rfl,rfl⟩,j,q⟩)
theorem KA.signs(x:Str):KA a (signs x) (x.cps.toList.map λc=>V.str ⟨#[c]⟩):=by
 unfold _D.signs
 induction x.cps.toList with
 |nil=>exact rfl
 |cons c r b=>exact⟨_,_,rfl,rfl,b⟩
def Gd:D->DH->R UQ
 |.tup xs,G=>.ok (.pure xs) G
 |.str x,G=>.ok (.pure (signs x)) G
 |.fl xs,G=>.ok (.pure xs) G
 |.ref i,G=>match G[i]? with
  |some (.lst _)=>.ok (.mt i) G
  |_=>.bad
 |_,_=>.bad
def Cj(te:DE):DI:=λS G=>(te S G).bind Gd
theorem aq(C:QE X E iter te):QI X E tg iter (Cj te):=by
 intro f s M H R I h;obtain⟨a,S,G,hk,rfl,N,r,h⟩:=h;cases u:te S G with
 |bad=>
  have j:outI E a ((te S G).bind Gd) R:=h;rw[u]at j;exact j.elim
 |err e W=>
  have j:outI E a ((te S G).bind Gd) R:=h;rw[u]at j;refine aV C f s M a.H R I ⟨a,S,G,hk,rfl,N,r,?_⟩;rw[u];exact j
 | ok d W=>
  have j:outI E a ((te S G).bind Gd) R:=h;rw[u]at j;cases d with
  |tup Z=>
   refine mh C f s M a.H R I ⟨a,S,G,hk,rfl,N,r,?_⟩;rw[u];rintro b v x t ⟨p,g,rfl,n,J⟩;have A:JE X.K b.H p g:=by rw[<-hk,<-x.k];exact n
   refine⟨p,rfl,⟨g,A⟩,j b _ x t ⟨g,J,λc y i=>⟨λv l=>⟨⟨g,v,?_,l⟩,λw P z=>?_⟩,λo=>⟨g,?_,o⟩⟩⟩⟩
   .have:=y.SQ n;rw[y.k,x.k,hk]at this;exact this
   .have:=y.SQ n;rw[y.k,x.k,hk]at this;exact⟨xv ((z.2 g this).symm.trans l),z.1⟩
   have:=y.SQ n;rw[y.k,x.k,hk]at this;exact this
  |fl Z=>
   refine aV C f s M a.H R I ⟨a,S,G,hk,rfl,N,r,?_⟩;rw[u];rintro b v x t ⟨p,g,rfl,n,J⟩;have A:IE X.K b.H p g:=by rw[<-hk,<-x.k];exact n.sq
   refine⟨p,rfl,⟨g,A⟩,j b _ x t ⟨g,J,λc y i=>⟨λv l=>⟨⟨g,v,?_,l⟩,λw P z=>?_⟩,λo=>⟨g,?_,o⟩⟩⟩⟩
   .have:=(y.NL n).sq;rw[y.k,x.k,hk]at this;exact this
   .have:=(y.NL n).sq;rw[y.k,x.k,hk]at this;exact⟨xv ((z.2 g this).symm.trans l),z.1⟩
   have:=(y.NL n).sq;rw[y.k,x.k,hk]at this;exact this
  |ref k=>
   have B:outI E a (Gd (.ref k) W) R:=j;unfold Gd at B;dsimp only at B;split at B
   .rename_i Z U;refine aV C f s M a.H R I ⟨a,S,G,hk,rfl,N,r,?_⟩;rw[u];rintro b v x t ⟨F,rfl⟩;obtain⟨g,U,_⟩:=t.lst U;refine⟨b.m k,rfl,⟨g,.of U⟩,B b _ x t ⟨F,λc y T O i=>?_⟩⟩;rw[y.m k F]at O;exact⟨λv l=>⟨⟨T,v,.of O,l⟩,λw P z=>⟨xv ((z.2 T (.of O)).symm.trans l),z.1⟩⟩,λo=>⟨T,.of O,o⟩⟩
   exact B.elim
  | str z=>
   refine ql C f s M a.H R I ⟨a,S,G,hk,rfl,N,r,?_⟩;rw[u];intro b v x t J;cases(J);refine⟨z,rfl,j b _ x t ⟨_,.signs z,λc y i=>⟨λv l=>?_,λo=>?_⟩⟩⟩
   .rw[zD,zA]at l;obtain⟨k,Q,rfl⟩:=l;have L:z.cps[i]?=uQ k:=by rw[<-xZ];exact Q
    refine⟨(zM.mp L).1,λw P q=>?_⟩;obtain⟨e1,k',Y,e3⟩:=q;rw[L]at Y;cases Y;exact⟨e3,e1⟩
   rw[zV,qL]at o;exact o
  |_=>exact j.elim
end
noncomputable def Bu(lo:Int)(n:Nat):List D:=(zE n).map λ(k:Nat)=>D.int (lo+(k:Int))
def inR(j:Int):Prop:= -(2^62)<=j/\j<2^62
noncomputable instance (j:Int):Decidable (inR j):=by unfold inR;infer_instance
def UD(ds:List D)(G:DH):R UQ:=match ds with
 |[.int j]=>if inR j then .ok (.pure (Bu 0 j.toNat)) G else .bad
 |_=>.bad
def Fb(f:List D->DH->R UQ)(ta:DA):DI:=λS G=>(ta S G).bind f
def Ar(np nl:Nat)(b:DS):List D->DH->R D:=λds G=>if ds.length=np then tidy G (match b (ds.map uQ++qQ nl uZ) G with
 |.nx _ G'=>.ok .UA G'
 |.rt d G'=>.ok d G'
 |.err x G'=>.err x G'
 |_=>.bad)else .bad
theorem outI.mono(x:Ext a b)(h:outI E a r Q):outI E b r Q:=by
 cases r with
 |ok d G=>exact λc v y s q=>h c v (x.trans y) s q
 |err e G=>exact MJ.mono x h
 |bad=>exact h
theorem dy(h:outI E a (r.bind f) Q):
  Ez E a r (λvs H=>PR3 a H r vs KA λb c G=>outI E b (f c G) Q):=by
 cases r with
 |ok d G=>exact λb v x s q=>⟨b,d,G,rfl,x,s,q,rfl,outI.mono x h⟩
 |_=>exact h
section
variable{X:Cx}{E:XK}{tg iter:xw}{pos:Pos}
def qm(e:Int)(n:Nat):RF a (.pure (Bu e n)) (NY e n):=by
 refine⟨(zE n).map λ(k:Nat)=>V.int (e+(k:Int)),?_,λb x i=>⟨λv c=>?_,λf=>?_⟩⟩
 .unfold Bu;generalize zE n=l
  induction l with
  |nil=>exact rfl
  |cons k l g=>exact⟨_,_,rfl,rfl,g⟩
 .rw[zD]at c;by_cases d:i<n
  .rw[List.getElem?_range d]at c;exact⟨d,λw h y=>⟨y.2.trans (by simpa using c),y.1⟩⟩
  rw[qj (by simpa using d)]at c;cases c
 show n<=i;simpa using f
def qo{p pos:Pos}(i:Gl X "range")(m:X.mg "range"=uZ)(l:QA X E [e] ta)(k:vX [e] X.env=[(uX,eval e X.env)]:=by rfl):QI X E tg (.Call (.Name "range" p) [e] [] pos) (Fb UD ta):=
 (ml i m l k).mono λu H Q h=>by
  obtain⟨a,S,G,hk,rfl,s,r,h⟩:=h;refine⟨a,S,G,hk,rfl,s,r,(dy h).imp ?_⟩;rintro w _ ⟨b,y,t,rfl,x,o,q,-,c⟩;unfold UD at c;split at c
  .rename_i j;split at c
   .rename_i d;obtain⟨v,r,g,f,n⟩:=q;cases(f);cases(n);exact⟨j,g,d.1,d.2,c b _ (.refl b) o (qm 0 j.toNat)⟩
   exact c.elim
  exact c.elim
end
def qp(r:KA a ds vs)(n m:Nat)(h:n=m):RB a (ds.map uQ++qQ n uZ) (vs.map uQ++qQ m uZ):=by
 subst h;refine⟨by simp[r.length],λi d b=>?_⟩;by_cases c:i<ds.length
 .rw[zN (by simpa using c),zD]at b;cases e:ds[i]? with
  |none=>rw[e]at b;cases b
  |some j=>
   rw[e]at b;have f:j=d:=by simpa using b
   subst f;obtain⟨v,g,q⟩:=r.get e;exact⟨v,by rw[zN (by rw[zV,<-r.length];exact c),zD,g];rfl,q⟩
 rw[zL (by simpa using c),qR]at b
 split at b<;>cases b
def Ze{K:za}{p:List Str}{n:Nat}{b:DS}{v:List V}{H:Hp}{Q:VK}{E:XK}(h:WV K (Ar p.length n b) v H Q E):v.length=p.length:=by
 obtain⟨a,G,q,hk,rfl,t,r,h⟩:=h;unfold Ar at h;split at h
 .rename_i l;rw[<-r.length];exact l
 exact h.elim
def dz{K:za}{N p:List Str}{b:DS}{v:List V}{H:Hp}{Q:VK}{E:XK}(h:WV K (Ar p.length (N.length-p.length) b) v H Q E):lS K E b {nx:=λ_=>Q .UA,rt:=Q} (start N v) H:=by
 have l:=Ze h;obtain⟨a,G,q,hk,rfl,t,r,h⟩:=h;unfold Ar at h;split at h
 .have g:=da t h;refine⟨a,q.map uQ++qQ (N.length-p.length) uZ,G,hk,rfl,t,qp r _ _ (by rw[l]),?_⟩
  revert g
  cases b (q.map uQ++qQ (N.length-p.length) uZ) G with
  |nx v o=>exact λg c C x B _=>g c .UA x B rfl
  |bk v o|ct v o=>exact λg=>g.elim
  |_=>exact id
 exact h.elim
def Eh{P:x0}{w:xC}{K:za}{u:Str->Option xB}{j:Heap}{x qual:Str}{st:xA}{f:xz}{y:xk}{N ps:List Str}{k:Nat}{b:DS}(F:OM K x qual st f y)(S:MB N ps (Ba st))
  (m:∀(i:xB)(A:xj)(outer:List Env)(s:x9)(H:Hp)(E:XK),TB k (A.deeper (envOfC qual (Ba st) s.heap.objs.size f i))->OL (Ib WG P w K u j N qual (Ba st) f i A outer s H E).PQ E0 (Dp st) b):
  KC P w K u j WG (k+1) f y ps (lF K (Ar ps.length (N.length-ps.length) b)):=by
 exact F.ok S (λ_ _ _ _=>Ze) λi A o s H n Q E z h=>⟨_,m i A o s H E z,dz h⟩
theorem Jd(s:QB a G)(r:UB a d x)(h:Be d G=uQ xs):∃p vs,x=.ref p/\(IE a.K a.H p vs\/JE a.K a.H p vs)/\KA a xs vs:=by
 cases d with
 |tup c=>
  have e:=xv h;subst e;obtain⟨p,vs,e,q,b⟩:=r;exact⟨p,vs,e,.inr q,b⟩
 |fl c=>
  have e:=xv h;subst e;obtain⟨p,vs,e,q,b⟩:=r;exact⟨p,vs,e,.inl q.sq,b⟩
 |ref i=>
  unfold Be at h;dsimp only at h;split at h
  .rename_i c j;have e:=xv h;subst e;obtain⟨vs,g,k⟩:=s.lst j;exact⟨a.m i,vs,r.2,.inl (.of g),k⟩
  cases h
 |_=>cases h
def Ax (d e:D) (G:DH):R D:=match e with
 | .int i=>match d with
  | .str z=>if z.length<=1000000 then(match LB z.cps.toList i with
    |some c=>.ok (.str ⟨#[c]⟩) G
    |none=>.bad)else .bad
  | d=>match Be d G with
   |some xs=>match LB xs i with
    |some v=>.ok v G
    |none=>.bad
   |none=>.bad
 |_=>.bad
theorem qr(r:KA a xs vs)(h:LB xs i=uQ d):∃v,LB vs i=uQ v/\UB a d v:=by
 unfold LB at h⊢;rw[<-r.length];cases e:QJ xs.length i with
 |none=>rw[e]at h;cases h
 |some j=>
  rw[e]at h;obtain⟨v,b,q⟩:=r.get (h);exact⟨v,b,q⟩
section
variable{X:Cx}{E:XK}
def _root_._L.RJ.mono(h:RJ X r)(w:∀x y H Q,r' x y H Q->r x y H Q):RJ X r':=λa b c s d H x y v u Q I i j q g=>h a b c s d H x y v u Q I i j (w _ _ _ _ q) g
def _root_._L.YA.mono(h:YA X f r)(w:∀xs H Q,r' xs H Q->r xs H Q):YA X f r':=λa s b H xs c Q I d q=>h a s b H xs c Q I d (w _ _ _ q)
def _root_._L.II.mono{id:String}{r b:V->List V->Hp->VK->Prop}(h:II X id r)(w:∀x xs H Q,b x xs H Q->r x xs H Q):II X id b:=λa s c H x xs v d Q I i g q=>h a s c H x xs v d Q I i g (w _ _ _ _ q)
theorem Ou:RJ X (WE X.K E Ax):=oV.mono λx y H Q h=>by
 obtain⟨a,G,d,e,hk,rfl,s,r,m,q⟩:=h;cases e with
 | int i=>
  have n:∀{k:List D},Be d G=uQ k->out E a (match LB k i with |some v=>.ok v G|none=>.bad) Q->Y1 X.K x y a.H Q:=λ{k}l q=>by
   obtain⟨p,B,w,g,I⟩:=Jd s r l;rw[hk]at g;split at q
   .rename_i v J;obtain⟨u,A,F⟩:=qr I J;have z:=q a u (.refl a) s F;rcases g with g|g
    .exact .inl ⟨p,B,i,u,w,m,g,A,z⟩
    exact .inr (.inl ⟨p,B,i,u,w,m,g,A,z⟩)
   exact q.elim
  have b:out E a (match Be d G with |some k=>(match LB k i with |some v=>.ok v G|none=>.bad)|none=>.bad) Q->Y1 X.K x y a.H Q:=λq=>by
   cases l:Be d G with
   |none=>rw[l]at q;exact q.elim
   |some k=>rw[l]at q;exact n l q
  cases d with
  | str z=>
   unfold Ax at q;dsimp only at q;split at q
   .rename_i C;split at q
    .rename_i c L;exact .inr (.inr ⟨z,i,c,r,m,zy C UC,L,q a _ (.refl a) s rfl⟩)
    exact q.elim
   exact q.elim
  |tup M|fl M|ref j|_=>exact b q
 |_=>exact q.elim
def Bv(ds:List D)(G:DH):R D:=match ds with
 |[.str z]=>if z.length<=1000000 then .ok (.int z.length) G else .bad
 |[d]=>match Be d G with
  |some xs=>.ok (.int xs.length) G
  |none=>.bad
 |_=>.bad
def YB(r:KA a [d] vs):∃v,vs=[v]/\UB a d v:=by obtain⟨v,b,e,q,z⟩:=r;cases(z);exact⟨v,e,q⟩
def YM(r:KA a [d,d'] vs):∃v b,vs=[v,b]/\UB a d v/\UB a d' b:=by obtain⟨v,h,e,q,z⟩:=r;obtain⟨b,g,c⟩:=YB z;subst g;exact⟨v,b,e,q,c⟩
def qs:YA X (.builtin "len") (TJ X.K E Bv):=(ol.or om).mono λl H Q h=>by
 obtain⟨a,G,m,hk,rfl,s,r,q⟩:=h;unfold Bv at q;split at q
 .rename_i z;split at q
  .rename_i g;obtain⟨v,rfl,b⟩:=YB r;cases(b);exact .inr ⟨z,rfl,zy g UC,q a _ (.refl a) s rfl⟩
  exact q.elim
 .rename_i d _;split at q
  .rename_i n j;obtain⟨v,rfl,b⟩:=YB r;obtain⟨p,i,rfl,c,k⟩:=Jd s b j;rw[hk]at c;exact .inl ⟨p,i,rfl,c,q a _ (.refl a) s (by rw[<-k.length];exact rfl)⟩
  exact q.elim
 exact q.elim
def Eb(ds:List D)(G:DH):R D:=match ds with
 |[d]=>match Be d G with
  |some xs=>.ok (.tup xs) G
  |none=>.bad
 |_=>.bad
def ar:YA X (.type "tuple") (TJ X.K E Eb):=oq.mono λm H Q h=>by
 obtain⟨a,G,n,hk,rfl,s,r,q⟩:=h;unfold Eb at q;split at q
 .rename_i d;split at q
  .rename_i u j;obtain⟨v,rfl,k⟩:=YB r;obtain⟨p,c,rfl,b,g⟩:=Jd s k j;refine⟨p,c,rfl,?_⟩;rcases b with b|b
   .exact .inl ⟨by rw[<-hk];exact b,λl i=>Ue s g q l i⟩
   exact .inr ⟨by rw[<-hk];exact b,q a _ (.refl a) s ⟨p,c,rfl,b,g⟩⟩
  exact q.elim
 exact q.elim
def Uc(ds:List D)(G:DH):R D:=match ds with
 |[.str z]=>if z.length<=1000000 then .ok (.ref G.length) (G++[.lst (signs z)])else .bad
 |[d]=>match Be d G with
  |some xs=>.ok (.ref G.length) (G++[.lst xs])
  |none=>.bad
 |_=>.bad
theorem eC:∀{vs:List V}{us:List xB},vs.length=us.length->(∀(i:Nat)(v:V)(u:xB),vs[i]?=uQ v->us[i]?=uQ u->RelV v u)->Vals vs us
 |[],[],_,_=>.nil
 |[],_::_,h,_|_::_,[],h,_=>by cases h
 |v::vs,u::us,h,f=>.cons (f 0 v u rfl rfl) (eC (by simpa using h) λi a d c b=>f (i+1) a d (by simpa using c) (by simpa using b))
def qt(x:X.calm=uJ):YA X (.type "list") (λxs H Q=>∃z:Str,xs=[.str z]/\z.length<=sizeLine/\∀l,H l=uZ->Q (.ref l) (upd H l (.lst (z.cps.toList.map λc=>V.str ⟨#[c]⟩)))):=by
 intro j s A H xs B Q I r h;obtain⟨z,rfl,m,q⟩:=h;obtain⟨u,rfl,t,rfl⟩:=vals1 r;refine PySem.call_list_str (I.ok.hd x) z t (λJ C b c hk p a=>?_) m;refine⟨.ref s.heap.objs.size,upd H s.heap.objs.size (.lst (z.cps.toList.map λc=>V.str ⟨#[c]⟩)),I.laid hk (zY _) ?_,rfl,q _ (I.SA.fresh (zY _))⟩;refine⟨by rw[zV,qL];exact m,b.toList,c,eC ?_ λi v u d n=>?_,by simpa using p⟩
 .rw[zV,qL,qL];exact a.1.symm
 rw[zD,zA]at d;obtain⟨k,g,rfl⟩:=d;obtain⟨F,w,y,rfl⟩:=a.2 i u (by rw[<-xZ];exact n);rw[xZ,y]at g;cases g;exact⟨w,rfl⟩
def qu(m:X.calm=uJ):YA X (.type "list") (TJ X.K E Uc):=(oo.or (qt m)).mono λn H Q h=>by
 obtain⟨a,G,u,hk,rfl,s,r,q⟩:=h;unfold Uc at q;split at q
 .rename_i z;split at q
  .rename_i b;obtain⟨v,rfl,c⟩:=YB r;cases(c);exact .inr ⟨z,rfl,zy b UC,λl b=>Lf s (.signs z) q l b⟩
  exact q.elim
 .rename_i d _;split at q
  .rename_i w j;obtain⟨v,rfl,c⟩:=YB r;obtain⟨p,i,rfl,g,k⟩:=Jd s c j;exact .inl ⟨p,i,rfl,by rw[<-hk];exact g,λl b=>Lf s k q l b⟩
  exact q.elim
 exact q.elim
noncomputable def Rq(ds:List D)(G:DH):R D:=match ds with
 |[.int i,.int j]=>.ok (.int (if j>i then j else i)) G
 |_=>.bad
def rA(d:X.calm=uJ):YA X (.builtin "max") (TJ X.K E Rq):=(nP d).mono λg H Q h=>by
 obtain⟨a,G,i,hk,rfl,s,r,q⟩:=h;unfold Rq at q;split at q
 .obtain⟨v,j,rfl,b,c⟩:=YM r;cases(b);cases(c);exact⟨_,_,rfl,q a _ (.refl a) s rfl⟩
 exact q.elim
noncomputable def Hl(ds:List D)(G:DH):R D:=match ds with
 |[.int i]=>.ok (.int i) G
 |[.bl k]=>.ok (.int (if k then 1 else 0)) G
 |_=>.bad
def rB:YA X (.type "int") (TJ X.K E Hl):=nQ.mono λd H Q h=>by
 obtain⟨a,G,c,hk,rfl,s,r,q⟩:=h;unfold Hl at q;split at q
 .obtain⟨v,rfl,b⟩:=YB r;cases(b);exact .inl ⟨_,rfl,q a _ (.refl a) s rfl⟩
 .obtain⟨v,rfl,b⟩:=YB r;cases(b);exact .inr ⟨_,rfl,q a _ (.refl a) s rfl⟩
 exact q.elim
noncomputable def Ge(ds:List D)(G:DH):R D:=match ds with
 |[.int i]=>if i.natAbs.log2<1920 then .ok (.str (toString i)) G else .bad
 |_=>.bad
def rC:YA X (.type "str") (TJ X.K E Ge):=nR.mono λd H Q h=>by
 obtain⟨a,G,c,hk,rfl,s,r,q⟩:=h;unfold Ge at q;split at q
 .obtain⟨v,rfl,b⟩:=YB r;cases(b);split at q
  .exact⟨_,rfl,by assumption,q a _ (.refl a) s rfl⟩
  exact q.elim
 exact q.elim
noncomputable def El(o:D)(ds:List D)(G:DH):R D:=match o,ds with
 |.ref i,[d]=>match G[i]? with
  |some (.lst xs)=>if xs.length<1000000 then .ok .UA (G.set i (.lst (xs++[d])))else .bad
  |_=>.bad
 |_,_=>.bad
def QL(K:za)(E:XK)(f:D->List D->DH->R D):V->List V->Hp->VK->Prop:=λx xs H Q=>PD3 K H x xs UB KA λa G d ds=>out E a (f d ds G) Q
def QB.isList(s:QB a G)(h:G[i]?=uQ (.lst xs)):∃vs,IE a.K a.H (a.m i) vs:=let⟨vs,e,_⟩:=s.lst h;⟨vs,.of e⟩
def eE:II X "list.append" (QL X.K E El):=ow.mono λx y H Q h=>by
 obtain⟨a,G,d,w,hk,rfl,s,b,r,q⟩:=h;unfold El at q;split at q
 .rename_i i d;obtain⟨v,rfl,p⟩:=YB r;split at q
  .rename_i z k;split at q
   .rename_i j;obtain⟨l,c,g⟩:=s.lst k;obtain⟨n,u⟩:=dr s b.1 c (g.append (.cons p KA.nil));exact⟨a.m i,l,v,b.2,rfl,c,by rw[<-g.length];exact zK j UC,q _ .UA n u rfl⟩
   exact q.elim
  exact q.elim
 exact q.elim
variable{o e:xw}{es:List xw}{to:DE}{t:DA}{name:Str}{apos PB:Pos}{T id:String}{f:D->List D->DH->R D}
noncomputable def MU(d:D)(G:DH):Bool:=match d with
 |.ref i=>match G[i]? with
  |some (.lst _)=>uJ
  |_=>uX
 |.fl _=>uJ
 |_=>uX
def Ed(f:D->List D->DH->R D)(o:DE)(t:DA):DE:=λS G=>(o S G).bind λx G1=>if MU x G1=uJ then(t S G1).bind λxs G2=>f x xs G2 else .bad
theorem rD(s:QB a G)(r:UB a d x)(h:MU d G=uJ):KU a.K "list" x a.H:=by
 cases d with
 |ref i=>
  unfold MU at h;dsimp only at h;split at h
  .rename_i b g;cases r.2;exact .inl ⟨rfl,s.isList g⟩
  cases h
 |fl b=>
  obtain⟨p,c,rfl,q,_⟩:=r;exact .inl ⟨rfl,c,q.sq⟩
 |_=>cases h
def eF(m:Slot "list" name id)(p:typeOf (.builtin id)=pure (.type "method_descriptor"))(L:II X id (QL X.K E f))(ho:QE X E o to)(N:QA X E (e::es) t)
  (i:xE o name X.env (eval o X.env)=eval o X.env:=by rfl)
  (l:((xF PB (vX (e::es) X.env)).all (λx=> !x.1)&&(xG PB (xR [] X.env)).all (λx=>x.1.isSome)
   && decide ((e::es).length+([]:List Keyword).length+(if([]:List Keyword).isEmpty then 0 else 1)<30))=uJ:=by rfl)
  (j:(apos.endLine==PB.line)=uJ:=by rfl) (C:vX (e::es) X.env=(uX,eval e X.env)::vX es X.env:=by rfl) (g:(xF PB (vX es X.env)).any (·.1)=uX:=by rfl):
  QE X E (.Call (.Attribute o name apos) (e::es) [] PB) (Ed f to t):=(d8 PySem.F.plainAttrs_list m p L ho N i l j C g).mono λP H Q h=>by
 obtain⟨a,S,G,hk,rfl,s,r,h⟩:=h;refine⟨a,S,G,hk,rfl,s,r,(Ec h).imp ?_⟩;rintro v _ ⟨b,d,w,rfl,x,u,q,-,n⟩;split at n
 .rename_i M;have ty:=rD u q M;rw[x.k,hk]at ty;refine⟨ty,b,S,w,x.k.trans hk,rfl,u,r.mono x,(T5 n).imp ?_⟩;rintro O _ ⟨c,J,A,rfl,y,I,B,-,z⟩;exact⟨c,A,d,J,y.k.trans (x.k.trans hk),rfl,I,q.mono y,B,z⟩
 exact n.elim
end
inductive Ty where|UA|bl|int|str|tup|lst
noncomputable def Ty.name:Ty->String
 |.UA=>"NoneType" | .bl=>"bool" | .int=>"int" | .str=>"str" | .tup=>"tuple" | .lst=>"list"
noncomputable def NS(G:DH):D->Option Ty
 |.UA=>uQ .UA
 |.bl _=>uQ .bl
 |.int _=>uQ .int
 |.str _=>uQ .str
 |.tup _=>uQ .tup
 |.fl _=>uQ .lst
 |.ref i=>match G[i]? with
  |some (.lst _)=>uQ .lst
  |_=>uZ
 |.ty _=>uZ
noncomputable def Ty.sub(t:Ty):String->Option Bool
 |"int"=>uQ (match t with | .int=>uJ | .bl=>uJ|_=>uX)
 |"bool"=>uQ (match t with | .bl=>uJ|_=>uX)
 |"str"=>uQ (match t with | .str=>uJ|_=>uX)
 |"tuple"=>uQ (match t with | .tup=>uJ|_=>uX)
 |"list"=>uQ (match t with | .lst=>uJ|_=>uX)
 |_=>uZ
def K6(ds:List D)(G:DH):R D:=match ds with
 | [d,.ty T]=>match NS G d with
  |some t=>match t.sub T with
   |some k=>.ok (.bl k) G
   |none=>.bad
  |none=>.bad
 |_=>.bad
def rE{K:za}{t:Ty}{T:String}{k:Bool}(h:t.sub T=uQ k):vM K (.type t.name) (.type T)=uQ k:=by
 unfold Ty.sub at h;split at h
 iterate 5 (cases t<;>cases h<;>rfl)
 cases h
section
variable{X:Cx}{E:XK}
def rF:YA X (.builtin "isinstance") (TJ X.K E K6):=by
 intro i s O H vs us Q I rs h;obtain⟨a,G,ds,hk,rfl,P,r,q⟩:=h;unfold K6 at q;split at q
 .rename_i d T;obtain⟨v,v',rfl,j,S⟩:=YM r;cases(S);obtain⟨u,J,rfl,m,F⟩:∃u J,us=[u,J]/\RelV v u/\RelV (.ty T) J:=by
   cases rs with
   |cons p q=>cases q with
    |cons Z q'=>cases q';exact⟨_,_,rfl,p,Z⟩
  cases(F);split at q
  .rename_i t g;split at q
   .rename_i k y;have f:∀B:Nat,EP X i O Q (.bool k) {s with toks:=B}:=λB=>⟨.bl k,a.H,I.tok _,rfl,q a _ (.refl a) P rfl⟩
    have e:=rE (K:=X.K) y;clear q y r;have L:∀(p:xz)(l:List V),IE X.K a.H p l->u=.ref p->t=.lst->vW (xU X.prog X.w) X.A (call (.builtin "isinstance") [u,.type T]) (EP X i O Q) X.xe s:=λp l x eu U=>by subst eu U;obtain⟨M,_,C,_⟩:=I.list x;exact qd PySem.W.kitx_list I.RE (let⟨o,e,c,_⟩:=C.isList;⟨o,e,c⟩) e (nofun) f
    cases d with
    |UA=>cases g;cases(j);cases m;exact qd PySem.W.kitx_none I.RE True.intro e (nofun) f
    |bl b=>cases g;cases(j);cases m;exact qd PySem.W.kitx_bool I.RE True.intro e (nofun) f
    |int b=>cases g;cases(j);obtain⟨B,rfl⟩:=m;exact qd PySem.W.kitx_int I.RE True.intro e (nofun) f
    |str b=>cases g;cases(j);obtain⟨B,rfl⟩:=m;exact qd PySem.W.kitx_str I.RE True.intro e (nofun) f
    |tup b=>
     cases g;obtain⟨p,l,rfl,x,_⟩:=j;cases m;rw[hk]at x;obtain⟨M,_,C,_⟩:=I.tuple x;exact qd PySem.W.kitx_tuple I.RE (let⟨o,e,c,_⟩:=C;⟨o,e,c⟩) e (nofun) f
    |fl b=>
     cases g;obtain⟨p,l,rfl,x,_⟩:=j;exact L p l (hk▸x.sq) m rfl
    |ref b=>
     unfold NS at g;dsimp only at g;split at g
     .rename_i xs hx;cases g;obtain⟨l,Y,_⟩:=P.lst hx;cases j.2;exact L _ l (.of Y) m rfl
     cases g
    |ty n=>cases g
   exact q.elim
  exact q.elim
 exact q.elim
end
noncomputable def K8:List D->Option (List Int)
 |[]=>uQ []
 |.int i::r=>(K8 r).map (i::·)
 |_=>uZ
noncomputable def Nt:List D->Option (List Bool)
 |[]=>uQ []
 |.bl i::r=>(Nt r).map (i::·)
 |_=>uZ
@[simp]theorem eI(ns:List Int):K8 (ns.map D.int)=uQ ns:=by
 induction ns with
 |nil=>rfl
 |cons n ns a=>simp[K8,a]
@[simp]theorem F6(ns:List Bool):Nt (ns.map D.bl)=uQ ns:=by
 induction ns with
 |nil=>rfl
 |cons n ns a=>simp[Nt,a]
theorem V0:∀{xs:List D}{ns:List Int},K8 xs=uQ ns->xs=ns.map D.int
 |[],ns,h=>by cases h;rfl
 |.int i::r,ns,h=>by simp[K8,zA]at h;obtain⟨b,a,rfl⟩:=h;rw[zJ,V0 a]
 |.UA::r,ns,h | .bl _::r,ns,h | .str _::r,ns,h | .ty _::r,ns,h | .tup _::r,ns,h | .fl _::r,ns,h | .ref _::r,ns,h=>by simp[K8]at h
theorem eJ:∀{xs:List D}{ns:List Bool},Nt xs=uQ ns->xs=ns.map D.bl
 |[],ns,h=>by cases h;rfl
 |.bl i::r,ns,h=>by simp[Nt,zA]at h;obtain⟨b,a,rfl⟩:=h;rw[zJ,eJ a]
 |.UA::r,ns,h | .int _::r,ns,h | .str _::r,ns,h | .ty _::r,ns,h | .tup _::r,ns,h | .fl _::r,ns,h | .ref _::r,ns,h=>by simp[Nt]at h
def Js(ds:List D)(G:DH):R D:=match ds with
 | [d]=>match Be d G with
  |some xs=>match K8 xs with
   |some ns=>.ok (.int ns.sum) G
   |none=>.bad
  |none=>.bad
 |_=>.bad
def I8(ds:List D)(G:DH):R D:=match ds with
 | [d]=>match Be d G with
  |some xs=>match Nt xs with
   |some ns=>.ok (.bl (ns.all id)) G
   |none=>.bad
  |none=>.bad
 |_=>.bad
section
variable{X:Cx}{E:XK}{vG:List (xz×Obj)}{σ:St}{s:x9}{H:Hp}
def Y5(I:Inv X vG σ H s)(t:X.calm=uJ)(h:IE X.K H p vs\/JE X.K H p vs)
  (n:∀(it:xz)(fp wr:List xz)(LA:List xB)(St:Nat->Heap->Prop)(d:x9),Vals vs LA->Walks X.prog X.w X.A.in1 it fp wr LA.toArray.size (λi v=>LA.toArray[i]?=uQ v) St->St 0 d.heap->(∀b∈fp,b<d.heap.objs.size)->
   (∀h' tk,(∀b o,b∉wr->d.heap.get? b=uQ o->h'.get? b=uQ o)->Inv X vG σ H {d with heap:=h',toks:=tk})->Q (.ref it) d):
  vW (xU X.prog X.w) X.A.in1 (pyIter (.ref p)) Q E' s:=by
 have m:X.A.in1.handled=uZ:=I.ok.hd t;rcases h with h|h
 .obtain⟨LA,r,g,q⟩:=I.list h;refine wpAny_pyIter_list g.isList ?_;have hp:p<s.heap.objs.size:=by obtain⟨o,e,_⟩:=g.isList;exact zx e
  refine n _ _ _ LA _ _ r (.list m _ p (zP hp) LA.toArray) ⟨⟨_,z9 _ rfl,rfl,rfl⟩,?_⟩ (λb f=>?_) λh' tk k=>?_
  .obtain⟨o,e,c⟩:=g.isList;exact⟨o,zW _ e,c⟩
  .rw[j1];rcases zZ.mp f with rfl|f
   .exact q9 _
   have e:b=p:=by simpa using f
   subst e;exact jU hp
  refine I.kept λb o e=>k b o (λf=>?_) (zW _ e)
  have j:b=s.heap.objs.size:=by simpa using f
  subst j;exact absurd (zx e) (zH _)
 obtain⟨LA,r,g,q⟩:=I.tuple h;refine wpAny_pyIter_tuple (g) ?_;have hp:p<s.heap.objs.size:=by obtain⟨o,e,_⟩:=g;exact zx e
 refine n _ _ _ LA _ _ r (.tuple m _ p (zP hp) LA.toArray) ⟨⟨_,z9 _ rfl,rfl,rfl⟩,?_⟩ (λb f=>?_) λh' tk k=>?_
 .obtain⟨o,e,c⟩:=g;exact⟨o,zW _ e,c⟩
 .rw[j1];rcases zZ.mp f with rfl|f
  .exact q9 _
  .have e:b=p:=by simpa using f
   subst e;exact jU hp
 .refine I.kept λb o e=>k b o (λf=>?_) (zW _ e)
  have j:b=s.heap.objs.size:=by simpa using f
  subst j;exact absurd (zx e) (zH _)
theorem eM(ns:List Int):∀n,n<=ns.length->preSum (λi=>ns.getD i 0) n=(ns.take n).sum
 |0,_=>by simp[preSum]
 |n+1,h=>by have a:n<ns.length:=h;rw[preSum,eM ns n (by lia),List.take_succ_eq_append_getElem a,List.sum_append];simp[a]
theorem Yi:∀{ns:List Int}{vs:List V},KA a (ns.map D.int) vs->vs=ns.map V.int
 |[],vs,h=>h
 |n::ns,vs,h=>by
  obtain⟨v,r,e,c,b⟩:=h;cases(c);rw[e,Yi b]
  rfl
theorem eN:∀{ns:List Bool}{vs:List V},KA a (ns.map D.bl) vs->vs=ns.map V.bl
 |[],vs,h=>h
 |n::ns,vs,h=>by
  obtain⟨v,r,e,c,b⟩:=h;cases(c);rw[e,eN b]
  rfl
def eO(z:X.calm=uJ):YA X (.builtin "sum") (TJ X.K E Js):=by
 intro l s S H O T Q I F h;obtain⟨a,G,M,hk,rfl,m,r,q⟩:=h;unfold Js at q;split at q
 .rename_i d;obtain⟨v,rfl,B⟩:=YB r;split at q
  .rename_i P y;split at q
   .rename_i b n;cases V0 n;obtain⟨p,N,rfl,j,J⟩:=Jd m B y;cases Yi J;rw[hk]at j;obtain⟨u,rfl,f⟩:=vals1 F;cases f;refine call_sum_walkG (Y5 I z j λit fp wr LA St s₂ hv W st QK fin=>⟨it,fp,wr,LA.toArray.size,_,St,λi=>b.getD i 0,rfl,W,st,QK,λi w hw=>?_,λC o A L=>?_⟩)
    .have c:LA[i]?=uQ w:=by simpa using hw
     have g:i<(b.map V.int).length:=by rw[hv.length];exact(zv.mp c).1
     have e:i<b.length:=by simpa using g
     obtain⟨u,k,f⟩:=hv.get (i:=i) (x:=V.int b[i]) (by simp[e]);rw[c]at k;cases k;obtain⟨t,rfl⟩:=f;exact⟨t,by simp[e]⟩
    refine⟨.int b.sum,a.H,fin C o L,⟨A,?_⟩,q a _ (.refl a) m rfl⟩;have g:LA.toArray.size=b.length:=by rw[zj,<-hv.length];simp
    rw[g,eM b b.length (zY _),jV]
   exact q.elim
  exact q.elim
 exact q.elim
def all_range(ns:List Bool):(zE ns.length).all (λi=>ns.getD i uJ)=ns.all id:=by
 rw[Bool.eq_iff_iff,qX,qX];constructor
 .intro h b d;obtain⟨i,c,rfl⟩:=qw d;simpa[c]using h i (qT.mpr c)
 intro h i c;have a:=qT.mp c;simpa[a]using h ns[i] (qV a)
def au(z:X.calm=uJ):YA X (.builtin "all") (TJ X.K E I8):=by
 intro m s U H S Y Q I C h;obtain⟨a,G,N,hk,rfl,n,r,q⟩:=h;unfold I8 at q;split at q
 .rename_i d;obtain⟨v,rfl,A⟩:=YB r;split at q
  .rename_i T y;split at q
   .rename_i b o;cases eJ o;obtain⟨p,O,rfl,k,F⟩:=Jd n A y;cases eN F;rw[hk]at k;obtain⟨u,rfl,f⟩:=vals1 C;cases f;refine call_all_walk (Y5 I z k λit fp wr LA St s₂ hv W st QK fin=>⟨it,fp,wr,LA.toArray.size,_,St,λi=>b.getD i uJ,rfl,W,st,λi w M L P hw j=>?_,λB t J=>?_⟩)
    .have c:LA[i]?=uQ w:=by simpa using hw
     have g:i<(b.map V.bl).length:=by rw[hv.length];exact(zv.mp c).1
     have e:i<b.length:=by simpa using g
     obtain⟨u,l,f⟩:=hv.get (i:=i) (x:=V.bl b[i]) (by simp[e]);rw[c]at l;cases l;cases f;refine vD ?_;simpa[e]using j
    refine⟨.bl (b.all id),a.H,fin B t J,?_,q a _ (.refl a) n rfl⟩;have g:LA.toArray.size=b.length:=by rw[zj,<-hv.length];simp
    rw[g,all_range]
    rfl
   exact q.elim
  exact q.elim
 exact q.elim
end
section
variable{X:Cx}{vG:List (xz×Obj)}{σ:St}{H:Hp}{s:x9}
def aw(I:Inv X vG σ H s)(l:H a=uZ)(v:X.s₀.heap.objs.size<=a)(t:a≠X.env.locals)(y:∀x c,X.env.cells.lookup x=uQ c->c≠a)(hp:∀p∈X.pn++vG,p.1≠a)
  (h:JC X.prog X.w (upd H a o) s.heap a o):Inv X vG σ (upd H a o) s:=by
 have f:∀b u,H b=uQ u->b≠a:=λb u e z=>by rw[z,l]at e;cases e
 refine⟨I.ok,I.os,I.bare,⟨I.base.keep,I.base.slot,λb i q n C=>?_,I.base.there,λb j q=>?_,λb i u q=>?_,λb A q=>?_⟩,I.loc,I.cell,?_,λx c e=>?_,λp d=>?_,λb u e=>?_,I.len⟩
 .rw[Aw (zP (zK (zx q) v))];exact I.base.free b i q n C
 .have:=I.base.ZE b j q;rw[Aw (f _ _ this)];exact this
 .have:=I.base.UE b i u q;rw[Aw (f _ _ this)];exact this
 .obtain⟨g,this⟩:=I.base.IF b A q;exact⟨g,by rw[Aw (f _ _ this)];exact this⟩
 .rw[Aw (.symm t)];exact I.free
 .rw[Aw (y x c e)];exact I.Fq x c e
 .obtain⟨m,B,r⟩:=I.pin p d;exact⟨m,by rw[Aw (hp p d)];exact B,r⟩
 by_cases k:b=a
 .subst k;rw[Hw]at e;cases e;exact h
 .rw[Aw k]at e;exact(I.SA b u e).NF (λ_ _ _ q=>q) (λc q=>by rw[Aw (f _ _ q)];exact q) λc j q=>by rw[Aw (f _ _ q)];exact q
end
noncomputable def Dy(env:Env):List (Str×xy)->List (Str×xz)->List (Str×xz)
 |[],cs=>cs
 |(n,k)::r,cs=>if(k==NameKind.free)=uJ then Dy env r ((n,(env.cells.lookup n).getD 0)::cs)else Dy env r cs
def Wm(h:∀y∈scope.names,y.2=.free->∃c,env.cells.lookup y.1=uQ c):closureFor scope env=pure (Dy env scope.names []):=by
 unfold closureFor;obtain⟨b,names,p,q⟩:=scope;have e:∀(names:List (Str×xy))(a:List (Str×xz)),(∀y∈names,y.2=.free->∃c,env.cells.lookup y.1=uQ c)->
   (forIn names a (λx r=>match x with
    |(name,b)=>if(b==NameKind.free)=uJ then(do let c<-cellOf env name;pure (.yield ((name,c)::r)))else pure (.yield r)):Sem (List (Str×xz)))=pure (Dy env names a):=by
  intro names
  induction names with
  |nil=>intro a _;rfl
  | cons y r j=>
   intro a f;obtain⟨n,k⟩:=y;rw[xY];by_cases hk:(k==NameKind.free)=uJ
   .obtain⟨c,l⟩:=f (n,k) z8 (by simpa using hk);have o:cellOf env n=pure c:=by unfold cellOf;rw[l]
    have i:Dy env ((n,k)::r) a=Dy env r ((n,c)::a):=by rw[Dy,if_pos hk,l];rfl
    rw[i,<-j ((n,c)::a) λg d=>f g (zQ _ d)];simp only[hk,if_true,o]
    rfl
   have i:Dy env ((n,k)::r) a=Dy env r a:=by rw[Dy,if_neg hk]
   rw[i,<-j a λg d=>f g (zQ _ d)];simp only[hk]
   rfl
 have:=e names [] h;exact congrArg (λm:Sem (List (Str×xz))=>m >>=λr=>pure r) this
theorem ax:∀{names:List (Str×xy)}{cs:List (Str×xz)},(∀y∈names,y.2=.free->∃c,env.cells.lookup y.1=uQ c)->(∀p∈cs,env.cells.lookup p.1=uQ p.2)->∀p∈Dy env names cs,env.cells.lookup p.1=uQ p.2
 |[],cs,_,a,p,hp=>a p hp
 | (n,k)::r,cs,d,a,p,hp=>by
  rw[Dy]at hp;split at hp
  .rename_i hk;obtain⟨c,e⟩:=d (n,k) z8 (by simpa using hk);refine ax (λy b=>d y (zQ _ b)) (λq f=>?_) p hp;rcases zZ.mp f with rfl|f
   .rw[e];rfl
   exact a q f
  exact ax (λy b=>d y (zQ _ b)) a p hp
theorem Rz:∀{names:List (Str×xy)}{cs:List (Str×xz)},((x,.free)∈names\/∃c,(x,c)∈cs)->∃c,(x,c)∈Dy env names cs
 |[],cs,h=>by
  rcases h with h|h
  .cases h
  exact h
 | (n,k)::r,cs,h=>by
  rw[Dy];split
  .refine Rz ?_;rcases h with h|⟨c,h⟩
   .rcases zZ.mp h with e|h
    .cases e;exact .inr ⟨_,z8⟩
    exact .inl h
   exact .inr ⟨c,zQ _ h⟩
  rename_i hk;refine Rz ?_;rcases h with h|h
  .rcases zZ.mp h with e|h
   .cases e;exact absurd rfl hk
   exact .inl h
  exact .inr h
theorem Vu:∀{l:List (Str×xz)},(x,c)∈l->∃d,l.lookup x=uQ d
 |[],h=>by cases h
 |(y,d)::l,h=>by
  by_cases e:x=y
  .subst e;exact⟨d,by simp⟩
  rcases zZ.mp h with z|h
  .cases z;exact absurd rfl e
  .obtain⟨a,q⟩:=Vu h;exact⟨a,by rw[jk,beq_eq_false_iff_ne.mpr e];exact q⟩
theorem Zo(x:Str):(relabel scope env).names.lookup x=(scope.names.lookup x).map λk=>if(k==NameKind.free&&env.scope.kind == .function&&env.kindOf x==uQ .cell)=uJ then .cell else k:=by
 unfold relabel;generalize scope.names=l
 induction l with
 |nil=>rfl
 | cons y r b=>
  obtain⟨n,k⟩:=y;by_cases e:x=n
  .subst e;simp only[zJ]
   cases c:(k==NameKind.free&&env.scope.kind==ScopeKind.function&&env.kindOf x==uQ NameKind.cell) <;>
    simp only[c,if_true,jk,beq_self_eq_true,jP,j4,if_false]
  have a:=beq_eq_false_iff_ne.mpr e;simp only[zJ];split
  .rw[jk,jk,a];exact b
  rw[jk,jk,a];exact b
def LF(X:Cx)(N:List Str)(scope:x2)(C:xz)(s₀:x9)(H₀:Hp)(ex:List xz):Cx where
 prog:=X.prog
 w:=X.w
 K:=X.K
 mg:=X.mg
 base:=X.base
 A:=X.A
 N:=N
 s₀:=s₀
 H₀:=H₀
 env:=compEnvC scope (Dy X.env scope.names []) C X.env
 outer:=X.stack
 stack:=X.stack
 ex:=ex
 fn:=λ_=>uX
 calm:=X.calm
 pn:=[]
 xe:=λ_ _=>False
structure MC (X:Cx) (N:List Str) (scope:x2) (nt:Nat) (caps:List Nat):Prop where
 kind:scope.kind=.function
 names:∀y∈scope.names,y.2=.local->scope.names.lookup y.1=uQ .local
 UJ:∀y∈scope.names,y.2≠ .cell
 free:∀y∈scope.names,y.2=.free->X.env.kindOf y.1=uQ .cell\/X.env.kindOf y.1=uQ .free
 nd:N.Nodup
 len:N.length=nt+caps.length
 e?:∀(k j:Nat),caps[k]?=uQ j->∃x,X.N[j]?=uQ x/\N[nt+k]?=uQ x/\scope.names.lookup x=uQ .free
section
variable{X:Cx}{vG:List (xz×Obj)}{σ:St}{H:Hp}{s:x9}{N:List Str}{scope:x2}{nt:Nat}{caps:List Nat}
def MC.cells(c:MC X N scope nt caps)(ok:X.Ok):∀y∈scope.names,y.2=.free->∃c,X.env.cells.lookup y.1=uQ c:=λy a hk=>ok.has y.1 (c.free y a hk)
def MC.cl(c:MC X N scope nt caps)(ok:X.Ok)(h:(Dy X.env scope.names []).lookup x=uQ d):X.env.cells.lookup x=uQ d:=
 ax (c.cells ok) (λp hp=>by cases hp) (x,d) (ze h)
def eP(c:MC X N scope nt caps)(I:Inv X vG σ H s){fp:List xz}(hf:∀b∈fp,SD X vG H b){C:xz}(hC:s.heap.objs.size<=C)(VQ:C∉fp):(LF X N scope C s H fp).Ok where
 mod:=I.ok.mod
 kind:=c.kind
 glob:=I.ok.glob
 blt:=I.ok.blt
 above:=hC
 inj:=λx y d h1 h2=>I.ok.inj x y d (c.cl I.ok h1) (c.cl I.ok h2)
 has:=λx h=>by
  have h':(relabel scope X.env).names.lookup x=uQ .cell\/(relabel scope X.env).names.lookup x=uQ .free:=h;rw[Zo]at h';have ZV:scope.names.lookup x=uQ .free:=by
   cases e:scope.names.lookup x with
   |none=>rw[e]at h';rcases h' with h'|h'<;>cases h'
   |some k=>
    rw[e]at h';cases k with
    |free=>rfl
    |cell=>exact absurd rfl (c.UJ _ (ze e))
    |_=>rcases h' with h'|h'<;>(simp at h')
  obtain⟨d,hd⟩:=Rz (.inl (ze ZV));exact Vu hd
 OQ:=λx d h=>by cases h
 hd:=I.ok.hd
 frames:=I.ok.frames
 QR:=.inl rfl
 WU:=λb hb=>⟨λz=>VQ (by rw[<-show b=C from z];exact hb),λx d h=>(hf b hb).2.2.2.2.1 x d (c.cl I.ok h)⟩
 bs:=I.bs
 TM:=zy I.ok.TM I.sz
 JI:=λb o e hb=>by
  rcases(hf b hb).2.2.2.1 with h|h
  .exact I.ok.JI b o e h
  exact absurd (zK (zx (I.ok.bs b o e).1) h) (zH _)
 MH:=λb hb hz=>by
  rcases zZ.mp (I.Qm b hz)with z|z
  .exact(hf b hb).2.1 z
  exact(hf b hb).2.2.1 z
 VE:=I.stack
 NO:=I.Ys
end
def Bc(g:DG)(c:DB)(te:DE)(S:ZB):List D->DH->R (List D)
 |[],G=>.ok [] G
 | x::xs,G=>(g x S G).bind λS1 G1=>(c S1 G1).bind λk G2=>
   if k=uJ then(te S1 G2).bind λd G3=>(Bc g c te S xs G3).bind λds G4=>.ok (d::ds) G4 else Bc g c te S xs G2
def Gj(i:Nat)(g:DG)(c:DB)(te:DE)(S:ZB):Nat->Nat->DH->R (List D)
 |0,j,G=>match G[i]? with
  |some (.lst xs)=>if xs.length<=j then .ok [] G else .bad
  |_=>.bad
 | n + 1,j,G=>match G[i]? with
  |some (.lst xs)=>match xs[j]? with
   | some x=>(g x S G).bind λS1 G1=>(c S1 G1).bind λk G2=>
     if k=uJ then(te S1 G2).bind λd G3=>(Gj i g c te S n (j+1) G3).bind λds G4=>.ok (d::ds) G4 else Gj i g c te S n (j+1) G2
   |none=>.ok [] G
  |_=>.bad
def Bx(f:Nat->DH->Option (Option D))(g:DG)(c:DB)(te:DE)(S:ZB):Nat->Nat->DH->R (List D)
 |0,j,G=>match f j G with
  |some uZ=>.ok [] G
  |_=>.bad
 | n + 1,j,G=>match f j G with
  |some (uQ x)=>(g x S G).bind λS1 G1=>(c S1 G1).bind λk G2=>
     if k=uJ then(te S1 G2).bind λd G3=>(Bx f g c te S n (j+1) G3).bind λds G4=>.ok (d::ds) G4 else Bx f g c te S n (j+1) G2
  |some uZ=>.ok [] G
  |none=>.bad
noncomputable def Ao(nt:Nat)(caps:List Nat)(S:ZB):ZB:=qQ nt uZ++caps.map λj=>(S[j]?).join
def Cw(it:DI)(nt:Nat)(caps:List Nat)(g:DG)(c:DB)(te:DE):DE:=λS G=>(it S G).bind λJ G1=>(match J with
 |.pure xs=>Bc g c te (Ao nt caps S) xs G1
 |.mt i=>match G1[i]? with
  |some (.lst xs)=>Gj i g c te (Ao nt caps S) xs.length 0 G1
  |_=>.bad
 |.fn n f=>Bx f g c te (Ao nt caps S) n 0 G1).bind Ai
noncomputable def Ay:DB:=λ_ G=>.ok uJ G
def GK(nt:Nat)(g:DG):Prop:=∀d S G S1 G1,g d S G=.ok S1 G1->∀i e,nt<=i->S[i]?=uQ (uQ e)->S1[i]?=uQ (uQ e)
def HW(nt:Nat)(g:RO):Prop:=∀d S G S1 G1,g d S G=.ok S1 G1->∀i e,nt<=i->S[i]?=uQ (uQ e)->S1[i]?=uQ (uQ e)
def rG(h:i<nt):GK nt (gV i):=λd S G b f e j x k a=>by cases e;rw[qy (by lia)];exact a
theorem rH:HW nt Bg:=λd S G b f e j x h a=>by
 cases d with
 |nil=>cases e;exact a
 |cons _ _=>cases e
theorem rK(l:GK nt t)(m:HW nt u):HW nt (Am t u):=λd S G i h e j x k n=>by
 cases d with
 |nil=>cases e
 |cons a r=>
  have b:(t a S G).bind (λi h=>u r i h)=.ok i h:=e;cases f:t a S G with
  |ok p o=>rw[f]at b;exact m _ _ _ _ _ b j x k (l _ _ _ _ _ f j x k n)
  |_=>rw[f]at b;cases b
theorem rL(h:HW nt t):GK nt (Bf n t):=λd S G k f e j x a b=>by
 cases d with
 |tup i=>
  unfold Bf at e;dsimp only at e;split at e
  .exact h _ _ _ _ _ e j x a b
  cases e
 |_=>cases e
theorem eQ(h:out E a (r.bind f) Q):
  Ep E a r (λi H=>PR3 a H r i RB λb S G=>out E b (f S G) Q):=by
 cases r with
 |ok d G=>exact λb v x s q=>⟨b,d,G,rfl,x,s,q,rfl,out.mono x h⟩
 |_=>exact h
def R.bind_assoc{b d e:Type}(r:R b)(f:b->DH->R d)(g:d->DH->R e):(r.bind f).bind g=r.bind λa G=>(f a G).bind g:=by cases r<;>rfl
theorem Vt(h:out E a (r.bind f) Q):
  outI E a r (λJ H=>PR3 a H r J RF λb d G=>out E b (f d G) Q):=by
 cases r with
 |ok d G=>exact λb v x s q=>⟨b,d,G,rfl,x,s,q,rfl,out.mono x h⟩
 |_=>exact h
section
variable{prog:x0}{w:xC}{A:xj}{R':Result->x9->Prop}{s:x9}
def WQ(prog:x0)(w:xC)(A:xj)(target elt:xw)(ifs:List xw)(acc:xB)(env:Env)(P:x9->Prop)(v:xB)(s:x9):Prop:=
 vW (xU prog w) A (assign target env v) (λ_ s₂=>
  vW (xU prog w) A (forIn ifs uJ λc r=>if r=uJ then do let ok<-isTrue c env (eval c env);pure (ForInStep.yield ok)else pure (ForInStep.yield r)) (λok s₃=>
   if ok=uJ then vW (xU prog w) A (eval elt env) (λx s₄=>vW (xU prog w) A (call (.builtin "list.append") [acc,x]) (λ_ s₅=>P s₅) (λ_ _=>False) s₄) (λ_ _=>False) s₃
   else P s₃) (λ_ _=>False) s₂) (λ_ _=>False) s
def XQ(prog:x0)(w:xC)(A:xj)(target elt:xw)(ifs:List xw)(it acc:xB)(env:Env)(R' P:x9->Prop)(s:x9):Prop:=
 vW (xU prog w) A (pyNext it) (λr s₁=>match r with
  |none=>R' s₁
  |some v=>vW (xU prog w) A (xS target it v) (λ_ s₁=>WQ prog w A target elt ifs acc env P v s₁) (λ_ _=>False) s₁) (λ_ _=>False) s
theorem rM(I:Nat->x9->Prop)
  (i:∀n s,I n s->XQ prog w A target elt ifs it acc env (R' (.ok .next)) (λs'=>∃m,m<n/\I m s') s)
  (n:Nat) (h:I n s):
  codeAny (xU prog w) A (.compLoop (.ListComp elt [⟨target,iter,ifs,0⟩] scope pos) 0 it acc env) R' s:=by
 refine codeAny_loop rfl I (λn s u=>?_) n h
 show vW _ A ((compTurn (.ListComp elt [⟨target,iter,ifs,0⟩] scope pos) 0 it acc env).onRaise (λx=>do noteFrame x env;theTreesLotGoes x)) _ _ s
 refine wpAny_noted ?_;rw[compTurn_list];refine vv ?_ (λ_ _ q=>q) (λ_ _(f:False)=>f.elim);refine vY (wpAny_standAt (vY (vv (i n s u) (λr p a=>?_) λ_ _ b=>b)));cases r with
 |none=>exact vB a
 | some v=>
  refine vY (vv a (λ_ k a=>?_) λ_ _ b=>b);refine vY (vv a (λ_ l j=>vY (vv j (λok s₃ h₃=>?_) λ_ _ b=>b)) λ_ _ b=>b);cases ok with
  |false=>exact vB ⟨rfl,h₃⟩
  |true=>
   exact vY (vY (vv h₃ (λx o d=>vY (vv d (λ_ t e=>vB (vB ⟨rfl,e⟩)) λ_ _ b=>b)) λ_ _ b=>b))
end
def RL(X:Cx)(E:XK)(ifs:List xw)(t:DB):Prop:=
 ∀(vG:List (xz×Obj))(s:x9)(σ:St)(H:Hp)(Q:Bool->Hp->Prop),Inv X vG σ H s->lB X.K E t σ H Q->
  vW (xU X.prog X.w) X.A (forIn ifs uJ λc r=>if r=uJ then do let ok<-isTrue c X.env (eval c X.env);pure (ForInStep.yield ok)else pure (ForInStep.yield r)) (TP X vG σ Q) X.xe s
def Lq:RL X E [] Ay:=λb s e H Q I h=>by obtain⟨a,S,G,hk,rfl,d,r,h⟩:=h;exact wpAny_tests_nil ⟨a.H,I,h a (.refl a) d⟩
def eR(d:QT X E c t):RL X E [c] t:=λa s b H Q I h=>wpAny_tests_one (d a s b H Q I h)
section
variable{X:Cx}{E:XK}{N:List Str}{scope:x2}{nt:Nat}{caps:List Nat}{tg elt iter:xw}{ifs:List xw}{pos:Pos}{it:DI}{g:DG}{c:DB}{te:DE}
theorem eS(r:RB a S σ):RB a (Ao nt caps S) (qQ nt uZ++caps.map λj=>(σ[j]?).join):=by
 refine⟨by simp[Ao],λi d h=>?_⟩;unfold Ao at h;by_cases f:i<nt
 .rw[zN (by simpa using f),qR]at h
  split at h<;>cases h
 rw[zL (by simpa using f),zD]at h;rw[zL (by simpa using f),zD];rw[jB]at h⊢;cases e:caps[i-nt]? with
 |none=>rw[e]at h;cases h
 | some j=>
  rw[e]at h;have b:(S[j]?).join=uQ d:=by simpa using h
  have l:S[j]?=uQ (uQ d):=by
   cases q:S[j]? with
   |none=>rw[q]at b;cases b
   |some o=>
    rw[q]at b;have k:o=uQ d:=b;rw[k]
  obtain⟨v,m,n⟩:=r.get j d l;exact⟨v,by simp[m],n⟩
def eU(h:(Ao nt caps S)[i]?=uQ (uQ d)):nt<=i:=by
 unfold Ao at h;by_cases a:i<nt
 .rw[zN (by simpa using a),qR]at h
  split at h<;>cases h
 lia
def ay(hc:X.calm=uJ)(cs:MC X N t nt caps)
  (hg:∀C s₀ H₀ ex,QG (LF X N t C s₀ H₀ ex) E0 tg g) (gk:GK nt g) (PM:∀C s₀ H₀ ex,RL (LF X N t C s₀ H₀ ex) E0 ifs c) (he:∀C s₀ H₀ ex,QE (LF X N t C s₀ H₀ ex) E0 elt te)
  {vG:List (xz×Obj)} {σ:St} {s:x9} {a:Wd} {S:ZB} {G:DH} {J:It} {n0:Nat} {f:Nat->DH->Option (Option D)} {i0:xz} {fp:List xz} {tn:Nat->Heap->Prop} (I:Inv X vG σ a.H s) (hk:a.K=X.K) (sm:QB a G) (rS:RB a S σ)
  (T:Turn X.prog X.w X.K tg J fp i0 tn) (t0:tn 0 s.heap) (hf:∀b∈fp,SD X vG a.H b) (rJ:RF a (.fn n0 f) J) {Q:VK}
  (h:out E0 a ((Bx f g c te (Ao nt caps S) n0 0 G).bind Ai) Q)
  {RR:xB->xz->Result->x9->Prop} {E':xB->x9->Prop}
  (OS:∀(D C:xz)(s':x9)(b:Wd)(vs:List V),Inv X vG σ (upd b.H D (.lst vs)) s'->b.H D=uZ->s.heap.objs.size<=C->D≠C->(∃m,s'.heap.Ns C m)->b.H C=uZ->Q (.ref D) (upd b.H D (.lst vs))->RR (.ref D) C (.ok .next) s'):
  vW (xU X.prog X.w) X.A (newList []) (λF s₃=>vW (xU X.prog X.w) X.A (newFunctionEnv t X.env.globals (Dy X.env t.names []) [] X.env.qual uZ .none (uQ X.env)) (λSF s₄=>
   codeAny (xU X.prog X.w) X.A (.compStart (.ListComp elt [⟨tg,iter,ifs,0⟩] t pos) 0 (.ref i0) F {SF with scope:=relabel t X.env}) (RR F SF.locals) s₄) E' s₃) E' s:=by
 refine vy (wpAny_newFunctionEnv cs.UJ (by intro y hy;simp at hy) (λh₁ YE W=>?_) cs.kind);dsimp only at YE W⊢;generalize hH2:s.heap.push {cls:=.type "list",dict:=uZ,data:=.seq ([]:List xB).toArray}=H2 at YE W⊢;have hC:H2.objs.size=s.heap.objs.size+1:=by rw[<-hH2,j1]
 have TL:s.heap.objs.size≠H2.objs.size:=by rw[hC];exact zP (q9 _)
 have YG:s.heap.objs.size<=H2.objs.size:=hC▸jy _;have LI:∀b∈fp,b<s.heap.objs.size:=λb hb=>by obtain⟨o,e,_⟩:=T.obj 0 _ t0 b hb;exact zx e
 have IW:s.heap.objs.size∉fp:=λhm=>zH _ (LI _ hm)
 have VQ:H2.objs.size∉fp:=λhm=>by have:=LI _ hm;rw[hC]at this;exact zH _ (Nat.lt_of_succ_lt this)
 have old:∀b o,s.heap.get? b=uQ o->h₁.get? b=uQ o:=λb o e=>
  W.extBut b o (by rw[hC];exact zP (jU (zx e))) (zW _ (hH2▸zW _ e))
 have US:h₁.PlainList s.heap.objs.size ([]:List xB).toArray:=⟨_,W.extBut _ _ TL (zW _ (hH2▸z9 _ rfl))⟩;generalize hCe:H2.objs.size=C at*;generalize hDe:s.heap.objs.size=M at*;let B:=LF X N t C s a.H fp;have JW:=eP cs I hf (hDe▸YG) VQ;let σ0:St:=.replicate nt uZ++caps.map λj=>(σ[j]?).join
 have start:∀tk,Inv B [] σ0 a.H {s with heap:=h₁,toks:=tk}:=λtk=>by
  refine⟨JW,rfl,I.bare,Un.kept old,⟨_,YE,λi x v e1 e2 e3=>?_⟩,λx d' e=>?_,I.SA.fresh (hDe▸YG),λx d' e=>?_,λp hp=>?_,I.SA.kept old,?_⟩
  .have hi:nt<=i:=by
    by_cases hi:i<nt
    .have SH:=e2;rw[zN (by simpa using hi),qR]at SH
     split at SH<;>cases SH
    lia
   have SH:=e2;rw[zL (by simpa using hi),zD,jB]at SH;cases ej:caps[i-nt]? with
   |none=>rw[ej]at SH;cases SH
   | some j=>
    rw[ej]at SH;have h1:(σ[j]?).join=uQ v:=by simpa using SH
    have h2:σ[j]?=uQ (uQ v):=by
     cases q:σ[j]? with
     |none=>rw[q]at h1;cases h1
     |some o=>
      rw[q]at h1;have L6:o=uQ v:=h1;rw[L6]
    obtain⟨y,ey,en,ek⟩:=cs.e? (i-nt) j ej;have P6:x=y:=by
     have:nt+(i-nt)=i:=by lia
     rw[this]at en;have L7:N[i]?=uQ x:=e1;rw[L7]at en;exact xv en
    subst P6;have kx:=cs.free (x,.free) (ze ek) rfl;have P7:ZO X.env.scope x:=by
     rcases kx with kx|kx
     .exact .inr (.inl kx)
     exact .inr (.inr kx)
    obtain⟨m,hn,hl⟩:=I.loc;obtain⟨u,ru,lk⟩:=hl j x v ey h2 P7;refine⟨u,ru,?_⟩;rcases lk with⟨k1,_⟩|⟨k1,c1,ec,ZM⟩
    .rcases kx with kx|kx
     .rw[k1]at kx;cases kx
     rw[k1]at kx;cases kx
    refine .inr ⟨?_,c1,?_,?_⟩
    .show(relabel t X.env).names.lookup x=uQ .cell\/(relabel t X.env).names.lookup x=uQ .free;rw[Zo,ek];simp only[jP];split
     .exact .inl rfl
     exact .inr rfl
    .obtain⟨d1,L8⟩:=Rz (.inl (ze ek));obtain⟨d2,KW⟩:=Vu L8;have:=cs.cl I.ok KW;rw[ec]at this;cases this;exact KW
    .obtain⟨o,e,dd⟩:=ZM;exact⟨o,old _ _ e,dd⟩
  .obtain⟨v,o,e',dd⟩:=I.cell x d' (cs.cl I.ok e);exact⟨v,o,old _ _ e',dd⟩
  .exact I.Fq x d' (cs.cl I.ok e)
  .exact absurd hp (by simp[B,LF])
  show σ0.length=N.length;rw[cs.len];simp[σ0]
 have young:∀b∈fp,b≠C:=λb hb z=>VQ (z▸hb)
 have LW:∀{H':Hp}{ps:List (xz×Obj)},(∀b∈fp,H' b=uZ)->(∀p∈ps,p.1∉fp)->∀b∈fp,SD B ps H' b:=λ{H' ps}hn hps b hb=>
  ⟨hn b hb,young b hb,JW.MH b hb,.inl hb,λx d' e=>(hf b hb).2.2.2.2.1 x d' (cs.cl I.ok e),λp hp z=>by exact hps p (by simpa[B,LF]using hp) (z▸hb)⟩
 have HN:M∉YC X.stack:=λz=>by
  rcases zZ.mp (I.Qm M z)with z|z
  .have:=I.lt;rw[hDe,<-z]at this;exact zH _ this
  exact I.HP (hDe▸zY _) z
 have TF:∀{L:St}{H':Hp}{s':x9}{l:List xB}{nD:Nat},Inv B [] L H' s'->s'.heap.get? M=uQ {cls:=.type "list",data:=.seq l.toArray nD}->H' M=uZ->Inv B [(M,{cls:=.type "list",data:=.seq l.toArray nD})] L H' s':=λ{L H' s' l nD}J e n=>
  J.Gp λp hp=>by
   have ep:p=(M,{cls:=.type "list",data:=.seq l.toArray nD}):=by simpa using hp
   subst ep;exact⟨e,n,TL,HN,λv' z=>by cases z⟩
 have fin:∀(s':x9)(b:Wd)(L:St)(l:List xB)(U:List D)(G':DH),Inv B [] L b.H s'->Ext a b->QB b G'->s'.heap.PlainList M l.toArray->b.H M=uZ->(∃vs,Vals vs l/\KA b U vs)->out E0 b (Ai U G') Q->RR (.ref M) C (.ok .next) s':=by
  intro s' b L l U G' IB x sb pl hD ⟨vs,hv,rv⟩ hq;have hz:U.length<=1000000:=by
   unfold Ai at hq;split at hq
   .assumption
   exact hq.elim
  obtain⟨n,eD⟩:=pl;have MW:∀{q:xz}{o:Obj},s.heap.get? q=uQ o->q≠M:=λe z=>by rw[z,<-hDe]at e;exact absurd (zx e) (zH _)
  have Ia:Inv X vG σ (upd b.H M (.lst vs)) s':=by
   refine aw (I.JK IB.os IB.base IB.SA IB.bare λb hb=>⟨(hf b hb).2.2.2.1,(hf b hb).2.1,(hf b hb).2.2.2.2.1,(hf b hb).2.2.2.2.2⟩) hD (by rw[<-hDe];exact I.sz) ?_ (λy c' ec=>?_) (λp hp=>?_) ⟨?_,l,n,hv,eD⟩
   .rw[<-hDe];exact jD I.lt
   .obtain⟨v,o,e,_⟩:=I.cell y c' ec;exact MW e
   .exact MW (I.pin p hp).1
   rw[<-rv.length];exact zy hz UC
  refine OS M C s' b vs Ia hD YG TL (let⟨m,hn,_⟩:=IB.loc;⟨m,hn⟩) IB.free ?_;unfold Ai at hq;rw[if_pos hz]at hq;exact Lf sb rv hq M hD
 have JN:∀(P:x9->Prop)(rest:DH->R (List D))(s1:x9)(b:Wd)(G1:DH)(σ1:St)(l:List xB)(F:List D)(u:xB)(v:V)(x:D)(i:Nat),Inv B [] σ1 b.H s1->Ext a b->QB b G1->RB b (Ao nt caps S) σ1->tn i s1.heap->(∀q∈fp,b.H q=uZ)->
   s1.heap.PlainList M l.toArray->b.H M=uZ->(∃vs,Vals vs l/\KA b F vs)->RelV v u->UB b x v->
   out E0 b (((g x (Ao nt caps S) G1).bind λS1 G1=>(c S1 G1).bind λk G2=>if k=uJ then(te S1 G2).bind λd G3=>(rest G3).bind λU G4=>.ok (d::U) G4 else rest G2).bind λU G=>Ai (F++U) G) Q->
   (∀(s2:x9)(b2:Wd)(G2:DH)(Z:St)(KN:List xB)(UL:List D),Inv B [] Z b2.H s2->Ext a b2->QB b2 G2->RB b2 (Ao nt caps S) Z->tn i s2.heap->(∀q∈fp,b2.H q=uZ)->
    s2.heap.PlainList M KN.toArray->b2.H M=uZ->(∃vs,Vals vs KN/\KA b2 UL vs)->out E0 b2 ((rest G2).bind λU G=>Ai (UL++U) G) Q->P s2)->
   WQ X.prog X.w X.A tg elt ifs (.ref M) B.env P u s1:=by
  intro P rest s1 b G1 σ1 l F u v x i I1 x1 sb VP t1 QK pl hD MI ru rx hq next
  rw[R.bind_assoc]at hq;obtain⟨nD,eD⟩:=id pl;let TF:List (xz×Obj):=[(M,{cls:=.type "list",data:=.seq l.toArray nD})];have NI:∀{L:St}{H':Hp}{s':x9},Inv B (TF++Ls fp s1.heap) L H' s'->s'.heap.PlainList M l.toArray/\H' M=uZ/\tn i s'.heap/\∀q∈fp,H' q=uZ:=λ{L H' s'}J=>by
   have p1:=J.pin (M,{cls:=.type "list",data:=.seq l.toArray nD}) (zk _ (qB _ (by simp[TF])));refine⟨⟨nD,p1.1⟩,p1.2.1,T.keep _ _ _ t1 λq O o e=>(J.pin (q,o) (zk _ (zk _ (Oc O e)))).1,λq O=>?_⟩;obtain⟨o,e,_⟩:=T.obj _ _ t1 q O;exact(J.pin (q,o) (zk _ (zk _ (Oc O e)))).2.1
  have I2:Inv B (TF++Ls fp s1.heap) σ1 b.H s1:=I1.Gp λp hp=>by
   rcases zG.mp hp with hp|hp
   .have e:p=(M,{cls:=.type "list",data:=.seq l.toArray nD}):=by simpa[TF]using hp
    subst e;exact⟨eD,hD,TL,λz=>(HN z),λv' z=>by cases z⟩
   obtain⟨hb,e⟩:=aW hp;obtain⟨f0,f1,f2,_⟩:=LW (ps:=[]) QK (λp hp=>by cases hp) p.1 hb;obtain⟨o,e',dd⟩:=T.obj _ _ t1 p.1 hb;rw[e]at e';cases e';exact⟨e,f0,f1,f2,dd⟩
  refine ZA (hg C s a.H fp _ s1 σ1 b.H v u _ I2 ru ⟨b,Ao nt caps S,G1,x,x1.k.trans hk,rfl,sb,VP,rx,(eQ hq).imp λ_ _ z=>z⟩) ?_;rintro _ s2 ⟨Z,H2',J2,b2,S2,G2,rfl,y2,sb2,rS2,eg,hq2⟩;rw[R.bind_assoc]at hq2;have LN:RB b2 (Ao nt caps S) Z:=⟨by rw[VP.len,I1.len];exact J2.len.symm,λj e' hj=>rS2.get j e' (gk _ _ _ _ _ eg j e' (eU hj) hj)⟩
  refine ZA (PM C s a.H fp _ s2 Z b2.H _ J2 ⟨b2,S2,G2,y2.k.trans (x1.k.trans hk),rfl,sb2,rS2,(d9 hq2).imp λ_ _ z=>z⟩) ?_;rintro k s3 ⟨H3,J3,b3,G3,rfl,y3,sb3,_,hq3⟩;cases k with
  |false=>
   obtain⟨p1,p2,p3,p4⟩:=NI J3;obtain⟨vs,hv,rv⟩:=MI
   exact next s3 b3 G3 Z l F (J3.Gp λp hp=>by cases hp) (x1.trans (y2.trans y3)) sb3 (LN.mono y3) p3 p4 p1 p2 ⟨vs,hv,(rv.mono y2).mono y3⟩ hq3
  | true=>
   have MN:out E0 b3 (((te S2 G3).bind λd G3=>(rest G3).bind λU G4=>.ok (d::U) G4).bind λU G=>Ai (F++U) G) Q:=hq3;rw[R.bind_assoc]at MN;refine ZA (he C s a.H fp _ s3 Z b3.H _ J3 ⟨b3,S2,G3,y3.k.trans (y2.k.trans (x1.k.trans hk)),rfl,sb3,rS2.mono y3,(Ec MN).imp λ_ _ z=>z⟩) ?_;rintro w s4 ⟨vw,H4,J4,KL,b4,d4,G4,rfl,y4,sb4,q4,_,hq4⟩;obtain⟨p1,p2,p3,p4⟩:=NI J4;rw[R.bind_assoc]at hq4;have Y:out E0 b4 ((rest G4).bind λU G=>Ai ((F++[d4])++U) G) Q:=by
    have e:(λ(U:List D)(G:DH)=>(R.ok (d4::U) G).bind λU G=>Ai (F++U) G)=λU G=>Ai ((F++[d4])++U) G:=by funext U G;simp
    rw[<-e];exact hq4
   obtain⟨vs,hv,rv⟩:=MI;have LK:l.toArray.size<=sizeLine:=by
    have:F.length<=1000000:=by
     cases hr:rest G4 with
     |ok U G5=>
      rw[hr]at Y;have P8:out E0 b4 (Ai ((F++[d4])++U) G5) Q:=Y;unfold Ai at P8;split at P8
      .rename_i hl;simp at hl;lia
      exact P8.elim
     |err e' G5=>rw[hr]at Y;exact(Y.1 rfl).elim
     |bad=>rw[hr]at Y;exact Y.elim
    rw[zj,<-hv.length,<-rv.length];exact zy this UC
   refine wpAny_list_append_plain p1 (λh' VS WS=>?_) LK;have J5:Inv B [] Z b4.H {s4 with heap:=h'}:=by refine(J4.Gp λp hp=>by cases hp).turned (λq o O e=>(WS.2 q O).trans e) p2 TL (.inr (by show s.heap.objs.size<=M;rw[hDe];exact zY _)) (λy c' ec=>?_) (λp hp=>absurd hp (by simp[B,LF]));obtain⟨v',o,e,_⟩:=I.cell y c' (cs.cl I.ok ec);intro z;rw[z,<-hDe]at e;exact absurd (zx e) (zH _)
   refine next _ b4 G4 Z (l++[w]) (F++[d4]) J5 (x1.trans (y2.trans (y3.trans y4))) sb4 ((LN.mono y3).mono y4) (T.keep _ _ _ p3 λq O o e=>(WS.2 q (λz=>IW (z▸O))).trans e) p4 (by simpa using VS) p2 ⟨vs++[vw],hv.append (.cons KL .nil),(((rv.mono y2).mono y3).mono y4).append (.cons q4 KA.nil)⟩ Y
 have loop:∀s₃:x9,s₃={s with heap:=h₁,toks:=s.toks+([]:List (Str×xB)).length}->
   codeAny (xU X.prog X.w) X.A (.compLoop (.ListComp elt [⟨tg,iter,ifs,0⟩] t pos) 0 (.ref i0) (.ref M) B.env) (RR (.ref M) C) s₃:=by
  rintro s₃ rfl;have walk:=rJ;obtain⟨Iv,ZS⟩:∃Iv:Nat->x9->Prop,∀m s',Iv m s'↔∃(i:Nat)(b:Wd)(G':DH)(L:St)(l:List xB)(F:List D),Inv B [] L b.H s'/\Ext a b/\QB b G'/\RB b (Ao nt caps S) L/\tn i s'.heap/\(∀q∈fp,b.H q=uZ)/\s'.heap.PlainList M l.toArray/\b.H M=uZ/\(∃vs,Vals vs l/\KA b F vs)/\out E0 b ((Bx f g c te (Ao nt caps S) m i G').bind λU G=>Ai (F++U) G) Q:=⟨_,λ_ _=>Iff.rfl⟩;refine rM Iv (λm s' h'=>?_) n0 ((ZS _ _).2 ⟨0,a,G,σ0,[],[],start _,Ext.refl a,sm,eS rS,T.keep _ _ _ t0 λq _ o e=>old q o e,λq hq=>(hf q hq).1,US,I.SA.fresh (hDe▸zY _),⟨[],.nil,rfl⟩,by simpa using h⟩)
  obtain⟨i,b,G',L,l,F,IB,x,sb,VP,ti,QK,pl,hD,NW,hq⟩:=(ZS _ _).1 h';clear h';obtain⟨nD,eD⟩:=pl;have I0:=TF IB eD hD;have f0:=LW (ps:=[(M,{cls:=.type "list",data:=.seq l.toArray nD})]) QK (λp hp=>by
   have ep:p=(M,{cls:=.type "list",data:=.seq l.toArray nD}):=by simpa using hp
   subst ep;exact IW)
  have stop:J.stop i b.H->out E0 b (Ai F G') Q->∀P,XQ X.prog X.w X.A tg elt ifs (.ref i0) (.ref M) B.env (RR (.ref M) C (.ok .next)) P s':=by intro st O P;refine ZA (T.done B rfl rfl rfl hc i _ s' L b.H _ I0 f0 ti st) ?_;rintro r s1 ⟨rfl,I2⟩;have pD:=(I2.pin (M,{cls:=.type "list",data:=.seq l.toArray nD}) (zk _ (by simp))).1;exact fin s1 b L l F G' (I2.Gp λp hp=>by cases hp) x sb ⟨nD,pD⟩ hD NW O
  cases m with
  |zero=>
   unfold Bx at hq;split at hq
   .rename_i hf;exact stop ((walk b x G' sb i).2 hf) (by have O:out E0 b (Ai (F++[]) G') Q:=hq;rw[qY]at O;exact O) _
   exact hq.elim
  | succ m=>
   unfold Bx at hq;split at hq
   .rename_i d1 hf;obtain⟨go,yl⟩:=(walk b x G' sb i).1 d1 hf;refine ZA (T.item B rfl rfl rfl hc i _ s' L b.H _ I0 f0 ti go) ?_;rintro r s1 ⟨u,rfl,hgo⟩;refine ZA hgo ?_;rintro _ s2 ⟨v,H',I2,ru,y,t2,hfp2⟩;obtain⟨cc,rfl,xx,ss,rd⟩:=yl v H' y;have pD:=I2.pin (M,{cls:=.type "list",data:=.seq l.toArray nD}) (zk _ (by simp));obtain⟨L9,N9,JS⟩:=NW;refine JN _ (λG3=>Bx f g c te (Ao nt caps S) m (i+1) G3) s2 cc G' L l F u _ d1 (i+1) (I2.Gp λp hp=>by cases hp) (x.trans xx) ss (VP.mono xx) t2 hfp2 ⟨nD,pD.1⟩ pD.2.1 ⟨L9,N9,JS.mono xx⟩ ru rd (out.mono xx hq) ?_
    intro s3 b3 G3 σ3 IT JT a1 a2 a3 a4 a5 a6 a7 a8 a9 OW;exact⟨m,q9 _,(ZS _ _).2 ⟨i+1,b3,G3,σ3,IT,JT,a1,a2,a3,a4,a5,a6,a7,a8,a9,OW⟩⟩
   .rename_i hf;exact stop ((walk b x G' sb i).2 hf) (by have O:out E0 b (Ai (F++[]) G') Q:=hq;rw[qY]at O;exact O) _
   exact hq.elim
 exact codeAny_compStart_list (loop _ rfl) (T.self _ 0 _ _ _ (T.keep _ _ _ t0 λq _ o e=>old q o e) (loop _ rfl))
theorem Yu{g:DG}{c:DB}{b:DE}{S:ZB}{xs:List D}:∀(n j:Nat)(G:DH),j+n=xs.length->Bc g c b S (xs.drop j) G=Bx (λj _=>uQ xs[j]?) g c b S n j G
 |0,j,G,h=>by
  rw[jQ (by lia)]
  show _=(match uQ xs[j]? with |some uZ=>R.ok [] G|_=>.bad)
  rw[qj (by lia)]
  rfl
 |n+1,j,G,h=>by
  have a:j<xs.length:=by lia
  rw[qK a]
  show(g xs[j] S G).bind _=(match uQ xs[j]? with |some (uQ x)=>_|some uZ=>R.ok [] G|none=>.bad)
  rw[zX a];dsimp only
  congr 1
  funext l i
  congr 1
  funext k f;rw[Yu n (j+1) f (by lia)]
  congr 1
  congr 1
  funext d e;rw[Yu n (j+1) e (by lia)]
theorem eV{g:DG}{c:DB}{a:DE}:∀(n j:Nat)(G:DH),Gj i g c a S n j G=Bx (UP i) g c a S n j G
 | 0,j,G=>by
  unfold Gj Bx UP;cases G[i]? with
  |none=>rfl
  | some o=>
   cases o with
   |lst b=>
    dsimp only;by_cases d:j<b.length
    .rw[if_neg (by lia),zX d]
    rw[if_pos (by lia),qj (by lia)]
   |_=>rfl
 | n+1,j,G=>by
  have e:(Gj i g c a S n (j+1))=Bx (UP i) g c a S n (j+1):=funext λG=>eV n (j+1) G
  unfold Gj Bx;rw[e];unfold UP;cases G[i]? with
  |none=>rfl
  | some o=>
   cases o with
   |lst b=>
    dsimp only
    cases b[j]?<;>rfl
   |_=>rfl
theorem eW(hc:X.calm=uJ)(cs:MC X N scope nt caps)
  (hg:∀C s₀ H₀ ex,QG (LF X N scope C s₀ H₀ ex) E0 tg g) (gk:GK nt g) (PM:∀C s₀ H₀ ex,RL (LF X N scope C s₀ H₀ ex) E0 ifs c) (he:∀C s₀ H₀ ex,QE (LF X N scope C s₀ H₀ ex) E0 elt te)
  {vG:List (xz×Obj)} {σ:St} {s:x9} {a:Wd} {S:ZB} {G:DH} {J:It} {d:UQ} {i0:xz} {fp:List xz} {tn:Nat->Heap->Prop} (I:Inv X vG σ a.H s) (hk:a.K=X.K) (sm:QB a G) (rS:RB a S σ)
  (T:Turn X.prog X.w X.K tg J fp i0 tn) (t0:tn 0 s.heap) (hf:∀b∈fp,SD X vG a.H b) (rJ:RF a d J) {Q:VK}
  (h:out E0 a ((match d with
   |.pure xs=>Bc g c te (Ao nt caps S) xs G
   |.mt i=>match G[i]? with
    |some (.lst xs)=>Gj i g c te (Ao nt caps S) xs.length 0 G
    |_=>.bad
   |.fn n f=>Bx f g c te (Ao nt caps S) n 0 G).bind Ai) Q)
  {RR:xB->xz->Result->x9->Prop} {E':xB->x9->Prop}
  (OS:∀(D C:xz)(s':x9)(b:Wd)(vs:List V),Inv X vG σ (upd b.H D (.lst vs)) s'->b.H D=uZ->s.heap.objs.size<=C->D≠C->(∃m,s'.heap.Ns C m)->b.H C=uZ->Q (.ref D) (upd b.H D (.lst vs))->RR (.ref D) C (.ok .next) s'):
  vW (xU X.prog X.w) X.A (newList []) (λacc s₃=>vW (xU X.prog X.w) X.A (newFunctionEnv scope X.env.globals (Dy X.env scope.names []) [] X.env.qual uZ .none (uQ X.env)) (λSF s₄=>
   codeAny (xU X.prog X.w) X.A (.compStart (.ListComp elt [⟨tg,iter,ifs,0⟩] scope pos) 0 (.ref i0) acc {SF with scope:=relabel scope X.env}) (RR acc SF.locals) s₄) E' s₃) E' s:=by
 cases d with
 |pure xs=>
  have h':out E0 a ((Bc g c te (Ao nt caps S) (xs.drop 0) G).bind Ai) Q:=h;rw[Yu xs.length 0 G (by lia)]at h';exact ay hc cs hg gk PM he I hk sm rS T t0 hf (am rJ) h' OS
 |mt k=>
  dsimp only at h;split at h
  .rename_i xs hx;rw[eV]at h;exact ay hc cs hg gk PM he I hk sm rS T t0 hf (du rJ) h OS
  exact h.elim
 |fn n0 f=>exact ay hc cs hg gk PM he I hk sm rS T t0 hf rJ h OS
end
section
variable{X:Cx}{N:List Str}{scope:x2}{nt:Nat}{caps:List Nat}{tg elt iter:xw}{ifs:List xw}{pos:Pos}{it:DI}{g:DG}{c:DB}{te:DE}
def letGo{vG:List (xz×Obj)}{l:St}{H:Hp}{j s':x9}{h':Heap}{C:xz}{t':Nat}{i:St}{t:Hp}(f:Inv X vG i t j)(u:Inv X vG l H s')(h:j.heap.objs.size<=C)(n:H C=uZ)(k:jv C s'.heap h'):Inv X vG l H {s' with heap:=h',toks:=t'}:=by
 have a:∀{b:xz}{o:Obj},j.heap.get? b=uQ o->b≠C:=λe z=>by rw[z]at e;exact absurd (zK (zx e) h) (zH _)
 refine u.turned (λb o r e=>(k.2 b r).trans e) n (jD (zK f.lt h)) (.inr (zy f.sz h)) (λx s e=>?_) λp hp=>(a (f.pin p hp).1)
 .obtain⟨v,o,q,_⟩:=f.cell x s e;exact a q
def Mr(L:X.calm=uJ)(cs:MC X N scope nt caps)(U:QI X E0 tg iter it)
  (F:∀C e f i,QG (LF X N scope C e f i) E0 tg g) (A:GK nt g) (n:∀C e f i,RL (LF X N scope C e f i) E0 ifs c) (M:∀C e f i,QE (LF X N scope C e f i) E0 elt te)
  (K:∀x,foldedSetIterable iter X.env x=pure x:=by intro _;rfl):QE X E0 (.ListComp elt [⟨tg,iter,ifs,0⟩] scope pos) (Cw it nt caps g c te):=by
 intro j s O H Q I h;obtain⟨a,S,G,hk,rfl,Y,r,h⟩:=h;rw[eval_ListComp];refine wpAny_comprehension_free rfl K (Wm (cs.cells I.ok)) cs.kind cs.names (ZA (U j s O a.H _ I ⟨a,S,G,hk,rfl,Y,r,(Vt h).imp λ_ _ z=>z⟩) λxv s1 o=>ZA o λw s2 y=>?_);obtain⟨i0,fp,tn,J,H2,rfl,u,T,P,B,b,d,G1,rfl,x,W,Z,_,o⟩:=y;refine eW L cs F A n M u (x.k.trans hk) W (r.mono x) T P B Z o ?_;intro D C s' b vs Ia hD l p ⟨m,v⟩ t E
 refine⟨m,v,λh' q=>⟨.ref D,_,letGo u Ia l ?_ q,rfl,E⟩⟩;rw[Aw (.symm p)];exact t
def rN(i:Nat){y:Str}{U n:Pos}(hc:X.calm=uJ)(hN:X.N.Nodup)(cs:MC X N scope nt caps)(hi:QI X E0 tg iter it)
  (hg:∀C f j t,QG (LF X N scope C f j t) E0 tg g) (gk:GK nt g) (A:∀C f j t,RL (LF X N scope C f j t) E0 ifs c) (he:∀C f j t,QE (LF X N scope C f j t) E0 elt te)
  (hy:X.N[i]?=uQ y:=by rfl) (hx:Loc X.env.scope y:=by rfl') (hf:X.fn y=uJ\/X.env.scope.names.lookup y=uQ .local:=by rfl')
  (Q:swapsWith (.ListComp elt [⟨tg,iter,ifs,0⟩] scope pos) (uQ (.Name y U)) n.line X.env=pure uJ:=by rfl)
  (hs:∀x,foldedSetIterable iter X.env x=pure x:=by intro _;rfl):QS X E0 (.Assign [.Name y U] (.ListComp elt [⟨tg,iter,ifs,0⟩] scope pos) n) (XB (Cw it nt caps g c te) (gV i)):=by
 intro u s σ H W I h;obtain⟨a,S,G,hk,rfl,sm,r,h⟩:=h;have h0:=Oh h;rw[exec_Assign_Name_used _ _ _ _ Q];refine vY (wpAny_standAt (vY ?_));refine vY (vv (wpAny_comprehension_free rfl hs (Wm (cs.cells I.ok)) cs.kind cs.names
  (ZA (hi u s σ a.H _ I ⟨a,S,G,hk,rfl,sm,r,(Vt h0).imp λ_ _ z=>z⟩) λxv s1 F=>ZA F λJV s2 h2=>?_)) (λ_ s' K=>vB (vB K)) λ_ _ e=>e)
 obtain⟨i0,fp,tn,J,H2,rfl,w,T,t0,f2,b,d,G1,rfl,x,sb,rJ,_,F⟩:=h2;refine eW hc cs hg gk A he w (x.k.trans hk) sb (r.mono x) T t0 f2 rJ F ?_;intro D C s' b' vs Ia hD l M ⟨m,Z⟩ P K;refine wpAny_assign_Name (aR Ia hN hy hx (v:=.ref D) rfl (λOP B E=>?_) hf);obtain⟨a',q,p⟩:=E;have L:C≠a':=by
  rintro rfl;rcases p with rfl|p
  .exact absurd (zK w.lt l) (zH _)
  obtain⟨v,o,e',_⟩:=w.cell _ _ p;exact absurd (zK (zx e') l) (zH _)
 refine⟨m,Z.sameBut q L,λh' O=>⟨_,_,letGo w B l ?_ O,?_⟩⟩
 .rw[Aw (.symm M)];exact P
 obtain⟨Y,d3,G3,e3,x3,s3,q3,_,h3⟩:=K;rw[<-e3];exact h3 Y _ (.refl Y) s3 ((r.mono x3).set i q3)
end
noncomputable def K5:D->DH->R D
 |.int i,G=>.ok (.int (-i)) G
 |_,_=>.bad
noncomputable def Dm:D->Bool
 |.UA=>uJ
 |_=>uX
def Nq:D->D->DH->R D
 |d,.UA,G=>.ok (.bl (Dm d)) G
 |_,_,_=>.bad
def Jr:D->D->DH->R D
 |d,.UA,G=>.ok (.bl (!Dm d)) G
 |_,_,_=>.bad
noncomputable def Li:D->Option V
 |.UA=>uQ .UA
 |.bl b=>uQ (.bl b)
 |.int i=>uQ (.int i)
 |.str x=>uQ (.str x)
 |_=>uZ
def Jl:List D->Option (List V)
 |[]=>uQ []
 |d::r=>match Li d,Jl r with
  |some v,uQ vs=>uQ (v::vs)
  |_,_=>uZ
def inD(d e:D)(G:DH):Option Bool:=match e with
 |.str j=>match d with
  |.str i=>uQ (!(zd j i 0 j.length 1).isEmpty)
  |_=>uZ
 |e=>match Be e G,Li d with
  |some xs,uQ v=>(Jl xs).map λvs=>ML v vs
  |_,_=>uZ
def Ek(d e:D)(G:DH):R D:=match inD d e G with
 |some k=>.ok (.bl k) G
 |none=>.bad
def Hk(d e:D)(G:DH):R D:=match inD d e G with
 |some k=>.ok (.bl (!k)) G
 |none=>.bad
section
variable{X:Cx}{E:XK}{a b:xw}{ta tb:DE}{pos:Pos}
theorem rO:JU X (unaryOp .USub) (b? X.K E K5):=λc s f H x v Q I g h=>by
 obtain⟨a,G,d,hk,rfl,j,e,q⟩:=h;cases d with
 |int i=>exact my c s f a.H x v Q I g ⟨i,e,q a _ (.refl a) j rfl⟩
 |_=>exact q.elim
def rP(ho:JU X (unaryOp op) (b? X.K E f))(g:QE X E a ta):QE X E (.UnaryOp op a pos) (XE f ta):=(mr ho g).mono λj H Q h=>by obtain⟨a,S,G,hk,rfl,s,r,h⟩:=h;refine⟨a,S,G,hk,rfl,s,r,(Ec h).imp ?_⟩;rintro v _ ⟨b,d,c,rfl,x,i,q,-,e⟩;exact⟨b,c,d,x.k.trans hk,rfl,i,q,e⟩
def rQ(d:Gl X x)(f:X.mg x=uZ)(e:xL x=uQ (.type n))(c:x≠"__name__":=by decide)(g:(x==("__debug__":Str))=uX:=by decide):QE X E (.Name x pos) (dC (.ty n)):=
 (dD (v:=.ty n) d f e rfl c g).mono λi H Q h=>Pq h λ_ _=>rfl
theorem eX{a:Wd}(c:UB a d x):decide (x=V.UA)=Dm d:=by
 cases d with
 |tup _|fl _=>obtain⟨p,e,rfl,_⟩:=c;rfl
 |ref _=>rw[c.2];rfl
 |_=>rw[c];rfl
theorem P9:VB X (xO .Is) (WE X.K E Nq):=Fy nH λa G d e x y Q hk s c f q=>by
 cases e with
 |UA=>exact⟨f,by rw[eX c];cases d<;>exact q a _ (.refl a) s rfl⟩
 |_=>cases d<;>exact q.elim
theorem rR:VB X (xO .IsNot) (WE X.K E Jr):=Fy nI λa G d e x y Q hk s c f q=>by
 cases e with
 |UA=>exact⟨f,by rw[eX c];cases d<;>exact q a _ (.refl a) s rfl⟩
 |_=>cases d<;>exact q.elim
def eY{a:Wd}(r:UB a d x)(h:Li d=uQ v):x=v/\Dj v=uJ:=by
 cases d<;>first
  |(cases h;exact⟨r,rfl⟩)
  |cases h
theorem eZ{a:Wd}:∀{c:List D}{xs vs:List V},KA a c xs->Jl c=uQ vs->xs=vs/\vs.all Dj=uJ
 |[],xs,vs,r,h=>by cases h;exact⟨r,rfl⟩
 |d::c,xs,vs,r,h=>by
  obtain⟨x,o,rfl,i,j⟩:=r;unfold Jl at h;split at h
  .rename_i v n e g;cases h;obtain⟨f,k⟩:=eY i e;obtain⟨l,m⟩:=eZ j g;subst f;subst l;exact⟨rfl,by rw[j5,k,m];rfl⟩
  cases h
theorem e7{a:Wd}(s:QB a G)(c:UB a d x)(f:UB a e y)(h:inD d e G=uQ k):
  (∃i j,x=.str i/\y=.str j/\k= !(zd j i 0 j.length 1).isEmpty)\/(∃p xs,y=.ref p/\(IE a.K a.H p xs\/JE a.K a.H p xs)/\Dj x=uJ/\xs.all Dj=uJ/\k=ML x xs):=by
 have seq:(match Be e G,Li d with |some xs,uQ v=>(Jl xs).map λt=>ML v t|_,_=>uZ)=uQ k->(∃p xs,y=.ref p/\(IE a.K a.H p xs\/JE a.K a.H p xs)/\Dj x=uJ/\xs.all Dj=uJ/\k=ML x xs):=λh=>by
  split at h
  .rename_i xs v l n;obtain⟨p,g,m,q,r⟩:=Jd s f l;obtain⟨A,B⟩:=eY c n;subst A;rw[zA]at h;obtain⟨C,u,w⟩:=h;obtain⟨o,z⟩:=eZ r u;subst o;exact⟨p,g,m,q,B,z,w.symm⟩
  cases h
 cases e with
 |str j=>
  cases d with
  |str i=>exact .inl ⟨i,j,c,f,(xv h).symm⟩
  |_=>cases h
 |tup xs|fl xs|ref i|_=>exact .inr (seq h)
def Ow:VB X (xO .In) (WE X.K E Ek):=Fy (nG.or oi) λa G d e x y Q hk s f l q=>by
 unfold Ek at q;split at q
 .rename_i k h;have z:=q a _ (.refl a) s rfl;rcases e7 s f l h with⟨i,j,c,o,rfl⟩|⟨p,n,c,g,m,r,rfl⟩
  .exact .inl ⟨i,j,c,o,z⟩
  exact .inr ⟨p,n,c,by rw[<-hk];exact g,m,r,z⟩
 exact q.elim
def ed:VB X (xO .NotIn) (WE X.K E Hk):=Fy (nJ.or oj) λa G d e x y Q hk s f l q=>by
 unfold Hk at q;split at q
 .rename_i k h;have z:=q a _ (.refl a) s rfl;rcases e7 s f l h with⟨i,j,c,o,rfl⟩|⟨p,n,c,g,m,r,rfl⟩
  .exact .inl ⟨i,j,c,o,z⟩
  exact .inr ⟨p,n,c,by rw[<-hk];exact g,m,r,z⟩
 exact q.elim
end
def ef:xL "isinstance"=uQ (.builtin "isinstance"):=by decide +kernel
def az:xL "all"=uQ (.builtin "all"):=by decide +kernel
def eh:xL "sum"=uQ (.builtin "sum"):=by decide +kernel
def fA:xL "max"=uQ (.builtin "max"):=by decide +kernel
def rT:xL "min"=uQ (.builtin "min"):=by decide +kernel
def rV:xL "len"=uQ (.builtin "len"):=by decide +kernel
def rW:xL "int"=uQ (.type "int"):=by decide +kernel
def rX:xL "bool"=uQ (.type "bool"):=by decide +kernel
def rY:xL "str"=uQ (.type "str"):=by decide +kernel
def bA:xL "tuple"=uQ (.type "tuple"):=by decide +kernel
def rZ:xL "list"=uQ (.type "list"):=by decide +kernel
noncomputable def Im:xy->Bool | .local=>uJ|_=>uX
noncomputable def Mf:xy->Bool | .cell=>uJ|_=>uX
noncomputable def Le:xy->Bool | .free=>uJ|_=>uX
noncomputable def VL(p:xy->Bool):Option xy->Bool|some k=>p k|none=>uX
def fB(h:Im k=uJ):k=.local:=by cases k<;>first|rfl|cases h
def r6(h:Mf k=uJ):k=.cell:=by cases k<;>first|rfl|cases h
def fC(h:Le k=uJ):k=.free:=by cases k<;>first|rfl|cases h
theorem R7(hp:∀a,p a=uJ->a=k)(h:VL p o=uJ):o=uQ k:=by
 cases o with
 |none=>cases h
 |some a=>rw[hp _ h]
def Ob(dn:List (Str×xy))(N0 N:List Str)(names:List (Str×xy))(nt:Nat)(caps:List Nat):Bool:=
 names.all (λy=>(!Im y.2||VL Im (names.lookup y.1)) && !Mf y.2&&(!Le y.2||VL Mf (dn.lookup y.1)||VL Le (dn.lookup y.1)))&&decide N.Nodup&&decide (N.length=nt+caps.length) &&
 (zE caps.length).all λk=>match caps[k]? with
  |some j=>match N0[j]? with
   |some x=>decide (N[nt+k]?=uQ x)&&VL Le (names.lookup x)
   |none=>uX
  |none=>uJ
theorem Ke{X:Cx}{N0 N:List Str}{a:x2}{nt:Nat}{caps:List Nat}{dn:List (Str×xy)}(hk:a.kind=.function:=by rfl)(f:∀x,X.env.kindOf x=dn.lookup x:=by intro _;rfl)(m:X.N=N0:=by rfl)
  (h:Ob dn N0 N a.names nt caps=uJ:=by decide +kernel):MC X N a nt caps:=by
 unfold Ob at h;rw[zq,zq,zq]at h;obtain⟨⟨⟨g,n⟩,o⟩,l⟩:=h;rw[qX]at g l;have b:=λ(y:Str×xy)(c:y∈a.names)=>(by have:=g y c;rw[zq,zq]at this;exact this:((!Im y.2||VL Im (a.names.lookup y.1))=uJ/\(!Mf y.2)=uJ)/\(!Le y.2||VL Mf (dn.lookup y.1)||VL Le (dn.lookup y.1))=uJ)
 refine⟨hk,λy c d=>?_,λy c d=>?_,λy c d=>?_,of_decide_eq_true n,of_decide_eq_true o,λk j i=>?_⟩
 .have:=(b y c).1.1;rw[d]at this;exact R7 (λ_ h=>fB h) (by have t:(uX||VL Im (a.names.lookup y.1))=uJ:=this;simpa using t)
 .have:=(b y c).1.2;rw[d]at this;exact absurd this (by decide)
 .have:=(b y c).2;rw[d,j6]at this;rw[f];rcases this with h|h
  .exact .inl (R7 (λ_ h=>r6 h) (by have t:(uX||VL Mf (dn.lookup y.1))=uJ:=h;simpa using t))
  exact .inr (R7 (λ_ h=>fC h) h)
 have:=l k (qT.mpr ((zv.mp i).1));rw[i]at this;dsimp only at this;cases e:N0[j]? with
 |none=>rw[e]at this;cases this
 |some x=>
  rw[e]at this;dsimp only at this;rw[zq]at this;exact⟨x,m▸e,of_decide_eq_true this.1,R7 (λ_ h=>fC h) this.2⟩
section
section
variable{X:Cx}{vG:List (xz×Obj)}{σ:St}{H:Hp}{s:x9}
def r9(I:Inv X vG σ H s)(h:H p=uQ (.lst xs)):∃o,Inv X vG σ (upd H p (.WB o (.lst xs))) s:=by
 obtain⟨j,a,n,r,e⟩:=I.SA p _ h;have f:∀b(u:HO),H b=uQ u->u≠ .lst xs->b≠p:=λb u q d z=>by subst z;rw[h]at q;exact d (xv q).symm
 refine⟨_,I.un (H':=upd H p (.WB {cls:=.type "list",data:=.seq a.toArray n} (.lst xs))) ⟨λb o q _ _ _=>q,λb o q _ _ _=>⟨o.slots,q⟩,λb o q z _=>?_,λb o q _=>⟨o,q⟩,λb i q=>?_,λb o u q=>?_,λb l q=>⟨#[],?_⟩⟩ ?_⟩
 .rw[Aw (λk=>by subst k;rw[h]at z;cases z)];exact z
 .rw[Aw (f b _ q (by intro z;cases z))];exact q
 .rw[Aw (f b _ q (by intro z;cases z))];exact q
 .rw[Aw (f b _ q (by intro z;cases z)),Array.append_empty];exact q
 intro b u q;by_cases g:b=p
 .subst g;rw[Hw]at q;cases q;exact⟨e,j,a,n,r,e⟩
 .rw[Aw g]at q;exact(I.SA b u q).NF (λc v _ z=>z) (λc z=>by rw[Aw (f c _ z (by intro z;cases z))];exact z) λc i z=>by rw[Aw (f c _ z (by intro z;cases z))];exact z
def Fz(P:xz->Prop)(H H':Hp):Prop:=∀p,(H' p=H p/\(∀vs,H p=uQ (.lst vs)->¬P p))\/∃o vs,P p/\H p=uQ (.lst vs)/\H' p=uQ (.WB o (.lst vs))
theorem fD(I:Inv X vG σ H s)(m:Nat->xz)(n:Nat):∀k:Nat,∃H',Inv X vG σ H' s/\Fz (λp=>∃i,n<=i/\i<n+k/\p=m i) H H'
 |0=>⟨H,I,λp=>.inl ⟨rfl,λ_ _ ⟨i,g,l,_⟩=>by lia⟩⟩
 | k + 1=>by
  obtain⟨H',r,F⟩:=fD I m n k;have f:(∀a,H' (m (n+k))≠uQ (.lst a))->Fz (λp=>∃i,n<=i/\i<n+(k+1)/\p=m i) H H':=λw p=>by
   rcases F p with⟨e,z⟩|⟨o,a,⟨i,g,l,d⟩,b,h⟩
   .refine .inl ⟨e,λa b ⟨i,g,l,d⟩=>?_⟩;by_cases q:i<n+k
    .exact z a b ⟨i,g,q,d⟩
    have:i=n+k:=by lia
    subst this;subst d;exact w a (e.trans b)
   exact .inr ⟨o,a,⟨i,g,by lia,d⟩,b,h⟩
  cases j:H' (m (n+k))with
  |none=>exact⟨H',r,f λa z=>by rw[j]at z;cases z⟩
  | some u=>
   cases u with
   | lst a=>
    obtain⟨o,v⟩:=r9 r j;refine⟨_,v,λp=>?_⟩;by_cases hp:p=m (n+k)
    .subst hp;rcases F (m (n+k))with⟨e,z⟩|⟨t,c,_,b,h⟩
     .exact .inr ⟨o,a,⟨n+k,by lia,by lia,rfl⟩,e.symm.trans j,Hw⟩
     rw[j]at h;cases h
    rcases F p with⟨e,z⟩|⟨t,c,⟨i,g,l,d⟩,b,h⟩
    .refine .inl ⟨(Aw hp)▸e,λc b ⟨i,g,l,d⟩=>?_⟩;by_cases q:i<n+k
     .exact z c b ⟨i,g,q,d⟩
     .have:i=n+k:=by lia
      subst this;exact hp d
    exact .inr ⟨t,c,⟨i,g,by lia,d⟩,b,(Aw hp)▸h⟩
   |_=>exact⟨H',r,f λa z=>by rw[j]at z;cases z⟩
end
noncomputable def La(f:D->Option D):List D->Option (List D)
 |[]=>uQ []
 |d::r=>match f d,La f r with
  |some d',uQ r'=>uQ (d'::r')
  |_,_=>uZ
def Hz(G:DH)(n:Nat):Nat->D->Option D
 |0,_=>uZ
 | k+1,d=>if lC n d=uJ then uQ d else match d with
  |.ref i=>match G[i]? with
   |some (.lst xs)=>(La (Hz G n k) xs).map .fl
   |_=>uZ
  |.tup xs=>(La (Hz G n k) xs).map .tup
  |.fl xs=>(La (Hz G n k) xs).map .fl
  |_=>uZ
open Classical in
def freeze(G:DH)(r:R D):R D:=match r with
 | .ok d G'=>if G'.take G.length=G then(match Hz G' G.length 9 d with
   |some d'=>.ok d' G
   |none=>.ok d G')else .ok d G'
 |r=>r
def Ag(t:DE):DE:=λS G=>freeze G (t S G)
structure TH (b c:Wd) (n:Nat):Prop where
 k:c.K=b.K
 n:c.n=n
 m:c.m=b.m
 tup:∀p xs,b.H p=uQ (.tup xs)->c.H p=uQ (.tup xs)
 WB:∀p o u,b.H p=uQ (.WB o u)->c.H p=uQ (.WB o u)
def TH.SQ{b c:Wd}{n:Nat}(x:TH b c n){p:xz}{xs:List V}(h:JE b.K b.H p xs):JE c.K c.H p xs:=by
 rcases h with(h|⟨o,h⟩)|h
 .exact .inl (.inl (x.tup _ _ h))
 .exact .inl (.inr ⟨o,x.WB _ _ _ h⟩)
 exact .inr (x.k▸h)
def TH.NL{b c:Wd}{n:Nat}(x:TH b c n){p:xz}{xs:List V}(h:HS b.K b.H p xs):HS c.K c.H p xs:=by
 rcases h with⟨o,h⟩|⟨e,h⟩
 .exact .inl ⟨o,x.WB _ _ _ h⟩
 exact .inr ⟨e,x.k▸h⟩
mutual
theorem UB.Io(x:TH b c n):∀{d:D}{v:V},UB b d v->lC n d=uJ->UB c d v
 |.UA,_,h,_=>h
 |.bl _,_,h,_=>h
 |.int _,_,h,_=>h
 |.str _,_,h,_=>h
 |.ty _,_,h,_=>h
 |.tup g,v,h,q=>by obtain⟨p,a,e,t,r⟩:=h;simp only[_D.lC]at q;exact⟨p,a,e,x.SQ t,KA.Io x r q⟩
 |.fl g,v,h,q=>by obtain⟨p,a,e,t,r⟩:=h;simp only[_D.lC]at q;exact⟨p,a,e,x.NL t,KA.Io x r q⟩
 |.ref i,v,h,q=>by obtain⟨l,e⟩:=h;simp only[_D.lC]at q;have f:=of_decide_eq_true q;exact⟨by rw[x.n];exact f,by rw[x.m];exact e⟩
theorem KA.Io(x:TH b c n):∀{ds:List D}{vs:List V},KA b ds vs->MA n ds=uJ->KA c ds vs
 |[],_,h,_=>h
 |d::ds,vs,h,q=>by obtain⟨v,r,e,f,a⟩:=h;simp only[_D.MA,zq]at q;exact⟨v,r,e,UB.Io x f q.1,KA.Io x a q.2⟩
end
theorem Uv(g:∀d d' v,f d=uQ d'->UB b d v->UB c d' v):∀{ds a:List D}{vs:List V},La f ds=uQ a->KA b ds vs->KA c a vs
 |[],a,vs,e,h=>by cases e;exact h
 |d::ds,a,vs,e,h=>by
  obtain⟨v,r,rfl,l,j⟩:=h;unfold La at e;split at e
  .rename_i d' m i k;cases e;exact⟨v,r,rfl,g _ _ _ i l,Uv g k j⟩
  cases e
theorem fE(s:QB b G')(x:TH b c n)(hz:∀i,n<=i->i<b.n->∀vs,b.H (b.m i)=uQ (.lst vs)->∃o,c.H (b.m i)=uQ (.WB o (.lst vs))):∀(k:Nat)(d d':D)(v:V),Hz G' n k d=uQ d'->UB b d v->UB c d' v
 |0,d,d',v,e,h=>by cases e
 | k+1,d,d',v,e,h=>by
  have g:=fE s x hz k;unfold Hz at e;split at e
  .rename_i f;cases e;exact h.Io x f
  rename_i f;cases d with
  | ref i=>
   dsimp only at e;split at e
   .rename_i l z;rw[zA]at e;obtain⟨j,a,rfl⟩:=e;obtain⟨vs,y,w⟩:=s.obj i _ z;obtain⟨u,rfl⟩:=h;have q:n<=i:=by simp[_D.lC,decide_eq_true_eq]at f;lia
    obtain⟨o,A⟩:=hz i q u vs y;exact⟨_,vs,rfl,.inl ⟨o,A⟩,Uv g a w⟩
   cases e
  |tup l=>
   dsimp only at e;rw[zA]at e;obtain⟨j,a,rfl⟩:=e;obtain⟨p,vs,rfl,t,r⟩:=h;exact⟨p,vs,rfl,x.SQ t,Uv g a r⟩
  |fl l=>
   dsimp only at e;rw[zA]at e;obtain⟨j,a,rfl⟩:=e;obtain⟨p,vs,rfl,t,r⟩:=h;exact⟨p,vs,rfl,x.NL t,Uv g a r⟩
  |_=>cases e
def fF{X:Cx}{vG:List (xz×Obj)}{Z:St}{sh:x9}{a b:Wd}{G O:DH}(s:QB a G)(hG:O.take G.length=G)(x:Ext a b)(J:QB b O)(I:Inv X vG Z b.H sh):
  ∃c:Wd,Inv X vG Z c.H sh/\Ext a c/\QB c G/\TH b c a.n/\∀(k:Nat)(d d':D)(v:V),Hz O G.length k d=uQ d'->UB b d v->UB c d' v:=by
 have L:∀i o,G[i]?=uQ o->O[i]?=uQ o:=λi o e=>by have w:=(zv.mp e).1;rw[<-hG,jY w]at e;exact e
 obtain⟨r,I',F⟩:=fD I b.m a.n (b.n-a.n);have S:a.n+(b.n-a.n)=b.n:=by have:=x.n;lia
 rw[S]at F;have P:∀p(u:HO),(∀g,u≠ .lst g)->b.H p=uQ u->r p=uQ u:=λp u nu e=>by
  rcases F p with⟨f,_⟩|⟨o,g,_,f,_⟩
  .exact f.trans e
  rw[e]at f;exact absurd (xv f) (nu g)
 have l:∀p,XF b.H p->XF r p:=λp t=>t.mono (λp ps e=>P p _ (by intro _ z;cases z) e) λp o u e=>P p _ (by intro _ z;cases z) e
 have h:TH b ⟨b.K,a.n,b.m,r⟩ a.n:=⟨rfl,rfl,rfl,λp U e=>P p _ (by intro _ z;cases z) e,λp o u e=>P p _ (by intro _ z;cases z) e⟩;have B:∀i,i<a.n->r (b.m i)=b.H (b.m i):=λi w=>by
  rcases F (b.m i)with⟨f,_⟩|⟨o,g,⟨j,h1,Q,h3⟩,f,M⟩
  .exact f
  have:=J.inj i j (zK w x.n) Q h3;lia
 refine⟨⟨b.K,a.n,b.m,r⟩,I',⟨x.k,zY _,x.m,λp U e=>h.tup p U (x.tup p U e),λp o u e=>h.WB p o u (x.WB p o u e),λp t=>l p (x.tab p t)⟩,⟨s.len,λi j w hj=>J.inj i j (zK w x.n) (zK hj x.n),λi o e=>?_,λi w=>?_⟩,h,λk d d' v Y rb=>?_⟩
 .show ME ⟨b.K,a.n,b.m,r⟩ o (r (b.m i));rw[B i (s.lt e)];have q:=J.obj i o (L i o e);have N:=(s.obj i o e).M3;cases o with
  |lst ds=>obtain⟨g,f,y⟩:=q;exact⟨g,f,y.Io h N⟩
  |LU LD=>obtain⟨E,f,A,y⟩:=q;exact⟨E,f,A,y.Io h N⟩
  |ins c fs=>obtain⟨C,T,E,W,f,A,y⟩:=q;exact⟨C,T,E,W,f,A,y.Io h N⟩
  |tab C m=>obtain⟨c1,P1,f,t1⟩:=q;exact⟨c1,P1,f,l _ t1⟩
  |exc c fs=>
   obtain⟨C,oe,u,g,W,f,A,k2,z⟩:=q;refine⟨C,oe,u,g,W,f,A,k2,?_⟩;rcases z with z|⟨T,o,E,M,f2,k3,y⟩
   .exact .inl z
   exact .inr ⟨T,o,E,M,h.WB _ _ _ f2,k3,y.Io h N⟩
  |gone=>trivial
 .show r (b.m i)≠uZ;rw[B i w];exact J.tr i (zK w x.n)
 rw[s.len]at Y;refine fE J h (λi h1 Q g e=>?_) k d d' v Y rb;rcases F (b.m i)with⟨f,z⟩|⟨o,PL,_,f,M⟩
 .exact absurd ⟨i,h1,Q,rfl⟩ (z g e)
 rw[e]at f;cases f;exact⟨o,M⟩
theorem ra(s:QB a G)(h:out E a (freeze G r) Q):
  out E a r λv H=>∀(vG:List (xz×Obj))(g:St)(j:x9),Inv X vG g H j->∃H',Inv X vG g H' j/\Q v H':=by
 cases r with
 | ok d n=>
  intro b v x f i vG g j I;unfold freeze at h;dsimp only at h;split at h
  .rename_i m;split at h
   .rename_i t l;obtain⟨c,k,q,p,u,o⟩:=fF s m x f I;exact⟨c.H,k,h c v q p (o _ _ _ _ l i)⟩
   exact⟨_,I,h b v x f i⟩
  exact⟨_,I,h b v x f i⟩
 |_=>exact h
def Cy(k:QE X E e t):QE X E e (Ag t):=λb s d H Q I h=>by
 obtain⟨a,S,G,hk,rfl,c,r,h⟩:=h;refine ZA (k b s d a.H _ I ⟨a,S,G,hk,rfl,c,r,ra (X:=X) c h⟩) λu j zz=>?_
 obtain⟨v,m,g,rv,q⟩:=zz;obtain⟨i,f,l⟩:=q b d j g;exact⟨v,i,f,rv,l⟩
theorem fG{X:Cx}{E:XK}{st:xA}{t:DE}{i:Nat}(Y:QS X E st (XB t (gV i))):QS X E st (XB (Ag t) (gV i)):=λg s o H W I h=>by
 obtain⟨a,S,G,hk,rfl,J,r,h⟩:=h;have Q:Bh E a (XB t (gV i) S G) {W with nx:=λo H=>∀(g:List (xz×Obj))(F:x9),Inv X g o H F->∃C,Inv X g o C F/\W.nx o C}:=by
  unfold XB Ag at h;unfold XB;cases B:t S G with
  | ok d U=>
   rw[B]at h;intro b k x A n g F I;unfold freeze at h;dsimp only at h;split at h
   .rename_i hG;split at h
    .rename_i d' L;obtain⟨c,K,xc,N,cc,M⟩:=fF J hG x A I;refine⟨c.H,K,h c k xc N ⟨?_,λj e l=>?_⟩⟩
     .rw[qF,<-n.len,qF]
     rw[qM]at l;by_cases m:i=j
     .subst m;rw[if_pos rfl]at l;by_cases y:i<S.length
      .rw[if_pos y]at l;have Z:d'=e:=by simpa using l
       subst Z;obtain⟨v,w,rv⟩:=n.get i d (by rw[qM,if_pos rfl,if_pos y]);exact⟨v,w,M _ _ _ _ L rv⟩
      rw[if_neg y]at l;cases l
     .rw[if_neg m]at l;obtain⟨v,w,rv⟩:=n.get j e (by rw[qM,if_neg m];exact l);obtain⟨v',_,z⟩:=r.get j e l;exact⟨v,w,rv.Io cc z.lC⟩
    exact⟨_,I,h b k x A n⟩
   exact⟨_,I,h b k x A n⟩
  |_=>rw[B]at h;exact h
 refine ZA (Y g s o a.H _ I ⟨a,S,G,hk,rfl,J,r,Q⟩) λf T p=>?_
 cases f with
 |next=>
  obtain⟨k,C,I',q⟩:=p;obtain⟨H2,P,O⟩:=q g T I';exact⟨k,H2,P,O⟩
 |_=>exact p
end
section
variable{S:ZB}{G:DH}
@[simp]theorem ev_V:dV i S G=(match S[i]? with |some (uQ d)=>.ok d G|_=>.bad):=id rfl
@[simp]theorem ev_C:dC d S G=.ok d G:=id rfl
@[simp]theorem f?:NA f a b S G=(a S G).bind λx e=>(b S e).bind λy d=>f x y d:=id rfl
@[simp]theorem g?:XE f a S G=(a S G).bind f:=id rfl
@[simp]theorem X9:Bl S G=.ok [] G:=id rfl
@[simp]theorem F7:An a r S G=(a S G).bind λx d=>(r S d).bind λxs b=>.ok (x::xs) b:=id rfl
@[simp]theorem i?:JA f t S G=(t S G).bind f:=id rfl
@[simp]theorem F8:Ei t S G=tidy G (t S G):=id rfl
@[simp]theorem Na:Ag t S G=freeze G (t S G):=id rfl
@[simp]theorem Sa:WM (.bl k) G=.ok k G:=id rfl
@[simp]theorem Ta:Al t S G=(t S G).bind WM:=id rfl
@[simp]theorem Ya:Ck t u S G=(t S G).bind λk a=>if k=uJ then u S a else .ok uX a:=id rfl
@[simp]theorem j?:PH t u S G=(t S G).bind λk a=>if k=uJ then .ok uJ a else u S a:=id rfl
@[simp]theorem Kb:Cp t S G=(t S G).bind λk a=>.ok (!k) a:=id rfl
@[simp]theorem F9:J6 t u S G=(t S G).bind λx b=>(WM x b).bind λk a=>if k=uJ then u S a else .ok (.bl uX) a:=id rfl
@[simp]theorem Mb:Th t u S G=(t S G).bind λx b=>(WM x b).bind λk a=>if k=uJ then .ok (.bl uJ) a else u S a:=id rfl
@[simp]theorem Fa:Sq t S G=(t S G).bind λx b=>(WM x b).bind λk a=>.ok (.bl (!k)) a:=id rfl
@[simp]theorem Fc:I7 f g a b c S G=(a S G).bind λx e=>(b S e).bind λy m=>(f x y m).bind λz h=>(WM z h).bind λk d=>
 if k=uJ then(c S d).bind λw o=>g y w o else .ok (.bl uX) d:=id rfl
@[simp]theorem Qb:VC S G=.nx S G:=id rfl
noncomputable def SR.then(u:DS)(_:Fx u:=())(r:SR):SR:=match r with
 |.nx S1 G1=>u S1 G1
 |r=>r
@[simp]theorem Fh:Ad t u S G=(t S G).then u:=id rfl
@[simp]theorem Fk:(SR.nx S G).then u=u S G:=id rfl
@[simp]theorem Fm:(SR.rt d G).then u=.rt d G:=id rfl
@[simp]theorem Fn:(SR.err x G).then u=.err x G:=id rfl
@[simp]theorem Sb:XG t S G=(t S G).toS λ_ a=>.nx S a:=id rfl
@[simp]theorem Ic:WA t S G=(t S G).toS λd a=>.rt d a:=id rfl
@[simp]theorem Lc:PC c t u S G=(c S G).toS λk a=>if k=uJ then t S a else u S a:=id rfl
@[simp]theorem Mc:XB t g S G=(t S G).toS λd b=>(g d S b).toS λe a=>.nx e a:=id rfl
@[simp]theorem Fs:Dz it g b S G=(it S G).toS λJ a=>(match J with
 |.pure xs=>Bt g b xs S a
 |.mt i=>match a[i]? with
  |some (.lst xs)=>forM i g b xs.length 0 S a
  |_=>.bad
 |.fn n f=>Hh f g b n 0 S a):=id rfl
@[simp]theorem Fu:Cj t S G=(t S G).bind Gd:=id rfl
@[simp]theorem GA:Fb f t S G=(t S G).bind f:=id rfl
@[simp]theorem Cm:gV i d S G=.ok (S.set i (uQ d)) G:=id rfl
@[simp]theorem fH:Bg [] S G=.ok S G:=id rfl
@[simp]theorem fJ:Am t u (d::r) S G=(t d S G).bind λb a=>u r b a:=id rfl
@[simp]theorem fK:Bf n t (.tup ds) S G=if ds.length=n then t ds S G else .bad:=id rfl
@[simp]theorem Nc:XM o i v S G=(o S G).bind λo b=>(i S b).bind λi a=>(Wa o i v a).bind λ_ d=>.ok S d:=id rfl
@[simp]theorem Pc:Ed f o t S G=(o S G).bind λx a=>if MU x a=uJ then(t S a).bind λxs b=>f x xs b else .bad:=id rfl
@[simp]theorem GB:Cw it nt caps g c te S G=(it S G).bind λJ a=>(match J with
 |.pure xs=>Bc g c te (Ao nt caps S) xs a
 |.mt i=>match a[i]? with
  |some (.lst xs)=>Gj i g c te (Ao nt caps S) xs.length 0 a
  |_=>.bad
 |.fn n f=>Bx f g c te (Ao nt caps S) n 0 a).bind Ai:=id rfl
@[simp]theorem Hc:Ay S G=.ok uJ G:=id rfl
@[simp]theorem Gs:SO (.nx S G) k=k S G:=id rfl
@[simp]theorem Md:SO (.rt d G) k=.rt d G:=id rfl
@[simp]theorem rf:SO (.err x G) k=.err x G:=id rfl
def Gb:Bt g b [] S G=.nx S G:=id rfl
def Ey:Bt g b (x::xs) S G=(g x S G).toS λd a=>SO (b d a) (Bt g b xs):=id rfl
def bB:Bc g c te S [] G=.ok [] G:=id rfl
def Dg:Bc g c te S (x::xs) G=(g x S G).bind λb e=>(c b e).bind λk a=>
   if k=uJ then(te b a).bind λd f=>(Bc g c te S xs f).bind λh m=>.ok (d::h) m else Bc g c te S xs a:=id rfl
noncomputable def SR.ret(r:SR):R D:=match r with
 |.nx _ G'=>.ok .UA G'
 |.rt d G'=>.ok d G'
 |.err x G'=>.err x G'
 |_=>.bad
@[simp]theorem Nd:(SR.nx S G).ret=.ok .UA G:=id rfl
@[simp]theorem Pd:(SR.rt d G).ret=.ok d G:=id rfl
@[simp]theorem GC:(SR.err x G).ret=.err x G:=id rfl
def Af:Ar np nl b ds G=if ds.length=np then tidy G (b (ds.map uQ++qQ nl uZ) G).ret else .bad:=id rfl
end
section
variable{n:Nat}{G:DH}
@[simp]theorem GD:lC n .UA=uJ:=by simp[_D.lC]
@[simp]theorem rg:lC n (.bl b)=uJ:=by simp[_D.lC]
@[simp]theorem rh:lC n (.int b)=uJ:=by simp[_D.lC]
@[simp]theorem rj:lC n (.str b)=uJ:=by simp[_D.lC]
@[simp]theorem K4:lC n (.tup b)=MA n b:=by simp[_D.lC]
@[simp]theorem He:lC n (.fl b)=MA n b:=by simp[_D.lC]
@[simp]theorem GE:lC n (.ref b)=decide (b<n):=by simp[_D.lC]
@[simp]theorem GF:MA n []=uJ:=by simp[_D.MA]
@[simp]theorem rl:MA n (d::ds)=(lC n d&&MA n ds):=by simp[_D.MA]
theorem rm:MA n ds=uJ↔∀d∈ds,lC n d=uJ:=by
 induction ds with
 |nil=>simp
 |cons d ds a=>simp[a]
@[simp]theorem Xc:MA n (ds++es)=(MA n ds&&MA n es):=by
 induction ds with
 |nil=>simp
 |cons d ds a=>simp[a,Bool.and_assoc]
def Hv{a:Type}{f:a->D}{xs:List a}(h:∀x∈xs,lC n (f x)=uJ):MA n (xs.map f)=uJ:=by rw[rm];intro d b;obtain⟨x,e,rfl⟩:=z7.mp b;exact h x e
@[simp]theorem Fw{xs:List Int}:MA n (xs.map D.int)=uJ:=Hv λ_ _=>rh
@[simp]theorem fM{xs:List Bool}:MA n (xs.map D.bl)=uJ:=Hv λ_ _=>rg
@[simp]theorem Ci{xs:List Str}:MA n (xs.map D.str)=uJ:=Hv λ_ _=>rj
def Ah(h:lC G.length d=uJ):tidy G (.ok d G)=.ok d G:=by unfold tidy;simp[h]
def Ik(h:lC G.length d=uJ):tidy G (.ok d (G++L))=.ok d G:=by unfold tidy;simp[h]
def fN(L:DH)(hk:L[k]?=uQ (.lst ds))(h:MA G.length ds=uJ):tidy G (.ok (.ref (G.length+k)) (G++L))=.ok (.ref G.length) (G++[.lst ds]):=by
 unfold tidy;have e:(G++L)[G.length+k]?=uQ (.lst ds):=by rw[zL (by lia)];simpa using hk
 simp[e,M3,h]
def Dk{ds:List D}{L:DH}(h:MA G.length ds=uJ):tidy G (.ok (.ref G.length) (G++ .lst ds::L))=.ok (.ref G.length) (G++[.lst ds]):=fN (.lst ds::L) (k:=0) rfl h
@[simp]theorem GG:tidy G (.err x G')=.err x G':=id rfl
def Ej(h:lC G.length d=uJ):freeze G (.ok d G)=.ok d G:=by unfold freeze;simp[h,Hz]
theorem fO{n:Nat}:∀{a:List D},MA n a=uJ->La (Hz G' n (k+1)) a=uQ a
 |[],_=>rfl
 |d::a,h=>by simp[rl,zq]at h;unfold La;rw[fO h.2];simp[Hz,h.1]
def rp(L:DH)(hk:L[k]?=uQ (.lst ds))(h:MA G.length ds=uJ):freeze G (.ok (.ref (G.length+k)) (G++L))=.ok (.fl ds) G:=by
 unfold freeze;have e:(G++L)[G.length+k]?=uQ (.lst ds):=by rw[zL (by lia)];simpa using hk
 have m:Hz (G++L) G.length 9 (.ref (G.length+k))=uQ (.fl ds):=by unfold Hz;simp[e,fO h]
 simp[m]
def Az{ds:List D}{L:DH}(h:MA G.length ds=uJ):freeze G (.ok (.ref G.length) (G++ .lst ds::L))=.ok (.fl ds) G:=rp (.lst ds::L) (k:=0) rfl h
@[simp]theorem GH:freeze G (.err x G')=.err x G':=id rfl
def rq(L:DH)(k:Nat):(G++L)[G.length+k]?=L[k]? :=by rw[zL (by lia)];simp
def Cz(L:DH):(G++L)[G.length]?=L[0]? :=rq L 0
def rr(L:DH)(k:Nat)(o:DO):(G++L).set (G.length+k) o=G++L.set k o:=by rw[List.set_append_right _ _ (by lia)];simp
def Fe(L:DH)(o:DO):(G++L).set G.length o=G++L.set 0 o:=rr L 0 o
def K1{a:Int}:Bu a 0=[]:=id rfl
def Ig{a:Int}{n:Nat}:Bu a (n+1)=.int a::Bu (a+1) n:=by
 unfold Bu;rw[xQ,zJ,qA]
 congr 1
 .simp
 apply j2;intro k _;simp only[Function.comp]
 congr 1
 lia
end
section
variable{G:DH}{i j:Int}{x y:Str}{k l:Bool}
@[simp]theorem Me:By (.int i) (.int j) G=.ok (.int (i+j)) G:=id rfl
@[simp]theorem Dt:By (.str x) (.str y) G=if x.length+y.length<=1000000 then .ok (.str (x++y)) G else .bad:=id rfl
@[simp]theorem Pk:By (.tup xs) (.tup ys) G=if xs≠[]/\xs.length+ys.length<=1000000 then .ok (.tup (xs++ys)) G else .bad:=id rfl
@[simp]theorem Lw:S9 (.int i) (.int j) G=.ok (.int (i-j)) G:=id rfl
def log2_small(h:n<10^100):n.log2<9000:=by
 by_cases a:n=0
 .subst a;decide
 rw[Nat.log2_lt a];exact Nat.lt_trans h (by decide)
@[simp]theorem GI{n:Nat}[NeZero n](h:n<10^100):R1 (.int i) (.int (no_index (OfNat.ofNat n))) G=.ok (.int (i/OfNat.ofNat n)) G:=
 if_pos ⟨Int.ofNat_lt.mpr (Nat.pos_of_ne_zero (NeZero.ne n)),log2_small h⟩
@[simp]theorem Pe:K7 (.int i) (.int j) G=if 0<j then .ok (.int (i%j)) G else .bad:=id rfl
@[simp]theorem Se:Tz (.int i) (.int j) G=if 0<=j/\j<=1000000/\i.natAbs<18446744073709551616 then .ok (.int (i^j.toNat)) G else .bad:=id rfl
@[simp]theorem k?:M6 (.int i) (.int j) G=.ok (.bl (decide (i<j))) G:=id rfl
@[simp]theorem l?:Fg (.int i) (.int j) G=.ok (.bl (decide (i<=j))) G:=id rfl
@[simp]theorem m?:R9 (.int i) (.int j) G=.ok (.bl (decide (j<i))) G:=id rfl
@[simp]theorem n?:Mq (.int i) (.int j) G=.ok (.bl (decide (j<=i))) G:=id rfl
@[simp]theorem o?:Fl (.int i) (.int j) G=.ok (.bl (decide (i=j))) G:=id rfl
@[simp]theorem p?:Eg (.int i) (.int j) G=.ok (.bl (!decide (i=j))) G:=id rfl
@[simp]theorem Of:Fl (.str x) (.str y) G=.ok (.bl (decide (x=y))) G:=id rfl
@[simp]theorem Pf:Eg (.str x) (.str y) G=.ok (.bl (!decide (x=y))) G:=id rfl
@[simp]theorem Sf:K5 (.int i) G=.ok (.int (-i)) G:=id rfl
@[simp]theorem q?:Nq d .UA G=.ok (.bl (Dm d)) G:=by cases d<;>exact id rfl
@[simp]theorem GJ:Jr d .UA G=.ok (.bl (!Dm d)) G:=by cases d<;>exact id rfl
@[simp]theorem GL:Dm .UA=uJ:=id rfl
@[simp]theorem Yf:Rq [.int i,.int j] G=.ok (.int (max i j)) G:=by
 show R.ok (D.int (if j>i then j else i)) G=_
 congr 2
 split <;> lia
@[simp]theorem GM:Hl [.bl k] G=.ok (.int (if k then 1 else 0)) G:=id rfl
@[simp]theorem GN:Be (.fl ds) G=uQ ds:=id rfl
@[simp]theorem Zh:Be (.ref n) G=(match G[n]? with |some (.lst xs)=>uQ xs|_=>uZ):=id rfl
@[simp]theorem GP:Bv [.str x] G=if x.length<=1000000 then .ok (.int x.length) G else .bad:=id rfl
@[simp]theorem GQ:Bv [.tup ds] G=.ok (.int ds.length) G:=id rfl
@[simp]theorem GS:Bv [.fl ds] G=.ok (.int ds.length) G:=id rfl
@[simp]theorem GT:Bv [.ref n] G=(match G[n]? with |some (.lst xs)=>.ok (.int xs.length) G|_=>.bad):=by
 unfold Bv;simp[Zh];cases G[n]? with
 |none=>rfl
 |some o=>cases o<;>rfl
@[simp]theorem Ki:Ax (.tup ds) (.int i) G=(match LB ds i with |some v=>.ok v G|none=>.bad):=id rfl
@[simp]theorem Si:Ax (.fl ds) (.int i) G=(match LB ds i with |some v=>.ok v G|none=>.bad):=id rfl
@[simp]theorem Kj:Ax (.ref n) (.int i) G=(match G[n]? with |some (.lst xs)=>(match LB xs i with |some v=>.ok v G|none=>.bad)|_=>.bad):=by
 unfold Ax;simp[Zh];cases G[n]? with
 |none=>rfl
 |some o=>cases o<;>rfl
def Od{n k:Nat}(h:k<n):QJ n (k:Int)=uQ k:=by unfold QJ;rw[if_pos (by lia),if_pos (by lia)];simp
def rz{a:Type}{xs:List a}{k:Nat}{d:a}(h:xs[k]?=uQ d):LB xs (k:Int)=uQ d:=by unfold LB;rw[Od (zv.mp h).1];exact h
def Df{a:Type}{xs:List a}{j:Int}{k:Nat}{d:a}(e:j=k)(h:xs[k]?=uQ d):LB xs j=uQ d:=by subst e;exact rz h
@[simp]theorem r?{b:Type}{a:b}{xs:List b}:LB (a::xs) 0=uQ a:=Df rfl rfl
@[simp]theorem s?{d:Type}{a b:d}{xs:List d}:LB (a::b::xs) 1=uQ b:=Df rfl rfl
@[simp]theorem t?{d:Type}{a b c:d}{xs:List d}:LB (a::b::c::xs) 2=uQ c:=Df rfl rfl
@[simp]theorem u?{e:Type}{a b c d:e}{xs:List e}:LB (a::b::c::d::xs) 3=uQ d:=Df rfl rfl
@[simp]theorem v?{f:Type}{a b c d e:f}{xs:List f}:LB (a::b::c::d::e::xs) 4=uQ e:=Df rfl rfl
@[simp]theorem w?{g:Type}{a b c d e f:g}{xs:List g}:LB (a::b::c::d::e::f::xs) 5=uQ f:=Df rfl rfl
@[simp]theorem x?{h:Type}{a b c d e f g:h}{xs:List h}:LB (a::b::c::d::e::f::g::xs) 6=uQ g:=Df rfl rfl
@[simp]theorem GU:Aq ds G=if ds.length<=1000000 then .ok (.tup ds) G else .bad:=id rfl
@[simp]theorem GV:Ai ds G=if ds.length<=1000000 then .ok (.ref G.length) (G++[.lst ds])else .bad:=id rfl
@[simp]theorem GW:Eb [.fl ds] G=.ok (.tup ds) G:=id rfl
@[simp]theorem GY:Eb [.ref n] G=(match G[n]? with |some (.lst xs)=>.ok (.tup xs) G|_=>.bad):=by
 unfold Eb;simp[Zh];cases G[n]? with
 |none=>rfl
 |some o=>cases o<;>rfl
@[simp]theorem Sj:Gd (.tup ds) G=.ok (.pure ds) G:=id rfl
@[simp]theorem Kk:Gd (.fl ds) G=.ok (.pure ds) G:=id rfl
@[simp]theorem GZ:UD [.int j] G=if inR j then .ok (.pure (Bu 0 j.toNat)) G else .bad:=id rfl
def H9(a: -1000000000<=i)(h:i<=1000000000):inR i:=⟨by lia,by lia⟩
@[simp]theorem G0:MU (.fl ds) G=uJ:=id rfl
@[simp]theorem Gc:MU (.ref n) G=(match G[n]? with |some (.lst _)=>uJ|_=>uX):=id rfl
@[simp]theorem Mk:El (.ref n) [d] G=(match G[n]? with |some (.lst xs)=>if xs.length<1000000 then .ok .UA (G.set n (.lst (xs++[d])))else .bad|_=>.bad):=id rfl
@[simp]theorem Go:Wa (.ref n) (.int i) d G=(match G[n]? with |some (.lst xs)=>(match QJ xs.length i with |some j=>.ok .UA (G.set n (.lst (xs.set j d)))|none=>.bad)|_=>.bad):=id rfl
@[simp]theorem Lh{ks:List Bool}:I8 [.fl (ks.map D.bl)] G=.ok (.bl (ks.all id)) G:=by simp[I8]
@[simp]theorem fQ{ks:List Int}:Js [.fl (ks.map D.int)] G=.ok (.int ks.sum) G:=by simp[Js]
@[simp]theorem HA:K6 [d,.ty "int"] G=(match NS G d with |some .int=>.ok (.bl uJ) G|some .bl=>.ok (.bl uJ) G|some _=>.ok (.bl uX) G|none=>.bad):=by
 unfold K6;dsimp only;cases NS G d with
 |none=>rfl
 |some t=>cases t<;>rfl
@[simp]theorem HB:K6 [d,.ty "bool"] G=(match NS G d with |some .bl=>.ok (.bl uJ) G|some _=>.ok (.bl uX) G|none=>.bad):=by
 unfold K6;dsimp only;cases NS G d with
 |none=>rfl
 |some t=>cases t<;>rfl
end
section
variable{c:Prop}[Decidable c]
@[simp]theorem Sk{d:Type}{a b:d}:(if c then R.ok a G else R.ok b G)=R.ok (if c then a else b) G:=by split <;> rfl
def sA:(if c then SR.nx S G else SR.nx S' G')=SR.nx (if c then S else S') (if c then G else G'):=by split <;> rfl
def sD{d:Type}{a b:d}{l m:List d}:(if c then a::l else b::m)=(if c then a else b)::(if c then l else m):=by split <;> rfl
def sE{d:Type}{a b:d}:(if c then uQ a else uQ b)=uQ (if c then a else b):=by split <;> rfl
def ite_int:(if c then D.int a else D.int b)=D.int (if c then a else b):=by split <;> rfl
end
section
noncomputable def IG:Nat->D->Bool
 |0,_=>uX
 |_+1,.UA=>uJ
 |_+1,.int _=>uJ
 |_+1,.str _=>uJ
 |n+1,.tup ds=>ds.all (IG n)
 |n+1,.fl ds=>ds.all (IG n)
 |_+1,_=>uX
theorem bC:∀{n m:Nat}{d:D},IG n d=uJ->n<=m->IG m d=uJ
 |0,_,_,h,_=>by cases h
 |n+1,0,_,_,h=>by lia
 | n+1,m+1,d,h,c=>by
  cases d with
  |tup b|fl b=>
   simp[IG,qX]at h⊢;exact λx a=>bC (h x a) (by lia)
  |_=>first|rfl|(simp[IG]at h)
theorem Zq{f:D->D->Option Bool}{P:D->Prop}(e:∀x y,P x->P y->∃b,f x y=uQ b/\(b=uJ↔x=y)):∀{xs ys:List D},(∀x∈xs,P x)->(∀y∈ys,P y)->
  ∃b,TQ f xs ys=uQ b/\(b=uJ↔xs.take ys.length=ys.take xs.length)
 |[],ys,_,_=>⟨uJ,by cases ys<;>rfl,by simp⟩
 |x::xs,[],_,_=>⟨uJ,rfl,by simp⟩
 |x::xs,y::ys,g,d=>by obtain⟨b,i,h⟩:=e x y (g x (by simp)) (d y (by simp));obtain⟨c,k,j⟩:=Zq e (λz a=>g z (zQ _ a)) (λz a=>d z (zQ _ a));refine⟨b&&c,by simp[TQ,i,k],?_⟩;simp[h,j]
theorem fS{G:DH}:∀(n:Nat)(d e:D),IG n d=uJ->IG n e=uJ->∃b,NJ n G d e=uQ b/\(b=uJ↔d=e)
 |0,d,e,h,_=>by cases h
 | n+1,d,e,f,a=>by
  have o:=fS (G:=G) n;cases d with
  |bl _|ty _|ref _=>simp[IG]at f
  | tup l=>
   cases e with
   |bl _|ty _|ref _=>simp[IG]at a
   |tup m=>
    simp[IG,qX]at f a;obtain⟨b,j,k⟩:=Zq o (λx g=>f x g) (λx g=>a x g);refine⟨b&&l.length==m.length,by simp[NJ,view,j],?_⟩;simp[zq,k,beq_iff_eq,D.tup.injEq];constructor
    .rintro⟨e,c⟩;rw[<-c,jV]at e;rw[e,c,jV]
    rintro rfl;exact⟨rfl,rfl⟩
   |_=>exact⟨uX,by simp[NJ,view],by simp⟩
  | fl l=>
   cases e with
   |bl _|ty _|ref _=>simp[IG]at a
   |fl m=>
    simp[IG,qX]at f a;by_cases c:l.length=m.length
    .obtain⟨b,j,k⟩:=Zq o (λx g=>f x g) (λx g=>a x g);refine⟨b,by simp[NJ,view,c,j],?_⟩;rw[k,<-c,jV,c,jV];simp
    exact⟨uX,by simp[NJ,view,c],by simp;rintro rfl;exact c rfl⟩
   |_=>exact⟨uX,by simp[NJ,view],by simp⟩
  |_=>cases e<;>first|(simp[IG]at a;done)|exact⟨_,rfl,by simp[LJ]⟩
open Classical in
theorem sF(c:IG 30 d=uJ)(a:IG 30 e=uJ):Fl d e G=.ok (.bl (decide (d=e))) G:=by
 obtain⟨b,f,h⟩:=fS (G:=G) 30 d e c a;unfold Fl;rw[f];cases b with
 |true=>simp[h.mp rfl]
 |false=>simp[show¬d=e from λz=>z6 (h.mpr z)]
def sG(a:IG 30 d=uJ):Fl d d G=.ok (.bl uJ) G:=by rw[sF a a];simp
def Py(h:∀d∈ds,IG n d=uJ):IG (n+1) (.tup ds)=uJ:=by simpa[IG]using h
end
def cutD{α:Type}(xs:List α)(lo hi:Option Int):List α:=(xs.drop (HT.NB xs.length 0 lo)).take (HT.NB xs.length xs.length hi-HT.NB xs.length 0 lo)
def Ot(z:Str)(lo hi:Option Int):Str:=⟨(cutD z.cps.toList lo hi).toArray⟩
def Zz{b:Type}(xs:List b)(a c:Option Int):(cutD xs a c).length<=xs.length:=by unfold cutD;rw[qH,qN];lia
def Br(t:Option DE)(S:ZB)(G:DH):R (Option Int):=match t with
 |none=>.ok uZ G
 |some t=>(t S G).bind λd G1=>match d with
  |.int i=>.ok (uQ i) G1
  |_=>.bad
def Gr(d:D)(lo hi:Option Int)(G:DH):R D:=match d with
 |.str z=>if z.length<=1000000 then .ok (.str (Ot z lo hi)) G else .bad
 |.tup xs=>.ok (.tup (cutD xs lo hi)) G
 |d=>match Ij d G with
  |some xs=>.ok (.ref G.length) (G++[.lst (cutD xs lo hi)])
  |none=>.bad
def OE(e:DE)(lo hi:Option DE):DE:=λS G=>(e S G).bind λd G1=>(Br lo S G1).bind λl G2=>(Br hi S G2).bind λh G3=>Gr d l h G3
def Ju(n:Nat)(v:Int):((HT.NB n n (uQ v):Nat):Int)=max 0 (min (if v<0 then v+(n:Int)else v) n)/\((HT.NB n 0 (uQ v):Nat):Int)=max 0 (min (if v<0 then v+(n:Int)else v) n):=by
 unfold HT.NB;by_cases a:v<0
 .simp[if_pos a];lia
 simp[if_neg a];lia
theorem sH(xs:Array Nat)(i k:Nat):(zE k).filterMap (λm=>xs[i+m]?)=(xs.toList.drop i).take k:=by
 induction k generalizing i with
 |zero=>simp
 | succ k d=>
  rw[xQ,qx];have e:(List.map Nat.succ (.range k)).filterMap (λm=>xs[i+m]?)=(zE k).filterMap (λm=>xs[i+1+m]?):=by
   rw[j3]
   congr 1
   funext m;simp[Function.comp]
   congr 1
   lia
  rw[e,d (i+1)];by_cases b:i<xs.size
  .have a:xs[i+0]?=uQ xs[i]:=by simp[b]
   rw[a];have c:xs.toList.drop i=xs[i]::xs.toList.drop (i+1):=by rw[qK (by simpa using b)];simp
   rw[c];simp
  have a:xs[i+0]?=uZ:=by simp;lia
  rw[a];simp only;rw[jQ (by simp;lia),jQ (by simp;lia)];simp
def sI(x:Str)(c b:Option Int):Txt.slice x c b=Ot x c b:=by
 have d:x.length=x.cps.toList.length:=by simp[Str.length]
 have m:(qe c b 1 x.length).filterMap (x.cps[·]?)=cutD x.cps.toList c b:=by
  have n:∀(v:Option Int),(match v with |none=>(0:Int)|some i=>max 0 (min (if i<0 then i+(x.length:Int)else i) x.length))=((HT.NB x.length 0 v:Nat):Int):=λv=>by
   cases v with
   |none=>rfl
   |some i=>exact(Ju x.length i).2.symm
  have p:∀(v:Option Int),(match v with |none=>(x.length:Int)|some i=>max 0 (min (if i<0 then i+(x.length:Int)else i) x.length))=((HT.NB x.length x.length v:Nat):Int):=λv=>by
   cases v with
   |none=>rfl
   |some i=>exact(Ju x.length i).1.symm
  have l:qe c b 1 x.length=sliceRange ((HT.NB x.length 0 c:Nat):Int) ((HT.NB x.length x.length b:Nat):Int) 1:=by
   rw[<-n c,<-p b];unfold qe
   cases c<;>cases b<;>simp
  rw[l];unfold sliceRange cutD;rw[j3,<-d];generalize HT.NB x.length 0 c=i;generalize HT.NB x.length x.length b=j;have s:((λa=>x.cps[a]?) ∘ λ(k:Nat)=>((i:Int)+1*(k:Int)).toNat)=λk=>x.cps[i+k]? :=by
   funext k;simp only[Function.comp]
   congr 1
   lia
  have q:(if(1:Int)>0 then if(i:Int)<(j:Int)then((j:Int)-i+1-1)/1 else 0 else if(i:Int)>(j:Int)then((i:Int)-j-1-1) / -1 else 0).toNat=j-i:=by
   rw[if_pos (by lia)];split
   .rw[Int.ediv_one];lia
   lia
  rw[s,q];exact sH x.cps i (j-i)
 unfold Txt.slice Ot;split
 .rename_i h;have w:(qe c b 1 x.length).length=x.length:=by simpa using h
  have g:(cutD x.cps.toList c b).length=x.cps.toList.length:=by
   have l:(qe c b 1 x.length).length=HT.NB x.length x.length b-HT.NB x.length 0 c:=by
    have n:∀(v:Option Int),(match v with |none=>(0:Int)|some i=>max 0 (min (if i<0 then i+(x.length:Int)else i) x.length))=((HT.NB x.length 0 v:Nat):Int):=λv=>by
     cases v with
     |none=>rfl
     |some i=>exact(Ju x.length i).2.symm
    have p:∀(v:Option Int),(match v with |none=>(x.length:Int)|some i=>max 0 (min (if i<0 then i+(x.length:Int)else i) x.length))=((HT.NB x.length x.length v:Nat):Int):=λv=>by
     cases v with
     |none=>rfl
     |some i=>exact(Ju x.length i).1.symm
    have l:qe c b 1 x.length=sliceRange ((HT.NB x.length 0 c:Nat):Int) ((HT.NB x.length x.length b:Nat):Int) 1:=by
     rw[<-n c,<-p b];unfold qe
     cases c<;>cases b<;>simp
    rw[l];unfold sliceRange;rw[zV,List.length_range];generalize HT.NB x.length 0 c=i;generalize HT.NB x.length x.length b=j;rw[if_pos (by lia)];split
    .rw[Int.ediv_one];lia
    lia
   have u:HT.NB x.length x.length b<=x.length:=HT.ng _ _ (zY _) b;unfold cutD;rw[qH,qN,<-d];lia
  have r:(cutD x.cps.toList c b).Sublist x.cps.toList:=(List.take_sublist _ _).trans (List.drop_sublist _ _);rw[r.eq_of_length g]
 rw[m]
section
variable{X:Cx}{E:XK}
theorem Hd:QP X (λx c n H Q=>∃z:Str,x=.str z/\z.length<=sizeLine/\Q (.str (Ot z c n)) H):=by
 intro b s P H x v K O c n B Q I C M J r h;obtain⟨z,rfl,N,q⟩:=h;obtain⟨t,rfl⟩:=C;refine⟨"str",_,PySem.F.slot_str_getitem.lookup,typeIs_str _ _ _,?_⟩
 have a:∀(l u:Option (Int×Tok)),K=partValue l->O=partValue u->l.map (·.1)=c->u.map (·.1)=n->vW (xU X.prog X.w) X.A (getItem (.str z t) (.ref B)) (EP X b P Q) X.xe s:=by
  rintro l u rfl rfl rfl rfl;refine wpAny_getItem_str_slice (st:=uZ) (M) rfl ?_
  have e:∀d,(Txt.slice z (l.map (·.1)) (u.map (·.1))).length<=sizeLine/\(∀m k,d (.str (Txt.slice z (l.map (·.1)) (u.map (·.1))) m) {s with toks:=k})->(sliceMade z t l u uZ).post d s:=λd L=>post_val_or_str L
  refine e _ ⟨zy (Txt.slice_le z _ _) N,λm k=>?_⟩;rw[sI];exact⟨.str _,H,I.tok k,⟨m,rfl⟩,q⟩
 cases J with
 |none=>cases r with
  |none=>exact a uZ uZ rfl rfl rfl rfl
  |int j g=>exact a uZ (uQ (j,g)) rfl rfl rfl rfl
 |int i y=>cases r with
  |none=>exact a (uQ (i,y)) uZ rfl rfl rfl rfl
  |int j g=>exact a (uQ (i,y)) (uQ (j,g)) rfl rfl rfl rfl
def sJ{prog:x0}{w:xC}{A:xj}{E:xB->x9->Prop}{s:x9}{t j:xz}{items:Array xB}{m l:xB}{a d:Option Int}{Q:xB->x9->Prop}(c:IsTup s.heap t items)(k:s.heap.IsSliceOf j m l .none)(pl:IsPart m a)(p:IsPart l d)
  (hw:HT.NB items.size 0 a=0/\HT.NB items.size items.size d=items.size) (h:Q (.ref t) s):vW (xU prog w) A (getItem (.ref t) (.ref j)) Q E s:=by
 obtain⟨n,i,g,q⟩:=id k;unfold getItem
 try with_reducible refine vx ?_
 first|refine vY (vB ?_)|skip
 refine vY (wpAny_sequenceKey c.typeIs (by decide) ?_);refine vY (vq c.typeIs jd
  (vz jd c.typeIs entry_tuple_getitem ?_ (args_tuple_getitem _ _)))
 show vW _ _ (Builtin.Tuple.tupleItemsOf (.ref t) >>=_) _ _ s;refine vY (tupleItemsOf_ c ?_);refine vY (wpAny_typeOf ⟨n,i,g⟩ ?_);rw[if_pos (by decide)];refine vY (HT.dW k pl p ?_);have b:(((HT.NB items.size 0 a:Nat):Int)==0&&(1:Int)==1&&(HT.NB items.size items.size d-HT.NB items.size 0 a)==items.size)=uJ:=by rw[hw.1,hw.2];simp
 show vW _ _ (if(((HT.NB items.size 0 a:Nat):Int)==0&&(1:Int)==1&&(HT.NB items.size items.size d-HT.NB items.size 0 a)==items.size)=uJ then _ else _) _ _ s;rw[if_pos b];refine vY ?_;unfold Builtin.Tuple.tupleIsExact;refine vY (wpAny_typeOf c.typeIs (vB ?_));rw[if_pos (by decide)];exact vY (wpAny_rule (vB ⟨_,rfl,vB h⟩))
def sM:QP X (λx i d H Q=>∃a xs,x=.ref a/\JE X.K H a xs/\(HT.NB xs.length 0 i=0/\HT.NB xs.length xs.length d=xs.length)/\Q (.ref a) H):=by intro g s w H x v A y i d u Q I m k n l h;obtain⟨a,xs,rfl,p,hw,q⟩:=h;cases m;obtain⟨c,r,j,z⟩:=I.tuple p;exact⟨"tuple",_,PyProof.Rows.slot_tuple_getitem.lookup,j.typeIs,sJ j k n l ((zj▸r.length.symm)▸hw) ⟨.ref a,H,I,rfl,q⟩⟩
def Pu(E:XK)(a:Wd)(r:R (Option Int))(Q:Option Int->Hp->Prop):Prop:=match r with
 |.ok k G=>∀(b:Wd),Ext a b->QB b G->Q k b.H
 |.err x G=>MJ E a x G
 |.bad=>False
def QO(X:Cx)(E:XK)(e:Option xw)(t:Option DE):Prop:=PO X e (λσ H Q=>IS X.K σ H λa S G=>Pu E a (Br t S G) Q)
def _root_._L.PO.mono(h:PO X e t)(w:∀a H Q,t' a H Q->t a H Q):PO X e t':=λb s a H Q I q=>h b s a H Q I (w a H Q q)
def sN:QO X E uZ uZ:=oB.mono λb H Q h=>by obtain⟨a,S,G,hk,rfl,s,r,h⟩:=h;exact h a (.refl a) s
theorem sO(m:QE X E e t):QO X E (uQ e) (uQ t):=(oC m).mono λn H Q h=>by
 obtain⟨a,S,G,hk,rfl,s,r,h⟩:=h;refine⟨a,S,G,hk,rfl,s,r,?_⟩
 have c:Pu E a ((t S G).bind λd g=>match d with | .int i=>.ok (uQ i) g|_=>.bad) Q:=h
 cases j:t S G with
 |ok d g=>
  rw[j]at c;intro b v x k l;cases d with
  |int i=>exact⟨i,l,c b x k⟩
  |_=>exact c.elim
 |_=>rw[j]at c;exact c
def KA.cutD(r:KA a ds vs)(b c:Option Int):KA a (_D.cutD ds b c) (Om vs b c):=by unfold _D.cutD Om;rw[r.length];exact(r.drop _).take _
theorem Pu.imp(h:Pu E a r Q)(w:∀v H,Q v H->Q' v H):Pu E a r Q':=by
 cases r with
 |ok d G=>exact λb x s=>w _ _ (h b x s)
 |_=>exact h
theorem fT(h:out E a (r.bind f) Q):
  Pu E a r (λk H=>PB3 a H r k λb G=>out E b (f k G) Q):=by
 cases r with
 |ok d G=>exact λb x s=>⟨b,G,rfl,x,s,rfl,out.mono x h⟩
 |_=>exact h
theorem sP{e:xw}{N T:Option xw}{U:DE}{P th:Option DE}{p2 pos:Pos}(he:QE X E e U)(M:QO X E N P)(hu:QO X E T th):QE X E (.Subscript e (.Slice N T uZ p2) pos) (OE U P th):=
 (oF (oh.or (oH.or (sM.or Hd))) he M hu).mono λσ H Q h=>by
 obtain⟨a,S,G,hk,rfl,s,r,h⟩:=h;refine⟨a,S,G,hk,rfl,s,r,(Ec h).imp ?_⟩;rintro v _ ⟨b,d,W,rfl,x,s1,q,_,h1⟩;refine⟨b,S,W,x.k.trans hk,rfl,s1,r.mono x,(fT h1).imp ?_⟩;rintro l _ ⟨c,Z,rfl,y,s2,_,Y⟩;refine⟨c,S,Z,y.k.trans (x.k.trans hk),rfl,s2,(r.mono x).mono y,(fT Y).imp ?_⟩;rintro u _ ⟨C,J,rfl,O,F,_,g⟩;have m:=O.k.trans (y.k.trans (x.k.trans hk));have L:=(q.mono y).mono O
 have lst:out E C (match Ij d J with |some w=>.ok (.ref J.length) (J++[.lst (cutD w l u)])|none=>.bad) Q->SV X.K v l u C.H Q:=λg=>by
  split at g
  .rename_i w hx;obtain⟨p,j,I,B,A⟩:=Wz F L hx;exact⟨p,j,I,by rw[<-m];exact B,λp hp=>Lf F (.cutD A l u) g p hp⟩
  exact g.elim
 cases d with
 |str z=>
  have n:out E C (if z.length<=1000000 then .ok (.str (Ot z l u)) J else .bad) Q:=g;split at n
  .rename_i M;cases(L);exact .inr (.inr (.inr ⟨z,rfl,zy M UC,n C _ (.refl _) F rfl⟩))
  exact n.elim
 | tup w=>
  have n:=g;obtain⟨p,j,I,B,A⟩:=L;by_cases hw:HT.NB j.length 0 l=0/\HT.NB j.length j.length u=j.length
  .refine .inr (.inr (.inl ⟨p,j,I,by rw[<-m];exact B,hw,n C _ (.refl _) F ⟨p,j,rfl,B,?_⟩⟩));have:cutD w l u=w:=by unfold cutD;rw[A.length,hw.1,hw.2,<-A.length];simp
   rw[this];exact A
  exact .inr (.inl ⟨p,j,I,by rw[<-m];exact B,hw,λp hp=>Ue F (.cutD A l u) n p hp⟩)
 |fl w|ref i=>exact .inl (lst g)
 |_=>exact(g).elim
noncomputable def Ll:D->Bool
 |.str _=>uJ
 |_=>uX
def Bk(f:D->List D->DH->R D)(o:DE)(t:DA):DE:=λS G=>(o S G).bind λx G1=>if Ll x=uJ then(t S G1).bind λxs G2=>f x xs G2 else .bad
section
variable{name:Str}{id:String}{f:D->List D->DH->R D}{o e:xw}{es:List xw}{to:DE}{t:DA}{apos PB:Pos}
def Cd(m:Slot "str" name id)(p:typeOf (.builtin id)=pure (.type "method_descriptor"))(M:II X id (QL X.K E f))(ho:QE X E o to)(O:QA X E (e::es) t)
  (i:xE o name X.env (eval o X.env)=eval o X.env:=by rfl)
  (l:((xF PB (vX (e::es) X.env)).all (λx=> !x.1)&&(xG PB (xR [] X.env)).all (λx=>x.1.isSome)
   && decide ((e::es).length+([]:List Keyword).length+(if([]:List Keyword).isEmpty then 0 else 1)<30))=uJ:=by rfl)
  (j:(apos.endLine==PB.line)=uJ:=by rfl) (C:vX (e::es) X.env=(uX,eval e X.env)::vX es X.env:=by rfl) (g:(xF PB (vX es X.env)).any (·.1)=uX:=by rfl):
  QE X E (.Call (.Attribute o name apos) (e::es) [] PB) (Bk f to t):=(d8 vg m p M ho O i l j C g).mono λT H Q h=>by
 obtain⟨a,S,G,hk,rfl,s,r,h⟩:=h;refine⟨a,S,G,hk,rfl,s,r,(Ec h).imp ?_⟩;rintro v _ ⟨b,d,u,rfl,x,L,q,-,n⟩;split at n
 .rename_i N;have ty:KU X.K "str" v b.H:=by
   cases d with
   |str z=>cases(q);exact rfl
   |_=>cases N
  refine⟨ty,b,S,u,x.k.trans hk,rfl,L,r.mono x,(T5 n).imp ?_⟩;rintro P _ ⟨c,J,A,rfl,y,I,B,-,w⟩;exact⟨c,A,d,J,y.k.trans (x.k.trans hk),rfl,I,q.mono y,B,w⟩
 exact n.elim
def sQ(i:Slot "str" name id)(l:typeOf (.builtin id)=pure (.type "method_descriptor"))(p:II X id (QL X.K E f))(ho:QE X E o to)
  (c:xE o name X.env (eval o X.env)=eval o X.env:=by rfl) (g:(apos.endLine==PB.line)=uJ:=by rfl):
  QE X E (.Call (.Attribute o name apos) [] [] PB) (Bk f to Bl):=(ot vg i l p ho c g).mono λw H Q h=>by
 obtain⟨a,S,G,hk,rfl,s,r,h⟩:=h;refine⟨a,S,G,hk,rfl,s,r,(Ec h).imp ?_⟩;rintro v _ ⟨b,d,n,rfl,x,u,q,-,j⟩;split at j
 .rename_i m;have ty:KU X.K "str" v b.H:=by
   cases d with
   |str z=>cases(q);exact rfl
   |_=>cases m
  exact⟨ty,b,n,d,[],x.k.trans hk,rfl,u,q,rfl,j⟩
 exact j.elim
end
noncomputable def Pg:List D->Option (List Str)
 |[]=>uQ []
 |.str x::r=>(Pg r).map (x::·)
 |_=>uZ
@[simp]theorem HC(ns:List Str):Pg (ns.map D.str)=uQ ns:=by
 induction ns with
 |nil=>rfl
 |cons n ns a=>simp[Pg,a]
theorem fU:∀{xs:List D}{ns:List Str},Pg xs=uQ ns->xs=ns.map D.str
 |[],ns,h=>by cases h;rfl
 |.str i::r,ns,h=>by
  unfold Pg at h;rw[zA]at h;obtain⟨m,e,rfl⟩:=h;rw[fU e]
  rfl
 |.UA::_,_,h | .bl _::_,_,h | .int _::_,_,h | .ty _::_,_,h | .tup _::_,_,h | .fl _::_,_,h | .ref _::_,_,h=>by cases h
noncomputable def Ab(sep:List Nat):List (List Nat)->List Nat
 |[]=>[]
 |[x]=>x
 |x::y::r=>x++sep++Ab sep (y::r)
def Cu(o:D)(ds:List D)(G:DH):R D:=match o,ds with
 | .str sep,[d]=>match Be d G with
  |some xs=>match Pg xs with
   |some ys=>if(ys.map (·.length)).sum+ys.length*sep.length<=1000000 then .ok (.str (Txt.join sep ys)) G else .bad
   |none=>.bad
  |none=>.bad
 |_,_=>.bad
theorem bD:∀{ys:List Str}{us:List xB},Vals (ys.map V.str) us->StrsAre us ys
 |[],us,r=>by cases r;exact .nil
 | y::ys,us,r=>by
  cases r with
  |cons h t=>
   obtain⟨a,rfl⟩:=h;exact .cons _ _ (bD t)
theorem fV:∀{ys:List Str}{vs:List V},KA a (ys.map D.str) vs->vs=ys.map V.str
 |[],vs,r=>r
 |y::ys,vs,r=>by
  obtain⟨v,w,rfl,c,b⟩:=r;cases(c);rw[fV b]
  rfl
def Kg:II X "str.join" (QL X.K E Cu):=λz s Y H x W v Z Q I A N h=>by
 obtain⟨a,G,d,P,hk,rfl,m,J,r,q⟩:=h;unfold Cu at q;split at q
 .rename_i F e;obtain⟨w,rfl,l⟩:=YB r;cases(J);obtain⟨t,rfl⟩:=A;split at q
  .rename_i T B;split at q
   .rename_i O C;split at q
    .rename_i n;obtain⟨p,U,rfl,b,y⟩:=Jd m l B;rw[fU C]at y;have M:=fV y;subst M;obtain⟨u,rfl,L⟩:=vals1 N;cases L;rw[hk]at b;rcases b with b|b
     .obtain⟨j,c,g,_⟩:=I.list b;exact join_list g.isList (by simpa using bD c) (zy n (by decide)) λi k=>⟨.str _,a.H,I.tok k,⟨i,rfl⟩,q a _ (.refl a) m rfl⟩
     obtain⟨j,c,g,_⟩:=I.tuple b;exact join_tuple g (by simpa using bD c) (zy n (by decide)) λi k=>⟨.str _,a.H,I.tok k,⟨i,rfl⟩,q a _ (.refl a) m rfl⟩
    exact q.elim
   exact q.elim
  exact q.elim
 exact q.elim
noncomputable def Ua(o:D)(ds:List D)(G:DH):R D:=match o,ds with
 |.str x,[.str y]=>.ok (.int (Txt.find x y)) G
 |_,_=>.bad
def m_find:II X "str.find" (QL X.K E Ua):=λc s l H x z v m Q I j i h=>by
 obtain⟨a,G,d,n,hk,rfl,k,g,r,q⟩:=h;unfold Ua at q;split at q
 .rename_i A y;obtain⟨w,rfl,b⟩:=YB r;cases(g);cases(b);obtain⟨t,rfl⟩:=j;obtain⟨u,rfl,p,rfl⟩:=vals1 i;exact SC.find ⟨.int _,a.H,I.tok _,⟨_,rfl⟩,q a _ (.refl a) k rfl⟩
 exact q.elim
noncomputable def Pj(o:D)(ds:List D)(G:DH):R D:=match o,ds with
 |.str x,[.str y]=>.ok (.bl (Txt.startswith x y)) G
 |_,_=>.bad
def fW:II X "str.startswith" (QL X.K E Pj):=λc s l H x z v m Q I j i h=>by
 obtain⟨a,G,d,n,hk,rfl,k,g,r,q⟩:=h;unfold Pj at q;split at q
 .rename_i A y;obtain⟨w,rfl,b⟩:=YB r;cases(g);cases(b);obtain⟨t,rfl⟩:=j;obtain⟨u,rfl,p,rfl⟩:=vals1 i;exact SC.startswith ⟨.bl _,a.H,I,rfl,q a _ (.refl a) k rfl⟩
 exact q.elim
end
section
variable{S:ZB}{G:DH}
@[simp]theorem y?{e:DE}{b a:Option DE}:OE e b a S G=(e S G).bind λd c=>(Br b S c).bind λl i=>(Br a S i).bind λh g=>Gr d l h g:=id rfl
@[simp]theorem HD:Br uZ S G=.ok uZ G:=id rfl
@[simp]theorem HE:Br (uQ t) S G=(t S G).bind λd a=>match d with | .int i=>.ok (uQ i) a|_=>.bad:=id rfl
@[simp]theorem Du{z:Str}{b a:Option Int}:Gr (.str z) b a G=if z.length<=1000000 then .ok (.str (Ot z b a)) G else .bad:=id rfl
@[simp]theorem Nl{xs:List D}{a b:Option Int}:Gr (.tup xs) a b G=.ok (.tup (cutD xs a b)) G:=id rfl
@[simp]theorem Rl{xs:List D}{a b:Option Int}:Gr (.fl xs) a b G=.ok (.ref G.length) (G++[.lst (cutD xs a b)]):=id rfl
@[simp]theorem Sl:Bk f o t S G=(o S G).bind λx b=>if Ll x=uJ then(t S b).bind λxs a=>f x xs a else .bad:=id rfl
@[simp]theorem Tl:Ll (.str x)=uJ:=id rfl
@[simp]theorem HF:Ua (.str x) [.str y] G=.ok (.int (Txt.find x y)) G:=id rfl
@[simp]theorem HG:Pj (.str x) [.str y] G=.ok (.bl (Txt.startswith x y)) G:=id rfl
@[simp]theorem O6:Gd (.str x) G=.ok (.pure (signs x)) G:=id rfl
@[simp]theorem Yw:By (.fl xs) (.fl ys) G=if xs.length+ys.length<=1000000 then .ok (.ref G.length) (G++[.lst (xs++ys)])else .bad:=id rfl
@[simp]theorem Lx:Ax (.str z) (.int i) G=if z.length<=1000000 then(match LB z.cps.toList i with |some c=>.ok (sgn c) G|none=>.bad)else .bad:=id rfl
def fX(h:(ys.map (·.length)).sum+ys.length*sep.length<=1000000):Cu (.str sep) [.fl (ys.map D.str)] G=.ok (.str (Txt.join sep ys)) G:=by simp[Cu,h]
end
section
open Builtin.Str
section
variable(p:Nat->Bool)(m:Nat)
noncomputable def Jp(i:Nat)(st:Array Nat×Nat):Id (ForInStep (Array Nat×Nat)):=
 if(decide (st.1.size<1)&&decide (st.2<=i)&&p i)=uJ then pure (ForInStep.yield (st.1.push i,i+m))else pure (ForInStep.yield (st.1,st.2))
theorem fY:∀(l:List Nat)(st:Array Nat×Nat),st.1.size=1->(forIn l st (Jp p m):Id _)=pure st
 |[],st,_=>rfl
 |i::l,st,h=>by
  rw[xY];have:Jp p m i st=pure (.yield st):=by unfold Jp;rw[if_neg (by simp[h])]
  rw[this];exact fY l st h
theorem occ_first(a:Nat):∀(l:List Nat),(∀i∈l,a<=i)->((forIn l (#[],a) (Jp p m):Id (Array Nat×Nat))).run.1.toList=(l.find? p).toList
 |[],_=>rfl
 | i::l,h=>by
  rw[xY];by_cases hp:p i=uJ
  .have:Jp p m i (#[],a)=pure (.yield (#[i],i+m)):=by
    unfold Jp;rw[if_pos (by simp[hp,h i (by simp)])]
    rfl
   rw[this];show(Id.run (forIn l (#[i],i+m) (Jp p m))).1.toList=_;rw[fY p m l (#[i],i+m) rfl];simp[hp]
  have:Jp p m i (#[],a)=pure (.yield (#[],a)):=by unfold Jp;rw[if_neg (by simp[hp])]
  rw[this];have:=occ_first a l (λj b=>h j (zQ _ b));rw[List.find?_cons_of_neg hp];exact this
end
def Zl(s sub:Str)(a b:Nat):occurrences s sub a b 1=((qD a (b+1-a)).find? (λi=>decide (i+sub.length<=b)&&subAt s sub i)).toList:=by
 unfold occurrences;simp only[Std.Legacy.Range.forIn_eq_forIn_range',Std.Legacy.Range.size,Nat.add_one_sub_one,Nat.div_one];have:=occ_first (λi=>decide (i+sub.length<=b)&&subAt s sub i) sub.length a (.range' a (b+1-a)) (λi c=>by rw[List.mem_range'_1]at c;exact c.1);rw[<-this];unfold Jp;simp only[<-Bool.and_assoc]
 rfl
def fZ(s sub:Str)(i:Nat)(h:i+sub.length<=s.length):subAt s sub i=uJ↔(s.cps.toList.drop i).take sub.length=sub.cps.toList:=by unfold subAt;rw[beq_iff_eq,<-Array.toList_inj];rw[Array.toList_extract];simp[List.extract_eq_take_drop]
def WL(s:Str)(c:Nat):(!(occurrences s ⟨#[c]⟩ 0 s.length 1).isEmpty)=decide (c∈s.cps.toList):=by
 rw[Zl];have a:(⟨#[c]⟩:Str).length=1:=rfl;rw[a];by_cases h:c∈s.cps.toList
 .obtain⟨i,d,e⟩:=List.mem_iff_getElem.mp h;have l:i<s.length:=by simpa[Str.length]using d
  have b:((qD 0 (s.length+1-0)).find? (λi=>decide (i+1<=s.length)&&subAt s ⟨#[c]⟩ i)).isSome=uJ:=by rw[List.find?_isSome];refine⟨i,by rw[List.mem_range'_1];lia,?_⟩;rw[zq];refine⟨decide_eq_true (by lia),?_⟩;rw[fZ s ⟨#[c]⟩ i (by rw[a];lia),a,qK d,e];simp
  cases k:(qD 0 (s.length+1-0)).find? (λi=>decide (i+1<=s.length)&&subAt s ⟨#[c]⟩ i)with
  |none=>rw[k]at b;cases b
  |some j=>simp[h]
 have b:(qD 0 (s.length+1-0)).find? (λi=>decide (i+1<=s.length)&&subAt s ⟨#[c]⟩ i)=uZ:=by
  rw[List.find?_eq_none];intro i d hp;rw[zq]at hp;have g:i+1<=s.length:=by simpa using hp.1
  have f:=(fZ s ⟨#[c]⟩ i (by rw[a];lia)).mp hp.2;rw[a,qK (zK (q9 i) (by simpa[Str.length]using g))]at f;simp at f;exact h (by rw[<-f];simp)
 rw[b];simp[h]
theorem f3(a:Str):∀(xs:List Str),(Txt.join a xs).cps.toList=Ab a.cps.toList (xs.map (·.cps.toList))
 |[]=>rfl
 |[x]=>by simp[Txt.join,glued,Ab]
 | x::y::r=>by
  have c:∀(r:List Str)(b:Array Nat),(r.foldl (λb p=>b++a.cps++p.cps) b).toList=b.toList++(r.map λp=>a.cps.toList++p.cps.toList).flatten:=by
   intro r
   induction r with
   |nil=>intro b;simp
   |cons p r d=>intro b;rw[j0,d];simp
  have j:∀(x:Str)(r:List Str),Ab a.cps.toList ((x::r).map (·.cps.toList))=x.cps.toList++(r.map λp=>a.cps.toList++p.cps.toList).flatten:=by
   intro x r
   induction r generalizing x with
   |nil=>simp[Ab]
   |cons p r d=>
    have:=d p;simp[zJ]at this⊢;rw[Ab,this];simp
  rw[j];show(glued a (x::y::r)).cps.toList=_;unfold glued;simp only[List.drop_one,List.tail_cons,List.headD_cons];rw[c]
def NN(g:DG)(c:DB)(te:DE)(S:ZB)(G:DH)(x:D)(r:Option D):Prop:=
 ∃S1,g x S G=.ok S1 G/\((c S1 G=.ok uX G/\r=uZ)\/(c S1 G=.ok uJ G/\∃d,te S1 G=.ok d G/\r=uQ d))
theorem R4:∀{xs:List D},(∀x∈xs,NN g c te S G x (F x))->Bc g c te S xs G=.ok (xs.filterMap F) G
 |[],_=>rfl
 |x::xs,h=>by
  obtain⟨k,f,a⟩:=h x (by simp);have e:=R4 (λy i=>h y (zQ _ i));rw[Dg,f];rcases a with⟨a,b⟩|⟨a,d,b,j⟩
  .simp[a,b,e]
  simp[a,b,j,e]
theorem f5(e:G[i]?=uQ (.lst xs))(h:∀x∈xs,NN g c te S G x (F x)):
  ∀(n j:Nat),j+n=xs.length->Gj i g c te S n j G=.ok ((xs.drop j).filterMap F) G
 |0,j,o=>by
  unfold Gj;rw[e];simp only;rw[if_pos (by lia),jQ (by lia)]
  rfl
 |n+1,j,o=>by
  have a:j<xs.length:=by lia
  have k:=f5 e h n (j+1) (by lia);obtain⟨r,l,b⟩:=h xs[j] (qV a);unfold Gj;rw[e];simp only;rw[zX a];simp[l,R.Es];rw[qK a,qx];rcases b with⟨b,f⟩|⟨b,d,f,q⟩
  .simp[b,f,k]
  simp[b,f,q,k]
def sR(a:G[i]?=uQ (.lst xs))(h:∀x∈xs,NN g c te S G x (F x)):
  Gj i g c te S xs.length 0 G=.ok (xs.filterMap F) G:=f5 a h xs.length 0 (by lia)
theorem f9:∀xs:List (List Nat),Ab [] xs=xs.flatten
 |[]=>rfl
 |[x]=>by simp[Ab]
 |x::y::r=>by rw[Ab,f9 (y::r)];simp
def sS(cs:List Nat):Txt.join ("":Str) (cs.map λc=>(⟨#[c]⟩:Str))=⟨cs.toArray⟩:=by
 have h:=f3 ("":Str) (cs.map λc=>(⟨#[c]⟩:Str));have e:("":Str).cps.toList=[]:=by decide +kernel
 rw[e,f9,qA]at h;have b:(cs.map ((λx:Str=>x.cps.toList) ∘ λc=>(⟨#[c]⟩:Str))).flatten=cs:=by
  clear h
  induction cs with
  |nil=>rfl
  |cons c cs d=>simp only[zJ,List.flatten_cons,d];rfl
 rw[b]at h;generalize Txt.join ("":Str) (cs.map λc=>(⟨#[c]⟩:Str))=z at h;obtain⟨a⟩:=z;simp only at h;rw[<-h]
def Og{x y:Str}(h:x.cps.toList=y.cps.toList):x=y:=by obtain⟨a⟩:=x;obtain⟨b⟩:=y;simp only at h;rw[Array.toList_inj.mp h]
def sT{x y:Str}:x=y↔x.cps.toList=y.cps.toList:=⟨λh=>by rw[h],Og⟩
end
inductive Src where
 |l (a:xz)
 |t (a:xz)
noncomputable def Src.NT:Src->String
 |.l _=>"list_iterator"
 |.t _=>"tuple_iterator"
noncomputable def Src.YL:Src->xz
 |.l a=>a
 |.t a=>a
def Src.it(h:Heap)(p:xz)(k:Nat)(sr:Src):Prop:=∃o,h.get? p=uQ o/\o.cls=.type sr.NT/\o.data=.fields #[.ref sr.YL,.int k 0]
def Src.val(h:Heap)(xs:Array xB):Src->Prop
 |.l a=>h.IsList a xs
 |.t a=>h.IsTuple a xs
def Src.it.at{a:Src}{h h':Heap}{p:xz}{k:Nat}(x:a.it h p k)(e:∀o,h.get? p=uQ o->h'.get? p=uQ o):a.it h' p k:=let⟨o,b,r⟩:=x;⟨o,e o b,r⟩
def Src.it.lt{a:Src}{h:Heap}{p:xz}{k:Nat}(x:a.it h p k):p<h.objs.size:=let⟨_,b,_⟩:=x;zx b
section
variable{prog:x0}{w:xC}{A:xj}{E:xB->x9->Prop}{s:x9}
theorem Src.ZL{f:Src}{p:xz}{k:Nat}{xs:Array xB}{x:xB}{Q:xB->x9->Prop}(d:f.it s.heap p k)(n:f.val s.heap xs)(r:xs[k]?=uQ x)
  (i:∀h',f.it h' p (k+1)->jv p s.heap h'->Q x {s with heap:=h'}):vW (xU prog w) A (je (.ref p)) Q E s:=by
 cases f with
 |l a=>exact wpAny_nextOf_list_item (d) n r i
 |t a=>
  obtain⟨o,e,q,c⟩:=id d;obtain⟨u,h,_,v,g⟩:=n;have j:s.TypeIs (.ref p) "tuple_iterator":=⟨o,e,q⟩;unfold je;refine vY (vq j jf (vz jf j vh ?_ (vi _)));refine vY (m:=field (.ref p) 0) (vj e c (x:=.ref a) rfl ?_)
  rw[if_neg (show¬((.ref a==Value.none)=uJ)from z6)]
  refine vY (vj e c rfl (vY (wpAny_seqItems h g ?_)));simp[Int.toNat_natCast,r];refine vY (wpAny_setField e c (by simp) (vB ⟨x,rfl,vB (i _ ⟨_,qz _ e (Obj.isFreed_of_fields (Obj.data_mapFields c _)),(Obj.cls_mapFields ..).trans q,?_⟩ (.update ..))⟩));rw[Obj.data_mapFields c];simp[vQ,Src.YL]
theorem Src.ON{f:Src}{p:xz}{k:Nat}{xs:Array xB}{Q:xB->x9->Prop}(j:A.handled=uZ)(c:f.it s.heap p k)(q:f.val s.heap xs)(u:xs[k]?=uZ)
  (r:∀h' e,Heap.ExtBut p s.heap h'->(∃o,h'.get? e=uQ o/\o.cls=.type "StopIteration")->E (.ref e) {s with heap:=h'}):vW (xU prog w) A (je (.ref p)) Q E s:=by
 cases f with
 |l a=>exact wpAny_nextOf_list_end j (c) q u r
 |t a=>
  obtain⟨o,d,v,g⟩:=id c;obtain⟨y,i,_,z,h⟩:=q;have n:s.TypeIs (.ref p) "tuple_iterator":=⟨o,d,v⟩;unfold je;refine vY (vq n jf (vz jf n vh ?_ (vi _)));refine vY (m:=field (.ref p) 0) (vj d g (x:=.ref a) rfl ?_)
  rw[if_neg (show¬((.ref a==Value.none)=uJ)from z6)]
  refine vY (vj d g rfl (vY (wpAny_seqItems i h ?_)));simp[Int.toNat_natCast,u];refine vY (wpAny_rule (vY (wpAny_setField d g (by simp) (vY ?_))));simp[newExc,newTuple]
  refine vY (vy (vY (wpAny_of_eq (by first|rfl|(simp[firstArgMember];rfl)) (vy ?_ (by size_fits)))) (by size_fits))
  simp only[raiseNew];refine vY (wpAny_handled ?_)
  first|rw[j]|rw[j]
  exact vY (vB (wpAny_throw (r _ _ (((jv.update ..).extBut.push _).push _) ⟨_,z9 _ rfl,rfl⟩)))
theorem Src.iter{c:Src}{xs:Array xB}{Q:xB->x9->Prop}(e:c.val s.heap xs)
  (f:Q (.ref s.heap.objs.size) {s with heap:=s.heap.push {cls:=.type c.NT,data:=.fields #[.ref c.YL,.int 0 0]}}):vW (xU prog w) A (pyIter (.ref c.YL)) Q E s:=by
 cases c with
 |l a=>exact wpAny_pyIter_list e f
 |t a=>exact wpAny_pyIter_tuple e f
end
abbrev En(h:Heap)(e it:xz)(f0:xB)(i:Int)(g old:xB):Prop:=
 h.get? e=uQ {cls:=.type "enumerate",dict:=uZ,data:=.fields #[f0,.bool uX,.ref it,vQ i,g,old],slots:= #[]}
def Gv(i:Int)(g:xB):Prop:=g=.none\/∃t,g=.int i t
section
variable{prog:x0}{w:xC}{A:xj}{E:xB->x9->Prop}{s:x9}
def sU{sr:Src}{e it:xz}{k:Nat}{i:Int}{xs:Array xB}{x g z:xB}{Q:xB->x9->Prop}(he:En s.heap e it .none i g z)(hg:Gv i g)(hit:sr.it s.heap it k)(hv:sr.val s.heap xs)(hx:xs[k]?=uQ x)(K:e≠it)
  (hQ:∀h' t tk,En h' e it (vQ s.heap.objs.size) (i+1) .none x->sr.it h' it (k+1)->h'.get? s.heap.objs.size=uQ {cls:=.type "tuple",data:=.seq #[.int i t,x]}->h'.objs.size=s.heap.objs.size+1->
   (∀b o,b≠e->b≠it->s.heap.get? b=uQ o->h'.get? b=uQ o)->Q (.ref s.heap.objs.size) {s with heap:=h',toks:=tk}):
  vW (xU prog w) A (Builtin.«enumerate.__next__» ⟨[.ref e],[]⟩) (λO s'=>∃v,O=.done (.ret v)/\Q v s') E s:=by
 obtain⟨hp,gg,d,tk,os⟩:=s;refine vY (m:=field (.ref e) 2) (vj he rfl rfl (vY (Src.ZL hit hv hx λU J p=>?_)));have n:=(p.2 e K).trans he;refine vY (vj n rfl rfl ?_);refine vY (vj n rfl (x:=g) rfl ?_)
 have rest:∀(t:Tok)(P:Nat),vW (xU prog w) A (do
   setField (.ref e) 3 (vQ (i+1));setField (.ref e) 4 .none
   let result<-newTuple [.int i t,x]
   if<-wQ (.ref e)then
    rule "enumerate.__next__.owned-tuple-again"
    let z<-field (.ref e) 5
    setField (.ref e) 5 x
    wZ (.ref e) result
    PySem.letGo [z] [result]
   ret result) (λO s'=>∃v,O=.done (.ret v)/\Q v s') E ⟨U,gg,d,P,os⟩:=by
  intro t P;refine vY (vC n (by simp) λh₂ S j=>?_);refine vY (vC S (by simp) λH l h=>?_)
  replace l:En H e it .none (i+1) .none z:=l
  have y:H.objs.size=hp.objs.size:=by rw[h.1];rw[j.1];exact p.1
  refine vY (wpAny_newTuple ?_);generalize c:H.push {cls:=.type "tuple",data:=.seq [Value.int i t,x].toArray}=f;have u:En f e it .none (i+1) .none z:=by rw[<-c];exact zW _ l
  have N:f.get? hp.objs.size=uQ {cls:=.type "tuple",data:=.seq #[.int i t,x]}:=by rw[<-c,<-y];exact z9 _ rfl
  have z₄:f.objs.size=hp.objs.size+1:=by rw[<-c,j1,y]
  have k₄:∀b o,b≠e->b≠it->hp.get? b=uQ o->f.get? b=uQ o:=λb o M W q=>by rw[<-c];exact zW _ ((λb o M W q=>h.extBut b o M (j.extBut b o M ((λb o _ Z q=>p.extBut b o Z q) b o M W q))) b o M W q)
  have X:sr.it f it (k+1):=((J.at λo q=>j.extBut it o (.symm K) q).at λo q=>h.extBut it o (.symm K) q).at λo q=>by rw[<-c];exact zW _ q
  have ez:=zx he;refine vY ?_;unfold wQ;refine vY (vj u rfl rfl (vB ?_));simp[if_true];refine vY (wpAny_rule (vY (vj u rfl (x:=z) rfl (vY (vC u (by simp) λY r B=>?_)))))
  replace r:En Y e it .none (i+1) .none x:=r
  refine vY ?_;unfold wZ;refine vY (vC r (by simp) λh₆ T C=>?_);refine vC T (by simp) λL I F=>?_
  refine vY (wpAny_letGo (vB ⟨_,rfl,?_⟩));have up:∀b o,b≠e->f.get? b=uQ o->L.get? b=uQ o:=λb o Z q=>F.extBut b o Z (C.extBut b o Z (B.extBut b o Z q))
  rw[y];rw[y]at I;exact hQ L t P I (X.at λo q=>up it o (.symm K) q) (up _ _ (jD ez) N) (by rw[F.1];rw[C.1];rw[B.1];exact z₄) λb o M W q=>up b o M (k₄ b o M W q)
 rcases hg with rfl|⟨t,rfl⟩
 .exact vY (wpAny_mkInt (rest tk (tk+1)))
 exact vY (vB (rest t tk))
def sV{c:Src}{e it:xz}{k:Nat}{i:Int}{xs:Array xB}{x g h:xB}{Q:Option xB->x9->Prop}(m:En s.heap e it .none i g h)(p:Gv i g)(d:c.it s.heap it k)(q:c.val s.heap xs)(B:xs[k]?=uQ x)(f:e≠it)
  (y:∀h' t tk,En h' e it (vQ s.heap.objs.size) (i+1) .none x->c.it h' it (k+1)->h'.get? s.heap.objs.size=uQ {cls:=.type "tuple",data:=.seq #[.int i t,x]}->h'.objs.size=s.heap.objs.size+1->
   (∀b o,b≠e->b≠it->s.heap.get? b=uQ o->h'.get? b=uQ o)->Q (uQ (.ref s.heap.objs.size)) {s with heap:=h',toks:=tk}):
  vW (xU prog w) A (pyNext (.ref e)) Q E s:=by
 have l:s.TypeIs (.ref e) "enumerate":=⟨_,m,rfl⟩;unfold pyNext;exact vY (wpAny_attempt (vq l jg
  (vz jg l wW (sU m p d q B f λh' t tk z u r n v=>vB (y h' t tk z u r n v)) (wK _))))
def sW{l:Src}{e it:xz}{k:Nat}{i:Int}{xs:Array xB}{g c:xB}{Q:Option xB->x9->Prop}(r:A.handled=uZ)(j:En s.heap e it .none i g c)(b:l.it s.heap it k)(p:l.val s.heap xs)(u:xs[k]?=uZ)
  (n:∀h',Heap.ExtBut it s.heap h'->Q uZ {s with heap:=h'}):vW (xU prog w) A (pyNext (.ref e)) Q E s:=by
 have h:s.TypeIs (.ref e) "enumerate":=⟨_,j,rfl⟩;unfold pyNext;refine vY (wpAny_attempt (vq h jg
  (vz jg h wW (vY (m:=field (.ref e) 2) (vj j rfl rfl (vY (Src.ON r b p u λh' x f d=>?_)))) (wK _))))
 obtain⟨o,t,q⟩:=d;exact vY (wpAny_isInstance ⟨o,t,q⟩ isSubtype_stop (vB (n _ f)))
def sX{elts:List xw}{x1}{pos:Pos}{e it a:xz}{i:Int}{g c:xB}{Q:Unit->x9->Prop}(h:En s.heap e it (vQ a) i g c)
  (j:∀h',En h' e it .none i g c->jv e s.heap h'->Q () {s with heap:=h'}):vW (xU prog w) A (xS (.Tuple elts x1 pos) (.ref e) (.ref a)) Q E s:=by
 unfold xS;refine vY (wpAny_load h ?_);dsimp only;rw[if_pos (by simp)];exact vY (wpAny_rule (vC h (by simp) λh' d f=>j h' d f))
def fb(b:En s.heap e it f0 i g old)(h:Q (.ref e) s):vW (xU prog w) A (pyIter (.ref e)) Q E s:=by have a:s.TypeIs (.ref e) "enumerate":=⟨_,b,rfl⟩;exact wpAny_pyIter_slot a wq (vz wq a PySem.F.entry_enumerate_iter (vB ⟨_,rfl,"enumerate",_,a,PySem.F.slot_enumerate_next.lookup,h⟩) (PySem.F.args_enumerate_iter_1 _))
end
abbrev Tp(h:Heap)(T:xz)(xs:List xB):Prop:=h.get? T=uQ {cls:=.type "tuple",data:=.seq xs.toArray}
end _D
namespace _D
open PySem PySem.W PyProof.Rows
section
variable{lt:Nat->Nat->Bool}
noncomputable abbrev pt(p:Array Nat)(j:Nat):Nat:=p.getD j 0
end
end _D
namespace _D
open PySem PySem.Spec _L
open PyProof.Rows hiding St
section
variable{X:Cx}{vG:List (xz×Obj)}{σ:St}{H:Hp}{s:x9}{h':Heap}
def fc{t':Nat}{fp:List xz}(I:Inv X vG σ H s)(k:∀b o,b∉fp->s.heap.get? b=uQ o->h'.get? b=uQ o)(g:∀b∈fp,SD X vG H b):Inv X vG σ H {s with heap:=h',toks:=t'}:=by
 have f:∀b u,H b=uQ u->b∉fp:=λb u e z=>by rw[(g b z).1]at e;cases e
 refine I.step (λb i=>?_) (λb o _ _ a e _=>k b o a e) (λb o _ _ a e _=>⟨o.slots,k b o a e⟩) (λ_ _ _ _ n=>n)
  (λb o a e=>⟨o,k b o a e⟩) (λ_ _ e=>e) (λ_ _ _ e=>e) (λb C e=>⟨#[],by rw[e];simp⟩) (λm l=>?_) (λb u e=>?_) I.bare
 .obtain⟨B,x,F,t,A,j⟩:=g b i;exact⟨t,x,A,j⟩
 .obtain⟨o,p,w,y,r⟩:=l;exact⟨o,p,w,k _ o (λz=>(g _ z).2.1 rfl) y,r⟩
 refine(I.SA b u e).NF (λc v a q=>k c v ?_ q) (λ_ q=>q) λ_ _ q=>q
 rcases a with z|z
 .rw[z];exact f b u e
 exact f c _ z
def sY{t':Nat}{fp:List xz}{p:xz}{xs:List V}{LA:List xB}(I:Inv X vG σ H s)(k:∀b o,b∉fp->s.heap.get? b=uQ o->h'.get? b=uQ o)(h:∀b∈fp,SD X vG H b)(hp:s.heap.objs.size<=p)
  (hz:xs.length<=sizeLine) (r:Vals xs LA) (i:Tp h' p LA):Inv X vG σ (upd H p (.tup xs)) {s with heap:=h',toks:=t'}:=by
 obtain⟨d,f,l,j,g,e⟩:=I.O8 hp (I.SA.fresh hp);exact aw (fc I k h) d (zy I.sz hp) f g e ⟨hz,LA,r,_,i,rfl,_,rfl⟩
end
def Src.sq(K:za)(H:Hp)(xs:List V):Src->Prop
 |.l a=>IE K H a xs
 |.t a=>JE K H a xs
theorem Src.sq.val{X:Cx}{vG:List (xz×Obj)}{d:St}{H:Hp}{s:x9}{b:Src}{xs:List V}(I:Inv X vG d H s)(h:b.sq X.K H xs):∃LA:List xB,Vals xs LA/\b.val s.heap LA.toArray/\xs.length<=sizeLine:=by
 cases b with
 |l a=>obtain⟨LA,r,p,c⟩:=I.list h;exact⟨LA,r,p.isList,c⟩
 |t a=>obtain⟨LA,r,p,c⟩:=I.tuple h;exact⟨LA,r,p,c⟩
theorem Src.sq.inj{X:Cx}{vG:List (xz×Obj)}{c:St}{H:Hp}{s:x9}{b:Src}{xs ys:List V}(I:Inv X vG c H s)(h:b.sq X.K H xs)(h':b.sq X.K H ys):xs=ys:=by
 cases b with
 |l a=>exact I.Zr h h'
 |t a=>exact I.aT h h'
def Lm(K:za)(sr:Src)(n:Int):It:=
 ⟨λi H=>∃xs x,sr.sq K H xs/\xs[i]?=uQ x,λi H v H'=>∃p x,v=.ref p/\H p=uZ/\H'=upd H p (.tup [.int (n+i),x])/\∀xs,sr.sq K H xs->xs[i]?=uQ x,λi H=>∃xs,sr.sq K H xs/\xs.length<=i⟩
def sZ{P:x0}{w:xC}{K:za}{elts:List xw}{x1}{pos:Pos}(Z:Src)(n:Int)(e it:xz)(B:e≠it):
  Turn P w K (.Tuple elts x1 pos) (Lm K Z n) [e,it] e (λi h=>∃g a,En h e it .none (n+i) g a/\Gv (n+i) g/\Z.it h it i) where
 mem:=by simp
 obj:=λi h f b j=>by
  obtain⟨g,a,d,_,o,ho,_,hd⟩:=f;rcases(show b=e\/b=it by simpa using j)with rfl|rfl
  .exact⟨_,d,λv z=>by cases z⟩
  exact⟨o,ho,λv z=>by rw[hd]at z;cases z⟩
 keep:=λi h h' f k=>by obtain⟨g,a,d,y,p⟩:=f;exact⟨g,a,k e (by simp) _ d,y,p.at λo q=>k it (by simp) o q⟩
 item:=by
  intro X L hw N Y i m s σ H E I F f y;subst L hw N;obtain⟨xs,x,J,Q⟩:=y;obtain⟨S,O,M,hz⟩:=Src.sq.val I J;obtain⟨u,hu,ru⟩:=O.get Q;obtain⟨g,a,d,r,p⟩:=f;refine sV d r p M (by simpa using hu) B λh1 t tk e1 i1 t1 z1 k1=>⟨_,rfl,?_⟩
  refine sX e1 λh2 e2 T=>?_
  have A:=jD (zx d);have I2:Inv X m σ (upd H s.heap.objs.size (.tup [.int (n+i),x])) {s with heap:=h2,toks:=tk}:=
   sY I (λb o j q=>by
    have c:b≠e/\b≠it:=by simpa using j
    exact T.extBut b o c.1 (k1 b o c.1 c.2 q)) F (zY _) (by show 2<=sizeLine;decide) (.cons ⟨t,rfl⟩ (.cons ru .nil)) (T.extBut _ _ A t1)
  refine⟨.ref s.heap.objs.size,_,I2,rfl,⟨_,x,rfl,I.SA.fresh (zY _),rfl,λys hy=>(Src.sq.inj I hy J)▸Q⟩,⟨.none,u,?_,.inl rfl,i1.at λo q=>T.extBut _ _ (.symm B) q⟩,λb j=>?_⟩
  .have ee:n+(i:Int)+1=n+((i+1:Nat):Int):=by lia
   rw[<-ee];exact e2
  have c:b=e\/b=it:=by simpa using j
  rw[Aw (λz=>?_)]
  .exact(F b j).1
  .rcases c with rfl|rfl
   .exact A z.symm
   .have C:=Src.it.lt p;rw[z]at C;exact zH _ C
 done:=by intro X L hw N Y i m s σ H E I F f y;subst L hw N;obtain⟨xs,J,Q⟩:=y;obtain⟨S,O,M,hz⟩:=Src.sq.val I J;obtain⟨g,a,d,r,p⟩:=f;have hl:=O.length;exact sW (I.ok.hd Y) d p M (by simp;lia) λh1 xb=>⟨rfl,fc I (λb o j q=>xb b o (λz=>j (by simp[z])) q) F⟩
 self:=λ_ _ _ _ _ f h=>by obtain⟨g,a,d,_⟩:=f;exact fb d h
def Jz(n:Int)(d:D)(j:Nat)(G:DH):Option (Option D):=match Be d G with
 |none=>uZ
 |some xs=>uQ (xs[j]?.map λx=>.tup [.int (n+j),x])
section
variable{X:Cx}{E:XK}
theorem sd{a:Wd}{G:DH}{d:D}{v:V}{xs:List D}(s:QB a G)(r:UB a d v)(h:Be d G=uQ xs):
  ∃j:Src,v=.ref j.YL/\(∃vs,j.sq a.K a.H vs)/\∀b:Wd,Ext a b->∀e,QB b e->∀ys,Be d e=uQ ys->∃us,j.sq b.K b.H us/\KA b ys us:=by
 cases d with
 |tup B=>
  obtain⟨p,vs,rfl,f,n⟩:=r;refine⟨.t p,rfl,⟨vs,f⟩,λb x e k ys c=>?_⟩;cases(c);exact⟨vs,x.SQ f,n.mono x⟩
 |fl B=>
  obtain⟨p,vs,rfl,f,n⟩:=r;refine⟨.l p,rfl,⟨vs,f.sq⟩,λb x e k ys c=>?_⟩;cases(c);exact⟨vs,(x.NL f).sq,n.mono x⟩
 | ref i=>
  obtain⟨z,rfl⟩:=r;have C:∃g,G[i]?=uQ (.lst g):=by
   unfold Be at h;dsimp only at h;split at h
   .rename_i g q;exact⟨g,q⟩
   cases h
  obtain⟨g,q⟩:=C;obtain⟨vs,y,_⟩:=s.lst q;refine⟨.l (a.m i),rfl,⟨vs,.of y⟩,λb x e k ys c=>?_⟩;unfold Be at c;dsimp only at c;split at c
  .rename_i w o;cases c;obtain⟨us,u,A⟩:=k.lst o;rw[x.m i z]at u;exact⟨us,.of u,A⟩
  cases c
 |_=>cases h
end
def Ng(ds:List D)(G:DH):R D:=match ds with
 | [d]=>match Be d G with
  |some xs=>match K8 xs with
   |some (n::ns)=>.ok (.int (ns.foldl min n)) G
   |_=>.bad
  |none=>.bad
 |_=>.bad
def Nu(ds:List D)(G:DH):R D:=match ds with
 | [d]=>match Be d G with
  |some xs=>match K8 xs with
   |some (n::ns)=>.ok (.int (ns.foldl max n)) G
   |_=>.bad
  |none=>.bad
 |_=>.bad
theorem ff:∀(ns:List Int)(n:Int),ns.foldl min n<=n/\(∀x∈ns,ns.foldl min n<=x)/\(ns.foldl min n=n\/ns.foldl min n∈ns)
 |[],n=>⟨xJ _,λx h=>(by cases h),.inl rfl⟩
 | m::ns,n=>by
  obtain⟨d,b,c⟩:=ff ns (min n m);rw[j0];refine⟨by lia,λx a=>?_,?_⟩
  .rcases zZ.mp a with rfl|a
   .lia
   exact b x a
  rcases c with h|h
  .by_cases e:n<=m
   .exact .inl (by rw[h];lia)
   exact .inr (by rw[h];rw[show min n m=m by lia];exact z8)
  exact .inr (zQ _ h)
theorem fg:∀(ns:List Int)(n:Int),n<=ns.foldl max n/\(∀x∈ns,x<=ns.foldl max n)/\(ns.foldl max n=n\/ns.foldl max n∈ns)
 |[],n=>⟨xJ _,λx h=>(by cases h),.inl rfl⟩
 | m::ns,n=>by
  obtain⟨d,b,c⟩:=fg ns (max n m);rw[j0];refine⟨by lia,λx a=>?_,?_⟩
  .rcases zZ.mp a with rfl|a
   .lia
   exact b x a
  rcases c with h|h
  .by_cases e:m<=n
   .exact .inl (by rw[h];lia)
   exact .inr (by rw[h];rw[show max n m=m by lia];exact z8)
  exact .inr (zQ _ h)
section
variable{X:Cx}{E:XK}
def intAt{ns:List Int}{LA:List xB}{i:Nat}{w:xB}(d:Vals (ns.map V.int) LA)(hw:LA.toArray[i]?=uQ w):i<ns.length/\∃t,w=.int (ns.getD i 0) t:=by
 have b:LA[i]?=uQ w:=by simpa using hw
 have f:i<(ns.map V.int).length:=by rw[d.length];exact(zv.mp b).1
 have a:i<ns.length:=by simpa using f
 obtain⟨u,c,e⟩:=d.get (i:=i) (x:=V.int ns[i]) (by simp[a]);rw[b]at c;cases c;obtain⟨t,rfl⟩:=e;exact⟨a,t,by simp[a]⟩
def se(T:X.calm=uJ):YA X (.builtin "min") (TJ X.K E Ng):=by
 intro y s σ H vs us Q I Z h;obtain⟨a,G,ds,hk,rfl,o,r,q⟩:=h;unfold Ng at q;split at q
 .rename_i d;obtain⟨v,rfl,rv⟩:=YB r;split at q
  .rename_i xs L;split at q
   .rename_i n b C;cases V0 C;obtain⟨p,ws,rfl,z,M⟩:=Jd o rv L;cases Yi M;rw[hk]at z;obtain⟨u,rfl,F⟩:=vals1 Z;cases F;refine call_min_walk (Y5 I T z λit fp wr LA St s₂ hv W st QK fin=>⟨it,fp,wr,LA.toArray.size,_,St,_,rfl,W,st,QK,?_,.ints_lt (λi=>(n::b).getD i 0) (λi w hw=>(intAt hv hw).2),λw J A hw kk=>?_⟩)
    .rw[zj,<-hv.length];simp
    obtain⟨l,t,rfl⟩:=intAt hv hw;obtain⟨b1,Y⟩:=argBest_lt (λi=>(n::b).getD i 0) (LA.toArray.size-1);refine⟨.int (b.foldl min n),a.H,fin J A kk,⟨t,?_⟩,q a _ (.refl a) o rfl⟩;have LK:LA.toArray.size=b.length+1:=by rw[zj,<-hv.length];simp
    obtain⟨U,O,P⟩:=ff b n;have f:∀x∈n::b,b.foldl min n<=x:=λx g=>by
     rcases zZ.mp g with rfl|g
     .exact U
     exact O x g
    have e:b.foldl min n∈n::b:=by
     rcases P with h|h
     .rw[h];exact z8
     exact zQ _ h
    obtain⟨j,k,N⟩:=qw e;have m:=f _ (qV l);have S:(n::b).getD j 0=b.foldl min n:=by rw[zO,zX k];exact N
    have B:(n::b).getD (argBest (λi j=>decide ((λi=>(n::b).getD i 0) i<(λi=>(n::b).getD i 0) j)) (LA.toArray.size-1)) 0=(n::b)[argBest (λi j=>decide ((λi=>(n::b).getD i 0) i<(λi=>(n::b).getD i 0) j)) (LA.toArray.size-1)]:=by rw[zO,zX l];rfl
    have c:=Y j (by simp at k;lia);rw[S]at c;rw[<-B]at m
    congr 1
    exact Int.le_antisymm c m
   exact q.elim
  exact q.elim
 exact q.elim
def sf(T:X.calm=uJ):YA X (.builtin "max") (TJ X.K E Nu):=by
 intro y s σ H vs us Q I Z h;obtain⟨a,G,ds,hk,rfl,o,r,q⟩:=h;unfold Nu at q;split at q
 .rename_i d;obtain⟨v,rfl,rv⟩:=YB r;split at q
  .rename_i xs L;split at q
   .rename_i n b C;cases V0 C;obtain⟨p,ws,rfl,z,M⟩:=Jd o rv L;cases Yi M;rw[hk]at z;obtain⟨u,rfl,F⟩:=vals1 Z;cases F;refine call_max_walk (Y5 I T z λit fp wr LA St s₂ hv W st QK fin=>⟨it,fp,wr,LA.toArray.size,_,St,_,rfl,W,st,QK,?_,.ints_gt (λi=>(n::b).getD i 0) (λi w hw=>(intAt hv hw).2),λw J A hw kk=>?_⟩)
    .rw[zj,<-hv.length];simp
    obtain⟨l,t,rfl⟩:=intAt hv hw;obtain⟨b1,Y⟩:=argBest_gt (λi=>(n::b).getD i 0) (LA.toArray.size-1);refine⟨.int (b.foldl max n),a.H,fin J A kk,⟨t,?_⟩,q a _ (.refl a) o rfl⟩;have LK:LA.toArray.size=b.length+1:=by rw[zj,<-hv.length];simp
    obtain⟨U,O,P⟩:=fg b n;have f:∀x∈n::b,x<=b.foldl max n:=λx g=>by
     rcases zZ.mp g with rfl|g
     .exact U
     exact O x g
    have e:b.foldl max n∈n::b:=by
     rcases P with h|h
     .rw[h];exact z8
     exact zQ _ h
    obtain⟨j,k,N⟩:=qw e;have m:=f _ (qV l);have S:(n::b).getD j 0=b.foldl max n:=by rw[zO,zX k];exact N
    have B:(n::b).getD (argBest (λi j=>decide ((λi=>(n::b).getD i 0) i>(λi=>(n::b).getD i 0) j)) (LA.toArray.size-1)) 0=(n::b)[argBest (λi j=>decide ((λi=>(n::b).getD i 0) i>(λi=>(n::b).getD i 0) j)) (LA.toArray.size-1)]:=by rw[zO,zX l];rfl
    have c:=Y j (by simp at k;lia);rw[S]at c;rw[<-B]at m
    congr 1
    exact Int.le_antisymm m c
   exact q.elim
  exact q.elim
 exact q.elim
end
section
variable{S:ZB}{G:DH}
def sg(h:Be d G=uQ ((n::ns).map D.int)):Ng [d] G=.ok (.int (ns.foldl min n)) G:=by simp only[Ng,h,eI]
def si(h:Be d G=uQ ((n::ns).map D.int)):Nu [d] G=.ok (.int (ns.foldl max n)) G:=by simp only[Nu,h,eI]
end
def RW(i:Int):Prop:=i.natAbs.log2<33554432
def VJ(i j:Int):Prop:=UM i j\/(RW i/\RW j)
noncomputable instance (i:Int):Decidable (RW i):=by unfold RW;infer_instance
noncomputable instance (i j:Int):Decidable (VJ i j):=by unfold VJ;infer_instance
def VJ.ok(h:VJ i j):IntMulOk i j:=by
 rcases h with h|⟨c,a⟩
 .exact h.ok
 have b:∀k:Int,RW k->Builtin.Int.intBits k<=33554432:=λk hk=>by
  unfold Builtin.Int.intBits;split
  .exact Nat.zero_le _
  exact hk
 have e:=b i c;have d:=b j a;have h:Builtin.Int.intTooBig (Builtin.Int.intBits i+Builtin.Int.intBits j)=uX:=by unfold Builtin.Int.intTooBig bitsLine;exact decide_eq_false (by lia)
 unfold IntMulOk;rw[h];simp
def Bp:D->D->DH->R D
 |.int i,.int j,G=>if VJ i j then .ok (.int (i*j)) G else .bad
 |_,_,_=>.bad
section
variable{X:Cx}{E:XK}
def fh:VB X (xI .Mult) (rI VJ λi j=>.int (i*j)):=OY λ_ _ _ _ _ _ _ a q=>mul_int q a.ok
def so:VB X (xI .Mult) (WE X.K E Bp):=Fy fh λa G d e x y Q hk s rd re q=>by
 cases d<;>cases e<;>first
  |exact q.elim
  | (
    rename_i i j;unfold Bp at q;dsimp only at q;split at q
    .exact⟨_,_,rd,re,by assumption,q a _ (.refl a) s rfl⟩
    exact q.elim)
end
section
variable{i j:Int}{G:DH}
def Nz(b: -(2^64)<i)(a:i<2^64):Bp (.int i) (.int j) G=.ok (.int (i*j)) G:=if_pos (.inl (.inl ⟨b,a⟩))
def Vx(b: -(2^64)<j)(a:j<2^64):Bp (.int i) (.int j) G=.ok (.int (i*j)) G:=if_pos (.inl (.inr ⟨b,a⟩))
@[simp]theorem HI(h:n<18446744073709551616):Bp (.int (no_index (OfNat.ofNat n))) (.int j) G=.ok (.int (OfNat.ofNat n*j)) G:=
 Nz (by have:(0:Int)<=(OfNat.ofNat n:Int):=Int.natCast_nonneg n;lia) (by have:(OfNat.ofNat n:Int)<18446744073709551616:=Int.ofNat_lt.mpr h;lia)
end
theorem fj:∀{ns:List Int},tx (ns.map PySem.W.WData.int)<=2^20->∀n∈ns,n.natAbs.log2<1048576
 |[],_,n,h=>nomatch h
 | m::ns,hw,n,h=>by
  rw[zJ,tx,PySem.W.WData.weight]at hw;rcases zZ.mp h with rfl|h
  .split at hw
   .rename_i a;have:n=0:=by simpa using a
    rw[this];decide
   lia
  exact fj (by lia) n h
def su{l:vN}{n k:Nat}{q:x0}{loose:List Str}{XP:(Str->Option xB)->Heap->Prop}{YP:xC->Heap->Prop}{d:DefRec}{K:xC->za}{CX:xC->IL}{sp:xC->Sp}{x:Str}
  (hn:l.most=uQ n) (O:n<=sizeLine) (TU:d.params.defaults=[]) (hr:TB k callerA) (hY:∀(w:xC)(h:Heap),YP w h->(K w).In h)
  (F:∀(w:xC)(y:Str->Option xB)(I:xz)(h:Heap),(K w).In h->h.Ns xT y->y d.name=uQ (.ref I)->
   ∃M:xk,(∀(s:x9)(u:xB),BindsTo s M ⟨[u],[]⟩ [(x,u)])/\∀c:Heap,(K w).In c->c.Ns xT y->KC l.prog w (K w) y c (CX w) k I M [x] (sp w))
  (Q:∀(w:xC)(H:Hp)(a:xz)(ns:List Int),ns.length<=n->(∀m∈ns,m.natAbs.log2<1048576)->ZR H->IE (K w) H a (ns.map V.int)->sp w [.ref a] H (λv _=>v=.bl uJ) λ_ _ _=>False)
  (N:∀(w:xC)(H:Hp)(s:x9)(e:xB)(s':x9),CX w [] H s (λ_ _ _=>False) e s'->False):wz q loose XP YP l.row.toRowW d [] (λf vs=>jh f vs):=by
 intro w s₀ z y mb G Y I o pm cd doc dV kV ho hd PY U L hg S Z as B C hrd P hlo;obtain rfl:dV=.none:=PySem.W.Dflts.none U TU;obtain rfl:kV=.none:=PySem.W.Dflts.noKw U;obtain⟨a,vs,ns,rfl,rfl,A,t,p⟩:=Att.oz hn B P;have KX:=hY w _ Y;obtain⟨M,hb,hF⟩:=F w y I _ KX G.T.g L;have hw:tx (ns.map PySem.W.WData.int)<=2^20:=by
  have h1:PySem.W.WData.layable (.list (ns.map PySem.W.WData.int))=uJ:=by have:=C;simpa[PySem.W.WData.layableAll]using this
  have J:=of_decide_eq_true (qC.mp h1).2;simpa only[PySem.W.WData.weight]using J
 refine PySem.W.enter_call (xN (pB KX G.T.g G.T.b G.T.builtins G.T.nolimit hg A t (zy p O) hr hF hb (λH hO hS=>Q w H a ns p (fj hw) hO hS) λH e s'=>N w H z e s') λr s' hq=>?_);obtain⟨rfl,J,h3,h4⟩:=hq
 exact⟨.inl ⟨.bool uJ,.bool uJ,[],rfl,λ_=>rfl,.bool uJ,Att.pA l _,λ_=>⟨.nil,λ_ hm=>(nomatch hm)⟩⟩,J,h3,h4⟩
theorem OH.OT(h:OH a ((g,d)::fs) us):∃v z?,us=(g,v)::z?/\UB a d v/\OH a fs z?:=by
 obtain⟨b,k⟩:=h;cases us with
 |nil=>simp at b
 |cons q us=>
  obtain⟨n,y⟩:=q;simp[zJ,S0]at b;obtain⟨rfl,b⟩:=b;obtain⟨v,r,i,j,l⟩:=k;simp[zJ,S0]at i;obtain⟨rfl,rfl⟩:=i;exact⟨y,us,rfl,j,b,l⟩
def lkc{a:Type}{f g:Str}{x:a}{fs:List (Str×a)}:jR f ((g,x)::fs)=if(f==g)=uJ then uQ x else fs.lookup f:=by
 show(match f==g with
  |true=>uQ x
  |false=>jR f fs)=_
 cases f==g<;>rfl
theorem OH.look{a:Wd}{f:Str}{d:D}:∀{fs:List (Str×D)}{us:List (Str×V)},OH a fs us->fs.lookup f=uQ d->∃u,us.lookup f=uQ u/\UB a d u
 |[],us,h,e=>by simp at e
 |(g,x)::fs,us,h,e=>by
  obtain⟨v,j,rfl,i,b⟩:=h.OT;rw[lkc]at e⊢;by_cases q:(f==g)=uJ
  .rw[if_pos q]at e⊢;cases e;exact⟨v,rfl,i⟩
  rw[if_neg q]at e⊢;exact OH.look b e
theorem Ux:∀{ns:List Int}{us:List xB},Vals (ns.map V.int) us->us.length=ns.length/\∀(j:Nat)(u:xB),us[j]?=uQ u->∃t,∃h:j<ns.length,u=.int ns[j] t
 |[],us,h=>by cases h;exact⟨rfl,λj u e=>by simp at e⟩
 | n::ns,us,h=>by
  cases h with
  | cons r d=>
   obtain⟨b,f⟩:=Ux d;obtain⟨t,rfl⟩:=r;refine⟨by simp[b],λj u e=>?_⟩;cases j with
   |zero=>simp at e;exact⟨t,by simp,by simpa using e.symm⟩
   |succ j=>
    obtain⟨g,c,a⟩:=f j u (by simpa using e);exact⟨g,by simpa using c,by simpa using a⟩
def sv(a b:xB):checkTypeCall "enumerate" ⟨[a],[("start",b)]⟩=pure ():=by kernel_rfl
def sx(a b:xB):xM "enumerate.__new__" ⟨[.type "enumerate",a],[("start",b)]⟩=pure ():=by kernel_rfl
def sy(o a b:xB):argsOk "object.__init__" ⟨[o,a],[("start",b)]⟩:=by
 unfold argsOk;rw[signature?_of (n:=['_','_','t','i','n','i','_','_']) (by kernel_rfl) PySem.F.owner_object]
 kernel_rfl
section
variable{prog:x0}{w:xC}{A:xj}{E:xB->x9->Prop}{s:x9}
def tD(f:typeLookup (.type T) "__init__"=pure (uQ (.builtin "object.__init__")))(h:Bind.madeBy (.type T)=pure (uQ newId))(e:(uQ newId != uQ "object.__new__")=uJ):
  Meets (Builtin.«object.__init__» ⟨[self,a],kw⟩) (λ_ R s=>s.TypeIs self T/\R (.ok (.ret .none)) s):=by
 refine .of_wp λb w A R s d=>?_
 obtain⟨g,c⟩:=d
 repeat (any_goals (first|assumption|wp_step))
 exact⟨_,rfl,c⟩
theorem tE(d:TypeCalled T newId LG)
  (C:checkTypeCall T ⟨args,kw⟩=pure ()) (n:xM newId ⟨.type T::args,kw⟩=pure ())
  (i:entryFor table newId=uQ Bn) (f:entryFor table LG=uQ Bi) (g:Meets (Bn ⟨.type T::args,kw⟩) S) (h:S A.in1 (wants Q₁ E) s)
  (l:∀obj a,Q₁ obj a->a.TypeIs obj T/\argsOk LG ⟨obj::args,kw⟩/\∃p,Meets (Bi ⟨obj::args,kw⟩) p/\p A.in1 (wants (λr j=>r=.none/\Q obj j) E) a):
  vW (xU prog w) A (call (.type T) args kw) Q E s:=by
 obtain⟨c,K,u⟩:=d.mro;have t:=d.made;have v:=d.sub;refine wpAny_call (codeAny_of_tree ?_);refine vB ⟨Code.quiet_builtin _ (by decide +kernel),codeAny_builtin PySem.F.entry_type_call ?_⟩;rw[Around.under_plain (weight_type_call_type T args kw) (units_type_call_type T args kw)];have I:=d.notType;have H:=d.canCreate
 repeat (any_goals (first|assumption|wp_step))
 refine xN (codeAny_call_builtin d.plain i (wpAny_of_eq n (g prog w A.in1 _ s h))) λr a q=>?_
 cases r with
 |error e=>exact q
 | ok fl=>
  cases fl with
  | ret obj=>
   obtain⟨x,SA,p,y,o⟩:=l _ _ q;have B:=d.init.lookup;have z:=d.init.bind obj
   repeat (any_goals (first|assumption|wp_step))
   refine xN (codeAny_call_builtin d.init.plain f (d.init.check _ _ _ _ _ _ _ _ x SA (y prog w A.in1 _ a o))) λm j b=>?_
   cases m with
   |error e=>exact b
   | ok k=>
    cases k with
    |ret r=>
     obtain⟨rfl,J⟩:=b
     repeat (any_goals (first|assumption|wp_step))
    |_=>exact b.elim
  |_=>exact q.elim
def tF{sr:Src}{xs:Array xB}{n:Int}{t:Tok}{Q:xB->x9->Prop}(hv:sr.val s.heap xs)
  (h:∀h' tk g,Gv n g->En h' (s.heap.objs.size+1) s.heap.objs.size .none n g .none->sr.it h' s.heap.objs.size 0->(∀b o,s.heap.get? b=uQ o->h'.get? b=uQ o)->Q (.ref (s.heap.objs.size+1)) {s with heap:=h',toks:=tk}):
  vW (xU prog w) A (call (.type "enumerate") [.ref sr.YL] [("start",.int n t)]) Q E s:=by
 have g:Meets (Builtin.«enumerate.__new__» ⟨[.type "enumerate",.ref sr.YL],[("start",.int n t)]⟩) (λ_ R s=>sr.val s.heap xs/\∀g tk,Gv n g->
   R (.ok (.ret (.ref (s.heap.push {cls:=.type sr.NT,data:=.fields #[.ref sr.YL,.int 0 0]}).objs.size)))
    {s with heap:=(s.heap.push {cls:=.type sr.NT,data:=.fields #[.ref sr.YL,.int 0 0]}).push {cls:=.type "enumerate",data:=.fields #[.none,.bool uX,.ref s.heap.objs.size,vQ n,g,.none]},toks:=tk}):=
  .of_wp λprog w A R s h=>by
   obtain⟨hp,g,d,tk,os⟩:=s;obtain⟨hl,h⟩:=h;have hsub:=sub_enumerate;have hL:sr.val (Shared.heap ⟨hp,g,d,tk,os⟩) xs:=hl
   wp_walk
   refine wpAny_stack_any λst=>vB ?_
   cases hf:we n
   .split
    .rename_i c _ _ _ _ _
     cases(c==Value.type "enumerate")<;>(wp_walk using Src.iter hL;exact⟨_,rfl,h _ _ (.inr ⟨t,rfl⟩)⟩)
    wp_walk using Src.iter hL
    exact⟨_,rfl,h _ _ (.inr ⟨t,rfl⟩)⟩
   split
   .rename_i c _ _ _ _ _
    cases(c==Value.type "enumerate")<;>(wp_walk using Src.iter hL;exact⟨_,rfl,h _ _ (.inl rfl)⟩)
   .wp_walk using Src.iter hL
    exact⟨_,rfl,h _ _ (.inl rfl)⟩
 refine tE (Q₁:=λobj s₁=>s₁.TypeIs obj "enumerate"/\Q obj s₁) PySem.F.called_enumerate (sv _ _) (sx _ _) PySem.F.entry_enumerate_new PySem.F.entry_object_init g ⟨hv,λg tk hg=>?_⟩ λobj s₁ hq=>⟨hq.1,sy obj _ _,_,tD PySem.F.called_enumerate.init.lookup PySem.F.called_enumerate.made (by decide),hq.1,rfl,hq.2⟩
 have hz:(s.heap.push {cls:=.type sr.NT,data:=.fields #[.ref sr.YL,.int 0 0]}).objs.size=s.heap.objs.size+1:=j1 ..;rw[hz];have he:En ((s.heap.push {cls:=.type sr.NT,data:=.fields #[.ref sr.YL,.int 0 0]}).push {cls:=.type "enumerate",data:=.fields #[.none,.bool uX,.ref s.heap.objs.size,vQ n,g,.none]}) (s.heap.objs.size+1) s.heap.objs.size .none n g .none:=by
  have:=z9 (s.heap.push {cls:=.type sr.NT,data:=.fields #[.ref sr.YL,.int 0 0]}) (o:={cls:=.type "enumerate",data:=.fields #[.none,.bool uX,.ref s.heap.objs.size,vQ n,g,.none]}) rfl;rw[hz]at this;exact this
 exact⟨⟨_,he,rfl⟩,h _ tk g hg he ⟨_,zW _ (z9 _ rfl),rfl,rfl⟩ λb o x=>zW _ (zW _ x)⟩
def tG{M:Model}{A:xj}{E:xB->x9->Prop}{s:x9}{env:Env}{pos:Pos}{T:String}{e:xw}{rest:List xw}{c:List Keyword}{Q:xB->x9->Prop}
  (i:(xG pos (xR c env)).all (·.1.isSome)=uJ)
  (h:vW M A (spliced (xF pos (vX (e::rest) env))) (λvs b=>vW M A (evalAll ((xG pos (xR c env)).map (·.2)))
   (λks f=>vW M A (call (.type T) vs (((xG pos (xR c env)).filterMap (·.1)).zip ks)) Q E f) E b) E s)
  (d:(xF pos (vX (e::rest) env)).any (·.1)=uX) (j:(xG pos (xR c env)).any (·.1.isNone)=uX) (l:vX (e::rest) env=(uX,eval e env)::vX rest env):
  vW M A (callWith pos (.type T) [] (xF pos (vX (e::rest) env)) (xG pos (xR c env))) Q E s:=by
 unfold callWith;refine vY (vx (vv (PyProof.Rows.evalArgs_kw2 (Q:=λa b=>vW M A (call (.type T) ([]++a.pos) a.kw) Q E b) i h l) (λa b g=>vY (wpAny_standAt ?_)) λ_ _ x=>x));simp only[d,j,Bool.or_false];exact vY (vB (vY (vv g (λr f k=>vY (vx (wpAny_point (vB k)))) λ_ _ x=>x)))
end
section
variable{X:Cx}{E:XK}
def tH(K:za)(ta tk:TA):TI:=λσ H R=>ta σ H λvs H1=>tk σ H1 λws H2=>∃sr xs n,vs=[.ref (Src.YL sr)]/\ws=[.int n]/\sr.sq K H2 xs/\R (Lm K sr n) H2
theorem tI{elts:List xw}{x1}{tp:Pos}{a b:xw}{ta tk:TA}{p pos i:Pos}(k:Gl X "enumerate")(S:X.mg "enumerate"=uZ)(Z:PA X [a] ta)(hk:PK X [⟨uQ "start",b,i⟩] tk)(m:vX [a] X.env=[(uX,eval a X.env)]:=by rfl):
  PI X (.Tuple elts x1 tp) (.Call (.Name "enumerate" p) [a] [⟨uQ "start",b,i⟩] pos) (tH X.K ta tk):=by
 intro c s v H R I h;refine vK (Qx I k S PyProof.Rows.boot_enumerate (tG rfl (ZA (Z pos c s v H _ I h) λus O ⟨vs,x,J,Y,y⟩=>ZA (hk pos c O v x _ J y) λus2 d zz=>?_) (by rw[m];rfl) rfl m));obtain⟨ws,T,j,B,C⟩:=zz;obtain⟨P,xs,n,e,F,L,q⟩:=C;subst e;subst F;cases Y with
 |cons r M=>
  cases M;cases r;obtain⟨u,rfl,Q⟩:=B.one;obtain⟨t,rfl⟩:=Q;obtain⟨U,rv,z,hz⟩:=Src.sq.val j L;refine tF z λh' tk g k o W i=>?_
  refine fb o ?_;refine⟨d.heap.objs.size+1,[d.heap.objs.size+1,d.heap.objs.size],_,_,T,rfl,j.kept i,sZ P n _ _ (Nat.succ_ne_self _),⟨g,.none,by simpa using o,by simpa using k,W⟩,λb N=>?_,q⟩;have l:b=d.heap.objs.size+1\/b=d.heap.objs.size:=by simpa using N
  have f:d.heap.objs.size<=b:=by rcases l with rfl|rfl<;>lia
  exact j.O8 f (j.SA.fresh f)
def tJ(hk:a.K=X.K)(r:∀b:Wd,Ext a b->∀h,QB b h->∀ys,Be d h=uQ ys->∃us,sr.sq b.K b.H us/\KA b ys us)(n:Nat):RF a (.fn n (Jz n0 d)) (Lm X.K sr n0):=by
 intro b x h l i;have z:=x.k.trans hk;constructor
 .intro e f;unfold Jz at f;split at f
  .cases f
  rename_i ys m;obtain⟨us,g,j⟩:=r b x h l ys m;rw[z]at g;cases c:ys[i]? with
  |none=>rw[c]at f;cases f
  |some y=>
   rw[c]at f;have o:D.tup [.int (n0+i),y]=e:=by simpa using f
   subst o;obtain⟨u,v,B⟩:=j.get c;refine⟨⟨us,u,g,v⟩,?_⟩;rintro w F ⟨p,C,rfl,hp,rfl,q⟩;refine⟨b.put p (.tup [.int (n0+i),C]),rfl,.put hp,l.put hp,p,_,rfl,.of Hw,?_⟩;have t:=q us g;rw[v]at t;cases t;exact⟨_,_,rfl,rfl,.cons (B.mono (.put hp)) rfl⟩
 intro f;unfold Jz at f;split at f
 .cases f
 .rename_i ys m;obtain⟨us,g,j⟩:=r b x h l ys m;rw[z]at g;cases c:ys[i]? with
  |none=>exact⟨us,g,by rw[<-j.length];exact jH.mp c⟩
  |some y=>rw[c]at f;cases f
def Ov(ta:DA)(tb:DE):DI:=λS G=>(ta S G).bind λds G1=>(tb S G1).bind λk G2=>match ds,k with
 |[d],.int n=>match Be d G2 with
  |some xs=>.ok (.fn xs.length (Jz n d)) G2
  |none=>.bad
 |_,_=>.bad
def tK(a:QE X E b tb):PK X [⟨nm,b,kp⟩] (Tn (lE X.K E tb) Vp):=n8 a n6
theorem tL{E:XK}(h:outI E a (r.bind f) Q):
  out E a r (λv H=>∃(b:Wd)(d:D)(G:DH),b.H=H/\Ext a b/\QB b G/\UB b d v/\outI E b (f d G) Q):=by
 cases r with
 |ok d G=>exact λb v x s q=>⟨b,d,G,rfl,x,s,q,outI.mono x h⟩
 |_=>exact h
def tM{x1}(z:Gl X "enumerate")(L:X.mg "enumerate"=uZ)(N:QA X E [e] ta)(C:QE X E b tb)(B:vX [e] X.env=[(uX,eval e X.env)]:=by rfl):
  QI X E (.Tuple elts x1 tp) (.Call (.Name "enumerate" p) [e] [⟨uQ "start",b,kp⟩] pos) (Ov ta tb):=(tI z L N (tK C) B).mono λY H Q h=>by
 obtain⟨a,S,G,hk,rfl,s,r,h⟩:=h;refine⟨a,S,G,hk,rfl,s,r,(dy h).imp ?_⟩;rintro U _ ⟨b,T,j,rfl,x,F,q,-,o⟩;refine⟨b,S,j,x.k.trans hk,rfl,F,r.mono x,(tL o).imp ?_⟩;rintro v _ ⟨c,k,P,rfl,y,g,m,f⟩;split at f
 .rename_i d n;split at f
  .rename_i W O;obtain⟨w,r,u,l,I⟩:=q;cases(I);subst u;cases(m);obtain⟨J,rfl,⟨M,t⟩,K⟩:=sd g (l.mono y) O;have i:=(y.k.trans x.k).trans hk;exact⟨J,M,n,rfl,rfl,by rw[<-i];exact t,f c _ (.refl c) g (tJ i K _)⟩
  exact f.elim
 exact f.elim
end
noncomputable def Tv(x:Str)(n:Int):Str:=if n<1 then Str.empty else if(n==1||x.length==0)=uJ then x else⟨(qQ n.toNat x.cps).foldl (·++·) #[]⟩
theorem fm:∀(n:Nat)(b:Array Nat),((qQ n a).foldl (·++·) b).toList=b.toList++(qQ n a.toList).flatten
 |0,b=>by simp
 |n+1,b=>by rw[List.replicate_succ,j0,fm n (b++a),List.replicate_succ,List.flatten_cons];simp
def tN{a:Array Nat}(n:Nat):((qQ n a).foldl (·++·) #[]).size=n*a.size:=by rw[<-qL,fm];simp
def Oo:D->D->DH->R D
 |.int i,.int j,G=>if VJ i j then .ok (.int (i*j)) G else .bad
 |.str x,.int n,G=>if -1000<=n/\n<=1000/\x.length<=1000 then .ok (.str (Tv x n)) G else .bad
 |_,_,_=>.bad
section
variable{X:Cx}{E:XK}
def tO:VB X (xI .Mult) (λx y H Q=>∃i n,x=.str i/\y=.int n/\(-1000<=n/\n<=1000/\i.length<=1000)/\Q (.str (Tv i n)) H):=by
 intro d s r H x y v u Q I k o h;obtain⟨i,n,rfl,rfl,⟨w,g,e⟩,q⟩:=h;obtain⟨t,rfl⟩:=k;obtain⟨C,rfl⟩:=o;have b:∀m:Nat,m<=1000->i.length*m<=1000000:=λm l=>zy (Nat.mul_le_mul e l) (by decide)
 refine P.mul_str ?_ (λa c=>?_) (λa c=>?_) ?_
 .rw[decide_eq_false (by lia),decide_eq_false (by lia)];rfl
 .intro p;have:(i.length:Int)*n<=2^63-1:=by have A:(i.length:Int)*n<=1000*1000:=Int.mul_le_mul (by lia) g (by lia) (by lia);lia
  have B:=(Int.le_ediv_iff_mul_le (by lia)).mpr this;lia
 .have:=b n.toNat (by lia);unfold wj;rw[vZ];exact decide_eq_false (by lia)
 unfold Tv at q;split
 .rename_i a;rw[if_pos a]at q;exact⟨by decide,.str Str.empty,H,I.tok _,⟨_,rfl⟩,q⟩
 .rename_i a;rw[if_neg a]at q;split
  .rename_i c;rw[if_pos c]at q;exact⟨.str i,H,I,⟨t,rfl⟩,q⟩
  .rename_i c;rw[if_neg c]at q;refine⟨?_,.str _,H,I.tok _,⟨_,rfl⟩,q⟩
   show((qQ n.toNat i.cps).foldl (·++·) #[]).size<=sizeLine
   have f:i.cps.size<=1000:=e;have z:=Nat.mul_le_mul (show n.toNat<=1000 by lia) f;rw[tN,vZ];lia
def tP:VB X (xI .Mult) (WE X.K E Oo):=Fy (fh.or tO) λa G d e x y Q hk s rd re q=>by
 cases d<;>cases e<;>first
  |exact q.elim
  | (
    rename_i i j;unfold Oo at q;dsimp only at q;split at q
    .first
     |exact .inl ⟨_,_,rd,re,by assumption,q a _ (.refl a) s rfl⟩
     |exact .inr ⟨_,_,rd,re,by assumption,q a _ (.refl a) s rfl⟩
    exact q.elim)
end
section
variable{i j:Int}{G:DH}
def tQ(h: -1000<=n/\n<=1000/\x.length<=1000):Oo (.str x) (.int n) G=.ok (.str (Tv x n)) G:=if_pos h
end
def YQ(N:List Str)(names:List (Str×xy))(nt:Nat):Bool:=
 names.all (λy=>(!Im y.2||VL Im (names.lookup y.1)) && !Mf y.2 && !Le y.2)&&decide N.Nodup&&decide (N.length=nt)
def tR{X:Cx}{N:List Str}{a:x2}{nt:Nat}(hk:a.kind=.function:=by rfl)(h:YQ N a.names nt=uJ:=by decide +kernel):MC X N a nt []:=by
 unfold YQ at h;rw[zq,zq]at h;obtain⟨⟨e,g⟩,i⟩:=h;rw[qX]at e;have b:=λ(y:Str×xy)(c:y∈a.names)=>(by have:=e y c;rw[zq,zq]at this;exact this:((!Im y.2||VL Im (a.names.lookup y.1))=uJ/\(!Mf y.2)=uJ)/\(!Le y.2)=uJ)
 refine⟨hk,λy c d=>?_,λy c d=>?_,λy c d=>?_,of_decide_eq_true g,by rw[of_decide_eq_true i];rfl,λk j f=>?_⟩
 .have:=(b y c).1.1;rw[d]at this;exact R7 (λ_ h=>fB h) (by have t:(uX||VL Im (a.names.lookup y.1))=uJ:=this;simpa using t)
 .have:=(b y c).1.2;rw[d]at this;exact absurd this (by decide)
 .have:=(b y c).2;rw[d]at this;exact absurd this (by decide)
 cases f
def MG(h:n<=1000000):n<=sizeLine:=zy h (by decide)
noncomputable def Px(ds:List D)(G:DH):R D:=match ds with
 |[.str x]=>match wx x with
  |some n=>if x.length<=640 then .ok (.int n) G else .bad
  |none=>.bad
 |_=>.bad
section
variable{X:Cx}{E:XK}
def tS:YA X (.type "int") (TJ X.K E Px):=λb s i H l j Q I f h=>by
 obtain⟨a,G,k,hk,rfl,g,r,q⟩:=h;unfold Px at q;split at q
 .rename_i x;obtain⟨v,rfl,d⟩:=YB r;cases(d);obtain⟨u,rfl,t,rfl⟩:=vals1 f;split at q
  .rename_i n e;split at q
   .rename_i c;exact PySem.W.KIN.call_text e c ⟨.int n,a.H,I.tok _,⟨_,rfl⟩,q a _ (.refl a) g rfl⟩
   exact q.elim
  exact q.elim
 exact q.elim
noncomputable def part3(x y:Str):List D:=[.str (Txt.partition x y).1,.str (Txt.partition x y).2.1,.str (Txt.partition x y).2.2]
def Gk(o:D)(ds:List D)(G:DH):R D:=match o,ds with
 |.str x,[.str y]=>if y.length≠0/\x.length<=1000000 then .ok (.tup (part3 x y)) G else .bad
 |_,_=>.bad
def Qt:II X "str.partition" (QL X.K E Gk):=λj s N H x U v W Q I C O h=>by
 obtain⟨a,G,d,T,hk,rfl,P,J,r,q⟩:=h;unfold Gk at q;split at q
 .rename_i c y;obtain⟨w,rfl,m⟩:=YB r;cases(J);cases(m);obtain⟨t,rfl⟩:=C;obtain⟨u,rfl,M,rfl⟩:=vals1 O;split at q
  .rename_i B;have g:KA a (part3 c y) [.str (Txt.partition c y).1,.str (Txt.partition c y).2.1,.str (Txt.partition c y).2.2]:=.cons (rfl) (.cons (rfl) (.cons (rfl) KA.nil));have e:∀(p l n:Tok)(k:Nat),EP X j N Q (.ref s.heap.objs.size) {s with toks:=k,heap:=s.heap.push {cls:=.type "tuple",data:=.seq [.str (Txt.partition c y).1 p,.str (Txt.partition c y).2.1 l,.str (Txt.partition c y).2.2 n].toArray}}:=λp l n k=>
    ⟨.ref s.heap.objs.size,_,I.laid (o:=.tup [.str (Txt.partition c y).1,.str (Txt.partition c y).2.1,.str (Txt.partition c y).2.2]) (λb Y q=>zW _ q) (zY _) ⟨by show 3<=sizeLine;decide,_,.cons ⟨p,rfl⟩ (.cons ⟨l,rfl⟩ (.cons ⟨n,rfl⟩ .nil)),.new _ _⟩,rfl,Ue P g q _ (I.SA.fresh (zY _))⟩
   refine call_meets F.slot_str_partition (typeIs_str _ _ _) F.entry_str_partition (F.args_str_partition_2 _ _) (meets_str_partition c y t M (by simpa using B.1) (MG B.2)) ?_;clear g
   revert e
   clear q;unfold Txt.partition;cases zd c y 0 c.length 1 with
   |_=>intro e;exact e _ _ _ _
  exact q.elim
 exact q.elim
noncomputable def Cr(o:D)(ds:List D)(G:DH):R D:=match o,ds with
 |.str x,[.str y]=>if y.length≠0/\x.length<=1000000 then .ok (.ref G.length) (G++[.lst ((Txt.split x y).map D.str)])else .bad
 |_,_=>.bad
theorem bE:∀(l:List (Str×Tok)),Vals ((l.map (·.1)).map V.str) (strValues l)
 |[]=>.nil
 |a::l=>.cons ⟨a.2,rfl⟩ (bE l)
theorem Vh:∀(l:List Str),KA a (l.map D.str) (l.map V.str)
 |[]=>.nil
 |x::l=>.cons (rfl) (Vh l)
def m_split:II X "str.split" (QL X.K E Cr):=λvG s σ H x xs v us Q I rx rs h=>by
 obtain⟨a,G,d,ds,hk,rfl,sm,rd,r,q⟩:=h;unfold Cr at q;split at q
 .rename_i x' y;obtain⟨w,rfl,KL⟩:=YB r;cases(rd);cases(KL);obtain⟨t,rfl⟩:=rx;obtain⟨u,rfl,u',rfl⟩:=vals1 rs;split at q
  .rename_i hl;have hy:(y.length==0)=uX:=by simpa using hl.1
   have LK:(Txt.split x' y).length<=sizeLine:=zy (zy (split_le x' y) (Nat.add_le_add_right hl.2 2)) (by decide)
   have key:∀(l:List (Str×Tok))(k:Nat),l.map (·.1)=Txt.split x' y->EP X vG σ Q (.ref s.heap.objs.size) {s with toks:=k,heap:=s.heap.push {cls:=.type "list",data:=.seq (strValues l).toArray}}:=λl k e=>
    ⟨.ref s.heap.objs.size,_,I.laid (o:=.lst ((Txt.split x' y).map V.str)) (λb ob q=>zW _ q) (zY _) ⟨by rw[zV];exact LK,_,0,by rw[<-e];exact bE l,z9 _ rfl⟩,rfl,Lf sm (Vh _) q _ (I.SA.fresh (zY _))⟩
   cases h1:(decide (x'.length<y.length)||decide (zc x'<zc y))
   .cases hf:(zd x' y 0 x'.length (x'.length+1)).isEmpty
    .have e:Txt.split x' y=ji x' (zd x' y 0 x'.length (x'.length+1)) y.length:=(if_neg (ne_true_of_eq_false h1)).trans (if_neg (ne_true_of_eq_false hf));refine call_meets F.slot_str_split (typeIs_str _ _ _) F.entry_str_split (F.args_str_split_2 _ _) (meets_str_split_sep x' y t u' h1 hy hf (MG hl.2) (by rw[<-e];exact LK)) ?_;rw[strsFrom_eq];exact key (numbered s.toks _) _ ((numbered_texts _ _).trans e.symm)
    exact call_meets F.slot_str_split (typeIs_str _ _ _) F.entry_str_split (F.args_str_split_2 _ _) (meets_str_split_not_found x' y t u' h1 hy hf) (key [(x',t)] s.toks ((if_neg (ne_true_of_eq_false h1)).trans (if_pos hf)).symm)
   exact call_meets F.slot_str_split (typeIs_str _ _ _) F.entry_str_split (F.args_str_split_2 _ _) (meets_str_split_cannot_occur x' y t u' h1) (key [(x',t)] s.toks (if_pos h1).symm)
  exact q.elim
 exact q.elim
def ZP(K:za)(mg:Str->Option xB)(n:Str)(ss:List Str):Prop:=∃(p:xz)(o:Obj)(LA:Array xB)(k:Nat),mg n=uQ (.ref p)/\K.lookup p=uQ o/\o.cls=.type "tuple"/\o.data=.seq LA k/\LA.size<=sizeLine/\Vals (ss.map V.str) LA.toList
def tT{K:za}{h:Heap}{b:Str->Option xB}{n:Str}{p:xz}{od:Option xz}{c:Array (Option xB)}{k:Nat}{LA:List xB}{ss:List Str}(e:K.In h)(G:h.Ns xT b)(a:zb K xT n=uQ (uQ (.ref p)))
  (l:K.lookup p=uQ ⟨.type "tuple",od,.seq LA.toArray k,c⟩) (d:LA.length<=1000) (v:Vals (ss.map V.str) LA):ZP K b n ss:=
 ⟨p,_,LA.toArray,k,PySem.W.mg_of e G a,l,rfl,rfl,by rw[zj];exact zy d (by decide),by simpa using v⟩
def tU(e:Gl X x)(h:ZP X.K X.mg x ss)(l:(x==("__debug__":Str))=uX:=by decide):QE X E (.Name x pos) (dC (.tup (ss.map D.str))):=by obtain⟨p,o,b,k,c,f,i,j,m,d⟩:=h;exact ae (v:=.ref p) e c rfl (λa g=>⟨p,ss.map V.str,rfl,.inr ⟨o,b,k,g▸f,i,j,m,d⟩,Vh ss⟩) l
end
structure KS (X:Cx) (vG:List (xz×Obj)) (σ:St) (D kS:xz) (e1:Nat) (m:Str->Option xB) (a b:Wd) (G:DH) (ks:List xB) (kz:List Int) (e:Nat) (s:x9):Prop where
 inv:Inv X vG σ b.H s
 ext:Ext a b
 sim:QB b G
 ns:s.heap.Ns X.env.locals m
 k:s.heap.get? kS=uQ (seqObj "list" ks.toArray e)
 d:s.heap.get? D=uQ (seqObj "list" #[] e1)
 fk:SD X vG b.H kS
 fd:SD X vG b.H D
 ne:D≠kS
 dge:X.s₀.heap.objs.size<=D
 iz:IntsAre ks kz
section
variable{X:Cx}{vG:List (xz×Obj)}{σ:St}{N:List Str}{scope:x2}{caps:List Nat}{x:Str}{f:xz}{A:xj}{a:Wd}{S:ZB}{body:xw}{te:DE}{params:Arguments}{pm A?:xB}{c':xz}{ob oc:Obj}{B?:Array xB}{t0:Tok}{E:XK}
 {Dd kS:xz} {e1:Nat} {m:Str->Option xB} {h₀:Heap} {Q:VK}
end
section
variable{X:Cx}{vG:List (xz×Obj)}{σ:St}{N:List Str}{scope:x2}{caps:List Nat}{x:Str}{f:xz}{A:xj}{a:Wd}{S:ZB}{body:xw}{te:DE}{params:Arguments}{pm A?:xB}{c':xz}{ob oc:Obj}{B?:Array xB}{t0:Tok}
 {Dd kS:xz} {e1:Nat} {m:Str->Option xB} {h₀:Heap} {Q:VK}
end
end _D
namespace _D
open PySem PySem.W _L
theorem fo:∀{l:List Obj}{n:Nat},(O5 l n).lookup a=uQ o->n<=a/\l[a-n]?=uQ o/\∀x y z,o≠⟨x,y,.freed,z⟩
 |[],n,h=>by cases h
 | p::r,n,h=>by
  have next:(O5 r (n+1)).lookup a=uQ o->n<=a/\(p::r)[a-n]?=uQ o/\∀x y z,o≠⟨x,y,.freed,z⟩:=λh=>by obtain⟨b,c,f⟩:=fo h;obtain⟨k,rfl⟩:=Nat.exists_eq_add_of_le b;rw[Nat.add_sub_cancel_left]at c;refine⟨zy (jy n) b,?_,f⟩;rw[show n+1+k-n=k+1 by rw[Nat.add_assoc,Nat.add_sub_cancel_left,Nat.add_comm],jT];exact c
  unfold O5 at h;split at h
  .exact next h
  .exact next h
  rename_i g i;rw[jk]at h;split at h
  .rename_i e;have d:a=n:=by simpa using e
   subst d;cases h;refine⟨zY _,by simp,λx y z q=>?_⟩;subst q;exact g rfl
  exact next h
def tV(h:Heap):(Uk h).In h:=λa o e=>by
 obtain⟨_,c,d⟩:=fo e;have b:h.objs[a]?=uQ o:=by simpa using c
 unfold Heap.get?;rw[b];split
 .rename_i q;cases q;exact absurd rfl (d _ _ _)
 rfl
noncomputable def Ks(p:x0)(N:Nat)(w:xC):Heap:=match openEnds vV p w N with
 |some s=>s.heap
 |none=>default
def OI(p:x0)(N:Nat)(w:xC)(h:Heap):Prop:=∀b o,(Ks p N w).get? b=uQ o->h.get? b=uQ o
def OI.in(x:OI p N w h):(Uk (Ks p N w)).In h:=λa o e=>x a o (tV _ a o e)
def Vj(p:x0)(N:Nat):Hook:=
 ⟨Heap,λs=>s.heap,Ks p N,OI p N,λw s e b o q=>by rw[show s.heap=Ks p N w from e];exact q,λw h h' x k b o q=>k b o (x b o q)⟩
section
variable{p q:x0}{loose:List Str}{Xt:x9->Bool}{N:Nat}{β:Type}{see:Heap->β}{val:β}
def tW(E:∀w,(openEnds vV p w N).map (λs=>(openSeen q loose (xP p.main.body) Xt uJ s,see s.heap))=uQ (openGood q loose,val)):
  LeftO p q loose Xt (Vj p N).obs (Vj p N).val N:=λw=>by
 obtain⟨s,b,a⟩:=zA.mp (E w);show Option.map _ _=uQ (openGood q loose,Ks p N w);unfold Ks;rw[b];show uQ (openSeen q loose (xP p.main.body) Xt uJ s,s.heap)=_;rw[(Prod.mk.inj a).1]
def tX(E:∀w,(openEnds vV p w N).map (λs=>(openSeen q loose (xP p.main.body) Xt uJ s,see s.heap))=uQ (openGood q loose,val))(w:xC):see (Ks p N w)=val:=by obtain⟨s,b,a⟩:=zA.mp (E w);unfold Ks;rw[b];exact(Prod.mk.inj a).2
end
def holds_top{l:OpenLaw}{q:x0}{loose:List Str}{N:Nat}{b:Type}{see:Heap->b}{val:b}{d:DefRec}(well:l.wellSaid=uJ)
  (E:∀w,(openEnds vV l.prog w N).map (λs=>(openSeen q loose (xP l.prog.main.body) (XO l q) uJ s,see s.heap))=uQ (openGood q loose,val))
  (PR:defOf q l.row.name=uQ (d,[])) (hp:l.row.prog.theDef l.row.name=uQ (d.params,d.body,d.scope)) (hk:kwWritten? d.params.kwonlyargs d.params.kw_defaults=uQ []) (a:(!l.row.writes||l.row.records.isEmpty)=uJ)
  (ok:(chainsOk q&&opensWell l.row.prog&&(frees l.row.toRowW&&l.row.within.isEmpty))=uJ) (c:l.row.prog.bare) (hw:l.row.toRowW.promised)
  (call:WalkO q loose (XL q []) (OI l.prog N) l.row.toRowW d [] λf vs=>jh f vs):l.Holds:=
 holds_law well λRT=>holds_open (tW E) (Vj l.prog N).of (Vj l.prog N).keeps
  (λs e=>xl_of s (qC.mp e).1) XL.keeps PR hp hk (λs e=>recFacts_of (qC.mp e).2) a RT ok c hw call
def Iu(h:LM K n=uJ):nsIn K xT n=uQ (uQ (.ref (Ac K n))):=by
 unfold LM at h;unfold Ac;split at h
 .rename_i e;rw[e]
 cases h
def fq(h:YY K C m=uJ):findIn K (.ref C) m=uQ (uQ (.ref (Bq K C m)))/\isFn K (.ref (Bq K C m))=uJ:=by
 unfold YY at h;unfold Bq;split at h
 .rename_i e;rw[e];exact⟨rfl,h⟩
 cases h
def fu(h:HY K C m=uJ):findIn K (.ref C) m=uQ uZ:=by
 unfold HY at h;split at h
 .assumption
 cases h
def tY(h:ZY K n=uJ):nsIn K xT n=uQ uZ:=by
 unfold ZY at h;split at h
 .assumption
 cases h
def fv(h:Vz K C=uJ):findIn K (.ref C) "__setattr__"=uQ (uQ (.builtin "object.__setattr__")):=by
 unfold Vz at h;split at h
 .rename_i e;rw[e,beq_iff_eq.mp h]
 cases h
noncomputable def M5(K:vE)(n:Str):Tok:=match nsIn K xT n with
 |some (uQ (.int _ t))=>t
 |some (uQ (.str _ t))=>t
 |_=>0
def tZ(h:HZ K n v=uJ):nsIn K xT n=uQ (uQ (.int v (M5 K n))):=by
 unfold HZ at h;unfold M5;split at h
 .rename_i e;rw[e,of_decide_eq_true h]
 cases h
def t4(h:IZ K n v=uJ):nsIn K xT n=uQ (uQ (.str v (M5 K n))):=by
 unfold IZ at h;unfold M5;split at h
 .rename_i e;rw[e,of_decide_eq_true h]
 cases h
abbrev NG(K:vE)(x q:Str)(st:xA)(f:xz):Prop:=
 K.lookup f=uQ ⟨(Hm K f).cls,(Hm K f).dict,.func (fnOf x q (G9 st) (Dp st) (Ba st) .none (Bb K f).kwdefaults (Bb K f).doc (Bb K f).pyModule (Bb K f).annotations (Bb K f).code (Bb K f).closureTuple),(Hm K f).slots⟩/\
  codeIn K (Bb K f).code q=uJ/\keepIn K (.ref f)=uJ
def fw(h:Uu K x q f=uJ)(t:Mw K f=N6 st):NG K x q st f:=by
 unfold Uu at h;split at h
 .rename_i j l a i e;have k:Hm K f=⟨j,l,.func a,i⟩:=by unfold Hm;rw[e]
  have m:Bb K f=a:=by unfold Bb;rw[k]
  unfold Mw N6 at t;rw[m]at t;obtain⟨E,b⟩:=Prod.mk.inj t;obtain⟨b,C⟩:=Prod.mk.inj b;simp[zq,decide_eq_true_eq,beq_iff_eq,jF]at h;obtain⟨⟨⟨s,n⟩,⟨⟨B,y⟩,o⟩,g⟩,u,v⟩:=h;unfold NG;rw[m,k,e];refine⟨?_,u,v⟩;have d:a.defaults=.none:=by
   revert g
   generalize a.defaults=A;intro g
   cases A<;>first|rfl|cases g
  have w:a.body=.stmts (Dp st):=by
   revert b
   generalize a.body=r;intro b
   cases r<;>first|(cases b;rfl)|(cases b)
  have c:a=fnOf x q (G9 st) (Dp st) (Ba st) .none a.kwdefaults a.doc a.pyModule a.annotations a.code a.closureTuple:=by show FuncData.mk a.name a.qualname a.params a.body a.scope a.globals a.closure a.defaults a.kwdefaults a.doc a.pyModule a.annotations a.code a.closureTuple a.builtins=_;rw[s,n,E,w,C,B,o,d,y]
  exact congrArg (λz=>uQ (Obj.mk j l (.func z) i)) c
 cases h
abbrev PN(K:vE)(d:xB)(v:Int):Prop:=∃T o t n,d=.ref T/\K.lookup T=uQ o/\o.data=.seq #[.int v t] n
def t5(h:JZ K d v=uJ):PN K d v:=by
 unfold JZ at h;split at h
 .rename_i T;split at h
  .rename_i o e;split at h
   .rename_i a n b;split at h
    .rename_i i t c;cases of_decide_eq_true h;refine⟨T,o,t,n,rfl,e,?_⟩;rw[b]
     congr 1
     rw[<-Array.toList_inj,c]
    cases h
   cases h
  cases h
 cases h
abbrev UH(K:vE)(x q:Str)(st:xA)(f:xz)(v:Int):Prop:=
 K.lookup f=uQ ⟨(Hm K f).cls,(Hm K f).dict,.func (fnOf x q (G9 st) (Dp st) (Ba st) (Bb K f).defaults (Bb K f).kwdefaults (Bb K f).doc (Bb K f).pyModule (Bb K f).annotations (Bb K f).code (Bb K f).closureTuple),(Hm K f).slots⟩/\
  codeIn K (Bb K f).code q=uJ/\keepIn K (.ref f)=uJ/\PN K (Bb K f).defaults v
def t6(h:aE K x q f v=uJ)(t:Mw K f=N6 st):UH K x q st f v:=by
 unfold aE at h;split at h
 .rename_i g j a d e;have i:Hm K f=⟨g,j,.func a,d⟩:=by unfold Hm;rw[e]
  have k:Bb K f=a:=by unfold Bb;rw[i]
  unfold Mw N6 at t;rw[k]at t;obtain⟨C,b⟩:=Prod.mk.inj t;obtain⟨b,B⟩:=Prod.mk.inj b;simp[zq,decide_eq_true_eq,beq_iff_eq,jF]at h;obtain⟨⟨⟨o,l⟩,⟨⟨A,w⟩,m⟩,y⟩,r,s⟩:=h;unfold UH;rw[k,i,e];refine⟨?_,r,s,t5 y⟩;have u:a.body=.stmts (Dp st):=by
   revert b
   generalize a.body=n;intro b
   cases n<;>first|(cases b;rfl)|(cases b)
  have c:a=fnOf x q (G9 st) (Dp st) (Ba st) a.defaults a.kwdefaults a.doc a.pyModule a.annotations a.code a.closureTuple:=by show FuncData.mk a.name a.qualname a.params a.body a.scope a.globals a.closure a.defaults a.kwdefaults a.doc a.pyModule a.annotations a.code a.closureTuple a.builtins=_;rw[o,l,C,u,B,A,m,w]
  exact congrArg (λz=>uQ (Obj.mk g j (.func z) d)) c
 cases h
theorem W6:∀{l:List xB}{ss:List Str},strsOf l=uQ ss->Vals (ss.map V.str) l
 |[],ss,h=>by cases h;exact .nil
 |v::r,ss,h=>by
  unfold strsOf at h;split at h
  .rename_i q;cases q
  .rename_i s t c q;cases q;obtain⟨a,b,rfl⟩:=zA.mp h;exact .cons ⟨_,rfl⟩ (W6 b)
  cases h
abbrev WJ(K:vE)(n:Str)(vs:List Str):Prop:=∃(p:xz)(od:Option xz)(sl:Array (Option xB))(k:Nat)(LA:List xB),nsIn K xT n=uQ (uQ (.ref p))/\K.lookup p=uQ ⟨.type "tuple",od,.seq LA.toArray k,sl⟩/\LA.length<=1000/\Vals (vs.map V.str) LA
def t7(h:Z7 K n vs=uJ):WJ K n vs:=by
 unfold Z7 at h;split at h
 .rename_i p e;split at h
  .rename_i t c a k b g;simp only[zq,beq_iff_eq,decide_eq_true_eq]at h;obtain⟨⟨rfl,d⟩,f⟩:=h;exact⟨p,c,b,k,a.toList,e,by rw[g],jW f,W6 d⟩
  cases h
 cases h
def t8(X:K.In h)(G:h.Ns xT mg)(s:WJ K n vs):ZP K mg n vs:=by obtain⟨p,g,f,k,b,a,c,d,e⟩:=s;exact tT X G a c d e
abbrev QN(K:vE)(n:Str)(LD:List (Str×Str)):Prop:=∃(p:xz)(od:Option xz)(sl:Array (Option xB))(k:Nat)(es:Array DictEntry),nsIn K xT n=uQ (uQ (.ref p))/\K.lookup p=uQ ⟨.type "dict",od,.dict es k,sl⟩/\(p==sysModules)=uX/\Vals ((LD.map (·.1)).map V.str) (es.toList.map (·.key))/\Vals ((LD.map (·.2)).map V.str) (es.toList.map (·.val))
def t9(h:aF K n LD=uJ):QN K n LD:=by
 unfold aF at h;split at h
 .rename_i p e;split at h
  .rename_i t b f k a i;simp only[zq,beq_iff_eq,decide_eq_true_eq,Bool.not_eq_true']at h;obtain⟨⟨⟨rfl,c⟩,d⟩,g⟩:=h;exact⟨p,b,a,k,f,e,by rw[i],c,W6 d,W6 g⟩
  cases h
 cases h
def Ask.RI(K:vE):Ask->Prop
 |.fn n st=>nsIn K xT n=uQ (uQ (.ref (Ac K n)))/\NG K n n st (Ac K n)
 |.mt c m q st=>findIn K (.ref (Ac K c)) m=uQ (uQ (.ref (Bq K (Ac K c) m)))/\isFn K (.ref (Bq K (Ac K c) m))=uJ/\NG K m q st (Bq K (Ac K c) m)
 | .cl c=>nsIn K xT c=uQ (uQ (.ref (Ac K c)))/\plainGet K (Ac K c) Str.empty=uJ/\hasDictIn K (Ac K c)=uJ/\plainOver K (Ac K c)=uJ/\
   findIn K (.ref (Ac K c)) "__setattr__"=uQ (uQ (.builtin "object.__setattr__"))/\makesIn K (Ac K c)=uJ/\keepIn K (.ref (Ac K c))=uJ
 |.no c x=>findIn K (.ref (Ac K c)) x=uQ uZ
 |.z n=>nsIn K xT n=uQ uZ
 |.gi n v=>nsIn K xT n=uQ (uQ (.int v (M5 K n)))
 |.gs n v=>nsIn K xT n=uQ (uQ (.str v (M5 K n)))
 |.gt n vs=>WJ K n vs
 |.gd n LD=>QN K n LD
 |.ck φ=>φ K=uJ
 |.fd n st v=>nsIn K xT n=uQ (uQ (.ref (Ac K n)))/\UH K n n st (Ac K n) v
theorem Ask.RT:∀{a:Ask},a.IY K=uJ->a.XA K=a.MR->a.RI K
 |.fn n e,h,t=>by obtain⟨b,d⟩:=qC.mp h;exact⟨Iu b,fw d (xv t)⟩
 |.mt c m q e,h,t=>by obtain⟨b,d⟩:=qC.mp h;exact⟨(fq b).1,(fq b).2,fw d (xv t)⟩
 |.cl c,h,_=>by simp[Ask.IY,zq]at h;obtain⟨⟨b,⟨d,j⟩,k⟩,⟨l,g⟩,i⟩:=h;exact⟨Iu b,d,j,k,fv l,g,i⟩
 |.no c x,h,_=>fu h
 |.z n,h,_=>tY h
 |.gi n v,h,_=>tZ h
 |.gs n v,h,_=>t4 h
 |.gt n o,h,_=>t7 h
 |.gd n f,h,_=>t9 h
 |.ck _,h,_=>h
 |.fd n e v,h,t=>by obtain⟨b,d⟩:=qC.mp h;exact⟨Iu b,t6 d (xv t)⟩
def JF(K:vE):List Ask->Prop
 |[]=>True
 |a::r=>a.RI K/\JF K r
theorem fx:∀{l:List Ask},(l.all (Ask.IY K),l.map (Ask.XA K))=(uJ,l.map Ask.MR)->JF K l
 |[],_=>trivial
 |a::r,h=>by obtain⟨b,c⟩:=Prod.mk.inj h;rw[j5]at b;obtain⟨e,f⟩:=qC.mp b;rw[zJ,zJ]at c;obtain⟨g,d⟩:=cj c;exact⟨Ask.RT e g,fx (by rw[f,d])⟩
def tf(F:OM K x q st f fd)
  (h:∀(kV b g:xB)(e:Option xz)(c d:xB)(u:xB),bindArgs (fnOf x q (G9 st) (Dp st) (Ba st) .none kV b g e c d) ⟨[u],[]⟩=pure [(a,u)]):BindsTo s fd ⟨[v],[]⟩ [(a,v)]:=by
 obtain⟨l,k,kV,b,g,e,c,d,j,rfl,m,i⟩:=F.ex;exact .of_eq (h kV b g e c d v)
theorem fy:∀{n:Nat}{s s':SharedT}{t:Thread},Y4 p w n₀ ann n s t=uQ s'->topRun vV p w n₀ ann n s.abs t=uQ s'.abs
 |0,_,_,_,h=>by cases h
 | n+1,s,s',t,h=>by
  unfold Y4 at h;unfold topRun;rw[<-PySem.W.Fast.te6613529449190102663,<-PySem.W.Fast.te10156331382660048174,<-PySem.W.Fast.te11892475500146522536,<-PySem.W.Fast.te14364793385576792824]at h;cases b:through t with
  |true=>
   rw[b]at h;cases h
   rfl
  | false=>
   rw[b]at h;dsimp only at h⊢;cases a:stepOk n₀ ann t with
   |false=>rw[a]at h;cases h
   |true=>
    rw[a]at h;dsimp only at h⊢;split at h
    .rename_i c d e;rw[stepT_spec e];exact fy h
    cases h
def boot_abs:∀w a,(cy w a).abs=⟨vF w.params,Array.mk [],boot_drawn,boot_toks,a⟩:=λw a=>by kernel_rfl
def tj:∀w:xC,((vF w.params).isNs xT&&(Array.mk []:Array GenState).size==0)=uJ:=λw=>by kernel_rfl
def tm{p q:x0}{loose:List Str}{Xt:x9->Bool}{i:Type}{see:Heap->i}{val:i}(e:opening p=plainProg p.main.scope.names)(f:∀s,fenceModules? p s=uQ s)
  (R:∀w a,(aA p w a).map (λs=>(aD p w s.abs,tu q loose (sj p.main.body) Xt uJ s.abs,see s.abs.heap))=uQ (uJ,openGood q loose,val)):
  ∀w,(openEnds vV p w 100000).map (λs=>(openSeen q loose (xP p.main.body) Xt uJ s,see s.heap))=uQ (openGood q loose,val):=λw=>by
 obtain⟨⟨h,o,d,k,a⟩,n,j⟩:=zA.mp (boot_open (N:=100000) e rfl f w);obtain⟨rfl,rfl,rfl,rfl⟩:h=vF w.params/\o=Array.mk []/\d=boot_drawn/\k=boot_toks:=by simpa using j
 obtain⟨s,g,l⟩:=zA.mp (R w a);obtain⟨c,b⟩:=Prod.mk.inj l;obtain⟨b,m⟩:=Prod.mk.inj b;unfold aA at g;have r:=fy g;rw[boot_abs,<-PySem.W.Fast.te8920871248978507458]at r;rw[<-PySem.W.Fast.te4187177175401517315,<-PySem.W.Fast.te5923862056798008813]at b;unfold aD at c;rw[<-PySem.W.Fast.te5923862056798008813]at c;have t:topFrom vV p w 100000 ⟨vF w.params,.mk [],boot_drawn,boot_toks,a⟩=uQ s.abs:=by
  unfold topFrom;dsimp only;rw[tj,r]
  show(match staticsOk (xP p.main.body) (vF w.params) s.abs.heap&&namesBound p s.abs.heap&&gensDone s.abs&&laidKept (vF w.params) s.abs.heap with |true=>_|false=>_)=_
  rw[c]
 unfold openEnds;rw[n];show(topFrom vV p w 100000 _).map _=_;rw[t];exact congrArg uQ (Prod.ext b m)
structure FT (K:vE) (mg:Str->Option xB) (n:Str) (st:xA) (ps:List Str):Prop where
 F:OM K n n st (Ac K n) (Bb K (Ac K n))
 b:Binds K (Bb K (Ac K n)) ps []
 m:mg n=uQ (.ref (Ac K n))
 k:keepIn K (.ref (Ac K n))=uJ
structure MT (K:vE) (c m q:Str) (st:xA) (ps:List Str):Prop where
 F:OM K m q st (Bq K (Ac K c) m) (Bb K (Bq K (Ac K c) m))
 b:Binds K (Bb K (Bq K (Ac K c) m)) ps []
 me:O0 K (Ac K c) m (Bq K (Ac K c) m)
def Xm(s:NG K x q st f):OM K x q st f (Bb K f):=by
 have e:Bb K f=fnOf x q (G9 st) (Dp st) (Ba st) .none (Bb K f).kwdefaults (Bb K f).doc (Bb K f).pyModule (Bb K f).annotations (Bb K f).code (Bb K f).closureTuple:=by conv=>lhs;unfold Bb Hm;rw[s.1]
 exact⟨⟨_,_,_,_,_,_,_,_,_,e,by rw[e];exact s.1,s.2.1⟩,s.2.2⟩
def tq(X:K.In h)(G:h.Ns xT mg)(s:Ask.RI K (.fn n st))
  (d:∀(kV a f:xB)(e:Option xz)(b c:xB)(us:List xB),us.length=ps.length->bindArgs (fnOf n n (G9 st) (Dp st) (Ba st) .none kV a f e b c) ⟨us,[]⟩=pure (ps.zip us)):FT K mg n st ps:=
 ⟨Xm s.2,(Xm s.2).binds d,mg_of X G s.1,s.2.2.2⟩
def tw(s:Ask.RI K (.mt c m q st))
  (e:∀(kV a g:xB)(f:Option xz)(b d:xB)(us:List xB),us.length=ps.length->bindArgs (fnOf m q (G9 st) (Dp st) (Ba st) .none kV a g f b d) ⟨us,[]⟩=pure (ps.zip us)):MT K c m q st ps:=
 ⟨Xm s.2.2,(Xm s.2.2).binds e,s.1,s.2.1,s.2.2.2.2⟩
abbrev Pm(P:x0)(w:xC)(K:vE)(mg:Str->Option xB)(base:Heap)(k:Nat)(n:Str)(ps:List Str)(F:List D->DH->R D):Prop:=KC P w K mg base WG k (Ac K n) (Bb K (Ac K n)) ps (lF K F)
def uA(F:OM K x q st f fd)
  (h:∀(kV b g:xB)(e:Option xz)(c d:xB)(u:xB),bindArgs (fnOf x q (G9 st) (Dp st) (Ba st) .none kV b g e c d) ⟨[u],[]⟩=pure [(a,u)]:=by intros;rfl):BindsTo s fd ⟨[v],[]⟩ [(a,v)]:=tf F h
end _D
namespace _D
open PySem PySem.Spec _L
open PyProof.Rows hiding St
variable{qual:Str}
noncomputable def Dj:D->Option V
 |.int i=>uQ (.int i)
 |.str x=>uQ (.str x)
 |_=>uZ
def Vd{X:Cx}{k j:Nat}{n:Str}{st:xA}{ps:List Str}{F:List D->DH->R D}{p pos:Pos}{e:xw}{es:List xw}{tr:DA}(c:Pm X.prog X.w X.K X.mg X.base k n ps F)(T:FT X.K X.mg n st ps)(i:TB j X.A)(g:QA X E0 (e::es) tr)
  (d:k<=j:=by decide) (f:Gl X n:=by exact rfl) (h:(n==("__debug__":Str))=uX:=by decide) (l:notStar e=uJ:=by exact rfl) (hp:es.all notStar=uJ:=by exact rfl):QE X E0 (.Call (.Name n p) (e::es) [] pos) (JA F tr):=
 pO c (i.mono d) f T.m T.k T.b TV g h l hp
def uB:(Obj.mapFields f o).dict=o.dict:=by
 obtain⟨c,d,a,b⟩:=o;unfold Obj.mapFields
 cases a<;>rfl
def SK(h B:Heap)(e:xz)(cls:xB)(od:Option xz)(fl:xB):Prop:=
 ∃oe vs T oT ts,h.get? e=uQ oe/\(oe.cls=cls/\oe.dict=od)/\oe.data=.fields vs/\vs[1]?=uQ (.ref T)/\(B.get? T=uZ/\T≠e)/\h.get? T=uQ oT/\oT.data=.fields ts/\ts[3]?=uQ fl
structure LC (B:Heap) (l:List Env) (e:xz) (cls:xB) (od:Option xz) (fl:xB) (h h':Heap):Prop where
 st:B.StaysIn h'
 fr:h'.FunFrames B l
 tr:SK h' B e cls od fl
 up:∀b o,h.get? b=uQ o->(∀vs,o.data≠ .fields vs)->∃sl,h'.get? b=uQ {o with slots:=sl}
 th:∀b o,h.get? b=uQ o->∃o',h'.get? b=uQ o'
section
variable{M:Model}{A:xj}{E:xB->x9->Prop}{s:x9}{B:Heap}{env:Env}{outer:List Env}{L e:xz}{oe:Obj}{vs:Array xB}{head:xB}{hn:Bool}{Q:Unit->x9->Prop}
def bF(fr:A.frames=uQ (env::outer))(p:s.heap.FunFrames B (env::outer))(J:env.frame=uQ L)(u:s.heap.get? e=uQ oe)(hk:B.StaysIn s.heap)(K:B.get? e=uZ)(m:oe.data=.fields vs)(hz:1<vs.size)
  (q:∀h',LC B (env::outer) e oe.cls oe.dict (vQ L) s.heap h'->Q () {s with heap:=h'}):
  vW M A (do let a<-frameOf env;let pl<-entryPlaceOf L hn;let b<-EntryCells.newEntry head a .none (vQ L) .none pl;setField (.ref e) 1 b) Q E s:=by
 have N:e∉(env::outer).filterMap (·.frame):=λv=>by obtain⟨_,o,F,l⟩:=p.mem v;rw[u]at F;cases F;exact l vs m
 refine vY (wpAny_frameOf_fun fr p J λh k=>?_);refine vY (wpAny_entryPlaceOf λpl hp=>?_);unfold EntryCells.newEntry newFields;refine vY (vy ?_ (hp.sizeOk5 _ _ _ _ _));generalize w:({cls:=.type "traceback",dict:=uZ,data:=.fields ([head,.ref L,.none,vQ L,.none]++(if pl.isEmpty then qQ 6 Value.none else pl)).toArray}:Obj)=O;have t:O.data=.fields ([head,.ref L,.none,vQ L,.none]++(if pl.isEmpty then qQ 6 Value.none else pl)).toArray:=by rw[<-w]
 have C:=(k.2.1 e N).trans u;have H:B.StaysIn h:=λb o f=>(k.2.1 b λv=>by rw[(p.mem v).1]at f;cases f).trans (hk b o f)
 have y:=zW O C;refine wpAny_setField y m hz (q _ ?_);have j:=jD (zx C)
 have I:=Obj.data_mapFields m (·.setIfInBounds 1 (.ref h.objs.size))
 have x:=qz (.mapFields (·.setIfInBounds 1 (.ref h.objs.size))) y (Obj.isFreed_of_fields I)
 have P:=(qq (h.push O) (.mapFields (·.setIfInBounds 1 (.ref h.objs.size))) (.symm j)).trans (z9 h (by rw[<-w];rfl))
 have g:∀b o,b≠e->h.get? b=uQ o->((h.push O).update e (.mapFields (·.setIfInBounds 1 (.ref h.objs.size)))).get? b=uQ o:=λb o n c=>by rw[qq _ _ (.symm n)];exact zW _ c
 have l:∀b o,s.heap.get? b=uQ o->(∀vs,o.data≠ .fields vs)->b≠e:=λb o c n z=>by rw[z,u]at c;cases c;exact n vs m
 refine⟨λb o f=>g b o (λz=>by rw[z,K]at f;cases f) (H b o f),p.of_keeps λb o c n=>?_,⟨_,_,h.objs.size,_,_,x,⟨Obj.cls_mapFields _ _,uB⟩,I,by simp[hz],⟨H.fresh,j⟩,P,t,by simp⟩,λb o c n=>?_,λb o c=>?_⟩
 .obtain⟨r,i⟩:=k.2.2 b o c;exact⟨_,g b _ (l b o c n) i,rfl⟩
 .obtain⟨r,i⟩:=k.2.2 b o c;exact⟨r,g b _ (l b o c n) i⟩
 obtain⟨r,i⟩:=k.2.2 b o c;by_cases z:b=e
 .subst z;exact⟨_,x⟩
 exact⟨_,g b _ z i⟩
def uC(fr:A.frames=uQ (env::outer))(g:s.heap.FunFrames B (env::outer))(d:env.frame=uQ L)(f:s.heap.get? e=uQ oe)(hk:B.StaysIn s.heap)(h:B.get? e=uZ)(c:oe.data=.fields vs)(b:vs[1]?=uQ .none)
  (q:∀h',LC B (env::outer) e oe.cls oe.dict (vQ L) s.heap h'->Q () {s with heap:=h'}):vW M A (noteFrame (.ref e) env) Q E s:=by
 unfold noteFrame;simp only[d];refine vY (vj f c b ?_);rw[if_neg (by decide)];exact bF fr g d f hk h c (zM.mp b).1 q
def gA(fr:A.frames=uQ (env::outer))(y:s.heap.FunFrames B (env::outer))(k:env.frame=uQ L)(C:SK s.heap B e cls od .none)(hk:B.StaysIn s.heap)(v:B.get? e=uZ)
  (q:∀h',LC B (env::outer) e cls od (vQ L) s.heap h'->Q () {s with heap:=h'}):vW M A (noteFrame (.ref e) env) Q E s:=by
 obtain⟨H,r,T,F,w,p,⟨rfl,rfl⟩,t,m,⟨x,i⟩,h,g,u⟩:=C;unfold noteFrame;simp only[k];refine vY (vj p t m ?_);rw[if_pos (by simp)];refine vY (vj h g u ?_);rw[if_neg (by simp[vQ])];refine vY (wpAny_setField h g (zM.mp u).1 ?_)
 have d:∀b,b≠T->(s.heap.update T (.mapFields (·.setIfInBounds 3 Value.none))).get? b=s.heap.get? b:=λb n=>qq _ _ (.symm n)
 have l:∀b o,s.heap.get? b=uQ o->(∀r,o.data≠ .fields r)->b≠T:=λb o c n z=>by rw[z,h]at c;cases c;exact n w g
 refine bF fr (y.of_keeps λb o c n=>⟨o,(d b (l b o c n)).trans c,rfl⟩) k ((d e (.symm i)).trans p)
  (λb o f=>(d b λz=>by rw[z,x]at f;cases f).trans (hk b o f)) v t (zM.mp m).1
  λh' n=>q h' ⟨n.st,n.fr,n.tr,λb o c j=>n.up b o ((d b (l b o c j)).trans c) j,λb o c=>?_⟩
 by_cases z:b=T
 .subst z;exact n.th b _ (qz _ h (Obj.isFreed_of_fields (Obj.data_mapFields g _)))
 exact n.th b o ((d b z).trans c)
def Xa(F:s.heap.FunFrames B l)(H:SK s.heap B e cls od fl)(hk:B.StaysIn s.heap)
  (q:∀h',LC B l e cls od .none s.heap h'->Q () {s with heap:=h'}):vW M A (setFlight (.ref e) uZ) Q E s:=by
 obtain⟨C,p,T,I,y,u,⟨rfl,rfl⟩,v,t,⟨w,i⟩,m,k,x⟩:=H;unfold setFlight;refine vY (vj u v t ?_);rw[if_pos (by simp)];refine wpAny_setField m k (zM.mp x).1 (q _ ?_)
 have d:∀b,b≠T->(s.heap.update T (.mapFields (·.setIfInBounds 3 ((uZ:Option xz).elim Value.none λf=>vQ f)))).get? b=s.heap.get? b:=λb n=>qq _ _ (.symm n)
 have r:∀b o,s.heap.get? b=uQ o->(∀p,o.data≠ .fields p)->b≠T:=λb o c n z=>by rw[z,m]at c;cases c;exact n y k
 have j:=Obj.data_mapFields k (·.setIfInBounds 3 ((uZ:Option xz).elim Value.none λf=>vQ f))
 have h:=qz (.mapFields (·.setIfInBounds 3 ((uZ:Option xz).elim Value.none λf=>vQ f))) m (Obj.isFreed_of_fields j)
 refine⟨λb o g=>(d b λz=>by rw[z,w]at g;cases g).trans (hk b o g),F.of_keeps λb o c n=>⟨o,(d b (r b o c n)).trans c,rfl⟩,
  ⟨C,p,T,_,_,(d e (.symm i)).trans u,⟨rfl,rfl⟩,v,t,⟨w,i⟩,h,j,by simp[(zM.mp x).1]⟩,λb o c n=>⟨o.slots,(d b (r b o c n)).trans c⟩,λb o c=>?_⟩
 by_cases z:b=T
 .subst z;exact⟨_,h⟩
 exact⟨o,(d b z).trans c⟩
def LC.trans(x:LC B l e cls od f1 h1 h2)(y:LC B l e cls od f2 h2 h3):LC B l e cls od f2 h1 h3:=
 ⟨y.st,y.fr,y.tr,λb o a n=>by
  obtain⟨g,k⟩:=x.up b o a n;obtain⟨c,f⟩:=y.up b _ k n;exact⟨c,f⟩,λb o a=>by
  obtain⟨d,k⟩:=x.th b o a;exact y.th b d k⟩
def uD(fr:A.frames=uQ (env::outer))(c:s.heap.FunFrames B (env::outer))(i:env.frame=uQ L)(j:s.heap.get? e=uQ oe)(hk:B.StaysIn s.heap)(g:B.get? e=uZ)(h:oe.data=.fields vs)(d:vs[1]?=uQ .none)
  (q:∀h',LC B (env::outer) e oe.cls oe.dict .none s.heap h'->Q () {s with heap:=h'}):vW M A (leaving env (.ref e)) Q E s:=by
 unfold leaving;exact vY (uC fr c i j hk g h d λh' n=>Xa n.fr n.tr n.st λb f=>q b (n.trans f))
def uE(fr:A.frames=uQ (env::outer))(c:s.heap.FunFrames B (env::outer))(g:env.frame=uQ L)(h:SK s.heap B e cls od .none)(hk:B.StaysIn s.heap)(f:B.get? e=uZ)
  (q:∀h',LC B (env::outer) e cls od .none s.heap h'->Q () {s with heap:=h'}):vW M A (leaving env (.ref e)) Q E s:=by
 unfold leaving;exact vY (gA fr c g h hk f λh' n=>Xa n.fr n.tr n.st λb d=>q b (n.trans d))
end
structure Fly (B:Heap) (l:List Env) (e:xz) (cls:xB) (od:Option xz) (H':Hp) (h:Heap):Prop where
 st:B.StaysIn h
 fr:h.FunFrames B l
 tr:SK h B e cls od .none
 eb:B.get? e=uZ
 al:∀b,H' b≠uZ->∃o,B.get? b=uQ o
def OG(P:x0)(w:xC):IL:=λouter H s E e s'=>∃(ea:xz)(cls:xB)(od:Option xz)(H':Hp)(B:Heap),e=.ref ea/\s'.os=s.os/\AllBare s'.gens/\Un (YC outer) [] H H' s.heap s'.heap/\SE P w H' s'.heap/\
 Fly B outer ea cls od H' s'.heap/\(∀b o,s.heap.get? b=uQ o->H b=uZ->b∉YC outer->B.get? b=uQ o)/\s.heap.get? ea=uZ/\E cls od H'/\∃C,cls=.ref C
section
variable{X:Cx}{vG:List (xz×Obj)}{σ:St}{H H':Hp}{s s':x9}{B Sm:Heap}{ea:xz}{cls:xB}{od:Option xz}{E:XK}
def bG(SA:SE P w H' h)(l:∀b,H' b≠uZ->∃o,B.get? b=uQ o)(j:B.StaysIn h)(g:B.StaysIn h'):SE P w H' h':=λa o e=>
 (SA a o e).NF (λb u c q=>by
  have f:H' b≠uZ:=by
   rcases c with rfl|c
   .rw[e];simp
   rw[c];simp
  obtain⟨i,k⟩:=l b f;have d:=j b i k;rw[q]at d;cases d;exact g b u k) (λ_ q=>q) λ_ _ q=>q
theorem gB(I:Inv X vG σ H s)(K:X.stack=X.env::X.outer)(A:X.ex=[])(y:X.env.frame=uQ X.env.locals)(t:s'.os=s.os)(m:AllBare s'.gens)(un:Un (YC X.stack) [] H H' s.heap s'.heap)(SA:SE X.prog X.w H' s'.heap)
  (Q:∀b o,s.heap.get? b=uQ o->H b=uZ->b∉YC X.stack->B.get? b=uQ o) (J:∀b,H' b≠uZ->∃o,B.get? b=uQ o) (P:B.get? ea=uZ) (st:B.StaysIn s'.heap) (v:s.heap.get? ea=uZ)
  (n:LC B X.stack ea cls od .none s'.heap i) (S:E cls od H') (T:∃C,cls=.ref C):OG X.prog X.w X.outer X.H₀ X.s₀ E (.ref ea) {s' with heap:=i}:=by
 have a:=I.base;rw[A]at a;have F:YC X.stack=X.env.locals::YC X.outer:=by rw[K];unfold YC;rw[qx,y]
 have l:∀b o,X.s₀.heap.get? b=uQ o->X.H₀ b=uZ->b∉YC X.outer->B.get? b=uQ o:=λb o q d f=>by
  refine Q b o (a.keep b o q d f (by simp)) (a.free b o q d (by simp)) ?_;rw[F];intro p;rcases zZ.mp p with z|z
  .exact absurd (zK (zx q) I.ok.above) (z▸zH _)
  exact f z
 have x:i.FunFrames B X.outer:=by have:=n.fr;rw[K]at this;exact this.2.2
 refine⟨ea,cls,od,H',B,rfl,t.trans I.os,m,⟨λb o q d f _=>n.st b o (l b o q d f),λb o q d f _=>?_,λb o q d h=>?_,λb o q h=>?_,λb L q=>un.ZE b L (a.ZE b L q),λb o u q=>un.UE b o u (a.UE b o u q),λb Y q=>?_⟩,bG SA J st n.st,⟨n.st,x,n.tr,P,J⟩,l,?_,S,T⟩
 .obtain⟨sl,k⟩:=a.slot b o q d f (by simp);have p:=F▸zQ _ f;obtain⟨W,k'⟩:=un.slot b _ k (a.free b o q d (by simp)) p (by simp);obtain⟨_,M,g,O⟩:=I.stack.mem p;rw[k]at g;cases g;obtain⟨j,Z⟩:=n.up b _ k' O;exact⟨j,Z⟩
 .obtain⟨r,e⟩:=a.there b o q h;exact un.free b r e (a.free b o q d h) h
 .obtain⟨r,e⟩:=a.there b o q h;obtain⟨M,g⟩:=un.there b r e h;exact n.th b M g
 .obtain⟨U,e⟩:=a.IF b Y q;obtain⟨N,g⟩:=un.IF b _ e;exact⟨U++N,by rw[g,uu3]⟩
 cases q:X.s₀.heap.get? ea with
 |none=>rfl
 |some o=>
  obtain⟨r,e⟩:=a.there ea o q (by simp);rw[v]at e;cases e
def Ga(X:Cx)(E:XK):xB->x9->Prop:=λe s'=>vW (xU X.prog X.w) X.A (leaving X.env e) (λ_ OP=>OG X.prog X.w X.outer X.H₀ X.s₀ E e OP) (λe' OP=>OG X.prog X.w X.outer X.H₀ X.s₀ E e' OP) s'
def uF(d:X.stack=X.env::X.outer)(g:X.ex=[])(c:X.env.frame=uQ X.env.locals)(I:Inv X vG σ H s)(h:OG X.prog X.w X.stack H s E e s'):Ga X E e s':=by
 obtain⟨r,j,q,p,B,rfl,l,b,un,SA,a,k,f,m,o⟩:=h;unfold Ga;refine uE (by rw[I.ok.frames,d]) (by rw[<-d];exact a.fr) c a.tr a.st a.eb λi n=>?_
 rw[<-d]at n;exact gB I d g c l b un SA k a.al a.eb a.st f n m o
theorem gC(x:JC P w H h a o):∃c,h.get? a=uQ c:=by
 cases o with
 |lst d=>obtain⟨_,_,_,_,e⟩:=x;exact⟨_,e⟩
 |tup d=>obtain⟨_,_,_,_,e,_⟩:=x;exact⟨_,e⟩
 |set S n=>obtain⟨o,_,_,_,e,_⟩:=x;exact⟨_,e⟩
 |ins C j fs=>obtain⟨_,_,_,e,_⟩:=x;exact⟨_,e⟩
 |own y=>exact x
 |xd fs=>obtain⟨_,⟨_,_,_,e,_⟩,_⟩:=x;exact⟨_,e⟩
 |KY k i=>obtain⟨_,_,_,e⟩:=x;exact⟨_,e⟩
 |WB c u=>obtain⟨e,_⟩:=x;exact⟨_,e⟩
 |SM l|met f y=>exact⟨_,x⟩
 |ext g=>exact x.2.1
 |_=>obtain⟨_,_,_,_,o,_,_,e,_⟩:=x;exact⟨_,e⟩
theorem bH{a h h':Heap}:∀{l:List Env},h.FunFrames a l->(∀b∈YC l,∀o,h.get? b=uQ o->∃f,h'.get? b=uQ {o with slots:=f})->h'.FunFrames a l
 |[],_,_=>trivial
 |e::r,⟨hk,⟨L,o,i,j,t,p⟩,q⟩,k=>by
  have g:YC (e::r)=L::YC r:=by unfold YC;rw[qx,i]
  obtain⟨f,z⟩:=k L (g▸z8) o t;exact⟨hk,⟨L,_,i,j,z,p⟩,bH q λb m n c=>k b (g▸zQ _ m) n c⟩
structure Made (X:Cx) (H:Hp) (s:x9) (ea:xz) (cls:xB) (od:Option xz) (s':x9) (H':Hp):Prop where
 os:s'.os=s.os
 bare:AllBare s'.gens
 un:Un (YC X.stack) [] H H' s.heap s'.heap
 SA:SE X.prog X.w H' s'.heap
 ob:∃oe vs,s'.heap.get? ea=uQ oe/\oe.cls=cls/\oe.dict=od/\oe.data=.fields vs/\vs[1]?=uQ .none
 fe:H' ea=uZ
 new:s.heap.get? ea=uZ
def gD(f:X.stack=X.env::X.outer)(g:X.ex=[])(d:X.env.frame=uQ X.env.locals)(I:Inv X vG σ H s)(m:Made X H s ea cls od s' H')(v:E cls od H')(w:∃C,cls=.ref C):Ga X E (.ref ea) s':=by
 obtain⟨L,M,x,rfl,rfl,y,t⟩:=m.ob;have i:(qg s'.heap (ea::YC X.stack)).get? ea=uZ:=by exact xf _ z8
 have h:(qg s'.heap (ea::YC X.stack)).StaysIn s'.heap:=λb o q=>jb _ q
 have r:∀b o,s.heap.get? b=uQ o->H b=uZ->b∉YC X.stack->(qg s'.heap (ea::YC X.stack)).get? b=uQ o:=λb o q l c=>ja _ (m.un.keep b o q l c (by simp)) λe=>by
  rcases zZ.mp e with z|z
  .rw[z,m.new]at q;cases q
  exact c z
 have p:∀b,H' b≠uZ->∃o,(qg s'.heap (ea::YC X.stack)).get? b=uQ o:=λb c=>by
  cases q:H' b with
  |none=>exact absurd q c
  |some u=>
   obtain⟨o,k⟩:=gC (m.SA b u q);refine⟨o,ja _ k λe=>?_⟩;rcases zZ.mp e with z|z
   .rw[z,m.fe]at q;cases q
   obtain⟨_,J,A,_⟩:=I.stack.mem z;rw[m.un.free b J A (I.Ys b z) (by simp)]at q;cases q
 unfold Ga;refine uD (by rw[I.ok.frames,f]) (by rw[<-f];exact(PySem.W.funFrames_hide (bH I.stack λb c o F=>m.un.slot b o F (I.Ys b c) c (by simp)) λenv e a q=>zQ _ (List.mem_filterMap.mpr ⟨env,e,q⟩))) d x h i y t λj n=>?_
 rw[<-f]at n;exact gB I f g d m.os m.bare m.un m.SA r p i h m.new n v w
end
section
variable{prog:x0}{w:xC}{A:xj}{E:xB->x9->Prop}{h:Heap}{g:Array GenState}{d:Drawn}{t:Nat}{os:OsState}
variable{nm q:Str}{C N:xz}{bs bm QY:List xB}{HQ:Bool}{sn:List Str}{sub:List xB}{ab:Bool}{col:Option Bool}{dd:Option xz}{k0 k1 k2 k3 k5:Option xB}{B newId LG:String}
def uG(F:ExcBaseFacts B newId LG QY)(T:OwnTail h QY bm){y:Str->Option xB}{rest:List xB}{m:xz}{u:Obj}{Q:Fin->x9->Prop}
  (c:h.get? C=uQ (excClassObj nm q C N bs bm HQ sn sub ab col dd k0 k1 k2 k3 k5 newId)) (H:h.Ns N y) (M:y "__init__"=uQ (.ref m)) (l:h.get? m=uQ u) (p:u.cls=.type "function")
  (K:∀h' e,Heap.MadeExcOf h h' e (.ref C) rest->h.objs.size<=e->vW (xU prog w) A (call (.ref m) (.ref e::rest)) (λr s'=>r=.none/\Q (.done (.ret (.ref e))) s') E ⟨h',g,d,t,os⟩) (L:rest.length<=sizeLine):
  vW (xU prog w) A (Builtin.«type.__call__» ⟨.ref C::rest,[]⟩) Q E ⟨h,g,d,t,os⟩:=by
 repeat (first|with_reducible refine wpAny_loadPart_at c ?_|with_reducible refine wpAny_madeBy_exc c ?_|wp_step)
 refine codeAny_call_builtin_code (Code.quiet_builtin _ F.quiet) (wpAny_check_new_subT F T c ?_);refine codeAny_exc_new_subT F T c ?_ L;generalize n:({cls:=.type "tuple",data:=.seq rest.toArray}:Obj)=v;generalize a:({cls:=.ref C,data:=.fields #[.ref h.objs.size,.none,.none,.none,.bool uX,.none]}:Obj)=j;have i:∀b o,h.get? b=uQ o->((h.push v).push j).get? b=uQ o:=λb o z=>zW _ (zW _ z)
 have f:=i _ _ c;have s:((h.push v).push j).get? (h.objs.size+1)=uQ j:=Heap.get?_push_at (by simp[j1]) (by rw[<-a];rfl);have k:j.cls=.ref C:=by rw[<-a]
 have J:(.ref C::bm).contains (.ref C)=uJ:=by simp
 unfold isInstance
 repeat (first|(with_reducible refine wpAny_loadPart_at s ?_;rw[k])|(with_reducible refine wpAny_isSubtype_exc f ?_;rw[J])|wp_step)
 refine wpAny_typeLookup_tail f (H.keeps i) (T.keeps i) F.mroIs F.init.lookup ?_;rw[M];refine vx (vY ?_);unfold bindSpecial;refine vY (wpAny_typeOf ⟨_,i _ _ l,p⟩ ?_);rw[if_pos (by decide)];refine vB (vY (vv (K _ (h.objs.size+1) ⟨i,xK (jy _),h.objs.size,by rw[s,<-a],xK (zY _),?_⟩ (jy _)) (λr s' z=>?_) λ_ _ x=>x))
 .rw[<-n];exact zW _ (Heap.get?_push_at rfl rfl)
 obtain⟨rfl,I⟩:=z
 wp_walk
 exact I
def uH(F:ExcBaseFacts B newId LG QY)(T:OwnTail h QY bm){j:Str->Option xB}{rest:List xB}{b:xz}{i:Obj}{Q:xB->x9->Prop}
  (a:h.get? C=uQ (excClassObj nm q C N bs bm HQ sn sub ab col dd k0 k1 k2 k3 k5 newId)) (k:h.Ns N j) (m:j "__init__"=uQ (.ref b)) (c:h.get? b=uQ i) (f:i.cls=.type "function")
  (l:∀h' e,Heap.MadeExcOf h h' e (.ref C) rest->h.objs.size<=e->vW (xU prog w) (A.under (.builtin "type.__call__" ⟨.ref C::rest,[]⟩)) (call (.ref b) (.ref e::rest)) (λr s'=>r=.none/\Q (.ref e) s') E ⟨h',g,d,t,os⟩) (o:rest.length<=sizeLine):
  vW (xU prog w) A (call (.ref C) rest) Q E ⟨h,g,d,t,os⟩:=by
 have u:=tc_lookup;have v:=tc_bind (.ref C);have s:(⟨h,g,d,t,os⟩:x9).TypeIs (.ref C) "type":=⟨_,a,rfl⟩;refine wpAny_call (codeAny_of_tree ?_)
 repeat (any_goals (first|assumption|with_reducible refine wpAny_loadPart_at a ?_|wp_step))
 refine⟨rfl,?_⟩;exact codeAny_call_builtin_at (Code.quiet_builtin _ (by decide +kernel)) entry_typeCall (wpAny_check_type_call_sub a (uG F T a k m c f (λh' e n p=>(l h' e n p)) o))
end
def uI{K:za}{h:Heap}{N:xz}{m:Str->Option xB}{n:Str}{v:xB}(X:K.In h)(G:h.Ns N m)(e:zb K N n=uQ (uQ v)):m n=uQ v:=by
 obtain⟨o,l,r,g,a,_,b⟩:=G;unfold zb at e;split at e
 .rename_i c d i k j q;have:=X _ _ q;rw[g]at this;cases this;cases a;split at e
  .rename_i y f;rw[<-b];unfold nsFind findBy;rw[<-Array.find?_toList,f];exact xv e
  split at e<;>cases e
 cases e
theorem Mp{K:za}{h:Heap}{C:xz}(X:K.In h)(q:Eu K C=uJ):∃d N w v bs o sub r b u g i j k e,h.get? C=uQ (excClassObj w v C N bs d uJ o sub r b u g i j k e "ValueError.__new__")/\OwnTail h YO d/\
  (∃m,h.Ns N m/\∀f,Ms K C f=uJ->m "__init__"=uQ (.ref f)):=by
 unfold Eu at q;rcases H:K.lookup C with _|⟨c,u,A,y⟩
 .rw[H]at q;cases q
 have I:∀f,Ms K C f=uJ->_:=λf z=>by unfold Ms at z;rw[H]at z;exact z
 rw[H]at q;cases A with
 |cls A=>
  simp only[zq,beq_iff_eq,Bool.not_eq_true']at q I;obtain⟨⟨⟨⟨⟨⟨rfl,E⟩,B⟩,a⟩,c⟩,J⟩,SA⟩:=q;obtain⟨w,bs,O,F,v,P,o,sub,r,b,L⟩:=A;dsimp only at E a SA c I J;generalize O.tail=d at E J
  replace B:=Array.ext' (ys:= #[_,_,_,_,_,_]) B
  generalize y.toList.getD 0 uZ=g,y.toList.getD 1 uZ=i,y.toList.getD 2 uZ=j,y.toList.getD 3 uZ=k,y.toList.getD 5 uZ=e at B;subst E a c B;exact⟨d,F,w,v,bs,o,sub,r,b,u,g,i,j,k,e,X _ _ H,PySem.W.tail_of_in X J,_,.of_isNs (wv X SA),λf z=>uI X (.of_isNs (wv X SA)) (I f z)⟩
 |_=>cases q
noncomputable def NU(C:xz)(od:Option xz)(t:xz):Obj:={cls:=.ref C,dict:=od,data:=.fields #[.ref t,.none,.none,.none,.bool uX,.none]}
def RG(e C:xz)(od:Option xz)(h:Heap):Prop:=∃t,h.get? e=uQ (NU C od t)
def bI(x:RG e C od h):JC P w H h e (.ext (RG e C od)):=
 ⟨x,let⟨t,k⟩:=x;⟨_,k⟩,λb a ⟨t,k⟩ s=>⟨t,s _ k⟩⟩
section
variable{X:Cx}{C W:xz}{x:Str}{mc:xB}{p apos pos:Pos}{a1 a2:xw}{t:TA}
noncomputable def C?(C:xz)(t:TA):TE:=λσ H Q=>t σ H λvs H1=>∃e v,vs=[.ref e,v]/\H1 e=uQ (.ext (RG e C uZ))/\Q .UA H1
def uK(h:H a=uQ o):upd H a o=H:=by
 funext b;unfold upd;split
 .rename_i z;rw[z,h]
 rfl
def uL{pl:Sem Bool}(B:Eu X.K C=uJ)(O:Gl X x)(Z:X.mg x=uQ (.ref W))(P:vO X.K (.ref W) "__getattribute__"=uQ (uQ (.builtin "type.__getattribute__")))(hr:ww X.K W mc=uJ)
  (M:wk X.K (.ref W) mc "__init__"=uQ (.val (.builtin "ValueError.__init__"))) (ha:PA X [a1,a2] t) (w:(x==("__debug__":Str))=uX:=by decide)
  (U:vX [a1,a2] X.env=(uX,eval a1 X.env)::vX [a2] X.env:=by rfl) (y:(xF pos (vX [a2] X.env)).any (·.1)=uX:=by rfl)
  (ht:eval (.Call (.Attribute (.Name x p) "__init__" apos) [a1,a2] [] pos) X.env=(do
   let ov<-eval (.Name x p) X.env
   standAt apos.atName
   let(f,first)<-holding [ov] (getMethod ov "__init__" pl)
   callWith pos f first (xF pos (vX [a1,a2] X.env)) (xG pos (xR [] X.env))):=by rfl):
  PE X (.Call (.Attribute (.Name x p) "__init__" apos) [a1,a2] [] pos) (C? C t):=by
 intro i s σ H Q I h;refine PySem.W.methodCall_KW (Mt I O Z ?_ w) ht;refine PySem.W.method_cls I.RE P (PySem.W.cls_value I.RE hr M (by decide) ?_);refine ve (ZA (ha pos i _ σ H _ (I.tok _) h) λus S zz=>?_) U y;obtain⟨vs,A,j,r,e,v,Y,z,q⟩:=zz;subst Y;obtain⟨u,rfl⟩:∃u,us=[.ref e,u]:=by
  cases r with
  | cons r1 L=>
   cases L with
   |cons r3 r4=>
    cases r4;obtain rfl:=(r1);exact⟨_,rfl⟩
 obtain⟨⟨tp,c⟩,_,_⟩:=j.SA e _ z;obtain⟨bm,N,nm,qn,bs,sn,sub,ab,col,dd,k0,k1,k2,k3,k5,l,T,m,hN,_⟩:=Mp j.RE B;obtain⟨hp,g,d,E,os⟩:=S;have F:=vP;refine wpAny_call (codeAny_call_builtin F.init.plain F.initEntry (wpAny_check_init_subT F T l c rfl ?_))
 wp_walk
 have a:((hp.push {cls:=.type "tuple",data:=.seq #[u]}).update e (.mapFields (·.setIfInBounds 0 (.ref hp.objs.size)))).get? e=uQ (NU C uZ hp.objs.size):=qz _ (zW _ c) rfl
 have J:=j.write (t':=E) (by rw[z];trivial) (.inl rfl)
  (λb o n k=>by rw[qq _ _ (.symm n)];exact zW _ k) ⟨_,a⟩ (bI ⟨_,a⟩)
 rw[uK z]at J;exact⟨.UA,A,J,rfl,q⟩
end
def W7(h:KZ v=n)(a:¬""=n):v=.type n:=by cases v<;>first|exact absurd h a|exact congrArg Value.type h
def uM(h:SU v=uJ):∃c,v=.ref c:=by cases v<;>first|exact⟨_,rfl⟩|cases h
def uN(h:l.map KZ=["ValueError","Exception","BaseException","object"]):l=YO:=by
 rcases l with _|⟨a,_|⟨b,_|⟨c,_|⟨d,_|⟨e,l⟩⟩⟩⟩⟩<;>simp only[zJ,qZ,S0,reduceCtorEq,and_false]at h
 obtain⟨i,g,j,f,_⟩:=h;rw[W7 i (by decide),W7 g (by decide),W7 j (by decide),W7 f (by decide)]
theorem gE{P:List xB->Prop}(g:P YO)(b:∀c r,P r->P (.ref c::r)):∀{l:List xB},T9 l=uJ->P l:=by
 intro l
 induction l with
 |nil=>intro e;cases e
 |cons a r f=>
  intro e;rcases Bool.or_eq_true_iff.mp e with e|e
  .obtain⟨d,h⟩:=qC.mp e;obtain⟨c,rfl⟩:=uM d;exact b c r (f h)
  rw[uN (of_decide_eq_true e)];exact g
def uO(a:xB):∀{l:List xB},T9 l=uJ->refuseLoop a "__setattr__" l=pure ():=
 gE (P:=λl=>refuseLoop a "__setattr__" l=pure ()) (PySem.F.store_ValueError.passes a) λc r h=>by rw[refuseLoop_ref];exact h
def uP:∀{l:List xB},T9 l=uJ->l.contains (.type "object")=uJ:=
 gE (P:=λl=>l.contains (.type "object")=uJ) (by simp) λc r h=>by rw[uu2,h,Bool.or_true]
section
open PySem.W
variable{prog:x0}{w:xC}{A:xj}{s:x9}{K:vE}{x C:xz}{R:Result->x9->Prop}
def uR(X:K.In s.heap)(I:InstAt s.heap x ox C od)(hp:Yo K C=uJ)(y:takerIn K C name=uQ r)
  (h:∀b,vW (xU prog w) A.in1 (match r with |some a=>Builtin.ObjectAttr.setByDescriptor a (.ref x) v|none=>Builtin.ObjectAttr.storeInOwnDict (.ref x) (.ref C) (.str name tk) name v b)
   (λn s'=>match n with | .done f=>R (.ok f) s' | .again c'=>c'.quiet=uJ/\codeAny (xU prog w) A c' R s') (λe s'=>R (.error e) s') s):
  codeAny (xU prog w) A (.call (.builtin "object.__setattr__") ⟨[.ref x,.str name tk,v],[]⟩) R s:=by
 obtain⟨m,i,c⟩:=any_some hp;obtain⟨k,o,g⟩:=Option.bind_eq_some_iff.mp y;have d:m.mro≠[]:=λz=>by rw[z]at c;cases c
 have top:mroIn K C (.type "object")=uQ uJ:=by unfold mroIn;rw[i];show(if m.mro.isEmpty=uJ then _ else _)=_;rw[if_neg (by simpa using d),uP c]
 have j:Looks (xU prog w) s.heap (mroOf (.ref C)) m.mro:=(looks_clsIn X i).andThen Looks.now;have l:Looks (xU prog w) s.heap (Builtin.ObjectAttr.storeTaker? k) r:=by
  rcases k with _|B
  .cases g;exact .now
  obtain⟨p,q,u⟩:=zA.mp g;subst u
  exact(looks_takesIn X q).andThen (by cases p<;>exact .now)
 refine codeAny_call_builtin F.store_object.slot.plain F.store_object.entry (@check_slot (xU prog w) _ _ _ "object.__setattr__" "object" "__setattr__" (.ref x) [.str name tk,v] [] _ F.store_object.kind F.store_object.split (I.type.andThen (looks_mroIn X top)) (F.store_object.args (.ref x) (.str name tk) v) ?_);rw[osa_eq,refuse_eq];apply vY;apply vY;refine I.type.here ?_;apply vY
 refine j.here ?_;rw[uO _ c];apply vB;apply vY;refine I.type.here ?_;apply vY;refine(looks_findIn X o).here ?_;apply vY;exact l.here (h _)
end
section
variable{prog:x0}{w:xC}{A:xj}{E:xB->x9->Prop}{s:x9}{K:za}{e C t:xz}{name:Str}{v:xB}
def uS(X:K.In s.heap)(g:s.heap.get? e=uQ (NU C uZ t))
  (F:qb K (.ref C) "__setattr__"=uQ (uQ (.builtin "object.__setattr__"))) (hp:Yo K C=uJ) (M:w9 K C name=uQ uZ) (L:vR K C=uJ)
  (h:∀h' i tk,s.heap.objs.size<=i->h'.get? e=uQ (NU C (uQ i) t)->h'.Ns1 i (λy=>if y=name then uQ v else uZ)->(∀b o,b≠e->s.heap.get? b=uQ o->h'.get? b=uQ o)->Q () {s with heap:=h',toks:=tk}):
  vW (xU prog w) A (setAttr (.ref e) name v) Q E s:=by
 have J:qc s.heap e (NU C uZ t) C uZ:=⟨g,rfl,rfl,trivial⟩;refine PySem.W.set_plain X J F (uR X J hp M λb=>?_);obtain⟨N,I,j⟩:=wD L;refine vY (vB (vY (vY (wpAny_loadPart g (vY (PySem.W.Looks.here (PySem.W.looks_clsIn X I) ?_))))));rw[j];have d:(s.heap.push {cls:=.type "dict",data:=.dict #[]}).get? e=uQ (NU C uZ t):=zW _ g
 have u:=zP (zx g);refine vY (wpAny_alloc' ?_);refine vY (wpAny_update' d ?_);unfold dictMade;refine vB ?_;unfold Builtin.ObjectAttr.storeInDict Builtin.ObjectAttr.newKeyGuard;refine vY (vB (vY (wpAny_nsSet1 (.of_empty ⟨_,#[],_,(Heap.get?_update_ne _ _ _ _ u.symm).trans (Heap.get?_push_at rfl rfl),rfl,λy H=>absurd H (by simp),λ_=>rfl⟩) λh' c f=>?_)))
 obtain⟨O,z,B,k,p,m⟩:=c.count (.cons name v Within.nil);refine vY (wpAny_lookBehind k (by rw[p];exact pastItsLine_dict (zy m (by rw[z0,jZ,vZ];lia))) ?_);exact vB (h h' s.heap.objs.size _ (zY _) ((f.2 e u).trans (qz _ d rfl)) c λb o n r=>((f.2 b (zP (zx r))).trans ((Heap.get?_update_ne _ _ _ _ n).trans (zW _ r))))
end
structure RN (K:za) (C:xz) (f:Str):Prop where
 ec:Eu K C=uJ
 sa:qb K (.ref C) "__setattr__"=uQ (uQ (.builtin "object.__setattr__"))
 po:Yo K C=uJ
 tk:w9 K C f=uQ uZ
 hd:vR K C=uJ
section
variable{X:Cx}{C:xz}{f:Str}{o value:xw}{pos pos':Pos}{ta tv:TE}
def sXf(C:xz)(f:Str)(ta tv:TE):TS:=λD σ H=>tv σ H λy H1=>ta σ H1 λx H2=>∃e,x=.ref e/\H2 e=uQ (.ext (RG e C uZ))/\
 ∀dx o,H2 dx=uZ->dx≠e->D.nx σ (upd (upd H2 e (.ext (RG e C (uQ dx)))) dx (.WB o (.xd [(f,y)])))
def uT(S:RN X.K C f)(ha:PE X o ta)(hv:PE X value tv)(hs:swapsWith value (uQ (.Attribute o f pos')) pos.line X.env=pure uX):PS X (.Assign [.Attribute o f pos'] value pos) (sXf C f ta tv):=by
 intro i s N H D I h;refine plainObj_wpAny_Assign_Attribute (ZA (hv i s N H _ I h) λu s1 ⟨y,H1,I1,ry,q⟩=>ZA (ha i s1 N H1 _ I1 q) λov W zz=>?_) hs;obtain⟨x,c,v,rx,e,ex,m,q2⟩:=zz;subst ex;obtain rfl:ov=Value.ref e:=rx;obtain⟨⟨t,F⟩,_,_⟩:=v.SA e _ m;refine uS v.RE F S.sa S.po S.tk S.hd λr a T Y j Q A=>?_
 have l:=v.SA.fresh Y;have ne:a≠e:=λz=>by rw[z,m]at l;cases l
 obtain⟨d,J⟩:∃d,r.get? a=uQ d:=by obtain⟨o,_,_,k,_⟩:=Q;exact⟨o,k⟩
 have p:upd c e (.ext (RG e C (uQ a))) a=uZ:=by unfold upd;rw[if_neg ne];exact l
 have K2:SE X.prog X.w (upd (upd c e (.ext (RG e C (uQ a)))) a (.WB d (.xd [(f,y)]))) r:=λb O z=>by
  by_cases Z:b=a
  .subst Z;have zo:O=.WB d (.xd [(f,y)]):=by
    have E:upd (upd c e (.ext (RG e C (uQ b)))) b (.WB d (.xd [(f,y)])) b=uQ (.WB d (.xd [(f,y)])):=by unfold upd;rw[if_pos rfl]
    rw[E]at z;exact(xv z).symm
   subst zo;refine⟨J,_,Q,λg=>?_⟩;by_cases M:g=f
   .subst M;simp[jR];exact ry
   have:(g==f)=uX:=by simpa using M
   simp[jR,this,M]
   trivial
  have E:upd c e (.ext (RG e C (uQ a))) b=uQ O:=by unfold upd at z⊢;rw[if_neg Z]at z;exact z
  refine((v.write (t':=T) (by rw[m];trivial) (.inl rfl) (λb o n k=>A b o n k) ⟨_,j⟩ (bI ⟨t,j⟩)).SA b O E).NF (λ_ _ _ k=>k) (λP k=>?_) λP xs k=>?_
  .have:P≠a:=λw=>by rw[w,p]at k;cases k
   unfold upd at k⊢;rw[if_neg this];exact k
  .have:P≠a:=λw=>by rw[w,p]at k;cases k
   unfold upd at k⊢;rw[if_neg this];exact k
 have B:∀b,b≠e->b≠a->upd (upd c e (.ext (RG e C (uQ a)))) a (.WB d (.xd [(f,y)])) b=c b:=λb n1 n2=>by unfold upd;rw[if_neg n2,if_neg n1]
 have U:Un X.fs [] c (upd (upd c e (.ext (RG e C (uQ a)))) a (.WB d (.xd [(f,y)]))) W.heap r:=by
  have nd:∀b o,W.heap.get? b=uQ o->b≠a:=λb o k z=>by have:=zx k;rw[z]at this;exact absurd this (Nat.not_lt.mpr Y)
  have L:∀b,c b=uZ->b≠e:=λb k z=>by rw[z,m]at k;cases k
  refine⟨λb o k n _ _=>A b o (L b n) k,λb o k n _ _=>⟨o.slots,A b o (L b n) k⟩,λb o k n _=>by rw[B b (L b n) (nd b o k)];exact n,λb o k _=>?_,λb xs k=>?_,λb o u k=>?_,λb ps k=>⟨#[],?_⟩⟩
  .by_cases z:b=e
   .subst z;exact⟨_,j⟩
   exact⟨o,A b o z k⟩
  .rw[B b (λz=>by rw[z,m]at k;cases k) (λz=>by rw[z,l]at k;cases k)];exact k
  .rw[B b (λz=>by rw[z,m]at k;cases k) (λz=>by rw[z,l]at k;cases k)];exact k
  rw[B b (λz=>by rw[z,m]at k;cases k) (λz=>by rw[z,l]at k;cases k)];simpa using k
 exact⟨N,_,v.un U K2,q2 a d l ne⟩
end
def SW(i:Int):Prop:=i.natAbs.log2<1920/\(Str.ofString (toString i)).length<=1000
def bJ(w:V):Prop:=(∃i:Int,w=.int i/\SW i)\/w=.UA
section
variable{X:Cx}{j:Nat}{v s1 s2:Str}{k1 k2 p1 p2 pv pf pos}
noncomputable def D?(j:Nat):TE:=λσ H Q=>∃w:V,σ[j]?=uQ (uQ w)/\bJ w/\∀x,Q (.str x) H
def uU(K:X.N[j]?=uQ v)(B:ZO X.env.scope v)(P:s1.length<=1000)(O:s2.length<=1000)(L:(v==("__debug__":Str))=uX:=by decide)(p:(v==("__classdict__":Str))=uX:=by decide):
  PE X (.JoinedStr [.Constant (.str s1) k1 p1,.FormattedValue (.Name v pv) (-1) uZ pf,.Constant (.str s2) k2 p2] pos) (D? j):=by
 intro d s l H Q I h;obtain⟨w,y,hw,q⟩:=h;have c:∀a b:Str,(a++b).length=a.length+b.length:=λa b=>by show(Str.append a b).length=_;unfold Str.append Str.length;simp
 have sz:∀n,n<=1000000->n<=sizeLine:=λn h=>by rw[vZ];lia
 refine JoinedStr_many (joinParts_cons (ZA (W5 d s l H (λx g=>x=.str s1/\g=H) I ⟨rfl,rfl⟩) λu o f=>?_));obtain⟨x,z,C,e,rfl,rfl⟩:=f;obtain⟨S,rfl⟩:=e;refine⟨sz _ (by rw[c];show 0+_<=_;lia),?_⟩;refine joinParts_cons (FormattedValue_plain (ZA (Rv K B L p d o l z (λx g=>x=w/\g=z) C ?_) λu J f=>?_))
 .exact⟨w,y,rfl,rfl⟩
 obtain⟨x,k,A,e,rfl,rfl⟩:=f;rcases hw with⟨i,rfl,M,E⟩|rfl
 .obtain⟨T,rfl⟩:=e;refine formatField_int_small M ⟨sz _ (by rw[c,c];show 0+_+_<=_;lia),?_⟩;refine joinParts_consE (joinParts_cons (ZA (W5 d _ l k (λx g=>x=.str s2/\g=k) (A.tok _) ⟨rfl,rfl⟩) λu r f=>?_));obtain⟨x,m,t,e,rfl,rfl⟩:=f;obtain⟨F,rfl⟩:=e;exact⟨sz _ (by rw[c,c,c];show 0+_+_+_<=_;lia),joinParts_nilE (joinParts_nil ⟨.str _,m,t.tok _,⟨_,rfl⟩,q _⟩ (sz _ (by rw[c,c,c];show 0+_+_+_<=_;lia)))⟩
 .cases(e);have E:(Str.ofString "None").length<=1000:=by decide
  refine wpAny_formatField_none ⟨sz _ (by rw[c,c];show 0+_+_<=_;lia),?_⟩;refine joinParts_consE (joinParts_cons (ZA (W5 d _ l k (λx g=>x=.str s2/\g=k) (A.tok _) ⟨rfl,rfl⟩) λu r f=>?_));obtain⟨x,m,t,e,rfl,rfl⟩:=f;obtain⟨F,rfl⟩:=e;exact⟨sz _ (by rw[c,c,c];show 0+_+_+_<=_;lia),joinParts_nilE (joinParts_nil ⟨.str _,m,t.tok _,⟨_,rfl⟩,q _⟩ (sz _ (by rw[c,c,c];show 0+_+_+_<=_;lia)))⟩
end
def UO(C:xz)(f:Str):Sp:=λvs H Q _=>∃(e:xz)(i:V),vs=[.ref e,i]/\bJ i/\H e=uQ (.ext (RG e C uZ))/\∀dx o,H dx=uZ->dx≠e->Q .UA (upd (upd H e (.ext (RG e C (uQ dx)))) dx (.WB o (.xd [(f,i)])))
structure SN (K:za) (mg:Str->Option xB) (x:Str) (W:xz):Prop where
 m:mg x=uQ (.ref W)
 s:vO K (.ref W) "__getattribute__"=uQ (uQ (.builtin "type.__getattribute__"))
 r:ww K W (.type "type")=uJ
 f:wk K (.ref W) (.type "type") "__init__"=uQ (.val (.builtin "ValueError.__init__"))
def Qj{P:x0}{w:xC}{K:za}{t:Str->Option xB}{c:Heap}{x b v f u n:Str}{st:xA}{Z C W:xz}{fd:xk}{k:Nat}{pw U g pe B M J T p5 p6 p7 p8 pv L:Pos}{k1 k2}
  (F:OM K x qual st Z fd) (S:MB ["self",v] ["self",v] (Ba st)) (XS:RN K C f) (O:SN K t b W)
  (hb:Dp st=[.Expr (.Call (.Attribute (.Name b pw) "__init__" U) [.Name "self" B,.JoinedStr [.Constant (.str u) k1 M,.FormattedValue (.Name v pv) (-1) uZ L,.Constant (.str n) k2 J] T] [] g) pe,.Assign [.Attribute (.Name "self" p5) f p6] (.Name v p8) p7])
  (l1:u.length<=1000) (l2:n.length<=1000) (hgl:(Ba st).names.lookup b=uQ .globalImplicit) (Y:(b==("__debug__":Str))=uX) (o:(v==("__debug__":Str))=uX) (j:(v==("__classdict__":Str))=uX)
  (hvs:ZO (Ba st) "self") (l:ZO (Ba st) v)
  (hev:∀env:Env,∃pl:Sem Bool,eval (.Call (.Attribute (.Name b pw) "__init__" U) [.Name "self" B,.JoinedStr [.Constant (.str u) k1 M,.FormattedValue (.Name v pv) (-1) uZ L,.Constant (.str n) k2 J] T] [] g) env=(do
   let ov<-eval (.Name b pw) env
   standAt U.atName
   let(f,first)<-holding [ov] (getMethod ov "__init__" pl)
   callWith g f first (xF g (vX [.Name "self" B,.JoinedStr [.Constant (.str u) k1 M,.FormattedValue (.Name v pv) (-1) uZ L,.Constant (.str n) k2 J] T] env)) (xG g (xR [] env)))):
  KC P w K t c WG (k+1) Z fd ["self",v] (UO C f):=by
 refine F.ok S (λvs H Q E zz=>by obtain⟨e,i,z,_⟩:=zz;rw[z];rfl) (λID A d s H vs Q E hr h=>?_);obtain⟨e,i,rfl,hi,hx,q⟩:=h;rw[hb];generalize I:(Ib WG P w K t c ["self",v] qual (Ba st) Z ID A d s H E).PQ=X;have y:X.K=K:=by rw[<-I];rfl
 have hm:X.mg=t:=by rw[<-I];rfl
 have hN:X.N=(["self",v]:List Str):=by rw[<-I];rfl
 have hs:X.env.scope=Ba st:=by rw[<-I];rfl
 have a:∀p,PE X (.Name "self" p) (Ro 0):=λp=>Rv (by rw[hN];rfl) (hs▸hvs) (by decide) (by decide)
 have pv':∀p,PE X (.Name v p) (Ro 1):=λp=>Rv (by rw[hN];rfl) (hs▸l) o j
 have hG:Gl X b:=by unfold Gl;rw[<-I];exact hgl
 obtain⟨pl,VS⟩:=hev X.env;have c1:PE X (.Call (.Attribute (.Name b pw) "__init__" U) [.Name "self" B,.JoinedStr [.Constant (.str u) k1 M,.FormattedValue (.Name v pv) (-1) uZ L,.Constant (.str n) k2 J] T] [] g) (C? C (Tn (Ro 0) (Tn (D? 1) Vp))):=
  uL (y▸XS.ec) hG (hm▸O.m) (y▸O.s) (y▸O.r) (y▸O.f) (R6 (a B) (R6 (uU (by rw[hN];rfl) (hs▸l) l1 l2 o j) aY)) Y rfl rfl VS
 refine⟨_,dE (dG c1 rfl) (dF (uT (y▸XS) (a p5) (pv' p8) rfl)),?_⟩;exact⟨.ref e,rfl,i,rfl,hi,λxx=>⟨e,_,rfl,hx,⟨i,rfl,.ref e,rfl,e,rfl,hx,q⟩⟩⟩
section
variable{M:Model}{A:xj}{E:xB->x9->Prop}{env:Env}
variable{nm q:Str}{C N:xz}{bs bm:List xB}{HQ:Bool}{sn:List Str}{sub:List xB}{ab:Bool}{col:Option Bool}{dd:Option xz}{k0 k1 k2 k3 k5:Option xB}{newId:String}
def uV(L:A.handled=uZ)
  (h:vW M A x (λv b=>∃e od t m N H q bs i p sub r l w y z B F u c,v=.ref e/\b.heap.get? C=uQ (excClassObj H q C N bs m i p sub r l w y z B F u c)/\m.contains (.type "BaseException")=uJ/\
   b.heap.get? e=uQ {cls:=.ref C,dict:=od,data:=.fields #[.ref t,.none,.none,.none,.bool uX,.none]}/\E (.ref e) b) E s):vW M A (raiseStmt env (uQ x) uZ) Q E s:=by
 unfold raiseStmt;refine vY (vv h (λv b j=>?_) λ_ _ x=>x);obtain⟨e,od,t,m,N,H,q,bs,i,p,sub,r,l,w,y,z,B,F,u,c,rfl,o,I,K,J⟩:=j;have n:(.ref C::m).contains (.type "BaseException")=uJ:=by rw[uu2,I,Bool.or_true]
 obtain⟨hp,g,d,O,P⟩:=b
 repeat (first|with_reducible refine wpAny_loadPart_at K ?_|with_reducible refine wpAny_loadPart_at o ?_|(with_reducible refine wpAny_isSubtype_exc o ?_;rw[n])|wp_step)
 exact wpAny_raiseNew_none L J
def gF(z:A.handled=uZ)
  (h:vW M A (eval x env) (λv b=>∃e od t j N B q bs d r sub w i o p u y m n c,v=.ref e/\b.heap.get? C=uQ (excClassObj B q C N bs j d r sub w i o p u y m n c)/\j.contains (.type "BaseException")=uJ/\
   b.heap.get? e=uQ {cls:=.ref C,dict:=od,data:=.fields #[.ref t,.none,.none,.none,.bool uX,.none]}/\E (.ref e) b) E s):vW M A (exec (.Raise (uQ x) uZ pos) env) Q E s:=by
 rw[arm_exec_Raise];exact vY (wpAny_standAt (uV z (vY (vv h (λv l g=>vY (wpAny_standAt (vB g))) λ_ _ x=>x))))
end
section
variable{X:Cx}{C fI:xz}{f x:Str}{np PB pos:Pos}{a:xw}{ta:TA}{E:XK}{k:Nat}{fd:xk}{v:Str}
def tRz(C:xz)(f:Str)(E:XK)(ta:TA):TS:=λ_ σ H=>ta σ H λvs H1=>∃i:V,vs=[i]/\bJ i/\∀dx o,H1 dx=uZ->E (.ref C) (uQ dx) (upd H1 dx (.WB o (.xd [(f,i)])))
theorem uW(S:X.calm=uJ)(hs:X.stack=X.env::X.outer)(hex:X.ex=[])(UW:X.env.frame=uQ X.env.locals)(Jn:∀e s,Ga X E e s->X.xe e s)
  (XS:RN X.K C f) (hi:Ms X.K C fI=uJ) (hfn:∃o,X.K.lookup fI=uQ o/\o.cls=.type "function") (F:KC X.prog X.w X.K X.mg X.base WG k fI fd ["self",v] (UO C f)) (hr:TB (k+1) X.A) (hb:Binds X.K fd ["self",v] [])
  (hg:Gl X x) (hm:X.mg x=uQ (.ref C)) (hk:zh X.K (.ref C)=uJ) (ha:PA X [a] ta) (hdb:(x==("__debug__":Str))=uX:=by decide)
  (he:vX [a] X.env=(uX,eval a X.env)::vX [] X.env:=by rfl) (VS:(xF PB (vX [] X.env)).any (·.1)=uX:=by rfl):
  PS X (.Raise (uQ (.Call (.Name x np) [a] [] PB)) uZ pos) (tRz C f E ta):=by
 intro vG s σ H D I h;refine gF (C:=C) (I.ok.hd S) ?_;refine vK (Mt I hg hm ?_ hdb);refine xi I.ok.mod.IU hk (ZA (ha PB vG s σ H _ I h) λus s1 ⟨vs,B,U,r,i,ev,RY,q⟩=>⟨U.RE,?_⟩) he VS;subst ev;obtain⟨bm,N,nm,qn,bs,sn,sub,ab,col,dd,k0,k1,k2,k3,k5,hcl,T,m,hN,E?⟩:=Mp U.RE XS.ec;obtain⟨oI,hfI,hfc⟩:=hfn;have F?:us.length<=sizeLine:=by rw[<-r.length,vZ];show 1<=_;decide
 obtain⟨hp,g,d,tk,os⟩:=s1;have FB:=vP;refine uH FB T hcl hN (E? fI hi) (U.RE _ _ hfI) hfc (λh' e j hz=>?_) F?;obtain⟨t,ht,_,_⟩:=j.there;have I2:=U.laid (t':=tk) j.keeps hz (bI ⟨t,ht⟩);have fe:=U.SA.fresh hz;obtain⟨u,rfl⟩:∃u,us=[u]:=by
  cases r with
  |cons r1 r2=>cases r2;exact⟨_,rfl⟩
 have h2e:upd B e (.ext (RG e C uZ)) e=uQ (.ext (RG e C uZ)):=by unfold upd;rw[if_pos rfl]
 have l:∀b,b≠e->upd B e (.ext (RG e C uZ)) b=B b:=λb n=>by unfold upd;rw[if_neg n]
 refine wpAny_call (xN (F.run _ X.stack _ _ ⟨[Value.ref e,u],[]⟩ [Value.ref e,u] [V.ref e,i] (λw H3=>w=.UA/\∃c o,B c=uZ/\c≠e/\H3=upd (upd (upd B e (.ext (RG e C uZ))) e (.ext (RG e C (uQ c)))) c (.WB o (.xd [(f,i)]))) E0 (hr.make C [u] [])
  (I2.WR.make C [u] []) (by simpa using hb _ [Value.ref e,u] I2.RE rfl) (.cons rfl r) ⟨e,i,rfl,RY,h2e,λc o n1 n2=>⟨rfl,c,o,by rw[<-l c n2];exact n1,n2,rfl⟩⟩) λr s' y=>?_)
 cases r with
 |error e=>exact y.elim
 | ok fl=>
  cases fl with
  | ret w=>
   obtain⟨_,_,I3,_⟩:=I2.after y;obtain⟨vw,H3,os',O,un,SA,KL,rfl,c,o,nd,ne,rfl⟩:=y;refine⟨KL,?_⟩;have p:∀b,b≠e->upd (upd (upd B e (.ext (RG e C uZ))) e (.ext (RG e C (uQ c)))) c (.WB o (.xd [(f,i)])) b=upd B c (.WB o (.xd [(f,i)])) b:=λb n=>by
    unfold upd;split
    .rfl
    simp
   have P:upd (upd (upd B e (.ext (RG e C uZ))) e (.ext (RG e C (uQ c)))) c (.WB o (.xd [(f,i)])) e=uQ (.ext (RG e C (uQ c))):=by unfold upd;rw[if_neg (Ne.symm ne),if_pos rfl]
   have G?:upd B c (.WB o (.xd [(f,i)])) e=uZ:=by unfold upd;rw[if_neg (Ne.symm ne)];exact fe
   obtain⟨⟨t',Z⟩,_,_⟩:=SA e _ P;obtain⟨SY,N',Kn,H?,I?,J?,VW,K?,Y,L?,l0,l1,l2,l3,l5,Mn,T',_⟩:=Mp I3.RE XS.ec;have L:∀b o,hp.get? b=uQ o->b≠e:=λb o k z=>by rw[z,j.new]at k;cases k
   have mk:Made X B ⟨hp,g,d,tk,os⟩ e (.ref C) (uQ c) s' (upd B c (.WB o (.xd [(f,i)]))):=by
    refine⟨os',O,⟨λb o k n hb Q=>un.keep b o (j.keeps b o k) (by rw[l b (L b o k)];exact n) hb Q,λb o k n hb Q=>un.slot b o (j.keeps b o k) (by rw[l b (L b o k)];exact n) hb Q,λb o k n Q=>?_,λb o k Q=>un.there b o (j.keeps b o k) Q,λb xs k=>?_,λb o u k=>?_,λb ps k=>?_⟩,λb ob z=>?_,⟨_,_,Z,rfl,rfl,rfl,rfl⟩,G?,j.new⟩
    .rw[<-p b (L b o k)];exact un.free b o (j.keeps b o k) (by rw[l b (L b o k)];exact n) Q
    .have J:b≠e:=λz=>by rw[z,fe]at k;cases k
     rw[<-p b J];exact un.ZE b xs ((l b J)▸k)
    .have J:b≠e:=λz=>by rw[z,fe]at k;cases k
     rw[<-p b J];exact un.UE b o u ((l b J)▸k)
    .have J:b≠e:=λz=>by rw[z,fe]at k;cases k
     rw[<-p b J];exact un.IF b ps ((l b J)▸k)
    have J:b≠e:=λz'=>by rw[z',G?]at z;cases z
    rw[<-p b J]at z;refine(SA b ob z).NF (λ_ _ _ k=>k) (λb' k=>?_) λb' xs k=>?_
    .rw[<-p b' (λz'=>by rw[z',P]at k;cases k)];exact k
    rw[<-p b' (λz'=>by rw[z',P]at k;cases k)];exact k
   exact⟨e,uQ c,t',SY,N',Kn,H?,I?,uJ,J?,VW,K?,Y,L?,l0,l1,l2,l3,l5,_,rfl,Mn,T'.hasType FB.hasBase,Z,Jn _ _ (gD hs hex UW U mk (q c o nd) ⟨C,rfl⟩)⟩
  |_=>exact .elim y
end
section
variable{X:Cx}{vG:List (xz×Obj)}{σ:St}{H H':Hp}{s s':x9}{B Sm:Heap}{ea:xz}{cls:xB}{od:Option xz}{E:XK}{fl:xB}
def uY(I:Inv X vG σ H s)(v:s'.os=s.os)(h:AllBare s'.gens)(un:Un (YC X.stack) [] H H' s.heap s'.heap)(SA:SE X.prog X.w H' s'.heap)
  (N:∀b o,s.heap.get? b=uQ o->H b=uZ->b∉YC X.stack->B.get? b=uQ o) (A:∀b,H' b≠uZ->∃o,B.get? b=uQ o) (M:B.get? ea=uZ) (st:B.StaysIn s'.heap) (l:s.heap.get? ea=uZ)
  (n:LC B X.stack ea cls od fl s'.heap g):∃c vs,g.get? ea=uQ c/\c.cls=cls/\c.dict=od/\c.data=.fields vs/\H' ea=uZ/\Inv X vG σ (upd H' ea (.WB c (.own 0))) {s' with heap:=g}:=by
 obtain⟨c,vs,T,oT,ts,r,⟨O,P⟩,p,_⟩:=n.tr;have e:H' ea=uZ:=by
  cases z:H' ea with
  |none=>rfl
  |some u=>
   obtain⟨o,k⟩:=A ea (by rw[z];simp);rw[M]at k;cases k
 have d:∀b,b≠ea->upd H' ea (.WB c (.own 0)) b=H' b:=λb k=>by unfold upd;rw[if_neg k]
 have Q:∀b o,s.heap.get? b=uQ o->b≠ea:=λb o k z=>by rw[z,l]at k;cases k
 refine⟨c,vs,r,O,P,p,e,I.JK (ch:=[]) v ⟨λb o q f i _=>n.st b o (N b o q f i),λb o q f i _=>?_,λb o q f y=>?_,λb o q y=>?_,λb F q=>?_,λb o u q=>?_,λb W q=>?_⟩ (λb K z=>?_) h λb z=>absurd z (by simp)⟩
 .obtain⟨sl,k⟩:=un.slot b o q f i (by simp);obtain⟨_,o2,C,L⟩:=I.stack.mem i;rw[q]at C;cases C;obtain⟨t,Z⟩:=n.up b _ k L;exact⟨t,Z⟩
 .rw[d b (Q b o q)];exact un.free b o q f y
 .obtain⟨Y,S⟩:=un.there b o q y;exact n.th b Y S
 .have:=un.ZE b F q;rw[d b (λz=>by rw[z,e]at this;cases this)];exact this
 .have:=un.UE b o u q;rw[d b (λz=>by rw[z,e]at this;cases this)];exact this
 .obtain⟨m,this⟩:=un.IF b W q;exact⟨m,by rw[d b (λz=>by rw[z,e]at this;cases this)];exact this⟩
 by_cases J:b=ea
 .subst J;have U:K=.WB c (.own 0):=by unfold upd at z;rw[if_pos rfl]at z;exact(xv z).symm
  subst U;exact⟨r,c,r⟩
 .rw[d b J]at z;refine((bG SA A st n.st) b K z).NF (λ_ _ _ k=>k) (λx k=>?_) λx F k=>?_
  .rw[d x (λj=>by rw[j,e]at k;cases k)];exact k
  rw[d x (λj=>by rw[j,e]at k;cases k)];exact k
def WW(k:X.stack=X.env::X.outer)(l:X.env.frame=uQ X.env.locals)(I:Inv X vG σ H s)(h:OG X.prog X.w X.stack H s E e s')
  (q:∀(d:xz)(C:xB)(od:Option xz)(H':Hp)(c:Obj)(vs:Array xB)(b:Heap),e=.ref d->b.get? d=uQ c->c.cls=C->c.dict=od->c.data=.fields vs->E C od H'->H' d=uZ->Inv X vG σ (upd H' d (.WB c (.own 0))) {s' with heap:=b}->
   (∃B:Heap,SK b B d C od .none)->(∃L,C=.ref L)->Q () {s' with heap:=b}):
  vW (xU X.prog X.w) X.A (noteFrame e X.env) (λ_ x=>vW (xU X.prog X.w) X.A (setFlight e uZ) Q E' x) E' s':=by
 obtain⟨d,cls,od,H',B,rfl,M,g,un,SA,a,v,j,y,o⟩:=h;have p:=a.fr;rw[k]at p;refine gA (by rw[I.ok.frames,k]) p l a.tr a.st a.eb λN i=>?_
 refine Xa i.fr i.tr i.st λt r=>?_
 have n:=i.trans r;rw[<-k]at n;obtain⟨c,vs,F,z,K,m,u,J⟩:=uY I M g un SA v a.al a.eb a.st j n;exact q d cls od H' c vs t rfl F z K m y u J ⟨B,n.tr⟩ o
end
section
variable{M:Model}{A:xj}{E:xB->x9->Prop}{h:Heap}{g:Array GenState}{d:Drawn}{t:Nat}{os:OsState}
def u0
  (j:h.get? C=uQ (excClassObj nm q C N bs bm HQ sn sub ab col dd k0 k1 k2 k3 k5 newId)) (i:h.get? W=uQ (excClassObj Kn q' W N' I? SY hdct' J? VW K? col' L? l0 l1 l2 l3 l5 newId')) (n:h.get? e=uQ oe) (m:oe.cls=.ref C)
  (l:SY.contains (.type "BaseException")=uJ) (c:(Value.ref C::bm).contains (.ref W)=b) (k:Q b ⟨h,g,d,t,os⟩):vW M A (excMatches (.ref e) (.ref W)) Q E ⟨h,g,d,t,os⟩:=by
 have a:(.ref W::SY).contains (.type "BaseException")=uJ:=by rw[uu2,l,Bool.or_true]
 have f:=tc_notTuple;unfold excMatches
 repeat (first|(with_reducible refine wpAny_loadPart_at n ?_;rw[m])|with_reducible refine wpAny_loadPart_at i ?_|(with_reducible refine wpAny_isSubtype_exc i ?_;rw[a])|(with_reducible refine wpAny_isSubtype_exc j ?_;rw[c])|wp_step)
 cases b<;>(wp_walk;exact k)
def u4(x:SK s.heap B e cls od .none)(q:∀h',(∀b o,s.heap.get? b=uQ o->h'.get? b=uQ o)->Q () {s with heap:=h'}):vW M A (setFlight (.ref e) uZ) Q E s:=by
 obtain⟨I,F,T,r,l,w,_,u,n,⟨H,v⟩,f,m,j⟩:=x;unfold setFlight;refine vY (vj w u n ?_);rw[if_pos (by simp)];refine wpAny_setField f m (zM.mp j).1 (q _ λb o k=>?_);by_cases z:b=T
 .subst z;rw[f]at k;cases k;rw[qz _ f (Obj.isFreed_of_fields (Obj.data_mapFields m _))];obtain⟨c,C,p,y⟩:=r;obtain rfl:p=.fields l:=m;unfold Obj.mapFields;dsimp only
  congr 2
  have:l.setIfInBounds 3 Value.none=l:=by
   refine Array.ext_getElem? λi=>?_
   rw[Array.getElem?_setIfInBounds];split
   .rename_i z;subst z;rw[if_pos (zM.mp j).1,j]
   rfl
  exact congrArg _ this
 rw[qq _ _ (.symm z)];exact k
end
section
variable{X:Cx}{vG:List (xz×Obj)}{σ:St}{H:Hp}{s:x9}
def gG(I:Inv X vG σ H s)(S:X.N.Nodup)(Y:X.N[i]?=uQ n)(hk:X.env.kindOf n=uQ .local)
  (q:∀s',Inv X vG (σ.set i uZ) H s'->Q () s'):vW M A (do bindName X.env n .none;unbindBehindTheSuite X.env n pos) Q E s:=by
 obtain⟨m,J,W⟩:=I.loc;have hp:(X.env.scope.kind == .class||(X.env.scope.kind == .module&&X.env.locals != X.env.globals))=uX:=by rw[I.ok.kind];rfl
 refine wpAny_nameGoes_keeps hk J hp λh' v x g=>q _ ?_
 have h:∀b o,X.s₀.heap.get? b=uQ o->b≠X.env.locals:=λb o e=>zP (zK (zx e) I.ok.above)
 refine⟨I.ok,I.os,I.bare,⟨λb o e t f w=>(g.2 b (h b o e)).trans (I.base.keep b o e t f w),λb o e t f w=>?_,I.base.free,λb o e w=>?_,I.base.ZE,I.base.UE,I.base.IF⟩,⟨_,x,λj y L r l K=>?_⟩,λy c e=>?_,I.free,I.Fq,λp hp=>?_,?_,by rw[qF];exact I.len⟩
 .obtain⟨F,r⟩:=I.base.slot b o e t f w;exact⟨F,(g.2 b (h b o e)).trans r⟩
 .obtain⟨T,r⟩:=I.base.there b o e w;exact⟨T,(g.2 b (h b o e)).trans r⟩
 .have B:j≠i:=λz=>by
   subst z;rw[qM]at l;split at l
   .split at l<;>cases l
   rename_i z;exact z rfl
  rw[qy (.symm B)]at l;obtain⟨U,P,z⟩:=W j y L r l K;refine⟨U,P,?_⟩;rcases z with⟨k,e⟩|⟨k,c,e,z⟩
  .refine .inl ⟨k,?_⟩;have:y≠n:=λe=>B (aQ S r (e▸Y))
   simp[this,e]
  exact .inr ⟨k,c,e,z.sameBut g (I.IP y c e)⟩
 .obtain⟨Z,z⟩:=I.cell y c e;exact⟨Z,z.sameBut g (I.IP y c e)⟩
 .obtain⟨e,t,C,O,d⟩:=I.pin p hp;exact⟨(g.2 p.1 C).trans e,t,C,O,d⟩
 exact λa o e=>(I.SA a o e).NF (λb u f k=>(g.2 b (λz=>by
  rcases f with rfl|f
  .rw[z,I.free]at e;cases e
  rw[z,I.free]at f;cases f)).trans k) (λ_ k=>k) λ_ _ k=>k
end
noncomputable def P0(X:Cx)(ea:xz):Cx:={X with A:=X.A.mark (uQ (.ref ea)),calm:=uX,xe:=λ_ _=>False}
section
variable{X:Cx}{vG:List (xz×Obj)}{σ:St}{H:Hp}{s:x9}{ea:xz}
def gH(I:Inv X vG σ H s):Inv (P0 X ea) vG σ H s:=
 ⟨⟨I.ok.mod,I.ok.kind,I.ok.glob,I.ok.blt,I.ok.above,I.ok.inj,I.ok.has,I.ok.OQ,λz=>absurd z (by simp[P0]),I.ok.frames,I.ok.QR,I.ok.WU,I.ok.bs,I.ok.TM,I.ok.JI,I.ok.MH,I.ok.VE,I.ok.NO⟩,I.os,I.bare,I.base,I.loc,I.cell,I.free,I.Fq,I.pin,I.SA,I.len⟩
def gI{calm:X.calm=uJ}(b:X.A.handled=uZ)(I:Inv (P0 X ea) vG σ H s):Inv X vG σ H s:=
 ⟨⟨I.ok.mod,I.ok.kind,I.ok.glob,I.ok.blt,I.ok.above,I.ok.inj,I.ok.has,I.ok.OQ,λ_=>b,I.ok.frames,I.ok.QR,I.ok.WU,I.ok.bs,I.ok.TM,I.ok.JI,I.ok.MH,I.ok.VE,I.ok.NO⟩,I.os,I.bare,I.base,I.loc,I.cell,I.free,I.Fq,I.pin,I.SA,I.len⟩
end
section
variable{X:Cx}{f W:xz}{fn x n:Str}{fp cp ep np hp pos:Pos}{a:xw}{es:List xw}{ta:TA}{sp:Sp}{k i:Nat}{fd:xk}{ps:List Str}{b₀:xA}{SI:List xA}{th:TS}
def takes(K:za)(C W:xz):Bool:=Eu K C&&Eu K W&&match K.lookup C with
 |some ⟨_,_,.cls cd,_⟩=>cd.mro.contains (.ref W)
 |_=>uX
end
def u5:∀n:Nat,n<1000->SW (n:Int):=by
 have h:∀n:Fin 1000,((n.1:Int).natAbs.log2<1920/\(Str.ofString (toString (n.1:Int))).length<=1000):=by decide +kernel
 exact λn b=>h ⟨n,b⟩
noncomputable def ZC(c f:Str)(t:DA):DS:=λS G=>match t S G with
 |.ok ds G1=>(match ds with
  |[.int i]=>if 0<=i/\i<1000 then .err ⟨c,[(f,.int i)]⟩ G1 else .bad
  |[.UA]=>.err ⟨c,[(f,.UA)]⟩ G1
  |_=>.bad)
 |.err x G1=>.err x G1
 |.bad=>.bad
section
variable{X:Cx}{E:XK}{C fI:xz}{c f v:Str}{np PB pos:Pos}{a:xw}{t:DA}{k:Nat}{fd:xk}
def u6(N:zb X.K xT c=uQ (uQ (.ref C)))(g:X.calm=uJ)(U:X.stack=X.env::X.outer)(I:X.ex=[])(y:X.env.frame=uQ X.env.locals)(p:∀e s,Ga X E e s->X.xe e s)
  (Q:RN X.K C f) (O:Ms X.K C fI=uJ) (u:∃o,X.K.lookup fI=uQ o/\o.cls=.type "function") (F:KC X.prog X.w X.K X.mg X.base WG k fI fd ["self",v] (UO C f)) (hr:TB (k+1) X.A) (Y:Binds X.K fd ["self",v] [])
  (T:Gl X c) (hm:X.mg c=uQ (.ref C)) (hk:zh X.K (.ref C)=uJ) (ha:QA X E [a] t) (J:(c==("__debug__":Str))=uX:=by decide) (m:notStar a=uJ:=by rfl):
  QS X E (.Raise (uQ (.Call (.Name c np) [a] [] PB)) uZ pos) (ZC c f t):=
 (uW g U I y p Q O u F hr Y T hm hk ha J (Ht a [] X.env m) rfl).mono λW σ H h=>by
  obtain⟨w,S,G,hk,rfl,sm,r,h⟩:=h;refine⟨w,S,G,hk,rfl,sm,r,?_⟩;unfold ZC at h;cases M:t S G with
  | ok ds P=>
   rw[M]at h;dsimp only at h;split at h
   .rename_i i;split at h
    .rename_i O;intro b Z x B q;obtain⟨z,L,rfl,l,n⟩:=q;obtain rfl:z=.int i:=l;obtain rfl:L=[]:=n;refine⟨.int i,rfl,.inl ⟨i,rfl,?_⟩,λd o j=>?_⟩
     .have:=u5 i.toNat (by lia);rwa[show((i.toNat:Nat):Int)=i by lia]at this
     .refine h.2 (b.put d (.WB o (.xd [(f,.int i)]))) C (uQ d) (x.trans (.put j)) (B.put j) ?_ (.inr ⟨d,o,[(f,.int i)],rfl,?_,rfl,⟨.int i,[],rfl,rfl,rfl⟩⟩)
      .show zb b.K _ _=_;rw[x.k,hk];exact N
      .show upd b.H d _ d=_;unfold upd;rw[if_pos rfl]
    exact h.elim
   .intro b Z x B q;obtain⟨z,L,rfl,l,n⟩:=q;obtain rfl:z=.UA:=l;obtain rfl:L=[]:=n;refine⟨.UA,rfl,.inr rfl,λd o j=>?_⟩;refine h.2 (b.put d (.WB o (.xd [(f,.UA)]))) C (uQ d) (x.trans (.put j)) (B.put j) ?_ (.inr ⟨d,o,[(f,.UA)],rfl,?_,rfl,⟨.UA,[],rfl,rfl,rfl⟩⟩)
    .show zb b.K _ _=_;rw[x.k,hk];exact N
    .show upd b.H d _ d=_;unfold upd;rw[if_pos rfl]
   exact h.elim
  |_=>rw[M]at h;exact h
end
noncomputable def XW(i:Nat):SR->SR
 |.nx S G=>.nx (S.set i uZ) G
 |.bk S G=>.bk (S.set i uZ) G
 |.ct S G=>.ct (S.set i uZ) G
 |.rt d G=>.rt d G
 |_=>.bad
def RB.unset(r:RB a S σ)(i:Nat):RB a (S.set i uZ) (σ.set i uZ):=by
 refine⟨by simpa using r.len,λj e b=>?_⟩;rw[qM]at b⊢;by_cases c:i=j
 .subst c;rw[if_pos rfl]at b
  split at b<;>cases b
 rw[if_neg c]at b⊢;exact r.get j e b
def G7{P:x0}{w:xC}{K:za}{mg:Str->Option xB}{base:Heap}{x:Str}{st:xA}{f:xz}{fd:xk}{N ps:List Str}{k:Nat}{b:DS}(F:OM K x qual st f fd)(S:MB N ps (Ba st))
  (YW:∀(ID:xB)(A:xj)(outer:List Env)(s:x9)(H:Hp)(E:XK),TB k (A.deeper (envOfC qual (Ba st) s.heap.objs.size f ID))->OL (Ib (OG P w) P w K mg base N qual (Ba st) f ID A outer s H E) E (Dp st) b):
  KC P w K mg base (OG P w) (k+1) f fd ps (WV K (Ar ps.length (N.length-ps.length) b)):=by
 obtain⟨o1,o2,o4,o5,o6,o7,c,o8,o9,rfl,lk,hc⟩:=F.ex;exact dQ lk hc S (λ_ _ _ _=>Ze) λA o s H n Q E z h=>⟨_,YW c A o s H E z,dz h⟩
def u7{P:x0}{w:xC}{K:za}{d:Str->Option xB}{b:Heap}{N:List Str}{a:x2}{f:xz}{cd:xB}{A:xj}{outer:List Env}{s:x9}{H:Hp}{E:XK}:
  Passes (OG P w) (Ib (OG P w) P w K d b N qual a f cd A outer s H E) E:=λc i g k e j I h=>uF rfl rfl rfl I h
def Nn{P:x0}{w:xC}{K:za}{c:Str->Option xB}{b:Heap}{N:List Str}{a:x2}{f:xz}{cd:xB}{A:xj}{outer:List Env}{s:x9}{H:Hp}{E:XK}:
  PassesOwn (xU P w) (Ib (OG P w) P w K c b N qual a f cd A outer s H E).A (Ib (OG P w) P w K c b N qual a f cd A outer s H E).env (Ib (OG P w) P w K c b N qual a f cd A outer s H E).xe:=.leaving
noncomputable def OA(F:List D->DH->R D):List D->DH->R D:=λds G=>match F ds G with
 |.ok d G1=>.ok d G1
 |_=>.bad
section
variable{X:Cx}{E:XK}{x:Str}{p pos:Pos}{e:xw}{es:List xw}{tr:DA}
theorem u9(h:out E b (OA F ds G) Q):out E0 b (F ds G) Q:=by
 unfold OA at h;cases a:F ds G with
 |err x c=>rw[a]at h;exact h.elim
 |_=>rw[a]at h;exact h
def ua(j:KC X.prog X.w X.K X.mg X.base WG k f fd ps (lF X.K F))(u:TB k X.A)(l:Gl X x)(o:X.mg x=uQ (.ref f))(hk:zh X.K (.ref f)=uJ)(m:Binds X.K fd ps [])
  (n:QA X E (e::es) tr) (d:(x==("__debug__":Str))=uX:=by decide) (y:notStar e=uJ:=by rfl) (c:es.all notStar=uJ:=by rfl):QE X E (.Call (.Name x p) (e::es) [] pos) (JA (OA F) tr):=
 (aZ (E:=E) j u l o hk m .nil (λ_ _ _ _ _ _ _ h=>h.elim) n d (Ht e es X.env y) (Mu pos X.env es c)).mono λz H Q h=>by
  replace h:=T6 h;obtain⟨a,S,G,hk,rfl,s,r,h⟩:=h
  refine⟨a,S,G,hk,rfl,s,r,h.imp ?_⟩;rintro B _ ⟨b,g,t,hk,rfl,v,q,i⟩;exact⟨b,g,t,hk,rfl,v,by rw[qY];exact q,u9 i⟩
def bK(j:KC X.prog X.w X.K X.mg X.base (OG X.prog X.w) k f fd ps (WV X.K F))(u:TB k X.A)(l:Gl X x)(o:X.mg x=uQ (.ref f))(hk:zh X.K (.ref f)=uJ)(m:Binds X.K fd ps [])
  (z:Passes (OG X.prog X.w) X E) (n:QA X E (e::es) tr) (d:(x==("__debug__":Str))=uX:=by decide) (y:notStar e=uJ:=by rfl) (c:es.all notStar=uJ:=by rfl):QE X E (.Call (.Name x p) (e::es) [] pos) (JA F tr):=
 (aZ j u l o hk m .nil z n d (Ht e es X.env y) (Mu pos X.env es c)).mono λB H Q h=>by
  replace h:=T6 h;obtain⟨a,S,G,hk,rfl,s,r,h⟩:=h
  refine⟨a,S,G,hk,rfl,s,r,h.imp ?_⟩;rintro C _ ⟨b,g,t,hk,rfl,v,q,i⟩;exact⟨b,g,t,hk,rfl,v,by rw[qY];exact q,i⟩
end
structure LH (k:Nat) (A:xj):Prop where
 dp:A.depth+3*k+5<recursionLimit
 un:A.units+16*k+200<cLine
def LH.of(r:TB k A):LH k A:=⟨r.dp,r.un⟩
def LH.held(r:LH k A):LH k (A.mark v):=⟨r.dp,r.un⟩
structure PD (K:za) (C:xz):Prop where
 ga:qb K (.ref C) "__getattribute__"=uQ (uQ (.builtin "BaseException.__getattribute__"))
 gn:qb K (.ref C) "__getattr__"=uQ uZ
 sb:wE K (.ref C) (.type "BaseException")=uQ uJ
 hd:vR K C=uJ
 cl:qb K (.ref C) "__class__"=uQ (uQ (.builtin "object.__class__"))
 cg:vO K (.builtin "object.__class__") "__get__"=uQ (uQ (.builtin "getset_descriptor.__get__"))
 ct:PySem.W.takesIn K (.builtin "object.__class__")=uQ uJ
 mo:PySem.W.mroIn K C (.type "object")=uQ uJ
 kc:PySem.W.kitCls K (.ref C) (.ref C)=uQ uJ
 ec:Eu K C=uJ
section
variable{prog:x0}{w:xC}{A:xj}{E:xB->x9->Prop}{s:x9}{K:za}{x C:xz}{ox:Obj}{od:Option Obj}{name:Str}{tk:Tok}
def uc(X:K.In s.heap)(I:qc s.heap x ox C od)(e:wE K (.ref C) (.type "BaseException")=uQ uJ)(c:Q () s):
  vW M A (xM "BaseException.__getattribute__" ⟨[.ref x,nameV],[]⟩) Q E s:=by
 have hk:builtinKind "BaseException.__getattribute__"=uQ .slot:=by decide +kernel
 have a:splitId "BaseException.__getattribute__"=uQ ("BaseException","__getattribute__"):=by decide +kernel
 have b:PySem.W.Looks M s.heap (isInstance (.ref x) (.type "BaseException")) uJ:=(I.type).andThen (PySem.W.looks_subIn X e);obtain⟨h,g,d,t,f⟩:=s;simp[xM,hk,a];refine vY (b.at ?_)
 repeat (first|wp_step)
 exact c
def gJ{c a:Bool}{Q:xB->x9->Prop}(X:K.In s.heap)(I:qc s.heap x ox C od)(G:PD K C)
  (h:∀f,vW (xU prog w) f (Builtin.«object.__getattribute__» ⟨[.ref x,.str name tk],[]⟩) (λb s'=>match b with | .done (.ret v)=>xh v=uJ/\Q v s'|_=>False) (λ_ _=>False) s):
  vW (xU prog w) A (getAttrBy (.ref x) (.str name tk) c a) Q E s:=by
 have e:(a&&onTheHeap (.builtin "BaseException.__getattribute__"))=uX:=by cases a<;>rfl
 obtain⟨j,g,d,t,i⟩:=s;unfold getAttrBy;refine vx (vY ((I.type).at (vY ((wM X G.ga).at ?_))));dsimp only;rw[show(onTheHeap (.ref C)&&Value.builtin "BaseException.__getattribute__"==Value.builtin "object.__getattribute__")=uX by rw[show(.builtin "BaseException.__getattribute__"==Value.builtin "object.__getattribute__")=uX by decide +kernel];rfl]
 simp[j4,if_false];unfold getAttrByItsOwn;refine vY ((wM X G.gn).at ?_);refine vY (wpAny_attempt (vx ?_));unfold callGetattribute;rw[e];simp[j4,if_false];unfold boundAndCalled;rw[F.excAttr_ValueError.ga.bind (.ref x)];refine vY (vB ?_);refine wpAny_call (codeAny_call_builtin F.excAttr_ValueError.ga.plain F.entry_bexc_ga (uc X I G.sb (vv (h _) (λb s' z=>?_) λ_ _ z=>z.elim)))
 rcases b with(_|_|_|_)|_<;>first|exact z.elim|exact PySem.W.handed_on z.1 z.2
def ud{b a:Bool}{v:xB}{Q:xB->x9->Prop}(X:K.In s.heap)(I:qc s.heap x ox C od)(G:PD K C)(e:vS K C od name=uQ (.value v))(c:xh v=uJ)(h:Q v s):
  vW (xU prog w) A (getAttrBy (.ref x) (.str name tk) b a) Q E s:=by
 refine gJ X I G λj=>?_
 obtain⟨i,g,d,t,f⟩:=s;exact vY (vB (vY (vB (vY ((I.type).at (vY ((wO X I e).at (vB ⟨c,h⟩))))))))
def ue{b a:Bool}{Q:xB->x9->Prop}(X:K.In s.heap)(I:qc s.heap x ox C od)(G:PD K C)(h:Q (.ref C) s):
  vW (xU prog w) A (getAttrBy (.ref x) (.str "__class__" tk) b a) Q E s:=by
 refine gJ X I G λl=>?_
 have f:vS K C od "__class__"=uQ (.bind (.builtin "getset_descriptor.__get__") (.builtin "object.__class__")):=by obtain⟨j,e,_⟩:=wD G.hd;unfold vS;rw[e,Option.bind_some,G.cl,Option.bind_some];simp[G.cg,G.ct]
 have c:=λ(A:xj)(R:Result->x9->Prop)(z:R (.ok (.ret (.ref C))) s)=>PySem.W.class_get (prog:=prog) (w:=w) (A:=A) (tp:=.ref C) X I G.mo z
 obtain⟨k,g,d,t,i⟩:=s;exact vY (vB (vY (vB (vY ((I.type).at (vY ((wO X I f).at (vY (vx (wpAny_call (c _ _ (vB ⟨rfl,h⟩))))))))))))
def uf(G:PD K C):PySem.W.KitX K (.ref x) (.ref C) (λh=>qc h x ox C od):=by
 refine⟨λ_ _ _ I=>I.type,λ_ _ X _=>(PySem.W.kit_cls X G.kc).2.1,λh e j c n f X b=>?_,λ{_ _ _ _ _ s}X I k=>?_⟩
 .cases q:(Value.ref C == .ref e)with
  |false=>rfl
  |true=>
   obtain⟨_,_,_,_,_,_,_,_,_,_,_,_,_,_,_,a,_⟩:=Mp X G.ec;rw[Value.ref.inj (beq_iff_eq.mp q),b]at a;have:=congrArg Obj.cls (xv a);exact absurd (Value.type.inj this) (by decide)
 .obtain⟨l,g,d,t,i⟩:=s;unfold getAttr? getAttrBy?;exact vY (wpAny_mkText (vY (wpAny_attempt (ue X I G (vB k)))))
end
noncomputable def ZG(tb:List (Str×Bool))(x:D)(G:DH):R D:=match x with
 | .ref i=>(match G[i]? with
  |some (.exc c _)=>(match tb.lookup c with
   |some b=>.ok (.bl b) G
   |none=>.bad)
  |_=>.bad)
 |_=>.bad
noncomputable def IQ(cs:List Str)(f:Str)(x:D)(G:DH):R D:=match x with
 | .ref i=>(match G[i]? with
  |some (.exc c (p::r))=>if c∈cs then(match(p::r).lookup f with
   |some d=>.ok d G
   |none=>.bad)else .bad
  |_=>.bad)
 |_=>.bad
def HeldAt(H:Hp)(x:V)(C:xz)(us:List (Str×V)):Prop:=∃a oe u vs dx o,x=.ref a/\H a=uQ (.WB oe u)/\oe.cls=.ref C/\oe.data=.fields vs/\oe.dict=uQ dx/\H dx=uQ (.WB o (.xd us))
def QB.exc(s:QB b G)(r:UB b (.ref i) v)(h:G[i]?=uQ (.exc c (p::fs))):∃C us,zb b.K xT c=uQ (uQ (.ref C))/\HeldAt b.H v C us/\OH b (p::fs) us:=by
 obtain⟨_,d⟩:=r;obtain⟨C,a,u,j,n,e,k,m,z⟩:=s.obj i _ h;rcases z with⟨z,_⟩|⟨g,o,us,q,w,l⟩
 .cases z
 exact⟨C,us,n,⟨_,a,u,j,g,o,d,e,k,m,q,w⟩,l⟩
def TN(H:Hp)(x:V)(C:xz):Prop:=∃a oe u vs,x=.ref a/\H a=uQ (.WB oe u)/\oe.cls=.ref C/\oe.data=.fields vs/\(oe.dict=uZ\/∃dx o us,oe.dict=uQ dx/\H dx=uQ (.WB o (.xd us)))
def QB.Eu(s:QB b G)(r:UB b (.ref i) v)(h:G[i]?=uQ (.exc c fs)):∃C,zb b.K xT c=uQ (uQ (.ref C))/\TN b.H v C:=by
 obtain⟨_,d⟩:=r;obtain⟨C,a,u,g,n,e,j,k,z⟩:=s.obj i _ h;rcases z with⟨_,z⟩|⟨m,o,l,q,w,x⟩
 .exact⟨C,n,_,a,u,g,d,e,j,k,.inl z⟩
 exact⟨C,n,_,a,u,g,d,e,j,k,.inr ⟨m,o,l,q,w⟩⟩
section
variable{X:Cx}{E:XK}{vG:List (xz×Obj)}{σ:St}{H:Hp}{s:x9}
def ug(I:Inv X vG σ H s)(h:HeldAt H x C us):∃(a:xz)(c od:Obj)(b:Str->Option xB),x=.ref a/\qc s.heap a c C (uQ od)/\(∀name,xg name od=uQ (b name))/\∀f,ZK (us.lookup f) (b f):=by
 obtain⟨a,c,u,w,k,o,rfl,l,m,n,g,r⟩:=h;obtain⟨j,_⟩:=(I.SA a _ l);obtain⟨y,b,i,q⟩:=(I.SA k _ r);obtain⟨od,v,d⟩:=dI i;refine⟨a,c,od,b,rfl,⟨j,m,?_,?_⟩,d,q⟩
 .unfold vT;rw[n]
 rw[g];exact v
def uh(I:Inv X vG σ H s)(h:TN H x C):∃(a:xz)(b:Obj)(od:Option Obj),x=.ref a/\qc s.heap a b C od:=by
 obtain⟨a,b,u,v,rfl,k,g,l,z⟩:=h;obtain⟨d,_⟩:=(I.SA a _ k);have c:vT b=uJ:=by unfold vT;rw[l]
 rcases z with z|⟨j,o,r,z,m⟩
 .exact⟨a,b,uZ,rfl,d,g,c,by rw[z];trivial⟩
 obtain⟨w,A,i,y⟩:=(I.SA j _ m);obtain⟨od,n,q⟩:=dI i;exact⟨a,b,uQ od,rfl,d,g,c,z▸n⟩
def Sn(K:za)(cv:V)(cu:xB):List V->Hp->VK->Prop:=λvs H Q=>∃x C b,vs=[x,cv]/\TN H x C/\PD K C/\vM K (.ref C) cu=uQ b/\Q (.bl b) H
def ui(c:∀u,RelV cv u->u=cu):YA X (.builtin "isinstance") (Sn X.K cv cu):=by
 intro i s r H y j Q I l h;obtain⟨x,C,b,rfl,m,G,hk,q⟩:=h;obtain⟨u,g,rfl,k,d⟩:∃u g,j=[u,g]/\RelV x u/\RelV cv g:=by
  cases l with
  |cons p q=>cases q with
   |cons n o=>cases o;exact⟨_,_,rfl,p,n⟩
 cases c _ d;obtain⟨a,A,v,rfl,J⟩:=uh I m;cases(k);exact qd (uf G) I.RE J hk (nofun) λw=>⟨.bl b,H,I.tok _,rfl,q⟩
variable{e ce:xw}{ces:List xw}{t:DE}{tb:List (Str×Bool)}{cv:V}{cu:xB}{cvs:List V}{cus:List xB}{p pos tp:Pos}
def gK(z:Gl X "isinstance")(J:X.mg "isinstance"=uZ)(I:QE X E e t)(N:PE X ce (tC cv))(l:∀u,RelV cv u->u=cu)
  (j:∀c b,tb.lookup c=uQ b->∀C,zb X.K xT c=uQ (uQ (.ref C))->PD X.K C/\vM X.K (.ref C) cu=uQ b) (y:notStar e=uJ:=by rfl) (o:notStar ce=uJ:=by rfl):
  QE X E (.Call (.Name "isinstance" p) [e,ce] [] pos) (XE (ZG tb) t):=
 (dR (ui l) z J ef (R6 I (R6 N aY (Ht ce [] X.env o)) (Ht e [ce] X.env y)) (by decide) (by decide) (Ht e [ce] X.env y) (Mu pos X.env [ce] (by simp[o]))).mono λP H Q h=>by
  obtain⟨a,S,G,hk,rfl,s,r,h⟩:=h;refine⟨a,S,G,hk,rfl,s,r,(Ec h).imp ?_⟩;rintro v _ ⟨b,d,O,rfl,x,w,q,-,g⟩;unfold ZG at g;split at g
  .rename_i i;split at g
   .rename_i c fs F;split at g
    .rename_i m B;obtain⟨C,n,A⟩:=w.Eu q F;obtain⟨L,M⟩:=j c m B C (by rw[<-hk,<-x.k];exact n);exact⟨v,C,m,rfl,A,L,M,g b _ (.refl b) w rfl⟩
    exact g.elim
   exact g.elim
  exact g.elim
variable{f:Str}{cs:List Str}
noncomputable def tXf(K:za)(ta:TE)(f:Str):TE:=λσ H Q=>ta σ H λx H1=>∃C us v,HeldAt H1 x C us/\PD K C/\NH K C f/\us.lookup f=uQ v/\Q v H1
def uj(r:PE X e ta)(m:xE e f X.env (eval e X.env)=eval e X.env):PE X (.Attribute e f pos) (tXf X.K ta f):=by intro b s A H Q I h;refine nU m (ZA (r b s A H _ I h) λu o zz=>?_);obtain⟨x,j,c,k,C,P,v,B,G,n,l,q⟩:=zz;obtain⟨a,L,O,F,rfl,J,z,y⟩:=ug c B;cases(k);obtain⟨M,w,i⟩:=ZK.MP (by rw[<-l];exact y f);obtain⟨N,g,d,t,S⟩:=o;unfold getAttr;exact vY (wpAny_mkText (ud c.RE J G (PySem.W.findObj_own G.hd n rfl (by rw[z,w])) (nS i) ⟨v,j,c.tok _,i,q⟩))
def uk(J:QE X E e t)(j:∀c∈cs,∀C,zb X.K xT c=uQ (uQ (.ref C))->PD X.K C/\NH X.K C f)(o:xE e f X.env (eval e X.env)=eval e X.env:=by rfl):
  QE X E (.Attribute e f pos) (XE (IQ cs f) t):=
 (uj J o).mono λT H Q h=>by
  obtain⟨a,S,G,hk,rfl,s,r,h⟩:=h;refine⟨a,S,G,hk,rfl,s,r,(Ec h).imp ?_⟩;rintro v _ ⟨b,d,N,rfl,x,l,q,-,g⟩;unfold IQ at g;split at g
  .rename_i i;split at g
   .rename_i c P fs I;split at g
    .rename_i w;split at g
     .rename_i O A;obtain⟨C,F,n,M,z⟩:=l.exc q I;obtain⟨m,L⟩:=j c w C (by rw[<-hk,<-x.k];exact n);obtain⟨u,B,y⟩:=z.look A;exact⟨C,F,u,M,m,L,B,g b u (.refl b) l y⟩
     exact g.elim
    exact g.elim
   exact g.elim
  exact g.elim
end
end _D
namespace _D
open PySem PySem.Spec PySem.W _L
open PyProof.Rows hiding St
def Jm{r:Option (Option xB)}{n:String}(h:NM r n=uJ):r=uQ (uQ (.builtin n)):=by
 unfold NM at h;split at h
 .rw[beq_iff_eq.mp h]
 cases h
def Hi{r:Option Bool}{b:Bool}(h:Dn r b=uJ):r=uQ b:=by
 unfold Dn at h;split at h
 .rw[beq_iff_eq.mp h]
 cases h
def Tu{d:Type}{r:Option (Option d)}(h:N5 r=uJ):r=uQ uZ:=by
 unfold N5 at h;split at h
 .rfl
 cases h
structure ET (K:vE) (mg:Str->Option xB) (c f:Str):Prop where
 N:nsIn K xT c=uQ (uQ (.ref (Ac K c)))
 g:mg c=uQ (.ref (Ac K c))
 k:keepIn K (.ref (Ac K c))=uJ
 X:RN K (Ac K c) f
 i:Ms K (Ac K c) (Bq K (Ac K c) "__init__")=uJ
 o:∃o,K.lookup (Bq K (Ac K c) "__init__")=uQ o/\o.cls=.type "function"
 G:PD K (Ac K c)
 no:NH K (Ac K c) f
def ul{K:vE}{a:xz}(h:aG K a=uJ):∃o,K.lookup a=uQ o/\o.cls=.type "function":=by
 unfold aG at h;split at h
 .rename_i t _ _ _ e;exact⟨_,e,by rw[beq_iff_eq.mp h]⟩
 cases h
def um{K:vE}{h:Heap}{l:Str->Option xB}{c f:Str}(X:K.In h)(G:h.Ns xT l)(s:Ld c f K=uJ):ET K l c f:=by simp[Ld,zq]at s;obtain⟨⟨⟨⟨⟨⟨g,r⟩,⟨⟨⟨m,H⟩,w⟩,L⟩,i⟩,y⟩,A⟩,⟨⟨⟨⟨⟨⟨u,M⟩,B⟩,J⟩,z⟩,I⟩,o⟩,C⟩,d⟩:=s;exact⟨Iu g,mg_of X G (Iu g),r,⟨m,fv H,w,Tu L,i⟩,y,ul A,⟨Jm u,Tu M,Hi B,i,Jm J,Jm z,Hi I,Hi o,Hi C,m⟩,fu d⟩
def uo(h:aH r n=uJ):r=uQ (.val (.builtin n)):=by
 unfold aH at h;split at h
 .rw[beq_iff_eq.mp h]
 cases h
def uq{K:vE}{h:Heap}{d:Str->Option xB}{x:Str}(X:K.In h)(G:h.Ns xT d)(s:aI x K=uJ):SN K d x (Ac K x):=by simp[aI,zq]at s;obtain⟨⟨⟨g,i⟩,l⟩,m⟩:=s;exact⟨mg_of X G (Iu g),Jm i,l,uo m⟩
def ur{K:vE}{h:Heap}{d:Str->Option xB}{x:Str}(X:K.In h)(G:h.Ns xT d)(s:LM K x=uJ):d x=uQ (.ref (Ac K x)):=mg_of X G (Iu s)
abbrev Lo(P:x0)(w:xC)(K:vE)(mg:Str->Option xB)(base:Heap)(k:Nat)(n:Str)(ps:List Str)(F:List D->DH->R D):Prop:=KC P w K mg base (OG P w) k (Ac K n) (Bb K (Ac K n)) ps (WV K F)
def ut:Passes (OG X.prog X.w) X E0:=λd g H s e i I h=>by obtain⟨_,_,_,_,_,_,_,_,_,_,_,_,_,z,_⟩:=h;exact z.elim
section
variable{X:Cx}{E:XK}{c x n f v:Str}{e a:xw}{es:List xw}{t:DE}{tr:DA}{p q pos PB np:Pos}{b:Bool}{F:List D->DH->R D}{k j:Nat}{ps:List Str}{st:xA}
def uu(h:Lo X.prog X.w X.K X.mg X.base k n ps F)(T:FT X.K X.mg n st ps)(r:TB j X.A)(o:QA X E0 (e::es) tr)(i:Nat.ble k j=uJ:=by rfl)(l:Gl X n:=by rfl)(g:(n==("__debug__":Str))=uX:=by decide)(s:notStar e=uJ:=by rfl)(d:es.all notStar=uJ:=by rfl):
  QE X E0 (.Call (.Name n p) (e::es) [] pos) (JA F tr):=bK h (r.mono (jW i)) l T.m T.k T.b ut o g s d
def Pb(h:Pm X.prog X.w X.K X.mg X.base k n ps F)(T:FT X.K X.mg n st ps)(r:TB j X.A)(o:QA X E (e::es) tr)(i:Nat.ble k j=uJ:=by rfl)(l:Gl X n:=by rfl)(g:(n==("__debug__":Str))=uX:=by decide)(s:notStar e=uJ:=by rfl)(d:es.all notStar=uJ:=by rfl):
  QE X E (.Call (.Name n p) (e::es) [] pos) (JA (OA F) tr):=ua h (r.mono (jW i)) l T.m T.k T.b o g s d
def Qa(T:ET X.K X.mg c f)(C:KC X.prog X.w X.K X.mg X.base WG k (Bq X.K (Ac X.K c) "__init__") (Bb X.K (Bq X.K (Ac X.K c) "__init__")) ["self",v] (UO (Ac X.K c) f))(I:Binds X.K (Bb X.K (Bq X.K (Ac X.K c) "__init__")) ["self",v] [])(L:TB j X.A)(J:QA X E [a] tr)
  (y:∀e s,Ga X E e s->X.xe e s:=by exact λ_ _ h=>h) (z:Nat.ble (k+1) j=uJ:=by rfl) (d:X.calm=uJ:=by rfl) (H:X.stack=X.env::X.outer:=by rfl) (m:X.ex=[]:=by rfl) (r:X.env.frame=uQ X.env.locals:=by rfl) (B:Gl X c:=by rfl) (u:(c==("__debug__":Str))=uX:=by decide) (l:notStar a=uJ:=by rfl):
  QS X E (.Raise (uQ (.Call (.Name c np) [a] [] PB)) uZ pos) (ZC c f tr):=
 u6 T.N d H m r y T.X T.i T.o C (L.mono (jW z)) I B T.g T.k J u l
end
noncomputable def ZW(t:DE):DE:=λS G=>match t S G with
 |.ok d G1=>.ok d G1
 |_=>.bad
@[simp]theorem M?:ZW t S G=(match t S G with
 |.ok d a=>.ok d a
 |_=>.bad):=id rfl
theorem uv(h:QE X E0 e t):QE X E e (ZW t):=.mono h λf H Q h=>by
 obtain⟨a,S,G,hk,rfl,c,r,h⟩:=h;refine⟨a,S,G,hk,rfl,c,r,?_⟩;unfold ZW at h
 revert h
 cases t S G with
 |err x b=>exact λh=>h.elim
 |_=>exact λh=>h
noncomputable def SR.nr:SR->SR
 |.err _ _=>.bad
 |r=>r
def YF(t:DS):DS:=λS G=>(t S G).nr
@[simp]theorem Mo:YF t S G=(t S G).nr:=id rfl
@[simp]theorem N?:(SR.nx S G).nr=.nx S G:=id rfl
@[simp]theorem O?:(SR.rt d G).nr=.rt d G:=id rfl
theorem uw{K:vE}{E:XK}{t:DS}{W:Ends}{e:St}{H:Hp}(h:lS K E (YF t) W e H):lS K E0 t W e H:=by
 obtain⟨a,S,G,hk,rfl,f,r,h⟩:=h;refine⟨a,S,G,hk,rfl,f,r,?_⟩;unfold YF at h
 revert h
 cases t S G with
 |err x b=>exact λh=>h.elim
 |_=>exact λh=>h
def Jy(h:QS X E0 s t):QS X E s (YF t):=.mono h λ_ _ _ z=>uw z
end _D
namespace _D
open PySem PySem.Spec _L
open PyProof.Rows hiding St
noncomputable def UT(F:List D->DH->R D)(t:DA):DE:=λS G=>match t S G with
 |.ok ds G1=>F ds G1
 |_=>.bad
def Po(X:Cx)(e:xw)(t:DE):Prop:=∀(vG:List (xz×Obj))(s:x9)(σ:St)(H:Hp)(Q:VK)(E:XK),Inv X vG σ H s->lE X.K E t σ H Q->
 vW (xU X.prog X.w) X.A (eval e X.env) (EP X vG σ Q) (λe s'=>∃H1 s1,Inv X vG σ H1 s1/\OG X.prog X.w X.stack H1 s1 E e s') s
def So(X:Cx)(b:List xA)(t:DS):Prop:=∀(vG:List (xz×Obj))(s:x9)(σ:St)(H:Hp)(Nx:St->Hp->Prop)(E:XK),Inv X vG σ H s->lS X.K E t {nx:=Nx,rt:=λ_ _=>False} σ H->
 vW (xU X.prog X.w) X.A (execs b X.env) (λfl s'=>fl=.next/\∃σ' H',Inv X vG σ' H' s'/\Nx σ' H') (λe s'=>∃H1 s1,Inv X vG σ H1 s1/\OG X.prog X.w X.stack H1 s1 E e s') s
section
variable{X:Cx}{f:xz}{fn:Str}{fp cp ep pos:Pos}{a e:xw}{es:List xw}{t:DA}{te:DE}{F:List D->DH->R D}{k:Nat}{fd:xk}{ps:List Str}
theorem ux(U:KC X.prog X.w X.K X.mg X.base (OG X.prog X.w) k f fd ps spx)(hr:TB k X.A)(C:Vals VM dus)(B:Binds X.K fd ps dus)(Y:Gl X fn)(hm:X.mg fn=uQ (.ref f))(hk:zh X.K (.ref f)=uJ)(ha:QA X.PQ E0 (a::es) t)
  (hF:∀(w:Wd)(G:DH)(p:List D)(vs:List V)(Q:VK)(E:XK),w.K=X.K->QB w G->KA w p vs->out E w (F p G) Q->spx (vs++VM) w.H Q E)
  (J:(fn==("__debug__":Str))=uX) (he:vX (a::es) X.env=(uX,eval a X.env)::vX es X.env) (L:(xF cp (vX es X.env)).any (·.1)=uX):
  Po X (.Call (.Name fn fp) (a::es) [] cp) (UT F t):=by
 intro l s T H Z E I h;have h':lA X.K E0 t T H λvs o=>spx (vs++VM) o Z E:=by
  obtain⟨w,S,G,d,rfl,sm,r,h⟩:=h;refine⟨w,S,G,d,rfl,sm,r,?_⟩;unfold UT at h;cases M:t S G with
  |err x N=>rw[M]at h;exact h.elim
  |bad=>rw[M]at h;exact h
  |ok p N=>
   rw[M]at h;exact λb vs y j q=>hF b N p vs _ E (y.k.trans d) j q (out.mono y h)
 refine vK (Mt I Y hm ?_ J);refine xi I.ok.mod.IU hk (vv (ha cp l s T H _ (I.OF _) h') (λv j ⟨vs,o,P,r,q⟩=>⟨P.RE,?_⟩) λ_ _ z=>z.elim) he L;have c:=P.RD;have O:=r.append C;have m:(v++dus).length=ps.length:=by rw[<-O.length];exact U.len _ _ _ _ q
 refine wpAny_call (xN (U.run X.A X.stack j o ⟨v,[]⟩ (v++dus) (vs++VM) _ E hr c.WR (B j v c.RE m) O q) λr s' g=>?_);cases r with
 |ok fl=>
  cases fl with
  |ret u=>exact c.after g
  |_=>exact .elim g
 |error e=>exact⟨o,j,c,g⟩
def uy(L:Po X e te)(j:swapsWith e uZ ep.line X.env=pure uX:=by rfl):So X [.Expr e ep] (XG te):=by
 intro g s c H C E I h;obtain⟨w,S,G,l,rfl,J,r,h⟩:=h;have M:lE X.K E te c w.H λ_ z=>C c z:=by
  refine⟨w,S,G,l,rfl,J,r,?_⟩;unfold XG at h;cases m:te S G with
  |ok d A=>rw[m]at h;exact λb v y o q=>h b c y o (r.mono y)
  |_=>rw[m]at h;exact h
 exact wpAny_execs_cons (wpAny_Expr_any (ZA (L g s c w.H _ E I M) λu o ⟨v,p,B,_,q⟩=>wpAny_execs_nil ⟨rfl,c,p,B,q⟩) I.quiet j)
end
noncomputable abbrev ZQ:=Xn->ZB->DH->SR
def QH(X:Cx)(hs:List ExceptHandler)(f:ZQ):Prop:=∀(vG:List (xz×Obj))(s:x9)(σ:St)(H':Hp)(W:Ends)(ea C:xz)(oe:Obj)(vs:Array xB)(x:Xn)(w:Wd)(S:ZB)(G:DH)(E:XK),
 s.heap.get? ea=uQ oe->oe.cls=.ref C->oe.data=.fields vs->H' ea=uZ->Inv X vG σ (upd H' ea (.WB oe (.own 0))) s->(∃B:Heap,SK s.heap B ea (.ref C) oe.dict .none)->
 w.K=X.K->w.H=H'->QB w G->RB w S σ->zb w.K xT x.cls=uQ (uQ (.ref C))->XD w oe.dict x.fs->Bh E w (f x S G) W->
 vW (xU X.prog X.w) X.A (handleBy (.ref ea) X.env hs) (SP X vG W) X.xe s
noncomputable def gL:ZQ:=λ_ _ _=>.bad
def uz:QH X [] gL:=λb s d c W g C l j x w S G E _ _ _ _ _ _ _ _ _ _ _ _ h=>h.elim
def Te(ws ns:List Str)(i:Nat)(hb:DS)(f:ZQ):ZQ:=λx S G=>if x.cls∈ws then XW i (hb (S.set i (uQ (.ref G.length))) (G++[.exc x.cls x.fs]))else if x.cls∈ns then f x S G else .bad
def gM{X:Cx}{vG:List (xz×Obj)}{Y:St}{H:Hp}{s:x9}{m C W:xz}{u:Obj}{x:Str}{I hp:Pos}{b:Bool}{R:Result->x9->Prop}(ho:s.heap.get? m=uQ u)(O:u.cls=.ref C)(J:Inv X vG Y H s)(j:Gl X x)(g:X.mg x=uQ (.ref W))(h:(x==("__debug__":Str))=uX)
  (r:Np X.K C W b=uJ) (q:R (.ok (if b then .brk else .next)) s):codeAny (xU X.prog X.w) (X.A.mark (uQ (.ref m))) (.handlers (.ref m) [.ExceptHandler (uQ (.Name x I)) uZ [] hp] X.env) R s:=by
 unfold Np at r;simp only[zq]at r;obtain⟨⟨t1,Q⟩,p⟩:=r;obtain⟨z,N,nm,qn,bs,sn,sub,ab,Z,dd,k0,k1,k2,k3,k5,d,T,_⟩:=Mp J.RE t1;obtain⟨S,N',Kn,H?,L,P,y,M,v,B,l0,l1,l2,l3,l5,c,E,_⟩:=Mp J.RE Q;have o:(.ref C::z).contains (.ref W)=b:=by
  split at p
  .rename_i c0 d0 cd U l;have:=J.RE _ _ l;rw[d]at this;cases this;exact eq_of_beq p
  cases p
 exact codeAny_handlers_test (Mt (gH J) j g (u0 d c ho O (E.hasType PySem.F.excBase_ValueError.hasBase) o q) h)
section
variable{X:Cx}{W:xz}{x n:Str}{np hp pos:Pos}{i:Nat}{b₀:xA}{SI:List xA}{hb:DS}{ws ns:List Str}{hs:List ExceptHandler}{f:ZQ}
def vm(d:X.calm=uJ)(P?:Gl X x)(T:X.mg x=uQ (.ref W))(Z:X.N.Nodup)(hi:X.N[i]?=uQ n)(Q:X.env.kindOf n=uQ .local)
  (hws:∀c∈ws,∀C,zb X.K xT c=uQ (uQ (.ref C))->Np X.K C W uJ=uJ) (To:∀c∈ns,∀C,zb X.K xT c=uQ (uQ (.ref C))->Np X.K C W uX=uJ)
  (hh:∀o,OL (P0 X o) E0 (b₀::SI) hb) (hr:QH X hs f) (Q?:(x==("__debug__":Str))=uX:=by decide):
  QH X (.ExceptHandler (uQ (.Name x np)) (uQ n) (b₀::SI) hp::hs) (Te ws ns i hb f):=by
 intro y s σ H' D o C Y vs xn w S G E ho hc U fe J tr p hH sm r hn hx h;subst hH;have b:=J.ok.hd d;unfold Te at h;split at h
 .rename_i hw;refine wpAny_handleBy_cons (gM ho hc J P? T Q? (hws _ hw C (by rw[<-p];exact hn)) ?_) (by intro q;cases q);obtain⟨B,tr⟩:=tr;refine codeAny_handlers_suite_as (u4 tr λh3 kp=>?_);refine aS (J.kept kp) Z hi (.inl Q) (v:=.ref o) rfl (λs4 I4=>?_) (.inr Q);have P:=Ext.push (ho:=.WB Y (.own 0)) fe;have run:lS X.K E0 hb {nx:=λg j=>D.nx (g.set i uZ) j,rt:=D.rt,bk:=λg j=>D.bk (g.set i uZ) j,ct:=λg j=>D.ct (g.set i uZ) j} (σ.set i (uQ (.ref o))) (upd w.H o (.WB Y (.own 0))):=by
   refine⟨w.push o (.WB Y (.own 0)),S.set i (uQ (.ref G.length)),G++[.exc xn.cls xn.fs],p,rfl,?_,?_,?_⟩
   .exact sm.push fe ⟨C,Y,.own 0,vs,hn,rfl,hc,U,hx.mono P⟩
   .refine(r.mono P).set i ⟨?_,?_⟩
    .rw[sm.len];exact q9 _
    show V.ref o=V.ref (if G.length=w.n then o else w.m G.length);rw[if_pos sm.len]
   revert h
   cases hb (S.set i (uQ (.ref G.length))) (G++[.exc xn.cls xn.fs])with
   |rt d3 G3=>exact λh c v3 I O A=>h c v3 (P.trans I) O A
   |err x3 G3|bad=>exact λh=>h.elim
   |_=>exact λh c σ3 I O A=>h c _ (P.trans I) O (A.unset i)
  refine vv (hh o y s4 _ _ _ (gH I4) run) (λfl s5 l=>?_) λ_ _ z=>z.elim
  cases fl with
  |next|brk|cont=>
   obtain⟨g,j,M,l⟩:=l;exact gG (gI (calm:=d) b M) Z hi Q λs6 L=>⟨_,j,L,l⟩
  |ret u=>
   obtain⟨v,g,j,M,rv,l⟩:=l;exact gG (gI (calm:=d) b M) Z hi Q λs6 L=>⟨v,_,j,L,rv,l⟩
 .split at h
  .rename_i hw;exact wpAny_handleBy_cons (gM ho hc J P? T Q? (To _ hw C (by rw[<-p];exact hn)) (hr y s σ w.H D o C Y vs xn w S G E ho hc U fe J tr p rfl sm r hn hx h)) (by intro q;cases q)
  exact h.elim
end
noncomputable def Nk(t:DS)(f:ZQ):DS:=λS G=>match t S G with
 |.nx S2 G2=>.nx S2 G2
 |.err x G2=>f x S G2
 |_=>.bad
def vn(v:X.stack=X.env::X.outer)(B:X.env.frame=uQ X.env.locals)(hb:So X b t)(hh:QH X (h0::hs) f):QS X E (.Try b (h0::hs) [] [] pos) (Nk t f):=by
 intro j s u H D I h;obtain⟨w,S,G,o,rfl,sm,r,h⟩:=h;let E1:XK:=λl Q H'=>l=.none\/∃C x g c,l=.ref C/\zb c.K xT x.cls=uQ (uQ (.ref C))/\c.K=X.K/\c.H=H'/\QB c g/\RB c S u/\XD c Q x.fs/\Bh E c (f x S g) D
 have M:lS X.K E1 t {nx:=D.nx,rt:=λ_ _=>False} u w.H:=by
  refine⟨w,S,G,o,rfl,sm,r,?_⟩;unfold Nk at h;cases m:t S G with
  |bad|nx S2 g=>rw[m]at h;exact h
  |err xn g=>
   rw[m]at h;refine⟨λz=>?_,λc C Q O p y P=>.inr ⟨C,xn,g,c,rfl,y,O.k.trans o,rfl,p,r.mono O,P,Bh.mono O h⟩⟩;have:=congrFun (congrFun (congrFun z Value.none) uZ) w.H;exact cast this (.inl rfl)
  |_=>rw[m]at h;exact h.elim
 refine wpAny_Try_except (vv (hb j s u w.H _ E1 I M) (λfl s1 ⟨e,T,Z,A,q⟩=>?_) λe s1 ⟨Z,p,A,hq⟩=>?_)
 .subst e;exact wpAny_execs_nil ⟨T,Z,A,q⟩
 refine WW v B A hq λea C Q H' oe U Sm ee ho hc hd L hE fe J tr Y=>?_
 subst ee;rcases hE with z|⟨C',xn,g,c,z,y,N,hH,p,r2,P,h2⟩
 .obtain⟨C2,z2⟩:=Y;rw[z]at z2;cases z2
 .subst z hd hH;exact hh j _ u c.H D ea C' oe U xn c S g E ho hc L fe J tr N rfl p r2 y P h2
section
open PySem.W
def vp{K:vE}{h:Heap}{N:xz}{m:Str->Option xB}{n:Str}(X:K.In h)(G:h.Ns N m)(e:nsIn K N n=uQ uZ):m n=uZ:=by
 obtain⟨o,z,A,r,g,_,i⟩:=G;unfold nsIn at e;split at e
 .rename_i c d s y u q;have:=X _ _ q;rw[r]at this;cases this;cases g;split at e
  .cases e
  rename_i l;rw[<-i];unfold nsFind findBy;rw[<-Array.find?_toList,l]
  rfl
 cases e
section
variable{X:Cx}{C:xz}{x:Str}{np PB pos:Pos}{a:xw}{ta:TA}{E:XK}
noncomputable def Pp(C:xz)(E:XK)(ta:TA):TS:=λ_ σ H=>ta σ H λvs H1=>vs.length<=1000/\E (.ref C) uZ H1
def vr(l:X.calm=uJ)(hs:X.stack=X.env::X.outer)(Q:X.ex=[])(P:X.env.frame=uQ X.env.locals)(O:∀e s,Ga X E e s->X.xe e s)
  (ec:Eu X.K C=uJ) (L:Wn X.K C=uJ) (hg:Gl X x) (hm:X.mg x=uQ (.ref C)) (hk:keepIn X.K (.ref C)=uJ) (ha:PA X [a] ta) (S:(x==("__debug__":Str))=uX:=by decide)
  (he:vX [a] X.env=(uX,eval a X.env)::vX [] X.env:=by rfl) (Y:(xF PB (vX [] X.env)).any (·.1)=uX:=by rfl):
  PS X (.Raise (uQ (.Call (.Name x np) [a] [] PB)) uZ pos) (Pp C E ta):=by
 intro B s σ H D I h;refine gF (C:=C) (I.ok.hd l) ?_;refine vK (Mt I hg hm ?_ S);refine callWith_K I.ok.mod.IU hk (ZA (ha PB B s σ H _ I h) λus s1 ⟨vs,Z,y,r,hl,q⟩=>⟨y.RE,?_⟩) he Y;obtain⟨bm,N,nm,qn,bs,sn,sub,ab,W,dd,k0,k1,k2,k3,k5,A,T,m,hN,E?⟩:=Mp y.RE ec;have M:m "__init__"=uZ:=by
  unfold Wn at L;split at L
  .rename_i c0 d0 cd sl0 U;have:=y.RE _ _ U;rw[A]at this;cases this;exact vp y.RE hN (Tu L)
  cases L
 have F?:us.length<=sizeLine:=by rw[<-r.length,vZ];lia
 obtain⟨hp,g,d,tk,os⟩:=s1;have FB:=vP;refine wpAny_call_exc_subT FB T A hN M λh' e i=>?_
 obtain⟨t,ht,_,_⟩:=i.there;have fe:Z e=uZ:=by
  cases z:Z e with
  |none=>rfl
  |some u=>
   obtain⟨o,k⟩:=gC (y.SA e u z);have k':=k;rw[i.new]at k';cases k'
 have J:=y.kept (t':=tk) i.keeps;exact⟨e,uZ,t,bm,N,nm,qn,bs,uJ,sn,sub,ab,W,dd,k0,k1,k2,k3,k5,_,rfl,i.keeps _ _ A,T.hasType FB.hasBase,ht,O _ _ (gD hs Q P y (⟨rfl,J.bare,⟨λb o k _ _ _=>i.keeps b o k,λb o k _ _ _=>⟨o.slots,i.keeps b o k⟩,λb o k n _=>n,λb o k _=>⟨o,i.keeps b o k⟩,λb xs k=>k,λb o u k=>k,λb ps k=>⟨#[],Array.append_empty▸k⟩⟩,J.SA,⟨_,_,ht,rfl,rfl,rfl,rfl⟩,fe,i.new⟩) q ⟨C,rfl⟩)⟩
end
noncomputable def M8(c:Str)(t:DA):DS:=λS G=>match t S G with
 |.ok ds G1=>if ds.length=1 then .err ⟨c,[]⟩ G1 else .bad
 |.err x G1=>.err x G1
 |.bad=>.bad
structure Zp (K:vE) (mg:Str->Option xB) (c:Str):Prop where
 N:nsIn K xT c=uQ (uQ (.ref (Ac K c)))
 g:mg c=uQ (.ref (Ac K c))
 k:keepIn K (.ref (Ac K c))=uJ
 ec:Eu K (Ac K c)=uJ
 ni:Wn K (Ac K c)=uJ
 G:PD K (Ac K c)
def vt{K:vE}{h:Heap}{i:Str->Option xB}{c:Str}(X:K.In h)(G:h.Ns xT i)(s:RM c K=uJ):Zp K i c:=by simp[RM,zq]at s;obtain⟨⟨⟨⟨d,r⟩,g,y⟩,u⟩,⟨⟨⟨⟨⟨⟨A,B⟩,o⟩,I⟩,z⟩,H⟩,l⟩,m⟩:=s;exact⟨Iu d,mg_of X G (Iu d),r,g,u,⟨Jm A,Tu B,Hi o,y,Jm I,Jm z,Hi H,Hi l,Hi m,g⟩⟩
section
variable{X:Cx}{E:XK}{c x n f v w:Str}{e a:xw}{es:List xw}{t:DE}{tr:DA}{p q pos PB np fp cp ep hp:Pos}{b:Bool}{F:List D->DH->R D}{k j:Nat}{ps:List Str}{st:xA}
def wf(T:Zp X.K X.mg c)(J:QA X E [a] tr)
  (u:∀e s,Ga X E e s->X.xe e s:=by exact λ_ _ h=>h) (d:X.calm=uJ:=by rfl) (I:X.stack=X.env::X.outer:=by rfl) (l:X.ex=[]:=by rfl) (m:X.env.frame=uQ X.env.locals:=by rfl) (B:Gl X c:=by rfl) (o:(c==("__debug__":Str))=uX:=by decide) (i:notStar a=uJ:=by rfl):
  QS X E (.Raise (uQ (.Call (.Name c np) [a] [] PB)) uZ pos) (M8 c tr):=
 (vr d I l m u T.ec T.ni B T.g T.k J o (Ht a [] X.env i) rfl).mono λW P H h=>by
  obtain⟨w,S,G,hk,rfl,M,r,h⟩:=h;refine⟨w,S,G,hk,rfl,M,r,?_⟩;unfold M8 at h;cases z:tr S G with
  |ok U A=>
   rw[z]at h;dsimp only at h;split at h
   .rename_i L;intro b Q y O q;refine⟨by rw[<-q.length,L];decide,h.2 b _ uZ y O ?_ (.inl ⟨rfl,rfl⟩)⟩;rw[y.k,hk];exact T.N
   exact h.elim
  |_=>rw[z]at h;exact h
def wg(l:Lo X.prog X.w X.K X.mg X.base k n ps F)(T:FT X.K X.mg n st ps)(z:TB j X.A)(u:QA X.PQ E0 (a::es) tr)(i:Nat.ble k j=uJ:=by rfl)(o:Gl X n:=by rfl)
  (g:(n==("__debug__":Str))=uX:=by decide) (B:vX (a::es) X.env=(uX,eval a X.env)::vX es X.env:=by rfl) (d:(xF cp (vX es X.env)).any (·.1)=uX:=by rfl):
  Po X (.Call (.Name n fp) (a::es) [] cp) (UT F tr):=
 ux l (z.mono (jW i)) .nil T.b o T.m T.k u (λw G y H Q E hk s r h=>by rw[qY];exact⟨w,G,y,hk,rfl,s,r,h⟩) g B d
def Tk(K:vE)(w:Str)(b:Bool)(ws:List Str):Prop:=∀c∈ws,∀C,nsIn K xT c=uQ (uQ (.ref C))->Np K C (Ac K w) b=uJ
def wh{K:vE}:Tk K w b []:=λc h=>absurd h (by simp)
def wm{i:Nat}{h:xA}{d:List xA}{y:DS}{s ns:List Str}{u:List ExceptHandler}{g:ZQ}(M:X.mg w=uQ (.ref (Ac X.K w)))(O:Tk X.K w uJ s)(I:Tk X.K w uX ns)(J:TB j X.A)(B:X.N.Nodup)(L:∀m,LH j (P0 X m).A->OL (P0 X m) E0 (h::d) y)(HX:QH X u g)
  (l:X.calm=uJ:=by rfl) (r:Gl X w:=by rfl) (H:X.N[i]?=uQ x:=by rfl) (z:X.env.kindOf x=uQ .local:=by rfl) (o:(w==("__debug__":Str))=uX:=by decide):
  QH X (.ExceptHandler (uQ (.Name w np)) (uQ x) (h::d) hp::u) (Te s ns i y g):=
 vm l r M B H z O I (λm=>L m (.held (.of J))) HX o
def wo(l:So X bd ts)(i:QH X (h0::hs) g)(d:X.stack=X.env::X.outer:=by rfl)(h:X.env.frame=uQ X.env.locals:=by rfl):QS X E (.Try bd (h0::hs) [] [] pos) (Nk ts g):=
 vn d h l i
def Tb(K:vE)(P:xz->Bool->Prop)(tb:List (Str×Bool)):Prop:=∀c b,tb.lookup c=uQ b->∀C,nsIn K xT c=uQ (uQ (.ref C))->P C b
def wt{K:vE}{P:xz->Bool->Prop}:Tb K P []:=λc b h=>by cases h
def wu{K:vE}{P:xz->Bool->Prop}{l:List (Str×Bool)}(m:nsIn K xT c=uQ (uQ (.ref (Ac K c))))(h:P (Ac K c) b)(r:Tb K P l):Tb K P ((c,b)::l):=by
 intro i o d C g;by_cases z:i=c
 .subst z;rw[m]at g;cases g;simp[jR,beq_self_eq_true]at d;cases d;exact h
 have:(i==c)=uX:=by simpa using z
 simp[jR,this]at d;exact r i o d C g
def xm(i:X.mg "isinstance"=uZ)(r:X.mg w=uQ (.ref (Ac X.K w)))(k:Tb X.K (λC b=>PD X.K C/\kitOne X.K (.ref C) (.ref (Ac X.K w))=uQ b) tb)(g:QE X E e t)(d:Gl X "isinstance":=by rfl)(m:Gl X w:=by rfl)(l:(w==("__debug__":Str))=uX:=by decide)(o:notStar e=uJ:=by rfl):
  QE X E (.Call (.Name "isinstance" p) [e,.Name w q] [] pos) (XE (ZG tb) t):=
 gK (cv:=.ref (Ac X.K w)) d i g (dB m r rfl l) (λu h=>h) k o rfl
def xo(m:X.mg "isinstance"=uZ)(y:X.mg w=uZ)(l:xL w=uQ (.type T))(k:Tb X.K (λC b=>PD X.K C/\kitOne X.K (.ref C) (.type T)=uQ b) tb)(i:QE X E e t)(g:Gl X "isinstance":=by rfl)(r:Gl X w:=by rfl)(d:w≠"__name__":=by decide)(o:(w==("__debug__":Str))=uX:=by decide)(s:notStar e=uJ:=by rfl):
  QE X E (.Call (.Name "isinstance" p) [e,.Name w q] [] pos) (XE (ZG tb) t):=
 gK (cv:=.ty T) g m i (dD r y l rfl d o) (λu h=>h) k s rfl
structure XN (K:vE) (c:Str):Prop where
 N:nsIn K xT c=uQ (uQ (.ref (Ac K c)))
 G:PD K (Ac K c)
def xp{K:vE}{cu:xB}{d:List (Str×Bool)}(T:XN K c)(k:Dn (kitOne K (.ref (Ac K c)) cu) b=uJ)(r:Tb K (λC b=>PD K C/\kitOne K (.ref C) cu=uQ b) d):Tb K (λC b=>PD K C/\kitOne K (.ref C) cu=uQ b) ((c,b)::d):=wu T.N ⟨T.G,Hi k⟩ r
def Cf(K:vE)(f:Str)(cs:List Str):Prop:=∀c∈cs,∀C,nsIn K xT c=uQ (uQ (.ref C))->PD K C/\NH K C f
def Xf{K:vE}:Cf K f []:=λc h=>absurd h (by simp)
def Ho{K:vE}{g:Str->Option xB}{cs:List Str}(T:ET K g c f)(r:Cf K f cs):Cf K f (c::cs):=λi h C d=>by
 rcases zZ.mp h with z|z
 .subst z;rw[T.N]at d;cases d;exact⟨T.G,T.no⟩
 exact r i z C d
def Vk(T:Cf X.K f cs)(g:QE X E e t)(d:xE e f X.env (eval e X.env)=eval e X.env:=by rfl):QE X E (.Attribute e f pos) (XE (IQ cs f) t):=uk g T d
end
section
variable{prog:x0}{w:xC}{A:xj}{E:xB->x9->Prop}{s:x9}
def xr{t b:xz}{i:List xB}{Q:xB->x9->Prop}(v:IsTup s.heap t #[])(u:IsTup s.heap b i.toArray)(h:Q (.ref b) s):vW (xU prog w) A (xI .Add (.ref t) (.ref b)) Q E s:=by obtain⟨⟨q,x,k,p⟩,o,m,n,l⟩:=id v;obtain⟨⟨j,g,f,e⟩,a,d,r,c⟩:=id u;simp only at m l d c;subst m l d c;exact concat_meets ⟨_,o,rfl⟩ ⟨_,a,rfl⟩ noFill_tuple_add seq_tuple_add vH vI (vL _ _) (tuple_addW0 t b #[] i.toArray n r x g p e rfl) ⟨o,a,h⟩
end
section
variable{X:Cx}{E:XK}
def xt:VB X (xI .Add) (λx y H Q=>∃a b ys,x=.ref a/\y=.ref b/\JE X.K H a []/\JE X.K H b ys/\Q (.ref b) H):=by intro d s n H x y v u Q I i m h;obtain⟨a,b,ys,rfl,rfl,g,f,q⟩:=h;cases i;cases m;obtain⟨e,j,l,_⟩:=I.tuple g;obtain⟨c,o,k,_⟩:=I.tuple f;cases j;exact xr l k ⟨.ref b,H,I,rfl,q⟩
def Ea:D->D->DH->R D
 |.tup [],.tup ys,G=>.ok (.tup ys) G
 |d,e,G=>By d e G
def xu:VB X (xI .Add) (WE X.K E Ea):=λb s j H x y v u Q I l o h=>by
 obtain⟨a,G,d,e,hk,n,r,i,m,q⟩:=h;unfold Ea at q;split at q
 .rename_i J;subst n;obtain⟨p,B,t,k,C⟩:=i;obtain⟨g,c,F,f,z⟩:=m;rw[hk]at k f;obtain rfl:B=[]:=jz (by rw[<-C.length];rfl);exact xt b s j a.H x y v u Q I l o ⟨p,g,c,t,F,k,f,q a (.ref g) (.refl a) r ⟨g,c,rfl,hk▸f,z⟩⟩
 exact Ir b s j H x y v u Q I l o ⟨a,G,d,e,hk,n,r,i,m,q⟩
end
end
noncomputable def tgN:xw->List Str
 |.Name x _=>[x]
 |.Tuple es _ _=>es.flatMap λe=>match e with
  |.Name x _=>[x]
  |_=>[]
 |_=>[]
def Do(tg:xw)(caps:List Nat)(N:List Str):List Str:=tgN tg++caps.map λj=>N.getD j ""
section
variable{X:Cx}{scope:x2}{nt:Nat}{caps:List Nat}{tg elt iter:xw}{ifs:List xw}{pos:Pos}{it:DI}{g:DG}{c:DB}{te:DE}
def yA(m:QI X E0 tg iter it)(j:∀C b a d,(Do tg caps X.N).Nodup->QG (LF X (Do tg caps X.N) scope C b a d) E0 tg g)(o:GK nt g)(e:∀C b a d,RL (LF X (Do tg caps X.N) scope C b a d) E0 ifs c)
  (k:∀C b a d,QE (LF X (Do tg caps X.N) scope C b a d) E0 elt te) (n:X.calm=uJ:=by rfl) (hk:scope.kind=.function:=by rfl) (f:∀x,X.env.kindOf x=X.env.scope.names.lookup x:=by intro _;rfl)
  (h:Ob X.env.scope.names X.N (Do tg caps X.N) scope.names nt caps=uJ:=by kernel_rfl) (l:∀x,foldedSetIterable iter X.env x=pure x:=by intro _;rfl):QE X E0 (.ListComp elt [⟨tg,iter,ifs,0⟩] scope pos) (Cw it nt caps g c te):=
 have i:=Ke hk f rfl h
 Mr n i m (λC b a d=>j C b a d i.nd) o e k l
def yB(i:Nat){y:Str}{l d:Pos}(u:X.N.Nodup)(v:QI X E0 tg iter it)(p:∀C a b e,(Do tg caps X.N).Nodup->QG (LF X (Do tg caps X.N) scope C a b e) E0 tg g)(o:GK nt g)(f:∀C a b e,RL (LF X (Do tg caps X.N) scope C a b e) E0 ifs c)
  (t:∀C a b e,QE (LF X (Do tg caps X.N) scope C a b e) E0 elt te) (s:X.calm=uJ:=by rfl) (hk:scope.kind=.function:=by rfl) (j:∀x,X.env.kindOf x=X.env.scope.names.lookup x:=by intro _;rfl)
  (h:Ob X.env.scope.names X.N (Do tg caps X.N) scope.names nt caps=uJ:=by kernel_rfl)
  (r:X.N[i]?=uQ y:=by rfl) (w:Loc X.env.scope y:=by rfl') (n:X.fn y=uJ\/X.env.scope.names.lookup y=uQ .local:=by rfl')
  (k:swapsWith (.ListComp elt [⟨tg,iter,ifs,0⟩] scope pos) (uQ (.Name y l)) d.line X.env=pure uJ:=by rfl)
  (q:∀x,foldedSetIterable iter X.env x=pure x:=by intro _;rfl):QS X E0 (.Assign [.Name y l] (.ListComp elt [⟨tg,iter,ifs,0⟩] scope pos) d) (XB (Cw it nt caps g c te) (gV i)):=
 have m:=Ke hk j rfl h
 rN i s u m v (λC a b e=>p C a b e m.nd) o f t r w n k q
end
def XJ{p:List xB->Prop}(h:p [])(us:List xB)(e:us.length=0):p us:=by cases us with |nil=>exact h|cons a r=>cases e
def Bw{n:Nat}{p:List xB->Prop}(h:∀a r,r.length=n->p (a::r))(us:List xB)(e:us.length=n+1):p us:=by cases us with |nil=>cases e|cons a r=>exact h a r (Nat.succ.inj e)
def Iq{p:List xB->Prop}(h:∀a,p [a]):∀us:List xB,us.length=1->p us:=Bw λa=>XJ (h a)
def IX{p:List xB->Prop}(h:∀a b,p [a,b]):∀us:List xB,us.length=2->p us:=
 Bw λa=>Bw λb=>XJ (h a b)
def Qr{p:List xB->Prop}(h:∀a b c,p [a,b,c]):∀us:List xB,us.length=3->p us:=
 Bw λa=>Bw λb=>Bw λc=>XJ (h a b c)
def Sr{p:List xB->Prop}(h:∀a b c d,p [a,b,c,d]):∀us:List xB,us.length=4->p us:=
 Bw λa=>Bw λb=>Bw λc=>Bw λd=>XJ (h a b c d)
def Ps{p:List xB->Prop}(h:∀a b c d e,p [a,b,c,d,e]):∀us:List xB,us.length=5->p us:=
 Bw λa=>Bw λb=>Bw λc=>Bw λd=>Bw λe=>XJ (h a b c d e)
def Ts{p:List xB->Prop}(h:∀a b c d e f,p [a,b,c,d,e,f]):∀us:List xB,us.length=6->p us:=
 Bw λa=>Bw λb=>Bw λc=>Bw λd=>Bw λe=>Bw λf=>XJ (h a b c d e f)
def JX{p:List xB->Prop}(h:∀a b c d e f g,p [a,b,c,d,e,f,g]):∀us:List xB,us.length=7->p us:=
 Bw λa=>Bw λb=>Bw λc=>Bw λd=>Bw λe=>Bw λf=>Bw λg=>XJ (h a b c d e f g)
def HR{N P:List Str}{h:x2}(a:h.kind=.function:=by rfl)(b:h.isCoroutine=uX:=by rfl)(c:h.isGenerator=uX:=by rfl)(d:N.Nodup:=by decide +kernel)(e:N.take P.length=P:=by rfl)
  (f:∀x∈P,h.names.lookup x=uQ .local\/h.names.lookup x=uQ .cell:=by decide +kernel) (g:∀y∈h.names,y.2≠ .free:=by decide +kernel):MB N P h:=⟨a,b,c,d,e,f,g⟩
end _D
namespace _D
open PySem PySem.W _L
def yC{X:Cx}{E:XK}{x:Str}{n:Int}{t:Tok}{pos:Pos}(hg:Gl X x)(hm:X.mg x=uQ (.int n t))(hd:(x==("__debug__":Str))=uX:=by decide):QE X E (.Name x pos) (dC (.int n)):=
 ae (v:=.int n) hg hm ⟨_,rfl⟩ (λ_ _=>rfl) hd
def yD{X:Cx}{E:XK}{x:Str}{n:Str}{t:Tok}{pos:Pos}(hg:Gl X x)(hm:X.mg x=uQ (.str n t))(hd:(x==("__debug__":Str))=uX:=by decide):QE X E (.Name x pos) (dC (.str n)):=
 ae (v:=.str n) hg hm ⟨_,rfl⟩ (λ_ _=>rfl) hd
section
open Lean
def wA(s:String):Syntax:=.atom .none s
def wL(l:List Syntax):Syntax:=.node .none `null l.toArray
def wN(k:String)(l:List Syntax):Syntax:=.node .none ("Lean.Parser."++k).toName l.toArray
def wX(l:List Syntax):Syntax:=wN "Tactic.tacticSeq" [wN "Tactic.tacticSeq1Indented" [wL l]]
def wP(l:List Syntax):Syntax:=wN "Tactic.paren" [wA "(",wX l,wA ")"]
def wI(s:String):Syntax:=(mkIdent s.toName).raw
def wH:Syntax:=wN "Term.syntheticHole" [wA "?",wA "_"]
def wU(l:List String):Syntax:=wN "Term.fun" [wA "fun",wN "Term.basicFun" [wL (l.map wI),wL [],wA "=>",wH]]
def wY(l:List Syntax):Syntax:=match l.reverse with
 |x::y::r=>wN "Term.app" [x,wL (y::r)]
 |[x]=>x
 |_=>.missing
def wT(s:String):Syntax:=wY ((((s.replace "(" "( ").replace ")" " )").splitOn " ").foldl (λst w=>match st with
 | a::r=>
  if w="" then st else if w="(" then[]::st else if w=")" then(match r with
   |b::q=>(wY a::b)::q
   |_=>st)
  else((if w="_" then wN "Term.hole" [wA w]else if w="?" then wH else if w="." then wN "Term.ellipsis" [wA ".."]
   else if w="L" then wU ["C","s","H","e","nd"]else if w="l" then wU ["C","s","H","e"]
   else if w="d" then wN "Term.byTactic" [wA "by",wX [wN "Tactic.decide" [wA "decide",wN "Tactic.optConfig" [wL []]]]]
   else if w.isNat then(Syntax.mkNumLit w).raw else wI w)::a)::r
 |_=>st) [[]]).head!
def wF(l:List Syntax):Syntax:=wN "Tactic.first" [wA "first",wL (l.map λx=>.node .none `group #[wA "|",wX [x]])]
def wJ(a b:Syntax):Syntax:=wN "Tactic.«tactic_<;>_»" [a,wA "<;>",b]
def wG(k:String)(t:Syntax)(r:Syntax):Syntax:=wP [wN "Tactic.guardTarget" [wA "guard_target",wN "equal" [wN k [wA "="]],t],wA ";",r]
def wV:Syntax:=wN "Tactic.tacticTrivial" [wA "trivial"]
def wB(s:String):Syntax:=
 let t:=wT (s.drop 1).toString;let f:=λk=>wN ("Tactic."++k) [wA k,t]
 let c:=s.front
 if c='@' then f "apply" else if c='!' then wN "Tactic.withReducible" [wA "with_reducible",wX [f "exact"]]
 else if c='=' then wP [wJ (f "refine") (wN "Tactic.tacticRfl" [wA "rfl"])]else if c='<' then wP [wJ (f "refine'") wV]else if c='.' then f "exact" else f "refine'"
def wC(s:String):Syntax:=wF ((s.splitOn ",").flatMap λb=>match b.splitOn "^" with
 |[_,t,n]=>(n.splitOn " ").map λx=>wB ("-"++t.replace "$" x)
 |_=>[wB b])
def wR(s:String):Syntax:=wF ((s.splitOn "#").map λg=>match g.splitOn "|" with
 | h::r=>
  let b:=wF (r.map λa=>match a.splitOn ":" with
   |[a,x]=>wG "equalD" (wT (h++" "++a)) (wC x)
   |_=>wC a)
  if h.front='=' then wG "equalR" (wT (h.drop 1).toString) b else if h.front='*' then b else wG "equalD" (wT (h++" _ _")) (wJ (wP [b]) wV)
 |_=>.missing)
end
end _D
namespace _D
open PySem PySem.Spec _L
open PyProof.Rows hiding St
def yE(h:env'.frame=env.frame):noteFrame e env'=noteFrame e env:=by unfold noteFrame PySem.frameOf;rw[h]
theorem gN{h B a:Heap}(z:∀b,B.get? b=uZ->a.get? b=uZ):∀{l:List Env},h.FunFrames B l->h.FunFrames a l
 |[],_=>trivial
 |g::r,⟨hk,⟨L,o,i,c,j,d⟩,f⟩=>⟨hk,⟨L,o,i,z L c,j,d⟩,gN z f⟩
section
variable{M:Model}{A:xj}{E:xB->x9->Prop}{s:x9}{B:Heap}{env:Env}{outer:List Env}{L e:xz}{oe:Obj}{vs:Array xB}{head:xB}{hn:Bool}{Q:Unit->x9->Prop}
def gO(fr:A.frames=uQ (env::outer))(I:s.heap.FunFrames B (env::outer))(w:env.frame=uQ L)(N:SK s.heap B e cls od fl)(hk:B.StaysIn s.heap)(j:B.get? e=uZ)
  (q:∀h',LC B (env::outer) e cls od (vQ L) s.heap h'->Q () {s with heap:=h'}):vW M A (noteFrame (.ref e) env) Q E s:=by
 obtain⟨K,r,T,J,y,p,⟨rfl,rfl⟩,t,m,⟨F,k⟩,i,h,u⟩:=N;unfold noteFrame;simp only[w];refine vY (vj p t m ?_);rw[if_pos (by simp)];refine vY (vj i h u ?_);by_cases f:(fl==vQ L)=uJ
 .rw[if_pos f];have l:=eq_of_beq f;subst l;exact vB (q s.heap ⟨hk,I,⟨K,r,T,J,y,p,⟨rfl,rfl⟩,t,m,⟨F,k⟩,i,h,u⟩,λb o j _=>⟨o.slots,j⟩,λb o j=>⟨o,j⟩⟩)
 rw[if_neg f];refine vY (wpAny_setField i h (zM.mp u).1 ?_)
 have d:∀b,b≠T->(s.heap.update T (.mapFields (·.setIfInBounds 3 Value.none))).get? b=s.heap.get? b:=λb n=>qq _ _ (.symm n)
 have x:∀b o,s.heap.get? b=uQ o->(∀r,o.data≠ .fields r)->b≠T:=λb o c n z=>by rw[z,i]at c;cases c;exact n y h
 refine bF fr (I.of_keeps λb o c n=>⟨o,(d b (x b o c n)).trans c,rfl⟩) w ((d e (.symm k)).trans p)
  (λb o g=>(d b λz=>by rw[z,F]at g;cases g).trans (hk b o g)) j t (zM.mp m).1
  λh' n=>q h' ⟨n.st,n.fr,n.tr,λb o c v=>n.up b o ((d b (x b o c v)).trans c) v,λb o c=>?_⟩
 by_cases z:b=T
 .subst z;exact n.th b _ (qz _ i (Obj.isFreed_of_fields (Obj.data_mapFields h _)))
 exact n.th b o ((d b z).trans c)
def yF(k:Option xz)(J:s.heap.FunFrames B l)(K:SK s.heap B e cls od fl)(hk:B.StaysIn s.heap)
  (q:∀h',LC B l e cls od (k.elim Value.none λf=>vQ f) s.heap h'->Q () {s with heap:=h'}):vW M A (setFlight (.ref e) k) Q E s:=by
 obtain⟨I,r,T,N,F,v,⟨rfl,rfl⟩,w,u,⟨x,i⟩,p,m,y⟩:=K;unfold setFlight;refine vY (vj v w u ?_);rw[if_pos (by simp)];refine wpAny_setField p m (zM.mp y).1 (q _ ?_)
 have d:∀b,b≠T->(s.heap.update T (.mapFields (·.setIfInBounds 3 (k.elim Value.none λf=>vQ f)))).get? b=s.heap.get? b:=λb n=>qq _ _ (.symm n)
 have t:∀b o,s.heap.get? b=uQ o->(∀r,o.data≠ .fields r)->b≠T:=λb o c n z=>by rw[z,p]at c;cases c;exact n F m
 have j:=Obj.data_mapFields m (·.setIfInBounds 3 (k.elim Value.none λf=>vQ f))
 have h:=qz (.mapFields (·.setIfInBounds 3 (k.elim Value.none λf=>vQ f))) p (Obj.isFreed_of_fields j)
 refine⟨λb o g=>(d b λz=>by rw[z,x]at g;cases g).trans (hk b o g),J.of_keeps λb o c n=>⟨o,(d b (t b o c n)).trans c,rfl⟩,
  ⟨I,r,T,_,_,(d e (.symm i)).trans v,⟨rfl,rfl⟩,w,u,⟨x,i⟩,h,j,by simp[(zM.mp y).1]⟩,λb o c n=>⟨o.slots,(d b (t b o c n)).trans c⟩,λb o c=>?_⟩
 by_cases z:b=T
 .subst z;exact⟨_,h⟩
 exact⟨o,(d b z).trans c⟩
def yG{c:Type}{Q:c->x9->Prop}(f:s.heap.FunFrames B l)(d:SK s.heap B e cls od fl)(hk:B.StaysIn s.heap)
  (q:∀h' b,LC B l e cls od b s.heap h'->E (.ref e) {s with heap:=h'}):vW M A (xa w (.ref e) SF:Sem c) Q E s:=by
 obtain⟨t,m,T,k,o,j,⟨p,h⟩,i,g,r⟩:=id d;unfold xa;refine vY (vj j i g ?_);rw[if_neg (by simp)];exact vY (yF SF.frame f d hk λh' n=>wpAny_throw (q h' _ n))
end
structure MD (C:xz) (B:Heap) (l:List Env) (e:xz) (cls:xB) (od:Option xz) (fl:xB) (h h':Heap):Prop where
 st:B.StaysIn h'
 fr:h'.FunFrames B l
 tr:SK h' B e cls od fl
 up:∀b o,b≠C->h.get? b=uQ o->(∀vs,o.data≠ .fields vs)->∃sl,h'.get? b=uQ {o with slots:=sl}
 th:∀b o,b≠C->h.get? b=uQ o->∃o',h'.get? b=uQ o'
def LC.c(n:LC B l e cls od fl h h'):MD C B l e cls od fl h h':=⟨n.st,n.fr,n.tr,λb o _=>n.up b o,λb o _=>n.th b o⟩
def MD.trans(x:MD C B l e cls od f1 h1 h2)(y:MD C B l e cls od f2 h2 h3):MD C B l e cls od f2 h1 h3:=
 ⟨y.st,y.fr,y.tr,λb o a c n=>by
  obtain⟨h,k⟩:=x.up b o a c n;obtain⟨d,g⟩:=y.up b _ a k n;exact⟨d,g⟩,λb o a c=>by
  obtain⟨f,k⟩:=x.th b o a c;exact y.th b f a k⟩
def MD.but(st:B.StaysIn h)(fr:h.FunFrames B l)(tr:SK h B e cls od fl)(p:B.get? C=uZ)(t:C∉YC l)(u:∃o,h.get? C=uQ o/\∀vs,o.data≠ .fields vs)(z:jv C h h'):MD C B l e cls od fl h h':=by
 obtain⟨K,d,a⟩:=u;refine⟨λb o q=>?_,bH fr λb c o I=>⟨o.slots,(z.2 b λq=>t (q▸c)).trans I⟩,?_,λb o j c _=>⟨o.slots,(z.2 b j).trans c⟩,λb o j c=>⟨o,(z.2 b j).trans c⟩⟩
 .refine(z.2 b λy=>?_).trans (st b o q);rw[y,p]at q;cases q
 obtain⟨x,vs,T,r,w,k,f,n,v,⟨F,i⟩,g,m,J⟩:=tr;refine⟨x,vs,T,r,w,(z.2 e λq=>?_).trans k,f,n,v,⟨F,i⟩,(z.2 T λq=>?_).trans g,m,J⟩
 .rw[q,d]at k;cases k;exact a _ n
 rw[q,d]at g;cases g;exact a _ m
section
variable{X:Cx}{vG:List (xz×Obj)}{σ:St}{H H':Hp}{s s':x9}{B Sm:Heap}{ea C:xz}{cls:xB}{od:Option xz}{E:XK}
theorem yH(I:Inv X vG σ H s)(S:X.stack=X.env::X.outer)(K:X.ex=[])(J:X.env.frame=uQ X.env.locals)(x:s'.os=s.os)(r:AllBare s'.gens)(un:Un (YC X.stack) [] H H' s.heap s'.heap)(SA:SE X.prog X.w H' s'.heap)
  (bb:∀b o,s.heap.get? b=uQ o->H b=uZ->b∉YC X.stack->b≠C->B.get? b=uQ o) (P:∀b,H' b≠uZ->∃o,B.get? b=uQ o) (Z:B.get? ea=uZ) (st:B.StaysIn s'.heap) (y:s.heap.get? ea=uZ) (N:X.s₀.heap.get? C=uZ) (VQ:C∉YC X.stack)
  (n:MD C B X.stack ea cls od .none s'.heap l) (hE:E cls od H') (hc:∃C,cls=.ref C):OG X.prog X.w X.outer X.H₀ X.s₀ E (.ref ea) {s' with heap:=l}:=by
 have a:=I.base;rw[K]at a;have O:YC X.stack=X.env.locals::YC X.outer:=by rw[S];unfold YC;rw[qx,J]
 have h:∀{b:xz}{o:Obj},X.s₀.heap.get? b=uQ o->b≠C:=λq z=>by rw[z,N]at q;cases q
 have p:∀b o,X.s₀.heap.get? b=uQ o->X.H₀ b=uZ->b∉YC X.outer->B.get? b=uQ o:=λb o q d g=>by
  refine bb b o (a.keep b o q d g (by simp)) (a.free b o q d (by simp)) ?_ (h q);rw[O];intro t;rcases zZ.mp t with z|z
  .exact absurd (zK (zx q) I.ok.above) (z▸zH _)
  exact g z
 have F:l.FunFrames B X.outer:=by have:=n.fr;rw[S]at this;exact this.2.2
 refine⟨ea,cls,od,H',B,rfl,x.trans I.os,r,⟨λb o q d g _=>n.st b o (p b o q d g),λb o q d g _=>?_,λb o q d j=>?_,λb o q j=>?_,λb T q=>un.ZE b T (a.ZE b T q),λb o u q=>un.UE b o u (a.UE b o u q),λb ps q=>?_⟩,bG SA P st n.st,⟨n.st,F,n.tr,Z,P⟩,p,?_,hE,hc⟩
 .obtain⟨sl,k⟩:=a.slot b o q d g (by simp);have t:=O▸zQ _ g;obtain⟨J',k'⟩:=un.slot b _ k (a.free b o q d (by simp)) t (by simp);obtain⟨_,U,i,Y⟩:=I.stack.mem t;rw[k]at i;cases i;obtain⟨m,k3⟩:=n.up b _ (h q) k' Y;exact⟨m,k3⟩
 .obtain⟨v,f⟩:=a.there b o q j;exact un.free b v f (a.free b o q d j) j
 .obtain⟨v,f⟩:=a.there b o q j;obtain⟨U,i⟩:=un.there b v f j;exact n.th b U (h q) i
 .obtain⟨m1,f⟩:=a.IF b ps q;obtain⟨W,i⟩:=un.IF b _ f;exact⟨m1++W,by rw[i,uu3]⟩
 cases q:X.s₀.heap.get? ea with
 |none=>rfl
 |some o=>
  obtain⟨v,f⟩:=a.there ea o q (by simp);rw[y]at f;cases f
def yI{benv:Env}{EE:xB->x9->Prop}(l:X.stack=X.env::X.outer)(hex:X.ex=[])(n:X.env.frame=uQ X.env.locals)(hbf:benv.frame=X.env.frame)(I:Inv X vG σ H s)(hC:∃m,s.heap.Ns C m)(F:H C=uZ)(hC0:X.s₀.heap.get? C=uZ)(p:C∉YC X.stack)
  {e:xB} (h:OG X.prog X.w X.stack H s E e s'):
  vW (xU X.prog X.w) X.A (noteFrame e benv) (λ_ g=>∃m,g.heap.Ns C m/\∀h',jv C g.heap h'->∀f:Env,f.locals=C->vW (xU X.prog X.w) X.A (xa "comprehension.variables-let-go" e f:Sem xB) (λ_ _=>False) (Ga X E) {g with heap:=h'}) EE s':=by
 obtain⟨Z,cls,od,H',B0,rfl,os,N,un,SA,d,bb,new,hE,hc⟩:=h;obtain⟨m,K,es,ep,J,x,hks,hm⟩:=hC;have u:∀U,K.data≠ .fields U:=λU z=>by rw[x]at z;cases z
 obtain⟨B,v⟩:∃B,B=qg B0 [C]:=⟨_,rfl⟩;have z:∀b,B0.get? b=uZ->B.get? b=uZ:=λb q=>by
  cases Y:B.get? b with
  |none=>rfl
  |some o=>rw[v]at Y;rw[jb _ Y]at q;cases q
 have j:B.StaysIn s'.heap:=λb o q=>d.st b o (by rw[v]at q;exact jb _ q)
 have tr:SK s'.heap B Z cls od .none:=by obtain⟨oe,U,T,oT,ts,he,PY,hd,h1,⟨nT,nTe⟩,r⟩:=d.tr;exact⟨oe,U,T,oT,ts,he,PY,hd,h1,⟨z T nT,nTe⟩,r⟩
 have al:∀b,H' b≠uZ->∃o,B.get? b=uQ o:=λb y=>by
  obtain⟨o,k⟩:=d.al b y;rw[v];refine⟨o,ja _ k λq=>?_⟩;have Y:b=C:=by simpa using q
  rw[Y,un.free C K J F (by simp)]at y;exact y rfl
 have bb':∀b o,s.heap.get? b=uQ o->H b=uZ->b∉YC X.stack->b≠C->B.get? b=uQ o:=λb o q hn y hbC=>by rw[v];exact ja _ (bb b o q hn y) (by simpa using hbC)
 rw[yE hbf];refine gO (by rw[I.ok.frames,l]) (by rw[<-l];exact(gN z d.fr)) n tr j (z Z d.eb) λh1 t=>?_
 rw[<-l]at t;have i:=t.up C K (d.st C K (bb C K J F p)) u;obtain⟨sl,i⟩:=i;refine⟨m,⟨_,es,ep,i,x,hks,hm⟩,λh2 WS f _=>?_⟩;have P:=MD.but t.st t.fr t.tr (v▸xf _ z8) p ⟨_,i,u⟩ WS;refine yG P.fr P.tr P.st λh3 fl3 S=>?_
 unfold Ga leaving;refine vY (gO (by rw[I.ok.frames,l]) (by rw[<-l];exact S.fr) n S.tr S.st (z Z d.eb) λh4 O=>?_);rw[<-l]at O;exact Xa O.fr O.tr O.st λh5 n5=>(yH (s':=s') I l hex n os N un SA bb' al (z Z d.eb) j new hC0 p (((t.c.trans P).trans S.c).trans (O.c.trans n5.c)) hE hc)
end
def xeB(X:Cx)(E:XK)(N:List Str)(scope:x2)(C:xz)(s₀:x9)(H₀:Hp)(ex:List xz):xB->x9->Prop:=λe s'=>∃(vG:List (xz×Obj))(σ:St)(H:Hp)(s:x9),Inv (LF X N scope C s₀ H₀ ex) vG σ H s/\OG X.prog X.w X.stack H s E e s'
noncomputable abbrev Hn(X:Cx)(E:XK)(N:List Str)(scope:x2)(C:xz)(s₀:x9)(H₀:Hp)(ex:List xz):Cx:=(LF X N scope C s₀ H₀ ex).OF (xeB X E N scope C s₀ H₀ ex)
def yJ:Passes (OG X.prog X.w) (Hn X E N scope C s₀ H₀ ex) E:=λa b H s e d I h=>⟨a,b,H,s,I.RD,h⟩
def Mj(it:DI)(nt:Nat)(caps:List Nat)(g:DG)(c:DB)(te:DE):DE:=λS G=>(it S G).bind λJ G1=>match J with
 |.pure xs=>if xs.length<=1000000 then(Bc g c te (Ao nt caps S) xs G1).bind Ai else .bad
 |_=>.bad
section
variable{prog:x0}{w:xC}{A:xj}{R':Result->x9->Prop}{s:x9}
def UN(prog:x0)(w:xC)(A:xj)(target elt:xw)(ifs:List xw)(acc:xB)(env:Env)(xb:xB->x9->Prop)(P:x9->Prop)(v:xB)(s:x9):Prop:=
 vW (xU prog w) A (assign target env v) (λ_ s₂=>
  vW (xU prog w) A (forIn ifs uJ λc r=>if r=uJ then do let ok<-isTrue c env (eval c env);pure (ForInStep.yield ok)else pure (ForInStep.yield r)) (λok s₃=>
   if ok=uJ then vW (xU prog w) A (eval elt env) (λx s₄=>vW (xU prog w) A (call (.builtin "list.append") [acc,x]) (λ_ s₅=>P s₅) xb s₄) xb s₃
   else P s₃) xb s₂) xb s
def VN(prog:x0)(w:xC)(A:xj)(target elt:xw)(ifs:List xw)(it acc:xB)(env:Env)(xb:xB->x9->Prop)(R' P:x9->Prop)(s:x9):Prop:=
 vW (xU prog w) A (pyNext it) (λr s₁=>match r with
  |none=>R' s₁
  |some v=>vW (xU prog w) A (xS target it v) (λ_ s₁=>UN prog w A target elt ifs acc env xb P v s₁) xb s₁) xb s
theorem yK(I:Nat->x9->Prop)
  (j:∀n s,I n s->VN prog w A target elt ifs it acc env xb (R' (.ok .next)) (λs'=>∃m,m<n/\I m s') s)
  (y:∀x s',xb x s'->vW (xU prog w) A (noteFrame x env) (λ_ b=>R' (.error x) b) (λe b=>R' (.error e) b) s') (n:Nat) (h:I n s):
  codeAny (xU prog w) A (.compLoop (.ListComp elt [⟨target,iter,ifs,0⟩] scope pos) 0 it acc env) R' s:=by
 refine codeAny_loop rfl I (λn s u=>?_) n h
 show vW _ A ((compTurn (.ListComp elt [⟨target,iter,ifs,0⟩] scope pos) 0 it acc env).onRaise (λx=>do noteFrame x env;theTreesLotGoes x)) _ _ s
 refine wpAny_noted ?_;rw[compTurn_list];refine vv ?_ (λ_ _ q=>q) (λx s' d=>y x s' d);refine vY (wpAny_standAt (vY (vv (j n s u) (λr p a=>?_) λ_ _ d=>d)));cases r with
 |none=>exact vB a
 | some v=>
  refine vY (vv a (λ_ l a=>?_) λ_ _ d=>d);refine vY (vv a (λ_ b k=>vY (vv k (λok s₃ h₃=>?_) λ_ _ d=>d)) λ_ _ d=>d);cases ok with
  |false=>exact vB ⟨rfl,h₃⟩
  |true=>
   exact vY (vY (vv h₃ (λx o f=>vY (vv f (λ_ t i=>vB (vB ⟨rfl,i⟩)) λ_ _ d=>d)) λ_ _ d=>d))
end
section
variable{X:Cx}{E:XK}{N:List Str}{scope:x2}{nt:Nat}{caps:List Nat}{tg elt iter:xw}{ifs:List xw}{pos:Pos}{it:DI}{g:DG}{c:DB}{te:DE}
def gP(hc:X.calm=uJ)(hst:X.stack=X.env::X.outer)(hex:X.ex=[])(UW:X.env.frame=uQ X.env.locals)(cs:MC X N F nt caps)
  (hg:∀C s₀ H₀ ex,QG (Hn X E N F C s₀ H₀ ex) E tg g) (gk:GK nt g) (PM:∀C s₀ H₀ ex,RL (Hn X E N F C s₀ H₀ ex) E ifs c) (he:∀C s₀ H₀ ex,QE (Hn X E N F C s₀ H₀ ex) E elt te)
  {vG:List (xz×Obj)} {σ:St} {s:x9} {a:Wd} {S:ZB} {G:DH} {J:It} {n0:Nat} {f:Nat->DH->Option (Option D)} {i0:xz} {fp:List xz} {tn:Nat->Heap->Prop} (I:Inv X vG σ a.H s) (hk:a.K=X.K) (sm:QB a G) (rS:RB a S σ)
  (T:Turn X.prog X.w X.K tg J fp i0 tn) (t0:tn 0 s.heap) (hf:∀b∈fp,SD X vG a.H b) (rJ:RF a (.fn n0 f) J) {Q:VK}
  (hn0:n0<=1000000) (h:out E a ((Bx f g c te (Ao nt caps S) n0 0 G).bind Ai) Q)
  {RR:xB->xz->Result->x9->Prop} {E':xB->x9->Prop}
  (OS:∀(D C:xz)(s':x9)(b:Wd)(vs:List V),Inv X vG σ (upd b.H D (.lst vs)) s'->b.H D=uZ->s.heap.objs.size<=C->D≠C->(∃m,s'.heap.Ns C m)->b.H C=uZ->Q (.ref D) (upd b.H D (.lst vs))->RR (.ref D) C (.ok .next) s')
  (hRX:∀(D C:xz)(e:xB)(s₂:x9),(∃m,s₂.heap.Ns C m/\∀h',jv C s₂.heap h'->∀SF:Env,SF.locals=C->vW (xU X.prog X.w) X.A (xa "comprehension.variables-let-go" e SF:Sem xB) (λ_ _=>False) (Ga X E) {s₂ with heap:=h'})->RR (.ref D) C (.error e) s₂):
  vW (xU X.prog X.w) X.A (newList []) (λL s₃=>vW (xU X.prog X.w) X.A (newFunctionEnv F X.env.globals (Dy X.env F.names []) [] X.env.qual uZ .none (uQ X.env)) (λSF s₄=>
   codeAny (xU X.prog X.w) X.A (.compStart (.ListComp elt [⟨tg,iter,ifs,0⟩] F pos) 0 (.ref i0) L {SF with scope:=relabel F X.env}) (RR L SF.locals) s₄) E' s₃) E' s:=by
 refine vy (wpAny_newFunctionEnv cs.UJ (by intro y hy;simp at hy) (λh₁ YE Z=>?_) cs.kind);dsimp only at YE Z⊢;generalize hH2:s.heap.push {cls:=.type "list",dict:=uZ,data:=.seq ([]:List xB).toArray}=H2 at YE Z⊢;have hC:H2.objs.size=s.heap.objs.size+1:=by rw[<-hH2,j1]
 have TL:s.heap.objs.size≠H2.objs.size:=by rw[hC];exact zP (q9 _)
 have YG:s.heap.objs.size<=H2.objs.size:=hC▸jy _;have LI:∀b∈fp,b<s.heap.objs.size:=λb hb=>by obtain⟨o,e,_⟩:=T.obj 0 _ t0 b hb;exact zx e
 have IW:s.heap.objs.size∉fp:=λhm=>zH _ (LI _ hm)
 have VQ:H2.objs.size∉fp:=λhm=>by have:=LI _ hm;rw[hC]at this;exact zH _ (Nat.lt_of_succ_lt this)
 have old:∀b o,s.heap.get? b=uQ o->h₁.get? b=uQ o:=λb o e=>
  Z.extBut b o (by rw[hC];exact zP (jU (zx e))) (zW _ (hH2▸zW _ e))
 have US:h₁.PlainList s.heap.objs.size ([]:List xB).toArray:=⟨_,Z.extBut _ _ TL (zW _ (hH2▸z9 _ rfl))⟩;generalize hCe:H2.objs.size=C at*;generalize W:s.heap.objs.size=M at*;let B:=Hn X E N F C s a.H fp;have JW:B.Ok:=(eP cs I hf (W▸YG) VQ).OF _;let σ0:St:=.replicate nt uZ++caps.map λj=>(σ[j]?).join
 have start:∀tk,Inv B [] σ0 a.H {s with heap:=h₁,toks:=tk}:=λtk=>by
  refine⟨JW,rfl,I.bare,Un.kept old,⟨_,YE,λi x v e1 e2 e3=>?_⟩,λx d' e=>?_,I.SA.fresh (W▸YG),λx d' e=>?_,λp hp=>?_,I.SA.kept old,?_⟩
  .have hi:nt<=i:=by
    by_cases hi:i<nt
    .have SH:=e2;rw[zN (by simpa using hi),qR]at SH
     split at SH<;>cases SH
    lia
   have SH:=e2;rw[zL (by simpa using hi),zD,jB]at SH;cases ej:caps[i-nt]? with
   |none=>rw[ej]at SH;cases SH
   | some j=>
    rw[ej]at SH;have h1:(σ[j]?).join=uQ v:=by simpa using SH
    have h2:σ[j]?=uQ (uQ v):=by
     cases q:σ[j]? with
     |none=>rw[q]at h1;cases h1
     |some o=>
      rw[q]at h1;have L6:o=uQ v:=h1;rw[L6]
    obtain⟨y,ey,en,ek⟩:=cs.e? (i-nt) j ej;have P6:x=y:=by
     have:nt+(i-nt)=i:=by lia
     rw[this]at en;have L7:N[i]?=uQ x:=e1;rw[L7]at en;exact xv en
    subst P6;have kx:=cs.free (x,.free) (ze ek) rfl;have P7:ZO X.env.scope x:=by
     rcases kx with kx|kx
     .exact .inr (.inl kx)
     exact .inr (.inr kx)
    obtain⟨m,hn,hl⟩:=I.loc;obtain⟨u,ru,lk⟩:=hl j x v ey h2 P7;refine⟨u,ru,?_⟩;rcases lk with⟨k1,_⟩|⟨k1,c1,ec,ZM⟩
    .rcases kx with kx|kx
     .rw[k1]at kx;cases kx
     rw[k1]at kx;cases kx
    refine .inr ⟨?_,c1,?_,?_⟩
    .show(relabel F X.env).names.lookup x=uQ .cell\/(relabel F X.env).names.lookup x=uQ .free;rw[Zo,ek];simp only[jP];split
     .exact .inl rfl
     exact .inr rfl
    .obtain⟨d1,L8⟩:=Rz (.inl (ze ek));obtain⟨d2,KW⟩:=Vu L8;have:=cs.cl I.ok KW;rw[ec]at this;cases this;exact KW
    .obtain⟨o,e,dd⟩:=ZM;exact⟨o,old _ _ e,dd⟩
  .obtain⟨v,o,e',dd⟩:=I.cell x d' (cs.cl I.ok e);exact⟨v,o,old _ _ e',dd⟩
  .exact I.Fq x d' (cs.cl I.ok e)
  .exact absurd hp (by simp[B,LF])
  show σ0.length=N.length;rw[cs.len];simp[σ0]
 have young:∀b∈fp,b≠C:=λb hb z=>VQ (z▸hb)
 have LW:∀{H':Hp}{ps:List (xz×Obj)},(∀b∈fp,H' b=uZ)->(∀p∈ps,p.1∉fp)->∀b∈fp,SD B ps H' b:=λ{H' ps}hn hps b hb=>
  ⟨hn b hb,young b hb,JW.MH b hb,.inl hb,λx d' e=>(hf b hb).2.2.2.2.1 x d' (cs.cl I.ok e),λp hp z=>by exact hps p (by simpa[B,Hn,LF]using hp) (z▸hb)⟩
 have HN:M∉YC X.stack:=λz=>by
  rcases zZ.mp (I.Qm M z)with z|z
  .have:=I.lt;rw[W,<-z]at this;exact zH _ this
  exact I.HP (W▸zY _) z
 have TF:∀{O:St}{H':Hp}{s':x9}{t:List xB}{nD:Nat},Inv B [] O H' s'->s'.heap.get? M=uQ {cls:=.type "list",data:=.seq t.toArray nD}->H' M=uZ->Inv B [(M,{cls:=.type "list",data:=.seq t.toArray nD})] O H' s':=λ{O H' s' t nD}J e n=>
  J.Gp λp hp=>by
   have ep:p=(M,{cls:=.type "list",data:=.seq t.toArray nD}):=by simpa using hp
   subst ep;exact⟨e,n,TL,HN,λv' z=>by cases z⟩
 have fin:∀(s':x9)(b:Wd)(O:St)(t:List xB)(Y:List D)(G':DH),Inv B [] O b.H s'->Ext a b->QB b G'->s'.heap.PlainList M t.toArray->b.H M=uZ->(∃vs,Vals vs t/\KA b Y vs)->out E b (Ai Y G') Q->RR (.ref M) C (.ok .next) s':=by
  intro s' b O t Y G' IB x sb pl hD ⟨vs,hv,rv⟩ hq;have hz:Y.length<=1000000:=by
   unfold Ai at hq;split at hq
   .assumption
   exact hq.elim
  obtain⟨n,eD⟩:=pl;have MW:∀{q:xz}{o:Obj},s.heap.get? q=uQ o->q≠M:=λe z=>by rw[z,<-W]at e;exact absurd (zx e) (zH _)
  have Ia:Inv X vG σ (upd b.H M (.lst vs)) s':=by
   refine aw (I.JK IB.os IB.base IB.SA IB.bare λb hb=>⟨(hf b hb).2.2.2.1,(hf b hb).2.1,(hf b hb).2.2.2.2.1,(hf b hb).2.2.2.2.2⟩) hD (by rw[<-W];exact I.sz) ?_ (λy c' ec=>?_) (λp hp=>?_) ⟨?_,t,n,hv,eD⟩
   .rw[<-W];exact jD I.lt
   .obtain⟨v,o,e,_⟩:=I.cell y c' ec;exact MW e
   .exact MW (I.pin p hp).1
   rw[<-rv.length];exact zy hz UC
  refine OS M C s' b vs Ia hD YG TL (let⟨m,hn,_⟩:=IB.loc;⟨m,hn⟩) IB.free ?_;unfold Ai at hq;rw[if_pos hz]at hq;exact Lf sb rv hq M hD
 have JN:∀(P:x9->Prop)(rest:DH->R (List D))(s1:x9)(b:Wd)(G1:DH)(σ1:St)(t:List xB)(L:List D)(u:xB)(v:V)(x:D)(i:Nat),Inv B [] σ1 b.H s1->Ext a b->QB b G1->RB b (Ao nt caps S) σ1->tn i s1.heap->(∀q∈fp,b.H q=uZ)->
   s1.heap.PlainList M t.toArray->b.H M=uZ->(∃vs,Vals vs t/\KA b L vs)->L.length<=1000000->RelV v u->UB b x v->
   out E b (((g x (Ao nt caps S) G1).bind λS1 G1=>(c S1 G1).bind λk G2=>if k=uJ then(te S1 G2).bind λd G3=>(rest G3).bind λY G4=>.ok (d::Y) G4 else rest G2).bind λY G=>Ai (L++Y) G) Q->
   (∀(s2:x9)(b2:Wd)(G2:DH)(σ2:St)(KN:List xB)(UL:List D),Inv B [] σ2 b2.H s2->Ext a b2->QB b2 G2->RB b2 (Ao nt caps S) σ2->tn i s2.heap->(∀q∈fp,b2.H q=uZ)->
    s2.heap.PlainList M KN.toArray->b2.H M=uZ->(∃vs,Vals vs KN/\KA b2 UL vs)->UL.length<=L.length+1->out E b2 ((rest G2).bind λY G=>Ai (UL++Y) G) Q->P s2)->
   UN X.prog X.w X.A tg elt ifs (.ref M) B.env B.xe P u s1:=by
  intro P rest s1 b G1 σ1 t L u v x i I1 x1 sb VP t1 QK pl hD MI R? ru rx hq next
  rw[R.bind_assoc]at hq;obtain⟨nD,eD⟩:=id pl;let TF:List (xz×Obj):=[(M,{cls:=.type "list",data:=.seq t.toArray nD})];have NI:∀{O:St}{H':Hp}{s':x9},Inv B (TF++Ls fp s1.heap) O H' s'->s'.heap.PlainList M t.toArray/\H' M=uZ/\tn i s'.heap/\∀q∈fp,H' q=uZ:=λ{O H' s'}J=>by
   have p1:=J.pin (M,{cls:=.type "list",data:=.seq t.toArray nD}) (zk _ (qB _ (by simp[TF])));refine⟨⟨nD,p1.1⟩,p1.2.1,T.keep _ _ _ t1 λq U o e=>(J.pin (q,o) (zk _ (zk _ (Oc U e)))).1,λq U=>?_⟩;obtain⟨o,e,_⟩:=T.obj _ _ t1 q U;exact(J.pin (q,o) (zk _ (zk _ (Oc U e)))).2.1
  have I2:Inv B (TF++Ls fp s1.heap) σ1 b.H s1:=I1.Gp λp hp=>by
   rcases zG.mp hp with hp|hp
   .have e:p=(M,{cls:=.type "list",data:=.seq t.toArray nD}):=by simpa[TF]using hp
    subst e;exact⟨eD,hD,TL,λz=>(HN z),λv' z=>by cases z⟩
   obtain⟨hb,e⟩:=aW hp;obtain⟨f0,f1,f2,_⟩:=LW (ps:=[]) QK (λp hp=>by cases hp) p.1 hb;obtain⟨o,e',dd⟩:=T.obj _ _ t1 p.1 hb;rw[e]at e';cases e';exact⟨e,f0,f1,f2,dd⟩
  refine ZA (hg C s a.H fp _ s1 σ1 b.H v u _ I2 ru ⟨b,Ao nt caps S,G1,x,x1.k.trans hk,rfl,sb,VP,rx,(eQ hq).imp λ_ _ z=>z⟩) ?_;rintro _ s2 ⟨σ2,H2',J2,b2,S2,G2,rfl,y2,sb2,rS2,eg,hq2⟩;rw[R.bind_assoc]at hq2;have LN:RB b2 (Ao nt caps S) σ2:=⟨by have h1:=J2.len;have h2:=I1.len;rw[VP.len,h2];exact h1.symm,λj e' hj=>rS2.get j e' (gk _ _ _ _ _ eg j e' (eU hj) hj)⟩
  refine ZA (PM C s a.H fp _ s2 σ2 b2.H _ J2 ⟨b2,S2,G2,y2.k.trans (x1.k.trans hk),rfl,sb2,rS2,(d9 hq2).imp λ_ _ z=>z⟩) ?_;rintro k s3 ⟨H3,J3,b3,G3,rfl,y3,sb3,_,hq3⟩;cases k with
  |false=>
   obtain⟨p1,p2,p3,p4⟩:=NI J3;obtain⟨vs,hv,rv⟩:=MI
   exact next s3 b3 G3 σ2 t L (J3.Gp λp hp=>by cases hp) (x1.trans (y2.trans y3)) sb3 (LN.mono y3) p3 p4 p1 p2 ⟨vs,hv,(rv.mono y2).mono y3⟩ (jy _) hq3
  | true=>
   have MN:out E b3 (((te S2 G3).bind λd G3=>(rest G3).bind λY G4=>.ok (d::Y) G4).bind λY G=>Ai (L++Y) G) Q:=hq3;rw[R.bind_assoc]at MN;refine ZA (he C s a.H fp _ s3 σ2 b3.H _ J3 ⟨b3,S2,G3,y3.k.trans (y2.k.trans (x1.k.trans hk)),rfl,sb3,rS2.mono y3,(Ec MN).imp λ_ _ z=>z⟩) ?_;rintro w s4 ⟨vw,H4,J4,KL,b4,d4,G4,rfl,y4,sb4,q4,_,hq4⟩;obtain⟨p1,p2,p3,p4⟩:=NI J4;rw[R.bind_assoc]at hq4;have Xs:out E b4 ((rest G4).bind λY G=>Ai ((L++[d4])++Y) G) Q:=by
    have e:(λ(Y:List D)(G:DH)=>(R.ok (d4::Y) G).bind λY G=>Ai (L++Y) G)=λY G=>Ai ((L++[d4])++Y) G:=by funext Y G;simp
    rw[<-e];exact hq4
   obtain⟨vs,hv,rv⟩:=MI;have LK:t.toArray.size<=sizeLine:=by rw[zj,<-hv.length,<-rv.length];exact zy R? UC
   refine wpAny_list_append_plain p1 (λh' VS WS=>?_) LK;have J5:Inv B [] σ2 b4.H {s4 with heap:=h'}:=by refine(J4.Gp λp hp=>by cases hp).turned (λq o U e=>(WS.2 q U).trans e) p2 TL (.inr (by show s.heap.objs.size<=M;rw[W];exact zY _)) (λy c' ec=>?_) (λp hp=>absurd hp (by simp[B,LF]));obtain⟨v',o,e,_⟩:=I.cell y c' (cs.cl I.ok ec);intro z;rw[z,<-W]at e;exact absurd (zx e) (zH _)
   refine next _ b4 G4 σ2 (t++[w]) (L++[d4]) J5 (x1.trans (y2.trans (y3.trans y4))) sb4 ((LN.mono y3).mono y4) (T.keep _ _ _ p3 λq U o e=>(WS.2 q (λz=>IW (z▸U))).trans e) p4 (by simpa using VS) p2 ⟨vs++[vw],hv.append (.cons KL .nil),(((rv.mono y2).mono y3).mono y4).append (.cons q4 KA.nil)⟩ (by simp) Xs
 have loop:∀s₃:x9,s₃={s with heap:=h₁,toks:=s.toks+([]:List (Str×xB)).length}->
   codeAny (xU X.prog X.w) X.A (.compLoop (.ListComp elt [⟨tg,iter,ifs,0⟩] F pos) 0 (.ref i0) (.ref M) B.env) (RR (.ref M) C) s₃:=by
  rintro s₃ rfl;have walk:=rJ;obtain⟨Iv,ZS⟩:∃Iv:Nat->x9->Prop,∀m s',Iv m s'↔∃(i:Nat)(b:Wd)(G':DH)(O:St)(t:List xB)(L:List D),Inv B [] O b.H s'/\Ext a b/\QB b G'/\RB b (Ao nt caps S) O/\tn i s'.heap/\(∀q∈fp,b.H q=uZ)/\s'.heap.PlainList M t.toArray/\b.H M=uZ/\(∃vs,Vals vs t/\KA b L vs)/\L.length+m<=n0/\out E b ((Bx f g c te (Ao nt caps S) m i G').bind λY G=>Ai (L++Y) G) Q:=⟨_,λ_ _=>Iff.rfl⟩
  refine yK (xb:=B.xe) Iv (λm s' h'=>?_) ?_ n0 ((ZS _ _).2 ⟨0,a,G,σ0,[],[],start _,Ext.refl a,sm,eS rS,T.keep _ _ _ t0 λq _ o e=>old q o e,λq hq=>(hf q hq).1,US,I.SA.fresh (W▸zY _),⟨[],.nil,rfl⟩,by simp,h⟩)
  rotate_left
  .rintro e s' ⟨pins1,σ1,H1,s1,I1,hcx⟩;refine vv (yI (C:=C) hst hex UW rfl (I.JK I1.os I1.base I1.SA I1.bare λb hb=>⟨(hf b hb).2.2.2.1,(hf b hb).2.1,(hf b hb).2.2.2.2.1,(hf b hb).2.2.2.2.2⟩) (let⟨m,hn,_⟩:=I1.loc;⟨m,hn⟩) I1.free ?_ ?_ hcx) (λ_ s₂ h₂=>hRX M C e s₂ h₂) λ_ _ z=>z
   .cases q:X.s₀.heap.get? C with
    |none=>rfl
    |some o=>
     have h1:=zx q;have h2:=I.sz;rw[W]at h2;exact absurd (zK h1 (zy h2 YG)) (zH _)
   intro z;rcases zZ.mp (I.Qm C z)with z|z
   .have h1:=I.lt;rw[W,<-z]at h1;exact absurd (zK h1 YG) (zH _)
   exact I.HP (W▸YG) z
  obtain⟨i,b,G',O,t,L,IB,x,sb,VP,ti,QK,pl,hD,NW,R?,hq⟩:=(ZS _ _).1 h';clear h';obtain⟨nD,eD⟩:=pl;have I0:=TF IB eD hD;have f0:=LW (ps:=[(M,{cls:=.type "list",data:=.seq t.toArray nD})]) QK (λp hp=>by
   have ep:p=(M,{cls:=.type "list",data:=.seq t.toArray nD}):=by simpa using hp
   subst ep;exact IW)
  have stop:J.stop i b.H->out E b (Ai L G') Q->∀P,VN X.prog X.w X.A tg elt ifs (.ref i0) (.ref M) B.env B.xe (RR (.ref M) C (.ok .next)) P s':=by intro st U P;refine ZA (T.done B rfl rfl rfl hc i _ s' O b.H _ I0 f0 ti st) ?_;rintro r s1 ⟨rfl,I2⟩;have pD:=(I2.pin (M,{cls:=.type "list",data:=.seq t.toArray nD}) (zk _ (by simp))).1;exact fin s1 b O t L G' (I2.Gp λp hp=>by cases hp) x sb ⟨nD,pD⟩ hD NW U
  cases m with
  |zero=>
   unfold Bx at hq;split at hq
   .rename_i hf;exact stop ((walk b x G' sb i).2 hf) (by have U:out E b (Ai (L++[]) G') Q:=hq;rw[qY]at U;exact U) _
   exact hq.elim
  | succ m=>
   unfold Bx at hq;split at hq
   .rename_i d1 hf;obtain⟨go,yl⟩:=(walk b x G' sb i).1 d1 hf;refine ZA (T.item B rfl rfl rfl hc i _ s' O b.H _ I0 f0 ti go) ?_;rintro r s1 ⟨u,rfl,hgo⟩;refine ZA hgo ?_;rintro _ s2 ⟨v,H',I2,ru,y,t2,hfp2⟩;obtain⟨cc,rfl,xx,ss,rd⟩:=yl v H' y;have pD:=I2.pin (M,{cls:=.type "list",data:=.seq t.toArray nD}) (zk _ (by simp));obtain⟨L9,N9,JS⟩:=NW;refine JN _ (λG3=>Bx f g c te (Ao nt caps S) m (i+1) G3) s2 cc G' O t L u _ d1 (i+1) (I2.Gp λp hp=>by cases hp) (x.trans xx) ss (VP.mono xx) t2 hfp2 ⟨nD,pD.1⟩ pD.2.1 ⟨L9,N9,JS.mono xx⟩ (by lia) ru rd (out.mono xx hq) ?_
    intro s3 b3 G3 σ3 IT JT a1 a2 a3 a4 a5 a6 a7 a8 a9 al OW;exact⟨m,q9 _,(ZS _ _).2 ⟨i+1,b3,G3,σ3,IT,JT,a1,a2,a3,a4,a5,a6,a7,a8,a9,by lia,OW⟩⟩
   .rename_i hf;exact stop ((walk b x G' sb i).2 hf) (by have U:out E b (Ai (L++[]) G') Q:=hq;rw[qY]at U;exact U) _
   exact hq.elim
 exact codeAny_compStart_list (loop _ rfl) (T.self _ 0 _ _ _ (T.keep _ _ _ t0 λq _ o e=>old q o e) (loop _ rfl))
theorem bL(hi:QI X E tg iter it)(hg:∀C i j n,(Do tg caps X.N).Nodup->QG (Hn X E (Do tg caps X.N) scope C i j n) E tg g)(gk:GK nt g)(F:∀C i j n,RL (Hn X E (Do tg caps X.N) scope C i j n) E ifs c)
  (he:∀C i j n,QE (Hn X E (Do tg caps X.N) scope C i j n) E elt te) (K:∀e s',Ga X E e s'->X.xe e s':=by exact λ_ _ h=>h) (y:X.stack=X.env::X.outer:=by rfl) (W:X.ex=[]:=by rfl) (L:X.env.frame=uQ X.env.locals:=by rfl)
  (hc:X.calm=uJ:=by rfl) (hk:scope.kind=.function:=by rfl) (O:∀x,X.env.kindOf x=X.env.scope.names.lookup x:=by intro _;rfl)
  (h:Ob X.env.scope.names X.N (Do tg caps X.N) scope.names nt caps=uJ:=by kernel_rfl) (hs:∀x,foldedSetIterable iter X.env x=pure x:=by intro _;rfl):QE X E (.ListComp elt [⟨tg,iter,ifs,0⟩] scope pos) (Mj it nt caps g c te):=by
 have q:=Ke hk O rfl h;intro u s σ H Q I h;obtain⟨a,S,G,hk,rfl,sm,r,h⟩:=h;rw[eval_ListComp];refine wpAny_comprehension_free rfl hs (Wm (q.cells I.ok)) q.kind q.names (ZA (hi u s σ a.H _ I ⟨a,S,G,hk,rfl,sm,r,(Vt h).imp λ_ _ z=>z⟩) λxv s1 l=>ZA l λJV s2 h2=>?_);obtain⟨i0,fp,tn,J,H2,rfl,I2,T,t0,f2,b,d,Y,rfl,x,sb,rJ,_,l⟩:=h2;cases d with
 | pure Z=>
  dsimp only at l;split at l
  .rename_i hl;have t:out E b ((Bc g c te (Ao nt caps S) (Z.drop 0) Y).bind Ai) Q:=l;rw[Yu Z.length 0 Y (by lia)]at t;refine gP hc y W L q (λC i j n=>hg C i j n q.nd) gk F he I2 (x.k.trans hk) sb (r.mono x) T t0 f2 (am rJ) hl t ?_ ?_
   .intro D C s' b vs Ia hD v M ⟨m,B⟩ P hq;refine⟨m,B,λt o=>⟨.ref D,_,letGo I2 Ia v ?_ o,rfl,hq⟩⟩;rw[Aw (.symm M)];exact P
   rintro D C e s₂ ⟨m,B,hh⟩;exact⟨m,B,λt o p U=>vv (hh t o p U) (λ_ _ z=>z) K⟩
  exact l.elim
 |_=>exact l.elim
end
section
variable{X:Cx}{E:XK}
noncomputable def M7(o:D)(ds:List D)(G:DH):R D:=match o,ds with
 |.str x,[.str y,.int k]=>if(y.length≠0/\x.length<=1000000)/\0<=k/\k<=1000 then .ok (.ref G.length) (G++[.lst ((Txt.splitMax x y k).map D.str)])else .bad
 |_,_=>.bad
def yL(a:0<=k):(Txt.splitMax x y k).length<=k.toNat+1:=by
 unfold Txt.splitMax;split
 .show 1<=_;lia
 split
 .show 1<=_;lia
 .have h:=StrLaws.occ_length_le x y 0 x.length (limitOf x k);have e:limitOf x k=k.toNat:=by unfold limitOf;rw[if_neg (by lia)]
  rw[e]at h⊢;have:(ji x (zd x y 0 x.length k.toNat) y.length).length=(zd x y 0 x.length k.toNat).length+1:=by simp[ji]
  lia
def yM:II X "str.split" (QL X.K E M7):=λvG s σ H x xs v us Q I rx rs h=>by
 obtain⟨a,G,d,ds,hk,rfl,sm,rd,r,q⟩:=h;unfold M7 at q;split at q
 .rename_i x' y k;obtain⟨w,w2,rfl,KL,rw2⟩:=YM r;cases(rd);cases(KL);cases(rw2);obtain⟨t,rfl⟩:=rx;obtain⟨u1,u2,rfl,⟨u',rfl⟩,⟨u3,rfl⟩⟩:∃u1 u2,us=[u1,u2]/\RelV (.str y) u1/\RelV (.int k) u2:=by
   cases rs with
   |cons p q=>cases q with
    |cons p' q'=>cases q';exact⟨_,_,rfl,p,p'⟩
  split at q
  .rename_i hl;obtain⟨⟨hy0,hx0⟩,k0,k1⟩:=hl;have hy:(y.length==0)=uX:=by simpa using hy0
   have Zs:(decide (k < -(2^63:Int))||decide (k ≥ 2^63))=uX:=by
    rw[decide_eq_false (by lia),decide_eq_false (by lia)]
    rfl
   have hsl:=yL (x:=x') (y:=y) k0;have LK:(Txt.splitMax x' y k).length<=sizeLine:=by rw[vZ];lia
   have key:∀(l:List (Str×Tok))(tk:Nat),l.map (·.1)=Txt.splitMax x' y k->EP X vG σ Q (.ref s.heap.objs.size) {s with toks:=tk,heap:=s.heap.push {cls:=.type "list",data:=.seq (strValues l).toArray}}:=λl tk e=>
    ⟨.ref s.heap.objs.size,_,I.laid (o:=.lst ((Txt.splitMax x' y k).map V.str)) (λb ob q=>zW _ q) (zY _) ⟨by rw[zV];exact LK,_,0,by rw[<-e];exact bE l,z9 _ rfl⟩,rfl,Lf sm (Vh _) q _ (I.SA.fresh (zY _))⟩
   cases h1:(decide (x'.length<y.length)||decide (zc x'<zc y))
   .cases hf:(zd x' y 0 x'.length (limitOf x' k)).isEmpty
    .have e:Txt.splitMax x' y k=ji x' (zd x' y 0 x'.length (limitOf x' k)) y.length:=(if_neg (ne_true_of_eq_false h1)).trans (if_neg (ne_true_of_eq_false hf));refine call_meets F.slot_str_split (typeIs_str _ _ _) F.entry_str_split (F.args_str_split_3 _ _ _) (meets_str_split_sep_max x' y k t u' u3 Zs h1 hy hf (MG hx0) (by rw[<-e];exact LK)) ?_;rw[strsFrom_eq]
     exact key (numbered s.toks _) _ ((numbered_texts _ _).trans e.symm)
    exact call_meets F.slot_str_split (typeIs_str _ _ _) F.entry_str_split (F.args_str_split_3 _ _ _) (meets_str_split_max_not_found x' y k t u' u3 Zs h1 hy hf) (key [(x',t)] s.toks ((if_neg (ne_true_of_eq_false h1)).trans (if_pos hf)).symm)
   exact call_meets F.slot_str_split (typeIs_str _ _ _) F.entry_str_split (F.args_str_split_3 _ _ _) (meets_str_split_max_cannot_occur x' y k t u' u3 Zs h1) (key [(x',t)] s.toks (if_pos h1).symm)
  exact q.elim
 exact q.elim
end
section
variable{prog:x0}{w:xC}{A:xj}{E:xB->x9->Prop}
theorem gQ(e:l≠it):∀(m j:Nat)(s:x9)(Q:List xB->x9->Prop),s.heap.IsListIter it l j->s.heap.IsList l LA->j+m<=LA.size->
  (∀h',h'.IsListIter it l (j+m)->jv it s.heap h'->Q ((LA.toList.drop j).take m) {s with heap:=h'})->vW (xU prog w) A (draw (.ref it) m) Q E s
 |0,j,s,Q,a,_,_,k=>vB (by simpa using k s.heap a (.refl ..))
 |m+1,j,s,Q,a,b,c,k=>by
  have lt:j<LA.size:=by lia
  apply vY;refine wpAny_pyNext_list_item a b (x:=LA[j]) (by simp[lt]) λp o f=>?_
  apply vY;apply vx;refine gQ e m (j+1) _ _ o (b.extBut f.extBut e) (by lia) λg i n=>vB ?_
  have z:=k g (by rw[show j+(m+1)=j+1+m by lia];exact i) (f.trans n);have h:LA.toList.drop j=LA[j]::LA.toList.drop (j+1):=by simp[qK,lt]
  rwa[h,jI]at z
def yN(i:A.handled=uZ)(c:s.heap.IsList l LA)
  (k:∀h',Heap.ExtBut s.heap.objs.size s.heap h'->Q LA.toList {s with heap:=h'}):vW (xU prog w) A (unpackItems (.ref l) LA.size uZ) Q E s:=by
 have d:l≠s.heap.objs.size:=by obtain⟨o,m,_⟩:=c;exact zP (zx m)
 unfold unpackItems notIterableAtAll;refine vY (vY (wpAny_specialOf c.typeIs slot_list_iter.lookup (vB ?_)));simp[j4,if_false];apply vY;apply vx;refine wpAny_pyIter_list c ?_;apply vY;apply vx;refine gQ d LA.size 0 _ _ ⟨_,z9 _ rfl,rfl,rfl⟩ (c.push _) (by lia) λp n f=>?_
 have all:List.take LA.size (.drop 0 LA.toList)=LA.toList:=by rw[List.drop_zero];exact qI (by simp)
 rw[all,if_neg (by simp)];apply vY;apply vx;refine wpAny_pyNext_list_end i n ((c.push _).extBut f.extBut d) (by simp) λh j=>?_
 simp[Option.isSome_none,j4,if_false];exact vB (k h λb o g e=>j b o g (f.extBut b o g (zW _ e)))
end
section
variable{X:Cx}{E:XK}
noncomputable def gLs(K:za)(n:Nat)(t:OO):TG:=λv σ H Q=>∃a xs,v=.ref a/\IE K H a xs/\xs.length=n/\t xs σ H Q
def yO{es:List xw}{k:Nat}{t:OO}{n:Nat}{pos:Pos}(q:X.calm=uJ)(h:KP X es t)
  (l:(xD es X.env).length=n:=by rfl) (d:(xD es X.env).findIdx? (·.1)=uZ:=by rfl):PG X (.Tuple es k pos) (gLs X.K n t):=by
 intro c s j H v u Q I r ⟨a,x,p,m,i,hw⟩;subst p;cases r;obtain⟨f,g,z,C⟩:=I.list m;rw[assign_Tuple];apply vY;apply wpAny_standAt;unfold unpack;rw[d,l];apply vY;apply vx;have y:n=f.toArray.size:=by rw[zj,<-g.length,i]
 rw[y];exact yN (I.ok.hd q) z.isList λF B=>(h c _ j H x _ Q (I.kept λb o e=>B b o (zP (zx e)) e) (by simpa using g) hw)
noncomputable def S8(n:Nat)(t:RO):DG:=λd S G=>match d with
 |.fl ds=>if ds.length=n then t ds S G else .bad
 |_=>.bad
theorem yP{es:List xw}{k:Nat}{t:RO}{n:Nat}{pos:Pos}(m:X.calm=uJ)(h:MS X E es t)
  (g:(xD es X.env).length=n:=by rfl) (b:(xD es X.env).findIdx? (·.1)=uZ:=by rfl):QG X E (.Tuple es k pos) (S8 n t):=(yO m h g b).mono λv o H Q h=>by
 obtain⟨a,S,G,d,hk,rfl,s,r,q,h⟩:=h;cases d with
 |fl l=>
  obtain⟨p,j,e,i,c⟩:=q;unfold S8 at h;dsimp only at h;split at h
  .rename_i f;exact⟨p,j,e,by rw[<-hk];exact i.sq,by rw[<-c.length];exact f,a,S,G,l,hk,rfl,s,r,c,h⟩
  exact h.elim
 |_=>exact h.elim
@[simp]theorem HJ:S8 n t (.fl ds) S G=if ds.length=n then t ds S G else .bad:=id rfl
noncomputable def VH(x y:Str):List D:=[.str (Txt.rpartition x y).1,.str (Txt.rpartition x y).2.1,.str (Txt.rpartition x y).2.2]
def Oi(o:D)(ds:List D)(G:DH):R D:=match o,ds with
 |.str x,[.str y]=>if y.length≠0/\x.length<=1000000 then .ok (.tup (VH x y)) G else .bad
 |_,_=>.bad
def yQ:II X "str.rpartition" (QL X.K E Oi):=λj s N H x T v U Q I C O h=>by
 obtain⟨a,G,d,S,hk,rfl,P,J,r,q⟩:=h;unfold Oi at q;split at q
 .rename_i c y;obtain⟨w,rfl,m⟩:=YB r;cases(J);cases(m);obtain⟨t,rfl⟩:=C;obtain⟨u,rfl,M,rfl⟩:=vals1 O;split at q
  .rename_i B;have g:KA a (VH c y) [.str (Txt.rpartition c y).1,.str (Txt.rpartition c y).2.1,.str (Txt.rpartition c y).2.2]:=.cons (rfl) (.cons (rfl) (.cons (rfl) KA.nil));have e:∀(p l n:Tok)(k:Nat),EP X j N Q (.ref s.heap.objs.size) {s with toks:=k,heap:=s.heap.push {cls:=.type "tuple",data:=.seq [.str (Txt.rpartition c y).1 p,.str (Txt.rpartition c y).2.1 l,.str (Txt.rpartition c y).2.2 n].toArray}}:=λp l n k=>
    ⟨.ref s.heap.objs.size,_,I.laid (o:=.tup [.str (Txt.rpartition c y).1,.str (Txt.rpartition c y).2.1,.str (Txt.rpartition c y).2.2]) (λb W q=>zW _ q) (zY _) ⟨by show 3<=sizeLine;decide,_,.cons ⟨p,rfl⟩ (.cons ⟨l,rfl⟩ (.cons ⟨n,rfl⟩ .nil)),.new _ _⟩,rfl,Ue P g q _ (I.SA.fresh (zY _))⟩
   refine call_meets F.slot_str_rpartition (typeIs_str _ _ _) F.entry_str_rpartition (F.args_str_rpartition_2 _ _) (meets_str_rpartition c y t M (by simpa using B.1) (MG B.2)) ?_;clear g
   revert e
   clear q;unfold Txt.rpartition;cases Builtin.Str.lastOccurrence c y 0 c.length with
   |_=>intro e;exact e _ _ _ _
  exact q.elim
 exact q.elim
noncomputable def Qg(o:D)(ds:List D)(G:DH):R D:=match o,ds with
 |.str x,[]=>if(Txt.upper x).length<=1000000 then .ok (.str (Txt.upper x)) G else .bad
 |_,_=>.bad
def m_upper:II X "str.upper" (QL X.K E Qg):=λb s j H x m v k Q I g f h=>by
 obtain⟨a,G,d,l,hk,rfl,i,c,r,q⟩:=h;unfold Qg at q;split at q
 .rename_i n;cases(c);cases r;cases f;obtain⟨t,rfl⟩:=g;split at q
  .rename_i e;refine SC.upper ?_ ⟨.str _,a.H,I.tok _,⟨_,rfl⟩,q a _ (.refl a) i rfl⟩;have:=MG e;simp[wj,decide_eq_false_iff_not];lia
  exact q.elim
 exact q.elim
noncomputable def Xk:List D->Option (List Bool)
 |[]=>uQ []
 |.bl x::r=>(Xk r).map (x::·)
 |_=>uZ
theorem gR:∀{xs:List D}{ns:List Bool},Xk xs=uQ ns->xs=ns.map D.bl
 |[],ns,h=>by cases h;rfl
 | d::r,ns,h=>by
  unfold Xk at h;split at h
  .rename_i e;cases e
  .rename_i x a e;cases e;rw[zA]at h;obtain⟨m,e,rfl⟩:=h;rw[gR e]
   rfl
  cases h
def Rt(d:D)(ds:List D)(G:DH):R D:=match ds with
 | [.bl k]=>match Ij d G with
  |some xs=>match Xk xs with
   |some ns=>if k∈ns/\ns.length<=1000000 then .ok (.int (ns.idxOf k)) G else .bad
   |none=>.bad
  |none=>.bad
 |_=>.bad
theorem gS:∀{ns:List Bool}{vs:List V},KA a (ns.map D.bl) vs->vs=ns.map V.bl
 |[],vs,h=>h
 |n::ns,vs,h=>by
  obtain⟨v,r,e,c,b⟩:=h;rw[e,gS b];cases(c)
  rfl
theorem gT:∀{ns:List Bool}{us:List xB},Vals (ns.map V.bl) us->us.length=ns.length/\∀(j:Nat)(u:xB),us[j]?=uQ u->∃h:j<ns.length,u=.bool ns[j]
 |[],us,h=>by cases h;exact⟨rfl,λj u e=>by simp at e⟩
 | n::ns,us,h=>by
  cases h with
  | cons r d=>
   obtain⟨b,f⟩:=gT d;cases r;refine⟨by simp[b],λj u e=>?_⟩;cases j with
   |zero=>simp at e;exact⟨by simp,by simpa using e.symm⟩
   |succ j=>
    obtain⟨c,a⟩:=f j u (by simpa using e);exact⟨by simpa using c,by simpa using a⟩
def yR:II X "list.index" (QL X.K E Rt):=by
 intro Z s σ H x xs v us Q I rx A h;obtain⟨a,G,d,ds,hk,rfl,sm,rd,J,q⟩:=h;unfold Rt at q;split at q
 .rename_i k;split at q
  .rename_i ys C;split at q
   .rename_i f S;split at q
    .rename_i P;obtain⟨j,hlen⟩:=P;obtain⟨p,vs,rfl,T,W⟩:=Wz sm rd C;rw[gR S]at W;rw[gS W,hk]at T;cases rx;obtain⟨v1,rfl,L⟩:=YB J;cases(L);obtain⟨u,rfl,ru⟩:=A.one;cases ru;obtain⟨b,l,⟨o,n,N,U,hdi,Y⟩,hz⟩:=I.list T;obtain⟨t,c⟩:=gT l;have w:=List.idxOf_lt_length_of_mem j;have O:f.idxOf k<b.toArray.size:=by simpa[t]using w
     have z:o={cls:=.type "list",dict:=o.dict,data:=.seq b.toArray n,slots:=o.slots}:=by
      obtain⟨c1,c2,c3,c4⟩:=o;simp only at U Y;subst U;subst Y
      rfl
     rw[z]at N
     refine call_meets PySem.F.slot_list_index ⟨_,N,rfl⟩ PySem.F.entry_list_index (PySem.F.args_list_index_2 _ _) (SeqAt.list_indexAt p b.toArray n o.dict o.slots (.bool k) (λy=>match y with | .bool i=>i==k|_=>uX) (f.idxOf k) O (by lia) ?_ ?_) ⟨N,λy C=>?_,⟨.int (f.idxOf k),a.H,I.tok _,⟨_,rfl⟩,q a _ (.refl a) sm rfl⟩⟩
     .have B:b[f.idxOf k]?=uQ b.toArray[f.idxOf k]:=by simp[zX (by simpa[t]using w:f.idxOf k<b.length)]
      obtain⟨h3,g⟩:=c _ _ B;rw[g];simp
     .intro m M r;have B:b[m]?=uQ b.toArray[m]:=by simp[zX (by simpa using M)]
      obtain⟨h3,g⟩:=c _ _ B;rw[g];have:=List.not_of_lt_findIdx r;simpa using this
     .obtain⟨m,M,e⟩:=qw (by simpa using C);obtain⟨h3,g⟩:=c m y (by rw[zX M,e]);rw[g];exact .bool_bool _ _
    exact q.elim
   exact q.elim
  exact q.elim
 exact q.elim
end
def Xj(it:DI)(nt:Nat)(caps:List Nat)(g:DG)(c:DB)(te:DE):DE:=λS G=>(it S G).bind λJ G1=>match J with
 |.fn n f=>if n<=1000000 then(Bx f g c te (Ao nt caps S) n 0 G1).bind Ai else .bad
 |_=>.bad
theorem gU:Xj it nt caps g c te S G=(it S G).bind λJ a=>match J with
 |.fn n f=>if n<=1000000 then(Bx f g c te (Ao nt caps S) n 0 a).bind Ai else .bad
 |_=>.bad:=rfl
section
variable{X:Cx}{E:XK}{tg iter elt:xw}{ifs:List xw}{scope:x2}{pos:Pos}{it:DI}{nt:Nat}{caps:List Nat}{g:DG}{c:DB}{te:DE}
theorem yS(i:Nat){y:Str}{py t:Pos}(hN:X.N.Nodup)(hi:QI X E tg iter it)(hg:∀C j l p,(Do tg caps X.N).Nodup->QG (Hn X E (Do tg caps X.N) scope C j l p) E tg g)(gk:GK nt g)(PM:∀C j l p,RL (Hn X E (Do tg caps X.N) scope C j l p) E ifs c)
  (he:∀C j l p,QE (Hn X E (Do tg caps X.N) scope C j l p) E elt te) (Jn:∀e s',Ga X E e s'->X.xe e s':=by exact λ_ _ h=>h) (M:X.stack=X.env::X.outer:=by rfl) (U:X.ex=[]:=by rfl) (UW:X.env.frame=uQ X.env.locals:=by rfl)
  (hc:X.calm=uJ:=by rfl) (hk:scope.kind=.function:=by rfl) (hdn:∀x,X.env.kindOf x=X.env.scope.names.lookup x:=by intro _;rfl)
  (h:Ob X.env.scope.names X.N (Do tg caps X.N) scope.names nt caps=uJ:=by kernel_rfl)
  (hy:X.N[i]?=uQ y:=by rfl) (hx:Loc X.env.scope y:=by rfl') (hf:X.fn y=uJ\/X.env.scope.names.lookup y=uQ .local:=by rfl')
  (Y:swapsWith (.ListComp elt [⟨tg,iter,ifs,0⟩] scope pos) (uQ (.Name y py)) t.line X.env=pure uJ:=by rfl)
  (hs:∀x,foldedSetIterable iter X.env x=pure x:=by intro _;rfl):QS X E (.Assign [.Name y py] (.ListComp elt [⟨tg,iter,ifs,0⟩] scope pos) t) (XB (Xj it nt caps g c te) (gV i)):=by
 have F:=Ke hk hdn rfl h;intro A s σ H W I h;obtain⟨a,S,G,hk,rfl,sm,r,h⟩:=h;have h0:=Oh h;rw[exec_Assign_Name_used _ _ _ _ Y];refine vY (wpAny_standAt (vY ?_));refine vY (vv (wpAny_comprehension_free rfl hs (Wm (F.cells I.ok)) F.kind F.names
  (ZA (hi A s σ a.H _ I ⟨a,S,G,hk,rfl,sm,r,(Vt h0).imp λ_ _ z=>z⟩) λxv s1 q=>ZA q λJV s2 h2=>?_)) (λ_ s' hq=>vB (vB hq)) λ_ _ e=>e)
 obtain⟨i0,fp,tn,J,H2,rfl,L,T,t0,f2,b,d,G1,rfl,x,sb,rJ,_,q⟩:=h2;cases d with
 | fn n0 f=>
  dsimp only at q;split at q
  .rename_i hl;refine gP hc M U UW F (λC j l p=>hg C j l p F.nd) gk PM he L (x.k.trans hk) sb (r.mono x) T t0 f2 rJ hl q ?_ ?_
   .intro D C s' b' vs Ia hD n TL ⟨m,Z⟩ hCn hq;refine wpAny_assign_Name (aR Ia hN hy hx (v:=.ref D) rfl (λOP O hch=>?_) hf);obtain⟨a',K,u⟩:=hch;have P:C≠a':=by
     rintro rfl;rcases u with rfl|u
     .exact absurd (zK L.lt n) (zH _)
     obtain⟨v,o,e',_⟩:=L.cell _ _ u;exact absurd (zK (zx e') n) (zH _)
    refine⟨m,Z.sameBut K P,λh' w=>⟨_,_,letGo L O n ?_ w,?_⟩⟩
    .rw[Aw (.symm TL)];exact hCn
    obtain⟨b3,d3,G3,e3,x3,s3,q3,_,h3⟩:=hq;rw[<-e3];exact h3 b3 _ (.refl b3) s3 ((r.mono x3).set i q3)
   rintro D C e s₂ ⟨m,Z,hh⟩;exact⟨m,Z,λh' w B Q=>vv (hh h' w B Q) (λ_ _ z=>z) Jn⟩
  exact q.elim
 |_=>exact q.elim
end
end _D
namespace _D
open PySem PySem.W _L
def TY(s:xA):List Str:=(Ba s).names.filterMap λp=>match p.2 with
 |.local=>uQ p.1
 |.cell=>uQ p.1
 |_=>uZ
def HM(s:xA):List Str:=(TY s).take (G9 s).args.length
noncomputable def JQ:xA->Str
 |.FunctionDef n _ _ _ _ _ _ _ _ _=>n
 |_=>Str.empty
structure Ev where
 P:x0
 w:xC
 K:vE
 mg:Str->Option xB
 base:Heap
noncomputable def Ask.nm:Ask->Str
 |.z n=>n
 |.gi n _=>n
 |.gs n _=>n
 |.no c x=>c++"."++x
 |_=>Str.empty
def UY(b:List xA)(ex:List Ask)(n:Str):Option Ask:=(Zx b ex).find? λx=>x.nm==n
theorem gW:∀{l:List Ask},JF K l->∀a∈l,a.RI K
 |[],_,_,h=>nomatch h
 |b::r,h,a,m=>by
  rcases zZ.mp m with rfl|m
  .exact h.1
  exact gW h.2 a m
structure Gx (b:List xA) (ex:List Ask) (U:Ev):Prop where
 h:∃h,U.K.In h/\h.Ns xT U.mg
 S:∀a∈Zx b ex,a.RI U.K
section
variable{b:List xA}{ex:List Ask}{U:Ev}(T:Gx b ex U)
include T
def Gx.has(e:UY b ex n=uQ a):a.RI U.K:=T.S _ (List.mem_of_find?_eq_some e)
def Gx.z(e:UY b ex n=uQ (.z n):=by kernel_rfl):U.mg n=uZ:=by obtain⟨h,X,G⟩:=T.h;exact mg_none_of X G (T.has e)
def Gx.gi(e:UY b ex n=uQ (.gi n v):=by kernel_rfl):U.mg n=uQ (.int v (M5 U.K n)):=by obtain⟨h,X,G⟩:=T.h;exact mg_of X G (T.has e)
def Gx.gs(e:UY b ex n=uQ (.gs n v):=by kernel_rfl):U.mg n=uQ (.str v (M5 U.K n)):=by obtain⟨h,X,G⟩:=T.h;exact mg_of X G (T.has e)
def Gx.at (i:Nat):(Z4 (IK b i)).RI U.K:=by
 unfold IK List.getD;rcases h:b[i]? with _|s
 .exact rfl
 exact T.S _ (zk _ (zk _ (zk _ (List.mem_map_of_mem (qO h)))))
end
def S?(s:xA):Bool:=decide ((Ba s).kind=.function/\(Ba s).isCoroutine=uX/\(Ba s).isGenerator=uX/\(TY s).Nodup/\(∀x∈HM s,(Ba s).names.lookup x=uQ .local\/(Ba s).names.lookup x=uQ .cell)/\∀y∈(Ba s).names,y.2≠ .free)
def sck(h:S? s=uJ):MB (TY s) (HM s) (Ba s):=by obtain⟨d,e,c,g,f,a⟩:=of_decide_eq_true h;exact⟨d,e,c,g,by unfold HM;rw[qH,<-List.take_eq_take_min],f,a⟩
def UI(n q:Str)(st:xA):Prop:=∀(kV doc pm:xB)(an:Option xz)(ID ct:xB)(us:List xB),us.length=(HM st).length->bindArgs (fnOf n q (G9 st) (Dp st) (Ba st) .none kV doc pm an ID ct) ⟨us,[]⟩=pure ((HM st).zip us)
def UI.mk(h:UI n q st:=by intro _ _ _ _ _ _;first|exact Iq λ_=>rfl|exact IX λ_ _=>rfl|exact Qr λ_ _ _=>rfl|exact Sr λ_ _ _ _=>rfl|exact Ps λ_ _ _ _ _=>rfl|exact Ts λ_ _ _ _ _ _=>rfl|exact JX λ_ _ _ _ _ _ _=>rfl|exact Bw λ_=>JX λ_ _ _ _ _ _ _=>rfl):UI n q st:=h
noncomputable abbrev FN:=List D->DH->R D
def GO(U:Ev)(st:xA)(k:Nat)(F:FN):Prop:=FT U.K U.mg (JQ st) st (HM st)/\Pm U.P U.w U.K U.mg U.base k (JQ st) (HM st) F
def GX(U:Ev)(st:xA)(k:Nat)(F:FN):Prop:=FT U.K U.mg (JQ st) st (HM st)/\Lo U.P U.w U.K U.mg U.base k (JQ st) (HM st) F
abbrev SC(st:xA):Prop:=MB (TY st) (HM st) (Ba st)
section
variable{b:List xA}{ex:List Ask}{U:Ev}(T:Gx b ex U)
include T
def Gx.fs(i:Nat)(e:Z4 (IK b i)=.fn (JQ (IK b i)) (IK b i):=by rfl)(S:S? (IK b i)=uJ:=by kernel_rfl)(a:UI (JQ (IK b i)) (JQ (IK b i)) (IK b i):=by exact UI.mk):FT U.K U.mg (JQ (IK b i)) (IK b i) (HM (IK b i))/\SC (IK b i):=by obtain⟨h,X,G⟩:=T.h;have h:=T.at i;rw[e]at h;exact⟨tq X G h a,sck S⟩
end
noncomputable def _root_._L.Cx.ev(X:Cx):Ev:=⟨X.prog,X.w,X.K,X.mg,X.base⟩
def yT{X:Cx}{k j:Nat}{n:Str}{st:xA}{F:FN}{p pos:Pos}{e:xw}{es:List xw}{tr:DA}(I:GO X.ev st k F)(d:TB j X.A)(h:QA X E0 (e::es) tr)(a:JQ st=n:=by rfl)
  (c:Nat.ble k j=uJ:=by rfl) (i:Gl X n:=by rfl) (f:(n==("__debug__":Str))=uX:=by decide) (g:notStar e=uJ:=by rfl) (hp:es.all notStar=uJ:=by rfl):QE X E0 (.Call (.Name n p) (e::es) [] pos) (JA F tr):=by
 subst a;exact Vd I.2 I.1 d h (jW c) i f g hp
section
open PySem.Spec
open PyProof.Rows hiding St
def yU{K:vE}{c:Str}(s:Zc K c=uJ):XN K c:=by simp[Zc,zq]at s;obtain⟨⟨d,m,k⟩,⟨⟨⟨⟨⟨⟨f,h⟩,a⟩,g⟩,l⟩,i⟩,b⟩,j⟩:=s;exact⟨Iu d,⟨Jm f,Tu h,Hi a,k,Jm g,Jm l,Hi i,Hi b,Hi j,m⟩⟩
structure CX (K:vE) (mg:Str->Option xB) (cs es:List Str):Prop where
 w:∀c∈cs,mg c=uQ (.ref (Ac K c))
 m:∀c∈cs,∀e∈es,Dn (kitOne K (.ref (Ac K e)) (.ref (Ac K c))) (c==e)=uJ
 x:∀e∈es,XN K e
 t:∀e∈es,Np K (Ac K e) (Ac K "WaterError") uJ=uJ
 v:∀e∈es,Dn (kitOne K (.ref (Ac K e)) (.type "ValueError")) uJ=uJ
def yV{K:vE}{h:Heap}{g:Str->Option xB}{cs es:List Str}(X:K.In h)(G:h.Ns xT g)(s:aJ cs es K=uJ):CX K g cs es:=by simp[aJ,zq,qX]at s;obtain⟨a,b⟩:=s;exact⟨λc f=>mg_of X G (Iu (a c f).1),λc f e d=>(a c f).2 e d,λe d=>yU (b e d).1.1,λe d=>(b e d).1.2,λe d=>(b e d).2⟩
section
variable{K:vE}{mg:Str->Option xB}{cs es ws:List Str}{c:Str}{tb:List (Str×Bool)}
theorem gX{cu:xB}{f:Str->Bool}(x:∀e∈es,XN K e/\Dn (kitOne K (.ref (Ac K e)) cu) (f e)=uJ):Tb K (λC b=>PD K C/\kitOne K (.ref C) cu=uQ b) (es.map λe=>(e,f e)):=by
 induction es with
 |nil=>exact wt
 |cons e es d=>exact xp (x e (by simp)).1 (x e (by simp)).2 (d λa h=>x a (zQ _ h))
def CX.tbV(T:CX K mg cs es)(h:(es.map λe=>(e,uJ))=tb:=by kernel_rfl):Tb K (λC b=>PD K C/\kitOne K (.ref C) (.type "ValueError")=uQ b) tb:=h▸gX λe a=>⟨T.x e a,T.v e a⟩
def CX.tk(T:CX K mg cs es)(h:es=ws:=by kernel_rfl):Tk K "WaterError" uJ ws:=by subst h;intro e a C b;rw[(T.x e a).N]at b;cases b;exact T.t e a
end
section
variable{X:Cx}{E:XK}{w:Str}{e:xw}{t:DE}{p q pos:Pos}{cs es:List Str}{tb:List (Str×Bool)}
def Gu(T:CX X.K X.mg cs es)(g:X.mg "isinstance"=uZ)(j:QE X E e t)(b:cs.contains w=uJ:=by kernel_rfl)(h:(es.map λe=>(e,w==e))=tb:=by kernel_rfl)(f:Gl X "isinstance":=by rfl)(d:Gl X w:=by rfl)(i:(w==("__debug__":Str))=uX:=by decide)(a:notStar e=uJ:=by rfl):
  QE X E (.Call (.Name "isinstance" p) [e,.Name w q] [] pos) (XE (ZG tb) t):=by
 subst h;have hw:w∈cs:=by simpa using b
 exact xm g (T.w w hw) (gX λe a=>⟨T.x e a,T.m w hw e a⟩) j f d i a
end
end
end _D
namespace _W
open PySem _L _D
noncomputable abbrev yW:=top 33
noncomputable abbrev yX:List Str:=["thing"]
noncomputable abbrev yY:=top 64
noncomputable abbrev yZ:List Str:=["text"]
noncomputable abbrev y0:=top 62
noncomputable abbrev y6:List Str:=["text","row"]
noncomputable abbrev y9:=top 69
noncomputable abbrev ya:List Str:=["_law_xs","_law_letters","_law_names_here","_law_x","_law_word","_law_rest","_law_j","_law_some"]
noncomputable abbrev yb:=top 75
noncomputable abbrev yc:List Str:=["_law_rule_here"]
def fuel:Nat:=100000 abbrev FN:=List D->DH->R D abbrev cI (n:Int):DE:=dC (.int n) abbrev cS (n:Str):DE:=dC (.str n) abbrev d1 (a:DE):DA:=An a Bl abbrev d2 (a b:DE):DA:=An a (An b Bl) abbrev d3 (a b c:DE):DA:=An a (An b (An c Bl)) abbrev d4 (a b c d:DE):DA:=An a (An b (An c (An d Bl))) abbrev oI (a b:DE):DE:=NA Ax a b abbrev oA (a b:DE):DE:=NA By a b abbrev oM (a b:DE):DE:=NA K7 a b abbrev oX (a b:DE):DE:=NA Oo a b abbrev oS (a b:DE):DE:=NA S9 a b abbrev oD (a b:DE):DE:=NA R1 a b abbrev oE (a b:DE):DE:=NA Fl a b abbrev oL (a b:DE):DE:=NA M6 a b abbrev oG (a b:DE):DE:=NA R9 a b abbrev oP (a b:DE):DE:=NA Tz a b abbrev sL (k:Nat) (a:DE) (b:DS):DS:=Ad (XB a (gV k)) b abbrev sC (a:DE) (b:DS):DS:=PC (Al a) b VC abbrev v0:DE:=dV 0 abbrev v1:DE:=dV 1 abbrev v2:DE:=dV 2 abbrev v3:DE:=dV 3 abbrev v4:DE:=dV 4 abbrev v5:DE:=dV 5 abbrev v6:DE:=dV 6 abbrev v7:DE:=dV 7 abbrev v8:DE:=dV 8 abbrev v9:DE:=dV 9 abbrev v10:DE:=dV 10 abbrev v11:DE:=dV 11 abbrev v12:DE:=dV 12 abbrev v13:DE:=dV 13 abbrev v14:DE:=dV 14 abbrev v15:DE:=dV 15 abbrev v16:DE:=dV 16 abbrev g0:DG:=gV 0 abbrev g1:DG:=gV 1 abbrev g2:DG:=gV 2 abbrev g3:DG:=gV 3 abbrev g4:DG:=gV 4 abbrev g5:DG:=gV 5 abbrev g6:DG:=gV 6 abbrev g7:DG:=gV 7 abbrev g8:DG:=gV 8 abbrev g9:DG:=gV 9 abbrev g10:DG:=gV 10 abbrev g12:DG:=gV 12 abbrev g13:DG:=gV 13 abbrev g15:DG:=gV 15 abbrev c0:DE:=cI 0 abbrev c1:DE:=cI 1 abbrev c2:DE:=cI 2 abbrev c3:DE:=cI 3 abbrev c4:DE:=cI 4 abbrev c5:DE:=cI 5 abbrev c6:DE:=cI 6
def yd:MB ["self","place"] ["self","place"] (Ba Zi):=HR
def ye:MB ["self","place"] ["self","place"] (Ba aL):=HR
def yf:MB ["self","place"] ["self","place"] (Ba aM):=HR
def yg:MB ["self","place"] ["self","place"] (Ba aN):=HR
def yh:MB ["self","place"] ["self","place"] (Ba aO):=HR
def yi:MB ["self","row"] ["self","row"] (Ba aP):=HR
noncomputable abbrev yj:List Str:=["_law_cell","_law_letters","_law_xs","_law_word","_law_turned","_law_other","_law_names_here","_law_k","_law_name","_law_size","_law_at","_law_sign"]
def Vf:MB yj (HM (top 70)) (Ba (top 70)):=HR
noncomputable abbrev ym:List Str:=["_law_script","_law_house_here","_law_xs","_law_year","_law_places","_law_rank","_law_at","_law_good","_law_kept","_law_rows_here","_law_first","_law_those","_law_k","_law_j","_law_told","_law_way","_law_caught_here"]
def Yn:MB ym (HM (top 92)) (Ba (top 92)):=HR
def Va:DS:=Ad (XB (oI (oI v0 c5) c0) (Bf 2 (Am g3 (Am g4 Bg)))) (Ad (sC (oE (oM v2 c3) c0) (WA (NA Ea (JA Aq (d1 (JA Aq (d2 c1 v4)))) (Ag (OE (oI v0 c5) (uQ c1) uZ))))) (Ad (sC (oE (oM v2 c3) c1) (WA (NA Ea (oI v0 c5) (JA Aq (d1 (JA Aq (d2 v1 v4))))))) (WA (NA Ea (JA Aq (d1 (JA Aq (d2 v3 (NA Ea v4 (JA Aq (d1 (JA Aq (d3 c0 c0 (cS "river")))))))))) (Ag (OE (oI v0 c5) (uQ c1) uZ))))))
def Oz:FN:=Ar 3 2 Va
def gY:DS:=WA (NA Ea (Ag (NA Ea (Ag (OE v0 uZ (uQ v1))) (JA Aq (d1 v2)))) (Ag (OE v0 (uQ (NA Ea v1 c1)) uZ)))
def Cv:FN:=Ar 3 0 gY
def bM:DS:=XG (Ed El v4 (d1 v6))
def Y9:DS:=Ad (sC (oE v5 v1) (XB (Ag (JA Cv (d3 v6 c1 v2))) g6)) bM
def bN:DS:=Ad (PC (Ck (Al (oE (oI v6 c0) (cS "basin"))) (Ck (Al (NA Jr (oI v6 c6) (dC .UA))) (Al (oE (oI (oI v6 c6) c0) v3)))) (XB (Ag (JA Cv (d3 v6 c6 (Ag (oA (JA Aq (d1 v2)) (Ag (OE (oI v6 c6) (uQ c1) uZ))))))) g6) VC) Y9
def gZ:DS:=Ad (sC (oE (oI v6 c2) v3) (XB (Ag (JA Cv (d3 v6 c2 v2))) g6)) bN
def Ry:DS:=sL 6 (oI v0 v5) gZ
def gb:DS:=sL 3 (oI (oI v0 v1) c1) (sL 4 (Ei (JA Ai Bl)) (Ad (Dz (Fb UD (d1 (JA Bv (d1 v0)))) g5 Ry) (WA (JA Eb (d1 v4)))))
def Ww:FN:=Ar 3 4 gb
def bO:DS:=WA (JA Aq (d4 v2 (Ag (JA Cv (d3 v3 v4 (Ag (JA Cv (d3 v5 c3 c6)))))) c2 v4))
def Q7:DS:=Ad (PC (Ck (Al (oG v6 c5)) (Al (oE (oI v5 c0) (cS "basin")))) (WA (JA Aq (d4 v2 (Ag (JA Cv (d3 v3 v4 (Ag (JA Cv (d3 v5 c5 (Ag (JA Oz (d3 v5 v2 (oI v1 c2)))))))))) c6 v4))) VC) bO
def Jh:DS:=Ad (PC (Ck (Al (oG v6 c6)) (Ck (Al (oE (oI v5 c0) (cS "basin"))) (Al (NA Jr (oI v5 c6) (dC .UA))))) (sL 7 (Ag (JA Cv (d3 (oI v5 c6) (oM v6 c2) (oI (Ag (JA Ai (d2 (oI (Ag (JA Ai (d2 c6 c0))) (oM (oI v1 c2) c2)) (oI v5 c1)))) (JA Hl (d1 (oE v6 (cI 8)))))))) (WA (JA Aq (d4 v2 (Ag (JA Cv (d3 v3 v4 (Ag (JA Cv (d3 v5 c6 v7)))))) c5 v4)))) VC) Q7
def bP:DS:=Ad (sC (oE v6 c4) (WA (JA Aq (d4 v2 (Ag (JA Cv (d3 v3 v4 (Ag (JA Cv (d3 v5 c2 (oI v5 c1))))))) c2 v4)))) Jh
def V9:DS:=Ad (sC (oE v6 c3) (WA (JA Aq (d4 v2 (JA Ww (d3 v3 v4 (oI (Ag (JA Ai (d2 (oA (oI v5 c1) (cS "abcdefgh")) (cS "sea")))) (oM (oI v1 c2) c2)))) c1 v4)))) bP
def T3:DS:=Ad (sC (oE v6 c2) (WA (JA Aq (d4 v2 (JA Aq Bl) c0 c0)))) V9
def M9:DS:=Ad (sC (oL v6 c2) (WA (JA Aq (d4 (oI (Ag (JA Ai (d2 c0 (cI 25)))) v6) v3 c0 c0)))) T3
def gc:DS:=sL 6 (oM (oI v1 c1) (cI 10)) M9
def gf:DS:=sL 5 (oI v3 v4) gc
def gh:DS:=sL 4 (oM (oI v1 c0) (JA Bv (d1 v3))) gf
def gj:DS:=Ad (XB v0 (Bf 2 (Am g2 (Am g3 Bg)))) gh
def Mh:FN:=Ar 2 6 gj
def Uy:DE:=NA Ek v0 (cS "abcdefghijklmnopqrstuvwxyz")
def gm:DS:=Ad (PC (PH (Al (oE v0 (cS "sea"))) (Cp (Al (I7 Fg Fg c1 (JA Bv (d1 v0)) (cI 8))))) (WA (dC (.bl uX))) VC) (WA (JA I8 (d1 (Ag (Cw (Cj v0) 1 [] g0 Ay Uy)))))
def Xi:FN:=Ar 1 0 gm
def gp:DS:=Ad (sC (NA Nq v0 (dC .UA)) (WA (dC (.bl uJ)))) (WA (J6 (NA Ek (oI v0 c0) v1) (I7 Fg Fg c1 (oI v0 c1) c5)))
def Qq:FN:=Ar 2 0 gp
def gq:DS:=WA (J6 (Th (oE (oI v0 c2) (cS "sea")) (NA Ek (oI v0 c2) v1)) (I7 Fg Fg c0 (oI v0 c3) c5))
def V6:FN:=Ar 2 0 gq
def Vg:DS:=Ad (PC (Cp (Al (I7 M6 M6 v2 v3 v1))) (WA (dC (.bl uX))) VC) (XB v3 g2)
def gr:DS:=Ad (PC (PH (Al (oE (JA Bv (d1 v0)) c0)) (Al (NA Eg (oI (oI v0 c0) c0) c0))) (WA (dC (.bl uX))) VC) (sL 2 (XE K5 c1) (Ad (Dz (Cj v0) (Bf 2 (Am g3 (Am g4 Bg))) Vg) (WA (dC (.bl uJ)))))
def Vl:FN:=Ar 2 3 gr
def Wg:DS:=Ad (PC (PH (Al (oL v2 v1)) (Al (oL v3 c1))) (WA (dC (.bl uX))) VC) (XB (oA v2 v3) g1)
def gu:DS:=sL 1 c0 (Ad (Dz (Cj v0) (Bf 3 (Am g2 (Am g3 (Am g4 Bg)))) Wg) (WA (dC (.bl uJ))))
def Vb:FN:=Ar 1 4 gu
noncomputable def bQ:DE:=v1
def Zw:DB:=(Al (NA Fl (dV 2) (dC (.str "pump"))))
def gv:DS:=sL 2 (Ag (Cw (Cj v0) 3 [] (Bf 3 (Am g0 (Am g1 (Am g2 Bg)))) Zw bQ)) (Ad (sC (NA Nq v1 (dC .UA)) (WA (oE (JA Bv (d1 v2)) c0))) (WA (NA Fg (JA Js (d1 v2)) (oI v1 c2))))
def Yq:FN:=Ar 2 1 gv
def W8:DS:=PC (PH (Cp (Al (JA Vb (d1 v4)))) (Cp (Al (JA Yq (d2 v4 v1))))) (WA (dC (.bl uX))) VC
def gw:DS:=Ad (PC (Cp (Al (JA Vl (d2 v0 v2)))) (WA (dC (.bl uX))) VC) (Ad (Dz (Cj v0) (Bf 2 (Am g3 (Am g4 Bg))) W8) (WA (dC (.bl uJ))))
def Qe:FN:=Ar 3 2 gw
def gy:DS:=Ad (sC (oE (oI v0 c0) (cS "town")) (WA (JA Ai (d2 (oI v0 c4) (oI v0 c5))))) (Ad (sC (oE (oI v0 c0) (cS "mill")) (WA (JA Ai (d1 (oI v0 c4))))) (Ad (sC (NA Nq (oI v0 c6) (dC .UA)) (WA (JA Ai (d1 (oI v0 c4))))) (WA (JA Ai (d2 (oI v0 c4) (oI (oI v0 c6) c2))))))
def Wu:FN:=Ar 1 0 gy
noncomputable def Yl:DE:=oI v0 c1
noncomputable def Xw:DE:=oI v0 c1
def Nr:DS:=Ad (YF (XB (oI v0 c1) g2)) (Ad (YF (XB (oI v2 v1) g3)) (Ad (YF (XB (Ag (Cw (Cj (Ag (OE v2 uZ (uQ v1)))) 1 [] g0 Ay Yl)) g4)) (Ad (YF (XB (Ag (Cw (Cj (Ag (OE v2 (uQ (oA v1 c1)) uZ))) 1 [] g0 Ay Xw)) g5)) (Ad (PC (PH (Cp (Al (JA (OA Xi) (d1 (oI v3 c1))))) (Al (NA Ek (oI v3 c1) v4))) (ZC "NoName" "place" (d1 v1)) VC) (Ad (PC (Cp (Al (JA (OA V6) (d2 v3 v5)))) (ZC "NoRiver" "place" (d1 v1)) VC) (Ad (sC (oL (JA Ng (d1 (Ag (JA (OA Wu) (d1 v3))))) c0) (ZC "NoNumber" "place" (d1 v1))) (sC (oE (oI v3 c0) (cS "basin")) (Ad (PC (Cp (Al (JA (OA Qq) (d2 (oI v3 c6) (oA v4 v5))))) (ZC "NoPump" "place" (d1 v1)) VC) (PC (Cp (Al (JA (OA Qe) (d3 (oI v3 c5) (oI v3 c6) (oI v0 c0))))) (ZC "NoRule" "place" (d1 v1)) VC)))))))))
def Jb:FN:=Ar 2 4 Nr
def J8:DS:=XG (JA Jb (d2 v0 v2))
def Z0:DS:=Ad (YF (XB (oI v0 c1) g1)) (Ad (PC (PH (Cp (Al (I7 Fg Fg c1 (oI v0 c0) (cI 24)))) (Cp (Al (I7 Fg Fg c1 (JA Bv (d1 v1)) (cI 12))))) (M8 "NoHouse" (d1 (cS "a house has a year of 1 to 24 turns, and 1 to 12 places"))) VC) (Ad (Dz (Fb UD (d1 (JA Bv (d1 v1)))) g2 J8) (YF (WA v0))))
def Gg:FN:=Ar 1 2 Z0
def Wj:DE:=NA Ek v0 (cS "0123456789")
def Qd:DS:=Ad (PC (PH (Cp (Al (I7 Fg Fg c1 (JA Bv (d1 v0)) (cI 40)))) (Cp (Al (JA I8 (d1 (Ag (Cw (Cj v0) 1 [] g0 Ay Wj))))))) (WA (dC (.bl uX))) VC) (WA (Th (oE v0 (cS "0")) (Sq (Bk Pj v0 (d1 (cS "0"))))))
def Lb:FN:=Ar 1 0 Qd
def Zg:DS:=Ad (PC (Cp (Al (JA (OA Lb) (d1 v0)))) (ZC "NoText" "row" (d1 v1)) VC) (YF (WA (JA Px (d1 v0))))
def Gm:FN:=Ar 2 0 Zg
def Wy:DE:=NA Ek v0 (cS "abcdefghijklmnopqrstuvwxyz")
def Z9:DS:=Ad (PC (PH (Al (oE v0 (cS ""))) (Cp (Al (JA I8 (d1 (Ag (ZW (Cw (Cj v0) 1 [] g0 Ay Wy)))))))) (ZC "NoText" "row" (d1 v1)) VC) (YF (WA v0))
def J1:FN:=Ar 2 0 Z9
def Lz:DS:=Ad (YF (sC (oE v0 (cS "none")) (WA (dC .UA)))) (Ad (YF (XB (Ag (Bk Cr v0 (d1 (cS ",")))) g2)) (Ad (sC (NA Eg (JA Bv (d1 v2)) c3) (ZC "NoText" "row" (d1 v1))) (WA (JA Aq (d3 (JA J1 (d2 (oI v2 c0) v1)) (JA Gm (d2 (oI v2 c1) v1)) (JA Gm (d2 (oI v2 c2) v1)))))))
def Ja:FN:=Ar 2 1 Lz
def Mi:DS:=Ad (YF (XB (Bk Gk v0 (d1 (cS "+"))) (Bf 3 (Am g2 (Am g3 (Am g4 Bg)))))) (Ad (YF (XB (Bk Gk v4 (d1 (cS " "))) (Bf 3 (Am g5 (Am g6 (Am g7 Bg)))))) (Ad (sC (NA Hk v7 (dC (.tup [.str "river",.str "pump"]))) (ZC "NoText" "row" (d1 v1))) (WA (JA Aq (d3 (JA Gm (d2 v2 v1)) (JA Gm (d2 v5 v1)) v7)))))
def Je:FN:=Ar 2 6 Mi
def J7:DE:=JA Je (d2 v0 v1)
def Wx:DS:=Ad (YF (sC (oE v0 (cS "")) (WA (JA Aq Bl)))) (Ad (PC (Cp (Al (Bk Pj v0 (d1 (cS " "))))) (ZC "NoText" "row" (d1 v1)) VC) (WA (JA Eb (d1 (Ag (Mj (Cj (Ag (Bk Cr (Ag (OE v0 (uQ c1) uZ)) (d1 (cS ", "))))) 1 [1] g0 Ay J7))))))
def Ln:FN:=Ar 2 0 Wx
def Rp:DS:=Ad (YF (XB (Bk Gk v0 (d1 (cS ":"))) (Bf 3 (Am g2 (Am g3 (Am g4 Bg)))))) (Ad (sC (oE v3 (cS "")) (ZC "NoText" "row" (d1 v1))) (WA (JA Aq (d2 (JA Gm (d2 v2 v1)) (JA Ln (d2 v4 v1))))))
def Lp:FN:=Ar 2 3 Rp
def J9:DE:=JA Lp (d2 v0 v1)
def gz:DS:=WA (JA Eb (d1 (Ag (Mj (Cj (Ag (Bk Cr v0 (d1 (cS "; "))))) 1 [1] g0 Ay J9))))
def Mz:FN:=Ar 2 0 gz
def Kw:DS:=Ad (YF (XB (Ag (Bk M7 v0 (d2 (cS " ") (oS (cI 7) c1)))) g2)) (Ad (sC (NA Eg (JA Bv (d1 v2)) (cI 7)) (ZC "NoText" "row" (d1 v1))) (Ad (YF (XB v2 (S8 7 (Am g3 (Am g4 (Am g5 (Am g6 (Am g7 (Am g8 (Am g9 Bg)))))))))) (sL 10 (JA Aq (d3 (JA J1 (d2 v4 v1)) (JA J1 (d2 v5 v1)) (JA Gm (d2 v6 v1)))) (WA (oA (oA (JA Aq (d1 v3)) v10) (JA Aq (d3 (JA Gm (d2 v7 v1)) (JA Mz (d2 v9 v1)) (JA Ja (d2 v8 v1)))))))))
def Hq:FN:=Ar 2 9 Kw
def N7:DE:=JA Gm (d2 v0 v1)
def Ra:DS:=sL 2 (JA Aq (d2 (JA J1 (d2 (oI v0 c1) v1)) (JA J1 (d2 (oI v0 c2) v1)))) (WA (oA (oA (JA Aq (d1 (oI v0 c0))) v2) (JA Eb (d1 (Ag (Mj (Cj (Ag (OE v0 (uQ c3) uZ))) 1 [1] g0 Ay N7))))))
def Ko:FN:=Ar 2 1 Ra
def hB:DS:=Ad (YF (XB (Ag (Bk Cr v0 (d1 (cS " ")))) g3)) (Ad (sC (NA Eg (JA Bv (d1 v3)) v1) (ZC "NoText" "row" (d1 v2))) (YF (WA v3)))
def Kf:FN:=Ar 3 1 hB
def Jk:DS:=Ad (YF (XB (oI (Bk Gk v0 (d1 (cS " "))) c0) g2)) (Ad (sC (oE v2 (cS "basin")) (WA (JA Hq (d2 v0 v1)))) (Ad (sC (oE v2 (cS "town")) (WA (JA Ko (d2 (Ag (JA Kf (d3 v0 c6 v1))) v1)))) (Ad (sC (oE v2 (cS "mill")) (WA (JA Ko (d2 (Ag (JA Kf (d3 v0 c5 v1))) v1)))) (ZC "NoText" "row" (d1 v1)))))
def H8:FN:=Ar 2 1 Jk
def Ul:DS:=sL 1 (Ag (JA Kf (d3 v0 c2 c0))) (Ad (sC (NA Eg (oI v1 c0) (cS "year")) (ZC "NoText" "row" (d1 c0))) (WA (JA Gm (d2 (oI v1 c1) c0))))
def Lg:FN:=Ar 1 1 Ul
def Kh:DE:=JA H8 (d2 v1 v0)
def Yb:DS:=Ad (YF (XB (Ag (Bk Cr v0 (d1 (cS "\n")))) g1)) (sL 2 (JA Lg (d1 (oI v1 c0))) (sL 3 (Ag (Xj (Ov (d1 (Ag (OE v1 (uQ c1) uZ))) c1) 2 [] (Bf 2 (Am g0 (Am g1 Bg))) Ay Kh)) (WA (JA Gg (d1 (JA Aq (d2 v2 (JA Eb (d1 v3)))))))))
def Ha:FN:=Ar 1 3 Yb
def bR:DS:=XB v2 g1
def Zu:DS:=sL 1 (dC .UA) (Ad (Nk (XG (UT Ha (d1 v0))) (Te ["NoHouse","NoName","NoNumber","NoPump","NoRiver","NoRule","NoText"] [] 2 bR gL)) (WA v1))
def Qp:FN:=Ar 1 2 Zu
def hI:DS:=Ad (sC (oL v1 (JA Bv (d1 v0))) (WA (oI v0 v1))) (WA c0)
def Ie:FN:=Ar 2 0 hI
def Ws:DE:=JA Hl (d1 v0)
def hJ:DS:=sL 1 (Ag (JA Ai (d3 (XE (ZG [("NoHouse",uJ),("NoName",uX),("NoNumber",uX),("NoPump",uX),("NoRiver",uX),("NoRule",uX),("NoText",uX)]) v0) (XE (ZG [("NoHouse",uX),("NoName",uJ),("NoNumber",uX),("NoPump",uX),("NoRiver",uX),("NoRule",uX),("NoText",uX)]) v0) (XE (ZG [("NoHouse",uX),("NoName",uX),("NoNumber",uX),("NoPump",uX),("NoRiver",uJ),("NoRule",uX),("NoText",uX)]) v0)))) (sL 1 (Ag (oA v1 (Ag (JA Ai (d3 (XE (ZG [("NoHouse",uX),("NoName",uX),("NoNumber",uX),("NoPump",uX),("NoRiver",uX),("NoRule",uX),("NoText",uJ)]) v0) (XE (ZG [("NoHouse",uX),("NoName",uX),("NoNumber",uJ),("NoPump",uX),("NoRiver",uX),("NoRule",uX),("NoText",uX)]) v0) (XE (ZG [("NoHouse",uX),("NoName",uX),("NoNumber",uX),("NoPump",uJ),("NoRiver",uX),("NoRule",uX),("NoText",uX)]) v0)))))) (sL 1 (Ag (oA v1 (Ag (JA Ai (d3 (XE (ZG [("NoHouse",uX),("NoName",uX),("NoNumber",uX),("NoPump",uX),("NoRiver",uX),("NoRule",uJ),("NoText",uX)]) v0) (XE (ZG [("NoHouse",uX),("NoName",uX),("NoNumber",uX),("NoPump",uX),("NoRiver",uX),("NoRule",uX),("NoText",uX)]) v0) (XE (ZG [("NoHouse",uX),("NoName",uX),("NoNumber",uX),("NoPump",uX),("NoRiver",uX),("NoRule",uX),("NoText",uX)]) v0)))))) (sL 1 (Ag (oA v1 (Ag (JA Ai (d3 (XE (ZG [("NoHouse",uX),("NoName",uX),("NoNumber",uX),("NoPump",uX),("NoRiver",uX),("NoRule",uX),("NoText",uX)]) v0) (XE (ZG [("NoHouse",uX),("NoName",uX),("NoNumber",uX),("NoPump",uX),("NoRiver",uX),("NoRule",uX),("NoText",uX)]) v0) (XE (ZG [("NoHouse",uX),("NoName",uX),("NoNumber",uX),("NoPump",uX),("NoRiver",uX),("NoRule",uX),("NoText",uX)]) v0)))))) (sL 1 (Ag (oA v1 (Ag (JA Ai (d1 (XE (ZG [("NoHouse",uX),("NoName",uX),("NoNumber",uX),("NoPump",uX),("NoRiver",uX),("NoRule",uX),("NoText",uX)]) v0)))))) (Ad (PC (PH (Cp (Al (XE (ZG [("NoHouse",uJ),("NoName",uJ),("NoNumber",uJ),("NoPump",uJ),("NoRiver",uJ),("NoRule",uJ),("NoText",uJ)]) v0))) (Al (NA Eg (JA Js (d1 (Ag (Cw (Cj v1) 1 [] g0 Ay Ws)))) c1))) (WA (XE K5 c1)) VC) (WA (Ed Rt v1 (d1 (dC (.bl uJ))))))))))
def T7:FN:=Ar 1 1 hJ
def Ym:DS:=sL 4 (oA v4 (oI v1 (oM v5 (cI 26)))) (XB (oD v5 (cI 26)) g5)
noncomputable def Vo:DE:=oA (cS "z") v0
noncomputable def Vc:DE:=v0
def Wo:DB:=(Ck (Al (NA Hk (dV 0) (dV 1))) (Al (NA Eg (dV 0) (dC (.str "sea")))))
def Xo:DS:=sL 4 (cS "") (sL 5 (oD v3 (cI 8)) (Ad (Dz (Fb UD (d1 (oA c1 (oM v3 (cI 8))))) g6 Ym) (sL 7 (Ag (oA (Ag (JA Ai (d1 v4))) (Ag (Cw (Cj v1) 1 [] g0 Ay Vo)))) (XG (Ed El v2 (d1 (oI (Ag (Cw (Cj v7) 1 [2] g0 Wo Vc)) c0)))))))
def hP:DS:=sL 1 (cS "abcdefghijklmnopqrstuvwxyz") (sL 2 (Ei (JA Ai Bl)) (Ad (Dz (Cj v0) g3 Xo) (WA v2)))
def Uw:FN:=Ar 1 7 hP
def V8:DS:=sL 3 (oM (oA (oA (NA Bp v3 v3) (NA Bp (cI 48271) v6)) (cI 11)) (cI 2147483647)) (Ad (XG (Ed El v5 (d1 (oI (Ag (JA Ai (d2 v3 (oM v4 (oP (cI 10) (cI 42)))))) (JA Hl (d1 (oG v4 c0))))))) (XB (oD v4 (oP (cI 10) (cI 42))) g4))
def hU:DS:=sL 3 (oM (NA Bp (oA (oM v0 (cI 999999937)) c2) (oA (NA Bp (NA Bp (cI 7919) v1) v1) (cI 48271))) (cI 2147483647)) (sL 4 c0 (Ad (PC (PH (Al (oL v0 c0)) (Al (NA Mq v0 (oP (cI 10) (cI 18))))) (XB (JA Rq (d2 v0 (oS c0 v0))) g4) VC) (sL 5 (Ei (JA Ai Bl)) (Ad (Dz (Fb UD (d1 v2)) g6 V8) (WA v5)))))
def Jc:FN:=Ar 3 4 hU
noncomputable def Yk:DE:=oI v1 (oM v0 (cI 26))
def bS:DE:=Ag (OE v1 uZ (uQ (oA v0 c1)))
def bT:DE:=Ag (OE v1 uZ (uQ (oA v0 c1)))
def Yp:DE:=oI (Ag (JA Ai (d2 v0 (cS "sa")))) (JA Hl (d1 (oE v0 (cS "sea"))))
def Ri:DS:=sL 11 (oI v1 (oM (oA (oI v2 (cI 10)) (NA Bp c5 v7)) (cI 26))) (sL 8 (Ag (oA (Ag (oA (Ag (OE v3 uZ (uQ v10))) v11)) (Ag (OE v3 (uQ v10) (uQ v9))))) (Ad (sC (oE v8 (cS "sea")) (XB (cS "seat") g8)) (XG (Ed El v6 (d1 v8)))))
def hV:DS:=WA v6
def hW:DS:=Ad (Dz (Fb UD (d1 (cI 12))) g7 Ri) hV
def hX:DS:=sL 6 (Ei (JA Ai Bl)) hW
def hZ:DS:=sL 10 (oM (oI v2 (cI 9)) (oA v9 c1)) hX
def h9:DS:=sL 9 (oM (oD (oI v2 (cI 8)) c3) (cI 8)) hZ
def Ss:DS:=Ad (sC (oE (oM (oI v2 (cI 8)) c3) c0) (sL 4 (oM (oA (oA (Bk Ua v1 (d1 (oI v3 c0))) c1) (oM (oI v2 (cI 9)) (cI 25))) (cI 26)) (sL 5 (Ag (oA (oI v1 v4) (Ag (OE v3 (uQ c1) uZ)))) (sL 6 (Cw (Fb UD (d1 (cI 8))) 1 [3] g0 Ay bS) (sL 6 (Ei (oA v6 (Ag (Cw (Fb UD (d1 c4)) 1 [5] g0 Ay bT)))) (sL 6 (Cw (Cj v6) 1 [] g0 Ay Yp) (WA (oA (Ag (OE v6 (uQ (oM (oI v2 (cI 10)) (cI 12))) uZ)) (Ag (OE v6 uZ (uQ (oM (oI v2 (cI 10)) (cI 12))))))))))))) h9
def Ye:DS:=Ad (sC (oE (oM (oD (oI v2 (cI 10)) (cI 26)) c4) c0) (XB (Ag (OE (Ag (oA (oI (Ag (JA Ai (d2 (cS "sea") (cS "none")))) (oM (oD (oI v2 (cI 10)) (cI 104)) c2)) (Ag (OE v3 (uQ c3) uZ)))) uZ (uQ (cI 8)))) g3)) Ss
def Yv:DS:=sL 3 (Bk Cu (cS "") (d1 (Ag (Cw (Cj (Ag (OE v2 uZ (uQ (cI 8))))) 1 [1] g0 Ay Yk)))) Ye
def U0:DS:=Ad (sC (oG (oI v2 (cI 11)) (cI 2147483647)) (WA (JA Uw (d1 (Ag (OE v2 (uQ (cI 11)) (uQ (cI 23)))))))) Yv
def Rf:DS:=sL 2 (Ag (JA Jc (d3 v0 c0 (cI 24)))) U0
def Rw:DS:=sL 1 (cS "abcdefghijklmnopqrstuvwxyz") Rf
def Kr:FN:=Ar 1 11 Rw
def bU:DS:=Ad (sC (oG v0 (cI 2147483647)) (WA (NA Bp (oM (oD v0 c2) (oP (cI 10) (cI 38))) (oM v0 c2)))) (WA (NA Bp (oM v0 (cI 50)) (oM (oD v0 (cI 50)) c2)))
def Rr:FN:=Ar 1 0 bU
def iA:DS:=Ad (sC (oE (oM v0 c4) c0) (WA c0)) (Ad (PC (Ck (Al (oE (oM v0 c4) c1)) (Al (oG v0 (cI 2147483647)))) (WA (oM (oD v0 c4) (oP (cI 10) (cI 38)))) VC) (Ad (sC (oE (oM v0 c4) c1) (WA (oM (NA Bp v1 (oA (oD v0 c4) c2)) (oP (cI 10) (cI 38))))) (WA (oM (oD v0 c4) (cI 40)))))
def K3:FN:=Ar 2 0 iA
noncomputable def W9:DE:=v1
def Vw:DB:=(Al (NA Fl (dV 2) (dC (.str "pump"))))
def Xq:DE:=JA Js (d1 (Ag (Cw (Cj v1) 3 [] (Bf 3 (Am g0 (Am g1 (Am g2 Bg)))) Vw W9)))
def iB:DS:=WA (JA Nu (d1 (Ag (Cw (Cj v0) 2 [] (Bf 2 (Am g0 (Am g1 Bg))) Ay Xq))))
def Xu:FN:=Ar 1 0 iB
def X7:DS:=sL 6 (oA v4 (JA K3 (d2 (oI v0 (oA c1 (NA Bp c2 v5))) v1))) (sL 7 (oA c1 (JA K3 (d2 (oI v0 (oA c2 (NA Bp c2 v5))) v1))) (sL 8 (cS "river") (Ad (PC (Ck (Al v2) (Al (oE (oM (oD (oI v0 (oA c2 (NA Bp c2 v5))) (cI 160)) c2) c0))) (XB (cS "pump") g8) VC) (Ad (XG (Ed El v3 (d1 (JA Aq (d3 v6 v7 v8))))) (XB (oA v6 v7) g4)))))
def iC:DS:=sL 3 (Ei (JA Ai Bl)) (sL 4 c0 (Ad (Dz (Fb UD (d1 (oM (oI v0 c0) c4))) g5 X7) (WA (JA Eb (d1 v3)))))
def W0:FN:=Ar 3 6 iC
def Q0:DS:=PC (PH (Al (oE v6 c0)) (Ck (Al (oG (oM (oI v0 v6) c3) c0)) (Al (oL v5 v2)))) (Ad (XG (Ed El v4 (d1 (JA Aq (d2 v5 (JA W0 (d3 (Ag (OE v0 (uQ (oA c3 (NA Bp (cI 7) v6))) (uQ (oA (cI 10) (NA Bp (cI 7) v6))))) v1 v3))))))) (XB (oA (oA v5 c1) (oM (oD (oI v0 v6) c3) (cI 9))) g5)) VC
def iD:DS:=sL 4 (Ei (JA Ai Bl)) (sL 5 c0 (Ad (Dz (Fb UD (d1 c3)) g6 Q0) (WA (JA Eb (d1 v4)))))
def Wr:FN:=Ar 4 3 iD
def bV:DS:=WA (oA (oA (JA Aq (d1 (cS "basin"))) v7) (JA Aq (d3 (JA K3 (d2 (oI v5 c3) v4)) v9 v10)))
def bW:DS:=Ad (sC v8 (sL 11 (oM (oA (oA v2 c1) (oM (oI v5 c6) (oS v1 c1))) v1) (XB (JA Aq (d3 (oI v0 v11) (oA c1 (oM (oI v5 (cI 7)) c5)) (oA (JA Xu (d1 v9)) (JA Rr (d1 (oI v5 c4)))))) g10))) bV
def bX:DS:=sL 10 (dC .UA) bW
def bY:DS:=sL 9 (JA Wr (d4 (Ag (OE v5 (uQ (cI 8)) (uQ (cI 32)))) v4 v3 v8)) bX
def bZ:DS:=sL 8 (J6 (oG v1 c1) (oG (oM (oI v5 c5) c3) c0)) bY
def Wt:DS:=Ad (sC (oE (oM (oI v5 c2) c5) c1) (WA (oA (oA (JA Aq (d1 (cS "town"))) v7) (JA Aq (d2 (JA K3 (d2 (oI v5 c3) v4)) (JA K3 (d2 (oI v5 c4) v4))))))) bZ
def Qf:DS:=Ad (sC (oE (oM (oI v5 c2) c5) c0) (WA (oA (oA (JA Aq (d1 (cS "mill"))) v7) (JA Aq (d1 (JA K3 (d2 (oI v5 c3) v4))))))) Wt
def b5:DS:=sL 7 (JA Aq (d3 (oI v0 v2) v6 (oM (oI v5 c1) c6))) Qf
def b6:DS:=Ad (sC (oG (oM (oI v5 c0) (oS v1 v2)) c0) (XB (oI v0 (oA v2 (oM (oI v5 c0) (oS v1 v2)))) g6)) b5
def b7:DS:=sL 6 (cS "sea") b6
def b9:DS:=sL 5 (Ag (JA Jc (d3 v4 v2 (cI 33)))) b7
def Lj:FN:=Ar 5 7 b9
def ba:DE:=JA Lj (An v5 (d4 v3 v0 v4 (JA Ie (d2 v1 (oA (oA v2 c3) v0)))))
def iE:DS:=sL 2 (oA c1 (oM (JA Ie (d2 v0 v1)) (cI 12))) (sL 3 (oA c1 (oM (JA Ie (d2 v0 (oA v1 c1))) (cI 24))) (sL 4 (Ag (JA Kr (d1 (JA Ie (d2 v0 (oA v1 c2)))))) (sL 5 (Ag (Cw (Fb UD (d1 v2)) 1 [0,1,2,3,4] g0 Ay ba)) (WA (JA Aq (d2 v3 (JA Eb (d1 v5))))))))
def Oj:FN:=Ar 2 4 iE
def Tw:DS:=WA (oI (Ag (JA Ai (d4 (cS "A") (cS "a1") (cS "") (cS "a-b")))) (oM v0 c4))
def Ly:FN:=Ar 1 0 Tw
def iF:DS:=sL 1 (Ag (JA Ai (An (cS "x") (An (cS "-1") (An (cS "007") (An (oA (cS "1") (oX (cS "0") (cI 40))) (An (cS "+1") (An (cS "") (An (cS "1.5") (An (cS "00") (d4 (cS "1_0") (cS "12_") (cS "_7") (cS "1_0")))))))))))) (WA (oI v1 (oM v0 (cI 12))))
def Oq:FN:=Ar 1 1 iF
def iG:DS:=sL 3 (Ei (Bk Cr v0 (d1 (cS " ")))) (Ad (XB (Ag (JA Oq (d1 v2))) (XM v3 v1)) (WA (Bk Cu (cS " ") (d1 v3))))
def Jx:FN:=Ar 3 1 iG
def bc:DS:=WA (Bk Cu (cS " ") (d1 v2))
def Yg:DS:=Ad (PC (Ck (Al (oE (oM v1 c2) c0)) (Al (oE (JA Bv (d1 v3)) c3))) (sL 4 (oM (oD v1 c2) c3) (Ad (XB (oI (Ag (JA Ai (d2 (Ag (JA Ly (d1 (oD v1 c6)))) (Ag (JA Oq (d1 (oD v1 c6))))))) (JA Hl (d1 (oG v4 c0)))) (XM v3 v4)) (XB (Bk Cu (cS ",") (d1 v3)) (XM v2 c5)))) (XB (oI (Ag (JA Ai (An (cS "a,1") (An (cS "a,1,2,3") (An (cS "none,") (An (cS ",1,2") (d4 (cS "A,1,2") (cS "a,01,2") (cS "a,1,") (cS "None")))))))) (oM (oD v1 c2) (cI 8))) (XM v2 c5))) bc
def iH:DS:=sL 3 (Ei (Bk Cr (oI v2 c5) (d1 (cS ",")))) Yg
def bf:DS:=Ad (sC (NA Eg (oI v2 c0) (cS "basin")) (WA (oA v0 (cS " none")))) iH
def bh:DS:=sL 2 (Ei (Bk Cr v0 (d1 (cS " ")))) bf
def Lr:FN:=Ar 2 3 bh
def iI:DS:=WA (JA Lr (d2 v0 v2))
def bi:DS:=Ad (sC (oE v1 (cI 10)) (WA (oI (Ag (JA Ai (An (cS "years 5") (d4 (cS "pond a sea 0 5") (cS "town") (cS "mill a sea 0 ") (cS "basin a sea 0 5 none"))))) (oM v2 c5)))) iI
def Xl:DS:=Ad (sC (oE v1 (cI 9)) (sL 3 (Ei (Bk Cr v0 (d1 (cS " ")))) (Ad (XB (Ag (JA Ly (d1 (oD v2 c2)))) (XM v3 (oA c1 (oM v2 c2)))) (WA (Bk Cu (cS " ") (d1 v3)))))) bi
def Rm:DS:=Ad (sC (oL v1 (cI 9)) (WA (JA Jx (d3 v0 (oA c3 (oM (oD v2 (cI 12)) c2)) v2)))) Xl
def O7:DS:=Ad (PC (Ck (Al (oL v1 (cI 9))) (Al (oE (Ag (OE v0 uZ (uQ c5))) (cS "town ")))) (WA (JA Jx (d3 v0 (oI (Ag (JA Ai (d4 c3 c4 c5 c5))) (oM (oD v2 (cI 12)) c4)) v2))) VC) Rm
def Nv:DS:=Ad (PC (Ck (Al (oE (Ag (OE v0 uZ (uQ c5))) (cS "year "))) (Al (oL v1 (cI 10)))) (WA (JA Jx (d3 v0 c1 v2))) VC) O7
def M4:DS:=Ad (sC (oE v1 c6) (WA (oA v0 (cS " 5")))) Nv
def Kl:DS:=Ad (sC (oE v1 c5) (WA (oI (Bk Oi v0 (d1 (cS " "))) c0))) M4
def Jg:DS:=Ad (sC (oE v1 c4) (WA (oA (oA (oI (Bk Gk v0 (d1 (cS " "))) c0) (cS "  ")) (oI (Bk Gk v0 (d1 (cS " "))) c2)))) Kl
def Ip:DS:=Ad (sC (oE v1 c3) (WA (oA (Bk Qg (Ag (OE v0 uZ (uQ c1))) Bl) (Ag (OE v0 (uQ c1) uZ))))) Jg
def Ih:DS:=Ad (sC (oE v1 c2) (WA (oA (cS " ") v0))) Ip
def H7:DS:=Ad (sC (oE v1 c1) (WA (oA v0 (cS " ")))) Ih
def Gf:DS:=Ad (sC (oE v1 c0) (WA (cS ""))) H7
def Bj:FN:=Ar 3 1 Gf
def V7:DS:=sL 4 (oA (oA (oA (oA (oA (oA v4 v5) (JA Ge (d1 v6))) (cS "+")) (JA Ge (d1 v7))) (cS " ")) v8) (XB (cS ", ") g5)
def S7:DS:=sL 4 (oA (JA Ge (d1 v2)) (cS ":")) (sL 5 (cS " ") (Ad (Dz (Cj v3) (Bf 3 (Am g6 (Am g7 (Am g8 Bg)))) V7) (XG (Ed El v1 (d1 v4)))))
def iJ:DS:=sL 1 (Ei (JA Ai Bl)) (Ad (Dz (Cj v0) (Bf 2 (Am g2 (Am g3 Bg))) S7) (WA (Bk Cu (cS "; ") (d1 v1))))
def Wl:FN:=Ar 1 8 iJ
def Td:DS:=WA (Bk Cu (cS " ") (d1 v1))
def Rg:DS:=Ad (sC (oE (oI v0 c0) (cS "basin")) (XG (Ed El v1 (d1 (JA Wl (d1 (oI v0 c5))))))) Td
def Qz:DS:=Ad (PC (Ck (Al (oE (oI v0 c0) (cS "basin"))) (Al (NA Jr (oI v0 c6) (dC .UA)))) (XG (Ed El v1 (d1 (oA (oA (oA (oA (oI (oI v0 c6) c0) (cS ",")) (JA Ge (d1 (oI (oI v0 c6) c1)))) (cS ",")) (JA Ge (d1 (oI (oI v0 c6) c2))))))) VC) Rg
def Tc:DS:=Ad (PC (Ck (Al (oE (oI v0 c0) (cS "basin"))) (Al (NA Nq (oI v0 c6) (dC .UA)))) (XG (Ed El v1 (d1 (cS "none")))) VC) Qz
def Sy:DS:=Ad (sC (oE (oI v0 c0) (cS "town")) (XG (Ed El v1 (d1 (JA Ge (d1 (oI v0 c5))))))) Tc
def R5:DS:=sL 1 (Ei (JA Ai (An (oI v0 c0) (d4 (oI v0 c1) (oI v0 c2) (JA Ge (d1 (oI v0 c3))) (JA Ge (d1 (oI v0 c4))))))) Sy
def Nj:FN:=Ar 1 1 R5
def Uh:DE:=JA Nj (d1 v0)
def iK:DS:=WA (oA (Ag (JA Ai (d1 (oA (cS "year ") (JA Ge (d1 (oI v0 c0))))))) (Ag (Cw (Cj (oI v0 c1)) 1 [] g0 Ay Uh)))
def Rb:FN:=Ar 1 0 iK
def iL:DS:=WA (J6 (JA K6 (d2 v0 (dC (.ty "int")))) (Sq (JA K6 (d2 v0 (dC (.ty "bool"))))))
def Sx:FN:=Ar 1 0 iL
noncomputable def Ur:DE:=v0
def Nm:DB:=(Al (NA Fl (Ag (OE (NA Ax (dV 1) (dV 0)) uZ (uQ (dC (.int 5))))) (dC (.str "town "))))
def Tt:DS:=sL 12 (oM (oI v2 (oA c5 (NA Bp c3 v13))) (oA (JA Bv (d1 v8)) c1)) (sL 14 (J6 (oE v13 c0) (J6 (oE (oM (oI v2 (cI 11)) c2) c0) (oG (JA Bv (d1 v11)) c0))) (Ad (sC v14 (XB (oI v11 (oM (oI v2 c5) (JA Bv (d1 v11)))) g12)) (Ad (PC (Al (oE v12 (JA Bv (d1 v8)))) (XG (Ed El v9 (d1 (cS "")))) (sL 15 (oI (Ag (JA Ai (An c0 (An c1 (An c2 (An c3 (An c4 (An c5 (An c6 (An (cI 7) (An (cI 8) (An (cI 9) (An (cI 10) (d4 (cI 11) (cI 7) (cI 8) (cI 7))))))))))))))) (oM (oI v2 (oA c6 (NA Bp c3 v13))) (cI 15))) (Ad (sC v14 (XB (cI 7) g15)) (XB (Ag (JA Bj (d3 (oI v8 v12) v15 (oI v2 (oA (cI 7) (NA Bp c3 v13)))))) (XM v9 v12))))) (PC (PH (Al (oL v10 c0)) (Al (oL v12 v10))) (XB v12 g10) VC))))
def Z5:DS:=WA (oE (JA Ha (d1 v7)) v1)
def Uq:DS:=Ad (PC (Ck (Al (oL v10 c0)) (Ck (Al (oL v5 c0)) (Al (NA Jr v16 (dC .UA))))) (WA (dC (.bl uX))) VC) Z5
def Sv:DS:=Ad (PC (Ck (Al (oL v10 c0)) (Ck (Al (oG v5 c0)) (PH (Cp (Al (JA Sx (d1 (XE (IQ ["NoName","NoNumber","NoPump","NoRiver","NoRule"] "place") v16))))) (Al (NA Eg (XE (IQ ["NoName","NoNumber","NoPump","NoRiver","NoRule"] "place") v16) v6))))) (WA (dC (.bl uX))) VC) Uq
def Uo:DS:=Ad (PC (Ck (Al (oL v10 c0)) (Ck (Al (NA Mq v5 c0)) (Al (NA Eg (JA T7 (d1 v16)) v5)))) (WA (dC (.bl uX))) VC) Sv
def Su:DS:=Ad (PC (Ck (Al (NA Mq v10 c0)) (PH (Cp (Al (JA Sx (d1 (XE (IQ ["NoText"] "row") v16))))) (Al (NA Eg (XE (IQ ["NoText"] "row") v16) v10)))) (WA (dC (.bl uX))) VC) Uo
def Ub:DS:=Ad (PC (Ck (Al (NA Mq v10 c0)) (Al (NA Eg (JA T7 (d1 v16)) c3))) (WA (dC (.bl uX))) VC) Su
def Q5:DS:=sL 16 (JA Qp (d1 (Bk Cu (cS "\n") (d1 v9)))) Ub
def Xp:DS:=Ad (Dz (Fb UD (d1 (oI (Ag (JA Ai (d4 c0 c1 c2 c1))) (oM (oI v2 c4) c4)))) g13 Tt) Q5
def iM:DS:=sL 11 (Ag (Cw (Fb UD (d1 (JA Bv (d1 v8)))) 1 [8] g0 Nm Ur)) Xp
def iN:DS:=sL 10 (XE K5 c1) iM
def iO:DS:=sL 9 (Ei (JA Uc (d1 v8))) iN
def iP:DS:=sL 8 (Ag (JA Rb (d1 (JA Aq (d2 v3 v4))))) iO
def Yc:DS:=sL 7 (Bk Cu (cS "\n") (d1 (Ag (JA Rb (d1 v1))))) iP
def Sg:DS:=Ad (sC (oE (oM (oI v2 c0) c2) c1) (XB (Ag (JA Mh (d2 v1 (Ag (OE v2 (uQ c1) (uQ c4)))))) (Bf 4 (Am g3 (Am g4 (Am g5 (Am g6 Bg))))))) Yc
def iQ:DS:=Ad (XB (JA Aq (d4 (oI v1 c0) (oI v1 c1) (XE K5 c1) c0)) (Bf 4 (Am g3 (Am g4 (Am g5 (Am g6 Bg)))))) Sg
def iR:DS:=sL 2 (Ag (JA Jc (d3 (JA Ie (d2 v0 (cI 15))) c1 (cI 12)))) iQ
def bj:DS:=sL 1 (JA Oj (d2 v0 c0)) iR
def Qo:FN:=Ar 1 16 bj
def Holds:Prop:=∀ns:List Int,ns.length<=63->(∀m∈ns,m.natAbs.log2<1048576)->∃G,Qo [.fl (ns.map D.int)] []=.ok (.bl uJ) G
seal QE QT QA QS OL QG MS QI RL QW QO
structure Txt (U:Ev):Prop extends Gx body MZ U where
 bo:ZP U.K U.mg "WAYS" ["river","pump"]
 bp:MT U.K "NoName" "__init__" "NoName.__init__" Zi ["self","place"]
 Zj:MT U.K "NoNumber" "__init__" "NoNumber.__init__" aL ["self","place"]
 Zd:MT U.K "NoPump" "__init__" "NoPump.__init__" aM ["self","place"]
 bt:MT U.K "NoRiver" "__init__" "NoRiver.__init__" aN ["self","place"]
 bu:MT U.K "NoRule" "__init__" "NoRule.__init__" aO ["self","place"]
 bv:MT U.K "NoText" "__init__" "NoText.__init__" aP ["self","row"]
 R8:ET U.K U.mg "NoName" "place"
 Ti:ET U.K U.mg "NoNumber" "place"
 Rx:ET U.K U.mg "NoPump" "place"
 Rn:ET U.K U.mg "NoRiver" "place"
 U9:ET U.K U.mg "NoRule" "place"
 Tr:ET U.K U.mg "NoText" "row"
 iS:Zp U.K U.mg "NoHouse"
 Ny:SN U.K U.mg "WaterError" (Ac U.K "WaterError")
 iT:U.mg "WaterError"=uQ (.ref (Ac U.K "WaterError"))
 cx:CX U.K U.mg B' D'
section
seal Ck J6 dC I7 Cw Xj Mj An JA Ag Ed Bk Bl Cp Sq ZW NA PH Th OE UT Ei Al XE dV I8 Hl Px K6 Bv Uc Rq Nu Ng Ge Js Eb Am XM S8 Bg Bf gV Ov Fb Cj El Ua Rt Cu Gk Oi Cr M7 Pj Qg By Ea R1 Fl Mq R9 Ek Nq Jr Ax Fg M6 K7 Bp Oo Eg K5 Hk Tz S9 UD XB XG Dz PC YF VC WA ZC M8 Ad Nk
local macro_rules | `(tactic|trivial)=> `(tactic|first|refine' (_:String)|refine' (_:Str)|refine' (_:xz))
local macro_rules | `(tactic|trivial)=>pure (wR "QS _ _|_ (XB (Ag _) _):-fG ?|(Stmt.Assign (List.cons (Expr.Name .) List.nil) (Expr.ListComp .) .) _:-yB _ nd ? L ? l l|(Stmt.Assign (List.cons (Expr.Name .) List.nil) .) (XB _ (gV _)):-Dr _ nd ?|_ (XG _):-dt ?|_ (XB _ _):-Ql ? ?|_ (Dz _ _ _):-ao PassesOwn.never rfl ? ? ?|@Em,@De,@Jy,-Qa T.Tr (yn T) T.bv.b hr ?,-Qa T.R8 (yo T) T.bp.b hr ?,-Qa T.Rn (yp T) T.bt.b hr ?,-Qa T.Ti (yq T) T.Zj.b hr ?,-Qa T.Rx (yt T) T.Zd.b hr ?,-Qa T.U9 (yu T) T.bu.b hr ?#QE _ _|_ (dV _):.Av _|(Expr.Subscript .) (NA _ _ _):-Ol ? ? ?|(Expr.Compare .) _:-Nb ? ? ? (PF _)|(Expr.Call (Expr.Name .) .) (JA _ _):<Nh ? rfl ? ? ?,<ai ? rfl ? ? ?,^yT ($ T) hr ?^yv yw yx yy yz zm zp zr zt zu AA AC AD AE AF AG AH AI AJ AK AM AN AO AQ AR AS AU,^bK (And.right ($ T)) (hr.mono d) rfl (FT.m (And.left ($ T))) (FT.k (And.left ($ T))) (FT.b (And.left ($ T))) u7 ?^iU AV AW AX AY AZ A0 A1 A2 A3 A4,^bK (And.right ($ T)) (hr.mono d) rfl (FT.m (And.left ($ T))) (FT.k (And.left ($ T))) (FT.b (And.left ($ T))) yJ ?^A5 A6 iU A7|_ (Ed _ _ _):-eF ? ? ? ? ?|(Expr.Name .) (dC (D.ty .)):-rQ rfl ? ?|_ (OE _ _ _):-sP ? ? ?|_ (Cw _ _ _ _ _ _):-yA ? L ? l l|_ (Mj _ _ _ _ _ _):-bL ? L ? l l|(Expr.Name .) (dC _):<yD rfl ?,<yC rfl ?|.Gz,.Ii,.pJ,.pI,@J0,@Cy,@S6,@pN,@Qk,@dg,@Qw,@ag,@rP#QA _ _|.Ef,-Cq ? ?#OL _ _|@Ak,.Dl,@Dh#QG _ _|_ (gV _):.Gn _ nd|_ (Bf _ _):-Yh rfl ?|_ (XM _ _):-pb ? ?#MS _ _|.Vq,-Ma ? ?#RL _ _|.Lq,-eR ?#QT _ _|(Expr.Compare _ (List.cons _ List.nil) .) (Al _):-Mx ? ? ? (PF _)|_ (Al _):-Hu ?|(Expr.BoolOp .) _:-Jf ?|(Expr.Compare _ (List.cons _ (List.cons _ List.nil)) .) _:-pK ? ? ? ? ?|@Hy#QI _ _ _|(Expr.Call _ (List.cons _ List.nil) .) (Fb UD _):-qo rfl ? ?|_ (Ov _ _):-tM rfl ? ? ?|@aq#QW _ _|@N8,@Qu,@T8,@Zn#QO _ _|.sN,@sO#GK|_ (gV _):.rG d|@rL#HW|.rH,@rK#=RJ _ _|!Ou#=VB _ _ _|!Ir,!dh,!pR,!XV,!so,!L3,!Tq,!xu,!pS,!pP,!rR,!P9,!N3,!tP,.YV hr.units,.aj hr.units#=YA _ _ _|.qs,.rC,.ar,.rB,=eO ?,.rF,.tS,=rA ?,=qu ?#=Eq _ none|.T.z#=Eq (bootBuiltins _) _|!rV,!rY,!rW,!bA,!eh,!ef,!fA,!rX,!rZ#=Slot _ _ _|!PySem.F.slot_list_append,!PySem.F.slot_list_index#=Eq (typeOf _) _|!PySem.F.type_list_append,!PySem.F.type_list_index#=II _ _ _|!eE,!yR#=JU _ _ _|!rO#=Eq _ (some _)|.T.gi,.T.gs#*|.hr.mono d")
set_option hygiene false in
local macro_rules | `(tactic|exists $a)=> `(tactic|(have F:=T.fs $a;refine⟨F.1,Eh F.1.F F.2 λID A outer s H E hr=>?_⟩;have nd:=F.2.nd;trivial))
variable{U:Ev}(T:Txt U)
include T
def yo:KC U.P U.w U.K U.mg U.base WG 1 (Bq U.K (Ac U.K "NoName") "__init__") (Bb U.K (Bq U.K (Ac U.K "NoName") "__init__")) ["self","place"] (UO (Ac U.K "NoName") "place"):=
 Qj (k:=0) T.bp.F yd T.R8.X T.Ny rfl (by decide +kernel) (by decide +kernel) rfl rfl rfl rfl (.inl rfl) (.inl rfl) (λ_=>⟨_,rfl⟩)
def yq:KC U.P U.w U.K U.mg U.base WG 1 (Bq U.K (Ac U.K "NoNumber") "__init__") (Bb U.K (Bq U.K (Ac U.K "NoNumber") "__init__")) ["self","place"] (UO (Ac U.K "NoNumber") "place"):=
 Qj (k:=0) T.Zj.F ye T.Ti.X T.Ny rfl (by decide +kernel) (by decide +kernel) rfl rfl rfl rfl (.inl rfl) (.inl rfl) (λ_=>⟨_,rfl⟩)
def yt:KC U.P U.w U.K U.mg U.base WG 1 (Bq U.K (Ac U.K "NoPump") "__init__") (Bb U.K (Bq U.K (Ac U.K "NoPump") "__init__")) ["self","place"] (UO (Ac U.K "NoPump") "place"):=
 Qj (k:=0) T.Zd.F yf T.Rx.X T.Ny rfl (by decide +kernel) (by decide +kernel) rfl rfl rfl rfl (.inl rfl) (.inl rfl) (λ_=>⟨_,rfl⟩)
def yp:KC U.P U.w U.K U.mg U.base WG 1 (Bq U.K (Ac U.K "NoRiver") "__init__") (Bb U.K (Bq U.K (Ac U.K "NoRiver") "__init__")) ["self","place"] (UO (Ac U.K "NoRiver") "place"):=
 Qj (k:=0) T.bt.F yg T.Rn.X T.Ny rfl (by decide +kernel) (by decide +kernel) rfl rfl rfl rfl (.inl rfl) (.inl rfl) (λ_=>⟨_,rfl⟩)
def yu:KC U.P U.w U.K U.mg U.base WG 1 (Bq U.K (Ac U.K "NoRule") "__init__") (Bb U.K (Bq U.K (Ac U.K "NoRule") "__init__")) ["self","place"] (UO (Ac U.K "NoRule") "place"):=
 Qj (k:=0) T.bu.F yh T.U9.X T.Ny rfl (by decide +kernel) (by decide +kernel) rfl rfl rfl rfl (.inl rfl) (.inl rfl) (λ_=>⟨_,rfl⟩)
def yn:KC U.P U.w U.K U.mg U.base WG 1 (Bq U.K (Ac U.K "NoText") "__init__") (Bb U.K (Bq U.K (Ac U.K "NoText") "__init__")) ["self","row"] (UO (Ac U.K "NoText") "row"):=
 Qj (k:=0) T.bv.F yi T.Tr.X T.Ny rfl (by decide +kernel) (by decide +kernel) rfl rfl rfl rfl (.inl rfl) (.inl rfl) (λ_=>⟨_,rfl⟩)
def AA:GO U (top 88) 1 Oz:=by exists 88
def yv:GO U (top 86) 1 Cv:=by exists 86
def zu:GO U (top 87) 2 Ww:=by exists 87
def AS:GO U (top 89) 3 Mh:=by exists 89
def iV:GO U (top 33) 1 Xi:=by
 have F:=T.fs 33;refine⟨F.1,Eh F.1.F F.2 λID A outer s H E hr=>?_⟩;have nd:=F.2.nd
 exact(Ak (by trivial) (Dh (Em (Nh (au rfl) rfl T.z az (Cq (Cy (Mr rfl (Ke (dn:=(Ba yW).names) (N0:=yX) (N:=["sign"]) (nt:=1) (caps:=[])) (by trivial) (λC s₀ H₀ ex=>(Gn 0 (show(["sign"]:List Str).Nodup by decide +kernel))) (by trivial) (λC s₀ H₀ ex=>Lq) (λC s₀ H₀ ex=>(Nb Ow (Av 0) (by trivial) (by with_unfolding_all rfl))))) Ef)))))
def iW:GO U (top 38) 1 Qq:=by
 have F:=T.fs 38;refine⟨F.1,Eh F.1.F F.2 λID A outer s H E hr=>?_⟩;have nd:=F.2.nd
 exact(Ak (by trivial) (Dh (Em (ag (Nb Ow (by trivial) (Av 1) (by with_unfolding_all rfl)) (Qw (de Tq Tq Gz (by trivial) Gz))))))
def iX:GO U (top 36) 1 V6:=by
 have F:=T.fs 36;refine⟨F.1,Eh F.1.F F.2 λID A outer s H E hr=>?_⟩;have nd:=F.2.nd
 exact(Dh (Em (ag (df (by trivial) (Qw (Nb Ow (by trivial) (Av 1) (by with_unfolding_all rfl)))) (Qw (de Tq Tq Gz (by trivial) Gz)))))
def AC:GO U (top 40) 1 Vl:=by exists 40
def AD:GO U (top 41) 1 Vb:=by exists 41
def AE:GO U (top 42) 1 Yq:=by exists 42
def iY:GO U (top 39) 2 Qe:=by exists 39
def iZ:GO U (top 37) 1 Wu:=by exists 37
def AY:GX U (top 35) 3 Jb:=by
 have F:=T.fs 35;refine⟨F.1,G7 F.1.F F.2 λID A outer s H E hr=>?_⟩;have nd:=F.2.nd
 exact(Ak (by trivial) (Ak (by trivial) (Ak (by trivial) (Ak (by trivial) (Ak (De (Jf (N8 (Hy (Hu (Pb (iV T).2 (iV T).1 hr (by trivial)))) (Qu (Mx Ow (by trivial) (Av 4) (by with_unfolding_all rfl))))) (by trivial) Dl) (Ak (De (Hy (Hu (Pb (iX T).2 (iX T).1 hr (by trivial)))) (by trivial) Dl) (Ak (De (Mx XV (Nh (se rfl) rfl T.z rT (Cq (Cy (Pb (iZ T).2 (iZ T).1 hr (by trivial))) Ef)) Gz (PF _)) (by trivial) Dl) (Dh (De (by trivial) (Ak (De (Hy (Hu (Pb (iW T).2 (iW T).1 hr (by trivial)))) (by trivial) Dl) (Dh (De (Hy (Hu (Pb (iY T).2 (iY T).1 hr (by trivial)))) (by trivial) Dl))) Dl)))))))))
def A4:GX U (top 34) 4 Gg:=by have F:=T.fs 34;refine⟨F.1,G7 F.1.F F.2 λID A outer s H E hr=>?_⟩;have nd:=F.2.nd;exact(Ak (by trivial) (Ak (De (by trivial) (Dh (wf T.iS (by trivial))) Dl) (Ak (ao Nn rfl (by trivial) (by trivial) (by trivial)) (by trivial))))
def i2:GO U (top 64) 1 Lb:=by
 have F:=T.fs 64;refine⟨F.1,Eh F.1.F F.2 λID A outer s H E hr=>?_⟩;have nd:=F.2.nd
 exact(Ak (De (Jf (N8 (by trivial) (Qu (Hy (Hu (Nh (au rfl) rfl T.z az (Cq (Cy (Mr rfl (Ke (dn:=(Ba yY).names) (N0:=yZ) (N:=["sign"]) (nt:=1) (caps:=[])) (by trivial) (λC s₀ H₀ ex=>(Gn 0 (show(["sign"]:List Str).Nodup by decide +kernel))) (by trivial) (λC s₀ H₀ ex=>Lq) (λC s₀ H₀ ex=>(Nb Ow (Av 0) (by trivial) (by with_unfolding_all rfl))))) Ef))))))) (by trivial) Dl) (Dh (Em (df (by trivial) (Qw (dg (Cd wS wa fW (Av 0) (by trivial))))))))
def iU:GX U (top 63) 3 Gm:=by have F:=T.fs 63;refine⟨F.1,G7 F.1.F F.2 λID A outer s H E hr=>?_⟩;have nd:=F.2.nd;exact(Ak (De (Hy (Hu (Pb (i2 T).2 (i2 T).1 hr (by trivial)))) (by trivial) Dl) (by trivial))
def AV:GX U (top 62) 3 J1:=by
 have F:=T.fs 62;refine⟨F.1,G7 F.1.F F.2 λID A outer s H E hr=>?_⟩;have nd:=F.2.nd
 exact(Ak (De (Jf (N8 (by trivial) (Qu (Hy (Hu (Nh (au rfl) rfl T.z az (Cq (Cy (uv (Mr rfl (Ke (dn:=(Ba y0).names) (N0:=y6) (N:=["sign"]) (nt:=1) (caps:=[])) (by trivial) (λC s₀ H₀ ex=>(Gn 0 (show(["sign"]:List Str).Nodup by decide +kernel))) (by trivial) (λC s₀ H₀ ex=>Lq) (λC s₀ H₀ ex=>(Nb Ow (Av 0) (by trivial) (by with_unfolding_all rfl)))))) Ef))))))) (by trivial) Dl) (by trivial))
def A1:GX U (top 60) 4 Ja:=by have F:=T.fs 60;refine⟨F.1,G7 F.1.F F.2 λID A outer s H E hr=>?_⟩;have nd:=F.2.nd;exact(Ak (by trivial) (Ak (Jy (Dr 2 nd (Cy (Cd zf zg m_split (Av 0) (by trivial))))) (by trivial)))
def A5:GX U (top 55) 4 Je:=by
 have F:=T.fs 55;refine⟨F.1,G7 F.1.F F.2 λID A outer s H E hr=>?_⟩;have nd:=F.2.nd
 exact(Ak (Jy (Ql (Cd qh qi Qt (Av 0) (by trivial)) (by trivial))) (Ak (Jy (Ql (Cd qh qi Qt (Av 4) (by trivial)) (by trivial))) (Ak (De (Mx ed (Av 7) (tU (ss:=["river","pump"]) rfl T.bo) (by with_unfolding_all rfl)) (by trivial) Dl) (by trivial))))
def AZ:GX U (top 54) 5 Ln:=by have F:=T.fs 54;refine⟨F.1,G7 F.1.F F.2 λID A outer s H E hr=>?_⟩;have nd:=F.2.nd;exact(Ak (by trivial) (Ak (De (Hy (Hu (Cd wS wa fW (Av 0) (by trivial)))) (by trivial) Dl) (Dh (Em (ai ar rfl T.z bA (Cq (Cy (bL (aq (Cy (Cd zf zg m_split (by trivial) (by trivial)))) (λC s₀ H₀ ex nd=>(Gn 0 nd)) (by trivial) (λC s₀ H₀ ex=>Lq) (λC s₀ H₀ ex=>(by trivial)))) Ef))))))
def A6:GX U (top 53) 6 Lp:=by have F:=T.fs 53;refine⟨F.1,G7 F.1.F F.2 λID A outer s H E hr=>?_⟩;have nd:=F.2.nd;exact(Ak (Jy (Ql (Cd qh qi Qt (Av 0) (by trivial)) (by trivial))) (by trivial))
def A0:GX U (top 52) 7 Mz:=by have F:=T.fs 52;refine⟨F.1,G7 F.1.F F.2 λID A outer s H E hr=>?_⟩;have nd:=F.2.nd;exact(Dh (Em (ai ar rfl T.z bA (Cq (Cy (bL (aq (Cy (Cd zf zg m_split (Av 0) (by trivial)))) (λC s₀ H₀ ex nd=>(Gn 0 nd)) (by trivial) (λC s₀ H₀ ex=>Lq) (λC s₀ H₀ ex=>(by trivial)))) Ef))))
def A2:GX U (top 58) 8 Hq:=by have F:=T.fs 58;refine⟨F.1,G7 F.1.F F.2 λID A outer s H E hr=>?_⟩;have nd:=F.2.nd;exact(Ak (Jy (Dr 2 nd (Cy (Cd zf zg yM (Av 0) (by trivial))))) (Ak (by trivial) (Ak (Jy (Ql (Av 2) (yP rfl (by trivial)))) (by trivial))))
def AX:GX U (top 59) 4 Ko:=by
 have F:=T.fs 59;refine⟨F.1,G7 F.1.F F.2 λID A outer s H E hr=>?_⟩;have nd:=F.2.nd
 trivial
def AW:GX U (top 61) 3 Kf:=by have F:=T.fs 61;refine⟨F.1,G7 F.1.F F.2 λID A outer s H E hr=>?_⟩;have nd:=F.2.nd;exact(Ak (Jy (Dr 3 nd (Cy (Cd zf zg m_split (Av 0) (by trivial))))) (by trivial))
def A7:GX U (top 57) 9 H8:=by have F:=T.fs 57;refine⟨F.1,G7 F.1.F F.2 λID A outer s H E hr=>?_⟩;have nd:=F.2.nd;exact(Ak (Jy (Dr 2 nd (Ol Ou (Cd qh qi Qt (Av 0) (by trivial)) Gz))) (by trivial))
def A3:GX U (top 56) 4 Lg:=by
 have F:=T.fs 56;refine⟨F.1,G7 F.1.F F.2 λID A outer s H E hr=>?_⟩;have nd:=F.2.nd
 trivial
def Wk:GX U (top 51) 10 Ha:=by have F:=T.fs 51;refine⟨F.1,G7 F.1.F F.2 λID A outer s H E hr=>?_⟩;have nd:=F.2.nd;exact(Ak (Jy (Dr 1 nd (Cy (Cd zf zg m_split (Av 0) (by trivial))))) (Ak (by trivial) (Ak (fG (yS 3 nd (by trivial) (λC s₀ H₀ ex nd=>(Yh rfl (Ma (Gn 0 nd) (Ma (Gn 1 nd) Vq)))) (by trivial) (λC s₀ H₀ ex=>Lq) (λC s₀ H₀ ex=>(by trivial)))) (by trivial))))
def i3:GO U (top 90) 11 Qp:=by have F:=T.fs 90;refine⟨F.1,Eh F.1.F F.2 λID A outer s H E hr=>?_⟩;have nd:=F.2.nd;exact(Ak (by trivial) (Ak (wo (uy (wg (Wk T).2 (Wk T).1 hr (by trivial))) (wm T.iT T.cx.tk wh hr nd (λea hr=>(by trivial)) uz)) (by trivial)))
def yx:GO U (top 66) 1 Ie:=by exists 66
def zt:GO U (top 91) 1 T7:=by
 have F:=T.fs 91;refine⟨F.1,Eh F.1.F F.2 λID A outer s H E hr=>?_⟩;have nd:=F.2.nd;exact(Ak (Dr 1 nd (Cy (Qk (Cq (Gu T.cx T.z (Av 0)) (Cq (Gu T.cx T.z (Av 0)) (Cq (Gu T.cx T.z (Av 0)) Ef)))))) (Ak (Dr 1 nd (Cy (J0 Ir (Av 1) (Cy (Qk (Cq (Gu T.cx T.z (Av 0)) (Cq (Gu T.cx T.z (Av 0)) (Cq (Gu T.cx T.z (Av 0)) Ef)))))))) (Ak (Dr 1 nd (Cy (J0 Ir (Av 1) (Cy (Qk (Cq (Gu T.cx T.z (Av 0)) (Cq (Gu T.cx T.z (Av 0)) (Cq (Gu T.cx T.z (Av 0)) Ef)))))))) (Ak (Dr 1 nd (Cy (J0 Ir (Av 1) (Cy (Qk (Cq (Gu T.cx T.z (Av 0)) (Cq (Gu T.cx T.z (Av 0)) (Cq (Gu T.cx T.z (Av 0)) Ef)))))))) (Ak (Dr 1 nd (Cy (J0 Ir (Av 1) (Cy (Qk (Cq (Gu T.cx T.z (Av 0)) Ef)))))) (Ak (De (Jf (N8 (Hy (Hu (xo T.z T.z (by decide +kernel) T.cx.tbV (Av 0)))) (by trivial))) (by trivial) Dl) (by trivial)))))))
def AF:GO U (top 69) 1 Uw:=by
 have F:=T.fs 69;refine⟨F.1,Eh F.1.F F.2 λID A outer s H E hr=>?_⟩;have nd:=F.2.nd
 exact(Ak (by trivial) (Ak (by trivial) (Ak (ao PassesOwn.never rfl (by trivial) (by trivial) (Ak (by trivial) (Ak (by trivial) (Ak (by trivial) (Ak (by trivial) (Dh (dt (eF PySem.F.slot_list_append PySem.F.type_list_append eE (Av 2) (Cq (Ol Ou (Cy (Mr rfl (Ke (dn:=(Ba y9).names) (N0:=ya) (N:=["_law_one","_law_names_here"]) (nt:=1) (caps:=[2])) (by trivial) (λC s₀ H₀ ex=>(Gn 0 (show(["_law_one","_law_names_here"]:List Str).Nodup by decide +kernel))) (by trivial) (λC s₀ H₀ ex=>(eR (Jf (T8 (Mx ed (Av 0) (Av 1) (by with_unfolding_all rfl)) (by trivial))))) (λC s₀ H₀ ex=>(Av 0)))) Gz) Ef))))))))) (by trivial))))
def yy:GO U (top 68) 1 Jc:=by exists 68
def AK:GO U (top 70) 2 Kr:=by have F:=T.fs 70;refine⟨F.1,Eh F.1.F Vf λID A outer s H E hr=>?_⟩;have nd:=Vf.nd;exact(Ak (by trivial) (Ak (by trivial) (Ak (by trivial) (Ak (Dr 3 Vf.nd (Cd zi qa Kg Ii (by trivial))) (Ak (by trivial) (Ak (De (by trivial) (Ak (Dr 4 Vf.nd (J0 dh (J0 Ir (J0 Ir (Cd PySem.F.slot_str_find PySem.F.type_str_find m_find (Av 1) (by trivial)) Gz) (by trivial)) Gz)) (by trivial)) Dl) (by trivial)))))))
def AJ:GO U (top 74) 1 Rr:=by exists 74
def yw:GO U (top 71) 1 K3:=by exists 71
def AI:GO U (top 75) 1 Xu:=by
 have F:=T.fs 75;refine⟨F.1,Eh F.1.F F.2 λID A outer s H E hr=>?_⟩;have nd:=F.2.nd;exact(Dh (Em (Nh (sf rfl) rfl T.z fA (Cq (Cy (Mr rfl (Ke (dn:=(Ba yb).names) (N0:=yc) (N:=["_law_begin","_law_stairs_here"]) (nt:=2) (caps:=[])) (by trivial) (λC s₀ H₀ ex=>(Yh rfl (Ma (Gn 0 (show(["_law_begin","_law_stairs_here"]:List Str).Nodup by decide +kernel)) (Ma (Gn 1 (show(["_law_begin","_law_stairs_here"]:List Str).Nodup by decide +kernel)) Vq)))) (by trivial) (λC s₀ H₀ ex=>Lq) (λC s₀ H₀ ex=>(Nh (eO rfl) rfl T.z eh (Cq (Cy (Mr rfl (tR (N:=["_law_height","_law_many","_law_way"]) (nt:=3)) (by trivial) (λC s₀ H₀ ex=>(Yh rfl (Ma (Gn 0 (show(["_law_height","_law_many","_law_way"]:List Str).Nodup by decide +kernel)) (Ma (Gn 1 (show(["_law_height","_law_many","_law_way"]:List Str).Nodup by decide +kernel)) (Ma (Gn 2 (show(["_law_height","_law_many","_law_way"]:List Str).Nodup by decide +kernel)) Vq))))) (by trivial) (λC s₀ H₀ ex=>(by trivial)) (λC s₀ H₀ ex=>(Av 1)))) Ef))))) Ef))))
def AG:GO U (top 72) 2 W0:=by exists 72
def AH:GO U (top 73) 3 Wr:=by exists 73
def AM:GO U (top 76) 4 Lj:=by exists 76
def AR:GO U (top 77) 5 Oj:=by exists 77
def zp:GO U (top 82) 1 Ly:=by exists 82
def zm:GO U (top 81) 1 Oq:=by exists 81
def yz:GO U (top 83) 2 Jx:=by have F:=T.fs 83;refine⟨F.1,Eh F.1.F F.2 λID A outer s H E hr=>?_⟩;have nd:=F.2.nd;exact(Ak (Dr 3 nd (S6 (Cd zf zg m_split (Av 0) (by trivial)))) (Ak (by trivial) (Dh (Em (Cd zi qa Kg Ii (by trivial))))))
def AN:GO U (top 84) 2 Lr:=by have F:=T.fs 84;refine⟨F.1,Eh F.1.F F.2 λID A outer s H E hr=>?_⟩;have nd:=F.2.nd;exact(Ak (Dr 2 nd (S6 (Cd zf zg m_split (Av 0) (by trivial)))) (Ak (by trivial) (Ak (Dr 3 nd (S6 (Cd zf zg m_split (by trivial) (by trivial)))) (Ak (De (by trivial) (Ak (by trivial) (Ak (by trivial) (Dh (Ql (Cd zi qa Kg Ii (by trivial)) (by trivial))))) (by trivial)) (Dh (Em (Cd zi qa Kg Ii (by trivial))))))))
def AU:GO U (top 85) 3 Bj:=by
 have F:=T.fs 85;refine⟨F.1,Eh F.1.F F.2 λID A outer s H E hr=>?_⟩;have nd:=F.2.nd;exact(Ak (by trivial) (Ak (by trivial) (Ak (by trivial) (Ak (De (by trivial) (Dh (Em (J0 Ir (sQ PySem.F.slot_str_upper PySem.F.type_str_upper m_upper (by trivial)) (by trivial)))) Dl) (Ak (De (by trivial) (Dh (Em (J0 Ir (J0 Ir (Ol Ou (Cd qh qi Qt (Av 0) (by trivial)) Gz) Ii) (Ol Ou (Cd qh qi Qt (Av 0) (by trivial)) Gz)))) Dl) (Ak (De (by trivial) (Dh (Em (Ol Ou (Cd PySem.F.slot_str_rpartition PySem.F.type_str_rpartition yQ (Av 0) (by trivial)) Gz))) Dl) (Ak (by trivial) (Ak (by trivial) (Ak (by trivial) (Ak (by trivial) (Ak (De (by trivial) (Ak (Dr 3 nd (S6 (Cd zf zg m_split (Av 0) (by trivial)))) (Ak (by trivial) (Dh (Em (Cd zi qa Kg Ii (by trivial)))))) Dl) (by trivial))))))))))))
def AO:GO U (top 78) 1 Wl:=by have F:=T.fs 78;refine⟨F.1,Eh F.1.F F.2 λID A outer s H E hr=>?_⟩;have nd:=F.2.nd;exact(Ak (by trivial) (Ak (by trivial) (Dh (Em (Cd zi qa Kg Ii (by trivial))))))
def AQ:GO U (top 79) 2 Nj:=by have F:=T.fs 79;refine⟨F.1,Eh F.1.F F.2 λID A outer s H E hr=>?_⟩;have nd:=F.2.nd;exact(Ak (by trivial) (Ak (by trivial) (Ak (by trivial) (Ak (by trivial) (Ak (by trivial) (Dh (Em (Cd zi qa Kg Ii (by trivial)))))))))
def zr:GO U (top 80) 3 Rb:=by exists 80
def Y7:GO U (top 67) 1 Sx:=by exists 67
def bw:GO U (top 92) 12 Qo:=by
 have F:=T.fs 92;refine⟨F.1,Eh F.1.F Yn λID A outer s H E hr=>?_⟩;have nd:=Yn.nd;exact(Ak (by trivial) (Ak (by trivial) (Ak (by trivial) (Ak (by trivial) (Ak (Dr 7 Yn.nd (Cd zi qa Kg Ii (by trivial))) (Ak (by trivial) (Ak (by trivial) (Ak (by trivial) (Ak (by trivial) (Ak (by trivial) (Ak (Dr 16 Yn.nd (Vd (i3 T).2 (i3 T).1 hr (Cq (Cd zi qa Kg Ii (by trivial)) Ef))) (Ak (by trivial) (Ak (De (Jf (T8 (by trivial) (Zn (Jf (N8 (Hy (Hu (Vd (Y7 T).2 (Y7 T).1 hr (Cq (Vk (Ho T.Tr Xf) (Av 16)) Ef)))) (Qu (Mx (aj hr.units) (Vk (Ho T.Tr Xf) (Av 16)) (Av 10) (PF _)))))))) (by trivial) Dl) (Ak (by trivial) (Ak (De (Jf (T8 (by trivial) (T8 (by trivial) (Zn (Jf (N8 (Hy (Hu (Vd (Y7 T).2 (Y7 T).1 hr (Cq (Vk (Ho T.R8 (Ho T.Ti (Ho T.Rx (Ho T.Rn (Ho T.U9 Xf))))) (Av 16)) Ef)))) (Qu (Mx (aj hr.units) (Vk (Ho T.R8 (Ho T.Ti (Ho T.Rx (Ho T.Rn (Ho T.U9 Xf))))) (Av 16)) (Av 6) (PF _))))))))) (by trivial) Dl) (Ak (by trivial) (Dh (Em (Nb (YV hr.units) (uu (Wk T).2 (Wk T).1 hr (by trivial)) (Av 1) (PF _))))))))))))))))))))
end
def A8{U:Ev}{h:Heap}(X:U.K.In h)(G:h.Ns xT U.mg)(S:JF U.K asks):Txt U:=by
 have A:Gx body MZ U:=⟨⟨h,X,G⟩,gW S⟩;obtain⟨bo,bp,Zj,Zd,bt,bu,bv,R8,Ti,Rx,Rn,U9,Tr,iS,Ny,iT,cx,-⟩:=S
 constructor <;> first|assumption|exact ur X G (by assumption)|exact yV X G (by assumption)|exact uq X G (by assumption)|exact um X G (by assumption)|exact vt X G (by assumption)|exact tw (by assumption) λ_ _ _ _ _ _=>IX λ_ _=>rfl|exact t8 X G bo
def all_mk{l:vN}{w:xC}{K:za}{h:Heap}{mg:Str->Option xB}{fa:xz}(X:K.In h)(G:h.Ns xT mg)(hfa:mg "law"=uQ (.ref fa))(S:JF K asks):
  ∃fd:xk,(∀(s:x9)(v:xB),BindsTo s fd ⟨[v],[]⟩ [("_law_script",v)])/\∀base:Heap,K.In base->base.Ns xT mg->KC l.prog w K mg base WG 12 fa fd ["_law_script"] (lF K Qo):=by
 have T:∀base,Txt ⟨l.prog,w,K,mg,base⟩:=λbase=>A8 X G S
 have eL:mg "law"=uQ (.ref (Ac K "law")):=(bw (T h)).1.m;obtain rfl:fa=Ac K "law":=by rw[hfa]at eL;cases eL;rfl
 exact⟨_,λs v=>uA (bw (T h)).1.F,λbase _ _=>(bw (T base)).2⟩
def walk{l:vN}{q:x0}{loose:List Str}{XP:(Str->Option xB)->Heap->Prop}{YP:xC->Heap->Prop}{d:DefRec}{K:xC->za}(hn:l.most=uQ 63)(TU:d.params.defaults=[])(HH:Holds)
  (hY:∀(w:xC)(h:Heap),YP w h->(K w).In h)
  (F:∀(w:xC)(mg:Str->Option xB)(fa:xz)(h:Heap),(K w).In h->h.Ns xT mg->mg d.name=uQ (.ref fa)->
   ∃fd:xk,(∀(s:x9)(u:xB),BindsTo s fd ⟨[u],[]⟩ [("_law_script",u)])/\∀base:Heap,(K w).In base->base.Ns xT mg->KC l.prog w (K w) mg base WG 12 fa fd ["_law_script"] (lF (K w) Qo)):
  wz q loose XP YP l.row.toRowW d [] (λf vs=>jh f vs):=
 su (n:=63) (k:=12) (x:="_law_script") (CX:=λ_=>WG) (sp:=λw=>lF (K w) Qo) hn (by decide) TU ⟨rfl,by decide,by decide⟩ hY F
  (λw H a ns hl hbt hO hS=>by
   obtain⟨G,hG⟩:=HH ns hl hbt;refine⟨⟨K w,0,λ_=>0,H⟩,[],[.fl (ns.map D.int)],rfl,rfl,⟨rfl,λi j h=>absurd h (Nat.not_lt_zero _),λi o h=>by simp at h,λi h=>absurd h (Nat.not_lt_zero _)⟩,KA.cons ⟨a,ns.map V.int,rfl,?_,KA.ints ns⟩ KA.nil,?_⟩
   .rcases hS with(hS|hS)|hS
    .rcases hO a with z|⟨o,xs,z⟩
     .rw[z]at hS;cases hS
     .rw[z]at hS;cases hS
    .exact .inl hS
    .exact .inr ⟨⟨ns,rfl⟩,hS⟩
   .rw[hG];exact λb v _ _ r=>r) λ_ _ _ _ _ z=>z
section
variable{G:DH}{ds:List D}{l l' L sep u d a x3 x4 x5 m v y:List Nat}{i j k w c1:Nat}{ls ts rs:List (List Nat)}{x cell big yr r0 b f:Int}{te:DE}{xs:List Int}{lo hi:Option Int}{s0 s1:Option D}{t old:Str}{q:Option (Str×Int×Int)}
noncomputable abbrev zI(i:Int):Option D:=uQ (.int i)
noncomputable abbrev zR(i:Nat):Option D:=uQ (.ref i)
noncomputable abbrev zF(xs:List D):Option D:=uQ (.fl xs)
noncomputable abbrev zT(xs:List D):Option D:=uQ (.tup xs)
noncomputable abbrev zS(x:Str):Option D:=uQ (.str x)
noncomputable abbrev zB(b:Bool):Option D:=uQ (.bl b)
section
variable{S:ZB}{G:DH}{d v:D}{o:D->D->DH->R D}{t:DE}{r:DA}{a b c e f g h i j k l m n:Option D}
@[simp high]theorem rV0:dV 0 (uQ d::S) G=.ok d G:=id rfl
@[simp high]theorem rV1:dV 1 (a::uQ d::S) G=.ok d G:=id rfl
@[simp high]theorem rV2:dV 2 (a::b::uQ d::S) G=.ok d G:=id rfl
@[simp high]theorem rV3:dV 3 (a::b::c::uQ d::S) G=.ok d G:=id rfl
@[simp high]theorem rV4:dV 4 (a::b::c::e::uQ d::S) G=.ok d G:=id rfl
@[simp high]theorem rV5:dV 5 (a::b::c::e::f::uQ d::S) G=.ok d G:=id rfl
@[simp high]theorem rV6:dV 6 (a::b::c::e::f::g::uQ d::S) G=.ok d G:=id rfl
@[simp high]theorem rV7:dV 7 (a::b::c::e::f::g::h::uQ d::S) G=.ok d G:=id rfl
@[simp high]theorem rV8:dV 8 (a::b::c::e::f::g::h::i::uQ d::S) G=.ok d G:=id rfl
@[simp high]theorem rV9:dV 9 (a::b::c::e::f::g::h::i::j::uQ d::S) G=.ok d G:=id rfl
@[simp high]theorem rV10:dV 10 (a::b::c::e::f::g::h::i::j::k::uQ d::S) G=.ok d G:=id rfl
@[simp high]theorem rV11:dV 11 (a::b::c::e::f::g::h::i::j::k::l::uQ d::S) G=.ok d G:=id rfl
@[simp high]theorem rV12:dV 12 (a::b::c::e::f::g::h::i::j::k::l::m::uQ d::S) G=.ok d G:=id rfl
@[simp high]theorem rV13:dV 13 (a::b::c::e::f::g::h::i::j::k::l::m::n::uQ d::S) G=.ok d G:=id rfl
@[simp 10002]theorem rOC0:NA o (dV 0) (dC v) (uQ d::S) G=o d v G:=id rfl
@[simp 10002]theorem rOC1:NA o (dV 1) (dC v) (a::uQ d::S) G=o d v G:=id rfl
@[simp 10002]theorem rOC2:NA o (dV 2) (dC v) (a::b::uQ d::S) G=o d v G:=id rfl
@[simp 10002]theorem rOC3:NA o (dV 3) (dC v) (a::b::c::uQ d::S) G=o d v G:=id rfl
@[simp 10002]theorem rOC4:NA o (dV 4) (dC v) (a::b::c::e::uQ d::S) G=o d v G:=id rfl
@[simp 10002]theorem rOC5:NA o (dV 5) (dC v) (a::b::c::e::f::uQ d::S) G=o d v G:=id rfl
@[simp 10002]theorem rOC6:NA o (dV 6) (dC v) (a::b::c::e::f::g::uQ d::S) G=o d v G:=id rfl
@[simp 10002]theorem rOC7:NA o (dV 7) (dC v) (a::b::c::e::f::g::h::uQ d::S) G=o d v G:=id rfl
@[simp 10002]theorem rOC8:NA o (dV 8) (dC v) (a::b::c::e::f::g::h::i::uQ d::S) G=o d v G:=id rfl
@[simp 10002]theorem rOC9:NA o (dV 9) (dC v) (a::b::c::e::f::g::h::i::j::uQ d::S) G=o d v G:=id rfl
@[simp 10002]theorem T?:NA o (dV 10) (dC v) (a::b::c::e::f::g::h::i::j::k::uQ d::S) G=o d v G:=id rfl
@[simp 10002]theorem U?:NA o (dV 13) (dC v) (a::b::c::e::f::g::h::i::j::k::l::m::n::uQ d::S) G=o d v G:=id rfl
@[simp high]theorem rOV0:NA o (dV 0) t (uQ d::S) G=(t (uQ d::S) G).bind λy q=>o d y q:=id rfl
@[simp high]theorem rOV1:NA o (dV 1) t (a::uQ d::S) G=(t (a::uQ d::S) G).bind λy q=>o d y q:=id rfl
@[simp high]theorem rOV2:NA o (dV 2) t (a::b::uQ d::S) G=(t (a::b::uQ d::S) G).bind λy q=>o d y q:=id rfl
@[simp high]theorem rOV3:NA o (dV 3) t (a::b::c::uQ d::S) G=(t (a::b::c::uQ d::S) G).bind λy q=>o d y q:=id rfl
@[simp high]theorem rOV4:NA o (dV 4) t (a::b::c::e::uQ d::S) G=(t (a::b::c::e::uQ d::S) G).bind λy q=>o d y q:=id rfl
@[simp high]theorem rOV5:NA o (dV 5) t (a::b::c::e::f::uQ d::S) G=(t (a::b::c::e::f::uQ d::S) G).bind λy q=>o d y q:=id rfl
@[simp high]theorem rOV6:NA o (dV 6) t (a::b::c::e::f::g::uQ d::S) G=(t (a::b::c::e::f::g::uQ d::S) G).bind λy q=>o d y q:=id rfl
@[simp high]theorem rOV8:NA o (dV 8) t (a::b::c::e::f::g::h::i::uQ d::S) G=(t (a::b::c::e::f::g::h::i::uQ d::S) G).bind λy q=>o d y q:=id rfl
@[simp high]theorem V?:NA o (dV 11) t (a::b::c::e::f::g::h::i::j::k::l::uQ d::S) G=(t (a::b::c::e::f::g::h::i::j::k::l::uQ d::S) G).bind λy q=>o d y q:=id rfl
@[simp high]theorem W?:NA o (dV 12) t (a::b::c::e::f::g::h::i::j::k::l::m::uQ d::S) G=(t (a::b::c::e::f::g::h::i::j::k::l::m::uQ d::S) G).bind λy q=>o d y q:=id rfl
@[simp high]theorem rCV0:An (dV 0) r (uQ d::S) G=(r (uQ d::S) G).bind λxs q=>.ok (d::xs) q:=id rfl
@[simp high]theorem rCV1:An (dV 1) r (a::uQ d::S) G=(r (a::uQ d::S) G).bind λxs q=>.ok (d::xs) q:=id rfl
@[simp high]theorem rCV2:An (dV 2) r (a::b::uQ d::S) G=(r (a::b::uQ d::S) G).bind λxs q=>.ok (d::xs) q:=id rfl
@[simp high]theorem rCV3:An (dV 3) r (a::b::c::uQ d::S) G=(r (a::b::c::uQ d::S) G).bind λxs q=>.ok (d::xs) q:=id rfl
@[simp high]theorem rCV4:An (dV 4) r (a::b::c::e::uQ d::S) G=(r (a::b::c::e::uQ d::S) G).bind λxs q=>.ok (d::xs) q:=id rfl
@[simp high]theorem rCV5:An (dV 5) r (a::b::c::e::f::uQ d::S) G=(r (a::b::c::e::f::uQ d::S) G).bind λxs q=>.ok (d::xs) q:=id rfl
@[simp high]theorem rCV6:An (dV 6) r (a::b::c::e::f::g::uQ d::S) G=(r (a::b::c::e::f::g::uQ d::S) G).bind λxs q=>.ok (d::xs) q:=id rfl
@[simp high]theorem rCV7:An (dV 7) r (a::b::c::e::f::g::h::uQ d::S) G=(r (a::b::c::e::f::g::h::uQ d::S) G).bind λxs q=>.ok (d::xs) q:=id rfl
@[simp high]theorem rCV8:An (dV 8) r (a::b::c::e::f::g::h::i::uQ d::S) G=(r (a::b::c::e::f::g::h::i::uQ d::S) G).bind λxs q=>.ok (d::xs) q:=id rfl
@[simp high]theorem rCV9:An (dV 9) r (a::b::c::e::f::g::h::i::j::uQ d::S) G=(r (a::b::c::e::f::g::h::i::j::uQ d::S) G).bind λxs q=>.ok (d::xs) q:=id rfl
@[simp high]theorem X?:An (dV 10) r (a::b::c::e::f::g::h::i::j::k::uQ d::S) G=(r (a::b::c::e::f::g::h::i::j::k::uQ d::S) G).bind λxs q=>.ok (d::xs) q:=id rfl
@[simp high]theorem Y?:An (dV 11) r (a::b::c::e::f::g::h::i::j::k::l::uQ d::S) G=(r (a::b::c::e::f::g::h::i::j::k::l::uQ d::S) G).bind λxs q=>.ok (d::xs) q:=id rfl
@[simp high]theorem rCC:An (dC v) r S G=(r S G).bind λxs q=>.ok (v::xs) q:=id rfl
@[simp 10001]theorem rOtC:NA o t (dC v) S G=(t S G).bind λx q=>o x v q:=id rfl
@[simp 10001]theorem rOCt:NA o (dC v) t S G=(t S G).bind λy q=>o v y q:=id rfl
end
noncomputable def cellAt(ns:List Int)(k:Int):Int:=ns.getD k.toNat 0
def Up{ns:List Int}{k:Int}(hk:0<=k):Ie [.fl (ns.map D.int),.int k] G=.ok (.int (cellAt ns k)) G:=by
 unfold Ie hI cellAt;rw[Af];by_cases h:k<lN ns
 .simp[h];rw[Df (k:=k.toNat) (by lia) (by rw[zD,zX (by lia)];rfl)];simp[Ah,zX (show k.toNat<lN ns by lia)]
 simp[h,Ah,qj (show lN ns<=k.toNat by lia)]
noncomputable def tab(n:Nat)(F:Nat->Int):List D:=(zE n).map λi=>D.int (F i)
def Yx{A:DO}{L:DH}(h:MA (lN G+1) ds=uJ):freeze (G++[A]) (.ok (.ref (lN G+1)) (G++A:: .lst ds::L))=.ok (.fl ds) (G++[A]):=by have:=Az (G:=G++[A]) (L:=L) (by simpa using h);simpa using this
def A9{A:DO}{L:DH}(h:MA (lN G+1) ds=uJ):tidy (G++[A]) (.ok (.ref (lN G+1)) (G++A:: .lst ds::L))=.ok (.ref (lN G+1)) (G++[A,.lst ds]):=by have:=Dk (G:=G++[A]) (L:=L) (by simpa using h);simpa using this
def pr:¬(("river":Str)="pump"):=by decide
structure JB where
 h:Int
 m:Int
 r:Bool
variable{st:List JB}{s:JB}
noncomputable def wy(r:Bool):Str:=if r then "river" else "pump"
noncomputable def JB.enc(s:JB):D:=.tup [.int s.h,.int s.m,.str (wy s.r)]
@[simp]theorem bx{n:Nat}:MA n (st.map JB.enc)=uJ:=Hv λs _=>by simp[JB.enc]
@[simp]theorem HK{r:Bool}:(wy r="pump")=(r=uX):=by
 cases r
 .exact propext ⟨λh=>rfl,λ_=>rfl⟩
 exact propext ⟨λh=>absurd h pr,λh=>by cases h⟩
noncomputable abbrev ND:=Int×List JB
variable{ss r:List ND}
noncomputable def Aj(s:ND):D:=.tup [.int s.1,.tup (s.2.map JB.enc)]
@[simp]theorem Jt{n:Nat}:MA n (ss.map Aj)=uJ:=Hv λs _=>by simp[Aj]
inductive Kd where
 |IA (IM:Int) (rule:List ND) (JM:Option (Nat×Nat×Int))
 |VA (need rank:Int)
 |RA (most:Int)
structure Pl where
 nm:Str
 dn:Option Nat
 dl:Nat
 kd:Kd
noncomputable def LX:Pl:=⟨"",uZ,0,.RA 0⟩
structure Hs where
 yr:Int
 ps:List Pl
def Hs.pl(h:Hs)(k:Nat):Pl:=h.ps.getD k LX
noncomputable def Hs.n(h:Hs):Nat:=lN h.ps
def Hs.VO(h:Hs):Option Nat->Str
 |none=>"sea"
 |some d=>(h.pl d).nm
def Hs.Yy(h:Hs):Option (Nat×Nat×Int)->D
 |none=>.UA
 |some (to,dl,m)=>.tup [.str (h.pl to).nm,.int dl,.int m]
def Hs.VF(h:Hs)(p:Pl):D:=match p.kd with
 |.IA b r q=>.tup [.str "basin",.str p.nm,.str (h.VO p.dn),.int p.dl,.int b,.tup (r.map Aj),h.Yy q]
 |.VA a b=>.tup [.str "town",.str p.nm,.str (h.VO p.dn),.int p.dl,.int a,.int b]
 |.RA a=>.tup [.str "mill",.str p.nm,.str (h.VO p.dn),.int p.dl,.int a]
def Hs.MX(h:Hs):List D:=h.ps.map h.VF
def Hs.enc(h:Hs):D:=.tup [.int h.yr,.tup h.MX]
def Good:Int->List JB->Prop
 |_,[]=>True
 |t,s::r=>t<=s.h/\1<=s.m/\Good (s.h+s.m) r
structure WN (h:Hs):Prop where
 yr:0<h.yr
 len:h.n<=12
 inj:∀i j,i<h.n->j<h.n->(h.pl i).nm=(h.pl j).nm->i=j
 VY:∀i,i<h.n->(h.pl i).nm≠"sea"
 dn:∀k d,k<h.n->(h.pl k).dn=uQ d->k<d/\d<h.n
 dl:∀k,k<h.n->(h.pl k).dl<=5
 JM:∀k b r to dl m,k<h.n->(h.pl k).kd=.IA b r (uQ (to,dl,m))->to<h.n/\1<=dl/\dl<=5
 IM:∀k b r q,k<h.n->(h.pl k).kd=.IA b r q->0<=b/\∀s∈r,Good 0 s.2
 VA:∀k a b,k<h.n->(h.pl k).kd=.VA a b->0<=a/\0<=b
theorem Hs.Ap{h:Hs}{n:Nat}{q:Option (Nat×Nat×Int)}:lC n (h.Yy q)=uJ:=by
 cases q with
 |none=>rfl
 |some x=>obtain⟨a,b,c⟩:=x;simp[Hs.Yy]
@[simp]theorem Hs.As{h:Hs}{n:Nat}{p:Pl}:lC n (h.VF p)=uJ:=by
 unfold Hs.VF
 cases p.kd<;>simp[Hs.Ap]
def Jj{q:Type}{xs:List q}{a:Nat}(h:a<=lN xs):cutD xs uZ (uQ (a:Int))=xs.take a:=by
 have:=(Ju (lN xs) (a:Int)).1;have e:HT.NB (lN xs) (lN xs) (uQ (a:Int))=a:=by lia
 unfold cutD;rw[e];simp[HT.NB]
def Jv{q:Type}{xs:List q}{a:Nat}(h:a<=lN xs):cutD xs (uQ (a:Int)) uZ=xs.drop a:=by
 have:=(Ju (lN xs) (a:Int)).2;have e:HT.NB (lN xs) 0 (uQ (a:Int))=a:=by lia
 unfold cutD;rw[e];simp[HT.NB];exact qI (by simp)
noncomputable def Aa(l:List Nat):Str:=⟨l.toArray⟩
@[simp]theorem G6:(Aa l).cps.toList=l:=by simp[Aa]
@[simp]theorem Bo:(Aa l).length=l.length:=by simp[Aa,Str.length]
def We:Aa l++Aa l'=Aa (l++l'):=by show Str.append _ _=_;unfold Str.append Aa;simp
def bz{s:Str}:s=Aa s.cps.toList:=_D.Og (by simp)
def Jw:(Aa l=Aa l')=(l=l'):=propext ⟨λh=>by simpa using(congrArg (λs:Str=>s.cps.toList) h),λh=>by rw[h]⟩
def Et{S:List Nat}:StrLaws.At (Aa L) (Aa S) (Aa L).length i↔i+S.length<=L.length/\(L.drop i).take S.length=S:=by unfold StrLaws.At;rw[StrLaws.subAt_eq,G6,G6,Bo,Bo];simp
def Jq{a b:Nat}:qf (Aa L) a b=Aa ((L.drop a).take (b-a)):=_D.Og (by rw[StrLaws.strSub_toList];simp)
def Wb{r s:List Nat}{m c:Nat}(hi:i<lN l)(h:((l++r).drop i).take (m+1)=c::s):c∈l:=by rw[j7 (by lia),qK hi,List.cons_append,jI]at h;have:=(cj h).1;rw[<-this];exact qV hi
def Au{p q:List Nat}{c:Nat}(hp:c∉p):Txt.partition (Aa (p++c::q)) (Aa [c])=(Aa p,Aa [c],Aa q):=by
 have s:StrLaws.At (Aa (p++c::q)) (Aa [c]) (Aa (p++c::q)).length p.length:=Et.mpr ⟨by simp,by simp⟩;have u:∀k,k<p.length->¬StrLaws.At (Aa (p++c::q)) (Aa [c]) (Aa (p++c::q)).length k:=λk hk h=>by exact hp (Wb hk (Et.mp h).2)
 rcases wb (Aa (p++c::q)) (Aa [c])with⟨_,h⟩|⟨i,e,h,x⟩
 .exact absurd s (h _)
 have B:i=p.length:=by
  rcases jj i p.length with z|z|z
  .exact absurd h (u i z)
  .exact z
  exact absurd s (x _ z)
 subst B;rw[e,Jq,Jq,Bo,Bo];have w:((p++c::q).drop 0).take (p.length-0)=p:=by simp
 have y:((p++c::q).drop (p.length + [c].length)).take ((p++c::q).length-(p.length + [c].length))=q:=by
  have A:(p++c::q).drop (p.length + [c].length)=q:=by
   rw[<-qk,j7 (zY _),List.drop_length]
   rfl
  rw[A];exact qI (by simp;lia)
 rw[w,y]
theorem i4{c d:Nat}:∀(ls:List (List Nat))(l:List Nat)(a f:Nat)(q:List Nat),(∀x∈l::ls,c∉x)->L.drop a=Ab [c,d] (l::ls)->a<=L.length->
  StrLaws.ChainG (Aa L) (Aa [c,d]) (Aa L).length a q f->(∀k,f<=k->¬StrLaws.At (Aa L) (Aa [c,d]) (Aa L).length k)->StrLaws.partsFrom (Aa L) 2 a q=(l::ls).map Aa
 | [],l,a,f,q,C,u,N,s,H=>by
  have F:Ab [c,d] [l]=l:=rfl;rw[F]at u;have y:∀k,a<=k->¬StrLaws.At (Aa L) (Aa [c,d]) (Aa L).length k:=λk hk h=>by
   have w:=(Et.mp h).2;have e:L.drop k=(L.drop a).drop (k-a):=by rw[qk];congr 1;lia
   rw[e,u]at w;cases I:l.drop (k-a)with
   |nil=>rw[I]at w;cases w
   |cons x r=>
    rw[I]at w;simp at w;exact C l (by simp) (w.1▸qP (I▸z8 ..))
  cases q with
  |nil=>
   show[qf (Aa L) a (Aa L).length]=[Aa l];rw[Jq,Bo,u]
   congr 2
   have:l.length=L.length-a:=by rw[<-u];simp
   exact qI (by lia)
  |cons k r=>exact absurd s.2.1 (y k s.1)
 | A::ls,l,a,f,q,C,u,N,s,H=>by
  have F:Ab [c,d] (l::A::ls)=l++[c,d]++Ab [c,d] (A::ls):=rfl;rw[F]at u;have K:L.length=a+(l.length+2+(Ab [c,d] (A::ls)).length):=by have:=congrArg zU u;simp at this;lia
  have J:L.drop (a+l.length)=[c,d]++Ab [c,d] (A::ls):=by rw[<-qk,u];simp
  have B:StrLaws.At (Aa L) (Aa [c,d]) (Aa L).length (a+l.length):=Et.mpr ⟨by simp;lia,by rw[J];simp⟩;have y:∀k,a<=k->k<a+l.length->¬StrLaws.At (Aa L) (Aa [c,d]) (Aa L).length k:=λk w M h=>by
   have E:=(Et.mp h).2;have e:L.drop k=(L.drop a).drop (k-a):=by rw[qk];congr 1;lia
   have hk:k-a<l.length:=by lia
   rw[e,u,qW]at E;exact C l (by simp) (Wb hk E)
  cases q with
  |nil=>
   have T:f=a:=s;exact absurd B (H _ (by lia))
  | cons k r=>
   obtain⟨w,M,E,O⟩:=s;have hk:k=a+l.length:=by
    rcases jj k (a+l.length)with z|z|z
    .exact absurd M (y k w z)
    .exact z
    exact absurd B (E _ (by lia) z)
   subst hk;have Q:=i4 ls A (a+l.length+2) f r (λx P=>C x (zQ _ P)) (by rw[<-qk,J];simp) (by lia) O H;show qf (Aa L) a (a+l.length)::StrLaws.partsFrom (Aa L) 2 (a+l.length+2) r=Aa l::_;rw[Q,Jq,u]
   congr 2
   rw[show a+l.length-a=l.length by lia,qW,j8 (zY _),jV]
theorem BA{c d:Nat}(C:∀x∈l::ls,c∉x)(s:c<256/\d<256):Txt.split (Aa (Ab [c,d] (l::ls))) (Aa [c,d])=(l::ls).map Aa:=by
 obtain⟨f,w,z⟩:=StrLaws.occ_tight (Aa (Ab [c,d] (l::ls))) (Aa [c,d]) (by simp);have hp:=i4 ls l 0 f _ C rfl (by lia) w z;cases ls with
 |nil=>
  have y:Ab [c,d] [l]=l:=rfl;rw[y]at*;unfold Txt.split;split
  .rfl
  split
  .rfl
  .rw[StrLaws.partsBetween_eq];exact hp
 | cons u ls=>
  have q:StrLaws.At (Aa (Ab [c,d] (l::u::ls))) (Aa [c,d]) (Aa (Ab [c,d] (l::u::ls))).length l.length:=Et.mpr (by have y:Ab [c,d] (l::u::ls)=l++[c,d]++Ab [c,d] (u::ls):=rfl;rw[y];exact⟨by simp,by simp⟩)
  unfold Txt.split;rw[if_neg,if_neg]
  .rw[StrLaws.partsBetween_eq];exact hp
  .intro A;rw[jF.mp A]at w;have F:f=0:=w;exact z l.length (by lia) q
  have hk:zc (Aa [c,d])=1:=by unfold zc Aa;rw[if_pos];simp[s.1,s.2]
  have B:1<=zc (Aa (Ab [c,d] (l::u::ls))):=by
   unfold zc;split
   .exact zY _
   split <;> lia
  have E:=q.1;rw[hk];simp only[j6,decide_eq_true_eq,not_or];lia
def BB:Txt.join (Aa sep) (ls.map Aa)=Aa (Ab sep ls):=_D.Og (by
 rw[f3,G6,G6,qA]
 congr 1
 have:((λx:Str=>x.cps.toList)∘Aa)=id:=by funext l;simp
 rw[this,List.map_id])
theorem Pa{sep:List Nat}{B:Nat}:∀(ls:List (List Nat)),(∀l∈ls,lN l<=B)->lN (Ab sep ls)<=lN ls*(B+lN sep)
 |[],_=>by simp[Ab]
 |[x],h=>by have:=h x (by simp);show lN x<=1*(B+lN sep);lia
 |x::y::r,h=>by
  have s:=h x (by simp);have u:=Pa (sep:=sep) (y::r) λl q=>h l (zQ _ q)
  show lN (x++sep++Ab sep (y::r))<=(y::r).length.succ*(B+lN sep);rw[zC,zC,Nat.succ_mul];lia
noncomputable def num(n:Int):List Nat:=(jJ 10 n.toNat).map Char.toNat
def BC{n:Int}(h:0<=n):Str.ofString (toString n)=Aa (num n):=by obtain⟨m,rfl⟩:=Int.eq_ofNat_of_zero_le h;refine _D.Og ?_;rw[G6];exact PySem.W.KIN.signs_num m
def Ru{n:Int}:∀c∈num n,48<=c/\c<=57:=λc w=>by
 obtain⟨s,q,e⟩:=z7.mp w;have r:=Nat.isDigit_of_mem_toDigits (by decide) (by decide) q;rw[<-e];have u:48<=s.toNat/\s.toNat<=57:=by unfold Char.isDigit at r;simp at r;exact⟨r.1,r.2⟩
 exact u
def BD(n:Nat):NumText.digitsVal (num n)=n:=by unfold num;exact PySem.W.KIN.val_back n
def Yz{m:Nat}(h:¬m<10):jJ 10 m=jJ 10 (m/10)++[Nat.digitChar (m%10)]:=by have q:m%10<10:=Nat.mod_lt m (by decide);have t:jJ 10 (m/10)++jJ 10 (m%10)=jJ 10 (10*(m/10)+m%10):=Nat.toDigits_append_toDigits (by decide) (by lia) q;rw[Nat.div_add_mod]at t;rw[<-t,jw q]
theorem i6:∀(k m:Nat),1<=k->m<10^k->lN (jJ 10 m)<=k
 |0,m,h,_=>by lia
 | k+1,m,_,h=>by
  by_cases q:m<10
  .rw[jw q];simp
  rw[Yz q,zC];have hk:1<=k:=by
   cases k with
   |_=>lia
  have s:m/10<10^k:=by rw[Nat.pow_succ]at h;lia
  have:=i6 k (m/10) hk s;simp;lia
def BE(m:Nat):jJ 10 m≠[]:=by
 by_cases q:m<10
 .rw[jw q];simp
 rw[Yz q];simp
def cA:∀d:Nat,d<10->(Nat.digitChar d).toNat=48+d:=by decide
theorem BF(m:Nat):m≠0->∃c r,jJ 10 m=c::r/\c.toNat≠48:=by
 induction m using Nat.strongRecOn with
 |_ m s=>
  intro w;by_cases q:m<10
  .rw[jw q];refine⟨_,[],rfl,?_⟩;rw[cA m q];lia
  obtain⟨c,r,e,u⟩:=s (m/10) (by lia) (by lia);rw[Yz q,e];exact⟨c,r++[Nat.digitChar (m%10)],rfl,u⟩
def cB{n:Int}:num n≠[]:=by unfold num;intro e;exact BE _ (jL.mp e)
def Dc{n:Int}(q:n<10^40):lN (num n)<=40:=by
 unfold num;rw[zV];refine i6 40 n.toNat (by decide) ?_;have s:(10:Int)^40=((10^40:Nat):Int):=by decide
 rw[s]at q;generalize 10^40=N at*;lia
def BG{n:Int}(s:0<=n):n=0\/∃c r,num n=c::r/\c≠48:=by
 by_cases h:n=0
 .exact .inl h
 obtain⟨c,r,e,q⟩:=BF n.toNat (by lia);refine .inr ⟨c.toNat,r.map Char.toNat,?_,q⟩;unfold num;rw[e]
 rfl
def Zb{n:Int}(s:0<=n)(q:n<10^40):wx (Aa (num n))=uQ n:=by have u:=Dc q;have:=intText_digits (x:=Aa (num n)) (G6▸Ru) (G6▸cB) (by rw[Bo];lia);rw[G6]at this;rw[this];obtain⟨m,rfl⟩:=Int.eq_ofNat_of_zero_le s;rw[BD]
def BH{n:Int}(y:0<=n)(u:n<10^40):n.natAbs.log2<1920:=by
 by_cases q:n.natAbs=0
 .rw[q];decide
 rw[Nat.log2_lt q];have s:(10:Int)^40=((10^40:Nat):Int):=by decide
 have x:(10:Nat)^40<2^200:=by decide
 rw[s]at u;have w:n.natAbs<10^40:=by generalize 10^40=N at*;lia
 exact zK (Nat.lt_trans w x) (Nat.pow_le_pow_right (by decide) (by decide))
def Iw{n:Int}(q:0<=n)(s:n<10^40)(G:DH):Ge [.int n] G=.ok (.str (Aa (num n))) G:=by
 have e:Ge [.int n] G=if n.natAbs.log2<1920 then .ok (.str (.ofString (toString n))) G else .bad:=rfl
 rw[e,if_pos (BH q s),BC q]
def i7{c:Nat}{x:Nat}:Txt.startswith (Aa (c::l)) (Aa [x])=decide (c=x):=by
 unfold Txt.startswith;rw[StrLaws.subAt_eq,G6,G6,Bo,Bo];by_cases h:c=x
 .subst h;simp
 simp[h]
noncomputable def number(x cell:Int):Int:=if x%4=0 then 0 else if x%4=1/\2147483647<x then x/4%10^38 else if x%4=1 then cell*(x/4+2)%10^38 else x/4%40
def Qh(d:0<=x):K3 [.int x,.int cell] G=.ok (.int (number x cell)) G:=by
 unfold K3 iA number;rw[Af];by_cases c:x%4=0
 .simp[c,Ah]
 by_cases a:x%4=1
 .by_cases b:2147483647<x
  .simp[a,b,Ah]
  simp[a,b];rw[Vx (by lia) (by lia)];simp[Ah]
 simp[c,a,Ah]
def Km:0<=number x cell:=by
 unfold number;split
 .lia
 split
 .exact q7 _ (by decide)
 split
 .exact q7 _ (by decide)
 lia
noncomputable def WH:Nat->Int->Int->Int->List Int
 |0,_,_,_=>[]
 |n+1,j,num,left=>(if 0<left then left%10^42 else(num*num+48271*j+11)%2147483647)::WH n (j+1) ((num*num+48271*j+11)%2147483647) (left/10^42)
theorem i8:∀{n:Nat}{j num left:Int},lN (WH n j num left)=n
 |0,_,_,_=>rfl
 |n+1,_,_,_=>by simp[WH,i8]
theorem i9:∀{n:Nat}{j num left:Int},∀x∈WH n j num left,0<=x
 |0,_,_,_,x,h=>by cases h
 | n+1,j,num,left,x,h=>by
  simp only[WH,zZ]at h;rcases h with rfl|h
  .split
   .exact q7 _ (by decide)
   exact q7 _ (by decide)
  exact i9 x h
theorem ia{c k m:D}{G:DH}:∀{n:Nat}{j num left:Int}{acc:List Int}{e:Option D},0<=num->num<2147483647->0<=j->lN acc+n<=1000->∃a b d,Bt (gV 6) V8 (Bu j n) [uQ c,uQ k,uQ m,zI num,zI left,zR (lN G),e] (G++[.lst (acc.map D.int)])=
  .nx [uQ c,uQ k,uQ m,a,b,zR (lN G),d] (G++[.lst ((acc++WH n j num left).map D.int)])
 |0,j,num,left,acc,e,l,h,p,q=>⟨zI num,zI left,e,by rw[K1,Gb];simp[WH]⟩
 | n+1,j,num,left,acc,e,l,h,p,q=>by
  obtain⟨a,b,d,o⟩:=ia (c:=c) (k:=k) (m:=m) (G:=G) (n:=n) (j:=j+1) (num:=(num*num+48271*j+11)%2147483647) (left:=left/10^42) (acc:=acc++[if 0<left then left%10^42 else(num*num+48271*j+11)%2147483647]) (e:=zI j) (q7 _ (by decide)) (q0 _ (by decide)) (by lia) (by simp;lia);refine⟨a,b,d,?_⟩;have g:V8 [uQ c,uQ k,uQ m,zI num,zI left,zR (lN G),zI j] (G++[.lst (acc.map D.int)])=
    .nx [uQ c,uQ k,uQ m,zI ((num*num+48271*j+11)%2147483647),zI (left/10^42),zR (lN G),zI j] (G++[.lst ((acc++[if 0<left then left%10^42 else(num*num+48271*j+11)%2147483647]).map D.int)]):=by
   have r:lN acc<1000000:=by lia
   unfold V8
   by_cases f:0<left<;>simp[Nz (i:=num) (by lia) (by lia),Cz,Az,Yx,f,r,Fe]
  rw[Ig,Ey];simp only[Cm,R.Gh,q8,g,Gs,o];simp[WH]
def cC{S:ZB}{n:Nat}{F:Nat->D}(h:∀k:Nat,k<n->te (S.set 0 (zI k)) G=.ok (F k) G):Bc (gV 0) Ay te S (Bu 0 n) G=.ok ((zE n).map F) G:=by
 have e:Bu 0 n=(zE n).map λ(i:Nat)=>D.int (i:Int):=by
  refine List.ext_getElem? λi=>?_
  simp[Bu]
 rw[R4 (F:=λd=>match d with | .int i=>uQ (F i.toNat)|_=>uZ) (λq a=>?_)]
 .congr 1
  rw[e,j3];show(zE n).filterMap (λ(i:Nat)=>uQ (F ((i:Int).toNat)))=_;rw[List.filterMap_eq_map'];simp
 rw[e]at a;obtain⟨i,b,rfl⟩:=z7.mp a;exact⟨S.set 0 (zI i),by simp,.inr ⟨rfl,F i,h i (qT.mp b),by simp⟩⟩
noncomputable def Ew(cell k:Int)(n:Nat):List Int:=WH n 0 ((cell%999999937+2)*(7919*k*k+48271)%2147483647) (if cell<0\/10^18<=cell then max cell (-cell)else 0)
def cD{k:Int}{n:Nat}:lN (Ew cell k n)=n:=i8
def ib{k:Int}{n:Nat}:∀x∈Ew cell k n,0<=x:=λx h=>i9 x h
def BI{k:Int}{n:Nat}(hk:0<=k/\k<100)(o:n<=1000)(G:DH):Jc [.int cell,.int k,.int n] G=.ok (.ref (lN G)) (G++[.lst ((Ew cell k n).map D.int)]):=by
 have f:inR (n:Int):=H9 (by lia) (by lia);have l:0<=7919*k*k:=Int.mul_nonneg (by lia) (by lia);have g:7919*k*k<=791900*100:=Int.le_trans (Int.mul_le_mul_of_nonneg_right (by lia:7919*k<=791900) (by lia)) (Int.mul_le_mul_of_nonneg_left (by lia) (by lia));obtain⟨a,b,d,h⟩:=ia (c:=.int cell) (k:=.int k) (m:=.int n) (G:=G) (n:=n) (j:=0) (num:=(cell%999999937+2)*(7919*k*k+48271)%2147483647) (left:=if cell<0\/10^18<=cell then max cell (-cell)else 0) (acc:=[]) (e:=uZ) (q7 _ (by decide)) (q0 _ (by decide)) (by lia) (by simp;lia)
 unfold Ew Jc hU;rw[Af];simp at h;simp[Nz (i:=7919*k) (by lia) (by lia),Vx (j:=7919*k*k+48271) (by lia) (by lia),sA,sD,sE,ite_int,Dk,f,h]
def Fw{m:Nat}:MA m (xs.map D.int)=uJ:=Hv λ_ _=>rfl
def cE{k:Int}{n:Nat}(hk:0<=k/\k<100)(a:n<=1000)(G:DH):freeze G (Jc [.int cell,.int k,.int n] G)=.ok (.fl ((Ew cell k n).map D.int)) G:=by rw[BI hk a];exact Az Fw
noncomputable def gx(xs:List Int)(i:Nat):Int:=xs.getD i 0
def Ce(h:i<lN xs):LB (xs.map D.int) (i:Int)=zI (gx xs i):=Df rfl (by rw[zD,zX h];simp[gx,zO,h])
def Sd(a:∀x∈xs,0<=x)(i:Nat):0<=gx xs i:=by
 unfold gx;rw[zO];by_cases h:i<lN xs
 .rw[zX h];exact a _ (qV h)
 rw[qj (by lia)];exact xJ _
def Yr{a b:Nat}(d:a<=b)(g:b<=lN xs):cutD (xs.map D.int) (uQ (a:Int)) (uQ (b:Int))=((xs.drop a).take (b-a)).map D.int:=by
 have h:=(Ju (lN (xs.map D.int)) (a:Int)).2;have f:=(Ju (lN (xs.map D.int)) (b:Int)).1;have l:lN (xs.map D.int)=lN xs:=by simp
 have c:HT.NB (lN (xs.map D.int)) 0 (uQ (a:Int))=a:=by lia
 have e:HT.NB (lN (xs.map D.int)) (lN (xs.map D.int)) (uQ (b:Int))=b:=by lia
 unfold cutD;rw[c,e,jM,xX]
def KM(xs:List Int)(big:Int)(p:Bool):Nat->Nat->Int->List JB
 |0,_,_=>[]
 |n+1,j,top=>⟨top+number (gx xs (1+2*j)) big,1+number (gx xs (2+2*j)) big, !(p&&decide (gx xs (2+2*j)/160%2=0))⟩::KM xs big p n (j+1) (top+number (gx xs (1+2*j)) big+(1+number (gx xs (2+2*j)) big))
theorem ic{xs:List Int}{p:Bool}(h:∀x∈xs,0<=x):∀(n j:Nat)(top:Int)(acc:List JB)(a b d e:Option D),2*(j+n)<lN xs->lN acc+n<=1000->∃l g d' k t',Bt (gV 5) X7 (Bu j n) [zF (xs.map D.int),zI big,zB p,zR (lN G),zI top,a,b,d,e] (G++[.lst (acc.map JB.enc)])=
  .nx [zF (xs.map D.int),zI big,zB p,zR (lN G),t',l,g,d',k] (G++[.lst ((acc++KM xs big p n j top).map JB.enc)])
 |0,j,top,acc,a,b,d,e,y,v=>⟨a,b,d,e,zI top,by rw[K1,Gb];simp[KM]⟩
 | n+1,j,top,acc,a,b,d,e,y,v=>by
  have t:=Sd h (1+2*j);have m:=Sd h (2+2*j);have r:LB (xs.map D.int) (1+2*(j:Int))=zI (gx xs (1+2*j)):=by have:=Ce (xs:=xs) (i:=1+2*j) (by lia);rwa[show((1+2*j:Nat):Int)=1+2*(j:Int) by lia]at this
  have o:LB (xs.map D.int) (2+2*(j:Int))=zI (gx xs (2+2*j)):=by have:=Ce (xs:=xs) (i:=2+2*j) (by lia);rwa[show((2+2*j:Nat):Int)=2+2*(j:Int) by lia]at this
  unfold KM;generalize gx xs (1+2*j)=f,gx xs (2+2*j)=c at*;obtain⟨l,g,d',k,t',A⟩:=ic h n (j+1) (top+number f big+(1+number c big)) (acc++[⟨top+number f big,1+number c big, !(p&&decide (c/160%2=0))⟩]) (zI j) (zI (top+number f big)) (zI (1+number c big)) (zS (wy (!(p&&decide (c/160%2=0))))) (by lia) (by simp;lia);refine⟨l,g,d',k,t',?_⟩;have u:X7 [zF (xs.map D.int),zI big,zB p,zR (lN G),zI top,zI j,b,d,e] (G++[.lst (acc.map JB.enc)])=
    .nx [zF (xs.map D.int),zI big,zB p,zR (lN G),zI (top+number f big+(1+number c big)),zI j,zI (top+number f big),zI (1+number c big),zS (wy (!(p&&decide (c/160%2=0))))] (G++[.lst ((acc++[(⟨top+number f big,1+number c big, !(p&&decide (c/160%2=0))⟩:JB)]).map JB.enc)]):=by
   have s:lN acc<1000000:=by lia
   have q:∀G,Bp (.int 2) (.int (j:Int)) G=.ok (.int (2*(j:Int))) G:=λG=>Nz (by lia) (by lia)
   unfold X7;cases p with
   |false=>simp[q,r,o,Qh t,Qh m,Cz,s,Fe,JB.enc,wy]
   |true=>by_cases z:c/160%2=0<;>simp[q,r,o,Qh t,Qh m,Cz,s,Fe,JB.enc,wy,z]
  rw[Ig,Ey];simp only[Cm,R.Gh,q8,u,Gs];have w:((j:Int)+1)=((j+1:Nat):Int):=by lia
  rw[w,A];simp
def BJ{p:Bool}(g:∀x∈xs,0<=x)(k:lN xs=7)(G:DH):W0 [.fl (xs.map D.int),.int big,.bl p] G=.ok (.tup ((KM xs big p (gx xs 0%4).toNat 0 0).map JB.enc)) G:=by have j:LB (xs.map D.int) 0=zI (gx xs 0):=Ce (i:=0) (by lia);obtain⟨n,c⟩:∃n:Nat,gx xs 0%4=n:=⟨(gx xs 0%4).toNat,by lia⟩;obtain⟨a,b,d,e,t,h⟩:=ic (big:=big) (p:=p) (G:=G) g n 0 0 [] uZ uZ uZ uZ (by lia) (by simp;lia);rw[c];unfold W0 iC;rw[Af];have f:inR (n:Int):=H9 (by lia) (by lia);simp at h;simp[j,c,Dk,f,h,Cz,Ik]
def IH(xs:List Int)(big yr:Int)(p:Bool):Nat->Nat->Int->List ND
 |0,_,_=>[]
 |m+1,j,b=>if j=0\/(0<gx xs j%3/\b<yr)then(b,KM ((xs.drop (3+7*j)).take 7) big p (gx ((xs.drop (3+7*j)).take 7) 0%4).toNat 0 0)::IH xs big yr p m (j+1) (b+1+gx xs j/3%9)else IH xs big yr p m (j+1) b
theorem cF{xs:List Int}{big yr:Int}{p:Bool}{G:DH}(t:∀x∈xs,0<=x)(B:lN xs=24):∀(m j:Nat)(b:Int)(acc:List ND)(x:Option D),j+m=3->lN acc+m<=1000->∃o n,Bt (gV 6) Q0 (Bu j m) [zF (xs.map D.int),zI big,zI yr,zB p,zR (lN G),zI b,x] (G++[.lst (acc.map Aj)])=
  .nx [zF (xs.map D.int),zI big,zI yr,zB p,zR (lN G),o,n] (G++[.lst ((acc++IH xs big yr p m j b).map Aj)])
 |0,j,b,acc,x,e,E=>⟨zI b,x,by rw[K1,Gb];simp[IH]⟩
 | m + 1,j,b,acc,x,e,E=>by
  have y:((j:Int)+1)=((j+1:Nat):Int):=by lia
  have g:LB (xs.map D.int) (j:Int)=zI (gx xs j):=Ce (by lia);have k:∀G,Bp (.int 7) (.int (j:Int)) G=.ok (.int (7*(j:Int))) G:=λG=>Nz (by lia) (by lia)
  have l:cutD (xs.map D.int) (uQ (3+7*(j:Int))) (uQ (10+7*(j:Int)))=((xs.drop (3+7*j)).take 7).map D.int:=by have:=Yr (xs:=xs) (a:=3+7*j) (b:=10+7*j) (by lia) (by lia);rwa[show((3+7*j:Nat):Int)=3+7*(j:Int) by lia,show((10+7*j:Nat):Int)=10+7*(j:Int) by lia,show 10+7*j-(3+7*j)=7 by lia]at this
  have cs:=λG=>BJ (xs:=(xs.drop (3+7*j)).take 7) (big:=big) (p:=p) (λx h=>t x (qP (qG h))) (by simp;lia) G
  have f:lN acc<1000000:=by lia
  unfold IH;generalize((xs.drop (3+7*j)).take 7)=r at*;generalize KM r big p (gx r 0%4).toNat 0 0=C at*;have w:∀A:DO,freeze (G++[A]) (.ok (.ref (lN G+1)) (G++[A,.lst (r.map D.int)]))=.ok (.fl (r.map D.int)) (G++[A]):=λA=>Yx Fw
  by_cases i:j=0\/(0<gx xs j%3/\b<yr)
  .rw[if_pos i];obtain⟨o,n,v⟩:=cF (big:=big) (yr:=yr) (p:=p) (G:=G) t B m (j+1) (b+1+gx xs j/3%9) (acc++[(b,C)]) (zI j) (by lia) (by simp;lia);refine⟨o,n,?_⟩;have u:Q0 [zF (xs.map D.int),zI big,zI yr,zB p,zR (lN G),zI b,zI j] (G++[.lst (acc.map Aj)])=
     .nx [zF (xs.map D.int),zI big,zI yr,zB p,zR (lN G),zI (b+1+gx xs j/3%9),zI j] (G++[.lst ((acc++[(b,C)]).map Aj)]):=by
    unfold Q0;rcases i with d|⟨q,s⟩
    .have c:(j:Int)=0:=by lia
     subst d;simp at l k g;simp[k,g,l,w,cs,Cz,f,Fe,Aj]
    by_cases d:j=0
    .subst d;simp at l k g;simp[k,g,l,w,cs,Cz,f,Fe,Aj]
    .have c:¬(j:Int)=0:=by lia
     simp[d,c,q,s,k,g,l,w,cs,Cz,f,Fe,Aj]
   rw[Ig,Ey];simp only[Cm,R.Gh,q8,u,Gs];rw[y,v];simp
  rw[if_neg i];obtain⟨o,n,v⟩:=cF t B m (j+1) b acc (zI j) (by lia) (by lia);refine⟨o,n,?_⟩;have u:Q0 [zF (xs.map D.int),zI big,zI yr,zB p,zR (lN G),zI b,zI j] (G++[.lst (acc.map Aj)])=
    .nx [zF (xs.map D.int),zI big,zI yr,zB p,zR (lN G),zI b,zI j] (G++[.lst (acc.map Aj)]):=by
   have d:¬j=0:=λz=>i (.inl z)
   have c:¬(j:Int)=0:=by lia
   unfold Q0;by_cases q:0<gx xs j%3
   .have s:¬b<yr:=λz=>i (.inr ⟨q,z⟩)
    simp[d,c,g,q,s]
   simp[d,c,g,q]
  rw[Ig,Ey];simp only[Cm,R.Gh,q8,u,Gs];rw[y,v]
def BK{p:Bool}(b:∀x∈xs,0<=x)(c:lN xs=24)(G:DH):Wr [.fl (xs.map D.int),.int big,.int yr,.bl p] G=.ok (.tup ((IH xs big yr p 3 0 0).map Aj)) G:=by obtain⟨d,e,h⟩:=cF (big:=big) (yr:=yr) (p:=p) (G:=G) b c 3 0 0 [] uZ (by lia) (by simp);have a:inR 3:=H9 (by lia) (by lia);unfold Wr iD;rw[Af];simp at h;simp[Dk,a,h,Cz,Ik]
def BL{p:Bool}:∃s r,IH xs big yr p 3 0 0=s::r:=by unfold IH;rw[if_pos (.inl rfl)];exact⟨_,_,rfl⟩
noncomputable def OB(st:List JB):List Int:=(st.filter λs=> !s.r).map JB.m
def BM{b:D}(d:lN st<=1000)(G:DH):Xq [uQ b,zT (st.map JB.enc)] G=.ok (.int (OB st).sum) G:=by
 have j:Bc (Bf 3 (Am (gV 0) (Am (gV 1) (Am (gV 2) Bg)))) Vw W9 [uZ,uZ,uZ] (st.map JB.enc) G=.ok ((OB st).map D.int) G:=by
  clear d
  induction st with
  |nil=>rfl
  | cons s st f=>
   have g:JB.enc s=.tup [.int s.h,.int s.m,.str (wy s.r)]:=rfl;have a:Vw [zI s.h,zI s.m,zS (wy s.r)] G=.ok (!s.r) G:=by
    unfold Vw
    cases s.r<;>simp
   have e:W9 [zI s.h,zI s.m,zS (wy s.r)] G=.ok (.int s.m) G:=by unfold W9;simp
   rw[zJ,Dg,g];cases c:s.r
   .rw[c]at a e;simp[a,e,f,OB,c]
   rw[c]at a;simp[a,f,OB,c]
 have NC:∀S:ZB,Ao 3 [] S=[uZ,uZ,uZ]:=λS=>rfl
 unfold Xq;have i:lN (OB st)<=1000000:=by
  have:lN (OB st)<=lN st:=by unfold OB;rw[zV];exact xV _ _
  lia
 simp[NC,j,i,Az Fw]
theorem Z8{p:Bool}:∀(n j:Nat)(top:Int),lN (KM xs big p n j top)=n
 |0,j,top=>rfl
 |n+1,j,top=>by simp[KM,Z8 n]
theorem Xv{xs:List Int}{big yr:Int}{p:Bool}:∀(m j:Nat)(b:Int),lN (IH xs big yr p m j b)<=m/\∀s∈IH xs big yr p m j b,lN s.2<=1000
 |0,j,b=>⟨zY _,λs h=>by cases h⟩
 | m+1,j,b=>by
  unfold IH;split
  .have a:=Xv (xs:=xs) (big:=big) (yr:=yr) (p:=p) m (j+1) (b+1+gx xs j/3%9);refine⟨by simp[a.1],λs h=>?_⟩;rcases zZ.mp h with rfl|h
   .rw[Z8];lia
   exact a.2 s h
  have a:=Xv (xs:=xs) (big:=big) (yr:=yr) (p:=p) m (j+1) b;exact⟨by lia,a.2⟩
theorem ie{c:Type}{E X Y F:c->D}(d:∀a,E a=.tup [X a,Y a]):∀{l:List c},(∀a∈l,te [uQ (X a),uQ (Y a)] G=.ok (F a) G)->Bc (Bf 2 (Am (gV 0) (Am (gV 1) Bg))) Ay te [uZ,uZ] (l.map E) G=.ok (l.map F) G
 |[],_=>rfl
 |a::l,h=>by rw[zJ,Dg,d];simp[h a (by simp),ie d (l:=l) λb e=>h b (zQ _ e)]
theorem ig:∀(l:List Int)(a:Int),a<=l.foldl max a/\∀x∈l,x<=l.foldl max a
 |[],a=>⟨xJ _,λx h=>nomatch h⟩
 |y::l,a=>by
  obtain⟨d,c⟩:=ig l (max a y);refine⟨?_,λx b=>?_⟩
  .rw[j0];lia
  rw[j0];rcases zZ.mp b with rfl|b
  .lia
  exact c x b
theorem ii{B:Int}:∀(l:List Int)(a:Int),a<=B->(∀x∈l,x<=B)->l.foldl max a<=B
 |[],a,h,_=>h
 |y::l,a,h,b=>by rw[j0];have:=b y z8;exact ii l (max a y) (by lia) λx c=>b x (zQ _ c)
def BN(n:lN r<=1000)(h:∀s∈r,lN s.2<=1000)(d:∃s b,r=s::b):∃v:Int,((∀s∈r,(OB s.2).sum<=v)/\∀B:Int,(∀s∈r,(OB s.2).sum<=B)->v<=B)/\∀G,Xu [.tup (r.map Aj)] G=.ok (.int v) G:=by
 obtain⟨s,b,rfl⟩:=d;refine⟨(b.map λs=>(OB s.2).sum).foldl max (OB s.2).sum,⟨λz c=>?_,λB e=>ii _ _ (e s z8) λx j=>by obtain⟨z,c,rfl⟩:=z7.mp j;exact e z (zQ _ c)⟩,λG=>?_⟩
 .obtain⟨g,f⟩:=ig (b.map λs=>(OB s.2).sum) (OB s.2).sum;rcases zZ.mp c with rfl|c
  .exact g
  exact f _ (z7.mpr ⟨z,c,rfl⟩)
 have m:Bc (Bf 2 (Am (gV 0) (Am (gV 1) Bg))) Ay Xq [uZ,uZ] ((s::b).map Aj) G=.ok (((s::b).map λs=>(OB s.2).sum).map D.int) G:=by rw[qA];exact ie (λ_=>rfl) λa k=>BM (h a k) G
 have i:lN ((s::b).map λs=>(OB s.2).sum)<=1000000:=by rw[zV];lia
 have l:Nu [.fl (((s::b).map λs=>(OB s.2).sum).map D.int)] G=.ok (.int ((b.map λs=>(OB s.2).sum).foldl max (OB s.2).sum)) G:=si (by rw[zJ];rfl);have NC:∀S:ZB,Ao 2 [] S=[uZ,uZ]:=λS=>rfl
 generalize((s::b).map λs=>(OB s.2).sum)=p,(s::b).map Aj=o at*;unfold Xu iB;rw[Af];simp[NC,m,i,Az Fw,l,Ah]
def BO(a:0<=x):∃v:Int,(0<=v/\v<10^39)/\∀G,Rr [.int x] G=.ok (.int v) G:=by
 by_cases h:2147483647<x
 .have m:=λG=>Vx (i:=x/2%100000000000000000000000000000000000000) (j:=x%2) (G:=G) (by lia) (by lia)
  exact⟨x/2%100000000000000000000000000000000000000*(x%2),⟨Int.mul_nonneg (by lia) (by lia),by rcases(by lia:x%2=0\/x%2=1)with z|z<;>rw[z]<;>lia⟩,λG=>by unfold Rr bU;rw[Af];simp[h,m,Ah]⟩
 exact⟨x%50*(x/50%2),⟨Int.mul_nonneg (by lia) (by lia),by rcases(by lia:x/50%2=0\/x/50%2=1)with z|z<;>rw[z]<;>lia⟩,λG=>by unfold Rr bU;rw[Af];simp[h,λG=>Vx (i:=x%50) (j:=x/50%2) (G:=G) (by lia) (by lia),Ah]⟩
noncomputable def Ky:List Nat:=("abcdefghijklmnopqrstuvwxyz":Str).cps.toList
def BP:∀i,i<26->Ky[i]?=uQ (97+i):=by decide +kernel
def BQ:("abcdefghijklmnopqrstuvwxyz":Str).length<=1000000:=by decide +kernel
def Xy{i:Int}(b:0<=i)(a:i<26)(G:DH):Ax (.str ("abcdefghijklmnopqrstuvwxyz":Str)) (.int i) G=.ok (.str (Aa [97+i.toNat])) G:=by
 rw[Lx,if_pos BQ]
 show(match LB Ky i with |some c=>R.ok (sgn c) G|none=>.bad)=_
 rw[Df (k:=i.toNat) (by lia) (BP _ (by lia))]
 rfl
def add_str(h:l.length+l'.length<=1000000)(G:DH):By (.str (Aa l)) (.str (Aa l')) G=.ok (.str (Aa (l++l'))) G:=by
 have e:By (.str (Aa l)) (.str (Aa l')) G=if(Aa l).length+(Aa l').length<=1000000 then .ok (.str (Aa l++Aa l')) G else .bad:=rfl
 rw[e,if_pos (by simpa using h),We]
def Hd(h:lN l<=1000000)(G:DH):Gr (.str (Aa l)) lo hi G=.ok (.str (Aa (cutD l lo hi))) G:=by
 rw[Du,if_pos (by simpa using h)]
 rfl
def BR{c:Nat}(h:lN (c::l)<=1000000)(G:DH):Ax (.str (Aa (c::l))) (.int 0) G=.ok (.str (Aa [c])) G:=by
 rw[Lx,if_pos (by simpa using h)]
 show(match LB (c::l) 0 with |some c=>R.ok (sgn c) G|none=>.bad)=_
 have a:LB (c::l) (0:Int)=uQ c:=Df rfl rfl;rw[a]
 rfl
def Ds{x:Str}(G:DH):freeze G (.ok (.str x) G)=.ok (.str x) G:=Ej rfl
def Ci{m:Nat}{l:List Str}:MA m (l.map D.str)=uJ:=Hv λ_ _=>rfl
theorem YN{f:Type}[DecidableEq f]:∀(zs l:List f),zs.Nodup->lN l<lN zs->∃z,z∈zs/\z∉l
 |[],l,_,h=>by simp at h
 | z::zs,l,i,h=>by
  by_cases b:z∈l
  .have a:=jO.mp i;have k:=List.length_erase_of_mem b;have hp:=List.length_pos_of_mem b;obtain⟨y,g,c⟩:=YN zs (l.erase z) a.2 (by simp[z0]at h;lia);have d:y≠z:=λe=>a.1 (e▸g)
   exact⟨y,zQ _ g,λj=>c ((List.mem_erase_of_ne d).mpr j)⟩
  exact⟨z,by simp,b⟩
def JH:List Str:=Ky.map λc=>Aa [122,c]
def BS:JH.Nodup:=by decide +kernel
def Qi:lN JH=26:=by decide +kernel
def BU:∀z∈JH,z≠"sea":=by decide +kernel
theorem V5:∀l:List Str,Jl (l.map D.str)=uQ (l.map V.str)
 |[]=>rfl
 |a::l=>by
  rw[zJ,Jl,V5 l]
  rfl
theorem Xz(x:Str):∀l:List Str,ML (.str x) (l.map V.str)=decide (x∈l)
 |[]=>by simp[ML]
 |a::l=>by
  show(LJ (.str a) (.str x)||ML (.str x) (l.map V.str))=_;rw[Xz x l];show((a==x)||decide (x∈l))=_;by_cases e:a=x
  .subst e;simp
  have b:¬x=a:=λz=>e z.symm
  simp[e,b]
def BV{x:Str}{l:List Str}(h:G[i]?=uQ (.lst (l.map D.str))):Hk (.str x) (.ref i) G=.ok (.bl (!decide (x∈l))) G:=by
 have c:Be (.ref i) G=uQ (l.map D.str):=by simp[h]
 have a:inD (.str x) (.ref i) G=uQ (decide (x∈l)):=by
  show(match Be (.ref i) G,Li (.str x)with |some d,uQ v=>(Jl d).map λb=>ML v b|_,_=>uZ)=_
  rw[c];show(Jl (l.map D.str)).map (λb=>ML (.str x) b)=_;rw[V5];show uQ (ML _ _)=_;rw[Xz]
 unfold Hk;rw[a]
noncomputable def VT:Nat->Int->List Nat->List Nat
 |0,_,w=>w
 |m+1,rest,w=>VT m (rest/26) (w++[97+(rest%26).toNat])
theorem cG:∀(m:Nat)(rest:Int)(w:List Nat),lN (VT m rest w)=lN w+m
 |0,_,_=>rfl
 |m+1,rest,w=>by unfold VT;rw[cG m];simp;lia
theorem ij{s2 s3 s7:Option D}:∀(m:Nat)(j rest:Int)(w:List Nat)(x:Option D),lN w+m<=1000->∃r y,Bt (gV 6) Ym (Bu j m) [s0,zS ("abcdefghijklmnopqrstuvwxyz":Str),s2,s3,zS (Aa w),zI rest,x,s7] G=.nx [s0,zS ("abcdefghijklmnopqrstuvwxyz":Str),s2,s3,zS (Aa (VT m rest w)),r,y,s7] G
 |0,j,rest,w,x,h=>⟨zI rest,x,by rw[K1,Gb];rfl⟩
 | m+1,j,rest,w,x,h=>by
  obtain⟨r,y,d⟩:=ij m (j+1) (rest/26) (w++[97+(rest%26).toNat]) (zI j) (by simp;lia);refine⟨r,y,?_⟩;have c:Ym [s0,zS ("abcdefghijklmnopqrstuvwxyz":Str),s2,s3,zS (Aa w),zI rest,zI j,s7] G=.nx [s0,zS ("abcdefghijklmnopqrstuvwxyz":Str),s2,s3,zS (Aa (w++[97+(rest%26).toNat])),zI (rest/26),zI j,s7] G:=by
   have a:=λG=>Xy (i:=rest%26) (by lia) (by lia) G
   have b:=λG=>add_str (l:=w) (l':=[97+(rest%26).toNat]) (by simp;lia) G
   generalize Aa [97+(rest%26).toNat]=z at a b;generalize("abcdefghijklmnopqrstuvwxyz":Str)=e at a;unfold Ym;simp[-Lx,-Dt,a,b]
  rw[Ig,Ey];simp[Cm,R.Gh,q8,c,Gs];exact d
theorem BW(G:DH):Bc (gV 0) Ay Vo [uZ] (Ky.map sgn) G=.ok (JH.map D.str) G:=by
 unfold JH;rw[qA];generalize Ky=l
 induction l with
 |nil=>rfl
 | cons c l d=>
  have e:Vo [uQ (sgn c)] G=.ok (.str (Aa [122,c])) G:=by
   have a:=add_str (l:=[122]) (l':=[c]) (by simp) G;have b:Aa [122]=("z":Str):=by decide +kernel
   rw[b]at a;have f:sgn c=.str (Aa [c]):=rfl;unfold Vo;rw[f];simp[-Dt,a]
  rw[zJ,Dg];simp[e,d]
theorem ik{names:List Str}(d:G[i]?=uQ (.lst (names.map D.str))):∀l:List Str,Bc (gV 0) Wo Vc [uZ,zR i] (l.map D.str) G=.ok ((l.filter λx=>decide (x∉names)&&decide (x≠"sea")).map D.str) G
 |[]=>rfl
 | a::l=>by
  have b:=BV (x:=a) d;have g:Wo [zS a,zR i] G=.ok (decide (a∉names)&&decide (a≠"sea")) G:=by
   unfold Wo;by_cases h:a∈names
   .simp[b,h]
   by_cases c:a="sea"
   .have e:(a="sea")=True:=by simp[c]
    simp[b,h,e]
   simp[b,h,c]
  have f:Vc [zS a,zR i] G=.ok (.str a) G:=by unfold Vc;simp
  rw[zJ,Dg];simp only[Cm,R.Es,q8,g,f,ik d l];rw[xW]
  cases(decide (a∉names)&&decide (a≠"sea"))<;>simp
def LL(l:List Nat):Prop:=1<=lN l/\lN l<=8/\∀c∈l,97<=c/\c<123
def Wd(z:Str):Prop:=∃l:List Nat,z=Aa l/\LL l
theorem il:∀(m:Nat)(rest:Int)(w:List Nat),(∀c∈w,97<=c/\c<123)->∀c∈VT m rest w,97<=c/\c<123
 |0,_,_,h=>h
 | m+1,rest,w,h=>by
  unfold VT;exact il m _ _ λc a=>by
   rcases zG.mp a with a|a
   .exact h c a
   rw[qJ.mp a];lia
def BX:∀c∈Ky,97<=c/\c<123:=by decide +kernel
def BY:∀z∈JH,Wd z:=λz b=>by
 obtain⟨c,d,rfl⟩:=z7.mp b;refine⟨[122,c],rfl,by simp,by simp,λx a=>?_⟩;rcases zZ.mp a with rfl|a
 .lia
 rw[qJ.mp a];exact BX c d
def BZ{names:List Str}(hx:0<=x)(W:lN names<26):∃nm:Str,(nm∉names/\nm≠"sea"/\Wd nm)/\∀(G:DH)(s0 x4 x5 x6 x7:Option D),∃X Y E P,
  Xo [s0,zS ("abcdefghijklmnopqrstuvwxyz":Str),zR (lN G),zI x,x4,x5,x6,x7] (G++[.lst (names.map D.str)])=
   .nx [s0,zS ("abcdefghijklmnopqrstuvwxyz":Str),zR (lN G),zI x,X,Y,E,P] (G++[.lst ((names++[nm]).map D.str)]):=by
 obtain⟨m,hm⟩:∃m:Nat,1+x%8=m:=⟨(1+x%8).toNat,by lia⟩;obtain⟨w,K⟩:∃w:Str,Aa (VT m (x/8) [])=w:=⟨_,rfl⟩;obtain⟨z,M,H⟩:=YN JH names BS (Qi▸W);have A:∃a r,((w::JH).filter λx=>decide (x∉names)&&decide (x≠"sea"))=a::r:=by
  have:z∈((w::JH).filter λx=>decide (x∉names)&&decide (x≠"sea")):=jN.mpr ⟨zQ _ M,by simp[H,BU z M]⟩;cases e:((w::JH).filter λx=>decide (x∉names)&&decide (x≠"sea"))with
  |nil=>rw[e]at this;cases this
  |cons a r=>exact⟨a,r,rfl⟩
 obtain⟨a,r,j⟩:=A;have T:a∉names/\a≠"sea"/\Wd a:=by
  have t:a∈((w::JH).filter λx=>decide (x∉names)&&decide (x≠"sea")):=j▸z8;have N:a∉names/\a≠"sea":=by simpa using(jN.mp t).2
  refine⟨N.1,N.2,?_⟩;rcases zZ.mp (jN.mp t).1 with I|I
  .rw[I,<-K];refine⟨_,rfl,?_,?_,il m _ [] (nofun)⟩
   .rw[cG];simp;lia
   rw[cG];simp;lia
  exact BY a I
 refine⟨a,T,λG s0 x4 x5 x6 x7=>?_⟩;obtain⟨U,E,hw⟩:=ij (s0:=s0) (s2:=zR (lN G)) (s3:=zI x) (s7:=x7) (G:=G++[.lst (names.map D.str)]) m 0 (x/8) [] x6 (by simp;lia);refine⟨zS w,U,E,zF ((w::JH).map D.str),?_⟩;have v:=λG=>BW G
 have hk:=ik (G:=G++[.lst (names.map D.str)]) (by rw[Cz];rfl) (w::JH);rw[j]at hk;have s:Gd (.str ("abcdefghijklmnopqrstuvwxyz":Str)) (G++[DO.lst (names.map D.str)])=.ok (.pure (Ky.map sgn)) (G++[DO.lst (names.map D.str)]):=rfl;have u:lN (JH.map D.str)<=1000000:=by rw[zV,Qi];decide
 have q:1+lN (JH.map D.str)<=1000000:=by rw[zV,Qi];decide
 have J:lN JH<=999999:=by rw[Qi];decide
 have L:lN JH<=1000000:=by rw[Qi];decide
 have Q:Aa []=("":Str):=by decide +kernel
 have i:∀B:List Str,freeze (G++[.lst (names.map D.str)]) (.ok (.ref (lN G+1)) (G++[.lst (names.map D.str),.lst (B.map D.str)]))=.ok (.fl (B.map D.str)) (G++[.lst (names.map D.str)]):=λB=>Yx Ci
 have p:=i [w];have y:=i JH;have o:=i (w::JH);have n:=i (a::r);have F:lN r<=1000000/\lN r<=999999:=by
  have t:lN (a::r)<=lN (w::JH):=by rw[<-j];exact xV _ _
  simp[z0,Qi]at t;lia
 have C:lN names<1000000:=by lia
 have O:inR (m:Int):=H9 (by lia) (by lia);rw[Q,K]at hw;have l:∀S:ZB,Ao 1 [] S=[uZ]:=λS=>rfl
 have k:∀(a b c d e f g h:Option D),Ao 1 [2] [a,b,c,d,e,f,g,h]=[uZ,c]:=λ_ _ _ _ _ _ _ _=>rfl
 simp[zJ,qZ]at p o n hk⊢;generalize JH.map D.str=Z,("abcdefghijklmnopqrstuvwxyz":Str)=AB,Ky.map sgn=LS at*;unfold Xo;simp[-O6,hm,O,hw,s,l,v,p,u,y,o,k,hk,F,n,Cz,Fe,C,q]
def B1{l:List Str}{a:Str}(h:l.Nodup)(c:a∉l):(l++[a]).Nodup:=by rw[List.nodup_append];refine⟨h,by simp,λx d y b e=>?_⟩;rw[qJ.mp b]at e;exact c (e▸d)
theorem io:∀(xs:List Int)(acc:List Str),(∀x∈xs,0<=x)->lN acc+lN xs<26->∃nm:List Str,lN nm=lN xs/\(acc.Nodup->(acc++nm).Nodup)/\(∀z∈nm,z≠"sea"/\Wd z)/\∀(G:DH)(s0 x3 x4 x5 x6 x7:Option D),∃i d e f c,
  Bt (gV 3) Xo (xs.map D.int) [s0,zS ("abcdefghijklmnopqrstuvwxyz":Str),zR (lN G),x3,x4,x5,x6,x7] (G++[.lst (acc.map D.str)])=
   .nx [s0,zS ("abcdefghijklmnopqrstuvwxyz":Str),zR (lN G),i,d,e,f,c] (G++[.lst ((acc++nm).map D.str)])
 |[],acc,_,_=>⟨[],rfl,(λh=>by rw[qY];exact h),(nofun),λG s0 x3 x4 x5 x6 x7=>⟨x3,x4,x5,x6,x7,by rw[qZ,Gb,qY]⟩⟩
 | x::xs,acc,j,p=>by
  simp[z0]at p;obtain⟨a,b,m⟩:=BZ (names:=acc) (j x (by simp)) (by lia);obtain⟨nm,o,r,v,A⟩:=io xs (acc++[a]) (λy s=>j y (zQ _ s)) (by simp;lia);refine⟨a::nm,by simp[o],λh=>?_,λz g=>?_,λG s0 x3 x4 x5 x6 x7=>?_⟩
  .have t:=r (B1 h b.1);rwa[qW]at t
  .rcases zZ.mp g with rfl|g
   .exact b.2
   exact v z g
  obtain⟨l,k,u,n,q⟩:=m G s0 x4 x5 x6 x7;obtain⟨i,d,e,f,c,w⟩:=A G s0 (zI x) l k u n;refine⟨i,d,e,f,c,?_⟩;rw[zJ,Ey];simp only[Cm,R.Gh,q8,q,Gs];rw[w,qW]
  rfl
def B2(c:∀x∈xs,0<=x)(e:lN xs<26):∃nm:List Str,lN nm=lN xs/\nm.Nodup/\(∀z∈nm,z≠"sea"/\Wd z)/\∀G,Uw [.fl (xs.map D.int)] G=.ok (.ref (lN G)) (G++[.lst (nm.map D.str)]):=by obtain⟨nm,d,b,f,h⟩:=io xs [] c (by simpa using e);refine⟨nm,d,b List.nodup_nil,f,λG=>?_⟩;obtain⟨k,m,g,i,j,a⟩:=h G (zF (xs.map D.int)) uZ uZ uZ uZ uZ;simp[qZ,j9]at a;unfold Uw hP;rw[Af];generalize("abcdefghijklmnopqrstuvwxyz":Str)=l at*;simp[Ai,Dk,a,Dk (G:=G) (ds:=nm.map D.str) (L:=[]) Ci]
def VI(l:List Nat):Str:=if Aa l="sea" then "seat" else Aa l
def KQ(xs:List Int)(w:List Nat)(sz a:Nat)(k:Nat):List Nat:=cutD w uZ (uQ (a:Int))++[97+((gx xs 10+5*(k:Int))%26).toNat]++cutD w (uQ (a:Int)) (uQ (sz:Int))
theorem ip(n:lN xs=24){w:List Nat}(hw:lN w<=1000){sz a:Nat}{s4 s5:Option D}:∀(m k:Nat)(acc:List Str)(x7 x8 NX:Option D),k+m<=12->lN acc+m<=1000->∃g o b,
  Bt (gV 7) Ri (Bu k m) [s0,zS ("abcdefghijklmnopqrstuvwxyz":Str),zF (xs.map D.int),zS (Aa w),s4,s5,zR (lN G),x7,x8,zI sz,zI a,NX] (G++[.lst (acc.map D.str)])=
   .nx [s0,zS ("abcdefghijklmnopqrstuvwxyz":Str),zF (xs.map D.int),zS (Aa w),s4,s5,zR (lN G),g,o,zI sz,zI a,b] (G++[.lst ((acc++(qD k m).map λk=>VI (KQ xs w sz a k)).map D.str)])
 |0,k,acc,x7,x8,NX,e,h=>⟨x7,x8,NX,by rw[K1,Gb];simp⟩
 | m+1,k,acc,x7,x8,NX,e,h=>by
  obtain⟨g,o,b,C⟩:=ip n hw m (k+1) (acc++[VI (KQ xs w sz a k)]) (zI k) (zS (VI (KQ xs w sz a k))) (zS (Aa [97+((gx xs 10+5*(k:Int))%26).toNat])) (by lia) (by simp;lia);refine⟨g,o,b,?_⟩;have d:LB (xs.map D.int) 10=zI (gx xs 10):=Ce (i:=10) (by lia);have u:∀G,Bp (.int 5) (.int (k:Int)) G=.ok (.int (5*(k:Int))) G:=λG=>Nz (by lia) (by lia)
  have f:=λG=>Xy (i:=(gx xs 10+5*(k:Int))%26) (by lia) (by lia) G
  have H:=Zz w uZ (uQ (a:Int));have E:=Zz w (uQ (a:Int)) (uQ (sz:Int));have q:=λG=>Hd (l:=w) (lo:=uZ) (hi:=uQ (a:Int)) (by lia) G
  have s:=λG=>Hd (l:=w) (lo:=uQ (a:Int)) (hi:=uQ (sz:Int)) (by lia) G
  have t:=λG=>add_str (l:=cutD w uZ (uQ (a:Int))) (l':=[97+((gx xs 10+5*(k:Int))%26).toNat]) (by simp;lia) G
  have p:=λG=>add_str (l:=cutD w uZ (uQ (a:Int))++[97+((gx xs 10+5*(k:Int))%26).toNat]) (l':=cutD w (uQ (a:Int)) (uQ (sz:Int))) (by simp;lia) G
  have A:Ri [s0,zS ("abcdefghijklmnopqrstuvwxyz":Str),zF (xs.map D.int),zS (Aa w),s4,s5,zR (lN G),zI k,x8,zI sz,zI a,NX] (G++[.lst (acc.map D.str)])=
    .nx [s0,zS ("abcdefghijklmnopqrstuvwxyz":Str),zF (xs.map D.int),zS (Aa w),s4,s5,zR (lN G),zI k,zS (VI (KQ xs w sz a k)),zI sz,zI a,zS (Aa [97+((gx xs 10+5*(k:Int))%26).toNat])] (G++[.lst ((acc++[VI (KQ xs w sz a k)]).map D.str)]):=by
   have c:lN acc<1000000:=by lia
   unfold KQ VI;generalize Aa (cutD w uZ (uQ (a:Int))++[97+((gx xs 10+5*(k:Int))%26).toNat]++cutD w (uQ (a:Int)) (uQ (sz:Int)))=nm,Aa (cutD w uZ (uQ (a:Int))++[97+((gx xs 10+5*(k:Int))%26).toNat])=y,Aa (cutD w uZ (uQ (a:Int)))=x,Aa [97+((gx xs 10+5*(k:Int))%26).toNat]=z,Aa (cutD w (uQ (a:Int)) (uQ (sz:Int)))=B,Aa w=W,("abcdefghijklmnopqrstuvwxyz":Str)=F at*
   unfold Ri;by_cases r:nm="sea"
   .have j:(nm="sea")=True:=by simp[r]
    simp[-Lx,-Dt,-Du,d,u,f,q,s,t,p,Ds,Cz,Fe,c,j]
   simp[-Lx,-Dt,-Du,d,u,f,q,s,t,p,Ds,Cz,Fe,c,r]
  rw[Ig,Ey];simp only[Cm,R.Gh,q8,A,Gs];have v:((k:Int)+1)=((k+1:Nat):Int):=by lia
  rw[v,C,List.range'_succ,zJ,qW]
  rfl
noncomputable def ZD(xs:List Int):List Nat:=(xs.take 8).map λx=>97+(x%26).toNat
theorem B3(l:List Int)(G:DH):Bc (gV 0) Ay Yk [uZ,zS ("abcdefghijklmnopqrstuvwxyz":Str)] (l.map D.int) G=.ok ((l.map λx=>97+(x%26).toNat).map sgn) G:=by
 induction l with
 |nil=>rfl
 |cons x l a=>
  have d:=Xy (i:=x%26) (by lia) (by lia) G;have b:Yk [zI x,zS ("abcdefghijklmnopqrstuvwxyz":Str)] G=.ok (sgn (97+(x%26).toNat)) G:=by have c:sgn (97+(x%26).toNat)=.str (Aa [97+(x%26).toNat]):=rfl;rw[c];generalize("abcdefghijklmnopqrstuvwxyz":Str)=e at*;unfold Yk;simp[-Lx,d]
  rw[zJ,Dg];simp[-Lx,b,a]
def B4{cs:List Nat}(h:cs.length<=1000)(G:DH):Cu (.str ("":Str)) [.fl (cs.map sgn)] G=.ok (.str (Aa cs)) G:=by
 have b:=fX (ys:=cs.map λc=>(⟨#[c]⟩:Str)) (G:=G) (by
  have e:("":Str).length=0:=by decide +kernel
  rw[e]
  have:∀l:List Nat,((l.map λc=>(⟨#[c]⟩:Str)).map (·.length)).sum=l.length:=λl=>by
   induction l with
   |nil=>rfl
   |cons a l d=>
    simp only[zJ,jA,d,z0];show 1+l.length=_;lia
  rw[this];lia)
 rw[sS,qA]at b;exact b
def Kt{p:Nat}{xs ys:List D}(h:G[p]?=uQ (.lst xs))(a:lN xs+lN ys<=1000000):By (.ref p) (.fl ys) G=.ok (.ref (lN G)) (G++[.lst (xs++ys)]):=by simp[By,Ij,h,a]
def slR{p:Nat}{xs:List D}(h:G[p]?=uQ (.lst xs)):Gr (.ref p) lo hi G=.ok (.ref (lN G)) (G++[.lst (cutD xs lo hi)]):=by simp[Gr,Ij,h]
noncomputable def TC(x:Str):Str:=if x="sea" then "sa" else x
structure WI (nm:List Str):Prop where
 nd:nm.Nodup
 VY:∀z∈nm,z≠"sea"
 wd:∀z∈nm,Wd z
def Hx(h:Aa l=Aa l'):l=l':=by have a:l.toArray=l'.toArray:=congrArg Str.cps h;simpa using a
def Q8:("sea":Str)=Aa [115,101,97]:=by decide +kernel
def cH:("sa":Str)=Aa [115,97]:=by decide +kernel
def cJ:("seat":Str)=Aa [115,101,97,116]:=by decide +kernel
def B5(h:TC (Aa l)=TC (Aa l'))(hp:∀a b,l=[115,a,b]->l'≠[115,97]\/a=97)(d:∀a b,l'=[115,a,b]->l≠[115,97]\/a=97):l=l':=by
 unfold TC at h;split at h
 .rename_i f;rw[Q8]at f;have e:=Hx f;split at h
  .rename_i c;rw[Q8]at c;rw[e,Hx c]
  rw[cH]at h;have g:=Hx h;rcases hp _ _ e with z|z
  .exact absurd g.symm z
  cases z
 split at h
 .rename_i c;rw[Q8]at c;rw[cH]at h;rcases d _ _ (Hx c)with z|z
  .exact absurd (Hx h) z
  cases z
 exact Hx h
def B6(x:Str):TC x≠"sea":=by
 unfold TC;split
 .decide +kernel
 assumption
def B7{nm:List Str}(h:WI nm)(r:Nat):WI (nm.drop r++nm.take r):=by
 have p:List.Perm (nm.drop r++nm.take r) nm:=by have:=List.perm_append_comm (l₁:=nm.drop r) (l₂:=nm.take r);rwa[jC]at this
 exact⟨p.nodup_iff.mpr h.nd,λz a=>h.VY z (p.mem_iff.mp a),λz a=>h.wd z (p.mem_iff.mp a)⟩
def iq{c:Type}{l:List c}(h:∀i j(hi:i<lN l)(a:j<lN l),l[i]=l[j]->i=j):l.Nodup:=by rw[List.nodup_iff_pairwise_ne,List.pairwise_iff_getElem];intro i j hi a b e;have:=h i j hi a e;lia
def B8{b:Type}{l:List b}(h:l.Nodup)(hi:i<lN l)(a:j<lN l)(e:l[i]=l[j]):i=j:=by
 rw[List.nodup_iff_pairwise_ne,List.pairwise_iff_getElem]at h;rcases jj i j with z|z|z
 .exact absurd e (h i j hi a z)
 .exact z
 exact absurd e.symm (h j i a hi z)
theorem ir{x a:Nat}{w r:List Nat}:∀{m:Nat},(x::w).take m=a::r->x=a
 |0,h=>by cases h
 |m+1,h=>by rw[jI]at h;exact(cj h).1
def iu(h:LL l):Wd (TC (Aa l)):=by
 unfold TC;split
 .exact⟨[115,97],cH,by simp,by simp,by decide⟩
 exact⟨l,rfl,h⟩
def B9(h:LL l):Wd (VI l):=by
 unfold VI;split
 .exact⟨[115,101,97,116],cJ,by simp,by simp,by decide⟩
 exact⟨l,rfl,h⟩
def iw{c:Nat}{w:List Nat}(b:97<=c/\c<123)(hw:∀x∈w,97<=x/\x<123)(hk:k<8):LL ((c::w).take (k+1)):=by
 refine⟨?_,?_,λx a=>?_⟩
 .rw[qH,z0];lia
 .rw[qH];lia
 rcases zZ.mp (qG a)with rfl|a
 .exact b
 exact hw x a
def Bz{c d:Nat}{w:List Nat}(hw:lN w=7)(m:c≠d)(o:97<=c/\c<123)(r:97<=d/\d<123)(l:∀x∈w,97<=x/\x<123):WI ((((zE 8).map λk=>Aa ((c::w).take (k+1)))++(zE 4).map λk=>Aa ((d::w).take (k+1))).map TC):=by
 refine⟨iq λi j E B e=>?_,λz t=>?_,λz t=>?_⟩
 .clear o r l;simp[zV,zC,List.length_range]at E B;have g:∀i(h:i<lN ((((zE 8).map λk=>Aa ((c::w).take (k+1)))++(zE 4).map λk=>Aa ((d::w).take (k+1))).map TC)),
    ((((zE 8).map λk=>Aa ((c::w).take (k+1)))++(zE 4).map λk=>Aa ((d::w).take (k+1))).map TC)[i]=TC (Aa (if i<8 then c::w.take i else d::w.take (i-8))):=λi h=>by
   rw[List.getElem_map];by_cases s:i<8
   .rw[List.getElem_append_left (by simpa using s),if_pos s];simp
   rw[List.getElem_append_right (by simp;lia),if_neg s];simp
  rw[g,g]at e;have f:=B5 e ?_ ?_
  .split at f<;>split at f
   .have:=congrArg zU (cj f).2;simp at this;lia
   .exact absurd (cj f).1 m
   .exact absurd (cj f).1.symm m
   have:=congrArg zU (cj f).2;simp at this;lia
  all_goals
   intro a b A;cases w with
   |nil=>cases hw
   |cons x w=>
    refine Classical.or_iff_not_imp_right.mpr λC y=>?_
    have f:∀p q:Nat,(if p<8 then c::(x::w).take p else d::(x::w).take (p-8))=[115,a,b]->(if q<8 then c::(x::w).take q else d::(x::w).take (q-8))=[115,97]->False:=λp q v u=>by split at v<;>split at u<;>exact C ((ir (cj v).2).symm.trans (ir (cj u).2))
    exact f _ _ A y
 .obtain⟨x,_,rfl⟩:=z7.mp t;exact B6 x
 obtain⟨x,n,rfl⟩:=z7.mp t;rcases zG.mp n with n|n
 .obtain⟨k,hk,rfl⟩:=z7.mp n;have:=qT.mp hk;exact iu (iw o l this)
 .obtain⟨k,hk,rfl⟩:=z7.mp n;have:=qT.mp hk;exact iu (iw r l (by lia))
def CA(b:lN l=lN l')(h:VI l=VI l'):l=l':=by
 unfold VI at h;split at h
 .rename_i c;rw[Q8]at c;have e:=Hx c;split at h
  .rename_i a;rw[Q8]at a;rw[e,Hx a]
  rw[cJ]at h;rw[e,<-Hx h]at b;cases b
 split at h
 .rename_i a;rw[Q8]at a;rw[cJ]at h;rw[Hx a,Hx h]at b;cases b
 exact Hx h
def CB(l:List Nat):VI l≠"sea":=by
 unfold VI;split
 .decide +kernel
 assumption
def CC{X Y:List Nat}{g:Int}(h:lN X+lN Y<=7)(c:∀x∈X,97<=x/\x<123)(d:∀x∈Y,97<=x/\x<123):WI ((qD 0 12).map λk:Nat=>VI (X++[97+((g+5*(k:Int))%26).toNat]++Y)):=by
 refine⟨iq λi j m f e=>?_,λz b=>?_,λz b=>?_⟩
 .clear h c d;simp[zV,List.length_range']at m f;simp only[List.getElem_map,List.getElem_range',Nat.zero_add,Nat.one_mul]at e;have l:=List.append_cancel_right (CA (by simp) e);have n:=(cj (List.append_cancel_left l)).1;omega +splitNatSub
 .obtain⟨x,_,rfl⟩:=z7.mp b;exact CB _
 obtain⟨x,_,rfl⟩:=z7.mp b;refine B9 ⟨by simp;lia,by simp;lia,λy a=>?_⟩;rcases zG.mp a with a|a
 .rcases zG.mp a with a|a
  .exact c y a
  .rw[qJ.mp a];lia
 exact d y a
def CD:∀i,i<26->Txt.find ("abcdefghijklmnopqrstuvwxyz":Str) (Aa [97+i])=(i:Int):=by decide +kernel
def CF{p:Nat}{l:List Str}(h:G[p]?=uQ (.lst (l.map D.str))):Gj p (gV 0) Ay Yp [uZ] (lN l) 0 G=.ok ((l.map TC).map D.str) G:=by
 have b:=sR (g:=gV 0) (c:=Ay) (te:=Yp) (S:=[uZ]) (F:=λd=>match d with
  |.str x=>zS (TC x)
  | _=>uZ) h (λx i=>by
   obtain⟨y,_,rfl⟩:=z7.mp i;refine⟨[zS y],rfl,.inr ⟨rfl,.str (TC y),?_,rfl⟩⟩;have e:freeze G (.ok (.ref (lN G)) (G++[.lst [.str y,.str "sa"]]))=.ok (.fl [.str y,.str "sa"]) G:=Az rfl;unfold Yp TC;by_cases f:y="sea"
   .have a:(y="sea")=True:=by simp[f]
    simp[e,a]
   simp[e,f])
 rw[zV]at b;rw[b,j3,qA]
 congr 1
 show List.filterMap (λx=>uQ ((D.str∘TC) x)) l=_;rw[List.filterMap_eq_map']
def CG{w:List Nat}(hw:lN w<=1000)(n:Nat)(G:DH):Bc (gV 0) Ay bS [uZ,zS (Aa w)] (Bu 0 n) G=.ok (((zE n).map λk:Nat=>Aa (cutD w uZ (uQ ((k:Int)+1)))).map D.str) G:=by
 rw[qA];exact cC λk _=>by unfold bS;simp[-Du,Hd (l:=w) (lo:=uZ) (hi:=uQ ((k:Int)+1)) (by lia) G,Ds]
def CH{w:List Nat}(hw:lN w<=1000)(n:Nat)(G:DH):Bc (gV 0) Ay bT [uZ,zS (Aa w)] (Bu 0 n) G=.ok (((zE n).map λk:Nat=>Aa (cutD w uZ (uQ ((k:Int)+1)))).map D.str) G:=by
 rw[qA];exact cC λk _=>by unfold bT;simp[-Du,Hd (l:=w) (lo:=uZ) (hi:=uQ ((k:Int)+1)) (by lia) G,Ds]
def V4{a:Type}{xs:List a}{x:a}(h:x∈cutD xs lo hi):x∈xs:=by unfold cutD at h;exact qP (qG h)
def CI{c:Type}{xs:List c}{a b:Nat}(e:a<=b)(h:b<=lN xs):cutD xs (uQ (a:Int)) (uQ (b:Int))=(xs.drop a).take (b-a):=by
 have i:=(Ju (lN xs) (a:Int)).2;have g:=(Ju (lN xs) (b:Int)).1;have d:HT.NB (lN xs) 0 (uQ (a:Int))=a:=by lia
 have f:HT.NB (lN xs) (lN xs) (uQ (b:Int))=b:=by lia
 unfold cutD;rw[d,f]
def CJ(WY:lN xs=24)(z:∀x∈xs,0<=x){c:Nat}{w:List Nat}(f:lN w=7)(N:97<=c/\c<123)(n:∀x∈w,97<=x/\x<123):∃nm:List Str,lN nm=12/\WI nm/\∀(G:DH)(s0:Option D),∃k L,
  Ss [s0,zS ("abcdefghijklmnopqrstuvwxyz":Str),zF (xs.map D.int),zS (Aa (c::w)),uZ,uZ,uZ,uZ,uZ,uZ,uZ,uZ] G=.rt (.ref (lN G+k)) (G++L)/\L[k]?=uQ (.lst (nm.map D.str)):=by
 have hw:lN (c::w)<=100:=by simp[f]
 have a8:LB (xs.map D.int) 8=zI (gx xs 8):=Ce (i:=8) (by lia);have a9:LB (xs.map D.int) 9=zI (gx xs 9):=Ce (i:=9) (by lia);have OW:LB (xs.map D.int) 10=zI (gx xs 10):=Ce (i:=10) (by lia);by_cases h8:gx xs 8%3=0
 .obtain⟨t,et⟩:∃t:Int,(Txt.find ("abcdefghijklmnopqrstuvwxyz":Str) (Aa [c])+1+gx xs 9%25)%26=t:=⟨_,rfl⟩;have ht:0<=t/\t<26:=by lia
  let o:List Nat:=[97+t.toNat]++cutD (c::w) (uQ 1) uZ;obtain⟨r,hr⟩:∃r:Nat,gx xs 10%12=r:=⟨(gx xs 10%12).toNat,by lia⟩;obtain⟨A,hA⟩:∃A:List Str,((zE 8).map λk:Nat=>Aa (cutD (c::w) uZ (uQ ((k:Int)+1))))=A:=⟨_,rfl⟩;obtain⟨B,I⟩:∃B:List Str,((zE 4).map λk:Nat=>Aa (cutD o uZ (uQ ((k:Int)+1))))=B:=⟨_,rfl⟩;have lA:lN A=8:=by rw[<-hA];simp
  have lB:lN B=4:=by rw[<-I];simp
  have eA:A=(zE 8).map λk=>Aa ((c::w).take (k+1)):=by
   rw[<-hA];refine j2 λk hk=>?_
   have hk':=qT.mp hk;have e:(k:Int)+1=((k+1:Nat):Int):=by lia
   rw[e,Jj (by simp[f];lia)]
  have eo:o=(97+t.toNat)::w:=by
   show[97+t.toNat]++cutD (c::w) (uQ 1) uZ=_;have e:cutD (c::w) (uQ ((1:Nat):Int)) uZ=(c::w).drop 1:=Jv (by simp);have e':cutD (c::w) (uQ 1) uZ=w:=e;rw[e']
   rfl
  have eB:B=(zE 4).map λk=>Aa (((97+t.toNat)::w).take (k+1)):=by
   rw[<-I,eo];refine j2 λk hk=>?_
   have hk':=qT.mp hk;have e:(k:Int)+1=((k+1:Nat):Int):=by lia
   rw[e,Jj (by simp[f];lia)]
  have F:c≠97+t.toNat:=by have hf:=CD (c-97) (by lia);rw[show 97+(c-97)=c by lia]at hf;rw[hf]at et;lia
  have SA:WI (((A++B).map TC).drop r++((A++B).map TC).take r):=B7 (by rw[eA,eB];exact Bz f F N (by lia) n) r;refine⟨((A++B).map TC).drop r++((A++B).map TC).take r,by simp[lA,lB];lia,SA,λG s0=>?_⟩;have l1:=Zz (c::w) (uQ 1) uZ;have c1:=λG=>CG (w:=c::w) (by lia) 8 G
  have c2:=λG=>CH (w:=o) (by simp[o];lia) 4 G
  rw[hA]at c1;rw[I]at c2;have q:=λG=>Xy (i:=t) ht.1 ht.2 G
  have h0:=λG=>BR (c:=c) (l:=w) (by lia) G
  have h1:=λG=>Hd (l:=c::w) (lo:=uQ 1) (hi:=uZ) (by lia) G
  have E:=λG=>add_str (l:=[97+t.toNat]) (l':=cutD (c::w) (uQ 1) uZ) (by simp;lia) G
  have e2:Aa ([97+t.toNat]++cutD (c::w) (uQ 1) uZ)=Aa o:=rfl;rw[e2]at E
  clear_value o
  have r8:inR 8:=H9 (by lia) (by lia);have r4:inR 4:=H9 (by lia) (by lia);have Y:lN (A.map D.str)<=1000000:=by simp[lA]
  have J:lN (B.map D.str)<=1000000:=by simp[lB]
  have K:A.map D.str++B.map D.str=(A++B).map D.str:=by simp
  have ad:=Kt (p:=lN G) (xs:=A.map D.str) (ys:=B.map D.str) (G:=G++[.lst (A.map D.str)]) (by rw[Cz];rfl) (by simp[lA,lB]);rw[K]at ad;have U:freeze (G++[.lst (A.map D.str)]) (.ok (.ref (lN G+1)) (G++[.lst (A.map D.str),.lst (B.map D.str)]))=.ok (.fl (B.map D.str)) (G++[.lst (A.map D.str)]):=Yx Ci;have X:tidy (G++[.lst (A.map D.str)]) (.ok (.ref (lN G+1)) (G++[.lst (A.map D.str),.lst ((A++B).map D.str)]))=.ok (.ref (lN G+1)) (G++[.lst (A.map D.str),.lst ((A++B).map D.str)]):=A9 Ci
  have g2:(G++[DO.lst (A.map D.str),DO.lst ((A++B).map D.str)])[lN G+1]?=uQ (.lst ((A++B).map D.str)):=by simp
  have sc:=CF g2;have lS:lN ((A++B).map TC)=12:=by simp[lA,lB]
  have m:lN (A++B)=12:=by simp[lA,lB]
  generalize(A++B).map TC=C at sc lS⊢;generalize A++B=Q at*;have lC':lN (C.map D.str)<=1000000:=by simp[lS]
  have ct:cutD (C.map D.str) uZ (uQ (r:Int))=(C.take r).map D.str:=by rw[Jj (by simp;lia),jM]
  have cd:cutD (C.map D.str) (uQ (r:Int)) uZ=(C.drop r).map D.str:=by rw[Jv (by simp;lia),xX]
  have sl1:=λlo q=>slR (p:=lN G+2) (xs:=C.map D.str) (lo:=lo) (hi:=q) (G:=G++[.lst (A.map D.str),.lst (Q.map D.str),.lst (C.map D.str)]) (by simp)
  have s:∀y:List Str,freeze (G++[.lst (A.map D.str),.lst (Q.map D.str),.lst (C.map D.str)]) (.ok (.ref (lN G+3)) (G++[.lst (A.map D.str),.lst (Q.map D.str),.lst (C.map D.str),.lst (y.map D.str)]))=.ok (.fl (y.map D.str)) (G++[.lst (A.map D.str),.lst (Q.map D.str),.lst (C.map D.str)]):=λy=>by have:=Az (G:=G++[.lst (A.map D.str),.lst (Q.map D.str),.lst (C.map D.str)]) (ds:=y.map D.str) (L:=[]) Ci;simpa using this
  have lcc:lN ((C.drop r).map D.str)+lN ((C.take r).map D.str)<=1000000:=by simp[lS];lia
  have fzd:=s (C.drop r);have fzt:=s (C.take r);refine⟨3,[.lst (A.map D.str),.lst (Q.map D.str),.lst (C.map D.str),.lst ((C.drop r++C.take r).map D.str)],?_,rfl⟩;rw[jx];generalize(C.drop r).map D.str=X1,(C.take r).map D.str=X2,C.map D.str=X3 at*;have it2:Gd (.ref (lN G+1)) (G++[DO.lst (A.map D.str),DO.lst (Q.map D.str)])=.ok (.mt (lN G+1)) (G++[DO.lst (A.map D.str),DO.lst (Q.map D.str)]):=by simp[Gd]
  rw[m]at sc;have lQ:lN (Q.map D.str)=12:=by rw[zV,m]
  generalize Q.map D.str=X4,A.map D.str=X5,B.map D.str=X6 at*;have cs1:∀a b c d e v g h i j k' l:Option D,Ao 1 [3] [a,b,c,d,e,v,g,h,i,j,k',l]=[uZ,d]:=λ_ _ _ _ _ _ _ _ _ _ _ _=>rfl
  have T:∀a b c d e v g h i j k' l:Option D,Ao 1 [5] [a,b,c,d,e,v,g,h,i,j,k',l]=[uZ,v]:=λ_ _ _ _ _ _ _ _ _ _ _ _=>rfl
  have M:∀S:ZB,Ao 1 [] S=[uZ]:=λ_=>rfl
  generalize Aa o=O,Aa (cutD (c::w) (uQ 1) uZ)=O1,Aa [97+t.toNat]=O2,Aa (c::w)=O3,Aa [c]=O4,("abcdefghijklmnopqrstuvwxyz":Str)=AL at*;unfold Ss;simp[-Lx,-Dt,-Du,a8,a9,OW,h8,h0,et,q,h1,Ds,E,r8,cs1,c1,Y,r4,T,c2,J,U,ad,X,it2,g2,lQ,M,sc,lC',hr,sl1,ct,cd,fzd,fzt,lcc]
 obtain⟨sz,H⟩:∃sz:Nat,gx xs 8/3%8=sz:=⟨(gx xs 8/3%8).toNat,by lia⟩;obtain⟨a,ha⟩:∃a:Nat,gx xs 9%((sz:Int)+1)=a:=⟨(gx xs 9%((sz:Int)+1)).toNat,by have:=q7 (gx xs 9) (show((sz:Int)+1)≠0 by lia);lia⟩
 have hasz:a<=sz:=by have:=q0 (gx xs 9) (show(0:Int)<(sz:Int)+1 by lia);lia
 refine⟨(qD 0 12).map λk=>VI (KQ xs (c::w) sz a k),by simp,CC (by have E:=CI (xs:=c::w) (a:=a) (b:=sz) (by lia) (by simp[f];lia);rw[Jj (by simp[f];lia),E];simp;lia) (λx z=>by have:=V4 z;rcases zZ.mp this with rfl|h;exact N;exact n x h) (λx z=>by have:=V4 z;rcases zZ.mp this with rfl|h;exact N;exact n x h),λG s0=>?_⟩;obtain⟨y7,y8,y11,hL⟩:=ip WY (w:=c::w) (by lia) (sz:=sz) (a:=a) (s0:=s0) (s4:=uZ) (s5:=uZ) (G:=G) 12 0 [] uZ uZ uZ (by lia) (by simp)
 have u:Bt (gV 7) Ri (Bu 0 12) [s0,zS ("abcdefghijklmnopqrstuvwxyz":Str),zF (xs.map D.int),zS (Aa (c::w)),uZ,uZ,zR (lN G),uZ,uZ,zI sz,zI a,uZ] (G++[.lst []])=_:=hL;rw[j9]at u;refine⟨0,[.lst (((qD 0 12).map λk=>VI (KQ xs (c::w) sz a k)).map D.str)],?_,rfl⟩;generalize((qD 0 12).map λk=>VI (KQ xs (c::w) sz a k)).map D.str=Z,Aa (c::w)=W,("abcdefghijklmnopqrstuvwxyz":Str)=AL at*
 have P:inR 12:=H9 (by lia) (by lia);unfold Ss h9 hZ hX hW hV;simp[a8,a9,h8,H,by omega,ha,Ai,Dk,P,u]
def CK:∃nm:List Str,lN nm=12/\WI nm/\∀G,Kr [.int cell] G=.ok (.ref (lN G)) (G++[.lst (nm.map D.str)]):=by
 have u:∀G,freeze G (Jc [.int cell,.int 0,.int 24] G)=.ok (.fl ((Ew cell 0 24).map D.int)) G:=λG=>cE (cell:=cell) (k:=0) (n:=24) (by lia) (by lia) G
 have WY:lN (Ew cell 0 24)=24:=cD;have r:∀x∈Ew cell 0 24,0<=x:=ib;generalize Ew cell 0 24=f at*;have F:LB (f.map D.int) 10=zI (gx f 10):=Ce (i:=10) (by lia);have v:LB (f.map D.int) 11=zI (gx f 11):=Ce (i:=11) (by lia);by_cases t:2147483647<gx f 11
 .obtain⟨nm,X,Z,M,Y⟩:=B2 (xs:=(f.drop 11).take (23-11)) (λx h=>r x (qP (qG h))) (by simp;lia);refine⟨nm,by rw[X];simp;lia,⟨Z,λz h=>(M z h).1,λz h=>(M z h).2⟩,λG=>?_⟩;have cu:=Yr (xs:=f) (a:=11) (b:=23) (by lia) (by lia);have q:cutD (f.map D.int) (uQ 11) (uQ 23)=((f.drop 11).take (23-11)).map D.int:=cu;generalize(f.drop 11).take (23-11)=ys at*
  have O:freeze G (.ok (.ref (lN G)) (G++[.lst (ys.map D.int)]))=.ok (.fl (ys.map D.int)) G:=Az Fw;have td:=Dk (G:=G) (ds:=nm.map D.str) (L:=[]) Ci;generalize nm.map D.str=N at*;unfold Kr Rw Rf U0;rw[Af];simp[u,v,t,q,O,Y,td]
 have q:cutD (f.map D.int) uZ (uQ 8)=(f.take 8).map D.int:=by rw[jM];exact Jj (a:=8) (by simp;lia)
 have I:lN (ZD f)=8:=by simp[ZD];lia
 have m:∀x∈ZD f,97<=x/\x<123:=λx r=>by obtain⟨y,_,rfl⟩:=z7.mp r;lia
 have Q:=λG=>B3 (f.take 8) G
 have U:=λG=>B4 (cs:=ZD f) (by lia) G
 have O:∀G:DH,freeze G (.ok (.ref (lN G)) (G++[.lst ((ZD f).map sgn)]))=.ok (.fl ((ZD f).map sgn)) G:=λG=>Az (Hv λ_ _=>rfl)
 have C:∀G:DH,freeze G (.ok (.ref (lN G)) (G++[.lst ((f.take 8).map D.int)]))=.ok (.fl ((f.take 8).map D.int)) G:=λG=>Az Fw
 have ew:(f.take 8).map (λx=>97+(x%26).toNat)=ZD f:=rfl;rw[ew]at Q;have E:∀a b c d e f' g h i j k' l:Option D,Ao 1 [1] [a,b,c,d,e,f',g,h,i,j,k',l]=[uZ,b]:=λ_ _ _ _ _ _ _ _ _ _ _ _=>rfl
 have B:lN (ZD f)<=1000000:=by lia
 generalize(f.take 8).map D.int=X8 at*;have fin:∃(c:Nat)(w:List Nat),lN w=7/\(97<=c/\c<123)/\(∀x∈w,97<=x/\x<123)/\∀G,Kr [.int cell] G=tidy G (Ss [zI cell,zS ("abcdefghijklmnopqrstuvwxyz":Str),zF (f.map D.int),zS (Aa (c::w)),uZ,uZ,uZ,uZ,uZ,uZ,uZ,uZ] G).ret:=by
  by_cases A:gx f 10/26%4=0
  .have J:lN (cutD (ZD f) (uQ 3) uZ)=5:=by have:=Jv (xs:=ZD f) (a:=3) (by lia);have e3:cutD (ZD f) (uQ 3) uZ=(ZD f).drop 3:=this;rw[e3,qN,I]
   have s3:=λG=>Hd (l:=ZD f) (lo:=uQ 3) (hi:=uZ) (by lia) G
   have K:∀G:DH,freeze G (.ok (.ref (lN G)) (G++[.lst [.str "sea",.str "none"]]))=.ok (.fl [.str "sea",.str "none"]) G:=λG=>Az rfl
   have s:∀(c:Nat)(o:List Nat),lN o=2\/lN o=3->∀G,By (.str (Aa (c::o))) (.str (Aa (cutD (ZD f) (uQ 3) uZ))) G=.ok (.str (Aa (c::(o++cutD (ZD f) (uQ 3) uZ)))) G/\Gr (.str (Aa (c::(o++cutD (ZD f) (uQ 3) uZ)))) uZ (uQ 8) G=.ok (.str (Aa (c::(o++cutD (ZD f) (uQ 3) uZ).take 7))) G:=λc o h0 G=>by
    refine⟨add_str (l:=c::o) (l':=cutD (ZD f) (uQ 3) uZ) (by simp[J];lia) G,?_⟩;rw[Hd (by simp[J];lia)];have:=Jj (xs:=c::(o++cutD (ZD f) (uQ 3) uZ)) (a:=8) (by simp[J];lia);have e8:cutD (c::(o++cutD (ZD f) (uQ 3) uZ)) uZ (uQ 8)=(c::(o++cutD (ZD f) (uQ 3) uZ)).take 8:=this;rw[e8,jI]
   rcases(by lia:gx f 10/104%2=0\/gx f 10/104%2=1)with z|z
   .have S:("sea":Str)=Aa (115::[101,97]):=by decide +kernel
    have P:=λG=>(s 115 [101,97] (by simp) G).1
    have T:=λG=>(s 115 [101,97] (by simp) G).2
    refine⟨115,([101,97]++cutD (ZD f) (uQ 3) uZ).take 7,by simp[J],by lia,(λx r=>by rcases zG.mp (qG r)with h|h;(simp at h;lia);exact m x (V4 h)),λG=>?_⟩;rw[<-S]at P;generalize Aa (115::([101,97]++cutD (ZD f) (uQ 3) uZ))=Q1,Aa (115::([101,97]++cutD (ZD f) (uQ 3) uZ).take 7)=Q2,Aa (cutD (ZD f) (uQ 3) uZ)=Q3,Aa (ZD f)=Q4 at*;unfold Kr Rw Rf U0 Yv Ye
    rw[Af];generalize("abcdefghijklmnopqrstuvwxyz":Str)=AL at*;simp[-Dt,-Du,u,v,t,q,C,E,Q,B,O,U,F,A,z,K,s3,Ds,P,T]
   .have S:("none":Str)=Aa (110::[111,110,101]):=by decide +kernel
    have P:=λG=>(s 110 [111,110,101] (by simp) G).1
    have T:=λG=>(s 110 [111,110,101] (by simp) G).2
    refine⟨110,([111,110,101]++cutD (ZD f) (uQ 3) uZ).take 7,by simp[J],by lia,(λx r=>by rcases zG.mp (qG r)with h|h;(simp at h;lia);exact m x (V4 h)),λG=>?_⟩;rw[<-S]at P;generalize Aa (110::([111,110,101]++cutD (ZD f) (uQ 3) uZ))=Q1,Aa (110::([111,110,101]++cutD (ZD f) (uQ 3) uZ).take 7)=Q2,Aa (cutD (ZD f) (uQ 3) uZ)=Q3,Aa (ZD f)=Q4 at*
    unfold Kr Rw Rf U0 Yv Ye;rw[Af];generalize("abcdefghijklmnopqrstuvwxyz":Str)=AL at*;simp[-Dt,-Du,u,v,t,q,C,E,Q,B,O,U,F,A,z,K,s3,Ds,P,T]
  .cases p:ZD f with
   |nil=>rw[p]at I;cases I
   |cons c w=>
    have H:97<=c/\c<123:=by have hm:c∈ZD f:=p▸z8;obtain⟨y,_,rfl⟩:=z7.mp hm;lia
    refine⟨c,w,by rw[p]at I;simpa using I,H,(λx r=>m x (p▸zQ _ r)),λG=>?_⟩;rw[<-p];generalize Aa (ZD f)=Q4 at*;unfold Kr Rw Rf U0 Yv Ye;rw[Af];generalize("abcdefghijklmnopqrstuvwxyz":Str)=AL at*;simp[u,v,t,q,C,E,Q,B,O,U,F,A]
 obtain⟨c,w,hw,hc,W,Y⟩:=fin;obtain⟨nm,X,SA,ht⟩:=CJ WY r hw hc W;refine⟨nm,X,SA,λG=>?_⟩;obtain⟨k,L,h1,h2⟩:=ht G (zI cell);rw[Y,h1];exact fN L h2 Ci
noncomputable def Gy(nm:List Str)(k:Nat):Str:=nm.getD k ""
def U5{nm:List Str}(h:k<lN nm):nm[k]=Gy nm k:=by simp[Gy,zO,zX h]
noncomputable def Tf(nm:List Str):Option Nat->Str
 |none=>"sea"
 |some d=>(Gy nm d)
noncomputable def U6(nm:List Str):Option (Nat×Nat×Int)->D
 |none=>.UA
 |some (to,dl,m)=>.tup [.str ((Gy nm to)),.int dl,.int m]
noncomputable def Ji(nm:List Str)(p:Pl):D:=match p.kd with
 |.IA b r q=>.tup [.str "basin",.str p.nm,.str (Tf nm p.dn),.int p.dl,.int b,.tup (r.map Aj),U6 nm q]
 |.VA a b=>.tup [.str "town",.str p.nm,.str (Tf nm p.dn),.int p.dl,.int a,.int b]
 |.RA a=>.tup [.str "mill",.str p.nm,.str (Tf nm p.dn),.int p.dl,.int a]
structure OU (n k:Nat) (p:Pl):Prop where
 dn:∀d,p.dn=uQ d->k<d/\d<n
 dl:p.dl<=5
 JM:∀b r to dl m,p.kd=.IA b r (uQ (to,dl,m))->to<n/\1<=dl/\dl<=5
 IM:∀b r q,p.kd=.IA b r q->0<=b/\∀s∈r,Good 0 s.2
 VA:∀a b,p.kd=.VA a b->0<=a/\0<=b
 nop:∀b r,p.kd=.IA b r uZ->∀s∈r,∀t∈s.2,t.r=uJ
def PU(yr:Int):Int->List ND->Prop
 |_,[]=>True
 |a,s::r=>a<s.1/\s.1<yr/\PU yr s.1 r
def Ni:number x cell<10^38:=by
 unfold number;split
 .decide
 split
 .exact q0 _ (by decide)
 split
 .exact q0 _ (by decide)
 lia
def TK(s:JB):Prop:=(0<=s.h/\s.h<10^40)/\(0<=s.m/\s.m<=10^38)
theorem iy{p:Bool}:∀(n j:Nat)(top:Int),0<=top->top+(n:Int)*(2*10^38)<10^40->∀t∈KM xs big p n j top,TK t
 |0,_,_,_,_,t,h=>nomatch h
 |n+1,j,top,d,a,t,h=>by
  have c:=Km (x:=gx xs (1+2*j)) (cell:=big);have b:=Km (x:=gx xs (2+2*j)) (cell:=big);have f:=Ni (x:=gx xs (1+2*j)) (cell:=big);have g:=Ni (x:=gx xs (2+2*j)) (cell:=big);have e:((n+1:Nat):Int)*(2*10^38)=(n:Int)*(2*10^38)+2*10^38:=by rw[Int.natCast_add,Int.add_mul];rfl
  rw[e]at a;unfold KM at h;rcases zZ.mp h with rfl|h
  .exact⟨⟨by show 0<=top+number (gx xs (1+2*j)) big;lia,by show top+number (gx xs (1+2*j)) big<10^40;lia⟩,by show 0<=1+number (gx xs (2+2*j)) big;lia,by show 1+number (gx xs (2+2*j)) big<=10^38;lia⟩
  exact iy n (j+1) _ (by lia) (by lia) t h
theorem Yj{p:Bool}:∀(m j:Nat)(b:Int),∀s∈IH xs big yr p m j b,lN s.2<=3/\∀t∈s.2,TK t
 |0,_,_,s,h=>nomatch h
 | m+1,j,b,s,h=>by
  unfold IH at h;split at h
  .rcases zZ.mp h with rfl|h
   .refine⟨?_,iy _ _ _ (xJ _) ?_⟩
    .rw[Z8];lia
    have:((gx ((xs.drop (3+7*j)).take 7) 0%4).toNat:Int)<=3:=by lia
    generalize((gx ((xs.drop (3+7*j)).take 7) 0%4).toNat:Int)=q at this;lia
   exact Yj m _ _ s h
  exact Yj m _ _ s h
theorem jl:∀{st:List JB},(∀t∈st,TK t)->(OB st).sum<=(lN st:Int)*10^38
 |[],_=>by decide
 |s::st,h=>by
  have a:=jl λt b=>h t (zQ _ b)
  have c:=(h s z8).2;have e:((lN (s::st):Nat):Int)*10^38=(lN st:Int)*10^38+10^38:=by rw[z0,Int.natCast_add,Int.add_mul];rfl
  rw[e];unfold OB at a⊢;rw[xW];split
  .rw[zJ,jA];lia
  lia
structure QU (yr:Int) (k:Nat) (p:Pl):Prop where
 ub:match p.kd with
  |.RA a=>a<10^40
  |.VA a b=>a<10^40/\b<10^40
  |.IA b r q=>b<10^40/\(lN r<=3/\∀s∈r,lN s.2<=3/\∀t∈s.2,TK t)/\∀to dl m,q=uQ (to,dl,m)->m<10^40
 RA:∀a,p.kd=.RA a->0<=a
 asc:∀b r q,p.kd=.IA b r q->PU yr (-1) r/\(∃st r',r=(0,st)::r')/\(∀s∈r,lN s.2<=1000)
 pq:∀b r to dl m,p.kd=.IA b r (uQ (to,dl,m))->to≠k/\0<=m/\∀s∈r,(OB s.2).sum<=m
theorem jm:∀{st:List JB}{t:Int},Good t st->0<=(OB st).sum
 |[],_,_=>xJ _
 |s::st,t,h=>by
  have a:=jm h.2.2;unfold OB at a⊢;rw[xW];split
  .rw[zJ,jA];have:=h.2.1;lia
  exact a
theorem Xr{p:Bool}:∀(m j:Nat)(b a:Int),a<b->(j=0->b<yr)->PU yr a (IH xs big yr p m j b)
 |0,_,_,_,_,_=>trivial
 | m+1,j,b,a,h,d=>by
  unfold IH;split
  .rename_i c;refine⟨h,?_,Xr m (j+1) _ _ ?_ (λz=>by lia)⟩
   .rcases c with z|z
    .exact d z
    exact z.2
   show b<b+1+gx xs j/3%9;lia
  exact Xr m (j+1) b a h λz=>by lia
def jn{p:Bool}:∃st a,IH xs big yr p 3 0 0=(0,st)::a:=by unfold IH;rw[if_pos (.inl rfl)];exact⟨_,_,rfl⟩
def CL{n:Nat}{g:Int}(d:1<n)(hk:k<n){t:Nat}(e:((k:Int)+1+g%((n:Int)-1))%(n:Int)=t):t≠k:=λz=>by
 subst z;have c:=q7 g (show(n:Int)-1≠0 by lia);have b:=q0 g (show(0:Int)<(n:Int)-1 by lia);generalize g%((n:Int)-1)=q at*;by_cases a:(t:Int)+1+q<n
 .rw[Int.emod_eq_of_lt (by lia) a]at e;lia
 have f:((t:Int)+1+q)%n=(t:Int)+1+q-n:=by rw[<-Int.sub_emod_right,Int.emod_eq_of_lt (by lia) (by lia)]
 lia
theorem jo{xs:List Int}{big:Int}{p:Bool}:∀(n j:Nat)(top:Int),Good top (KM xs big p n j top)/\(p=uX->∀t∈KM xs big p n j top,t.r=uJ)
 |0,_,_=>⟨trivial,λ_ t h=>nomatch h⟩
 |n+1,j,top=>by
  have b:=jo (xs:=xs) (big:=big) (p:=p) n (j+1) (top+number (gx xs (1+2*j)) big+(1+number (gx xs (2+2*j)) big));have c:=Km (x:=gx xs (1+2*j)) (cell:=big);have d:=Km (x:=gx xs (2+2*j)) (cell:=big);refine⟨⟨?_,?_,b.1⟩,λhp t a=>?_⟩
  .show top<=top+number (gx xs (1+2*j)) big;lia
  .show 1<=1+number (gx xs (2+2*j)) big;lia
  rcases zZ.mp a with rfl|a
  .rw[hp];rfl
  exact b.2 hp t a
theorem Vs{p:Bool}:∀(m j:Nat)(b:Int),∀s∈IH xs big yr p m j b,Good 0 s.2/\(p=uX->∀t∈s.2,t.r=uJ)
 |0,_,_,s,h=>nomatch h
 | m+1,j,b,s,h=>by
  unfold IH at h;split at h
  .rcases zZ.mp h with rfl|h
   .exact jo _ _ _
   exact Vs m _ _ s h
  exact Vs m _ _ s h
def cK{nm:List Str}(h:i<lN nm):LB (nm.map D.str) (i:Int)=zS nm[i]:=Df rfl (by rw[zD,zX h];rfl)
def LQ{nm dn:Str}{dl:Int}(h:lN ds<=100)(G:DH):By (.tup [.str t]) (.tup [.str nm,.str dn,.int dl]) G=.ok (.tup [.str t,.str nm,.str dn,.int dl]) G/\By (.tup [.str t,.str nm,.str dn,.int dl]) (.tup ds) G=.ok (.tup (.str t:: .str nm:: .str dn:: .int dl::ds)) G:=by
 refine⟨rfl,?_⟩;rw[Pk,if_pos ⟨by simp,by simp;lia⟩]
 rfl
def CM{nm:List Str}(hnm:lN nm=12){n:Nat}(hn:n<=12)(hk:k<n)(U:0<yr):∃p:Pl,p.nm=(Gy nm k)/\(OU n k p/\QU yr k p)/\∀G,Lj [.fl (nm.map D.str),.int n,.int k,.int yr,.int cell] G=.ok (Ji nm p) G:=by
 have T:∀G,freeze G (Jc [.int cell,.int (k:Int),.int 33] G)=.ok (.fl ((Ew cell k 33).map D.int)) G:=λG=>cE (n:=33) (by lia) (by lia) G
 have WY:lN (Ew cell k 33)=33:=cD;have hx:∀x∈Ew cell k 33,0<=x:=ib;generalize Ew cell k 33=c at*;have a0:LB (c.map D.int) 0=zI (gx c 0):=Ce (i:=0) (by lia);have a1:LB (c.map D.int) 1=zI (gx c 1):=Ce (i:=1) (by lia);have O:LB (c.map D.int) 2=zI (gx c 2):=Ce (i:=2) (by lia);have P:LB (c.map D.int) 3=zI (gx c 3):=Ce (i:=3) (by lia);have a4:LB (c.map D.int) 4=zI (gx c 4):=Ce (i:=4) (by lia)
 have a5:LB (c.map D.int) 5=zI (gx c 5):=Ce (i:=5) (by lia);have a6:LB (c.map D.int) 6=zI (gx c 6):=Ce (i:=6) (by lia);have a7:LB (c.map D.int) 7=zI (gx c 7):=Ce (i:=7) (by lia);have X:=λG=>Qh (cell:=cell) (G:=G) (Sd hx 3)
 have hp:(0:Int)<(n:Int)-(k:Int):=by lia
 have J:LB (nm.map D.str) (k:Int)=zS (nm[k]'(by lia)):=cK (by lia);obtain⟨s,es⟩:∃s:Nat,gx c 0%((n:Int)-(k:Int))=s:=⟨(gx c 0%((n:Int)-(k:Int))).toNat,by have:=q7 (gx c 0) (show(n:Int)-(k:Int)≠0 by lia);lia⟩
 have y:k+s<n:=by have:=q0 (gx c 0) hp;lia
 have To:LB (nm.map D.str) ((k:Int)+(s:Int))=zS (nm[k+s]'(by lia)):=by have:=cK (nm:=nm) (i:=k+s) (by lia);rwa[show((k+s:Nat):Int)=(k:Int)+(s:Int) by lia]at this
 obtain⟨dn,o,W,ho,w⟩:∃(dn:Str)(o:Option Nat),Tf nm o=dn/\(∀d,o=uQ d->k<d/\d<n)/\∀G,Lj [.fl (nm.map D.str),.int n,.int k,.int yr,.int cell] G=tidy G (Qf [zF (nm.map D.str),zI n,zI k,zI yr,zI cell,zF (c.map D.int),zS dn,zT [.str (nm[k]'(by lia)),.str dn,.int (gx c 1%6)],uZ,uZ,uZ,uZ] G).ret:=by
  by_cases h0:0<s
  .refine⟨nm[k+s]'(by lia),uQ (k+s),(U5 (by lia)).symm,λd w=>by cases w;lia,λG=>?_⟩;have I:(0:Int)<(s:Int):=by lia
   unfold Lj b9 b7 b6 b5;rw[Af];simp[hk,T,a0,hp,es,h0,I,To,J,a1]
  refine⟨"sea",uZ,rfl,λd w=>(nomatch w),λG=>?_⟩
  have I:¬(0:Int)<(s:Int):=by lia
  unfold Lj b9 b7 b6 b5;rw[Af];simp[hk,T,a0,hp,es,h0,I,J,a1]
 have Y:nm[k]'(by lia)=(Gy nm k):=U5 (by lia);rw[Y]at J;obtain⟨f,g⟩:∃f:Nat,gx c 1%6=f:=⟨(gx c 1%6).toNat,by lia⟩;have B:f<=5:=by lia
 have w:=w;rw[Y]at w;generalize hmk:(Gy nm k)=mk at*;by_cases M:gx c 2%5=0
 .refine⟨⟨mk,o,f,.RA (number (gx c 3) cell)⟩,rfl,⟨⟨ho,B,(nofun),(λ_ _ _ z=>nomatch z),(nofun),(nofun)⟩,⟨xq Ni (by decide),(λa z=>by cases z;exact Km),(λ_ _ _ z=>nomatch z),(nofun)⟩⟩,λG=>?_⟩
  have H:=LQ (t:="mill") (nm:=mk) (dn:=dn) (dl:=gx c 1%6) (ds:=[.int (number (gx c 3) cell)]) (by simp);rw[w];unfold Qf;simp[-Pk,O,M,P,X,H,Ji,W,<-g,Ah]
 by_cases Z:gx c 2%5=1
 .refine⟨⟨mk,o,f,.VA (number (gx c 3) cell) (number (gx c 4) cell)⟩,rfl,⟨⟨ho,B,(nofun),(λ_ _ _ z=>nomatch z),(λa b z=>by cases z;exact⟨Km,Km⟩),(nofun)⟩,⟨⟨xq Ni (by decide),xq Ni (by decide)⟩,(nofun),(λ_ _ _ z=>nomatch z),(nofun)⟩⟩,λG=>?_⟩
  have H:=LQ (t:="town") (nm:=mk) (dn:=dn) (dl:=gx c 1%6) (ds:=[.int (number (gx c 3) cell),.int (number (gx c 4) cell)]) (by simp);rw[w];unfold Qf Wt;simp[-Pk,O,M,Z,P,a4,X,λG=>Qh (cell:=cell) (G:=G) (Sd hx 4),H,Ji,W,<-g,Ah]
 .have K:cutD (c.map D.int) (uQ 8) (uQ 32)=((c.drop 8).take (32-8)).map D.int:=Yr (a:=8) (b:=32) (by lia) (by lia);have hr:=λ(p:Bool)(G:DH)=>BK (xs:=(c.drop 8).take (32-8)) (big:=cell) (yr:=yr) (p:=p) (λx h=>hx x (qP (qG h))) (by simp;lia) G
  generalize(c.drop 8).take (32-8)=e at*;have fz:∀G:DH,freeze G (.ok (.ref (lN G)) (G++[.lst (e.map D.int)]))=.ok (.fl (e.map D.int)) G:=λG=>Az Fw
  by_cases L:1<n/\0<gx c 5%3
  .have j:(1:Int)<(n:Int):=by lia
   have C:=hr uJ;have N:=Xv (xs:=e) (big:=cell) (yr:=yr) (p:=uJ) 3 0 0;obtain⟨v,⟨Q,hvu⟩,hv⟩:=BN (by lia) N.2 BL;obtain⟨v2,hvn,hv2⟩:=BO (Sd hx 4);obtain⟨t,et⟩:∃t:Nat,((k:Int)+1+gx c 6%((n:Int)-1))%(n:Int)=t:=⟨(((k:Int)+1+gx c 6%((n:Int)-1))%(n:Int)).toNat,by have:=q7 ((k:Int)+1+gx c 6%((n:Int)-1)) (show(n:Int)≠0 by lia);lia⟩
   have ht:t<n:=by have:=q0 ((k:Int)+1+gx c 6%((n:Int)-1)) (show(0:Int)<(n:Int) by lia);lia
   have S:LB (nm.map D.str) (t:Int)=zS (nm[t]'(by lia)):=cK (by lia);have hp3:0<n:=by lia
   rw[U5 (by lia)]at S;obtain⟨pd,epd⟩:∃pd:Nat,1+gx c 7%5=pd:=⟨(1+gx c 7%5).toNat,by lia⟩;have A:=Vs (xs:=e) (big:=cell) (yr:=yr) (p:=uJ) 3 0 0;have has:=Xr (xs:=e) (big:=cell) (p:=uJ) 3 0 0 (-1) (by lia) (λ_=>U);have E:=jn (xs:=e) (big:=cell) (yr:=yr) (p:=uJ);have l:=Yj (xs:=e) (big:=cell) (yr:=yr) (p:=uJ) 3 0 0;generalize IH e cell yr uJ 3 0 0=r at*
   refine⟨⟨mk,o,f,.IA (number (gx c 3) cell) r (uQ (t,pd,v+v2))⟩,rfl,⟨⟨ho,B,(λb F to d m z=>by cases z;lia),(λb F q z=>by cases z;exact⟨Km,λs y=>(A s y).1⟩),(nofun),(λ_ _ z=>nomatch z)⟩,⟨⟨xq Ni (by decide),⟨N.1,l⟩,λto f m z=>by cases z;have hv3:=hvu (3*10^38) (λs y=>by have h1:=jl (l s y).2;have M:=(l s y).1;have Z:(lN s.2:Int)*10^38<=3*10^38:=Int.mul_le_mul_of_nonneg_right (by lia) (by decide);lia);lia⟩,(nofun),(λb F q z=>by cases z;exact⟨has,E,N.2⟩),(λb F to d m z=>by cases z;obtain⟨st,r2,e0⟩:=E;have h0:=Q (0,st) (e0▸z8);have h1:=jm (A (0,st) (e0▸z8)).1;exact⟨CL L.1 hk et,by lia,λs y=>by have:=Q s y;lia⟩)⟩⟩,λG=>?_⟩
   have H:=LQ (t:="basin") (nm:=mk) (dn:=dn) (dl:=gx c 1%6) (ds:=[.int (number (gx c 3) cell),.tup (r.map Aj),.tup [.str ((Gy nm t)),.int (1+gx c 7%5),.int (v+v2)]]) (by simp);rw[w];unfold Qf Wt bZ bY bX bW bV;simp[-Pk,O,M,Z,j,L,a5,K,fz,C,a6,by omega,by omega,hp3,et,S,a7,hv,a4,hv2,P,X,H,Ji,U6,W,<-g,<-epd,Ah]
  .have C:=hr uX;have A:=Vs (xs:=e) (big:=cell) (yr:=yr) (p:=uX) 3 0 0;have has:=Xr (xs:=e) (big:=cell) (p:=uX) 3 0 0 (-1) (by lia) (λ_=>U);have E:=jn (xs:=e) (big:=cell) (yr:=yr) (p:=uX);have N:=Xv (xs:=e) (big:=cell) (yr:=yr) (p:=uX) 3 0 0;have l:=Yj (xs:=e) (big:=cell) (yr:=yr) (p:=uX) 3 0 0;generalize IH e cell yr uX 3 0 0=r at*
   refine⟨⟨mk,o,f,.IA (number (gx c 3) cell) r uZ⟩,rfl,⟨⟨ho,B,(λb F to d m z=>nomatch z),(λb F q z=>by cases z;exact⟨Km,λs y=>(A s y).1⟩),(nofun),(λb F z=>by cases z;exact λs y=>(A s y).2 rfl)⟩,⟨⟨xq Ni (by decide),⟨N.1,l⟩,nofun⟩,(nofun),(λb F q z=>by cases z;exact⟨has,E,N.2⟩),(λb F to d m z=>nomatch z)⟩⟩,λG=>?_⟩
   have H:=LQ (t:="basin") (nm:=mk) (dn:=dn) (dl:=gx c 1%6) (ds:=[.int (number (gx c 3) cell),.tup (r.map Aj),.UA]) (by simp);rw[w];unfold Qf Wt bZ bY bX bW bV;by_cases j:1<n
   .have u:(1:Int)<(n:Int):=by lia
    have h5:¬0<gx c 5%3:=λz=>L ⟨j,z⟩
    simp[-Pk,O,M,Z,j,u,h5,a5,K,fz,C,P,X,H,Ji,U6,W,<-g,Ah]
   .have u:¬(1:Int)<(n:Int):=by lia
    simp[-Pk,O,M,Z,j,u,K,fz,C,P,X,H,Ji,U6,W,<-g,Ah]
def CN{ns:List Int}{at_:Nat}(hat:at_<=1000)(G:DH):∃h:Hs,WN h/\1<=h.n/\(∀k,k<h.n->OU h.n k (h.pl k)/\QU h.yr k (h.pl k))/\h.yr<=24/\(∃nm:List Str,lN nm=12/\WI nm/\(∀k,k<h.n->(h.pl k).nm=Gy nm k)/\∀G,Kr [.int (cellAt ns ((at_:Int)+2))] G=.ok (.ref (lN G)) (G++[.lst (nm.map D.str)]))/\Oj [.fl (ns.map D.int),.int at_] G=.ok h.enc G:=by
 have ca:=λ(k:Nat)(G:DH)=>Up (ns:=ns) (k:=(k:Int)) (G:=G) (by lia)
 have c1:∀G,Ie [.fl (ns.map D.int),.int ((at_:Int)+1)] G=.ok (.int (cellAt ns ((at_:Int)+1))) G:=λG=>Up (by lia)
 have Y:∀G,Ie [.fl (ns.map D.int),.int ((at_:Int)+2)] G=.ok (.int (cellAt ns ((at_:Int)+2))) G:=λG=>Up (by lia)
 have S:∀(k:Nat)G,Ie [.fl (ns.map D.int),.int ((at_:Int)+3+k)] G=.ok (.int (cellAt ns ((at_:Int)+3+k))) G:=λk G=>Up (by lia)
 obtain⟨n,U⟩:∃n:Nat,1+cellAt ns (at_:Int)%12=n:=⟨(1+cellAt ns (at_:Int)%12).toNat,by lia⟩;have hn:n<=12/\1<=n:=by lia
 obtain⟨nm,F,x,O⟩:=CK;obtain⟨y,X⟩:∃y:Int,1+cellAt ns ((at_:Int)+1)%24=y:=⟨_,rfl⟩;have N:∀k:Nat,∃p:Pl,k<n->(p.nm=(Gy nm k)/\(OU n k p/\QU y k p)/\∀G,Lj [.fl (nm.map D.str),.int n,.int k,.int y,.int (cellAt ns ((at_:Int)+3+k))] G=.ok (Ji nm p) G):=λk=>by
  by_cases hk:k<n
  .obtain⟨p,hp⟩:=CM F hn.1 hk (yr:=y) (by lia);exact⟨p,λ_=>hp⟩
  exact⟨LX,λz=>absurd z hk⟩
 let P:Nat->Pl:=λk=>(N k).choose
 have s:∀k,k<n->((P k).nm=(Gy nm k)/\(OU n k (P k)/\QU y k (P k))/\∀G,Lj [.fl (nm.map D.str),.int n,.int k,.int y,.int (cellAt ns ((at_:Int)+3+k))] G=.ok (Ji nm (P k)) G):=λk hk=>(N k).choose_spec hk
 clear_value P
 have f:∀k,k<n->(Hs.pl ⟨y,(zE n).map P⟩ k)=P k:=λk hk=>by unfold Hs.pl;simp[zO,hk]
 have l:Hs.n ⟨y,(zE n).map P⟩=n:=by simp[Hs.n]
 have u:∀k(hk:k<n),(Gy nm k)=nm[k]'(by lia):=λk hk=>(U5 (by lia)).symm
 have C:∀(k:Nat)(o:Option Nat),(∀d,o=uQ d->k<d/\d<n)->Hs.VO ⟨y,(zE n).map P⟩ o=Tf nm o:=λk o W=>by
  cases o with
  |none=>rfl
  |some d=>
   have:=(W d rfl).2;show(Hs.pl _ d).nm=(Gy nm d);rw[f d this,(s d this).1]
 have v:∀k,k<n->Hs.VF ⟨y,(zE n).map P⟩ (P k)=Ji nm (P k):=λk hk=>by
  have g:=(s k hk).2.1.1;have M:=C k (P k).dn g.dn;unfold Hs.VF Ji;cases ek:(P k).kd with
  | IA b r q=>
   have e2:Hs.Yy ⟨y,(zE n).map P⟩ q=U6 nm q:=by
    cases q with
    |none=>rfl
    |some z=>
     obtain⟨A,B,m⟩:=z;have Q:=(g.JM b r A B m ek).1;show D.tup [.str (Hs.pl _ A).nm,.int B,.int m]=_;rw[f A Q,(s A Q).1]
     rfl
   simp[M,e2]
  |_=>simp[M]
 refine⟨⟨y,(zE n).map P⟩,⟨?_,?_,?_,?_,?_,?_,?_,?_,?_⟩,?_,?_,?_,⟨nm,F,x,?_,O⟩,?_⟩
 .show 0<y;lia
 .rw[l];lia
 .intro i j t I e;rw[l]at t I;rw[f i t,f j I,(s i t).1,(s j I).1,u i t,u j I]at e;exact B8 x.nd _ _ e
 .intro i t;rw[l]at t;rw[f i t,(s i t).1,u i t];exact x.VY _ (qV _)
 .intro k d hk e;rw[l]at hk⊢;rw[f k hk]at e;exact(s k hk).2.1.1.dn d e
 .intro k hk;rw[l]at hk;rw[f k hk];exact(s k hk).2.1.1.dl
 .intro k b r A B m hk e;rw[l]at hk⊢;rw[f k hk]at e;exact(s k hk).2.1.1.JM b r A B m e
 .intro k b r q hk e;rw[l]at hk;rw[f k hk]at e;exact(s k hk).2.1.1.IM b r q e
 .intro k a b hk e;rw[l]at hk;rw[f k hk]at e;exact(s k hk).2.1.1.VA a b e
 .rw[l];lia
 .intro k hk;rw[l]at hk⊢;rw[f k hk];exact(s k hk).2.1
 .show y<=24;lia
 .intro k hk;rw[l]at hk;rw[f k hk];exact(s k hk).1
 have K:∀G:DH,freeze G (.ok (.ref (lN G)) (G++[.lst (nm.map D.str)]))=.ok (.fl (nm.map D.str)) G:=λG=>Az Ci
 have cp:Bc (gV 0) Ay ba [uZ,zF (ns.map D.int),zI at_,zI n,zI y,zF (nm.map D.str)] (Bu 0 n) G=.ok (((zE n).map P).map (Hs.VF ⟨y,(zE n).map P⟩)) G:=by
  rw[qA];exact cC λk hk=>by unfold ba;simp[S,(s k hk).2.2,v k hk]
 have lp:lN ((zE n).map P)<=1000000:=by simp;lia
 clear u v C f l s;generalize(zE n).map P=H at*;generalize w:H.map (Hs.VF ⟨y,H⟩)=L at*;have J:lN L<=1000000:=by rw[<-w];simpa using lp
 have E:∀m,MA m L=uJ:=λm=>by rw[<-w];exact Hv λ_ _=>Hs.As
 have cs:∀a b c d e Z:Option D,Ao 1 [0,1,2,3,4] [a,b,c,d,e,Z]=[uZ,a,b,c,d,e]:=λ_ _ _ _ _ _=>rfl
 have T:inR (n:Int):=H9 (by lia) (by lia);show Oj _ G=.ok (.tup [.int y,.tup (H.map (Hs.VF ⟨y,H⟩))]) G;rw[w];unfold Oj iE;rw[Af];simp[ca at_,U,c1,X,Y,O,K,T,cs,cp,J,Az (E _),E _,Ah]
noncomputable def jp:List Nat:=("abcdefghijklmnopqrstuvwxyz":Str).cps.toList
def CO(c:Nat):c∈jp↔97<=c/\c<=122:=by
 have e:jp=qD 97 26:=by decide +kernel
 rw[e,List.mem_range'_1];lia
noncomputable def small(c:Nat):Bool:=decide (97<=c/\c<=122)
def jr{c:Nat}:Ek (sgn c) (.str "abcdefghijklmnopqrstuvwxyz") G=.ok (.bl (small c)) G:=by
 unfold Ek inD sgn;simp only;rw[WL ("abcdefghijklmnopqrstuvwxyz":Str) c];simp only[small]
 congr 3
 exact propext (CO c)
noncomputable def Uj:List Nat:=[115,101,97]
def CP:("sea":Str).cps.toList=Uj:=by decide +kernel
def XH(cs:List Nat):Bool:=decide (¬cs=Uj)&&decide (1<=lN cs/\lN cs<=8)&&cs.all small
def CQ{z:Str}(hz:z.length<=1000):Xi [.str z] G=.ok (.bl (XH z.cps.toList)) G:=by
 have y:(z.length:Int)=z.cps.toList.length:=by simp[Str.length]
 have a:z.length<=1000000:=by lia
 have o:Bc (gV 0) Ay Uy [uZ] (signs z) G=.ok ((z.cps.toList.map small).map D.bl) G:=by
  have:=R4 (g:=gV 0) (c:=Ay) (te:=Uy) (S:=[uZ]) (G:=G) (F:=λd=>match d with | .str x=>zB (small (x.cps.getD 0 0))|_=>uZ) (xs:=signs z) (λx s=>by obtain⟨c,_,rfl⟩:=z7.mp s;refine⟨[uQ (sgn c)],rfl,.inr ⟨rfl,.bl (small c),?_,rfl⟩⟩;unfold Uy;simp[jr])
  rw[this]
  congr 1
  unfold signs
  induction z.cps.toList with
  |nil=>rfl
  |cons c r v=>simp only[zJ,qx,sgn,v];rfl
 have b:((z.cps.toList.map small).map D.bl).length<=1000000:=by simp;simpa[Str.length]using a
 have t:MA G.length ((z.cps.toList.map small).map D.bl)=uJ:=fM;have n:= @Lh G (z.cps.toList.map small);unfold Xi gm;rw[Af];have f:decide (z=("sea":Str))=decide (z.cps.toList=Uj):=by rw[<-CP];exact decide_eq_decide.mpr sT
 generalize A:((z.cps.toList.map small).map D.bl)=bs at*;by_cases e:z.cps.toList=Uj
 .simp[f,e,Ah,XH]
 by_cases l:1<=z.length/\z.length<=8
 .have m:(1:Int)<=z.length/\(z.length:Int)<=8:=by lia
  have j:1<=z.cps.toList.length/\z.cps.toList.length<=8:=by lia
  simp[f,e,a,m.1,m.2,l.1,l.2,Ao,o,b,Az,t,n,Ah];simp only[XH,e,j,not_false_eq_true,decide_true,and_self,Bool.true_and,List.all_map];simp
 .have j:¬(1<=z.cps.toList.length/\z.cps.toList.length<=8):=by lia
  have q:XH z.cps.toList=uX:=by simp only[XH,j,decide_false,Bool.and_false,Bool.false_and]
  rw[q];by_cases i:1<=z.length
  .have w:¬z.length<=8:=λh=>l ⟨i,h⟩
   have u:¬(z.length:Int)<=8:=by lia
   have k:(1:Int)<=z.length:=by lia
   simp[f,e,a,i,w,u,k,Ah]
  .have k:¬(1:Int)<=z.length:=by lia
   simp[f,e,a,i,k,Ah]
def CS{z:Str}(h:Wd z)(i:z≠"sea"):XH z.cps.toList=uJ/\z.length<=8/\1<=z.length:=by
 obtain⟨l,rfl,f,a,g⟩:=h;have e:(Aa l).cps.toList=l:=by simp[Aa]
 have el:(Aa l).length=l.length:=by simp[Aa,Str.length]
 refine⟨?_,by lia,by lia⟩;rw[e];unfold XH;have d:¬l=Uj:=λz=>i (by rw[z];decide +kernel)
 have b:l.all small=uJ:=qX.mpr λc j=>by have:=g c j;unfold small;exact decide_eq_true (by lia)
 simp[d,f,a,b]
def js{x:Str}{l:List Str}:Ek (.str x) (.fl (l.map D.str)) G=.ok (.bl (decide (x∈l))) G:=by
 unfold Ek inD;dsimp only
 rw[show Be (.fl (l.map D.str)) G=uQ (l.map D.str)from rfl,show Li (.str x)=uQ (V.str x)from rfl]
 dsimp only;rw[V5,jP,Xz]
def CT{x:Str}{l:List Str}(h:G[i]?=uQ (.lst (l.map D.str))):Ek (.str x) (.ref i) G=.ok (.bl (decide (x∈l))) G:=by
 unfold Ek inD;dsimp only
 rw[show Be (.ref i) G=uQ (l.map D.str) by simp[Be,h],show Li (.str x)=uQ (V.str x)from rfl]
 dsimp only;rw[V5,jP,Xz]
theorem CU:Bc (Bf 3 (Am (gV 0) (Am (gV 1) (Am (gV 2) Bg)))) Zw bQ [uZ,uZ,uZ] (st.map JB.enc) G=.ok ((OB st).map D.int) G:=by
 rw[R4 (F:=λd=>match d with | .tup [_,m,.str w]=>if w="pump" then uQ m else uZ|_=>uZ) λy c=>?_]
 .congr 1
  unfold OB
  induction st with
  |nil=>rfl
  |cons s st b=>
   rw[zJ,qx,b,xW];have a:JB.enc s=.tup [.int s.h,.int s.m,.str (wy s.r)]:=rfl;rw[a];cases e:s.r with
   |true=>simp[wy,pr]
   |false=>simp[wy]
 obtain⟨s,_,rfl⟩:=z7.mp c;have a:JB.enc s=.tup [.int s.h,.int s.m,.str (wy s.r)]:=rfl;rw[a];refine⟨[zI s.h,zI s.m,zS (wy s.r)],by simp,?_⟩;unfold Zw bQ;cases e:s.r with
 |true=>exact .inl ⟨by simp[wy,pr],by simp[wy,pr]⟩
 |false=>exact .inr ⟨by simp[wy],.int s.m,by simp,by simp[wy]⟩
def CV:lN (OB st)<=lN st:=by unfold OB;rw[zV];exact xV _ _
inductive RK where
 |IA (b:Int) (r:List ND) (q:Option (Str×Int×Int))
 |VA (a b:Int)
 |RA (a:Int)
structure RP where
 nm:Str
 dn:Str
 dl:Int
 kd:RK
variable{p p':RP}{ps:List RP}
noncomputable def QD:Option (Str×Int×Int)->D
 |none=>.UA
 |some (t,d,m)=>.tup [.str t,.int d,.int m]
noncomputable def RK.XA:RK->Str
 |.IA ..=>"basin"
 |.VA ..=>"town"
 |.RA ..=>"mill"
def RK.rest:RK->List D
 |.IA b r q=>[.int b,.tup (r.map Aj),QD q]
 |.VA a b=>[.int a,.int b]
 |.RA a=>[.int a]
def RP.row(p:RP):List D:=.str p.kd.XA:: .str p.nm:: .str p.dn:: .int p.dl::p.kd.rest
def RP.enc(p:RP):D:=.tup p.row
structure RH where
 yr:Int
 ps:List RP
variable{h:RH}
noncomputable def RH.enc(h:RH):D:=.tup [.int h.yr,.tup (h.ps.map RP.enc)]
@[simp]theorem CW{n:Nat}:lC n (QD q)=uJ:=by
 cases q with
 |none=>rfl
 |some x=>obtain⟨a,b,c⟩:=x;rfl
@[simp]theorem CY{n:Nat}:MA n p.row=uJ:=by
 unfold RP.row RK.rest
 cases p.kd<;>simp
@[simp]theorem Oe{n:Nat}:lC n p.enc=uJ:=by simp[RP.enc]
@[simp]theorem Pz{n:Nat}{l:List RP}:MA n (l.map RP.enc)=uJ:=Hv λ_ _=>Oe
@[simp]theorem cL{n:Nat}:lC n h.enc=uJ:=by simp[RH.enc]
section
variable{p:RP}{h:RH}{G:DH}
@[simp]theorem Z?:Ax p.enc (.int 0) G=.ok (.str p.kd.XA) G:=by simp[RP.enc,RP.row]
@[simp]theorem renc1:Ax p.enc (.int 1) G=.ok (.str p.nm) G:=by simp[RP.enc,RP.row]
@[simp]theorem renc2:Ax p.enc (.int 2) G=.ok (.str p.dn) G:=by simp[RP.enc,RP.row]
@[simp]theorem renc3:Ax p.enc (.int 3) G=.ok (.int p.dl) G:=by simp[RP.enc,RP.row]
def O9:Ax h.enc (.int 0) G=.ok (.int h.yr) G:=by simp[RH.enc]
def Q9:Ax h.enc (.int 1) G=.ok (.tup (h.ps.map RP.enc)) G:=by simp[RH.enc]
end
noncomputable def Bm:RK->Int×List Int
 |.VA a b=>(a,[b])
 |.RA a=>(a,[])
 |.IA b _ uZ=>(b,[])
 |.IA b _ (uQ (_,_,m))=>(b,[m])
def Fv(k:RK):Bool:= !decide ((Bm k).2.foldl min (Bm k).1<0)
noncomputable def Hg(l:List Str)(p:RP):Bool:=(decide (p.dn="sea")||decide (p.dn∈l))&&(decide (0<=p.dl)&&decide (p.dl<=5))
noncomputable def Eo(l:List Str):Option (Str×Int×Int)->Bool
 |none=>uJ
 |some (t,d,_)=>decide (t∈l)&&(decide (1<=d)&&decide (d<=5))
noncomputable def Hr(yr:Int):Int->List ND->Bool
 |_,[]=>uJ
 |a,s::r=>(decide (a<s.1)&&decide (s.1<yr))&&Hr yr s.1 r
noncomputable def I9(yr:Int):List ND->Bool
 |[]=>uX
 |s::r=>decide (s.1=0)&&Hr yr (-1) (s::r)
noncomputable def Dw:Int->List JB->Bool
 |_,[]=>uJ
 |a,s::r=>(decide (a<=s.h)&&decide (1<=s.m))&&Dw (s.h+s.m) r
def Hf(st:List JB):Option (Str×Int×Int)->Bool
 |none=>decide (OB st=[])
 |some (_,_,m)=>decide ((OB st).sum<=m)
def Fd(yr:Int)(r:List ND)(q:Option (Str×Int×Int)):Bool:=I9 yr r&&r.all λs=>Dw 0 s.2&&Hf s.2 q
def Fi(A:List Str)(p:RP):Bool:=XH p.nm.cps.toList && !decide (p.nm∈A)
def UK(yr:Int)(A B:List Str)(p:RP):Nat:=if Fi A p=uX then 1 else if Hg B p=uX then 2 else if Fv p.kd=uX then 3 else match p.kd with
 |.IA _ r q=>if Eo (A++B) q=uX then 4 else if Fd yr r q=uX then 5 else 0
 |_=>0
noncomputable def JD:Nat->Str
 |1=>"NoName"
 |2=>"NoRiver"
 |3=>"NoNumber"
 |4=>"NoPump"
 |_=>"NoRule"
structure Sh (p:RP):Prop where
 nm:p.nm.length<=1000
 ru:∀b r q,p.kd=.IA b r q->∀s∈r,s.2.length<=1000
def CZ{l:List Str}(G:DH):V6 [p.enc,.fl (l.map D.str)] G=.ok (.bl (Hg l p)) G:=by
 have b:=js (x:=p.dn) (l:=l) (G:=G);generalize l.map D.str=L at*;unfold V6 gq Hg;rw[Af];by_cases c:p.dn="sea"
 .by_cases d:0<=p.dl<;>simp[c,d,Ah]
 by_cases a:p.dn∈l
 .rw[decide_eq_true a]at b
  by_cases d:0<=p.dl<;>simp[c,b,a,d,Ah]
 .rw[decide_eq_false a]at b;simp[c,b,a,Ah]
theorem C0(G:DH):Wu [p.enc] G=.ok (.ref (lN G)) (G++[.lst (((Bm p.kd).1::(Bm p.kd).2).map D.int)]):=by
 have f:∀g:List Int,tidy G (.ok (.ref (lN G)) (G++[.lst (g.map D.int)]))=.ok (.ref (lN G)) (G++[.lst (g.map D.int)]):=λg=>Dk Fw
 have l:¬(("mill":Str)="town"):=by decide
 have j:¬(("basin":Str)="town"):=by decide
 have i:¬(("basin":Str)="mill"):=by decide
 unfold Wu gy;rw[Af];cases e:p.kd with
 |VA a b=>
  have c:∀G,Ax p.enc (.int 4) G=.ok (.int a) G:=λG=>by simp[RP.enc,RP.row,e,RK.rest]
  have n:∀G,Ax p.enc (.int 5) G=.ok (.int b) G:=λG=>by simp[RP.enc,RP.row,e,RK.rest]
  have:=f [a,b];simp at this;simp[e,RK.XA,c,n,Ai,Bm,this]
 |RA a=>
  have c:∀G,Ax p.enc (.int 4) G=.ok (.int a) G:=λG=>by simp[RP.enc,RP.row,e,RK.rest]
  have:=f [a];simp at this;simp[e,RK.XA,l,c,Ai,Bm,this]
 | IA b r q=>
  have c:∀G,Ax p.enc (.int 4) G=.ok (.int b) G:=λG=>by simp[RP.enc,RP.row,e,RK.rest]
  have k:∀G,Ax p.enc (.int 6) G=.ok (QD q) G:=λG=>by simp[RP.enc,RP.row,e,RK.rest]
  cases q with
  |none=>
   have:=f [b];simp at this;simp[e,RK.XA,j,i,c,k,QD,Dm,Ai,Bm,this]
  |some z=>
   obtain⟨t,d,m⟩:=z;have:=f [b,m];simp at this;simp[e,RK.XA,j,i,c,k,QD,Dm,Ai,Bm,this]
theorem C1{l:List Str}(e:G[i]?=uQ (.lst (l.map D.str))):Qq [QD q,.ref i] G=.ok (.bl (Eo l q)) G:=by
 unfold Qq gp;rw[Af];cases q with
 |none=>simp[QD,Dm,Eo,Ah]
 | some z=>
  obtain⟨t,d,m⟩:=z;have a:=CT (x:=t) e;by_cases b:t∈l
  .rw[decide_eq_true b]at a
   by_cases c:1<=d<;>simp[QD,Dm,Eo,a,b,c,Ah]
  rw[decide_eq_false b]at a;simp[QD,Dm,Eo,a,b,Ah]
theorem jt{yr:Int}{s0:Option D}{G:DH}:∀(r:List ND)(a:Int)(x y:Option D),∃e f d,Bt (Bf 2 (Am (gV 3) (Am (gV 4) Bg))) Vg (r.map Aj) [s0,zI yr,zI a,x,y] G=if Hr yr a r=uJ then .nx [s0,zI yr,e,f,d] G else .rt (.bl uX) G
 |[],a,x,y=>⟨zI a,x,y,by rw[qZ,Gb];rfl⟩
 | s::r,a,x,y=>by
  obtain⟨e,f,d,j⟩:=jt (yr:=yr) (s0:=s0) (G:=G) r s.1 (zI s.1) (zT (s.2.map JB.enc));refine⟨e,f,d,?_⟩;have c:Vg [s0,zI yr,zI a,zI s.1,zT (s.2.map JB.enc)] G=if a<s.1/\s.1<yr then .nx [s0,zI yr,zI s.1,zI s.1,zT (s.2.map JB.enc)] G else .rt (.bl uX) G:=by
   unfold Vg;by_cases b:a<s.1
   .by_cases i:s.1<yr<;>simp[b,i]
   simp[b]
  have g:Aj s=.tup [.int s.1,.tup (s.2.map JB.enc)]:=rfl;rw[zJ,Ey,g];generalize s.2.map JB.enc=Z at*;unfold Hr;by_cases b:a<s.1/\s.1<yr
  .rw[if_pos b]at c;simp[c,j,b]
  rw[if_neg b]at c;have:(decide (a<s.1)&&decide (s.1<yr))=uX:=by rw[<-uu1,zq,decide_eq_true_iff,decide_eq_true_iff];exact b
  simp[c,this]
theorem C3(G:DH):Vl [.tup (r.map Aj),.int yr] G=.ok (.bl (I9 yr r)) G:=by
 obtain⟨i,j,g,c⟩:=jt (yr:=yr) (s0:=zT (r.map Aj)) (G:=G) r (-1) uZ uZ;unfold Vl gr;rw[Af];cases r with
 |nil=>simp[I9,Ah]
 | cons s r=>
  have a:¬((lN ((s::r).map Aj):Int)=0):=by simp;lia
  have f:LB ((s::r).map Aj) 0=uQ (Aj s):=Df rfl rfl;have d:∀G,Ax (Aj s) (.int 0) G=.ok (.int s.1) G:=λG=>by unfold Aj;simp
  have b:¬(s::r).map Aj=[]:=by simp
  unfold I9;generalize Aj s=Z,(s::r).map Aj=R at*;by_cases z:s.1=0
  .cases e:Hr yr (-1) (s::r)with
   |_=>rw[e]at c;simp[b,a,f,d,z,c,Ah,e]
  simp[b,a,f,d,z,Ah]
theorem ju{s0:Option D}{G:DH}:∀(st:List JB)(a:Int)(x y z:Option D),∃i j f g,Bt (Bf 3 (Am (gV 2) (Am (gV 3) (Am (gV 4) Bg)))) Wg (st.map JB.enc) [s0,zI a,x,y,z] G=if Dw a st=uJ then .nx [s0,i,j,f,g] G else .rt (.bl uX) G
 |[],a,x,y,z=>⟨zI a,x,y,z,by rw[qZ,Gb];rfl⟩
 | s::st,a,x,y,z=>by
  obtain⟨i,j,f,g,n⟩:=ju (s0:=s0) (G:=G) st (s.h+s.m) (zI s.h) (zI s.m) (zS (wy s.r));refine⟨i,j,f,g,?_⟩;have e:Wg [s0,zI a,zI s.h,zI s.m,zS (wy s.r)] G=if a<=s.h/\1<=s.m then .nx [s0,zI (s.h+s.m),zI s.h,zI s.m,zS (wy s.r)] G else .rt (.bl uX) G:=by
   unfold Wg;by_cases c:a<=s.h
   .have b:¬s.h<a:=by lia
    by_cases k:1<=s.m
    .have d:¬s.m<1:=by lia
     simp[c,b,k,d]
    have d:s.m<1:=by lia
    simp[c,b,k,d]
   have b:s.h<a:=by lia
   simp[c,b]
  have l:JB.enc s=.tup [.int s.h,.int s.m,.str (wy s.r)]:=rfl;rw[zJ,Ey,l];generalize wy s.r=Z at*;unfold Dw;by_cases c:a<=s.h/\1<=s.m
  .rw[if_pos c]at e;simp[e,n,c]
  rw[if_neg c]at e;have:(decide (a<=s.h)&&decide (1<=s.m))=uX:=by rw[<-uu1,zq,decide_eq_true_iff,decide_eq_true_iff];exact c
  simp[e,this]
theorem C4(G:DH):Vb [.tup (st.map JB.enc)] G=.ok (.bl (Dw 0 st)) G:=by
 obtain⟨d,f,b,c,a⟩:=ju (s0:=zT (st.map JB.enc)) (G:=G) st 0 uZ uZ uZ;generalize st.map JB.enc=Z at*;unfold Vb gu;rw[Af];cases e:Dw 0 st with
 |_=>rw[e]at a;simp[a,Ah]
theorem C5(g:lN st<=1000)(G:DH):Yq [.tup (st.map JB.enc),QD q] G=.ok (.bl (Hf st q)) G:=by
 have e:=CU (st:=st) (G:=G);have NC:∀S:ZB,Ao 3 [] S=[uZ,uZ,uZ]:=λ_=>rfl
 have c:freeze G (.ok (.ref (lN G)) (G++[.lst ((OB st).map D.int)]))=.ok (.fl ((OB st).map D.int)) G:=Az Fw;have a:lN ((OB st).map D.int)<=1000000:=by have:=CV (st:=st);rw[zV];lia
 have b:Js [.fl ((OB st).map D.int)] G=.ok (.int (OB st).sum) G:=fQ;have f:(OB st).map D.int=[]↔OB st=[]:=jL;unfold Hf;generalize(OB st).map D.int=P,st.map JB.enc=Z at*;unfold Yq gv;rw[Af];cases q with
 |none=>simp[NC,e,Ai,a,c,QD,Dm,f,Ah]
 |some w=>
  obtain⟨t,d,m⟩:=w;simp[NC,e,Ai,a,c,QD,Dm,b,Ah]
theorem kA{s0 s2:Option D}{q:Option (Str×Int×Int)}{G:DH}:∀(r:List ND)(x y:Option D),(∀s∈r,lN s.2<=1000)->∃c b,Bt (Bf 2 (Am (gV 3) (Am (gV 4) Bg))) W8 (r.map Aj) [s0,uQ (QD q),s2,x,y] G=if(r.all λs=>Dw 0 s.2&&Hf s.2 q)=uJ then .nx [s0,uQ (QD q),s2,c,b] G else .rt (.bl uX) G
 |[],x,y,_=>⟨x,y,by rw[qZ,Gb];rfl⟩
 | s::r,x,y,h=>by
  obtain⟨c,b,k⟩:=kA (s0:=s0) (s2:=s2) (G:=G) r (zI s.1) (zT (s.2.map JB.enc)) λz g=>h z (zQ _ g)
  refine⟨c,b,?_⟩;have j:=C4 (st:=s.2) G;have f:=C5 (q:=q) (h s z8) G;have a:W8 [s0,uQ (QD q),s2,zI s.1,zT (s.2.map JB.enc)] G=if(Dw 0 s.2&&Hf s.2 q)=uJ then .nx [s0,uQ (QD q),s2,zI s.1,zT (s.2.map JB.enc)] G else .rt (.bl uX) G:=by
   generalize s.2.map JB.enc=Z at*;unfold W8
   cases i:Dw 0 s.2<;>cases l:Hf s.2 q<;>simp[j,f,i,l]
  have d:Aj s=.tup [.int s.1,.tup (s.2.map JB.enc)]:=rfl;rw[zJ,Ey,d,j5];generalize s.2.map JB.enc=Z,(r.all λs=>Dw 0 s.2&&Hf s.2 q)=br at*;cases e:(Dw 0 s.2&&Hf s.2 q)with
  |true=>rw[e]at a;simp[a,k]
  |false=>rw[e]at a;simp[a]
theorem C6(h:∀s∈r,lN s.2<=1000)(G:DH):Qe [.tup (r.map Aj),QD q,.int yr] G=.ok (.bl (Fd yr r q)) G:=by
 obtain⟨d,c,b⟩:=kA (s0:=zT (r.map Aj)) (s2:=zI yr) (G:=G) r uZ uZ h;have a:=C3 (yr:=yr) (r:=r) G;unfold Fd;generalize(r.all λs=>Dw 0 s.2&&Hf s.2 q)=br,r.map Aj=R at*;unfold Qe gw;rw[Af];cases e:I9 yr r with
 |false=>rw[e]at a;simp[a,Ah]
 |true=>
  rw[e]at a;cases br with
  |_=>simp[a,b,Ah]
theorem kB{G:DH}:∀l:List RP,Bc (gV 0) Ay Yl [uZ] (l.map RP.enc) G=.ok ((l.map RP.nm).map D.str) G
 |[]=>by rw[qZ,bB];rfl
 |p::l=>by
  have a:Yl [uQ p.enc] G=.ok (.str p.nm) G:=by unfold Yl;simp
  rw[zJ,Dg];simp[a,kB (G:=G) l]
theorem kC{G:DH}:∀l:List RP,Bc (gV 0) Ay Xw [uZ] (l.map RP.enc) G=.ok ((l.map RP.nm).map D.str) G
 |[]=>by rw[qZ,bB];rfl
 |p::l=>by
  have a:Xw [uQ p.enc] G=.ok (.str p.nm) G:=by unfold Xw;simp
  rw[zJ,Dg];simp[a,kC (G:=G) l]
noncomputable def RH.A(h:RH)(k:Nat):List Str:=(h.ps.take k).map RP.nm
noncomputable def RH.B(h:RH)(k:Nat):List Str:=(h.ps.drop (k+1)).map RP.nm
def RH.rk(h:RH)(k:Nat)(p:RP):Nat:=UK h.yr (h.A k) (h.B k) p
def cM(hp:h.ps[k]?=uQ p)(hn:lN h.ps<=100)(sh:Sh p)(G:DH):
  (h.rk k p=0->Jb [h.enc,.int k] G=.ok .UA G)/\(h.rk k p≠0->∃L,Jb [h.enc,.int k] G=.err ⟨JD (h.rk k p),[("place",.int k)]⟩ (G++L)):=by
 have hk:=(zv.mp hp).1;have s:LB (h.ps.map RP.enc) (k:Int)=uQ p.enc:=Df rfl (by rw[zD,hp];rfl);have c1:cutD (h.ps.map RP.enc) uZ (uQ (k:Int))=(h.ps.take k).map RP.enc:=by rw[Jj (by rw[zV];lia),jM]
 have t:cutD (h.ps.map RP.enc) (uQ ((k:Int)+1)) uZ=(h.ps.drop (k+1)).map RP.enc:=by rw[show(k:Int)+1=((k+1:Nat):Int) by lia,Jv (by rw[zV];lia),xX]
 have v:freeze G (.ok (.tup ((h.ps.take k).map RP.enc)) G)=.ok (.tup ((h.ps.take k).map RP.enc)) G:=Ej (K4▸Pz);have y:freeze G (.ok (.tup ((h.ps.drop (k+1)).map RP.enc)) G)=.ok (.tup ((h.ps.drop (k+1)).map RP.enc)) G:=Ej (K4▸Pz);have o:=kB (G:=G) (h.ps.take k);have n:=kC (G:=G) (h.ps.drop (k+1));have lA:lN (h.A k)<=100:=by unfold RH.A;rw[zV,qH];lia
 have lB:lN (h.B k)<=100:=by unfold RH.B;rw[zV,qN];lia
 have eA:(h.ps.take k).map RP.nm=h.A k:=rfl;have eB:(h.ps.drop (k+1)).map RP.nm=h.B k:=rfl;rw[eA]at o;rw[eB]at n;have h0:∀G,Ax h.enc (.int 0) G=.ok (.int h.yr) G:=λG=>O9
 have u:∀G,Ax h.enc (.int 1) G=.ok (.tup (h.ps.map RP.enc)) G:=λG=>Q9
 unfold RH.rk;generalize(h.ps.take k).map RP.enc=EA,(h.ps.drop (k+1)).map RP.enc=EB,h.ps.map RP.enc=PS,h.A k=A,h.B k=B,h.yr=I,h.enc=H at*;have j:=CQ (G:=G) sh.nm;have m:=js (x:=p.nm) (l:=A) (G:=G);have E:=CZ (p:=p) (l:=B) G;have X:=C0 (p:=p) G;have C:freeze G (.ok (.ref (lN G)) (G++[.lst (A.map D.str)]))=.ok (.fl (A.map D.str)) G:=Az Ci;have w:freeze G (.ok (.ref (lN G)) (G++[.lst (B.map D.str)]))=.ok (.fl (B.map D.str)) G:=Az Ci
 have Y:freeze G (.ok (.ref (lN G)) (G++[.lst (((Bm p.kd).1::(Bm p.kd).2).map D.int)]))=.ok (.fl (((Bm p.kd).1::(Bm p.kd).2).map D.int)) G:=Az Fw;have U:Ng [.fl (((Bm p.kd).1::(Bm p.kd).2).map D.int)] G=.ok (.int ((Bm p.kd).2.foldl min (Bm p.kd).1)) G:=sg rfl;have Z:Fv p.kd= !decide ((Bm p.kd).2.foldl min (Bm p.kd).1<0):=rfl;generalize((Bm p.kd).1::(Bm p.kd).2).map D.int=MM,(Bm p.kd).2.foldl min (Bm p.kd).1=mm at*
 have d:lN (A.map D.str)<=1000000:=by rw[zV];lia
 have c:lN (B.map D.str)<=1000000:=by rw[zV];lia
 have lAB:lN (A.map D.str)+lN (B.map D.str)<=1000000:=by rw[zV,zV];lia
 have NC:∀S:ZB,Ao 1 [] S=[uZ]:=λ_=>rfl
 have F:(0:Int)<=(k:Int)/\(k:Int)<1000:=by lia
 have ad:By (.fl (A.map D.str)) (.fl (B.map D.str)) G=.ok (.ref (lN G)) (G++[.lst ((A++B).map D.str)]):=by rw[Yw,if_pos lAB,jx]
 have hG:(G++[DO.lst ((A++B).map D.str)])[lN G]?=uQ (.lst ((A++B).map D.str)):=by simp
 have tp:tidy G (.ok .UA (G++[.lst ((A++B).map D.str)]))=.ok .UA G:=Ik rfl;unfold UK;by_cases i:Fi A p=uX
 .refine⟨λz=>(by rw[if_pos i]at z;cases z),λ_=>⟨[],?_⟩⟩;rw[if_pos i,qY];generalize A.map D.str=f,B.map D.str=g at*;unfold Fi at i;unfold Jb Nr;rw[Af];cases e1:XH p.nm.cps.toList with
  |false=>
   rw[e1]at j;simp[u,s,Br,c1,v,NC,o,Ai,d,C,t,y,n,c,w,OA,j,ZC,F,JD]
  |true=>
   rw[e1]at i j;have e2:decide (p.nm∈A)=uJ:=by simpa using i
   rw[e2]at m;simp[u,s,Br,c1,v,NC,o,Ai,d,C,t,y,n,c,w,OA,j,m,ZC,F,JD]
 rw[if_neg i];have q1:XH p.nm.cps.toList=uJ:=by unfold Fi at i;simp at i;exact i.1
 have q2:decide (p.nm∈A)=uX:=by unfold Fi at i;simp at i;exact decide_eq_false i.2
 rw[q1]at j;rw[q2]at m;by_cases J:Hg B p=uX
 .refine⟨λz=>(by rw[if_pos J]at z;cases z),λ_=>⟨[],?_⟩⟩;rw[if_pos J,qY];rw[J]at E;generalize A.map D.str=f,B.map D.str=g at*;unfold Jb Nr;rw[Af];simp[u,s,Br,c1,v,NC,o,Ai,d,C,t,y,n,c,w,OA,j,m,E,ZC,F,JD]
 .rw [if_neg J];have q3:Hg B p=uJ:=by simpa using J
  rw[q3]at E;by_cases O:Fv p.kd=uX
  .refine⟨λz=>(by rw[if_pos O]at z;cases z),λ_=>⟨[],?_⟩⟩;rw[if_pos O,qY];have K:mm<0:=by rw[O]at Z;simpa using Z
   generalize A.map D.str=f,B.map D.str=g at*;unfold Jb Nr;rw[Af];simp[u,s,Br,c1,v,NC,o,Ai,d,C,t,y,n,c,w,OA,j,m,E,X,Y,U,K,ZC,F,JD]
  .rw [if_neg O];have K:¬mm<0:=by
    have:Fv p.kd=uJ:=by simpa using O
    rw[this]at Z;simpa using Z
   cases e:p.kd with
   |VA a b=>
    have nb:¬(("town":Str)="basin"):=by decide
    refine⟨λ_=>?_,λz=>absurd rfl z⟩;generalize A.map D.str=f,B.map D.str=g at*;unfold Jb Nr;rw[Af];simp[u,s,Br,c1,v,NC,o,Ai,d,C,t,y,n,c,w,OA,j,m,E,X,Y,U,K,e,RK.XA,nb,Ah]
   |RA a=>
    have nb:¬(("mill":Str)="basin"):=by decide
    refine⟨λ_=>?_,λz=>absurd rfl z⟩;generalize A.map D.str=f,B.map D.str=g at*;unfold Jb Nr;rw[Af];simp[u,s,Br,c1,v,NC,o,Ai,d,C,t,y,n,c,w,OA,j,m,E,X,Y,U,K,e,RK.XA,nb,Ah]
   | IA b r q=>
    have e5:∀G,Ax p.enc (.int 5) G=.ok (.tup (r.map Aj)) G:=λG=>by simp[RP.enc,RP.row,e,RK.rest]
    have e6:∀G,Ax p.enc (.int 6) G=.ok (QD q) G:=λG=>by simp[RP.enc,RP.row,e,RK.rest]
    have N:=C1 (q:=q) hG;have W:=C6 (yr:=I) (q:=q) (sh.ru b r q e) (G++[DO.lst ((A++B).map D.str)]);have t0:Jb [H,.int k] G=tidy G ((Ad (PC (Cp (Al (JA (OA Qq) (An (NA Ax (dV 3) (dC (.int 6))) (An (NA By (dV 4) (dV 5)) Bl))))) (ZC "NoPump" "place" (An (dV 1) Bl)) VC) (PC (Cp (Al (JA (OA Qe) (An (NA Ax (dV 3) (dC (.int 5))) (An (NA Ax (dV 3) (dC (.int 6))) (An (NA Ax (dV 0) (dC (.int 0))) Bl)))))) (ZC "NoRule" "place" (An (dV 1) Bl)) VC)) [uQ H,zI k,zT PS,uQ p.enc,zF (A.map D.str),zF (B.map D.str)] G).ret:=by
     generalize A.map D.str=f,B.map D.str=g at*;generalize hT:(Ad (PC (Cp (Al (JA (OA Qq) (An (NA Ax (dV 3) (dC (.int 6))) (An (NA By (dV 4) (dV 5)) Bl))))) (ZC "NoPump" "place" (An (dV 1) Bl)) VC) (PC (Cp (Al (JA (OA Qe) (An (NA Ax (dV 3) (dC (.int 5))) (An (NA Ax (dV 3) (dC (.int 6))) (An (NA Ax (dV 0) (dC (.int 0))) Bl)))))) (ZC "NoRule" "place" (An (dV 1) Bl)) VC))=T;unfold Jb Nr
     rw[Af,hT];simp[u,s,Br,c1,v,NC,o,Ai,d,C,t,y,n,c,w,OA,j,m,E,X,Y,U,K,e,RK.XA]
    rw[t0];generalize P:G++[DO.lst ((A++B).map D.str)]=G2,A.map D.str=f,B.map D.str=g,r.map Aj=RR at*;simp only;by_cases Q:Eo (A++B) q=uX
    .rw[Q]at N;refine⟨λz=>(by rw[if_pos Q]at z;cases z),λ_=>⟨[DO.lst ((A++B).map D.str)],?_⟩⟩;rw[if_pos Q,P];simp[-Yw,e6,ad,OA,N,ZC,F,JD]
    .have k4':Eo (A++B) q=uJ:=by simpa using Q
     rw[k4']at N;rw[if_neg Q];by_cases M:Fd I r q=uX
     .rw[M]at W;refine⟨λz=>(by rw[if_pos M]at z;cases z),λ_=>⟨[DO.lst ((A++B).map D.str)],?_⟩⟩;rw[if_pos M,P];simp[-Yw,e5,e6,ad,OA,N,h0,W,ZC,F,JD]
     .have k5':Fd I r q=uJ:=by simpa using M
      rw[k5']at W;rw[if_neg M];refine⟨λ_=>?_,λz=>absurd rfl z⟩;simp[-Yw,e5,e6,ad,OA,N,h0,W,tp]
def C7:("0123456789":Str).cps.toList=[48,49,50,51,52,53,54,55,56,57]:=by decide +kernel
def Pt{c:Nat}:(!(zd (Aa l) (Aa [c]) 0 (Aa l).length 1).isEmpty)=decide (c∈l):=by
 have a:c∈l↔∃i,StrLaws.At (Aa l) (Aa [c]) (Aa l).length i:=by have:=wc (Aa l) c;rw[G6]at this;exact this
 rcases StrLaws.occ_head (Aa l) (Aa [c]) 1 (zY 1)with⟨b,e⟩|⟨i,r,b,d,e⟩
 .rw[b];have:¬c∈l:=λh=>by obtain⟨i,d⟩:=a.mp h;exact e i d
  simp[this]
 rw[b];have:=a.mpr ⟨i,d⟩;simp[this]
def C8(c:Nat)(G:DH):Ek (sgn c) (.str ("0123456789":Str)) G=.ok (.bl (decide (48<=c/\c<=57))) G:=by
 have e:inD (sgn c) (.str ("0123456789":Str)) G=uQ (decide (48<=c/\c<=57)):=by
  show uQ (!(zd ("0123456789":Str) (Aa [c]) 0 ("0123456789":Str).length 1).isEmpty)=_
  rw[show("0123456789":Str)=Aa [48,49,50,51,52,53,54,55,56,57]from _D.Og (G6▸C7),Pt]
  congr 1
  rw[decide_eq_decide];simp[zZ,z5,or_false];omega +splitNatSub
 unfold Ek;rw[e]
theorem kD(G:DH):∀l:List Nat,Bc (gV 0) Ay Wj [uZ] (l.map sgn) G=.ok ((l.map λc=>decide (48<=c/\c<=57)).map D.bl) G
 |[]=>rfl
 |c::l=>by
  have a:Wj [uQ (sgn c)] G=.ok (.bl (decide (48<=c/\c<=57))) G:=by have:=C8 c G;unfold Wj;generalize sgn c=z,("0123456789":Str)=F,decide (48<=c/\c<=57)=b at*;simp[this]
  rw[zJ,Dg];simp[a,kD G l]
def WC(l:List Nat):Prop:=(1<=lN l/\lN l<=40)/\(∀c∈l,48<=c/\c<=57)/\(l=[48]\/∀r,l≠48::r)
theorem MQ:Txt.startswith (Aa l) ("0":Str)=uJ↔∃r,l=48::r:=by
 have a:("0":Str)=Aa [48]:=by decide +kernel
 rw[a];cases l with
 |nil=>
  have:Txt.startswith (Aa []) (Aa [48])=uX:=by decide +kernel
  rw[this];simp
 |cons c r=>
  rw[i7];simp
open Classical in
def kE(J:l.length<=1000000)(G:DH):Lb [.str (Aa l)] G=.ok (.bl (decide (WC l))) G:=by
 have s:=kD G l;have x:freeze G (.ok (.ref G.length) (G++[.lst ((l.map λc=>decide (48<=c/\c<=57)).map D.bl)]))=.ok (.fl ((l.map λc=>decide (48<=c/\c<=57)).map D.bl)) G:=Az (Hv λ_ _=>rfl);have A:I8 [.fl ((l.map λc=>decide (48<=c/\c<=57)).map D.bl)] G=.ok (.bl (decide (∀c∈l,48<=c/\c<=57))) G:=by
  rw[Lh]
  congr 2
  rw[Bool.eq_iff_iff];simp
 have v:((l.map λc=>decide (48<=c/\c<=57)).map D.bl).length<=1000000:=by simp;lia
 have u:Gd (.str (Aa l)) G=.ok (.pure (l.map sgn)) G:=by show R.ok (UQ.pure (signs (Aa l))) G=_;unfold signs;rw[G6]
 have g:(Aa l).length<=1000000:=by rw[Bo];lia
 have NC:∀S:ZB,Ao 1 [] S=[uZ]:=λ_=>rfl
 have B:(Aa l=("0":Str))=(l=[48]):=by rw[show("0":Str)=Aa [48] by decide +kernel,Jw]
 have f:=MQ (l:=l);have a:(Aa l).length=l.length:=Bo;by_cases k:1<=l.length/\l.length<=40
 .by_cases i:∀c∈l,48<=c/\c<=57
  .have d:I8 [.fl ((l.map λc=>decide (48<=c/\c<=57)).map D.bl)] G=.ok (.bl uJ) G:=by rw[A,decide_eq_true i]
   have m:(1:Int)<=((Aa l).length:Int):=by rw[a];lia
   have j:((Aa l).length:Int)<=40:=by rw[a];lia
   have o:(Aa l).length<=40:=by rw[a];lia
   have n:1<=(Aa l).length:=by rw[a];lia
   by_cases p:l=[48]
   .have h:decide (WC l)=uJ:=decide_eq_true ⟨k,i,.inl p⟩;have e:(Aa l=("0":Str))=True:=by rw[B];simp[p]
    rw[h];generalize(l.map λc=>decide (48<=c/\c<=57)).map D.bl=Z at*;generalize Aa l=X at*;unfold Lb Qd;rw[Af];simp[-Lh,-O6,g,m,j,o,n,u,NC,s,v,x,d,e,Ah]
   .have e:(Aa l=("0":Str))=False:=by rw[B];simp[p]
    have F:decide (WC l)= !(Txt.startswith (Aa l) ("0":Str)):=by
     cases w:Txt.startswith (Aa l) ("0":Str)with
     | true=>
      obtain⟨r,q⟩:=f.mp w;exact decide_eq_false λz=>by
       rcases z.2.2 with z|z
       .exact p z
       .exact z r q
     |false=>
      exact decide_eq_true ⟨k,i,.inr λr q=>by rw[f.mpr ⟨r,q⟩]at w;cases w⟩
    rw[F];generalize(l.map λc=>decide (48<=c/\c<=57)).map D.bl=Z at*;generalize Aa l=X at*;generalize t:Txt.startswith X ("0":Str)=b at*;unfold Lb Qd;rw[Af];simp[-Lh,-O6,g,m,j,o,n,u,NC,s,v,x,d,e,t,Ah]
  .have d:I8 [.fl ((l.map λc=>decide (48<=c/\c<=57)).map D.bl)] G=.ok (.bl uX) G:=by rw[A,decide_eq_false i]
   have m:(1:Int)<=((Aa l).length:Int):=by rw[a];lia
   have j:((Aa l).length:Int)<=40:=by rw[a];lia
   have o:(Aa l).length<=40:=by rw[a];lia
   have n:1<=(Aa l).length:=by rw[a];lia
   have h:decide (WC l)=uX:=decide_eq_false λz=>i z.2.1
   rw[h];generalize(l.map λc=>decide (48<=c/\c<=57)).map D.bl=Z at*;generalize Aa l=X at*;unfold Lb Qd;rw[Af];simp[-Lh,-O6,g,m,j,o,n,u,NC,s,v,x,d,Ah]
 .have h:decide (WC l)=uX:=decide_eq_false λz=>k z.1
  have I:¬(1<=(Aa l).length/\(Aa l).length<=40):=by rw[a];exact k
  rw[h];by_cases C:1<=(Aa l).length
  .have y:(1:Int)<=((Aa l).length:Int):=by lia
   have E:¬((Aa l).length:Int)<=40:=by lia
   have H:¬(Aa l).length<=40:=by lia
   generalize Aa l=X at*;unfold Lb Qd;rw[Af];simp[-Lh,-O6,g,C,y,E,H,Ah]
  .have y:¬(1:Int)<=((Aa l).length:Int):=by lia
   generalize Aa l=X at*;unfold Lb Qd;rw[Af];simp[-Lh,-O6,g,C,y,Ah]
def Zy(l:List Nat)(c:Nat):NumText.digitsVal (l++[c])=NumText.digitsVal l*10+(c-48):=by
 unfold NumText.digitsVal;rw[List.foldl_append]
 rfl
theorem C9:∀(k:Nat)(l:List Nat),lN l=k->(∀c∈l,48<=c/\c<=57)->NumText.digitsVal l<10^k:=by
 intro k
 induction k with
 |zero=>
  intro l b _;rw[List.length_eq_zero_iff.mp b]
  decide
 |succ k e=>
  intro l b d;have a:l≠[]:=λz=>by rw[z]at b;cases b
  have h:=e l.dropLast (by rw[List.length_dropLast];lia) λc f=>d c (List.dropLast_subset l f)
  have g:=d _ (List.getLast_mem a);rw[<-(List.dropLast_concat_getLast a),Zy,Nat.pow_succ];lia
theorem Cb:∀(k:Nat)(l:List Nat),lN l=k+1->(∀c∈l,48<=c/\c<=57)->(l=[48]\/∀r,l≠48::r)->(jJ 10 (NumText.digitsVal l)).map Char.toNat=l:=by
 intro k
 induction k with
 |zero=>
  intro l h f _;obtain⟨c,rfl⟩:=List.length_eq_one_iff.mp h;have u:=f c (by simp);have e:NumText.digitsVal [c]=c-48:=by have:=Zy [] c;simpa[NumText.digitsVal]using this
  rw[e,jw (by lia)];simp[cA (c-48) (by lia)];lia
 | succ k o=>
  intro l h f d;have b:l≠[]:=λz=>by rw[z]at h;cases h
  have e:=List.dropLast_concat_getLast b;have u:=f _ (List.getLast_mem b);generalize l.getLast b=c at*;have a:lN l.dropLast=k+1:=by rw[List.length_dropLast];lia
  generalize l.dropLast=m at*;subst e;have j:∀r,m≠48::r:=λr z=>by
   rcases d with d|d
   .have:=congrArg zU d;simp at this;rw[this]at a;simp at a
   exact d (r++[c]) (by rw[z];rfl)
  have g:=o m a (λx s=>f x (qB _ s)) (.inr j);have i:1<=NumText.digitsVal m:=by
   rcases Nat.eq_zero_or_pos (NumText.digitsVal m)with z|z
   .rw[z]at g;have q:(jJ 10 0).map Char.toNat=[48]:=by decide
    rw[q]at g;exact absurd g.symm (j [])
   exact z
  have t:=Zy m c;rw[Yz (by lia),t];have n:(NumText.digitsVal m*10+(c-48))/10=NumText.digitsVal m:=by lia
  have p:(NumText.digitsVal m*10+(c-48))%10=c-48:=by lia
  rw[n,p,jx,g];simp[cA (c-48) (by lia)];lia
def Ka(h:WC l):∃n:Int,(0<=n/\n<10^40)/\l=num n:=by
 obtain⟨⟨e,b⟩,a,d⟩:=h;obtain⟨k,hk⟩:∃k,lN l=k+1:=⟨lN l-1,by lia⟩;refine⟨((NumText.digitsVal l:Nat):Int),⟨by lia,?_⟩,?_⟩
 .have g:=C9 _ l rfl a;have f:10^lN l<=10^40:=Nat.pow_le_pow_right (by decide) b;have c:(10:Int)^40=((10^40:Nat):Int):=by decide
  rw[c];generalize 10^40=N at*;lia
 have:=Cb k l hk a d;unfold num;rw[Int.toNat_natCast];exact this.symm
def Di{n:Int}(d:0<=n)(b:n<10^40):WC (num n):=by
 refine⟨⟨List.length_pos_iff.mpr cB,Dc b⟩,Ru,?_⟩;rcases BG d with rfl|⟨c,r,e,f⟩
 .exact .inl (by decide +kernel)
 refine .inr λq a=>?_
 rw[e]at a;exact f (cj a).1
class RowOk (r:Int):Prop where
 h:0<=r/\r<1000
@[simp]theorem rok0{r:Int}[RowOk r]:0<=r:=RowOk.h.1
@[simp]theorem rok1{r:Int}[RowOk r]:r<1000:=RowOk.h.2
noncomputable abbrev JG(r:Int):Xn:=⟨"NoText",[("row",.int r)]⟩
open Classical in
def Il{n:Int}(c:0<=n)(a:n<10^40){r:D}(G:DH):Gm [.str (Aa (num n)),r] G=.ok (.int n) G:=by
 have f:=Dc a;have e:=Zb c a;have b:Px [.str (Aa (num n))] G=.ok (.int n) G:=by unfold Px;simp only[e];rw[if_pos (by rw[Bo];lia)]
 have d:=kE (l:=num n) (by lia) G;rw[decide_eq_true (Di c a)]at d;generalize Aa (num n)=X at*;unfold Gm Zg;rw[Af];simp[OA,d,b,Ah]
open Classical in
def Kp[RowOk r0](b:lN l<=1000000)(h:¬WC l)(G:DH):Gm [.str (Aa l),.int r0] G=.err (JG r0) G:=by have a:=kE b G;rw[decide_eq_false h]at a;generalize Aa l=X at*;unfold Gm Zg;rw[Af];simp[OA,a,ZC,Ah]
noncomputable def KH(r:Bool):List Nat:=if r then[114,105,118,101,114]else[112,117,109,112]
def Wv{r:Bool}:wy r=Aa (KH r):=by cases r<;>decide +kernel
noncomputable def QC(s:JB):List Nat:=num s.h++43::(num s.m++32::KH s.r)
def G8:List JB->List Nat
 |[]=>[]
 |s::r=>32::Ab [44,32] ((s::r).map QC)
def IC(s:ND):List Nat:=num s.1++58::G8 s.2
def WD(r:List ND):List Nat:=Ab [59,32] (r.map IC)
def OD(s:JB):Prop:=(0<=s.h/\s.h<10^40)/\(0<=s.m/\s.m<10^40)
def WK(s:ND):Prop:=(0<=s.1/\s.1<10^40)/\lN s.2<=4/\∀t∈s.2,OD t
structure XI (r:List ND):Prop where
 ne:r≠[]
 len:lN r<=5
 ok:∀s∈r,WK s
def Cg{n:Int}{c:Nat}(h:c<48\/57<c):c∉num n:=λa=>by have:=Ru c a;lia
def cN{r:Bool}:lN (KH r)<=5:=by cases r<;>decide
def kF{r:Bool}{c:Nat}(h:c<97):c∉KH r:=λa=>by cases r<;>simp[KH]at a<;>lia
def kG(h:OD s):lN (QC s)<=87:=by have a:=Dc h.1.2;have b:=Dc h.2.2;have c:=cN (r:=s.r);simp[QC];lia
def kH{c:Nat}(h:c=44\/c=59):c∉QC s:=λb=>by
 unfold QC at b;rcases zG.mp b with a|a
 .exact Cg (by lia) a
 rcases zZ.mp a with a|a
 .lia
 .rcases zG.mp a with a|a
  .exact Cg (by lia) a
  .rcases zZ.mp a with a|a
   .lia
   exact kF (by lia) a
theorem U7{c:Nat}:∀(ls:List (List Nat)),c∈Ab sep ls->c∈sep\/∃l∈ls,c∈l
 |[],h=>by cases h
 |[x],h=>.inr ⟨x,by simp,h⟩
 | x::y::r,h=>by
  rcases zG.mp h with a|a
  .rcases zG.mp a with a|a
   .exact .inr ⟨x,by simp,a⟩
   exact .inl a
  rcases U7 (y::r) a with b|⟨l,d,b⟩
  .exact .inl b
  exact .inr ⟨l,zQ _ d,b⟩
theorem Cc:59∉G8 st:=λa=>by
 cases st with
 |nil=>cases a
 |cons s r=>
  rcases zZ.mp a with h|h
  .lia
  rcases U7 _ h with h|⟨l,b,h⟩
  .simp at h
  .obtain⟨t,_,rfl⟩:=z7.mp b;exact kH (.inr rfl) h
def Ch{s:ND}:59∉IC s:=λb=>by
 unfold IC at b;rcases zG.mp b with a|a
 .exact Cg (by lia) a
 rcases zZ.mp a with a|a
 .lia
 exact Cc a
theorem Cn(a:lN st<=4)(h:∀t∈st,OD t):lN (G8 st)<=400:=by
 cases st with
 |nil=>simp[G8]
 |cons s r=>
  have:=Pa (sep:=[44,32]) ((s::r).map QC) λl a=>by obtain⟨t,c,rfl⟩:=z7.mp a;exact kG (h t c)
  rw[zV]at this;have b:lN (s::r)*(87+lN [44,32])<=4*(87+lN [44,32]):=jq _ a;show lN (Ab [44,32] ((s::r).map QC))+1<=400;simp only[z0,jZ]at b this;lia
def kI{s:ND}(h:WK s):lN (IC s)<=450:=by have a:=Dc h.1.2;have b:=Cn h.2.1 h.2.2;simp[IC];lia
def Co(h:XI r):lN (WD r)<=2260:=by
 have:=Pa (sep:=[59,32]) (r.map IC) λl c=>by obtain⟨t,b,rfl⟩:=z7.mp c;exact kI (h.ok t b)
 rw[zV]at this;have a:lN r*(450+lN [59,32])<=5*(450+lN [59,32]):=jq _ h.len;unfold WD;simp[z0,jZ]at a this;lia
def Kz{p q:List Nat}{c:Nat}(hp:c∉p)(a:(p++c::q).length<=1000000)(G:DH):Gk (.str (Aa (p++c::q))) [.str (Aa [c])] G=.ok (.tup [.str (Aa p),.str (Aa [c]),.str (Aa q)]) G:=by
 have e:Gk (.str (Aa (p++c::q))) [.str (Aa [c])] G=if(Aa [c]).length≠0/\(Aa (p++c::q)).length<=1000000 then .ok (.tup (part3 (Aa (p++c::q)) (Aa [c]))) G else .bad:=rfl
 rw[e,if_pos ⟨by simp,Bo▸a⟩];unfold part3;rw[Au hp]
def Cs{c:Nat}(h:c∉l):Txt.partition (Aa l) (Aa [c])=(Aa l,Str.empty,Str.empty):=by
 rcases wb (Aa l) (Aa [c])with⟨e,_⟩|⟨i,e,a,b⟩
 .exact e
 have:c∈l:=by have:=(wc (Aa l) c).mpr ⟨i,a⟩;rwa[G6]at this
 exact absurd this h
def Tg{c:Nat}(h:c∉l)(a:l.length<=1000000)(G:DH):Gk (.str (Aa l)) [.str (Aa [c])] G=.ok (.tup [.str (Aa l),.str "",.str ""]) G:=by
 have e:Gk (.str (Aa l)) [.str (Aa [c])] G=if(Aa [c]).length≠0/\(Aa l).length<=1000000 then .ok (.tup (part3 (Aa l) (Aa [c]))) G else .bad:=rfl
 rw[e,if_pos ⟨by simp,Bo▸a⟩];unfold part3;rw[Cs h]
 rfl
def kJ{r:Bool}(G:DH):Hk (.str (Aa (KH r))) (.tup [.str "river",.str "pump"]) G=.ok (.bl uX) G:=by
 have:∀r:Bool,inD (.str (Aa (KH r))) (.tup [.str "river",.str "pump"]) []=uQ uJ:=by decide +kernel
 have e:inD (.str (Aa (KH r))) (.tup [.str "river",.str "pump"]) G=inD (.str (Aa (KH r))) (.tup [.str "river",.str "pump"]) []:=rfl;unfold Hk;rw[e,this]
 rfl
def kK{w:Str}(h:∀r,w≠wy r)(G:DH):Hk (.str w) (.tup [.str "river",.str "pump"]) G=.ok (.bl uJ) G:=by
 have a:w≠"river":=h uJ;have b:w≠"pump":=h uX;have e:inD (.str w) (.tup [.str "river",.str "pump"]) G=uQ uX:=by simp[inD,Be,Li,Jl,ML,LJ,Ne.symm a,Ne.symm b]
 unfold Hk;rw[e]
 rfl
def kL(h:OD s){r:D}(G:DH):Je [.str (Aa (QC s)),r] G=.ok s.enc G:=by
 have l:=Dc h.1.2;have k:=Dc h.2.2;have n:=cN (r:=s.r);have b:=λG=>Kz (p:=num s.h) (q:=num s.m++32::KH s.r) (c:=43) (Cg (by lia)) (by simp;lia) G
 have a:=λG=>Kz (p:=num s.m) (q:=KH s.r) (c:=32) (Cg (by lia)) (by simp;lia) G
 have f:("+":Str)=Aa [43]:=by decide +kernel
 have i:(" ":Str)=Aa [32]:=by decide +kernel
 rw[<-f]at b;rw[<-i]at a;have g:=λG=>Il h.1.1 h.1.2 (r:=r) G
 have e:=λG=>Il h.2.1 h.2.2 (r:=r) G
 have w:=λG=>kJ (r:=s.r) G
 have d:QC s=num s.h++43::(num s.m++32::KH s.r):=rfl;rw[d];unfold JB.enc;rw[Wv];generalize Aa (num s.h++43::(num s.m++32::KH s.r))=o,Aa (num s.m++32::KH s.r)=t,Aa (num s.h)=j,Aa (num s.m)=v,Aa (KH s.r)=u at*;unfold Je Mi;rw[Af];simp[b,a,w,g,e,Ah]
def Ct(G:DH):Hk (.str "") (.tup [.str "river",.str "pump"]) G=.ok (.bl uJ) G:=kK (λr=>by cases r<;>decide +kernel) G
def DC[RowOk r0](h:lN l<=1000000)(G:DH):(∃s,OD s/\l=QC s)\/Je [.str (Aa l),.int r0] G=.err (JG r0) G:=by
 have y:("+":Str)=Aa [43]:=by decide +kernel
 have n:(" ":Str)=Aa [32]:=by decide +kernel
 have M:("":Str)=Aa []:=by decide +kernel
 have C:=Ct G;have H:=Tg (l:=[]) (c:=32) (by simp) (by simp) G;rw[<-n,<-M]at H;by_cases E:43∈l
 .obtain⟨p,q,rfl,hp⟩:=jG E;have a:=Kz hp h G;rw[<-y]at a;have t:lN p<=1000000:=by rw[zC,z0]at h;lia
  have b:lN q<=1000000:=by rw[zC,z0]at h;lia
  by_cases F:32∈q
  .obtain⟨m,w,rfl,N⟩:=jG F;have d:=Kz N b G;rw[<-n]at d;have k:lN m<=1000000:=by rw[zC,z0]at b;lia
   by_cases I:∃r,Aa w=wy r
   .obtain⟨r,j⟩:=I;have hw:w=KH r:=by rw[Wv,Jw]at j;exact j
    have e:=kJ (r:=r) G;rw[<-Wv,<-j]at e;by_cases f:WC p
    .obtain⟨v,⟨J,x⟩,rfl⟩:=Ka f;have c1:=Il J x (r:=.int r0) G;by_cases g:WC m
     .obtain⟨K,⟨O,P⟩,rfl⟩:=Ka g;exact .inl ⟨⟨v,K,r⟩,⟨⟨J,x⟩,O,P⟩,by rw[hw];rfl⟩
     have L:=Kp (r0:=r0) k g G;refine .inr ?_;generalize Aa (num v++43::(m++32::w))=i,Aa (m++32::w)=u,Aa (num v)=o,Aa m=B,Aa w=A at*;unfold Je Mi;rw[Af];simp[a,d,e,c1,L,Ah]
    have c1:=Kp (r0:=r0) t f G;refine .inr ?_;generalize Aa (p++43::(m++32::w))=i,Aa (m++32::w)=u,Aa p=o,Aa m=B,Aa w=A at*;unfold Je Mi;rw[Af];simp[a,d,e,c1,Ah]
   have e:=kK (λr z=>I ⟨r,z⟩) G;refine .inr ?_;generalize Aa (p++43::(m++32::w))=i,Aa (m++32::w)=u,Aa p=o,Aa m=B,Aa w=A at*;unfold Je Mi;rw[Af];simp[a,d,e,ZC,Ah]
  have d:=Tg F b G;rw[<-n]at d;refine .inr ?_;generalize Aa (p++43::q)=i,Aa q=u,Aa p=o at*;unfold Je Mi;rw[Af];simp[a,d,C,ZC,Ah]
 have a:=Tg E h G;rw[<-y]at a;refine .inr ?_;generalize Aa l=i at*;unfold Je Mi;rw[Af];simp[a,H,C,ZC,Ah]
def kM{c d:Nat}(b:∀x∈l::ls,c∉x)(a:c<256/\d<256)(f:(Ab [c,d] (l::ls)).length<=1000000)(G:DH):Cr (.str (Aa (Ab [c,d] (l::ls)))) [.str (Aa [c,d])] G=.ok (.ref G.length) (G++[.lst (((l::ls).map Aa).map D.str)]):=by
 have e:Cr (.str (Aa (Ab [c,d] (l::ls)))) [.str (Aa [c,d])] G=if(Aa [c,d]).length≠0/\(Aa (Ab [c,d] (l::ls))).length<=1000000 then .ok (.ref G.length) (G++[.lst ((Txt.split (Aa (Ab [c,d] (l::ls))) (Aa [c,d])).map D.str)])else .bad:=rfl
 rw[e,if_pos ⟨by simp,Bo▸f⟩,BA b a]
theorem Vv{it:DI}{nt:Nat}{caps:List Nat}{g:DG}{c:DB}{S:ZB}:Mj it nt caps g c te S G=(it S G).bind λJ b=>match J with
 |.pure a=>if lN a<=1000000 then(Bc g c te (Ao nt caps S) a b).bind Ai else .bad
 |_=>.bad:=rfl
theorem kN{sep:List Nat}:∀(l:List Nat)(ls:List (List Nat)),PySem.Str.join (Aa sep) ((l::ls).map Aa)=Aa (Ab sep (l::ls))
 |l,[]=>rfl
 |l,m::ls=>by show Aa l++Aa sep++PySem.Str.join (Aa sep) ((m::ls).map Aa)=Aa (l++sep++Ab sep (m::ls));rw[kN (sep:=sep) m ls,We,We]
def DF(u:List Nat)(c d:Nat):∃(l:List Nat)(ls:List (List Nat)),Txt.split (Aa u) (Aa [c,d])=(l::ls).map Aa/\Ab [c,d] (l::ls)=u:=by
 have b:=StrLaws.join_split (Aa u) (Aa [c,d]);have a:∃p r,Txt.split (Aa u) (Aa [c,d])=p::r:=by
  unfold Txt.split;split
  .exact⟨_,_,rfl⟩
  split
  .exact⟨_,_,rfl⟩
  .rw[StrLaws.partsBetween_eq];exact StrLaws.partsFrom_ne _ _ _ _
 obtain⟨p,r,e⟩:=a;have f:r=(r.map λs=>s.cps.toList).map Aa:=by
  rw[qA];have:(Aa ∘ λs:Str=>s.cps.toList)=id:=by funext s;exact bz.symm
  rw[this,List.map_id]
 have hp:p=Aa p.cps.toList:=bz;generalize p.cps.toList=l,(r.map λs=>s.cps.toList)=ls at*;subst hp;subst f;refine⟨l,ls,e,?_⟩;rw[e]at b;have:=kN (sep:=[c,d]) l ls;rw[zJ]at this;rw[this,Jw]at b;exact b
theorem Ug{c d:Nat}:∀(ls:List (List Nat)),lN ls<=lN (Ab [c,d] ls)+1
 |[] |[x]=>by simp
 |x::y::r=>by have a:=Ug (c:=c) (d:=d) (y::r);show lN (y::r)+1<=lN (x++[c,d]++Ab [c,d] (y::r))+1;rw[zC,zC];simp[z0,jZ]at a⊢;lia
theorem Hj{sep:List Nat}:∀(ls:List (List Nat))(x:List Nat),x∈ls->lN x<=lN (Ab sep ls)
 |[],_,h=>by cases h
 |[y],x,h=>by
  have:x=y:=by simpa using h
  subst this;exact zY _
 |y::z::r,x,h=>by
  have e:Ab sep (y::z::r)=y++sep++Ab sep (z::r):=rfl;rw[e,zC,zC];rcases zZ.mp h with rfl|h
  .lia
  have:=Hj (sep:=sep) (z::r) x h;lia
def kO(c d:Nat)(a:u.length<=1000000):∃(l:List Nat)(ls:List (List Nat)),Ab [c,d] (l::ls)=u/\∀G,Cr (.str (Aa u)) [.str (Aa [c,d])] G=.ok (.ref G.length) (G++[.lst (((l::ls).map Aa).map D.str)]):=by
 obtain⟨l,ls,e,f⟩:=DF u c d;refine⟨l,ls,f,λG=>?_⟩;have b:Cr (.str (Aa u)) [.str (Aa [c,d])] G=if(Aa [c,d]).length≠0/\(Aa u).length<=1000000 then .ok (.ref G.length) (G++[.lst ((Txt.split (Aa u) (Aa [c,d])).map D.str)])else .bad:=rfl
 rw[b,if_pos ⟨by simp,Bo▸a⟩,e]
theorem kP{r:D}(G:DH):∀st:List JB,(∀s∈st,OD s)->Bc (gV 0) Ay J7 [uZ,uQ r] (((st.map QC).map Aa).map D.str) G=.ok (st.map JB.enc) G
 |[],_=>rfl
 |s::st,h=>by
  have a:=kL (h s (by simp)) (r:=r) G;have b:J7 [zS (Aa (QC s)),uQ r] G=.ok s.enc G:=by generalize Aa (QC s)=X at*;unfold J7;simp[a]
  rw[zJ,zJ,zJ,Dg];simp only[Cm,R.Es,q8,Hc,if_true,b,kP (r:=r) G st λx c=>h x (zQ _ c)]
  rfl
theorem kQ{r0:Int}[RowOk r0](G:DH):∀ls:List (List Nat),(∀l∈ls,lN l<=1000000)->(∃st:List JB,(∀s∈st,OD s)/\ls=st.map QC)\/Bc (gV 0) Ay J7 [uZ,zI r0] ((ls.map Aa).map D.str) G=.err (JG r0) G
 |[],_=>.inl ⟨[],by simp,rfl⟩
 | l::ls,h=>by
  rcases DC (r0:=r0) (h l (by simp)) G with⟨s,d,rfl⟩|b
  .have g:=kL d (r:=.int r0) G;have b:J7 [zS (Aa (QC s)),zI r0] G=.ok s.enc G:=by generalize Aa (QC s)=X at*;unfold J7;simp[g]
   rcases kQ (r0:=r0) G ls λx f=>h x (zQ _ f)with⟨st,c,rfl⟩|e
   .exact .inl ⟨s::st,jE.mpr ⟨d,c⟩,rfl⟩
   refine .inr ?_;rw[zJ,zJ,Dg];simp only[Cm,R.Es,q8,Hc,if_true,b,e,R.Nf]
  refine .inr ?_;have a:J7 [zS (Aa l),zI r0] G=.err (JG r0) G:=by generalize Aa l=X at*;unfold J7;simp[b]
  rw[zJ,zJ,Dg];simp[Cm,R.Es,q8,Hc,if_true,a,R.Nf]
def DJ{c:Nat}(h:lN l<1000000)(G:DH):Gr (.str (Aa (c::l))) (uQ 1) uZ G=.ok (.str (Aa l)) G:=by
 rw[Du,if_pos (by rw[Bo,z0];lia)];show R.ok (D.str (Aa (cutD (Aa (c::l)).cps.toList (uQ 1) uZ))) G=_;rw[G6];have:=Jv (xs:=c::l) (a:=1) (by simp);have e:cutD (c::l) (uQ 1) uZ=(c::l).drop 1:=this;rw[e]
 rfl
theorem kR:Txt.startswith (Aa l) (" ":Str)=uJ↔∃r,l=32::r:=by
 have a:(" ":Str)=Aa [32]:=by decide +kernel
 rw[a];cases l with
 |nil=>
  have:Txt.startswith (Aa []) (Aa [32])=uX:=by decide +kernel
  rw[this];simp
 |cons c r=>
  rw[i7];simp
theorem kT(m:lN u<1000000)(p:Ab [44,32] (l::ls)=u)(j:∀G,Cr (.str (Aa u)) [.str (Aa [44,32])] G=.ok (.ref (lN G)) (G++[.lst (((l::ls).map Aa).map D.str)])){r:D}(G:DH):
  Ln [.str (Aa (32::u)),r] G=(match Bc (gV 0) Ay J7 [uZ,uQ r] (((l::ls).map Aa).map D.str) G with
   |.ok ds e=>tidy G ((freeze G ((R.ok ds e).bind Ai)).bind λd h=>Eb [d] h)
   |.err x e=>.err x e
   |.bad=>.bad):=by
 have s:("":Str)=Aa []:=by decide +kernel
 have o:(", ":Str)=Aa [44,32]:=by decide +kernel
 have g:¬Aa (32::u)=("":Str):=by rw[s,Jw];simp
 have f:=kR.mpr ⟨u,rfl⟩;have i:=DJ (c:=32) m G;rw[<-o]at j;have q:freeze G (.ok (.ref (lN G)) (G++[.lst (((l::ls).map Aa).map D.str)]))=.ok (.fl (((l::ls).map Aa).map D.str)) G:=Az Ci;have fs:∀(x:Str)(G:DH),freeze G (.ok (.str x) G)=.ok (.str x) G:=λx G=>Ej rfl
 have n:lN (((l::ls).map Aa).map D.str)<=1000000:=by have:=Ug (c:=44) (d:=32) (l::ls);rw[p]at this;rw[zV,zV];lia
 have NC:∀a b:Option D,Ao 1 [1] [a,b]=[uZ,b]:=λ_ _=>rfl
 generalize Aa (32::u)=t,Aa u=v,((l::ls).map Aa).map D.str=k at*;unfold Ln Wx;rw[Af];simp[-Du,Vv,g,f,i,fs,j,q,NC,n,Ah];cases Bc (gV 0) Ay J7 [uZ,uQ r] k G with
 | ok ds e=>
  simp;generalize freeze G (if lN ds<=1000000 then R.ok (D.ref (zU e)) (e++[DO.lst ds])else R.bad)=z;cases z with
  |ok d h=>
   simp
   cases Eb [d] h<;>rfl
  |_=>rfl
 |err x e=>simp
 |bad=>rfl
theorem DK(st:List JB):lN st<=lN (G8 st):=by
 cases st with
 |nil=>simp
 |cons s r=>
  have:=Ug (c:=44) (d:=32) ((s::r).map QC);rw[zV]at this;exact this
theorem DL(f:lN (G8 st)<=1000000)(h:∀s∈st,OD s){r:D}(G:DH):Ln [.str (Aa (G8 st)),r] G=.ok (.tup (st.map JB.enc)) G:=by
 have l:("":Str)=Aa []:=by decide +kernel
 have d:=DK st;cases st with
 |nil=>
  have e:G8 []=[]:=rfl;rw[e,<-l];unfold Ln Wx;rw[Af];simp[Ah]
 |cons s st=>
  have e:G8 (s::st)=32::Ab [44,32] ((s::st).map QC):=rfl;rw[e]at d f⊢;have g:lN (Ab [44,32] ((s::st).map QC))<1000000:=by rw[z0]at f;lia
  have c:=λG=>kM (λx k=>by have a:x∈(s::st).map QC:=k;obtain⟨t,_,rfl⟩:=z7.mp a;exact kH (.inl rfl)) (by decide) (qE g) G
  rw[kT g rfl c];have m:((QC s::st.map QC).map Aa).map D.str=(((s::st).map QC).map Aa).map D.str:=rfl;rw[m,kP (r:=r) G (s::st) h];have b:freeze G (.ok (.ref (lN G)) (G++[.lst ((s::st).map JB.enc)]))=.ok (.fl ((s::st).map JB.enc)) G:=Az bx;have j:lN ((s::st).map JB.enc)<=1000000:=by rw[zV];lia
  have i:MA (lN G) ((s::st).map JB.enc)=uJ:=bx;generalize(s::st).map JB.enc=n at*;simp[j,b,i,Ah]
theorem DM[RowOk r0](o:lN l<=1000000)(G:DH):(∃st,(∀s∈st,OD s)/\l=G8 st)\/Ln [.str (Aa l),.int r0] G=.err (JG r0) G:=by
 have m:("":Str)=Aa []:=by decide +kernel
 cases l with
 |nil=>exact .inl ⟨[],by simp,rfl⟩
 | cons c u=>
  by_cases g:c=32
  .subst g;have j:lN u<1000000:=by rw[z0]at o;lia
   obtain⟨l,f,b,p⟩:=kO (u:=u) 44 32 (by lia);rcases kQ (r0:=r0) G (l::f) λx i=>by have:=Hj (sep:=[44,32]) (l::f) x i;rw[b]at this;lia with⟨st,a,e⟩|n
   .cases st with
    |nil=>cases e
    |cons s st=>
     refine .inl ⟨s::st,a,?_⟩;rw[<-b,e]
     rfl
   refine .inr ?_;rw[kT j b p,n]
  refine .inr ?_;have d:¬Aa (c::u)=("":Str):=by rw[m,Jw];simp
  have a:Txt.startswith (Aa (c::u)) (" ":Str)=uX:=by
   cases k:Txt.startswith (Aa (c::u)) (" ":Str)with
   |false=>rfl
   |true=>
    obtain⟨r,h⟩:=kR.mp k;exact absurd (cj h).1 g
  generalize Aa (c::u)=X at*;unfold Ln Wx;rw[Af];simp[d,a,ZC,Ah]
def ZN(s:ND):Prop:=(0<=s.1/\s.1<10^40)/\∀t∈s.2,OD t
def kU{s:ND}(h:ZN s)(b:lN (IC s)<=1000000){r:D}(G:DH):Lp [.str (Aa (IC s)),r] G=.ok (Aj s) G:=by
 have e:IC s=num s.1++58::G8 s.2:=rfl;rw[e]at b⊢;have c:=λG=>Kz (Cg (by lia)) b G
 have j:lN (G8 s.2)<=1000000:=by rw[zC,z0]at b;lia
 have i:(":":Str)=Aa [58]:=by decide +kernel
 rw[<-i]at c;have g:=λG=>Il h.1.1 h.1.2 (r:=r) G
 have f:=λG=>DL j h.2 (r:=r) G
 have a:¬(":":Str)=("":Str):=by decide +kernel
 unfold Aj;have d:MA (lN G) (s.2.map JB.enc)=uJ:=bx;generalize Aa (num s.1++58::G8 s.2)=l,Aa (num s.1)=m,Aa (G8 s.2)=k,s.2.map JB.enc=n at*;unfold Lp Rp;rw[Af];simp[c,a,g,f,d,Ah]
def DN[RowOk r0](c:lN l<=1000000)(G:DH):(∃s,ZN s/\l=IC s)\/Lp [.str (Aa l),.int r0] G=.err (JG r0) G:=by
 have j:(":":Str)=Aa [58]:=by decide +kernel
 have b:¬(":":Str)=("":Str):=by decide +kernel
 by_cases i:58∈l
 .obtain⟨p,q,rfl,hp⟩:=jG i;have a:=Kz hp c G;rw[<-j]at a;have f:lN p<=1000000:=by rw[zC,z0]at c;lia
  have d:lN q<=1000000:=by rw[zC,z0]at c;lia
  by_cases g:WC p
  .obtain⟨n,⟨k,h⟩,rfl⟩:=Ka g;have c1:=Il k h (r:=.int r0) G;rcases DM (r0:=r0) d G with⟨t,e,rfl⟩|u
   .exact .inl ⟨(n,t),⟨⟨k,h⟩,e⟩,rfl⟩
   refine .inr ?_;generalize Aa (num n++58::q)=m,Aa (num n)=v,Aa q=o at*;unfold Lp Rp;rw[Af];simp[a,b,c1,u,Ah]
  have c1:=Kp (r0:=r0) f g G;refine .inr ?_;generalize Aa (p++58::q)=m,Aa p=v,Aa q=o at*;unfold Lp Rp;rw[Af];simp[a,b,c1,Ah]
 have a:=Tg i c G;rw[<-j]at a;refine .inr ?_;generalize Aa l=m at*;unfold Lp Rp;rw[Af];simp[a,ZC,Ah]
theorem kW{r:D}(G:DH):∀ss:List ND,(∀s∈ss,ZN s/\lN (IC s)<=1000000)->Bc (gV 0) Ay J9 [uZ,uQ r] (((ss.map IC).map Aa).map D.str) G=.ok (ss.map Aj) G
 |[],_=>rfl
 |s::ss,h=>by
  have a:=kU (h s (by simp)).1 (h s (by simp)).2 (r:=r) G;have b:J9 [zS (Aa (IC s)),uQ r] G=.ok (Aj s) G:=by generalize Aa (IC s)=X at*;unfold J9;simp[a]
  rw[zJ,zJ,zJ,Dg];simp only[Cm,R.Es,q8,Hc,if_true,b,kW (r:=r) G ss λx c=>h x (zQ _ c)]
  rfl
theorem kX{r0:Int}[RowOk r0](G:DH):∀ls:List (List Nat),(∀l∈ls,lN l<=1000000)->(∃ss:List ND,(∀s∈ss,ZN s)/\ls=ss.map IC)\/Bc (gV 0) Ay J9 [uZ,zI r0] ((ls.map Aa).map D.str) G=.err (JG r0) G
 |[],_=>.inl ⟨[],by simp,rfl⟩
 | l::ls,h=>by
  rcases DN (r0:=r0) (h l (by simp)) G with⟨s,d,rfl⟩|b
  .have i:=kU d (h _ (by simp)) (r:=.int r0) G;have b:J9 [zS (Aa (IC s)),zI r0] G=.ok (Aj s) G:=by generalize Aa (IC s)=X at*;unfold J9;simp[i]
   rcases kX (r0:=r0) G ls λx g=>h x (zQ _ g)with⟨f,c,rfl⟩|e
   .exact .inl ⟨s::f,jE.mpr ⟨d,c⟩,rfl⟩
   refine .inr ?_;rw[zJ,zJ,Dg];simp only[Cm,R.Es,q8,Hc,if_true,b,e,R.Nf]
  refine .inr ?_;have a:J9 [zS (Aa l),zI r0] G=.err (JG r0) G:=by generalize Aa l=X at*;unfold J9;simp[b]
  rw[zJ,zJ,Dg];simp[Cm,R.Es,q8,Hc,if_true,a,R.Nf]
theorem kY[RowOk r0](n:lN u<1000000)(j:Ab [59,32] (l::ls)=u)(g:∀G,Cr (.str (Aa u)) [.str (Aa [59,32])] G=.ok (.ref (lN G)) (G++[.lst (((l::ls).map Aa).map D.str)]))(G:DH):
  Mz [.str (Aa u),.int r0] G=(match Bc (gV 0) Ay J9 [uZ,zI r0] (((l::ls).map Aa).map D.str) G with
   |.ok ds e=>tidy G ((freeze G ((R.ok ds e).bind Ai)).bind λd f=>Eb [d] f)
   |.err x e=>.err x e
   |.bad=>.bad):=by
 have m:("; ":Str)=Aa [59,32]:=by decide +kernel
 rw[<-m]at g;have k:freeze G (.ok (.ref (lN G)) (G++[.lst (((l::ls).map Aa).map D.str)]))=.ok (.fl (((l::ls).map Aa).map D.str)) G:=Az Ci;have i:lN (((l::ls).map Aa).map D.str)<=1000000:=by have:=Ug (c:=59) (d:=32) (l::ls);rw[j]at this;rw[zV,zV];lia
 have NC:∀a b:Option D,Ao 1 [1] [a,b]=[uZ,b]:=λ_ _=>rfl
 generalize Aa u=o,((l::ls).map Aa).map D.str=h at*;unfold Mz gz;rw[Af];simp[Vv,g,k,NC,i,Ah];cases Bc (gV 0) Ay J9 [uZ,zI r0] h G with
 | ok ds e=>
  simp;generalize freeze G (if lN ds<=1000000 then R.ok (D.ref (zU e)) (e++[DO.lst ds])else R.bad)=z;cases z with
  |ok d f=>
   simp
   cases Eb [d] f<;>rfl
  |_=>rfl
 |err x e=>simp
 |bad=>rfl
structure QM (r:List ND):Prop where
 ne:r≠[]
 ok:∀s∈r,ZN s
def Dq(h:l.length+l'.length<=1000000)(G:DH):By (.str (Aa l)) (.str (Aa l')) G=.ok (.str (Aa (l++l'))) G:=by
 have e:By (.str (Aa l)) (.str (Aa l')) G=if(Aa l).length+(Aa l').length<=1000000 then .ok (.str (Aa l++Aa l')) G else .bad:=rfl
 rw[e,if_pos (by rw[Bo,Bo];exact h),We]
theorem kZ{c:Nat}:∀(ls:List (List Nat))(l:List Nat)(a f:Nat)(b:List Nat),(∀x∈l::ls,c∉x)->L.drop a=Ab [c] (l::ls)->a<=L.length->
  StrLaws.ChainG (Aa L) (Aa [c]) (Aa L).length a b f->(∀k,f<=k->¬StrLaws.At (Aa L) (Aa [c]) (Aa L).length k)->StrLaws.partsFrom (Aa L) 1 a b=(l::ls).map Aa
 | [],l,a,f,b,o,g,y,d,s=>by
  have q:Ab [c] [l]=l:=rfl;rw[q]at g;have j:∀k,a<=k->¬StrLaws.At (Aa L) (Aa [c]) (Aa L).length k:=λk hk h=>by
   have i:=(Et.mp h).2;have e:L.drop k=(L.drop a).drop (k-a):=by rw[qk];congr 1;lia
   rw[e,g]at i;cases t:l.drop (k-a)with
   |nil=>rw[t]at i;cases i
   |cons x r=>
    rw[t]at i;simp at i;exact o l (by simp) (i▸qP (t▸z8 ..))
  cases b with
  |nil=>
   show[qf (Aa L) a (Aa L).length]=[Aa l];rw[Jq,Bo,g]
   congr 2
   have:l.length=L.length-a:=by rw[<-g];simp
   exact qI (by lia)
  |cons k r=>exact absurd d.2.1 (j k d.1)
 | m::ls,l,a,f,b,o,g,y,d,s=>by
  have q:Ab [c] (l::m::ls)=l++[c]++Ab [c] (m::ls):=rfl;rw[q]at g;have v:L.length=a+(l.length+1+(Ab [c] (m::ls)).length):=by have:=congrArg zU g;simp at this;lia
  have u:L.drop (a+l.length)=[c]++Ab [c] (m::ls):=by rw[<-qk,g];simp
  have n:StrLaws.At (Aa L) (Aa [c]) (Aa L).length (a+l.length):=Et.mpr ⟨by simp;lia,by rw[u];simp⟩;have j:∀k,a<=k->k<a+l.length->¬StrLaws.At (Aa L) (Aa [c]) (Aa L).length k:=λk i w h=>by
   have p:=(Et.mp h).2;have e:L.drop k=(L.drop a).drop (k-a):=by rw[qk];congr 1;lia
   have hk:k-a<l.length:=by lia
   rw[e,g,qW]at p;exact o l (by simp) (Wb hk p)
  cases b with
  |nil=>
   have E:f=a:=d;exact absurd n (s _ (by lia))
  | cons k r=>
   obtain⟨i,w,p,A⟩:=d;have hk:k=a+l.length:=by
    rcases jj k (a+l.length)with z|z|z
    .exact absurd w (j k i z)
    .exact z
    exact absurd n (p _ (by lia) z)
   subst hk;have C:=kZ ls m (a+l.length+1) f r (λx B=>o x (zQ _ B)) (by rw[<-qk,u];simp) (by lia) A s;show qf (Aa L) a (a+l.length)::StrLaws.partsFrom (Aa L) 1 (a+l.length+1) r=Aa l::_;rw[C,Jq,g]
   congr 2
   rw[show a+l.length-a=l.length by lia,qW,j8 (zY _),jV]
theorem W4{c:Nat}(k:∀x∈l::ls,c∉x)(d:c<256):Txt.split (Aa (Ab [c] (l::ls))) (Aa [c])=(l::ls).map Aa:=by
 obtain⟨f,e,h⟩:=StrLaws.occ_tight (Aa (Ab [c] (l::ls))) (Aa [c]) (by simp);have hp:=kZ ls l 0 f _ k rfl (by lia) e h;cases ls with
 |nil=>
  have g:Ab [c] [l]=l:=rfl;rw[g]at*;unfold Txt.split;split
  .rfl
  split
  .rfl
  .rw[StrLaws.partsBetween_eq];exact hp
 | cons b ls=>
  have a:StrLaws.At (Aa (Ab [c] (l::b::ls))) (Aa [c]) (Aa (Ab [c] (l::b::ls))).length l.length:=Et.mpr (by have g:Ab [c] (l::b::ls)=l++[c]++Ab [c] (b::ls):=rfl;rw[g];exact⟨by simp,by simp⟩)
  unfold Txt.split;rw[if_neg,if_neg]
  .rw[StrLaws.partsBetween_eq];exact hp
  .intro i;rw[jF.mp i]at e;have n:f=0:=e;exact h l.length (by lia) a
  have hk:zc (Aa [c])=1:=by unfold zc Aa;rw[if_pos];simp[d]
  have j:1<=zc (Aa (Ab [c] (l::b::ls))):=by
   unfold zc;split
   .exact zY _
   split <;> lia
  have m:=a.1;rw[hk];simp only[j6,decide_eq_true_eq,not_or];lia
theorem cO(s sub:Str)(hi a lo:Nat)(hw:1<=sub.length):∀(m b:Nat)(st:Array Nat×Nat),StrLaws.ChainG s sub hi lo st.fst.toList st.snd->(st.fst.size<a->∀k,st.snd<=k->k<b->¬StrLaws.At s sub hi k)->st.fst.size<=a->
  StrLaws.ChainG s sub hi lo (forIn (qD b m) st (StrLaws.occBody s sub hi a)).run.fst.toList (forIn (qD b m) st (StrLaws.occBody s sub hi a)).run.snd/\
  ((forIn (qD b m) st (StrLaws.occBody s sub hi a)).run.fst.size<a->∀k,(forIn (qD b m) st (StrLaws.occBody s sub hi a)).run.snd<=k->k<b+m->¬StrLaws.At s sub hi k)
 |0,b,st,h,d,_=>⟨h,d⟩
 | m+1,b,st,h,d,n=>by
  rw[List.range'_succ,xY];unfold StrLaws.occBody;have e:b+(m+1)=(b+1)+m:=by lia
  rw[e];split
  .rename_i c;refine cO s sub hi a lo hw m (b+1) (st.fst.push b,b+sub.length) ?_ ?_ ?_
   .rw[Array.toList_push];exact StrLaws.chainG_snoc h c.1.1.2 ⟨c.1.2,c.2⟩ (d c.1.1.1)
   .intro _ k f j;lia
   rw[Array.size_push];have:=c.1.1.1;lia
  rename_i c;refine cO s sub hi a lo hw m (b+1) (st.fst,st.snd) h ?_ n;intro i k f j g;by_cases hk:k<b
  .exact d i k f hk g
  .have l:k=b:=by lia
   subst l;exact c ⟨⟨⟨i,f⟩,g.1⟩,g.2⟩
def k6(x y:Str)(a:Nat)(hw:1<=y.length):∃f,StrLaws.ChainG x y x.length 0 (zd x y 0 x.length a) f/\((zd x y 0 x.length a).length<a->∀k,f<=k->¬StrLaws.At x y x.length k):=by rw[StrLaws.occ_eq];have b:=cO x y x.length a 0 hw (x.length+1-0) 0 ((#[]:Array Nat),0) rfl (λ_ k _ h=>by lia) (by simp);exact⟨_,b.1,λd k hk c=>(b.2 (by simpa using d) k hk (by have:=c.1;lia) c)⟩
theorem k7{c:Nat}{rest:List Nat}:∀(ws:List (List Nat))(a f:Nat)(b:List Nat),(∀x∈ws,c∉x)->L.drop a=Ab [c] (ws++[rest])->a<=L.length->b.length<=ws.length->
  StrLaws.ChainG (Aa L) (Aa [c]) (Aa L).length a b f->(b.length<ws.length->∀k,f<=k->¬StrLaws.At (Aa L) (Aa [c]) (Aa L).length k)->StrLaws.partsFrom (Aa L) 1 a b=(ws++[rest]).map Aa
 | [],a,f,b,s,v,H,i,j,t=>by
  have m:L.drop a=rest:=v;cases b with
  |nil=>
   show[qf (Aa L) a (Aa L).length]=[Aa rest];rw[Jq,Bo,m]
   congr 2
   have:rest.length=L.length-a:=by rw[<-m];simp
   exact qI (by lia)
  |cons k r=>simp at i
 | l::g,a,f,b,s,v,H,i,j,t=>by
  obtain⟨A,o,q⟩:∃A o,g++[rest]=A::o:=by cases g with |nil=>exact⟨_,_,rfl⟩|cons x y=>exact⟨_,_,rfl⟩
  have F:Ab [c] (l::(g++[rest]))=l++[c]++Ab [c] (g++[rest]):=by rw[q];rfl
  have d:L.drop a=l++[c]++Ab [c] (g++[rest]):=by rw[<-F];exact v
  have B:L.length=a+(l.length+1+(Ab [c] (g++[rest])).length):=by have:=congrArg zU d;simp at this;lia
  have w:L.drop (a+l.length)=[c]++Ab [c] (g++[rest]):=by rw[<-qk,d];simp
  have n:StrLaws.At (Aa L) (Aa [c]) (Aa L).length (a+l.length):=Et.mpr ⟨by simp;lia,by rw[w];simp⟩;have u:∀k,a<=k->k<a+l.length->¬StrLaws.At (Aa L) (Aa [c]) (Aa L).length k:=λk C E h=>by
   have p:=(Et.mp h).2;have e:L.drop k=(L.drop a).drop (k-a):=by rw[qk];congr 1;lia
   have hk:k-a<l.length:=by lia
   rw[e,d,qW]at p;exact s l (by simp) (Wb hk p)
  cases b with
  |nil=>
   have M:f=a:=j;exact absurd n (t (by simp) _ (by lia))
  | cons k r=>
   obtain⟨C,E,p,I⟩:=j;have hk:k=a+l.length:=by
    rcases jj k (a+l.length)with z|z|z
    .exact absurd E (u k C z)
    .exact z
    exact absurd n (p _ (by lia) z)
   subst hk;have K:=k7 (rest:=rest) g (a+l.length+1) f r (λx J=>s x (zQ _ J)) (by rw[<-qk,w];simp) (by lia) (by simpa using i) I (λz=>t (by simpa using z));show qf (Aa L) a (a+l.length)::StrLaws.partsFrom (Aa L) 1 (a+l.length+1) r=Aa l::_;rw[K,Jq,d]
   congr 2
   rw[show a+l.length-a=l.length by lia,qW,j8 (zY _),jV]
def DP{c:Nat}{ws:List (List Nat)}{rest:List Nat}(o:∀x∈ws,c∉x)(g:c<256)(hw:ws≠[]):Txt.splitMax (Aa (Ab [c] (ws++[rest]))) (Aa [c]) (ws.length:Int)=(ws++[rest]).map Aa:=by
 obtain⟨f,h,e⟩:=k6 (Aa (Ab [c] (ws++[rest]))) (Aa [c]) ws.length (by simp);have hp:=k7 ws 0 f _ o rfl (by lia) (StrLaws.occ_length_le (Aa (Ab [c] (ws++[rest]))) (Aa [c]) 0 (Aa (Ab [c] (ws++[rest]))).length ws.length) h e;have el:limitOf (Aa (Ab [c] (ws++[rest]))) (ws.length:Int)=ws.length:=by unfold limitOf;rw[if_neg (by lia)];lia
 obtain⟨l,a,rfl⟩:∃l a,ws=l::a:=by cases ws with |nil=>exact absurd rfl hw|cons l a=>exact⟨l,a,rfl⟩
 obtain⟨j,d,i⟩:∃j d,a++[rest]=j::d:=by cases a with |nil=>exact⟨_,_,rfl⟩|cons x y=>exact⟨_,_,rfl⟩
 have k:Ab [c] ((l::a)++[rest])=l++[c]++Ab [c] (a++[rest]):=by rw[List.cons_append,i];rfl
 have b:StrLaws.At (Aa (Ab [c] ((l::a)++[rest]))) (Aa [c]) (Aa (Ab [c] ((l::a)++[rest]))).length l.length:=Et.mpr (by rw[k];exact⟨by simp,by simp⟩)
 unfold Txt.splitMax;rw[el,if_neg,if_neg]
 .rw[StrLaws.partsBetween_eq];exact hp
 .intro m;rw[jF.mp m]at h e;have q:f=0:=h;exact e (by simp) l.length (by lia) b
 have hk:zc (Aa [c])=1:=by unfold zc Aa;rw[if_pos];simp[g]
 have n:1<=zc (Aa (Ab [c] ((l::a)++[rest]))):=by
  unfold zc;split
  .exact zY _
  split <;> lia
 have p:=b.1;rw[hk];simp only[j6,decide_eq_true_eq,not_or];lia
noncomputable def wl(s:Str):List Nat:=s.cps.toList
def Gw{s:Str}:Aa (wl s)=s:=bz.symm
@[simp]theorem U4:wl (Aa l)=l:=by simp[wl]
def RC(z:List Nat):Prop:=z≠[]/\∀c∈z,97<=c/\c<=122
def RC.no{z:List Nat}(h:RC z){c:Nat}(a:c<97):c∉z:=λm=>by have:=h.2 c m;lia
theorem DQ{z:Str}(G:DH):Bc (gV 0) Ay Wy [uZ] (signs z) G=.ok ((z.cps.toList.map small).map D.bl) G:=by
 have:=R4 (g:=gV 0) (c:=Ay) (te:=Wy) (S:=[uZ]) (G:=G) (F:=λd=>match d with | .str x=>zB (small (x.cps.getD 0 0))|_=>uZ) (xs:=signs z) (λx b=>by obtain⟨c,_,rfl⟩:=z7.mp b;refine⟨[uQ (sgn c)],rfl,.inr ⟨rfl,.bl (small c),?_,rfl⟩⟩;unfold Wy;simp[jr])
 rw[this]
 congr 1
 unfold signs
 induction z.cps.toList with
 |nil=>rfl
 |cons c r a=>simp only[zJ,qx,sgn,a];rfl
section
variable{r0:Int}[RowOk r0]{z:List Nat}(hz:z.length<=1000000)(G:DH)
include hz
theorem k8{k:Bool}(hk:k=z.all small)(g:z≠[]):J1 [.str (Aa z),.int r0] G=if k=uJ then .ok (.str (Aa z)) G else .err (JG r0) G:=by
 have b:(Aa z).length<=1000000:=Bo▸hz;have f:("":Str)=Aa []:=by decide +kernel
 have c:¬Aa z="":=λe=>g (by rw[f,Jw]at e;exact e)
 have i:=DQ (z:=Aa z) G;have a:(((Aa z).cps.toList.map small).map D.bl).length<=1000000:=by simp;exact hz
 have d:freeze G (.ok (.ref G.length) (G++[.lst (((Aa z).cps.toList.map small).map D.bl)]))=.ok (.fl (((Aa z).cps.toList.map small).map D.bl)) G:=Az fM;have h:I8 [.fl (((Aa z).cps.toList.map small).map D.bl)] G=.ok (.bl k) G:=by
  rw[Lh]
  congr 2
  rw[hk,List.all_map];simp
 have NC:∀S:ZB,Ao 1 [] S=[uZ]:=λ_=>rfl
 generalize((Aa z).cps.toList.map small).map D.bl=bs at*;generalize Aa z=X at*;clear hk;unfold J1 Z9;rw[Af]
 cases k<;>simp[OA,c,b,NC,i,Ai,a,d,h,ZC,Ah]
theorem Um(h:RC z):J1 [.str (Aa z),.int r0] G=.ok (.str (Aa z)) G:=by rw[k8 hz G rfl h.1,if_pos];rw[qX];exact λc a=>decide_eq_true (h.2 c a)
theorem U8(h:¬RC z):J1 [.str (Aa z),.int r0] G=.err (JG r0) G:=by
 by_cases a:z=[]
 .have d:("":Str)=Aa []:=by decide +kernel
  rw[a,<-d];unfold J1 Z9;rw[Af];simp[OA,ZC,Ah]
 rw[k8 hz G rfl a,if_neg];rw[qX];exact λq=>h ⟨a,λc b=>of_decide_eq_true (q c b)⟩
end
theorem Ud(c:Nat):∀u:List Nat,∃l ls,u=Ab [c] (l::ls)/\∀x∈l::ls,c∉x
 |[]=>⟨[],[],rfl,by simp⟩
 | d::u=>by
  obtain⟨l,ls,e,h⟩:=Ud c u;by_cases b:d=c
  .refine⟨[],l::ls,?_,?_⟩
   .rw[e,b];rfl
   intro x a;rcases zZ.mp a with rfl|a
   .simp
   exact h x a
  refine⟨d::l,ls,?_,?_⟩
  .rw[e]
   cases ls<;>rfl
  .intro x a;rcases zZ.mp a with rfl|a
   .intro z;rcases zZ.mp z with rfl|z
    .exact b rfl
    exact h l (by simp) z
   exact h x (zQ _ a)
theorem OX{c:Nat}{q:List Nat}:∀{p p':List Nat},c∉p->c∉p'->p++c::q=p'++c::d->p=p'/\q=d
 |[],[],_,_,e=>⟨rfl,(cj e).2⟩
 |[],b::p',_,h,e=>absurd (by rw[(cj e).1];simp) h
 |a::p,[],h,_,e=>absurd (by rw[(cj e).1.symm];simp) h
 |a::p,b::p',h,k,e=>by obtain⟨g,i⟩:=cj e;obtain⟨j,f⟩:=OX (λz=>h (zQ _ z)) (λz=>k (zQ _ z)) i;exact⟨by rw[g,j],f⟩
theorem Gq{c:Nat}:∀{l:List Nat}{ls:List (List Nat)}{m:List Nat}{ms:List (List Nat)},(∀x∈l::ls,c∉x)->(∀x∈m::ms,c∉x)->Ab [c] (l::ls)=Ab [c] (m::ms)->l::ls=m::ms
 |l,[],m,[],_,_,e=>by rw[show l=m from e]
 |l,[],m,y::ms,h,_,e=>absurd (show c∈l by rw[show l=m++[c]++Ab [c] (y::ms)from e];simp) (h l (by simp))
 |l,x::ls,m,[],_,h,e=>absurd (show c∈m by rw[show m=l++[c]++Ab [c] (x::ls)from e.symm];simp) (h m (by simp))
 |l,x::ls,m,y::ms,h,b,e=>by obtain⟨f,d⟩:=OX (h l (by simp)) (b m (by simp)) (by simpa[Ab]using e);rw[f,Gq (λz a=>h z (zQ _ a)) (λz a=>b z (zQ _ a)) d]
def Er:(" ":Str)=Aa [32]:=by decide +kernel
def Ui:(",":Str)=Aa [44]:=by decide +kernel
def cP:("\n":Str)=Aa [10]:=by decide +kernel
def cQ{c:Nat}(b:∀x∈l::ls,c∉x)(a:c<256)(d:(Ab [c] (l::ls)).length<=1000000)(G:DH):freeze G (Cr (.str (Aa (Ab [c] (l::ls)))) [.str (Aa [c])] G)=.ok (.fl (((l::ls).map Aa).map D.str)) G:=by
 have e:Cr (.str (Aa (Ab [c] (l::ls)))) [.str (Aa [c])] G=if(Aa [c]).length≠0/\(Aa (Ab [c] (l::ls))).length<=1000000 then .ok (.ref G.length) (G++[.lst ((Txt.split (Aa (Ab [c] (l::ls))) (Aa [c])).map D.str)])else .bad:=rfl
 rw[e,if_pos ⟨by simp,Bo▸d⟩,W4 b a];exact Az Ci
def KB(n:Int):Prop:=0<=n/\n<10^40
def Bd:Option (Str×Int×Int)->List Nat
 |none=>wl "none"
 |some (t,d,m)=>Ab [44] [wl t,num d,num m]
def KD:Option (Str×Int×Int)->Prop
 |none=>True
 |some (t,d,m)=>RC (wl t)/\KB d/\KB m
def k9:44∉wl "none":=by decide +kernel
def Wc{B:Nat}(h:lN (Ab sep ls)<=B):∀x∈ls,lN x<=B:=λx a=>zy (Hj ls x a) h
theorem ka{c:Nat}:lN ls<=lN (Ab [c] ls)+1:=by
 induction ls with
 |nil=>simp[Ab]
 | cons x ls a=>
  cases ls with
  |nil=>simp
  |cons y ls=>
   have e:Ab [c] (x::y::ls)=x++[c]++Ab [c] (y::ls):=rfl;rw[e];simp at a⊢;lia
section
variable{r0:Int}[RowOk r0](G:DH)
theorem DR(U:lN l<1000000):(∃q,KD q/\l=Bd q/\Ja [.str (Aa l),.int r0] G=.ok (QD q) G)\/((∀q,KD q->l≠Bd q)/\Ja [.str (Aa l),.int r0] G=.err (JG r0) G):=by
 by_cases p:l=wl "none"
 .refine .inl ⟨uZ,trivial,p,?_⟩;rw[p,Gw];unfold Ja Lz;rw[Af];simp[OA,QD,Ah]
 have g:¬Aa l="none":=λe=>p (by rw[<-e];simp)
 obtain⟨a,j,e,M⟩:=Ud 44 l;have f:=cQ M (by decide) (by rw[<-e];lia) G;rw[<-e,<-Ui]at f;have b:∀x∈a::j,lN x<=1000000:=Wc (by rw[<-e];lia);have i:(∀x y,j=[x,y]->¬(RC a/\WC x/\WC y))->∀q,KD q->l≠Bd q:=λh q k J=>by
  cases q with
  |none=>exact p J
  | some z=>
   obtain⟨t,d,m⟩:=z;have:=Gq (ms:=[num d,num m]) M (λx O=>by
    simp[zZ,z5,or_false]at O;rcases O with rfl|rfl|rfl
    .exact k.1.no (by lia)
    .exact Cg (by lia)
    exact Cg (by lia)) (by rw[<-e];exact J)
   obtain⟨P,Q⟩:=cj this;exact h _ _ Q ⟨P▸k.1,Di k.2.1.1 k.2.1.2,Di k.2.2.1 k.2.2.2⟩
 match j,b,f,i,e with
 | [x,y],b,f,i,e=>
  have K:=b a (by simp);have S:=b y (by simp);by_cases n:RC a
  .have c1:=Um (r0:=r0) K G n;by_cases C:WC x
   .obtain⟨E,F,rfl⟩:=Ka C;have o:=Il F.1 F.2 (r:=.int r0) G;by_cases s:WC y
    .obtain⟨N,u,rfl⟩:=Ka s;have I:=Il u.1 u.2 (r:=.int r0) G;refine .inl ⟨uQ (Aa a,E,N),⟨by simpa using n,F,u⟩,by rw[e];simp[Bd],?_⟩;simp[zJ,qZ]at f;generalize Aa a=v,Aa (num E)=B,Aa (num N)=A,Aa l=X at*;unfold Ja Lz;rw[Af];simp[OA,g,f,c1,o,I,QD,Ah]
    .have I:=Kp (r0:=r0) S s G;refine .inr ⟨i λx y e z=>by cases e;exact s z.2.2,?_⟩;simp[zJ,qZ]at f;generalize Aa a=v,Aa (num E)=B,Aa y=A,Aa l=X at*;unfold Ja Lz;rw[Af];simp[OA,g,f,c1,o,I,Ah]
   .have o:=Kp (r0:=r0) (b x (by simp)) C G;refine .inr ⟨i λx y e z=>by cases e;exact C z.2.1,?_⟩;simp[zJ,qZ]at f;generalize Aa a=v,Aa x=B,Aa y=A,Aa l=X at*;unfold Ja Lz;rw[Af];simp[OA,g,f,c1,o,Ah]
  .have c1:=U8 (r0:=r0) K G n;refine .inr ⟨i λx y e z=>n z.1,?_⟩;simp[zJ,qZ]at f;generalize Aa a=v,Aa x=B,Aa y=A,Aa l=X at*;unfold Ja Lz;rw[Af];simp[OA,g,f,c1,Ah]
 |[],b,f,i,e |[x],b,f,i,e=>
  refine .inr ⟨i (nofun),?_⟩;simp[zJ,qZ]at f;unfold Ja Lz;rw[Af];simp[OA,g,f,ZC,Ah]
 |x::y::w::j,b,f,i,e=>
  refine .inr ⟨i (nofun),?_⟩;have H:lN (((a::x::y::w::j).map Aa).map D.str)<=1000000:=by have:=ka (c:=44) (ls:=a::x::y::w::j);rw[<-e]at this;rw[zV,zV];lia
  have T:¬(lN (((a::x::y::w::j).map Aa).map D.str):Int)=3:=by simp;lia
  generalize((a::x::y::w::j).map Aa).map D.str=L at*;unfold Ja Lz;rw[Af];simp[OA,g,f,H,T,ZC,Ah]
end
def RK.words:RK->List (List Nat)
 |.VA a b=>[num a,num b]
 |.RA a=>[num a]
 |.IA b r q=>[num b,Bd q,WD r]
def RP.words(p:RP):List (List Nat):=wl p.kd.XA::wl p.nm::wl p.dn::num p.dl::p.kd.words
def RP.XA(p:RP):List Nat:=Ab [32] p.words
def XY:RK->Prop
 |.VA a b=>KB a/\KB b
 |.RA a=>KB a
 |.IA b r q=>KB b/\QM r/\KD q
structure YH (p:RP):Prop where
 nm:RC (wl p.nm)
 dn:RC (wl p.dn)
 dl:KB p.dl
 kd:XY p.kd
section
variable{r0:Int}[RowOk r0](G:DH)
def cR(g:∀x∈l::ls,32∉x)(f:lN (Ab [32] (l::ls))<1000000){n:Nat}:
  Kf [.str (Aa (Ab [32] (l::ls))),.int n,.int r0] G=if lN ls+1=n then .ok (.fl (((l::ls).map Aa).map D.str)) G else .err (JG r0) G:=by
 have d:=cQ g (by decide) (qE f) G;rw[<-Er]at d;have a:lN (((l::ls).map Aa).map D.str)<=1000000:=by have:=ka (c:=32) (ls:=l::ls);rw[zV,zV];lia
 have el:(lN (((l::ls).map Aa).map D.str):Int)=(lN ls:Int)+1:=by simp
 have e:MA (lN G) (((l::ls).map Aa).map D.str)=uJ:=Ci;generalize((l::ls).map Aa).map D.str=L,Aa (Ab [32] (l::ls))=X at*;unfold Kf hB;rw[Af];by_cases h:lN ls+1=n
 .have b:(lN L:Int)=(n:Int):=by lia
  rw[if_pos h];simp[OA,d,a,b,e,Ah]
 have b:¬(lN L:Int)=(n:Int):=by lia
 rw[if_neg h];simp[OA,d,a,b,ZC,Ah]
theorem kb:∀xs:List (List Nat),(∀x∈xs,lN x<=1000000)->(∃ns:List Int,(∀n∈ns,KB n)/\xs=ns.map num/\Bc (gV 0) Ay N7 [uZ,zI r0] ((xs.map Aa).map D.str) G=.ok (ns.map D.int) G)\/
  ((∃x∈xs,¬WC x)/\Bc (gV 0) Ay N7 [uZ,zI r0] ((xs.map Aa).map D.str) G=.err (JG r0) G)
 |[],_=>.inl ⟨[],by simp,rfl,rfl⟩
 | x::xs,h=>by
  have d:=h x (by simp);by_cases w:WC x
  .obtain⟨n,k,rfl⟩:=Ka w;have c1:=Il k.1 k.2 (r:=.int r0) G;have a:N7 [zS (Aa (num n)),zI r0] G=.ok (.int n) G:=by generalize Aa (num n)=X at*;unfold N7;simp[c1]
   rcases kb xs λx d=>h x (zQ _ d)with⟨ns,b,e,c⟩|⟨⟨y,f,b⟩,c⟩
   .refine .inl ⟨n::ns,jE.mpr ⟨k,b⟩,by rw[e];rfl,?_⟩;rw[zJ,zJ,Dg];simp only[Cm,R.Es,q8,Hc,if_true,a,c]
    rfl
   refine .inr ⟨⟨y,zQ _ f,b⟩,?_⟩;rw[zJ,zJ,Dg];simp only[Cm,R.Es,q8,Hc,if_true,a,c,R.Nf]
  have c1:=Kp (r0:=r0) d w G;refine .inr ⟨⟨x,by simp,w⟩,?_⟩;have a:N7 [zS (Aa x),zI r0] G=.err (JG r0) G:=by generalize Aa x=X at*;unfold N7;simp[c1]
  rw[zJ,zJ,Dg];simp[Cm,R.Es,q8,Hc,if_true,a,R.Nf]
def ke{n:List Nat}{xs:List (List Nat)}(o:lN n<=1000000)(q:lN d<=1000000)(u:∀x∈xs,lN x<=1000000)(B:lN xs<=100):
  (∃ns:List Int,RC n/\RC d/\(∀n∈ns,KB n)/\xs=ns.map num/\Ko [.fl (((a::n::d::xs).map Aa).map D.str),.int r0] G=.ok (.tup (.str (Aa a):: .str (Aa n):: .str (Aa d)::ns.map D.int)) G)\/
  (¬(RC n/\RC d/\∀x∈xs,WC x)/\Ko [.fl (((a::n::d::xs).map Aa).map D.str),.int r0] G=.err (JG r0) G):=by
 have s:((a::n::d::xs).map Aa).map D.str=.str (Aa a):: .str (Aa n):: .str (Aa d)::(xs.map Aa).map D.str:=rfl;rw[s];have NC:∀a b c:Option D,Ao 1 [1] [a,b,c]=[uZ,b]:=λ_ _ _=>rfl
 have p:freeze G (.ok (.ref (lN G)) (G++[.lst ((xs.map Aa).map D.str)]))=.ok (.fl ((xs.map Aa).map D.str)) G:=Az Ci;have cut:∀x y z:D,cutD (x::y::z::(xs.map Aa).map D.str) (uQ 3) uZ=(xs.map Aa).map D.str:=λx y z=>Jv (by simp)
 have r:lN ((xs.map Aa).map D.str)<=1000000:=by simp;lia
 have v:=kb (r0:=r0) G xs u;by_cases e:RC n
 .have c1:=Um (r0:=r0) o G e;by_cases g:RC d
  .have f:=Um (r0:=r0) q G g;rcases v with⟨ns,j,l,m⟩|⟨⟨y,w,j⟩,m⟩
   .refine .inl ⟨ns,e,g,j,l,?_⟩;have A:lN ns<=1000000:=by
     have:lN xs=lN ns:=by rw[l,zV]
     lia
    have t:3+lN ns<=1000000:=by
     have:lN xs=lN ns:=by rw[l,zV]
     lia
    generalize(xs.map Aa).map D.str=L,Aa a=h,Aa n=k,Aa d=i at*;unfold Ko Ra;rw[Af];simp[OA,Vv,c1,f,cut,p,NC,m,r,Az Fw,A,t,Fw,Ah]
   refine .inr ⟨λz=>j (z.2.2 y w),?_⟩;generalize(xs.map Aa).map D.str=L,Aa a=h,Aa n=k,Aa d=i at*;unfold Ko Ra;rw[Af];simp[OA,Vv,c1,f,cut,p,NC,m,r,Ah]
  have f:=U8 (r0:=r0) q G g;refine .inr ⟨λz=>g z.2.1,?_⟩;generalize(xs.map Aa).map D.str=L,Aa a=h,Aa n=k,Aa d=i at*;unfold Ko Ra;rw[Af];simp[OA,c1,f,Ah]
 have c1:=U8 (r0:=r0) o G e;refine .inr ⟨λz=>e z.1,?_⟩;generalize(xs.map Aa).map D.str=L,Aa a=h,Aa n=k,Aa d=i at*;unfold Ko Ra;rw[Af];simp[OA,c1,Ah]
end
theorem chain_count{c:Nat}{f:Nat}:∀(b:List Nat)(a:Nat),StrLaws.ChainG (Aa L) (Aa [c]) (Aa L).length a b f->b.length<=(L.drop a).count c
 |[],_,_=>Nat.zero_le _
 | k::r,a,h=>by
  obtain⟨n,g,q,j⟩:=h;have o:=chain_count r (k+1) j;have d:=(Et.mp g).2;have i:L.drop a=(L.drop a).take (k-a)++L.drop k:=by have:=(jC (k-a) (L.drop a)).symm;rwa[qk,show a+(k-a)=k by lia]at this
  have p:(L.drop k).count c=(L.drop (k+1)).count c+1:=by
   cases e:L.drop k with
   |nil=>rw[e]at d;simp at d
   |cons x y=>
    rw[e]at d;have m:x=c:=by simpa using d
    have l:L.drop (k+1)=y:=by rw[<-qk,e];rfl
    rw[l,m,List.count_cons_self]
  rw[i,List.count_append,z0];lia
theorem kf{c:Nat}:∀(l:List Nat)(ls:List (List Nat)),(∀x∈l::ls,c∉x)->(Ab [c] (l::ls)).count c=lN ls
 |l,[],h=>List.count_eq_zero.mpr (h l (by simp))
 |l,x::ls,h=>by have e:Ab [c] (l::x::ls)=l++[c]++Ab [c] (x::ls):=rfl;rw[e,List.count_append,List.count_append,kf x ls λz a=>h z (zQ _ a),List.count_eq_zero.mpr (h l (by simp))];simp;lia
theorem kg{s:Str}:∀(b:List Nat)(a:Nat),lN (StrLaws.partsFrom s w a b)=lN b+1
 |[],_=>rfl
 |k::r,a=>by
  show lN (_::StrLaws.partsFrom s w _ r)=_;rw[z0,kg r]
  rfl
def DT{c:Nat}(d:∀x∈l::ls,c∉x)(n:Nat)(a:1<=n)(h:ls.length<n):(Txt.splitMax (Aa (Ab [c] (l::ls))) (Aa [c]) (n:Int)).length<=n:=by
 obtain⟨f,b,e⟩:=k6 (Aa (Ab [c] (l::ls))) (Aa [c]) n (by simp);have el:limitOf (Aa (Ab [c] (l::ls))) (n:Int)=n:=by unfold limitOf;rw[if_neg (by lia)];lia
 have:=chain_count _ 0 b;rw[List.drop_zero,kf l ls d]at this;unfold Txt.splitMax;rw[el];split
 .exact a
 split
 .exact a
 rw[StrLaws.partsBetween_eq,kg];lia
section
variable{r0:Int}[RowOk r0](G:DH)
theorem Vi(h:QM ss)(j:lN (WD ss)<1000000):Mz [.str (Aa (WD ss)),.int r0] G=.ok (.tup (ss.map Aj)) G:=by
 cases ss with
 |nil=>exact absurd rfl h.ne
 |cons s ss=>
  have f:∀t∈s::ss,lN (IC t)<=1000000:=λt a=>by have:=Hj (sep:=[59,32]) ((s::ss).map IC) (IC t) (List.mem_map_of_mem a);have e:Ab [59,32] ((s::ss).map IC)=WD (s::ss):=rfl;rw[e]at this;lia
  have i:=λG=>kM (λx m=>by have b:x∈(s::ss).map IC:=m;obtain⟨t,_,rfl⟩:=z7.mp b;exact Ch) (by decide) (qE j) G
  rw[kY j rfl i];have n:((IC s::ss.map IC).map Aa).map D.str=(((s::ss).map IC).map Aa).map D.str:=rfl;rw[n,kW (r:=.int r0) G (s::ss) λt a=>⟨h.ok t a,f t a⟩];have g:freeze G (.ok (.ref (lN G)) (G++[.lst ((s::ss).map Aj)]))=.ok (.fl ((s::ss).map Aj)) G:=Az Jt;have l:lN ((s::ss).map Aj)<=1000000:=by have:=Ug (c:=59) (d:=32) ((s::ss).map IC);have e:Ab [59,32] ((s::ss).map IC)=WD (s::ss):=rfl;rw[e,zV]at this;rw[zV];lia
  have k:MA (lN G) ((s::ss).map Aj)=uJ:=Jt;generalize(s::ss).map Aj=o at*;simp[l,g,k,Ah]
def DU(d:lN l<1000000):(∃ss,QM ss/\l=WD ss/\Mz [.str (Aa l),.int r0] G=.ok (.tup (ss.map Aj)) G)\/((∀ss,QM ss->l≠WD ss)/\Mz [.str (Aa l),.int r0] G=.err (JG r0) G):=by
 obtain⟨p,f,c,k⟩:=kO (u:=l) 59 32 (by lia);rcases kX (r0:=r0) G (p::f) λx i=>by have:=Hj (sep:=[59,32]) (p::f) x i;rw[c]at this;lia with⟨ss,b,e⟩|j
 .have g:QM ss:=⟨(λz=>by rw[z]at e;cases e),b⟩;have el:l=WD ss:=by
   rw[<-c,e]
   rfl
  exact .inl ⟨ss,g,el,by rw[el];exact Vi G g (by rw[<-el];exact d)⟩
 have a:=kY (r0:=r0) d c k G;rw[j]at a;refine .inr ⟨λss h e=>?_,a⟩;rw[e,Vi G h (by rw[<-e];exact d)]at a;cases a
theorem Vm{c:Nat}{t:List Nat}:∀ws:List (List Nat),Ab [c] (ws++[Ab [c] (t::ts)])=Ab [c] (ws++t::ts)
 |[] |[w]=>rfl
 |w::x::ws=>by show w++[c]++Ab [c] ((x::ws)++[Ab [c] (t::ts)])=w++[c]++Ab [c] ((x::ws)++t::ts);rw[Vm (x::ws)]
def DV{c:Nat}{ws:List (List Nat)}{rest:List Nat}(b:∀x∈ws,c∉x)(a:c<256)(hw:ws≠[])(f:ws.length<=1000)(d:(Ab [c] (ws++[rest])).length<=1000000)(G:DH):freeze G (M7 (.str (Aa (Ab [c] (ws++[rest])))) [.str (Aa [c]),.int (ws.length:Int)] G)=.ok (.fl (((ws++[rest]).map Aa).map D.str)) G:=by
 have e:M7 (.str (Aa (Ab [c] (ws++[rest])))) [.str (Aa [c]),.int (ws.length:Int)] G=if((Aa [c]).length≠0/\(Aa (Ab [c] (ws++[rest]))).length<=1000000)/\0<=(ws.length:Int)/\(ws.length:Int)<=1000 then .ok (.ref G.length) (G++[.lst ((Txt.splitMax (Aa (Ab [c] (ws++[rest]))) (Aa [c]) (ws.length:Int)).map D.str)])else .bad:=rfl
 rw[e,if_pos ⟨⟨by simp,Bo▸d⟩,by lia,by lia⟩,DP b a hw];exact Az Ci
def DW(a:∀x∈l::ls,32∉x)(b:(Ab [32] (l::ls)).length<=1000000)(h:ls.length<6):∃ds:List D,ds.length<=6/\freeze G (M7 (.str (Aa (Ab [32] (l::ls)))) [.str " ",.int 6] G)=.ok (.fl ds) G:=by
 have e:M7 (.str (Aa (Ab [32] (l::ls)))) [.str " ",.int 6] G=if((" ":Str).length≠0/\(Aa (Ab [32] (l::ls))).length<=1000000)/\0<=(6:Int)/\(6:Int)<=1000 then .ok (.ref G.length) (G++[.lst ((Txt.splitMax (Aa (Ab [32] (l::ls))) " " 6).map D.str)])else .bad:=rfl
 refine⟨(Txt.splitMax (Aa (Ab [32] (l::ls))) " " 6).map D.str,?_,?_⟩
 .have:=DT a 6 (by decide) h;rw[<-Er]at this;rw[zV];exact this
 rw[e,if_pos ⟨⟨by decide,Bo▸b⟩,by decide,by decide⟩];exact Az Ci
structure Bs (ls:List (List Nat)) (n d:List Nat) (dl b:Int) (r:List ND) (q:Option (Str×Int×Int)):Prop where
 hn:RC n
 hd:RC d
 PX:KB dl
 hb:KB b
 hr:QM r
 hq:KD q
 he:∃t ts,WD r=Ab [32] (t::ts)/\ls=n::d::num dl::num b::Bd q::t::ts
theorem DX(N:∀x∈a::ls,32∉x)(F:lN (Ab [32] (a::ls))<1000000):
  (∃n d dl b r q,Bs ls n d dl b r q/\Hq [.str (Aa (Ab [32] (a::ls))),.int r0] G=.ok (.tup [.str (Aa a),.str (Aa n),.str (Aa d),.int dl,.int b,.tup (r.map Aj),QD q]) G)\/
  ((¬∃n d dl b r q,Bs ls n d dl b r q)/\Hq [.str (Aa (Ab [32] (a::ls))),.int r0] G=.err (JG r0) G):=by
 have u:∀G,S9 (.int 7) (.int 1) G=.ok (.int 6) G:=λ_=>rfl
 by_cases O:lN ls<6
 .obtain⟨ds,hd,o⟩:=DW G N (qE F) O;refine .inr ⟨λ⟨n,d,dl,b,r,q,z⟩=>by obtain⟨t,g,_,e⟩:=z.he;rw[e]at O;simp at O;lia,?_⟩
  have h7:¬(lN ds:Int)=7:=by lia
  generalize Aa (Ab [32] (a::ls))=X at*;unfold Hq Kw;rw[Af];simp[-Lw,OA,u,o,h7,by omega,ZC,Ah]
 match ls,O,N,F with
 | f::i::m::l::j::t::g,_,N,F=>
  have hw:=Vm (c:=32) (t:=t) (ts:=g) [a,f,i,m,l,j];have p:∀x∈a::f::i::m::l::j::t::g,lN x<=1000000:=Wc (sep:=[32]) (by lia);have o:=DV (ws:=[a,f,i,m,l,j]) (λx hx=>N x (by
   simp[zZ,z5,or_false]at hx⊢
   rcases hx with h|h|h|h|h|h<;>simp[h])) (by decide) (by simp) (by simp) (hw▸qE F) G
  have U:lN (Ab [32] (t::g))<1000000:=by have:=Hj (sep:=[32]) ([a,f,i,m,l,j]++[Ab [32] (t::g)]) (Ab [32] (t::g)) (by simp);rw[hw]at this;exact jS this F
  rw[hw,<-Er]at o;have e6:((lN [a,f,i,m,l,j]:Nat):Int)=6:=rfl;rw[e6]at o;simp[List.cons_append,j9,zJ,qZ]at o;have k:∀n d dl b r q,Bs (f::i::m::l::j::t::g) n d dl b r q->RC f/\RC i/\WC m/\WC l/\(∃r,QM r/\Ab [32] (t::g)=WD r)/\∃q,KD q/\j=Bd q:=λn d dl b r q z=>by
   obtain⟨t',P,e1,e2⟩:=z.he;obtain⟨rfl,rfl,rfl,rfl,rfl,rfl,rfl⟩:f=n/\i=d/\m=num dl/\l=num b/\j=Bd q/\t=t'/\g=P:=by simpa using e2
   exact⟨z.hn,z.hd,Di z.PX.1 z.PX.2,Di z.hb.1 z.hb.2,⟨r,z.hr,e1.symm⟩,q,z.hq,rfl⟩
  have l1:=p f (by simp);have l2:=p i (by simp);by_cases L:RC f
  .have c1:=Um (r0:=r0) l1 G L;by_cases M:RC i
   .have w:=Um (r0:=r0) l2 G M;by_cases W3:WC m
    .obtain⟨s,k3,rfl⟩:=Ka W3;have y:=Il k3.1 k3.2 (r:=.int r0) G;by_cases W:WC l
     .obtain⟨v,k4,rfl⟩:=Ka W;have K:=Il k4.1 k4.2 (r:=.int r0) G;rcases DU (r0:=r0) G U with⟨Q,S,R2,R3⟩|⟨S,R3⟩
      .rcases DR (r0:=r0) G (jS (Hj (sep:=[32]) _ j (by simp)) F)with⟨q,Y,P2,Z⟩|⟨Y,Z⟩
       .refine .inl ⟨f,i,s,v,Q,q,⟨L,M,k3,k4,S,Y,t,g,R2.symm,by rw[P2]⟩,?_⟩;have be:MA (lN G) (Q.map Aj)=uJ:=Jt;have bq:lC (lN G) (QD q)=uJ:=CW;generalize Q.map Aj=SS,QD q=QQ,Aa a=A,Aa f=E,Aa i=I,Aa (num s)=H,Aa (num v)=C,Aa j=B,Aa (Ab [32] (t::g))=J,Aa (Ab [32] (a::f::i::(num s)::(num v)::j::t::g))=X at*;unfold Hq Kw;rw[Af];simp[-Lw,OA,u,o,c1,w,y,K,R3,Z,be,bq,Ah]
       .refine .inr ⟨λ⟨n,d,dl,b,r,q,z⟩=>let⟨_,_,_,_,_,q,T,h2⟩:=k n d dl b r q z;Y q T h2,?_⟩;generalize Aa a=A,Aa f=E,Aa i=I,Aa (num s)=H,Aa (num v)=C,Aa j=B,Aa (Ab [32] (t::g))=J,Aa (Ab [32] (a::f::i::(num s)::(num v)::j::t::g))=X at*;unfold Hq Kw;rw[Af];simp[-Lw,OA,u,o,c1,w,y,K,R3,Z,Ah]
      .refine .inr ⟨λ⟨n,d,dl,b,r,q,z⟩=>let⟨_,_,_,_,⟨r,T,h2⟩,_⟩:=k n d dl b r q z;S r T h2,?_⟩;generalize Aa a=A,Aa f=E,Aa i=I,Aa (num s)=H,Aa (num v)=C,Aa j=B,Aa (Ab [32] (t::g))=J,Aa (Ab [32] (a::f::i::(num s)::(num v)::j::t::g))=X at*;unfold Hq Kw;rw[Af];simp[-Lw,OA,u,o,c1,w,y,K,R3,Ah]
     .have K:=Kp (r0:=r0) (p l (by simp)) W G;refine .inr ⟨λ⟨n,d,dl,b,r,q,z⟩=>W (k n d dl b r q z).2.2.2.1,?_⟩;generalize Aa a=A,Aa f=E,Aa i=I,Aa (num s)=H,Aa l=C,Aa j=B,Aa (Ab [32] (t::g))=J,Aa (Ab [32] (a::f::i::(num s)::l::j::t::g))=X at*;unfold Hq Kw;rw[Af];simp[-Lw,OA,u,o,c1,w,y,K,Ah]
    .have y:=Kp (r0:=r0) (p m (by simp)) W3 G;refine .inr ⟨λ⟨n,d,dl,b,r,q,z⟩=>W3 (k n d dl b r q z).2.2.1,?_⟩;generalize Aa a=A,Aa f=E,Aa i=I,Aa m=H,Aa l=C,Aa j=B,Aa (Ab [32] (t::g))=J,Aa (Ab [32] (a::f::i::m::l::j::t::g))=X at*;unfold Hq Kw;rw[Af];simp[-Lw,OA,u,o,c1,w,y,Ah]
   .have w:=U8 (r0:=r0) l2 G M;refine .inr ⟨λ⟨n,d,dl,b,r,q,z⟩=>M (k n d dl b r q z).2.1,?_⟩;generalize Aa a=A,Aa f=E,Aa i=I,Aa m=H,Aa l=C,Aa j=B,Aa (Ab [32] (t::g))=J,Aa (Ab [32] (a::f::i::m::l::j::t::g))=X at*;unfold Hq Kw;rw[Af];simp[-Lw,OA,u,o,c1,w,Ah]
  .have c1:=U8 (r0:=r0) l1 G L;refine .inr ⟨λ⟨n,d,dl,b,r,q,z⟩=>L (k n d dl b r q z).1,?_⟩;generalize Aa a=A,Aa f=E,Aa i=I,Aa m=H,Aa l=C,Aa j=B,Aa (Ab [32] (t::g))=J,Aa (Ab [32] (a::f::i::m::l::j::t::g))=X at*;unfold Hq Kw;rw[Af];simp[-Lw,OA,u,o,c1,Ah]
 |[],h,_,_=>exact absurd (by decide) h
 |[_],h,_,_ |[_,_],h,_,_ |[_,_,_],h,_,_ |[_,_,_,_],h,_,_ |[_,_,_,_,_],h,_,_=>exact absurd (by simp) h
end
theorem DY(h:KD q):32∉Bd q:=by
 cases q with
 |none=>decide +kernel
 |some z=>
  obtain⟨t,d,m⟩:=z;intro a;rcases U7 _ a with a|⟨l,b,a⟩
  .simp at a
  simp[zZ,z5,or_false]at b;rcases b with rfl|rfl|rfl
  .exact h.1.no (by lia) a
  .exact Cg (by lia) a
  exact Cg (by lia) a
theorem cT{k:RK}:32∉wl k.XA:=by
 cases k with
 |IA=>exact(by decide +kernel:32∉wl "basin")
 |VA=>exact(by decide +kernel:32∉wl "town")
 |RA=>exact(by decide +kernel:32∉wl "mill")
theorem Pn(h:YH p):∃ls,p.XA=Ab [32] (wl p.kd.XA::ls)/\(∀x∈wl p.kd.XA::ls,32∉x)/\(∀b r q,p.kd=.IA b r q->Bs ls (wl p.nm) (wl p.dn) p.dl b r q)/\
  (∀x y,p.kd=.VA x y->ls=[wl p.nm,wl p.dn,num p.dl,num x,num y])/\∀x,p.kd=.RA x->ls=[wl p.nm,wl p.dn,num p.dl,num x]:=by
 have hk:=h.kd;have g:32∉wl p.nm:=h.nm.no (by lia);have f:32∉wl p.dn:=h.dn.no (by lia);have i:32∉num p.dl:=Cg (by lia);unfold RP.XA RP.words;cases e:p.kd with
 |VA x y=>
  refine⟨_,rfl,?_,(λ_ _ _ z=>nomatch z),(λ_ _ z=>by cases z;rfl),(λ_ z=>nomatch z)⟩
  intro z a;simp[RK.words,zZ,z5,or_false]at a;rcases a with rfl|rfl|rfl|rfl|rfl|rfl
  .exact cT
  .exact g
  .exact f
  .exact i
  .exact Cg (by lia)
  exact Cg (by lia)
 |RA x=>
  refine⟨_,rfl,?_,(λ_ _ _ z=>nomatch z),(λ_ _ z=>nomatch z),(λ_ z=>by cases z;rfl)⟩
  intro z a;simp[RK.words,zZ,z5,or_false]at a;rcases a with rfl|rfl|rfl|rfl|rfl
  .exact cT
  .exact g
  .exact f
  .exact i
  exact Cg (by lia)
 |IA b r q=>
  rw[e]at hk;obtain⟨m,l,k⟩:=hk;obtain⟨t,d,j,n⟩:=Ud 32 (WD r)
  refine⟨wl p.nm::wl p.dn::num p.dl::num b::Bd q::t::d,?_,?_,(λ_ _ _ z=>by cases z;exact⟨h.nm,h.dn,h.dl,m,l,k,t,d,j,rfl⟩),(λ_ _ z=>nomatch z),(λ_ z=>nomatch z)⟩
  .have:=Vm (c:=32) (t:=t) (ts:=d) [wl (RK.IA b r q).XA,wl p.nm,wl p.dn,num p.dl,num b,Bd q];rw[<-j]at this;exact this
  intro z a;simp[zZ]at a;rcases a with rfl|rfl|rfl|rfl|rfl|rfl|a
  .exact cT
  .exact g
  .exact f
  .exact i
  .exact Cg (by lia)
  .exact DY k
  exact n z (zZ.mpr a)
section
variable{r0:Int}[RowOk r0](G:DH)
theorem DZ(d:∀x∈a::ls,32∉x)(c:lN (Ab [32] (a::ls))<1000000):∃x y,Gk (.str (Aa (Ab [32] (a::ls)))) [.str " "] G=.ok (.tup [.str (Aa a),x,y]) G:=by
 cases ls with
 |nil=>
  have:=Tg (d a (by simp)) (qE c) G;rw[<-Er]at this;exact⟨_,_,this⟩
 |cons b bs=>
  have e:Ab [32] (a::b::bs)=a++32::Ab [32] (b::bs):=by simp[Ab]
  rw[e]at c⊢;have:=Kz (d a (by simp)) (qE c) G;rw[<-Er]at this;exact⟨_,_,this⟩
def D0 (H:lN l<1000000):(∃p,YH p/\l=p.XA/\H8 [.str (Aa l),.int r0] G=.ok p.enc G)\/((∀p,YH p->l≠p.XA)/\H8 [.str (Aa l),.int r0] G=.err (JG r0) G):=by
 obtain⟨a,s,rfl,hc⟩:=Ud 32 l;obtain⟨x,y,hp⟩:=DZ G hc H;have i:=Wc (qE H);have j:∀p,YH p->Ab [32] (a::s)=p.XA->a=wl p.kd.XA/\(∀b r q,p.kd=.IA b r q->Bs s (wl p.nm) (wl p.dn) p.dl b r q)/\
   (∀x y,p.kd=.VA x y->s=[wl p.nm,wl p.dn,num p.dl,num x,num y])/\∀x,p.kd=.RA x->s=[wl p.nm,wl p.dn,num p.dl,num x]:=λp h e=>by
  obtain⟨ms,e1,e2,e3⟩:=Pn h;have:=Gq hc e2 (by rw[e,e1]);obtain⟨e4,e5⟩:=cj this;rw[e5];exact⟨e4,e3⟩
 have T:¬(wl "basin"=wl "town"):=by decide +kernel
 have Q:¬(wl "basin"=wl "mill"):=by decide +kernel
 have F:¬(wl "town"=wl "mill"):=by decide +kernel
 have O:Kf [.str (Aa (Ab [32] (a::s))),.int 6,.int r0] G=_:=cR G hc H;have S:Kf [.str (Aa (Ab [32] (a::s))),.int 5,.int r0] G=_:=cR G hc H;by_cases N:a=wl "basin"
 .have A:Aa a="basin":=N▸Gw;rcases DX (r0:=r0) G hc H with⟨n,d,o,b,r,q,B,ev⟩|⟨no,ev⟩
  .obtain⟨t,W,et,el⟩:=B.he;refine .inl ⟨⟨Aa n,Aa d,o,.IA b r q⟩,⟨by simpa using B.hn,by simpa using B.hd,B.PX,B.hb,B.hr,B.hq⟩,?_,?_⟩
   .have:=Vm (c:=32) (t:=t) (ts:=W) [a,n,d,num o,num b,Bd q];rw[<-et]at this;rw[el];refine .trans this.symm ?_;simp[RP.XA,RP.words,RK.words,RK.XA,N]
   have be:lC (lN G) (D.tup [.str (Aa a),.str (Aa n),.str (Aa d),.int o,.int b,.tup (r.map Aj),QD q])=uJ:=by simp[Jt]
   have ee:RP.enc ⟨Aa n,Aa d,o,.IA b r q⟩=D.tup [.str (Aa a),.str (Aa n),.str (Aa d),.int o,.int b,.tup (r.map Aj),QD q]:=by simp[RP.enc,RP.row,RK.XA,RK.rest,A]
   have W:=Ah be;rw[ee];generalize D.tup [.str (Aa a),.str (Aa n),.str (Aa d),.int o,.int b,.tup (r.map Aj),QD q]=Y at*;rw[A]at hp;generalize Aa (Ab [32] (a::s))=X at*;unfold H8 Jk;rw[Af];simp[OA,hp,ev,W]
  refine .inr ⟨λp h e=>?_,?_⟩
  .obtain⟨f,k2,Z,k4⟩:=j p h e;cases g:p.kd with
   |IA b r q=>exact no ⟨_,_,_,_,_,_,k2 b r q g⟩
   |VA x y=>rw[N,g]at f;exact T f
   |RA x=>rw[N,g]at f;exact Q f
  .rw[A]at hp;generalize Aa (Ab [32] (a::s))=X at*;unfold H8 Jk;rw[Af];simp[OA,hp,ev,Ah]
 have nx:¬Aa a="basin":=λz=>N (by rw[<-z];simp)
 by_cases K:a=wl "town"
 .have A:Aa a="town":=K▸Gw;have v:¬("town":Str)="basin":=by decide
  by_cases h6:lN s+1=6
  .rw [if_pos h6]at O
   match s,h6,O,i,j,hp,H with
   | [n,d,u,w,M],_,O,i,j,hp,H=>
    have fz:freeze G (.ok (.fl ((([a,n,d,u,w,M]:List (List Nat)).map Aa).map D.str)) G)=.ok (.fl ((([a,n,d,u,w,M]:List (List Nat)).map Aa).map D.str)) G:=Ej (by simp)
    rcases ke (r0:=r0) G (a:=a) (xs:=[u,w,M]) (i n (by simp)) (i d (by simp)) (λz C=>i z (by simp[zZ,z5,or_false]at C⊢;rcases C with h|h|h<;>simp[h])) (by simp)with⟨ns,W1,W2,E,P,ev⟩|⟨no,ev⟩
    .match ns,E,P,ev with
     |[m,k,I],E,P,ev=>
      obtain⟨rfl,rfl,rfl⟩:u=num m/\w=num k/\M=num I:=by simpa using P
      refine .inl ⟨⟨Aa n,Aa d,m,.VA k I⟩,⟨by simpa using W1,by simpa using W2,E m (by simp),E k (by simp),E I (by simp)⟩,by simp[RP.XA,RP.words,RK.words,RK.XA,K],?_⟩;have ee:RP.enc ⟨Aa n,Aa d,m,.VA k I⟩=D.tup (.str (Aa a):: .str (Aa n):: .str (Aa d)::[m,k,I].map D.int):=by simp[RP.enc,RP.row,RK.XA,RK.rest,A]
      have be:lC (lN G) (D.tup (.str (Aa a):: .str (Aa n):: .str (Aa d)::[m,k,I].map D.int))=uJ:=by simp
      have W:=Ah be;rw[ee];generalize D.tup (.str (Aa a):: .str (Aa n):: .str (Aa d)::[m,k,I].map D.int)=Y,((([a,n,d,num m,num k,num I]:List (List Nat)).map Aa).map D.str)=L at*;rw[A]at hp;generalize Aa (Ab [32] (a::[n,d,num m,num k,num I]))=X at*;unfold H8 Jk;rw[Af];simp[OA,hp,v,O,fz,ev,W]
    .refine .inr ⟨λp h e=>?_,?_⟩
     .obtain⟨f,k2,Z,k4⟩:=j p h e;cases g:p.kd with
      |IA b r q=>rw[K,g]at f;exact T f.symm
      |VA x y=>
       obtain⟨rfl,rfl,rfl,rfl,rfl⟩:n=wl p.nm/\d=wl p.dn/\u=num p.dl/\w=num x/\M=num y:=by simpa using Z x y g
       have hk:=h.kd;rw[g]at hk;refine no ⟨h.nm,h.dn,λz C=>?_⟩;simp[zZ,z5,or_false]at C;rcases C with rfl|rfl|rfl
       .exact Di h.dl.1 h.dl.2
       .exact Di hk.1.1 hk.1.2
       exact Di hk.2.1 hk.2.2
      |RA x=>rw[K,g]at f;exact F f
     .rw[A]at hp;generalize((([a,n,d,u,w,M]:List (List Nat)).map Aa).map D.str)=L,Aa (Ab [32] (a::[n,d,u,w,M]))=X at*;unfold H8 Jk;rw[Af];simp[OA,hp,v,O,fz,ev,Ah]
  .rw[if_neg h6]at O;refine .inr ⟨λp h e=>?_,?_⟩
   .obtain⟨f,k2,Z,k4⟩:=j p h e;cases g:p.kd with
    |IA b r q=>rw[K,g]at f;exact T f.symm
    |VA x y=>exact h6 (by rw[Z x y g];rfl)
    |RA x=>rw[K,g]at f;exact F f
   .rw[A]at hp;generalize Aa (Ab [32] (a::s))=X at*;unfold H8 Jk;rw[Af];simp[OA,hp,v,O,Ah]
 .have nt:¬Aa a="town":=λz=>K (by rw[<-z];simp)
  by_cases J:a=wl "mill"
  .have A:Aa a="mill":=J▸Gw;have v:¬("mill":Str)="basin":=by decide
   have U:¬("mill":Str)="town":=by decide
   by_cases h5:lN s+1=5
   .rw [if_pos h5]at S
    match s,h5,S,i,j,hp,H with
    | [n,d,u,w],_,S,i,j,hp,H=>
     have fz:freeze G (.ok (.fl ((([a,n,d,u,w]:List (List Nat)).map Aa).map D.str)) G)=.ok (.fl ((([a,n,d,u,w]:List (List Nat)).map Aa).map D.str)) G:=Ej (by simp)
     rcases ke (r0:=r0) G (a:=a) (xs:=[u,w]) (i n (by simp)) (i d (by simp)) (λz C=>i z (by simp[zZ,z5,or_false]at C⊢;rcases C with h|h<;>simp[h])) (by simp)with⟨ns,W1,W2,E,P,ev⟩|⟨no,ev⟩
     .match ns,E,P,ev with
      |[m,k],E,P,ev=>
       obtain⟨rfl,rfl⟩:u=num m/\w=num k:=by simpa using P
       refine .inl ⟨⟨Aa n,Aa d,m,.RA k⟩,⟨by simpa using W1,by simpa using W2,E m (by simp),E k (by simp)⟩,by simp[RP.XA,RP.words,RK.words,RK.XA,J],?_⟩;have ee:RP.enc ⟨Aa n,Aa d,m,.RA k⟩=D.tup (.str (Aa a):: .str (Aa n):: .str (Aa d)::[m,k].map D.int):=by simp[RP.enc,RP.row,RK.XA,RK.rest,A]
       have be:lC (lN G) (D.tup (.str (Aa a):: .str (Aa n):: .str (Aa d)::[m,k].map D.int))=uJ:=by simp
       rw[ee];generalize D.tup (.str (Aa a):: .str (Aa n):: .str (Aa d)::[m,k].map D.int)=Y,((([a,n,d,num m,num k]:List (List Nat)).map Aa).map D.str)=L at*;rw[A]at hp;generalize Aa (Ab [32] (a::[n,d,num m,num k]))=X at*;unfold H8 Jk;rw[Af];simp[OA,hp,v,U,S,fz,ev,Ah (G:=G) be]
     .refine .inr ⟨λp h e=>?_,?_⟩
      .obtain⟨f,k2,Z,k4⟩:=j p h e;cases g:p.kd with
       |IA b r q=>rw[J,g]at f;exact Q f.symm
       |VA x y=>rw[J,g]at f;exact F f.symm
       |RA x=>
        obtain⟨rfl,rfl,rfl,rfl⟩:n=wl p.nm/\d=wl p.dn/\u=num p.dl/\w=num x:=by simpa using k4 x g
        have hk:=h.kd;rw[g]at hk;refine no ⟨h.nm,h.dn,λz C=>?_⟩;simp[zZ,z5,or_false]at C;rcases C with rfl|rfl
        .exact Di h.dl.1 h.dl.2
        exact Di hk.1 hk.2
      .rw[A]at hp;generalize((([a,n,d,u,w]:List (List Nat)).map Aa).map D.str)=L,Aa (Ab [32] (a::[n,d,u,w]))=X at*;unfold H8 Jk;rw[Af];simp[OA,hp,v,U,S,fz,ev,Ah]
   .rw[if_neg h5]at S;refine .inr ⟨λp h e=>?_,?_⟩
    .obtain⟨f,k2,Z,k4⟩:=j p h e;cases g:p.kd with
     |IA b r q=>rw[J,g]at f;exact Q f.symm
     |VA x y=>rw[J,g]at f;exact F f.symm
     |RA x=>exact h5 (by rw[k4 x g];rfl)
    .rw[A]at hp;generalize Aa (Ab [32] (a::s))=X at*;unfold H8 Jk;rw[Af];simp[OA,hp,v,U,S,Ah]
  .have nm:¬Aa a="mill":=λz=>J (by rw[<-z];simp)
   refine .inr ⟨λp h e=>?_,?_⟩
   .obtain⟨f,_⟩:=j p h e;cases g:p.kd with
    |IA b r q=>rw[g]at f;exact N f
    |VA x y=>rw[g]at f;exact K f
    |RA x=>rw[g]at f;exact J f
   .generalize Aa (Ab [32] (a::s))=X,Aa a=X1 at*;unfold H8 Jk;rw[Af];simp[OA,hp,nx,nt,nm,ZC,Ah]
end
def Dv(y:Int):List Nat:=Ab [32] [wl "year",num y]
instance:RowOk 0:=⟨by decide⟩
def D1(p:lN l<1000000)(G:DH):(∃y,KB y/\l=Dv y/\Lg [.str (Aa l)] G=.ok (.int y) G)\/((∀y,KB y->l≠Dv y)/\Lg [.str (Aa l)] G=.err (JG 0) G):=by
 obtain⟨a,i,rfl,s⟩:=Ud 32 l;have d:=Wc (qE p);have b:∀y,Ab [32] (a::i)=Dv y->a=wl "year"/\i=[num y]:=λy e=>by
  have:=Gq s (λx f=>by
   simp[zZ,z5,or_false]at f;rcases f with rfl|rfl
   .exact(by decide +kernel:32∉wl "year")
   exact Cg (by lia)) e
  exact cj this
 have c:Kf [.str (Aa (Ab [32] (a::i))),.int 2,.int 0] G=_:=cR G s p;by_cases j:lN i+1=2
 .rw [if_pos j]at c
  match i,j,c,d,b with
  | [x],_,c,d,b=>
   have g:freeze G (.ok (.fl ((([a,x]:List (List Nat)).map Aa).map D.str)) G)=.ok (.fl ((([a,x]:List (List Nat)).map Aa).map D.str)) G:=Ej (by simp);simp[zJ,qZ]at g c;by_cases m:a=wl "year"
   .have o:Aa a="year":=m▸Gw;by_cases f:WC x
    .obtain⟨n,k,rfl⟩:=Ka f;have c1:=Il k.1 k.2 (r:=.int 0) G;refine .inl ⟨n,k,by rw[m];rfl,?_⟩;generalize Aa (Ab [32] (a::[num n]))=X,Aa (num n)=q at*;rw[o]at g c;unfold Lg Ul;rw[Af];simp[OA,c,g,c1,Ah]
    have c1:=Kp (r0:=0) (d x (by simp)) f G;refine .inr ⟨λy h e=>f ?_,?_⟩
    .have:=(b y e).2;obtain rfl:x=num y:=by simpa using this
     exact Di h.1 h.2
    .generalize Aa (Ab [32] (a::[x]))=X,Aa x=q at*;rw[o]at g c;unfold Lg Ul;rw[Af];simp[OA,c,g,c1,Ah]
   have o:¬Aa a="year":=λz=>m (by rw[<-z];simp)
   refine .inr ⟨λy h e=>m (b y e).1,?_⟩;generalize Aa (Ab [32] (a::[x]))=X,Aa x=q,Aa a=t at*;unfold Lg Ul;rw[Af];simp[OA,c,g,o,ZC,Ah]
 rw[if_neg j]at c;refine .inr ⟨λy h e=>j (by rw[(b y e).2];rfl),?_⟩;generalize Aa (Ab [32] (a::i))=X at*;unfold Lg Ul;rw[Af];simp[OA,c,Ah]
theorem kh{rows:List (List Nat)}(o:∀x∈rows,lN x<1000000)(y:lN rows<=900):∀(n j:Nat),j+n=lN rows->
  (∃ps:List RP,(∀p∈ps,YH p)/\rows.drop j=ps.map RP.XA/\Bx (Jz 1 (.fl ((rows.map Aa).map D.str))) (Bf 2 (Am (gV 0) (Am (gV 1) Bg))) Ay Kh [uZ,uZ] n j G=.ok (ps.map RP.enc) G)\/
  (∃k:Nat,j<=k/\k<lN rows/\(∀i,j<=i->i<k->∃p,YH p/\rows[i]?=uQ p.XA)/\(∀p,YH p->rows[k]? ≠uQ p.XA)/\Bx (Jz 1 (.fl ((rows.map Aa).map D.str))) (Bf 2 (Am (gV 0) (Am (gV 1) Bg))) Ay Kh [uZ,uZ] n j G=.err (JG (1+k)) G)
 | 0,j,u=>by
  have e:Jz 1 (.fl ((rows.map Aa).map D.str)) j G=uQ uZ:=by
   show uQ ((((rows.map Aa).map D.str)[j]?).map _)=_;rw[qj (by simp;lia)]
   rfl
  refine .inl ⟨[],by simp,by rw[jQ (by lia)];rfl,?_⟩;unfold Bx;rw[e]
  rfl
 | n + 1,j,u=>by
  have a:j<lN rows:=by lia
  have e:Jz 1 (.fl ((rows.map Aa).map D.str)) j G=uQ (zT [.int (1+j),.str (Aa rows[j])]):=by show uQ ((((rows.map Aa).map D.str)[j]?).map _)=_;rw[zX (by simpa using a)];simp
  have b:=zX a;haveI:RowOk (1+(j:Int)):=⟨by lia,by lia⟩;rcases D0 (r0:=1+(j:Int)) G (o rows[j] (qV a))with⟨p,c,s,g⟩|⟨c,g⟩
  .have m:Kh [zI (1+j),zS (Aa rows[j])] G=.ok p.enc G:=by generalize Aa rows[j]=X at*;unfold Kh;simp[g]
   have step:∀r,Bx (Jz 1 (.fl ((rows.map Aa).map D.str))) (Bf 2 (Am (gV 0) (Am (gV 1) Bg))) Ay Kh [uZ,uZ] n (j+1) G=r->Bx (Jz 1 (.fl ((rows.map Aa).map D.str))) (Bf 2 (Am (gV 0) (Am (gV 1) Bg))) Ay Kh [uZ,uZ] (n+1) j G=r.bind λE w=>.ok (p.enc::E) w:=λr h=>by
    conv=>lhs;unfold Bx
    rw[e];generalize Aa rows[j]=X at*;have l:(Bf 2 (Am (gV 0) (Am (gV 1) Bg))) (.tup [.int (1+j),.str X]) [uZ,uZ] G=.ok [zI (1+j),zS X] G:=by simp
    simp only[l,R.Es,Hc,if_true,m,h]
   rcases kh o y n (j+1) (by lia)with⟨ps,q,d,f⟩|⟨k,q,d,f,C,A⟩
   .refine .inl ⟨p::ps,jE.mpr ⟨c,q⟩,?_,?_⟩
    .rw[qK a,d,s]
     rfl
    rw[step _ f]
    rfl
   refine .inr ⟨k,by lia,d,λi B t=>?_,C,?_⟩
   .by_cases v:i=j
    .subst v;exact⟨p,c,by rw[b,s]⟩
    exact f i (by lia) t
   .rw[step _ A]
    rfl
  refine .inr ⟨j,zY _,a,λi B t=>by lia,λp h z=>c p h (by rw[b]at z;exact xv z),?_⟩;have m:Kh [zI (1+j),zS (Aa rows[j])] G=.err (JG (1+j)) G:=by generalize Aa rows[j]=X at*;unfold Kh;simp[g]
  unfold Bx;rw[e];generalize Aa rows[j]=X at*;have l:(Bf 2 (Am (gV 0) (Am (gV 1) Bg))) (.tup [.int (1+j),.str X]) [uZ,uZ] G=.ok [zI (1+j),zS X] G:=by simp
  simp[l,R.Es,Hc,if_true,m,R.Nf]
section
variable{R0:List Nat}{Rs:List (List Nat)}(h10:∀x∈R0::Rs,10∉x)(hl:(Ab [10] (R0::Rs)).length<1000000)(hn:Rs.length<=900)(G:DH)
include h10 hl hn
theorem ki:(∃y ps,KB y/\(∀p∈ps,YH p)/\R0=Dv y/\Rs=ps.map RP.XA/\∀r,Gg [RH.enc ⟨y,ps⟩] G=r->r.toS (λd w=>.rt d w)≠ .bad->tidy G r=r->Ha [.str (Aa (Ab [10] (R0::Rs)))] G=r)\/
  ((∀y,KB y->R0≠Dv y)/\Ha [.str (Aa (Ab [10] (R0::Rs)))] G=.err (JG 0) G)\/
  ((∃y,KB y/\R0=Dv y)/\∃k:Nat,k<lN Rs/\(∀i,i<k->∃p,YH p/\Rs[i]?=uQ p.XA)/\(∀p,YH p->Rs[k]? ≠uQ p.XA)/\Ha [.str (Aa (Ab [10] (R0::Rs)))] G=.err (JG (1+k)) G):=by
 have j:=cQ h10 (by decide) (qE hl) G;rw[<-cP,zJ,zJ]at j;have a:∀x∈R0::Rs,lN x<1000000:=λx m=>jS (Hj _ x m) hl
 have ct:cutD (.str (Aa R0)::(Rs.map Aa).map D.str) (uQ 1) uZ=(Rs.map Aa).map D.str:=Jv (by simp);have u:freeze G (.ok (.ref (lN G)) (G++[.lst ((Rs.map Aa).map D.str)]))=.ok (.fl ((Rs.map Aa).map D.str)) G:=Az Ci;have NC:∀S:ZB,Ao 2 [] S=[uZ,uZ]:=λ_=>rfl
 have b:lN ((Rs.map Aa).map D.str)=lN Rs:=by simp
 have t:lN ((Rs.map Aa).map D.str)<=1000000:=by lia
 rcases D1 (a R0 (by simp)) G with⟨y,f,s,c⟩|⟨f,c⟩
 .rcases kh (λx m=>a x (zQ _ m)) hn (G:=G) (lN Rs) 0 (by lia)with⟨ps,o,e,g⟩|⟨k,o,e,g,B,q⟩
  .refine .inl ⟨y,ps,f,o,s,e,λr n z C=>?_⟩;have l:freeze G (.ok (.ref (lN G)) (G++[.lst (ps.map RP.enc)]))=.ok (.fl (ps.map RP.enc)) G:=Az Pz;have A:lN (ps.map RP.enc)<=1000000:=by
    have:lN Rs=lN ps:=by rw[show Rs=Rs.drop 0 from rfl,e,zV]
    rw[zV];lia
   rw[<-b]at g;have v:RH.enc ⟨y,ps⟩=.tup [.int y,.tup (ps.map RP.enc)]:=rfl;rw[v]at n;generalize Aa (Ab [10] (R0::Rs))=X,Aa R0=Y,(Rs.map Aa).map D.str=Z,ps.map RP.enc=W at*;unfold Ha Yb;rw[Af];cases r with
   |bad=>exact absurd rfl z
   |_=>simp[OA,j,c,ct,u,t,gU,Ov,Be,NC,g,A,l,n,C,Br]
  refine .inr (.inr ⟨⟨y,f,s⟩,k,e,λi h=>g i (by lia) h,B,?_⟩);rw[<-b]at q;generalize Aa (Ab [10] (R0::Rs))=X,Aa R0=Y,(Rs.map Aa).map D.str=Z at*;unfold Ha Yb;rw[Af];simp[OA,j,c,ct,u,t,gU,Ov,Be,NC,q,Ah,Br]
 refine .inr (.inl ⟨f,?_⟩);generalize Aa (Ab [10] (R0::Rs))=X,Aa R0=Y at*;unfold Ha Yb;rw[Af];simp[OA,j,c,Ah]
end
def Qs(h:(ls.map zU).sum+lN ls*lN sep<=1000000)(G:DH):Cu (.str (Aa sep)) [.fl ((ls.map Aa).map D.str)] G=.ok (.str (Aa (Ab sep ls))) G:=by
 have e:(ls.map Aa).map (·.length)=ls.map zU:=by rw[qA];exact j2 λl _=>by simp
 rw[fX (by rw[e,zV,Bo];exact h),BB]
theorem Vr{B:Nat}:∀(ls:List (List Nat)),(∀l∈ls,lN l<=B)->(ls.map zU).sum<=lN ls*B
 |[],_=>by simp
 |x::r,h=>by
  have b:=h x (by simp);have c:=Vr r λl a=>h l (zQ _ a)
  rw[zJ,jA,z0,Nat.succ_mul];lia
def D2(h:XI ss):((ss.map IC).map zU).sum+lN (ss.map IC)*lN [59,32]<=1000000:=by
 have a:=Vr (ss.map IC) λl b=>by obtain⟨u,c,rfl⟩:=z7.mp b;exact kI (h.ok u c)
 rw[zV]at a⊢;have e:lN ss*450<=5*450:=jq _ h.len;have d:lN ss*lN [59,32]<=5*2:=jq _ h.len;lia
noncomputable def VG(first:Bool):List Nat:=if first then[32]else[44,32]
noncomputable def JO:Bool->List JB->List Nat
 |_,[]=>[]
 |b,s::r=>VG b++QC s++JO uX r
theorem kj:∀(s:JB)(r:List JB),QC s++JO uX r=Ab [44,32] ((s::r).map QC)
 |s,[]=>by simp[JO,Ab]
 |s,t::r=>by show QC s++([44,32]++QC t++JO uX r)=QC s++[44,32]++Ab [44,32] ((t::r).map QC);rw[<-(kj t r)];simp
theorem D3:JO uJ st=G8 st:=by
 cases st with
 |nil=>rfl
 |cons s r=>
  show[32]++QC s++JO uX r=32::Ab [44,32] ((s::r).map QC);rw[<-kj];simp
noncomputable def WT(b:Bool):Str:=if b then " " else ", "
def D4{b:Bool}:WT b=Aa (VG b):=by cases b<;>decide +kernel
theorem kl{s2 s3:Option D}:∀(st:List JB)(b:Bool)(T:List Nat)(x6 x7 x8:Option D),(∀s∈st,OD s)->lN T+lN st*89<=10000->∃d e c f,
  Bt (Bf 3 (Am (gV 6) (Am (gV 7) (Am (gV 8) Bg)))) V7 (st.map JB.enc) [s0,s1,s2,s3,zS (Aa T),zS (WT b),x6,x7,x8] G=
   .nx [s0,s1,s2,s3,zS (Aa (T++JO b st)),d,e,c,f] G
 |[],b,T,x6,x7,x8,_,_=>⟨zS (WT b),x6,x7,x8,by rw[qZ,Gb];simp[JO]⟩
 | s::st,b,T,x6,x7,x8,h,k=>by
  have a:=h s (by simp);have N:=Dc a.1.2;have Q:=Dc a.2.2;have S:=cN (r:=s.r)
  have J:lN (VG b)<=2:=by cases b<;>decide
  simp[z0]at k;rw[Nat.succ_mul]at k;have o:("+":Str)=Aa [43]:=by decide +kernel
  have w:(" ":Str)=Aa [32]:=by decide +kernel
  have C:=kG a;have n:T++VG b++num s.h++[43]++num s.m++[32]++KH s.r=T++(VG b++QC s):=by simp[QC]
  obtain⟨d,e,c,f,A⟩:=kl st uX (T++(VG b++QC s)) (zI s.h) (zI s.m) (zS (wy s.r)) (λx v=>h x (zQ _ v)) (by simp;lia);refine⟨d,e,c,f,?_⟩;have y:V7 [s0,s1,s2,s3,zS (Aa T),zS (WT b),zI s.h,zI s.m,zS (wy s.r)] G=.nx [s0,s1,s2,s3,zS (Aa (T++(VG b++QC s))),zS (WT uX),zI s.h,zI s.m,zS (wy s.r)] G:=by
   have z:=λG=>Dq (l:=T) (l':=VG b) (by lia) G
   have p:=λG=>Dq (l:=T++VG b) (l':=num s.h) (by simp;lia) G
   have g:=λG=>Dq (l:=T++VG b++num s.h) (l':=[43]) (by simp;lia) G
   have t:=λG=>Dq (l:=T++VG b++num s.h++[43]) (l':=num s.m) (by simp;lia) G
   have j:=λG=>Dq (l:=T++VG b++num s.h++[43]++num s.m) (l':=[32]) (by simp;lia) G
   have i:=λG=>Dq (l:=T++VG b++num s.h++[43]++num s.m++[32]) (l':=KH s.r) (by simp;lia) G
   have c1:=λG=>Iw a.1.1 a.1.2 G
   have u:=λG=>Iw a.2.1 a.2.2 G
   have B:WT uX=(", ":Str):=rfl;rw[n]at i;rw[B,D4,Wv];rw[<-o]at g;rw[<-w]at j;generalize Aa (T++(VG b++QC s))=W,Aa (T++VG b++num s.h++[43]++num s.m++[32])=F,Aa (T++VG b++num s.h++[43]++num s.m)=H,Aa (T++VG b++num s.h++[43])=L,Aa (T++VG b++num s.h)=P,Aa (T++VG b)=K,Aa T=E,Aa (VG b)=M,Aa (num s.h)=O,Aa (num s.m)=I,Aa (KH s.r)=U at*;unfold V7;simp[-Dt,z,p,g,t,j,i,c1,u]
  have q:JB.enc s=.tup [.int s.h,.int s.m,.str (wy s.r)]:=rfl;rw[zJ,Ey,q];simp[fK,fJ,fH,Cm,R.Es,R.Gh,q8,z0,jZ,Nat.reduceAdd,if_true,y,Gs];rw[A];show SR.nx [s0,s1,s2,s3,zS (Aa (T++(VG b++QC s)++JO uX st)),d,e,c,f] G=.nx [s0,s1,s2,s3,zS (Aa (T++(VG b++QC s++JO uX st))),d,e,c,f] G;rw[qW]
theorem km{s0:Option D}{G:DH}:∀(ss:List ND)(acc:List (List Nat))(c x3 x4 x5 x6 x7 x8:Option D),(∀s∈ss,WK s)->lN acc+lN ss<=100->∃j m f g i d k,
  Bt (Bf 2 (Am (gV 2) (Am (gV 3) Bg))) S7 (ss.map Aj) [s0,zR (lN G),c,x3,x4,x5,x6,x7,x8] (G++[.lst ((acc.map Aa).map D.str)])=
   .nx [s0,zR (lN G),j,m,f,g,i,d,k] (G++[.lst (((acc++ss.map IC).map Aa).map D.str)])
 |[],acc,c,x3,x4,x5,x6,x7,x8,_,_=>⟨c,x3,x4,x5,x6,x7,x8,by rw[qZ,Gb];simp⟩
 | s::ss,acc,c,x3,x4,x5,x6,x7,x8,h,w=>by
  have b:=h s (by simp);have J:=Dc b.1.2;simp[z0]at w;have F:lN s.2*89<=4*89:=jq _ b.2.1;obtain⟨n,p,o,q,a⟩:=kl (s0:=s0) (s1:=zR (lN G)) (s2:=zI s.1) (s3:=zT (s.2.map JB.enc)) (G:=G++[.lst ((acc.map Aa).map D.str)]) s.2 uJ (num s.1++[58]) x6 x7 x8 b.2.2 (by simp;lia);have t:num s.1++[58]++JO uJ s.2=IC s:=by rw[D3];simp[IC]
  rw[t]at a;obtain⟨j,m,f,g,i,d,k,C⟩:=km (s0:=s0) (G:=G) ss (acc++[IC s]) (zI s.1) (zT (s.2.map JB.enc)) (zS (Aa (IC s))) n p o q (λx y=>h x (zQ _ y)) (by simp;lia);refine⟨j,m,f,g,i,d,k,?_⟩;have z:S7 [s0,zR (lN G),zI s.1,zT (s.2.map JB.enc),x4,x5,x6,x7,x8] (G++[.lst ((acc.map Aa).map D.str)])=.nx [s0,zR (lN G),zI s.1,zT (s.2.map JB.enc),zS (Aa (IC s)),n,p,o,q] (G++[.lst (((acc++[IC s]).map Aa).map D.str)]):=by
   have u:(":":Str)=Aa [58]:=by decide +kernel
   have r:=λG=>Dq (l:=num s.1) (l':=[58]) (by simp;lia) G
   rw[<-u]at r;have c1:=λG=>Iw b.1.1 b.1.2 G
   have E:WT uJ=(" ":Str):=rfl;rw[E]at a;have e:lN ((acc.map Aa).map D.str)<1000000:=by simp;lia
   rw[jx,jx,zJ,qZ,zJ,qZ];generalize(acc.map Aa).map D.str=A,s.2.map JB.enc=B,Aa (IC s)=H,Aa (num s.1++[58])=K,Aa (num s.1)=I at*;unfold S7;simp[-Dt,c1,r,a,Cz,Fe,e]
  have v:Aj s=.tup [.int s.1,.tup (s.2.map JB.enc)]:=rfl;rw[zJ,Ey,v];simp only[fK,fJ,fH,Cm,R.Es,R.Gh,q8,z0,jZ,Nat.reduceAdd,if_true,z,Gs];rw[C];rw[qW]
  rfl
def D5(h:XI ss)(G:DH):Wl [.tup (ss.map Aj)] G=.ok (.str (Aa (WD ss))) G:=by
 obtain⟨n,o,p,k,l,m,j,d⟩:=km ss [] uZ uZ uZ uZ uZ uZ uZ h.ok (by have:=h.len;simp;lia);have a:Bt (Bf 2 (Am (gV 2) (Am (gV 3) Bg))) S7 (ss.map Aj) [zT (ss.map Aj),zR (lN G),uZ,uZ,uZ,uZ,uZ,uZ,uZ] (G++[.lst []])=_:=d;rw[j9]at a;have b:=Qs (D2 h) (G++[.lst (((ss.map IC).map Aa).map D.str)]);have f:("; ":Str)=Aa [59,32]:=by decide +kernel
 have e:Ab [59,32] (ss.map IC)=WD ss:=rfl;rw[<-f,e]at b;have c:Cu (.str ("; ":Str)) [.ref (lN G)] (G++[.lst (((ss.map IC).map Aa).map D.str)])=.ok (.str (Aa (WD ss))) (G++[.lst (((ss.map IC).map Aa).map D.str)]):=by
  rw[<-b];have i:(G++[DO.lst (((ss.map IC).map Aa).map D.str)])[lN G]?=uQ (.lst (((ss.map IC).map Aa).map D.str)):=by rw[Cz];rfl
  simp only[Cu,Be,i]
 generalize((ss.map IC).map Aa).map D.str=Z,ss.map Aj=Y at*;have g:∀L:DH,tidy G (.ok (.str (Aa (WD ss))) (G++L))=.ok (.str (Aa (WD ss))) G:=λL=>Ik rfl
 unfold Wl iJ;rw[Af];simp[Ai,Dk,a,c,g]
structure OJ (p:RP):Prop where
 w:YH p
 ln:lN (wl p.nm)<=100
 ld:lN (wl p.dn)<=100
 ru:∀b r q,p.kd=.IA b r q->XI r
 lp:∀b r t d m,p.kd=.IA b r (uQ (t,d,m))->lN (wl t)<=100
theorem kn(o:OJ p):(∀l∈p.words,lN l<=2260)/\lN p.words<=7:=by
 have k:=o.ln;have i:=o.ld;have u:=Dc o.w.dl.2;have hk:=o.w.kd;unfold RP.words;cases e:p.kd with
 |VA a b=>
  rw[e]at hk;have g:=Dc hk.1.2;have h:=Dc hk.2.2;have f:lN (wl (RK.VA a b).XA)<=5:=(by decide +kernel:lN (wl "town")<=5);refine⟨λl c=>?_,by simp[RK.words]⟩;simp[RK.words,zZ,z5,or_false]at c
  rcases c with rfl|rfl|rfl|rfl|rfl|rfl<;>lia
 |RA a=>
  rw[e]at hk;have g:=Dc (hk.2);have f:lN (wl (RK.RA a).XA)<=5:=(by decide +kernel:lN (wl "mill")<=5);refine⟨λl c=>?_,by simp[RK.words]⟩;simp[RK.words,zZ,z5,or_false]at c
  rcases c with rfl|rfl|rfl|rfl|rfl<;>lia
 | IA b r q=>
  rw[e]at hk;have g:=Dc hk.1.2;have h:=Co (o.ru b r q e);have f:lN (wl (RK.IA b r q).XA)<=5:=(by decide +kernel:lN (wl "basin")<=5);have j:lN (Bd q)<=300:=by
   cases q with
   |none=>exact(by decide +kernel:lN (wl "none")<=300)
   |some z=>
    obtain⟨t,d,m⟩:=z;have s:=o.lp b r t d m e;have n:=Dc hk.2.2.2.1.2;have v:=Dc hk.2.2.2.2.2;show lN (wl t++[44]++(num d++[44]++num m))<=300;simp;lia
  refine⟨λl c=>?_,by simp[RK.words]⟩;simp[RK.words,zZ,z5,or_false]at c
  rcases c with rfl|rfl|rfl|rfl|rfl|rfl|rfl<;>lia
def Lu(o:OJ p):(p.words.map zU).sum+lN p.words*lN [32]<=1000000:=by obtain⟨a,b⟩:=kn o;have c:=Vr p.words a;simp[jX];lia
def Zm(h:(ls.map zU).sum+lN ls*lN sep<=1000000)(G:DH):Cu (.str (Aa sep)) [.ref (lN G)] (G++[.lst ((ls.map Aa).map D.str)])=.ok (.str (Aa (Ab sep ls))) (G++[.lst ((ls.map Aa).map D.str)]):=by
 have a:=Qs h (G++[.lst ((ls.map Aa).map D.str)]);rw[<-a];have b:(G++[DO.lst ((ls.map Aa).map D.str)])[lN G]?=uQ (.lst ((ls.map Aa).map D.str)):=by rw[Cz];rfl
 simp only[Cu,Be,b]
theorem D6(o:OJ p)(G:DH):Nj [p.enc] G=.ok (.str (Aa p.XA)) G:=by
 have f:=Zm (Lu o) G;have h:∀L:DH,tidy G (.ok (.str (Aa p.XA)) (G++L))=.ok (.str (Aa p.XA)) G:=λL=>Ik rfl
 have t:=λG=>Iw o.w.dl.1 o.w.dl.2 G
 have hk:=o.w.kd;rw[<-Er]at f;cases e:p.kd with
 |VA a b=>
  rw[e]at hk;obtain⟨g,C⟩:=hk;have n:(p.words.map Aa).map D.str=[.str "town",.str p.nm,.str (p.dn),.str (Aa (num p.dl)),.str (Aa (num a)),.str (Aa (num b))]:=by unfold RP.words;rw[e];simp[RK.words,RK.XA,Gw]
  have s:p.enc=.tup [.str "town",.str p.nm,.str (p.dn),.int p.dl,.int a,.int b]:=by simp[RP.enc,RP.row,e,RK.XA,RK.rest]
  have i:=λG=>Iw g.1 g.2 G
  have M:=λG=>Iw C.1 C.2 G
  have B:¬(("town":Str)="basin"):=by decide
  rw[n]at f;rw[s];unfold RP.XA at h⊢;generalize Aa (Ab [32] p.words)=R,Aa (num p.dl)=I,Aa (num a)=J,Aa (num b)=P at*;have j:∀l:List D,MA (lN G) l=uJ->tidy G (.ok (.ref (lN G)) (G++[.lst l]))=.ok (.ref (lN G)) (G++[.lst l]):=λl k=>Dk k
  unfold Nj R5 Sy Tc Qz Rg Td;rw[Af];simp[Ai,t,i,M,j,B,Cz,Fe,f,h]
 |RA a=>
  rw[e]at hk;have g:=hk;have n:(p.words.map Aa).map D.str=[.str "mill",.str p.nm,.str (p.dn),.str (Aa (num p.dl)),.str (Aa (num a))]:=by unfold RP.words;rw[e];simp[RK.words,RK.XA,Gw]
  have s:p.enc=.tup [.str "mill",.str p.nm,.str (p.dn),.int p.dl,.int a]:=by simp[RP.enc,RP.row,e,RK.XA,RK.rest]
  have i:=λG=>Iw g.1 g.2 G
  have B:¬(("mill":Str)="basin"):=by decide
  have u:¬(("mill":Str)="town"):=by decide
  rw[n]at f;rw[s];unfold RP.XA at h⊢;generalize Aa (Ab [32] p.words)=R,Aa (num p.dl)=I,Aa (num a)=J at*;have j:∀l:List D,MA (lN G) l=uJ->tidy G (.ok (.ref (lN G)) (G++[.lst l]))=.ok (.ref (lN G)) (G++[.lst l]):=λl k=>Dk k
  unfold Nj R5 Sy Tc Qz Rg Td;rw[Af];simp[Ai,t,i,j,B,u,Cz,Fe,f,h]
 | IA b r q=>
  rw[e]at hk;have g:=hk.1;have n:(p.words.map Aa).map D.str=[.str "basin",.str p.nm,.str (p.dn),.str (Aa (num p.dl)),.str (Aa (num b)),.str (Aa (Bd q)),.str (Aa (WD r))]:=by unfold RP.words;rw[e];simp[RK.words,RK.XA,Gw]
  have s:p.enc=.tup [.str "basin",.str p.nm,.str (p.dn),.int p.dl,.int b,.tup (r.map Aj),QD q]:=by simp[RP.enc,RP.row,e,RK.XA,RK.rest]
  have i:=λG=>Iw g.1 g.2 G
  have u:¬(("basin":Str)="town"):=by decide
  have H:=λG=>D5 (o.ru b r q e) G
  rw[n]at f;rw[s];unfold RP.XA at h⊢;generalize Aa (Ab [32] p.words)=R,Aa (num p.dl)=I,Aa (num b)=J,Aa (WD r)=P,r.map Aj=Z at*;have j:∀l:List D,MA (lN G) l=uJ->tidy G (.ok (.ref (lN G)) (G++[.lst l]))=.ok (.ref (lN G)) (G++[.lst l]):=λl k=>Dk k
  cases q with
  |none=>
   have x:Aa (Bd uZ)="none":=Gw;rw[x]at f;have v:QD uZ=.UA:=rfl;rw[v];unfold Nj R5 Sy Tc Qz Rg Td;rw[Af];simp[Ai,t,i,j,u,Dm,H,Cz,Fe,f,h]
  |some z=>
   obtain⟨d,c,m⟩:=z;obtain⟨S,A,y⟩:=hk.2.2;have l1:=o.lp b r d c m e;have Q:=λG=>Iw A.1 A.2 G
   have O:=λG=>Iw y.1 y.2 G
   have Y:=Dc A.2;have U:=Dc y.2;have K:=λG=>Dq (l:=wl d) (l':=[44]) (by simp;lia) G
   have N:=λG=>Dq (l:=wl d++[44]) (l':=num c) (by simp;lia) G
   have E:=λG=>Dq (l:=wl d++[44]++num c) (l':=[44]) (by simp;lia) G
   have F:=λG=>Dq (l:=wl d++[44]++num c++[44]) (l':=num m) (by simp;lia) G
   have x:wl d++[44]++num c++[44]++num m=Bd (uQ (d,c,m)):=by show _=wl d++[44]++(num c++[44]++num m);simp
   rw[x]at F;rw[<-Ui,Gw]at K;rw[<-Ui]at E;have v:QD (uQ (d,c,m))=.tup [.str d,.int c,.int m]:=rfl;rw[v];generalize Aa (Bd (uQ (d,c,m)))=T,Aa (wl d++[44]++num c++[44])=X,Aa (wl d++[44]++num c)=X2,Aa (wl d++[44])=W,Aa (num c)=Z1,Aa (num m)=Z2 at*;unfold Nj R5 Sy Tc Qz Rg Td;rw[Af];simp[-Dt,Ai,t,i,Q,O,K,N,E,F,j,u,Dm,H,Cz,Fe,f,h]
structure YJ (h:RH):Prop where
 yr:KB h.yr
 len:lN h.ps<=12
 po:∀p∈h.ps,OJ p
def Ae(h:RH):List (List Nat):=Dv h.yr::h.ps.map RP.XA
def D7:("year ":Str)=Aa (wl "year"++[32]):=by decide +kernel
theorem ko{G:DH}:∀ps:List RP,(∀p∈ps,OJ p)->Bc (gV 0) Ay Uh [uZ] (ps.map RP.enc) G=.ok (((ps.map RP.XA).map Aa).map D.str) G
 |[],_=>rfl
 |p::ps,o=>by
  have a:=D6 (o p (by simp)) G;have b:Uh [uQ (p.enc)] G=.ok (.str (Aa p.XA)) G:=by generalize p.enc=X at*;unfold Uh;simp[a]
  rw[zJ,zJ,zJ,zJ,Dg];simp only[Cm,R.Es,q8,Hc,if_true,b,ko (G:=G) ps λx c=>o x (zQ _ c)]
theorem Lv:((Ae h).map Aa).map D.str=.str (Aa (Dv h.yr))::((h.ps.map RP.XA).map Aa).map D.str:=rfl
def kq(o:YJ h)(G:DH):Rb [h.enc] G=.ok (.ref (lN G)) (G++[.lst (((Ae h).map Aa).map D.str)]):=by
 have k:∀G,Bc (gV 0) Ay Uh [uZ] (h.ps.map RP.enc) G=.ok (((h.ps.map RP.XA).map Aa).map D.str) G:=λG=>ko h.ps o.po
 have g:=λG=>Iw o.yr.1 o.yr.2 G
 have q:=Dc o.yr.2;have n:lN (wl "year")=4:=by decide +kernel
 have c:=λG=>Dq (l:=wl "year"++[32]) (l':=num h.yr) (by simp;lia) G
 have i:wl "year"++[32]++num h.yr=Dv h.yr:=rfl;rw[<-D7,i]at c;have r:lN (((h.ps.map RP.XA).map Aa).map D.str)<=100:=by have:=o.len;simp;lia
 have d:∀m,MA m (((h.ps.map RP.XA).map Aa).map D.str)=uJ:=λm=>Ci
 rw[Lv];generalize Aa (Dv h.yr)=Y,Aa (num h.yr)=p,((h.ps.map RP.XA).map Aa).map D.str=Z at*;have b:lN Z<=1000000:=by lia
 have a:lN Z+1<=1000000:=by lia
 have j:∀G:DH,freeze G (.ok (.ref (lN G)) (G++[.lst [.str Y]]))=.ok (.fl [.str Y]) G:=λG=>Az rfl
 have e:∀G:DH,freeze G (.ok (.ref (lN G)) (G++[.lst Z]))=.ok (.fl Z) G:=λG=>Az (d _)
 have f:tidy G (.ok (.ref (lN G)) (G++[.lst (.str Y::Z)]))=.ok (.ref (lN G)) (G++[.lst (.str Y::Z)]):=Dk (by simp[d]);have NC:∀S:ZB,Ao 1 [] S=[uZ]:=λ_=>rfl
 unfold Rb iK;rw[Af];simp[-Dt,O9,Q9,g,c,Ai,j,NC,k,b,e,a,Nat.add_comm 1,f]
theorem Q6(w:∀x∈a::ls,32∉x)(h:YH p)(e:Ab [32] (a::ls)=p.XA):
  a=wl p.kd.XA/\∃n d x3 x4 rest,ls=n::d::x3::x4::rest/\RC n/\RC d/\WC x3/\WC x4/\(a=wl "mill"->rest=[])/\(a=wl "town"->∃x5,rest=[x5]/\WC x5)/\
   (a=wl "basin"->∃r q t ts,QM r/\KD q/\rest=Bd q::t::ts/\WD r=Ab [32] (t::ts)):=by
 obtain⟨ms,o,u,m,k,s⟩:=Pn h;obtain⟨rfl,rfl⟩:=cj (Gq w u (by rw[e,o]));have f:¬(wl "basin"=wl "town"):=by decide +kernel
 have j:¬(wl "basin"=wl "mill"):=by decide +kernel
 have i:¬(wl "town"=wl "mill"):=by decide +kernel
 have hk:=h.kd;refine⟨rfl,?_⟩;cases c:p.kd with
 |VA x y=>
  rw[c]at hk;have g:wl (RK.VA x y).XA=wl "town":=rfl;rw[g];exact⟨_,_,_,_,_,k x y c,h.nm,h.dn,Di h.dl.1 h.dl.2,Di hk.1.1 hk.1.2,λz=>absurd z i,λ_=>⟨_,rfl,Di hk.2.1 hk.2.2⟩,λz=>absurd z.symm f⟩
 |RA x=>
  rw[c]at hk;have g:wl (RK.RA x).XA=wl "mill":=rfl;rw[g];exact⟨_,_,_,_,_,s x c,h.nm,h.dn,Di h.dl.1 h.dl.2,Di hk.1 hk.2,λ_=>rfl,λz=>absurd z.symm i,λz=>absurd z.symm j⟩
 |IA b r q=>
  have g:wl (RK.IA b r q).XA=wl "basin":=rfl;rw[g];have B:=m b r q c;obtain⟨t,ts,v,l⟩:=B.he;exact⟨_,_,_,_,_,l,B.hn,B.hd,Di B.PX.1 B.PX.2,Di B.hb.1 B.hb.2,λz=>absurd z j,λz=>absurd z f,λ_=>⟨r,q,t,ts,B.hr,B.hq,rfl,v⟩⟩
def OC(l:List Nat):Prop:=∀p,YH p->l≠p.XA
section
variable{a:List Nat}{ls:List (List Nat)}(hc:∀x∈a::ls,32∉x)
include hc
theorem Rk(d:a≠wl "basin")(f:a≠wl "town")(g:a≠wl "mill"):OC (Ab [32] (a::ls)):=λp h e=>by
 have:=(Q6 hc h e).1;cases c:p.kd with
 |IA b r q=>rw[c]at this;exact d this
 |VA x y=>rw[c]at this;exact f this
 |RA x=>rw[c]at this;exact g this
theorem cU{n:List Nat}{r:List (List Nat)}(f:ls=n::d::r)(hw:¬(RC n/\RC d)):OC (Ab [32] (a::ls)):=λp h e=>by obtain⟨_,j,k,m,l,rest,b,c,i,_⟩:=Q6 hc h e;rw[f]at b;obtain⟨rfl,g⟩:=cj b;obtain⟨rfl,_⟩:=cj g;exact hw ⟨c,i⟩
theorem Mv{n:List Nat}{r:List (List Nat)}(j:ls=n::d::x3::x4::r)(hw:¬(WC x3/\WC x4)):OC (Ab [32] (a::ls)):=λp h e=>by
 obtain⟨_,c,g,k,l,rest,b,m,o,f,i,_⟩:=Q6 hc h e;rw[j]at b;obtain⟨rfl,rfl,rfl,rfl,rfl⟩:n=c/\d=g/\x3=k/\x4=l/\r=rest:=by simpa using b
 exact hw ⟨f,i⟩
theorem D8{n:List Nat}{r:List (List Nat)}(o:a=wl "town")(k:ls=n::d::x3::x4::x5::r)(hw:¬WC x5):OC (Ab [32] (a::ls)):=λp h e=>by
 obtain⟨_,c,g,m,j,rest,b,q,w,s,u,t,i,v⟩:=Q6 hc h e;rw[k]at b;obtain⟨rfl,rfl,rfl,rfl,rfl⟩:n=c/\d=g/\x3=m/\x4=j/\x5::r=rest:=by simpa using b
 obtain⟨z,l,f⟩:=i o;obtain⟨rfl,_⟩:=cj l;exact hw f
theorem Kv(f:a≠wl "basin")(j:a=wl "mill"->lN ls≠4)(g:a=wl "town"->lN ls≠5):OC (Ab [32] (a::ls)):=λp h e=>by
 obtain⟨k,o,u,B,C,rest,d,n,A,s,v,i,l,w⟩:=Q6 hc h e;cases c:p.kd with
 |IA b r q=>rw[c]at k;exact f k
 |VA x y=>
  rw[c]at k;obtain⟨z,m,t⟩:=l k;exact g k (by rw[d,m];rfl)
 |RA x=>
  rw[c]at k;exact j k (by rw[d,i k];rfl)
end
def YD(l:List Nat):Prop:=∃u c,l=u++[c]/\(c=58\/c=114\/c=112)
def YD.app(h:YD m):YD (l++m):=by obtain⟨u,c,e,b⟩:=h;exact⟨l++u,c,by rw[e,qW],b⟩
theorem YD.join:∀ls:List (List Nat),YD m->YD (Ab sep (ls++[m]))
 |[],h=>h
 |[x],h=>h.app
 |x::y::ls,h=>(YD.join (y::ls) h).app
theorem YD.last:∀ls:List (List Nat),ls≠[]->(∀x∈ls,YD x)->YD (Ab sep ls)
 |[],h,_=>absurd rfl h
 |[x],_,h=>h x (by simp)
 |x::y::ls,_,h=>(YD.last (y::ls) (by simp) λz b=>h z (zQ _ b)).app
theorem D9:YD (QC s):=by
 unfold QC;refine .app ?_;refine .app (l:=[43]) (.app (.app (l:=[32]) ?_));cases s.r with
 |true=>exact⟨[114,105,118,101],114,rfl,.inr (.inl rfl)⟩
 |false=>exact⟨[112,117,109],112,rfl,.inr (.inr rfl)⟩
theorem Da{s:ND}:YD (IC s):=by
 unfold IC;refine .app ?_;cases e:s.2 with
 |nil=>exact⟨[],58,rfl,.inl rfl⟩
 |cons t b=>exact .app (l:=[58]) (.app (l:=[32]) (.last ((t::b).map QC) (by simp) λx c=>by obtain⟨y,_,rfl⟩:=z7.mp c;exact D9))
def Dx(h:QM r):YD (WD r):=.last _ (by simpa using h.ne) λx b=>by obtain⟨y,_,rfl⟩:=z7.mp b;exact Da
def EC(h:YH p)(e:p.kd=.IA b r q):YD p.XA:=by
 have hk:=h.kd;rw[e]at hk;have:p.words=[wl p.kd.XA,wl p.nm,wl p.dn,num p.dl,num b,Bd q]++[WD r]:=by
  unfold RP.words;rw[e]
  rfl
 unfold RP.XA;rw[this];exact .join _ (Dx hk.2.1)
def ED{n t:List Nat}(i:∀x∈a::n::d::x3::x4::x5::t::ts,32∉x)(g:a=wl "basin")(hp:∀q,KD q->x5≠Bd q):OC (Ab [32] (a::n::d::x3::x4::x5::t::ts)):=λp h e=>by
 obtain⟨k,l,f,u,j,rest,c,v,F,w,z,E,C,o⟩:=Q6 i h e;obtain⟨r,q,y,b,B,m,s,A⟩:=o g;obtain⟨rfl,rfl,rfl,rfl,rfl⟩:n=l/\d=f/\x3=u/\x4=j/\x5::t::ts=rest:=by simpa using c
 exact hp q m (cj s).1
def kr:∃w,(∀G,Ly [.int x] G=.ok (.str (Aa w)) G)/\¬RC w/\32∉w/\44∉w/\lN w<=50/\∀c∈w,32<=c:=by
 have f:("A":Str)=Aa [65]:=by decide +kernel
 have g:("a1":Str)=Aa [97,49]:=by decide +kernel
 have i:("":Str)=Aa []:=by decide +kernel
 have e:("a-b":Str)=Aa [97,45,98]:=by decide +kernel
 have b:∀G:DH,freeze G (.ok (.ref (lN G)) (G++[.lst [.str "A",.str "a1",.str "",.str "a-b"]]))=.ok (.fl [.str "A",.str "a1",.str "",.str "a-b"]) G:=λG=>Az rfl
 have d:∀{w:List Nat}{c:Nat},c∈w->¬(97<=c/\c<=122)->¬RC w:=λm h z=>h (z.2 _ m)
 rcases(by lia:x%4=0\/x%4=1\/x%4=2\/x%4=3)with h|h|h|h
 .refine⟨[65],?_,d (c:=65) (by simp) (by lia),by simp,by simp,by simp,by simp⟩;rw[<-f];intro G;unfold Ly Tw;rw[Af];have a:LB [D.str "A",D.str "a1",D.str "",D.str "a-b"] 0=zS "A":=rfl;simp[Ai,b,h,a,Ah]
 .refine⟨[97,49],?_,d (c:=49) (by simp) (by lia),by simp,by simp,by simp,by simp⟩;rw[<-g];intro G;unfold Ly Tw;rw[Af];have a:LB [D.str "A",D.str "a1",D.str "",D.str "a-b"] 1=zS "a1":=rfl;simp[Ai,b,h,a,Ah]
 .refine⟨[],?_,λz=>z.1 rfl,by simp,by simp,by simp,by simp⟩;rw[<-i];intro G;unfold Ly Tw;rw[Af];have a:LB [D.str "A",D.str "a1",D.str "",D.str "a-b"] 2=zS "":=rfl;simp[Ai,b,h,a,Ah]
 refine⟨[97,45,98],?_,d (c:=45) (by simp) (by lia),by simp,by simp,by simp,by simp⟩;rw[<-e];intro G;unfold Ly Tw;rw[Af];have a:LB [D.str "A",D.str "a1",D.str "",D.str "a-b"] 3=zS "a-b":=rfl;simp[Ai,b,h,a,Ah]
def YI(l:List Nat):Prop:=∀y,KB y->l≠Dv y
def Gi(g:∀x∈a::ls,32∉x)(h:¬(a=wl "year"/\∃x,ls=[x]/\WC x)):YI (Ab [32] (a::ls)):=λy b e=>by
 have:=Gq g (λx c=>by
  simp[zZ,z5,or_false]at c;rcases c with rfl|rfl
  .exact(by decide +kernel:32∉wl "year")
  exact Cg (by lia)) e
 obtain⟨d,f⟩:=cj this;exact h ⟨d,_,f,Di b.1 b.2⟩
def kt:∃w,(∀G,Oq [.int x] G=.ok (.str (Aa w)) G)/\¬WC w/\32∉w/\44∉w/\lN w<=50/\∀c∈w,32<=c:=by
 have big:Tv "0" 40=Aa (.replicate 40 48):=by decide +kernel
 obtain⟨B,b⟩:∃B,B=Aa (49::qQ 40 48):=⟨_,rfl⟩;obtain⟨Z,f⟩:∃Z,Z=Aa (.replicate 40 48):=⟨_,rfl⟩;have g:∀G,By (.str "1") (.str Z) G=.ok (.str B) G:=λG=>by have:=Dq (l:=[49]) (l':=.replicate 40 48) (by simp) G;rw[show Aa [49]=("1":Str) by decide +kernel]at this;rw[f,b];exact this
 have k:∀G,Oo (.str "0") (.int 40) G=.ok (.str Z) G:=λG=>by rw[f,<-big];exact tQ (by decide)
 have i:∀G:DH,freeze G (.ok (.ref (lN G)) (G++[.lst [.str "x",.str "-1",.str "007",.str B,.str "+1",.str "",.str "1.5",.str "00",.str "1_0",.str "12_",.str "_7",.str "1_0"]]))=.ok (.fl [.str "x",.str "-1",.str "007",.str B,.str "+1",.str "",.str "1.5",.str "00",.str "1_0",.str "12_",.str "_7",.str "1_0"]) G:=λG=>Az rfl
 have run:∀s,LB [D.str "x",D.str "-1",D.str "007",D.str B,D.str "+1",D.str "",D.str "1.5",D.str "00",D.str "1_0",D.str "12_",D.str "_7",D.str "1_0"] (x%12)=zS s->∀G,Oq [.int x] G=.ok (.str s) G:=λs j G=>by unfold Oq iF;rw[Af];simp[-Dt,Ai,k,g,i,j,Ah]
 have a:∀{w:List Nat}{c:Nat},c∈w->¬(48<=c/\c<=57)->¬WC w:=λm h z=>h (z.2.1 _ m)
 have d:∀{r:List Nat},r≠[]->¬WC (48::r):=λh z=>by
  rcases z.2.2 with e|e
  .exact h (cj e).2
  exact e _ rfl
 rcases(by lia:x%12=0\/x%12=1\/x%12=2\/x%12=3\/x%12=4\/x%12=5\/x%12=6\/x%12=7\/x%12=8\/x%12=9\/x%12=10\/x%12=11)with h|h|h|h|h|h|h|h|h|h|h|h
 .exact⟨[120],by rw[show Aa [120]=("x":Str) by decide +kernel];exact run _ (by rw[h];rfl),a (c:=120) (by simp) (by lia),by simp,by simp,by simp,by simp⟩
 .exact⟨[45,49],by rw[show Aa [45,49]=("-1":Str) by decide +kernel];exact run _ (by rw[h];rfl),a (c:=45) (by simp) (by lia),by simp,by simp,by simp,by simp⟩
 .exact⟨[48,48,55],by rw[show Aa [48,48,55]=("007":Str) by decide +kernel];exact run _ (by rw[h];rfl),d (by simp),by simp,by simp,by simp,by simp⟩
 .exact⟨49::qQ 40 48,by rw[<-b];exact run _ (by rw[h];rfl),λz=>absurd z.1.2 (by simp),by simp,by simp,by simp,by simp⟩
 .exact⟨[43,49],by rw[show Aa [43,49]=("+1":Str) by decide +kernel];exact run _ (by rw[h];rfl),a (c:=43) (by simp) (by lia),by simp,by simp,by simp,by simp⟩
 .exact⟨[],by rw[show Aa []=("":Str) by decide +kernel];exact run _ (by rw[h];rfl),(λz=>absurd z.1.1 (by simp)),by simp,by simp,by simp,by simp⟩
 .exact⟨[49,46,53],by rw[show Aa [49,46,53]=("1.5":Str) by decide +kernel];exact run _ (by rw[h];rfl),a (c:=46) (by simp) (by lia),by simp,by simp,by simp,by simp⟩
 .exact⟨[48,48],by rw[show Aa [48,48]=("00":Str) by decide +kernel];exact run _ (by rw[h];rfl),d (by simp),by simp,by simp,by simp,by simp⟩
 .exact⟨[49,95,48],by rw[show Aa [49,95,48]=("1_0":Str) by decide +kernel];exact run _ (by rw[h];rfl),a (c:=95) (by simp) (by lia),by simp,by simp,by simp,by simp⟩
 .exact⟨[49,50,95],by rw[show Aa [49,50,95]=("12_":Str) by decide +kernel];exact run _ (by rw[h];rfl),a (c:=95) (by simp) (by lia),by simp,by simp,by simp,by simp⟩
 .exact⟨[95,55],by rw[show Aa [95,55]=("_7":Str) by decide +kernel];exact run _ (by rw[h];rfl),a (c:=95) (by simp) (by lia),by simp,by simp,by simp,by simp⟩
 exact⟨[49,95,48],by rw[show Aa [49,95,48]=("1_0":Str) by decide +kernel];exact run _ (by rw[h];rfl),a (c:=95) (by simp) (by lia),by simp,by simp,by simp,by simp⟩
def ku(r:∀x∈a::ls,32∉x)(t:(Ab [32] (a::ls)).length<=100000)(m:j<(a::ls).length)(G:DH)(d:∀w:List Nat,w.length<=50->((((a::ls).set j w).map zU).sum+((a::ls).set j w).length * [32].length<=1000000)):
  ∃w,¬WC w/\32∉w/\44∉w/\w.length<=50/\(∀c∈w,32<=c)/\Jx [.str (Aa (Ab [32] (a::ls))),.int j,.int x] G=.ok (.str (Aa (Ab [32] ((a::ls).set j w)))) G:=by
 obtain⟨w,hw,l,i,p,h,o⟩:=kt (x:=x);refine⟨w,l,i,p,h,o,?_⟩;have g:Cr (.str (Aa (Ab [32] (a::ls)))) [.str " "] G=.ok (.ref G.length) (G++[.lst (((a::ls).map Aa).map D.str)]):=by
  have e:Cr (.str (Aa (Ab [32] (a::ls)))) [.str (Aa [32])] G=if(Aa [32]).length≠0/\(Aa (Ab [32] (a::ls))).length<=1000000 then .ok (.ref G.length) (G++[.lst ((Txt.split (Aa (Ab [32] (a::ls))) (Aa [32])).map D.str)])else .bad:=rfl
  rw[Er,e,if_pos ⟨by simp,by rw[Bo];lia⟩,W4 r (by decide)]
 have s:tidy G (.ok (.ref G.length) (G++[.lst (((a::ls).map Aa).map D.str)]))=.ok (.ref G.length) (G++[.lst (((a::ls).map Aa).map D.str)]):=Dk Ci;have b:=Zm (d w h) G;rw[<-Er]at b;have k:(((a::ls).set j w).map Aa).map D.str=(((a::ls).map Aa).map D.str).set j (.str (Aa w)):=by rw[qS,qS]
 rw[k]at b;have f:QJ (((a::ls).map Aa).map D.str).length (j:Int)=uQ j:=Od (by rw[zV,zV];exact m);have n:∀G:DH,freeze G (.ok (.str (Aa w)) G)=.ok (.str (Aa w)) G:=λG=>Ej rfl
 have q:∀L:DH,tidy G (.ok (.str (Aa (Ab [32] ((a::ls).set j w)))) (G++L))=.ok (.str (Aa (Ab [32] ((a::ls).set j w)))) G:=λL=>Ik rfl
 generalize Aa (Ab [32] ((a::ls).set j w))=R,Aa (Ab [32] (a::ls))=X,((a::ls).map Aa).map D.str=L,Aa w=W at*;unfold Jx iG;rw[Af];simp[g,s,hw,n,Cz,Fe,f,b,q]
@[simp]theorem HL{i j:Int}:Ea (.int i) (.int j) G=.ok (.int (i+j)) G:=id rfl
theorem Ph{xs ys:List D}(h:lN xs+lN ys<=1000000):Ea (.tup xs) (.tup ys) G=.ok (.tup (xs++ys)) G:=by
 cases xs with
 |nil=>rfl
 |cons x xs=>
  show By (.tup (x::xs)) (.tup ys) G=_;unfold By;simp only;rw[if_pos ⟨by simp,h⟩]
def Ml{xs:List D}(h:MA (lN G) xs=uJ):freeze G (.ok (.tup xs) G)=.ok (.tup xs) G:=Ej (K4▸h)
def kv{n:Nat}{xs:List D}(h:MA n xs=uJ):MA n (xs.take k)=uJ:=by rw[<-jC k xs,Xc,zq]at h;exact h.1
def ky{n:Nat}{xs:List D}(h:MA n xs=uJ):MA n (xs.drop k)=uJ:=by rw[<-jC k xs,Xc,zq]at h;exact h.2
def Z3{xs:List D}{d:D}(i:j<lN xs)(p:lN xs<=1000)(a:MA (lN G) xs=uJ)(f:lC (lN G) d=uJ):Cv [.tup xs,.int j,d] G=.ok (.tup (xs.set j d)) G:=by
 have c1:cutD xs uZ (uQ (j:Int))=xs.take j:=Jj (by lia);have h:cutD xs (uQ ((j:Int)+1)) uZ=xs.drop (j+1):=by rw[show(j:Int)+1=((j+1:Nat):Int) by lia];exact Jv (by lia)
 have m:=Ml (kv (k:=j) a);have n:=Ml (ky (k:=j+1) a);have b:MA (lN G) (xs.take j++[d])=uJ:=by rw[Xc,kv a];simp[f]
 have g:Ea (.tup (xs.take j)) (.tup [d]) G=.ok (.tup (xs.take j++[d])) G:=Ph (by simp;lia);have l:Ea (.tup (xs.take j++[d])) (.tup (xs.drop (j+1))) G=.ok (.tup (xs.take j++[d]++xs.drop (j+1))) G:=Ph (by simp;lia);have e:xs.set j d=xs.take j++[d]++xs.drop (j+1):=by rw[List.set_eq_take_append_cons_drop,if_pos i];simp
 have c:lC (lN G) (.tup (xs.take j++[d]++xs.drop (j+1)))=uJ:=by rw[K4,Xc,b,ky a];rfl
 rw[e];generalize xs.take j++[d]++xs.drop (j+1)=R,xs.take j++[d]=T at*;generalize xs.take j=o,xs.drop (j+1)=q at*;unfold Cv gY;rw[Af];simp[Br,c1,m,Aq,g,Ml (G:=G) b,h,n,l,Ah c]
def Rc:lN p.row<=7/\5<=lN p.row:=by
 unfold RP.row RK.rest
 cases p.kd<;>simp
def Mm{q:RP}{d:D}(b:j<lN p.row)(a:∀n,lC n d=uJ)(e:p.row.set j d=q.row)(G:DH):Cv [p.enc,.int j,d] G=.ok q.enc G:=by have:=Rc (p:=p);rw[RP.enc,RP.enc,<-e];exact Z3 b (by lia) CY (a _)
def EF{cs:List Nat}(h:lN cs=0\/9<=lN cs):XH cs=uX:=by unfold XH;have:decide (1<=lN cs/\lN cs<=8)=uX:=decide_eq_false (by lia);rw[this];simp
def EG:(Aa l).cps.toList=l:=by simp[Aa]
def lD:(Aa l).length=l.length:=by simp[Aa,Str.length]
def Z6(hp:ps[k]?=uQ p):LB (ps.map RP.enc) (k:Int)=uQ p.enc:=Df rfl (by rw[zD,hp];rfl)
noncomputable def PJ(old z:Str):RK->RK
 |.IA c r (uQ (t,d,m))=>.IA c r (uQ (if t=old then z else t,d,m))
 |k=>k
noncomputable def rn(old z:Str)(b:Bool)(q:RP):RP:=⟨if b=uJ then z else q.nm,if q.dn=old then z else q.dn,q.dl,PJ old z q.kd⟩
section
variable{s0 s1:Option D}{z old:Str}{G:DH}{acc:List D}{k:Nat}
def rn4{q:RP}{sk:Option D}(d:lN acc<=1000):bM [s0,s1,zS z,zS old,zR (lN G),sk,uQ q.enc] (G++[.lst acc])=.nx [s0,s1,zS z,zS old,zR (lN G),sk,uQ q.enc] (G++[.lst (acc++[q.enc])]):=by
 have b:(G++[DO.lst acc])[lN G]?=uQ (.lst acc):=by simp
 have a:(G++[DO.lst acc]).set (lN G) (.lst (acc++[q.enc]))=G++[.lst (acc++[q.enc])]:=by simp
 have c:lN acc<1000000:=by lia
 generalize q.enc=Q at*;unfold bM;simp[b,c,a]
def rn3{q:RP}(c:lN acc<=1000):Y9 [s0,zI k,zS z,zS old,zR (lN G),zI i,uQ q.enc] (G++[.lst acc])=.nx [s0,zI k,zS z,zS old,zR (lN G),zI i,uQ (RP.enc {q with nm:=if i=k then z else q.nm})] (G++[.lst (acc++[RP.enc {q with nm:=if i=k then z else q.nm}])]):=by
 unfold Y9;by_cases e:i=k
 .subst e;have h:=Mm (p:=q) (q:={q with nm:=z}) (j:=1) (by have:=Rc (p:=q);lia) (λ_=>rfl) rfl (G++[.lst acc]);have g:∀G:DH,freeze G (.ok (RP.enc {q with nm:=z}) G)=.ok (RP.enc {q with nm:=z}) G:=λG=>Ej Oe
  have a:=rn4 (s0:=s0) (s1:=zI i) (z:=z) (old:=old) (G:=G) (q:={q with nm:=z}) (sk:=zI i) c;have b:Cv [q.enc,.int 1,.str z] (G++[.lst acc])=.ok (RP.enc {q with nm:=z}) (G++[.lst acc]):=h;rw[if_pos rfl];generalize RP.enc {q with nm:=z}=Z,q.enc=Q at*;simp[b,g,a]
 have f:¬(i:Int)=(k:Int):=by lia
 have a:=rn4 (s0:=s0) (s1:=zI k) (z:=z) (old:=old) (G:=G) (q:=q) (sk:=zI i) c;have d:({q with nm:=if i=k then z else q.nm}:RP)=q:=by rw[if_neg e]
 rw[d];generalize q.enc=Q at*;simp[e,f,a]
theorem rn2{q:RP}(C:lN acc<=1000):bN [s0,zI k,zS z,zS old,zR (lN G),zI i,uQ q.enc] (G++[.lst acc])=Y9 [s0,zI k,zS z,zS old,zR (lN G),zI i,uQ (RP.enc {q with kd:=PJ old z q.kd})] (G++[.lst acc]):=by
 have A:¬(("town":Str)="basin"):=by decide
 have nm:¬(("mill":Str)="basin"):=by decide
 unfold bN;cases e:q.kd with
 | VA a b=>
  have f:({q with kd:=PJ old z (.VA a b)}:RP)=q:=by
   obtain⟨g,h,n,o⟩:=q;dsimp only at e;subst e
   rfl
  rw[f];simp[e,RK.XA,A]
 | RA a=>
  have f:({q with kd:=PJ old z (.RA a)}:RP)=q:=by
   obtain⟨g,h,n,o⟩:=q;dsimp only at e;subst e
   rfl
  rw[f];simp[e,RK.XA,nm]
 | IA b r u=>
  have p:∀G,Ax q.enc (.int 6) G=.ok (QD u) G:=λG=>by simp[RP.enc,RP.row,e,RK.rest]
  cases u with
  | none=>
   have f:({q with kd:=PJ old z (.IA b r uZ)}:RP)=q:=by
    obtain⟨g,h,n,o⟩:=q;dsimp only at e;subst e
    rfl
   rw[f];simp[e,RK.XA,p,QD,Dm]
  | some w=>
   obtain⟨t,d,m⟩:=w;by_cases l:t=old
   .have f:({q with kd:=PJ old z (.IA b r (uQ (t,d,m)))}:RP)={q with kd:=.IA b r (uQ (z,d,m))}:=by show({q with kd:=.IA b r (uQ (if t=old then z else t,d,m))}:RP)=_;rw[if_pos l]
    rw[f];have v:=Mm (q:={q with kd:=.IA b r (uQ (z,d,m))}) (j:=6) (by unfold RP.row RK.rest;rw[e];simp) (λ_=>rfl) (by unfold RP.row RK.rest;rw[e];rfl) (G++[.lst acc]);have s:Cv [q.enc,.int 6,.tup [.str z,.int d,.int m]] (G++[.lst acc])=.ok (RP.enc {q with kd:=.IA b r (uQ (z,d,m))}) (G++[.lst acc]):=v;have x:∀G:DH,freeze G (.ok (RP.enc {q with kd:=.IA b r (uQ (z,d,m))}) G)=.ok (RP.enc {q with kd:=.IA b r (uQ (z,d,m))}) G:=λG=>Ej Oe
    have c1:∀t:Str,cutD [D.str t,.int d,.int m] (uQ 1) uZ=[.int d,.int m]:=λ_=>rfl
    have y:∀G:DH,freeze G (.ok (.tup [.int d,.int m]) G)=.ok (.tup [.int d,.int m]) G:=λG=>Ej rfl
    have B:∀G:DH,freeze G (.ok (.tup [.str z,.int d,.int m]) G)=.ok (.tup [.str z,.int d,.int m]) G:=λG=>Ej rfl
    generalize RP.enc {q with kd:=.IA b r (uQ (z,d,m))}=Z at*;simp[e,RK.XA,p,QD,Dm,l,Aq,Br,c1,y,B,s,x]
   have f:({q with kd:=PJ old z (.IA b r (uQ (t,d,m)))}:RP)=q:=by obtain⟨g,h,n,o⟩:=q;dsimp only at e;subst e;show(⟨g,h,n,.IA b r (uQ (if t=old then z else t,d,m))⟩:RP)=_;rw[if_neg l]
   rw[f];simp[e,RK.XA,p,QD,Dm,l]
def rn1{q:RP}{PS:List D}{x6:Option D}(d:LB PS (i:Int)=uQ q.enc)(f:lN acc<=1000):Ry [zT PS,zI k,zS z,zS old,zR (lN G),zI i,x6] (G++[.lst acc])=.nx [zT PS,zI k,zS z,zS old,zR (lN G),zI i,uQ (RP.enc (rn old z (decide (i=k)) q))] (G++[.lst (acc++[RP.enc (rn old z (decide (i=k)) q)])]):=by
 have g:rn old z (decide (i=k)) q={({({q with dn:=if q.dn=old then z else q.dn}:RP)with kd:=PJ old z q.kd}:RP)with nm:=if i=k then z else q.nm}:=by
  unfold rn
  by_cases e:i=k<;>simp[e]
 rw[g];rw[<-(rn3 (s0:=zT PS) (z:=z) (old:=old) (G:=G) (acc:=acc) (k:=k) (q:={({q with dn:=if q.dn=old then z else q.dn}:RP)with kd:=PJ old z q.kd}) (i:=i) f),<-(rn2 (s0:=zT PS) (z:=z) (old:=old) (G:=G) (acc:=acc) (k:=k) (q:={q with dn:=if q.dn=old then z else q.dn}) (i:=i) f)];unfold Ry gZ;by_cases e:q.dn=old
 .have l:=Mm (p:=q) (q:={q with dn:=z}) (j:=2) (by have:=Rc (p:=q);lia) (λ_=>rfl) rfl (G++[.lst acc]);have c:Cv [q.enc,.int 2,.str z] (G++[.lst acc])=.ok (RP.enc {q with dn:=z}) (G++[.lst acc]):=l;have h:∀G:DH,freeze G (.ok (RP.enc {q with dn:=z}) G)=.ok (RP.enc {q with dn:=z}) G:=λG=>Ej Oe
  have b:({q with dn:=if q.dn=old then z else q.dn}:RP)={q with dn:=z}:=by rw[if_pos e]
  rw[b];generalize RP.enc {q with dn:=z}=Z at*;simp[d,e,c,h]
 have b:({q with dn:=if q.dn=old then z else q.dn}:RP)=q:=by rw[if_neg e]
 rw[b];simp[d,e]
theorem lH{ps:List RP}:∀(m i:Nat)(acc:List D)(x5 x6:Option D),i+m=lN ps->lN acc+m<=1000->∃a b,
  Bt (gV 5) Ry (Bu i m) [zT (ps.map RP.enc),zI k,zS z,zS old,zR (lN G),x5,x6] (G++[.lst acc])=
   .nx [zT (ps.map RP.enc),zI k,zS z,zS old,zR (lN G),a,b] (G++[.lst (acc++(qD i m).map λj=>RP.enc (rn old z (decide (j=k)) (ps.getD j ⟨"","",0,.RA 0⟩)))])
 |0,i,acc,x5,x6,_,_=>⟨x5,x6,by rw[K1,Gb];simp⟩
 |m+1,i,acc,x5,x6,e,g=>by
  have f:ps[i]?=uQ (ps.getD i ⟨"","",0,.RA 0⟩):=by rw[zO,zX (by lia)];rfl
  obtain⟨a,b,d⟩:=lH (ps:=ps) m (i+1) (acc++[RP.enc (rn old z (decide (i=k)) (ps.getD i ⟨"","",0,.RA 0⟩))]) (zI i) (uQ (RP.enc (rn old z (decide (i=k)) (ps.getD i ⟨"","",0,.RA 0⟩)))) (by lia) (by simp;lia);refine⟨a,b,?_⟩;have c:((i:Int)+1)=((i+1:Nat):Int):=by lia
  rw[Ig,Ey];simp only[Cm,R.Gh,q8,rn1 (z:=z) (old:=old) (G:=G) (acc:=acc) (k:=k) (x6:=x6) (Z6 f) (by lia),Gs];rw[c,d,List.range'_succ,zJ,qW]
  rfl
end
noncomputable def ZF(old z:Str)(k:Nat)(ps:List RP):List RP:=(qD 0 (lN ps)).map λj=>rn old z (decide (j=k)) (ps.getD j ⟨"","",0,.RA 0⟩)
def Xd{z:Str}(h:ps[i]?=uQ p):(ZF old z k ps)[i]?=uQ (rn old z (decide (i=k)) p):=by unfold ZF;rw[zD,List.getElem?_range' ((zv.mp h).1)];simp[zO,h]
def Qy{z:Str}:lN (ZF old z k ps)=lN ps:=by simp[ZF]
def EH(hp:ps[k]?=uQ p)(n:lN ps<=100){z:Str}(G:DH):Ww [.tup (ps.map RP.enc),.int k,.str z] G=.ok (.tup ((ZF p.nm z k ps).map RP.enc)) G:=by
 have c:=Z6 hp;obtain⟨e,f,b⟩:=lH (G:=G) (ps:=ps) (lN ps) 0 [] uZ uZ (by lia) (by simp;lia);rw[j9]at b;have a:Bt (gV 5) Ry (Bu 0 (lN ps)) [zT (ps.map RP.enc),zI k,zS z,zS p.nm,zR (lN G),uZ,uZ] (G++[.lst []])=.nx [zT (ps.map RP.enc),zI k,zS z,zS p.nm,zR (lN G),e,f] (G++[.lst ((ZF p.nm z k ps).map RP.enc)]):=by rw[show(ZF p.nm z k ps).map RP.enc=(qD 0 (lN ps)).map λj=>RP.enc (rn p.nm z (decide (j=k)) (ps.getD j ⟨"","",0,.RA 0⟩)) by unfold ZF;rw[qA];rfl];exact b
 have m:tidy G (.ok (.ref (lN G)) (G++[.lst []]))=.ok (.ref (lN G)) (G++[.lst []]):=Dk rfl;have d:inR (lN ps:Int):=H9 (by lia) (by lia);have h:((lN (ps.map RP.enc):Nat):Int)=lN ps:=by rw[zV]
 have i:lN ((ZF p.nm z k ps).map RP.enc)<=1000000:=by rw[zV,Qy];lia
 have g:(G++[DO.lst ((ZF p.nm z k ps).map RP.enc)])[lN G]?=uQ (.lst ((ZF p.nm z k ps).map RP.enc)):=by simp
 have l:tidy G (.ok (.tup ((ZF p.nm z k ps).map RP.enc)) (G++[DO.lst ((ZF p.nm z k ps).map RP.enc)]))=.ok (.tup ((ZF p.nm z k ps).map RP.enc)) G:=Ik (K4▸Pz);generalize(ZF p.nm z k ps).map RP.enc=R,ps.map RP.enc=PS at*;unfold Ww gb;rw[Af];simp[c,Ai,m,h,d,a,g,l,i]
theorem lJ:∀(r:List ND)(a:Int),Hr yr a r=uJ->∀s∈r,s.1<yr
 |[],_,_,s,b=>nomatch b
 |u::r,a,h,s,b=>by
  simp[Hr,zq,decide_eq_true_eq]at h;rcases zZ.mp b with rfl|b
  .exact h.1.2
  exact lJ r u.1 h.2 s b
theorem lL:∀(r:List JB)(a:Int),Dw a r=uJ->∀s∈r,1<=s.m
 |[],_,_,s,b=>nomatch b
 |u::r,a,h,s,b=>by
  simp[Dw,zq,decide_eq_true_eq]at h;rcases zZ.mp b with rfl|b
  .exact h.1.2
  exact lL r _ h.2 s b
theorem EI(h:I9 yr r=uJ):Hr yr (-1) r=uJ:=by
 cases r with
 |nil=>cases h
 |cons s r=>
  unfold I9 at h;exact(qC.mp h).2
def lM(h:I9 yr r=uX):Fd yr r q=uX:=by unfold Fd;rw[h];rfl
def EJ{s:ND}(a:s∈r)(h:(Dw 0 s.2&&Hf s.2 q)=uX):Fd yr r q=uX:=by
 unfold Fd;have:(r.all λs=>Dw 0 s.2&&Hf s.2 q)=uX:=by rw[<-uu1,qX];intro z;rw[z s a]at h;cases h
 rw[this,Bool.and_false]
structure GR (h:RH):Prop where
 yr:1<=h.yr/\h.yr<=24
 n:1<=lN h.ps/\lN h.ps<=12
 rk:∀(k:Nat)(p:RP),h.ps[k]?=uQ p->h.rk k p=0
 nm:∀(k:Nat)(p:RP),h.ps[k]?=uQ p->∃l:List Nat,p.nm=Aa l/\1<=lN l/\lN l<=8
 ru:∀(k:Nat)(p:RP),h.ps[k]?=uQ p->∀(b:Int)(r:List ND)(q:Option (Str×Int×Int)),p.kd=.IA b r q->lN r<=100/\∀s∈r,lN s.2<=100
def GR.sh(g:GR h)(hp:h.ps[k]?=uQ p):Sh p:=by obtain⟨l,e,d,c⟩:=g.nm k p hp;exact⟨by rw[e,lD];lia,λb r q e s a=>by have:=(g.ru k p hp b r q e).2 s a;lia⟩
def Tj{A B:List Str}(h:UK yr A B p=0):Fi A p=uJ/\Hg B p=uJ/\Fv p.kd=uJ/\∀b r q,p.kd=.IA b r q->Eo (A++B) q=uJ/\Fd yr r q=uJ:=by
 unfold UK at h;by_cases d:Fi A p=uX
 .rw[if_pos d]at h;cases h
 rw[if_neg d]at h;by_cases a:Hg B p=uX
 .rw[if_pos a]at h;cases h
 .rw[if_neg a]at h;by_cases f:Fv p.kd=uX
  .rw[if_pos f]at h;cases h
  .rw[if_neg f]at h;refine⟨by simpa using d,by simpa using a,by simpa using f,λb r q e=>?_⟩;rw[e]at h;simp only at h;by_cases c:Eo (A++B) q=uX
   .rw[if_pos c]at h;cases h
   .rw[if_neg c]at h;by_cases i:Fd yr r q=uX
    .rw[if_pos i]at h;cases h
    exact⟨by simpa using c,by simpa using i⟩
theorem lO{A B:List Str}(d:Fi A p=uJ)(c:Hg B p=uJ)(f:Fv p.kd=uJ)(i:∀b r q,p.kd=.IA b r q->Eo (A++B) q=uJ/\Fd yr r q=uJ):UK yr A B p=0:=by
 unfold UK;rw[d,c,f];simp[Bool.true_eq_false,if_false];cases e:p.kd with
 |IA b r q=>
  obtain⟨a,k⟩:=i b r q e;simp only;rw[a,k];simp
 |_=>rfl
def T4{A:List Str}(h:Fi A p=uJ):XH p.nm.cps.toList=uJ/\p.nm∉A:=by unfold Fi at h;simp at h;exact h
section
variable{h:RH}(g:GR h)
include g
theorem GR.EK{z:Str}(hz:z∈h.A k):XH z.cps.toList=uJ/\z.length<=8/\z∉h.B k/\(∀p,h.ps[k]?=uQ p->z≠p.nm):=by
 obtain⟨q,n,rfl⟩:=z7.mp hz;obtain⟨j,o,e⟩:=qw n;have b:j<k/\j<h.ps.length:=by rw[qH]at o;lia
 have a:h.ps[j]?=uQ q:=by rw[<-e,List.getElem_take];exact zX b.2
 obtain⟨l,el,u,s⟩:=g.nm j q a;have f:∀i p,j<i->h.ps[i]?=uQ p->p.nm≠q.nm:=λi p d hp z=>by have:=(T4 (Tj (g.rk i p hp)).1).2;exact this (by rw[z];exact z7.mpr ⟨q,qO (by rw[jY d];exact a),rfl⟩)
 refine⟨(T4 (Tj (g.rk j q a)).1).1,by rw[el,lD];exact s,λz=>?_,λp hp z=>f k p b.1 hp z.symm⟩;obtain⟨p,hp,m⟩:=z7.mp z;obtain⟨i,d,t⟩:=qw hp;rw[qN]at d;have c:h.ps[k+1+i]?=uQ p:=by rw[<-t,List.getElem_drop];exact zX (by lia)
 exact f (k+1+i) p (by lia) c m
theorem GR.EL{z:Str}(hz:z∈h.B k):XH z.cps.toList=uJ/\∀p,h.ps[k]?=uQ p->z≠p.nm:=by
 obtain⟨p,hp,rfl⟩:=z7.mp hz;obtain⟨i,f,d⟩:=qw hp;rw[qN]at f;have c:h.ps[k+1+i]?=uQ p:=by rw[<-d,List.getElem_drop];exact zX (by lia)
 obtain⟨a,b⟩:=T4 (Tj (g.rk _ p c)).1;refine⟨a,λq e z=>b ?_⟩;rw[z];exact z7.mpr ⟨q,qO (i:=k) (by rw[jY (by lia)];exact e),rfl⟩
end
def EM{z:Str}(h:XH z.cps.toList=uJ):z≠"sea":=λe=>by rw[e]at h;exact absurd h (by decide +kernel)
def EN(hp:ps[k]?=uQ p)(e:p'.nm=p.nm):(ps.set k p').map RP.nm=ps.map RP.nm:=by
 rw[qS,e];have:(ps.map RP.nm)[k]'(by rw[zV];exact((zv.mp hp).1))=p.nm:=by simp[(zv.mp hp).2]
 rw[<-this];exact List.set_getElem_self _
def Wi:h.A k=(h.ps.map RP.nm).take k:=by unfold RH.A;rw[jM]
def Uz:h.B k=(h.ps.map RP.nm).drop (k+1):=by unfold RH.B;rw[xX]
structure QX (h':RH) (k:Nat) (r:Nat):Prop where
 yr:1<=h'.yr/\h'.yr<=24
 n:1<=lN h'.ps/\lN h'.ps<=12
 ah:∀(i:Nat)(q:RP),i<k->h'.ps[i]?=uQ q->h'.rk i q=0/\Sh q
 at_:∃p',h'.ps[k]?=uQ p'/\h'.rk k p'=r/\Sh p'
def Wh(g:GR h)(hp:h.ps[k]?=uQ p)(e:p'.nm=p.nm)(sh:Sh p'){r:Nat}(f:UK h.yr (h.A k) (h.B k) p'=r):QX ⟨h.yr,h.ps.set k p'⟩ k r:=by
 have b:=EN hp e;have c:∀i,RH.A ⟨h.yr,h.ps.set k p'⟩ i=h.A i:=λi=>by rw[Wi,Wi,b]
 have d:∀i,RH.B ⟨h.yr,h.ps.set k p'⟩ i=h.B i:=λi=>by rw[Uz,Uz,b]
 refine⟨g.yr,by rw[qF];exact g.n,λi q m l=>?_,p',?_,?_,sh⟩
 .have a:h.ps[i]?=uQ q:=by rw[<-l];exact(qy (by lia)).symm
  refine⟨?_,g.sh a⟩;unfold RH.rk;rw[c,d];exact g.rk i q a
 .exact qU ((zv.mp hp).1)
 unfold RH.rk;rw[c,d];exact f
def RX{A B:List Str}(a:Fi A p=uJ)(b:Hg B p=uX):UK yr A B p=2:=by unfold UK;rw[a,b];simp
def EO{z:Str}(hk:k<lN ps):(ZF old z k ps).map RP.nm=(ps.map RP.nm).set k z:=by
 refine List.ext_getElem? λi=>?_
 by_cases a:i<lN ps
 .rw[zD,Xd (zX a),qM];by_cases e:k=i
  .subst e;rw[if_pos rfl,if_pos (by rw[zV];exact a)];simp[rn]
  rw[if_neg e,zD,zX a];have:¬i=k:=λq=>e q.symm
  simp[rn,this]
 rw[qj (by rw[zV,Qy];lia),qj (by rw[qF,zV];lia)]
theorem EQ{z:Str}{k:RK}:Bm (PJ old z k)=Bm k:=by
 cases k with
 |IA b r q=>rcases q with _|⟨t,d,m⟩<;>rfl
 |_=>rfl
def ER(g:GR h)(hp:h.ps[k]?=uQ p){z:Str}(hz:XH z.cps.toList=uX\/z∈h.A k)(X:z.length<=1000\/z∈h.A k):QX ⟨h.yr,ZF p.nm z k h.ps⟩ k 1:=by
 have hk:=(zv.mp hp).1;have E:=EO (old:=p.nm) (z:=z) hk;have N:∀i,i<=k->RH.A ⟨h.yr,ZF p.nm z k h.ps⟩ i=h.A i:=λi s=>by rw[Wi,Wi,E,List.take_set_of_le (by lia)]
 have o:∀i,i<k->z∈RH.B ⟨h.yr,ZF p.nm z k h.ps⟩ i:=λi s=>by rw[Uz,E];refine qO (i:=k-(i+1)) ?_;rw[List.getElem?_drop,qM];rw[if_pos (by lia),if_pos (by rw[zV];lia)]
 have c:∀i y,i<k->y∈h.B i->y≠p.nm->y∈RH.B ⟨h.yr,ZF p.nm z k h.ps⟩ i:=λi y s M H=>by
  rw[Uz]at M⊢;rw[E];obtain⟨j,P,e⟩:=qw M;have u:(h.ps.map RP.nm)[i+1+j]?=uQ y:=by rw[<-e,List.getElem_drop];exact zX (by rw[qN]at P;lia)
  refine qO (i:=j) ?_;rw[List.getElem?_drop,qy,u];intro q;rw[<-q,zD,hp]at u;exact H (by simpa using u.symm)
 refine⟨g.yr,by rw[Qy];exact g.n,λi W s F=>?_,rn p.nm z uJ p,?_,?_,?_⟩
 .obtain⟨q,J⟩:∃q,h.ps[i]?=uQ q:=⟨_,zX (by lia)⟩;have x:=Xd (old:=p.nm) (z:=z) (k:=k) J;rw[decide_eq_false (by lia:¬i=k)]at x;have O:W=rn p.nm z uX q:=by have:=F;rw[x]at this;exact(xv this).symm
  subst O;obtain⟨o1,C,K,U⟩:=Tj (g.rk i q J);have sh:=g.sh J;have shr:∀b r l,PJ p.nm z q.kd=.IA b r l->∃a,q.kd=.IA b r a/\(∀A,Eo A a=uJ->(∀t d m,a=uQ (t,d,m)->t≠p.nm->t∈A)->True)/\((a=uZ/\l=uZ)\/∃t d m,a=uQ (t,d,m)/\l=uQ (if t=p.nm then z else t,d,m)):=λb r l e=>by
   cases f:q.kd with
   |IA Q T a=>
    rw[f]at e;rcases a with _|⟨t,d,m⟩
    .cases e;exact⟨uZ,rfl,λ_ _ _=>trivial,.inl ⟨rfl,rfl⟩⟩
    have u:=e;cases u;exact⟨_,rfl,λ_ _ _=>trivial,.inr ⟨t,d,m,rfl,rfl⟩⟩
   |_=>rw[f]at e;cases e
  refine⟨?_,⟨sh.nm,λb r l e=>?_⟩⟩
  .unfold RH.rk;rw[N i (by lia)];refine lO o1 ?_ ?_ λb r l e=>?_
   .unfold Hg at C⊢;rw[zq]at C⊢;refine⟨?_,C.2⟩;show(decide ((if q.dn=p.nm then z else q.dn)="sea")||decide ((if q.dn=p.nm then z else q.dn)∈RH.B ⟨h.yr,ZF p.nm z k h.ps⟩ i))=uJ;by_cases e:q.dn=p.nm
    .rw[if_pos e,decide_eq_true (o i s),Bool.or_true]
    rw[if_neg e];rw[j6,decide_eq_true_iff,decide_eq_true_iff]at C⊢;exact C.1.imp id λw=>c i _ s w e
   .show Fv (PJ p.nm z q.kd)=uJ;unfold Fv at K⊢;rw[EQ];exact K
   obtain⟨a,f,_,S⟩:=shr b r l e;obtain⟨v,L⟩:=U b r a f;rcases S with⟨rfl,rfl⟩|⟨t,d,m,rfl,rfl⟩
   .exact⟨rfl,L⟩
   .refine⟨?_,L⟩;unfold Eo at v⊢;simp only at v⊢;rw[zq]at v⊢;refine⟨?_,v.2⟩;rw[decide_eq_true_iff]at v⊢;by_cases I:t=p.nm
    .rw[if_pos I];exact zk _ (o i s)
    .rw[if_neg I];rcases zG.mp v.1 with w|w
     .exact qB _ w
     exact zk _ (c i t s w I)
  obtain⟨a,f,_⟩:=shr b r l e;exact sh.ru b r a f
 .have x:=Xd (old:=p.nm) (z:=z) (k:=k) hp;rw[decide_eq_true rfl]at x;exact x
 .unfold RH.rk;rw[N k (by lia)];unfold UK;have:Fi (h.A k) (rn p.nm z uJ p)=uX:=by
   show(XH z.cps.toList && !decide (z∈h.A k))=uX;rcases hz with w|w
   .rw[w];rfl
   rw[decide_eq_true w];simp
  rw[this];simp
 refine⟨?_,λb r l e=>?_⟩
 .show z.length<=1000;rcases X with w|w
  .exact w
  have:=(g.EK w).2.1;lia
 .have e:PJ p.nm z p.kd=.IA b r l:=e;cases f:p.kd with
  |IA Q T a=>
   rw[f]at e;rcases a with _|⟨t,d,m⟩
   .cases e;exact(g.sh hp).ru _ _ _ f
   .have u:=e;cases u;exact(g.sh hp).ru _ _ _ f
  |_=>rw[f]at e;cases e
theorem lP(c:lN h.ps<=100):∀(m k:Nat)(x:Option D),k+m<=lN h.ps->(∀(i:Nat)(q:RP),k<=i->i<k+m->h.ps[i]?=uQ q->h.rk i q=0/\Sh q)->∃a,Bt (gV 2) J8 (Bu k m) [uQ h.enc,s1,x] G=.nx [uQ h.enc,s1,a] G
 |0,k,x,_,_=>⟨x,by rw[K1,Gb]⟩
 |m+1,k,x,e,d=>by
  obtain⟨a,j⟩:=lP c m (k+1) (zI k) (by lia) λi q n l=>d i q (by lia) (by lia)
  refine⟨a,?_⟩;obtain⟨q,b⟩:∃q,h.ps[k]?=uQ q:=⟨_,zX (by lia)⟩;obtain⟨f,sh⟩:=d k q (by lia) (by lia) b;have g:J8 [uQ h.enc,s1,zI k] G=.nx [uQ h.enc,s1,zI k] G:=by unfold J8;simp[(cM b c sh G).1 f]
  rw[Ig,Ey];simp[Cm,R.Gh,q8,g,Gs];exact j
theorem lR{r:Nat}(b:QX h k r)(f:r≠0):∀(m j:Nat)(x:Option D),j<=k->k<j+m->j+m<=lN h.ps->∃L,Bt (gV 2) J8 (Bu j m) [uQ h.enc,s1,x] G=.err ⟨JD r,[("place",.int k)]⟩ (G++L)
 |0,j,x,o,l,_=>by lia
 | m+1,j,x,o,l,u=>by
  have t:=b.n.2;rw[Ig,Ey];by_cases e:j=k
  .subst e;obtain⟨s,c,rk,sh⟩:=b.at_;obtain⟨L,d⟩:=(cM c (by lia) sh G).2 (rk▸f);rw[rk]at d;refine⟨L,?_⟩;have a:J8 [uQ h.enc,s1,zI j] G=.err ⟨JD r,[("place",.int j)]⟩ (G++L):=by unfold J8;simp[d]
   simp[Cm,R.Gh,q8,a,rf]
  obtain⟨q,g⟩:∃q,h.ps[j]?=uQ q:=⟨_,zX (by lia)⟩;obtain⟨i,sh⟩:=b.ah j q (by lia) g;obtain⟨L,p⟩:=lR b f m (j+1) (zI j) (by lia) (by lia) (by lia);refine⟨L,?_⟩;have a:J8 [uQ h.enc,s1,zI j] G=.nx [uQ h.enc,s1,zI j] G:=by unfold J8;simp[(cM g (by lia) sh G).1 i]
  simp[Cm,R.Gh,q8,a,Gs];exact p
def lT(g:GR h)(G:DH):Gg [h.enc] G=.ok h.enc G:=by
 have o:=g.n.1;have e:=g.n.2;obtain⟨r,f⟩:=lP (by lia) (lN h.ps) 0 uZ (by lia) λi q _ _ b=>⟨g.rk i q b,g.sh b⟩
 have a:Bt (gV 2) J8 (Bu 0 (lN h.ps)) [uQ h.enc,zT (h.ps.map RP.enc),uZ] G=_:=f;have p:(1:Int)<=(lN h.ps:Int):=by lia
 have l:(lN h.ps:Int)<=12:=by lia
 have c:inR (lN h.ps:Int):=H9 (by lia) (by lia);have j:((lN (h.ps.map RP.enc):Nat):Int)=(lN h.ps:Int):=by rw[zV]
 have m:∀G,Ax h.enc (.int 0) G=.ok (.int h.yr) G:=λG=>O9
 have k:∀G,Ax h.enc (.int 1) G=.ok (.tup (h.ps.map RP.enc)) G:=λG=>Q9
 have d:tidy G (.ok h.enc G)=.ok h.enc G:=Ah cL;generalize h.ps.map RP.enc=PS,h.enc=H at*;unfold Gg Z0;rw[Af];simp[m,k,g.yr.1,g.yr.2,j,p,l,o,e,c,a,d]
def ES{r:Nat}(b:QX h k r)(e:r≠0)(G:DH):∃L,Gg [h.enc] G=.err ⟨JD r,[("place",.int k)]⟩ (G++L):=by
 have l:=b.n.1;have f:=b.n.2;obtain⟨q,c,_⟩:=b.at_;have hk:=(zv.mp c).1;obtain⟨L,g⟩:=lR b e (lN h.ps) 0 uZ (by lia) (by lia) (by lia);have d:Bt (gV 2) J8 (Bu 0 (lN h.ps)) [uQ h.enc,zT (h.ps.map RP.enc),uZ] G=_:=g;have p:(1:Int)<=(lN h.ps:Int):=by lia
 have o:(lN h.ps:Int)<=12:=by lia
 have a:inR (lN h.ps:Int):=H9 (by lia) (by lia);have i:((lN (h.ps.map RP.enc):Nat):Int)=(lN h.ps:Int):=by rw[zV]
 have m:∀G,Ax h.enc (.int 0) G=.ok (.int h.yr) G:=λG=>O9
 have j:∀G,Ax h.enc (.int 1) G=.ok (.tup (h.ps.map RP.enc)) G:=λG=>Q9
 refine⟨L,?_⟩;generalize h.ps.map RP.enc=PS,h.enc=H at*;unfold Gg Z0;rw[Af];simp[m,j,b.yr.1,b.yr.2,i,p,o,l,f,a,d]
def lU(g:(h.yr<1\/24<h.yr)\/lN h.ps=0\/lN h.ps=13)(G:DH):Gg [h.enc] G=.err ⟨"NoHouse",[]⟩ G:=by
 have b:((lN (h.ps.map RP.enc):Nat):Int)=(lN h.ps:Int):=by rw[zV]
 have d:∀G,Ax h.enc (.int 0) G=.ok (.int h.yr) G:=λG=>O9
 have c:∀G,Ax h.enc (.int 1) G=.ok (.tup (h.ps.map RP.enc)) G:=λG=>Q9
 generalize h.ps.map RP.enc=PS,h.enc=H at*;unfold Gg Z0;rw[Af];by_cases a:1<=h.yr
 .by_cases f:h.yr<=24
  .rcases(by lia:lN h.ps=0\/lN h.ps=13)with n|n
   .rw[n]at b;simp at b;simp[d,c,a,f,b,M8]
   rw[n]at b;have e:lN PS=13:=by lia
   simp[d,c,a,f,e,M8]
  simp[d,c,a,f,M8]
 simp[d,c,a,M8]
def Rh{h:Hs}(hi:i<h.n):h.pl i=h.ps[i]'hi:=by
 unfold Hs.pl;rw[zO,zX hi]
 rfl
def lV{h:Hs}{x:Str}:(x∈(h.ps.take k).map Pl.nm)↔∃i,i<k/\i<h.n/\(h.pl i).nm=x:=by
 rw[z7];constructor
 .rintro⟨p,hp,rfl⟩;obtain⟨j,b,rfl⟩:=List.mem_take_iff_getElem.mp hp;have a:j<h.n:=zK b (Nat.min_le_right _ _);exact⟨j,zK b (Nat.min_le_left _ _),a,by rw[Rh a];rfl⟩
 rintro⟨i,c,a,rfl⟩;exact⟨h.pl i,List.mem_take_iff_getElem.mpr ⟨i,Nat.lt_min.mpr ⟨c,a⟩,(Rh a).symm⟩,rfl⟩
def EU{h:Hs}{x:Str}:(x∈(h.ps.drop k).map Pl.nm)↔∃i,k<=i/\i<h.n/\(h.pl i).nm=x:=by
 rw[z7];constructor
 .rintro⟨p,hp,rfl⟩;obtain⟨j,d,rfl⟩:=List.mem_drop_iff_getElem.mp hp;have a:k+j<h.n:=by show k+j<lN h.ps;lia
  exact⟨k+j,by lia,a,by rw[Rh a];rfl⟩
 rintro⟨i,b,a,rfl⟩;have c:i<lN h.ps:=a;exact⟨h.pl i,List.mem_drop_iff_getElem.mpr ⟨i-k,by lia,by rw[Rh a];congr 1;lia⟩,rfl⟩
def Kd.raw(h:Hs):Kd->RK
 |.IA b r uZ=>.IA b r uZ
 |.IA b r (uQ (t,d,m))=>.IA b r (uQ ((h.pl t).nm,(d:Int),m))
 |.VA a b=>.VA a b
 |.RA a=>.RA a
def Pl.raw(h:Hs)(p:Pl):RP:=⟨p.nm,h.VO p.dn,p.dl,p.kd.raw h⟩
noncomputable def Hs.raw(h:Hs):RH:=⟨h.yr,h.ps.map (Pl.raw h)⟩
theorem EV{h:Hs}{p:Pl}:(Pl.raw h p).enc=h.VF p:=by
 unfold RP.enc RP.row Pl.raw Hs.VF;cases p.kd with
 |IA b r q=>
  cases q with
  |none=>rfl
  |some z=>obtain⟨t,d,m⟩:=z;rfl
 |_=>rfl
def lW{h:Hs}:h.raw.enc=h.enc:=by
 unfold RH.enc Hs.enc Hs.raw Hs.MX;simp only[qA]
 rw[show h.ps.map (RP.enc∘Pl.raw h)=h.ps.map h.VF from j2 λp _=>EV]
theorem lX:∀{r:List ND}{a:Int},PU yr a r->Hr yr a r=uJ
 |[],_,_=>rfl
 |s::r,a,h=>by simp[Hr,lX h.2.2,h.1,h.2.1]
theorem lY:∀{r:List ND}{a:Int},PU yr a r->a+lN r<=max a (yr-1)
 |[],a,_=>by simp;lia
 |s::r,a,h=>by have d:=lY h.2.2;have b:=h.1;have c:=h.2.1;simp[z0];lia
theorem Zt:∀{st:List JB}{a:Int},Good a st->Dw a st=uJ
 |[],_,_=>rfl
 |s::r,a,h=>by simp[Dw,Zt h.2.2,h.1,h.2.1]
def Xe{h:Hs}(hp:h.raw.ps[k]?=uQ p):k<h.n/\p=Pl.raw h (h.pl k):=by unfold Hs.raw at hp;rw[zD]at hp;obtain⟨q,a,rfl⟩:=zA.mp hp;have hk:=(zv.mp a).1;exact⟨hk,congrArg (Pl.raw h) ((zv.mp a).2.symm.trans (Rh hk).symm)⟩
def EW{h:Hs}:h.raw.A k=(h.ps.take k).map Pl.nm:=by
 unfold RH.A Hs.raw;rw[<-jM,qA]
 rfl
def EX{h:Hs}:h.raw.B k=(h.ps.drop (k+1)).map Pl.nm:=by
 unfold RH.B Hs.raw;rw[<-xX,qA]
 rfl
theorem EY{h:Hs}(g:WN h)(C:1<=h.n)(Z:h.yr<=24)(pw:∀k,k<h.n->OU h.n k (h.pl k)/\QU h.yr k (h.pl k))(O:∀k,k<h.n->Wd (h.pl k).nm):GR h.raw:=by
 have Q:=g.yr;have hn:=g.len;have en:lN h.raw.ps=h.n:=by simp[Hs.raw,Hs.n]
 refine⟨⟨by show 1<=h.yr;lia,Z⟩,by lia,λk p hp=>?_,λk p hp=>?_,λk p hp b r q e=>?_⟩
 .obtain⟨hk,rfl⟩:=Xe hp;obtain⟨B,v⟩:=pw k hk;have hA:(h.pl k).nm∉(h.ps.take k).map Pl.nm:=λz=>by obtain⟨i,C,y,h3⟩:=lV.mp z;have:=g.inj i k y hk h3;lia
  have J:∀i,k<i->i<h.n->(h.pl i).nm∈(h.ps.drop (k+1)).map Pl.nm:=λi C y=>EU.mpr ⟨i,C,y,rfl⟩
  have H:∀i,i≠k->i<h.n->(h.pl i).nm∈(h.ps.take k).map Pl.nm++(h.ps.drop (k+1)).map Pl.nm:=λi C y=>by
   rw[zG];by_cases z:i<k
   .exact .inl (lV.mpr ⟨i,z,y,rfl⟩)
   exact .inr (J i (by lia) y)
  unfold RH.rk;rw[EW,EX];refine lO ?_ ?_ ?_ λb r q e=>?_
  .simp only[Fi,Pl.raw,zq,Bool.not_eq_true',decide_eq_false_iff_not];exact⟨(CS (O k hk) (g.VY k hk)).1,decide_eq_false hA⟩
  .have d5:=g.dl k hk;have F:h.VO (h.pl k).dn="sea"\/h.VO (h.pl k).dn∈(h.ps.drop (k+1)).map Pl.nm:=by
    cases S:(h.pl k).dn with
    |none=>exact .inl rfl
    |some d=>
     obtain⟨W,d2⟩:=g.dn k d hk S;exact .inr (J d W d2)
   simp only[Hg,Pl.raw,zq,j6,decide_eq_true_eq];exact⟨F.imp (λz=>decide_eq_true z) (λz=>decide_eq_true z),decide_eq_true (by lia),decide_eq_true (by lia)⟩
  .show Fv ((h.pl k).kd.raw h)=uJ;unfold Fv;cases e:(h.pl k).kd with
   |VA a b=>
    obtain⟨L,X⟩:=B.VA a b e;have:¬min a b<0:=by lia
    simp[Kd.raw,Bm,this]
   |RA a=>
    have L:=v.RA a e;have:¬a<0:=by lia
    simp[Kd.raw,Bm,this]
   | IA b r q=>
    have L:=(B.IM b r q e).1;cases q with
    |none=>
     have:¬b<0:=by lia
     simp[Kd.raw,Bm,this]
    |some z=>
     obtain⟨t,d,m⟩:=z;have X:=(v.pq b r t d m e).2.1;have:¬min b m<0:=by lia
     simp[Kd.raw,Bm,this]
  have j:(h.pl k).kd.raw h=.IA b r q:=e;cases f:(h.pl k).kd with
  | IA w o u=>
   obtain⟨E,⟨st,U,N⟩,P⟩:=v.asc w o u f;have M:=(B.IM w o u f).2;have K:I9 h.yr o=uJ:=by
    have:=lX E;subst N;show(decide ((0:Int)=0)&&Hr h.yr (-1) ((0,st)::U))=uJ;rw[this]
    rfl
   cases u with
   |none=>
    rw[f]at j;cases j;refine⟨rfl,?_⟩;unfold Fd;show(I9 h.yr r&&_)=uJ;rw[K,Bool.true_and,qX];intro s x;have Y:OB s.2=[]:=by unfold OB;rw[jL,List.filter_eq_nil_iff];intro t ht;rw[B.nop b r f s x t ht];simp
    rw[Zt (M s x)];simp[Hf,Y]
   | some z=>
    obtain⟨t,d,m⟩:=z;rw[f]at j;cases j;obtain⟨T,p2,p3⟩:=B.JM b r t d m f;obtain⟨v1,v2,v3⟩:=v.pq b r t d m f;refine⟨?_,?_⟩
    .unfold Eo;simp only;rw[decide_eq_true (H t v1 T),decide_eq_true (by lia),decide_eq_true (by lia)]
     rfl
    .unfold Fd;show(I9 h.yr r&&_)=uJ;rw[K,Bool.true_and,qX];intro s x;rw[Zt (M s x)];simp[Hf,v3 s x]
  |_=>rw[f]at j;cases j
 .obtain⟨hk,rfl⟩:=Xe hp;obtain⟨l,e,l1,l8,_⟩:=O k hk;exact⟨l,e,l1,l8⟩
 obtain⟨hk,rfl⟩:=Xe hp;have j:(h.pl k).kd.raw h=.IA b r q:=e;have A:∀w o u,(h.pl k).kd=.IA w o u->lN o<=100/\∀s∈o,lN s.2<=100:=λw o u f=>by obtain⟨E,N,P⟩:=(pw k hk).2.asc w o u f;have:=lY E;have I:=(pw k hk).2.ub;rw[f]at I;exact⟨by lia,λs x=>by have:=(I.2.1.2 s x).1;lia⟩
 cases f:(h.pl k).kd with
 |IA w o u=>
  have c:=A w o u f;rw[f]at j;cases u with
  |none=>cases j;exact c
  |some z=>obtain⟨t,d,m⟩:=z;cases j;exact c
 |_=>rw[f]at j;cases j
def EZ:IG 20 (.tup (st.map JB.enc))=uJ:=Py λd a=>by
 obtain⟨s,_,rfl⟩:=z7.mp a
 rfl
def E2:IG 25 (.tup (r.map Aj))=uJ:=Py λd a=>by
 obtain⟨s,_,rfl⟩:=z7.mp a;refine Py λd a=>?_
 simp[zZ,z5,or_false]at a;rcases a with rfl|rfl
 .rfl
 exact bC EZ (by decide)
theorem E3{h:Hs}{p:Pl}:IG 28 (h.VF p)=uJ:=by
 unfold Hs.VF;cases p.kd with
 |IA b r q=>
  refine Py λd e=>?_
  simp[zZ,z5,or_false]at e;rcases e with rfl|rfl|rfl|rfl|rfl|rfl|rfl
  .rfl
  .rfl
  .rfl
  .rfl
  .rfl
  .exact bC E2 (by decide)
  cases q with
  |none=>rfl
  |some z=>obtain⟨a,b,c⟩:=z;rfl
 |_=>rfl
def E4{h:Hs}:IG 30 h.enc=uJ:=Py λd a=>by
 simp[zZ,z5,or_false]at a;rcases a with rfl|rfl
 .rfl
 refine Py λd a=>?_
 obtain⟨p,_,rfl⟩:=z7.mp a;exact E3
def cV{z:Str}(h:Wd z):RC (wl z)/\lN (wl z)<=8:=by obtain⟨l,rfl,a,b,d⟩:=h;rw[U4];exact⟨⟨λe=>by rw[e]at a;simp at a,λc f=>by have:=d c f;lia⟩,b⟩
theorem lZ:∀{r:List ND}{a:Int},-1<=a->PU yr a r->∀s∈r,0<=s.1/\s.1<yr
 |[],_,_,_,s,b=>nomatch b
 |u::r,a,c,h,s,b=>by
  have d:=h.1;rcases zZ.mp b with rfl|b
  .exact⟨by lia,h.2.1⟩
  exact lZ (by lia) h.2.2 s b
def cW:RC (wl "sea")/\lN (wl "sea")<=8:=by
 have e:wl "sea"=[115,101,97]:=by decide +kernel
 rw[e];exact⟨⟨by simp,by simp⟩,by simp⟩
structure R3 (p:RP):Prop where
 b:OJ p
 r3:∀b r q,p.kd=.IA b r q->lN r<=3/\∀s∈r,lN s.2<=3
theorem E5{h:Hs}{k:Kd}(e:k.raw h=.IA b r q):∃a,k=.IA b r a/\∀t d m,q=uQ (t,d,m)->∃c f,a=uQ (c,f,m)/\t=(h.pl c).nm/\d=(f:Int):=by
 cases k with
 |IA n g a=>
  cases a with
  |none=>cases e;exact⟨uZ,rfl,λ_ _ _ z=>nomatch z⟩
  |some z=>obtain⟨t,d,m⟩:=z;cases e;exact⟨_,rfl,λj l i z=>by cases z;exact⟨t,d,rfl,rfl,rfl⟩⟩
 |_=>cases e
def E6{h:Hs}(g:WN h)(hy:h.yr<=24)(pw:∀k,k<h.n->OU h.n k (h.pl k)/\QU h.yr k (h.pl k))(H:∀k,k<h.n->Wd (h.pl k).nm)(hp:h.raw.ps[k]?=uQ p):R3 p:=by
 obtain⟨hk,rfl⟩:=Xe hp;obtain⟨u,i⟩:=pw k hk;have J:=cV (H k hk);have K:RC (wl (h.VO (h.pl k).dn))/\lN (wl (h.VO (h.pl k).dn))<=8:=by
  cases e:(h.pl k).dn with
  |none=>exact cW
  |some d=>exact cV (H d (u.dn d e).2)
 have E:KB (((h.pl k).dl:Nat):Int):=⟨by lia,by have:=u.dl;lia⟩;have w:∀b r q,(h.pl k).kd=.IA b r q->(KB b/\QM r)/\XI r/\(lN r<=3/\∀s∈r,lN s.2<=3)/\∀t d m,q=uQ (t,d,m)->(RC (wl (h.pl t).nm)/\lN (wl (h.pl t).nm)<=8)/\KB (d:Int)/\KB m:=λb r q e=>by
  obtain⟨O,⟨st,r',N⟩,Z⟩:=i.asc b r q e;have j:=i.ub;rw[e]at j;obtain⟨A,⟨y,l⟩,B⟩:=j;have I:∀s∈r,(0<=s.1/\s.1<10^40):=λs c=>by have:=(lZ (by lia) O) s c;lia
  have tk:∀s∈r,∀t∈s.2,OD t:=λs c t F=>by have:=(l s c).2 t F;have:=this.2.2;exact⟨(((l s c).2 t F)).1,(((l s c).2 t F)).2.1,by lia⟩
  refine⟨⟨⟨(u.IM b r q e).1,A⟩,by rw[N];simp,λs c=>⟨I s c,tk s c⟩⟩,⟨by rw[N];simp,by lia,λs c=>⟨I s c,by have:=(l s c).1;lia,tk s c⟩⟩,⟨y,λs c=>(l s c).1⟩,λt d m P=>?_⟩;subst P;obtain⟨Q,p2,p3⟩:=u.JM b r t d m e;exact⟨cV (H t Q),⟨by lia,by lia⟩,(i.pq b r t d m e).2.1,B t d m rfl⟩
 have o:=λ{b r q}(e:(h.pl k).kd.raw h=.IA b r q)=>E5 e
 have C:XY ((h.pl k).kd.raw h):=by
  cases e:(h.pl k).kd with
  |VA a b=>
   have j:=i.ub;rw[e]at j;exact⟨⟨(u.VA a b e).1,j.1⟩,(u.VA a b e).2,j.2⟩
  |RA a=>
   have j:=i.ub;rw[e]at j;exact⟨i.RA a e,j⟩
  | IA b r q=>
   obtain⟨⟨L,M⟩,h3,h4,S⟩:=w b r q e;cases q with
   |none=>exact⟨L,M,trivial⟩
   |some z=>
    obtain⟨t,d,m⟩:=z;obtain⟨U,T,X⟩:=S t d m rfl;exact⟨L,M,U.1,T,X⟩
 refine⟨⟨⟨J.1,K.1,E,C⟩,by have:=J.2;show lN (wl (h.pl k).nm)<=100;lia,by have:=K.2;show lN (wl (h.VO (h.pl k).dn))<=100;lia,λb r q e=>?_,λb r t d m e=>?_⟩,λb r q e=>?_⟩
 .obtain⟨x,v,_⟩:=o e;exact(w b r x v).2.1
 .obtain⟨x,v,f⟩:=o e;obtain⟨W,Y,rfl,rfl,rfl⟩:=f t d m rfl;have:=((w b r _ v).2.2.2 W Y m rfl).1.2;lia
 obtain⟨x,v,_⟩:=o e;exact(w b r x v).2.2.1
def Nw{A B:List Str}(e:p.kd=.IA b r q)(a:Fi A p=uJ)(c:Hg B p=uJ)(d:Fv p.kd=uJ)(f:Eo (A++B) q=uX):UK yr A B p=4:=by unfold UK;rw[a,c,d,e];simp[f]
def Pw{A B:List Str}(e:p.kd=.IA b r q)(c:Fi A p=uJ)(a:Hg B p=uJ)(f:Fv p.kd=uJ)(g:Eo (A++B) q=uJ)(d:Fd yr r q=uX):UK yr A B p=5:=by unfold UK;rw[c,a,f,e];simp[g,d]
noncomputable abbrev SG:JB:=⟨0,0,uJ⟩
def E7{a:List ND}{c:Int}(e:p.kd=.IA b ((c,st)::a) q)(r:lN a<=100)(s:lN st<=100)(G:DH):
  ∃g:List ND,(g=(1,st)::a\/g=(c,st)::a++[(yr,st)]\/g=(c,st++[SG])::a)/\Oz [p.enc,.int yr,.int x] G=.ok (.tup (g.map Aj)) G:=by
 have i:∀G,Ax p.enc (.int 5) G=.ok (.tup (((c,st)::a).map Aj)) G:=λG=>by simp[RP.enc,RP.row,e,RK.rest]
 have j:LB (((c,st)::a).map Aj) 0=zT [.int c,.tup (st.map JB.enc)]:=Df rfl rfl;have c1:cutD (((c,st)::a).map Aj) (uQ 1) uZ=a.map Aj:=Jv (by simp);have m:freeze G (.ok (.tup (a.map Aj)) G)=.ok (.tup (a.map Aj)) G:=Ml Jt;rcases(by lia:x%3=0\/x%3=1\/x%3=2)with h|h|h
 .refine⟨_,.inl rfl,?_⟩;have d:Ea (.tup [.tup [.int 1,.tup (st.map JB.enc)]]) (.tup (a.map Aj)) G=.ok (.tup (((1,st)::a).map Aj)) G:=by rw[Ph (by simp;lia)];rfl
  have f:tidy G (.ok (.tup (((1,st)::a).map Aj)) G)=.ok (.tup (((1,st)::a).map Aj)) G:=Ah (K4▸Jt);generalize((1,st)::a).map Aj=k,((c,st)::a).map Aj=l,a.map Aj=R2,st.map JB.enc=Z at*;unfold Oz Va;rw[Af];simp[i,j,h,Aq,Br,c1,m,d,f]
 .refine⟨_,.inr (.inl rfl),?_⟩;have d:Ea (.tup (((c,st)::a).map Aj)) (.tup [.tup [.int yr,.tup (st.map JB.enc)]]) G=.ok (.tup (((c,st)::a++[(yr,st)]).map Aj)) G:=by rw[Ph (by simp;lia),jx];rfl
  have f:tidy G (.ok (.tup (((c,st)::a++[(yr,st)]).map Aj)) G)=.ok (.tup (((c,st)::a++[(yr,st)]).map Aj)) G:=Ah (K4▸Jt);generalize((c,st)::a++[(yr,st)]).map Aj=k,((c,st)::a).map Aj=l,a.map Aj=R2,st.map JB.enc=Z at*;unfold Oz Va;rw[Af];simp[i,j,h,Aq,d,f]
 refine⟨_,.inr (.inr rfl),?_⟩;have n:Ea (.tup (st.map JB.enc)) (.tup [.tup [.int 0,.int 0,.str "river"]]) G=.ok (.tup ((st++[SG]).map JB.enc)) G:=by rw[Ph (by simp;lia),jx];rfl
 have d:Ea (.tup [.tup [.int c,.tup ((st++[SG]).map JB.enc)]]) (.tup (a.map Aj)) G=.ok (.tup (((c,st++[SG])::a).map Aj)) G:=by rw[Ph (by simp;lia)];rfl
 have f:tidy G (.ok (.tup (((c,st++[SG])::a).map Aj)) G)=.ok (.tup (((c,st++[SG])::a).map Aj)) G:=Ah (K4▸Jt);generalize((c,st++[SG])::a).map Aj=k,((c,st)::a).map Aj=l,a.map Aj=R2,(st++[SG]).map JB.enc=o,st.map JB.enc=Z at*;unfold Oz Va;rw[Af];simp[i,j,h,Aq,Br,c1,m,n,d,f]
noncomputable def JR:Nat->Int
 |1=>1
 |2=>2
 |4=>5
 |_=>6
def XT(h:RH)(rank at_:Int):Prop:=(rank=0/\∀G,Gg [h.enc] G=.err ⟨"NoHouse",[]⟩ G)\/∃k r:Nat,at_=k/\(r=1\/r=2\/r=4\/r=5)/\rank=JR r/\k<100/\∀G,∃L,Gg [h.enc] G=.err ⟨JD r,[("place",.int k)]⟩ (G++L)
def XT.bad{r:Nat}(a:r=1\/r=2\/r=4\/r=5)(hk:k<100)(b:QX h k r):XT h (JR r) k:=.inr ⟨k,r,rfl,a,rfl,hk,λG=>ES b (by lia) G⟩
def R3.set(h:∀p∈ps,OJ p)(hp:OJ p'):∀p∈ps.set k p',OJ p:=λp a=>by
 rcases jK a with z|z
 .exact h p z
 rw[z];exact hp
def Kx{z:Str}{c:Bool}(h:OJ p)(hz:RC (wl z))(f:lN (wl z)<=100):OJ (rn old z c p):=by
 have hk:=h.w.kd;have l:=h.lp;have j:RC (wl (rn old z c p).nm)/\lN (wl (rn old z c p).nm)<=100:=by
  show RC (wl (if c=uJ then z else p.nm))/\lN (wl (if c=uJ then z else p.nm))<=100;split
  .exact⟨hz,f⟩
  exact⟨h.w.nm,h.ln⟩
 have i:RC (wl (rn old z c p).dn)/\lN (wl (rn old z c p).dn)<=100:=by
  show RC (wl (if p.dn=old then z else p.dn))/\lN (wl (if p.dn=old then z else p.dn))<=100;split
  .exact⟨hz,f⟩
  exact⟨h.w.dn,h.ld⟩
 have a:XY (rn old z c p).kd/\(∀b r q,(rn old z c p).kd=.IA b r q->XI r)/\∀b r t d m,(rn old z c p).kd=.IA b r (uQ (t,d,m))->lN (wl t)<=100:=by
  show XY (PJ old z p.kd)/\(∀b r q,PJ old z p.kd=.IA b r q->XI r)/\∀b r t d m,PJ old z p.kd=.IA b r (uQ (t,d,m))->lN (wl t)<=100;cases e:p.kd with
  | IA b r q=>
   rw[e]at hk;have g:=h.ru b r q e;cases q with
   |none=>exact⟨hk,(λ_ _ _ z=>by cases z;exact g),(λ_ _ _ _ _ z=>nomatch z)⟩
   | some w=>
    obtain⟨t,d,m⟩:=w;have k:RC (wl (if t=old then z else t))/\lN (wl (if t=old then z else t))<=100:=by
     split
     .exact⟨hz,f⟩
     exact⟨hk.2.2.1,l b r t d m e⟩
    exact⟨⟨hk.1,hk.2.1,k.1,hk.2.2.2⟩,(λ_ _ _ z=>by cases z;exact g),(λ_ _ _ _ _ z=>by cases z;exact k.2)⟩
  |_=>rw[e]at hk;exact⟨hk,(λ_ _ _ z=>nomatch z),(λ_ _ _ _ _ z=>nomatch z)⟩
 exact⟨⟨j.1,i.1,h.w.dl,a.1⟩,j.2,i.2,a.2.1,a.2.2⟩
theorem E8(g:GR h)(hb:∀(k:Nat)(p:RP),h.ps[k]?=uQ p->R3 p)(hx:xs.length=3)(G:DH):∃(h':RH)(rank at_:Int),YJ h'/\0<=rank/\XT h' rank at_/\freeze G (Mh [h.enc,.fl (xs.map D.int)] G)=.ok (.tup [.int h'.yr,.tup (h'.ps.map RP.enc),.int rank,.int at_]) G:=by
 have n1:=g.n.1;have n2:=g.n.2;have y1:=g.yr.1;have y2:=g.yr.2;have po:∀p∈h.ps,OJ p:=λp hm=>by obtain⟨i,hi,rfl⟩:=qw hm;exact(hb i _ (zX hi)).b
 have yk:KB h.yr:=⟨by lia,by lia⟩;have a0:LB (xs.map D.int) 0=zI (gx xs 0):=Ce (i:=0) (by lia);have a1:LB (xs.map D.int) 1=zI (gx xs 1):=Ce (i:=1) (by lia);have a2:LB (xs.map D.int) 2=zI (gx xs 2):=Ce (i:=2) (by lia);obtain⟨k,hk,ek⟩:∃k:Nat,k<h.ps.length/\(k:Int)=gx xs 0%(h.ps.length:Int):=by have a:=q7 (gx xs 0) (show(h.ps.length:Int)≠0 by lia);have b:=q0 (gx xs 0) (show(0:Int)<h.ps.length by lia);exact⟨(gx xs 0%(h.ps.length:Int)).toNat,by lia,by lia⟩
 obtain⟨p,hp⟩:∃p,h.ps[k]?=uQ p:=⟨h.ps[k],zX hk⟩;obtain⟨w,hw,ew⟩:∃w:Nat,w<10/\(w:Int)=gx xs 1%10:=⟨(gx xs 1%10).toNat,by lia,by lia⟩;obtain⟨x,ex⟩:∃x,x=gx xs 2:=⟨_,rfl⟩;rw[<-ex]at a2;have ap:=Z6 hp;obtain⟨o,R3'⟩:=hb k p hp;obtain⟨o1,o2,o3,o4⟩:=Tj (g.rk k p hp);have sh:=g.sh hp;have nB:p.nm∉h.B k:=λz=>(g.EL z).2 p hp rfl
 have eH:h.enc=.tup [.int h.yr,.tup (h.ps.map RP.enc)]:=rfl;have N:∀M:RP,Cv [.tup (h.ps.map RP.enc),.int k,M.enc] G=.ok (.tup ((h.ps.set k M).map RP.enc)) G:=λM=>by rw[qS];exact Z3 (by simpa using hk) (by simp;lia) Pz Oe
 have W:∀M:RP,freeze G (.ok M.enc G)=.ok M.enc G:=λM=>Ej Oe
 have NL:∀l:List RP,freeze G (.ok (.tup (l.map RP.enc)) G)=.ok (.tup (l.map RP.enc)) G:=λl=>Ml Pz
 have ln:(((h.ps.map RP.enc).length:Nat):Int)=(h.ps.length:Int):=by rw[zV]
 have nz':¬h.ps.map RP.enc=[]:=λz=>by have:=congrArg zU z;simp at this;rw[this]at hk;simp at hk
 have nz2:¬h.ps=[]:=λz=>by rw[z]at hk;simp at hk
 have lz':0<h.ps.length:=by lia
 have O:∀M:RP,OJ M->YJ ⟨h.yr,h.ps.set k M⟩:=λM q=>⟨yk,by rw[qF];lia,R3.set po q⟩
 have f:∀(h':RH)(rank at_:Int),M9 [uQ h.enc,zF (xs.map D.int),zI h.yr,zT (h.ps.map RP.enc),zI k,uQ p.enc,zI w,uZ] G=.rt (.tup [.int h'.yr,.tup (h'.ps.map RP.enc),.int rank,.int at_]) G->freeze G (Mh [h.enc,.fl (xs.map D.int)] G)=.ok (.tup [.int h'.yr,.tup (h'.ps.map RP.enc),.int rank,.int at_]) G:=λh' rank at_ e=>by
  have be:lC G.length (.tup [.int h'.yr,.tup (h'.ps.map RP.enc),.int rank,.int at_])=uJ:=by simp
  have:Mh [h.enc,.fl (xs.map D.int)] G=.ok (.tup [.int h'.yr,.tup (h'.ps.map RP.enc),.int rank,.int at_]) G:=by generalize D.tup [.int h'.yr,.tup (h'.ps.map RP.enc),.int rank,.int at_]=E at*;rw[eH]at e⊢;generalize h.ps.map RP.enc=PS at*;unfold Mh;rw[Af];unfold gj gh gf gc;simp[a0,a1,ln,by omega,nz',nz2,by omega,lz',<-ek,ap,<-ew,e,Ah be]
  rw[this,Ej be]
 clear ek ew;generalize hXS:xs.map D.int=XS at*;by_cases w2:w<2
 .obtain⟨y,hy,ey⟩:∃y:Int,(y=0\/y=25)/\LB ([.int 0,.int 25]:List D) (w:Int)=zI y:=by
   rcases(by lia:w=0\/w=1)with rfl|rfl
   .exact⟨0,.inl rfl,rfl⟩
   exact⟨25,.inr rfl,rfl⟩
  refine⟨⟨y,h.ps⟩,0,0,⟨⟨by show(0:Int)<=y;lia,by show y<10^40;lia⟩,by lia,po⟩,by lia,.inl ⟨rfl,λG=>lU (.inl (by show y<1\/24<y;lia)) G⟩,f _ _ _ ?_⟩;have fl:freeze G (.ok (.ref G.length) (G++[.lst [.int 0,.int 25]]))=.ok (.fl [.int 0,.int 25]) G:=Az rfl;have Tx:(w:Int)<2:=by lia
  generalize h.ps.map RP.enc=PS,h.enc=H at*;unfold M9;simp[w2,Tx,Ai,fl,ey,Aq]
 have Tx:¬(w:Int)<2:=by lia
 by_cases w3:w=2
 .subst w3
  refine⟨⟨h.yr,[]⟩,0,0,⟨yk,by simp,λp z=>nomatch z⟩,by lia,.inl ⟨rfl,λG=>lU (.inr (.inl rfl)) G⟩,f _ _ _ ?_⟩
  generalize h.ps.map RP.enc=PS,h.enc=H at*;unfold M9 T3;simp[Aq]
 have w3':¬(w:Int)=2:=by lia
 by_cases w4:w=3
 .subst w4;obtain⟨l,el,l1,l8⟩:=g.nm k p hp;have wn:=o.w.nm;rw[el,U4]at wn;have w8:("abcdefgh":Str)=Aa [97,98,99,100,101,102,103,104]:=by decide +kernel
  have ad:=add_str (l:=l) (l':=[97,98,99,100,101,102,103,104]) (by simp;lia) G;rw[<-w8,<-el]at ad;obtain⟨z,hz,zn,zw,zl⟩:∃z:Str,LB ([.str (Aa (l++[97,98,99,100,101,102,103,104])),.str "sea"]:List D) (x%2)=zS z/\XH z.cps.toList=uX/\RC (wl z)/\(wl z).length<=16:=by
   rcases(by lia:x%2=0\/x%2=1)with e|e
   .refine⟨Aa (l++[97,98,99,100,101,102,103,104]),by rw[e];rfl,by rw[EG];exact EF (.inr (by simp;lia)),?_,by rw[U4];simp;lia⟩;rw[U4];refine⟨by simp,λc hc=>?_⟩;rcases zG.mp hc with m|m
    .exact wn.2 c m
    simp[zZ,z5,or_false]at m;lia
   exact⟨"sea",by rw[e];rfl,by decide +kernel,cW.1,by have:=cW.2;lia⟩
  have zl2:z.length<=1000:=by
   have:z.length=(wl z).length:=by simp[wl,Str.length]
   lia
  have bd:=ER g hp (.inl zn) (.inl zl2);refine⟨⟨h.yr,ZF p.nm z k h.ps⟩,JR 1,k,⟨yk,by rw[Qy];lia,λq hq=>?_⟩,by decide,.bad (by lia) (by lia) bd,f _ _ _ ?_⟩
  .obtain⟨i,hi,rfl⟩:=qw hq;have RY:i<h.ps.length:=by rw[<-Qy];exact hi
   have e:=Xd (old:=p.nm) (z:=z) (k:=k) (zX RY);have e2:(ZF p.nm z k h.ps)[i]=rn p.nm z (decide (i=k)) h.ps[i]:=by rw[zX hi]at e;exact xv e
   rw[e2];exact Kx (po _ (qV RY)) zw (by lia)
  have cr:=EH hp (by lia) (z:=z) G;have fl:∀z1:Str,freeze G (.ok (.ref G.length) (G++[.lst [.str z1,.str "sea"]]))=.ok (.fl [.str z1,.str "sea"]) G:=λ_=>Az rfl
  show _=SR.rt (.tup [.int h.yr,.tup ((ZF p.nm z k h.ps).map RP.enc),.int 1,.int k]) G;generalize(ZF p.nm z k h.ps).map RP.enc=RR,h.ps.map RP.enc=PS,h.enc=H,Aa (l++[97,98,99,100,101,102,103,104])=Z at*;unfold M9 T3 V9;simp[-Dt,ad,Ai,fl,a2,hz,cr,Aq]
 have w4':¬(w:Int)=3:=by lia
 by_cases w5:w=4
 .subst w5;have bd:=Wh g hp (p':={p with dn:=p.nm}) rfl ⟨sh.nm,sh.ru⟩ (r:=2) (RX o1 (by
   show((decide (p.nm="sea")||decide (p.nm∈h.B k))&&_)=uX;rw[decide_eq_false (EM (T4 o1).1),decide_eq_false nB]
   rfl))
  refine⟨⟨h.yr,h.ps.set k {p with dn:=p.nm}⟩,JR 2,k,O _ ⟨⟨o.w.nm,o.w.nm,o.w.dl,o.w.kd⟩,o.ln,o.ln,o.ru,o.lp⟩,by decide,.bad (by lia) (by lia) bd,f _ _ _ ?_⟩;have cp:Cv [p.enc,.int 2,.str p.nm] G=.ok (RP.enc {p with dn:=p.nm}) G:=Mm (p:=p) (j:=2) (d:=.str p.nm) (by have:=Rc (p:=p);lia) (λ_=>rfl) rfl G;have pH:=N {p with dn:=p.nm};have fP:=W {p with dn:=p.nm};have fL:=NL (h.ps.set k {p with dn:=p.nm})
  show _=SR.rt (.tup [.int h.yr,.tup ((h.ps.set k {p with dn:=p.nm}).map RP.enc),.int 2,.int k]) G;generalize(h.ps.set k {p with dn:=p.nm}).map RP.enc=RR,RP.enc {p with dn:=p.nm}=P',h.ps.map RP.enc=PS,h.enc=H at*;unfold M9 T3 V9 bP;simp[cp,fP,pH,fL,Aq]
 have w5':¬(w:Int)=4:=by lia
 have b8:M9 [uQ h.enc,zF XS,zI h.yr,zT (h.ps.map RP.enc),zI k,uQ p.enc,zI w,uZ] G=Jh [uQ h.enc,zF XS,zI h.yr,zT (h.ps.map RP.enc),zI k,uQ p.enc,zI w,uZ] G:=by generalize h.ps.map RP.enc=PS,h.enc=H at*;unfold M9 T3 V9 bP;simp[w2,Tx,w3,w3',w4,w4',w5,w5']
 rw[b8]at f;have last:∀S,(∀h':RH,h'=⟨h.yr,h.ps.set k {p with dl:=6}⟩->S=SR.rt (.tup [.int h'.yr,.tup (h'.ps.map RP.enc),.int 2,.int k]) G)->Jh [uQ h.enc,zF XS,zI h.yr,zT (h.ps.map RP.enc),zI k,uQ p.enc,zI w,uZ] G=S->∃(h':RH)(rank at_:Int),YJ h'/\0<=rank/\XT h' rank at_/\freeze G (Mh [h.enc,.fl XS] G)=.ok (.tup [.int h'.yr,.tup (h'.ps.map RP.enc),.int rank,.int at_]) G:=λS hS e=>by
  have bd:=Wh g hp (p':={p with dl:=6}) rfl ⟨sh.nm,sh.ru⟩ (r:=2) (RX o1 (by show(_&&(decide ((0:Int)<=6)&&decide ((6:Int)<=5)))=uX;simp))
  refine⟨⟨h.yr,h.ps.set k {p with dl:=6}⟩,JR 2,k,O _ ⟨⟨o.w.nm,o.w.dn,⟨by show(0:Int)<=6;lia,by show(6:Int)<10^40;lia⟩,o.w.kd⟩,o.ln,o.ld,o.ru,o.lp⟩,by decide,.bad (by lia) (by lia) bd,f _ _ _ ?_⟩;rw[e];exact hS _ rfl
 have cp6:Cv [p.enc,.int 3,.int 6] G=.ok (RP.enc {p with dl:=6}) G:=Mm (p:=p) (j:=3) (d:=.int 6) (by have:=Rc (p:=p);lia) (λ_=>rfl) rfl G;have pH6:=N {p with dl:=6};have fP6:=W {p with dl:=6};have fL6:=NL (h.ps.set k {p with dl:=6});have nt:¬(("town":Str)="basin"):=by decide
 have nm:¬(("mill":Str)="basin"):=by decide
 have Iy:bO [uQ h.enc,zF XS,zI h.yr,zT (h.ps.map RP.enc),zI k,uQ p.enc,zI w,uZ] G=SR.rt (.tup [.int h.yr,.tup ((h.ps.set k {p with dl:=6}).map RP.enc),.int 2,.int k]) G:=by generalize(h.ps.set k {p with dl:=6}).map RP.enc=RR,RP.enc {p with dl:=6}=P',h.ps.map RP.enc=PS,h.enc=H at*;unfold bO;simp[cp6,fP6,pH6,fL6,Aq]
 cases e:p.kd with
 |VA a b=>
  refine last _ (λh' z=>by rw[z]) ?_;rw[<-Iy];generalize h.ps.map RP.enc=PS,h.enc=H at*;unfold Jh Q7
  by_cases Y:(6:Int)<w<;>by_cases w6:(5:Int)<w<;>simp[e,RK.XA,nt,Y,w6]
 |RA a=>
  refine last _ (λh' z=>by rw[z]) ?_;rw[<-Iy];generalize h.ps.map RP.enc=PS,h.enc=H at*;unfold Jh Q7
  by_cases Y:(6:Int)<w<;>by_cases w6:(5:Int)<w<;>simp[e,RK.XA,nm,Y,w6]
 | IA b r q=>
  have e6:∀G,Ax p.enc (.int 6) G=.ok (QD q) G:=λG=>by simp[RP.enc,RP.row,e,RK.rest]
  obtain⟨oP,oR⟩:=o4 b r q e;have K:=o.w.kd;rw[e]at K;have T:=o.ru b r q e;obtain⟨r31,r32⟩:=R3' b r q e;by_cases w6:(5:Int)<w
  .
   have rule:Jh [uQ h.enc,zF XS,zI h.yr,zT (h.ps.map RP.enc),zI k,uQ p.enc,zI w,uZ] G=Q7 [uQ h.enc,zF XS,zI h.yr,zT (h.ps.map RP.enc),zI k,uQ p.enc,zI w,uZ] G->∃(h':RH)(rank at_:Int),YJ h'/\0<=rank/\XT h' rank at_/\freeze G (Mh [h.enc,.fl XS] G)=.ok (.tup [.int h'.yr,.tup (h'.ps.map RP.enc),.int rank,.int at_]) G:=λe9=>by
    obtain⟨⟨bg,U⟩,L,er⟩:∃s L,r=s::L:=by
     cases r with
     |nil=>exact absurd rfl T.ne
     |cons s L=>exact⟨s,L,rfl⟩
    subst er;have lr:L.length+1<=3:=by simpa using r31
    have ls:U.length<=3:=r32 (bg,U) (by simp);obtain⟨J,hr2,cb⟩:=E7 (yr:=h.yr) (x:=x) e (by lia) (by lia) G;have X:=T.ok (bg,U) (by simp);have SX:∀s∈L,WK s:=λs I=>T.ok s (zQ _ I)
    have key:XI J/\Fd h.yr J q=uX:=by
     rcases hr2 with rfl|rfl|rfl
     .refine⟨⟨by simp,by simp;lia,λs I=>?_⟩,lM ?_⟩
      .rcases zZ.mp I with rfl|I
       .exact⟨⟨by lia,by lia⟩,X.2⟩
       exact SX s I
      show(decide ((1:Int)=0)&&Hr h.yr (-1) ((1,U)::L))=uX;simp
     .refine⟨⟨by simp,by simp;lia,λs I=>?_⟩,lM ?_⟩
      .rcases zG.mp I with I|I
       .exact T.ok s I
       rw[qJ]at I;subst I;exact⟨⟨by lia,by lia⟩,X.2⟩
      cases z:I9 h.yr ((bg,U)::L++[(h.yr,U)])with
      |false=>rfl
      |true=>
       have:=lJ _ _ (EI z) (h.yr,U) (by simp);simp at this
     refine⟨⟨by simp,by simp;lia,λs I=>?_⟩,EJ (s:=(bg,U++[SG])) (by simp) ?_⟩
     .rcases zZ.mp I with rfl|I
      .refine⟨X.1,by simp;lia,λt Q=>?_⟩;rcases zG.mp Q with Q|Q
       .exact X.2.2 t Q
       .rw[qJ]at Q;subst Q;exact⟨⟨by simp,by simp⟩,by simp,by simp⟩
      exact SX s I
     .cases z:Dw 0 (U++[SG])with
      |false=>rfl
      |true=>
       have:=lL _ _ z SG (by simp);simp at this
    obtain⟨k1,k2⟩:=key;have sh2:Sh {p with kd:=.IA b J q}:=⟨sh.nm,λb' L q' z s I=>by cases z;have:=(k1.ok s I).2.1;lia⟩
    have bd:=Wh g hp (p':={p with kd:=.IA b J q}) rfl sh2 (r:=5) (Pw rfl o1 o2 (by
     have:Bm (RK.IA b J q)=Bm p.kd:=by
      rw[e];cases q with
      |_=>rfl
     unfold Fv;rw[this];exact o3) oP k2)
    refine⟨⟨h.yr,h.ps.set k {p with kd:=.IA b J q}⟩,JR 5,k,O _ ⟨⟨o.w.nm,o.w.dn,o.w.dl,⟨K.1,⟨k1.ne,λs I=>⟨(k1.ok s I).1,(k1.ok s I).2.2⟩⟩,K.2.2⟩⟩,o.ln,o.ld,(λb' L q' z=>by cases z;exact k1),λb' L t d m z=>by cases z;exact o.lp b ((bg,U)::L) t d m e⟩,by decide,.bad (by lia) (by lia) bd,f _ _ _ ?_⟩;rw[e9];have cp:Cv [p.enc,.int 5,.tup (J.map Aj)] G=.ok (RP.enc {p with kd:=.IA b J q}) G:=Mm (p:=p) (j:=5) (by unfold RP.row RK.rest;rw[e];simp) (λ_=>K4▸Jt) (by unfold RP.row RK.rest;rw[e];rfl) G
    have pH:=N {p with kd:=.IA b J q};have fP:=W {p with kd:=.IA b J q};have fL:=NL (h.ps.set k {p with kd:=.IA b J q});have fR:freeze G (.ok (.tup (J.map Aj)) G)=.ok (.tup (J.map Aj)) G:=Ml Jt;show _=SR.rt (.tup [.int h.yr,.tup ((h.ps.set k {p with kd:=.IA b J q}).map RP.enc),.int 6,.int k]) G;generalize(h.ps.set k {p with kd:=.IA b J q}).map RP.enc=RR,RP.enc {p with kd:=.IA b J q}=P',h.ps.map RP.enc=PS,h.enc=H,J.map Aj=R2 at*
    unfold Q7;simp[w6,e,RK.XA,a2,cb,fR,cp,fP,pH,fL,Aq]
   by_cases Y:(6:Int)<w
   .cases q with
    |none=>
     refine rule ?_;generalize h.ps.map RP.enc=PS,h.enc=H at*;unfold Jh;simp[Y,e,RK.XA,e6,QD,Dm]
    | some z=>
     obtain⟨t,d,m⟩:=z;obtain⟨C,F,j,hj,ej,hv,Q,hd,ho⟩:∃(C:Str)(F:Int)(j:Nat),j<2/\(j:Int)=(w:Int)%2/\(∃v,LB ([.int 6,.int 0]:List D) (x%2)=zI v/\LB ([.int v,.str p.nm]:List D) (if(w:Int)=8 then 1 else 0)=uQ (if j=0 then .str C else .int F)/\([.str t,.int d,.int m]:List D).set j (if j=0 then .str C else .int F)=[.str C,.int F,.int m])/\(RC (wl C)/\(wl C).length<=100)/\KB F/\Eo (h.A k++h.B k) (uQ (C,F,m))=uX:=by
      have Q:RC (wl t)/\(wl t).length<=100:=⟨K.2.2.1,o.lp b r t d m e⟩;have hv:∃v:Int,(v=6\/v=0)/\LB ([.int 6,.int 0]:List D) (x%2)=zI v:=by
       rcases(by lia:x%2=0\/x%2=1)with z|z
       .exact⟨6,.inl rfl,by rw[z];rfl⟩
       exact⟨0,.inr rfl,by rw[z];rfl⟩
      obtain⟨v,v1,v2⟩:=hv;have vk:KB v:=⟨by lia,by lia⟩;have vo:Eo (h.A k++h.B k) (uQ (t,v,m))=uX:=by
       show(_&&(decide (1<=v)&&decide (v<=5)))=uX
       rcases v1 with rfl|rfl<;>simp
      rcases(by lia:w=7\/w=8\/w=9)with rfl|rfl|rfl
      .exact⟨t,v,1,by lia,by lia,⟨v,v2,rfl,rfl⟩,Q,vk,vo⟩
      .refine⟨p.nm,d,0,by lia,by lia,⟨v,v2,rfl,rfl⟩,⟨o.w.nm,o.ln⟩,K.2.2.2.1,?_⟩;have:p.nm∉h.A k++h.B k:=λz=>(zG.mp z).elim ((T4 o1).2) nB
       show(decide (p.nm∈h.A k++h.B k)&&_)=uX;rw[decide_eq_false this]
       rfl
      exact⟨t,v,1,by lia,by lia,⟨v,v2,rfl,rfl⟩,Q,vk,vo⟩
     obtain⟨v,v2,v3,v4⟩:=hv;have bd:=Wh g hp (p':={p with kd:=.IA b r (uQ (C,F,m))}) rfl ⟨sh.nm,λb' L q' z=>by cases z;exact sh.ru b r _ e⟩ (r:=4) (Nw rfl o1 o2 (by
      have:Bm (RK.IA b r (uQ (C,F,m)))=Bm p.kd:=by rw[e];rfl
      unfold Fv;rw[this];exact o3) ho)
     refine⟨⟨h.yr,h.ps.set k {p with kd:=.IA b r (uQ (C,F,m))}⟩,JR 4,k,O _ ⟨⟨o.w.nm,o.w.dn,o.w.dl,⟨K.1,K.2.1,Q.1,hd,K.2.2.2.2⟩⟩,o.ln,o.ld,(λb' L q' z=>by cases z;exact T),λb' L t d m z=>by cases z;exact Q.2⟩,by decide,.bad (by lia) (by lia) bd,f _ _ _ ?_⟩;have cq:∀dd,dd=(if j=0 then D.str C else .int F)->Cv [.tup [.str t,.int d,.int m],.int j,dd] G=.ok (.tup [.str C,.int F,.int m]) G:=λdd z=>by
      rw[z,<-v4]
      exact Z3 (by simp;lia) (by simp) rfl (by split <;> rfl)
     have cp:Cv [p.enc,.int 6,.tup [.str C,.int F,.int m]] G=.ok (RP.enc {p with kd:=.IA b r (uQ (C,F,m))}) G:=Mm (p:=p) (j:=6) (by unfold RP.row RK.rest;rw[e];simp) (λ_=>rfl) (by unfold RP.row RK.rest;rw[e];rfl) G;have pH:=N {p with kd:=.IA b r (uQ (C,F,m))};have fP:=W {p with kd:=.IA b r (uQ (C,F,m))};have fL:=NL (h.ps.set k {p with kd:=.IA b r (uQ (C,F,m))});have fR:freeze G (.ok (.tup [.str C,.int F,.int m]) G)=.ok (.tup [.str C,.int F,.int m]) G:=Ml rfl
     have f6:freeze G (.ok (.ref G.length) (G++[.lst [.int 6,.int 0]]))=.ok (.fl [.int 6,.int 0]) G:=Az rfl;have f7:freeze G (.ok (.ref G.length) (G++[.lst [.int v,.str p.nm]]))=.ok (.fl [.int v,.str p.nm]) G:=Az rfl
     have fi:∀c:Bool,Hl [.bl c] G=.ok (.int (if c=uJ then 1 else 0)) G:=λc=>by cases c<;>rfl
     show _=SR.rt (.tup [.int h.yr,.tup ((h.ps.set k {p with kd:=.IA b r (uQ (C,F,m))}).map RP.enc),.int 5,.int k]) G;generalize(h.ps.set k {p with kd:=.IA b r (uQ (C,F,m))}).map RP.enc=RR,RP.enc {p with kd:=.IA b r (uQ (C,F,m))}=P',h.ps.map RP.enc=PS,h.enc=H,(if j=0 then D.str C else .int F)=DD at*;unfold Jh;simp[Y,e,RK.XA,e6,QD,Dm,a2,<-ej,Ai,f6,v2,f7,fi,v3,cq _ rfl,fR,cp,fP,pH,fL,Aq]
   refine rule ?_;generalize h.ps.map RP.enc=PS,h.enc=H at*;unfold Jh;simp[Y]
  have Y:¬(6:Int)<w:=by lia
  refine last _ (λh' z=>by rw[z]) ?_;rw[<-Iy];generalize h.ps.map RP.enc=PS,h.enc=H at*;unfold Jh Q7;simp[Y,w6]
def E9{c:Nat}(g:c∉v):Txt.rpartition (Aa (u++c::v)) (Aa [c])=(Aa u,Aa [c],Aa v):=by
 have b:StrLaws.At (Aa (u++c::v)) (Aa [c]) (Aa (u++c::v)).length u.length:=Et.mpr ⟨by simp,by simp⟩;have d:∀k,u.length<k->¬StrLaws.At (Aa (u++c::v)) (Aa [c]) (Aa (u++c::v)).length k:=λk hk h=>by
  obtain⟨q,f⟩:=Et.mp h;have e:(u++c::v).drop k=v.drop (k-(u.length+1)):=by rw[show u++c::v=(u++[c])++v by simp,List.drop_append,List.drop_eq_nil_of_le (by simp;lia)];simp
  rw[e]at f;have:c∈(v.drop (k-(u.length+1))).take [c].length:=by rw[f];simp
  exact g (qP (qG this))
 unfold Txt.rpartition;rcases StrLaws.last_spec (Aa (u++c::v)) (Aa [c])with⟨_,h⟩|⟨i,e,h,l⟩
 .exact absurd b (h _)
 have p:i=u.length:=by
  rcases jj i u.length with z|z|z
  .exact absurd b (l _ z)
  .exact z
  exact absurd h (d i z)
 subst p;rw[e];simp only;rw[Jq,Jq,Bo,Bo];have j:((u++c::v).drop 0).take (u.length-0)=u:=by simp
 have m:((u++c::v).drop (u.length + [c].length)).take ((u++c::v).length-(u.length + [c].length))=v:=by
  have n:(u++c::v).drop (u.length + [c].length)=v:=by
   rw[<-qk,j7 (zY _),List.drop_length]
   rfl
  rw[n];exact qI (by simp;lia)
 rw[j,m]
theorem Fp{c:Nat}:∀(x:List Nat)(xs:List (List Nat)),Ab [c] (x::xs++[y])=Ab [c] (x::xs)++c::y
 |x,[]=>by show x++[c]++y=x++c::y;simp
 |x,z::xs=>by show x++[c]++Ab [c] (z::xs++[y])=x++[c]++Ab [c] (z::xs)++c::y;rw[Fp z xs];simp
def Mg{c:Nat}{x z:List Nat}{xs:List (List Nat)}:Ab [c] (x::z::xs)=x++c::Ab [c] (z::xs):=by show x++[c]++Ab [c] (z::xs)=_;simp
def Pr(l:List Nat):Prop:=∀c∈l,32<=c
def Pr.app(h:Pr l)(k:Pr m):Pr (l++m):=λc b=>(zG.mp b).elim (h c) (k c)
def Pr.cons{c:Nat}(h:32<=c)(k:Pr m):Pr (c::m):=λd b=>by
 rcases zZ.mp b with rfl|z
 .exact h
 exact k d z
def Pr.nil:Pr []:=λ_ z=>nomatch z
def Pr.left(h:Pr (l++m)):Pr l:=λc b=>h c (qB _ b)
def Pr.join(d:Pr sep)(h:∀l∈ls,Pr l):Pr (Ab sep ls):=λc b=>by
 rcases U7 ls b with z|⟨l,e,z⟩
 .exact d c z
 exact h l e c z
theorem Yt{x:List Nat}{c:Nat}:∀{ls:List (List Nat)},x∈ls->c∈x->c∈Ab sep ls
 |[y],h,b=>by rw[qJ]at h;subst h;exact b
 |y::z::ls,h,b=>by
  rcases zZ.mp h with rfl|h
  .exact qB _ (qB _ b)
  exact zk _ (Yt h b)
theorem Us:∀(x:List Nat)(ls:List (List Nat)),((x::ls).map zU).sum+lN (x::ls)=lN (Ab [32] (x::ls))+1
 |x,[]=>by show lN x+0+1=lN x+1;lia
 |x,z::ls=>by have b:=Us z ls;rw[Mg];simp[zJ,jA,z0,zC]at b⊢;lia
theorem ZH{w:List Nat}:∀(ls:List (List Nat))(j:Nat),((ls.set j w).map zU).sum<=(ls.map zU).sum+lN w
 |[],j=>by simp
 |x::ls,0=>by simp;lia
 |x::ls,j+1=>by have:=ZH (w:=w) ls j;simp only[List.set_cons_succ,zJ,jA];lia
structure Row (a:List Nat) (ls:List (List Nat)):Prop where
 hc:∀x∈a::ls,32∉x
 ne:ls≠[]
 pr:Pr (Ab [32] (a::ls))
 len:lN (Ab [32] (a::ls))<=16000
def Row.el(o:Row a ls){x:List Nat}(h:x∈a::ls):Pr x:=λc b=>o.pr c (Yt h b)
def Row.bd(o:Row a ls)(j:Nat)(w:List Nat)(hw:lN w<=5000):((((a::ls).set j w).map zU).sum+lN ((a::ls).set j w)*lN [32]<=30000):=by have b:=Us a ls;have c:=ZH (w:=w) (a::ls) j;have d:=o.len;rw[qF];simp only[jX,Nat.mul_one];lia
theorem Row.UG(o:Row a ls)(j:Nat)(w:List Nat)(hw:lN w<=5000):lN (Ab [32] ((a::ls).set j w))<=30000:=by
 have b:=o.bd j w hw;cases e:(a::ls).set j w with
 |nil=>simp[Ab]
 |cons x c=>
  have d:=Us x c;rw[e]at b;simp only[jX,Nat.mul_one]at b;lia
def Row.ZI(o:Row a ls){w:List Nat}(hw:Pr w):Pr (Ab [32] ((a::ls).set j w)):=.join (λc b=>by rw[qJ]at b;lia) λl d=>by
 rcases jK d with z|z
 .exact o.el z
 rw[z];exact hw
def Row.NQ(o:Row a ls){w:List Nat}(hw:32∉w):∀x∈(a::ls).set j w,32∉x:=λx b=>by
 rcases jK b with z|z
 .exact o.hc x z
 rw[z];exact hw
section
variable{a:List Nat}{ls:List (List Nat)}(o:Row a ls){x:Int}(G:DH)
include o
theorem nr0:Bj [.str (Aa (Ab [32] (a::ls))),.int 0,.int x] G=.ok (.str (Aa [])) G:=by
 have b:Aa []=("":Str):=by decide +kernel
 rw[b];generalize Aa (Ab [32] (a::ls))=X at*;unfold Bj Gf;rw[Af];simp[Ah]
theorem nr1:Bj [.str (Aa (Ab [32] (a::ls))),.int 1,.int x] G=.ok (.str (Aa (Ab [32] (a::ls++[[]])))) G:=by have b:=Dq (l:=Ab [32] (a::ls)) (l':=[32]) (by have:=o.len;simp;lia) G;rw[Fp];rw[<-Er]at b;generalize Aa (Ab [32] (a::ls)++[32])=R,Aa (Ab [32] (a::ls))=X at*;unfold Bj Gf H7;rw[Af];simp[-Dt,b,Ah]
theorem nr2:Bj [.str (Aa (Ab [32] (a::ls))),.int 2,.int x] G=.ok (.str (Aa (Ab [32] ([]::a::ls)))) G:=by have b:=Dq (l:=[32]) (l':=Ab [32] (a::ls)) (by have:=o.len;simp;lia) G;rw[<-Er]at b;have e:Ab [32] ([]::a::ls)=[32]++Ab [32] (a::ls):=rfl;rw[e];generalize Aa ([32]++Ab [32] (a::ls))=R,Aa (Ab [32] (a::ls))=X at*;unfold Bj Gf H7 Ih;rw[Af];simp[-Dt,b,Ah]
theorem nr3{b:Nat}{c:List Nat}(j:a=b::c)(m:Txt.upper (Aa [b])=Aa [c1]):Bj [.str (Aa (Ab [32] (a::ls))),.int 3,.int x] G=.ok (.str (Aa (Ab [32] ((c1::c)::ls)))) G:=by
 have h:=o.len;obtain⟨t,n,d⟩:∃t,Ab [32] (a::ls)=b::t/\Ab [32] ((c1::c)::ls)=c1::t:=by
  subst j;cases ls with
  |nil=>exact⟨c,rfl,rfl⟩
  |cons z r=>exact⟨c++[32]++Ab [32] (z::r),rfl,rfl⟩
 rw[n]at h⊢;rw[d];have f:=Hd (l:=b::t) (lo:=uZ) (hi:=uQ 1) (by lia) G;have g:=Hd (l:=b::t) (lo:=uQ 1) (hi:=uZ) (by lia) G
 have p:cutD (b::t) uZ (uQ 1)=[b]:=by rw[show(1:Int)=((1:Nat):Int)from rfl,Jj (by simp)];rfl
 have k:cutD (b::t) (uQ 1) uZ=t:=by rw[show(1:Int)=((1:Nat):Int)from rfl,Jv (by simp)];rfl
 rw[p]at f;rw[k]at g;have q:Qg (.str (Aa [b])) [] G=.ok (.str (Aa [c1])) G:=by
  have:Qg (.str (Aa [b])) [] G=if(Txt.upper (Aa [b])).length<=1000000 then .ok (.str (Txt.upper (Aa [b]))) G else .bad:=rfl
  rw[this,m,if_pos (by rw[Bo];simp)]
 have i:=Dq (l:=[c1]) (l':=t) (by simp at h⊢;lia) G;have e: [c1]++t=c1::t:=rfl;rw[e]at i;generalize Aa (c1::t)=R,Aa (b::t)=X,Aa [b]=Y,Aa [c1]=Z,Aa t=T at*;unfold Bj Gf H7 Ih Ip;rw[Af];simp[-Dt,-Du,Br,f,g,Ds,q,i,Ah]
theorem nr4:Bj [.str (Aa (Ab [32] (a::ls))),.int 4,.int x] G=.ok (.str (Aa (Ab [32] (a::[]::ls)))) G:=by
 have d:=o.len;obtain⟨z,b,rfl⟩:∃z b,ls=z::b:=by
  cases ls with
  |nil=>exact absurd rfl o.ne
  |cons z b=>exact⟨z,b,rfl⟩
 have e:Ab [32] (a::[]::z::b)=a++[32,32]++Ab [32] (z::b):=by show a++[32]++([]++[32]++Ab [32] (z::b))=_;simp
 rw[e];rw[Mg]at d⊢;have f:=Kz (q:=Ab [32] (z::b)) (o.hc a (by simp)) (by lia) G;rw[<-Er]at f;simp[zC,z0]at d;have c:=Dq (l:=a) (l':=[32,32]) (by simp;lia) G;have g:=Dq (l:=a++[32,32]) (l':=Ab [32] (z::b)) (by simp;lia) G;have h:("  ":Str)=Aa [32,32]:=by decide +kernel
 rw[<-h]at c;generalize Aa (a++[32,32]++Ab [32] (z::b))=R,Aa (a++[32,32])=i,Aa (a++32::Ab [32] (z::b))=X,Aa (Ab [32] (z::b))=T,Aa a=A at*;unfold Bj Gf H7 Ih Ip Jg;rw[Af];simp[-Dt,f,c,g,Ah]
theorem nr5(e:Ab [32] (a::ls)=u++32::v)(b:32∉v):Bj [.str (Aa (Ab [32] (a::ls))),.int 5,.int x] G=.ok (.str (Aa u)) G:=by
 have d:=o.len;rw[e]at d⊢;have c:Oi (.str (Aa (u++32::v))) [.str " "] G=.ok (.tup [.str (Aa u),.str (Aa [32]),.str (Aa v)]) G:=by
  have:Oi (.str (Aa (u++32::v))) [.str " "] G=if(" ":Str).length≠0/\(Aa (u++32::v)).length<=1000000 then .ok (.tup (VH (Aa (u++32::v)) " ")) G else .bad:=rfl
  rw[this,if_pos ⟨by decide,by rw[Bo];lia⟩];unfold VH;rw[Er,E9 b]
 generalize Aa (u++32::v)=X,Aa u=U,Aa v=f at*;unfold Bj Gf H7 Ih Ip Jg Kl;rw[Af];simp[c,Ah]
theorem nr6:Bj [.str (Aa (Ab [32] (a::ls))),.int 6,.int x] G=.ok (.str (Aa (Ab [32] (a::ls++[[53]])))) G:=by
 have b:=Dq (l:=Ab [32] (a::ls)) (l':=[32,53]) (by have:=o.len;simp;lia) G;have c:(" 5":Str)=Aa [32,53]:=by decide +kernel
 rw[Fp];rw[<-c]at b;generalize Aa (Ab [32] (a::ls)++[32,53])=R,Aa (Ab [32] (a::ls))=X at*;unfold Bj Gf H7 Ih Ip Jg Kl M4;rw[Af];simp[-Dt,b,Ah]
theorem Ee(d:a≠wl "basin"):Lr [.str (Aa (Ab [32] (a::ls))),.int x] G=.ok (.str (Aa (Ab [32] (a::ls++[wl "none"])))) G:=by
 have m:=o.len;have k:(wl "none").length=4:=by decide +kernel
 have c:=λG=>Dq (l:=Ab [32] (a::ls)) (l':=32::wl "none") (by simp;lia) G
 have f:(" none":Str)=Aa (32::wl "none"):=by decide +kernel
 rw[Fp];rw[<-f]at c;have b:Cr (.str (Aa (Ab [32] (a::ls)))) [.str " "] G=.ok (.ref G.length) (G++[.lst (((a::ls).map Aa).map D.str)]):=by
  have e:Cr (.str (Aa (Ab [32] (a::ls)))) [.str (Aa [32])] G=if(Aa [32]).length≠0/\(Aa (Ab [32] (a::ls))).length<=1000000 then .ok (.ref G.length) (G++[.lst ((Txt.split (Aa (Ab [32] (a::ls))) (Aa [32])).map D.str)])else .bad:=rfl
  rw[Er,e,if_pos ⟨by simp,by rw[Bo];lia⟩,W4 o.hc (by decide)]
 have j:tidy G (.ok (.ref G.length) (G++[.lst (((a::ls).map Aa).map D.str)]))=.ok (.ref G.length) (G++[.lst (((a::ls).map Aa).map D.str)]):=Dk Ci;have h:LB (((a::ls).map Aa).map D.str) 0=zS (Aa a):=Df rfl rfl;have g:¬Aa a="basin":=λz=>d (by rw[<-z,U4])
 have i:∀(z:Str)(L:DH),tidy G (.ok (.str z) (G++L))=.ok (.str z) G:=λz L=>Ik rfl
 generalize Aa (Ab [32] (a::ls)++32::wl "none")=R,Aa (Ab [32] (a::ls))=X,((a::ls).map Aa).map D.str=L,Aa a=A at*;unfold Lr bh bf;rw[Af];simp[-Dt,b,j,Cz,h,g,c,i]
end
def Iz{n:Int}:Pr (num n):=λc a=>by have:=Ru c a;lia
def cX(h:RC l):Pr l:=λc a=>by have:=h.2 c a;lia
def FA:Pr (QC s):=by
 unfold QC;refine Iz.app (.cons (by lia) (Iz.app (.cons (by lia) ?_)))
 cases s.r<;>exact λc a=>by simp[KH]at a;lia
theorem FC{s:ND}:Pr (IC s):=by
 unfold IC;refine Iz.app (.cons (by lia) ?_);cases s.2 with
 |nil=>exact .nil
 |cons t d=>exact .cons (by lia) (.join (λc a=>by simp at a;lia) λl b=>by obtain⟨y,_,rfl⟩:=z7.mp b;exact FA)
def FD:Pr (WD r):=.join (λc a=>by simp at a;lia) λl b=>by obtain⟨y,_,rfl⟩:=z7.mp b;exact FC
theorem FE(h:KD q):Pr (Bd q):=by
 cases q with
 | none=>
  exact λc a=>by
   have e:wl "none"=[110,111,110,101]:=by decide +kernel
   have a:c∈wl "none":=a;rw[e]at a;simp at a;lia
 | some z=>
  obtain⟨t,d,m⟩:=z;exact .join (λc a=>by simp at a;lia) λl b=>by
   simp[zZ,z5,or_false]at b;rcases b with rfl|rfl|rfl
   .exact cX h.1
   .exact Iz
   exact Iz
def Ft:wl "basin"=[98,97,115,105,110]:=by decide +kernel
def Fj:wl "town"=[116,111,119,110]:=by decide +kernel
def Fo:wl "mill"=[109,105,108,108]:=by decide +kernel
def Ex:wl "year"=[121,101,97,114]:=by decide +kernel
def cY(o:OJ p):Pr p.XA/\lN p.XA<=16000:=by
 have h:=o.w;have hk:=h.kd;obtain⟨i,g⟩:=kn o;refine⟨.join (λc f=>by simp at f;lia) ?_,?_⟩
 .unfold RP.words;intro l d;rcases zZ.mp d with rfl|d
  .cases p.kd with
   |IA b r q=>show Pr (wl "basin");rw[Ft];exact λc f=>by simp at f;lia
   |VA a b=>show Pr (wl "town");rw[Fj];exact λc f=>by simp at f;lia
   |RA a=>show Pr (wl "mill");rw[Fo];exact λc f=>by simp at f;lia
  rcases zZ.mp d with rfl|d
  .exact cX h.nm
  rcases zZ.mp d with rfl|d
  .exact cX h.dn
  rcases zZ.mp d with rfl|d
  .exact Iz
  cases e:p.kd with
  |IA b r q=>
   rw[e]at d hk;simp[RK.words,zZ,z5,or_false]at d;rcases d with rfl|rfl|rfl
   .exact Iz
   .exact FE hk.2.2
   exact FD
  |VA a b=>
   rw[e]at d;simp[RK.words,zZ,z5,or_false]at d
   rcases d with rfl|rfl<;>exact Iz
  |RA a=>
   rw[e]at d;simp[RK.words,zZ,z5,or_false]at d;rcases d with rfl
   exact Iz
 have j:=Pa (sep:=[32]) p.words i;have k:lN p.words*(2260+lN [32])<=7*2261:=jq _ g;show lN (Ab [32] p.words)<=16000;lia
def XC(l:List Nat):Prop:=∃u c v,l=(u++[c])++32::v/\32∉v/\c≠58/\c≠114/\c≠112
def XC.app(h:XC m):XC (l++m):=by obtain⟨u,c,v,e,a,b⟩:=h;exact⟨l++u,c,v,by rw[e];simp,a,b⟩
theorem XC.last:∀ls:List (List Nat),ls≠[]->(∀x∈ls,XC x)->XC (Ab sep ls)
 |[],h,_=>absurd rfl h
 |[x],_,h=>h x (by simp)
 |x::y::ls,_,h=>(XC.last (y::ls) (by simp) λz a=>h z (zQ _ a)).app
def l6{n:Int}:∃u c,num n=u++[c]/\48<=c/\c<=57:=by
 rcases List.eq_nil_or_concat (num n)with e|⟨u,c,e⟩
 .exact absurd e cB
 rw[List.concat_eq_append]at e;exact⟨u,c,e,Ru c (by rw[e];simp)⟩
def FF:XC (QC s):=by obtain⟨u,c,e,a,b⟩:=l6 (n:=s.m);refine⟨num s.h++43::u,c,KH s.r,?_,kF (by lia),by lia,by lia,by lia⟩;unfold QC;rw[e];simp
theorem cZ:∀(x:List Nat)(xs:List (List Nat)),Ab sep (x::xs++[y])=Ab sep (x::xs)++(sep++y)
 |x,[]=>by show x++sep++y=x++(sep++y);simp
 |x,z::xs=>by show x++sep++Ab sep (z::xs++[y])=x++sep++Ab sep (z::xs)++(sep++y);rw[cZ z xs];simp
theorem FG(h:r≠[]):XC (WD r)\/32∉WD r:=by
 obtain⟨a,s,rfl⟩:∃a s,r=a++[s]:=by
  rcases List.eq_nil_or_concat r with e|⟨u,c,e⟩
  .exact absurd e h
  rw[List.concat_eq_append]at e;exact⟨u,c,e⟩
 have b:32∉num s.1++[58]:=λz=>by
  rcases zG.mp z with z|z
  .exact Cg (by lia) z
  simp at z
 unfold WD;rw[jx];show XC (Ab [59,32] (a.map IC++[IC s]))\/32∉Ab [59,32] (a.map IC++[IC s]);cases e:s.2 with
 | nil=>
  have g:IC s=num s.1++[58]:=by unfold IC;rw[e];rfl
  rw[g];cases a with
  |nil=>exact .inr b
  |cons x d=>
   refine .inl ⟨Ab [59,32] ((x::d).map IC),59,num s.1++[58],?_,b,by lia,by lia,by lia⟩;rw[zJ,cZ];simp
 | cons t i=>
  have f:XC (IC s):=by
   unfold IC;rw[e];have:=XC.last (sep:=[44,32]) ((t::i).map QC) (by simp) λx j=>by obtain⟨y,_,rfl⟩:=z7.mp j;exact FF
   exact .app (.app (l:=[58]) (.app (l:=[32]) this))
  cases a with
  |nil=>exact .inl f
  |cons x d=>
   rw[zJ,cZ];exact .inl (f.app.app)
def FH(h:YH p)(e:p.kd=.IA b r q):XC p.XA:=by
 have hk:=h.kd;rw[e]at hk;have i:p.words=wl p.kd.XA::[wl p.nm,wl p.dn,num p.dl,num b,Bd q]++[WD r]:=by
  unfold RP.words;rw[e]
  rfl
 have a:p.XA=Ab [32] (wl p.kd.XA::[wl p.nm,wl p.dn,num p.dl,num b,Bd q])++32::WD r:=by unfold RP.XA;rw[i,Fp]
 rcases FG hk.2.1.ne with z|z
 .rw[a];exact .app (.app (l:=[32]) z)
 have g:Ab [32] (wl p.kd.XA::[wl p.nm,wl p.dn,num p.dl,num b,Bd q])=Ab [32] (wl p.kd.XA::[wl p.nm,wl p.dn,num p.dl,num b])++32::Bd q:=Fp (wl p.kd.XA) [wl p.nm,wl p.dn,num p.dl,num b];obtain⟨u,c,f,j⟩:∃u c,Bd q=u++[c]/\(c≠58/\c≠114/\c≠112):=by
  cases q with
  |none=>exact⟨[110,111,110],101,(by decide +kernel:wl "none"=[110,111,110,101]),by lia,by lia,by lia⟩
  |some y=>
   obtain⟨t,d,m⟩:=y;obtain⟨u,c,e,o,k⟩:=l6 (n:=m);refine⟨wl t++[44]++(num d++[44]++u),c,?_,by lia,by lia,by lia⟩;show wl t++[44]++(num d++[44]++num m)=_;rw[e];simp
 refine⟨Ab [32] (wl p.kd.XA::[wl p.nm,wl p.dn,num p.dl,num b])++32::u,c,WD r,?_,z,j⟩;rw[a,g,f];simp
def l7{c:Nat}:(Ab [32] ((c::a)::ls)).head?=uQ c:=by cases ls<;>rfl
theorem Wf(a:l.head?=uQ 98)(f:¬YD l):OC l:=λp h e=>by
 obtain⟨g,c,_⟩:=Pn h;cases d:p.kd with
 |IA b r q=>rw[e]at f;exact f (EC h d)
 |VA x y=>
  rw[d,show(RK.VA x y).XA="town" from rfl,Fj]at c
  rw[e,c,l7]at a;simp at a
 |RA x=>
  rw[d,show(RK.RA x).XA="mill" from rfl,Fo]at c
  rw[e,c,l7]at a;simp at a
def Vn{c:Nat}(h:c≠58/\c≠114/\c≠112):¬YD (u++[c]):=λ⟨b,a,e,d⟩=>by
 have:=(List.append_inj' e rfl).2;obtain rfl:c=a:=by simpa using this
 lia
section
variable{X F5:Str}{x:Int}{G:DH}(hs:Gr (.str X) uZ (uQ 5) G=.ok (.str F5) G)
include hs
theorem Oy(b:F5="year ")(c:7<=w)(hw:w<10){R:Str}(e:Jx [.str X,.int 1,.int x] G=.ok (.str R) G):Bj [.str X,.int w,.int x] G=.ok (.str R) G:=by
 have a:∀G,freeze G (.ok (.str F5) G)=.ok (.str F5) G:=λG=>Ej rfl
 unfold Bj Gf H7 Ih Ip Jg Kl M4 Nv;rw[Af]
 rcases(by lia:w=7\/w=8\/w=9)with rfl|rfl|rfl<;>simp[-Du,Br,hs,a,b,Ds,e,Ah]
theorem lz(b:F5="town ")(a:w=7\/w=8){j:Int}(d:LB ([.int 3,.int 4,.int 5,.int 5]:List D) (x/12%4)=zI j){R:Str}(e:Jx [.str X,.int j,.int x] G=.ok (.str R) G):Bj [.str X,.int w,.int x] G=.ok (.str R) G:=by
 have c:¬(("town ":Str)="year "):=by decide
 have fl:freeze G (.ok (.ref (lN G)) (G++[.lst [.int 3,.int 4,.int 5,.int 5]]))=.ok (.fl [.int 3,.int 4,.int 5,.int 5]) G:=Az rfl;unfold Bj Gf H7 Ih Ip Jg Kl M4 Nv O7;rw[Af]
 rcases a with rfl|rfl<;>simp[-Du,Br,hs,b,Ds,c,Ai,fl,d,e,Ah]
theorem nr7(b:¬F5="year ")(c:¬F5="town ")(a:w=7\/w=8){R:Str}(e:Jx [.str X,.int (3+x/12%2),.int x] G=.ok (.str R) G):Bj [.str X,.int w,.int x] G=.ok (.str R) G:=by
 unfold Bj Gf H7 Ih Ip Jg Kl M4 Nv O7 Rm;rw[Af]
 rcases a with rfl|rfl<;>simp[-Du,Br,hs,b,c,Ds,e,Ah]
theorem TX{R:Str}(e:LB ([.str "years 5",.str "pond a sea 0 5",.str "town",.str "mill a sea 0 ",.str "basin a sea 0 5 none"]:List D) (x%5)=zS R):Bj [.str X,.int 10,.int x] G=.ok (.str R) G:=by
 have fl:freeze G (.ok (.ref (lN G)) (G++[.lst [.str "years 5",.str "pond a sea 0 5",.str "town",.str "mill a sea 0 ",.str "basin a sea 0 5 none"]]))=.ok (.fl [.str "years 5",.str "pond a sea 0 5",.str "town",.str "mill a sea 0 ",.str "basin a sea 0 5 none"]) G:=Az rfl;unfold Bj Gf H7 Ih Ip Jg Kl M4 Nv O7 Rm Xl bi;rw[Af]
 by_cases a:F5="year "<;>simp[-Du,Br,hs,a,Ds,Ai,fl,e,Ah]
theorem UX{R:Str}(e:Lr [.str X,.int x] G=.ok (.str R) G):Bj [.str X,.int 11,.int x] G=.ok (.str R) G:=by
 unfold Bj Gf H7 Ih Ip Jg Kl M4 Nv O7 Rm Xl bi iI;rw[Af]
 by_cases a:F5="year "<;>simp[-Du,Br,hs,a,Ds,e,Ah]
end
theorem l9(h:KD q):∃b bs,Bd q=Ab [44] (b::bs)/\(∀x∈b::bs,44∉x)/\((q=uZ/\bs=[]/\b=wl "none")\/∃d m,bs=[d,m]/\RC b/\WC d/\WC m):=by
 cases q with
 |none=>exact⟨wl "none",[],rfl,λx a=>by rw[qJ]at a;rw[a];exact k9,.inl ⟨rfl,rfl,rfl⟩⟩
 |some z=>
  obtain⟨t,d,m⟩:=z;refine⟨wl t,[num d,num m],rfl,λx a=>?_,.inr ⟨_,_,rfl,h.1,Di h.2.1.1 h.2.1.2,Di h.2.2.1 h.2.2.2⟩⟩;simp[zZ,z5,or_false]at a;rcases a with rfl|rfl|rfl
  .exact h.1.no (by lia)
  .exact Cg (by lia)
  exact Cg (by lia)
def K9{b:List Nat}{bs:List (List Nat)}(n:∀x∈b::bs,44∉x)(g:bs=[]->b≠wl "none")(j:∀d m,bs=[d,m]->¬(RC b/\WC d/\WC m)):∀q,KD q->Ab [44] (b::bs)≠Bd q:=λq i e=>by
 obtain⟨o,f,h,k,l⟩:=l9 i;rw[h]at e;obtain⟨rfl,rfl⟩:=cj (Gq n k e);rcases l with⟨_,a,c⟩|⟨d,m,a,c⟩
 .exact g a c
 exact j d m a c
def FI:∃w:List Nat,LB ([.str "a,1",.str "a,1,2,3",.str "none,",.str ",1,2",.str "A,1,2",.str "a,01,2",.str "a,1,",.str "None"]:List D) (x%8)=zS (Aa w)/\(∀q,KD q->w≠Bd q)/\32∉w/\Pr w/\lN w<=50:=by
 have f:∀{w:List Nat}{c:Nat},c∈w->¬(97<=c/\c<=122)->¬RC w:=λm h z=>h (z.2 _ m)
 rcases(by lia:x%8=0\/x%8=1\/x%8=2\/x%8=3\/x%8=4\/x%8=5\/x%8=6\/x%8=7)with h|h|h|h|h|h|h|h
 .refine⟨[97,44,49],by rw[h,show Aa [97,44,49]=("a,1":Str) by decide +kernel];rfl,K9 (b:=[97]) (bs:=[[49]]) (by simp) (by simp) (by simp),by simp,(λc a=>by simp at a;lia),by simp⟩
 .refine⟨[97,44,49,44,50,44,51],by rw[h,show Aa [97,44,49,44,50,44,51]=("a,1,2,3":Str) by decide +kernel];rfl,K9 (b:=[97]) (bs:=[[49],[50],[51]]) (by simp) (by simp) (by simp),by simp,(λc a=>by simp at a;lia),by simp⟩
 .refine⟨[110,111,110,101,44],by rw[h,show Aa [110,111,110,101,44]=("none,":Str) by decide +kernel];rfl,K9 (b:=[110,111,110,101]) (bs:=[[]]) (by simp) (by simp) (by simp),by simp,(λc a=>by simp at a;lia),by simp⟩
 .refine⟨[44,49,44,50],by rw[h,show Aa [44,49,44,50]=(",1,2":Str) by decide +kernel];rfl,K9 (bs:=[[49],[50]]) (by simp) (by simp) (λd m _ z=>z.1.1 rfl),by simp,(λc a=>by simp at a;lia),by simp⟩
 .refine⟨[65,44,49,44,50],by rw[h,show Aa [65,44,49,44,50]=("A,1,2":Str) by decide +kernel];rfl,K9 (b:=[65]) (bs:=[[49],[50]]) (by simp) (by simp) (λd m _ z=>f (c:=65) (by simp) (by lia) z.1),by simp,(λc a=>by simp at a;lia),by simp⟩
 .refine⟨[97,44,48,49,44,50],by rw[h,show Aa [97,44,48,49,44,50]=("a,01,2":Str) by decide +kernel];rfl,K9 (b:=[97]) (bs:=[[48,49],[50]]) (by simp) (by simp) (λd m e z=>?_),by simp,(λc a=>by simp at a;lia),by simp⟩;obtain⟨rfl,rfl⟩: [48,49]=d/\[50]=m:=by simpa using e
  rcases z.2.1.2.2 with y|y
  .simp at y
  exact y _ rfl
 .refine⟨[97,44,49,44],by rw[h,show Aa [97,44,49,44]=("a,1,":Str) by decide +kernel];rfl,K9 (b:=[97]) (bs:=[[49],[]]) (by simp) (by simp) (λd m e z=>?_),by simp,(λc a=>by simp at a;lia),by simp⟩;obtain⟨rfl,rfl⟩: [49]=d/\[]=m:=by simpa using e
  exact absurd z.2.2.1.1 (by simp)
 refine⟨[78,111,110,101],by rw[h,show Aa [78,111,110,101]=("None":Str) by decide +kernel];rfl,K9 (bs:=[]) (by simp) (λ_ z=>?_) (by simp),by simp,(λc a=>by simp at a;lia),by simp⟩;rw[show wl "none"=[110,111,110,101] by decide +kernel]at z;simp at z
def c7{c:Nat}{sp:Str}(b:sp=Aa [c])(YR:c<256)(d:∀x∈a::ls,c∉x)(f:(Ab [c] (a::ls)).length<=1000000)(G:DH):Cr (.str (Aa (Ab [c] (a::ls)))) [.str sp] G=.ok (.ref G.length) (G++[.lst (((a::ls).map Aa).map D.str)]):=by
 have e:Cr (.str (Aa (Ab [c] (a::ls)))) [.str (Aa [c])] G=if(Aa [c]).length≠0/\(Aa (Ab [c] (a::ls))).length<=1000000 then .ok (.ref G.length) (G++[.lst ((Txt.split (Aa (Ab [c] (a::ls))) (Aa [c])).map D.str)])else .bad:=rfl
 rw[b,e,if_pos ⟨by simp,by rw[Bo];lia⟩,W4 d YR]
def FJ(o:Row a ls)(ha:a=wl "basin"){n:List Nat}{rest:List (List Nat)}(hq:KD q)(hlq:∀t d m,q=uQ (t,d,m)->lN (wl t)<=1000)(el:ls=n::d::x3::x4::Bd q::rest)(G:DH):
  ∃w,(∀q,KD q->w≠Bd q)/\32∉w/\Pr w/\lN w<=5000/\Lr [.str (Aa (Ab [32] (a::ls))),.int x] G=.ok (.str (Aa (Ab [32] ((a::ls).set 5 w)))) G:=by
 have hl:=o.len;have hs1:=c7 Er (by decide) o.hc (by lia) G;have tn:tidy G (.ok (.ref (lN G)) (G++[.lst (((a::ls).map Aa).map D.str)]))=.ok (.ref (lN G)) (G++[.lst (((a::ls).map Aa).map D.str)]):=Dk Ci;have a0:LB (((a::ls).map Aa).map D.str) 0=zS "basin":=Df rfl (by rw[ha];show zS (Aa (wl "basin"))=_;rw[Gw]);have a5:LB (((a::ls).map Aa).map D.str) 5=zS (Aa (Bd q)):=Df rfl (by rw[el];rfl)
 have l5:5<lN (((a::ls).map Aa).map D.str):=by rw[el];simp
 have i5:QJ (lN (((a::ls).map Aa).map D.str)) 5=uQ 5:=Od l5;have lp:=zy (Hj (a::ls) (Bd q) (by rw[el];simp)) hl;obtain⟨b,bs,M,e2,e3⟩:=l9 hq;have hb8:lN b<=1000:=by
  cases q with
  |none=>
   have:=Hj (sep:=[44]) (b::bs) b (by simp);rw[<-M]at this;have l4:lN (wl "none")=4:=by decide +kernel
   have:lN b<=lN (wl "none"):=this;lia
  | some z=>
   obtain⟨t,d,m⟩:=z;have:=Gq e2 (λx hx=>by
    simp[zZ,z5,or_false]at hx;rcases hx with rfl|rfl|rfl
    .exact hq.1.no (by lia)
    .exact Cg (by lia)
    exact Cg (by lia)) M.symm
   rw[(cj this).1];exact hlq t d m rfl
 rw[M]at a5 lp;have hs2:=c7 Ui (by decide) e2 (by lia) (G++[.lst (((a::ls).map Aa).map D.str)]);have u:tidy (G++[.lst (((a::ls).map Aa).map D.str)]) (.ok (.ref (lN (G++[DO.lst (((a::ls).map Aa).map D.str)]))) (G++[.lst (((a::ls).map Aa).map D.str)]++[.lst (((b::bs).map Aa).map D.str)]))=.ok (.ref (lN (G++[DO.lst (((a::ls).map Aa).map D.str)]))) (G++[.lst (((a::ls).map Aa).map D.str)]++[.lst (((b::bs).map Aa).map D.str)]):=Dk Ci
 have N:∀(w:List Nat)(S3:Option D)(S4:Option D)(L:DH),lN w<=5000->tidy G (bc [zS (Aa (Ab [32] (a::ls))),zI x,zR (lN G),S3,S4] (G++DO.lst ((((a::ls).map Aa).map D.str).set 5 (.str (Aa w)))::L)).ret=.ok (.str (Aa (Ab [32] ((a::ls).set 5 w)))) G:=λw S3 S4 L hw=>by
  have F:=Qs (zy (o.bd 5 w hw) (by lia)) (G++DO.lst ((((a::ls).map Aa).map D.str).set 5 (.str (Aa w)))::L);have es:(((a::ls).set 5 w).map Aa).map D.str=(((a::ls).map Aa).map D.str).set 5 (.str (Aa w)):=by rw[qS,qS]
  rw[es,<-Er]at F;have hg:(G++DO.lst ((((a::ls).map Aa).map D.str).set 5 (.str (Aa w)))::L)[lN G]?=uQ (.lst ((((a::ls).map Aa).map D.str).set 5 (.str (Aa w)))):=by simp
  have hj2:Cu (.str " ") [.ref (lN G)] (G++DO.lst ((((a::ls).map Aa).map D.str).set 5 (.str (Aa w)))::L)=.ok (.str (Aa (Ab [32] ((a::ls).set 5 w)))) (G++DO.lst ((((a::ls).map Aa).map D.str).set 5 (.str (Aa w)))::L):=by rw[<-F];simp[Cu,Be,hg]
  have td:∀(z:Str)(L:DH),tidy G (.ok (.str z) (G++L))=.ok (.str z) G:=λz L=>Ik rfl
  generalize Aa (Ab [32] ((a::ls).set 5 w))=R,(((a::ls).map Aa).map D.str).set 5 (.str (Aa w))=W,Aa (Ab [32] (a::ls))=X at*;unfold bc;simp[hj2,td]
 have go:Lr [.str (Aa (Ab [32] (a::ls))),.int x] G=tidy G (Yg [zS (Aa (Ab [32] (a::ls))),zI x,zR (lN G),zR (lN (G++[DO.lst (((a::ls).map Aa).map D.str)])),uZ] (G++[.lst (((a::ls).map Aa).map D.str)]++[.lst (((b::bs).map Aa).map D.str)])).ret:=by generalize Aa (Ab [44] (b::bs))=P,((b::bs).map Aa).map D.str=B,Aa (Ab [32] (a::ls))=X,((a::ls).map Aa).map D.str=A at*;unfold Lr bh bf iH;rw[Af];simp[hs1,tn,Cz,a0,a5,hs2,u];simp at u;simp[u]
 rw[go];have eG:∀B:DO,G++[.lst (((a::ls).map Aa).map D.str)]++[B]=G++DO.lst (((a::ls).map Aa).map D.str)::[B]:=λB=>by simp
 by_cases h:x%2=0/\lN bs=2
 .obtain⟨j,F,ej⟩:∃j:Nat,j<3/\(j:Int)=x/2%3:=⟨(x/2%3).toNat,by lia,by lia⟩;obtain⟨d0,m0,l,w1,U,Y⟩:∃d m,bs=[d,m]/\RC b/\WC d/\WC m:=by
   rcases e3 with⟨_,z,_⟩|z
   .rw[z]at h;simp at h
   exact z
  obtain⟨T,c1,n1,s1,k1,l1,r1⟩:=kr (x:=x/6);obtain⟨v2,c2,n2,s2,k2,l2,r2⟩:=kt (x:=x/6);obtain⟨v,ev,Q⟩:∃v,(v=if j=0 then T else v2)/\(32∉v/\44∉v/\lN v<=50/\Pr v):=by
   by_cases z:j=0
   .exact⟨T,by rw[if_pos z],s1,k1,l1,r1⟩
   exact⟨v2,by rw[if_neg z],s2,k2,l2,r2⟩
  obtain⟨f,e,r⟩:∃f e,(b::bs).set j v=f::e:=by
   cases z:(b::bs).set j v with
   |nil=>have:=congrArg zU z;simp at this
   |cons f e=>exact⟨f,e,rfl⟩
  have g:∀x∈f::e,44∉x/\32∉x/\Pr x/\(lN x<=50\/x∈b::bs):=λy k=>by
   rw[<-r]at k;rcases jK k with z|z
   .exact⟨e2 y z,λc=>o.hc (Bd q) (by rw[el];simp) (M▸Yt z c),λc I=>o.el (x:=Bd q) (by rw[el];simp) c (M▸Yt z I),.inr z⟩
   rw[z];exact⟨Q.2.1,Q.1,Q.2.2.2,.inl Q.2.2.1⟩
  have hq1:∀q,KD q->Ab [44] (f::e)≠Bd q:=by
   refine K9 (λy k=>(g y k).1) (λz _=>?_) (λd' m' z=>?_)
   .have:=congrArg zU r;rw[z,l]at this;simp at this
   rw[z,l]at r;rcases(by lia:j=0\/j=1\/j=2)with rfl|rfl|rfl
   .obtain⟨rfl,_⟩:v=f/\_:=by simpa using r
    rw[ev,if_pos rfl];exact λy=>n1 y.1
   .obtain⟨_,rfl,_⟩:b=f/\v=d'/\_:=by simpa using r
    rw[ev,if_neg (by lia)];exact λy=>n2 y.2.1
   .obtain⟨_,_,rfl⟩:b=f/\d0=d'/\v=m':=by simpa using r
    rw[ev,if_neg (by lia)];exact λy=>n2 y.2.2
  have sl:((f::e).map zU).sum+lN (f::e)*lN [44]<=4000:=by
   rw[<-r];have z1:=ZH (w:=v) (b::bs) j;have z2:((b::bs).map zU).sum<=1100:=by have:lN b<=1000/\lN d0<=40/\lN m0<=40:=⟨hb8,U.1.2,Y.1.2⟩;rw[l];simp;lia
   rw[qF,l];rw[l]at z1;simp only[z0,jZ]at z1⊢;rw[l]at z2;lia
  have O:lN (Ab [44] (f::e))<=5000:=by
   have:=Pa (sep:=[44]) (B:=1050) (f::e) λy k=>by
    rcases(g y k).2.2.2 with z|z
    .lia
    rw[l]at z;simp[zZ,z5,or_false]at z;rcases z with rfl|rfl|rfl
    .lia
    .have:=U.1.2;lia
    have:=Y.1.2;lia
   have lb:lN (f::e)=3:=by rw[<-r,qF,l];rfl
   rw[lb]at this;simp[jX]at this;lia
  refine⟨Ab [44] (f::e),hq1,?_,Pr.join (λc I=>by rw[qJ]at I;lia) (λy k=>(g y k).2.2.1),O,?_⟩
  .intro z;rcases U7 _ z with z|⟨y,k,z⟩
   .simp at z
   exact(g y k).2.1 z
  have K:∀(J:DH)(i:Nat),J[i]?=uQ (.lst (((f::e).map Aa).map D.str))->Cu (.str ",") [.ref i] J=.ok (.str (Aa (Ab [44] (f::e)))) J:=λJ i hg=>by have F:=Qs (sep:=[44]) (ls:=f::e) (by lia) J;rw[<-Ui]at F;rw[<-F];simp[Cu,Be,hg]
  have es:((f::e).map Aa).map D.str=(((b::bs).map Aa).map D.str).set j (.str (Aa v)):=by rw[<-r,qS,qS]
  have lB:lN (((b::bs).map Aa).map D.str)=3:=by rw[l];rfl
  have ixj:QJ 3 (j:Int)=uQ j:=Od (by lia);have av:LB ([.str (Aa T),.str (Aa v2)]:List D) (if 0<j then 1 else 0)=zS (Aa v):=by
   by_cases z:j=0
   .subst z;rw[ev];rfl
   have:0<j:=by lia
   rw[if_pos this,ev,if_neg z];rfl
  have fi:∀(c:Bool)(G:DH),Hl [.bl c] G=.ok (.int (if c=uJ then 1 else 0)) G:=λc G=>by cases c<;>rfl
  have fz2:∀(p q:Str)(G:DH),freeze G (.ok (.ref (lN G)) (G++[.lst [.str p,.str q]]))=.ok (.fl [.str p,.str q]) G:=λp q G=>Az rfl
  rw[eG];have s:=N (Ab [44] (f::e)) (zR (lN G+1)) (zI j) [DO.lst (((f::e).map Aa).map D.str)] O;have C:lN (G++[DO.lst (((a::ls).map Aa).map D.str)])=lN G+1:=by simp
  rw[C];rw[es]at K s;rw[<-s];generalize Aa (Ab [44] (f::e))=P,((b::bs).map Aa).map D.str=B,((a::ls).map Aa).map D.str=A,Aa (Ab [32] (a::ls))=X,Aa v=E,Aa T=V1,Aa v2=V2 at*;have g1:(G++[DO.lst A,DO.lst B])[lN G+1]?=uQ (.lst B):=by simp
  have g2:(G++[DO.lst A,DO.lst (B.set j (.str E))])[lN G+1]?=uQ (.lst (B.set j (.str E))):=by simp
  have Z:(G++[DO.lst A,DO.lst (B.set j (.str E))])[lN G]?=uQ (.lst A):=by simp
  have t1:(G++[DO.lst A,DO.lst B]).set (lN G+1) (.lst (B.set j (.str E)))=G++[DO.lst A,DO.lst (B.set j (.str E))]:=by simp
  have S:(G++[DO.lst A,.lst (B.set j (.str E))]).set (lN G) (.lst (A.set 5 (.str P)))=G++[DO.lst (A.set 5 (.str P)),.lst (B.set j (.str E))]:=by simp
  have b3:lN B<=1000000:=by lia
  have fz3:freeze (G++[DO.lst A,.lst B]) (.ok (.ref (lN G+2)) (G++[DO.lst A,.lst B,.lst [.str V1,.str V2]]))=.ok (.fl [.str V1,.str V2]) (G++[DO.lst A,.lst B]):=by have:=fz2 V1 V2 (G++[DO.lst A,.lst B]);simpa using this
  unfold Yg;simp[h.1,g1,b3,lB,<-ej,c1,c2,Ds,Ai,fz3,fi,av,ixj,t1,K _ _ g2,Z,i5,S]
 obtain⟨w,w1,U,Y,w4,w5⟩:=FI (x:=x/2);refine⟨w,U,Y,w4,by lia,?_⟩;rw[eG];have C:lN (G++[DO.lst (((a::ls).map Aa).map D.str)])=lN G+1:=by simp
 rw[C];rw[<-(N w (zR (lN G+1)) uZ [DO.lst (((b::bs).map Aa).map D.str)] (by lia))];have lB:lN (((b::bs).map Aa).map D.str)=lN bs+1:=by simp
 have lb:lN bs<=2:=by rcases e3 with⟨_,z,_⟩|⟨d,m,z,_⟩<;>rw[z]<;>simp
 have fl:∀G:DH,freeze G (.ok (.ref (lN G)) (G++[.lst [.str "a,1",.str "a,1,2,3",.str "none,",.str ",1,2",.str "A,1,2",.str "a,01,2",.str "a,1,",.str "None"]]))=.ok (.fl [.str "a,1",.str "a,1,2,3",.str "none,",.str ",1,2",.str "A,1,2",.str "a,01,2",.str "a,1,",.str "None"]) G:=λG=>Az rfl
 generalize((b::bs).map Aa).map D.str=B,((a::ls).map Aa).map D.str=A,Aa (Ab [32] (a::ls))=X,Aa w=W at*;have g1:(G++[DO.lst A,.lst B])[lN G+1]?=uQ (.lst B):=by simp
 have Z:(G++[DO.lst A,.lst B])[lN G]?=uQ (.lst A):=by simp
 have S:(G++[DO.lst A,.lst B]).set (lN G) (.lst (A.set 5 (.str W)))=G++[DO.lst (A.set 5 (.str W)),.lst B]:=by simp
 have H:freeze (G++[DO.lst A,.lst B]) (.ok (.ref (lN G+2)) (G++[DO.lst A,.lst B,.lst [.str "a,1",.str "a,1,2,3",.str "none,",.str ",1,2",.str "A,1,2",.str "a,01,2",.str "a,1,",.str "None"]]))=.ok (.fl [.str "a,1",.str "a,1,2,3",.str "none,",.str ",1,2",.str "A,1,2",.str "a,01,2",.str "a,1,",.str "None"]) (G++[DO.lst A,.lst B]):=by have:=fl (G++[DO.lst A,.lst B]);simpa using this
 unfold Yg;by_cases h2:x%2=0
 .have h3:¬(lN B:Int)=3:=λz=>h ⟨h2,by lia⟩
  simp[h2,g1,by omega,h3,Ai,H,w1,Z,i5,S]
 simp[h2,Ai,H,w1,Z,i5,S]
def YK:∃w:List Nat,LB ([.str "years 5",.str "pond a sea 0 5",.str "town",.str "mill a sea 0 ",.str "basin a sea 0 5 none"]:List D) (x%5)=zS (Aa w)/\OC w/\YI w/\Pr w/\lN w<=50:=by
 rcases(by lia:x%5=0\/x%5=1\/x%5=2\/x%5=3\/x%5=4)with h|h|h|h|h
 .refine⟨Ab [32] [[121,101,97,114,115],[53]],by rw[h,show Aa (Ab [32] [[121,101,97,114,115],[53]])=("years 5":Str) by decide +kernel];rfl,Rk (by simp) (by rw[Ft];simp) (by rw[Fj];simp) (by rw[Fo];simp),Gi (by simp) (by rw[Ex];simp),(λc b=>by simp[Ab]at b;omega +splitNatSub),by simp[Ab]⟩
 .refine⟨Ab [32] [[112,111,110,100],[97],[115,101,97],[48],[53]],by rw[h,show Aa (Ab [32] [[112,111,110,100],[97],[115,101,97],[48],[53]])=("pond a sea 0 5":Str) by decide +kernel];rfl,Rk (by simp) (by rw[Ft];simp) (by rw[Fj];simp) (by rw[Fo];simp),Gi (by simp) (by rw[Ex];simp),(λc b=>by simp[Ab]at b;omega +splitNatSub),by simp[Ab]⟩
 .refine⟨Ab [32] [[116,111,119,110]],by rw[h,show Aa (Ab [32] [[116,111,119,110]])=("town":Str) by decide +kernel];rfl,Kv (by simp) (by rw[Ft];simp) (by simp) (by simp),Gi (by simp) (by rw[Ex];simp),(λc b=>by simp[Ab]at b;omega +splitNatSub),by simp[Ab]⟩
 .refine⟨Ab [32] [[109,105,108,108],[97],[115,101,97],[48],[]],by rw[h,show Aa (Ab [32] [[109,105,108,108],[97],[115,101,97],[48],[]])=("mill a sea 0 ":Str) by decide +kernel];rfl,Mv (by simp) rfl (λz=>absurd z.2.1.1 (by simp)),Gi (by simp) (by rw[Ex];simp),(λc b=>by simp[Ab]at b;omega +splitNatSub),by simp[Ab]⟩
 .exact⟨Ab [32] [[98,97,115,105,110],[97],[115,101,97],[48],[53],[110,111,110,101]],by rw[h,show Aa (Ab [32] [[98,97,115,105,110],[97],[115,101,97],[48],[53],[110,111,110,101]])=("basin a sea 0 5 none":Str) by decide +kernel];rfl,Wf rfl (Vn (u:=[98,97,115,105,110,32,97,32,115,101,97,32,48,32,53,32,110,111,110]) ⟨by lia,by lia,by lia⟩),Gi (by simp) (by rw[Ex];simp),(λc b=>by simp[Ab]at b;omega +splitNatSub),by simp[Ab]⟩
def nr9(o:Row a ls){e:Str}(q:Gr (.str (Aa (Ab [32] (a::ls)))) uZ (uQ 5) G=.ok (.str e) G)(k:¬e="year ")(s:2<=lN ls):
  ∃(w:List Nat)(j:Nat),(j=1\/j=2)/\¬RC w/\32∉w/\Pr w/\lN w<=50/\Bj [.str (Aa (Ab [32] (a::ls))),.int 9,.int x] G=.ok (.str (Aa (Ab [32] ((a::ls).set j w)))) G:=by
 obtain⟨w,c1,l,i,t,n,g⟩:=kr (x:=x/2);obtain⟨j,m,h⟩:∃j:Nat,(j=1\/j=2)/\(j:Int)=1+x%2:=⟨(1+x%2).toNat,by lia,by lia⟩;refine⟨w,j,m,l,i,g,n,?_⟩;have u:=o.len;have d:=c7 Er (by decide) o.hc (by lia) G;have r:tidy G (.ok (.ref (lN G)) (G++[.lst (((a::ls).map Aa).map D.str)]))=.ok (.ref (lN G)) (G++[.lst (((a::ls).map Aa).map D.str)]):=Dk Ci;have b:=Zm (zy (o.bd j w (by lia)) (by lia)) G
 rw[<-Er]at b;have f:(((a::ls).set j w).map Aa).map D.str=(((a::ls).map Aa).map D.str).set j (.str (Aa w)):=by rw[qS,qS]
 rw[f]at b;have c:QJ (lN (((a::ls).map Aa).map D.str)) (j:Int)=uQ j:=Od (by rw[zV,zV];simp;lia);have p:∀(z:Str)(L:DH),tidy G (.ok (.str z) (G++L))=.ok (.str z) G:=λz L=>Ik rfl
 generalize Aa (Ab [32] ((a::ls).set j w))=R,Aa (Ab [32] (a::ls))=X,((a::ls).map Aa).map D.str=L,Aa w=W at*;unfold Bj Gf H7 Ih Ip Jg Kl M4 Nv O7 Rm Xl;rw[Af];simp[-Du,Br,q,k,Ds,d,r,c1,<-h,Cz,Fe,c,b,p]
def NR(P:List Nat->Prop)(X:List Nat)(w:Nat)(x:Int)(G:DH):Prop:=∃l',P l'/\Pr l'/\lN l'<=30000/\Bj [.str (Aa X),.int w,.int x] G=.ok (.str (Aa l')) G
def nz:Pr [32]:=λc b=>by simp at b;lia
section
variable{a:List Nat}{ls:List (List Nat)}(o:Row a ls){x:Int}{G:DH}{P:List Nat->Prop}
include o
theorem VX(h:P []):NR P (Ab [32] (a::ls)) 0 x G:=⟨_,h,.nil,by simp,nr0 o G⟩
theorem Y8(h:P (Ab [32] (a::ls++[[]]))):NR P (Ab [32] (a::ls)) 1 x G:=⟨_,h,by rw[Fp];exact o.pr.app nz,by have:=o.len;rw[Fp];simp;lia,nr1 o G⟩
theorem WX(h:P (Ab [32] ([]::a::ls))):NR P (Ab [32] (a::ls)) 2 x G:=⟨_,h,.app nz o.pr,by have:=o.len;show lN ([32]++Ab [32] (a::ls))<=30000;simp;lia,nr2 o G⟩
theorem XX(f:lN a<=5000){g:Nat}{e:List Nat}(b:a=g::e)(l:Txt.upper (Aa [g])=Aa [c1])(d:32<=c1)(h:P (Ab [32] ((c1::e)::ls))):NR P (Ab [32] (a::ls)) 3 x G:=by refine⟨_,h,o.ZI (j:=0) (.cons d λc k=>o.el (x:=a) (by simp) c (by rw[b];exact zQ _ k)),?_,nr3 o G b l⟩;refine o.UG 0 (c1::e) ?_;have:=Hj (sep:=[32]) (a::ls) a (by simp);have i:=f;rw[b]at i;simpa using i
theorem YX(h:P (Ab [32] (a::[]::ls))):NR P (Ab [32] (a::ls)) 4 x G:=⟨_,h,.join nz (λl b=>by
 rcases zZ.mp b with rfl|b
 .exact o.el (by simp)
 rcases zZ.mp b with rfl|b
 .exact .nil
 exact o.el (zQ _ b)),by
 have c:=Us a ls;have d:=Us a ([]::ls);have e:=o.len;simp[zJ,jA,z0,jZ]at c d;lia,nr4 o G⟩
theorem Y0(e:Ab [32] (a::ls)=u++32::v)(b:32∉v)(h:P u):NR P (Ab [32] (a::ls)) 5 x G:=⟨_,h,by have:=o.pr;rw[e]at this;exact this.left,by have:=o.len;rw[e]at this;simp at this;lia,nr5 o G e b⟩
theorem Wq(h:P (Ab [32] (a::ls++[[53]]))):NR P (Ab [32] (a::ls)) 6 x G:=⟨_,h,by rw[Fp];exact o.pr.app (λc b=>by simp at b;lia),by have:=o.len;rw[Fp];simp;lia,nr6 o G⟩
theorem RU(b:5<=lN (Ab [32] (a::ls))):Gr (.str (Aa (Ab [32] (a::ls)))) uZ (uQ 5) G=.ok (.str (Aa ((Ab [32] (a::ls)).take 5))) G:=by
 have:=Hd (l:=Ab [32] (a::ls)) (lo:=uZ) (hi:=uQ 5) (by have:=o.len;lia) G
 rwa[show cutD (Ab [32] (a::ls)) uZ (uQ 5)=(Ab [32] (a::ls)).take 5 from Jj b]at this
end
def NC(o:Row a ls)(h:32∉y):∀x∈a::(ls++[y]),32∉x:=λx b=>by
 rcases zZ.mp b with rfl|b
 .exact o.hc _ (by simp)
 rcases zG.mp b with b|b
 .exact o.hc x (zQ _ b)
 rw[qJ]at b;rw[b];exact h
def XU(o:Row a ls)(h:32∉y):∀x∈y::a::ls,32∉x:=λx b=>by
 rcases zZ.mp b with rfl|b
 .exact h
 exact o.hc x b
def YR(o:Row a ls)(h:32∉y):∀x∈a::y::ls,32∉x:=λx b=>by
 rcases zZ.mp b with rfl|b
 .exact o.hc _ (by simp)
 rcases zZ.mp b with rfl|b
 .exact h
 exact o.hc x (zQ _ b)
def KR:OC []:=Rk (ls:=[]) (by simp) (by rw[Ft];simp) (by rw[Fj];simp) (by rw[Fo];simp)
def ZJ:32∉wl "none":=by decide +kernel
def YT:Pr (wl "none"):=by rw[show wl "none"=[110,111,110,101] by decide +kernel];exact λc b=>by simp at b;lia
section
variable{a:List Nat}{ls:List (List Nat)}(o:Row a ls){x:Int}{G:DH}
include o
theorem c8{p:Nat}{q:List Nat}(E:lN a<=10)(m:a=p::q)(B:Txt.upper (Aa [p])=Aa [c1])(C:33<=c1/\c1<97){n:List Nat}{rest:List (List Nat)}(el:ls=n::d::rest)(f:¬Aa ((Ab [32] (a::ls)).take 5)="year ")(A:5<=lN (Ab [32] (a::ls)))(hw:w=0\/w=2\/w=3\/w=4\/w=9\/w=10):NR OC (Ab [32] (a::ls)) w x G:=by
 have e:∀b:Str,(∀c∈wl b,97<=c)->c1::q≠wl b:=λb h z=>by have:=h c1 (by rw[<-z];simp);lia
 have r:=RU o (G:=G) A;rcases hw with rfl|rfl|rfl|rfl|rfl|rfl
 .exact VX o KR
 .exact WX o (Rk (XU o (by simp)) (by rw[Ft];simp) (by rw[Fj];simp) (by rw[Fo];simp))
 .refine XX o (by lia) m B (by lia) (Rk (λy f=>?_) (e _ (by rw[Ft];simp)) (e _ (by rw[Fj];simp)) (e _ (by rw[Fo];simp)));rcases zZ.mp f with rfl|f
  .intro z;rcases zZ.mp z with z|z
   .lia
   exact o.hc a (by simp) (m▸zQ _ z)
  exact o.hc y (zQ _ f)
 .refine YX o (cU (YR o (by simp)) (by rw[el]) (λz=>z.1.1 rfl))
 .obtain⟨v,j,s,i,k,l,t,u⟩:=nr9 o r f (by rw[el];simp);refine⟨_,?_,o.ZI l,o.UG j v (by lia),u⟩;subst el;have g:=o.NQ (j:=j) k;rcases s with rfl|rfl
  .exact cU g rfl (λz=>i z.1)
  exact cU g rfl (λz=>i z.2)
 obtain⟨v,i,k,_,l,t⟩:=YK;exact⟨v,k,l,by lia,TX r i⟩
theorem Zv(f:j<lN (a::ls))(hp:∀w,¬WC w->(∀y∈(a::ls).set j w,32∉y)->OC (Ab [32] ((a::ls).set j w)))(b:∀R,Jx [.str (Aa (Ab [32] (a::ls))),.int j,.int x] G=.ok (.str R) G->Bj [.str (Aa (Ab [32] (a::ls))),.int w,.int x] G=.ok (.str R) G):NR OC (Ab [32] (a::ls)) w x G:=by obtain⟨v,d,c,i,h,e,g⟩:=ku o.hc (zy o.len (by lia)) f G (λw hw=>zy (o.bd j w (by lia)) (by lia));exact⟨_,hp v d (o.NQ c),o.ZI e,o.UG j v (by lia),b _ g⟩
theorem c9(c:a≠wl "basin")(b:5<=lN (Ab [32] (a::ls))){P:List Nat->Prop}(h:P (Ab [32] (a::(ls++[wl "none"])))):NR P (Ab [32] (a::ls)) 11 x G:=by
 have e:Ab [32] (a::(ls++[wl "none"]))=Ab [32] (a::ls)++32::wl "none":=Fp a ls;refine⟨_,h,?_,?_,UX (RU o b) (Ee o G c)⟩
 .rw[e];exact o.pr.app (.cons (by lia) YT)
 have:=o.len;have d:lN (wl "none")=4:=by decide +kernel
 rw[e];simp;lia
end
def Sz:Txt.upper (Aa [116])=Aa [84]:=by decide +kernel
def j':Txt.upper (Aa [109])=Aa [77]:=by decide +kernel
def y':Txt.upper (Aa [98])=Aa [66]:=by decide +kernel
def A':Txt.upper (Aa [121])=Aa [89]:=by decide +kernel
def KO:("town ":Str)=Aa [116,111,119,110,32]:=by decide +kernel
def LO:("year ":Str)=Aa [121,101,97,114,32]:=by decide +kernel
def FK{n:List Nat}(o:Row (wl "town") [n,d,x3,x4,x5])(hw:w<=11):NR OC (Ab [32] (wl "town"::[n,d,x3,x4,x5])) w x G:=by
 have l:Ab [32] (wl "town"::[n,d,x3,x4,x5])=[116,111,119,110,32]++Ab [32] [n,d,x3,x4,x5]:=by rw[Mg,Fj];rfl
 have k:Aa ((Ab [32] (wl "town"::[n,d,x3,x4,x5])).take 5)="town ":=by rw[l,KO];rfl
 have g:5<=lN (Ab [32] (wl "town"::[n,d,x3,x4,x5])):=by rw[l];simp
 have b:wl "town"≠wl "basin":=by rw[Fj,Ft];simp
 have nm:wl "town"≠wl "mill":=by rw[Fj,Fo];simp
 have num:∀j:Nat,(j=3\/j=4\/j=5)->∀w:List Nat,¬WC w->(∀y∈(wl "town"::[n,d,x3,x4,x5]).set j w,32∉y)->OC (Ab [32] ((wl "town"::[n,d,x3,x4,x5]).set j w)):=λj f w h c=>by
  rcases f with rfl|rfl|rfl
  .exact Mv c rfl (λz=>h z.1)
  .exact Mv c rfl (λz=>h z.2)
  exact D8 c rfl rfl h
 by_cases q:w=0\/w=2\/w=3\/w=4\/w=9\/w=10
 .exact c8 o (by rw[Fj];simp) Fj Sz (by lia) rfl (by rw[k];exact(by decide)) g q
 rcases(by lia:w=1\/w=5\/w=6\/(w=7\/w=8)\/w=11)with rfl|rfl|rfl|p|rfl
 .exact Y8 o (Kv (NC o (by simp)) b (λz=>absurd z nm) (λ_=>by simp))
 .exact Y0 o (Fp (wl "town") [n,d,x3,x4]) (o.hc x5 (by simp)) (Kv (λy i=>o.hc y (by
   simp[zZ,z5,or_false]at i⊢
   rcases i with h|h|h|h|h<;>simp[h])) b (λz=>absurd z nm) (λ_=>by simp))
 .exact Wq o (Kv (NC o (by simp)) b (λz=>absurd z nm) (λ_=>by simp))
 .obtain⟨j,f,m⟩:∃j:Nat,(j=3\/j=4\/j=5)/\LB ([.int 3,.int 4,.int 5,.int 5]:List D) (x/12%4)=zI j:=by
   rcases(by lia:x/12%4=0\/x/12%4=1\/x/12%4=2\/x/12%4=3)with z|z|z|z
   .exact⟨3,by lia,by rw[z];rfl⟩
   .exact⟨4,by lia,by rw[z];rfl⟩
   .exact⟨5,by lia,by rw[z];rfl⟩
   exact⟨5,by lia,by rw[z];rfl⟩
  exact Zv o (by simp;lia) (num j f) (λR e=>lz (RU o (G:=G) g) k p m e)
 exact c9 o b g (Kv (NC o ZJ) b (λz=>absurd z nm) (λ_=>by simp))
def FL{n:List Nat}(o:Row (wl "mill") [n,d,x3,x4])(hw:w<=11):NR OC (Ab [32] (wl "mill"::[n,d,x3,x4])) w x G:=by
 have p:Ab [32] (wl "mill"::[n,d,x3,x4])=[109,105,108,108,32]++Ab [32] [n,d,x3,x4]:=by rw[Mg,Fo];rfl
 have m:Aa ((Ab [32] (wl "mill"::[n,d,x3,x4])).take 5)=Aa [109,105,108,108,32]:=by rw[p];rfl
 have k:5<=lN (Ab [32] (wl "mill"::[n,d,x3,x4])):=by rw[p];simp
 have b:wl "mill"≠wl "basin":=by rw[Fo,Ft];simp
 have c:wl "mill"≠wl "town":=by rw[Fo,Fj];simp
 have q:¬Aa ((Ab [32] (wl "mill"::[n,d,x3,x4])).take 5)="year ":=by rw[m,LO,Jw];simp
 have g:¬Aa ((Ab [32] (wl "mill"::[n,d,x3,x4])).take 5)="town ":=by rw[m,KO,Jw];simp
 have num:∀j:Nat,(j=3\/j=4)->∀w:List Nat,¬WC w->(∀y∈(wl "mill"::[n,d,x3,x4]).set j w,32∉y)->OC (Ab [32] ((wl "mill"::[n,d,x3,x4]).set j w)):=λj i w h f=>by
  rcases i with rfl|rfl
  .exact Mv f rfl (λz=>h z.1)
  exact Mv f rfl (λz=>h z.2)
 by_cases t:w=0\/w=2\/w=3\/w=4\/w=9\/w=10
 .exact c8 o (by rw[Fo];simp) Fo j' (by lia) rfl q k t
 rcases(by lia:w=1\/w=5\/w=6\/(w=7\/w=8)\/w=11)with rfl|rfl|rfl|s|rfl
 .exact Y8 o (Kv (NC o (by simp)) b (λ_=>by simp) (λz=>absurd z c))
 .exact Y0 o (Fp (wl "mill") [n,d,x3]) (o.hc x4 (by simp)) (Kv (λy l=>o.hc y (by
   simp[zZ,z5,or_false]at l⊢
   rcases l with h|h|h|h<;>simp[h])) b (λ_=>by simp) (λz=>absurd z c))
 .exact Wq o (Kv (NC o (by simp)) b (λ_=>by simp) (λz=>absurd z c))
 .obtain⟨j,i,r⟩:∃j:Nat,(j=3\/j=4)/\3+x/12%2=(j:Int):=⟨(3+x/12%2).toNat,by lia,by lia⟩;exact Zv o (by simp;lia) (num j i) (λR e=>nr7 (RU o (G:=G) k) q g s (r▸e))
 exact c9 o b k (Kv (NC o ZJ) b (λ_=>by simp) (λz=>absurd z c))
def FM{n t:List Nat}(Q:KD q)(i:∀t d m,q=uQ (t,d,m)->lN (wl t)<=1000)(o:Row (wl "basin") (n::d::x3::x4::Bd q::t::ts))(H:XC (Ab [32] (wl "basin"::n::d::x3::x4::Bd q::t::ts)))(hw:w<=11):NR OC (Ab [32] (wl "basin"::n::d::x3::x4::Bd q::t::ts)) w x G:=by
 obtain⟨b,el⟩:∃b,b=n::d::x3::x4::Bd q::t::ts:=⟨_,rfl⟩;rw[<-el]at o H⊢;obtain⟨W,C,N⟩:∃z C,b=z::C:=⟨_,_,el⟩;have g:Ab [32] (wl "basin"::b)=[98,97,115,105,110]++32::Ab [32] b:=by rw[N,Mg,Ft]
 have r:Aa ((Ab [32] (wl "basin"::b)).take 5)=Aa [98,97,115,105,110]:=by rw[g];rfl
 have s:5<=lN (Ab [32] (wl "basin"::b)):=by rw[g];simp
 have f:(Ab [32] (wl "basin"::b)).head?=uQ 98:=by rw[g];rfl
 have B:¬Aa ((Ab [32] (wl "basin"::b)).take 5)="year ":=by rw[r,LO,Jw];simp
 have l:¬Aa ((Ab [32] (wl "basin"::b)).take 5)="town ":=by rw[r,KO,Jw];simp
 have F:=RU o (G:=G) s;have num:∀j:Nat,(j=3\/j=4)->∀w:List Nat,¬WC w->(∀y∈(wl "basin"::b).set j w,32∉y)->OC (Ab [32] ((wl "basin"::b).set j w)):=λj k w h A=>by
  subst el;rcases k with rfl|rfl
  .exact Mv A rfl (λz=>h z.1)
  exact Mv A rfl (λz=>h z.2)
 have E:∀y:List Nat,(Ab [32] (wl "basin"::b)++y).head?=uQ 98:=λy=>by rw[g];rfl
 by_cases I:w=0\/w=2\/w=3\/w=4\/w=9\/w=10
 .exact c8 o (by rw[Ft];simp) Ft y' (by lia) el B s I
 rcases(by lia:w=1\/w=5\/w=6\/(w=7\/w=8)\/w=11)with rfl|rfl|rfl|P|rfl
 .refine Y8 o ?_;rw[Fp];exact Wf (E _) (Vn ⟨by lia,by lia,by lia⟩)
 .obtain⟨u,c,v,p,K,M⟩:=H;refine Y0 o p K (Wf ?_ (Vn M));rw[p]at f;cases u with
  |_=>simpa using f
 .refine Wq o ?_;rw[Fp,show Ab [32] (wl "basin"::b)++[32,53]=(Ab [32] (wl "basin"::b)++[32])++[53] by simp];exact Wf (by rw[qW];exact E _) (Vn ⟨by lia,by lia,by lia⟩)
 .obtain⟨j,k,O⟩:∃j:Nat,(j=3\/j=4)/\3+x/12%2=(j:Int):=⟨(3+x/12%2).toNat,by lia,by lia⟩;exact Zv o (by rw[el];simp;lia) (num j k) (λR e=>nr7 F B l P (O▸e))
 obtain⟨v,T,S,U,J,L⟩:=FJ o rfl Q i el G;refine⟨_,?_,o.ZI U,o.UG 5 v J,UX F L⟩;subst el;exact ED (o.NQ (j:=5) S) rfl T
def FO{y:Int}(s:KB y)(hw:w<=11):NR YI (Dv y) w x G:=by
 have n:Dv y=Ab [32] (wl "year"::[num y]):=rfl;have d:Ab [32] (wl "year"::[num y])=[121,101,97,114,32]++num y:=by rw[Mg,Ex];rfl
 have B:=Dc s.2;have o:Row (wl "year") [num y]:=⟨λz b=>by
  simp[zZ,z5,or_false]at b;rcases b with rfl|rfl
  .rw[Ex];simp
  exact Cg (by lia),by simp,by rw[d];exact .app (λc h=>by simp at h;lia) Iz,by rw[d];simp;lia⟩
 have m:Aa ((Ab [32] (wl "year"::[num y])).take 5)="year ":=by rw[d,LO];rfl
 have g:5<=lN (Ab [32] (wl "year"::[num y])):=by rw[d];simp
 have A:wl "year"≠wl "basin":=by rw[Ex,Ft];simp
 have i:=RU o (G:=G) g;rw[n];rcases(by lia:w=0\/w=1\/w=2\/w=3\/w=4\/w=5\/w=6\/(7<=w/\w<10)\/w=10\/w=11)with rfl|rfl|rfl|rfl|rfl|rfl|rfl|k|rfl|rfl
 .exact VX o (Gi (ls:=[]) (by simp) (by rw[Ex];simp))
 .exact Y8 o (Gi (NC o (by simp)) (by simp))
 .exact WX o (Gi (XU o (by simp)) (by rw[Ex];simp))
 .refine XX o (by rw[Ex];simp) Ex A' (by lia) (Gi (λz b=>?_) (by rw[Ex];simp));simp[zZ,z5,or_false]at b;rcases b with rfl|rfl
  .simp
  exact Cg (by lia)
 .exact YX o (Gi (YR o (by simp)) (by simp))
 .exact Y0 o Mg (Cg (by lia)) (Gi (a:=wl "year") (ls:=[]) (λz b=>by rw[qJ]at b;rw[b,Ex];simp) (by simp))
 .exact Wq o (Gi (NC o (by simp)) (by simp))
 .obtain⟨v,f,e,l,p,u,q⟩:=ku o.hc (zy o.len (by lia)) (by simp) G (λw hw=>zy (o.bd 1 w (by lia)) (by lia));refine⟨_,?_,o.ZI u,o.UG 1 v (by lia),Oy i m k.1 k.2 q⟩;refine Gi (o.NQ (j:=1) e) λz=>?_
  obtain⟨_,t,r,z3⟩:=z;obtain rfl:v=t:=by simpa using r
  exact f z3
 .obtain⟨v,f,_,e,l,p⟩:=YK;exact⟨v,e,l,by lia,TX i f⟩
 exact c9 o A g (Gi (NC o ZJ) (by simp))
theorem FP(o:OJ p)(hw:w<=11):NR OC p.XA w x G:=by
 obtain⟨u,g,f,l,j,k⟩:=Pn o.w;obtain⟨h,e⟩:=cY o;cases c:p.kd with
 |VA a b=>
  have el:=j a b c;subst el;rw[c]at g f;rw[g]at h e⊢;exact FK ⟨f,by simp,h,e⟩ hw
 |RA a=>
  have el:=k a c;subst el;rw[c]at g f;rw[g]at h e⊢;exact FL ⟨f,by simp,h,e⟩ hw
 |IA b r q=>
  have i:=FH o.w c;have B:=l b r q c;obtain⟨t,s,v,n⟩:=B.he;subst n;rw[c]at g f;rw[g]at h e i⊢;exact FM B.hq (λt d m z=>by subst z;have:=o.lp b r t d m c;lia) ⟨f,by simp,h,e⟩ i hw
def Jo{n m:Int}(c:KB n)(b:KB m)(e:num n=num m):n=m:=by have a:=Zb c.1 c.2;rw[e,Zb b.1 b.2]at a;exact(xv a).symm
def My{s:Str}(e:wl s=wl t):s=t:=by rw[<-Gw (s:=s),e,Gw]
def FQ{a b:Bool}(e:wy a=wy b):a=b:=by
 cases a<;>cases b
 .rfl
 .exact absurd e (by decide)
 .exact absurd e (by decide)
 rfl
def FR{t:JB}(e:s.enc=t.enc):s=t:=by obtain⟨a,b,c⟩:=s;obtain⟨d,g,f⟩:=t;simp[JB.enc,D.tup.injEq,S0,D.int.injEq,D.str.injEq,and_true]at e;obtain⟨rfl,rfl,e⟩:=e;rw[FQ e]
theorem cf{d:Type}{f:d->D}(c:∀a b,f a=f b->a=b):∀{l m:List d},l.map f=m.map f->l=m
 |[],[],_=>rfl
 |a::l,b::m,e=>by rw[zJ,zJ]at e;obtain⟨g,h⟩:=cj e;rw[c a b g,cf c h]
def FS{s t:ND}(e:Aj s=Aj t):s=t:=by obtain⟨a,b⟩:=s;obtain⟨c,d⟩:=t;simp[Aj,D.tup.injEq,S0,D.int.injEq,and_true]at e;obtain⟨rfl,e⟩:=e;rw[cf (λ_ _=>FR) e]
def FU{s:List ND}(c:QM r)(d:QM s)(b:lN (WD r)<1000000)(e:WD r=WD s):r=s:=by have a:=Vi (r0:=0) [] c b;rw[e,Vi (r0:=0) [] d (by rw[<-e];exact b)]at a;simp[R.ok.injEq,D.tup.injEq,and_true]at a;exact(cf (λ_ _=>FS) a).symm
theorem FV{a:Option (Str×Int×Int)}(h:KD q)(h':KD a)(e:Bd q=Bd a):q=a:=by
 have c:∀{t:Str}{d m:Int},KD (uQ (t,d,m))->∀x∈wl t::[num d,num m],44∉x:=λi x b=>by
  simp[zZ,z5,or_false]at b;rcases b with rfl|rfl|rfl
  .exact i.1.no (by lia)
  .exact Cg (by lia)
  exact Cg (by lia)
 have f:∀x∈wl "none"::[],44∉x:=λx b=>by rw[qJ]at b;rw[b];exact k9
 cases q with
 | none=>
  cases a with
  |none=>rfl
  |some z=>
   obtain⟨t,d,m⟩:=z;have:=Gq f (c h') e;simp at this
 | some z=>
  obtain⟨t,d,m⟩:=z;cases a with
  |none=>
   have:=Gq (c h) f e;simp at this
  |some g=>
   obtain⟨k,l,j⟩:=g;have:=Gq (c h) (c h') e;simp[S0,and_true]at this;rw[My this.1,Jo h.2.1 h'.2.1 this.2.1,Jo h.2.2 h'.2.2 this.2.2]
theorem FW(h:YH p)(h':YH p')(Q:lN p.XA<1000000)(e:p.XA=p'.XA):p=p':=by
 obtain⟨ls,K,O,Z,S,e5⟩:=Pn h;obtain⟨W,H,C,w,I,x⟩:=Pn h';have l:=h.kd;have f:=h'.kd;have E:=h.dl;have g:=h'.dl;rw[K,H]at e;obtain⟨m,c⟩:=cj (Gq O C e);obtain⟨n,d,A,v⟩:=p;obtain⟨n',d',X,j⟩:=p';dsimp only at*;have u:¬(wl "basin"=wl "town"):=by rw[Ft,Fj];simp
 have s:¬(wl "basin"=wl "mill"):=by rw[Ft,Fo];simp
 have o:¬(wl "town"=wl "mill"):=by rw[Fj,Fo];simp
 cases v with
 | VA a b=>
  cases j with
  |VA k i=>
   rw[S a b rfl,I k i rfl]at c;simp[S0,and_true]at c;rw[My c.1,My c.2.1,Jo E g c.2.2.1,Jo l.1 f.1 c.2.2.2.1,Jo l.2 f.2 c.2.2.2.2]
  |RA k=>exact absurd m o
  |IA i z F=>exact absurd m.symm u
 | RA a=>
  cases j with
  |VA k i=>exact absurd m.symm o
  |RA k=>
   rw[e5 a rfl,x k rfl]at c;simp[S0,and_true]at c;rw[My c.1,My c.2.1,Jo E g c.2.2.1,Jo l f c.2.2.2]
  |IA i z F=>exact absurd m.symm s
 | IA b r q=>
  cases j with
  |VA k i=>exact absurd m u
  |RA k=>exact absurd m s
  | IA i z F=>
   obtain⟨t,ts,Y,f2⟩:=(Z b r q rfl).he;obtain⟨t',J,y,B⟩:=(w i z F rfl).he;rw[f2,B]at c;simp[S0]at c;obtain⟨P,L,T,U,m5,N,M⟩:=c;have lr:lN (WD r)<1000000:=by
    have:WD r∈RP.words ⟨n,d,A,.IA b r q⟩:=by simp[RP.words,RK.words]
    exact jS (Hj _ _ this) Q
   rw[My P,My L,Jo E g T,Jo l.1 f.1 U,FV l.2.2 f.2.2 m5,FU l.2.1 f.2.1 lr (by rw[Y,y,N,M])]
def FX{y z:Int}(c:KB y)(hz:KB z)(e:Dv y=Dv z):y=z:=by
 have a:∀{y:Int},∀x∈wl "year"::[num y],32∉x:=λx b=>by
  simp[zZ,z5,or_false]at b;rcases b with rfl|rfl
  .rw[Ex];simp
  exact Cg (by lia)
 have:=Gq a a e;simp[S0,and_true,true_and]at this;exact Jo c hz this
theorem la:∀{ps a:List RP},(∀p∈ps,OJ p)->(∀p∈a,YH p)->ps.map RP.XA=a.map RP.XA->ps=a
 |[],[],_,_,_=>rfl
 |p::ps,q::a,h,c,e=>by rw[zJ,zJ]at e;obtain⟨d,f⟩:=cj e;have hp:=h p (by simp);rw[FW hp.w (c q (by simp)) (by have:=(cY hp).2;lia) d,la (λx b=>h x (zQ _ b)) (λx b=>c x (zQ _ b)) f]
def FY{y:Int}(h:KB y):Pr (Dv y)/\lN (Dv y)<=50:=by
 have a:Dv y=[121,101,97,114,32]++num y:=by show Ab [32] (wl "year"::[num y])=_;rw[Mg,Ex];rfl
 have:=Dc h.2;rw[a];exact⟨.app (λc b=>by simp at b;lia) Iz,by simp;lia⟩
def Xb(o:YJ h):∀l∈Ae h,Pr l/\lN l<=16000:=λl a=>by
 rcases zZ.mp a with rfl|a
 .have:=FY o.yr;exact⟨this.1,by lia⟩
 obtain⟨p,hp,rfl⟩:=z7.mp a;exact cY (o.po p hp)
def Oa:lN (Ae h)=lN h.ps+1:=by simp[Ae]
def Xg(d:lN rs<=20)(a:∀l∈rs,lN l<=30000):lN (Ab [10] rs)<1000000/\(rs.map zU).sum+lN rs*lN [10]<=1000000:=by have b:=Pa (sep:=[10]) rs a;have c:=Vr rs a;simp[jX]at*;lia
def Vy(o:YJ h)(G:DH){r:R D}(g:Gg [h.enc] G=r)(i:r≠ .bad)(A:tidy G r=r):Ha [.str (Aa (Ab [10] (Ae h)))] G=r:=by
 have hp:=Xb o;have B:=o.len;have c:∀x∈Dv h.yr::h.ps.map RP.XA,10∉x:=λx s z=>by have:=(hp x s).1 10 z;lia
 rcases ki c (Xg (rs:=Ae h) (by rw[Oa];lia) (λl p=>by have:=(hp l p).2;lia)).1 (by rw[zV];lia) G with⟨y,e,a,u,q,v,m⟩|⟨a,_⟩|⟨_,k,b,_,n,_⟩
 .have t:=FX o.yr a q;have j:=la o.po u v;subst t;subst j;exact m r g (by
   cases r with
   |ok d f|err x f=>simp
   |bad=>exact absurd rfl i) A
 .exact absurd rfl (a _ o.yr)
 rw[zV]at b;exact absurd (by rw[zD,zX b];rfl) (n h.ps[k] (o.po _ (qV b)).w)
theorem FZ(o:YJ h)(hp:∀l∈rs,Pr l/\lN l<=30000)(e:lN rs<=20){n:Nat}(a:rs[n]?=uQ l)(b:if n=0 then YI l else OC l)(t:∀i,i<n->rs[i]?=(Ae h)[i]?)(hk:n<=lN h.ps+1)(G:DH):
  Ha [.str (Aa (Ab [10] rs))] G=.err (JG n) G:=by
 cases rs with
 |nil=>simp at a
 | cons j q=>
  have r:∀x∈j::q,10∉x:=λx A z=>by have:=(hp x A).1 10 z;lia
  have s:∀i,1<=i->i<n->∃p,YH p/\(j::q)[i]?=uQ p.XA:=λi L H=>by
   rw[t i H];obtain⟨m,rfl⟩:∃m,i=m+1:=⟨i-1,by lia⟩;have u:m<lN h.ps:=by lia
   exact⟨h.ps[m],(o.po _ (qV u)).w,by simp[Ae,zX u]⟩
  rcases ki r (Xg (rs:=j::q) e (λl e=>(hp l e).2)).1 (by simp at e;lia) G with⟨y,ps,c,d,v,J,K⟩|⟨c,d⟩|⟨⟨y,c,d⟩,k,M,F,I,E⟩
  .exfalso
   cases n with
   |zero=>
    simp at a;subst a;exact b y c v
   |succ n=>
    have b:=b;simp[jT]at a;rw[J,zD]at a;obtain⟨p,C,B⟩:=zA.mp a;exact b p (d p (qO C)) B.symm
  .cases n with
   |zero=>exact d
   |succ n=>
    have:=t 0 (by lia);simp[Ae]at this;exact absurd this (c _ o.yr)
  cases n with
  |zero=>
   simp at a;subst a;exact absurd d (b y c)
  | succ n=>
   simp[jT]at a;have:k=n:=by
    rcases jj k n with z|z|z
    .obtain⟨p,g,f⟩:=s (k+1) (by lia) (by lia);exact absurd f (I p g)
    .exact z
    .obtain⟨p,g,f⟩:=F n z;rw[a]at f;exact absurd (xv f) (b p g)
   subst this;rw[E]
   congr 1
   rw[show(1:Int)+(k:Int)=((k+1:Nat):Int) by lia]
def Kq{tb:List (Str×Bool)}{c:Str}{fs:List (Str×D)}{b:Bool}(h:G[i]?=uQ (.exc c fs))(a:tb.lookup c=uQ b):ZG tb (.ref i) G=.ok (.bl b) G:=by unfold ZG;simp[h,a]
def lc{cs:List Str}{f:Str}{c:Str}{d:D}(h:G[i]?=uQ (.exc c [(f,d)]))(a:c∈cs):IQ cs f (.ref i) G=.ok d G:=by unfold IQ;simp only[h];rw[if_pos a];simp[jR]
def lg{i:Int}(G:DH):Sx [.int i] G=.ok (.bl uJ) G:=by unfold Sx iL;rw[Af];simp[NS,Ah]
noncomputable def cl7:Nat->Str
 |0=>"NoHouse"
 |1=>"NoName"
 |2=>"NoRiver"
 |3=>"NoText"
 |4=>"NoNumber"
 |5=>"NoPump"
 |_=>"NoRule"
def F0{L:DH}{c:Str}{fs:List (Str×D)}(h:MA (lN G) (fs.map (·.2))=uJ):tidy G (.ok (.ref (lN G+lN L)) (G++(L++[.exc c fs])))=.ok (.ref (lN G)) (G++[.exc c fs]):=by
 unfold tidy;have e:(G++(L++[DO.exc c fs]))[lN G+lN L]?=uQ (.exc c fs):=by rw[zL (by lia)];simp
 simp[e,M3,h]
def ci{L:DH}{c:Str}{fs:List (Str×D)}(a:Ha [.str t] G=.err ⟨c,fs⟩ (G++L))(b:c∈(["NoHouse","NoName","NoNumber","NoPump","NoRiver","NoRule","NoText"]:List Str))(h:MA (lN G) (fs.map (·.2))=uJ):Qp [.str t] G=.ok (.ref (lN G)) (G++[.exc c fs]):=by unfold Qp Zu bR;rw[Af];simp[Nk,UT,a,Te,b,XW,F0 (L:=L) (c:=c) h]
def F1{d:D}(a:Ha [.str t] G=.ok d G):Qp [.str t] G=.ok .UA G:=by unfold Qp Zu bR;rw[Af];simp[Nk,UT,a,Ah]
theorem lh{G:DH}:∀bs:List Bool,Bc (gV 0) Ay Ws [uZ] (bs.map D.bl) G=.ok ((bs.map λb=>if b=uJ then(1:Int)else 0).map D.int) G
 |[]=>rfl
 | b::bs=>by
  have a:Ws [zB b] G=.ok (.int (if b=uJ then 1 else 0)) G:=by
   unfold Ws
   cases b<;>simp[Hl]
  rw[zJ,zJ,zJ,Dg];simp[Cm,R.Es,q8,Hc,if_true,a,lh (G:=G) bs]
def cm{r:Nat}(v:r<=6){fs:List (Str×D)}(a:G[i]?=uQ (.exc (cl7 r) fs)):T7 [.ref i] G=.ok (.int r) G:=by
 have l:∀(d:List D),MA (lN G) d=uJ->freeze G (.ok (.ref (lN G)) (G++[.lst d]))=.ok (.fl d) G:=λd h=>Az h
 have g:=Kq (tb:=[("NoHouse",uJ),("NoName",uJ),("NoNumber",uJ),("NoPump",uJ),("NoRiver",uJ),("NoRule",uJ),("NoText",uJ)]) a (by rcases(by lia:r=0\/r=1\/r=2\/r=3\/r=4\/r=5\/r=6)with rfl|rfl|rfl|rfl|rfl|rfl|rfl<;>rfl)
 have t:=Kq (tb:=[("NoHouse",uX),("NoName",uX),("NoNumber",uX),("NoPump",uX),("NoRiver",uX),("NoRule",uX),("NoText",uX)]) a (by rcases(by lia:r=0\/r=1\/r=2\/r=3\/r=4\/r=5\/r=6)with rfl|rfl|rfl|rfl|rfl|rfl|rfl<;>rfl)
 have m:=Kq (tb:=[("NoHouse",uJ),("NoName",uX),("NoNumber",uX),("NoPump",uX),("NoRiver",uX),("NoRule",uX),("NoText",uX)]) (b:=decide (0=r)) a (by rcases(by lia:r=0\/r=1\/r=2\/r=3\/r=4\/r=5\/r=6)with rfl|rfl|rfl|rfl|rfl|rfl|rfl<;>rfl)
 have p:=Kq (tb:=[("NoHouse",uX),("NoName",uJ),("NoNumber",uX),("NoPump",uX),("NoRiver",uX),("NoRule",uX),("NoText",uX)]) (b:=decide (1=r)) a (by rcases(by lia:r=0\/r=1\/r=2\/r=3\/r=4\/r=5\/r=6)with rfl|rfl|rfl|rfl|rfl|rfl|rfl<;>rfl)
 have s:=Kq (tb:=[("NoHouse",uX),("NoName",uX),("NoNumber",uX),("NoPump",uX),("NoRiver",uJ),("NoRule",uX),("NoText",uX)]) (b:=decide (2=r)) a (by rcases(by lia:r=0\/r=1\/r=2\/r=3\/r=4\/r=5\/r=6)with rfl|rfl|rfl|rfl|rfl|rfl|rfl<;>rfl)
 have u:=Kq (tb:=[("NoHouse",uX),("NoName",uX),("NoNumber",uX),("NoPump",uX),("NoRiver",uX),("NoRule",uX),("NoText",uJ)]) (b:=decide (3=r)) a (by rcases(by lia:r=0\/r=1\/r=2\/r=3\/r=4\/r=5\/r=6)with rfl|rfl|rfl|rfl|rfl|rfl|rfl<;>rfl)
 have n:=Kq (tb:=[("NoHouse",uX),("NoName",uX),("NoNumber",uJ),("NoPump",uX),("NoRiver",uX),("NoRule",uX),("NoText",uX)]) (b:=decide (4=r)) a (by rcases(by lia:r=0\/r=1\/r=2\/r=3\/r=4\/r=5\/r=6)with rfl|rfl|rfl|rfl|rfl|rfl|rfl<;>rfl)
 have f:=Kq (tb:=[("NoHouse",uX),("NoName",uX),("NoNumber",uX),("NoPump",uJ),("NoRiver",uX),("NoRule",uX),("NoText",uX)]) (b:=decide (5=r)) a (by rcases(by lia:r=0\/r=1\/r=2\/r=3\/r=4\/r=5\/r=6)with rfl|rfl|rfl|rfl|rfl|rfl|rfl<;>rfl)
 have k:=Kq (tb:=[("NoHouse",uX),("NoName",uX),("NoNumber",uX),("NoPump",uX),("NoRiver",uX),("NoRule",uJ),("NoText",uX)]) (b:=decide (6=r)) a (by rcases(by lia:r=0\/r=1\/r=2\/r=3\/r=4\/r=5\/r=6)with rfl|rfl|rfl|rfl|rfl|rfl|rfl<;>rfl)
 have c:=lh (G:=G) [decide (0=r),decide (1=r),decide (2=r),decide (3=r),decide (4=r),decide (5=r),decide (6=r),uX,uX,uX,uX,uX,uX];have q:(([decide (0=r),decide (1=r),decide (2=r),decide (3=r),decide (4=r),decide (5=r),decide (6=r),uX,uX,uX,uX,uX,uX].map λb=>if b=uJ then(1:Int)else 0).sum)=1:=by rcases(by lia:r=0\/r=1\/r=2\/r=3\/r=4\/r=5\/r=6)with rfl|rfl|rfl|rfl|rfl|rfl|rfl<;>rfl
 have o:Js [.fl (([decide (0=r),decide (1=r),decide (2=r),decide (3=r),decide (4=r),decide (5=r),decide (6=r),uX,uX,uX,uX,uX,uX].map λb=>if b=uJ then(1:Int)else 0).map D.int)] G=.ok (.int 1) G:=by rw[fQ,q]
 have j:freeze G (.ok (.ref (lN G)) (G++[.lst (([decide (0=r),decide (1=r),decide (2=r),decide (3=r),decide (4=r),decide (5=r),decide (6=r),uX,uX,uX,uX,uX,uX].map λb=>if b=uJ then(1:Int)else 0).map D.int)]))=.ok (.fl (([decide (0=r),decide (1=r),decide (2=r),decide (3=r),decide (4=r),decide (5=r),decide (6=r),uX,uX,uX,uX,uX,uX].map λb=>if b=uJ then(1:Int)else 0).map D.int)) G:=Az Fw
 have lI:lN (([decide (0=r),decide (1=r),decide (2=r),decide (3=r),decide (4=r),decide (5=r),decide (6=r),uX,uX,uX,uX,uX,uX].map λb=>if b=uJ then(1:Int)else 0).map D.int)<=1000000:=by simp
 have e:Rt (.fl ([decide (0=r),decide (1=r),decide (2=r),decide (3=r),decide (4=r),decide (5=r),decide (6=r),uX,uX,uX,uX,uX,uX].map D.bl)) [.bl uJ] G=.ok (.int r) G:=by rcases(by lia:r=0\/r=1\/r=2\/r=3\/r=4\/r=5\/r=6)with rfl|rfl|rfl|rfl|rfl|rfl|rfl<;>rfl
 have NC:∀S:ZB,Ao 1 [] S=[uZ]:=λ_=>rfl
 generalize([decide (0=r),decide (1=r),decide (2=r),decide (3=r),decide (4=r),decide (5=r),decide (6=r),uX,uX,uX,uX,uX,uX].map λb=>if b=uJ then(1:Int)else 0).map D.int=I at*;simp[zJ,qZ]at c e;generalize decide (0=r)=x,decide (1=r)=C,decide (2=r)=z,decide (3=r)=B,decide (4=r)=y,decide (5=r)=A,decide (6=r)=w at*;unfold T7 hJ;rw[Af];simp[m,p,s,u,n,f,k,t,g,Ai,l,MA,NC,c,lI,j,o,e,Ah]
def Qn:DS:=(XB (NA K7 (NA Ax (dV 2) (NA By (dC (.int 5)) (NA Bp (dC (.int 3)) (dV 13)))) (NA By (JA Bv (An (dV 8) Bl)) (dC (.int 1)))) (gV 12))
def Qc:DS:=(XB (J6 (NA Fl (dV 13) (dC (.int 0))) (J6 (NA Fl (NA K7 (NA Ax (dV 2) (dC (.int 11))) (dC (.int 2))) (dC (.int 0))) (NA R9 (JA Bv (An (dV 11) Bl)) (dC (.int 0))))) (gV 14))
def Ox:DS:=(PC (Al (dV 14)) (XB (NA Ax (dV 11) (NA K7 (NA Ax (dV 2) (dC (.int 5))) (JA Bv (An (dV 11) Bl)))) (gV 12)) VC)
def V3:DS:=(PC (Al (NA Fl (dV 12) (JA Bv (An (dV 8) Bl)))) (XG (Ed El (dV 9) (An (dC (.str "")) Bl))) (Ad (XB (NA Ax (Ag (JA Ai (An (dC (.int 0)) (An (dC (.int 1)) (An (dC (.int 2)) (An (dC (.int 3)) (An (dC (.int 4)) (An (dC (.int 5)) (An (dC (.int 6)) (An (dC (.int 7)) (An (dC (.int 8)) (An (dC (.int 9)) (An (dC (.int 10)) (An (dC (.int 11)) (An (dC (.int 7)) (An (dC (.int 8)) (An (dC (.int 7)) Bl))))))))))))))))) (NA K7 (NA Ax (dV 2) (NA By (dC (.int 6)) (NA Bp (dC (.int 3)) (dV 13)))) (dC (.int 15)))) (gV 15)) (Ad (PC (Al (dV 14)) (XB (dC (.int 7)) (gV 15)) VC) (XB (Ag (JA Bj (An (NA Ax (dV 8) (dV 12)) (An (dV 15) (An (NA Ax (dV 2) (NA By (dC (.int 7)) (NA Bp (dC (.int 3)) (dV 13)))) Bl))))) (XM (dV 9) (dV 12))))))
def li:DS:=(PC (PH (Al (NA M6 (dV 10) (dC (.int 0)))) (Al (NA M6 (dV 12) (dV 10)))) (XB (dV 12) (gV 10)) VC)
theorem F2:Tt=Ad Qn (Ad Qc (Ad Ox (Ad V3 li))):=rfl
structure Inv (K rs:List (List Nat)) (f:Int):Prop where
 le:lN K<=lN rs
 pr:∀l∈rs,Pr l/\lN l<=30000
 di:(f= -1/\rs=K)\/∃n:Nat,f=n/\n<=lN K/\(∃l,rs[n]?=uQ l/\(if n=0 then YI l else OC l))/\∀i,i<n->rs[i]?=K[i]?
theorem nrK(o:YJ h)(hk:k<lN (Ae h))(hw:w<=11):∃l',(if k=0 then YI l' else OC l')/\Pr l'/\lN l'<=30000/\Bj [.str (Aa ((Ae h)[k])),.int w,.int x] G=.ok (.str (Aa l')) G:=by
 cases k with
 |zero=>
  obtain⟨l',c,a,d,f⟩:=FO o.yr hw;exact⟨l',c,a,d,f⟩
 |succ k=>
  have b:k<lN h.ps:=by rw[Oa]at hk;lia
  obtain⟨l',c,a,d,f⟩:=FP (o.po _ (qV b)) hw;refine⟨l',c,a,d,?_⟩;have e:(Ae h)[k+1]=(h.ps[k]).XA:=by simp[Ae]
  rw[e];exact f
def Inv.new{K:List (List Nat)}(v:Inv K rs f)(hk:k<=lN K){b:List (List Nat)}(j:if k=0 then YI l' else OC l')(hp:Pr l'/\lN l'<=30000)(a:(k=lN K/\b=rs++[l']/\k≠0)\/(k<lN K/\b=rs.set k l')):Inv K b (if f<0\/(k:Int)<f then(k:Int)else f):=by
 have le:=v.le;refine⟨?_,λl r=>?_,.inr ?_⟩
 .rcases a with⟨_,rfl,_⟩|⟨_,rfl⟩
  .simp;lia
  simpa using le
 .rcases a with⟨_,rfl,_⟩|⟨_,rfl⟩
  .rcases zG.mp r with z|z
   .exact v.pr l z
   rw[qJ]at z;rw[z];exact hp
  rcases jK r with z|z
  .exact v.pr l z
  rw[z];exact hp
 rcases v.di with⟨rfl,rfl⟩|⟨n,rfl,s,⟨q,c,d⟩,m⟩
 .refine⟨k,by rw[if_pos (by lia)],hk,⟨l',?_,j⟩,λi g=>?_⟩
  .rcases a with⟨e,rfl,_⟩|⟨e,rfl⟩
   .rw[e];simp
   exact qU e
  .rcases a with⟨e,rfl,_⟩|⟨e,rfl⟩
   .exact zN (by lia)
   exact qy (by lia)
 .have p:=(zv.mp c).1;by_cases z:k<n
  .refine⟨k,by rw[if_pos (by lia)],hk,⟨l',?_,j⟩,λi g=>?_⟩
   .rcases a with⟨e,rfl,_⟩|⟨e,rfl⟩
    .lia
    exact qU (by lia)
   .rcases a with⟨e,rfl,_⟩|⟨e,rfl⟩
    .lia
    .rw[qy (by lia)];exact m i (by lia)
  .refine⟨n,by rw[if_neg (by lia)],s,?_,λi g=>?_⟩
   .rcases a with⟨e,rfl,_⟩|⟨e,rfl⟩
    .exact⟨q,by rw[zN p];exact c,d⟩
    .by_cases y:k=n
     .subst y;exact⟨l',qU (by lia),j⟩
     exact⟨q,by rw[qy y];exact c,d⟩
   .rcases a with⟨e,rfl,_⟩|⟨e,rfl⟩
    .rw[zN (by lia)];exact m i g
    .rw[qy (by lia)];exact m i g
section
variable{h:RH}(o:YJ h){xs:List Int}(hx:xs.length=12){ts:List Nat}(ht:∀t∈ts,t<(Ae h).length)(PM:ts.length<=100){s0 s1 s3 s4 s5 s6 s7:Option D}
include o hx ht PM
theorem ZT(v:Inv (Ae h) rs f)(hj:j<2)(hl:lN rs<=lN (Ae h)+j)(LR K l:Option D):∃(d:List (List Nat))(f':Int)(y12 y14 y15:Option D),Inv (Ae h) d f'/\lN d<=lN (Ae h)+(j+1)/\
  Tt [s0,s1,zF (xs.map D.int),s3,s4,s5,s6,s7,zF (((Ae h).map Aa).map D.str),zR 0,zI f,zF (ts.map λ(t:Nat)=>D.int (t:Int)),LR,zI j,K,l,uZ] [.lst ((rs.map Aa).map D.str)]=
   .nx [s0,s1,zF (xs.map D.int),s3,s4,s5,s6,s7,zF (((Ae h).map Aa).map D.str),zR 0,zI f',zF (ts.map λ(t:Nat)=>D.int (t:Int)),y12,zI j,y14,y15,uZ] [.lst ((d.map Aa).map D.str)]:=by
 have lK:=Oa (h:=h);have l12:=o.len;have a5:LB (xs.map D.int) (5+3*(j:Int))=zI (gx xs (5+3*j)):=by have:=Ce (xs:=xs) (i:=5+3*j) (by lia);rwa[show((5+3*j:Nat):Int)=5+3*(j:Int) by lia]at this
 have a6:LB (xs.map D.int) (6+3*(j:Int))=zI (gx xs (6+3*j)):=by have:=Ce (xs:=xs) (i:=6+3*j) (by lia);rwa[show((6+3*j:Nat):Int)=6+3*(j:Int) by lia]at this
 have a7:LB (xs.map D.int) (7+3*(j:Int))=zI (gx xs (7+3*j)):=by have:=Ce (xs:=xs) (i:=7+3*j) (by lia);rwa[show((7+3*j:Nat):Int)=7+3*(j:Int) by lia]at this
 have A:LB (xs.map D.int) 11=zI (gx xs 11):=Ce (i:=11) (by lia);have F:∀G,Bp (.int 3) (.int j) G=.ok (.int (3*(j:Int))) G:=λG=>Nz (by lia) (by lia)
 have y:(lN (((Ae h).map Aa).map D.str):Int)=(lN (Ae h):Int):=by simp
 have e:lN (((Ae h).map Aa).map D.str)=lN (Ae h):=by simp
 have eT:(lN (ts.map λ(t:Nat)=>D.int (t:Int)):Int)=(lN ts:Int):=by simp
 obtain⟨Y,u,q⟩:∃k:Nat,k<=lN (Ae h)/\(k:Int)=gx xs (5+3*j)%((lN (Ae h):Int)+1):=by have a:=q7 (gx xs (5+3*j)) (show(lN (Ae h):Int)+1≠0 by lia);have b:=q0 (gx xs (5+3*j)) (show(0:Int)<(lN (Ae h):Int)+1 by lia);exact⟨(gx xs (5+3*j)%((lN (Ae h):Int)+1)).toNat,by lia,by lia⟩
 have aK:∀k(hk:k<lN (Ae h)),LB (((Ae h).map Aa).map D.str) (k:Int)=zS (Aa (Ae h)[k]):=λk hk=>Df rfl (by simp[zX hk])
 have P:(0:Int)<(lN (Ae h):Int)+1:=by lia
 have O:¬(lN (Ae h):Int)+1=0:=by lia
 rw [F2];obtain⟨k,p,hk,pre⟩:∃(k:Nat)(p:Bool),k<=lN (Ae h)/\∀U:DS,Ad Qn (Ad Qc (Ad Ox U)) [s0,s1,zF (xs.map D.int),s3,s4,s5,s6,s7,zF (((Ae h).map Aa).map D.str),zR 0,zI f,zF (ts.map λ(t:Nat)=>D.int (t:Int)),LR,zI j,K,l,uZ] [.lst ((rs.map Aa).map D.str)]=U [s0,s1,zF (xs.map D.int),s3,s4,s5,s6,s7,zF (((Ae h).map Aa).map D.str),zR 0,zI f,zF (ts.map λ(t:Nat)=>D.int (t:Int)),zI k,zI j,zB p,l,uZ] [.lst ((rs.map Aa).map D.str)]:=by
  by_cases c1:j=0
  .subst c1;have C:LB (xs.map D.int) 5=zI (gx xs 5):=Ce (i:=5) (by lia);by_cases Z:gx xs 11%2=0
   .by_cases c3:0<lN ts
    .obtain⟨i,hi,ei⟩:∃i:Nat,i<lN ts/\(i:Int)=gx xs 5%(lN ts:Int):=by have a:=q7 (gx xs 5) (show(lN ts:Int)≠0 by lia);have b:=q0 (gx xs 5) (show(0:Int)<lN ts by lia);exact⟨(gx xs 5%(lN ts:Int)).toNat,by lia,by lia⟩
     have at_:LB (ts.map λ(t:Nat)=>D.int (t:Int)) (i:Int)=zI (ts[i]:Int):=Df rfl (by rw[zD,zX hi];rfl);have c3':(0:Int)<(lN ts:Int):=by lia
     have M:¬ts=[]:=λz=>by rw[z]at c3;simp at c3
     refine⟨ts[i],uJ,qE (ht _ (qV hi)),λU=>?_⟩;generalize(ts.map λ(t:Nat)=>D.int (t:Int))=T,((Ae h).map Aa).map D.str=KS,(rs.map Aa).map D.str=n,xs.map D.int=E at*;have r:∀G,Bp (.int 3) (.int 0) G=.ok (.int 0) G:=λG=>F G
     unfold Qn Qc Ox;simp[r,C,A,y,e,eT,P,O,Z,c3,c3',by omega,M,λz=>M (jL.mp z),by omega,<-ei,at_]
    refine⟨Y,uX,u,λU=>?_⟩;have M:ts=[]:=jz (by lia);have H:=q.symm;subst M;generalize((Ae h).map Aa).map D.str=KS,(rs.map Aa).map D.str=n,xs.map D.int=E at*;have r:∀G,Bp (.int 3) (.int 0) G=.ok (.int 0) G:=λG=>F G
    unfold Qn Qc Ox;simp[r,C,A,y,e,eT,P,O,Z,H]
   refine⟨Y,uX,u,λU=>?_⟩;generalize(ts.map λ(t:Nat)=>D.int (t:Int))=T,((Ae h).map Aa).map D.str=KS,(rs.map Aa).map D.str=n,xs.map D.int=E at*;unfold Qn Qc Ox;simp[λG=>F G,C,A,y,e,eT,P,O,Z,q.symm]
  refine⟨Y,uX,u,λU=>?_⟩;generalize(ts.map λ(t:Nat)=>D.int (t:Int))=T,((Ae h).map Aa).map D.str=KS,(rs.map Aa).map D.str=n,xs.map D.int=E at*;unfold Qn Qc Ox;simp[F,a5,y,e,P,O,<-q,c1,by omega]
 rw[pre];obtain⟨d,y15,g,hl',hp',hr,S⟩:∃(d:List (List Nat))(y15:Option D)(g:List Nat),(if k=0 then YI g else OC g)/\(Pr g/\lN g<=30000)/\((k=lN (Ae h)/\d=rs++[g]/\k≠0)\/(k<lN (Ae h)/\d=rs.set k g))/\V3 [s0,s1,zF (xs.map D.int),s3,s4,s5,s6,s7,zF (((Ae h).map Aa).map D.str),zR 0,zI f,zF (ts.map λ(t:Nat)=>D.int (t:Int)),zI k,zI j,zB p,l,uZ] [.lst ((rs.map Aa).map D.str)]=.nx [s0,s1,zF (xs.map D.int),s3,s4,s5,s6,s7,zF (((Ae h).map Aa).map D.str),zR 0,zI f,zF (ts.map λ(t:Nat)=>D.int (t:Int)),zI k,zI j,zB p,y15,uZ] [.lst ((d.map Aa).map D.str)]:=by
  by_cases c:k=lN (Ae h)
  .refine⟨rs++[[]],l,[],by rw[if_neg (by lia)];exact KR,⟨.nil,by simp⟩,.inl ⟨c,rfl,by lia⟩,?_⟩;have e0:Aa []=("":Str):=by decide +kernel
   have L:((rs++[[]]).map Aa).map D.str=(rs.map Aa).map D.str++[.str ""]:=by simp[e0]
   have lr:lN ((rs.map Aa).map D.str)<1000000:=by simp;lia
   have N:(k:Int)=(lN (Ae h):Int):=by lia
   rw[L];generalize(ts.map λ(t:Nat)=>D.int (t:Int))=T,((Ae h).map Aa).map D.str=KS,(rs.map Aa).map D.str=n,xs.map D.int=E at*;unfold V3;simp[y,e,c,N,lr]
  have B:k<lN (Ae h):=by lia
  obtain⟨W,hw0,J⟩:∃w:Nat,w<=11/\LB ([.int 0,.int 1,.int 2,.int 3,.int 4,.int 5,.int 6,.int 7,.int 8,.int 9,.int 10,.int 11,.int 7,.int 8,.int 7]:List D) (gx xs (6+3*j)%15)=zI w:=by
   obtain⟨m,hm,L⟩:∃m:Nat,m<15/\gx xs (6+3*j)%15=(m:Int):=⟨(gx xs (6+3*j)%15).toNat,by lia,by lia⟩;rw[L];rcases(by lia:m=0\/m=1\/m=2\/m=3\/m=4\/m=5\/m=6\/m=7\/m=8\/m=9\/m=10\/m=11\/m=12\/m=13\/m=14)with rfl|rfl|rfl|rfl|rfl|rfl|rfl|rfl|rfl|rfl|rfl|rfl|rfl|rfl|rfl
   .exact⟨0,by lia,rfl⟩
   .exact⟨1,by lia,rfl⟩
   .exact⟨2,by lia,rfl⟩
   .exact⟨3,by lia,rfl⟩
   .exact⟨4,by lia,rfl⟩
   .exact⟨5,by lia,rfl⟩
   .exact⟨6,by lia,rfl⟩
   .exact⟨7,by lia,rfl⟩
   .exact⟨8,by lia,rfl⟩
   .exact⟨9,by lia,rfl⟩
   .exact⟨10,by lia,rfl⟩
   .exact⟨11,by lia,rfl⟩
   .exact⟨7,by lia,rfl⟩
   .exact⟨8,by lia,rfl⟩
   exact⟨7,by lia,rfl⟩
  obtain⟨g,n1,n2,n3,X⟩:=nrK o B (w:=if p=uJ then 7 else W) (by split <;> lia) (x:=gx xs (7+3*j)) (G:=[.lst ((rs.map Aa).map D.str)])
  refine⟨rs.set k g,zI ((if p=uJ then 7 else W:Nat):Int),g,n1,⟨n2,n3⟩,.inr ⟨B,rfl⟩,?_⟩;have L:((rs.set k g).map Aa).map D.str=((rs.map Aa).map D.str).set k (.str (Aa g)):=by rw[qS,qS]
  have ak:=aK k B;have fl:freeze [.lst ((rs.map Aa).map D.str)] (.ok (.ref 1) ([.lst ((rs.map Aa).map D.str),.lst [.int 0,.int 1,.int 2,.int 3,.int 4,.int 5,.int 6,.int 7,.int 8,.int 9,.int 10,.int 11,.int 7,.int 8,.int 7]]))=.ok (.fl [.int 0,.int 1,.int 2,.int 3,.int 4,.int 5,.int 6,.int 7,.int 8,.int 9,.int 10,.int 11,.int 7,.int 8,.int 7]) [.lst ((rs.map Aa).map D.str)]:=Az rfl;have ix:QJ (lN ((rs.map Aa).map D.str)) (k:Int)=uQ k:=Od (by have:=v.le;simp;lia)
  have N:¬(k:Int)=(lN (Ae h):Int):=by lia
  rw[L];generalize Aa ((Ae h)[k])=RK,Aa g=L',(ts.map λ(t:Nat)=>D.int (t:Int))=T,((Ae h).map Aa).map D.str=KS,(rs.map Aa).map D.str=n,xs.map D.int=E at*;unfold V3;cases p with
  |true=>
   simp[if_true]at X;have s:Bj [.str RK,.int 7,.int (gx xs (7+3*j))] [.lst n]=.ok (.str L') [.lst n]:=X;simp[y,e,c,N,Ai,fl,F,a6,J,ak,a7,s,Ds,ix]
  |false=>
   have s:Bj [.str RK,.int W,.int (gx xs (7+3*j))] [.lst n]=.ok (.str L') [.lst n]:=X;simp[y,e,c,N,Ai,fl,F,a6,J,ak,a7,s,Ds,ix]
 refine⟨d,_,zI k,zB p,y15,v.new hk hl' hp' hr,?_,?_⟩
 .rcases hr with⟨_,rfl,_⟩|⟨_,rfl⟩
  .simp;lia
  simp;lia
 generalize(ts.map λ(t:Nat)=>D.int (t:Int))=T,((Ae h).map Aa).map D.str=KS,(rs.map Aa).map D.str=n,(d.map Aa).map D.str=RS',xs.map D.int=E at*;unfold li;by_cases I:f<0
 .rw[if_pos (.inl I)];simp[S,I]
 by_cases Q:(k:Int)<f
 .rw[if_pos (.inr Q)];simp[S,I,Q]
 .rw[if_neg (λz=>z.elim I Q)];simp[S,I,Q]
theorem MO:∀(m j:Nat){rs:List (List Nat)}{f:Int}(LR c b a:Option D),j+m<=2->Inv (Ae h) rs f->lN rs<=lN (Ae h)+j->∃(d:List (List Nat))(n:Int)(y12 y13 y14 y15:Option D),Inv (Ae h) d n/\lN d<=lN (Ae h)+2/\
  Bt (gV 13) Tt (Bu j m) [s0,s1,zF (xs.map D.int),s3,s4,s5,s6,s7,zF (((Ae h).map Aa).map D.str),zR 0,zI f,zF (ts.map λ(t:Nat)=>D.int (t:Int)),LR,c,b,a,uZ] [.lst ((rs.map Aa).map D.str)]=
   .nx [s0,s1,zF (xs.map D.int),s3,s4,s5,s6,s7,zF (((Ae h).map Aa).map D.str),zR 0,zI n,zF (ts.map λ(t:Nat)=>D.int (t:Int)),y12,y13,y14,y15,uZ] [.lst ((d.map Aa).map D.str)]
 |0,j,rs,f,LR,c,b,a,r,v,p=>⟨rs,f,LR,c,b,a,v,by lia,by rw[K1,Gb]⟩
 |m+1,j,rs,f,LR,c,b,a,r,v,p=>by
  obtain⟨y,C,y12,y14,y15,B,z,s⟩:=ZT o hx ht PM (s0:=s0) (s1:=s1) (s3:=s3) (s4:=s4) (s5:=s5) (s6:=s6) (s7:=s7) v (by lia) p LR b a;obtain⟨i,w,e,g,l,k,A,u,x⟩:=MO m (j+1) y12 (zI j) y14 y15 (by lia) B z;refine⟨i,w,e,g,l,k,A,u,?_⟩;have q:((j:Int)+1)=((j+1:Nat):Int):=by lia
  rw[Ig,Ey];simp only[Cm,R.Gh,q8,s,Gs];rw[q,x]
end
theorem lj(o:YJ h){G:DH}:∀(m i:Nat),i+m=lN (Ae h)->∃ts:List Nat,lN ts<=m/\(∀t∈ts,t<lN (Ae h))/\Bc (gV 0) Nm Ur [uZ,zF (((Ae h).map Aa).map D.str)] (Bu i m) G=.ok (ts.map λ(t:Nat)=>D.int (t:Int)) G
 |0,i,_=>⟨[],by simp,by simp,by rw[K1,bB];rfl⟩
 | m+1,i,n=>by
  obtain⟨ts,q,d,b⟩:=lj o (G:=G) m (i+1) (by lia);have hk:i<lN (Ae h):=by lia
  have e:LB (((Ae h).map Aa).map D.str) (i:Int)=zS (Aa (Ae h)[i]):=Df rfl (by simp[zX hk]);have f:=Hd (l:=(Ae h)[i]) (lo:=uZ) (hi:=uQ 5) (by have:=(Xb o _ (qV hk)).2;lia) G;have g:((i:Int)+1)=((i+1:Nat):Int):=by lia
  have k:Ur [zI i,zF (((Ae h).map Aa).map D.str)] G=.ok (.int i) G:=by unfold Ur;simp
  rw[g.symm]at b;generalize((Ae h).map Aa).map D.str=KS,Aa (Ae h)[i]=p,Aa (cutD (Ae h)[i] uZ (uQ 5))=F at*;by_cases c:F="town "
  .refine⟨i::ts,by simp;lia,λt j=>?_,?_⟩
   .rcases zZ.mp j with rfl|z
    .exact hk
    exact d t z
   have a:Nm [zI i,zF KS] G=.ok uJ G:=by unfold Nm;simp[-Du,e,Br,f,Ds,c]
   rw[Ig,Dg];simp[a,k,b]
  refine⟨ts,by lia,d,?_⟩;have a:Nm [zI i,zF KS] G=.ok uX G:=by unfold Nm;simp[-Du,e,Br,f,Ds,c]
  rw[Ig,Dg];simp[a,b]
section
variable{h0:Hs}(g0:GR h0.raw)(o0:YJ h0.raw){h:RH}(o:YJ h){rank at_:Int}{s0 s2 s3 s4 s8 s11 y12 y13 y14 y15:Option D}
include g0 o0 o
theorem F3(G:DH){s5 s6 s9 s16:Option D}:Z5 [s0,uQ h0.enc,s2,s3,s4,s5,s6,zS (Aa (Ab [10] (Ae h0.raw))),s8,s9,zI f,s11,y12,y13,y14,y15,s16] G=.rt (.bl uJ) G:=by have a:=Vy o0 G (lT g0 G) (by simp) (Ah cL);rw[lW]at a;generalize Aa (Ab [10] (Ae h0.raw))=X at*;unfold Z5;simp[a,sG (G:=G) (E4 (h:=h0))]
theorem ZX(v:Inv (Ae h) rs f)(H:lN rs<=lN (Ae h)+2)(S:(rank= -1/\Gg [h.enc] [.lst ((rs.map Aa).map D.str)]=.ok h.enc [.lst ((rs.map Aa).map D.str)])\/(0<=rank/\XT h rank at_)):
  ∃T,Q5 [s0,uQ h0.enc,s2,s3,s4,zI rank,zI at_,zS (Aa (Ab [10] (Ae h0.raw))),s8,zR 0,zI f,s11,y12,y13,y14,y15,uZ] [.lst ((rs.map Aa).map D.str)]=.rt (.bl uJ) T:=by
 have lK:=Oa (h:=h);have W:=o.len;have J:=Qs (Xg (rs:=rs) (by lia) (λl H=>(v.pr l H).2)).2 [.lst ((rs.map Aa).map D.str)];have b:Cu (.str "\n") [.ref 0] [.lst ((rs.map Aa).map D.str)]=.ok (.str (Aa (Ab [10] rs))) [.lst ((rs.map Aa).map D.str)]:=by
  rw[<-J,<-cP]
  rfl
 have p:=λ(G:DH)(F E I j:Option D)=>F3 g0 o0 o (s0:=s0) (s2:=s2) (s3:=s3) (s4:=s4) (s8:=s8) (s11:=s11) (y12:=y12) (y13:=y13) (y14:=y14) (y15:=y15) G (f:=f) (s5:=F) (s6:=E) (s9:=I) (s16:=j)
 rcases v.di with⟨rfl,rfl⟩|⟨n,rfl,hn,⟨l,B,s⟩,N⟩
 .rcases S with⟨rfl,g⟩|⟨Z,O⟩
  .
   have e:=Vy o _ g (by simp) (Ah cL);have a:=F1 e;refine⟨[.lst (((Ae h).map Aa).map D.str)],?_⟩;generalize Aa (Ab [10] (Ae h0.raw))=t,Aa (Ab [10] (Ae h))=X,((Ae h).map Aa).map D.str=u,h0.enc=y at*;unfold Q5 Ub Su Uo Sv Uq;simp[b,a,Jr,p]
  rcases O with⟨rfl,g⟩|⟨k,r,rfl,q,rfl,hk,g⟩
  .
   have e:=Vy o [.lst (((Ae h).map Aa).map D.str)] (g _) (by simp) (by simp);have x:=e;have a:=ci x (by simp) rfl;have c:=cm (r:=0) (by lia) (i:=1) (G:=[.lst (((Ae h).map Aa).map D.str),.exc "NoHouse" []]) rfl;refine⟨[.lst (((Ae h).map Aa).map D.str),.exc "NoHouse" []],?_⟩;generalize Aa (Ab [10] (Ae h0.raw))=t,Aa (Ab [10] (Ae h))=X,((Ae h).map Aa).map D.str=u,h0.enc=y at*;unfold Q5 Ub Su Uo Sv Uq
   simp at a c;simp[b,a,c,Jr,p]
  .obtain⟨L,z⟩:=g [.lst (((Ae h).map Aa).map D.str)];have e:=Vy o [.lst (((Ae h).map Aa).map D.str)] z (by simp) (by simp);have P:JD r∈(["NoHouse","NoName","NoNumber","NoPump","NoRiver","NoRule","NoText"]:List Str):=by rcases q with rfl|rfl|rfl|rfl<;>simp[JD]
   have w:JD r∈(["NoName","NoNumber","NoPump","NoRiver","NoRule"]:List Str):=by rcases q with rfl|rfl|rfl|rfl<;>simp[JD]
   have a:=ci e P rfl;obtain⟨m,U,Y,A⟩:∃m:Nat,(1<=m/\m<=6)/\JR r=(m:Int)/\JD r=cl7 m:=by
    rcases q with rfl|rfl|rfl|rfl
    .exact⟨1,by lia,rfl,rfl⟩
    .exact⟨2,by lia,rfl,rfl⟩
    .exact⟨5,by lia,rfl,rfl⟩
    exact⟨6,by lia,rfl,rfl⟩
   have d:=lc (i:=1) (G:=[.lst (((Ae h).map Aa).map D.str),.exc (JD r) [("place",.int k)]]) rfl w;have c:=cm U.2 (i:=1) (G:=[.lst (((Ae h).map Aa).map D.str),.exc (JD r) [("place",.int k)]]) (by rw[A];rfl);have M:=λG=>lg (i:=(k:Int)) G
   rw[Y];have Q:¬(m:Int)<0:=by lia
   refine⟨[.lst (((Ae h).map Aa).map D.str),.exc (JD r) [("place",.int k)]],?_⟩;generalize JD r=C,Aa (Ab [10] (Ae h0.raw))=t,Aa (Ab [10] (Ae h))=X,((Ae h).map Aa).map D.str=u,h0.enc=y at*;unfold Q5 Ub Su Uo Sv Uq;simp at a;simp[b,a,c,d,M,by omega,Q,by omega,Jr,p]
 have e:=FZ o v.pr (by lia) B s N (by lia) [.lst ((rs.map Aa).map D.str)];have a:=ci e (by simp) rfl;have d:=lc (cs:=["NoText"]) (i:=1) (G:=[.lst ((rs.map Aa).map D.str),.exc "NoText" [("row",.int n)]]) rfl (by simp);have c:=cm (r:=3) (by lia) (i:=1) (G:=[.lst ((rs.map Aa).map D.str),.exc "NoText" [("row",.int n)]]) rfl;refine⟨[.lst ((rs.map Aa).map D.str),.exc "NoText" [("row",.int n)]],?_⟩
 generalize Aa (Ab [10] (Ae h0.raw))=t,Aa (Ab [10] rs)=X,(rs.map Aa).map D.str=u,h0.enc=y at*;unfold Q5 Ub Su Uo Sv Uq;simp at a c;have K:¬(n:Int)<0:=by lia
 simp[b,a,c,d,λG=>lg (i:=(n:Int)) G,K,p]
end
def holds:Holds:=by
 intro j J hm;obtain⟨h,g,h1,pw,hy,⟨nm,nl,no,nk,_⟩,hh⟩:=CN (at_:=0) (by lia) [];have hn:=g.len;have X:∀k,k<h.n->Wd (h.pl k).nm:=λk hk=>by rw[nk k hk,<-U5 (by lia)];exact no.wd _ (qV _)
 have E:=EY g h1 hy pw X;have r3:∀(k:Nat)(p:RP),h.raw.ps[k]?=uQ p->R3 p:=λk p hp=>E6 g hy pw X hp
 have yk:=E.yr;have C:YJ h.raw:=⟨⟨by lia,by lia⟩,E.n.2,λp hm=>by obtain⟨i,hi,rfl⟩:=qw hm;exact(r3 i _ (zX hi)).b⟩
 have y:=lW (h:=h);have U:Oj [.fl (j.map D.int),.int 0] []=.ok h.enc []:=hh;have c15:∀G,Ie [.fl (j.map D.int),.int 15] G=.ok (.int (cellAt j 15)) G:=λG=>Up (by lia)
 have F:freeze [] (Jc [.int (cellAt j 15),.int 1,.int 12] [])=.ok (.fl ((Ew (cellAt j 15) 1 12).map D.int)) []:=cE (cell:=cellAt j 15) (k:=1) (n:=12) (by lia) (by lia) [];have xl:lN (Ew (cellAt j 15) 1 12)=12:=cD;generalize Ew (cellAt j 15) 1 12=d at*;generalize cellAt j 15=cc,j.map D.int=N at*;have b0:LB (d.map D.int) 0=zI (gx d 0):=Ce (i:=0) (by lia);have b4:LB (d.map D.int) 4=zI (gx d 4):=Ce (i:=4) (by lia)
 have eraw:h.enc=.tup [.int h.raw.yr,.tup (h.raw.ps.map RP.enc)]:=by rw[<-y];rfl
 have e0:∀G,Ax h.enc (.int 0) G=.ok (.int h.raw.yr) G:=λG=>by rw[<-y];exact O9
 have e1:∀G,Ax h.enc (.int 1) G=.ok (.tup (h.raw.ps.map RP.enc)) G:=λG=>by rw[<-y];exact Q9
 have s2:bj [zF N,uZ,uZ,uZ,uZ,uZ,uZ,uZ,uZ,uZ,uZ,uZ,uZ,uZ,uZ,uZ,uZ] []=Sg [zF N,uQ h.enc,zF (d.map D.int),zI h.raw.yr,zT (h.raw.ps.map RP.enc),zI (-1),zI 0,uZ,uZ,uZ,uZ,uZ,uZ,uZ,uZ,uZ,uZ] []:=by generalize h.raw.ps.map RP.enc=PS,h.enc=H at*;unfold bj iR iQ;simp[U,c15,F,e0,e1,Aq,K5]
 obtain⟨c,rank,e,u,hR,s4⟩:∃(c:RH)(rank e:Int),YJ c/\((rank= -1/\∀G,Gg [c.enc] G=.ok c.enc G)\/(0<=rank/\XT c rank e))/\Sg [zF N,uQ h.enc,zF (d.map D.int),zI h.raw.yr,zT (h.raw.ps.map RP.enc),zI (-1),zI 0,uZ,uZ,uZ,uZ,uZ,uZ,uZ,uZ,uZ,uZ] []=Yc [zF N,uQ h.enc,zF (d.map D.int),zI c.yr,zT (c.ps.map RP.enc),zI rank,zI e,uZ,uZ,uZ,uZ,uZ,uZ,uZ,uZ,uZ,uZ] []:=by
  by_cases z:gx d 0%2=1
  .obtain⟨c,rank,e,q1,q2,q3,q4⟩:=E8 E r3 (xs:=(d.drop 1).take 3) (by simp;lia) [];refine⟨c,rank,e,q1,.inr ⟨q2,q3⟩,?_⟩;have cu:cutD (d.map D.int) (uQ 1) (uQ 4)=((d.drop 1).take 3).map D.int:=Yr (a:=1) (b:=4) (by lia) (by lia);have fz:freeze [] (.ok (.ref 0) [.lst (((d.drop 1).take 3).map D.int)])=.ok (.fl (((d.drop 1).take 3).map D.int)) []:=Az Fw;rw[y]at q4;generalize c.ps.map RP.enc=w,h.raw.ps.map RP.enc=PS,h.enc=H,((d.drop 1).take 3).map D.int=YS,d.map D.int=Y at*
   unfold Sg;simp[b0,z,Br,cu,fz,q4]
  refine⟨h.raw,-1,0,C,.inl ⟨rfl,λG=>lT E G⟩,?_⟩;generalize h.raw.ps.map RP.enc=PS,h.enc=H,d.map D.int=Y at*;unfold Sg;simp[b0,z]
 have r:=kq C [];have s:=kq u [];rw[y]at r;have f0:freeze [] (.ok (.ref 0) [.lst (((Ae h.raw).map Aa).map D.str)])=.ok (.fl (((Ae h.raw).map Aa).map D.str)) []:=Az Ci;have f1:freeze [] (.ok (.ref 0) [.lst (((Ae c).map Aa).map D.str)])=.ok (.fl (((Ae c).map Aa).map D.str)) []:=Az Ci;have hj:=Qs (Xg (rs:=Ae h.raw) (by have:=C.len;rw[Oa];lia) (λl J=>by have:=(Xb C l J).2;lia)).2 [];rw[<-cP]at hj
 obtain⟨q,t1,t2,tc⟩:=lj u (lN (Ae c)) 0 (by lia);have K:Bc (gV 0) Nm Ur [uZ,zF (((Ae c).map Aa).map D.str)] (Bu 0 (lN (Ae c))) [.lst (((Ae c).map Aa).map D.str)]=.ok (q.map λ(t:Nat)=>D.int (t:Int)) [.lst (((Ae c).map Aa).map D.str)]:=tc;have lK:=Oa (h:=c);have l12:=u.len;have tl:lN (q.map λ(t:Nat)=>D.int (t:Int))<=1000000:=by simp;lia
 have ft:freeze [.lst (((Ae c).map Aa).map D.str)] (.ok (.ref 1) [.lst (((Ae c).map Aa).map D.str),.lst (q.map λ(t:Nat)=>D.int (t:Int))])=.ok (.fl (q.map λ(t:Nat)=>D.int (t:Int))) [.lst (((Ae c).map Aa).map D.str)]:=Az (Hv λ_ _=>rfl);have NC:∀a0 a1 a2 a3 a4 a5 a6 a7 a8 a9 P a11 Q O a14 a15 Z:Option D,Ao 1 [8] [a0,a1,a2,a3,a4,a5,a6,a7,a8,a9,P,a11,Q,O,a14,a15,Z]=[uZ,a8]:=λ_ _ _ _ _ _ _ _ _ _ _ _ _ _ _ _ _=>rfl
 have eK:(lN (((Ae c).map Aa).map D.str):Int)=(lN (Ae c):Int):=by simp
 have W:lN (((Ae c).map Aa).map D.str)=lN (Ae c):=by simp
 have hr:inR (lN (Ae c):Int):=H9 (by lia) (by lia);have tn:tidy [] (.ok (.ref 0) [.lst (((Ae c).map Aa).map D.str)])=.ok (.ref 0) [.lst (((Ae c).map Aa).map D.str)]:=Dk Ci;have s9:Yc [zF N,uQ h.enc,zF (d.map D.int),zI c.yr,zT (c.ps.map RP.enc),zI rank,zI e,uZ,uZ,uZ,uZ,uZ,uZ,uZ,uZ,uZ,uZ] []=Xp [zF N,uQ h.enc,zF (d.map D.int),zI c.yr,zT (c.ps.map RP.enc),zI rank,zI e,zS (Aa (Ab [10] (Ae h.raw))),zF (((Ae c).map Aa).map D.str),zR 0,zI (-1),zF (q.map λ(t:Nat)=>D.int (t:Int)),uZ,uZ,uZ,uZ,uZ] [.lst (((Ae c).map Aa).map D.str)]:=by
  have M:c.enc=.tup [.int c.yr,.tup (c.ps.map RP.enc)]:=rfl;rw[M]at s;simp only[jZ,j9]at r s;generalize(q.map λ(t:Nat)=>D.int (t:Int))=TS,Aa (Ab [10] (Ae h.raw))=X0,((Ae h.raw).map Aa).map D.str=R0,((Ae c).map Aa).map D.str=KS,c.ps.map RP.enc=w,h.enc=H,d.map D.int=Y at*;unfold Yc iP iO iN iM;simp[r,f0,hj,Aq,s,f1,Uc,Be,W,by omega,tn,K5,eK,hr,NC,K,tl,ft]
 obtain⟨m,hm2,em⟩:∃m:Nat,m<=2/\LB ([.int 0,.int 1,.int 2,.int 1]:List D) (gx d 4%4)=zI m:=by
  rcases(by lia:gx d 4%4=0\/gx d 4%4=1\/gx d 4%4=2\/gx d 4%4=3)with z|z|z|z
  .exact⟨0,by lia,by rw[z];rfl⟩
  .exact⟨1,by lia,by rw[z];rfl⟩
  .exact⟨2,by lia,by rw[z];rfl⟩
  exact⟨1,by lia,by rw[z];rfl⟩
 have v0:Inv (Ae c) (Ae c) (-1):=⟨zY _,λl J=>by have:=Xb u l J;exact⟨this.1,by lia⟩,.inl ⟨rfl,rfl⟩⟩;obtain⟨rs,f,B,A,I,x,v,lv,lp⟩:=MO u xl t2 (by lia) (s0:=zF N) (s1:=uQ h.enc) (s3:=zI c.yr) (s4:=zT (c.ps.map RP.enc)) (s5:=zI rank) (s6:=zI e) (s7:=zS (Aa (Ab [10] (Ae h.raw)))) m 0 uZ uZ uZ uZ (by lia) v0 (by lia);obtain⟨G',fe⟩:=ZX E C u (s0:=zF N) (s2:=zF (d.map D.int)) (s3:=zI c.yr) (s4:=zT (c.ps.map RP.enc)) (s8:=zF (((Ae c).map Aa).map D.str)) (s11:=zF (q.map λ(t:Nat)=>D.int (t:Int))) (y12:=B) (y13:=A) (y14:=I) (y15:=x) v lv (hR.imp (λz=>⟨z.1,z.2 _⟩) id)
 have T:Xp [zF N,uQ h.enc,zF (d.map D.int),zI c.yr,zT (c.ps.map RP.enc),zI rank,zI e,zS (Aa (Ab [10] (Ae h.raw))),zF (((Ae c).map Aa).map D.str),zR 0,zI (-1),zF (q.map λ(t:Nat)=>D.int (t:Int)),uZ,uZ,uZ,uZ,uZ] [.lst (((Ae c).map Aa).map D.str)]=.rt (.bl uJ) G':=by
  rw[<-fe];have fl:freeze [.lst (((Ae c).map Aa).map D.str)] (.ok (.ref 1) [.lst (((Ae c).map Aa).map D.str),.lst [.int 0,.int 1,.int 2,.int 1]])=.ok (.fl [.int 0,.int 1,.int 2,.int 1]) [.lst (((Ae c).map Aa).map D.str)]:=Az rfl;have S:inR (m:Int):=H9 (by lia) (by lia);have L:Bt (gV 13) Tt (Bu 0 m) _ _=_:=lp;generalize(rs.map Aa).map D.str=RS,(q.map λ(t:Nat)=>D.int (t:Int))=TS,Aa (Ab [10] (Ae h.raw))=X0,((Ae c).map Aa).map D.str=KS,c.ps.map RP.enc=w,h.enc=H,d.map D.int=Y at*
  unfold Xp;simp[Ai,fl,b4,em,S,L]
 have td:tidy [] (.ok (.bl uJ) G')=.ok (.bl uJ) []:=Ik rfl;refine⟨[],?_⟩;unfold Qo;rw[Af]
 rw[show([D.fl N].map uQ++qQ 16 uZ)=[zF N,uZ,uZ,uZ,uZ,uZ,uZ,uZ,uZ,uZ,uZ,uZ,uZ,uZ,uZ,uZ,uZ]from rfl,s2,s4,s9,T]
 simp[td]
end
end _W
namespace _W
open PySem PySem.W _L _D
def ll:∀w,(openEnds vV pw w 100000).map (λs=>(openSeen vw [] (xP pw.main.body) (XO IJ vw) uJ s,aB asks s.heap))=uQ (openGood vw [],aC asks):=tm (by kernel_rfl) (λs=>rfl) lw
def walked:WalkO vw [] (XL vw []) (OI IJ.prog 100000) IJ.row.toRowW (WO Kc) [] λf vs=>jh f vs:=
 walk (l:=IJ) (K:=λw=>Uk (Ks pw 100000 w)) rfl TU holds (λw h Y=>Y.in) λw mg fa h KX G hmg=>all_mk KX G (show mg "law"=_ from hmg) (fx (tX ll w))
end _W
open PySem PySem.W PyProof.Rows _D
theorem PySem.Challenge.cw_sluiceway_k16_rows_refused_holds : PySem.Challenge.rw_sluiceway_k16_rows_refused.Holds := by
 refine holds_top (l:=_W.IJ) (q:=_W.vw) (loose:=[]) (N:=100000) (see:=aB _W.asks) (val:=aC _W.asks) (d:=WO _W.Kc) ?_ ?_ ?_ ?_ ?_ ?_ ?_ ?_ ?_ ?_
 .exact _W.well
 .exact _W.ll
 .exact _W.PR
 .exact _W.hp
 .exact _W.hk
 .rfl
 .exact _W.SA
 .exact _W.UU
 .exact _W.hw
 .exact _W.walked
