import PyProof.Rows.All
import PySem.Challenge.RW_sluiceway_k74_one_cube_more_in_a_flood
import KE.KNestM
import KE.KLam
import KE.KIsAll
import KE.KSortTup
import Wide.FinOn
import Lean
set_option compiler.extract_closed false
set_option bootstrap.genMatcherCode false
set_option genSizeOf false
set_option Elab.async false
set_option linter.all false
set_option maxRecDepth 100000
open Option renaming some→uQ,none→uZ
open Bool renaming true→uJ,false→uX
open PySem.W renaming Frag→za,nsIn→zb,findIn→zd,kla_fn→ze,instObj→zf,emptyDict→zg,codeHdIn→zh,kas_sort→zi,kia_one→qc,keepIn→qd,tabObj→qg,noTabs→qh,lookIn→qi,plainGet→ja,fnOf→jb,hasDictIn→ji,plainGet_of→xa,isFn→xf,takerIn→xg,callWith_K→xh,OpenLaw→ve,handedIn→vh,plainOver→wQ,makesIn→wZ,methodCall_KW→wW,cellsFrom_some→wK,codeIn→wq,KasT→w8,codeHd_of_K→wD,katRev→wE,WalkO→wM,mg_of→wO
open PySem.F renaming slot_tuple_iterator_next→jd,slot_enumerate_next→je,slot_zip_next→jf,slot_tuple_add→xi,entry_tuple_add→vT,args_tuple_add_2→vU,entry_tuple_iterator_next→wj,args_tuple_iterator_next_1→wx,entry_enumerate_next→wv,args_enumerate_next_1→ww,slot_enumerate_iter→wk,entry_zip_next→w5,args_zip_next_1→w6
open PySem renaming mem_of_lookup→zc,call→qe,Within→jg
open PyProof.Rows renaming callWith_type1→qa,slot_tuple_getitem→jc,boot_range→vd
open PyProof renaming noPylong_small→w9
open PySem.SeqAt.EqAt renaming int_str→vf,str_int→vg
open PySem.SeqAt renaming ne_of_list_tuple→wz
open PySem.Builtin.SmallTypes renaming nextOf→qf,ownedTupleIsFree→vb,ownedTupleHandOut→vc,newClass→wS,newRecord→wa,ownedTupleFields→wc
open PySem.Builtin.List renaming listTooLong→va
open PySem.Builtin.Str renaming strSliceIndices→qb,occurrences→jh
open List renaming replicate→zQ,getElem?_eq_getElem→zJ,range→zX,mem_cons_of_mem→zV,getD_eq_getElem?_getD→zW,map_cons→zK,getElem?_eq_some_iff→zY,length_map→zj,getElem?_map→zv,mem_cons_self→zw,size_toArray→zk,mem_cons→z0,getElem?_set_ne→z8,getElem?_append_left→z9,getElem?_eq_none→zA,getElem?_append_right→zD,mem_append_right→zG,length_append→zH,length_cons→zN,map_append→zO,mem_range→zU,mem_append→qZ,append_nil→qJ,append_assoc→qX,getElem_mem→qV,replicate_succ→qW,map_nil→qK,mem_map→qY,getElem?_take_of_lt→qz,getElem?_range→qx,getElem?_set_self→qw,drop_eq_getElem_cons→qy,mem_of_getElem?→q0,drop_of_length_le→q7,map_map→q8,range'→qB,nil_append→qC,zipIdx_cons→qD,filterMap_cons→qE,getElem?_replicate→qG,length_set→qH,range_succ_eq_map→qM,length_replicate→qO,eq_nil_of_length_eq_zero→qP,length_take→qR,ext_getElem→qS,set→qT,flatten_cons→jZ,map_congr_left→jJ,length_drop→jX,getElem?_cons_succ→jW,lookup_cons→jY,filterMap_map→jz,lookup→jv,all_cons→jy,getElem?_set→j0,getElem?_eq_none_iff→j3,reverse_cons→j4,pairwise_iff_getElem→j5,mem_append_left→j6,cons_append→j9,range'_succ→jA,nodup_cons→jD,length→jG,length_singleton→jH,length_range→jL,ext_getElem?→jM,forall_mem_cons→jO,all_eq_true→jP,getElem_of_mem→jR,mem_or_eq_of_mem_set→jS,forIn_cons→jT,mem_singleton→xQ,take_of_length_le→xZ,filterMap_eq_map'→xJ,any_cons→xV,singleton_append→xY,getElem_map→xq,range_succ→xw
open Nat renaming lt_of_lt_of_le→zq,le_refl→zx,le_trans→zE,ne_of_lt→zM,lt_irrefl→qj,lt_succ_self→qk,add_sub_cancel_left→qA,mul_le_mul_right→qL,ne_of_gt→jQ,zero_le→j7,le_succ→j8,le_of_lt→jC,lt_of_succ_lt_succ→jE,lt_succ_of_lt→jI,zero_add→jN,le_add_right→xW,add_mul→xz,add_comm→xk,mul_comm→xy,mul_le_mul→xC,one_mul→xD
open Int renaming mul_le_mul_of_nonneg_right→qQ,le_refl→q9,natCast_mul→qI,mul_zero→jK,mul_nonneg→jq,emod_lt_of_pos→jx,natCast_add→jk,mul_add→jB,emod_nonneg→jF,sub_mul→xK,le_of_lt→xA,add_zero→xB
open Option renaming map_eq_some_iff→zP,isSome_iff_exists→jU
open Bool renaming false_ne_true→zC,and_eq_true→zL,and_eq_true_iff→jV,or_eq_true→xj
open Array renaming length_toList→qF,getElem?_toList→jw
open PySem.Heap renaming get?_push_of_some→zZ,lt_size→zy,get?_push_size→z3,size_push→qN,SameBut→qU,get?_update_self→xX
open PySem renaming Addr→xE,Around→xF,Expr→xG,FuncData→xH,NameKind→xI,Program→xL,Scope→xM,Shared→xN,Stmt→xO,Value→xP,World→xR,assignEach→xS,attributeBase→xT,backTo→xU,backToKw→vQ,behindInMarks→vZ,binaryOp→vJ,bootBuiltins→vX,codeAny_mono→vV,compareOp→vW,importedModules→vK,keywordEach→vY,letOwnedTupleGo→vq,mainGlobals→vz,model→vj,rawInt→vx,sizeLine_eq→vk,sliceBounds→v7,starEach→v8,treeTable→v9,wpAny→vA,wpAny_Call_Name_kw→vB,wpAny_bind→vC,wpAny_callSpecial?_slot→vD,wpAny_call_entry→vE,wpAny_field→vF,wpAny_holding→vG,wpAny_mono→vH,wpAny_newObj_type→vI,wpAny_passesOwn→vL,wpAny_pure→vM,wpAny_setField_rec→vN,wpAny_truthy_bool→vO
open PySem.W renaming Frag→vP,boot_heap→vR
set_option maxHeartbeats 0
noncomputable section
namespace _L
open PySem PySem.Spec PyProof.Rows
noncomputable def Gb(s:xO):Arguments:=match s with
 |.FunctionDef _ a _ _ _ _ _ _ _ _=>a
 |_=>{posonlyargs:=[],args:=[],vararg:=uZ,kwonlyargs:=[],kw_defaults:=[],kwarg:=uZ,defaults:=[]}
noncomputable def Ey(s:xO):List xO:=match s with
 |.FunctionDef _ _ b _ _ _ _ _ _ _=>b
 |_=>[]
noncomputable def An(s:xO):xM:=match s with
 |.FunctionDef _ _ _ _ _ _ sc _ _ _=>sc
 |_=>{kind:=.function,names:=[],isGenerator:=uX,isCoroutine:=uX}
end _L
namespace _D
open PySem PySem.W _L
variable{h:Heap}{C:xE}{m x q:Str}{st:xO}{mg:Str->Option xP}
noncomputable def Ig:List Obj->Nat->vP
 |[],_=>[]
 |o::r,n=>match o.cls,o.data with
  |.none,.fields _=>Ig r (n+1)
  |_,.freed=>Ig r (n+1)
  |_,_=>(n,o)::Ig r (n+1)
def Ce(h:Heap):vP:=Ig h.objs.toList 0
noncomputable def dOf(s:xO):DefRec:=match s with
 |Stmt.FunctionDef n a b _ _ _ s _ _ p=>⟨n,a,b,s,p⟩
 |_=>⟨Str.empty,⟨[],[],uZ,[],[],uZ,[]⟩,[],{kind:=.module,names:=[],isGenerator:=uX,isCoroutine:=uX,more:=[]},⟨0,0,0,0⟩⟩
noncomputable abbrev XtOf(l:OpenLaw)(q:xL)(s:xN):Bool:=xlAt q [] s&&recOk l.row.toRowW.records s
noncomputable def Ao(K:vP)(n:Str):xE:=match nsIn K vz n with
 |some (uQ (.ref f))=>f
 |_=>0
noncomputable def gOk(K:vP)(n:Str):Bool:=match nsIn K vz n with
 |some (uQ (.ref _))=>uJ
 |_=>uX
noncomputable def Dz(K:vP)(C:xE)(m:Str):xE:=match findIn K (.ref C) m with
 |some (uQ (.ref f))=>f
 |_=>0
noncomputable def mOk(K:vP)(C:xE)(m:Str):Bool:=match findIn K (.ref C) m with
 |some (uQ (.ref f))=>isFn K (.ref f)
 |_=>uX
noncomputable def noF(K:vP)(C:xE)(m:Str):Bool:=match findIn K (.ref C) m with
 |some uZ=>uJ
 |_=>uX
noncomputable def zOk(K:vP)(n:Str):Bool:=match nsIn K vz n with
 |some uZ=>uJ
 |_=>uX
noncomputable def ZAu(K:vP)(C:xE):Bool:=match findIn K (.ref C) "__setattr__" with
 |some (uQ (.builtin s))=>s == "object.__setattr__"
 |_=>uX
noncomputable def iOk(K:vP)(n:Str)(v:Int):Bool:=match nsIn K vz n with
 |some (uQ (.int u _))=>decide (u=v)
 |_=>uX
noncomputable def sOk(K:vP)(n:Str)(v:Str):Bool:=match nsIn K vz n with
 |some (uQ (.str u _))=>decide (u=v)
 |_=>uX
noncomputable def Gh(K:vP)(f:xE):Obj:=match K.lookup f with
 |some o=>o
 |none=>⟨.none,uZ,.plain,#[]⟩
def Bj(K:vP)(f:xE):xH:=match(Gh K f).data with
 |.func fd=>fd
 |_=>default
noncomputable def ZL6:xP->Bool
 |.none=>uJ
 |_=>uX
noncomputable def ZPK:FuncBody->Option (List xO)
 |.stmts b=>uQ b
 |_=>uZ
def Pg(K:vP)(x q:Str)(f:xE):Bool:=match K.lookup f with
 |some ⟨_,_,.func fd,_⟩=>decide (fd.name=x)&&decide (fd.qualname=q)&&(fd.globals==vz&&fd.builtins==builtinsNs&&fd.closure.isEmpty&&ZL6 fd.defaults)&&(codeIn K fd.code q&&keepIn K (.ref f))
 |_=>uX
noncomputable abbrev DefTxt:=Arguments×Option (List xO)×xM
def K7(K:vP)(f:xE):DefTxt:=((Bj K f).params,ZPK (Bj K f).body,(Bj K f).scope)
def Jr(st:xO):DefTxt:=(Gb st,uQ (Ey st),An st)
noncomputable def dfl(K:vP)(d:xP)(v:Int):Bool:=match d with
 | .ref T=>match K.lookup T with
  | some o=>(match o.data with
   |.seq a _=>(match a.toList with
    |[.int i _]=>decide (i=v)
    |_=>uX)
   |_=>uX)
  |none=>uX
 |_=>uX
def U0(K:vP)(x q:Str)(f:xE)(v:Int):Bool:=match K.lookup f with
 |some ⟨_,_,.func fd,_⟩=>decide (fd.name=x)&&decide (fd.qualname=q)&&(fd.globals==vz&&fd.builtins==builtinsNs&&fd.closure.isEmpty&&dfl K fd.defaults v)&&(codeIn K fd.code q&&keepIn K (.ref f))
 |_=>uX
noncomputable def strsOf:List xP->Option (List Str)
 |[]=>uQ []
 |.str s _::r=>(strsOf r).map (s::·)
 |_::_=>uZ
def Tz(K:vP)(n:Str)(vs:List Str):Bool:=match nsIn K vz n with
 | some (uQ (.ref p))=>(match K.lookup p with
   |some ⟨.type t,_,.seq its _,_⟩=>t == "tuple"&&decide (strsOf its.toList=uQ vs)&&Nat.ble its.toList.length 1000
   |_=>uX)
 |_=>uX
def Vk(K:vP)(n:Str)(kvs:List (Str×Str)):Bool:=match nsIn K vz n with
 | some (uQ (.ref p))=>(match K.lookup p with
   |some ⟨.type t,_,.dict es _,_⟩=>t == "dict" && !(p==sysModules)&&decide (strsOf (es.toList.map (·.key))=uQ (kvs.map (·.1)))&&decide (strsOf (es.toList.map (·.val))=uQ (kvs.map (·.2)))
   |_=>uX)
 |_=>uX
inductive Ask where
 |fn (n:Str) (st:xO)
 |mt (c m q:Str) (st:xO)
 |cl (c:Str)
 |no (c x:Str)
 |z (n:Str)
 |gi (n:Str) (v:Int)
 |gs (n v:Str)
 |gt (n:Str) (vs:List Str)
 |gd (n:Str) (kvs:List (Str×Str))
 |ck (φ:vP->Bool)
 |fd (n:Str) (st:xO) (v:Int)
def Ask.chk(K:vP):Ask->Bool
 |.fn n _=>gOk K n&&Pg K n n (Ao K n)
 |.mt c m q _=>mOk K (Ao K c) m&&Pg K m q (Dz K (Ao K c) m)
 |.cl c=>gOk K c&&(plainGet K (Ao K c) Str.empty&&hasDictIn K (Ao K c)&&plainOver K (Ao K c))&&(ZAu K (Ao K c)&&makesIn K (Ao K c)&&keepIn K (.ref (Ao K c)))
 |.no c x=>noF K (Ao K c) x
 |.z n=>zOk K n
 |.gi n v=>iOk K n v
 |.gs n v=>sOk K n v
 |.gt n vs=>Tz K n vs
 |.gd n kvs=>Vk K n kvs
 |.ck φ=>φ K
 |.fd n _ v=>gOk K n&&U0 K n n (Ao K n) v
def Ask.txt(K:vP):Ask->Option DefTxt
 |.fn n _=>uQ (K7 K (Ao K n))
 |.mt c m _ _=>uQ (K7 K (Dz K (Ao K c) m))
 |.fd n _ _=>uQ (K7 K (Ao K n))
 |_=>uZ
def Ask.want:Ask->Option DefTxt
 |.fn _ st=>uQ (Jr st)
 |.mt _ _ _ st=>uQ (Jr st)
 |.fd _ st _=>uQ (Jr st)
 |_=>uZ
def seeH(l:List Ask)(h:Heap):Bool×List (Option DefTxt):=(l.all (Ask.chk (Ce h)),l.map (Ask.txt (Ce h)))
noncomputable abbrev valH(l:List Ask):Bool×List (Option DefTxt):=(uJ,l.map Ask.want)
def Il(K:vP)(c m:Str):xE:=match(Bj K (Dz K (Ao K c) m)).code with
 |.ref a=>a
 |_=>0
def O1(K:vP)(c:xE):xE:=match(Gh K c).data with
 |.fields vs=>(match(vs[11]? :Option xP)with |some (.ref P)=>P|_=>0)
 |_=>0
noncomputable def ZN1:xP->Bool
 |.ref _=>uJ
 |_=>uX
def Yp(c m:Str)(h:Heap):Bool:=ZN1 (Bj (Ce h) (Dz (Ce h) (Ao (Ce h) c) m)).code&&codeHdIn (Ce h) (Il (Ce h) c m) (O1 (Ce h) (Il (Ce h) c m)) &&
 (match h.get? (O1 (Ce h) (Il (Ce h) c m))with
  |some ⟨.none,uZ,.fields vs,sl⟩=>vs.isEmpty&&sl.isEmpty
  |_=>uX)
def V4(c m:Str)(l:List Ask)(h:Heap):Bool×Bool×List (Option DefTxt):=(Yp c m h,seeH l h)
noncomputable abbrev Ve(l:List Ask):Bool×Bool×List (Option DefTxt):=(uJ,valH l)
noncomputable def Qu(p:xL)(w:xR)(n₀:Nat)(ann:Option xP):Nat->SharedT->Thread->Option SharedT
 |0,_,_=>uZ
 | n+1,s,t=>match through t with
  |true=>uQ s
  | false=>match PySem.W.Fast.tw6613529449190102663 n₀ ann t with
   |false=>uZ
   |true=>match PySem.W.Fast.tw10156331382660048174 (PySem.W.Fast.tw11892475500146522536 PySem.W.Fast.tw14364793385576792824) p w s t with
    |some (s',t')=>Qu p w n₀ ann n s' t'
    |none=>uZ
noncomputable def ZGO:List Obj->Nat->BT->BT
 |[],_,t=>t
 |o::r,n,t=>ZGO r (n+1) (t.ins n o)
def ZDd(w:xR)(os:OsState):SharedT:=⟨ZGO (vR w.params).objs.toList 0 .nil,(vR w.params).objs.size,(vR w.params).life,Array.mk [],boot_drawn,boot_toks,os⟩
def Zb(p:xL)(w:xR)(os:OsState):Option SharedT:=Qu p w (vR w.params).objs.size (PySem.W.Fast.tw8920871248978507458 (vR w.params) vz "__annotations__") 100000 (ZDd w os) (topStub p)
noncomputable def Uo(p:xL)(w:xR)(s:xN):Bool:=staticsOk (PySem.W.Fast.tw5923862056798008813 p.main.body) (vR w.params) s.heap&&namesBound p s.heap&&gensDone s&&laidKept (vR w.params) s.heap
theorem ZPe(h:PySem.W.Fast.tw9446332074065402090 l=uJ):l.wellSaid=uJ:=by rw[PySem.W.Fast.te9446332074065402090];exact h
end _D
namespace _W
open PySem PySem.W _L _D
noncomputable def top(i:Nat):xO:=PySem.Challenge.pw_sluiceway_k74_one_cube_more_in_a_flood.main.body.getD i (.Pass ⟨0,0,0,0⟩)
noncomputable def inC(s:xO)(j:Nat):xO:=match s with
 |.ClassDef _ _ _ body _ _ _ _ _ _ _=>body.getD j (.Pass ⟨0,0,0,0⟩)
 |_=>.Pass ⟨0,0,0,0⟩
noncomputable abbrev Zz:=top 39
noncomputable abbrev ZAn:=top 42
noncomputable abbrev Xy:=top 41
noncomputable abbrev Zf:=top 43
noncomputable abbrev Z3:=top 44
noncomputable abbrev U8:=top 45
noncomputable abbrev ZAB:=top 46
noncomputable abbrev Vm:=top 47
noncomputable abbrev Wx:=top 48
noncomputable abbrev Xp:=top 49
noncomputable abbrev Yw:=top 50
noncomputable abbrev We:=top 52
noncomputable abbrev Tj:=top 51
noncomputable abbrev Yx:=top 53
noncomputable abbrev Xi:=top 40
noncomputable abbrev ZAE:=top 56
noncomputable abbrev Uc:=top 57
noncomputable abbrev ZAx:=top 58
noncomputable abbrev Wy:=inC (top 36) 1
noncomputable abbrev ZAw:=inC (top 36) 2
noncomputable abbrev Wm:=top 26
noncomputable abbrev Yj:=top 27
noncomputable abbrev W7:=inC (top 36) 3
noncomputable abbrev ZAZ:=inC (top 36) 6
noncomputable abbrev Wk:=inC (top 36) 5
noncomputable abbrev Yi:=inC (top 36) 4
noncomputable abbrev ZAR:=inC (top 36) 0
noncomputable abbrev Ud:=top 37
noncomputable abbrev U5:=inC (top 36) 7
noncomputable abbrev Us:=inC (top 11) 1
noncomputable abbrev W0:=inC (top 11) 0
noncomputable abbrev Vi:=inC (top 11) 5
noncomputable abbrev ZAd:=inC (top 11) 4
noncomputable abbrev Vl:=inC (top 11) 8
noncomputable abbrev Zq:=inC (top 11) 2
noncomputable abbrev Tv:=inC (top 11) 3
noncomputable abbrev Xe:=inC (top 11) 7
noncomputable abbrev P0:=inC (top 11) 6
noncomputable abbrev ZAb:=top 10
noncomputable abbrev Ze:=top 9
noncomputable abbrev Zi:=top 35
noncomputable abbrev T4:=top 34
noncomputable abbrev Gy:=top 59
def asks:List Ask:=[.cl "Draft",.cl "Sending",.fn "_law_cell_at" Zz,.fn "_law_names" ZAn,.fn "_law_mix" Xy,.fn "_law_stairs" Zf,.fn "_law_rule" Z3,.fn "_law_place" U8,.fn "_law_take" ZAB,.fn "_law_read_stairs" Vm,.fn "_law_read_place" Wx,.fn "_law_read_house" Xp,.fn "_law_house" Yw,.fn "_law_rows" We,.fn "_law_state" Tj,.fn "_law_given" Yx,.fn "_law_whole" Xi,.fn "_law_page" ZAE,.fn "_law_shaped" Uc,.fn "_law_with" ZAx,.mt "Draft" "node_at" "Draft.node_at" Wy,.mt "Draft" "draw" "Draft.draw" ZAw,.fn "number_of" Wm,.fn "down_of" Yj,.mt "Draft" "draw_river" "Draft.draw_river" W7,.mt "Draft" "draw_basin" "Draft.draw_basin" ZAZ,.mt "Draft" "draw_mill" "Draft.draw_mill" Wk,.mt "Draft" "draw_town" "Draft.draw_town" Yi,.mt "Draft" "__init__" "Draft.__init__" ZAR,.fn "row_with_came" Ud,.mt "Draft" "pages_by" "Draft.pages_by" U5,.mt "Sending" "add_link" "Sending.add_link" Us,.mt "Sending" "__init__" "Sending.__init__" W0,.mt "Sending" "best_way" "Sending.best_way" Vi,.mt "Sending" "best_ways" "Sending.best_ways" ZAd,.mt "Sending" "flow_sent" "Sending.flow_sent" Vl,.mt "Sending" "gain_of" "Sending.gain_of" Zq,.mt "Sending" "links_of" "Sending.links_of" Tv,.mt "Sending" "send_along" "Sending.send_along" Xe,.mt "Sending" "send_by" "Sending.send_by" P0,.fn "check_ways" ZAb,.fn "best" Ze,.fn "supplies_of" Zi,.fn "plan" T4,.fn "law" Gy,.no "Draft" "arcs",.no "Draft" "house",.no "Draft" "spots",.no "Draft" "turns",.no "Sending" "ends",.no "Sending" "left",.no "Sending" "links_from",.no "Sending" "rooms",.no "Sending" "scale",.no "Sending" "worths",.z "all",.z "bool",.z "enumerate",.z "int",.z "isinstance",.z "len",.z "list",.z "min",.z "range",.z "sorted",.z "sum",.z "tuple",.z "zip",.gi "BRIM" 4,.gi "DELAY" 3,.gi "DOWN" 2,.gi "FROM" 0,.gi "GAIN" 3,.gi "KIND" 0,.gi "LET" 3,.gi "LIES" 5,.gi "MOST_flows" 2,.gi "MOST_houses" 4,.gi "NAME" 1,.gi "NEED" 4,.gi "PARTS" 6,.gi "PLACES" 1,.gi "PUMP" 6,.gi "PUMPED" 4,.gi "PUMP_DELAY" 1,.gi "PUMP_MOST" 2,.gi "PUMP_TO" 0,.gs "SEA" "sea",.gi "TO" 1,.gi "TOOK" 1]
abbrev rw_:OpenLaw:=PySem.Challenge.rw_sluiceway_k74_one_cube_more_in_a_flood
abbrev pw:xL:=OpenLaw.prog PySem.Challenge.rw_sluiceway_k74_one_cube_more_in_a_flood
def vw:xL:=view pw (zX 60)
theorem ZLn:∀w os,(Zb pw w os).map (λs=>(Uo pw w s.abs,PySem.W.Fast.tw4187177175401517315 vw [] (PySem.W.Fast.tw5923862056798008813 pw.main.body) (XtOf rw_ vw) uJ s.abs,V4 "Sending" "send_by" asks s.abs.heap))=uQ (uJ,openGood vw [],Ve asks):=λw os=>by kernel_rfl
theorem well:rw_.wellSaid=uJ:=ZPe (by kernel_rfl)
theorem hdef:defOf vw rw_.row.name=uQ (dOf Gy,[]):=by kernel_rfl
theorem hp:rw_.row.prog.theDef rw_.row.name=uQ ((dOf Gy).params,(dOf Gy).body,(dOf Gy).scope):=by kernel_rfl
theorem hk:kwWritten? (dOf Gy).params.kwonlyargs (dOf Gy).params.kw_defaults=uQ []:=by kernel_rfl
theorem hok:(chainsOk vw&&opensWell rw_.row.prog&&(frees rw_.row.toRowW&&rw_.row.within.isEmpty))=uJ:=by kernel_rfl
theorem hdf:(dOf Gy).params.defaults=[]:=by kernel_rfl
theorem hbare:rw_.row.prog.bare:=⟨rfl,rfl,rfl,rfl,rfl,by decide +kernel⟩
theorem hw:rw_.row.toRowW.promised:=by w_witness2
end _W
namespace _L
open PySem PySem.Spec PyProof.Rows
variable{t':Nat}{s:xN}{vS:List (xE×Obj)}{tg:xG}{P:xL}
noncomputable abbrev Key:=Sum Int Str
def ZGF:Key->xP->Bool
 |.inl k,v=>Value.isInt k v
 |.inr x,v=>Value.isStrOf x v
def keyH(w:xR):Key->Int
 |.inl k=>hashInt k
 |.inr x=>hashStr w x
theorem Ih:∀{k:Key}{v:xP},ZGF k v=uJ->(∃i t,k=Sum.inl i/\v=Value.int i t)∨(∃x t,k=Sum.inr x/\v=Value.str x t)
 |.inl i,v,h=>by obtain⟨t,e⟩:=Value.isInt_shape h;exact .inl ⟨i,t,rfl,e⟩
 |.inr x,v,h=>by obtain⟨t,e⟩:=Value.isStrOf_shape h;exact .inr ⟨x,t,rfl,e⟩
theorem ZLb(a b:Int):decide ((Sum.inl a:Key)=Sum.inl b)=(a==b):=by
 by_cases e:a=b
 .subst e;simp
 rw[decide_eq_false (λq=>e (Sum.inl.inj q))];exact(beq_eq_false_iff_ne.mpr e).symm
theorem ZLT(a b:Str):decide ((Sum.inr a:Key)=Sum.inr b)=decide (a=b):=by
 by_cases e:a=b
 .subst e;simp
 rw[decide_eq_false (λq=>e (Sum.inr.inj q)),decide_eq_false e]
theorem ZHi(a:Int)(b:Str):decide ((Sum.inl a:Key)=Sum.inr b)=uX:=decide_eq_false (nofun)
theorem ZJO(a:Str)(b:Int):decide ((Sum.inr a:Key)=Sum.inl b)=uX:=decide_eq_false (nofun)
def ZFz(prog:xL)(w:xR):PySem.KeyKind prog w Key where
 is:=ZGF
 hash:=keyH w
 inj:=λv a b ha hb=>by
  rcases Ih ha with⟨i,t,rfl,rfl⟩|⟨x,t,rfl,rfl⟩
  .rcases Ih hb with⟨j,u,rfl,e⟩|⟨y,u,rfl,e⟩
   .injection e with e1 _;rw[e1]
   .exact nomatch e
  .rcases Ih hb with⟨j,u,rfl,e⟩|⟨y,u,rfl,e⟩
   .exact nomatch e
   .injection e with e1 _;rw[e1]
 byValue:=λk v h=>by rcases Ih h with⟨i,t,rfl,rfl⟩|⟨x,t,rfl,rfl⟩<;>rfl
 pyHash:=λhv h=>by
  rcases Ih hv with⟨i,t,rfl,rfl⟩|⟨x,t,rfl,rfl⟩
  .exact wpAny_pyHash_int h
  .exact wpAny_pyHash_str h
 eqBool:=λhu hv h=>by
  rcases Ih hu with⟨i,t,rfl,rfl⟩|⟨x,t,rfl,rfl⟩
  .rcases Ih hv with⟨j,u,rfl,rfl⟩|⟨y,u,rfl,rfl⟩
   .rw[ZLb]at h;exact wpAny_eqBool_int h
   .rw[ZHi]at h;exact vf i t y u _ _ _ _ h
  .rcases Ih hv with⟨j,u,rfl,rfl⟩|⟨y,u,rfl,rfl⟩
   .rw[ZJO]at h;exact vg x t j u _ _ _ _ h
   .rw[ZLT]at h;exact wpAny_eqBool_str h
 «strs»:=λk x t v h=>by
  rcases Ih h with⟨i,u,rfl,e⟩|⟨y,u,rfl,e⟩
  .exact nomatch e
  .injection e with e1 _
   subst e1
   cases v<;>rfl
inductive V where
 |non|bl (b:Bool)|int (i:Int)|str (x:Str)|byt (b:Array UInt8)|flt (b:UInt64)|ref (a:xE)|ty (n:String)
 deriving DecidableEq
def RelV:V->xP->Prop
 |.non,u=>u=Value.none
 |.bl b,u=>u=Value.bool b
 |.int i,u=>∃t,u=Value.int i t
 |.str x,u=>∃t,u=Value.str x t
 |.byt b,u=>∃t,u=Value.bytes b t
 |.flt b,u=>∃t,u=Value.float b t
 |.ref a,u=>u=Value.ref a
 |.ty n,u=>u=Value.type n
abbrev Vals:List V->List xP->Prop:=Paired RelV
theorem Vals.length{xs:List V}{us:List xP}(r:Vals xs us):xs.length=us.length:=Paired.length r
theorem Vals.get:∀{xs:List V}{us:List xP}{i:Nat}{x:V},Vals xs us->xs[i]?=uQ x->∃u,us[i]?=uQ u/\RelV x u
 |_,_,_,_,.nil,e=>by simp at e
 |_,_,0,_,.cons r _,e=>by simp at e;subst e;exact⟨_,rfl,r⟩
 |_,_,i+1,x,.cons _ t,e=>by obtain⟨u,d,j⟩:=Vals.get t (by simpa using e);exact⟨u,by simpa using d,j⟩
theorem Vals.set(r:RelV x u):∀{xs:List V}{us:List xP}(i:Nat),Vals xs us->Vals (xs.set i x) (us.set i u)
 |_,_,_,.nil=>.nil
 |_,_,0,.cons _ t=>.cons r t
 |_,_,i+1,.cons q t=>.cons q (Vals.set r i t)
theorem Vals.append:∀{xs ys:List V}{us d:List xP},Vals xs us->Vals ys d->Vals (xs++ys) (us++d)
 |_,_,_,_,.nil,s=>s
 |_,_,_,_,.cons r t,s=>.cons r (Vals.append t s)
theorem Vals.take:∀{xs:List V}{us:List xP}(n:Nat),Vals xs us->Vals (xs.take n) (us.take n)
 |_,_,0,_|_,_,_+1,.nil=>.nil
 |_,_,n+1,.cons r t=>.cons r (Vals.take n t)
theorem Vals.drop:∀{xs:List V}{us:List xP}(n:Nat),Vals xs us->Vals (xs.drop n) (us.drop n)
 |_,_,0,r=>r
 |_,_,_+1,.nil=>.nil
 |_,_,n+1,.cons _ t=>Vals.drop n t
def RelO:Option V->Option xP->Prop
 |some v,uQ u=>RelV v u
 |none,uZ=>True
 |_,_=>False
def KV{κ:Type}:List (κ×V)->List (κ×xP)->Prop:=Paired λ(p:κ×V)(q:κ×xP)=>p.1=q.1/\RelV p.2 q.2
def kV:Key->V
 |.inl i=>.int i
 |.inr x=>.str x
inductive HO where
 |lst (xs:List V)
 |tup (xs:List V)
 |dK (kvs:List (Key×V))|dT (kvs:List (List Key×V))
 |set (S:Int->Bool) (n:Nat)
 |ins (C dx:xE) (fs:List (Str×V))
 |own (x:xE)
 |xd (fs:List (Str×V))
 |met (f x:xE)
 |rng (lo hi:Int)
 |frz (o:Obj) (u:HO)
 |tbl (ps:Array xP)
 |ext (φ:Heap->Prop)
noncomputable abbrev Hp:=xE->Option HO
noncomputable def upd(H:Hp)(a:xE)(o:HO):Hp:=λb=>if b=a then uQ o else H b
theorem Ew:upd H a o a=uQ o:=by unfold upd;rw[if_pos rfl]
theorem Am(h:b≠a):upd H a o b=H b:=by unfold upd;rw[if_neg h]
theorem Fy{H:Hp}{a b:xE}{o:HO}(h:H a=uQ o)(h':H b=uZ):a≠b:=by intro e;subst e;rw[h]at h';cases h'
section
variable(P:xL)(w:xR)
def ObjOk(H:Hp)(h:Heap)(a:xE):HO->Prop
 |.lst xs=>xs.length<=sizeLine/\∃(its:List xP)(n:Nat),Vals xs its/\h.get? a=uQ {cls:=.type "list",data:=.seq its.toArray n}
 |.tup xs=>xs.length<=sizeLine/\∃its:List xP,Vals xs its/\IsTup h a its.toArray
 |.dK kvs=>kvs.length<=sizeLine/\(a==sysModules)=uX/\∃vs,KV kvs vs/\h.DictOf (ZFz P w) a vs
 | .dT kvs=>kvs.length<=sizeLine/\(a==sysModules)=uX/\∃xs:List (List Key×xE×xP),
   Paired (λ(p:List Key×V)(q:List Key×xE×xP)=>p.1=q.1/\H q.2.1=uQ (.tup (p.1.map kV))/\RelV p.2 q.2.2) kvs xs/\
   ∃o es ep,h.get? a=uQ o/\o.ExactDict/\o.data=.dict es ep/\es.toList=xs.map (entryOfKey (tupleKind (ZFz P w)))/\(xs.map (·.1)).Nodup
 |.set S n=>h.SetOf (intKind P w) a S n
 | .ins C dx fs=>H dx=uQ (.own a)/\fs.length<=1000/\dx≠a/\h.get? a=uQ (zf C dx)/\
   ∃mA,h.Ns1 dx mA/\(∀f,RelO (fs.lookup f) (mA f))/\jg mA (fs.map (·.1))
 |.own _=>∃o,h.get? a=uQ o
 |.xd fs=>∃mA,h.Ns1 a mA/\∀f,RelO (fs.lookup f) (mA f)
 |.rng lo hi=>∃t u v,h.get? a=uQ {cls:=.type "range",data:=.fields #[.int lo t,.int hi u,.int 1 v]}
 |.frz o u=>h.get? a=uQ o/\ObjOk H h a u
 |.tbl ps=>h.get? a=uQ {cls:=.none,data:=.fields ps}
 |.met f x=>h.get? a=uQ (PySem.W.methodObj (.ref f) (.ref x))
 |.ext φ=>φ h/\(∃o,h.get? a=uQ o)/\∀h1 h2:Heap,φ h1->(∀o,h1.get? a=uQ o->h2.get? a=uQ o)->φ h2
def HOk(H:Hp)(h:Heap):Prop:=∀a o,H a=uQ o->ObjOk P w H h a o
end
section
variable{P:xL}{w:xR}{H H':Hp}{h h':Heap}{a:xE}{o:HO}
theorem ObjOk.lt(x:ObjOk P w H h a o):a<h.objs.size:=by
 cases o with
 |lst xs=>obtain⟨_,_,_,_,e⟩:=x;exact zy e
 |tup xs=>obtain⟨_,_,_,p⟩:=x;exact p.lt
 |set S n=>obtain⟨o,_,_,_,e,_⟩:=x;exact zy e
 |ins C dx fs=>obtain⟨_,_,_,e,_⟩:=x;exact zy e
 |own y=>obtain⟨_,e⟩:=x;exact zy e
 |xd fs=>obtain⟨_,⟨_,_,_,e,_⟩,_⟩:=x;exact zy e
 |rng lo hi=>obtain⟨_,_,_,e⟩:=x;exact zy e
 |frz ob u=>obtain⟨e,_⟩:=x;exact zy e
 |tbl ps|met f y=>exact zy (x)
 |ext φ=>obtain⟨_,⟨_,e⟩,_⟩:=x;exact zy e
 |_=>obtain⟨_,_,_,_,o,_,_,e,_⟩:=x;exact zy e
theorem Paired.mapP{n j:Type}{F G:n->j->Prop}:∀{i:List n}{d:List j},Paired F i d->(∀a b,F a b->G a b)->Paired G i d
 |_,_,.nil,_=>.nil
 |_,_,.cons r t,f=>.cons (f _ _ r) (Paired.mapP t f)
theorem ObjOk.stay(x:ObjOk P w H h a o)(k:∀b u,(b=a∨H b=uQ (.own a))->h.get? b=uQ u->h'.get? b=uQ u)
  (ho:∀b,H b=uQ (.own a)->H' b=uQ (.own a)) (ht:∀b xs,H b=uQ (.tup xs)->H' b=uQ (.tup xs)):ObjOk P w H' h' a o:=by
 induction o with
 |lst xs=>obtain⟨z,its,n,r,e⟩:=x;exact⟨z,its,n,r,k _ _ (.inl rfl) e⟩
 |tup xs=>obtain⟨z,its,r,ob,e,c⟩:=x;exact⟨z,its,r,ob,k _ _ (.inl rfl) e,c⟩
 |dK kvs=>obtain⟨z,y,vs,r,ob,es,ep,e,c⟩:=x;exact⟨z,y,vs,r,ob,es,ep,k _ _ (.inl rfl) e,c⟩
 |dT kvs=>
  obtain⟨z,y,xs,r,ob,es,ep,e,c⟩:=x;exact⟨z,y,xs,Paired.mapP r λp q z=>⟨z.1,ht _ _ z.2.1,z.2.2⟩,ob,es,ep,k _ _ (.inl rfl) e,c⟩
 |set S n=>obtain⟨ob,es,ep,t,e,c⟩:=x;exact⟨ob,es,ep,t,k _ _ (.inl rfl) e,c⟩
 |ins C dx fs=>
  obtain⟨d,z,ne,e,mA,⟨od,es,ep,e2,c⟩,r⟩:=x;exact⟨ho _ d,z,ne,k _ _ (.inl rfl) e,mA,⟨od,es,ep,k _ _ (.inr d) e2,c⟩,r⟩
 |own y=>obtain⟨ob,e⟩:=x;exact⟨ob,k _ _ (.inl rfl) e⟩
 |xd fs=>obtain⟨mA,⟨od,es,ep,e,c⟩,r⟩:=x;exact⟨mA,⟨od,es,ep,k _ _ (.inl rfl) e,c⟩,r⟩
 |rng lo hi=>obtain⟨t,u,v,e⟩:=x;exact⟨t,u,v,k _ _ (.inl rfl) e⟩
 |frz ob u ih=>obtain⟨e,q⟩:=x;exact⟨k _ _ (.inl rfl) e,ih q⟩
 |tbl ps|met f y=>
  have e:=x;exact k a _ (.inl rfl) e
 |ext φ=>obtain⟨p,⟨o,e⟩,st⟩:=x;exact⟨st _ _ p λo q=>k _ _ (.inl rfl) q,⟨o,k _ _ (.inl rfl) e⟩,st⟩
theorem HOk.lt(x:HOk P w H h)(e:H a=uQ o):a<h.objs.size:=(x a o e).lt
theorem HOk.fresh(x:HOk P w H h)(e:h.objs.size<=a):H a=uZ:=by
 cases q:H a with
 |none=>rfl
 |some u=>exact absurd (zq (x.lt q) e) (qj _)
theorem HOk.kept(x:HOk P w H h)(k:∀b u,h.get? b=uQ u->h'.get? b=uQ u):HOk P w H h':=λa o e=>
 (x a o e).stay (λb u _ q=>k b u q) (λ_ q=>q) λ_ _ q=>q
theorem HOk.laid(x:HOk P w H h)(k:∀b u,h.get? b=uQ u->h'.get? b=uQ u)(hp:h.objs.size<=a)(d:ObjOk P w (upd H a o) h' a o):HOk P w (upd H a o) h':=λb u e=>by
 have i:=x.fresh hp;by_cases j:b=a
 .subst j;rw[Ew]at e;cases e;exact d
 rw[Am j]at e;exact(x b u e).stay (λc v _ q=>k c v q) (λc q=>by rw[Am (Fy q i)];exact q) λc n q=>by rw[Am (Fy q i)];exact q
end
def Rd(H:Hp)(a:xE)(u:HO):Prop:=H a=uQ u∨∃o,H a=uQ (.frz o u)
theorem Rd.ok(r:Rd H a u)(x:HOk P w H h):ObjOk P w H h a u:=by
 rcases r with r|⟨o,r⟩
 .exact x a u r
 obtain⟨_,q⟩:=x a _ r;exact q
def Mut:Option HO->Prop
 |some (.lst _)=>True
 |some (.dK _)=>True
 |some (.dT _)=>True
 |some (.set _ _)=>True
 |some (.ins _ _ _)=>True
 |some (.ext _)=>True
 |_=>False
section
variable{P:xL}{w:xR}{H:Hp}{h h':Heap}{x e:xE}{o':HO}
theorem HOk.write(ok:HOk P w H h)(B:Mut (H x))(he:e=x∨H e=uQ (.own x))(k:∀b u,b≠e->h.get? b=uQ u->h'.get? b=uQ u)(J:∃u,h'.get? e=uQ u)
  (L:ObjOk P w (upd H x o') h' x o'):HOk P w (upd H x o') h':=λb u q=>by
 have i:∀c y,H c=uQ (.own y)->c≠x:=λc y r z=>by subst z;rw[r]at B;exact B
 have j:∀c F,H c=uQ (.tup F)->c≠x:=λc F r z=>by subst z;rw[r]at B;exact B
 by_cases n:b=x
 .subst n;rw[Ew]at q;cases q;exact L
 rw[Am n]at q;by_cases d:b=e
 .have M:H b=uQ (.own x):=by
   rcases he with z|z
   .exact absurd (d.trans z) n
   rw[d];exact z
  rw[q]at M;cases M;obtain⟨v,N⟩:=J;exact⟨v,d▸N⟩
 .refine(ok b u q).stay (λc v I r=>k c v ?_ r) (λc r=>by rw[Am (i c b r)];exact r) λc F r=>by rw[Am (j c F r)];exact r
  rcases I with rfl|I
  .exact d
  .rintro rfl;rcases he with z|z
   .exact i c b I z
   rw[I]at z;cases z;exact n rfl
end
structure Un (fs ex:List xE) (H H':Hp) (h h':Heap):Prop where
 keep:∀b o,h.get? b=uQ o->H b=uZ->b∉fs->b∉ex->h'.get? b=uQ o
 slot:∀b o,h.get? b=uQ o->H b=uZ->b∈fs->b∉ex->∃sl,h'.get? b=uQ {o with slots:=sl}
 free:∀b o,h.get? b=uQ o->H b=uZ->b∉ex->H' b=uZ
 there:∀b o,h.get? b=uQ o->b∉ex->∃o',h'.get? b=uQ o'
 tups:∀b xs,H b=uQ (.tup xs)->H' b=uQ (.tup xs)
 frzs:∀b o u,H b=uQ (.frz o u)->H' b=uQ (.frz o u)
 tbls:∀b ps,H b=uQ (.tbl ps)->∃more,H' b=uQ (.tbl (ps++more))
section
variable{fs fs' ex ex':List xE}{H H1 H2:Hp}{h h1 h2 h':Heap}{a x e:xE}{o:HO}
theorem Un.any(u:Un fs ex H H1 h h1)(q:h.get? b=uQ ob)(n:H b=uZ)(j:b∉ex):∃y,h1.get? b=uQ {ob with slots:=y}:=by
 by_cases i:b∈fs
 .exact u.slot b ob q n i j
 exact⟨ob.slots,u.keep b ob q n i j⟩
theorem Un.kept(k:∀b u,h.get? b=uQ u->h'.get? b=uQ u):Un fs ex H H h h':=
 ⟨λb d q _ _ _=>k b d q,λb d q _ _ _=>⟨d.slots,k b d q⟩,λ_ _ _ n _=>n,λb d q _=>⟨d,k b d q⟩,λ_ _ q=>q,λ_ _ _ q=>q,λ_ i q=>⟨#[],by rw[q];simp⟩⟩
theorem Un.refl:Un fs ex H H h h:=Un.kept λ_ _ q=>q
theorem Un.laid(k:∀b u,h.get? b=uQ u->h'.get? b=uQ u)(hp:h.objs.size<=a)(d:H a=uZ):Un fs ex H (upd H a o) h h' where
 keep:=λb u q _ _ _=>k b u q
 slot:=λb u q _ _ _=>⟨u.slots,k b u q⟩
 free:=λb u q n _=>by rw[Am (zM (zq (zy q) hp))];exact n
 there:=λb u q _=>⟨u,k b u q⟩
 tups:=λb i q=>by rw[Am (Fy q d)];exact q
 frzs:=λb u i q=>by rw[Am (Fy q d)];exact q
 tbls:=λb j q=>⟨#[],by rw[Am (Fy q d),q];simp⟩
theorem Un.write(i:Mut (H x))(he:e=x∨H e=uQ (.own x))(k:∀b u,b≠e->h.get? b=uQ u->h'.get? b=uQ u)(j:∃u,h'.get? e=uQ u):Un fs ex H (upd H x o) h h':=by
 have B:∀b,H b=uZ->b≠x:=λb n z=>by subst z;rw[n]at i;exact i
 have F:∀b,H b=uZ->b≠e:=λb n z=>by
  subst z;rcases he with r|r
  .exact B b n r
  rw[n]at r;cases r
 have y:∀b u,H b=uQ u->¬Mut (uQ u)->b≠x:=λb u q nm z=>by subst z;rw[q]at i;exact nm i
 refine⟨λb u q n _ _=>k b u (F b n) q,λb u q n _ _=>⟨u.slots,k b u (F b n) q⟩,λb u q n _=>by rw[Am (B b n)];exact n,λb u q _=>?_,
  λb I q=>by rw[Am (y b _ q λz=>z)];exact q,λb u I q=>by rw[Am (y b _ q λz=>z)];exact q,λb J q=>⟨#[],by rw[Am (y b _ q λz=>z),q];simp⟩⟩
 by_cases d:b=e
 .subst d;exact j
 exact⟨u,k b u d q⟩
end
noncomputable def trk(h:Heap)(H:Hp):List xE:=(zX h.objs.size).filter λa=>(H a).isSome
def Jd(h:Heap)(H:Hp):Heap:=PySem.W.hideAll h (trk h H)
theorem ZMI(h:Heap)(H:Hp):(Jd h H).objs.size=h.objs.size:=PySem.W.hideAll_size _ _
theorem ZPO(e:h.get? b=uQ o)(n:H b=uZ):(Jd h H).get? b=uQ o:=
 PySem.W.hideAll_get _ e λd=>by have q:=(List.mem_filter.mp d).2;rw[n]at q;simp at q
theorem ZLd(e:(Jd h H).get? b=uQ o):h.get? b=uQ o/\H b=uZ:=by
 have d:=PySem.W.of_hideAll (trk h H) e;refine⟨d,?_⟩;cases q:H b with
 |none=>rfl
 |some x=>
  have z:(Jd h H).get? b=uZ:=PySem.W.hideAll_none (trk h H) (List.mem_filter.mpr ⟨zU.mpr (zy d),by simp[q]⟩);rw[z]at e;cases e
noncomputable def ZKu(g h:Heap)(L:xE):List (xE×Obj):=(zX h.objs.size).filterMap λa=>if a=L∨(g.get? a).isSome=uJ then uZ else(h.get? a).map λo=>(a,o)
def rest(g h:Heap)(L d:xE):List (xE×Obj):=(ZKu g h L).filter λp=>decide (p.1≠d)
structure Mod (K:za) (mg:Str->Option xP) (base:Heap):Prop where
 kin:K.In base
 glob:base.Ns vz mg
 blt:∃mb,base.Ns builtinsNs mb/\∀x:Str,x≠"__name__"->mb x=vX x
 nolimit:base.NoLimit
structure Cx where
 prog:xL
 w:xR
 K:za
 mg:Str->Option xP
 base:Heap
 A:xF
 N:List Str
 s₀:xN
 H₀:Hp
 env:Env
 outer:List Env
 stack:List Env
 ex:List xE
 fn:Str->Bool
 calm:Bool
 pn:List (xE×Obj)
 xe:xP->xN->Prop
noncomputable def frs(l:List Env):List xE:=l.filterMap (·.frame)
noncomputable abbrev Cx.fs(X:Cx):List xE:=frs X.outer
def Vis(sc:xM)(x:Str):Prop:=sc.names.lookup x=uQ .local∨sc.names.lookup x=uQ .cell∨sc.names.lookup x=uQ .free
def Loc(sc:xM)(x:Str):Prop:=sc.names.lookup x=uQ .local∨sc.names.lookup x=uQ .cell
def Look(env:Env)(h:Heap)(m:Str->Option xP)(x:Str)(u:xP):Prop:=
 (env.kindOf x=uQ .local/\m x=uQ u)∨((env.kindOf x=uQ .cell∨env.kindOf x=uQ .free)/\∃c,env.cells.lookup x=uQ c/\h.IsCell c (uQ u))
structure Cx.Ok (X:Cx):Prop where
 mod:Mod X.K X.mg X.base
 kind:X.env.scope.kind=.function
 glob:X.env.globals=vz
 blt:X.env.builtins=builtinsNs
 above:X.s₀.heap.objs.size<=X.env.locals
 inj:∀x y c,X.env.cells.lookup x=uQ c->X.env.cells.lookup y=uQ c->x=y
 has:∀x,(X.env.kindOf x=uQ .cell∨X.env.kindOf x=uQ .free)->∃c,X.env.cells.lookup x=uQ c
 cab:∀x c,X.fn x=uJ->X.env.cells.lookup x=uQ c->X.s₀.heap.objs.size<=c
 hd:X.calm=uJ->X.A.handled=uZ
 frames:X.A.frames=uQ X.stack
 stk:X.stack=X.outer∨(X.stack=X.env::X.outer/\X.env.frame=uQ X.env.locals)
 exf:∀b∈X.ex,b≠X.env.locals/\∀x c,X.env.cells.lookup x=uQ c->c≠b
 bs:∀b o,X.base.get? b=uQ o->X.s₀.heap.get? b=uQ o/\X.H₀ b=uZ
 bsz:X.base.objs.size<=X.s₀.heap.objs.size
 noex:∀b o,X.base.get? b=uQ o->b∉X.ex
 exfs:∀b∈X.ex,b∉X.fs
 funs:X.s₀.heap.FunFrames X.base X.outer
 frf:∀b∈X.fs,X.H₀ b=uZ
structure Inv (X:Cx) (vS:List (xE×Obj)) (σ:List (Option V)) (H:Hp) (s:xN):Prop where
 ok:X.Ok
 os:s.os=X.s₀.os
 bare:AllBare s.gens
 base:Un X.fs X.ex X.H₀ H X.s₀.heap s.heap
 loc:∃m,s.heap.Ns X.env.locals m/\∀(i:Nat)(x:Str)(v:V),X.N[i]?=uQ x->σ[i]?=uQ (uQ v)->Vis X.env.scope x->∃u,RelV v u/\Look X.env s.heap m x u
 cell:∀x c,X.env.cells.lookup x=uQ c->∃v,s.heap.IsCell c v
 free:H X.env.locals=uZ
 Gs:∀x c,X.env.cells.lookup x=uQ c->H c=uZ
 pin:∀p∈X.pn++vS,s.heap.get? p.1=uQ p.2/\H p.1=uZ/\p.1≠X.env.locals/\p.1∉X.fs/\∀v,p.2.data≠ .cell v
 hok:HOk X.prog X.w H s.heap
 len:σ.length=X.N.length
section
variable{X:Cx}{vS:List (xE×Obj)}{σ:List (Option V)}{H H':Hp}{s:xN}{h':Heap}
theorem Cx.Ok.nofr(ok:X.Ok)(e:X.base.get? b=uQ o):b∉X.fs:=λd=>by have:=(ok.funs.mem d).1;rw[e]at this;cases this
theorem Inv.bs(I:Inv X vS σ H s):∀b o,X.base.get? b=uQ o->s.heap.get? b=uQ o/\H b=uZ:=λb o e=>
 ⟨I.base.keep b o (I.ok.bs b o e).1 (I.ok.bs b o e).2 (I.ok.nofr e) (I.ok.noex b o e),I.base.free b o (I.ok.bs b o e).1 (I.ok.bs b o e).2 (I.ok.noex b o e)⟩
theorem Inv.bk(I:Inv X vS σ H s):∀b o,X.base.get? b=uQ o->s.heap.get? b=uQ o:=λb o e=>(I.bs b o e).1
theorem Inv.mod(I:Inv X vS σ H s):Mod X.K X.mg X.base:=I.ok.mod
theorem Inv.kIn(I:Inv X vS σ H s):X.K.In s.heap:=I.ok.mod.kin.keeps I.bk
theorem Inv.nolimit(I:Inv X vS σ H s):s.heap.NoLimit:=I.ok.mod.nolimit.keeps I.bk
theorem Inv.lt(I:Inv X vS σ H s):X.env.locals<s.heap.objs.size:=let⟨_,d,_⟩:=I.loc;d.lt
theorem Inv.sz(I:Inv X vS σ H s):X.s₀.heap.objs.size<=s.heap.objs.size:=zE I.ok.above (jC I.lt)
theorem Inv.nofs(I:Inv X vS σ H s){a:xE}(h:s.heap.objs.size<=a):a∉X.fs:=λd=>by obtain⟨_,o,i,_⟩:=I.ok.funs.mem d;exact absurd (zq (zy i) (zE I.sz h)) (qj _)
theorem Inv.cne(I:Inv X vS σ H s):∀x c,X.env.cells.lookup x=uQ c->c≠X.env.locals:=λx c e z=>by obtain⟨v,o,n,j⟩:=I.cell x c e;obtain⟨m,⟨B,y,q,i,d,_⟩,_⟩:=I.loc;rw[z,i]at n;cases n;rw[d]at j;cases j
theorem Inv.funs(I:Inv X vS σ H s):s.heap.FunFrames X.base X.outer:=by
 have all:∀(l:List Env),(∀b∈frs l,b∈X.fs)->X.s₀.heap.FunFrames X.base l->s.heap.FunFrames X.base l:=by
  intro l
  induction l with
  |nil=>intro _ _;trivial
  |cons M r J=>
   intro hs F;obtain⟨hk,⟨L,o,d,n,y,q⟩,B⟩:=F;have i:=hs L (by unfold frs;rw[qE,d];exact zw);obtain⟨N,e⟩:=I.base.slot L o y (I.ok.frf L i) i λz=>I.ok.exfs L z i
   exact⟨hk,⟨L,_,d,n,e,q⟩,J (λb j=>hs b (by unfold frs;rw[qE,d];exact zV _ j)) B⟩
 exact all X.outer (λ_ j=>j) I.ok.funs
theorem Inv.stack(I:Inv X vS σ H s):s.heap.FunFrames X.base X.stack:=by
 rcases I.ok.stk with e|⟨e,i⟩
 .rw[e];exact I.funs
 .rw[e];obtain⟨m,d,_⟩:=I.loc;exact .cons (by rw[I.ok.kind];decide) i d (Heap.get?_none_of_le (zE I.ok.bsz I.ok.above)) I.funs
theorem Inv.Ni(I:Inv X vS σ H s):∀b∈frs X.stack,b∈X.env.locals::X.fs:=λb d=>by
 rcases I.ok.stk with e|⟨e,i⟩
 .rw[e]at d;exact zV _ d
 rw[e]at d;unfold frs at d;rw[qE,i]at d;exact d
theorem Inv.ZAC(I:Inv X vS σ H s):∀b∈frs X.stack,H b=uZ:=λb d=>by
 rcases z0.mp (I.Ni b d)with e|d
 .rw[e];exact I.free
 obtain⟨_,o,i,_⟩:=I.ok.funs.mem d;exact I.base.free b o i (I.ok.frf b d) λz=>I.ok.exfs b z d
theorem Inv.step{g':Array GenState}{d':Drawn}{ch:List xE}(I:Inv X vS σ H s)
  (N:∀b∈ch,(b∈X.ex∨X.s₀.heap.objs.size<=b)/\b≠X.env.locals/\(∀x c,X.env.cells.lookup x=uQ c->c≠b)/\∀p∈X.pn++vS,p.1≠b)
  (F:∀b o,b≠X.env.locals->b∉X.fs->b∉ch->s.heap.get? b=uQ o->H b=uZ->h'.get? b=uQ o)
  (J:∀b o,b≠X.env.locals->b∈X.fs->b∉ch->s.heap.get? b=uQ o->H b=uZ->∃sl,h'.get? b=uQ {o with slots:=sl}) (free:∀b o,b∉ch->s.heap.get? b=uQ o->H b=uZ->H' b=uZ)
  (B:∀b o,b∉ch->s.heap.get? b=uQ o->∃o',h'.get? b=uQ o')
  (Y:∀b xs,H b=uQ (.tup xs)->H' b=uQ (.tup xs)) (W:∀b o u,H b=uQ (.frz o u)->H' b=uQ (.frz o u)) (U:∀b ps,H b=uQ (.tbl ps)->∃more,H' b=uQ (.tbl (ps++more)))
  (ns:∀m,s.heap.Ns X.env.locals m->h'.Ns X.env.locals m) (hok:HOk X.prog X.w H' h') (hg:AllBare g'):
  Inv X vS σ H' {s with heap:=h',gens:=g',drawn:=d',toks:=t'}:=by
 have neL:∀b o,X.s₀.heap.get? b=uQ o->b≠X.env.locals:=λb o e=>zM (zq (zy e) I.ok.above)
 have O:∀b o,X.s₀.heap.get? b=uQ o->b∉X.ex->b∉ch:=λb o e y Z=>by
  rcases(N b Z).1 with z|z
  .exact y z
  exact absurd (zq (zy e) z) (qj _)
 have M:∀x c,X.env.cells.lookup x=uQ c->∀v,s.heap.IsCell c v->h'.IsCell c v:=λx c e v ⟨o,ho,hd⟩=>by
  have L:c∉ch:=λz=>(N c z).2.2.1 x c e rfl
  by_cases hc:c∈X.fs
  .obtain⟨sl,q⟩:=J c o (I.cne x c e) hc L ho (I.Gs x c e);exact⟨_,q,hd⟩
  exact⟨o,F c o (I.cne x c e) hc L ho (I.Gs x c e),hd⟩
 refine⟨I.ok,I.os,hg,⟨λb o e n Z y=>(F b o (neL b o e) Z (O b o e y) (I.base.keep b o e n Z y) (I.base.free b o e n y)),λb o e n Z y=>?_,λb o e n y=>?_,λb o e y=>?_,λb xs e=>Y b xs (I.base.tups b xs e),λb o xs e=>W b o xs (I.base.frzs b o xs e),λb ps e=>?_⟩,?_,λx c e=>?_,?_,λx c e=>?_,λp hp=>?_,hok,I.len⟩
 .obtain⟨sl,S⟩:=I.base.slot b o e n Z y;obtain⟨sl',e2⟩:=J b _ (neL b o e) Z (O b o e y) S (I.base.free b o e n y);exact⟨sl',e2⟩
 .obtain⟨o',S⟩:=I.base.there b o e y;exact free b o' (O b o e y) S (I.base.free b o e n y)
 .obtain⟨o',S⟩:=I.base.there b o e y;exact B b o' (O b o e y) S
 .obtain⟨m1,S⟩:=I.base.tbls b ps e;obtain⟨m2,e2⟩:=U b _ S;exact⟨m1++m2,by rw[e2,Array.append_assoc]⟩
 .obtain⟨m,hn,hl⟩:=I.loc;refine⟨m,ns m hn,λi x v S e2 e3=>?_⟩;obtain⟨u,r,l⟩:=hl i x v S e2 e3;refine⟨u,r,?_⟩;rcases l with l|⟨k,c,e,z⟩
  .exact .inl l
  exact .inr ⟨k,c,e,M x c e _ z⟩
 .obtain⟨v,z⟩:=I.cell x c e;exact⟨v,M x c e v z⟩
 .obtain⟨m,⟨o,_,_,ho,_⟩,_⟩:=I.loc;exact free _ o (λz=>(N _ z).2.1 rfl) ho I.free
 .obtain⟨v,o,ho,hd⟩:=I.cell x c e;exact free c o (λz=>(N c z).2.2.1 x c e rfl) ho (I.Gs x c e)
 obtain⟨e,n,ne,nf,d⟩:=I.pin p hp;have L:p.1∉ch:=λz=>(N p.1 z).2.2.2 p hp rfl
 exact⟨F p.1 p.2 ne nf L e n,free p.1 p.2 L e n,ne,nf,d⟩
theorem Inv.un(I:Inv X vS σ H s)(u:Un X.fs [] H H' s.heap h')(hok:HOk X.prog X.w H' h'):Inv X vS σ H' {s with heap:=h',toks:=t'}:=by
 obtain⟨m,⟨o,O,N,z,r⟩,_⟩:=id I.loc;obtain⟨M,F⟩:=u.any z I.free (by simp);exact I.step (ch:=[]) (nofun) (λb o _ y _ e n=>u.keep b o e n y (by simp)) (λb o _ y _ e n=>u.slot b o e n y (by simp)) (λb o _ e n=>u.free b o e n (by simp)) (λb o _ e=>u.there b o e (by simp)) u.tups u.frzs u.tbls (λS J=>by obtain⟨U,q,j,d,L⟩:=J;rw[z]at d;cases d;exact⟨_,q,j,F,L⟩) hok I.bare
theorem Inv.call{g':Array GenState}{d':Drawn}{ch:List xE}(I:Inv X vS σ H s)(u:Un (frs X.stack) ch H H' s.heap h')(hok:HOk X.prog X.w H' h')(S:AllBare g')
  (q:∀b∈ch,(b∈X.ex∨X.s₀.heap.objs.size<=b)/\b≠X.env.locals/\(∀x c,X.env.cells.lookup x=uQ c->c≠b)/\∀p∈X.pn++vS,p.1≠b):
  Inv X vS σ H' {s with heap:=h',gens:=g',drawn:=d',toks:=t'}:=by
 obtain⟨m,⟨o,Y,Z,M,r⟩,_⟩:=id I.loc;obtain⟨sl,B⟩:=u.any M I.free λz=>(q _ z).2.1 rfl
 exact I.step q (λb o B W i e n=>u.keep b o e n (λz=>(z0.mp (I.Ni b z)).elim B W) i) (λb o _ _ i e n=>u.any e n i) (λb o i e n=>u.free b o e n i) (λb o i e=>u.there b o e i) u.tups u.frzs u.tbls (λm' U=>by obtain⟨o',F,y,j,O⟩:=U;rw[M]at j;cases j;exact⟨_,F,y,B,O⟩) hok S
theorem Inv.turned{it:xE}(I:Inv X vS σ H s)(k:∀b o,b≠it->s.heap.get? b=uQ o->h'.get? b=uQ o)(L:H it=uZ)(y:it≠X.env.locals)
  (S:it∈X.ex∨X.s₀.heap.objs.size<=it) (J:∀x c,X.env.cells.lookup x=uQ c->c≠it) (F:∀p∈X.pn++vS,p.1≠it):Inv X vS σ H {s with heap:=h',toks:=t'}:=by
 have j:∀b u,H b=uQ u->b≠it:=λb u e z=>by rw[z,L]at e;cases e
 refine I.step (ch:=[it]) (λb N=>?_) (λb o _ _ i e _=>k b o (λz=>i (by simp[z])) e) (λb o _ _ i e _=>⟨o.slots,k b o (λz=>i (by simp[z])) e⟩) (λ_ _ _ _ n=>n)
  (λb o i e=>⟨o,k b o (λz=>i (by simp[z])) e⟩) (λ_ _ e=>e) (λ_ _ _ e=>e) (λb Y e=>⟨#[],by rw[e];simp⟩) (λm W=>?_) (λb u e=>?_) I.bare
 .have e:b=it:=by simpa using N
  subst e;exact⟨S,y,J,F⟩
 .obtain⟨o,U,M,O,r⟩:=W;exact⟨o,U,M,k _ o (Ne.symm y) O,r⟩
 refine(I.hok b u e).stay (λc v i q=>k c v ?_ q) (λ_ q=>q) λ_ _ q=>q
 rcases i with z|z
 .rw[z];exact j b u e
 exact j c _ z
theorem Inv.tok(I:Inv X vS σ H s)(t:Nat):Inv X vS σ H {s with toks:=t}:=I.un Un.refl I.hok
theorem Inv.kept(I:Inv X vS σ H s)(k:∀b u,s.heap.get? b=uQ u->h'.get? b=uQ u):Inv X vS σ H {s with heap:=h',toks:=t'}:=I.un (Un.kept k) (I.hok.kept k)
theorem Inv.laid{a:xE}{o:HO}(I:Inv X vS σ H s)(k:∀b u,s.heap.get? b=uQ u->h'.get? b=uQ u)(hp:s.heap.objs.size<=a)(i:ObjOk X.prog X.w (upd H a o) h' a o):
  Inv X vS σ (upd H a o) {s with heap:=h',toks:=t'}:=I.un (Un.laid k hp (I.hok.fresh hp)) (I.hok.laid k hp i)
theorem Inv.write(I:Inv X vS σ H s)(n:Mut (H x))(he:e=x∨H e=uQ (.own x))(k:∀b u,b≠e->s.heap.get? b=uQ u->h'.get? b=uQ u)(d:∃u,h'.get? e=uQ u)
  (j:ObjOk X.prog X.w (upd H x o) h' x o):Inv X vS σ (upd H x o) {s with heap:=h',toks:=t'}:=I.un (Un.write n he k d) (I.hok.write n he k d j)
theorem Inv.Gj(I:Inv X vS σ H s)(h:∀p∈pins',s.heap.get? p.1=uQ p.2/\H p.1=uZ/\p.1≠X.env.locals/\p.1∉X.fs/\∀v,p.2.data≠ .cell v):Inv X pins' σ H s:=
 ⟨I.ok,I.os,I.bare,I.base,I.loc,I.cell,I.free,I.Gs,λp hp=>(qZ.mp hp).elim (λz=>I.pin p (j6 _ z)) (h p),I.hok,I.len⟩
theorem ZCi{N:List Str}(d:N.Nodup){i j:Nat}{x:Str}(a:N[i]?=uQ x)(b:N[j]?=uQ x):i=j:=by obtain⟨z,n⟩:=zY.mp a;obtain⟨y,q⟩:=zY.mp b;exact(List.getElem_inj d).mp (n.trans q.symm)
theorem ZGb{M:Model}{A:xF}{E:xP->xN->Prop}{i:Nat}{x:Str}{v:V}{u:xP}{Q:Unit->xN->Prop}(I:Inv X vS σ H s)(hN:X.N.Nodup)(hi:X.N[i]?=uQ x)(L:Loc X.env.scope x)(r:RelV v u)
  (h:∀s',Inv X vS (σ.set i (uQ v)) H s'->(∃a,qU a s.heap s'.heap/\(a=X.env.locals∨X.env.cells.lookup x=uQ a))->Q () s') (hf:X.fn x=uJ∨X.env.scope.names.lookup x=uQ .local:=by first|exact .inl rfl|exact .inr rfl|assumption):vA M A (storeName X.env x u) Q E s:=by
 obtain⟨m,hn,hl⟩:=id I.loc;have hcls:(X.env.scope.kind == .class||(X.env.scope.kind == .module&&X.env.locals != X.env.globals))=uX:=by rw[I.ok.kind];rfl
 have U:i<σ.length:=by rw[I.len];exact(zY.mp hi).1
 have cne:=I.cne;have F:∀{a:xE}{h':Heap},(∃o,s.heap.get? a=uQ o/\H a=uZ)->qU a s.heap h'->HOk X.prog X.w H h':=λ{a h'}ha hs b ob e=>by
  obtain⟨_,_,O⟩:=ha;refine(I.hok b ob e).stay (λc w' J q=>(hs.2 c ?_).trans q) (λ_ q=>q) λ_ _ q=>q
  rintro rfl;rcases J with rfl|J
  .rw[O]at e;cases e
  rw[O]at J;cases J
 rcases L with hk|hk
 .refine wpAny_storeName_local hk hn (λh' hn' hs=>?_) hcls;obtain⟨oL,_,_,hoL,_⟩:=id hn;refine h _ ⟨I.ok,I.os,I.bare,⟨λb o e n Z L=>?_,λb o e n Z L=>?_,I.base.free,λb o e L=>?_,I.base.tups,I.base.frzs,I.base.tbls⟩,⟨_,hn',λj y v' B S e3=>?_⟩,λy c e=>?_,I.free,I.Gs,λp hp=>?_,F ⟨oL,hoL,I.free⟩ hs,by simpa using I.len⟩ ⟨_,hs,.inl rfl⟩
  .exact(hs.2 b (zM (zq (zy e) I.ok.above))).trans (I.base.keep b o e n Z L)
  .obtain⟨sl,B⟩:=I.base.slot b o e n Z L;exact⟨sl,(hs.2 b (zM (zq (zy e) I.ok.above))).trans B⟩
  .obtain⟨o',B⟩:=I.base.there b o e L;exact⟨o',(hs.2 b (zM (zq (zy e) I.ok.above))).trans B⟩
  .by_cases Y:j=i
   .subst Y;rw[hi]at B;cases B;rw[qw U]at S;cases S;exact⟨u,r,.inl ⟨hk,by simp⟩⟩
   rw[z8 (Ne.symm Y)]at S;obtain⟨u',r',q⟩:=hl j y v' B S e3;refine⟨u',r',?_⟩;rcases q with⟨k,e⟩|⟨k,c,e,z⟩
   .refine .inl ⟨k,?_⟩;have:y≠x:=λe=>Y (ZCi hN B (e▸hi))
    simp[this,e]
   exact .inr ⟨k,c,e,z.sameBut hs (cne y c e)⟩
  .obtain⟨w',z⟩:=I.cell y c e;exact⟨w',z.sameBut hs (cne y c e)⟩
  obtain⟨e,n,ne,nf,d⟩:=I.pin p hp;exact⟨(hs.2 p.1 ne).trans e,n,ne,nf,d⟩
 have W:X.fn x=uJ:=by
  rcases hf with z|z
  .exact z
  rw[z]at hk;cases hk
 obtain⟨c,J⟩:=I.ok.has x (.inl hk);obtain⟨w',z⟩:=I.cell x c J;refine wpAny_storeName_cell I.ok.kind hk J z (λh' hc' hs=>?_);obtain⟨oc,hoc,hocd⟩:=id z;refine h {s with heap:=h'} ⟨I.ok,I.os,I.bare,⟨λb o e n Z L=>?_,λb o e n Z L=>?_,I.base.free,λb o e L=>?_,I.base.tups,I.base.frzs,I.base.tbls⟩,⟨m,hn.sameBut hs (Ne.symm (cne x c J)),λj y v' B S e3=>?_⟩,λy c' e=>?_,I.free,I.Gs,λp hp=>?_,F ⟨oc,hoc,I.Gs x c J⟩ hs,by simpa using I.len⟩ ⟨c,hs,.inr J⟩
 .exact(hs.2 b (zM (zq (zy e) (I.ok.cab x c W J)))).trans (I.base.keep b o e n Z L)
 .obtain⟨sl,B⟩:=I.base.slot b o e n Z L;exact⟨sl,(hs.2 b (zM (zq (zy e) (I.ok.cab x c W J)))).trans B⟩
 .obtain⟨o',B⟩:=I.base.there b o e L;exact⟨o',(hs.2 b (zM (zq (zy e) (I.ok.cab x c W J)))).trans B⟩
 .by_cases Y:j=i
  .subst Y;rw[hi]at B;cases B;rw[qw U]at S;cases S;exact⟨u,r,.inr ⟨.inl hk,c,J,hc'⟩⟩
  .rw[z8 (Ne.symm Y)]at S;obtain⟨u',r',q⟩:=hl j y v' B S e3;refine⟨u',r',?_⟩;rcases q with q|⟨k,c',e,z'⟩
   .exact .inl q
   .refine .inr ⟨k,c',e,z'.sameBut hs ?_⟩;rintro rfl;exact Y (ZCi hN B (I.ok.inj _ _ _ e J▸hi))
 .by_cases hcc:c'=c
  .subst hcc;exact⟨_,hc'⟩
  .obtain⟨w2,z2⟩:=I.cell y c' e;exact⟨w2,z2.sameBut hs hcc⟩
 .obtain⟨e,n,ne,nf,d⟩:=I.pin p hp;refine⟨(hs.2 p.1 ?_).trans e,n,ne,nf,d⟩;intro q;rw[q,hoc]at e;exact d w' (by rw[<-(Option.some.inj e)];exact hocd)
theorem ZA0(I:Inv X vS σ H s)(n:X.N.Nodup)(y:X.N[i]?=uQ x)(d:Loc X.env.scope x)(r:RelV v u)
  (h:∀s',Inv X vS (σ.set i (uQ v)) H s'->Q () s') (j:X.fn x=uJ∨X.env.scope.names.lookup x=uQ .local:=by first|exact .inl rfl|exact .inr rfl|assumption):vA M A (storeName X.env x u) Q E s:=
 ZGb I n y d r (λs' q _=>h s' q) j
theorem Inv.call'(I:Inv X vS σ H s)(ho:s'.os=s.os)(u:Un (frs X.stack) ch H H' s.heap s'.heap)(hok:HOk X.prog X.w H' s'.heap)(i:AllBare s'.gens)
  (d:∀b∈ch,(b∈X.ex∨X.s₀.heap.objs.size<=b)/\b≠X.env.locals/\(∀x c,X.env.cells.lookup x=uQ c->c≠b)/\∀p∈X.pn++vS,p.1≠b):Inv X vS σ H' s':=by
 obtain⟨j,q,n,z,y⟩:=s';have e:=ho;subst e;exact I.call u hok i d
end
noncomputable abbrev XK:=xP->Option xE->Hp->Prop
noncomputable abbrev St:=List (Option V)
noncomputable abbrev VK:=V->Hp->Prop
noncomputable abbrev TE:=St->Hp->VK->Prop
noncomputable abbrev TT:=St->Hp->(Bool->Hp->Prop)->Prop
noncomputable abbrev TA:=St->Hp->(List V->Hp->Prop)->Prop
structure Ends where
 nx:St->Hp->Prop
 rt:VK
 bk:St->Hp->Prop:=λ_ _=>False
 ct:St->Hp->Prop:=λ_ _=>False
noncomputable abbrev TS:=Ends->St->Hp->Prop
inductive EP (X:Cx) (vS:List (xE×Obj)) (σ:St) (Q:VK) (u:xP) (s':xN):Prop|mk (v:V) (H':Hp) (I:Inv X vS σ H' s') (r:RelV v u) (q:Q v H'):EP X vS σ Q u s'
inductive TP (X:Cx) (vS:List (xE×Obj)) (σ:St) (Q:Bool->Hp->Prop) (b:Bool) (s':xN):Prop|mk (H':Hp) (I:Inv X vS σ H' s') (q:Q b H'):TP X vS σ Q b s'
inductive AP (X:Cx) (vS:List (xE×Obj)) (σ:St) (Q:List V->Hp->Prop) (us:List xP) (s':xN):Prop|mk (vs:List V) (H':Hp) (I:Inv X vS σ H' s') (r:Vals vs us) (q:Q vs H'):AP X vS σ Q us s' inductive NP (X:Cx) (vS:List (xE×Obj)) (Q:St->Hp->Prop) (s':xN):Prop|mk (σ':St) (H':Hp) (I:Inv X vS σ' H' s') (q:Q σ' H'):NP X vS Q s' inductive RP (X:Cx) (vS:List (xE×Obj)) (Q:VK) (u:xP) (s':xN):Prop|mk (v:V) (σ':St) (H':Hp) (I:Inv X vS σ' H' s') (r:RelV v u) (q:Q v H'):RP X vS Q u s'
def SP(X:Cx)(vS:List (xE×Obj))(D:Ends)(f:Flow)(s':xN):Prop:=
 match f with
 |.next=>NP X vS D.nx s'
 |.brk=>NP X vS D.bk s'
 |.cont=>NP X vS D.ct s'
 |.ret u=>RP X vS D.rt u s'
def PE(X:Cx)(e:xG)(t:TE):Prop:=
 ∀(vS:List (xE×Obj))(s:xN)(σ:St)(H:Hp)(Q:VK),Inv X vS σ H s->t σ H Q->vA (vj X.prog X.w) X.A (eval e X.env) (EP X vS σ Q) X.xe s
def PT(X:Cx)(e:xG)(t:TT):Prop:=
 ∀(vS:List (xE×Obj))(s:xN)(σ:St)(H:Hp)(Q:Bool->Hp->Prop),Inv X vS σ H s->t σ H Q->vA (vj X.prog X.w) X.A (isTrue e X.env (eval e X.env)) (TP X vS σ Q) X.xe s
def PW(X:Cx)(e:xG)(t:TT):Prop:=
 ∀(whole:Sem xP)(vS:List (xE×Obj))(s:xN)(σ:St)(H:Hp)(Q:Bool->Hp->Prop),Inv X vS σ H s->t σ H Q->vA (vj X.prog X.w) X.A (isTrue e X.env whole) (TP X vS σ Q) X.xe s
theorem PW.pt(h:PW X e t):PT X e t:=h _
def PA(X:Cx)(es:List xG)(t:TA):Prop:=
 ∀(pos:Pos)(vS:List (xE×Obj))(s:xN)(σ:St)(H:Hp)(Q:List V->Hp->Prop),Inv X vS σ H s->t σ H Q->vA (vj X.prog X.w) X.A (spliced (xU pos (v8 es X.env))) (AP X vS σ Q) X.xe s
def PS(X:Cx)(st:xO)(t:TS):Prop:=
 ∀(vS:List (xE×Obj))(s:xN)(σ:St)(H:Hp)(D:Ends),Inv X vS σ H s->t D σ H->vA (vj X.prog X.w) X.A (exec st X.env) (SP X vS D) X.xe s
def PSs(X:Cx)(st:List xO)(t:TS):Prop:=
 ∀(vS:List (xE×Obj))(s:xN)(σ:St)(H:Hp)(D:Ends),Inv X vS σ H s->t D σ H->vA (vj X.prog X.w) X.A (execs st X.env) (SP X vS D) X.xe s
theorem thn{i:Type}{t:Sem i}{Q d:i->xN->Prop}{M:Model}{A:xF}{E:xP->xN->Prop}(h:vA M A t Q E s)(j:∀a s,Q a s->d a s):vA M A t d E s:=vH h j λ_ _ x=>x
section
variable{X:Cx}
noncomputable def tVar(i:Nat):TE:=λσ H Q=>∃v,σ[i]?=uQ (uQ v)/\Q v H
noncomputable def tC(v:V):TE:=λ_ H Q=>Q v H
theorem ZBz{i:Nat}{x:Str}{pos:Pos}(J:X.N[i]?=uQ x)(B:Vis X.env.scope x)(hd:(x==("__debug__":Str))=uX:=by decide)(q:(x==("__classdict__":Str))=uX:=by decide):PE X (.Name x pos) (tVar i):=by
 intro n s M H Q I h;obtain⟨v,e,h⟩:=h;obtain⟨m,z,F⟩:=I.loc;obtain⟨u,r,l⟩:=F i x v J e B;have j:EP X n M Q u s:=⟨v,H,I,r,h⟩;rcases l with⟨hk,L⟩|⟨hk,c,y,d⟩
 .exact wpAny_Name (wpAny_loadName_local I.ok.kind hk z L j) hd
 rcases hk with hk|hk
 .exact wpAny_Name (wpAny_loadName_cell I.ok.kind hk y d j) hd
 exact wpAny_Name (wpAny_loadName_free I.ok.kind hk y d j q) hd
theorem ZOp{i j pos}:PE X (.Constant (.int i) j pos) (tC (.int i)):=λ_ _ _ H _ I h=>wpAny_Constant_int ⟨.int i,H,I.tok _,⟨_,rfl⟩,h⟩
theorem ZPa{b j pos}:PE X (.Constant (.bool b) j pos) (tC (.bl b)):=λ_ _ _ H _ I h=>Constant_bool ⟨.bl b,H,I,rfl,h⟩
theorem ZLP{j pos}:PE X (.Constant .none j pos) (tC .non):=λ_ _ _ H _ I h=>Constant_none ⟨.non,H,I,rfl,h⟩
theorem ZK4{x j pos}:PE X (.Constant (.str x) j pos) (tC (.str x)):=λ_ _ _ H _ I h=>Calls.Constant_str ⟨.str x,H,I.tok _,⟨_,rfl⟩,h⟩
def Gl(X:Cx)(x:Str):Prop:=X.env.kindOf x=uQ .globalImplicit
theorem Zv{E:xP->xN->Prop}{i:St}{H:Hp}{x:Str}{u:xP}{pos:Pos}{Q:xP->xN->Prop}(I:Inv X vS i H s)(d:Gl X x)(j:X.mg x=uQ u)(h:Q u s)
  (hd:(x==("__debug__":Str))=uX:=by decide):vA (vj X.prog X.w) X.A (eval (.Name x pos) X.env) Q E s:=
 Calls.Name_function_global I.ok.kind d (Calls.loadGlobal_global (I.ok.glob▸I.mod.glob.keeps I.bk) j h) hd
theorem Hy{E:xP->xN->Prop}{z:St}{H:Hp}{x:Str}{u:xP}{pos:Pos}{Q:xP->xN->Prop}(I:Inv X vS z H s)(q:Gl X x)(y:X.mg x=uZ)(j:vX x=uQ u)(h:Q u s)
  (d:x≠"__name__":=by decide) (hd:(x==("__debug__":Str))=uX:=by decide):vA (vj X.prog X.w) X.A (eval (.Name x pos) X.env) Q E s:=by
 obtain⟨B,n,i⟩:=I.mod.blt;exact Calls.Name_function_global I.ok.kind q (Calls.loadGlobal_builtin (I.ok.glob▸I.mod.glob.keeps I.bk) y (I.ok.blt▸n.keeps I.bk) ((i x d).trans j) h) hd
theorem ZKI(d:Gl X x)(i:X.mg x=uQ u)(r:RelV v u)(hd:(x==("__debug__":Str))=uX:=by decide):PE X (.Name x pos) (tC v):=
 λ_ _ _ H _ I h=>Zv I d i ⟨v,H,I,r,h⟩ hd
theorem ZMa{x:Str}{v:V}{u:xP}{pos:Pos}(j:Gl X x)(n:X.mg x=uZ)(i:vX x=uQ u)(r:RelV v u)(d:x≠"__name__":=by decide)(hd:(x==("__debug__":Str))=uX:=by decide):PE X (.Name x pos) (tC v):=
 λ_ _ _ H _ I h=>Hy I j n i ⟨v,H,I,r,h⟩ d hd
variable{a b:xG}{ta tb:TE}{pos:Pos}
noncomputable def tB(t:TE):TT:=λσ H Q=>t σ H λx H1=>∃c,x=.bl c/\Q c H1
theorem ZKl{e:xG}{t:TE}(h:PE X e t)(he:∀i,isTrue e X.env i=(do let v<-i;standAt e.pos;holding [v] (truthy v)):=by intro _;rfl):PT X e (tB t):=by intro j s F H Q I hw;refine isTrue_plain (thn (h j s F H _ I hw) λv J ⟨x,y,B,n,z⟩=>?_) (he _);obtain⟨d,rfl,q⟩:=z;cases n;exact vO ⟨y,B,q⟩
variable{tA tB':TT}{rest:List xG}
noncomputable def tAnd(t u:TT):TT:=λσ H Q=>t σ H λc H1=>if c=uJ then u σ H1 Q else Q uX H1
noncomputable def tOr(t u:TT):TT:=λσ H Q=>t σ H λc H1=>if c=uJ then Q uJ H1 else u σ H1 Q
noncomputable def tNot(t:TT):TT:=λσ H Q=>t σ H λc H1=>Q (!c) H1
theorem pw_and1(i:PT X a tA):PW X (.BoolOp .And [a] pos) tA:=by
 intro n d s j H Q I h;refine isTrue_and (thn (i d s j H Q I h) λc q e=>?_);cases c with
 |true=>exact isTrue_and_nil e
 |false=>exact e
theorem pw_or1(i:PT X a tA):PW X (.BoolOp .Or [a] pos) tA:=by
 intro n d s j H Q I h;refine isTrue_or (thn (i d s j H Q I h) λc q e=>?_);cases c with
 |false=>exact isTrue_or_nil e
 |true=>exact e
theorem pw_and(B:PT X a tA)(F:PW X (.BoolOp .And (b::rest) pos) tB'):PW X (.BoolOp .And (a::b::rest) pos) (tAnd tA tB'):=by
 intro y d s q H Q I h;refine isTrue_and (thn (B d s q H _ I h) λc z ⟨i,j,n⟩=>?_);cases c with
 |true=>exact F y d z q i Q j n
 |false=>exact⟨i,j,n⟩
theorem pw_or(B:PT X a tA)(F:PW X (.BoolOp .Or (b::rest) pos) tB'):PW X (.BoolOp .Or (a::b::rest) pos) (tOr tA tB'):=by
 intro y d s q H Q I h;refine isTrue_or (thn (B d s q H _ I h) λc z ⟨i,j,n⟩=>?_);cases c with
 |true=>exact⟨i,j,n⟩
 |false=>exact F y d z q i Q j n
theorem ZKf(i:PT X a tA):PT X (.UnaryOp .Not a pos) (tNot tA):=by intro d s j H Q I h;exact isTrue_not (thn (i d s j H (λc n=>Q (!c) n) I h) λ_ _ ⟨a,b,c⟩=>⟨a,b,c⟩)
noncomputable def ZG8(ta tb:TE):TE:=λσ H Q=>ta σ H λx H1=>∃c,x=.bl c/\if c=uJ then tb σ H1 Q else Q (.bl uX) H1
noncomputable def ZNq(ta:TE):TE:=λσ H Q=>ta σ H λx H1=>∃c,x=.bl c/\Q (.bl (!c)) H1
theorem ZO1{op}(h:PE X a t):PE X (.BoolOp op [a] pos) t:=λd s i H Q I hw=>BoolOp_one (h d s i H Q I hw)
theorem ZI9(F:PE X a ta)(J:PE X (.BoolOp .And (b::rest) pos) tb):PE X (.BoolOp .And (a::b::rest) pos) (ZG8 ta tb):=by
 intro d s q H Q I h;refine BoolOp_and (thn (F d s q H _ I h) λv y B=>?_);obtain⟨x,j,n,z,i⟩:=B;obtain⟨c,rfl,i⟩:=i;cases z;refine vO ?_;cases c with
 |true=>exact J d y q j Q n i
 |false=>exact⟨.bl uX,j,n,rfl,i⟩
theorem ZG0(z:PE X a ta):PE X (.UnaryOp .Not a pos) (ZNq ta):=by intro d s B H Q I h;refine UnaryOp_ (thn (z d s B H _ I h) λv F q=>?_);obtain⟨x,n,y,j,i⟩:=q;obtain⟨c,rfl,i⟩:=i;cases j;exact not_of (vO ⟨.bl (!c),n,y,rfl,i⟩)
noncomputable def tIf(t:TT)(ta tb:TE):TE:=λσ H Q=>t σ H λc H1=>if c=uJ then ta σ H1 Q else tb σ H1 Q
theorem ZPf{c:xG}(B:PT X c tA)(J:PE X a ta)(L:PE X b tb):PE X (.IfExp c a b pos) (tIf tA ta tb):=by
 intro i s j H Q I h;refine wpAny_IfExp (thn (B i s j H _ I h) λd n F=>?_);obtain⟨q,y,z⟩:=F;cases d with
 |true=>exact J i n j q Q y z
 |false=>exact L i n j q Q y z
end
def SqL(K:za)(H:Hp)(a:xE)(xs:List V):Prop:=
 Rd H a (.lst xs)∨
  ∃(o:Obj)(its:Array xP)(n:Nat),K.lookup a=uQ o/\o.cls=.type "list"/\o.dict=uZ/\o.data=.seq its n/\its.size<=sizeLine/\Vals xs its.toList
def SqT(K:za)(H:Hp)(a:xE)(xs:List V):Prop:=
 Rd H a (.tup xs)∨
  ∃(o:Obj)(its:Array xP)(n:Nat),K.lookup a=uQ o/\o.cls=.type "tuple"/\o.data=.seq its n/\its.size<=sizeLine/\Vals xs its.toList
noncomputable def absV:xP->Option V
 |.none=>uQ .non
 |.bool b=>uQ (.bl b)
 |.int i _=>uQ (.int i)
 |.str x _=>uQ (.str x)
 |.bytes b _=>uQ (.byt b)
 |.float b _=>uQ (.flt b)
 |.ref a=>uQ (.ref a)
 |.type n=>uQ (.ty n)
 |_=>uZ
theorem RelV.abs(r:RelV x u):absV u=uQ x:=by
 cases x with
 |non|bl _=>cases r;rfl
 |ref _|ty _=>cases r;rfl
 |_=>obtain⟨t,rfl⟩:=r;rfl
theorem RelV.inj(r:RelV x u)(q:RelV y u):x=y:=Option.some.inj (r.abs.symm.trans q.abs)
theorem Vals.inj:∀{xs ys:List V}{us:List xP},Vals xs us->Vals ys us->xs=ys
 |_,_,_,.nil,.nil=>rfl
 |_,_,_,.cons r t,.cons i d=>by rw[r.inj i,Vals.inj t d]
section
variable{X:Cx}{vS:List (xE×Obj)}{σ:St}{H:Hp}{s:xN}{a:xE}{xs ys:List V}
theorem SqL.of{K:za}(h:H a=uQ (.lst xs)):SqL K H a xs:=.inl (.inl h)
theorem SqT.of{K:za}(h:H a=uQ (.tup xs)):SqT K H a xs:=.inl (.inl h)
theorem Inv.list(I:Inv X vS σ H s)(h:SqL X.K H a xs):∃its:List xP,Vals xs its/\PlainL s.heap a its.toArray/\xs.length<=sizeLine:=by
 rcases h with h|⟨o,its,n,hk,d,i,hs,j,r⟩
 .obtain⟨z,its,n,r,e⟩:=h.ok I.hok;exact⟨its,r,⟨_,n,e,rfl,rfl,rfl⟩,z⟩
 refine⟨its.toList,r,⟨o,n,I.kIn a o hk,d,i,by simpa using hs⟩,?_⟩;have e:=r.length;simp[qF]at e;lia
theorem Inv.tuple(I:Inv X vS σ H s)(h:SqT X.K H a xs):∃its:List xP,Vals xs its/\IsTup s.heap a its.toArray/\xs.length<=sizeLine:=by
 rcases h with h|⟨o,its,n,hk,d,hs,i,r⟩
 .obtain⟨z,its,r,p⟩:=h.ok I.hok;exact⟨its,r,p,z⟩
 refine⟨its.toList,r,⟨o,I.kIn a o hk,d,n,by simpa using hs⟩,?_⟩;have e:=r.length;simp[qF]at e;lia
theorem Inv.Zh(I:Inv X vS σ H s)(h:SqL X.K H a xs)(h':SqL X.K H a ys):xs=ys:=by
 obtain⟨j,r,⟨o,n,e,_,_,d⟩,_⟩:=I.list h;obtain⟨i,B,⟨J,F,y,_,_,q⟩,_⟩:=I.list h';rw[e]at y;cases y;rw[d]at q;injection q with z _
 have:j=i:=by simpa using congrArg Array.toList z
 subst this;exact r.inj B
theorem Inv.Yh(I:Inv X vS σ H s)(h:SqT X.K H a xs)(h':SqT X.K H a ys):xs=ys:=by
 obtain⟨j,r,⟨o,e,_,n,d⟩,_⟩:=I.tuple h;obtain⟨i,B,⟨J,y,_,F,q⟩,_⟩:=I.tuple h';rw[e]at y;cases y;rw[d]at q;injection q with z _
 have:j=i:=by simpa using congrArg Array.toList z
 subst this;exact r.inj B
end
noncomputable abbrev Cx.wish(X:Cx)(E:xP->xN->Prop):Cx:={X with xe:=E}
noncomputable abbrev Cx.nox(X:Cx):Cx:=X.wish λ_ _=>False
theorem Cx.Ok.wish{X:Cx}(ok:X.Ok)(E:xP->xN->Prop):(X.wish E).Ok:=
 ⟨ok.mod,ok.kind,ok.glob,ok.blt,ok.above,ok.inj,ok.has,ok.cab,ok.hd,ok.frames,ok.stk,ok.exf,ok.bs,ok.bsz,ok.noex,ok.exfs,ok.funs,ok.frf⟩
theorem Cx.Ok.unwish{X:Cx}{E:xP->xN->Prop}(ok:(X.wish E).Ok):X.Ok:=
 ⟨ok.mod,ok.kind,ok.glob,ok.blt,ok.above,ok.inj,ok.has,ok.cab,ok.hd,ok.frames,ok.stk,ok.exf,ok.bs,ok.bsz,ok.noex,ok.exfs,ok.funs,ok.frf⟩
section
variable{X:Cx}{vS:List (xE×Obj)}{σ:St}{H:Hp}{s:xN}{E:xP->xN->Prop}
theorem Inv.wish(I:Inv X vS σ H s)(E:xP->xN->Prop):Inv (X.wish E) vS σ H s:=⟨I.ok.wish E,I.os,I.bare,I.base,I.loc,I.cell,I.free,I.Gs,I.pin,I.hok,I.len⟩
theorem Inv.unwish(I:Inv (X.wish E) vS σ H s):Inv X vS σ H s:=⟨I.ok.unwish,I.os,I.bare,I.base,I.loc,I.cell,I.free,I.Gs,I.pin,I.hok,I.len⟩
theorem SP.unwish(h:SP (X.wish E) vS D f s'):SP X vS D f s':=by
 cases f with
 |ret u=>obtain⟨v,d,i,I,r,q⟩:=h;exact⟨v,d,i,I.unwish,r,q⟩
 |_=>obtain⟨d,i,I,q⟩:=h;exact⟨d,i,I.unwish,q⟩
theorem PSs.nox{st:List xO}{t:TS}(h:PSs X.nox st t):PSs X st t:=λd s i H D I hw=>
 vH (h d s i H D (I.wish _) hw) (λ_ _ q=>q.unwish) λ_ _ z=>False.elim z
end
section
variable{X:Cx}{st:xO}{rest:List xO}{t u:TS}{e:xG}{te:TE}{pos:Pos}
noncomputable def ZKr:TS:=λD σ H=>D.nx σ H
noncomputable def tSeq(t u:TS):TS:=λD σ H=>t {D with nx:=u D} σ H
theorem ZO2:PSs X [] ZKr:=λ_ _ d H _ I h=>wpAny_execs_nil ⟨d,H,I,h⟩
theorem ZNc(y:PS X st t)(j:PSs X rest u):PSs X (st::rest) (tSeq t u):=by
 intro d s B H D I h;refine wpAny_execs_cons (thn (y d s B H {D with nx:=u D} I h) λf n q=>?_);cases f with
 |next=>
  obtain⟨i,F,z,q⟩:=q;exact j d n i F D z q
 |_=>exact q
theorem ZJR(j:PS X st t):PSs X [st] t:=by
 intro d s i H D I h;refine wpAny_execs_cons (thn (j d s i H D I h) λf n q=>?_);cases f with
 |next=>exact wpAny_execs_nil q
 |_=>exact q
theorem Inv.quiet{d:St}{H:Hp}(I:Inv X vS d H s):interactive X.env=uX:=by simp[interactive,I.ok.kind]
noncomputable def ZK8(te:TE):TS:=λD σ H=>te σ H λ_ H1=>D.nx σ H1
theorem ZM4(he:PE X e te)(hs:swapsWith e uZ pos.line X.env=pure uX:=by rfl):PS X (.Expr e pos) (ZK8 te):=by intro d s i H D I h;exact wpAny_Expr_any (thn (he d s i H _ I h) λv y ⟨x,j,q,z,n⟩=>⟨i,j,q,n⟩) I.quiet hs
noncomputable def tRet(te:TE):TS:=λD σ H=>te σ H D.rt
theorem ZNC(he:PE X e te):PS X (.Return (uQ e) pos) (tRet te):=by intro d s i H D I h;exact wpAny_Return_some (thn (he d s i H _ I h) λv z ⟨x,n,y,j,q⟩=>⟨x,i,n,y,j,q⟩)
noncomputable def tIfS(c:TT)(t u:TS):TS:=λD σ H=>c σ H λb H1=>if b=uJ then t D σ H1 else u D σ H1
theorem ZQE{c:xG}{a b:List xO}{n:TT}(F:PT X c n)(M:PSs X a t)(J:PSs X b u):PS X (.If c a b pos) (tIfS n t u):=by
 intro i s j H D I h;refine wpAny_If (thn (F i s j H _ I h) λd q L=>?_);obtain⟨y,z,B⟩:=L;cases d with
 |true=>exact M i q j y D z B
 |false=>exact J i q j y D z B
end
noncomputable abbrev TG:=V->St->Hp->(St->Hp->Prop)->Prop
noncomputable abbrev TGs:=List V->St->Hp->(St->Hp->Prop)->Prop
def PG(X:Cx)(target:xG)(t:TG):Prop:=
 ∀(vS:List (xE×Obj))(s:xN)(σ:St)(H:Hp)(v:V)(u:xP)(Q:St->Hp->Prop),Inv X vS σ H s->RelV v u->t v σ H Q->
  vA (vj X.prog X.w) X.A (assign target X.env u) (λ_=>NP X vS Q) X.xe s
def PGs(X:Cx)(ts:List xG)(t:TGs):Prop:=
 ∀(vS:List (xE×Obj))(s:xN)(σ:St)(H:Hp)(vs:List V)(us:List xP)(Q:St->Hp->Prop),Inv X vS σ H s->Vals vs us->t vs σ H Q->
  vA (vj X.prog X.w) X.A (assignInOrder ((xS ts X.env).map (·.2)) us) (λ_=>NP X vS Q) X.xe s
noncomputable abbrev TSet:=V->V->V->Hp->(Hp->Prop)->Prop
def PSet(X:Cx)(t:TSet):Prop:=
 ∀(vS:List (xE×Obj))(s:xN)(σ:St)(H:Hp)(o i v:V)(ov iv u:xP)(Q:Hp->Prop),Inv X vS σ H s->RelV o ov->RelV i iv->RelV v u->t o i v H Q->
  vA (vj X.prog X.w) X.A (setItem ov iv u) (λ_ s'=>∃H',Inv X vS σ H' s'/\Q H') X.xe s
noncomputable abbrev TIp:=V->V->Hp->VK->Prop
def PIp(X:Cx)(op:Operator)(t:TIp):Prop:=
 ∀(vS:List (xE×Obj))(s:xN)(σ:St)(H:Hp)(x y:V)(v u:xP)(Q:VK),Inv X vS σ H s->RelV x v->RelV y u->t x y H Q->
  vA (vj X.prog X.w) X.A (inplaceOp op v u) (EP X vS σ Q) X.xe s
section
variable{X:Cx}{pos:Pos}
noncomputable def ZCC(i:Nat):TG:=λv σ H Q=>Q (σ.set i (uQ v)) H
theorem ZMT(q:X.N.Nodup)(z:X.N[i]?=uQ x)(j:Loc X.env.scope x)(n:X.fn x=uJ∨X.env.scope.names.lookup x=uQ .local:=by first|exact .inl rfl|exact .inr rfl|assumption):PG X (.Name x pos) (ZCC i):=by intro d s F H v u Q I r h;exact wpAny_assign_Name (ZA0 I q z j r (λB y=>⟨_,H,y,h⟩) n)
noncomputable def gNil:TGs:=λvs σ H Q=>vs=[]/\Q σ H
noncomputable def ZPj(t:TG)(u:TGs):TGs:=λvs σ H Q=>∃v r,vs=v::r/\t v σ H λσ' H'=>u r σ' H' Q
theorem ZMQ:PGs X [] gNil:=by intro d s i H j n Q I r h;obtain⟨e,h⟩:=h;subst e;cases r;exact assignInOrder_nil ⟨i,H,I,h⟩
theorem ZMX{e:xG}{es:List xG}{t:TG}{u:TGs}(z:PG X e t)(j:PGs X es u)
  (hs:(xS (e::es) X.env).map (·.2)=assign e X.env::(xS es X.env).map (·.2):=by rfl):PGs X (e::es) (ZPj t u):=by
 intro d s L H M O Q I r h;obtain⟨v,N,J,h⟩:=h;subst J;cases r with
 |cons r q=>
  rw[hs];exact assignInOrder_cons (thn (z d s L H _ _ _ I r h) λ_ n ⟨i,y,B,F⟩=>(j d n i y _ _ Q B q F))
noncomputable def gTup(K:za)(n:Nat)(t:TGs):TG:=λv σ H Q=>∃a xs,v=.ref a/\SqT K H a xs/\xs.length=n/\t xs σ H Q
theorem ZMx{es:List xG}{k:Nat}{t:TGs}{n:Nat}(B:X.calm=uJ)(h:PGs X es t)
  (j:(xS es X.env).length=n:=by rfl) (i:(xS es X.env).findIdx? (·.1)=uZ:=by rfl):PG X (.Tuple es k pos) (gTup X.K n t):=by
 intro d s N H v u Q I r hw;obtain⟨a,F,M,q,J,hw⟩:=hw;subst M;cases r;obtain⟨z,rv,L,S⟩:=I.tuple q;exact assign_Tuple_tuple (I.ok.hd B) L (by simp[j,<-J,rv.length]) i λO y=>(h d _ N H F _ Q (I.kept (t':=s.toks) λb o e=>y b o (zM (zy e)) e) (by simpa using rv) hw)
noncomputable def gSub(to ti:TE)(t:TSet):TG:=λv σ H Q=>to σ H λo H1=>ti σ H1 λi H2=>t o i v H2 λH3=>Q σ H3
theorem ZN2{o i:xG}{q ti:TE}{t:TSet}(ho:PE X o q)(L:PE X i ti)(hs:PSet X t)
  (W:∀v,assign (.Subscript o i pos) X.env v=(do
   let ov<-holding [v] (eval o X.env);let iv<-holding [v,ov] (eval i X.env)
   standAt pos
   holding [v,ov,iv] (setItem ov iv v)
   release [v,ov,iv] []):=by intro _;rfl):PG X (.Subscript o i pos) (gSub q ti t):=by
 intro d s j H v u Q I r h;rw[W];refine vC (vG (thn (ho d s j H _ I h) λov z n=>?_));obtain⟨x,S,Z,O,F⟩:=n;refine vC (vG (thn (L d z j S _ Z F) λiv M n=>?_));obtain⟨y,B,U,J,q2⟩:=n;exact vC (wpAny_standAt (vC (vG (thn (hs d M j B x y v ov iv u _ U O J r q2) λ_ s3 ⟨Y,N,q3⟩=>(wpAny_release ⟨j,Y,N,q3⟩)))))
noncomputable def Xx(te:TE)(g:TG):TS:=λD σ H=>te σ H λx H1=>g x σ H1 D.nx
theorem ZJ3{e:xG}{te:TE}{g:TG}(he:PE X e te)(F:PG X tg g)(hs:swapsWithSole [tg] e pos.line X.env=pure uX:=by rfl)(hw:swappedStores [tg] e X.env=pure uZ:=by rfl)
  (z:(xS [tg] X.env).map (·.2)=[assign tg X.env]:=by rfl):PS X (.Assign [tg] e pos) (Xx te g):=by
 intro d s i H D I h;refine wpAny_Assign_stores (thn (he d s i H _ I h) λv j B=>?_) hs hw;obtain⟨x,y,L,n,J⟩:=B;rw[z];exact thn (F d j i y x v _ L n J) λ_ M q=>q
theorem ZMd{i:Nat}{x:Str}{e:xG}{te:TE}{d:Pos}(M:X.N.Nodup)(S:X.N[i]?=uQ x)(n:Loc X.env.scope x)(he:PE X e te)(hs:swapsWith e (uQ (.Name x d)) pos.line X.env=pure uX:=by rfl)(z:X.fn x=uJ∨X.env.scope.names.lookup x=uQ .local:=by first|exact .inl rfl|exact .inr rfl|assumption):
  PS X (.Assign [.Name x d] e pos) (Xx te (ZCC i)):=by
 intro j s O H D I h;exact wpAny_Assign_Name (thn (he j s O H _ I h) λv U ⟨y,B,F,q,L⟩=>(ZA0 F M S n q (λW J=>⟨_,B,J,L⟩) z)) hs
noncomputable def ipI(f:Int->Int->Int):TIp:=λx y H Q=>∃i j,x=.int i/\y=.int j/\Q (.int (f i j)) H
theorem ZKK:PIp X .Add (ipI λi j=>i+j):=by intro d s L H x y v u Q I n B h;obtain⟨i,j,z,F,q⟩:=h;subst z;subst F;obtain⟨t,rfl⟩:=n;obtain⟨J,rfl⟩:=B;exact iadd_int ⟨.int _,H,I.tok _,⟨_,rfl⟩,q⟩
theorem ZHT:PIp X .Sub (ipI λi j=>i-j):=by intro d s L H x y v u Q I n B h;obtain⟨i,j,z,F,q⟩:=h;subst z;subst F;obtain⟨t,rfl⟩:=n;obtain⟨J,rfl⟩:=B;exact isub_int ⟨.int _,H,I.tok _,⟨_,rfl⟩,q⟩
end
section
variable{X:Cx}{pos:Pos}
def ZPq(c:TT)(tb:TS):TS:=λD σ H=>∃W:Nat->St->Hp->Prop,(∃m,W m σ H)/\∀m σ H,W m σ H->
 c σ H λb H1=>if b=uJ then∃N:St->Hp->Prop,(∀σ' H',N σ' H'->∃m',m'<m/\W m' σ' H')/\tb {D with nx:=N,ct:=N,bk:=D.nx} σ H1 else D.nx σ H1
theorem ZOK{c:xG}{body:List xO}{tc:TT}{tb:TS}(hp:PassesOwn (vj X.prog X.w) X.A X.env X.xe)(hc:PT X c tc)(hb:PSs X body tb):PS X (.While c body [] pos) (ZPq tc tb):=by
 intro vS s σ H D I h;obtain⟨W,⟨m0,w0⟩,turn⟩:=h;refine wpAny_While (codeAny_whileLoop (λn s'=>∃σ' H',Inv X vS σ' H' s'/\W n σ' H') ?_ m0 ⟨σ,H,I,w0⟩);rintro n s1 ⟨σ1,H1,I1,w1⟩;refine vL hp (thn (hc vS s1 σ1 H1 _ I1 (turn n σ1 H1 w1)) λb s2 zz=>?_);obtain⟨H2,I2,q2⟩:=zz;cases b with
 | true=>
  obtain⟨N,hN,q2⟩:=q2;rw[if_pos rfl];refine vL hp (thn (hb vS s2 σ1 H2 _ I2 q2) λf s3 q3=>?_);cases f with
  |next|cont=>
   obtain⟨σ3,H3,I3,n3⟩:=q3;obtain⟨m',hm,w3⟩:=hN σ3 H3 n3;exact⟨m',hm,σ3,H3,I3,w3⟩
  |_=>exact q3
 |false=>
  rw[if_neg zC];exact wpAny_execs_nil ⟨σ1,H2,I2,q2⟩
end
structure It where
 go:Nat->Hp->Prop
 yld:Nat->Hp->V->Hp->Prop
 stop:Nat->Hp->Prop
def FpOk(X:Cx)(vS:List (xE×Obj))(H:Hp)(b:xE):Prop:=
 H b=uZ/\b≠X.env.locals/\b∉X.fs/\(b∈X.ex∨X.s₀.heap.objs.size<=b)/\(∀x c,X.env.cells.lookup x=uQ c->c≠b)/\∀p∈X.pn++vS,p.1≠b
theorem Inv.Hh{X:Cx}{j:St}{H H':Hp}{b:xE}(I:Inv X vS j H s)(d:s.heap.objs.size<=b)(i:H' b=uZ):FpOk X vS H' b:=by
 refine⟨i,jQ (zq I.lt d),I.nofs d,.inr (zE I.sz d),λx c e z=>?_,λp hp z=>(absurd (zq (zy (I.pin p hp).1) (by rw[z];exact d)) (qj _))⟩
 .obtain⟨v,q⟩:=I.cell x c e;exact absurd (zq q.lt (z▸d)) (qj _)
structure Turn (P:xL) (w:xR) (K:za) (tg:xG) (J:It) (fp:List xE) (it:xE) (tn:Nat->Heap->Prop):Prop where
 mem:it∈fp
 obj:∀i h,tn i h->∀b∈fp,∃o,h.get? b=uQ o/\∀v,o.data≠ .cell v
 keep:∀i h h',tn i h->(∀b∈fp,∀o,h.get? b=uQ o->h'.get? b=uQ o)->tn i h'
 item:∀(X:Cx),X.prog=P->X.w=w->X.K=K->X.calm=uJ->∀(i:Nat)(vS:List (xE×Obj))(s:xN)(σ:St)(H:Hp)(E:xP->xN->Prop),Inv X vS σ H s->(∀b∈fp,FpOk X vS H b)->tn i s.heap->J.go i H->
  vA (vj P w) X.A (pyNext (.ref it)) (λr s1=>∃u,r=uQ u/\
   vA (vj P w) X.A (vq tg (.ref it) u) (λ_ s2=>∃x H',Inv X vS σ H' s2/\RelV x u/\J.yld i H x H'/\tn (i+1) s2.heap/\∀b∈fp,H' b=uZ) E s1) E s
 done:∀(X:Cx),X.prog=P->X.w=w->X.K=K->X.calm=uJ->∀(i:Nat)(vS:List (xE×Obj))(s:xN)(σ:St)(H:Hp)(E:xP->xN->Prop),Inv X vS σ H s->(∀b∈fp,FpOk X vS H b)->tn i s.heap->J.stop i H->
  vA (vj P w) X.A (pyNext (.ref it)) (λr s1=>r=uZ/\Inv X vS σ H s1) E s
 self:∀(A:xF)(i:Nat)(s:xN)(Q:xP->xN->Prop)(E:xP->xN->Prop),tn i s.heap->Q (.ref it) s->vA (vj P w) A (pyIter (.ref it)) Q E s
noncomputable abbrev TI:=St->Hp->(It->Hp->Prop)->Prop
def PIE(X:Cx)(vS:List (xE×Obj))(σ:St)(tg:xG)(R:It->Hp->Prop)(itv:xP)(s2:xN):Prop:=
 ∃(it:xE)(fp:List xE)(tn:Nat->Heap->Prop)(J:It)(H':Hp),itv=.ref it/\Inv X vS σ H' s2/\Turn X.prog X.w X.K tg J fp it tn/\tn 0 s2.heap/\(∀b∈fp,FpOk X vS H' b)/\R J H'
def PI(X:Cx)(tg iter:xG)(wi:TI):Prop:=
 ∀(vS:List (xE×Obj))(s:xN)(σ:St)(H:Hp)(R:It->Hp->Prop),Inv X vS σ H s->wi σ H R->
  vA (vj X.prog X.w) X.A (eval iter X.env) (λv s1=>vA (vj X.prog X.w) X.A (pyIter v) (PIE X vS σ tg R) X.xe s1) X.xe s
theorem K5(ho:s.heap.get? it=uQ o)(hc:o.cls=.type n)(hd:o.data=.fields vs)
  (hn: ["enumerate","zip","dict_itemiterator","dict_reverseitemiterator","odict_iterator","itertools.zip_longest","itertools.pairwise"].contains n=uX) (hQ:Q () s):vA M A (vq tg (.ref it) u) Q E s:=by
 unfold vq
 cases tg<;>first
  |exact vM hQ
  | (cases u<;>first
    |exact vM hQ
    | (
      refine vC (wpAny_load ho ?_);rw[hc,hd];show vA M A (if(["enumerate","zip","dict_itemiterator","dict_reverseitemiterator","odict_iterator","itertools.zip_longest","itertools.pairwise"].contains n&&vs[0]?==uQ (vx _))=uJ then _ else _) Q E s;rw[if_neg (by intro h;rw[hn,Bool.false_and]at h;cases h)];exact vM hQ))
noncomputable def Itl(K:za)(a:xE):It:=
 ⟨λi H=>∃xs x,SqL K H a xs/\xs[i]?=uQ x,λi H x H'=>H'=H/\∀xs,SqL K H a xs->xs[i]?=uQ x,λi H=>∃xs,SqL K H a xs/\xs.length<=i⟩
noncomputable def Itt(K:za)(a:xE):It:=
 ⟨λi H=>∃xs x,SqT K H a xs/\xs[i]?=uQ x,λi H x H'=>H'=H/\∀xs,SqT K H a xs->xs[i]?=uQ x,λi H=>∃xs,SqT K H a xs/\xs.length<=i⟩
noncomputable def Itr(lo:Int)(n:Nat):It:=⟨λi _=>i<n,λi H x H'=>H'=H/\x=.int (lo+i),λi _=>n<=i⟩
theorem ZIH{w:xR}{K:za}(a it:xE):Turn P w K tg (Itl K a) [it] it (λi h=>h.IsListIter it a i) where
 mem:=by simp
 obj:=λi h j b n=>by
  have e:b=it:=by simpa using n
  subst e;obtain⟨o,e,c,d⟩:=j;exact⟨o,e,λv z=>by rw[d]at z;cases z⟩
 keep:=λi h h' j k=>j.at λo e=>k it (by simp) o e
 item:=by
  intro X hP hw U hc i q s σ H E I F j O;subst hP hw U;obtain⟨xs,x,B,N⟩:=O;obtain⟨L,rv,p,hz⟩:=I.list B;obtain⟨u,hu,ru⟩:=rv.get N;obtain⟨S,Y,f2,J,Z,M⟩:=F it (by simp);refine wpAny_pyNext_list_item j p.isList (by simpa using hu) λh' y sb=>?_
  obtain⟨o,e,c,d⟩:=id y;exact⟨u,rfl,K5 e c d (by decide) ⟨x,H,I.turned (t':=s.toks) (λb o n e=>(sb.2 b n).trans e) S Y J Z M,ru,⟨rfl,λys hy=>(I.Zh hy B)▸N⟩,y,λb n=>(F b n).1⟩⟩
 done:=by intro X hP hw U hc i q s σ H E I F j O;subst hP hw U;obtain⟨xs,B,N⟩:=O;obtain⟨L,rv,p,hz⟩:=I.list B;obtain⟨S,Y,f2,J,Z,M⟩:=F it (by simp);have hl:=rv.length;exact wpAny_pyNext_list_end (I.ok.hd hc) j p.isList (by simp;lia) λh' eb=>⟨rfl,I.turned (λb o n e=>eb b o n e) S Y J Z M⟩
 self:=λ_ _ _ _ _ j h=>wpAny_pyIter_listiter j h
theorem ZNm{w:xR}{K:za}(a it:xE):Turn P w K tg (Itt K a) [it] it (λi h=>h.IsTupleIter it a i) where
 mem:=by simp
 obj:=λi h j b n=>by
  have e:b=it:=by simpa using n
  subst e;obtain⟨o,e,c,d⟩:=j;exact⟨o,e,λv z=>by rw[d]at z;cases z⟩
 keep:=λi h h' j k=>j.at λo e=>k it (by simp) o e
 item:=by
  intro X hP hw U hc i q s σ H E I F j O;subst hP hw U;obtain⟨xs,x,B,N⟩:=O;obtain⟨L,rv,p,hz⟩:=I.tuple B;obtain⟨u,hu,ru⟩:=rv.get N;obtain⟨S,Y,f2,J,Z,M⟩:=F it (by simp);refine wpAny_pyNext_tuple_item j (p) (by simpa using hu) λh' y sb=>?_
  obtain⟨o,e,c,d⟩:=id y;exact⟨u,rfl,K5 e c d (by decide) ⟨x,H,I.turned (t':=s.toks) (λb o n e=>(sb.2 b n).trans e) S Y J Z M,ru,⟨rfl,λys hy=>(I.Yh hy B)▸N⟩,y,λb n=>(F b n).1⟩⟩
 done:=by intro X hP hw U hc i q s σ H E I F j O;subst hP hw U;obtain⟨xs,B,N⟩:=O;obtain⟨L,rv,p,hz⟩:=I.tuple B;obtain⟨S,Y,f2,J,Z,M⟩:=F it (by simp);have hl:=rv.length;exact wpAny_pyNext_tuple_end (I.ok.hd hc) j (p) (by simp;lia) λh' eb=>⟨rfl,I.turned (λb o n e=>eb b o n e) S Y J Z M⟩
 self:=λ_ _ _ _ _ j h=>wpAny_pyIter_tupleiter j h
theorem ZOe{w:xR}{K:za}(it:xE)(F:Int)(n:Nat):Turn P w K tg (Itr F n) [it] it (λi h=>IsRangeIter h it (F+(i:Nat)*1) ((n:Int)-(i:Nat)) 1) where
 mem:=by simp
 obj:=λi h d b j=>by
  have e:b=it:=by simpa using j
  subst e;exact⟨_,d,λv z=>by have z':=z;cases z'⟩
 keep:=λi h Z d k=>k it (by simp) _ d
 item:=by
  intro X hP hw U O i q s σ H E I B d N;subst hP hw U;obtain⟨S,Y,f2,J,M,L⟩:=B it (by simp);refine(Walks.range (prog:=X.prog) (w:=X.w) (I.ok.hd O) it F 1 n).item i s _ _ N d λv Z tk hv y kk=>?_
  obtain⟨t,rfl⟩:=hv;refine⟨_,rfl,K5 y rfl rfl (by decide) ⟨.int (F+i),H,I.turned (λb o j e=>kk b o (by simpa using j) e) S Y J M L,⟨t,?_⟩,⟨rfl,rfl⟩,y,λb j=>(B b j).1⟩⟩;rw[Int.mul_one]
 done:=by intro X hP hw U O i q s σ H E I B d N;subst hP hw U;obtain⟨S,Y,f2,J,M,L⟩:=B it (by simp);exact wpAny_pyNext_range_end (I.ok.hd O) d (by have:n<=i:=N;lia) λZ eb=>⟨rfl,I.turned (λb o j e=>eb b o j e) S Y J M L⟩
 self:=λ_ _ _ _ _ d h=>wpAny_pyIter_rangeiter d h
section
variable{X:Cx}{tg:xG}
def ZQD(K:za)(tl:TE):TI:=λσ H R=>tl σ H λx H1=>∃a,x=.ref a/\(∃xs,SqL K H1 a xs)/\R (Itl K a) H1
def iTup(K:za)(tl:TE):TI:=λσ H R=>tl σ H λx H1=>∃a,x=.ref a/\(∃xs,SqT K H1 a xs)/\R (Itt K a) H1
theorem ZAM{l:xG}{n:TE}(N:PE X l n):PI X tg l (ZQD X.K n):=by
 intro d s O H R I h;refine thn (N d s O H _ I h) λv j L=>?_
 obtain⟨x,J,i,z,M⟩:=L;obtain⟨a,e,⟨U,y⟩,q⟩:=M;subst e;cases z;obtain⟨B,rv,p,S⟩:=i.list y;refine wpAny_pyIter_list p.isList ?_;refine⟨j.heap.objs.size,[j.heap.objs.size],_,_,J,rfl,i.kept λb o e=>zZ _ e,ZIH a _,⟨_,z3 _ rfl,rfl,rfl⟩,λb F=>?_,q⟩;have e:b=j.heap.objs.size:=by simpa using F
 subst e;exact i.Hh (zx _) (i.hok.fresh (zx _))
theorem ZHX{l:xG}{n:TE}(N:PE X l n):PI X tg l (iTup X.K n):=by
 intro d s O H R I h;refine thn (N d s O H _ I h) λv j L=>?_
 obtain⟨x,J,i,z,M⟩:=L;obtain⟨a,e,⟨U,y⟩,q⟩:=M;subst e;cases z;obtain⟨B,rv,p,S⟩:=i.tuple y;refine wpAny_pyIter_tuple (p) ?_;refine⟨j.heap.objs.size,[j.heap.objs.size],_,_,J,rfl,i.kept λb o e=>zZ _ e,ZNm a _,⟨_,z3 _ rfl,rfl,rfl⟩,λb F=>?_,q⟩;have e:b=j.heap.objs.size:=by simpa using F
 subst e;exact i.Hh (zx _) (i.hok.fresh (zx _))
theorem ZIv{F:St}{H:Hp}{R:It->Hp->Prop}{E:xP->xN->Prop}{i n:Int}{t u v:Tok}{tk:Nat}(I:Inv X vS F H s)(O: -(2^62)<=i)(L:i<2^62)(J: -(2^62)<=n)(M:n<2^62)
  (q:R (Itr i (n-i).toNat) H):vA (vj X.prog X.w) X.A (pyIter (.ref s.heap.objs.size)) (PIE X vS F tg R) E {s with heap:=s.heap.push {cls:=.type "range",data:=.fields #[.int i t,.int n u,.int 1 v]},toks:=tk}:=by
 refine wpAny_pyIter_range (IsRange.new ..) (small_one O L J M) ?_;have B:Inv X vS F H {s with heap:=s.heap.push {cls:=.type "range",data:=.fields #[.int i t,.int n u,.int 1 v]},toks:=tk}:=I.kept λb o e=>zZ _ e
 refine⟨(s.heap.push {cls:=.type "range",data:=.fields #[.int i t,.int n u,.int 1 v]}).objs.size,[(s.heap.push {cls:=.type "range",data:=.fields #[.int i t,.int n u,.int 1 v]}).objs.size],_,_,H,rfl,
  B.kept λb o e=>zZ _ e,ZOe _ i (n-i).toNat,?_,λb N=>?_,q⟩
 .have S:i+((0:Nat):Int)*1=i:=by simp
  have U:(((n-i).toNat:Nat):Int)-((0:Nat):Int)=Builtin.Range.rangeSize i n 1:=by rw[rangeSize_one];split <;> lia
  rw[S,U];exact z3 _ rfl
 have e:b=(s.heap.push {cls:=.type "range",data:=.fields #[.int i t,.int n u,.int 1 v]}).objs.size:=by simpa using N
 subst e;exact B.Hh (zx _) (B.hok.fresh (zx _))
def ZMU(ta:TA):TI:=λσ H R=>ta σ H λvs H1=>∃j:Int,vs=[.int j]/\ -(2^62)<=j/\j<2^62/\R (Itr 0 j.toNat) H1
theorem ZHu{a:xG}{ta:TA}{p pos:Pos}(B:Gl X "range")(L:X.mg "range"=uZ)(M:PA X [a] ta)(hs:v8 [a] X.env=[(uX,eval a X.env)]:=by rfl):PI X tg (.Call (.Name "range" p) [a] [] pos) (ZMU ta):=by
 intro d s N H R I h;refine Call_ (Hy I B L boot_range (qa (thn (M pos d s N H _ I h) λW O z=>?_) hs rfl));obtain⟨S,U,F,n,i⟩:=z;obtain⟨j,e,i,J,q⟩:=i;subst e;cases n with
 |cons r y=>
  cases y;obtain⟨t,rfl⟩:=r;exact call_range_1 (ZIv F (by lia) (by lia) i J (by simpa using q))
def tFor(wi:TI)(g:TG)(tb:TS):TS:=λD σ H=>wi σ H λJ H1=>∃W:Nat->Nat->St->Hp->Prop,(∃m,W 0 m σ H1)/\∀i m σ H,W i m σ H->
 (J.stop i H/\D.nx σ H)∨(J.go i H/\∃N:St->Hp->Prop,(∀σ' H',N σ' H'->∃m',m'<m/\W (i+1) m' σ' H')/\∀x H',J.yld i H x H'->g x σ H' λσ2 H2=>tb {D with nx:=N,ct:=N,bk:=D.nx} σ2 H2)
noncomputable def Kq(fp:List xE)(h:Heap):List (xE×Obj):=fp.filterMap λb=>(h.get? b).map λo=>(b,o)
theorem Te(d:b∈fp)(e:h.get? b=uQ o):(b,o)∈Kq fp h:=List.mem_filterMap.mpr ⟨b,d,by rw[e];rfl⟩
theorem ZEy(hp:p∈Kq fp h):p.1∈fp/\h.get? p.1=uQ p.2:=by
 obtain⟨b,i,e⟩:=List.mem_filterMap.mp hp;cases q:h.get? b with
 |none=>rw[q]at e;cases e
 |some o=>
  rw[q]at e;have d:=Option.some.inj e;subst d;exact⟨i,q⟩
theorem Inv.pinned{n:St}{H:Hp}{fp:List xE}(I:Inv X vS n H s)(q:∀b∈fp,FpOk X vS H b)(ho:∀b∈fp,∃o,s.heap.get? b=uQ o/\∀v,o.data≠ .cell v):Inv X (vS++Kq fp s.heap) n H s:=
 I.Gj λp hp=>(qZ.mp hp).elim (λz=>I.pin p (zG _ z)) λz=>by obtain⟨i,e⟩:=ZEy z;obtain⟨B,F,y,_⟩:=q p.1 i;obtain⟨o,j,d⟩:=ho p.1 i;rw[e]at j;cases j;exact⟨e,B,F,y,d⟩
theorem Inv.unpinned{pl:List (xE×Obj)}{d:St}{H:Hp}(I:Inv X (vS++pl) d H s):Inv X vS d H s:=I.Gj λp hp=>I.pin p (zG _ (j6 _ hp))
theorem ZP5(hp:PassesOwn (vj X.prog X.w) X.A X.env X.xe)(hc:X.calm=uJ)(hi:PI X tg iter wi)(hg:PG X tg g)(F:PSs X body tb)
  (hs:∀x,foldedSetIterable iter X.env x=pure x:=by intro _;rfl):PS X (.For tg iter body [] pos) (tFor wi g tb):=by
 intro j s σ H D I h;refine wpAny_For (thn (hi j s σ H _ I h) λv s1 h1=>thn h1 λitv s2 h2=>?_) hs;obtain⟨it,fp,tn,J,H2,e,I2,T,st2,f2,W,⟨m0,w0⟩,Z⟩:=h2;subst e;have z:∀{M:Hp},(∀b∈fp,M b=uZ)->∀b∈fp,FpOk X j M b:=λhn b F=>⟨hn b F,(f2 b F).2⟩
 refine codeAny_forLoop_any (λn s'=>∃i B M,Inv X j B M s'/\tn i s'.heap/\(∀b∈fp,M b=uZ)/\W i n B M) ?_ m0 ⟨0,σ,H2,I2,st2,λb F=>(f2 b F).1,w0⟩;rintro n s3 ⟨i,y,H3,I3,st3,fr3,w3⟩;rcases Z i n y H3 w3 with⟨stop,qn⟩|⟨go,N,hN,step⟩
 .refine vL hp (thn (T.done X rfl rfl rfl hc i j s3 y H3 X.xe I3 (z fr3) st3 stop) λr s4 ⟨hr,I4⟩=>?_);subst hr;exact wpAny_execs_nil ⟨y,H3,I4,qn⟩
 refine vL hp (thn (T.item X rfl rfl rfl hc i j s3 y H3 X.xe I3 (z fr3) st3 go) λr s4 zz=>?_);obtain⟨u,hr,h4⟩:=zz;subst hr;refine vL hp (thn h4 λ_ s5 zz=>?_);obtain⟨x,H5,I5,r5,y5,Y,fr5⟩:=zz;refine vL hp (thn (hg _ s5 y H5 x u _ (I5.pinned (z fr5) (T.obj _ _ Y)) r5 (step x H5 y5)) λ_ s6 ⟨σ6,H6,I6,q6⟩=>?_);refine vL hp (thn (F _ s6 σ6 H6 _ I6 q6) λf s7 U=>?_)
 have S:∀{q:St}{L:Hp},Inv X (j++Kq fp s5.heap) q L s7->N q L->∃m,m<n/\∃i B M,Inv X j B M s7/\tn i s7.heap/\(∀b∈fp,M b=uZ)/\W i m B M:=λ{q L}O n7=>by obtain⟨m',hm,w7⟩:=hN q L n7;refine⟨m',hm,i+1,q,L,O.unpinned,T.keep _ _ _ Y λb F o e=>(O.pin (b,o) (zG _ (zG _ (Te F e)))).1,λb F=>?_,w7⟩;obtain⟨o,e,d⟩:=T.obj _ _ Y b F;exact(O.pin (b,o) (zG _ (zG _ (Te F e)))).2.1
 cases f with
 |brk=>obtain⟨q,L,O,U⟩:=U;exact⟨q,L,O.unpinned,U⟩
 |ret v=>obtain⟨x7,q,L,O,r7,U⟩:=U;exact⟨x7,q,L,O.unpinned,r7,U⟩
 |_=>obtain⟨q,L,O,n7⟩:=U;exact S O n7
end
noncomputable abbrev R2:=V->V->Hp->VK->Prop
def OpR(X:Cx)(f:xP->xP->Sem xP)(r:R2):Prop:=
 ∀(vS:List (xE×Obj))(s:xN)(σ:St)(H:Hp)(x y:V)(v u:xP)(Q:VK),Inv X vS σ H s->RelV x v->RelV y u->r x y H Q->
  vA (vj X.prog X.w) X.A (f v u) (EP X vS σ Q) X.xe s
def UnR(X:Cx)(f:xP->Sem xP)(r:V->Hp->VK->Prop):Prop:=
 ∀(vS:List (xE×Obj))(s:xN)(σ:St)(H:Hp)(x:V)(v:xP)(Q:VK),Inv X vS σ H s->RelV x v->r x H Q->
  vA (vj X.prog X.w) X.A (f v) (EP X vS σ Q) X.xe s
def CallR(X:Cx)(f:xP)(r:List V->Hp->VK->Prop):Prop:=
 ∀(vS:List (xE×Obj))(s:xN)(σ:St)(H:Hp)(xs:List V)(us:List xP)(Q:VK),Inv X vS σ H s->Vals xs us->r xs H Q->
  vA (vj X.prog X.w) X.A (call f us) (EP X vS σ Q) X.xe s
noncomputable def tOp(r:R2)(ta tb:TE):TE:=λσ H Q=>ta σ H λx H1=>tb σ H1 λy H2=>r x y H2 Q
noncomputable def tUn(r:V->Hp->VK->Prop)(ta:TE):TE:=λσ H Q=>ta σ H λx H1=>r x H1 Q
noncomputable def rI(C:Int->Int->Prop)(g:Int->Int->V):R2:=λx y H Q=>∃i j,x=.int i/\y=.int j/\C i j/\Q (g i j) H
noncomputable def rI0(g:Int->Int->V):R2:=λx y H Q=>∃i j,x=.int i/\y=.int j/\Q (g i j) H
def rU(g:Int->V):V->Hp->VK->Prop:=λx H Q=>∃i,x=.int i/\Q (g i) H
section
variable{X:Cx}{a b c:xG}{ta tb tc:TE}{pos:Pos}
theorem Wc(S:PE X a ta)(J:PE X b tb){i:St}{H:Hp}{R:V->V->Hp->Prop}(I:Inv X vS i H s)
  (h:ta i H λx q=>tb i q λy d=>R x y d) {Q:xP->xN->Prop} {f:xP->xP->Sem xP}
  (F:∀v u s2 x y d,Inv X vS i d s2->RelV x v->RelV y u->R x y d->vA (vj X.prog X.w) X.A (f v u) Q X.xe s2):
  vA (vj X.prog X.w) X.A (eval a X.env) (λv j=>vA (vj X.prog X.w) X.A (eval b X.env) (λu n=>vA (vj X.prog X.w) X.A (f v u) Q X.xe n) X.xe j) X.xe s:=by
 refine thn (S vS s i H _ I h) λv z ⟨x,q,N,B,L⟩=>?_
 exact thn (J vS z i q _ N L) λu s2 ⟨y,d,M,U,O⟩=>(F v u s2 x y d M B U O)
theorem ZKa{op:Operator}{r:R2}(ho:OpR X (vJ op) r)(F:PE X a ta)(n:PE X b tb):PE X (.BinOp a op b pos) (tOp r ta tb):=by intro d s L H Q I h;exact wpAny_BinOp (Wc F n I h λv u i x y J z j B q=>ho d i L J x y v u Q z j B q)
theorem ZKP(ho:UnR X (unaryOp op) r)(B:PE X a ta):PE X (.UnaryOp op a pos) (tUn r ta):=by intro d s i H Q I h;exact UnaryOp_ (thn (B d s i H _ I h) λv j ⟨x,q,z,n,y⟩=>ho d j i q x v Q z n y)
theorem opI{f:xP->xP->Sem xP}{C:Int->Int->Prop}{g:Int->Int->Int}
  (n:∀(i j:Int)(t u:Tok)(s:xN)(Q:xP->xN->Prop)(E:xP->xN->Prop),C i j->Q (.int (g i j) s.toks) {s with toks:=s.toks+1}->vA (vj X.prog X.w) X.A (f (.int i t) (.int j u)) Q E s):
  OpR X f (rI C λi j=>.int (g i j)):=by
 intro z s M H x y v u Q I J B h;obtain⟨i,j,rfl,rfl,L,q⟩:=h;obtain⟨t,rfl⟩:=J;obtain⟨F,rfl⟩:=B;exact n i j t F s _ _ L ⟨.int (g i j),H,I.tok _,⟨_,rfl⟩,q⟩
theorem opI0{f:xP->xP->Sem xP}{g:Int->Int->Int}
  (n:∀(i j:Int)(t u:Tok)(s:xN)(Q:xP->xN->Prop)(E:xP->xN->Prop),Q (.int (g i j) s.toks) {s with toks:=s.toks+1}->vA (vj X.prog X.w) X.A (f (.int i t) (.int j u)) Q E s):
  OpR X f (rI0 λi j=>.int (g i j)):=by
 intro z s L H x y v u Q I J B h;obtain⟨i,j,rfl,rfl,q⟩:=h;obtain⟨t,rfl⟩:=J;obtain⟨F,rfl⟩:=B;exact n i j t F s _ _ ⟨.int (g i j),H,I.tok _,⟨_,rfl⟩,q⟩
theorem Ql{f:xP->xP->Sem xP}{g:Int->Int->Bool}
  (d:∀(i j:Int)(t u:Tok)(s:xN)(Q:xP->xN->Prop)(E:xP->xN->Prop),Q (.bool (g i j)) s->vA (vj X.prog X.w) X.A (f (.int i t) (.int j u)) Q E s):
  OpR X f (rI0 λi j=>.bl (g i j)):=by
 intro n s J H x y v u Q I F z h;obtain⟨i,j,rfl,rfl,q⟩:=h;obtain⟨t,rfl⟩:=F;obtain⟨B,rfl⟩:=z;exact d i j t B s _ _ ⟨.bl (g i j),H,I,rfl,q⟩
def CPow(i j:Int):Prop:=0<=j/\j<=1000000/\i.natAbs<2^64
def CMul(i j:Int):Prop:=(-(2^64)<i/\i<2^64)∨(-(2^64)<j/\j<2^64)
theorem CMul.ok(h:CMul i j):IntMulOk i j:=by
 rcases h with⟨d,n⟩|⟨d,n⟩
 .exact .of_left (intBits_le_64 d n)
 exact .of_right (intBits_le_64 d n)
theorem ZHp:OpR X (vJ .Add) (rI0 λi j=>.int (i+j)):=opI0 λ_ _ _ _ _ _ _ q=>add_int q
theorem ZPv:OpR X (vJ .Sub) (rI0 λi j=>.int (i-j)):=opI0 λ_ _ _ _ _ _ _ q=>sub_int q
theorem ZNu:OpR X (vJ .Mod) (rI (λ_ j=>0<j) λi j=>.int (i%j)):=opI λi j _ _ _ _ _ d q=>by exact mod_int' (by lia) (by rw[Int.fmod_eq_emod_of_nonneg i (by lia)];exact q)
theorem ZG2:OpR X (vJ .Pow) (rI CPow λi j=>.int (i^j.toNat)):=opI λ_ _ _ _ _ _ _ d q=>pow_int_small d.1 d.2.1 d.2.2 q
theorem unI{f:xP->Sem xP}{g:Int->Int}
  (j:∀(i:Int)(t:Tok)(s:xN)(Q:xP->xN->Prop)(E:xP->xN->Prop),Q (.int (g i) s.toks) {s with toks:=s.toks+1}->vA (vj X.prog X.w) X.A (f (.int i t)) Q E s):
  UnR X f (rU λi=>.int (g i)):=by
 intro n s z H x v Q I y h;obtain⟨i,rfl,q⟩:=h;obtain⟨t,rfl⟩:=y;exact j i t s _ _ ⟨.int (g i),H,I.tok _,⟨_,rfl⟩,q⟩
theorem ZLY:UnR X (unaryOp .USub) (rU λi=>.int (-i)):=unI λ_ _ _ _ _ q=>neg_int q
end
section
variable{X:Cx}{a b c:xG}{ta tb tc:TE}{pos:Pos}
theorem Qy{i:St}{H:Hp}{Q:VK}{k d:Bool}(I:Inv X vS i H s)(q:Q (.bl k) H)(e:k=d):EP X vS i Q (.bool d) s:=by subst e;exact⟨.bl k,H,I,rfl,q⟩
theorem ZPT:OpR X (vW .Lt) (rI0 λi j=>.bl (decide (i<j))):=Ql λ_ _ _ _ _ _ _ q=>lt_int q
theorem ZH2:OpR X (vW .LtE) (rI0 λi j=>.bl (decide (i<=j))):=Ql λ_ _ _ _ _ _ _ q=>le_int q
theorem ZMJ:OpR X (vW .Gt) (rI0 λi j=>.bl (decide (j<i))):=Ql λ_ _ _ _ _ _ _ q=>gt_int q
theorem ZK6:OpR X (vW .GtE) (rI0 λi j=>.bl (decide (j<=i))):=Ql λ_ _ _ _ _ _ _ q=>ge_int q
theorem ZMo:OpR X (vW .Lt) (λx y H Q=>∃i j,x=.str i/\y=.str j/\Q (.bl (decide (i.cps.toList<j.cps.toList))) H):=by intro d s F H x y v u Q I z n h;obtain⟨i,j,rfl,rfl,q⟩:=h;obtain⟨t,rfl⟩:=z;obtain⟨B,rfl⟩:=n;exact lt_str (Qy I q rfl)
theorem ZKw:OpR X (vW .Is) (λx y H Q=>y=.non/\Q (.bl (decide (x=.non))) H):=by
 intro i s n H x y v u Q I d j h;obtain⟨rfl,q⟩:=h;cases j;refine is_none_gen (Qy I q ?_)
 cases x<;>first
  |(cases d;rfl)
  |(obtain⟨t,rfl⟩:=d;rfl)
theorem ZPl:OpR X (vW .IsNot) (λx y H Q=>y=.non/\Q (.bl (!decide (x=.non))) H):=by
 intro i s n H x y v u Q I d j h;obtain⟨rfl,q⟩:=h;cases j;refine isnot_none_gen (Qy I q ?_)
 cases x<;>first
  |(cases d;rfl)
  |(obtain⟨t,rfl⟩:=d;rfl)
theorem ZJh:OpR X (vW .NotIn) (λx y H Q=>∃i j,x=.str i/\y=.str j/\Q (.bl (!(!(jh j i 0 j.length 1).isEmpty))) H):=by intro d s F H x y v u Q I z n h;obtain⟨i,j,rfl,rfl,q⟩:=h;obtain⟨t,rfl⟩:=z;obtain⟨B,rfl⟩:=n;exact notIn_str (Qy I q rfl)
theorem OpR.or(h:OpR X f r)(h':OpR X f r'):OpR X f (λx y H Q=>r x y H Q∨r' x y H Q):=by
 intro d s j H x y v u Q I i n q;rcases q with q|q
 .exact h d s j H x y v u Q I i n q
 exact h' d s j H x y v u Q I i n q
theorem nomark(b:xG)(h:op≠ .In:=by decide)(i:op≠ .NotIn:=by decide):vZ op b=uX:=by
 have d:(op==CmpOp.In)=uX:=by cases op<;>first|rfl|exact absurd rfl h
 have j:(op==CmpOp.NotIn)=uX:=by cases op<;>first|rfl|exact absurd rfl i
 cases b<;>simp[vZ,d,j]
theorem ZKt{op:CmpOp}{r:R2}(ho:OpR X (vW op) r)(J:PE X a ta)(n:PE X b tb)(B:vZ op b=uX):PE X (.Compare a [op] [b] pos) (tOp r ta tb):=by intro d s M H Q I h;exact wpAny_Compare1 (Wc J n I h λv u i x y L z j F q=>ho d i M L x y v u Q z j F q) B
noncomputable def Nv(t:TE):TT:=λσ H Q=>t σ H λx H'=>∃k,x=.bl k/\Q k H'
theorem ZM8(ho:OpR X (vW op) r)(U:PE X a ta)(hb:PE X b tb)(S:vZ op b=uX):PT X (.Compare a [op] [b] pos) (Nv (tOp r ta tb)):=by
 intro d s i H Q I h;refine wpAny_isTrue_Compare1 (thn (U d s i H _ I h) λv j ⟨x,N,Y,M,B⟩=>thn (hb d j i N _ Y B) λu L ⟨y,n,O,F,q2⟩=>
  thn (ho d L i n x y v u _ O M F q2) λc s3 q=>?_) S
 obtain⟨z,W,J,Z,k,e,q3⟩:=q;subst e;cases Z;exact vO ⟨W,J,q3⟩
noncomputable def ZBl(r r':R2)(ta tb tc:TE):TE:=λσ H Q=>ta σ H λx H1=>tb σ H1 λy H2=>r x y H2 λz H3=>∃k,z=.bl k/\
 (if k=uJ then tc σ H3 λw' H4=>r' y w' H4 Q else Q (.bl uX) H3)
theorem ZIj(ho:OpR X (vW op) r)(n:OpR X (vW op') r')(ha:PE X a ta)(hb:PE X b tb)(hc:PE X c tc)
  (hm:lastMarks [op,op'] [b,c]=uX:=by with_unfolding_all rfl):PT X (.Compare a [op,op'] [b,c] pos) (Nv (ZBl r r' ta tb tc)):=by
 intro i s j H Q I h;refine isTrue_chain (thn (ha i s j H _ I h) λv L ⟨x,H1,I1,r1,q1⟩=>test_link (thn (hb i L j H1 _ I1 q1) λu s2 ⟨y,W,I2,q,q2⟩=>
  thn (ho i s2 j W x y v u _ I2 r1 q q2) λd U zz=>?_)) hm
 obtain⟨z,F,B,r3,k,e,J⟩:=zz;subst e;cases r3;refine vO ?_;cases k with
 |false=>
  obtain⟨k',O,M⟩:=J;cases O;exact ite_ff ⟨F,B,M⟩
 |true=>
  refine ite_tt (test_last (thn (hc i U j F _ B J) λY s4 ⟨z',S,I4,N,q4⟩=>thn (n i s4 j S y z' u Y _ I4 q N q4) λd' s5 ⟨z2,H5,I5,r5,k2,Z,q5⟩=>?_));subst Z;cases r5;exact vO ⟨H5,I5,q5⟩
theorem line63:(sizeLine:Nat)<2^63:=by rw[vk];decide
theorem ZIZ:OpR X (vJ .Add) (λx y H Q=>∃i j,x=.str i/\y=.str j/\i.length+j.length<=sizeLine/\Q (.str (i++j)) H):=by intro d s J H x y v u Q I F z h;obtain⟨i,j,rfl,rfl,n,q⟩:=h;obtain⟨t,rfl⟩:=F;obtain⟨B,rfl⟩:=z;exact add_str (λB tk=>⟨.str (i++j),H,I.tok _,⟨_,rfl⟩,q⟩) n
theorem ZJH:OpR X (inplaceOp .Add) (λx y H Q=>∃i j,x=.str i/\y=.str j/\i.length+j.length<=sizeLine/\Q (.str (i++j)) H):=by intro d s J H x y v u Q I F z h;obtain⟨i,j,rfl,rfl,n,q⟩:=h;obtain⟨t,rfl⟩:=F;obtain⟨B,rfl⟩:=z;exact iadd_str (λB tk=>⟨.str (i++j),H,I.tok _,⟨_,rfl⟩,q⟩) n
theorem vals1(r:Vals [x] us):∃u,us=[u]/\RelV x u:=by
 cases r with
 |cons i d=>cases d;exact⟨_,rfl,i⟩
theorem vals2(r:Vals [x,y] us):∃u w',us=[u,w']/\RelV x u/\RelV y w':=by
 cases r with
 |cons n i=>
  cases i with
  |cons j d=>cases d;exact⟨_,_,rfl,n,j⟩
theorem ZO0(y:X.calm=uJ):CallR X (.builtin "min") (λxs H Q=>∃i j,xs=[.int i,.int j]/\Q (.int (if j<i then j else i)) H):=by
 intro n s L H xs B Q I r h;obtain⟨i,j,rfl,q⟩:=h;obtain⟨u,J,rfl,⟨t,rfl⟩,⟨F,rfl⟩⟩:=vals2 r;refine min_two_ints (I.ok.hd y) λz tk k=>⟨_,H,I.kept k,?_,q⟩
 by_cases d:j<i
 .rw[if_pos d,if_pos d];exact⟨_,rfl⟩
 rw[if_neg d,if_neg d];exact⟨_,rfl⟩
end
structure ObjM (h:Heap) (x dx C:xE) (mA:Str->Option xP):Prop where
 obj:h.get? x=uQ (zf C dx)
 ns:h.Ns1 dx mA
 ne:dx≠x
theorem ZO7{h:Heap}{B:xE}{j:Str->Option xP}(n:h.Ns1 B j):∃od,h.get? B=uQ od/\∀name,qi name od=uQ (j name):=by
 obtain⟨o,i,N,M,F,hk,_,J⟩:=n;refine⟨o,M,λname=>?_⟩;have e:=J name;unfold nsFind findBy at e;rw[<-Array.find?_toList]at e;unfold qi;rw[F];dsimp only;split
 .rename_i y q;rw[q]at e;exact congrArg uQ e
 rename_i q;rw[q]at e
 have a:i.toList.any (·.refKey)=uX:=by rw[List.any_eq_false];intro y I;obtain⟨z,t,d⟩:=hk y (Array.mem_toList_iff.mp I);simp[DictEntry.refKey,d]
 have L:¬i.toList.any (·.refKey)=uJ:=a▸zC
 rw[if_neg L];exact congrArg uQ e
theorem ObjM.look(I:ObjM h x dx C mA):∃od,PySem.W.InstAt h x (zf C dx) C (uQ od)/\∀name,qi name od=uQ (mA name):=
 let⟨od,i,d⟩:=ZO7 I.ns
 ⟨od,⟨I.obj,rfl,rfl,i⟩,d⟩
section
variable{prog:xL}{w:xR}{A:xF}{E:xP->xN->Prop}{s:xN}{K:za}{x dx C f:xE}{mA:Str->Option xP}{name:Str}{v:xP}
theorem ZOw(X:K.In s.heap)(I:ObjM s.heap x dx C mA)(n:ja K C name=uJ)(y:ji K C=uJ)
  (z:zd K (.ref C) name=uQ uZ) (j:mA name=uQ v) (i:vh v=uJ) (h:Q v {s with toks:=s.toks+1}):
  vA (vj prog w) A (getAttr (.ref x) name expr) Q E s:=by
 obtain⟨B,J,q⟩:=I.look;exact PySem.W.get_value X J (xa n).1 (PySem.W.findObj_own y z rfl (by rw[q,j])) i h
theorem ZN6(X:K.In s.heap)(I:ObjM s.heap x dx C mA)(d:ja K C name=uJ)
  (j:zd K (.ref C) name=uQ (uQ (.ref f))) (y:xf K (.ref f)=uJ) (n:mA name=uZ) (h:Q (.ref f,[.ref x]) s):
  vA (vj prog w) A (getMethod (.ref x) name pl) Q E s:=by
 obtain⟨i,J,q⟩:=I.look
 exact PySem.W.method_fn X J (xa d).1 (xa d).2 j (beq_iff_eq.mp y) (by show(qi name i).map (·.isSome)=uQ uX;rw[q,n];rfl) h
theorem ZJt(X:K.In s.heap)(I:ObjM s.heap x dx C mA)
  (hs:zd K (.ref C) "__setattr__"=uQ (uQ (.builtin "object.__setattr__"))) (hp:wQ K C=uJ) (N:xg K C name=uQ uZ) (O:ji K C=uJ)
  (hw:jg mA ns) (hsz:ns.length<=sizeLine)
  (h:∀h',ObjM h' x dx C (λy=>if y=name then uQ v else mA y)->qU dx s.heap h'->Q () {s with heap:=h',toks:=s.toks+2}):
  vA (vj prog w) A (setAttr (.ref x) name v) Q E s:=by
 obtain⟨U,J,hl⟩:=I.look;refine PySem.W.set_plain X J hs (PySem.W.osa_open X J hp N λb=>?_);obtain⟨Y,S,q⟩:=PySem.W.any_some O;refine vC (vM (vC (vC (wpAny_loadPart I.obj (vC (PySem.W.Looks.here (PySem.W.looks_clsIn X S) ?_))))));rw[q];refine vM (vC (vM (vC ?_)));refine wpAny_nsSet1 I.ns λh' i j=>?_
 obtain⟨Z,M,L,z,B,F⟩:=i.count (PySem.Within.cons name v hw);exact vC (wpAny_lookBehind z (by rw[B];exact pastItsLine_dict (zE F (by rw[zN];lia))) (vM (h _ ⟨(j.2 _ (Ne.symm I.ne)).trans I.obj,i,I.ne⟩ j)))
theorem ZKF(X:K.In s.heap)(hm:wZ K C=uJ)
  (hi:zd K (.ref C) "__init__"=uQ (uQ (.ref f))) (hf:PySem.W.typeIn K (.ref f)=uQ (.type "function"))
  (h:codeAny (vj prog w) (A.under (.builtin "type.__call__" ⟨.ref C::vs,kw⟩)) (.call (.ref f) ⟨.ref (s.heap.objs.size+1)::vs,kw⟩) (PySem.W.InitBack (s.heap.objs.size+1) R)
   {s with heap:=(s.heap.push zg).push (zf C s.heap.objs.size)}):
  codeAny (vj prog w) A (.call (.ref C) ⟨vs,kw⟩) R s:=by
 obtain⟨hh,g,d,t,os⟩:=s;exact PySem.W.make_core (PySem.W.makes_of X hm) (PySem.W.looks_findIn X hi) (λself=>PySem.W.bind_fn X self hf) (.inl rfl) h
end
noncomputable def Et(f:Str)(v:V):List (Str×V)->List (Str×V)
 |[]=>[(f,v)]
 |(g,x)::r=>if g=f then(g,v)::r else(g,x)::Et f v r
theorem ZFo(f g:Str)(v:V):∀fs:List (Str×V),(Et f v fs).lookup g=if g=f then uQ v else fs.lookup g
 |[]=>by
  show jv g [(f,v)]=_;by_cases h:g=f
  .have d:=beq_iff_eq.mpr h;simp[jv,d,if_pos h]
  have d:=beq_eq_false_iff_ne.mpr h;simp[jv,d,if_neg h]
 | (k,x)::r=>by
  rw[show Et f v ((k,x)::r)=(if k=f then(k,v)::r else(k,x)::Et f v r)from rfl]
  by_cases hk:k=f
  .rw[if_pos hk];by_cases h:g=k
   .have d:=beq_iff_eq.mpr h;simp[jv,d,if_pos (h.trans hk)]
   have d:=beq_eq_false_iff_ne.mpr h;simp[jv,d,if_neg (λe:g=f=>h (e.trans hk.symm))]
  rw[if_neg hk];by_cases h:g=k
  .have d:=beq_iff_eq.mpr h;simp[jv,d,if_neg (λe:g=f=>hk (h.symm.trans e))]
  .have d:=beq_eq_false_iff_ne.mpr h;simp[jv,d];exact ZFo f g v r
theorem ZAN(f:Str)(v:V):∀fs:List (Str×V),f∈(Et f v fs).map (·.1)/\∀g,g∈fs.map (·.1)->g∈(Et f v fs).map (·.1)
 |[]=>⟨by simp[Et],λg h=>by simp at h⟩
 | (k,x)::r=>by
  obtain⟨i,d⟩:=ZAN f v r
  rw[show Et f v ((k,x)::r)=(if k=f then(k,v)::r else(k,x)::Et f v r)from rfl]
  by_cases hk:k=f
  .rw[if_pos hk];subst hk;exact⟨by simp,λg h=>by simpa using h⟩
  rw[if_neg hk];refine⟨?_,λg h=>?_⟩
  .rw[zK];exact zV _ i
  .rw[zK]at h⊢;rcases z0.mp h with e|e
   .exact z0.mpr (.inl e)
   exact zV _ (d g e)
theorem ZCR(f:Str)(v:V):∀fs:List (Str×V),(Et f v fs).length<=fs.length+1
 |[]=>by simp[Et]
 |(k,x)::r=>by
  have d:=ZCR f v r
  rw[show Et f v ((k,x)::r)=(if k=f then(k,v)::r else(k,x)::Et f v r)from rfl]
  by_cases hk:k=f
  .rw[if_pos hk,zN,zN];lia
  rw[if_neg hk,zN,zN];lia
theorem RelO.some_of(r:RelO (uQ v) o):∃u,o=uQ u/\RelV v u:=by
 cases o with
 |none=>exact(r).elim
 |some u=>exact⟨u,rfl,r⟩
theorem RelO.none_of(r:RelO uZ o):o=uZ:=by
 cases o with
 |none=>rfl
 |some u=>exact(r).elim
theorem ZLo(r:RelV v u):vh u=uJ:=by
 cases v with
 |non|bl b=>cases(r);rfl
 |ref a|ty n=>cases(r);rfl
 |_=>obtain⟨t,e⟩:=(r);cases e;rfl
section
variable{P:xL}{w:xR}{H H':Hp}{h h':Heap}{a C dx:xE}{fs fs':List (Str×V)}
theorem ZAU(hok:HOk P w H h)(e:H a=uQ (.ins C dx fs)):∃i,ObjM h a dx C i/\(∀f,RelO (fs.lookup f) (i f))/\jg i (fs.map (·.1))/\fs.length<=1000/\H dx=uQ (.own a):=by obtain⟨d,z,j,y,i,n,r,q⟩:=(hok a _ e);exact⟨i,⟨y,n,j⟩,r,q,z,d⟩
end
structure Cls (K:za) (C:xE):Prop where
 pg:ja K C Str.empty=uJ
 hd:ji K C=uJ
 po:wQ K C=uJ
 sa:zd K (.ref C) "__setattr__"=uQ (uQ (.builtin "object.__setattr__"))
theorem Cls.get{K:za}{C:xE}(c:Cls K C)(f:Str):ja K C f=uJ:=c.pg
def NoAttr(K:za)(C:xE)(f:Str):Prop:=zd K (.ref C) f=uQ uZ
theorem NoAttr.taker{K:za}{C:xE}{f:Str}(n:NoAttr K C f):xg K C f=uQ uZ:=by
 unfold xg;rw[n]
 rfl
structure Meth (K:za) (C:xE) (m:Str) (f:xE):Prop where
 at_:zd K (.ref C) m=uQ (uQ (.ref f))
 fn:xf K (.ref f)=uJ
 kp:qd K (.ref f)=uJ
section
variable{X:Cx}{vS:List (xE×Obj)}{σ:St}{H:Hp}{s:xN}{a C dx:xE}{fs:List (Str×V)}{f:Str}{v:V}{A:xF}{E:xP->xN->Prop}
theorem ZJ5(I:Inv X vS σ H s)(e:H a=uQ (.ins C dx fs))(c:Cls X.K C)(n:NoAttr X.K C f)(l:fs.lookup f=uQ v)
  (h:∀u s',Inv X vS σ H s'->RelV v u->Q u s'):vA (vj X.prog X.w) A (getAttr (.ref a) f b) Q E s:=by
 obtain⟨j,O,r,_,_,_⟩:=ZAU I.hok e;obtain⟨u,i,d⟩:=RelO.some_of (by rw[<-l];exact r f);exact ZOw I.kIn O (c.get f) c.hd n i (ZLo d) (h u _ (I.tok _) d)
theorem ZBQ(I:Inv X vS σ H s)(e:H a=uQ (.ins C dx fs))(c:Cls X.K C)(k:Meth X.K C m g)(l:fs.lookup m=uZ)
  (h:Q (.ref g,[.ref a]) s):vA (vj X.prog X.w) A (getMethod (.ref a) m pl) Q E s:=by
 obtain⟨d,O,r,_,_,_⟩:=ZAU I.hok e;exact ZN6 I.kIn O (c.get m) k.at_ k.fn (RelO.none_of (by rw[<-l];exact r m)) h
theorem ZGy(I:Inv X vS σ H s)(e:H a=uQ (.ins C dx fs))(c:Cls X.K C)(n:NoAttr X.K C f)(Y:fs.length<1000)(W:RelV y u)
  (h:∀s',Inv X vS σ (upd H a (.ins C dx (Et f y fs))) s'->Q () s'):vA (vj X.prog X.w) A (setAttr (.ref a) f u) Q E s:=by
 obtain⟨S,O,r,j,_,B⟩:=ZAU I.hok e
 have L:(fs.map (·.1)).length<=sizeLine:=by rw[zj,vk];lia
 refine ZJt I.kIn O c.sa c.po n.taker c.hd j L λF d J=>h _ ?_
 have i:∃o,F.get? dx=uQ o:=let⟨o,_,_,N,_⟩:=d.ns;⟨o,N⟩;refine I.write (e▸True.intro) (.inr B) (λb q M z=>(J.2 b M).trans z) i ?_;refine⟨(Am O.ne)▸B,?_,O.ne,d.obj,_,d.ns,λg=>?_,λg U=>?_⟩
 .have:=ZCR f y fs;lia
 .rw[ZFo];by_cases q:g=f
  .rw[if_pos q,if_pos q];exact W
  rw[if_neg q,if_neg q];exact r g
 by_cases q:g=f
 .rw[q];exact(ZAN f y fs).1
 .refine(ZAN f y fs).2 g (j g λz=>U ?_);show(if g=f then uQ u else S g)=uZ;rw[if_neg q];exact z
theorem Inv.made(I:Inv X vS σ H s):Inv X vS σ (upd (upd H s.heap.objs.size (.own (s.heap.objs.size+1))) (s.heap.objs.size+1) (.ins C s.heap.objs.size []))
  {s with heap:=(s.heap.push zg).push (zf C s.heap.objs.size)}:=by
 have e1:(s.heap.push zg).get? s.heap.objs.size=uQ zg:=z3 s.heap rfl;have e2:((s.heap.push zg).push (zf C s.heap.objs.size)).get? (s.heap.objs.size+1)=uQ (zf C s.heap.objs.size):=by have:=z3 (s.heap.push zg) (o:=zf C s.heap.objs.size) rfl;rwa[qN]at this
 refine(I.laid (a:=s.heap.objs.size) (o:=.own (s.heap.objs.size+1)) (h':=s.heap.push zg) (t':=s.toks) (λb u q=>zZ _ q) (zx _) ⟨_,e1⟩).laid (λb u q=>zZ _ q) (Nat.le_of_eq (qN _ _)) ?_;have ne:s.heap.objs.size≠s.heap.objs.size+1:=zM (qk _);refine⟨by rw[Am ne,Ew],j7 _,ne,e2,λ_=>uZ,(Heap.Ns1.of_empty ⟨zg,#[],_,e1,rfl,(λe he=>absurd he (by simp)),λ_=>rfl⟩).at λo q=>zZ _ q,λ_=>True.intro,λy hy=>absurd rfl hy⟩
theorem ZG6{f:Str}(i:xT e f env (eval e env)=eval e env)
  (h:vA (vj prog w) A (eval e env) (λo d=>vA (vj prog w) A (getAttr o f uJ) Q E d) E s):vA (vj prog w) A (eval (.Attribute e f pos) env) Q E s:=
 Attribute_any_ h (by rw[arm_eval_Attribute,i])
end
def tFld(K:za)(ta:TE)(f:Str):TE:=λσ H Q=>ta σ H λx H1=>∃a C dx fs v,x=.ref a/\H1 a=uQ (.ins C dx fs)/\Cls K C/\NoAttr K C f/\fs.lookup f=uQ v/\Q v H1
def sFld(K:za)(ta tv:TE)(f:Str):TS:=λD σ H=>tv σ H λy H1=>ta σ H1 λx H2=>∃a C dx fs,x=.ref a/\H2 a=uQ (.ins C dx fs)/\Cls K C/\NoAttr K C f/\fs.length<1000/\
 D.nx σ (upd H2 a (.ins C dx (Et f y fs)))
section
variable{X:Cx}{o e value:xG}{f:Str}{pos pos' tpos:Pos}{ta tv:TE}
theorem ZO9(he:PE X e ta)(M:xT e f X.env (eval e X.env)=eval e X.env):PE X (.Attribute e f pos) (tFld X.K ta f):=by intro d s L H Q I h;refine ZG6 M (thn (he d s L H _ I h) λu N z=>?_);obtain⟨x,y,B,j,a,C,U,fs,v,ex,J,c,n,l,q⟩:=z;subst ex;obtain rfl:u=Value.ref a:=j;exact ZJ5 B J c n l λS O F i=>⟨v,y,F,i,q⟩
theorem ZMn(O:PE X o ta)(z:PE X value tv)(hs:swapsWith value (uQ (.Attribute o f pos')) pos.line X.env=pure uX):PS X (.Assign [.Attribute o f pos'] value pos) (sFld X.K ta tv f):=by intro d s i H D I h;refine plainObj_wpAny_Assign_Attribute (thn (z d s i H _ I h) λu j ⟨y,L,W,N,q⟩=>thn (O d j i L _ W q) λU s2 B=>?_) hs;obtain⟨x,H2,M,S,a,C,dx,fs,ex,F,c,n,l,Y⟩:=B;subst ex;obtain rfl:U=Value.ref a:=S;exact ZGy M F c n l N λZ J=>⟨i,_,J,Y⟩
end
section
variable{X:Cx}{vS:List (xE×Obj)}{σ:St}{H:Hp}{s:xN}{A:xF}{E:xP->xN->Prop}{Q:xP->xN->Prop}{c:xP}{b:Bool}
end
structure Room (k:Nat) (A:xF):Prop where
 hd:A.handled=uZ
 dp:A.depth+3*k+5<recursionLimit
 un:A.units+16*k+200<cLine
theorem Room.mono(r:Room k A)(h:j<=k):Room j A:=⟨r.hd,by have:=r.dp;lia,by have:=r.un;lia⟩
theorem Room.deeper(r:Room (k+1) A)(env:Env):Room k (A.deeper env):=
 ⟨r.hd,by have:=r.dp;show A.depth+1+3*k+5<_;lia,by have:=r.un;show A.units+3+16*k+200<_;lia⟩
theorem Room.in1(r:Room (k+1) A):Room k A.in1:=
 ⟨r.hd,by have:=r.dp;show A.depth+3*k+5<_;lia,by have:=r.un;show A.units+1+16*k+200<_;lia⟩
theorem ZHK{A:xF}{C:xE}{us:List xP}{d:List (Str×xP)}:(A.under (.builtin "type.__call__" ⟨.ref C::us,d⟩)).depth=A.depth+1:=by
 first|rfl|simp[Around.under,Code.weight,Code.isCreation,Code.isGuard,Code.isCaller,Code.frames,Code.isFrame,guardIds]
theorem ZKD{A:xF}{C:xE}{us:List xP}{d:List (Str×xP)}:(A.under (.builtin "type.__call__" ⟨.ref C::us,d⟩)).units=A.units+1:=by
 first|rfl|simp[Around.under,Code.cUnits,Code.frames,Code.isFrame]
theorem Room.make(r:Room (k+1) A)(C:xE)(us:List xP)(d:List (Str×xP)):Room k (A.under (.builtin "type.__call__" ⟨.ref C::us,d⟩)):=
 ⟨r.hd,by have:=r.dp;rw[ZHK];lia,by have:=r.un;rw[ZKD];lia⟩
theorem Room.depth(r:Room k A):A.depth<recursionLimit:=by have:=r.dp;lia
theorem Room.units(r:Room k A):A.units+64<cLine:=by have:=r.un;lia
noncomputable def tNil:TA:=λ_ H Q=>Q [] H
noncomputable def ZKd(ta:TE)(tr:TA):TA:=λσ H Q=>ta σ H λx H1=>tr σ H1 λxs H2=>Q (x::xs) H2
section
variable{X:Cx}{e:xG}{es:List xG}{te:TE}{t:TA}{pos:Pos}
theorem ZJl:PA X [] tNil:=λ_ _ _ _ H Q I h=>Calls.spliced_nil ⟨[],H,I,.nil,h⟩
theorem ZId(N:PE X e te)(z:PA X es t)(hs:v8 (e::es) X.env=(uX,eval e X.env)::v8 es X.env:=by rfl):PA X (e::es) (ZKd te t):=by intro i d s j H Q I h;rw[hs];show vA _ _ (spliced ((uX,eval e X.env)::xU i (v8 es X.env))) _ _ s;exact Calls.spliced_cons (thn (N d s j H _ I h) λu n ⟨x,y,L,q,B⟩=>(thn (z i d n j y _ L B) λW U ⟨F,O,J,S,M⟩=>⟨x::F,O,J,.cons q S,M⟩))
def tTup(t:TA):TE:=λσ H Q=>t σ H λxs H1=>xs.length<=sizeLine/\∀p,H1 p=uZ->Q (.ref p) (upd H1 p (.tup xs))
def tLst(t:TA):TE:=λσ H Q=>t σ H λxs H1=>xs.length<=sizeLine/\∀p,H1 p=uZ->Q (.ref p) (upd H1 p (.lst xs))
theorem ZLp{x1}(h:PA X es t):PE X (.Tuple es x1 pos) (tTup t):=by intro d s J H Q I n;refine wpAny_Tuple_spliced (thn (h pos d s J H _ I n) λF i ⟨B,y,j,r,z,q⟩=>⟨by rw[<-r.length];exact z,?_⟩);exact⟨.ref i.heap.objs.size,upd y i.heap.objs.size (.tup B),j.laid (λb u e=>zZ _ e) (zx _) (⟨z,F,r,⟨_,z3 _ rfl,rfl,_,rfl⟩⟩),rfl,q _ (j.hok.fresh (zx _))⟩
theorem ZMG(h:PA X es t):PE X (.List es pos) (tLst t):=by intro d s J H Q I n;refine wpAny_List_spliced (thn (h pos d s J H _ I n) λF i ⟨B,y,j,r,z,q⟩=>⟨by rw[<-r.length];exact z,?_⟩);exact⟨.ref i.heap.objs.size,upd y i.heap.objs.size (.lst B),j.laid (λb u e=>zZ _ e) (zx _) ⟨z,F,0,r,z3 _ rfl⟩,rfl,q _ (j.hok.fresh (zx _))⟩
end
noncomputable abbrev Sp:=List V->Hp->VK->XK->Prop
noncomputable abbrev CXT:=List Env->Hp->xN->XK->xP->xN->Prop
structure Env0 (P:xL) (w:xR) (K:za) (mg:Str->Option xP) (base:Heap) (A:xF) (outer:List Env) (s:xN) (H:Hp):Prop where
 frames:A.frames=uQ outer
 mod:Mod K mg base
 bs:∀b o,base.get? b=uQ o->s.heap.get? b=uQ o/\H b=uZ
 bsz:base.objs.size<=s.heap.objs.size
 funs:s.heap.FunFrames base outer
 frf:∀b∈frs outer,H b=uZ
 hok:HOk P w H s.heap
 bare:AllBare s.gens
def CE(outer:List Env)(P:xL)(w:xR)(H:Hp)(s:xN)(Q:VK)(u:xP)(s':xN):Prop:=
 ∃v H',s'.os=s.os/\AllBare s'.gens/\Un (frs outer) [] H H' s.heap s'.heap/\HOk P w H' s'.heap/\RelV v u/\Q v H'
def CR(CX:CXT)(outer:List Env)(P:xL)(w:xR)(H:Hp)(s:xN)(Q:VK)(E:XK)(r:Result)(s':xN):Prop:=
 match r with
 |.ok (.ret u)=>CE outer P w H s Q u s'
 |.ok _=>False
 |.error e=>CX outer H s E e s'
structure FnOk (P:xL) (w:xR) (K:za) (mg:Str->Option xP) (base:Heap) (CX:CXT) (k:Nat) (f:xE) (fd:xH) (ps:List Str) (sp:Sp):Prop where
 len:∀vs H Q E,sp vs H Q E->vs.length=ps.length
 run:∀(A:xF)(outer:List Env)(s:xN)(H:Hp)(args:Args)(us:List xP)(vs:List V)(Q:VK)(E:XK),Room k A->Env0 P w K mg base A outer s H->BindsTo s fd args (ps.zip us)->Vals vs us->sp vs H Q E->
  codeAny (vj P w) A (.call (.ref f) args) (CR CX outer P w H s Q E) s
theorem Env0.make{w:xR}{K:za}{i:Str->Option xP}{d:Heap}{A:xF}{outer:List Env}{H:Hp}(e:Env0 P w K i d A outer s H)(C:xE)(us:List xP)(j:List (Str×xP)):
  Env0 P w K i d (A.under (.builtin "type.__call__" ⟨.ref C::us,j⟩)) outer s H:=⟨by first|exact e.frames|(simpa[Around.under,Code.envs,Code.isFrame,pushEnvs]using e.frames),e.mod,e.bs,e.bsz,e.funs,e.frf,e.hok,e.bare⟩
section
variable{X:Cx}{vS:List (xE×Obj)}{σ:St}{H:Hp}{s s':xN}
theorem Inv.env0(I:Inv X vS σ H s):Env0 X.prog X.w X.K X.mg X.base X.A X.stack s H:=
 ⟨I.ok.frames,I.ok.mod,I.bs,zE I.ok.bsz I.sz,I.stack,I.ZAC,I.hok,I.bare⟩
theorem Inv.after(I:Inv X vS σ H s)(h:CE X.stack X.prog X.w H s Q u s'):EP X vS σ Q u s':=by obtain⟨v,y,n,i,un,hok,r,q⟩:=h;obtain⟨B,g,d,t,j⟩:=s';obtain rfl:j=s.os:=n;exact⟨v,y,I.call un hok i (λb z=>absurd z (by simp)),r,q⟩
end
noncomputable def ZNd(sp:Sp)(dvs:List V)(E:XK)(t:TA):TE:=λσ H Q=>t σ H λvs H1=>sp (vs++dvs) H1 Q E
def Ue(C:xE)(m:Str)(sp:Sp)(dvs:List V)(E:XK)(ta:TE)(t:TA):TE:=λσ H Q=>ta σ H λx H1=>∃a dx fs,x=.ref a/\H1 a=uQ (.ins C dx fs)/\fs.lookup m=uZ/\
 t σ H1 λvs H2=>sp (x::(vs++dvs)) H2 Q E
def ZHJ(C:xE)(sp:Sp)(dvs:List V)(E:XK)(t:TA):TE:=λσ H Q=>t σ H λvs H1=>∀x dx,H1 x=uZ->H1 dx=uZ->dx≠x->
 sp (.ref x::(vs++dvs)) (upd (upd H1 dx (.own x)) x (.ins C dx [])) (λv H2=>v=.non/\Q (.ref x) H2) E
def Binds(K:za)(fd:xH)(ps:List Str)(ds:List xP):Prop:=
 ∀(s:xN)(us:List xP),K.In s.heap->(us++ds).length=ps.length->BindsTo s fd ⟨us,[]⟩ (ps.zip (us++ds))
theorem Binds.all{K:za}{d:xH}{ps:List Str}(h:∀us:List xP,us.length=ps.length->bindArgs d ⟨us,[]⟩=pure (ps.zip us)):Binds K d ps []:=λs us _ i=>by rw[qJ]at i⊢;exact .of_eq (h us i)
def Passes(CX:CXT)(X:Cx)(E:XK):Prop:=∀(vS:List (xE×Obj))(σ:St)(H:Hp)(s:xN)(e:xP)(s':xN),Inv X vS σ H s->CX X.stack H s E e s'->X.xe e s'
section
variable{X:Cx}{CX:CXT}{k:Nat}{f C:xE}{fd:xH}{ps:List Str}{sp:Sp}{dvs:List V}{ds:List xP}{E:XK}{x m:Str}{p pos apos:Pos}{e o:xG}{es:List xG}{ta:TE}{t:TA}
theorem Z6{i:St}{H:Hp}{Q:VK}{us:List xP}{vs:List V}(F:FnOk X.prog X.w X.K X.mg X.base CX k f fd ps sp)(y:Room k X.A)(q:Binds X.K fd ps ds)(hd:Vals dvs ds)(n:Passes CX X E)
  (I:Inv X vS i H s) (r:Vals vs us) (h:sp (vs++dvs) H Q E):vA (vj X.prog X.w) X.A (call (.ref f) us) (EP X vS i Q) X.xe s:=by
 have j:=r.append hd;have B:(us++ds).length=ps.length:=by rw[<-j.length];exact F.len _ _ _ _ h
 refine wpAny_call (vV (F.run X.A X.stack s H ⟨us,[]⟩ (us++ds) (vs++dvs) Q E y I.env0 (q s us I.kIn B) j h) λr z d=>?_);cases r with
 |error e=>exact n vS i H s e z I d
 |ok fl=>
  cases fl with
  |ret u=>exact I.after d
  |_=>exact False.elim d
theorem ZJn(F:FnOk X.prog X.w X.K X.mg X.base CX k f fd ps sp)(z:Room k X.A)(B:Gl X x)(J:X.mg x=uQ (.ref f))(hk:qd X.K (.ref f)=uJ)(N:Binds X.K fd ps ds)(hd:Vals dvs ds)(y:Passes CX X E)
  (L:PA X (e::es) t) (j:(x==("__debug__":Str))=uX:=by decide) (he:v8 (e::es) X.env=(uX,eval e X.env)::v8 es X.env:=by rfl) (i:(xU pos (v8 es X.env)).any (·.1)=uX:=by rfl):
  PE X (.Call (.Name x p) (e::es) [] pos) (ZNd sp dvs E t):=by
 intro d s M H Q I h;refine vB (Zv I B J ?_ j);exact xh I.ok.mod.kin hk (thn (L pos d s M H _ I h) λY O ⟨S,U,n,r,q⟩=>⟨n.kIn,Z6 F z N hd y n r q⟩) he i
theorem ZML{pl:Sem Bool}(he:PE X o ta)(c:Cls X.K C)(z:Meth X.K C m f)(F:FnOk X.prog X.w X.K X.mg X.base CX k f fd ps sp)(M:Room k X.A)(hb:Binds X.K fd ps ds)(hd:Vals dvs ds)(U:Passes CX X E)(Z:PA X (e::es) t)
  (i:v8 (e::es) X.env=(uX,eval e X.env)::v8 es X.env:=by rfl) (j:(xU pos (v8 es X.env)).any (·.1)=uX:=by rfl)
  (O:eval (.Call (.Attribute o m apos) (e::es) [] pos) X.env=(do
   let ov<-eval o X.env
   standAt apos.atName
   let(f,first)<-holding [ov] (getMethod ov m pl)
   callWith pos f first (xU pos (v8 (e::es) X.env)) (vQ pos (vY [] X.env))):=by rfl):
  PE X (.Call (.Attribute o m apos) (e::es) [] pos) (Ue C m sp dvs E ta t):=by
 intro d s n H Q I h;refine wW (thn (he d s n H _ I h) λu L N=>?_) O;obtain⟨x,Y,J,rx,a,dx,fs,ex,S,l,q⟩:=N;subst ex;obtain rfl:u=Value.ref a:=rx;refine ZBQ J S c z l ?_;exact xh I.ok.mod.kin z.kp (thn (Z pos d L n Y _ J q) λus s2 ⟨B,H2,y,r,q2⟩=>⟨y.kIn,Z6 (vs:=.ref a::B) F M hb hd U y (.cons rfl r) q2⟩) i j
theorem ZKU(he:PE X o ta)(c:Cls X.K C)(j:Meth X.K C m f)(F:FnOk X.prog X.w X.K X.mg X.base CX k f fd ps sp)(z:Room k X.A)(N:Binds X.K fd ps ds)(hd:Vals dvs ds)(n:Passes CX X E)
  (J:eval (.Call (.Attribute o m apos) [] [] pos) X.env=(do
   let ov<-eval o X.env
   standAt apos.atName
   let(f,first)<-holding [ov] (getMethod ov m pl)
   callWith pos f first (xU pos (v8 [] X.env)) (vQ pos (vY [] X.env))):=by rfl):
  PE X (.Call (.Attribute o m apos) [] [] pos) (Ue C m sp dvs E ta tNil):=by
 intro d s M H Q I h;refine wW (thn (he d s M H _ I h) λu O B=>?_) J;obtain⟨x,S,i,y,a,U,fs,ex,L,l,q⟩:=B;subst ex;obtain rfl:u=Value.ref a:=y;exact ZBQ i L c j l (PySem.W.callWith_K0 i.kIn j.kp (Z6 (vs:=[.ref a]) F z N hd n i (.cons rfl .nil) q))
structure Mk (K:za) (C f:xE):Prop where
 makes:wZ K C=uJ
 init:zd K (.ref C) "__init__"=uQ (uQ (.ref f))
 fn:xf K (.ref f)=uJ
 kp:qd K (.ref C)=uJ
theorem ZKN{σ:St}{H:Hp}{Q:VK}{us:List xP}{vs:List V}(M:Mk X.K C f)(F:FnOk X.prog X.w X.K X.mg X.base CX k f fd ps sp)(hr:Room (k+1) X.A)(hb:Binds X.K fd ps ds)(hd:Vals dvs ds)
  (hx:Passes CX X E) (I:Inv X vS σ H s) (r:Vals vs us)
  (h:∀x dx,H x=uZ->H dx=uZ->dx≠x->sp (.ref x::(vs++dvs)) (upd (upd H dx (.own x)) x (.ins C dx [])) (λv H2=>v=.non/\Q (.ref x) H2) E):
  vA (vj X.prog X.w) X.A (call (.ref C) us) (EP X vS σ Q) X.xe s:=by
 have hq:=h (s.heap.objs.size+1) s.heap.objs.size (I.hok.fresh (j8 _)) (I.hok.fresh (zx _)) (zM (qk _));have I2:=Inv.made (C:=C) I;have r2:Vals (V.ref (s.heap.objs.size+1)::(vs++dvs)) (Value.ref (s.heap.objs.size+1)::(us++ds)):=.cons rfl (r.append hd);have hl:(Value.ref (s.heap.objs.size+1)::us++ds).length=ps.length:=by have e:=r2.length;rw[F.len _ _ _ _ hq]at e;exact e.symm
 refine wpAny_call (ZKF I.kIn M.makes M.init (beq_iff_eq.mp M.fn) (vV (F.run _ X.stack _ _ ⟨Value.ref (s.heap.objs.size+1)::us,[]⟩ (Value.ref (s.heap.objs.size+1)::(us++ds)) _ _ E (hr.make C us [])
  (I2.env0.make C us []) (hb _ (Value.ref (s.heap.objs.size+1)::us) I2.kIn hl) r2 hq) λr s' hq'=>?_))
 cases r with
 |error e=>exact hx vS σ _ _ e s' I2 hq'
 | ok fl=>
  cases fl with
  |ret u=>
   obtain⟨v,H',I3,rv,ev,q3⟩:=I2.after hq';subst ev;exact⟨rv,⟨V.ref (s.heap.objs.size+1),H',I3,rfl,q3⟩⟩
  |_=>exact False.elim hq'
theorem ZHy(M:Mk X.K C f)(F:FnOk X.prog X.w X.K X.mg X.base CX k f fd ps sp)(z:Room (k+1) X.A)(B:Gl X x)(J:X.mg x=uQ (.ref C))(O:Binds X.K fd ps ds)(hd:Vals dvs ds)(y:Passes CX X E)
  (L:PA X (e::es) t) (j:(x==("__debug__":Str))=uX:=by decide) (he:v8 (e::es) X.env=(uX,eval e X.env)::v8 es X.env:=by rfl) (i:(xU pos (v8 es X.env)).any (·.1)=uX:=by rfl):
  PE X (.Call (.Name x p) (e::es) [] pos) (ZHJ C sp dvs E t):=by
 intro d s N H Q I h;refine vB (Zv I B J ?_ j);exact xh I.ok.mod.kin M.kp (thn (L pos d s N H _ I h) λZ S ⟨U,Y,n,r,q⟩=>⟨n.kIn,ZKN M F z O hd y n r q⟩) he i
end
section
variable{X:Cx}{CX:CXT}{k:Nat}{f C:xE}{fd:xH}{ps ks:List Str}{sp:Sp}{E:XK}{x m:Str}{p pos apos kpos:Pos}{e o:xG}{es:List xG}{kws:List Keyword}{te ta:TE}{t tk:TA}{nm:Option Str}
variable{g:List xP->List xP->List xP}{gV:List V->List V->List V}
end
structure FnScope (N P:List Str) (sc:xM):Prop where
 kind:sc.kind=.function
 co:sc.isCoroutine=uX
 gen:sc.isGenerator=uX
 nd:N.Nodup
 pre:N.take P.length=P
 par:∀x∈P,sc.names.lookup x=uQ .local∨sc.names.lookup x=uQ .cell
 nofree:∀y∈sc.names,y.2≠ .free
theorem ZEG{d:Str->Option xI}{x:Str}:∀{binds:List (Str×xP)}{m:Str->Option xP},(∀v,(x,v)∉binds)->bindL d binds m x=m x
 |[],_,_=>rfl
 | (n,v)::r,m,h=>by
  unfold bindL;rw[ZEG λw hw=>h w (zV _ hw)];split
  .have:x≠n:=by rintro rfl;exact h v zw
   simp[this]
  rfl
theorem ZBd{d:Str->Option xI}{x:Str}:∀{binds:List (Str×xP)}{m:Str->Option xP},(∀v,(x,v)∉binds)->bindC d binds m x=m x
 |[],_,_=>rfl
 |(n,v)::r,m,h=>by
  unfold bindC;rw[ZBd λw hw=>h w (zV _ hw)];split
  .rfl
  have:x≠n:=by rintro rfl;exact h v zw
  simp[this]
theorem ZDv{d:Str->Option xI}{x:Str}{v:xP}:∀{P:List Str}{vs:List xP}{i:Nat}{m:Str->Option xP},P.Nodup->P[i]?=uQ x->vs[i]?=uQ v->d x=uQ .local->
  bindL d (P.zip vs) m x=uQ v
 |[],_,_,_,_,h,_,_|_::_,[],_,_,_,_,h,_=>by simp at h
 |p::P,w::vs,0,m,q,n,j,hk=>by simp at n j;subst n;subst j;show bindL d ((p,w)::P.zip vs) m p=_;unfold bindL;rw[ZEG λv y=>(jD.mp q).1 (List.of_mem_zip y).1,if_pos hk];simp
 |p::P,w::vs,i+1,m,q,n,j,hk=>by unfold bindL;exact ZDv (jD.mp q).2 (by simpa using n) (by simpa using j) hk
theorem ZDA{d:Str->Option xI}{x:Str}{v:xP}:∀{P:List Str}{vs:List xP}{i:Nat}{m:Str->Option xP},P.Nodup->P[i]?=uQ x->vs[i]?=uQ v->d x≠uQ .local->
  bindC d (P.zip vs) m x=uQ v
 |[],_,_,_,_,h,_,_|_::_,[],_,_,_,_,h,_=>by simp at h
 |p::P,w::vs,0,m,q,n,j,hk=>by simp at n j;subst n;subst j;show bindC d ((p,w)::P.zip vs) m p=_;unfold bindC;rw[ZBd λv y=>(jD.mp q).1 (List.of_mem_zip y).1,if_neg hk];simp
 |p::P,w::vs,i+1,m,q,n,j,hk=>by unfold bindC;exact ZDA (jD.mp q).2 (by simpa using n) (by simpa using j) hk
noncomputable def start(N:List Str)(vs:List V):St:=vs.map uQ++zQ (N.length-vs.length) uZ
noncomputable def Jt(CX:CXT)(P:xL)(w:xR)(K:za)(mg:Str->Option xP)(base:Heap)(N:List Str)(qual:Str)(scope:xM)(f:xE)(cd:xP)(A:xF)(outer:List Env)(s:xN)(H:Hp)(E:XK):Cx where
 prog:=P
 w:=w
 K:=K
 mg:=mg
 base:=base
 A:=A.deeper (envOfC qual scope s.heap.objs.size f cd)
 N:=N
 s₀:=s
 H₀:=H
 env:=envOfC qual scope s.heap.objs.size f cd
 outer:=outer
 stack:=envOfC qual scope s.heap.objs.size f cd::outer
 ex:=[]
 calm:=uJ
 fn:=λ_=>uJ
 pn:=[]
 xe:=λe s'=>vA (vj P w) (A.deeper (envOfC qual scope s.heap.objs.size f cd)) (leaving (envOfC qual scope s.heap.objs.size f cd) e) (λ_ s''=>CX outer H s E e s'') (λe' s''=>CX outer H s E e' s'') s'
theorem ZB2{sc:xM}{n:Nat}{x:Str}(h:sc.names.lookup x=uQ .cell):∃c,(cellsFrom n sc.names []).lookup x=uQ c:=by exact jU.mp (wK sc.names n [] (.inl h))
theorem ZOl{CX:CXT}{w:xR}{K:za}{M:Str->Option xP}{n:Heap}{N ps:List Str}{qual:Str}{d:xM}{f:xE}{cd:xP}{A:xF}{outer:List Env}{s1:xN}{H:Hp}{E:XK}{us:List xP}{vs:List V}
  (S:FnScope N ps d) (hd:A.handled=uZ) (B:Env0 P w K M n A outer s H) (hl:vs.length=ps.length) (r:Vals vs us)
  (x:InCallC s s.heap.objs.size (bindL (envOfC qual d s.heap.objs.size f cd).kindOf (ps.zip us) λ_=>uZ) (cellsFrom (s.heap.objs.size+1) d.names []) (bindC (envOfC qual d s.heap.objs.size f cd).kindOf (ps.zip us) λ_=>uZ) s1):
  Inv (Jt CX P w K M n N qual d f cd A outer s H E) [] (start N vs) H s1:=by
 have U:ps.length<=N.length:=by have:=congrArg jG S.pre;rw[qR]at this;lia
 obtain⟨J,tk,rfl,hk⟩:=x.done
 have noA:∀b:xE,b∉(Jt CX P w K M n N qual d f cd A outer s H E).ex:=λb z=>absurd (show b∈([]:List xE)from z) (by simp)
 refine⟨⟨B.mod,S.kind,rfl,rfl,zx _,λy z c J j=>?_,λy F=>?_,λy c _ h=>?_,λ_=>hd,Around.frames_deeper B.frames,.inr ⟨rfl,rfl⟩,λb z=>absurd z (noA b),B.bs,B.bsz,λb _ _=>noA b,λb z=>absurd z (noA b),B.funs,B.frf⟩,
  rfl,B.bare,Un.kept hk,⟨_,x.toInCall.ns,λi y v J j Z=>?_⟩,λy c h=>⟨_,x.cell y c h⟩,B.hok.fresh (zx _),λy c h=>?_,λp hp=>absurd (show p∈([]:List (xE×Obj))from hp) (by simp),B.hok.kept hk,?_⟩
 .exact name_of_addr x.apart (zc J) (zc j)
 .have F:=F;rcases F with F|F
  .exact ZB2 F
  exact absurd rfl (S.nofree _ (zc F))
 .exact jC (x.above y c (zc h))
 .have L:i<vs.length:=by
   unfold start at j;by_cases L:i<vs.length
   .exact L
   rw[zD (by simpa using L)]at j;rw[qG]at j
   split at j<;>cases j
  have Y:vs[i]?=uQ v:=by
   unfold start at j;rw[z9 (by simpa using L),zv]at j;cases e:vs[i]? with
   |none=>rw[e]at j;cases j
   |some a=>rw[e]at j;cases j;rfl
  obtain⟨u,O,rv⟩:=r.get Y;have hp:ps[i]?=uQ y:=by rw[<-S.pre,qz (by lia)];exact J
  have I:ps.Nodup:=by rw[<-S.pre];exact S.nd.sublist (List.take_sublist _ _)
  refine⟨u,rv,?_⟩;rcases S.par y (q0 hp)with k|k
  .exact .inl ⟨k,ZDv I hp O k⟩
  obtain⟨c,e⟩:=ZB2 k;refine .inr ⟨.inl k,c,e,?_⟩;have q:=x.cell y c e;rw[ZDA I hp O (by show d.names.lookup y≠_;rw[k];decide)]at q;exact q
 .exact B.hok.fresh (jC (x.above y c (zc h)))
 unfold start;show _=N.length;rw[zH,zj,qO];lia
theorem ZCM{CX:CXT}{w:xR}{K:za}{mg:Str->Option xP}{j:Heap}{k:Nat}{f:xE}{name qual:Str}{i:Arguments}{B:List xO}{d:xM}{dV kV Y pm z ct oc:xP}{an od:Option xE}
  {osl:Array (Option xP)} {N ps:List Str} {sp:Sp} (lk:K.lookup f=uQ ⟨oc,od,.func (jb name qual i B d dV kV Y pm an z ct),osl⟩) (Z:wq K z qual=uJ) (S:FnScope N ps d)
  (len:∀vs H Q E,sp vs H Q E->vs.length=ps.length)
  (I:∀(A:xF)(outer:List Env)(s:xN)(H:Hp)(vs:List V)(Q:VK)(E:XK),Room k (A.deeper (envOfC qual d s.heap.objs.size f z))->sp vs H Q E->
   ∃t,PSs (Jt CX P w K mg j N qual d f z A outer s H E) B t/\t {nx:=λ_ H'=>Q .non H',rt:=Q} (start N vs) H):
  FnOk P w K mg j CX (k+1) f (jb name qual i B d dV kV Y pm an z ct) ps sp:=by
 refine⟨len,λA outer s H args us vs Q E hr O hb r U=>?_⟩;have hl:=len _ _ _ _ U;have KX:=O.mod.kin.keeps λb o e=>(O.bs b o e).1
 have L:∀y∈ps.zip us,d.names.lookup y.1=uQ .local∨(d.names.lookup y.1=uQ .cell/\((cellsFrom (s.heap.objs.size+1) d.names []).lookup y.1).isSome=uJ):=λ⟨n,v⟩ hy=>by
  rcases S.par n (List.of_mem_zip hy).1 with q|q
  .exact .inl q
  exact .inr ⟨q,wK _ _ _ (.inl q)⟩
 refine codeAny_call_function hr.depth (KX _ _ lk) rfl S.co S.gen rfl (PySem.W.codeRec_of KX Z) (hb _ _ _ _ ?_);refine wpAny_newFunctionEnv_cells S.kind L λenv he s1 x=>?_
 subst he;refine⟨(O.mod.nolimit.keeps λb o e=>(O.bs b o e).1).keeps x.toInCall.keep,codeAny_func ?_⟩;obtain⟨t,ht,hq⟩:=I A outer s H vs Q E (hr.deeper _) U;refine vH (ht [] s1 (start N vs) H _ (ZOl S hr.hd O hl r x) hq) (λfl s' hs=>?_) λe s' hs=>hs
 have M:∀{F:St}{H':Hp}{v:V}{u:xP},Inv (Jt CX P w K mg j N qual d f z A outer s H E) [] F H' s'->RelV v u->Q v H'->CE outer P w H s Q u s':=
  λ{F H' v u}J rv q=>⟨v,H',J.os,J.bare,J.base,J.hok,rv,q⟩
 cases fl with
 |ret u=>
  obtain⟨v,F,H',J,rv,q⟩:=hs;exact M J rv q
 |next=>
  obtain⟨F,H',J,q⟩:=hs;exact M (v:=V.non) J rfl q
 |_=>
  obtain⟨_,_,_,q⟩:=hs;exact False.elim q
section
variable{X:Cx}{x:Str}{p pos:Pos}{e:xG}{es:List xG}{t:TA}{id T:String}{r:List V->Hp->VK->Prop}
noncomputable def tCB(r:List V->Hp->VK->Prop)(t:TA):TE:=λσ H Q=>t σ H λvs H1=>r vs H1 Q
theorem ZJs(W:CallR X (.builtin id) r)(L:Gl X x)(O:X.mg x=uZ)(F:vX x=uQ (.builtin id))(U:PA X (e::es) t)(q:x≠"__name__":=by decide)(j:(x==("__debug__":Str))=uX:=by decide)
  (he:v8 (e::es) X.env=(uX,eval e X.env)::v8 es X.env:=by rfl) (i:(xU pos (v8 es X.env)).any (·.1)=uX:=by rfl):PE X (.Call (.Name x p) (e::es) [] pos) (tCB r t):=by
 intro d s n H Q I h;exact vB (Hy I L O F (PyProof.Rows.callWith_builtin1 (thn (U pos d s n H _ I h) λS y ⟨B,J,N,z,M⟩=>W d y n J B S Q N z M) he i) q j)
theorem ZI8(W:CallR X (.type T) r)(L:Gl X x)(O:X.mg x=uZ)(F:vX x=uQ (.type T))(U:PA X (e::es) t)(q:x≠"__name__":=by decide)(j:(x==("__debug__":Str))=uX:=by decide)
  (he:v8 (e::es) X.env=(uX,eval e X.env)::v8 es X.env:=by rfl) (i:(xU pos (v8 es X.env)).any (·.1)=uX:=by rfl):PE X (.Call (.Name x p) (e::es) [] pos) (tCB r t):=by
 intro d s n H Q I h;exact vB (Hy I L O F (qa (thn (U pos d s n H _ I h) λS y ⟨B,J,N,z,M⟩=>W d y n J B S Q N z M) he i) q j)
end
end _L
namespace HT
open PySem PyProof.Rows
section
open PySem.SeqAt
open PySem.AutoSeq1 (wpAny_loadPart')
open PySem.MeetsSeq PySem.MeetsSeq2 PySem.MeetsSeq3
end
section
variable{prog:xL}{w:xR}{A:xF}{E:xP->xN->Prop}{s:xN}
theorem ZJ0(ht:IsTup s.heap t vs.toArray)(hb:IsTup s.heap b i.toArray)(O:vs≠[])
  (h1:i=[]->Q (.ref t) s) (h2:i≠[]->Q (.ref s.heap.objs.size) {s with heap:=s.heap.push {cls:=.type "tuple",data:=.seq (vs++i).toArray}})
  (hsz:vs.length+i.length<=sizeLine):vA (vj prog w) A (vJ .Add (.ref t) (.ref b)) Q E s:=by
 obtain⟨⟨M,Y,q,S⟩,J,W,n,N⟩:=id ht;obtain⟨⟨Z,z,L,y⟩,j,B,U,I⟩:=id hb;simp only at W N B I;subst W N B I;have e:vs.toArray++i.toArray=(vs++i).toArray:=by simp
 by_cases hw:i=[]
 .exact concat_meets ⟨_,J,rfl⟩ ⟨_,j,rfl⟩ noFill_tuple_add seq_tuple_add xi vT (vU _ _)
   (tuple_addW1 t b vs.toArray i.toArray n U Y z S y (by simpa using O) (by simp[hw])) ⟨J,j,h1 hw⟩
 refine concat_meets ⟨_,J,rfl⟩ ⟨_,j,rfl⟩ noFill_tuple_add seq_tuple_add xi vT (vU _ _)
  (tuple_addW2 t b vs.toArray i.toArray n U Y z S y (by simpa using O) (by simpa using hw) (by rw[zk,zk];exact hsz)) ⟨J,j,?_⟩
 rw[e];exact h2 hw
noncomputable def sIx(n d:Nat):Option Int->Nat
 |none=>d
 |some v=>if v<0 then(v+(n:Int)).toNat else min v.toNat n
theorem ZIS(n d:Nat)(hd:d<=n)(o:Option Int):sIx n d o<=n:=by
 cases o with
 |none=>exact hd
 |some v=>
  show(if v<0 then(v+(n:Int)).toNat else min v.toNat n)<=n;by_cases i:v<0
  .rw[if_pos i];lia
  rw[if_neg i];exact Nat.min_le_right _ _
theorem ZDq(v:Int)(n d:Nat):(if v<0 then max (v+(n:Int)) 0 else min v (n:Int))=((sIx n d (uQ v):Nat):Int):=by
 show(if v<0 then max (v+(n:Int)) 0 else min v (n:Int))=(((if v<0 then(v+(n:Int)).toNat else min v.toNat n):Nat):Int);by_cases i:v<0
 .simp only[if_pos i];lia
 simp[if_neg i];lia
theorem ZMl(d i:Option Int)(n:Nat):Builtin.Slice.sliceAdjust d i 1 (n:Int)=(((sIx n 0 d:Nat):Int),((sIx n n i:Nat):Int)):=by
 have j:¬((1:Int)<0):=by lia
 unfold Builtin.Slice.sliceAdjust;simp only[j,if_false];refine Prod.ext ?_ ?_
 .cases d with
  |none=>rfl
  |some v=>exact ZDq v n 0
 cases i with
 |none=>rfl
 |some v=>exact ZDq v n n
theorem ZOt(i j:Nat):Builtin.Slice.slicePlaces (i:Int) (j:Int) 1=j-i:=by
 unfold Builtin.Slice.slicePlaces;have d:(1:Int)>0:=by lia
 simp[d,if_true,Int.ediv_one]
 split <;> lia
theorem ZDj(p:IsPart v o)(h:Q o s):vA (vj prog w) A (Builtin.Slice.slicePartIndex v) Q E s:=by
 cases p with
 |none=>exact slicePart_none h
 |int i t=>exact slicePart_int h
theorem ZEA{B:xE}{y z:xP}{d i:Option Int}{n:Nat}{Q:Int×Int×Nat->xN->Prop}(hs:s.heap.IsSliceOf B y z .none)(pl:IsPart y d)(I:IsPart z i)
  (h:Q (((sIx n 0 d:Nat):Int),1,sIx n n i-sIx n 0 d) s):vA (vj prog w) A (Builtin.Slice.sliceApplied (.ref B) (pure (n:Int))) Q E s:=by
 obtain⟨J,j,F,q⟩:=id hs;unfold Builtin.Slice.sliceApplied Builtin.Slice.sliceFields;refine vC (vC (vF j q (x:=y) rfl (vC (vF j q (x:=z) rfl (vC (vF j q rfl (vM ?_)))))));refine vC (slicePart_none ?_);rw[if_neg (by decide)];refine vC (ZDj pl (vC (ZDj I (vC (vM ?_)))))
 show vA _ _ (match Builtin.Slice.sliceAdjust d i 1 (n:Int)with |(d,i)=>pure (d,(1:Int),Builtin.Slice.slicePlaces d i 1)) _ _ s
 rw[ZMl d i n];show vA _ _ (pure (((sIx n 0 d:Nat):Int),(1:Int),Builtin.Slice.slicePlaces ((sIx n 0 d:Nat):Int) ((sIx n n i:Nat):Int) 1)) _ _ s;rw[ZOt];exact vM h
theorem ZOa(xs:Array xP)(i k:Nat):((zX k).filterMap λ(m:Nat)=>xs[((i:Int)+(m:Int)*1).toNat]?).toArray=((xs.toList.drop i).take k).toArray:=by
 have e:(λ(m:Nat)=>xs[((i:Int)+(m:Int)*1).toNat]?)=λm=>xs[i+m]? :=by
  funext m;have:((i:Int)+(m:Int)*1).toNat=i+m:=by lia
  rw[this]
 rw[e];have:=pick_run xs i k;rw[jz]at this;have d:((λx=>xs[x]?) ∘ λx=>i+x)=λm=>xs[i+m]? :=rfl
 rw[d]at this;rw[this]
theorem ZOR{t sl:xE}{items:Array xP}{vl vu:xP}{lo hi:Option Int}{Q:xP->xN->Prop}(ht:IsTup s.heap t items)(hs:s.heap.IsSliceOf sl vl vu .none)(pl:IsPart vl lo)(pu:IsPart vu hi)
  (hw:¬(sIx items.size 0 lo=0/\sIx items.size items.size hi=items.size))
  (h:Q (.ref s.heap.objs.size) {s with heap:=s.heap.push {cls:=.type "tuple",data:=.seq ((items.toList.drop (sIx items.size 0 lo)).take (sIx items.size items.size hi-sIx items.size 0 lo)).toArray}})
  (hsz:items.size<=sizeLine):vA (vj prog w) A (getItem (.ref t) (.ref sl)) Q E s:=by
 have htake:sizeOk (.seq ((items.toList.drop (sIx items.size 0 lo)).take (sIx items.size items.size hi-sIx items.size 0 lo)).toArray):=by show((items.toList.drop (sIx items.size 0 lo)).take (sIx items.size items.size hi-sIx items.size 0 lo)).toArray.size<=sizeLine;rw[zk,qR,jX,qF];lia
 obtain⟨os,hos,hcs,hds⟩:=id hs;unfold getItem
 try with_reducible refine vG ?_
 first|refine vC (vM ?_)|skip
 refine vC (wpAny_sequenceKey ht.typeIs (by decide) ?_);refine vC (vD ht.typeIs jc
  (vE jc ht.typeIs entry_tuple_getitem ?_ (args_tuple_getitem _ _)))
 show vA _ _ (Builtin.Tuple.tupleItemsOf (.ref t) >>=_) _ _ s;refine vC (tupleItemsOf_ ht ?_);refine vC (wpAny_typeOf ⟨os,hos,hcs⟩ ?_);rw[if_pos (by decide)];refine vC (ZEA hs pl pu ?_);have hno:¬((((sIx items.size 0 lo:Nat):Int)==0&&(1:Int)==1&&(sIx items.size items.size hi-sIx items.size 0 lo)==items.size)=uJ):=by intro q;rw[zL,zL]at q;have q1:=eq_of_beq q.1.1;have q2:=eq_of_beq q.2;exact hw ⟨by lia,by lia⟩
 show vA _ _ (if(((sIx items.size 0 lo:Nat):Int)==0&&(1:Int)==1&&(sIx items.size items.size hi-sIx items.size 0 lo)==items.size)=uJ then _ else _) _ _ s;rw[if_neg hno,ZOa]
 first
  |exact vC (vI (vM ⟨_,rfl,vM h⟩) htake)
  |exact vC (vI (vC (vM (vM ⟨_,rfl,vM h⟩))) htake)
  |exact vC (vC (vI (vM (vM ⟨_,rfl,vM h⟩)) htake))
  |exact vC (vC (vI (vM ⟨_,rfl,vM h⟩) htake))
end
end HT
namespace _L
open PySem PySem.Spec PyProof.Rows
variable{vS:List (xE×Obj)}{s:xN}
noncomputable abbrev TO:=St->Hp->(Option Int->Hp->Prop)->Prop
def PO(X:Cx)(e:Option xG)(t:TO):Prop:=
 ∀(vS:List (xE×Obj))(s:xN)(σ:St)(H:Hp)(Q:Option Int->Hp->Prop),Inv X vS σ H s->t σ H Q->
  vA (vj X.prog X.w) X.A (evalPart e X.env) (λu s'=>∃o H',Inv X vS σ H' s'/\IsPart u o/\Q o H') X.xe s
noncomputable def ZII:TO:=λ_ H Q=>Q uZ H
noncomputable def ZHo(t:TE):TO:=λσ H Q=>t σ H λx H1=>∃i,x=.int i/\Q (uQ i) H1
section
variable{X:Cx}{e:xG}{te:TE}{lo hi:Option xG}{tl th:TO}{pos p2:Pos}
theorem ZPB:PO X uZ ZII:=by intro d s i H Q I h;rw[evalPart_none];exact vM ⟨uZ,H,I,.none,h⟩
theorem ZO4(h:PE X e te):PO X (uQ e) (ZHo te):=by
 intro d s F H Q I hw;rw[evalPart_some];refine thn (h d s F H _ I hw) λu J y=>?_
 obtain⟨x,n,B,j,z⟩:=y;obtain⟨i,rfl,q⟩:=z;obtain⟨t,rfl⟩:=j;exact⟨uQ i,n,B,.int i t,q⟩
def SlR(X:Cx)(r:V->Option Int->Option Int->Hp->VK->Prop):Prop:=
 ∀(vS:List (xE×Obj))(s:xN)(σ:St)(H:Hp)(x:V)(v vl vu:xP)(lo hi:Option Int)(sl:xE)(Q:VK),Inv X vS σ H s->RelV x v->s.heap.IsSliceOf sl vl vu .none->IsPart vl lo->IsPart vu hi->r x lo hi H Q->
  ∃T id,typeLookup (.type T) "__getitem__"=pure (uQ (.builtin id))/\s.TypeIs v T/\vA (vj X.prog X.w) X.A (getItem v (.ref sl)) (EP X vS σ Q) X.xe s
theorem SlR.or(h:SlR X r)(h':SlR X r'):SlR X (λx j i H Q=>r x j i H Q∨r' x j i H Q):=by
 intro d s J H x v z L j i n Q I F hs B y q;rcases q with q|q
 .exact h d s J H x v z L j i n Q I F hs B y q
 exact h' d s J H x v z L j i n Q I F hs B y q
noncomputable def tSl(r:V->Option Int->Option Int->Hp->VK->Prop)(te:TE)(tl th:TO):TE:=λσ H Q=>te σ H λx H1=>tl σ H1 λl H2=>th σ H2 λu H3=>r x l u H3 Q
theorem ZLr(O:SlR X r)(he:PE X e te)(L:PO X lo tl)(hu:PO X hi th):PE X (.Subscript e (.Slice lo hi uZ p2) pos) (tSl r te tl th):=by
 intro d s n H Q I h;refine Subscript_ (thn (he d s n H _ I h) λv J y=>?_);obtain⟨x,H1,I1,Z,S⟩:=y;refine wpAny_Slice (thn (L d J n H1 _ I1 S) λB W ⟨l,M,I2,pl,q2⟩=>thn (hu d W n M _ I2 q2) λF j y=>?_);obtain⟨u,H3,Y,pu,q3⟩:=y;rw[evalPart_none];refine vM ?_;obtain⟨T,id,N,U,hg⟩:=O d {j with heap:=j.heap.push {cls:=.type "slice",data:=.fields #[B,F,.none]}} n H3 x v B F l u j.heap.objs.size Q (Y.kept (t':=j.toks) λb ob q=>zZ _ q) Z (Heap.IsSliceOf.new ..) pl pu q3
 exact tail_any U N hg (by with_unfolding_all rfl)
def Lz(xs:List V)(lo hi:Option Int):List V:=(xs.drop (HT.sIx xs.length 0 lo)).take (HT.sIx xs.length xs.length hi-HT.sIx xs.length 0 lo)
theorem ZFm(xs:List V)(d i:Option Int):(Lz xs d i).length<=xs.length:=by unfold Lz;rw[qR,jX];lia
def rSlT(K:za):V->Option Int->Option Int->Hp->VK->Prop:=λx lo hi H Q=>∃a xs,x=.ref a/\SqT K H a xs/\
 ¬(HT.sIx xs.length 0 lo=0/\HT.sIx xs.length xs.length hi=xs.length)/\∀p,H p=uZ->Q (.ref p) (upd H p (.tup (Lz xs lo hi)))
theorem ZMu:SlR X (rSlT X.K):=by
 intro y s W H x v U Y n B O Q I N hs M L h;obtain⟨a,i,rfl,J,hw,q⟩:=h;cases N;obtain⟨j,r,F,z⟩:=I.tuple J;have d:j.toArray.size=i.length:=zk▸r.length.symm;refine⟨"tuple",_,PyProof.Rows.slot_tuple_getitem.lookup,F.typeIs,?_⟩;refine HT.ZOR F hs M L (d▸hw) ?_ (d▸z);rw[d];refine⟨.ref s.heap.objs.size,_,I.laid (λb S q=>zZ _ q) (zx _) ?_,rfl,q _ (I.hok.fresh (zx _))⟩
 exact⟨zE (ZFm i n B) z,_,(r.drop (HT.sIx i.length 0 n)).take (HT.sIx i.length i.length B-HT.sIx i.length 0 n),IsTup.new _ _⟩
def ZPQ(K:za):R2:=λx y H Q=>∃a b xs ys,x=.ref a/\y=.ref b/\SqT K H a xs/\SqT K H b ys/\xs≠[]/\xs.length+ys.length<=sizeLine/\
 (ys=[]->Q (.ref a) H)/\(ys≠[]->∀p,H p=uZ->Q (.ref p) (upd H p (.tup (xs++ys))))
theorem Vals.W2(r:Vals xs us):us=[]↔xs=[]:=by
 cases r with
 |_=>simp
theorem ZKA:OpR X (vJ .Add) (ZPQ X.K):=by
 intro j s σ H x y v u Q I U O h;obtain⟨a,b,xs,ys,rfl,rfl,S,Y,N,n,L,W⟩:=h;cases U;cases O;obtain⟨J,i,M,_⟩:=I.tuple S;obtain⟨B,d,F,_⟩:=I.tuple Y;refine HT.ZJ0 M F (λz=>N (i.W2.mp z)) (λz=>⟨.ref a,H,I,rfl,L (d.W2.mp z)⟩) (λz=>?_) (by rw[<-i.length,<-d.length];exact n);refine⟨.ref s.heap.objs.size,_,I.laid (λb Z q=>zZ _ q) (zx _) ?_,rfl,W (λw=>z (d.W2.mpr w)) _ (I.hok.fresh (zx _))⟩
 exact⟨zH▸n,_,i.append d,IsTup.new _ _⟩
end
noncomputable def ixN(n:Nat)(i:Int):Option Nat:=if 0<=i then(if i<n then uQ i.toNat else uZ)else if -(n:Int)<=i then uQ (i+n).toNat else uZ
def atI{α:Type}(xs:List α)(i:Int):Option α:=(ixN xs.length i).bind λj=>xs[j]?
theorem ZDh(h:ixN n i=uQ j):seqIndex? i n=uQ j/\j<n/\ -(n:Int)<=i/\i<n:=by
 unfold ixN at h;by_cases q:0<=i
 .rw[if_pos q]at h;by_cases d:i<n
  .rw[if_pos d]at h;have e:=Option.some.inj h;exact⟨by rw[seqIndex_of q d,e],by lia,by lia,d⟩
  rw[if_neg d]at h;cases h
 rw[if_neg q]at h;by_cases d: -(n:Int)<=i
 .rw[if_pos d]at h;have e:=Option.some.inj h;exact⟨by rw[seqIndex_neg (by lia) d,e],by lia,d,by lia⟩
 rw[if_neg d]at h;cases h
theorem Q4{d:Type}{xs:List d}{i:Int}{v:d}(h:atI xs i=uQ v):∃j,seqIndex? i xs.length=uQ j/\xs[j]?=uQ v/\j<xs.length/\ -(xs.length:Int)<=i/\i<xs.length:=by
 unfold atI at h;cases e:ixN xs.length i with
 |none=>rw[e]at h;cases h
 |some j=>
  rw[e]at h;obtain⟨z,q,n,y⟩:=ZDh e;exact⟨j,z,h,q,n,y⟩
def PlainIx(b:xG):Prop:=∀o i,subscripted b uX o i=operate [o,i] (getItem o i)
def IxR(X:Cx)(r:R2):Prop:=
 ∀(value slice:xG)(vS:List (xE×Obj))(s:xN)(σ:St)(H:Hp)(x y:V)(v u:xP)(Q:VK),Inv X vS σ H s->RelV x v->RelV y u->r x y H Q->
  subscripted slice uX v u=operate [v,u] (getItem v u)->vA (vj X.prog X.w) X.A (subscriptTail value slice v u) (EP X vS σ Q) X.xe s
def MtR(X:Cx)(id:String)(r:V->List V->Hp->VK->Prop):Prop:=
 ∀(vS:List (xE×Obj))(s:xN)(σ:St)(H:Hp)(x:V)(xs:List V)(v:xP)(us:List xP)(Q:VK),Inv X vS σ H s->RelV x v->Vals xs us->r x xs H Q->
  vA (vj X.prog X.w) X.A (call (.builtin id) (v::us)) (EP X vS σ Q) X.xe s
section
variable{X:Cx}{a b:xG}{ta tb:TE}{pos:Pos}
theorem IxR.or(h:IxR X r)(h':IxR X r'):IxR X (λx y H Q=>r x y H Q∨r' x y H Q):=by
 intro i d j s B H x y v u Q I z n q hs;rcases q with q|q
 .exact h i d j s B H x y v u Q I z n q hs
 exact h' i d j s B H x y v u Q I z n q hs
theorem ZIf(z:IxR X r)(J:PE X a ta)(n:PE X b tb)(hs:PlainIx b):PE X (.Subscript a b pos) (tOp r ta tb):=by intro d s M H Q I h;exact Subscript_ (Wc J n I h λv u i x y L B j F q=>z a b d i M L x y v u Q B j F q (hs _ _))
def rIxL(K:za):R2:=λx y H Q=>∃p xs i v,x=.ref p/\y=.int i/\SqL K H p xs/\atI xs i=uQ v/\Q v H
def rIxT(K:za):R2:=λx y H Q=>∃p xs i v,x=.ref p/\y=.int i/\SqT K H p xs/\atI xs i=uQ v/\Q v H
def rIxS:R2:=λx y H Q=>∃z i c,x=.str z/\y=.int i/\z.length<=sizeLine/\atI z.cps.toList i=uQ c/\Q (.str ⟨#[c]⟩) H
theorem ZMA:IxR X (rIxL X.K):=by
 intro value slice vS s σ H x y v u Q I rx ry h hs;obtain⟨p,xs,i,z,rfl,rfl,hq,he,q⟩:=h;cases rx;obtain⟨t,rfl⟩:=ry;obtain⟨its,r,pl,hz⟩:=I.list hq;obtain⟨j,h1,h2,h3,h4,h5⟩:=Q4 he;obtain⟨w,ew,rw'⟩:=r.get h2;have hl:=r.length;have hn:=line63;have fin:EP X vS σ Q w s:=⟨z,H,I,rw',q⟩;by_cases h0:0<=i
 .have hj:i.toNat=j:=by rw[seqIndex_of h0 h5]at h1;exact Option.some.inj h1
  exact item_listR pl.isList h0 (by lia) (by rw[hj];simpa using ew) fin hs
 have hj:(i+(its.toArray.size:Int)).toNat=j:=by rw[seqIndex_neg (by lia) h4]at h1;rw[zk,<-hl];exact Option.some.inj h1
 exact subscriptTail_builtinR pl.isList.typeIs slot_list_getitem.lookup
  (wpAny_getItem_list_neg pl.isList (by lia) (by rw[zk]<;>lia) (by lia) (by rw[hj];simpa using ew) ⟨rfl,fin⟩) hs
theorem ZIp:IxR X (rIxT X.K):=by
 intro value slice vS s σ H x y v u Q I rx ry h hs;obtain⟨p,xs,i,z,rfl,rfl,hq,he,q⟩:=h;cases rx;obtain⟨t,rfl⟩:=ry;obtain⟨its,r,pl,hz⟩:=I.tuple hq;obtain⟨j,h1,h2,h3,h4,h5⟩:=Q4 he;obtain⟨w,ew,rw'⟩:=r.get h2;have hn:=line63;exact subscriptTail_builtinR pl.typeIs slot_tuple_getitem.lookup
  (getItem_tuple pl (by lia) (by lia) (by rw[zk,<-r.length];exact h1) (by simpa using ew) ⟨rfl,⟨z,H,I,rw',q⟩⟩) hs
theorem ZJF:IxR X rIxS:=by
 intro value slice vS s σ H x y v u Q I rx ry h hs;obtain⟨z,i,c,rfl,rfl,hz,he,q⟩:=h;obtain⟨t,rfl⟩:=rx;obtain⟨t',rfl⟩:=ry;obtain⟨j,h1,h2,h3,h4,h5⟩:=Q4 he;have hl:z.cps.toList.length=z.length:=by simp[Str.length]
 rw[hl]at h1 h4 h5;have hn:=line63;exact tail_any (typeIs_str s z t) slot_str_getitem.lookup (getItem_str (by rw[decide_eq_false (by lia),decide_eq_false (by lia),Bool.or_false]) (by rw[h1];simpa using h2) ⟨.str ⟨#[c]⟩,H,I.tok _,⟨_,rfl⟩,q⟩) hs
def rIx(K:za):R2:=λx y H Q=>rIxL K x y H Q∨rIxT K x y H Q∨rIxS x y H Q
theorem ZLl:IxR X (rIx X.K):=ZMA.or (ZIp.or ZJF)
theorem ZMv(its:List xP)(n j:Nat)(u:xP):Obj.mapSeq (·.setIfInBounds j u) {cls:=.type "list",data:=.seq its.toArray n}={cls:=.type "list",data:=.seq (its.set j u).toArray n}:=by simp[Obj.mapSeq]
theorem Inv.lst{d:St}{H:Hp}{p:xE}{xs:List V}(I:Inv X vS d H s)(h:H p=uQ (.lst xs)):
  ∃(its:List xP)(n:Nat),Vals xs its/\s.heap.get? p=uQ {cls:=.type "list",data:=.seq its.toArray n}/\xs.length<=sizeLine:=by
 obtain⟨z,its,n,r,e⟩:=I.hok p _ h;exact⟨its,n,r,e,z⟩
theorem Inv.ZOm{z:St}{H:Hp}{p:xE}{xs ys:List V}{its its':List xP}{n i:Nat}{f:Obj->Obj}(I:Inv X vS z H s)(h:H p=uQ (.lst xs))
  (ho:s.heap.get? p=uQ {cls:=.type "list",data:=.seq its.toArray n}) (j:f {cls:=.type "list",data:=.seq its.toArray n}={cls:=.type "list",data:=.seq its'.toArray i}) (r:Vals ys its') (hz:ys.length<=sizeLine) (t:Nat):
  Inv X vS z (upd H p (.lst ys)) {s with heap:=s.heap.update p f,toks:=t}:=by
 have e:(s.heap.update p f).get? p=uQ {cls:=.type "list",data:=.seq its'.toArray i}:=by rw[xX f ho (by rw[j]<;>rfl),j]
 exact I.write (by rw[h];trivial) (.inl rfl) (λb u B q=>(Heap.get?_update_other _ _ (Ne.symm B)).trans q) ⟨_,e⟩ ⟨hz,its',i,r,e⟩
def ZPL:V->V->V->Hp->(Hp->Prop)->Prop:=λo i v H Q=>∃p xs k j,o=.ref p/\i=.int k/\H p=uQ (.lst xs)/\ixN xs.length k=uQ j/\Q (upd H p (.lst (xs.set j v)))
theorem set_list:PSet X ZPL:=by
 intro vS s σ H o i v ov iv u Q I ro ri rv h;obtain⟨p,xs,k,j,rfl,rfl,hp,hj,q⟩:=h;cases ro;obtain⟨t,rfl⟩:=ri;obtain⟨its,n,r,ho,hz⟩:=I.lst hp;obtain⟨h1,h2,h3,h4⟩:=ZDh hj;have hl:=r.length;have hn:=line63;have I':=
  I.ZOm hp ho (ZMv its n j u) (r.set rv j) (by rw[qH];exact hz) s.toks
 by_cases h0:0<=k
 .have hk:k.toNat=j:=by rw[seqIndex_of h0 h4]at h1;exact Option.some.inj h1
  exact PySem.W.ki_setAt ho h0 (by lia) (by rw[zk,<-hl];exact h4) (by rw[hk];exact⟨_,I',q⟩)
 have hk:(k+(its.toArray.size:Int)).toNat=j:=by rw[seqIndex_neg (by lia) h3]at h1;rw[zk,<-hl];exact Option.some.inj h1
 exact PySem.W.ki_setBack ho (by lia) (by rw[zk,<-hl];exact h3) (by lia) (by rw[hk];exact⟨_,I',q⟩)
theorem ZOC(d j:Option Int)(n:Nat):(v7 d j uZ n).1=((HT.sIx n 0 d:Nat):Int)/\(v7 d j uZ n).2.1=((HT.sIx n n j:Nat):Int)/\(v7 d j uZ n).2.2=1:=by
 refine⟨?_,?_,rfl⟩
 .cases d with
  |none=>simp[v7,HT.sIx]
  |some i=>
   simp[v7,HT.sIx,Option.getD_none,show(1:Int)>0 by decide,if_true];by_cases h:i<0
   .simp only[h,if_true]<;>lia
   simp[h,if_false]<;>lia
 cases j with
 |none=>simp[v7,HT.sIx]
 |some i=>
  simp[v7,HT.sIx,Option.getD_none,show(1:Int)>0 by decide,if_true];by_cases h:i<0
  .simp only[h,if_true]<;>lia
  simp[h,if_false]<;>lia
theorem ZOx(its:List xP)(d i:Option Int):slicePick its.toArray d i uZ=((its.drop (HT.sIx its.length 0 d)).take (HT.sIx its.length its.length i-HT.sIx its.length 0 d)).toArray:=by
 obtain⟨q,n,j⟩:=ZOC d i its.toArray.size;unfold slicePick;rw[q,n,j]
 simp only[sliceRange_one,pick_run,zk]<;>rfl
def rSlL(K:za):V->Option Int->Option Int->Hp->VK->Prop:=λx lo hi H Q=>∃a xs,x=.ref a/\SqL K H a xs/\∀p,H p=uZ->Q (.ref p) (upd H p (.lst (Lz xs lo hi)))
theorem ZOz:SlR X (rSlL X.K):=by
 intro n s W H x v U Y j y O Q I N hs M F h;obtain⟨a,i,rfl,B,q⟩:=h;cases N;obtain⟨J,r,z,L⟩:=I.list B;have d:=r.length;refine⟨"list",_,slot_list_getitem.lookup,z.isList.typeIs,?_⟩
 refine wpAny_getItem_list_slice z.isList hs M F .none (by simp) ?_ (by rw[zk]<;>lia)
 rw[ZOx,<-d];refine⟨.ref s.heap.objs.size,_,I.laid (λb S q=>zZ _ q) (zx _) ?_,rfl,q _ (I.hok.fresh (zx _))⟩;exact⟨zE (ZFm i j y) L,_,0,(r.drop (HT.sIx i.length 0 j)).take (HT.sIx i.length i.length y-HT.sIx i.length 0 j),z3 _ rfl⟩
noncomputable def Do:V->Bool
 |.non=>uJ
 |.bl _=>uJ
 |.int _=>uJ
 |.str _=>uJ
 |_=>uX
noncomputable def eqV:V->V->Bool
 |.non,.non=>uJ
 |.bl a,.bl b=>a==b
 |.bl a,.int b=>(if a then 1 else 0)==b
 |.int a,.bl b=>a==(if b then 1 else 0)
 |.int a,.int b=>a==b
 |.str a,.str b=>a==b
 |_,_=>uX
theorem ZFA(n:RelV y u)(d:RelV x v)(q:Do y=uJ)(j:Do x=uJ):SeqAt.EqAt A s u v (eqV y x):=by
 cases y with
 |non=>
  cases n;cases x with
  |non=>cases d;exact SeqAt.EqAt.same _
  |bl b=>cases d;exact SeqAt.EqAt.none_bool b
  |int b=>obtain⟨t,rfl⟩:=d;exact SeqAt.EqAt.none_int b t
  |str b=>obtain⟨t,rfl⟩:=d;exact SeqAt.EqAt.none_str b t
  |_=>exact absurd (j) zC
 |bl a=>
  cases n;cases x with
  |non=>cases d;exact SeqAt.EqAt.bool_none a
  |bl b=>cases d;exact SeqAt.EqAt.bool_bool a b
  |int b=>obtain⟨t,rfl⟩:=d;exact SeqAt.EqAt.bool_int a b t
  |str b=>obtain⟨t,rfl⟩:=d;exact SeqAt.EqAt.bool_str a b t
  |_=>exact absurd (j) zC
 |int a=>
  obtain⟨i,rfl⟩:=n;cases x with
  |non=>cases d;exact SeqAt.EqAt.int_none a i
  |bl b=>cases d;exact SeqAt.EqAt.int_bool a i b
  |int b=>obtain⟨t,rfl⟩:=d;exact SeqAt.EqAt.int_int a i b t
  |str b=>obtain⟨t,rfl⟩:=d;exact vf a i b t
  |_=>exact absurd (j) zC
 |str a=>
  obtain⟨i,rfl⟩:=n;cases x with
  |non=>cases d;exact SeqAt.EqAt.str_none a i
  |bl b=>cases d;exact SeqAt.EqAt.str_bool a i b
  |int b=>obtain⟨t,rfl⟩:=d;exact vg a i b t
  |str b=>obtain⟨t,rfl⟩:=d;exact SeqAt.EqAt.str_str a i b t
  |_=>exact absurd (j) zC
 |_=>exact absurd (q) zC
def eqU(x:V)(u:xP):Bool:=match u with
 |.none=>eqV .non x
 |.bool b=>eqV (.bl b) x
 |.int i _=>eqV (.int i) x
 |.str z _=>eqV (.str z) x
 |_=>uX
theorem ZD4(r:RelV y u)(f:Do y=uJ):eqU x u=eqV y x:=by
 cases y with
 |non|bl b=>cases r;rfl
 |int i|str z=>obtain⟨t,rfl⟩:=r;rfl
 |_=>exact absurd (f) zC
theorem Vp:∀{xs:List V}{us:List xP},Vals xs us->xs.all Do=uJ->us.any (eqU x)=xs.any λy=>eqV y x
 |_,_,.nil,_=>rfl
 |y::xs,u::us,.cons r t,f=>by rw[jy,zL]at f;rw[xV,xV,ZD4 r f.1,Vp t f.2]
theorem Yy(j:RelV x v)(i:Do x=uJ):∀{xs:List V}{us:List xP},Vals xs us->xs.all Do=uJ->∀u∈us,SeqAt.EqAt A s u v (eqU x u)
 |_,_,.nil,_=>λu d=>by cases d
 |y::xs,u::us,.cons r t,f=>λn d=>by
  rw[jy,zL]at f;rcases z0.mp d with rfl|d
  .rw[ZD4 r f.1];exact ZFA r j f.1 i
  exact Yy j i t f.2 n d
def inV(x:V)(xs:List V):Bool:=xs.any λy=>eqV y x
def rIn(K:za)(neg:Bool):R2:=λx y H Q=>∃p xs,y=.ref p/\(SqL K H p xs∨SqT K H p xs)/\Do x=uJ/\xs.all Do=uJ/\Q (.bl (if neg then !inV x xs else inV x xs)) H
theorem ZHQ:OpR X (vW .NotIn) (rIn X.K uJ):=by
 intro n s M H x y v u Q I B J h;obtain⟨p,L,rfl,i,z,fs,q⟩:=h;cases J;rcases i with i|i
 .obtain⟨d,r,j,F⟩:=I.list i;refine SeqAt.notIn_listAt (eqU x) j.isList (λw hw=>Yy B z r fs w (by simpa using hw)) ⟨.bl _,H,I,rfl,?_⟩;rw[show d.toArray.any (eqU x)=d.any (eqU x) by simp,Vp r fs];exact q
 obtain⟨d,r,j,F⟩:=I.tuple i;refine SeqAt.notIn_tupleAt (eqU x) j (λw hw=>Yy B z r fs w (by simpa using hw)) ⟨.bl _,H,I,rfl,?_⟩;rw[show d.toArray.any (eqU x)=d.any (eqU x) by simp,Vp r fs];exact q
theorem ZPi:CallR X (.builtin "len") (λxs H Q=>∃p ys,xs=[.ref p]/\(SqL X.K H p ys∨SqT X.K H p ys)/\Q (.int ys.length) H):=by
 intro vS s σ H xs us Q I r h;obtain⟨p,ys,rfl,hq,q⟩:=h;obtain⟨u,rfl,rx⟩:=vals1 r;cases rx;have hn:=line63;rcases hq with hq|hq
 .obtain⟨its,r',pl,hz⟩:=I.list hq;have hlen:=r'.length
  exact Calls.call_len_list pl.isList (by simp only[zk]<;>lia) ⟨.int ys.length,H,I.tok _,⟨s.toks+1,by rw[zk,hlen]⟩,q⟩
 obtain⟨its,r',pl,hz⟩:=I.tuple hq;have hlen:=r'.length
 exact len_tuple pl (by simp only[zk]<;>lia) ⟨.int ys.length,H,I.tok _,⟨s.toks+1,by rw[zk,hlen]⟩,q⟩
theorem ZI5:CallR X (.builtin "len") (λxs H Q=>∃z,xs=[.str z]/\z.length<=sizeLine/\Q (.int z.length) H):=by intro vS s σ H xs us Q I r h;obtain⟨z,rfl,hz,q⟩:=h;obtain⟨u,rfl,t,rfl⟩:=vals1 r;have hn:=line63;exact len_str (by lia) ⟨.int z.length,H,I.tok _,⟨_,rfl⟩,q⟩
theorem CallR.or(h:CallR X f r)(h':CallR X f r'):CallR X f (λxs H Q=>r xs H Q∨r' xs H Q):=by
 intro d s j H xs n Q I i q;rcases q with q|q
 .exact h d s j H xs n Q I i q
 exact h' d s j H xs n Q I i q
theorem ZHh:CallR X (.type "list") (λxs H Q=>∃p ys,xs=[.ref p]/\(SqL X.K H p ys∨SqT X.K H p ys)/\∀l,H l=uZ->Q (.ref l) (upd H l (.lst ys))):=by
 intro B s Z H xs us Q I r h;obtain⟨p,ys,rfl,J,q⟩:=h;obtain⟨u,rfl,rx⟩:=vals1 r;cases rx;have F:∀(d:List xP),Vals ys d->ys.length<=sizeLine->∀(j:Heap)(z:Nat),(∀b Y,s.heap.get? b=uQ Y->j.get? b=uQ Y)->
   j.get? s.heap.objs.size=uQ {cls:=.type "list",dict:=uZ,data:=.seq d.toArray z,slots:= #[]}->EP X B Z Q (.ref s.heap.objs.size) {s with heap:=j}:=λd y L j z M e=>
  ⟨.ref s.heap.objs.size,_,I.laid M (zx _) (show ObjOk X.prog X.w _ j _ (.lst ys)from⟨L,d,z,y,e⟩),rfl,q _ (I.hok.fresh (zx _))⟩
 rcases J with J|J
 .obtain⟨d,y,W,L⟩:=I.list J;have N:=y.length;obtain⟨o,S,U,n,O⟩:=W.isList
  exact call_list_seq p (.inl rfl) S U O (λj z M e=>F d y L j z M e) (by simp[zk]<;>lia)
 obtain⟨d,y,W,L⟩:=I.tuple J;have N:=y.length;obtain⟨o,S,U,n,O⟩:=W
 exact call_list_seq p (.inr rfl) S U O (λj z M e=>F d y L j z M e) (by simp[zk]<;>lia)
theorem ZHM:CallR X (.type "tuple") (λxs H Q=>∃p ys,xs=[.ref p]/\((SqL X.K H p ys/\∀l,H l=uZ->Q (.ref l) (upd H l (.tup ys)))∨(SqT X.K H p ys/\Q (.ref p) H))):=by
 intro y s O H xs N Q I r h;obtain⟨p,ys,rfl,h⟩:=h;obtain⟨u,rfl,M⟩:=vals1 r;cases M;rcases h with⟨i,q⟩|⟨i,q⟩
 .obtain⟨d,j,n,z⟩:=I.list i;have B:=j.length
  refine call_tuple_list n.isList (λJ L=>?_) (by simp[zk]<;>lia)
  have F:=I.kept (t':=s.toks) L
  exact⟨.ref J.objs.size,_,F.laid (t':=s.toks) (λb o e=>zZ _ e) (zx _) (show ObjOk X.prog X.w _ _ _ (.tup ys)from⟨z,d,j,IsTup.new _ _⟩),rfl,q _ (F.hok.fresh (zx _))⟩
 obtain⟨d,j,n,z⟩:=I.tuple i;exact call_tuple_same n ⟨.ref p,H,I,rfl,q⟩
def tyV(K:za)(T:String)(x:V)(H:Hp):Prop:=match x with
 |.str _=>T="str"
 |.int _=>T="int"
 | .ref p=>(T="list"/\∃xs,SqL K H p xs)∨(T="tuple"/\∃o,K.lookup p=uQ o/\o.cls=.type "tuple"/\o.dict=uZ)∨
   (T="dict"/\((∃kvs,H p=uQ (.dK kvs))∨∃kvs,H p=uQ (.dT kvs)))∨(T="set"/\∃S n,H p=uQ (.set S n))
 |_=>False
theorem ZJc{L:St}{H:Hp}{T:String}{x:V}{v:xP}(I:Inv X vS L H s)(r:RelV x v)(ty:tyV X.K T x H):
  s.TypeIs v T/\∀a,v=.ref a->∃y,s.heap.get? a=uQ y/\y.dict=uZ:=by
 cases x with
 |str z=>
  obtain⟨t,rfl⟩:=r;cases(ty);exact⟨typeIs_str s z t,nofun⟩
 |int i=>
  obtain⟨t,rfl⟩:=r;cases(ty);exact⟨typeIs_int s i t,nofun⟩
 | ref p=>
  cases r;rcases ty with⟨rfl,N,F⟩|⟨rfl,o,hk,M,j⟩|⟨rfl,hk⟩|⟨rfl,S,n,hk⟩
  .obtain⟨J,_,B,_⟩:=I.list F;refine⟨B.isList.typeIs,λa e=>?_⟩;cases e;obtain⟨o,n,e,c,j,_⟩:=B;exact⟨o,e,j⟩
  .refine⟨⟨o,I.kIn p o hk,M⟩,λa e=>?_⟩;cases e;exact⟨o,I.kIn _ o hk,j⟩
  .have z:∃o,s.heap.get? p=uQ o/\o.ExactDict:=by
    rcases hk with⟨d,hk⟩|⟨d,hk⟩
    .obtain⟨_,_,_,_,o,_,_,e,ex,_⟩:=I.hok p _ hk;exact⟨o,e,ex⟩
    obtain⟨_,_,_,_,o,_,_,e,ex,_⟩:=I.hok p _ hk;exact⟨o,e,ex⟩
   obtain⟨o,e,ex⟩:=z;refine⟨⟨o,e,ex.1⟩,λa q=>?_⟩;cases q;exact⟨o,e,ex.2.1⟩
  obtain⟨o,_,_,_,e,ex,_⟩:=I.hok p _ hk;refine⟨⟨o,e,ex.1⟩,λa q=>?_⟩;cases q;exact⟨o,e,ex.2.1⟩
 |_=>exact False.elim ty
noncomputable def tBM(K:za)(T:String)(r:V->List V->Hp->VK->Prop)(to:TE)(t:TA):TE:=λσ H Q=>to σ H λx H1=>tyV K T x H1/\t σ H1 λxs H2=>r x xs H2 Q
variable{o e:xG}{es:List xG}{to:TE}{t:TA}{name:Str}{apos cpos:Pos}{T id:String}{r:V->List V->Hp->VK->Prop}
theorem ZPy(pa:PlainAttrs T)(q:Slot T name id)(B:typeOf (.builtin id)=pure (.type "method_descriptor"))(hm:MtR X id r)(ho:PE X o to)(ha:PA X (e::es) t)
  (n:xT o name X.env (eval o X.env)=eval o X.env:=by rfl)
  (y:((xU cpos (v8 (e::es) X.env)).all (λx=> !x.1)&&(vQ cpos (vY [] X.env)).all (λx=>x.1.isSome)
   && decide ((e::es).length+([]:List Keyword).length+(if([]:List Keyword).isEmpty then 0 else 1)<30))=uJ:=by rfl)
  (j:(apos.endLine==cpos.line)=uJ:=by rfl) (hs:v8 (e::es) X.env=(uX,eval e X.env)::v8 es X.env:=by rfl) (i:(xU cpos (v8 es X.env)).any (·.1)=uX:=by rfl):
  PE X (.Call (.Attribute o name apos) (e::es) [] cpos) (tBM X.K T r to t):=by
 intro d s z H Q I h;refine wpAny_Call_method_late n y j rfl (thn (ho d s z H _ I h) λv N U=>?_);obtain⟨x,H1,L,F,ty,W⟩:=U;obtain⟨h1,M⟩:=ZJc L F ty;refine⟨T,id,pa,q,B,h1,M,?_⟩;have J:=ha cpos d N z H1 _ L W;rw[hs]at J⊢
 exact Calls.callWith_builtin (by show(uX||(xU cpos (v8 es X.env)).any (·.1))=uX;rw[i]<;>rfl) (Calls.evalArgs_plain (thn J λO Z ⟨vs,S,I2,Y,q2⟩=>hm d Z z S x vs v O Q I2 F Y q2))
end
def MtM(X:Cx)(id:String)(r:V->List V->Hp->VK->Prop):Prop:=
 ∀(vS:List (xE×Obj))(s:xN)(σ:St)(H:Hp)(x:V)(xs:List V)(v:xP)(us:List xP)(Q:VK),Inv X vS σ H s->RelV x v->Vals xs us->r x xs H Q->
  vA (vj X.prog X.w) X.A (call (.builtin id) (v::us)) (EP X vS σ Q) X.xe s
theorem Vals.one:∀{x:V}{us:List xP},Vals [x] us->∃u,us=[u]/\RelV x u:=by intro x us h;cases h with |cons r t=>cases t;exact⟨_,rfl,r⟩
theorem Vals.eraseIdx:∀{xs:List V}{us:List xP}(i:Nat),Vals xs us->Vals (xs.eraseIdx i) (us.eraseIdx i)
 |_,_,_,.nil=>.nil
 |_,_,0,.cons _ t=>t
 |_,_,i+1,.cons r t=>.cons r (Vals.eraseIdx i t)
theorem Vals.rep(h:Vals xs us):∀k:Nat,Vals (zQ k xs).flatten (zQ k us).flatten
 |0=>.nil
 |k+1=>by rw[qW,qW,jZ,jZ];exact Vals.append h (Vals.rep h k)
theorem ZA5{d:Type}:∀(l:List d)(i:Nat),(l.eraseIdx i).length<=l.length
 |[],_=>zx _
 |_::_,0=>j8 _
 |_::r,i+1=>Nat.succ_le_succ (ZA5 r i)
theorem foldl_rep(its:List xP):∀(k:Nat)(acc:List xP),
  List.foldl (λx1 d=>x1++d) acc.toArray (zQ k its.toArray)=(acc++(zQ k its).flatten).toArray
 |0,acc=>by simp
 |k+1,acc=>by
  have e:acc.toArray++its.toArray=(acc++its).toArray:=by simp
  have i:(acc++its)++(zQ k its).flatten=acc++(zQ (k+1) its).flatten:=by rw[qW,jZ,qX]
  rw[<-i,<-foldl_rep its k (acc++its),<-e,qW,List.foldl_cons]
section
variable{X:Cx}{vS:List (xE×Obj)}{σ:St}{H:Hp}{s:xN}{l b:xE}{xs ys zs:List V}
theorem Inv.lset{its its':List xP}{n:Nat}{f:Array xP->Array xP}{t':Nat}(I:Inv X vS σ H s)(hH:H l=uQ (.lst xs))
  (e:s.heap.get? l=uQ {cls:=.type "list",data:=.seq its.toArray n}) (hf:f its.toArray=its'.toArray) (hv:Vals ys its') (hz:ys.length<=sizeLine):
  Inv X vS σ (upd H l (.lst ys)) {s with heap:=s.heap.update l (Obj.mapSeq f),toks:=t'}:=by
 have q:=PySem.IsL.update e f;rw[hf]at q;exact I.write (hH▸trivial) (.inl rfl) (λb' u hb hu=>(Heap.get?_update_other s.heap (Obj.mapSeq f) (Ne.symm hb)).trans hu) ⟨_,q⟩ ⟨hz,its',_,hv,q⟩
theorem Inv.lnew(I:Inv X vS σ H s)(y:Vals ys its)(hz:ys.length<=sizeLine):
  Inv X vS σ (upd H s.heap.objs.size (.lst ys)) {s with heap:=s.heap.push {cls:=.type "list",data:=.seq its.toArray},toks:=t'}:=
 I.laid (λ_ _ q=>zZ _ q) (zx _) ⟨hz,its,0,y,z3 _ rfl⟩
theorem Inv.fresh(I:Inv X vS σ H s):H s.heap.objs.size=uZ:=I.hok.fresh (zx _)
theorem Inv.lstM(I:Inv X vS σ H s)(d:H l=uQ (.lst xs)):xs.length<=sizeLine/\∃(its:List xP)(n:Nat),Vals xs its/\xs.length=its.length/\s.heap.get? l=uQ {cls:=.type "list",data:=.seq its.toArray n}:=by obtain⟨z,its,n,r,e⟩:=I.hok l _ d;exact⟨z,its,n,r,r.length,e⟩
theorem ZI7(h:n<=sizeLine):va n=uX:=by unfold va;exact decide_eq_false (by lia)
end
section
variable{X:Cx}
def ZHP:V->List V->Hp->VK->Prop:=λx vs H Q=>∃l xs y,x=.ref l/\vs=[y]/\H l=uQ (.lst xs)/\xs.length<sizeLine/\Q .non (upd H l (.lst (xs++[y])))
theorem ZID:MtM X "list.append" ZHP:=by
 intro vS s σ H x vs v us Q I rx rv h;obtain⟨l,xs,y,rfl,rfl,hH,hz,q⟩:=h;cases rx;obtain⟨u,rfl,ru⟩:=rv.one;obtain⟨z,its,n,r,hl,e⟩:=I.lstM hH;refine call_meets F.slot_list_append ⟨_,e,rfl⟩ F.entry_list_append (F.args_list_append_2 _ _) (PySem.list_append l its.toArray n u (by rw[zk];lia)) ⟨e,?_⟩;refine⟨.non,_,I.lset hH e (by simp) (r.append (.cons ru .nil)) ?_,rfl,q⟩;rw[zH,jH]
 lia
def ZMB:V->List V->Hp->VK->Prop:=λx vs H Q=>∃l xs i k y,x=.ref l/\vs=[.int i]/\H l=uQ (.lst xs)/\ -(2^63)<=i/\i<2^63/\seqIndex? i xs.length=uQ k/\xs[k]?=uQ y/\Q y (upd H l (.lst (xs.eraseIdx k)))
theorem ZIC:MtM X "list.pop" ZMB:=by
 intro B s σ H x Y v Z Q I W rv h;obtain⟨l,S,i,k,y,rfl,rfl,J,O,L,hk,N,q⟩:=h;cases W;obtain⟨u,rfl,M⟩:=rv.one;obtain⟨t,rfl⟩:=M;obtain⟨z,j,n,r,U,e⟩:=I.lstM J;obtain⟨w,hw,d⟩:=r.get N;refine call_meets F.slot_list_pop ⟨_,e,rfl⟩ F.entry_list_pop (F.args_list_pop_2 _ _)
  (MeetsSeq.list_pop_at l j.toArray n i t k w (fitsIndex_both O L) (by rw[zk,<-U];exact hk) (by rw[<-jw];exact hw) (by rw[zk];lia)) ⟨e,?_⟩
 refine⟨y,_,I.lset J e ?_ (r.eraseIdx k) ?_,d,q⟩
 .rw[List.eraseIdxIfInBounds_toArray]
 have:=ZA5 S k;lia
def rRep:R2:=λx y H Q=>∃l k xs,x=.ref l/\y=.int k/\Rd H l (.lst xs)/\ -(2^63)<=k/\k<2^63/\xs.length*k.toNat<=sizeLine/\
 ∀p,H p=uZ->Q (.ref p) (upd H p (.lst (zQ k.toNat xs).flatten))
theorem len_rep{i:Type}(xs:List i)(k:Nat):(zQ k xs).flatten.length=k*xs.length:=by
 induction k with
 |zero=>simp
 |succ k d=>rw[qW,jZ,zH,d,Nat.succ_mul,xk]
theorem ZLH:OpR X (vJ .Mult) rRep:=by
 intro vS s σ H x y v u Q I rx ry h;obtain⟨l,k,xs,rfl,rfl,hH,h1,h2,hz,q⟩:=h;cases rx;obtain⟨t,rfl⟩:=ry;obtain⟨z,its,n,r,e⟩:=hH.ok I.hok;have hl:=r.length;have hlen:its.toArray.size*k.toNat<=sizeLine:=by rw[zk,<-hl];exact hz
 have hcap:¬its.toArray.size*k.toNat>(2^63-1)/8:=by
  have:(sizeLine:Nat)<=(2^63-1)/8:=by decide
  lia
 have hfit:¬(!Builtin.List.listFitsIndex k)=uJ:=by rw[fitsIndex_both h1 h2];exact zC
 have hlong:¬va (its.toArray.size*k.toNat)=uJ:=by rw[ZI7 hlen];exact zC
 have hnew:List.foldl (λx1 x2=>x1++x2) #[] (zQ (if its.toArray.isEmpty=uJ then 0 else k.toNat) its.toArray)=(zQ k.toNat its).flatten.toArray:=by
  have f0:∀m:Nat,List.foldl (λx1 x2=>x1++x2) #[] (zQ m its.toArray)=(zQ m its).flatten.toArray:=λm=>by have:=foldl_rep its m [];rw[qC]at this;exact this
  rw[f0];cases its with
  |nil=>simp
  |cons a r'=>rw[if_neg (by simp)]
 refine wpAny_binaryOp_repeat_ref (by decide) ⟨_,e,rfl⟩ (λs'=>typeIs_int s' k t) noFill_list_mul F.fills_int_mul F.slot_int_rmul repeat_list F.slot_int_index.lookup
  (call_meets F.slot_int_rmul (typeIs_int s k t) F.entry_int_rmul (F.args_int_rmul_2 _ _) (int___rmul___int_list k t l its.toArray n)
   ⟨e,rfl,⟨_,e,rfl⟩,call_meets F.slot_list_mul ⟨_,e,rfl⟩ F.entry_list_mul (F.args_list_mul_2 _ _) (AutoListH.list___mul___list_int_3 l its.toArray n k t hfit hcap hlong) ⟨e,?_⟩⟩)
 rw[hnew];exact⟨.ref _,_,I.lnew (r.rep k.toNat) (by rw[len_rep,xy];exact hz),rfl,q _ I.fresh⟩
end
section
variable{prog:xL}{w:xR}{A:xF}{E:xP->xN->Prop}{s:xN}
end
section
variable{X:Cx}
end
end _L
namespace Att
open PySem PySem.W PySem.Calls PyProof.Rows
theorem ZNk:∀(ns:List Int)(vs:List xP),WellAll P h vs (ns.map WData.int)->IntsAre vs ns:=by
 intro ns
 induction ns with
 |nil=>
  intro vs w;rw[qK]at w;cases w;exact .nil
 | cons n ns d=>
  intro vs w;rw[zK]at w;cases w with
  |cons a b=>
   cases a;exact .cons _ _ (d _ b)
theorem ZI1{l:OpenLaw}{n:Nat}(S:l.most=uQ n){P:Params}{h:Heap}{i:List WData}{y:List xP}
  (z:l.row.toRowW.claim.pre i=uJ) (L:WellAll P h y i):
  ∃a vs ns,y=[Value.ref a]/\i=[WData.list (ns.map WData.int)]/\h.get? a=uQ {cls:=.type "list",data:=.seq vs.toArray}/\IntsAre vs ns/\ns.length<=n:=by
 have M:l.pre.holds [] {args:=i}=uJ:=(pre_splitW z).2;obtain⟨d,r,rfl,Z,O⟩:=hasAllW_cons ((pre_splitW z).1);obtain rfl:=hasAllW_nil O;obtain⟨xs,rfl,N⟩:=hasW_list Z;obtain⟨ns,rfl⟩:=items_int N;have F:ns.length<=n:=by
  unfold OpenLaw.pre at M;have I:(WTm.not (.lt (.lit (.int (n:Int))) (.len (.arg 0)))).holds [] {args:=[.list (ns.map .int)]}=uJ:=by have I:=(holds_andW M).1;rw[S]at I;exact I
  have J:=condW_of I (w_not (w_lt w_lit (w_len_list (w_arg rfl))));rw[zj]at J;refine Nat.le_of_not_lt λq=>?_
  first
   |(rw[j (by lia)]at J;exact absurd J (by decide))
   |(simp at J;lia)
 cases L with
 |cons U Y=>
  cases Y;cases U with
  |list W B=>exact⟨_,_,ns,rfl,rfl,W,ZNk ns _ B,F⟩
theorem ZOS(l:OpenLaw)(d:List WData):l.row.toRowW.claim.post d (.bool uJ) d=uJ:=
 postW_of
  (show WShape.has [] (.bool uJ) .bool=uJ by first|rfl|decide|simp[WShape.has,WShape.arms,WShape.armsAll])
  (w_eq_bool (w_res rfl) w_lit) rfl
theorem ZNt{l:OpenLaw}{n:Nat}{q:xL}{loose:List Str}{XP:(Str->Option xP)->Heap->Prop}{YP:xR->Heap->Prop}{d:DefRec}
  (hn:l.most=uQ n) (hdf:d.params.defaults=[])
  (call:∀(w:xR)(j i:xN)(L N:Str->Option xP)(I:xE)(o:Obj)(pm cd z:xP)(a:xE)(vs:List xP)(ns:List Int),
   Ground q loose [] XP w j L N i.heap->YP w i.heap->
   i.heap.get? I=uQ o->o.data=.func (docDef d.name d.params d.body d.scope pm cd z)->i.heap.CodeRec cd d.name->L d.name=uQ (.ref I)->
   i.heap.get? a=uQ {cls:=.type "list",data:=.seq vs.toArray}->IntsAre vs ns->ns.length<=n->i.gens= #[]->
   codeAny (vj l.prog w) callerA (.call (.ref I) ⟨[.ref a],[]⟩) (λr s'=>r=.ok (.ret (.bool uJ))/\OldK i.heap s'.heap/\s'.os=i.os/\AllBare s'.gens) i):
  WalkO q loose XP YP l.row.toRowW d [] (λf vs=>qe f vs):=by
 intro w j i L N G Y I o pm cd z dV kV ho hd M hD O hg Z W as B U hrd S hlo;obtain rfl:dV=.none:=Dflts.none hD hdf;obtain rfl:kV=.none:=Dflts.noKw hD;obtain⟨a,vs,ns,rfl,rfl,F,y,J⟩:=ZI1 hn B S;refine enter_call (vV (call w j i L N I o pm cd z a vs ns G Y ho (fd_plain hd) M O F y J hg) λr s' hq=>?_);obtain⟨rfl,h2,h3,h4⟩:=hq
 exact⟨.inl ⟨.bool uJ,.bool uJ,[],rfl,λ_=>rfl,.bool uJ,ZOS l _,λ_=>⟨List.Pairwise.nil,λ_ hm=>(nomatch hm)⟩⟩,h2,h3,h4⟩
section
variable{prog:xL}{w:xR}{A:xF}{E:xP->xN->Prop}{s:xN}{K:vP}
noncomputable def Je(h:Heap):Heap:={h with objs:= #[]}
theorem K1(h:Heap)(b:xE):(Je h).get? b=uZ:=by
 cases e:(Je h).get? b with
 |none=>rfl
 |some o=>exact absurd (zy e) (Nat.not_lt_zero _)
noncomputable def ledger(h:Heap)(L d:xE):List (xE×Obj):=(zX h.objs.size).filterMap λa=>if a=L∨a=d then uZ else(h.get? a).map λo=>(a,o)
theorem H8:(a,o)∈ledger h L d↔a≠L/\a≠d/\h.get? a=uQ o:=by
 unfold ledger;rw[List.mem_filterMap];constructor
 .rintro⟨b,_,e⟩;split at e
  .cases e
  rename_i j;obtain⟨B,i,z⟩:=zP.mp e;cases z;exact⟨λq=>j (.inl q),λq=>j (.inr q),i⟩
 rintro⟨n,y,i⟩;refine⟨a,zU.mpr (zy i),?_⟩
 rw[if_neg (λq=>q.elim n y),i]<;>rfl
theorem ZOh(n:h.Ns L m):Fr (Je h) L h m:=
 ⟨n,λb o e=>(by rw[K1]at e;cases e),j7 _⟩
end
end Att
namespace _L
open PySem PySem.Spec PyProof.Rows
theorem Rf:∀{vs:List xP}{ns:List Int},IntsAre vs ns->Vals (ns.map V.int) vs
 |_,_,.nil=>.nil
 |_,_,.cons n t h=>.cons ⟨t,rfl⟩ (Rf h)
noncomputable abbrev CX0:CXT:=λ_ _ _ _ _ _=>False
noncomputable abbrev E0:XK:=λ_ _ _=>False
theorem pass0:Passes CX0 X E0:=λ_ _ _ _ _ _ _ h=>h.elim
structure Fun (K:za) (x qual:Str) (st:xO) (f:xE) (fd:xH):Prop where
 ex:∃(oc:xP)(od:Option xE)(kV doc pm:xP)(an:Option xE)(cdv ct:xP)(osl:Array (Option xP)),
  fd=jb x qual (Gb st) (Ey st) (An st) .none kV doc pm an cdv ct/\K.lookup f=uQ ⟨oc,od,.func fd,osl⟩/\wq K cdv qual=uJ
 kp:qd K (.ref f)=uJ
section
variable{P:xL}{w:xR}{K:za}{mg:Str->Option xP}{base:Heap}
theorem Fun.ok{x qual:Str}{st:xO}{f:xE}{y:xH}{N ps:List Str}{k:Nat}{sp:Sp}(F:Fun K x qual st f y)(S:FnScope N ps (An st))(len:∀vs H Q E,sp vs H Q E->vs.length=ps.length)
  (i:∀(d:xP)(A:xF)(outer:List Env)(s:xN)(H:Hp)(vs:List V)(Q:VK)(E:XK),Room k (A.deeper (envOfC qual (An st) s.heap.objs.size f d))->sp vs H Q E->
   ∃t,PSs (Jt CX0 P w K mg base N qual (An st) f d A outer s H E).nox (Ey st) t/\t {nx:=λ_ H'=>Q .non H',rt:=Q} (start N vs) H):FnOk P w K mg base CX0 (k+1) f y ps sp:=by
 obtain⟨O,L,kV,B,pm,M,d,ct,J,rfl,z,j⟩:=F.ex;refine ZCM z j S len λA outer s H vs Q E I n=>?_
 obtain⟨t,h,q⟩:=i d A outer s H vs Q E I n;exact⟨t,h.nox,q⟩
theorem Fun.binds{x qual:Str}{st:xO}{f:xE}{n:xH}{ps:List Str}(F:Fun K x qual st f n)
  (h:∀(kV i pm:xP)(j:Option xE)(d ct:xP)(us:List xP),us.length=ps.length->bindArgs (jb x qual (Gb st) (Ey st) (An st) .none kV i pm j d ct) ⟨us,[]⟩=pure (ps.zip us)):Binds K n ps []:=by
 obtain⟨I,z,kV,i,pm,j,d,ct,y,rfl,B,q⟩:=F.ex;exact .all (h kV i pm j d ct)
end
section
variable{X:Cx}
theorem pv(i:Nat){x:Str}{pos:Pos}(n:X.N[i]?=uQ x:=by rfl)(j:Vis X.env.scope x:=by first|exact Or.inl rfl|exact Or.inr (Or.inl rfl)|exact Or.inr (Or.inr rfl))(hd:(x==("__debug__":Str))=uX:=by decide)
  (d:(x==("__classdict__":Str))=uX:=by decide):PE X (.Name x pos) (tVar i):=ZBz n j hd d
end
section
variable{κ:Type}[DecidableEq κ]
end
section
variable{P:xL}{w:xR}{H:Hp}{h:Heap}{a:xE}
end
section
variable{X:Cx}{vS:List (xE×Obj)}{σ:St}{H:Hp}{s:xN}{a:xE}{y v:V}{u r:xP}{o:Option V}{A:xF}{E:xP->xN->Prop}
end
section
variable{X:Cx}{vS:List (xE×Obj)}{σ:St}{H:Hp}{s:xN}{a:xE}{kvs:List (Key×V)}{k:Key}{u:xP}{A:xF}{E:xP->xN->Prop}
end
section
variable{X:Cx}{o i e value:xG}{pos pos' tpos:Pos}{td ty tv:TE}
end
section
variable{X:Cx}{pos:Pos}
end
structure M1 (X:Cx) (o:xG) (m:Str) (apos:Pos) (e:xG) (cpos:Pos):Prop where
 base:xT o m X.env (eval o X.env)=eval o X.env
 few:((xU cpos (v8 [e] X.env)).all (λx=> !x.1)&&(vQ cpos (vY [] X.env)).all (λx=>x.1.isSome)
  && decide (([e]:List xG).length+([]:List Keyword).length+(if([]:List Keyword).isEmpty then 0 else 1)<30))=uJ
 line:(apos.endLine==cpos.line)=uJ
 trees:xU cpos (v8 [e] X.env)=[(uX,eval e X.env)]
structure M2 (X:Cx) (o:xG) (m:Str) (apos:Pos) (e f:xG) (cpos:Pos):Prop where
 base:xT o m X.env (eval o X.env)=eval o X.env
 few:((xU cpos (v8 [e,f] X.env)).all (λx=> !x.1)&&(vQ cpos (vY [] X.env)).all (λx=>x.1.isSome)
  && decide (([e,f]:List xG).length+([]:List Keyword).length+(if([]:List Keyword).isEmpty then 0 else 1)<30))=uJ
 line:(apos.endLine==cpos.line)=uJ
 trees:xU cpos (v8 [e,f] X.env)=[(uX,eval e X.env),(uX,eval f X.env)]
section
variable{X:Cx}{vS:List (xE×Obj)}{σ:St}{H:Hp}{s:xN}{a:xE}{y d:V}{u r:xP}{o:Option V}{A:xF}{E:xP->xN->Prop}
end
section
variable{X:Cx}{o e f:xG}{apos cpos:Pos}{td ty tx:TE}
end
section
variable{X:Cx}{vS:List (xE×Obj)}{σ:St}{H:Hp}{s:xN}{a:xE}{kvs:List (Key×V)}{A:xF}{E:xP->xN->Prop}
end
section
variable{X:Cx}{vS:List (xE×Obj)}{σ:St}{H:Hp}{s:xN}{a:xE}{y:V}{u:xP}{A:xF}{E:xP->xN->Prop}
end
section
variable{X:Cx}
end
end _L
namespace _L
section
variable{κ:Type}[DecidableEq κ]
end
end _L
namespace _D
open PySem PySem.Spec _L
open PyProof.Rows hiding St
inductive D where
 |non|bl (b:Bool)|int (i:Int)|str (x:Str)|ty (n:String)
 |tup (xs:List D)
 |fl (xs:List D)
 |ref (i:Nat)
inductive DO where
 |lst (xs:List D)
 |dct (kvs:List (Key×D))
 |ins (c:Str) (fs:List (Str×D))
 |tab (c m:Str)
 |exc (c:Str) (fs:List (Str×D))
 |gone
noncomputable abbrev DH:=List DO
noncomputable abbrev DSt:=List (Option D)
structure Xn where
 cls:Str
 fs:List (Str×D)
inductive R (α:Type) where
 |ok (a:α) (G:DH)
 |err (x:Xn) (G:DH)
 |bad
abbrev Fx{α:Type}(_:α):Type:=Unit
noncomputable def R.bind{α β:Type}(f:α->DH->R β)(_:Fx f:=())(r:R α):R β:=match r with
 |.ok a G=>f a G
 |.err x G=>.err x G
 |.bad=>.bad
@[simp]theorem R.Dv{b c:Type}(a:b)(G:DH)(f:b->DH->R c):(R.ok a G).bind f=f a G:=id rfl
inductive SR where
 |nx (S:DSt) (G:DH)
 |rt (d:D) (G:DH)
 |bk (S:DSt) (G:DH)
 |ct (S:DSt) (G:DH)
 |err (x:Xn) (G:DH)
 |bad
noncomputable abbrev DE:=DSt->DH->R D
noncomputable abbrev DB:=DSt->DH->R Bool
noncomputable abbrev DA:=DSt->DH->R (List D)
noncomputable abbrev DS:=DSt->DH->SR
def FzL(K:za)(H:Hp)(a:xE)(xs:List V):Prop:=
 (∃o,H a=uQ (.frz o (.lst xs)))∨
  (∃ns:List Int,xs=ns.map V.int)/\∃(o:Obj)(its:Array xP)(n:Nat),K.lookup a=uQ o/\o.cls=.type "list"/\o.dict=uZ/\o.data=.seq its n/\its.size<=sizeLine/\Vals xs its.toList
theorem FzL.sq{K:za}{H:Hp}{a:xE}{xs:List V}(h:FzL K H a xs):SqL K H a xs:=by
 rcases h with⟨o,h⟩|⟨_,h⟩
 .exact .inl (.inr ⟨o,h⟩)
 exact .inr h
structure Wd where
 K:za
 n:Nat
 m:Nat->xE
 H:Hp
mutual
def Rep(a:Wd):D->V->Prop
 |.non,v=>v=.non
 |.bl b,v=>v=.bl b
 |.int i,v=>v=.int i
 |.str x,v=>v=.str x
 |.ty n,v=>v=.ty n
 |.tup ds,v=>∃p vs,v=.ref p/\SqT a.K a.H p vs/\Reps a ds vs
 |.fl ds,v=>∃p vs,v=.ref p/\FzL a.K a.H p vs/\Reps a ds vs
 |.ref i,v=>i<a.n/\v=.ref (a.m i)
def Reps(a:Wd):List D->List V->Prop
 |[],vs=>vs=[]
 |d::ds,vs=>∃v r,vs=v::r/\Rep a d v/\Reps a ds r
end
noncomputable def De:Str:="Sending.send_by.<locals>.<lambda>"
def TabOk(H:Hp)(P:xE):Prop:=
 ∃ps:Array xP,H P=uQ (.tbl ps)/\TriplesOk ps.toList/\∀pos cv,codeAmong pos ps.toList=uQ cv->∃(c:xE)(oc:Obj)(vs:Array xP)(t:Tok),cv=.ref c/\H c=uQ (.frz oc (.own 0))/\oc.data=.fields vs/\vs[1]?=uQ (.str De t)
theorem TabOk.mono(h:TabOk H P)(j:∀p ps,H p=uQ (.tbl ps)->H' p=uQ (.tbl ps))(b:∀p o u,H p=uQ (.frz o u)->H' p=uQ (.frz o u)):TabOk H' P:=by obtain⟨ps,e,t,k⟩:=h;refine⟨ps,j _ _ e,t,λa r f=>?_⟩;obtain⟨c,l,n,g,d,i,m,q⟩:=k a r f;exact⟨c,l,n,g,d,b _ _ _ i,m,q⟩
def TabAt(K:za)(C m:Str)(c P:xE):Prop:=
 ∃(Ca f:xE)(oc:xP)(od:Option xE)(fd:xH)(sl:Array (Option xP)),zb K vz C=uQ (uQ (.ref Ca))/\zd K (.ref Ca) m=uQ (uQ (.ref f))/\K.lookup f=uQ ⟨oc,od,.func fd,sl⟩/\fd.code=.ref c/\zh K c P=uJ
structure Ext (a b:Wd):Prop where
 k:b.K=a.K
 n:a.n<=b.n
 m:∀i,i<a.n->b.m i=a.m i
 tup:∀p xs,a.H p=uQ (.tup xs)->b.H p=uQ (.tup xs)
 frz:∀p o u,a.H p=uQ (.frz o u)->b.H p=uQ (.frz o u)
 tab:∀p,TabOk a.H p->TabOk b.H p
theorem Ext.refl(a:Wd):Ext a a:=⟨rfl,zx _,λ_ _=>rfl,λ_ _ h=>h,λ_ _ _ h=>h,λ_ h=>h⟩
theorem Ext.trans(x:Ext a b)(y:Ext b c):Ext a c:=
 ⟨y.k.trans x.k,zE x.n y.n,λi h=>(y.m i (zq h x.n)).trans (x.m i h),λp d h=>y.tup p d (x.tup p d h),λp o u h=>y.frz p o u (x.frz p o u h),λp h=>y.tab p (x.tab p h)⟩
theorem Ext.sqT(x:Ext a b)(h:SqT a.K a.H p xs):SqT b.K b.H p xs:=by
 rcases h with(h|⟨o,h⟩)|h
 .exact .inl (.inl (x.tup _ _ h))
 .exact .inl (.inr ⟨o,x.frz _ _ _ h⟩)
 exact .inr (x.k▸h)
theorem Ext.fzL(x:Ext a b)(h:FzL a.K a.H p xs):FzL b.K b.H p xs:=by
 rcases h with⟨o,h⟩|⟨e,h⟩
 .exact .inl ⟨o,x.frz _ _ _ h⟩
 exact .inr ⟨e,x.k▸h⟩
mutual
theorem Rep.mono(x:Ext a b):∀{d:D}{v:V},Rep a d v->Rep b d v
 |.non,_,h=>h
 |.bl _,_,h=>h
 |.int _,_,h=>h
 |.str _,_,h=>h
 |.ty _,_,h=>h
 |.tup f,v,h=>by obtain⟨p,c,e,q,r⟩:=h;exact⟨p,c,e,x.sqT q,Reps.mono x r⟩
 |.fl f,v,h=>by obtain⟨p,c,e,q,r⟩:=h;exact⟨p,c,e,x.fzL q,Reps.mono x r⟩
 |.ref i,v,h=>by obtain⟨l,e⟩:=h;exact⟨zq l x.n,by rw[x.m i l];exact e⟩
theorem Reps.mono(x:Ext a b):∀{ds:List D}{vs:List V},Reps a ds vs->Reps b ds vs
 |[],_,h=>h
 |d::ds,vs,h=>by obtain⟨v,r,e,f,c⟩:=h;exact⟨v,r,e,Rep.mono x f,Reps.mono x c⟩
end
theorem Reps.length:∀{ds:List D}{vs:List V},Reps a ds vs->ds.length=vs.length
 |[],vs,h=>by cases(h);rfl
 |d::ds,vs,h=>by obtain⟨v,r,e,c,b⟩:=h;subst e;show ds.length+1=r.length+1;rw[Reps.length b]
theorem Reps.get:∀{ds:List D}{vs:List V}{i:Nat}{d:D},Reps a ds vs->ds[i]?=uQ d->∃v,vs[i]?=uQ v/\Rep a d v
 |[],vs,_,_,h,e=>by simp at e
 |d::ds,vs,0,j,h,e=>by obtain⟨v,r,b,f,c⟩:=h;subst b;simp at e;subst e;exact⟨v,rfl,f⟩
 |d::ds,vs,i+1,j,h,e=>by obtain⟨v,r,b,f,c⟩:=h;subst b;obtain⟨w,g,k⟩:=Reps.get c (by simpa using e);exact⟨w,by simpa using g,k⟩
theorem Reps.get':∀{ds:List D}{vs:List V}{i:Nat}{v:V},Reps a ds vs->vs[i]?=uQ v->∃d,ds[i]?=uQ d/\Rep a d v
 |[],vs,_,_,h,e=>by cases(h);simp at e
 |d::ds,vs,0,j,h,e=>by obtain⟨v,r,b,f,c⟩:=h;subst b;simp at e;subst e;exact⟨d,rfl,f⟩
 |d::ds,vs,i+1,j,h,e=>by obtain⟨v,r,b,f,c⟩:=h;subst b;obtain⟨w,g,k⟩:=Reps.get' c (by simpa using e);exact⟨w,by simpa using g,k⟩
theorem Reps.append:∀{ds es:List D}{vs us:List V},Reps a ds vs->Reps a es us->Reps a (ds++es) (vs++us)
 |[],_,vs,_,h,b=>by cases(h);exact b
 |d::ds,es,vs,us,h,b=>by obtain⟨v,r,f,c,e⟩:=h;subst f;exact⟨v,r++us,rfl,c,.append e b⟩
theorem Reps.cons(h:Rep a d v)(r:Reps a ds vs):Reps a (d::ds) (v::vs):=⟨v,vs,rfl,h,r⟩
theorem Reps.nil:Reps a [] []:=rfl
theorem Reps.set(h:Rep a d v):∀{ds:List D}{vs:List V}(i:Nat),Reps a ds vs->Reps a (ds.set i d) (vs.set i v)
 |[],vs,_,r=>by cases(r);exact rfl
 |j::ds,vs,0,r=>by obtain⟨f,e,b,g,c⟩:=r;subst b;exact⟨v,e,rfl,h,c⟩
 |j::ds,vs,i+1,r=>by obtain⟨f,e,b,g,c⟩:=r;subst b;exact⟨f,e.set i v,rfl,g,.set h i c⟩
theorem Reps.take:∀{ds:List D}{vs:List V}(i:Nat),Reps a ds vs->Reps a (ds.take i) (vs.take i)
 |_,_,0,_=>rfl
 |[],vs,_+1,r=>by cases(r);exact rfl
 |g::ds,vs,i+1,r=>by obtain⟨d,f,b,e,c⟩:=r;subst b;exact⟨d,f.take i,rfl,e,.take i c⟩
theorem Reps.drop:∀{ds:List D}{vs:List V}(i:Nat),Reps a ds vs->Reps a (ds.drop i) (vs.drop i)
 |_,_,0,r=>r
 |[],vs,_+1,r=>by cases(r);exact rfl
 |e::ds,vs,i+1,r=>by obtain⟨d,g,b,f,c⟩:=r;subst b;exact .drop i c
theorem Reps.ints:∀(ns:List Int),Reps a (ns.map D.int) (ns.map V.int)
 |[]=>rfl
 |n::ns=>⟨.int n,ns.map V.int,rfl,rfl,.ints ns⟩
def RepKV(a:Wd)(kvs:List (Key×D))(us:List (Key×V)):Prop:=kvs.map (·.1)=us.map (·.1)/\Reps a (kvs.map (·.2)) (us.map (·.2))
def RepF(a:Wd)(fs:List (Str×D))(us:List (Str×V)):Prop:=fs.map (·.1)=us.map (·.1)/\Reps a (fs.map (·.2)) (us.map (·.2))
def XD(a:Wd)(od:Option xE)(fs:List (Str×D)):Prop:=(fs=[]/\od=uZ)∨∃dx o us,od=uQ dx/\a.H dx=uQ (.frz o (.xd us))/\RepF a fs us
def ORep(a:Wd):DO->Option HO->Prop
 |.lst ds,o=>∃vs,o=uQ (.lst vs)/\Reps a ds vs
 |.dct kvs,o=>∃us,o=uQ (.dK us)/\RepKV a kvs us
 |.ins c fs,o=>∃C dx us,zb a.K vz c=uQ (uQ (.ref C))/\o=uQ (.ins C dx us)/\RepF a fs us
 |.tab C m,_=>∃c P,TabAt a.K C m c P/\TabOk a.H P
 |.exc c fs,o=>∃C oe u vs,zb a.K vz c=uQ (uQ (.ref C))/\o=uQ (.frz oe u)/\oe.cls=.ref C/\oe.data=.fields vs/\XD a oe.dict fs
 |.gone,_=>True
structure Sim (a:Wd) (G:DH):Prop where
 len:G.length=a.n
 inj:∀i j,i<a.n->j<a.n->a.m i=a.m j->i=j
 obj:∀(i:Nat)(o:DO),G[i]?=uQ o->ORep a o (a.H (a.m i))
 tr:∀i,i<a.n->a.H (a.m i)≠uZ
structure RepS (a:Wd) (S:DSt) (σ:St):Prop where
 len:S.length=σ.length
 get:∀(i:Nat)(d:D),S[i]?=uQ (uQ d)->∃v,σ[i]?=uQ (uQ v)/\Rep a d v
theorem RepS.mono(x:Ext a b)(r:RepS a S σ):RepS b S σ:=⟨r.len,λi d h=>let⟨v,e,q⟩:=r.get i d h;⟨v,e,q.mono x⟩⟩
theorem RepS.set(r:RepS a S σ)(i:Nat)(h:Rep a d v):RepS a (S.set i (uQ d)) (σ.set i (uQ v)):=by
 refine⟨by simpa using r.len,λj e b=>?_⟩;rw[j0]at b⊢;by_cases c:i=j
 .subst c;rw[if_pos rfl]at b⊢;by_cases f:i<S.length
  .rw[if_pos f]at b;have g:d=e:=by simpa using b
   subst g;rw[if_pos (by rw[<-r.len];exact f)];exact⟨v,rfl,h⟩
  rw[if_neg f]at b;cases b
 rw[if_neg c]at b⊢;exact r.get j e b
def XOk(E:XK)(a:Wd)(x:Xn)(G:DH):Prop:=E≠E0/\∀(b:Wd)(C:xE)(od:Option xE),Ext a b->Sim b G->zb b.K vz x.cls=uQ (uQ (.ref C))->XD b od x.fs->E (.ref C) od b.H
def out(E:XK)(a:Wd)(r:R D)(Q:VK):Prop:=match r with
 |.ok d G=>∀(b:Wd)(v:V),Ext a b->Sim b G->Rep b d v->Q v b.H
 |.err x G=>XOk E a x G
 |.bad=>False
def Fe(E:XK)(a:Wd)(r:R Bool)(Q:Bool->Hp->Prop):Prop:=match r with
 |.ok k G=>∀(b:Wd),Ext a b->Sim b G->Q k b.H
 |.err x G=>XOk E a x G
 |.bad=>False
def Cm(E:XK)(a:Wd)(r:R (List D))(Q:List V->Hp->Prop):Prop:=match r with
 |.ok ds G=>∀(b:Wd)(vs:List V),Ext a b->Sim b G->Reps b ds vs->Q vs b.H
 |.err x G=>XOk E a x G
 |.bad=>False
def Bt(E:XK)(a:Wd)(r:SR)(W:Ends):Prop:=match r with
 |.nx S G=>∀(b:Wd)(σ:St),Ext a b->Sim b G->RepS b S σ->W.nx σ b.H
 |.bk S G=>∀(b:Wd)(σ:St),Ext a b->Sim b G->RepS b S σ->W.bk σ b.H
 |.ct S G=>∀(b:Wd)(σ:St),Ext a b->Sim b G->RepS b S σ->W.ct σ b.H
 |.rt d G=>∀(b:Wd)(v:V),Ext a b->Sim b G->Rep b d v->W.rt v b.H
 |.err x G=>XOk E a x G
 |.bad=>False
theorem XOk.mono(x:Ext a b)(h:XOk E a e G):XOk E b e G:=⟨h.1,λc C d y s n q=>h.2 c C d (x.trans y) s n q⟩
theorem out.mono(x:Ext a b)(h:out E a r Q):out E b r Q:=by
 cases r with
 |ok d G=>exact λc v y s q=>h c v (x.trans y) s q
 |err e G=>exact XOk.mono x h
 |bad=>exact h
theorem Fe.mono(x:Ext a b)(h:Fe E a r Q):Fe E b r Q:=by
 cases r with
 |ok d G=>exact λc y s=>h c (x.trans y) s
 |err e G=>exact XOk.mono x h
 |bad=>exact h
theorem Cm.mono(x:Ext a b)(h:Cm E a r Q):Cm E b r Q:=by
 cases r with
 |ok d G=>exact λc f y s q=>h c f (x.trans y) s q
 |err e G=>exact XOk.mono x h
 |bad=>exact h
theorem Bt.mono(x:Ext a b)(h:Bt E a r W):Bt E b r W:=by
 cases r with
 |err e G=>exact XOk.mono x h
 |bad=>exact h
 |_=>exact λc f y s q=>h c f (x.trans y) s q
inductive PS3 (K:za) (σ:St) (H:Hp) (φ:Wd->DSt->DH->Prop):Prop|mk (a:Wd) (S:DSt) (G:DH) (hk:a.K=K) (hH:a.H=H) (s:Sim a G) (r:RepS a S σ) (h:φ a S G):PS3 K σ H φ inductive PR3 {α β:Type} (a:Wd) (H:Hp) (r:R α) (v:β) (ρ:Wd->α->β->Prop) (φ:Wd->α->DH->Prop):Prop|mk (b:Wd) (d:α) (G:DH) (hH:b.H=H) (x:Ext a b) (s:Sim b G) (q:ρ b d v) (e:r=.ok d G) (h:φ b d G):PR3 a H r v ρ φ inductive PN3 {α β:Type} (K:za) (H:Hp) (v:β) (ρ:Wd->α->β->Prop) (φ:Wd->DH->α->Prop):Prop|mk (a:Wd) (G:DH) (d:α) (hk:a.K=K) (hH:a.H=H) (s:Sim a G) (q:ρ a d v) (h:φ a G d):PN3 K H v ρ φ inductive PD3 {α β γ δ:Type} (K:za) (H:Hp) (v:β) (w:δ) (ρ:Wd->α->β->Prop) (τ:Wd->γ->δ->Prop) (φ:Wd->DH->α->γ->Prop):Prop|mk (a:Wd) (G:DH) (d:α) (e:γ) (hk:a.K=K) (hH:a.H=H) (s:Sim a G) (q:ρ a d v) (q':τ a e w) (h:φ a G d e):PD3 K H v w ρ τ φ inductive PG3 {α β:Type} (K:za) (σ:St) (H:Hp) (v:β) (ρ:Wd->α->β->Prop) (φ:Wd->DSt->DH->α->Prop):Prop|mk (a:Wd) (S:DSt) (G:DH) (d:α) (hk:a.K=K) (hH:a.H=H) (s:Sim a G) (r:RepS a S σ) (q:ρ a d v) (h:φ a S G d):PG3 K σ H v ρ φ inductive PB3 {α:Type} (a:Wd) (H:Hp) (r:R α) (k:α) (φ:Wd->DH->Prop):Prop|mk (b:Wd) (G:DH) (hH:b.H=H) (x:Ext a b) (s:Sim b G) (e:r=.ok k G) (h:φ b G):PB3 a H r k φ def lE (K:za) (E:XK) (t:DE):TE:=λσ H Q=>PS3 K σ H λa S G=>out E a (t S G) Q
noncomputable def lB(K:za)(E:XK)(t:DB):TT:=λσ H Q=>PS3 K σ H λa S G=>Fe E a (t S G) Q
noncomputable def lA(K:za)(E:XK)(t:DA):TA:=λσ H Q=>PS3 K σ H λa S G=>Cm E a (t S G) Q
noncomputable def lS(K:za)(E:XK)(t:DS):TS:=λW σ H=>PS3 K σ H λa S G=>Bt E a (t S G) W
noncomputable def lR2(K:za)(E:XK)(f:D->D->DH->R D):R2:=λx y H Q=>PD3 K H x y Rep Rep λa G d e=>out E a (f d e G) Q
def lR1(K:za)(E:XK)(f:D->DH->R D):V->Hp->VK->Prop:=λx H Q=>PN3 K H x Rep λa G d=>out E a (f d G) Q
def lRn(K:za)(E:XK)(f:List D->DH->R D):List V->Hp->VK->Prop:=λxs H Q=>PN3 K H xs Reps λa G ds=>out E a (f ds G) Q
def lF(K:za)(f:List D->DH->R D):Sp:=λxs H Q _=>PN3 K H xs Reps λa G ds=>out E0 a (f ds G) Q
noncomputable def lFx(K:za)(f:List D->DH->R D):Sp:=λxs H Q E=>PN3 K H xs Reps λa G ds=>out E a (f ds G) Q
section
variable{X:Cx}{E:XK}
def QE(X:Cx)(E:XK)(e:xG)(t:DE):Prop:=PE X e (lE X.K E t)
def QT(X:Cx)(E:XK)(e:xG)(t:DB):Prop:=PT X e (lB X.K E t)
def QA(X:Cx)(E:XK)(es:List xG)(t:DA):Prop:=PA X es (lA X.K E t)
def QS(X:Cx)(E:XK)(st:xO)(t:DS):Prop:=PS X st (lS X.K E t)
def QSs(X:Cx)(E:XK)(st:List xO)(t:DS):Prop:=PSs X st (lS X.K E t)
theorem _root_._L.PE.mono(h:PE X e t)(w:∀b H Q,t' b H Q->t b H Q):PE X e t':=λa s b H Q I q=>h a s b H Q I (w b H Q q)
theorem _root_._L.PT.mono(h:PT X e t)(w:∀b H Q,t' b H Q->t b H Q):PT X e t':=λa s b H Q I q=>h a s b H Q I (w b H Q q)
theorem _root_._L.PA.mono(h:PA X e t)(w:∀b H Q,t' b H Q->t b H Q):PA X e t':=λc a s b H Q I q=>h c a s b H Q I (w b H Q q)
theorem _root_._L.PS.mono(h:PS X e t)(w:∀W b H,t' W b H->t W b H):PS X e t':=λa s b H W I q=>h a s b H W I (w W b H q)
theorem _root_._L.PSs.mono(h:PSs X e t)(w:∀W b H,t' W b H->t W b H):PSs X e t':=λa s b H W I q=>h a s b H W I (w W b H q)
theorem _root_._L.OpR.mono(h:OpR X f r)(w:∀x y H Q,r' x y H Q->r x y H Q):OpR X f r':=λa s d H x y v u Q I c b q=>h a s d H x y v u Q I c b (w _ _ _ _ q)
end
theorem Fb(h:out E a (r.bind f) Q):
  out E a r (λv H=>PR3 a H r v Rep λb d G=>out E b (f d G) Q):=by
 cases r with
 |ok d G=>exact λb v x s q=>⟨b,d,G,rfl,x,s,q,rfl,out.mono x h⟩
 |_=>exact h
theorem Kl(h:out E a (r.bind f) Q):
  Cm E a r (λvs H=>PR3 a H r vs Reps λb ds G=>out E b (f ds G) Q):=by
 cases r with
 |ok d G=>exact λb v x s q=>⟨b,d,G,rfl,x,s,q,rfl,out.mono x h⟩
 |_=>exact h
theorem ZEU(h:out E a (r.bind f) Q):
  Fe E a r (λk H=>PB3 a H r k λb G=>out E b (f k G) Q):=by
 cases r with
 |ok d G=>exact λb x s=>⟨b,G,rfl,x,s,rfl,out.mono x h⟩
 |_=>exact h
theorem ZL8(h:Fe E a (r.bind f) Q):
  out E a r (λv H=>PR3 a H r v Rep λb d G=>Fe E b (f d G) Q):=by
 cases r with
 |ok d G=>exact λb v x s q=>⟨b,d,G,rfl,x,s,q,rfl,Fe.mono x h⟩
 |_=>exact h
theorem Vt(h:Fe E a (r.bind f) Q):
  Fe E a r (λk H=>PB3 a H r k λb G=>Fe E b (f k G) Q):=by
 cases r with
 |ok d G=>exact λb x s=>⟨b,G,rfl,x,s,rfl,Fe.mono x h⟩
 |_=>exact h
theorem ZNH(h:Cm E a (r.bind f) Q):
  out E a r (λv H=>PR3 a H r v Rep λb d G=>Cm E b (f d G) Q):=by
 cases r with
 |ok d G=>exact λb v x s q=>⟨b,d,G,rfl,x,s,q,rfl,Cm.mono x h⟩
 |_=>exact h
theorem ZKJ(h:Cm E a (r.bind f) Q):
  Cm E a r (λvs H=>PR3 a H r vs Reps λb ds G=>Cm E b (f ds G) Q):=by
 cases r with
 |ok d G=>exact λb v x s q=>⟨b,d,G,rfl,x,s,q,rfl,Cm.mono x h⟩
 |_=>exact h
noncomputable def R.toS{α:Type}(f:α->DH->SR)(_:Fx f:=())(r:R α):SR:=match r with
 |.ok a G=>f a G
 |.err x G=>.err x G
 |.bad=>.bad
@[simp]theorem R.Ej{b:Type}(a:b)(G:DH)(f:b->DH->SR):(R.ok a G).toS f=f a G:=id rfl
theorem Hf(h:Bt E a (r.toS f) W):
  out E a r (λv H=>PR3 a H r v Rep λb d G=>Bt E b (f d G) W):=by
 cases r with
 |ok d G=>exact λb v x s q=>⟨b,d,G,rfl,x,s,q,rfl,Bt.mono x h⟩
 |_=>exact h
theorem ZB9(h:Bt E a (r.toS f) W):
  Fe E a r (λk H=>PB3 a H r k λb G=>Bt E b (f k G) W):=by
 cases r with
 |ok d G=>exact λb x s=>⟨b,G,rfl,x,s,rfl,Bt.mono x h⟩
 |_=>exact h
section
theorem out.imp(h:out E a r Q)(w:∀v H,Q v H->Q' v H):out E a r Q':=by
 cases r with
 |ok d G=>exact λb v x s q=>w _ _ (h b v x s q)
 |_=>exact h
theorem Cm.imp(h:Cm E a r Q)(w:∀v H,Q v H->Q' v H):Cm E a r Q':=by
 cases r with
 |ok d G=>exact λb v x s q=>w _ _ (h b v x s q)
 |_=>exact h
theorem Fe.imp(h:Fe E a r Q)(w:∀v H,Q v H->Q' v H):Fe E a r Q':=by
 cases r with
 |ok d G=>exact λb x s=>w _ _ (h b x s)
 |_=>exact h
def Wd.push(a:Wd)(p:xE)(ho:HO):Wd:=⟨a.K,a.n+1,λk=>if k=a.n then p else a.m k,upd a.H p ho⟩
def Wd.put(a:Wd)(p:xE)(ho:HO):Wd:={a with H:=upd a.H p ho}
theorem Ext.put(h:a.H p=uZ):Ext a (a.put p ho):=
 ⟨rfl,zx _,λ_ _=>rfl,λq c e=>by show upd a.H p ho q=_;rw[Am (Fy e h)];exact e,λq o u e=>by show upd a.H p ho q=_;rw[Am (Fy e h)];exact e,λ_ t=>t.mono (λq b e=>by show upd a.H p ho q=_;rw[Am (Fy e h)];exact e) (λq o u e=>by show upd a.H p ho q=_;rw[Am (Fy e h)];exact e)⟩
theorem Ext.push(h:a.H p=uZ):Ext a (a.push p ho):=
 ⟨rfl,j8 _,λi b=>by show(if i=a.n then p else a.m i)=a.m i;rw[if_neg (zM b)],λq d e=>by show upd a.H p ho q=_;rw[Am (Fy e h)];exact e,λq o u e=>by show upd a.H p ho q=_;rw[Am (Fy e h)];exact e,λ_ t=>t.mono (λq c e=>by show upd a.H p ho q=_;rw[Am (Fy e h)];exact e) (λq o u e=>by show upd a.H p ho q=_;rw[Am (Fy e h)];exact e)⟩
theorem XD.mono(x:Ext a b)(h:XD a od fs):XD b od fs:=by
 rcases h with h|⟨d,o,c,e,f,k,r⟩
 .exact .inl h
 exact .inr ⟨d,o,c,e,x.frz _ _ _ f,k,r.mono x⟩
theorem ORep.mono(x:Ext a b)(h:ORep a o q):ORep b o q:=by
 cases o with
 |lst s=>obtain⟨f,e,r⟩:=h;exact⟨f,e,r.mono x⟩
 |dct g=>obtain⟨d,e,k,r⟩:=h;exact⟨d,e,k,r.mono x⟩
 |ins c fs=>obtain⟨C,i,d,n,e,k,r⟩:=h;exact⟨C,i,d,x.k▸n,e,k,r.mono x⟩
 |tab C m=>obtain⟨c,P,e,t⟩:=h;exact⟨c,P,x.k▸e,x.tab _ t⟩
 |exc c fs=>obtain⟨C,p,u,f,n,e,j,l,z⟩:=h;exact⟨C,p,u,f,x.k▸n,e,j,l,z.mono x⟩
 |gone=>trivial
theorem Sim.lt(s:Sim a G)(h:G[i]?=uQ o):i<a.n:=by rw[<-s.len];exact(zY.mp h).1
theorem Sim.put(s:Sim a G)(h:a.H p=uZ):Sim (a.put p ho) G:=by
 refine⟨s.len,s.inj,λi o e=>?_,λi b=>?_⟩
 .have z:=s.tr i (s.lt e);show ORep _ o (upd a.H p ho (a.m i));rw[Am (λq=>z (by rw[q];exact h))];exact(s.obj i o e).mono (.put h)
 have z:=s.tr i b;show upd a.H p ho (a.m i)≠uZ;rw[Am (λq=>z (by rw[q];exact h))];exact z
theorem Sim.push(s:Sim a G)(h:a.H p=uZ)(r:ORep (a.push p ho) o (uQ ho)):Sim (a.push p ho) (G++[o]):=by
 have f:∀i,i<a.n->a.m i≠p:=λi g q=>s.tr i g (q▸h)
 have b:∀i,i<a.n->(a.push p ho).m i=a.m i:=λi g=>by show(if i=a.n then p else a.m i)=_;rw[if_neg (zM g)]
 have d:(a.push p ho).m a.n=p:=by show(if a.n=a.n then p else a.m a.n)=_;rw[if_pos rfl]
 refine⟨by simp[s.len,Wd.push],λi j g v e=>?_,λi u e=>?_,λi g=>?_⟩
 .have l:i<a.n+1:=g;have w:j<a.n+1:=v;by_cases c:i<a.n
  .by_cases k:j<a.n
   .rw[b i c,b j k]at e;exact s.inj i j c k e
   have:j=a.n:=by lia
   subst this;rw[b i c,d]at e;exact absurd e (f i c)
  have:i=a.n:=by lia
  subst this;by_cases k:j<a.n
  .rw[b j k,d]at e;exact absurd e.symm (f j k)
  lia
 .by_cases c:i<a.n
  .rw[z9 (s.len▸c)]at e;rw[b i c];show ORep _ u (upd a.H p ho (a.m i));rw[Am (f i c)];exact(s.obj i u e).mono (.push h)
  have t:=(zY.mp e).1;have:i=a.n:=by rw[zH,s.len]at t;simp at t;lia
  subst this;rw[zD (s.len▸zx _),s.len]at e;simp at e;subst e;rw[d];show ORep _ o (upd a.H p ho p);rw[Ew];exact r
 have l:i<a.n+1:=g;by_cases c:i<a.n
 .rw[b i c];show upd a.H p ho (a.m i)≠uZ;rw[Am (f i c)];exact s.tr i c
 .have:i=a.n:=by lia
  subst this;rw[d];show upd a.H p ho p≠uZ;rw[Ew];simp
theorem Ext.wr(h:a.H p=uQ (.lst vs)):Ext a (a.put p ho):=
 ⟨rfl,zx _,λ_ _=>rfl,λq c e=>by
  show upd a.H p ho q=_;rw[Am (λz=>by subst z;rw[h]at e;cases e)];exact e,λq o u e=>by
  show upd a.H p ho q=_;rw[Am (λz=>by subst z;rw[h]at e;cases e)];exact e,λ_ t=>t.mono (λq b e=>by show upd a.H p ho q=_;rw[Am (λz=>by subst z;rw[h]at e;cases e)];exact e) (λq o u e=>by show upd a.H p ho q=_;rw[Am (λz=>by subst z;rw[h]at e;cases e)];exact e)⟩
theorem Sim.wr(s:Sim a G)(c:i<a.n)(h:a.H (a.m i)=uQ (.lst vs))(r:Reps (a.put (a.m i) (.lst vs')) ds' vs'):Sim (a.put (a.m i) (.lst vs')) (G.set i (.lst ds')):=by
 refine⟨by rw[qH];exact s.len,s.inj,λj o e=>?_,λj d=>?_⟩
 .rw[j0]at e;show ORep _ o (upd a.H (a.m i) (.lst vs') (a.m j));by_cases b:i=j
  .subst b;rw[if_pos rfl,if_pos (s.len▸c)]at e;cases e;rw[Ew];exact⟨vs',rfl,r⟩
  rw[if_neg b]at e;rw[Am λz=>b (s.inj _ _ (s.lt e) c z).symm];exact(s.obj j o e).mono (.wr h)
 show upd a.H (a.m i) (.lst vs') (a.m j)≠uZ;by_cases b:a.m j=a.m i
 .rw[b,Ew];simp
 rw[Am b];exact s.tr j d
mutual
noncomputable def bel(n:Nat):D->Bool
 |.ref i=>decide (i<n)
 |.tup ds=>bels n ds
 |.fl ds=>bels n ds
 |_=>uJ
noncomputable def bels(n:Nat):List D->Bool
 |[]=>uJ
 |d::ds=>bel n d&&bels n ds
end
def Jg(n:Nat):DO->Bool
 |.lst ds=>bels n ds
 |.dct kvs=>bels n (kvs.map (·.2))
 |.ins _ fs=>bels n (fs.map (·.2))
 |.tab _ _=>uJ
 |.exc _ fs=>bels n (fs.map (·.2))
 |.gone=>uJ
mutual
theorem Rep.bel:∀{d:D}{v:V},Rep a d v->bel a.n d=uJ
 |.non,_,_=>by simp[_D.bel]
 |.bl _,_,_=>by simp[_D.bel]
 |.int _,_,_=>by simp[_D.bel]
 |.str _,_,_=>by simp[_D.bel]
 |.ty _,_,_=>by simp[_D.bel]
 |.tup b,v,h=>by obtain⟨p,c,e,q,r⟩:=h;simp only[_D.bel];exact Reps.bels r
 |.fl b,v,h=>by obtain⟨p,c,e,q,r⟩:=h;simp only[_D.bel];exact Reps.bels r
 |.ref i,v,h=>by obtain⟨l,e⟩:=h;simp only[_D.bel];exact decide_eq_true l
theorem Reps.bels:∀{b:List D}{vs:List V},Reps a b vs->bels a.n b=uJ
 |[],_,_=>by simp[_D.bels]
 |d::b,vs,h=>by
  obtain⟨v,r,e,f,c⟩:=h;simp only[_D.bels];rw[Rep.bel f,Reps.bels c]
  rfl
end
structure Cut (b c:Wd):Prop where
 k:c.K=b.K
 h:c.H=b.H
mutual
theorem Rep.cut(x:Cut b c)(a:n<=c.n)(g:∀i,i<n->c.m i=b.m i):∀{d:D}{v:V},Rep b d v->bel n d=uJ->Rep c d v
 |.non,_,h,_=>h
 |.bl _,_,h,_=>h
 |.int _,_,h,_=>h
 |.str _,_,h,_=>h
 |.ty _,_,h,_=>h
 |.tup o,v,h,q=>by obtain⟨p,f,e,t,r⟩:=h;simp only[_D.bel]at q;exact⟨p,f,e,by rw[x.k,x.h];exact t,Reps.cut x a g r q⟩
 |.fl o,v,h,q=>by obtain⟨p,f,e,t,r⟩:=h;simp only[_D.bel]at q;exact⟨p,f,e,by rw[x.k,x.h];exact t,Reps.cut x a g r q⟩
 |.ref i,v,h,q=>by obtain⟨l,e⟩:=h;simp only[_D.bel]at q;have j:=of_decide_eq_true q;exact⟨zq j a,by rw[g i j];exact e⟩
theorem Reps.cut(x:Cut b c)(f:n<=c.n)(g:∀i,i<n->c.m i=b.m i):∀{a:List D}{vs:List V},Reps b a vs->bels n a=uJ->Reps c a vs
 |[],_,h,_=>h
 |d::a,vs,h,q=>by obtain⟨v,r,e,j,k⟩:=h;simp only[_D.bels,zL]at q;exact⟨v,r,e,Rep.cut x f g j q.1,Reps.cut x f g k q.2⟩
end
theorem ORep.cut(x:Cut b c)(d:n<=c.n)(g:∀i,i<n->c.m i=b.m i)(h:ORep b o q)(l:Jg n o=uJ):ORep c o q:=by
 cases o with
 |lst A=>obtain⟨p,e,r⟩:=h;exact⟨p,e,.cut x d g r l⟩
 |dct s=>obtain⟨a,e,k,r⟩:=h;exact⟨a,e,k,.cut x d g r l⟩
 |ins c fs=>obtain⟨C,j,a,n,e,k,r⟩:=h;exact⟨C,j,a,x.k▸n,e,k,.cut x d g r l⟩
 |tab C m=>obtain⟨c,P,e,t⟩:=h;exact⟨c,P,x.k▸e,x.h▸t⟩
 |exc c fs=>
  obtain⟨C,y,u,p,n,e,v,w,z⟩:=h;refine⟨C,y,u,p,x.k▸n,e,v,w,?_⟩;rcases z with z|⟨j,o,a,e,f,k,r⟩
  .exact .inl z
  exact .inr ⟨j,o,a,e,x.h▸f,k,.cut x d g r l⟩
 |gone=>trivial
theorem ORep.Jg(h:ORep a o q):Jg a.n o=uJ:=by
 cases o with
 |lst l=>obtain⟨i,e,r⟩:=h;exact r.bels
 |dct d=>obtain⟨b,e,k,r⟩:=h;exact r.bels
 |ins c fs=>obtain⟨C,g,b,n,e,k,r⟩:=h;exact r.bels
 |exc c fs=>
  obtain⟨C,s,u,i,n,e,j,p,z⟩:=h;rcases z with⟨z,_⟩|⟨g,o,b,e,f,k,r⟩
  .rw[z];rfl
  exact r.bels
 |_=>rfl
open Classical in
def tidy (G:DH) (r:R D):R D:=match r with
 | .ok d G'=>if G'.take G.length=G then
   (if bel G.length d=uJ then .ok d G else match d with
    |.ref i=>match G'[i]? with
     |some o=>if Jg G.length o=uJ then .ok (.ref G.length) (G++[o])else .ok d G'
     |none=>.ok d G'
    |_=>.ok d G')else .ok d G'
 |r=>r
theorem ZBb (s:Sim a G) (h:out E a (tidy G r) Q):out E a r Q:=by
 cases r with
 | ok d M=>
  intro b v x f I;unfold tidy at h;dsimp only at h;split at h
  .rename_i S;have F:∀i o,G[i]?=uQ o->M[i]?=uQ o:=λi o e=>by have C:=(zY.mp e).1;rw[<-S,qz C]at e;exact e
   have t:∀(c:Wd),Cut b c->a.n<=c.n->(∀i,i<a.n->c.m i=b.m i)->∀i o,G[i]?=uQ o->ORep c o (c.H (c.m i)):=λc q P N i o e=>by rw[q.h,N i (s.lt e)];exact(f.obj i o (F i o e)).cut q P N (s.obj i o e).Jg
   split at h
   .rename_i z;rw[s.len]at z;let c:Wd:=⟨b.K,a.n,b.m,b.H⟩;have q:Cut b c:=⟨rfl,rfl⟩;exact h c v ⟨x.k,zx _,x.m,x.tup,x.frz,x.tab⟩ ⟨s.len,λi j C g=>f.inj i j (zq C x.n) (zq g x.n),t c q (zx _) (λ_ _=>rfl),λi C=>f.tr i (zq C x.n)⟩ (I.cut q (zx _) (λ_ _=>rfl) z)
   rename_i z;split at h
   .rename_i i;obtain⟨B,L⟩:=I;split at h
    .rename_i o T;split at h
     .rename_i A;rw[s.len]at A z h;simp[_D.bel,decide_eq_true_eq]at z;let c:Wd:=⟨b.K,a.n+1,λk=>if k=a.n then b.m i else b.m k,b.H⟩;have q:Cut b c:=⟨rfl,rfl⟩;have w:∀j,j<a.n->c.m j=b.m j:=λj g=>by show(if j=a.n then b.m i else b.m j)=_;rw[if_neg (zM g)]
      have cn:c.m a.n=b.m i:=by show(if a.n=a.n then b.m i else b.m a.n)=_;rw[if_pos rfl]
      have l:∀j,j<a.n->j<b.n:=λj g=>zq g x.n
      refine h c v ⟨x.k,j8 _,λj g=>(w j g).trans (x.m j g),x.tup,x.frz,x.tab⟩ ⟨by simp[s.len,c],λj k g hk e=>?_,λj u e=>?_,λj g=>?_⟩ ⟨qk _,cn▸L⟩
      .have J:j<a.n+1:=g;have U:k<a.n+1:=hk;by_cases p:j<a.n
       .by_cases y:k<a.n
        .rw[w j p,w k y]at e;exact f.inj j k (l j p) (l k y) e
        .have:k=a.n:=by lia
         subst this;rw[w j p,cn]at e;have:=f.inj j i (l j p) B e;lia
       .have:j=a.n:=by lia
        subst this;by_cases y:k<a.n
        .rw[w k y,cn]at e;have:=f.inj i k B (l k y) e;lia
        lia
      .by_cases p:j<a.n
       .rw[z9 (s.len▸p)]at e;exact t c q (j8 _) w j u e
       .have O:=(zY.mp e).1;have:j=a.n:=by rw[zH,s.len]at O;simp at O;lia
        subst this;rw[zD (s.len▸zx _),s.len]at e;simp at e;subst e;rw[cn];exact(f.obj i o T).cut q (j8 _) w A
      .have J:j<a.n+1:=g;by_cases p:j<a.n
       .rw[w j p];exact f.tr j (l j p)
       .have:j=a.n:=by lia
        subst this;rw[cn];exact f.tr i B
     exact h b v x f ⟨B,L⟩
    exact h b v x f ⟨B,L⟩
   exact h b v x f I
  exact h b v x f I
 |_=>exact h
end
noncomputable def dV(i:Nat):DE:=λS G=>match S[i]? with
 |some (uQ d)=>.ok d G
 |_=>.bad
noncomputable def dC(d:D):DE:=λ_ G=>.ok d G
def dOp(f:D->D->DH->R D)(a b:DE):DE:=λS G=>(a S G).bind λx G1=>(b S G1).bind λy G2=>f x y G2
def dUn(f:D->DH->R D)(a:DE):DE:=λS G=>(a S G).bind f
noncomputable def Ac:DA:=λ_ G=>.ok [] G
def Aa(a:DE)(r:DA):DA:=λS G=>(a S G).bind λx G1=>(r S G1).bind λxs G2=>.ok (x::xs) G2
def dFn(f:List D->DH->R D)(t:DA):DE:=λS G=>(t S G).bind f
def Bl(t:DE):DE:=λS G=>tidy G (t S G)
def asB:D->DH->R Bool
 |.bl k,G=>.ok k G
 |_,_=>.bad
def Ak(t:DE):DB:=λS G=>(t S G).bind asB
def Gm(t u:DB):DB:=λS G=>(t S G).bind λk G1=>if k=uJ then u S G1 else .ok uX G1
def dOr(t u:DB):DB:=λS G=>(t S G).bind λk G1=>if k=uJ then .ok uJ G1 else u S G1
def Fp(t:DB):DB:=λS G=>(t S G).bind λk G1=>.ok (!k) G1
def Nm(t u:DE):DE:=λS G=>(t S G).bind λx G1=>(asB x G1).bind λk G2=>if k=uJ then u S G2 else .ok (.bl uX) G2
def Rz(t:DE):DE:=λS G=>(t S G).bind λx G1=>(asB x G1).bind λk G2=>.ok (.bl (!k)) G2
def dIf(c:DB)(t u:DE):DE:=λS G=>(c S G).bind λk G1=>if k=uJ then t S G1 else u S G1
def Nz(f g:D->D->DH->R D)(a b c:DE):DE:=λS G=>(a S G).bind λx G1=>(b S G1).bind λy G2=>(f x y G2).bind λz G3=>(asB z G3).bind λk G4=>
 if k=uJ then(c S G4).bind λw G5=>g y w G5 else .ok (.bl uX) G4
noncomputable def Az(ds:List D)(G:DH):R D:=if ds.length<=1000000 then .ok (.tup ds) G else .bad
noncomputable def Ah(ds:List D)(G:DH):R D:=if ds.length<=1000000 then .ok (.ref G.length) (G++[.lst ds])else .bad
noncomputable def Bm(d:D)(G:DH):Option (List D):=match d with
 |.tup xs=>uQ xs
 |.fl xs=>uQ xs
 |.ref i=>match G[i]? with
  |some (.lst xs)=>uQ xs
  |_=>uZ
 |_=>uZ
theorem size6:(1000000:Nat)<=sizeLine:=by decide
section
variable{X:Cx}{E:XK}{a b c:xG}{ta tb tc:DE}{pos:Pos}
theorem two{K:za}{f:D->D->DH->R D}{g:St}{H:Hp}{Q:VK}(h:lE K E (dOp f ta tb) g H Q):tOp (lR2 K E f) (lE K E ta) (lE K E tb) g H Q:=by obtain⟨a,S,G,hk,rfl,s,r,h⟩:=h;refine⟨a,S,G,hk,rfl,s,r,(Fb h).imp ?_⟩;rintro v _ ⟨b,d,i,rfl,x,z,q,_,j⟩;refine⟨b,S,i,x.k.trans hk,rfl,z,r.mono x,(Fb j).imp ?_⟩;rintro w _ ⟨c,e,n,rfl,y,m,o,_,l⟩;exact⟨c,n,d,e,y.k.trans (x.k.trans hk),rfl,m,q.mono y,o,l⟩
theorem Q3(i:Nat){pos:Pos}(j:X.N[i]?=uQ x:=by rfl)(k:Vis X.env.scope x:=by first|exact Or.inl rfl|exact Or.inr (Or.inl rfl)|exact Or.inr (Or.inr rfl))(l:(x==("__debug__":Str))=uX:=by decide)
  (f:(x==("__classdict__":Str))=uX:=by decide):QE X E (.Name x pos) (dV i):=by
 refine(ZBz j k l f).mono λm H Q h=>?_
 obtain⟨a,S,G,hk,rfl,s,r,h⟩:=h;unfold dV at h;split at h
 .rename_i d e;obtain⟨v,g,q⟩:=r.get i d e;exact⟨v,g,h a v (.refl a) s q⟩
 exact h.elim
theorem Ln{K:za}{d:D}{v:V}{f:St}{H:Hp}{Q:VK}(h:lE K E (dC d) f H Q)(r:∀a:Wd,a.K=K->Rep a d v):Q v H:=by obtain⟨a,S,G,hk,rfl,s,_,h⟩:=h;exact h a v (.refl a) s (r a hk)
theorem ZOQ{i:Int}{j:Nat}:QE X E (.Constant (.int i) j pos) (dC (.int i)):=ZOp.mono λd H Q h=>Ln h λ_ _=>rfl
theorem ZBi{i:Bool}{j:Nat}:QE X E (.Constant (.bool i) j pos) (dC (.bl i)):=ZPa.mono λd H Q h=>Ln h λ_ _=>rfl
theorem ZP9{j:Nat}:QE X E (.Constant .none j pos) (dC .non):=ZLP.mono λd H Q h=>Ln h λ_ _=>rfl
theorem ZCm{i:Str}{j:Nat}:QE X E (.Constant (.str i) j pos) (dC (.str i)):=ZK4.mono λd H Q h=>Ln h λ_ _=>rfl
theorem ZCB(g:Gl X x)(i:X.mg x=uQ u)(r:RelV v u)(f:∀a:Wd,a.K=X.K->Rep a d v)(j:(x==("__debug__":Str))=uX:=by decide):QE X E (.Name x pos) (dC d):=
 (ZKI g i r j).mono λk H Q h=>Ln h f
theorem ZN4(ho:OpR X (vJ op) (lR2 X.K E f))(g:QE X E a ta)(d:QE X E b tb):QE X E (.BinOp a op b pos) (dOp f ta tb):=
 (ZKa ho g d).mono λ_ _ _ h=>two h
theorem ZLQ(ho:OpR X (vW op) (lR2 X.K E f))(g:QE X E a ta)(d:QE X E b tb)(i:vZ op b=uX):QE X E (.Compare a [op] [b] pos) (dOp f ta tb):=
 (ZKt ho g d i).mono λ_ _ _ h=>two h
theorem Yu{K:za}{t:DE}{f:St}{H:Hp}{Q:Bool->Hp->Prop}(h:lB K E (Ak t) f H Q):Nv (lE K E t) f H Q:=by
 obtain⟨a,S,G,hk,rfl,s,r,h⟩:=h;refine⟨a,S,G,hk,rfl,s,r,(ZL8 h).imp ?_⟩;rintro v _ ⟨b,d,j,rfl,x,i,q,_,g⟩;cases d with
 |bl k=>exact⟨k,q,g b (.refl b) i⟩
 |_=>exact g.elim
theorem ZGh(w:∀d H Q,t' d H Q->t d H Q)(d:St)(H:Hp)(Q:Bool->Hp->Prop)(h:Nv t' d H Q):Nv t d H Q:=w _ _ _ h
theorem Vz(ho:OpR X (vW op) (lR2 X.K E f))(i:QE X E a ta)(g:QE X E b tb)(j:vZ op b=uX):QT X E (.Compare a [op] [b] pos) (Ak (dOp f ta tb)):=
 (ZM8 ho i g j).mono λd H Q h=>ZGh (λ_ _ _ z=>two z) d H Q (Yu h)
theorem chain{K:za}{f g:D->D->DH->R D}{n:St}{H:Hp}{Q:VK}(h:lE K E (Nz f g ta tb tc) n H Q):ZBl (lR2 K E f) (lR2 K E g) (lE K E ta) (lE K E tb) (lE K E tc) n H Q:=by
 obtain⟨a,S,G,hk,rfl,s,r,h⟩:=h;refine⟨a,S,G,hk,rfl,s,r,(Fb h).imp ?_⟩;rintro v _ ⟨b,d,B,rfl,x,U,q,_,O⟩;refine⟨b,S,B,x.k.trans hk,rfl,U,r.mono x,(Fb O).imp ?_⟩;rintro w _ ⟨c,e,J,rfl,y,P,l,_,C⟩;refine⟨c,J,d,e,y.k.trans (x.k.trans hk),rfl,P,q.mono y,l,(Fb C).imp ?_⟩;rintro z _ ⟨o,F,T,rfl,i,A,Y,_,j⟩;cases F with
 | bl k=>
  refine⟨k,Y,?_⟩;cases k with
  |false=>exact j o (.bl uX) (.refl _) A rfl
  |true=>
   refine⟨o,S,T,(i.k.trans (y.k.trans (x.k.trans hk))),rfl,A,((r.mono x).mono y).mono i,(Fb j).imp ?_⟩;rintro z4 _ ⟨M,e4,L,rfl,m,I,N,_,Z⟩;exact⟨M,L,e,e4,m.k.trans (i.k.trans (y.k.trans (x.k.trans hk))),rfl,I,(l.mono i).mono m,N,Z⟩
 |_=>exact j.elim
theorem ZG4(ho:OpR X (vW op) (lR2 X.K E f))(d:OpR X (vW op') (lR2 X.K E g))(k:QE X E a ta)(j:QE X E b tb)(m:QE X E c tc)
  (l:lastMarks [op,op'] [b,c]=uX:=by with_unfolding_all rfl):QT X E (.Compare a [op,op'] [b,c] pos) (Ak (Nz f g ta tb tc)):=
 (ZIj ho d k j m l).mono λi H Q h=>ZGh (λ_ _ _ z=>chain z) i H Q (Yu h)
theorem ZNb(g:QE X E a ta)(f:∀d,isTrue a X.env d=(do let v<-d;standAt a.pos;holding [v] (truthy v)):=by intro _;rfl):QT X E a (Ak ta):=
 (ZKl g f).mono λi H Q h=>Yu h
theorem ZHf(d:QE X E a ta):QE X E a (Bl ta):=.mono d λf H Q h=>by obtain⟨w,S,G,hk,rfl,s,r,h⟩:=h;exact⟨w,S,G,hk,rfl,s,r,ZBb s h⟩
def QW(X:Cx)(E:XK)(e:xG)(t:DB):Prop:=PW X e (lB X.K E t)
theorem _root_._L.PW.mono(h:PW X e t)(w:∀d H Q,t' d H Q->t d H Q):PW X e t':=λg f s d H Q I q=>h g f s d H Q I (w d H Q q)
variable{u t:DB}{rest:List xG}
theorem ZJX{K:za}{d:St}{H:Hp}{Q:Bool->Hp->Prop}(h:lB K E (Gm t u) d H Q):tAnd (lB K E t) (lB K E u) d H Q:=by
 obtain⟨a,S,G,hk,rfl,s,r,h⟩:=h;refine⟨a,S,G,hk,rfl,s,r,(Vt h).imp ?_⟩;rintro k _ ⟨b,i,rfl,x,g,_,f⟩;cases k with
 |true=>exact⟨b,S,i,x.k.trans hk,rfl,g,r.mono x,f⟩
 |false=>exact f b (.refl b) g
theorem ZNM{K:za}{d:St}{H:Hp}{Q:Bool->Hp->Prop}(h:lB K E (dOr t u) d H Q):tOr (lB K E t) (lB K E u) d H Q:=by
 obtain⟨a,S,G,hk,rfl,s,r,h⟩:=h;refine⟨a,S,G,hk,rfl,s,r,(Vt h).imp ?_⟩;rintro k _ ⟨b,i,rfl,x,g,_,f⟩;cases k with
 |true=>exact f b (.refl b) g
 |false=>exact⟨b,S,i,x.k.trans hk,rfl,g,r.mono x,f⟩
theorem ZM7(d:QT X E a t):QW X E (.BoolOp .And [a] pos) t:=pw_and1 d
theorem ZMs(d:QT X E a t):QW X E (.BoolOp .Or [a] pos) t:=pw_or1 d
theorem Ww(f:QT X E a t)(d:QW X E (.BoolOp .And (b::rest) pos) u):QW X E (.BoolOp .And (a::b::rest) pos) (Gm t u):=(pw_and f d).mono λ_ _ _ h=>ZJX h
theorem ZHD(f:QT X E a t)(d:QW X E (.BoolOp .Or (b::rest) pos) u):QW X E (.BoolOp .Or (a::b::rest) pos) (dOr t u):=(pw_or f d).mono λ_ _ _ h=>ZNM h
theorem qt_w(h:QW X E a t):QT X E a t:=_L.PW.pt h
theorem ZLI(f:QT X E a t):QT X E (.UnaryOp .Not a pos) (Fp t):=(ZKf f).mono λj H Q h=>by obtain⟨a,S,G,hk,rfl,s,r,h⟩:=h;refine⟨a,S,G,hk,rfl,s,r,(Vt h).imp ?_⟩;rintro k _ ⟨b,i,rfl,x,g,_,d⟩;exact d b (.refl b) g
theorem ZIK{op}(h:QE X E a ta):QE X E (.BoolOp op [a] pos) ta:=ZO1 h
theorem ZN3(l:QE X E a ta)(j:QE X E (.BoolOp .And (b::rest) pos) tb):QE X E (.BoolOp .And (a::b::rest) pos) (Nm ta tb):=(ZI9 l j).mono λm H Q h=>by
 obtain⟨a,S,G,hk,rfl,s,r,h⟩:=h;refine⟨a,S,G,hk,rfl,s,r,(Fb h).imp ?_⟩;rintro v _ ⟨b,d,i,rfl,x,g,q,_,f⟩;cases d with
 |bl k=>
  refine⟨k,q,?_⟩;cases k with
  |true=>exact⟨b,S,i,x.k.trans hk,rfl,g,r.mono x,f⟩
  |false=>exact f b _ (.refl b) g rfl
 |_=>exact f.elim
theorem ZP0(g:QE X E a ta):QE X E (.UnaryOp .Not a pos) (Rz ta):=(ZG0 g).mono λl H Q h=>by
 obtain⟨a,S,G,hk,rfl,s,r,h⟩:=h;refine⟨a,S,G,hk,rfl,s,r,(Fb h).imp ?_⟩;rintro v _ ⟨b,d,j,rfl,x,i,q,_,f⟩;cases d with
 |bl k=>exact⟨k,q,f b _ (.refl b) i rfl⟩
 |_=>exact f.elim
theorem ZH1(l:QT X E c t)(j:QE X E a ta)(i:QE X E b tb):QE X E (.IfExp c a b pos) (dIf t ta tb):=(ZPf l j i).mono λm H Q h=>by
 obtain⟨a,S,G,hk,rfl,s,r,h⟩:=h;refine⟨a,S,G,hk,rfl,s,r,(ZEU h).imp ?_⟩;rintro k _ ⟨b,d,rfl,x,g,_,f⟩;cases k with
 |_=>exact⟨b,S,d,x.k.trans hk,rfl,g,r.mono x,f⟩
variable{es:List xG}{tr:DA}
theorem ZLG:QA X E [] Ac:=ZJl.mono λd H Q h=>by obtain⟨a,S,G,hk,rfl,s,r,h⟩:=h;exact h a [] (.refl a) s rfl
noncomputable def notStar:xG->Bool
 |.Starred _ _=>uX
 |_=>uJ
theorem Kd(a:xG)(es:List xG)(env:Env)(h:notStar a=uJ):v8 (a::es) env=(uX,eval a env)::v8 es env:=by
 cases a<;>first
  |exact absurd h zC
  |rfl
theorem M6(pos:Pos)(env:Env):∀es:List xG,es.all notStar=uJ->(xU pos (v8 es env)).any (·.1)=uX
 |[],_=>rfl
 |a::es,h=>by
  rw[jy,zL]at h;rw[Kd a es env h.1];have d:=M6 pos env es h.2;unfold xU at d⊢;rw[zK,xV,d]
  rfl
theorem ZK3(m:QE X E a ta)(o:QA X E es tr)(i:notStar a=uJ:=by rfl):QA X E (a::es) (Aa ta tr):=(ZId m o (Kd a es X.env i)).mono λz H Q h=>by obtain⟨a,S,G,hk,rfl,s,r,h⟩:=h;refine⟨a,S,G,hk,rfl,s,r,(ZNH h).imp ?_⟩;rintro v _ ⟨b,d,f,rfl,x,w,q,_,g⟩;refine⟨b,S,f,x.k.trans hk,rfl,w,r.mono x,(ZKJ g).imp ?_⟩;rintro A _ ⟨c,C,B,rfl,y,l,n,_,j⟩;exact j c _ (.refl c) l (.cons (q.mono y) n)
theorem ZNo{x1}(h:QA X E es tr):QE X E (.Tuple es x1 pos) (dFn Az tr):=(ZLp h).mono λk H Q h=>by
 obtain⟨a,S,G,hk,rfl,s,r,h⟩:=h;refine⟨a,S,G,hk,rfl,s,r,(Kl h).imp ?_⟩;rintro f _ ⟨b,l,j,rfl,x,i,q,_,d⟩;unfold Az at d;split at d
 .rename_i g;exact⟨by rw[<-q.length];exact zE g size6,λp hp=>(d (b.put p (.tup f)) (.ref p) (.put hp) (i.put hp) ⟨p,f,rfl,.of Ew,q.mono (.put hp)⟩)⟩
 exact d.elim
theorem ZJa(h:QA X E es tr):QE X E (.List es pos) (dFn Ah tr):=(ZMG h).mono λk H Q h=>by
 obtain⟨a,S,G,hk,rfl,s,r,h⟩:=h;refine⟨a,S,G,hk,rfl,s,r,(Kl h).imp ?_⟩;rintro g _ ⟨b,l,j,rfl,x,f,q,_,d⟩;unfold Ah at d;split at d
 .rename_i i;refine⟨by rw[<-q.length];exact zE i size6,λp hp=>?_⟩;refine d (b.push p (.lst g)) (.ref p) (.push hp) (f.push hp ⟨g,rfl,q.mono (.push hp)⟩) ⟨?_,?_⟩
  .rw[f.len];exact qk _
  rw[f.len];show V.ref p=.ref (if b.n=b.n then p else b.m b.n);rw[if_pos rfl]
 exact d.elim
variable{e:xG}{x:Str}{p:Pos}
theorem Zd{K:za}{f:List D->DH->R D}{d:St}{H:Hp}{Q:VK}(h:lE K E (dFn f tr) d H Q):lA K E tr d H (λvs g=>lRn K E f vs g Q):=by obtain⟨a,S,G,hk,rfl,s,r,h⟩:=h;refine⟨a,S,G,hk,rfl,s,r,(Kl h).imp ?_⟩;rintro vs _ ⟨b,l,i,rfl,x,m,q,_,j⟩;exact⟨b,i,l,x.k.trans hk,rfl,m,q,j⟩
theorem ZOg{id:String}{f:List D->DH->R D}(n:CallR X (.builtin id) (lRn X.K E f))(j:Gl X x)(m:X.mg x=uZ)(l:vX x=uQ (.builtin id))(k:QA X E (e::es) tr)(i:x≠"__name__":=by decide)(g:(x==("__debug__":Str))=uX:=by decide)
  (o:notStar e=uJ:=by rfl) (d:es.all notStar=uJ:=by rfl):QE X E (.Call (.Name x p) (e::es) [] pos) (dFn f tr):=
 (ZJs n j m l k i g (Kd e es X.env o) (M6 pos X.env es d)).mono λq H Q h=>Zd h
theorem ZIc{id:String}{f:List D->DH->R D}(n:CallR X (.type id) (lRn X.K E f))(j:Gl X x)(m:X.mg x=uZ)(l:vX x=uQ (.type id))(k:QA X E (e::es) tr)(i:x≠"__name__":=by decide)(g:(x==("__debug__":Str))=uX:=by decide)
  (o:notStar e=uJ:=by rfl) (d:es.all notStar=uJ:=by rfl):QE X E (.Call (.Name x p) (e::es) [] pos) (dFn f tr):=
 (ZI8 n j m l k i g (Kd e es X.env o) (M6 pos X.env es d)).mono λq H Q h=>Zd h
theorem ZIl{CX:CXT}{k:Nat}{f:xE}{i:xH}{ps:List Str}{F:List D->DH->R D}(m:FnOk X.prog X.w X.K X.mg X.base CX k f i ps (lF X.K F))(C:Room k X.A)(n:Gl X x)(z:X.mg x=uQ (.ref f))(hk:qd X.K (.ref f)=uJ)(v:Binds X.K i ps [])
  (o:Passes CX X E0) (y:QA X E0 (e::es) tr) (g:(x==("__debug__":Str))=uX:=by decide) (J:notStar e=uJ:=by rfl) (d:es.all notStar=uJ:=by rfl):
  QE X E0 (.Call (.Name x p) (e::es) [] pos) (dFn F tr):=
 (ZJn m C n z hk v .nil o y g (Kd e es X.env J) (M6 pos X.env es d)).mono λL H Q h=>by
  replace h:=Zd h;obtain⟨a,S,G,hk,rfl,s,r,h⟩:=h
  refine⟨a,S,G,hk,rfl,s,r,h.imp ?_⟩;rintro M _ ⟨b,j,B,hk,rfl,I,q,l⟩;exact⟨b,j,B,hk,rfl,I,by rw[qJ];exact q,l⟩
theorem ZJC(g:IxR X (lR2 X.K E f))(i:QE X E a ta)(j:QE X E b tb)(d:PlainIx b:=by intro _ _;rfl):QE X E (.Subscript a b pos) (dOp f ta tb):=
 (ZIf g i j d).mono λ_ _ _ h=>two h
end
noncomputable instance (i j:Int):Decidable (CMul i j):=by unfold CMul;infer_instance
noncomputable instance (i j:Int):Decidable (CPow i j):=by unfold CPow;infer_instance
def CDivL(j:Int):Prop:=0<j/\j.natAbs.log2<9000
noncomputable instance (j:Int):Decidable (CDivL j):=by unfold CDivL;infer_instance
def Di:D->D->DH->R D
 |.int i,.int j,G=>.ok (.int (i-j)) G
 |_,_,_=>.bad
def Fl:D->D->DH->R D
 |.int i,.int j,G=>if CDivL j then .ok (.int (i/j)) G else .bad
 |_,_,_=>.bad
def Ex:D->D->DH->R D
 |.int i,.int j,G=>if 0<j then .ok (.int (i%j)) G else .bad
 |_,_,_=>.bad
def Ka:D->D->DH->R D
 |.int i,.int j,G=>if CPow i j then .ok (.int (i^j.toNat)) G else .bad
 |_,_,_=>.bad
def Ht:D->D->DH->R D
 |.int i,.int j,G=>.ok (.bl (decide (i<j))) G
 |.str i,.str j,G=>.ok (.bl (decide (i.cps.toList<j.cps.toList))) G
 |_,_,_=>.bad
def Ph:D->D->DH->R D
 |.int i,.int j,G=>.ok (.bl (decide (i<=j))) G
 |.str i,.str j,G=>.ok (.bl (!decide (j.cps.toList<i.cps.toList))) G
 |_,_,_=>.bad
def Gg:D->D->DH->R D
 |.int i,.int j,G=>.ok (.bl (decide (j<i))) G
 |.str i,.str j,G=>.ok (.bl (decide (j.cps.toList<i.cps.toList))) G
 |_,_,_=>.bad
def Ma:D->D->DH->R D
 |.int i,.int j,G=>.ok (.bl (decide (j<=i))) G
 |.str i,.str j,G=>.ok (.bl (!decide (i.cps.toList<j.cps.toList))) G
 |_,_,_=>.bad
noncomputable def Ep(d:D)(G:DH):Option (List D):=match d with
 |.fl xs=>uQ xs
 |.ref i=>match G[i]? with
  |some (.lst xs)=>uQ xs
  |_=>uZ
 |_=>uZ
def Ai:D->D->DH->R D
 |.int i,.int j,G=>.ok (.int (i+j)) G
 |.str i,.str j,G=>if i.length+j.length<=1000000 then .ok (.str (i++j)) G else .bad
 |.tup xs,.tup ys,G=>if xs≠[]/\xs.length+ys.length<=1000000 then .ok (.tup (xs++ys)) G else .bad
 |d,e,G=>match Ep d G,Ep e G with
  |some xs,uQ ys=>if xs.length+ys.length<=1000000 then .ok (.ref G.length) (G++[.lst (xs++ys)])else .bad
  |_,_=>.bad
section
variable{X:Cx}{E:XK}
theorem Ft(ho:OpR X f r)
  (h:∀(a:Wd)(G:DH)(d e:D)(x y:V)(Q:VK),a.K=X.K->Sim a G->Rep a d x->Rep a e y->out E a (F d e G) Q->r x y a.H Q):OpR X f (lR2 X.K E F):=
 ho.mono λx y H Q zz=>by obtain⟨a,G,d,e,hk,g,s,b,c,q⟩:=zz;subst g;exact h a G d e x y Q hk s b c q
theorem ZJZ:OpR X (vJ .Sub) (lR2 X.K E Di):=Ft ZPv λa G d e x y Q hk s b c q=>by
 cases d<;>cases e<;>first
  |exact q.elim
  |exact⟨_,_,b,c,q a _ (.refl a) s rfl⟩
theorem ZGz:OpR X (vJ .FloorDiv) (rI (λ_ j=>CDivL j) λi j=>.int (i/j)):=opI λi j _ _ _ _ _ a q=>by refine floordiv_int (by have:=a.1;lia) (by rw[Int.fdiv_eq_ediv_of_nonneg _ (xA a.1)];exact q) (.inl (PyProof.noPylong_of_log2 a.2))
theorem ZNl:OpR X (vJ .FloorDiv) (lR2 X.K E Fl):=Ft ZGz λa G d e x y Q hk s rd re q=>by
 cases d<;>cases e<;>first
  |exact q.elim
  | (
    rename_i i j;unfold Fl at q;dsimp only at q;split at q
    .exact⟨_,_,rd,re,by assumption,q a _ (.refl a) s rfl⟩
    exact q.elim)
theorem ZKO:OpR X (vJ .Mod) (lR2 X.K E Ex):=Ft ZNu λa G d e x y Q hk s rd re q=>by
 cases d<;>cases e<;>first
  |exact q.elim
  | (
    rename_i i j;unfold Ex at q;dsimp only at q;split at q
    .exact⟨_,_,rd,re,by assumption,q a _ (.refl a) s rfl⟩
    exact q.elim)
theorem ZPM:OpR X (vJ .Pow) (lR2 X.K E Ka):=Ft ZG2 λa G d e x y Q hk s rd re q=>by
 cases d<;>cases e<;>first
  |exact q.elim
  | (
    rename_i i j;unfold Ka at q;dsimp only at q;split at q
    .exact⟨_,_,rd,re,by assumption,q a _ (.refl a) s rfl⟩
    exact q.elim)
theorem o_lt:OpR X (vW .Lt) (lR2 X.K E Ht):=Ft (ZPT.or ZMo) λa G d e x y Q hk s b c q=>by
 cases d<;>cases e<;>first
  |exact q.elim
  |exact .inl ⟨_,_,b,c,q a _ (.refl a) s rfl⟩
  |exact .inr ⟨_,_,b,c,q a _ (.refl a) s rfl⟩
theorem ZJv:OpR X (vW .LtE) (λx y H Q=>∃i j,x=.str i/\y=.str j/\Q (.bl (!decide (j.cps.toList<i.cps.toList))) H):=by intro a s d H x y v u Q I b c h;obtain⟨i,j,rfl,rfl,q⟩:=h;obtain⟨t,rfl⟩:=b;obtain⟨e,rfl⟩:=c;exact PySem.P.le_str ⟨.bl _,H,I,rfl,q⟩
theorem ZJq:OpR X (vW .Gt) (λx y H Q=>∃i j,x=.str i/\y=.str j/\Q (.bl (decide (j.cps.toList<i.cps.toList))) H):=by intro a s d H x y v u Q I b c h;obtain⟨i,j,rfl,rfl,q⟩:=h;obtain⟨t,rfl⟩:=b;obtain⟨e,rfl⟩:=c;exact PySem.P.gt_str ⟨.bl _,H,I,rfl,q⟩
theorem ZLx:OpR X (vW .GtE) (λx y H Q=>∃i j,x=.str i/\y=.str j/\Q (.bl (!decide (i.cps.toList<j.cps.toList))) H):=by intro a s d H x y v u Q I b c h;obtain⟨i,j,rfl,rfl,q⟩:=h;obtain⟨t,rfl⟩:=b;obtain⟨e,rfl⟩:=c;exact PySem.P.ge_str ⟨.bl _,H,I,rfl,q⟩
theorem o_le:OpR X (vW .LtE) (lR2 X.K E Ph):=Ft (ZH2.or ZJv) λa G d e x y Q hk s b c q=>by
 cases d<;>cases e<;>first
  |exact q.elim
  |exact .inl ⟨_,_,b,c,q a _ (.refl a) s rfl⟩
  |exact .inr ⟨_,_,b,c,q a _ (.refl a) s rfl⟩
theorem o_gt:OpR X (vW .Gt) (lR2 X.K E Gg):=Ft (ZMJ.or ZJq) λa G d e x y Q hk s b c q=>by
 cases d<;>cases e<;>first
  |exact q.elim
  |exact .inl ⟨_,_,b,c,q a _ (.refl a) s rfl⟩
  |exact .inr ⟨_,_,b,c,q a _ (.refl a) s rfl⟩
theorem o_ge:OpR X (vW .GtE) (lR2 X.K E Ma):=Ft (ZK6.or ZLx) λa G d e x y Q hk s b c q=>by
 cases d<;>cases e<;>first
  |exact q.elim
  |exact .inl ⟨_,_,b,c,q a _ (.refl a) s rfl⟩
  |exact .inr ⟨_,_,b,c,q a _ (.refl a) s rfl⟩
theorem Sim.lst(s:Sim a G)(h:G[i]?=uQ (.lst xs)):∃vs,a.H (a.m i)=uQ (.lst vs)/\Reps a xs vs:=s.obj i _ h
theorem Jf{E:XK}(s:Sim a G)(r:Reps a ds vs)(h:out E a (.ok (.ref G.length) (G++[.lst ds])) Q)(p:xE)(hp:a.H p=uZ):Q (.ref p) (upd a.H p (.lst vs)):=by
 refine h (a.push p (.lst vs)) (.ref p) (.push hp) (s.push hp ⟨vs,rfl,r.mono (.push hp)⟩) ⟨?_,?_⟩
 .rw[s.len];exact qk _
 rw[s.len];show V.ref p=.ref (if a.n=a.n then p else a.m a.n);rw[if_pos rfl]
theorem Vw{E:XK}(s:Sim a G)(r:Reps a ds vs)(h:out E a (.ok (.tup ds) G) Q)(p:xE)(hp:a.H p=uZ):Q (.ref p) (upd a.H p (.tup vs)):=
 h (a.put p (.tup vs)) (.ref p) (.put hp) (s.put hp) ⟨p,vs,rfl,.of Ew,r.mono (.put hp)⟩
theorem Ut(s:Sim a G)(r:Rep a d x)(h:Ep d G=uQ xs):∃p vs,x=.ref p/\SqL a.K a.H p vs/\Reps a xs vs:=by
 cases d with
 |fl j=>
  have e:=Option.some.inj h;subst e;obtain⟨p,vs,e,q,c⟩:=r;exact⟨p,vs,e,q.sq,c⟩
 |ref i=>
  unfold Ep at h;dsimp only at h;split at h
  .rename_i j f;have e:=Option.some.inj h;subst e;obtain⟨vs,b,g⟩:=s.lst f;exact⟨a.m i,vs,r.2,.of b,g⟩
  cases h
 |_=>cases h
def ZGk(K:za):R2:=λx y H Q=>∃l b xs zs,x=.ref l/\y=.ref b/\SqL K H l xs/\SqL K H b zs/\xs.length+zs.length<=sizeLine/\∀p,H p=uZ->Q (.ref p) (upd H p (.lst (xs++zs)))
theorem ZLC:OpR X (vJ .Add) (ZGk X.K):=by
 intro t s σ H x y v u Q I B U h;obtain⟨l,b,Z,W,rfl,rfl,J,A,Y,q⟩:=h;cases B;cases U;obtain⟨c,r,P,_⟩:=I.list J;obtain⟨a,m,C,_⟩:=I.list A;obtain⟨⟨N,M,k,w⟩,n,p,L,_,O⟩:=P;obtain⟨⟨o,j,e,f⟩,z,d,g,_,i⟩:=C;cases L;cases O;cases g;cases i;have hl:=r.length;have S:=m.length;refine concat_meets ⟨_,p,rfl⟩ ⟨_,d,rfl⟩ noFill_list_add seq_list_add PySem.F.slot_list_add PySem.F.entry_list_add (PySem.F.args_list_add_2 _ _) (list_addW l b c.toArray a.toArray n z M j w f (by rw[zk,zk];lia)) ⟨p,d,?_⟩
 have T:c.toArray++a.toArray=(c++a).toArray:=by simp
 rw[T];exact⟨.ref _,_,I.lnew (r.append m) (by rw[zH];lia),rfl,q _ I.fresh⟩
theorem ZCL:OpR X (vJ .Add) (lR2 X.K E Ai):=Ft (ZHp.or (ZIZ.or (ZLC.or ZKA))) λa G d e x y Q hk s rd re q=>by
 have lst:out E a (match Ep d G,Ep e G with
  |some xs,uQ ys=>if xs.length+ys.length<=1000000 then .ok (.ref G.length) (G++[.lst (xs++ys)])else .bad
  |_,_=>.bad) Q->ZGk X.K x y a.H Q:=λq=>by
  split at q
  .rename_i xs ys h1 h2;split at q
   .rename_i hl;obtain⟨p,vs,e1,q1,r1⟩:=Ut s rd h1;obtain⟨p',vs',e2,q2,r2⟩:=Ut s re h2;rw[hk]at q1 q2;exact⟨p,p',vs,vs',e1,e2,q1,q2,by rw[<-r1.length,<-r2.length];exact zE hl size6,λp hp=>Jf s (r1.append r2) q p hp⟩
   exact q.elim
  exact q.elim
 cases d<;>cases e<;>first
  |exact .inl ⟨_,_,rd,re,q a _ (.refl a) s rfl⟩
  |exact(λq=>Or.inr (Or.inr (Or.inl (lst q)))) q
  |skip
 .rename_i i j;unfold Ai at q;dsimp only at q;split at q
  .rename_i hl;exact .inr (.inl ⟨_,_,rd,re,zE hl size6,q a _ (.refl a) s rfl⟩)
  exact q.elim
 .rename_i xs ys;unfold Ai at q;dsimp only at q;split at q
  .rename_i hl;obtain⟨p,vs,e1,h1,r1⟩:=rd;obtain⟨p',vs',e2,h2,r2⟩:=re;rw[hk]at h1 h2;refine .inr (.inr (.inr ⟨p,p',vs,vs',e1,e2,h1,h2,λz=>hl.1 (qP (by rw[r1.length,z];rfl)),by rw[<-r1.length,<-r2.length];exact zE hl.2 size6,λz=>?_,λ_ p0 hp=>(Vw s (r1.append r2) q p0 hp)⟩))
   .refine q a (.ref p) (.refl a) s ⟨p,vs,rfl,hk▸h1,?_⟩;have e3:=qP (by rw[r2.length,z];rfl);rw[e3,qJ];exact r1
  exact q.elim
inductive VD where
 |flat (v:V)
 |lst (xs:List D)
 |tup (xs:List D)
 |bad
def view(G:DH):D->VD
 |.non=>.flat .non
 |.bl b=>.flat (.bl b)
 |.int i=>.flat (.int i)
 |.str x=>.flat (.str x)
 |.ty _=>.bad
 |.tup xs=>.tup xs
 |.fl xs=>.lst xs
 |.ref i=>match G[i]? with
  |some (.lst xs)=>.lst xs
  |_=>.bad
noncomputable def eqZ(f:D->D->Option Bool):List D->List D->Option Bool
 |x::xs,y::ys=>match f x y,eqZ f xs ys with
  |some a,uQ b=>uQ (a&&b)
  |_,_=>uZ
 |_,_=>uQ uJ
def eqD:Nat->DH->D->D->Option Bool
 |0=>λ_ _ _=>uZ
 | n+1=>λG d e=>match view G d,view G e with
  |.flat a,.flat b=>uQ (eqV a b)
  |.lst xs,.lst ys=>if xs.length=ys.length then eqZ (eqD n G) xs ys else uQ uX
  |.tup xs,.tup ys=>match eqZ (eqD n G) xs ys with
   |some b=>uQ (b&&xs.length==ys.length)
   |none=>uZ
  |.bad,_=>uZ
  |_,.bad=>uZ
  |_,_=>uQ uX
theorem Px:∀{xs ys:List D}{k:Bool},eqZ f xs ys=uQ k->∃e:Nat->Bool,(∀(j:Nat)(x y:D),xs[j]?=uQ x->ys[j]?=uQ y->f x y=uQ (e j))/\k=(zX (min xs.length ys.length)).all e
 | [],ys,k,h=>⟨λ_=>uJ,λj x y c _=>by simp at c,by
   have d:uQ uJ=uQ k:=by cases ys<;>exact h
   cases d;simp⟩
 |x::xs,[],k,h=>⟨λ_=>uJ,λj x y _ c=>by simp at c,by have d:=h;cases d;simp⟩
 | x::xs,y::ys,k,h=>by
  unfold eqZ at h;split at h
  .rename_i a b i l;obtain⟨e,n,hk⟩:=Px l
   refine⟨λj=>match j with |0=>a|j+1=>e j,λj o m c g=>?_,?_⟩
   .cases j with
    |zero=>simp at c g;subst c;subst g;exact i
    |succ j=>exact n j o m (by simpa using c) (by simpa using g)
   rw[<-(Option.some.inj h),hk];have:min (x::xs).length (y::ys).length=min xs.length ys.length+1:=by simp only[zN];lia
   rw[this,qM,jy,List.all_map]
   rfl
  cases h
theorem Pk(s:Sim a G)(r:Rep a d x):match view G d with
  |.flat v=>x=v/\Do v=uJ
  |.lst g=>∃p c,x=.ref p/\SqL a.K a.H p c/\Reps a g c
  |.tup g=>∃p c,x=.ref p/\SqT a.K a.H p c/\Reps a g c
  |.bad=>True:=by
 cases d with
 |ty n=>trivial
 |tup g=>
  obtain⟨p,c,e,h,q⟩:=r;exact⟨p,c,e,h,q⟩
 |fl g=>
  obtain⟨p,c,e,h,q⟩:=r;exact⟨p,c,e,h.sq,q⟩
 | ref i=>
  unfold view;dsimp only;split
  .rename_i v f
   split at f<;>cases f
  .rename_i g f;split at f
   .rename_i o k;cases f;obtain⟨c,j,l⟩:=s.lst k;exact⟨a.m i,c,r.2,.of j,l⟩
   cases f
  .rename_i g f
   split at f<;>cases f
  trivial
 |_=>exact⟨r,rfl⟩
theorem ZNS(f:RelV y u)(c:RelV x v)(g:Do y=uJ)(e:Do x=uJ):SeqAt.RcAt A s u v (eqV y x):=by
 cases y with
 |non=>
  cases f;cases x with
  |non=>cases c;exact .none_none
  |bl b=>cases c;exact .none_bool b
  |int b=>obtain⟨t,rfl⟩:=c;exact .none_int b t
  |str b=>obtain⟨t,rfl⟩:=c;exact .none_str b t
  |_=>exact absurd (e) zC
 |bl a=>
  cases f;cases x with
  |non=>cases c;exact .bool_none a
  |bl b=>cases c;exact .bool_bool a b
  |int b=>obtain⟨t,rfl⟩:=c;exact .bool_int a b t
  |str b=>obtain⟨t,rfl⟩:=c;exact .bool_str a b t
  |_=>exact absurd (e) zC
 |int a=>
  obtain⟨d,rfl⟩:=f;cases x with
  |non=>cases c;exact .int_none a d
  |bl b=>cases c;exact .int_bool a d b
  |int b=>obtain⟨t,rfl⟩:=c;exact .int_int a d b t
  |str b=>obtain⟨t,rfl⟩:=c;exact .int_str a d b t
  |_=>exact absurd (e) zC
 |str a=>
  obtain⟨d,rfl⟩:=f;cases x with
  |non=>cases c;exact .str_none a d
  |bl b=>cases c;exact .str_bool a d b
  |int b=>obtain⟨t,rfl⟩:=c;exact .str_int a d b t
  |str b=>obtain⟨t,rfl⟩:=c;exact .str_str a d b t
  |_=>exact absurd (e) zC
 |_=>exact absurd (g) zC
theorem ZMi(f:RelV y u)(c:RelV x v)(g:Do y=uJ)(e:Do x=uJ):SeqAt.RcNeAt A s u v (!eqV y x):=by
 cases y with
 |non=>
  cases f;cases x with
  |non=>cases c;exact .none_none
  |bl b=>cases c;exact .none_bool b
  |int b=>obtain⟨t,rfl⟩:=c;exact .none_int b t
  |str b=>obtain⟨t,rfl⟩:=c;exact .none_str b t
  |_=>exact absurd (e) zC
 |bl a=>
  cases f;cases x with
  |non=>cases c;exact .bool_none a
  |bl b=>cases c;exact .bool_bool a b
  |int b=>obtain⟨t,rfl⟩:=c;exact .bool_int a b t
  |str b=>obtain⟨t,rfl⟩:=c;exact .bool_str a b t
  |_=>exact absurd (e) zC
 |int a=>
  obtain⟨d,rfl⟩:=f;cases x with
  |non=>cases c;exact .int_none a d
  |bl b=>cases c;exact .int_bool a d b
  |int b=>obtain⟨t,rfl⟩:=c;exact .int_int a d b t
  |str b=>obtain⟨t,rfl⟩:=c;exact .int_str a d b t
  |_=>exact absurd (e) zC
 |str a=>
  obtain⟨d,rfl⟩:=f;cases x with
  |non=>cases c;exact .str_none a d
  |bl b=>cases c;exact .str_bool a d b
  |int b=>obtain⟨t,rfl⟩:=c;exact .str_int a d b t
  |str b=>obtain⟨t,rfl⟩:=c;exact .str_str a d b t
  |_=>exact absurd (e) zC
 |_=>exact absurd (g) zC
end
section
variable{X:Cx}{E:XK}{vS:List (xE×Obj)}{σ:St}{s:xN}
theorem ZPo(v:V)(h:Do v=uJ):eqV v v=uJ:=by cases v<;>first|rfl|exact absurd (h) zC|(simp[eqV])
theorem ZFC(I:Inv X vS σ a.H s)(hk:a.K=X.K)(L:Sim a G):∀(n:Nat){d e:D}{x:V}{k:Bool},Rep a d x->Rep a e x->eqD n G d e=uQ k->k=uJ
 |0,_,_,_,_,_,_,h=>by cases h
 | n+1,d,e,x,k,T,P,h=>by
  have m:=Pk L T;have o:=Pk L P;have r:∀{B A:List D}{q:List V}{b:Bool},Reps a B q->Reps a A q->eqZ (eqD n G) B A=uQ b->b=uJ:=λ{B A q b}y t F=>by obtain⟨f,Q,S⟩:=Px F;rw[S,jP];intro j W;have N:=zU.mp W;have l:B[j]?=uQ (B[j]'(by lia)):=zJ (by lia);have g:A[j]?=uQ (A[j]'(by lia)):=zJ (by lia);obtain⟨Z,c,M⟩:=y.get l;obtain⟨v2,i,O⟩:=t.get g;rw[c]at i;cases i;exact ZFC I hk L n M O (Q j _ _ l g)
  unfold eqD at h
  try dsimp only at h
  revert h m o
  cases view G d<;>cases view G e<;>intro m o h<;>dsimp only at h m o<;>first
   |cases h
   |skip
  .
   rename_i v w;obtain⟨rfl,u⟩:=m;obtain⟨rfl,Y⟩:=o;exact ZPo _ u
  .obtain⟨rfl,u⟩:=m;obtain⟨p,q,c,_⟩:=o;subst c;cases u
  .obtain⟨rfl,u⟩:=m;obtain⟨p,q,c,_⟩:=o;subst c;cases u
  .obtain⟨rfl,u⟩:=o;obtain⟨p,q,c,_⟩:=m;subst c;cases u
  .obtain⟨p,q,c,l,y⟩:=m;obtain⟨J,z,i,g,t⟩:=o;rw[c]at i;cases i;rw[hk]at l g;cases I.Zh l g;split at h
   .exact r y t h
   rename_i U;exact absurd (y.length.trans t.length.symm) U
  .obtain⟨p,q,c,l,y⟩:=m;obtain⟨J,z,i,g,t⟩:=o;rw[c]at i;cases i;rw[hk]at l g;obtain⟨_,_,C,_⟩:=I.list l;obtain⟨_,_,pt,_⟩:=I.tuple g;exact absurd rfl (wz C.isList pt)
  .obtain⟨rfl,u⟩:=o;obtain⟨p,q,c,_⟩:=m;subst c;cases u
  .obtain⟨p,q,c,l,y⟩:=m;obtain⟨J,z,i,g,t⟩:=o;rw[c]at i;cases i;rw[hk]at l g;obtain⟨_,_,C,_⟩:=I.list g;obtain⟨_,_,pt,_⟩:=I.tuple l;exact absurd rfl (wz C.isList pt)
  obtain⟨p,q,c,l,y⟩:=m;obtain⟨J,z,i,g,t⟩:=o;rw[c]at i;cases i;rw[hk]at l g;cases I.Yh l g;split at h
  .rename_i b F;rw[<-(Option.some.inj h),r y t F,y.length,t.length];simp
  cases h
theorem Qz(r:Reps a xs vs)(q:Vals vs its)(h:j<its.toArray.size):∃d v,xs[j]?=uQ d/\Rep a d v/\RelV v its.toArray[j]:=by
 have b:j<its.length:=by simpa using h
 have i:=q.length▸b;obtain⟨v,c⟩:∃v,vs[j]?=uQ v:=⟨vs[j],zJ i⟩;obtain⟨d,l,f⟩:=r.get' c;obtain⟨u,e,g⟩:=q.get c;have k:u=its.toArray[j]:=by have:=zJ b;rw[this]at e;simpa using(Option.some.inj e).symm
 exact⟨d,v,l,f,by rw[<-k];exact g⟩
theorem Sw(I:Inv X vS σ a.H s)(hk:a.K=X.K)(sm:Sim a G):∀(n:Nat){A:xF}{d e:D}{x y:V}{u w:xP}{k:Bool},A.units+n<cLine->Rep a d x->Rep a e y->RelV x u->RelV y w->eqD n G d e=uQ k->
  SeqAt.EqAt A s u w k/\SeqAt.RcAt A s u w k/\SeqAt.RcNeAt A s u w (!k)
 |0,_,_,_,_,_,_,_,_,_,_,_,_,_,h=>by cases h
 | n + 1,A,d,e,x,y,u,w,k,hu,rd,re,r,m,h=>by
  have L:=Pk sm rd;have M:=Pk sm re;have c:A.units<cLine:=by lia
  have hu2:A.in1.units+n<cLine:=by show A.units+1+n<cLine;lia
  have F:∀{z:V},Rep a d z->Rep a e z->eqD (n+1) G d e=uQ k->k=uJ:=λS C r3=>ZFC I hk sm (n+1) S C r3
  have h0:=h;unfold eqD at h
  try dsimp only at h
  have O:∀{p q:xE}{k:Bool},(p=q->k=uJ)->SeqAt.RcAt A s (.ref p) (.ref q) k->SeqAt.EqAt A s (.ref p) (.ref q) k:=λ{p q k}hs hr=>by
   by_cases e:p=q
   .rw[hs e,e];exact .same _
   exact .of_refs e hr
  revert h L M
  cases hvd:view G d<;>cases hve:view G e<;>intro L M h<;>dsimp only at h L M<;>first
   |cases h
   |skip
  .
   obtain⟨rfl,N⟩:=L;obtain⟨rfl,f2⟩:=M;exact⟨ZFA r m N f2,ZNS r m N f2,ZMi r m N f2⟩
  .
   obtain⟨rfl,N⟩:=L;obtain⟨q,Y,rfl,o,C⟩:=M;cases m;rw[hk]at o;obtain⟨l,qv,g,_⟩:=I.list o;cases x with
   |non=>cases r;exact⟨.none_list g.isList c,.none_list g.isList c,.none_list g.isList c⟩
   |bl b=>cases r;exact⟨.bool_list b g.isList c,.bool_list b g.isList c,.bool_list b g.isList c⟩
   |int b=>obtain⟨t,rfl⟩:=r;exact⟨.int_list b t g.isList c,.int_list b t g.isList c,.int_list b t g.isList c⟩
   |str b=>obtain⟨t,rfl⟩:=r;exact⟨.str_list b t g.isList c,.str_list b t g.isList c,.str_list b t g.isList c⟩
   |_=>exact absurd (N) zC
  .
   obtain⟨rfl,N⟩:=L;obtain⟨q,Y,rfl,o,C⟩:=M;cases m;rw[hk]at o;obtain⟨l,qv,g,_⟩:=I.tuple o;cases x with
   |non=>cases r;exact⟨.none_tuple g c,.none_tuple g c,.none_tuple g c⟩
   |bl b=>cases r;exact⟨.bool_tuple b g c,.bool_tuple b g c,.bool_tuple b g c⟩
   |int b=>obtain⟨t,rfl⟩:=r;exact⟨.int_tuple b t g c,.int_tuple b t g c,.int_tuple b t g c⟩
   |str b=>obtain⟨t,rfl⟩:=r;exact⟨.str_tuple b t g c,.str_tuple b t g c,.str_tuple b t g c⟩
   |_=>exact absurd (N) zC
  .
   obtain⟨rfl,N⟩:=M;obtain⟨q,Y,rfl,o,C⟩:=L;cases r;rw[hk]at o;obtain⟨l,qv,g,_⟩:=I.list o;cases y with
   |non=>cases m;exact⟨.list_none g.isList c,.list_none g.isList c,.list_none g.isList c⟩
   |bl b=>cases m;exact⟨.list_bool b g.isList c,.list_bool b g.isList c,.list_bool b g.isList c⟩
   |int b=>obtain⟨t,rfl⟩:=m;exact⟨.list_int b t g.isList c,.list_int b t g.isList c,.list_int b t g.isList c⟩
   |str b=>obtain⟨t,rfl⟩:=m;exact⟨.list_str b t g.isList c,.list_str b t g.isList c,.list_str b t g.isList c⟩
   |_=>exact absurd (N) zC
  .
   obtain⟨p,Y,rfl,Q,S⟩:=L;obtain⟨q,W,rfl,o,C⟩:=M;cases r;cases m;rw[hk]at Q o;obtain⟨l,Z,B,_⟩:=I.list Q;obtain⟨i,q2,v,_⟩:=I.list o;have P:=zk▸Z.length.symm;have U:=zk▸q2.length.symm;split at h
   .rename_i hl;obtain⟨f,hf,hb⟩:=Px h;have J:l.toArray.size=i.toArray.size:=by rw[P,U,<-S.length,<-C.length];exact hl
    have he:∀j(g1:j<l.toArray.size)(g2:j<i.toArray.size),SeqAt.EqAt A.in1 s l.toArray[j] i.toArray[j] (f j):=λj g1 g2=>by obtain⟨d1,v1,e1,rd1,rv1⟩:=Qz S Z g1;obtain⟨d2,v2,e2,rd2,rv2⟩:=Qz C q2 g2;exact(Sw I hk sm n hu2 rd1 rd2 rv1 rv2 (hf j d1 d2 e1 e2)).1
    have T:k=(zX l.toArray.size).all f:=by
     rw[hb]
     congr 2
     rw[P,<-S.length,hl];lia
    have rc:SeqAt.RcAt A s (.ref p) (.ref q) k:=T ▸ .lists B.isList v.isList J c he;refine⟨O (λe=>?_) rc,rc,T ▸ .lists B.isList v.isList J c he⟩;subst e;exact F rd re h0
   rename_i hl;have h':=Option.some.inj h;subst h';have J:(l.toArray.size != i.toArray.size)=uJ:=by rw[bne_iff_ne,P,U,<-S.length,<-C.length];exact hl
   refine⟨O (λe=>?_) (.lists_lengths B.isList v.isList J c),.lists_lengths B.isList v.isList J c,.lists_lengths B.isList v.isList J c⟩;subst e;exact F rd re h0
  .
   obtain⟨p,Y,rfl,Q,S⟩:=L;obtain⟨q,W,rfl,o,C⟩:=M;cases r;cases m;rw[hk]at Q o;obtain⟨l,Z,B,_⟩:=I.list Q;obtain⟨i,q2,v,_⟩:=I.tuple o;exact⟨.list_tuple B.isList v c,.list_tuple B.isList v c,.list_tuple B.isList v c⟩
  .
   obtain⟨rfl,N⟩:=M;obtain⟨q,Y,rfl,o,C⟩:=L;cases r;rw[hk]at o;obtain⟨l,qv,g,_⟩:=I.tuple o;cases y with
   |non=>cases m;exact⟨.tuple_none g c,.tuple_none g c,.tuple_none g c⟩
   |bl b=>cases m;exact⟨.tuple_bool b g c,.tuple_bool b g c,.tuple_bool b g c⟩
   |int b=>obtain⟨t,rfl⟩:=m;exact⟨.tuple_int b t g c,.tuple_int b t g c,.tuple_int b t g c⟩
   |str b=>obtain⟨t,rfl⟩:=m;exact⟨.tuple_str b t g c,.tuple_str b t g c,.tuple_str b t g c⟩
   |_=>exact absurd (N) zC
  .
   obtain⟨p,Y,rfl,Q,S⟩:=L;obtain⟨q,W,rfl,o,C⟩:=M;cases r;cases m;rw[hk]at Q o;obtain⟨l,Z,B,_⟩:=I.tuple Q;obtain⟨i,q2,v,_⟩:=I.list o;exact⟨.tuple_list B v.isList c,.tuple_list B v.isList c,.tuple_list B v.isList c⟩
  rename_i xs ys;obtain⟨p,Y,rfl,Q,S⟩:=L;obtain⟨q,W,rfl,o,C⟩:=M;cases r;cases m;rw[hk]at Q o;obtain⟨l,Z,B,_⟩:=I.tuple Q;obtain⟨i,q2,v,_⟩:=I.tuple o;have P:l.toArray.size=xs.length:=by rw[zk,S.length];exact Z.length.symm
  have U:i.toArray.size=ys.length:=by rw[zk,C.length];exact q2.length.symm
  split at h
  .rename_i b hz;obtain⟨f,hf,hb⟩:=Px hz;have he:∀j(g1:j<l.toArray.size)(g2:j<i.toArray.size),SeqAt.EqAt A.in1 s l.toArray[j] i.toArray[j] (f j):=λj g1 g2=>by obtain⟨d1,v1,e1,rd1,rv1⟩:=Qz S Z g1;obtain⟨d2,v2,e2,rd2,rv2⟩:=Qz C q2 g2;exact(Sw I hk sm n hu2 rd1 rd2 rv1 rv2 (hf j d1 d2 e1 e2)).1
   have T:k=((zX (min l.toArray.size i.toArray.size)).all f&&l.toArray.size==i.toArray.size):=by rw[<-(Option.some.inj h),hb,P,U]
   have rc:SeqAt.RcAt A s (.ref p) (.ref q) k:=T ▸ .tuples B v c he;refine⟨O (λe=>?_) rc,rc,T ▸ .tuples B v c he⟩;subst e;exact F rd re h0
  cases h
def Bx(d e:D)(G:DH):R D:=match eqD 30 G d e with
 |some k=>.ok (.bl k) G
 |none=>.bad
def Gn(d e:D)(G:DH):R D:=match eqD 30 G d e with
 |some k=>.ok (.bl (!k)) G
 |none=>.bad
theorem o_eq(n:X.A.units+64<cLine):OpR X (vW .Eq) (lR2 X.K E Bx):=by
 intro b s m H x y v u Q I g l ⟨a,G,d,e,hk,j,c,f,i,q⟩;subst j;unfold Bx at q;split at q
 .rename_i k h;exact(Sw I hk c 30 (by lia) f i g l h).2.1 _ _ _ _ ⟨.bl k,a.H,I,rfl,q a _ (.refl a) c rfl⟩
 exact q.elim
theorem o_ne(n:X.A.units+64<cLine):OpR X (vW .NotEq) (lR2 X.K E Gn):=by
 intro b s m H x y v u Q I g l ⟨a,G,d,e,hk,j,c,f,i,q⟩;subst j;unfold Gn at q;split at q
 .rename_i k h;exact(Sw I hk c 30 (by lia) f i g l h).2.2 _ _ _ _ ⟨.bl (!k),a.H,I,rfl,q a _ (.refl a) c rfl⟩
 exact q.elim
end
noncomputable abbrev DG:=D->DSt->DH->R DSt
def Ez(E:XK)(a:Wd)(r:R DSt)(Q:St->Hp->Prop):Prop:=match r with
 |.ok S G=>∀(b:Wd)(σ:St),Ext a b->Sim b G->RepS b S σ->Q σ b.H
 |.err x G=>XOk E a x G
 |.bad=>False
noncomputable def lG(K:za)(E:XK)(t:DG):TG:=λv σ H Q=>PG3 K σ H v Rep λa S G d=>Ez E a (t d S G) Q
def QG(X:Cx)(E:XK)(tg:xG)(t:DG):Prop:=PG X tg (lG X.K E t)
noncomputable abbrev DGs:=List D->DSt->DH->R DSt
noncomputable def lGs(K:za)(E:XK)(t:DGs):TGs:=λvs σ H Q=>PG3 K σ H vs Reps λa S G ds=>Ez E a (t ds S G) Q
def QGs(X:Cx)(E:XK)(tg:List xG)(t:DGs):Prop:=PGs X tg (lGs X.K E t)
noncomputable def gV(i:Nat):DG:=λd S G=>.ok (S.set i (uQ d)) G
noncomputable def Bs:DGs:=λds S G=>match ds with
 |[]=>.ok S G
 |_=>.bad
def Al(t:DG)(u:DGs):DGs:=λds S G=>match ds with
 |d::r=>(t d S G).bind λS1 G1=>u r S1 G1
 |[]=>.bad
noncomputable def Bp(n:Nat)(t:DGs):DG:=λd S G=>match d with
 |.tup ds=>if ds.length=n then t ds S G else .bad
 |_=>.bad
theorem Ez.imp(h:Ez E a r Q)(w:∀v H,Q v H->Q' v H):Ez E a r Q':=by
 cases r with
 |ok d G=>exact λb v x s q=>w _ _ (h b v x s q)
 |_=>exact h
theorem Ez.mono(x:Ext a b)(h:Ez E a r Q):Ez E b r Q:=by
 cases r with
 |ok d G=>exact λc v y s q=>h c v (x.trans y) s q
 |err e G=>exact XOk.mono x h
 |bad=>exact h
theorem ZLK(h:Ez E a (r.bind f) Q):
  Ez E a r (λc H=>PR3 a H r c RepS λb S G=>Ez E b (f S G) Q):=by
 cases r with
 |ok d G=>exact λb v x s q=>⟨b,d,G,rfl,x,s,q,rfl,Ez.mono x h⟩
 |_=>exact h
theorem ZFG(h:Ez E a (r.bind f) Q):
  out E a r (λv H=>PR3 a H r v Rep λb d G=>Ez E b (f d G) Q):=by
 cases r with
 |ok d G=>exact λb v x s q=>⟨b,d,G,rfl,x,s,q,rfl,Ez.mono x h⟩
 |_=>exact h
theorem ZFB(h:Bt E a (r.toS f) W):
  Ez E a r (λc H=>PR3 a H r c RepS λb S G=>Bt E b (f S G) W):=by
 cases r with
 |ok d G=>exact λb v x s q=>⟨b,d,G,rfl,x,s,q,rfl,Bt.mono x h⟩
 |_=>exact h
section
variable{X:Cx}{E:XK}
theorem _root_._L.PG.mono(h:PG X e t)(w:∀v a H Q,t' v a H Q->t v a H Q):PG X e t':=λb s a H v u Q I r q=>h b s a H v u Q I r (w v a H Q q)
theorem _root_._L.PGs.mono(h:PGs X e t)(w:∀v a H Q,t' v a H Q->t v a H Q):PGs X e t':=λb s a H v u Q I r q=>h b s a H v u Q I r (w v a H Q q)
theorem ZBY(i:Nat){x:Str}{pos:Pos}(b:X.N.Nodup)(c:X.N[i]?=uQ x:=by rfl)(g:Loc X.env.scope x:=by first|exact Or.inl rfl|exact Or.inr rfl)
  (f:X.fn x=uJ∨X.env.scope.names.lookup x=uQ .local:=by first|exact .inl rfl|exact .inr rfl|assumption):QG X E (.Name x pos) (gV i):=
 (ZMT b c g f).mono λv j H Q h=>by obtain⟨a,S,G,d,hk,rfl,s,r,q,h⟩:=h;exact h a _ (.refl a) s (r.set i q)
theorem ZQA:QGs X E [] Bs:=ZMQ.mono λf c H Q h=>by
 obtain⟨a,S,G,b,hk,rfl,s,r,q,h⟩:=h;cases b with
 |nil=>exact⟨q,h a c (.refl a) s r⟩
 |cons d b=>exact h.elim
theorem ZHn(c:QG X E e t)(n:QGs X E es u)
  (l:(xS (e::es) X.env).map (·.2)=assign e X.env::(xS es X.env).map (·.2):=by rfl):QGs X E (e::es) (Al t u):=(ZMX c n l).mono λA z H Q h=>by
 obtain⟨a,S,G,f,hk,rfl,s,r,q,h⟩:=h;cases f with
 |nil=>exact h.elim
 |cons d f=>
  obtain⟨v,rest,j,i,p⟩:=q;refine⟨v,rest,j,a,S,G,d,hk,rfl,s,r,i,(ZLK h).imp ?_⟩;rintro m _ ⟨b,w,g,rfl,x,y,o,_,c⟩;exact⟨b,w,g,f,x.k.trans hk,rfl,y,o,p.mono x,c⟩
theorem ZMy{es:List xG}{k:Nat}{t:DGs}{n:Nat}{pos:Pos}(m:X.calm=uJ)(h:QGs X E es t)
  (g:(xS es X.env).length=n:=by rfl) (b:(xS es X.env).findIdx? (·.1)=uZ:=by rfl):QG X E (.Tuple es k pos) (Bp n t):=(ZMx m h g b).mono λv o H Q h=>by
 obtain⟨a,S,G,d,hk,rfl,s,r,q,h⟩:=h;cases d with
 |tup l=>
  obtain⟨p,j,e,i,c⟩:=q;unfold Bp at h;dsimp only at h;split at h
  .rename_i f;exact⟨p,j,e,by rw[<-hk];exact i,by rw[<-c.length];exact f,a,S,G,l,hk,rfl,s,r,c,h⟩
  exact h.elim
 |_=>exact h.elim
def Gd(o i v:D)(G:DH):R D:=match o,i with
 | .ref p,.int k=>match G[p]? with
  |some (.lst xs)=>match ixN xs.length k with
   |some j=>.ok .non (G.set p (.lst (xs.set j v)))
   |none=>.bad
  |_=>.bad
 |_,_=>.bad
def gIx(to ti:DE):DG:=λv S G=>(to S G).bind λo G1=>(ti S G1).bind λi G2=>(Gd o i v G2).bind λ_ G3=>.ok S G3
theorem Sq(s:Sim a G)(b:i<a.n)(h:a.H (a.m i)=uQ (.lst vs))(r:Reps a ds' vs'):
  Ext a (a.put (a.m i) (.lst vs'))/\Sim (a.put (a.m i) (.lst vs')) (G.set i (.lst ds')):=⟨.wr h,s.wr b h (r.mono (.wr h))⟩
theorem ZNA(ho:QE X E o to)(N:QE X E i ti)
  (O:∀v,assign (.Subscript o i pos) X.env v=(do
   let ov<-holding [v] (eval o X.env);let iv<-holding [v,ov] (eval i X.env)
   standAt pos
   holding [v,ov,iv] (setItem ov iv v)
   release [v,ov,iv] []):=by intro _;rfl):QG X E (.Subscript o i pos) (gIx to ti):=(ZN2 ho N set_list O).mono λv L H Q h=>by
 obtain⟨a,S,G,d,hk,rfl,s,r,q,h⟩:=h;refine⟨a,S,G,hk,rfl,s,r,(ZFG h).imp ?_⟩;rintro ov _ ⟨b,e,B,rfl,x,J,C,_,I⟩;refine⟨b,S,B,x.k.trans hk,rfl,J,r.mono x,(ZFG I).imp ?_⟩;rintro iv _ ⟨c,f,U,rfl,y,w,F,_,g⟩;cases e with
 | ref p=>
  cases f with
  | int k=>
   unfold Gd at g;dsimp only at g;split at g
   .rename_i W T;split at g
    .rename_i j M;obtain⟨K,n,A⟩:=w.lst T;have l:=C.mono y;obtain⟨z,P⟩:=Sq w l.1 n (A.set ((q.mono x).mono y) j);exact⟨c.m p,K,k,j,l.2,F,n,by rw[<-A.length];exact M,g _ L z P (((r.mono x).mono y).mono z)⟩
    exact g.elim
   exact g.elim
  |_=>exact g.elim
 |_=>exact g.elim
variable{st:xO}{rest:List xO}{t u:DS}{e:xG}{te:DE}{pos:Pos}
noncomputable def sNx:DS:=λS G=>.nx S G
noncomputable def Af(t u:DS):DS:=λS G=>match t S G with
 |.nx S1 G1=>u S1 G1
 |r=>r
def sEx(te:DE):DS:=λS G=>(te S G).toS λ_ G1=>.nx S G1
def sRt(te:DE):DS:=λS G=>(te S G).toS λd G1=>.rt d G1
def sIf(c:DB)(t u:DS):DS:=λS G=>(c S G).toS λk G1=>if k=uJ then t S G1 else u S G1
def sAs(te:DE)(g:DG):DS:=λS G=>(te S G).toS λd G1=>(g d S G1).toS λS2 G2=>.nx S2 G2
theorem ZAe:QSs X E [] sNx:=ZO2.mono λW b H h=>by obtain⟨a,S,G,hk,rfl,s,r,h⟩:=h;exact h a b (.refl a) s r
theorem Bt.nxOf{E:XK}{a:Wd}{t u:DS}{S:DSt}{G:DH}{K:za}(hk:a.K=K){W:Ends}(h:Bt E a (Af t u S G) W):Bt E a (t S G) {W with nx:=lS K E u W}:=by
 unfold Af at h
 revert h
 cases t S G<;>intro h
 .exact λb c x s r=>⟨b,_,_,x.k.trans hk,rfl,s,r,Bt.mono x h⟩
 all_goals exact h
theorem Dk(c:QS X E st t)(b:QSs X E rest u):QSs X E (st::rest) (Af t u):=(ZNc c b).mono λW d H h=>by obtain⟨a,S,G,hk,rfl,s,r,h⟩:=h;exact⟨a,S,G,hk,rfl,s,r,h.nxOf hk⟩
theorem Om(a:QS X E st t):QSs X E [st] t:=ZJR a
theorem ZKg(j:QE X E e te)(g:swapsWith e uZ pos.line X.env=pure uX:=by rfl):QS X E (.Expr e pos) (sEx te):=(ZM4 j g).mono λW c H h=>by obtain⟨a,S,G,hk,rfl,s,r,h⟩:=h;refine⟨a,S,G,hk,rfl,s,r,(Hf h).imp ?_⟩;rintro v _ ⟨b,d,k,rfl,x,i,q,_,f⟩;exact f b c (.refl b) i (r.mono x)
theorem ZPs(g:QE X E e te):QS X E (.Return (uQ e) pos) (sRt te):=(ZNC g).mono λW j H h=>by obtain⟨a,S,G,hk,rfl,s,r,h⟩:=h;refine⟨a,S,G,hk,rfl,s,r,(Hf h).imp ?_⟩;rintro v _ ⟨b,d,i,rfl,x,f,q,_,c⟩;exact c b v (.refl b) f q
theorem X5(l:QT X E c tc)(j:QSs X E a t)(i:QSs X E b u):QS X E (.If c a b pos) (sIf tc t u):=(ZQE l j i).mono λW m H h=>by
 obtain⟨a,S,G,hk,rfl,s,r,h⟩:=h;refine⟨a,S,G,hk,rfl,s,r,(ZB9 h).imp ?_⟩;rintro k _ ⟨b,d,rfl,x,g,_,f⟩;cases k with
 |_=>exact⟨b,S,d,x.k.trans hk,rfl,g,r.mono x,f⟩
theorem ZL2{K:za}{g:DG}{W:Ends}{i:St}{H:Hp}(h:lS K E (sAs te g) W i H):Xx (lE K E te) (lG K E g) W i H:=by obtain⟨a,S,G,hk,rfl,s,r,h⟩:=h;refine⟨a,S,G,hk,rfl,s,r,(Hf h).imp ?_⟩;rintro v _ ⟨b,d,j,rfl,x,p,q,_,l⟩;refine⟨b,S,j,d,x.k.trans hk,rfl,p,r.mono x,q,(ZFB l).imp ?_⟩;rintro f _ ⟨c,z,w,rfl,y,n,o,_,m⟩;exact m c f (.refl c) n o
theorem ZNw(a:QE X E e te)(d:QG X E tg g)(b:swapsWithSole [tg] e pos.line X.env=pure uX:=by rfl)(hw:swappedStores [tg] e X.env=pure uZ:=by rfl)
  (c:(xS [tg] X.env).map (·.2)=[assign tg X.env]:=by rfl):QS X E (.Assign [tg] e pos) (sAs te g):=(ZJ3 a d b hw c).mono λ_ _ _ h=>ZL2 h
theorem ZDH(i:Nat){x:Str}{c:Pos}(g:X.N.Nodup)(n:QE X E e te)(k:X.N[i]?=uQ x:=by rfl)(o:Loc X.env.scope x:=by first|exact Or.inl rfl|exact Or.inr rfl)(j:swapsWith e (uQ (.Name x c)) pos.line X.env=pure uX:=by rfl)
  (m:X.fn x=uJ∨X.env.scope.names.lookup x=uQ .local:=by first|exact .inl rfl|exact .inr rfl|assumption):QS X E (.Assign [.Name x c] e pos) (sAs te (gV i)):=
 (ZMd g k o n j m).mono λW w H h=>by obtain⟨a,S,G,hk,rfl,s,r,h⟩:=h;refine⟨a,S,G,hk,rfl,s,r,(Hf h).imp ?_⟩;rintro v _ ⟨b,d,p,rfl,x,l,q,_,f⟩;exact f b _ (.refl b) l ((r.mono x).set i q)
def Kw:D->D->DH->R D
 |.int i,.int j,G=>.ok (.int (i+j)) G
 |.str i,.str j,G=>if i.length+j.length<=1000000 then .ok (.str (i++j)) G else .bad
 |_,_,_=>.bad
theorem ZOD:OpR X (inplaceOp .Add) (lR2 X.K E Kw):=Ft (.or ZKK ZJH) λa G d e x y Q hk s rd re q=>by
 cases d<;>cases e<;>first
  |exact q.elim
  |exact .inl ⟨_,_,rd,re,q a _ (.refl a) s rfl⟩
  | (
    unfold Kw at q;dsimp only at q;split at q
    .rename_i hl;exact .inr ⟨_,_,rd,re,zE hl size6,q a _ (.refl a) s rfl⟩
    exact q.elim)
theorem ZJo:OpR X (inplaceOp .Sub) (lR2 X.K E Di):=Ft ZHT λa G d e x y Q hk s b c q=>by
 cases d<;>cases e<;>first
  |exact q.elim
  |exact⟨_,_,b,c,q a _ (.refl a) s rfl⟩
end
noncomputable def aft(r:SR)(k:DSt->DH->SR)(_:Fx k:=()):SR:=match r with
 |.nx S G=>k S G
 |.ct S G=>k S G
 |.bk S G=>.nx S G
 |r=>r
def Bc(g:DG)(b:DS):List D->DS
 |[],S,G=>.nx S G
 |x::xs,S,G=>(g x S G).toS λS1 G1=>aft (b S1 G1) (Bc g b xs)
def forM(i:Nat)(g:DG)(b:DS):Nat->Nat->DS
 |0,j,S,G=>match G[i]? with
  |some (.lst xs)=>if xs.length<=j then .nx S G else .bad
  |_=>.bad
 | k+1,j,S,G=>match G[i]? with
  |some (.lst xs)=>match xs[j]? with
   |some x=>(g x S G).toS λS1 G1=>aft (b S1 G1) (forM i g b k (j+1))
   |none=>.nx S G
  |_=>.bad
def Cv(f:Nat->DH->Option (Option D))(g:DG)(b:DS):Nat->Nat->DS
 |0,j,S,G=>match f j G with
  |some uZ=>.nx S G
  |_=>.bad
 |k+1,j,S,G=>match f j G with
  |some (uQ x)=>(g x S G).toS λS1 G1=>aft (b S1 G1) (Cv f g b k (j+1))
  |some uZ=>.nx S G
  |none=>.bad
inductive ItD where
 |pure (xs:List D)
 |mt (i:Nat)
 |fn (n:Nat) (f:Nat->DH->Option (Option D))
noncomputable abbrev DI:=DSt->DH->R ItD
def Cd(it:DI)(g:DG)(b:DS):DS:=λS G=>(it S G).toS λJ G1=>match J with
 |.pure xs=>Bc g b xs S G1
 |.mt i=>match G1[i]? with
  |some (.lst xs)=>forM i g b xs.length 0 S G1
  |_=>.bad
 |.fn n f=>Cv f g b n 0 S G1
def RepI(a:Wd):ItD->It->Prop
 |.pure xs,J=>∃vs:List V,Reps a xs vs/\∀b:Wd,Ext a b->∀i,(∀v,vs[i]?=uQ v->J.go i b.H/\∀x H',J.yld i b.H x H'->x=v/\H'=b.H)/\(vs.length<=i->J.stop i b.H)
 |.mt k,J=>k<a.n/\∀b:Wd,Ext a b->∀vs,b.H (b.m k)=uQ (.lst vs)->∀i,(∀v,vs[i]?=uQ v->J.go i b.H/\∀x H',J.yld i b.H x H'->x=v/\H'=b.H)/\(vs.length<=i->J.stop i b.H)
 |.fn _ f,J=>∀b:Wd,Ext a b->∀G,Sim b G->∀i,(∀d,f i G=uQ (uQ d)->J.go i b.H/\∀x H',J.yld i b.H x H'->∃c:Wd,c.H=H'/\Ext b c/\Sim c G/\Rep c d x)/\(f i G=uQ uZ->J.stop i b.H)
def outI(E:XK)(a:Wd)(r:R ItD)(Q:It->Hp->Prop):Prop:=match r with
 |.ok J G=>∀(b:Wd)(JJ:It),Ext a b->Sim b G->RepI b J JJ->Q JJ b.H
 |.err x G=>XOk E a x G
 |.bad=>False
noncomputable def lI(K:za)(E:XK)(t:DI):TI:=λσ H Q=>PS3 K σ H λa S G=>outI E a (t S G) Q
def QI(X:Cx)(E:XK)(tg iter:xG)(t:DI):Prop:=PI X tg iter (lI X.K E t)
theorem outI.imp(h:outI E a r Q)(w:∀v H,Q v H->Q' v H):outI E a r Q':=by
 cases r with
 |ok d G=>exact λb v x s q=>w _ _ (h b v x s q)
 |_=>exact h
theorem ZJA(h:Bt E a (r.toS f) W):
  outI E a r (λJ H=>PR3 a H r J RepI λb d G=>Bt E b (f d G) W):=by
 cases r with
 |ok d G=>exact λb v x s q=>⟨b,d,G,rfl,x,s,q,rfl,Bt.mono x h⟩
 |_=>exact h
theorem ZDw (h:Bt E a (aft r k) W):
  Bt E a r {W with
            nx:=λc H=>∃(b:Wd)(S:DSt)(G:DH),b.H=H/\Ext a b/\Sim b G/\RepS b S c/\Bt E b (k S G) W,
            ct:=λc H=>∃(b:Wd)(S:DSt)(G:DH),b.H=H/\Ext a b/\Sim b G/\RepS b S c/\Bt E b (k S G) W,bk:=W.nx}:=by
 cases r with
 |nx S G|ct S G=>exact λb c x s q=>⟨b,S,G,rfl,x,s,q,Bt.mono x h⟩
 |_=>exact h
noncomputable def mtF(i j:Nat)(G:DH):Option (Option D):=match G[i]? with
 |some (.lst xs)=>uQ xs[j]?
 |_=>uZ
theorem ZBt(r:RepI a (.pure xs) J):RepI a (.fn n λj _=>uQ xs[j]?) J:=by
 obtain⟨p,c,h⟩:=r;refine λb x G o i=>⟨λd e=>?_,λe=>((h b x i).2 (by rw[<-c.length];exact j3.mp (Option.some.inj e)))⟩
 .obtain⟨v,l,q⟩:=c.get (Option.some.inj e);obtain⟨g,k⟩:=(h b x i).1 v l;refine⟨g,λy f m=>?_⟩;obtain⟨rfl,rfl⟩:=k y f m;exact⟨b,rfl,.refl b,o,q.mono x⟩
theorem ZCr(r:RepI a (.mt k) J):RepI a (.fn n (mtF k)) J:=by
 obtain⟨hk,h⟩:=r;refine λb x G j i=>?_
 unfold mtF;cases t:G[k]? with
 |none=>exact⟨λd e=>(by cases e),λe=>(by cases e)⟩
 | some o=>
  cases o with
  |lst w=>
   obtain⟨f,c,g⟩:=j.lst t;refine⟨λd e=>?_,λe=>((h b x f c i).2 (by rw[<-g.length];exact j3.mp (Option.some.inj e)))⟩
   .obtain⟨v,s,q⟩:=g.get (Option.some.inj e);obtain⟨m,p⟩:=(h b x f c i).1 v s;refine⟨m,λy l u=>?_⟩;obtain⟨rfl,rfl⟩:=p y l u;exact⟨b,rfl,.refl b,j,q⟩
  |_=>exact⟨λd e=>(by cases e),λe=>(by cases e)⟩
theorem ZEn{g:DG}{b:DS}{xs:List D}:∀(n j:Nat),j+n=xs.length->Bc g b (xs.drop j)=Cv (λj _=>uQ xs[j]?) g b n j
 |0,j,h=>by
  funext S G;rw[q7 (by lia)]
  show SR.nx S G=(match uQ xs[j]? with |some uZ=>.nx S G|_=>.bad)
  rw[zA (by lia)]
 |n+1,j,h=>by
  funext S G;have d:j<xs.length:=by lia
  rw[qy d]
  show(g xs[j] S G).toS (λa c=>aft (b a c) (Bc g b (xs.drop (j+1))))=(match uQ xs[j]? with |some (uQ x)=>(g x S G).toS (λa c=>aft (b a c) (Cv (λj _=>uQ xs[j]?) g b n (j+1)))|some uZ=>.nx S G|none=>.bad)
  rw[zJ d,ZEn n (j+1) (by lia)]
theorem ZEs:∀(n j:Nat),forM i g b n j=Cv (mtF i) g b n j
 | 0,j=>by
  funext S G;unfold forM Cv mtF;cases G[i]? with
  |none=>rfl
  | some o=>
   cases o with
   |lst a=>
    dsimp only;by_cases c:j<a.length
    .rw[if_neg (by lia),zJ c]
    rw[if_pos (by lia),zA (by lia)]
   |_=>rfl
 | n+1,j=>by
  funext S G;unfold forM Cv;rw[ZEs n (j+1)];unfold mtF;cases G[i]? with
  |none=>rfl
  | some o=>
   cases o with
   |lst a=>
    dsimp only
    cases a[j]?<;>rfl
   |_=>rfl
section
variable{X:Cx}{E:XK}{tg iter:xG}{pos:Pos}
theorem ZKz{K:za}{it:DI}{g:DG}{b:DS}{W:Ends}{N:St}{H:Hp}(h:lS K E (Cd it g b) W N H):tFor (lI K E it) (lG K E g) (lS K E b) W N H:=by
 obtain⟨a,S,G,hk,rfl,s,r,h⟩:=h;refine⟨a,S,G,hk,rfl,s,r,(ZJA h).imp ?_⟩;rintro J _ ⟨t,d,O,rfl,x1,s1,u,_,l⟩;have k1:=x1.k.trans hk
 suffices fnc:∃n f,RepI t (.fn n f) J/\Bt E t (Cv f g b n 0 S O) W by
  obtain⟨n,f,u,l⟩:=fnc;have walk:=u;refine⟨λi m N H=>∃(c:Wd)(S:DSt)(G:DH),c.H=H/\Ext t c/\Sim c G/\RepS c S N/\Bt E c (Cv f g b m i S G) W,⟨_,t,S,O,rfl,.refl _,s1,r.mono x1,l⟩,?_⟩;rintro i m C _ ⟨c,S2,F,rfl,p,x,Q,j⟩;cases m with
  |zero=>
   unfold Cv at j;split at j
   .rename_i v;exact .inl ⟨(walk c p F x i).2 v,j c C (.refl c) x Q⟩
   exact j.elim
  | succ m=>
   unfold Cv at j;split at j
   .rename_i d v;obtain⟨go,yl⟩:=(walk c p F x i).1 d v;refine .inr ⟨go,λB M=>∃(c:Wd)(S:DSt)(G:DH),c.H=M/\Ext t c/\Sim c G/\RepS c S B/\Bt E c (Cv f g b m (i+1) S G) W,λB M z=>⟨m,qk _,z⟩,λw M y=>?_⟩;obtain⟨cc,rfl,q,ss,rd⟩:=yl w M y;refine⟨cc,S2,F,d,q.k.trans (p.k.trans k1),rfl,ss,Q.mono q,rd,(ZFB (Bt.mono q j)).imp ?_⟩;rintro σ3 _ ⟨c3,S3,G3,rfl,x3,s3,r3,_,h3⟩;have e:=ZDw h3;refine⟨c3,S3,G3,x3.k.trans (q.k.trans (p.k.trans k1)),rfl,s3,r3,?_⟩
    revert e
    cases b S3 G3 with
    | nx L I|ct L I=>
      intro e U o x4 P Y;obtain⟨Z,S5,G5,hh,x5,s5,r5,T⟩:=e U o x4 P Y;exact⟨Z,S5,G5,hh,p.trans (q.trans (x3.trans x5)),s5,r5,T⟩
    |_=>exact λe=>e
   .rename_i v;exact .inl ⟨(walk c p F x i).2 v,j c C (.refl c) x Q⟩
   exact j.elim
 cases d with
 |pure xs=>
  have A:Bt E t (Bc g b (xs.drop 0) S O) W:=l;rw[ZEn xs.length 0 (by lia)]at A;exact⟨_,_,ZBt u,A⟩
 |mt k=>
  dsimp only at l;split at l
  .rw[ZEs]at l;exact⟨_,_,ZCr u,l⟩
  exact l.elim
 |fn n f=>exact⟨n,f,u,l⟩
theorem S7(hp:PassesOwn (vj X.prog X.w) X.A X.env X.xe)(f:X.calm=uJ)(d:QI X E tg iter it)(a:QG X E tg g)(e:QSs X E body b)
  (c:∀x,foldedSetIterable iter X.env x=pure x:=by intro _;rfl):QS X E (.For tg iter body [] pos) (Cd it g b):=(ZP5 hp f d a e c).mono λ_ _ _ h=>ZKz h
theorem _root_._L.PI.mono(h:PI X tg iter t)(w:∀a H Q,t' a H Q->t a H Q):PI X tg iter t':=λb s a H Q I q=>h b s a H Q I (w a H Q q)
noncomputable def sgn(c:Nat):D:=.str ⟨#[c]⟩
def signs(x:Str):List D:=x.cps.toList.map sgn
noncomputable def Its(x:Str):It:=⟨λi _=>i<x.cps.size,λi H v H'=>H'=H/\∃c,x.cps[i]?=uQ c/\v=.str ⟨#[c]⟩,λi _=>x.cps.size<=i⟩
theorem ZPY{P:xL}{w:xR}{K:za}{tg:xG}(it:xE)(x:Str)(t:Tok):Turn P w K tg (Its x) [it] it (λi h=>h.IsStrIter it "str_ascii_iterator" x t i) where
 mem:=by simp
 obj:=λi h a b f=>by
  have e:b=it:=by simpa using f
  subst e;obtain⟨o,e,c,d⟩:=a;exact⟨o,e,λv z=>by rw[d]at z;cases z⟩
 keep:=λi h J a k=>let⟨o,N,r⟩:=a;⟨o,k it (by simp) o N,r⟩
 item:=by
  intro X n hw y F i j s O H E I l a u;subst n hw y;obtain⟨B,p,L,A,q,C⟩:=l it (by simp);have m:i<x.cps.size:=u;refine wpAny_pyNext_ascii_item a (c:=x.cps[i]) (by simp[m]) λJ g Q=>?_
  obtain⟨o,e,c,d⟩:=id g;exact⟨_,rfl,K5 e c d (by decide) ⟨.str ⟨#[x.cps[i]]⟩,H,I.turned (λb o f e=>(Q.2 b f).trans e) B p A q C,⟨_,rfl⟩,⟨rfl,_,by simp[m],rfl⟩,g,λb f=>(l b f).1⟩⟩
 done:=by intro X n hw y F i j s O H E I l a u;subst n hw y;obtain⟨B,p,L,A,q,C⟩:=l it (by simp);have m:x.cps.size<=i:=u;exact wpAny_pyNext_ascii_end (I.ok.hd F) a (by simp[m]) λJ M=>⟨rfl,I.turned (λb o f e=>M b o f e) B p A q C⟩
 self:=λ_ _ _ _ _ a h=>wpAny_pyIter_striter_ascii a h
theorem ZMM{P:xL}{w:xR}{K:za}{tg:xG}(it:xE)(x:Str)(t:Tok):Turn P w K tg (Its x) [it] it (λi h=>h.IsStrIter it "str_iterator" x t i) where
 mem:=by simp
 obj:=λi h a b f=>by
  have e:b=it:=by simpa using f
  subst e;obtain⟨o,e,c,d⟩:=a;exact⟨o,e,λv z=>by rw[d]at z;cases z⟩
 keep:=λi h J a k=>let⟨o,N,r⟩:=a;⟨o,k it (by simp) o N,r⟩
 item:=by
  intro X n hw y F i j s O H E I l a u;subst n hw y;obtain⟨B,p,L,A,q,C⟩:=l it (by simp);have m:i<x.cps.size:=u;refine wpAny_pyNext_wide_item a (c:=x.cps[i]) (by simp[m]) λJ g Q=>?_
  obtain⟨o,e,c,d⟩:=id g;exact⟨_,rfl,K5 e c d (by decide) ⟨.str ⟨#[x.cps[i]]⟩,H,I.turned (λb o f e=>(Q.2 b f).trans e) B p A q C,⟨_,rfl⟩,⟨rfl,_,by simp[m],rfl⟩,g,λb f=>(l b f).1⟩⟩
 done:=by intro X n hw y F i j s O H E I l a u;subst n hw y;obtain⟨B,p,L,A,q,C⟩:=l it (by simp);have m:x.cps.size<=i:=u;exact wpAny_pyNext_wide_end (I.ok.hd F) a (by simp[m]) λJ M=>⟨rfl,I.turned (λb o f e=>M b o f e) B p A q C⟩
 self:=λ_ _ _ _ _ a h=>wpAny_pyIter_striter_wide a h
def iStr(tl:TE):TI:=λσ H R=>tl σ H λx H1=>∃z,x=.str z/\R (Its z) H1
theorem ZLh{l:xG}{g:TE}(m:PE X l g):PI X tg l (iStr g):=by
 intro a s n H R I h;refine thn (m a s n H _ I h) λv c zz=>?_
 obtain⟨x,f,d,r,k⟩:=zz;obtain⟨z,e,q⟩:=k;subst e;obtain⟨t,rfl⟩:=r;have j:∀b∈[c.heap.objs.size],FpOk X a f b:=λb p=>by
  have e:b=c.heap.objs.size:=by simpa using p
  subst e;exact d.Hh (zx _) (d.hok.fresh (zx _))
 cases i:z.cps.all (· < 128)
 .exact wpAny_pyIter_wide i (⟨c.heap.objs.size,[c.heap.objs.size],_,_,f,rfl,d.kept λb o e=>zZ _ e,ZMM _ z t,⟨_,z3 _ rfl,rfl,rfl⟩,j,q⟩)
 .exact wpAny_pyIter_ascii i (⟨c.heap.objs.size,[c.heap.objs.size],_,_,f,rfl,d.kept λb o e=>zZ _ e,ZPY _ z t,⟨_,z3 _ rfl,rfl,rfl⟩,j,q⟩)
theorem Reps.signs(x:Str):Reps a (signs x) (x.cps.toList.map λc=>V.str ⟨#[c]⟩):=by
 unfold _D.signs
 induction x.cps.toList with
 |nil=>exact rfl
 |cons c r b=>exact⟨_,_,rfl,rfl,b⟩
def Ei:D->DH->R ItD
 |.tup xs,G=>.ok (.pure xs) G
 |.str x,G=>.ok (.pure (signs x)) G
 |.fl xs,G=>.ok (.pure xs) G
 |.ref i,G=>match G[i]? with
  |some (.lst _)=>.ok (.mt i) G
  |_=>.bad
 |_,_=>.bad
def Dt(te:DE):DI:=λS G=>(te S G).bind Ei
theorem ZJ6(C:QE X E iter te):QI X E tg iter (Dt te):=by
 intro f s M H R I h;obtain⟨a,S,G,hk,rfl,N,r,h⟩:=h;cases u:te S G with
 |bad=>
  have j:outI E a ((te S G).bind Ei) R:=h;rw[u]at j;exact j.elim
 |err e W=>
  have j:outI E a ((te S G).bind Ei) R:=h;rw[u]at j;refine ZAM C f s M a.H R I ⟨a,S,G,hk,rfl,N,r,?_⟩;rw[u];exact j
 | ok d W=>
  have j:outI E a ((te S G).bind Ei) R:=h;rw[u]at j;cases d with
  |tup Z=>
   refine ZHX C f s M a.H R I ⟨a,S,G,hk,rfl,N,r,?_⟩;rw[u];rintro b v x t ⟨p,g,rfl,n,J⟩;have A:SqT X.K b.H p g:=by rw[<-hk,<-x.k];exact n
   refine⟨p,rfl,⟨g,A⟩,j b _ x t ⟨g,J,λc y i=>⟨λv l=>⟨⟨g,v,?_,l⟩,λw P z=>?_⟩,λo=>⟨g,?_,o⟩⟩⟩⟩
   .have:=y.sqT n;rw[y.k,x.k,hk]at this;exact this
   .have:=y.sqT n;rw[y.k,x.k,hk]at this;exact⟨Option.some.inj ((z.2 g this).symm.trans l),z.1⟩
   have:=y.sqT n;rw[y.k,x.k,hk]at this;exact this
  |fl Z=>
   refine ZAM C f s M a.H R I ⟨a,S,G,hk,rfl,N,r,?_⟩;rw[u];rintro b v x t ⟨p,g,rfl,n,J⟩;have A:SqL X.K b.H p g:=by rw[<-hk,<-x.k];exact n.sq
   refine⟨p,rfl,⟨g,A⟩,j b _ x t ⟨g,J,λc y i=>⟨λv l=>⟨⟨g,v,?_,l⟩,λw P z=>?_⟩,λo=>⟨g,?_,o⟩⟩⟩⟩
   .have:=(y.fzL n).sq;rw[y.k,x.k,hk]at this;exact this
   .have:=(y.fzL n).sq;rw[y.k,x.k,hk]at this;exact⟨Option.some.inj ((z.2 g this).symm.trans l),z.1⟩
   have:=(y.fzL n).sq;rw[y.k,x.k,hk]at this;exact this
  |ref k=>
   have B:outI E a (Ei (.ref k) W) R:=j;unfold Ei at B;dsimp only at B;split at B
   .rename_i Z U;refine ZAM C f s M a.H R I ⟨a,S,G,hk,rfl,N,r,?_⟩;rw[u];rintro b v x t ⟨F,rfl⟩;obtain⟨g,U,_⟩:=t.lst U;refine⟨b.m k,rfl,⟨g,.of U⟩,B b _ x t ⟨F,λc y T O i=>?_⟩⟩;rw[y.m k F]at O;exact⟨λv l=>⟨⟨T,v,.of O,l⟩,λw P z=>⟨Option.some.inj ((z.2 T (.of O)).symm.trans l),z.1⟩⟩,λo=>⟨T,.of O,o⟩⟩
   exact B.elim
  | str z=>
   refine ZLh C f s M a.H R I ⟨a,S,G,hk,rfl,N,r,?_⟩;rw[u];intro b v x t J;cases(J);refine⟨z,rfl,j b _ x t ⟨_,.signs z,λc y i=>⟨λv l=>?_,λo=>?_⟩⟩⟩
   .rw[zv,zP]at l;obtain⟨k,Q,rfl⟩:=l;have L:z.cps[i]?=uQ k:=by rw[<-jw];exact Q
    refine⟨(Array.getElem?_eq_some_iff.mp L).1,λw P q=>?_⟩;obtain⟨e1,k',Y,e3⟩:=q;rw[L]at Y;cases Y;exact⟨e3,e1⟩
   rw[zj,qF]at o;exact o
  |_=>exact j.elim
end
noncomputable def Ay(lo:Int)(n:Nat):List D:=(zX n).map λ(k:Nat)=>D.int (lo+(k:Int))
def inR(j:Int):Prop:= -(2^62)<=j/\j<2^62
noncomputable instance (j:Int):Decidable (inR j):=by unfold inR;infer_instance
def rng1(ds:List D)(G:DH):R ItD:=match ds with
 |[.int j]=>if inR j then .ok (.pure (Ay 0 j.toNat)) G else .bad
 |_=>.bad
def Bg(f:List D->DH->R ItD)(ta:DA):DI:=λS G=>(ta S G).bind f
def sWh(c:DB)(b:DS):Nat->DS
 |0,_,_=>.bad
 |n+1,S,G=>(c S G).toS λk G1=>if k=uJ then aft (b S G1) (sWh c b n)else .nx S G1
def Ba(np nl:Nat)(b:DS):List D->DH->R D:=λds G=>if ds.length=np then tidy G (match b (ds.map uQ++zQ nl uZ) G with
 |.nx _ G'=>.ok .non G'
 |.rt d G'=>.ok d G'
 |.err x G'=>.err x G'
 |_=>.bad)else .bad
theorem outI.mono(x:Ext a b)(h:outI E a r Q):outI E b r Q:=by
 cases r with
 |ok d G=>exact λc v y s q=>h c v (x.trans y) s q
 |err e G=>exact XOk.mono x h
 |bad=>exact h
theorem O6(h:outI E a (r.bind f) Q):
  Cm E a r (λvs H=>PR3 a H r vs Reps λb c G=>outI E b (f c G) Q):=by
 cases r with
 |ok d G=>exact λb v x s q=>⟨b,d,G,rfl,x,s,q,rfl,outI.mono x h⟩
 |_=>exact h
section
variable{X:Cx}{E:XK}{tg iter:xG}{pos:Pos}
theorem ZP1(e:Int)(n:Nat):RepI a (.pure (Ay e n)) (Itr e n):=by
 refine⟨(zX n).map λ(k:Nat)=>V.int (e+(k:Int)),?_,λb x i=>⟨λv c=>?_,λf=>?_⟩⟩
 .unfold Ay;generalize zX n=l
  induction l with
  |nil=>exact rfl
  |cons k l g=>exact⟨_,_,rfl,rfl,g⟩
 .rw[zv]at c;by_cases d:i<n
  .rw[qx d]at c;exact⟨d,λw h y=>⟨y.2.trans (by simpa using c),y.1⟩⟩
  rw[zA (by simpa using d)]at c;cases c
 show n<=i;simpa using f
theorem ZJG{p pos:Pos}(i:Gl X "range")(m:X.mg "range"=uZ)(l:QA X E [e] ta)(k:v8 [e] X.env=[(uX,eval e X.env)]:=by rfl):QI X E tg (.Call (.Name "range" p) [e] [] pos) (Bg rng1 ta):=
 (ZHu i m l k).mono λu H Q h=>by
  obtain⟨a,S,G,hk,rfl,s,r,h⟩:=h;refine⟨a,S,G,hk,rfl,s,r,(O6 h).imp ?_⟩;rintro w _ ⟨b,y,t,rfl,x,o,q,-,c⟩;unfold rng1 at c;split at c
  .rename_i j;split at c
   .rename_i d;obtain⟨v,r,g,f,n⟩:=q;cases(f);cases(n);exact⟨j,g,d.1,d.2,c b _ (.refl b) o (ZP1 0 j.toNat)⟩
   exact c.elim
  exact c.elim
theorem ZOF(n:Nat)(hp:PassesOwn (vj X.prog X.w) X.A X.env X.xe)(hc:QT X E c tc)(Z:QSs X E body tb):QS X E (.While c body [] pos) (sWh tc tb n):=(ZOK hp hc Z).mono λW Q H h=>by
 obtain⟨a,S,G,hk,rfl,s,r,h⟩:=h;refine⟨λm Q H=>∃(b:Wd)(S:DSt)(G:DH),b.H=H/\Ext a b/\Sim b G/\RepS b S Q/\Bt E b (sWh tc tb m S G) W,⟨n,a,S,G,rfl,.refl a,s,r,h⟩,?_⟩;rintro m J _ ⟨b,v,Y,rfl,l,s2,p,N⟩;cases m with
 |zero=>exact N.elim
 | succ m=>
  refine⟨b,v,Y,l.k.trans hk,rfl,s2,p,(ZB9 N).imp ?_⟩;rintro k _ ⟨L,O,rfl,f,U,_,T⟩;cases k with
  |false=>exact T L J (.refl L) U (p.mono f)
  | true=>
   refine⟨λg P=>∃(b:Wd)(S:DSt)(G:DH),b.H=P/\Ext a b/\Sim b G/\RepS b S g/\Bt E b (sWh tc tb m S G) W,λg P z=>⟨m,qk _,z⟩,L,v,O,f.k.trans (l.k.trans hk),rfl,U,p.mono f,?_⟩;have d:=ZDw T
   revert d
   cases tb v O with
   |nx j i|ct j i=>
    intro d u e B o y;obtain⟨t,I,M,C,K,x,F,q⟩:=d u e B o y;exact⟨t,I,M,C,l.trans (f.trans K),x,F,q⟩
   |_=>exact λd=>d
end
theorem ZO8(r:Reps a ds vs)(n m:Nat)(h:n=m):RepS a (ds.map uQ++zQ n uZ) (vs.map uQ++zQ m uZ):=by
 subst h;refine⟨by simp[r.length],λi d b=>?_⟩;by_cases c:i<ds.length
 .rw[z9 (by simpa using c),zv]at b;cases e:ds[i]? with
  |none=>rw[e]at b;cases b
  |some j=>
   rw[e]at b;have f:j=d:=by simpa using b
   subst f;obtain⟨v,g,q⟩:=r.get e;exact⟨v,by rw[z9 (by rw[zj,<-r.length];exact c),zv,g];rfl,q⟩
 rw[zD (by simpa using c),qG]at b
 split at b<;>cases b
theorem ZAD{K:za}{p:List Str}{n:Nat}{b:DS}{v:List V}{H:Hp}{Q:VK}{E:XK}(h:lFx K (Ba p.length n b) v H Q E):v.length=p.length:=by
 obtain⟨a,G,q,hk,rfl,t,r,h⟩:=h;unfold Ba at h;split at h
 .rename_i l;rw[<-r.length];exact l
 exact h.elim
theorem ZCg{K:za}{N p:List Str}{b:DS}{v:List V}{H:Hp}{Q:VK}{E:XK}(h:lFx K (Ba p.length (N.length-p.length) b) v H Q E):lS K E b {nx:=λ_=>Q .non,rt:=Q} (start N v) H:=by
 have l:=ZAD h;obtain⟨a,G,q,hk,rfl,t,r,h⟩:=h;unfold Ba at h;split at h
 .have g:=ZBb t h;refine⟨a,q.map uQ++zQ (N.length-p.length) uZ,G,hk,rfl,t,ZO8 r _ _ (by rw[l]),?_⟩
  revert g
  cases b (q.map uQ++zQ (N.length-p.length) uZ) G with
  |nx v o=>exact λg c C x B _=>g c .non x B rfl
  |bk v o|ct v o=>exact λg=>g.elim
  |_=>exact id
 exact h.elim
theorem Lp{P:xL}{w:xR}{K:za}{u:Str->Option xP}{j:Heap}{x qual:Str}{st:xO}{f:xE}{y:xH}{N ps:List Str}{k:Nat}{b:DS}(F:Fun K x qual st f y)(S:FnScope N ps (An st))
  (m:∀(i:xP)(A:xF)(outer:List Env)(s:xN)(H:Hp)(E:XK),Room k (A.deeper (envOfC qual (An st) s.heap.objs.size f i))->QSs (Jt CX0 P w K u j N qual (An st) f i A outer s H E).nox E0 (Ey st) b):
  FnOk P w K u j CX0 (k+1) f y ps (lF K (Ba ps.length (N.length-ps.length) b)):=by
 exact F.ok S (λ_ _ _ _=>ZAD) λi A o s H n Q E z h=>⟨_,m i A o s H E z,ZCg h⟩
theorem Jm(s:Sim a G)(r:Rep a d x)(h:Bm d G=uQ xs):∃p vs,x=.ref p/\(SqL a.K a.H p vs∨SqT a.K a.H p vs)/\Reps a xs vs:=by
 cases d with
 |tup c=>
  have e:=Option.some.inj h;subst e;obtain⟨p,vs,e,q,b⟩:=r;exact⟨p,vs,e,.inr q,b⟩
 |fl c=>
  have e:=Option.some.inj h;subst e;obtain⟨p,vs,e,q,b⟩:=r;exact⟨p,vs,e,.inl q.sq,b⟩
 |ref i=>
  unfold Bm at h;dsimp only at h;split at h
  .rename_i c j;have e:=Option.some.inj h;subst e;obtain⟨vs,g,k⟩:=s.lst j;exact⟨a.m i,vs,r.2,.inl (.of g),k⟩
  cases h
 |_=>cases h
def Ae (d e:D) (G:DH):R D:=match e with
 | .int i=>match d with
  | .str z=>if z.length<=1000000 then(match atI z.cps.toList i with
    |some c=>.ok (.str ⟨#[c]⟩) G
    |none=>.bad)else .bad
  | d=>match Bm d G with
   |some xs=>match atI xs i with
    |some v=>.ok v G
    |none=>.bad
   |none=>.bad
 |_=>.bad
theorem ZGc(r:Reps a xs vs)(h:atI xs i=uQ d):∃v,atI vs i=uQ v/\Rep a d v:=by
 unfold atI at h⊢;rw[<-r.length];cases e:ixN xs.length i with
 |none=>rw[e]at h;cases h
 |some j=>
  rw[e]at h;obtain⟨v,b,q⟩:=r.get (h);exact⟨v,b,q⟩
section
variable{X:Cx}{E:XK}
theorem _root_._L.IxR.mono(h:IxR X r)(w:∀x y H Q,r' x y H Q->r x y H Q):IxR X r':=λa b c s d H x y v u Q I i j q g=>h a b c s d H x y v u Q I i j (w _ _ _ _ q) g
theorem _root_._L.CallR.mono(h:CallR X f r)(w:∀xs H Q,r' xs H Q->r xs H Q):CallR X f r':=λa s b H xs c Q I d q=>h a s b H xs c Q I d (w _ _ _ q)
theorem _root_._L.MtM.mono{id:String}{r b:V->List V->Hp->VK->Prop}(h:MtM X id r)(w:∀x xs H Q,b x xs H Q->r x xs H Q):MtM X id b:=λa s c H x xs v d Q I i g q=>h a s c H x xs v d Q I i g (w _ _ _ _ q)
theorem i_ix:IxR X (lR2 X.K E Ae):=ZLl.mono λx y H Q h=>by
 obtain⟨a,G,d,e,hk,rfl,s,r,m,q⟩:=h;cases e with
 | int i=>
  have n:∀{k:List D},Bm d G=uQ k->out E a (match atI k i with |some v=>.ok v G|none=>.bad) Q->rIx X.K x y a.H Q:=λ{k}l q=>by
   obtain⟨p,B,w,g,I⟩:=Jm s r l;rw[hk]at g;split at q
   .rename_i v J;obtain⟨u,A,F⟩:=ZGc I J;have z:=q a u (.refl a) s F;rcases g with g|g
    .exact .inl ⟨p,B,i,u,w,m,g,A,z⟩
    exact .inr (.inl ⟨p,B,i,u,w,m,g,A,z⟩)
   exact q.elim
  have b:out E a (match Bm d G with |some k=>(match atI k i with |some v=>.ok v G|none=>.bad)|none=>.bad) Q->rIx X.K x y a.H Q:=λq=>by
   cases l:Bm d G with
   |none=>rw[l]at q;exact q.elim
   |some k=>rw[l]at q;exact n l q
  cases d with
  | str z=>
   unfold Ae at q;dsimp only at q;split at q
   .rename_i C;split at q
    .rename_i c L;exact .inr (.inr ⟨z,i,c,r,m,zE C size6,L,q a _ (.refl a) s rfl⟩)
    exact q.elim
   exact q.elim
  |tup M|fl M|ref j|_=>exact b q
 |_=>exact q.elim
def Bb(ds:List D)(G:DH):R D:=match ds with
 |[.str z]=>if z.length<=1000000 then .ok (.int z.length) G else .bad
 |[d]=>match Bm d G with
  |some xs=>.ok (.int xs.length) G
  |none=>.bad
 |_=>.bad
theorem reps1(r:Reps a [d] vs):∃v,vs=[v]/\Rep a d v:=by obtain⟨v,b,e,q,z⟩:=r;cases(z);exact⟨v,e,q⟩
theorem reps2(r:Reps a [d,d'] vs):∃v b,vs=[v,b]/\Rep a d v/\Rep a d' b:=by obtain⟨v,h,e,q,z⟩:=r;obtain⟨b,g,c⟩:=reps1 z;subst g;exact⟨v,b,e,q,c⟩
theorem ZIw:CallR X (.builtin "len") (lRn X.K E Bb):=(ZPi.or ZI5).mono λl H Q h=>by
 obtain⟨a,G,m,hk,rfl,s,r,q⟩:=h;unfold Bb at q;split at q
 .rename_i z;split at q
  .rename_i g;obtain⟨v,rfl,b⟩:=reps1 r;cases(b);exact .inr ⟨z,rfl,zE g size6,q a _ (.refl a) s rfl⟩
  exact q.elim
 .rename_i d _;split at q
  .rename_i n j;obtain⟨v,rfl,b⟩:=reps1 r;obtain⟨p,i,rfl,c,k⟩:=Jm s b j;rw[hk]at c;exact .inl ⟨p,i,rfl,c,q a _ (.refl a) s (by rw[<-k.length];exact rfl)⟩
  exact q.elim
 exact q.elim
def Df(ds:List D)(G:DH):R D:=match ds with
 |[d]=>match Bm d G with
  |some xs=>.ok (.tup xs) G
  |none=>.bad
 |_=>.bad
theorem ZLu:CallR X (.type "tuple") (lRn X.K E Df):=ZHM.mono λm H Q h=>by
 obtain⟨a,G,n,hk,rfl,s,r,q⟩:=h;unfold Df at q;split at q
 .rename_i d;split at q
  .rename_i u j;obtain⟨v,rfl,k⟩:=reps1 r;obtain⟨p,c,rfl,b,g⟩:=Jm s k j;refine⟨p,c,rfl,?_⟩;rcases b with b|b
   .exact .inl ⟨by rw[<-hk];exact b,λl i=>Vw s g q l i⟩
   exact .inr ⟨by rw[<-hk];exact b,q a _ (.refl a) s ⟨p,c,rfl,b,g⟩⟩
  exact q.elim
 exact q.elim
def Gf(ds:List D)(G:DH):R D:=match ds with
 |[.str z]=>if z.length<=1000000 then .ok (.ref G.length) (G++[.lst (signs z)])else .bad
 |[d]=>match Bm d G with
  |some xs=>.ok (.ref G.length) (G++[.lst xs])
  |none=>.bad
 |_=>.bad
theorem Z8:∀{vs:List V}{us:List xP},vs.length=us.length->(∀(i:Nat)(v:V)(u:xP),vs[i]?=uQ v->us[i]?=uQ u->RelV v u)->Vals vs us
 |[],[],_,_=>.nil
 |[],_::_,h,_|_::_,[],h,_=>by cases h
 |v::vs,u::us,h,f=>.cons (f 0 v u rfl rfl) (Z8 (by simpa using h) λi a d c b=>f (i+1) a d (by simpa using c) (by simpa using b))
theorem ZN9(x:X.calm=uJ):CallR X (.type "list") (λxs H Q=>∃z:Str,xs=[.str z]/\z.length<=sizeLine/\∀l,H l=uZ->Q (.ref l) (upd H l (.lst (z.cps.toList.map λc=>V.str ⟨#[c]⟩)))):=by
 intro j s A H xs B Q I r h;obtain⟨z,rfl,m,q⟩:=h;obtain⟨u,rfl,t,rfl⟩:=vals1 r;refine PySem.call_list_str (I.ok.hd x) z t (λJ C b c hk p a=>?_) m;refine⟨.ref s.heap.objs.size,upd H s.heap.objs.size (.lst (z.cps.toList.map λc=>V.str ⟨#[c]⟩)),I.laid hk (zx _) ?_,rfl,q _ (I.hok.fresh (zx _))⟩;refine⟨by rw[zj,qF];exact m,b.toList,c,Z8 ?_ λi v u d n=>?_,by simpa using p⟩
 .rw[zj,qF,qF];exact a.1.symm
 rw[zv,zP]at d;obtain⟨k,g,rfl⟩:=d;obtain⟨F,w,y,rfl⟩:=a.2 i u (by rw[<-jw];exact n);rw[jw,y]at g;cases g;exact⟨w,rfl⟩
theorem ZNE(m:X.calm=uJ):CallR X (.type "list") (lRn X.K E Gf):=(ZHh.or (ZN9 m)).mono λn H Q h=>by
 obtain⟨a,G,u,hk,rfl,s,r,q⟩:=h;unfold Gf at q;split at q
 .rename_i z;split at q
  .rename_i b;obtain⟨v,rfl,c⟩:=reps1 r;cases(c);exact .inr ⟨z,rfl,zE b size6,λl b=>Jf s (.signs z) q l b⟩
  exact q.elim
 .rename_i d _;split at q
  .rename_i w j;obtain⟨v,rfl,c⟩:=reps1 r;obtain⟨p,i,rfl,g,k⟩:=Jm s c j;exact .inl ⟨p,i,rfl,by rw[<-hk];exact g,λl b=>Jf s k q l b⟩
  exact q.elim
 exact q.elim
noncomputable def K3(ds:List D)(G:DH):R D:=match ds with
 |[.int i,.int j]=>.ok (.int (if j<i then j else i)) G
 |_=>.bad
theorem ZMm(d:X.calm=uJ):CallR X (.builtin "min") (lRn X.K E K3):=(ZO0 d).mono λg H Q h=>by
 obtain⟨a,G,i,hk,rfl,s,r,q⟩:=h;unfold K3 at q;split at q
 .obtain⟨v,j,rfl,b,c⟩:=reps2 r;cases(b);cases(c);exact⟨_,_,rfl,q a _ (.refl a) s rfl⟩
 exact q.elim
noncomputable def Cp(o:D)(ds:List D)(G:DH):R D:=match o,ds with
 |.ref i,[d]=>match G[i]? with
  |some (.lst xs)=>if xs.length<1000000 then .ok .non (G.set i (.lst (xs++[d])))else .bad
  |_=>.bad
 |_,_=>.bad
def lRm(K:za)(E:XK)(f:D->List D->DH->R D):V->List V->Hp->VK->Prop:=λx xs H Q=>PD3 K H x xs Rep Reps λa G d ds=>out E a (f d ds G) Q
theorem Sim.isList(s:Sim a G)(h:G[i]?=uQ (.lst xs)):∃vs,SqL a.K a.H (a.m i) vs:=let⟨vs,e,_⟩:=s.lst h;⟨vs,.of e⟩
theorem ZNi:MtM X "list.append" (lRm X.K E Cp):=ZID.mono λx y H Q h=>by
 obtain⟨a,G,d,w,hk,rfl,s,b,r,q⟩:=h;unfold Cp at q;split at q
 .rename_i i d;obtain⟨v,rfl,p⟩:=reps1 r;split at q
  .rename_i z k;split at q
   .rename_i j;obtain⟨l,c,g⟩:=s.lst k;obtain⟨n,u⟩:=Sq s b.1 c (g.append (.cons p Reps.nil));exact⟨a.m i,l,v,b.2,rfl,c,by rw[<-g.length];exact zq j size6,q _ .non n u rfl⟩
   exact q.elim
  exact q.elim
 exact q.elim
variable{o e:xG}{es:List xG}{to:DE}{t:DA}{name:Str}{apos cpos:Pos}{T id:String}{f:D->List D->DH->R D}
noncomputable def isL(d:D)(G:DH):Bool:=match d with
 |.ref i=>match G[i]? with
  |some (.lst _)=>uJ
  |_=>uX
 |.fl _=>uJ
 |_=>uX
def Dj(f:D->List D->DH->R D)(o:DE)(t:DA):DE:=λS G=>(o S G).bind λx G1=>if isL x G1=uJ then(t S G1).bind λxs G2=>f x xs G2 else .bad
theorem ZPG(s:Sim a G)(r:Rep a d x)(h:isL d G=uJ):tyV a.K "list" x a.H:=by
 cases d with
 |ref i=>
  unfold isL at h;dsimp only at h;split at h
  .rename_i b g;cases r.2;exact .inl ⟨rfl,s.isList g⟩
  cases h
 |fl b=>
  obtain⟨p,c,rfl,q,_⟩:=r;exact .inl ⟨rfl,c,q.sq⟩
 |_=>cases h
theorem ZMp(m:Slot "list" name id)(p:typeOf (.builtin id)=pure (.type "method_descriptor"))(L:MtM X id (lRm X.K E f))(ho:QE X E o to)(N:QA X E (e::es) t)
  (i:xT o name X.env (eval o X.env)=eval o X.env:=by rfl)
  (l:((xU cpos (v8 (e::es) X.env)).all (λx=> !x.1)&&(vQ cpos (vY [] X.env)).all (λx=>x.1.isSome)
   && decide ((e::es).length+([]:List Keyword).length+(if([]:List Keyword).isEmpty then 0 else 1)<30))=uJ:=by rfl)
  (j:(apos.endLine==cpos.line)=uJ:=by rfl) (C:v8 (e::es) X.env=(uX,eval e X.env)::v8 es X.env:=by rfl) (g:(xU cpos (v8 es X.env)).any (·.1)=uX:=by rfl):
  QE X E (.Call (.Attribute o name apos) (e::es) [] cpos) (Dj f to t):=(ZPy PySem.F.plainAttrs_list m p L ho N i l j C g).mono λP H Q h=>by
 obtain⟨a,S,G,hk,rfl,s,r,h⟩:=h;refine⟨a,S,G,hk,rfl,s,r,(Fb h).imp ?_⟩;rintro v _ ⟨b,d,w,rfl,x,u,q,-,n⟩;split at n
 .rename_i M;have ty:=ZPG u q M;rw[x.k,hk]at ty;refine⟨ty,b,S,w,x.k.trans hk,rfl,u,r.mono x,(Kl n).imp ?_⟩;rintro O _ ⟨c,J,A,rfl,y,I,B,-,z⟩;exact⟨c,A,d,J,y.k.trans (x.k.trans hk),rfl,I,q.mono y,B,z⟩
 exact n.elim
end
inductive Ty where|non|bl|int|str|tup|lst
noncomputable def Ty.name:Ty->String
 |.non=>"NoneType" | .bl=>"bool" | .int=>"int" | .str=>"str" | .tup=>"tuple" | .lst=>"list"
def tyD(G:DH):D->Option Ty
 |.non=>uQ .non
 |.bl _=>uQ .bl
 |.int _=>uQ .int
 |.str _=>uQ .str
 |.tup _=>uQ .tup
 |.fl _=>uQ .lst
 |.ref i=>match G[i]? with
  |some (.lst _)=>uQ .lst
  |_=>uZ
 |.ty _=>uZ
noncomputable def Ty.sub(t:Ty):String->Option Bool
 |"int"=>uQ (match t with | .int=>uJ | .bl=>uJ|_=>uX)
 |"bool"=>uQ (match t with | .bl=>uJ|_=>uX)
 |"str"=>uQ (match t with | .str=>uJ|_=>uX)
 |"tuple"=>uQ (match t with | .tup=>uJ|_=>uX)
 |"list"=>uQ (match t with | .lst=>uJ|_=>uX)
 |_=>uZ
def Em(ds:List D)(G:DH):R D:=match ds with
 | [d,.ty T]=>match tyD G d with
  |some t=>match t.sub T with
   |some k=>.ok (.bl k) G
   |none=>.bad
  |none=>.bad
 |_=>.bad
theorem ZLv{K:za}{t:Ty}{T:String}{k:Bool}(h:t.sub T=uQ k):PySem.W.kitOne K (.type t.name) (.type T)=uQ k:=by
 unfold Ty.sub at h;split at h
 iterate 5 (cases t<;>cases h<;>rfl)
 cases h
section
variable{X:Cx}{E:XK}
theorem ZKW:CallR X (.builtin "isinstance") (lRn X.K E Em):=by
 intro i s O H vs us Q I rs h;obtain⟨a,G,ds,hk,rfl,P,r,q⟩:=h;unfold Em at q;split at q
 .rename_i d T;obtain⟨v,v',rfl,j,S⟩:=reps2 r;cases(S);obtain⟨u,J,rfl,m,F⟩:∃u J,us=[u,J]/\RelV v u/\RelV (.ty T) J:=by
   cases rs with
   |cons p q=>cases q with
    |cons Z q'=>cases q';exact⟨_,_,rfl,p,Z⟩
  cases(F);split at q
  .rename_i t g;split at q
   .rename_i k y;have f:∀B:Nat,EP X i O Q (.bool k) {s with toks:=B}:=λB=>⟨.bl k,a.H,I.tok _,rfl,q a _ (.refl a) P rfl⟩
    have e:=ZLv (K:=X.K) y;clear q y r;have L:∀(p:xE)(l:List V),SqL X.K a.H p l->u=.ref p->t=.lst->vA (vj X.prog X.w) X.A (call (.builtin "isinstance") [u,.type T]) (EP X i O Q) X.xe s:=λp l x eu U=>by subst eu U;obtain⟨M,_,C,_⟩:=I.list x;exact qc PySem.W.kitx_list I.kIn (let⟨o,e,c,_⟩:=C.isList;⟨o,e,c⟩) e (nofun) f
    cases d with
    |non=>cases g;cases(j);cases m;exact qc PySem.W.kitx_none I.kIn True.intro e (nofun) f
    |bl b=>cases g;cases(j);cases m;exact qc PySem.W.kitx_bool I.kIn True.intro e (nofun) f
    |int b=>cases g;cases(j);obtain⟨B,rfl⟩:=m;exact qc PySem.W.kitx_int I.kIn True.intro e (nofun) f
    |str b=>cases g;cases(j);obtain⟨B,rfl⟩:=m;exact qc PySem.W.kitx_str I.kIn True.intro e (nofun) f
    |tup b=>
     cases g;obtain⟨p,l,rfl,x,_⟩:=j;cases m;rw[hk]at x;obtain⟨M,_,C,_⟩:=I.tuple x;exact qc PySem.W.kitx_tuple I.kIn (let⟨o,e,c,_⟩:=C;⟨o,e,c⟩) e (nofun) f
    |fl b=>
     cases g;obtain⟨p,l,rfl,x,_⟩:=j;exact L p l (hk▸x.sq) m rfl
    |ref b=>
     unfold tyD at g;dsimp only at g;split at g
     .rename_i xs hx;cases g;obtain⟨l,Y,_⟩:=P.lst hx;cases j.2;exact L _ l (.of Y) m rfl
     cases g
    |ty n=>cases g
   exact q.elim
  exact q.elim
 exact q.elim
end
noncomputable def Js:List D->Option (List Int)
 |[]=>uQ []
 |.int i::r=>(Js r).map (i::·)
 |_=>uZ
noncomputable def Jw:List D->Option (List Bool)
 |[]=>uQ []
 |.bl i::r=>(Jw r).map (i::·)
 |_=>uZ
@[simp]theorem ZQZ(ns:List Int):Js (ns.map D.int)=uQ ns:=by
 induction ns with
 |nil=>rfl
 |cons n ns a=>simp[Js,a]
@[simp]theorem ZQd(ns:List Bool):Jw (ns.map D.bl)=uQ ns:=by
 induction ns with
 |nil=>rfl
 |cons n ns a=>simp[Jw,a]
theorem ZCo:∀{xs:List D}{ns:List Int},Js xs=uQ ns->xs=ns.map D.int
 |[],ns,h=>by cases h;rfl
 |.int i::r,ns,h=>by simp[Js,zP]at h;obtain⟨b,a,rfl⟩:=h;rw[zK,ZCo a]
 |.non::r,ns,h | .bl _::r,ns,h | .str _::r,ns,h | .ty _::r,ns,h | .tup _::r,ns,h | .fl _::r,ns,h | .ref _::r,ns,h=>by simp[Js]at h
theorem ZE5:∀{xs:List D}{ns:List Bool},Jw xs=uQ ns->xs=ns.map D.bl
 |[],ns,h=>by cases h;rfl
 |.bl i::r,ns,h=>by simp[Jw,zP]at h;obtain⟨b,a,rfl⟩:=h;rw[zK,ZE5 a]
 |.non::r,ns,h | .int _::r,ns,h | .str _::r,ns,h | .ty _::r,ns,h | .tup _::r,ns,h | .fl _::r,ns,h | .ref _::r,ns,h=>by simp[Jw]at h
def Gi(ds:List D)(G:DH):R D:=match ds with
 | [d]=>match Bm d G with
  |some xs=>match Js xs with
   |some ns=>.ok (.int ns.sum) G
   |none=>.bad
  |none=>.bad
 |_=>.bad
def Iu(ds:List D)(G:DH):R D:=match ds with
 | [d]=>match Bm d G with
  |some xs=>match Jw xs with
   |some ns=>.ok (.bl (ns.all id)) G
   |none=>.bad
  |none=>.bad
 |_=>.bad
section
variable{X:Cx}{E:XK}{vS:List (xE×Obj)}{σ:St}{s:xN}{H:Hp}
theorem ZFJ(I:Inv X vS σ H s)(t:X.calm=uJ)(h:SqL X.K H p vs∨SqT X.K H p vs)
  (n:∀(it:xE)(fp wr:List xE)(its:List xP)(St:Nat->Heap->Prop)(d:xN),Vals vs its->Walks X.prog X.w X.A.in1 it fp wr its.toArray.size (λi v=>its.toArray[i]?=uQ v) St->St 0 d.heap->(∀b∈fp,b<d.heap.objs.size)->
   (∀h' tk,(∀b o,b∉wr->d.heap.get? b=uQ o->h'.get? b=uQ o)->Inv X vS σ H {d with heap:=h',toks:=tk})->Q (.ref it) d):
  vA (vj X.prog X.w) X.A.in1 (pyIter (.ref p)) Q E' s:=by
 have m:X.A.in1.handled=uZ:=I.ok.hd t;rcases h with h|h
 .obtain⟨its,r,g,q⟩:=I.list h;refine wpAny_pyIter_list g.isList ?_;have hp:p<s.heap.objs.size:=by obtain⟨o,e,_⟩:=g.isList;exact zy e
  refine n _ _ _ its _ _ r (.list m _ p (zM hp) its.toArray) ⟨⟨_,z3 _ rfl,rfl,rfl⟩,?_⟩ (λb f=>?_) λh' tk k=>?_
  .obtain⟨o,e,c⟩:=g.isList;exact⟨o,zZ _ e,c⟩
  .rw[qN];rcases z0.mp f with rfl|f
   .exact qk _
   have e:b=p:=by simpa using f
   subst e;exact jI hp
  refine I.kept λb o e=>k b o (λf=>?_) (zZ _ e)
  have j:b=s.heap.objs.size:=by simpa using f
  subst j;exact absurd (zy e) (qj _)
 obtain⟨its,r,g,q⟩:=I.tuple h;refine wpAny_pyIter_tuple (g) ?_;have hp:p<s.heap.objs.size:=by obtain⟨o,e,_⟩:=g;exact zy e
 refine n _ _ _ its _ _ r (.tuple m _ p (zM hp) its.toArray) ⟨⟨_,z3 _ rfl,rfl,rfl⟩,?_⟩ (λb f=>?_) λh' tk k=>?_
 .obtain⟨o,e,c⟩:=g;exact⟨o,zZ _ e,c⟩
 .rw[qN];rcases z0.mp f with rfl|f
  .exact qk _
  .have e:b=p:=by simpa using f
   subst e;exact jI hp
 .refine I.kept λb o e=>k b o (λf=>?_) (zZ _ e)
  have j:b=s.heap.objs.size:=by simpa using f
  subst j;exact absurd (zy e) (qj _)
theorem ZGJ(ns:List Int):∀n,n<=ns.length->preSum (λi=>ns.getD i 0) n=(ns.take n).sum
 |0,_=>by simp[preSum]
 |n+1,h=>by have a:n<ns.length:=h;rw[preSum,ZGJ ns n (by lia),List.take_succ_eq_append_getElem a,List.sum_append];simp[a]
theorem ZBw:∀{ns:List Int}{vs:List V},Reps a (ns.map D.int) vs->vs=ns.map V.int
 |[],vs,h=>h
 |n::ns,vs,h=>by
  obtain⟨v,r,e,c,b⟩:=h;cases(c);rw[e,ZBw b]
  rfl
theorem ZEQ:∀{ns:List Bool}{vs:List V},Reps a (ns.map D.bl) vs->vs=ns.map V.bl
 |[],vs,h=>h
 |n::ns,vs,h=>by
  obtain⟨v,r,e,c,b⟩:=h;cases(c);rw[e,ZEQ b]
  rfl
theorem ZOE(z:X.calm=uJ):CallR X (.builtin "sum") (lRn X.K E Gi):=by
 intro l s S H O T Q I F h;obtain⟨a,G,M,hk,rfl,m,r,q⟩:=h;unfold Gi at q;split at q
 .rename_i d;obtain⟨v,rfl,B⟩:=reps1 r;split at q
  .rename_i P y;split at q
   .rename_i b n;cases ZCo n;obtain⟨p,N,rfl,j,J⟩:=Jm m B y;cases ZBw J;rw[hk]at j;obtain⟨u,rfl,f⟩:=vals1 F;cases f;refine call_sum_walkG (ZFJ I z j λit fp wr its St s₂ hv W st hfp fin=>⟨it,fp,wr,its.toArray.size,_,St,λi=>b.getD i 0,rfl,W,st,hfp,λi w hw=>?_,λC o A L=>?_⟩)
    .have c:its[i]?=uQ w:=by simpa using hw
     have g:i<(b.map V.int).length:=by rw[hv.length];exact(zY.mp c).1
     have e:i<b.length:=by simpa using g
     obtain⟨u,k,f⟩:=hv.get (i:=i) (x:=V.int b[i]) (by simp[e]);rw[c]at k;cases k;obtain⟨t,rfl⟩:=f;exact⟨t,by simp[e]⟩
    refine⟨.int b.sum,a.H,fin C o L,⟨A,?_⟩,q a _ (.refl a) m rfl⟩;have g:its.toArray.size=b.length:=by rw[zk,<-hv.length];simp
    rw[g,ZGJ b b.length (zx _),List.take_length]
   exact q.elim
  exact q.elim
 exact q.elim
theorem all_range(ns:List Bool):(zX ns.length).all (λi=>ns.getD i uJ)=ns.all id:=by
 rw[Bool.eq_iff_iff,jP,jP];constructor
 .intro h b d;obtain⟨i,c,rfl⟩:=jR d;simpa[c]using h i (zU.mpr c)
 intro h i c;have a:=zU.mp c;simpa[a]using h ns[i] (qV a)
theorem ZIW(z:X.calm=uJ):CallR X (.builtin "all") (lRn X.K E Iu):=by
 intro m s U H S Y Q I C h;obtain⟨a,G,N,hk,rfl,n,r,q⟩:=h;unfold Iu at q;split at q
 .rename_i d;obtain⟨v,rfl,A⟩:=reps1 r;split at q
  .rename_i T y;split at q
   .rename_i b o;cases ZE5 o;obtain⟨p,O,rfl,k,F⟩:=Jm n A y;cases ZEQ F;rw[hk]at k;obtain⟨u,rfl,f⟩:=vals1 C;cases f;refine call_all_walk (ZFJ I z k λit fp wr its St s₂ hv W st hfp fin=>⟨it,fp,wr,its.toArray.size,_,St,λi=>b.getD i uJ,rfl,W,st,λi w M L P hw j=>?_,λB t J=>?_⟩)
    .have c:its[i]?=uQ w:=by simpa using hw
     have g:i<(b.map V.bl).length:=by rw[hv.length];exact(zY.mp c).1
     have e:i<b.length:=by simpa using g
     obtain⟨u,l,f⟩:=hv.get (i:=i) (x:=V.bl b[i]) (by simp[e]);rw[c]at l;cases l;cases f;refine vO ?_;simpa[e]using j
    refine⟨.bl (b.all id),a.H,fin B t J,?_,q a _ (.refl a) n rfl⟩;have g:its.toArray.size=b.length:=by rw[zk,<-hv.length];simp
    rw[g,all_range]
    rfl
   exact q.elim
  exact q.elim
 exact q.elim
end
section
variable{X:Cx}{vS:List (xE×Obj)}{σ:St}{H:Hp}{s:xN}
theorem Vc(I:Inv X vS σ H s)(l:H a=uZ)(v:X.s₀.heap.objs.size<=a)(t:a≠X.env.locals)(y:∀x c,X.env.cells.lookup x=uQ c->c≠a)(hp:∀p∈X.pn++vS,p.1≠a)
  (h:ObjOk X.prog X.w (upd H a o) s.heap a o):Inv X vS σ (upd H a o) s:=by
 have f:∀b u,H b=uQ u->b≠a:=λb u e z=>by rw[z,l]at e;cases e
 refine⟨I.ok,I.os,I.bare,⟨I.base.keep,I.base.slot,λb i q n C=>?_,I.base.there,λb j q=>?_,λb i u q=>?_,λb A q=>?_⟩,I.loc,I.cell,?_,λx c e=>?_,λp d=>?_,λb u e=>?_,I.len⟩
 .rw[Am (zM (zq (zy q) v))];exact I.base.free b i q n C
 .have:=I.base.tups b j q;rw[Am (f _ _ this)];exact this
 .have:=I.base.frzs b i u q;rw[Am (f _ _ this)];exact this
 .obtain⟨g,this⟩:=I.base.tbls b A q;exact⟨g,by rw[Am (f _ _ this)];exact this⟩
 .rw[Am (.symm t)];exact I.free
 .rw[Am (y x c e)];exact I.Gs x c e
 .obtain⟨m,B,r⟩:=I.pin p d;exact⟨m,by rw[Am (hp p d)];exact B,r⟩
 by_cases k:b=a
 .subst k;rw[Ew]at e;cases e;exact h
 .rw[Am k]at e;exact(I.hok b u e).stay (λ_ _ _ q=>q) (λc q=>by rw[Am (f _ _ q)];exact q) λc j q=>by rw[Am (f _ _ q)];exact q
end
noncomputable def Cr(env:Env):List (Str×xI)->List (Str×xE)->List (Str×xE)
 |[],cs=>cs
 |(n,k)::r,cs=>if(k==NameKind.free)=uJ then Cr env r ((n,(env.cells.lookup n).getD 0)::cs)else Cr env r cs
theorem Ys(h:∀y∈scope.names,y.2=.free->∃c,env.cells.lookup y.1=uQ c):closureFor scope env=pure (Cr env scope.names []):=by
 unfold closureFor;obtain⟨b,names,p,q⟩:=scope;have e:∀(names:List (Str×xI))(a:List (Str×xE)),(∀y∈names,y.2=.free->∃c,env.cells.lookup y.1=uQ c)->
   (forIn names a (λx r=>match x with
    |(name,b)=>if(b==NameKind.free)=uJ then(do let c<-cellOf env name;pure (.yield ((name,c)::r)))else pure (.yield r)):Sem (List (Str×xE)))=pure (Cr env names a):=by
  intro names
  induction names with
  |nil=>intro a _;rfl
  | cons y r j=>
   intro a f;obtain⟨n,k⟩:=y;rw[jT];by_cases hk:(k==NameKind.free)=uJ
   .obtain⟨c,l⟩:=f (n,k) zw (by simpa using hk);have o:cellOf env n=pure c:=by unfold cellOf;rw[l]
    have i:Cr env ((n,k)::r) a=Cr env r ((n,c)::a):=by rw[Cr,if_pos hk,l];rfl
    rw[i,<-j ((n,c)::a) λg d=>f g (zV _ d)];simp only[hk,if_true,o]
    rfl
   have i:Cr env ((n,k)::r) a=Cr env r a:=by rw[Cr,if_neg hk]
   rw[i,<-j a λg d=>f g (zV _ d)];simp only[hk]
   rfl
 have:=e names [] h;exact congrArg (λm:Sem (List (Str×xE))=>m >>=λr=>pure r) this
theorem Xz:∀{names:List (Str×xI)}{cs:List (Str×xE)},(∀y∈names,y.2=.free->∃c,env.cells.lookup y.1=uQ c)->(∀p∈cs,env.cells.lookup p.1=uQ p.2)->∀p∈Cr env names cs,env.cells.lookup p.1=uQ p.2
 |[],cs,_,a,p,hp=>a p hp
 | (n,k)::r,cs,d,a,p,hp=>by
  rw[Cr]at hp;split at hp
  .rename_i hk;obtain⟨c,e⟩:=d (n,k) zw (by simpa using hk);refine Xz (λy b=>d y (zV _ b)) (λq f=>?_) p hp;rcases z0.mp f with rfl|f
   .rw[e];rfl
   exact a q f
  exact Xz (λy b=>d y (zV _ b)) a p hp
theorem M3:∀{names:List (Str×xI)}{cs:List (Str×xE)},((x,.free)∈names∨∃c,(x,c)∈cs)->∃c,(x,c)∈Cr env names cs
 |[],cs,h=>by
  rcases h with h|h
  .cases h
  exact h
 | (n,k)::r,cs,h=>by
  rw[Cr];split
  .refine M3 ?_;rcases h with h|⟨c,h⟩
   .rcases z0.mp h with e|h
    .cases e;exact .inr ⟨_,zw⟩
    exact .inl h
   exact .inr ⟨c,zV _ h⟩
  rename_i hk;refine M3 ?_;rcases h with h|h
  .rcases z0.mp h with e|h
   .cases e;exact absurd rfl hk
   exact .inl h
  exact .inr h
theorem Ot:∀{l:List (Str×xE)},(x,c)∈l->∃d,l.lookup x=uQ d
 |[],h=>by cases h
 |(y,d)::l,h=>by
  by_cases e:x=y
  .subst e;exact⟨d,by simp⟩
  rcases z0.mp h with z|h
  .cases z;exact absurd rfl e
  .obtain⟨a,q⟩:=Ot h;exact⟨a,by rw[jY,beq_eq_false_iff_ne.mpr e];exact q⟩
theorem ZCX(x:Str):(relabel scope env).names.lookup x=(scope.names.lookup x).map λk=>if(k==NameKind.free&&env.scope.kind == .function&&env.kindOf x==uQ .cell)=uJ then .cell else k:=by
 unfold relabel;generalize scope.names=l
 induction l with
 |nil=>rfl
 | cons y r b=>
  obtain⟨n,k⟩:=y;by_cases e:x=n
  .subst e;simp only[zK]
   cases c:(k==NameKind.free&&env.scope.kind==ScopeKind.function&&env.kindOf x==uQ NameKind.cell) <;>
    simp only[c,if_true,jY,beq_self_eq_true,Option.map_some,Bool.false_eq_true,if_false]
  have a:=beq_eq_false_iff_ne.mpr e;simp only[zK];split
  .rw[jY,jY,a];exact b
  rw[jY,jY,a];exact b
def blk(X:Cx)(N:List Str)(scope:xM)(C:xE)(s₀:xN)(H₀:Hp)(ex:List xE):Cx where
 prog:=X.prog
 w:=X.w
 K:=X.K
 mg:=X.mg
 base:=X.base
 A:=X.A
 N:=N
 s₀:=s₀
 H₀:=H₀
 env:=compEnvC scope (Cr X.env scope.names []) C X.env
 outer:=X.stack
 stack:=X.stack
 ex:=ex
 fn:=λ_=>uX
 calm:=X.calm
 pn:=[]
 xe:=λ_ _=>False
structure CompSc (X:Cx) (N:List Str) (scope:xM) (nt:Nat) (caps:List Nat):Prop where
 kind:scope.kind=.function
 names:∀y∈scope.names,y.2=.local->scope.names.lookup y.1=uQ .local
 nocell:∀y∈scope.names,y.2≠ .cell
 free:∀y∈scope.names,y.2=.free->X.env.kindOf y.1=uQ .cell∨X.env.kindOf y.1=uQ .free
 nd:N.Nodup
 len:N.length=nt+caps.length
 cap:∀(k j:Nat),caps[k]?=uQ j->∃x,X.N[j]?=uQ x/\N[nt+k]?=uQ x/\scope.names.lookup x=uQ .free
section
variable{X:Cx}{vS:List (xE×Obj)}{σ:St}{H:Hp}{s:xN}{N:List Str}{scope:xM}{nt:Nat}{caps:List Nat}
theorem CompSc.cells(c:CompSc X N scope nt caps)(ok:X.Ok):∀y∈scope.names,y.2=.free->∃c,X.env.cells.lookup y.1=uQ c:=λy a hk=>ok.has y.1 (c.free y a hk)
theorem CompSc.cl(c:CompSc X N scope nt caps)(ok:X.Ok)(h:(Cr X.env scope.names []).lookup x=uQ d):X.env.cells.lookup x=uQ d:=
 Xz (c.cells ok) (λp hp=>by cases hp) (x,d) (zc h)
theorem ZNW(c:CompSc X N scope nt caps)(I:Inv X vS σ H s){fp:List xE}(hf:∀b∈fp,FpOk X vS H b){C:xE}(hC:s.heap.objs.size<=C)(hCf:C∉fp):(blk X N scope C s H fp).Ok where
 mod:=I.ok.mod
 kind:=c.kind
 glob:=I.ok.glob
 blt:=I.ok.blt
 above:=hC
 inj:=λx y d h1 h2=>I.ok.inj x y d (c.cl I.ok h1) (c.cl I.ok h2)
 has:=λx h=>by
  have h':(relabel scope X.env).names.lookup x=uQ .cell∨(relabel scope X.env).names.lookup x=uQ .free:=h;rw[ZCX]at h';have hfree:scope.names.lookup x=uQ .free:=by
   cases e:scope.names.lookup x with
   |none=>rw[e]at h';rcases h' with h'|h'<;>cases h'
   |some k=>
    rw[e]at h';cases k with
    |free=>rfl
    |cell=>exact absurd rfl (c.nocell _ (zc e))
    |_=>rcases h' with h'|h'<;>(simp at h')
  obtain⟨d,hd⟩:=M3 (.inl (zc hfree));exact Ot hd
 cab:=λx d h=>by cases h
 hd:=I.ok.hd
 frames:=I.ok.frames
 stk:=.inl rfl
 exf:=λb hb=>⟨λz=>hCf (by rw[<-show b=C from z];exact hb),λx d h=>(hf b hb).2.2.2.2.1 x d (c.cl I.ok h)⟩
 bs:=I.bs
 bsz:=zE I.ok.bsz I.sz
 noex:=λb o e hb=>by
  rcases(hf b hb).2.2.2.1 with h|h
  .exact I.ok.noex b o e h
  exact absurd (zq (zy (I.ok.bs b o e).1) h) (qj _)
 exfs:=λb hb hz=>by
  rcases z0.mp (I.Ni b hz)with z|z
  .exact(hf b hb).2.1 z
  exact(hf b hb).2.2.1 z
 funs:=I.stack
 frf:=I.ZAC
end
def Bo(g:DG)(c:DB)(te:DE)(S:DSt):List D->DH->R (List D)
 |[],G=>.ok [] G
 | x::xs,G=>(g x S G).bind λS1 G1=>(c S1 G1).bind λk G2=>
   if k=uJ then(te S1 G2).bind λd G3=>(Bo g c te S xs G3).bind λds G4=>.ok (d::ds) G4 else Bo g c te S xs G2
def Ek(i:Nat)(g:DG)(c:DB)(te:DE)(S:DSt):Nat->Nat->DH->R (List D)
 |0,j,G=>match G[i]? with
  |some (.lst xs)=>if xs.length<=j then .ok [] G else .bad
  |_=>.bad
 | n + 1,j,G=>match G[i]? with
  |some (.lst xs)=>match xs[j]? with
   | some x=>(g x S G).bind λS1 G1=>(c S1 G1).bind λk G2=>
     if k=uJ then(te S1 G2).bind λd G3=>(Ek i g c te S n (j+1) G3).bind λds G4=>.ok (d::ds) G4 else Ek i g c te S n (j+1) G2
   |none=>.ok [] G
  |_=>.bad
def Dl(f:Nat->DH->Option (Option D))(g:DG)(c:DB)(te:DE)(S:DSt):Nat->Nat->DH->R (List D)
 |0,j,G=>match f j G with
  |some uZ=>.ok [] G
  |_=>.bad
 | n + 1,j,G=>match f j G with
  |some (uQ x)=>(g x S G).bind λS1 G1=>(c S1 G1).bind λk G2=>
     if k=uJ then(te S1 G2).bind λd G3=>(Dl f g c te S n (j+1) G3).bind λds G4=>.ok (d::ds) G4 else Dl f g c te S n (j+1) G2
  |some uZ=>.ok [] G
  |none=>.bad
noncomputable def Bh(nt:Nat)(caps:List Nat)(S:DSt):DSt:=zQ nt uZ++caps.map λj=>(S[j]?).join
def Bv(it:DI)(nt:Nat)(caps:List Nat)(g:DG)(c:DB)(te:DE):DE:=λS G=>(it S G).bind λJ G1=>(match J with
 |.pure xs=>Bo g c te (Bh nt caps S) xs G1
 |.mt i=>match G1[i]? with
  |some (.lst xs)=>Ek i g c te (Bh nt caps S) xs.length 0 G1
  |_=>.bad
 |.fn n f=>Dl f g c te (Bh nt caps S) n 0 G1).bind Ah
noncomputable def Ar:DB:=λ_ G=>.ok uJ G
def GK(nt:Nat)(g:DG):Prop:=∀d S G S1 G1,g d S G=.ok S1 G1->∀i e,nt<=i->S[i]?=uQ (uQ e)->S1[i]?=uQ (uQ e)
def GKs(nt:Nat)(g:DGs):Prop:=∀d S G S1 G1,g d S G=.ok S1 G1->∀i e,nt<=i->S[i]?=uQ (uQ e)->S1[i]?=uQ (uQ e)
theorem ZNF(h:i<nt):GK nt (gV i):=λd S G b f e j x k a=>by cases e;rw[z8 (by lia)];exact a
theorem ZMP:GKs nt Bs:=λd S G b f e j x h a=>by
 cases d with
 |nil=>cases e;exact a
 |cons _ _=>cases e
theorem ZHe(l:GK nt t)(m:GKs nt u):GKs nt (Al t u):=λd S G i h e j x k n=>by
 cases d with
 |nil=>cases e
 |cons a r=>
  have b:(t a S G).bind (λi h=>u r i h)=.ok i h:=e;cases f:t a S G with
  |ok p o=>rw[f]at b;exact m _ _ _ _ _ b j x k (l _ _ _ _ _ f j x k n)
  |_=>rw[f]at b;cases b
theorem ZOW(h:GKs nt t):GK nt (Bp n t):=λd S G k f e j x a b=>by
 cases d with
 |tup i=>
  unfold Bp at e;dsimp only at e;split at e
  .exact h _ _ _ _ _ e j x a b
  cases e
 |_=>cases e
theorem ZNR(h:out E a (r.bind f) Q):
  Ez E a r (λi H=>PR3 a H r i RepS λb S G=>out E b (f S G) Q):=by
 cases r with
 |ok d G=>exact λb v x s q=>⟨b,d,G,rfl,x,s,q,rfl,out.mono x h⟩
 |_=>exact h
theorem R.bind_assoc{b d e:Type}(r:R b)(f:b->DH->R d)(g:d->DH->R e):(r.bind f).bind g=r.bind λa G=>(f a G).bind g:=by cases r<;>rfl
theorem ZFi(h:out E a (r.bind f) Q):
  outI E a r (λJ H=>PR3 a H r J RepI λb d G=>out E b (f d G) Q):=by
 cases r with
 |ok d G=>exact λb v x s q=>⟨b,d,G,rfl,x,s,q,rfl,out.mono x h⟩
 |_=>exact h
section
variable{prog:xL}{w:xR}{A:xF}{R':Result->xN->Prop}{s:xN}
def CItem(prog:xL)(w:xR)(A:xF)(target elt:xG)(ifs:List xG)(acc:xP)(env:Env)(P:xN->Prop)(v:xP)(s:xN):Prop:=
 vA (vj prog w) A (assign target env v) (λ_ s₂=>
  vA (vj prog w) A (forIn ifs uJ λc r=>if r=uJ then do let ok<-isTrue c env (eval c env);pure (ForInStep.yield ok)else pure (ForInStep.yield r)) (λok s₃=>
   if ok=uJ then vA (vj prog w) A (eval elt env) (λx s₄=>vA (vj prog w) A (call (.builtin "list.append") [acc,x]) (λ_ s₅=>P s₅) (λ_ _=>False) s₄) (λ_ _=>False) s₃
   else P s₃) (λ_ _=>False) s₂) (λ_ _=>False) s
def CTurn(prog:xL)(w:xR)(A:xF)(target elt:xG)(ifs:List xG)(it acc:xP)(env:Env)(R' P:xN->Prop)(s:xN):Prop:=
 vA (vj prog w) A (pyNext it) (λr s₁=>match r with
  |none=>R' s₁
  |some v=>vA (vj prog w) A (vq target it v) (λ_ s₁=>CItem prog w A target elt ifs acc env P v s₁) (λ_ _=>False) s₁) (λ_ _=>False) s
theorem ZHH(I:Nat->xN->Prop)
  (i:∀n s,I n s->CTurn prog w A target elt ifs it acc env (R' (.ok .next)) (λs'=>∃m,m<n/\I m s') s)
  (n:Nat) (h:I n s):
  codeAny (vj prog w) A (.compLoop (.ListComp elt [⟨target,iter,ifs,0⟩] scope pos) 0 it acc env) R' s:=by
 refine codeAny_loop rfl I (λn s u=>?_) n h
 show vA _ A ((compTurn (.ListComp elt [⟨target,iter,ifs,0⟩] scope pos) 0 it acc env).onRaise (λx=>do noteFrame x env;theTreesLotGoes x)) _ _ s
 refine wpAny_noted ?_;rw[compTurn_list];refine vH ?_ (λ_ _ q=>q) (λ_ _(f:False)=>f.elim);refine vC (wpAny_standAt (vC (vH (i n s u) (λr p a=>?_) λ_ _ b=>b)));cases r with
 |none=>exact vM a
 | some v=>
  refine vC (vH a (λ_ k a=>?_) λ_ _ b=>b);refine vC (vH a (λ_ l j=>vC (vH j (λok s₃ h₃=>?_) λ_ _ b=>b)) λ_ _ b=>b);cases ok with
  |false=>exact vM ⟨rfl,h₃⟩
  |true=>
   exact vC (vC (vH h₃ (λx o d=>vC (vH d (λ_ t e=>vM (vM ⟨rfl,e⟩)) λ_ _ b=>b)) λ_ _ b=>b))
end
def QTs(X:Cx)(E:XK)(ifs:List xG)(t:DB):Prop:=
 ∀(vS:List (xE×Obj))(s:xN)(σ:St)(H:Hp)(Q:Bool->Hp->Prop),Inv X vS σ H s->lB X.K E t σ H Q->
  vA (vj X.prog X.w) X.A (forIn ifs uJ λc r=>if r=uJ then do let ok<-isTrue c X.env (eval c X.env);pure (ForInStep.yield ok)else pure (ForInStep.yield r)) (TP X vS σ Q) X.xe s
theorem ZF9:QTs X E [] Ar:=λb s e H Q I h=>by obtain⟨a,S,G,hk,rfl,d,r,h⟩:=h;exact wpAny_tests_nil ⟨a.H,I,h a (.refl a) d⟩
theorem ZJI(d:QT X E c t):QTs X E [c] t:=λa s b H Q I h=>wpAny_tests_one (d a s b H Q I h)
section
variable{X:Cx}{E:XK}{N:List Str}{scope:xM}{nt:Nat}{caps:List Nat}{tg elt iter:xG}{ifs:List xG}{pos:Pos}{it:DI}{g:DG}{c:DB}{te:DE}
theorem ZHt(r:RepS a S σ):RepS a (Bh nt caps S) (zQ nt uZ++caps.map λj=>(σ[j]?).join):=by
 refine⟨by simp[Bh],λi d h=>?_⟩;unfold Bh at h;by_cases f:i<nt
 .rw[z9 (by simpa using f),qG]at h
  split at h<;>cases h
 rw[zD (by simpa using f),zv]at h;rw[zD (by simpa using f),zv];rw[qO]at h⊢;cases e:caps[i-nt]? with
 |none=>rw[e]at h;cases h
 | some j=>
  rw[e]at h;have b:(S[j]?).join=uQ d:=by simpa using h
  have l:S[j]?=uQ (uQ d):=by
   cases q:S[j]? with
   |none=>rw[q]at b;cases b
   |some o=>
    rw[q]at b;have k:o=uQ d:=b;rw[k]
  obtain⟨v,m,n⟩:=r.get j d l;exact⟨v,by simp[m],n⟩
theorem ZJJ(h:(Bh nt caps S)[i]?=uQ (uQ d)):nt<=i:=by
 unfold Bh at h;by_cases a:i<nt
 .rw[z9 (by simpa using a),qG]at h
  split at h<;>cases h
 lia
theorem Xj(hc:X.calm=uJ)(cs:CompSc X N t nt caps)
  (hg:∀C s₀ H₀ ex,QG (blk X N t C s₀ H₀ ex) E0 tg g) (gk:GK nt g) (hts:∀C s₀ H₀ ex,QTs (blk X N t C s₀ H₀ ex) E0 ifs c) (he:∀C s₀ H₀ ex,QE (blk X N t C s₀ H₀ ex) E0 elt te)
  {vS:List (xE×Obj)} {σ:St} {s:xN} {a:Wd} {S:DSt} {G:DH} {J:It} {n0:Nat} {f:Nat->DH->Option (Option D)} {i0:xE} {fp:List xE} {tn:Nat->Heap->Prop} (I:Inv X vS σ a.H s) (hk:a.K=X.K) (sm:Sim a G) (rS:RepS a S σ)
  (T:Turn X.prog X.w X.K tg J fp i0 tn) (t0:tn 0 s.heap) (hf:∀b∈fp,FpOk X vS a.H b) (rJ:RepI a (.fn n0 f) J) {Q:VK}
  (h:out E0 a ((Dl f g c te (Bh nt caps S) n0 0 G).bind Ah) Q)
  {RR:xP->xE->Result->xN->Prop} {E':xP->xN->Prop}
  (hRR:∀(D C:xE)(s':xN)(b:Wd)(vs:List V),Inv X vS σ (upd b.H D (.lst vs)) s'->b.H D=uZ->s.heap.objs.size<=C->D≠C->(∃m,s'.heap.Ns C m)->b.H C=uZ->Q (.ref D) (upd b.H D (.lst vs))->RR (.ref D) C (.ok .next) s'):
  vA (vj X.prog X.w) X.A (newList []) (λF s₃=>vA (vj X.prog X.w) X.A (newFunctionEnv t X.env.globals (Cr X.env t.names []) [] X.env.qual uZ .none (uQ X.env)) (λcenv s₄=>
   codeAny (vj X.prog X.w) X.A (.compStart (.ListComp elt [⟨tg,iter,ifs,0⟩] t pos) 0 (.ref i0) F {cenv with scope:=relabel t X.env}) (RR F cenv.locals) s₄) E' s₃) E' s:=by
 refine vI (wpAny_newFunctionEnv cs.nocell (by intro y hy;simp at hy) (λh₁ hns₁ W=>?_) cs.kind);dsimp only at hns₁ W⊢;generalize hH2:s.heap.push {cls:=.type "list",dict:=uZ,data:=.seq ([]:List xP).toArray}=H2 at hns₁ W⊢;have hC:H2.objs.size=s.heap.objs.size+1:=by rw[<-hH2,qN]
 have hDC:s.heap.objs.size≠H2.objs.size:=by rw[hC];exact zM (qk _)
 have hCle:s.heap.objs.size<=H2.objs.size:=hC▸j8 _;have fpOld:∀b∈fp,b<s.heap.objs.size:=λb hb=>by obtain⟨o,e,_⟩:=T.obj 0 _ t0 b hb;exact zy e
 have hDf:s.heap.objs.size∉fp:=λhm=>qj _ (fpOld _ hm)
 have hCf:H2.objs.size∉fp:=λhm=>by have:=fpOld _ hm;rw[hC]at this;exact qj _ (Nat.lt_of_succ_lt this)
 have old:∀b o,s.heap.get? b=uQ o->h₁.get? b=uQ o:=λb o e=>
  W.extBut b o (by rw[hC];exact zM (jI (zy e))) (zZ _ (hH2▸zZ _ e))
 have hacc:h₁.PlainList s.heap.objs.size ([]:List xP).toArray:=⟨_,W.extBut _ _ hDC (zZ _ (hH2▸z3 _ rfl))⟩;generalize hCe:H2.objs.size=C at*;generalize hDe:s.heap.objs.size=M at*;let B:=blk X N t C s a.H fp;have okB:=ZNW cs I hf (hDe▸hCle) hCf;let σ0:St:=.replicate nt uZ++caps.map λj=>(σ[j]?).join
 have start:∀tk,Inv B [] σ0 a.H {s with heap:=h₁,toks:=tk}:=λtk=>by
  refine⟨okB,rfl,I.bare,Un.kept old,⟨_,hns₁,λi x v e1 e2 e3=>?_⟩,λx d' e=>?_,I.hok.fresh (hDe▸hCle),λx d' e=>?_,λp hp=>?_,I.hok.kept old,?_⟩
  .have hi:nt<=i:=by
    by_cases hi:i<nt
    .have e2':=e2;rw[z9 (by simpa using hi),qG]at e2'
     split at e2'<;>cases e2'
    lia
   have e2':=e2;rw[zD (by simpa using hi),zv,qO]at e2';cases ej:caps[i-nt]? with
   |none=>rw[ej]at e2';cases e2'
   | some j=>
    rw[ej]at e2';have h1:(σ[j]?).join=uQ v:=by simpa using e2'
    have h2:σ[j]?=uQ (uQ v):=by
     cases q:σ[j]? with
     |none=>rw[q]at h1;cases h1
     |some o=>
      rw[q]at h1;have h1':o=uQ v:=h1;rw[h1']
    obtain⟨y,ey,en,ek⟩:=cs.cap (i-nt) j ej;have exy:x=y:=by
     have:nt+(i-nt)=i:=by lia
     rw[this]at en;have e1':N[i]?=uQ x:=e1;rw[e1']at en;exact Option.some.inj en
    subst exy;have kx:=cs.free (x,.free) (zc ek) rfl;have vis:Vis X.env.scope x:=by
     rcases kx with kx|kx
     .exact .inr (.inl kx)
     exact .inr (.inr kx)
    obtain⟨m,hn,hl⟩:=I.loc;obtain⟨u,ru,lk⟩:=hl j x v ey h2 vis;refine⟨u,ru,?_⟩;rcases lk with⟨k1,_⟩|⟨k1,c1,ec,hcell⟩
    .rcases kx with kx|kx
     .rw[k1]at kx;cases kx
     rw[k1]at kx;cases kx
    refine .inr ⟨?_,c1,?_,?_⟩
    .show(relabel t X.env).names.lookup x=uQ .cell∨(relabel t X.env).names.lookup x=uQ .free;rw[ZCX,ek];simp only[Option.map_some];split
     .exact .inl rfl
     exact .inr rfl
    .obtain⟨d1,hd1⟩:=M3 (.inl (zc ek));obtain⟨d2,hd2⟩:=Ot hd1;have:=cs.cl I.ok hd2;rw[ec]at this;cases this;exact hd2
    .obtain⟨o,e,dd⟩:=hcell;exact⟨o,old _ _ e,dd⟩
  .obtain⟨v,o,e',dd⟩:=I.cell x d' (cs.cl I.ok e);exact⟨v,o,old _ _ e',dd⟩
  .exact I.Gs x d' (cs.cl I.ok e)
  .exact absurd hp (by simp[B,blk])
  show σ0.length=N.length;rw[cs.len];simp[σ0]
 have young:∀b∈fp,b≠C:=λb hb z=>hCf (z▸hb)
 have fpB:∀{H':Hp}{ps:List (xE×Obj)},(∀b∈fp,H' b=uZ)->(∀p∈ps,p.1∉fp)->∀b∈fp,FpOk B ps H' b:=λ{H' ps}hn hps b hb=>
  ⟨hn b hb,young b hb,okB.exfs b hb,.inl hb,λx d' e=>(hf b hb).2.2.2.2.1 x d' (cs.cl I.ok e),λp hp z=>by exact hps p (by simpa[B,blk]using hp) (z▸hb)⟩
 have nstk:M∉frs X.stack:=λz=>by
  rcases z0.mp (I.Ni M z)with z|z
  .have:=I.lt;rw[hDe,<-z]at this;exact qj _ this
  exact I.nofs (hDe▸zx _) z
 have pinD:∀{L:St}{H':Hp}{s':xN}{l:List xP}{nD:Nat},Inv B [] L H' s'->s'.heap.get? M=uQ {cls:=.type "list",data:=.seq l.toArray nD}->H' M=uZ->Inv B [(M,{cls:=.type "list",data:=.seq l.toArray nD})] L H' s':=λ{L H' s' l nD}J e n=>
  J.Gj λp hp=>by
   have ep:p=(M,{cls:=.type "list",data:=.seq l.toArray nD}):=by simpa using hp
   subst ep;exact⟨e,n,hDC,nstk,λv' z=>by cases z⟩
 have fin:∀(s':xN)(b:Wd)(L:St)(l:List xP)(U:List D)(G':DH),Inv B [] L b.H s'->Ext a b->Sim b G'->s'.heap.PlainList M l.toArray->b.H M=uZ->(∃vs,Vals vs l/\Reps b U vs)->out E0 b (Ah U G') Q->RR (.ref M) C (.ok .next) s':=by
  intro s' b L l U G' IB x sb pl hD ⟨vs,hv,rv⟩ hq;have hz:U.length<=1000000:=by
   unfold Ah at hq;split at hq
   .assumption
   exact hq.elim
  obtain⟨n,eD⟩:=pl;have ylt:∀{q:xE}{o:Obj},s.heap.get? q=uQ o->q≠M:=λe z=>by rw[z,<-hDe]at e;exact absurd (zy e) (qj _)
  have Ia:Inv X vS σ (upd b.H M (.lst vs)) s':=by
   refine Vc (I.call' IB.os IB.base IB.hok IB.bare λb hb=>⟨(hf b hb).2.2.2.1,(hf b hb).2.1,(hf b hb).2.2.2.2.1,(hf b hb).2.2.2.2.2⟩) hD (by rw[<-hDe];exact I.sz) ?_ (λy c' ec=>?_) (λp hp=>?_) ⟨?_,l,n,hv,eD⟩
   .rw[<-hDe];exact jQ I.lt
   .obtain⟨v,o,e,_⟩:=I.cell y c' ec;exact ylt e
   .exact ylt (I.pin p hp).1
   rw[<-rv.length];exact zE hz size6
  refine hRR M C s' b vs Ia hD hCle hDC (let⟨m,hn,_⟩:=IB.loc;⟨m,hn⟩) IB.free ?_;unfold Ah at hq;rw[if_pos hz]at hq;exact Jf sb rv hq M hD
 have turnX:∀(P:xN->Prop)(rest:DH->R (List D))(s1:xN)(b:Wd)(G1:DH)(σ1:St)(l:List xP)(F:List D)(u:xP)(v:V)(x:D)(i:Nat),Inv B [] σ1 b.H s1->Ext a b->Sim b G1->RepS b (Bh nt caps S) σ1->tn i s1.heap->(∀q∈fp,b.H q=uZ)->
   s1.heap.PlainList M l.toArray->b.H M=uZ->(∃vs,Vals vs l/\Reps b F vs)->RelV v u->Rep b x v->
   out E0 b (((g x (Bh nt caps S) G1).bind λS1 G1=>(c S1 G1).bind λk G2=>if k=uJ then(te S1 G2).bind λd G3=>(rest G3).bind λU G4=>.ok (d::U) G4 else rest G2).bind λU G=>Ah (F++U) G) Q->
   (∀(s2:xN)(b2:Wd)(G2:DH)(Z:St)(its2:List xP)(acc2:List D),Inv B [] Z b2.H s2->Ext a b2->Sim b2 G2->RepS b2 (Bh nt caps S) Z->tn i s2.heap->(∀q∈fp,b2.H q=uZ)->
    s2.heap.PlainList M its2.toArray->b2.H M=uZ->(∃vs,Vals vs its2/\Reps b2 acc2 vs)->out E0 b2 ((rest G2).bind λU G=>Ah (acc2++U) G) Q->P s2)->
   CItem X.prog X.w X.A tg elt ifs (.ref M) B.env P u s1:=by
  intro P rest s1 b G1 σ1 l F u v x i I1 x1 sb rSb t1 hfp pl hD hacc' ru rx hq next
  rw[R.bind_assoc]at hq;obtain⟨nD,eD⟩:=id pl;let pinD:List (xE×Obj):=[(M,{cls:=.type "list",data:=.seq l.toArray nD})];have pinOk:∀{L:St}{H':Hp}{s':xN},Inv B (pinD++Kq fp s1.heap) L H' s'->s'.heap.PlainList M l.toArray/\H' M=uZ/\tn i s'.heap/\∀q∈fp,H' q=uZ:=λ{L H' s'}J=>by
   have p1:=J.pin (M,{cls:=.type "list",data:=.seq l.toArray nD}) (zG _ (j6 _ (by simp[pinD])));refine⟨⟨nD,p1.1⟩,p1.2.1,T.keep _ _ _ t1 λq O o e=>(J.pin (q,o) (zG _ (zG _ (Te O e)))).1,λq O=>?_⟩;obtain⟨o,e,_⟩:=T.obj _ _ t1 q O;exact(J.pin (q,o) (zG _ (zG _ (Te O e)))).2.1
  have I2:Inv B (pinD++Kq fp s1.heap) σ1 b.H s1:=I1.Gj λp hp=>by
   rcases qZ.mp hp with hp|hp
   .have e:p=(M,{cls:=.type "list",data:=.seq l.toArray nD}):=by simpa[pinD]using hp
    subst e;exact⟨eD,hD,hDC,λz=>(nstk z),λv' z=>by cases z⟩
   obtain⟨hb,e⟩:=ZEy hp;obtain⟨f0,f1,f2,_⟩:=fpB (ps:=[]) hfp (λp hp=>by cases hp) p.1 hb;obtain⟨o,e',dd⟩:=T.obj _ _ t1 p.1 hb;rw[e]at e';cases e';exact⟨e,f0,f1,f2,dd⟩
  refine thn (hg C s a.H fp _ s1 σ1 b.H v u _ I2 ru ⟨b,Bh nt caps S,G1,x,x1.k.trans hk,rfl,sb,rSb,rx,(ZNR hq).imp λ_ _ z=>z⟩) ?_;rintro _ s2 ⟨Z,H2',J2,b2,S2,G2,rfl,y2,sb2,rS2,eg,hq2⟩;rw[R.bind_assoc]at hq2;have rS2':RepS b2 (Bh nt caps S) Z:=⟨by rw[rSb.len,I1.len];exact J2.len.symm,λj e' hj=>rS2.get j e' (gk _ _ _ _ _ eg j e' (ZJJ hj) hj)⟩
  refine thn (hts C s a.H fp _ s2 Z b2.H _ J2 ⟨b2,S2,G2,y2.k.trans (x1.k.trans hk),rfl,sb2,rS2,(ZEU hq2).imp λ_ _ z=>z⟩) ?_;rintro k s3 ⟨H3,J3,b3,G3,rfl,y3,sb3,_,hq3⟩;cases k with
  |false=>
   obtain⟨p1,p2,p3,p4⟩:=pinOk J3;obtain⟨vs,hv,rv⟩:=hacc'
   exact next s3 b3 G3 Z l F (J3.Gj λp hp=>by cases hp) (x1.trans (y2.trans y3)) sb3 (rS2'.mono y3) p3 p4 p1 p2 ⟨vs,hv,(rv.mono y2).mono y3⟩ hq3
  | true=>
   have hq3':out E0 b3 (((te S2 G3).bind λd G3=>(rest G3).bind λU G4=>.ok (d::U) G4).bind λU G=>Ah (F++U) G) Q:=hq3;rw[R.bind_assoc]at hq3';refine thn (he C s a.H fp _ s3 Z b3.H _ J3 ⟨b3,S2,G3,y3.k.trans (y2.k.trans (x1.k.trans hk)),rfl,sb3,rS2.mono y3,(Fb hq3').imp λ_ _ z=>z⟩) ?_;rintro w s4 ⟨vw,H4,J4,rw',b4,d4,G4,rfl,y4,sb4,q4,_,hq4⟩;obtain⟨p1,p2,p3,p4⟩:=pinOk J4;rw[R.bind_assoc]at hq4;have Y:out E0 b4 ((rest G4).bind λU G=>Ah ((F++[d4])++U) G) Q:=by
    have e:(λ(U:List D)(G:DH)=>(R.ok (d4::U) G).bind λU G=>Ah (F++U) G)=λU G=>Ah ((F++[d4])++U) G:=by funext U G;simp
    rw[<-e];exact hq4
   obtain⟨vs,hv,rv⟩:=hacc';have hsz:l.toArray.size<=sizeLine:=by
    have:F.length<=1000000:=by
     cases hr:rest G4 with
     |ok U G5=>
      rw[hr]at Y;have hq5:out E0 b4 (Ah ((F++[d4])++U) G5) Q:=Y;unfold Ah at hq5;split at hq5
      .rename_i hl;simp at hl;lia
      exact hq5.elim
     |err e' G5=>rw[hr]at Y;exact(Y.1 rfl).elim
     |bad=>rw[hr]at Y;exact Y.elim
    rw[zk,<-hv.length,<-rv.length];exact zE this size6
   refine wpAny_list_append_plain p1 (λh' hpl hsb=>?_) hsz;have J5:Inv B [] Z b4.H {s4 with heap:=h'}:=by refine(J4.Gj λp hp=>by cases hp).turned (λq o O e=>(hsb.2 q O).trans e) p2 hDC (.inr (by show s.heap.objs.size<=M;rw[hDe];exact zx _)) (λy c' ec=>?_) (λp hp=>absurd hp (by simp[B,blk]));obtain⟨v',o,e,_⟩:=I.cell y c' (cs.cl I.ok ec);intro z;rw[z,<-hDe]at e;exact absurd (zy e) (qj _)
   refine next _ b4 G4 Z (l++[w]) (F++[d4]) J5 (x1.trans (y2.trans (y3.trans y4))) sb4 ((rS2'.mono y3).mono y4) (T.keep _ _ _ p3 λq O o e=>(hsb.2 q (λz=>hDf (z▸O))).trans e) p4 (by simpa using hpl) p2 ⟨vs++[vw],hv.append (.cons rw' .nil),(((rv.mono y2).mono y3).mono y4).append (.cons q4 Reps.nil)⟩ Y
 have loop:∀s₃:xN,s₃={s with heap:=h₁,toks:=s.toks+([]:List (Str×xP)).length}->
   codeAny (vj X.prog X.w) X.A (.compLoop (.ListComp elt [⟨tg,iter,ifs,0⟩] t pos) 0 (.ref i0) (.ref M) B.env) (RR (.ref M) C) s₃:=by
  rintro s₃ rfl;have walk:=rJ;obtain⟨Iv,hIv⟩:∃Iv:Nat->xN->Prop,∀m s',Iv m s'↔∃(i:Nat)(b:Wd)(G':DH)(L:St)(l:List xP)(F:List D),Inv B [] L b.H s'/\Ext a b/\Sim b G'/\RepS b (Bh nt caps S) L/\tn i s'.heap/\(∀q∈fp,b.H q=uZ)/\s'.heap.PlainList M l.toArray/\b.H M=uZ/\(∃vs,Vals vs l/\Reps b F vs)/\out E0 b ((Dl f g c te (Bh nt caps S) m i G').bind λU G=>Ah (F++U) G) Q:=⟨_,λ_ _=>Iff.rfl⟩;refine ZHH Iv (λm s' h'=>?_) n0 ((hIv _ _).2 ⟨0,a,G,σ0,[],[],start _,Ext.refl a,sm,ZHt rS,T.keep _ _ _ t0 λq _ o e=>old q o e,λq hq=>(hf q hq).1,hacc,I.hok.fresh (hDe▸zx _),⟨[],.nil,rfl⟩,by simpa using h⟩)
  obtain⟨i,b,G',L,l,F,IB,x,sb,rSb,ti,hfp,pl,hD,hac,hq⟩:=(hIv _ _).1 h';clear h';obtain⟨nD,eD⟩:=pl;have I0:=pinD IB eD hD;have f0:=fpB (ps:=[(M,{cls:=.type "list",data:=.seq l.toArray nD})]) hfp (λp hp=>by
   have ep:p=(M,{cls:=.type "list",data:=.seq l.toArray nD}):=by simpa using hp
   subst ep;exact hDf)
  have stop:J.stop i b.H->out E0 b (Ah F G') Q->∀P,CTurn X.prog X.w X.A tg elt ifs (.ref i0) (.ref M) B.env (RR (.ref M) C (.ok .next)) P s':=by intro st O P;refine thn (T.done B rfl rfl rfl hc i _ s' L b.H _ I0 f0 ti st) ?_;rintro r s1 ⟨rfl,I2⟩;have pD:=(I2.pin (M,{cls:=.type "list",data:=.seq l.toArray nD}) (zG _ (by simp))).1;exact fin s1 b L l F G' (I2.Gj λp hp=>by cases hp) x sb ⟨nD,pD⟩ hD hac O
  cases m with
  |zero=>
   unfold Dl at hq;split at hq
   .rename_i hf;exact stop ((walk b x G' sb i).2 hf) (by have O:out E0 b (Ah (F++[]) G') Q:=hq;rw[qJ]at O;exact O) _
   exact hq.elim
  | succ m=>
   unfold Dl at hq;split at hq
   .rename_i d1 hf;obtain⟨go,yl⟩:=(walk b x G' sb i).1 d1 hf;refine thn (T.item B rfl rfl rfl hc i _ s' L b.H _ I0 f0 ti go) ?_;rintro r s1 ⟨u,rfl,hgo⟩;refine thn hgo ?_;rintro _ s2 ⟨v,H',I2,ru,y,t2,hfp2⟩;obtain⟨cc,rfl,xx,ss,rd⟩:=yl v H' y;have pD:=I2.pin (M,{cls:=.type "list",data:=.seq l.toArray nD}) (zG _ (by simp));obtain⟨vs1,hv1,rv1⟩:=hac;refine turnX _ (λG3=>Dl f g c te (Bh nt caps S) m (i+1) G3) s2 cc G' L l F u _ d1 (i+1) (I2.Gj λp hp=>by cases hp) (x.trans xx) ss (rSb.mono xx) t2 hfp2 ⟨nD,pD.1⟩ pD.2.1 ⟨vs1,hv1,rv1.mono xx⟩ ru rd (out.mono xx hq) ?_
    intro s3 b3 G3 σ3 its3 acc3 a1 a2 a3 a4 a5 a6 a7 a8 a9 a10;exact⟨m,qk _,(hIv _ _).2 ⟨i+1,b3,G3,σ3,its3,acc3,a1,a2,a3,a4,a5,a6,a7,a8,a9,a10⟩⟩
   .rename_i hf;exact stop ((walk b x G' sb i).2 hf) (by have O:out E0 b (Ah (F++[]) G') Q:=hq;rw[qJ]at O;exact O) _
   exact hq.elim
 exact codeAny_compStart_list (loop _ rfl) (T.self _ 0 _ _ _ (T.keep _ _ _ t0 λq _ o e=>old q o e) (loop _ rfl))
theorem Xg{g:DG}{c:DB}{b:DE}{S:DSt}{xs:List D}:∀(n j:Nat)(G:DH),j+n=xs.length->Bo g c b S (xs.drop j) G=Dl (λj _=>uQ xs[j]?) g c b S n j G
 |0,j,G,h=>by
  rw[q7 (by lia)]
  show _=(match uQ xs[j]? with |some uZ=>R.ok [] G|_=>.bad)
  rw[zA (by lia)]
  rfl
 |n+1,j,G,h=>by
  have a:j<xs.length:=by lia
  rw[qy a]
  show(g xs[j] S G).bind _=(match uQ xs[j]? with |some (uQ x)=>_|some uZ=>R.ok [] G|none=>.bad)
  rw[zJ a];dsimp only
  congr 1
  funext l i
  congr 1
  funext k f;rw[Xg n (j+1) f (by lia)]
  congr 1
  congr 1
  funext d e;rw[Xg n (j+1) e (by lia)]
theorem ZBq{g:DG}{c:DB}{a:DE}:∀(n j:Nat)(G:DH),Ek i g c a S n j G=Dl (mtF i) g c a S n j G
 | 0,j,G=>by
  unfold Ek Dl mtF;cases G[i]? with
  |none=>rfl
  | some o=>
   cases o with
   |lst b=>
    dsimp only;by_cases d:j<b.length
    .rw[if_neg (by lia),zJ d]
    rw[if_pos (by lia),zA (by lia)]
   |_=>rfl
 | n+1,j,G=>by
  have e:(Ek i g c a S n (j+1))=Dl (mtF i) g c a S n (j+1):=funext λG=>ZBq n (j+1) G
  unfold Ek Dl;rw[e];unfold mtF;cases G[i]? with
  |none=>rfl
  | some o=>
   cases o with
   |lst b=>
    dsimp only
    cases b[j]?<;>rfl
   |_=>rfl
theorem ZBV(hc:X.calm=uJ)(cs:CompSc X N scope nt caps)
  (hg:∀C s₀ H₀ ex,QG (blk X N scope C s₀ H₀ ex) E0 tg g) (gk:GK nt g) (hts:∀C s₀ H₀ ex,QTs (blk X N scope C s₀ H₀ ex) E0 ifs c) (he:∀C s₀ H₀ ex,QE (blk X N scope C s₀ H₀ ex) E0 elt te)
  {vS:List (xE×Obj)} {σ:St} {s:xN} {a:Wd} {S:DSt} {G:DH} {J:It} {d:ItD} {i0:xE} {fp:List xE} {tn:Nat->Heap->Prop} (I:Inv X vS σ a.H s) (hk:a.K=X.K) (sm:Sim a G) (rS:RepS a S σ)
  (T:Turn X.prog X.w X.K tg J fp i0 tn) (t0:tn 0 s.heap) (hf:∀b∈fp,FpOk X vS a.H b) (rJ:RepI a d J) {Q:VK}
  (h:out E0 a ((match d with
   |.pure xs=>Bo g c te (Bh nt caps S) xs G
   |.mt i=>match G[i]? with
    |some (.lst xs)=>Ek i g c te (Bh nt caps S) xs.length 0 G
    |_=>.bad
   |.fn n f=>Dl f g c te (Bh nt caps S) n 0 G).bind Ah) Q)
  {RR:xP->xE->Result->xN->Prop} {E':xP->xN->Prop}
  (hRR:∀(D C:xE)(s':xN)(b:Wd)(vs:List V),Inv X vS σ (upd b.H D (.lst vs)) s'->b.H D=uZ->s.heap.objs.size<=C->D≠C->(∃m,s'.heap.Ns C m)->b.H C=uZ->Q (.ref D) (upd b.H D (.lst vs))->RR (.ref D) C (.ok .next) s'):
  vA (vj X.prog X.w) X.A (newList []) (λacc s₃=>vA (vj X.prog X.w) X.A (newFunctionEnv scope X.env.globals (Cr X.env scope.names []) [] X.env.qual uZ .none (uQ X.env)) (λcenv s₄=>
   codeAny (vj X.prog X.w) X.A (.compStart (.ListComp elt [⟨tg,iter,ifs,0⟩] scope pos) 0 (.ref i0) acc {cenv with scope:=relabel scope X.env}) (RR acc cenv.locals) s₄) E' s₃) E' s:=by
 cases d with
 |pure xs=>
  have h':out E0 a ((Bo g c te (Bh nt caps S) (xs.drop 0) G).bind Ah) Q:=h;rw[Xg xs.length 0 G (by lia)]at h';exact Xj hc cs hg gk hts he I hk sm rS T t0 hf (ZBt rJ) h' hRR
 |mt k=>
  dsimp only at h;split at h
  .rename_i xs hx;rw[ZBq]at h;exact Xj hc cs hg gk hts he I hk sm rS T t0 hf (ZCr rJ) h hRR
  exact h.elim
 |fn n0 f=>exact Xj hc cs hg gk hts he I hk sm rS T t0 hf rJ h hRR
end
section
variable{X:Cx}{N:List Str}{scope:xM}{nt:Nat}{caps:List Nat}{tg elt iter:xG}{ifs:List xG}{pos:Pos}{it:DI}{g:DG}{c:DB}{te:DE}
theorem letGo{vS:List (xE×Obj)}{l:St}{H:Hp}{j s':xN}{h':Heap}{C:xE}{t':Nat}{i:St}{t:Hp}(f:Inv X vS i t j)(u:Inv X vS l H s')(h:j.heap.objs.size<=C)(n:H C=uZ)(k:qU C s'.heap h'):Inv X vS l H {s' with heap:=h',toks:=t'}:=by
 have a:∀{b:xE}{o:Obj},j.heap.get? b=uQ o->b≠C:=λe z=>by rw[z]at e;exact absurd (zq (zy e) h) (qj _)
 refine u.turned (λb o r e=>(k.2 b r).trans e) n (jQ (zq f.lt h)) (.inr (zE f.sz h)) (λx s e=>?_) λp hp=>(a (f.pin p hp).1)
 .obtain⟨v,o,q,_⟩:=f.cell x s e;exact a q
theorem ZLy(L:X.calm=uJ)(cs:CompSc X N scope nt caps)(U:QI X E0 tg iter it)
  (F:∀C e f i,QG (blk X N scope C e f i) E0 tg g) (A:GK nt g) (n:∀C e f i,QTs (blk X N scope C e f i) E0 ifs c) (M:∀C e f i,QE (blk X N scope C e f i) E0 elt te)
  (K:∀x,foldedSetIterable iter X.env x=pure x:=by intro _;rfl):QE X E0 (.ListComp elt [⟨tg,iter,ifs,0⟩] scope pos) (Bv it nt caps g c te):=by
 intro j s O H Q I h;obtain⟨a,S,G,hk,rfl,Y,r,h⟩:=h;rw[eval_ListComp];refine wpAny_comprehension_free rfl K (Ys (cs.cells I.ok)) cs.kind cs.names (thn (U j s O a.H _ I ⟨a,S,G,hk,rfl,Y,r,(ZFi h).imp λ_ _ z=>z⟩) λxv s1 o=>thn o λw s2 y=>?_);obtain⟨i0,fp,tn,J,H2,rfl,u,T,P,B,b,d,G1,rfl,x,W,Z,_,o⟩:=y;refine ZBV L cs F A n M u (x.k.trans hk) W (r.mono x) T P B Z o ?_;intro D C s' b vs Ia hD l p ⟨m,v⟩ t E
 refine⟨m,v,λh' q=>⟨.ref D,_,letGo u Ia l ?_ q,rfl,E⟩⟩;rw[Am (.symm p)];exact t
theorem ZBj(i:Nat){y:Str}{U n:Pos}(hc:X.calm=uJ)(hN:X.N.Nodup)(cs:CompSc X N scope nt caps)(hi:QI X E0 tg iter it)
  (hg:∀C f j t,QG (blk X N scope C f j t) E0 tg g) (gk:GK nt g) (A:∀C f j t,QTs (blk X N scope C f j t) E0 ifs c) (he:∀C f j t,QE (blk X N scope C f j t) E0 elt te)
  (hy:X.N[i]?=uQ y:=by rfl) (hx:Loc X.env.scope y:=by first|exact Or.inl rfl|exact Or.inr rfl) (hf:X.fn y=uJ∨X.env.scope.names.lookup y=uQ .local:=by first|exact .inl rfl|exact .inr rfl|assumption)
  (Q:swapsWith (.ListComp elt [⟨tg,iter,ifs,0⟩] scope pos) (uQ (.Name y U)) n.line X.env=pure uJ:=by rfl)
  (hs:∀x,foldedSetIterable iter X.env x=pure x:=by intro _;rfl):QS X E0 (.Assign [.Name y U] (.ListComp elt [⟨tg,iter,ifs,0⟩] scope pos) n) (sAs (Bv it nt caps g c te) (gV i)):=by
 intro u s σ H W I h;obtain⟨a,S,G,hk,rfl,sm,r,h⟩:=h;have h0:=Hf h;rw[exec_Assign_Name_used _ _ _ _ Q];refine vC (wpAny_standAt (vC ?_));refine vC (vH (wpAny_comprehension_free rfl hs (Ys (cs.cells I.ok)) cs.kind cs.names
  (thn (hi u s σ a.H _ I ⟨a,S,G,hk,rfl,sm,r,(ZFi h0).imp λ_ _ z=>z⟩) λxv s1 F=>thn F λitv s2 h2=>?_)) (λ_ s' K=>vM (vM K)) λ_ _ e=>e)
 obtain⟨i0,fp,tn,J,H2,rfl,w,T,t0,f2,b,d,G1,rfl,x,sb,rJ,_,F⟩:=h2;refine ZBV hc cs hg gk A he w (x.k.trans hk) sb (r.mono x) T t0 f2 rJ F ?_;intro D C s' b' vs Ia hD l M ⟨m,Z⟩ P K;refine wpAny_assign_Name (ZGb Ia hN hy hx (v:=.ref D) rfl (λs'' B E=>?_) hf);obtain⟨a',q,p⟩:=E;have L:C≠a':=by
  rintro rfl;rcases p with rfl|p
  .exact absurd (zq w.lt l) (qj _)
  obtain⟨v,o,e',_⟩:=w.cell _ _ p;exact absurd (zq (zy e') l) (qj _)
 refine⟨m,Z.sameBut q L,λh' O=>⟨_,_,letGo w B l ?_ O,?_⟩⟩
 .rw[Am (.symm M)];exact P
 obtain⟨Y,d3,G3,e3,x3,s3,q3,_,h3⟩:=K;rw[<-e3];exact h3 Y _ (.refl Y) s3 ((r.mono x3).set i q3)
end
def H7:D->DH->R D
 |.int i,G=>.ok (.int (-i)) G
 |_,_=>.bad
noncomputable def Du:D->Bool
 |.non=>uJ
 |_=>uX
def Io:D->D->DH->R D
 |d,.non,G=>.ok (.bl (Du d)) G
 |_,_,_=>.bad
def O4:D->D->DH->R D
 |d,.non,G=>.ok (.bl (!Du d)) G
 |_,_,_=>.bad
noncomputable def Kh:D->Option V
 |.non=>uQ .non
 |.bl b=>uQ (.bl b)
 |.int i=>uQ (.int i)
 |.str x=>uQ (.str x)
 |_=>uZ
def Ie:List D->Option (List V)
 |[]=>uQ []
 |d::r=>match Kh d,Ie r with
  |some v,uQ vs=>uQ (v::vs)
  |_,_=>uZ
def inD(d e:D)(G:DH):Option Bool:=match e with
 |.str j=>match d with
  |.str i=>uQ (!(jh j i 0 j.length 1).isEmpty)
  |_=>uZ
 |e=>match Bm e G,Kh d with
  |some xs,uQ v=>(Ie xs).map λvs=>inV v vs
  |_,_=>uZ
def Iz(d e:D)(G:DH):R D:=match inD d e G with
 |some k=>.ok (.bl (!k)) G
 |none=>.bad
section
variable{X:Cx}{E:XK}{a b:xG}{ta tb:DE}{pos:Pos}
theorem ZM6:UnR X (unaryOp .USub) (lR1 X.K E H7):=λc s f H x v Q I g h=>by
 obtain⟨a,G,d,hk,rfl,j,e,q⟩:=h;cases d with
 |int i=>exact ZLY c s f a.H x v Q I g ⟨i,e,q a _ (.refl a) j rfl⟩
 |_=>exact q.elim
theorem ZG7(ho:UnR X (unaryOp op) (lR1 X.K E f))(g:QE X E a ta):QE X E (.UnaryOp op a pos) (dUn f ta):=(ZKP ho g).mono λj H Q h=>by obtain⟨a,S,G,hk,rfl,s,r,h⟩:=h;refine⟨a,S,G,hk,rfl,s,r,(Fb h).imp ?_⟩;rintro v _ ⟨b,d,c,rfl,x,i,q,-,e⟩;exact⟨b,c,d,x.k.trans hk,rfl,i,q,e⟩
theorem ZIt(d:Gl X x)(f:X.mg x=uZ)(e:vX x=uQ (.type n))(c:x≠"__name__":=by decide)(g:(x==("__debug__":Str))=uX:=by decide):QE X E (.Name x pos) (dC (.ty n)):=
 (ZMa (v:=.ty n) d f e rfl c g).mono λi H Q h=>Ln h λ_ _=>rfl
theorem ZGV{a:Wd}(c:Rep a d x):decide (x=V.non)=Du d:=by
 cases d with
 |tup _|fl _=>obtain⟨p,e,rfl,_⟩:=c;rfl
 |ref _=>rw[c.2];rfl
 |_=>rw[c];rfl
theorem o_is:OpR X (vW .Is) (lR2 X.K E Io):=Ft ZKw λa G d e x y Q hk s c f q=>by
 cases e with
 |non=>exact⟨f,by rw[ZGV c];cases d<;>exact q a _ (.refl a) s rfl⟩
 |_=>cases d<;>exact q.elim
theorem ZJ1:OpR X (vW .IsNot) (lR2 X.K E O4):=Ft ZPl λa G d e x y Q hk s c f q=>by
 cases e with
 |non=>exact⟨f,by rw[ZGV c];cases d<;>exact q a _ (.refl a) s rfl⟩
 |_=>cases d<;>exact q.elim
theorem ZBL{a:Wd}(r:Rep a d x)(h:Kh d=uQ v):x=v/\Do v=uJ:=by
 cases d<;>first
  |(cases h;exact⟨r,rfl⟩)
  |cases h
theorem ZER{a:Wd}:∀{c:List D}{xs vs:List V},Reps a c xs->Ie c=uQ vs->xs=vs/\vs.all Do=uJ
 |[],xs,vs,r,h=>by cases h;exact⟨r,rfl⟩
 |d::c,xs,vs,r,h=>by
  obtain⟨x,o,rfl,i,j⟩:=r;unfold Ie at h;split at h
  .rename_i v n e g;cases h;obtain⟨f,k⟩:=ZBL i e;obtain⟨l,m⟩:=ZER j g;subst f;subst l;exact⟨rfl,by rw[jy,k,m];rfl⟩
  cases h
theorem ZLe{a:Wd}(s:Sim a G)(c:Rep a d x)(f:Rep a e y)(h:inD d e G=uQ k):
  (∃i j,x=.str i/\y=.str j/\k= !(jh j i 0 j.length 1).isEmpty)∨(∃p xs,y=.ref p/\(SqL a.K a.H p xs∨SqT a.K a.H p xs)/\Do x=uJ/\xs.all Do=uJ/\k=inV x xs):=by
 have seq:(match Bm e G,Kh d with |some xs,uQ v=>(Ie xs).map λt=>inV v t|_,_=>uZ)=uQ k->(∃p xs,y=.ref p/\(SqL a.K a.H p xs∨SqT a.K a.H p xs)/\Do x=uJ/\xs.all Do=uJ/\k=inV x xs):=λh=>by
  split at h
  .rename_i xs v l n;obtain⟨p,g,m,q,r⟩:=Jm s f l;obtain⟨A,B⟩:=ZBL c n;subst A;rw[zP]at h;obtain⟨C,u,w⟩:=h;obtain⟨o,z⟩:=ZER r u;subst o;exact⟨p,g,m,q,B,z,w.symm⟩
  cases h
 cases e with
 |str j=>
  cases d with
  |str i=>exact .inl ⟨i,j,c,f,(Option.some.inj h).symm⟩
  |_=>cases h
 |tup xs|fl xs|ref i|_=>exact .inr (seq h)
theorem ZDo:OpR X (vW .NotIn) (lR2 X.K E Iz):=Ft (ZJh.or ZHQ) λa G d e x y Q hk s f l q=>by
 unfold Iz at q;split at q
 .rename_i k h;have z:=q a _ (.refl a) s rfl;rcases ZLe s f l h with⟨i,j,c,o,rfl⟩|⟨p,n,c,g,m,r,rfl⟩
  .exact .inl ⟨i,j,c,o,z⟩
  exact .inr ⟨p,n,c,by rw[<-hk];exact g,m,r,z⟩
 exact q.elim
end
theorem ZLL:vX "isinstance"=uQ (.builtin "isinstance"):=by decide +kernel
theorem ZG1:vX "all"=uQ (.builtin "all"):=by decide +kernel
theorem ZNe:vX "sum"=uQ (.builtin "sum"):=by decide +kernel
theorem ZLE:vX "min"=uQ (.builtin "min"):=by decide +kernel
theorem ZI0:vX "len"=uQ (.builtin "len"):=by decide +kernel
theorem ZMk:vX "int"=uQ (.type "int"):=by decide +kernel
theorem ZN7:vX "bool"=uQ (.type "bool"):=by decide +kernel
theorem ZPX:vX "tuple"=uQ (.type "tuple"):=by decide +kernel
theorem ZOB:vX "list"=uQ (.type "list"):=by decide +kernel
noncomputable def Lk:xI->Bool | .local=>uJ|_=>uX
noncomputable def Li:xI->Bool | .cell=>uJ|_=>uX
noncomputable def Lf:xI->Bool | .free=>uJ|_=>uX
noncomputable def isK(p:xI->Bool):Option xI->Bool|some k=>p k|none=>uX
theorem ZPr(h:Lk k=uJ):k=.local:=by cases k<;>first|rfl|cases h
theorem ZJ8(h:Li k=uJ):k=.cell:=by cases k<;>first|rfl|cases h
theorem ZEB(h:Lf k=uJ):k=.free:=by cases k<;>first|rfl|cases h
theorem Sg(hp:∀a,p a=uJ->a=k)(h:isK p o=uJ):o=uQ k:=by
 cases o with
 |none=>cases h
 |some a=>rw[hp _ h]
def Th(dn:List (Str×xI))(N0 N:List Str)(names:List (Str×xI))(nt:Nat)(caps:List Nat):Bool:=
 names.all (λy=>(!Lk y.2||isK Lk (names.lookup y.1)) && !Li y.2&&(!Lf y.2||isK Li (dn.lookup y.1)||isK Lf (dn.lookup y.1)))&&decide N.Nodup&&decide (N.length=nt+caps.length) &&
 (zX caps.length).all λk=>match caps[k]? with
  |some j=>match N0[j]? with
   |some x=>decide (N[nt+k]?=uQ x)&&isK Lf (names.lookup x)
   |none=>uX
  |none=>uJ
theorem Ro{X:Cx}{N0 N:List Str}{a:xM}{nt:Nat}{caps:List Nat}{dn:List (Str×xI)}(hk:a.kind=.function:=by rfl)(f:∀x,X.env.kindOf x=dn.lookup x:=by intro _;rfl)(m:X.N=N0:=by rfl)
  (h:Th dn N0 N a.names nt caps=uJ:=by decide +kernel):CompSc X N a nt caps:=by
 unfold Th at h;rw[zL,zL,zL]at h;obtain⟨⟨⟨g,n⟩,o⟩,l⟩:=h;rw[jP]at g l;have b:=λ(y:Str×xI)(c:y∈a.names)=>(by have:=g y c;rw[zL,zL]at this;exact this:((!Lk y.2||isK Lk (a.names.lookup y.1))=uJ/\(!Li y.2)=uJ)/\(!Lf y.2||isK Li (dn.lookup y.1)||isK Lf (dn.lookup y.1))=uJ)
 refine⟨hk,λy c d=>?_,λy c d=>?_,λy c d=>?_,of_decide_eq_true n,of_decide_eq_true o,λk j i=>?_⟩
 .have:=(b y c).1.1;rw[d]at this;exact Sg (λ_ h=>ZPr h) (by have t:(uX||isK Lk (a.names.lookup y.1))=uJ:=this;simpa using t)
 .have:=(b y c).1.2;rw[d]at this;exact absurd this (by decide)
 .have:=(b y c).2;rw[d,xj]at this;rw[f];rcases this with h|h
  .exact .inl (Sg (λ_ h=>ZJ8 h) (by have t:(uX||isK Li (dn.lookup y.1))=uJ:=h;simpa using t))
  exact .inr (Sg (λ_ h=>ZEB h) h)
 have:=l k (zU.mpr ((zY.mp i).1));rw[i]at this;dsimp only at this;cases e:N0[j]? with
 |none=>rw[e]at this;cases this
 |some x=>
  rw[e]at this;dsimp only at this;rw[zL]at this;exact⟨x,m▸e,of_decide_eq_true this.1,Sg (λ_ h=>ZEB h) this.2⟩
section
section
variable{X:Cx}{vS:List (xE×Obj)}{σ:St}{H:Hp}{s:xN}
theorem ZJy(I:Inv X vS σ H s)(h:H p=uQ (.lst xs)):∃o,Inv X vS σ (upd H p (.frz o (.lst xs))) s:=by
 obtain⟨j,a,n,r,e⟩:=I.hok p _ h;have f:∀b(u:HO),H b=uQ u->u≠ .lst xs->b≠p:=λb u q d z=>by subst z;rw[h]at q;exact d (Option.some.inj q).symm
 refine⟨_,I.un (H':=upd H p (.frz {cls:=.type "list",data:=.seq a.toArray n} (.lst xs))) ⟨λb o q _ _ _=>q,λb o q _ _ _=>⟨o.slots,q⟩,λb o q z _=>?_,λb o q _=>⟨o,q⟩,λb i q=>?_,λb o u q=>?_,λb l q=>⟨#[],?_⟩⟩ ?_⟩
 .rw[Am (λk=>by subst k;rw[h]at z;cases z)];exact z
 .rw[Am (f b _ q (by intro z;cases z))];exact q
 .rw[Am (f b _ q (by intro z;cases z))];exact q
 .rw[Am (f b _ q (by intro z;cases z)),Array.append_empty];exact q
 intro b u q;by_cases g:b=p
 .subst g;rw[Ew]at q;cases q;exact⟨e,j,a,n,r,e⟩
 .rw[Am g]at q;exact(I.hok b u q).stay (λc v _ z=>z) (λc z=>by rw[Am (f c _ z (by intro z;cases z))];exact z) λc i z=>by rw[Am (f c _ z (by intro z;cases z))];exact z
def Fz(P:xE->Prop)(H H':Hp):Prop:=∀p,(H' p=H p/\(∀vs,H p=uQ (.lst vs)->¬P p))∨∃o vs,P p/\H p=uQ (.lst vs)/\H' p=uQ (.frz o (.lst vs))
theorem ZDz(I:Inv X vS σ H s)(m:Nat->xE)(n:Nat):∀k:Nat,∃H',Inv X vS σ H' s/\Fz (λp=>∃i,n<=i/\i<n+k/\p=m i) H H'
 |0=>⟨H,I,λp=>.inl ⟨rfl,λ_ _ ⟨i,g,l,_⟩=>by lia⟩⟩
 | k + 1=>by
  obtain⟨H',r,F⟩:=ZDz I m n k;have f:(∀a,H' (m (n+k))≠uQ (.lst a))->Fz (λp=>∃i,n<=i/\i<n+(k+1)/\p=m i) H H':=λw p=>by
   rcases F p with⟨e,z⟩|⟨o,a,⟨i,g,l,d⟩,b,h⟩
   .refine .inl ⟨e,λa b ⟨i,g,l,d⟩=>?_⟩;by_cases q:i<n+k
    .exact z a b ⟨i,g,q,d⟩
    have:i=n+k:=by lia
    subst this;subst d;exact w a (e.trans b)
   exact .inr ⟨o,a,⟨i,g,by lia,d⟩,b,h⟩
  cases j:H' (m (n+k))with
  |none=>exact⟨H',r,f λa z=>by rw[j]at z;cases z⟩
  | some u=>
   cases u with
   | lst a=>
    obtain⟨o,v⟩:=ZJy r j;refine⟨_,v,λp=>?_⟩;by_cases hp:p=m (n+k)
    .subst hp;rcases F (m (n+k))with⟨e,z⟩|⟨t,c,_,b,h⟩
     .exact .inr ⟨o,a,⟨n+k,by lia,by lia,rfl⟩,e.symm.trans j,Ew⟩
     rw[j]at h;cases h
    rcases F p with⟨e,z⟩|⟨t,c,⟨i,g,l,d⟩,b,h⟩
    .refine .inl ⟨(Am hp)▸e,λc b ⟨i,g,l,d⟩=>?_⟩;by_cases q:i<n+k
     .exact z c b ⟨i,g,q,d⟩
     .have:i=n+k:=by lia
      subst this;exact hp d
    exact .inr ⟨t,c,⟨i,g,by lia,d⟩,b,(Am hp)▸h⟩
   |_=>exact⟨H',r,f λa z=>by rw[j]at z;cases z⟩
end
noncomputable def J1(f:D->Option D):List D->Option (List D)
 |[]=>uQ []
 |d::r=>match f d,J1 f r with
  |some d',uQ r'=>uQ (d'::r')
  |_,_=>uZ
def Fw(G:DH)(n:Nat):Nat->D->Option D
 |0,_=>uZ
 | k+1,d=>if bel n d=uJ then uQ d else match d with
  |.ref i=>match G[i]? with
   |some (.lst xs)=>(J1 (Fw G n k) xs).map .fl
   |_=>uZ
  |.tup xs=>(J1 (Fw G n k) xs).map .tup
  |.fl xs=>(J1 (Fw G n k) xs).map .fl
  |_=>uZ
open Classical in
def freeze(G:DH)(r:R D):R D:=match r with
 | .ok d G'=>if G'.take G.length=G then(match Fw G' G.length 9 d with
   |some d'=>.ok d' G
   |none=>.ok d G')else .ok d G'
 |r=>r
def Aj(t:DE):DE:=λS G=>freeze G (t S G)
structure CutF (b c:Wd) (n:Nat):Prop where
 k:c.K=b.K
 n:c.n=n
 m:c.m=b.m
 tup:∀p xs,b.H p=uQ (.tup xs)->c.H p=uQ (.tup xs)
 frz:∀p o u,b.H p=uQ (.frz o u)->c.H p=uQ (.frz o u)
theorem CutF.sqT{b c:Wd}{n:Nat}(x:CutF b c n){p:xE}{xs:List V}(h:SqT b.K b.H p xs):SqT c.K c.H p xs:=by
 rcases h with(h|⟨o,h⟩)|h
 .exact .inl (.inl (x.tup _ _ h))
 .exact .inl (.inr ⟨o,x.frz _ _ _ h⟩)
 exact .inr (x.k▸h)
theorem CutF.fzL{b c:Wd}{n:Nat}(x:CutF b c n){p:xE}{xs:List V}(h:FzL b.K b.H p xs):FzL c.K c.H p xs:=by
 rcases h with⟨o,h⟩|⟨e,h⟩
 .exact .inl ⟨o,x.frz _ _ _ h⟩
 exact .inr ⟨e,x.k▸h⟩
mutual
theorem Rep.Hb(x:CutF b c n):∀{d:D}{v:V},Rep b d v->bel n d=uJ->Rep c d v
 |.non,_,h,_=>h
 |.bl _,_,h,_=>h
 |.int _,_,h,_=>h
 |.str _,_,h,_=>h
 |.ty _,_,h,_=>h
 |.tup g,v,h,q=>by obtain⟨p,a,e,t,r⟩:=h;simp only[_D.bel]at q;exact⟨p,a,e,x.sqT t,Reps.Hb x r q⟩
 |.fl g,v,h,q=>by obtain⟨p,a,e,t,r⟩:=h;simp only[_D.bel]at q;exact⟨p,a,e,x.fzL t,Reps.Hb x r q⟩
 |.ref i,v,h,q=>by obtain⟨l,e⟩:=h;simp only[_D.bel]at q;have f:=of_decide_eq_true q;exact⟨by rw[x.n];exact f,by rw[x.m];exact e⟩
theorem Reps.Hb(x:CutF b c n):∀{ds:List D}{vs:List V},Reps b ds vs->bels n ds=uJ->Reps c ds vs
 |[],_,h,_=>h
 |d::ds,vs,h,q=>by obtain⟨v,r,e,f,a⟩:=h;simp only[_D.bels,zL]at q;exact⟨v,r,e,Rep.Hb x f q.1,Reps.Hb x a q.2⟩
end
theorem Rx(g:∀d d' v,f d=uQ d'->Rep b d v->Rep c d' v):∀{ds a:List D}{vs:List V},J1 f ds=uQ a->Reps b ds vs->Reps c a vs
 |[],a,vs,e,h=>by cases e;exact h
 |d::ds,a,vs,e,h=>by
  obtain⟨v,r,rfl,l,j⟩:=h;unfold J1 at e;split at e
  .rename_i d' m i k;cases e;exact⟨v,r,rfl,g _ _ _ i l,Rx g k j⟩
  cases e
theorem ZBm(s:Sim b G')(x:CutF b c n)(hz:∀i,n<=i->i<b.n->∀vs,b.H (b.m i)=uQ (.lst vs)->∃o,c.H (b.m i)=uQ (.frz o (.lst vs))):∀(k:Nat)(d d':D)(v:V),Fw G' n k d=uQ d'->Rep b d v->Rep c d' v
 |0,d,d',v,e,h=>by cases e
 | k+1,d,d',v,e,h=>by
  have g:=ZBm s x hz k;unfold Fw at e;split at e
  .rename_i f;cases e;exact h.Hb x f
  rename_i f;cases d with
  | ref i=>
   dsimp only at e;split at e
   .rename_i l z;rw[zP]at e;obtain⟨j,a,rfl⟩:=e;obtain⟨vs,y,w⟩:=s.obj i _ z;obtain⟨u,rfl⟩:=h;have q:n<=i:=by simp[_D.bel,decide_eq_true_eq]at f;lia
    obtain⟨o,A⟩:=hz i q u vs y;exact⟨_,vs,rfl,.inl ⟨o,A⟩,Rx g a w⟩
   cases e
  |tup l=>
   dsimp only at e;rw[zP]at e;obtain⟨j,a,rfl⟩:=e;obtain⟨p,vs,rfl,t,r⟩:=h;exact⟨p,vs,rfl,x.sqT t,Rx g a r⟩
  |fl l=>
   dsimp only at e;rw[zP]at e;obtain⟨j,a,rfl⟩:=e;obtain⟨p,vs,rfl,t,r⟩:=h;exact⟨p,vs,rfl,x.fzL t,Rx g a r⟩
  |_=>cases e
theorem ZGm{X:Cx}{vS:List (xE×Obj)}{Z:St}{sh:xN}{a b:Wd}{G O:DH}(s:Sim a G)(hG:O.take G.length=G)(x:Ext a b)(J:Sim b O)(I:Inv X vS Z b.H sh):
  ∃c:Wd,Inv X vS Z c.H sh/\Ext a c/\Sim c G/\CutF b c a.n/\∀(k:Nat)(d d':D)(v:V),Fw O G.length k d=uQ d'->Rep b d v->Rep c d' v:=by
 have L:∀i o,G[i]?=uQ o->O[i]?=uQ o:=λi o e=>by have w:=(zY.mp e).1;rw[<-hG,qz w]at e;exact e
 obtain⟨r,I',F⟩:=ZDz I b.m a.n (b.n-a.n);have S:a.n+(b.n-a.n)=b.n:=by have:=x.n;lia
 rw[S]at F;have P:∀p(u:HO),(∀g,u≠ .lst g)->b.H p=uQ u->r p=uQ u:=λp u nu e=>by
  rcases F p with⟨f,_⟩|⟨o,g,_,f,_⟩
  .exact f.trans e
  rw[e]at f;exact absurd (Option.some.inj f) (nu g)
 have l:∀p,TabOk b.H p->TabOk r p:=λp t=>t.mono (λp ps e=>P p _ (by intro _ z;cases z) e) λp o u e=>P p _ (by intro _ z;cases z) e
 have h:CutF b ⟨b.K,a.n,b.m,r⟩ a.n:=⟨rfl,rfl,rfl,λp U e=>P p _ (by intro _ z;cases z) e,λp o u e=>P p _ (by intro _ z;cases z) e⟩;have B:∀i,i<a.n->r (b.m i)=b.H (b.m i):=λi w=>by
  rcases F (b.m i)with⟨f,_⟩|⟨o,g,⟨j,h1,Q,h3⟩,f,M⟩
  .exact f
  have:=J.inj i j (zq w x.n) Q h3;lia
 refine⟨⟨b.K,a.n,b.m,r⟩,I',⟨x.k,zx _,x.m,λp U e=>h.tup p U (x.tup p U e),λp o u e=>h.frz p o u (x.frz p o u e),λp t=>l p (x.tab p t)⟩,⟨s.len,λi j w hj=>J.inj i j (zq w x.n) (zq hj x.n),λi o e=>?_,λi w=>?_⟩,h,λk d d' v Y rb=>?_⟩
 .show ORep ⟨b.K,a.n,b.m,r⟩ o (r (b.m i));rw[B i (s.lt e)];have q:=J.obj i o (L i o e);have N:=(s.obj i o e).Jg;cases o with
  |lst ds=>obtain⟨g,f,y⟩:=q;exact⟨g,f,y.Hb h N⟩
  |dct kvs=>obtain⟨E,f,A,y⟩:=q;exact⟨E,f,A,y.Hb h N⟩
  |ins c fs=>obtain⟨C,T,E,W,f,A,y⟩:=q;exact⟨C,T,E,W,f,A,y.Hb h N⟩
  |tab C m=>obtain⟨c1,P1,f,t1⟩:=q;exact⟨c1,P1,f,l _ t1⟩
  |exc c fs=>
   obtain⟨C,oe,u,g,W,f,A,k2,z⟩:=q;refine⟨C,oe,u,g,W,f,A,k2,?_⟩;rcases z with z|⟨T,o,E,M,f2,k3,y⟩
   .exact .inl z
   exact .inr ⟨T,o,E,M,h.frz _ _ _ f2,k3,y.Hb h N⟩
  |gone=>trivial
 .show r (b.m i)≠uZ;rw[B i w];exact J.tr i (zq w x.n)
 rw[s.len]at Y;refine ZBm J h (λi h1 Q g e=>?_) k d d' v Y rb;rcases F (b.m i)with⟨f,z⟩|⟨o,vs',_,f,M⟩
 .exact absurd ⟨i,h1,Q,rfl⟩ (z g e)
 rw[e]at f;cases f;exact⟨o,M⟩
theorem ZPR(s:Sim a G)(h:out E a (freeze G r) Q):
  out E a r λv H=>∀(vS:List (xE×Obj))(g:St)(j:xN),Inv X vS g H j->∃H',Inv X vS g H' j/\Q v H':=by
 cases r with
 | ok d n=>
  intro b v x f i vS g j I;unfold freeze at h;dsimp only at h;split at h
  .rename_i m;split at h
   .rename_i t l;obtain⟨c,k,q,p,u,o⟩:=ZGm s m x f I;exact⟨c.H,k,h c v q p (o _ _ _ _ l i)⟩
   exact⟨_,I,h b v x f i⟩
  exact⟨_,I,h b v x f i⟩
 |_=>exact h
theorem ZGe(k:QE X E e t):QE X E e (Aj t):=λb s d H Q I h=>by
 obtain⟨a,S,G,hk,rfl,c,r,h⟩:=h;refine thn (k b s d a.H _ I ⟨a,S,G,hk,rfl,c,r,ZPR (X:=X) c h⟩) λu j zz=>?_
 obtain⟨v,m,g,rv,q⟩:=zz;obtain⟨i,f,l⟩:=q b d j g;exact⟨v,i,f,rv,l⟩
theorem ZFS{X:Cx}{E:XK}{st:xO}{t:DE}{i:Nat}(Y:QS X E st (sAs t (gV i))):QS X E st (sAs (Aj t) (gV i)):=λg s o H W I h=>by
 obtain⟨a,S,G,hk,rfl,J,r,h⟩:=h;have Q:Bt E a (sAs t (gV i) S G) {W with nx:=λo H=>∀(g:List (xE×Obj))(F:xN),Inv X g o H F->∃C,Inv X g o C F/\W.nx o C}:=by
  unfold sAs Aj at h;unfold sAs;cases B:t S G with
  | ok d U=>
   rw[B]at h;intro b k x A n g F I;unfold freeze at h;dsimp only at h;split at h
   .rename_i hG;split at h
    .rename_i d' L;obtain⟨c,K,xc,N,cc,M⟩:=ZGm J hG x A I;refine⟨c.H,K,h c k xc N ⟨?_,λj e l=>?_⟩⟩
     .rw[qH,<-n.len,qH]
     rw[j0]at l;by_cases m:i=j
     .subst m;rw[if_pos rfl]at l;by_cases y:i<S.length
      .rw[if_pos y]at l;have Z:d'=e:=by simpa using l
       subst Z;obtain⟨v,w,rv⟩:=n.get i d (by rw[j0,if_pos rfl,if_pos y]);exact⟨v,w,M _ _ _ _ L rv⟩
      rw[if_neg y]at l;cases l
     .rw[if_neg m]at l;obtain⟨v,w,rv⟩:=n.get j e (by rw[j0,if_neg m];exact l);obtain⟨v',_,z⟩:=r.get j e l;exact⟨v,w,rv.Hb cc z.bel⟩
    exact⟨_,I,h b k x A n⟩
   exact⟨_,I,h b k x A n⟩
  |_=>rw[B]at h;exact h
 refine thn (Y g s o a.H _ I ⟨a,S,G,hk,rfl,J,r,Q⟩) λf T p=>?_
 cases f with
 |next=>
  obtain⟨k,C,I',q⟩:=p;obtain⟨H2,P,O⟩:=q g T I';exact⟨k,H2,P,O⟩
 |_=>exact p
end
section
variable{S:DSt}{G:DH}
@[simp]theorem ev_V:dV i S G=(match S[i]? with |some (uQ d)=>.ok d G|_=>.bad):=id rfl
@[simp]theorem ev_C:dC d S G=.ok d G:=id rfl
@[simp]theorem ev_Op:dOp f a b S G=(a S G).bind λx e=>(b S e).bind λy d=>f x y d:=id rfl
@[simp]theorem ev_Un:dUn f a S G=(a S G).bind f:=id rfl
@[simp]theorem ev_Nil:Ac S G=.ok [] G:=id rfl
@[simp]theorem ZQ6:Aa a r S G=(a S G).bind λx d=>(r S d).bind λxs b=>.ok (x::xs) b:=id rfl
@[simp]theorem ev_Fn:dFn f t S G=(t S G).bind f:=id rfl
@[simp]theorem ZQT:Bl t S G=tidy G (t S G):=id rfl
@[simp]theorem ev_Frz:Aj t S G=freeze G (t S G):=id rfl
@[simp]theorem ev_asB:asB (.bl k) G=.ok k G:=id rfl
@[simp]theorem ev_Tst:Ak t S G=(t S G).bind asB:=id rfl
@[simp]theorem ev_And:Gm t u S G=(t S G).bind λk a=>if k=uJ then u S a else .ok uX a:=id rfl
@[simp]theorem ev_Or:dOr t u S G=(t S G).bind λk a=>if k=uJ then .ok uJ a else u S a:=id rfl
@[simp]theorem ev_Not:Fp t S G=(t S G).bind λk a=>.ok (!k) a:=id rfl
@[simp]theorem ZQx:Nm t u S G=(t S G).bind λx b=>(asB x b).bind λk a=>if k=uJ then u S a else .ok (.bl uX) a:=id rfl
@[simp]theorem ZQa:Rz t S G=(t S G).bind λx b=>(asB x b).bind λk a=>.ok (.bl (!k)) a:=id rfl
@[simp]theorem ev_If:dIf c t u S G=(c S G).bind λk a=>if k=uJ then t S a else u S a:=id rfl
@[simp]theorem ZQy:Nz f g a b c S G=(a S G).bind λx e=>(b S e).bind λy m=>(f x y m).bind λz h=>(asB z h).bind λk d=>
 if k=uJ then(c S d).bind λw o=>g y w o else .ok (.bl uX) d:=id rfl
@[simp]theorem ev_sNx:sNx S G=.nx S G:=id rfl
noncomputable def SR.then(u:DS)(_:Fx u:=())(r:SR):SR:=match r with
 |.nx S1 G1=>u S1 G1
 |r=>r
@[simp]theorem S6:Af t u S G=(t S G).then u:=id rfl
@[simp]theorem Qv:(SR.nx S G).then u=u S G:=id rfl
@[simp]theorem ZQt:(SR.rt d G).then u=.rt d G:=id rfl
@[simp]theorem ev_sEx:sEx t S G=(t S G).toS λ_ a=>.nx S a:=id rfl
@[simp]theorem ev_sRt:sRt t S G=(t S G).toS λd a=>.rt d a:=id rfl
@[simp]theorem ev_sIf:sIf c t u S G=(c S G).toS λk a=>if k=uJ then t S a else u S a:=id rfl
@[simp]theorem ev_sAs:sAs t g S G=(t S G).toS λd b=>(g d S b).toS λe a=>.nx e a:=id rfl
@[simp]theorem ZLt:Cd it g b S G=(it S G).toS λJ a=>(match J with
 |.pure xs=>Bc g b xs S a
 |.mt i=>match a[i]? with
  |some (.lst xs)=>forM i g b xs.length 0 S a
  |_=>.bad
 |.fn n f=>Cv f g b n 0 S a):=id rfl
@[simp]theorem ZKH:Dt t S G=(t S G).bind Ei:=id rfl
@[simp]theorem ZQQ:Bg f t S G=(t S G).bind f:=id rfl
@[simp]theorem Eb:gV i d S G=.ok (S.set i (uQ d)) G:=id rfl
@[simp]theorem ZQi:Bs [] S G=.ok S G:=id rfl
@[simp]theorem ZQv:Al t u (d::r) S G=(t d S G).bind λb a=>u r b a:=id rfl
@[simp]theorem ZQP:Bp n t (.tup ds) S G=if ds.length=n then t ds S G else .bad:=id rfl
@[simp]theorem ev_gIx:gIx o i v S G=(o S G).bind λo b=>(i S b).bind λi a=>(Gd o i v a).bind λ_ d=>.ok S d:=id rfl
@[simp]theorem ev_MtL:Dj f o t S G=(o S G).bind λx a=>if isL x a=uJ then(t S a).bind λxs b=>f x xs b else .bad:=id rfl
@[simp]theorem ZQg:Bv it nt caps g c te S G=(it S G).bind λJ a=>(match J with
 |.pure xs=>Bo g c te (Bh nt caps S) xs a
 |.mt i=>match a[i]? with
  |some (.lst xs)=>Ek i g c te (Bh nt caps S) xs.length 0 a
  |_=>.bad
 |.fn n f=>Dl f g c te (Bh nt caps S) n 0 a).bind Ah:=id rfl
@[simp]theorem Ju:Ar S G=.ok uJ G:=id rfl
@[simp]theorem Fq:aft (.nx S G) k=k S G:=id rfl
@[simp]theorem aft_rt:aft (.rt d G) k=.rt d G:=id rfl
theorem Gq:Bc g b [] S G=.nx S G:=id rfl
theorem Eg:Bc g b (x::xs) S G=(g x S G).toS λd a=>aft (b d a) (Bc g b xs):=id rfl
theorem Gz:Bo g c te S (x::xs) G=(g x S G).bind λb e=>(c b e).bind λk a=>
   if k=uJ then(te b a).bind λd f=>(Bo g c te S xs f).bind λh m=>.ok (d::h) m else Bo g c te S xs a:=id rfl
noncomputable def SR.ret(r:SR):R D:=match r with
 |.nx _ G'=>.ok .non G'
 |.rt d G'=>.ok d G'
 |.err x G'=>.err x G'
 |_=>.bad
@[simp]theorem ret_nx:(SR.nx S G).ret=.ok .non G:=id rfl
@[simp]theorem ret_rt:(SR.rt d G).ret=.ok d G:=id rfl
theorem Aw:Ba np nl b ds G=if ds.length=np then tidy G (b (ds.map uQ++zQ nl uZ) G).ret else .bad:=id rfl
end
section
variable{n:Nat}{G:DH}
@[simp]theorem ZQW:bel n .non=uJ:=by simp[_D.bel]
@[simp]theorem bel_bl:bel n (.bl b)=uJ:=by simp[_D.bel]
@[simp]theorem ZJL:bel n (.int b)=uJ:=by simp[_D.bel]
@[simp]theorem ZQr:bel n (.str b)=uJ:=by simp[_D.bel]
@[simp]theorem ZMw:bel n (.tup b)=bels n b:=by simp[_D.bel]
@[simp]theorem bel_fl:bel n (.fl b)=bels n b:=by simp[_D.bel]
@[simp]theorem ZQl:bel n (.ref b)=decide (b<n):=by simp[_D.bel]
@[simp]theorem ZQu:bels n []=uJ:=by simp[_D.bels]
@[simp]theorem ZPC:bels n (d::ds)=(bel n d&&bels n ds):=by simp[_D.bels]
theorem ZM0:bels n ds=uJ↔∀d∈ds,bel n d=uJ:=by
 induction ds with
 |nil=>simp
 |cons d ds a=>simp[a]
theorem Fj{a:Type}{f:a->D}{xs:List a}(h:∀x∈xs,bel n (f x)=uJ):bels n (xs.map f)=uJ:=by rw[ZM0];intro d b;obtain⟨x,e,rfl⟩:=qY.mp b;exact h x e
@[simp]theorem Dc{xs:List Int}:bels n (xs.map D.int)=uJ:=Fj λ_ _=>ZJL
theorem Bw(h:bel G.length d=uJ):tidy G (.ok d G)=.ok d G:=by unfold tidy;simp[h]
theorem Jo(h:bel G.length d=uJ):tidy G (.ok d (G++L))=.ok d G:=by unfold tidy;simp[h]
theorem Xr(L:DH)(hk:L[k]?=uQ (.lst ds))(h:bels G.length ds=uJ):tidy G (.ok (.ref (G.length+k)) (G++L))=.ok (.ref G.length) (G++[.lst ds]):=by
 unfold tidy;have e:(G++L)[G.length+k]?=uQ (.lst ds):=by rw[zD (by lia)];simpa using hk
 simp[e,Jg,h]
theorem Dp{ds:List D}{L:DH}(h:bels G.length ds=uJ):tidy G (.ok (.ref G.length) (G++ .lst ds::L))=.ok (.ref G.length) (G++[.lst ds]):=Xr (.lst ds::L) (k:=0) rfl h
theorem Kg(h:bel G.length d=uJ):freeze G (.ok d G)=.ok d G:=by unfold freeze;simp[h,Fw]
theorem ZFd{n:Nat}:∀{a:List D},bels n a=uJ->J1 (Fw G' n (k+1)) a=uQ a
 |[],_=>rfl
 |d::a,h=>by simp[ZPC,zL]at h;unfold J1;rw[ZFd h.2];simp[Fw,h.1]
theorem ZCD(L:DH)(hk:L[k]?=uQ (.lst ds))(h:bels G.length ds=uJ):freeze G (.ok (.ref (G.length+k)) (G++L))=.ok (.fl ds) G:=by
 unfold freeze;have e:(G++L)[G.length+k]?=uQ (.lst ds):=by rw[zD (by lia)];simpa using hk
 have m:Fw (G++L) G.length 9 (.ref (G.length+k))=uQ (.fl ds):=by unfold Fw;simp[e,ZFd h]
 simp[m]
theorem Bk{ds:List D}{L:DH}(h:bels G.length ds=uJ):freeze G (.ok (.ref G.length) (G++ .lst ds::L))=.ok (.fl ds) G:=ZCD (.lst ds::L) (k:=0) rfl h
theorem Gp(L:DH)(k:Nat):(G++L)[G.length+k]?=L[k]? :=by rw[zD (by lia)];simp
theorem Eo(L:DH):(G++L)[G.length]?=L[0]? :=Gp L 0
theorem Ip(L:DH)(k:Nat)(o:DO):(G++L).set (G.length+k) o=G++L.set k o:=by rw[List.set_append_right _ _ (by lia)];simp
theorem Fi(L:DH)(o:DO):(G++L).set G.length o=G++L.set 0 o:=Ip L 0 o
theorem Hu{a:Int}:Ay a 0=[]:=id rfl
theorem Gu{a:Int}{n:Nat}:Ay a (n+1)=.int a::Ay (a+1) n:=by
 unfold Ay;rw[qM,zK,q8]
 congr 1
 .simp
 apply jJ;intro k _;simp only[Function.comp]
 congr 1
 lia
end
section
variable{G:DH}{i j:Int}{x y:Str}{k l:Bool}
@[simp]theorem ev_add:Ai (.int i) (.int j) G=.ok (.int (i+j)) G:=id rfl
@[simp]theorem Pb:Ai (.str x) (.str y) G=if x.length+y.length<=1000000 then .ok (.str (x++y)) G else .bad:=id rfl
@[simp]theorem ZQV:Ai (.tup xs) (.tup ys) G=if xs≠[]/\xs.length+ys.length<=1000000 then .ok (.tup (xs++ys)) G else .bad:=id rfl
@[simp]theorem ev_ip:Kw (.int i) (.int j) G=.ok (.int (i+j)) G:=id rfl
@[simp]theorem ev_sub:Di (.int i) (.int j) G=.ok (.int (i-j)) G:=id rfl
theorem ZOI{n:Nat}(h:0<n)(a:n.log2<9000):Fl (.int i) (.int (n:Int)) G=.ok (.int (i/n)) G:=if_pos ⟨by lia,a⟩
theorem log2_small(h:n<10^100):n.log2<9000:=by
 by_cases a:n=0
 .subst a;decide
 rw[Nat.log2_lt a];exact Nat.lt_trans h (by decide)
@[simp]theorem ZQ4{n:Nat}[NeZero n](h:n<10^100):Fl (.int i) (.int (no_index (OfNat.ofNat n))) G=.ok (.int (i/OfNat.ofNat n)) G:=
 if_pos ⟨Int.ofNat_lt.mpr (Nat.pos_of_ne_zero (NeZero.ne n)),log2_small h⟩
@[simp]theorem ev_mod:Ex (.int i) (.int j) G=if 0<j then .ok (.int (i%j)) G else .bad:=id rfl
@[simp]theorem ev_pow:Ka (.int i) (.int j) G=if 0<=j/\j<=1000000/\i.natAbs<18446744073709551616 then .ok (.int (i^j.toNat)) G else .bad:=id rfl
@[simp]theorem ev_lt:Ht (.int i) (.int j) G=.ok (.bl (decide (i<j))) G:=id rfl
@[simp]theorem ev_le:Ph (.int i) (.int j) G=.ok (.bl (decide (i<=j))) G:=id rfl
@[simp]theorem ev_gt:Gg (.int i) (.int j) G=.ok (.bl (decide (j<i))) G:=id rfl
@[simp]theorem ev_ge:Ma (.int i) (.int j) G=.ok (.bl (decide (j<=i))) G:=id rfl
@[simp]theorem ev_eq:Bx (.int i) (.int j) G=.ok (.bl (decide (i=j))) G:=id rfl
@[simp]theorem ev_ne:Gn (.int i) (.int j) G=.ok (.bl (!decide (i=j))) G:=id rfl
@[simp]theorem ev_eqS:Bx (.str x) (.str y) G=.ok (.bl (decide (x=y))) G:=id rfl
@[simp]theorem ev_neg:H7 (.int i) G=.ok (.int (-i)) G:=id rfl
@[simp]theorem ev_is:Io d .non G=.ok (.bl (Du d)) G:=by cases d<;>exact id rfl
@[simp]theorem ZQ0:O4 d .non G=.ok (.bl (!Du d)) G:=by cases d<;>exact id rfl
@[simp]theorem ev_min:K3 [.int i,.int j] G=.ok (.int (min i j)) G:=by
 show R.ok (D.int (if j<i then j else i)) G=_
 congr 2
 split <;> lia
@[simp]theorem ZQm:Bm (.tup ds) G=uQ ds:=id rfl
@[simp]theorem ZQM:Bm (.fl ds) G=uQ ds:=id rfl
@[simp]theorem ZAj:Bm (.ref n) G=(match G[n]? with |some (.lst xs)=>uQ xs|_=>uZ):=id rfl
@[simp]theorem ZQK:Bb [.tup ds] G=.ok (.int ds.length) G:=id rfl
@[simp]theorem ZQX:Bb [.fl ds] G=.ok (.int ds.length) G:=id rfl
@[simp]theorem Qs:Bb [.ref n] G=(match G[n]? with |some (.lst xs)=>.ok (.int xs.length) G|_=>.bad):=by
 unfold Bb;simp[ZAj];cases G[n]? with
 |none=>rfl
 |some o=>cases o<;>rfl
@[simp]theorem ZLZ:Ae (.tup ds) (.int i) G=(match atI ds i with |some v=>.ok v G|none=>.bad):=id rfl
@[simp]theorem ev_ixF:Ae (.fl ds) (.int i) G=(match atI ds i with |some v=>.ok v G|none=>.bad):=id rfl
@[simp]theorem Oz:Ae (.ref n) (.int i) G=(match G[n]? with |some (.lst xs)=>(match atI xs i with |some v=>.ok v G|none=>.bad)|_=>.bad):=by
 unfold Ae;simp[ZAj];cases G[n]? with
 |none=>rfl
 |some o=>cases o<;>rfl
theorem Tc{n k:Nat}(h:k<n):ixN n (k:Int)=uQ k:=by unfold ixN;rw[if_pos (by lia),if_pos (by lia)];simp
theorem ZOy{a:Type}{xs:List a}{k:Nat}{d:a}(h:xs[k]?=uQ d):atI xs (k:Int)=uQ d:=by unfold atI;rw[Tc (zY.mp h).1];exact h
theorem Dg{a:Type}{xs:List a}{j:Int}{k:Nat}{d:a}(e:j=k)(h:xs[k]?=uQ d):atI xs j=uQ d:=by subst e;exact ZOy h
theorem Pq{a:Type}{xs:List a}{j:Int}(b:0<=j)(h:j<xs.length):atI xs j=uQ (xs[j.toNat]'(by lia)):=
 Dg (by lia) (zJ (by lia))
@[simp]theorem atI_0{b:Type}{a:b}{xs:List b}:atI (a::xs) 0=uQ a:=Dg rfl rfl
@[simp]theorem atI_1{d:Type}{a b:d}{xs:List d}:atI (a::b::xs) 1=uQ b:=Dg rfl rfl
@[simp]theorem atI_2{d:Type}{a b c:d}{xs:List d}:atI (a::b::c::xs) 2=uQ c:=Dg rfl rfl
@[simp]theorem atI_3{e:Type}{a b c d:e}{xs:List e}:atI (a::b::c::d::xs) 3=uQ d:=Dg rfl rfl
@[simp]theorem atI_4{f:Type}{a b c d e:f}{xs:List f}:atI (a::b::c::d::e::xs) 4=uQ e:=Dg rfl rfl
@[simp]theorem atI_6{h:Type}{a b c d e f g:h}{xs:List h}:atI (a::b::c::d::e::f::g::xs) 6=uQ g:=Dg rfl rfl
@[simp]theorem ZQw:Az ds G=if ds.length<=1000000 then .ok (.tup ds) G else .bad:=id rfl
@[simp]theorem ZQL:Ah ds G=if ds.length<=1000000 then .ok (.ref G.length) (G++[.lst ds])else .bad:=id rfl
@[simp]theorem ZQ2:Df [.fl ds] G=.ok (.tup ds) G:=id rfl
@[simp]theorem ZQk:Df [.ref n] G=(match G[n]? with |some (.lst xs)=>.ok (.tup xs) G|_=>.bad):=by
 unfold Df;simp[ZAj];cases G[n]? with
 |none=>rfl
 |some o=>cases o<;>rfl
@[simp]theorem ev_itT:Ei (.tup ds) G=.ok (.pure ds) G:=id rfl
@[simp]theorem ev_itF:Ei (.fl ds) G=.ok (.pure ds) G:=id rfl
@[simp]theorem ZQ1:rng1 [.int j] G=if inR j then .ok (.pure (Ay 0 j.toNat)) G else .bad:=id rfl
theorem Ge(a: -1000000000<=i)(h:i<=1000000000):inR i:=⟨by lia,by lia⟩
@[simp]theorem ZQ3:isL (.ref n) G=(match G[n]? with |some (.lst _)=>uJ|_=>uX):=id rfl
@[simp]theorem ZFZ:Cp (.ref n) [d] G=(match G[n]? with |some (.lst xs)=>if xs.length<1000000 then .ok .non (G.set n (.lst (xs++[d])))else .bad|_=>.bad):=id rfl
@[simp]theorem Jv:Gd (.ref n) (.int i) d G=(match G[n]? with |some (.lst xs)=>(match ixN xs.length i with |some j=>.ok .non (G.set n (.lst (xs.set j d)))|none=>.bad)|_=>.bad):=id rfl
@[simp]theorem ZIi{ks:List Bool}:Iu [.fl (ks.map D.bl)] G=.ok (.bl (ks.all id)) G:=by simp[Iu]
@[simp]theorem Va{ks:List Int}:Gi [.fl (ks.map D.int)] G=.ok (.int ks.sum) G:=by simp[Gi]
@[simp]theorem ZQU:Em [d,.ty "int"] G=(match tyD G d with |some .int=>.ok (.bl uJ) G|some .bl=>.ok (.bl uJ) G|some _=>.ok (.bl uX) G|none=>.bad):=by
 unfold Em;dsimp only;cases tyD G d with
 |none=>rfl
 |some t=>cases t<;>rfl
@[simp]theorem ZQz:Em [d,.ty "bool"] G=(match tyD G d with |some .bl=>.ok (.bl uJ) G|some _=>.ok (.bl uX) G|none=>.bad):=by
 unfold Em;dsimp only;cases tyD G d with
 |none=>rfl
 |some t=>cases t<;>rfl
@[simp]theorem ZQR:Em [d,.ty "tuple"] G=(match tyD G d with |some .tup=>.ok (.bl uJ) G|some _=>.ok (.bl uX) G|none=>.bad):=by
 unfold Em;dsimp only;cases tyD G d with
 |none=>rfl
 |some t=>cases t<;>rfl
@[simp]theorem ZQS:Em [d,.ty "list"] G=(match tyD G d with |some .lst=>.ok (.bl uJ) G|some _=>.ok (.bl uX) G|none=>.bad):=by
 unfold Em;dsimp only;cases tyD G d with
 |none=>rfl
 |some t=>cases t<;>rfl
end
section
variable{c:Prop}[Decidable c]
@[simp]theorem ite_ok{d:Type}{a b:d}:(if c then R.ok a G else R.ok b G)=R.ok (if c then a else b) G:=by split <;> rfl
end
section
variable{X:Cx}{E:XK}
end
section
variable{S:DSt}{G:DH}{n:Nat}{kvs:List (Key×D)}
end
def cutD{α:Type}(xs:List α)(lo hi:Option Int):List α:=(xs.drop (HT.sIx xs.length 0 lo)).take (HT.sIx xs.length xs.length hi-HT.sIx xs.length 0 lo)
def Ii(z:Str)(lo hi:Option Int):Str:=⟨(cutD z.cps.toList lo hi).toArray⟩
theorem ZQe{b:Type}(xs:List b)(a c:Option Int):(cutD xs a c).length<=xs.length:=by unfold cutD;rw[qR,jX];lia
def K8(t:Option DE)(S:DSt)(G:DH):R (Option Int):=match t with
 |none=>.ok uZ G
 |some t=>(t S G).bind λd G1=>match d with
  |.int i=>.ok (uQ i) G1
  |_=>.bad
def G9(d:D)(lo hi:Option Int)(G:DH):R D:=match d with
 |.str z=>if z.length<=1000000 then .ok (.str (Ii z lo hi)) G else .bad
 |.tup xs=>.ok (.tup (cutD xs lo hi)) G
 |d=>match Ep d G with
  |some xs=>.ok (.ref G.length) (G++[.lst (cutD xs lo hi)])
  |none=>.bad
def dSl(e:DE)(lo hi:Option DE):DE:=λS G=>(e S G).bind λd G1=>(K8 lo S G1).bind λl G2=>(K8 hi S G2).bind λh G3=>G9 d l h G3
theorem Ja(n:Nat)(v:Int):((HT.sIx n n (uQ v):Nat):Int)=max 0 (min (if v<0 then v+(n:Int)else v) n)/\((HT.sIx n 0 (uQ v):Nat):Int)=max 0 (min (if v<0 then v+(n:Int)else v) n):=by
 unfold HT.sIx;by_cases a:v<0
 .simp[if_pos a];lia
 simp[if_neg a];lia
theorem ZKm(xs:Array Nat)(i k:Nat):(zX k).filterMap (λm=>xs[i+m]?)=(xs.toList.drop i).take k:=by
 induction k generalizing i with
 |zero=>simp
 | succ k d=>
  rw[qM,qE];have e:(List.map Nat.succ (.range k)).filterMap (λm=>xs[i+m]?)=(zX k).filterMap (λm=>xs[i+1+m]?):=by
   rw[jz]
   congr 1
   funext m;simp[Function.comp]
   congr 1
   lia
  rw[e,d (i+1)];by_cases b:i<xs.size
  .have a:xs[i+0]?=uQ xs[i]:=by simp[b]
   rw[a];have c:xs.toList.drop i=xs[i]::xs.toList.drop (i+1):=by rw[qy (by simpa using b)];simp
   rw[c];simp
  have a:xs[i+0]?=uZ:=by simp;lia
  rw[a];simp only;rw[q7 (by simp;lia),q7 (by simp;lia)];simp
theorem ZH9(x:Str)(c b:Option Int):Txt.slice x c b=Ii x c b:=by
 have d:x.length=x.cps.toList.length:=by simp[Str.length]
 have m:(qb c b 1 x.length).filterMap (x.cps[·]?)=cutD x.cps.toList c b:=by
  have n:∀(v:Option Int),(match v with |none=>(0:Int)|some i=>max 0 (min (if i<0 then i+(x.length:Int)else i) x.length))=((HT.sIx x.length 0 v:Nat):Int):=λv=>by
   cases v with
   |none=>rfl
   |some i=>exact(Ja x.length i).2.symm
  have p:∀(v:Option Int),(match v with |none=>(x.length:Int)|some i=>max 0 (min (if i<0 then i+(x.length:Int)else i) x.length))=((HT.sIx x.length x.length v:Nat):Int):=λv=>by
   cases v with
   |none=>rfl
   |some i=>exact(Ja x.length i).1.symm
  have l:qb c b 1 x.length=sliceRange ((HT.sIx x.length 0 c:Nat):Int) ((HT.sIx x.length x.length b:Nat):Int) 1:=by
   rw[<-n c,<-p b];unfold qb
   cases c<;>cases b<;>simp
  rw[l];unfold sliceRange cutD;rw[jz,<-d];generalize HT.sIx x.length 0 c=i;generalize HT.sIx x.length x.length b=j;have s:((λa=>x.cps[a]?) ∘ λ(k:Nat)=>((i:Int)+1*(k:Int)).toNat)=λk=>x.cps[i+k]? :=by
   funext k;simp only[Function.comp]
   congr 1
   lia
  have q:(if(1:Int)>0 then if(i:Int)<(j:Int)then((j:Int)-i+1-1)/1 else 0 else if(i:Int)>(j:Int)then((i:Int)-j-1-1) / -1 else 0).toNat=j-i:=by
   rw[if_pos (by lia)];split
   .rw[Int.ediv_one];lia
   lia
  rw[s,q];exact ZKm x.cps i (j-i)
 unfold Txt.slice Ii;split
 .rename_i h;have w:(qb c b 1 x.length).length=x.length:=by simpa using h
  have g:(cutD x.cps.toList c b).length=x.cps.toList.length:=by
   have l:(qb c b 1 x.length).length=HT.sIx x.length x.length b-HT.sIx x.length 0 c:=by
    have n:∀(v:Option Int),(match v with |none=>(0:Int)|some i=>max 0 (min (if i<0 then i+(x.length:Int)else i) x.length))=((HT.sIx x.length 0 v:Nat):Int):=λv=>by
     cases v with
     |none=>rfl
     |some i=>exact(Ja x.length i).2.symm
    have p:∀(v:Option Int),(match v with |none=>(x.length:Int)|some i=>max 0 (min (if i<0 then i+(x.length:Int)else i) x.length))=((HT.sIx x.length x.length v:Nat):Int):=λv=>by
     cases v with
     |none=>rfl
     |some i=>exact(Ja x.length i).1.symm
    have l:qb c b 1 x.length=sliceRange ((HT.sIx x.length 0 c:Nat):Int) ((HT.sIx x.length x.length b:Nat):Int) 1:=by
     rw[<-n c,<-p b];unfold qb
     cases c<;>cases b<;>simp
    rw[l];unfold sliceRange;rw[zj,jL];generalize HT.sIx x.length 0 c=i;generalize HT.sIx x.length x.length b=j;rw[if_pos (by lia)];split
    .rw[Int.ediv_one];lia
    lia
   have u:HT.sIx x.length x.length b<=x.length:=HT.ZIS _ _ (zx _) b;unfold cutD;rw[qR,jX,<-d];lia
  have r:(cutD x.cps.toList c b).Sublist x.cps.toList:=(List.take_sublist _ _).trans (List.drop_sublist _ _);rw[r.eq_of_length g]
 rw[m]
section
variable{X:Cx}{E:XK}
theorem ZIa:SlR X (λx c n H Q=>∃z:Str,x=.str z/\z.length<=sizeLine/\Q (.str (Ii z c n)) H):=by
 intro b s P H x v K O c n B Q I C M J r h;obtain⟨z,rfl,N,q⟩:=h;obtain⟨t,rfl⟩:=C;refine⟨"str",_,PySem.F.slot_str_getitem.lookup,typeIs_str _ _ _,?_⟩
 have a:∀(l u:Option (Int×Tok)),K=partValue l->O=partValue u->l.map (·.1)=c->u.map (·.1)=n->vA (vj X.prog X.w) X.A (getItem (.str z t) (.ref B)) (EP X b P Q) X.xe s:=by
  rintro l u rfl rfl rfl rfl;refine wpAny_getItem_str_slice (st:=uZ) (M) rfl ?_
  have e:∀d,(Txt.slice z (l.map (·.1)) (u.map (·.1))).length<=sizeLine/\(∀m k,d (.str (Txt.slice z (l.map (·.1)) (u.map (·.1))) m) {s with toks:=k})->(sliceMade z t l u uZ).post d s:=λd L=>post_val_or_str L
  refine e _ ⟨zE (Txt.slice_le z _ _) N,λm k=>?_⟩;rw[ZH9];exact⟨.str _,H,I.tok k,⟨m,rfl⟩,q⟩
 cases J with
 |none=>cases r with
  |none=>exact a uZ uZ rfl rfl rfl rfl
  |int j g=>exact a uZ (uQ (j,g)) rfl rfl rfl rfl
 |int i y=>cases r with
  |none=>exact a (uQ (i,y)) uZ rfl rfl rfl rfl
  |int j g=>exact a (uQ (i,y)) (uQ (j,g)) rfl rfl rfl rfl
theorem ZLR{prog:xL}{w:xR}{A:xF}{E:xP->xN->Prop}{s:xN}{t j:xE}{items:Array xP}{m l:xP}{a d:Option Int}{Q:xP->xN->Prop}(c:IsTup s.heap t items)(k:s.heap.IsSliceOf j m l .none)(pl:IsPart m a)(p:IsPart l d)
  (hw:HT.sIx items.size 0 a=0/\HT.sIx items.size items.size d=items.size) (h:Q (.ref t) s):vA (vj prog w) A (getItem (.ref t) (.ref j)) Q E s:=by
 obtain⟨n,i,g,q⟩:=id k;unfold getItem
 try with_reducible refine vG ?_
 first|refine vC (vM ?_)|skip
 refine vC (wpAny_sequenceKey c.typeIs (by decide) ?_);refine vC (vD c.typeIs jc
  (vE jc c.typeIs entry_tuple_getitem ?_ (args_tuple_getitem _ _)))
 show vA _ _ (Builtin.Tuple.tupleItemsOf (.ref t) >>=_) _ _ s;refine vC (tupleItemsOf_ c ?_);refine vC (wpAny_typeOf ⟨n,i,g⟩ ?_);rw[if_pos (by decide)];refine vC (HT.ZEA k pl p ?_);have b:(((HT.sIx items.size 0 a:Nat):Int)==0&&(1:Int)==1&&(HT.sIx items.size items.size d-HT.sIx items.size 0 a)==items.size)=uJ:=by rw[hw.1,hw.2];simp
 show vA _ _ (if(((HT.sIx items.size 0 a:Nat):Int)==0&&(1:Int)==1&&(HT.sIx items.size items.size d-HT.sIx items.size 0 a)==items.size)=uJ then _ else _) _ _ s;rw[if_pos b];refine vC ?_;unfold Builtin.Tuple.tupleIsExact;refine vC (wpAny_typeOf c.typeIs (vM ?_));rw[if_pos (by decide)];exact vC (wpAny_rule (vM ⟨_,rfl,vM h⟩))
theorem ZK0:SlR X (λx i d H Q=>∃a xs,x=.ref a/\SqT X.K H a xs/\(HT.sIx xs.length 0 i=0/\HT.sIx xs.length xs.length d=xs.length)/\Q (.ref a) H):=by intro g s w H x v A y i d u Q I m k n l h;obtain⟨a,xs,rfl,p,hw,q⟩:=h;cases m;obtain⟨c,r,j,z⟩:=I.tuple p;exact⟨"tuple",_,PyProof.Rows.slot_tuple_getitem.lookup,j.typeIs,ZLR j k n l ((zk▸r.length.symm)▸hw) ⟨.ref a,H,I,rfl,q⟩⟩
def Kr(E:XK)(a:Wd)(r:R (Option Int))(Q:Option Int->Hp->Prop):Prop:=match r with
 |.ok k G=>∀(b:Wd),Ext a b->Sim b G->Q k b.H
 |.err x G=>XOk E a x G
 |.bad=>False
def QO(X:Cx)(E:XK)(e:Option xG)(t:Option DE):Prop:=PO X e (λσ H Q=>PS3 X.K σ H λa S G=>Kr E a (K8 t S G) Q)
theorem _root_._L.PO.mono(h:PO X e t)(w:∀a H Q,t' a H Q->t a H Q):PO X e t':=λb s a H Q I q=>h b s a H Q I (w a H Q q)
theorem ZIg:QO X E uZ uZ:=ZPB.mono λb H Q h=>by obtain⟨a,S,G,hk,rfl,s,r,h⟩:=h;exact h a (.refl a) s
theorem ZHG(m:QE X E e t):QO X E (uQ e) (uQ t):=(ZO4 m).mono λn H Q h=>by
 obtain⟨a,S,G,hk,rfl,s,r,h⟩:=h;refine⟨a,S,G,hk,rfl,s,r,?_⟩
 have c:Kr E a ((t S G).bind λd g=>match d with | .int i=>.ok (uQ i) g|_=>.bad) Q:=h
 cases j:t S G with
 |ok d g=>
  rw[j]at c;intro b v x k l;cases d with
  |int i=>exact⟨i,l,c b x k⟩
  |_=>exact c.elim
 |_=>rw[j]at c;exact c
theorem Reps.cutD(r:Reps a ds vs)(b c:Option Int):Reps a (_D.cutD ds b c) (Lz vs b c):=by unfold _D.cutD Lz;rw[r.length];exact(r.drop _).take _
theorem Kr.imp(h:Kr E a r Q)(w:∀v H,Q v H->Q' v H):Kr E a r Q':=by
 cases r with
 |ok d G=>exact λb x s=>w _ _ (h b x s)
 |_=>exact h
theorem ZC8(h:out E a (r.bind f) Q):
  Kr E a r (λk H=>PB3 a H r k λb G=>out E b (f k G) Q):=by
 cases r with
 |ok d G=>exact λb x s=>⟨b,G,rfl,x,s,rfl,out.mono x h⟩
 |_=>exact h
theorem ZMS{e:xG}{N T:Option xG}{U:DE}{P th:Option DE}{p2 pos:Pos}(he:QE X E e U)(M:QO X E N P)(hu:QO X E T th):QE X E (.Subscript e (.Slice N T uZ p2) pos) (dSl U P th):=
 (ZLr (ZOz.or (ZMu.or (ZK0.or ZIa))) he M hu).mono λσ H Q h=>by
 obtain⟨a,S,G,hk,rfl,s,r,h⟩:=h;refine⟨a,S,G,hk,rfl,s,r,(Fb h).imp ?_⟩;rintro v _ ⟨b,d,W,rfl,x,s1,q,_,h1⟩;refine⟨b,S,W,x.k.trans hk,rfl,s1,r.mono x,(ZC8 h1).imp ?_⟩;rintro l _ ⟨c,Z,rfl,y,s2,_,Y⟩;refine⟨c,S,Z,y.k.trans (x.k.trans hk),rfl,s2,(r.mono x).mono y,(ZC8 Y).imp ?_⟩;rintro u _ ⟨C,J,rfl,O,F,_,g⟩;have m:=O.k.trans (y.k.trans (x.k.trans hk));have L:=(q.mono y).mono O
 have lst:out E C (match Ep d J with |some w=>.ok (.ref J.length) (J++[.lst (cutD w l u)])|none=>.bad) Q->rSlL X.K v l u C.H Q:=λg=>by
  split at g
  .rename_i w hx;obtain⟨p,j,I,B,A⟩:=Ut F L hx;exact⟨p,j,I,by rw[<-m];exact B,λp hp=>Jf F (.cutD A l u) g p hp⟩
  exact g.elim
 cases d with
 |str z=>
  have n:out E C (if z.length<=1000000 then .ok (.str (Ii z l u)) J else .bad) Q:=g;split at n
  .rename_i M;cases(L);exact .inr (.inr (.inr ⟨z,rfl,zE M size6,n C _ (.refl _) F rfl⟩))
  exact n.elim
 | tup w=>
  have n:=g;obtain⟨p,j,I,B,A⟩:=L;by_cases hw:HT.sIx j.length 0 l=0/\HT.sIx j.length j.length u=j.length
  .refine .inr (.inr (.inl ⟨p,j,I,by rw[<-m];exact B,hw,n C _ (.refl _) F ⟨p,j,rfl,B,?_⟩⟩));have:cutD w l u=w:=by unfold cutD;rw[A.length,hw.1,hw.2,<-A.length];simp
   rw[this];exact A
  exact .inr (.inl ⟨p,j,I,by rw[<-m];exact B,hw,λp hp=>Vw F (.cutD A l u) n p hp⟩)
 |fl w|ref i=>exact .inl (lst g)
 |_=>exact(g).elim
section
variable{name:Str}{id:String}{f:D->List D->DH->R D}{o e:xG}{es:List xG}{to:DE}{t:DA}{apos cpos:Pos}
end
end
section
variable{S:DSt}{G:DH}
@[simp]theorem ev_Sl{e:DE}{b a:Option DE}:dSl e b a S G=(e S G).bind λd c=>(K8 b S c).bind λl i=>(K8 a S i).bind λh g=>G9 d l h g:=id rfl
@[simp]theorem ZQY:K8 uZ S G=.ok uZ G:=id rfl
@[simp]theorem ZQb:K8 (uQ t) S G=(t S G).bind λd a=>match d with | .int i=>.ok (uQ i) a|_=>.bad:=id rfl
@[simp]theorem My{z:Str}{b a:Option Int}:G9 (.str z) b a G=if z.length<=1000000 then .ok (.str (Ii z b a)) G else .bad:=id rfl
@[simp]theorem ev_slT{xs:List D}{a b:Option Int}:G9 (.tup xs) a b G=.ok (.tup (cutD xs a b)) G:=id rfl
@[simp]theorem O9{xs:List D}{a b:Option Int}:G9 (.fl xs) a b G=.ok (.ref G.length) (G++[.lst (cutD xs a b)]):=id rfl
@[simp]theorem ZQq:Gf [.fl xs] G=.ok (.ref G.length) (G++[.lst xs]):=id rfl
@[simp]theorem Ti:Ai (.fl xs) (.fl ys) G=if xs.length+ys.length<=1000000 then .ok (.ref G.length) (G++[.lst (xs++ys)])else .bad:=id rfl
end
end _D
namespace _D
open PySem PySem.Spec _L
open PyProof.Rows hiding St
open Builtin.Str
section
variable(p:Nat->Bool)(m:Nat)
end
def CStep(g:DG)(c:DB)(te:DE)(S:DSt)(G:DH)(x:D)(r:Option D):Prop:=
 ∃S1,g x S G=.ok S1 G/\((c S1 G=.ok uX G/\r=uZ)∨(c S1 G=.ok uJ G/\∃d,te S1 G=.ok d G/\r=uQ d))
theorem ZCO(e:G[i]?=uQ (.lst xs))(h:∀x∈xs,CStep g c te S G x (F x)):
  ∀(n j:Nat),j+n=xs.length->Ek i g c te S n j G=.ok ((xs.drop j).filterMap F) G
 |0,j,o=>by
  unfold Ek;rw[e];simp only;rw[if_pos (by lia),q7 (by lia)]
  rfl
 |n+1,j,o=>by
  have a:j<xs.length:=by lia
  have k:=ZCO e h n (j+1) (by lia);obtain⟨r,l,b⟩:=h xs[j] (qV a);unfold Ek;rw[e];simp only;rw[zJ a];simp[l,R.Dv];rw[qy a,qE];rcases b with⟨b,f⟩|⟨b,d,f,q⟩
  .simp[b,f,k]
  simp[b,f,q,k]
theorem ZGK(a:G[i]?=uQ (.lst xs))(h:∀x∈xs,CStep g c te S G x (F x)):
  Ek i g c te S xs.length 0 G=.ok (xs.filterMap F) G:=ZCO a h xs.length 0 (by lia)
end _D
namespace _D
open PySem PySem.Spec _L
open PyProof.Rows hiding St
inductive Src where
 |l (a:xE)
 |t (a:xE)
noncomputable def Src.itn:Src->String
 |.l _=>"list_iterator"
 |.t _=>"tuple_iterator"
noncomputable def Src.adr:Src->xE
 |.l a=>a
 |.t a=>a
def Src.it(h:Heap)(p:xE)(k:Nat)(sr:Src):Prop:=∃o,h.get? p=uQ o/\o.cls=.type sr.itn/\o.data=.fields #[.ref sr.adr,.int k 0]
def Src.val(h:Heap)(xs:Array xP):Src->Prop
 |.l a=>h.IsList a xs
 |.t a=>h.IsTuple a xs
theorem Src.it.at{a:Src}{h h':Heap}{p:xE}{k:Nat}(x:a.it h p k)(e:∀o,h.get? p=uQ o->h'.get? p=uQ o):a.it h' p k:=let⟨o,b,r⟩:=x;⟨o,e o b,r⟩
theorem Src.val.at{b:Src}{h h':Heap}{xs:Array xP}(x:b.val h xs)(e:∀o,h.get? b.adr=uQ o->h'.get? b.adr=uQ o):b.val h' xs:=by
 cases b with
 |_=>obtain⟨o,c,r⟩:=x;exact⟨o,e o c,r⟩
theorem Src.it.lt{a:Src}{h:Heap}{p:xE}{k:Nat}(x:a.it h p k):p<h.objs.size:=let⟨_,b,_⟩:=x;zy b
section
variable{prog:xL}{w:xR}{A:xF}{E:xP->xN->Prop}{s:xN}
theorem Src.val.obj{c:Src}{h:Heap}{xs:Array xP}(x:c.val h xs):∃o n,h.get? c.adr=uQ o/\o.data=.seq xs n:=by
 cases c with
 |_=>obtain⟨o,d,_,n,b⟩:=x;exact⟨o,n,d,b⟩
theorem Src.next_item{f:Src}{p:xE}{k:Nat}{xs:Array xP}{x:xP}{Q:xP->xN->Prop}(d:f.it s.heap p k)(n:f.val s.heap xs)(r:xs[k]?=uQ x)
  (i:∀h',f.it h' p (k+1)->qU p s.heap h'->Q x {s with heap:=h'}):vA (vj prog w) A (qf (.ref p)) Q E s:=by
 cases f with
 |l a=>exact wpAny_nextOf_list_item (d) n r i
 |t a=>
  obtain⟨o,e,q,c⟩:=id d;obtain⟨u,h,_,v,g⟩:=n;have j:s.TypeIs (.ref p) "tuple_iterator":=⟨o,e,q⟩;unfold qf;refine vC (vD j jd (vE jd j wj ?_ (wx _)));refine vC (m:=field (.ref p) 0) (vF e c (x:=.ref a) rfl ?_)
  rw[if_neg (show¬((.ref a==Value.none)=uJ)from zC)]
  refine vC (vF e c rfl (vC (wpAny_seqItems h g ?_)));simp[Int.toNat_natCast,r];refine vC (wpAny_setField e c (by simp) (vM ⟨x,rfl,vM (i _ ⟨_,xX _ e (Obj.isFreed_of_fields (Obj.data_mapFields c _)),(Obj.cls_mapFields ..).trans q,?_⟩ (.update ..))⟩));rw[Obj.data_mapFields c];simp[vx,Src.adr]
theorem Src.next_end{f:Src}{p:xE}{k:Nat}{xs:Array xP}{Q:xP->xN->Prop}(j:A.handled=uZ)(c:f.it s.heap p k)(q:f.val s.heap xs)(u:xs[k]?=uZ)
  (r:∀h' e,Heap.ExtBut p s.heap h'->(∃o,h'.get? e=uQ o/\o.cls=.type "StopIteration")->E (.ref e) {s with heap:=h'}):vA (vj prog w) A (qf (.ref p)) Q E s:=by
 cases f with
 |l a=>exact wpAny_nextOf_list_end j (c) q u r
 |t a=>
  obtain⟨o,d,v,g⟩:=id c;obtain⟨y,i,_,z,h⟩:=q;have n:s.TypeIs (.ref p) "tuple_iterator":=⟨o,d,v⟩;unfold qf;refine vC (vD n jd (vE jd n wj ?_ (wx _)));refine vC (m:=field (.ref p) 0) (vF d g (x:=.ref a) rfl ?_)
  rw[if_neg (show¬((.ref a==Value.none)=uJ)from zC)]
  refine vC (vF d g rfl (vC (wpAny_seqItems i h ?_)));simp[Int.toNat_natCast,u];refine vC (wpAny_rule (vC (wpAny_setField d g (by simp) (vC ?_))));simp[newExc,newTuple]
  refine vC (vI (vC (wpAny_of_eq (by first|rfl|(simp[firstArgMember];rfl)) (vI ?_ (by size_fits)))) (by size_fits))
  simp only[raiseNew];refine vC (wpAny_handled ?_)
  first|rw[j]|rw[j]
  exact vC (vM (wpAny_throw (r _ _ (((qU.update ..).extBut.push _).push _) ⟨_,z3 _ rfl,rfl⟩)))
theorem Src.iter{c:Src}{xs:Array xP}{Q:xP->xN->Prop}(e:c.val s.heap xs)
  (f:Q (.ref s.heap.objs.size) {s with heap:=s.heap.push {cls:=.type c.itn,data:=.fields #[.ref c.adr,.int 0 0]}}):vA (vj prog w) A (pyIter (.ref c.adr)) Q E s:=by
 cases c with
 |l a=>exact wpAny_pyIter_list e f
 |t a=>exact wpAny_pyIter_tuple e f
end
abbrev En(h:Heap)(e it:xE)(f0:xP)(i:Int)(g old:xP):Prop:=
 h.get? e=uQ {cls:=.type "enumerate",dict:=uZ,data:=.fields #[f0,.bool uX,.ref it,vx i,g,old],slots:= #[]}
def Gv(i:Int)(g:xP):Prop:=g=.none∨∃t,g=.int i t
section
variable{prog:xL}{w:xR}{A:xF}{E:xP->xN->Prop}{s:xN}
theorem ZOv{sr:Src}{e it:xE}{k:Nat}{i:Int}{xs:Array xP}{x g z:xP}{Q:xP->xN->Prop}(he:En s.heap e it .none i g z)(hg:Gv i g)(hit:sr.it s.heap it k)(hv:sr.val s.heap xs)(hx:xs[k]?=uQ x)(K:e≠it)
  (hQ:∀h' t tk,En h' e it (vx s.heap.objs.size) (i+1) .none x->sr.it h' it (k+1)->h'.get? s.heap.objs.size=uQ {cls:=.type "tuple",data:=.seq #[.int i t,x]}->h'.objs.size=s.heap.objs.size+1->
   (∀b o,b≠e->b≠it->s.heap.get? b=uQ o->h'.get? b=uQ o)->Q (.ref s.heap.objs.size) {s with heap:=h',toks:=tk}):
  vA (vj prog w) A (Builtin.«enumerate.__next__» ⟨[.ref e],[]⟩) (λO s'=>∃v,O=.done (.ret v)/\Q v s') E s:=by
 obtain⟨hp,gg,d,tk,os⟩:=s;refine vC (m:=field (.ref e) 2) (vF he rfl rfl (vC (Src.next_item hit hv hx λU J p=>?_)));have n:=(p.2 e K).trans he;refine vC (vF n rfl rfl ?_);refine vC (vF n rfl (x:=g) rfl ?_)
 have rest:∀(t:Tok)(P:Nat),vA (vj prog w) A (do
   setField (.ref e) 3 (vx (i+1));setField (.ref e) 4 .none
   let result<-newTuple [.int i t,x]
   if<-vb (.ref e)then
    rule "enumerate.__next__.owned-tuple-again"
    let z<-field (.ref e) 5
    setField (.ref e) 5 x
    vc (.ref e) result
    PySem.letGo [z] [result]
   ret result) (λO s'=>∃v,O=.done (.ret v)/\Q v s') E ⟨U,gg,d,P,os⟩:=by
  intro t P;refine vC (vN n (by simp) λh₂ S j=>?_);refine vC (vN S (by simp) λH l h=>?_)
  replace l:En H e it .none (i+1) .none z:=l
  have y:H.objs.size=hp.objs.size:=by rw[h.1];rw[j.1];exact p.1
  refine vC (wpAny_newTuple ?_);generalize c:H.push {cls:=.type "tuple",data:=.seq [Value.int i t,x].toArray}=f;have u:En f e it .none (i+1) .none z:=by rw[<-c];exact zZ _ l
  have N:f.get? hp.objs.size=uQ {cls:=.type "tuple",data:=.seq #[.int i t,x]}:=by rw[<-c,<-y];exact z3 _ rfl
  have z₄:f.objs.size=hp.objs.size+1:=by rw[<-c,qN,y]
  have k₄:∀b o,b≠e->b≠it->hp.get? b=uQ o->f.get? b=uQ o:=λb o M W q=>by rw[<-c];exact zZ _ ((λb o M W q=>h.extBut b o M (j.extBut b o M ((λb o _ Z q=>p.extBut b o Z q) b o M W q))) b o M W q)
  have X:sr.it f it (k+1):=((J.at λo q=>j.extBut it o (.symm K) q).at λo q=>h.extBut it o (.symm K) q).at λo q=>by rw[<-c];exact zZ _ q
  have ez:=zy he;refine vC ?_;unfold vb;refine vC (vF u rfl rfl (vM ?_));simp[if_true];refine vC (wpAny_rule (vC (vF u rfl (x:=z) rfl (vC (vN u (by simp) λY r B=>?_)))))
  replace r:En Y e it .none (i+1) .none x:=r
  refine vC ?_;unfold vc;refine vC (vN r (by simp) λh₆ T C=>?_);refine vN T (by simp) λL I F=>?_
  refine vC (wpAny_letGo (vM ⟨_,rfl,?_⟩));have up:∀b o,b≠e->f.get? b=uQ o->L.get? b=uQ o:=λb o Z q=>F.extBut b o Z (C.extBut b o Z (B.extBut b o Z q))
  rw[y];rw[y]at I;exact hQ L t P I (X.at λo q=>up it o (.symm K) q) (up _ _ (jQ ez) N) (by rw[F.1];rw[C.1];rw[B.1];exact z₄) λb o M W q=>up b o M (k₄ b o M W q)
 rcases hg with rfl|⟨t,rfl⟩
 .exact vC (wpAny_mkInt (rest tk (tk+1)))
 exact vC (vM (rest t tk))
theorem ZKk{c:Src}{e it:xE}{k:Nat}{i:Int}{xs:Array xP}{x g h:xP}{Q:Option xP->xN->Prop}(m:En s.heap e it .none i g h)(p:Gv i g)(d:c.it s.heap it k)(q:c.val s.heap xs)(B:xs[k]?=uQ x)(f:e≠it)
  (y:∀h' t tk,En h' e it (vx s.heap.objs.size) (i+1) .none x->c.it h' it (k+1)->h'.get? s.heap.objs.size=uQ {cls:=.type "tuple",data:=.seq #[.int i t,x]}->h'.objs.size=s.heap.objs.size+1->
   (∀b o,b≠e->b≠it->s.heap.get? b=uQ o->h'.get? b=uQ o)->Q (uQ (.ref s.heap.objs.size)) {s with heap:=h',toks:=tk}):
  vA (vj prog w) A (pyNext (.ref e)) Q E s:=by
 have l:s.TypeIs (.ref e) "enumerate":=⟨_,m,rfl⟩;unfold pyNext;exact vC (wpAny_attempt (vD l je
  (vE je l wv (ZOv m p d q B f λh' t tk z u r n v=>vM (y h' t tk z u r n v)) (ww _))))
theorem ZQI{l:Src}{e it:xE}{k:Nat}{i:Int}{xs:Array xP}{g c:xP}{Q:Option xP->xN->Prop}(r:A.handled=uZ)(j:En s.heap e it .none i g c)(b:l.it s.heap it k)(p:l.val s.heap xs)(u:xs[k]?=uZ)
  (n:∀h',Heap.ExtBut it s.heap h'->Q uZ {s with heap:=h'}):vA (vj prog w) A (pyNext (.ref e)) Q E s:=by
 have h:s.TypeIs (.ref e) "enumerate":=⟨_,j,rfl⟩;unfold pyNext;refine vC (wpAny_attempt (vD h je
  (vE je h wv (vC (m:=field (.ref e) 2) (vF j rfl rfl (vC (Src.next_end r b p u λh' x f d=>?_)))) (ww _))))
 obtain⟨o,t,q⟩:=d;exact vC (wpAny_isInstance ⟨o,t,q⟩ isSubtype_stop (vM (n _ f)))
theorem ZLW{elts:List xG}{x1}{pos:Pos}{e it a:xE}{i:Int}{g c:xP}{Q:Unit->xN->Prop}(h:En s.heap e it (vx a) i g c)
  (j:∀h',En h' e it .none i g c->qU e s.heap h'->Q () {s with heap:=h'}):vA (vj prog w) A (vq (.Tuple elts x1 pos) (.ref e) (.ref a)) Q E s:=by
 unfold vq;refine vC (wpAny_load h ?_);dsimp only;rw[if_pos (by simp)];exact vC (wpAny_rule (vN h (by simp) λh' d f=>j h' d f))
theorem ZDg(b:En s.heap e it f0 i g old)(h:Q (.ref e) s):vA (vj prog w) A (pyIter (.ref e)) Q E s:=by have a:s.TypeIs (.ref e) "enumerate":=⟨_,b,rfl⟩;exact wpAny_pyIter_slot a wk (vE wk a PySem.F.entry_enumerate_iter (vM ⟨_,rfl,"enumerate",_,a,PySem.F.slot_enumerate_next.lookup,h⟩) (PySem.F.args_enumerate_iter_1 _))
end
abbrev Tp(h:Heap)(T:xE)(xs:List xP):Prop:=h.get? T=uQ {cls:=.type "tuple",data:=.seq xs.toArray}
inductive Drw (h:Heap) (i:Nat):List (Src×xE)->List xP->Prop where
 |nil:Drw h i [] []
 |cons {sr p r x us xs} (hit:Src.it h p i sr) (hv:sr.val h xs) (hx:xs[i]?=uQ x) (t:Drw h i r us):Drw h i ((sr,p)::r) (x::us)
theorem Drw.length(d:Drw h i l us):us.length=l.length:=by
 induction d with
 |nil=>rfl
 |cons _ _ _ _ a=>simp[a]
section
variable{prog:xL}{w:xR}{A:xF}{E:xP->xN->Prop}{s:xN}
theorem ZPP(b:Tp s.heap T xs)(hz:xs.length<=1000000)
  (h:∀h',Tp h' T (xs.set k x)->qU T s.heap h'->Q () {s with heap:=h'}):vA (vj prog w) A (updateSeq T (·.setIfInBounds k x)) Q E s:=by
 have c:=zk▸zE hz size6;refine wpAny_updateSeq b rfl (h _ ?_ (.update ..)) c (by rw[Array.size_setIfInBounds];exact Nat.le_succ_of_le c);show(s.heap.update T _).get? T=_;rw[xX _ b rfl];simp[Obj.mapSeq]
def ZS(prog:xL)(w:xR)(A:xF)(E:xP->xN->Prop)(z TO p:xE)(k:Nat)(R:xN->Prop)(s:xN):Prop:=
 vA (vj prog w) A (qf (.ref p)) (λx s1=>∃os,Tp s1.heap TO os/\os.length<=1000000/\∀h',Tp h' TO (os.set k x)->qU TO s1.heap h'->R {s1 with heap:=h'})
  (λe s'=>vA (vj prog w) A (setField (.ref z) 0 .none) (λ_ s''=>E e s'') E s') s
theorem ZEf{z TO p:xE}{k i:Nat}{r:Src}{xs:Array xP}{x:xP}{q:List xP}{Q:xN->Prop}(l:Tp s.heap TO q)(hz:q.length<=1000000)(j:r.it s.heap p i)(y:r.val s.heap xs)(F:xs[i]?=uQ x)
  (h:∀h',Tp h' TO (q.set k x)->r.it h' p (i+1)->(∀b o,b≠TO->b≠p->s.heap.get? b=uQ o->h'.get? b=uQ o)->h'.objs.size=s.heap.objs.size->Q {s with heap:=h'}):ZS prog w A E z TO p k Q s:=by
 have m:TO≠p:=λe=>by
  obtain⟨o,u,C,_⟩:=j;rw[<-e,l]at u;cases u
  cases r<;>(simp[Src.itn]at C)
 exact Src.next_item j y F λt f d=>⟨q,d.extBut _ _ m l,hz,λn g c=>(h n g (f.at λo e=>c.extBut _ _ (.symm m) e) (λb o B v e=>c.extBut b o B (d.extBut b o v e)) (by rw[c.1];rw[d.1]))⟩
theorem ZFX{z TO:xE}{i:Nat}{m:xP×Nat->Option Fin×PUnit->Sem (ForInStep (Option Fin×PUnit))}{R:Option Fin×PUnit->xN->Prop}
  (hb:∀(p:xE)(k:Nat)(s:xN)(R':ForInStep (Option Fin×PUnit)->xN->Prop),ZS prog w A E z TO p k (λs'=>R' (.yield (uZ,⟨⟩)) s') s->
   vA (vj prog w) A (m (.ref p,k) (uZ,⟨⟩)) R' E s):
  ∀(l:List (Src×xE))(us pre post:List xP)(s:xN),Drw s.heap i l us->Tp s.heap TO (pre++post)->post.length=l.length->(pre++post).length<=1000000->(l.map (·.2)).Nodup->(∀q∈l,q.1.adr≠TO)->(∀q∈l,∀r∈l,q.1.adr≠r.2)->
   (∀h',Tp h' TO (pre++us)->(∀q∈l,q.1.it h' q.2 (i+1))->(∀b o,b≠TO->b∉l.map (·.2)->s.heap.get? b=uQ o->h'.get? b=uQ o)->h'.objs.size=s.heap.objs.size->R (uZ,⟨⟩) {s with heap:=h'})->
   vA (vj prog w) A (forIn ((l.map λq=>Value.ref q.2).zipIdx pre.length) (uZ,⟨⟩) m) R E s
 | [],us,pre,post,s,d,H,u,J,O,N,C,M=>by
  cases d;cases post with
  |cons _ _=>simp at u
  |nil=>
   rw[qK,List.zipIdx_nil,List.forIn_nil];exact vM (M s.heap H (λq a=>by cases a) (λb o _ _ e=>e) rfl)
 | (P,p)::l,us,pre,post,s,d,H,u,J,O,N,C,M=>by
  cases d with
  |@cons _ _ _ x us xs h hv hx d=>
  cases post with
  |nil=>simp at u
  | cons y post=>
   rw[zK,qD,jT];refine vC (hb p pre.length s _ (ZEf H J h hv hx λh' g it' kp sz=>?_));have X:(pre++y::post).set pre.length x=(pre++[x])++post:=by simp
   rw[X]at g;have W:pre.length+1=(pre++[x]).length:=by simp
   dsimp only;rw[W]
   have f:p∉l.map (·.2)/\(l.map (·.2)).Nodup:=by simpa using O
   have j:∀q∈l,q.2≠TO:=λq a e=>by
    have:∃P k,Src.it s.heap q.2 k P:=by
     clear M N C O f X W u g J
     induction d with
     |nil=>cases a
     |cons h _ _ _ U=>
      rcases z0.mp a with rfl|a
      .exact⟨_,_,h⟩
      exact U a
    obtain⟨sr',k,o,L,Y,_⟩:=this;rw[e,H]at L;cases L
    cases sr'<;>(simp[Src.itn]at Y)
   have d':Drw h' i l us:=by
    have F:∀q∈l,q.1.adr≠TO:=λq a=>N q (zV _ a)
    have I:∀q∈l,q.1.adr≠p:=λq a=>C q (zV _ a) (P,p) zw
    have pp:∀q∈l,q.2≠p:=λq a e=>f.1 (qY.mpr ⟨q,a,e⟩)
    clear M N C O f X W u g J
    induction d with
    |nil=>exact .nil
    |@cons sr1 p1 r1 x1 us1 xs1 B T Z t1 U=>
     exact .cons (B.at λo e=>kp _ o (j _ zw) (pp _ zw) e) (T.at λo e=>kp _ o (F _ zw) (I _ zw) e) Z (U (λq a=>j q (zV _ a)) (λq a=>F q (zV _ a)) (λq a=>I q (zV _ a)) (λq a=>pp q (zV _ a)))
   refine ZFX hb l us (pre++[x]) post {s with heap:=h'} d' g (by simpa using u) (by simpa using J) f.2 (λq a=>N q (zV _ a)) (λq a r hr=>C q (zV _ a) r (zV _ hr)) λS Q t n v=>?_
   have K:p≠TO:=λe=>by
    obtain⟨o,L,Y,_⟩:=h;rw[e,H]at L;cases L
    cases P<;>(simp[Src.itn]at Y)
   refine M S (by simpa using Q) (λq a=>?_) (λb o b1 b2 e=>?_) (v.trans sz)
   .rcases z0.mp a with rfl|a
    .exact it'.at λo e=>n _ o K f.1 e
    exact t q a
   simp only[zK,z0,not_or]at b2;exact n b o b1 b2.2 (kp b o b1 b2.1 e)
end
inductive DrwE (h:Heap) (i:Nat):List (Src×xE)->Prop where
 |here {sr p r xs} (hit:Src.it h p i sr) (hv:sr.val h xs) (hx:xs[i]?=uZ):DrwE h i ((sr,p)::r)
 |there {sr p r x xs} (hit:Src.it h p i sr) (hv:sr.val h xs) (hx:xs[i]?=uQ x) (t:DrwE h i r):DrwE h i ((sr,p)::r)
structure ApZ (TO:xE) (l:List (Src×xE)):Prop where
 nd:(l.map (·.2)).Nodup
 na:∀q∈l,q.1.adr≠TO
 np:∀q∈l,∀r∈l,q.1.adr≠r.2
 to:∀q∈l,q.2≠TO
theorem ApZ.tail{TO:xE}{q:Src×xE}{l:List (Src×xE)}(a:ApZ TO (q::l)):ApZ TO l:=
 ⟨(jD.mp (by simpa using a.nd)).2,λq b=>a.na q (zV _ b),λq b r c=>a.np q (zV _ b) r (zV _ c),λq b=>a.to q (zV _ b)⟩
section
variable{prog:xL}{w:xR}{A:xF}{E:xP->xN->Prop}{s:xN}
theorem DrwE.at{TO p:xE}{u:Src}{i:Nat}{h h':Heap}{l:List (Src×xE)}(a:ApZ TO ((u,p)::l))(j:∀b o,b≠TO->b≠p->h.get? b=uQ o->h'.get? b=uQ o)(d:DrwE h i l):DrwE h' i l:=by
 have n:∀q∈l,q.2≠p:=λq f e=>(jD.mp (by simpa using a.nd)).1 (qY.mpr ⟨q,f,e⟩)
 have k:∀q∈l,q.1.adr≠p:=λq f=>a.np q (zV _ f) (u,p) zw
 have g:=a.tail;clear a
 induction d with
 |here c m r=>exact .here (c.at λo e=>j _ o (g.to _ zw) (n _ zw) e) (m.at λo e=>j _ o (g.na _ zw) (k _ zw) e) r
 | there c m r t v=>
  exact .there (c.at λo e=>j _ o (g.to _ zw) (n _ zw) e) (m.at λo e=>j _ o (g.na _ zw) (k _ zw) e) r
   (v (λq f=>n q (zV _ f)) (λq f=>k q (zV _ f)) g.tail)
theorem ZEl{z TO:xE}{i:Nat}{f:xP×Nat->Option Fin×PUnit->Sem (ForInStep (Option Fin×PUnit))}{R:Option Fin×PUnit->xN->Prop}(M:A.handled=uZ)
  (J:∀(p:xE)(k:Nat)(s:xN)(K:ForInStep (Option Fin×PUnit)->xN->Prop),ZS prog w A E z TO p k (λs'=>K (.yield (uZ,⟨⟩)) s') s->
   vA (vj prog w) A (f (.ref p,k) (uZ,⟨⟩)) K E s):
  ∀(l:List (Src×xE))(m:List xP)(n:Nat)(s:xN),DrwE s.heap i l->Tp s.heap TO m->m.length<=1000000->ApZ TO l->
   (∀h' e,(∀b o,b≠TO->b∉l.map (·.2)->s.heap.get? b=uQ o->h'.get? b=uQ o)->(∃o,h'.get? e=uQ o/\o.cls=.type "StopIteration")->vA (vj prog w) A (setField (.ref z) 0 .none) (λ_ F=>E (.ref e) F) E {s with heap:=h'})->
   vA (vj prog w) A (forIn ((l.map λq=>Value.ref q.2).zipIdx n) (uZ,⟨⟩) f) R E s
 |[],m,n,s,d,I,B,a,y=>by cases d
 | (P,p)::l,m,n,s,d,I,B,a,y=>by
  rw[zK,qD,jT];refine vC (J p n s _ ?_);cases d with
  |here g v H=>
   exact Src.next_end M g v H λh' e N x=>y h' e (λb o C h q=>N b o (λz=>h (by rw[z];simp)) q) x
  |there g v H t=>
   refine ZEf I B g v H λh' u O L sz=>?_
   refine ZEl M J l _ (n+1) {s with heap:=h'} (t.at a L) u (by simpa using B) a.tail λr e j x=>?_
   refine y r e (λb o C h q=>?_) x;simp only[zK,z0,not_or]at h;exact j b o C h.2 (L b o C h.1 q)
theorem ZBu{z TI TO:xE}{l:List (Src×xE)}{R:Fin->xN->Prop}(hz:IsZip s.heap z TI TO .none)(F:Tp s.heap TI (l.map λq=>Value.ref q.2))(J:l≠[])
  (h:∀c,IsZip c z TI TO .ellipsis->qU z s.heap c->∀f:xP×Nat->Option Fin×PUnit->Sem (ForInStep (Option Fin×PUnit)),
   (∀(p:xE)(k:Nat)(s:xN)(H:ForInStep (Option Fin×PUnit)->xN->Prop),ZS prog w A E z TO p k (λs'=>H (.yield (uZ,⟨⟩)) s') s->
    vA (vj prog w) A (f (.ref p,k) (uZ,⟨⟩)) H E s)->
   vA (vj prog w) A (forIn ((l.map λq=>Value.ref q.2).zipIdx 0) (uZ,⟨⟩) f) (λr s'=>r.1=uZ/\∃us,Tp s'.heap TO us/\us.length<=1000000/\IsZip s'.heap z TI TO .ellipsis/\
    ∀h',IsZip h' z TI TO (vx s'.heap.objs.size)->Tp h' s'.heap.objs.size us->h'.objs.size=s'.heap.objs.size+1->(∀b o,b≠z->s'.heap.get? b=uQ o->h'.get? b=uQ o)->R (.done (.ret (.ref s'.heap.objs.size))) {s' with heap:=h'}) E {s with heap:=c}):
  vA (vj prog w) A (Builtin.«zip.__next__» ⟨[.ref z],[]⟩) R E s:=by
 refine vC (m:=field (.ref z) 2) (vF hz rfl (x:=.bool uX) rfl (vC (vF hz rfl rfl (vC (wpAny_seqItems F rfl ?_)))));dsimp only;have y:(l.map λq=>Value.ref q.2).toArray.isEmpty=uX:=by cases l with
  |nil=>exact absurd rfl J
  |cons _ _=>simp
 rw[y];refine vC ?_;unfold vb;refine vC (vF hz rfl rfl (vM ?_));simp only[if_true];refine vC (wpAny_rule (vC (vF hz rfl rfl (vC (vN hz (by simp) λc j t=>?_)))));refine vC (vH (h c j t _ λp k s H C=>?_) (λr s' Q=>?_) λ_ _ x=>x)
 .refine vC (wpAny_onRaise ?_);refine vC (vH C (λx U T=>vM ?_) λ_ _ x=>x);obtain⟨W,B,I,K⟩:=T;dsimp only;refine vC (wpAny_seqItems B rfl ?_);dsimp only;exact vC (ZPP B I λh' P S=>vC (wpAny_letGo (vM (K h' P S))))
 .obtain⟨N,us,B,I,v,K⟩:=Q;rw[N];dsimp only;refine vC (wpAny_seqItems B rfl ?_);dsimp only;refine vC (wpAny_newTuple ?_ (by simpa using zE I size6));have g:=zy v;refine vC ?_;unfold vc;have O:us.toArray.toList.toArray=us.toArray:=by simp
  rw[O];refine vC (vN (zZ _ v) (by simp) λL n e=>?_);refine vN n (by simp) λu i d=>?_
  refine vM (K u i (d.extBut _ _ (jQ g) (e.extBut _ _ (jQ g) (z3 _ rfl))) ?_ λb o M q=>d.extBut _ _ M (e.extBut _ _ M (zZ _ q)));rw[d.1];rw[e.1,qN]
theorem ZOV{z TI TO:xE}{i:Nat}{l:List (Src×xE)}{us W:List xP}{Q:Option xP->xN->Prop}(hz:IsZip s.heap z TI TO .none)(I:Tp s.heap TI (l.map λq=>Value.ref q.2))(U:Tp s.heap TO W)(n:W.length=l.length)(hsz:l.length<=1000000)(N:l≠[])
  (a:ApZ TO l) (y:z≠TO/\(∀q∈l,q.2≠z/\q.1.adr≠z)) (d:Drw s.heap i l us)
  (Y:∀h',IsZip h' z TI TO (vx s.heap.objs.size)->Tp h' TO us->(∀q∈l,q.1.it h' q.2 (i+1))->Tp h' s.heap.objs.size us->h'.objs.size=s.heap.objs.size+1->
   (∀b o,b≠z->b≠TO->b∉l.map (·.2)->s.heap.get? b=uQ o->h'.get? b=uQ o)->Q (uQ (.ref s.heap.objs.size)) {s with heap:=h'}):vA (vj prog w) A (pyNext (.ref z)) Q E s:=by
 have Z:s.TypeIs (.ref z) "zip":=⟨_,hz,rfl⟩;unfold pyNext;refine vC (wpAny_attempt (vD Z jf (vE jf Z w5 ?_ (w6 _))));refine ZBu hz I N λh x m body T=>?_
 have g:∀b o,b≠z->s.heap.get? b=uQ o->h.get? b=uQ o:=λb o T q=>m.extBut b o T q
 have O:Drw h i l us:=by
  have S:=y.2;clear I n hsz N a y Y
  induction d with
  |nil=>exact .nil
  |cons X hv hx t ih=>exact .cons (X.at λo e=>g _ o (S _ zw).1 e) (hv.at λo e=>g _ o (S _ zw).2 e) hx (ih λq C=>S q (zV _ C))
 refine ZFX T l us [] W {s with heap:=h} O (g _ _ (.symm y.1) U) n (by simpa[n]using hsz) a.nd a.na a.np λL r B u v=>⟨rfl,us,r,d.length▸hsz,?_,λM H J P K=>?_⟩
 .refine u _ _ y.1 (λhm=>?_) x;obtain⟨q,C,e⟩:=qY.mp hm;exact(y.2 q C).1 e
 have e2:=v▸m.1;refine⟨_,rfl,vM ?_⟩;have p:=H;have k:=J;have j:=P;have f:=K;rw[e2]at p k j⊢;exact Y M p (f _ _ (.symm y.1) r) (λq C=>(B q C).at λo e=>f _ o (y.2 q C).1 e) k j λb o b1 b2 b3 q=>f b o b1 (u b o b2 b3 (g b o b1 q))
theorem ZNr{z TI TO:xE}{i:Nat}{l:List (Src×xE)}{P:List xP}{Q:Option xP->xN->Prop}(hh:A.handled=uZ)(hz:IsZip s.heap z TI TO .none)(u:Tp s.heap TI (l.map λq=>Value.ref q.2))(M:Tp s.heap TO P)(m:P.length=l.length)(hsz:l.length<=1000000)(H:l≠[])
  (a:ApZ TO l) (y:z≠TO/\(∀q∈l,q.2≠z/\q.1.adr≠z)) (d:DrwE s.heap i l)
  (T:∀h',(∀b o,b≠z->b≠TO->b∉l.map (·.2)->s.heap.get? b=uQ o->h'.get? b=uQ o)->Q uZ {s with heap:=h'}):vA (vj prog w) A (pyNext (.ref z)) Q E s:=by
 have U:s.TypeIs (.ref z) "zip":=⟨_,hz,rfl⟩;unfold pyNext;refine vC (wpAny_attempt (vD U jf (vE jf U w5 ?_ (w6 _))));refine ZBu hz u H λg n p X L=>?_
 have f:∀b o,b≠z->s.heap.get? b=uQ o->g.get? b=uQ o:=λb o L q=>p.extBut b o L q
 have I:DrwE g i l:=by
  have v:=y.2;clear u m hsz H a y T
  induction d with
  |here r J S=>exact .here (r.at λo e=>f _ o (v _ zw).1 e) (J.at λo e=>f _ o (v _ zw).2 e) S
  |there r J S t Z=>exact .there (r.at λo e=>f _ o (v _ zw).1 e) (J.at λo e=>f _ o (v _ zw).2 e) S (Z λq K=>v q (zV _ K))
 refine ZEl (A:=A.in1) (hh) L l P 0 {s with heap:=g} I (f _ _ (.symm y.1) M) (m▸hsz) a λB e k st=>?_
 have h:IsZip B z TI TO .ellipsis:=by refine k _ _ y.1 (λhm=>?_) n;obtain⟨q,K,e⟩:=qY.mp hm;exact(y.2 q K).1 e
 obtain⟨o,O,W⟩:=st;have N:e≠z:=λx=>by subst x;rw[h]at O;cases O;simp at W
 refine vN h (by simp) λC _ j=>?_
 exact vC (wpAny_isInstance ⟨o,j.extBut _ _ N O,W⟩ isSubtype_stop (vM (T C λb o Y b2 b3 q=>j.extBut _ _ Y (k b o b2 b3 (f b o Y q)))))
theorem ZEr:∀(c:List Src)(pre:Array xP)(s:xN){Q:Array xP->xN->Prop},(∀d∈c,∃xs,d.val s.heap xs)->
  (∀h',(∀q∈c.zipIdx s.heap.objs.size,q.1.it h' q.2 0)->h'.objs.size=s.heap.objs.size+c.length->(∀b o,s.heap.get? b=uQ o->h'.get? b=uQ o)->Q (pre++((c.zipIdx s.heap.objs.size).map λq=>Value.ref q.2).toArray) {s with heap:=h'})->
  vA (vj prog w) A (forIn (c.map λd=>Value.ref d.adr) pre λx r=>do let v<-holding r.toList (pyIter x);pure (ForInStep.yield (r.push v))) Q E s
 |[],pre,s,Q,j,h=>by rw[qK,List.forIn_nil];refine vM ?_;have:=h s.heap (λq f=>by cases f) rfl (λ_ _ e=>e);simpa using this
 | d::c,pre,s,Q,j,h=>by
  rw[zK,jT];obtain⟨xs,y⟩:=j d zw;refine vC (vC (vG (Src.iter y (vM ?_))));dsimp only;refine ZEr c (pre.push (.ref s.heap.objs.size)) {s with heap:=s.heap.push {cls:=.type d.itn,data:=.fields #[.ref d.adr,.int 0 0]}} (λl t=>?_) λh' i k g=>?_
  .obtain⟨u,p⟩:=j l (zV _ t);exact⟨u,p.at λo e=>zZ _ e⟩
  dsimp only at i k g⊢;rw[qN ..]at i k⊢;have:=h h' (λq f=>?_) (by rw[k,zN];lia) (λb o e=>g b o (zZ _ e))
  .rw[qD,zK]at this;simpa using this
  .rw[qD]at f;rcases z0.mp f with rfl|f
   .exact⟨_,g _ _ (z3 _ rfl),rfl,rfl⟩
   exact i q f
theorem ZIQ{c:List Src}{Q:xP->xN->Prop}(r:∀d∈c,∃xs,d.val s.heap xs)(H:c.length<=1000000)
  (y:checkTypeCall "zip" ⟨c.map λd=>Value.ref d.adr,[]⟩=pure ()) (t:checkBuiltinCall "zip.__new__" ⟨.type "zip"::c.map λd=>Value.ref d.adr,[]⟩=pure ()) (hok:∀obj,argsOk "object.__init__" ⟨obj::c.map λd=>Value.ref d.adr,[]⟩)
  (h:∀h' n,n=s.heap.objs.size+c.length->IsZip h' (n+2) n (n+1) .none->Tp h' n ((c.zipIdx s.heap.objs.size).map λq=>Value.ref q.2)->Tp h' (n+1) (c.map λ_=>Value.none)->(∀q∈c.zipIdx s.heap.objs.size,q.1.it h' q.2 0)->
   (∀b o,s.heap.get? b=uQ o->h'.get? b=uQ o)->Q (.ref (n+2)) {s with heap:=h'}):
  vA (vj prog w) A (call (.type "zip") (c.map λd=>Value.ref d.adr)) Q E s:=by
 have g:Meets (Builtin.«zip.__new__» ⟨.type "zip"::c.map λd=>.ref d.adr,[]⟩) (λ_ R s=>(∀d∈c,∃xs,d.val s.heap xs)/\
   ∀h' n,n=s.heap.objs.size+c.length->IsZip h' (n+2) n (n+1) .none->Tp h' n ((c.zipIdx s.heap.objs.size).map λq=>.ref q.2)->Tp h' (n+1) (c.map λ_=>.none)->(∀q∈c.zipIdx s.heap.objs.size,q.1.it h' q.2 0)->
    (∀b o,s.heap.get? b=uQ o->h'.get? b=uQ o)->R (.ok (.ret (.ref (n+2)))) {s with heap:=h'}):=
  .of_wp λprog w A R s M=>by
   obtain⟨r,N⟩:=M;have C:=sub_zip;unfold Builtin.«zip.__new__» wS
   wp_walk
   refine ZEr c #[] s r λk x j u=>vM ?_
   have L:(#[]++((c.zipIdx s.heap.objs.size).map λq=>.ref q.2).toArray:Array xP).toList=(c.zipIdx s.heap.objs.size).map λq=>.ref q.2:=by simp
   rw[L];have f:((c.zipIdx s.heap.objs.size).map λq=>Value.ref q.2).length=c.length:=by simp
   refine vC (wpAny_newTuple ?_ (f▸zE H size6));refine vC (wpAny_newTuple ?_ (by rw[zj,f];exact zE H size6));refine vC ?_;unfold wa;dsimp only;refine vI (vM ⟨_,rfl,?_⟩) (by simp[sizeOk,wc,vk]);generalize P:s.heap.objs.size+c.length=n at*;have J:((c.zipIdx s.heap.objs.size).map λq=>Value.ref q.2).map (λ_=>.none)=c.map λ_=>Value.none:=by refine qS (by simp) λi k O=>by simp
   dsimp only;rw[J];generalize((c.zipIdx s.heap.objs.size).map λq=>Value.ref q.2)=m at*;generalize(c.map λ_=>Value.none)=B at*;have l:(k.push {cls:=.type "tuple",data:=.seq m.toArray}).objs.size=n+1:=by rw[qN,j]
   have z:((k.push {cls:=.type "tuple",data:=.seq m.toArray}).push {cls:=.type "tuple",data:=.seq B.toArray}).objs.size=n+2:=by rw[qN,l]
   rw[z];refine N _ n rfl ?_ (zZ _ (zZ _ (by rw[<-j];exact z3 _ rfl))) (zZ _ (by rw[<-l];exact z3 _ rfl)) (λq K=>(x q K).at λo e=>zZ _ (zZ _ (zZ _ e))) λb o e=>zZ _ (zZ _ (zZ _ (u b o e)))
   have:=z3 ((k.push {cls:=.type "tuple",data:=.seq m.toArray}).push {cls:=.type "tuple",data:=.seq B.toArray}) (o:={cls:=.type "zip",data:=.fields #[.none,.bool uX,.bool uX,.ref k.objs.size,.ref (k.push {cls:=.type "tuple",data:=.seq m.toArray}).objs.size]}) rfl;rw[z]at this;rw[j,l]at this;rw[j,l];exact this
 refine callType_new PySem.F.called_zip (by decide) y t hok PySem.F.entry_zip_new g ⟨r,λh' n I j p v x u=>⟨⟨_,j,rfl⟩,h h' n I j p v x u⟩⟩
end
end _D
namespace _D
open PySem PySem.W PyProof.Rows
section
def Hv(lt:Nat->Nat->Bool){α:Type}:KasT α->α
 |.ret a=>a
 |.ask i j k=>Hv lt (k (lt i j))
variable{lt:Nat->Nat->Bool}
noncomputable abbrev pt(p:Array Nat)(j:Nat):Nat:=p.getD j 0
end
end _D
namespace _D
open PySem PySem.Spec _L
open PyProof.Rows hiding St
variable{vS:List (xE×Obj)}{elts:List xG}
section
variable{X:Cx}{vS:List (xE×Obj)}{σ:St}{H:Hp}{s:xN}{h':Heap}
theorem Vh{t':Nat}{fp:List xE}(I:Inv X vS σ H s)(k:∀b o,b∉fp->s.heap.get? b=uQ o->h'.get? b=uQ o)(g:∀b∈fp,FpOk X vS H b):Inv X vS σ H {s with heap:=h',toks:=t'}:=by
 have f:∀b u,H b=uQ u->b∉fp:=λb u e z=>by rw[(g b z).1]at e;cases e
 refine I.step (λb i=>?_) (λb o _ _ a e _=>k b o a e) (λb o _ _ a e _=>⟨o.slots,k b o a e⟩) (λ_ _ _ _ n=>n)
  (λb o a e=>⟨o,k b o a e⟩) (λ_ _ e=>e) (λ_ _ _ e=>e) (λb C e=>⟨#[],by rw[e];simp⟩) (λm l=>?_) (λb u e=>?_) I.bare
 .obtain⟨B,x,F,t,A,j⟩:=g b i;exact⟨t,x,A,j⟩
 .obtain⟨o,p,w,y,r⟩:=l;exact⟨o,p,w,k _ o (λz=>(g _ z).2.1 rfl) y,r⟩
 refine(I.hok b u e).stay (λc v a q=>k c v ?_ q) (λ_ q=>q) λ_ _ q=>q
 rcases a with z|z
 .rw[z];exact f b u e
 exact f c _ z
theorem ZCA{t':Nat}{fp:List xE}{p:xE}{xs:List V}{its:List xP}(I:Inv X vS σ H s)(k:∀b o,b∉fp->s.heap.get? b=uQ o->h'.get? b=uQ o)(h:∀b∈fp,FpOk X vS H b)(hp:s.heap.objs.size<=p)
  (hz:xs.length<=sizeLine) (r:Vals xs its) (i:Tp h' p its):Inv X vS σ (upd H p (.tup xs)) {s with heap:=h',toks:=t'}:=by
 obtain⟨d,f,l,j,g,e⟩:=I.Hh hp (I.hok.fresh hp);exact Vc (Vh I k h) d (zE I.sz hp) f g e ⟨hz,its,r,_,i,rfl,_,rfl⟩
end
def Src.sq(K:za)(H:Hp)(xs:List V):Src->Prop
 |.l a=>SqL K H a xs
 |.t a=>SqT K H a xs
theorem Src.sq.val{X:Cx}{d:St}{H:Hp}{s:xN}{b:Src}{xs:List V}(I:Inv X vS d H s)(h:b.sq X.K H xs):∃its:List xP,Vals xs its/\b.val s.heap its.toArray/\xs.length<=sizeLine:=by
 cases b with
 |l a=>obtain⟨its,r,p,c⟩:=I.list h;exact⟨its,r,p.isList,c⟩
 |t a=>obtain⟨its,r,p,c⟩:=I.tuple h;exact⟨its,r,p,c⟩
theorem Src.sq.inj{X:Cx}{c:St}{H:Hp}{s:xN}{b:Src}{xs ys:List V}(I:Inv X vS c H s)(h:b.sq X.K H xs)(h':b.sq X.K H ys):xs=ys:=by
 cases b with
 |l a=>exact I.Zh h h'
 |t a=>exact I.Yh h h'
def Ite(K:za)(sr:Src)(n:Int):It:=
 ⟨λi H=>∃xs x,sr.sq K H xs/\xs[i]?=uQ x,λi H v H'=>∃p x,v=.ref p/\H p=uZ/\H'=upd H p (.tup [.int (n+i),x])/\∀xs,sr.sq K H xs->xs[i]?=uQ x,λi H=>∃xs,sr.sq K H xs/\xs.length<=i⟩
theorem ZJ4{P:xL}{w:xR}{K:za}{x1}{pos:Pos}(Z:Src)(n:Int)(e it:xE)(B:e≠it):
  Turn P w K (.Tuple elts x1 pos) (Ite K Z n) [e,it] e (λi h=>∃g a,En h e it .none (n+i) g a/\Gv (n+i) g/\Z.it h it i) where
 mem:=by simp
 obj:=λi h f b j=>by
  obtain⟨g,a,d,_,o,ho,_,hd⟩:=f;rcases(show b=e∨b=it by simpa using j)with rfl|rfl
  .exact⟨_,d,λv z=>by cases z⟩
  exact⟨o,ho,λv z=>by rw[hd]at z;cases z⟩
 keep:=λi h h' f k=>by obtain⟨g,a,d,y,p⟩:=f;exact⟨g,a,k e (by simp) _ d,y,p.at λo q=>k it (by simp) o q⟩
 item:=by
  intro X L hw N Y i m s σ H E I F f y;subst L hw N;obtain⟨xs,x,J,Q⟩:=y;obtain⟨S,O,M,hz⟩:=Src.sq.val I J;obtain⟨u,hu,ru⟩:=O.get Q;obtain⟨g,a,d,r,p⟩:=f;refine ZKk d r p M (by simpa using hu) B λh1 t tk e1 i1 t1 z1 k1=>⟨_,rfl,?_⟩
  refine ZLW e1 λh2 e2 T=>?_
  have A:=jQ (zy d);have I2:Inv X m σ (upd H s.heap.objs.size (.tup [.int (n+i),x])) {s with heap:=h2,toks:=tk}:=
   ZCA I (λb o j q=>by
    have c:b≠e/\b≠it:=by simpa using j
    exact T.extBut b o c.1 (k1 b o c.1 c.2 q)) F (zx _) (by show 2<=sizeLine;decide) (.cons ⟨t,rfl⟩ (.cons ru .nil)) (T.extBut _ _ A t1)
  refine⟨.ref s.heap.objs.size,_,I2,rfl,⟨_,x,rfl,I.hok.fresh (zx _),rfl,λys hy=>(Src.sq.inj I hy J)▸Q⟩,⟨.none,u,?_,.inl rfl,i1.at λo q=>T.extBut _ _ (.symm B) q⟩,λb j=>?_⟩
  .have ee:n+(i:Int)+1=n+((i+1:Nat):Int):=by lia
   rw[<-ee];exact e2
  have c:b=e∨b=it:=by simpa using j
  rw[Am (λz=>?_)]
  .exact(F b j).1
  .rcases c with rfl|rfl
   .exact A z.symm
   .have C:=Src.it.lt p;rw[z]at C;exact qj _ C
 done:=by intro X L hw N Y i m s σ H E I F f y;subst L hw N;obtain⟨xs,J,Q⟩:=y;obtain⟨S,O,M,hz⟩:=Src.sq.val I J;obtain⟨g,a,d,r,p⟩:=f;have hl:=O.length;exact ZQI (I.ok.hd Y) d p M (by simp;lia) λh1 xb=>⟨rfl,Vh I (λb o j q=>xb b o (λz=>j (by simp[z])) q) F⟩
 self:=λ_ _ _ _ _ f h=>by obtain⟨g,a,d,_⟩:=f;exact ZDg d h
section
variable{X:Cx}{E:XK}
theorem ZPk{prog:xL}{w:xR}{A:xF}{E:xP->xN->Prop}{s:xN}{sr:Src}{xs:Array xP}{Q:xP->xN->Prop}(hv:sr.val s.heap xs)
  (h:∀h',En h' (s.heap.objs.size+1) s.heap.objs.size .none 0 .none .none->sr.it h' s.heap.objs.size 0->(∀b o,s.heap.get? b=uQ o->h'.get? b=uQ o)->Q (.ref (s.heap.objs.size+1)) {s with heap:=h'}):
  vA (vj prog w) A (call (.type "enumerate") [.ref sr.adr]) Q E s:=by
 have g:Meets (Builtin.«enumerate.__new__» ⟨[.type "enumerate",.ref sr.adr],[]⟩) (λ_ R s=>sr.val s.heap xs/\
   R (.ok (.ret (.ref (s.heap.push {cls:=.type sr.itn,data:=.fields #[.ref sr.adr,.int 0 0]}).objs.size)))
    {s with heap:=(s.heap.push {cls:=.type sr.itn,data:=.fields #[.ref sr.adr,.int 0 0]}).push {cls:=.type "enumerate",data:=.fields #[.none,.bool uX,.ref s.heap.objs.size,vx 0,.none,.none]}}):=
  .of_wp λprog w A R s h=>by
   obtain⟨hp,g,d,tk,os⟩:=s;obtain⟨hl,h⟩:=h;have hsub:=sub_enumerate;have hL:=hl
   wp_walk
   refine wpAny_stack_any λst=>vM ?_
   split
   .rename_i c _ _ _ _ _
    cases(c==Value.type "enumerate")<;>(wp_walk using Src.iter hL;exact⟨_,rfl,h⟩)
   wp_walk using Src.iter hL
   exact⟨_,rfl,h⟩
 refine callType_new PySem.F.called_enumerate (by decide) (PySem.F.typeCall_enumerate_1 _) (PySem.F.newCall_enumerate_1 _) (λobj=>PySem.F.args_object_init_2 obj _) PySem.F.entry_enumerate_new g ⟨hv,?_⟩;have hz:(s.heap.push {cls:=.type sr.itn,data:=.fields #[.ref sr.adr,.int 0 0]}).objs.size=s.heap.objs.size+1:=qN ..;rw[hz];have he:En ((s.heap.push {cls:=.type sr.itn,data:=.fields #[.ref sr.adr,.int 0 0]}).push {cls:=.type "enumerate",data:=.fields #[.none,.bool uX,.ref s.heap.objs.size,vx 0,.none,.none]}) (s.heap.objs.size+1) s.heap.objs.size .none 0 .none .none:=by
  have:=z3 (s.heap.push {cls:=.type sr.itn,data:=.fields #[.ref sr.adr,.int 0 0]}) (o:={cls:=.type "enumerate",data:=.fields #[.none,.bool uX,.ref s.heap.objs.size,vx 0,.none,.none]}) rfl;rw[hz]at this;exact this
 exact⟨⟨_,he,rfl⟩,h _ he ⟨_,zZ _ (z3 _ rfl),rfl,rfl⟩ λb o x=>zZ _ (zZ _ x)⟩
def ZMg(K:za)(ta:TA):TI:=λσ H R=>ta σ H λvs H1=>∃sr xs,vs=[.ref (Src.adr sr)]/\sr.sq K H1 xs/\R (Ite K sr 0) H1
theorem ZKT{x1}(o:Gl X "enumerate")(y:X.mg "enumerate"=uZ)(F:PA X [a] ta)(v:v8 [a] X.env=[(uX,eval a X.env)]:=by rfl):PI X (.Tuple elts x1 tp) (.Call (.Name "enumerate" p) [a] [] pos) (ZMg X.K ta):=by
 intro f s z H R I h;refine Call_ (Hy I o y PyProof.Rows.boot_enumerate (qa (thn (F pos f s z H _ I h) λP c zz=>?_) v rfl));obtain⟨L,k,g,C,l⟩:=zz;obtain⟨w,N,e,n,q⟩:=l;subst e;cases C with
 |cons r t=>
  cases t;cases r;obtain⟨A,M,m,J⟩:=Src.sq.val g n;refine ZPk m λO j B x=>?_
  refine ZDg j ?_;refine⟨c.heap.objs.size+1,[c.heap.objs.size+1,c.heap.objs.size],_,_,k,rfl,g.kept x,ZJ4 w 0 _ _ (Nat.succ_ne_self _),⟨.none,.none,by simpa using j,.inl rfl,B⟩,λb u=>?_,q⟩;have i:b=c.heap.objs.size+1∨b=c.heap.objs.size:=by simpa using u
  have d:c.heap.objs.size<=b:=by rcases i with rfl|rfl<;>lia
  exact g.Hh d (g.hok.fresh d)
end
inductive DrV (K:za) (H:Hp) (i:Nat):List Src->List V->Prop where
 |nil:DrV K H i [] []
 |cons {sr r v us xs} (hq:Src.sq K H xs sr) (hx:xs[i]?=uQ v) (t:DrV K H i r us):DrV K H i (sr::r) (v::us)
inductive StV (K:za) (H:Hp) (i:Nat):List Src->Prop where
 |here {sr r xs} (hq:Src.sq K H xs sr) (hx:xs.length<=i):StV K H i (sr::r)
 |there {sr r v xs} (hq:Src.sq K H xs sr) (hx:xs[i]?=uQ v) (t:StV K H i r):StV K H i (sr::r)
def Itz(K:za)(ls:List Src):It:=
 ⟨λi H=>∃us,DrV K H i ls us,λi H v H'=>∃p us,v=.ref p/\H p=uZ/\H'=upd H p (.tup us)/\∀us',DrV K H i ls us'->us'=us,λi H=>StV K H i ls⟩
theorem DrV.length{K:za}{H:Hp}{i:Nat}{a:List Src}{us:List V}(d:DrV K H i a us):us.length=a.length:=by
 induction d with
 |nil=>rfl
 |cons _ _ _ b=>simp[b]
section
variable{X:Cx}{vS:List (xE×Obj)}{σ:St}{H:Hp}{s:xN}
theorem DrV.inj(I:Inv X vS σ H s):∀{f:List Src}{us us':List V},DrV X.K H i f us->DrV X.K H i f us'->us=us'
 |[],_,_,d,b=>by cases d;cases b;rfl
 | k::f,_,_,d,b=>by
  cases d with
  | cons g j t=>
   cases b with
   |cons c a h=>
    have e:=Src.sq.inj I g c;subst e;rw[j]at a;cases a;rw[DrV.inj I t h]
theorem DrV.drw(I:Inv X vS σ H s):∀{l:List (Src×xE)}{us:List V},DrV X.K H i (l.map (·.1)) us->(∀q∈l,q.1.it s.heap q.2 i)->∃a,Drw s.heap i l a/\Vals us a
 |[],us,d,h=>by cases d;exact⟨[],.nil,.nil⟩
 | (n,p)::l,us,d,h=>by
  cases d with
  |cons b o t=>
   obtain⟨c,m,g,r⟩:=Src.sq.val I b;obtain⟨u,f,e⟩:=m.get o;obtain⟨a,j,k⟩:=DrV.drw I t λq b=>h q (zV _ b)
   exact⟨u::a,.cons (h (n,p) zw) g (by simpa using f) j,.cons e k⟩
theorem StV.drw(I:Inv X vS σ H s):∀{l:List (Src×xE)},StV X.K H i (l.map (·.1))->(∀q∈l,q.1.it s.heap q.2 i)->DrwE s.heap i l
 |[],d,h=>by cases d
 | (f,p)::l,d,h=>by
  cases d with
  |here a g=>
   obtain⟨b,e,c,k⟩:=Src.sq.val I a;have m:=e.length;exact .here (h (f,p) zw) c (by simp;lia)
  |there a g t=>
   obtain⟨b,e,c,k⟩:=Src.sq.val I a;obtain⟨u,j,n⟩:=e.get g;exact .there (h (f,p) zw) c (by simpa using j) (StV.drw I t λq a=>h q (zV _ a))
end
theorem ZIO{P:xL}{w:xR}{K:za}{x1}{pos:Pos}(l:List (Src×xE))(z TI TO:xE)(a:ApZ TO l)(A:z≠TO/\(∀q∈l,q.2≠z/\q.1.adr≠z))(M:TI≠z/\TI≠TO/\∀q∈l,q.2≠TI)(hsz:l.length<=1000000)(x:l≠[]):
  Turn P w K (.Tuple elts x1 pos) (Itz K (l.map (·.1))) (z::TI::TO::l.map (·.2)) z
   (λi h=>IsZip h z TI TO .none/\Tp h TI (l.map λq=>Value.ref q.2)/\(∃r,Tp h TO r/\r.length=l.length)/\∀q∈l,q.1.it h q.2 i) where
 mem:=by simp
 obj:=λi h j b c=>by
  obtain⟨m,d,⟨r,f,_⟩,n⟩:=j;rcases z0.mp c with rfl|c
  .exact⟨_,m,λv z=>by cases z⟩
  rcases z0.mp c with rfl|c
  .exact⟨_,d,λv z=>by cases z⟩
  .rcases z0.mp c with rfl|c
   .exact⟨_,f,λv z=>by cases z⟩
   .obtain⟨q,g,rfl⟩:=qY.mp c;obtain⟨o,p,_,Q⟩:=n q g;exact⟨o,p,λv z=>by rw[Q]at z;cases z⟩
 keep:=λi h h' j k=>by obtain⟨m,d,⟨r,f,p⟩,n⟩:=j;exact⟨k z (by simp) _ m,k TI (by simp) _ d,⟨r,k TO (by simp) _ f,p⟩,λq g=>(n q g).at λo e=>k q.2 (by simp only[z0];exact .inr (.inr (.inr (qY.mpr ⟨q,g,rfl⟩)))) o e⟩
 item:=by
  intro X C hw L O i t s σ H E I y j J;subst C hw L;obtain⟨T,F⟩:=J;obtain⟨m,d,⟨r,f,p⟩,n⟩:=j;obtain⟨ws,S,rv⟩:=DrV.drw I F n;refine ZOV m d f p hsz x a A S λh1 z1 t1 i1 p1 s1 B=>⟨_,rfl,?_⟩
  refine wpAny_letOwnedTupleGo_zip z1 λh2 z2 u=>?_
  have N:T.length<=sizeLine:=by rw[F.length,zj];exact zE hsz size6
  have I2:=
   ZCA (t':=s.toks) I (λb o c q=>by simp only[z0,not_or]at c;exact u.extBut b o c.1 (B b o c.1 c.2.2.1 c.2.2.2 q)) y (zx _) N rv (u.extBut _ _ (jQ (zy m)) p1)
  refine⟨.ref s.heap.objs.size,_,I2,rfl,⟨_,T,rfl,I.hok.fresh (zx _),rfl,λus' Y=>DrV.inj I Y F⟩,⟨z2,(λb o U b2 Z q=>u.extBut b o U (B b o U b2 Z q)) TI _ M.1 M.2.1 (λhm=>?_) d,⟨ws,u.extBut _ _ (.symm A.1) t1,S.length⟩,λq g=>(i1 q g).at λo e=>u.extBut _ _ (A.2 q g).1 e⟩,λb c=>?_⟩
  .obtain⟨q,g,e⟩:=qY.mp hm;exact M.2.2 q g e
  rw[Am (λe=>?_)]
  .exact(y b c).1
  .have lt:b<s.heap.objs.size:=by
    rcases z0.mp c with rfl|c
    .exact zy m
    .rcases z0.mp c with rfl|c
     .exact zy d
     .rcases z0.mp c with rfl|c
      .exact zy f
      .obtain⟨q,g,rfl⟩:=qY.mp c;exact(n q g).lt
   rw[e]at lt;exact qj _ lt
 done:=by
  intro X C hw L O i t s σ H E I y j J;subst C hw L;obtain⟨m,d,⟨r,f,p⟩,n⟩:=j;refine ZNr (I.ok.hd O) m d f p hsz x a A (StV.drw I J n) λh1 B=>⟨rfl,?_⟩
  exact Vh I (λb o c q=>by simp only[z0,not_or]at c;exact B b o c.1 c.2.2.1 c.2.2.2 q) y
 self:=λ_ _ _ _ _ j h=>wpAny_pyIter_zip j.1 h
def Hq (G:DH) (j:Nat):List D->Option (Option (List D))
 |[]=>uQ (uQ [])
 | d::r=>match Bm d G with
  |none=>uZ
  | some xs=>match xs[j]? with
   |none=>uQ uZ
   |some x=>match Hq G j r with
    |some (uQ ys)=>uQ (uQ (x::ys))
    |o=>o
def Hi(ds:List D)(j:Nat)(G:DH):Option (Option D):=(Hq G j ds).map λo=>o.map D.tup
def lenOf(G:DH)(d:D):Nat:=match Bm d G with
 |some xs=>xs.length
 |none=>0
def I7(G:DH)(d:D):Bool:=(Bm d G).isSome
def G7(n:Int)(d:D)(j:Nat)(G:DH):Option (Option D):=match Bm d G with
 |none=>uZ
 |some xs=>uQ (xs[j]?.map λx=>.tup [.int (n+j),x])
def Eu(ds:List D)(G:DH):R ItD:=match ds with
 |[d]=>if I7 G d=uJ then .ok (.fn (lenOf G d) (G7 0 d)) G else .bad
 |_=>.bad
def Hd(n:Nat)(ds:List D)(G:DH):R ItD:=if ds.all (I7 G)=uJ/\ds.length=n then .ok (.fn (lenOf G (ds.headD .non)) (Hi ds)) G else .bad
section
variable{X:Cx}{E:XK}
theorem ZDT{a:Wd}{G:DH}{d:D}{v:V}{xs:List D}(s:Sim a G)(r:Rep a d v)(h:Bm d G=uQ xs):
  ∃j:Src,v=.ref j.adr/\(∃vs,j.sq a.K a.H vs)/\∀b:Wd,Ext a b->∀e,Sim b e->∀ys,Bm d e=uQ ys->∃us,j.sq b.K b.H us/\Reps b ys us:=by
 cases d with
 |tup B=>
  obtain⟨p,vs,rfl,f,n⟩:=r;refine⟨.t p,rfl,⟨vs,f⟩,λb x e k ys c=>?_⟩;cases(c);exact⟨vs,x.sqT f,n.mono x⟩
 |fl B=>
  obtain⟨p,vs,rfl,f,n⟩:=r;refine⟨.l p,rfl,⟨vs,f.sq⟩,λb x e k ys c=>?_⟩;cases(c);exact⟨vs,(x.fzL f).sq,n.mono x⟩
 | ref i=>
  obtain⟨z,rfl⟩:=r;have C:∃g,G[i]?=uQ (.lst g):=by
   unfold Bm at h;dsimp only at h;split at h
   .rename_i g q;exact⟨g,q⟩
   cases h
  obtain⟨g,q⟩:=C;obtain⟨vs,y,_⟩:=s.lst q;refine⟨.l (a.m i),rfl,⟨vs,.of y⟩,λb x e k ys c=>?_⟩;unfold Bm at c;dsimp only at c;split at c
  .rename_i w o;cases c;obtain⟨us,u,A⟩:=k.lst o;rw[x.m i z]at u;exact⟨us,.of u,A⟩
  cases c
 |_=>cases h
theorem ZPt{a:Wd}{G:DH}{d:D}{v:V}{z:Src}(hk:a.K=X.K)(r:∀b:Wd,Ext a b->∀h,Sim b h->∀ys,Bm d h=uQ ys->∃us,z.sq b.K b.H us/\Reps b ys us)(n:Nat):RepI a (.fn n (G7 0 d)) (Ite X.K z 0):=by
 intro b x h j i;have A:=x.k.trans hk;constructor
 .intro e f;unfold G7 at f;split at f
  .cases f
  rename_i ys m;obtain⟨us,g,l⟩:=r b x h j ys m;rw[A]at g;cases c:ys[i]? with
  |none=>rw[c]at f;cases f
  |some y=>
   rw[c]at f;have q:D.tup [.int (0+i),y]=e:=by simpa using f
   subst q;obtain⟨u,t,B⟩:=l.get c;refine⟨⟨us,u,g,t⟩,?_⟩;rintro w F ⟨p,C,rfl,hp,rfl,o⟩;refine⟨b.put p (.tup [.int (0+i),C]),rfl,.put hp,j.put hp,p,_,rfl,.of Ew,?_⟩;have s:=o us g;rw[t]at s;cases s;exact⟨_,_,rfl,rfl,.cons (B.mono (.put hp)) rfl⟩
 intro f;unfold G7 at f;split at f
 .cases f
 .rename_i ys m;obtain⟨us,g,l⟩:=r b x h j ys m;rw[A]at g;cases c:ys[i]? with
  |none=>exact⟨us,g,by rw[<-l.length];exact j3.mp c⟩
  |some y=>rw[c]at f;cases f
theorem ZMF{elts:List xG}{x1}{tp:Pos}{e:xG}{ta:DA}{p pos:Pos}(o:Gl X "enumerate")(y:X.mg "enumerate"=uZ)(A:QA X E [e] ta)(t:v8 [e] X.env=[(uX,eval e X.env)]:=by rfl):
  QI X E (.Tuple elts x1 tp) (.Call (.Name "enumerate" p) [e] [] pos) (Bg Eu ta):=(ZKT o y A t).mono λJ H Q h=>by
 obtain⟨a,S,G,hk,rfl,s,r,h⟩:=h;refine⟨a,S,G,hk,rfl,s,r,(O6 h).imp ?_⟩;rintro F _ ⟨b,C,i,rfl,x,f,q,-,c⟩;unfold Eu at c;split at c
 .rename_i d;split at c
  .rename_i hok;obtain⟨v,r,n,j,l⟩:=q;cases(l);subst n;obtain⟨I,B⟩:=jU.mp (hok);obtain⟨u,rfl,⟨z,m⟩,w⟩:=ZDT f j B;have g:=x.k.trans hk;exact⟨u,z,rfl,by rw[<-g];exact m,c b _ (.refl b) f (ZPt (G:=i) (v:=.non) g w _)⟩
  exact c.elim
 exact c.elim
theorem ZEM(s:Sim a G):∀{l:List D}{vs:List V},Reps a l vs->l.all (I7 G)=uJ->∃j:List Src,vs=j.map (λm=>V.ref m.adr)/\(∀m∈j,∃us,m.sq a.K a.H us)/\
   ∀b:Wd,Ext a b->∀f,Sim b f->∀i,(∀ys,Hq f i l=uQ (uQ ys)->∃us,DrV b.K b.H i j us/\Reps b ys us)/\(Hq f i l=uQ uZ->StV b.K b.H i j)
 |[],vs,r,_=>by
  cases(r)
  refine⟨[],rfl,(λ_ h=>nomatch h),λb x f k i=>⟨λys h=>?_,λh=>?_⟩⟩
  .cases h;exact⟨[],.nil,rfl⟩
  cases h
 | d::l,vs,r,h=>by
  rw[jy,zL]at h;obtain⟨v,U,rfl,M,O⟩:=r;obtain⟨T,S⟩:=jU.mp (h.1);obtain⟨m,rfl,P,L⟩:=ZDT s M S;obtain⟨j,rfl,A,n⟩:=ZEM s O h.2;refine⟨m::j,rfl,λF z=>?_,λb x f k i=>⟨λys c=>?_,λc=>?_⟩⟩
  .rcases z0.mp z with rfl|z
   .exact P
   exact A F z
  .unfold Hq at c;split at c
   .cases c
   rename_i q t;obtain⟨us,p,o⟩:=L b x f k q t;split at c
   .cases c
   .rename_i y e;obtain⟨u,g,J⟩:=o.get e;split at c
    .rename_i w B;cases c;obtain⟨I,N,Q⟩:=(n b x f k i).1 w B;exact⟨u::I,.cons p g N,.cons J Q⟩
    .rename_i C;exact absurd c (C _)
  unfold Hq at c;split at c
  .cases c
  .rename_i q t;obtain⟨us,p,o⟩:=L b x f k q t;split at c
   .rename_i e;exact .here p (by rw[<-o.length];exact j3.mp e)
   .rename_i y e;obtain⟨u,g,J⟩:=o.get e;split at c
    .cases c
    exact .there p g ((n b x f k i).2 c)
theorem ZNU(hk:a.K=X.K)(m:∀b:Wd,Ext a b->∀f,Sim b f->∀i,(∀ys,Hq f i ds=uQ (uQ ys)->∃us,DrV b.K b.H i ls us/\Reps b ys us)/\(Hq f i ds=uQ uZ->StV b.K b.H i ls))(n:Nat):
  RepI a (.fn n (Hi ds)) (Itz X.K ls):=by
 intro b x f h i;have q:=x.k.trans hk;constructor
 .intro e c;unfold Hi at c;cases g:Hq f i ds with
  |none=>rw[g]at c;cases c
  | some o=>
   cases o with
   |none=>rw[g]at c;cases c
   |some ys=>
    rw[g]at c;have j:D.tup ys=e:=by simpa using c
    subst j;obtain⟨us,d,r⟩:=(m b x f h i).1 ys g;rw[q]at d;refine⟨⟨us,d⟩,?_⟩;rintro w t ⟨p,s,rfl,hp,rfl,l⟩;cases l us d;exact⟨b.put p (.tup us),rfl,.put hp,h.put hp,p,us,rfl,.of Ew,r.mono (.put hp)⟩
 intro c;unfold Hi at c;cases g:Hq f i ds with
 |none=>rw[g]at c;cases c
 | some o=>
  cases o with
  |none=>
   have:=(m b x f h i).2 g;rw[q]at this;exact this
  |some ys=>rw[g]at c;cases c
def iZip(n:Nat)(K:za)(ta:TA):TI:=λσ H R=>ta σ H λvs H1=>∃ls:List Src,vs=ls.map (λsr=>V.ref sr.adr)/\(∀sr∈ls,∃us,sr.sq K H1 us)/\ls.length=n/\R (Itz K ls) H1
theorem ZEq:∀{b:List Src}{us:List xP},Vals (b.map λa=>V.ref a.adr) us->us=b.map λa=>Value.ref a.adr
 |[],us,h=>by cases h;rfl
 | a::b,us,h=>by
  rw[zK]at h;cases h with
  |cons r c=>
   cases r;rw[ZEq c]
   rfl
theorem Q8{a:List Src}{n:Nat}{q:Src×Nat}(h:q∈a.zipIdx n):q.1∈a/\n<=q.2/\q.2<n+a.length:=by obtain⟨i,b,rfl⟩:=jR h;simp[List.length_zipIdx]at b;simp only[List.getElem_zipIdx];exact⟨qV b,by lia,by lia⟩
theorem ZNn{x1}{tp:Pos}{N:St}{H:Hp}{s:xN}{R:It->Hp->Prop}{d:List Src}(I:Inv X vS N H s)(p:∀c∈d,∃us,c.sq X.K H us)(u:d≠[])(M:d.length<=1000000)
  (x:checkTypeCall "zip" ⟨d.map λc=>Value.ref c.adr,[]⟩=pure ()) (m:checkBuiltinCall "zip.__new__" ⟨.type "zip"::d.map λc=>Value.ref c.adr,[]⟩=pure ()) (hok:∀obj,argsOk "object.__init__" ⟨obj::d.map λc=>Value.ref c.adr,[]⟩)
  (q:R (Itz X.K d) H):vA (vj X.prog X.w) X.A (call (.type "zip") (d.map λc=>Value.ref c.adr)) (λv U=>vA (vj X.prog X.w) X.A (pyIter v) (PIE X vS N (.Tuple elts x1 tp) R) X.xe U) X.xe s:=by
 have B:∀c∈d,∃J,c.val s.heap J:=λc a=>by obtain⟨us,h⟩:=p c a;obtain⟨its,_,L,_⟩:=Src.sq.val I h;exact⟨_,L⟩
 have y:∀c∈d,c.adr<s.heap.objs.size:=λc a=>by obtain⟨J,h⟩:=B c a;obtain⟨o,n,Z,_⟩:=h.obj;exact zy Z
 refine ZIQ B M x m hok λL n z F l t hi W=>?_
 refine wpAny_pyIter_zip F ?_
 have C:(d.zipIdx s.heap.objs.size).map (·.1)=d:=by refine qS (by simp) λi S O=>by simp
 have Q:(d.zipIdx s.heap.objs.size).map (·.2)=qB s.heap.objs.size d.length:=by refine qS (by simp) λi S O=>by simp[xk]
 have g:∀q∈d.zipIdx s.heap.objs.size,q.1.adr<s.heap.objs.size/\s.heap.objs.size<=q.2/\q.2<n:=λq a=>⟨y _ (Q8 a).1,(Q8 a).2.1,by rw[z];exact(Q8 a).2.2⟩
 have f:=z▸xW _ _;have T:=ZIO (P:=X.prog) (w:=X.w) (K:=X.K) (elts:=elts) (x1:=x1) (pos:=tp) (d.zipIdx s.heap.objs.size) (n+2) n (n+1) ⟨Q▸List.nodup_range',λq a=>zM (zq (g q a).1 (Nat.le_succ_of_le f)),λq a r Y=>zM (zq (g q a).1 (g r Y).2.1),λq a=>zM (jI (g q a).2.2)⟩ ⟨Nat.succ_ne_self (n+1),λq a=>⟨zM (zq (g q a).2.2 (xW n 2)),zM (zq (g q a).1 (zE f (xW n 2)))⟩⟩
  ⟨zM (Nat.lt_add_of_pos_right (by decide)),zM (qk n),λq a=>zM (g q a).2.2⟩ (by simpa using M) (by intro e;apply u;rw[<-C,e];rfl)
 rw[C]at T;refine⟨n+2,_,_,_,H,rfl,I.kept W,T,⟨F,l,⟨_,t,by simp⟩,hi⟩,λb j=>?_,q⟩;have k:s.heap.objs.size<=b:=by
  rcases z0.mp j with rfl|j
  .exact zE f (xW n 2)
  rcases z0.mp j with rfl|j
  .exact f
  .rcases z0.mp j with rfl|j
   .exact Nat.le_succ_of_le f
   .obtain⟨q,p,rfl⟩:=qY.mp j;exact(Q8 p).2.1
 exact I.Hh k (I.hok.fresh k)
theorem ZHs{elts:List xG}{x1}{tp:Pos}{a b:xG}{ta:TA}{p pos:Pos}(k:Gl X "zip")(o:X.mg "zip"=uZ)(n:PA X [a,b] ta)(l:v8 [a,b] X.env=[(uX,eval a X.env),(uX,eval b X.env)]:=by rfl)(d:v8 [b] X.env=[(uX,eval b X.env)]:=by rfl):
  PI X (.Tuple elts x1 tp) (.Call (.Name "zip" p) [a,b] [] pos) (iZip 2 X.K ta):=by
 intro c s g H R I h;refine Call_ (Hy I k o PyProof.Rows.boot_zip (qa (thn (n pos c s g H _ I h) λu w zz=>?_) (by rw[l,d]) (by rw[d];rfl)));obtain⟨v,t,i,m,f⟩:=zz;obtain⟨r,rfl,j,e,q⟩:=f;cases ZEq m
 match r,e with
 |[x,y],_=>exact ZNn i j (by simp) (by simp) (PySem.F.typeCall_zip_2 _ _) (PySem.F.newCall_zip_2 _ _) (λobj=>PySem.F.args_object_init_3 obj _ _) q
theorem ZNJ{K:za}{n:Nat}{ta:DA}{d:St}{H:Hp}{Q:It->Hp->Prop}(l:K=X.K)(h:lI K E (Bg (Hd n) ta) d H Q):iZip n K (lA K E ta) d H Q:=by
 subst l;obtain⟨a,S,G,hk,rfl,s,r,h⟩:=h;refine⟨a,S,G,hk,rfl,s,r,(O6 h).imp ?_⟩;rintro v _ ⟨b,w,u,rfl,x,g,q,-,c⟩;unfold Hd at c;split at c
 .rename_i hok;obtain⟨f,e,o,j⟩:=ZEM g q hok.1;have i:=x.k.trans hk;have m:f.length=n:=by have:=q.length;rw[e,zj]at this;lia
  exact⟨f,e,λt p=>by rw[<-i];exact o t p,m,c b _ (.refl b) g (ZNU i j _)⟩
 exact c.elim
theorem ZMj{elts:List xG}{x1}{tp:Pos}{a b:xG}{ta:DA}{p pos:Pos}(d:Gl X "zip")(g:X.mg "zip"=uZ)(f:QA X E [a,b] ta)(e:v8 [a,b] X.env=[(uX,eval a X.env),(uX,eval b X.env)]:=by rfl)(c:v8 [b] X.env=[(uX,eval b X.env)]:=by rfl):
  QI X E (.Tuple elts x1 tp) (.Call (.Name "zip" p) [a,b] [] pos) (Bg (Hd 2) ta):=(ZHs d g f e c).mono λi H Q h=>ZNJ rfl h
end
def ixL:D->D->DH->R D
 | .ref p,.int k,G=>match G[p]? with
  |some (.lst xs)=>match atI xs k with
   |some v=>.ok v G
   |none=>.bad
  |_=>.bad
 |_,_,_=>.bad
def Iw(to ti te:DE)(f:D->D->DH->R D):DS:=λS G=>(to S G).toS λo G1=>(ti S G1).toS λi G2=>(ixL o i G2).toS λx G3=>(te S G3).toS λy G4=>(f x y G4).toS λz G5=>(Gd o i z G5).toS λ_ G6=>.nx S G6
noncomputable def Qd:DS:=λ_ _=>.bad
section
variable{X:Cx}{E:XK}
theorem ZGN{st:xO}:QS X E st Qd:=λb s c H W I h=>by obtain⟨a,S,G,hk,rfl,d,r,h⟩:=h;exact h.elim
theorem ZKs(ho:QE X E o to)(hi:QE X E i ti)(he:QE X E e te)(U:OpR X (inplaceOp op) (lR2 X.K E f))
  (ha:∀B F c,augStore i B F c=(do holding [c,B,F] (setItem B F c);release [c,B,F] [];pure .next):=by intros;rfl):QS X E (.AugAssign (.Subscript o i tpos) op e pos) (Iw to ti te f):=by
 intro b s l H W I h;obtain⟨a,S,G,hk,rfl,sm,r,h⟩:=h;refine wpAny_AugAssign_SubscriptAny (thn (ho b s l a.H _ I ⟨a,S,G,hk,rfl,sm,r,Hf h⟩) ?_) ha;rintro B s1 ⟨vo,H1,I1,ro,b1,o,G1,rfl,M,m1,q1,_,h1⟩;have k1:=M.k.trans hk;refine thn (hi b s1 l b1.H _ I1 ⟨b1,S,G1,k1,rfl,m1,r.mono M,Hf h1⟩) ?_;rintro F s2 ⟨vi,H2,I2,ri,C,i,G2,rfl,J,m2,q2,_,g⟩;have k2:=J.k.trans k1;cases i with
 | int k=>
  cases o with
  | ref p=>
   obtain⟨hp,rfl⟩:=q1.mono J;cases(q2);cases ro;obtain⟨t,rfl⟩:=ri;unfold ixL at g;dsimp only at g;split at g
   .rename_i xs N;obtain⟨vs,e1,r1⟩:=m2.lst N;split at g
    .rename_i d hd;obtain⟨v,ev,rd⟩:=ZGc r1 hd;obtain⟨its,rv,pl,hz⟩:=I2.list (.of e1);obtain⟨j,L,g2,g3,g4,g5⟩:=Q4 ev;obtain⟨w,ew,T⟩:=rv.get g2;have hl:=rv.length;have hn:=line63;have O:vA (vj X.prog X.w) X.A (getItem (.ref (C.m p)) (.int k t)) (λu Q=>u=w/\Q=s2) X.xe s2:=by
      by_cases h0:0<=k
      .have Z:k.toNat=j:=by rw[seqIndex_of h0 g5]at L;exact Option.some.inj L
       exact wpAny_getItem_list pl.isList h0 (by lia) (by rw[Z];simpa using ew) ⟨rfl,rfl⟩
      have Z:(k+(its.toArray.size:Int)).toNat=j:=by rw[seqIndex_neg (by lia) g4]at L;rw[zk,<-hl];exact Option.some.inj L
      exact wpAny_getItem_list_neg pl.isList (by lia) (by rw[zk]<;>lia) (by lia) (by rw[Z];simpa using ew) ⟨rfl,rfl⟩
     refine thn O ?_;rintro u Q ⟨rfl,rfl⟩;refine thn (he b Q l C.H _ I2 ⟨C,S,G2,k2,rfl,m2,(r.mono M).mono J,Hf g⟩) ?_;rintro yv s4 ⟨vy,H4,I4,ry,b4,y,G4,rfl,x,m4,q4,_,h4⟩;refine thn (U b s4 l b4.H v vy u yv _ I4 T ry ⟨b4,G4,d,y,x.k.trans k2,rfl,m4,rd.mono x,q4,Hf h4⟩) ?_;rintro c s5 ⟨vn,H5,I5,rn,b5,z,G5,rfl,Y,m5,q5,_,q⟩;unfold Gd at q;dsimp only at q;split at q
     .rename_i ys hy;split at q
      .rename_i jj P;obtain⟨ws,e5,r5⟩:=m5.lst hy;obtain⟨x6,m6⟩:=Sq m5 (zq hp (zE x.n Y.n)) e5 (r5.set q5 jj);refine thn (set_list b s5 l b5.H (.ref (C.m p)) (.int k) vn (.ref (C.m p)) (.int k t) c (λH'=>W.nx l H') I5 rfl ⟨t,rfl⟩ rn ⟨b5.m p,ws,k,jj,by rw[(Y.m p (zq hp x.n)).trans (x.m p hp)],rfl,e5,by rw[<-r5.length];exact P,q _ l x6 m6 (((((r.mono M).mono J).mono x).mono Y).mono x6)⟩) ?_
       rintro _ s6 ⟨H6,I6,q6⟩;exact⟨l,H6,I6,q6⟩
      exact q.elim
     exact q.elim
    exact g.elim
   exact g.elim
  |_=>exact(g).elim
 |_=>cases o<;>exact(g).elim
end
section
variable{X:Cx}{E:XK}
def J9:D->D->DH->R D
 |.ref p,.int k,G=>match G[p]? with
  |some (.lst xs)=>if -(2^63)<=k/\k<2^63/\xs.length*k.toNat<=1000000 then .ok (.ref G.length) (G++[.lst (zQ k.toNat xs).flatten])else .bad
  |_=>.bad
 |.fl (.tup t::xs),.int k,G=>(if -(2^63)<=k/\k<2^63/\(D.tup t::xs).length*k.toNat<=1000000 then .ok (.ref G.length) (G++[.lst (zQ k.toNat (.tup t::xs)).flatten])else .bad)|_,_,_=>.bad
theorem Reps.rep(r:Reps a ds vs):∀k,Reps a (zQ k ds).flatten (zQ k vs).flatten
 |0=>rfl
 |k+1=>by rw[qW,qW,jZ,jZ];exact r.append (.rep r k)
theorem ZHF:OpR X (vJ .Mult) (lR2 X.K E J9):=ZLH.mono λx y H Q h=>by
 obtain⟨a,G,d,e,hk,rfl,s,j,n,q⟩:=h;cases d with
 | ref p=>
  cases e with
  | int k=>
   unfold J9 at q;dsimp only at q;split at q
   .rename_i g v;split at q
    .rename_i b;obtain⟨i,r,c⟩:=s.lst v;obtain⟨hp,rfl⟩:=j;refine⟨a.m p,k,i,rfl,n,.inl r,b.1,b.2.1,?_,λp hp=>Jf s (.rep c k.toNat) q p hp⟩;rw[<-c.length];exact zE b.2.2 size6
    exact q.elim
   exact q.elim
  |_=>exact(q).elim
 |fl g=>(cases g with |nil=>exact(q).elim|cons d g=>(cases d with |tup t=>(cases e with |int k=>(unfold J9 at q;dsimp only at q;split at q;(rename_i b;obtain⟨l,i,rfl,f,c⟩:=j;rcases f with⟨o,f⟩|⟨⟨u,rfl⟩,_⟩;(exact⟨l,k,i,rfl,n,.inr ⟨o,f⟩,b.1,b.2.1,by rw[<-c.length];exact zE b.2.2 size6,λp hp=>Jf s (.rep c k.toNat) q p hp⟩);(obtain⟨_,_,w,⟨_,_,rfl,_⟩,_⟩:=c;cases u<;>cases w));exact q.elim)|_=>exact(q).elim)|_=>exact(q).elim))|_=>exact(q).elim
end
end _D
namespace _D
open PySem PySem.W PyProof.Rows
def Safe(n:Nat){α:Type}(P:α->Prop):KasT α->Prop
 |.ret a=>P a
 |.ask i j k=>i<n/\j<n/\∀b,Safe n P (k b)
theorem Safe.bind{c e:Type}{f:c->KasT e}{P:c->Prop}{Q:e->Prop}(d:∀a,P a->Safe n Q (f a)):∀{t:KasT c},Safe n P t->Safe n Q (t.bind f)
 |.ret a,h=>d a h
 |.ask _ _ _,h=>⟨h.1,h.2.1,λb=>.bind d (h.2.2 b)⟩
def Ents(n:Nat)(p:Array Nat):Prop:=0<n/\p.Perm (zX n).toArray
theorem Ents.lt(h:Ents n p)(a:x∈p):x<n:=by have:=h.2.mem_iff.mp a;simpa using this
theorem Ents.pt(h:Ents n p)(k:Nat):p.getD k 0<n:=by
 by_cases hk:k<p.size
 .have:p.getD k 0=p[k]:=by simp[Array.getD,hk]
  rw[this];exact h.lt (Array.getElem_mem hk)
 have:p.getD k 0=0:=by simp[Array.getD,hk]
 rw[this];exact h.1
theorem Ents.perm(h:Ents n p)(e:q.Perm p):Ents n q:=⟨h.1,e.trans h.2⟩
theorem Xf(h:Ents n p):∀f m,Safe n (λ_=>True) (kas_asc p f m)
 |0,m=>trivial
 | f+1,m=>⟨h.pt _,h.pt _,λb=>by
   cases b with
   |true=>exact trivial
   |false=>exact Xf h f (m+1)⟩
theorem Q7:∀f{p:Array Nat}m q,Ents n p->Safe n (λr=>Ents n r.1) (kas_desc f p m q)
 |0,p,m,q,h=>h
 | f+1,p,m,q,h=>⟨h.pt _,h.pt _,λb=>by
   cases b with
   |true=>
    by_cases a:q>0
    .simp only[if_true,if_pos a];exact Q7 f _ _ (h.perm (mirror_perm ..))
    simp only[if_true,if_neg a];exact Q7 f _ _ h
   |false=>
    refine⟨h.pt _,h.pt _,λd=>?_⟩;cases d with
    |true=>exact h
    |false=>exact Q7 f _ _ h⟩
theorem ZBH(h:Ents n p)(m k:Nat):Safe n (λr=>Ents n r.2) (kas_tail3 m k p):=by unfold kas_tail3;refine .bind (λa _=>?_) (Xf (h.perm (mirror_perm ..)) _ _);exact h.perm (mirror_perm ..)
theorem ZGq(h:Ents n p)(m k:Nat):Safe n (λr=>Ents n r.2) (kas_descPart m k p):=
 Safe.bind (λa b=>by
  split
  .exact ZBH (b.perm (mirror_perm ..)) _ _
  exact ZBH b _ _) (Q7 _ _ _ h)
theorem ZIb(h:Ents n p)(k:Nat):Safe n (λr=>Ents n r.2) (kas_count k p):=
 Safe.bind (λa _=>by
  split
  .exact h
  split
  .refine⟨h.pt _,h.pt _,λc=>?_⟩;cases c with
   |true=>exact h
   |false=>exact ZGq (h.perm (mirror_perm ..)) _ _
  exact ZGq h _ _) (Xf h _ _)
theorem ZEm(h:Ents n p)(k:Nat):∀f l r,Safe n (λ_=>True) (kas_place p k f l r)
 |0,l,r=>trivial
 |f+1,l,r=>by
  unfold kas_place;split
  .trivial
  refine⟨h.pt _,h.pt _,λc=>?_⟩;cases c with
  |_=>exact ZEm h k f _ _
end _D
namespace _D
open PySem PySem.Spec _L
open PyProof.Rows hiding St
theorem ZE4(h:∀i j,i<n->j<n->∀C:Bool->xN->Prop,C (lt i j) s->cmp i j C s){b:Type}{P:b->Prop}{Q:b->xN->Prop}:
  ∀{t:w8 b},Safe n P t->Q (Hv lt t) s->t.kasWp cmp Q s
 |.ret _,_,c=>c
 |.ask i j k,a,c=>h i j a.1 a.2.1 _ (ZE4 h (a.2.2 (lt i j)) c)
section
variable{prog:xL}{w:xR}{A:xF}{s:xN}
end
section
variable{X:Cx}{E:XK}{vS:List (xE×Obj)}{σ:St}{s:xN}{H:Hp}{h':Heap}
theorem ZLj(I:Inv X vS σ H s)(k:∀b o,b≠X.env.locals->s.heap.get? b=uQ o->h'.get? b=uQ o)(ns:∀m,s.heap.Ns X.env.locals m->h'.Ns X.env.locals m):Inv X vS σ H {s with heap:=h',toks:=t'}:=by
 refine I.step (ch:=[]) (nofun) (λb o f _ _ e _=>k b o f e) (λb o f _ _ e _=>⟨o.slots,k b o f e⟩) (λ_ _ _ _ n=>n) (λb o _ e=>?_) (λ_ _ e=>e) (λ_ _ _ e=>e)
  (λb r e=>⟨#[],by rw[e];simp⟩) ns (λb u e=>?_) I.bare
 .by_cases i:b=X.env.locals
  .obtain⟨m,j,_⟩:=I.loc;obtain⟨l,_,_,d,_⟩:=ns m j;exact⟨l,i▸d⟩
  exact⟨o,k b o i e⟩
 have g:∀c w,H c=uQ w->c≠X.env.locals:=λc w e z=>by rw[z,I.free]at e;cases e
 refine(I.hok b u e).stay (λc v p q=>k c v ?_ q) (λ_ q=>q) λ_ _ q=>q
 rcases p with z|z
 .rw[z];exact g b u e
 exact g c _ z
end
section
variable{prog:xL}{w:xR}{A:xF}{E:xP->xN->Prop}{s:xN}
end
theorem ZPD:vX "sorted"=uQ (.builtin "sorted"):=by decide +kernel
section
variable{X:Cx}{E:XK}{vS:List (xE×Obj)}{σ:St}{s:xN}{H:Hp}
end
section
variable{X:Cx}{E:XK}
theorem ZD8(r:Reps a xs vs):∀l:List Nat,(∀i∈l,i<xs.length)->Reps a (l.map λi=>xs.getD i .non) (l.map λi=>vs.getD i .non)
 |[],_=>rfl
 |i::l,h=>by
  have b:=h i zw;obtain⟨v,e,f⟩:=r.get (zJ b);refine⟨vs.getD i .non,_,rfl,?_,ZD8 r l λj c=>h j (zV _ c)⟩;have d:xs.getD i .non=xs[i]:=by simp[b]
  have g:vs.getD i .non=v:=by rw[zW,e];rfl
  show Rep a (xs.getD i .non) (vs.getD i .non);rw[d,g];exact f
theorem ZGd(r:Vals vs us):∀l:List Nat,(∀i∈l,i<vs.length)->Vals (l.map λi=>vs.getD i .non) (l.map λi=>us.getD i .none)
 |[],_=>.nil
 |i::l,h=>by
  have a:=h i zw;obtain⟨u,f,d⟩:=r.get (zJ a);rw[zK,zK];have c:vs.getD i .non=vs[i]:=by simp[a]
  have e:us.getD i .none=u:=by rw[zW,f];rfl
  rw[c,e];exact .cons d (ZGd r l λj b=>h j (zV _ b))
theorem Xa:∀{t:w8 (Array Nat)},Safe n P t->P (Hv lt t)
 |.ret _,h=>h
 |.ask i j k,h=>Xa (t:=k (lt i j)) (h.2.2 (lt i j))
theorem ZFy:∀f{p:Array Nat}k,Ents n p->Safe n (Ents n) (PySem.W.kas_bin f p k)
 |0,p,k,h=>h
 |f+1,p,k,h=>.bind (λa _=>ZFy f _ (h.perm (bubble_perm ..))) (ZEm h k _ _ _)
theorem Yq(c:0<n):Safe n (Ents n) (zi n):=
 Safe.bind (λa b=>by
  split
  .exact ZFy _ _ b
  exact b) (ZIb ⟨c,.refl _⟩ _)
end
section
variable{S:DSt}{G:DH}
@[simp]theorem ZQO:Iw to ti te f S G=(to S G).toS λo a=>(ti S a).toS λi c=>(ixL o i c).toS λx b=>(te S b).toS λy g=>(f x y g).toS λz e=>(Gd o i z e).toS λ_ d=>.nx S d:=id rfl
theorem ZDF(h:G[p]?=uQ (.lst xs))(e:atI xs k=uQ d):ixL (.ref p) (.int k) G=.ok d G:=by unfold ixL;simp only;rw[h];simp only;rw[e]
noncomputable def El(xs:List D):List D:=xs.zipIdx.map λq=>.tup [.int q.2,q.1]
noncomputable def Hx(xs ys:List D):List D:=(xs.zip ys).map λq=>.tup [q.1,q.2]
theorem ZF5{f:Nat->DH->Option (Option D)}{g:DG}{b:DS}{xs:List D}(h:∀j G,f j G=uQ xs[j]?):∀(n j:Nat),j+n=xs.length->∀S G,Cv f g b n j S G=Bc g b (xs.drop j) S G
 |0,j,e,S,G=>by
  unfold Cv;rw[h,zA (by lia),q7 (by lia)]
  rfl
 |n+1,j,e,S,G=>by
  have a:j<xs.length:=by lia
  unfold Cv;rw[h,zJ a,qy a,Eg];have:Cv f g b n (j+1)=Bc g b (xs.drop (j+1)):=by funext S G;exact ZF5 h n (j+1) (by lia) S G
  rw[this]
theorem ZA1(h:∀j G,f j G=uQ xs[j]?)(a:n=xs.length):Cv f g b n 0 S G=Bc g b xs S G:=by rw[ZF5 h n 0 (by lia)];rfl
theorem ZCt(j:Nat)(G:DH):G7 0 (.fl xs) j G=uQ (El xs)[j]? :=by
 unfold G7 El;simp[Bm,zv,List.getElem?_zipIdx]
 cases xs[j]?<;>simp
theorem ZHj(j:Nat)(G:DH):G7 0 (.tup xs) j G=uQ (El xs)[j]? :=by
 unfold G7 El;simp[Bm,zv,List.getElem?_zipIdx]
 cases xs[j]?<;>simp
theorem Yz:(El xs).length=xs.length:=by simp[El]
@[simp]theorem ZQf:Cv (G7 0 (.fl xs)) g b xs.length 0 S G=Bc g b (El xs) S G:=ZA1 ZCt Yz.symm
@[simp]theorem ZQh:Cv (G7 0 (.tup xs)) g b xs.length 0 S G=Bc g b (El xs) S G:=ZA1 ZHj Yz.symm
theorem ZEp{f:Nat->DH->Option (Option D)}{g:DG}{c:DB}{l:DE}{F:D->Option D}{xs:List D}(i:∀j,f j G=uQ xs[j]?)(h:∀x∈xs,CStep g c l S G x (F x)):
  ∀(n j:Nat),xs.length<=j+n->Dl f g c l S n j G=.ok ((xs.drop j).filterMap F) G
 |0,j,m=>by
  unfold Dl;rw[i,zA (by lia)];simp only;rw[q7 (by lia)]
  rfl
 | n+1,j,m=>by
  unfold Dl;rw[i];by_cases a:j<xs.length
  .have k:=ZEp i h n (j+1) (by lia);obtain⟨q,o,b⟩:=h xs[j] (qV a);rw[zJ a];simp[o,R.Dv];rw[qy a,qE];rcases b with⟨b,e⟩|⟨b,d,e,p⟩
   .simp[b,e,k]
   simp[b,e,p,k]
  rw[zA (by lia),q7 (by lia)]
  rfl
theorem Wt{f:Nat->DH->Option (Option D)}{g:DG}{c:DB}{a:DE}{F:D->Option D}{xs:List D}{n:Nat}(b:∀j,f j G=uQ xs[j]?)(h:∀x∈xs,CStep g c a S G x (F x))(d:xs.length<=n):
  Dl f g c a S n 0 G=.ok (xs.filterMap F) G:=ZEp b h n 0 (by lia)
theorem Pr(b:Bm d G=uQ xs)(a:Bm e G=uQ ys)(j:Nat):Hi [d,e] j G=uQ (Hx xs ys)[j]? :=by
 unfold Hi Hx;simp only[Hq,b,a,zv]
 have c:(xs.zip ys)[j]?=match xs[j]?,ys[j]? with
  |some x,uQ y=>uQ (x,y)
  |_,_=>uZ:=by
  rw[List.zip,List.getElem?_zipWith]
  cases xs[j]?<;>cases ys[j]?<;>rfl
 rw[c];cases xs[j]? with
 |none=>rfl
 |some x=>
  cases ys[j]? with
  |_=>rfl
theorem V6(b:Bm d G=uQ xs)(a:Bm e G=uQ ys):Hd 2 [d,e] G=.ok (.fn xs.length (Hi [d,e])) G:=by simp[Hd,I7,b,a,lenOf]
@[simp]theorem J6:Bm (.fl xs) G=uQ xs:=id rfl
theorem Nj(h:G[i]?=uQ (.lst xs)):Bm (.ref i) G=uQ xs:=by simp[Bm,h]
theorem ZOU{p:Nat}{k:Nat}{d:D}(h:G[p]?=uQ (.lst [d]))(hk:k<=1000000):J9 (.ref p) (.int (k:Int)) G=.ok (.ref G.length) (G++[.lst (zQ k d)]):=by
 unfold J9;simp only;rw[h];simp only;have e:(zQ k [d]).flatten=zQ k d:=by
  induction k with
  |zero=>rfl
  |succ k a=>rw[qW,jZ,a (by lia),qW];rfl
 rw[if_pos ⟨by lia,by lia,by simpa using hk⟩,Int.toNat_natCast,e]
end
def Bts(i:Int):Prop:=i.natAbs.log2<33554432
def MulB(i j:Int):Prop:=CMul i j∨(Bts i/\Bts j)
noncomputable instance (i:Int):Decidable (Bts i):=by unfold Bts;infer_instance
noncomputable instance (i j:Int):Decidable (MulB i j):=by unfold MulB;infer_instance
theorem MulB.ok(h:MulB i j):IntMulOk i j:=by
 rcases h with h|⟨c,a⟩
 .exact h.ok
 have b:∀k:Int,Bts k->Builtin.Int.intBits k<=33554432:=λk hk=>by
  unfold Builtin.Int.intBits;split
  .exact j7 _
  exact hk
 have e:=b i c;have d:=b j a;have h:Builtin.Int.intTooBig (Builtin.Int.intBits i+Builtin.Int.intBits j)=uX:=by unfold Builtin.Int.intTooBig bitsLine;exact decide_eq_false (by lia)
 unfold IntMulOk;rw[h];simp
section
variable{X:Cx}{E:XK}
theorem ZKj:OpR X (vJ .Mult) (rI MulB λi j=>.int (i*j)):=opI λ_ _ _ _ _ _ _ a q=>mul_int q a.ok
end
section
variable{i j:Int}{G:DH}
end
section
variable{X:Cx}{E:XK}
end
def Hg(f:Str)(v:D):List (Str×D)->List (Str×D)
 |[]=>[(f,v)]
 |(g,x)::r=>if g=f then(g,v)::r else(g,x)::Hg f v r
theorem RepF.mono(x:Ext a b)(h:RepF a fs us):RepF b fs us:=⟨h.1,h.2.mono x⟩
theorem RepF.cons(h:Rep a d v)(r:RepF a fs us):RepF a ((g,d)::fs) ((g,v)::us):=
 ⟨by simp[r.1],v,us.map (·.2),rfl,h,r.2⟩
theorem RepF.uncons(h:RepF a ((g,d)::fs) us):∃v us',us=(g,v)::us'/\Rep a d v/\RepF a fs us':=by
 obtain⟨b,k⟩:=h;cases us with
 |nil=>simp at b
 |cons q us=>
  obtain⟨n,y⟩:=q;simp[zK,List.cons.injEq]at b;obtain⟨rfl,b⟩:=b;obtain⟨v,r,i,j,l⟩:=k;simp[zK,List.cons.injEq]at i;obtain⟨rfl,rfl⟩:=i;exact⟨y,us,rfl,j,b,l⟩
theorem RepF.nil'(h:RepF a [] us):us=[]:=by
 obtain⟨b,_⟩:=h;cases us with
 |nil=>rfl
 |cons q us=>simp at b
theorem lkc{a:Type}{f g:Str}{x:a}{fs:List (Str×a)}:jv f ((g,x)::fs)=if(f==g)=uJ then uQ x else fs.lookup f:=by
 show(match f==g with
  |true=>uQ x
  |false=>jv f fs)=_
 cases f==g<;>rfl
theorem RepF.look{a:Wd}{f:Str}{d:D}:∀{fs:List (Str×D)}{us:List (Str×V)},RepF a fs us->fs.lookup f=uQ d->∃u,us.lookup f=uQ u/\Rep a d u
 |[],us,h,e=>by simp at e
 |(g,x)::fs,us,h,e=>by
  obtain⟨v,j,rfl,i,b⟩:=h.uncons;rw[lkc]at e⊢;by_cases q:(f==g)=uJ
  .rw[if_pos q]at e⊢;cases e;exact⟨v,rfl,i⟩
  rw[if_neg q]at e⊢;exact RepF.look b e
theorem RepF.Ur{a:Wd}{f:Str}:∀{fs:List (Str×D)}{us:List (Str×V)},RepF a fs us->fs.lookup f=uZ->us.lookup f=uZ
 |[],us,h,e=>by rw[h.nil'];rfl
 |(g,x)::fs,us,h,e=>by
  obtain⟨v,d,rfl,i,b⟩:=h.uncons;rw[lkc]at e⊢;by_cases q:(f==g)=uJ
  .rw[if_pos q]at e;cases e
  rw[if_neg q]at e⊢;exact RepF.Ur b e
theorem RepF.put(q:Rep a d v):∀{fs:List (Str×D)}{us:List (Str×V)},RepF a fs us->RepF a (Hg f d fs) (Et f v us)
 |[],us,h=>by rw[h.nil'];exact .cons q ⟨rfl,rfl⟩
 |(g,x)::fs,us,h=>by
  obtain⟨w,j,rfl,i,b⟩:=h.uncons;unfold Hg Et;by_cases e:g=f
  .rw[if_pos e,if_pos e];exact .cons q b
  rw[if_neg e,if_neg e];exact .cons i (.put q b)
theorem RepF.len(h:RepF a fs us):us.length=fs.length:=by have:=congrArg jG h.1;simpa using this.symm
theorem Ext.wrI(h:a.H p=uQ (.ins C dx us)):Ext a (a.put p ho):=
 ⟨rfl,zx _,λ_ _=>rfl,λq d e=>by
  show upd a.H p ho q=_;rw[Am (λz=>by subst z;rw[h]at e;cases e)];exact e,λq o u e=>by
  show upd a.H p ho q=_;rw[Am (λz=>by subst z;rw[h]at e;cases e)];exact e,λ_ t=>t.mono (λq b e=>by show upd a.H p ho q=_;rw[Am (λz=>by subst z;rw[h]at e;cases e)];exact e) (λq o u e=>by show upd a.H p ho q=_;rw[Am (λz=>by subst z;rw[h]at e;cases e)];exact e)⟩
theorem Sim.wrI(s:Sim a G)(d:i<a.n)(g:zb a.K vz c=uQ (uQ (.ref C)))(h:a.H (a.m i)=uQ (.ins C dx us))(r:RepF (a.put (a.m i) (.ins C dx us')) fs' us'):
  Sim (a.put (a.m i) (.ins C dx us')) (G.set i (.ins c fs')):=by
 refine⟨by rw[qH];exact s.len,s.inj,λj o e=>?_,λj k=>?_⟩
 .rw[j0]at e;show ORep _ o (upd a.H (a.m i) (.ins C dx us') (a.m j));by_cases b:i=j
  .subst b;rw[if_pos rfl,if_pos (s.len▸d)]at e;cases e;rw[Ew];exact⟨C,dx,us',g,rfl,r⟩
  rw[if_neg b]at e;rw[Am λz=>b (s.inj _ _ (s.lt e) d z).symm];exact(s.obj j o e).mono (.wrI h)
 show upd a.H (a.m i) (.ins C dx us') (a.m j)≠uZ;by_cases b:a.m j=a.m i
 .rw[b,Ew];simp
 rw[Am b];exact s.tr j k
def Hz(c:Str)(d:D)(G:DH):Option (List (Str×D)):=match d with
 |.ref i=>match G[i]? with
  |some (.ins c' fs)=>if c'=c then uQ fs else uZ
  |_=>uZ
 |_=>uZ
theorem Sim.ins(s:Sim a G)(r:Rep a d x)(h:Hz c d G=uQ fs):
  ∃i C b us,d=.ref i/\i<a.n/\x=.ref (a.m i)/\G[i]?=uQ (.ins c fs)/\zb a.K vz c=uQ (uQ (.ref C))/\a.H (a.m i)=uQ (.ins C b us)/\RepF a fs us:=by
 unfold Hz at h;split at h
 .rename_i i;split at h
  .rename_i u q e;split at h
   .rename_i p;subst p;cases h;obtain⟨l,k⟩:=r;obtain⟨C,b,us,n,g,j⟩:=s.obj i _ e;exact⟨i,C,b,us,rfl,l,k,e,n,g,j⟩
   cases h
  cases h
 cases h
def Av(c:Str)(t:DE)(f:Str):DE:=λS G=>(t S G).bind λd G1=>match Hz c d G1 with
 |some fs=>match fs.lookup f with
  |some v=>.ok v G1
  |none=>.bad
 |none=>.bad
def Ck(c:Str)(to tv:DE)(f:Str):DS:=λS G=>(tv S G).toS λd G1=>(to S G1).toS λo G2=>match o with
 |.ref i=>match Hz c o G2 with
  |some fs=>if fs.length<1000 then .nx S (G2.set i (.ins c (Hg f d fs)))else .bad
  |none=>.bad
 |_=>.bad
def Br(c:Str)(m:Str)(F:List D->DH->R D)(to:DE)(t:DA):DE:=λS G=>(to S G).bind λo G1=>match Hz c o G1 with
 |some fs=>match fs.lookup m with
  |none=>(t S G1).bind λds G2=>F (o::ds) G2
  |some _=>.bad
 |none=>.bad
def Ly(c:Str)(F:List D->DH->R D)(t:DA):DE:=λS G=>(t S G).bind λds G1=>(F (.ref G1.length::ds) (G1++[.ins c []])).bind λv G2=>match v with
 |.non=>.ok (.ref G1.length) G2
 |_=>.bad
section
variable{X:Cx}{E:XK}{c f m:Str}{C:xE}{e o:xG}{es:List xG}{t ta tv:DE}{tr:DA}{pos apos pos':Pos}
theorem ZKx(w:zb X.K vz c=uQ (uQ (.ref C)))(F:Cls X.K C)(y:NoAttr X.K C f)(P:QE X E e t)(A:xT e f X.env (eval e X.env)=eval e X.env:=by rfl):QE X E (.Attribute e f pos) (Av c t f):=
 (ZO9 P A).mono λY H Q h=>by
  obtain⟨a,S,G,hk,rfl,s,r,h⟩:=h;refine⟨a,S,G,hk,rfl,s,r,(Fb h).imp ?_⟩;rintro v _ ⟨b,d,T,rfl,x,n,q,-,g⟩;split at g
  .rename_i fs N;obtain⟨i,p,B,M,rfl,_,rfl,_,l,z,O⟩:=n.ins q N;have j:p=C:=by
    rw[x.k,hk,w]at l;cases l
    rfl
   subst j;split at g
   .rename_i U J;obtain⟨u,L,I⟩:=O.look J;exact⟨b.m i,p,B,M,u,rfl,z,F,y,L,g b u (.refl b) n I⟩
   exact g.elim
  exact g.elim
theorem ZL0(J:zb X.K vz c=uQ (uQ (.ref C)))(T:Cls X.K C)(N:NoAttr X.K C f)(ha:QE X E o ta)(L:QE X E e tv)(Q:swapsWith e (uQ (.Attribute o f pos')) pos.line X.env=pure uX:=by rfl):
  QS X E (.Assign [.Attribute o f pos'] e pos) (Ck c ta tv f):=
 (ZMn ha L Q).mono λW σ H h=>by
  obtain⟨a,S,G,hk,rfl,s,r,h⟩:=h;refine⟨a,S,G,hk,rfl,s,r,(Hf h).imp ?_⟩;rintro v _ ⟨b,d,I,rfl,x,U,q,-,P⟩;refine⟨b,S,I,x.k.trans hk,rfl,U,r.mono x,(Hf P).imp ?_⟩;rintro v2 _ ⟨l,d2,G2,rfl,y,z,M,-,g⟩;split at g
  .rename_i i;split at g
   .rename_i fs hi;split at g
    .rename_i Z;obtain⟨i',w,A,B,O,Y,rfl,eg,u,p,F⟩:=z.ins M hi;cases O;have n:w=C:=by
      rw[y.k,x.k,hk,J]at u;cases u
      rfl
     subst n;have j:Ext l (l.put (l.m i) (.ins w A (Et f v B))):=.wrI p;exact⟨l.m i,w,A,B,rfl,p,T,N,F.len▸Z,g _ σ j (z.wrI Y u p (.put ((q.mono y).mono j) (F.mono j))) (((r.mono x).mono y).mono j)⟩
    exact g.elim
   exact g.elim
  exact g.elim
theorem ZKy{sp F:List D->DH->R D}{p:St}{H:Hp}{Q:VK}(y:zb X.K vz c=uQ (uQ (.ref C)))(h:lE X.K E0 (Br c m F ta tr) p H Q):Ue C m (lF X.K F) [] E0 (lE X.K E0 ta) (lA X.K E0 tr) p H Q:=by
 obtain⟨a,S,G,hk,rfl,s,r,h⟩:=h;refine⟨a,S,G,hk,rfl,s,r,(Fb h).imp ?_⟩;rintro v _ ⟨b,d,w,rfl,x,n,q,-,g⟩;split at g
 .rename_i fs Y;obtain⟨i,P,L,U,rfl,_,rfl,_,l,I,Z⟩:=n.ins q Y;have j:P=C:=by
   rw[x.k,hk,y]at l;cases l
   rfl
  subst j;split at g
  .rename_i O;refine⟨b.m i,L,U,rfl,I,Z.Ur O,b,S,w,x.k.trans hk,rfl,n,r.mono x,(Kl g).imp ?_⟩;rintro N _ ⟨T,M,A,rfl,u,J,B,-,z⟩;exact⟨T,A,.ref i::M,(u.k.trans x.k).trans hk,rfl,J,⟨.ref (b.m i),N,by rw[qJ],q.mono u,B⟩,z⟩
  exact g.elim
 exact g.elim
theorem Ga{CX:CXT}{k:Nat}{g:xE}{b:xH}{ps:List Str}{F:List D->DH->R D}{pl:Sem Bool}(d:zb X.K vz c=uQ (uQ (.ref C)))(r:Cls X.K C)(p:Meth X.K C m g)(i:FnOk X.prog X.w X.K X.mg X.base CX k g b ps (lF X.K F))(q:Room k X.A)(l:Binds X.K b ps [])
  (j:Passes CX X E0) (ho:QE X E0 o ta) (n:QA X E0 (e::es) tr) (s:notStar e=uJ:=by rfl) (a:es.all notStar=uJ:=by rfl)
  (u:eval (.Call (.Attribute o m apos) (e::es) [] pos) X.env=(do
   let ov<-eval o X.env
   standAt apos.atName
   let(f,first)<-holding [ov] (getMethod ov m pl)
   callWith pos f first (xU pos (v8 (e::es) X.env)) (vQ pos (vY [] X.env))):=by rfl):QE X E0 (.Call (.Attribute o m apos) (e::es) [] pos) (Br c m F ta tr):=
 (ZML ho r p i q l .nil j n (Kd e es X.env s) (M6 pos X.env es a) u).mono λv H Q h=>ZKy (sp:=F) d h
theorem ZCb(z:zb X.K vz c=uQ (uQ (.ref C)))(L:Cls X.K C)(n:Meth X.K C m g)(O:FnOk X.prog X.w X.K X.mg X.base CX k g fd ps (lF X.K F))(M:Room k X.A)(I:Binds X.K fd ps [])
  (Z:Passes CX X E0) (ho:QE X E0 o ta)
  (Y:eval (.Call (.Attribute o m apos) [] [] pos) X.env=(do
   let ov<-eval o X.env
   standAt apos.atName
   let(f,first)<-holding [ov] (getMethod ov m pl)
   callWith pos f first (xU pos (v8 [] X.env)) (vQ pos (vY [] X.env))):=by rfl):QE X E0 (.Call (.Attribute o m apos) [] [] pos) (Br c m F ta Ac):=
 (ZKU ho L n O M I .nil Z Y).mono λσ H Q h=>by
  obtain⟨a,S,G,hk,rfl,s,r,h⟩:=h;refine⟨a,S,G,hk,rfl,s,r,(Fb h).imp ?_⟩;rintro v _ ⟨b,d,y,rfl,x,u,q,-,j⟩;split at j
  .rename_i fs T;obtain⟨i,N,J,P,rfl,_,rfl,_,p,B,U⟩:=u.ins q T;have l:N=C:=by
    rw[x.k,hk,z]at p;cases p
    rfl
   subst l;split at j
   .rename_i n;exact⟨b.m i,J,P,rfl,B,U.Ur n,b,y,[.ref i],x.k.trans hk,rfl,u,⟨.ref (b.m i),[],rfl,q,rfl⟩,j⟩
   exact j.elim
  exact j.elim
theorem ZLw(hk:a.K=X.K)(A:zb X.K vz c=uQ (uQ (.ref C)))(s:Sim a G)(q:Reps a ds vs)
  (h:out E0 a ((F (.ref G.length::ds) (G++[.ins c []])).bind λv J=>match v with
   |.non=>.ok (.ref G.length) J
   |_=>.bad) Q):∀x g,a.H x=uZ->a.H g=uZ->g≠x->lF X.K F (.ref x::(vs++[])) (upd (upd a.H g (.own x)) x (.ins C g [])) (λv N=>v=.non/\Q (.ref x) N) E:=λp g hp k r=>by
 have u:Ext a (a.put g (.own p)):=.put k;have j:(a.put g (.own p)).H p=uZ:=by show upd a.H g (.own p) p=uZ;rw[Am λz=>r z.symm];exact hp
 have y:Ext (a.put g (.own p)) ((a.put g (.own p)).push p (.ins C g [])):=.push j;have B:Sim ((a.put g (.own p)).push p (.ins C g [])) (G++[.ins c []]):=(s.put k).push j ⟨C,g,[],by show zb a.K vz c=_;rw[hk];exact A,rfl,rfl,rfl⟩;have i:((a.put g (.own p)).push p (.ins C g [])).m a.n=p:=by show(if a.n=a.n then p else a.m a.n)=p;rw[if_pos rfl]
 have w:Rep ((a.put g (.own p)).push p (.ins C g [])) (.ref G.length) (.ref p):=by rw[s.len];exact⟨qk _,by rw[i]⟩
 refine⟨(a.put g (.own p)).push p (.ins C g []),_,.ref G.length::ds,hk,rfl,B,⟨.ref p,vs,by rw[qJ],w,(q.mono u).mono y⟩,(Fb (out.mono (u.trans y) h)).imp ?_⟩;rintro v _ ⟨b,d,O,rfl,I,M,L,-,l⟩;split at l
 .have:=L;exact⟨this,l b _ (.refl b) M (w.mono I)⟩
 exact l.elim
theorem ZBC{CX:CXT}{k:Nat}{g:xE}{j:xH}{ps:List Str}{F:List D->DH->R D}{p:Pos}(n:zb X.K vz c=uQ (uQ (.ref C)))(M:Mk X.K C g)(v:FnOk X.prog X.w X.K X.mg X.base CX k g j ps (lF X.K F))(J:Room (k+1) X.A)(u:Gl X c)(I:X.mg c=uQ (.ref C))(z:Binds X.K j ps [])
  (y:Passes CX X E0) (B:QA X E0 (e::es) tr) (i:(c==("__debug__":Str))=uX:=by decide) (N:notStar e=uJ:=by rfl) (d:es.all notStar=uJ:=by rfl):QE X E0 (.Call (.Name c p) (e::es) [] pos) (Ly c F tr):=
 (ZHy M v J u I z .nil y B i (Kd e es X.env N) (M6 pos X.env es d)).mono λP H Q h=>by obtain⟨a,S,G,hk,rfl,s,r,h⟩:=h;refine⟨a,S,G,hk,rfl,s,r,(Kl h).imp ?_⟩;rintro T _ ⟨b,U,O,rfl,x,L,q,-,l⟩;exact ZLw (x.k.trans hk) n L q l
end
theorem Rf:∀{ns:List Int}{us:List xP},Vals (ns.map V.int) us->us.length=ns.length/\∀(j:Nat)(u:xP),us[j]?=uQ u->∃t,∃h:j<ns.length,u=.int ns[j] t
 |[],us,h=>by cases h;exact⟨rfl,λj u e=>by simp at e⟩
 | n::ns,us,h=>by
  cases h with
  | cons r d=>
   obtain⟨b,f⟩:=Rf d;obtain⟨t,rfl⟩:=r;refine⟨by simp[b],λj u e=>?_⟩;cases j with
   |zero=>simp at e;exact⟨t,by simp,by simpa using e.symm⟩
   |succ j=>
    obtain⟨g,c,a⟩:=f j u (by simpa using e);exact⟨g,by simpa using c,by simpa using a⟩
section
variable{X:Cx}{E:XK}
theorem ZH5(h:ItemsOf (λi v=>∃t,v=.int ((0:Int)+i*1) t) acc n):Vals ((zX n).map λ(i:Nat)=>V.int (i:Int)) acc.toList:=by
 obtain⟨b,g⟩:=h;refine Z8 (by simp[b]) λi v u a c=>?_
 have d:i<n:=by have:=(zY.mp a).1;simpa using this
 rw[zv,qx d]at a;have f:v=V.int (i:Int):=by simpa using a.symm
 obtain⟨t,e⟩:=g i u (by rw[<-jw];exact c);subst f;refine⟨t,?_⟩;rw[e]
 congr 1
 lia
noncomputable def Itd(lo:Int)(n:Nat):It:=⟨λi _=>i<n,λi H x H'=>H'=H/\x=.int (lo-i),λi _=>n<=i⟩
theorem ZHL{P:xL}{w:xR}{K:za}{tg:xG}(it:xE)(g:Int)(n:Nat):Turn P w K tg (Itd g n) [it] it (λi h=>IsRangeIter h it (g+(i:Nat)*(-1)) ((n:Int)-(i:Nat)) (-1)) where
 mem:=by simp
 obj:=λi h a b c=>by
  have e:b=it:=by simpa using c
  subst e;exact⟨_,a,λv z=>by have C:=z;cases C⟩
 keep:=λi h B a k=>k it (by simp) _ a
 item:=by
  intro X l hw u r i f s M H E I j a q;subst l hw u;obtain⟨y,m,J,x,p,A⟩:=j it (by simp);refine(Walks.range (I.ok.hd r) it g (-1) n).item i s _ _ q a λv B O F d N=>?_
  obtain⟨t,rfl⟩:=F;refine⟨_,rfl,K5 d rfl rfl (by decide) ⟨.int (g-i),H,I.turned (λb o c e=>N b o (by simpa using c) e) y m x p A,⟨t,?_⟩,⟨rfl,rfl⟩,d,λb c=>(j b c).1⟩⟩
  congr 1
  lia
 done:=by intro X l hw u r i f s M H E I j a q;subst l hw u;obtain⟨y,m,J,x,p,A⟩:=j it (by simp);exact wpAny_pyNext_range_end (I.ok.hd r) a (by have:n<=i:=q;lia) λB L=>⟨rfl,I.turned (λb o c e=>L b o c e) y m x p A⟩
 self:=λ_ _ _ _ _ a h=>wpAny_pyIter_rangeiter a h
theorem rangeSize_down(a b:Int):Builtin.Range.rangeSize a b (-1)=if b<a then a-b else 0:=by
 unfold Builtin.Range.rangeSize;rw[if_neg (by decide)];have e:(- (-1:Int))=1:=by decide
 rw[e,Int.ediv_one]
 split <;> lia
theorem small_down(f: -(2^62)<=a)(d:a<2^62)(e: -(2^62)<=b)(c:b<2^62):Builtin.Range.small a b (-1)=uJ:=by
 unfold Builtin.Range.small;rw[rangeSize_down];simp[Builtin.Range.rangeFitsLong,zL,xj,decide_eq_true_eq,beq_iff_eq,show¬((-1:Int)>0) by decide,if_false]
 split <;> lia
def iDn(ta:TA):TI:=λσ H R=>ta σ H λvs H1=>∃i j:Int,vs=[.int i,.int j,.int (-1)]/\(-(2^62)<=i/\i<2^62/\ -(2^62)<=j/\j<2^62)/\R (Itd i (i-j).toNat) H1
theorem ZOj{tg a b c:xG}{ta:TA}{p pos:Pos}(M:Gl X "range")(S:X.mg "range"=uZ)(U:PA X [a,b,c] ta)(O:v8 [a,b,c] X.env=(uX,eval a X.env)::v8 [b,c] X.env:=by rfl)(x:(xU pos (v8 [b,c] X.env)).any (·.1)=uX:=by rfl):
  PI X tg (.Call (.Name "range" p) [a,b,c] [] pos) (iDn ta):=by
 intro k s B H R I h;refine Call_ (Hy I M S vd (qa (thn (U pos k s B H _ I h) λY m zz=>?_) O x));obtain⟨W,A,K,T,w⟩:=zz;obtain⟨i,j,e,⟨w,C,Q,J⟩,q⟩:=w;subst e;cases T with
 | cons r u=>
  cases u with
  | cons P u=>
   cases u with
   | cons y u=>
    cases u;obtain⟨t,rfl⟩:=r;obtain⟨v,rfl⟩:=P;obtain⟨g,rfl⟩:=y;refine call_range_3 (by decide) ?_ (.inl (w9 (by lia)));refine wpAny_pyIter_range (.new ..) (small_down w C Q J) ?_;have z:Inv X k B A {m with heap:=m.heap.push {cls:=.type "range",data:=.fields #[.int i t,.int j v,.int (-1) g]},toks:=m.toks}:=K.kept λb o e=>zZ _ e
    refine⟨(m.heap.push {cls:=.type "range",data:=.fields #[.int i t,.int j v,.int (-1) g]}).objs.size,[(m.heap.push {cls:=.type "range",data:=.fields #[.int i t,.int j v,.int (-1) g]}).objs.size],_,_,A,rfl,
     z.kept λb o e=>zZ _ e,ZHL _ i (i-j).toNat,?_,λb N=>?_,q⟩
    .have L:i+((0:Nat):Int)*(-1)=i:=by simp
     have F:(((i-j).toNat:Nat):Int)-((0:Nat):Int)=Builtin.Range.rangeSize i j (-1):=by rw[rangeSize_down];split <;> lia
     rw[L,F];exact z3 _ rfl
    have e:b=(m.heap.push {cls:=.type "range",data:=.fields #[.int i t,.int j v,.int (-1) g]}).objs.size:=by simpa using N
    subst e;exact z.Hh (zx _) (z.hok.fresh (zx _))
noncomputable def Im(lo:Int)(n:Nat):List D:=(zX n).map λ(k:Nat)=>D.int (lo-(k:Int))
def rng3(ds:List D)(G:DH):R ItD:=match ds with
 |[.int i,.int j,.int k]=>if inR i/\inR j/\k= -1 then .ok (.pure (Im i (i-j).toNat)) G else .bad
 |_=>.bad
theorem ZOH(e:Int)(n:Nat):RepI a (.pure (Im e n)) (Itd e n):=by
 refine⟨(zX n).map λ(k:Nat)=>V.int (e-(k:Int)),?_,λb x i=>⟨λv c=>?_,λf=>?_⟩⟩
 .unfold Im;generalize zX n=l
  induction l with
  |nil=>exact rfl
  |cons k l g=>exact⟨_,_,rfl,rfl,g⟩
 .rw[zv]at c;by_cases d:i<n
  .rw[qx d]at c;exact⟨d,λw h y=>⟨y.2.trans (by simpa using c),y.1⟩⟩
  rw[zA (by simpa using d)]at c;cases c
 show n<=i;simpa using f
theorem ZK2{tg e f c:xG}{ta:DA}{p pos:Pos}(z:Gl X "range")(F:X.mg "range"=uZ)(I:QA X E [e,f,c] ta)(A:v8 [e,f,c] X.env=(uX,eval e X.env)::v8 [f,c] X.env:=by rfl)(l:(xU pos (v8 [f,c] X.env)).any (·.1)=uX:=by rfl):
  QI X E tg (.Call (.Name "range" p) [e,f,c] [] pos) (Bg rng3 ta):=
 (ZOj z F I A l).mono λT H Q h=>by
  obtain⟨a,S,G,hk,rfl,s,r,h⟩:=h;refine⟨a,S,G,hk,rfl,s,r,(O6 h).imp ?_⟩;rintro P _ ⟨b,N,J,rfl,x,B,q,-,d⟩;unfold rng3 at d;split at d
  .rename_i i j k;split at d
   .rename_i g;obtain⟨m,g,rfl⟩:=g;obtain⟨v,r,y,n,O,K,u,t,M,L,o,C,w⟩:=q;cases(n);cases(t);cases(C);cases(w);subst o;subst u;exact⟨i,j,y,⟨m.1,m.2,g.1,g.2⟩,d b _ (.refl b) B (ZOH i (i-j).toNat)⟩
   exact d.elim
  exact d.elim
end
section
variable{prog:xL}{w:xR}{A:xF}{E:xP->xN->Prop}{s:xN}
end
section
variable{X:Cx}{E:XK}
end
end _D
namespace _D
open PySem PySem.Spec _L
def Cz(c f:Str)(d:D)(G:DH):R D:=match Hz c d G with
 |some fs=>match fs.lookup f with
  |some v=>.ok v G
  |none=>.bad
 |none=>.bad
def Jl(c f:Str)(o d:D)(S:DSt)(G:DH):SR:=match o with
 |.ref i=>match Hz c o G with
  |some fs=>if fs.length<1000 then .nx S (G.set i (.ins c (Hg f d fs)))else .bad
  |none=>.bad
 |_=>.bad
def Hw(c m:Str)(F:List D->DH->R D)(t:DA)(S:DSt)(o:D)(G:DH):R D:=match Hz c o G with
 |some fs=>match fs.lookup m with
  |none=>(t S G).bind λds G2=>F (o::ds) G2
  |some _=>.bad
 |none=>.bad
def Rq(F:List D->DH->R D)(c:Str)(ds:List D)(G1:DH):R D:=(F (.ref G1.length::ds) (G1++[.ins c []])).bind λv G2=>match v with
 |.non=>.ok (.ref G1.length) G2
 |_=>.bad
section
variable{S:DSt}{G:DH}{c f m:Str}{t to tv:DE}{ta:DA}{F:List D->DH->R D}{i:Nat}{fs:List (Str×D)}{v d:D}
@[simp]theorem ev_fld:Av c t f S G=(t S G).bind λd a=>Cz c f d a:=id rfl
@[simp]theorem ZEV:Ck c to tv f S G=(tv S G).toS λd b=>(to S b).toS λo a=>Jl c f o d S a:=id rfl
@[simp]theorem ZQn:Br c m F to ta S G=(to S G).bind λo a=>Hw c m F ta S o a:=id rfl
@[simp]theorem ZQo:Ly c F ta S G=(ta S G).bind λa b=>Rq F c a b:=id rfl
theorem ZAV(h:G[i]?=uQ (.ins c fs)):Hz c (.ref i) G=uQ fs:=by unfold Hz;simp[h,if_true]
theorem Dm(h:G[i]?=uQ (.ins c fs))(a:fs.lookup f=uQ v):Cz c f (.ref i) G=.ok v G:=by unfold Cz;rw[ZAV h];simp[a]
theorem ZA6(h:G[i]?=uQ (.ins c fs))(a:fs.length<1000):Jl c f (.ref i) d S G=.nx S (G.set i (.ins c (Hg f d fs))):=by unfold Jl;simp[ZAV h,a,if_true]
theorem T7(h:G[i]?=uQ (.ins c fs))(e:fs.lookup m=uZ):Hw c m F ta S (.ref i) G=(ta S G).bind λb a=>F (.ref i::b) a:=by unfold Hw;rw[ZAV h];simp[e]
@[simp]theorem ZFT{i j:Int}(a:inR i)(b:inR j):rng3 [.int i,.int j,.int (-1)] G=.ok (.pure (Im i (i-j).toNat)) G:=by simp[rng3,a,b]
theorem ZK7:Im lo 0=[]:=rfl
theorem ZKR:Im lo (n+1)=.int lo::Im (lo-1) n:=by
 unfold Im;rw[qM,zK,q8]
 congr 1
 .simp
 refine jJ λk _=>?_
 simp only[Function.comp]
 congr 1
 lia
theorem J0{d:D}{G a:DH}(e:a.length=G.length)(b:bel G.length d=uJ):tidy G (.ok d a)=.ok d a:=by
 unfold tidy;simp only[b,if_true];split
 .rename_i h;rw[xZ (by lia)]at h;rw[h]
 rfl
theorem ZFP{d:D}{G a:DH}(h:a.take G.length≠G):tidy G (.ok d a)=.ok d a:=by unfold tidy;simp[h,if_false]
end
end _D
namespace _D
open PySem PySem.Spec _L
open PyProof.Rows hiding St
def Ds(x:Str)(n:Int):Str:=if n<1 then Str.empty else if(n==1||x.length==0)=uJ then x else⟨(zQ n.toNat x.cps).foldl (·++·) #[]⟩
theorem R3:∀(n:Nat)(b:Array Nat),((zQ n a).foldl (·++·) b).toList=b.toList++(zQ n a.toList).flatten
 |0,b=>by simp
 |n+1,b=>by rw[qW,List.foldl_cons,R3 n (b++a),qW,jZ];simp
theorem ZHa{a:Array Nat}(n:Nat):((zQ n a).foldl (·++·) #[]).size=n*a.size:=by rw[<-qF,R3];simp
theorem ZMY:(Ds x n).cps.toList=(zQ n.toNat x.cps.toList).flatten:=by
 unfold Ds;split
 .rename_i h;have e:n.toNat=0:=by lia
  rw[e];rfl
 rename_i h;split
 .rename_i a;rw[xj,beq_iff_eq,beq_iff_eq]at a;rcases a with rfl|a
  .simp
  .have e:x.cps.toList=[]:=by have:x.cps.size=0:=a;rw[<-qF]at this;exact qP this
   rw[e];simp
 .rw[R3];simp
def Ax:D->D->DH->R D
 |.int i,.int j,G=>if MulB i j then .ok (.int (i*j)) G else .bad
 |.str x,.int n,G=>if -1000<=n/\n<=1000/\x.length<=1000 then .ok (.str (Ds x n)) G else .bad
 |_,_,_=>.bad
section
variable{X:Cx}{E:XK}
theorem ZLf:OpR X (vJ .Mult) (λx y H Q=>∃i n,x=.str i/\y=.int n/\(-1000<=n/\n<=1000/\i.length<=1000)/\Q (.str (Ds i n)) H):=by
 intro d s r H x y v u Q I k o h;obtain⟨i,n,rfl,rfl,⟨w,g,e⟩,q⟩:=h;obtain⟨t,rfl⟩:=k;obtain⟨C,rfl⟩:=o;have b:∀m:Nat,m<=1000->i.length*m<=1000000:=λm l=>zE (xC e l) (by decide)
 refine P.mul_str ?_ (λa c=>?_) (λa c=>?_) ?_
 .rw[decide_eq_false (by lia),decide_eq_false (by lia)];rfl
 .intro p;have:(i.length:Int)*n<=2^63-1:=by have A:(i.length:Int)*n<=1000*1000:=Int.mul_le_mul (by lia) g (by lia) (by lia);lia
  have B:=(Int.le_ediv_iff_mul_le (by lia)).mpr this;lia
 .have:=b n.toNat (by lia);unfold Builtin.Str.tooLong;rw[vk];exact decide_eq_false (by lia)
 unfold Ds at q;split
 .rename_i a;rw[if_pos a]at q;exact⟨by decide,.str Str.empty,H,I.tok _,⟨_,rfl⟩,q⟩
 .rename_i a;rw[if_neg a]at q;split
  .rename_i c;rw[if_pos c]at q;exact⟨.str i,H,I,⟨t,rfl⟩,q⟩
  .rename_i c;rw[if_neg c]at q;refine⟨?_,.str _,H,I.tok _,⟨_,rfl⟩,q⟩
   show((zQ n.toNat i.cps).foldl (·++·) #[]).size<=sizeLine
   have f:i.cps.size<=1000:=e;have z:=xC (show n.toNat<=1000 by lia) f;rw[ZHa,vk];lia
theorem ZHC:OpR X (vJ .Mult) (lR2 X.K E Ax):=Ft (ZKj.or ZLf) λa G d e x y Q hk s rd re q=>by
 cases d<;>cases e<;>first
  |exact q.elim
  | (
    rename_i i j;unfold Ax at q;dsimp only at q;split at q
    .first
     |exact .inl ⟨_,_,rd,re,by assumption,q a _ (.refl a) s rfl⟩
     |exact .inr ⟨_,_,rd,re,by assumption,q a _ (.refl a) s rfl⟩
    exact q.elim)
end
section
variable{i j:Int}{G:DH}
theorem Dn(b: -(2^64)<i)(a:i<2^64):Ax (.int i) (.int j) G=.ok (.int (i*j)) G:=if_pos (.inl (.inl ⟨b,a⟩))
theorem ZC2(b: -(2^64)<j)(a:j<2^64):Ax (.int i) (.int j) G=.ok (.int (i*j)) G:=if_pos (.inl (.inr ⟨b,a⟩))
@[simp]theorem ZQp(h:n<18446744073709551616):Ax (.int (no_index (OfNat.ofNat n))) (.int j) G=.ok (.int (OfNat.ofNat n*j)) G:=
 Dn (by have:(0:Int)<=(OfNat.ofNat n:Int):=Int.natCast_nonneg n;lia) (by have:(OfNat.ofNat n:Int)<18446744073709551616:=Int.ofNat_lt.mpr h;lia)
@[simp]theorem ZQj(h:n<18446744073709551616):Ax (.int i) (.int (no_index (OfNat.ofNat n))) G=.ok (.int (i*OfNat.ofNat n)) G:=
 ZC2 (by have:(0:Int)<=(OfNat.ofNat n:Int):=Int.natCast_nonneg n;lia) (by have:(OfNat.ofNat n:Int)<18446744073709551616:=Int.ofNat_lt.mpr h;lia)
theorem ZLJ(h: -1000<=n/\n<=1000/\x.length<=1000):Ax (.str x) (.int n) G=.ok (.str (Ds x n)) G:=if_pos h
end
section
variable{X:Cx}{E:XK}{e st:xG}{te:TE}{ts:TO}{p2 pos:Pos}
end
theorem Reps.rev:∀{b:List D}{vs:List V},Reps a b vs->Reps a b.reverse vs.reverse
 |[],vs,r=>by cases r;exact .nil
 |d::b,vs,r=>by obtain⟨v,c,rfl,h,f⟩:=r;rw[j4,j4];exact .append (.rev f) (.cons h Reps.nil)
section
variable{S:DSt}{G:DH}
end
section
variable{X:Cx}{E:XK}
end
section
variable{S:DSt}{G:DH}
end
noncomputable abbrev Jy(X:Cx)(qual:Str)(scope:xM)(f:xE)(cd:xP)(L:xE):Env:=PySem.W.envX qual scope L f cd (Cr X.env scope.names [])
def Le(X:Cx)(N:List Str)(qual:Str)(scope:xM)(f:xE)(cd:xP)(A:xF)(s:xN)(H:Hp):Cx where
 prog:=X.prog
 w:=X.w
 K:=X.K
 mg:=X.mg
 base:=X.base
 A:=A.deeper (Jy X qual scope f cd s.heap.objs.size)
 N:=N
 s₀:=s
 H₀:=H
 env:=Jy X qual scope f cd s.heap.objs.size
 outer:=X.stack
 stack:=Jy X qual scope f cd s.heap.objs.size::X.stack
 ex:=[]
 fn:=λ_=>uX
 calm:=uJ
 pn:=[]
 xe:=λ_ _=>False
noncomputable def Ib(caps:List Nat)(d:D)(S:DSt):DSt:=uQ d::caps.map λj=>(S[j]?).join
section
variable{X:Cx}{vS:List (xE×Obj)}{σ:St}{H:Hp}{s:xN}{N:List Str}{scope:xM}{caps:List Nat}{x qual:Str}{f:xE}{cd:xP}{A:xF}
theorem ZKZ(cs:CompSc X N scope 1 caps)(hN:N[0]?=uQ x)(hx:scope.names.lookup x=uQ .local)(I:Inv X vS σ H s)(hA:A.handled=uZ)(P:A.frames=uQ X.stack)(ru:RelV v u)
  (hns:l.Ns s.heap.objs.size (λy=>jv y [(x,u)].reverse)) (k:∀b o,s.heap.get? b=uQ o->l.get? b=uQ o):
  Inv (Le X N qual scope f cd A s H) [] (uQ v::caps.map λj=>(σ[j]?).join) H {s with heap:=l,toks:=tk}:=by
 have C:∀b:xE,b∉(Le X N qual scope f cd A s H).ex:=λb z=>absurd (show b∈([]:List xE)from z) (by simp)
 refine⟨⟨I.ok.mod,cs.kind,rfl,rfl,zx _,λy z c E J=>I.ok.inj y z c (cs.cl I.ok E) (cs.cl I.ok J),λy hy=>?_,λy c h=>absurd (show(uX:Bool)=uJ from h) (by decide),λ_=>hA,Around.frames_deeper P,.inr ⟨rfl,rfl⟩,λb z=>absurd z (C b),I.bs,zE I.ok.bsz I.sz,λb _ _=>C b,λb z=>absurd z (C b),I.stack,I.ZAC⟩,
  rfl,I.bare,.kept k,⟨_,hns,λi y n e1 e2 e3=>?_⟩,λy L e=>?_,I.hok.fresh (zx _),λy L e=>I.Gs y L (cs.cl I.ok e),λp hp=>absurd (show p∈([]:List (xE×Obj))from hp) (by simp),I.hok.kept k,?_⟩
 .have hy':=hy;have t:scope.names.lookup y=uQ .free:=by
   rcases hy' with z|z
   .exact absurd rfl (cs.nocell _ (zc z))
   exact z
  obtain⟨d,hd⟩:=M3 (.inl (zc t));exact Ot hd
 .have w:N[i]?=uQ y:=e1;cases i with
  |zero=>
   rw[hN]at w;cases w;have a:v=n:=by simpa using e2
   subst a;exact⟨u,ru,.inl ⟨hx,by simp⟩⟩
  | succ i=>
   have a:((caps.map λj=>(σ[j]?).join)[i]?)=uQ (uQ n):=by simpa using e2
   rw[zv]at a;cases U:caps[i]? with
   |none=>rw[U]at a;cases a
   | some j=>
    rw[U]at a;have E:(σ[j]?).join=uQ n:=by simpa using a
    have J:σ[j]?=uQ (uQ n):=by
     cases q:σ[j]? with
     |none=>rw[q]at E;cases E
     |some o=>
      rw[q]at E;have T:o=uQ n:=E;rw[T]
    obtain⟨y2,ey,M,Q⟩:=cs.cap i j U;have O:y=y2:=by rw[xk]at M;rw[w]at M;exact Option.some.inj M
    subst O;have g:=cs.free (y,.free) (zc Q) rfl;have Y:Vis X.env.scope y:=by
     rcases g with g|g
     .exact .inr (.inl g)
     exact .inr (.inr g)
    obtain⟨m,hn,hl⟩:=I.loc;obtain⟨u2,K,lk⟩:=hl j y n ey J Y;refine⟨u2,K,?_⟩;rcases lk with⟨W,_⟩|⟨W,c1,ec,B⟩
    .rcases g with g|g
     .rw[W]at g;cases g
     rw[W]at g;cases g
    refine .inr ⟨.inr Q,c1,?_,?_⟩
    .obtain⟨d1,Z⟩:=M3 (.inl (zc Q));obtain⟨d2,F⟩:=Ot Z;have:=cs.cl I.ok F;rw[ec]at this;cases this;exact F
    .obtain⟨o,e,S⟩:=B;exact⟨o,k _ _ e,S⟩
 .obtain⟨n,o,e',S⟩:=I.cell y L (cs.cl I.ok e);exact⟨n,o,k _ _ e',S⟩
 show(uQ v::caps.map λj=>(σ[j]?).join).length=N.length;rw[cs.len];simp;lia
theorem ZJS(r:RepS a S σ)(l:Rep a d v):RepS a (Ib caps d S) (uQ v::caps.map λj=>(σ[j]?).join):=by
 refine⟨by simp[Ib],λi e h=>?_⟩;unfold Ib at h;cases i with
 |zero=>
  have b:d=e:=by simpa using h
  subst b;exact⟨v,rfl,l⟩
 | succ i=>
  have b:((caps.map λj=>(S[j]?).join)[i]?)=uQ (uQ e):=by simpa using h
  rw[zv]at b;cases g:caps[i]? with
  |none=>rw[g]at b;cases b
  | some j=>
   rw[g]at b;have c:(S[j]?).join=uQ e:=by simpa using b
   have n:S[j]?=uQ (uQ e):=by
    cases q:S[j]? with
    |none=>rw[q]at c;cases c
    |some o=>
     rw[q]at c;have k:o=uQ e:=c;rw[k]
   obtain⟨t,m,p⟩:=r.get j e n;exact⟨t,by simp[g,m],p⟩
theorem ZIk
  (cs:CompSc X N scope 1 caps) (hN:N[0]?=uQ x) (L:scope.names.lookup x=uQ .local) (m:scope.isCoroutine=uX) (i:scope.isGenerator=uX)
  (I:Inv X vS σ a.H s) (hk:a.K=X.K) (sm:Sim a G) (O:RepS a S σ) (ho:s.heap.get? f=uQ ob) (F:ob.data=.func (ze "<lambda>" qual params body scope (Cr X.env scope.names []) pm (.ref c') ctv)) (n:s.heap.CodeRec (.ref c') qual)
  (c:bindArgs (ze "<lambda>" qual params body scope (Cr X.env scope.names []) pm (.ref c') ctv) ⟨[u],[]⟩=pure [(x,u)])
  (z:Room (k+1) A) (p:A.frames=uQ X.stack) (U:Room k (A.deeper (Jy X qual scope f (.ref c') s.heap.objs.size))->QE (Le X N qual scope f (.ref c') A s a.H) E0 body te)
  (ru:RelV v u) (Y:Rep a d v) (h:out E0 a (te (Ib caps d S) G) Q):
  codeAny (vj X.prog X.w) A (.call (.ref f) ⟨[u],[]⟩) (CR CX0 X.stack X.prog X.w a.H s Q E) s:=by
 refine PySem.W.kla_callFunE z.depth ho F m i rfl n ?_;rw[c];refine vM (wpAny_newFunctionEnv cs.nocell (λy T=>?_) (λg C t=>?_) cs.kind)
 .have B:y=(x,u):=by simpa using T
  subst B;exact L
 have j:∀b o,s.heap.get? b=uQ o->g.get? b=uQ o:=λb o e=>t.extBut b o (zM (zy e)) (zZ _ e)
 refine⟨I.nolimit.keeps j,?_⟩;refine PySem.W.kla_codeExpr (vH (U (z.deeper _) [] _ _ a.H Q (ZKZ (qual:=qual) (f:=f) (cd:=.ref c') cs hN L I z.hd p ru (tk:=s.toks+1) C j) ⟨a,Ib caps d S,G,hk,rfl,sm,ZJS O Y,h⟩) (λr s' P=>?_) λ_ _ hF=>hF.elim);obtain⟨M,Z,l,rv,q⟩:=P;exact⟨M,Z,l.os,l.bare,l.base,l.hok,rv,q⟩
end
def BMd(base:Heap)(mg:Str->Option xP):Prop:=∃(bm:xE)(ob:Obj),mg "__builtins__"=uQ (.ref bm)/\bm≠builtinsNs/\base.get? bm=uQ ob/\ob.cls=.type "module"/\ob.dict=uQ builtinsNs/\ob.data=.plain
theorem ZJi(l:List xP)(h:TriplesOk l):TriplesOk (l++[.int i t,.int j u,c]):=by
 fun_induction TriplesOk l with
 |case1=>simp[TriplesOk]
 |case2 a b c d x rest e=>exact e h
 |case3=>exact h.elim
theorem ZIm(l:List xP)(h:TriplesOk l)(f:codeAmong pos (l++[.int i t,.int j u,c])=uQ cv):codeAmong pos l=uQ cv∨cv=c:=by
 fun_induction TriplesOk l with
 |case1=>
  right
  simp only[qC,codeAmong]at f;split at f
  .exact(Option.some.inj f).symm
  cases f
 |case2 a b k d x rest g=>
  simp only[j9,codeAmong]at f⊢;split at f
  .rename_i e;rw[if_pos e];exact .inl f
  rename_i e;rw[if_neg e];exact g h f
 |case3=>exact h.elim
section
variable{X:Cx}{vS:List (xE×Obj)}{σ:St}{s:xN}{scope:xM}{a:Wd}
theorem grown(c:a.H P=uQ (.tbl ps))(d:a.H c'=uZ):
  let H':=upd (upd a.H P (.tbl (ps++more))) c' (.frz oc (.own 0))
  (∀b u,a.H b=uQ u->b≠P->H' b=uQ u)/\H' P=uQ (.tbl (ps++more))/\H' c'=uQ (.frz oc (.own 0)):=by
 have f:P≠c':=λz=>by rw[z,d]at c;cases c
 refine⟨λb u e g=>?_,?_,Ew⟩
 .rw[Am (Fy e d),Am g];exact e
 rw[Am f,Ew]
theorem ZJf(T:TabOk a.H P)(A:a.H P=uQ (.tbl ps))(M:a.H J=uZ)(O:oc.data=.fields vs)(L:vs[1]?=uQ (.str De tk)):
  Ext a {a with H:=upd (upd a.H P (.tbl (ps++ #[.int i t,.int j u,.ref J]))) J (.frz oc (.own 0))}:=by
 obtain⟨l,Q,N⟩:=grown A M;have x:∀b(w:HO),a.H b=uQ w->(∀q,w≠ .tbl q)->b≠P:=λb w e n z=>by rw[z,A]at e;exact n _ (Option.some.inj e).symm
 refine⟨rfl,zx _,λ_ _=>rfl,λb S e=>l b _ e (x b _ e (by intro q z;cases z)),λb o w e=>l b _ e (x b _ e (by intro q z;cases z)),λp K=>?_⟩;by_cases e:p=P
 .subst e;obtain⟨m,v,r,B⟩:=K;rw[A]at v;cases v;refine⟨_,Q,by simpa using ZJi ps.toList r,λg E f=>?_⟩;rcases ZIm ps.toList r (by simpa using f)with z|z
  .obtain⟨c,d,h,F,y,k,I,C⟩:=B g E z;exact⟨c,d,h,F,y,l c _ k (x c _ k (by intro q z;cases z)),I,C⟩
  exact⟨J,oc,vs,tk,z,N,O,L⟩
 obtain⟨m,v,r,B⟩:=K;refine⟨m,l p _ v e,r,λg E f=>?_⟩;obtain⟨c,d,h,F,y,k,I,C⟩:=B g E f;exact⟨c,d,h,F,y,l c _ k (x c _ k (by intro q z;cases z)),I,C⟩
theorem ZLq(l:Sim a G)(x:Ext a b)(r:b.n=a.n)(t:b.m=a.m)(E:a.H P=uQ (.tbl ps))(A:∀p u,a.H p=uQ u->p≠P->b.H p=uQ u)(F:b.H P≠uZ):Sim b G:=by
 refine⟨r▸l.len,by rw[r,t];exact l.inj,λi o e=>?_,λi B=>?_⟩
 .have q:=l.obj i o e;rw[t];have d:∀w:HO,a.H (a.m i)=uQ w->(∀z,w≠ .tbl z)->b.H (a.m i)=a.H (a.m i):=λw e n=>by rw[A _ _ e (λz=>by rw[z,E]at e;exact n _ (Option.some.inj e).symm),e]
  cases o with
  |lst S=>
   obtain⟨h,f,j⟩:=q;rw[d _ f (by intro z y;cases y)];exact⟨h,f,j.mono x⟩
  |dct O=>
   obtain⟨h,f,g,j⟩:=q;rw[d _ f (by intro z y;cases y)];exact⟨h,f,g,j.mono x⟩
  |exc c fs=>
   obtain⟨C,K,u,L,v,f,g,M,z⟩:=q;rw[d _ f (by intro z y;cases y)];exact⟨C,K,u,L,x.k▸v,f,g,M,z.mono x⟩
  |ins c fs=>
   obtain⟨C,I,h,v,f,g,j⟩:=q;rw[d _ f (by intro z y;cases y)];exact⟨C,I,h,x.k▸v,f,g,j.mono x⟩
  |tab C m=>obtain⟨N,J,f,Q⟩:=q;exact⟨N,J,x.k▸f,x.tab _ Q⟩
  |gone=>trivial
 rw[r]at B;rw[t];cases e:a.H (a.m i)with
 |none=>exact absurd e (l.tr i B)
 |some w=>
  by_cases hp:a.m i=P
  .rw[hp];exact F
  rw[A _ _ e hp];intro y;cases y
theorem ZKL{params:Arguments}{body:xG}{pos:Pos}{c P:xE}{clos:List (Str×xE)}(I:Inv X vS σ a.H s)(hcl:closureFor scope X.env=pure clos)(hcode:X.env.code=.ref c)(hhd:zh X.K c P=uJ)(T:TabOk a.H P)(B:BMd X.base X.mg)
  (hq:X.env.qual++"<lambda>"=De) (hdef:defaultsOf params X.env=([],[])) {R:xP->xN->Prop}
  (h:∀(b:Wd)(f c':xE)(ctv:xP)(ob oc:Obj)(vs:Array xP)(t:Tok)(s':xN),Ext a b->(∀G,Sim a G->Sim b G)->Inv X ((f,ob)::vS) σ b.H s'->ob.data=.func (ze "<lambda>" De params body scope clos ((X.mg "__name__").getD .none) (.ref c') ctv)->
   b.H c'=uQ (.frz oc (.own 0))->oc.data=.fields vs->vs[1]?=uQ (.str De t)->R (.ref f) s'):
  vA (vj X.prog X.w) X.A (eval (.Lambda params body scope pos) X.env) R X.xe s:=by
 refine PySem.W.kla_eval hdef ?_;rw[hq];obtain⟨ps,hPs,tr,ent⟩:=id T;have hobj:=I.hok P _ hPs;have hCH:=wD I.kIn hhd;have G:=I.ok.mod.glob.keeps I.bk;have hgP:vz≠P:=λq=>by obtain⟨o,es,ep,e,hd,_⟩:=G;rw[q,hobj]at e;cases e;cases hd
 obtain⟨bm,ob,b1,b2,b3,b4,b5,b6⟩:=B;have b3':=I.bk _ _ b3;have hbP:bm≠P:=λq=>by rw[q,hobj]at b3';cases b3';cases b4
 have hbG:bm≠vz:=λq=>by obtain⟨o,es,ep,e,hd,_⟩:=G;rw[q,e]at b3';cases b3';rw[hd]at b6;cases b6
 have BA:s.heap.BuiltinsAt X.mg P:=⟨bm,ob,b1,b2,hbG,hbP,b3',b4,b5,b6⟩;have hLP:X.env.locals≠P:=λz=>by have:=I.free;rw[z,hPs]at this;cases this
 cases hca:codeAmong pos ps.toList with
 |some cv=>
  obtain⟨c',oc,vs,t,rfl,hfz,e3,e4⟩:=ent pos cv hca;refine PySem.W.kla_makeFunctionHit hcl I.ok.glob G hcode hCH hobj tr hca BA λctv h' tk hk hsz=>?_
  have k2:∀b o,s.heap.get? b=uQ o->(h'.push {cls:=.type "function",data:=.func (ze "<lambda>" De params body scope clos ((X.mg "__name__").getD .none) (.ref c') ctv)}).get? b=uQ o:=λb o e=>zZ _ (hk b o e)
  have I2:=I.kept (t':=tk) k2;refine h a h'.objs.size c' ctv {cls:=.type "function",data:=.func (ze "<lambda>" De params body scope clos ((X.mg "__name__").getD .none) (.ref c') ctv)} oc vs t _ (.refl a) (λ_ z=>z) (I2.Gj λp hp=>?_) rfl hfz e3 e4;rcases z0.mp hp with rfl|hp
  .exact⟨z3 _ rfl,I.hok.fresh hsz,jQ (zq I.lt hsz),I.nofs hsz,λv z=>by cases z⟩
  exact I2.pin p (zG _ hp)
 | none=>
  refine PySem.W.kla_makeFunction hcl I.ok.glob G hcode hCH hobj tr hca hgP BA λc' ctv h' tk hx hge hlt hrec htb=>?_
  obtain⟨c2,oc,vs,t,e2,hoc,hd,hv⟩:=hrec;cases e2;have hcn:=I.hok.fresh hge;obtain⟨g1,g2,g3⟩:=grown hPs hcn;have x:Ext a {a with H:=upd (upd a.H P (.tbl (ps++ #[vx pos.line,vx pos.col,.ref c']))) c' (.frz oc (.own 0))}:=ZJf T hPs hcn hd hv;generalize hHe:upd (upd a.H P (.tbl (ps++ #[vx pos.line,vx pos.col,.ref c']))) c' (.frz oc (.own 0))=H' at*;generalize hfo:PySem.W.kla_obj "<lambda>" De params body scope clos ((X.mg "__name__").getD .none) c' ctv=fo
  have old:∀b o,b≠P->s.heap.get? b=uQ o->(h'.push fo).get? b=uQ o:=λb o hb e=>zZ _ (hx b o hb e)
  have hP2:(h'.push fo).get? P=uQ (qg (ps++ #[vx pos.line,vx pos.col,.ref c'])):=zZ _ htb;have nP:∀b,a.H b=uZ->b≠P:=λb e z=>by rw[z,hPs]at e;cases e
  have nf:∀b,a.H b=uZ->b≠c'->H' b=uZ:=λb e hb=>by rw[<-hHe,Am hb,Am (nP b e)];exact e
  have hsz:=zE hge (jC hlt);have I2:Inv X vS σ H' {s with heap:=h'.push fo,toks:=tk}:=by
   refine I.step (ch:=[]) (nofun) (λb o _ _ _ e n=>old b o (nP b n) e) (λb o _ _ _ e n=>⟨o.slots,old b o (nP b n) e⟩) (λb o _ e n=>nf b n (zM (zq (zy e) hge))) (λb o _ e=>?_)
    x.tup x.frz (λb q e=>?_) (λm hn=>(hn.extBut hx hLP).push _) (λb u e=>?_) I.bare
   .by_cases hb:b=P
    .subst hb;exact⟨_,hP2⟩
    exact⟨o,old b o hb e⟩
   .by_cases hb:b=P
    .subst hb;rw[hPs]at e;cases e;exact⟨_,g2⟩
    exact⟨#[],by rw[g1 b _ e hb];simp⟩
   by_cases hb:b=c'
   .subst hb;rw[g3]at e;cases e;exact⟨zZ _ hoc,_,zZ _ hoc⟩
   .by_cases hb2:b=P
    .subst hb2;rw[g2]at e;cases e;exact hP2
    .have e':a.H b=uQ u:=by rw[<-hHe,Am hb,Am hb2]at e;exact e
     refine(I.hok b u e').stay (λb' o' hb' q=>old b' o' ?_ q) (λb' q=>g1 b' _ q ?_) λb' xs q=>x.tup b' xs q
     .rcases hb' with rfl|hb'
      .exact hb2
      intro z;rw[z,hPs]at hb';cases hb'
     intro z;rw[z,hPs]at q;cases q
  refine h _ h'.objs.size c' ctv fo oc vs t _ x (λG sm=>ZLq sm x rfl rfl hPs g1 (by show H' P≠uZ;rw[g2];intro z;cases z)) (I2.Gj λp hp=>?_) (by rw[<-hfo]) g3 hd hv;rcases z0.mp hp with rfl|hp
  .refine⟨z3 _ (by rw[<-hfo];rfl),nf _ (I.hok.fresh hsz) (jQ hlt),jQ (zq I.lt hsz),I.nofs hsz,λv z=>by rw[<-hfo]at z;cases z⟩
  exact I2.pin p (zG _ hp)
end
noncomputable def ltK(ks:List Int)(i j:Nat):Bool:=decide (ks.getD i 0<ks.getD j 0)
def Fo(ks:List Int):List D:=
 if ks.length<2 then Ay 0 ks.length else((Hv (ltK ks.reverse) (zi ks.length)).toList.map λi=>(Ay 0 ks.length).reverse.getD i .non).reverse
section
variable{prog:xL}{w:xR}{A:xF}{E:xP->xN->Prop}{s:xN}
theorem ZMH{r:xE}{j:Int}{t u v:Tok}{n:Nat}{Q:List xP->xN->Prop}(hh:A.handled=uZ)(hr:IsRange s.heap r 0 j 1 t u v)(hsmall:Builtin.Range.small 0 j 1=uJ)(hn:Builtin.Range.rangeSize 0 j 1=n)(hlen:n<=2^24)
  (h:∀h' tk vs,(∀b o,s.heap.get? b=uQ o->h'.get? b=uQ o)->s.heap.objs.size<h'.objs.size->Vals ((zX n).map λ(i:Nat)=>V.int (i:Int)) vs->Q vs {s with heap:=h',toks:=tk}):
  vA (vj prog w) A (collect (.ref r)) Q E s:=by
 have key:∀R:Result->xN->Prop,(∀h' tk acc' c',(∀b o,b≠s.heap.objs.size->(s.heap.push (seqObj "list" #[] 0)).get? b=uQ o->h'.get? b=uQ o)->h'.get? s.heap.objs.size=uQ {cls:=.type "list",dict:=uZ,data:=.seq acc' c',slots:= #[]}->
   ItemsOf (λi v=>∃t,v=.int (0+i*1) t) acc' n->R (.ok (.ret (.ref s.heap.objs.size))) {s with heap:=h',toks:=tk})->codeAny (vj prog w) A (.builtin "list.__iadd__" ⟨[.ref s.heap.objs.size,.ref r],[]⟩) R {s with heap:=s.heap.push (seqObj "list" #[] 0)}:=λR hR=>by
  refine codeAny_builtin entry_list_iadd' ?_;rw[Around.under_plainId PySem.F.plain_list_iadd _];exact wpAny_extend_range hh (zZ _ hr) hsmall hn hlen s.heap.objs.size (.ref s.heap.objs.size) 0 (z3 _ rfl) hR
 unfold collect;refine vC (wpAny_runValue (codeAny_builtin entry_proto_collect' ?_));refine vC (wpAny_newList (vM ⟨Code.quiet_builtin _ (by decide +kernel),key _ λh' tk acc' c' hk hS' hacc=>?_⟩));exact vC (wpAny_load hS' (vM (h h' tk acc'.toList (λb o e=>hk b o (zM (zy e)) (zZ _ e)) (zy hS') (ZH5 hacc))))
theorem ZKS{M:Model}{A:xF}{E:xP->xN->Prop}{s:xN}{env:Env}{pos:Pos}{T:String}{e:xG}{rest:List xG}{c:List Keyword}{Q:xP->xN->Prop}
  (i:(vQ pos (vY c env)).all (·.1.isSome)=uJ)
  (h:vA M A (spliced (xU pos (v8 (e::rest) env))) (λvs b=>vA M A (evalAll ((vQ pos (vY c env)).map (·.2)))
   (λks f=>vA M A (call (.builtin T) vs (((vQ pos (vY c env)).filterMap (·.1)).zip ks)) Q E f) E b) E s)
  (d:(xU pos (v8 (e::rest) env)).any (·.1)=uX) (j:(vQ pos (vY c env)).any (·.1.isNone)=uX) (l:v8 (e::rest) env=(uX,eval e env)::v8 rest env):
  vA M A (callWith pos (.builtin T) [] (xU pos (v8 (e::rest) env)) (vQ pos (vY c env))) Q E s:=by
 unfold callWith;refine vC (vG (vH (PyProof.Rows.evalArgs_kw2 (Q:=λa b=>vA M A (call (.builtin T) ([]++a.pos) a.kw) Q E b) i h l) (λa b g=>vC (wpAny_standAt ?_)) λ_ _ x=>x));simp only[d,j,Bool.or_false];exact vC (vM (vC (vH g (λr f k=>vC (vG (wpAny_point (vM k)))) λ_ _ x=>x)))
theorem ZLN{r q:xE}{j:Int}{t u v:Tok}{n:Nat}{Q:xP->xN->Prop}(J:A.handled=uZ)(K:IsRange s.heap r 0 j 1 t u v)(c:Builtin.Range.small 0 j 1=uJ)(F:Builtin.Range.rangeSize 0 j 1=n)(B:n<64)
  (h:∀D g tk vs,s.heap.objs.size<=D->g.get? D=uQ (seqObj "list" vs.toArray 0)->(∀b o,s.heap.get? b=uQ o->g.get? b=uQ o)->Vals ((zX n).map λ(i:Nat)=>V.int (i:Int)) vs->
   vA (vj prog w) A.in1.in1 (PyProof.Rows.ksk_tree D (.ref q) uJ) (λf s'=>f=PySem.Fin.done (.ret .none)/\Q (.ref D) s') E {s with heap:=g,toks:=tk}):
  vA (vj prog w) A (call (.builtin "sorted") [.ref r] [("key",.ref q),("reverse",.bool uJ)]) Q E s:=by
 refine call_function_entry_kw kind_sorted plain_sorted entry_sorted (PyProof.Rows.ksk_s2 _ _ _) ?_;unfold Builtin.«sorted»;refine vC (vM ?_);refine vC (ZMH J K c F (by lia) λd tk vs I l z=>?_);have k:vs.length=n:=by have:=z.length;simpa using this.symm
 refine vC (wpAny_newList ?_ (by rw[k,vk];lia));have y:(d.push (seqObj "list" vs.toArray 0)).get? d.objs.size=uQ (seqObj "list" vs.toArray 0):=z3 _ rfl;refine vC (vG (wpAny_call_entry_kw slot_list_sort ⟨_,y,rfl⟩ entry_list_sort ?_ (PyProof.Rows.ksk_l2 _ _ _)));rw[PyProof.Rows.ksk_t2];exact vH (h d.objs.size (d.push (seqObj "list" vs.toArray 0)) tk vs (jC l) y (λb o e=>zZ _ (I b o e)) z) (λf s' C=>(⟨_,C.1,vM ⟨_,rfl,C.2⟩⟩)) λ_ _ x=>x
end
section
variable{X:Cx}{vS:List (xE×Obj)}{σ:St}{H:Hp}{s:xN}{h':Heap}{m:Str->Option xP}
theorem ZAg(I:Inv X vS σ H s)(f:FpOk X vS H q)(k:∀b o,b≠X.env.locals->b≠q->s.heap.get? b=uQ o->h'.get? b=uQ o)(C:∀o,s.heap.get? q=uQ o->∃r,h'.get? q=uQ r)(ns:∀m,s.heap.Ns X.env.locals m->h'.Ns X.env.locals m):Inv X vS σ H {s with heap:=h'}:=by
 have t:∀c w,H c=uQ w->c≠X.env.locals:=λc w e z=>by rw[z,I.free]at e;cases e
 have y:∀c w,H c=uQ w->c≠q:=λc w e z=>by rw[z,f.1]at e;cases e
 refine I.step (ch:=[q]) (λb i=>?_) (λb o p _ g e _=>k b o p (λz=>g (by simp[z])) e) (λb o p _ g e _=>⟨o.slots,k b o p (λz=>g (by simp[z])) e⟩) (λ_ _ _ _ n=>n) (λb o g e=>?_) (λ_ _ e=>e) (λ_ _ _ e=>e)
  (λb F e=>⟨#[],by rw[e];simp⟩) ns (λb u e=>?_) I.bare
 .have l:b=q:=by simpa using i
  subst l;exact⟨f.2.2.2.1,f.2.1,f.2.2.2.2.1,f.2.2.2.2.2⟩
 .by_cases i:b=X.env.locals
  .obtain⟨m,B,_⟩:=I.loc;obtain⟨r,_,_,j,_⟩:=ns m B;exact⟨r,i▸j⟩
  by_cases h:b=q
  .subst h;exact C o e
  exact⟨o,k b o i h e⟩
 refine(I.hok b u e).stay (λc v g z=>k c v ?_ ?_ z) (λ_ z=>z) λ_ _ z=>z
 .rcases g with z|z
  .rw[z];exact t b u e
  exact t c _ z
 .rcases g with z|z
  .rw[z];exact y b u e
  exact y c _ z
theorem ZNx(I:Inv X vS σ H s)(un:Un (frs X.stack) [] H H' s.heap h2)(h:s.heap.Ns X.env.locals m):h2.Ns X.env.locals m:=by
 obtain⟨o,c,g,e,d,r⟩:=h;by_cases b:X.env.locals∈frs X.stack
 .obtain⟨j,i⟩:=un.slot _ o e I.free b (by simp);exact⟨_,c,g,i,d,r⟩
 exact⟨o,c,g,un.keep _ o e I.free b (by simp),d,r⟩
theorem ZCG(I:Inv X vS σ H s)(un:Un (frs X.stack) [] H H' s.heap h2)(f:FpOk X vS H q)(e:s.heap.get? q=uQ o):h2.get? q=uQ o/\FpOk X vS H' q:=by
 have b:q∉frs X.stack:=λz=>by
  rcases z0.mp (I.Ni q z)with z|z
  .exact f.2.1 z
  exact f.2.2.1 z
 exact⟨un.keep q o e f.1 b (by simp),un.free q o e f.1 (by simp),f.2⟩
end
def H9(te:DE)(caps:List Nat)(S:DSt):Nat->Nat->DH->R (List Int)
 |0,_,G=>.ok [] G
 |n+1,i,G=>(te (Ib caps (.int i) S) G).bind λd G1=>match d with
  |.int k=>(H9 te caps S n (i+1) G1).bind λks G2=>.ok (k::ks) G2
  |_=>.bad
structure KS (X:Cx) (vS:List (xE×Obj)) (σ:St) (D kS:xE) (e1:Nat) (m:Str->Option xP) (a b:Wd) (G:DH) (ks:List xP) (kz:List Int) (e:Nat) (s:xN):Prop where
 inv:Inv X vS σ b.H s
 ext:Ext a b
 sim:Sim b G
 ns:s.heap.Ns X.env.locals m
 k:s.heap.get? kS=uQ (seqObj "list" ks.toArray e)
 d:s.heap.get? D=uQ (seqObj "list" #[] e1)
 fk:FpOk X vS b.H kS
 fd:FpOk X vS b.H D
 ne:D≠kS
 dge:X.s₀.heap.objs.size<=D
 iz:IntsAre ks kz
section
variable{X:Cx}{vS:List (xE×Obj)}{σ:St}{N:List Str}{scope:xM}{caps:List Nat}{x:Str}{f:xE}{A:xF}{a:Wd}{S:DSt}{body:xG}{te:DE}{params:Arguments}{pm ctv:xP}{c':xE}{ob oc:Obj}{vs0:Array xP}{t0:Tok}{E:XK}
 {Dd kS:xE} {e1:Nat} {m:Str->Option xP} {h₀:Heap} {Q:VK}
theorem Xv(cs:CompSc X N scope 1 caps)(hN:N[0]?=uQ x)(hx:scope.names.lookup x=uQ .local)(L:scope.isCoroutine=uX)(y:scope.isGenerator=uX)(hk:a.K=X.K)(rS:RepS a S σ)(hp:(f,ob)∈vS)
  (hd:ob.data=.func (ze "<lambda>" De params body scope (Cr X.env scope.names []) pm (.ref c') ctv)) (hc1:a.H c'=uQ (.frz oc (.own 0))) (Y:oc.data=.fields vs0) (hc3:vs0[1]?=uQ (.str De t0))
  (j:∀u,bindArgs (ze "<lambda>" De params body scope (Cr X.env scope.names []) pm (.ref c') ctv) ⟨[u],[]⟩=pure [(x,u)])
  {k:Nat} (hr:Room (k+1) A) (U:A.frames=uQ X.stack) (he:∀s H,Room k (A.deeper (Jy X De scope f (.ref c') s.heap.objs.size))->QE (Le X N De scope f (.ref c') A s H) E0 body te)
  (Z:h₀=Att.Je h₀) {n0:Nat} {g:List Int->DH->R D} {M:List xP->Nat->xN->Prop}
  (fin:∀(b:Wd)(G:DH)(ks:List xP)(kz:List Int)(e:Nat)(s:xN),KS X vS σ Dd kS e1 m a b G ks kz e s->kz.length=n0->out E0 b (g kz G) Q->M ks e s):
  ∀(r:List xP)(i:Nat)(b:Wd)(G:DH)(ks:List xP)(kz:List Int)(e:Nat)(s:xN),KS X vS σ Dd kS e1 m a b G ks kz e s->kz.length+r.length=n0->(∀(t:Nat)(v:xP),r[t]?=uQ v->∃tk,v=Value.int ((i+t:Nat):Int) tk)->
   out E0 b ((H9 te caps S r.length i G).bind λn l=>g (kz++n) l) Q->PySem.W.KatKeys X.prog X.w A h₀ X.env.locals m kS (.ref f) M r ks e s
 |[],i,b,G,ks,kz,e,s,K,hz,hv,h=>by refine .nil (fin b G ks kz e s K hz ?_);have h':out E0 b (g (kz++[]) G) Q:=h;rw[qJ]at h';exact h'
 | v::r,i,b,G,ks,kz,e,s,K,hz,hv,h=>by
  obtain⟨tk,rfl⟩:=hv 0 v rfl;have hcr:s.heap.CodeRec (.ref c') De:=by obtain⟨e3,_⟩:=K.inv.hok c' _ (K.ext.frz _ _ _ hc1);exact⟨c',oc,vs0,t0,rfl,e3,Y,hc3⟩
  have h1:out E0 b ((te (Ib caps (.int (i:Int)) S) G).bind λd F=>(match d with
    |.int k=>(H9 te caps S r.length (i+1) F).bind λn l=>g (kz++(k::n)) l
    |_=>.bad)) Q:=by
   have J:out E0 b (((te (Ib caps (.int (i:Int)) S) G).bind λd F=>(match d with
    |.int k=>(H9 te caps S r.length (i+1) F).bind λks l=>.ok (k::ks) l
    |_=>.bad)).bind λn l=>g (kz++n) l) Q:=h
   rw[R.bind_assoc]at J;refine cast (congrArg (λz=>out E0 b z Q) ?_) J
   congr 1
   funext d F
   cases d<;>first|rfl|(show((H9 te caps S r.length (i+1) F).bind _).bind _=_;rw[R.bind_assoc];rfl)
  refine .cons (wpAny_call (vV (ZIk (E:=E0) cs hN hx L y K.inv (K.ext.k.trans hk) K.sim (rS.mono K.ext) ((K.inv.pin _ (zG _ hp)).1) hd hcr (j _) hr U (he s b.H) (d:=.int (i:Int)) (v:=.int (i:Int)) ⟨tk,rfl⟩ rfl (Fb h1)) λq T P=>?_));cases q with
  |error e=>exact .elim P
  | ok fl=>
   cases fl with
   | ret u=>
    obtain⟨v',H',os,bare,un,hok,ru,b',d',G',rfl,x',sm',rd',_,h3⟩:=P;have I2:Inv X vS σ b'.H T:=by obtain⟨hh,g1,d1,t1,os1⟩:=T;obtain rfl:os1=s.os:=os;exact K.inv.call un hok bare (λb z=>absurd z (by simp))
    have n2:=ZNx K.inv un K.ns;obtain⟨k2,C⟩:=ZCG K.inv un K.fk K.k;obtain⟨d2,O⟩:=ZCG K.inv un K.fd K.d;cases d' with
    | int z=>
     cases(rd');obtain⟨tz,rfl⟩:=ru;refine⟨(kS,seqObj "list" ks.toArray e)::Att.ledger T.heap X.env.locals kS,_,⟨n2,λb o e=>?_,?_⟩,λp hp=>?_,.head λp hp=>(Att.H8.mp hp).2.1,λJ c F2 N2=>?_⟩
     .rw[Z,Att.K1]at e;cases e
     .rw[Z];exact j7 _
     .rcases z0.mp hp with rfl|hp
      .exact⟨k2,C.2.1,Z▸Att.K1 _ _⟩
      obtain⟨q1,q2,q3⟩:=(Att.H8).mp hp;exact⟨q3,q1,Z▸Att.K1 _ _⟩
     have B:∀b o,b≠X.env.locals->b≠kS->T.heap.get? b=uQ o->J.get? b=uQ o:=λb o h1 h2' e=>(N2 (b,o) (zV _ (Att.H8.mpr ⟨h1,h2',e⟩))).1
     have I:=(N2 (kS,seqObj "list" (ks++[Value.int z tz]).toArray c) zw).1;have nsA:∀m',T.heap.Ns X.env.locals m'->J.Ns X.env.locals m':=λm' hm'=>by rw[hm'.eq_nsMap,<-n2.eq_nsMap];exact F2.ns
     refine Xv cs hN hx L y hk rS hp hd hc1 Y hc3 j hr U he Z fin r (i+1) b' G' (ks++[Value.int z tz]) (kz++[z]) c _ ⟨ZAg I2 C B (λ_ _=>⟨_,I⟩) nsA,K.ext.trans x',sm',F2.ns,I,B Dd _ O.2.1 K.ne d2,C,O,K.ne,K.dge,PyProof.Rows.ksk_snoc K.iz⟩ (by rw[zN]at hz;rw[zH,jH];lia) (λt v hv'=>?_) ?_
     .obtain⟨tk',e⟩:=hv (t+1) v (by simpa using hv');exact⟨tk',by rw[e];congr 1;lia⟩
     .refine cast (congrArg (λz=>out E0 b' z Q) ?_) h3;show((H9 te caps S r.length (i+1) G').bind λn l=>g (kz++z::n) l)=_
      congr 1
      funext n l;simp
    |_=>exact h3.elim
   |_=>exact .elim P
end
end _D
namespace _D
open PySem PySem.Spec _L
open PyProof.Rows hiding St
open PySem.W (KatKeys KatFin katRev KatBack)
section
variable{prog:xL}{w:xR}{A:xF}{E:xP->xN->Prop}{s:xN}{h₀:Heap}{L a kS:xE}{m:Str->Option xP}{P:PySem.Fin->xN->Prop}
theorem ZPF(c:ks.length=1)(h:KatFin h₀ L m kS a ks e e1 [v] (λd=>P (.done (.ret .none)) d) s):vA (vj prog w) A (ksk_end a uJ [v].toArray e1 (.ref kS) ks.toArray) P E s:=by
 obtain⟨k,rfl⟩:∃k,ks=[k]:=by
  match ks,c with
  |[k],_=>exact⟨k,rfl⟩
 unfold ksk_end;dsimp only;refine vC (wpAny_rule ?_);have b: [v].toArray.size<2:=by simp
 rw[if_pos b,if_pos b];refine vC (vM ?_);rw[StateT.run_pure];refine vC (vM ?_);dsimp only;exact PySem.W.kat_tail (out:=[v]) (by simp[arrOf]) (by simp) (by simp) rfl h
theorem ZL5(ho:s.heap.get? a=uQ (seqObj "list" [v].toArray n))(hL:L<s.heap.objs.size)
  (h:∀p j h',a<p->s.heap.objs.size<=p->h'.get? p=uQ (seqObj "list" #[] 0)->h'.get? a=uQ (seqObj "list" #[] j)->(∀b o,b≠a->s.heap.get? b=uQ o->h'.get? b=uQ o)->
   KatKeys prog w A h₀ L m p f (λks e s'=>KatFin h₀ L m p a ks e j [v] (λK=>P (.done (.ret .none)) K) s') [v] [] 0 {s with heap:=h'}):
  vA (vj prog w) A (ksk_tree a f uJ) P E s:=by
 obtain⟨j,r⟩:∃j,(s.heap.update a (.mapSeq λ_=>(#[]:Array xP))).get? a=uQ (seqObj "list" #[] j):=⟨_,get?_update_seq ho λ_=> #[]⟩;unfold ksk_tree;refine vC (listItems_at ho rfl (vC (listUpdate_at ho rfl ?_ (by rw[zk,vk];simp) (j7 _))));refine vC (seqEpoch_at r rfl (vC (wpAny_newTuple (vC (wpAny_newList (vG ?_) (j7 _))) (by rw[vk];simp))))
 generalize B:(s.heap.update a (.mapSeq λ_=>(#[]:Array xP))).push {cls:=.type "tuple",data:=.seq [v].toArray.toList.toArray}=i;have I:i.objs.size=s.heap.objs.size+1:=by rw[<-B,size_push',Heap.size_update]
 have T:∀b o,b≠a->s.heap.get? b=uQ o->i.get? b=uQ o:=λb o z q=>by rw[<-B];exact zZ _ ((qU.update s.heap a (.mapSeq λ_=>(#[]:Array xP))).extBut b o z q)
 have O:i.get? a=uQ (seqObj "list" #[] j):=by rw[<-B];exact zZ _ r
 unfold ksk_rest;refine vC (wpAny_rule ?_);rw[List.forIn_toArray,jT];refine vC (vC (vC (wpAny_attempt (vH (h i.objs.size j (i.push (seqObj "list" #[] 0)) (by rw[I];exact jI (zy ho)) (I▸j8 _) (z3 _ rfl) (zZ _ O) λb o z q=>zZ _ (T b o z q)) (λk t hk=>?_) λ_ _ Z=>Z.elim))))
 obtain⟨y,g,X,C,U,c⟩:=hk;obtain⟨S,F,J,N,Q,Y⟩:=U.split;rw[J]at C;have u:=C (i.objs.size,seqObj "list" (List.toArray []) 0) (zG _ (.head _))
 have H:=qU.update t.heap i.objs.size (.mapSeq (·.push k))
 obtain⟨x,l⟩:∃x,(t.heap.update i.objs.size (.mapSeq (·.push k))).get? i.objs.size=uQ (seqObj "list" [k].toArray x):=⟨_,get?_update_seq u.1 (·.push k)⟩
 dsimp only;refine vC (listUpdate_at u.1 rfl ?_ (j7 _) (by rw[vk];simp));refine vM (vM ?_);exact vC (listItems_at l rfl (ZPF rfl (c _ x (PySem.W.kas_fr X H u.2.1 u.2.2) (by rw[N];exact PySem.W.news_set C Q Y H l))))
end
end _D
namespace _D
open PySem PySem.Spec _L
open PyProof.Rows hiding St
theorem ZAo:∀{ks:List xP}{kz:List Int},IntsAre ks kz->∀i,i<kz.length->∃t,ks.getD i Value.none=.int (kz.getD i 0) t
 |_,_,.nil,i,h=>absurd h (Nat.not_lt_zero _)
 |_,_,.cons n t r,0,_=>⟨t,rfl⟩
 |_,_,.cons n t r,i+1,h=>ZAo r i (jE h)
theorem ZBp:∀{ks c:List xP}{kz b:List Int},IntsAre ks kz->IntsAre c b->IntsAre (ks++c) (kz++b)
 |_,_,_,_,.nil,h=>h
 |_,_,_,_,.cons n t r,h=>.cons n t (ZBp r h)
theorem ZFx:∀{ks:List xP}{kz:List Int},IntsAre ks kz->IntsAre ks.reverse kz.reverse
 |_,_,.nil=>.nil
 |_,_,.cons n t r=>by rw[j4,j4];exact ZBp (ZFx r) (.cons n t .nil)
theorem Vals.rev:∀{vs:List V}{us:List xP},Vals vs us->Vals vs.reverse us.reverse
 |_,_,.nil=>.nil
 |_,_,.cons r b=>by rw[j4,j4];exact(Vals.rev b).append (.cons r .nil)
theorem ZE0:∀(n i:Nat),Reps a (Ay i n) ((qB i n).map λ(k:Nat)=>V.int (k:Int))
 |0,i=>rfl
 |n+1,i=>by rw[jA,zK,Gu];exact⟨_,_,rfl,rfl,by have:=ZE0 (a:=a) n (i+1);simpa using this⟩
section
variable{X:Cx}{vS:List (xE×Obj)}{σ:St}{N:List Str}{scope:xM}{caps:List Nat}{x:Str}{f:xE}{A:xF}{a:Wd}{S:DSt}{body:xG}{te:DE}{params:Arguments}{pm ctv:xP}{c':xE}{ob oc:Obj}{vs0:Array xP}{t0:Tok}
 {Dd kS:xE} {e1:Nat} {m:Str->Option xP} {h₀:Heap} {Q:VK}
theorem ZB1(K:KS X vS σ Dd kS e1 m a b G ks kz e s)(h0:h₀=Att.Je h₀)(r:Reps b ys ws)(v:Vals ws us)(hz:us.length<64)
  (h:out E0 b (.ok (.ref G.length) (G++[.lst ys])) Q):PySem.W.KatFin h₀ X.env.locals m kS Dd ks e e1 us (λs4=>EP X vS σ Q (.ref Dd) s4) s:=by
 have g0:∀b,h₀.get? b=uZ:=λb=>h0▸Att.K1 _ _
 have ab:h₀.objs.size<=X.env.locals:=h0▸j7 _;refine .intro (news:=(kS,seqObj "list" ks.toArray e)::Att.ledger s.heap X.env.locals kS) ⟨K.ns,λb o e=>(by rw[g0]at e;cases e),ab⟩ (λp hp=>?_) (.head λp hp=>((Att.H8).mp hp).2.1) λh2 c F2 N2=>?_
 .rcases z0.mp hp with rfl|hp
  .exact⟨K.k,K.fk.2.1,g0 _⟩
  obtain⟨q1,q2,q3⟩:=(Att.H8).mp hp;exact⟨q3,q1,g0 _⟩
 have nsOf:∀{h3:Heap},h3.Ns X.env.locals m->∀m',s.heap.Ns X.env.locals m'->h3.Ns X.env.locals m':=λ{h3}hh m' hm'=>by have e1:=K.ns.eq_nsMap;rw[hm'.eq_nsMap,<-e1];exact hh
 have keep2:∀b o,b≠X.env.locals->b≠kS->s.heap.get? b=uQ o->h2.get? b=uQ o:=λb o q1 q2 e=>(N2 (b,o) (zV _ (Att.H8.mpr ⟨q1,q2,e⟩))).1
 refine .intro (news:=(Dd,seqObj "list" #[] e1)::Att.ledger h2 X.env.locals Dd) F2 (λp hp=>?_) (.head λp hp=>((Att.H8).mp hp).2.1) λh3 c3 F3 N3=>?_
 .rcases z0.mp hp with rfl|hp
  .exact⟨keep2 Dd _ K.fd.2.1 K.ne K.d,K.fd.2.1,g0 _⟩
  obtain⟨q1,q2,q3⟩:=(Att.H8).mp hp;exact⟨q3,q1,g0 _⟩
 have new3:=(N3 (Dd,PySem.W.listOf us.toArray c3) zw).1;have ns3:∀m',h2.Ns X.env.locals m'->h3.Ns X.env.locals m':=λm' hm'=>by rw[hm'.eq_nsMap,<-F2.ns.eq_nsMap];exact F3.ns
 have I3:=ZAg (ZAg K.inv K.fk keep2 (λ_ _=>⟨_,(N2 (kS,seqObj "list" #[] c) zw).1⟩) (nsOf F2.ns)) K.fd (λb o q1 q2 e=>(N3 (b,o) (zV _ (Att.H8.mpr ⟨q1,q2,e⟩))).1) (λ_ _=>⟨_,new3⟩) ns3;have hge:=K.fd.2.2.2.1.symm;have hge':X.s₀.heap.objs.size<=Dd:=by
  rcases hge with z|z
  .exact z
  exact K.dge
 exact⟨.ref Dd,_,Vc I3 K.fd.1 hge' K.fd.2.1 K.fd.2.2.2.2.1 K.fd.2.2.2.2.2 (o:=.lst ws) ⟨by rw[v.length,vk];lia,us,c3,v,new3⟩,rfl,Jf K.sim r h _ K.fd.1⟩
end
section
variable{X:Cx}{vS:List (xE×Obj)}{σ:St}{N:List Str}{scope:xM}{caps:List Nat}{x:Str}{f:xE}{A:xF}{a:Wd}{S:DSt}{body:xG}{te:DE}{params:Arguments}{pm ctv:xP}{c':xE}{ob oc:Obj}{vs0:Array xP}{t0:Tok}{Q:VK}
theorem ZGL(v:Vals ((zX n).map λ(i:Nat)=>V.int (i:Int)) vs)(t:Nat)(u:xP)(h:vs[t]?=uQ u):∃tk,u=Value.int ((0+t:Nat):Int) tk:=by
 have c:vs.length=n:=by have:=v.length;simpa using this.symm
 have d:t<n:=by rw[<-c];exact(zY.mp h).1
 obtain⟨e,b,r⟩:=v.get (by rw[zv,qx d];rfl);rw[h]at b;cases b;obtain⟨tk,rfl⟩:=r;exact⟨tk,by simp⟩
theorem ZLc(cs:CompSc X N scope 1 caps)(hN:N[0]?=uQ x)(hx:scope.names.lookup x=uQ .local)(Y:scope.isCoroutine=uX)(J:scope.isGenerator=uX)(hk:a.K=X.K)(rS:RepS a S σ)(hp:(f,ob)∈vS)
  (hd:ob.data=.func (ze "<lambda>" De params body scope (Cr X.env scope.names []) pm (.ref c') ctv)) (hc1:a.H c'=uQ (.frz oc (.own 0))) (hc2:oc.data=.fields vs0) (hc3:vs0[1]?=uQ (.str De t0))
  (r:∀u,bindArgs (ze "<lambda>" De params body scope (Cr X.env scope.names []) pm (.ref c') ctv) ⟨[u],[]⟩=pure [(x,u)])
  {k:Nat} (hr:Room (k+1) A) (hfr:A.frames=uQ X.stack) (he:∀s H,Room k (A.deeper (Jy X De scope f (.ref c') s.heap.objs.size))->QE (Le X N De scope f (.ref c') A s H) E0 body te)
  {s:xN} {O:Heap} {tk n:Nat} {t:xE} {vs:List xP} {G:DH} (I:Inv X vS σ a.H s) (sm:Sim a G) (T:s.heap.objs.size<=t) (oD:O.get? t=uQ (seqObj "list" vs.toArray 0)) (k1:∀b o,s.heap.get? b=uQ o->O.get? b=uQ o) (v:Vals ((zX n).map λ(i:Nat)=>V.int (i:Int)) vs) (n1:1<=n) (n64:n<64)
  (h:out E0 a ((H9 te caps S n 0 G).bind λks d=>.ok (.ref d.length) (d++[.lst (Fo ks)])) Q) {E:xP->xN->Prop}:
  vA (vj X.prog X.w) A (ksk_tree t (.ref f) uJ) (λfin s'=>fin=PySem.Fin.done (.ret .none)/\EP X vS σ Q (.ref t) s') E {s with heap:=O,toks:=tk}:=by
 have hl:vs.length=n:=by have:=v.length;simpa using this.symm
 obtain⟨m,hn,_⟩:=id I.loc;have q:=hn.keeps k1;have fD:=I.Hh T (I.hok.fresh T);have nsOf:∀{h3:Heap},h3.Ns X.env.locals m->∀m',s.heap.Ns X.env.locals m'->h3.Ns X.env.locals m':=λ{h3}hh m' hm'=>by have p:=hn.eq_nsMap;have e2:=hm'.eq_nsMap;rw[e2,<-p];exact hh
 have rg:∀b:Wd,Reps b (Ay 0 n) ((zX n).map λ(i:Nat)=>V.int (i:Int)):=λb=>by have:=ZE0 (a:=b) n 0;rw[<-List.range_eq_range']at this;exact this
 have start:∀y p B,s.heap.objs.size<=y->t≠y->B.get? y=uQ (seqObj "list" #[] 0)->B.get? t=uQ (seqObj "list" #[] p)->(∀b o,b≠X.env.locals->s.heap.get? b=uQ o->B.get? b=uQ o)->B.Ns X.env.locals m->
   KS X vS σ t y p m a a G [] [] 0 {s with heap:=B,toks:=tk}:=λy p B F q2 q3 q4 q5 q6=>
  ⟨ZLj I q5 (nsOf q6),.refl a,sm,q6,q3,q4,I.Hh F (I.hok.fresh F),fD,q2,zE I.sz T,.nil⟩
 have old:∀b o,s.heap.get? b=uQ o->b≠t:=λb o e=>zM (zq (zy e) T)
 have B:=hl▸h;by_cases hn2:n<2
 .have hn1:n=1:=by lia
  subst hn1;obtain⟨u,rfl⟩:∃u,vs=[u]:=by
   match vs,hl with
   |[u],_=>exact⟨u,rfl⟩
  refine ZL5 (h₀:=Att.Je O) (m:=m) oD q.lt λy p h2 F q2 q3 q4 q5=>?_
  refine Xv (n0:=1) (g:=λks d=>R.ok (D.ref (jG d)) (d++[DO.lst (Fo ks)])) cs hN hx Y J hk rS hp hd hc1 hc2 hc3 r hr hfr he rfl (λb d ks L e s2 K l hq=>?_) [u] 0 a G [] [] 0 _
   (start y p h2 (zE T (jC F)) (zM F) q3 q4 (λb o _ e=>q5 b o (old b o e) (k1 b o e)) (q.at λo e=>q5 _ o (Ne.symm fD.2.1) e)) rfl (ZGL v) B
  have es:Fo L=Ay 0 1:=by unfold Fo;rw[l,if_pos (by decide)]
  rw[es]at hq;have:=ZB1 (h₀:=Att.Je O) K rfl (rg b) v (by simp) hq;exact this.mono λs4 z=>⟨rfl,z⟩
 refine PySem.W.kat_keyed (Att.ZOh q) (news:=Att.ledger O X.env.locals t) ?_ oD fD.2.1 (Att.K1 _ _) (λ⟨_,_⟩ hp=>(Att.H8.mp hp).2.1) (by lia) (by lia) λy p h2 F2 N2 F q2=>?_
 .rintro⟨b,o⟩ hp;obtain⟨n1,n2,e⟩:=Att.H8.mp hp;exact⟨e,n1,Att.K1 _ _⟩
 refine Xv (g:=λks d=>R.ok (D.ref (jG d)) (d++[DO.lst (Fo ks)])) cs hN hx Y J hk rS hp hd hc1 hc2 hc3 r hr hfr he rfl (λb d ks L e s2 K l hq=>?_) vs 0 a G [] [] 0 _ (start y p h2 (zE T (jC F)) (zM F) (N2 _ zw).1 (N2 _ (zV _ zw)).1 (λb o hb e=>(N2 (b,o) (zV _ (zV _ (Att.H8.mpr ⟨hb,old b o e,k1 b o e⟩)))).1) F2.ns) (by simpa using hl) (ZGL v) B
 have hks:=K.iz.length▸l;have es:Fo L=((Hv (ltK L.reverse) (zi n)).toList.map λi=>(Ay 0 n).reverse.getD i .non).reverse:=by unfold Fo;rw[l,if_neg hn2]
 rw[es]at hq;rw[PyProof.Rows.ksk_kind K.iz (by rw[zk,hks];lia)];refine vM ?_;rw[hl];have M:0<n:=by lia
 refine ZE4 (lt:=ltK L.reverse) (λi j P hj C hC=>?_) (Yq M) ?_
 .unfold PySem.W.kas_ask wE;rw[if_pos rfl];have rz:=ZFx K.iz;obtain⟨t1,p⟩:=ZAo rz i (by simpa[l]using P);obtain⟨t2,e2⟩:=ZAo rz j (by simpa[l]using hj);rw[p,e2];exact PySem.W.kat_lt_int hC
 .have Z:Ents n (Hv (ltK L.reverse) (zi n)):=Xa (Yq M);have hin:∀i∈(Hv (ltK L.reverse) (zi n)).toList,i<n:=λi P=>Z.lt (by simpa using P)
  have hsz:(Hv (ltK L.reverse) (zi n)).size=n:=by have:=Z.2.size_eq;simpa using this
  unfold wE;rw[if_pos rfl,if_pos rfl];have:=ZB1 (h₀:=Att.Je O) K rfl (.rev (ZD8 (rg b).rev _ λi P=>by simpa[Ay]using hin i P)) (Vals.rev (ZGd (Vals.rev v) _ λi P=>by simpa using hin i P)) (by simpa[hsz]using n64) hq;exact this.mono λs4 z=>⟨rfl,z⟩
end
section
open Classical in
def Nh(C m:Str)(tn:DA)(caps:List Nat)(te:DE):DE:=λS G=>(tn S G).bind λds G1=>match ds with
 |[.int j]=>if(1<=j/\j<64)/\DO.tab C m∈G1 then(H9 te caps S j.toNat 0 G1).bind λks G2=>.ok (.ref G2.length) (G2++[.lst (Fo ks)])else .bad
 |_=>.bad
section
variable{X:Cx}{N:List Str}{scope:xM}{caps:List Nat}{x:Str}{body:xG}{te:DE}{params:Arguments}{e:xG}{tn:DA}{p p' pos pos' lp kp kp' cp:Pos}{C m:Str}{cj:Nat}
theorem ZMz(hc:X.calm=uJ)(hg:Gl X "sorted")(hm:X.mg "sorted"=uZ)(hg2:Gl X "range")(hm2:X.mg "range"=uZ)(ha:QA X E0 [e] tn)(cs:CompSc X N scope 1 caps)(hN:N[0]?=uQ x)(hx:scope.names.lookup x=uQ .local)(hco:scope.isCoroutine=uX)(U:scope.isGenerator=uX)
  (l:∀(cl:List (Str×xE))(pm T:xP)(J:xE)(u:xP),bindArgs (ze "<lambda>" De params body scope cl pm (.ref J) T) ⟨[u],[]⟩=pure [(x,u)])
  (hq:X.env.qual++"<lambda>"=De) (hdef:defaultsOf params X.env=([],[])) (B:BMd X.base X.mg) (q:∀c P,TabAt X.K C m c P->X.env.code=.ref c) (hr:Room (k+3) X.A)
  (he:∀f J A s H,Room k (A.deeper (Jy X De scope f (.ref J) s.heap.objs.size))->QE (Le X N De scope f (.ref J) A s H) E0 body te)
  (hs:v8 [e] X.env=[(uX,eval e X.env)]:=by rfl) (w:v8 [.Call (.Name "range" p') [e] [] pos'] X.env=[(uX,eval (.Call (.Name "range" p') [e] [] pos') X.env)]:=by rfl):
  QE X E0 (.Call (.Name "sorted" p) [.Call (.Name "range" p') [e] [] pos'] [⟨uQ "key",.Lambda params body scope lp,kp⟩,⟨uQ "reverse",.Constant (.bool uJ) cj cp,kp'⟩] pos) (Nh C m tn caps te):=by
 intro i s σ H Q I h;obtain⟨a,S,G,hk,rfl,sm,r,h⟩:=h;refine vB (Hy I hg hm ZPD (ZKS rfl ?_ (by rw[w];rfl) rfl w));rw[w];refine Calls.spliced_cons (Call_ (Hy I hg2 hm2 vd (qa (thn (ha pos' i s σ a.H _ I ⟨a,S,G,hk,rfl,sm,r,(Kl h).imp λ_ _ z=>z⟩) λus g zz=>?_) hs rfl)));obtain⟨vs,H1,Z,r1,q1⟩:=zz;obtain⟨b,ds,G1,rfl,x1,O,rd,-,Y⟩:=q1;split at Y
 rotate_left
 .exact Y.elim
 rename_i j;split at Y
 rotate_left
 .exact Y.elim
 rename_i hj;obtain⟨⟨j1,j2⟩,M⟩:=hj;obtain⟨v,rfl,rv⟩:=reps1 rd;cases(rv);obtain⟨u,rfl,ru⟩:=r1.one;obtain⟨t,rfl⟩:=ru;refine call_range_1 (Calls.spliced_nil ?_)
 have hsz:Builtin.Range.rangeSize 0 j 1=(j.toNat:Int):=by rw[rangeSize_one];split <;> lia
 have kb:=x1.k.trans hk;have I2:=Z.kept (t':=g.toks+1+1) (h':=g.heap.push {cls:=.type "range",data:=.fields #[.int 0 g.toks,.int j t,.int 1 (g.toks+1)]}) λb o e=>zZ _ e
 generalize n:({cls:=.type "range",data:=.fields #[.int 0 g.toks,.int j t,.int 1 (g.toks+1)]}:Obj)=ro at*;have I3:Inv X ((g.heap.objs.size,ro)::i) σ b.H {g with heap:=g.heap.push ro,toks:=g.toks+1+1}:=I2.Gj λp hp=>by
  rcases z0.mp hp with rfl|hp
  .exact⟨by rw[<-n];exact z3 _ rfl,Z.hok.fresh (zx _),jQ Z.lt,Z.nofs (zx _),λv z=>by rw[<-n]at z;cases z⟩
  exact I2.pin p (zG _ hp)
 obtain⟨ti,hti⟩:=List.getElem?_of_mem M;obtain⟨c,P,ta,tok⟩:=O.obj ti _ hti;rw[kb]at ta;have ehd:zh X.K c P=uJ:=by obtain⟨_,_,_,_,_,_,_,_,_,_,z⟩:=ta;exact z
 refine wpAny_evalAll_cons (vC (ZKL I3 (Ys (cs.cells I3.ok)) (q c P ta) ehd tok B hq hdef λb2 f J T ob oc vs0 t0 s2 L sm2 I4 hob hc1 hc2 hc3=>vC (wpAny_standAt (vM ?_))));refine wpAny_evalAll_cons (vC (thn (ZBi (E:=E0) _ s2 σ b2.H (λv H'=>v=.bl uJ/\∃y:Wd,y.H=H'/\Ext b2 y/\Sim y G1) I4 ⟨b2,S,G1,L.k.trans kb,rfl,sm2 G1 O,(r.mono x1).mono L,λy v F s3 r3=>⟨r3,y,rfl,F,s3⟩⟩) λu3 s3 h3=>vC (wpAny_standAt (vM (wpAny_evalAll_nil ?_)))))
 obtain⟨v3,H3,I5,ru3,rfl,y,rfl,F,sm3⟩:=h3;obtain rfl:u3=Value.bool uJ:=ru3;have rng:IsRange s3.heap g.heap.objs.size 0 j 1 g.toks t (g.toks+1):=by have:=(I5.pin (g.heap.objs.size,ro) (zG _ (by simp))).1;rw[<-n]at this;exact this
 refine ZLN (I.ok.hd hc) rng (small_one (by decide) (by decide) (by lia) (by lia)) hsz (by lia) λD h1' tk vs hD oD k1 vv=>?_
 refine vH (ZLc cs hN hx hco U (F.k.trans (L.k.trans kb)) (((r.mono x1).mono L).mono F) zw hob (F.frz _ _ _ hc1) hc2 hc3 (λu=>l _ _ _ _ u) hr.in1.in1 I5.ok.frames (λs' H'=>he f J X.A.in1.in1 s' H') I5 sm3 hD oD k1 vv (by lia) (by lia) (Y.mono (L.trans F))) (λfin s4 hf=>⟨hf.1,?_⟩) λ_ _ z=>z
 obtain⟨v4,H4,I6,r4,q4⟩:=hf.2;exact⟨v4,H4,I6.Gj λp hp=>I6.pin p (zG _ (zV _ (zV _ hp))),r4,q4⟩
end
theorem ZOZ{P:xL}{w:xR}{K:za}{mg:Str->Option xP}{base:Heap}{x qual:Str}{st:xO}{f:xE}{fd:xH}{N ps:List Str}{k:Nat}{b:DS}(F:Fun K x qual st f fd)(S:FnScope N ps (An st))
  (hbody:∀(cdv:xP)(A:xF)(outer:List Env)(s:xN)(H:Hp)(E:XK),fd.code=cdv->Room k (A.deeper (envOfC qual (An st) s.heap.objs.size f cdv))->QSs (Jt CX0 P w K mg base N qual (An st) f cdv A outer s H E).nox E0 (Ey st) b):
  FnOk P w K mg base CX0 (k+1) f fd ps (lF K (Ba ps.length (N.length-ps.length) b)):=by
 obtain⟨o1,o2,o4,o5,o6,o7,c,o8,o9,rfl,lk,hc⟩:=F.ex;exact ZCM lk hc S (λ_ _ _ _=>ZAD) λA o s H n Q E z h=>⟨_,PSs.nox (hbody c A o s H E rfl z),ZCg h⟩
end
def OnlyT(T:xE)(H:Hp):Prop:=∀b,H b=uZ∨(∃o xs,H b=uQ (.frz o (.lst xs)))∨(b=T/\H b=uQ (.tbl #[]))
theorem ZM9{P:xL}{w:xR}{K:za}{I mb:Str->Option xP}{k:Nat}{fa a T c:xE}{fd:xH}{x:Str}{sp:Sp}{f:xN}{vs:List xP}{ns:List Int}
  (X:K.In f.heap) (U:f.heap.Ns vz I) (g:f.heap.Ns builtinsNs mb) (Z:∀x:Str,x≠"__name__"->mb x=vX x) (M:f.heap.NoLimit) (hg:f.gens= #[]) (bm:BMd f.heap I)
  (J:f.heap.get? a=uQ {cls:=.type "list",data:=.seq vs.toArray}) (hi:IntsAre vs ns) (hl:ns.length<=sizeLine) (hr:Room k callerA)
  (C:f.heap.get? T=uQ (qg #[])) (hC:zh K c T=uJ) (hK:qh K=uJ)
  (F:∀l:Heap,K.In l->l.Ns vz I->BMd l I->FnOk P w K I l CX0 k fa fd [x] sp) (E:∀(s:xN)(u:xP),BindsTo s fd ⟨[u],[]⟩ [(x,u)])
  (hsp:∀H:Hp,OnlyT T H->H T=uQ (.tbl #[])->SqL K H a (ns.map V.int)->sp [.ref a] H (λv _=>v=.bl uJ) λ_ _ _=>False):
  codeAny (vj P w) callerA (.call (.ref fa) ⟨[.ref a],[]⟩) (λr s'=>r=.ok (.ret (.bool uJ))/\OldK f.heap s'.heap/\s'.os=f.os/\AllBare s'.gens) f:=by
 have rv:=_L.Rf hi;have hKT:K.lookup T=uZ:=by
  cases q:K.lookup T with
  |none=>rfl
  |some o=>
   have e:=X T o q;rw[C]at e;cases e;have Y:=jP.mp hK (T,qg #[]) (PySem.W.mem_of_lookupK q);exact absurd (Y) zC
 have N:a≠T:=λz=>by rw[z,C]at J;cases J
 have A:∀H:Hp,OnlyT T H->H T=uQ (.tbl #[])->SqL K H a (ns.map V.int)->HOk P w H f.heap->(∀b,H b≠uZ->b=a∨b=T)->(H a≠uZ->K.lookup a=uZ)->
   codeAny (vj P w) callerA (.call (.ref fa) ⟨[.ref a],[]⟩) (λr s'=>r=.ok (.ret (.bool uJ))/\OldK f.heap s'.heap/\s'.os=f.os/\AllBare s'.gens) f:=by
  intro H hO hHT hS hok hA hKa;have i:∀{b:xE}{o:Obj},f.heap.get? b=uQ o->H b=uZ->(Jd f.heap H).get? b=uQ o:=λe n=>ZPO e n
  have Q:∀{b:xE}{o:Obj},f.heap.get? b=uQ o->(∀us n,o.data≠ .seq us n)->(∀us,o.data≠ .fields us)->H b=uZ:=λ{b o}e d1 d2=>by
   cases q:H b with
   |none=>rfl
   |some u=>
    rcases hA b (by rw[q];simp)with B|B
    .subst B;rw[J]at e;cases e;exact absurd rfl (d1 _ _)
    subst B;rw[C]at e;cases e;exact absurd rfl (d2 _)
  have t:∀{b:xE}{m:Str->Option xP},f.heap.Ns b m->(Jd f.heap H).Ns b m:=λ{b m}⟨o,es,ep,e,d,r⟩=>⟨o,es,ep,i e (Q e (λ_ _ z=>by rw[d]at z;cases z) λ_ z=>by rw[d]at z;cases z),d,r⟩
  have L:K.In (Jd f.heap H):=λb o e=>i (X b o e) (by
   cases q:H b with
   |none=>rfl
   |some u=>
    rcases hA b (by rw[q];simp)with B|B
    .subst B;rw[hKa (by rw[q];simp)]at e;cases e
    subst B;rw[hKT]at e;cases e)
  have hB:BMd (Jd f.heap H) I:=by obtain⟨m1,ob,b1,b2,b3,b4,b5,b6⟩:=bm;exact⟨m1,ob,b1,b2,i b3 (Q b3 (λ_ _ z=>by rw[b6]at z;cases z) λ_ z=>by rw[b6]at z;cases z),b4,b5,b6⟩
  refine vV ((F _ L (t U) hB).run callerA [] f H ⟨[.ref a],[]⟩ [.ref a] [.ref a] _ _ hr ⟨rfl,⟨L,t U,⟨mb,t g,Z⟩,let⟨mc,h1,Y⟩:=M;⟨mc,t h1,Y⟩⟩,λb o e=>ZLd e,Nat.le_of_eq (ZMI _ _),trivial,λb g=>absurd (show b∈([]:List xE)from g) (by simp),hok,.of_eq hg⟩ (E f (.ref a)) (.cons rfl .nil) (hsp H hO hHT hS)) λr s' h=>?_
  cases r with
  |error e=>exact False.elim h
  | ok fl=>
   cases fl with
   | ret u=>
    obtain⟨v,H',os,O,un,y,r',q⟩:=h;have q':=q;subst q';obtain rfl:u=Value.bool uJ:=r';refine⟨rfl,⟨λb o e=>?_,λb o e=>un.there b o e (by simp)⟩,os,O⟩;cases q:H b with
    |none=>exact .inl (un.keep b o e q (by intro z;exact absurd (show b∈([]:List xE)from z) (by simp)) (by simp))
    |some u=>
     rcases hO b with z|⟨ob,xs,z⟩|⟨rfl,z⟩
     .rw[q]at z;cases z
     .have z2:=un.frzs b ob _ z;obtain⟨e1,_⟩:=hok b _ z;obtain⟨e2,_⟩:=y b _ z2;rw[e]at e1;cases e1;exact .inl e2
     obtain⟨S,z2⟩:=un.tbls b _ z;rw[C]at e;cases e;exact .inr (.inl ⟨((wD X hC).tab C).isCodeTable,rfl,#[],S,rfl,y b _ z2⟩)
   |_=>exact False.elim h
 cases hk:K.lookup a with
 | some o=>
  have e:=X a o hk;rw[J]at e;cases e;refine A (λb=>if b=T then uQ (.tbl #[])else uZ) (λb=>?_) (if_pos rfl) (.inr ⟨_,vs.toArray,_,hk,rfl,rfl,rfl,by rw[zk,hi.length];exact hl,by simpa using rv⟩) (λb u z=>?_) (λb z=>?_) λz=>absurd (if_neg N) z
  .by_cases g:b=T
   .exact .inr (.inr ⟨g,if_pos g⟩)
   exact .inl (if_neg g)
  .by_cases g:b=T
   .have p:=(if_pos g).symm.trans z;cases p;subst g;exact C
   have p:=(if_neg g).symm.trans z;cases p
  by_cases g:b=T
  .exact .inr g
  exact absurd (if_neg g) z
 | none=>
  refine A (λb=>if b=T then uQ (.tbl #[])else if b=a then uQ (.frz {cls:=.type "list",data:=.seq vs.toArray} (.lst (ns.map V.int)))else uZ) (λb=>?_) (if_pos rfl) (.inl (.inr ⟨{cls:=.type "list",data:=.seq vs.toArray},(if_neg N).trans (if_pos rfl)⟩)) (λb u z=>?_) (λb z=>?_) λ_=>hk
  .by_cases g:b=T
   .exact .inr (.inr ⟨g,if_pos g⟩)
   by_cases j:b=a
   .exact .inr (.inl ⟨_,_,(if_neg g).trans (if_pos j)⟩)
   exact .inl ((if_neg g).trans (if_neg j))
  .by_cases g:b=T
   .have p:=(if_pos g).symm.trans z;cases p;subst g;exact C
   by_cases j:b=a
   .have p:=((if_neg g).trans (if_pos j)).symm.trans z;cases p;subst j;exact⟨J,by rw[zj];exact hl,vs,_,rv,J⟩
   .have p:=((if_neg g).trans (if_neg j)).symm.trans z;cases p
  by_cases g:b=T
  .exact .inr g
  .by_cases j:b=a
   .exact .inl j
   exact absurd ((if_neg g).trans (if_neg j)) z
theorem ZON{l:ve}{n k:Nat}{q:xL}{loose:List Str}{XP:(Str->Option xP)->Heap->Prop}{YP:xR->Heap->Prop}{d:DefRec}{K:xR->za}{sp:xR->Sp}{x:Str}{T:xR->xE}
  (L:l.most=uQ n) (B:n<=sizeLine) (hdf:d.params.defaults=[]) (hr:Room k callerA)
  (hY:∀(w:xR)(h:Heap),YP w h->(K w).In h/\h.get? (T w)=uQ (qg #[]))
  (F:∀(w:xR)(i:Str->Option xP)(t:xE)(h:Heap),(K w).In h->h.Ns vz i->i d.name=uQ (.ref t)->
   ∃(A:xH)(c:xE),(∀(s:xN)(u:xP),BindsTo s A ⟨[u],[]⟩ [(x,u)])/\zh (K w) c (T w)=uJ/\qh (K w)=uJ/\
    (∀(H:Hp)(a:xE)(ns:List Int),ns.length<=n->OnlyT (T w) H->H (T w)=uQ (.tbl #[])->SqL (K w) H a (ns.map V.int)->sp w [.ref a] H (λv _=>v=.bl uJ) λ_ _ _=>False)/\
    ∀e:Heap,(K w).In e->e.Ns vz i->BMd e i->FnOk l.prog w (K w) i e CX0 k t A [x] (sp w)):
  wM q loose XP YP l.row.toRowW d [] (λf vs=>qe f vs):=by
 refine Att.ZNt L hdf λw I p i mb t o pm cd Z a vs ns G Y ho hd N z r m j Q=>?_
 obtain⟨E,S⟩:=hY w _ Y;obtain⟨A,c,U,J,hK,C,hF⟩:=F w i t _ E G.T.g z;have y:BMd p.heap i:=by obtain⟨y,ob,b1,b2,O,X,b5,b6⟩:=G.T.bmain;exact⟨y,ob,b1,b2,O,X,b5,b6⟩
 exact ZM9 E G.T.g G.T.b G.T.builtins G.T.nolimit Q y r m (zE j B) hr S J hK hF U λH P M h3=>C H a ns j P M h3
end _D
namespace _D
open PySem PySem.W _L
theorem ZFW:∀{l:List Obj}{n:Nat},(Ig l n).lookup a=uQ o->n<=a/\l[a-n]?=uQ o/\∀x y z,o≠⟨x,y,.freed,z⟩
 |[],n,h=>by cases h
 | p::r,n,h=>by
  have next:(Ig r (n+1)).lookup a=uQ o->n<=a/\(p::r)[a-n]?=uQ o/\∀x y z,o≠⟨x,y,.freed,z⟩:=λh=>by obtain⟨b,c,f⟩:=ZFW h;obtain⟨k,rfl⟩:=Nat.exists_eq_add_of_le b;rw[qA]at c;refine⟨zE (j8 n) b,?_,f⟩;rw[show n+1+k-n=k+1 by rw[Nat.add_assoc,qA,xk],jW];exact c
  unfold Ig at h;split at h
  .exact next h
  .exact next h
  rename_i g i;rw[jY]at h;split at h
  .rename_i e;have d:a=n:=by simpa using e
   subst d;cases h;refine⟨zx _,by simp,λx y z q=>?_⟩;subst q;exact g rfl
  exact next h
theorem ZIr(h:Heap):(Ce h).In h:=λa o e=>by
 obtain⟨_,c,d⟩:=ZFW e;have b:h.objs[a]?=uQ o:=by simpa using c
 unfold Heap.get?;rw[b];split
 .rename_i q;cases q;exact absurd rfl (d _ _ _)
 rfl
theorem T8:∀(l:List Obj)(n:Nat),noTabs (Ig l n)=uJ
 |[],n=>rfl
 |p::r,n=>by
  unfold Ig;split
  .exact T8 r _
  .exact T8 r _
  rename_i e c;have:=T8 r (n+1);unfold noTabs at this⊢;rw[jy,this,Bool.and_true];split
  .rename_i d a b;exact absurd (c d a b) id
  rfl
theorem ZHW(h:Heap):noTabs (Ce h)=uJ:=T8 _ _
noncomputable def Ha(p:xL)(N:Nat)(w:xR):Heap:=match openEnds v9 p w N with
 |some s=>s.heap
 |none=>default
def Stays(p:xL)(N:Nat)(w:xR)(h:Heap):Prop:=∀b o,(Ha p N w).get? b=uQ o->h.get? b=uQ o
theorem Stays.in(x:Stays p N w h):(Ce (Ha p N w)).In h:=λa o e=>x a o (ZIr _ a o e)
def Qf(p:xL)(N:Nat):Hook:=
 ⟨Heap,λs=>s.heap,Ha p N,Stays p N,λw s e b o q=>by rw[show s.heap=Ha p N w from e];exact q,λw h h' x k b o q=>k b o (x b o q)⟩
section
variable{p q:xL}{loose:List Str}{Xt:xN->Bool}{N:Nat}{β:Type}{see:Heap->β}{val:β}
theorem ZOL(E:∀w,(openEnds v9 p w N).map (λs=>(openSeen q loose (vK p.main.body) Xt uJ s,see s.heap))=uQ (openGood q loose,val)):
  LeftO p q loose Xt (Qf p N).obs (Qf p N).val N:=λw=>by
 obtain⟨s,b,a⟩:=zP.mp (E w);show Option.map _ _=uQ (openGood q loose,Ha p N w);unfold Ha;rw[b];show uQ (openSeen q loose (vK p.main.body) Xt uJ s,s.heap)=_;rw[(Prod.mk.inj a).1]
theorem R7(E:∀w,(openEnds v9 p w N).map (λs=>(openSeen q loose (vK p.main.body) Xt uJ s,see s.heap))=uQ (openGood q loose,val))(w:xR):see (Ha p N w)=val:=by obtain⟨s,b,a⟩:=zP.mp (E w);unfold Ha;rw[b];exact(Prod.mk.inj a).2
end
theorem holds_top{l:OpenLaw}{q:xL}{loose:List Str}{N:Nat}{b:Type}{see:Heap->b}{val:b}{d:DefRec}(well:l.wellSaid=uJ)
  (E:∀w,(openEnds v9 l.prog w N).map (λs=>(openSeen q loose (vK l.prog.main.body) (XtOf l q) uJ s,see s.heap))=uQ (openGood q loose,val))
  (hdef:defOf q l.row.name=uQ (d,[])) (hp:l.row.prog.theDef l.row.name=uQ (d.params,d.body,d.scope)) (hk:kwWritten? d.params.kwonlyargs d.params.kw_defaults=uQ []) (a:(!l.row.writes||l.row.records.isEmpty)=uJ)
  (ok:(chainsOk q&&opensWell l.row.prog&&(frees l.row.toRowW&&l.row.within.isEmpty))=uJ) (c:l.row.prog.bare) (hw:l.row.toRowW.promised)
  (call:WalkO q loose (XL q []) (Stays l.prog N) l.row.toRowW d [] λf vs=>qe f vs):l.Holds:=
 holds_law well λsaid=>holds_open (ZOL E) (Qf l.prog N).of (Qf l.prog N).keeps
  (λs e=>xl_of s (jV.mp e).1) XL.keeps hdef hp hk (λs e=>recFacts_of (jV.mp e).2) a said ok c hw call
theorem Yo(h:gOk K n=uJ):nsIn K vz n=uQ (uQ (.ref (Ao K n))):=by
 unfold gOk at h;unfold Ao;split at h
 .rename_i e;rw[e]
 cases h
theorem ZFj(h:mOk K C m=uJ):findIn K (.ref C) m=uQ (uQ (.ref (Dz K C m)))/\isFn K (.ref (Dz K C m))=uJ:=by
 unfold mOk at h;unfold Dz;split at h
 .rename_i e;rw[e];exact⟨rfl,h⟩
 cases h
theorem ZKX(h:noF K C m=uJ):findIn K (.ref C) m=uQ uZ:=by
 unfold noF at h;split at h
 .assumption
 cases h
theorem ZPg(h:zOk K n=uJ):nsIn K vz n=uQ uZ:=by
 unfold zOk at h;split at h
 .assumption
 cases h
theorem ZN8(h:ZAu K C=uJ):findIn K (.ref C) "__setattr__"=uQ (uQ (.builtin "object.__setattr__")):=by
 unfold ZAu at h;split at h
 .rename_i e;rw[e,beq_iff_eq.mp h]
 cases h
noncomputable def Cg(K:vP)(n:Str):Tok:=match nsIn K vz n with
 |some (uQ (.int _ t))=>t
 |some (uQ (.str _ t))=>t
 |_=>0
theorem ZPp(h:iOk K n v=uJ):nsIn K vz n=uQ (uQ (.int v (Cg K n))):=by
 unfold iOk at h;unfold Cg;split at h
 .rename_i e;rw[e,of_decide_eq_true h]
 cases h
theorem ZJM(h:sOk K n v=uJ):nsIn K vz n=uQ (uQ (.str v (Cg K n))):=by
 unfold sOk at h;unfold Cg;split at h
 .rename_i e;rw[e,of_decide_eq_true h]
 cases h
abbrev FnSaid(K:vP)(x q:Str)(st:xO)(f:xE):Prop:=
 K.lookup f=uQ ⟨(Gh K f).cls,(Gh K f).dict,.func (fnOf x q (Gb st) (Ey st) (An st) .none (Bj K f).kwdefaults (Bj K f).doc (Bj K f).pyModule (Bj K f).annotations (Bj K f).code (Bj K f).closureTuple),(Gh K f).slots⟩/\
  codeIn K (Bj K f).code q=uJ/\keepIn K (.ref f)=uJ
theorem ZEL(h:Pg K x q f=uJ)(t:K7 K f=Jr st):FnSaid K x q st f:=by
 unfold Pg at h;split at h
 .rename_i j l a i e;have k:Gh K f=⟨j,l,.func a,i⟩:=by unfold Gh;rw[e]
  have m:Bj K f=a:=by unfold Bj;rw[k]
  unfold K7 Jr at t;rw[m]at t;obtain⟨E,b⟩:=Prod.mk.inj t;obtain⟨b,C⟩:=Prod.mk.inj b;simp[zL,decide_eq_true_eq,beq_iff_eq,List.isEmpty_iff]at h;obtain⟨⟨⟨s,n⟩,⟨⟨B,y⟩,o⟩,g⟩,u,v⟩:=h;unfold FnSaid;rw[m,k,e];refine⟨?_,u,v⟩;have d:a.defaults=.none:=by
   revert g
   generalize a.defaults=A;intro g
   cases A<;>first|rfl|cases g
  have w:a.body=.stmts (Ey st):=by
   revert b
   generalize a.body=r;intro b
   cases r<;>first|(cases b;rfl)|(cases b)
  have c:a=fnOf x q (Gb st) (Ey st) (An st) .none a.kwdefaults a.doc a.pyModule a.annotations a.code a.closureTuple:=by show FuncData.mk a.name a.qualname a.params a.body a.scope a.globals a.closure a.defaults a.kwdefaults a.doc a.pyModule a.annotations a.code a.closureTuple a.builtins=_;rw[s,n,E,w,C,B,o,d,y]
  exact congrArg (λz=>uQ (Obj.mk j l (.func z) i)) c
 cases h
abbrev DfSaid(K:vP)(d:xP)(v:Int):Prop:=∃T o t n,d=.ref T/\K.lookup T=uQ o/\o.data=.seq #[.int v t] n
theorem ZIY(h:dfl K d v=uJ):DfSaid K d v:=by
 unfold dfl at h;split at h
 .rename_i T;split at h
  .rename_i o e;split at h
   .rename_i a n b;split at h
    .rename_i i t c;cases of_decide_eq_true h;refine⟨T,o,t,n,rfl,e,?_⟩;rw[b]
     congr 1
     rw[<-Array.toList_inj,c]
    cases h
   cases h
  cases h
 cases h
abbrev FnSaidD(K:vP)(x q:Str)(st:xO)(f:xE)(v:Int):Prop:=
 K.lookup f=uQ ⟨(Gh K f).cls,(Gh K f).dict,.func (fnOf x q (Gb st) (Ey st) (An st) (Bj K f).defaults (Bj K f).kwdefaults (Bj K f).doc (Bj K f).pyModule (Bj K f).annotations (Bj K f).code (Bj K f).closureTuple),(Gh K f).slots⟩/\
  codeIn K (Bj K f).code q=uJ/\keepIn K (.ref f)=uJ/\DfSaid K (Bj K f).defaults v
theorem ZHx(h:U0 K x q f v=uJ)(t:K7 K f=Jr st):FnSaidD K x q st f v:=by
 unfold U0 at h;split at h
 .rename_i g j a d e;have i:Gh K f=⟨g,j,.func a,d⟩:=by unfold Gh;rw[e]
  have k:Bj K f=a:=by unfold Bj;rw[i]
  unfold K7 Jr at t;rw[k]at t;obtain⟨C,b⟩:=Prod.mk.inj t;obtain⟨b,B⟩:=Prod.mk.inj b;simp[zL,decide_eq_true_eq,beq_iff_eq,List.isEmpty_iff]at h;obtain⟨⟨⟨o,l⟩,⟨⟨A,w⟩,m⟩,y⟩,r,s⟩:=h;unfold FnSaidD;rw[k,i,e];refine⟨?_,r,s,ZIY y⟩;have u:a.body=.stmts (Ey st):=by
   revert b
   generalize a.body=n;intro b
   cases n<;>first|(cases b;rfl)|(cases b)
  have c:a=fnOf x q (Gb st) (Ey st) (An st) a.defaults a.kwdefaults a.doc a.pyModule a.annotations a.code a.closureTuple:=by show FuncData.mk a.name a.qualname a.params a.body a.scope a.globals a.closure a.defaults a.kwdefaults a.doc a.pyModule a.annotations a.code a.closureTuple a.builtins=_;rw[o,l,C,u,B,A,m,w]
  exact congrArg (λz=>uQ (Obj.mk g j (.func z) d)) c
 cases h
theorem Qx:∀{l:List xP}{ss:List Str},strsOf l=uQ ss->Vals (ss.map V.str) l
 |[],ss,h=>by cases h;exact .nil
 |v::r,ss,h=>by
  unfold strsOf at h;split at h
  .rename_i q;cases q
  .rename_i s t c q;cases q;obtain⟨a,b,rfl⟩:=zP.mp h;exact .cons ⟨_,rfl⟩ (Qx b)
  cases h
abbrev GtSaid(K:vP)(n:Str)(vs:List Str):Prop:=∃(p:xE)(od:Option xE)(sl:Array (Option xP))(k:Nat)(its:List xP),nsIn K vz n=uQ (uQ (.ref p))/\K.lookup p=uQ ⟨.type "tuple",od,.seq its.toArray k,sl⟩/\its.length<=1000/\Vals (vs.map V.str) its
theorem ZNK(h:Tz K n vs=uJ):GtSaid K n vs:=by
 unfold Tz at h;split at h
 .rename_i p e;split at h
  .rename_i t c a k b g;simp only[zL,beq_iff_eq,decide_eq_true_eq]at h;obtain⟨⟨rfl,d⟩,f⟩:=h;exact⟨p,c,b,k,a.toList,e,by rw[g],Nat.le_of_ble_eq_true f,Qx d⟩
  cases h
 cases h
abbrev GdSaid(K:vP)(n:Str)(kvs:List (Str×Str)):Prop:=∃(p:xE)(od:Option xE)(sl:Array (Option xP))(k:Nat)(es:Array DictEntry),nsIn K vz n=uQ (uQ (.ref p))/\K.lookup p=uQ ⟨.type "dict",od,.dict es k,sl⟩/\(p==sysModules)=uX/\Vals ((kvs.map (·.1)).map V.str) (es.toList.map (·.key))/\Vals ((kvs.map (·.2)).map V.str) (es.toList.map (·.val))
theorem ZH6(h:Vk K n kvs=uJ):GdSaid K n kvs:=by
 unfold Vk at h;split at h
 .rename_i p e;split at h
  .rename_i t b f k a i;simp only[zL,beq_iff_eq,decide_eq_true_eq,Bool.not_eq_true']at h;obtain⟨⟨⟨rfl,c⟩,d⟩,g⟩:=h;exact⟨p,b,a,k,f,e,by rw[i],c,Qx d,Qx g⟩
  cases h
 cases h
def Ask.Said(K:vP):Ask->Prop
 |.fn n st=>nsIn K vz n=uQ (uQ (.ref (Ao K n)))/\FnSaid K n n st (Ao K n)
 |.mt c m q st=>findIn K (.ref (Ao K c)) m=uQ (uQ (.ref (Dz K (Ao K c) m)))/\isFn K (.ref (Dz K (Ao K c) m))=uJ/\FnSaid K m q st (Dz K (Ao K c) m)
 | .cl c=>nsIn K vz c=uQ (uQ (.ref (Ao K c)))/\plainGet K (Ao K c) Str.empty=uJ/\hasDictIn K (Ao K c)=uJ/\plainOver K (Ao K c)=uJ/\
   findIn K (.ref (Ao K c)) "__setattr__"=uQ (uQ (.builtin "object.__setattr__"))/\makesIn K (Ao K c)=uJ/\keepIn K (.ref (Ao K c))=uJ
 |.no c x=>findIn K (.ref (Ao K c)) x=uQ uZ
 |.z n=>nsIn K vz n=uQ uZ
 |.gi n v=>nsIn K vz n=uQ (uQ (.int v (Cg K n)))
 |.gs n v=>nsIn K vz n=uQ (uQ (.str v (Cg K n)))
 |.gt n vs=>GtSaid K n vs
 |.gd n kvs=>GdSaid K n kvs
 |.ck φ=>φ K=uJ
 |.fd n st v=>nsIn K vz n=uQ (uQ (.ref (Ao K n)))/\FnSaidD K n n st (Ao K n) v
theorem Ask.said:∀{a:Ask},a.chk K=uJ->a.txt K=a.want->a.Said K
 |.fn n e,h,t=>by obtain⟨b,d⟩:=jV.mp h;exact⟨Yo b,ZEL d (Option.some.inj t)⟩
 |.mt c m q e,h,t=>by obtain⟨b,d⟩:=jV.mp h;exact⟨(ZFj b).1,(ZFj b).2,ZEL d (Option.some.inj t)⟩
 |.cl c,h,_=>by simp[Ask.chk,zL]at h;obtain⟨⟨b,⟨d,j⟩,k⟩,⟨l,g⟩,i⟩:=h;exact⟨Yo b,d,j,k,ZN8 l,g,i⟩
 |.no c x,h,_=>ZKX h
 |.z n,h,_=>ZPg h
 |.gi n v,h,_=>ZPp h
 |.gs n v,h,_=>ZJM h
 |.gt n o,h,_=>ZNK h
 |.gd n f,h,_=>ZH6 h
 |.ck _,h,_=>h
 |.fd n e v,h,t=>by obtain⟨b,d⟩:=jV.mp h;exact⟨Yo b,ZHx d (Option.some.inj t)⟩
def AllSaid(K:vP):List Ask->Prop
 |[]=>True
 |a::r=>a.Said K/\AllSaid K r
theorem ZGr:∀{l:List Ask},(l.all (Ask.chk K),l.map (Ask.txt K))=(uJ,l.map Ask.want)->AllSaid K l
 |[],_=>trivial
 |a::r,h=>by obtain⟨b,c⟩:=Prod.mk.inj h;rw[jy]at b;obtain⟨e,f⟩:=jV.mp b;rw[zK,zK]at c;obtain⟨g,d⟩:=List.cons.inj c;exact⟨Ask.said e g,ZGr (by rw[f,d])⟩
theorem ZN0(F:Fun K x q st f fd)
  (h:∀(kV b g:xP)(e:Option xE)(c d:xP)(u:xP),bindArgs (fnOf x q (Gb st) (Ey st) (An st) .none kV b g e c d) ⟨[u],[]⟩=pure [(a,u)]):BindsTo s fd ⟨[v],[]⟩ [(a,v)]:=by
 obtain⟨l,k,kV,b,g,e,c,d,j,rfl,m,i⟩:=F.ex;exact .of_eq (h kV b g e c d v)
theorem V0(e:Yp c m h=uJ):(Bj (Ce h) (Dz (Ce h) (Ao (Ce h) c) m)).code=.ref (Il (Ce h) c m)/\codeHdIn (Ce h) (Il (Ce h) c m) (O1 (Ce h) (Il (Ce h) c m))=uJ/\
  h.get? (O1 (Ce h) (Il (Ce h) c m))=uQ (tabObj #[]):=by
 simp[Yp,zL]at e;obtain⟨⟨b,d⟩,a⟩:=e;refine⟨?_,d,?_⟩
 .unfold Il
  revert b
  generalize(Bj (Ce h) (Dz (Ce h) (Ao (Ce h) c) m)).code=v;intro b
  cases v<;>first|rfl|cases b
 split at a
 .rename_i g f q;rw[q];simp[zL,Array.isEmpty_iff]at a;obtain⟨rfl,rfl⟩:=a
  rfl
 cases a
theorem ZDf:∀{n:Nat}{s s':SharedT}{t:Thread},Qu p w n₀ ann n s t=uQ s'->topRun v9 p w n₀ ann n s.abs t=uQ s'.abs
 |0,_,_,_,h=>by cases h
 | n+1,s,s',t,h=>by
  unfold Qu at h;unfold topRun;rw[<-PySem.W.Fast.te6613529449190102663,<-PySem.W.Fast.te10156331382660048174,<-PySem.W.Fast.te11892475500146522536,<-PySem.W.Fast.te14364793385576792824]at h;cases b:through t with
  |true=>
   rw[b]at h;cases h
   rfl
  | false=>
   rw[b]at h;dsimp only at h⊢;cases a:stepOk n₀ ann t with
   |false=>rw[a]at h;cases h
   |true=>
    rw[a]at h;dsimp only at h⊢;split at h
    .rename_i c d e;rw[stepT_spec e];exact ZDf h
    cases h
theorem boot_abs:∀w a,(ZDd w a).abs=⟨vR w.params,Array.mk [],boot_drawn,boot_toks,a⟩:=λw a=>by kernel_rfl
theorem ZPh:∀w:xR,((vR w.params).isNs vz&&(Array.mk []:Array GenState).size==0)=uJ:=λw=>by kernel_rfl
theorem ZNY{p q:xL}{loose:List Str}{Xt:xN->Bool}{i:Type}{see:Heap->i}{val:i}(e:opening p=plainProg p.main.scope.names)(f:∀s,fenceModules? p s=uQ s)
  (R:∀w a,(Zb p w a).map (λs=>(Uo p w s.abs,PySem.W.Fast.tw4187177175401517315 q loose (PySem.W.Fast.tw5923862056798008813 p.main.body) Xt uJ s.abs,see s.abs.heap))=uQ (uJ,openGood q loose,val)):
  ∀w,(openEnds v9 p w 100000).map (λs=>(openSeen q loose (vK p.main.body) Xt uJ s,see s.heap))=uQ (openGood q loose,val):=λw=>by
 obtain⟨⟨h,o,d,k,a⟩,n,j⟩:=zP.mp (boot_open (N:=100000) e rfl f w);obtain⟨rfl,rfl,rfl,rfl⟩:h=vR w.params/\o=Array.mk []/\d=boot_drawn/\k=boot_toks:=by simpa using j
 obtain⟨s,g,l⟩:=zP.mp (R w a);obtain⟨c,b⟩:=Prod.mk.inj l;obtain⟨b,m⟩:=Prod.mk.inj b;unfold Zb at g;have r:=ZDf g;rw[boot_abs,<-PySem.W.Fast.te8920871248978507458]at r;rw[<-PySem.W.Fast.te4187177175401517315,<-PySem.W.Fast.te5923862056798008813]at b;unfold Uo at c;rw[<-PySem.W.Fast.te5923862056798008813]at c;have t:topFrom v9 p w 100000 ⟨vR w.params,.mk [],boot_drawn,boot_toks,a⟩=uQ s.abs:=by
  unfold topFrom;dsimp only;rw[ZPh,r]
  show(match staticsOk (vK p.main.body) (vR w.params) s.abs.heap&&namesBound p s.abs.heap&&gensDone s.abs&&laidKept (vR w.params) s.abs.heap with |true=>_|false=>_)=_
  rw[c]
 unfold openEnds;rw[n];show(topFrom v9 p w 100000 _).map _=_;rw[t];exact congrArg uQ (Prod.ext b m)
structure FT (K:vP) (mg:Str->Option xP) (n:Str) (st:xO) (ps:List Str):Prop where
 F:Fun K n n st (Ao K n) (Bj K (Ao K n))
 b:Binds K (Bj K (Ao K n)) ps []
 m:mg n=uQ (.ref (Ao K n))
 k:keepIn K (.ref (Ao K n))=uJ
structure MT (K:vP) (c m q:Str) (st:xO) (ps:List Str):Prop where
 F:Fun K m q st (Dz K (Ao K c) m) (Bj K (Dz K (Ao K c) m))
 b:Binds K (Bj K (Dz K (Ao K c) m)) ps []
 me:Meth K (Ao K c) m (Dz K (Ao K c) m)
structure CT (K:vP) (mg:Str->Option xP) (c:Str):Prop where
 N:nsIn K vz c=uQ (uQ (.ref (Ao K c)))
 cl:Cls K (Ao K c)
 g:mg c=uQ (.ref (Ao K c))
 mK:Mk K (Ao K c) (Dz K (Ao K c) "__init__")
theorem Mr(s:FnSaid K x q st f):Fun K x q st f (Bj K f):=by
 have e:Bj K f=fnOf x q (Gb st) (Ey st) (An st) .none (Bj K f).kwdefaults (Bj K f).doc (Bj K f).pyModule (Bj K f).annotations (Bj K f).code (Bj K f).closureTuple:=by conv=>lhs;unfold Bj Gh;rw[s.1]
 exact⟨⟨_,_,_,_,_,_,_,_,_,e,by rw[e];exact s.1,s.2.1⟩,s.2.2⟩
theorem ZNh(X:K.In h)(G:h.Ns vz mg)(s:Ask.Said K (.fn n st))
  (d:∀(kV a f:xP)(e:Option xE)(b c:xP)(us:List xP),us.length=ps.length->bindArgs (fnOf n n (Gb st) (Ey st) (An st) .none kV a f e b c) ⟨us,[]⟩=pure (ps.zip us)):FT K mg n st ps:=
 ⟨Mr s.2,(Mr s.2).binds d,mg_of X G s.1,s.2.2.2⟩
theorem ZNg(s:Ask.Said K (.mt c m q st))
  (e:∀(kV a g:xP)(f:Option xE)(b d:xP)(us:List xP),us.length=ps.length->bindArgs (fnOf m q (Gb st) (Ey st) (An st) .none kV a g f b d) ⟨us,[]⟩=pure (ps.zip us)):MT K c m q st ps:=
 ⟨Mr s.2.2,(Mr s.2.2).binds e,s.1,s.2.1,s.2.2.2.2⟩
theorem ZHR(X:K.In h)(G:h.Ns vz mg)(s:Ask.Said K (.cl c))(i:Ask.Said K (.mt c "__init__" q st)):CT K mg c:=
 ⟨s.1,⟨s.2.1,s.2.2.1,s.2.2.2.1,s.2.2.2.2.1⟩,mg_of X G s.1,s.2.2.2.2.2.1,i.1,i.2.1,s.2.2.2.2.2.2⟩
abbrev FnO(P:xL)(w:xR)(K:vP)(mg:Str->Option xP)(base:Heap)(k:Nat)(n:Str)(ps:List Str)(F:List D->DH->R D):Prop:=FnOk P w K mg base CX0 k (Ao K n) (Bj K (Ao K n)) ps (lF K F)
abbrev MtO(P:xL)(w:xR)(K:vP)(mg:Str->Option xP)(base:Heap)(k:Nat)(c m:Str)(ps:List Str)(F:List D->DH->R D):Prop:=FnOk P w K mg base CX0 k (Dz K (Ao K c) m) (Bj K (Dz K (Ao K c) m)) ps (lF K F)
theorem ZPN(F:Fun K x q st f fd)
  (h:∀(kV b g:xP)(e:Option xE)(c d:xP)(u:xP),bindArgs (fnOf x q (Gb st) (Ey st) (An st) .none kV b g e c d) ⟨[u],[]⟩=pure [(a,u)]:=by intros;rfl):BindsTo s fd ⟨[v],[]⟩ [(a,v)]:=ZN0 F h
end _D
namespace _D
open PySem PySem.Spec _L
open PyProof.Rows hiding St
section
variable{prog:xL}{w:xR}{A:xF}{E:xP->xN->Prop}{s:xN}
end
section
variable{X:Cx}{E:XK}{p:xE}{kvs:List (Str×Str)}{x:Str}{a:xG}{ta:DE}{np pos:Pos}
end
noncomputable def Do:D->Option V
 |.int i=>uQ (.int i)
 |.str x=>uQ (.str x)
 |_=>uZ
section
variable{X:Cx}{E:XK}{pos:Pos}
end
section
variable{S:DSt}{G:DH}
end
theorem Cw{X:Cx}{k j:Nat}{n:Str}{st:xO}{ps:List Str}{F:List D->DH->R D}{p pos:Pos}{e:xG}{es:List xG}{tr:DA}(c:FnO X.prog X.w X.K X.mg X.base k n ps F)(T:FT X.K X.mg n st ps)(i:Room j X.A)(g:QA X E0 (e::es) tr)
  (d:k<=j:=by decide) (f:Gl X n:=by exact rfl) (h:(n==("__debug__":Str))=uX:=by decide) (l:notStar e=uJ:=by exact rfl) (hp:es.all notStar=uJ:=by exact rfl):QE X E0 (.Call (.Name n p) (e::es) [] pos) (dFn F tr):=
 ZIl c (i.mono d) f T.m T.k T.b pass0 g h l hp
section
variable{M:Model}{A:xF}{E:xP->xN->Prop}{s:xN}{B:Heap}{env:Env}{outer:List Env}{L e:xE}{oe:Obj}{vs:Array xP}{head:xP}{hn:Bool}{Q:Unit->xN->Prop}
end
section
variable{X:Cx}{vS:List (xE×Obj)}{σ:St}{H H':Hp}{s s':xN}{B h'':Heap}{ea:xE}{cls:xP}{od:Option xE}{E:XK}
end
section
variable{prog:xL}{w:xR}{A:xF}{E:xP->xN->Prop}{h:Heap}{g:Array GenState}{d:Drawn}{t:Nat}{os:OsState}
variable{nm q:Str}{C N:xE}{bs bm bmB:List xP}{hdct:Bool}{sn:List Str}{sub:List xP}{ab:Bool}{col:Option Bool}{dd:Option xE}{k0 k1 k2 k3 k5:Option xP}{B newId initId:String}
end
section
variable{X:Cx}{C W:xE}{x:Str}{mc:xP}{p apos pos:Pos}{a1 a2:xG}{t:TA}
end
section
open PySem.W
variable{prog:xL}{w:xR}{A:xF}{s:xN}{K:vP}{x C:xE}{R:Result->xN->Prop}
end
section
variable{prog:xL}{w:xR}{A:xF}{E:xP->xN->Prop}{s:xN}{K:za}{e C t:xE}{name:Str}{v:xP}
end
section
variable{X:Cx}{C:xE}{f:Str}{o value:xG}{pos pos':Pos}{ta tv:TE}
end
section
variable{X:Cx}{j:Nat}{v s1 s2:Str}{k1 k2 p1 p2 pv pf pos}
end
section
variable{M:Model}{A:xF}{E:xP->xN->Prop}{env:Env}
variable{nm q:Str}{C N:xE}{bs bm:List xP}{hdct:Bool}{sn:List Str}{sub:List xP}{ab:Bool}{col:Option Bool}{dd:Option xE}{k0 k1 k2 k3 k5:Option xP}{newId:String}
end
section
variable{X:Cx}{C fI:xE}{f x:Str}{np cpos pos:Pos}{a:xG}{ta:TA}{E:XK}{k:Nat}{fd:xH}{v:Str}
end
section
variable{X:Cx}{vS:List (xE×Obj)}{σ:St}{H H':Hp}{s s':xN}{B h'':Heap}{ea:xE}{cls:xP}{od:Option xE}{E:XK}{fl:xP}
end
section
variable{M:Model}{A:xF}{E:xP->xN->Prop}{h:Heap}{g:Array GenState}{d:Drawn}{t:Nat}{os:OsState}
end
section
variable{X:Cx}{vS:List (xE×Obj)}{σ:St}{H:Hp}{s:xN}
end
section
variable{X:Cx}{vS:List (xE×Obj)}{σ:St}{H:Hp}{s:xN}{ea:xE}
end
section
variable{X:Cx}{f W:xE}{fn x n:Str}{fp cp ep np hp pos:Pos}{a:xG}{es:List xG}{ta:TA}{sp:Sp}{k i:Nat}{fd:xH}{ps:List Str}{b₀:xO}{suite:List xO}{th:TS}
end
section
variable{X:Cx}{E:XK}{C fI:xE}{c f v:Str}{np cpos pos:Pos}{a:xG}{t:DA}{k:Nat}{fd:xH}
end
section
variable{X:Cx}{E:XK}{f W:xE}{fn x n:Str}{fp cp ep np hp pos:Pos}{a:xG}{es:List xG}{t:DA}{F:List D->DH->R D}{k i:Nat}{fd:xH}{ps:List Str}{b₀:xO}{suite:List xO}{hb:DS}{ws:List Str}
end
section
variable{X:Cx}{E:XK}{x:Str}{p pos:Pos}{e:xG}{es:List xG}{tr:DA}
end
section
variable{X:Cx}{E:XK}{x:Str}{p pos:Pos}{e:xG}{es:List xG}{tr:DA}
end
section
variable{prog:xL}{w:xR}{A:xF}{E:xP->xN->Prop}{s:xN}{K:za}{x C:xE}{ox:Obj}{od:Option Obj}{name:Str}{tk:Tok}
end
section
variable{X:Cx}{E:XK}{vS:List (xE×Obj)}{σ:St}{H:Hp}{s:xN}
variable{e ce:xG}{ces:List xG}{t:DE}{tb:List (Str×Bool)}{cv:V}{cu:xP}{cvs:List V}{cus:List xP}{p pos tp:Pos}
variable{f:Str}{cs:List Str}
end
end _D
namespace _D
open PySem PySem.Spec PySem.W _L
open PyProof.Rows hiding St
section
variable{X:Cx}{E:XK}{c x n f v:Str}{e a:xG}{es:List xG}{t:DE}{tr:DA}{p q pos cpos np:Pos}{b:Bool}{F:List D->DH->R D}{k j:Nat}{ps:List Str}{st:xO}
end
end _D
namespace _D
open PySem PySem.Spec _L
open PyProof.Rows hiding St
section
variable{X:Cx}{E:XK}{vS:List (xE×Obj)}{σ:St}{s:xN}
end
end _D
namespace _D
open PySem PySem.W PySem.Spec _L
open PyProof.Rows hiding St
section
variable{X:Cx}{E:XK}{x:Str}{p pos:Pos}{e:xG}{es:List xG}{tr:DA}
end
section
variable{X:Cx}{E:XK}{n:Str}{e:xG}{es:List xG}{tr:DA}{p pos:Pos}{F:List D->DH->R D}{k j:Nat}{ps:List Str}{st:xO}{v:Int}
end
section
variable{X:Cx}{E:XK}{c x n f v:Str}{e a:xG}{es:List xG}{t:DE}{tr:DA}{p q pos cpos np:Pos}{b:Bool}{F:List D->DH->R D}{k j:Nat}{ps:List Str}{st:xO}
end
end _D
namespace _D
open PySem PySem.Spec _L
open PyProof.Rows hiding St
section
variable{X:Cx}{f:xE}{fn:Str}{fp cp ep pos:Pos}{a e:xG}{es:List xG}{t:DA}{te:DE}{F:List D->DH->R D}{k:Nat}{fd:xH}{ps:List Str}
end
section
variable{X:Cx}{W:xE}{x n:Str}{np hp pos:Pos}{i:Nat}{b₀:xO}{suite:List xO}{hb:DS}{ws ns:List Str}{hs:List ExceptHandler}{f:DHn}
end
section
variable{X:Cx}{W:xE}{x:Str}{np hp pos:Pos}{b₀:xO}{suite:List xO}{hb:DS}{ws ns:List Str}{hs:List ExceptHandler}{f:DHn}
end
end _D
namespace _D
open PySem PySem.Spec PySem.W _L
open PyProof.Rows hiding St
section
variable{X:Cx}{C:xE}{x:Str}{np cpos pos:Pos}{a:xG}{ta:TA}{E:XK}
end
section
variable{X:Cx}{E:XK}{c x n f v w:Str}{e a:xG}{es:List xG}{t:DE}{tr:DA}{p q pos cpos np fp cp ep hp:Pos}{b:Bool}{F:List D->DH->R D}{k j:Nat}{ps:List Str}{st:xO}
end
section
variable{X:Cx}{n y:Str}{e e2:xG}{es:List xG}{tr:DA}{tu:DE}{p pos kp:Pos}{F:List D->DH->R D}{k j:Nat}{ps:List Str}{st:xO}{v:Int}
end
section
variable{prog:xL}{w:xR}{A:xF}{E:xP->xN->Prop}{s:xN}
theorem ZH0{t b:xE}{i:List xP}{Q:xP->xN->Prop}(v:IsTup s.heap t #[])(u:IsTup s.heap b i.toArray)(h:Q (.ref b) s):vA (vj prog w) A (vJ .Add (.ref t) (.ref b)) Q E s:=by obtain⟨⟨q,x,k,p⟩,o,m,n,l⟩:=id v;obtain⟨⟨j,g,f,e⟩,a,d,r,c⟩:=id u;simp only at m l d c;subst m l d c;exact concat_meets ⟨_,o,rfl⟩ ⟨_,a,rfl⟩ noFill_tuple_add seq_tuple_add xi vT (vU _ _) (tuple_addW0 t b #[] i.toArray n r x g p e rfl) ⟨o,a,h⟩
end
section
variable{X:Cx}{E:XK}
theorem ZNO:OpR X (vJ .Add) (λx y H Q=>∃a b ys,x=.ref a/\y=.ref b/\SqT X.K H a []/\SqT X.K H b ys/\Q (.ref b) H):=by intro d s n H x y v u Q I i m h;obtain⟨a,b,ys,rfl,rfl,g,f,q⟩:=h;cases i;cases m;obtain⟨e,j,l,_⟩:=I.tuple g;obtain⟨c,o,k,_⟩:=I.tuple f;cases j;exact ZH0 l k ⟨.ref b,H,I,rfl,q⟩
def Fd:D->D->DH->R D
 |.tup [],.tup ys,G=>.ok (.tup ys) G
 |d,e,G=>Ai d e G
theorem ZIo:OpR X (vJ .Add) (lR2 X.K E Fd):=λb s j H x y v u Q I l o h=>by
 obtain⟨a,G,d,e,hk,n,r,i,m,q⟩:=h;unfold Fd at q;split at q
 .rename_i J;subst n;obtain⟨p,B,t,k,C⟩:=i;obtain⟨g,c,F,f,z⟩:=m;rw[hk]at k f;obtain rfl:B=[]:=qP (by rw[<-C.length];rfl);exact ZNO b s j a.H x y v u Q I l o ⟨p,g,c,t,F,k,f,q a (.ref g) (.refl a) r ⟨g,c,rfl,hk▸f,z⟩⟩
 exact ZCL b s j H x y v u Q I l o ⟨a,G,d,e,hk,n,r,i,m,q⟩
end
section
variable{X:Cx}{E:XK}
end
section
variable{X:Cx}{E:XK}
theorem Reps.eraseIdx:∀{b:List D}{vs:List V}(k:Nat),Reps a b vs->Reps a (b.eraseIdx k) (vs.eraseIdx k)
 |[],_,k,h=>by cases(h);exact rfl
 |d::b,_,0,⟨v,r,rfl,_,h⟩=>h
 |d::b,_,k+1,⟨v,r,rfl,c,h⟩=>⟨v,_,rfl,c,.eraseIdx k h⟩
def Ks(o:D)(ds:List D)(G:DH):R D:=match o,ds with
 | .ref i,[.int j]=>match G[i]? with
  |some (.lst xs)=>if 0<=j/\j<1000000 then(match xs[j.toNat]? with
   |some d=>.ok d (G.set i (.lst (xs.eraseIdx j.toNat)))
   |none=>.bad)else .bad
  |_=>.bad
 |_,_=>.bad
theorem ZLM:MtM X "list.pop" (lRm X.K E Ks):=ZIC.mono λx B H Q h=>by
 obtain⟨a,G,d,A,hk,rfl,s,c,r,q⟩:=h;unfold Ks at q;split at q
 .rename_i i j;obtain⟨z,rfl,b⟩:=reps1 r;cases(b);split at q
  .rename_i C n;split at q
   .rename_i y;split at q
    .rename_i e u;obtain⟨o,f,k⟩:=s.lst n;obtain⟨l,t⟩:=Sq s c.1 f (k.eraseIdx j.toNat);obtain⟨v,g,p⟩:=k.get u;have w:=(zY.mp g).1;refine⟨a.m i,o,j,j.toNat,v,c.2,rfl,f,by lia,by lia,?_,g,q _ v l t (p.mono l)⟩;unfold seqIndex?;simp only[]
     split <;> simp <;> lia
    exact q.elim
   exact q.elim
  exact q.elim
 exact q.elim
end
end _D
namespace _D
open PySem PySem.Spec _L
open PyProof.Rows hiding St
noncomputable def tgN:xG->List Str
 |.Name x _=>[x]
 |.Tuple es _ _=>es.flatMap λe=>match e with
  |.Name x _=>[x]
  |_=>[]
 |_=>[]
def I9(tg:xG)(caps:List Nat)(N:List Str):List Str:=tgN tg++caps.map λj=>N.getD j ""
section
variable{X:Cx}{scope:xM}{nt:Nat}{caps:List Nat}{tg elt iter:xG}{ifs:List xG}{pos:Pos}{it:DI}{g:DG}{c:DB}{te:DE}
theorem ZME(m:QI X E0 tg iter it)(j:∀C b a d,(I9 tg caps X.N).Nodup->QG (blk X (I9 tg caps X.N) scope C b a d) E0 tg g)(o:GK nt g)(e:∀C b a d,QTs (blk X (I9 tg caps X.N) scope C b a d) E0 ifs c)
  (k:∀C b a d,QE (blk X (I9 tg caps X.N) scope C b a d) E0 elt te) (n:X.calm=uJ:=by rfl) (hk:scope.kind=.function:=by rfl) (f:∀x,X.env.kindOf x=X.env.scope.names.lookup x:=by intro _;rfl)
  (h:Th X.env.scope.names X.N (I9 tg caps X.N) scope.names nt caps=uJ:=by kernel_rfl) (l:∀x,foldedSetIterable iter X.env x=pure x:=by intro _;rfl):QE X E0 (.ListComp elt [⟨tg,iter,ifs,0⟩] scope pos) (Bv it nt caps g c te):=
 have i:=Ro hk f rfl h
 ZLy n i m (λC b a d=>j C b a d i.nd) o e k l
theorem ZJU(i:Nat){y:Str}{l d:Pos}(u:X.N.Nodup)(v:QI X E0 tg iter it)(p:∀C a b e,(I9 tg caps X.N).Nodup->QG (blk X (I9 tg caps X.N) scope C a b e) E0 tg g)(o:GK nt g)(f:∀C a b e,QTs (blk X (I9 tg caps X.N) scope C a b e) E0 ifs c)
  (t:∀C a b e,QE (blk X (I9 tg caps X.N) scope C a b e) E0 elt te) (s:X.calm=uJ:=by rfl) (hk:scope.kind=.function:=by rfl) (j:∀x,X.env.kindOf x=X.env.scope.names.lookup x:=by intro _;rfl)
  (h:Th X.env.scope.names X.N (I9 tg caps X.N) scope.names nt caps=uJ:=by kernel_rfl)
  (r:X.N[i]?=uQ y:=by rfl) (w:Loc X.env.scope y:=by first|exact Or.inl rfl|exact Or.inr rfl) (n:X.fn y=uJ∨X.env.scope.names.lookup y=uQ .local:=by first|exact .inl rfl|exact .inr rfl|assumption)
  (k:swapsWith (.ListComp elt [⟨tg,iter,ifs,0⟩] scope pos) (uQ (.Name y l)) d.line X.env=pure uJ:=by rfl)
  (q:∀x,foldedSetIterable iter X.env x=pure x:=by intro _;rfl):QS X E0 (.Assign [.Name y l] (.ListComp elt [⟨tg,iter,ifs,0⟩] scope pos) d) (sAs (Bv it nt caps g c te) (gV i)):=
 have m:=Ro hk j rfl h
 ZBj i s u m v (λC a b e=>p C a b e m.nd) o f t r w n k q
end
theorem bnd0{p:List xP->Prop}(h:p [])(us:List xP)(e:us.length=0):p us:=by cases us with |nil=>exact h|cons a r=>cases e
theorem Dq{n:Nat}{p:List xP->Prop}(h:∀a r,r.length=n->p (a::r))(us:List xP)(e:us.length=n+1):p us:=by cases us with |nil=>cases e|cons a r=>exact h a r (Nat.succ.inj e)
theorem bnd1{p:List xP->Prop}(h:∀a,p [a]):∀us:List xP,us.length=1->p us:=Dq λa=>bnd0 (h a)
theorem bnd2{p:List xP->Prop}(h:∀a b,p [a,b]):∀us:List xP,us.length=2->p us:=
 Dq λa=>Dq λb=>bnd0 (h a b)
theorem bnd3{p:List xP->Prop}(h:∀a b c,p [a,b,c]):∀us:List xP,us.length=3->p us:=
 Dq λa=>Dq λb=>Dq λc=>bnd0 (h a b c)
theorem bnd4{p:List xP->Prop}(h:∀a b c d,p [a,b,c,d]):∀us:List xP,us.length=4->p us:=
 Dq λa=>Dq λb=>Dq λc=>Dq λd=>bnd0 (h a b c d)
theorem bnd5{p:List xP->Prop}(h:∀a b c d e,p [a,b,c,d,e]):∀us:List xP,us.length=5->p us:=
 Dq λa=>Dq λb=>Dq λc=>Dq λd=>Dq λe=>bnd0 (h a b c d e)
theorem bnd6{p:List xP->Prop}(h:∀a b c d e f,p [a,b,c,d,e,f]):∀us:List xP,us.length=6->p us:=
 Dq λa=>Dq λb=>Dq λc=>Dq λd=>Dq λe=>Dq λf=>bnd0 (h a b c d e f)
theorem fsc{N P:List Str}{h:xM}(a:h.kind=.function:=by rfl)(b:h.isCoroutine=uX:=by rfl)(c:h.isGenerator=uX:=by rfl)(d:N.Nodup:=by decide +kernel)(e:N.take P.length=P:=by rfl)
  (f:∀x∈P,h.names.lookup x=uQ .local∨h.names.lookup x=uQ .cell:=by decide +kernel) (g:∀y∈h.names,y.2≠ .free:=by decide +kernel):FnScope N P h:=⟨a,b,c,d,e,f,g⟩
end _D
namespace _D
open PySem PySem.W _L
theorem ZNy{X:Cx}{E:XK}{x:Str}{n:Int}{t:Tok}{pos:Pos}(hg:Gl X x)(hm:X.mg x=uQ (.int n t))(hd:(x==("__debug__":Str))=uX:=by decide):QE X E (.Name x pos) (dC (.int n)):=
 ZCB (v:=.int n) hg hm ⟨_,rfl⟩ (λ_ _=>rfl) hd
theorem ZKQ{X:Cx}{E:XK}{x:Str}{n:Str}{t:Tok}{pos:Pos}(hg:Gl X x)(hm:X.mg x=uQ (.str n t))(hd:(x==("__debug__":Str))=uX:=by decide):QE X E (.Name x pos) (dC (.str n)):=
 ZCB (v:=.str n) hg hm ⟨_,rfl⟩ (λ_ _=>rfl) hd
section
open Lean
def wA(s:String):Syntax:=.atom .none s
def wL(l:List Syntax):Syntax:=.node .none `null l.toArray
def wN(k:String)(l:List Syntax):Syntax:=.node .none ("Lean.Parser."++k).toName l.toArray
def wX(l:List Syntax):Syntax:=wN "Tactic.tacticSeq" [wN "Tactic.tacticSeq1Indented" [wL l]]
def wP(l:List Syntax):Syntax:=wN "Tactic.paren" [wA "(",wX l,wA ")"]
def wI(s:String):Syntax:=(mkIdent s.toName).raw
def wH:Syntax:=wN "Term.syntheticHole" [wA "?",wA "_"]
def wU(l:List String):Syntax:=wN "Term.fun" [wA "fun",wN "Term.basicFun" [wL (l.map wI),wL [],wA "=>",wH]]
def wY(l:List Syntax):Syntax:=match l.reverse with
 |x::y::r=>wN "Term.app" [x,wL (y::r)]
 |[x]=>x
 |_=>.missing
def wT(s:String):Syntax:=wY ((((s.replace "(" "( ").replace ")" " )").splitOn " ").foldl (λst w=>match st with
 | a::r=>
  if w="" then st else if w="(" then[]::st else if w=")" then(match r with
   |b::q=>(wY a::b)::q
   |_=>st)
  else((if w="_" then wN "Term.hole" [wA w]else if w="?" then wH else if w="." then wN "Term.ellipsis" [wA ".."]
   else if w="L" then wU ["C","s","H","e","nd"]else if w="l" then wU ["C","s","H","e"]
   else if w="d" then wN "Term.byTactic" [wA "by",wX [wN "Tactic.decide" [wA "decide",wN "Tactic.optConfig" [wL []]]]]
   else if w.isNat then(Syntax.mkNumLit w).raw else wI w)::a)::r
 |_=>st) [[]]).head!
def wF(l:List Syntax):Syntax:=wN "Tactic.first" [wA "first",wL (l.map λx=>.node .none `group #[wA "|",wX [x]])]
def wJ(a b:Syntax):Syntax:=wN "Tactic.«tactic_<;>_»" [a,wA "<;>",b]
def wG(k:String)(t:Syntax)(r:Syntax):Syntax:=wP [wN "Tactic.guardTarget" [wA "guard_target",wN "equal" [wN k [wA "="]],t],wA ";",r]
def wV:Syntax:=wN "Tactic.tacticTrivial" [wA "trivial"]
def wB(s:String):Syntax:=
 let t:=wT (s.drop 1).toString;let f:=λk=>wN ("Tactic."++k) [wA k,t]
 let c:=s.front
 if c='@' then f "apply" else if c='!' then wN "Tactic.withReducible" [wA "with_reducible",wX [f "exact"]]
 else if c='=' then wP [wJ (f "refine") (wN "Tactic.tacticRfl" [wA "rfl"])]else if c='<' then wP [wJ (f "refine'") wV]else if c='.' then f "exact" else f "refine'"
def wC(s:String):Syntax:=wF ((s.splitOn ",").flatMap λb=>match b.splitOn "^" with
 |[_,t,n]=>(n.splitOn " ").map λx=>wB ("-"++t.replace "$" x)
 |_=>[wB b])
def wR(s:String):Syntax:=wF ((s.splitOn "#").map λg=>match g.splitOn "|" with
 | h::r=>
  let b:=wF (r.map λa=>match a.splitOn ":" with
   |[a,x]=>wG "equalD" (wT (h++" "++a)) (wC x)
   |_=>wC a)
  if h.front='=' then wG "equalR" (wT (h.drop 1).toString) b else if h.front='*' then b else wG "equalD" (wT (h++" _ _")) (wJ (wP [b]) wV)
 |_=>.missing)
end
end _D
namespace _D
open PySem PySem.Spec _L
open PyProof.Rows hiding St
section
variable{M:Model}{A:xF}{E:xP->xN->Prop}{s:xN}{B:Heap}{env:Env}{outer:List Env}{L e:xE}{oe:Obj}{vs:Array xP}{head:xP}{hn:Bool}{Q:Unit->xN->Prop}
end
section
variable{X:Cx}{vS:List (xE×Obj)}{σ:St}{H H':Hp}{s s':xN}{B h'':Heap}{ea C:xE}{cls:xP}{od:Option xE}{E:XK}
end
section
variable{prog:xL}{w:xR}{A:xF}{R':Result->xN->Prop}{s:xN}
end
section
variable{X:Cx}{E:XK}{N:List Str}{scope:xM}{nt:Nat}{caps:List Nat}{tg elt iter:xG}{ifs:List xG}{pos:Pos}{it:DI}{g:DG}{c:DB}{te:DE}
end
section
variable{X:Cx}{E:XK}
end
section
variable{prog:xL}{w:xR}{A:xF}{E:xP->xN->Prop}
end
section
variable{X:Cx}{E:XK}
end
section
variable{X:Cx}{E:XK}
end
section
variable{X:Cx}{E:XK}{tg iter elt:xG}{ifs:List xG}{scope:xM}{pos:Pos}{it:DI}{nt:Nat}{caps:List Nat}{g:DG}{c:DB}{te:DE}
end
section
variable{X:Cx}{E:XK}
end
end _D
namespace _D
open PySem PySem.W _L
def lcl(s:xO):List Str:=(An s).names.filterMap λp=>match p.2 with
 |.local=>uQ p.1
 |.cell=>uQ p.1
 |_=>uZ
def prm(s:xO):List Str:=(lcl s).take (Gb s).args.length
noncomputable def noA(n:Str):xO->Ask
 |.Assign [.Attribute _ x _] _ _=>.no n x
 |_=>.ck λ_=>uJ
abbrev SC(st:xO):Prop:=FnScope (lcl st) (prm st) (An st)
end _D
namespace _D
open PySem PySem.Spec _L
open PyProof.Rows hiding St
section
variable{X:Cx}{E:XK}
noncomputable def Itk(lo c:Int)(n:Nat):It:=⟨λi _=>i<n,λi H x H'=>H'=H/\x=.int (lo+i*c),λi _=>n<=i⟩
theorem ZKV{P:xL}{w:xR}{K:za}{tg:xG}(it:xE)(l c:Int)(n:Nat):Turn P w K tg (Itk l c n) [it] it (λi h=>IsRangeIter h it (l+(i:Nat)*c) ((n:Int)-(i:Nat)) c) where
 mem:=by simp
 obj:=λi h a b d=>by
  have e:b=it:=by simpa using d
  subst e;exact⟨_,a,λv z=>by have N:=z;cases N⟩
 keep:=λi h B a k=>k it (by simp) _ a
 item:=by
  intro X hP hw y u i f s J H E I j a r;subst hP hw y;obtain⟨x,A,C,m,q,p⟩:=j it (by simp);refine(Walks.range (prog:=X.prog) (w:=X.w) (I.ok.hd u) it l c n).item i s _ _ r a λv B tk F g M=>?_
  obtain⟨t,rfl⟩:=F;exact⟨_,rfl,K5 g rfl rfl (by decide) ⟨.int (l+i*c),H,I.turned (λb o d e=>M b o (by simpa using d) e) x A m q p,⟨t,rfl⟩,⟨rfl,rfl⟩,g,λb d=>(j b d).1⟩⟩
 done:=by intro X hP hw y u i f s J H E I j a r;subst hP hw y;obtain⟨x,A,C,m,q,p⟩:=j it (by simp);exact wpAny_pyNext_range_end (I.ok.hd u) a (by have:n<=i:=r;lia) λB L=>⟨rfl,I.turned (λb o d e=>L b o d e) x A m q p⟩
 self:=λ_ _ _ _ _ a h=>wpAny_pyIter_rangeiter a h
def Gk(j c:Int):Nat:=if 0<j then((j-1)/c+1).toNat else 0
theorem ZEO{j c:Int}(a:0<c)(d:0<=j):Builtin.Range.rangeSize 0 j c=(Gk j c:Nat):=by
 unfold Builtin.Range.rangeSize Gk;rw[if_pos a];by_cases h:0<j
 .have b:0<=(j-1)/c:=Int.ediv_nonneg (by lia) (by lia);rw[if_pos h,if_pos h,Int.sub_zero];lia
 rw[if_neg h,if_neg h]
 rfl
theorem ZQC{j c:Int}(a:0<c)(e:c<1000)(d:0<=j)(f:j<1000000):Builtin.Range.small 0 j c=uJ:=by
 have i:(j-1)/c<=j:=by
  by_cases h:0<j
  .have:=Int.ediv_le_self (b:=c) (show 0<=j-1 by lia);lia
  have:j=0:=by lia
  subst this;have:=Int.ediv_neg_of_neg_of_pos (show(0:Int)-1<0 by decide) a;lia
 have g:((Gk j c:Nat):Int)<=1000001:=by
  unfold Gk
  split <;> lia
 unfold Builtin.Range.small;rw[ZEO (c:=c) a d];simp[Builtin.Range.rangeFitsLong,zL,xj,decide_eq_true_eq,beq_iff_eq,a,gt_iff_lt,if_true];lia
def iSt(ta:TA):TI:=λσ H R=>ta σ H λvs H1=>∃j c:Int,vs=[.int 0,.int j,.int c]/\(0<c/\c<1000/\0<=j/\j<1000000)/\R (Itk 0 c (Gk j c)) H1
theorem ZOr{tg a b c:xG}{ta:TA}{p pos:Pos}(N:Gl X "range")(O:X.mg "range"=uZ)(P:PA X [a,b,c] ta)(hs:v8 [a,b,c] X.env=(uX,eval a X.env)::v8 [b,c] X.env:=by rfl)(y:(xU pos (v8 [b,c] X.env)).any (·.1)=uX:=by rfl):
  PI X tg (.Call (.Name "range" p) [a,b,c] [] pos) (iSt ta):=by
 intro i s z H R I h;refine Call_ (Hy I N O vd (qa (thn (P pos i s z H _ I h) λU l F=>?_) hs y));obtain⟨W,A,Q,L,u⟩:=F;obtain⟨j,c,e,⟨u,S,B,M⟩,q⟩:=u;subst e;cases L with
 | cons r m=>
  cases m with
  | cons K m=>
   cases m with
   | cons w m=>
    cases m;obtain⟨t,rfl⟩:=r;obtain⟨v,rfl⟩:=K;obtain⟨g,rfl⟩:=w;refine call_range_3 (by lia) ?_ (.inl (w9 (by lia)));refine wpAny_pyIter_range (IsRange.new ..) (ZQC u S B M) ?_;have x:Inv X i z A {l with heap:=l.heap.push {cls:=.type "range",data:=.fields #[.int 0 t,.int j v,.int c g]},toks:=l.toks}:=Q.kept λb o e=>zZ _ e
    refine⟨(l.heap.push {cls:=.type "range",data:=.fields #[.int 0 t,.int j v,.int c g]}).objs.size,[(l.heap.push {cls:=.type "range",data:=.fields #[.int 0 t,.int j v,.int c g]}).objs.size],_,_,A,rfl,
     x.kept λb o e=>zZ _ e,ZKV _ 0 c (Gk j c),?_,λb T=>?_,q⟩
    .have J:0+((0:Nat):Int)*c=0:=by simp
     have C:((Gk j c:Nat):Int)-((0:Nat):Int)=Builtin.Range.rangeSize 0 j c:=by rw[ZEO u B];simp
     rw[J,C];exact z3 _ rfl
    have e:b=(l.heap.push {cls:=.type "range",data:=.fields #[.int 0 t,.int j v,.int c g]}).objs.size:=by simpa using T
    subst e;exact x.Hh (zx _) (x.hok.fresh (zx _))
noncomputable def Lq(c:Int)(n:Nat):List D:=(zX n).map λ(k:Nat)=>D.int ((k:Int)*c)
def Jp(ds:List D)(G:DH):R ItD:=match ds with
 |[.int i,.int j,.int c]=>if i=0/\0<c/\c<1000/\0<=j/\j<1000000 then .ok (.pure (Lq c (Gk j c))) G else .bad
 |_=>.bad
theorem ZK9{a:Wd}(c:Int)(n:Nat):RepI a (.pure (Lq c n)) (Itk 0 c n):=by
 refine⟨(zX n).map λ(k:Nat)=>V.int ((k:Int)*c),?_,λb x i=>⟨λv d=>?_,λf=>?_⟩⟩
 .unfold Lq;generalize zX n=l
  induction l with
  |nil=>exact rfl
  |cons k l g=>exact⟨_,_,rfl,rfl,g⟩
 .rw[zv]at d;by_cases e:i<n
  .rw[qx e]at d;exact⟨e,λw h y=>⟨y.2.trans (by rw[Int.zero_add];exact(by simpa using d)),y.1⟩⟩
  rw[zA (by simpa using e)]at d;cases d
 show n<=i;simpa using f
theorem ZFg{tg e g d:xG}{ta:DA}{p pos:Pos}(z:Gl X "range")(A:X.mg "range"=uZ)(B:QA X E [e,g,d] ta)(hs:v8 [e,g,d] X.env=(uX,eval e X.env)::v8 [g,d] X.env:=by rfl)(m:(xU pos (v8 [g,d] X.env)).any (·.1)=uX:=by rfl):
  QI X E tg (.Call (.Name "range" p) [e,g,d] [] pos) (Bg Jp ta):=
 (ZOr z A B hs m).mono λO H Q h=>by
  obtain⟨a,S,G,hk,rfl,s,r,h⟩:=h;refine⟨a,S,G,hk,rfl,s,r,(O6 h).imp ?_⟩;rintro T _ ⟨b,K,M,rfl,x,o,q,-,f⟩;unfold Jp at f;split at f
  .rename_i i j c;split at f
   .rename_i n;obtain⟨rfl,C,l,n,k⟩:=n;obtain⟨v,r,w,u,P,N,t,F,L,U,J,I,y⟩:=q;cases(u);cases(F);cases(I);cases(y);subst J;subst t;exact⟨j,c,w,⟨C,l,n,k⟩,f b _ (Ext.refl b) o (ZK9 c (Gk j c))⟩
   exact f.elim
  exact f.elim
@[simp]theorem ZC4{j c:Int}{G:DH}(h:0<c/\c<1000/\0<=j/\j<1000000):Jp [.int 0,.int j,.int c] G=.ok (.pure (Lq c (Gk j c))) G:=by unfold Jp;exact if_pos ⟨rfl,h⟩
end
end _D
namespace _W
open PySem _L _D
noncomputable def fuel:Nat:=1000000000000000000000000000000000000000000000000000000000000
noncomputable abbrev ZC6:List Str:=["_law_script","_law_k"]
noncomputable abbrev Wf:=ZC6.take 2
theorem ZI6:FnScope ZC6 Wf (An Zz):=fsc
noncomputable abbrev ZBr:List Str:=["_law_cell","_law_many","_law_way"]
noncomputable abbrev Vf:=ZBr.take 2
theorem ZM2:FnScope ZBr Vf (An ZAn):=fsc
noncomputable abbrev ZDY:List Str:=["_law_cell","_law_prime","_law_many"]
noncomputable abbrev ZAQ:=ZDY.take 3
theorem ZHd:FnScope ZDY ZAQ (An Xy):=fsc
noncomputable abbrev ZGP:List Str:=["_law_cell","_law_most","_law_scale","_law_steps","_law_height","_law_k","_law_many","_law_way"]
noncomputable abbrev Z2:=ZGP.take 3
theorem ZIF:FnScope ZGP Z2 (An Zf):=fsc
noncomputable abbrev ZE3:List Str:=["_law_cell","_law_most","_law_scale","_law_year","_law_seasons"]
noncomputable abbrev W8:=ZE3.take 4
theorem ZQG:FnScope ZE3 W8 (An Z3):=fsc
noncomputable abbrev ZEk:List Str:=["_law_cells","_law_k","_law_names_here","_law_scale","_law_year","_law_many","_law_down_here","_law_head","_law_size","_law_kind","_law_pump","_law_most","_law_to_here"]
noncomputable abbrev Zo:=ZEk.take 5
theorem ZOs:FnScope ZEk Zo (An U8):=fsc
noncomputable abbrev ZBB:List Str:=["_law_pool","_law_many","_law_number"]
noncomputable abbrev Z0:=ZBB.take 2
theorem ZOY:FnScope ZBB Z0 (An ZAB):=fsc
noncomputable abbrev ZBg:List Str:=["_law_pool","_law_most","_law_scale","_law_steps","_law_height","_law_k","_law_many","_law_way"]
noncomputable abbrev ZAh:=ZBg.take 3
theorem ZHS:FnScope ZBg ZAh (An Vm):=fsc
noncomputable abbrev ZCI:List Str:=["_law_pool","_law_k","_law_names_here","_law_scale","_law_year","_law_kind","_law_down_here","_law_head","_law_size","_law_pump","_law_most","_law_to_here","_law_rule_here"]
noncomputable abbrev Vy:=ZCI.take 5
theorem ZIR:FnScope ZCI Vy (An Wx):=fsc
noncomputable abbrev ZFV:List Str:=["_law_pool","_law_many","_law_scale","_law_year","_law_names_here","_law_letters","_law_k","_law_letter","_law_name"]
noncomputable abbrev Tn:=ZFV.take 3
theorem ZDG:FnScope ZFV Tn (An Xp):=fsc
noncomputable abbrev ZDb:List Str:=["_law_script","_law_many","_law_scale","_law_names_here","_law_year","_law_places","_law_k","_law_cells"]
noncomputable abbrev V2:=ZDb.take 3
theorem ZMD:FnScope ZDb V2 (An Yw):=fsc
noncomputable abbrev ZCU:List Str:=["_law_script","_law_first","_law_turns","_law_many","_law_top","_law_scale","_law_rows_here","_law_when","_law_row"]
noncomputable abbrev Wi:=ZCU.take 6
theorem ZJx:FnScope ZCU Wi (An We):=fsc
noncomputable abbrev ZE1:List Str:=["_law_script","_law_house_here","_law_scale","_law_levels","_law_coming","_law_k","_law_cell","_law_level"]
noncomputable abbrev X4:=ZE1.take 3
theorem ZIs:FnScope ZE1 X4 (An Tj):=fsc
noncomputable abbrev ZBG:List Str:=["_law_script","_law_cell","_law_some","_law_many","_law_turns","_law_scale","_law_house_here","_law_dear","_law_pays","_law_left","_law_floods"]
noncomputable abbrev X6:=ZBG.take 1
theorem ZNI:FnScope ZBG X6 (An Yx):=fsc
noncomputable abbrev ZDS:List Str:=["_law_found"]
noncomputable abbrev Wa:=ZDS.take 1
theorem ZHZ:FnScope ZDS Wa (An Xi):=fsc
noncomputable abbrev ZCE:List Str:=["_law_page_here","_law_many","_law_row"]
noncomputable abbrev Vn:=ZCE.take 2
theorem ZNQ:FnScope ZCE Vn (An ZAE):=fsc
noncomputable abbrev ZDZ:List Str:=["_law_found","_law_turns","_law_many","_law_part","_law_prices"]
noncomputable abbrev Yd:=ZDZ.take 3
theorem ZGx:FnScope ZDZ Yd (An Uc):=fsc
noncomputable abbrev ZA9:List Str:=["_law_floods","_law_when","_law_place_here","_law_step","_law_row","_law_turned"]
noncomputable abbrev ZAf:=ZA9.take 4
theorem ZIA:FnScope ZA9 ZAf (An ZAx):=fsc
noncomputable abbrev ZDi:List Str:=["self","when","number","many"]
noncomputable abbrev Uy:=ZDi.take 3
theorem ZHw:FnScope ZDi Uy (An Wy):=fsc
noncomputable abbrev ZFO:List Str:=["self","spot","end","most","gain","when","number","part"]
noncomputable abbrev X7:=ZFO.take 5
theorem ZPV:FnScope ZFO X7 (An ZAw):=fsc
noncomputable abbrev ZEu:List Str:=["house","name","number","place"]
noncomputable abbrev W3:=ZEu.take 2
theorem ZFF:FnScope ZEu W3 (An Wm):=fsc
noncomputable abbrev ZB5:List Str:=["house","place","name"]
noncomputable abbrev W6:=ZB5.take 2
theorem ZJD:FnScope ZB5 W6 (An Yj):=fsc
noncomputable abbrev ZEi:List Str:=["self","when","number","most","gain","end"]
noncomputable abbrev Vg:=ZEi.take 5
theorem ZPn:FnScope ZEi Vg (An W7):=fsc
noncomputable abbrev ZFt:List Str:=["self","when","number","pay","left","place","end","is_last"]
noncomputable abbrev Zg:=ZFt.take 5
theorem ZKM:FnScope ZFt Zg (An ZAZ):=fsc
noncomputable abbrev ZFI:List Str:=["self","when","number","pay"]
noncomputable abbrev Xw:=ZFI.take 4
theorem ZJm:FnScope ZFI Xw (An Wk):=fsc
noncomputable abbrev ZDu:List Str:=["self","when","number","pay"]
noncomputable abbrev ZAF:=ZDu.take 4
theorem ZPI:FnScope ZDu ZAF (An Yi):=fsc
noncomputable abbrev ZDB:List Str:=["self","house","pays","left","when","pay","number","place"]
noncomputable abbrev ZAv:=ZDB.take 4
theorem ZPW:FnScope ZDB ZAv (An ZAR):=fsc
noncomputable abbrev ZFh:List Str:=["row","lay"]
noncomputable abbrev Xm:=ZFh.take 2
theorem ZPA:FnScope ZFh Xm (An Ud):=fsc
noncomputable abbrev ZFK:List Str:=["self","state","flow","many","rows","spot","cubes","when","number","part","pages","lay","first","page"]
noncomputable abbrev Ub:=ZFK.take 3
theorem ZEY:FnScope ZFK Ub (An U5):=fsc
noncomputable abbrev ZEb:List Str:=["self","node","end","gain","room"]
noncomputable abbrev Zw:=ZEb.take 5
theorem ZMe:FnScope ZEb Zw (An Us):=fsc
noncomputable abbrev ZD3:List Str:=["self","many","arcs","supplies","wide","arc"]
noncomputable abbrev ZAW:=ZD3.take 4
theorem ZNZ:FnScope ZD3 ZAW (An W0):=fsc
noncomputable abbrev ZBk:List Str:=["self","node","ways","found","link","onward","way"]
noncomputable abbrev Z7:=ZBk.take 3
theorem ZPd:FnScope ZBk Z7 (An Vi):=fsc
noncomputable abbrev ZGC:List Str:=["self","ways","is_done","node","way"]
noncomputable abbrev ZAr:=ZGC.take 1
theorem ZLU:FnScope ZGC ZAr (An ZAd):=fsc
noncomputable abbrev ZGU:List Str:=["self"]
noncomputable abbrev Uw:=ZGU.take 1
theorem ZOi:FnScope ZGU Uw (An Vl):=fsc
noncomputable abbrev ZDe:List Str:=["self","way"]
noncomputable abbrev Vj:=ZDe.take 2
theorem ZP7:FnScope ZDe Vj (An Zq):=fsc
noncomputable abbrev ZDN:List Str:=["self","way"]
noncomputable abbrev Zr:=ZDN.take 2
theorem ZHV:FnScope ZDN Zr (An Tv):=fsc
noncomputable abbrev ZGD:List Str:=["self","node","link","cubes","back"]
noncomputable abbrev ZAp:=ZGD.take 4
theorem ZJP:FnScope ZGD ZAp (An Xe):=fsc
noncomputable abbrev ZAS:List Str:=["self","ways","nodes","node","link"]
noncomputable abbrev V7:=ZAS.take 2
theorem Yb:FnScope ZAS V7 (An P0):=fsc
noncomputable abbrev ZFb:List Str:=["many","arcs","unbounded","node"]
noncomputable abbrev ZAk:=ZFb.take 2
theorem ZDX:FnScope ZFb ZAk (An ZAb):=fsc
noncomputable abbrev ZBn:List Str:=["many","arcs","supplies","sending","ways","flow","earned"]
noncomputable abbrev Yk:=ZBn.take 3
theorem ZPx:FnScope ZBn Yk (An Ze):=fsc
noncomputable abbrev ZCa:List Str:=["state","floods","levels","coming","supplies","when","flood","number","cubes","ahead","lay"]
noncomputable abbrev Vb:=ZCa.take 2
theorem ZOo:FnScope ZCa Vb (An Zi):=fsc
noncomputable abbrev Vd:List Str:=["house","state","floods","pays","left","draft","supplies","most","flow","prices","many","rows"]
noncomputable abbrev Wq:=Vd.take 5
theorem Wb:FnScope Vd Wq (An T4):=fsc
noncomputable abbrev ZEI:List Str:=["_law_script","_law_house_here","_law_state_here","_law_floods","_law_pays","_law_left","_law_turns","_law_many","_law_found","_law_cell","_law_when","_law_place_here","_law_more","_law_price","_law_fewer"]
noncomputable abbrev Tq:=ZEI.take 1
theorem ZKq:FnScope ZEI Tq (An Gy):=fsc
def ZF1:DS:=(Af (sIf (Ak (dOp Ht (dV 1) (dFn Bb (Aa (dV 0) Ac)))) (sRt (dOp Ae (dV 0) (dV 1))) sNx) (sRt (dC (.int 0))))
def Dw:List D->DH->R D:=Ba 2 0 ZF1
def Su:DE:=(dOp Ai (dC (.str "sea")) (dOp Ae (dC (.str "fghijk")) (dV 0)))
def Nr:DE:=(Aj (dSl (dC (.str "aaaaaa")) (uQ (dV 0)) uZ))
def Qq:DE:=(dOp Ai (dOp Ae (dC (.str "fghijk")) (dV 0)) (dC (.str "lake")))
def Q6:DS:=(Af (sAs (dOp Ex (dV 0) (dC (.int 3))) (gV 2)) (Af (sIf (Ak (dOp Bx (dV 2) (dC (.int 0)))) (sRt (Bv (Bg rng1 (Aa (dV 1) Ac)) 1 [] (gV 0) Ar Su)) sNx) (Af (sIf (Ak (dOp Bx (dV 2) (dC (.int 1)))) (sRt (Bv (Bg rng1 (Aa (dV 1) Ac)) 1 [] (gV 0) Ar Nr)) sNx) (sRt (Bv (Bg rng1 (Aa (dV 1) Ac)) 1 [] (gV 0) Ar Qq)))))
def Ik:List D->DH->R D:=Ba 2 1 Q6
def ZEj:DS:=(sRt (dOp Ex (dOp Ex (dOp Ax (dV 0) (dC (.int 48271))) (dV 1)) (dV 2)))
def Ci:List D->DH->R D:=Ba 3 0 ZEj
def Lh:DS:=(Af (sAs (dOp Ax (dOp Ai (dC (.int 1)) (dFn Ci (Aa (dOp Ai (dV 0) (dV 5)) (Aa (dC (.int 10243)) (Aa (dC (.int 4)) Ac))))) (dV 2)) (gV 6)) (Af (sAs (dC (.str "river")) (gV 7)) (Af (sIf (Gm (Ak (dOp Gg (dV 1) (dC (.int 0)))) (Ak (dOp Bx (dFn Ci (Aa (dOp Ai (dV 0) (dV 5)) (Aa (dC (.int 10247)) (Aa (dC (.int 2)) Ac)))) (dC (.int 0))))) (Af (sAs (dC (.str "pump")) (gV 7)) (Af (sAs (dFn K3 (Aa (dV 6) (Aa (dV 1) Ac))) (gV 6)) (sAs (dOp Di (dV 1) (dV 6)) (gV 1)))) sNx) (Af (sEx (Dj Cp (dV 3) (Aa (dFn Az (Aa (dV 4) (Aa (dV 6) (Aa (dV 7) Ac)))) Ac))) (sAs (dOp Ai (dOp Ai (dV 4) (dV 6)) (dOp Ax (dFn Ci (Aa (dOp Ai (dV 0) (dV 5)) (Aa (dC (.int 10253)) (Aa (dC (.int 3)) Ac)))) (dV 2))) (gV 4))))))
def ZC7:DS:=(Af (sAs (Bl (dFn Ah Ac)) (gV 3)) (Af (sAs (dOp Ax (dFn Ci (Aa (dV 0) (Aa (dC (.int 10211)) (Aa (dC (.int 4)) Ac)))) (dV 2)) (gV 4)) (Af (Cd (Bg rng1 (Aa (dFn Ci (Aa (dV 0) (Aa (dC (.int 10223)) (Aa (dC (.int 4)) Ac)))) Ac)) (gV 5) Lh) (sRt (dFn Df (Aa (dV 3) Ac))))))
def Nq:List D->DH->R D:=Ba 3 5 ZC7
def Za:DS:=(Af (sAs (Bl (dFn Ah (Aa (dFn Az (Aa (dC (.int 0)) (Aa (dFn Nq (Aa (dV 0) (Aa (dV 1) (Aa (dV 2) Ac)))) Ac))) Ac))) (gV 4)) (Af (sIf (Ak (dOp Gg (dV 3) (dC (.int 1)))) (sEx (Dj Cp (dV 4) (Aa (dFn Az (Aa (dOp Di (dV 3) (dC (.int 1))) (Aa (dFn Nq (Aa (dOp Ai (dOp Fl (dV 0) (dC (.int 3))) (dC (.int 1))) (Aa (dV 1) (Aa (dV 2) Ac)))) Ac))) Ac))) sNx) (sRt (dFn Df (Aa (dV 4) Ac)))))
def Nu:List D->DH->R D:=Ba 4 1 Za
def Vx:DS:=(sRt (dOp Ai (dOp Ai (dFn Az (Aa (dC (.str "basin")) Ac)) (dV 7)) (dFn Az (Aa (dV 8) (Aa (dFn Nu (Aa (dOp Ae (dV 0) (dC (.int 2))) (Aa (dV 11) (Aa (dV 3) (Aa (dV 4) Ac))))) (Aa (dV 10) Ac))))))
def Wh:DS:=(Af (sIf (Gm (Ak (dOp Gg (dV 5) (dC (.int 1)))) (Ak (dOp Bx (dFn Ci (Aa (dOp Ae (dV 0) (dC (.int 2))) (Aa (dC (.int 10067)) (Aa (dC (.int 2)) Ac)))) (dC (.int 0))))) (Af (sAs (dOp Ae (dV 2) (dOp Ex (dOp Ai (dOp Ai (dV 1) (dC (.int 1))) (dFn Ci (Aa (dOp Ae (dV 0) (dC (.int 2))) (Aa (dC (.int 10069)) (Aa (dOp Di (dV 5) (dC (.int 1))) Ac))))) (dV 5))) (gV 12)) (Af (sAs (dOp Ax (dFn Ci (Aa (dOp Ae (dV 0) (dC (.int 2))) (Aa (dC (.int 10079)) (Aa (dC (.int 6)) Ac)))) (dV 3)) (gV 11)) (sAs (dFn Az (Aa (dV 12) (Aa (dOp Ae (Aj (dFn Ah (Aa (dC (.int 1)) (Aa (dC (.int 1)) (Aa (dC (.int 2)) (Aa (dC (.int 3)) (Aa (dC (.int 4)) (Aa (dC (.int 5)) Ac)))))))) (dFn Ci (Aa (dOp Ae (dV 0) (dC (.int 2))) (Aa (dC (.int 10091)) (Aa (dC (.int 6)) Ac))))) (Aa (dV 11) Ac)))) (gV 10)))) sNx) Vx)
def V8:DS:=(Af (sAs (dC (.int 0)) (gV 11)) Wh)
def V3:DS:=(Af (sAs (dC .non) (gV 10)) V8)
def Py:DS:=(Af (sIf (Ak (dOp Bx (dV 9) (dC (.int 4)))) (sRt (dOp Ai (dOp Ai (dFn Az (Aa (dC (.str "mill")) Ac)) (dV 7)) (dFn Az (Aa (dV 8) Ac)))) sNx) V3)
def Ku:DS:=(Af (sIf (dOr (Ak (dOp Bx (dV 9) (dC (.int 2)))) (Ak (dOp Bx (dV 9) (dC (.int 3))))) (sRt (dOp Ai (dOp Ai (dFn Az (Aa (dC (.str "town")) Ac)) (dV 7)) (dFn Az (Aa (dV 8) (Aa (dFn Ci (Aa (dOp Ae (dV 0) (dC (.int 1))) (Aa (dC (.int 10061)) (Aa (dC (.int 3)) Ac)))) Ac))))) sNx) Py)
def ZFk:DS:=(Af (sAs (dFn Ci (Aa (dOp Ae (dV 0) (dC (.int 0))) (Aa (dC (.int 10039)) (Aa (dC (.int 5)) Ac)))) (gV 9)) Ku)
def ZFQ:DS:=(Af (sAs (dOp Ax (dFn Ci (Aa (dOp Ae (dV 0) (dC (.int 1))) (Aa (dC (.int 10037)) (Aa (dC (.int 8)) Ac)))) (dV 3)) (gV 8)) ZFk)
def ZFE:DS:=(Af (sAs (dFn Az (Aa (dOp Ae (dV 2) (dV 1)) (Aa (dV 6) (Aa (dOp Ae (Aj (dFn Ah (Aa (dC (.int 0)) (Aa (dC (.int 0)) (Aa (dC (.int 0)) (Aa (dC (.int 1)) (Aa (dC (.int 1)) (Aa (dC (.int 2)) (Aa (dC (.int 3)) (Aa (dC (.int 4)) (Aa (dC (.int 5)) Ac))))))))))) (dFn Ci (Aa (dOp Ae (dV 0) (dC (.int 0))) (Aa (dC (.int 10009)) (Aa (dC (.int 9)) Ac))))) Ac)))) (gV 7)) ZFQ)
def Vo:DS:=(Af (sAs (dOp Ae (Aj (dOp Ai (dV 2) (Aj (dFn Ah (Aa (dC (.str "sea")) Ac))))) (dOp Ai (dOp Ai (dV 1) (dC (.int 1))) (dFn Ci (Aa (dOp Ae (dV 0) (dC (.int 0))) (Aa (dC (.int 10007)) (Aa (dOp Di (dV 5) (dV 1)) Ac)))))) (gV 6)) ZFE)
def Nb:DS:=(Af (sAs (dFn Bb (Aa (dV 2) Ac)) (gV 5)) Vo)
def Ij:List D->DH->R D:=Ba 5 8 Nb
def ZD0:DS:=(Af (sAs (dOp Ae (dV 0) (dC (.int 0))) (gV 2)) (Af (sAs (dOp Fl (dV 2) (dV 1)) (gIx (dV 0) (dC (.int 0)))) (sRt (dOp Ex (dV 2) (dV 1)))))
def Cj:List D->DH->R D:=Ba 2 1 ZD0
def Ky:DS:=(Af (sAs (dOp Ax (dOp Ai (dC (.int 1)) (dFn Cj (Aa (dV 0) (Aa (dC (.int 4)) Ac)))) (dV 2)) (gV 6)) (Af (sAs (dC (.str "river")) (gV 7)) (Af (sIf (Gm (Ak (dOp Bx (dFn Cj (Aa (dV 0) (Aa (dC (.int 2)) Ac))) (dC (.int 1)))) (Ak (dOp Gg (dV 1) (dC (.int 0))))) (Af (sAs (dC (.str "pump")) (gV 7)) (Af (sAs (dFn K3 (Aa (dV 6) (Aa (dV 1) Ac))) (gV 6)) (sAs (dOp Di (dV 1) (dV 6)) (gV 1)))) sNx) (Af (sEx (Dj Cp (dV 3) (Aa (dFn Az (Aa (dV 4) (Aa (dV 6) (Aa (dV 7) Ac)))) Ac))) (sAs (dOp Ai (dOp Ai (dV 4) (dV 6)) (dOp Ax (dFn Cj (Aa (dV 0) (Aa (dC (.int 3)) Ac))) (dV 2))) (gV 4))))))
def ZEo:DS:=(Af (sAs (Bl (dFn Ah Ac)) (gV 3)) (Af (sAs (dOp Ax (dFn Cj (Aa (dV 0) (Aa (dC (.int 4)) Ac))) (dV 2)) (gV 4)) (Af (Cd (Bg rng1 (Aa (dFn Cj (Aa (dV 0) (Aa (dC (.int 4)) Ac))) Ac)) (gV 5) Ky) (sRt (dFn Df (Aa (dV 3) Ac))))))
def Jj:List D->DH->R D:=Ba 3 5 ZEo
def Xc:DS:=(sRt (dOp Ai (dV 7) (dFn Az (Aa (dV 8) (Aa (dFn Df (Aa (dV 12) Ac)) (Aa (dV 9) Ac))))))
def Tt:DS:=(Af (sIf (Gm (Ak (dOp Bx (dFn Cj (Aa (dV 0) (Aa (dC (.int 2)) Ac))) (dC (.int 1)))) (Ak (dOp Gg (dV 4) (dC (.int 1))))) (sEx (Dj Cp (dV 12) (Aa (dFn Az (Aa (dOp Ai (dC (.int 1)) (dFn Cj (Aa (dV 0) (Aa (dOp Di (dV 4) (dC (.int 1))) Ac)))) (Aa (dFn Jj (Aa (dV 0) (Aa (dV 10) (Aa (dV 3) Ac)))) Ac))) Ac))) sNx) Xc)
def Rh:DS:=(Af (sAs (Bl (dFn Ah (Aa (dFn Az (Aa (dC (.int 0)) (Aa (dFn Jj (Aa (dV 0) (Aa (dV 10) (Aa (dV 3) Ac)))) Ac))) Ac))) (gV 12)) Tt)
def Yl:DS:=(Af (sIf (Gm (Ak (dOp Bx (dFn Cj (Aa (dV 0) (Aa (dC (.int 2)) Ac))) (dC (.int 1)))) (Ak (dOp Gg (dFn Bb (Aa (dV 2) Ac)) (dC (.int 1))))) (Af (sAs (dOp Ae (dV 2) (dOp Ex (dOp Ai (dOp Ai (dV 1) (dC (.int 1))) (dFn Cj (Aa (dV 0) (Aa (dOp Di (dFn Bb (Aa (dV 2) Ac)) (dC (.int 1))) Ac)))) (dFn Bb (Aa (dV 2) Ac)))) (gV 11)) (Af (sAs (dOp Ax (dFn Cj (Aa (dV 0) (Aa (dC (.int 6)) Ac))) (dV 3)) (gV 10)) (sAs (dFn Az (Aa (dV 11) (Aa (dOp Ai (dC (.int 1)) (dFn Cj (Aa (dV 0) (Aa (dC (.int 5)) Ac)))) (Aa (dV 10) Ac)))) (gV 9)))) sNx) Rh)
def U9:DS:=(Af (sAs (dC (.int 0)) (gV 10)) Yl)
def ZAq:DS:=(Af (sAs (dC .non) (gV 9)) U9)
def Pz:DS:=(Af (sIf (Ak (dOp Bx (dV 5) (dC (.str "mill")))) (sRt (dOp Ai (dV 7) (dFn Az (Aa (dV 8) Ac)))) sNx) ZAq)
def Kf:DS:=(Af (sIf (Ak (dOp Bx (dV 5) (dC (.str "town")))) (sRt (dOp Ai (dV 7) (dFn Az (Aa (dV 8) (Aa (dFn Cj (Aa (dV 0) (Aa (dC (.int 3)) Ac))) Ac))))) sNx) Pz)
def ZBT:DS:=(Af (sAs (dOp Ax (dFn Cj (Aa (dV 0) (Aa (dC (.int 8)) Ac))) (dV 3)) (gV 8)) Kf)
def ZBX:DS:=(Af (sAs (dFn Az (Aa (dV 5) (Aa (dOp Ae (dV 2) (dV 1)) (Aa (dV 6) (Aa (dFn Cj (Aa (dV 0) (Aa (dC (.int 6)) Ac))) Ac))))) (gV 7)) ZBT)
def ZBR:DS:=(Af (sAs (dOp Ae (Aj (dOp Ai (dV 2) (Aj (dFn Ah (Aa (dC (.str "sea")) Ac))))) (dOp Ai (dOp Ai (dV 1) (dC (.int 1))) (dFn Cj (Aa (dV 0) (Aa (dOp Di (dFn Bb (Aa (dV 2) Ac)) (dV 1)) Ac))))) (gV 6)) ZBX)
def Ru:DS:=(Af (sAs (dOp Ae (Aj (dFn Ah (Aa (dC (.str "basin")) (Aa (dC (.str "basin")) (Aa (dC (.str "town")) (Aa (dC (.str "mill")) Ac)))))) (dFn Cj (Aa (dV 0) (Aa (dC (.int 4)) Ac)))) (gV 5)) ZBR)
def Jk:List D->DH->R D:=Ba 5 8 Ru
def I8:DS:=(Af (sAs (Dj Ks (dV 5) (Aa (dFn Cj (Aa (dV 0) (Aa (dFn Bb (Aa (dV 5) Ac)) Ac))) Ac)) (gV 7)) (Af (sAs (dOp Ai (dOp Ae (Aj (dFn Ah (Aa (dC (.str "")) (Aa (dC (.str "none")) (Aa (dC (.str "sea")) Ac))))) (dFn Cj (Aa (dV 0) (Aa (dC (.int 3)) Ac)))) (dOp Ax (dV 7) (dOp Ai (dC (.int 1)) (dFn Cj (Aa (dV 0) (Aa (dC (.int 3)) Ac)))))) (gV 8)) (Af (sIf (Gm (Ak (dOp Bx (Aj (dSl (dV 8) uZ (uQ (dC (.int 4))))) (dC (.str "none")))) (Gm (Ak (dOp Iz (dC (.str "none")) (dV 4))) (Ak (dOp Bx (dFn Cj (Aa (dV 0) (Aa (dC (.int 2)) Ac))) (dC (.int 1)))))) (sAs (dC (.str "none")) (gV 8)) sNx) (sEx (Dj Cp (dV 4) (Aa (dV 8) Ac))))))
def Nx:DE:=(Aj (dFn Jk (Aa (dV 1) (Aa (dV 0) (Aa (dV 4) (Aa (dV 2) (Aa (dV 3) Ac)))))))
def ZCx:DS:=(sRt (dFn Az (Aa (dV 3) (Aa (dFn Df (Aa (Aj (Bv (Bg rng1 (Aa (dV 1) Ac)) 1 [0,2,3,4] (gV 0) Ar Nx)) Ac)) Ac))))
def ZF4:DS:=(Af (Cd (Bg rng1 (Aa (dV 1) Ac)) (gV 6) I8) ZCx)
def ZGu:DS:=(Af (sAs (Bl (dFn Gf (Aa (dC (.str "abcdefghijklmnopqrstuvwxyz")) Ac))) (gV 5)) ZF4)
def ZCp:DS:=(Af (sAs (Bl (dFn Ah Ac)) (gV 4)) ZGu)
def ZDs:DS:=(Af (sAs (dOp Ai (dC (.int 1)) (dFn Cj (Aa (dV 0) (Aa (dC (.int 3)) Ac)))) (gV 3)) ZCp)
def Nf:List D->DH->R D:=Ba 3 6 ZDs
def Ox:DE:=(dFn Dw (Aa (dV 1) (Aa (dOp Ai (dOp Ai (dC (.int 4)) (dOp Ax (dC (.int 3)) (dV 2))) (dV 0)) Ac)))
def Mx:DS:=(Af (sAs (Aj (Bv (Bg rng1 (Aa (dC (.int 3)) Ac)) 1 [0,6] (gV 0) Ar Ox)) (gV 7)) (sEx (Dj Cp (dV 5) (Aa (Aj (dFn Ij (Aa (dV 7) (Aa (dV 6) (Aa (dV 3) (Aa (dV 2) (Aa (dV 4) Ac))))))) Ac))))
def ZCe:DS:=(sRt (dFn Az (Aa (dV 4) (Aa (dFn Df (Aa (dV 5) Ac)) Ac))))
def ZC1:DS:=(Af (Cd (Bg rng1 (Aa (dV 1) Ac)) (gV 6) Mx) ZCe)
def ZBv:DS:=(Af (sAs (Bl (dFn Ah Ac)) (gV 5)) ZC1)
def ZCn:DS:=(Af (sAs (dOp Ai (dC (.int 1)) (dOp Ex (dOp Fl (dFn Dw (Aa (dV 0) (Aa (dC (.int 1)) Ac))) (dC (.int 3))) (dC (.int 3)))) (gV 4)) ZBv)
def ZAy:DS:=(Af (sAs (Aj (dFn Ik (Aa (dFn Dw (Aa (dV 0) (Aa (dC (.int 1)) Ac))) (Aa (dV 1) Ac)))) (gV 3)) ZCn)
def Xh:DS:=(Af (sIf (Fp (Ak (Nz Ph Ht (dC (.int 0)) (dFn Dw (Aa (dV 0) (Aa (dC (.int 4)) Ac))) (dOp Ka (dC (.int 10)) (dC (.int 18)))))) (sRt (dFn Nf (Aa (Bl (dFn Ah (Aa (dFn Dw (Aa (dV 0) (Aa (dC (.int 4)) Ac))) Ac))) (Aa (dV 1) (Aa (dV 2) Ac))))) sNx) ZAy)
def Nt:List D->DH->R D:=Ba 3 5 Xh
def Qg:DE:=(dOp Ax (dFn Ci (Aa (dFn Dw (Aa (dV 1) (Aa (dOp Ai (dOp Ai (dV 2) (dOp Ax (dV 6) (dV 3))) (dV 0)) Ac))) (Aa (dC (.int 10103)) (Aa (dV 4) Ac)))) (dV 5))
def Mg:DS:=(Af (sAs (Aj (Bv (Bg rng1 (Aa (dV 3) Ac)) 1 [0,1,3,4,5,7] (gV 0) Ar Qg)) (gV 8)) (sEx (Dj Cp (dV 6) (Aa (dFn Df (Aa (dV 8) Ac)) Ac))))
def ZDM:DS:=(Af (sAs (Bl (dFn Ah Ac)) (gV 6)) (Af (Cd (Bg rng1 (Aa (dV 2) Ac)) (gV 7) Mg) (sRt (dV 6))))
def Lg:List D->DH->R D:=Ba 6 3 ZDM
def Ra:DE:=(dOp Ax (dOp Fl (dFn Ci (Aa (dOp Ai (dV 2) (dV 0)) (Aa (dC (.int 10099)) (Aa (dC (.int 4)) Ac)))) (dC (.int 2))) (dV 1))
def Km:DS:=(Af (sAs (dFn Dw (Aa (dV 0) (Aa (dOp Ai (dC (.int 19)) (dV 5)) Ac))) (gV 6)) (Af (sAs (dC (.int 0)) (gV 7)) (Af (sIf (Ak (dOp Bx (dOp Ae (dOp Ae (dOp Ae (dV 1) (dC (.int 1))) (dV 5)) (dC (.int 0))) (dC (.str "basin")))) (Af (sAs (dOp Ax (dFn Ci (Aa (dV 6) (Aa (dC (.int 10093)) (Aa (dC (.int 9)) Ac)))) (dV 2)) (gV 7)) (sIf (Ak (dOp Gg (dV 7) (dOp Ae (dOp Ae (dOp Ae (dV 1) (dC (.int 1))) (dV 5)) (dC (.int 4))))) (sAs (dOp Ae (dOp Ae (dOp Ae (dV 1) (dC (.int 1))) (dV 5)) (dC (.int 4))) (gV 7)) sNx)) sNx) (Af (sEx (Dj Cp (dV 3) (Aa (dV 7) Ac))) (sEx (Dj Cp (dV 4) (Aa (dFn Df (Aa (Aj (Bv (Bg rng1 (Aa (dC (.int 5)) Ac)) 1 [2,6] (gV 0) Ar Ra)) Ac)) Ac)))))))
def ZFe:DS:=(Af (sAs (Bl (dFn Ah Ac)) (gV 3)) (Af (sAs (Bl (dFn Ah Ac)) (gV 4)) (Af (Cd (Bg rng1 (Aa (dFn Bb (Aa (dOp Ae (dV 1) (dC (.int 1))) Ac)) Ac)) (gV 5) Km) (sRt (dFn Az (Aa (dFn Df (Aa (dV 3) Ac)) (Aa (dFn Df (Aa (dV 4) Ac)) Ac)))))))
def Rn:List D->DH->R D:=Ba 3 5 ZFe
def Qa:DE:=(dOp Ax (dFn Ci (Aa (dFn Dw (Aa (dV 1) (Aa (dOp Ai (dC (.int 54)) (dV 0)) Ac))) (Aa (dC (.int 10111)) (Aa (dC (.int 7)) Ac)))) (dV 2))
def Ol:DE:=(dIf (Ak (dOp Bx (dOp Ex (dV 0) (dC (.int 7))) (dOp Ex (dV 1) (dC (.int 7))))) (dOp Ae (dV 2) (dV 0)) (dFn Az (Aa (dC (.int 0)) Ac)))
def Ug:DS:=(sRt (dFn Az (Aa (dV 6) (Aa (dFn Rn (Aa (dV 0) (Aa (dV 6) (Aa (dV 5) Ac)))) (Aa (dV 10) (Aa (dV 8) (Aa (dFn Df (Aa (dV 9) Ac)) Ac)))))))
def Wn:DS:=(Af (sIf (Ak (dOp Gg (dV 4) (dC (.int 7)))) (sAs (Aj (Bv (Bg rng1 (Aa (dV 4) Ac)) 1 [1,10] (gV 0) Ar Ol)) (gV 10)) sNx) Ug)
def Wr:DS:=(Af (sAs (Aj (dFn Lg (Aa (dV 0) (Aa (dC (.int 24)) (Aa (dV 4) (Aa (dV 3) (Aa (dC (.int 6)) (Aa (dV 5) Ac)))))))) (gV 10)) Wn)
def Xl:DS:=(Af (sAs (Aj (Bv (Bg rng1 (Aa (dV 3) Ac)) 1 [0,7] (gV 0) Ar Qa)) (gV 9)) Wr)
def Z1:DS:=(Af (sAs (Aj (dFn Lg (Aa (dV 0) (Aa (dC (.int 39)) (Aa (dV 4) (Aa (dV 3) (Aa (dC (.int 10)) (Aa (dV 7) Ac)))))))) (gV 8)) Xl)
def Xb:DS:=(Af (sAs (dOp Ae (Aj (dFn Ah (Aa (dC (.int 1)) (Aa (dC (.int 1)) (Aa (dC (.int 100)) Ac))))) (dOp Ex (dOp Fl (dV 1) (dC (.int 60))) (dC (.int 3)))) (gV 7)) Z1)
def X8:DS:=(Af (sAs (dFn Nt (Aa (dV 0) (Aa (dV 3) (Aa (dV 5) Ac)))) (gV 6)) Xb)
def U4:DS:=(Af (sAs (dOp Ae (Aj (dFn Ah (Aa (dC (.int 1)) (Aa (dC (.int 1)) (Aa (dOp Ai (dOp Ka (dC (.int 10)) (dC (.int 9))) (dC (.int 7))) (Aa (dOp Ka (dC (.int 10)) (dC (.int 30))) Ac)))))) (dOp Ex (dOp Fl (dV 1) (dC (.int 15))) (dC (.int 4)))) (gV 5)) X8)
def ZAm:DS:=(Af (sAs (dOp Ae (dV 2) (dFn Ci (Aa (dV 1) (Aa (dC (.int 10273)) (Aa (dC (.int 16)) Ac))))) (Bp 2 (Al (gV 3) (Al (gV 4) Bs)))) U4)
def Up:DS:=(Af (sAs (Aj (dOp Ai (dV 2) (Aj (dFn Ah (Aa (dFn Az (Aa (dC (.int 1)) (Aa (dC (.int 2)) Ac))) (Aa (dFn Az (Aa (dC (.int 2)) (Aa (dC (.int 7)) Ac))) (Aa (dFn Az (Aa (dC (.int 1)) (Aa (dC (.int 20)) Ac))) Ac))))))) (gV 2)) ZAm)
def W5:DS:=(Af (sAs (Aj (dFn Ah (Aa (dFn Az (Aa (dC (.int 3)) (Aa (dC (.int 2)) Ac))) (Aa (dFn Az (Aa (dC (.int 2)) (Aa (dC (.int 3)) Ac))) (Aa (dFn Az (Aa (dC (.int 3)) (Aa (dC (.int 3)) Ac))) (Aa (dFn Az (Aa (dC (.int 4)) (Aa (dC (.int 2)) Ac))) (Aa (dFn Az (Aa (dC (.int 5)) (Aa (dC (.int 1)) Ac))) (Aa (dFn Az (Aa (dC (.int 2)) (Aa (dC (.int 5)) Ac))) (Aa (dFn Az (Aa (dC (.int 1)) (Aa (dC (.int 7)) Ac))) (Aa (dFn Az (Aa (dC (.int 2)) (Aa (dC (.int 2)) Ac))) (Aa (dFn Az (Aa (dC (.int 3)) (Aa (dC (.int 2)) Ac))) (Aa (dFn Az (Aa (dC (.int 2)) (Aa (dC (.int 4)) Ac))) (Aa (dFn Az (Aa (dC (.int 1)) (Aa (dC (.int 4)) Ac))) (Aa (dFn Az (Aa (dC (.int 3)) (Aa (dC (.int 1)) Ac))) (Aa (dFn Az (Aa (dC (.int 5)) (Aa (dC (.int 2)) Ac))) Ac))))))))))))))) (gV 2)) Up)
def Yt:DS:=(Af (sAs (dFn Dw (Aa (dV 0) (Aa (dC (.int 0)) Ac))) (gV 1)) W5)
def N6:List D->DH->R D:=Ba 1 10 Yt
def ZCf:DS:=(sRt (Nm (dFn Em (Aa (dV 0) (Aa (dC (.ty "int")) Ac))) (Rz (dFn Em (Aa (dV 0) (Aa (dC (.ty "bool")) Ac))))))
def Lj:List D->DH->R D:=Ba 1 0 ZCf
def Qi:DE:=(dFn Lj (Aa (dV 0) Ac))
def Qk:DS:=(sIf (dOr (Fp (Ak (dFn Em (Aa (dV 2) (Aa (dC (.ty "tuple")) Ac))))) (dOr (Ak (dOp Gn (dFn Bb (Aa (dV 2) Ac)) (dC (.int 6)))) (Fp (Ak (dFn Iu (Aa (Aj (Bv (Dt (dV 2)) 1 [] (gV 0) Ar Qi)) Ac)))))) (sRt (dC (.bl uX))) sNx)
def ZE7:DS:=(Af (sIf (dOr (Fp (Ak (dFn Em (Aa (dV 0) (Aa (dC (.ty "tuple")) Ac))))) (Ak (dOp Gn (dFn Bb (Aa (dV 0) Ac)) (dV 1)))) (sRt (dC (.bl uX))) sNx) (Af (Cd (Dt (dV 0)) (gV 2) Qk) (sRt (dC (.bl uJ)))))
def Qe:List D->DH->R D:=Ba 2 1 ZE7
def ZAl:DS:=(sIf (dOr (Fp (Ak (dFn Em (Aa (dV 3) (Aa (dC (.ty "list")) Ac))))) (Ak (dOp Gn (dFn Bb (Aa (dV 3) Ac)) (dV 1)))) (sRt (dC (.bl uX))) sNx)
def ZFr:DE:=(dFn Lj (Aa (dV 0) Ac))
def S8:DS:=(sIf (dOr (Fp (Ak (dFn Em (Aa (dV 4) (Aa (dC (.ty "tuple")) Ac))))) (dOr (Ak (dOp Gn (dFn Bb (Aa (dV 4) Ac)) (dV 2))) (Fp (Ak (dFn Iu (Aa (Aj (Bv (Dt (dV 4)) 1 [] (gV 0) Ar ZFr)) Ac)))))) (sRt (dC (.bl uX))) sNx)
def Rt:DE:=(dFn Qe (Aa (dV 0) (Aa (dV 1) Ac)))
def ZGW:DS:=(Af (sIf (dOr (Fp (Ak (dFn Em (Aa (dV 0) (Aa (dC (.ty "tuple")) Ac))))) (dOr (Ak (dOp Gn (dFn Bb (Aa (dV 0) Ac)) (dC (.int 3)))) (Fp (Ak (dFn Lj (Aa (dOp Ae (dV 0) (dC (.int 0))) Ac)))))) (sRt (dC (.bl uX))) sNx) (Af (Cd (Dt (Aj (dFn Ah (Aa (dOp Ae (dV 0) (dC (.int 1))) (Aa (dOp Ae (dV 0) (dC (.int 2))) Ac))))) (gV 3) ZAl) (Af (Cd (Dt (dOp Ae (dV 0) (dC (.int 2)))) (gV 4) S8) (sRt (dFn Iu (Aa (Aj (Bv (Dt (dOp Ae (dV 0) (dC (.int 1)))) 1 [2] (gV 0) Ar Rt)) Ac))))))
def Ji:List D->DH->R D:=Ba 3 2 ZGW
def ZGS:DS:=(Af (sAs (dOp Ae (dV 0) (dV 1)) (gV 4)) (Af (sAs (Aj (dOp Fd (Aj (dOp Fd (Aj (dSl (dV 4) uZ (uQ (dV 2)))) (dFn Az (Aa (dOp Fd (dOp Ae (dV 4) (dV 2)) (dV 3)) Ac)))) (Aj (dSl (dV 4) (uQ (dOp Fd (dV 2) (dC (.int 1)))) uZ)))) (gV 5)) (sRt (dOp Fd (Aj (dOp Fd (Aj (dSl (dV 0) uZ (uQ (dV 1)))) (Aj (dFn Ah (Aa (dV 5) Ac))))) (Aj (dSl (dV 0) (uQ (dOp Fd (dV 1) (dC (.int 1)))) uZ))))))
def Kz:List D->DH->R D:=Ba 4 2 ZGS
def Od:DS:=(Af (sAs (dFn Bb (Aa (dOp Ae (Av "Draft" (dV 0) "house") (dC (.int 1))) Ac)) (gV 3)) (Af (sIf (dOr (Ak (dOp Io (dV 2) (dC .non))) (Ak (dOp Ma (dV 1) (Av "Draft" (dV 0) "turns")))) (sRt (dOp Ax (Av "Draft" (dV 0) "turns") (dV 3))) sNx) (sRt (dOp Ai (dOp Ax (dV 1) (dV 3)) (dV 2)))))
def Dr:List D->DH->R D:=Ba 3 1 Od
def ZBI:DS:=(Af (sAs (dV 1) (Bp 3 (Al (gV 5) (Al (gV 6) (Al (gV 7) Bs))))) (Af (sEx (Dj Cp (Av "Draft" (dV 0) "arcs") (Aa (Bl (dFn Az (Aa (Br "Draft" "node_at" Dr (dV 0) (Aa (dV 5) (Aa (dV 6) Ac))) (Aa (dV 2) (Aa (dV 3) (Aa (dV 4) Ac)))))) Ac))) (sEx (Dj Cp (Av "Draft" (dV 0) "spots") (Aa (Bl (dV 1)) Ac)))))
def Hn:List D->DH->R D:=Ba 5 3 ZBI
def K4:DS:=(sIf (Ak (dOp Bx (dOp Ae (dV 3) (dC (.int 1))) (dV 1))) (sRt (dV 2)) sNx)
def ZFu:DS:=(Af (Cd (Bg Eu (Aa (dOp Ae (dV 0) (dC (.int 1))) Ac)) (Bp 2 (Al (gV 2) (Al (gV 3) Bs))) K4) Qd)
def Oc:List D->DH->R D:=Ba 2 2 ZFu
def ZAK:DS:=(Af (sAs (dOp Ae (dOp Ae (dOp Ae (dV 0) (dC (.int 1))) (dV 1)) (dC (.int 2))) (gV 2)) (Af (sIf (Ak (dOp Bx (dV 2) (dC (.str "sea")))) (sRt (dC .non)) sNx) (sRt (dFn Oc (Aa (dV 0) (Aa (dV 2) Ac))))))
def Og:List D->DH->R D:=Ba 2 1 ZAK
def ZF7:DS:=(Af (sAs (Br "Draft" "node_at" Dr (dV 0) (Aa (dOp Ai (dV 1) (dOp Ae (dOp Ae (dOp Ae (Av "Draft" (dV 0) "house") (dC (.int 1))) (dV 2)) (dC (.int 3)))) (Aa (dFn Og (Aa (Av "Draft" (dV 0) "house") (Aa (dV 2) Ac))) Ac))) (gV 5)) (sEx (Br "Draft" "draw" Hn (dV 0) (Aa (dFn Az (Aa (dV 1) (Aa (dV 2) (Aa (dC (.int 3)) Ac)))) (Aa (dV 5) (Aa (dV 3) (Aa (dV 4) Ac)))))))
def Hk:List D->DH->R D:=Ba 5 1 ZF7
def W4:DS:=(Af (sAs (dOp Ae (dOp Ae (Av "Draft" (dV 0) "house") (dC (.int 1))) (dV 2)) (gV 5)) (Af (sEx (Br "Draft" "draw_river" Hk (dV 0) (Aa (dV 1) (Aa (dV 2) (Aa (dC .non) (Aa (dC (.int 0)) Ac)))))) (Af (sIf (Ak (dOp O4 (dOp Ae (dV 5) (dC (.int 6))) (dC .non))) (Af (sAs (Br "Draft" "node_at" Dr (dV 0) (Aa (dOp Ai (dV 1) (dOp Ae (dOp Ae (dV 5) (dC (.int 6))) (dC (.int 1)))) (Aa (dFn Oc (Aa (Av "Draft" (dV 0) "house") (Aa (dOp Ae (dOp Ae (dV 5) (dC (.int 6))) (dC (.int 0))) Ac))) Ac))) (gV 6)) (sEx (Br "Draft" "draw" Hn (dV 0) (Aa (dFn Az (Aa (dV 1) (Aa (dV 2) (Aa (dC (.int 4)) Ac)))) (Aa (dV 6) (Aa (dOp Ae (dOp Ae (dV 5) (dC (.int 6))) (dC (.int 2))) (Aa (dUn H7 (dV 3)) Ac))))))) sNx) (Af (sAs (dOp Bx (dV 1) (dOp Di (Av "Draft" (dV 0) "turns") (dC (.int 1)))) (gV 7)) (sEx (Br "Draft" "draw" Hn (dV 0) (Aa (dFn Az (Aa (dV 1) (Aa (dV 2) (Aa (dC (.int 5)) Ac)))) (Aa (Br "Draft" "node_at" Dr (dV 0) (Aa (dOp Ai (dV 1) (dC (.int 1))) (Aa (dV 2) Ac))) (Aa (dOp Ae (dV 5) (dC (.int 4))) (Aa (dIf (Ak (dV 7)) (dV 4) (dC (.int 0))) Ac))))))))))
def Lx:List D->DH->R D:=Ba 5 3 W4
def ZDL:DS:=(Af (sEx (Br "Draft" "draw_river" Hk (dV 0) (Aa (dV 1) (Aa (dV 2) (Aa (dOp Ae (dOp Ae (dOp Ae (Av "Draft" (dV 0) "house") (dC (.int 1))) (dV 2)) (dC (.int 4))) (Aa (dV 3) Ac)))))) (sEx (Br "Draft" "draw_river" Hk (dV 0) (Aa (dV 1) (Aa (dV 2) (Aa (dC .non) (Aa (dC (.int 0)) Ac)))))))
def N7:List D->DH->R D:=Ba 4 0 ZDL
def ZFp:DS:=(Af (sEx (Br "Draft" "draw" Hn (dV 0) (Aa (dFn Az (Aa (dV 1) (Aa (dV 2) (Aa (dC (.int 1)) Ac)))) (Aa (Br "Draft" "node_at" Dr (dV 0) (Aa (dV 1) (Aa (dC .non) Ac))) (Aa (dOp Ae (dOp Ae (dOp Ae (Av "Draft" (dV 0) "house") (dC (.int 1))) (dV 2)) (dC (.int 4))) (Aa (dV 3) Ac)))))) (sEx (Br "Draft" "draw_river" Hk (dV 0) (Aa (dV 1) (Aa (dV 2) (Aa (dC .non) (Aa (dC (.int 0)) Ac)))))))
def Ml:List D->DH->R D:=Ba 4 0 ZFp
def Ko:DS:=(sIf (Ak (dOp Bx (dOp Ae (dV 7) (dC (.int 0))) (dC (.str "town")))) (sEx (Br "Draft" "draw_town" Ml (dV 0) (Aa (dV 4) (Aa (dV 6) (Aa (dOp Ae (dV 5) (dV 6)) Ac))))) (sIf (Ak (dOp Bx (dOp Ae (dV 7) (dC (.int 0))) (dC (.str "mill")))) (sEx (Br "Draft" "draw_mill" N7 (dV 0) (Aa (dV 4) (Aa (dV 6) (Aa (dOp Ae (dV 5) (dV 6)) Ac))))) (sEx (Br "Draft" "draw_basin" Lx (dV 0) (Aa (dV 4) (Aa (dV 6) (Aa (dOp Ae (dV 5) (dV 6)) (Aa (dOp Ae (dV 3) (dV 6)) Ac))))))))
def Ld:DS:=(Cd (Bg Eu (Aa (dOp Ae (dV 1) (dC (.int 1))) Ac)) (Bp 2 (Al (gV 6) (Al (gV 7) Bs))) Ko)
def Pu:DS:=(Af (Ck "Draft" (dV 0) (dV 1) "house") (Af (Ck "Draft" (dV 0) (dFn Bb (Aa (dV 2) Ac)) "turns") (Af (Ck "Draft" (dV 0) (Bl (dFn Ah Ac)) "arcs") (Af (Ck "Draft" (dV 0) (Bl (dFn Ah Ac)) "spots") (Cd (Bg Eu (Aa (dV 2) Ac)) (Bp 2 (Al (gV 4) (Al (gV 5) Bs))) Ld)))))
def Mm:List D->DH->R D:=Ba 4 4 Pu
def ZCZ:DS:=(sRt (dFn Df (Aa (Aj (dOp Ai (Aj (dFn Ah (Aa (dOp Di (dFn Gi (Aa (Aj (dSl (dV 0) (uQ (dC (.int 1))) uZ)) Ac)) (dV 1)) Ac))) (Aj (dSl (dV 0) (uQ (dC (.int 1))) uZ)))) Ac)))
def Rp:List D->DH->R D:=Ba 2 0 ZCZ
def M5:DE:=(Bl (dOp J9 (dFn Ah (Aa (dC (.int 0)) Ac)) (dC (.int 6))))
def Ov:DS:=(Af (sAs (dV 5) (Bp 3 (Al (gV 7) (Al (gV 8) (Al (gV 9) Bs))))) (Iw (dOp Ae (dV 4) (Br "Draft" "node_at" Dr (dV 0) (Aa (dV 7) (Aa (dV 8) Ac)))) (dV 9) (dV 6) Kw))
def Uv:DE:=(dFn Rp (Aa (dV 0) (Aa (dV 1) Ac)))
def Qn:DE:=(dOp Ae (dV 0) (dC (.int 5)))
def Mz:DS:=(Af (sAs (Aj (Bv (Bg (Hd 2) (Aa (Aj (dSl (dV 4) (uQ (dV 12)) (uQ (dOp Ai (dV 12) (dV 3))))) (Aa (dV 11) Ac))) 2 [] (Bp 2 (Al (gV 0) (Al (gV 1) Bs))) Ar Uv)) (gV 13)) (Af (sAs (Aj (Bv (Dt (dV 13)) 1 [] (gV 0) Ar Qn)) (gV 11)) (sEx (Dj Cp (dV 10) (Aa (dFn Df (Aa (dV 13) Ac)) Ac)))))
def ZDR:DS:=(Af (sAs (dFn Bb (Aa (dOp Ae (Av "Draft" (dV 0) "house") (dC (.int 1))) Ac)) (gV 3)) (Af (sAs (Bv (Bg rng1 (Aa (dOp Ax (Av "Draft" (dV 0) "turns") (dV 3)) Ac)) 1 [] (gV 0) Ar M5) (gV 4)) (Af (Cd (Bg (Hd 2) (Aa (Av "Draft" (dV 0) "spots") (Aa (dV 2) Ac))) (Bp 2 (Al (gV 5) (Al (gV 6) Bs))) Ov) (Af (sAs (Bl (dFn Ah Ac)) (gV 10)) (Af (sAs (dOp Ae (dV 1) (dC (.int 0))) (gV 11)) (Af (Cd (Bg Jp (Aa (dC (.int 0)) (Aa (dFn Bb (Aa (dV 4) Ac)) (Aa (dV 3) Ac)))) (gV 12) Mz) (sRt (dV 10))))))))
def O5:List D->DH->R D:=Ba 3 11 ZDR
def ZEv:DS:=(Af (sEx (Dj Cp (dOp Ae (Av "Sending" (dV 0) "links_from") (dV 1)) (Aa (Bl (dFn Bb (Aa (Av "Sending" (dV 0) "ends") Ac))) Ac))) (Af (sEx (Dj Cp (Av "Sending" (dV 0) "ends") (Aa (Bl (dV 2)) Ac))) (Af (sEx (Dj Cp (Av "Sending" (dV 0) "worths") (Aa (Bl (dOp Di (dOp Ax (dV 3) (Av "Sending" (dV 0) "scale")) (dC (.int 1)))) Ac))) (sEx (Dj Cp (Av "Sending" (dV 0) "rooms") (Aa (Bl (dV 4)) Ac))))))
def Hj:List D->DH->R D:=Ba 5 0 ZEv
def M4:DE:=(Bl (dFn Ah Ac))
def J8:DS:=(Af (sEx (Br "Sending" "add_link" Hj (dV 0) (Aa (dOp Ae (dV 5) (dC (.int 0))) (Aa (dOp Ae (dV 5) (dC (.int 1))) (Aa (dOp Ae (dV 5) (dC (.int 3))) (Aa (dIf (Ak (dOp Io (dOp Ae (dV 5) (dC (.int 2))) (dC .non))) (dV 4) (dOp Ae (dV 5) (dC (.int 2)))) Ac)))))) (sEx (Br "Sending" "add_link" Hj (dV 0) (Aa (dOp Ae (dV 5) (dC (.int 1))) (Aa (dOp Ae (dV 5) (dC (.int 0))) (Aa (dUn H7 (dOp Ae (dV 5) (dC (.int 3)))) (Aa (dC (.int 0)) Ac)))))))
def ZFw:DS:=(Af (sAs (dOp Ai (dFn Gi (Aa (dV 3) Ac)) (dC (.int 1))) (gV 4)) (Af (Ck "Sending" (dV 0) (dOp Ai (dV 1) (dC (.int 1))) "scale") (Af (Ck "Sending" (dV 0) (Bl (dOp Ai (Aj (dFn Gf (Aa (dV 3) Ac))) (Aj (dFn Ah (Aa (dC (.int 0)) Ac))))) "left") (Af (Ck "Sending" (dV 0) (Bv (Dt (Av "Sending" (dV 0) "left")) 1 [] (gV 0) Ar M4) "links_from") (Af (Ck "Sending" (dV 0) (Bl (dFn Ah Ac)) "ends") (Af (Ck "Sending" (dV 0) (Bl (dFn Ah Ac)) "worths") (Af (Ck "Sending" (dV 0) (Bl (dFn Ah Ac)) "rooms") (Cd (Dt (dV 2)) (gV 5) J8))))))))
def Qc:List D->DH->R D:=Ba 4 2 ZFw
def Mw:DS:=(Af (sAs (dOp Ae (dV 2) (dOp Ae (Av "Sending" (dV 0) "ends") (dV 4))) (gV 5)) (sIf (Gm (Ak (dOp Gg (dOp Ae (Av "Sending" (dV 0) "rooms") (dV 4)) (dC (.int 0)))) (Ak (dOp O4 (dV 5) (dC .non)))) (Af (sAs (dOp Ai (dV 5) (dOp Ae (Av "Sending" (dV 0) "worths") (dV 4))) (gV 6)) (sIf (dOr (Ak (dOp Io (dV 3) (dC .non))) (Ak (dOp Ht (dV 3) (dV 6)))) (sAs (dV 6) (gV 3)) sNx)) sNx))
def ZDE:DS:=(Af (sAs (dOp Ae (dV 2) (dV 1)) (gV 3)) (Af (Cd (Dt (dOp Ae (Av "Sending" (dV 0) "links_from") (dV 1))) (gV 4) Mw) (sRt (dV 3))))
def O2:List D->DH->R D:=Ba 3 4 ZDE
def ZDy:DE:=(dC .non)
def Np:DS:=(Af (sAs (Br "Sending" "best_way" O2 (dV 0) (Aa (dV 3) (Aa (dV 1) Ac))) (gV 4)) (sIf (Ak (dOp Gn (dV 4) (dOp Ae (dV 1) (dV 3)))) (Af (sAs (dV 4) (gIx (dV 1) (dV 3))) (sAs (dC (.bl uX)) (gV 2))) sNx))
def T5:DS:=(Af (sAs (dC (.bl uJ)) (gV 2)) (Cd (Bg rng3 (Aa (dOp Di (dFn Bb (Aa (dV 1) Ac)) (dC (.int 2))) (Aa (dUn H7 (dC (.int 1))) (Aa (dUn H7 (dC (.int 1))) Ac)))) (gV 3) Np))
def La:DB:=(Fp (Ak (dV 2)))
def ZCs:DS:=(Af (sAs (Bv (Dt (Av "Sending" (dV 0) "left")) 1 [] (gV 0) Ar ZDy) (gV 1)) (Af (sAs (dC (.int 0)) (gIx (dV 1) (dUn H7 (dC (.int 1))))) (Af (sAs (dC (.bl uX)) (gV 2)) (Af (sWh La T5 fuel) (sRt (dV 1))))))
def Ir:List D->DH->R D:=Ba 1 4 ZCs
def Vs:DE:=(dV 1)
def Zu:DB:=(Ak (dOp Bx (dOp Ex (dV 0) (dC (.int 2))) (dC (.int 1))))
def ZA8:DS:=(sRt (Bv (Bg Eu (Aa (Av "Sending" (dV 0) "rooms") Ac)) 2 [] (Bp 2 (Al (gV 0) (Al (gV 1) Bs))) Zu Vs))
def Ke:List D->DH->R D:=Ba 1 0 ZA8
def ZED:DS:=(sRt (dUn H7 (dOp Fl (dUn H7 (dV 1)) (Av "Sending" (dV 0) "scale"))))
def K9:List D->DH->R D:=Ba 2 0 ZED
def ZFM:DS:=(sRt (dOp Ex (dUn H7 (dV 1)) (Av "Sending" (dV 0) "scale")))
def O8:List D->DH->R D:=Ba 2 0 ZFM
def ZD5:DS:=(Af (sAs (dIf (Ak (dOp Bx (dOp Ex (dV 2) (dC (.int 2))) (dC (.int 0)))) (dOp Ai (dV 2) (dC (.int 1))) (dOp Di (dV 2) (dC (.int 1)))) (gV 4)) (Af (Iw (Av "Sending" (dV 0) "left") (dV 1) (dV 3) Di) (Af (Iw (Av "Sending" (dV 0) "left") (dOp Ae (Av "Sending" (dV 0) "ends") (dV 2)) (dV 3) Kw) (Af (Iw (Av "Sending" (dV 0) "rooms") (dV 2) (dV 3) Di) (Iw (Av "Sending" (dV 0) "rooms") (dV 4) (dV 3) Kw)))))
def Mq:List D->DH->R D:=Ba 4 1 ZD5
def Rk:DE:=(Br "Sending" "links_of" O8 (dV 1) (Aa (dOp Ae (dV 2) (dV 0)) Ac))
def M8:DS:=(sIf (Ak (dOp Bx (dOp Ae (dV 1) (dV 3)) (dOp Ai (dOp Ae (dV 1) (dOp Ae (Av "Sending" (dV 0) "ends") (dV 4))) (dOp Ae (Av "Sending" (dV 0) "worths") (dV 4))))) (sEx (Br "Sending" "send_along" Mq (dV 0) (Aa (dV 3) (Aa (dV 4) (Aa (dFn K3 (Aa (dOp Ae (Av "Sending" (dV 0) "left") (dV 3)) (Aa (dOp Ae (Av "Sending" (dV 0) "rooms") (dV 4)) Ac))) Ac))))) sNx)
def Sx:DS:=(Cd (Dt (dOp Ae (Av "Sending" (dV 0) "links_from") (dV 3))) (gV 4) M8)
def ZFN:DS:=(Af (sAs (Aj (Nh "Sending" "send_by" (Aa (dOp Di (dFn Bb (Aa (dV 1) Ac)) (dC (.int 1))) Ac) [0,1] Rk)) (gV 2)) (Cd (Dt (dV 2)) (gV 3) Sx))
def Oe:List D->DH->R D:=Ba 2 3 ZFN
def Vr:DE:=(dOp Ae (dV 0) (dC (.int 0)))
def Uh:DB:=(Ak (dOp Io (dOp Ae (dV 0) (dC (.int 2))) (dC .non)))
def O7:DS:=(sIf (Ak (dOp Iz (dV 3) (dV 2))) Qd sNx)
def ZBh:DS:=(Af (sAs (Aj (Bv (Dt (dV 1)) 1 [] (gV 0) Uh Vr)) (gV 2)) (Cd (Bg rng1 (Aa (dV 0) Ac)) (gV 3) O7))
def Rw:List D->DH->R D:=Ba 2 2 ZBh
def Mi:DS:=(Af (sEx (Br "Sending" "send_by" Oe (dV 3) (Aa (dV 4) Ac))) (sAs (Aj (Br "Sending" "best_ways" Ir (dV 3) Ac)) (gV 4)))
def Ob:DB:=(Ak (dOp Gg (dFn Gi (Aa (Aj (dSl (Av "Sending" (dV 3) "left") uZ (uQ (dV 0)))) Ac)) (dC (.int 0))))
def Tu:DE:=(dOp Ax (dV 0) (dOp Ae (dV 1) (dC (.int 3))))
def M7:DE:=(Br "Sending" "gain_of" K9 (dV 1) (Aa (dV 0) Ac))
def ZBx:DS:=(sRt (dFn Az (Aa (dV 6) (Aa (dV 5) (Aa (Aj (Bv (Dt (Aj (dSl (dV 4) uZ (uQ (dV 0))))) 1 [3] (gV 0) Ar M7)) Ac)))))
def ZBa:DS:=(Af (sAs (dFn Gi (Aa (Aj (Bv (Bg (Hd 2) (Aa (dV 5) (Aa (dV 1) Ac))) 2 [] (Bp 2 (Al (gV 0) (Al (gV 1) Bs))) Ar Tu)) Ac)) (gV 6)) ZBx)
def ZGp:DS:=(Af (sAs (Aj (Br "Sending" "flow_sent" Ke (dV 3) Ac)) (gV 5)) ZBa)
def ZCu:DS:=(Af (sWh Ob Mi fuel) ZGp)
def ZCy:DS:=(Af (sAs (Aj (Br "Sending" "best_ways" Ir (dV 3) Ac)) (gV 4)) ZCu)
def ZEH:DS:=(Af (sAs (Ly "Sending" Qc (Aa (dV 0) (Aa (dV 1) (Aa (dV 2) Ac)))) (gV 3)) ZCy)
def ZDr:DS:=(Af (sEx (dFn Rw (Aa (dV 0) (Aa (dV 1) Ac)))) ZEH)
def Ri:List D->DH->R D:=Ba 3 4 ZDr
def Kc:DS:=(Af (sAs (dIf (Ak (dOp Ht (dV 5) (dFn Bb (Aa (dOp Ae (dV 3) (dV 7)) Ac)))) (dOp Ae (dOp Ae (dV 3) (dV 7)) (dV 5)) (dC (.int 0))) (gV 9)) (Af (sAs (dIf (Ak (dOp Bx (dV 5) (dC (.int 0)))) (dOp Ae (dV 2) (dV 7)) (dC (.int 0))) (gV 10)) (sEx (Dj Cp (dV 4) (Aa (dOp Ai (dOp Ai (dV 8) (dV 9)) (dV 10)) Ac)))))
def Ou:DS:=(Cd (Bg Eu (Aa (dV 6) Ac)) (Bp 2 (Al (gV 7) (Al (gV 8) Bs))) Kc)
def ZE6:DS:=(Af (sAs (dV 0) (Bp 2 (Al (gV 2) (Al (gV 3) Bs)))) (Af (sAs (Bl (dFn Ah Ac)) (gV 4)) (Af (Cd (Bg Eu (Aa (dV 1) Ac)) (Bp 2 (Al (gV 5) (Al (gV 6) Bs))) Ou) (sRt (dV 4)))))
def Oa:List D->DH->R D:=Ba 2 9 ZE6
def Mf:DE:=(dFn Df (Aa (Aj (dSl (dV 1) (uQ (dV 0)) (uQ (dOp Ai (dV 0) (dV 2))))) Ac))
def ZCd:DS:=(Af (sAs (Ly "Draft" Mm (Aa (dV 0) (Aa (dV 3) (Aa (dV 4) Ac)))) (gV 5)) (Af (sAs (Aj (dFn Oa (Aa (dV 1) (Aa (dV 2) Ac)))) (gV 6)) (Af (sAs (Aj (dFn Ri (Aa (dFn Bb (Aa (dV 6) Ac)) (Aa (Av "Draft" (dV 5) "arcs") (Aa (dV 6) Ac))))) (Bp 3 (Al (gV 7) (Al (gV 8) (Al (gV 9) Bs))))) (Af (sAs (dFn Bb (Aa (dOp Ae (dV 0) (dC (.int 1))) Ac)) (gV 10)) (Af (sAs (Aj (Bv (Bg Jp (Aa (dC (.int 0)) (Aa (dFn Bb (Aa (dV 9) Ac)) (Aa (dV 10) Ac)))) 1 [9,10] (gV 0) Ar Mf)) (gV 11)) (sRt (dFn Az (Aa (dV 7) (Aa (Aj (Br "Draft" "pages_by" O5 (dV 5) (Aa (dV 1) (Aa (dV 8) Ac)))) (Aa (dV 11) Ac))))))))))
def J7:List D->DH->R D:=Ba 5 7 ZCd
def ZA3:DS:=(sRt (Nm (dFn Ji (Aa (dV 14) (Aa (dV 6) (Aa (dV 7) Ac)))) (dOp Ma (dOp Di (dOp Ae (dV 8) (dC (.int 0))) (dOp Ae (dV 14) (dC (.int 0)))) (dOp Ae (dOp Ae (dOp Ae (dV 8) (dC (.int 2))) (dV 10)) (dV 11)))))
def ZEz:DS:=(Af (sAs (Aj (dFn J7 (Aa (dV 1) (Aa (dV 2) (Aa (Aj (dFn Kz (Aa (dV 3) (Aa (dV 10) (Aa (dV 11) (Aa (dUn H7 (dC (.int 1))) Ac)))))) (Aa (Aj (dFn Gf (Aa (dV 4) Ac))) (Aa (dV 5) Ac))))))) (gV 14)) ZA3)
def U3:DS:=(Af (sIf (Ak (dOp Bx (dOp Ae (dOp Ae (dV 3) (dV 10)) (dV 11)) (dC (.int 0)))) (sRt (dC (.bl uJ))) sNx) ZEz)
def ZCF:DS:=(Af (sAs (dFn Ci (Aa (dV 9) (Aa (dC (.int 10159)) (Aa (dV 7) Ac)))) (gV 11)) U3)
def ZBy:DS:=(Af (sAs (dFn Ci (Aa (dV 9) (Aa (dC (.int 10151)) (Aa (dV 6) Ac)))) (gV 10)) ZCF)
def ZGE:DS:=(Af (sIf (dOr (Fp (Ak (dFn Ji (Aa (dV 12) (Aa (dV 6) (Aa (dV 7) Ac)))))) (dOr (Ak (dOp Ht (dV 13) (dC (.int 0)))) (Ak (dOp Gn (dOp Di (dOp Ae (dV 12) (dC (.int 0))) (dOp Ae (dV 8) (dC (.int 0)))) (dV 13))))) (sRt (dC (.bl uX))) sNx) ZBy)
def ZBE:DS:=(Af (sAs (dOp Ae (dOp Ae (dOp Ae (dV 8) (dC (.int 2))) (dV 10)) (dV 11)) (gV 13)) ZGE)
def ZD2:DS:=(Af (sAs (Aj (dFn J7 (Aa (dV 1) (Aa (dV 2) (Aa (Aj (dFn Kz (Aa (dV 3) (Aa (dV 10) (Aa (dV 11) (Aa (dC (.int 1)) Ac)))))) (Aa (Aj (dFn Gf (Aa (dV 4) Ac))) (Aa (dV 5) Ac))))))) (gV 12)) ZBE)
def ZDn:DS:=(Af (sAs (dFn Ci (Aa (dV 9) (Aa (dC (.int 10141)) (Aa (dV 7) Ac)))) (gV 11)) ZD2)
def ZCV:DS:=(Af (sAs (dFn Ci (Aa (dV 9) (Aa (dC (.int 10139)) (Aa (dV 6) Ac)))) (gV 10)) ZDn)
def ZFD:DS:=(Af (sAs (dFn Dw (Aa (dV 0) (Aa (dC (.int 3)) Ac))) (gV 9)) ZCV)
def ZEF:DS:=(Af (sIf (Fp (Ak (dFn Ji (Aa (dV 8) (Aa (dV 6) (Aa (dV 7) Ac)))))) (sRt (dC (.bl uX))) sNx) ZFD)
def ZGf:DS:=(Af (sAs (Aj (dFn J7 (Aa (dV 1) (Aa (dV 2) (Aa (Aj (dFn Gf (Aa (dV 3) Ac))) (Aa (Aj (dFn Gf (Aa (dV 4) Ac))) (Aa (dV 5) Ac))))))) (gV 8)) ZEF)
def ZA4:DS:=(Af (sAs (dFn Bb (Aa (dOp Ae (dV 1) (dC (.int 1))) Ac)) (gV 7)) ZGf)
def ZEK:DS:=(Af (sAs (dFn Bb (Aa (dV 3) Ac)) (gV 6)) ZA4)
def ZGZ:DS:=(Af (sAs (Aj (dFn N6 (Aa (dV 0) Ac))) (Bp 5 (Al (gV 1) (Al (gV 2) (Al (gV 3) (Al (gV 4) (Al (gV 5) Bs))))))) ZEK)
def Jc:List D->DH->R D:=Ba 1 14 ZGZ
def Holds:Prop:=∀ns:List Int,ns.length<=63->∃G,Jc [.fl (ns.map D.int)] [.tab "Sending" "send_by"]=.ok (.bl uJ) G
end _W
namespace _W
open PySem _L _D
variable{K:za}
seal QE QT QA QS QSs QG QGs QI QTs QW QO
structure Txt (K:za) (mg:Str->Option xP) (base:Heap):Prop where
 Yc:FT K mg "_law_cell_at" Zz Wf
 Z4:FT K mg "_law_names" ZAn Vf
 Z5:FT K mg "_law_mix" Xy ZAQ
 Yn:FT K mg "_law_stairs" Zf Z2
 Vq:FT K mg "_law_rule" Z3 W8
 Xk:FT K mg "_law_place" U8 Zo
 Y9:FT K mg "_law_take" ZAB Z0
 V9:FT K mg "_law_read_stairs" Vm ZAh
 Zk:FT K mg "_law_read_place" Wx Vy
 Xq:FT K mg "_law_read_house" Xp Tn
 Wo:FT K mg "_law_house" Yw V2
 Zn:FT K mg "_law_rows" We Wi
 ZAt:FT K mg "_law_state" Tj X4
 U6:FT K mg "_law_given" Yx X6
 Wj:FT K mg "_law_whole" Xi Wa
 Tr:FT K mg "_law_page" ZAE Vn
 Uz:FT K mg "_law_shaped" Uc Yd
 Xu:FT K mg "_law_with" ZAx ZAf
 Ry:MT K "Draft" "node_at" "Draft.node_at" Wy Uy
 Tg:MT K "Draft" "draw" "Draft.draw" ZAw X7
 Vv:FT K mg "number_of" Wm W3
 Um:FT K mg "down_of" Yj W6
 Rr:MT K "Draft" "draw_river" "Draft.draw_river" W7 Vg
 Pn:MT K "Draft" "draw_basin" "Draft.draw_basin" ZAZ Zg
 Qw:MT K "Draft" "draw_mill" "Draft.draw_mill" Wk Xw
 Ss:MT K "Draft" "draw_town" "Draft.draw_town" Yi ZAF
 Tw:MT K "Draft" "__init__" "Draft.__init__" ZAR ZAv
 Wv:FT K mg "row_with_came" Ud Xm
 Qp:MT K "Draft" "pages_by" "Draft.pages_by" U5 Ub
 R4:MT K "Sending" "add_link" "Sending.add_link" Us Zw
 U7:MT K "Sending" "__init__" "Sending.__init__" W0 ZAW
 R6:MT K "Sending" "best_way" "Sending.best_way" Vi Z7
 Rv:MT K "Sending" "best_ways" "Sending.best_ways" ZAd ZAr
 Pj:MT K "Sending" "flow_sent" "Sending.flow_sent" Vl Uw
 R8:MT K "Sending" "gain_of" "Sending.gain_of" Zq Vj
 Qo:MT K "Sending" "links_of" "Sending.links_of" Tv Zr
 R1:MT K "Sending" "send_along" "Sending.send_along" Xe ZAp
 Jh:MT K "Sending" "send_by" "Sending.send_by" P0 V7
 Ux:FT K mg "check_ways" ZAb ZAk
 Ua:FT K mg "best" Ze Yk
 Uj:FT K mg "supplies_of" Zi Vb
 Wu:FT K mg "plan" T4 Wq
 M9:FT K mg "law" Gy Tq
 Ed:CT K mg "Draft"
 ZF8:NoAttr K (Ao K "Draft") "arcs"
 ZDC:NoAttr K (Ao K "Draft") "house"
 ZGA:NoAttr K (Ao K "Draft") "spots"
 ZBW:NoAttr K (Ao K "Draft") "turns"
 Cy:CT K mg "Sending"
 ZGI:NoAttr K (Ao K "Sending") "ends"
 ZDW:NoAttr K (Ao K "Sending") "left"
 ZDk:NoAttr K (Ao K "Sending") "links_from"
 ZFf:NoAttr K (Ao K "Sending") "rooms"
 ZDU:NoAttr K (Ao K "Sending") "scale"
 ZGT:NoAttr K (Ao K "Sending") "worths"
 ZPz:mg "all"=uZ
 ZPU:mg "bool"=uZ
 ZQB:mg "enumerate"=uZ
 ZJr:mg "int"=uZ
 ZLa:mg "isinstance"=uZ
 ZNf:mg "len"=uZ
 ZIn:mg "list"=uZ
 ZMr:mg "min"=uZ
 T6:mg "range"=uZ
 ZMb:mg "sorted"=uZ
 ZOJ:mg "sum"=uZ
 ZP2:mg "tuple"=uZ
 ZIq:mg "zip"=uZ
 ZCh:mg "BRIM"=uQ (.int 4 (Cg K "BRIM"))
 ZCK:mg "DELAY"=uQ (.int 3 (Cg K "DELAY"))
 ZBs:mg "DOWN"=uQ (.int 2 (Cg K "DOWN"))
 ZEt:mg "FROM"=uQ (.int 0 (Cg K "FROM"))
 ZBM:mg "GAIN"=uQ (.int 3 (Cg K "GAIN"))
 ZEW:mg "KIND"=uQ (.int 0 (Cg K "KIND"))
 ZBP:mg "LET"=uQ (.int 3 (Cg K "LET"))
 ZBO:mg "LIES"=uQ (.int 5 (Cg K "LIES"))
 ZBA:mg "MOST_flows"=uQ (.int 2 (Cg K "MOST_flows"))
 ZBe:mg "MOST_houses"=uQ (.int 4 (Cg K "MOST_houses"))
 ZCS:mg "NAME"=uQ (.int 1 (Cg K "NAME"))
 ZGa:mg "NEED"=uQ (.int 4 (Cg K "NEED"))
 ZCJ:mg "PARTS"=uQ (.int 6 (Cg K "PARTS"))
 ZDJ:mg "PLACES"=uQ (.int 1 (Cg K "PLACES"))
 ZF3:mg "PUMP"=uQ (.int 6 (Cg K "PUMP"))
 ZC3:mg "PUMPED"=uQ (.int 4 (Cg K "PUMPED"))
 ZCj:mg "PUMP_DELAY"=uQ (.int 1 (Cg K "PUMP_DELAY"))
 ZEg:mg "PUMP_MOST"=uQ (.int 2 (Cg K "PUMP_MOST"))
 ZD9:mg "PUMP_TO"=uQ (.int 0 (Cg K "PUMP_TO"))
 ZDK:mg "SEA"=uQ (.str "sea" (Cg K "SEA"))
 g_TO:mg "TO"=uQ (.int 1 (Cg K "TO"))
 ZDI:mg "TOOK"=uQ (.int 1 (Cg K "TOOK"))
 bm:BMd base mg
theorem ZIy{C m x qual:Str}{Ca f c P:xE}{st:xO}{fd:xH}(hN:zb K vz C=uQ (uQ (.ref Ca)))(hm:zd K (.ref Ca) m=uQ (uQ (.ref f)))(F:Fun K x qual st f fd)(t:TabAt K C m c P):fd.code=.ref c:=by obtain⟨Ca',f',oc,od,fd',sl,e1,e2,e3,e4,_⟩:=t;rw[hN]at e1;cases e1;rw[hm]at e2;cases e2;obtain⟨oc2,od2,kV,doc,pm,an,cdv,ct,osl,e5,lk,_⟩:=F.ex;rw[lk]at e3;cases e3;exact e4
section
seal Gm Nm dC Nz Bv Aa Av dFn Aj dIf Ly Br Dj Ac Fp Rz dOp dOr dSl Nh Bl Ak dUn dV Iu Em Bb Gf K3 Gi Df Al gIx Bs Bp gV Eu Bg Dt Hd Cp Ks Ai Fd Fl Bx Ma Gg Io O4 Ae Ph Ht Ex Ax Gn H7 Iz Ka J9 Di rng1 rng3 Jp sAs Iw Qd sEx Ck Cd sIf sNx sRt Af sWh
local macro_rules | `(tactic|trivial)=> `(tactic|first|refine' (_:String)|refine' (_:Str)|refine' (_:xE))
local macro_rules | `(tactic|trivial)=>pure (wR "QS _ _|_ (sAs (Aj _) _):-ZFS ?|(Stmt.Assign (List.cons (Expr.Name .) List.nil) (Expr.ListComp .) .) _:-ZJU _ nd ? L ? l l|(Stmt.Assign (List.cons (Expr.Name .) List.nil) .) (sAs _ (gV _)):-ZDH _ nd ?|_ (sEx _):-ZKg ?|_ (sAs _ _):-ZNw ? ?|_ (Ck _ _ _ _):-ZL0 ? ? ? ? ?|_ (Cd _ _ _):-S7 PassesOwn.never rfl ? ? ?|_ (Iw _ _ _ _):-ZKs ? ? ? ?|_ (sWh _ _ _):-ZOF fuel PassesOwn.never ? ?|@ZPs,@X5#QE _ _|_ (dV _):.Q3 _|(Expr.Subscript .) (dOp _ _ _):-ZJC ? ? ?|(Expr.Compare .) _:-ZLQ ? ? ? (nomark _)|(Expr.Call (Expr.Name .) .) (dFn _ _):<ZOg ? rfl ? ? ?,<ZIc ? rfl ? ? ?,-Cw (ZL4 T) T.Z5 hr ?,-Cw (ZMc T) T.Y9 hr ?,-Cw (ZLD T) T.Yc hr ?,-Cw (ZND T) T.Wj hr ?,-Cw (ZH4 T) T.Wu hr ?,-Cw (ZKB T) T.Uz hr ?,-Cw (ZLz T) T.Yn hr ?,-Cw (ZKp T) T.V9 hr ?,-Cw (ZIh T) T.Zn hr ?,-Cw (ZJT T) T.Vv hr ?,-Cw (ZPJ T) T.Xu hr ?,-Cw (ZI4 T) T.Vq hr ?,-Cw (ZNp T) T.Zk hr ?,-Cw (ZPb T) T.Xq hr ?,-Cw (ZJu T) T.Z4 hr ?,-Cw (ZLX T) T.Xk hr ?,-Cw (ZL3 T) T.Wo hr ?,-Cw (ZMN T) T.ZAt hr ?,-Cw (ZKv T) T.Tr hr ?,-Cw (ZHg T) T.Um hr ?,-Cw (ZKC T) T.Wv hr ?,-Cw (ZJw T) T.Ux hr ?,-Cw (ZJN T) T.Uj hr ?,-Cw (ZJ7 T) T.Ua hr ?,-Cw (ZJd T) T.U6 hr ?|_ (Dj _ _ _):-ZMp ? ? ? ? ?|_ (Av _ _ _):-ZKx ? ? ? ?|(Expr.Name .) (dC (D.ty .)):-ZIt rfl ? ?|_ (dSl _ _ _):-ZMS ? ? ?|_ (Bv _ _ _ _ _ _):-ZME ? L ? l l|(Expr.Name .) (dC _):<ZNy rfl ?,<ZKQ rfl ?|(Expr.Call _ (List.cons .) .) (Br _ _ _ _ _):-Ga T.Ed.N T.Ed.cl T.Ry.me (ZLg T) (hr.mono d) T.Ry.b pass0 ? ?,-Ga T.Ed.N T.Ed.cl T.Tg.me (ZPw T) (hr.mono d) T.Tg.b pass0 ? ?,-Ga T.Ed.N T.Ed.cl T.Rr.me (ZIx T) (hr.mono d) T.Rr.b pass0 ? ?,-Ga T.Cy.N T.Cy.cl T.R4.me (ZPm T) (hr.mono d) T.R4.b pass0 ? ?,-Ga T.Ed.N T.Ed.cl T.Ss.me (ZLF T) (hr.mono d) T.Ss.b pass0 ? ?,-Ga T.Ed.N T.Ed.cl T.Qw.me (ZNz T) (hr.mono d) T.Qw.b pass0 ? ?,-Ga T.Ed.N T.Ed.cl T.Pn.me (ZH3 T) (hr.mono d) T.Pn.b pass0 ? ?,-Ga T.Cy.N T.Cy.cl T.R6.me (ZOn T) (hr.mono d) T.R6.b pass0 ? ?,-Ga T.Cy.N T.Cy.cl T.Qo.me (ZMf T) (hr.mono d) T.Qo.b pass0 ? ?,-Ga T.Cy.N T.Cy.cl T.R1.me (ZKh T) (hr.mono d) T.R1.b pass0 ? ?,-Ga T.Cy.N T.Cy.cl T.Jh.me (ZMZ T) (hr.mono d) T.Jh.b pass0 ? ?,-Ga T.Cy.N T.Cy.cl T.R8.me (ZIu T) (hr.mono d) T.R8.b pass0 ? ?,-Ga T.Ed.N T.Ed.cl T.Qp.me (ZJp T) (hr.mono d) T.Qp.b pass0 ? ?|_ (Br _ _ _ _ _):-ZCb T.Cy.N T.Cy.cl T.Rv.me (ZL7 T) (hr.mono d) T.Rv.b pass0 ?,-ZCb T.Cy.N T.Cy.cl T.Pj.me (ZM1 T) (hr.mono d) T.Pj.b pass0 ?|_ (Ly _ _ _):-ZBC T.Cy.N T.Cy.mK (ZJK T) (hr.mono d) rfl T.Cy.g T.U7.b pass0 ?,-ZBC T.Ed.N T.Ed.mK (ZMO T) (hr.mono d) rfl T.Ed.g T.Tw.b pass0 ?|.ZOQ,.ZCm,.ZP9,.ZBi,@ZN4,@ZGe,@ZHf,@ZNo,@ZJa,@ZP0,@ZIK,@ZN3,@ZG7,@ZH1#QA _ _|.ZLG,-ZK3 ? ?#QSs _ _|@Dk,.ZAe,@Om#QG _ _|_ (gV _):.ZBY _ nd|_ (Bp _ _):-ZMy rfl ?|_ (gIx _ _):-ZNA ? ?#QGs _ _|.ZQA,-ZHn ? ?#QTs _ _|.ZF9,-ZJI ?#QT _ _|(Expr.Compare _ (List.cons _ List.nil) .) (Ak _):-Vz ? ? ? (nomark _)|_ (Ak _):-ZNb ?|(Expr.BoolOp .) _:-qt_w ?|(Expr.Compare _ (List.cons _ (List.cons _ List.nil)) .) _:-ZG4 ? ? ? ? ?|@ZLI#QI _ _ _|(Expr.Call _ (List.cons _ List.nil) .) (Bg rng1 _):-ZJG rfl ? ?|_ (Bg rng3 _):-ZK2 rfl ? ?|_ (Bg Eu _):-ZMF rfl ? ?|_ (Bg (Hd 2) _):-ZMj rfl ? ?|@ZJ6#QW _ _|@ZHD,@ZMs,@Ww,@ZM7#QO _ _|.ZIg,@ZHG#GK|_ (gV _):.ZNF d|@ZOW#GKs|.ZMP,@ZHe#=IxR _ _|!i_ix#=OpR _ _ _|!ZCL,!ZHC,!ZJZ,!ZKO,!o_gt,!ZNl,!ZIo,!o_lt,!o_is,!ZPM,!ZOD,!o_ge,!ZJ1,!ZJo,!o_le,!ZHF,.o_eq hr.units,.o_ne hr.units#=CallR _ _ _|.ZIw,.ZLu,.ZKW,=ZNE ?,=ZOE ?,=ZMm ?,=ZIW ?#=Eq _ none|.T.ZNf,.T.T6,.T.ZP2,.T.ZIn,.T.ZLa,.T.ZQB,.T.ZOJ,.T.ZMr,.T.ZPz,.T.ZIq,.T.ZJr,.T.ZPU#=Eq (bootBuiltins _) _|!ZI0,!ZPX,!ZOB,!ZLL,!ZNe,!ZLE,!ZG1,!ZMk,!ZN7#=Slot _ _ _|!PySem.F.slot_list_append,!PySem.F.slot_list_pop#=Eq (typeOf _) _|!PySem.F.type_list_append,!PySem.F.type_list_pop#=MtM _ _ _|!ZNi,!ZLM#=Eq _ (some _)|.T.ZDJ,.T.ZF3,.T.ZDI,.T.ZEt,.T.ZBM,.T.ZBA,.T.ZBO,.T.ZEW,.T.g_TO,.T.ZCS,.T.ZBs,.T.ZDK,.T.ZCK,.T.ZBP,.T.ZCj,.T.ZD9,.T.ZC3,.T.ZEg,.T.ZCh,.T.ZBe,.T.ZGa,.T.ZCJ#=NoAttr _ _ _|.T.ZDC,.T.ZFf,.T.ZDW,.T.ZGI,.T.ZBW,.T.ZDk,.T.ZGT,.T.ZDU,.T.ZF8,.T.ZGA#=UnR _ _ _|!ZM6#*|.T.Cy.N,.T.Cy.cl,.T.Ed.N,.T.Ed.cl,.hr.mono d")
set_option hygiene false in
local macro_rules | `(tactic|exists $a,$b)=> `(tactic|(refine Lp $a $b λcdv A outer s H E hr=>?_;have nd:=($b).nd;trivial))
variable{P:xL}{w:xR}{K:za}{mg:Str->Option xP}{base:Heap}(T:Txt K mg base)
include T
theorem ZLD:FnO P w K mg base 1 "_law_cell_at" Wf Dw:=by exists T.Yc.F,ZI6
theorem ZJu:FnO P w K mg base 1 "_law_names" Vf Ik:=by exists T.Z4.F,ZM2
theorem ZL4:FnO P w K mg base 1 "_law_mix" ZAQ Ci:=by exists T.Z5.F,ZHd
theorem ZLz:FnO P w K mg base 2 "_law_stairs" Z2 Nq:=by exists T.Yn.F,ZIF
theorem ZI4:FnO P w K mg base 3 "_law_rule" W8 Nu:=by exists T.Vq.F,ZQG
theorem ZLX:FnO P w K mg base 4 "_law_place" Zo Ij:=by exists T.Xk.F,ZOs
theorem ZMc:FnO P w K mg base 1 "_law_take" Z0 Cj:=by exists T.Y9.F,ZOY
theorem ZKp:FnO P w K mg base 2 "_law_read_stairs" ZAh Jj:=by exists T.V9.F,ZHS
theorem ZNp:FnO P w K mg base 3 "_law_read_place" Vy Jk:=by exists T.Zk.F,ZIR
theorem ZPb:FnO P w K mg base 4 "_law_read_house" Tn Nf:=by
 refine Lp T.Xq.F ZDG λcdv A outer s H E hr=>?_
 have nd:=ZDG.nd
 exact(Dk (by trivial) (Dk (by trivial) (Dk (by trivial) (Dk (S7 PassesOwn.never rfl (by trivial) (by trivial) (Dk (by trivial) (Dk (by trivial) (Dk (X5 (qt_w (Ww (by trivial) (Ww (Vz ZDo ZCm (Q3 4) (by with_unfolding_all rfl)) (by trivial)))) (by trivial) ZAe) (by trivial))))) (by trivial)))))
theorem ZL3:FnO P w K mg base 5 "_law_house" V2 Nt:=by exists T.Wo.F,ZMD
theorem ZIh:FnO P w K mg base 2 "_law_rows" Wi Lg:=by exists T.Zn.F,ZJx
theorem ZMN:FnO P w K mg base 2 "_law_state" X4 Rn:=by exists T.ZAt.F,ZIs
theorem ZJd:FnO P w K mg base 6 "_law_given" X6 N6:=by exists T.U6.F,ZNI
theorem ZND:FnO P w K mg base 1 "_law_whole" Wa Lj:=by exists T.Wj.F,ZHZ
theorem ZKv:FnO P w K mg base 2 "_law_page" Vn Qe:=by exists T.Tr.F,ZNQ
theorem ZKB:FnO P w K mg base 3 "_law_shaped" Yd Ji:=by exists T.Uz.F,ZGx
theorem ZPJ:FnO P w K mg base 1 "_law_with" ZAf Kz:=by exists T.Xu.F,ZIA
theorem ZLg:MtO P w K mg base 1 "Draft" "node_at" Uy Dr:=by exists T.Ry.F,ZHw
theorem ZPw:MtO P w K mg base 2 "Draft" "draw" X7 Hn:=by exists T.Tg.F,ZPV
theorem ZJT:FnO P w K mg base 1 "number_of" W3 Oc:=by
 refine Lp T.Vv.F ZFF λcdv A outer s H E hr=>?_
 have nd:=ZFF.nd;exact(Dk (by trivial) (Om ZGN))
theorem ZHg:FnO P w K mg base 2 "down_of" W6 Og:=by exists T.Um.F,ZJD
theorem ZIx:MtO P w K mg base 3 "Draft" "draw_river" Vg Hk:=by exists T.Rr.F,ZPn
theorem ZH3:MtO P w K mg base 4 "Draft" "draw_basin" Zg Lx:=by exists T.Pn.F,ZKM
theorem ZNz:MtO P w K mg base 4 "Draft" "draw_mill" Xw N7:=by exists T.Qw.F,ZJm
theorem ZLF:MtO P w K mg base 4 "Draft" "draw_town" ZAF Ml:=by exists T.Ss.F,ZPI
theorem ZMO:MtO P w K mg base 5 "Draft" "__init__" ZAv Mm:=by exists T.Tw.F,ZPW
theorem ZKC:FnO P w K mg base 1 "row_with_came" Xm Rp:=by exists T.Wv.F,ZPA
theorem ZJp:MtO P w K mg base 2 "Draft" "pages_by" Ub O5:=by
 refine Lp T.Qp.F ZEY λcdv A outer s H E hr=>?_
 have nd:=ZEY.nd;exact(Dk (by trivial) (Dk (by trivial) (Dk (by trivial) (Dk (by trivial) (Dk (by trivial) (Dk (S7 PassesOwn.never rfl (ZFg rfl T.T6 (by trivial)) (by trivial) (by trivial)) (by trivial)))))))
theorem ZPm:MtO P w K mg base 1 "Sending" "add_link" Zw Hj:=by exists T.R4.F,ZMe
theorem ZJK:MtO P w K mg base 2 "Sending" "__init__" ZAW Qc:=by exists T.U7.F,ZNZ
theorem ZOn:MtO P w K mg base 1 "Sending" "best_way" Z7 O2:=by exists T.R6.F,ZPd
theorem ZL7:MtO P w K mg base 2 "Sending" "best_ways" ZAr Ir:=by exists T.Rv.F,ZLU
theorem ZM1:MtO P w K mg base 1 "Sending" "flow_sent" Uw Ke:=by exists T.Pj.F,ZOi
theorem ZIu:MtO P w K mg base 1 "Sending" "gain_of" Vj K9:=by exists T.R8.F,ZP7
theorem ZMf:MtO P w K mg base 1 "Sending" "links_of" Zr O8:=by exists T.Qo.F,ZHV
theorem ZKh:MtO P w K mg base 1 "Sending" "send_along" ZAp Mq:=by exists T.R1.F,ZJP
theorem ZMZ:MtO P w K mg base 5 "Sending" "send_by" V7 Oe:=by
 refine ZOZ T.Jh.F Yb λcdv A outer s H E hcd hr=>?_
 have nd:=Yb.nd;exact(Dk (ZDH 2 Yb.nd (ZGe (ZMz (k:=1) (C:="Sending") (m:="send_by") (x:="node") rfl rfl T.ZMb rfl T.T6 (by trivial) (Ro (dn:=(An P0).names) (N0:=ZAS) (N:=["node","self","ways"]) (nt:=1) (caps:=[0,1])) rfl rfl rfl rfl (λ_ _ _ _ _=>rfl) rfl rfl T.bm (λc P t=>hcd.symm.trans (ZIy T.Cy.N T.Jh.me.at_ T.Jh.F t)) (hr.mono (by decide)) (λf c A s H hr=>(by trivial))))) (by trivial))
theorem ZJw:FnO P w K mg base 1 "check_ways" ZAk Rw:=by
 refine Lp T.Ux.F ZDX λcdv A outer s H E hr=>?_
 have nd:=ZDX.nd
 exact(Dk (by trivial) (Om (S7 PassesOwn.never rfl (by trivial) (by trivial) (Om (X5 (Vz ZDo (Q3 3) (Q3 2) (by with_unfolding_all rfl)) (Om ZGN) ZAe)))))
theorem ZJ7:FnO P w K mg base 6 "best" Yk Ri:=by exists T.Ua.F,ZPx
theorem ZJN:FnO P w K mg base 1 "supplies_of" Vb Oa:=by exists T.Uj.F,ZOo
theorem ZH4:FnO P w K mg base 7 "plan" Wq J7:=by
 refine Lp T.Wu.F Wb λcdv A outer s H E hr=>?_
 have nd:=Wb.nd
 exact(Dk (by trivial) (Dk (by trivial) (Dk (by trivial) (Dk (by trivial) (Dk (ZFS (ZBj 11 rfl Wb.nd (Ro (dn:=(An T4).names) (N0:=Vd) (N:=["first","prices","many"]) (nt:=1) (caps:=[9,10])) (ZFg rfl T.T6 (by trivial)) (λC s₀ H₀ ex=>(ZBY 0 (show(["first","prices","many"]:List Str).Nodup by decide +kernel))) (by trivial) (λC s₀ H₀ ex=>ZF9) (λC s₀ H₀ ex=>(by trivial)))) (by trivial))))))
theorem ZKi:FnO P w K mg base 8 "law" Tq Jc:=by exists T.M9.F,ZKq
end
theorem ZNv{h:Heap}{mg:Str->Option xP}{base:Heap}(X:K.In h)(G:h.Ns vz mg)(S:AllSaid K asks)(hbm:BMd base mg):Txt K mg base:=by
 obtain⟨Ed,Cy,Yc,Z4,Z5,Yn,Vq,Xk,Y9,V9,Zk,Xq,Wo,Zn,ZAt,U6,Wj,Tr,Uz,Xu,Ry,Tg,Vv,Um,Rr,Pn,Qw,Ss,Tw,Wv,Qp,R4,U7,R6,Rv,Pj,R8,Qo,R1,Jh,Ux,Ua,Uj,Wu,M9,ZF8,ZDC,ZGA,ZBW,ZGI,ZDW,ZDk,ZFf,ZDU,ZGT,z_all,z_bool,z_enumerate,z_int,z_isinstance,z_len,z_list,z_min,z_range,z_sorted,z_sum,ZQ8,z_zip,ZCh,ZCK,ZBs,ZEt,ZBM,ZEW,ZBP,ZBO,ZBA,ZBe,ZCS,ZGa,ZCJ,ZDJ,ZF3,ZC3,ZCj,ZEg,ZD9,ZDK,g_TO,ZDI,_⟩:=S
 constructor <;> first|assumption|exact PySem.W.mg_none_of X G (by assumption)|exact wO X G (by assumption)|exact ZHR X G (by assumption) (by assumption)|((first|refine ZNh X G (by assumption) ?_|refine ZNg (by assumption) ?_);(first|exact λ_ _ _ _ _ _=>bnd1 λ_=>rfl|exact λ_ _ _ _ _ _=>bnd2 λ_ _=>rfl|exact λ_ _ _ _ _ _=>bnd3 λ_ _ _=>rfl|exact λ_ _ _ _ _ _=>bnd4 λ_ _ _ _=>rfl|exact λ_ _ _ _ _ _=>bnd5 λ_ _ _ _ _=>rfl|exact λ_ _ _ _ _ _=>bnd6 λ_ _ _ _ _ _=>rfl))
theorem all_mk{l:ve}{w:xR}{h:Heap}{mg:Str->Option xP}{fa ZAz T0:xE}(X:K.In h)(G:h.Ns vz mg)(hfa:mg "law"=uQ (.ref fa))(tb1:(Bj K (Dz K (Ao K "Sending") "send_by")).code=.ref ZAz)(ZGw:zh K ZAz T0=uJ)(ZQJ:qh K=uJ)(S:AllSaid K asks):
  ∃(fd:xH)(c:xE),(∀(s:xN)(v:xP),BindsTo s fd ⟨[v],[]⟩ [("_law_script",v)])/\zh K c T0=uJ/\qh K=uJ/\TabAt K "Sending" "send_by" c T0/\∀base:Heap,K.In base->base.Ns vz mg->BMd base mg->FnOk l.prog w K mg base CX0 8 fa fd ["_law_script"] (lF K Jc):=by
 obtain⟨_,Cy,_,_,_,_,_,_,_,_,_,_,_,_,_,_,_,_,_,_,_,_,_,_,_,_,_,_,_,_,_,_,_,_,_,_,_,_,_,Jh,_,_,_,_,M9,_,_,_,_,_,_,_,_,_,_,_,_,_,_,_,_,_,_,_,_,_,_,_,_,_,_,_,_,_,_,_,_,_,_,_,_,_,_,_,_,_,_,_,_,_,_⟩:=id S;have eL:mg "law"=uQ (.ref (Ao K "law")):=wO X G M9.1;obtain rfl:fa=Ao K "law":=by rw[hfa]at eL;cases eL;rfl
 obtain⟨a1,a2,a3⟩:=Jh;have l1:=a3.1;rw[tb1]at l1;exact⟨_,ZAz,λs v=>ZPN (Mr M9.2),ZGw,ZQJ,⟨_,_,_,_,_,_,Cy.1,a1,l1,rfl,ZGw⟩,λbase _ _ hbm=>ZKi (ZNv X G S hbm)⟩
theorem walk{l:ve}{q:xL}{loose:List Str}{XP:(Str->Option xP)->Heap->Prop}{YP:xR->Heap->Prop}{d:DefRec}{K:xR->za}{T0:xR->xE}(hn:l.most=uQ 63)(hdf:d.params.defaults=[])(HH:Holds)
  (hY:∀(w:xR)(h:Heap),YP w h->(K w).In h/\h.get? (T0 w)=uQ (qg #[]))
  (F:∀(w:xR)(mg:Str->Option xP)(fa:xE)(h:Heap),(K w).In h->h.Ns vz mg->mg d.name=uQ (.ref fa)->
   ∃(fd:xH)(c:xE),(∀(s:xN)(u:xP),BindsTo s fd ⟨[u],[]⟩ [("_law_script",u)])/\zh (K w) c (T0 w)=uJ/\qh (K w)=uJ/\TabAt (K w) "Sending" "send_by" c (T0 w)/\∀base:Heap,(K w).In base->base.Ns vz mg->BMd base mg->FnOk l.prog w (K w) mg base CX0 8 fa fd ["_law_script"] (lF (K w) Jc)):
  wM q loose XP YP l.row.toRowW d [] (λf vs=>qe f vs):=
 ZON (n:=63) (k:=8) (x:="_law_script") (sp:=λw=>lF (K w) Jc) hn (by decide) hdf ⟨rfl,by decide,by decide⟩ hY λw mg fa h k1 k2 k3=>by
  obtain⟨fd,c,hb,hC,hK,tA,hF⟩:=F w mg fa h k1 k2 k3;refine⟨fd,c,hb,hC,hK,λH a ns hl hO hT hS=>?_,hF⟩;obtain⟨G,hG⟩:=HH ns hl;refine⟨⟨K w,1,λ_=>T0 w,H⟩,[.tab "Sending" "send_by"],[.fl (ns.map D.int)],rfl,rfl,⟨rfl,λi j h1 h2 _=>?_,λi o h=>?_,λi h=>?_⟩,Reps.cons ⟨a,ns.map V.int,rfl,?_,Reps.ints ns⟩ Reps.nil,?_⟩
  .have h1':i<1:=h1;have h2':j<1:=h2;lia
  .cases i with
   |zero=>
    have h':o=.tab "Sending" "send_by":=by simpa using h.symm
    subst h';exact⟨c,T0 w,tA,#[],hT,trivial,λpos cv z=>by cases z⟩
   |succ i=>simp at h
  .show H (T0 w)≠uZ;rw[hT];intro z;cases z
  .rcases hS with(hS|hS)|hS
   .rcases hO a with z|⟨o,xs,z⟩|⟨_,z⟩
    .rw[z]at hS;cases hS
    .rw[z]at hS;cases hS
    .rw[z]at hS;cases hS
   .exact .inl hS
   .exact .inr ⟨⟨ns,rfl⟩,hS⟩
  .rw[hG];exact λb v _ _ r=>r
end _W
namespace _W
open PySem _L _D
variable{G L Γ H M:DH}{A o:DO}{ds NS:List D}{f g p s t:Nat->Int}{c y x wide pay:Int}{m n i w u k l q j T:Nat}{xs sc lv r:List Int}{P:List (Option Int)}{lk:Nat->List Nat}{b:DS}{S:DSt}{s1 s2 s3 s0:Option D}{te:DE}{d:D}{ns:List Str}{nm:Str}{pays cm rs fl:List (List Int)}
noncomputable abbrev zI(i:Int):Option D:=uQ (.int i)
noncomputable abbrev zR(i:Nat):Option D:=uQ (.ref i)
noncomputable abbrev zF(xs:List D):Option D:=uQ (.fl xs)
noncomputable abbrev zT(xs:List D):Option D:=uQ (.tup xs)
noncomputable abbrev zS(x:Str):Option D:=uQ (.str x)
noncomputable abbrev zB(b:Bool):Option D:=uQ (.bl b)
section
variable{S:DSt}{G:DH}{d v:D}{o:D->D->DH->R D}{t:DE}{r:DA}{a b c e f g h i j k l m n:Option D}
@[simp high]theorem rV0:dV 0 (uQ d::S) G=.ok d G:=id rfl
@[simp high]theorem rV1:dV 1 (a::uQ d::S) G=.ok d G:=id rfl
@[simp high]theorem rV2:dV 2 (a::b::uQ d::S) G=.ok d G:=id rfl
@[simp high]theorem rV3:dV 3 (a::b::c::uQ d::S) G=.ok d G:=id rfl
@[simp high]theorem rV4:dV 4 (a::b::c::e::uQ d::S) G=.ok d G:=id rfl
@[simp high]theorem rV5:dV 5 (a::b::c::e::f::uQ d::S) G=.ok d G:=id rfl
@[simp high]theorem rV6:dV 6 (a::b::c::e::f::g::uQ d::S) G=.ok d G:=id rfl
@[simp high]theorem rV7:dV 7 (a::b::c::e::f::g::h::uQ d::S) G=.ok d G:=id rfl
@[simp high]theorem rV8:dV 8 (a::b::c::e::f::g::h::i::uQ d::S) G=.ok d G:=id rfl
@[simp high]theorem rV9:dV 9 (a::b::c::e::f::g::h::i::j::uQ d::S) G=.ok d G:=id rfl
@[simp high]theorem rV10:dV 10 (a::b::c::e::f::g::h::i::j::k::uQ d::S) G=.ok d G:=id rfl
@[simp high]theorem rV11:dV 11 (a::b::c::e::f::g::h::i::j::k::l::uQ d::S) G=.ok d G:=id rfl
@[simp high]theorem rV12:dV 12 (a::b::c::e::f::g::h::i::j::k::l::m::uQ d::S) G=.ok d G:=id rfl
@[simp high]theorem rV13:dV 13 (a::b::c::e::f::g::h::i::j::k::l::m::n::uQ d::S) G=.ok d G:=id rfl
@[simp 10002]theorem rOC0:dOp o (dV 0) (dC v) (uQ d::S) G=o d v G:=id rfl
@[simp 10002]theorem rOC1:dOp o (dV 1) (dC v) (a::uQ d::S) G=o d v G:=id rfl
@[simp 10002]theorem rOC2:dOp o (dV 2) (dC v) (a::b::uQ d::S) G=o d v G:=id rfl
@[simp 10002]theorem rOC3:dOp o (dV 3) (dC v) (a::b::c::uQ d::S) G=o d v G:=id rfl
@[simp 10002]theorem rOC4:dOp o (dV 4) (dC v) (a::b::c::e::uQ d::S) G=o d v G:=id rfl
@[simp 10002]theorem rOC5:dOp o (dV 5) (dC v) (a::b::c::e::f::uQ d::S) G=o d v G:=id rfl
@[simp 10002]theorem rOC7:dOp o (dV 7) (dC v) (a::b::c::e::f::g::h::uQ d::S) G=o d v G:=id rfl
@[simp 10002]theorem rOC8:dOp o (dV 8) (dC v) (a::b::c::e::f::g::h::i::uQ d::S) G=o d v G:=id rfl
@[simp 10002]theorem rOC9:dOp o (dV 9) (dC v) (a::b::c::e::f::g::h::i::j::uQ d::S) G=o d v G:=id rfl
@[simp 10002]theorem rOC12:dOp o (dV 12) (dC v) (a::b::c::e::f::g::h::i::j::k::l::m::uQ d::S) G=o d v G:=id rfl
@[simp 10002]theorem rOC13:dOp o (dV 13) (dC v) (a::b::c::e::f::g::h::i::j::k::l::m::n::uQ d::S) G=o d v G:=id rfl
@[simp high]theorem rOV0:dOp o (dV 0) t (uQ d::S) G=(t (uQ d::S) G).bind λy p=>o d y p:=id rfl
@[simp high]theorem rOV1:dOp o (dV 1) t (a::uQ d::S) G=(t (a::uQ d::S) G).bind λy p=>o d y p:=id rfl
@[simp high]theorem rOV2:dOp o (dV 2) t (a::b::uQ d::S) G=(t (a::b::uQ d::S) G).bind λy p=>o d y p:=id rfl
@[simp high]theorem rOV3:dOp o (dV 3) t (a::b::c::uQ d::S) G=(t (a::b::c::uQ d::S) G).bind λy p=>o d y p:=id rfl
@[simp high]theorem rOV4:dOp o (dV 4) t (a::b::c::e::uQ d::S) G=(t (a::b::c::e::uQ d::S) G).bind λy p=>o d y p:=id rfl
@[simp high]theorem rOV5:dOp o (dV 5) t (a::b::c::e::f::uQ d::S) G=(t (a::b::c::e::f::uQ d::S) G).bind λy p=>o d y p:=id rfl
@[simp high]theorem rOV6:dOp o (dV 6) t (a::b::c::e::f::g::uQ d::S) G=(t (a::b::c::e::f::g::uQ d::S) G).bind λy p=>o d y p:=id rfl
@[simp high]theorem rOV7:dOp o (dV 7) t (a::b::c::e::f::g::h::uQ d::S) G=(t (a::b::c::e::f::g::h::uQ d::S) G).bind λy p=>o d y p:=id rfl
@[simp high]theorem rOV8:dOp o (dV 8) t (a::b::c::e::f::g::h::i::uQ d::S) G=(t (a::b::c::e::f::g::h::i::uQ d::S) G).bind λy p=>o d y p:=id rfl
@[simp high]theorem rOV12:dOp o (dV 12) t (a::b::c::e::f::g::h::i::j::k::l::m::uQ d::S) G=(t (a::b::c::e::f::g::h::i::j::k::l::m::uQ d::S) G).bind λy p=>o d y p:=id rfl
@[simp high]theorem rCV0:Aa (dV 0) r (uQ d::S) G=(r (uQ d::S) G).bind λxs p=>.ok (d::xs) p:=id rfl
@[simp high]theorem rCV1:Aa (dV 1) r (a::uQ d::S) G=(r (a::uQ d::S) G).bind λxs p=>.ok (d::xs) p:=id rfl
@[simp high]theorem rCV2:Aa (dV 2) r (a::b::uQ d::S) G=(r (a::b::uQ d::S) G).bind λxs p=>.ok (d::xs) p:=id rfl
@[simp high]theorem rCV3:Aa (dV 3) r (a::b::c::uQ d::S) G=(r (a::b::c::uQ d::S) G).bind λxs p=>.ok (d::xs) p:=id rfl
@[simp high]theorem rCV4:Aa (dV 4) r (a::b::c::e::uQ d::S) G=(r (a::b::c::e::uQ d::S) G).bind λxs p=>.ok (d::xs) p:=id rfl
@[simp high]theorem rCV5:Aa (dV 5) r (a::b::c::e::f::uQ d::S) G=(r (a::b::c::e::f::uQ d::S) G).bind λxs p=>.ok (d::xs) p:=id rfl
@[simp high]theorem rCV6:Aa (dV 6) r (a::b::c::e::f::g::uQ d::S) G=(r (a::b::c::e::f::g::uQ d::S) G).bind λxs p=>.ok (d::xs) p:=id rfl
@[simp high]theorem rCV7:Aa (dV 7) r (a::b::c::e::f::g::h::uQ d::S) G=(r (a::b::c::e::f::g::h::uQ d::S) G).bind λxs p=>.ok (d::xs) p:=id rfl
@[simp high]theorem rCV8:Aa (dV 8) r (a::b::c::e::f::g::h::i::uQ d::S) G=(r (a::b::c::e::f::g::h::i::uQ d::S) G).bind λxs p=>.ok (d::xs) p:=id rfl
@[simp high]theorem rCV9:Aa (dV 9) r (a::b::c::e::f::g::h::i::j::uQ d::S) G=(r (a::b::c::e::f::g::h::i::j::uQ d::S) G).bind λxs p=>.ok (d::xs) p:=id rfl
@[simp high]theorem rCV10:Aa (dV 10) r (a::b::c::e::f::g::h::i::j::k::uQ d::S) G=(r (a::b::c::e::f::g::h::i::j::k::uQ d::S) G).bind λxs p=>.ok (d::xs) p:=id rfl
@[simp high]theorem rCV11:Aa (dV 11) r (a::b::c::e::f::g::h::i::j::k::l::uQ d::S) G=(r (a::b::c::e::f::g::h::i::j::k::l::uQ d::S) G).bind λxs p=>.ok (d::xs) p:=id rfl
@[simp high]theorem rCV12:Aa (dV 12) r (a::b::c::e::f::g::h::i::j::k::l::m::uQ d::S) G=(r (a::b::c::e::f::g::h::i::j::k::l::m::uQ d::S) G).bind λxs p=>.ok (d::xs) p:=id rfl
@[simp high]theorem rCV13:Aa (dV 13) r (a::b::c::e::f::g::h::i::j::k::l::m::n::uQ d::S) G=(r (a::b::c::e::f::g::h::i::j::k::l::m::n::uQ d::S) G).bind λxs p=>.ok (d::xs) p:=id rfl
@[simp high]theorem rCC:Aa (dC v) r S G=(r S G).bind λxs p=>.ok (v::xs) p:=id rfl
@[simp 10001]theorem rOtC:dOp o t (dC v) S G=(t S G).bind λx p=>o x v p:=id rfl
@[simp 10001]theorem rOCt:dOp o (dC v) t S G=(t S G).bind λy p=>o v y p:=id rfl
end
noncomputable def cellAt(ns:List Int)(k:Int):Int:=ns.getD k.toNat 0
theorem Jb{ns:List Int}{k:Int}(hk:0<=k):Dw [.fl (ns.map D.int),.int k] G=.ok (.int (cellAt ns k)) G:=by
 unfold Dw ZF1 cellAt;rw[Aw];by_cases h:k<ns.length
 .simp[h];rw[Dg (k:=k.toNat) (by lia) (by rw[zv,zJ (by lia)];rfl)];simp[Bw,zJ (show k.toNat<ns.length by lia)]
 simp[h,Bw,zA (show ns.length<=k.toNat by lia)]
theorem ZFn(h:bels (G.length+1) ds=uJ):freeze (G++[A]) (.ok (.ref (G.length+1)) (G++A:: .lst ds::L))=.ok (.fl ds) (G++[A]):=by have:=Bk (G:=G++[A]) (L:=L) (by simpa using h);simpa using this
theorem ZGv(h:bels (G.length+1) ds=uJ):tidy (G++[A]) (.ok (.ref (G.length+1)) (G++A:: .lst ds::L))=.ok (.ref (G.length+1)) (G++[A,.lst ds]):=by have:=Dp (G:=G++[A]) (L:=L) (by simpa using h);simpa using this
theorem ZM3{B:DO}(h:bels (G.length+2) ds=uJ):freeze (G++[A,B]) (.ok (.ref (G.length+2)) (G++A::B:: .lst ds::L))=.ok (.fl ds) (G++[A,B]):=by have:=Bk (G:=G++[A,B]) (L:=L) (by simpa using h);simpa using this
theorem ZLs{B:DO}(h:bels (G.length+2) ds=uJ):tidy (G++[A,B]) (.ok (.ref (G.length+2)) (G++A::B:: .lst ds::L))=.ok (.ref (G.length+2)) (G++[A,B,.lst ds]):=by have:=Dp (G:=G++[A,B]) (L:=L) (by simpa using h);simpa using this
theorem Qm{p:Type}{xs:List p}{a:Nat}(h:a<=xs.length):cutD xs uZ (uQ (a:Int))=xs.take a:=by
 have:=(Ja xs.length (a:Int)).1;have e:HT.sIx xs.length xs.length (uQ (a:Int))=a:=by lia
 unfold cutD;rw[e];simp[HT.sIx]
theorem Yv{p:Type}{xs:List p}{a:Nat}(h:a<=xs.length):cutD xs (uQ (a:Int)) uZ=xs.drop a:=by
 have:=(Ja xs.length (a:Int)).2;have e:HT.sIx xs.length 0 (uQ (a:Int))=a:=by lia
 unfold cutD;rw[e];simp[HT.sIx];exact xZ (by simp)
noncomputable def Ag:Nat->(Nat->Int)->Int
 |0,_=>0
 |n+1,f=>Ag n f+f n
theorem Ea:∀{n:Nat},(∀k,k<n->f k=g k)->Ag n f=Ag n g
 |0,_=>rfl
 |n+1,h=>by show Ag n f+f n=Ag n g+g n;rw[Ea λk hk=>h k (by lia),h n (by lia)]
theorem Ec:∀(n:Nat),Ag n (λk=>f k+g k)=Ag n f+Ag n g
 |0=>rfl
 |n+1=>by show Ag n (λk=>f k+g k)+(f n+g n)=_;rw[Ec n];show _=(Ag n f+f n)+(Ag n g+g n);lia
theorem Hm:∀(n:Nat),Ag n (λ_=>0)=0
 |0=>rfl
 |n+1=>by
  show Ag n (λ_=>0)+0=0;rw[Hm n]
  rfl
theorem Zy:∀(n:Nat),Ag n (λk=>c*f k)=c*Ag n f
 |0=>by show 0=c*0;rw[jK]
 |n+1=>by show Ag n (λk=>c*f k)+c*f n=c*(Ag n f+f n);rw[Zy n,jB]
theorem Er:∀{n:Nat},(∀k,k<n->f k<=g k)->Ag n f<=Ag n g
 |0,_=>q9 _
 |n+1,h=>by
  show Ag n f+f n<=Ag n g+g n;have p:=Er (n:=n) λk hk=>h k (by lia)
  have q:=h n (by lia);lia
theorem Gr{x:Nat->Int}:∀{n u:Nat},u<n->Ag n (λk=>if k=u then x k else 0)=x u
 |0,u,h=>by lia
 |n+1,u,h=>by
  show Ag n (λk=>if k=u then x k else 0)+(if n=u then x n else 0)=x u;by_cases e:n=u
  .subst e;rw[if_pos rfl,Ea λk hk=>if_neg (by lia),Hm];lia
  rw[if_neg e,Gr (by lia)];lia
theorem ZAs{x:Nat->Nat->Int}:∀(n:Nat),Ag n (λu=>Ag m λi=>x u i)=Ag m λi=>Ag n λu=>x u i
 |0=>by
  show 0=Ag m λi=>0
  rw[Hm]
 |n+1=>by
  show Ag n (λu=>Ag m λi=>x u i)+Ag m (λi=>x n i)=Ag m λi=>Ag n (λu=>x u i)+x n i
  rw[ZAs n,Ec]
structure Arc where
 fr:Nat
 to:Nat
 mo:Option Int
 ga:Int
variable{a:Nat->Arc}{as:List Arc}
def Cm(a:Nat->Arc)(m:Nat)(f:Nat->Int)(u:Nat):Int:=Ag m λi=>if(a i).fr=u then f i else 0
def inA(a:Nat->Arc)(m:Nat)(f:Nat->Int)(u:Nat):Int:=Ag m λi=>if(a i).to=u then f i else 0
structure Feas (n m:Nat) (a:Nat->Arc) (s f:Nat->Int):Prop where
 nn:∀i,i<m->0<=f i
 le:∀i b,i<m->(a i).mo=uQ b->f i<=b
 bal:∀u,u<n->Cm a m f u=s u+inA a m f u
structure Slack (m:Nat) (a:Nat->Arc) (f p:Nat->Int):Prop where
 more:∀i,i<m->(∀b,(a i).mo=uQ b->f i<b)->(a i).ga+p (a i).to<=p (a i).fr
 some_:∀i,i<m->0<f i->p (a i).fr<=(a i).ga+p (a i).to
def Fg(a:Nat->Arc)(m:Nat)(f:Nat->Int):Int:=Ag m λi=>f i*(a i).ga
theorem ZB7{q:Nat->Nat}(h:∀i,i<m->q i<n):Ag m (λi=>f i*p (q i))=Ag n λu=>p u*Ag m λi=>if q i=u then f i else 0:=by
 have e:(λu=>p u*Ag m λi=>if q i=u then f i else 0)=λu=>Ag m λi=>if q i=u then f i*p (q i)else 0:=by
  funext u;rw[<-Zy];refine Ea λi _=>?_
  by_cases e:q i=u
  .rw[if_pos e,if_pos e,e,Int.mul_comm]
  rw[if_neg e,if_neg e,jK]
 rw[e,ZAs];refine Ea λi w=>?_
 have s:(λu=>if q i=u then f i*p (q i)else 0)=λu=>if u=q i then f i*p (q i)else 0:=by
  funext u;by_cases e:q i=u
  .rw[if_pos e,if_pos e.symm]
  rw[if_neg e,if_neg λz=>e z.symm]
 rw[s];exact(Gr (x:=λ_=>f i*p (q i)) (h i w)).symm
theorem Xd(hp:p n=0)(x:∀i,i<m->(a i).fr<n/\(a i).to<=n)(F:Feas n m a s f):Ag m (λi=>f i*p (a i).fr)-Ag m (λi=>f i*p (a i).to)=Ag n λu=>p u*s u:=by
 have B:=ZB7 (q:=λi=>(a i).to) (f:=f) (p:=p) (n:=n+1) λi w=>by have:=(x i w).2;lia
 have A:Ag (n+1) (λu=>p u*Ag m λi=>if(a i).to=u then f i else 0)=Ag n (λu=>p u*inA a m f u):=by
  show Ag n _+p n*_=_;rw[hp,Int.zero_mul,xB]
  rfl
 have C:Ag n (λu=>p u*Cm a m f u)=Ag n (λu=>p u*s u)+Ag n (λu=>p u*inA a m f u):=by
  rw[<-Ec];refine Ea λu y=>?_
  rw[F.bal u y,jB]
 have z:Ag m (λi=>f i*p (a i).fr)=Ag n (λu=>p u*Cm a m f u):=(ZB7 (q:=λi=>(a i).fr) (f:=f) (p:=p) (n:=n) (m:=m) λi w=>(x i w).1);lia
theorem most(hp:p n=0)(K:∀i,i<m->(a i).fr<n/\(a i).to<=n)(F:Feas n m a s f)(S:Slack m a f p)(H:Feas n m a s g):Fg a m g<=Fg a m f:=by
 have e:∀x:Nat->Int,Feas n m a s x->Fg a m x=Ag m (λi=>x i*((a i).ga+p (a i).to-p (a i).fr))+Ag n λu=>p u*s u:=λx X=>by
  have B:=Xd hp K X;have E:Ag m (λi=>x i*((a i).ga+p (a i).to-p (a i).fr))+Ag m (λi=>x i*p (a i).fr)=Fg a m x+Ag m (λi=>x i*p (a i).to):=by
   rw[<-Ec];unfold Fg;rw[<-Ec];refine Ea λi _=>?_
   rw[Int.mul_sub,jB];lia
  lia
 rw [e g H,e f F];have:Ag m (λi=>g i*((a i).ga+p (a i).to-p (a i).fr))<=Ag m (λi=>f i*((a i).ga+p (a i).to-p (a i).fr)):=Er λi q=>by
  generalize L:(a i).ga+p (a i).to-p (a i).fr=r;rcases Int.lt_trichotomy r 0 with z|z|z
  .have J:f i=0:=by have B:=F.nn i q;have E:=S.some_ i q;lia
   rw[J,Int.zero_mul];have C:=H.nn i q;exact Int.mul_nonpos_of_nonneg_of_nonpos C (by lia)
  .rw[z,jK,jK];exact q9 _
  have y:∃b,(a i).mo=uQ b/\b<=f i:=by
   cases I:(a i).mo with
   |none=>
    have:=S.more i q λb y=>by rw[I]at y;cases y
    lia
   |some b=>
    refine⟨b,rfl,Int.not_lt.mp λA=>?_⟩;have:=S.more i q λM w=>by rw[I]at w;cases w;exact A
    lia
  obtain⟨b,B,E⟩:=y;have C:=H.le i b q B;exact qQ (by lia) (by lia)
 lia
theorem Slack.tight{q:Nat->Int}(S:Slack m a f p)(h:∀i,i<m->q i=f i∨p (a i).fr=(a i).ga+p (a i).to):Slack m a q p where
 more i hi hb:=by
  rcases h i hi with e|e
  .exact S.more i hi λb h=>by rw[<-e];exact hb b h
  lia
 some_ i hi hf:=by
  rcases h i hi with e|e
  .exact S.some_ i hi (by rw[<-e];exact hf)
  lia
inductive Way (m:Nat) (a:Nat->Arc) (f:Nat->Int):Nat->Nat->Int->Prop
 |here (u:Nat):Way m a f u u 0
 |on {i v:Nat} {w:Int}:i<m->(∀b,(a i).mo=uQ b->f i<b)->Way m a f (a i).to v w->Way m a f (a i).fr v ((a i).ga+w)
 |back {i v:Nat} {w:Int}:i<m->0<f i->Way m a f (a i).fr v w->Way m a f (a i).to v (w-(a i).ga)
def bump(f:Nat->Int)(i:Nat)(c:Int):Nat->Int:=λk=>if k=i then f k+c else f k
theorem ZEw{q:Nat->Nat}:∀{m:Nat},i<m->Ag m (λk=>if q k=w then bump f i c k else 0)=Ag m (λk=>if q k=w then f k else 0)+(if q i=w then c else 0):=λ{m}hi=>by
 have e:(λk=>if q k=w then bump f i c k else 0)=λk=>(if q k=w then f k else 0)+(if k=i then(λk=>if q k=w then c else 0) k else 0):=by
  funext k;unfold bump;by_cases p:k=i
  .subst p
   by_cases s:q k=w<;>simp[s]
  simp[p]
 rw[e,Ec,Gr hi]
inductive TW (m:Nat) (a:Nat->Arc) (f d:Nat->Int) (n:Nat):Nat->Nat->Prop
 |here:TW m a f d n 0 n
 |on {i k:Nat}:i<m->(∀b,(a i).mo=uQ b->f i<b)->d (a i).fr=(a i).ga+d (a i).to->TW m a f d n k (a i).to->TW m a f d n (k+1) (a i).fr
 |back {i k:Nat}:i<m->0<f i->d (a i).fr=(a i).ga+d (a i).to->TW m a f d n k (a i).fr->TW m a f d n (k+1) (a i).to
def ex(a:Nat->Arc)(m:Nat)(f:Nat->Int)(w:Nat):Int:=Cm a m f w-inA a m f w
theorem V5(p:i<m):ex a m (bump f i c) w=ex a m f w+(if(a i).fr=w then c else 0)-(if(a i).to=w then c else 0):=by unfold ex Cm inA;rw[ZEw p,ZEw p];lia
structure Pushed (m:Nat) (a:Nat->Arc) (f d:Nat->Int) (n k u:Nat) (g:Nat->Int):Prop where
 nn:∀i,i<m->0<=g i
 le:∀i b,i<m->(a i).mo=uQ b->g i<=b
 ch:∀i,i<m->g i=f i∨(d (a i).fr=(a i).ga+d (a i).to/\(∃j,j<=k/\TW m a f d n j (a i).fr)/\∃j,j<=k/\TW m a f d n j (a i).to)
 ex:∀w,ex a m g w=ex a m f w+(if u=w then 1 else 0)-(if n=w then 1 else 0)
theorem Zx{d:Nat->Int}(nn:∀i,i<m->0<=f i)(le:∀i b,i<m->(a i).mo=uQ b->f i<=b):∀(k u:Nat),TW m a f d n k u->(∀j,j<k->¬TW m a f d n j u)->∃g,Pushed m a f d n k u g
 |0,u,h,_=>by cases h;exact⟨f,nn,le,λi _=>.inl rfl,λw=>by lia⟩
 | k+1,u,h,hmin=>by
  cases h with
  | @on i _ hi hb ht hw=>
   have hm:∀j,j<k->¬TW m a f d n j (a i).to:=λj hj hj'=>hmin (j+1) (by lia) (.on hi hb ht hj')
   obtain⟨g,P⟩:=Zx nn le k (a i).to hw hm;have hgi:g i=f i:=by
    rcases P.ch i hi with e|⟨_,⟨j,hj,hj'⟩,_⟩
    .exact e
    exact absurd hj' (hmin j (by lia))
   refine⟨bump g i 1,λl hl=>?_,λl b hl hb'=>?_,λl hl=>?_,λw=>?_⟩
   .have:=P.nn l hl;unfold bump
    split <;> lia
   .have:=P.le l b hl hb';unfold bump;split
    .rename_i e;subst e;have:=hb b hb';lia
    exact this
   .by_cases e:l=i
    .subst e;exact .inr ⟨ht,⟨k+1,zx _,.on hi hb ht hw⟩,⟨k,by lia,hw⟩⟩
    rcases P.ch l hl with e2|⟨h1,⟨j1,h2,h3⟩,⟨j2,h4,h5⟩⟩
    .exact .inl (by unfold bump;rw[if_neg e];exact e2)
    exact .inr ⟨h1,⟨j1,by lia,h3⟩,⟨j2,by lia,h5⟩⟩
   rw[V5 hi,P.ex w];lia
  | @back i _ hi hf ht hw=>
   have hm:∀j,j<k->¬TW m a f d n j (a i).fr:=λj hj hj'=>hmin (j+1) (by lia) (.back hi hf ht hj')
   obtain⟨g,P⟩:=Zx nn le k (a i).fr hw hm;have hgi:g i=f i:=by
    rcases P.ch i hi with e|⟨_,_,⟨j,hj,hj'⟩⟩
    .exact e
    exact absurd hj' (hmin j (by lia))
   refine⟨bump g i (-1),λl hl=>?_,λl b hl hb'=>?_,λl hl=>?_,λw=>?_⟩
   .have:=P.nn l hl;unfold bump;split
    .rename_i e;subst e;lia
    exact this
   .have:=P.le l b hl hb';unfold bump
    split <;> lia
   .by_cases e:l=i
    .subst e;exact .inr ⟨ht,⟨k,by lia,hw⟩,⟨k+1,zx _,.back hi hf ht hw⟩⟩
    rcases P.ch l hl with e2|⟨h1,⟨j1,h2,h3⟩,⟨j2,h4,h5⟩⟩
    .exact .inl (by unfold bump;rw[if_neg e];exact e2)
    exact .inr ⟨h1,⟨j1,by lia,h3⟩,⟨j2,by lia,h5⟩⟩
   rw[V5 hi,P.ex w]
   by_cases e1:(a i).fr=w<;>by_cases e2:(a i).to=w<;>simp[e1,e2]<;>lia
theorem ZJb{d:Nat->Int}:∀(k:Nat),TW m a f d n k u->∃j,TW m a f d n j u/\∀l,l<j->¬TW m a f d n l u:=λk=>by
 induction k using Nat.strongRecOn with
 |_ k w=>
  intro h;by_cases s:∃l,l<k/\TW m a f d n l u
  .obtain⟨l,p,q⟩:=s;exact w l p q
  exact⟨k,h,λl p q=>s ⟨l,p,q⟩⟩
def more1(s:Nat->Int)(u:Nat):Nat->Int:=λw=>if w=u then s w+1 else s w
theorem ZJk{d:Nat->Int}(hp:d n=0)(E:∀i,i<m->(a i).fr<n/\(a i).to<=n)(B:u<n)(F:Feas n m a s f)(S:Slack m a f d)(W:TW m a f d n k u):
  ∃g,Feas n m a (more1 s u) g/\Slack m a g d/\Fg a m g=Fg a m f+d u:=by
 obtain⟨j,H,p⟩:=ZJb k W;obtain⟨g,P⟩:=Zx F.nn F.le j u H p;have G:Feas n m a (more1 s u) g:=⟨P.nn,P.le,λw hw=>by
  have q:=P.ex w;have A:=F.bal w hw;unfold ex at q;unfold more1;by_cases e:w=u
  .subst e;rw[if_pos rfl,if_neg (by lia)]at q;rw[if_pos rfl];lia
  rw[if_neg λz=>e z.symm,if_neg (by lia)]at q;rw[if_neg e];lia⟩
 have C:=S.tight λi y=>by
  rcases P.ch i y with e|⟨e,_⟩
  .exact .inl e
  exact .inr e
 refine⟨g,G,C,?_⟩;have e:∀(x t:Nat->Int),Feas n m a t x->Fg a m x=Ag m (λi=>x i*((a i).ga+d (a i).to-d (a i).fr))+Ag n λw=>d w*t w:=λx t X=>by
  have q:=Xd hp E X;have A:Ag m (λi=>x i*((a i).ga+d (a i).to-d (a i).fr))+Ag m (λi=>x i*d (a i).fr)=Fg a m x+Ag m (λi=>x i*d (a i).to):=by
   rw[<-Ec];unfold Fg;rw[<-Ec];refine Ea λi _=>?_
   rw[Int.mul_sub,jB];lia
  lia
 rw[e g _ G,e f _ F];have I:Ag m (λi=>g i*((a i).ga+d (a i).to-d (a i).fr))=Ag m (λi=>f i*((a i).ga+d (a i).to-d (a i).fr)):=Ea λi y=>by
  rcases P.ch i y with e|⟨e,_⟩
  .rw[e]
  rw[show(a i).ga+d (a i).to-d (a i).fr=0 by lia,jK,jK]
 have J:Ag n (λw=>d w*more1 s u w)=Ag n (λw=>d w*s w)+d u:=by
  have:(λw=>d w*more1 s u w)=λw=>d w*s w+(if w=u then d w else 0):=by
   funext w;unfold more1;by_cases e:w=u
   .rw[if_pos e,if_pos e,jB,Int.mul_one]
   rw[if_neg e,if_neg e,xB]
  rw[this,Ec,Gr B]
 lia
noncomputable def moD:Option Int->D
 |none=>.non
 |some b=>.int b
def encA(x:Arc):D:=.tup [.int x.fr,.int x.to,moD x.mo,.int x.ga]
@[simp]theorem ZHB{o:Option Int}:bel n (moD o)=uJ:=by cases o<;>rfl
@[simp]theorem ZLk{x:Arc}:bel n (encA x)=uJ:=by simp[encA]
theorem Dc:bels m (xs.map D.int)=uJ:=Fj λ_ _=>rfl
structure ArcOk (n:Nat) (x:Arc):Prop where
 lt:x.fr<n
 up:x.fr<x.to
 le:x.to<=n
 mo:∀b,x.mo=uQ b->0<=b
 ga: -1000<=x.ga/\x.ga<=1000
theorem divS{i k:Int}(h:0<k)(p:k<1000000):Fl (.int i) (.int k) G=.ok (.int (i/k)) G:=by obtain⟨n,rfl⟩:=Int.eq_ofNat_of_zero_le (xA h);exact ZOI (by lia) (log2_small (Nat.lt_trans (show n<1000000 by lia) (by decide)))
structure NetOk (n:Nat) (as:List Arc) (s:List Int):Prop where
 n1:1<=n
 n2:n<=30
 len:as.length<=80
 arc:∀x∈as,ArcOk n x
 way:∀k,k<n->∃x∈as,x.fr=k/\x.mo=uZ
 sl:s.length=n
 sn:∀x∈s,0<=x
 sb:∀x∈s,x<10^40
noncomputable def Aq(as:List Arc):Nat->Arc:=λi=>as.getD i ⟨0,0,uZ,0⟩
noncomputable def Ab(xs:List Int):Nat->Int:=λi=>xs.getD i 0
structure BestOk (n:Nat) (as:List Arc) (s:List Int) (e:Int) (f p:List Int):Prop where
 lf:f.length=as.length
 lp:p.length=n
 fe:Feas n as.length (Aq as) (Ab s) (Ab f)
 sl:Slack as.length (Aq as) (Ab f) (Ab p)
 ea:e=Fg (Aq as) as.length (Ab f)
 tw:∀u,u<n->∃k,TW as.length (Aq as) (Ab f) (Ab p) n k u
 pb:∀v∈p,-1000000000<=v/\v<=1000000000
theorem ZFH{i:Int}(G:DH):Lj [.int i] G=.ok (.bl uJ) G:=by unfold Lj ZCf;rw[Aw];simp[Bw,tyD]
theorem Ms(h:i<as.length):Aq as i=as[i]:=by
 unfold Aq;rw[zW,zJ h]
 rfl
theorem Hl(h:i<xs.length):Ab xs i=xs[i]:=by
 unfold Ab;rw[zW,zJ h]
 rfl
theorem Lw(h:i<xs.length):atI (xs.map D.int) (i:Int)=zI (Ab xs i):=Dg (k:=i) (by lia) (by rw[zv,zJ h,Hl h];rfl)
theorem ArcOk.of(h:∀x∈as,ArcOk n x)(p:i<as.length):ArcOk n (Aq as i):=by rw[Ms p];exact h _ (qV p)
noncomputable def gP(P:List (Option Int))(u:Nat):Option Int:=P.getD u uZ
def dP(P:List (Option Int))(u:Nat):Int:=(gP P u).getD 0
theorem Mp{x:Option Int}(a:u<P.length):gP (P.set u x) w=if w=u then x else gP P w:=by
 unfold gP;simp[zW];by_cases e:w=u
 .subst e;rw[qw a,if_pos rfl]
  rfl
 rw[z8 λz=>e z.symm,if_neg e]
structure Lks where
 n:Nat
 q:Nat
 fr:Nat->Nat
 to:Nat->Nat
 wo:Nat->Int
structure Lks.Ok (N:Lks):Prop where
 fr:∀l,l<N.q->N.fr l<=N.n
 to:∀l,l<N.q->N.to l<=N.n
 ne:∀l,l<N.q->N.fr l≠N.to l
 wb:∀l,l<N.q-> -40000<=N.wo l
 wu:∀l,l<N.q->N.wo l<=40000
def Lks.Way(N:Lks)(rm:Nat->Int):Prop:=∀u,u<N.n->∃l,l<N.q/\N.fr l=u/\u<N.to l/\0<rm l
def Lks.Pot(N:Lks)(rm W:Nat->Int):Prop:=∀l,l<N.q->0<rm l->W (N.to l)+N.wo l+(if N.fr l=N.n then 2 else 0)<=W (N.fr l)
structure Lks.Fix (N:Lks) (rm W:Nat->Int):Prop where
 z:W N.n=0
 fix:∀l,l<N.q->0<rm l->N.fr l<N.n->W (N.to l)+N.wo l<=W (N.fr l)
 att:∀u,u<N.n->∃l,l<N.q/\N.fr l=u/\0<rm l/\W u=W (N.to l)+N.wo l
 lo:∀u,u<N.n-> -(40000*(N.n:Int))<=W u
def pick(x:Option Int)(w:Int):Option Int:=match x with
 |none=>uQ w
 |some z=>if z<w then uQ w else uQ z
def Lks.rl(N:Lks)(rm:Nat->Int)(P:List (Option Int))(x:Option Int)(l:Nat):Option Int:=
 if 0<rm l then(match gP P (N.to l)with
  |none=>x
  |some y=>pick x (y+N.wo l))else x
def Lks.bw(N:Lks)(rm:Nat->Int)(P:List (Option Int))(ls:List Nat)(x:Option Int):Option Int:=ls.foldl (N.rl rm P) x
section
variable{N:Lks}{rm π:Nat->Int}{P:List (Option Int)}
theorem ZHc{x:Option Int}{z:Int}(h:x=uQ z):∃y,N.rl rm P x l=uQ y/\z<=y:=by
 subst h;unfold Lks.rl;split
 .split
  .exact⟨z,rfl,q9 _⟩
  unfold pick;dsimp only;split
  .exact⟨_,rfl,by lia⟩
  exact⟨_,rfl,q9 _⟩
 exact⟨z,rfl,q9 _⟩
theorem ZM5{x:Option Int}(h:0<rm l)(a:gP P (N.to l)=uQ y):∃z,N.rl rm P x l=uQ z/\y+N.wo l<=z:=by
 unfold Lks.rl;rw[if_pos h,a];unfold pick;cases x with
 |none=>exact⟨_,rfl,q9 _⟩
 |some z=>
  dsimp only;split
  .exact⟨_,rfl,q9 _⟩
  exact⟨_,rfl,by lia⟩
theorem ZNX{x:Option Int}:N.rl rm P x l=x∨∃y,0<rm l/\gP P (N.to l)=uQ y/\N.rl rm P x l=uQ (y+N.wo l):=by
 unfold Lks.rl;split
 .rename_i h;split
  .exact .inl rfl
  rename_i y a;unfold pick;cases x with
  |none=>exact .inr ⟨y,h,a,rfl⟩
  |some z=>
   dsimp only;split
   .exact .inr ⟨y,h,a,rfl⟩
   exact .inl rfl
 exact .inl rfl
theorem Mj:∀(a:List Nat){x:Option Int}{z:Int},x=uQ z->∃y,N.bw rm P a x=uQ y/\z<=y
 |[],x,z,h=>⟨z,h,q9 _⟩
 |l::a,x,z,h=>by obtain⟨y,c,d⟩:=ZHc h;obtain⟨w,b,e⟩:=Mj a c;exact⟨w,b,by lia⟩
theorem Ym:∀(a:List Nat){x:Option Int}{l:Nat}{y:Int},l∈a->0<rm l->gP P (N.to l)=uQ y->∃z,N.bw rm P a x=uQ z/\y+N.wo l<=z
 |k::a,x,l,y,b,h,c=>by
  rcases z0.mp b with rfl|b
  .obtain⟨z,e,f⟩:=ZM5 h c;obtain⟨w,d,g⟩:=Mj a e;exact⟨w,d,by lia⟩
  exact Ym a b h c
theorem Vu:∀(a:List Nat)(x:Option Int),N.bw rm P a x=x∨∃l y,l∈a/\0<rm l/\gP P (N.to l)=uQ y/\N.bw rm P a x=uQ (y+N.wo l)
 |[],x=>.inl rfl
 | k::a,x=>by
  have e:N.bw rm P (k::a) x=N.bw rm P a (N.rl rm P x k):=rfl;rw[e];rcases Vu a (N.rl rm P x k)with h|⟨l,y,g,c,b,d⟩
  .rcases ZNX with f|⟨y,c,b,d⟩
   .exact .inl (h.trans f)
   exact .inr ⟨k,y,by simp,c,b,h.trans d⟩
  exact .inr ⟨l,y,by simp[g],c,b,d⟩
structure WV (N:Lks) (rm π:Nat->Int) (P:List (Option Int)):Prop where
 len:P.length=N.n+1
 z:gP P N.n=uQ 0
 up:∀u x,gP P u=uQ x->u<=N.n->x<=π u
 att:∀u x,u<N.n->gP P u=uQ x->∃l y,l<N.q/\N.fr l=u/\0<rm l/\gP P (N.to l)=uQ y/\x<=y+N.wo l
def LkOf(N:Lks)(lk:Nat->List Nat):Prop:=∀u l,l∈lk u↔l<N.q/\N.fr l=u
def lowP(N:Lks)(P:List (Option Int))(u:Nat):Prop:=∃x,gP P u=uQ x/\ -(40000*((N.n:Int)-u))<=x
theorem ZIz(ok:N.Ok)(t:LkOf N lk)(r:N.Pot rm π)(K:WV N rm π P)(C:u<N.n):WV N rm π (P.set u (N.bw rm P (lk u) (gP P u))):=by
 have k:=K.len;have g:∀w,gP (P.set u (N.bw rm P (lk u) (gP P u))) w=if w=u then N.bw rm P (lk u) (gP P u)else gP P w:=λw=>Mp (by lia)
 have j:∀w x,gP P w=uQ x->∃y,gP (P.set u (N.bw rm P (lk u) (gP P u))) w=uQ y/\x<=y:=λw x h=>by
  rw[g];split
  .rename_i e;subst e;exact Mj (lk w) h
  exact⟨x,h,q9 _⟩
 refine⟨by rw[qH];exact k,by rw[g,if_neg (by lia)];exact K.z,λw x h hw=>?_,λw x hw h=>?_⟩
 .rw[g]at h;split at h
  .rename_i e;subst e;rcases Vu (lk w) (gP P w)with o|⟨l,y,i,b,a,c⟩
   .exact K.up w x (o.symm.trans h) hw
   rw[c]at h;cases h;obtain⟨m,s⟩:=(t w l).mp i;have A:=K.up _ _ a (ok.to l m);have d:=r l m b;rw[s,if_neg (by lia)]at d;lia
  exact K.up w x h hw
 have f:∀x,gP P w=uQ x->∃l y,l<N.q/\N.fr l=w/\0<rm l/\gP (P.set u (N.bw rm P (lk u) (gP P u))) (N.to l)=uQ y/\x<=y+N.wo l:=λx h=>by obtain⟨l,y,i,b,a,c,A⟩:=K.att w x hw h;obtain⟨p,d,v⟩:=j _ _ c;exact⟨l,p,i,b,a,d,by lia⟩
 rw[g]at h;split at h
 .rename_i e;subst e;rcases Vu (lk w) (gP P w)with o|⟨l,y,i,b,a,c⟩
  .exact f x (o.symm.trans h)
  .rw[c]at h;cases h;obtain⟨m,s⟩:=(t w l).mp i;obtain⟨p,d,v⟩:=j _ _ a;exact⟨l,p,m,s,b,d,by lia⟩
 exact f x h
theorem ZHN(K:WV N rm π P)(b:u<N.n)(h:gP P w=uQ x):∃y,gP (P.set u (N.bw rm P (lk u) (gP P u))) w=uQ y/\x<=y:=by
 have a:=K.len;rw[Mp (by lia)];split
 .rename_i e;subst e;exact Mj (lk w) h
 exact⟨x,h,q9 _⟩
theorem ZP8(ok:N.Ok)(k:LkOf N lk)(way:N.Way rm)(K:WV N rm π P)(b:u<N.n)(h:∀v,u<v->v<=N.n->lowP N P v):∀v,u<=v->v<=N.n->lowP N (P.set u (N.bw rm P (lk u) (gP P u))) v:=λv p i=>by
 by_cases e:v=u
 .subst e;obtain⟨l,a,g,f,c⟩:=way v b;obtain⟨y,j,o⟩:=h (N.to l) (by lia) (ok.to l a);obtain⟨z,m,q⟩:=Ym (lk v) ((k v l).mpr ⟨a,g⟩) c j;have d:=K.len;refine⟨z,by rw[Mp (by lia),if_pos rfl];exact m,?_⟩;have:=ok.wb l a;lia
 obtain⟨x,a,g⟩:=h v (by lia) i;obtain⟨y,f,c⟩:=ZHN K b a;exact⟨y,f,by lia⟩
def Lks.dn(N:Lks)(rm:Nat->Int)(lk:Nat->List Nat):Nat->List (Option Int)->List (Option Int)
 |0,P=>P
 |k+1,P=>N.dn rm lk k (P.set k (N.bw rm P (lk k) (gP P k)))
def Lks.still(N:Lks)(rm:Nat->Int)(lk:Nat->List Nat):Nat->List (Option Int)->Bool
 |0,_=>uJ
 |k+1,P=>decide (N.bw rm P (lk k) (gP P k)=gP P k)&&N.still rm lk k (P.set k (N.bw rm P (lk k) (gP P k)))
def msP(N:Lks)(π:Nat->Int)(P:List (Option Int))(u:Nat):Int:=match gP P u with
 |none=>π u+40000*(N.n:Int)+1
 |some x=>π u-x
theorem set_same{x:Option Int}(h:x=gP P k)(hk:k<P.length):P.set k x=P:=by
 refine jM λi=>?_
 by_cases e:k=i
 .subst e;rw[qw hk,h];unfold gP;rw[zW,zJ hk]
  rfl
 rw[z8 e]
theorem ZCW(ok:N.Ok)(i:LkOf N lk)(way:N.Way rm)(f:N.Pot rm π):∀(k:Nat){P:List (Option Int)},WV N rm π P->k<=N.n->(∀v,k<=v->v<=N.n->lowP N P v)->
  WV N rm π (N.dn rm lk k P)/\(∀v,v<=N.n->lowP N (N.dn rm lk k P) v)/\(N.still rm lk k P=uJ->N.dn rm lk k P=P/\∀u,u<k->N.bw rm P (lk u) (gP P u)=gP P u)/\
  Ag N.n (msP N π (N.dn rm lk k P))+(if N.still rm lk k P=uJ then 0 else 1)<=Ag N.n (msP N π P)
 |0,P,K,_,h=>⟨K,λv m=>h v (j7 _) m,λ_=>⟨rfl,λu p=>absurd p (Nat.not_lt_zero _)⟩,by show _+(if uJ=uJ then(0:Int)else 1)<=_;rw[if_pos rfl];exact Int.le_of_eq (xB _)⟩
 | k + 1,P,K,hk,h=>by
  have r:=K.len;have q:=ZP8 ok i way K (u:=k) (by lia) λv c g=>h v (by lia) g
  obtain⟨A,w,C,l⟩:=ZCW ok i way f k (ZIz ok i f K (u:=k) (by lia)) (by lia) q;refine⟨A,w,λhs=>?_,?_⟩
  .have a:(decide (N.bw rm P (lk k) (gP P k)=gP P k)&&N.still rm lk k (P.set k (N.bw rm P (lk k) (gP P k))))=uJ:=hs;rw[zL,decide_eq_true_eq]at a;have e:=set_same a.1 (by lia);obtain⟨c,g⟩:=C a.2;rw[e]at c g;refine⟨by show N.dn rm lk k _=P;rw[e];exact c,λu p=>?_⟩;by_cases d:u=k
   .rw[d];exact a.1
   exact g u (by lia)
  by_cases e:N.bw rm P (lk k) (gP P k)=gP P k
  .have o:=set_same e (by lia);have d:N.still rm lk (k+1) P=N.still rm lk k P:=by
    show(decide (N.bw rm P (lk k) (gP P k)=gP P k)&&N.still rm lk k (P.set k (N.bw rm P (lk k) (gP P k))))=_;rw[o,decide_eq_true e]
    rfl
   rw[d];show Ag N.n (msP N π (N.dn rm lk k (P.set k (N.bw rm P (lk k) (gP P k)))))+_<=_;rw[o]at l⊢;exact l
  .have d:N.still rm lk (k+1) P=uX:=by
    show(decide (N.bw rm P (lk k) (gP P k)=gP P k)&&_)=_;rw[decide_eq_false e]
    rfl
   rw [d];show Ag N.n (msP N π (N.dn rm lk k (P.set k (N.bw rm P (lk k) (gP P k)))))+(if uX=uJ then(0:Int)else 1)<=_;rw[if_neg (by decide)];have j:∀v,v<N.n->msP N π (P.set k (N.bw rm P (lk k) (gP P k))) v+(if v=k then 1 else 0)<=msP N π P v:=λv m=>by
    by_cases ev:v=k
    .rw[if_pos ev];subst ev;obtain⟨z,c,g⟩:=q v (zx _) (by lia);have b:=c;rw[Mp (by lia),if_pos rfl]at b;unfold msP;rw[c];cases hp:gP P v with
     |none=>dsimp only;lia
     |some x=>
      obtain⟨y,s,H⟩:=Mj (lk v) hp;rw[b]at s;cases s;have F:z≠x:=λE=>e (by rw[b,hp,E])
      dsimp only;lia
    .rw[if_neg ev];unfold msP;rw[Mp (by lia),if_neg ev];lia
   have t:=Er j;rw[Ec,Gr (show k<N.n by lia)]at t
   have:0<=(if N.still rm lk k (P.set k (N.bw rm P (lk k) (gP P k)))=uJ then(0:Int)else 1):=by split <;> decide
   lia
theorem ZHl(K:WV N rm π P)(a:∀u,u<N.n-> -(40000*(N.n:Int))<=π u):0<=Ag N.n (msP N π P):=by
 have h:∀u,u<N.n->0<=msP N π P u:=λu b=>by
  unfold msP;cases e:gP P u with
  |none=>have:=a u b;dsimp only;lia
  |some x=>have:=K.up u x e (by lia);dsimp only;lia
 have:=Er h;rw[Hm]at this;exact this
theorem ZOc(ok:N.Ok)(j:LkOf N lk)(K:WV N rm π P)(i:∀v,v<=N.n->lowP N P v)(st:∀u,u<N.n->N.bw rm P (lk u) (gP P u)=gP P u):N.Fix rm (dP P)/\∀u,u<=N.n->dP P u<=π u:=by
 have val:∀u,u<=N.n->gP P u=uQ (dP P u):=λu b=>by
  obtain⟨x,h,_⟩:=i u b;unfold dP;rw[h]
  rfl
 have d:∀l,l<N.q->0<rm l->N.fr l<N.n->dP P (N.to l)+N.wo l<=dP P (N.fr l):=λl a c e=>by obtain⟨z,g,m⟩:=Ym (lk (N.fr l)) ((j _ l).mpr ⟨a,rfl⟩) c (val _ (ok.to l a));rw[st _ e,val _ (by lia)]at g;have:=Option.some.inj g;lia
 refine⟨⟨by unfold dP;rw[K.z];rfl,d,λu b=>?_,λu b=>?_⟩,λu b=>K.up u _ (val u b) b⟩
 .obtain⟨l,y,a,c,e,f,k⟩:=K.att u _ b (val u (by lia));rw[val _ (ok.to l a)]at f;cases f;have:=d l a e (by lia);rw[c]at this;exact⟨l,a,c,e,by lia⟩
 obtain⟨x,a,c⟩:=i u (by lia);rw[val u (by lia)]at a;cases a;lia
end
theorem pigeon:∀(n:Nat)(l:List Nat),l.Nodup->(∀x∈l,x<n)->l.length<=n
 |0,l,_,h=>by
  cases l with
  |nil=>exact zx _
  |cons x l=>exact absurd (h x (by simp)) (by lia)
 |n+1,l,a,h=>by
  have b:=pigeon n (l.erase n) (a.erase n) λx e=>by have d:=(a.mem_erase_iff).mp e;have f:=h x d.2;lia
  by_cases c:n∈l
  .rw[List.length_erase_of_mem c]at b;lia
  rw[List.erase_of_not_mem c]at b;lia
def Lks.Sc(N:Lks)(ga:Nat->Int):Prop:=∀l,l<N.q->N.wo l=ga l*((N.n:Int)+1)-1
noncomputable def lnk(N:Lks)(W:Nat->Int)(u:Nat):Int:= -W u%((N.n:Int)+1)
noncomputable def gn(N:Lks)(W:Nat->Int)(u:Nat):Int:= -(-W u/((N.n:Int)+1))
section
variable{N:Lks}{rm W ga:Nat->Int}
theorem Jz(u:Nat):0<=lnk N W u/\lnk N W u<=N.n:=by have a:=jF (-W u) (show((N.n:Int)+1)≠0 by lia);have b:=jx (-W u) (show 0<((N.n:Int)+1) by lia);unfold lnk;lia
theorem Rc(u:Nat):W u=gn N W u*((N.n:Int)+1)-lnk N W u:=by have h:=Int.emod_add_mul_ediv (-W u) ((N.n:Int)+1);unfold gn lnk;rw[Int.neg_mul,Int.mul_comm];lia
theorem ZDV(sc:N.Sc ga)(a:l<N.q)(h:W (N.fr l)=W (N.to l)+N.wo l):lnk N W (N.fr l)=(lnk N W (N.to l)+1)%((N.n:Int)+1):=by
 unfold lnk;rw[Int.add_emod,Int.emod_emod,<-Int.add_emod,h,sc l a];have e: -(W (N.to l)+(ga l*((N.n:Int)+1)-1))= -W (N.to l)+1+((N.n:Int)+1)*(-ga l):=by rw[Int.mul_neg,Int.mul_comm];lia
 rw[e,Int.add_mul_emod_self_left]
theorem Uk(ok:N.Ok)(sc:N.Sc ga)(F:N.Fix rm W)(q:u<N.n):1<=lnk N W u:=by
 refine Int.not_lt.mp λC=>?_
 have p:lnk N W u=0:=by have:=(Jz (N:=N) (W:=W) u).1;lia
 have r:∀t:Nat,t<=N.n->∃v,v<N.n/\lnk N W v=if t=0 then 0 else(N.n:Int)+1-t:=λt=>by
  induction t with
  |zero=>exact λ_=>⟨u,q,p⟩
  | succ t A=>
   intro I;obtain⟨v,s,e⟩:=A (by lia);obtain⟨l,d,g,J,E⟩:=F.att v s;have k:=ZDV sc d (g▸E);rw[g]at k;have K:=Jz (N:=N) (W:=W) (N.to l);have m:lnk N W (N.to l)=(N.n:Int)+1-(t+1:Nat):=by
    by_cases c:lnk N W (N.to l)=N.n
    .rw[c,Int.emod_self]at k;rw[k]at e;split at e
     .lia
     lia
    rw[Int.emod_eq_of_lt (by lia) (by lia)]at k;split at e
    .lia
    lia
   refine⟨N.to l,?_,by rw[if_neg (by lia)];exact m⟩;have H:=ok.to l d;by_cases c:N.to l=N.n
   .have:lnk N W (N.to l)=0:=by
     unfold lnk;rw[c,F.z]
     rfl
    lia
   lia
 have j:∀c:Nat,c<=N.n->∃v,v<N.n/\lnk N W v=c:=λc i=>by
  by_cases e:c=0
  .exact⟨u,q,e▸p⟩
  obtain⟨v,d,g⟩:=r (N.n+1-c) (by lia);refine⟨v,d,?_⟩;rw[if_neg (by lia)]at g;lia
 have y:∃f:Nat->Nat,∀c,c<=N.n->f c<N.n/\lnk N W (f c)=c:=⟨λc=>if h:c<=N.n then(j c h).choose else 0,λc i=>by dsimp only;rw[dif_pos i];exact(j c i).choose_spec⟩
 obtain⟨f,o⟩:=y;have:=pigeon N.n ((zX (N.n+1)).map f) (by
  rw[List.nodup_iff_pairwise_ne,List.pairwise_map];refine(List.pairwise_lt_range).imp_of_mem λ{a b}ha hb hab e=>?_
  have d:=(o a (by have:=zU.mp ha;lia)).2;have g:=(o b (by have:=zU.mp hb;lia)).2;rw[e]at d;lia) λx w=>by
  obtain⟨c,i,rfl⟩:=qY.mp w;exact(o c (by have:=zU.mp i;lia)).1
 rw[zj,jL]at this;lia
theorem ZJB{S:Int}(a:0<S)(h: -S<x*S):0<=x:=by
 refine Int.not_lt.mp λb=>?_
 have:=qQ (show x<= -1 by lia) (xA a);lia
theorem ZDc(ok:N.Ok)(sc:N.Sc ga)(F:N.Fix rm W)(a:N.Pot rm W)(b:l<N.q)(c:0<rm l):gn N W (N.to l)+ga l<=gn N W (N.fr l):=by
 have g:=Rc (N:=N) (W:=W) (N.fr l);have h:=Rc (N:=N) (W:=W) (N.to l);have e:=Jz (N:=N) (W:=W) (N.fr l);have d:=Jz (N:=N) (W:=W) (N.to l);have p:=a l b c;rw[sc l b]at p;have f:1<=lnk N W (N.fr l)+(if N.fr l=N.n then 2 else 0):=by
  split
  .lia
  have:=Uk ok sc F (u:=N.fr l) (by have:=ok.fr l b;lia);lia
 have:=ZJB (x:=gn N W (N.fr l)-gn N W (N.to l)-ga l) (S:=(N.n:Int)+1) (by lia) (by rw[xK,xK];lia)
 lia
theorem ZGj(ok:N.Ok)(sc:N.Sc ga)(F:N.Fix rm W)(a:l<N.q)(b:N.fr l<N.n)(h:W (N.fr l)=W (N.to l)+N.wo l):gn N W (N.fr l)=gn N W (N.to l)+ga l/\lnk N W (N.fr l)=lnk N W (N.to l)+1:=by
 have t:=ZDV sc a h;have p:=Uk ok sc F b;have f:=Jz (N:=N) (W:=W) (N.to l);have d:lnk N W (N.fr l)=lnk N W (N.to l)+1:=by
  by_cases c:lnk N W (N.to l)=N.n
  .rw[c,Int.emod_self]at t;lia
  rw[Int.emod_eq_of_lt (by lia) (by lia)]at t;exact t
 refine⟨?_,d⟩;have g:=Rc (N:=N) (W:=W) (N.fr l);have i:=Rc (N:=N) (W:=W) (N.to l);rw[sc l a]at h;have e:(gn N W (N.fr l)-gn N W (N.to l)-ga l)*((N.n:Int)+1)=0:=by rw[xK,xK];lia
 rcases Int.mul_eq_zero.mp e with z|z<;>lia
theorem fall{a:Nat->Int}(ok:N.Ok)(c:N.Pot a W)(F:N.Fix a f)(le:∀u,u<=N.n->f u<=W u)(i:u<N.n)(b:∀l,l<N.q->N.fr l=u->W u=W (N.to l)+N.wo l->a l=0):f u+1<=W u:=by
 obtain⟨l,d,g,h,k⟩:=F.att u i;have j:=c l d h;have m:=le (N.to l) (ok.to l d);rw[g,if_neg (by lia)]at j;by_cases e:W u=W (N.to l)+N.wo l
 .have:=b l d g e;lia
 lia
end
def mate(l:Nat):Nat:=if l%2=0 then l+1 else l-1
theorem ZKE(l:Nat):mate (mate l)=l:=by
 unfold mate;by_cases h:l%2=0
 .rw[if_pos h,if_neg (by lia)];lia
 rw[if_neg h,if_pos (by lia)];lia
theorem ZHv(l:Nat):mate l≠l:=by
 unfold mate
 split <;> lia
structure Lks.Mt (N:Lks):Prop where
 lt:∀l,l<N.q->mate l<N.q
 fr:∀l,l<N.q->N.fr (mate l)=N.to l
 to:∀l,l<N.q->N.to (mate l)=N.fr l
 wo:∀l,l<N.q->N.wo (mate l)= -2-N.wo l
theorem Lr(h:i<xs.length):Ab (xs.set i x) k=if k=i then x else Ab xs k:=by
 unfold Ab;simp[zW];by_cases e:k=i
 .subst e;rw[qw h,if_pos rfl]
  rfl
 rw[z8 λz=>e z.symm,if_neg e]
structure LR where
 L:List Int
 R:List Int
def LR.sa(N:Lks)(x:LR)(u l:Nat)(c:Int):LR:=
 ⟨(x.L.set u (Ab x.L u-c)).set (N.to l) (Ab (x.L.set u (Ab x.L u-c)) (N.to l)+c),(x.R.set l (Ab x.R l-c)).set (mate l) (Ab (x.R.set l (Ab x.R l-c)) (mate l)+c)⟩
structure LR.Ok (N:Lks) (x:LR):Prop where
 ll:x.L.length=N.n+1
 rl:x.R.length=N.q
 ln:∀u,u<=N.n->0<=Ab x.L u
 rn:∀l,l<N.q->0<=Ab x.R l
section
variable{N:Lks}{W:Nat->Int}{x:LR}
theorem Oh(ok:N.Ok)(K:x.Ok N)(d:l<N.q)(c:Int)(v:Nat):Ab (x.sa N (N.fr l) l c).L v=Ab x.L v-(if v=N.fr l then c else 0)+(if v=N.to l then c else 0):=by
 have h:=ok.fr l d;have g:=ok.to l d;have f:=K.ll;have e:=ok.ne l d;unfold LR.sa;dsimp only;rw[Lr (by rw[qH];lia),Lr (by lia)];by_cases a:v=N.to l
 .rw[if_pos a,if_neg (λz=>e z.symm),if_neg (λz=>e (z.symm.trans a)),if_pos a,a];lia
 rw[if_neg a,Lr (by lia)];by_cases b:v=N.fr l
 .rw[if_pos b,if_pos b,if_neg a,b];lia
 .rw[if_neg b,if_neg b,if_neg a];lia
theorem S9(e:N.Mt)(K:x.Ok N)(f:l<N.q)(u:Nat)(c:Int)(k:Nat):Ab (x.sa N u l c).R k=Ab x.R k-(if k=l then c else 0)+(if k=mate l then c else 0):=by
 have h:=e.lt l f;have g:=K.rl;have d:=ZHv l;unfold LR.sa;dsimp only;rw[Lr (by rw[qH];lia),Lr (by lia)];by_cases a:k=mate l
 .rw[if_pos a,if_neg d,if_neg (λz=>d (a.symm.trans z)),if_pos a,a];lia
 rw[if_neg a,Lr (by lia)];by_cases b:k=l
 .rw[if_pos b,if_pos b,if_neg a,b];lia
 .rw[if_neg b,if_neg b,if_neg a];lia
theorem ZPc(ok:N.Ok)(d:N.Mt)(K:x.Ok N)(a:l<N.q)(h:0<=c)(g:c<=Ab x.L (N.fr l))(b:c<=Ab x.R l):(x.sa N (N.fr l) l c).Ok N:=by
 refine⟨by unfold LR.sa;simp[K.ll],by unfold LR.sa;simp[K.rl],λv f=>?_,λk hk=>?_⟩
 .have:=K.ln v f;rw[Oh ok K a];by_cases e:v=N.fr l
  .rw[<-e]at g;rw[if_pos e]
   split <;> lia
  rw[if_neg e]
  split <;> lia
 have:=K.rn k hk;rw[S9 d K a];by_cases e:k=l
 .rw[<-e]at b;rw[if_pos e]
  split <;> lia
 .rw[if_neg e]
  split <;> lia
def tight(N:Lks)(W:Nat->Int)(l:Nat):Prop:=W (N.fr l)=W (N.to l)+N.wo l
def Gain(N:Lks)(W:Nat->Int)(R0:Nat->Int)(x:LR):Prop:=∀l,l<N.q->0<Ab x.R l->0<R0 l∨tight N W (mate l)
theorem ZIJ{R0:Nat->Int}(d:N.Mt)(K:x.Ok N)(g:Gain N W R0 x)(b:l<N.q)(a:tight N W l)(u:Nat)(f:0<=c):Gain N W R0 (x.sa N u l c):=λk hk h=>by
 rw[S9 d K b]at h;by_cases e:k=mate l
 .refine .inr ?_;rw[e,ZKE];exact a
 rw[if_neg e]at h;refine g k hk ?_
 split at h<;>lia
theorem ZNL(ok:N.Ok)(c:N.Mt){R0:Nat->Int}(b:N.Pot R0 W)(g:Gain N W R0 x):N.Pot (Ab x.R) W:=λl a h=>by
 rcases g l a h with z|z
 .exact b l a z
 unfold tight at z;rw[c.fr l a,c.to l a,c.wo l a]at z
 split <;> lia
theorem ZCT(ok:N.Ok){rm π:Nat->Int}(b:N.Pot rm π)(F:N.Fix rm W)(hz:π N.n=0)(le:∀u,u<=N.n->W u<=π u):N.Pot rm W:=λl a h=>by
 by_cases e:N.fr l=N.n
 .have c:=b l a h;have f:=le _ (ok.to l a);have d:=F.z;rw[e,if_pos rfl]at c⊢;lia
 rw[if_neg e];have:=F.fix l a h (by have:=ok.fr l a;lia);lia
def LR.one(N:Lks)(W:Nat->Int)(x:LR)(u l:Nat):LR:=open Classical in if W u=W (N.to l)+N.wo l then x.sa N u l (min (Ab x.L u) (Ab x.R l))else x
def far(N:Lks)(W:Nat->Int)(x:LR):Int:=Ag N.n λu=>Ab x.L u*lnk N W u
structure Kp (N:Lks) (W R0:Nat->Int) (B:LR->Prop) (x:LR):Prop where
 ok:x.Ok N
 g:Gain N W R0 x
 b:B x
structure Snt (N:Lks) (W:Nat->Int) (A:Nat->Prop) (x y:LR):Prop where
 le:far N W y<=far N W x
 same:far N W y=far N W x->(∀u,Ab y.L u=Ab x.L u)/\(∀l,Ab y.R l=Ab x.R l)/\∀l,A l->tight N W l->Ab x.L (N.fr l)=0∨Ab x.R l=0
theorem Snt.refl(x:LR):Snt N W (λ_=>False) x x:=⟨q9 _,λ_=>⟨λ_=>rfl,λ_=>rfl,λ_ h=>h.elim⟩⟩
theorem Snt.trans{A f:Nat->Prop}{x y z:LR}(h:Snt N W A x y)(k:Snt N W f y z):Snt N W (λl=>A l∨f l) x z:=by
 have o:=h.le;have n:=k.le;refine⟨by lia,λe=>?_⟩;obtain⟨c,d,m⟩:=h.same (by lia);obtain⟨g,j,i⟩:=k.same (by lia);refine⟨λu=>(g u).trans (c u),λl=>(j l).trans (d l),λl a b=>?_⟩;rcases a with a|a
 .exact m l a b
 have:=i l a b;rw[c,d]at this;exact this
theorem Snt.imp{A a:Nat->Prop}{x y:LR}(h:Snt N W A x y)(w:∀l,a l->A l):Snt N W a x y:=⟨h.le,λe=>let⟨p,q,r⟩:=h.same e;⟨p,q,λl b=>r l (w l b)⟩⟩
variable{rm ga R0:Nat->Int}{B:LR->Prop}
theorem ZCw(ok:N.Ok)(sc:N.Sc ga)(F:N.Fix rm W)(K:x.Ok N)(b:l<N.q)(f:N.fr l<N.n)(i:tight N W l)(c:Int):far N W (x.sa N (N.fr l) l c)=far N W x-c:=by
 have e:∀(w:Nat),w<=N.n->lnk N W N.n=0->Ag N.n (λu=>if u=w then c*lnk N W u else 0)=c*lnk N W w:=λw hw a=>by
  by_cases h:w<N.n
  .exact Gr h
  rw[show w=N.n by lia,a,jK,Ea λk hk=>if_neg (by lia),Hm]
 have a:lnk N W N.n=0:=by
  unfold lnk;rw[F.z]
  rfl
 have g:far N W (x.sa N (N.fr l) l c)+Ag N.n (λu=>if u=N.fr l then c*lnk N W u else 0)=far N W x+Ag N.n (λu=>if u=N.to l then c*lnk N W u else 0):=by
  unfold far;rw[<-Ec,<-Ec];refine Ea λu _=>?_
  rw[Oh ok K b,Int.add_mul,xK];by_cases d:u=N.fr l
  .rw[if_pos d,if_pos d]
   split <;> lia
  rw[if_neg d,if_neg d,Int.zero_mul]
  split <;> lia
 rw[e _ (ok.fr l b) a,e _ (ok.to l b) a,(ZGj ok sc F b f i).2,jB,Int.mul_one]at g;lia
theorem ZKb(ok:N.Ok)(d:N.Mt)(sc:N.Sc ga)(F:N.Fix rm W)(m:∀(y:LR)(l:Nat)(c:Int),y.Ok N->l<N.q->B y->B (y.sa N (N.fr l) l c))(K:Kp N W R0 B x)(a:l<N.q)(f:N.fr l<N.n):Kp N W R0 B (x.one N W (N.fr l) l)/\Snt N W (λk=>k=l) x (x.one N W (N.fr l) l):=by
 unfold LR.one;have p:=K.ok.ln _ (ok.fr l a);have o:=K.ok.rn l a;split
 .rename_i h;refine⟨⟨ZPc ok d K.ok a (by lia) (by lia) (by lia),ZIJ d K.ok K.g a h _ (by lia),m x l _ K.ok a K.b⟩,?_,λe=>?_⟩
  .rw[ZCw ok sc F K.ok a f h];lia
  rw[ZCw ok sc F K.ok a f h]at e;have i:min (Ab x.L (N.fr l)) (Ab x.R l)=0:=by lia
  refine⟨λu=>?_,λk=>?_,λk hk _=>?_⟩
  .rw[Oh ok K.ok a,i]
   split <;> split <;> lia
  .rw[S9 d K.ok a,i]
   split <;> split <;> lia
  .subst hk;lia
 rename_i h;exact⟨K,q9 _,λ_=>⟨λ_=>rfl,λ_=>rfl,λk hk j=>by subst hk;exact absurd j h⟩⟩
end
def gaN(as:List Arc)(l:Nat):Int:=if l%2=0 then(Aq as (l/2)).ga else -(Aq as (l/2)).ga
def lkN(n:Nat)(as:List Arc):Lks where
 n:=n
 q:=2*as.length
 fr l:=if l%2=0 then(Aq as (l/2)).fr else(Aq as (l/2)).to
 to l:=if l%2=0 then(Aq as (l/2)).to else(Aq as (l/2)).fr
 wo l:=gaN as l*((n:Int)+1)-1
theorem Nk(h:l%2=0):(lkN n as).fr l=(Aq as (l/2)).fr/\(lkN n as).to l=(Aq as (l/2)).to/\gaN as l=(Aq as (l/2)).ga:=⟨if_pos h,if_pos h,if_pos h⟩
theorem Q9(h:¬l%2=0):(lkN n as).fr l=(Aq as (l/2)).to/\(lkN n as).to l=(Aq as (l/2)).fr/\gaN as l= -(Aq as (l/2)).ga:=⟨if_neg h,if_neg h,if_neg h⟩
theorem Oj:(lkN n as).Sc (gaN as):=λ_ _=>rfl
theorem Jx(h:∀x∈as,ArcOk n x)(d:n<=30):(lkN n as).Ok:=by
 have k:∀l,l<2*as.length->ArcOk n (Aq as (l/2)):=λl a=>ArcOk.of h (by lia)
 have w:∀l,l<2*as.length-> -40000<=gaN as l*((n:Int)+1)-1/\gaN as l*((n:Int)+1)-1<=40000:=λl a=>by
  have i:=(k l a).ga
  have b: -1000<=gaN as l/\gaN as l<=1000:=by unfold gaN;split <;> lia
  have c:=qQ b.1 (show 0<=(n:Int)+1 by lia);have f:=qQ b.2 (show 0<=(n:Int)+1 by lia);lia
 refine⟨λl a=>?_,λl a=>?_,λl a=>?_,λl a=>(w l a).1,λl a=>(w l a).2⟩ <;>
 .have g:=(k l a).lt;have e:=(k l a).up;have j:=(k l a).le;simp[lkN]
  split <;> lia
theorem Uq:(lkN n as).Mt:=by
 have e:∀l,(l%2=0->mate l%2≠0/\mate l/2=l/2)/\(l%2≠0->mate l%2=0/\mate l/2=l/2):=λl=>by
  unfold mate;refine⟨λh=>?_,λh=>?_⟩
  .rw[if_pos h];lia
  rw[if_neg h];lia
 refine⟨λl a=>?_,λl a=>?_,λl a=>?_,λl a=>?_⟩
 .have b:l<2*as.length:=a;show mate l<2*as.length;unfold mate
  split <;> lia
 all_goals
  simp[lkN,gaN];by_cases h:l%2=0
  .have:=(e l).1 h;rw[if_pos h,if_neg this.1,this.2]
   try (rw[Int.neg_mul];lia)
  have:=(e l).2 h;rw[if_neg h,if_pos this.1,this.2]
  try (rw[Int.neg_mul];lia)
def flo(x:LR)(i:Nat):Int:=Ab x.R (2*i+1)
noncomputable def Hc(wide:Int)(a:Arc):Int:=match a.mo with
 |none=>wide
 |some b=>b
structure Bal (n:Nat) (as:List Arc) (s:Nat->Int) (wide:Int) (x:LR):Prop where
 cap:∀i,i<as.length->Ab x.R (2*i)+Ab x.R (2*i+1)=Hc wide (Aq as i)
 bal:∀v,v<n->Ab x.L v=s v-ex (Aq as) as.length (flo x) v
theorem ZNj(ok:(lkN n as).Ok){y:LR}(K:y.Ok (lkN n as))(f:l<(lkN n as).q)(h:Bal n as s wide y):Bal n as s wide (y.sa (lkN n as) ((lkN n as).fr l) l c):=by
 have o:l<2*as.length:=f;have e:=λk=>S9 Uq K f ((lkN n as).fr l) c k
 have p:flo (y.sa (lkN n as) ((lkN n as).fr l) l c)=bump (flo y) (l/2) (if l%2=0 then c else -c):=by
  funext i;show Ab _ (2*i+1)=if i=l/2 then Ab y.R (2*i+1)+_ else Ab y.R (2*i+1)
  rw[e];unfold mate;by_cases a:l%2=0
  .rw[if_pos a,if_pos a,if_neg (by lia)];by_cases b:i=l/2
   .rw[if_pos (by lia),if_pos b];lia
   rw[if_neg (by lia),if_neg b];lia
  rw[if_neg a,if_neg a];by_cases b:i=l/2
  .rw[if_pos (by lia),if_neg (by lia),if_pos b];lia
  rw[if_neg (by lia),if_neg (by lia),if_neg b];lia
 refine⟨λi t=>?_,λv r=>?_⟩
 .have:=h.cap i t;rw[e,e];unfold mate;by_cases a:l%2=0
  .rw[if_pos a];by_cases b:2*i=l
   .rw[if_pos b,if_neg (by lia),if_neg (by lia),if_pos (by lia)];lia
   rw[if_neg b,if_neg (by lia),if_neg (by lia),if_neg (by lia)];lia
  rw[if_neg a];by_cases b:2*i+1=l
  .rw[if_neg (by lia),if_pos (by lia),if_pos b,if_neg (by lia)];lia
  rw[if_neg (by lia),if_neg (by lia),if_neg b,if_neg (by lia)];lia
 rw[p,V5 (show l/2<as.length by lia),Oh ok K f,h.bal v r];by_cases a:l%2=0
 .obtain⟨j,d,_⟩:=Nk a;rw[j,d,if_pos a]
  by_cases g:(Aq as (l/2)).fr=v<;>by_cases m:(Aq as (l/2)).to=v<;>simp[g,m,eq_comm]<;>lia
 .obtain⟨j,d,_⟩:=Q9 a;rw[j,d,if_neg a]
  by_cases g:(Aq as (l/2)).fr=v<;>by_cases m:(Aq as (l/2)).to=v<;>simp[g,m,eq_comm]<;>lia
theorem ZAJ{k:Nat}:∀{n:Nat},k<=n->(∀v,v<n->0<=s v)->Ag k s<=Ag n s
 |0,hk,_=>by rw[show k=0 by lia];exact q9 _
 |n+1,hk,h=>by
  by_cases e:k=n+1
  .rw[e];exact q9 _
  have a:=ZAJ (n:=n) (k:=k) (by lia) λv c=>h v (by lia)
  have b:=h n (by lia);show _<=Ag n s+s n;lia
theorem ZEh(x:Int)(w:Nat):∀k:Nat,Ag k (λv=>if w=v then x else 0)=if w<k then x else 0
 |0=>by rw[if_neg (by lia)];rfl
 |k+1=>by
  show Ag k _+(if w=k then x else 0)=_;rw[ZEh x w k];by_cases e:w=k
  .rw[if_neg (by lia),if_pos e,if_pos (by lia)];lia
  rw[if_neg e];by_cases a:w<k
  .rw[if_pos a,if_pos (by lia)];lia
  rw[if_neg a,if_neg (by lia)];lia
theorem ZNP(d:∀i,i<m->(a i).fr<(a i).to/\(a i).fr<n)(p:∀i,i<m->0<=f i)(o:∀v,v<n->0<=s v)(h:∀v,v<n->ex a m f v<=s v)(l:i<m):f i<=Ag n s:=by
 have hk:=(d i l).2;have c:∀(q:Nat->Nat)(k:Nat),Ag k (λv=>Ag m λj=>if q j=v then f j else 0)=Ag m λj=>if q j<k then f j else 0:=λq k=>by rw[ZAs];exact Ea λj _=>ZEh (f j) (q j) k
 have b:Ag ((a i).fr+1) (λv=>ex a m f v)+Ag m (λj=>if(a j).to<(a i).fr+1 then f j else 0)=Ag m λj=>if(a j).fr<(a i).fr+1 then f j else 0:=by
  rw[<-c (λj=>(a j).to),<-c (λj=>(a j).fr),<-Ec];refine Ea λv _=>?_
  unfold ex Cm inA;lia
 have r:Ag m (λj=>if j=i then f j else 0)+Ag m (λj=>if(a j).to<(a i).fr+1 then f j else 0)<=Ag m λj=>if(a j).fr<(a i).fr+1 then f j else 0:=by
  rw[<-Ec];refine Er λj g=>?_
  have z:=d j g;have t:=p j g;by_cases e:j=i
  .subst e;rw[if_pos rfl,if_neg (by lia),if_pos (by lia)];lia
  rw[if_neg e];by_cases b:(a j).to<(a i).fr+1
  .rw[if_pos b,if_pos (by lia)];lia
  .rw[if_neg b]
   split <;> lia
 rw[Gr l]at r;have y:Ag ((a i).fr+1) (λv=>ex a m f v)<=Ag ((a i).fr+1) s:=Er λv w=>h v (by lia)
 have u:=ZAJ (k:=(a i).fr+1) (by lia) o;lia
structure Netw (n:Nat) (as:List Arc) (s:Nat->Int) (wide:Int):Prop where
 n30:n<=30
 arc:∀x∈as,ArcOk n x
 way:∀k,k<n->∃i,i<as.length/\(Aq as i).fr=k/\(Aq as i).mo=uZ
 sn:∀v,v<n->0<=s v
 wide:wide=Ag n s+1
section
variable{n:Nat}{as:List Arc}{s:Nat->Int}{wide:Int}{x:LR}
theorem ZBD(Z:Netw n as s wide)(K:x.Ok (lkN n as))(B:Bal n as s wide x)(e:i<as.length)(h:∀b,(Aq as i).mo=uQ b->flo x i<b):0<Ab x.R (2*i):=by
 have a:=B.cap i e;unfold Hc at a;cases c:(Aq as i).mo with
 |some b=>
  rw[c]at a;have:=h b c;unfold flo at this;dsimp only at a;lia
 |none=>
  rw[c]at a;have g:=ZNP (f:=flo x) (λj d=>⟨(ArcOk.of Z.arc d).up,(ArcOk.of Z.arc d).lt⟩) (λj d=>K.rn _ (by show 2*j+1<2*as.length;lia)) Z.sn (λv k=>by have m:=B.bal v k;have o:=K.ln v (by show v<=n;lia);lia) e
  have l:=Z.wide;unfold flo at g;dsimp only at a;lia
theorem ZGQ(Z:Netw n as s wide)(K:x.Ok (lkN n as))(B:Bal n as s wide x):(lkN n as).Way (Ab x.R):=λu f=>by
 obtain⟨i,a,e,d⟩:=Z.way u f;have g:=(ArcOk.of Z.arc a).up;refine⟨2*i,by show 2*i<2*as.length;lia,?_,?_,ZBD Z K B a λb c=>by rw[d]at c;cases c⟩
 .simp only[lkN];rw[if_pos (by lia),show 2*i/2=i by lia];exact e
 simp only[lkN];rw[if_pos (by lia),show 2*i/2=i by lia];lia
theorem ZOu{W:Nat->Int}(Z:Netw n as s wide)(K:x.Ok (lkN n as))(B:Bal n as s wide x)(F:(lkN n as).Fix (Ab x.R) W)(a:(lkN n as).Pot (Ab x.R) W):Slack as.length (Aq as) (flo x) (gn (lkN n as) W):=by
 have ok:=Jx Z.arc Z.n30;refine⟨λi e h=>?_,λi e h=>?_⟩
 .have:=ZDc ok Oj F a (by show 2*i<2*as.length;lia) (ZBD Z K B e h);obtain⟨d,b,c⟩:=Nk (l:=2*i) (by lia);rw[d,b,c,show 2*i/2=i by lia]at this;lia
 have:=ZDc ok Oj F a (by show 2*i+1<2*as.length;lia) h;obtain⟨d,b,c⟩:=Q9 (l:=2*i+1) (by lia);rw[d,b,c,show(2*i+1)/2=i by lia]at this;lia
theorem ZKY{rm:Nat->Int}(Z:Netw n as s wide)(h:∀i,i<as.length->rm (2*i+1)=0):(lkN n as).Pot rm (λu=>40000*((n:Int)-u)):=λl c o=>by
 have d:l<2*as.length:=c;have a:l%2=0:=by
  refine Decidable.byContradiction λz=>?_
  have:=h (l/2) (by lia);rw[show 2*(l/2)+1=l by lia]at this;lia
 have p:=(Jx (n:=n) Z.arc Z.n30).wu l c;have b:=ArcOk.of Z.arc (i:=l/2) (by lia);have j:=b.lt;have k:=b.up;obtain⟨g,e,m⟩:=Nk a;have f:¬(Aq as (l/2)).fr=(lkN n as).n:=by show¬(Aq as (l/2)).fr=n;lia
 dsimp only;rw[g,e,if_neg f];lia
end
noncomputable def flds(n l f e w r:Nat):List (Str×D):=[("scale",.int ((n:Int)+1)),("left",.ref l),("links_from",.ref f),("ends",.ref e),("worths",.ref w),("rooms",.ref r)]
noncomputable def Bf(xs:List Nat):List D:=xs.map λ(i:Nat)=>D.int (i:Int)
structure Ad where
 o:Nat
 l:Nat
 f:Nat
 e:Nat
 w:Nat
 r:Nat
 fa:Nat->Nat
structure Ad.Ok (a:Ad) (n:Nat):Prop where
 lo:a.l≠a.o
 lf:a.l≠a.f
 le:a.l≠a.e
 lw:a.l≠a.w
 lr:a.l≠a.r
 la:∀u,u<=n->a.l≠a.fa u
 ro:a.r≠a.o
 rf:a.r≠a.f
 re:a.r≠a.e
 rw:a.r≠a.w
 ra:∀u,u<=n->a.r≠a.fa u
structure SN (N:Lks) (lk:Nat->List Nat) (a:Ad) (x:LR) (Γ:DH):Prop where
 ad:a.Ok N.n
 ho:Γ[a.o]?=uQ (.ins "Sending" (flds N.n a.l a.f a.e a.w a.r))
 hl:Γ[a.l]?=uQ (.lst (x.L.map D.int))
 hf:Γ[a.f]?=uQ (.lst ((zX (N.n+1)).map λu=>D.ref (a.fa u)))
 hfa:∀u,u<=N.n->Γ[a.fa u]?=uQ (.lst (Bf (lk u)))
 he:Γ[a.e]?=uQ (.lst (Bf ((zX N.q).map N.to)))
 hw:Γ[a.w]?=uQ (.lst (((zX N.q).map N.wo).map D.int))
 hr:Γ[a.r]?=uQ (.lst (x.R.map D.int))
theorem ZJ9{xs:List Nat}(h:xs[i]?=uQ k):atI (Bf xs) (i:Int)=zI (k:Int):=Dg (k:=i) (by lia) (by unfold Bf;rw[zv,h];rfl)
theorem ZHq{f:Nat->Nat}(h:l<q):atI (Bf ((zX q).map f)) (l:Int)=zI (f l:Int):=ZJ9 (by rw[zv,qx h];rfl)
theorem ZLi(h:l<q):atI (((zX q).map f).map D.int) (l:Int)=zI (f l):=Dg (k:=l) (by lia) (by rw[zv,zv,qx h];rfl)
theorem N8(h:i<xs.length):atI (xs.map D.int) (i:Int)=zI (Ab xs i):=Lw h
theorem Yg(h:i<P.length):atI (P.map moD) (i:Int)=uQ (moD (gP P i)):=Dg (k:=i) (by lia) (by
 unfold gP;rw[zv,zJ h,zW,zJ h]
 rfl)
theorem Hr{p:Nat}{xs:List D}{i:Int}{v:D}(h:Γ[p]?=uQ (.lst xs))(b:atI xs i=uQ v):Ae (.ref p) (.int i) Γ=.ok v Γ:=by rw[Oz,h];dsimp only;rw[b]
theorem Ws{g:DG}{xs:List D}(h:G[i]?=uQ (.lst xs))(c:xs.length<=j):_D.forM i g b 0 j S G=.nx S G:=by
 show(match G[i]? with |some (.lst xs)=>if xs.length<=j then SR.nx S G else .bad|_=>.bad)=_
 rw[h];exact if_pos c
theorem ZAi{g:DG}{xs:List D}{x:D}(h:G[i]?=uQ (.lst xs))(e:xs[j]?=uQ x):_D.forM i g b (k+1) j S G=(g x S G).toS λd c=>aft (b d c) (_D.forM i g b k (j+1)):=by
 show(match G[i]? with |some (.lst xs)=>(match xs[j]? with |some x=>(g x S G).toS λd c=>aft (b d c) (_D.forM i g b k (j+1))|none=>.nx S G)|_=>.bad)=_
 rw[h];dsimp only;rw[e]
section
variable{N:Lks}{lk:Nat->List Nat}{a:Ad}{x:LR}{Γ:DH}
theorem SN.scale(K:SN N lk a x Γ):Cz "Sending" "scale" (.ref a.o) Γ=.ok (.int ((N.n:Int)+1)) Γ:=Dm K.ho rfl
theorem SN.left(K:SN N lk a x Γ):Cz "Sending" "left" (.ref a.o) Γ=.ok (.ref a.l) Γ:=Dm K.ho rfl
theorem SN.from(K:SN N lk a x Γ):Cz "Sending" "links_from" (.ref a.o) Γ=.ok (.ref a.f) Γ:=Dm K.ho rfl
theorem SN.ends(K:SN N lk a x Γ):Cz "Sending" "ends" (.ref a.o) Γ=.ok (.ref a.e) Γ:=Dm K.ho rfl
theorem SN.worths(K:SN N lk a x Γ):Cz "Sending" "worths" (.ref a.o) Γ=.ok (.ref a.w) Γ:=Dm K.ho rfl
theorem SN.rooms(K:SN N lk a x Γ):Cz "Sending" "rooms" (.ref a.o) Γ=.ok (.ref a.r) Γ:=Dm K.ho rfl
theorem SN.meth(K:SN N lk a x Γ){m:Str}{F:List D->DH->R D}{t:DA}(c:∀n l f e w r,(flds n l f e w r).lookup m=uZ):Hw "Sending" m F t S (.ref a.o) Γ=(t S Γ).bind λds b=>F (.ref a.o::ds) b:=T7 K.ho (c _ _ _ _ _ _)
theorem SN.ixE(K:SN N lk a x Γ)(h:l<N.q):Ae (.ref a.e) (.int (l:Int)) Γ=.ok (.int (N.to l:Int)) Γ:=Hr K.he (ZHq h)
theorem SN.ixW(K:SN N lk a x Γ)(h:l<N.q):Ae (.ref a.w) (.int (l:Int)) Γ=.ok (.int (N.wo l)) Γ:=Hr K.hw (ZLi h)
theorem SN.ixR(K:SN N lk a x Γ)(o:x.Ok N)(h:l<N.q):Ae (.ref a.r) (.int (l:Int)) Γ=.ok (.int (Ab x.R l)) Γ:=Hr K.hr (N8 (o.rl▸h))
theorem SN.ixL(K:SN N lk a x Γ)(o:x.Ok N)(h:u<=N.n):Ae (.ref a.l) (.int (u:Int)) Γ=.ok (.int (Ab x.L u)) Γ:=Hr K.hl (N8 (by rw[o.ll];lia))
theorem SN.ixF(K:SN N lk a x Γ)(h:u<=N.n):Ae (.ref a.f) (.int (u:Int)) Γ=.ok (.ref (a.fa u)) Γ:=Hr K.hf (Dg (k:=u) (by lia) (by rw[zv,qx (by lia)];rfl))
theorem SN.itF(K:SN N lk a x Γ)(h:u<=N.n):Ei (.ref (a.fa u)) Γ=.ok (.mt (a.fa u)) Γ:=by simp[Ei,K.hfa u h]
theorem ZOb{w:Int}(K:SN N lk a x Γ):O8 [.ref a.o,.int w] Γ=.ok (.int (-w%((N.n:Int)+1))) Γ:=by unfold O8 ZFM;rw[Aw];simp[K.scale,by omega,Bw]
theorem ZHb{w:Int}(c:N.n<1000)(K:SN N lk a x Γ):K9 [.ref a.o,.int w] Γ=.ok (.int (-(-w/((N.n:Int)+1)))) Γ:=by have b:Fl (.int (-w)) (.int ((N.n:Int)+1)) Γ=.ok (.int (-w/((N.n:Int)+1))) Γ:=divS (by lia) (by lia);unfold K9 ZED;rw[Aw];simp[K.scale,b,Bw]
theorem ZF2{y:Nat}(K:SN N lk a x Γ)(o:x.Ok N)(ok:N.Ok)(r:LkOf N lk)(q:Γ[y]?=uQ (.lst (P.map moD)))(hP:P.length=N.n+1)(m:u<=N.n):∀(e pre:List Nat)(z:Option Int)(z4 d b:Option D),lk u=pre++e->
  ∃E j i,forM (a.fa u) (gV 4) Mw e.length pre.length [zR a.o,s1,zR y,uQ (moD z),z4,d,b] Γ=.nx [zR a.o,s1,zR y,uQ (moD (N.bw (Ab x.R) P e z)),E,j,i] Γ
 |[],pre,z,z4,d,b,h=>by exact⟨z4,d,b,Ws (K.hfa u m) (by rw[h];simp[Bf])⟩
 | l::e,pre,z,z4,d,b,h=>by
  have c:=((r u l).mp (by rw[h];simp)).1;have L:atI (P.map moD) (N.to l:Int)=uQ (moD (gP P (N.to l))):=Yg (by have:=ok.to l c;lia);have p:∃j i,Mw [zR a.o,s1,zR y,uQ (moD z),zI (l:Int),d,b] Γ=.nx [zR a.o,s1,zR y,uQ (moD (N.rl (Ab x.R) P z l)),zI (l:Int),j,i] Γ:=by
   have s:sAs (dOp Ae (dV 2) (dOp Ae (Av "Sending" (dV 0) "ends") (dV 4))) (gV 5) [zR a.o,s1,zR y,uQ (moD z),zI (l:Int),d,b] Γ=.nx [zR a.o,s1,zR y,uQ (moD z),zI (l:Int),uQ (moD (gP P (N.to l))),b] Γ:=by simp[K.ends,K.ixE c,Hr q L]
   have f:dOp Ae (Av "Sending" (dV 0) "rooms") (dV 4) [zR a.o,s1,zR y,uQ (moD z),zI (l:Int),uQ (moD (gP P (N.to l))),b] Γ=.ok (.int (Ab x.R l)) Γ:=by simp[K.rooms,K.ixR o c]
   have k:dV 5 [zR a.o,s1,zR y,uQ (moD z),zI (l:Int),uQ (moD (gP P (N.to l))),b] Γ=.ok (moD (gP P (N.to l))) Γ:=by simp
   unfold Mw Lks.rl;rw[S6,s,Qv];clear s;by_cases g:0<Ab x.R l
   .rw[if_pos g];cases B:gP P (N.to l)with
    |none=>
     rw[B]at f k;refine⟨uQ (moD uZ),b,?_⟩;dsimp only;generalize dOp Ae (Av "Sending" (dV 0) "rooms") (dV 4)=w at*;generalize dV 5=H at*;generalize[zR a.o,s1,zR y,uQ (moD z),zI (l:Int),uQ (moD uZ),b]=S at*;simp[f,k,g,moD,Du]
    | some v=>
     rw[B]at f k;have tB:sAs (dOp Ai (dV 5) (dOp Ae (Av "Sending" (dV 0) "worths") (dV 4))) (gV 6) [zR a.o,s1,zR y,uQ (moD z),zI (l:Int),uQ (moD (uQ v)),b] Γ=.nx [zR a.o,s1,zR y,uQ (moD z),zI (l:Int),uQ (moD (uQ v)),zI (v+N.wo l)] Γ:=by simp[K.worths,K.ixW c,moD]
     refine⟨uQ (moD (uQ v)),zI (v+N.wo l),?_⟩;have tC:sIf (dOr (Ak (dOp Io (dV 3) (dC .non))) (Ak (dOp Ht (dV 3) (dV 6)))) (sAs (dV 6) (gV 3)) sNx [zR a.o,s1,zR y,uQ (moD z),zI (l:Int),uQ (moD (uQ v)),zI (v+N.wo l)] Γ=.nx [zR a.o,s1,zR y,uQ (moD (pick z (v+N.wo l))),zI (l:Int),uQ (moD (uQ v)),zI (v+N.wo l)] Γ:=by
      cases z with
      |none=>simp[moD,Du,pick]
      |some t=>by_cases M:t<v+N.wo l<;>simp[moD,Du,pick,M]
     generalize sIf (dOr (Ak (dOp Io (dV 3) (dC .non))) (Ak (dOp Ht (dV 3) (dV 6)))) (sAs (dV 6) (gV 3)) sNx=O at*;generalize sAs (dOp Ai (dV 5) (dOp Ae (Av "Sending" (dV 0) "worths") (dV 4))) (gV 6)=Q at*;generalize dOp Ae (Av "Sending" (dV 0) "rooms") (dV 4)=w at*;generalize dV 5=H at*;generalize[zR a.o,s1,zR y,uQ (moD z),zI (l:Int),uQ (moD (uQ v)),b]=S at*;simp[f,k,g,moD,Du,tB];exact tC
   rw[if_neg g];refine⟨uQ (moD (gP P (N.to l))),b,?_⟩;generalize dOp Ae (Av "Sending" (dV 0) "rooms") (dV 4)=w at*;generalize[zR a.o,s1,zR y,uQ (moD z),zI (l:Int),uQ (moD (gP P (N.to l))),b]=S at*;simp[f,g]
  obtain⟨j,i,p⟩:=p;obtain⟨C,J,F,A⟩:=ZF2 K o ok r q hP m e (pre++[l]) (N.rl (Ab x.R) P z l) (zI (l:Int)) j i (by rw[h];simp);refine⟨C,J,F,?_⟩;have I:(Bf (lk u))[pre.length]?=zI (l:Int):=by rw[h];simp[Bf]
  rw[zH,jH]at A;show forM (a.fa u) (gV 4) Mw (e.length+1) pre.length _ Γ=_;rw[ZAi (K.hfa u m) I];simp[Eb,R.Ej,qT,p,Fq];exact A
theorem ZJQ{y:Nat}(K:SN N lk a x Γ)(o:x.Ok N)(ok:N.Ok)(i:LkOf N lk)(b:Γ[y]?=uQ (.lst (P.map moD)))(hP:P.length=N.n+1)(j:u<N.n):
  O2 [.ref a.o,.int (u:Int),.ref y] Γ=.ok (moD (N.bw (Ab x.R) P (lk u) (gP P u))) Γ:=by
 obtain⟨k,m,l,g⟩:=ZF2 K o ok i b hP (by lia) (lk u) [] (gP P u) uZ uZ uZ rfl;have d:=K.ixF (u:=u) (by lia);have c:=K.itF (u:=u) (by lia);have e:Ae (.ref y) (.int (u:Int)) Γ=.ok (moD (gP P u)) Γ:=Hr b (Yg (by lia));have h:=K.hfa u (by lia);have f:(Bf (lk u)).length=(lk u).length:=by simp[Bf]
 unfold O2 ZDE;rw[Aw]
 simp[K.from,d,c,e,h,f]
 rw[show(0:Nat)=([]:List Nat).length from rfl,g]
 simp[Bw]
end
theorem Sv{p:Nat}{z:Int}(h:Γ[p]?=uQ (.lst (xs.map D.int)))(b:i<xs.length):Gd (.ref p) (.int (i:Int)) (.int z) Γ=.ok .non (Γ.set p (.lst ((xs.set i z).map D.int))):=by rw[Jv,h];dsimp only;rw[Tc (by simpa using b)];dsimp only;rw[List.map_set]
theorem R9{p:Nat}(h:Γ[p]?=uQ (.lst (xs.map D.int)))(b:i<xs.length):ixL (.ref p) (.int (i:Int)) Γ=.ok (.int (Ab xs i)) Γ:=ZDF h (Lw b)
section
variable{N:Lks}{lk:Nat->List Nat}{a:Ad}{x:LR}{Γ:DH}
theorem SN.ZAO(K:SN N lk a x Γ)(L:List Int):SN N lk a ⟨L,x.R⟩ (Γ.set a.l (.lst (L.map D.int))):=by
 have A:=K.ad;refine⟨A,?_,qw ((zY.mp K.hl).1),?_,λu b=>?_,?_,?_,?_⟩
 .rw[z8 A.lo];exact K.ho
 .rw[z8 A.lf];exact K.hf
 .rw[z8 (A.la u b)];exact K.hfa u b
 .rw[z8 A.le];exact K.he
 .rw[z8 A.lw];exact K.hw
 rw[z8 A.lr];exact K.hr
theorem SN.Jl(K:SN N lk a x Γ)(R:List Int):SN N lk a ⟨x.L,R⟩ (Γ.set a.r (.lst (R.map D.int))):=by
 have A:=K.ad;refine⟨A,?_,?_,?_,λu b=>?_,?_,?_,qw ((zY.mp K.hr).1)⟩
 .rw[z8 A.ro];exact K.ho
 .rw[z8 A.lr.symm];exact K.hl
 .rw[z8 A.rf];exact K.hf
 .rw[z8 (A.ra u b)];exact K.hfa u b
 .rw[z8 A.re];exact K.he
 rw[z8 A.rw];exact K.hw
noncomputable def hs(Γ:DH)(a:Ad)(x:LR):DH:=(Γ.set a.l (.lst (x.L.map D.int))).set a.r (.lst (x.R.map D.int))
theorem SN.at (K:SN N lk a x Γ)(y:LR):SN N lk a y (hs Γ a y):=(K.ZAO y.L).Jl y.R
theorem ZIU{y:LR}:(hs Γ a y).length=Γ.length:=by unfold hs;simp
theorem ZDa(A:a.l≠a.r)(y z:LR):hs (hs Γ a y) a z=hs Γ a z:=by unfold hs;rw[List.set_comm _ _ A.symm,List.set_set,List.set_set]
theorem ZF6{p:Nat}(h:Γ[p]?=uQ o):Γ.set p o=Γ:=by
 refine jM λi=>?_
 by_cases e:p=i
 .subst e;rw[qw (zY.mp h).1,h]
 rw[z8 e]
theorem SN.hs(K:SN N lk a x Γ):hs Γ a x=Γ:=by unfold _W.hs;rw[ZF6 K.hl,ZF6 K.hr]
theorem ZLS(K:SN N lk a x Γ)(o:x.Ok N)(ok:N.Ok)(v:N.Mt)(b:l<N.q):Mq [.ref a.o,.int (N.fr l:Int),.int (l:Int),.int c] Γ=.ok .non (hs Γ a (x.sa N (N.fr l) l c)):=by
 have Y:=ok.fr l b;have T:=ok.to l b;have U:=v.lt l b;have S:=o.ll;have W:=o.rl;have d:=K.ZAO (x.L.set (N.fr l) (Ab x.L (N.fr l)-c));have e:=d.ZAO (x.sa N (N.fr l) l c).L;have f:=e.Jl (x.R.set l (Ab x.R l-c));have A:=R9 K.hl (i:=N.fr l) (by lia);have t:=Sv K.hl (i:=N.fr l) (z:=Ab x.L (N.fr l)-c) (by lia);have Q:=R9 d.hl (i:=N.to l) (by simp;lia);have p:=Sv d.hl (i:=N.to l) (z:=Ab (x.L.set (N.fr l) (Ab x.L (N.fr l)-c)) (N.to l)+c) (by simp;lia)
 have H:=R9 (xs:=x.R) e.hr (i:=l) (by lia);have y:=Sv (xs:=x.R) e.hr (i:=l) (z:=Ab x.R l-c) (by lia);have M:=R9 f.hr (i:=mate l) (by simp;lia);have n:=Sv f.hr (i:=mate l) (z:=Ab (x.R.set l (Ab x.R l-c)) (mate l)+c) (by simp;lia);have B:=K.left;have u:=d.left;have O:=d.ends;have w:=d.ixE b;have E:=e.rooms;have C:=f.rooms;have J:(if(l:Int)%2=0 then D.int ((l:Int)+1)else D.int ((l:Int)-1))=D.int ((mate l:Nat):Int):=by
  unfold mate;by_cases h:l%2=0
  .rw[if_pos (show(l:Int)%2=0 by lia),if_pos h];exact congrArg D.int (by lia)
  rw[if_neg (show¬(l:Int)%2=0 by lia),if_neg h];exact congrArg D.int (by lia)
 have g:tidy Γ (.ok .non ((((Γ.set a.l (.lst ((x.L.set (N.fr l) (Ab x.L (N.fr l)-c)).map D.int))).set a.l (.lst ((x.sa N (N.fr l) l c).L.map D.int))).set a.r (.lst ((x.R.set l (Ab x.R l-c)).map D.int))).set a.r (.lst ((x.sa N (N.fr l) l c).R.map D.int))))=.ok .non (hs Γ a (x.sa N (N.fr l) l c)):=by rw[J0 (by simp) rfl];unfold hs;rw[List.set_set,List.set_set]
 have I:Gd (.ref a.l) (.int (N.to l:Int)) (.int (Ab (x.L.set (N.fr l) (Ab x.L (N.fr l)-c)) (N.to l)+c)) (Γ.set a.l (.lst ((x.L.set (N.fr l) (Ab x.L (N.fr l)-c)).map D.int)))=.ok .non ((Γ.set a.l (.lst ((x.L.set (N.fr l) (Ab x.L (N.fr l)-c)).map D.int))).set a.l (.lst ((x.sa N (N.fr l) l c).L.map D.int))):=p;have s:Gd (.ref a.r) (.int (mate l:Int)) (.int (Ab (x.R.set l (Ab x.R l-c)) (mate l)+c)) (((Γ.set a.l (.lst ((x.L.set (N.fr l) (Ab x.L (N.fr l)-c)).map D.int))).set a.l (.lst ((x.sa N (N.fr l) l c).L.map D.int))).set a.r (.lst ((x.R.set l (Ab x.R l-c)).map D.int)))=.ok .non ((((Γ.set a.l (.lst ((x.L.set (N.fr l) (Ab x.L (N.fr l)-c)).map D.int))).set a.l (.lst ((x.sa N (N.fr l) l c).L.map D.int))).set a.r (.lst ((x.R.set l (Ab x.R l-c)).map D.int))).set a.r (.lst ((x.sa N (N.fr l) l c).R.map D.int))):=n
 clear p n K d e f;generalize hs Γ a (x.sa N (N.fr l) l c)=P at*;generalize Γ.set a.l (.lst ((x.L.set (N.fr l) (Ab x.L (N.fr l)-c)).map D.int))=j at*;generalize j.set a.l (.lst ((x.sa N (N.fr l) l c).L.map D.int))=m at*;generalize m.set a.r (.lst ((x.R.set l (Ab x.R l-c)).map D.int))=k at*;generalize k.set a.r (.lst ((x.sa N (N.fr l) l c).R.map D.int))=F at*;generalize Ab (x.L.set (N.fr l) (Ab x.L (N.fr l)-c)) (N.to l)=X at*
 generalize Ab (x.R.set l (Ab x.R l-c)) (mate l)=Z at*;unfold Mq ZD5;rw[Aw];simp[-Jv,B,u,O,w,E,C,A,t,Q,I,H,y,M,s,J,g]
end
theorem ZMh{ks:List Int}(h:1<=ks.length):∃us:List Nat,Fo ks=us.map (λ(i:Nat)=>D.int (i:Int))/\us.Perm (zX ks.length):=by
 unfold Fo;by_cases b:ks.length<2
 .rw[if_pos b];refine⟨zX ks.length,?_,List.Perm.refl _⟩;unfold Ay;refine jJ λi _=>?_
  rw[Int.zero_add]
 rw[if_neg b];have hp:(Hv (ltK ks.reverse) (zi ks.length)).toList.Perm (zX ks.length):=by have:=Array.perm_iff_toList_perm.mp (Xa (lt:=ltK ks.reverse) (Yq h)).2;simpa using this
 generalize e:(Hv (ltK ks.reverse) (zi ks.length)).toList=p at*;generalize ks.length=n at*;refine⟨(p.map λi=>n-1-i).reverse,?_,?_⟩
 .rw[List.map_reverse,q8]
  congr 1
  refine jJ λi d=>?_
  have c:(Ay 0 n).length=n:=by unfold Ay;simp
  rw[zW,List.getElem?_reverse (by rw[c];exact(zU.mp (hp.mem_iff.mp d))),c];unfold Ay;rw[zv,qx (by lia)];show D.int (0+((n-1-i:Nat):Int))=_;rw[Int.zero_add]
  rfl
 .refine(List.reverse_perm _).trans ((hp.map _).trans ?_);have:(zX n).map (λi=>n-1-i)=(zX n).reverse:=by
   refine qS (by simp) λi f b=>?_
   simp
  rw[this];exact List.reverse_perm _
theorem ZKc{C m:Str}{tn:DA}{caps:List Nat}{c b:DH}{j:Int}{ks:List Int}(g:tn S G=.ok [.int j] c)(e:1<=j/\j<64)(d:DO.tab C m∈c)(f:H9 te caps S j.toNat 0 c=.ok ks b):Nh C m tn caps te S G=.ok (.ref b.length) (b++[.lst (Fo ks)]):=by unfold Nh;rw[g,R.Dv];dsimp only;rw[if_pos ⟨e,d⟩,f,R.Dv]
section
variable{N:Lks}{lk:Nat->List Nat}{a:Ad}{x:LR}{Γ:DH}{Wl:List Int}
theorem ZNG(b:SN N lk a x Γ)(o:x.Ok N)(ok:N.Ok)(r:N.Mt)(u:Wl.length=N.n+1)(d:l<N.q):M8 [zR a.o,zF (Wl.map D.int),s2,zI (N.fr l:Int),zI (l:Int)] Γ=.nx [zR a.o,zF (Wl.map D.int),s2,zI (N.fr l:Int),zI (l:Int)] (hs Γ a (x.one N (Ab Wl) (N.fr l) l)):=by
 have g:=N8 (xs:=Wl) (i:=N.fr l) (by have:=ok.fr l d;lia);have e:=N8 (xs:=Wl) (i:=N.to l) (by have:=ok.to l d;lia);have h:=b.ends;have k:=b.ixE d;have j:=b.worths;have f:=b.ixW d;unfold M8 LR.one;by_cases c:Ab Wl (N.fr l)=Ab Wl (N.to l)+N.wo l
 .have p:=ZLS b o ok r d (c:=min (Ab x.L (N.fr l)) (Ab x.R l));rw[if_pos c];generalize Wl.map D.int=Z at*;generalize hs Γ a _=s at*;simp[g,e,h,k,j,f,b.left,b.ixL o (ok.fr l d),b.rooms,b.ixR o d,λ(t:DA)(S:DSt)=>b.meth (m:="send_along") (F:=Mq) (t:=t) (S:=S) λ_ _ _ _ _ _=>rfl,p,c]
 rw[if_neg c,b.hs];generalize Wl.map D.int=Z at*;simp[g,e,h,k,j,f,c]
variable{rm ga R0:Nat->Int}{B:LR->Prop}
theorem ZGs(f:SN N lk a x Γ)(ok:N.Ok)(i:N.Mt)(sc:N.Sc ga)(F:N.Fix rm (Ab Wl))(r:LkOf N lk)(v:∀(y:LR)(l:Nat)(c:Int),y.Ok N->l<N.q->B y->B (y.sa N (N.fr l) l c))(z:Wl.length=N.n+1)(H:u<N.n){s2:Option D}:∀(b pre:List Nat)(y:LR)(z4:Option D),lk u=pre++b->Kp N (Ab Wl) R0 B y->
  ∃d g,_D.forM (a.fa u) (gV 4) M8 b.length pre.length [zR a.o,zF (Wl.map D.int),s2,zI (u:Int),z4] (hs Γ a y)=.nx [zR a.o,zF (Wl.map D.int),s2,zI (u:Int),g] (hs Γ a d)/\Kp N (Ab Wl) R0 B d/\Snt N (Ab Wl) (λl=>l∈b) y d
 |[],pre,y,z4,h,k=>⟨y,z4,Ws ((f.at y).hfa u (by lia)) (by rw[h];simp[Bf]),k,(Snt.refl y).imp λ_ h=>by cases h⟩
 |l::b,pre,y,z4,h,k=>by
  have m:=(r u l).mp (by rw[h];simp);have e:=m.2;obtain⟨w,p⟩:=ZKb ok i sc F v k m.1 (by lia);have t:=ZNG (f.at y) k.ok ok i z m.1 (s2:=s2);rw[ZDa f.ad.lr,e]at t;rw[e]at w p;obtain⟨d,g,s,C,A⟩:=ZGs f ok i sc F r v z H b (pre++[l]) (y.one N (Ab Wl) u l) (zI (l:Int)) (by rw[h];simp) w;refine⟨d,g,?_,C,(p.trans A).imp λj I=>by simpa using I⟩;have E:(Bf (lk u))[pre.length]?=zI (l:Int):=by rw[h];simp[Bf]
  rw[zH,jH]at s;show _D.forM (a.fa u) (gV 4) M8 (b.length+1) pre.length _ _=_;rw[ZAi ((f.at y).hfa u (by lia)) E];simp[Eb,R.Ej,qT,t,Fq];exact s
theorem ZBZ(d:SN N lk a x Γ)(ok:N.Ok)(s:N.Mt)(sc:N.Sc ga)(F:N.Fix rm (Ab Wl))(p:LkOf N lk)(w:∀(y:LR)(l:Nat)(c:Int),y.Ok N->l<N.q->B y->B (y.sa N (N.fr l) l c))(z:Wl.length=N.n+1):∀(us:List Nat)(y:LR)(j z4:Option D),(∀u∈us,u<N.n)->Kp N (Ab Wl) R0 B y->
  ∃f A g,Bc (gV 3) Sx (us.map λ(i:Nat)=>D.int (i:Int)) [zR a.o,zF (Wl.map D.int),s2,j,z4] (hs Γ a y)=.nx [zR a.o,zF (Wl.map D.int),s2,A,g] (hs Γ a f)/\Kp N (Ab Wl) R0 B f/\Snt N (Ab Wl) (λl=>l<N.q/\N.fr l∈us) y f
 |[],y,j,z4,h,k=>⟨y,j,z4,rfl,k,(Snt.refl y).imp λ_ h=>by cases h.2⟩
 |u::us,y,j,z4,h,k=>by
  have Q:=h u (by simp);obtain⟨t,g,L,S,C⟩:=ZGs d ok s sc F p w z Q (lk u) [] y z4 rfl k
  have M:=(d.at y).from
  have H:=(d.at y).ixF (u:=u) (by lia);have T:=(d.at y).itF (u:=u) (by lia);have K:=(d.at y).hfa u (by lia);have O:(Bf (lk u)).length=(lk u).length:=by simp[Bf]
  have W:Sx [zR a.o,zF (Wl.map D.int),s2,zI (u:Int),z4] (hs Γ a y)=.nx [zR a.o,zF (Wl.map D.int),s2,zI (u:Int),g] (hs Γ a t):=by rw[<-L];generalize hs Γ a y=U at*;generalize Wl.map D.int=Z at*;unfold Sx;simp[M,H,T,K,O]
  obtain⟨f,I,E,r,P,m⟩:=ZBZ d ok s sc F p w z us t (zI (u:Int)) g (λv J=>h v (by simp[J])) S;refine⟨f,I,E,?_,P,(C.trans m).imp λl b=>?_⟩
  .rw[zK,Eg];simp[Eb,R.Ej,qT,W,Fq];exact r
  rcases z0.mp b.2 with e|e
  .exact .inl ((p u l).mpr ⟨b.1,e⟩)
  exact .inr ⟨b.1,e⟩
theorem ZES(K:SN N lk a x Γ)(d:Wl.length=N.n+1){s4:Option D}:∀(k i:Nat),i+k<=N.n->H9 Rk [0,1] [zR a.o,zF (Wl.map D.int),s2,s3,s4] k i Γ=.ok ((qB i k).map λj=> -Ab Wl j%((N.n:Int)+1)) Γ
 |0,i,_=>rfl
 |k+1,i,h=>by
  have b:=N8 (xs:=Wl) (i:=i) (by lia);have c:Rk (Ib [0,1] (.int (i:Int)) [zR a.o,zF (Wl.map D.int),s2,s3,s4]) Γ=.ok (.int (-Ab Wl i%((N.n:Int)+1))) Γ:=by generalize Wl.map D.int=Z at*;unfold Rk Ib;simp[b,ZOb (w:=Ab Wl i) K,λ(t:DA)(S:DSt)=>K.meth (m:="links_of") (F:=O8) (t:=t) (S:=S) λ_ _ _ _ _ _=>rfl]
  unfold H9;rw[c];simp[R.Dv];rw[ZES K d k (i+1) (by lia)];rw[R.Dv,jA,zK]
theorem ZKn(K:SN N lk a x Γ)(v:DO.tab "Sending" "send_by"∈Γ)(Q:1<=N.n)(C:N.n<=60)(ok:N.Ok)(w:N.Mt)(sc:N.Sc ga)(F:N.Fix rm (Ab Wl))(r:LkOf N lk)(A:∀(y:LR)(l:Nat)(c:Int),y.Ok N->l<N.q->B y->B (y.sa N (N.fr l) l c))(e:Wl.length=N.n+1)(k:Kp N (Ab Wl) R0 B x):
  ∃y,Oe [.ref a.o,.fl (Wl.map D.int)] Γ=.ok .non (hs Γ a y)/\Kp N (Ab Wl) R0 B y/\Snt N (Ab Wl) (λl=>l<N.q/\N.fr l<N.n) x y:=by
 have hk:=ZES K e (s2:=uZ) (s3:=uZ) (s4:=uZ) N.n 0 (by lia);generalize d:((qB 0 N.n).map λj=> -Ab Wl j%((N.n:Int)+1))=b at*;have f:b.length=N.n:=by rw[<-d];simp
 obtain⟨s,i,hp⟩:=ZMh (ks:=b) (by lia);rw[f]at hp;obtain⟨y,O,P,g,E,m⟩:=ZBZ K ok w sc F r A e (s2:=zF (Fo b)) s x uZ uZ (λu h=>zU.mp (hp.mem_iff.mp h)) k;rw[K.hs,<-i]at g;refine⟨y,?_,E,m.imp λl h=>⟨h.1,hp.mem_iff.mpr (zU.mpr h.2)⟩⟩;have M:freeze Γ (.ok (.ref Γ.length) (Γ++[.lst (Fo b)]))=.ok (.fl (Fo b)) Γ:=Bk (i▸Fj λ_ _=>rfl);have t:tidy Γ (.ok .non (hs Γ a y))=.ok .non (hs Γ a y):=J0 ZIU rfl
 have H:(Wl.map D.int).length=N.n+1:=by simp[e]
 have p:(1:Int)<=(N.n:Int):=by lia
 have I:(N.n:Int)<64:=by lia
 have J:((N.n:Int)).toNat=N.n:=by lia
 have z:=ZKc (tn:=Aa (dOp Di (dFn Bb (Aa (dV 1) Ac)) (dC (.int 1))) Ac) (S:=[zR a.o,zF (Wl.map D.int),uZ,uZ,uZ]) (G:=Γ) (by simp[H]) ⟨p,I⟩ v (J▸hk);generalize Wl.map D.int=Z at*;generalize hs Γ a y=L at*;generalize Fo b=Y at*;unfold Oe ZFN;rw[Aw];simp[z,M,g,t]
end
section
variable{N:Lks}{lk:Nat->List Nat}{a:Ad}{x:LR}{Γ:DH}
theorem SN.app(K:SN N lk a x Γ)(T:DH):SN N lk a x (Γ++T):=by
 have g:∀{p:Nat}{o:DO},Γ[p]?=uQ o->(Γ++T)[p]?=uQ o:=λ{p o}h=>by rw[z9 (zY.mp h).1];exact h
 exact⟨K.ad,g K.ho,g K.hl,g K.hf,λu b=>g (K.hfa u b),g K.he,g K.hw,g K.hr⟩
theorem ZIN{p q:Option Int}:Gn (moD p) (moD q) G=.ok (.bl (!decide (p=q))) G:=by cases p<;>cases q<;>first|rfl|simp[moD]
theorem Ng:(Γ++[o])[Γ.length]?=uQ o:=by simp
theorem ZK1{r:Option Int}(h:u<P.length):Gd (.ref Γ.length) (.int (u:Int)) (moD r) (Γ++[.lst (P.map moD)])=.ok .non (Γ++[.lst ((P.set u r).map moD)]):=by
 rw[Jv,Ng];dsimp only;rw[Tc (by simpa using h)];dsimp only;rw[List.map_set,Fi]
 rfl
theorem ZOk(K:SN N lk a x Γ)(o:x.Ok N)(ok:N.Ok)(s:LkOf N lk)(hP:P.length=N.n+1)(j:u<N.n){d:Bool}{z4:Option D}:∃l,Np [zR a.o,zR Γ.length,zB d,zI (u:Int),z4] (Γ++[.lst (P.map moD)])=
  .nx [zR a.o,zR Γ.length,zB (d&&decide (N.bw (Ab x.R) P (lk u) (gP P u)=gP P u)),zI (u:Int),l] (Γ++[.lst ((P.set u (N.bw (Ab x.R) P (lk u) (gP P u))).map moD)]):=by
 have i:=K.app [.lst (P.map moD)];have h:=ZJQ i o ok s Ng hP j;have g:=λ(t:DA)(S:DSt)=>i.meth (m:="best_way") (F:=O2) (t:=t) (S:=S) λ_ _ _ _ _ _=>rfl
 have f:Ae (.ref Γ.length) (.int (u:Int)) (Γ++[.lst (P.map moD)])=.ok (moD (gP P u)) (Γ++[.lst (P.map moD)]):=Hr Ng (Yg (by lia));have k:=ZK1 (Γ:=Γ) (P:=P) (u:=u) (r:=N.bw (Ab x.R) P (lk u) (gP P u)) (by lia);have b:=ZIN (p:=N.bw (Ab x.R) P (lk u) (gP P u)) (q:=gP P u) (G:=Γ++[.lst (P.map moD)]);by_cases c:N.bw (Ab x.R) P (lk u) (gP P u)=gP P u
 .rw[set_same c (by lia),decide_eq_true c,Bool.and_true];rw[decide_eq_true c]at b;generalize Γ++[.lst (P.map moD)]=e at*;refine⟨uQ (moD (N.bw (Ab x.R) P (lk u) (gP P u))),?_⟩;unfold Np;simp[-Oz,h,g,f,b]
 rw[decide_eq_false c,Bool.and_false];rw[decide_eq_false c]at b;generalize Γ++[.lst (P.map moD)]=e at*;generalize Γ++[.lst ((P.set u (N.bw (Ab x.R) P (lk u) (gP P u))).map moD)]=v at*;refine⟨uQ (moD (N.bw (Ab x.R) P (lk u) (gP P u))),?_⟩;unfold Np;simp[-Jv,-Oz,h,g,f,k,b]
theorem ZFq(K:SN N lk a x Γ)(o:x.Ok N)(ok:N.Ok)(f:LkOf N lk):∀(k:Nat)(P:List (Option Int))(d:Bool)(b z4:Option D),P.length=N.n+1->k<=N.n->∃h c,Bc (gV 3) Np (Im ((k:Int)-1) k) [zR a.o,zR Γ.length,zB d,b,z4] (Γ++[.lst (P.map moD)])=
  .nx [zR a.o,zR Γ.length,zB (d&&N.still (Ab x.R) lk k P),h,c] (Γ++[.lst ((N.dn (Ab x.R) lk k P).map moD)])
 |0,P,d,b,z4,hP,_=>⟨b,z4,by simp[ZK7,Bc,Lks.still,Lks.dn]⟩
 |k+1,P,d,b,z4,hP,hk=>by
  obtain⟨c,l⟩:=ZOk K o ok f hP (u:=k) (by lia) (d:=d) (z4:=z4);obtain⟨i,j,g⟩:=ZFq K o ok f k (P.set k (N.bw (Ab x.R) P (lk k) (gP P k))) (d&&decide (N.bw (Ab x.R) P (lk k) (gP P k)=gP P k)) (zI (k:Int)) c (by simp[hP]) (by lia);refine⟨i,j,?_⟩;have e:((k+1:Nat):Int)-1=(k:Int):=by lia
  rw[e,ZKR,Eg];simp only[Eb,R.Ej,qT,l,Fq];rw[g,Bool.and_assoc]
  rfl
variable{π:Nat->Int}
theorem ZFv(K:SN N lk a x Γ)(o:x.Ok N)(ok:N.Ok)(q:LkOf N lk)(Q:N.n<1000)(way:N.Way (Ab x.R))(k:N.Pot (Ab x.R) π)(j:∀u,u<N.n-> -(40000*(N.n:Int))<=π u):∀(p:Nat)(P:List (Option Int))(g z4:Option D),WV N (Ab x.R) π P->Ag N.n (msP N π P)<p->
  ∃b d f,sWh La T5 (p+1) [zR a.o,zR Γ.length,zB uX,g,z4] (Γ++[.lst (P.map moD)])=.nx [zR a.o,zR Γ.length,zB uJ,d,f] (Γ++[.lst (b.map moD)])/\
   WV N (Ab x.R) π b/\(∀v,v<=N.n->lowP N b v)/\∀u,u<N.n->N.bw (Ab x.R) b (lk u) (gP b u)=gP b u
 |0,P,g,z4,V,h=>by have:=ZHl V j;lia
 | p+1,P,g,z4,V,h=>by
  obtain⟨s,C,T,y⟩:=ZCW ok q way k N.n V (zx _) λv Y X=>⟨0,by rw[show v=N.n by lia];exact V.z,by lia⟩
  obtain⟨d,f,A⟩:=ZFq K o ok q N.n P uJ g z4 V.len (zx _);rw[Bool.true_and]at A;have l:((P.map moD).length:Int)=(N.n:Int)+1:=by simp[V.len]
  have W:inR ((N.n:Int)-1):=⟨by lia,by lia⟩;have S:inR (-1:Int):=⟨by lia,by lia⟩;have J:((N.n:Int)-1-(-1)).toNat=N.n:=by lia
  have w:Bb [.ref Γ.length] (Γ++[.lst (P.map moD)])=.ok (.int ((N.n:Int)+1)) (Γ++[.lst (P.map moD)]):=by rw[Qs,Ng];dsimp only;rw[l]
  have i:=ZFT (G:=Γ++[.lst (P.map moD)]) W S;rw[J]at i;have m:T5 [zR a.o,zR Γ.length,zB uX,g,z4] (Γ++[.lst (P.map moD)])=.nx [zR a.o,zR Γ.length,zB (N.still (Ab x.R) lk N.n P),d,f] (Γ++[.lst ((N.dn (Ab x.R) lk N.n P).map moD)]):=by
   have e:(N.n:Int)+1-2=(N.n:Int)-1:=by lia
   generalize Γ++[.lst (P.map moD)]=H at*;unfold T5;simp[-Qs,-ZFT,w,e,i,A]
  have B:La [zR a.o,zR Γ.length,zB uX,g,z4] (Γ++[.lst (P.map moD)])=.ok uJ (Γ++[.lst (P.map moD)]):=by unfold La;simp
  cases c:N.still (Ab x.R) lk N.n P with
  |true=>
   obtain⟨L,U⟩:=T c;rw[L]at s C m;rw[c]at m;refine⟨P,d,f,?_,s,C,U⟩;have r:La [zR a.o,zR Γ.length,zB uJ,d,f] (Γ++[.lst (P.map moD)])=.ok uX (Γ++[.lst (P.map moD)]):=by unfold La;simp
   unfold sWh;rw[B];simp[R.Ej,if_true,m,Fq];unfold sWh;rw[r];simp
  |false=>
   rw[c]at m y;rw[if_neg (by decide)]at y;obtain⟨b,I,E,t,O,M,F⟩:=ZFv K o ok q Q way k j p (N.dn (Ab x.R) lk N.n P) d f s (by lia);refine⟨b,I,E,?_,O,M,F⟩;unfold sWh;rw[B];simp[R.Ej,if_true,m,Fq];exact t
def topW(N:Lks)(π:Nat->Int):Prop:=∀u,u<N.n-> -(40000*(N.n:Int))<=π u/\π u<=40000*(N.n:Int)
theorem ZJg(t:topW N π)(V:WV N (Ab x.R) π P)(c:∀u,u<N.n->gP P u=uZ)(f:N.n<=60):Ag N.n (msP N π P)<1000000000:=by
 have h:∀u,u<N.n->msP N π P u<=4800001:=λu b=>by have:=(t u b).2;unfold msP;rw[c u b];dsimp only;lia
 have d:∀k:Nat,Ag k (λ_=>(4800001:Int))=4800001*k:=λk=>by
  induction k with
  |zero=>rfl
  |succ k e=>
   show Ag k _+4800001=_;rw[e];lia
 have:=Er h;rw[d]at this;lia
theorem ZB6(K:SN N lk a x Γ)(o:x.Ok N)(ok:N.Ok)(d:LkOf N lk)(U:N.n<=60)(way:N.Way (Ab x.R))(v:N.Pot (Ab x.R) π)(hz:π N.n=0)(t:topW N π):
  ∃j:List Int,j.length=N.n+1/\Ir [.ref a.o] Γ=.ok (.ref Γ.length) (Γ++[.lst (j.map D.int)])/\N.Fix (Ab x.R) (Ab j)/\(∀u,u<=N.n->Ab j u<=π u):=by
 have gn:∀u,gP (zQ N.n (uZ:Option Int)++[uQ 0]) u=if u=N.n then uQ 0 else uZ:=λu=>by
  unfold gP;rw[zW];by_cases e:u=N.n
  .rw[if_pos e,e];simp
  rw[if_neg e];by_cases h:u<N.n
  .rw[z9 (by simpa using h),qG,if_pos h];rfl
  rw[zA (by simp;lia)];rfl
 have C:WV N (Ab x.R) π (zQ N.n uZ++[uQ 0]):=by
  refine⟨by simp,by rw[gn,if_pos rfl],λu y h b=>?_,λu y b h=>?_⟩
  .rw[gn]at h;split at h
   .rename_i e;cases h;rw[e,hz];exact q9 _
   cases h
  rw[gn,if_neg (by lia)]at h;cases h
 have hs:=ZJg t C (λu b=>by rw[gn,if_neg (by lia)]) U;have O:fuel=(fuel-1)+1:=by unfold fuel;lia
 obtain⟨P,Z,w4,B,V,w,H⟩:=ZFv K o ok d (by lia) way v (λu b=>(t u b).1) (fuel-1) _ uZ uZ C (by unfold fuel;lia);rw[<-O]at B;obtain⟨F,le⟩:=ZOc ok d V w H;have val:∀u,u<=N.n->gP P u=uQ (dP P u):=λu b=>by
  obtain⟨y,h,_⟩:=w u b;unfold dP;rw[h]
  rfl
 have f:((zX (N.n+1)).map (dP P)).length=N.n+1:=by simp
 have c:∀u,u<=N.n->Ab ((zX (N.n+1)).map (dP P)) u=dP P u:=λu b=>by rw[Hl (by rw[f];lia)];simp
 have hP:P.map moD=((zX (N.n+1)).map (dP P)).map D.int:=by
  refine qS (by simp[V.len]) λi g A=>?_
  have J:i<P.length:=by simpa using g
  have q:=val i (by have:=V.len;lia);unfold gP at q;rw[zW,zJ J]at q;have r:P[i]=uQ (dP P i):=q;simp[r,moD]
 refine⟨(zX (N.n+1)).map (dP P),f,?_,?_,λu b=>(c u b)▸le u b⟩
 .rw[<-hP];have I:Ei (.ref a.l) Γ=.ok (.mt a.l) Γ:=by simp[Ei,K.hl]
  have p:∀S:DSt,Bh 1 [] S=[uZ]:=λ_=>rfl
  have T:Ek a.l (gV 0) Ar ZDy [uZ] (x.L.map D.int).length 0 Γ=.ok (zQ (N.n+1) .non) Γ:=by
   rw[ZGK K.hl λy _=>⟨[uQ y],rfl,.inr ⟨rfl,.non,rfl,rfl⟩⟩,xJ];have e:(x.L.map D.int).map (λ_=>D.non)=zQ (N.n+1) D.non:=by rw[List.map_const'];simp[o.ll]
   rw[e]
  have s:(zQ (N.n+1) D.non).length<=1000000:=by simp;lia
  have m:Gd (.ref Γ.length) (.int (-1)) (.int 0) (Γ++[.lst (zQ (N.n+1) .non)])=.ok .non (Γ++[.lst ((zQ N.n (uZ:Option Int)++[uQ 0]).map moD)]):=by
   rw[Jv,Ng];dsimp only;rw[show ixN (zQ (N.n+1) D.non).length (-1)=uQ N.n by simp[ixN];lia];dsimp only;rw[Fi]
   congr 2
   rw[List.replicate_succ',List.set_append_right _ _ (by simp)];simp[moD]
  have k:=K.hl;generalize x.L.map D.int=Y at*;generalize(zQ N.n (uZ:Option Int)++[uQ 0]).map moD=Y0 at*;generalize zQ (N.n+1) D.non=Y1 at*;unfold Ir ZCs;rw[Aw];simp[-Jv,K.left,I,p,k,T,s,m,B,Dp (Fj λ_ _=>ZHB)]
 refine⟨by rw[c _ (zx _)];exact F.z,λl g A M=>?_,λu b=>?_,λu b=>by rw[c u (by lia)];exact F.lo u b⟩
 .rw[c _ (ok.to l g),c _ (by lia)];exact F.fix l g A M
 .obtain⟨l,E,W,X,Q⟩:=F.att u b;exact⟨l,E,W,X,by rw[c u (by lia),c _ (ok.to l E)];exact Q⟩
end
noncomputable def adr(g n:Nat):Ad:=⟨g,g+1,g+n+3,g+n+4,g+n+5,g+n+6,λu=>g+2+u⟩
theorem ZB3{g:Nat}:(adr g n).Ok n:=by constructor <;> (try intro u a)<;>(simp only[adr];lia)
noncomputable def Lks.cut(N:Lks)(k:Nat):Lks:=⟨N.n,k,N.fr,N.to,N.wo⟩
noncomputable def lkC(N:Lks)(k u:Nat):List Nat:=(zX k).filter λl=>N.fr l=u
theorem ZJW{N:Lks}:LkOf N (lkC N N.q):=λu l=>by unfold lkC;simp
theorem Rj{p:Nat}{xs:List D}(h:Γ[p]?=uQ (.lst xs))(a:xs.length<1000000):Cp (.ref p) [d] Γ=.ok .non (Γ.set p (.lst (xs++[d]))):=by rw[ZFZ,h];exact if_pos a
theorem get_set{p:Nat}{b:DO}(a:p≠i)(h:Γ[i]?=uQ o):(Γ.set p b)[i]?=uQ o:=by rw[z8 a];exact h
theorem Rm{p:Nat}{a:DO}(h:Γ[p]?=uQ o):(Γ.set p a)[p]?=uQ a:=qw (zY.mp h).1
section
variable{N:Lks}{k g:Nat}{x:LR}{Γ:DH}
theorem ZDt(K:SN (N.cut k) (lkC N k) (adr g N.n) x Γ)(hk:k<1000)(hR:x.R.length=k)(C:N.fr k<=N.n){ga room:Int}(hw:N.wo k=ga*((N.n:Int)+1)-1)(hg: -1000<=ga/\ga<=1000):
  ∃f,Hj [.ref g,.int (N.fr k:Int),.int (N.to k:Int),.int ga,.int room] Γ=.ok .non f/\SN (N.cut (k+1)) (lkC N (k+1)) (adr g N.n) ⟨x.L,x.R++[room]⟩ f/\f.length=Γ.length/\∀i,i<g->f[i]?=Γ[i]? :=by
 have q:=K.ho;have J:Γ[g+N.n+3]?=uQ (.lst ((zX (N.n+1)).map λu=>D.ref (g+2+u))):=K.hf;have z:∀u,u<=N.n->Γ[g+2+u]?=uQ (.lst (Bf (lkC N k u))):=K.hfa;have B:Γ[g+N.n+4]?=uQ (.lst (Bf ((zX k).map N.to))):=K.he;have w0:Γ[g+N.n+5]?=uQ (.lst (((zX k).map N.wo).map D.int)):=K.hw;have X:=K.hr;have h:(Bf (lkC N k (N.fr k))).length<1000000:=by unfold Bf lkC;rw[zj];have:=List.length_filter_le (λl=>decide (N.fr l=N.fr k)) (zX k);rw[jL]at this;lia
 have j:(Bf ((zX k).map N.to)).length=k:=by simp[Bf]
 have H:(((zX k).map N.wo).map D.int).length=k:=by simp
 have F:(x.R.map D.int).length=k:=by simp[hR]
 generalize I:Bf (lkC N k (N.fr k))=m at*;generalize T:Bf ((zX k).map N.to)=A at*;generalize hW:((zX k).map N.wo).map D.int=y at*;generalize hX:x.R.map D.int=XR at*;have v:Γ[g+2+N.fr k]?=uQ (.lst m):=by rw[z _ C,I]
 let b:=Γ.set (g+2+N.fr k) (.lst (m++[.int (k:Int)]));let a:=b.set (g+N.n+4) (.lst (A++[.int (N.to k:Int)]));let c:=a.set (g+N.n+5) (.lst (y++[.int (N.wo k)]));let d:=c.set (g+N.n+6) (.lst (XR++[.int room]));have w:b[g]?=_:=get_set (by lia) q;have p:a[g]?=_:=get_set (by lia) w;have E:c[g]?=_:=get_set (by lia) p;have r:b[g+N.n+4]?=_:=get_set (by lia) B;have s:a[g+N.n+5]?=_:=get_set (by lia) (get_set (by lia) w0)
 have r2:a[g+N.n+6]?=_:=get_set (by lia) (get_set (by lia) X);have t:c[g+N.n+6]?=_:=get_set (by lia) r2;refine⟨d,?_,?_,by simp[d,c,a,b],λi hi=>?_⟩
 .have Y:Cp (.ref (g+2+N.fr k)) [.int (k:Int)] Γ=.ok .non b:=Rj v h;have S:Cp (.ref (g+N.n+4)) [.int (N.to k:Int)] b=.ok .non a:=Rj r (by lia);have p3:Cp (.ref (g+N.n+5)) [.int (N.wo k)] a=.ok .non c:=Rj s (by lia);have p4:Cp (.ref (g+N.n+6)) [.int room] c=.ok .non d:=Rj t (by lia);have W:Cz "Sending" "links_from" (.ref g) Γ=.ok (.ref (g+N.n+3)) Γ:=Dm q rfl;have q2:Cz "Sending" "ends" (.ref g) Γ=.ok (.ref (g+N.n+4)) Γ:=Dm q rfl
  have q3:Cz "Sending" "ends" (.ref g) b=.ok (.ref (g+N.n+4)) b:=Dm w rfl;have q4:Cz "Sending" "worths" (.ref g) a=.ok (.ref (g+N.n+5)) a:=Dm p rfl;have q5:Cz "Sending" "scale" (.ref g) a=.ok (.int ((N.n:Int)+1)) a:=Dm p rfl;have q6:Cz "Sending" "rooms" (.ref g) c=.ok (.ref (g+N.n+6)) c:=Dm E rfl;have Z:Ae (.ref (g+N.n+3)) (.int (N.fr k:Int)) Γ=.ok (.ref (g+2+N.fr k)) Γ:=Hr J (Dg (k:=N.fr k) (by lia) (by rw[zv,qx (by lia)];rfl))
  have P:Bb [.ref (g+N.n+4)] Γ=.ok (.int (k:Int)) Γ:=by rw[Qs,B];dsimp only;rw[j]
  have U:Ax (.int ga) (.int ((N.n:Int)+1)) a=.ok (.int (ga*((N.n:Int)+1))) a:=Dn (by lia) (by lia);have Q:tidy Γ (.ok .non d)=.ok .non d:=J0 (by simp[d,c,a,b]) rfl
  clear_value d c a b
  unfold Hj ZEv;rw[Aw];simp[-ZFZ,-Qs,-Oz,v,r,s,t,Y,S,p3,p4,W,q2,q3,q4,q5,q6,Z,P,U,Q,hw.symm,Bw]
 .have M:(zX (k+1)).map N.to=(zX k).map N.to++[N.to k]:=by rw[xw,zO];rfl
  have s2:(zX (k+1)).map N.wo=(zX k).map N.wo++[N.wo k]:=by rw[xw,zO];rfl
  refine⟨ZB3,get_set (by simp[adr];lia) E,get_set (by simp[adr];lia) (get_set (by simp[adr];lia) (get_set (by simp[adr];lia) (get_set (by simp[adr];lia) K.hl))),get_set (by simp only[adr];lia) (get_set (by simp only[adr];lia) (get_set (by simp only[adr];lia) (get_set (by simp[adr];lia) J))),λu hu=>?_,?_,?_,?_⟩
  .have o:u<=N.n:=hu;refine get_set (by simp[adr];lia) (get_set (by simp[adr];lia) (get_set (by simp[adr];lia) ?_));have O:lkC N (k+1) u=lkC N k u++if N.fr k=u then[k]else[]:=by
    unfold lkC;rw[xw,List.filter_append]
    congr 1
    by_cases e:N.fr k=u<;>simp[e]
   show b[g+2+u]?=_;rw[O];by_cases e:N.fr k=u
   .subst e;rw[if_pos rfl];refine(Rm v).trans ?_;rw[<-I];simp[Bf]
   rw[if_neg e,qJ];exact get_set (by lia) (z u o)
  .refine get_set (by simp only[adr];lia) (get_set (by simp only[adr];lia) ((Rm r).trans ?_));show uQ (DO.lst (A++_))=uQ (DO.lst (Bf ((zX (k+1)).map N.to)));rw[M,<-T];simp[Bf]
  .refine get_set (by simp only[adr];lia) ((Rm s).trans ?_);show uQ (DO.lst (y++_))=uQ (DO.lst (((zX (k+1)).map N.wo).map D.int));rw[s2,<-hW];simp
  refine(Rm t).trans ?_;rw[<-hX];simp
 have n1:(Γ.set (g+2+N.fr k) (.lst (m++[.int (k:Int)])))[i]?=Γ[i]? :=z8 (by lia);rw[<-n1,<-z8 (l:=b) (i:=g+N.n+4) (by lia)];rw[<-z8 (l:=a) (i:=g+N.n+5) (by lia)];exact z8 (by lia)
end
def Es(wide:Int)(as:List Arc):List Int:=as.flatMap λa=>[Hc wide a,0]
theorem T9:∀as:List Arc,(Es wide as).length=2*as.length
 |[]=>rfl
 |a::as=>by show(Hc wide a::0::Es wide as).length=_;rw[zN,zN,T9 as,zN];lia
theorem Oq:∀(as:List Arc)(i:Nat),i<as.length->Ab (Es wide as) (2*i)=Hc wide (Aq as i)/\Ab (Es wide as) (2*i+1)=0
 |a::as,0,_=>⟨rfl,rfl⟩
 |a::as,i+1,h=>Oq as i (by simpa using h)
section
variable{n g:Nat}{as:List Arc}{L:List Int}{wide:Int}
theorem ZPu{pre rest:List Arc}{a:Arc}:Aq (pre++a::rest) pre.length=a:=by unfold Aq;rw[zW];simp
theorem ZBc(hok:∀x∈as,ArcOk n x)(Y:as.length<=400){o:Nat}(k:o<g):∀(rest pre:List Arc)(Γ:DH)(z:Option D),as=pre++rest->Γ[o]?=uQ (.lst (as.map encA))->SN ((lkN n as).cut (2*pre.length)) (lkC (lkN n as) (2*pre.length)) (adr g n) ⟨L,Es wide pre⟩ Γ->
  ∃c w,_D.forM o (gV 5) J8 rest.length pre.length [zR g,s1,s2,s3,zI wide,z] Γ=.nx [zR g,s1,s2,s3,zI wide,w] c/\SN ((lkN n as).cut (2*as.length)) (lkC (lkN n as) (2*as.length)) (adr g n) ⟨L,Es wide as⟩ c/\c.length=Γ.length/\∀i,i<g->c[i]?=Γ[i]?
 |[],pre,Γ,z,h,e,K=>by rw[qJ]at h;subst h;exact⟨Γ,z,Ws e (by simp),K,rfl,λ_ _=>rfl⟩
 | a::rest,pre,Γ,z,h,e,K=>by
  have C:Aq as pre.length=a:=h▸ZPu;have q:pre.length<as.length:=by rw[h];simp
  have u:=ArcOk.of hok q;rw[C]at u;have r:(lkN n as).fr (2*pre.length)=a.fr/\(lkN n as).to (2*pre.length)=a.to/\gaN as (2*pre.length)=a.ga:=by have:=Nk (n:=n) (as:=as) (l:=2*pre.length) (by lia);rw[show 2*pre.length/2=pre.length by lia,C]at this;exact this
  have s:(lkN n as).fr (2*pre.length+1)=a.to/\(lkN n as).to (2*pre.length+1)=a.fr/\gaN as (2*pre.length+1)= -a.ga:=by have:=Q9 (n:=n) (as:=as) (l:=2*pre.length+1) (by lia);rw[show(2*pre.length+1)/2=pre.length by lia,C]at this;exact this
  have h1:=u.lt;have h4:=u.ga;obtain⟨d,f,H,P,M⟩:=ZDt K (by lia) (T9 pre) (by rw[r.1];show a.fr<=n;lia) (by show gaN as _*_-1=_;rw[r.2.2];rfl) h4;obtain⟨m,E,J,Z,F⟩:=ZDt H (by lia) (by simp[T9]) (s.1▸u.le) (by show gaN as _*_-1=_;rw[s.2.2];rfl) (by lia);rw[r.1,r.2.1]at f;rw[s.1,s.2.1]at E;have U:2*pre.length+1+1=2*(pre++[a]).length:=by simp;lia
  have T:Es wide pre++[Hc wide a]++[0]=Es wide (pre++[a]):=by unfold Es;rw[List.flatMap_append];simp
  rw[U]at J;have A:SN ((lkN n as).cut (2*(pre++[a]).length)) (lkC (lkN n as) (2*(pre++[a]).length)) (adr g n) ⟨L,Es wide (pre++[a])⟩ m:=by rw[<-T];exact J
  obtain⟨c,w,I,Q,W,p3⟩:=ZBc hok Y k rest (pre++[a]) m (uQ (encA a)) (by rw[h];simp) (by rw[F o k,M o k];exact e) A;refine⟨c,w,?_,Q,by rw[W,Z,P],λi B=>by rw[p3 i B,F i B,M i B]⟩;have O:∀(t:DA)(S:DSt),Hw "Sending" "add_link" Hj t S (.ref g) Γ=(t S Γ).bind λv y=>Hj (.ref g::v) y:=λt S=>K.meth λ_ _ _ _ _ _=>rfl
  have N:∀(t:DA)(S:DSt),Hw "Sending" "add_link" Hj t S (.ref g) d=(t S d).bind λv y=>Hj (.ref g::v) y:=λt S=>H.meth λ_ _ _ _ _ _=>rfl
  have hb:J8 [zR g,s1,s2,s3,zI wide,uQ (encA a)] Γ=.nx [zR g,s1,s2,s3,zI wide,uQ (encA a)] m:=by
   unfold J8 encA;cases p:a.mo with
   |none=>
    have j:Hj [.ref g,.int (a.fr:Int),.int (a.to:Int),.int a.ga,.int wide] Γ=.ok .non d:=by unfold Hc at f;rw[p]at f;exact f
    simp[O,N,j,E,moD,Du]
   |some b=>
    have j:Hj [.ref g,.int (a.fr:Int),.int (a.to:Int),.int a.ga,.int b] Γ=.ok .non d:=by unfold Hc at f;rw[p]at f;exact f
    simp[O,N,j,E,moD,Du]
  have X:(as.map encA)[pre.length]?=uQ (encA a):=by rw[h];simp
  rw[show(pre++[a]).length=pre.length+1 by simp]at I;show _D.forM o (gV 5) J8 (rest.length+1) pre.length _ _=_;rw[ZAi e X];simp[Eb,R.Ej,qT,hb,Fq];exact I
theorem ZGt{p:Nat}{Y:List D}:∀(k j:Nat)(Γ:DH),Γ[p]?=uQ (.lst Y)->j+k=Y.length->Ek p (gV 0) Ar M4 [uZ] k j Γ=.ok ((zX k).map λi=>D.ref (Γ.length+i)) (Γ++zQ k (.lst []))
 |0,j,Γ,h,a=>by unfold Ek;rw[h];dsimp only;rw[if_pos (by lia)];simp
 | k+1,j,Γ,h,a=>by
  have d:tidy Γ (.ok (.ref Γ.length) (Γ++[.lst []]))=.ok (.ref Γ.length) (Γ++[.lst []]):=Dp rfl;have c:M4 [uQ Y[j]] Γ=.ok (.ref Γ.length) (Γ++[.lst []]):=by unfold M4;simp[d]
  have b:=ZGt k (j+1) (Γ++[.lst []]) (by rw[z9 (zY.mp h).1];exact h) (by lia);unfold Ek;rw[h];dsimp only;rw[zJ (by lia)];dsimp only;simp[Eb,R.Dv,qT,Ar,if_true,c];rw[b];simp only[R.Dv]
  congr 1
  .rw[qM,zK,q8]
   congr 1
   refine jJ λi _=>?_
   simp;lia
  simp[qW]
end
theorem fset{T:DH}{fs:List (Str×D)}{f:Str}(h:fs.length<1000):Jl "Sending" f (.ref G.length) d S (G++ .ins "Sending" fs::T)=.nx S (G++ .ins "Sending" (Hg f d fs)::T):=by
 rw[ZA6 (by simp) h,Fi]
 rfl
theorem Sy{T H':DH}{fs:List (Str×D)}{f:Str}{a:DE}(c:a S H=.ok d H')(e:S[0]?=uQ (zR G.length))(g:H'=G++ .ins "Sending" fs::T)(h:fs.length<1000):Ck "Sending" (dV 0) a f S H=.nx S (G++ .ins "Sending" (Hg f d fs)::T):=by
 have b:dV 0 S H'=.ok (.ref G.length) H':=by simp[e]
 rw[ZEV,c,R.Ej,b,R.Ej,g];exact fset h
theorem ZMR{s:List Int}(c:S[3]?=uQ (zF (s.map D.int)))(g:s.length<1000):Bl (dOp Ai (Aj (dFn Gf (Aa (dV 3) Ac))) (Aj (dFn Ah (Aa (dC (.int 0)) Ac)))) S H=.ok (.ref H.length) (H++[.lst ((s++[0]).map D.int)]):=by
 have d:freeze H (.ok (.ref H.length) (H++[.lst (s.map D.int)]))=.ok (.fl (s.map D.int)) H:=Bk Dc;have b:freeze H (.ok (.ref H.length) (H++[.lst [.int 0]]))=.ok (.fl [.int 0]) H:=Bk rfl;have e:(s++[0]).map D.int=s.map D.int++[.int 0]:=by simp
 have f:tidy H (.ok (.ref H.length) (H++[.lst (s.map D.int++[.int 0])]))=.ok (.ref H.length) (H++[.lst (s.map D.int++[.int 0])]):=Dp (by rw[<-e];exact Dc);have a:(s.map D.int).length+1<=1000000:=by simp;lia
 rw[e];clear e;generalize s.map D.int=Z at*;simp[c,d,b,Ah,a,f]
theorem Zm:Bl (dFn Ah Ac) S H=.ok (.ref H.length) (H++[.lst []]):=by have a:tidy H (.ok (.ref H.length) (H++[.lst []]))=.ok (.ref H.length) (H++[.lst []]):=Dp rfl;simp[Ah,a]
section
variable{n:Nat}{as:List Arc}{s:List Int}
theorem ZQF(ok:NetOk n as s)(G:DH){d:Nat}(X:G[d]?=uQ (.lst (as.map encA))):∃Γ,Qc [.ref G.length,.int n,.ref d,.fl (s.map D.int)] (G++[.ins "Sending" []])=.ok .non Γ/\SN (lkN n as) (lkC (lkN n as) (lkN n as).q) (adr G.length n) ⟨s++[0],Es (s.sum+1) as⟩ Γ/\Γ.take G.length=G/\G.length<Γ.length:=by
 have n30:=ok.n2;have m40:=ok.len;have O:=ok.sl;let R:=(zX (n+1)).map λi=>D.ref (G.length+2+i)
 let b:DH:=G++[.ins "Sending" [("scale",.int ((n:Int)+1)),("left",.ref (G.length+1))],.lst ((s++[0]).map D.int)];let x:DH:=G++ .ins "Sending" [("scale",.int ((n:Int)+1)),("left",.ref (G.length+1)),("links_from",.ref (G.length+n+3))]:: .lst ((s++[0]).map D.int)::(zQ (n+1) (.lst [])++[.lst R]);let c:DH:=G++ .ins "Sending" (flds n (G.length+1) (G.length+n+3) (G.length+n+4) (G.length+n+5) (G.length+n+6)):: .lst ((s++[0]).map D.int)::(zQ (n+1) (.lst [])++[.lst R,.lst [],.lst [],.lst []])
 have K6:SN ((lkN n as).cut (2*([]:List Arc).length)) (lkC (lkN n as) (2*([]:List Arc).length)) (adr G.length n) ⟨s++[0],Es (s.sum+1) []⟩ c:=by
  have A:∀(k:Nat)(o:DO),(DO.ins "Sending" (flds n (G.length+1) (G.length+n+3) (G.length+n+4) (G.length+n+5) (G.length+n+6)):: .lst ((s++[0]).map D.int)::(zQ (n+1) (.lst [])++[.lst R,.lst [],.lst [],.lst []]))[k]?=uQ o->c[G.length+k]?=uQ o:=λk o h=>by rw[zD (by lia),qA];exact h
  have B:∀(k:Nat)(o:DO),[DO.lst R,.lst [],.lst [],.lst []][k]?=uQ o->c[G.length+(n+3+k)]?=uQ o:=λk o h=>by refine A _ _ ?_;rw[show n+3+k=(n+1+k)+1+1 by lia,jW,jW,zD (by simp)];simpa using h
  refine⟨ZB3,A 0 _ rfl,A 1 _ rfl,B 0 _ rfl,λu hu=>?_,B 1 _ rfl,B 2 _ rfl,B 3 _ rfl⟩;have hu':u<=n:=hu;have:=A (2+u) (.lst []) (by rw[show 2+u=u+1+1 by lia,jW,jW,z9 (by simp;lia),qG,if_pos (by lia)])
  rw[<-Nat.add_assoc]at this;exact this
 have v:=(zY.mp X).1;have N:c[d]?=uQ (.lst (as.map encA)):=by rw[z9 v];exact X
 obtain⟨Γ,w,hL,K,y,p⟩:=ZBc ok.arc (by lia) v (s1:=zI n) (s2:=zR d) (s3:=zF (s.map D.int)) as [] c uZ rfl N K6;have M:G.length<Γ.length:=by rw[y];simp[c]
 refine⟨Γ,?_,K,?_,M⟩
 .let a:DSt:=[zR G.length,zI n,zR d,zF (s.map D.int),zI (s.sum+1),uZ];let g:DH:=G++[.ins "Sending" [("scale",.int ((n:Int)+1))]];let l:DH:=G++ .ins "Sending" [("scale",.int ((n:Int)+1)),("left",.ref (G.length+1)),("links_from",.ref (G.length+n+3)),("ends",.ref (G.length+n+4))]:: .lst ((s++[0]).map D.int)::(zQ (n+1) (.lst [])++[.lst R,.lst []]);let r:DH:=G++ .ins "Sending" [("scale",.int ((n:Int)+1)),("left",.ref (G.length+1)),("links_from",.ref (G.length+n+3)),("ends",.ref (G.length+n+4)),("worths",.ref (G.length+n+5))]:: .lst ((s++[0]).map D.int)::(zQ (n+1) (.lst [])++[.lst R,.lst [],.lst []])
  have t1:sAs (dOp Ai (dFn Gi (Aa (dV 3) Ac)) (dC (.int 1))) (gV 4) [zR G.length,zI n,zR d,zF (s.map D.int),uZ,uZ] (G++[.ins "Sending" []])=.nx a (G++[.ins "Sending" []]):=by show _=SR.nx [zR G.length,zI n,zR d,zF (s.map D.int),zI (s.sum+1),uZ] _;simp
  have t2:Ck "Sending" (dV 0) (dOp Ai (dV 1) (dC (.int 1))) "scale" a (G++[.ins "Sending" []])=.nx a g:=Sy (fs:=[]) (by simp[a]) rfl rfl (by simp);have Y:Ck "Sending" (dV 0) (Bl (dOp Ai (Aj (dFn Gf (Aa (dV 3) Ac))) (Aj (dFn Ah (Aa (dC (.int 0)) Ac))))) "left" a g=.nx a b:=by
   have e:(D.ref g.length)=D.ref (G.length+1):=by simp[g]
   have:=Sy (f:="left") (ZMR (S:=a) rfl (by lia)) rfl (show g++[DO.lst ((s++[0]).map D.int)]=G++ .ins "Sending" [("scale",.int ((n:Int)+1))]::[DO.lst ((s++[0]).map D.int)] by simp[g]) (by simp);rw[e]at this;exact this
  have m:b.length=G.length+2:=by simp[b]
  have j:b[G.length+1]?=uQ (.lst ((s++[0]).map D.int)):=by
   rw[zD (by lia),qA]
   rfl
  have C:0+(n+1)=((s++[0]).map D.int).length:=by simp[O]
  have t:=ZGt (n+1) 0 b j C;have cv:Bv (Dt (Av "Sending" (dV 0) "left")) 1 [] (gV 0) Ar M4 a b=.ok (.ref (G.length+n+3)) (b++zQ (n+1) (.lst [])++[.lst R]):=by
   have I:Cz "Sending" "left" (.ref G.length) b=.ok (.ref (G.length+1)) b:=Dm (fs:=[("scale",.int ((n:Int)+1)),("left",.ref (G.length+1))]) (by simp[b]) rfl;have E:Ei (.ref (G.length+1)) b=.ok (.mt (G.length+1)) b:=by simp[Ei,j]
   have F:∀S:DSt,Bh 1 [] S=[uZ]:=λ_=>rfl
   have P:((zX (n+1)).map λi=>D.ref (b.length+i))=R:=by
    refine jJ λi _=>?_
    rw[m]
   rw[P]at t;have e4:R.length<=1000000:=by simp[R];lia
   have e5:(b++zQ (n+1) (DO.lst [])).length=G.length+n+3:=by simp[m];lia
   have J:a[0]?=uQ (zR G.length):=rfl;have Q:((s++[0]).map D.int).length=n+1:=by lia
   clear_value R b a
   generalize(s++[0]).map D.int=Z at*;generalize b++zQ (n+1) (DO.lst [])=H2' at*;simp[I,E,J,Q,F,j,t,Ah,e4,e5]
  have t4:Ck "Sending" (dV 0) (Bv (Dt (Av "Sending" (dV 0) "left")) 1 [] (gV 0) Ar M4) "links_from" a b=.nx a x:=by have:=Sy (f:="links_from") cv rfl (show b++zQ (n+1) (.lst [])++[.lst R]=G++ .ins "Sending" [("scale",.int ((n:Int)+1)),("left",.ref (G.length+1))]::(.lst ((s++[0]).map D.int)::(zQ (n+1) (.lst [])++[.lst R])) by simp[b]) (by simp);exact this
  have nx:∀(H:DH)(T:DH)(fs:List (Str×D))(f:Str)(k:Nat),H=G++ .ins "Sending" fs::T->H.length=k->fs.length<1000->Ck "Sending" (dV 0) (Bl (dFn Ah Ac)) f a H=.nx a (G++ .ins "Sending" (Hg f (.ref k) fs)::(T++[.lst []])):=λH T fs f k I E P=>by rw[<-E];exact Sy Zm rfl (by rw[I];simp) P
  have t5:Ck "Sending" (dV 0) (Bl (dFn Ah Ac)) "ends" a x=.nx a l:=by have:=nx x _ _ "ends" (G.length+n+4) rfl (by simp[x];lia) (by simp);simp only[j9,qX,xY]at this;exact this
  have t6:Ck "Sending" (dV 0) (Bl (dFn Ah Ac)) "worths" a l=.nx a r:=by have:=nx l _ _ "worths" (G.length+n+5) rfl (by simp[l];lia) (by simp);simp only[j9,qX,xY,qC]at this;exact this
  have t7:Ck "Sending" (dV 0) (Bl (dFn Ah Ac)) "rooms" a r=.nx a c:=by have:=nx r _ _ "rooms" (G.length+n+6) rfl (by simp[r];lia) (by simp);simp only[j9,qX,xY,qC]at this;exact this
  have t8:Cd (Dt (dV 2)) (gV 5) J8 a c=.nx [zR G.length,zI n,zR d,zF (s.map D.int),zI (s.sum+1),w] Γ:=by
   have J:dV 2 a c=.ok (.ref d) c:=rfl;have Q:Ei (.ref d) c=.ok (.mt d) c:=by simp[Ei,N]
   rw[ZLt,ZKH,J,_D.R.Dv,Q]
   show(match c[d]? with |some (.lst xs)=>_D.forM d (gV 5) J8 xs.length 0 a c|_=>.bad)=_
   rw[N];show _D.forM d (gV 5) J8 (as.map encA).length 0 a c=_;rw[zj];exact hL
  have td:tidy (G++[.ins "Sending" []]) (.ok .non Γ)=.ok .non Γ:=by
   refine ZFP λz=>?_
   have W:(Γ.take (G++[DO.ins "Sending" []]).length)[G.length]?=uQ (.ins "Sending" []):=by rw[z];simp
   rw[qz (by simp)]at W;have U:Γ[G.length]?=uQ (.ins "Sending" (flds n _ _ _ _ _)):=K.ho;rw[W]at U;cases U
  clear_value c r l x b g a
  unfold Qc ZFw;rw[Aw];simp only[S6,zK,qK,j9,qC,zQ,t1,t2,Y,t4,t5,t6,t7,t8,Qv];simp[td]
 refine jM λi=>?_
 by_cases L:i<G.length
 .rw[qz L,p i L,z9 L]
 rw[zA (by rw[qR];lia),zA (by lia)]
end
theorem ZCq:∀l:List Nat,Ie (Bf l)=uQ (l.map λ(i:Nat)=>V.int (i:Int))
 |[]=>rfl
 |i::l=>by
  show Ie (.int (i:Int)::Bf l)=_;unfold Ie;rw[ZCq l]
  rfl
theorem ZGB(d:Nat):∀l:List Nat,inV (.int (d:Int)) (l.map λ(i:Nat)=>V.int (i:Int))=decide (d∈l)
 |[]=>rfl
 |i::l=>by
  have e:=ZGB d l;unfold inV at*;rw[zK,xV,e];by_cases h:d=i
  .subst h;simp[eqV]
  have c:¬i=d:=λz=>h z.symm
  have b:¬((i:Int)=(d:Int)):=by lia
  simp[eqV,h,c,b]
section
variable{n:Nat}{as:List Arc}{s:List Int}
theorem ZJV(ok:NetOk n as s)(G:DH){c:Nat}(A:G[c]?=uQ (.lst (as.map encA))):Rw [.int n,.ref c] G=.ok .non G:=by
 have J:=ok.n2;have H:=ok.len
 let F:D->Option D:=λd=>match d with
  |.tup [a,_,.non,_]=>uQ a
  |_=>uZ
 have q:∀S:DSt,Bh 1 [] S=[uZ]:=λ_=>rfl
 have C:Ek c (gV 0) Uh Vr [uZ] (as.map encA).length 0 G=.ok ((as.map encA).filterMap F) G:=ZGK A λy E=>by
  obtain⟨x,W,rfl⟩:=qY.mp E;refine⟨[uQ (encA x)],rfl,?_⟩;unfold Uh Vr;cases h:x.mo with
  |none=>
   refine .inr ⟨?_,.int x.fr,?_,?_⟩
   .simp[encA,h,moD,Du]
   .simp[encA]
   simp[encA,h,moD,F]
  |some b=>
   refine .inl ⟨?_,?_⟩
   .simp[encA,h,moD,Du]
   simp[encA,h,moD,F]
 have L:∀l:List Arc,(l.map encA).filterMap F=Bf ((l.filter λx=>x.mo.isNone).map Arc.fr):=λl=>by
  induction l with
  |nil=>rfl
  |cons x l m=>
   rw[zK,qE];cases h:x.mo with
   |_=>simp[encA,h,moD,F,List.filter_cons,Bf]at m⊢;exact m
 rw[L]at C;have j:∀u,u<n->u∈(as.filter λx=>x.mo.isNone).map Arc.fr:=λu t=>by obtain⟨x,M,o,K⟩:=ok.way u t;exact qY.mpr ⟨x,List.mem_filter.mpr ⟨M,by rw[K];rfl⟩,o⟩
 have p:(Bf ((as.filter λx=>x.mo.isNone).map Arc.fr)).length<=1000000:=by have:=List.length_filter_le (λx:Arc=>x.mo.isNone) as;simp[Bf,zj];lia
 have I:freeze G (.ok (.ref G.length) (G++[.lst (Bf ((as.filter λx=>x.mo.isNone).map Arc.fr))]))=.ok (.fl (Bf ((as.filter λx=>x.mo.isNone).map Arc.fr))) G:=Bk (Fj λ_ _=>rfl);generalize(as.filter λx=>x.mo.isNone).map Arc.fr=U at*;have B:∀u,u<n->Iz (.int (u:Int)) (.fl (Bf U)) G=.ok (.bl uX) G:=λu t=>by
  unfold Iz inD;dsimp only
  rw[show Bm (.fl (Bf U)) G=uQ (Bf U)from rfl,show Kh (.int (u:Int))=uQ (V.int (u:Int))from rfl]
  dsimp only;rw[ZCq,Option.map_some,ZGB,decide_eq_true (j u t)]
  rfl
 have r:∀(k i:Nat)(z:Option D)(g f:Option D),i+k<=n->∃w,Bc (gV 3) O7 (Ay (i:Int) k) [g,f,zF (Bf U),z] G=.nx [g,f,zF (Bf U),w] G:=λk=>by
  induction k with
  |zero=>exact λi z g f _=>⟨z,rfl⟩
  |succ k m=>
   intro i z g f T;have O:O7 [g,f,zF (Bf U),zI (i:Int)] G=.nx [g,f,zF (Bf U),zI (i:Int)] G:=by unfold O7;generalize Bf U=Z at*;simp[B i (by lia)]
   obtain⟨w,o⟩:=m (i+1) (zI (i:Int)) g f (by lia);refine⟨w,?_⟩;rw[Gu,Eg];simp[Eb,R.Ej,qT,O,Fq];have e:(i:Int)+1=((i+1:Nat):Int):=by lia
   rw[e,o]
 obtain⟨w,r⟩:=r n 0 uZ (zI n) (zR c) (by lia);have Q:inR (n:Int):=⟨by lia,by lia⟩;have v:Bc (gV 3) O7 (Ay 0 n) [zI n,zR c,zF (Bf U),uZ] G=.nx [zI n,zR c,zF (Bf U),w] G:=r;generalize Bf U=Z at*;generalize as.map encA=Y at*;unfold Rw ZBh;rw[Aw];have P:Ei (.ref c) G=.ok (.mt c) G:=by simp[Ei,A]
 simp[P,A,q,C,Ah,p,I,Q,v,Bw]
end
section
variable{N:Lks}{lk:Nat->List Nat}{a:Ad}{x:LR}{Γ:DH}
theorem ZEC:∀(m:Nat)(R:List Int)(i:Nat),R.length=2*m->i%2=0->((R.zipIdx i).filterMap λp=>if p.2%2=1 then uQ p.1 else uZ)=(zX m).map λj=>R.getD (2*j+1) 0
 |0,R,i,h,_=>by
  have:=qP (by omega);subst this
  rfl
 | m+1,R,i,h,b=>by
  match R,h with
  |c::d::R,h=>
   rw[qD,qD,qE,qE,if_neg (by lia),if_pos (by lia)];dsimp only;rw[ZEC m R (i+1+1) (by simp at h;lia) (by lia),qM,zK,q8]
   rfl
theorem ZL9(K:SN N lk a x Γ)(o:x.Ok N)(v:N.q=2*m)(z:m<=1000):Ke [.ref a.o] Γ=.ok (.ref Γ.length) (Γ++[.lst (((zX m).map λi=>Ab x.R (2*i+1)).map D.int)]):=by
 have hs:=Nj K.hr;have rl:=o.rl
 let F:D->Option D:=λd=>match d with
  |.tup [.int i,r]=>if i%2=1 then uQ r else uZ
  |_=>uZ
 have b:∀S:DSt,Bh 2 [] S=[uZ,uZ]:=λ_=>rfl
 have h:∀j,G7 0 (.ref a.r) j Γ=uQ (El (x.R.map D.int))[j]? :=λj=>by
  have:=ZCt (xs:=x.R.map D.int) j Γ;unfold G7 at this⊢;rw[hs]
  rw[show Bm (.fl (x.R.map D.int)) Γ=uQ (x.R.map D.int)from rfl]at this
  exact this
 have l:Dl (G7 0 (.ref a.r)) (Bp 2 (Al (gV 0) (Al (gV 1) Bs))) Zu Vs [uZ,uZ] (x.R.map D.int).length 0 Γ=.ok ((El (x.R.map D.int)).filterMap F) Γ:=Wt h (λy k=>by
  unfold El at k;obtain⟨⟨r,i⟩,w,rfl⟩:=qY.mp k;refine⟨[zI (i:Int),uQ r],by simp,?_⟩;unfold Zu Vs;by_cases c:(i:Int)%2=1
  .exact .inr ⟨by simp[c],r,by simp,by simp[F,c]⟩
  exact .inl ⟨by simp[c],by simp[F,c]⟩) (by rw[Yz];exact zx _)
 have t:(El (x.R.map D.int)).filterMap F=((zX m).map λi=>Ab x.R (2*i+1)).map D.int:=by
  have:=ZEC m x.R 0 (by lia) rfl;unfold El Ab;rw[<-this,List.zipIdx_map,q8,jz,List.map_filterMap]
  congr 1
  funext p;obtain⟨r,i⟩:=p;have e:((i:Int)%2=1)=(i%2=1):=by simp;lia
  by_cases c:i%2=1<;>simp[F,c,e]
 rw[t]at l;have f:(((zX m).map λi=>Ab x.R (2*i+1)).map D.int).length<=1000000:=by simp;lia
 have u:tidy Γ (.ok (.ref Γ.length) (Γ++[.lst (((zX m).map λi=>Ab x.R (2*i+1)).map D.int)]))=.ok (.ref Γ.length) (Γ++[.lst (((zX m).map λi=>Ab x.R (2*i+1)).map D.int)]):=Dp Dc;have g:Eu [.ref a.r] Γ=.ok (.fn (x.R.map D.int).length (G7 0 (.ref a.r))) Γ:=by simp[Eu,I7,hs,lenOf]
 generalize((zX m).map λi=>Ab x.R (2*i+1)).map D.int=Z at*;generalize x.R.map D.int=Y at*;unfold Ke ZA8;rw[Aw];simp[K.rooms,g,b,l,Ah,f,u]
end
theorem Pa{s:List Int}:∀k:Nat,k<=s.length->Ag k (Ab s)=(s.take k).sum
 |0,_=>rfl
 |k+1,h=>by show Ag k (Ab s)+Ab s k=_;rw[Pa k (by lia),List.take_add_one,zJ (by lia),List.sum_append,Hl (by lia)];simp
structure BT (n:Nat) (as:List Arc) (s:Nat->Int) (wide:Int) (x:LR):Prop where
 b:Bal n as s wide x
 t:Ag (n+1) (Ab x.L)=wide-1
section
variable{n:Nat}{as:List Arc}{s:Nat->Int}{wide:Int}{x:LR}
theorem ZPH(ok:(lkN n as).Ok)(y:LR)(l:Nat)(c:Int)(K:y.Ok (lkN n as))(d:l<(lkN n as).q)(h:BT n as s wide y):BT n as s wide (y.sa (lkN n as) ((lkN n as).fr l) l c):=by
 refine⟨ZNj ok K d h.b,?_⟩;have g:Ag (n+1) (λv=>(if v=(lkN n as).fr l then c else 0))=c:=Gr (by have:_<=n:=ok.fr l d;lia);have f:Ag (n+1) (λv=>(if v=(lkN n as).to l then c else 0))=c:=Gr (by have:_<=n:=ok.to l d;lia);have e:Ag (n+1) (Ab (y.sa (lkN n as) ((lkN n as).fr l) l c).L)+Ag (n+1) (λv=>(if v=(lkN n as).fr l then c else 0))=Ag (n+1) (Ab y.L)+Ag (n+1) (λv=>(if v=(lkN n as).to l then c else 0)):=by
  rw[<-Ec,<-Ec];refine Ea λv _=>?_
  rw[Oh ok K d];lia
 have:=h.t;lia
structure Iv (n:Nat) (as:List Arc) (s:Nat->Int) (wide:Int) (x:LR) (Wl:List Int):Prop where
 ok:x.Ok (lkN n as)
 b:BT n as s wide x
 wl:Wl.length=n+1
 fx:(lkN n as).Fix (Ab x.R) (Ab Wl)
 pot:(lkN n as).Pot (Ab x.R) (Ab Wl)
 up:∀u,u<n->Ab Wl u<=40000*(n:Int)
def todo(n:Nat)(as:List Arc)(wide:Int)(x:LR)(Wl:List Int):Int:=Ag n (λu=>Ab Wl u+40000*(n:Int))*(40*wide)+far (lkN n as) (Ab Wl) x
theorem Rb(Z:Netw n as s wide)(K:x.Ok (lkN n as))(B:BT n as s wide x)(W:Nat->Int):0<=far (lkN n as) W x/\far (lkN n as) W x<40*wide:=by
 have e:=Z.n30;have g:∀u,u<n->0<=Ab x.L u*lnk (lkN n as) W u/\Ab x.L u*lnk (lkN n as) W u<=30*Ab x.L u:=λu d=>by
  have b:=K.ln u (by show u<=n;lia);have c:=Jz (N:=lkN n as) (W:=W) u;have f:lnk (lkN n as) W u<=30:=by have:_<=(n:Int):=c.2;lia
  refine⟨jq b c.1,?_⟩;rw[Int.mul_comm];exact qQ f b
 have b:=Er λu d=>(g u d).1
 rw[Hm]at b;have c:=Er λu d=>(g u d).2
 rw[Zy]at c;have f:=ZAJ (k:=n) (n:=n+1) (by lia) λv h=>K.ln v (by show v<=n;lia)
 have i:=B.t;have j:0<=Ag n s:=by have:=Er Z.sn;rw[Hm]at this;exact this
 refine⟨b,?_⟩;show Ag n _<_;lia
theorem ZO5{y:LR}{f c:List Int}(Z:Netw n as s wide)(I:Iv n as s wide x f)(o:Iv n as s wide y c)(le:∀u,u<=n->Ab c u<=Ab f u)(m:(lkN n as).Pot (Ab y.R) (Ab f))(S:Snt (lkN n as) (Ab f) (λl=>l<(lkN n as).q/\(lkN n as).fr l<n) x y)(h:0<Ag n (Ab x.L)):todo n as wide y c+1<=todo n as wide x f:=by
 have N:=Rb Z o.ok o.b (Ab c);have J:=Rb Z I.ok I.b (Ab f);have i:0<40*wide:=by lia
 have g:(∃u,u<n/\Ab c u+1<=Ab f u)->todo n as wide y c+1<=todo n as wide x f:=λB=>by
  obtain⟨u,d,j⟩:=B;have w:∀v,v<n->(Ab c v+40000*(n:Int))+(if v=u then 1 else 0)<=Ab f v+40000*(n:Int):=λv K=>by
   have:=le v (by lia);by_cases e:v=u
   .rw[if_pos e,e];lia
   rw[if_neg e];lia
  have k:=Er w;rw[Ec,Gr d]at k;have E:=qQ k (xA i);rw[Int.add_mul,Int.one_mul]at E;unfold todo;lia
 by_cases hs:far (lkN n as) (Ab f) y=far (lkN n as) (Ab f) x
 .obtain⟨M,A,H⟩:=S.same hs;have p:∃u,u<n/\0<Ab x.L u:=by
   refine Classical.byContradiction λz=>?_
   have j:∀u,u<n->Ab x.L u<=0:=λu d=>Int.not_lt.mp λq=>z ⟨u,d,q⟩
   have:=Er j;rw[Hm]at this;lia
  obtain⟨u,d,j⟩:=p;refine g ⟨u,d,fall (Jx (n:=n) Z.arc Z.n30) m o.fx le d λl C r F=>?_⟩;rw[A];rcases H l ⟨C,r▸d⟩ (by unfold tight;rw[r];exact F)with z|z
  .rw[r]at z;lia
  exact z
 by_cases hw:∃u,u<n/\Ab c u≠Ab f u
 .obtain⟨u,d,j⟩:=hw;have:=le u (by lia);exact g ⟨u,d,by lia⟩
 .have t:∀u,u<n->Ab c u=Ab f u:=λu d=>Classical.byContradiction λz=>hw ⟨u,d,z⟩
  have j:far (lkN n as) (Ab c) y=far (lkN n as) (Ab f) y:=Ea λu d=>by unfold lnk;rw[t u d]
  have k:=S.le;unfold todo;rw[j,Ea λu d=>by rw[t u d]];lia
variable{lk:Nat->List Nat}{a:Ad}{Γ:DH}{sl:List Int}
theorem ZDx(Z:Netw n as s wide)(Q:1<=n)(w:LkOf (lkN n as) lk){x0:LR}(r:SN (lkN n as) lk a x0 Γ)(O:∀y,DO.tab "Sending" "send_by"∈hs Γ a y){A1 A2:D}:∀(C:Nat)(x:LR)(e:List Int),Iv n as s wide x e->todo n as wide x e<C->
  ∃q d,sWh Ob Mi C [zI n,uQ A1,uQ A2,zR a.o,zF (e.map D.int),uZ,uZ] (hs Γ a x)=.nx [zI n,uQ A1,uQ A2,zR a.o,zF (d.map D.int),uZ,uZ] (hs Γ a q)/\Iv n as s wide q d/\∀u,u<n->Ab q.L u=0
 |0,x,e,I,h=>by
  have f2:=Rb Z I.ok I.b (Ab e);have B:∀u,u<n->0<=Ab e u+40000*(n:Int):=λu f=>by have: -(40000*(n:Int))<=_:=I.fx.lo u f;lia
  have j:=Er B;rw[Hm]at j;have:=jq j (show 0<=40*wide by lia);unfold todo at h;lia
 | C+1,x,e,I,h=>by
  have p:=Z.n30;have ok:=Jx Z.arc Z.n30;have K:=r.at x;have ll:x.L.length=n+1:=I.ok.ll;have cut:cutD (x.L.map D.int) uZ (uQ (n:Int))=(x.L.take n).map D.int:=by rw[Qm (by simp;lia),List.map_take]
  have fz:∀G:DH,freeze G (.ok (.ref G.length) (G++[.lst ((x.L.take n).map D.int)]))=.ok (.fl ((x.L.take n).map D.int)) G:=λG=>Bk Dc
  have sl:∀G:DH,G[a.l]?=uQ (.lst (x.L.map D.int))->G9 (.ref a.l) uZ (uQ (n:Int)) G=.ok (.ref G.length) (G++[.lst ((x.L.take n).map D.int)]):=λG hG=>by
   show(match Ep (.ref a.l) G with |some xs=>R.ok (D.ref G.length) (G++[DO.lst (cutD xs uZ (uQ (n:Int)))])|none=>R.bad)=_
   rw[show Ep (.ref a.l) G=uQ (x.L.map D.int) by simp[Ep,hG]];dsimp only;rw[cut]
  have A:Ob [zI n,uQ A1,uQ A2,zR a.o,zF (e.map D.int),uZ,uZ] (hs Γ a x)=.ok (decide (0<(x.L.take n).sum)) (hs Γ a x):=by have e3:=fz (hs Γ a x);have e4:Gi [.fl ((x.L.take n).map D.int)] (hs Γ a x)=.ok (.int (x.L.take n).sum) (hs Γ a x):=Va;generalize hs Γ a x=M at*;generalize e.map D.int=Y at*;generalize(x.L.take n).map D.int=Y1 at*;unfold Ob;simp[K.left,sl _ K.hl,e3,e4]
  by_cases c:0<(x.L.take n).sum
  .rw[decide_eq_true c]at A;have c':0<Ag n (Ab x.L):=by rw[Pa n (by lia)];exact c
   obtain⟨y,U,k,S⟩:=ZKn K (O x) Q (by show n<=60;lia) ok Uq Oj I.fx w (λy l c B j H=>ZPH ok y l c B j H) I.wl ⟨I.ok,λl _ h=>.inl h,I.b⟩;rw[ZDa r.ad.lr]at U;have i:=ZNL ok Uq I.pot k.g;obtain⟨d,E,hw,W,le⟩:=ZB6 (r.at y) k.ok ok w (by show n<=60;lia) (ZGQ Z k.ok k.b.b) i I.fx.z λu f=>⟨I.fx.lo u f,I.up u f⟩
   have T:Iv n as s wide y d:=⟨k.ok,k.b,E,W,ZCT ok i W I.fx.z le,λu f=>Int.le_trans (le u (by show u<=n;lia)) (I.up u f)⟩;have tl:=ZO5 Z I T le i S c';obtain⟨q,J,hL,I2,z⟩:=ZDx Z Q w r O (A1:=A1) (A2:=A2) C y d T (by lia);refine⟨q,J,?_,I2,z⟩;have hb:Mi [zI n,uQ A1,uQ A2,zR a.o,zF (e.map D.int),uZ,uZ] (hs Γ a x)=.nx [zI n,uQ A1,uQ A2,zR a.o,zF (d.map D.int),uZ,uZ] (hs Γ a y):=by
    have m2:=λ(t:DA)(S:DSt)=>(r.at y).meth (m:="best_ways") (F:=Ir) (t:=t) (S:=S) λ_ _ _ _ _ _=>rfl
    have X:freeze (hs Γ a y) (.ok (.ref (hs Γ a y).length) (hs Γ a y++[.lst (d.map D.int)]))=.ok (.fl (d.map D.int)) (hs Γ a y):=Bk Dc;generalize hs Γ a x=M at*;generalize hs Γ a y=Γ8 at*;generalize e.map D.int=Y at*;generalize d.map D.int=Y' at*;unfold Mi;simp[λ(t:DA)(S:DSt)=>K.meth (m:="send_by") (F:=Oe) (t:=t) (S:=S) λ_ _ _ _ _ _=>rfl,m2,U,hw,X]
   unfold sWh;rw[A];simp[R.Ej,if_true,hb,Fq];exact hL
  rw[decide_eq_false c]at A;refine⟨x,e,?_,I,λu f=>?_⟩
  .unfold sWh;rw[A];simp
  .have B:Ag n (Ab x.L)<=0:=by rw[Pa n (by lia)];lia
   have N:∀v,v<n->0<=Ab x.L v:=λv P=>I.ok.ln v (by show v<=n;lia)
   have j:∀v,v<n->(if v=u then Ab x.L v else 0)<=Ab x.L v:=λv P=>by
    have:=N v P
    split <;> lia
   have H:=Er j;rw[Gr f]at H;have:=N u f;lia
end
theorem ZB4:∀m:Nat,((zX m).map g).sum=Ag m g
 |0=>rfl
 |m+1=>by rw[xw,zO,List.sum_append,ZB4 m];show Ag m g+(g m+0)=Ag m g+g m;lia
section
variable{n:Nat}{as:List Arc}{s:Nat->Int}{wide:Int}{x:LR}{W:Nat->Int}
theorem ZFc(Z:Netw n as s wide)(K:x.Ok (lkN n as))(B:Bal n as s wide x)(F:(lkN n as).Fix (Ab x.R) W):∀(k u:Nat),u<n->lnk (lkN n as) W u<=k->∃j,TW as.length (Aq as) (flo x) (gn (lkN n as) W) n j u
 |0,u,g,h=>by have:=Uk (Jx Z.arc Z.n30) Oj F g;lia
 | k+1,u,g,h=>by
  have ok:=Jx Z.arc Z.n30;obtain⟨l,o,a,p,v⟩:=F.att u g;have z:l<2*as.length:=o;obtain⟨f,w⟩:=ZGj ok Oj F o (a▸g) (a▸v);have t:(lkN n as).to l<=n:=ok.to l o;have d:∃j,TW as.length (Aq as) (flo x) (gn (lkN n as) W) n j ((lkN n as).to l):=by
   by_cases e:(lkN n as).to l=n
   .rw[e];exact⟨0,.here⟩
   exact ZFc Z K B F k _ (by lia) (by rw[a]at w;lia)
  obtain⟨j,d⟩:=d;by_cases r:l%2=0
  .obtain⟨q,i,m⟩:=Nk r;rw[q]at a f;rw[i]at d f;rw[m]at f;rw[<-a];refine⟨j+1,.on (by lia) (λb y=>?_) (by lia) d⟩;have c:=B.cap (l/2) (by lia);unfold Hc at c;rw[y]at c;dsimp only at c;rw[show l=2*(l/2) by lia]at p;unfold flo;lia
  obtain⟨q,i,m⟩:=Q9 r;rw[q]at a f;rw[i]at d f;rw[m]at f;rw[<-a];refine⟨j+1,.back (by lia) ?_ (by lia) d⟩;rw[show l=2*(l/2)+1 by lia]at p;exact p
theorem TW.congr{d d':Nat->Int}(o:∀i,i<m->p i=f i)(hd:∀u,u<=n->d' u=d u)(e:∀i,i<m->(a i).fr<=n/\(a i).to<=n)(h:TW m a f d n k u):TW m a p d' n k u:=by
 induction h with
 |here=>exact .here
 |on c l g _ j=>exact .on c (λb h=>(o _ c)▸l b h) (by rw[hd _ (e _ c).1,hd _ (e _ c).2];exact g) j
 |back c l g _ j=>exact .back c ((o _ c)▸l) (by rw[hd _ (e _ c).1,hd _ (e _ c).2];exact g) j
theorem ZPE(Z:Netw n as s wide)(K:x.Ok (lkN n as))(B:Bal n as s wide x)(h:∀u,u<n->Ab x.L u=0)(d:∀i,i<as.length->f i=flo x i):Feas n as.length (Aq as) s f:=by
 refine⟨λi a=>?_,λi b a j=>?_,λv g=>?_⟩
 .rw[d i a];exact K.rn (2*i+1) (by show 2*i+1<2*as.length;lia)
 .have c:=B.cap i a;have r:=K.rn (2*i) (by show 2*i<2*as.length;lia);unfold Hc at c;rw[j]at c;rw[d i a];unfold flo;dsimp only at c;lia
 have b:=B.bal v g;rw[h v g]at b;have e:∀q:Nat->Nat,Ag as.length (λi=>if q i=v then f i else 0)=Ag as.length (λi=>if q i=v then flo x i else 0):=λq=>Ea λi a=>by rw[d i a]
 unfold ex Cm inA at b;unfold Cm inA;rw[e λi=>(Aq as i).fr,e λi=>(Aq as i).to];lia
end
theorem ZNT{a:DH}(h:a.take G.length=G)(b:bel G.length d=uJ):tidy G (.ok d a)=.ok d G:=by unfold tidy;dsimp only;rw[if_pos h,if_pos b]
section
variable{n:Nat}{as:List Arc}{s:List Int}
theorem X3(ok:NetOk n as s):Netw n as (Ab s) (s.sum+1):=by
 have b:=ok.sl;refine⟨ok.n2,ok.arc,λk hk=>?_,λv g=>?_,?_⟩
 .obtain⟨x,c,f,d⟩:=ok.way k hk;obtain⟨i,a,e⟩:=jR c
  refine⟨i,a,?_,?_⟩<;>rw[Ms a,e]<;>assumption
 .rw[Hl (by lia)];exact ok.sn _ (qV _)
 rw[Pa n (by lia),xZ (by lia)]
theorem ZP6(ok:NetOk n as s):LR.Ok (lkN n as) ⟨s++[0],Es (s.sum+1) as⟩/\BT n as (Ab s) (s.sum+1) ⟨s++[0],Es (s.sum+1) as⟩:=by
 have Z:=X3 ok;have g:=ok.sl;have d:∀u,Ab (s++[0]) u=Ab s u:=λu=>by
  unfold Ab;simp[zW];by_cases h:u<s.length
  .rw[z9 h]
  rw[zA (l:=s) (by lia),zD (by lia)];by_cases e:u=s.length
  .rw[e,Nat.sub_self];rfl
  rw[zA (by simp;lia)]
 have a:Ab s n=0:=by
  unfold Ab;rw[zW,zA (by lia)]
  rfl
 have k:0<=Ag n (Ab s):=by have:=Er Z.sn;rw[Hm]at this;exact this
 have hw:=Z.wide;refine⟨⟨by simp[g];rfl,T9 as,λu o=>?_,λl p=>?_⟩,⟨⟨λi f=>?_,λv w=>?_⟩,?_⟩⟩
 .dsimp only;rw[d];by_cases e:u=n
  .rw[e,a];exact q9 _
  exact Z.sn u (by have:u<=n:=o;lia)
 .have m:l<2*as.length:=p;have c:=Oq (wide:=s.sum+1) as (l/2) (by lia);dsimp only;by_cases t:l%2=0
  .rw[show l=2*(l/2) by lia,c.1];unfold Hc;cases r:(Aq as (l/2)).mo with
   |none=>dsimp only;lia
   |some b=>exact(ArcOk.of ok.arc (by lia)).mo b r
  rw[show l=2*(l/2)+1 by lia,c.2];exact q9 _
 .have c:=Oq (wide:=s.sum+1) as i f;dsimp only;rw[c.1,c.2,xB]
 .have j:∀q:Nat->Nat,Ag as.length (λi=>if q i=v then flo ⟨s++[0],Es (s.sum+1) as⟩ i else 0)=0:=λq=>by
   rw[Ea λi f=>?_,Hm];have:flo ⟨s++[0],Es (s.sum+1) as⟩ i=0:=(Oq as i f).2;rw[this]
   split <;> rfl
  dsimp only;rw[d];unfold ex Cm inA;rw[j λi=>(Aq as i).fr,j λi=>(Aq as i).to];lia
 dsimp only;show Ag n _+Ab (s++[0]) n=_;rw[d,a,Ea λu _=>d u];lia
theorem ZH7(ok:NetOk n as s){x:LR}{a:List Int}(I:Iv n as (Ab s) (s.sum+1) x a):todo n as (s.sum+1) x a<(fuel:Int):=by
 have Z:=X3 ok;have f:=ok.n2;have o:=Rb Z I.ok I.b (Ab a);have d:∀(c:Int)(k:Nat),Ag k (λ_=>c)=c*k:=λc k=>by
  induction k with
  |zero=>show 0=c*0;rw[jK]
  |succ k l=>
   show Ag k _+c=_;rw[l,jk,jB];lia
 have i:=Er λu e=>show Ab a u+40000*(n:Int)<=2400000 by have:=I.up u e;lia
 rw[d]at i;have g:=Er (n:=n) λu e=>show Ab s u<=10^40 by have h:=ok.sl;rw[Hl (by lia)];exact xA (ok.sb _ (qV _))
 rw[d]at g;have m:=Z.wide;have j:Ag n (λu=>Ab a u+40000*(n:Int))<=72000000:=by lia
 have p:=qQ j (show 0<=40*(s.sum+1) by lia);unfold todo fuel;lia
end
section
variable{n:Nat}{as:List Arc}{s:List Int}
theorem ZMW(ok:NetOk n as s)(G:DH){E:Nat}(hA:G[E]?=uQ (.lst (as.map encA)))(hT:DO.tab "Sending" "send_by"∈G):∃e f p,BestOk n as s e f p/\Ri [.int n,.ref E,.fl (s.map D.int)] G=.ok (.tup [.int e,.fl (f.map D.int),.fl (p.map D.int)]) G:=by
 have Z:=X3 ok;have n30:=ok.n2;have m40:=ok.len;have M:=Jx Z.arc Z.n30;obtain⟨r,o,K,L,hlt⟩:=ZQF ok G hA;obtain⟨o0,b0⟩:=ZP6 ok;have hl:LkOf (lkN n as) (lkC (lkN n as) (lkN n as).q):=ZJW;have C:=ZKY (rm:=Ab (Es (s.sum+1) as)) Z λi o=>(Oq as i o).2
 obtain⟨H,wl,hw,F,le⟩:=ZB6 K o0 M hl (by show n<=60;lia) (ZGQ Z o0 b0.b) C (by show 40000*((n:Int)-n)=0;lia) λu w=>by have hu':u<n:=w;show -(40000*(n:Int))<=40000*((n:Int)-u)/\40000*((n:Int)-u)<=40000*(n:Int);lia
 have I0:Iv n as (Ab s) (s.sum+1) ⟨s++[0],Es (s.sum+1) as⟩ H:=⟨o0,b0,wl,F,ZCT M C F (by show 40000*((n:Int)-n)=0;lia) le,λu w=>by have J:=le u (by show u<=n;lia);have P:=J;lia⟩
 have B:∀y,(hs r (adr G.length n) y).take G.length=G:=λy=>by
  refine jM λi=>?_
  by_cases o:i<G.length
  .rw[qz o];unfold hs adr;dsimp only;rw[z8 (by lia),z8 (by lia),<-qz o,L]
  rw[zA (by rw[qR];lia),zA (by lia)]
 have U:∀y,DO.tab "Sending" "send_by"∈hs r (adr G.length n) y:=λy=>List.mem_of_mem_take ((B y)▸hT)
 obtain⟨x,k,hL,I,hz⟩:=ZDx Z ok.n1 hl K U (A1:=.ref E) (A2:=.fl (s.map D.int)) fuel _ H I0 (ZH7 ok I0);rw[K.hs]at hL;have Kx:=K.at x;have Q:=ZL9 Kx I.ok rfl (by lia);have Sl:=ZOu Z I.ok I.b.b I.fx I.pot;have wl':=I.wl;have T:∀i,i<as.length->Ab ((zX as.length).map λi=>Ab x.R (2*i+1)) i=flo x i:=λi o=>by rw[Hl (by simpa using o)];simp[flo]
 have O:∀u,u<=n->Ab ((zX n).map (gn (lkN n as) (Ab k))) u=gn (lkN n as) (Ab k) u:=λu w=>by
  by_cases e:u=n
  .subst e;have e0:Ab k u=0:=I.fx.z;have e1:Ab ((zX u).map (gn (lkN u as) (Ab k))) u=0:=by
    unfold Ab;rw[zW,zA (by simp)]
    rfl
   rw[e1];unfold gn;rw[e0];simp
  rw[Hl (by simp;lia)];simp
 refine⟨(((zX as.length).map λi=>Ab x.R (2*i+1)*(Aq as i).ga)).sum,(zX as.length).map λi=>Ab x.R (2*i+1),(zX n).map (gn (lkN n as) (Ab k)),⟨by simp,by simp,ZPE Z I.ok I.b.b hz T,⟨λi o h=>?_,λi o h=>?_⟩,?_,λu w=>?_,λv hv=>?_⟩,?_⟩
 .have A:=ArcOk.of ok.arc o;have J:=A.lt;rw[O _ A.le,O _ (by lia)];exact Sl.more i o λb hb=>by rw[<-T i o];exact h b hb
 .have A:=ArcOk.of ok.arc o;have J:=A.lt;rw[O _ A.le,O _ (by lia)];exact Sl.some_ i o (by rw[<-T i o];exact h)
 .rw[ZB4];exact Ea λi o=>by rw[T i o];rfl
 .obtain⟨j,h⟩:=ZFc Z I.ok I.b.b I.fx n u w (by have:=(Jz (N:=lkN n as) (W:=Ab k) u).2;have:lnk (lkN n as) (Ab k) u<=(n:Int):=this;lia);exact⟨j,h.congr T O λi o=>⟨by have:=(ArcOk.of ok.arc o).lt;lia,(ArcOk.of ok.arc o).le⟩⟩
 .obtain⟨u,w,rfl⟩:=qY.mp hv;have w:=zU.mp w;have J: -(40000*(n:Int))<=Ab k u:=I.fx.lo u w;have P:=I.up u w;have e:gn (lkN n as) (Ab k) u= -(-Ab k u/((n:Int)+1)):=rfl;rw[e];have h3:=Int.le_ediv_of_mul_le (a:= -1000000000) (b:= -Ab k u) (c:=(n:Int)+1) (by lia) (by lia);have h4:=Int.ediv_le_of_le_mul (a:= -Ab k u) (b:=1000000000) (c:=(n:Int)+1) (by lia) (by lia)
  lia
 have aI:(zX as.length).map (λi=>encA (Aq as i))=as.map encA:=by
  refine qS (by simp) λi J P=>?_
  have o:i<as.length:=by simpa using P
  simp[Ms o]
 have c1:=ZJV ok G hA;have m1:∀(t:DA)(S:DSt),Hw "Sending" "best_ways" Ir t S (.ref G.length) r=(t S r).bind λds X=>Ir (.ref G.length::ds) X:=λt S=>K.meth λ_ _ _ _ _ _=>rfl
 have m2:∀(t:DA)(S:DSt),Hw "Sending" "flow_sent" Ke t S (.ref G.length) (hs r (adr G.length n) x)=(t S (hs r (adr G.length n) x)).bind λds X=>Ke (.ref G.length::ds) X:=λt S=>Kx.meth λ_ _ _ _ _ _=>rfl
 have m3:∀(t:DA)(S:DSt),Hw "Sending" "gain_of" K9 t S (.ref G.length) (hs r (adr G.length n) x)=(t S (hs r (adr G.length n) x)).bind λds X=>K9 (.ref G.length::ds) X:=λt S=>Kx.meth λ_ _ _ _ _ _=>rfl
 have hw':Ir [.ref G.length] r=.ok (.ref r.length) (r++[.lst (H.map D.int)]):=hw;have fw:freeze r (.ok (.ref r.length) (r++[.lst (H.map D.int)]))=.ok (.fl (H.map D.int)) r:=Bk Dc;have hL':sWh Ob Mi fuel [zI n,zR E,zF (s.map D.int),zR G.length,zF (H.map D.int),uZ,uZ] r=.nx [zI n,zR E,zF (s.map D.int),zR G.length,zF (k.map D.int),uZ,uZ] (hs r (adr G.length n) x):=hL;have cg:∀u,u<n->K9 [.ref G.length,.int (Ab k u)] (hs r (adr G.length n) x)=.ok (.int (gn (lkN n as) (Ab k) u)) (hs r (adr G.length n) x):=λu w=>ZHb (by show n<1000;lia) Kx
 have Y:Ke [.ref G.length] (hs r (adr G.length n) x)=_:=Q;have td:∀d,bel G.length d=uJ->tidy G (.ok d (hs r (adr G.length n) x))=.ok d G:=λd hd=>ZNT (B x) hd
 have hA9:(hs r (adr G.length n) x)[E]?=uQ (.lst (as.map encA)):=by rw[<-qz (zY.mp hA).1,B x];exact hA
 have hs9:=Nj hA9;clear hL hw Q B U K Kx;generalize hs r (adr G.length n) x=m at*;have ff:freeze m (.ok (.ref m.length) (m++[.lst (((zX as.length).map λi=>Ab x.R (2*i+1)).map D.int)]))=.ok (.fl (((zX as.length).map λi=>Ab x.R (2*i+1)).map D.int)) m:=Bk Dc;have hcs:∀S:DSt,Bh 2 [] S=[uZ,uZ]:=λ_=>rfl
 have z2:Dl (Hi [.fl (((zX as.length).map λi=>Ab x.R (2*i+1)).map D.int),.ref E]) (Bp 2 (Al (gV 0) (Al (gV 1) Bs))) Ar Tu [uZ,uZ] (((zX as.length).map λi=>Ab x.R (2*i+1)).map D.int).length 0 m=.ok (((zX as.length).map λi=>Ab x.R (2*i+1)*(Aq as i).ga).map D.int) m:=by
  rw[Wt (F:=λd=>match d with | .tup [.int f,.tup [_,_,_,.int g]]=>zI (f*g)|_=>uZ) (λj=>Pr J6 hs9 j) (λy hy=>?_) (by simp[Hx])]
  .congr 1
   rw[<-aI,Hx,q8,List.zip_map',q8,jz,q8];exact congrFun xJ _
  .rw[<-aI,Hx,q8,List.zip_map',q8]at hy;obtain⟨i,o,rfl⟩:=qY.mp hy;have A:=(ArcOk.of ok.arc (zU.mp o)).ga;refine⟨[zI (Ab x.R (2*i+1)),uQ (encA (Aq as i))],by simp,.inr ⟨rfl,.int (Ab x.R (2*i+1)*(Aq as i).ga),?_,rfl⟩⟩;have mu:Ax (.int (Ab x.R (2*i+1))) (.int (Aq as i).ga) m=.ok (.int (Ab x.R (2*i+1)*(Aq as i).ga)) m:=ZC2 (by lia) (by lia)
   unfold Tu encA;simp[mu]
 have hn1:(((zX as.length).map λi=>Ab x.R (2*i+1)*(Aq as i).ga).map D.int).length<=1000000:=by simp;lia
 have f2:freeze m (.ok (.ref m.length) (m++[.lst (((zX as.length).map λi=>Ab x.R (2*i+1)*(Aq as i).ga).map D.int)]))=.ok (.fl (((zX as.length).map λi=>Ab x.R (2*i+1)*(Aq as i).ga).map D.int)) m:=Bk Dc;have sm:Gi [.fl (((zX as.length).map λi=>Ab x.R (2*i+1)*(Aq as i).ga).map D.int)] m=.ok (.int (((zX as.length).map λi=>Ab x.R (2*i+1)*(Aq as i).ga)).sum) m:=Va
 have sw:G9 (.fl (k.map D.int)) uZ (uQ (n:Int)) m=.ok (.ref m.length) (m++[.lst (((zX n).map (Ab k)).map D.int)]):=by
  rw[O9,Qm (by simp;lia)];have:(k.map D.int).take n=((zX n).map (Ab k)).map D.int:=by
   refine qS (by simp;lia) λi J P=>?_
   have o:i<n:=by simp at P;lia
   simp[Hl (show i<k.length by lia)]
  rw[this]
 have f3:freeze m (.ok (.ref m.length) (m++[.lst (((zX n).map (Ab k)).map D.int)]))=.ok (.fl (((zX n).map (Ab k)).map D.int)) m:=Bk Dc;have p1:Bo (gV 0) Ar M7 [uZ,zR G.length] (((zX n).map (Ab k)).map D.int) m=.ok (((zX n).map (gn (lkN n as) (Ab k))).map D.int) m:=by
  rw[q8,q8];have:∀l:List Nat,(∀u∈l,u<n)->Bo (gV 0) Ar M7 [uZ,zR G.length] (l.map (D.int∘Ab k)) m=.ok (l.map (D.int∘gn (lkN n as) (Ab k))) m:=λl=>by
   induction l with
   |nil=>exact λ_=>rfl
   |cons u l ih=>
    intro h;have hb:M7 [zI (Ab k u),zR G.length] m=.ok (.int (gn (lkN n as) (Ab k) u)) m:=by unfold M7;simp[m3,cg u (h u (by simp))]
    rw[zK,Gz];simp[hb,ih λv hv=>h v (by simp[hv]),Ar]
  exact this _ λu w=>zU.mp w
 have hn2:(((zX n).map (gn (lkN n as) (Ab k))).map D.int).length<=1000000:=by simp;lia
 have f4:freeze m (.ok (.ref m.length) (m++[.lst (((zX n).map (gn (lkN n as) (Ab k))).map D.int)]))=.ok (.fl (((zX n).map (gn (lkN n as) (Ab k))).map D.int)) m:=Bk Dc;have hcs2:∀v0 v1 v2 v4 v5 v6:Option D,Bh 1 [3] [v0,v1,v2,zR G.length,v4,v5,v6]=[uZ,zR G.length]:=λ_ _ _ _ _ _=>rfl
 have fin:=td (.tup [.int (((zX as.length).map λi=>Ab x.R (2*i+1)*(Aq as i).ga)).sum,.fl (((zX as.length).map λi=>Ab x.R (2*i+1)).map D.int),.fl (((zX n).map (gn (lkN n as) (Ab k))).map D.int)]) (by show(uJ&&(bels _ _&&(bels _ _&&uJ)))=uJ;rw[Dc,Dc];rfl);clear td aI cg;generalize(((zX as.length).map λi=>Ab x.R (2*i+1)*(Aq as i).ga)).sum=e at*
 generalize((zX as.length).map λi=>Ab x.R (2*i+1)*(Aq as i).ga).map D.int=Y1 at*;generalize((zX as.length).map λi=>Ab x.R (2*i+1)).map D.int=Y2 at*;generalize((zX n).map (gn (lkN n as) (Ab k))).map D.int=Y3 at*;generalize((zX n).map (Ab k)).map D.int=Y4 at*;generalize H.map D.int=Y5 at*;generalize k.map D.int=Y6 at*;generalize as.map encA=Y7 at*
 generalize s.map D.int=Y8 at*;unfold Ri ZDr ZEH ZCy ZCu ZGp ZBa ZBx;rw[Aw];simp[-O9,c1,Rq,o,m1,hw',fw,hL',m2,Y,ff,V6 J6 hs9,hcs,z2,Ah,hn1,f2,sm,sw,f3,hcs2,p1,hn2,f4,fin]
end
theorem rp:¬(("pump":Str)="river"):=by decide
theorem pr:¬(("river":Str)="pump"):=by decide
structure Stp where
 h:Int
 m:Int
 r:Bool
def wy(r:Bool):Str:=if r then "river" else "pump"
def Stp.enc(s:Stp):D:=.tup [.int s.h,.int s.m,.str (wy s.r)]
@[simp]theorem ZQ5{st:List Stp}:bels n (st.map Stp.enc)=uJ:=Fj λs _=>by simp[Stp.enc]
noncomputable abbrev Ssn:=Int×List Stp
def Fv(s:Ssn):D:=.tup [.int s.1,.tup (s.2.map Stp.enc)]
@[simp]theorem ZQc{ss:List Ssn}:bels n (ss.map Fv)=uJ:=Fj λs _=>by simp[Fv]
inductive RK where
 |basin (b:Int) (r:List Ssn) (q:Option (Str×Int×Int))
 |town (a b:Int)
 |mill (a:Int)
structure RP where
 nm:Str
 dn:Str
 dl:Int
 kd:RK
noncomputable def pmD:Option (Str×Int×Int)->D
 |none=>.non
 |some (t,d,m)=>.tup [.str t,.int d,.int m]
noncomputable def RK.txt:RK->Str
 |.basin ..=>"basin"
 |.town ..=>"town"
 |.mill ..=>"mill"
def RK.rest:RK->List D
 |.basin b r q=>[.int b,.tup (r.map Fv),pmD q]
 |.town a b=>[.int a,.int b]
 |.mill a=>[.int a]
def RP.row(p:RP):List D:=.str p.kd.txt:: .str p.nm:: .str p.dn:: .int p.dl::p.kd.rest
def RP.enc(p:RP):D:=.tup p.row
structure RH where
 yr:Int
 ps:List RP
variable{h:RH}
noncomputable def RH.enc(h:RH):D:=.tup [.int h.yr,.tup (h.ps.map RP.enc)]
@[simp]theorem ZQN{q:Option (Str×Int×Int)}:bel n (pmD q)=uJ:=by
 cases q with
 |none=>rfl
 |some x=>obtain⟨a,b,c⟩:=x;rfl
@[simp]theorem ZQs{p:RP}:bels n p.row=uJ:=by
 unfold RP.row RK.rest
 cases p.kd<;>simp
@[simp]theorem Ny{p:RP}:bel n p.enc=uJ:=by simp[RP.enc]
@[simp]theorem ZJj{l:List RP}:bels n (l.map RP.enc)=uJ:=Fj λ_ _=>Ny
@[simp]theorem Qj:bel n h.enc=uJ:=by simp[RH.enc]
section
variable{p:RP}{h:RH}{G:DH}
@[simp]theorem renc0:Ae p.enc (.int 0) G=.ok (.str p.kd.txt) G:=by simp[RP.enc,RP.row]
@[simp]theorem renc1:Ae p.enc (.int 1) G=.ok (.str p.nm) G:=by simp[RP.enc,RP.row]
@[simp]theorem renc2:Ae p.enc (.int 2) G=.ok (.str p.dn) G:=by simp[RP.enc,RP.row]
@[simp]theorem renc3:Ae p.enc (.int 3) G=.ok (.int p.dl) G:=by simp[RP.enc,RP.row]
theorem G8:Ae h.enc (.int 1) G=.ok (.tup (h.ps.map RP.enc)) G:=by simp[RH.enc]
end
theorem Ls{ps:List RP}{p:RP}(hp:ps[k]?=uQ p):atI (ps.map RP.enc) (k:Int)=uQ p.enc:=Dg rfl (by rw[zv,hp];rfl)
theorem Dy(c:Int){p m:Int}(hp:0<p)(b:0<m):∃i:Int,(0<=i/\i<m)/\∀G,Ci [.int c,.int p,.int m] G=.ok (.int i) G:=by
 have d:¬p=0:=by lia
 have a:¬m=0:=by lia
 refine⟨c*48271%p%m,⟨jF _ a,jx _ b⟩,λG=>?_⟩;unfold Ci ZEj;rw[Aw];simp[hp,b,d,a,Bw]
theorem Mu{Q:D->Prop}:∀(n j:Nat),(∀k,j<=k->k<j+n->∃d,Q d/\∀G,te (S.set 0 (zI (k:Int))) G=.ok d G)->∃ds:List D,ds.length=n/\(∀d∈ds,Q d)/\∀G,Bo (gV 0) Ar te S (Ay (j:Int) n) G=.ok ds G
 |0,j,_=>⟨[],rfl,by simp,λG=>by rw[Hu];rfl⟩
 |n+1,j,h=>by
  obtain⟨d,e,c⟩:=h j (by lia) (by lia);obtain⟨ds,f,b,a⟩:=Mu n (j+1) λk l i=>h k (by lia) (by lia)
  refine⟨d::ds,by simp[f],jO.mpr ⟨e,b⟩,λG=>?_⟩;rw[Gu,Gz];simp[Eb,R.Dv,Ju,if_true,c];have g:((j:Int)+1)=((j+1:Nat):Int):=by lia
  rw[g,a]
  rfl
theorem ints_of:∀{ds:List D}{Q:Int->Prop},(∀d∈ds,∃i,Q i/\d=.int i)->∃l:List Int,ds=l.map D.int/\∀i∈l,Q i
 |[],Q,_=>⟨[],rfl,by simp⟩
 |d::ds,Q,h=>by
  obtain⟨i,a,rfl⟩:=h d (by simp);obtain⟨l,rfl,b⟩:=ints_of λx c=>h x (zV _ c)
  exact⟨i::l,rfl,jO.mpr ⟨a,b⟩⟩
theorem Uu{l:List Str}:bels m (l.map D.str)=uJ:=Fj λ_ _=>rfl
theorem Hs{l:List Int}:bels m (l.map D.int)=uJ:=Fj λ_ _=>rfl
theorem fsT(x:Str)(G:DH):freeze G (.ok (.str x) G)=.ok (.str x) G:=Kg rfl
structure NG (ns:List Str):Prop where
 nd:ns.Nodup
 sea:("sea":Str)∉ns
noncomputable def tab0:List Str:=["seaf","seag","seah","seai","seaj","seak"]
noncomputable def tab1:List Str:=["aaaaaa","aaaaa","aaaa","aaa","aa","a"]
noncomputable def tab2:List Str:=["flake","glake","hlake","ilake","jlake","klake"]
theorem Td{f:Nat->Str}:∀(n j:Nat),(∀k,j<=k->k<j+n->∀G,te [zI (k:Int)] G=.ok (.str (f k)) G)->∀G,Bo (gV 0) Ar te [uZ] (Ay (j:Int) n) G=.ok (((qB j n).map f).map D.str) G
 |0,j,_,G=>by rw[Hu];rfl
 |n+1,j,h,G=>by
  have a:((j:Int)+1)=((j+1:Nat):Int):=by lia
  rw[Gu,Gz,a];simp only[Eb,R.Dv,qT,Ju,if_true,h j (by lia) (by lia)];rw[Td n (j+1) λk b c=>h k (by lia) (by lia)];simp[jA]
theorem ZAa{t:List Str}(f:n<=6)(h:∀a,a<6->t.getD a ""≠("sea":Str)/\∀b,b<6->t.getD a ""=t.getD b ""->a=b):NG ((qB 0 n).map λk=>t.getD k ""):=by
 refine⟨?_,λz=>?_⟩
 .rw[List.Nodup,List.pairwise_map];refine List.Pairwise.imp_of_mem (λ{a b}c d q z=>?_) List.nodup_range';have c:=List.mem_range'_1.mp c;have d:=List.mem_range'_1.mp d;exact q ((h a (by lia)).2 b (by lia) z)
 obtain⟨a,c,e⟩:=qY.mp z;have c:=List.mem_range'_1.mp c;exact(h a (by lia)).1 e
theorem ZH8(c:Int)(q:n<=6):∃ns:List Str,ns.length=n/\NG ns/\∀G,freeze G (Ik [.int c,.int (n:Int)] G)=.ok (.fl (ns.map D.str)) G:=by
 have r:inR (n:Int):=Ge (by lia) (by lia);have i:∀a b c:Option D,Bh 1 [] [a,b,c]=[uZ]:=λ_ _ _=>rfl
 have l:∀(o:DE)(ns:List Str),ns.length=n->(∀G,Bo (gV 0) Ar o [uZ] (Ay 0 n) G=.ok (ns.map D.str) G)->∀G,freeze G (tidy G ((Bo (gV 0) Ar o [uZ] (Ay 0 n) G).bind Ah))=.ok (.fl (ns.map D.str)) G:=λo ns j h G=>by
  rw[h];have m:(ns.map D.str).length<=1000000:=by rw[zj];lia
  have s:bels G.length (ns.map D.str)=uJ:=Uu;simp only[R.Dv,Ah,if_pos m];rw[Dp s,Bk s]
 have j:∀f:Nat->Str,((qB 0 n).map f).length=n:=λf=>by simp
 rcases(by lia:c%3=0∨c%3=1∨c%3=2)with p|p|p
 .have g:=Td (te:=Su) (f:=λk=>tab0.getD k "") n 0 λk _ hk G=>by rcases(by lia:k=0∨k=1∨k=2∨k=3∨k=4∨k=5)with rfl|rfl|rfl|rfl|rfl|rfl<;>kernel_rfl
  refine⟨_,j _,ZAa (t:=tab0) q (by decide +kernel),λG=>?_⟩;have e:Ik [.int c,.int (n:Int)] G=tidy G ((Bo (gV 0) Ar Su [uZ] (Ay 0 n) G).bind Ah):=by
   unfold Ik Q6;rw[Aw];have d:Bo (gV 0) Ar Su [uZ] (Ay 0 n) G=_:=g G;have m:(((qB 0 n).map λk=>tab0.getD k "").map D.str).length<=1000000:=by simp;lia
   generalize((qB 0 n).map λk=>tab0.getD k "").map D.str=Z at*;simp[p,r,i,d,Ah,m]
  rw[e];exact l _ _ (j _) g G
 .have g:=Td (te:=Nr) (f:=λk=>tab1.getD k "") n 0 λk _ hk G=>by
   have u:("aaaaaa":Str).length<=1000000:=by decide +kernel
   have v:Ii "aaaaaa" (uQ (k:Int)) uZ=tab1.getD k "":=by rcases(by lia:k=0∨k=1∨k=2∨k=3∨k=4∨k=5)with rfl|rfl|rfl|rfl|rfl|rfl<;>decide +kernel
   unfold Nr;simp[u,fsT,v]
  refine⟨_,j _,ZAa (t:=tab1) q (by decide +kernel),λG=>?_⟩;have e:Ik [.int c,.int (n:Int)] G=tidy G ((Bo (gV 0) Ar Nr [uZ] (Ay 0 n) G).bind Ah):=by
   unfold Ik Q6;rw[Aw];have d:Bo (gV 0) Ar Nr [uZ] (Ay 0 n) G=_:=g G;have m:(((qB 0 n).map λk=>tab1.getD k "").map D.str).length<=1000000:=by simp;lia
   generalize((qB 0 n).map λk=>tab1.getD k "").map D.str=Z at*;simp[p,r,i,d,Ah,m]
  rw[e];exact l _ _ (j _) g G
 have g:=Td (te:=Qq) (f:=λk=>tab2.getD k "") n 0 λk _ hk G=>by rcases(by lia:k=0∨k=1∨k=2∨k=3∨k=4∨k=5)with rfl|rfl|rfl|rfl|rfl|rfl<;>kernel_rfl
 refine⟨_,j _,ZAa (t:=tab2) q (by decide +kernel),λG=>?_⟩;have e:Ik [.int c,.int (n:Int)] G=tidy G ((Bo (gV 0) Ar Qq [uZ] (Ay 0 n) G).bind Ah):=by
  unfold Ik Q6;rw[Aw];have d:Bo (gV 0) Ar Qq [uZ] (Ay 0 n) G=_:=g G;have m:(((qB 0 n).map λk=>tab2.getD k "").map D.str).length<=1000000:=by simp;lia
  generalize((qB 0 n).map λk=>tab2.getD k "").map D.str=Z at*;simp[p,r,i,d,Ah,m]
 rw[e];exact l _ _ (j _) g G
theorem ZLm{k:Int}(hk:0<k)(a:k<1000000)(G L:DH):Cj [.ref G.length,.int k] (G++ .lst [.int x]::L)=.ok (.int (x%k)) (G++ .lst [.int (x/k)]::L):=by
 have g:tidy (G++ .lst [.int x]::L) (.ok (.int (x%k)) (G++ .lst [.int (x/k)]::L))=.ok (.int (x%k)) (G++ .lst [.int (x/k)]::L):=J0 (by simp) rfl;have d:∀o:DO,(G++o::L)[G.length]?=uQ o:=λo=>by rw[Eo];rfl
 have c:∀o b:DO,(G++o::L).set G.length b=G++b::L:=λo b=>by rw[Fi];rfl
 have e:∀H:DH,Fl (.int x) (.int k) H=.ok (.int (x/k)) H:=λH=>divS hk a
 unfold Cj ZD0;rw[Aw];have f:ixN 1 0=uQ 0:=by decide
 simp[d,c,hk,e,g,f]
theorem tk(x:Int){k:Int}(hk:0<k)(a:k<1000000):∃i y:Int,(0<=i/\i<k)/\∀G L:DH,Cj [.ref G.length,.int k] (G++ .lst [.int x]::L)=.ok (.int i) (G++ .lst [.int y]::L):=
 ⟨x%k,x/k,⟨jF _ (by lia),jx _ hk⟩,λG L=>ZLm hk a G L⟩
theorem ZCQ(hd:bel G.length d=uJ):tidy G (.ok d H)=.ok d G∨tidy G (.ok d H)=.ok d H:=by
 unfold tidy;by_cases h:H.take G.length=G
 .left
  simp[h,hd,if_true]
 right
 simp[h,if_false]
def Pl(G L:DH)(r:R D)(d:D):Prop:=∃(y:Int)(M:DH),r=.ok d (G++ .lst [.int y]::(L++M))
theorem ZGR(hd:∀n,bel n d=uJ):Pl G L (tidy (G++ .lst [.int x]::L) (.ok d (G++ .lst [.int y]::(L++M)))) d:=by
 rcases ZCQ (hd _)with h|h
 .exact⟨x,[],by rw[h,qJ]⟩
 exact⟨y,M,h⟩
theorem T3(G L:DH)(A o:DO):(G++A::(L++[o]))[G.length+(L.length+1)]?=uQ o:=by rw[Gp];simp
theorem ZAY(G L:DH)(A o a:DO):(G++A::(L++[o])).set (G.length+(L.length+1)) a=G++A::(L++[a]):=by rw[Ip];simp
theorem ZA2{scale:Int}:∀(m j:Nat)(x most a:Int)(acc:List Stp)(o f g:Option D),acc.length+m<=100->∃(st:List Stp)(v b d:Int)(N l i:Option D),
  Bc (gV 5) Ky (Ay j m) [zR G.length,zI most,zI scale,zR (G.length+(L.length+1)),zI a,o,f,g] (G++ .lst [.int x]::(L++[.lst (acc.map Stp.enc)]))=
   .nx [zR G.length,zI b,zI scale,zR (G.length+(L.length+1)),zI d,N,l,i] (G++ .lst [.int v]::(L++[.lst (st.map Stp.enc)]))
 |0,j,x,most,a,acc,o,f,g,_=>⟨acc,x,most,a,o,f,g,by rw[Hu,Gq]⟩
 | m+1,j,x,most,a,acc,o,f,g,h=>by
  obtain⟨c,P,b1,r⟩:=tk x (k:=4) (by decide) (by decide);obtain⟨I,W,Z,F⟩:=tk P (k:=2) (by decide) (by decide);obtain⟨n,H,Y,q⟩:=tk W (k:=3) (by decide) (by decide);have y:∀G,Ax (.int (1+c)) (.int scale) G=.ok (.int ((1+c)*scale)) G:=λG=>Dn (by lia) (by lia)
  have C:∀G,Ax (.int n) (.int scale) G=.ok (.int (n*scale)) G:=λG=>Dn (by lia) (by lia)
  have e:(acc.map Stp.enc).length<1000000:=by rw[zj];lia
  have E:∃(s:Stp)(b d:Int)(l i:Option D),Ky [zR G.length,zI most,zI scale,zR (G.length+(L.length+1)),zI a,zI j,f,g] (G++ .lst [.int x]::(L++[.lst (acc.map Stp.enc)]))=
    .nx [zR G.length,zI b,zI scale,zR (G.length+(L.length+1)),zI d,zI j,l,i] (G++ .lst [.int H]::(L++[.lst ((acc++[s]).map Stp.enc)])):=by
   by_cases B:I=1/\0<most
   .refine⟨⟨a,min ((1+c)*scale) most,uX⟩,most-min ((1+c)*scale) most,a+min ((1+c)*scale) most+n*scale,zI (min ((1+c)*scale) most),zS "pump",?_⟩;have u:Stp.enc ⟨a,min ((1+c)*scale) most,uX⟩=.tup [.int a,.int (min ((1+c)*scale) most),.str "pump"]:=rfl;rw[zO,zK,qK,u];generalize acc.map Stp.enc=A at*;unfold Ky;simp[r,F,q,y,C,B.1,B.2,T3,ZAY,e]
   refine⟨⟨a,(1+c)*scale,uJ⟩,most,a+(1+c)*scale+n*scale,zI ((1+c)*scale),zS "river",?_⟩;have u:Stp.enc ⟨a,(1+c)*scale,uJ⟩=.tup [.int a,.int ((1+c)*scale),.str "river"]:=rfl;rw[zO,zK,qK,u];generalize acc.map Stp.enc=A at*;unfold Ky;by_cases p:I=1
   .have Q:¬0<most:=λz=>B ⟨p,z⟩
    simp[r,F,q,y,C,p,Q,T3,ZAY,e]
   simp[r,F,q,y,C,p,T3,ZAY,e]
  obtain⟨s,K,T,l,i,X⟩:=E;obtain⟨st,v,w,t,S,J,M,U⟩:=ZA2 m (j+1) H K T (acc++[s]) (zI j) l i (by simp;lia);refine⟨st,v,w,t,S,J,M,?_⟩;rw[Gu,Eg];simp only[Eb,R.Ej,qT,X,Fq];have O:((j:Int)+1)=((j+1:Nat):Int):=by lia
  rw[O,U]
theorem rstairs(x most scale:Int)(G L:DH):∃st:List Stp,Pl G L (Jj [.ref G.length,.int most,.int scale] (G++ .lst [.int x]::L)) (.tup (st.map Stp.enc)):=by
 obtain⟨a,l,y,g⟩:=tk x (k:=4) (by decide) (by decide);obtain⟨d,c,t,q⟩:=tk l (k:=4) (by decide) (by decide);obtain⟨n,h⟩:∃n:Nat,d=n:=⟨d.toNat,by lia⟩;obtain⟨st,o,r,u,s,w,v,i⟩:=ZA2 n 0 c most (a*scale) [] uZ uZ uZ (by simp;lia);refine⟨st,?_⟩;have p:∀G,Ax (.int a) (.int scale) G=.ok (.int (a*scale)) G:=λG=>Dn (by lia) (by lia)
 have j:inR (n:Int):=Ge (by lia) (by lia);have f:tidy (G++ .lst [.int x]::L) (.ok (.ref (G.length+(L.length+1))) (G++ .lst [.int x]::(L++[.lst []])))=.ok (.ref (G.length+(L.length+1))) (G++ .lst [.int x]::(L++[.lst []])):=by have:=Dp (G:=G++ .lst [.int x]::L) (ds:=[]) (L:=[]) rfl;simpa using this
 have b:Bc (gV 5) Ky (Ay 0 n) [zR G.length,zI most,zI scale,zR (G.length+(L.length+1)),zI (a*scale),uZ,uZ,uZ] (G++ .lst [.int c]::(L++[.lst []]))=_:=i;have m:∀n,bel n (.tup (st.map Stp.enc))=uJ:=λn=>by simp
 generalize st.map Stp.enc=Z at*;have e:Jj [.ref G.length,.int most,.int scale] (G++ .lst [.int x]::L)=tidy (G++ .lst [.int x]::L) (.ok (.tup Z) (G++ .lst [.int o]::(L++[.lst Z]))):=by unfold Jj ZEo;rw[Aw];simp[Ah,f,g,p,q,h,j,b,T3]
 rw[e];exact ZGR m
theorem ZD1{cell scale:Int}:∀(m j:Nat)(most a:Int)(acc:List Stp)(n f g:Option D),acc.length+m<=100->∃(st:List Stp)(b d:Int)(J k i:Option D),∀G:DH,
  Bc (gV 5) Lh (Ay (j:Int) m) [zI cell,zI most,zI scale,zR G.length,zI a,n,f,g] (G++[.lst (acc.map Stp.enc)])=
   .nx [zI cell,zI b,zI scale,zR G.length,zI d,J,k,i] (G++[.lst (st.map Stp.enc)])
 |0,j,most,a,acc,n,f,g,_=>⟨acc,most,a,n,f,g,λG=>by rw[Hu,Gq]⟩
 | m+1,j,most,a,acc,n,f,g,h=>by
  obtain⟨c,T,r⟩:=Dy (cell+(j:Int)) (p:=10243) (m:=4) (by decide) (by decide);obtain⟨E,S,y⟩:=Dy (cell+(j:Int)) (p:=10247) (m:=2) (by decide) (by decide);obtain⟨l,Q,q⟩:=Dy (cell+(j:Int)) (p:=10253) (m:=3) (by decide) (by decide);have v:∀G,Ax (.int (1+c)) (.int scale) G=.ok (.int ((1+c)*scale)) G:=λG=>Dn (by lia) (by lia)
  have x:∀G,Ax (.int l) (.int scale) G=.ok (.int (l*scale)) G:=λG=>Dn (by lia) (by lia)
  have e:(acc.map Stp.enc).length<1000000:=by rw[zj];lia
  have B:∃(s:Stp)(b d:Int)(k i:Option D),∀G:DH,Lh [zI cell,zI most,zI scale,zR G.length,zI a,zI (j:Int),f,g] (G++[.lst (acc.map Stp.enc)])=
    .nx [zI cell,zI b,zI scale,zR G.length,zI d,zI (j:Int),k,i] (G++[.lst ((acc++[s]).map Stp.enc)]):=by
   by_cases w:0<most/\E=0
   .refine⟨⟨a,min ((1+c)*scale) most,uX⟩,most-min ((1+c)*scale) most,a+min ((1+c)*scale) most+l*scale,zI (min ((1+c)*scale) most),zS "pump",λG=>?_⟩;have u:Stp.enc ⟨a,min ((1+c)*scale) most,uX⟩=.tup [.int a,.int (min ((1+c)*scale) most),.str "pump"]:=rfl;rw[zO,zK,qK,u];generalize acc.map Stp.enc=A at*;unfold Lh;simp[r,y,q,v,x,w.1,w.2,Eo,Fi,e]
   refine⟨⟨a,(1+c)*scale,uJ⟩,most,a+(1+c)*scale+l*scale,zI ((1+c)*scale),zS "river",λG=>?_⟩;have u:Stp.enc ⟨a,(1+c)*scale,uJ⟩=.tup [.int a,.int ((1+c)*scale),.str "river"]:=rfl;rw[zO,zK,qK,u];generalize acc.map Stp.enc=A at*;unfold Lh;by_cases o:0<most
   .have L:¬E=0:=λz=>w ⟨o,z⟩
    simp[r,y,q,v,x,o,L,Eo,Fi,e]
   simp[r,y,q,v,x,o,Eo,Fi,e]
  obtain⟨s,H,N,k,i,P⟩:=B;obtain⟨st,C,t,M,F,I,O⟩:=ZD1 m (j+1) H N (acc++[s]) (zI (j:Int)) k i (by simp;lia);refine⟨st,C,t,M,F,I,λG=>?_⟩;rw[Gu,Eg];simp only[Eb,R.Ej,qT,P,Fq];have K:((j:Int)+1)=((j+1:Nat):Int):=by lia
  rw[K,O]
theorem ZCv(cell most scale:Int):∃st:List Stp,∀G,Nq [.int cell,.int most,.int scale] G=.ok (.tup (st.map Stp.enc)) G:=by
 obtain⟨a,v,e⟩:=Dy cell (p:=10211) (m:=4) (by decide) (by decide);obtain⟨c,r,l⟩:=Dy cell (p:=10223) (m:=4) (by decide) (by decide);obtain⟨n,g⟩:∃n:Nat,c=n:=⟨c.toNat,by lia⟩;obtain⟨st,o,s,q,u,t,h⟩:=ZD1 n 0 most (a*scale) [] uZ uZ uZ (by simp;lia);refine⟨st,λG=>?_⟩;have k:∀G,Ax (.int a) (.int scale) G=.ok (.int (a*scale)) G:=λG=>Dn (by lia) (by lia)
 have i:inR (n:Int):=Ge (by lia) (by lia);have d:tidy G (.ok (.ref G.length) (G++[.lst []]))=.ok (.ref G.length) (G++[.lst []]):=Dp rfl;have b:Bc (gV 5) Lh (Ay 0 n) [zI cell,zI most,zI scale,zR G.length,zI (a*scale),uZ,uZ,uZ] (G++[.lst []])=_:=h G;have j:bels G.length (st.map Stp.enc)=uJ:=by simp
 generalize st.map Stp.enc=Z at*;have f:tidy G (.ok (.tup Z) (G++[.lst Z]))=.ok (.tup Z) G:=Jo (by simpa[bel]using j);unfold Nq ZC7;rw[Aw];simp[Ah,d,e,k,l,g,i,b,Eo,f]
theorem ZC0(cell most scale year:Int):∃r:List Ssn,∀G,Nu [.int cell,.int most,.int scale,.int year] G=.ok (.tup (r.map Fv)) G:=by
 obtain⟨b,i⟩:=ZCv cell most scale;obtain⟨c,j⟩:=ZCv (cell/3+1) most scale;have a:∀n,bels n (b.map Stp.enc)=uJ:=λn=>by simp
 have f:∀n,bels n (c.map Stp.enc)=uJ:=λn=>by simp
 by_cases h:1<year
 .refine⟨[(0,b),(year-1,c)],λG=>?_⟩;have e: [((0:Int),b),(year-1,c)].map Fv=[.tup [.int 0,.tup (b.map Stp.enc)],.tup [.int (year-1),.tup (c.map Stp.enc)]]:=rfl;rw[e];generalize b.map Stp.enc=A at*;generalize c.map Stp.enc=B at*;have d:tidy G (.ok (.ref G.length) (G++[.lst [.tup [.int 0,.tup A]]]))=.ok (.ref G.length) (G++[.lst [.tup [.int 0,.tup A]]]):=Dp (by simp[a]);have g:∀L:DH,tidy G (.ok (.tup [.tup [.int 0,.tup A],.tup [.int (year-1),.tup B]]) (G++L))=.ok (.tup [.tup [.int 0,.tup A],.tup [.int (year-1),.tup B]]) G:=λL=>Jo (by simp[a,f])
  unfold Nu Za;rw[Aw];simp[Ah,i,d,h,j,Eo,Fi,g]
 refine⟨[(0,b)],λG=>?_⟩;have e: [((0:Int),b)].map Fv=[.tup [.int 0,.tup (b.map Stp.enc)]]:=rfl;rw[e];generalize b.map Stp.enc=A at*;have d:tidy G (.ok (.ref G.length) (G++[.lst [.tup [.int 0,.tup A]]]))=.ok (.ref G.length) (G++[.lst [.tup [.int 0,.tup A]]]):=Dp (by simp[a]);have g:∀L:DH,tidy G (.ok (.tup [.tup [.int 0,.tup A]]) (G++L))=.ok (.tup [.tup [.int 0,.tup A]]) G:=λL=>Jo (by simp[a])
 unfold Nu Za;rw[Aw];simp[Ah,i,d,h,Eo,g]
theorem R5{l:List Str}{i:Int}(b:0<=i)(a:i<(l.length:Int)):∃v∈l,atI (l.map D.str) i=zS v:=by
 have c:i<((l.map D.str).length:Int):=by rw[zj];exact a
 have e:=Pq b c;rw[xq]at e;exact⟨_,qV _,e⟩
def KG(ns:List Str):RK->Prop
 |.basin b _ q=>0<=b/\∀t d m,q=uQ (t,d,m)->t∈ns/\(1<=d/\d<=5)/\0<=m
 |.town a _=>0<=a
 |.mill a=>0<=a
structure PG (ns:List Str) (k:Nat) (p:RP):Prop where
 dn:∃j,k<j/\(ns++[("sea":Str)])[j]?=uQ p.dn
 dl:0<=p.dl/\p.dl<=5
 kd:KG ns p.kd
theorem Z9{l:List Int}{i:Int}(b:0<=i)(a:i<(l.length:Int)):∃v∈l,∀G,Ae (.fl (l.map D.int)) (.int i) G=.ok (.int v) G:=by
 have c:i<((l.map D.int).length:Int):=by rw[zj];exact a
 have e:=Pq b c;rw[xq]at e;exact⟨_,qV _,λG=>by simp[e];rfl⟩
theorem ZDQ{l:List Str}{i:Int}(b:0<=i)(a:i<(l.length:Int)):∃v,l[i.toNat]?=uQ v/\atI (l.map D.str) i=zS v:=by
 have c:i<((l.map D.str).length:Int):=by rw[zj];exact a
 have e:=Pq b c;rw[xq]at e;exact⟨_,zJ (by lia),e⟩
theorem ZO3(hn:ns.length=n)(hk:k<n)(hn6:n<=6)(w A g:Int){scale:Int}(I:0<=scale)(year:Int):∃p:RP,p.nm=ns.getD k ""/\PG ns k p/\∀G,freeze G (Ij [.fl [.int w,.int A,.int g],.int (k:Int),.fl (ns.map D.str),.int scale,.int year] G)=.ok p.enc G:=by
 obtain⟨i1,b1,t1⟩:=Dy w (p:=10007) (m:=(n:Int)-(k:Int)) (by decide) (by lia);obtain⟨i2,b2,t2⟩:=Dy w (p:=10009) (m:=9) (by decide) (by decide);obtain⟨x,b3,t3⟩:=Dy A (p:=10037) (m:=8) (by decide) (by decide);obtain⟨y,b4,t4⟩:=Dy w (p:=10039) (m:=5) (by decide) (by decide);obtain⟨i5,b5,t5⟩:=Dy A (p:=10061) (m:=3) (by decide) (by decide);obtain⟨i6,b6,t6⟩:=Dy g (p:=10067) (m:=2) (by decide) (by decide)
 obtain⟨dn,hdn,E⟩:=ZDQ (l:=ns++[("sea":Str)]) (i:=(k:Int)+1+i1) (by lia) (by simp;lia);have c:∃j,k<j/\(ns++[("sea":Str)])[j]?=uQ dn:=⟨_,by lia,hdn⟩;have o:=jq b3.1 I;obtain⟨s,hdm,hdl⟩:=Z9 (l:=[0,0,0,1,1,2,3,4,5]) (by lia) b2.2;have u:0<=s/\s<=5:=by simp at hdm;lia
 have C:∀G,Ae (.fl [.int 0,.int 0,.int 0,.int 1,.int 1,.int 2,.int 3,.int 4,.int 5]) (.int i2) G=.ok (.int s) G:=hdl;have P:atI (ns.map D.str) (k:Int)=zS (ns.getD k ""):=Dg rfl (by rw[zv,zJ (by lia)];simp[zW,(by lia:k<ns.length)]);have m3:∀G,Ax (.int x) (.int scale) G=.ok (.int (x*scale)) G:=λG=>Dn (by lia) (by lia)
 have fz1:∀G:DH,freeze G (.ok (.ref G.length) (G++[.lst [.str "sea"]]))=.ok (.fl [.str "sea"]) G:=λG=>Bk rfl
 have es:(ns++[("sea":Str)]).map D.str=ns.map D.str++[.str "sea"]:=by simp
 have fz2:∀G:DH,freeze G (.ok (.ref G.length) (G++[.lst (ns.map D.str++[.str "sea"])]))=.ok (.fl (ns.map D.str++[.str "sea"])) G:=λG=>Bk (by rw[<-es];exact Uu)
 have ll:(ns.map D.str).length+1<=1000000:=by rw[zj];lia
 have ad:∀G,Ai (.fl (ns.map D.str)) (.fl [.str "sea"]) G=.ok (.ref G.length) (G++[.lst (ns.map D.str++[.str "sea"])]):=λG=>by simp;lia
 have S:∀G:DH,freeze G (.ok (.ref G.length) (G++[.lst [.int 0,.int 0,.int 0,.int 1,.int 1,.int 2,.int 3,.int 4,.int 5]]))=.ok (.fl [.int 0,.int 0,.int 0,.int 1,.int 1,.int 2,.int 3,.int 4,.int 5]) G:=λG=>Bk rfl
 have b:∀G,Bb [.fl (ns.map D.str)] G=.ok (.int n) G:=λG=>by simp[hn]
 have v:∀(p:RP),(∀G,Ij [.fl [.int w,.int A,.int g],.int (k:Int),.fl (ns.map D.str),.int scale,.int year] G=.ok p.enc G)->∀G,freeze G (Ij [.fl [.int w,.int A,.int g],.int (k:Int),.fl (ns.map D.str),.int scale,.int year] G)=.ok p.enc G:=λp h G=>by rw[h];exact Kg Ny
 rw[es]at E;generalize hNM:ns.getD k ""=nm at*;have a:∀G,Vo [zF [.int w,.int A,.int g],zI (k:Int),zF (ns.map D.str),zI scale,zI year,zI n,uZ,uZ,uZ,uZ,uZ,uZ,uZ] G=
   Ku [zF [.int w,.int A,.int g],zI (k:Int),zF (ns.map D.str),zI scale,zI year,zI n,zS dn,zT [.str nm,.str dn,.int s],zI (x*scale),zI y,uZ,uZ,uZ] G:=λG=>by
  generalize ns.map D.str=L at*;unfold Vo ZFE ZFQ ZFk;simp[-Ti,Ah,fz1,ad,fz2,t1,E,P,S,t2,C,t3,m3,t4]
 rcases(by lia:(y=2∨y=3)∨y=4∨(¬y=2/\¬y=3/\¬y=4))with h|h|h
 .refine⟨⟨nm,dn,s,.town (x*scale) i5⟩,rfl,⟨c,u,o⟩,v _ λG=>?_⟩;have B:bel G.length (RP.enc ⟨nm,dn,s,.town (x*scale) i5⟩)=uJ:=Ny;unfold RP.enc RP.row RK.rest RK.txt at*;generalize ns.map D.str=L at*;unfold Ij Nb;rw[Aw];simp[]at B;unfold Ku at a;rcases h with h|h
  .simp[b,a,h,t5,Bw]
  simp[b,a,h,t5,Bw]
 .refine⟨⟨nm,dn,s,.mill (x*scale)⟩,rfl,⟨c,u,o⟩,v _ λG=>?_⟩;unfold RP.enc RP.row RK.rest RK.txt at*;generalize ns.map D.str=L at*;unfold Ij Nb;rw[Aw];unfold Ku Py at a;simp[b,a,h,Bw]
 obtain⟨Q,Z,U⟩:=h;by_cases hp:1<n/\i6=0
 .obtain⟨i7,b7,t7⟩:=Dy g (p:=10069) (m:=(n:Int)-1) (by decide) (by lia);obtain⟨M,b8,t8⟩:=Dy g (p:=10079) (m:=6) (by decide) (by decide);obtain⟨i9,b9,t9⟩:=Dy g (p:=10091) (m:=6) (by decide) (by decide);have J:(0:Int)<(n:Int):=by lia
  obtain⟨to,T,Y⟩:=R5 (i:=((k:Int)+1+i7)%(n:Int)) (jF _ (by lia)) (by rw[hn];exact jx _ J);obtain⟨O,F,hdy⟩:=Z9 (l:=[1,1,2,3,4,5]) (by lia) b9.2;have K:1<=O/\O<=5:=by simp at F;lia
  have H:∀G,Ae (.fl [.int 1,.int 1,.int 2,.int 3,.int 4,.int 5]) (.int i9) G=.ok (.int O) G:=hdy;have X:∀G:DH,freeze G (.ok (.ref G.length) (G++[.lst [.int 1,.int 1,.int 2,.int 3,.int 4,.int 5]]))=.ok (.fl [.int 1,.int 1,.int 2,.int 3,.int 4,.int 5]) G:=λG=>Bk rfl
  have m8:∀G,Ax (.int M) (.int scale) G=.ok (.int (M*scale)) G:=λG=>Dn (by lia) (by lia)
  obtain⟨r,N⟩:=ZC0 g (M*scale) scale year;refine⟨⟨nm,dn,s,.basin (x*scale) r (uQ (to,O,M*scale))⟩,rfl,⟨c,u,o,λt d m z=>by cases z;exact⟨T,K,jq b8.1 I⟩⟩,v _ λG=>?_⟩;have e:(1:Int)<(n:Int):=by lia
  have W:0<n:=by lia
  have B:bels G.length (r.map Fv)=uJ:=by simp
  unfold RP.enc RP.row RK.rest RK.txt pmD at*;generalize q:r.map Fv=RR at*;generalize ns.map D.str=L at*;unfold Ij Nb;rw[Aw];unfold Ku Py V3 V8 Wh Vx at a;simp[Ah,b,a,Q,Z,U,hp.1,e,t6,hp.2,t7,J,W,Y,t8,m8,X,t9,H,N,B,q,Bw]
 .obtain⟨r,N⟩:=ZC0 g 0 scale year;refine⟨⟨nm,dn,s,.basin (x*scale) r uZ⟩,rfl,⟨c,u,o,λt d m z=>by cases z⟩,v _ λG=>?_⟩;have B:bels G.length (r.map Fv)=uJ:=by simp
  unfold RP.enc RP.row RK.rest RK.txt pmD at*;generalize q:r.map Fv=RR at*;generalize ns.map D.str=L at*;unfold Ij Nb;rw[Aw];unfold Ku Py V3 V8 Wh Vx at a;by_cases e:1<n
  .have f:(1:Int)<(n:Int):=by lia
   have h6:¬i6=0:=λz=>hp ⟨e,z⟩
   simp[b,a,Q,Z,U,e,f,t6,h6,N,B,q,Bw]
  .have f:¬(1:Int)<(n:Int):=by lia
   simp[b,a,Q,Z,U,e,f,N,B,q,Bw]
theorem ZBU{p:RP}{ps:List RP}(h:PG ns j p)(b:∀i q,ps[i]?=uQ q->PG ns (j+1+i) q):∀i q,(p::ps)[i]?=uQ q->PG ns (j+i) q:=λi q a=>by
 cases i with
 |zero=>
  cases a;exact h
 |succ i=>
  have:=b i q a;rwa[show j+1+i=j+(i+1) by lia]at this
structure HG (h:RH):Prop where
 ng:NG (h.ps.map RP.nm)
 pg:∀i p,h.ps[i]?=uQ p->PG (h.ps.map RP.nm) i p
theorem ZBJ{ns:List Str}(z:ns.length=n)(o:n<=6){scale year:Int}(l:0<=scale){s1:Option D}:∀(m j:Nat)(acc:List RP)(r q:Option D),j+m=n->acc.length+m<=100->∃(ps:List RP)(P N:Option D),ps.map RP.nm=(qB j m).map (λk=>ns.getD k "")/\(∀i p,ps[i]?=uQ p->PG ns (j+i) p)/\∀G:DH,
  Bc (gV 6) Mx (Ay (j:Int) m) [zF (sc.map D.int),s1,zI scale,zF (ns.map D.str),zI year,zR G.length,r,q] (G++[.lst (acc.map RP.enc)])=
   .nx [zF (sc.map D.int),s1,zI scale,zF (ns.map D.str),zI year,zR G.length,P,N] (G++[.lst ((acc++ps).map RP.enc)])
 |0,j,acc,r,q,_,_=>⟨[],r,q,rfl,λi p h=>by simp at h,λG=>by rw[Hu,Gq,qJ]⟩
 | m+1,j,acc,r,q,e,X=>by
  obtain⟨p,I,E,S⟩:=ZO3 z (k:=j) (by lia) o (cellAt sc (4+3*(j:Int)+0)) (cellAt sc (4+3*(j:Int)+1)) (cellAt sc (4+3*(j:Int)+2)) l year;obtain⟨ps,C,F,L,B,K⟩:=ZBJ z o (year:=year) l (s1:=s1) m (j+1) (acc++[p]) (zI (j:Int)) (zF [.int (cellAt sc (4+3*(j:Int)+0)),.int (cellAt sc (4+3*(j:Int)+1)),.int (cellAt sc (4+3*(j:Int)+2))]) (by lia) (by simp;lia);refine⟨p::ps,C,F,?_,ZBU E B,λG=>?_⟩
  .rw[zK,L,I,jA,zK]
  have M:∀G,Bo (gV 0) Ar Ox [uZ,zF (sc.map D.int),zI (j:Int)] (Ay 0 3) G=.ok [.int (cellAt sc (4+3*(j:Int)+0)),.int (cellAt sc (4+3*(j:Int)+1)),.int (cellAt sc (4+3*(j:Int)+2))] G:=λG=>by
   have u:∀(i:Int),0<=i->∀G,Ox [zI i,zF (sc.map D.int),zI (j:Int)] G=.ok (.int (cellAt sc (4+3*(j:Int)+i))) G:=λi W G=>by
    have c:=λG=>Jb (ns:=sc) (k:=4+3*(j:Int)+i) (G:=G) (by lia)
    generalize cellAt sc (4+3*(j:Int)+i)=V at*;generalize sc.map D.int=SC at*;unfold Ox;simp[c]
   have O:Ay 0 3=[.int 0,.int 1,.int 2]:=rfl;rw[O,Gz];simp[Eb,R.Dv,qT,Ju,if_true,u 0 (by decide)];rw[Gz];simp[Eb,R.Dv,qT,Ju,if_true,u 1 (by decide)];rw[Gz];simp[Eb,R.Dv,qT,Ju,if_true,u 2 (by decide)]
   rfl
  have H:inR 3:=Ge (by decide) (by decide);have s:∀a b c d e f g h:Option D,Bh 1 [0,6] [a,b,c,d,e,f,g,h]=[uZ,a,g]:=λ_ _ _ _ _ _ _ _=>rfl
  have v:(acc.map RP.enc).length<1000000:=by rw[zj];lia
  have Q:Mx [zF (sc.map D.int),s1,zI scale,zF (ns.map D.str),zI year,zR G.length,zI (j:Int),q] (G++[.lst (acc.map RP.enc)])=
    .nx [zF (sc.map D.int),s1,zI scale,zF (ns.map D.str),zI year,zR G.length,zI (j:Int),zF [.int (cellAt sc (4+3*(j:Int)+0)),.int (cellAt sc (4+3*(j:Int)+1)),.int (cellAt sc (4+3*(j:Int)+2))]] (G++[.lst ((acc++[p]).map RP.enc)]):=by
   rw[zO,zK,qK];generalize cellAt sc (4+3*(j:Int)+0)=x at*;generalize cellAt sc (4+3*(j:Int)+1)=w at*;generalize cellAt sc (4+3*(j:Int)+2)=y at*;generalize sc.map D.int=SC at*;generalize ns.map D.str=U at*;generalize p.enc=T at*;generalize acc.map RP.enc=A at*;have t:∀A:DO,freeze (G++[A]) (.ok (.ref (G.length+1)) (G++[A,.lst [.int x,.int w,.int y]]))=.ok (.fl [.int x,.int w,.int y]) (G++[A]):=λA=>ZFn rfl
   unfold Mx;simp[Ah,H,s,M,t,S,Eo,Fi,v]
  rw[Gu,Eg];simp only[Eb,R.Ej,qT,Q,Fq];have J:((j:Int)+1)=((j+1:Nat):Int):=by lia
  rw[J,K,qX]
  rfl
theorem ZEx:(qB 0 ns.length).map (λk=>ns.getD k "")=ns:=by
 apply jM;intro i;rw[zv];by_cases h:i<ns.length
 .rw[List.getElem?_range' h,zJ h];simp[zW,h]
 rw[zA (by simp;lia),zA (by lia)]
 rfl
theorem ZMt(b:n<=6){scale:Int}(d:0<=scale):∃h:RH,h.ps.length=n/\HG h/\∀(G:DH)(f k v r t:Option D),ZAy [zF (sc.map D.int),zI (n:Int),zI scale,f,k,uZ,uZ,uZ] G=.rt h.enc (G++[.lst (h.ps.map RP.enc)]):=by
 obtain⟨e,j,ng,u⟩:=ZH8 (cellAt sc 1) b;obtain⟨ps,z,y,q,m,w⟩:=ZBJ j b d n 0 [] uZ uZ (by lia) (by simp;lia);have a:ps.map RP.nm=e:=by rw[q,<-j];exact ZEx
 refine⟨⟨1+cellAt sc 1/3%3,ps⟩,?_,⟨by rw[show RH.ps ⟨1+cellAt sc 1/3%3,ps⟩=ps from rfl,a];exact ng,λi p s=>by rw[show RH.ps ⟨1+cellAt sc 1/3%3,ps⟩=ps from rfl,a];have:=m i p s;rwa[jN]at this⟩,λG f k v r t=>?_⟩
 .have:=congrArg jG a;rw[zj]at this;show ps.length=n;lia
 have c:∀G,Dw [.fl (sc.map D.int),.int 1] G=.ok (.int (cellAt sc 1)) G:=λG=>Jb (by decide)
 have o:inR (n:Int):=Ge (by lia) (by lia);have l:tidy G (.ok (.ref G.length) (G++[.lst []]))=.ok (.ref G.length) (G++[.lst []]):=Dp rfl;have g:Bc (gV 6) Mx (Ay 0 n) [zF (sc.map D.int),zI (n:Int),zI scale,zF (e.map D.str),zI (1+cellAt sc 1/3%3),zR G.length,uZ,uZ] (G++[.lst []])=_:=w G;rw[qC]at g;unfold RH.enc;generalize ps.map RP.enc=PS at*;generalize cellAt sc 1=V at*
 generalize sc.map D.int=SC at*;generalize e.map D.str=x at*;unfold ZAy ZCn ZBv ZC1 ZCe;simp[Ah,c,u,l,o,g,Eo]
theorem ZNV{a:DH}(b:a=L++M)(d:∀n,bels n ds=uJ):∃(c N:DH)(z:Int),c=L++N/\
  tidy (G++ .lst [.int x]:: .lst NS::L) (.ok (.ref (G.length+(a.length+1+1))) (G++ .lst [.int y]:: .lst NS::(a++[.lst ds])))=.ok (.ref (G.length+(c.length+1+1))) (G++ .lst [.int z]:: .lst NS::(c++[.lst ds])):=by
 have e:(G++ .lst [.int y]:: .lst NS::(a++[.lst ds]))[G.length+(a.length+1+1)]?=uQ (.lst ds):=by rw[Gp];simp
 have f:bel (G++ .lst [.int x]:: .lst NS::L).length (.ref (G.length+(a.length+1+1)))=uX:=by rw[b];simp[bel]
 by_cases hp:(G++DO.lst [.int y]::DO.lst NS::(a++[DO.lst ds])).take (G++DO.lst [.int x]::DO.lst NS::L).length=G++DO.lst [.int x]::DO.lst NS::L
 .refine⟨L,[],x,by simp,?_⟩;unfold tidy;simp only[hp,if_true,f,e,Jg,d];simp
 refine⟨a,M,y,b,?_⟩;unfold tidy;simp only[hp,if_false]
theorem W9(G L M:DH)(A B o:DO):(G++A::B::(L++o::M))[G.length+(L.length+1+1)]?=uQ o:=by rw[Gp];simp
theorem ZN5(G L M:DH)(A B o a:DO):(G++A::B::(L++o::M)).set (G.length+(L.length+1+1)) a=G++A::B::(L++a::M):=by rw[Ip];simp
theorem ZGM(x most scale year:Int)(O:year<1000000)(L:DH){s5 s6:Option D}{hd:List D}(f:¬hd=[])(d:hd.length<=999997){sz:Int}{pm:D}{s11:Option D}:∃(r:List Ssn)(y:Int)(M:DH),
  Rh [zR G.length,s1,zR (G.length+1),zI scale,zI year,s5,s6,zT hd,zI sz,uQ pm,zI most,s11,uZ] (G++ .lst [.int x]:: .lst NS::L)=.rt (.tup (hd++[.int sz,.tup (r.map Fv),pm])) (G++ .lst [.int y]:: .lst NS::(L++M)):=by
 obtain⟨a,v,M1,J⟩:=rstairs x most scale G (.lst NS::L);have h:Jj [.ref G.length,.int most,.int scale] (G++ .lst [.int x]:: .lst NS::L)=.ok (.tup (a.map Stp.enc)) (G++ .lst [.int v]:: .lst NS::(L++M1)):=J;generalize s:L++M1=S at*;obtain⟨g,m,K,l,o⟩:=ZNV (G:=G) (NS:=NS) (ds:=[.tup [.int 0,.tup (a.map Stp.enc)]]) (x:=x) (y:=v) s.symm (λn=>by simp);obtain⟨F,E,Q,N⟩:=tk K (k:=2) (by decide) (by decide)
 have c:=N G (.lst NS::(g++[.lst [.tup [.int 0,.tup (a.map Stp.enc)]]]));by_cases u:F=1/\1<year
 .obtain⟨i,C,P,H⟩:=tk E (k:=year-1) (by lia) (by lia);have p:=H G (.lst NS::(g++[.lst [.tup [.int 0,.tup (a.map Stp.enc)]]]));obtain⟨b,w,M2,j⟩:=rstairs C most scale G (.lst NS::(g++[.lst [.tup [.int 0,.tup (a.map Stp.enc)]]]));have q:Jj [.ref G.length,.int most,.int scale] (G++ .lst [.int C]:: .lst NS::(g++[.lst [.tup [.int 0,.tup (a.map Stp.enc)]]]))=.ok (.tup (b.map Stp.enc)) (G++ .lst [.int w]:: .lst NS::(g++ .lst [.tup [.int 0,.tup (a.map Stp.enc)]]::M2)):=by rw[j];simp
  refine⟨[(0,a),(1+i,b)],w,m++ .lst [.tup [.int 0,.tup (a.map Stp.enc)],.tup [.int (1+i),.tup (b.map Stp.enc)]]::M2,?_⟩;have e: [((0:Int),a),(1+i,b)].map Fv=[.tup [.int 0,.tup (a.map Stp.enc)],.tup [.int (1+i),.tup (b.map Stp.enc)]]:=rfl;have t:L++(m++ .lst [.tup [.int 0,.tup (a.map Stp.enc)],.tup [.int (1+i),.tup (b.map Stp.enc)]]::M2)=g++ .lst [.tup [.int 0,.tup (a.map Stp.enc)],.tup [.int (1+i),.tup (b.map Stp.enc)]]::M2:=by rw[l];simp
  rw[e,t];generalize a.map Stp.enc=A at*;generalize b.map Stp.enc=B at*;unfold Rh Tt Xc;simp[Ah,h,o,c,u.1,u.2,p,q,W9,ZN5,f,d]
 refine⟨[(0,a)],E,m++[.lst [.tup [.int 0,.tup (a.map Stp.enc)]]],?_⟩;have e: [((0:Int),a)].map Fv=[.tup [.int 0,.tup (a.map Stp.enc)]]:=rfl;have t:L++(m++[.lst [.tup [.int 0,.tup (a.map Stp.enc)]]])=g++[.lst [.tup [.int 0,.tup (a.map Stp.enc)]]]:=by rw[l];simp
 rw[e,t];generalize a.map Stp.enc=A at*;unfold Rh Tt Xc;by_cases j:F=1
 .have I:¬1<year:=λz=>u ⟨j,z⟩
  simp[Ah,h,o,c,j,I,W9,f,d]
 simp[Ah,h,o,c,j,W9,f,d]
theorem nsG(G L:DH)(A:DO)(NS:List D):(G++A:: .lst NS::L)[G.length+1]?=uQ (.lst NS):=by rw[Gp];rfl
theorem rplace(hn:ns.length=n)(hk:k<n)(hn6:n<=6)(x:Int){scale:Int}(Q:0<=scale)(year:Int)(hy:year<1000000)(G L:DH):∃p:RP,p.nm=ns.getD k ""/\PG ns k p/\
  Pl G (.lst (ns.map D.str)::L) (Jk [.ref G.length,.int (k:Int),.ref (G.length+1),.int scale,.int year] (G++ .lst [.int x]:: .lst (ns.map D.str)::L)) p.enc:=by
 obtain⟨a,c⟩:∃a:Int->DH,∀x,a x=G++ .lst [.int x]:: .lst (ns.map D.str)::L:=⟨_,λ_=>rfl⟩;have T:∀(x:Int){m:Int},0<m->m<1000000->∃i y:Int,(0<=i/\i<m)/\Cj [.ref G.length,.int m] (a x)=.ok (.int i) (a y):=λx m h0 h1=>by obtain⟨i,y,b,t⟩:=tk x h0 h1;exact⟨i,y,b,by rw[c,c];exact t G _⟩
 have C:∀x,(a x)[G.length+1]?=uQ (.lst (ns.map D.str)):=λx=>by rw[c];exact nsG _ _ _ _
 have fz:∀(x:Int)(U:List D),(∀n,bels n U=uJ)->freeze (a x) (.ok (.ref (a x).length) (a x++[.lst U]))=.ok (.fl U) (a x):=λx U be=>Bk (be _)
 obtain⟨i1,x1,b1,t1⟩:=T x (m:=4) (by decide) (by decide);obtain⟨i2,x2,b2,t2⟩:=T x1 (m:=(n:Int)-(k:Int)) (by lia) (by lia);obtain⟨g,x3,b3,t3⟩:=T x2 (m:=6) (by decide) (by decide);obtain⟨o,P,b4,t4⟩:=T x3 (m:=8) (by decide) (by decide);obtain⟨i5,x5,b5,t5⟩:=T P (m:=3) (by decide) (by decide);obtain⟨i6,x6,b6,t6⟩:=T P (m:=2) (by decide) (by decide);obtain⟨A,I,akd⟩:=R5 (l:=[("basin":Str),"basin","town","mill"]) (by lia) b1.2
 have F:atI [D.str "basin",.str "basin",.str "town",.str "mill"] i1=zS A:=akd;obtain⟨dn,hdn,O⟩:=ZDQ (l:=ns++[("sea":Str)]) (i:=(k:Int)+1+i2) (by lia) (by simp;lia);have f:∃j,k<j/\(ns++[("sea":Str)])[j]?=uQ dn:=⟨_,by lia,hdn⟩;have u:0<=g/\g<=5:=by lia
 have v:=jq b4.1 Q;have Y:atI (ns.map D.str) (k:Int)=zS (ns.getD k ""):=Dg rfl (by rw[zv,zJ (by lia)];simp[zW,(by lia:k<ns.length)]);have m4:∀G,Ax (.int o) (.int scale) G=.ok (.int (o*scale)) G:=λG=>Dn (by lia) (by lia)
 have es:(ns++[("sea":Str)]).map D.str=ns.map D.str++[.str "sea"]:=by simp
 rw[es]at O;have fd:=λx=>fz x (ns.map D.str++[.str "sea"]) (λn=>by rw[<-es];exact Uu)
 have W:(ns.map D.str).length=n:=by rw[zj];exact hn
 have ad:∀x,Ai (.ref (G.length+1)) (.fl [.str "sea"]) (a x)=.ok (.ref (a x).length) (a x++[.lst (ns.map D.str++[.str "sea"])]):=λx=>by
  show(match Ep (.ref (G.length+1)) (a x),Ep (.fl [.str "sea"]) (a x)with
   |some xs,uQ ys=>if xs.length+ys.length<=1000000 then R.ok (D.ref (a x).length) (a x++[DO.lst (xs++ys)])else .bad
   |_,_=>.bad)=_
  have e1:Ep (.ref (G.length+1)) (a x)=uQ (ns.map D.str):=by simp[Ep,C]
  have e2:Ep (.fl [.str "sea"]) (a x)=uQ [.str "sea"]:=rfl;rw[e1,e2];exact if_pos (by rw[W];simp;lia)
 have w:∀(p:RP)(y:Int)(M:DH),Jk [.ref G.length,.int (k:Int),.ref (G.length+1),.int scale,.int year] (a x)=tidy (a x) (.ok p.enc (G++ .lst [.int y]::(.lst (ns.map D.str)::L++M)))->Pl G (.lst (ns.map D.str)::L) (Jk [.ref G.length,.int (k:Int),.ref (G.length+1),.int scale,.int year] (G++ .lst [.int x]:: .lst (ns.map D.str)::L)) p.enc:=λp y M e=>by rw[<-c,e,c];exact ZGR λ_=>Ny
 generalize hNM:ns.getD k ""=nm at*;have J:Ru [zR G.length,zI (k:Int),zR (G.length+1),zI scale,zI year,uZ,uZ,uZ,uZ,uZ,uZ,uZ,uZ] (a x)=
   Kf [zR G.length,zI (k:Int),zR (G.length+1),zI scale,zI year,zS A,zS dn,zT [.str A,.str nm,.str dn,.int g],zI (o*scale),uZ,uZ,uZ,uZ] (a P):=by
  generalize ns.map D.str=NS at*;unfold Ru ZBR ZBX ZBT;simp[Ah,t1,λx=>fz x [.str "basin",.str "basin",.str "town",.str "mill"] (λn=>rfl),F,C,λx=>fz x [.str "sea"] (λn=>rfl),ad,fd,W,t2,O,C,Y,t3,t4,m4]
 have q1:¬(("basin":Str)="town"):=by decide
 have q2:¬(("basin":Str)="mill"):=by decide
 have q3:¬(("mill":Str)="town"):=by decide
 have X:A="town"∨A="mill"∨A="basin":=by
  simp at I;rcases I with h|h|h
  .exact .inr (.inr h)
  .exact .inl h
  exact .inr (.inl h)
 have q:∀(d:D)(H:DH),Kf [zR G.length,zI (k:Int),zR (G.length+1),zI scale,zI year,zS A,zS dn,zT [.str A,.str nm,.str dn,.int g],zI (o*scale),uZ,uZ,uZ,uZ] (a P)=.rt d H->Jk [.ref G.length,.int (k:Int),.ref (G.length+1),.int scale,.int year] (a x)=tidy (a x) (.ok d H):=λd H e=>by
  unfold Jk;rw[Aw];show tidy (a x) (Ru [zR G.length,zI (k:Int),zR (G.length+1),zI scale,zI year,uZ,uZ,uZ,uZ,uZ,uZ,uZ,uZ] (a x)).ret=_;rw[J,e]
  rfl
 rcases X with rfl|rfl|rfl
 .refine⟨⟨nm,dn,g,.town (o*scale) i5⟩,rfl,⟨f,u,v⟩,w _ x5 [] ?_⟩;rw[qJ,<-c];refine q _ _ ?_;unfold RP.enc RP.row RK.rest RK.txt Kf;simp[t5]
 .refine⟨⟨nm,dn,g,.mill (o*scale)⟩,rfl,⟨f,u,v⟩,w _ P [] ?_⟩;rw[qJ,<-c];refine q _ _ ?_;unfold RP.enc RP.row RK.rest RK.txt Kf Pz;simp[q3]
 by_cases hp:i6=1/\1<n
 .obtain⟨i7,x7,b7,t7⟩:=T x6 (m:=(n:Int)-1) (by lia) (by lia);obtain⟨K,x8,b8,t8⟩:=T x7 (m:=6) (by decide) (by decide);obtain⟨i9,x9,b9,t9⟩:=T x8 (m:=5) (by decide) (by decide);have S:(0:Int)<(n:Int):=by lia
  have hn0:0<n:=by lia
  obtain⟨to,hto,ato⟩:=R5 (i:=((k:Int)+1+i7)%(n:Int)) (jF _ (by lia)) (by rw[hn];exact jx _ S);have m8:∀G,Ax (.int K) (.int scale) G=.ok (.int (K*scale)) G:=λG=>Dn (by lia) (by lia)
  obtain⟨r,y,M,E⟩:=ZGM x9 (K*scale) scale year hy L (s1:=zI (k:Int)) (s5:=zS "basin") (s6:=zS dn) (hd:=[.str "basin",.str nm,.str dn,.int g]) (by simp) (by simp) (sz:=o*scale) (pm:=.tup [.str to,.int (1+i9),.int (K*scale)]) (s11:=zS to);rw[<-c]at E;refine⟨⟨nm,dn,g,.basin (o*scale) r (uQ (to,1+i9,K*scale))⟩,rfl,⟨f,u,v,λt d m z=>by cases z;exact⟨hto,⟨by lia,by lia⟩,jq b8.1 Q⟩⟩,w _ y M ?_⟩
  refine q _ _ ?_;have B:(1:Int)<(n:Int):=by lia
  unfold RP.enc RP.row RK.rest RK.txt pmD;unfold Kf Pz ZAq U9 Yl;generalize s:r.map Fv=RR at*;generalize ns.map D.str=NS at*;simp[q1,q2,t6,hp.1,hp.2,B,C,W,t7,S,hn0,C,ato,t8,m8,t9,E,s]
 .obtain⟨r,y,M,E⟩:=ZGM x6 0 scale year hy L (s1:=zI (k:Int)) (s5:=zS "basin") (s6:=zS dn) (hd:=[.str "basin",.str nm,.str dn,.int g]) (by simp) (by simp) (sz:=o*scale) (pm:=.non) (s11:=uZ);rw[<-c]at E;refine⟨⟨nm,dn,g,.basin (o*scale) r uZ⟩,rfl,⟨f,u,v,λt d m z=>by cases z⟩,w _ y M ?_⟩;refine q _ _ ?_;unfold RP.enc RP.row RK.rest RK.txt pmD;unfold Kf Pz ZAq U9 Yl;generalize s:r.map Fv=RR at*
  generalize ns.map D.str=NS at*;by_cases Z:i6=1
  .have B:¬1<n:=λz=>hp ⟨Z,z⟩
   have N:¬(1:Int)<(n:Int):=by lia
   simp[q1,q2,t6,Z,B,N,C,W,E,s]
  simp[q1,q2,t6,Z,E,s]
noncomputable def cp(s:Str):List Nat:=s.cps.toList
theorem ZIe{a b:Str}:cp (a++b)=cp a++cp b:=by show(Str.append a b).cps.toList=_;simp[Str.append,cp]
theorem ZO6{c:Nat}{n:Int}(a:1<=n):cp (Ds ⟨#[c]⟩ n)=zQ n.toNat c:=by
 unfold Ds;rw[if_neg (by lia)];by_cases h:n=1
 .subst h
  rfl
 have e:(n==1||Str.length ⟨#[c]⟩==0)=uX:=by simp[h,Str.length]
 rw[e]
 show((zQ n.toNat #[c]).foldl (·++·) #[]).toList=_
 rw[R3];simp
def Own(c:Nat)(nm:Str):Prop:=∃(pre:Str)(k:Nat),pre∈[("":Str),"none","sea"]/\1<=k/\k<=3/\cp nm=cp pre++zQ k c
theorem ZFR{c:Nat}(h:Own c nm):(cp nm).getLast?=uQ c:=by obtain⟨a,k,_,b,_,e⟩:=h;obtain⟨m,rfl⟩:∃m,k=m+1:=⟨k-1,by lia⟩;rw[e,List.replicate_succ',<-qX,List.getLast?_concat]
theorem ZEc{c:Nat}(h:Own c nm):nm≠("none":Str)/\nm≠("sea":Str):=by
 obtain⟨d,k,hp,g,f,e⟩:=h;have p0:cp ("":Str)=[]:=by decide +kernel
 have a:cp ("none":Str)=[110,111,110,101]:=by decide +kernel
 have b:cp ("sea":Str)=[115,101,97]:=by decide +kernel
 have hk:k=1∨k=2∨k=3:=by lia
 simp[z0,List.not_mem_nil,or_false]at hp;refine⟨λz=>?_,λz=>?_⟩
 .rw[z,a]at e;rcases hp with rfl|rfl|rfl
  .rw[p0]at e
   rcases hk with rfl|rfl|rfl<;>simp[zQ]at e
  .rw[a]at e
   rcases hk with rfl|rfl|rfl<;>simp[zQ]at e
  rw[b]at e
  rcases hk with rfl|rfl|rfl<;>simp[zQ]at e
 rw[z,b]at e;rcases hp with rfl|rfl|rfl
 .rw[p0]at e
  rcases hk with rfl|rfl|rfl<;>simp[zQ]at e
  lia
 .rw[a]at e
  rcases hk with rfl|rfl|rfl<;>simp[zQ]at e
 .rw[b]at e
  rcases hk with rfl|rfl|rfl<;>simp[zQ]at e
structure NL (ns:List Str) (lt:List Nat):Prop where
 nd:ns.Nodup
 ld:lt.Nodup
 ow:∀nm∈ns,nm=("none":Str)∨∃c,c∉lt/\Own c nm
theorem NL.ng{lt:List Nat}(h:NL ns lt):NG ns:=⟨h.nd,λz=>by
 rcases h.ow _ z with e|⟨c,_,o⟩
 .exact absurd e (by decide +kernel)
 exact(ZEc o).2 rfl⟩
theorem NL.own{lt:List Nat}(h:NL ns lt)(g:j<lt.length)(o:Own lt[j] nm):NL (ns++[nm]) (lt.eraseIdx j):=by
 have p:lt[j]∉lt.eraseIdx j:=λz=>by
  obtain⟨i,s,e⟩:=List.mem_eraseIdx_iff_getElem?.mp z;obtain⟨n,m⟩:=zY.mp e;rcases Nat.lt_trichotomy i j with q|q|q
  .exact j5.mp h.ld i j n g q m
  .exact s q
  exact j5.mp h.ld j i g n q m.symm
 refine⟨List.nodup_append.mpr ⟨h.nd,by simp,λa r b k z=>?_⟩,h.ld.sublist (List.eraseIdx_sublist ..),λx d=>?_⟩
 .have k:b=nm:=by simpa using k
  subst k;subst z;rcases h.ow _ r with e|⟨c,f,l⟩
  .exact(ZEc o).1 e
  have:=(ZFR l).symm.trans (ZFR o);cases this;exact f (qV g)
 rcases qZ.mp d with d|d
 .rcases h.ow _ d with e|⟨c,f,l⟩
  .exact .inl e
  exact .inr ⟨c,(λc f z=>f (List.mem_of_mem_eraseIdx z)) c f,l⟩
 .have d:x=nm:=by simpa using d
  subst d;exact .inr ⟨_,p,o⟩
theorem NL.none{lt:List Nat}(h:NL ns lt)(g:("none":Str)∉ns):NL (ns++[("none":Str)]) (lt.eraseIdx j):=by
 refine⟨List.nodup_append.mpr ⟨h.nd,by simp,λa k b f z=>?_⟩,h.ld.sublist (List.eraseIdx_sublist ..),λx d=>?_⟩
 .have f:b=("none":Str):=by simpa using f
  subst f;subst z;exact g k
 rcases qZ.mp d with d|d
 .rcases h.ow _ d with e|⟨c,l,i⟩
  .exact .inl e
  exact .inr ⟨c,λz=>l (List.mem_of_mem_eraseIdx z),i⟩
 exact .inl (by simpa using d)
theorem ZG9(h:H[q]?=uQ (.lst (ns.map D.str))):∃b:Bool,(b=uJ->("none":Str)∉ns)/\Iz (.str "none") (.ref q) H=.ok (.bl b) H:=by
 have hs:Bm (.ref q) H=uQ (ns.map D.str):=by simp[Bm,h]
 have c:∀l:List Str,Ie (l.map D.str)=uQ (l.map V.str):=λl=>by
  induction l with
  |nil=>rfl
  |cons s l a=>simp[Ie,Kh,a]
 have f:∀l:List Str,inV (.str "none") (l.map V.str)=decide (("none":Str)∈l):=λl=>by
  unfold inV
  induction l with
  |nil=>rfl
  |cons s l a=>
   rw[zK,xV,a];by_cases e:s=("none":Str)
   .subst e;simp[eqV]
   have d:¬("none":Str)=s:=λz=>e z.symm
   simp[eqV,e,d]
 refine⟨!decide (("none":Str)∈ns),λz=>by simpa using z,?_⟩;unfold Iz;rw[show inD (.str "none") (.ref q) H=uQ (decide (("none":Str)∈ns)) by simp[inD,hs,Kh,c,f]]
theorem ZKe{x:Str}{n:Int}(a:x.length<=10)(e:0<=n)(d:n<=10):(Ds x n).length<=100:=by
 have c:(Ds x n).length=(Ds x n).cps.toList.length:=by simp[Str.length]
 have b:x.length=x.cps.toList.length:=by simp[Str.length]
 rw[c,congrArg jG (ZMY (x:=x) (n:=n)),List.length_flatten,List.map_replicate,List.sum_replicate_nat,<-b];have:n.toNat<=10:=by lia
 exact xC this a
theorem ZB8{a b:Type}(f:a->b):∀(l:List a)(j:Nat),(l.map f).eraseIdx j=(l.eraseIdx j).map f
 |[],_|x::l,0=>by simp
 |x::l,j+1=>by simp[ZB8 f l j]
noncomputable def one(c:Nat):Str:=⟨#[c]⟩
theorem ZNs{d:List Nat}(nl:NL ns d)(hns:ns.length<=20)(hlt:1<=d.length/\d.length<=26)(x:Int)(s1 s2 s3 s6 x7 x8:Option D):∃(nm:Str)(s:List Nat)(y:Int)(I K:Option D),s.length+1=d.length/\NL (ns++[nm]) s/\
  I8 [zR G.length,s1,s2,s3,zR (G.length+1),zR (G.length+2),s6,x7,x8] (G++[.lst [.int x],.lst (ns.map D.str),.lst (d.map (D.str∘one))])=
   .nx [zR G.length,s1,s2,s3,zR (G.length+1),zR (G.length+2),s6,I,K] (G++[.lst [.int y],.lst ((ns++[nm]).map D.str),.lst (s.map (D.str∘one))]):=by
 obtain⟨q,k⟩:∃q:Int->List D->List D->DH,∀x a b,q x a b=G++[.lst [.int x],.lst a,.lst b]:=⟨_,λ_ _ _=>rfl⟩;have T:∀(x:Int)(a b:List D){m:Int},0<m->m<1000000->∃i y:Int,(0<=i/\i<m)/\Cj [.ref G.length,.int m] (q x a b)=.ok (.int i) (q y a b):=λx a b m h0 h1=>by obtain⟨i,y,c,t⟩:=tk x h0 h1;exact⟨i,y,c,by rw[k,k];exact t G _⟩
 have P:∀x a b,(q x a b)[G.length+1]?=uQ (.lst a):=λx a b=>by rw[k,Gp];rfl
 have O:∀x a b,(q x a b)[G.length+2]?=uQ (.lst b):=λx a b=>by rw[k,Gp];rfl
 have sN:∀x a b c,(q x a b).set (G.length+1) (.lst c)=q x c b:=λx a b c=>by rw[k,k,Ip];rfl
 have sL:∀x a b c,(q x a b).set (G.length+2) (.lst c)=q x a c:=λx a b c=>by rw[k,k,Ip];rfl
 have fz:∀(x:Int)(a b ds:List D),(∀n,bels n ds=uJ)->freeze (q x a b) (.ok (.ref (q x a b).length) (q x a b++[.lst ds]))=.ok (.fl ds) (q x a b):=λx a b ds be=>Bk (be _)
 obtain⟨i1,x1,b1,t1⟩:=T x (ns.map D.str) (d.map (D.str∘one)) (m:=(d.length:Int)) (by lia) (by lia);obtain⟨j,ej⟩:∃j:Nat,i1=j:=⟨i1.toNat,by lia⟩;subst ej;have hj:j<d.length:=by lia
 have B:(d.map (D.str∘one)).length=d.length:=zj ..;have z:Ks (.ref (G.length+2)) [.int (j:Int)] (q x1 (ns.map D.str) (d.map (D.str∘one)))=.ok (.str (one d[j])) (q x1 (ns.map D.str) ((d.eraseIdx j).map (D.str∘one))):=by
  have e1:(d.map (D.str∘one))[(j:Int).toNat]?=zS (one d[j]):=by simp[hj]
  have e2:(d.map (D.str∘one)).eraseIdx (j:Int).toNat=(d.eraseIdx j).map (D.str∘one):=ZB8 _ _ _;unfold Ks;simp only[O,e1,e2,sL];rw[if_pos (by lia)]
 have N:(one d[j]).length<=10:=by show 1<=10;decide
 generalize A:d.eraseIdx j=g at*;have J:g.length+1=d.length:=by rw[<-A,List.length_eraseIdx_of_lt hj];lia
 have ow:=λnm(o:Own d[j] nm)=>nl.own hj o
 have on:=λh=>nl.none h (j:=j)
 rw[A]at on;simp[A]at ow;generalize d[j]=cc at*;obtain⟨r,M⟩:∃r,r=one cc:=⟨_,rfl⟩;rw[<-M]at N z;obtain⟨i2,x2,b2,t2⟩:=T x1 (ns.map D.str) (g.map (D.str∘one)) (m:=3) (by decide) (by decide);obtain⟨v,U,b3,t3⟩:=T x2 (ns.map D.str) (g.map (D.str∘one)) (m:=3) (by decide) (by decide);obtain⟨i4,x4,b4,t4⟩:=T U (ns.map D.str) (g.map (D.str∘one)) (m:=2) (by decide) (by decide);obtain⟨f,w,L⟩:=R5 (l:=[("":Str),"none","sea"]) (by lia) b2.2
 have p:atI [D.str "",.str "none",.str "sea"] i2=zS f:=L;have hprel:f.length<=10:=by
  simp at w
  rcases w with rfl|rfl|rfl<;>decide +kernel
 have W:=fz x2 (ns.map D.str) (g.map (D.str∘one)) [.str "",.str "none",.str "sea"] (λn=>rfl);have S:=fz x1 (ns.map D.str) (g.map (D.str∘one)) [.str "",.str "none",.str "sea"] (λn=>rfl);have Z:∀G,Ax (.str r) (.int (1+v)) G=.ok (.str (Ds r (1+v))) G:=λG=>ZLJ ⟨by lia,by lia,by lia⟩
 have hrl:=ZKe (n:=1+v) N (by lia) (by lia);have Y:∀G,Ai (.str f) (.str (Ds r (1+v))) G=.ok (.str (f++Ds r (1+v))) G:=λG=>by show(if f.length+(Ds r (1+v)).length<=1000000 then R.ok (D.str (f++Ds r (1+v))) G else .bad)=_;rw[if_pos (by lia)]
 have Q:Own cc (f++Ds r (1+v)):=⟨f,(1+v).toNat,w,by lia,by lia,by rw[ZIe,M];exact congrArg _ (ZO6 (by lia))⟩;have F:=ow _ Q;have hnl:(f++Ds r (1+v)).length<=1000000:=by
  have:(f++Ds r (1+v)).length=f.length+(Ds r (1+v)).length:=by show(Str.append _ _).length=_;simp[Str.append,Str.length]
  lia
 generalize f++Ds r (1+v)=nm at*;have X:∀G,G9 (.str nm) uZ (uQ 4) G=.ok (.str (Ii nm uZ (uQ 4))) G:=λG=>by rw[My,if_pos hnl]
 obtain⟨bb,hbn,H⟩:=ZG9 (P U (ns.map D.str) (g.map (D.str∘one)));have fs:∀(x:Str)(G:DH),freeze G (.ok (.str x) G)=.ok (.str x) G:=λx G=>Kg rfl
 have C:(ns.map D.str).length<1000000:=by rw[zj];lia
 have u:∀(E:Str)(y:Int)(I K:Option D),NL (ns++[E]) g->I8 [zR G.length,s1,s2,s3,zR (G.length+1),zR (G.length+2),s6,x7,x8] (q x (ns.map D.str) (d.map (D.str∘one)))=.nx [zR G.length,s1,s2,s3,zR (G.length+1),zR (G.length+2),s6,I,K] (q y (ns.map D.str++[.str E]) (g.map (D.str∘one)))->∃(nm:Str)(s:List Nat)(y:Int)(I K:Option D),s.length+1=d.length/\NL (ns++[nm]) s/\
  I8 [zR G.length,s1,s2,s3,zR (G.length+1),zR (G.length+2),s6,x7,x8] (G++[.lst [.int x],.lst (ns.map D.str),.lst (d.map (D.str∘one))])=
   .nx [zR G.length,s1,s2,s3,zR (G.length+1),zR (G.length+2),s6,I,K] (G++[.lst [.int y],.lst ((ns++[nm]).map D.str),.lst (s.map (D.str∘one))]):=λE y I K hN e=>⟨E,g,y,I,K,J,hN,by
   rw[k,k]at e;rw[e];simp⟩
 have on2:=on;clear on ow Q;generalize g.map (D.str∘one)=LT2 at*;generalize d.map (D.str∘one)=LT at*;generalize ns.map D.str=NS at*;generalize d.length=ln at*;generalize hcu:Ii nm uZ (uQ 4)=cu at*;by_cases c1:cu=("none":Str)
 .cases bb with
  |true=>
   by_cases c3:i4=1
   .refine u "none" x4 (zS r) (zS "none") (on2 (hbn rfl)) ?_;unfold I8;simp[-My,-Pb,Ah,O,B,t1,z,t2,S,W,p,t3,Z,Y,X,fs,c1,H,t4,c3,P,sN,C]
   refine u nm x4 (zS r) (zS nm) F ?_;unfold I8;simp[-My,-Pb,Ah,O,B,t1,z,t2,S,W,p,t3,Z,Y,X,fs,c1,H,t4,c3,P,sN,C]
  |false=>
   refine u nm U (zS r) (zS nm) F ?_;unfold I8;simp[-My,-Pb,Ah,O,B,t1,z,t2,S,W,p,t3,Z,Y,X,fs,c1,H,P,sN,C]
 refine u nm U (zS r) (zS nm) F ?_;unfold I8;simp[-My,-Pb,Ah,O,B,t1,z,t2,S,W,p,t3,Z,Y,X,fs,c1,P,sN,C]
theorem ZEZ{G:DH}:∀(m j:Nat)(ns:List Str)(b:List Nat)(x:Int)(e d c:Option D),ns.length+m<=20->m<=b.length->b.length<=26->NL ns b->∃(a:List Str)(f:List Nat)(y:Int)(w l i:Option D),a.length=ns.length+m/\NG a/\
  Bc (gV 6) I8 (Ay (j:Int) m) [zR G.length,s1,s2,s3,zR (G.length+1),zR (G.length+2),e,d,c] (G++[.lst [.int x],.lst (ns.map D.str),.lst (b.map (D.str∘one))])=
   .nx [zR G.length,s1,s2,s3,zR (G.length+1),zR (G.length+2),w,l,i] (G++[.lst [.int y],.lst (a.map D.str),.lst (f.map (D.str∘one))])
 |0,j,ns,b,x,e,d,c,_,_,_,h=>⟨ns,b,x,e,d,c,rfl,h.ng,by rw[Hu,Gq]⟩
 |m+1,j,ns,b,x,e,d,c,E,B,r,v=>by
  obtain⟨nm,k,y,l,i,C,u,A⟩:=ZNs (G:=G) v (by lia) ⟨by lia,r⟩ x s1 s2 s3 (zI (j:Int)) d c;obtain⟨a,g,z,o,p,n,t,ng,s⟩:=ZEZ m (j+1) (ns++[nm]) k y (zI (j:Int)) l i (by simp;lia) (by lia) (by lia) u;refine⟨a,g,z,o,p,n,by rw[t];simp;lia,ng,?_⟩;rw[Gu,Eg];simp only[Eb,R.Ej,qT,A,Fq];have q:((j:Int)+1)=((j+1:Nat):Int):=by lia
  rw[q,s]
theorem ZNN(hd:bel G.length d=uJ):freeze G (.ok d H)=.ok d G∨freeze G (.ok d H)=.ok d H:=by
 unfold freeze;have e:Fw H G.length 9 d=uQ d:=by unfold Fw;rw[if_pos hd]
 by_cases h:H.take G.length=G
 .left
  simp[h,e,if_true]
 right
 simp[h,if_false]
theorem ZCk(g:ns.length=n)(a:n<=6){scale year:Int}(b:0<=scale)(l:year<1000000):∀(m j:Nat)(x:Int)(L:DH),j+m=n->∃(ps:List RP)(y:Int)(M:DH),ps.map RP.nm=(qB j m).map (λk=>ns.getD k "")/\(∀i p,ps[i]?=uQ p->PG ns (j+i) p)/\
  Bo (gV 0) Ar Nx [uZ,zR G.length,zI scale,zI year,zR (G.length+1)] (Ay (j:Int) m) (G++ .lst [.int x]:: .lst (ns.map D.str)::L)=.ok (ps.map RP.enc) (G++ .lst [.int y]:: .lst (ns.map D.str)::(L++M))
 |0,j,x,L,_=>⟨[],x,[],rfl,λi p h=>by simp at h,by rw[Hu,qJ];rfl⟩
 | m+1,j,x,L,e=>by
  obtain⟨p,t,w,c,M1,z⟩:=rplace g (k:=j) (by lia) a x b year l G L;have f:Jk [.ref G.length,.int (j:Int),.ref (G.length+1),.int scale,.int year] (G++ .lst [.int x]:: .lst (ns.map D.str)::L)=.ok p.enc (G++ .lst [.int c]:: .lst (ns.map D.str)::(L++M1)):=z;obtain⟨d,M2,q⟩:∃(d:Int)(M2:DH),Nx [zI (j:Int),zR G.length,zI scale,zI year,zR (G.length+1)] (G++ .lst [.int x]:: .lst (ns.map D.str)::L)=.ok p.enc (G++ .lst [.int d]:: .lst (ns.map D.str)::(L++M2)):=by
   have o:Nx [zI (j:Int),zR G.length,zI scale,zI year,zR (G.length+1)] (G++ .lst [.int x]:: .lst (ns.map D.str)::L)=freeze (G++ .lst [.int x]:: .lst (ns.map D.str)::L) (.ok p.enc (G++ .lst [.int c]:: .lst (ns.map D.str)::(L++M1))):=by
    rw[<-f]
    rfl
   rcases ZNN Ny with h|h
   .exact⟨x,[],by rw[o,h,qJ]⟩
   exact⟨c,M1,by rw[o,h]⟩
  obtain⟨ps,y,M,r,s,v⟩:=ZCk g a b l m (j+1) d (L++M2) (by lia);refine⟨p::ps,y,M2++M,?_,ZBU w s,?_⟩
  .rw[zK,r,t,jA,zK]
  have u:((j:Int)+1)=((j+1:Nat):Int):=by lia
  rw[Gu,Gz,u];simp only[Eb,R.Dv,qT,Ju,if_true,q];rw[v,R.Dv,qX]
  rfl
theorem ZNa(g:∀n,bels n ds=uJ):∃(z:Int)(N:DH),(freeze (G++ .lst [.int x]:: .lst NS::L) (.ok (.ref (G.length+(L.length+M.length+1+1))) (G++ .lst [.int y]:: .lst NS::(L++(M++[.lst ds]))))).bind (λd h=>Df [d] h)=.ok (.tup ds) (G++ .lst [.int z]:: .lst NS::(L++N)):=by
 have i:(G++ .lst [.int y]:: .lst NS::(L++(M++[.lst ds])))[G.length+(L.length+M.length+1+1)]?=uQ (.lst ds):=by rw[Gp];simp
 by_cases hp:(G++DO.lst [.int y]::DO.lst NS::(L++(M++[DO.lst ds]))).take (G++DO.lst [.int x]::DO.lst NS::L).length=G++DO.lst [.int x]::DO.lst NS::L
 .refine⟨x,[],?_⟩;have j:(G++DO.lst [.int y]::DO.lst NS::(L++(M++[DO.lst ds])))=(G++DO.lst [.int x]::DO.lst NS::L)++(M++[DO.lst ds]):=by
   have a:=List.take_append_drop (G++DO.lst [.int x]::DO.lst NS::L).length (G++DO.lst [.int y]::DO.lst NS::(L++(M++[DO.lst ds])));rw[hp]at a;have b:(G++DO.lst [.int y]::DO.lst NS::(L++(M++[DO.lst ds]))).drop (G++DO.lst [.int x]::DO.lst NS::L).length=M++[DO.lst ds]:=by
    have e:(G++DO.lst [.int y]::DO.lst NS::(L++(M++[DO.lst ds])))=(G++DO.lst [.int y]::DO.lst NS::L)++(M++[DO.lst ds]):=by simp
    have f:(G++DO.lst [.int x]::DO.lst NS::L).length=(G++DO.lst [.int y]::DO.lst NS::L).length:=by simp
    rw[e,f,List.drop_append_of_le_length (zx _),List.drop_length]
    rfl
   rw[b]at a;exact a.symm
  have c:G.length+(L.length+M.length+1+1)=(G++DO.lst [.int x]::DO.lst NS::L).length+M.length:=by simp;lia
  rw[j,c,ZCD (M++[DO.lst ds]) (by simp) (g _),qJ]
  rfl
 refine⟨y,M++[.lst ds],?_⟩;have e:freeze (G++ .lst [.int x]:: .lst NS::L) (.ok (.ref (G.length+(L.length+M.length+1+1))) (G++ .lst [.int y]:: .lst NS::(L++(M++[.lst ds]))))=.ok (.ref (G.length+(L.length+M.length+1+1))) (G++ .lst [.int y]:: .lst NS::(L++(M++[.lst ds]))):=by unfold freeze;simp only[hp,if_false]
 rw[e,R.Dv];simp[i]
theorem alph:∃a:List Nat,a.length=26/\NL [] a/\signs ("abcdefghijklmnopqrstuvwxyz":Str)=a.map (D.str∘one):=by
 refine⟨("abcdefghijklmnopqrstuvwxyz":Str).cps.toList,by decide +kernel,⟨by simp,by decide +kernel,by simp⟩,?_⟩;unfold signs
 rfl
theorem rhouse(x:Int){scale:Int}(A:0<=scale)(X:1<=n)(E:n<=6)(G:DH):∃h:RH,h.ps.length=n/\HG h/\∃L:DH,Nf [.ref G.length,.int (n:Int),.int scale] (G++[.lst [.int x]])=.ok h.enc (G++L):=by
 obtain⟨q,m,b1,U⟩:=tk x (k:=3) (by decide) (by decide);obtain⟨lt,lt1,v,u⟩:=alph;obtain⟨o,j,I,y6,y7,y8,n1,ng,Z⟩:=ZEZ n 0 [] lt m uZ uZ uZ (by simp;lia) (by lia) (by lia) v;have s:o.length=n:=by simpa using n1
 obtain⟨ps,y,M,p1,W,p3⟩:=ZCk s E (year:=1+q) A (by lia) n 0 I [.lst (j.map (D.str∘one))] (by lia);have l:ps.map RP.nm=o:=by rw[p1,<-s];exact ZEx
 obtain⟨z,N,H⟩:=ZNa (G:=G) (L:=[.lst (j.map (D.str∘one))]) (M:=M) (NS:=o.map D.str) (x:=I) (y:=y) (λ_=>ZJj);have J:(ps.map RP.enc).length<=1000000:=by have:=congrArg jG l;rw[zj]at this⊢;lia
 refine⟨⟨1+q,ps⟩,?_,⟨by rw[show RH.ps ⟨1+q,ps⟩=ps from rfl,l];exact ng,λi p hi=>by rw[show RH.ps ⟨1+q,ps⟩=ps from rfl,l];have:=W i p hi;rwa[jN]at this⟩,?_⟩
 .have:=congrArg jG l;rw[zj]at this;show ps.length=n;lia
 have hr:inR (n:Int):=Ge (by lia) (by lia);have B:tidy (G++[.lst [.int m]]) (.ok (.ref (G.length+1)) (G++[.lst [.int m],.lst []]))=.ok (.ref (G.length+1)) (G++[.lst [.int m],.lst []]):=ZGv rfl;have K:tidy (G++[.lst [.int m],.lst []]) (.ok (.ref (G.length+2)) (G++[.lst [.int m],.lst [],.lst (lt.map (D.str∘one))]))=.ok (.ref (G.length+2)) (G++[.lst [.int m],.lst [],.lst (lt.map (D.str∘one))]):=ZLs (Fj λ_ _=>rfl)
 have t:∀G,Gf [.str "abcdefghijklmnopqrstuvwxyz"] G=.ok (.ref G.length) (G++[.lst (lt.map (D.str∘one))]):=λG=>by
  rw[<-u]
  rfl
 have C:∀a b c d e f g h i:Option D,Bh 1 [0,2,3,4] [a,b,c,d,e,f,g,h,i]=[uZ,a,c,d,e]:=λ_ _ _ _ _ _ _ _ _=>rfl
 have O:Bc (gV 6) I8 (Ay 0 n) [zR G.length,zI (n:Int),zI scale,zI (1+q),zR (G.length+1),zR (G.length+2),uZ,uZ,uZ] (G++[.lst [.int m],.lst [],.lst (lt.map (D.str∘one))])=_:=Z;have w:Bo (gV 0) Ar Nx [uZ,zR G.length,zI scale,zI (1+q),zR (G.length+1)] (Ay 0 n) (G++[.lst [.int I],.lst (o.map D.str),.lst (j.map (D.str∘one))])=.ok (ps.map RP.enc) (G++ .lst [.int y]:: .lst (o.map D.str):: .lst (j.map (D.str∘one))::M):=p3
 have e:Nf [.ref G.length,.int (n:Int),.int scale] (G++[.lst [.int x]])=tidy (G++[.lst [.int x]]) (.ok (RH.enc ⟨1+q,ps⟩) (G++ .lst [.int z]:: .lst (o.map D.str)::([.lst (j.map (D.str∘one))]++N))):=by
  unfold RH.enc;generalize ps.map RP.enc=PS at*;generalize o.map D.str=Y at*;generalize lt.map (D.str∘one)=LT at*;generalize j.map (D.str∘one)=T at*;unfold Nf ZDs ZCp ZGu ZF4 ZCx;rw[Aw];simp at H;simp[Ah,U G [],B,t,K,hr,O,C,w,J];have ei:1+M.length+1+1=M.length+1+1+1:=by lia
  rw[ei]at H
  have P:∀(r:R D)(S:DSt),((r.bind λx F=>(Ac S F).bind λxs Q=>R.ok (x::xs) Q).bind Df)=r.bind λd F=>Df [d] F:=λr S=>by cases r<;>rfl
  rw[P,H];simp
 rcases ZCQ Qj with h|h
 .exact⟨_,by rw[e,h]⟩
 exact⟨_,by rw[e,h]⟩
noncomputable def tupI(l:List Int):D:=.tup (l.map D.int)
def stE(lv:List Int)(cm:List (List Int)):D:=.tup [tupI lv,.tup (cm.map tupI)]
noncomputable def pyD(pays:List (List Int)):List D:=pays.map λl=>.tup (l.map D.int)
def Bd(x:Int):Prop:=0<=x/\x<=10^32
theorem Zc{i k s:Int}(a:0<=i)(b:i<=k)(hk:k<=50)(s0:0<=s)(s1:s<=10^30):Bd (i*s):=by refine⟨jq a s0,?_⟩;have c:=qQ (show i<=50 by lia) s0;lia
theorem ZNB(k:1<=n)(b:n<=6){scale:Int}(e:0<=scale)(G:DH):∃h:RH,h.ps.length=n/\HG h/\Nt [.fl (sc.map D.int),.int (n:Int),.int scale] G=.ok h.enc G:=by
 have a:∀G,Dw [.fl (sc.map D.int),.int 4] G=.ok (.int (cellAt sc 4)) G:=λG=>Jb (by decide)
 by_cases g:0<=cellAt sc 4/\cellAt sc 4<10^18
 .obtain⟨h,m,j,f⟩:=ZMt (sc:=sc) b e;refine⟨h,m,j,?_⟩;have r:bel G.length h.enc=uJ:=Qj;have i:∀L:DH,tidy G (.ok h.enc (G++L))=.ok h.enc G:=λL=>Jo r
  have o:cellAt sc 4<1000000000000000000:=g.2;generalize h.ps.map RP.enc=PS at*;generalize h.enc=q at*;generalize cellAt sc 4=V at*;generalize sc.map D.int=SC at*;unfold Nt Xh;rw[Aw];simp[a,g.1,g.2,o,f G uZ uZ uZ uZ uZ,i]
 obtain⟨h,m,j,L,f⟩:=rhouse (cellAt sc 4) e k b G;refine⟨h,m,j,?_⟩;have i:∀L:DH,tidy G (.ok h.enc (G++L))=.ok h.enc G:=λL=>Jo Qj
 have p:tidy G (.ok (.ref G.length) (G++[.lst [.int (cellAt sc 4)]]))=.ok (.ref G.length) (G++[.lst [.int (cellAt sc 4)]]):=Dp rfl;generalize h.enc=q at*;generalize cellAt sc 4=V at*;generalize sc.map D.int=SC at*;unfold Nt Xh;rw[Aw];by_cases l:0<=V
 .have d:¬V<10^18:=λz=>g ⟨l,z⟩
  have c:¬V<1000000000000000000:=d;simp[Ah,a,l,d,c,p,f,i]
 simp[Ah,a,l,p,f,i]
theorem ZJ2(cell:Int){scale:Int}(s0:0<=scale)(s1:scale<=10^30):∃r:List Int,(r.length=5/\∀x∈r,Bd x)/\∀G,Bo (gV 0) Ar Ra [uZ,zI scale,zI cell] (Ay 0 5) G=.ok (r.map D.int) G:=by
 obtain⟨h,e,c,a⟩:=Mu (te:=Ra) (S:=[uZ,zI scale,zI cell]) (Q:=λd=>∃i,Bd i/\d=.int i) 5 0 λk _ _=>by
  obtain⟨i,b,t⟩:=Dy (cell+(k:Int)) (p:=10099) (m:=4) (by decide) (by decide);have g:∀G,Ax (.int (i/2)) (.int scale) G=.ok (.int (i/2*scale)) G:=λG=>Dn (by lia) (by lia)
  refine⟨.int (i/2*scale),⟨_,Zc (k:=2) (by lia) (by lia) (by decide) s0 s1,rfl⟩,λG=>?_⟩;unfold Ra;simp[t,g]
 obtain⟨l,rfl,f⟩:=ints_of c;exact⟨l,⟨by simpa using e,f⟩,a⟩
theorem ZDO(K:HG h){scale:Int}(s:0<=scale)(I:scale<=10^30):∀(m j:Nat)(lv:List Int)(cm:List (List Int))(P L M:Option D),j+m=h.ps.length->lv.length+m<=100->cm.length+m<=100->(∀r∈cm,r.length=5/\∀x∈r,Bd x)->(∀x∈lv,Bd x)->∃(l:List Int)(n:List (List Int))(y5 y6 O:Option D),l.length=lv.length+m/\n.length=cm.length+m/\(∀r∈n,r.length=5/\∀x∈r,Bd x)/\(∀x∈l,Bd x)/\∀G:DH,
  Bc (gV 5) Km (Ay (j:Int) m) [zF (sc.map D.int),uQ h.enc,zI scale,zR G.length,zR (G.length+1),P,L,M] (G++[.lst (lv.map D.int),.lst (cm.map tupI)])=
   .nx [zF (sc.map D.int),uQ h.enc,zI scale,zR G.length,zR (G.length+1),y5,y6,O] (G++[.lst (l.map D.int),.lst (n.map tupI)])
 |0,j,lv,cm,P,L,M,_,_,_,hc,Z=>⟨lv,cm,P,L,M,rfl,rfl,hc,Z,λG=>by rw[Hu,Gq]⟩
 | m + 1,j,lv,cm,P,L,M,e,h1,h2,hc,Z=>by
  obtain⟨p,hp⟩:∃p,h.ps[j]?=uQ p:=⟨_,zJ (by lia)⟩;have ap:=Ls hp;have Q:∀G,Ae h.enc (.int 1) G=.ok (.tup (h.ps.map RP.enc)) G:=λG=>G8
  have y:∀G,Dw [.fl (sc.map D.int),.int (19+(j:Int))] G=.ok (.int (cellAt sc (19+(j:Int)))) G:=λG=>Jb (by lia)
  obtain⟨r,⟨r1,r0⟩,r2⟩:=ZJ2 (cellAt sc (19+(j:Int))) s I;obtain⟨i,b,t⟩:=Dy (cellAt sc (19+(j:Int))) (p:=10093) (m:=9) (by decide) (by decide);have m1:∀G,Ax (.int i) (.int scale) G=.ok (.int (i*scale)) G:=λG=>Dn (by lia) (by lia)
  have E:inR 5:=Ge (by decide) (by decide);have u:∀a b c d e f g h:Option D,Bh 1 [2,6] [a,b,c,d,e,f,g,h]=[uZ,c,g]:=λ_ _ _ _ _ _ _ _=>rfl
  have p0:∀G,Ae p.enc (.int 0) G=.ok (.str p.kd.txt) G:=λG=>renc0
  have key:∃(v:Int)(O:Option D),Bd v/\∀G:DH,Km [zF (sc.map D.int),uQ h.enc,zI scale,zR G.length,zR (G.length+1),zI (j:Int),L,M] (G++[.lst (lv.map D.int),.lst (cm.map tupI)])=
    .nx [zF (sc.map D.int),uQ h.enc,zI scale,zR G.length,zR (G.length+1),zI (j:Int),zI (cellAt sc (19+(j:Int))),O] (G++[.lst ((lv++[v]).map D.int),.lst ((cm++[r]).map tupI)]):=by
   have W:tupI r=.tup (r.map D.int):=rfl;have z:(lv.map D.int).length<1000000:=by rw[zj];lia
   have F:(cm.map tupI).length<1000000:=by rw[zj];lia
   have w:(r.map D.int).length<=1000000:=by rw[zj];lia
   have fz:∀(G:DH)(A B:DO),freeze (G++[A,B]) (.ok (.ref (G.length+2)) (G++[A,B,.lst (r.map D.int)]))=.ok (.fl (r.map D.int)) (G++[A,B]):=λG A B=>ZM3 Hs
   have Y:∀(G:DH)(A B:DO),(G++[A,B])[G.length]?=uQ A:=λG A B=>by rw[Eo];rfl
   have T:∀(G:DH)(A B:DO),(G++[A,B])[G.length+1]?=uQ B:=λG A B=>by rw[Gp];rfl
   have U:∀(G:DH)(A B C:DO),(G++[A,B]).set G.length C=G++[C,B]:=λG A B C=>by rw[Fi];rfl
   have S:∀(G:DH)(A B C:DO),(G++[A,B]).set (G.length+1) C=G++[A,C]:=λG A B C=>by rw[Ip];rfl
   by_cases q:p.kd.txt="basin"
   .obtain⟨H,rr,qq,N⟩:∃H rr qq,p.kd=.basin H rr qq:=by
     cases hk:p.kd with
     |basin a b c=>exact⟨a,b,c,rfl⟩
     |town a b=>rw[hk]at q;exact absurd q (by show¬(("town":Str)="basin");decide)
     |mill a=>rw[hk]at q;exact absurd q (by show¬(("mill":Str)="basin");decide)
    have p4:∀G,Ae p.enc (.int 4) G=.ok (.int H) G:=λG=>by unfold RP.enc RP.row RK.rest;rw[N];simp
    have hb0:0<=H:=by have:=(K.pg j p hp).kd;rw[N]at this;exact this.1
    have J:Bd (i*scale):=Zc (k:=9) (by lia) (by lia) (by decide) s I;by_cases hg:H<i*scale
    .refine⟨H,zI H,⟨hb0,by have:=J.2;lia⟩,λG=>?_⟩;rw[zO,zO,zK,zK,qK,qK,W];generalize cellAt sc (19+(j:Int))=V at*;generalize h.ps.map RP.enc=PS at*;generalize h.enc=he at*;generalize p.enc=pe at*;generalize sc.map D.int=SC at*;generalize r.map D.int=RI at*;generalize lv.map D.int=LV at*;generalize cm.map tupI=CM at*
     unfold Km;simp[Ah,y,Q,ap,p0,q,t,m1,p4,hg,Y,T,U,S,z,F,E,u,r2,w,fz]
    refine⟨i*scale,zI (i*scale),J,λG=>?_⟩;rw[zO,zO,zK,zK,qK,qK,W];generalize cellAt sc (19+(j:Int))=V at*;generalize h.ps.map RP.enc=PS at*;generalize h.enc=he at*;generalize p.enc=pe at*;generalize sc.map D.int=SC at*;generalize r.map D.int=RI at*;generalize lv.map D.int=LV at*;generalize cm.map tupI=CM at*;unfold Km
    simp[Ah,y,Q,ap,p0,q,t,m1,p4,hg,Y,T,U,S,z,F,E,u,r2,w,fz]
   refine⟨0,zI 0,⟨by decide,by decide⟩,λG=>?_⟩;rw[zO,zO,zK,zK,qK,qK,W];generalize cellAt sc (19+(j:Int))=V at*;generalize h.ps.map RP.enc=PS at*;generalize h.enc=he at*;generalize p.enc=pe at*;generalize sc.map D.int=SC at*;generalize r.map D.int=RI at*;generalize lv.map D.int=LV at*;generalize cm.map tupI=CM at*;unfold Km
   simp[Ah,y,Q,ap,p0,q,Y,T,U,S,z,F,E,u,r2,w,fz]
  obtain⟨v,O,X,q⟩:=key;obtain⟨l,n,z5,z6,z7,c1,c2,c3,c4,hL⟩:=ZDO K s I m (j+1) (lv++[v]) (cm++[r]) (zI (j:Int)) (zI (cellAt sc (19+(j:Int)))) O (by lia) (by simp;lia) (by simp;lia) (λx o=>by
   rcases qZ.mp o with o|o
   .exact hc x o
   .have:x=r:=by simpa using o
    rw[this];exact⟨r1,r0⟩) (λx o=>by
   rcases qZ.mp o with o|o
   .exact Z x o
   have:x=v:=by simpa using o
   rw[this];exact X)
  refine⟨l,n,z5,z6,z7,by rw[c1];simp;lia,by rw[c2];simp;lia,c3,c4,λG=>?_⟩;rw[Gu,Eg];simp only[Eb,R.Ej,qT,q,Fq];have e1:((j:Int)+1)=((j+1:Nat):Int):=by lia
  rw[e1,hL]
theorem ZKo(b:HG h)(F:h.ps.length<=100){scale:Int}(c:0<=scale)(e:scale<=10^30):∃(lv:List Int)(cm:List (List Int)),lv.length=h.ps.length/\cm.length=h.ps.length/\(∀r∈cm,r.length=5/\∀x∈r,Bd x)/\(∀x∈lv,Bd x)/\∀G,Rn [.fl (sc.map D.int),h.enc,.int scale] G=.ok (stE lv cm) G:=by
 obtain⟨lv,cm,z,I,H,o,w,l,k,s⟩:=ZDO b c e h.ps.length 0 [] [] uZ uZ uZ (by lia) (by simp;lia) (by simp;lia) (by simp) (by simp);refine⟨lv,cm,by simpa using o,by simpa using w,l,k,λG=>?_⟩;have g:∀G,Ae h.enc (.int 1) G=.ok (.tup (h.ps.map RP.enc)) G:=λG=>G8
 have a:∀G,Bb [.tup (h.ps.map RP.enc)] G=.ok (.int h.ps.length) G:=λG=>by simp
 have t:inR (h.ps.length:Int):=Ge (by lia) (by lia);have m:tidy G (.ok (.ref G.length) (G++[.lst []]))=.ok (.ref G.length) (G++[.lst []]):=Dp rfl;have y:tidy (G++[.lst []]) (.ok (.ref (G.length+1)) (G++[.lst [],.lst []]))=.ok (.ref (G.length+1)) (G++[.lst [],.lst []]):=ZGv rfl;have d:Bc (gV 5) Km (Ay 0 h.ps.length) [zF (sc.map D.int),uQ h.enc,zI scale,zR G.length,zR (G.length+1),uZ,uZ,uZ] (G++[.lst [],.lst []])=_:=s G
 have q:∀(G:DH)(A B:DO),(G++[A,B])[G.length]?=uQ A:=λG A B=>by rw[Eo];rfl
 have j:∀(G:DH)(A B:DO),(G++[A,B])[G.length+1]?=uQ B:=λG A B=>by rw[Gp];rfl
 have u:bel G.length (stE lv cm)=uJ:=by
  have v:bels G.length (cm.map tupI)=uJ:=Fj λr _=>by exact Hs
  have i:bel G.length (tupI lv)=uJ:=by exact Hs
  unfold stE;simp[v,i]
 have f:∀L:DH,tidy G (.ok (stE lv cm) (G++L))=.ok (stE lv cm) G:=λL=>Jo u
 have p:stE lv cm=.tup [.tup (lv.map D.int),.tup (cm.map tupI)]:=rfl;rw[p]at f⊢;generalize h.ps.map RP.enc=PS at*;generalize h.ps.length=n at*;generalize h.enc=C at*;generalize sc.map D.int=SC at*;generalize lv.map D.int=J at*;generalize cm.map tupI=E at*;unfold Rn ZFe;rw[Aw];simp[Ah,m,y,g,a,t,d,q,j,f]
theorem ZHz(first w a top scale:Int)(x:0<=first)(hw:0<=w/\w<1000)(q:0<=a/\a<=100)(o:0<top/\top<=100):∃r:List Int,r.length=n/\(∀v∈r,∃i,(0<=i/\i<top)/\v=i*scale)/\∀G,Bo (gV 0) Ar Qg [uZ,zF (sc.map D.int),zI first,zI a,zI top,zI scale,zI w] (Ay 0 n) G=.ok (r.map D.int) G:=by
 obtain⟨u,j,f,e⟩:=Mu (te:=Qg) (S:=[uZ,zF (sc.map D.int),zI first,zI a,zI top,zI scale,zI w]) (Q:=λd=>∃v,(∃i,(0<=i/\i<top)/\v=i*scale)/\d=.int v) n 0 λk _ _=>by
  have h:=jq hw.1 q.1
  have c:∀G,Dw [.fl (sc.map D.int),.int (first+w*a+(k:Int))] G=.ok (.int (cellAt sc (first+w*a+(k:Int)))) G:=λG=>Jb (by lia)
  obtain⟨i,b,t⟩:=Dy (cellAt sc (first+w*a+(k:Int))) (p:=10103) (by decide) o.1
  have s:∀G,Ax (.int i) (.int scale) G=.ok (.int (i*scale)) G:=λG=>Dn (by lia) (by lia)
  have m:∀G,Ax (.int w) (.int a) G=.ok (.int (w*a)) G:=λG=>Dn (by lia) (by lia)
  refine⟨.int (i*scale),⟨_,⟨i,b,rfl⟩,rfl⟩,λG=>?_⟩
  generalize cellAt sc (first+w*a+(k:Int))=V at*
  generalize sc.map D.int=SC at*;unfold Qg;simp[m,c,t,s]
 obtain⟨l,rfl,g⟩:=ints_of f;exact⟨l,by simpa using j,g,e⟩
theorem ZBK{first top scale:Int}{turns:Nat}(s:0<=first)(I:n<=100)(q:0<top/\top<=100){s2:Option D}:∀(m w:Nat)(acc:List (List Int))(k j:Option D),w+m<=900->acc.length+m<=1000->∃(rs:List (List Int))(J H:Option D),rs.length=m/\(∀r∈rs,r.length=n/\∀v∈r,∃i,(0<=i/\i<top)/\v=i*scale)/\∀G:DH,
  Bc (gV 7) Mg (Ay (w:Int) m) [zF (sc.map D.int),zI first,s2,zI (n:Int),zI top,zI scale,zR G.length,k,j] (G++[.lst (acc.map tupI)])=
   .nx [zF (sc.map D.int),zI first,s2,zI (n:Int),zI top,zI scale,zR G.length,J,H] (G++[.lst ((acc++rs).map tupI)])
 |0,w,acc,k,j,_,_=>⟨[],k,j,rfl,by simp,λG=>by rw[Hu,Gq,qJ]⟩
 | m+1,w,acc,k,j,P,O=>by
  obtain⟨r,F,E,M⟩:=ZHz first (w:Int) (n:Int) top scale s ⟨by lia,by lia⟩ ⟨by lia,by lia⟩ q
  obtain⟨rs,z,t,x,K,u⟩:=ZBK (turns:=turns) s I q (s2:=s2) m (w+1) (acc++[r]) (zI (w:Int)) (zF (r.map D.int)) (by lia) (by simp;lia);refine⟨r::rs,z,t,by simp[x],jO.mpr ⟨⟨F,E⟩,K⟩,λG=>?_⟩;have B:inR (n:Int):=Ge (by lia) (by lia);have l:∀a b c d e f g h i:Option D,Bh 1 [0,1,3,4,5,7] [a,b,c,d,e,f,g,h,i]=[uZ,a,b,d,e,f,h]:=λ_ _ _ _ _ _ _ _ _=>rfl
  have o:(r.map D.int).length<=1000000:=by rw[zj];lia
  have p:(acc.map tupI).length<1000000:=by rw[zj];lia
  have y:tupI r=.tup (r.map D.int):=rfl;have N:∀A:DO,freeze (G++[A]) (.ok (.ref (G.length+1)) (G++[A,.lst (r.map D.int)]))=.ok (.fl (r.map D.int)) (G++[A]):=λA=>ZFn Hs
  have L:Mg [zF (sc.map D.int),zI first,s2,zI (n:Int),zI top,zI scale,zR G.length,zI (w:Int),j] (G++[.lst (acc.map tupI)])=
    .nx [zF (sc.map D.int),zI first,s2,zI (n:Int),zI top,zI scale,zR G.length,zI (w:Int),zF (r.map D.int)] (G++[.lst ((acc++[r]).map tupI)]):=by
   rw[zO,zK,qK,y];generalize sc.map D.int=SC at*;generalize r.map D.int=Q at*;generalize acc.map tupI=A at*;unfold Mg;simp[Ah,B,l,M,o,N,Eo,Fi,p]
  rw[Gu,Eg];simp only[Eb,R.Ej,qT,L,Fq];have C:((w:Int)+1)=((w+1:Nat):Int):=by lia
  rw[C,u,qX]
  rfl
theorem Eh{l:List (List Int)}:bels n (l.map tupI)=uJ:=Fj λr _=>by exact Hs
theorem ZGg{first top scale:Int}{turns:Nat}(c:0<=first)(b:n<=100)(l:turns<=100)(k:0<top/\top<=100):∃rs:List (List Int),rs.length=turns/\(∀r∈rs,r.length=n/\∀v∈r,∃i,(0<=i/\i<top)/\v=i*scale)/\∀G,freeze G (Lg [.fl (sc.map D.int),.int first,.int (turns:Int),.int (n:Int),.int top,.int scale] G)=.ok (.fl (rs.map tupI)) G:=by
 obtain⟨rs,p,q,j,d,f⟩:=ZBK (turns:=turns) c b k turns 0 [] uZ uZ (by lia) (by simp;lia);refine⟨rs,j,d,λG=>?_⟩;have h:inR (turns:Int):=Ge (by lia) (by lia);have g:tidy G (.ok (.ref G.length) (G++[.lst []]))=.ok (.ref G.length) (G++[.lst []]):=Dp rfl
 have a:Bc (gV 7) Mg (Ay 0 turns) [zF (sc.map D.int),zI first,zI (turns:Int),zI (n:Int),zI top,zI scale,zR G.length,uZ,uZ] (G++[.lst []])=_:=f G
 rw[qC]at a;have m:tidy G (.ok (.ref G.length) (G++[.lst (rs.map tupI)]))=.ok (.ref G.length) (G++[.lst (rs.map tupI)]):=Dp Eh;have o:freeze G (.ok (.ref G.length) (G++[.lst (rs.map tupI)]))=.ok (.fl (rs.map tupI)) G:=Bk Eh;generalize rs.map tupI=Z at*;generalize sc.map D.int=SC at*
 have e:Lg [.fl SC,.int first,.int (turns:Int),.int (n:Int),.int top,.int scale] G=.ok (.ref G.length) (G++[.lst Z]):=by unfold Lg ZDM;rw[Aw];simp[Ah,g,h,a,m]
 rw[e,o]
noncomputable def prs:List (Int×Int):=[(3,2),(2,3),(3,3),(4,2),(5,1),(2,5),(1,7),(2,2),(3,2),(2,4),(1,4),(3,1),(5,2),(1,2),(2,7),(1,20)]
noncomputable def prD(p:Int×Int):D:=.tup [.int p.1,.int p.2]
theorem ZMV:∀p∈prs,(1<=p.1/\p.1<=5)/\(1<=p.2/\p.2<=20)/\(7<p.2->p.1=1)/\p.1*p.2<=20:=by decide
theorem ZP3{i:Int}(h:0<=i)(k:i<16):∃n t:Nat,(1<=n/\n<=5)/\(1<=t/\t<=20)/\(7<t->n=1)/\n*t<=20/\atI (prs.map prD) i=zT [.int (n:Int),.int (t:Int)]:=by
 have m:i<((prs.map prD).length:Int):=by
  have:(prs.map prD).length=16:=by rw[zj];decide
  rw[this];exact k
 have e:=Pq h m;rw[xq]at e;have o:=ZMV _ (qV (n:=i.toNat) (by
  have:prs.length=16:=by decide
  lia))
 generalize prs[i.toNat]'(by
  have:prs.length=16:=by decide
  lia)=p at*
 obtain⟨a,b⟩:=p;obtain⟨r,l,f,g⟩:=o;dsimp only at r l f g;have d:((a.toNat:Nat):Int)=a:=by lia
 have c:((b.toNat:Nat):Int)=b:=by lia
 refine⟨a.toNat,b.toNat,by lia,by lia,λz=>by have:=f (by lia);lia,by
  have:((a.toNat*b.toNat:Nat):Int)<=20:=by rw[qI,d,c];exact g
  lia,?_⟩
 rw[e];unfold prD;have q:((a.toNat:Nat):Int)=a:=by lia
 have j:((b.toNat:Nat):Int)=b:=by lia
 rw[q,j]
theorem bd0:∀x∈[(0:Int)],Bd x:=λx a=>by
 have:x=0:=by simpa using a
 rw[this];exact⟨by decide,by decide⟩
def Be(x:Int):Prop:=0<=x/\x<=10^33
theorem Bd.e(h:Bd x):Be x:=⟨h.1,Int.le_trans h.2 (by decide)⟩
structure GV (h:RH) (lv:List Int) (cm fl pays:List (List Int)) (left:List Int):Prop where
 n1:1<=h.ps.length
 n5:h.ps.length<=5
 t1:1<=fl.length
 t20:fl.length<=20
 nt:h.ps.length*fl.length<=20
 hg:HG h
 lv:lv.length=h.ps.length/\∀x∈lv,Bd x
 cm:cm.length=h.ps.length/\∀r∈cm,r.length=5/\∀x∈r,Bd x
 fr:∀f∈fl,f.length=h.ps.length/\∀x∈f,Be x
 pn:pays.length=fl.length
 pr:∀l∈pays,l.length=h.ps.length/\∀x∈l,0<=x/\x<=900
 lf:left.length=h.ps.length/\∀x∈left,0<=x/\x<=600
theorem ZCl{l:List Int}{a top:Int}(hd:a=1∨a=100)(h:∀v∈l,∃i,(0<=i/\i<top)/\v=i*a):∀x∈l,0<=x/\x<=100*(top-1):=λy b=>by
 obtain⟨i,c,rfl⟩:=h y b
 rcases hd with rfl|rfl<;>lia
theorem ZMq(sc:List Int)(G:DH):∃(h:RH)(lv:List Int)(cm fl pays:List (List Int))(left:List Int),GV h lv cm fl pays left/\(∀f∈fl,∀x∈f,Bd x)/\N6 [.fl (sc.map D.int)] G=.ok (.tup [h.enc,stE lv cm,.fl (fl.map tupI),.fl (pyD pays),.tup (left.map D.int)]) G:=by
 have Y:∀G,Dw [.fl (sc.map D.int),.int 0] G=.ok (.int (cellAt sc 0)) G:=λG=>Jb (by decide)
 obtain⟨i1,b1,t1⟩:=Dy (cellAt sc 0) (p:=10273) (m:=16) (by decide) (by decide);obtain⟨n,tr,hn,htr,h71,hnt,ap⟩:=ZP3 b1.1 b1.2;obtain⟨scale,hsm,hsc⟩:=Z9 (l:=[1,1,1000000007,10^30]) (i:=cellAt sc 0/15%4) (jF _ (by decide)) (jx _ (by decide));have s:0<=scale/\scale<=10^30:=by simp at hsm;lia
 obtain⟨o,P,had⟩:∃o:Int,(o=1∨o=100)/\∀G,Ae (.fl [.int 1,.int 1,.int 100]) (.int (cellAt sc 0/60%3)) G=.ok (.int o) G:=by
  rcases(by lia:cellAt sc 0/60%3=0∨cellAt sc 0/60%3=1∨cellAt sc 0/60%3=2)with h|h|h<;>rw[h]
  .exact⟨1,.inl rfl,λG=>by simp⟩
  .exact⟨1,.inl rfl,λG=>by simp⟩
  exact⟨100,.inr rfl,λG=>by simp⟩
 obtain⟨h,H,T,K⟩:=ZNB hn.1 (by lia) s.1 G;obtain⟨lv,cm,s1,s2,s3,s5,s4⟩:=ZKo T (by lia) s.1 s.2
 obtain⟨pays,p1,p2,p3⟩:=ZGg (first:=39) (top:=10) (scale:=o) (n:=n) (turns:=tr) (by decide) (by lia) (by lia) (by decide)
 obtain⟨fl,f1,f2,f3⟩:=ZGg (first:=24) (top:=6) (scale:=scale) (n:=n) (turns:=tr) (by decide) (by lia) (by lia) (by decide)
 obtain⟨lds,l1,l2,l3⟩:=Mu (te:=Qa) (S:=[uZ,zF (sc.map D.int),zI o]) (Q:=λd=>∃v,(∃i,(0<=i/\i<7)/\v=i*o)/\d=.int v) n 0 λk _ _=>by
  have hce:∀G,Dw [.fl (sc.map D.int),.int (54+(k:Int))] G=.ok (.int (cellAt sc (54+(k:Int)))) G:=λG=>Jb (by lia)
  obtain⟨i,b,t⟩:=Dy (cellAt sc (54+(k:Int))) (p:=10111) (m:=7) (by decide) (by decide);have m1:∀G,Ax (.int i) (.int o) G=.ok (.int (i*o)) G:=λG=>Dn (by lia) (by lia)
  refine⟨.int (i*o),⟨_,⟨i,b,rfl⟩,rfl⟩,λG=>?_⟩;generalize cellAt sc (54+(k:Int))=V at*;generalize sc.map D.int=SC at*;unfold Qa;simp[hce,t,m1]
 obtain⟨left,rfl,l4⟩:=ints_of l2;have hln:left.length=n:=by simpa using l1
 have l3':∀G,Bo (gV 0) Ar Qa [uZ,zF (sc.map D.int),zI o] (Ay 0 n) G=.ok (left.map D.int) G:=l3;have fb:∀f∈fl,∀x∈f,Bd x:=λf r x w=>by obtain⟨i,hi,rfl⟩:=(f2 f r).2 x w;exact Zc (k:=6) hi.1 (by lia) (by decide) s.1 s.2
 obtain⟨q,g1,g2,g3⟩:∃q:List (List Int),q.length=tr/\(∀f∈q,(7<tr->f.length=n)/\∀x∈f,Bd x)/\∀G,Bo (gV 0) Ar Ol [uZ,zI (cellAt sc 0),zF (fl.map tupI)] (Ay 0 tr) G=.ok (q.map tupI) G:=by
  obtain⟨J,d1,d2,d3⟩:=Mu (te:=Ol) (S:=[uZ,zI (cellAt sc 0),zF (fl.map tupI)]) (Q:=λd=>∃f:List Int,((7<tr->f.length=n)/\∀x∈f,Bd x)/\d=tupI f) tr 0 λk _ k2=>by
   obtain⟨f,r⟩:∃f,fl[k]?=uQ f:=⟨_,zJ (by lia)⟩;have af:atI (fl.map tupI) (k:Int)=uQ (tupI f):=Dg rfl (by rw[zv,r];rfl);by_cases hk:(k:Int)%7=cellAt sc 0%7
   .refine⟨tupI f,⟨f,⟨λ_=>(f2 f (q0 r)).1,fb f (q0 r)⟩,rfl⟩,λG=>?_⟩;generalize cellAt sc 0=V at*;generalize fl.map tupI=FL at*;unfold Ol;simp[hk,af]
   refine⟨tupI [0],⟨[0],⟨λz=>by rw[h71 z];rfl,bd0⟩,rfl⟩,λG=>?_⟩;have e0:tupI [0]=.tup [.int 0]:=rfl;rw[e0];generalize cellAt sc 0=V at*;generalize fl.map tupI=FL at*;unfold Ol;simp[hk]
  have fo:∀{J:List D},(∀d∈J,∃f:List Int,((7<tr->f.length=n)/\∀x∈f,Bd x)/\d=tupI f)->∃l:List (List Int),J=l.map tupI/\∀f∈l,(7<tr->f.length=n)/\∀x∈f,Bd x:=by
   intro J
   induction J with
   |nil=>exact λ_=>⟨[],rfl,by simp⟩
   |cons d J ih=>
    intro hd;obtain⟨f,r,rfl⟩:=hd d (by simp);obtain⟨l,rfl,I⟩:=ih λx w=>hd x (zV _ w)
    exact⟨f::l,rfl,jO.mpr ⟨r,I⟩⟩
  obtain⟨l,rfl,I⟩:=fo d2;exact⟨l,by simpa using d1,I,d3⟩
 have A:∀G,Ae (.fl [.int 1,.int 1,.int 1000000007,.int 1000000000000000000000000000000]) (.int (cellAt sc 0/15%4)) G=.ok (.int scale) G:=hsc;have U:∀G:DH,freeze G (.ok (.ref G.length) (G++[.lst [.int 1,.int 1,.int 1000000007,.int 1000000000000000000000000000000]]))=.ok (.fl [.int 1,.int 1,.int 1000000007,.int 1000000000000000000000000000000]) G:=λG=>Bk rfl
 have X:∀G:DH,freeze G (.ok (.ref G.length) (G++[.lst [.int 1,.int 1,.int 100]]))=.ok (.fl [.int 1,.int 1,.int 100]) G:=λG=>Bk rfl
 have u:∀G:DH,freeze G (.ok (.ref G.length) (G++[.lst ((prs.take 13).map prD)]))=.ok (.fl ((prs.take 13).map prD)) G:=λG=>Bk rfl
 have C:∀G:DH,freeze G (.ok (.ref G.length) (G++[.lst ((prs.drop 13).map prD)]))=.ok (.fl ((prs.drop 13).map prD)) G:=λG=>Bk rfl
 have B:∀G:DH,freeze G (.ok (.ref G.length) (G++[.lst (prs.map prD)]))=.ok (.fl (prs.map prD)) G:=λG=>Bk rfl
 have ad:∀G,Ai (.fl ((prs.take 13).map prD)) (.fl ((prs.drop 13).map prD)) G=.ok (.ref G.length) (G++[.lst (prs.map prD)]):=λG=>rfl
 have N:inR (n:Int):=Ge (by lia) (by lia);have hrt:inR (tr:Int):=Ge (by lia) (by lia);have fzl:∀G:DH,freeze G (.ok (.ref G.length) (G++[.lst (left.map D.int)]))=.ok (.fl (left.map D.int)) G:=λG=>Bk Hs
 have fzf:∀G:DH,freeze G (.ok (.ref G.length) (G++[.lst (q.map tupI)]))=.ok (.fl (q.map tupI)) G:=λG=>Bk Eh
 have ll:(left.map D.int).length<=1000000:=by rw[zj];lia
 have lf2:(q.map tupI).length<=1000000:=by rw[zj];lia
 have y:∀a b c d e f g h i j k:Option D,Bh 1 [0,7] [a,b,c,d,e,f,g,h,i,j,k]=[uZ,a,h]:=λ_ _ _ _ _ _ _ _ _ _ _=>rfl
 have W:∀a b c d e f g h i j k:Option D,Bh 1 [1,10] [a,b,c,d,e,f,g,h,i,j,k]=[uZ,b,k]:=λ_ _ _ _ _ _ _ _ _ _ _=>rfl
 have Z:pyD pays=pays.map tupI:=rfl;have M:bel G.length (stE lv cm)=uJ:=by
  have h2:bel G.length (tupI lv)=uJ:=by exact Hs
  unfold stE;simp[h2,Eh]
 have L:bel G.length h.enc=uJ:=Qj;have bl:bels G.length (left.map D.int)=uJ:=Hs;have bp:bels G.length (pays.map tupI)=uJ:=Eh;have bf:bels G.length (fl.map tupI)=uJ:=Eh;have bf2:bels G.length (q.map tupI)=uJ:=Eh;have e13:(prs.take 13).map prD=[.tup [.int 3,.int 2],.tup [.int 2,.int 3],.tup [.int 3,.int 3],.tup [.int 4,.int 2],.tup [.int 5,.int 1],.tup [.int 2,.int 5],.tup [.int 1,.int 7],.tup [.int 2,.int 2],.tup [.int 3,.int 2],.tup [.int 2,.int 4],.tup [.int 1,.int 4],.tup [.int 3,.int 1],.tup [.int 5,.int 2]]:=rfl
 have e3:(prs.drop 13).map prD=[.tup [.int 1,.int 2],.tup [.int 2,.int 7],.tup [.int 1,.int 20]]:=rfl;rw[e13]at u ad;rw[e3]at C ad;have gv:∀F:List (List Int),F.length=tr->(∀f∈F,f.length=n/\∀x∈f,Bd x)->GV h lv cm F pays left:=λF hF O=>⟨by lia,by lia,by lia,by lia,by rw[H,hF];exact hnt,T,⟨s1,s5⟩,⟨s2,s3⟩,λf r=>by rw[H];exact⟨(O f r).1,λx w=>((O f r).2 x w).e⟩,by lia,λl I=>⟨by rw[H];exact(p2 l I).1,λx w=>by have:=ZCl P (p2 l I).2 x w;lia⟩,by lia,λx w=>by have:=ZCl P l4 x w;lia⟩
 by_cases h7:7<tr
 .refine⟨h,lv,cm,q,pays,left,gv q g1 λf r=>⟨(g2 f r).1 h7,(g2 f r).2⟩,λf r=>(g2 f r).2,?_⟩;have E:(7:Int)<(tr:Int):=by lia
  rw[Z];generalize prs.map prD=PR at*;generalize q.map tupI=FL2 at*;generalize fl.map tupI=FL at*;generalize pays.map tupI=PY at*;generalize left.map D.int=LF at*;generalize stE lv cm=SE at*;generalize h.enc=he at*;generalize cellAt sc 0=V at*;generalize sc.map D.int=SC at*;unfold N6 Yt W5 Up ZAm U4 X8 Xb Z1 Xl Wr Wn Ug;rw[Aw];simp[-Ti,Ah,Y,u,C,ad,B,t1,ap,U,A,K,X,had,p3,N,y,l3',ll,fzl,f3,h7,E,hrt,W,g3,lf2,fzf,s4,L,M,bf2,bp,bl,Bw]
 refine⟨h,lv,cm,fl,pays,left,gv fl f1 λf r=>⟨(f2 f r).1,fb f r⟩,fb,?_⟩;have E:¬(7:Int)<(tr:Int):=by lia
 rw[Z];generalize prs.map prD=PR at*;generalize q.map tupI=FL2 at*;generalize fl.map tupI=FL at*;generalize pays.map tupI=PY at*;generalize left.map D.int=LF at*;generalize stE lv cm=SE at*;generalize h.enc=he at*;generalize cellAt sc 0=V at*;generalize sc.map D.int=SC at*;unfold N6 Yt W5 Up ZAm U4 X8 Xb Z1 Xl Wr Wn Ug;rw[Aw];simp[-Ti,Ah,Y,u,C,ad,B,t1,ap,U,A,K,X,had,p3,N,y,l3',ll,fzl,f3,h7,E,s4,L,M,bf,bp,bl,Bw]
noncomputable def nms(h:RH):List Str:=h.ps.map RP.nm
def dnN(h:RH)(p:RP):Option Nat:=if p.dn="sea" then uZ else uQ ((nms h).idxOf p.dn)
noncomputable def dN:Option Nat->D
 |none=>.non
 |some d=>.int (d:Int)
theorem ZGX{he:D}{G:DH}:∀(ps:List RP)(k:Nat)(x:Str)(s2 s3:Option D),x∈ps.map RP.nm->Bc (Bp 2 (Al (gV 2) (Al (gV 3) Bs))) K4 (((ps.map RP.enc).zipIdx k).map λ(x,i)=>.tup [.int (i:Int),x]) [uQ he,zS x,s2,s3] G=.rt (.int ((k+(ps.map RP.nm).idxOf x:Nat):Int)) G
 |[],_,x,_,_,h=>by simp at h
 | p::ps,k,x,s2,s3,h=>by
  rw[zK,qD,zK,Eg];by_cases e:p.nm=x
  .have a:K4 [uQ he,zS x,zI (k:Int),uQ p.enc] G=.rt (.int (k:Int)) G:=by unfold K4;simp[e]
   simp[a,e]
  have a:K4 [uQ he,zS x,zI (k:Int),uQ p.enc] G=.nx [uQ he,zS x,zI (k:Int),uQ p.enc] G:=by unfold K4;simp[e]
  have c:x∈ps.map RP.nm:=by
   rcases z0.mp h with z|z
   .exact absurd z.symm e
   exact z
  have b:k+List.idxOf x (p.nm::ps.map RP.nm)=k+1+List.idxOf x (ps.map RP.nm):=by rw[List.idxOf_cons,show(p.nm==x)=uX by simp[e]];simp;lia
  rw[zK,b];simp[a];simpa using(ZGX (he:=he) (G:=G) ps (k+1) x (zI (k:Int)) (uQ p.enc) c)
theorem ZFY{x:Str}(d:x∈nms h)(G:DH):Oc [h.enc,.str x] G=.ok (.int ((nms h).idxOf x:Nat)) G:=by
 have b:=ZGX (he:=h.enc) (G:=G) h.ps 0 x uZ uZ d;rw[jN]at b;have a:Bc (Bp 2 (Al (gV 2) (Al (gV 3) Bs))) K4 (El (h.ps.map RP.enc)) [uQ h.enc,zS x,uZ,uZ] G=.rt (.int ((nms h).idxOf x:Nat)) G:=b;have e:∀G,Ae h.enc (.int 1) G=.ok (.tup (h.ps.map RP.enc)) G:=λG=>G8
 generalize h.ps.map RP.enc=Y at*;generalize(nms h).idxOf x=f at*;generalize h.enc=c at*;unfold Oc ZFu;rw[Aw];simp[e,Eu,I7,lenOf,a,Bw]
theorem PG.mem(g:HG h){p:RP}(hp:h.ps[k]?=uQ p):p.dn="sea"∨p.dn∈nms h:=by
 obtain⟨j,_,e⟩:=(g.pg k p hp).dn;rcases qZ.mp (q0 e)with z|z
 .exact .inr z
 exact .inl (by simpa using z)
theorem ZK5(g:HG h){p:RP}(hp:h.ps[k]?=uQ p)(G:DH):Og [h.enc,.int (k:Int)] G=.ok (dN (dnN h p)) G:=by
 have c:∀G,Ae h.enc (.int 1) G=.ok (.tup (h.ps.map RP.enc)) G:=λG=>G8
 have a:=Ls hp;have b:∀G,Ae p.enc (.int 2) G=.ok (.str p.dn) G:=λG=>renc2
 unfold dnN dN;by_cases hs:p.dn="sea"
 .rw[if_pos hs];rw[hs]at b;generalize h.ps.map RP.enc=Y at*;generalize p.enc=f at*;generalize h.enc=e at*;unfold Og ZAK;rw[Aw];simp[c,a,b,Bw]
 rw[if_neg hs];have d:=λG=>ZFY ((PG.mem g hp).resolve_left hs) G
 generalize(nms h).idxOf p.dn=i at*;generalize h.ps.map RP.enc=Y at*;generalize p.enc=f at*;generalize h.enc=e at*;unfold Og ZAK;rw[Aw];simp[c,a,b,hs,d,Bw]
def Bq(n T w:Nat):Option Nat->Nat
 |none=>T*n
 |some d=>if T<=w then T*n else w*n+d
noncomputable abbrev Spot:=Nat×Nat×Nat
noncomputable def Cu(s:Spot):D:=.tup [.int (s.1:Int),.int (s.2.1:Int),.int (s.2.2:Int)]
theorem ZJY{s:Spot}:bel n (Cu s)=uJ:=rfl
def dfl(h:RH)(T g:Nat):List (Str×D):=[("house",h.enc),("turns",.int (T:Int)),("arcs",.ref (g+1)),("spots",.ref (g+2))]
def hD(G:DH)(h:RH)(T:Nat)(as:List Arc)(ss:List Spot):DH:=G++[.ins "Draft" (dfl h T G.length),.lst (as.map encA),.lst (ss.map Cu)]
section
variable{G:DH}{h:RH}{T:Nat}{as:List Arc}{ss:List Spot}
theorem hD0:(hD G h T as ss)[G.length]?=uQ (.ins "Draft" (dfl h T G.length)):=by unfold hD;rw[Eo];rfl
theorem hD1:(hD G h T as ss)[G.length+1]?=uQ (.lst (as.map encA)):=by unfold hD;rw[Gp];rfl
theorem hD2:(hD G h T as ss)[G.length+2]?=uQ (.lst (ss.map Cu)):=by unfold hD;rw[Gp];rfl
theorem hDs1{bs:List Arc}:(hD G h T as ss).set (G.length+1) (.lst (bs.map encA))=hD G h T bs ss:=by unfold hD;rw[Ip];rfl
theorem hDs2{ts:List Spot}:(hD G h T as ss).set (G.length+2) (.lst (ts.map Cu))=hD G h T as ts:=by unfold hD;rw[Ip];rfl
theorem hDl:(hD G h T as ss).length=G.length+3:=by simp[hD]
theorem fH:Cz "Draft" "house" (.ref G.length) (hD G h T as ss)=.ok h.enc (hD G h T as ss):=Dm hD0 rfl
theorem fT:Cz "Draft" "turns" (.ref G.length) (hD G h T as ss)=.ok (.int (T:Int)) (hD G h T as ss):=Dm hD0 rfl
theorem fA:Cz "Draft" "arcs" (.ref G.length) (hD G h T as ss)=.ok (.ref (G.length+1)) (hD G h T as ss):=Dm hD0 rfl
theorem fS:Cz "Draft" "spots" (.ref G.length) (hD G h T as ss)=.ok (.ref (G.length+2)) (hD G h T as ss):=Dm hD0 rfl
theorem mD{m:Str}{F:List D->DH->R D}{t:DA}(b:(dfl h T G.length).lookup m=uZ):Hw "Draft" m F t S (.ref G.length) (hD G h T as ss)=(t S (hD G h T as ss)).bind λds a=>F (.ref G.length::ds) a:=T7 hD0 b
theorem Mh(m:h.ps.length<=100)(o:T<=100)(hw:w<=1000)(d:Option Nat):Dr [.ref G.length,.int (w:Int),dN d] (hD G h T as ss)=.ok (.int (Bq h.ps.length T w d:Nat)) (hD G h T as ss):=by
 have c:∀G,Ae h.enc (.int 1) G=.ok (.tup (h.ps.map RP.enc)) G:=λG=>G8
 have e:∀G,Bb [.tup (h.ps.map RP.enc)] G=.ok (.int (h.ps.length:Int)) G:=λG=>by simp
 have j:∀G,Ax (.int (T:Int)) (.int (h.ps.length:Int)) G=.ok (.int ((T:Int)*(h.ps.length:Int))) G:=λG=>Dn (by lia) (by lia)
 have l:∀G,Ax (.int (w:Int)) (.int (h.ps.length:Int)) G=.ok (.int ((w:Int)*(h.ps.length:Int))) G:=λG=>Dn (by lia) (by lia)
 have f:=fH (G:=G) (h:=h) (T:=T) (as:=as) (ss:=ss);have g:=fT (G:=G) (h:=h) (T:=T) (as:=as) (ss:=ss);have i:(((T*h.ps.length:Nat)):Int)=(T:Int)*(h.ps.length:Int):=qI ..;have k:∀d:Nat,(((w*h.ps.length+d:Nat)):Int)=(w:Int)*(h.ps.length:Int)+(d:Int):=λd=>by rw[jk,qI]
 generalize hD G h T as ss=H at*;generalize h.ps.map RP.enc=Y at*;generalize h.enc=n at*;unfold Bq;cases d with
 |none=>
  rw[i];unfold Dr Od dN;rw[Aw];simp[f,g,c,e,j,Du,Bw]
 | some d=>
  dsimp only;by_cases a:T<=w
  .have b:(T:Int)<=(w:Int):=by lia
   rw[if_pos a,i];unfold Dr Od dN;rw[Aw];simp[f,g,c,e,j,Du,a,b,Bw]
  rw[if_neg a,k];unfold Dr Od dN;rw[Aw];simp[f,g,c,e,l,Du,a,by omega,Bw]
theorem Q0(y:h.ps.length<=100)(s:T<=100)(hw:w<T)(e:Nat)(mo:Option Int)(ga:Int)(L:as.length<1000)(hs:ss.length<1000):
  Hn [.ref G.length,Cu (w,k,q),.int (e:Int),moD mo,.int ga] (hD G h T as ss)=.ok .non (hD G h T (as++[⟨w*h.ps.length+k,e,mo,ga⟩]) (ss++[(w,k,q)])):=by
 have hk:=Mh (G:=G) (as:=as) (ss:=ss) y s (w:=w) (by lia) (uQ k);have j:Bq h.ps.length T w (uQ k)=w*h.ps.length+k:=by unfold Bq;exact if_neg (by lia)
 rw[j]at hk;unfold dN at hk;dsimp only at hk;have v:=λt S=>mD (G:=G) (h:=h) (T:=T) (as:=as) (ss:=ss) (m:="node_at") (F:=Dr) (t:=t) (S:=S) rfl
 have u:=fA (G:=G) (h:=h) (T:=T) (as:=as) (ss:=ss);have c:(as.map encA).length<1000000:=by rw[zj];lia
 have d:(ss.map Cu).length<1000000:=by rw[zj];lia
 have l:=hD1 (G:=G) (h:=h) (T:=T) (as:=as) (ss:=ss);have f:(hD G h T as ss).set (G.length+1) (.lst (as.map encA++[encA ⟨w*h.ps.length+k,e,mo,ga⟩]))=hD G h T (as++[⟨w*h.ps.length+k,e,mo,ga⟩]) ss:=by have:=hDs1 (G:=G) (h:=h) (T:=T) (as:=as) (ss:=ss) (bs:=as++[⟨w*h.ps.length+k,e,mo,ga⟩]);rwa[zO,zK,qK]at this
 have o:=fS (G:=G) (h:=h) (T:=T) (as:=as++[⟨w*h.ps.length+k,e,mo,ga⟩]) (ss:=ss);have x:=hD2 (G:=G) (h:=h) (T:=T) (as:=as++[⟨w*h.ps.length+k,e,mo,ga⟩]) (ss:=ss);have i:(hD G h T (as++[⟨w*h.ps.length+k,e,mo,ga⟩]) ss).set (G.length+2) (.lst (ss.map Cu++[Cu (w,k,q)]))=hD G h T (as++[⟨w*h.ps.length+k,e,mo,ga⟩]) (ss++[(w,k,q)]):=by have:=hDs2 (G:=G) (h:=h) (T:=T) (as:=as++[⟨w*h.ps.length+k,e,mo,ga⟩]) (ss:=ss) (ts:=ss++[(w,k,q)]);rwa[zO,zK,qK]at this
 have r:tidy (hD G h T as ss) (.ok .non (hD G h T (as++[⟨w*h.ps.length+k,e,mo,ga⟩]) (ss++[(w,k,q)])))=.ok .non (hD G h T (as++[⟨w*h.ps.length+k,e,mo,ga⟩]) (ss++[(w,k,q)])):=J0 (by rw[hDl,hDl]) rfl;have n:∀(A:Arc)(H:DH),tidy H (.ok (encA A) H)=.ok (encA A) H:=λA H=>Bw ZLk
 have z:∀(A:Spot)(H:DH),tidy H (.ok (Cu A) H)=.ok (Cu A) H:=λA H=>Bw ZJY
 have p:encA ⟨w*h.ps.length+k,e,mo,ga⟩=.tup [.int ((w*h.ps.length+k:Nat):Int),.int (e:Int),moD mo,.int ga]:=rfl;have g:Cu (w,k,q)=.tup [.int (w:Int),.int (k:Int),.int (q:Int)]:=rfl;have b:=n ⟨w*h.ps.length+k,e,mo,ga⟩;have a:=z (w,k,q);rw[p]at f b;rw[g]at i a;rw[g];generalize hD G h T (as++[⟨w*h.ps.length+k,e,mo,ga⟩]) (ss++[(w,k,q)])=M at*;generalize hD G h T (as++[⟨w*h.ps.length+k,e,mo,ga⟩]) ss=B at*
 generalize hD G h T as ss=J at*;generalize as.map encA=I at*;generalize ss.map Cu=C at*;generalize((w*h.ps.length+k:Nat):Int)=E at*;generalize moD mo=K at*;unfold Hn ZBI;rw[Aw];simp[v,hk,u,l,f,c,b,o,x,i,d,a,r]
end
def rvA(h:RH)(T w k:Nat)(p:RP)(mo:Option Int)(ga:Int):Arc:=⟨w*h.ps.length+k,Bq h.ps.length T (w+p.dl.toNat) (dnN h p),mo,ga⟩
def pmA(h:RH)(T w k:Nat)(pay:Int):Option (Str×Int×Int)->List Arc
 |none=>[]
 |some (t,d,m)=>[⟨w*h.ps.length+k,Bq h.ps.length T (w+d.toNat) (uQ ((nms h).idxOf t)),uQ m,-pay⟩]
def plA(h:RH)(T w k:Nat)(pay left:Int)(p:RP):List Arc:=match p.kd with
 |.town a _=>[⟨w*h.ps.length+k,Bq h.ps.length T w uZ,uQ a,pay⟩,rvA h T w k p uZ 0]
 |.mill a=>[rvA h T w k p (uQ a) pay,rvA h T w k p uZ 0]
 |.basin b _ q=>rvA h T w k p uZ 0::pmA h T w k pay q++[⟨w*h.ps.length+k,Bq h.ps.length T (w+1) (uQ k),uQ b,if w+1=T then left else 0⟩]
def pmS(w k:Nat):Option (Str×Int×Int)->List Spot
 |none=>[]
 |some _=>[(w,k,4)]
def plS(w k:Nat)(p:RP):List Spot:=match p.kd with
 |.town _ _=>[(w,k,1),(w,k,3)]
 |.mill _=>[(w,k,3),(w,k,3)]
 |.basin _ _ q=>(w,k,3)::pmS w k q++[(w,k,5)]
section
variable{G:DH}{h:RH}{T:Nat}{as:List Arc}{ss:List Spot}{w k:Nat}{p:RP}
theorem Qh(g:HG h)(r:h.ps.length<=100)(n:T<=100)(hw:w<T)(hp:h.ps[k]?=uQ p)(mo:Option Int)(ga:Int)(z:as.length<1000)(hs:ss.length<1000):
  Hk [.ref G.length,.int (w:Int),.int (k:Int),moD mo,.int ga] (hD G h T as ss)=.ok .non (hD G h T (as++[rvA h T w k p mo ga]) (ss++[(w,k,3)])):=by
 have J:=(g.pg k p hp).dl;obtain⟨b,j⟩:∃b:Nat,p.dl=b:=⟨p.dl.toNat,by lia⟩;have l:p.dl.toNat=b:=by lia
 have x:∀G,Ae h.enc (.int 1) G=.ok (.tup (h.ps.map RP.enc)) G:=λG=>G8
 have a:=Ls hp;have C:∀G,Ae p.enc (.int 3) G=.ok (.int (b:Int)) G:=λG=>by rw[renc3,j]
 have f:=ZK5 g hp (hD G h T as ss);have d:Dr [.ref G.length,.int ((w:Int)+(b:Int)),dN (dnN h p)] (hD G h T as ss)=.ok (.int (Bq h.ps.length T (w+b) (dnN h p):Nat)) (hD G h T as ss):=by rw[<-jk];exact Mh (G:=G) (as:=as) (ss:=ss) r n (w:=w+b) (by lia) (dnN h p)
 have i:=Q0 (G:=G) r n (k:=k) (q:=3) hw (Bq h.ps.length T (w+b) (dnN h p)) mo ga z hs;have c:=λ(m:Str)(y:(dfl h T G.length).lookup m=uZ)F t S=>mD (as:=as) (ss:=ss) (F:=F) (t:=t) (S:=S) y
 have A:=c "node_at" rfl Dr;have B:=c "draw" rfl Hn;have u:=fH (G:=G) (h:=h) (T:=T) (as:=as) (ss:=ss);have o:(⟨w*h.ps.length+k,Bq h.ps.length T (w+b) (dnN h p),mo,ga⟩:Arc)=rvA h T w k p mo ga:=by unfold rvA;rw[l]
 rw[o]at i;have s:tidy (hD G h T as ss) (.ok .non (hD G h T (as++[rvA h T w k p mo ga]) (ss++[(w,k,3)])))=.ok .non (hD G h T (as++[rvA h T w k p mo ga]) (ss++[(w,k,3)])):=J0 (by rw[hDl,hDl]) rfl;have v:Cu (w,k,3)=.tup [.int (w:Int),.int (k:Int),.int 3]:=rfl;rw[v]at i;clear c o;generalize hD G h T (as++[rvA h T w k p mo ga]) (ss++[(w,k,3)])=I at*;generalize hD G h T as ss=L at*;generalize Bq h.ps.length T (w+b) (dnN h p)=e at*
 generalize dN (dnN h p)=E at*;generalize moD mo=M at*;generalize p.enc=H at*;generalize h.ps.map RP.enc=Y at*;generalize h.enc=K at*;unfold Hk ZF7;rw[Aw];simp[u,x,a,C,f,A,d,B,i,s]
theorem ZLO(g:HG h)(j:h.ps.length<=100)(f:T<=100)(hw:w<T)(hp:h.ps[k]?=uQ p){b:Int}(c:p.kd=.town b y)(pay:Int)(K:as.length<900)(hs:ss.length<900):
  Ml [.ref G.length,.int (w:Int),.int (k:Int),.int pay] (hD G h T as ss)=.ok .non (hD G h T (as++plA h T w k pay 0 p) (ss++plS w k p)):=by
 have z:∀G,Ae h.enc (.int 1) G=.ok (.tup (h.ps.map RP.enc)) G:=λG=>G8
 have a:=Ls hp;have o:∀G,Ae p.enc (.int 4) G=.ok (.int b) G:=λG=>by unfold RP.enc RP.row RK.rest;rw[c];simp
 have hk:=Mh (G:=G) (as:=as) (ss:=ss) j f (w:=w) (by lia) uZ;have i:=Q0 (G:=G) (as:=as) (ss:=ss) j f (k:=k) (q:=1) hw (Bq h.ps.length T w uZ) (uQ b) pay (by lia) (by lia);have n:=Qh (G:=G) (as:=as++[⟨w*h.ps.length+k,Bq h.ps.length T w uZ,uQ b,pay⟩]) (ss:=ss++[(w,k,1)]) g j f hw hp uZ 0 (by simp;lia) (by simp;lia);have A:=λt S=>mD (G:=G) (h:=h) (T:=T) (as:=as) (ss:=ss) (m:="node_at") (F:=Dr) (t:=t) (S:=S) rfl
 have C:=λt S=>mD (G:=G) (h:=h) (T:=T) (as:=as) (ss:=ss) (m:="draw") (F:=Hn) (t:=t) (S:=S) rfl
 have B:=λt S=>mD (G:=G) (h:=h) (T:=T) (as:=as++[⟨w*h.ps.length+k,Bq h.ps.length T w uZ,uQ b,pay⟩]) (ss:=ss++[(w,k,1)]) (m:="draw_river") (F:=Hk) (t:=t) (S:=S) rfl
 have u:=fH (G:=G) (h:=h) (T:=T) (as:=as) (ss:=ss);have l:as++plA h T w k pay 0 p=as++[⟨w*h.ps.length+k,Bq h.ps.length T w uZ,uQ b,pay⟩]++[rvA h T w k p uZ 0]:=by unfold plA;rw[c];simp
 have d:ss++plS w k p=ss++[(w,k,1)]++[(w,k,3)]:=by unfold plS;rw[c];simp
 rw[l,d];have r:tidy (hD G h T as ss) (.ok .non (hD G h T (as++[⟨w*h.ps.length+k,Bq h.ps.length T w uZ,uQ b,pay⟩]++[rvA h T w k p uZ 0]) (ss++[(w,k,1)]++[(w,k,3)])))=.ok .non (hD G h T (as++[⟨w*h.ps.length+k,Bq h.ps.length T w uZ,uQ b,pay⟩]++[rvA h T w k p uZ 0]) (ss++[(w,k,1)]++[(w,k,3)])):=J0 (by rw[hDl,hDl]) rfl;have v:Cu (w,k,1)=.tup [.int (w:Int),.int (k:Int),.int 1]:=rfl
 rw[v]at i;unfold dN at hk;dsimp only at hk;have x:moD (uQ b)=.int b:=rfl;have s:moD uZ=.non:=rfl;rw[x]at i;rw[s]at n;clear l d;generalize hD G h T (as++[⟨w*h.ps.length+k,Bq h.ps.length T w uZ,uQ b,pay⟩]++[rvA h T w k p uZ 0]) (ss++[(w,k,1)]++[(w,k,3)])=L at*;generalize hD G h T (as++[⟨w*h.ps.length+k,Bq h.ps.length T w uZ,uQ b,pay⟩]) (ss++[(w,k,1)])=H at*;generalize hD G h T as ss=J at*
 generalize Bq h.ps.length T w uZ=e at*;generalize p.enc=E at*;generalize h.ps.map RP.enc=Y at*;generalize h.enc=I at*;unfold Ml ZFp;rw[Aw];simp[u,z,a,o,A,hk,C,i,B,n,r]
theorem ZJz(g:HG h)(j:h.ps.length<=100)(e:T<=100)(hw:w<T)(hp:h.ps[k]?=uQ p){mo:Int}(b:p.kd=.mill mo)(pay:Int)(B:as.length<900)(hs:ss.length<900):
  N7 [.ref G.length,.int (w:Int),.int (k:Int),.int pay] (hD G h T as ss)=.ok .non (hD G h T (as++plA h T w k pay 0 p) (ss++plS w k p)):=by
 have s:∀G,Ae h.enc (.int 1) G=.ok (.tup (h.ps.map RP.enc)) G:=λG=>G8
 have a:=Ls hp;have l:∀G,Ae p.enc (.int 4) G=.ok (.int mo) G:=λG=>by unfold RP.enc RP.row RK.rest;rw[b];simp
 have f:=Qh (G:=G) (as:=as) (ss:=ss) g j e hw hp (uQ mo) pay (by lia) (by lia);have i:=Qh (G:=G) (as:=as++[rvA h T w k p (uQ mo) pay]) (ss:=ss++[(w,k,3)]) g j e hw hp uZ 0 (by simp;lia) (by simp;lia);have v:=λt S=>mD (G:=G) (h:=h) (T:=T) (as:=as) (ss:=ss) (m:="draw_river") (F:=Hk) (t:=t) (S:=S) rfl
 have u:=λt S=>mD (G:=G) (h:=h) (T:=T) (as:=as++[rvA h T w k p (uQ mo) pay]) (ss:=ss++[(w,k,3)]) (m:="draw_river") (F:=Hk) (t:=t) (S:=S) rfl
 have q:=fH (G:=G) (h:=h) (T:=T) (as:=as) (ss:=ss);have d:as++plA h T w k pay 0 p=as++[rvA h T w k p (uQ mo) pay]++[rvA h T w k p uZ 0]:=by unfold plA;rw[b];simp
 have c:ss++plS w k p=ss++[(w,k,3)]++[(w,k,3)]:=by unfold plS;rw[b];simp
 rw[d,c];have n:tidy (hD G h T as ss) (.ok .non (hD G h T (as++[rvA h T w k p (uQ mo) pay]++[rvA h T w k p uZ 0]) (ss++[(w,k,3)]++[(w,k,3)])))=.ok .non (hD G h T (as++[rvA h T w k p (uQ mo) pay]++[rvA h T w k p uZ 0]) (ss++[(w,k,3)]++[(w,k,3)])):=J0 (by rw[hDl,hDl]) rfl;have r:moD (uQ mo)=.int mo:=rfl;have o:moD uZ=.non:=rfl;rw[r]at f;rw[o]at i;clear d c;generalize hD G h T (as++[rvA h T w k p (uQ mo) pay]++[rvA h T w k p uZ 0]) (ss++[(w,k,3)]++[(w,k,3)])=C at*
 generalize hD G h T (as++[rvA h T w k p (uQ mo) pay]) (ss++[(w,k,3)])=y at*;generalize hD G h T as ss=A at*;generalize p.enc=x at*;generalize h.ps.map RP.enc=Y at*;generalize h.enc=z at*;unfold N7 ZDL;rw[Aw];simp[q,s,a,l,v,f,u,i,n]
end
section
variable{G:DH}{h:RH}{T:Nat}{as:List Arc}{ss:List Spot}{w k:Nat}{p:RP}
def lyA(h:RH)(T w k:Nat)(b left:Int):Arc:=⟨w*h.ps.length+k,Bq h.ps.length T (w+1) (uQ k),uQ b,if w+1=T then left else 0⟩
theorem ZOM(g:HG h)(N:h.ps.length<=100)(H:T<=100)(hw:w<T)(hp:h.ps[k]?=uQ p){b:Int}{r:List Ssn}{q:Option (Str×Int×Int)}(c:p.kd=.basin b r q)(pay left:Int)(ha:as.length<900)(hs:ss.length<900):
  Lx [.ref G.length,.int (w:Int),.int (k:Int),.int pay,.int left] (hD G h T as ss)=.ok .non (hD G h T (as++plA h T w k pay left p) (ss++plS w k p)):=by
 have Z:∀G,Ae h.enc (.int 1) G=.ok (.tup (h.ps.map RP.enc)) G:=λG=>G8
 have a:=Ls hp;have Q:∀G,Ae p.enc (.int 4) G=.ok (.int b) G:=λG=>by unfold RP.enc RP.row RK.rest;rw[c];simp
 have y:∀G,Ae p.enc (.int 6) G=.ok (pmD q) G:=λG=>by unfold RP.enc RP.row RK.rest;rw[c];simp
 have en:moD uZ=.non:=rfl;have em:∀m:Int,moD (uQ m)=.int m:=λ_=>rfl
 have I:=Qh (G:=G) (as:=as) (ss:=ss) g N H hw hp uZ 0 (by lia) (by lia);rw[en]at I;have x:=λas ss=>fH (G:=G) (h:=h) (T:=T) (as:=as) (ss:=ss)
 have W:=λas ss=>fT (G:=G) (h:=h) (T:=T) (as:=as) (ss:=ss)
 have U:=λas ss t S=>mD (G:=G) (h:=h) (T:=T) (as:=as) (ss:=ss) (m:="draw_river") (F:=Hk) (t:=t) (S:=S) rfl
 have A:=λas ss t S=>mD (G:=G) (h:=h) (T:=T) (as:=as) (ss:=ss) (m:="node_at") (F:=Dr) (t:=t) (S:=S) rfl
 have L:=λas ss t S=>mD (G:=G) (h:=h) (T:=T) (as:=as) (ss:=ss) (m:="draw") (F:=Hn) (t:=t) (S:=S) rfl
 have v:((w:Int)=(T:Int)-1)=(w+1=T):=by simp;lia
 have f:∀(bs:List Arc)(i:List Spot),bs.length<1000->i.length<1000->Dr [.ref G.length,.int ((w:Int)+1),.int (k:Int)] (hD G h T bs i)=.ok (.int (Bq h.ps.length T (w+1) (uQ k):Nat)) (hD G h T bs i)/\
   Hn [.ref G.length,.tup [.int (w:Int),.int (k:Int),.int 5],.int (Bq h.ps.length T (w+1) (uQ k):Nat),.int b,.int (if w+1=T then left else 0)] (hD G h T bs i)=.ok .non (hD G h T (bs++[lyA h T w k b left]) (i++[(w,k,5)])):=λbs i hb ht=>by
  exact⟨by rw[<-show((w+1:Nat):Int)=(w:Int)+1 by lia];exact(Mh (G:=G) (as:=bs) (ss:=i) N H (w:=w+1) (by lia) (uQ k)),Q0 (G:=G) (as:=bs) (ss:=i) N H (w:=w) (k:=k) (q:=5) hw (Bq h.ps.length T (w+1) (uQ k)) (uQ b) (if w+1=T then left else 0) hb ht⟩
 have l:∀(bs:List Arc)(i:List Spot),tidy (hD G h T as ss) (.ok .non (hD G h T bs i))=.ok .non (hD G h T bs i):=λbs i=>J0 (by rw[hDl,hDl]) rfl
 cases q with
 |none=>
  have s:=f (as++[rvA h T w k p uZ 0]) (ss++[(w,k,3)]) (by simp;lia) (by simp;lia);have C:as++plA h T w k pay left p=as++[rvA h T w k p uZ 0]++[lyA h T w k b left]:=by unfold plA lyA;rw[c];simp[pmA]
  have j:ss++plS w k p=ss++[(w,k,3)]++[(w,k,5)]:=by unfold plS;rw[c];simp[pmS]
  rw[C,j];have X:pmD uZ=.non:=rfl;rw[X]at y;have K:=x as ss;have e2:=x (as++[rvA h T w k p uZ 0]) (ss++[(w,k,3)]);have P:=W (as++[rvA h T w k p uZ 0]) (ss++[(w,k,3)]);have B:=U as ss;have J:=A (as++[rvA h T w k p uZ 0]) (ss++[(w,k,3)]);have z:=L (as++[rvA h T w k p uZ 0]) (ss++[(w,k,3)]);have E:=l (as++[rvA h T w k p uZ 0]++[lyA h T w k b left]) (ss++[(w,k,3)]++[(w,k,5)])
  obtain⟨s,o⟩:=s;clear C j f l x W U A L;generalize hD G h T (as++[rvA h T w k p uZ 0]++[lyA h T w k b left]) (ss++[(w,k,3)]++[(w,k,5)])=H3 at*;generalize hD G h T (as++[rvA h T w k p uZ 0]) (ss++[(w,k,3)])=H2 at*;generalize hD G h T as ss=H1 at*;generalize Bq h.ps.length T (w+1) (uQ k)=e at*;generalize p.enc=pe at*;generalize h.ps.map RP.enc=Y at*;generalize h.enc=he at*;unfold Lx W4
  rw[Aw];by_cases n:w+1=T
  .simp only[n,if_true]at o v;simp[K,Z,a,B,I,y,Du,P,J,s,Q,z,o,E,v,n]
  simp[n,if_false]at o v;simp[K,Z,a,B,I,y,Du,P,J,s,Q,z,o,E,v,n]
 |some tm=>
  obtain⟨t,d,m⟩:=tm;have kg:=(g.pg k p hp).kd;rw[c]at kg;obtain⟨tm,tb,tp⟩:=kg.2 t d m rfl;obtain⟨dn,edn⟩:∃dn:Nat,d=dn:=⟨d.toNat,by lia⟩;have etn:d.toNat=dn:=by lia
  have u:=λG=>ZFY tm G
  have hk:=Mh (G:=G) (as:=as++[rvA h T w k p uZ 0]) (ss:=ss++[(w,k,3)]) N H (w:=w+dn) (by lia) (uQ ((nms h).idxOf t));have M:Dr [.ref G.length,.int ((w:Int)+(dn:Int)),.int ((nms h).idxOf t:Nat)] (hD G h T (as++[rvA h T w k p uZ 0]) (ss++[(w,k,3)]))=.ok (.int (Bq h.ps.length T (w+dn) (uQ ((nms h).idxOf t)):Nat)) (hD G h T (as++[rvA h T w k p uZ 0]) (ss++[(w,k,3)])):=by rw[<-jk];exact hk
  have O:=Q0 (G:=G) (as:=as++[rvA h T w k p uZ 0]) (ss:=ss++[(w,k,3)]) N H (k:=k) (q:=4) hw (Bq h.ps.length T (w+dn) (uQ ((nms h).idxOf t))) (uQ m) (-pay) (by simp;lia) (by simp;lia);rw[em]at O;have eS:Cu (w,k,4)=.tup [.int (w:Int),.int (k:Int),.int 4]:=rfl;rw[eS]at O;have eP:pmA h T w k pay (uQ (t,d,m))=[⟨w*h.ps.length+k,Bq h.ps.length T (w+dn) (uQ ((nms h).idxOf t)),uQ m,-pay⟩]:=by unfold pmA;dsimp only;rw[etn]
  have s:=f (as++[rvA h T w k p uZ 0]++pmA h T w k pay (uQ (t,d,m))) (ss++[(w,k,3)]++[(w,k,4)]) (by simp[eP];lia) (by simp;lia);rw[<-eP]at O;have C:as++plA h T w k pay left p=as++[rvA h T w k p uZ 0]++pmA h T w k pay (uQ (t,d,m))++[lyA h T w k b left]:=by unfold plA lyA;rw[c];simp
  have j:ss++plS w k p=ss++[(w,k,3)]++[(w,k,4)]++[(w,k,5)]:=by unfold plS;rw[c];simp[pmS]
  rw[C,j];have X:pmD (uQ (t,d,m))=.tup [.str t,.int (dn:Int),.int m]:=by rw[edn];rfl
  rw[X]at y;have K:=x as ss;have e2:=x (as++[rvA h T w k p uZ 0]) (ss++[(w,k,3)]);have P:=W (as++[rvA h T w k p uZ 0]++pmA h T w k pay (uQ (t,d,m))) (ss++[(w,k,3)]++[(w,k,4)]);have B:=U as ss;have J:=A (as++[rvA h T w k p uZ 0]) (ss++[(w,k,3)]);have z:=L (as++[rvA h T w k p uZ 0]) (ss++[(w,k,3)]);have y2:=A (as++[rvA h T w k p uZ 0]++pmA h T w k pay (uQ (t,d,m))) (ss++[(w,k,3)]++[(w,k,4)])
  have y3:=L (as++[rvA h T w k p uZ 0]++pmA h T w k pay (uQ (t,d,m))) (ss++[(w,k,3)]++[(w,k,4)]);have E:=l (as++[rvA h T w k p uZ 0]++pmA h T w k pay (uQ (t,d,m))++[lyA h T w k b left]) (ss++[(w,k,3)]++[(w,k,4)]++[(w,k,5)]);obtain⟨s,o⟩:=s;clear C j f l x W U A L hk eP X;generalize hD G h T (as++[rvA h T w k p uZ 0]++pmA h T w k pay (uQ (t,d,m))++[lyA h T w k b left]) (ss++[(w,k,3)]++[(w,k,4)]++[(w,k,5)])=H4 at*
  generalize hD G h T (as++[rvA h T w k p uZ 0]++pmA h T w k pay (uQ (t,d,m))) (ss++[(w,k,3)]++[(w,k,4)])=H3 at*;generalize hD G h T (as++[rvA h T w k p uZ 0]) (ss++[(w,k,3)])=H2 at*;generalize hD G h T as ss=H1 at*;generalize Bq h.ps.length T (w+1) (uQ k)=e at*;generalize Bq h.ps.length T (w+dn) (uQ ((nms h).idxOf t))=e' at*;generalize(nms h).idxOf t=ix at*;generalize p.enc=pe at*
  generalize h.ps.map RP.enc=Y at*;generalize h.enc=he at*;unfold Lx W4;rw[Aw];by_cases n:w+1=T
  .simp only[n,if_true]at o v;simp[K,Z,a,B,I,y,Du,e2,u,J,M,z,O,P,y2,s,Q,y3,o,E,v,n]
  simp[n,if_false]at o v;simp[K,Z,a,B,I,y,Du,e2,u,J,M,z,O,P,y2,s,Q,y3,o,E,v,n]
end
def trA(h:RH)(T w:Nat)(pay left:List Int):Nat->List RP->List Arc
 |_,[]=>[]
 |k,p::ps=>plA h T w k (Ab pay k) (Ab left k) p++trA h T w pay left (k+1) ps
def trS(w:Nat):Nat->List RP->List Spot
 |_,[]=>[]
 |k,p::ps=>plS w k p++trS w (k+1) ps
def neA(h:RH)(T:Nat)(left:List Int):Nat->List (List Int)->List Arc
 |_,[]=>[]
 |w,y::ys=>trA h T w y left 0 h.ps++neA h T left (w+1) ys
def neS(h:RH):Nat->Nat->List Spot
 |_,0=>[]
 |w,m+1=>trS w 0 h.ps++neS h (w+1) m
theorem Ye{left:Int}{p:RP}:(plA h T w k pay left p).length<=3/\(plA h T w k pay left p).length=(plS w k p).length:=by
 unfold plA plS;cases p.kd with
 |basin b r q=>cases q<;>simp[pmA,pmS]
 |_=>simp
theorem Tf{h:RH}{T w:Nat}{pay left:List Int}:∀(ps:List RP)(k:Nat),(trA h T w pay left k ps).length<=3*ps.length/\(trA h T w pay left k ps).length=(trS w k ps).length
 |[],_=>by simp[trA,trS]
 |p::ps,k=>by have a:=Ye (h:=h) (T:=T) (w:=w) (k:=k) (pay:=Ab pay k) (left:=Ab left k) (p:=p);have b:=Tf (h:=h) (T:=T) (w:=w) (pay:=pay) (left:=left) ps (k+1);simp[trA,trS,zH,zN];lia
theorem V1{h:RH}{T:Nat}{left:List Int}:∀(ys:List (List Int))(w:Nat),(neA h T left w ys).length<=3*h.ps.length*ys.length/\(neA h T left w ys).length=(neS h w ys.length).length
 |[],_=>by simp[neA,neS]
 |y::ys,w=>by have a:=Tf (h:=h) (T:=T) (w:=w) (pay:=y) (left:=left) h.ps 0;have b:=V1 (h:=h) (T:=T) (left:=left) ys (w+1);simp[neA,neS,zH,zN];rw[Nat.mul_add];lia
theorem Kv(h:k<xs.length):Ae (.tup (xs.map D.int)) (.int (k:Int)) G=.ok (.int (Ab xs k)) G:=by simp[Lw h]
section
variable{G:DH}{h:RH}{T:Nat}
theorem ZGH(g:HG h)(j:h.ps.length<=100)(f:T<=100){w:Nat}(hw:w<T){pay left:List Int}(hp:pay.length=h.ps.length)(J:left.length=h.ps.length):∀(ps:List RP)(k:Nat)(as:List Arc)(ss:List Spot)(s6 s7:Option D),h.ps.drop k=ps->as.length+3*ps.length<900->ss.length+3*ps.length<900->∃u s,
  Bc (Bp 2 (Al (gV 6) (Al (gV 7) Bs))) Ko (((ps.map RP.enc).zipIdx k).map λ(x,i)=>.tup [.int (i:Int),x]) [zR G.length,uQ h.enc,s2,zT (left.map D.int),zI (w:Int),zT (pay.map D.int),s6,s7] (hD G h T as ss)=
   .nx [zR G.length,uQ h.enc,s2,zT (left.map D.int),zI (w:Int),zT (pay.map D.int),u,s] (hD G h T (as++trA h T w pay left k ps) (ss++trS w k ps))
 |[],k,as,ss,s6,s7,_,_,_=>⟨s6,s7,by simp[trA,trS,Gq]⟩
 | p::ps,k,as,ss,s6,s7,C,M,I=>by
  have hk:h.ps[k]?=uQ p:=by have:=congrArg (λl=>l[0]?) C;simpa using this
  have N:=(zY.mp hk).1;have o:h.ps.drop (k+1)=ps:=by have:=congrArg (List.drop 1) C;simpa[List.drop_drop,xk]using this
  have W:=Ye (h:=h) (T:=T) (w:=w) (k:=k) (pay:=Ab pay k) (left:=Ab left k) (p:=p);simp[zN]at M I;obtain⟨u,s,O⟩:=ZGH g j f hw hp J ps (k+1) (as++plA h T w k (Ab pay k) (Ab left k) p) (ss++plS w k p) (zI (k:Int)) (uQ p.enc) o (by rw[zH];lia) (by rw[zH];lia);refine⟨u,s,?_⟩;have v:=λG=>Kv (G:=G) (xs:=pay) (k:=k) (by lia)
  have L:=λG=>Kv (G:=G) (xs:=left) (k:=k) (by lia)
  have e:∀G,Ae p.enc (.int 0) G=.ok (.str p.kd.txt) G:=λG=>renc0
  have K:¬(("mill":Str)="town"):=by decide
  have P:¬(("basin":Str)="town"):=by decide
  have Q:¬(("basin":Str)="mill"):=by decide
  have U:Ko [zR G.length,uQ h.enc,s2,zT (left.map D.int),zI (w:Int),zT (pay.map D.int),zI (k:Int),uQ p.enc] (hD G h T as ss)=
    .nx [zR G.length,uQ h.enc,s2,zT (left.map D.int),zI (w:Int),zT (pay.map D.int),zI (k:Int),uQ p.enc] (hD G h T (as++plA h T w k (Ab pay k) (Ab left k) p) (ss++plS w k p)):=by
   cases d:p.kd with
   |town a b=>
    have c:=ZLO (G:=G) (as:=as) (ss:=ss) g j f hw hk d (Ab pay k) (by lia) (by lia);have n:plA h T w k (Ab pay k) 0 p=plA h T w k (Ab pay k) (Ab left k) p:=by unfold plA;rw[d]
    rw[n]at c;have m:=λt S=>mD (G:=G) (h:=h) (T:=T) (as:=as) (ss:=ss) (m:="draw_town") (F:=Ml) (t:=t) (S:=S) rfl
    rw[d]at e;unfold RK.txt at e;dsimp only at e;generalize hD G h T (as++plA h T w k (Ab pay k) (Ab left k) p) (ss++plS w k p)=B at*;generalize hD G h T as ss=H at*;generalize pay.map D.int=z at*;generalize left.map D.int=y at*;generalize p.enc=A at*;generalize h.enc=E at*;unfold Ko;simp[e,v,m,c]
   |mill a=>
    have c:=ZJz (G:=G) (as:=as) (ss:=ss) g j f hw hk d (Ab pay k) (by lia) (by lia);have n:plA h T w k (Ab pay k) 0 p=plA h T w k (Ab pay k) (Ab left k) p:=by unfold plA;rw[d]
    rw[n]at c;have m:=λt S=>mD (G:=G) (h:=h) (T:=T) (as:=as) (ss:=ss) (m:="draw_mill") (F:=N7) (t:=t) (S:=S) rfl
    rw[d]at e;unfold RK.txt at e;dsimp only at e;generalize hD G h T (as++plA h T w k (Ab pay k) (Ab left k) p) (ss++plS w k p)=B at*;generalize hD G h T as ss=H at*;generalize pay.map D.int=z at*;generalize left.map D.int=y at*;generalize p.enc=A at*;generalize h.enc=E at*;unfold Ko;simp[e,K,v,m,c]
   |basin b r q=>
    have c:=ZOM (G:=G) (as:=as) (ss:=ss) g j f hw hk d (Ab pay k) (Ab left k) (by lia) (by lia);have m:=λt S=>mD (G:=G) (h:=h) (T:=T) (as:=as) (ss:=ss) (m:="draw_basin") (F:=Lx) (t:=t) (S:=S) rfl
    rw[d]at e;unfold RK.txt at e;dsimp only at e;generalize hD G h T (as++plA h T w k (Ab pay k) (Ab left k) p) (ss++plS w k p)=B at*;generalize hD G h T as ss=H at*;generalize pay.map D.int=z at*;generalize left.map D.int=y at*;generalize p.enc=A at*;generalize h.enc=E at*;unfold Ko;simp[e,P,Q,v,L,m,c]
  rw[zK,qD,zK,Eg];simp[trA,trS];rw[<-qX,<-qX,<-O];simp[U]
theorem ZDD(g:HG h)(o:h.ps.length<=100)(m:T<=100){left:List Int}(k:left.length=h.ps.length){s2:Option D}:∀(ys:List (List Int))(w:Nat)(as:List Arc)(ss:List Spot)(s4 s5 s6 s7:Option D),w+ys.length=T->(∀y∈ys,y.length=h.ps.length)->as.length+3*h.ps.length*ys.length<900->ss.length+3*h.ps.length*ys.length<900->∃b a d c,
  Bc (Bp 2 (Al (gV 4) (Al (gV 5) Bs))) Ld (((pyD ys).zipIdx w).map λ(x,i)=>.tup [.int (i:Int),x]) [zR G.length,uQ h.enc,s2,zT (left.map D.int),s4,s5,s6,s7] (hD G h T as ss)=
   .nx [zR G.length,uQ h.enc,s2,zT (left.map D.int),b,a,d,c] (hD G h T (as++neA h T left w ys) (ss++neS h w ys.length))
 |[],w,as,ss,s4,s5,s6,s7,_,_,_,_=>⟨s4,s5,s6,s7,by simp[neA,neS,pyD,Gq]⟩
 | y::ys,w,as,ss,s4,s5,s6,s7,hw,j,t,p=>by
  simp[zN,Nat.mul_add]at hw t p;have B:=Tf (h:=h) (T:=T) (w:=w) (pay:=y) (left:=left) h.ps 0;obtain⟨l,n,r⟩:=ZGH g o m (w:=w) (by lia) (j y (by simp)) k h.ps 0 as ss s6 s7 rfl (by lia) (by lia);obtain⟨b,a,d,c,u⟩:=ZDD g o m k (s2:=s2) ys (w+1) (as++trA h T w y left 0 h.ps) (ss++trS w 0 h.ps) (zI (w:Int)) (zT (y.map D.int)) l n (by lia) (λz s=>j z (zV _ s)) (by rw[zH];lia) (by rw[zH];lia)
  refine⟨b,a,d,c,?_⟩;have e:Bc (Bp 2 (Al (gV 6) (Al (gV 7) Bs))) Ko (El (h.ps.map RP.enc)) [zR G.length,uQ h.enc,s2,zT (left.map D.int),zI (w:Int),zT (y.map D.int),s6,s7] (hD G h T as ss)=_:=r;have f:∀G,Ae h.enc (.int 1) G=.ok (.tup (h.ps.map RP.enc)) G:=λG=>G8
  have v:Ld [zR G.length,uQ h.enc,s2,zT (left.map D.int),zI (w:Int),zT (y.map D.int),s6,s7] (hD G h T as ss)=
    .nx [zR G.length,uQ h.enc,s2,zT (left.map D.int),zI (w:Int),zT (y.map D.int),l,n] (hD G h T (as++trA h T w y left 0 h.ps) (ss++trS w 0 h.ps)):=by
   generalize hD G h T (as++trA h T w y left 0 h.ps) (ss++trS w 0 h.ps)=E at*;generalize hD G h T as ss=H at*;generalize y.map D.int=C at*;generalize left.map D.int=A at*;generalize h.ps.map RP.enc=Y at*;generalize h.enc=F at*;unfold Ld;simp[f,Eu,I7,lenOf,e]
  have q:pyD (y::ys)=.tup (y.map D.int)::pyD ys:=rfl;rw[q,qD,zK,Eg];simp[neA,neS,zN];rw[<-qX,<-qX,<-u];simp[v]
end
theorem ZKG{T:DH}{fs:List (Str×D)}{f:Str}(h:fs.length<1000):Jl "Draft" f (.ref G.length) d S (G++ .ins "Draft" fs::T)=.nx S (G++ .ins "Draft" (Hg f d fs)::T):=by
 rw[ZA6 (by simp) h,Fi]
 rfl
theorem Rg{T H':DH}{fs:List (Str×D)}{f:Str}{a:DE}(c:a S H=.ok d H')(e:S[0]?=uQ (zR G.length))(g:H'=G++ .ins "Draft" fs::T)(h:fs.length<1000):Ck "Draft" (dV 0) a f S H=.nx S (G++ .ins "Draft" (Hg f d fs)::T):=by
 have b:dV 0 S H'=.ok (.ref G.length) H':=by simp[e]
 rw[ZEV,c,R.Ej,b,R.Ej,g];exact ZKG h
theorem ZMK(g:HG h)(A:h.ps.length<=100)(u:pays.length<=100){left:List Int}(s:left.length=h.ps.length)(q:∀y∈pays,y.length=h.ps.length)(F:3*h.ps.length*pays.length<900)(G:DH):
  Mm [.ref G.length,h.enc,.fl (pyD pays),.tup (left.map D.int)] (G++[.ins "Draft" []])=.ok .non (hD G h pays.length (neA h pays.length left 0 pays) (neS h 0 pays.length)):=by
 obtain⟨k,i,o,m,j⟩:=ZDD g A u s pays 0 [] [] uZ uZ uZ uZ (by lia) q (by simp;lia) (by simp;lia);rw[qC,qC]at j;let a:DSt:=[zR G.length,uQ h.enc,zF (pyD pays),zT (left.map D.int),uZ,uZ,uZ,uZ];have d:Bc (Bp 2 (Al (gV 4) (Al (gV 5) Bs))) Ld (El (pyD pays)) a (hD G h pays.length [] [])=_:=j;have b:(pyD pays).length=pays.length:=by simp[pyD]
 have r:Ck "Draft" (dV 0) (dV 1) "house" a (G++[.ins "Draft" []])=.nx a (G++[.ins "Draft" [("house",h.enc)]]):=Rg (fs:=[]) (by simp[a]) rfl rfl (by simp);have B:Ck "Draft" (dV 0) (dFn Bb (Aa (dV 2) Ac)) "turns" a (G++[.ins "Draft" [("house",h.enc)]])=.nx a (G++[.ins "Draft" [("house",h.enc),("turns",.int (pays.length:Int))]]):=Rg (fs:=[("house",h.enc)]) (by simp[a,b]) rfl rfl (by simp);have p:Ck "Draft" (dV 0) (Bl (dFn Ah Ac)) "arcs" a (G++[.ins "Draft" [("house",h.enc),("turns",.int (pays.length:Int))]])=.nx a (G++[.ins "Draft" [("house",h.enc),("turns",.int (pays.length:Int)),("arcs",.ref (G.length+1))],.lst []]):=by
  have e:D.ref (G++[DO.ins "Draft" [("house",h.enc),("turns",.int (pays.length:Int))]]).length=.ref (G.length+1):=by simp
  have:=Rg (f:="arcs") (fs:=[("house",h.enc),("turns",.int (pays.length:Int))]) (T:=[.lst []]) (Zm (S:=a) (H:=G++[.ins "Draft" [("house",h.enc),("turns",.int (pays.length:Int))]])) rfl (by simp) (by simp);rw[e]at this;exact this
 have x:Ck "Draft" (dV 0) (Bl (dFn Ah Ac)) "spots" a (G++[.ins "Draft" [("house",h.enc),("turns",.int (pays.length:Int)),("arcs",.ref (G.length+1))],.lst []])=.nx a (hD G h pays.length [] []):=by
  have e:D.ref (G++[DO.ins "Draft" [("house",h.enc),("turns",.int (pays.length:Int)),("arcs",.ref (G.length+1))],.lst []]).length=.ref (G.length+2):=by simp
  have:=Rg (f:="spots") (fs:=[("house",h.enc),("turns",.int (pays.length:Int)),("arcs",.ref (G.length+1))]) (T:=[.lst [],.lst []]) (Zm (S:=a) (H:=G++[.ins "Draft" [("house",h.enc),("turns",.int (pays.length:Int)),("arcs",.ref (G.length+1))],.lst []])) rfl (by simp) (by simp);rw[e]at this;exact this
 have w:Cd (Bg Eu (Aa (dV 2) Ac)) (Bp 2 (Al (gV 4) (Al (gV 5) Bs))) Ld a (hD G h pays.length [] [])=.nx [zR G.length,uQ h.enc,zF (pyD pays),zT (left.map D.int),k,i,o,m] (hD G h pays.length (neA h pays.length left 0 pays) (neS h 0 pays.length)):=by
  rw[<-d];have t:a[2]?=uQ (zF (pyD pays)):=rfl
  clear_value a
  generalize hD G h pays.length [] []=E at*;generalize pyD pays=C at*;simp[t,Eu,I7,lenOf]
 have v:tidy (G++[.ins "Draft" []]) (.ok .non (hD G h pays.length (neA h pays.length left 0 pays) (neS h 0 pays.length)))=.ok .non (hD G h pays.length (neA h pays.length left 0 pays) (neS h 0 pays.length)):=by
  refine ZFP λz=>?_
  have l:((hD G h pays.length (neA h pays.length left 0 pays) (neS h 0 pays.length)).take (G++[DO.ins "Draft" []]).length)[G.length]?=uQ (.ins "Draft" []):=by rw[z];simp
  rw[qz (by simp),hD0]at l;cases l
 have c:Pu a (G++[.ins "Draft" []])=.nx [zR G.length,uQ h.enc,zF (pyD pays),zT (left.map D.int),k,i,o,m] (hD G h pays.length (neA h pays.length left 0 pays) (neS h 0 pays.length)):=by
  clear_value a
  unfold Pu;simp only[S6,r,B,p,x,w,Qv]
 unfold Mm;rw[Aw];show tidy _ (Pu a _).ret=_;rw[c];exact v
def Gw(lv:List Int)(cm:List (List Int))(w k:Nat)(x:Int):Int:=x+(if w<5 then Ab (cm.getD k []) w else 0)+(if w=0 then Ab lv k else 0)
def Dh(lv:List Int)(cm:List (List Int))(w:Nat):Nat->List Int->List Int
 |_,[]=>[]
 |k,x::xs=>Gw lv cm w k x::Dh lv cm w (k+1) xs
def Cq(lv:List Int)(cm:List (List Int)):Nat->List (List Int)->List Int
 |_,[]=>[]
 |w,f::fs=>Dh lv cm w 0 f++Cq lv cm (w+1) fs
theorem Oi:∀(xs:List Int)(k:Nat),(Dh lv cm w k xs).length=xs.length
 |[],_=>rfl
 |x::xs,k=>by simp[Dh,Oi xs]
section
variable{lv:List Int}{cm:List (List Int)}{n:Nat}{G:DH}
theorem ZCY(m:lv.length=n)(q:cm.length=n)(g:∀r∈cm,r.length=5){w:Nat}{s0 s1 s6:Option D}:∀(xs:List Int)(k:Nat)(acc:List Int)(s7 s8 s9 s10:Option D),k+xs.length<=n->acc.length+xs.length<1000->∃t o l f,
  Bc (Bp 2 (Al (gV 7) (Al (gV 8) Bs))) Kc (((xs.map D.int).zipIdx k).map λ(x,i)=>.tup [.int (i:Int),x]) [s0,s1,uQ (tupI lv),zT (cm.map tupI),zR G.length,zI (w:Int),s6,s7,s8,s9,s10] (G++[.lst (acc.map D.int)])=
   .nx [s0,s1,uQ (tupI lv),zT (cm.map tupI),zR G.length,zI (w:Int),s6,t,o,l,f] (G++[.lst ((acc++Dh lv cm w k xs).map D.int)])
 |[],k,acc,s7,s8,s9,s10,_,_=>⟨s7,s8,s9,s10,by simp[Dh,Gq]⟩
 | x::xs,k,acc,s7,s8,s9,s10,J,E=>by
  simp[zN]at J E;obtain⟨c,s⟩:∃c,cm[k]?=uQ c:=⟨_,zJ (by lia)⟩;have N:=g c (q0 s);have L:cm.getD k []=c:=by simp[zW,s]
  have F:atI (cm.map tupI) (k:Int)=uQ (tupI c):=Dg rfl (by rw[zv,s];rfl);have H:=λG=>Kv (G:=G) (xs:=lv) (k:=k) (by lia)
  have u:∀G,Ae (.tup (cm.map tupI)) (.int (k:Int)) G=.ok (.tup (c.map D.int)) G:=λG=>by simp[F,tupI]
  have d:∀G,Bb [.tup (c.map D.int)] G=.ok (.int 5) G:=λG=>by simp[N]
  have e:(acc.map D.int).length<1000000:=by rw[zj];lia
  let v:=Gw lv cm w k x;obtain⟨t,o,l,f,K⟩:=ZCY m q g (w:=w) (s0:=s0) (s1:=s1) (s6:=s6) xs (k+1) (acc++[Gw lv cm w k x]) (zI (k:Int)) (zI x) (zI (if w<5 then Ab (cm.getD k []) w else 0)) (zI (if w=0 then Ab lv k else 0)) (by lia) (by simp;lia);refine⟨t,o,l,f,?_⟩;have M:Kc [s0,s1,uQ (tupI lv),zT (cm.map tupI),zR G.length,zI (w:Int),s6,zI (k:Int),zI x,s9,s10] (G++[.lst (acc.map D.int)])=
    .nx [s0,s1,uQ (tupI lv),zT (cm.map tupI),zR G.length,zI (w:Int),s6,zI (k:Int),zI x,zI (if w<5 then Ab (cm.getD k []) w else 0),zI (if w=0 then Ab lv k else 0)] (G++[.lst ((acc++[Gw lv cm w k x]).map D.int)]):=by
   rw[zO,zK,qK];unfold Gw;rw[L];have I:tupI lv=.tup (lv.map D.int):=rfl;rw[I];by_cases j:w<5
   .have b:(w:Int)<5:=by lia
    have z:=λG=>Kv (G:=G) (xs:=c) (k:=w) (by lia)
    by_cases a:w=0
    .subst a;have p:∀G,Ae (.tup (c.map D.int)) (.int 0) G=.ok (.int (Ab c 0)) G:=z;generalize c.map D.int=A at*;generalize cm.map tupI=C at*;generalize acc.map D.int=B at*;generalize lv.map D.int=y at*;unfold Kc;simp[u,d,p,H,Eo,Fi,e]
    have h:¬(w:Int)=0:=by lia
    generalize c.map D.int=A at*;generalize cm.map tupI=C at*;generalize acc.map D.int=B at*;generalize lv.map D.int=y at*;unfold Kc;simp[u,d,j,b,a,h,z,Eo,Fi,e]
   have b:¬(w:Int)<5:=by lia
   have a:¬w=0:=by lia
   generalize c.map D.int=A at*;generalize cm.map tupI=C at*;generalize acc.map D.int=B at*;generalize lv.map D.int=y at*;unfold Kc;simp[u,d,j,b,a,by omega,Eo,Fi,e]
  rw[zK,qD,zK,Eg];simp only[Dh];rw[show acc++Gw lv cm w k x::Dh lv cm w (k+1) xs=acc++[Gw lv cm w k x]++Dh lv cm w (k+1) xs by simp,<-K];simp[M]
theorem ZGn(d:lv.length=n)(e:cm.length=n)(c:∀r∈cm,r.length=5){s0 s1:Option D}:∀(fs:List (List Int))(w:Nat)(acc:List Int)(s5 s6 s7 s8 s9 s10:Option D),(∀f∈fs,f.length=n)->acc.length+n*fs.length<1000->∃k o m l j a,
  Bc (Bp 2 (Al (gV 5) (Al (gV 6) Bs))) Ou (((fs.map tupI).zipIdx w).map λ(x,i)=>.tup [.int (i:Int),x]) [s0,s1,uQ (tupI lv),zT (cm.map tupI),zR G.length,s5,s6,s7,s8,s9,s10] (G++[.lst (acc.map D.int)])=
   .nx [s0,s1,uQ (tupI lv),zT (cm.map tupI),zR G.length,k,o,m,l,j,a] (G++[.lst ((acc++Cq lv cm w fs).map D.int)])
 |[],w,acc,s5,s6,s7,s8,s9,s10,_,_=>⟨s5,s6,s7,s8,s9,s10,by simp[Cq,Gq]⟩
 | f::fs,w,acc,s5,s6,s7,s8,s9,s10,t,y=>by
  simp[zN,Nat.mul_add,Nat.mul_one]at y;have E:=t f (by simp);obtain⟨s,p,q,b,v⟩:=ZCY d e c f 0 acc s7 s8 s9 s10 (by lia) (by lia);obtain⟨k,o,m,l,j,a,A⟩:=ZGn d e c (s0:=s0) (s1:=s1) fs (w+1) (acc++Dh lv cm w 0 f) (zI (w:Int)) (uQ (tupI f)) s p q b (λg z=>t g (zV _ z)) (by rw[zH,Oi];lia);refine⟨k,o,m,l,j,a,?_⟩;have h:Bc (Bp 2 (Al (gV 7) (Al (gV 8) Bs))) Kc (El (f.map D.int)) [s0,s1,uQ (tupI lv),zT (cm.map tupI),zR G.length,zI (w:Int),uQ (tupI f),s7,s8,s9,s10] (G++[.lst (acc.map D.int)])=_:=v
  have B:Ou [s0,s1,uQ (tupI lv),zT (cm.map tupI),zR G.length,zI (w:Int),uQ (tupI f),s7,s8,s9,s10] (G++[.lst (acc.map D.int)])=
    .nx [s0,s1,uQ (tupI lv),zT (cm.map tupI),zR G.length,zI (w:Int),uQ (tupI f),s,p,q,b] (G++[.lst ((acc++Dh lv cm w 0 f).map D.int)]):=by
   have u:tupI f=.tup (f.map D.int):=rfl;rw[u]at h⊢;generalize(acc++Dh lv cm w 0 f).map D.int=J at*;generalize acc.map D.int=F at*;generalize f.map D.int=H at*;generalize tupI lv=C at*;generalize cm.map tupI=I at*;unfold Ou;simp[Eu,I7,lenOf,h]
  rw[zK,qD,zK,Eg];simp only[Cq];rw[<-qX,<-A];simp[B]
theorem ZIV(c:lv.length=n)(d:cm.length=n)(b:∀r∈cm,r.length=5){fs:List (List Int)}(j:∀f∈fs,f.length=n)(u:n*fs.length<900)(G:DH):freeze G (Oa [stE lv cm,.fl (fs.map tupI)] G)=.ok (.fl ((Cq lv cm 0 fs).map D.int)) G:=by
 obtain⟨o,w,v,q,m,k,g⟩:=ZGn (G:=G) c d b fs 0 [] uZ uZ uZ uZ uZ uZ j (by simp;lia);rw[qC]at g;have a:Bc (Bp 2 (Al (gV 5) (Al (gV 6) Bs))) Ou (El (fs.map tupI)) [uQ (stE lv cm),zF (fs.map tupI),uQ (tupI lv),zT (cm.map tupI),zR G.length,uZ,uZ,uZ,uZ,uZ,uZ] (G++[.lst []])=_:=g;have h:tidy G (.ok (.ref G.length) (G++[.lst []]))=.ok (.ref G.length) (G++[.lst []]):=Dp rfl
 have l:tidy G (.ok (.ref G.length) (G++[.lst ((Cq lv cm 0 fs).map D.int)]))=.ok (.ref G.length) (G++[.lst ((Cq lv cm 0 fs).map D.int)]):=Dp Dc;have i:stE lv cm=.tup [tupI lv,.tup (cm.map tupI)]:=rfl;have e:Oa [stE lv cm,.fl (fs.map tupI)] G=.ok (.ref G.length) (G++[.lst ((Cq lv cm 0 fs).map D.int)]):=by rw[i]at a⊢;generalize(Cq lv cm 0 fs).map D.int=p at*;generalize fs.map tupI=s at*;generalize tupI lv=x at*;generalize cm.map tupI=t at*;unfold Oa ZE6;rw[Aw];simp[Ah,h,Eu,I7,lenOf,a,l]
 rw[e,Bk Dc]
end
theorem ZPS{o:Nat}(f:Cz "Draft" "house" (.ref o) H=.ok h.enc H)(g:Cz "Draft" "turns" (.ref o) H=.ok (.int (T:Int)) H)(i:h.ps.length<=100)(l:T<=100)(hw:w<T):Dr [.ref o,.int (w:Int),.int (k:Int)] H=.ok (.int (w*h.ps.length+k:Nat)) H:=by
 have c:∀G,Ae h.enc (.int 1) G=.ok (.tup (h.ps.map RP.enc)) G:=λG=>G8
 have e:∀G,Bb [.tup (h.ps.map RP.enc)] G=.ok (.int (h.ps.length:Int)) G:=λG=>by simp
 have d:∀G,Ax (.int (w:Int)) (.int (h.ps.length:Int)) G=.ok (.int ((w:Int)*(h.ps.length:Int))) G:=λG=>Dn (by lia) (by lia)
 have b:(((w*h.ps.length+k:Nat)):Int)=(w:Int)*(h.ps.length:Int)+(k:Int):=by rw[jk,qI]
 have a:¬T<=w:=by lia
 rw[b];generalize h.ps.map RP.enc=Y at*;generalize h.enc=j at*;unfold Dr Od;rw[Aw];simp[f,g,c,e,d,Du,a,by omega,Bw]
theorem ZIL{f:Nat->DH->Option (Option D)}{g:DG}{x:D}(h:f j G=uQ (uQ x)):Cv f g b (m+1) j S G=(g x S G).toS λc a=>aft (b c a) (Cv f g b m (j+1)):=by
 show(match f j G with |some (uQ x)=>(g x S G).toS λc a=>aft (b c a) (Cv f g b m (j+1))|some uZ=>.nx S G|none=>.bad)=_
 rw[h]
theorem ZLB{f:Nat->DH->Option (Option D)}{g:DG}(h:f j G=uQ uZ):Cv f g b 0 j S G=.nx S G:=by
 show(match f j G with |some uZ=>SR.nx S G|_=>.bad)=_
 rw[h]
noncomputable def Ho(r:List Int):DO:=.lst (r.map D.int)
def hP(H:DH)(rs:List (List Int)):DH:=H++(rs.map Ho++[.lst ((zX rs.length).map λi=>D.ref (H.length+i))])
section
variable{H:DH}{rs:List (List Int)}
theorem Ow(h:i<H.length):(hP H rs)[i]?=H[i]? :=z9 h
theorem ZEa(h:rs[i]?=uQ r):(hP H rs)[H.length+i]?=uQ (.lst (r.map D.int)):=by
 unfold hP;rw[zD (by lia),qA,z9 (by simpa using((zY.mp h).1)),zv,h]
 rfl
theorem Yr:(hP H rs)[H.length+rs.length]?=uQ (.lst ((zX rs.length).map λi=>D.ref (H.length+i))):=by unfold hP;rw[zD (by lia),qA,zD (by simp)];simp
theorem ZOq(h:i<rs.length)(r:List Int):(hP H rs).set (H.length+i) (.lst (r.map D.int))=hP H (rs.set i r):=by
 unfold hP;rw[Ip,List.set_append,if_pos (by simpa using h),List.map_set,qH]
 rfl
theorem N5:(hP H rs).length=H.length+rs.length+1:=by simp[hP];lia
end
noncomputable def zero6:List Int:=[0,0,0,0,0,0]
theorem ZD6{S:DSt}:∀(m j:Nat)(Γ:DH),Bo (gV 0) Ar M5 (uZ::S) (Ay (j:Int) m) Γ=.ok ((zX m).map λi=>D.ref (Γ.length+i)) (Γ++zQ m (Ho zero6))
 |0,j,Γ=>by rw[Hu];simp[Bo]
 | m+1,j,Γ=>by
  have c:tidy Γ (.ok (.ref (Γ.length+1)) (Γ++[.lst [.int 0],Ho zero6]))=.ok (.ref Γ.length) (Γ++[Ho zero6]):=Xr [.lst [.int 0],Ho zero6] rfl rfl;have rp:J9 (.ref Γ.length) (.int 6) (Γ++[.lst [.int 0]])=.ok (.ref (Γ.length+1)) (Γ++[.lst [.int 0],Ho zero6]):=by have:=ZOU (G:=Γ++[.lst [.int 0]]) (k:=6) (by rw[Eo];rfl) (by decide);simpa[Ho,zero6]using this
  have b:∀x,M5 (uQ x::S) Γ=.ok (.ref Γ.length) (Γ++[Ho zero6]):=λx=>by unfold M5;simp[Ah,rp,c]
  have a:((j:Int)+1)=((j+1:Nat):Int):=by lia
  rw[Gu,Gz,a];simp only[Eb,R.Dv,qT,Ju,if_true,b];rw[ZD6 (S:=S) m (j+1) (Γ++[Ho zero6]),R.Dv]
  congr 1
  .rw[qM,zK,q8]
   congr 1
   refine jJ λi _=>?_
   simp;lia
  simp[qW]
def bmp(rs:List (List Int))(u q:Nat)(c:Int):List (List Int):=rs.set u ((rs.getD u []).set q (Ab (rs.getD u []) q+c))
theorem ZDp:(bmp rs u q c).length=rs.length:=by simp[bmp]
theorem ZGY(h:∀r∈rs,r.length=6):∀r∈bmp rs u q c,r.length=6:=λr a=>by
 unfold bmp at a;by_cases b:u<rs.length
 .rcases jS a with z|z
  .exact h r z
  rw[z,qH,zW,zJ b];exact h _ (qV _)
 rw[List.set_eq_of_length_le (by lia)]at a;exact h r a
def Bu(n:Nat):List Spot->List Int->List (List Int)->List (List Int)
 |s::ss,c::cs,rs=>Bu n ss cs (bmp rs (s.1*n+s.2.1) s.2.2 c)
 |_,_,rs=>rs
theorem Wz{n:Nat}:∀(ss:List Spot)(cs:List Int)(rs:List (List Int)),(∀r∈rs,r.length=6)->(Bu n ss cs rs).length=rs.length/\∀r∈Bu n ss cs rs,r.length=6
 |s::ss,c::cs,rs,h=>by have:=Wz (n:=n) ss cs (bmp rs (s.1*n+s.2.1) s.2.2 c) (ZGY h);rw[ZDp]at this;exact this
 |[],_,rs,h=>by cases‹List Int› <;> exact⟨rfl,h⟩
 |_::_,[],rs,h=>⟨rfl,h⟩
section
variable{G:DH}{h:RH}{T:Nat}{as:List Arc}{ss:List Spot}
theorem ZDl(C:h.ps.length<=100)(A:T<=100)(hs:∀s∈ss,s.1<T/\s.2.1<h.ps.length/\s.2.2<6){f:List Int}(O:f.length=ss.length){s10 s11 s12 s13:Option D}:∀(m j:Nat)(rs:List (List Int))(s5 s6 s7 s8 s9:Option D),j+m=ss.length->rs.length=T*h.ps.length->(∀r∈rs,r.length=6)->∃p z x u i,
  Cv (Hi [.ref (G.length+2),.fl (f.map D.int)]) (Bp 2 (Al (gV 5) (Al (gV 6) Bs))) Ov m j [zR G.length,s1,s2,s3,zR ((hD G h T as ss).length+T*h.ps.length),s5,s6,s7,s8,s9,s10,s11,s12,s13] (hP (hD G h T as ss) rs)=
   .nx [zR G.length,s1,s2,s3,zR ((hD G h T as ss).length+T*h.ps.length),p,z,x,u,i,s10,s11,s12,s13] (hP (hD G h T as ss) (Bu h.ps.length (ss.drop j) (f.drop j) rs))
 | 0,j,rs,s5,s6,s7,s8,s9,Z,e,y=>⟨s5,s6,s7,s8,s9,by
   have d:(hP (hD G h T as ss) rs)[G.length+2]?=uQ (.lst (ss.map Cu)):=by rw[Ow (by rw[hDl];lia)];exact hD2
   rw[ZLB (by rw[Pr (Nj d) J6,zA];simp[Hx];lia),q7 (by lia)]
   rfl⟩
 | m+1,j,rs,s5,s6,s7,s8,s9,Z,e,y=>by
  have c:j<ss.length:=by lia
  have a:j<f.length:=by lia
  obtain⟨⟨w,k,q⟩,l⟩:∃s,ss[j]?=uQ s:=⟨_,zJ c⟩;obtain⟨hw,hk,M⟩:=hs _ (q0 l);dsimp only at hw hk M;have W:f[j]?=uQ (Ab f j):=(Hl a)▸zJ a;have v:w*h.ps.length+k<rs.length:=by
   rw[e];have Q:w*h.ps.length+k<(w+1)*h.ps.length:=by rw[xz,xD];lia
   exact zq Q (qL _ (by lia))
  obtain⟨r,o⟩:∃r,rs[w*h.ps.length+k]?=uQ r:=⟨_,zJ v⟩;have r6:=y r (q0 o);have n:rs.getD (w*h.ps.length+k) []=r:=by rw[zW,o];rfl
  have I:ss.drop j=(w,k,q)::ss.drop (j+1):=by
   rw[qy c]
   congr 1
   exact(zY.mp l).2
  have J:f.drop j=Ab f j::f.drop (j+1):=by rw[qy a,Hl a]
  obtain⟨p,z,x,u,i,B⟩:=ZDl C A hs O m (j+1) (bmp rs (w*h.ps.length+k) q (Ab f j)) (uQ (Cu (w,k,q))) (zI (Ab f j)) (zI (w:Int)) (zI (k:Int)) (zI (q:Int)) (by lia) (by rw[ZDp];exact e) (ZGY y);refine⟨p,z,x,u,i,?_⟩;have g:(hP (hD G h T as ss) rs)[G.length]?=uQ (.ins "Draft" (dfl h T G.length)):=by rw[Ow (by rw[hDl];lia)];exact hD0
  have d:(hP (hD G h T as ss) rs)[G.length+2]?=uQ (.lst (ss.map Cu)):=by rw[Ow (by rw[hDl];lia)];exact hD2
  have E:Hi [.ref (G.length+2),.fl (f.map D.int)] j (hP (hD G h T as ss) rs)=uQ (zT [Cu (w,k,q),.int (Ab f j)]):=by
   rw[Pr (Nj d) J6];unfold Hx;have P:((ss.map Cu).zip (f.map D.int))[j]?=uQ (Cu (w,k,q),D.int (Ab f j)):=List.getElem?_zip_eq_some.mpr ⟨by rw[zv,l];rfl,by rw[zv,W];rfl⟩;rw[zv,P]
   rfl
  have cn:=ZPS (Dm g rfl) (Dm g rfl) C A (k:=k) hw;have K:=λt S=>T7 (m:="node_at") (F:=Dr) (ta:=t) (S:=S) g rfl
  have X:Ae (.ref ((hD G h T as ss).length+T*h.ps.length)) (.int ((w*h.ps.length+k:Nat):Int)) (hP (hD G h T as ss) rs)=.ok (.ref ((hD G h T as ss).length+(w*h.ps.length+k))) (hP (hD G h T as ss) rs):=by rw[<-e];exact Hr Yr (Dg rfl (by rw[zv,qx v];rfl))
  have b:=ZEa (H:=hD G h T as ss) o;have il:ixL (.ref ((hD G h T as ss).length+(w*h.ps.length+k))) (.int (q:Int)) (hP (hD G h T as ss) rs)=.ok (.int (Ab r q)) (hP (hD G h T as ss) rs):=ZDF b (Lw (by lia));have U:ixN (r.map D.int).length (q:Int)=uQ q:=by rw[zj];exact Tc (by lia)
  have L:Gd (.ref ((hD G h T as ss).length+(w*h.ps.length+k))) (.int (q:Int)) (.int (Ab r q+Ab f j)) (hP (hD G h T as ss) rs)=.ok .non (hP (hD G h T as ss) (bmp rs (w*h.ps.length+k) q (Ab f j))):=by rw[Jv,b];simp only[U];unfold bmp;rw[n,<-ZOq v,List.map_set]
  have Y:Ov [zR G.length,s1,s2,s3,zR ((hD G h T as ss).length+T*h.ps.length),uQ (Cu (w,k,q)),zI (Ab f j),s7,s8,s9,s10,s11,s12,s13] (hP (hD G h T as ss) rs)=
    .nx [zR G.length,s1,s2,s3,zR ((hD G h T as ss).length+T*h.ps.length),uQ (Cu (w,k,q)),zI (Ab f j),zI (w:Int),zI (k:Int),zI (q:Int),s10,s11,s12,s13] (hP (hD G h T as ss) (bmp rs (w*h.ps.length+k) q (Ab f j))):=by
   have N:Cu (w,k,q)=.tup [.int (w:Int),.int (k:Int),.int (q:Int)]:=rfl;rw[N];clear E g d b B;generalize hP (hD G h T as ss) (bmp rs (w*h.ps.length+k) q (Ab f j))=H2 at*;generalize hP (hD G h T as ss) rs=H1 at*;generalize(hD G h T as ss).length+T*h.ps.length=a1 at*;generalize(hD G h T as ss).length+(w*h.ps.length+k)=a2 at*;generalize((w*h.ps.length+k:Nat):Int)=uu at*;unfold Ov
   simp[K,cn,X,il,L]
  rw[ZIL E,I,J];show _=SR.nx _ (hP (hD G h T as ss) (Bu h.ps.length (ss.drop (j+1)) (f.drop (j+1)) (bmp rs (w*h.ps.length+k) q (Ab f j))));rw[<-B];simp[Y]
end
theorem ZE9{f:Type}{xs:List f}{a b:Nat}(e:a<=b)(i:b<=xs.length):cutD xs (uQ (a:Int)) (uQ (b:Int))=(xs.drop a).take (b-a):=by
 have h:=(Ja xs.length (a:Int)).2;have g:=(Ja xs.length (b:Int)).1;have d:HT.sIx xs.length 0 (uQ (a:Int))=a:=by lia
 have c:HT.sIx xs.length xs.length (uQ (b:Int))=b:=by lia
 unfold cutD;rw[d,c]
noncomputable def pgR(r:List Int)(l:Int):List Int:=((r.drop 1).sum-l)::r.drop 1
theorem ZPZ(o:Γ[i]?=uQ (.lst (r.map D.int)))(j:r.length=6)(l:Int):Rp [.ref i,.int l] Γ=.ok (tupI (pgR r l)) Γ:=by
 have a:G9 (.ref i) (uQ 1) uZ Γ=.ok (.ref Γ.length) (Γ++[.lst ((r.drop 1).map D.int)]):=by have e:cutD (r.map D.int) (uQ ((1:Nat):Int)) uZ=(r.map D.int).drop 1:=Yv (by rw[zj];lia);have k:cutD (r.map D.int) (uQ 1) uZ=(r.drop 1).map D.int:=List.map_drop▸e;simp[G9,Ep,o,k]
 have m:freeze Γ (.ok (.ref Γ.length) (Γ++[.lst ((r.drop 1).map D.int)]))=.ok (.fl ((r.drop 1).map D.int)) Γ:=Bk Dc;have h:Gi [.fl ((r.drop 1).map D.int)] Γ=.ok (.int (r.drop 1).sum) Γ:=Va;have c:freeze Γ (.ok (.ref Γ.length) (Γ++[.lst [.int ((r.drop 1).sum-l)]]))=.ok (.fl [.int ((r.drop 1).sum-l)]) Γ:=Bk rfl;have g:freeze Γ (.ok (.ref Γ.length) (Γ++[.lst (.int ((r.drop 1).sum-l)::(r.drop 1).map D.int)]))=.ok (.fl (.int ((r.drop 1).sum-l)::(r.drop 1).map D.int)) Γ:=Bk (by exact Dc)
 have f:tupI (pgR r l)=.tup (.int ((r.drop 1).sum-l)::(r.drop 1).map D.int):=rfl;have p:((r.drop 1).map D.int).length+1<=1000000:=by simp[j]
 have n:tidy Γ (.ok (.tup (.int ((r.drop 1).sum-l)::(r.drop 1).map D.int)) Γ)=.ok (.tup (.int ((r.drop 1).sum-l)::(r.drop 1).map D.int)) Γ:=Bw (by exact Dc);have b:Ai (.fl [.int ((r.drop 1).sum-l)]) (.fl ((r.drop 1).map D.int)) Γ=.ok (.ref Γ.length) (Γ++[.lst (.int ((r.drop 1).sum-l)::(r.drop 1).map D.int)]):=by generalize(r.drop 1).map D.int=Z at*;simp;lia
 rw[f];generalize(r.drop 1).map D.int=Z at*;generalize(r.drop 1).sum=d at*;unfold Rp ZCZ;rw[Aw];simp[-Ti,a,m,h,Ah,c,b,g,n]
def pgW(rs:List (List Int))(n w:Nat)(lay:List Int):List (List Int):=(zX n).map λi=>pgR (rs.getD (w*n+i) []) (Ab lay i)
def Ef(rs:List (List Int))(n:Nat):Nat->Nat->List Int->List (List (List Int))
 |0,_,_=>[]
 |m+1,w,lay=>pgW rs n w lay::Ef rs n m (w+1) ((pgW rs n w lay).map λr=>Ab r 5)
def pgT(pg:List (List Int)):D:=.tup (pg.map tupI)
theorem ZQH{a:List (List Int)}:bel n (pgT a)=uJ:=by exact Eh
theorem Oo{l:List (List (List Int))}:bels n (l.map pgT)=uJ:=Fj λ_ _=>ZQH
theorem ZCP{G:DH}:∀b:List (List Int),(∀r∈b,r.length=6)->Bo (gV 0) Ar Qn [uZ] (b.map tupI) G=.ok ((b.map λr=>Ab r 5).map D.int) G
 |[],_=>rfl
 |r::b,h=>by
  have f:=h r (by simp);have a:=Kv (G:=G) (xs:=r) (k:=5) (by lia);have d:Qn [uQ (tupI r)] G=.ok (.int (Ab r 5)) G:=by have c:((5:Nat):Int)=5:=rfl;rw[c]at a;unfold Qn tupI;generalize r.map D.int=Z at*;simp[-ZLZ,a]
  rw[zK,Gz];simp[d,ZCP (G:=G) b λx e=>h x (zV _ e)]
theorem ZEd(hn:n<=100)(x:1<=n)(hT:T<=100)(B:rs.length=T*n)(E:∀r∈rs,r.length=6){s5 s6 s7 s8 s9:Option D}:∀(m w:Nat)(acc:List (List (List Int)))(L:D)(a:List Int)(s12 s13:Option D),w+m=T->a.length=n->(∀Γ,Bm L Γ=uQ (a.map D.int))->acc.length+m<1000->∃g h o,
  Bc (gV 12) Mz ((qB w m).map λ(k:Nat)=>D.int ((k:Int)*(n:Int))) [s0,s1,s2,zI (n:Int),zR (H.length+rs.length),s5,s6,s7,s8,s9,zR (hP H rs).length,uQ L,s12,s13] (hP H rs++[.lst (acc.map pgT)])=
   .nx [s0,s1,s2,zI (n:Int),zR (H.length+rs.length),s5,s6,s7,s8,s9,zR (hP H rs).length,g,h,o] (hP H rs++[.lst ((acc++Ef rs n m w a).map pgT)])
 |0,w,acc,L,a,s12,s13,_,_,_,_=>⟨uQ L,s12,s13,by simp[Ef,Gq]⟩
 | m+1,w,acc,L,a,s12,s13,hw,J,N,ha=>by
  have u:w*n+n<=rs.length:=by rw[B,<-Nat.succ_mul];exact qL _ (by lia)
  have O:∀r∈pgW rs n w a,r.length=6:=λr z=>by obtain⟨i,c,rfl⟩:=qY.mp z;have c:=zU.mp c;have:=E (rs.getD (w*n+i) []) (by rw[zW,zJ (by lia)];exact qV _);unfold pgR;rw[zN,jX,this]
  have F:(pgW rs n w a).length=n:=by simp[pgW]
  obtain⟨g,h,o,W⟩:=ZEd hn x hT B E m (w+1) (acc++[pgW rs n w a]) (.fl (((pgW rs n w a).map λr=>Ab r 5).map D.int)) ((pgW rs n w a).map λr=>Ab r 5) (zI ((w:Int)*(n:Int))) (zF ((pgW rs n w a).map tupI)) (by lia) (by rw[zj,F]) (λΓ=>J6) (by simp;lia);refine⟨g,h,o,?_⟩;obtain⟨Γ,b⟩:∃Γ,Γ=hP H rs++[.lst (acc.map pgT)]:=⟨_,rfl⟩;have P:Γ[H.length+rs.length]?=uQ (.lst ((zX rs.length).map λi=>D.ref (H.length+i))):=by rw[b,z9 (by rw[N5];lia)];exact Yr
  have M:∀i,i<n->Γ[H.length+(w*n+i)]?=uQ (.lst ((rs.getD (w*n+i) []).map D.int)):=λi c=>by rw[b,z9 (by rw[N5];lia)];exact ZEa (by rw[zW,zJ (by lia)];rfl)
  have gp:Γ[(hP H rs).length]?=uQ (.lst (acc.map pgT)):=by rw[b,Eo];rfl
  have K:∀t,Γ.set (hP H rs).length (.lst t)=hP H rs++[.lst t]:=λt=>by rw[b,Fi];rfl
  have s:Γ.length=H.length+rs.length+1+1:=by rw[b,zH,N5];rfl
  let e:=(zX n).map λi=>D.ref (H.length+(w*n+i))
  have f:cutD ((zX rs.length).map λi=>D.ref (H.length+i)) (uQ ((w:Int)*(n:Int))) (uQ ((w:Int)*(n:Int)+(n:Int)))=e:=by
   rw[(qI ..).symm,(jk ..).symm,ZE9 (by lia) (by simpa using u)];refine qS (by rw[qR,jX,zj,jL,qA];simp[e,zj,jL];lia) λi Q X=>?_
   simp[e,Nat.add_assoc]
  have sl:G9 (.ref (H.length+rs.length)) (uQ ((w:Int)*(n:Int))) (uQ ((w:Int)*(n:Int)+(n:Int))) Γ=.ok (.ref Γ.length) (Γ++[.lst e]):=by simp[G9,Ep,P,f]
  have f1:freeze Γ (.ok (.ref Γ.length) (Γ++[.lst e]))=.ok (.fl e) Γ:=Bk (Fj λi c=>by have c:=zU.mp c;rw[s];exact decide_eq_true (by lia))
  have U:a.map D.int=(zX n).map λi=>D.int (Ab a i):=by
   refine qS (by simp[J]) λi Q X=>?_
   have c:i<a.length:=by simpa using Q
   simp[Hl c]
  have z2:Dl (Hi [.fl e,L]) (Bp 2 (Al (gV 0) (Al (gV 1) Bs))) Ar Uv [uZ,uZ] e.length 0 Γ=.ok ((pgW rs n w a).map tupI) Γ:=by
   rw[Wt (λj=>Pr J6 (N Γ) j) (λy I=>?_) (by simp[Hx,e,J])]
   .congr 1
    rw[U,Hx,List.zip_map',q8,jz];unfold pgW;rw[q8]
    have:((λd=>match d with |D.tup [D.ref i,D.int l]=>uQ (tupI (pgR (rs.getD (i-H.length) []) l))|_=>uZ)∘((λq:D×D=>D.tup [q.1,q.2]) ∘ λi=>(D.ref (H.length+(w*n+i)),D.int (Ab a i))))=λi=>uQ ((tupI ∘ λi=>pgR (rs.getD (w*n+i) []) (Ab a i)) i):=by funext i;simp
    rw[this];exact congrFun xJ _
   rw[U,Hx,List.zip_map',q8]at I;obtain⟨i,c,rfl⟩:=qY.mp I;have c:=zU.mp c;refine⟨[zR (H.length+(w*n+i)),zI (Ab a i)],by simp,.inr ⟨rfl,tupI (pgR (rs.getD (w*n+i) []) (Ab a i)),?_,by simp⟩⟩;unfold Uv;simp[ZPZ (M i c) (E (rs.getD (w*n+i) []) (by rw[zW,zJ (by lia)];exact qV _)) (Ab a i)]
  have Z:freeze Γ (.ok (.ref Γ.length) (Γ++[.lst ((pgW rs n w a).map tupI)]))=.ok (.fl ((pgW rs n w a).map tupI)) Γ:=Bk Eh;have l2:((pgW rs n w a).map tupI).length<=1000000:=by rw[zj,F];lia
  have Y:=ZCP (G:=Γ) (pgW rs n w a) O;have f3:freeze Γ (.ok (.ref Γ.length) (Γ++[.lst (((pgW rs n w a).map λr=>Ab r 5).map D.int)]))=.ok (.fl (((pgW rs n w a).map λr=>Ab r 5).map D.int)) Γ:=Bk Dc;have l3:(((pgW rs n w a).map λr=>Ab r 5).map D.int).length<=1000000:=by rw[zj,zj,F];lia
  have C:(acc.map pgT).length<1000000:=by rw[zj];lia
  have A:∀S:DSt,Bh 2 [] S=[uZ,uZ]:=λ_=>rfl
  have p:∀S:DSt,Bh 1 [] S=[uZ]:=λ_=>rfl
  have ep:pgT (pgW rs n w a)=.tup ((pgW rs n w a).map tupI):=rfl;have v:=K (acc.map pgT++[.tup ((pgW rs n w a).map tupI)]);have hb:Mz [s0,s1,s2,zI (n:Int),zR (H.length+rs.length),s5,s6,s7,s8,s9,zR (hP H rs).length,uQ L,zI ((w:Int)*(n:Int)),s13] Γ=
    .nx [s0,s1,s2,zI (n:Int),zR (H.length+rs.length),s5,s6,s7,s8,s9,zR (hP H rs).length,zF (((pgW rs n w a).map λr=>Ab r 5).map D.int),zI ((w:Int)*(n:Int)),zF ((pgW rs n w a).map tupI)] (hP H rs++[.lst (acc.map pgT++[.tup ((pgW rs n w a).map tupI)])]):=by
   clear W M P f b K O B
   clear_value e
   generalize((pgW rs n w a).map λr=>Ab r 5).map D.int=LY at*;generalize(pgW rs n w a).map tupI=PG at*;generalize acc.map pgT=AA at*;generalize(hP H rs).length=ap at*;generalize H.length+rs.length=ar at*;generalize(w:Int)*(n:Int)=wn at*;unfold Mz;simp[-O9,sl,f1,V6 J6 (N Γ),A,z2,Ah,l2,Z,p,Y,l3,f3,gp,C,v]
  rw[jA,zK,Eg,<-b];simp only[Ef];rw[show acc++pgW rs n w a::Ef rs n m (w+1) ((pgW rs n w a).map λr=>Ab r 5)=acc++[pgW rs n w a]++Ef rs n m (w+1) ((pgW rs n w a).map λr=>Ab r 5) by simp,<-W];rw[zO,zK,qK,ep];simp[hb]
theorem ZDP(b:1<=n):Gk ((T:Int)*(n:Int)) (n:Int)=T:=by
 unfold Gk;by_cases a:T=0
 .subst a;simp
 rw[if_pos (Int.mul_pos (by lia) (by lia))];have c:((T:Int)*(n:Int)-1)/(n:Int)=(T:Int)-1:=by
  have e:(T:Int)*(n:Int)-1=((T:Int)-1)*(n:Int)+((n:Int)-1):=by rw[xK];lia
  rw[e,Int.add_comm,Int.add_mul_ediv_right _ _ (by lia),Int.ediv_eq_zero_of_lt (by lia) (by lia)];lia
 lia
section
variable{G:DH}{h:RH}{T:Nat}{as:List Arc}{ss:List Spot}
theorem ZOG(l:1<=h.ps.length)(E:h.ps.length<=100)(v:T<=100)(hs:∀s∈ss,s.1<T/\s.2.1<h.ps.length/\s.2.2<6){f:List Int}(hf:f.length=ss.length)(A:lv.length=h.ps.length):
  O5 [.ref G.length,stE lv cm,.fl (f.map D.int)] (hD G h T as ss)=.ok (.ref (hD G h T as ss).length) (hD G h T as ss++[.lst ((Ef (Bu h.ps.length ss f (zQ (T*h.ps.length) zero6)) h.ps.length T 0 lv).map pgT)]):=by
 have L:∀r∈zQ (T*h.ps.length) zero6,r.length=6:=λr hr=>by rw[(List.mem_replicate.mp hr).2];rfl
 obtain⟨rl,M⟩:=Wz ss f (zQ (T*h.ps.length) zero6) L;rw[qO]at rl;obtain⟨y,I,F,B,u,m⟩:=ZDl E v hs hf ss.length 0 (zQ (T*h.ps.length) zero6) uZ uZ uZ uZ uZ (by lia) (qO ..) L;rw[List.drop_zero,List.drop_zero]at m;have o:(hP (hD G h T as ss) (zQ (T*h.ps.length) zero6))[G.length+2]?=uQ (.lst (ss.map Cu)):=by rw[Ow (by rw[hDl];lia)];exact hD2
 have p:(hP (hD G h T as ss) (zQ (T*h.ps.length) zero6))[G.length]?=uQ (.ins "Draft" (dfl h T G.length)):=by rw[Ow (by rw[hDl];lia)];exact hD0
 have g:Cz "Draft" "spots" (.ref G.length) (hP (hD G h T as ss) (zQ (T*h.ps.length) zero6))=.ok (.ref (G.length+2)) (hP (hD G h T as ss) (zQ (T*h.ps.length) zero6)):=Dm p rfl;have n:=V6 (e:=.fl (f.map D.int)) (Nj o) (J6);rw[zj]at n;obtain⟨t,x,C,a⟩:=ZEd E l v rl M T 0 [] (tupI lv) lv uZ uZ (by lia) A (λΓ=>rfl) (by simp;lia);rw[qC,<-List.range_eq_range']at a
 have k:Bc (gV 12) Mz (Lq (h.ps.length:Int) T) [zR G.length,uQ (stE lv cm),zF (f.map D.int),zI (h.ps.length:Int),zR ((hD G h T as ss).length+T*h.ps.length),y,I,F,B,u,zR (hP (hD G h T as ss) (Bu h.ps.length ss f (zQ (T*h.ps.length) zero6))).length,uQ (tupI lv),uZ,uZ] (hP (hD G h T as ss) (Bu h.ps.length ss f (zQ (T*h.ps.length) zero6))++[.lst []])=.nx [zR G.length,uQ (stE lv cm),zF (f.map D.int),zI (h.ps.length:Int),zR ((hD G h T as ss).length+T*h.ps.length),y,I,F,B,u,zR (hP (hD G h T as ss) (Bu h.ps.length ss f (zQ (T*h.ps.length) zero6))).length,t,x,C] (hP (hD G h T as ss) (Bu h.ps.length ss f (zQ (T*h.ps.length) zero6))++[.lst ((Ef (Bu h.ps.length ss f (zQ (T*h.ps.length) zero6)) h.ps.length T 0 lv).map pgT)]):=by
  rw[rl]at a;exact a
 have h1:∀G,Ae h.enc (.int 1) G=.ok (.tup (h.ps.map RP.enc)) G:=λG=>G8
 have hl:∀G,Bb [.tup (h.ps.map RP.enc)] G=.ok (.int (h.ps.length:Int)) G:=λG=>by simp
 have P:∀G,Ax (.int (T:Int)) (.int (h.ps.length:Int)) G=.ok (.int ((T:Int)*(h.ps.length:Int))) G:=λG=>Dn (by lia) (by lia)
 have b:(T:Int)*(h.ps.length:Int)=((T*h.ps.length:Nat):Int):=(qI ..).symm;have hTn:=xC v E;have z:Bo (gV 0) Ar M5 [uZ] (Ay 0 (T*h.ps.length)) (hD G h T as ss)=.ok ((zX (T*h.ps.length)).map λi=>D.ref ((hD G h T as ss).length+i)) (hD G h T as ss++zQ (T*h.ps.length) (Ho zero6)):=ZD6 (T*h.ps.length) 0 (hD G h T as ss);have d:hD G h T as ss++zQ (T*h.ps.length) (Ho zero6)++[.lst ((zX (T*h.ps.length)).map λi=>D.ref ((hD G h T as ss).length+i))]=hP (hD G h T as ss) (zQ (T*h.ps.length) zero6):=by
  unfold hP;rw[List.map_replicate,qO,qX]
 have q:((zX (T*h.ps.length)).map λi=>D.ref ((hD G h T as ss).length+i)).length<=1000000:=by simp;lia
 have i1:inR ((T*h.ps.length:Nat):Int):=Ge (by lia) (by lia);have w:∀S:DSt,Bh 1 [] S=[uZ]:=λ_=>rfl
 have eH:=fH (G:=G) (h:=h) (T:=T) (as:=as) (ss:=ss);have eT:=fT (G:=G) (h:=h) (T:=T) (as:=as) (ss:=ss);have K:sAs (dFn Bb (Aa (dOp Ae (Av "Draft" (dV 0) "house") (dC (.int 1))) Ac)) (gV 3) [zR G.length,uQ (stE lv cm),zF (f.map D.int),uZ,uZ,uZ,uZ,uZ,uZ,uZ,uZ,uZ,uZ,uZ] (hD G h T as ss)=.nx [zR G.length,uQ (stE lv cm),zF (f.map D.int),zI (h.ps.length:Int),uZ,uZ,uZ,uZ,uZ,uZ,uZ,uZ,uZ,uZ] (hD G h T as ss):=by generalize hD G h T as ss=H at*;generalize h.ps.map RP.enc=Y at*;generalize h.enc=he at*;simp[eH,h1,hl]
 have U:sAs (Bv (Bg rng1 (Aa (dOp Ax (Av "Draft" (dV 0) "turns") (dV 3)) Ac)) 1 [] (gV 0) Ar M5) (gV 4) [zR G.length,uQ (stE lv cm),zF (f.map D.int),zI (h.ps.length:Int),uZ,uZ,uZ,uZ,uZ,uZ,uZ,uZ,uZ,uZ] (hD G h T as ss)=.nx [zR G.length,uQ (stE lv cm),zF (f.map D.int),zI (h.ps.length:Int),zR ((hD G h T as ss).length+T*h.ps.length),uZ,uZ,uZ,uZ,uZ,uZ,uZ,uZ,uZ] (hP (hD G h T as ss) (zQ (T*h.ps.length) zero6)):=by
  rw[b]at P;rw[<-d];clear m a k o p g n d;generalize(zX (T*h.ps.length)).map (λi=>D.ref ((hD G h T as ss).length+i))=RR at*;generalize hD G h T as ss=H at*;generalize T*h.ps.length=N at*;simp[eT,P,i1,w,z,Ah,q]
 have X:Cd (Bg (Hd 2) (Aa (Av "Draft" (dV 0) "spots") (Aa (dV 2) Ac))) (Bp 2 (Al (gV 5) (Al (gV 6) Bs))) Ov [zR G.length,uQ (stE lv cm),zF (f.map D.int),zI (h.ps.length:Int),zR ((hD G h T as ss).length+T*h.ps.length),uZ,uZ,uZ,uZ,uZ,uZ,uZ,uZ,uZ] (hP (hD G h T as ss) (zQ (T*h.ps.length) zero6))=.nx [zR G.length,uQ (stE lv cm),zF (f.map D.int),zI (h.ps.length:Int),zR ((hD G h T as ss).length+T*h.ps.length),y,I,F,B,u,uZ,uZ,uZ,uZ] (hP (hD G h T as ss) (Bu h.ps.length ss f (zQ (T*h.ps.length) zero6))):=by
  rw[<-m];clear m a k o p U K z d rl M;generalize hP (hD G h T as ss) (zQ (T*h.ps.length) zero6)=H1 at*;generalize(hD G h T as ss).length+T*h.ps.length=a1 at*;generalize f.map D.int=FF at*;simp[g,n]
 have W:tidy (hP (hD G h T as ss) (Bu h.ps.length ss f (zQ (T*h.ps.length) zero6))) (.ok (.ref (hP (hD G h T as ss) (Bu h.ps.length ss f (zQ (T*h.ps.length) zero6))).length) (hP (hD G h T as ss) (Bu h.ps.length ss f (zQ (T*h.ps.length) zero6))++[.lst []]))=_:=Dp rfl;have O:(hP (hD G h T as ss) (Bu h.ps.length ss f (zQ (T*h.ps.length) zero6))++[.lst []])[(hD G h T as ss).length+T*h.ps.length]?=uQ (.lst ((zX (T*h.ps.length)).map λi=>D.ref ((hD G h T as ss).length+i))):=by
  rw[z9 (by rw[N5,rl];lia)];have:=Yr (H:=hD G h T as ss) (rs:=Bu h.ps.length ss f (zQ (T*h.ps.length) zero6));rw[rl]at this;exact this
 have J:Bb [.ref ((hD G h T as ss).length+T*h.ps.length)] (hP (hD G h T as ss) (Bu h.ps.length ss f (zQ (T*h.ps.length) zero6))++[.lst []])=.ok (.int ((T:Int)*(h.ps.length:Int))) (hP (hD G h T as ss) (Bu h.ps.length ss f (zQ (T*h.ps.length) zero6))++[.lst []]):=by rw[b];simp[O]
 have Q:=ZC4 (G:=hP (hD G h T as ss) (Bu h.ps.length ss f (zQ (T*h.ps.length) zero6))++[.lst []]) (j:=(T:Int)*(h.ps.length:Int)) (c:=(h.ps.length:Int)) ⟨by lia,by lia,by rw[b];lia,by rw[b];lia⟩;rw[ZDP l]at Q;have td:tidy (hD G h T as ss) (.ok (.ref (hP (hD G h T as ss) (Bu h.ps.length ss f (zQ (T*h.ps.length) zero6))).length) (hP (hD G h T as ss) (Bu h.ps.length ss f (zQ (T*h.ps.length) zero6))++[.lst ((Ef (Bu h.ps.length ss f (zQ (T*h.ps.length) zero6)) h.ps.length T 0 lv).map pgT)]))=.ok (.ref (hD G h T as ss).length) (hD G h T as ss++[.lst ((Ef (Bu h.ps.length ss f (zQ (T*h.ps.length) zero6)) h.ps.length T 0 lv).map pgT)]):=by
  rw[N5,Nat.add_assoc];unfold hP;rw[qX];refine Xr _ ?_ Oo;rw[zD (by simp)];simp
 have Z:∀H:DH,Ae (stE lv cm) (.int 0) H=.ok (tupI lv) H:=λH=>by unfold stE;simp
 clear m a o p g n z d O;unfold O5 ZDR;rw[Aw];simp only[S6,zK,qK,j9,qC,zQ,K,U,X,Qv];generalize hP (hD G h T as ss) (Bu h.ps.length ss f (zQ (T*h.ps.length) zero6))=H3 at*;generalize(Ef (Bu h.ps.length ss f (zQ (T*h.ps.length) zero6)) h.ps.length T 0 lv).map pgT=PS at*;generalize hD G h T as ss=H at*;generalize stE lv cm=SE at*
 generalize tupI lv=LV at*;generalize f.map D.int=FF at*;simp[Ah,W,Z,J,Q,k,td]
end
noncomputable def prW(p:List Int)(n w:Nat):List Int:=(p.drop (w*n)).take n
def Ff(p:List Int)(n T:Nat):List (List Int):=(zX T).map λw=>prW p n w
theorem ZHk{left:List Int}(g:GV h lv cm fl pays left)(ok:NetOk (fl.length*h.ps.length) (neA h pays.length left 0 pays) (Cq lv cm 0 fl))(K:∀s∈neS h 0 pays.length,s.1<pays.length/\s.2.1<h.ps.length/\s.2.2<6)(G:DH)(hT:DO.tab "Sending" "send_by"∈G):
  ∃(e:Int)(f p:List Int),BestOk (fl.length*h.ps.length) (neA h pays.length left 0 pays) (Cq lv cm 0 fl) e f p/\
   J7 [h.enc,stE lv cm,.fl (fl.map tupI),.fl (pyD pays),.tup (left.map D.int)] G=.ok (.tup [.int e,.fl ((Ef (Bu h.ps.length (neS h 0 pays.length) f (zQ (pays.length*h.ps.length) zero6)) h.ps.length pays.length 0 lv).map pgT),.fl ((Ff p h.ps.length pays.length).map tupI)]) G:=by
 have o:=g.n1;have hn5:=g.n5;have M:=g.t20;have u:=g.pn;have hnt:=g.nt;have h3:3*h.ps.length*pays.length<900:=by rw[u,Nat.mul_assoc];lia
 have A:=ZMK g.hg (by lia) (by lia) g.lf.1 (λy hy=>(g.pr y hy).1) h3 G;obtain⟨H,n⟩:∃H,H=hD G h pays.length (neA h pays.length left 0 pays) (neS h 0 pays.length):=⟨_,rfl⟩;have cs:=ZIV g.lv.1 g.cm.1 (λr hr=>(g.cm.2 r hr).1) (λf hf=>(g.fr f hf).1) (by lia) H;have v:DO.tab "Sending" "send_by"∈H:=n▸j6 _ hT;have W:H[G.length+1]?=uQ (.lst ((neA h pays.length left 0 pays).map encA)):=n▸hD1
 obtain⟨e,f,p,z,cb⟩:=ZMW ok H W v;refine⟨e,f,p,z,?_⟩;have N:=V1 (h:=h) (T:=pays.length) (left:=left) pays 0;have cp:=ZOG (G:=G) (as:=neA h pays.length left 0 pays) o (by lia) (by lia) K (by rw[z.lf,N.2]) (cm:=cm) g.lv.1;rw[<-n]at cp A;have fp:freeze H (.ok (.ref H.length) (H++[.lst ((Ef (Bu h.ps.length (neS h 0 pays.length) f (zQ (pays.length*h.ps.length) zero6)) h.ps.length pays.length 0 lv).map pgT)]))=.ok (.fl ((Ef (Bu h.ps.length (neS h 0 pays.length) f (zQ (pays.length*h.ps.length) zero6)) h.ps.length pays.length 0 lv).map pgT)) H:=Bk Oo
 have J:H[G.length]?=uQ (.ins "Draft" (dfl h pays.length G.length)):=n▸hD0;have fa:Cz "Draft" "arcs" (.ref G.length) H=.ok (.ref (G.length+1)) H:=Dm J rfl;have X:=λt S=>T7 (m:="pages_by") (F:=O5) (ta:=t) (S:=S) J rfl
 have mk:∀(t:List D)(d:DH),Rq Mm "Draft" [h.enc,.fl (pyD pays),.tup (left.map D.int)] G=.ok (.ref G.length) H:=λ_ _=>by simp[Rq,A]
 have fb:freeze H (.ok (.tup [.int e,.fl (f.map D.int),.fl (p.map D.int)]) H)=.ok (.tup [.int e,.fl (f.map D.int),.fl (p.map D.int)]) H:=Kg (by show(uJ&&(bels _ _&&(bels _ _&&uJ)))=uJ;rw[Dc,Dc];rfl);have P:((Cq lv cm 0 fl).map D.int).length=fl.length*h.ps.length:=by rw[zj];exact ok.sl
 have Y:=z.lp;have I:((p.map D.int).length:Int)=(fl.length:Int)*(h.ps.length:Int):=by rw[zj,Y];exact qI ..
 have h1:∀G,Ae h.enc (.int 1) G=.ok (.tup (h.ps.map RP.enc)) G:=λG=>G8
 have hl:∀G,Bb [.tup (h.ps.map RP.enc)] G=.ok (.int (h.ps.length:Int)) G:=λG=>by simp
 have U:=ZC4 (G:=H) (j:=(fl.length:Int)*(h.ps.length:Int)) (c:=(h.ps.length:Int)) ⟨by lia,by lia,by rw[<-qI];lia,by rw[<-qI];have:=xy fl.length h.ps.length;lia⟩;rw[ZDP o]at U;have O:∀l:List Nat,(∀w∈l,w<fl.length)->Bo (gV 0) Ar Mf [uZ,zF (p.map D.int),zI (h.ps.length:Int)] (l.map λ(k:Nat)=>D.int ((k:Int)*(h.ps.length:Int))) H=.ok ((l.map λw=>prW p h.ps.length w).map tupI) H:=λl=>by
  induction l with
  |nil=>exact λ_=>rfl
  | cons w l ih=>
   intro q;have hw:=q w (by simp);have B:w*h.ps.length+h.ps.length<=p.length:=by rw[Y,<-Nat.succ_mul];exact qL _ (by lia)
   have ec:cutD (p.map D.int) (uQ ((w:Int)*(h.ps.length:Int))) (uQ ((w:Int)*(h.ps.length:Int)+(h.ps.length:Int)))=(prW p h.ps.length w).map D.int:=by
    rw[(qI ..).symm,(jk ..).symm,ZE9 (by lia) (by simpa using B),qA,<-List.map_drop,<-List.map_take]
    rfl
   have L:G9 (.fl (p.map D.int)) (uQ ((w:Int)*(h.ps.length:Int))) (uQ ((w:Int)*(h.ps.length:Int)+(h.ps.length:Int))) H=.ok (.ref H.length) (H++[.lst ((prW p h.ps.length w).map D.int)]):=by rw[O9,ec]
   have f1:freeze H (.ok (.ref H.length) (H++[.lst ((prW p h.ps.length w).map D.int)]))=.ok (.fl ((prW p h.ps.length w).map D.int)) H:=Bk Dc;have Q:Mf [zI ((w:Int)*(h.ps.length:Int)),zF (p.map D.int),zI (h.ps.length:Int)] H=.ok (tupI (prW p h.ps.length w)) H:=by unfold Mf tupI;generalize(prW p h.ps.length w).map D.int=Z at*;generalize p.map D.int=PP at*;simp[-O9,L,f1]
   rw[zK,Gz];simp[Q,ih λx hx=>q x (zV _ hx)]
 have C:Bo (gV 0) Ar Mf [uZ,zF (p.map D.int),zI (h.ps.length:Int)] (Lq (h.ps.length:Int) fl.length) H=.ok ((Ff p h.ps.length pays.length).map tupI) H:=by rw[u];exact O (zX fl.length) λw hw=>zU.mp hw
 have fr:freeze H (.ok (.ref H.length) (H++[.lst ((Ff p h.ps.length pays.length).map tupI)]))=.ok (.fl ((Ff p h.ps.length pays.length).map tupI)) H:=Bk Eh;have lr:((Ff p h.ps.length pays.length).map tupI).length<=1000000:=by simp[Ff];lia
 have E:∀a b c d e f g h i j k l:Option D,Bh 1 [9,10] [a,b,c,d,e,f,g,h,i,j,k,l]=[uZ,j,k]:=λ_ _ _ _ _ _ _ _ _ _ _ _=>rfl
 have td:tidy G (.ok (.tup [.int e,.fl ((Ef (Bu h.ps.length (neS h 0 pays.length) f (zQ (pays.length*h.ps.length) zero6)) h.ps.length pays.length 0 lv).map pgT),.fl ((Ff p h.ps.length pays.length).map tupI)]) H)=.ok (.tup [.int e,.fl ((Ef (Bu h.ps.length (neS h 0 pays.length) f (zQ (pays.length*h.ps.length) zero6)) h.ps.length pays.length 0 lv).map pgT),.fl ((Ff p h.ps.length pays.length).map tupI)]) G:=by rw[n];unfold hD;exact Jo (by show(uJ&&(bels _ _&&(bels _ _&&uJ)))=uJ;rw[Oo,Eh];rfl)
 rw[qI ..]at cb;clear n A O W v J z N;generalize(Ef (Bu h.ps.length (neS h 0 pays.length) f (zQ (pays.length*h.ps.length) zero6)) h.ps.length pays.length 0 lv).map pgT=PG at*;generalize(Ff p h.ps.length pays.length).map tupI=PR at*;generalize(Cq lv cm 0 fl).map D.int=SU at*;generalize f.map D.int=FF at*;generalize p.map D.int=PP at*;generalize pyD pays=PY at*;generalize left.map D.int=LF at*
 generalize fl.map tupI=FL at*;generalize stE lv cm=SE at*;generalize h.ps.map RP.enc=YY at*;generalize h.enc=Q at*;unfold J7 ZCd;rw[Aw];simp[mk [] [],cs,P,fa,cb,fb,h1,hl,I,U,E,C,Ah,lr,fr,X,cp,fp,td]
theorem ZLV(d:ns.Nodup){x:Str}(h:ns[j]?=uQ x):ns.idxOf x=j:=by
 obtain⟨b,e⟩:=zY.mp h;have a:=List.idxOf_lt_length_iff.mpr (q0 h);have c:=List.getElem_idxOf a;rcases Nat.lt_trichotomy (ns.idxOf x) j with q|q|q
 .exact absurd (c.trans e.symm) (j5.mp d _ _ a b q)
 .exact q
 exact absurd (e.trans c.symm) (j5.mp d _ _ b a q)
theorem ZB0(g:HG h){p:RP}(hp:h.ps[k]?=uQ p){d:Nat}(hd:dnN h p=uQ d):k<d/\d<h.ps.length:=by
 obtain⟨j,c,e⟩:=(g.pg k p hp).dn;unfold dnN at hd;split at hd
 .cases hd
 rename_i hs;have a:j<(nms h).length:=by
  have b:=(zY.mp e).1;rw[zH]at b;by_cases q:j<(nms h).length
  .exact q
  .exfalso
   have f:j=(h.ps.map RP.nm).length:=by have:(nms h).length=(h.ps.map RP.nm).length:=rfl;simp at b;rw[this]at q;simp at q;simp;lia
   rw[f,zD (zx _),Nat.sub_self]at e;exact hs (Option.some.inj e).symm
 have q:=ZLV (ns:=nms h) g.ng.nd ((z9 a).symm.trans e);rw[<-(Option.some.inj hd),q];refine⟨c,?_⟩;simpa[nms]using a
theorem Sh{d:Option Nat}(hd:∀j,d=uQ j->j<n):Bq n T w d<=T*n:=by
 unfold Bq;cases d with
 |none=>exact zx _
 |some j=>
  dsimp only;split
  .exact zx _
  have:=hd j rfl;have a:w*n+j<(w+1)*n:=by rw[xz,xD];lia
  exact jC (zq a (qL _ (by lia)))
theorem Jq(hw:w<T)(hk:k<n):w*n+k<T*n:=by
 have a:w*n+k<(w+1)*n:=by rw[xz,xD];lia
 exact zq a (qL _ (by lia))
theorem Sd{w':Nat}(hw:w<T)(hk:k<n){d:Option Nat}(h:∀j,d=uQ j->w<w'∨w<=w'/\k<j):w*n+k<Bq n T w' d:=by
 have a:=Jq hw hk;unfold Bq;cases d with
 |none=>exact a
 | some j=>
  dsimp only;split
  .exact a
  rcases h j rfl with z|⟨z,e⟩
  .have c:w*n+k<(w+1)*n:=by rw[xz,xD];lia
   have b:(w+1)*n<=w'*n:=qL _ (by lia);lia
  .have b:w*n<=w'*n:=qL _ z;lia
section
variable{h:RH}{T w k:Nat}{p:RP}
theorem ZEJ(g:HG h)(hw:w<T)(hp:h.ps[k]?=uQ p){mo:Option Int}{ga:Int}(d:∀b,mo=uQ b->0<=b)(c: -1000<=ga/\ga<=1000):ArcOk (T*h.ps.length) (rvA h T w k p mo ga):=by have hk:=(zY.mp hp).1;exact⟨Jq hw hk,Sd hw hk (λj a=>.inr ⟨by lia,(ZB0 g hp a).1⟩),Sh (λj a=>(ZB0 g hp a).2),d,c⟩
theorem ZIM(g:HG h)(hw:w<T)(hp:h.ps[k]?=uQ p){left:Int}(y:0<=pay/\pay<=900)(B:0<=left/\left<=600):∀x∈plA h T w k pay left p,ArcOk (T*h.ps.length) x:=by
 have hk:=(zY.mp hp).1;have i:=ZEJ g hw hp (mo:=uZ) (ga:=0) (λb z=>by cases z) (by lia);have e:=(g.pg k p hp).kd;intro x c;unfold plA at c;cases f:p.kd with
 |town a b=>
  rw[f]at c e;have e:0<=a:=e;rcases z0.mp c with rfl|c
  .exact⟨Jq hw hk,Sd (d:=uZ) (w':=w) hw hk (λj z=>by cases z),Sh (d:=uZ) (w:=w) (λj z=>by cases z),(λb z=>by cases z;exact e),by dsimp only;lia⟩
  rw[xQ.mp c];exact i
 |mill a=>
  rw[f]at c e;have e:0<=a:=e;rcases z0.mp c with rfl|c
  .exact ZEJ g hw hp (λb z=>by cases z;exact e) (by lia)
  rw[xQ.mp c];exact i
 | basin b r q=>
  rw[f]at c e;obtain⟨s,u⟩:=e;dsimp only at c;rcases qZ.mp c with c|c
  .rcases z0.mp c with rfl|c
   .exact i
   cases q with
   |none=>cases c
   |some z=>
    obtain⟨t,d,m⟩:=z;obtain⟨n,v,l⟩:=u t d m rfl;have o:(nms h).idxOf t<h.ps.length:=by have:=List.idxOf_lt_length_iff.mpr n;simpa[nms]using this
    rw[xQ.mp (c)];exact⟨Jq hw hk,Sd (d:=uQ ((nms h).idxOf t)) hw hk (λj z=>.inl (by lia)),Sh (d:=uQ ((nms h).idxOf t)) (λj z=>by cases z;exact o),(λb z=>by cases z;exact l),by dsimp only;lia⟩
  rw[xQ.mp c]
  exact⟨Jq hw hk,Sd (d:=uQ k) hw hk (λj z=>.inl (by lia)),Sh (d:=uQ k) (λj z=>by cases z;exact hk),(λA z=>by cases z;exact s),by dsimp only;split <;> lia⟩
theorem ZOd{left:Int}:rvA h T w k p uZ 0∈plA h T w k pay left p:=by
 unfold plA
 cases p.kd<;>simp
theorem Ui:∀s∈plS w k p,s.1=w/\s.2.1=k/\s.2.2<6:=by
 intro s hs;unfold plS at hs;cases c:p.kd with
 |town a b=>rw[c]at hs;simp at hs;rcases hs with rfl|rfl<;>simp
 |mill a=>rw[c]at hs;simp at hs;subst hs;simp
 |basin b r q=>
  rw[c]at hs;cases q with
  |none=>simp[pmS]at hs;rcases hs with rfl|rfl<;>simp
  |some z=>simp[pmS]at hs;rcases hs with rfl|rfl|rfl<;>simp
end
theorem ZCc{h:RH}{T w:Nat}{y left:List Int}:∀(ps:List RP)(f j:Nat)(p:RP),ps[j]?=uQ p->∃a b:List Arc,∃c d:List Spot,trA h T w y left f ps=a++plA h T w (f+j) (Ab y (f+j)) (Ab left (f+j)) p++b/\trS w f ps=c++plS w (f+j) p++d/\a.length=c.length/\(∀s∈c,s.1=w/\f<=s.2.1/\s.2.1<f+j)/\∀s∈d,s.1=w/\f+j<s.2.1/\s.2.1<f+ps.length
 |[],_,_,_,m=>by simp at m
 | p0::ps,f,0,p,m=>by
  have e:p0=p:=by simpa using m
  subst e;refine⟨[],trA h T w y left (f+1) ps,[],trS w (f+1) ps,by simp[trA],by simp[trS],rfl,by simp,λs hs=>?_⟩;have all:∀(ps:List RP)(k:Nat),∀s∈trS w k ps,s.1=w/\k<=s.2.1/\s.2.1<k+ps.length:=λps=>by
   induction ps with
   |nil=>exact λk s hs=>by simp[trS]at hs
   |cons q ps v=>
    intro k s hs;rcases qZ.mp hs with hs|hs
    .obtain⟨g,i,_⟩:=Ui s hs;exact⟨g,by lia,by simp;lia⟩
    obtain⟨g,i,n⟩:=v (k+1) s hs;exact⟨g,by lia,by simp;lia⟩
  obtain⟨g,i,n⟩:=all ps (f+1) s hs;exact⟨g,by lia,by simp;lia⟩
 | p0::ps,f,j+1,p,m=>by
  obtain⟨a,b,c,d,g,i,n,r,t⟩:=ZCc (h:=h) (T:=T) (w:=w) (y:=y) (left:=left) ps (f+1) j p (by simpa using m);have u:f+1+j=f+(j+1):=by lia
  rw[u]at g i r t;refine⟨plA h T w f (Ab y f) (Ab left f) p0++a,b,plS w f p0++c,d,by simp[trA,g],by simp[trS,i],by rw[zH,zH,n,Ye.2],λs hs=>?_,λs hs=>?_⟩
  .rcases qZ.mp hs with hs|hs
   .obtain⟨l,o,_⟩:=Ui s hs;exact⟨l,by lia,by lia⟩
   obtain⟨l,o,x⟩:=r s hs;exact⟨l,by lia,by lia⟩
  obtain⟨l,o,x⟩:=t s hs;exact⟨l,o,by simp;lia⟩
theorem ZAc:∀(ps:List RP)(k:Nat),∀s∈trS w k ps,s.1=w/\s.2.1<k+ps.length/\s.2.2<6
 |[],k,s,hs=>by simp[trS]at hs
 |p::ps,k,s,hs=>by
  rcases qZ.mp hs with hs|hs
  .obtain⟨b,c,a⟩:=Ui s hs;exact⟨b,by simp;lia,a⟩
  obtain⟨b,c,a⟩:=ZAc ps (k+1) s hs;exact⟨b,by simp;lia,a⟩
theorem Ul:∀(m w:Nat),∀s∈neS h w m,w<=s.1/\s.1<w+m/\s.2.1<h.ps.length/\s.2.2<6
 |0,w,s,hs=>by simp[neS]at hs
 |m+1,w,s,hs=>by
  rcases qZ.mp hs with hs|hs
  .obtain⟨c,b,a⟩:=ZAc h.ps 0 s hs;exact⟨by lia,by lia,by lia,a⟩
  obtain⟨c,b,a⟩:=Ul m (w+1) s hs;exact⟨by lia,by lia,a⟩
structure Seg (h:RH) (T:Nat) (left:List Int) (w0:Nat) (ys:List (List Int)) (w k:Nat) (y:List Int) (p:RP) (a b:List Arc) (c d:List Spot):Prop where
 ea:neA h T left w0 ys=a++plA h T w k (Ab y k) (Ab left k) p++b
 es:neS h w0 ys.length=c++plS w k p++d
 le:a.length=c.length
 hc:∀s∈c,s.2.1<h.ps.length/\(s.1=w->s.2.1≠k)
 hd:∀s∈d,s.2.1<h.ps.length/\(s.1=w->s.2.1≠k)
theorem ZBS{T:Nat}{left:List Int}{p:RP}(hp:h.ps[k]?=uQ p):∀(ys:List (List Int))(f j:Nat)(y:List Int),ys[j]?=uQ y->∃a b c d,Seg h T left f ys (f+j) k y p a b c d
 |[],_,_,_,i=>by simp at i
 |m::ys,f,0,y,i=>by
  have e:m=y:=by simpa using i
  subst e;obtain⟨a,b,c,d,t,n,u,o,r⟩:=ZCc h.ps 0 k p hp;rw[jN]at t n o r;have hk:=(zY.mp hp).1;refine⟨a,b++neA h T left (f+1) ys,c,d++neS h (f+1) ys.length,?_,?_,u,λs hs=>?_,λs hs=>?_⟩
  .rw[neA,t];simp
  .rw[zN,neS,n];simp
  .obtain⟨_,_,q⟩:=o s hs;exact⟨by lia,λ_=>by lia⟩
  rcases qZ.mp hs with hs|hs
  .obtain⟨_,q,l⟩:=r s hs;exact⟨by lia,λ_=>by lia⟩
  .obtain⟨q,_,l,_⟩:=Ul _ _ s hs;exact⟨l,λ_=>by lia⟩
 |m::ys,f,j+1,y,i=>by
  obtain⟨a,b,c,d,g⟩:=ZBS hp (T:=T) (left:=left) ys (f+1) j y (by simpa using i);have v:f+1+j=f+(j+1):=by lia
  rw[v]at g;refine⟨trA h T f m left 0 h.ps++a,b,trS f 0 h.ps++c,d,?_,?_,?_,λs hs=>?_,g.hd⟩
  .rw[neA,g.ea];simp
  .rw[zN,neS,g.es];simp
  .rw[zH,zH,(Tf ..).2,g.le]
  rcases qZ.mp hs with hs|hs
  .obtain⟨w,l,_⟩:=ZAc _ _ s hs;exact⟨by lia,λ_=>by lia⟩
  exact g.hc s hs
theorem ZFs(g:HG h)(hw:w<T){y left:List Int}(b:∀k,0<=Ab y k/\Ab y k<=900)(c:∀k,0<=Ab left k/\Ab left k<=600):∀(ps:List RP)(k:Nat),(∀i p,ps[i]?=uQ p->h.ps[k+i]?=uQ p)->∀x∈trA h T w y left k ps,ArcOk (T*h.ps.length) x
 |[],k,_,x,a=>by simp[trA]at a
 |p::ps,k,e,x,a=>by
  rcases qZ.mp a with a|a
  .exact ZIM g hw (e 0 p rfl) (b k) (c k) x a
  exact ZFs g hw b c ps (k+1) (λi q d=>by rw[Nat.add_right_comm];exact e (i+1) q d) x a
theorem Lb{P:Int->Prop}(a:P 0){l:List Int}(h:∀x∈l,P x)(k:Nat):P (Ab l k):=by
 unfold Ab;rw[zW];cases e:l[k]? with
 |none=>exact a
 |some v=>exact h v (q0 e)
theorem ZF0(g:HG h){left:List Int}(c:∀k,0<=Ab left k/\Ab left k<=600):∀(ys:List (List Int))(w:Nat),w+ys.length<=T->(∀y∈ys,∀x∈y,0<=x/\x<=900)->∀x∈neA h T left w ys,ArcOk (T*h.ps.length) x
 |[],w,_,_,x,a=>by simp[neA]at a
 |y::ys,w,hw,b,x,a=>by
  rw[zN]at hw;rcases qZ.mp a with a|a
  .exact ZFs g (by lia) (Lb (by lia) (b y (by simp))) c h.ps 0 (λi p hp=>by rw[jN];exact hp) x a
  exact ZF0 g c ys (w+1) (by lia) (λz d=>b z (zV _ d)) x a
theorem ZDm(f:∀x∈lv,Bd x)(c:∀r∈cm,∀x∈r,Bd x):∀(xs:List Int)(k:Nat),(∀x∈xs,Be x)->∀v∈Dh lv cm w k xs,0<=v/\v<10^40
 |[],k,_,v,b=>by simp[Dh]at b
 | x::xs,k,d,v,b=>by
  rcases z0.mp b with rfl|b
  .have g:Bd 0:=⟨by decide,by decide⟩;have h:=d x (by simp);have i:=Lb g f k;have j:Bd (Ab (cm.getD k []) w):=Lb g (λz a=>by
    rw[zW]at a;cases e:cm[k]? with
    |none=>rw[e]at a;simp at a
    |some r=>rw[e]at a;exact c r (q0 e) z a) w
   unfold Be at h;unfold Bd at i j;unfold Gw
   split <;> split <;> lia
  exact ZDm f c xs (k+1) (λz a=>d z (zV _ a)) v b
theorem ZBF(d:∀x∈lv,Bd x)(b:∀r∈cm,∀x∈r,Bd x):∀(fs:List (List Int))(w:Nat),(∀f∈fs,f.length=n/\∀x∈f,Be x)->(Cq lv cm w fs).length=fs.length*n/\∀v∈Cq lv cm w fs,0<=v/\v<10^40
 |[],w,_=>⟨by simp[Cq],λv a=>by simp[Cq]at a⟩
 |f::fs,w,c=>by
  obtain⟨i,j⟩:=ZBF d b fs (w+1) λz e=>c z (zV _ e)
  obtain⟨h,g⟩:=c f (by simp);refine⟨by rw[Cq,zH,Oi,i,h,zN,xz];lia,λv a=>?_⟩;rcases qZ.mp a with a|a
  .exact ZDm d b f 0 g v a
  exact j v a
theorem ZFa{left:List Int}(g:GV h lv cm fl pays left)(i:u<fl.length*h.ps.length):∃x∈neA h pays.length left 0 pays,x.fr=u/\x.mo=uZ/\x.ga=0:=by
 have f:fl.length*h.ps.length=h.ps.length*fl.length:=xy ..;have hk:u%h.ps.length<h.ps.length:=Nat.mod_lt _ g.n1;have hw:u/h.ps.length<pays.length:=by rw[g.pn];exact Nat.div_lt_of_lt_mul (by lia)
 obtain⟨a,b,c,d,e⟩:=ZBS (zJ hk) pays 0 _ _ (zJ hw);rw[jN]at e;refine⟨rvA h pays.length (u/h.ps.length) (u%h.ps.length) h.ps[u%h.ps.length] uZ 0,?_,?_,rfl,rfl⟩
 .rw[e.ea];exact j6 _ (zG _ ZOd)
 show u/h.ps.length*h.ps.length+u%h.ps.length=u;rw[xy];exact Nat.div_add_mod ..
theorem ZFU{left:List Int}(g:GV h lv cm fl pays left):NetOk (fl.length*h.ps.length) (neA h pays.length left 0 pays) (Cq lv cm 0 fl):=by
 have k:=g.nt;have a:=g.pn;have o:=(V1 (h:=h) (T:=pays.length) (left:=left) pays 0).1;obtain⟨f,c⟩:=ZBF g.lv.2 (λr l=>(g.cm.2 r l).2) fl 0 g.fr;have n:fl.length*h.ps.length=h.ps.length*fl.length:=xy ..;refine⟨Nat.mul_pos g.t1 g.n1,by lia,?_,?_,λu j=>?_,f,λx b=>(c x b).1,λx b=>(c x b).2⟩
 .have q:3*h.ps.length*pays.length<=60:=by rw[a,Nat.mul_assoc];lia
  lia
 .rw[<-a];exact ZF0 g.hg (Lb (by lia) g.lf.2) pays 0 (by lia) λy i=>(g.pr y i).2
 obtain⟨x,m,e,d,_⟩:=ZFa g j;exact⟨x,m,e,d⟩
theorem ZCN{l:List Int}(h:l.length<=i):Ab l i=0:=by
 unfold Ab;rw[zW,zA h]
 rfl
theorem ZMC{p:List Int}(a:j<n):Ab (prW p n w) j=Ab p (w*n+j):=by unfold Ab prW;rw[zW,zW,qz a,List.getElem?_drop]
theorem ZCz{p:List Int}(hp:p.length=T*n)(hw:w<T):(prW p n w).length=n:=by have q:(w+1)*n<=T*n:=qL _ hw;rw[xz,xD]at q;unfold prW;rw[qR,jX];lia
theorem ZJe{p:List Int}(hw:w<T):atI ((Ff p n T).map tupI) (w:Int)=uQ (tupI (prW p n w)):=Dg rfl (by
 unfold Ff;rw[zv,zv,qx hw]
 rfl)
theorem ZE8{R:List (List Int)}:∀(m w:Nat)(a:List Int),(Ef R n m w a).length=m
 |0,_,_=>rfl
 |m+1,w,a=>congrArg (· + 1) (ZE8 m (w+1) _)
theorem ZC9{R:List (List Int)}(d:∀r∈R,r.length=6)(c:R.length=T*n):∀(m w:Nat)(a:List Int),w+m<=T->∀b∈Ef R n m w a,b.length=n/\∀r∈b,r.length=6
 |0,_,_,_,b,hp=>by simp[Ef]at hp
 | m+1,w,a,hw,b,hp=>by
  rcases z0.mp hp with rfl|hp
  .refine⟨by simp[pgW],λr e=>?_⟩;obtain⟨i,h,rfl⟩:=qY.mp e;have f:w*n+i<R.length:=by rw[c];exact Jq (by lia) (zU.mp h)
   have g:(R.getD (w*n+i) []).length=6:=by rw[zW,zJ f];exact d _ (qV _)
   show((R.getD (w*n+i) []).drop 1).length+1=6;rw[jX,g]
  exact ZC9 d c m (w+1) _ (by lia) b hp
theorem Zt(G:DH):∀xs:List Int,Bo (gV 0) Ar Qi [uZ] (xs.map D.int) G=.ok ((xs.map λ_=>uJ).map D.bl) G
 |[]=>rfl
 |x::xs=>by
  have a:Qi [zI x] G=.ok (.bl uJ) G:=by unfold Qi;simp[ZFH]
  rw[zK,Gz];simp[a,Zt G xs]
theorem Zj(G:DH)(l:List Bool):freeze G (.ok (.ref G.length) (G++[.lst (l.map D.bl)]))=.ok (.fl (l.map D.bl)) G:=Bk (Fj λ_ _=>rfl)
theorem Wg{b:Type}(xs:List b)(G:DH):Iu [.fl ((xs.map λ_=>uJ).map D.bl)] G=.ok (.bl uJ) G:=by
 have a:((xs.map λ_=>uJ).all id)=uJ:=by simp
 rw[ZIi,a]
theorem ZOf(e:r.length=6):Qk [s0,s1,uQ (tupI r)] G=.nx [s0,s1,uQ (tupI r)] G:=by
 have j:=λG=>Zt G r
 have d:∀a b c:Option D,Bh 1 [] [a,b,c]=[uZ]:=λ_ _ _=>rfl
 have i:((r.map λ_=>uJ).map D.bl).length<=1000000:=by simp[e]
 have k:=λG=>Zj G (r.map λ_=>uJ)
 have f:=λG=>Wg r G
 have h:(r.map D.int).length=6:=by simp[e]
 have g:tupI r=.tup (r.map D.int):=rfl;rw[g];generalize(r.map λ_=>uJ).map D.bl=Z at*;generalize r.map D.int=Y at*;unfold Qk;simp[tyD,h,d,j,i,k,f]
theorem ZFl{s0 s1:Option D}{G:DH}:∀(a:List (List Int))(x:Option D),(∀r∈a,r.length=6)->∃y,Bc (gV 2) Qk (a.map tupI) [s0,s1,x] G=.nx [s0,s1,y] G
 |[],x,_=>⟨x,rfl⟩
 |r::a,x,h=>by
  obtain⟨y,c⟩:=ZFl a (uQ (tupI r)) λz b=>h z (zV _ b)
  refine⟨y,?_⟩;rw[zK,Eg];simp[ZOf (h r (by simp)) (s0:=s0) (s1:=s1) (G:=G)];exact c
theorem ZHr{a:List (List Int)}(c:a.length=n)(e:∀r∈a,r.length=6)(G:DH):Qe [pgT a,.int (n:Int)] G=.ok (.bl uJ) G:=by
 obtain⟨y,b⟩:=ZFl (s0:=uQ (pgT a)) (s1:=zI (n:Int)) (G:=G) a uZ e;have f:(a.map tupI).length=n:=by simp[c]
 have d:pgT a=.tup (a.map tupI):=rfl;rw[d]at b⊢;generalize a.map tupI=Y at*;unfold Qe ZE7;rw[Aw];simp[tyD,f,b,Bw]
theorem ZEe(G:DH):∀a:List (List (List Int)),(∀b∈a,b.length=n/\∀r∈b,r.length=6)->Bo (gV 0) Ar Rt [uZ,zI (n:Int)] (a.map pgT) G=.ok ((a.map λ_=>uJ).map D.bl) G
 |[],_=>rfl
 |b::a,h=>by
  obtain⟨f,c⟩:=h b (by simp);have d:Rt [uQ (pgT b),zI (n:Int)] G=.ok (.bl uJ) G:=by unfold Rt;simp[ZHr f c]
  rw[zK,Gz];simp[d,ZEe G a λz e=>h z (zV _ e)]
theorem ZGG:∀(prs:List (List Int))(x:Option D),(∀r∈prs,r.length=n)->n<=100->∃y,Bc (gV 4) S8 (prs.map tupI) [s0,s1,zI (n:Int),s3,x] G=.nx [s0,s1,zI (n:Int),s3,y] G
 |[],x,_,_=>⟨x,rfl⟩
 | r::prs,x,h,g=>by
  obtain⟨y,p⟩:=ZGG prs (uQ (tupI r)) (λz l=>h z (zV _ l)) g;refine⟨y,?_⟩;have o:=h r (by simp);have m:S8 [s0,s1,zI (n:Int),s3,uQ (tupI r)] G=.nx [s0,s1,zI (n:Int),s3,uQ (tupI r)] G:=by
   have s:∀G,Bo (gV 0) Ar ZFr [uZ] (r.map D.int) G=.ok ((r.map λ_=>uJ).map D.bl) G:=λG=>Zt G r
   have f:∀a b c d e:Option D,Bh 1 [] [a,b,c,d,e]=[uZ]:=λ_ _ _ _ _=>rfl
   have q:((r.map λ_=>uJ).map D.bl).length<=1000000:=by simp;lia
   have t:=λG=>Zj G (r.map λ_=>uJ)
   have i:=λG=>Wg r G
   have k:(r.map D.int).length=n:=by simp[o]
   have j:tupI r=.tup (r.map D.int):=rfl;rw[j];generalize(r.map λ_=>uJ).map D.bl=Z at*;generalize r.map D.int=Y at*;unfold S8;simp[tyD,k,f,s,q,t,i]
  rw[zK,Eg];simp[m];exact p
theorem ZG3{e:Int}{f:List (List (List Int))}{prs:List (List Int)}(t:f.length=T)(j:prs.length=T)(q:∀h∈f,h.length=n/\∀r∈h,r.length=6)(z:∀r∈prs,r.length=n)(v:n<=100)(E:T<=100)(G:DH):
  Ji [.tup [.int e,.fl (f.map pgT),.fl (prs.map tupI)],.int (T:Int),.int (n:Int)] G=.ok (.bl uJ) G:=by
 have u:=λG=>ZEe G f q
 have o:((f.map λ_=>uJ).map D.bl).length<=1000000:=by simp;lia
 have C:=λG=>Zj G (f.map λ_=>uJ)
 have s:=λG=>Wg f G
 have l:(f.map pgT).length=T:=by simp[t]
 have w:(prs.map tupI).length=T:=by simp[j]
 have k:freeze G (.ok (.ref G.length) (G++[.lst [.fl (f.map pgT),.fl (prs.map tupI)]]))=.ok (.fl [.fl (f.map pgT),.fl (prs.map tupI)]) G:=Bk (by show(bels _ _&&(bels _ _&&uJ))=uJ;rw[Oo,Eh];rfl);have g:∀a b c d e:Option D,Bh 1 [2] [a,b,c,d,e]=[uZ,c]:=λ_ _ _ _ _=>rfl
 obtain⟨y,m⟩:=ZGG (s0:=zT [.int e,.fl (f.map pgT),.fl (prs.map tupI)]) (s1:=zI (T:Int)) (s3:=zF (prs.map tupI)) (G:=G) prs uZ z v;generalize(f.map λ_=>uJ).map D.bl=Z at*;generalize f.map pgT=A at*;generalize prs.map tupI=B at*;have i:∀X:List D,X.length=T->∀x,ZAl [zT [.int e,.fl A,.fl B],zI (T:Int),zI (n:Int),zF X,x] G=.nx [zT [.int e,.fl A,.fl B],zI (T:Int),zI (n:Int),zF X,x] G:=λX p x=>by unfold ZAl;simp[tyD,p]
 unfold Ji ZGW;rw[Aw];simp[tyD,ZFH,Ah,k,Eg,Gq,i A l,i B w,m,g,u,o,C,s,Bw]
theorem ZFL{x:Nat->Int}(hp:p n=0)(b:∀i,i<m->(a i).fr<n/\(a i).to<=n)(X:Feas n m a t x):Fg a m x=Ag m (λi=>x i*((a i).ga+p (a i).to-p (a i).fr))+Ag n λu=>p u*t u:=by
 have c:=Xd hp b X;have d:Ag m (λi=>x i*((a i).ga+p (a i).to-p (a i).fr))+Ag m (λi=>x i*p (a i).fr)=Fg a m x+Ag m (λi=>x i*p (a i).to):=by
  rw[<-Ec];unfold Fg;rw[<-Ec];refine Ea λi _=>?_
  rw[Int.mul_sub,jB];lia
 lia
theorem ZHm(F:Feas n m a s f)(S:Slack m a f p)(H:Feas n m a t g)(c:i<m):g i*((a i).ga+p (a i).to-p (a i).fr)<=f i*((a i).ga+p (a i).to-p (a i).fr):=by
 generalize v:(a i).ga+p (a i).to-p (a i).fr=r;rcases Int.lt_trichotomy r 0 with z|z|z
 .have u:f i=0:=by have l:=F.nn i c;have q:=S.some_ i c;lia
  rw[u,Int.zero_mul];have k:=H.nn i c;exact Int.mul_nonpos_of_nonneg_of_nonpos k (by lia)
 .rw[z,jK,jK];exact q9 _
 have e:∃b,(a i).mo=uQ b/\b<=f i:=by
  cases o:(a i).mo with
  |none=>
   have:=S.more i c λb e=>by rw[o]at e;cases e
   lia
  |some b=>
   refine⟨b,rfl,Int.not_lt.mp λj=>?_⟩;have:=S.more i c λw d=>by rw[o]at d;cases d;exact j
   lia
 obtain⟨b,l,q⟩:=e;have k:=H.le i b c l;exact qQ (by lia) (by lia)
theorem most2(hp:p n=0)(b:∀i,i<m->(a i).fr<n/\(a i).to<=n)(F:Feas n m a s f)(S:Slack m a f p)(H:Feas n m a t g):Fg a m g+Ag n (λu=>p u*s u)<=Fg a m f+Ag n λu=>p u*t u:=by
 rw[ZFL hp b F,ZFL hp b H];have:=Er λi c=>ZHm F S H c
 lia
def O3(s:Nat->Int)(u:Nat)(c:Int):Nat->Int:=λw=>if w=u then s w+c else s w
theorem ZP4(a:u<n):Ag n (λw=>p w*O3 s u c w)=Ag n (λw=>p w*s w)+p u*c:=by
 have:(λw=>p w*O3 s u c w)=λw=>p w*s w+(if w=u then(λw=>p w*c) w else 0):=by
  funext w;unfold O3;by_cases e:w=u
  .rw[if_pos e,if_pos e,jB]
  rw[if_neg e,if_neg e,xB]
 rw[this,Ec,Gr a]
theorem Qt(h:∀x∈as,ArcOk n x):∀i,i<as.length->(Aq as i).fr<n/\(Aq as i).to<=n:=λ_ a=>⟨(ArcOk.of h a).lt,(ArcOk.of h a).le⟩
theorem BestOk.p0{s:List Int}{e:Int}{f p:List Int}(b:BestOk n as s e f p):Ab p n=0:=by
 unfold Ab;rw[zW,zA (by rw[b.lp];lia)]
 rfl
def By(s:List Int)(u:Nat)(c:Int):List Int:=s.set u (Ab s u+c)
theorem ZGi{s:List Int}(a:u<s.length):Ab (By s u c)=O3 (Ab s) u c:=by
 funext w;unfold O3 By Ab;simp[zW];by_cases e:w=u
 .subst e;rw[qw a];simp
 rw[z8 λz=>e z.symm,if_neg e]
theorem ZL1{s:List Int}{e i:Int}{f p l j:List Int}(ok:NetOk n as s)(c:u<n)(b:BestOk n as s e f p)(a:BestOk n as (By s u 1) i l j):i-e=Ab p u:=by obtain⟨k,W⟩:=b.tw u c;obtain⟨g,G,S,E⟩:=ZJk b.p0 (Qt ok.arc) c b.fe b.sl W;have d:=a.fe;rw[ZGi (ok.sl▸c)]at d;have r:=most b.p0 (Qt ok.arc) G S d;have o:=most a.p0 (Qt ok.arc) d a.sl G;have m:=b.ea;have q:=a.ea;lia
theorem ZI2{s:List Int}{e:Int}{f p k i:List Int}(ok:NetOk n as s)(a:u<n)(b:BestOk n as s e f p)(d:BestOk n as (By s u (-1)) c k i):Ab p u<=e-c:=by have g:=d.fe;rw[ZGi (ok.sl▸a)]at g;have j:=most2 b.p0 (Qt ok.arc) b.fe b.sl g;rw[ZP4 a]at j;have l:=b.ea;have m:=d.ea;lia
@[simp]theorem ZQ7{i j:Int}:Fd (.int i) (.int j) G=.ok (.int (i+j)) G:=id rfl
theorem ZD7{xs ys:List D}(h:xs.length+ys.length<=1000000):Fd (.tup xs) (.tup ys) G=.ok (.tup (xs++ys)) G:=by
 cases xs with
 |nil=>rfl
 |cons x xs=>
  show Ai (.tup (x::xs)) (.tup ys) G=_;unfold Ai;simp only;rw[if_pos ⟨by simp,h⟩]
theorem ZBN{xs ys:List D}(h:xs.length+ys.length<=1000000):Fd (.fl xs) (.fl ys) G=.ok (.ref G.length) (G++[.lst (xs++ys)]):=by show Ai (.fl xs) (.fl ys) G=_;simp[h]
def wiF(fl:List (List Int))(w k:Nat)(c:Int):List (List Int):=fl.set w (By (fl.getD w []) k c)
theorem ZBf:∀(xs:List Int)(k j:Nat),j<xs.length->Dh lv cm w k (By xs j c)=By (Dh lv cm w k xs) j c
 |x::xs,k,0,_=>by
  have e:Gw lv cm w k (x+c)=Gw lv cm w k x+c:=by unfold Gw;lia
  exact congrArg (·::Dh lv cm w (k+1) xs) e
 |x::xs,k,j+1,h=>congrArg (Gw lv cm w k x::·) (ZBf xs (k+1) j (jE h))
theorem ZBo{B:List Int}:∀{A:List Int}{j:Nat},j<A.length->By (A++B) j c=By A j c++B
 |_::_,0,_=>rfl
 |a::A,j+1,h=>congrArg (a::·) (ZBo (jE h))
theorem ZCH{B:List Int}:∀(A:List Int)(j:Nat),By (A++B) (A.length+j) c=A++By B j c
 |[],j=>by simp
 |a::A,j=>by rw[zN,Nat.add_right_comm];exact congrArg (a::·) (ZCH A j)
theorem Xo{lv:List Int}{cm:List (List Int)}{c:Int}(hk:k<n):∀(fs:List (List Int))(w u:Nat),u<fs.length->(∀f∈fs,f.length=n)->Cq lv cm w (wiF fs u k c)=By (Cq lv cm w fs) (u*n+k) c
 |f::fs,w,0,_,h=>by have l:=h f (by simp);show Dh lv cm w 0 (By f k c)++Cq lv cm (w+1) fs=By (Dh lv cm w 0 f++Cq lv cm (w+1) fs) (0*n+k) c;rw[ZBf _ _ _ (by lia),Nat.zero_mul,jN,ZBo (by rw[Oi];lia)]
 |f::fs,w,u+1,a,h=>by
  have l:(Dh lv cm w 0 f).length=n:=by rw[Oi];exact h f (by simp)
  show Dh lv cm w 0 f++Cq lv cm (w+1) (wiF fs u k c)=By (Dh lv cm w 0 f++Cq lv cm (w+1) fs) ((u+1)*n+k) c;rw[Xo (lv:=lv) (cm:=cm) (c:=c) hk fs (w+1) u (jE a) λz b=>h z (zV _ b),show(u+1)*n+k=(Dh lv cm w 0 f).length+(u*n+k) by rw[l,Nat.succ_mul];lia,ZCH]
theorem getD_mem(h:w<fl.length):fl.getD w []∈fl:=by rw[zW,zJ h];exact qV h
section
variable{h:RH}{lv:List Int}{cm fl pays:List (List Int)}{left:List Int}{G:DH}
theorem ZET(g:GV h lv cm fl pays left)(j:∀f∈fl,∀x∈f,Bd x)(hw:w<fl.length)(hk:k<h.ps.length)(o:0<=Ab (fl.getD w []) k+c)(e:c<=1):GV h lv cm (wiF fl w k c) pays left:=by
 have l:(wiF fl w k c).length=fl.length:=by unfold wiF;simp
 have m:=getD_mem hw;refine{g with t1:=l▸g.t1,t20:=l▸g.t20,nt:=l▸g.nt,pn:=l▸g.pn,fr:=λf a=>?_};unfold wiF at a;rcases jS a with a|rfl
 .exact g.fr f a
 unfold By;refine⟨by rw[qH];exact(g.fr _ m).1,λx b=>?_⟩;rcases jS b with b|rfl
 .exact(g.fr _ m).2 x b
 .have q:=(Lb ⟨by decide,by decide⟩ (j _ m) k).2;exact⟨o,by lia⟩
theorem price0{N:Nat}{s f P:List Int}{e:Int}(ok:BestOk N as s e f P)(ho:∀x∈as,ArcOk N x)(hw:∀u,u<N->∃x∈as,x.fr=u/\x.mo=uZ/\x.ga=0):∀m u,N<=u+m->0<=Ab P u
 |0,u,h=>by rw[ZCN (by rw[ok.lp];lia)];decide
 |m+1,u,h=>by
  by_cases i:u<N
  .obtain⟨x,c,k,n,l⟩:=hw u i;obtain⟨j,a,g⟩:=jR c;have q:=ok.sl.more j a (λb d=>by rw[Ms a,g,n]at d;cases d);rw[Ms a,g,l,k]at q;have:=price0 ok ho hw m x.to (by have:=(ho x c).up;lia);lia
  rw[ZCN (by rw[ok.lp];lia)]
  decide
theorem ZC5(hw:w<fl.length)(S:fl.length<=100){f:List Int}(b:fl.getD w []=f)(hk:k<f.length)(P:f.length<=100)(H:DH):freeze H (Kz [.fl (fl.map tupI),.int w,.int k,.int c] H)=.ok (.fl ((wiF fl w k c).map tupI)) H:=by
 have r:atI (fl.map tupI) (w:Int)=zT (f.map D.int):=Dg rfl (by
  rw[zv,zJ hw,<-b,zW,zJ hw]
  rfl)
 have A:=Lw hk;have ct:cutD (f.map D.int) uZ (uQ (k:Int))=(f.take k).map D.int:=by rw[Qm (by simp;lia),List.map_take]
 have g:cutD (f.map D.int) (uQ ((k:Int)+1)) uZ=(f.drop (k+1)).map D.int:=by rw[show((k:Int)+1)=((k+1:Nat):Int) by lia,Yv (by simp;lia),List.map_drop]
 have t:cutD (fl.map tupI) uZ (uQ (w:Int))=(fl.take w).map tupI:=by rw[Qm (by simp;lia),List.map_take]
 have y:cutD (fl.map tupI) (uQ ((w:Int)+1)) uZ=(fl.drop (w+1)).map tupI:=by rw[show((w:Int)+1)=((w+1:Nat):Int) by lia,Yv (by simp;lia),List.map_drop]
 have a:∀l:List Int,freeze H (.ok (.tup (l.map D.int)) H)=.ok (.tup (l.map D.int)) H:=λl=>Kg (ZMw▸Dc)
 have Fz:∀l:List (List Int),freeze H (.ok (.ref H.length) (H++[.lst (l.map tupI)]))=.ok (.fl (l.map tupI)) H:=λl=>Bk Eh
 have e:By f k c=f.take k++[Ab f k+c]++f.drop (k+1):=by unfold By;rw[List.set_eq_take_append_cons_drop,if_pos hk];simp
 have E:wiF fl w k c=fl.take w++[By f k c]++fl.drop (w+1):=by unfold wiF;rw[List.set_eq_take_append_cons_drop,if_pos hw,b];simp
 have m:Fd (.tup ((f.take k).map D.int)) (.tup [.int (Ab f k+c)]) H=.ok (.tup ((f.take k++[Ab f k+c]).map D.int)) H:=by
  rw[ZD7 (by simp;lia),zO]
  rfl
 have d:Fd (.tup ((f.take k++[Ab f k+c]).map D.int)) (.tup ((f.drop (k+1)).map D.int)) H=.ok (.tup ((By f k c).map D.int)) H:=by rw[ZD7 (by simp;lia),<-zO,e]
 have o:Fd (.fl ((fl.take w).map tupI)) (.fl [.tup ((By f k c).map D.int)]) H=.ok (.ref H.length) (H++[.lst ((fl.take w++[By f k c]).map tupI)]):=by
  rw[ZBN (by simp;lia),zO]
  rfl
 have n:Fd (.fl ((fl.take w++[By f k c]).map tupI)) (.fl ((fl.drop (w+1)).map tupI)) H=.ok (.ref H.length) (H++[.lst ((wiF fl w k c).map tupI)]):=by rw[ZBN (by simp;lia),<-zO,E]
 have s:tidy H (.ok (.ref H.length) (H++[.lst ((wiF fl w k c).map tupI)]))=.ok (.ref H.length) (H++[.lst ((wiF fl w k c).map tupI)]):=Dp Eh;have B:=a (f.take k);have i:=a (f.take k++[Ab f k+c]);have j:=a (f.drop (k+1));have v:=a (By f k c);have z:=Fz (fl.take w);have p:freeze H (.ok (.ref H.length) (H++[.lst [.tup ((By f k c).map D.int)]]))=.ok (.fl [.tup ((By f k c).map D.int)]) H:=Fz [By f k c]
 have u:=Fz (fl.drop (w+1));have x:=Fz (fl.take w++[By f k c]);have q:=Fz (wiF fl w k c);clear e E a Fz b;generalize(By f k c).map D.int=I at*;generalize(f.take k).map D.int=K at*;generalize(f.drop (k+1)).map D.int=C at*;generalize(f.take k++[Ab f k+c]).map D.int=O at*;generalize f.map D.int=F at*;generalize(wiF fl w k c).map tupI=L at*;generalize(fl.take w++[By f k c]).map tupI=N at*
 generalize(fl.take w).map tupI=Q at*;generalize(fl.drop (w+1)).map tupI=J at*;generalize fl.map tupI=M at*;unfold Kz ZGS;rw[Aw];simp[r,A,ct,g,t,y,B,i,j,v,m,d,Ah,z,p,u,x,o,n,s,q]
end
theorem ZGl{l:List (List Int)}:bels n (pyD l)=uJ:=Eh
section
variable{h:RH}{lv:List Int}{cm fl pays:List (List Int)}{left:List Int}{G:DH}
structure Pld (h:RH) (pays:List (List Int)) (T:Nat) (G:DH) (e:Int) (P:List Int) (d:D):Prop where
 dd:∃A,d=.tup [.int e,.fl A,.fl ((Ff P h.ps.length pays.length).map tupI)]
 fz:freeze G (.ok d G)=.ok d G
 sh:Ji [d,.int (T:Int),.int (h.ps.length:Int)] G=.ok (.bl uJ) G
theorem planned(g:GV h lv cm fl pays left)(n:DO.tab "Sending" "send_by"∈G):∃(e:Int)(f P:List Int)(d:D),BestOk (fl.length*h.ps.length) (neA h pays.length left 0 pays) (Cq lv cm 0 fl) e f P/\J7 [h.enc,stE lv cm,.fl (fl.map tupI),.fl (pyD pays),.tup (left.map D.int)] G=.ok d G/\Pld h pays fl.length G e P d:=by
 have m:=g.n5;have k:=g.t20;have a:=g.pn;obtain⟨e,f,P,ok,cp⟩:=ZHk g (ZFU g) (λs hs=>by obtain⟨_,o,l⟩:=Ul _ _ s hs;exact⟨by lia,l⟩) G n
 have b:∀r∈zQ (pays.length*h.ps.length) zero6,r.length=6:=λr c=>by rw[List.eq_of_mem_replicate c];rfl
 obtain⟨i,j⟩:=Wz (neS h 0 pays.length) f _ b;refine⟨e,f,P,_,ok,cp,⟨_,rfl⟩,Kg (by
  show(uJ&&(bels _ _&&(bels _ _&&uJ)))=uJ;rw[Oo,Eh]
  rfl),?_⟩
 rw[<-a];exact ZG3 (ZE8 ..) (by simp[Ff]) (ZC9 j (by rw[i,qO]) _ _ _ (by lia)) (λr c=>by obtain⟨w,hw,rfl⟩:=qY.mp c;exact ZCz (by rw[ok.lp,a]) (zU.mp hw)) (by lia) (by lia) G
end
theorem Q5(c p:Int)(hp:0<p)(hk:1<=k):∃t:Nat,t<k/\∀G,Ci [.int c,.int p,.int (k:Int)] G=.ok (.int (t:Int)) G:=by obtain⟨i,h,e⟩:=Dy c (m:=k) hp (by lia);obtain⟨t,rfl⟩:=Int.eq_ofNat_of_zero_le h.1;exact⟨t,by lia,e⟩
theorem ZG5(sc:List Int)(G:DH)(N:DO.tab "Sending" "send_by"∈G):Jc [.fl (sc.map D.int)] G=.ok (.bl uJ) G:=by
 obtain⟨h,q,C,fl,a,left,g,K,hg⟩:=ZMq sc G;have H:=g.n1;have hn5:=g.n5;have J:=g.t1;have ht20:=g.t20;have hpn:=g.pn;have o:=ZFU g;obtain⟨e,f,P,d,ok,cp,⟨PG,rfl⟩,ff,cs⟩:=planned g N;have c3:∀G,Dw [.fl (sc.map D.int),.int 3] G=.ok (.int (cellAt sc 3)) G:=λG=>Jb (by decide)
 generalize cellAt sc 3=b at*;obtain⟨w,hw,m1⟩:=Q5 b 10139 (by decide) J;obtain⟨k,hk,m2⟩:=Q5 b 10141 (by decide) H;obtain⟨v,i,m3⟩:=Q5 b 10151 (by decide) J;obtain⟨j,y,m4⟩:=Q5 b 10159 (by decide) H;have lF:∀w,w<fl.length->(fl.getD w []).length=h.ps.length:=λw hw=>(g.fr _ (getD_mem hw)).1
 have nn:∀w,w<fl.length->∀k,Bd (Ab (fl.getD w []) k):=λw hw=>Lb ⟨by decide,by decide⟩ (K _ (getD_mem hw))
 have M:∀w k c,(wiF fl w k c).length=fl.length:=λw k c=>by unfold wiF;simp
 have S:∀{w k},w<fl.length->k<h.ps.length->w*h.ps.length+k<fl.length*h.ps.length:=Jq;have lP:P.length=a.length*h.ps.length:=by rw[ok.lp,hpn]
 have F:=ZET g K hw hk (c:=1) (by have:=(nn w hw k).1;lia) (by decide);obtain⟨e1,f1,P1,d1,m,W,⟨PG1,rfl⟩,O,I⟩:=planned F N;rw[M]at m I;rw[Xo hk fl 0 w hw λz Z=>(g.fr z Z).1]at m;have b1:=ZL1 o (S hw hk) ok m;have p0:=price0 ok o.arc (λu h=>ZFa g h) _ (w*h.ps.length+k) (Nat.le_add_left ..);have w1:=ZC5 (c:=1) hw (by lia) rfl ((lF w hw)▸hk) (by rw[lF w hw];lia) G;have a1:∀{w},w<fl.length->atI ((Ff P h.ps.length a.length).map tupI) (w:Int)=zT ((prW P h.ps.length w).map D.int):=λhw=>ZJe (by lia)
 have L:∀{w k},w<fl.length->k<h.ps.length->∀G,Ae (.tup ((prW P h.ps.length w).map D.int)) (.int (k:Int)) G=.ok (.int (Ab P (w*h.ps.length+k))) G:=λhw hk G=>by rw[Kv (by rw[ZCz lP (by lia)];exact hk),ZMC hk]
 have p1:=a1 hw;have q1:=L hw hk;have p2:=a1 i;have q2:=L i y;have i1:atI (fl.map tupI) (v:Int)=zT ((fl.getD v []).map D.int):=Dg rfl (by
  rw[zv,zJ i,zW,zJ i]
  rfl)
 have i2:=Lw ((lF v i)▸y);have bT:bels G.length [h.enc,stE q C,.fl (fl.map tupI),.fl (pyD a),.tup (left.map D.int)]=uJ:=by
  have U:bel G.length (stE q C)=uJ:=by
   have U:bel G.length (tupI q)=uJ:=by exact Hs
   unfold stE;simp[U,Eh]
  simp[U,Eh,ZGl,Hs]
 have fg:freeze G (.ok (.tup [h.enc,stE q C,.fl (fl.map tupI),.fl (pyD a),.tup (left.map D.int)]) G)=.ok (.tup [h.enc,stE q C,.fl (fl.map tupI),.fl (pyD a),.tup (left.map D.int)]) G:=Kg (by simpa[bel]using bT);have z1:freeze G (.ok (.ref G.length) (G++[.lst (fl.map tupI)]))=.ok (.fl (fl.map tupI)) G:=Bk Eh;have z2:freeze G (.ok (.ref G.length) (G++[.lst (pyD a)]))=.ok (.fl (pyD a)) G:=Bk ZGl;have l1:(fl.map tupI).length=fl.length:=by simp
 have l2:(pyD a).length<=1000000:=by simp[pyD];lia
 have l3:(fl.map tupI).length<=1000000:=by simp;lia
 have h1:∀G,Ae h.enc (.int 1) G=.ok (.tup (h.ps.map RP.enc)) G:=λG=>G8
 have hl:∀G,Bb [.tup (h.ps.map RP.enc)] G=.ok (.int (h.ps.length:Int)) G:=λG=>by simp
 have p0':¬Ab P (w*h.ps.length+k)<0:=by lia
 have Q:Ab (fl.getD v []) j≠0->∃(p:Int)(A B x:List D),freeze G (Kz [.fl (fl.map tupI),.int v,.int j,.int (-1)] G)=.ok (.fl x) G/\J7 [h.enc,stE q C,.fl x,.fl (pyD a),.tup (left.map D.int)] G=.ok (.tup [.int p,.fl A,.fl B]) G/\freeze G (.ok (.tup [.int p,.fl A,.fl B]) G)=.ok (.tup [.int p,.fl A,.fl B]) G/\Ji [.tup [.int p,.fl A,.fl B],.int (fl.length:Int),.int (h.ps.length:Int)] G=.ok (.bl uJ) G/\Ab P (v*h.ps.length+j)<=e-p:=λz=>by
  obtain⟨p,f2,P2,d2,t,s,⟨X,rfl⟩,r,l⟩:=planned (ZET g K i y (c:= -1) (by have:=(nn v i j).1;lia) (by decide)) N;rw[M]at t l;rw[Xo y fl 0 v i λz Z=>(g.fr z Z).1]at t;exact⟨p,X,_,_,ZC5 i (by lia) rfl ((lF v i)▸y) (by rw[lF v i];lia) G,s,r,l,ZI2 o (S i y) ok t⟩
 clear o ok m F g bT K nn M S a1 L lF;generalize(Ff P h.ps.length a.length).map tupI=PR at*;generalize(Ff P1 h.ps.length a.length).map tupI=PR1 at*;generalize(prW P h.ps.length w).map D.int=PW at*;generalize(prW P h.ps.length v).map D.int=PV at*;generalize Ab P (w*h.ps.length+k)=pr at*;generalize Ab P (v*h.ps.length+j)=pv at*;generalize(wiF fl w k 1).map tupI=FL1 at*;generalize Ab (fl.getD v []) j=xv at*
 generalize(fl.getD v []).map D.int=FV at*;generalize sc.map D.int=SC at*;generalize fl.map tupI=FL at*;generalize fl.length=T at*;generalize pyD a=PY at*;generalize left.map D.int=LF at*;generalize stE q C=SE at*;generalize h.ps.map RP.enc=Y at*;generalize h.ps.length=n at*;generalize h.enc=he at*;have E:Jc [.fl SC] G=tidy G (U3 [zF SC,uQ he,uQ SE,zF FL,zF PY,zT LF,zI T,zI n,zT [.int e,.fl PG,.fl PR],zI b,zI v,zI j,zT [.int e1,.fl PG1,.fl PR1],zI pr,uZ] G).ret:=by
  unfold Jc ZGZ ZEK ZA4 ZGf ZEF ZFD ZCV ZDn ZD2 ZBE ZGE ZBy ZCF;rw[Aw];simp[hg,fg,l1,l2,l3,z1,z2,cp,ff,h1,hl,cs,c3,m1,m2,m3,m4,w1,W,O,I,p1,q1,p0',b1]
 rw[E];unfold U3 ZEz ZA3;by_cases z:xv=0
 .simp[i1,i2,z,Bw]
 obtain⟨p,A,B,x,w2,s,r,l,b2⟩:=Q z;simp[l2,z2,i1,i2,z,w2,s,r,l,p2,q2,b2,Bw]
theorem holds:Holds:=λa _=>⟨_,ZG5 a _ (by simp)⟩
end _W
set_option maxRecDepth 100000
namespace _W
open PySem PySem.W _L _D
theorem Mv:∀w,(openEnds v9 pw w 100000).map (λs=>(openSeen vw [] (vK pw.main.body) (XtOf rw_ vw) uJ s,V4 "Sending" "send_by" asks s.heap))=uQ (openGood vw [],Ve asks):=ZNY (by kernel_rfl) (λs=>rfl) ZLn
theorem walked:WalkO vw [] (XL vw []) (Stays rw_.prog 100000) rw_.row.toRowW (dOf Gy) [] λf vs=>qe f vs:=
 walk (l:=rw_) (K:=λw=>Ce (Ha pw 100000 w)) (T0:=λw=>O1 (Ce (Ha pw 100000 w)) (Il (Ce (Ha pw 100000 w)) "Sending" "send_by")) rfl hdf holds (λw h Y=>⟨Y.in,Y _ _ (V0 (Prod.mk.inj (R7 Mv w)).1).2.2⟩) λw mg fa h KX G hmg=>all_mk KX G (show mg "law"=_ from hmg) (V0 (Prod.mk.inj (R7 Mv w)).1).1 (V0 (Prod.mk.inj (R7 Mv w)).1).2.1 (ZHW _) (ZGr (Prod.mk.inj (R7 Mv w)).2)
end _W
open PySem PySem.W PyProof.Rows _D
theorem PySem.Challenge.cw_sluiceway_k74_one_cube_more_in_a_flood_holds : PySem.Challenge.rw_sluiceway_k74_one_cube_more_in_a_flood.Holds := by
 refine holds_top (l:=_W.rw_) (q:=_W.vw) (loose:=[]) (N:=100000) (see:=V4 "Sending" "send_by" _W.asks) (val:=Ve _W.asks) (d:=dOf _W.Gy) ?_ ?_ ?_ ?_ ?_ ?_ ?_ ?_ ?_ ?_
 .exact _W.well
 .exact _W.Mv
 .exact _W.hdef
 .exact _W.hp
 .exact _W.hk
 .rfl
 .exact _W.hok
 .exact _W.hbare
 .exact _W.hw
 .exact _W.walked
