import PyProof.Rows.All
import Wide.All
import OpenK.AllK
import Wide.FinOn
import Lean
import PyProof.EqAt
import PyProof.EqKinds
import PyProof.TupleCall
import PyProof.NeKinds
import PyProof.IsInstanceH
import PyProof.SumWalkG
import PyProof.ConsumeWalk
import PyProof.IsiNone
import PyProof.WalksMore
import PyProof.PlainList
import PyProof.CompFree
import KE.KIntText
import PyProof.DictTable
import PyProof.ExcInit
import PyProof.ExcClass2
import PyProof.ExcBaseAll.ValueError
import OpenK.KOwn
import PyProof.RulesAs
import PyProof.NsDelKeeps
import OpenK.KMore
import PyProof.TupleOps
import PyProof.FactsAll.tuple_2
import PyProof.Rows.SetFrom
import PyProof.Rows.SortWalk
import PySem.Challenge.RW_sluiceway_k14_rules_read
set_option compiler.extract_closed false
set_option bootstrap.genMatcherCode false
set_option genSizeOf false
set_option Elab.async false
set_option linter.all false
set_option maxRecDepth 100000
open Option renaming some→xF,none→xG
open Bool renaming true→xH,false→xI
open List renaming map_cons→zV,mem_cons_of_mem→zW,length_append→zK,size_toArray→zY,length_cons→zz,mem_append_right→zj,mem_cons→zv,getElem?_eq_getElem→zk,length_map→zy,getElem?_eq_some_iff→z9,getElem?_append_right→zB,replicate→zE,getElem?_append_left→zH,map_nil→zL,getElem?_map→zM,mem_cons_self→zU,append_nil→qQ,append_assoc→qJ,set→qW,range→qK,mem_append→qY,getElem?_eq_none→qq,length_take→qz,length_drop→qj,getElem?_replicate→qx,filterMap_cons→qw,drop_of_length_le→qk,map_append→qy,mem_map→q0,all_eq_true→qA,lookup_cons→qB,take_of_length_le→qC,cons_append→qD,length→qE,drop_eq_getElem_cons→qH,mem_append_left→qI,mem_range→qM,getElem_mem→qO,take_length→qP,length_nil→qR,drop_append_of_le_length→qS,nil_append→qT,length_replicate→qU,take_append_drop→jQ,getElem?_set_ne→jZ,forall_mem_cons→jJ,eq_append_cons_of_mem→jX,getD_eq_getElem?_getD→jV,all_cons→jW,getElem?_take_of_lt→jK,append_cancel_left→jq,drop_drop→jj,getElem?_set→jx,range_succ_eq_map→jw,lookup→jk,drop_length→jy,range'→j0,nodup_cons→j3
open Nat renaming lt_of_lt_of_le→zZ,le_refl→zJ,le_trans→zx,lt_irrefl→zA,ne_of_lt→zG,lt_succ_self→zP,toDigits→q8,toDigits_of_lt_base→q9,le_succ→qF,le_of_ble_eq_true→qG,mul_le_mul_right→qL,lt_succ_of_lt→jv,pow_le_pow_right→j2,le_of_lt→j4,ne_of_gt→j5
open Int renaming emod_lt_of_pos→zO,emod_nonneg→qX
open Option renaming map_eq_some_iff→zC
open Bool renaming false_ne_true→zq,and_eq_true→zw,and_eq_true_iff→qV
open Array renaming getElem?_eq_some_iff→z0,length_toList→qN
open PySem.Heap renaming get?_push_of_some→zQ,lt_size→zX,get?_push_size→zD,get?_update_other→zN,get?_update_self→qZ,SameBut→jY,size_push→jz,get?_none_of_le→j1
open PySem renaming Addr→j6,Around→j7,Expr→j8,FuncData→j9,NameKind→jA,Program→jB,Scope→jC,Shared→jD,Stmt→jE,Value→jF,World→jG,assignEach→jH,attributeBase→jI,backTo→jL,behindInMarks→jM,binaryOp→jN,bootBuiltins→jO,codeAny_mono→jP,compareOp→jR,importedModules→jS,keywordEach→jT,letOwnedTupleGo→jU,mainGlobals→xQ,model→xZ,rawInt→xJ,sizeLine_eq→xX,sliceBounds→xV,starEach→xW,treeTable→xK,wpAny→xY,wpAny_Call_Name_kw→xq,wpAny_bind→xz,wpAny_field→xj,wpAny_holding→xk,wpAny_mono→xy,wpAny_newObj_type→x0,wpAny_passesOwn→x9,wpAny_pure→xA,wpAny_truthy_bool→xB
open PySem.W renaming Frag→xC,boot_heap→xD
set_option maxHeartbeats 0
noncomputable section
namespace _L
open PySem PySem.Spec PyProof.Rows
noncomputable def Eb(s:jE):Arguments:=match s with
 |.FunctionDef _ a _ _ _ _ _ _ _ _=>a
 |_=>{posonlyargs:=[],args:=[],vararg:=xG,kwonlyargs:=[],kw_defaults:=[],kwarg:=xG,defaults:=[]}
noncomputable def By(s:jE):List jE:=match s with
 |.FunctionDef _ _ b _ _ _ _ _ _ _=>b
 |_=>[]
noncomputable def Am(s:jE):jC:=match s with
 |.FunctionDef _ _ _ _ _ _ sc _ _ _=>sc
 |_=>{kind:=.function,names:=[],isGenerator:=xI,isCoroutine:=xI}
end _L
namespace _D
open PySem PySem.W _L
variable{h:Heap}{C:j6}{m x q:Str}{st:jE}{mg:Str->Option jF}
noncomputable def Ik:List Obj->Nat->xC
 |[],_=>[]
 |o::r,n=>match o.cls,o.data with
  |.none,.fields _=>Ik r (n+1)
  |_,.freed=>Ik r (n+1)
  |_,_=>(n,o)::Ik r (n+1)
def Lq(h:Heap):xC:=Ik h.objs.toList 0
noncomputable abbrev XtOf(l:OpenLaw)(q:jB)(s:jD):Bool:=xlAt q [] s&&recOk l.row.toRowW.records s
noncomputable def Ac(K:xC)(n:Str):j6:=match nsIn K xQ n with
 |some (xF (.ref f))=>f
 |_=>0
noncomputable def gOk(K:xC)(n:Str):Bool:=match nsIn K xQ n with
 |some (xF (.ref _))=>xH
 |_=>xI
noncomputable def Bs(K:xC)(C:j6)(m:Str):j6:=match findIn K (.ref C) m with
 |some (xF (.ref f))=>f
 |_=>0
noncomputable def mOk(K:xC)(C:j6)(m:Str):Bool:=match findIn K (.ref C) m with
 |some (xF (.ref f))=>isFn K (.ref f)
 |_=>xI
noncomputable def noF(K:xC)(C:j6)(m:Str):Bool:=match findIn K (.ref C) m with
 |some xG=>xH
 |_=>xI
noncomputable def zOk(K:xC)(n:Str):Bool:=match nsIn K xQ n with
 |some xG=>xH
 |_=>xI
noncomputable def Ou(K:xC)(C:j6):Bool:=match findIn K (.ref C) "__setattr__" with
 |some (xF (.builtin s))=>s == "object.__setattr__"
 |_=>xI
noncomputable def iOk(K:xC)(n:Str)(v:Int):Bool:=match nsIn K xQ n with
 |some (xF (.int u _))=>decide (u=v)
 |_=>xI
noncomputable def sOk(K:xC)(n:Str)(v:Str):Bool:=match nsIn K xQ n with
 |some (xF (.str u _))=>decide (u=v)
 |_=>xI
noncomputable def Du(K:xC)(f:j6):Obj:=match K.lookup f with
 |some o=>o
 |none=>⟨.none,xG,.plain,#[]⟩
def Av(K:xC)(f:j6):j9:=match(Du K f).data with
 |.func fd=>fd
 |_=>default
noncomputable def ZII:jF->Bool
 |.none=>xH
 |_=>xI
noncomputable def ZEv:FuncBody->Option (List jE)
 |.stmts b=>xF b
 |_=>xG
def Od(K:xC)(x q:Str)(f:j6):Bool:=match K.lookup f with
 |some ⟨_,_,.func fd,_⟩=>decide (fd.name=x)&&decide (fd.qualname=q)&&(fd.globals==xQ&&fd.builtins==builtinsNs&&fd.closure.isEmpty&&ZII fd.defaults)&&(codeIn K fd.code q&&keepIn K (.ref f))
 |_=>xI
noncomputable abbrev DefTxt:=Arguments×Option (List jE)×jC
def Hu(K:xC)(f:j6):DefTxt:=((Av K f).params,ZEv (Av K f).body,(Av K f).scope)
def Hw(st:jE):DefTxt:=(Eb st,xF (By st),Am st)
noncomputable def dfl(K:xC)(d:jF)(v:Int):Bool:=match d with
 | .ref T=>match K.lookup T with
  | some o=>(match o.data with
   |.seq a _=>(match a.toList with
    |[.int i _]=>decide (i=v)
    |_=>xI)
   |_=>xI)
  |none=>xI
 |_=>xI
def Qu(K:xC)(x q:Str)(f:j6)(v:Int):Bool:=match K.lookup f with
 |some ⟨_,_,.func fd,_⟩=>decide (fd.name=x)&&decide (fd.qualname=q)&&(fd.globals==xQ&&fd.builtins==builtinsNs&&fd.closure.isEmpty&&dfl K fd.defaults v)&&(codeIn K fd.code q&&keepIn K (.ref f))
 |_=>xI
noncomputable def strsOf:List jF->Option (List Str)
 |[]=>xF []
 |.str s _::r=>(strsOf r).map (s::·)
 |_::_=>xG
def Tq(K:xC)(n:Str)(vs:List Str):Bool:=match nsIn K xQ n with
 | some (xF (.ref p))=>(match K.lookup p with
   |some ⟨.type t,_,.seq its _,_⟩=>t == "tuple"&&decide (strsOf its.toList=xF vs)&&Nat.ble its.toList.length 1000
   |_=>xI)
 |_=>xI
def Tp(K:xC)(n:Str)(kvs:List (Str×Str)):Bool:=match nsIn K xQ n with
 | some (xF (.ref p))=>(match K.lookup p with
   |some ⟨.type t,_,.dict es _,_⟩=>t == "dict" && !(p==sysModules)&&decide (strsOf (es.toList.map (·.key))=xF (kvs.map (·.1)))&&decide (strsOf (es.toList.map (·.val))=xF (kvs.map (·.2)))
   |_=>xI)
 |_=>xI
inductive Ask where
 |fn (n:Str) (st:jE)
 |mt (c m q:Str) (st:jE)
 |cl (c:Str)
 |no (c x:Str)
 |z (n:Str)
 |gi (n:Str) (v:Int)
 |gs (n v:Str)
 |gt (n:Str) (vs:List Str)
 |gd (n:Str) (kvs:List (Str×Str))
 |ck (φ:xC->Bool)
 |fd (n:Str) (st:jE) (v:Int)
def Ask.chk(K:xC):Ask->Bool
 |.fn n _=>gOk K n&&Od K n n (Ac K n)
 |.mt c m q _=>mOk K (Ac K c) m&&Od K m q (Bs K (Ac K c) m)
 |.cl c=>gOk K c&&(plainGet K (Ac K c) Str.empty&&hasDictIn K (Ac K c)&&plainOver K (Ac K c))&&(Ou K (Ac K c)&&makesIn K (Ac K c)&&keepIn K (.ref (Ac K c)))
 |.no c x=>noF K (Ac K c) x
 |.z n=>zOk K n
 |.gi n v=>iOk K n v
 |.gs n v=>sOk K n v
 |.gt n vs=>Tq K n vs
 |.gd n kvs=>Tp K n kvs
 |.ck φ=>φ K
 |.fd n _ v=>gOk K n&&Qu K n n (Ac K n) v
def Ask.txt(K:xC):Ask->Option DefTxt
 |.fn n _=>xF (Hu K (Ac K n))
 |.mt c m _ _=>xF (Hu K (Bs K (Ac K c) m))
 |.fd n _ _=>xF (Hu K (Ac K n))
 |_=>xG
def Ask.want:Ask->Option DefTxt
 |.fn _ st=>xF (Hw st)
 |.mt _ _ _ st=>xF (Hw st)
 |.fd _ st _=>xF (Hw st)
 |_=>xG
def Qo(l:List Ask)(h:Heap):Bool×List (Option DefTxt):=(l.all (Ask.chk (Lq h)),l.map (Ask.txt (Lq h)))
noncomputable abbrev U9(l:List Ask):Bool×List (Option DefTxt):=(xH,l.map Ask.want)
noncomputable def Ms(p:jB)(w:jG)(n₀:Nat)(ann:Option jF):Nat->SharedT->Thread->Option SharedT
 |0,_,_=>xG
 | n+1,s,t=>match through t with
  |true=>xF s
  | false=>match PySem.W.Fast.tw6613529449190102663 n₀ ann t with
   |false=>xG
   |true=>match PySem.W.Fast.tw10156331382660048174 (PySem.W.Fast.tw11892475500146522536 PySem.W.Fast.tw14364793385576792824) p w s t with
    |some (s',t')=>Ms p w n₀ ann n s' t'
    |none=>xG
noncomputable def ZAY:List Obj->Nat->BT->BT
 |[],_,t=>t
 |o::r,n,t=>ZAY r (n+1) (t.ins n o)
def ZAD(w:jG)(os:OsState):SharedT:=⟨ZAY (xD w.params).objs.toList 0 .nil,(xD w.params).objs.size,(xD w.params).life,Array.mk [],boot_drawn,boot_toks,os⟩
def Rk(p:jB)(w:jG)(os:OsState):Option SharedT:=Ms p w (xD w.params).objs.size (PySem.W.Fast.tw8920871248978507458 (xD w.params) xQ "__annotations__") 100000 (ZAD w os) (topStub p)
noncomputable def Rz(p:jB)(w:jG)(s:jD):Bool:=staticsOk (PySem.W.Fast.tw5923862056798008813 p.main.body) (xD w.params) s.heap&&namesBound p s.heap&&gensDone s&&laidKept (xD w.params) s.heap
noncomputable abbrev vmro:List jF:=[.type "ValueError",.type "Exception",.type "BaseException",.type "object"]
def Ft(K:PySem.W.Frag)(C:j6):Bool:=match K.lookup C with
 |some ⟨.type "type",_,.cls cd,sl⟩=>(match cd.mro,sl.toList with
  |.ref C'::bm,[_,_,_,_,xF (.builtin n),_]=>C'==C&&n == "ValueError.__new__" && !cd.hasDel&&cd.hasDict&&PySem.W.tailIn K vmro bm&&PySem.W.nsOkIn K cd.ns
  |_,_=>xI)
 |_=>xI
noncomputable def Ij(K:PySem.W.Frag)(C f:j6):Bool:=match K.lookup C with
 |some ⟨_,_,.cls cd,_⟩=>PySem.W.nsIn K cd.ns "__init__"==xF (xF (.ref f))
 |_=>xI
noncomputable def tyN:jF->String
 |.type n=>n
 |_=>""
noncomputable def isRf:jF->Bool
 |.ref _=>xH
 |_=>xI
def M7:List jF->Bool
 |[]=>xI
 |a::r=>(isRf a&&M7 r)||decide ((a::r).map tyN=["ValueError","Exception","BaseException","object"])
def Mt(K:PySem.W.Frag)(C:j6):Bool:=(PySem.W.clsIn K C).any λcd=>M7 cd.mro
def takes(K:PySem.W.Frag)(C W:j6):Bool:=Ft K C&&Ft K W&&match K.lookup C with
 |some ⟨_,_,.cls cd,_⟩=>cd.mro.contains (.ref W)
 |_=>xI
noncomputable def isB(r:Option (Option jF))(n:String):Bool:=match r with
 |some (xF (.builtin m))=>m==n
 |_=>xI
noncomputable def Aw(r:Option Bool)(b:Bool):Bool:=match r with
 |some c=>c==b
 |_=>xI
noncomputable def Nh{α:Type}(r:Option (Option α)):Bool:=match r with
 |some xG=>xH
 |_=>xI
noncomputable def Tg(K:xC)(a:j6):Bool:=match K.lookup a with
 |some ⟨.type t,_,_,_⟩=>t == "function"
 |_=>xI
def Qe(c f:Str)(K:xC):Bool:=gOk K c&&keepIn K (.ref (Ac K c))&&(Ft K (Ac K c)&&Ou K (Ac K c)&&Mt K (Ac K c)&&Nh (takerIn K (Ac K c) f)&&hasDictIn K (Ac K c))&&Ij K (Ac K c) (Bs K (Ac K c) "__init__")&&Tg K (Bs K (Ac K c) "__init__") &&
 (isB (findIn K (.ref (Ac K c)) "__getattribute__") "BaseException.__getattribute__"&&Nh (findIn K (.ref (Ac K c)) "__getattr__")&&Aw (subIn K (.ref (Ac K c)) (.type "BaseException")) xH&&isB (findIn K (.ref (Ac K c)) "__class__") "object.__class__" &&
  isB (specialIn K (.builtin "object.__class__") "__get__") "getset_descriptor.__get__"&&Aw (takesIn K (.builtin "object.__class__")) xH&&Aw (mroIn K (Ac K c) (.type "object")) xH&&Aw (kitCls K (.ref (Ac K c)) (.ref (Ac K c))) xH)&&noF K (Ac K c) f
noncomputable def Py(r:Option CFound)(n:String):Bool:=match r with
 |some (.val (.builtin m))=>m==n
 |_=>xI
def Sv(x:Str)(K:xC):Bool:=gOk K x&&isB (specialIn K (.ref (Ac K x)) "__getattribute__") "type.__getattribute__"&&readsIn K (Ac K x) (.type "type")&&Py (findCls K (.ref (Ac K x)) (.type "type") "__init__") "ValueError.__init__"
end _D
namespace _W
open PySem PySem.W _L _D
noncomputable def top(i:Nat):jE:=PySem.Challenge.pw_sluiceway_k14_rules_read.main.body.getD i (.Pass ⟨0,0,0,0⟩)
noncomputable def inC(s:jE)(j:Nat):jE:=match s with
 |.ClassDef _ _ _ body _ _ _ _ _ _ _=>body.getD j (.Pass ⟨0,0,0,0⟩)
 |_=>.Pass ⟨0,0,0,0⟩
noncomputable abbrev Rt:=inC (top 8) 0
noncomputable abbrev T7:=top 30
noncomputable abbrev Tt:=top 27
noncomputable abbrev Uk:=top 29
noncomputable abbrev Ra:=top 31
noncomputable abbrev Pn:=top 34
noncomputable abbrev R8:=top 35
noncomputable abbrev Tv:=top 28
noncomputable abbrev Mi:=top 25
noncomputable abbrev Rh:=top 24
noncomputable abbrev Sq:=top 23
noncomputable abbrev Q3:=top 22
noncomputable abbrev Uc:=top 21
noncomputable abbrev Pq:=top 20
noncomputable abbrev Qn:=top 19
noncomputable abbrev S7:=top 40
noncomputable abbrev Rf:=top 36
noncomputable abbrev R4:=top 37
noncomputable abbrev Rc:=top 38
noncomputable abbrev Tf:=top 39
noncomputable abbrev T3:=top 33
noncomputable abbrev Ub:=top 32
noncomputable abbrev Ea:=top 41
def asks:List Ask:=[.fn "_law_any" T7,.fn "_law_cell_at" Tt,.fn "_law_stream" Uk,.fn "_law_any_rule" Ra,.fn "_law_changed" Pn,.fn "_law_marked" R8,.fn "_law_whole" Tv,.fn "is_number" Mi,.fn "number_in" Rh,.fn "step_in" Sq,.fn "stairs_in" Q3,.fn "season_in" Uc,.fn "rule_in" Pq,.fn "read_rule" Qn,.fn "_law_no_rule" S7,.fn "_law_end" Rf,.fn "_law_step" R4,.fn "_law_season" Rc,.fn "_law_reading" Tf,.fn "_law_rule_like" T3,.fn "_law_rule_text" Ub,.fn "law" Ea,.z "ValueError",.z "all",.z "any",.z "bool",.z "int",.z "isinstance",.z "len",.z "max",.z "range",.z "str",.z "tuple",.gs "FIGURES" "0123456789",.gi "MOST_FIGURES" 40,.gt "WAYS" ["river","pump"],.mt "NoText" "__init__" "NoText.__init__" Rt,.ck (Qe "NoText" "row"),.ck (Sv "WaterError"),.ck (λK=>gOk K "NoAsk"),.ck (λK=>gOk K "NoBounds"),.ck (λK=>gOk K "NoHouse"),.ck (λK=>gOk K "NoLevel"),.ck (λK=>gOk K "NoName"),.ck (λK=>gOk K "NoNumber"),.ck (λK=>gOk K "NoPump"),.ck (λK=>gOk K "NoRiver"),.ck (λK=>gOk K "NoRow"),.ck (λK=>gOk K "NoRule"),.ck (λK=>gOk K "NoText"),.ck (λK=>gOk K "NoWay"),.ck (λK=>gOk K "TooLong"),.ck (λK=>gOk K "WaterError"),.ck (λK=>takes K (Ac K "NoText") (Ac K "WaterError")),.ck (λK=>Aw (PySem.W.kitOne K (.ref (Ac K "NoText")) (.ref (Ac K "NoAsk"))) xI),.ck (λK=>Aw (PySem.W.kitOne K (.ref (Ac K "NoText")) (.ref (Ac K "NoBounds"))) xI),.ck (λK=>Aw (PySem.W.kitOne K (.ref (Ac K "NoText")) (.ref (Ac K "NoHouse"))) xI),.ck (λK=>Aw (PySem.W.kitOne K (.ref (Ac K "NoText")) (.ref (Ac K "NoLevel"))) xI),.ck (λK=>Aw (PySem.W.kitOne K (.ref (Ac K "NoText")) (.ref (Ac K "NoName"))) xI),.ck (λK=>Aw (PySem.W.kitOne K (.ref (Ac K "NoText")) (.ref (Ac K "NoNumber"))) xI),.ck (λK=>Aw (PySem.W.kitOne K (.ref (Ac K "NoText")) (.ref (Ac K "NoPump"))) xI),.ck (λK=>Aw (PySem.W.kitOne K (.ref (Ac K "NoText")) (.ref (Ac K "NoRiver"))) xI),.ck (λK=>Aw (PySem.W.kitOne K (.ref (Ac K "NoText")) (.ref (Ac K "NoRow"))) xI),.ck (λK=>Aw (PySem.W.kitOne K (.ref (Ac K "NoText")) (.ref (Ac K "NoRule"))) xI),.ck (λK=>Aw (PySem.W.kitOne K (.ref (Ac K "NoText")) (.ref (Ac K "NoText"))) xH),.ck (λK=>Aw (PySem.W.kitOne K (.ref (Ac K "NoText")) (.ref (Ac K "NoWay"))) xI),.ck (λK=>Aw (PySem.W.kitOne K (.ref (Ac K "NoText")) (.ref (Ac K "TooLong"))) xI),.ck (λK=>Aw (PySem.W.kitOne K (.ref (Ac K "NoText")) (.type "ValueError")) xH)]
abbrev rw_:OpenLaw:=PySem.Challenge.rw_sluiceway_k14_rules_read
abbrev pw:jB:=OpenLaw.prog PySem.Challenge.rw_sluiceway_k14_rules_read
def vw:jB:=view pw (qK 42)
theorem ZH9b:∀w os,(Rk pw w os).map (λs=>PySem.W.Fast.tw4187177175401517315 vw [] (PySem.W.Fast.tw5923862056798008813 pw.main.body) (XtOf rw_ vw) xH s.abs)=xF (openGood vw []):=λw os=>by kernel_rfl
theorem ZH9a:∀w os,(Rk pw w os).map (λs=>(Rz pw w s.abs,Qo asks s.abs.heap))=xF (xH,U9 asks):=λw os=>by kernel_rfl
theorem ZH9:∀w os,(Rk pw w os).map (λs=>(Rz pw w s.abs,PySem.W.Fast.tw4187177175401517315 vw [] (PySem.W.Fast.tw5923862056798008813 pw.main.body) (XtOf rw_ vw) xH s.abs,Qo asks s.abs.heap))=xF (xH,openGood vw [],U9 asks):=λw os=>by
 have h1:=ZH9b w os
 have h2:=ZH9a w os
 revert h1 h2
 generalize Rk pw w os=o
 intro h1 h2
 cases o with
 |none=>cases h2
 |some s=>exact congrArg some (Prod.ext (Prod.mk.inj (Option.some.inj h2)).1 (Prod.ext (Option.some.inj h1) (Prod.mk.inj (Option.some.inj h2)).2))
end _W
namespace _L
open PySem PySem.Spec PyProof.Rows
variable{us:List jF}{a b:j6}{w:jG}{h base:Heap}{t' i k:Nat}{ch fp:List j6}{x:Str}{u:jF}{Q:Unit->jD->Prop}{e tg:j8}{A:j7}{E:jF->jD->Prop}{s:jD}{xE:List (j6×Obj)}{K:PySem.W.Frag}{body:List jE}{f:jF->jF->Sem jF}{op:CmpOp}{mg:Str->Option jF}{kindOf:Str->Option jA}
noncomputable abbrev Key:=Sum Int Str
def Vb:Key->jF->Bool
 |.inl k,v=>Value.isInt k v
 |.inr x,v=>Value.isStrOf x v
def keyH(w:jG):Key->Int
 |.inl k=>hashInt k
 |.inr x=>hashStr w x
theorem Gh:∀{k:Key}{v:jF},Vb k v=xH->(∃i t,k=Sum.inl i/\v=Value.int i t)∨(∃x t,k=Sum.inr x/\v=Value.str x t)
 |.inl i,v,h=>by obtain⟨t,e⟩:=Value.isInt_shape (k:=i) (v:=v) h;exact .inl ⟨i,t,rfl,e⟩
 |.inr x,v,h=>by obtain⟨t,e⟩:=Value.isStrOf_shape (x:=x) (v:=v) h;exact .inr ⟨x,t,rfl,e⟩
theorem ZHX(a b:Int):decide ((Sum.inl a:Key)=Sum.inl b)=(a==b):=by
 by_cases e:a=b
 ·subst e;simp
 ·have h:¬(Sum.inl a:Key)=Sum.inl b:=λq=>e (Sum.inl.inj q)
  rw[decide_eq_false h];exact(beq_eq_false_iff_ne.mpr e).symm
theorem ZIM(a b:Str):decide ((Sum.inr a:Key)=Sum.inr b)=decide (a=b):=by
 by_cases e:a=b
 ·subst e;simp
 ·have h:¬(Sum.inr a:Key)=Sum.inr b:=λq=>e (Sum.inr.inj q)
  rw[decide_eq_false h,decide_eq_false e]
theorem ZEK(a:Int)(b:Str):decide ((Sum.inl a:Key)=Sum.inr b)=xI:=decide_eq_false (λq=>nomatch q)
theorem ZEO(a:Str)(b:Int):decide ((Sum.inr a:Key)=Sum.inl b)=xI:=decide_eq_false (λq=>nomatch q)
def ZAb(prog:jB)(w:jG):PySem.KeyKind prog w Key where
 is:=Vb
 hash:=keyH w
 inj:=λv a b ha hb=>by
  rcases Gh ha with⟨i,t,rfl,rfl⟩|⟨x,t,rfl,rfl⟩
  ·rcases Gh hb with⟨j,u,rfl,e⟩|⟨y,u,rfl,e⟩
   ·injection e with e1 _;rw[e1]
   ·exact nomatch e
  ·rcases Gh hb with⟨j,u,rfl,e⟩|⟨y,u,rfl,e⟩
   ·exact nomatch e
   ·injection e with e1 _;rw[e1]
 byValue:=λk v h=>by rcases Gh h with⟨i,t,rfl,rfl⟩|⟨x,t,rfl,rfl⟩<;>rfl
 pyHash:=λhv h=>by
  rcases Gh hv with⟨i,t,rfl,rfl⟩|⟨x,t,rfl,rfl⟩
  ·exact wpAny_pyHash_int h
  ·exact wpAny_pyHash_str h
 eqBool:=λhu hv h=>by
  rcases Gh hu with⟨i,t,rfl,rfl⟩|⟨x,t,rfl,rfl⟩
  ·rcases Gh hv with⟨j,u,rfl,rfl⟩|⟨y,u,rfl,rfl⟩
   ·rw[ZHX]at h;exact wpAny_eqBool_int h
   ·rw[ZEK]at h;exact SeqAt.EqAt.int_str i t y u _ _ _ _ h
  ·rcases Gh hv with⟨j,u,rfl,rfl⟩|⟨y,u,rfl,rfl⟩
   ·rw[ZEO]at h;exact SeqAt.EqAt.str_int x t j u _ _ _ _ h
   ·rw[ZIM]at h;exact wpAny_eqBool_str h
 «strs»:=λk x t v h=>by
  rcases Gh h with⟨i,u,rfl,e⟩|⟨y,u,rfl,e⟩
  ·exact nomatch e
  ·injection e with e1 _
   subst e1
   cases v<;>rfl
inductive V where
 |non|bl (b:Bool)|int (i:Int)|str (x:Str)|byt (b:Array UInt8)|flt (b:UInt64)|ref (a:j6)|ty (n:String)
 deriving DecidableEq
variable{v:V}
def RelV:V->jF->Prop
 |.non,u=>u=Value.none
 |.bl b,u=>u=Value.bool b
 |.int i,u=>∃t,u=Value.int i t
 |.str x,u=>∃t,u=Value.str x t
 |.byt b,u=>∃t,u=Value.bytes b t
 |.flt b,u=>∃t,u=Value.float b t
 |.ref a,u=>u=Value.ref a
 |.ty n,u=>u=Value.type n
abbrev Vals:List V->List jF->Prop:=Paired RelV
theorem Vals.length{xs:List V}(r:Vals xs us):xs.length=us.length:=Paired.length r
theorem Vals.get:∀{xs:List V}{us:List jF}{i:Nat}{x:V},Vals xs us->xs[i]?=xF x->∃u,us[i]?=xF u/\RelV x u
 |_,_,_,_,.nil,e=>by simp at e
 |_,_,0,_,.cons r _,e=>by simp at e;subst e;exact⟨_,rfl,r⟩
 |_,_,i+1,x,.cons _ t,e=>by obtain⟨u,h1,h2⟩:=Vals.get (i:=i) (x:=x) t (by simpa using e);exact⟨u,by simpa using h1,h2⟩
theorem Vals.append:∀{xs ys:List V}{us ws:List jF},Vals xs us->Vals ys ws->Vals (xs++ys) (us++ws)
 |_,_,_,_,.nil,s=>s
 |_,_,_,_,.cons r t,s=>.cons r (Vals.append t s)
theorem Vals.take:∀{xs:List V}{us:List jF}(n:Nat),Vals xs us->Vals (xs.take n) (us.take n)
 |_,_,0,_=>.nil
 |_,_,_+1,.nil=>.nil
 |_,_,n+1,.cons r t=>.cons r (Vals.take n t)
theorem Vals.drop:∀{xs:List V}{us:List jF}(n:Nat),Vals xs us->Vals (xs.drop n) (us.drop n)
 |_,_,0,r=>r
 |_,_,_+1,.nil=>.nil
 |_,_,n+1,.cons _ t=>Vals.drop n t
def RelO:Option V->Option jF->Prop
 |some v,xF u=>RelV v u
 |none,xG=>True
 |_,_=>False
def KV{κ:Type}:List (κ×V)->List (κ×jF)->Prop:=Paired λ(p:κ×V)(q:κ×jF)=>p.1=q.1/\RelV p.2 q.2
def kV:Key->V
 |.inl i=>.int i
 |.inr x=>.str x
inductive HO where
 |lst (xs:List V)
 |tup (xs:List V)
 |dK (kvs:List (Key×V))|dT (kvs:List (List Key×V))
 |set (S:Int->Bool) (n:Nat)
 |ins (C dx:j6) (fs:List (Str×V))
 |own (x:j6)
 |xd (fs:List (Str×V))
 |met (f x:j6)
 |rng (lo hi:Int)
 |frz (o:Obj) (u:HO)
 |tbl (ps:Array jF)
 |ext (φ:Heap->Prop)
variable{o:HO}
noncomputable abbrev Hp:=j6->Option HO
variable{H:Hp}
noncomputable def upd(H:Hp)(a:j6)(o:HO):Hp:=λb=>if b=a then xF o else H b
theorem En:upd H a o a=xF o:=by unfold upd;rw[if_pos rfl]
theorem Al(h:b≠a):upd H a o b=H b:=by unfold upd;rw[if_neg h]
theorem Dn(h:H a=xF o)(h':H b=xG):a≠b:=by intro e;subst e;rw[h]at h';cases h'
section
variable(P:jB)(w:jG)
def ObjOk(H:Hp)(h:Heap)(a:j6):HO->Prop
 |.lst xs=>xs.length<=sizeLine/\∃(its:List jF)(n:Nat),Vals xs its/\h.get? a=xF {cls:=.type "list",data:=.seq its.toArray n}
 |.tup xs=>xs.length<=sizeLine/\∃its:List jF,Vals xs its/\IsTup h a its.toArray
 |.dK kvs=>kvs.length<=sizeLine/\(a==sysModules)=xI/\∃vs,KV kvs vs/\h.DictOf (ZAb P w) a vs
 | .dT kvs=>kvs.length<=sizeLine/\(a==sysModules)=xI/\∃xs:List (List Key×j6×jF),
   Paired (λ(p:List Key×V)(q:List Key×j6×jF)=>p.1=q.1/\H q.2.1=xF (.tup (p.1.map kV))/\RelV p.2 q.2.2) kvs xs/\
   ∃o es ep,h.get? a=xF o/\o.ExactDict/\o.data=.dict es ep/\es.toList=xs.map (entryOfKey (tupleKind (ZAb P w)))/\(xs.map (·.1)).Nodup
 |.set S n=>h.SetOf (intKind P w) a S n
 | .ins C dx fs=>H dx=xF (.own a)/\fs.length<=1000/\dx≠a/\h.get? a=xF (PySem.W.instObj C dx)/\
   ∃mA,h.Ns1 dx mA/\(∀f,RelO (fs.lookup f) (mA f))/\PySem.Within mA (fs.map (·.1))
 |.own _=>∃o,h.get? a=xF o
 |.xd fs=>∃mA,h.Ns1 a mA/\∀f,RelO (fs.lookup f) (mA f)
 |.rng lo hi=>∃t u v,h.get? a=xF {cls:=.type "range",data:=.fields #[.int lo t,.int hi u,.int 1 v]}
 |.frz o u=>h.get? a=xF o/\ObjOk H h a u
 |.tbl ps=>h.get? a=xF {cls:=.none,data:=.fields ps}
 |.met f x=>h.get? a=xF (PySem.W.methodObj (.ref f) (.ref x))
 |.ext φ=>φ h/\(∃o,h.get? a=xF o)/\∀h1 h2:Heap,φ h1->(∀o,h1.get? a=xF o->h2.get? a=xF o)->φ h2
def HOk(H:Hp)(h:Heap):Prop:=∀a o,H a=xF o->ObjOk P w H h a o
end
section
variable{P:jB}{w:jG}{H H':Hp}{h h':Heap}{a:j6}{o:HO}
theorem ObjOk.lt(x:ObjOk P w H h a o):a<h.objs.size:=by
 cases o with
 |lst xs=>obtain⟨_,_,_,_,e⟩:=x;exact zX e
 |tup xs=>obtain⟨_,_,_,p⟩:=x;exact p.lt
 |dK kvs=>obtain⟨_,_,_,_,o,_,_,e,_⟩:=x;exact zX e
 |dT kvs=>obtain⟨_,_,_,_,o,_,_,e,_⟩:=x;exact zX e
 |set S n=>obtain⟨o,_,_,_,e,_⟩:=x;exact zX e
 |ins C dx fs=>obtain⟨_,_,_,e,_⟩:=x;exact zX e
 |own y=>obtain⟨_,e⟩:=x;exact zX e
 |xd fs=>obtain⟨_,⟨_,_,_,e,_⟩,_⟩:=x;exact zX e
 |rng lo hi=>obtain⟨_,_,_,e⟩:=x;exact zX e
 |frz ob u=>obtain⟨e,_⟩:=x;exact zX e
 |tbl ps=>exact zX (show h.get? a=xF _ from x)
 |met f y=>exact zX (show h.get? a=xF _ from x)
 |ext φ=>obtain⟨_,⟨_,e⟩,_⟩:=x;exact zX e
theorem Paired.mapP{α β:Type}{F G:α->β->Prop}:∀{l₁:List α}{l₂:List β},Paired F l₁ l₂->(∀a b,F a b->G a b)->Paired G l₁ l₂
 |_,_,.nil,_=>.nil
 |_,_,.cons r t,f=>.cons (f _ _ r) (Paired.mapP t f)
theorem ObjOk.stay(x:ObjOk P w H h a o)(k:∀b u,(b=a∨H b=xF (.own a))->h.get? b=xF u->h'.get? b=xF u)
  (ho:∀b,H b=xF (.own a)->H' b=xF (.own a)) (ht:∀b xs,H b=xF (.tup xs)->H' b=xF (.tup xs)):ObjOk P w H' h' a o:=by
 induction o with
 |lst xs=>obtain⟨z,its,n,r,e⟩:=x;exact⟨z,its,n,r,k _ _ (.inl rfl) e⟩
 |tup xs=>obtain⟨z,its,r,ob,e,c⟩:=x;exact⟨z,its,r,ob,k _ _ (.inl rfl) e,c⟩
 |dK kvs=>obtain⟨z,y,vs,r,ob,es,ep,e,c⟩:=x;exact⟨z,y,vs,r,ob,es,ep,k _ _ (.inl rfl) e,c⟩
 |dT kvs=>
  obtain⟨z,y,xs,r,ob,es,ep,e,c⟩:=x;exact⟨z,y,xs,Paired.mapP r λp q z=>⟨z.1,ht _ _ z.2.1,z.2.2⟩,ob,es,ep,k _ _ (.inl rfl) e,c⟩
 |set S n=>obtain⟨ob,es,ep,t,e,c⟩:=x;exact⟨ob,es,ep,t,k _ _ (.inl rfl) e,c⟩
 |ins C dx fs=>
  obtain⟨d,z,ne,e,mA,⟨od,es,ep,e2,c⟩,r⟩:=x;exact⟨ho _ d,z,ne,k _ _ (.inl rfl) e,mA,⟨od,es,ep,k _ _ (.inr d) e2,c⟩,r⟩
 |own y=>obtain⟨ob,e⟩:=x;exact⟨ob,k _ _ (.inl rfl) e⟩
 |xd fs=>obtain⟨mA,⟨od,es,ep,e,c⟩,r⟩:=x;exact⟨mA,⟨od,es,ep,k _ _ (.inl rfl) e,c⟩,r⟩
 |rng lo hi=>obtain⟨t,u,v,e⟩:=x;exact⟨t,u,v,k _ _ (.inl rfl) e⟩
 |frz ob u ih=>obtain⟨e,q⟩:=x;exact⟨k _ _ (.inl rfl) e,ih q⟩
 |tbl ps=>
  have e:h.get? a=xF {cls:=.none,data:=.fields ps}:=x;show h'.get? a=xF {cls:=.none,data:=.fields ps};exact k a _ (.inl rfl) e
 |met f y=>
  have e:h.get? a=xF (PySem.W.methodObj (.ref f) (.ref y)):=x;show h'.get? a=xF (PySem.W.methodObj (.ref f) (.ref y));exact k a _ (.inl rfl) e
 |ext φ=>obtain⟨p,⟨o,e⟩,st⟩:=x;exact⟨st _ _ p λo q=>k _ _ (.inl rfl) q,⟨o,k _ _ (.inl rfl) e⟩,st⟩
theorem HOk.lt(x:HOk P w H h)(e:H a=xF o):a<h.objs.size:=(x a o e).lt
theorem HOk.fresh(x:HOk P w H h)(e:h.objs.size<=a):H a=xG:=by
 cases q:H a with
 |none=>rfl
 |some u=>exact absurd (zZ (x.lt q) e) (zA _)
theorem HOk.kept(x:HOk P w H h)(k:∀b u,h.get? b=xF u->h'.get? b=xF u):HOk P w H h':=λa o e=>
 (x a o e).stay (λb u _ q=>k b u q) (λ_ q=>q) λ_ _ q=>q
theorem HOk.laid(x:HOk P w H h)(k:∀b u,h.get? b=xF u->h'.get? b=xF u)(hp:h.objs.size<=a)(new:ObjOk P w (upd H a o) h' a o):HOk P w (upd H a o) h':=λb u e=>by
 have hn:=x.fresh hp;by_cases hb:b=a
 ·subst hb;rw[En]at e;cases e;exact new
 ·rw[Al hb]at e;exact(x b u e).stay (λc v _ q=>k c v q) (λc q=>by rw[Al (Dn q hn)];exact q) λc xs q=>by rw[Al (Dn q hn)];exact q
end
def Rd(H:Hp)(a:j6)(u:HO):Prop:=H a=xF u∨∃o,H a=xF (.frz o u)
theorem Rd.ok{P:jB}{u:HO}(r:Rd H a u)(x:HOk P w H h):ObjOk P w H h a u:=by
 rcases r with r|⟨o,r⟩
 ·exact x a u r
 ·obtain⟨_,q⟩:=x a _ r;exact q
def Mut:Option HO->Prop
 |some (.lst _)=>True
 |some (.dK _)=>True
 |some (.dT _)=>True
 |some (.set _ _)=>True
 |some (.ins _ _ _)=>True
 |some (.ext _)=>True
 |_=>False
section
variable{P:jB}{w:jG}{H:Hp}{h h':Heap}{x e:j6}{o':HO}
theorem HOk.write(ok:HOk P w H h)(mu:Mut (H x))(he:e=x∨H e=xF (.own x))(k:∀b u,b≠e->h.get? b=xF u->h'.get? b=xF u)(heo:∃u,h'.get? e=xF u)
  (new:ObjOk P w (upd H x o') h' x o'):HOk P w (upd H x o') h':=λb u q=>by
 have nown:∀c y,H c=xF (.own y)->c≠x:=λc y r z=>by subst z;rw[r]at mu;exact mu
 have ntup:∀c xs,H c=xF (.tup xs)->c≠x:=λc xs r z=>by subst z;rw[r]at mu;exact mu
 by_cases hb:b=x
 ·subst hb;rw[En]at q;cases q;exact new
 ·rw[Al hb]at q;by_cases hbe:b=e
  ·have q':H b=xF (.own x):=by
    rcases he with z|z
    ·exact absurd (hbe.trans z) hb
    ·rw[hbe];exact z
   rw[q]at q';cases q';obtain⟨v,hv⟩:=heo;exact⟨v,by rw[hbe];exact hv⟩
  ·refine(ok b u q).stay (λc v hc r=>k c v ?_ r) (λc r=>by rw[Al (nown c b r)];exact r) λc xs r=>by rw[Al (ntup c xs r)];exact r
   rcases hc with rfl|hc
   ·exact hbe
   ·rintro rfl;rcases he with z|z
    ·exact nown c b hc z
    ·rw[hc]at z;cases z;exact hb rfl
end
structure Un (fs ex:List j6) (H H':Hp) (h h':Heap):Prop where
 keep:∀b o,h.get? b=xF o->H b=xG->b∉fs->b∉ex->h'.get? b=xF o
 slot:∀b o,h.get? b=xF o->H b=xG->b∈fs->b∉ex->∃sl,h'.get? b=xF {o with slots:=sl}
 free:∀b o,h.get? b=xF o->H b=xG->b∉ex->H' b=xG
 there:∀b o,h.get? b=xF o->b∉ex->∃o',h'.get? b=xF o'
 tups:∀b xs,H b=xF (.tup xs)->H' b=xF (.tup xs)
 frzs:∀b o u,H b=xF (.frz o u)->H' b=xF (.frz o u)
 tbls:∀b ps,H b=xF (.tbl ps)->∃more,H' b=xF (.tbl (ps++more))
section
variable{fs fs' ex ex':List j6}{H H1 H2:Hp}{h h1 h2 h':Heap}{a x e:j6}{o:HO}
theorem Un.any(u:Un fs ex H H1 h h1){ob:Obj}(q:h.get? b=xF ob)(n:H b=xG)(hx:b∉ex):∃sl,h1.get? b=xF {ob with slots:=sl}:=by
 by_cases hb:b∈fs
 ·exact u.slot b ob q n hb hx
 ·exact⟨ob.slots,u.keep b ob q n hb hx⟩
theorem Un.kept(k:∀b u,h.get? b=xF u->h'.get? b=xF u):Un fs ex H H h h':=
 ⟨λb ob q _ _ _=>k b ob q,λb ob q _ _ _=>⟨ob.slots,k b ob q⟩,λ_ _ _ n _=>n,λb ob q _=>⟨ob,k b ob q⟩,λ_ _ q=>q,λ_ _ _ q=>q,λ_ ps q=>⟨#[],by rw[q];simp⟩⟩
theorem Un.refl:Un fs ex H H h h:=Un.kept λ_ _ q=>q
theorem Un.laid(k:∀b u,h.get? b=xF u->h'.get? b=xF u)(hp:h.objs.size<=a)(hn:H a=xG):Un fs ex H (upd H a o) h h' where
 keep:=λb u q _ _ _=>k b u q
 slot:=λb u q _ _ _=>⟨u.slots,k b u q⟩
 free:=λb u q n _=>by rw[Al (zG (zZ (zX q) hp))];exact n
 there:=λb u q _=>⟨u,k b u q⟩
 tups:=λb xs q=>by rw[Al (Dn q hn)];exact q
 frzs:=λb u xs q=>by rw[Al (Dn q hn)];exact q
 tbls:=λb ps q=>⟨#[],by rw[Al (Dn q hn),q];simp⟩
theorem Un.write(mu:Mut (H x))(he:e=x∨H e=xF (.own x))(k:∀b u,b≠e->h.get? b=xF u->h'.get? b=xF u)(heo:∃u,h'.get? e=xF u):Un fs ex H (upd H x o) h h':=by
 have hx:∀b,H b=xG->b≠x:=λb n z=>by subst z;rw[n]at mu;exact mu
 have hb:∀b,H b=xG->b≠e:=λb n z=>by
  subst z;rcases he with r|r
  ·exact hx b n r
  ·rw[n]at r;cases r
 have hm:∀b u,H b=xF u->¬Mut (xF u)->b≠x:=λb u q nm z=>by subst z;rw[q]at mu;exact nm mu
 refine⟨λb u q n _ _=>k b u (hb b n) q,λb u q n _ _=>⟨u.slots,k b u (hb b n) q⟩,λb u q n _=>by rw[Al (hx b n)];exact n,λb u q _=>?_,
  λb xs q=>by rw[Al (hm b _ q λz=>z)];exact q,λb u xs q=>by rw[Al (hm b _ q λz=>z)];exact q,λb ps q=>⟨#[],by rw[Al (hm b _ q λz=>z),q];simp⟩⟩
 by_cases hbe:b=e
 ·subst hbe;exact heo
 ·exact⟨u,k b u hbe q⟩
end
noncomputable def trk(h:Heap)(H:Hp):List j6:=(qK h.objs.size).filter λa=>(H a).isSome
def Ge(h:Heap)(H:Hp):Heap:=PySem.W.hideAll h (trk h H)
theorem ZFv(h:Heap)(H:Hp):(Ge h H).objs.size=h.objs.size:=PySem.W.hideAll_size _ _
theorem ZGa{o:Obj}(e:h.get? b=xF o)(n:H b=xG):(Ge h H).get? b=xF o:=
 PySem.W.hideAll_get _ e λhm=>by have q:(H b).isSome=xH:=(List.mem_filter.mp hm).2;rw[n]at q;simp at q
theorem ZDX{o:Obj}(e:(Ge h H).get? b=xF o):h.get? b=xF o/\H b=xG:=by
 have e':h.get? b=xF o:=PySem.W.of_hideAll (trk h H) e;refine⟨e',?_⟩;cases q:H b with
 |none=>rfl
 |some x=>
  have hm:b∈trk h H:=List.mem_filter.mpr ⟨qM.mpr (zX e'),by simp[q]⟩;have z:(Ge h H).get? b=xG:=PySem.W.hideAll_none (trk h H) hm;rw[z]at e;cases e
noncomputable def ZGK(g h:Heap)(L:j6):List (j6×Obj):=(qK h.objs.size).filterMap λa=>if a=L∨(g.get? a).isSome=xH then xG else(h.get? a).map λo=>(a,o)
def rest(g h:Heap)(L d:j6):List (j6×Obj):=(ZGK g h L).filter λp=>decide (p.1≠d)
structure Mod (K:PySem.W.Frag) (mg:Str->Option jF) (base:Heap):Prop where
 kin:K.In base
 glob:base.Ns xQ mg
 blt:∃mb,base.Ns builtinsNs mb/\∀x:Str,x≠"__name__"->mb x=jO x
 nolimit:base.NoLimit
structure Cx where
 prog:jB
 w:jG
 K:PySem.W.Frag
 mg:Str->Option jF
 base:Heap
 A:j7
 N:List Str
 s₀:jD
 H₀:Hp
 env:Env
 outer:List Env
 stack:List Env
 ex:List j6
 fn:Str->Bool
 calm:Bool
 pn:List (j6×Obj)
 xe:jF->jD->Prop
variable{X:Cx}
noncomputable def frs(l:List Env):List j6:=l.filterMap (·.frame)
noncomputable abbrev Cx.fs(X:Cx):List j6:=frs X.outer
def Vis(sc:jC)(x:Str):Prop:=sc.names.lookup x=xF .local∨sc.names.lookup x=xF .cell∨sc.names.lookup x=xF .free
def Loc(sc:jC)(x:Str):Prop:=sc.names.lookup x=xF .local∨sc.names.lookup x=xF .cell
def Look(env:Env)(h:Heap)(m:Str->Option jF)(x:Str)(u:jF):Prop:=
 (env.kindOf x=xF .local/\m x=xF u)∨((env.kindOf x=xF .cell∨env.kindOf x=xF .free)/\∃c,env.cells.lookup x=xF c/\h.IsCell c (xF u))
structure Cx.Ok (X:Cx):Prop where
 mod:Mod X.K X.mg X.base
 kind:X.env.scope.kind=.function
 glob:X.env.globals=xQ
 blt:X.env.builtins=builtinsNs
 above:X.s₀.heap.objs.size<=X.env.locals
 inj:∀x y c,X.env.cells.lookup x=xF c->X.env.cells.lookup y=xF c->x=y
 has:∀x,(X.env.kindOf x=xF .cell∨X.env.kindOf x=xF .free)->∃c,X.env.cells.lookup x=xF c
 cab:∀x c,X.fn x=xH->X.env.cells.lookup x=xF c->X.s₀.heap.objs.size<=c
 hd:X.calm=xH->X.A.handled=xG
 frames:X.A.frames=xF X.stack
 stk:X.stack=X.outer∨(X.stack=X.env::X.outer/\X.env.frame=xF X.env.locals)
 exf:∀b∈X.ex,b≠X.env.locals/\∀x c,X.env.cells.lookup x=xF c->c≠b
 bs:∀b o,X.base.get? b=xF o->X.s₀.heap.get? b=xF o/\X.H₀ b=xG
 bsz:X.base.objs.size<=X.s₀.heap.objs.size
 noex:∀b o,X.base.get? b=xF o->b∉X.ex
 exfs:∀b∈X.ex,b∉X.fs
 funs:X.s₀.heap.FunFrames X.base X.outer
 frf:∀b∈X.fs,X.H₀ b=xG
structure Inv (X:Cx) (xE:List (j6×Obj)) (σ:List (Option V)) (H:Hp) (s:jD):Prop where
 ok:X.Ok
 os:s.os=X.s₀.os
 bare:AllBare s.gens
 base:Un X.fs X.ex X.H₀ H X.s₀.heap s.heap
 loc:∃m,s.heap.Ns X.env.locals m/\∀(i:Nat)(x:Str)(v:V),X.N[i]?=xF x->σ[i]?=xF (xF v)->Vis X.env.scope x->∃u,RelV v u/\Look X.env s.heap m x u
 cell:∀x c,X.env.cells.lookup x=xF c->∃v,s.heap.IsCell c v
 free:H X.env.locals=xG
 Dc:∀x c,X.env.cells.lookup x=xF c->H c=xG
 pin:∀p∈X.pn++xE,s.heap.get? p.1=xF p.2/\H p.1=xG/\p.1≠X.env.locals/\p.1∉X.fs/\∀v,p.2.data≠ .cell v
 hok:HOk X.prog X.w H s.heap
 len:σ.length=X.N.length
section
variable{X:Cx}{xE:List (j6×Obj)}{σ:List (Option V)}{H H':Hp}{s:jD}{h':Heap}
theorem Cx.Ok.nofr(ok:X.Ok){o:Obj}(e:X.base.get? b=xF o):b∉X.fs:=λhb=>by have:=(ok.funs.mem hb).1;rw[e]at this;cases this
theorem Inv.bs(I:Inv X xE σ H s):∀b o,X.base.get? b=xF o->s.heap.get? b=xF o/\H b=xG:=λb o e=>
 ⟨I.base.keep b o (I.ok.bs b o e).1 (I.ok.bs b o e).2 (I.ok.nofr e) (I.ok.noex b o e),I.base.free b o (I.ok.bs b o e).1 (I.ok.bs b o e).2 (I.ok.noex b o e)⟩
theorem Inv.bk(I:Inv X xE σ H s):∀b o,X.base.get? b=xF o->s.heap.get? b=xF o:=λb o e=>(I.bs b o e).1
theorem Inv.mod(I:Inv X xE σ H s):Mod X.K X.mg X.base:=I.ok.mod
theorem Inv.kIn(I:Inv X xE σ H s):X.K.In s.heap:=I.ok.mod.kin.keeps I.bk
theorem Inv.lt(I:Inv X xE σ H s):X.env.locals<s.heap.objs.size:=let⟨_,hn,_⟩:=I.loc;hn.lt
theorem Inv.sz(I:Inv X xE σ H s):X.s₀.heap.objs.size<=s.heap.objs.size:=zx I.ok.above (j4 I.lt)
theorem Inv.nofs(I:Inv X xE σ H s)(h:s.heap.objs.size<=a):a∉X.fs:=λhb=>by obtain⟨_,o,ho,_⟩:=I.ok.funs.mem hb;exact absurd (zZ (zX ho) (zx I.sz h)) (zA _)
theorem Inv.cne(I:Inv X xE σ H s):∀x c,X.env.cells.lookup x=xF c->c≠X.env.locals:=λx c e z=>by obtain⟨v,o,ho,hd⟩:=I.cell x c e;obtain⟨m,⟨o',es,ep,ho',hd',_⟩,_⟩:=I.loc;rw[z,ho']at ho;cases ho;rw[hd']at hd;cases hd
theorem Inv.funs(I:Inv X xE σ H s):s.heap.FunFrames X.base X.outer:=by
 have all:∀(l:List Env),(∀b∈frs l,b∈X.fs)->X.s₀.heap.FunFrames X.base l->s.heap.FunFrames X.base l:=by
  intro l
  induction l with
  |nil=>intro _ _;trivial
  |cons env r ih=>
   intro hs hl;obtain⟨hk,⟨L,o,hf,hn,ho,hd⟩,hr⟩:=hl;have hL:L∈X.fs:=hs L (by unfold frs;rw[qw,hf];exact zU);obtain⟨sl,e⟩:=I.base.slot L o ho (I.ok.frf L hL) hL λz=>I.ok.exfs L z hL
   exact⟨hk,⟨L,_,hf,hn,e,hd⟩,ih (λb hb=>hs b (by unfold frs;rw[qw,hf];exact zW _ hb)) hr⟩
 exact all X.outer (λ_ hb=>hb) I.ok.funs
theorem Inv.stack(I:Inv X xE σ H s):s.heap.FunFrames X.base X.stack:=by
 rcases I.ok.stk with e|⟨e,hf⟩
 ·rw[e];exact I.funs
 ·rw[e];obtain⟨m,hn,_⟩:=I.loc;refine .cons (by rw[I.ok.kind];decide) hf hn ?_ I.funs;exact j1 (zx I.ok.bsz I.ok.above)
theorem Inv.Jq(I:Inv X xE σ H s):∀b∈frs X.stack,b∈X.env.locals::X.fs:=λb hb=>by
 rcases I.ok.stk with e|⟨e,hf⟩
 ·rw[e]at hb;exact zW _ hb
 ·rw[e]at hb;unfold frs at hb;rw[qw,hf]at hb;exact hb
theorem Inv.O3(I:Inv X xE σ H s):∀b∈frs X.stack,H b=xG:=λb hb=>by
 rcases zv.mp (I.Jq b hb)with e|hb
 ·rw[e];exact I.free
 ·obtain⟨_,o,ho,_⟩:=I.ok.funs.mem hb;exact I.base.free b o ho (I.ok.frf b hb) λz=>I.ok.exfs b z hb
theorem Inv.step{g':Array GenState}{d':Drawn}(I:Inv X xE σ H s)
  (hch:∀b∈ch,(b∈X.ex∨X.s₀.heap.objs.size<=b)/\b≠X.env.locals/\(∀x c,X.env.cells.lookup x=xF c->c≠b)/\∀p∈X.pn++xE,p.1≠b)
  (keep:∀b o,b≠X.env.locals->b∉X.fs->b∉ch->s.heap.get? b=xF o->H b=xG->h'.get? b=xF o)
  (slot:∀b o,b≠X.env.locals->b∈X.fs->b∉ch->s.heap.get? b=xF o->H b=xG->∃sl,h'.get? b=xF {o with slots:=sl}) (free:∀b o,b∉ch->s.heap.get? b=xF o->H b=xG->H' b=xG)
  (there:∀b o,b∉ch->s.heap.get? b=xF o->∃o',h'.get? b=xF o')
  (tups:∀b xs,H b=xF (.tup xs)->H' b=xF (.tup xs)) (frzs:∀b o u,H b=xF (.frz o u)->H' b=xF (.frz o u)) (tbls:∀b ps,H b=xF (.tbl ps)->∃more,H' b=xF (.tbl (ps++more)))
  (ns:∀m,s.heap.Ns X.env.locals m->h'.Ns X.env.locals m) (hok:HOk X.prog X.w H' h') (hg:AllBare g'):
  Inv X xE σ H' {s with heap:=h',gens:=g',drawn:=d',toks:=t'}:=by
 have neL:∀b o,X.s₀.heap.get? b=xF o->b≠X.env.locals:=λb o e=>zG (zZ (zX e) I.ok.above)
 have neC:∀b o,X.s₀.heap.get? b=xF o->b∉X.ex->b∉ch:=λb o e hx hb=>by
  rcases(hch b hb).1 with z|z
  ·exact hx z
  ·exact absurd (zZ (zX e) z) (zA _)
 have cellK:∀x c,X.env.cells.lookup x=xF c->∀v,s.heap.IsCell c v->h'.IsCell c v:=λx c e v ⟨o,ho,hd⟩=>by
  have nch:c∉ch:=λz=>(hch c z).2.2.1 x c e rfl
  by_cases hc:c∈X.fs
  ·obtain⟨sl,q⟩:=slot c o (I.cne x c e) hc nch ho (I.Dc x c e);exact⟨_,q,hd⟩
  ·exact⟨o,keep c o (I.cne x c e) hc nch ho (I.Dc x c e),hd⟩
 refine⟨I.ok,I.os,hg,⟨λb o e n hb hx=>?_,λb o e n hb hx=>?_,λb o e n hx=>?_,λb o e hx=>?_,λb xs e=>tups b xs (I.base.tups b xs e),λb o xs e=>frzs b o xs (I.base.frzs b o xs e),λb ps e=>?_⟩,?_,λx c e=>?_,?_,λx c e=>?_,λp hp=>?_,hok,I.len⟩
 ·exact keep b o (neL b o e) hb (neC b o e hx) (I.base.keep b o e n hb hx) (I.base.free b o e n hx)
 ·obtain⟨sl,e1⟩:=I.base.slot b o e n hb hx;obtain⟨sl',e2⟩:=slot b _ (neL b o e) hb (neC b o e hx) e1 (I.base.free b o e n hx);exact⟨sl',e2⟩
 ·obtain⟨o',e1⟩:=I.base.there b o e hx;exact free b o' (neC b o e hx) e1 (I.base.free b o e n hx)
 ·obtain⟨o',e1⟩:=I.base.there b o e hx;exact there b o' (neC b o e hx) e1
 ·obtain⟨m1,e1⟩:=I.base.tbls b ps e;obtain⟨m2,e2⟩:=tbls b _ e1;exact⟨m1++m2,by rw[e2,Array.append_assoc]⟩
 ·obtain⟨m,hn,hl⟩:=I.loc;refine⟨m,ns m hn,λi x v e1 e2 e3=>?_⟩;obtain⟨u,r,l⟩:=hl i x v e1 e2 e3;refine⟨u,r,?_⟩;rcases l with l|⟨k,c,e,z⟩
  ·exact .inl l
  ·exact .inr ⟨k,c,e,cellK x c e _ z⟩
 ·obtain⟨v,z⟩:=I.cell x c e;exact⟨v,cellK x c e v z⟩
 ·obtain⟨m,⟨o,_,_,ho,_⟩,_⟩:=I.loc;exact free _ o (λz=>(hch _ z).2.1 rfl) ho I.free
 ·obtain⟨v,o,ho,hd⟩:=I.cell x c e;exact free c o (λz=>(hch c z).2.2.1 x c e rfl) ho (I.Dc x c e)
 ·obtain⟨e,n,ne,nf,d⟩:=I.pin p hp;have nch:p.1∉ch:=λz=>(hch p.1 z).2.2.2 p hp rfl
  exact⟨keep p.1 p.2 ne nf nch e n,free p.1 p.2 nch e n,ne,nf,d⟩
theorem Inv.un(I:Inv X xE σ H s)(u:Un X.fs [] H H' s.heap h')(hok:HOk X.prog X.w H' h'):Inv X xE σ H' {s with heap:=h',toks:=t'}:=by
 obtain⟨m,⟨o,es,ep,ho,r⟩,_⟩:=id I.loc;obtain⟨sl,hL⟩:=u.any ho I.free (by simp)
 exact I.step (g':=s.gens) (d':=s.drawn) (ch:=[]) (λ_ z=>nomatch z) (λb o _ hb _ e n=>u.keep b o e n hb (by simp)) (λb o _ hb _ e n=>u.slot b o e n hb (by simp)) (λb o _ e n=>u.free b o e n (by simp)) (λb o _ e=>u.there b o e (by simp)) u.tups u.frzs u.tbls (λm' hm=>by obtain⟨o',es',ep',ho',r'⟩:=hm;rw[ho]at ho';cases ho';exact⟨_,es',ep',hL,r'⟩) hok I.bare
theorem Inv.call{g':Array GenState}{d':Drawn}(I:Inv X xE σ H s)(u:Un (frs X.stack) ch H H' s.heap h')(hok:HOk X.prog X.w H' h')(hg:AllBare g')
  (hch:∀b∈ch,(b∈X.ex∨X.s₀.heap.objs.size<=b)/\b≠X.env.locals/\(∀x c,X.env.cells.lookup x=xF c->c≠b)/\∀p∈X.pn++xE,p.1≠b):
  Inv X xE σ H' {s with heap:=h',gens:=g',drawn:=d',toks:=t'}:=by
 obtain⟨m,⟨o,es,ep,ho,r⟩,_⟩:=id I.loc;obtain⟨sl,hL⟩:=u.any ho I.free λz=>(hch _ z).2.1 rfl
 exact I.step (ch:=ch) hch (λb o hL hb hc e n=>u.keep b o e n (λz=>(zv.mp (I.Jq b z)).elim hL hb) hc) (λb o _ _ hc e n=>u.any e n hc) (λb o hc e n=>u.free b o e n hc) (λb o hc e=>u.there b o e hc) u.tups u.frzs u.tbls (λm' hm=>by obtain⟨o',es',ep',ho',r'⟩:=hm;rw[ho]at ho';cases ho';exact⟨_,es',ep',hL,r'⟩) hok hg
theorem Inv.turned{it:j6}(I:Inv X xE σ H s)(k:∀b o,b≠it->s.heap.get? b=xF o->h'.get? b=xF o)(hn:H it=xG)(hL:it≠X.env.locals)
  (h1:it∈X.ex∨X.s₀.heap.objs.size<=it) (h2:∀x c,X.env.cells.lookup x=xF c->c≠it) (h3:∀p∈X.pn++xE,p.1≠it):Inv X xE σ H {s with heap:=h',toks:=t'}:=by
 have nit:∀b u,H b=xF u->b≠it:=λb u e z=>by rw[z,hn]at e;cases e
 refine I.step (g':=s.gens) (d':=s.drawn) (ch:=[it]) (λb hb=>?_) (λb o _ _ hc e _=>k b o (λz=>hc (by simp[z])) e) (λb o _ _ hc e _=>⟨o.slots,k b o (λz=>hc (by simp[z])) e⟩) (λ_ _ _ _ n=>n)
  (λb o hc e=>⟨o,k b o (λz=>hc (by simp[z])) e⟩) (λ_ _ e=>e) (λ_ _ _ e=>e) (λb ps e=>⟨#[],by rw[e];simp⟩) (λm hm=>?_) (λb u e=>?_) I.bare
 ·have e:b=it:=by simpa using hb
  subst e;exact⟨h1,hL,h2,h3⟩
 ·obtain⟨o,es,ep,ho,r⟩:=hm;exact⟨o,es,ep,k _ o (Ne.symm hL) ho,r⟩
 ·refine(I.hok b u e).stay (λc v hc q=>k c v ?_ q) (λ_ q=>q) λ_ _ q=>q
  rcases hc with z|z
  ·rw[z];exact nit b u e
  ·exact nit c _ z
theorem Inv.tok(I:Inv X xE σ H s)(t:Nat):Inv X xE σ H {s with toks:=t}:=I.un (h':=s.heap) (t':=t) Un.refl I.hok
theorem Inv.kept(I:Inv X xE σ H s)(k:∀b u,s.heap.get? b=xF u->h'.get? b=xF u):Inv X xE σ H {s with heap:=h',toks:=t'}:=I.un (Un.kept k) (I.hok.kept k)
theorem Inv.laid(I:Inv X xE σ H s)(k:∀b u,s.heap.get? b=xF u->h'.get? b=xF u)(hp:s.heap.objs.size<=a)(new:ObjOk X.prog X.w (upd H a o) h' a o):
  Inv X xE σ (upd H a o) {s with heap:=h',toks:=t'}:=I.un (Un.laid k hp (I.hok.fresh hp)) (I.hok.laid k hp new)
theorem Inv.write{x e:j6}(I:Inv X xE σ H s)(mu:Mut (H x))(he:e=x∨H e=xF (.own x))(k:∀b u,b≠e->s.heap.get? b=xF u->h'.get? b=xF u)(heo:∃u,h'.get? e=xF u)
  (new:ObjOk X.prog X.w (upd H x o) h' x o):Inv X xE σ (upd H x o) {s with heap:=h',toks:=t'}:=I.un (Un.write mu he k heo) (I.hok.write mu he k heo new)
theorem Inv.Dj{pins':List (j6×Obj)}(I:Inv X xE σ H s)(h:∀p∈pins',s.heap.get? p.1=xF p.2/\H p.1=xG/\p.1≠X.env.locals/\p.1∉X.fs/\∀v,p.2.data≠ .cell v):Inv X pins' σ H s:=
 ⟨I.ok,I.os,I.bare,I.base,I.loc,I.cell,I.free,I.Dc,λp hp=>(qY.mp hp).elim (λz=>I.pin p (qI _ z)) (h p),I.hok,I.len⟩
theorem Pg{N:List Str}(hN:N.Nodup){j:Nat}(a:N[i]?=xF x)(b:N[j]?=xF x):i=j:=by obtain⟨h1,e1⟩:=z9.mp a;obtain⟨h2,e2⟩:=z9.mp b;exact(List.getElem_inj hN).mp (e1.trans e2.symm)
theorem ZDL{M:Model}{A:j7}{E:jF->jD->Prop}(I:Inv X xE σ H s)(hN:X.N.Nodup)(hi:X.N[i]?=xF x)(hx:Loc X.env.scope x)(r:RelV v u)
  (h:∀s',Inv X xE (σ.set i (xF v)) H s'->(∃a,jY a s.heap s'.heap/\(a=X.env.locals∨X.env.cells.lookup x=xF a))->Q () s') (hf:X.fn x=xH∨X.env.scope.names.lookup x=xF .local:=by first|exact .inl rfl|exact .inr rfl|assumption):xY M A (storeName X.env x u) Q E s:=by
 obtain⟨m,hn,hl⟩:=id I.loc;have hcls:(X.env.scope.kind == .class||(X.env.scope.kind == .module&&X.env.locals != X.env.globals))=xI:=by rw[I.ok.kind];rfl
 have hiσ:i<σ.length:=by rw[I.len];exact(z9.mp hi).1
 have cne:=I.cne;have tracked:∀{a:j6}{h':Heap},(∃o,s.heap.get? a=xF o/\H a=xG)->jY a s.heap h'->HOk X.prog X.w H h':=λ{a h'}ha hs b ob e=>by
  obtain⟨_,_,hfree⟩:=ha;refine(I.hok b ob e).stay (λc w' hc q=>(hs.2 c ?_).trans q) (λ_ q=>q) λ_ _ q=>q
  rintro rfl;rcases hc with rfl|hc
  ·rw[hfree]at e;cases e
  ·rw[hfree]at hc;cases hc
 rcases hx with hk|hk
 ·refine wpAny_storeName_local hk hn (λh' hn' hs=>?_) hcls;obtain⟨oL,_,_,hoL,_⟩:=id hn;refine h _ ⟨I.ok,I.os,I.bare,⟨λb o e n hb hx=>?_,λb o e n hb hx=>?_,I.base.free,λb o e hx=>?_,I.base.tups,I.base.frzs,I.base.tbls⟩,⟨_,hn',λj y v' e1 e2 e3=>?_⟩,λy c e=>?_,I.free,I.Dc,λp hp=>?_,tracked ⟨oL,hoL,I.free⟩ hs,by simpa using I.len⟩ ⟨_,hs,.inl rfl⟩
  ·exact(hs.2 b (zG (zZ (zX e) I.ok.above))).trans (I.base.keep b o e n hb hx)
  ·obtain⟨sl,e1⟩:=I.base.slot b o e n hb hx;exact⟨sl,(hs.2 b (zG (zZ (zX e) I.ok.above))).trans e1⟩
  ·obtain⟨o',e1⟩:=I.base.there b o e hx;exact⟨o',(hs.2 b (zG (zZ (zX e) I.ok.above))).trans e1⟩
  ·by_cases hj:j=i
   ·subst hj;rw[hi]at e1;cases e1;rw[List.getElem?_set_self hiσ]at e2;cases e2;exact⟨u,r,.inl ⟨hk,by simp⟩⟩
   ·rw[jZ (Ne.symm hj)]at e2;obtain⟨u',r',q⟩:=hl j y v' e1 e2 e3;refine⟨u',r',?_⟩;rcases q with⟨k,e⟩|⟨k,c,e,z⟩
    ·refine .inl ⟨k,?_⟩;have:y≠x:=λe=>hj (Pg hN e1 (e▸hi))
     simp[this,e]
    ·exact .inr ⟨k,c,e,z.sameBut hs (cne y c e)⟩
  ·obtain⟨w',z⟩:=I.cell y c e;exact⟨w',z.sameBut hs (cne y c e)⟩
  ·obtain⟨e,n,ne,nf,d⟩:=I.pin p hp;exact⟨(hs.2 p.1 ne).trans e,n,ne,nf,d⟩
 ·have hfn:X.fn x=xH:=by
   rcases hf with z|z
   ·exact z
   ·rw[z]at hk;cases hk
  obtain⟨c,hc⟩:=I.ok.has x (.inl hk);obtain⟨w',z⟩:=I.cell x c hc;refine wpAny_storeName_cell I.ok.kind hk hc z (λh' hc' hs=>?_);obtain⟨oc,hoc,hocd⟩:=id z;refine h {s with heap:=h'} ⟨I.ok,I.os,I.bare,⟨λb o e n hb hx=>?_,λb o e n hb hx=>?_,I.base.free,λb o e hx=>?_,I.base.tups,I.base.frzs,I.base.tbls⟩,⟨m,hn.sameBut hs (Ne.symm (cne x c hc)),λj y v' e1 e2 e3=>?_⟩,λy c' e=>?_,I.free,I.Dc,λp hp=>?_,tracked ⟨oc,hoc,I.Dc x c hc⟩ hs,by simpa using I.len⟩ ⟨c,hs,.inr hc⟩
  ·exact(hs.2 b (zG (zZ (zX e) (I.ok.cab x c hfn hc)))).trans (I.base.keep b o e n hb hx)
  ·obtain⟨sl,e1⟩:=I.base.slot b o e n hb hx;exact⟨sl,(hs.2 b (zG (zZ (zX e) (I.ok.cab x c hfn hc)))).trans e1⟩
  ·obtain⟨o',e1⟩:=I.base.there b o e hx;exact⟨o',(hs.2 b (zG (zZ (zX e) (I.ok.cab x c hfn hc)))).trans e1⟩
  ·by_cases hj:j=i
   ·subst hj;rw[hi]at e1;cases e1;rw[List.getElem?_set_self hiσ]at e2;cases e2;exact⟨u,r,.inr ⟨.inl hk,c,hc,hc'⟩⟩
   ·rw[jZ (Ne.symm hj)]at e2;obtain⟨u',r',q⟩:=hl j y v' e1 e2 e3;refine⟨u',r',?_⟩;rcases q with q|⟨k,c',e,z'⟩
    ·exact .inl q
    ·refine .inr ⟨k,c',e,z'.sameBut hs ?_⟩;rintro rfl;exact hj (Pg hN e1 (I.ok.inj _ _ _ e hc▸hi))
  ·by_cases hcc:c'=c
   ·subst hcc;exact⟨_,hc'⟩
   ·obtain⟨w2,z2⟩:=I.cell y c' e;exact⟨w2,z2.sameBut hs hcc⟩
  ·obtain⟨e,n,ne,nf,d⟩:=I.pin p hp;refine⟨(hs.2 p.1 ?_).trans e,n,ne,nf,d⟩;intro q;rw[q,hoc]at e;have q':oc=p.2:=Option.some.inj e;exact d w' (by rw[<-q'];exact hocd)
theorem Ut{M:Model}{A:j7}{E:jF->jD->Prop}(I:Inv X xE σ H s)(hN:X.N.Nodup)(hi:X.N[i]?=xF x)(hx:Loc X.env.scope x)(r:RelV v u)
  (h:∀s',Inv X xE (σ.set i (xF v)) H s'->Q () s') (hf:X.fn x=xH∨X.env.scope.names.lookup x=xF .local:=by first|exact .inl rfl|exact .inr rfl|assumption):xY M A (storeName X.env x u) Q E s:=
 ZDL I hN hi hx r (λs' I' _=>h s' I') hf
theorem Inv.call'{s':jD}(I:Inv X xE σ H s)(ho:s'.os=s.os)(u:Un (frs X.stack) ch H H' s.heap s'.heap)(hok:HOk X.prog X.w H' s'.heap)(hg:AllBare s'.gens)
  (hch:∀b∈ch,(b∈X.ex∨X.s₀.heap.objs.size<=b)/\b≠X.env.locals/\(∀x c,X.env.cells.lookup x=xF c->c≠b)/\∀p∈X.pn++xE,p.1≠b):Inv X xE σ H' s':=by
 obtain⟨h',g',d',t',o'⟩:=s';have e:o'=s.os:=ho;subst e;exact I.call (g':=g') (t':=t') (d':=d') u hok hg hch
end
noncomputable abbrev XK:=jF->Option j6->Hp->Prop
noncomputable abbrev St:=List (Option V)
variable{σ:St}
noncomputable abbrev VK:=V->Hp->Prop
noncomputable abbrev TE:=St->Hp->VK->Prop
noncomputable abbrev TT:=St->Hp->(Bool->Hp->Prop)->Prop
noncomputable abbrev TA:=St->Hp->(List V->Hp->Prop)->Prop
structure Ends where
 nx:St->Hp->Prop
 rt:VK
 bk:St->Hp->Prop:=λ_ _=>False
 ct:St->Hp->Prop:=λ_ _=>False
noncomputable abbrev TS:=Ends->St->Hp->Prop
def EP(X:Cx)(xE:List (j6×Obj))(σ:St)(Q:VK)(u:jF)(s':jD):Prop:=∃v H',Inv X xE σ H' s'/\RelV v u/\Q v H'
def TP(X:Cx)(xE:List (j6×Obj))(σ:St)(Q:Bool->Hp->Prop)(b:Bool)(s':jD):Prop:=∃H',Inv X xE σ H' s'/\Q b H'
def AP(X:Cx)(xE:List (j6×Obj))(σ:St)(Q:List V->Hp->Prop)(us:List jF)(s':jD):Prop:=∃vs H',Inv X xE σ H' s'/\Vals vs us/\Q vs H'
def SP(X:Cx)(xE:List (j6×Obj))(D:Ends)(f:Flow)(s':jD):Prop:=
 match f with
 |.next=>∃σ' H',Inv X xE σ' H' s'/\D.nx σ' H'
 |.brk=>∃σ' H',Inv X xE σ' H' s'/\D.bk σ' H'
 |.cont=>∃σ' H',Inv X xE σ' H' s'/\D.ct σ' H'
 |.ret u=>∃v σ' H',Inv X xE σ' H' s'/\RelV v u/\D.rt v H'
def PE(X:Cx)(e:j8)(t:TE):Prop:=
 ∀(xE:List (j6×Obj))(s:jD)(σ:St)(H:Hp)(Q:VK),Inv X xE σ H s->t σ H Q->xY (xZ X.prog X.w) X.A (eval e X.env) (EP X xE σ Q) X.xe s
def PT(X:Cx)(e:j8)(t:TT):Prop:=
 ∀(xE:List (j6×Obj))(s:jD)(σ:St)(H:Hp)(Q:Bool->Hp->Prop),Inv X xE σ H s->t σ H Q->xY (xZ X.prog X.w) X.A (isTrue e X.env (eval e X.env)) (TP X xE σ Q) X.xe s
def PW(X:Cx)(e:j8)(t:TT):Prop:=
 ∀(whole:Sem jF)(xE:List (j6×Obj))(s:jD)(σ:St)(H:Hp)(Q:Bool->Hp->Prop),Inv X xE σ H s->t σ H Q->xY (xZ X.prog X.w) X.A (isTrue e X.env whole) (TP X xE σ Q) X.xe s
theorem PW.pt{t:TT}(h:PW X e t):PT X e t:=h _
def PA(X:Cx)(es:List j8)(t:TA):Prop:=
 ∀(pos:Pos)(xE:List (j6×Obj))(s:jD)(σ:St)(H:Hp)(Q:List V->Hp->Prop),Inv X xE σ H s->t σ H Q->xY (xZ X.prog X.w) X.A (spliced (jL pos (xW es X.env))) (AP X xE σ Q) X.xe s
def PS(X:Cx)(st:jE)(t:TS):Prop:=
 ∀(xE:List (j6×Obj))(s:jD)(σ:St)(H:Hp)(D:Ends),Inv X xE σ H s->t D σ H->xY (xZ X.prog X.w) X.A (exec st X.env) (SP X xE D) X.xe s
def PSs(X:Cx)(st:List jE)(t:TS):Prop:=
 ∀(xE:List (j6×Obj))(s:jD)(σ:St)(H:Hp)(D:Ends),Inv X xE σ H s->t D σ H->xY (xZ X.prog X.w) X.A (execs st X.env) (SP X xE D) X.xe s
theorem thn{α:Type}{t:Sem α}{Q Q':α->jD->Prop}{M:Model}(h:xY M A t Q E s)(hQ:∀a s,Q a s->Q' a s):xY M A t Q' E s:=xy h hQ λ_ _ x=>x
section
variable{X:Cx}
noncomputable def Hm(i:Nat):TE:=λσ H Q=>∃v,σ[i]?=xF (xF v)/\Q v H
noncomputable def tC(v:V):TE:=λ_ H Q=>Q v H
theorem K6{pos:Pos}(hN:X.N[i]?=xF x)(hv:Vis X.env.scope x)(hd:(x==("__debug__":Str))=xI:=by decide)(hcd:(x==("__classdict__":Str))=xI:=by decide):PE X (.Name x pos) (Hm i):=by
 intro xE s σ H Q I h;obtain⟨v,e,h⟩:=h;obtain⟨m,hn,hl⟩:=I.loc;obtain⟨u,r,l⟩:=hl i x v hN e hv;have fin:EP X xE σ Q u s:=⟨v,H,I,r,h⟩;rcases l with⟨hk,hm⟩|⟨hk,c,hc,hcell⟩
 ·exact wpAny_Name (wpAny_loadName_local I.ok.kind hk hn hm fin) hd
 ·rcases hk with hk|hk
  ·exact wpAny_Name (wpAny_loadName_cell I.ok.kind hk hc hcell fin) hd
  ·exact wpAny_Name (wpAny_loadName_free I.ok.kind hk hc hcell fin hcd) hd
theorem ZF7{i j pos}:PE X (.Constant (.int i) j pos) (tC (.int i)):=λ_ _ _ H _ I h=>wpAny_Constant_int ⟨.int i,H,I.tok _,⟨_,rfl⟩,h⟩
theorem ZCm{b j pos}:PE X (.Constant (.bool b) j pos) (tC (.bl b)):=λ_ _ _ H _ I h=>Constant_bool ⟨.bl b,H,I,rfl,h⟩
theorem ZFg{j pos}:PE X (.Constant .none j pos) (tC .non):=λ_ _ _ H _ I h=>Constant_none ⟨.non,H,I,rfl,h⟩
theorem Ov{x j pos}:PE X (.Constant (.str x) j pos) (tC (.str x)):=λ_ _ _ H _ I h=>Calls.Constant_str ⟨.str x,H,I.tok _,⟨_,rfl⟩,h⟩
def Gl(X:Cx)(x:Str):Prop:=X.env.kindOf x=xF .globalImplicit
theorem Js{E:jF->jD->Prop}{pos:Pos}{Q:jF->jD->Prop}(I:Inv X xE σ H s)(hg:Gl X x)(hm:X.mg x=xF u)(h:Q u s)
  (hd:(x==("__debug__":Str))=xI:=by decide):xY (xZ X.prog X.w) X.A (eval (.Name x pos) X.env) Q E s:=
 Calls.Name_function_global I.ok.kind hg (Calls.loadGlobal_global (by rw[I.ok.glob];exact I.mod.glob.keeps I.bk) hm h) hd
theorem Nr{E:jF->jD->Prop}{pos:Pos}{Q:jF->jD->Prop}(I:Inv X xE σ H s)(hg:Gl X x)(hm:X.mg x=xG)(hv:jO x=xF u)(h:Q u s)
  (hn:x≠"__name__":=by decide) (hd:(x==("__debug__":Str))=xI:=by decide):xY (xZ X.prog X.w) X.A (eval (.Name x pos) X.env) Q E s:=by
 obtain⟨mb,h1,h2⟩:=I.mod.blt;exact Calls.Name_function_global I.ok.kind hg (Calls.loadGlobal_builtin (by rw[I.ok.glob];exact I.mod.glob.keeps I.bk) hm (by rw[I.ok.blt];exact h1.keeps I.bk) ((h2 x hn).trans hv) h) hd
theorem ZAN{pos:Pos}(hg:Gl X x)(hm:X.mg x=xF u)(r:RelV v u)(hd:(x==("__debug__":Str))=xI:=by decide):PE X (.Name x pos) (tC v):=
 λ_ _ _ H _ I h=>Js I hg hm ⟨v,H,I,r,h⟩ hd
theorem ZAB{pos:Pos}(hg:Gl X x)(hm:X.mg x=xG)(hv:jO x=xF u)(r:RelV v u)(hn:x≠"__name__":=by decide)(hd:(x==("__debug__":Str))=xI:=by decide):PE X (.Name x pos) (tC v):=
 λ_ _ _ H _ I h=>Nr I hg hm hv ⟨v,H,I,r,h⟩ hn hd
variable{a b:j8}{ta tb:TE}{pos:Pos}
noncomputable def tB(t:TE):TT:=λσ H Q=>t σ H λx H1=>∃c,x=.bl c/\Q c H1
theorem ZGi{t:TE}(h:PE X e t)(he:∀whole,isTrue e X.env whole=(do let v<-whole;standAt e.pos;holding [v] (truthy v)):=by intro _;rfl):PT X e (tB t):=by intro xE s σ H Q I hw;refine isTrue_plain (thn (h xE s σ H _ I hw) λv s1 ⟨x,H1,I1,r1,q1⟩=>?_) (he _);obtain⟨d,rfl,q⟩:=q1;cases r1;exact xB ⟨H1,I1,q⟩
variable{tA tB':TT}{rest:List j8}
noncomputable def tAnd(t u:TT):TT:=λσ H Q=>t σ H λc H1=>if c=xH then u σ H1 Q else Q xI H1
noncomputable def tOr(t u:TT):TT:=λσ H Q=>t σ H λc H1=>if c=xH then Q xH H1 else u σ H1 Q
noncomputable def tNot(t:TT):TT:=λσ H Q=>t σ H λc H1=>Q (!c) H1
theorem pw_and1(ha:PT X a tA):PW X (.BoolOp .And [a] pos) tA:=by
 intro wh xE s σ H Q I h;refine isTrue_and (thn (ha xE s σ H Q I h) λc s1 e=>?_);cases c with
 |true=>exact isTrue_and_nil e
 |false=>exact e
theorem pw_or1(ha:PT X a tA):PW X (.BoolOp .Or [a] pos) tA:=by
 intro wh xE s σ H Q I h;refine isTrue_or (thn (ha xE s σ H Q I h) λc s1 e=>?_);cases c with
 |false=>exact isTrue_or_nil e
 |true=>exact e
theorem pw_and(ha:PT X a tA)(hb:PW X (.BoolOp .And (b::rest) pos) tB'):PW X (.BoolOp .And (a::b::rest) pos) (tAnd tA tB'):=by
 intro wh xE s σ H Q I h;refine isTrue_and (thn (ha xE s σ H _ I h) λc s1 ⟨H1,I1,q1⟩=>?_);cases c with
 |true=>exact hb wh xE s1 σ H1 Q I1 q1
 |false=>exact⟨H1,I1,q1⟩
theorem pw_or(ha:PT X a tA)(hb:PW X (.BoolOp .Or (b::rest) pos) tB'):PW X (.BoolOp .Or (a::b::rest) pos) (tOr tA tB'):=by
 intro wh xE s σ H Q I h;refine isTrue_or (thn (ha xE s σ H _ I h) λc s1 ⟨H1,I1,q1⟩=>?_);cases c with
 |true=>exact⟨H1,I1,q1⟩
 |false=>exact hb wh xE s1 σ H1 Q I1 q1
theorem ZIF(ha:PT X a tA):PT X (.UnaryOp .Not a pos) (tNot tA):=by intro xE s σ H Q I h;exact isTrue_not (ha xE s σ H (λc H1=>Q (!c) H1) I h)
noncomputable def ZCo(ta tb:TE):TE:=λσ H Q=>ta σ H λx H1=>∃c,x=.bl c/\if c=xH then tb σ H1 Q else Q (.bl xI) H1
noncomputable def tOrV(ta tb:TE):TE:=λσ H Q=>ta σ H λx H1=>∃c,x=.bl c/\if c=xH then Q (.bl xH) H1 else tb σ H1 Q
noncomputable def ZFG(ta:TE):TE:=λσ H Q=>ta σ H λx H1=>∃c,x=.bl c/\Q (.bl (!c)) H1
theorem ZB6{op}{t:TE}(h:PE X a t):PE X (.BoolOp op [a] pos) t:=λxE s σ H Q I hw=>BoolOp_one (h xE s σ H Q I hw)
theorem ZDd(ha:PE X a ta)(hb:PE X (.BoolOp .And (b::rest) pos) tb):PE X (.BoolOp .And (a::b::rest) pos) (ZCo ta tb):=by
 intro xE s σ H Q I h;refine BoolOp_and (thn (ha xE s σ H _ I h) λv s1 ⟨x,H1,I1,r1,q1⟩=>?_);obtain⟨c,rfl,q1⟩:=q1;cases r1;refine xB ?_;cases c with
 |true=>exact hb xE s1 σ H1 Q I1 q1
 |false=>exact⟨.bl xI,H1,I1,rfl,q1⟩
theorem ZFr(ha:PE X a ta)(hb:PE X (.BoolOp .Or (b::rest) pos) tb):PE X (.BoolOp .Or (a::b::rest) pos) (tOrV ta tb):=by
 intro xE s σ H Q I h;refine BoolOp_or (thn (ha xE s σ H _ I h) λv s1 ⟨x,H1,I1,r1,q1⟩=>?_);obtain⟨c,rfl,q1⟩:=q1;cases r1;refine xB ?_;cases c with
 |false=>exact hb xE s1 σ H1 Q I1 q1
 |true=>exact⟨.bl xH,H1,I1,rfl,q1⟩
theorem ZCq(ha:PE X a ta):PE X (.UnaryOp .Not a pos) (ZFG ta):=by intro xE s σ H Q I h;refine UnaryOp_ (thn (ha xE s σ H _ I h) λv s1 ⟨x,H1,I1,r1,q1⟩=>?_);obtain⟨c,rfl,q1⟩:=q1;cases r1;exact not_of (xB ⟨.bl (!c),H1,I1,rfl,q1⟩)
end
def SqL(K:PySem.W.Frag)(H:Hp)(a:j6)(xs:List V):Prop:=
 Rd H a (.lst xs)∨
  ∃(o:Obj)(its:Array jF)(n:Nat),K.lookup a=xF o/\o.cls=.type "list"/\o.dict=xG/\o.data=.seq its n/\its.size<=sizeLine/\Vals xs its.toList
def SqT(K:PySem.W.Frag)(H:Hp)(a:j6)(xs:List V):Prop:=
 Rd H a (.tup xs)∨
  ∃(o:Obj)(its:Array jF)(n:Nat),K.lookup a=xF o/\o.cls=.type "tuple"/\o.data=.seq its n/\its.size<=sizeLine/\Vals xs its.toList
noncomputable def absV:jF->Option V
 |.none=>xF .non
 |.bool b=>xF (.bl b)
 |.int i _=>xF (.int i)
 |.str x _=>xF (.str x)
 |.bytes b _=>xF (.byt b)
 |.float b _=>xF (.flt b)
 |.ref a=>xF (.ref a)
 |.type n=>xF (.ty n)
 |_=>xG
theorem RelV.abs{x:V}(r:RelV x u):absV u=xF x:=by
 cases x with
 |non=>cases r;rfl
 |bl _=>cases r;rfl
 |int _=>obtain⟨t,rfl⟩:=r;rfl
 |str _=>obtain⟨t,rfl⟩:=r;rfl
 |byt _=>obtain⟨t,rfl⟩:=r;rfl
 |flt _=>obtain⟨t,rfl⟩:=r;rfl
 |ref _=>cases r;rfl
 |ty _=>cases r;rfl
theorem RelV.inj{x y:V}(r:RelV x u)(q:RelV y u):x=y:=Option.some.inj (r.abs.symm.trans q.abs)
theorem Vals.inj:∀{xs ys:List V}{us:List jF},Vals xs us->Vals ys us->xs=ys
 |_,_,_,.nil,.nil=>rfl
 |_,_,_,.cons r t,.cons r' t'=>by rw[r.inj r',Vals.inj t t']
section
variable{X:Cx}{xE:List (j6×Obj)}{σ:St}{H:Hp}{s:jD}{a:j6}{xs ys:List V}
theorem SqL.of(h:H a=xF (.lst xs)):SqL K H a xs:=.inl (.inl h)
theorem SqT.of(h:H a=xF (.tup xs)):SqT K H a xs:=.inl (.inl h)
theorem Inv.list(I:Inv X xE σ H s)(h:SqL X.K H a xs):∃its:List jF,Vals xs its/\PlainL s.heap a its.toArray/\xs.length<=sizeLine:=by
 rcases h with h|⟨o,its,n,hk,hc,hd,hs,hz,r⟩
 ·obtain⟨z,its,n,r,e⟩:=h.ok I.hok;exact⟨its,r,⟨_,n,e,rfl,rfl,rfl⟩,z⟩
 ·refine⟨its.toList,r,⟨o,n,I.kIn a o hk,hc,hd,by simpa using hs⟩,?_⟩;have e:=r.length;simp only[qN]at e;lia
theorem Inv.tuple(I:Inv X xE σ H s)(h:SqT X.K H a xs):∃its:List jF,Vals xs its/\IsTup s.heap a its.toArray/\xs.length<=sizeLine:=by
 rcases h with h|⟨o,its,n,hk,hc,hs,hz,r⟩
 ·obtain⟨z,its,r,p⟩:=h.ok I.hok;exact⟨its,r,p,z⟩
 ·refine⟨its.toList,r,⟨o,I.kIn a o hk,hc,n,by simpa using hs⟩,?_⟩;have e:=r.length;simp only[qN]at e;lia
theorem Inv.ZA9(I:Inv X xE σ H s)(h:SqL X.K H a xs)(h':SqL X.K H a ys):xs=ys:=by
 obtain⟨its,r,⟨o,n,e,_,_,d⟩,_⟩:=I.list h;obtain⟨its',r',⟨o',n',e',_,_,d'⟩,_⟩:=I.list h';rw[e]at e';cases e';rw[d]at d';injection d' with d1 _
 have:its=its':=by simpa using congrArg Array.toList d1
 subst this;exact r.inj r'
theorem Inv.Wg(I:Inv X xE σ H s)(h:SqT X.K H a xs)(h':SqT X.K H a ys):xs=ys:=by
 obtain⟨its,r,⟨o,e,_,n,d⟩,_⟩:=I.tuple h;obtain⟨its',r',⟨o',e',_,n',d'⟩,_⟩:=I.tuple h';rw[e]at e';cases e';rw[d]at d';injection d' with d1 _
 have:its=its':=by simpa using congrArg Array.toList d1
 subst this;exact r.inj r'
end
noncomputable abbrev Cx.wish(X:Cx)(E:jF->jD->Prop):Cx:={X with xe:=E}
noncomputable abbrev Cx.nox(X:Cx):Cx:=X.wish λ_ _=>False
theorem Cx.Ok.wish(ok:X.Ok)(E:jF->jD->Prop):(X.wish E).Ok:=
 ⟨ok.mod,ok.kind,ok.glob,ok.blt,ok.above,ok.inj,ok.has,ok.cab,ok.hd,ok.frames,ok.stk,ok.exf,ok.bs,ok.bsz,ok.noex,ok.exfs,ok.funs,ok.frf⟩
theorem Cx.Ok.unwish(ok:(X.wish E).Ok):X.Ok:=
 ⟨ok.mod,ok.kind,ok.glob,ok.blt,ok.above,ok.inj,ok.has,ok.cab,ok.hd,ok.frames,ok.stk,ok.exf,ok.bs,ok.bsz,ok.noex,ok.exfs,ok.funs,ok.frf⟩
section
variable{X:Cx}{xE:List (j6×Obj)}{σ:St}{H:Hp}{s:jD}{E:jF->jD->Prop}
theorem Inv.wish(I:Inv X xE σ H s)(E:jF->jD->Prop):Inv (X.wish E) xE σ H s:=⟨I.ok.wish E,I.os,I.bare,I.base,I.loc,I.cell,I.free,I.Dc,I.pin,I.hok,I.len⟩
theorem Inv.unwish(I:Inv (X.wish E) xE σ H s):Inv X xE σ H s:=⟨I.ok.unwish,I.os,I.bare,I.base,I.loc,I.cell,I.free,I.Dc,I.pin,I.hok,I.len⟩
theorem SP.unwish{D:Ends}{f:Flow}{s':jD}(h:SP (X.wish E) xE D f s'):SP X xE D f s':=by
 cases f with
 |next=>obtain⟨σ',H',I,q⟩:=h;exact⟨σ',H',I.unwish,q⟩
 |brk=>obtain⟨σ',H',I,q⟩:=h;exact⟨σ',H',I.unwish,q⟩
 |cont=>obtain⟨σ',H',I,q⟩:=h;exact⟨σ',H',I.unwish,q⟩
 |ret u=>obtain⟨v,σ',H',I,r,q⟩:=h;exact⟨v,σ',H',I.unwish,r,q⟩
theorem PSs.nox{st:List jE}{t:TS}(h:PSs X.nox st t):PSs X st t:=λxE s σ H D I hw=>
 xy (h xE s σ H D (I.wish _) hw) (λ_ _ q=>q.unwish) λ_ _ z=>False.elim z
end
section
variable{X:Cx}{st:jE}{rest:List jE}{t u:TS}{e:j8}{te:TE}{pos:Pos}
noncomputable def ZG9:TS:=λD σ H=>D.nx σ H
noncomputable def tSeq(t u:TS):TS:=λD σ H=>t {D with nx:=u D} σ H
theorem ZB8:PSs X [] ZG9:=λ_ _ σ H _ I h=>wpAny_execs_nil ⟨σ,H,I,h⟩
theorem Y5(h1:PS X st t)(h2:PSs X rest u):PSs X (st::rest) (tSeq t u):=by
 intro xE s σ H D I h;refine wpAny_execs_cons (thn (h1 xE s σ H {D with nx:=u D} I h) λf s1 q=>?_);cases f with
 |next=>
  obtain⟨σ',H',I',q⟩:=q;exact h2 xE s1 σ' H' D I' q
 |ret v=>exact q
 |brk=>exact q
 |cont=>exact q
theorem Y6(h1:PS X st t):PSs X [st] t:=by
 intro xE s σ H D I h;refine wpAny_execs_cons (thn (h1 xE s σ H D I h) λf s1 q=>?_);cases f with
 |next=>exact wpAny_execs_nil q
 |ret v=>exact q
 |brk=>exact q
 |cont=>exact q
theorem Inv.quiet(I:Inv X xE σ H s):interactive X.env=xI:=by simp[interactive,I.ok.kind]
noncomputable def ZGp(te:TE):TS:=λD σ H=>te σ H λ_ H1=>D.nx σ H1
theorem Yc(he:PE X e te)(hs:swapsWith e xG pos.line X.env=pure xI:=by rfl):PS X (.Expr e pos) (ZGp te):=by intro xE s σ H D I h;exact wpAny_Expr_any (thn (he xE s σ H _ I h) λv s1 ⟨x,H1,I1,r1,q1⟩=>⟨σ,H1,I1,q1⟩) I.quiet hs
noncomputable def tRet(te:TE):TS:=λD σ H=>te σ H D.rt
theorem ZG6(he:PE X e te):PS X (.Return (xF e) pos) (tRet te):=by intro xE s σ H D I h;exact wpAny_Return_some (thn (he xE s σ H _ I h) λv s1 ⟨x,H1,I1,r1,q1⟩=>⟨x,σ,H1,I1,r1,q1⟩)
noncomputable def tIfS(c:TT)(t u:TS):TS:=λD σ H=>c σ H λb H1=>if b=xH then t D σ H1 else u D σ H1
theorem ZDV{c:j8}{a b:List jE}{tc:TT}(hc:PT X c tc)(ha:PSs X a t)(hb:PSs X b u):PS X (.If c a b pos) (tIfS tc t u):=by
 intro xE s σ H D I h;refine wpAny_If (thn (hc xE s σ H _ I h) λd s1 ⟨H1,I1,q1⟩=>?_);cases d with
 |true=>exact ha xE s1 σ H1 D I1 q1
 |false=>exact hb xE s1 σ H1 D I1 q1
end
noncomputable abbrev TG:=V->St->Hp->(St->Hp->Prop)->Prop
noncomputable abbrev TGs:=List V->St->Hp->(St->Hp->Prop)->Prop
def PG(X:Cx)(target:j8)(t:TG):Prop:=
 ∀(xE:List (j6×Obj))(s:jD)(σ:St)(H:Hp)(v:V)(u:jF)(Q:St->Hp->Prop),Inv X xE σ H s->RelV v u->t v σ H Q->
  xY (xZ X.prog X.w) X.A (assign target X.env u) (λ_ s'=>∃σ' H',Inv X xE σ' H' s'/\Q σ' H') X.xe s
def PGs(X:Cx)(ts:List j8)(t:TGs):Prop:=
 ∀(xE:List (j6×Obj))(s:jD)(σ:St)(H:Hp)(vs:List V)(us:List jF)(Q:St->Hp->Prop),Inv X xE σ H s->Vals vs us->t vs σ H Q->
  xY (xZ X.prog X.w) X.A (assignInOrder ((jH ts X.env).map (·.2)) us) (λ_ s'=>∃σ' H',Inv X xE σ' H' s'/\Q σ' H') X.xe s
section
variable{X:Cx}{pos:Pos}
noncomputable def ZAr(i:Nat):TG:=λv σ H Q=>Q (σ.set i (xF v)) H
theorem ZC7(hN:X.N.Nodup)(hi:X.N[i]?=xF x)(hx:Loc X.env.scope x)(hf:X.fn x=xH∨X.env.scope.names.lookup x=xF .local:=by first|exact .inl rfl|exact .inr rfl|assumption):PG X (.Name x pos) (ZAr i):=by intro xE s σ H v u Q I r h;exact wpAny_assign_Name (Ut I hN hi hx r (λs' I'=>⟨_,H,I',h⟩) hf)
noncomputable def gNil:TGs:=λvs σ H Q=>vs=[]/\Q σ H
noncomputable def ZHD(t:TG)(u:TGs):TGs:=λvs σ H Q=>∃v r,vs=v::r/\t v σ H λσ' H'=>u r σ' H' Q
theorem ZFH:PGs X [] gNil:=by intro xE s σ H vs us Q I r h;obtain⟨e,h⟩:=h;subst e;cases r;exact assignInOrder_nil ⟨σ,H,I,h⟩
theorem ZEx{es:List j8}{t:TG}{u:TGs}(h1:PG X e t)(h2:PGs X es u)
  (hs:(jH (e::es) X.env).map (·.2)=assign e X.env::(jH es X.env).map (·.2):=by rfl):PGs X (e::es) (ZHD t u):=by
 intro xE s σ H vs us Q I r h;obtain⟨v,vr,e1,h⟩:=h;subst e1;cases r with
 |cons r rr=>
  rw[hs];refine assignInOrder_cons (thn (h1 xE s σ H _ _ _ I r h) λ_ s1 ⟨σ1,H1,I1,q1⟩=>?_);exact h2 xE s1 σ1 H1 _ _ Q I1 rr q1
noncomputable def gTup(K:PySem.W.Frag)(n:Nat)(t:TGs):TG:=λv σ H Q=>∃a xs,v=.ref a/\SqT K H a xs/\xs.length=n/\t xs σ H Q
theorem ZE9{es:List j8}{k:Nat}{t:TGs}{n:Nat}(hc:X.calm=xH)(h:PGs X es t)
  (hn:(jH es X.env).length=n:=by rfl) (hst:(jH es X.env).findIdx? (·.1)=xG:=by rfl):PG X (.Tuple es k pos) (gTup X.K n t):=by
 intro xE s σ H v u Q I r hw;obtain⟨a,xs,e1,hq,hl,hw⟩:=hw;subst e1;cases r;obtain⟨its,rv,ht,hz⟩:=I.tuple hq;refine assign_Tuple_tuple (I.ok.hd hc) ht (by simp[hn,<-hl,rv.length]) hst λh' hx=>?_
 have I1:Inv X xE σ H {s with heap:=h'}:=I.kept (t':=s.toks) λb o e=>hx b o (zG (zX e)) e
 exact h xE _ σ H xs _ Q I1 (by simpa using rv) hw
noncomputable def R0(te:TE)(g:TG):TS:=λD σ H=>te σ H λx H1=>g x σ H1 D.nx
theorem ZGy{te:TE}{g:TG}(he:PE X e te)(hg:PG X tg g)(hs:swapsWithSole [tg] e pos.line X.env=pure xI:=by rfl)(hw:swappedStores [tg] e X.env=pure xG:=by rfl)
  (h1:(jH [tg] X.env).map (·.2)=[assign tg X.env]:=by rfl):PS X (.Assign [tg] e pos) (R0 te g):=by
 intro xE s σ H D I h;refine wpAny_Assign_stores (thn (he xE s σ H _ I h) λv s1 ⟨x,H1,I1,r1,q1⟩=>?_) hs hw;rw[h1];exact thn (hg xE s1 σ H1 x v _ I1 r1 q1) λ_ s2 q=>q
theorem ZDI{te:TE}{pos':Pos}(hN:X.N.Nodup)(hi:X.N[i]?=xF x)(hx:Loc X.env.scope x)(he:PE X e te)(hs:swapsWith e (xF (.Name x pos')) pos.line X.env=pure xI:=by rfl)(hf:X.fn x=xH∨X.env.scope.names.lookup x=xF .local:=by first|exact .inl rfl|exact .inr rfl|assumption):
  PS X (.Assign [.Name x pos'] e pos) (R0 te (ZAr i)):=by
 intro xE s σ H D I h;refine wpAny_Assign_Name (thn (he xE s σ H _ I h) λv s1 ⟨y,H1,I1,r1,q1⟩=>?_) hs;exact Ut I1 hN hi hx r1 (λs2 I2=>⟨_,H1,I2,q1⟩) hf
end
section
variable{X:Cx}{pos:Pos}
def ZIH(c:TT)(tb:TS):TS:=λD σ H=>∃W:Nat->St->Hp->Prop,(∃m,W m σ H)/\∀m σ H,W m σ H->
 c σ H λb H1=>if b=xH then∃N:St->Hp->Prop,(∀σ' H',N σ' H'->∃m',m'<m/\W m' σ' H')/\tb {D with nx:=N,ct:=N,bk:=D.nx} σ H1 else D.nx σ H1
theorem ZDt{c:j8}{tc:TT}{tb:TS}(hp:PassesOwn (xZ X.prog X.w) X.A X.env X.xe)(hc:PT X c tc)(hb:PSs X body tb):PS X (.While c body [] pos) (ZIH tc tb):=by
 intro xE s σ H D I h;obtain⟨W,⟨m0,w0⟩,turn⟩:=h;refine wpAny_While (codeAny_whileLoop (λn s'=>∃σ' H',Inv X xE σ' H' s'/\W n σ' H') ?_ m0 ⟨σ,H,I,w0⟩);rintro n s1 ⟨σ1,H1,I1,w1⟩;refine x9 hp (thn (hc xE s1 σ1 H1 _ I1 (turn n σ1 H1 w1)) λb s2 ⟨H2,I2,q2⟩=>?_);cases b with
 | true=>
  obtain⟨N,hN,q2⟩:=q2;rw[if_pos rfl];refine x9 hp (thn (hb xE s2 σ1 H2 _ I2 q2) λf s3 q3=>?_);cases f with
  |next=>
   obtain⟨σ3,H3,I3,n3⟩:=q3;obtain⟨m',hm,w3⟩:=hN σ3 H3 n3;exact⟨m',hm,σ3,H3,I3,w3⟩
  |cont=>
   obtain⟨σ3,H3,I3,n3⟩:=q3;obtain⟨m',hm,w3⟩:=hN σ3 H3 n3;exact⟨m',hm,σ3,H3,I3,w3⟩
  |brk=>exact q3
  |ret v=>exact q3
 |false=>
  rw[if_neg zq];exact wpAny_execs_nil ⟨σ1,H2,I2,q2⟩
end
structure It where
 go:Nat->Hp->Prop
 yld:Nat->Hp->V->Hp->Prop
 stop:Nat->Hp->Prop
def FpOk(X:Cx)(xE:List (j6×Obj))(H:Hp)(b:j6):Prop:=
 H b=xG/\b≠X.env.locals/\b∉X.fs/\(b∈X.ex∨X.s₀.heap.objs.size<=b)/\(∀x c,X.env.cells.lookup x=xF c->c≠b)/\∀p∈X.pn++xE,p.1≠b
theorem Inv.Mr{H':Hp}(I:Inv X xE σ H s)(hb:s.heap.objs.size<=b)(hn:H' b=xG):FpOk X xE H' b:=by
 refine⟨hn,j5 (zZ I.lt hb),I.nofs hb,.inr (zx I.sz hb),λx c e z=>?_,λp hp z=>?_⟩
 ·obtain⟨v,q⟩:=I.cell x c e;exact absurd (zZ q.lt (by rw[z];exact hb)) (zA _)
 ·exact absurd (zZ (zX (I.pin p hp).1) (by rw[z];exact hb)) (zA _)
structure Turn (P:jB) (w:jG) (K:PySem.W.Frag) (tg:j8) (J:It) (fp:List j6) (it:j6) (tn:Nat->Heap->Prop):Prop where
 mem:it∈fp
 obj:∀i h,tn i h->∀b∈fp,∃o,h.get? b=xF o/\∀v,o.data≠ .cell v
 keep:∀i h h',tn i h->(∀b∈fp,∀o,h.get? b=xF o->h'.get? b=xF o)->tn i h'
 item:∀(X:Cx),X.prog=P->X.w=w->X.K=K->X.calm=xH->∀(i:Nat)(xE:List (j6×Obj))(s:jD)(σ:St)(H:Hp)(E:jF->jD->Prop),Inv X xE σ H s->(∀b∈fp,FpOk X xE H b)->tn i s.heap->J.go i H->
  xY (xZ P w) X.A (pyNext (.ref it)) (λr s1=>∃u,r=xF u/\
   xY (xZ P w) X.A (jU tg (.ref it) u) (λ_ s2=>∃x H',Inv X xE σ H' s2/\RelV x u/\J.yld i H x H'/\tn (i+1) s2.heap/\∀b∈fp,H' b=xG) E s1) E s
 done:∀(X:Cx),X.prog=P->X.w=w->X.K=K->X.calm=xH->∀(i:Nat)(xE:List (j6×Obj))(s:jD)(σ:St)(H:Hp)(E:jF->jD->Prop),Inv X xE σ H s->(∀b∈fp,FpOk X xE H b)->tn i s.heap->J.stop i H->
  xY (xZ P w) X.A (pyNext (.ref it)) (λr s1=>r=xG/\Inv X xE σ H s1) E s
 self:∀(A:j7)(i:Nat)(s:jD)(Q:jF->jD->Prop)(E:jF->jD->Prop),tn i s.heap->Q (.ref it) s->xY (xZ P w) A (pyIter (.ref it)) Q E s
noncomputable abbrev TI:=St->Hp->(It->Hp->Prop)->Prop
def PIE(X:Cx)(xE:List (j6×Obj))(σ:St)(tg:j8)(R:It->Hp->Prop)(itv:jF)(s2:jD):Prop:=
 ∃(it:j6)(fp:List j6)(tn:Nat->Heap->Prop)(J:It)(H':Hp),itv=.ref it/\Inv X xE σ H' s2/\Turn X.prog X.w X.K tg J fp it tn/\tn 0 s2.heap/\(∀b∈fp,FpOk X xE H' b)/\R J H'
def PI(X:Cx)(tg iter:j8)(wi:TI):Prop:=
 ∀(xE:List (j6×Obj))(s:jD)(σ:St)(H:Hp)(R:It->Hp->Prop),Inv X xE σ H s->wi σ H R->
  xY (xZ X.prog X.w) X.A (eval iter X.env) (λv s1=>xY (xZ X.prog X.w) X.A (pyIter v) (PIE X xE σ tg R) X.xe s1) X.xe s
theorem K8{M:Model}{it:j6}{o:Obj}{n:String}{vs:Array jF}(ho:s.heap.get? it=xF o)(hc:o.cls=.type n)(hd:o.data=.fields vs)
  (hn: ["enumerate","zip","dict_itemiterator","dict_reverseitemiterator","odict_iterator","itertools.zip_longest","itertools.pairwise"].contains n=xI) (hQ:Q () s):xY M A (jU tg (.ref it) u) Q E s:=by
 unfold jU
 cases tg<;>first
  |exact xA hQ
  | (cases u<;>first
    |exact xA hQ
    | (
      refine xz (wpAny_load ho ?_);rw[hc,hd];show xY M A (if(["enumerate","zip","dict_itemiterator","dict_reverseitemiterator","odict_iterator","itertools.zip_longest","itertools.pairwise"].contains n&&vs[0]?==xF (xJ _))=xH then _ else _) Q E s;rw[if_neg (by intro h;rw[hn,Bool.false_and]at h;cases h)];exact xA hQ))
noncomputable def Itl(K:PySem.W.Frag)(a:j6):It:=
 ⟨λi H=>∃xs x,SqL K H a xs/\xs[i]?=xF x,λi H x H'=>H'=H/\∀xs,SqL K H a xs->xs[i]?=xF x,λi H=>∃xs,SqL K H a xs/\xs.length<=i⟩
noncomputable def Itt(K:PySem.W.Frag)(a:j6):It:=
 ⟨λi H=>∃xs x,SqT K H a xs/\xs[i]?=xF x,λi H x H'=>H'=H/\∀xs,SqT K H a xs->xs[i]?=xF x,λi H=>∃xs,SqT K H a xs/\xs.length<=i⟩
noncomputable def Itr(lo:Int)(n:Nat):It:=⟨λi _=>i<n,λi H x H'=>H'=H/\x=.int (lo+i),λi _=>n<=i⟩
theorem ZDq{P:jB}(a it:j6):Turn P w K tg (Itl K a) [it] it (λi h=>h.IsListIter it a i) where
 mem:=by simp
 obj:=λi h st b hb=>by
  have e:b=it:=by simpa using hb
  subst e;obtain⟨o,e,c,d⟩:=st;exact⟨o,e,λv z=>by rw[d]at z;cases z⟩
 keep:=λi h h' st k=>st.at λo e=>k it (by simp) o e
 item:=by
  intro X hP hw hK hc i xE s σ H E I hf st hg;subst hP hw hK;obtain⟨xs,x,hq,hx⟩:=hg;obtain⟨its,rv,p,hz⟩:=I.list hq;obtain⟨u,hu,ru⟩:=rv.get hx;obtain⟨f0,f1,f2,f3,f4,f5⟩:=hf it (by simp);refine wpAny_pyNext_list_item st p.isList (x:=u) (by simpa using hu) λh' st' sb=>?_
  have I1:Inv X xE σ H {s with heap:=h'}:=I.turned (t':=s.toks) (λb o hb e=>(sb.2 b hb).trans e) f0 f1 f3 f4 f5;obtain⟨o,e,c,d⟩:=id st';exact⟨u,rfl,K8 (s:={s with heap:=h'}) e c d (by decide) ⟨x,H,I1,ru,⟨rfl,λys hy=>by rw[I.ZA9 hy hq];exact hx⟩,st',λb hb=>(hf b hb).1⟩⟩
 done:=by intro X hP hw hK hc i xE s σ H E I hf st hg;subst hP hw hK;obtain⟨xs,hq,hx⟩:=hg;obtain⟨its,rv,p,hz⟩:=I.list hq;obtain⟨f0,f1,f2,f3,f4,f5⟩:=hf it (by simp);have hl:=rv.length;exact wpAny_pyNext_list_end (I.ok.hd hc) st p.isList (by simp;lia) λh' eb=>⟨rfl,I.turned (t':=s.toks) (λb o hb e=>eb b o hb e) f0 f1 f3 f4 f5⟩
 self:=λ_ _ _ _ _ st h=>wpAny_pyIter_listiter st h
theorem ZEp{P:jB}(a it:j6):Turn P w K tg (Itt K a) [it] it (λi h=>h.IsTupleIter it a i) where
 mem:=by simp
 obj:=λi h st b hb=>by
  have e:b=it:=by simpa using hb
  subst e;obtain⟨o,e,c,d⟩:=st;exact⟨o,e,λv z=>by rw[d]at z;cases z⟩
 keep:=λi h h' st k=>st.at λo e=>k it (by simp) o e
 item:=by
  intro X hP hw hK hc i xE s σ H E I hf st hg;subst hP hw hK;obtain⟨xs,x,hq,hx⟩:=hg;obtain⟨its,rv,p,hz⟩:=I.tuple hq;obtain⟨u,hu,ru⟩:=rv.get hx;obtain⟨f0,f1,f2,f3,f4,f5⟩:=hf it (by simp)
  refine wpAny_pyNext_tuple_item st (show s.heap.IsTuple a its.toArray from p) (x:=u) (by simpa using hu) λh' st' sb=>?_
  have I1:Inv X xE σ H {s with heap:=h'}:=I.turned (t':=s.toks) (λb o hb e=>(sb.2 b hb).trans e) f0 f1 f3 f4 f5;obtain⟨o,e,c,d⟩:=id st';exact⟨u,rfl,K8 (s:={s with heap:=h'}) e c d (by decide) ⟨x,H,I1,ru,⟨rfl,λys hy=>by rw[I.Wg hy hq];exact hx⟩,st',λb hb=>(hf b hb).1⟩⟩
 done:=by
  intro X hP hw hK hc i xE s σ H E I hf st hg;subst hP hw hK;obtain⟨xs,hq,hx⟩:=hg;obtain⟨its,rv,p,hz⟩:=I.tuple hq;obtain⟨f0,f1,f2,f3,f4,f5⟩:=hf it (by simp);have hl:=rv.length
  exact wpAny_pyNext_tuple_end (I.ok.hd hc) st (show s.heap.IsTuple a its.toArray from p) (by simp;lia) λh' eb=>⟨rfl,I.turned (t':=s.toks) (λb o hb e=>eb b o hb e) f0 f1 f3 f4 f5⟩
 self:=λ_ _ _ _ _ st h=>wpAny_pyIter_tupleiter st h
theorem ZEi{P:jB}(it:j6)(lo:Int)(n:Nat):Turn P w K tg (Itr lo n) [it] it (λi h=>IsRangeIter h it (lo+(i:Nat)*1) ((n:Int)-(i:Nat)) 1) where
 mem:=by simp
 obj:=λi h st b hb=>by
  have e:b=it:=by simpa using hb
  subst e;exact⟨_,st,λv z=>by have z':Data.fields _=Data.cell v:=z;cases z'⟩
 keep:=λi h h' st k=>k it (by simp) _ st
 item:=by
  intro X hP hw hK hc i xE s σ H E I hf st hg;subst hP hw hK;obtain⟨f0,f1,f2,f3,f4,f5⟩:=hf it (by simp);have W:=Walks.range (prog:=X.prog) (w:=X.w) (I.ok.hd hc) it lo 1 n;refine W.item i s _ _ hg st λv h' tk hv st' kk=>?_
  obtain⟨t,rfl⟩:=hv;have I1:Inv X xE σ H {s with heap:=h',toks:=tk}:=I.turned (λb o hb e=>kk b o (by simpa using hb) e) f0 f1 f3 f4 f5;refine⟨_,rfl,K8 (s:={s with heap:=h',toks:=tk}) (n:="range_iterator") st' rfl rfl (by decide) ⟨.int (lo+i),H,I1,⟨t,?_⟩,⟨rfl,rfl⟩,st',λb hb=>(hf b hb).1⟩⟩;rw[Int.mul_one]
 done:=by intro X hP hw hK hc i xE s σ H E I hf st hg;subst hP hw hK;obtain⟨f0,f1,f2,f3,f4,f5⟩:=hf it (by simp);exact wpAny_pyNext_range_end (I.ok.hd hc) st (by have:n<=i:=hg;lia) λh' eb=>⟨rfl,I.turned (t':=s.toks) (λb o hb e=>eb b o hb e) f0 f1 f3 f4 f5⟩
 self:=λ_ _ _ _ _ st h=>wpAny_pyIter_rangeiter st h
section
variable{X:Cx}{tg:j8}
def ZFq(K:PySem.W.Frag)(tl:TE):TI:=λσ H R=>tl σ H λx H1=>∃a,x=.ref a/\(∃xs,SqL K H1 a xs)/\R (Itl K a) H1
def iTup(K:PySem.W.Frag)(tl:TE):TI:=λσ H R=>tl σ H λx H1=>∃a,x=.ref a/\(∃xs,SqT K H1 a xs)/\R (Itt K a) H1
theorem Qx{l:j8}{tl:TE}(hl:PE X l tl):PI X tg l (ZFq X.K tl):=by
 intro xE s σ H R I h;refine thn (hl xE s σ H _ I h) λv s1 ⟨x,H1,I1,r1,q1⟩=>?_
 obtain⟨a,e,⟨xs,hq⟩,q⟩:=q1;subst e;cases r1;obtain⟨its,rv,p,hz⟩:=I1.list hq;refine wpAny_pyIter_list p.isList ?_;refine⟨s1.heap.objs.size,[s1.heap.objs.size],_,_,H1,rfl,I1.kept (t':=s1.toks) λb o e=>zQ _ e,ZDq a _,⟨_,zD _ rfl,rfl,rfl⟩,λb hb=>?_,q⟩;have e:b=s1.heap.objs.size:=by simpa using hb
 subst e;exact I1.Mr (zJ _) (I1.hok.fresh (zJ _))
theorem ZCA{l:j8}{tl:TE}(hl:PE X l tl):PI X tg l (iTup X.K tl):=by
 intro xE s σ H R I h;refine thn (hl xE s σ H _ I h) λv s1 ⟨x,H1,I1,r1,q1⟩=>?_
 obtain⟨a,e,⟨xs,hq⟩,q⟩:=q1;subst e;cases r1;obtain⟨its,rv,p,hz⟩:=I1.tuple hq
 refine wpAny_pyIter_tuple (show s1.heap.IsTuple a its.toArray from p) ?_
 refine⟨s1.heap.objs.size,[s1.heap.objs.size],_,_,H1,rfl,I1.kept (t':=s1.toks) λb o e=>zQ _ e,ZEp a _,⟨_,zD _ rfl,rfl,rfl⟩,λb hb=>?_,q⟩;have e:b=s1.heap.objs.size:=by simpa using hb
 subst e;exact I1.Mr (zJ _) (I1.hok.fresh (zJ _))
theorem ZC2{R:It->Hp->Prop}{lo hi:Int}{t u v:Tok}{tk:Nat}(I:Inv X xE σ H s)(h1: -(2^62)<=lo)(h2:lo<2^62)(h3: -(2^62)<=hi)(h4:hi<2^62)
  (q:R (Itr lo (hi-lo).toNat) H):xY (xZ X.prog X.w) X.A (pyIter (.ref s.heap.objs.size)) (PIE X xE σ tg R) E {s with heap:=s.heap.push {cls:=.type "range",data:=.fields #[.int lo t,.int hi u,.int 1 v]},toks:=tk}:=by
 refine wpAny_pyIter_range (IsRange.new ..) (small_one h1 h2 h3 h4) ?_;have I1:Inv X xE σ H {s with heap:=s.heap.push {cls:=.type "range",data:=.fields #[.int lo t,.int hi u,.int 1 v]},toks:=tk}:=I.kept λb o e=>zQ _ e
 refine⟨(s.heap.push {cls:=.type "range",data:=.fields #[.int lo t,.int hi u,.int 1 v]}).objs.size,[(s.heap.push {cls:=.type "range",data:=.fields #[.int lo t,.int hi u,.int 1 v]}).objs.size],_,_,H,rfl,
  I1.kept (t':=tk) λb o e=>zQ _ e,ZEi _ lo (hi-lo).toNat,?_,λb hb=>?_,q⟩
 ·have e1:lo+((0:Nat):Int)*1=lo:=by simp
  have e2:(((hi-lo).toNat:Nat):Int)-((0:Nat):Int)=Builtin.Range.rangeSize lo hi 1:=by rw[rangeSize_one];split <;> lia
  show IsRangeIter _ _ (lo+((0:Nat):Int)*1) ((((hi-lo).toNat:Nat):Int)-((0:Nat):Int)) 1;rw[e1,e2];exact zD _ rfl
 ·have e:b=(s.heap.push {cls:=.type "range",data:=.fields #[.int lo t,.int hi u,.int 1 v]}).objs.size:=by simpa using hb
  subst e;exact I1.Mr (zJ _) (I1.hok.fresh (zJ _))
def ZHM(ta:TA):TI:=λσ H R=>ta σ H λvs H1=>∃j:Int,vs=[.int j]/\ -(2^62)<=j/\j<2^62/\R (Itr 0 j.toNat) H1
theorem ZDi{a:j8}{ta:TA}{p pos:Pos}(hg:Gl X "range")(hm:X.mg "range"=xG)(ha:PA X [a] ta)(hs:xW [a] X.env=[(xI,eval a X.env)]:=by rfl):PI X tg (.Call (.Name "range" p) [a] [] pos) (ZHM ta):=by
 intro xE s σ H R I h;refine Call_ (Nr I hg hm boot_range (PyProof.Rows.callWith_type1 (thn (ha pos xE s σ H _ I h) λus s1 ⟨vs,H1,I1,r1,q1⟩=>?_) hs rfl));obtain⟨j,e,q1,q2,q⟩:=q1;subst e;cases r1 with
 |cons r rr=>
  cases rr;obtain⟨t,rfl⟩:=r;exact call_range_1 (ZC2 I1 (by lia) (by lia) q1 q2 (by simpa using q))
def tFor(wi:TI)(g:TG)(tb:TS):TS:=λD σ H=>wi σ H λJ H1=>∃W:Nat->Nat->St->Hp->Prop,(∃m,W 0 m σ H1)/\∀i m σ H,W i m σ H->
 (J.stop i H/\D.nx σ H)∨(J.go i H/\∃N:St->Hp->Prop,(∀σ' H',N σ' H'->∃m',m'<m/\W (i+1) m' σ' H')/\∀x H',J.yld i H x H'->g x σ H' λσ2 H2=>tb {D with nx:=N,ct:=N,bk:=D.nx} σ2 H2)
noncomputable def Gy(fp:List j6)(h:Heap):List (j6×Obj):=fp.filterMap λb=>(h.get? b).map λo=>(b,o)
theorem Jt{o:Obj}(hb:b∈fp)(e:h.get? b=xF o):(b,o)∈Gy fp h:=List.mem_filterMap.mpr ⟨b,hb,by rw[e];rfl⟩
theorem Pu{p:j6×Obj}(hp:p∈Gy fp h):p.1∈fp/\h.get? p.1=xF p.2:=by
 obtain⟨b,hb,e⟩:=List.mem_filterMap.mp hp;cases q:h.get? b with
 |none=>rw[q]at e;cases e
 |some o=>
  rw[q]at e;have e':(b,o)=p:=Option.some.inj e;subst e';exact⟨hb,q⟩
theorem Inv.pinned(I:Inv X xE σ H s)(hf:∀b∈fp,FpOk X xE H b)(ho:∀b∈fp,∃o,s.heap.get? b=xF o/\∀v,o.data≠ .cell v):Inv X (xE++Gy fp s.heap) σ H s:=
 I.Dj λp hp=>(qY.mp hp).elim (λz=>I.pin p (zj _ z)) λz=>by obtain⟨hb,e⟩:=Pu z;obtain⟨f0,f1,f2,_⟩:=hf p.1 hb;obtain⟨o,e',d⟩:=ho p.1 hb;rw[e]at e';cases e';exact⟨e,f0,f1,f2,d⟩
theorem Inv.unpinned{pl:List (j6×Obj)}(I:Inv X (xE++pl) σ H s):Inv X xE σ H s:=I.Dj λp hp=>I.pin p (zj _ (qI _ hp))
theorem ZFa{iter:j8}{wi:TI}{g:TG}{tb:TS}{pos:Pos}(hp:PassesOwn (xZ X.prog X.w) X.A X.env X.xe)(hc:X.calm=xH)(hi:PI X tg iter wi)(hg:PG X tg g)(hb:PSs X body tb)
  (hs:∀x,foldedSetIterable iter X.env x=pure x:=by intro _;rfl):PS X (.For tg iter body [] pos) (tFor wi g tb):=by
 intro xE s σ H D I h;refine wpAny_For (thn (hi xE s σ H _ I h) λv s1 h1=>thn h1 λitv s2 h2=>?_) hs;obtain⟨it,fp,tn,J,H2,e,I2,T,st2,f2,W,⟨m0,w0⟩,turn⟩:=h2;subst e;have stat:∀{H':Hp},(∀b∈fp,H' b=xG)->∀b∈fp,FpOk X xE H' b:=λhn b hb=>⟨hn b hb,(f2 b hb).2⟩
 refine codeAny_forLoop_any (λn s'=>∃i σ' H',Inv X xE σ' H' s'/\tn i s'.heap/\(∀b∈fp,H' b=xG)/\W i n σ' H') ?_ m0 ⟨0,σ,H2,I2,st2,λb hb=>(f2 b hb).1,w0⟩;rintro n s3 ⟨i,σ3,H3,I3,st3,fr3,w3⟩;rcases turn i n σ3 H3 w3 with⟨stop,qn⟩|⟨go,N,hN,step⟩
 ·refine x9 hp (thn (T.done X rfl rfl rfl hc i xE s3 σ3 H3 X.xe I3 (stat fr3) st3 stop) λr s4 ⟨hr,I4⟩=>?_);subst hr;exact wpAny_execs_nil ⟨σ3,H3,I4,qn⟩
 ·refine x9 hp (thn (T.item X rfl rfl rfl hc i xE s3 σ3 H3 X.xe I3 (stat fr3) st3 go) λr s4 ⟨u,hr,h4⟩=>?_);subst hr;refine x9 hp (thn h4 λ_ s5 ⟨x,H5,I5,r5,y5,st5,fr5⟩=>?_);have I5':=I5.pinned (stat fr5) (T.obj _ _ st5);refine x9 hp (thn (hg _ s5 σ3 H5 x u _ I5' r5 (step x H5 y5)) λ_ s6 ⟨σ6,H6,I6,q6⟩=>?_);refine x9 hp (thn (hb _ s6 σ6 H6 _ I6 q6) λf s7 q7=>?_)
  have again:∀{σ7:St}{H7:Hp},Inv X (xE++Gy fp s5.heap) σ7 H7 s7->N σ7 H7->∃m,m<n/\∃i σ' H',Inv X xE σ' H' s7/\tn i s7.heap/\(∀b∈fp,H' b=xG)/\W i m σ' H':=λ{σ7 H7}I7 n7=>by obtain⟨m',hm,w7⟩:=hN σ7 H7 n7;refine⟨m',hm,i+1,σ7,H7,I7.unpinned,T.keep _ _ _ st5 λb hb o e=>(I7.pin (b,o) (zj _ (zj _ (Jt hb e)))).1,λb hb=>?_,w7⟩;obtain⟨o,e,d⟩:=T.obj _ _ st5 b hb;exact(I7.pin (b,o) (zj _ (zj _ (Jt hb e)))).2.1
  cases f with
  |next=>obtain⟨σ7,H7,I7,n7⟩:=q7;exact again I7 n7
  |cont=>obtain⟨σ7,H7,I7,n7⟩:=q7;exact again I7 n7
  |brk=>obtain⟨σ7,H7,I7,q7⟩:=q7;exact⟨σ7,H7,I7.unpinned,q7⟩
  |ret v=>obtain⟨x7,σ7,H7,I7,r7,q7⟩:=q7;exact⟨x7,σ7,H7,I7.unpinned,r7,q7⟩
end
noncomputable abbrev R2:=V->V->Hp->VK->Prop
variable{r:R2}
def OpR(X:Cx)(f:jF->jF->Sem jF)(r:R2):Prop:=
 ∀(xE:List (j6×Obj))(s:jD)(σ:St)(H:Hp)(x y:V)(v u:jF)(Q:VK),Inv X xE σ H s->RelV x v->RelV y u->r x y H Q->
  xY (xZ X.prog X.w) X.A (f v u) (EP X xE σ Q) X.xe s
def UnR(X:Cx)(f:jF->Sem jF)(r:V->Hp->VK->Prop):Prop:=
 ∀(xE:List (j6×Obj))(s:jD)(σ:St)(H:Hp)(x:V)(v:jF)(Q:VK),Inv X xE σ H s->RelV x v->r x H Q->
  xY (xZ X.prog X.w) X.A (f v) (EP X xE σ Q) X.xe s
def CallR(X:Cx)(f:jF)(r:List V->Hp->VK->Prop):Prop:=
 ∀(xE:List (j6×Obj))(s:jD)(σ:St)(H:Hp)(xs:List V)(us:List jF)(Q:VK),Inv X xE σ H s->Vals xs us->r xs H Q->
  xY (xZ X.prog X.w) X.A (call f us) (EP X xE σ Q) X.xe s
noncomputable def tOp(r:R2)(ta tb:TE):TE:=λσ H Q=>ta σ H λx H1=>tb σ H1 λy H2=>r x y H2 Q
noncomputable def tUn(r:V->Hp->VK->Prop)(ta:TE):TE:=λσ H Q=>ta σ H λx H1=>r x H1 Q
noncomputable def rI(C:Int->Int->Prop)(g:Int->Int->V):R2:=λx y H Q=>∃i j,x=.int i/\y=.int j/\C i j/\Q (g i j) H
noncomputable def rI0(g:Int->Int->V):R2:=λx y H Q=>∃i j,x=.int i/\y=.int j/\Q (g i j) H
def rU(g:Int->V):V->Hp->VK->Prop:=λx H Q=>∃i,x=.int i/\Q (g i) H
section
variable{X:Cx}{a b c:j8}{ta tb tc:TE}{pos:Pos}
theorem Rj(ha:PE X a ta)(hb:PE X b tb){R:V->V->Hp->Prop}(I:Inv X xE σ H s)
  (h:ta σ H λx H1=>tb σ H1 λy H2=>R x y H2) {Q:jF->jD->Prop} {f:jF->jF->Sem jF}
  (hf:∀v u s2 x y H2,Inv X xE σ H2 s2->RelV x v->RelV y u->R x y H2->xY (xZ X.prog X.w) X.A (f v u) Q X.xe s2):
  xY (xZ X.prog X.w) X.A (eval a X.env) (λv s₁=>xY (xZ X.prog X.w) X.A (eval b X.env) (λu s₂=>xY (xZ X.prog X.w) X.A (f v u) Q X.xe s₂) X.xe s₁) X.xe s:=by
 refine thn (ha xE s σ H _ I h) λv s1 ⟨x,H1,I1,r1,q1⟩=>?_
 refine thn (hb xE s1 σ H1 _ I1 q1) λu s2 ⟨y,H2,I2,r2,q2⟩=>?_
 exact hf v u s2 x y H2 I2 r1 r2 q2
theorem ZFh{op:Operator}(ho:OpR X (jN op) r)(ha:PE X a ta)(hb:PE X b tb):PE X (.BinOp a op b pos) (tOp r ta tb):=by intro xE s σ H Q I h;exact wpAny_BinOp (Rj ha hb I h λv u s2 x y H2 I2 rx ry q=>ho xE s2 σ H2 x y v u Q I2 rx ry q)
theorem ZEL{op:UnaryOp}{r:V->Hp->VK->Prop}(ho:UnR X (unaryOp op) r)(ha:PE X a ta):PE X (.UnaryOp op a pos) (tUn r ta):=by intro xE s σ H Q I h;exact UnaryOp_ (thn (ha xE s σ H _ I h) λv s1 ⟨x,H1,I1,r1,q1⟩=>ho xE s1 σ H1 x v Q I1 r1 q1)
theorem opI{C:Int->Int->Prop}{g:Int->Int->Int}
  (rule:∀(i j:Int)(t u:Tok)(s:jD)(Q:jF->jD->Prop)(E:jF->jD->Prop),C i j->Q (.int (g i j) s.toks) {s with toks:=s.toks+1}->xY (xZ X.prog X.w) X.A (f (.int i t) (.int j u)) Q E s):
  OpR X f (rI C λi j=>.int (g i j)):=by
 intro xE s σ H x y v u Q I rx ry h;obtain⟨i,j,rfl,rfl,hc,q⟩:=h;obtain⟨t,rfl⟩:=rx;obtain⟨t',rfl⟩:=ry;exact rule i j t t' s _ _ hc ⟨.int (g i j),H,I.tok _,⟨_,rfl⟩,q⟩
theorem opI0{g:Int->Int->Int}
  (rule:∀(i j:Int)(t u:Tok)(s:jD)(Q:jF->jD->Prop)(E:jF->jD->Prop),Q (.int (g i j) s.toks) {s with toks:=s.toks+1}->xY (xZ X.prog X.w) X.A (f (.int i t) (.int j u)) Q E s):
  OpR X f (rI0 λi j=>.int (g i j)):=by
 intro xE s σ H x y v u Q I rx ry h;obtain⟨i,j,rfl,rfl,q⟩:=h;obtain⟨t,rfl⟩:=rx;obtain⟨t',rfl⟩:=ry;exact rule i j t t' s _ _ ⟨.int (g i j),H,I.tok _,⟨_,rfl⟩,q⟩
theorem Nj{g:Int->Int->Bool}
  (rule:∀(i j:Int)(t u:Tok)(s:jD)(Q:jF->jD->Prop)(E:jF->jD->Prop),Q (.bool (g i j)) s->xY (xZ X.prog X.w) X.A (f (.int i t) (.int j u)) Q E s):
  OpR X f (rI0 λi j=>.bl (g i j)):=by
 intro xE s σ H x y v u Q I rx ry h;obtain⟨i,j,rfl,rfl,q⟩:=h;obtain⟨t,rfl⟩:=rx;obtain⟨t',rfl⟩:=ry;exact rule i j t t' s _ _ ⟨.bl (g i j),H,I,rfl,q⟩
def CPow(i j:Int):Prop:=0<=j/\j<=1000000/\i.natAbs<2^64
def CMul(i j:Int):Prop:=(-(2^64)<i/\i<2^64)∨(-(2^64)<j/\j<2^64)
theorem CMul.ok{i j:Int}(h:CMul i j):IntMulOk i j:=by
 rcases h with⟨h1,h2⟩|⟨h1,h2⟩
 ·exact .of_left (intBits_le_64 h1 h2)
 ·exact .of_right (intBits_le_64 h1 h2)
theorem ZEq:OpR X (jN .Add) (rI0 λi j=>.int (i+j)):=opI0 λ_ _ _ _ _ _ _ q=>add_int q
theorem ZDS:OpR X (jN .Sub) (rI0 λi j=>.int (i-j)):=opI0 λ_ _ _ _ _ _ _ q=>sub_int q
theorem ZDB:OpR X (jN .Mod) (rI (λ_ j=>0<j) λi j=>.int (i%j)):=opI λi j _ _ _ _ _ hc q=>by have h1:(0:Int)<j:=hc;exact mod_int' (by lia) (by rw[Int.fmod_eq_emod_of_nonneg i (by lia)];exact q)
theorem ZHZ:OpR X (jN .Pow) (rI CPow λi j=>.int (i^j.toNat)):=opI λ_ _ _ _ _ _ _ hc q=>pow_int_small hc.1 hc.2.1 hc.2.2 q
theorem unI{f:jF->Sem jF}{g:Int->Int}
  (rule:∀(i:Int)(t:Tok)(s:jD)(Q:jF->jD->Prop)(E:jF->jD->Prop),Q (.int (g i) s.toks) {s with toks:=s.toks+1}->xY (xZ X.prog X.w) X.A (f (.int i t)) Q E s):
  UnR X f (rU λi=>.int (g i)):=by
 intro xE s σ H x v Q I rx h;obtain⟨i,rfl,q⟩:=h;obtain⟨t,rfl⟩:=rx;exact rule i t s _ _ ⟨.int (g i),H,I.tok _,⟨_,rfl⟩,q⟩
theorem ZHe:UnR X (unaryOp .USub) (rU λi=>.int (-i)):=unI λ_ _ _ _ _ q=>neg_int q
end
section
variable{X:Cx}{a b c:j8}{ta tb tc:TE}{pos:Pos}
theorem Ly{Q:VK}{k k':Bool}(I:Inv X xE σ H s)(q:Q (.bl k) H)(e:k=k'):EP X xE σ Q (.bool k') s:=by subst e;exact⟨.bl k,H,I,rfl,q⟩
theorem ZFe:OpR X (jR .Lt) (rI0 λi j=>.bl (decide (i<j))):=Nj λ_ _ _ _ _ _ _ q=>lt_int q
theorem ZIa:OpR X (jR .LtE) (rI0 λi j=>.bl (decide (i<=j))):=Nj λ_ _ _ _ _ _ _ q=>le_int q
theorem ZEu:OpR X (jR .Gt) (rI0 λi j=>.bl (decide (j<i))):=Nj λ_ _ _ _ _ _ _ q=>gt_int q
theorem ZCR:OpR X (jR .GtE) (rI0 λi j=>.bl (decide (j<=i))):=Nj λ_ _ _ _ _ _ _ q=>ge_int q
theorem ZFA:OpR X (jR .Lt) (λx y H Q=>∃i j,x=.str i/\y=.str j/\Q (.bl (decide (i.cps.toList<j.cps.toList))) H):=by intro xE s σ H x y v u Q I rx ry h;obtain⟨i,j,rfl,rfl,q⟩:=h;obtain⟨t,rfl⟩:=rx;obtain⟨t',rfl⟩:=ry;exact lt_str (Ly I q rfl)
theorem ZCO:OpR X (jR .In) (λx y H Q=>∃i j,x=.str i/\y=.str j/\Q (.bl (!(Builtin.Str.occurrences j i 0 j.length 1).isEmpty)) H):=by intro xE s σ H x y v u Q I rx ry h;obtain⟨i,j,rfl,rfl,q⟩:=h;obtain⟨t,rfl⟩:=rx;obtain⟨t',rfl⟩:=ry;exact in_str (Ly I q rfl)
theorem ZHn:OpR X (jR .Is) (λx y H Q=>y=.non/\Q (.bl (decide (x=.non))) H):=by
 intro xE s σ H x y v u Q I rx ry h;obtain⟨rfl,q⟩:=h;cases ry;refine is_none_gen (Ly I q ?_)
 cases x<;>first
  |(cases rx;rfl)
  |(obtain⟨t,rfl⟩:=rx;rfl)
theorem ZCa:OpR X (jR .IsNot) (λx y H Q=>y=.non/\Q (.bl (!decide (x=.non))) H):=by
 intro xE s σ H x y v u Q I rx ry h;obtain⟨rfl,q⟩:=h;cases ry;refine isnot_none_gen (Ly I q ?_)
 cases x<;>first
  |(cases rx;rfl)
  |(obtain⟨t,rfl⟩:=rx;rfl)
theorem ZGU:OpR X (jR .NotIn) (λx y H Q=>∃i j,x=.str i/\y=.str j/\Q (.bl (!(!(Builtin.Str.occurrences j i 0 j.length 1).isEmpty))) H):=by intro xE s σ H x y v u Q I rx ry h;obtain⟨i,j,rfl,rfl,q⟩:=h;obtain⟨t,rfl⟩:=rx;obtain⟨t',rfl⟩:=ry;exact notIn_str (Ly I q rfl)
theorem OpR.or{r':R2}(h:OpR X f r)(h':OpR X f r'):OpR X f (λx y H Q=>r x y H Q∨r' x y H Q):=by
 intro xE s σ H x y v u Q I rx ry q;rcases q with q|q
 ·exact h xE s σ H x y v u Q I rx ry q
 ·exact h' xE s σ H x y v u Q I rx ry q
theorem nomark(b:j8)(h:op≠ .In:=by decide)(h2:op≠ .NotIn:=by decide):jM op b=xI:=by
 have e1:(op==CmpOp.In)=xI:=by cases op<;>first|rfl|exact absurd rfl h
 have e2:(op==CmpOp.NotIn)=xI:=by cases op<;>first|rfl|exact absurd rfl h2
 cases b<;>simp[jM,e1,e2]
theorem ZDp(ho:OpR X (jR op) r)(ha:PE X a ta)(hb:PE X b tb)(hm:jM op b=xI):PE X (.Compare a [op] [b] pos) (tOp r ta tb):=by intro xE s σ H Q I h;exact wpAny_Compare1 (Rj ha hb I h λv u s2 x y H2 I2 rx ry q=>ho xE s2 σ H2 x y v u Q I2 rx ry q) hm
noncomputable def Kh(t:TE):TT:=λσ H Q=>t σ H λx H'=>∃k,x=.bl k/\Q k H'
theorem ZCU(ho:OpR X (jR op) r)(ha:PE X a ta)(hb:PE X b tb)(hm:jM op b=xI):PT X (.Compare a [op] [b] pos) (Kh (tOp r ta tb)):=by
 intro xE s σ H Q I h;refine wpAny_isTrue_Compare1 (thn (ha xE s σ H _ I h) λv s1 ⟨x,H1,I1,r1,q1⟩=>thn (hb xE s1 σ H1 _ I1 q1) λu s2 ⟨y,H2,I2,r2,q2⟩=>
  thn (ho xE s2 σ H2 x y v u _ I2 r1 r2 q2) λc s3 ⟨z,H3,I3,r3,k,e,q3⟩=>?_) hm
 subst e;cases r3;exact xB ⟨H3,I3,q3⟩
noncomputable def Wb(r r':R2)(ta tb tc:TE):TE:=λσ H Q=>ta σ H λx H1=>tb σ H1 λy H2=>r x y H2 λz H3=>∃k,z=.bl k/\
 (if k=xH then tc σ H3 λw' H4=>r' y w' H4 Q else Q (.bl xI) H3)
theorem ZG2{op':CmpOp}{r':R2}(ho:OpR X (jR op) r)(ho':OpR X (jR op') r')(ha:PE X a ta)(hb:PE X b tb)(hc:PE X c tc)
  (hm:lastMarks [op,op'] [b,c]=xI:=by with_unfolding_all rfl):PT X (.Compare a [op,op'] [b,c] pos) (Kh (Wb r r' ta tb tc)):=by
 intro xE s σ H Q I h;refine isTrue_chain (thn (ha xE s σ H _ I h) λv s1 ⟨x,H1,I1,r1,q1⟩=>test_link (thn (hb xE s1 σ H1 _ I1 q1) λu s2 ⟨y,H2,I2,r2,q2⟩=>
  thn (ho xE s2 σ H2 x y v u _ I2 r1 r2 q2) λd s3 ⟨z,H3,I3,r3,k,e,q3⟩=>?_)) hm
 subst e;cases r3;refine xB ?_;cases k with
 |false=>
  obtain⟨k',e',q'⟩:=q3;cases e';exact ite_ff ⟨H3,I3,q'⟩
 |true=>
  refine ite_tt (test_last (thn (hc xE s3 σ H3 _ I3 q3) λw' s4 ⟨z',H4,I4,r4,q4⟩=>thn (ho' xE s4 σ H4 y z' u w' _ I4 r2 r4 q4) λd' s5 ⟨z2,H5,I5,r5,k2,e2,q5⟩=>?_));subst e2;cases r5;exact xB ⟨H5,I5,q5⟩
theorem line63:(sizeLine:Nat)<2^63:=by rw[xX];decide
theorem ZC3:OpR X (jN .Add) (λx y H Q=>∃i j,x=.str i/\y=.str j/\i.length+j.length<=sizeLine/\Q (.str (i++j)) H):=by intro xE s σ H x y v u Q I rx ry h;obtain⟨i,j,rfl,rfl,hz,q⟩:=h;obtain⟨t,rfl⟩:=rx;obtain⟨t',rfl⟩:=ry;exact add_str (λt' tk=>⟨.str (i++j),H,I.tok _,⟨_,rfl⟩,q⟩) hz
theorem vals1{x:V}(r:Vals [x] us):∃u,us=[u]/\RelV x u:=by
 cases r with
 |cons r1 r2=>cases r2;exact⟨_,rfl,r1⟩
theorem vals2{x y:V}(r:Vals [x,y] us):∃u w',us=[u,w']/\RelV x u/\RelV y w':=by
 cases r with
 |cons r1 r2=>
  cases r2 with
  |cons r3 r4=>cases r4;exact⟨_,_,rfl,r1,r3⟩
theorem ZHB(hc:X.calm=xH):CallR X (.builtin "max") (λxs H Q=>∃i j,xs=[.int i,.int j]/\Q (.int (if j>i then j else i)) H):=by
 intro xE s σ H xs us Q I r h;obtain⟨i,j,rfl,q⟩:=h;obtain⟨u,w',rfl,⟨t,rfl⟩,⟨t',rfl⟩⟩:=vals2 r;refine max_two_ints (I.ok.hd hc) λh' tk k=>⟨_,H,I.kept k,?_,q⟩
 by_cases hj:j>i
 ·rw[if_pos hj,if_pos hj];exact⟨_,rfl⟩
 ·rw[if_neg hj,if_neg hj];exact⟨_,rfl⟩
theorem ZIK:CallR X (.type "int") (λxs H Q=>(∃i,xs=[.int i]/\Q (.int i) H)∨∃k,xs=[.bl k]/\Q (.int (if k then 1 else 0)) H):=by
 intro xE s σ H xs us Q I r h;rcases h with⟨i,rfl,q⟩|⟨k,rfl,q⟩
 ·obtain⟨u,rfl,t,rfl⟩:=vals1 r;exact call_int_int ⟨.int i,H,I,⟨_,rfl⟩,q⟩
 ·obtain⟨u,rfl,r1⟩:=vals1 r;cases r1;exact call_int_bool ⟨.int (if k then 1 else 0),H,I.tok _,⟨_,rfl⟩,q⟩
theorem ZBw:CallR X (.type "str") (λxs H Q=>∃i,xs=[.int i]/\i.natAbs.log2<1920/\Q (.str (toString i)) H):=by intro xE s σ H xs us Q I r h;obtain⟨i,rfl,hz,q⟩:=h;obtain⟨u,rfl,t,rfl⟩:=vals1 r;exact PySem.P.str_of_int hz ⟨.str _,H,I.tok _,⟨_,rfl⟩,q⟩
end
theorem Zb{dx:j6}{mA:Str->Option jF}(n:h.Ns1 dx mA):∃od,h.get? dx=xF od/\∀name,PySem.W.lookIn name od=xF (mA name):=by
 obtain⟨o,es,ep,ho,hd,hk,_,hm⟩:=n;refine⟨o,ho,λname=>?_⟩;have e:=hm name;unfold nsFind findBy at e;rw[<-Array.find?_toList]at e;unfold PySem.W.lookIn;rw[hd];dsimp only;split
 ·rename_i y q;rw[q]at e;exact congrArg xF e
 ·rename_i q;rw[q]at e
  have a:es.toList.any (·.refKey)=xI:=by rw[List.any_eq_false];intro y hy;obtain⟨z,t,hkey⟩:=hk y (Array.mem_toList_iff.mp hy);simp[DictEntry.refKey,hkey]
  have a':¬es.toList.any (·.refKey)=xH:=by rw[a];exact zq
  rw[if_neg a'];exact congrArg xF e
section
variable{prog:jB}{w:jG}{A:j7}{E:jF->jD->Prop}{s:jD}{K:PySem.W.Frag}{x dx C f:j6}{mA:Str->Option jF}{name:Str}{v:jF}
end
theorem RelO.some_of{o:Option jF}(r:RelO (xF v) o):∃u,o=xF u/\RelV v u:=by
 cases o with
 |none=>exact(show False from r).elim
 |some u=>exact⟨u,rfl,r⟩
theorem ZFE(r:RelV v u):PySem.W.handedIn u=xH:=by
 cases v with
 |non=>cases(show u=Value.none from r);rfl
 |bl b=>cases(show u=Value.bool b from r);rfl
 |int i=>obtain⟨t,e⟩:=(show∃t,u=Value.int i t from r);cases e;rfl
 |str x=>obtain⟨t,e⟩:=(show∃t,u=Value.str x t from r);cases e;rfl
 |byt b=>obtain⟨t,e⟩:=(show∃t,u=Value.bytes b t from r);cases e;rfl
 |flt b=>obtain⟨t,e⟩:=(show∃t,u=Value.float b t from r);cases e;rfl
 |ref a=>cases(show u=Value.ref a from r);rfl
 |ty n=>cases(show u=Value.type n from r);rfl
section
variable{P:jB}{w:jG}{H H':Hp}{h h':Heap}{a C dx:j6}{fs fs':List (Str×V)}
end
def NoAttr(K:PySem.W.Frag)(C:j6)(f:Str):Prop:=PySem.W.findIn K (.ref C) f=xF xG
structure Meth (K:PySem.W.Frag) (C:j6) (m:Str) (f:j6):Prop where
 at_:PySem.W.findIn K (.ref C) m=xF (xF (.ref f))
 fn:PySem.W.isFn K (.ref f)=xH
 kp:PySem.W.keepIn K (.ref f)=xH
section
variable{X:Cx}{xE:List (j6×Obj)}{σ:St}{H:Hp}{s:jD}{a C dx:j6}{fs:List (Str×V)}{f:Str}{v:V}{A:j7}{E:jF->jD->Prop}
theorem ZGz{prog:jB}{env:Env}{f:Str}{pos:Pos}{Q:jF->jD->Prop}(hb:jI e f env (eval e env)=eval e env)
  (h:xY (xZ prog w) A (eval e env) (λo s₁=>xY (xZ prog w) A (getAttr o f xH) Q E s₁) E s):xY (xZ prog w) A (eval (.Attribute e f pos) env) Q E s:=
 Attribute_any_ h (by rw[arm_eval_Attribute,hb])
end
section
variable{X:Cx}{o e value:j8}{f:Str}{pos pos' tpos:Pos}{ta tv:TE}
end
section
variable{X:Cx}{xE:List (j6×Obj)}{σ:St}{H:Hp}{s:jD}{A:j7}{E:jF->jD->Prop}{Q:jF->jD->Prop}{c:jF}{b:Bool}
end
structure Room (k:Nat) (A:j7):Prop where
 hd:A.handled=xG
 dp:A.depth+3*k+5<recursionLimit
 un:A.units+16*k+200<cLine
theorem Room.mono{j:Nat}(r:Room k A)(h:j<=k):Room j A:=⟨r.hd,by have:=r.dp;lia,by have:=r.un;lia⟩
theorem Room.deeper(r:Room (k+1) A)(env:Env):Room k (A.deeper env):=
 ⟨r.hd,by have:=r.dp;show A.depth+1+3*k+5<_;lia,by have:=r.un;show A.units+3+16*k+200<_;lia⟩
theorem ZD7{C:j6}{kw:List (Str×jF)}:(A.under (.builtin "type.__call__" ⟨.ref C::us,kw⟩)).depth=A.depth+1:=by
 first|rfl|simp[Around.under,Code.weight,Code.isCreation,Code.isGuard,Code.isCaller,Code.frames,Code.isFrame,guardIds]
theorem ZHr{C:j6}{kw:List (Str×jF)}:(A.under (.builtin "type.__call__" ⟨.ref C::us,kw⟩)).units=A.units+1:=by
 first|rfl|simp[Around.under,Code.cUnits,Code.frames,Code.isFrame]
theorem Room.make(r:Room (k+1) A)(C:j6)(us:List jF)(kw:List (Str×jF)):Room k (A.under (.builtin "type.__call__" ⟨.ref C::us,kw⟩)):=
 ⟨r.hd,by have:=r.dp;rw[ZD7];lia,by have:=r.un;rw[ZHr];lia⟩
theorem Room.depth(r:Room k A):A.depth<recursionLimit:=by have:=r.dp;lia
theorem Room.units(r:Room k A):A.units+64<cLine:=by have:=r.un;lia
noncomputable def tNil:TA:=λ_ H Q=>Q [] H
noncomputable def Up(ta:TE)(tr:TA):TA:=λσ H Q=>ta σ H λx H1=>tr σ H1 λxs H2=>Q (x::xs) H2
section
variable{X:Cx}{e:j8}{es:List j8}{te:TE}{t:TA}{pos:Pos}
theorem Ti:PA X [] tNil:=λ_ _ _ _ H Q I h=>Calls.spliced_nil ⟨[],H,I,.nil,h⟩
theorem Kp(ha:PE X e te)(hr:PA X es t)(hs:xW (e::es) X.env=(xI,eval e X.env)::xW es X.env:=by rfl):PA X (e::es) (Up te t):=by intro pos xE s σ H Q I h;rw[hs];show xY _ _ (spliced ((xI,eval e X.env)::jL pos (xW es X.env))) _ _ s;refine Calls.spliced_cons (thn (ha xE s σ H _ I h) λu s1 ⟨x,H1,I1,r1,q1⟩=>?_);exact thn (hr pos xE s1 σ H1 _ I1 q1) λus s2 ⟨xs,H2,I2,r2,q2⟩=>⟨x::xs,H2,I2,.cons r1 r2,q2⟩
def tTup(t:TA):TE:=λσ H Q=>t σ H λxs H1=>xs.length<=sizeLine/\∀p,H1 p=xG->Q (.ref p) (upd H1 p (.tup xs))
def tLst(t:TA):TE:=λσ H Q=>t σ H λxs H1=>xs.length<=sizeLine/\∀p,H1 p=xG->Q (.ref p) (upd H1 p (.lst xs))
theorem ZGx{x1}(h:PA X es t):PE X (.Tuple es x1 pos) (tTup t):=by intro xE s σ H Q I hq;refine wpAny_Tuple_spliced (thn (h pos xE s σ H _ I hq) λus s1 ⟨xs,H1,I1,r,z,q⟩=>⟨by rw[<-r.length];exact z,?_⟩);have hf:H1 s1.heap.objs.size=xG:=I1.hok.fresh (zJ _);refine⟨.ref s1.heap.objs.size,upd H1 s1.heap.objs.size (.tup xs),I1.laid (t':=s1.toks) (λb u e=>zQ _ e) (zJ _) ?_,rfl,q _ hf⟩;exact⟨z,us,r,⟨_,zD _ rfl,rfl,_,rfl⟩⟩
theorem ZGj(h:PA X es t):PE X (.List es pos) (tLst t):=by intro xE s σ H Q I hq;refine wpAny_List_spliced (thn (h pos xE s σ H _ I hq) λus s1 ⟨xs,H1,I1,r,z,q⟩=>⟨by rw[<-r.length];exact z,?_⟩);have hf:H1 s1.heap.objs.size=xG:=I1.hok.fresh (zJ _);refine⟨.ref s1.heap.objs.size,upd H1 s1.heap.objs.size (.lst xs),I1.laid (t':=s1.toks) (λb u e=>zQ _ e) (zJ _) ?_,rfl,q _ hf⟩;exact⟨z,us,0,r,zD _ rfl⟩
end
noncomputable abbrev Sp:=List V->Hp->VK->XK->Prop
noncomputable abbrev CXT:=List Env->Hp->jD->XK->jF->jD->Prop
structure Env0 (P:jB) (w:jG) (K:PySem.W.Frag) (mg:Str->Option jF) (base:Heap) (A:j7) (outer:List Env) (s:jD) (H:Hp):Prop where
 frames:A.frames=xF outer
 mod:Mod K mg base
 bs:∀b o,base.get? b=xF o->s.heap.get? b=xF o/\H b=xG
 bsz:base.objs.size<=s.heap.objs.size
 funs:s.heap.FunFrames base outer
 frf:∀b∈frs outer,H b=xG
 hok:HOk P w H s.heap
 bare:AllBare s.gens
def CE(outer:List Env)(P:jB)(w:jG)(H:Hp)(s:jD)(Q:VK)(u:jF)(s':jD):Prop:=
 ∃v H',s'.os=s.os/\AllBare s'.gens/\Un (frs outer) [] H H' s.heap s'.heap/\HOk P w H' s'.heap/\RelV v u/\Q v H'
def CR(CX:CXT)(outer:List Env)(P:jB)(w:jG)(H:Hp)(s:jD)(Q:VK)(E:XK)(r:Result)(s':jD):Prop:=
 match r with
 |.ok (.ret u)=>CE outer P w H s Q u s'
 |.ok _=>False
 |.error e=>CX outer H s E e s'
structure FnOk (P:jB) (w:jG) (K:PySem.W.Frag) (mg:Str->Option jF) (base:Heap) (CX:CXT) (k:Nat) (f:j6) (fd:j9) (ps:List Str) (sp:Sp):Prop where
 len:∀vs H Q E,sp vs H Q E->vs.length=ps.length
 run:∀(A:j7)(outer:List Env)(s:jD)(H:Hp)(args:Args)(us:List jF)(vs:List V)(Q:VK)(E:XK),Room k A->Env0 P w K mg base A outer s H->BindsTo s fd args (ps.zip us)->Vals vs us->sp vs H Q E->
  codeAny (xZ P w) A (.call (.ref f) args) (CR CX outer P w H s Q E) s
theorem Env0.make{P:jB}{outer:List Env}(e:Env0 P w K mg base A outer s H)(C:j6)(us:List jF)(kw:List (Str×jF)):
  Env0 P w K mg base (A.under (.builtin "type.__call__" ⟨.ref C::us,kw⟩)) outer s H:=⟨by first|exact e.frames|(simpa[Around.under,Code.envs,Code.isFrame,pushEnvs]using e.frames),e.mod,e.bs,e.bsz,e.funs,e.frf,e.hok,e.bare⟩
section
variable{X:Cx}{xE:List (j6×Obj)}{σ:St}{H:Hp}{s s':jD}
theorem Inv.env0(I:Inv X xE σ H s):Env0 X.prog X.w X.K X.mg X.base X.A X.stack s H:=
 ⟨I.ok.frames,I.ok.mod,I.bs,zx I.ok.bsz I.sz,I.stack,I.O3,I.hok,I.bare⟩
theorem Inv.after{Q:VK}(I:Inv X xE σ H s)(h:CE X.stack X.prog X.w H s Q u s'):EP X xE σ Q u s':=by obtain⟨v,H',os,bare,un,hok,r,q⟩:=h;obtain⟨hh,g,d,t,os'⟩:=s';obtain rfl:os'=s.os:=os;exact⟨v,H',I.call (h':=hh) (g':=g) (d':=d) (t':=t) (ch:=[]) un hok bare (λb z=>absurd z (by simp)),r,q⟩
end
noncomputable def ZHH(sp:Sp)(dvs:List V)(E:XK)(t:TA):TE:=λσ H Q=>t σ H λvs H1=>sp (vs++dvs) H1 Q E
def Binds(K:PySem.W.Frag)(fd:j9)(ps:List Str)(ds:List jF):Prop:=
 ∀(s:jD)(us:List jF),K.In s.heap->(us++ds).length=ps.length->BindsTo s fd ⟨us,[]⟩ (ps.zip (us++ds))
theorem Binds.all{fd:j9}{ps:List Str}(h:∀us:List jF,us.length=ps.length->bindArgs fd ⟨us,[]⟩=pure (ps.zip us)):Binds K fd ps []:=λs us _ hl=>by rw[qQ]at hl⊢;exact .of_eq (h us hl)
def Passes(CX:CXT)(X:Cx)(E:XK):Prop:=∀(xE:List (j6×Obj))(σ:St)(H:Hp)(s:jD)(e:jF)(s':jD),Inv X xE σ H s->CX X.stack H s E e s'->X.xe e s'
section
variable{X:Cx}{CX:CXT}{k:Nat}{f C:j6}{fd:j9}{ps:List Str}{sp:Sp}{dvs:List V}{ds:List jF}{E:XK}{x m:Str}{p pos apos:Pos}{e o:j8}{es:List j8}{ta:TE}{t:TA}
theorem ZIS{Q:VK}{vs:List V}(F:FnOk X.prog X.w X.K X.mg X.base CX k f fd ps sp)(hr:Room k X.A)(hb:Binds X.K fd ps ds)(hd:Vals dvs ds)(hx:Passes CX X E)
  (I:Inv X xE σ H s) (r:Vals vs us) (h:sp (vs++dvs) H Q E):xY (xZ X.prog X.w) X.A (call (.ref f) us) (EP X xE σ Q) X.xe s:=by
 have r2:Vals (vs++dvs) (us++ds):=r.append hd;have hl:(us++ds).length=ps.length:=by rw[<-r2.length];exact F.len _ _ _ _ h
 refine wpAny_call (jP (F.run X.A X.stack s H ⟨us,[]⟩ (us++ds) (vs++dvs) Q E hr I.env0 (hb s us I.kIn hl) r2 h) λr s' hq=>?_);cases r with
 |error e=>exact hx xE σ H s e s' I hq
 |ok fl=>
  cases fl with
  |ret u=>exact I.after hq
  |next=>exact False.elim hq
  |brk=>exact False.elim hq
  |cont=>exact False.elim hq
theorem Pz(F:FnOk X.prog X.w X.K X.mg X.base CX k f fd ps sp)(hr:Room k X.A)(hg:Gl X x)(hm:X.mg x=xF (.ref f))(hk:PySem.W.keepIn X.K (.ref f)=xH)(hb:Binds X.K fd ps ds)(hd:Vals dvs ds)(hx:Passes CX X E)
  (ha:PA X (e::es) t) (hdb:(x==("__debug__":Str))=xI:=by decide) (he:xW (e::es) X.env=(xI,eval e X.env)::xW es X.env:=by rfl) (hpl:(jL pos (xW es X.env)).any (·.1)=xI:=by rfl):
  PE X (.Call (.Name x p) (e::es) [] pos) (ZHH sp dvs E t):=by
 intro xE s σ H Q I h;refine xq (Js I hg hm ?_ hdb);refine PySem.W.callWith_K (h₀:=X.base) I.ok.mod.kin hk (thn (ha pos xE s σ H _ I h) λus s1 ⟨vs,H1,I1,r,q⟩=>⟨I1.kIn,?_⟩) he hpl;exact ZIS F hr hb hd hx I1 r q
end
section
variable{X:Cx}{CX:CXT}{k:Nat}{f C:j6}{fd:j9}{ps ks:List Str}{sp:Sp}{E:XK}{x m:Str}{p pos apos kpos:Pos}{e o:j8}{es:List j8}{kws:List Keyword}{te ta:TE}{t tk:TA}{nm:Option Str}
variable{g:List jF->List jF->List jF}{gV:List V->List V->List V}
end
structure FnScope (N P:List Str) (sc:jC):Prop where
 kind:sc.kind=.function
 co:sc.isCoroutine=xI
 gen:sc.isGenerator=xI
 nd:N.Nodup
 pre:N.take P.length=P
 par:∀x∈P,sc.names.lookup x=xF .local∨sc.names.lookup x=xF .cell
 nofree:∀y∈sc.names,y.2≠ .free
theorem ZAc:∀{binds:List (Str×jF)}{m:Str->Option jF},(∀v,(x,v)∉binds)->bindL kindOf binds m x=m x
 |[],_,_=>rfl
 | (n,v)::r,m,h=>by
  unfold bindL;rw[ZAc λw hw=>h w (zW _ hw)];split
  ·have:x≠n:=by rintro rfl;exact h v zU
   simp[this]
  ·rfl
theorem Vw:∀{binds:List (Str×jF)}{m:Str->Option jF},(∀v,(x,v)∉binds)->bindC kindOf binds m x=m x
 |[],_,_=>rfl
 | (n,v)::r,m,h=>by
  unfold bindC;rw[Vw λw hw=>h w (zW _ hw)];split
  ·rfl
  ·have:x≠n:=by rintro rfl;exact h v zU
   simp[this]
theorem Z6{v:jF}:∀{P:List Str}{vs:List jF}{i:Nat}{m:Str->Option jF},P.Nodup->P[i]?=xF x->vs[i]?=xF v->kindOf x=xF .local->
  bindL kindOf (P.zip vs) m x=xF v
 |[],_,_,_,_,h,_,_=>by simp at h
 |_::_,[],_,_,_,_,h,_=>by simp at h
 |p::P,w::vs,0,m,nd,h1,h2,hk=>by simp at h1 h2;subst h1;subst h2;show bindL kindOf ((p,w)::P.zip vs) m p=_;unfold bindL;rw[ZAc λv hv=>(j3.mp nd).1 (List.of_mem_zip hv).1,if_pos hk];simp
 |p::P,w::vs,i+1,m,nd,h1,h2,hk=>by show bindL kindOf ((p,w)::P.zip vs) m x=_;unfold bindL;exact Z6 (i:=i) (j3.mp nd).2 (by simpa using h1) (by simpa using h2) hk
theorem Zj{v:jF}:∀{P:List Str}{vs:List jF}{i:Nat}{m:Str->Option jF},P.Nodup->P[i]?=xF x->vs[i]?=xF v->kindOf x≠xF .local->
  bindC kindOf (P.zip vs) m x=xF v
 |[],_,_,_,_,h,_,_=>by simp at h
 |_::_,[],_,_,_,_,h,_=>by simp at h
 |p::P,w::vs,0,m,nd,h1,h2,hk=>by simp at h1 h2;subst h1;subst h2;show bindC kindOf ((p,w)::P.zip vs) m p=_;unfold bindC;rw[Vw λv hv=>(j3.mp nd).1 (List.of_mem_zip hv).1,if_neg hk];simp
 |p::P,w::vs,i+1,m,nd,h1,h2,hk=>by show bindC kindOf ((p,w)::P.zip vs) m x=_;unfold bindC;exact Zj (i:=i) (j3.mp nd).2 (by simpa using h1) (by simpa using h2) hk
noncomputable def start(N:List Str)(vs:List V):St:=vs.map xF++zE (N.length-vs.length) xG
noncomputable def Fj(CX:CXT)(P:jB)(w:jG)(K:PySem.W.Frag)(mg:Str->Option jF)(base:Heap)(N:List Str)(qual:Str)(scope:jC)(f:j6)(cd:jF)(A:j7)(outer:List Env)(s:jD)(H:Hp)(E:XK):Cx where
 prog:=P
 w:=w
 K:=K
 mg:=mg
 base:=base
 A:=A.deeper (envOfC qual scope s.heap.objs.size f cd)
 N:=N
 s₀:=s
 H₀:=H
 env:=envOfC qual scope s.heap.objs.size f cd
 outer:=outer
 stack:=envOfC qual scope s.heap.objs.size f cd::outer
 ex:=[]
 calm:=xH
 fn:=λ_=>xH
 pn:=[]
 xe:=λe s'=>xY (xZ P w) (A.deeper (envOfC qual scope s.heap.objs.size f cd)) (leaving (envOfC qual scope s.heap.objs.size f cd) e) (λ_ s''=>CX outer H s E e s'') (λe' s''=>CX outer H s E e' s'') s'
theorem ZAm{sc:jC}{n:Nat}(h:sc.names.lookup x=xF .cell):∃c,(cellsFrom n sc.names []).lookup x=xF c:=by have q:=PySem.W.cellsFrom_some sc.names n [] (.inl h);exact Option.isSome_iff_exists.mp q
theorem ZE7{CX:CXT}{P:jB}{N ps:List Str}{qual:Str}{scope:jC}{f:j6}{cd:jF}{outer:List Env}{s1:jD}{E:XK}{vs:List V}
  (S:FnScope N ps scope) (hd:A.handled=xG) (e0:Env0 P w K mg base A outer s H) (hl:vs.length=ps.length) (r:Vals vs us)
  (x:InCallC s s.heap.objs.size (bindL (envOfC qual scope s.heap.objs.size f cd).kindOf (ps.zip us) λ_=>xG) (cellsFrom (s.heap.objs.size+1) scope.names []) (bindC (envOfC qual scope s.heap.objs.size f cd).kindOf (ps.zip us) λ_=>xG) s1):
  Inv (Fj CX P w K mg base N qual scope f cd A outer s H E) [] (start N vs) H s1:=by
 have hpl:ps.length<=N.length:=by have:=congrArg qE S.pre;rw[qz]at this;lia
 obtain⟨h1,tk,rfl,hk⟩:=x.done
 have noA:∀b:j6,b∉(Fj CX P w K mg base N qual scope f cd A outer s H E).ex:=λb z=>absurd (show b∈([]:List j6)from z) (by simp)
 refine⟨⟨e0.mod,S.kind,rfl,rfl,zJ _,λy z c h1 h2=>?_,λy hy=>?_,λy c _ h=>?_,λ_=>hd,Around.frames_deeper e0.frames,.inr ⟨rfl,rfl⟩,λb z=>absurd z (noA b),e0.bs,e0.bsz,λb _ _=>noA b,λb z=>absurd z (noA b),e0.funs,e0.frf⟩,
  rfl,e0.bare,Un.kept hk,⟨_,x.toInCall.ns,λi y v h1 h2 h3=>?_⟩,λy c h=>⟨_,x.cell y c h⟩,e0.hok.fresh (zJ _),λy c h=>?_,λp hp=>absurd (show p∈([]:List (j6×Obj))from hp) (by simp),e0.hok.kept hk,?_⟩
 ·exact name_of_addr x.apart (PySem.mem_of_lookup h1) (PySem.mem_of_lookup h2)
 ·have hy:scope.names.lookup y=xF .cell∨scope.names.lookup y=xF .free:=hy;rcases hy with hy|hy
  ·exact ZAm hy
  ·exact absurd rfl (S.nofree _ (PySem.mem_of_lookup hy))
 ·exact j4 (x.above y c (PySem.mem_of_lookup h))
 ·have hi:i<vs.length:=by
   unfold start at h2;by_cases hi:i<vs.length
   ·exact hi
   ·rw[zB (by simpa using hi)]at h2;rw[qx]at h2
    split at h2<;>cases h2
  have ha:vs[i]?=xF v:=by
   unfold start at h2;rw[zH (by simpa using hi),zM]at h2;cases e:vs[i]? with
   |none=>rw[e]at h2;cases h2
   |some a=>rw[e]at h2;cases h2;rfl
  obtain⟨u,hu,rv⟩:=r.get ha;have hp:ps[i]?=xF y:=by rw[<-S.pre,jK (by lia)];exact h1
  have ndP:ps.Nodup:=by rw[<-S.pre];exact S.nd.sublist (List.take_sublist _ _)
  refine⟨u,rv,?_⟩;rcases S.par y (List.mem_of_getElem? hp)with k|k
  ·exact .inl ⟨k,Z6 ndP hp hu k⟩
  ·obtain⟨c,e⟩:=ZAm (n:=s.heap.objs.size+1) k;refine .inr ⟨.inl k,c,e,?_⟩;have q:=x.cell y c e;rw[Zj ndP hp hu (by show scope.names.lookup y≠_;rw[k];decide)]at q;exact q
 ·exact e0.hok.fresh (j4 (x.above y c (PySem.mem_of_lookup h)))
 ·unfold start;show _=N.length;rw[zK,zy,qU];lia
theorem Zt{CX:CXT}{P:jB}{f:j6}{name qual:Str}{params:Arguments}{scope:jC}{dV kV doc pm cdv ct oc:jF}{an od:Option j6}
  {osl:Array (Option jF)} {N ps:List Str} {sp:Sp} (lk:K.lookup f=xF ⟨oc,od,.func (PySem.W.fnOf name qual params body scope dV kV doc pm an cdv ct),osl⟩) (hcd:PySem.W.codeIn K cdv qual=xH) (S:FnScope N ps scope)
  (len:∀vs H Q E,sp vs H Q E->vs.length=ps.length)
  (hbody:∀(A:j7)(outer:List Env)(s:jD)(H:Hp)(vs:List V)(Q:VK)(E:XK),Room k (A.deeper (envOfC qual scope s.heap.objs.size f cdv))->sp vs H Q E->
   ∃t,PSs (Fj CX P w K mg base N qual scope f cdv A outer s H E) body t/\t {nx:=λ_ H'=>Q .non H',rt:=Q} (start N vs) H):
  FnOk P w K mg base CX (k+1) f (PySem.W.fnOf name qual params body scope dV kV doc pm an cdv ct) ps sp:=by
 refine⟨len,λA outer s H args us vs Q E hr e0 hb r hsp=>?_⟩;have hl:=len _ _ _ _ hsp;have KX:K.In s.heap:=e0.mod.kin.keeps λb o e=>(e0.bs b o e).1
 have lim:s.heap.NoLimit:=e0.mod.nolimit.keeps λb o e=>(e0.bs b o e).1
 have hkind:∀y∈ps.zip us,scope.names.lookup y.1=xF .local∨(scope.names.lookup y.1=xF .cell/\((cellsFrom (s.heap.objs.size+1) scope.names []).lookup y.1).isSome=xH):=λ⟨n,v⟩ hy=>by
  rcases S.par n (List.of_mem_zip hy).1 with q|q
  ·exact .inl q
  ·exact .inr ⟨q,PySem.W.cellsFrom_some _ _ _ (.inl q)⟩
 refine codeAny_call_function hr.depth (KX _ _ lk) rfl S.co S.gen rfl (PySem.W.codeRec_of KX hcd) (hb _ _ _ _ ?_);refine wpAny_newFunctionEnv_cells S.kind hkind λenv he s1 x=>?_
 subst he;refine⟨lim.keeps x.toInCall.keep,codeAny_func ?_⟩;obtain⟨t,ht,hq⟩:=hbody A outer s H vs Q E (hr.deeper _) hsp;have I:Inv (Fj CX P w K mg base N qual scope f cdv A outer s H E) [] (start N vs) H s1:=ZE7 S hr.hd e0 hl r x;refine xy (ht [] s1 (start N vs) H _ I hq) (λfl s' hs=>?_) λe s' hs=>hs
 have fin:∀{σ':St}{H':Hp}{v:V}{u:jF},Inv (Fj CX P w K mg base N qual scope f cdv A outer s H E) [] σ' H' s'->RelV v u->Q v H'->CE outer P w H s Q u s':=
  λ{σ' H' v u}J rv q=>⟨v,H',J.os,J.bare,J.base,J.hok,rv,q⟩
 cases fl with
 |ret u=>
  obtain⟨v,σ',H',J,rv,q⟩:=hs;exact fin J rv q
 |next=>
  obtain⟨σ',H',J,q⟩:=hs;exact fin (v:=V.non) (u:=Value.none) J rfl q
 |brk=>
  obtain⟨_,_,_,q⟩:=hs;exact False.elim q
 |cont=>
  obtain⟨_,_,_,q⟩:=hs;exact False.elim q
section
variable{X:Cx}{x:Str}{p pos:Pos}{e:j8}{es:List j8}{t:TA}{id T:String}{r:List V->Hp->VK->Prop}
noncomputable def tCB(r:List V->Hp->VK->Prop)(t:TA):TE:=λσ H Q=>t σ H λvs H1=>r vs H1 Q
theorem ZBl(hc:CallR X (.builtin id) r)(hg:Gl X x)(hm:X.mg x=xG)(hv:jO x=xF (.builtin id))(ha:PA X (e::es) t)(hn:x≠"__name__":=by decide)(hdb:(x==("__debug__":Str))=xI:=by decide)
  (he:xW (e::es) X.env=(xI,eval e X.env)::xW es X.env:=by rfl) (hpl:(jL pos (xW es X.env)).any (·.1)=xI:=by rfl):PE X (.Call (.Name x p) (e::es) [] pos) (tCB r t):=by
 intro xE s σ H Q I h;refine xq (Nr I hg hm hv ?_ hn hdb);exact PyProof.Rows.callWith_builtin1 (thn (ha pos xE s σ H _ I h) λus s1 ⟨vs,H1,I1,r1,q1⟩=>hc xE s1 σ H1 vs us Q I1 r1 q1) he hpl
theorem ZGk(hc:CallR X (.type T) r)(hg:Gl X x)(hm:X.mg x=xG)(hv:jO x=xF (.type T))(ha:PA X (e::es) t)(hn:x≠"__name__":=by decide)(hdb:(x==("__debug__":Str))=xI:=by decide)
  (he:xW (e::es) X.env=(xI,eval e X.env)::xW es X.env:=by rfl) (hpl:(jL pos (xW es X.env)).any (·.1)=xI:=by rfl):PE X (.Call (.Name x p) (e::es) [] pos) (tCB r t):=by
 intro xE s σ H Q I h;refine xq (Nr I hg hm hv ?_ hn hdb);exact PyProof.Rows.callWith_type1 (thn (ha pos xE s σ H _ I h) λus s1 ⟨vs,H1,I1,r1,q1⟩=>hc xE s1 σ H1 vs us Q I1 r1 q1) he hpl
end
end _L
namespace HT
open PySem PyProof.Rows
section
open PySem.SeqAt
open PySem.AutoSeq1 (wpAny_loadPart')
open PySem.MeetsSeq PySem.MeetsSeq2 PySem.MeetsSeq3
end
section
variable{prog:jB}{w:jG}{A:j7}{E:jF->jD->Prop}{s:jD}
theorem ZFJ{t b:j6}{vs ws:List jF}{Q:jF->jD->Prop}(ht:IsTup s.heap t vs.toArray)(hb:IsTup s.heap b ws.toArray)(hv:vs≠[])
  (h1:ws=[]->Q (.ref t) s) (h2:ws≠[]->Q (.ref s.heap.objs.size) {s with heap:=s.heap.push {cls:=.type "tuple",data:=.seq (vs++ws).toArray}})
  (hsz:vs.length+ws.length<=sizeLine):xY (xZ prog w) A (jN .Add (.ref t) (.ref b)) Q E s:=by
 obtain⟨⟨cls,dd,data,sl⟩,ho,hc,n,hd⟩:=id ht;obtain⟨⟨cls2,dd2,data2,sl2⟩,ho2,hc2,n2,hd2⟩:=id hb;simp only at hc hd hc2 hd2;subst hc hd hc2 hd2;have e:vs.toArray++ws.toArray=(vs++ws).toArray:=by simp
 by_cases hw:ws=[]
 ·exact concat_meets ⟨_,ho,rfl⟩ ⟨_,ho2,rfl⟩ noFill_tuple_add seq_tuple_add PySem.F.slot_tuple_add PySem.F.entry_tuple_add (PySem.F.args_tuple_add_2 _ _)
   (tuple_addW1 t b vs.toArray ws.toArray n n2 dd dd2 sl sl2 (by simpa using hv) (by simp[hw])) ⟨ho,ho2,h1 hw⟩
 ·refine concat_meets ⟨_,ho,rfl⟩ ⟨_,ho2,rfl⟩ noFill_tuple_add seq_tuple_add PySem.F.slot_tuple_add PySem.F.entry_tuple_add (PySem.F.args_tuple_add_2 _ _)
   (tuple_addW2 t b vs.toArray ws.toArray n n2 dd dd2 sl sl2 (by simpa using hv) (by simpa using hw) (by rw[zY,zY];exact hsz)) ⟨ho,ho2,?_⟩
  rw[e];exact h2 hw
noncomputable def sIx(n d:Nat):Option Int->Nat
 |none=>d
 |some v=>if v<0 then(v+(n:Int)).toNat else min v.toNat n
theorem ZBX(n d:Nat)(hd:d<=n)(o:Option Int):sIx n d o<=n:=by
 cases o with
 |none=>exact hd
 |some v=>
  show(if v<0 then(v+(n:Int)).toNat else min v.toNat n)<=n;by_cases hv:v<0
  ·rw[if_pos hv];lia
  ·rw[if_neg hv];exact Nat.min_le_right _ _
theorem Xj(v:Int)(n d:Nat):(if v<0 then max (v+(n:Int)) 0 else min v (n:Int))=((sIx n d (xF v):Nat):Int):=by
 show(if v<0 then max (v+(n:Int)) 0 else min v (n:Int))=(((if v<0 then(v+(n:Int)).toNat else min v.toNat n):Nat):Int);by_cases hv:v<0
 ·simp only[if_pos hv];lia
 ·simp only[if_neg hv];lia
theorem ZDO(lo hi:Option Int)(n:Nat):Builtin.Slice.sliceAdjust lo hi 1 (n:Int)=(((sIx n 0 lo:Nat):Int),((sIx n n hi:Nat):Int)):=by
 have h1:¬((1:Int)<0):=by lia
 unfold Builtin.Slice.sliceAdjust;simp only[h1,if_false];refine Prod.ext ?_ ?_
 ·cases lo with
  |none=>rfl
  |some v=>exact Xj v n 0
 ·cases hi with
  |none=>rfl
  |some v=>exact Xj v n n
theorem ZFu(i j:Nat):Builtin.Slice.slicePlaces (i:Int) (j:Int) 1=j-i:=by
 unfold Builtin.Slice.slicePlaces;have h1:(1:Int)>0:=by lia
 simp only[h1,if_true,Int.ediv_one]
 split <;> lia
theorem ZBE{v:jF}{o:Option Int}{Q:Option Int->jD->Prop}(p:IsPart v o)(h:Q o s):xY (xZ prog w) A (Builtin.Slice.slicePartIndex v) Q E s:=by
 cases p with
 |none=>exact slicePart_none h
 |int i t=>exact slicePart_int h
theorem Wr{sl:j6}{vl vu:jF}{lo hi:Option Int}{n:Nat}{Q:Int×Int×Nat->jD->Prop}(hs:s.heap.IsSliceOf sl vl vu .none)(pl:IsPart vl lo)(pu:IsPart vu hi)
  (h:Q (((sIx n 0 lo:Nat):Int),1,sIx n n hi-sIx n 0 lo) s):xY (xZ prog w) A (Builtin.Slice.sliceApplied (.ref sl) (pure (n:Int))) Q E s:=by
 obtain⟨os,hos,hcs,hds⟩:=id hs;unfold Builtin.Slice.sliceApplied Builtin.Slice.sliceFields;refine xz (xz (xj hos hds (x:=vl) rfl (xz (xj hos hds (x:=vu) rfl (xz (xj hos hds (x:=.none) rfl (xA ?_)))))));refine xz (slicePart_none ?_);show xY _ _ (if((1:Int)==0)=xH then _ else _) _ _ s;rw[if_neg (by decide)];refine xz (ZBE pl (xz (ZBE pu (xz (xA ?_)))))
 show xY _ _ (match Builtin.Slice.sliceAdjust lo hi 1 (n:Int)with |(lo,hi)=>pure (lo,(1:Int),Builtin.Slice.slicePlaces lo hi 1)) _ _ s
 rw[ZDO lo hi n];show xY _ _ (pure (((sIx n 0 lo:Nat):Int),(1:Int),Builtin.Slice.slicePlaces ((sIx n 0 lo:Nat):Int) ((sIx n n hi:Nat):Int) 1)) _ _ s;rw[ZFu];exact xA h
theorem ZEM(xs:Array jF)(i k:Nat):((qK k).filterMap λ(m:Nat)=>xs[((i:Int)+(m:Int)*1).toNat]?).toArray=((xs.toList.drop i).take k).toArray:=by
 have e:(λ(m:Nat)=>xs[((i:Int)+(m:Int)*1).toNat]?)=λm=>xs[i+m]? :=by
  funext m;have:((i:Int)+(m:Int)*1).toNat=i+m:=by lia
  rw[this]
 rw[e];have:=pick_run xs i k;rw[List.filterMap_map]at this;have e2:((λx=>xs[x]?) ∘ λx=>i+x)=λm=>xs[i+m]? :=rfl
 rw[e2]at this;rw[this]
theorem ZHJ{t sl:j6}{items:Array jF}{vl vu:jF}{lo hi:Option Int}{Q:jF->jD->Prop}(ht:IsTup s.heap t items)(hs:s.heap.IsSliceOf sl vl vu .none)(pl:IsPart vl lo)(pu:IsPart vu hi)
  (hw:¬(sIx items.size 0 lo=0/\sIx items.size items.size hi=items.size))
  (h:Q (.ref s.heap.objs.size) {s with heap:=s.heap.push {cls:=.type "tuple",data:=.seq ((items.toList.drop (sIx items.size 0 lo)).take (sIx items.size items.size hi-sIx items.size 0 lo)).toArray}})
  (hsz:items.size<=sizeLine):xY (xZ prog w) A (getItem (.ref t) (.ref sl)) Q E s:=by
 have htake:sizeOk (.seq ((items.toList.drop (sIx items.size 0 lo)).take (sIx items.size items.size hi-sIx items.size 0 lo)).toArray):=by show((items.toList.drop (sIx items.size 0 lo)).take (sIx items.size items.size hi-sIx items.size 0 lo)).toArray.size<=sizeLine;rw[zY,qz,qj,qN];lia
 have hj:sIx items.size items.size hi<=items.size:=ZBX _ _ (zJ _) hi;obtain⟨os,hos,hcs,hds⟩:=id hs;have hTs:s.TypeIs (.ref sl) "slice":=⟨os,hos,hcs⟩;unfold getItem
 try with_reducible refine xk ?_
 first|refine xz (xA ?_)|skip
 refine xz (wpAny_sequenceKey ht.typeIs (by decide) ?_);refine xz (wpAny_callSpecial?_slot (name:=Str.ofString "__getitem__") ht.typeIs PyProof.Rows.slot_tuple_getitem
  (wpAny_call_entry PyProof.Rows.slot_tuple_getitem ht.typeIs entry_tuple_getitem ?_ (args_tuple_getitem _ _)))
 show xY _ _ (Builtin.Tuple.tupleItemsOf (.ref t) >>=_) _ _ s;refine xz (tupleItemsOf_ ht ?_);refine xz (wpAny_typeOf hTs ?_);rw[if_pos (by decide)];refine xz (Wr hs pl pu ?_);have hno:¬((((sIx items.size 0 lo:Nat):Int)==0&&(1:Int)==1&&(sIx items.size items.size hi-sIx items.size 0 lo)==items.size)=xH):=by intro q;rw[zw,zw]at q;have q1:((sIx items.size 0 lo:Nat):Int)=0:=eq_of_beq q.1.1;have q2:sIx items.size items.size hi-sIx items.size 0 lo=items.size:=eq_of_beq q.2;exact hw ⟨by lia,by lia⟩
 show xY _ _ (if(((sIx items.size 0 lo:Nat):Int)==0&&(1:Int)==1&&(sIx items.size items.size hi-sIx items.size 0 lo)==items.size)=xH then _ else _) _ _ s;rw[if_neg hno,ZEM]
 first
  |exact xz (m:=Builtin.Tuple.tupleExact _) (x0 (xA ⟨_,rfl,xA h⟩) htake)
  |exact xz (m:=Builtin.Tuple.tupleExact _) (x0 (xz (xA (xA ⟨_,rfl,xA h⟩))) htake)
  |exact xz (xz (m:=Builtin.Tuple.tupleExact _) (x0 (xA (xA ⟨_,rfl,xA h⟩)) htake))
  |exact xz (xz (m:=Builtin.Tuple.tupleExact _) (x0 (xA ⟨_,rfl,xA h⟩) htake))
end
end HT
namespace _L
open PySem PySem.Spec PyProof.Rows
variable{s:jD}
noncomputable abbrev TO:=St->Hp->(Option Int->Hp->Prop)->Prop
def PO(X:Cx)(e:Option j8)(t:TO):Prop:=
 ∀(xE:List (j6×Obj))(s:jD)(σ:St)(H:Hp)(Q:Option Int->Hp->Prop),Inv X xE σ H s->t σ H Q->
  xY (xZ X.prog X.w) X.A (evalPart e X.env) (λu s'=>∃o H',Inv X xE σ H' s'/\IsPart u o/\Q o H') X.xe s
noncomputable def ZHN:TO:=λ_ H Q=>Q xG H
noncomputable def ZH2(t:TE):TO:=λσ H Q=>t σ H λx H1=>∃i,x=.int i/\Q (xF i) H1
section
variable{X:Cx}{e:j8}{te:TE}{lo hi:Option j8}{tl th:TO}{pos p2:Pos}
theorem ZEn:PO X xG ZHN:=by intro xE s σ H Q I h;rw[evalPart_none];exact xA ⟨xG,H,I,.none,h⟩
theorem ZC8(h:PE X e te):PO X (xF e) (ZH2 te):=by
 intro xE s σ H Q I hw;rw[evalPart_some];refine thn (h xE s σ H _ I hw) λu s1 ⟨x,H1,I1,r1,q1⟩=>?_
 obtain⟨i,rfl,q⟩:=q1;obtain⟨t,rfl⟩:=r1;exact⟨xF i,H1,I1,.int i t,q⟩
def SlR(X:Cx)(r:V->Option Int->Option Int->Hp->VK->Prop):Prop:=
 ∀(xE:List (j6×Obj))(s:jD)(σ:St)(H:Hp)(x:V)(v vl vu:jF)(lo hi:Option Int)(sl:j6)(Q:VK),Inv X xE σ H s->RelV x v->s.heap.IsSliceOf sl vl vu .none->IsPart vl lo->IsPart vu hi->r x lo hi H Q->
  ∃T id,typeLookup (.type T) "__getitem__"=pure (xF (.builtin id))/\s.TypeIs v T/\xY (xZ X.prog X.w) X.A (getItem v (.ref sl)) (EP X xE σ Q) X.xe s
theorem SlR.or{r r':V->Option Int->Option Int->Hp->VK->Prop}(h:SlR X r)(h':SlR X r'):SlR X (λx lo hi H Q=>r x lo hi H Q∨r' x lo hi H Q):=by
 intro xE s σ H x v vl vu lo hi sl Q I rx hs pl pu q;rcases q with q|q
 ·exact h xE s σ H x v vl vu lo hi sl Q I rx hs pl pu q
 ·exact h' xE s σ H x v vl vu lo hi sl Q I rx hs pl pu q
noncomputable def tSl(r:V->Option Int->Option Int->Hp->VK->Prop)(te:TE)(tl th:TO):TE:=λσ H Q=>te σ H λx H1=>tl σ H1 λl H2=>th σ H2 λu H3=>r x l u H3 Q
theorem ZF1{r:V->Option Int->Option Int->Hp->VK->Prop}(hr:SlR X r)(he:PE X e te)(hl:PO X lo tl)(hu:PO X hi th):PE X (.Subscript e (.Slice lo hi xG p2) pos) (tSl r te tl th):=by
 intro xE s σ H Q I h;refine Subscript_ (thn (he xE s σ H _ I h) λv s1 ⟨x,H1,I1,r1,q1⟩=>?_);refine wpAny_Slice (thn (hl xE s1 σ H1 _ I1 q1) λvl s2 ⟨l,H2,I2,pl,q2⟩=>thn (hu xE s2 σ H2 _ I2 q2) λvu s3 ⟨u,H3,I3,pu,q3⟩=>?_);rw[evalPart_none];refine xA ?_;have I4:Inv X xE σ H3 {s3 with heap:=s3.heap.push {cls:=.type "slice",data:=.fields #[vl,vu,.none]}}:=I3.kept (t':=s3.toks) λb ob q=>zQ _ q
 obtain⟨T,id,hT,ht,hg⟩:=hr xE {s3 with heap:=s3.heap.push {cls:=.type "slice",data:=.fields #[vl,vu,.none]}} σ H3 x v vl vu l u s3.heap.objs.size Q I4 r1 (Heap.IsSliceOf.new ..) pl pu q3;show xY (xZ X.prog X.w) X.A (subscriptTail e (.Slice lo hi xG p2) v (.ref s3.heap.objs.size)) (EP X xE σ Q) X.xe {s3 with heap:=s3.heap.push {cls:=.type "slice",data:=.fields #[vl,vu,.none]}}
 exact tail_any (ops:=[.ref s3.heap.objs.size,v]) ht hT hg (by with_unfolding_all rfl)
def Gv(xs:List V)(lo hi:Option Int):List V:=(xs.drop (HT.sIx xs.length 0 lo)).take (HT.sIx xs.length xs.length hi-HT.sIx xs.length 0 lo)
theorem Zw(xs:List V)(lo hi:Option Int):(Gv xs lo hi).length<=xs.length:=by unfold Gv;rw[qz,qj];lia
def rSlT(K:PySem.W.Frag):V->Option Int->Option Int->Hp->VK->Prop:=λx lo hi H Q=>∃a xs,x=.ref a/\SqT K H a xs/\
 ¬(HT.sIx xs.length 0 lo=0/\HT.sIx xs.length xs.length hi=xs.length)/\∀p,H p=xG->Q (.ref p) (upd H p (.tup (Gv xs lo hi)))
theorem ZF2:SlR X (rSlT X.K):=by
 intro xE s σ H x v vl vu lo hi sl Q I rx hs pl pu h;obtain⟨a,xs,rfl,hx,hw,q⟩:=h;cases rx;obtain⟨its,r,ht,hz⟩:=I.tuple hx;have hlen:its.toArray.size=xs.length:=by rw[zY];exact r.length.symm
 refine⟨"tuple",_,PyProof.Rows.slot_tuple_getitem.lookup,ht.typeIs,?_⟩;refine HT.ZHJ ht hs pl pu (by rw[hlen];exact hw) ?_ (by rw[hlen];exact hz);rw[hlen];refine⟨.ref s.heap.objs.size,_,I.laid (t':=s.toks) (o:=.tup (Gv xs lo hi)) (λb ob q=>zQ _ q) (zJ _) ?_,rfl,q _ (I.hok.fresh (zJ _))⟩;exact⟨zx (Zw xs lo hi) hz,_,(r.drop (HT.sIx xs.length 0 lo)).take (HT.sIx xs.length xs.length hi-HT.sIx xs.length 0 lo),IsTup.new _ _⟩
def ZA6(K:PySem.W.Frag):R2:=λx y H Q=>∃a b xs ys,x=.ref a/\y=.ref b/\SqT K H a xs/\SqT K H b ys/\xs≠[]/\xs.length+ys.length<=sizeLine/\
 (ys=[]->Q (.ref a) H)/\(ys≠[]->∀p,H p=xG->Q (.ref p) (upd H p (.tup (xs++ys))))
theorem Vals.Sy{xs:List V}{us:List jF}(r:Vals xs us):us=[]↔xs=[]:=by
 cases r with
 |nil=>simp
 |cons _ _=>simp
theorem ZID:OpR X (jN .Add) (ZA6 X.K):=by
 intro xE s σ H x y v u Q I rx ry h;obtain⟨a,b,xs,ys,rfl,rfl,ha,hb,hx,hz,q1,q2⟩:=h;cases rx;cases ry;obtain⟨its,r1,p1,_⟩:=I.tuple ha;obtain⟨its2,r2,p2,_⟩:=I.tuple hb;refine HT.ZFJ p1 p2 (λz=>hx (r1.Sy.mp z)) (λz=>⟨.ref a,H,I,rfl,q1 (r2.Sy.mp z)⟩) (λz=>?_) (by rw[<-r1.length,<-r2.length];exact hz);refine⟨.ref s.heap.objs.size,_,I.laid (t':=s.toks) (o:=.tup (xs++ys)) (λb ob q=>zQ _ q) (zJ _) ?_,rfl,q2 (λw=>z (r2.Sy.mpr w)) _ (I.hok.fresh (zJ _))⟩
 exact⟨by rw[zK];exact hz,_,r1.append r2,IsTup.new _ _⟩
end
noncomputable def ixN(n:Nat)(i:Int):Option Nat:=if 0<=i then(if i<n then xF i.toNat else xG)else if -(n:Int)<=i then xF (i+n).toNat else xG
def atI{α:Type}(xs:List α)(i:Int):Option α:=(ixN xs.length i).bind λj=>xs[j]?
theorem ZHP{n:Nat}{i:Int}{j:Nat}(h:ixN n i=xF j):seqIndex? i n=xF j/\j<n/\ -(n:Int)<=i/\i<n:=by
 unfold ixN at h;by_cases h0:0<=i
 ·rw[if_pos h0]at h;by_cases h1:i<n
  ·rw[if_pos h1]at h;have e:i.toNat=j:=Option.some.inj h;exact⟨by rw[seqIndex_of h0 h1,e],by lia,by lia,h1⟩
  ·rw[if_neg h1]at h;cases h
 ·rw[if_neg h0]at h;by_cases h1: -(n:Int)<=i
  ·rw[if_pos h1]at h;have e:(i+n).toNat=j:=Option.some.inj h;exact⟨by rw[seqIndex_neg (by lia) h1,e],by lia,h1,by lia⟩
  ·rw[if_neg h1]at h;cases h
theorem Rr{α:Type}{xs:List α}{i:Int}{v:α}(h:atI xs i=xF v):∃j,seqIndex? i xs.length=xF j/\xs[j]?=xF v/\j<xs.length/\ -(xs.length:Int)<=i/\i<xs.length:=by
 unfold atI at h;cases e:ixN xs.length i with
 |none=>rw[e]at h;cases h
 |some j=>
  rw[e]at h;obtain⟨h1,h2,h3,h4⟩:=ZHP e;exact⟨j,h1,h,h2,h3,h4⟩
def PlainIx(b:j8):Prop:=∀o i,subscripted b xI o i=operate [o,i] (getItem o i)
def IxR(X:Cx)(r:R2):Prop:=
 ∀(value slice:j8)(xE:List (j6×Obj))(s:jD)(σ:St)(H:Hp)(x y:V)(v u:jF)(Q:VK),Inv X xE σ H s->RelV x v->RelV y u->r x y H Q->
  subscripted slice xI v u=operate [v,u] (getItem v u)->xY (xZ X.prog X.w) X.A (subscriptTail value slice v u) (EP X xE σ Q) X.xe s
def MtR(X:Cx)(id:String)(r:V->List V->Hp->VK->Prop):Prop:=
 ∀(xE:List (j6×Obj))(s:jD)(σ:St)(H:Hp)(x:V)(xs:List V)(v:jF)(us:List jF)(Q:VK),Inv X xE σ H s->RelV x v->Vals xs us->r x xs H Q->
  xY (xZ X.prog X.w) X.A (call (.builtin id) (v::us)) (EP X xE σ Q) X.xe s
section
variable{X:Cx}{a b:j8}{ta tb:TE}{pos:Pos}
theorem IxR.or{r r':R2}(h:IxR X r)(h':IxR X r'):IxR X (λx y H Q=>r x y H Q∨r' x y H Q):=by
 intro value slice xE s σ H x y v u Q I rx ry q hs;rcases q with q|q
 ·exact h value slice xE s σ H x y v u Q I rx ry q hs
 ·exact h' value slice xE s σ H x y v u Q I rx ry q hs
theorem ZEa{r:R2}(hr:IxR X r)(ha:PE X a ta)(hb:PE X b tb)(hs:PlainIx b):PE X (.Subscript a b pos) (tOp r ta tb):=by intro xE s σ H Q I h;exact Subscript_ (Rj ha hb I h λv u s2 x y H2 I2 rx ry q=>hr a b xE s2 σ H2 x y v u Q I2 rx ry q (hs _ _))
def rIxL(K:PySem.W.Frag):R2:=λx y H Q=>∃p xs i v,x=.ref p/\y=.int i/\SqL K H p xs/\atI xs i=xF v/\Q v H
def rIxT(K:PySem.W.Frag):R2:=λx y H Q=>∃p xs i v,x=.ref p/\y=.int i/\SqT K H p xs/\atI xs i=xF v/\Q v H
def rIxS:R2:=λx y H Q=>∃z i c,x=.str z/\y=.int i/\z.length<=sizeLine/\atI z.cps.toList i=xF c/\Q (.str ⟨#[c]⟩) H
theorem ZC6:IxR X (rIxL X.K):=by
 intro value slice xE s σ H x y v u Q I rx ry h hs;obtain⟨p,xs,i,z,rfl,rfl,hq,he,q⟩:=h;cases rx;obtain⟨t,rfl⟩:=ry;obtain⟨its,r,pl,hz⟩:=I.list hq;obtain⟨j,h1,h2,h3,h4,h5⟩:=Rr he;obtain⟨w,ew,rw'⟩:=r.get h2;have hl:=r.length;have hn:=line63;have fin:EP X xE σ Q w s:=⟨z,H,I,rw',q⟩;by_cases h0:0<=i
 ·have hj:i.toNat=j:=by rw[seqIndex_of h0 h5]at h1;exact Option.some.inj h1
  exact item_listR pl.isList h0 (by lia) (by rw[hj];simpa using ew) fin hs
 ·have hj:(i+(its.toArray.size:Int)).toNat=j:=by rw[seqIndex_neg (by lia) h4]at h1;rw[zY,<-hl];exact Option.some.inj h1
  exact subscriptTail_builtinR (x:=w) pl.isList.typeIs slot_list_getitem.lookup
   (wpAny_getItem_list_neg (Q:=λr s'=>r=w/\EP X xE σ Q r s') pl.isList (by lia) (by rw[zY]<;>lia) (by lia) (by rw[hj];simpa using ew) ⟨rfl,fin⟩) hs
theorem ZD1:IxR X (rIxT X.K):=by
 intro value slice xE s σ H x y v u Q I rx ry h hs;obtain⟨p,xs,i,z,rfl,rfl,hq,he,q⟩:=h;cases rx;obtain⟨t,rfl⟩:=ry;obtain⟨its,r,pl,hz⟩:=I.tuple hq;obtain⟨j,h1,h2,h3,h4,h5⟩:=Rr he;obtain⟨w,ew,rw'⟩:=r.get h2;have hl:=r.length;have hn:=line63;have fin:EP X xE σ Q w s:=⟨z,H,I,rw',q⟩;exact subscriptTail_builtinR (x:=w) pl.typeIs slot_tuple_getitem.lookup
  (getItem_tuple (j:=j) (Q:=λr s'=>r=w/\EP X xE σ Q r s') pl (by lia) (by lia) (by rw[zY,<-hl];exact h1) (by simpa using ew) ⟨rfl,fin⟩) hs
theorem ZGB:IxR X rIxS:=by
 intro value slice xE s σ H x y v u Q I rx ry h hs;obtain⟨z,i,c,rfl,rfl,hz,he,q⟩:=h;obtain⟨t,rfl⟩:=rx;obtain⟨t',rfl⟩:=ry;obtain⟨j,h1,h2,h3,h4,h5⟩:=Rr he;have hl:z.cps.toList.length=z.length:=by simp[Str.length]
 rw[hl]at h1 h4 h5;have hn:=line63;exact tail_any (typeIs_str s z t) slot_str_getitem.lookup (getItem_str (c:=c) (by have e1:decide (i < -(2^63:Int))=xI:=decide_eq_false (by lia);have e2:decide (i ≥ 2^63)=xI:=decide_eq_false (by lia);rw[e1,e2,Bool.or_false]) (by rw[h1];simpa using h2) ⟨.str ⟨#[c]⟩,H,I.tok _,⟨_,rfl⟩,q⟩) hs
def rIx(K:PySem.W.Frag):R2:=λx y H Q=>rIxL K x y H Q∨rIxT K x y H Q∨rIxS x y H Q
theorem ZED:IxR X (rIx X.K):=ZC6.or (ZD1.or ZGB)
theorem ZCJ(lo hi:Option Int)(n:Nat):(xV lo hi xG n).1=((HT.sIx n 0 lo:Nat):Int)/\(xV lo hi xG n).2.1=((HT.sIx n n hi:Nat):Int)/\(xV lo hi xG n).2.2=1:=by
 refine⟨?_,?_,rfl⟩
 ·cases lo with
  |none=>simp[xV,HT.sIx]
  |some i=>
   simp only[xV,HT.sIx,Option.getD_none,show(1:Int)>0 by decide,if_true];by_cases h:i<0
   ·simp only[h,if_true]<;>lia
   ·simp only[h,if_false]<;>lia
 ·cases hi with
  |none=>simp[xV,HT.sIx]
  |some i=>
   simp only[xV,HT.sIx,Option.getD_none,show(1:Int)>0 by decide,if_true];by_cases h:i<0
   ·simp only[h,if_true]<;>lia
   ·simp only[h,if_false]<;>lia
theorem ZD3(its:List jF)(lo hi:Option Int):slicePick its.toArray lo hi xG=((its.drop (HT.sIx its.length 0 lo)).take (HT.sIx its.length its.length hi-HT.sIx its.length 0 lo)).toArray:=by
 obtain⟨h1,h2,h3⟩:=ZCJ lo hi its.toArray.size;unfold slicePick;rw[h1,h2,h3]
 simp only[sliceRange_one,pick_run,zY]<;>rfl
def rSlL(K:PySem.W.Frag):V->Option Int->Option Int->Hp->VK->Prop:=λx lo hi H Q=>∃a xs,x=.ref a/\SqL K H a xs/\∀p,H p=xG->Q (.ref p) (upd H p (.lst (Gv xs lo hi)))
theorem ZE6:SlR X (rSlL X.K):=by
 intro xE s σ H x v vl vu lo hi sl Q I rx hs pl pu h;obtain⟨a,xs,rfl,hx,q⟩:=h;cases rx;obtain⟨its,r,ht,hz⟩:=I.list hx;have hlen:=r.length;refine⟨"list",_,slot_list_getitem.lookup,ht.isList.typeIs,?_⟩
 refine wpAny_getItem_list_slice ht.isList hs pl pu .none (by simp) ?_ (by rw[zY]<;>lia)
 rw[ZD3,<-hlen];refine⟨.ref s.heap.objs.size,_,I.laid (t':=s.toks) (o:=.lst (Gv xs lo hi)) (λb ob q=>zQ _ q) (zJ _) ?_,rfl,q _ (I.hok.fresh (zJ _))⟩;exact⟨zx (Zw xs lo hi) hz,_,0,(r.drop (HT.sIx xs.length 0 lo)).take (HT.sIx xs.length xs.length hi-HT.sIx xs.length 0 lo),zD _ rfl⟩
noncomputable def Bt:V->Bool
 |.non=>xH
 |.bl _=>xH
 |.int _=>xH
 |.str _=>xH
 |_=>xI
noncomputable def eqV:V->V->Bool
 |.non,.non=>xH
 |.bl a,.bl b=>a==b
 |.bl a,.int b=>(if a then 1 else 0)==b
 |.int a,.bl b=>a==(if b then 1 else 0)
 |.int a,.int b=>a==b
 |.str a,.str b=>a==b
 |_,_=>xI
theorem ZAh{A:j7}{y x:V}{u v:jF}(ry:RelV y u)(rx:RelV x v)(fy:Bt y=xH)(fx:Bt x=xH):SeqAt.EqAt A s u v (eqV y x):=by
 cases y with
 |non=>
  cases ry;cases x with
  |non=>cases rx;exact SeqAt.EqAt.same _
  |bl b=>cases rx;exact SeqAt.EqAt.none_bool b
  |int b=>obtain⟨t,rfl⟩:=rx;exact SeqAt.EqAt.none_int b t
  |str b=>obtain⟨t,rfl⟩:=rx;exact SeqAt.EqAt.none_str b t
  |_=>exact absurd (show xI=xH from fx) zq
 |bl a=>
  cases ry;cases x with
  |non=>cases rx;exact SeqAt.EqAt.bool_none a
  |bl b=>cases rx;exact SeqAt.EqAt.bool_bool a b
  |int b=>obtain⟨t,rfl⟩:=rx;exact SeqAt.EqAt.bool_int a b t
  |str b=>obtain⟨t,rfl⟩:=rx;exact SeqAt.EqAt.bool_str a b t
  |_=>exact absurd (show xI=xH from fx) zq
 |int a=>
  obtain⟨t',rfl⟩:=ry;cases x with
  |non=>cases rx;exact SeqAt.EqAt.int_none a t'
  |bl b=>cases rx;exact SeqAt.EqAt.int_bool a t' b
  |int b=>obtain⟨t,rfl⟩:=rx;exact SeqAt.EqAt.int_int a t' b t
  |str b=>obtain⟨t,rfl⟩:=rx;exact SeqAt.EqAt.int_str a t' b t
  |_=>exact absurd (show xI=xH from fx) zq
 |str a=>
  obtain⟨t',rfl⟩:=ry;cases x with
  |non=>cases rx;exact SeqAt.EqAt.str_none a t'
  |bl b=>cases rx;exact SeqAt.EqAt.str_bool a t' b
  |int b=>obtain⟨t,rfl⟩:=rx;exact SeqAt.EqAt.str_int a t' b t
  |str b=>obtain⟨t,rfl⟩:=rx;exact SeqAt.EqAt.str_str a t' b t
  |_=>exact absurd (show xI=xH from fx) zq
 |_=>exact absurd (show xI=xH from fy) zq
def eqU(x:V)(u:jF):Bool:=match u with
 |.none=>eqV .non x
 |.bool b=>eqV (.bl b) x
 |.int i _=>eqV (.int i) x
 |.str z _=>eqV (.str z) x
 |_=>xI
theorem Yd{x y:V}{u:jF}(r:RelV y u)(f:Bt y=xH):eqU x u=eqV y x:=by
 cases y with
 |non=>cases r;rfl
 |bl b=>cases r;rfl
 |int i=>obtain⟨t,rfl⟩:=r;rfl
 |str z=>obtain⟨t,rfl⟩:=r;rfl
 |_=>exact absurd (show xI=xH from f) zq
theorem Kc{x:V}:∀{xs:List V}{us:List jF},Vals xs us->xs.all Bt=xH->us.any (eqU x)=xs.any λy=>eqV y x
 |_,_,.nil,_=>rfl
 |y::xs,u::us,.cons r t,f=>by rw[jW,zw]at f;rw[List.any_cons,List.any_cons,Yd r f.1,Kc t f.2]
theorem Lx{A:j7}{x:V}{v:jF}(rx:RelV x v)(fx:Bt x=xH):∀{xs:List V}{us:List jF},Vals xs us->xs.all Bt=xH->∀u∈us,SeqAt.EqAt A s u v (eqU x u)
 |_,_,.nil,_=>λu hu=>by cases hu
 |y::xs,u::us,.cons r t,f=>λu' hu=>by
  rw[jW,zw]at f;rcases zv.mp hu with rfl|hu
  ·rw[Yd r f.1];exact ZAh r rx f.1 fx
  ·exact Lx rx fx t f.2 u' hu
def inV(x:V)(xs:List V):Bool:=xs.any λy=>eqV y x
def rIn(K:PySem.W.Frag)(neg:Bool):R2:=λx y H Q=>∃p xs,y=.ref p/\(SqL K H p xs∨SqT K H p xs)/\Bt x=xH/\xs.all Bt=xH/\Q (.bl (if neg then !inV x xs else inV x xs)) H
theorem ZGQ:OpR X (jR .In) (rIn X.K xI):=by
 intro xE s σ H x y v u Q I rx ry h;obtain⟨p,xs,rfl,hq,fx,fs,q⟩:=h;cases ry;rcases hq with hq|hq
 ·obtain⟨its,r,pl,hz⟩:=I.list hq;refine SeqAt.in_listAt (eqU x) pl.isList (λw hw=>Lx rx fx r fs w (by simpa using hw)) ⟨.bl _,H,I,rfl,?_⟩;rw[show its.toArray.any (eqU x)=its.any (eqU x) by simp,Kc r fs];exact q
 ·obtain⟨its,r,pl,hz⟩:=I.tuple hq;refine SeqAt.in_tupleAt (eqU x) pl (λw hw=>Lx rx fx r fs w (by simpa using hw)) ⟨.bl _,H,I,rfl,?_⟩;rw[show its.toArray.any (eqU x)=its.any (eqU x) by simp,Kc r fs];exact q
theorem ZB5:OpR X (jR .NotIn) (rIn X.K xH):=by
 intro xE s σ H x y v u Q I rx ry h;obtain⟨p,xs,rfl,hq,fx,fs,q⟩:=h;cases ry;rcases hq with hq|hq
 ·obtain⟨its,r,pl,hz⟩:=I.list hq;refine SeqAt.notIn_listAt (eqU x) pl.isList (λw hw=>Lx rx fx r fs w (by simpa using hw)) ⟨.bl _,H,I,rfl,?_⟩;rw[show its.toArray.any (eqU x)=its.any (eqU x) by simp,Kc r fs];exact q
 ·obtain⟨its,r,pl,hz⟩:=I.tuple hq;refine SeqAt.notIn_tupleAt (eqU x) pl (λw hw=>Lx rx fx r fs w (by simpa using hw)) ⟨.bl _,H,I,rfl,?_⟩;rw[show its.toArray.any (eqU x)=its.any (eqU x) by simp,Kc r fs];exact q
theorem ZGE:CallR X (.builtin "len") (λxs H Q=>∃p ys,xs=[.ref p]/\(SqL X.K H p ys∨SqT X.K H p ys)/\Q (.int ys.length) H):=by
 intro xE s σ H xs us Q I r h;obtain⟨p,ys,rfl,hq,q⟩:=h;obtain⟨u,rfl,rx⟩:=vals1 r;cases rx;have hn:=line63;rcases hq with hq|hq
 ·obtain⟨its,r',pl,hz⟩:=I.list hq;have hlen:=r'.length
  exact Calls.call_len_list pl.isList (by simp only[zY]<;>lia) ⟨.int ys.length,H,I.tok _,⟨s.toks+1,by rw[zY,hlen]⟩,q⟩
 ·obtain⟨its,r',pl,hz⟩:=I.tuple hq;have hlen:=r'.length
  exact len_tuple pl (by simp only[zY]<;>lia) ⟨.int ys.length,H,I.tok _,⟨s.toks+1,by rw[zY,hlen]⟩,q⟩
theorem ZBv:CallR X (.builtin "len") (λxs H Q=>∃z,xs=[.str z]/\z.length<=sizeLine/\Q (.int z.length) H):=by intro xE s σ H xs us Q I r h;obtain⟨z,rfl,hz,q⟩:=h;obtain⟨u,rfl,t,rfl⟩:=vals1 r;have hn:=line63;exact len_str (by lia) ⟨.int z.length,H,I.tok _,⟨_,rfl⟩,q⟩
theorem CallR.or{f:jF}{r r':List V->Hp->VK->Prop}(h:CallR X f r)(h':CallR X f r'):CallR X f (λxs H Q=>r xs H Q∨r' xs H Q):=by
 intro xE s σ H xs us Q I rs q;rcases q with q|q
 ·exact h xE s σ H xs us Q I rs q
 ·exact h' xE s σ H xs us Q I rs q
theorem ZEb:CallR X (.type "tuple") (λxs H Q=>∃p ys,xs=[.ref p]/\((SqL X.K H p ys/\∀l,H l=xG->Q (.ref l) (upd H l (.tup ys)))∨(SqT X.K H p ys/\Q (.ref p) H))):=by
 intro xE s σ H xs us Q I r h;obtain⟨p,ys,rfl,h⟩:=h;obtain⟨u,rfl,rx⟩:=vals1 r;cases rx;rcases h with⟨hq,q⟩|⟨hq,q⟩
 ·obtain⟨its,r',pl,hz⟩:=I.list hq;have hlen:=r'.length
  refine call_tuple_list pl.isList (λh' kp=>?_) (by simp only[zY]<;>lia)
  have I1:Inv X xE σ H {s with heap:=h'}:=I.kept (t':=s.toks) kp;have I2:Inv X xE σ (upd H h'.objs.size (.tup ys)) {s with heap:=h'.push {cls:=.type "tuple",data:=.seq its.toArray}}:=
   I1.laid (t':=s.toks) (λb o e=>zQ _ e) (zJ _) (show ObjOk X.prog X.w _ _ _ (.tup ys)from⟨hz,its,r',IsTup.new _ _⟩)
  exact⟨.ref h'.objs.size,_,I2,rfl,q _ (I1.hok.fresh (zJ _))⟩
 ·obtain⟨its,r',pl,hz⟩:=I.tuple hq;exact call_tuple_same pl ⟨.ref p,H,I,rfl,q⟩
def tyV(K:PySem.W.Frag)(T:String)(x:V)(H:Hp):Prop:=match x with
 |.str _=>T="str"
 |.int _=>T="int"
 | .ref p=>(T="list"/\∃xs,SqL K H p xs)∨(T="tuple"/\∃o,K.lookup p=xF o/\o.cls=.type "tuple"/\o.dict=xG)∨
   (T="dict"/\((∃kvs,H p=xF (.dK kvs))∨∃kvs,H p=xF (.dT kvs)))∨(T="set"/\∃S n,H p=xF (.set S n))
 |_=>False
theorem ZFb{xE:List (j6×Obj)}{σ:St}{H:Hp}{T:String}{x:V}{v:jF}(I:Inv X xE σ H s)(r:RelV x v)(ty:tyV X.K T x H):
  s.TypeIs v T/\∀a,v=.ref a->∃ob,s.heap.get? a=xF ob/\ob.dict=xG:=by
 cases x with
 |str z=>
  obtain⟨t,rfl⟩:=r
  cases(show T="str" from ty)
  exact⟨typeIs_str s z t,λ_ e=>nomatch e⟩
 |int i=>
  obtain⟨t,rfl⟩:=r
  cases(show T="int" from ty)
  exact⟨typeIs_int s i t,λ_ e=>nomatch e⟩
 | ref p=>
  cases r;rcases ty with⟨rfl,xs,hq⟩|⟨rfl,o,hk,hc,hd⟩|⟨rfl,hk⟩|⟨rfl,S,n,hk⟩
  ·obtain⟨its,_,pl,_⟩:=I.list hq;refine⟨pl.isList.typeIs,λa e=>?_⟩;cases e;obtain⟨o,n,e,c,hd,_⟩:=pl;exact⟨o,e,hd⟩
  ·refine⟨⟨o,I.kIn p o hk,hc⟩,λa e=>?_⟩;cases e;exact⟨o,I.kIn _ o hk,hd⟩
  ·have z:∃o,s.heap.get? p=xF o/\o.ExactDict:=by
    rcases hk with⟨kvs,hk⟩|⟨kvs,hk⟩
    ·obtain⟨_,_,_,_,o,_,_,e,ex,_⟩:=I.hok p _ hk;exact⟨o,e,ex⟩
    ·obtain⟨_,_,_,_,o,_,_,e,ex,_⟩:=I.hok p _ hk;exact⟨o,e,ex⟩
   obtain⟨o,e,ex⟩:=z;refine⟨⟨o,e,ex.1⟩,λa e2=>?_⟩;cases e2;exact⟨o,e,ex.2.1⟩
  ·obtain⟨o,_,_,_,e,ex,_⟩:=I.hok p _ hk;refine⟨⟨o,e,ex.1⟩,λa e2=>?_⟩;cases e2;exact⟨o,e,ex.2.1⟩
 |_=>exact False.elim ty
noncomputable def tBM(K:PySem.W.Frag)(T:String)(r:V->List V->Hp->VK->Prop)(to:TE)(t:TA):TE:=λσ H Q=>to σ H λx H1=>tyV K T x H1/\t σ H1 λxs H2=>r x xs H2 Q
variable{o e:j8}{es:List j8}{to:TE}{t:TA}{name:Str}{apos cpos:Pos}{T id:String}{r:V->List V->Hp->VK->Prop}
theorem ZA4(pa:PlainAttrs T)(slot:Slot T name id)(hty:typeOf (.builtin id)=pure (.type "method_descriptor"))(hm:MtR X id r)(ho:PE X o to)(ha:PA X (e::es) t)
  (hbase:jI o name X.env (eval o X.env)=eval o X.env:=by rfl)
  (hfew:((jL cpos (xW (e::es) X.env)).all (λx=> !x.1)&&(backToKw cpos (jT [] X.env)).all (λx=>x.1.isSome)
   && decide ((e::es).length+([]:List Keyword).length+(if([]:List Keyword).isEmpty then 0 else 1)<30))=xH:=by rfl)
  (hline:(apos.endLine==cpos.line)=xH:=by rfl) (hs:xW (e::es) X.env=(xI,eval e X.env)::xW es X.env:=by rfl) (hplain:(jL cpos (xW es X.env)).any (·.1)=xI:=by rfl):
  PE X (.Call (.Attribute o name apos) (e::es) [] cpos) (tBM X.K T r to t):=by
 intro xE s σ H Q I h;refine wpAny_Call_method_late hbase hfew hline rfl (thn (ho xE s σ H _ I h) λv s1 ⟨x,H1,I1,r1,ty,q1⟩=>?_);obtain⟨h1,h2⟩:=ZFb I1 r1 ty;refine⟨T,id,pa,slot,hty,h1,h2,?_⟩;have hA:=ha cpos xE s1 σ H1 _ I1 q1;rw[hs]at hA⊢
 refine Calls.callWith_builtin (by show(xI||(jL cpos (xW es X.env)).any (·.1))=xI;rw[hplain]<;>rfl) (Calls.evalArgs_plain ?_)
 exact thn hA λus s2 ⟨vs,H2,I2,r2,q2⟩=>hm xE s2 σ H2 x vs v us Q I2 r1 r2 q2
end
def MtM(X:Cx)(id:String)(r:V->List V->Hp->VK->Prop):Prop:=
 ∀(xE:List (j6×Obj))(s:jD)(σ:St)(H:Hp)(x:V)(xs:List V)(v:jF)(us:List jF)(Q:VK),Inv X xE σ H s->RelV x v->Vals xs us->r x xs H Q->
  xY (xZ X.prog X.w) X.A (call (.builtin id) (v::us)) (EP X xE σ Q) X.xe s
theorem Vals.one:∀{x:V}{us:List jF},Vals [x] us->∃u,us=[u]/\RelV x u:=by intro x us h;cases h with |cons r t=>cases t;exact⟨_,rfl,r⟩
section
variable{X:Cx}{xE:List (j6×Obj)}{σ:St}{H:Hp}{s:jD}{l b:j6}{xs ys zs:List V}
theorem Inv.lset{its its':List jF}{n:Nat}{f:Array jF->Array jF}{t':Nat}(I:Inv X xE σ H s)(hH:H l=xF (.lst xs))
  (e:s.heap.get? l=xF {cls:=.type "list",data:=.seq its.toArray n}) (hf:f its.toArray=its'.toArray) (hv:Vals ys its') (hz:ys.length<=sizeLine):
  Inv X xE σ (upd H l (.lst ys)) {s with heap:=s.heap.update l (Obj.mapSeq f),toks:=t'}:=by
 have q:=PySem.IsL.update e f;rw[hf]at q;refine I.write (x:=l) (e:=l) (by rw[hH];exact trivial) (.inl rfl) (λb' u hb hu=>(zN s.heap (Obj.mapSeq f) (Ne.symm hb)).trans hu) ⟨_,q⟩ ?_;exact⟨hz,its',_,hv,q⟩
theorem Inv.lnew{its:List jF}{t':Nat}(I:Inv X xE σ H s)(hv:Vals ys its)(hz:ys.length<=sizeLine):
  Inv X xE σ (upd H s.heap.objs.size (.lst ys)) {s with heap:=s.heap.push {cls:=.type "list",data:=.seq its.toArray},toks:=t'}:=
 I.laid (λ_ _ q=>zQ _ q) (zJ _) ⟨hz,its,0,hv,zD _ rfl⟩
theorem Inv.fresh(I:Inv X xE σ H s):H s.heap.objs.size=xG:=I.hok.fresh (zJ _)
theorem Inv.lstM(I:Inv X xE σ H s)(hH:H l=xF (.lst xs)):xs.length<=sizeLine/\∃(its:List jF)(n:Nat),Vals xs its/\xs.length=its.length/\s.heap.get? l=xF {cls:=.type "list",data:=.seq its.toArray n}:=by obtain⟨z,its,n,r,e⟩:=I.hok l _ hH;exact⟨z,its,n,r,r.length,e⟩
end
section
variable{X:Cx}
def ZIV:V->List V->Hp->VK->Prop:=λx vs H Q=>∃l xs y,x=.ref l/\vs=[y]/\H l=xF (.lst xs)/\xs.length<sizeLine/\Q .non (upd H l (.lst (xs++[y])))
theorem ZDZ:MtM X "list.append" ZIV:=by
 intro xE s σ H x vs v us Q I rx rv h;obtain⟨l,xs,y,rfl,rfl,hH,hz,q⟩:=h;cases rx;obtain⟨u,rfl,ru⟩:=rv.one;obtain⟨z,its,n,r,hl,e⟩:=I.lstM hH;refine call_meets F.slot_list_append ⟨_,e,rfl⟩ F.entry_list_append (F.args_list_append_2 _ _) (PySem.list_append l its.toArray n u (by rw[zY];lia)) ⟨e,?_⟩;refine⟨.non,_,I.lset (its':=its++[u]) hH e (by simp) (r.append (.cons ru .nil)) ?_,rfl,q⟩
 rw[zK,List.length_singleton];lia
end
section
variable{prog:jB}{w:jG}{A:j7}{E:jF->jD->Prop}{s:jD}
end
section
variable{X:Cx}
end
end _L
namespace Att
open PySem PySem.W PySem.Calls PyProof.Rows
theorem ZH6{P:Params}{h:Heap}:∀(ns:List Int)(vs:List jF),WellAll P h vs (ns.map WData.int)->IntsAre vs ns:=by
 intro ns
 induction ns with
 |nil=>
  intro vs w;rw[zL]at w;cases w;exact .nil
 | cons n ns ih=>
  intro vs w;rw[zV]at w;cases w with
  |cons a b=>
   cases a;exact .cons _ _ (ih _ b)
theorem ZIR{l:OpenLaw}{n:Nat}(hn:l.most=xF n){P:Params}{h:Heap}{args:List WData}{vals:List jF}
  (hpre:l.row.toRowW.claim.pre args=xH) (hwl:WellAll P h vals args):
  ∃a vs ns,vals=[Value.ref a]/\args=[WData.list (ns.map WData.int)]/\h.get? a=xF {cls:=.type "list",data:=.seq vs.toArray}/\IntsAre vs ns/\ns.length<=n:=by
 have hsh:WShape.hasAll [] args [.list .int]=xH:=(pre_splitW hpre).1;have hc:l.pre.holds [] {args:=args}=xH:=(pre_splitW hpre).2;obtain⟨d,r,rfl,h1,h2⟩:=hasAllW_cons hsh;obtain rfl:=hasAllW_nil h2;obtain⟨xs,rfl,h3⟩:=hasW_list h1;obtain⟨ns,rfl⟩:=items_int h3;have hlen:ns.length<=n:=by
  unfold OpenLaw.pre at hc;have h4:(WTm.not (.lt (.lit (.int (n:Int))) (.len (.arg 0)))).holds [] {args:=[.list (ns.map .int)]}=xH:=by have h4:=(holds_andW hc).1;rw[hn]at h4;exact h4
  have h5:=condW_of h4 (w_not (w_lt w_lit (w_len_list (w_arg rfl))));rw[zy]at h5;refine Nat.le_of_not_lt λq=>?_
  have q':(n:Int)<((ns.length:Nat):Int):=by lia
  first
   |(rw[decide_eq_true q']at h5;exact absurd h5 (by decide))
   |(simp at h5;lia)
 cases hwl with
 |cons w1 w2=>
  cases w2;cases w1 with
  |list ho hall=>exact⟨_,_,ns,rfl,rfl,ho,ZH6 ns _ hall,hlen⟩
theorem ZHL(l:OpenLaw)(args:List WData):l.row.toRowW.claim.post args (.bool xH) args=xH:=
 postW_of (r:=l.row.toRowW) (X:=(xH==xH))
  (show WShape.has [] (.bool xH) .bool=xH by first|rfl|decide|simp[WShape.has,WShape.arms,WShape.armsAll])
  (show(WTm.eq .res (.lit (.bool xH))).value [] {args:=args,res:=xF (.bool xH),after:=args}=xF (.bool (xH==xH))from w_eq_bool (w_res rfl) w_lit) rfl
section
variable{prog:jB}{w:jG}{A:j7}{E:jF->jD->Prop}{s:jD}{K:xC}
end
end Att
namespace _L
open PySem PySem.Spec PyProof.Rows
variable{fd:j9}{x:Str}
theorem Ni:∀{vs:List jF}{ns:List Int},IntsAre vs ns->Vals (ns.map V.int) vs
 |_,_,.nil=>.nil
 |_,_,.cons n t h=>.cons ⟨t,rfl⟩ (Ni h)
def Only(H:Hp):Prop:=∀b,H b=xG∨∃o xs,H b=xF (.frz o (.lst xs))
theorem ZFi{P:jB}{w:jG}{K:PySem.W.Frag}{mg mb:Str->Option jF}{CX:CXT}{k:Nat}{fa a:j6}{sp:Sp}{s₁:jD}{vs:List jF}{ns:List Int}
  (KX:K.In s₁.heap) (hns:s₁.heap.Ns xQ mg) (hb:s₁.heap.Ns builtinsNs mb) (hbb:∀x:Str,x≠"__name__"->mb x=jO x) (hlim:s₁.heap.NoLimit) (hg:s₁.gens= #[])
  (ha:s₁.heap.get? a=xF {cls:=.type "list",data:=.seq vs.toArray}) (hi:IntsAre vs ns) (hl:ns.length<=sizeLine) (hr:Room k callerA)
  (F:∀base:Heap,K.In base->base.Ns xQ mg->FnOk P w K mg base CX k fa fd [x] sp) (hbind:∀(s:jD)(u:jF),BindsTo s fd ⟨[u],[]⟩ [(x,u)])
  (hsp:∀H:Hp,Only H->SqL K H a (ns.map V.int)->sp [.ref a] H (λv _=>v=.bl xH) λ_ _ _=>False)
  (hCX:∀H e s',CX [] H s₁ (λ_ _ _=>False) e s'->False):
  codeAny (xZ P w) callerA (.call (.ref fa) ⟨[.ref a],[]⟩) (λr s'=>r=.ok (.ret (.bool xH))/\OldK s₁.heap s'.heap/\s'.os=s₁.os/\AllBare s'.gens) s₁:=by
 have rv:=Ni hi;have lenV:=hi.length;have core:∀H:Hp,Only H->SqL K H a (ns.map V.int)->HOk P w H s₁.heap->(∀b,H b≠xG->b=a)->(H a≠xG->K.lookup a=xG)->
   codeAny (xZ P w) callerA (.call (.ref fa) ⟨[.ref a],[]⟩) (λr s'=>r=.ok (.ret (.bool xH))/\OldK s₁.heap s'.heap/\s'.os=s₁.os/\AllBare s'.gens) s₁:=by
  intro H hO hS hok hA hK;have base_of:∀{b:j6}{o:Obj},s₁.heap.get? b=xF o->H b=xG->(Ge s₁.heap H).get? b=xF o:=λe n=>ZGa e n
  have noA:∀{b:j6}{o:Obj}{es:Array DictEntry}{ep:Nat},s₁.heap.get? b=xF o->o.data=.dict es ep->H b=xG:=λ{b o es ep}e d=>by
   cases q:H b with
   |none=>rfl
   |some u=>
    have e':b=a:=hA b (by rw[q];simp);subst e';rw[ha]at e;cases e;have d':Data.seq vs.toArray _=Data.dict es ep:=d;cases d'
  have nsK:∀{b:j6}{m:Str->Option jF},s₁.heap.Ns b m->(Ge s₁.heap H).Ns b m:=λ{b m}⟨o,es,ep,e,d,r⟩=>⟨o,es,ep,base_of e (noA e d),d,r⟩
  have hKb:K.In (Ge s₁.heap H):=λb o e=>base_of (KX b o e) (by
   cases q:H b with
   |none=>rfl
   |some u=>
    have e':b=a:=hA b (by rw[q];simp);subst e';rw[hK (by rw[q];simp)]at e;cases e)
  have hM:Mod K mg (Ge s₁.heap H):=⟨hKb,nsK hns,⟨mb,nsK hb,hbb⟩,let⟨mc,h1,h2⟩:=hlim;⟨mc,nsK h1,h2⟩⟩
  have e0:Env0 P w K mg (Ge s₁.heap H) callerA [] s₁ H:=⟨rfl,hM,λb o e=>ZDX e,Nat.le_of_eq (ZFv _ _),trivial,λb hb=>absurd (show b∈([]:List j6)from hb) (by simp),hok,.of_eq hg⟩
  refine jP ((F _ hKb (nsK hns)).run callerA [] s₁ H ⟨[.ref a],[]⟩ [.ref a] [.ref a] _ _ hr e0 (hbind s₁ (.ref a)) (.cons rfl .nil) (hsp H hO hS)) λr s' h=>?_
  cases r with
  |error e=>exact(hCX H e s' h).elim
  | ok fl=>
   cases fl with
   |next=>exact False.elim h
   |brk=>exact False.elim h
   |cont=>exact False.elim h
   | ret u=>
    obtain⟨v,H',os,bare,un,hok',r',q⟩:=h;have q':v=.bl xH:=q;subst q';obtain rfl:u=Value.bool xH:=r';refine⟨rfl,OldK.of_keep λb o e=>?_,os,bare⟩;cases q:H b with
    |none=>exact un.keep b o e q (by intro z;exact absurd (show b∈([]:List j6)from z) (by simp)) (by simp)
    |some u=>
     rcases hO b with z|⟨ob,xs,z⟩
     ·rw[q]at z;cases z
     ·have z2:=un.frzs b ob _ z;obtain⟨e1,_⟩:=hok b _ z;obtain⟨e2,_⟩:=hok' b _ z2;rw[e]at e1;cases e1;exact e2
 cases hk:K.lookup a with
 |some o=>
  have e:=KX a o hk;rw[ha]at e;cases e;refine core (λ_=>xG) (λ_=>.inl rfl) (.inr ⟨_,vs.toArray,_,hk,rfl,rfl,rfl,by rw[zY,lenV];exact hl,by simpa using rv⟩) (λb u z=>by have z':(xG:Option HO)=xF u:=z;cases z') (λb z=>absurd rfl z) λz=>absurd rfl z
 | none=>
  refine core (λb=>if b=a then xF (.frz {cls:=.type "list",data:=.seq vs.toArray} (.lst (ns.map V.int)))else xG) (λb=>?_) (.inl (.inr ⟨{cls:=.type "list",data:=.seq vs.toArray},if_pos rfl⟩)) (λb u z=>?_) (λb z=>?_) λ_=>hk
  ·by_cases hb:b=a
   ·exact .inr ⟨_,_,if_pos hb⟩
   ·exact .inl (if_neg hb)
  ·by_cases hb:b=a
   ·have z':=(if_pos hb).symm.trans z;cases z';subst hb;exact⟨ha,by rw[zy];exact hl,vs,_,rv,ha⟩
   ·have z':=(if_neg hb).symm.trans z;cases z'
  ·by_cases hb:b=a
   ·exact hb
   ·exact absurd (if_neg hb) z
noncomputable abbrev CX0:CXT:=λ_ _ _ _ _ _=>False
noncomputable abbrev E0:XK:=λ_ _ _=>False
theorem pass0{X:Cx}:Passes CX0 X E0:=λ_ _ _ _ _ _ _ h=>h.elim
structure Fun (K:PySem.W.Frag) (x qual:Str) (st:jE) (f:j6) (fd:j9):Prop where
 ex:∃(oc:jF)(od:Option j6)(kV doc pm:jF)(an:Option j6)(cdv ct:jF)(osl:Array (Option jF)),
  fd=PySem.W.fnOf x qual (Eb st) (By st) (Am st) .none kV doc pm an cdv ct/\K.lookup f=xF ⟨oc,od,.func fd,osl⟩/\PySem.W.codeIn K cdv qual=xH
 kp:PySem.W.keepIn K (.ref f)=xH
section
variable{P:jB}{w:jG}{K:PySem.W.Frag}{mg:Str->Option jF}{base:Heap}
theorem Fun.ok{qual:Str}{st:jE}{f:j6}{N ps:List Str}{k:Nat}{sp:Sp}(F:Fun K x qual st f fd)(S:FnScope N ps (Am st))(len:∀vs H Q E,sp vs H Q E->vs.length=ps.length)
  (hbody:∀(cdv:jF)(A:j7)(outer:List Env)(s:jD)(H:Hp)(vs:List V)(Q:VK)(E:XK),Room k (A.deeper (envOfC qual (Am st) s.heap.objs.size f cdv))->sp vs H Q E->
   ∃t,PSs (Fj CX0 P w K mg base N qual (Am st) f cdv A outer s H E).nox (By st) t/\t {nx:=λ_ H'=>Q .non H',rt:=Q} (start N vs) H):FnOk P w K mg base CX0 (k+1) f fd ps sp:=by
 obtain⟨oc,od,kV,doc,pm,an,cdv,ct,osl,rfl,lk,hcd⟩:=F.ex;refine Zt lk hcd S len λA outer s H vs Q E hr hsp=>?_
 obtain⟨t,h,q⟩:=hbody cdv A outer s H vs Q E hr hsp;exact⟨t,h.nox,q⟩
theorem Fun.binds{qual:Str}{st:jE}{f:j6}{ps:List Str}(F:Fun K x qual st f fd)
  (h:∀(kV doc pm:jF)(an:Option j6)(cdv ct:jF)(us:List jF),us.length=ps.length->bindArgs (PySem.W.fnOf x qual (Eb st) (By st) (Am st) .none kV doc pm an cdv ct) ⟨us,[]⟩=pure (ps.zip us)):Binds K fd ps []:=by
 obtain⟨oc,od,kV,doc,pm,an,cdv,ct,osl,rfl,lk,hcd⟩:=F.ex;exact .all (h kV doc pm an cdv ct)
end
section
variable{X:Cx}
theorem pv(i:Nat){pos:Pos}(hN:X.N[i]?=xF x:=by rfl)(hv:Vis X.env.scope x:=by first|exact Or.inl rfl|exact Or.inr (Or.inl rfl)|exact Or.inr (Or.inr rfl))(hd:(x==("__debug__":Str))=xI:=by decide)
  (hcd:(x==("__classdict__":Str))=xI:=by decide):PE X (.Name x pos) (Hm i):=K6 hN hv hd hcd
end
section
variable{κ:Type}[DecidableEq κ]
end
section
variable{P:jB}{w:jG}{H:Hp}{h:Heap}{a:j6}
end
section
variable{X:Cx}{xE:List (j6×Obj)}{σ:St}{H:Hp}{s:jD}{a:j6}{y v:V}{u r:jF}{o:Option V}{A:j7}{E:jF->jD->Prop}
end
section
variable{X:Cx}{xE:List (j6×Obj)}{σ:St}{H:Hp}{s:jD}{a:j6}{kvs:List (Key×V)}{k:Key}{u:jF}{A:j7}{E:jF->jD->Prop}
end
section
variable{X:Cx}{o i e value:j8}{pos pos' tpos:Pos}{td ty tv:TE}
end
section
variable{X:Cx}{pos:Pos}
end
structure M1 (X:Cx) (o:j8) (m:Str) (apos:Pos) (e:j8) (cpos:Pos):Prop where
 base:jI o m X.env (eval o X.env)=eval o X.env
 few:((jL cpos (xW [e] X.env)).all (λx=> !x.1)&&(backToKw cpos (jT [] X.env)).all (λx=>x.1.isSome)
  && decide (([e]:List j8).length+([]:List Keyword).length+(if([]:List Keyword).isEmpty then 0 else 1)<30))=xH
 line:(apos.endLine==cpos.line)=xH
 trees:jL cpos (xW [e] X.env)=[(xI,eval e X.env)]
structure M2 (X:Cx) (o:j8) (m:Str) (apos:Pos) (e f:j8) (cpos:Pos):Prop where
 base:jI o m X.env (eval o X.env)=eval o X.env
 few:((jL cpos (xW [e,f] X.env)).all (λx=> !x.1)&&(backToKw cpos (jT [] X.env)).all (λx=>x.1.isSome)
  && decide (([e,f]:List j8).length+([]:List Keyword).length+(if([]:List Keyword).isEmpty then 0 else 1)<30))=xH
 line:(apos.endLine==cpos.line)=xH
 trees:jL cpos (xW [e,f] X.env)=[(xI,eval e X.env),(xI,eval f X.env)]
section
variable{X:Cx}{xE:List (j6×Obj)}{σ:St}{H:Hp}{s:jD}{a:j6}{y d:V}{u r:jF}{o:Option V}{A:j7}{E:jF->jD->Prop}
end
section
variable{X:Cx}{o e f:j8}{apos cpos:Pos}{td ty tx:TE}
end
section
variable{X:Cx}{xE:List (j6×Obj)}{σ:St}{H:Hp}{s:jD}{a:j6}{kvs:List (Key×V)}{A:j7}{E:jF->jD->Prop}
end
section
variable{X:Cx}{xE:List (j6×Obj)}{σ:St}{H:Hp}{s:jD}{a:j6}{y:V}{u:jF}{A:j7}{E:jF->jD->Prop}
end
section
variable{X:Cx}
end
end _L
namespace _L
section
variable{κ:Type}[DecidableEq κ]
end
end _L
namespace _D
open PySem PySem.Spec _L
open PyProof.Rows hiding St
variable{α β:Type}{H:Hp}{p:j6}{vs:List V}{σ:St}{E:XK}{Q:VK}{W:Ends}{e tg:j8}{ho:HO}{i n j k:Nat}{x:Str}{op:CmpOp}{A:j7}{s:jD}{y:V}{w:jG}{scope:jC}{env:Env}{X:Cx}
inductive D where
 |non|bl (b:Bool)|int (i:Int)|str (x:Str)|ty (n:String)
 |tup (xs:List D)
 |fl (xs:List D)
 |ref (i:Nat)
variable{d:D}{ds xs:List D}
inductive DO where
 |lst (xs:List D)
 |dct (kvs:List (Key×D))
 |ins (c:Str) (fs:List (Str×D))
 |tab (c m:Str)
 |exc (c:Str) (fs:List (Str×D))
 |gone
variable{o:DO}
noncomputable abbrev DH:=List DO
variable{G G' L:DH}
noncomputable abbrev DSt:=List (Option D)
variable{S:DSt}
structure Xn where
 cls:Str
 fs:List (Str×D)
inductive R (α:Type) where
 |ok (a:α) (G:DH)
 |err (x:Xn) (G:DH)
 |bad
variable{r:R D}
noncomputable def R.bind{α β:Type}(r:R α)(f:α->DH->R β):R β:=match r with
 |.ok a G=>f a G
 |.err x G=>.err x G
 |.bad=>.bad
@[simp]theorem R.Ed(a:α)(G:DH)(f:α->DH->R β):(R.ok a G).bind f=f a G:=id rfl
@[simp]theorem R.Oo(x:Xn)(G:DH)(f:α->DH->R β):(R.err x G:R α).bind f=.err x G:=id rfl
inductive SR where
 |nx (S:DSt) (G:DH)
 |rt (d:D) (G:DH)
 |bk (S:DSt) (G:DH)
 |ct (S:DSt) (G:DH)
 |err (x:Xn) (G:DH)
 |bad
noncomputable abbrev DE:=DSt->DH->R D
variable{t te:DE}
noncomputable abbrev DB:=DSt->DH->R Bool
noncomputable abbrev DA:=DSt->DH->R (List D)
noncomputable abbrev DS:=DSt->DH->SR
variable{u:DS}
def FzL(K:PySem.W.Frag)(H:Hp)(a:j6)(xs:List V):Prop:=
 (∃o,H a=xF (.frz o (.lst xs)))∨
  ∃(o:Obj)(its:Array jF)(n:Nat),K.lookup a=xF o/\o.cls=.type "list"/\o.dict=xG/\o.data=.seq its n/\its.size<=sizeLine/\Vals xs its.toList
theorem FzL.sq{K:PySem.W.Frag}{a:j6}{xs:List V}(h:FzL K H a xs):SqL K H a xs:=by
 rcases h with⟨o,h⟩|h
 ·exact .inl (.inr ⟨o,h⟩)
 ·exact .inr h
structure Wd where
 K:PySem.W.Frag
 n:Nat
 m:Nat->j6
 H:Hp
variable{a b:Wd}
mutual
def Rep(a:Wd):D->V->Prop
 |.non,v=>v=.non
 |.bl b,v=>v=.bl b
 |.int i,v=>v=.int i
 |.str x,v=>v=.str x
 |.ty n,v=>v=.ty n
 |.tup ds,v=>∃p vs,v=.ref p/\SqT a.K a.H p vs/\Reps a ds vs
 |.fl ds,v=>∃p vs,v=.ref p/\FzL a.K a.H p vs/\Reps a ds vs
 |.ref i,v=>i<a.n/\v=.ref (a.m i)
def Reps(a:Wd):List D->List V->Prop
 |[],vs=>vs=[]
 |d::ds,vs=>∃v r,vs=v::r/\Rep a d v/\Reps a ds r
end
noncomputable def lamQ:Str:="Sending.send_by.<locals>.<lambda>"
def TabOk(H:Hp)(P:j6):Prop:=
 ∃ps:Array jF,H P=xF (.tbl ps)/\TriplesOk ps.toList/\∀pos cv,codeAmong pos ps.toList=xF cv->∃(c:j6)(oc:Obj)(vs:Array jF)(t:Tok),cv=.ref c/\H c=xF (.frz oc (.own 0))/\oc.data=.fields vs/\vs[1]?=xF (.str lamQ t)
theorem TabOk.mono{H':Hp}{P:j6}(h:TabOk H P)(ht:∀p ps,H p=xF (.tbl ps)->H' p=xF (.tbl ps))(hf:∀p o u,H p=xF (.frz o u)->H' p=xF (.frz o u)):TabOk H' P:=by obtain⟨ps,e,t,k⟩:=h;refine⟨ps,ht _ _ e,t,λpos cv hc=>?_⟩;obtain⟨c,oc,vs,tk,e1,e2,e3,e4⟩:=k pos cv hc;exact⟨c,oc,vs,tk,e1,hf _ _ _ e2,e3,e4⟩
def TabAt(K:PySem.W.Frag)(C m:Str)(c P:j6):Prop:=
 ∃(Ca f:j6)(oc:jF)(od:Option j6)(fd:j9)(sl:Array (Option jF)),PySem.W.nsIn K xQ C=xF (xF (.ref Ca))/\PySem.W.findIn K (.ref Ca) m=xF (xF (.ref f))/\K.lookup f=xF ⟨oc,od,.func fd,sl⟩/\fd.code=.ref c/\PySem.W.codeHdIn K c P=xH
structure Ext (a b:Wd):Prop where
 k:b.K=a.K
 n:a.n<=b.n
 m:∀i,i<a.n->b.m i=a.m i
 tup:∀p xs,a.H p=xF (.tup xs)->b.H p=xF (.tup xs)
 frz:∀p o u,a.H p=xF (.frz o u)->b.H p=xF (.frz o u)
 tab:∀p,TabOk a.H p->TabOk b.H p
theorem Ext.refl(a:Wd):Ext a a:=⟨rfl,zJ _,λ_ _=>rfl,λ_ _ h=>h,λ_ _ _ h=>h,λ_ h=>h⟩
theorem Ext.trans{c:Wd}(x:Ext a b)(y:Ext b c):Ext a c:=
 ⟨y.k.trans x.k,zx x.n y.n,λi h=>(y.m i (zZ h x.n)).trans (x.m i h),λp xs h=>y.tup p xs (x.tup p xs h),λp o u h=>y.frz p o u (x.frz p o u h),λp h=>y.tab p (x.tab p h)⟩
theorem Ext.sqT(x:Ext a b){xs:List V}(h:SqT a.K a.H p xs):SqT b.K b.H p xs:=by
 rcases h with(h|⟨o,h⟩)|h
 ·exact .inl (.inl (x.tup _ _ h))
 ·exact .inl (.inr ⟨o,x.frz _ _ _ h⟩)
 ·exact .inr (by rw[x.k];exact h)
theorem Ext.fzL(x:Ext a b){xs:List V}(h:FzL a.K a.H p xs):FzL b.K b.H p xs:=by
 rcases h with⟨o,h⟩|h
 ·exact .inl ⟨o,x.frz _ _ _ h⟩
 ·exact .inr (by rw[x.k];exact h)
mutual
theorem Rep.mono(x:Ext a b):∀{d:D}{v:V},Rep a d v->Rep b d v
 |.non,_,h=>h
 |.bl _,_,h=>h
 |.int _,_,h=>h
 |.str _,_,h=>h
 |.ty _,_,h=>h
 |.tup ds,v,h=>by obtain⟨p,vs,e,q,r⟩:=h;exact⟨p,vs,e,x.sqT q,Reps.mono x r⟩
 |.fl ds,v,h=>by obtain⟨p,vs,e,q,r⟩:=h;exact⟨p,vs,e,x.fzL q,Reps.mono x r⟩
 |.ref i,v,h=>by obtain⟨l,e⟩:=h;exact⟨zZ l x.n,by rw[x.m i l];exact e⟩
theorem Reps.mono(x:Ext a b):∀{ds:List D}{vs:List V},Reps a ds vs->Reps b ds vs
 |[],_,h=>h
 |d::ds,vs,h=>by obtain⟨v,r,e,h1,h2⟩:=h;exact⟨v,r,e,Rep.mono x h1,Reps.mono x h2⟩
end
theorem Reps.length:∀{ds:List D}{vs:List V},Reps a ds vs->ds.length=vs.length
 |[],vs,h=>by cases(show vs=[]from h);rfl
 |d::ds,vs,h=>by obtain⟨v,r,e,h1,h2⟩:=h;subst e;show ds.length+1=r.length+1;rw[Reps.length h2]
theorem Reps.get:∀{ds:List D}{vs:List V}{i:Nat}{d:D},Reps a ds vs->ds[i]?=xF d->∃v,vs[i]?=xF v/\Rep a d v
 |[],vs,_,_,h,e=>by simp at e
 |d::ds,vs,0,d',h,e=>by obtain⟨v,r,e1,h1,h2⟩:=h;subst e1;simp at e;subst e;exact⟨v,rfl,h1⟩
 |d::ds,vs,i+1,d',h,e=>by obtain⟨v,r,e1,h1,h2⟩:=h;subst e1;obtain⟨w,e2,h3⟩:=Reps.get (i:=i) (d:=d') h2 (by simpa using e);exact⟨w,by simpa using e2,h3⟩
theorem Reps.get':∀{ds:List D}{vs:List V}{i:Nat}{v:V},Reps a ds vs->vs[i]?=xF v->∃d,ds[i]?=xF d/\Rep a d v
 |[],vs,_,_,h,e=>by cases(show vs=[]from h);simp at e
 |d::ds,vs,0,v',h,e=>by obtain⟨v,r,e1,h1,h2⟩:=h;subst e1;simp at e;subst e;exact⟨d,rfl,h1⟩
 |d::ds,vs,i+1,v',h,e=>by obtain⟨v,r,e1,h1,h2⟩:=h;subst e1;obtain⟨w,e2,h3⟩:=Reps.get' (i:=i) (v:=v') h2 (by simpa using e);exact⟨w,by simpa using e2,h3⟩
theorem Reps.append:∀{ds es:List D}{vs us:List V},Reps a ds vs->Reps a es us->Reps a (ds++es) (vs++us)
 |[],_,vs,_,h,h'=>by cases(show vs=[]from h);exact h'
 |d::ds,es,vs,us,h,h'=>by obtain⟨v,r,e1,h1,h2⟩:=h;subst e1;exact⟨v,r++us,rfl,h1,Reps.append h2 h'⟩
theorem Reps.cons{v:V}(h:Rep a d v)(r:Reps a ds vs):Reps a (d::ds) (v::vs):=⟨v,vs,rfl,h,r⟩
theorem Reps.nil:Reps a [] []:=rfl
theorem Reps.take:∀{ds:List D}{vs:List V}(i:Nat),Reps a ds vs->Reps a (ds.take i) (vs.take i)
 |_,_,0,_=>rfl
 |[],vs,_+1,r=>by cases(show vs=[]from r);exact rfl
 |d'::ds,vs,i+1,r=>by obtain⟨v',r',e1,h1,h2⟩:=r;subst e1;exact⟨v',r'.take i,rfl,h1,Reps.take i h2⟩
theorem Reps.drop:∀{ds:List D}{vs:List V}(i:Nat),Reps a ds vs->Reps a (ds.drop i) (vs.drop i)
 |_,_,0,r=>r
 |[],vs,_+1,r=>by cases(show vs=[]from r);exact rfl
 |d'::ds,vs,i+1,r=>by obtain⟨v',r',e1,h1,h2⟩:=r;subst e1;exact Reps.drop i h2
theorem Reps.ints:∀(ns:List Int),Reps a (ns.map D.int) (ns.map V.int)
 |[]=>rfl
 |n::ns=>⟨.int n,ns.map V.int,rfl,rfl,Reps.ints ns⟩
def RepKV(a:Wd)(kvs:List (Key×D))(us:List (Key×V)):Prop:=kvs.map (·.1)=us.map (·.1)/\Reps a (kvs.map (·.2)) (us.map (·.2))
def RepF(a:Wd)(fs:List (Str×D))(us:List (Str×V)):Prop:=fs.map (·.1)=us.map (·.1)/\Reps a (fs.map (·.2)) (us.map (·.2))
def XD(a:Wd)(od:Option j6)(fs:List (Str×D)):Prop:=(fs=[]/\od=xG)∨∃dx o us,od=xF dx/\a.H dx=xF (.frz o (.xd us))/\RepF a fs us
def ORep(a:Wd):DO->Option HO->Prop
 |.lst ds,o=>∃vs,o=xF (.lst vs)/\Reps a ds vs
 |.dct kvs,o=>∃us,o=xF (.dK us)/\RepKV a kvs us
 |.ins c fs,o=>∃C dx us,PySem.W.nsIn a.K xQ c=xF (xF (.ref C))/\o=xF (.ins C dx us)/\RepF a fs us
 |.tab C m,_=>∃c P,TabAt a.K C m c P/\TabOk a.H P
 |.exc c fs,o=>∃C oe u vs,PySem.W.nsIn a.K xQ c=xF (xF (.ref C))/\o=xF (.frz oe u)/\oe.cls=.ref C/\oe.data=.fields vs/\XD a oe.dict fs
 |.gone,_=>True
structure Sim (a:Wd) (G:DH):Prop where
 len:G.length=a.n
 inj:∀i j,i<a.n->j<a.n->a.m i=a.m j->i=j
 obj:∀(i:Nat)(o:DO),G[i]?=xF o->ORep a o (a.H (a.m i))
 tr:∀i,i<a.n->a.H (a.m i)≠xG
structure RepS (a:Wd) (S:DSt) (σ:St):Prop where
 len:S.length=σ.length
 get:∀(i:Nat)(d:D),S[i]?=xF (xF d)->∃v,σ[i]?=xF (xF v)/\Rep a d v
theorem RepS.mono(x:Ext a b)(r:RepS a S σ):RepS b S σ:=⟨r.len,λi d h=>let⟨v,e,q⟩:=r.get i d h;⟨v,e,q.mono x⟩⟩
theorem RepS.set(r:RepS a S σ)(i:Nat){v:V}(h:Rep a d v):RepS a (S.set i (xF d)) (σ.set i (xF v)):=by
 refine⟨by simpa using r.len,λj e he=>?_⟩;rw[jx]at he⊢;by_cases hij:i=j
 ·subst hij;rw[if_pos rfl]at he⊢;by_cases hl:i<S.length
  ·rw[if_pos hl]at he;have e1:d=e:=by simpa using he
   subst e1;rw[if_pos (by rw[<-r.len];exact hl)];exact⟨v,rfl,h⟩
  ·rw[if_neg hl]at he;cases he
 ·rw[if_neg hij]at he⊢;exact r.get j e he
def XOk(E:XK)(a:Wd)(x:Xn)(G:DH):Prop:=E≠E0/\∀(b:Wd)(C:j6)(od:Option j6),Ext a b->Sim b G->PySem.W.nsIn b.K xQ x.cls=xF (xF (.ref C))->XD b od x.fs->E (.ref C) od b.H
def out(E:XK)(a:Wd)(r:R D)(Q:VK):Prop:=match r with
 |.ok d G=>∀(b:Wd)(v:V),Ext a b->Sim b G->Rep b d v->Q v b.H
 |.err x G=>XOk E a x G
 |.bad=>False
def Cv(E:XK)(a:Wd)(r:R Bool)(Q:Bool->Hp->Prop):Prop:=match r with
 |.ok k G=>∀(b:Wd),Ext a b->Sim b G->Q k b.H
 |.err x G=>XOk E a x G
 |.bad=>False
def Cp(E:XK)(a:Wd)(r:R (List D))(Q:List V->Hp->Prop):Prop:=match r with
 |.ok ds G=>∀(b:Wd)(vs:List V),Ext a b->Sim b G->Reps b ds vs->Q vs b.H
 |.err x G=>XOk E a x G
 |.bad=>False
def Ba(E:XK)(a:Wd)(r:SR)(W:Ends):Prop:=match r with
 |.nx S G=>∀(b:Wd)(σ:St),Ext a b->Sim b G->RepS b S σ->W.nx σ b.H
 |.bk S G=>∀(b:Wd)(σ:St),Ext a b->Sim b G->RepS b S σ->W.bk σ b.H
 |.ct S G=>∀(b:Wd)(σ:St),Ext a b->Sim b G->RepS b S σ->W.ct σ b.H
 |.rt d G=>∀(b:Wd)(v:V),Ext a b->Sim b G->Rep b d v->W.rt v b.H
 |.err x G=>XOk E a x G
 |.bad=>False
theorem XOk.mono(x:Ext a b){e:Xn}(h:XOk E a e G):XOk E b e G:=⟨h.1,λc C od y s n q=>h.2 c C od (x.trans y) s n q⟩
theorem out.mono(x:Ext a b)(h:out E a r Q):out E b r Q:=by
 cases r with
 |ok d G=>exact λc v y s q=>h c v (x.trans y) s q
 |err e G=>exact XOk.mono (E:=E) (e:=e) (G:=G) x h
 |bad=>exact h
theorem Cv.mono(x:Ext a b){r:R Bool}{Q:Bool->Hp->Prop}(h:Cv E a r Q):Cv E b r Q:=by
 cases r with
 |ok d G=>exact λc y s=>h c (x.trans y) s
 |err e G=>exact XOk.mono (E:=E) (e:=e) (G:=G) x h
 |bad=>exact h
theorem Cp.mono(x:Ext a b){r:R (List D)}{Q:List V->Hp->Prop}(h:Cp E a r Q):Cp E b r Q:=by
 cases r with
 |ok d G=>exact λc vs y s q=>h c vs (x.trans y) s q
 |err e G=>exact XOk.mono (E:=E) (e:=e) (G:=G) x h
 |bad=>exact h
theorem Ba.mono(x:Ext a b){r:SR}(h:Ba E a r W):Ba E b r W:=by
 cases r with
 |nx d G=>exact λc vs y s q=>h c vs (x.trans y) s q
 |bk d G=>exact λc vs y s q=>h c vs (x.trans y) s q
 |ct d G=>exact λc vs y s q=>h c vs (x.trans y) s q
 |rt d G=>exact λc vs y s q=>h c vs (x.trans y) s q
 |err e G=>exact XOk.mono (E:=E) (e:=e) (G:=G) x h
 |bad=>exact h
def lE(K:PySem.W.Frag)(E:XK)(t:DE):TE:=λσ H Q=>∃(a:Wd)(S:DSt)(G:DH),a.K=K/\a.H=H/\Sim a G/\RepS a S σ/\out E a (t S G) Q
def lB(K:PySem.W.Frag)(E:XK)(t:DB):TT:=λσ H Q=>∃(a:Wd)(S:DSt)(G:DH),a.K=K/\a.H=H/\Sim a G/\RepS a S σ/\Cv E a (t S G) Q
def lA(K:PySem.W.Frag)(E:XK)(t:DA):TA:=λσ H Q=>∃(a:Wd)(S:DSt)(G:DH),a.K=K/\a.H=H/\Sim a G/\RepS a S σ/\Cp E a (t S G) Q
def lS(K:PySem.W.Frag)(E:XK)(t:DS):TS:=λW σ H=>∃(a:Wd)(S:DSt)(G:DH),a.K=K/\a.H=H/\Sim a G/\RepS a S σ/\Ba E a (t S G) W
def lR2(K:PySem.W.Frag)(E:XK)(f:D->D->DH->R D):R2:=λx y H Q=>∃(a:Wd)(G:DH)(d e:D),a.K=K/\a.H=H/\Sim a G/\Rep a d x/\Rep a e y/\out E a (f d e G) Q
def lR1(K:PySem.W.Frag)(E:XK)(f:D->DH->R D):V->Hp->VK->Prop:=λx H Q=>∃(a:Wd)(G:DH)(d:D),a.K=K/\a.H=H/\Sim a G/\Rep a d x/\out E a (f d G) Q
def lRn(K:PySem.W.Frag)(E:XK)(f:List D->DH->R D):List V->Hp->VK->Prop:=λxs H Q=>∃(a:Wd)(G:DH)(ds:List D),a.K=K/\a.H=H/\Sim a G/\Reps a ds xs/\out E a (f ds G) Q
def lF(K:PySem.W.Frag)(f:List D->DH->R D):Sp:=λxs H Q _=>∃(a:Wd)(G:DH)(ds:List D),a.K=K/\a.H=H/\Sim a G/\Reps a ds xs/\out E0 a (f ds G) Q
def lFx(K:PySem.W.Frag)(f:List D->DH->R D):Sp:=λxs H Q E=>∃(a:Wd)(G:DH)(ds:List D),a.K=K/\a.H=H/\Sim a G/\Reps a ds xs/\out E a (f ds G) Q
section
variable{X:Cx}{E:XK}
def QE(X:Cx)(E:XK)(e:j8)(t:DE):Prop:=PE X e (lE X.K E t)
def QT(X:Cx)(E:XK)(e:j8)(t:DB):Prop:=PT X e (lB X.K E t)
def QA(X:Cx)(E:XK)(es:List j8)(t:DA):Prop:=PA X es (lA X.K E t)
def QS(X:Cx)(E:XK)(st:jE)(t:DS):Prop:=PS X st (lS X.K E t)
def QSs(X:Cx)(E:XK)(st:List jE)(t:DS):Prop:=PSs X st (lS X.K E t)
theorem _root_._L.PE.mono{t t':TE}(h:PE X e t)(w:∀σ H Q,t' σ H Q->t σ H Q):PE X e t':=λxE s σ H Q I q=>h xE s σ H Q I (w σ H Q q)
theorem _root_._L.PT.mono{t t':TT}(h:PT X e t)(w:∀σ H Q,t' σ H Q->t σ H Q):PT X e t':=λxE s σ H Q I q=>h xE s σ H Q I (w σ H Q q)
theorem _root_._L.PA.mono{e:List j8}{t t':TA}(h:PA X e t)(w:∀σ H Q,t' σ H Q->t σ H Q):PA X e t':=λpos xE s σ H Q I q=>h pos xE s σ H Q I (w σ H Q q)
theorem _root_._L.PS.mono{e:jE}{t t':TS}(h:PS X e t)(w:∀W σ H,t' W σ H->t W σ H):PS X e t':=λxE s σ H W I q=>h xE s σ H W I (w W σ H q)
theorem _root_._L.PSs.mono{e:List jE}{t t':TS}(h:PSs X e t)(w:∀W σ H,t' W σ H->t W σ H):PSs X e t':=λxE s σ H W I q=>h xE s σ H W I (w W σ H q)
theorem _root_._L.OpR.mono{f:jF->jF->Sem jF}{r r':R2}(h:OpR X f r)(w:∀x y H Q,r' x y H Q->r x y H Q):OpR X f r':=λxE s σ H x y v u Q I rx ry q=>h xE s σ H x y v u Q I rx ry (w _ _ _ _ q)
end
theorem Ci{f:D->DH->R D}(h:out E a (r.bind f) Q):
  out E a r (λv H=>∃(b:Wd)(d:D)(G:DH),b.H=H/\Ext a b/\Sim b G/\Rep b d v/\r=.ok d G/\out E b (f d G) Q):=by
 cases r with
 |ok d G=>exact λb v x s q=>⟨b,d,G,rfl,x,s,q,rfl,out.mono x h⟩
 |err e G=>exact h
 |bad=>exact h
theorem Le{r:R (List D)}{f:List D->DH->R D}(h:out E a (r.bind f) Q):
  Cp E a r (λvs H=>∃(b:Wd)(ds:List D)(G:DH),b.H=H/\Ext a b/\Sim b G/\Reps b ds vs/\r=.ok ds G/\out E b (f ds G) Q):=by
 cases r with
 |ok d G=>exact λb v x s q=>⟨b,d,G,rfl,x,s,q,rfl,out.mono x h⟩
 |err e G=>exact h
 |bad=>exact h
theorem ZBj{r:R Bool}{f:Bool->DH->R D}(h:out E a (r.bind f) Q):
  Cv E a r (λk H=>∃(b:Wd)(G:DH),b.H=H/\Ext a b/\Sim b G/\r=.ok k G/\out E b (f k G) Q):=by
 cases r with
 |ok d G=>exact λb x s=>⟨b,G,rfl,x,s,rfl,out.mono x h⟩
 |err e G=>exact h
 |bad=>exact h
theorem ZHC{f:D->DH->R Bool}{Q:Bool->Hp->Prop}(h:Cv E a (r.bind f) Q):
  out E a r (λv H=>∃(b:Wd)(d:D)(G:DH),b.H=H/\Ext a b/\Sim b G/\Rep b d v/\r=.ok d G/\Cv E b (f d G) Q):=by
 cases r with
 |ok d G=>exact λb v x s q=>⟨b,d,G,rfl,x,s,q,rfl,Cv.mono x h⟩
 |err e G=>exact h
 |bad=>exact h
theorem Rq{r:R Bool}{f:Bool->DH->R Bool}{Q:Bool->Hp->Prop}(h:Cv E a (r.bind f) Q):
  Cv E a r (λk H=>∃(b:Wd)(G:DH),b.H=H/\Ext a b/\Sim b G/\r=.ok k G/\Cv E b (f k G) Q):=by
 cases r with
 |ok d G=>exact λb x s=>⟨b,G,rfl,x,s,rfl,Cv.mono x h⟩
 |err e G=>exact h
 |bad=>exact h
theorem ZCl{f:D->DH->R (List D)}{Q:List V->Hp->Prop}(h:Cp E a (r.bind f) Q):
  out E a r (λv H=>∃(b:Wd)(d:D)(G:DH),b.H=H/\Ext a b/\Sim b G/\Rep b d v/\r=.ok d G/\Cp E b (f d G) Q):=by
 cases r with
 |ok d G=>exact λb v x s q=>⟨b,d,G,rfl,x,s,q,rfl,Cp.mono x h⟩
 |err e G=>exact h
 |bad=>exact h
theorem ZGC{r:R (List D)}{f:List D->DH->R (List D)}{Q:List V->Hp->Prop}(h:Cp E a (r.bind f) Q):
  Cp E a r (λvs H=>∃(b:Wd)(ds:List D)(G:DH),b.H=H/\Ext a b/\Sim b G/\Reps b ds vs/\r=.ok ds G/\Cp E b (f ds G) Q):=by
 cases r with
 |ok d G=>exact λb v x s q=>⟨b,d,G,rfl,x,s,q,rfl,Cp.mono x h⟩
 |err e G=>exact h
 |bad=>exact h
noncomputable def R.toS{α:Type}(r:R α)(f:α->DH->SR):SR:=match r with
 |.ok a G=>f a G
 |.err x G=>.err x G
 |.bad=>.bad
@[simp]theorem R.Bq(a:α)(G:DH)(f:α->DH->SR):(R.ok a G).toS f=f a G:=id rfl
@[simp]theorem R.ZIj(x:Xn)(G:DH)(f:α->DH->SR):(R.err x G:R α).toS f=.err x G:=id rfl
theorem Ng{f:D->DH->SR}(h:Ba E a (r.toS f) W):
  out E a r (λv H=>∃(b:Wd)(d:D)(G:DH),b.H=H/\Ext a b/\Sim b G/\Rep b d v/\r=.ok d G/\Ba E b (f d G) W):=by
 cases r with
 |ok d G=>exact λb v x s q=>⟨b,d,G,rfl,x,s,q,rfl,Ba.mono x h⟩
 |err e G=>exact h
 |bad=>exact h
theorem Z8{r:R Bool}{f:Bool->DH->SR}(h:Ba E a (r.toS f) W):
  Cv E a r (λk H=>∃(b:Wd)(G:DH),b.H=H/\Ext a b/\Sim b G/\r=.ok k G/\Ba E b (f k G) W):=by
 cases r with
 |ok d G=>exact λb x s=>⟨b,G,rfl,x,s,rfl,Ba.mono x h⟩
 |err e G=>exact h
 |bad=>exact h
section
theorem out.imp{Q':VK}(h:out E a r Q)(w:∀v H,Q v H->Q' v H):out E a r Q':=by
 cases r with
 |ok d G=>exact λb v x s q=>w _ _ (h b v x s q)
 |err e G=>exact h
 |bad=>exact h
theorem Cp.imp{r:R (List D)}{Q Q':List V->Hp->Prop}(h:Cp E a r Q)(w:∀v H,Q v H->Q' v H):Cp E a r Q':=by
 cases r with
 |ok d G=>exact λb v x s q=>w _ _ (h b v x s q)
 |err e G=>exact h
 |bad=>exact h
theorem Cv.imp{r:R Bool}{Q Q':Bool->Hp->Prop}(h:Cv E a r Q)(w:∀v H,Q v H->Q' v H):Cv E a r Q':=by
 cases r with
 |ok d G=>exact λb x s=>w _ _ (h b x s)
 |err e G=>exact h
 |bad=>exact h
def Wd.push(a:Wd)(p:j6)(ho:HO):Wd:=⟨a.K,a.n+1,λk=>if k=a.n then p else a.m k,upd a.H p ho⟩
def Wd.put(a:Wd)(p:j6)(ho:HO):Wd:={a with H:=upd a.H p ho}
theorem Ext.put(h:a.H p=xG):Ext a (a.put p ho):=
 ⟨rfl,zJ _,λ_ _=>rfl,λq xs e=>by show upd a.H p ho q=_;rw[Al (Dn e h)];exact e,λq o u e=>by show upd a.H p ho q=_;rw[Al (Dn e h)];exact e,λ_ t=>t.mono (λq ps e=>by show upd a.H p ho q=_;rw[Al (Dn e h)];exact e) (λq o u e=>by show upd a.H p ho q=_;rw[Al (Dn e h)];exact e)⟩
theorem Ext.push(h:a.H p=xG):Ext a (a.push p ho):=
 ⟨rfl,qF _,λi hi=>by show(if i=a.n then p else a.m i)=a.m i;rw[if_neg (zG hi)],λq xs e=>by show upd a.H p ho q=_;rw[Al (Dn e h)];exact e,λq o u e=>by show upd a.H p ho q=_;rw[Al (Dn e h)];exact e,λ_ t=>t.mono (λq ps e=>by show upd a.H p ho q=_;rw[Al (Dn e h)];exact e) (λq o u e=>by show upd a.H p ho q=_;rw[Al (Dn e h)];exact e)⟩
theorem XD.mono(x:Ext a b){od:Option j6}{fs:List (Str×D)}(h:XD a od fs):XD b od fs:=by
 rcases h with h|⟨dx,o,us,e,f,k,r⟩
 ·exact .inl h
 ·exact .inr ⟨dx,o,us,e,x.frz _ _ _ f,k,r.mono x⟩
theorem ORep.mono(x:Ext a b){q:Option HO}(h:ORep a o q):ORep b o q:=by
 cases o with
 |lst ds=>obtain⟨vs,e,r⟩:=h;exact⟨vs,e,r.mono x⟩
 |dct kvs=>obtain⟨us,e,k,r⟩:=h;exact⟨us,e,k,r.mono x⟩
 |ins c fs=>obtain⟨C,dx,us,n,e,k,r⟩:=h;exact⟨C,dx,us,by rw[x.k];exact n,e,k,r.mono x⟩
 |tab C m=>obtain⟨c,P,e,t⟩:=h;exact⟨c,P,by rw[x.k];exact e,x.tab _ t⟩
 |exc c fs=>obtain⟨C,oe,u,vs,n,e,k1,k2,z⟩:=h;exact⟨C,oe,u,vs,by rw[x.k];exact n,e,k1,k2,z.mono x⟩
 |gone=>trivial
theorem Sim.lt(s:Sim a G)(h:G[i]?=xF o):i<a.n:=by rw[<-s.len];exact(z9.mp h).1
theorem Sim.put(s:Sim a G)(h:a.H p=xG):Sim (a.put p ho) G:=by
 refine⟨s.len,s.inj,λi o e=>?_,λi hi=>?_⟩
 ·have z:a.H (a.m i)≠xG:=s.tr i (s.lt e);have ne:a.m i≠p:=λq=>z (by rw[q];exact h)
  show ORep _ o (upd a.H p ho (a.m i));rw[Al ne];exact(s.obj i o e).mono (Ext.put h)
 ·have z:a.H (a.m i)≠xG:=s.tr i hi;have ne:a.m i≠p:=λq=>z (by rw[q];exact h)
  show upd a.H p ho (a.m i)≠xG;rw[Al ne];exact z
theorem Sim.push(s:Sim a G)(h:a.H p=xG)(r:ORep (a.push p ho) o (xF ho)):Sim (a.push p ho) (G++[o]):=by
 have nep:∀i,i<a.n->a.m i≠p:=λi hi q=>s.tr i hi (by rw[q];exact h)
 have old:∀i,i<a.n->(a.push p ho).m i=a.m i:=λi hi=>by show(if i=a.n then p else a.m i)=_;rw[if_neg (zG hi)]
 have new:(a.push p ho).m a.n=p:=by show(if a.n=a.n then p else a.m a.n)=_;rw[if_pos rfl]
 refine⟨by simp[s.len,Wd.push],λi j hi hj e=>?_,λi u e=>?_,λi hi=>?_⟩
 ·have hi':i<a.n+1:=hi;have hj':j<a.n+1:=hj;by_cases h1:i<a.n
  ·by_cases h2:j<a.n
   ·rw[old i h1,old j h2]at e;exact s.inj i j h1 h2 e
   ·have:j=a.n:=by lia
    subst this;rw[old i h1,new]at e;exact absurd e (nep i h1)
  ·have:i=a.n:=by lia
   subst this;by_cases h2:j<a.n
   ·rw[old j h2,new]at e;exact absurd e.symm (nep j h2)
   ·lia
 ·by_cases h1:i<a.n
  ·rw[zH (by rw[s.len];exact h1)]at e;rw[old i h1];show ORep _ u (upd a.H p ho (a.m i));rw[Al (nep i h1)];exact(s.obj i u e).mono (Ext.push h)
  ·have hl:i<(G++[o]).length:=(z9.mp e).1;have:i=a.n:=by rw[zK,s.len]at hl;simp at hl;lia
   subst this;rw[zB (by rw[s.len];exact zJ _),s.len]at e;simp at e;subst e;rw[new];show ORep _ o (upd a.H p ho p);rw[En];exact r
 ·have hi':i<a.n+1:=hi;by_cases h1:i<a.n
  ·rw[old i h1];show upd a.H p ho (a.m i)≠xG;rw[Al (nep i h1)];exact s.tr i h1
  ·have:i=a.n:=by lia
   subst this;rw[new];show upd a.H p ho p≠xG;rw[En];simp
theorem Ext.wr(h:a.H p=xF (.lst vs)):Ext a (a.put p ho):=
 ⟨rfl,zJ _,λ_ _=>rfl,λq xs e=>by
  show upd a.H p ho q=_;rw[Al (λz=>by subst z;rw[h]at e;cases e)];exact e,λq o u e=>by
  show upd a.H p ho q=_;rw[Al (λz=>by subst z;rw[h]at e;cases e)];exact e,λ_ t=>t.mono (λq ps e=>by show upd a.H p ho q=_;rw[Al (λz=>by subst z;rw[h]at e;cases e)];exact e) (λq o u e=>by show upd a.H p ho q=_;rw[Al (λz=>by subst z;rw[h]at e;cases e)];exact e)⟩
theorem Sim.wr(s:Sim a G)(hi:i<a.n){vs':List V}{ds':List D}(h:a.H (a.m i)=xF (.lst vs))(r:Reps (a.put (a.m i) (.lst vs')) ds' vs'):Sim (a.put (a.m i) (.lst vs')) (G.set i (.lst ds')):=by
 refine⟨by rw[List.length_set];exact s.len,s.inj,λj o e=>?_,λj hj=>?_⟩
 ·rw[jx]at e;show ORep _ o (upd a.H (a.m i) (.lst vs') (a.m j));by_cases hij:i=j
  ·subst hij;rw[if_pos rfl,if_pos (by rw[s.len];exact hi)]at e;cases e;rw[En];exact⟨vs',rfl,r⟩
  ·rw[if_neg hij]at e;rw[Al λz=>hij (s.inj _ _ (s.lt e) hi z).symm];exact(s.obj j o e).mono (Ext.wr h)
 ·show upd a.H (a.m i) (.lst vs') (a.m j)≠xG;by_cases hij:a.m j=a.m i
  ·rw[hij,En];simp
  ·rw[Al hij];exact s.tr j hj
mutual
noncomputable def bel(n:Nat):D->Bool
 |.ref i=>decide (i<n)
 |.tup ds=>bels n ds
 |.fl ds=>bels n ds
 |_=>xH
noncomputable def bels(n:Nat):List D->Bool
 |[]=>xH
 |d::ds=>bel n d&&bels n ds
end
def Hs(n:Nat):DO->Bool
 |.lst ds=>bels n ds
 |.dct kvs=>bels n (kvs.map (·.2))
 |.ins _ fs=>bels n (fs.map (·.2))
 |.tab _ _=>xH
 |.exc _ fs=>bels n (fs.map (·.2))
 |.gone=>xH
mutual
theorem Rep.bel:∀{d:D}{v:V},Rep a d v->bel a.n d=xH
 |.non,_,_=>by simp[_D.bel]
 |.bl _,_,_=>by simp[_D.bel]
 |.int _,_,_=>by simp[_D.bel]
 |.str _,_,_=>by simp[_D.bel]
 |.ty _,_,_=>by simp[_D.bel]
 |.tup ds,v,h=>by obtain⟨p,vs,e,q,r⟩:=h;simp only[_D.bel];exact Reps.bels r
 |.fl ds,v,h=>by obtain⟨p,vs,e,q,r⟩:=h;simp only[_D.bel];exact Reps.bels r
 |.ref i,v,h=>by obtain⟨l,e⟩:=h;simp only[_D.bel];exact decide_eq_true l
theorem Reps.bels:∀{ds:List D}{vs:List V},Reps a ds vs->bels a.n ds=xH
 |[],_,_=>by simp[_D.bels]
 |d::ds,vs,h=>by
  obtain⟨v,r,e,h1,h2⟩:=h;simp only[_D.bels];rw[Rep.bel h1,Reps.bels h2]
  rfl
end
structure Cut (b c:Wd):Prop where
 k:c.K=b.K
 h:c.H=b.H
mutual
theorem Rep.cut{c:Wd}(x:Cut b c)(hn:n<=c.n)(hm:∀i,i<n->c.m i=b.m i):∀{d:D}{v:V},Rep b d v->bel n d=xH->Rep c d v
 |.non,_,h,_=>h
 |.bl _,_,h,_=>h
 |.int _,_,h,_=>h
 |.str _,_,h,_=>h
 |.ty _,_,h,_=>h
 |.tup ds,v,h,q=>by obtain⟨p,vs,e,t,r⟩:=h;simp only[_D.bel]at q;exact⟨p,vs,e,by rw[x.k,x.h];exact t,Reps.cut x hn hm r q⟩
 |.fl ds,v,h,q=>by obtain⟨p,vs,e,t,r⟩:=h;simp only[_D.bel]at q;exact⟨p,vs,e,by rw[x.k,x.h];exact t,Reps.cut x hn hm r q⟩
 |.ref i,v,h,q=>by obtain⟨l,e⟩:=h;simp only[_D.bel]at q;have q':=of_decide_eq_true q;exact⟨zZ q' hn,by rw[hm i q'];exact e⟩
theorem Reps.cut{c:Wd}(x:Cut b c)(hn:n<=c.n)(hm:∀i,i<n->c.m i=b.m i):∀{ds:List D}{vs:List V},Reps b ds vs->bels n ds=xH->Reps c ds vs
 |[],_,h,_=>h
 |d::ds,vs,h,q=>by obtain⟨v,r,e,h1,h2⟩:=h;simp only[_D.bels,zw]at q;exact⟨v,r,e,Rep.cut x hn hm h1 q.1,Reps.cut x hn hm h2 q.2⟩
end
theorem ORep.cut{c:Wd}(x:Cut b c)(hn:n<=c.n)(hm:∀i,i<n->c.m i=b.m i){q:Option HO}(h:ORep b o q)(l:Hs n o=xH):ORep c o q:=by
 cases o with
 |lst ds=>obtain⟨vs,e,r⟩:=h;exact⟨vs,e,Reps.cut x hn hm r l⟩
 |dct kvs=>obtain⟨us,e,k,r⟩:=h;exact⟨us,e,k,Reps.cut x hn hm r l⟩
 |ins c fs=>obtain⟨C,dx,us,n,e,k,r⟩:=h;exact⟨C,dx,us,by rw[x.k];exact n,e,k,Reps.cut x hn hm r l⟩
 |tab C m=>obtain⟨c,P,e,t⟩:=h;exact⟨c,P,by rw[x.k];exact e,by rw[x.h];exact t⟩
 |exc c fs=>
  obtain⟨C,oe,u,vs,n,e,k1,k2,z⟩:=h;refine⟨C,oe,u,vs,by rw[x.k];exact n,e,k1,k2,?_⟩;rcases z with z|⟨dx,o,us,e,f,k,r⟩
  ·exact .inl z
  ·exact .inr ⟨dx,o,us,e,by rw[x.h];exact f,k,Reps.cut x hn hm r l⟩
 |gone=>trivial
theorem ORep.Hs{q:Option HO}(h:ORep a o q):Hs a.n o=xH:=by
 cases o with
 |lst ds=>obtain⟨vs,e,r⟩:=h;exact r.bels
 |dct kvs=>obtain⟨us,e,k,r⟩:=h;exact r.bels
 |ins c fs=>obtain⟨C,dx,us,n,e,k,r⟩:=h;exact r.bels
 |tab C m=>rfl
 |exc c fs=>
  obtain⟨C,oe,u,vs,n,e,k1,k2,z⟩:=h;rcases z with⟨z,_⟩|⟨dx,o,us,e,f,k,r⟩
  ·rw[z];rfl
  ·exact r.bels
 |gone=>rfl
open Classical in
def tidy (G:DH) (r:R D):R D:=match r with
 | .ok d G'=>if G'.take G.length=G then
   (if bel G.length d=xH then .ok d G else match d with
    |.ref i=>match G'[i]? with
     |some o=>if Hs G.length o=xH then .ok (.ref G.length) (G++[o])else .ok d G'
     |none=>.ok d G'
    |_=>.ok d G')else .ok d G'
 |r=>r
theorem Uv (s:Sim a G) (h:out E a (tidy G r) Q):out E a r Q:=by
 cases r with
 |err e G'=>exact h
 |bad=>exact h
 | ok d G'=>
  intro b v x sb rb;unfold tidy at h;dsimp only at h;split at h
  ·rename_i hG;have hlen:∀i o,G[i]?=xF o->G'[i]?=xF o:=λi o e=>by have hi:i<G.length:=(z9.mp e).1;rw[<-hG,jK hi]at e;exact e
   have base:∀(c:Wd),Cut b c->a.n<=c.n->(∀i,i<a.n->c.m i=b.m i)->∀i o,G[i]?=xF o->ORep c o (c.H (c.m i)):=λc cc hn hm i o e=>by have q:=sb.obj i o (hlen i o e);rw[cc.h,hm i (s.lt e)];exact q.cut cc hn hm (s.obj i o e).Hs
   split at h
   ·rename_i hb;rw[s.len]at hb;let c:Wd:=⟨b.K,a.n,b.m,b.H⟩;have cc:Cut b c:=⟨rfl,rfl⟩;refine h c v ⟨x.k,zJ _,x.m,x.tup,x.frz,x.tab⟩ ⟨s.len,λi j hi hj=>sb.inj i j (zZ hi x.n) (zZ hj x.n),base c cc (zJ _) (λ_ _=>rfl),λi hi=>sb.tr i (zZ hi x.n)⟩ ?_;exact rb.cut cc (zJ _) (λ_ _=>rfl) hb
   ·rename_i hb;split at h
    ·rename_i i;obtain⟨il,iv⟩:=rb;split at h
     ·rename_i o ho;split at h
      ·rename_i hbo;rw[s.len]at hbo hb h;simp only[_D.bel,decide_eq_true_eq]at hb;let c:Wd:=⟨b.K,a.n+1,λk=>if k=a.n then b.m i else b.m k,b.H⟩;have cc:Cut b c:=⟨rfl,rfl⟩;have cm:∀j,j<a.n->c.m j=b.m j:=λj hj=>by show(if j=a.n then b.m i else b.m j)=_;rw[if_neg (zG hj)]
       have cn:c.m a.n=b.m i:=by show(if a.n=a.n then b.m i else b.m a.n)=_;rw[if_pos rfl]
       have lt':∀j,j<a.n->j<b.n:=λj hj=>zZ hj x.n
       refine h c v ⟨x.k,qF _,λj hj=>(cm j hj).trans (x.m j hj),x.tup,x.frz,x.tab⟩ ⟨by simp[s.len,c],λj k hj hk e=>?_,λj u e=>?_,λj hj=>?_⟩ ⟨zP _,by rw[cn];exact iv⟩
       ·have hj':j<a.n+1:=hj;have hk':k<a.n+1:=hk;by_cases h1:j<a.n
        ·by_cases h2:k<a.n
         ·rw[cm j h1,cm k h2]at e;exact sb.inj j k (lt' j h1) (lt' k h2) e
         ·have:k=a.n:=by lia
          subst this;rw[cm j h1,cn]at e;have:=sb.inj j i (lt' j h1) il e;lia
        ·have:j=a.n:=by lia
         subst this;by_cases h2:k<a.n
         ·rw[cm k h2,cn]at e;have:=sb.inj i k il (lt' k h2) e;lia
         ·lia
       ·by_cases h1:j<a.n
        ·rw[zH (by rw[s.len];exact h1)]at e;exact base c cc (qF _) cm j u e
        ·have hl:j<(G++[o]).length:=(z9.mp e).1;have:j=a.n:=by rw[zK,s.len]at hl;simp at hl;lia
         subst this;rw[zB (by rw[s.len];exact zJ _),s.len]at e;simp at e;subst e;rw[cn];exact(sb.obj i o ho).cut cc (qF _) cm hbo
       ·have hj':j<a.n+1:=hj;by_cases h1:j<a.n
        ·rw[cm j h1];exact sb.tr j (lt' j h1)
        ·have:j=a.n:=by lia
         subst this;rw[cn];exact sb.tr i il
      ·exact h b v x sb ⟨il,iv⟩
     ·exact h b v x sb ⟨il,iv⟩
    ·exact h b v x sb rb
  ·exact h b v x sb rb
end
noncomputable def dV(i:Nat):DE:=λS G=>match S[i]? with
 |some (xF d)=>.ok d G
 |_=>.bad
noncomputable def dC(d:D):DE:=λ_ G=>.ok d G
def dOp(f:D->D->DH->R D)(a b:DE):DE:=λS G=>(a S G).bind λx G1=>(b S G1).bind λy G2=>f x y G2
def dUn(f:D->DH->R D)(a:DE):DE:=λS G=>(a S G).bind f
noncomputable def Ad:DA:=λ_ G=>.ok [] G
def Ab(a:DE)(r:DA):DA:=λS G=>(a S G).bind λx G1=>(r S G1).bind λxs G2=>.ok (x::xs) G2
def dFn(f:List D->DH->R D)(t:DA):DE:=λS G=>(t S G).bind f
def G7(t:DE):DE:=λS G=>tidy G (t S G)
def asB:D->DH->R Bool
 |.bl k,G=>.ok k G
 |_,_=>.bad
def Ai(t:DE):DB:=λS G=>(t S G).bind asB
def Gs(t u:DB):DB:=λS G=>(t S G).bind λk G1=>if k=xH then u S G1 else .ok xI G1
def dOr(t u:DB):DB:=λS G=>(t S G).bind λk G1=>if k=xH then .ok xH G1 else u S G1
def Bw(t:DB):DB:=λS G=>(t S G).bind λk G1=>.ok (!k) G1
def J9(t u:DE):DE:=λS G=>(t S G).bind λx G1=>(asB x G1).bind λk G2=>if k=xH then u S G2 else .ok (.bl xI) G2
def Og(t u:DE):DE:=λS G=>(t S G).bind λx G1=>(asB x G1).bind λk G2=>if k=xH then .ok (.bl xH) G2 else u S G2
def J8(t:DE):DE:=λS G=>(t S G).bind λx G1=>(asB x G1).bind λk G2=>.ok (.bl (!k)) G2
def Ie(f g:D->D->DH->R D)(a b c:DE):DE:=λS G=>(a S G).bind λx G1=>(b S G1).bind λy G2=>(f x y G2).bind λz G3=>(asB z G3).bind λk G4=>
 if k=xH then(c S G4).bind λw G5=>g y w G5 else .ok (.bl xI) G4
noncomputable def Ec(ds:List D)(G:DH):R D:=if ds.length<=1000000 then .ok (.tup ds) G else .bad
noncomputable def Ah(ds:List D)(G:DH):R D:=if ds.length<=1000000 then .ok (.ref G.length) (G++[.lst ds])else .bad
noncomputable def Cj(d:D)(G:DH):Option (List D):=match d with
 |.tup xs=>xF xs
 |.fl xs=>xF xs
 |.ref i=>match G[i]? with
  |some (.lst xs)=>xF xs
  |_=>xG
 |_=>xG
theorem size6:(1000000:Nat)<=sizeLine:=by decide
section
variable{X:Cx}{E:XK}{a b c:j8}{ta tb tc:DE}{pos:Pos}
theorem two{K:PySem.W.Frag}{f:D->D->DH->R D}(h:lE K E (dOp f ta tb) σ H Q):tOp (lR2 K E f) (lE K E ta) (lE K E tb) σ H Q:=by obtain⟨a,S,G,hk,rfl,s,r,h⟩:=h;refine⟨a,S,G,hk,rfl,s,r,(Ci h).imp ?_⟩;rintro v _ ⟨b,d,G1,rfl,x,s1,q,_,h1⟩;refine⟨b,S,G1,x.k.trans hk,rfl,s1,r.mono x,(Ci h1).imp ?_⟩;rintro w _ ⟨c,e,G2,rfl,y,s2,q2,_,h2⟩;exact⟨c,G2,d,e,y.k.trans (x.k.trans hk),rfl,s2,q.mono y,q2,h2⟩
theorem Be(i:Nat){pos:Pos}(hN:X.N[i]?=xF x:=by rfl)(hv:Vis X.env.scope x:=by first|exact Or.inl rfl|exact Or.inr (Or.inl rfl)|exact Or.inr (Or.inr rfl))(hd:(x==("__debug__":Str))=xI:=by decide)
  (hcd:(x==("__classdict__":Str))=xI:=by decide):QE X E (.Name x pos) (dV i):=by
 refine(K6 hN hv hd hcd).mono λσ H Q h=>?_
 obtain⟨a,S,G,hk,rfl,s,r,h⟩:=h;unfold dV at h;split at h
 ·rename_i d e;obtain⟨v,e',q⟩:=r.get i d e;exact⟨v,e',h a v (Ext.refl a) s q⟩
 ·exact h.elim
theorem Ir{K:PySem.W.Frag}{v:V}(h:lE K E (dC d) σ H Q)(r:∀a:Wd,a.K=K->Rep a d v):Q v H:=by obtain⟨a,S,G,hk,rfl,s,_,h⟩:=h;exact h a v (Ext.refl a) s (r a hk)
theorem Xr{i:Int}:QE X E (.Constant (.int i) j pos) (dC (.int i)):=ZF7.mono λσ H Q h=>Ir h λ_ _=>rfl
theorem ZGL{i:Bool}:QE X E (.Constant (.bool i) j pos) (dC (.bl i)):=ZCm.mono λσ H Q h=>Ir h λ_ _=>rfl
theorem ZE5:QE X E (.Constant .none j pos) (dC .non):=ZFg.mono λσ H Q h=>Ir h λ_ _=>rfl
theorem ZBZ{i:Str}:QE X E (.Constant (.str i) j pos) (dC (.str i)):=Ov.mono λσ H Q h=>Ir h λ_ _=>rfl
theorem Ur{v:V}{u:jF}(hg:Gl X x)(hm:X.mg x=xF u)(r:RelV v u)(rd:∀a:Wd,a.K=X.K->Rep a d v)(hd:(x==("__debug__":Str))=xI:=by decide):QE X E (.Name x pos) (dC d):=
 (ZAN hg hm r hd).mono λσ H Q h=>Ir h rd
theorem Ku{op:Operator}{f:D->D->DH->R D}(ho:OpR X (jN op) (lR2 X.K E f))(ha:QE X E a ta)(hb:QE X E b tb):QE X E (.BinOp a op b pos) (dOp f ta tb):=
 (ZFh ho ha hb).mono λ_ _ _ h=>two h
theorem Ql{f:D->D->DH->R D}(ho:OpR X (jR op) (lR2 X.K E f))(ha:QE X E a ta)(hb:QE X E b tb)(hm:jM op b=xI):QE X E (.Compare a [op] [b] pos) (dOp f ta tb):=
 (ZDp ho ha hb hm).mono λ_ _ _ h=>two h
theorem Uo{K:PySem.W.Frag}{Q:Bool->Hp->Prop}(h:lB K E (Ai t) σ H Q):Kh (lE K E t) σ H Q:=by
 obtain⟨a,S,G,hk,rfl,s,r,h⟩:=h;refine⟨a,S,G,hk,rfl,s,r,(ZHC h).imp ?_⟩;rintro v _ ⟨b,d,G1,rfl,x,s1,q,_,h1⟩;cases d with
 |bl k=>exact⟨k,q,h1 b (Ext.refl b) s1⟩
 |_=>exact h1.elim
theorem Yl{t t':TE}(w:∀σ H Q,t' σ H Q->t σ H Q)(σ:St)(H:Hp)(Q:Bool->Hp->Prop)(h:Kh t' σ H Q):Kh t σ H Q:=w _ _ _ h
theorem Yw{f:D->D->DH->R D}(ho:OpR X (jR op) (lR2 X.K E f))(ha:QE X E a ta)(hb:QE X E b tb)(hm:jM op b=xI):QT X E (.Compare a [op] [b] pos) (Ai (dOp f ta tb)):=
 (ZCU ho ha hb hm).mono λσ H Q h=>Yl (λ_ _ _ z=>two z) σ H Q (Uo h)
theorem chain{K:PySem.W.Frag}{f g:D->D->DH->R D}(h:lE K E (Ie f g ta tb tc) σ H Q):Wb (lR2 K E f) (lR2 K E g) (lE K E ta) (lE K E tb) (lE K E tc) σ H Q:=by
 obtain⟨a,S,G,hk,rfl,s,r,h⟩:=h;refine⟨a,S,G,hk,rfl,s,r,(Ci h).imp ?_⟩;rintro v _ ⟨b,d,G1,rfl,x,s1,q,_,h1⟩;refine⟨b,S,G1,x.k.trans hk,rfl,s1,r.mono x,(Ci h1).imp ?_⟩;rintro w _ ⟨c,e,G2,rfl,y,s2,q2,_,h2⟩;refine⟨c,G2,d,e,y.k.trans (x.k.trans hk),rfl,s2,q.mono y,q2,(Ci h2).imp ?_⟩;rintro z _ ⟨c3,e3,G3,rfl,y3,s3,q3,_,h3⟩;cases e3 with
 | bl k=>
  refine⟨k,q3,?_⟩;cases k with
  |false=>exact h3 c3 (.bl xI) (Ext.refl _) s3 rfl
  |true=>
   refine⟨c3,S,G3,(y3.k.trans (y.k.trans (x.k.trans hk))),rfl,s3,((r.mono x).mono y).mono y3,(Ci h3).imp ?_⟩;rintro z4 _ ⟨c4,e4,G4,rfl,y4,s4,q4,_,h4⟩;exact⟨c4,G4,e,e4,y4.k.trans (y3.k.trans (y.k.trans (x.k.trans hk))),rfl,s4,(q2.mono y3).mono y4,q4,h4⟩
 |_=>exact h3.elim
theorem ZEh{op':CmpOp}{f g:D->D->DH->R D}(ho:OpR X (jR op) (lR2 X.K E f))(ho':OpR X (jR op') (lR2 X.K E g))(ha:QE X E a ta)(hb:QE X E b tb)(hc:QE X E c tc)
  (hm:lastMarks [op,op'] [b,c]=xI:=by with_unfolding_all rfl):QT X E (.Compare a [op,op'] [b,c] pos) (Ai (Ie f g ta tb tc)):=
 (ZG2 ho ho' ha hb hc hm).mono λσ H Q h=>Yl (λ_ _ _ z=>chain z) σ H Q (Uo h)
theorem Hz(ha:QE X E a ta)(he:∀whole,isTrue a X.env whole=(do let v<-whole;standAt a.pos;holding [v] (truthy v)):=by intro _;rfl):QT X E a (Ai ta):=
 (ZGi ha he).mono λσ H Q h=>Uo h
theorem ZHw(ha:QE X E a ta):QE X E a (G7 ta):=_L.PE.mono ha λσ H Q h=>by obtain⟨w,S,G,hk,rfl,s,r,h⟩:=h;exact⟨w,S,G,hk,rfl,s,r,Uv s h⟩
def QW(X:Cx)(E:XK)(e:j8)(t:DB):Prop:=PW X e (lB X.K E t)
theorem _root_._L.PW.mono{t t':TT}(h:PW X e t)(w:∀σ H Q,t' σ H Q->t σ H Q):PW X e t':=λwh xE s σ H Q I q=>h wh xE s σ H Q I (w σ H Q q)
variable{u t:DB}{rest:List j8}
theorem ZDm{K:PySem.W.Frag}{Q:Bool->Hp->Prop}(h:lB K E (Gs t u) σ H Q):tAnd (lB K E t) (lB K E u) σ H Q:=by
 obtain⟨a,S,G,hk,rfl,s,r,h⟩:=h;refine⟨a,S,G,hk,rfl,s,r,(Rq h).imp ?_⟩;rintro k _ ⟨b,G1,rfl,x,s1,_,h1⟩;cases k with
 |true=>exact⟨b,S,G1,x.k.trans hk,rfl,s1,r.mono x,h1⟩
 |false=>exact h1 b (Ext.refl b) s1
theorem ZCP{K:PySem.W.Frag}{Q:Bool->Hp->Prop}(h:lB K E (dOr t u) σ H Q):tOr (lB K E t) (lB K E u) σ H Q:=by
 obtain⟨a,S,G,hk,rfl,s,r,h⟩:=h;refine⟨a,S,G,hk,rfl,s,r,(Rq h).imp ?_⟩;rintro k _ ⟨b,G1,rfl,x,s1,_,h1⟩;cases k with
 |true=>exact h1 b (Ext.refl b) s1
 |false=>exact⟨b,S,G1,x.k.trans hk,rfl,s1,r.mono x,h1⟩
theorem Xz(ha:QT X E a t):QW X E (.BoolOp .And [a] pos) t:=pw_and1 ha
theorem Rx(ha:QT X E a t):QW X E (.BoolOp .Or [a] pos) t:=pw_or1 ha
theorem ZAv(ha:QT X E a t)(hb:QW X E (.BoolOp .And (b::rest) pos) u):QW X E (.BoolOp .And (a::b::rest) pos) (Gs t u):=(pw_and ha hb).mono λ_ _ _ h=>ZDm h
theorem Qj(ha:QT X E a t)(hb:QW X E (.BoolOp .Or (b::rest) pos) u):QW X E (.BoolOp .Or (a::b::rest) pos) (dOr t u):=(pw_or ha hb).mono λ_ _ _ h=>ZCP h
theorem Oc(h:QW X E a t):QT X E a t:=_L.PW.pt h
theorem Hx(ha:QT X E a t):QT X E (.UnaryOp .Not a pos) (Bw t):=(ZIF ha).mono λσ H Q h=>by obtain⟨a,S,G,hk,rfl,s,r,h⟩:=h;refine⟨a,S,G,hk,rfl,s,r,(Rq h).imp ?_⟩;rintro k _ ⟨b,G1,rfl,x,s1,_,h1⟩;exact h1 b (Ext.refl b) s1
theorem Qp{op}(h:QE X E a ta):QE X E (.BoolOp op [a] pos) ta:=ZB6 h
theorem T5(ha:QE X E a ta)(hb:QE X E (.BoolOp .And (b::rest) pos) tb):QE X E (.BoolOp .And (a::b::rest) pos) (J9 ta tb):=(ZDd ha hb).mono λσ H Q h=>by
 obtain⟨a,S,G,hk,rfl,s,r,h⟩:=h;refine⟨a,S,G,hk,rfl,s,r,(Ci h).imp ?_⟩;rintro v _ ⟨b,d,G1,rfl,x,s1,q,_,h1⟩;cases d with
 |bl k=>
  refine⟨k,q,?_⟩;cases k with
  |true=>exact⟨b,S,G1,x.k.trans hk,rfl,s1,r.mono x,h1⟩
  |false=>exact h1 b _ (Ext.refl b) s1 rfl
 |_=>exact h1.elim
theorem ZHp(ha:QE X E a ta)(hb:QE X E (.BoolOp .Or (b::rest) pos) tb):QE X E (.BoolOp .Or (a::b::rest) pos) (Og ta tb):=(ZFr ha hb).mono λσ H Q h=>by
 obtain⟨a,S,G,hk,rfl,s,r,h⟩:=h;refine⟨a,S,G,hk,rfl,s,r,(Ci h).imp ?_⟩;rintro v _ ⟨b,d,G1,rfl,x,s1,q,_,h1⟩;cases d with
 |bl k=>
  refine⟨k,q,?_⟩;cases k with
  |false=>exact⟨b,S,G1,x.k.trans hk,rfl,s1,r.mono x,h1⟩
  |true=>exact h1 b _ (Ext.refl b) s1 rfl
 |_=>exact h1.elim
theorem ZAF(ha:QE X E a ta):QE X E (.UnaryOp .Not a pos) (J8 ta):=(ZCq ha).mono λσ H Q h=>by
 obtain⟨a,S,G,hk,rfl,s,r,h⟩:=h;refine⟨a,S,G,hk,rfl,s,r,(Ci h).imp ?_⟩;rintro v _ ⟨b,d,G1,rfl,x,s1,q,_,h1⟩;cases d with
 |bl k=>exact⟨k,q,h1 b _ (Ext.refl b) s1 rfl⟩
 |_=>exact h1.elim
variable{es:List j8}{tr:DA}
theorem G8:QA X E [] Ad:=Ti.mono λσ H Q h=>by obtain⟨a,S,G,hk,rfl,s,r,h⟩:=h;exact h a [] (Ext.refl a) s rfl
noncomputable def notStar:j8->Bool
 |.Starred _ _=>xI
 |_=>xH
theorem Em(a:j8)(es:List j8)(env:Env)(h:notStar a=xH):xW (a::es) env=(xI,eval a env)::xW es env:=by
 cases a<;>first
  |exact absurd h zq
  |rfl
theorem Hi(pos:Pos)(env:Env):∀es:List j8,es.all notStar=xH->(jL pos (xW es env)).any (·.1)=xI
 |[],_=>rfl
 |a::es,h=>by
  rw[jW,zw]at h;rw[Em a es env h.1];have ih:=Hi pos env es h.2;unfold jL at ih⊢;rw[zV,List.any_cons,ih]
  rfl
theorem Bv(ha:QE X E a ta)(hr:QA X E es tr)(hs:notStar a=xH:=by rfl):QA X E (a::es) (Ab ta tr):=(Kp ha hr (Em a es X.env hs)).mono λσ H Q h=>by obtain⟨a,S,G,hk,rfl,s,r,h⟩:=h;refine⟨a,S,G,hk,rfl,s,r,(ZCl h).imp ?_⟩;rintro v _ ⟨b,d,G1,rfl,x,s1,q,_,h1⟩;refine⟨b,S,G1,x.k.trans hk,rfl,s1,r.mono x,(ZGC h1).imp ?_⟩;rintro vs _ ⟨c,ds,G2,rfl,y,s2,q2,_,h2⟩;exact h2 c _ (Ext.refl c) s2 (Reps.cons (q.mono y) q2)
theorem ZCK{x1}(h:QA X E es tr):QE X E (.Tuple es x1 pos) (dFn Ec tr):=(ZGx h).mono λσ H Q h=>by
 obtain⟨a,S,G,hk,rfl,s,r,h⟩:=h;refine⟨a,S,G,hk,rfl,s,r,(Le h).imp ?_⟩;rintro vs _ ⟨b,ds,G1,rfl,x,s1,q,_,h1⟩;unfold Ec at h1;split at h1
 ·rename_i hl;refine⟨by rw[<-q.length];exact zx hl size6,λp hp=>?_⟩;exact h1 (b.put p (.tup vs)) (.ref p) (Ext.put hp) (s1.put hp) ⟨p,vs,rfl,.of En,q.mono (Ext.put hp)⟩
 ·exact h1.elim
theorem Kl(h:QA X E es tr):QE X E (.List es pos) (dFn Ah tr):=(ZGj h).mono λσ H Q h=>by
 obtain⟨a,S,G,hk,rfl,s,r,h⟩:=h;refine⟨a,S,G,hk,rfl,s,r,(Le h).imp ?_⟩;rintro vs _ ⟨b,ds,G1,rfl,x,s1,q,_,h1⟩;unfold Ah at h1;split at h1
 ·rename_i hl;refine⟨by rw[<-q.length];exact zx hl size6,λp hp=>?_⟩;refine h1 (b.push p (.lst vs)) (.ref p) (Ext.push hp) (s1.push hp ⟨vs,rfl,q.mono (Ext.push hp)⟩) ⟨?_,?_⟩
  ·rw[s1.len];exact zP _
  ·rw[s1.len];show V.ref p=.ref (if b.n=b.n then p else b.m b.n);rw[if_pos rfl]
 ·exact h1.elim
variable{e:j8}{x:Str}{p:Pos}
theorem Kw{K:PySem.W.Frag}{f:List D->DH->R D}(h:lE K E (dFn f tr) σ H Q):lA K E tr σ H (λvs H1=>lRn K E f vs H1 Q):=by obtain⟨a,S,G,hk,rfl,s,r,h⟩:=h;refine⟨a,S,G,hk,rfl,s,r,(Le h).imp ?_⟩;rintro vs _ ⟨b,ds,G1,rfl,x,s1,q,_,h1⟩;exact⟨b,G1,ds,x.k.trans hk,rfl,s1,q,h1⟩
theorem ZAl{id:String}{f:List D->DH->R D}(hc:CallR X (.builtin id) (lRn X.K E f))(hg:Gl X x)(hm:X.mg x=xG)(hv:jO x=xF (.builtin id))(ha:QA X E (e::es) tr)(hn:x≠"__name__":=by decide)(hdb:(x==("__debug__":Str))=xI:=by decide)
  (he:notStar e=xH:=by rfl) (hpl:es.all notStar=xH:=by rfl):QE X E (.Call (.Name x p) (e::es) [] pos) (dFn f tr):=
 (ZBl hc hg hm hv ha hn hdb (Em e es X.env he) (Hi pos X.env es hpl)).mono λσ H Q h=>Kw h
theorem Tz{id:String}{f:List D->DH->R D}(hc:CallR X (.type id) (lRn X.K E f))(hg:Gl X x)(hm:X.mg x=xG)(hv:jO x=xF (.type id))(ha:QA X E (e::es) tr)(hn:x≠"__name__":=by decide)(hdb:(x==("__debug__":Str))=xI:=by decide)
  (he:notStar e=xH:=by rfl) (hpl:es.all notStar=xH:=by rfl):QE X E (.Call (.Name x p) (e::es) [] pos) (dFn f tr):=
 (ZGk hc hg hm hv ha hn hdb (Em e es X.env he) (Hi pos X.env es hpl)).mono λσ H Q h=>Kw h
theorem ZDU{CX:CXT}{f:j6}{fd:j9}{ps:List Str}{F:List D->DH->R D}(FF:FnOk X.prog X.w X.K X.mg X.base CX k f fd ps (lF X.K F))(hr:Room k X.A)(hg:Gl X x)(hm:X.mg x=xF (.ref f))(hk:PySem.W.keepIn X.K (.ref f)=xH)(hb:Binds X.K fd ps [])
  (hx:Passes CX X E0) (ha:QA X E0 (e::es) tr) (hdb:(x==("__debug__":Str))=xI:=by decide) (he:notStar e=xH:=by rfl) (hpl:es.all notStar=xH:=by rfl):
  QE X E0 (.Call (.Name x p) (e::es) [] pos) (dFn F tr):=
 (Pz FF hr hg hm hk hb .nil hx ha hdb (Em e es X.env he) (Hi pos X.env es hpl)).mono λσ H Q h=>by obtain⟨a,S,G,hk,rfl,s,r,h⟩:=Kw h;refine⟨a,S,G,hk,rfl,s,r,h.imp ?_⟩;rintro vs _ ⟨b,G1,ds,hk,rfl,s1,q,h1⟩;exact⟨b,G1,ds,hk,rfl,s1,by rw[qQ];exact q,h1⟩
theorem ZBx{f:D->D->DH->R D}(hr:IxR X (lR2 X.K E f))(ha:QE X E a ta)(hb:QE X E b tb)(hs:PlainIx b:=by intro _ _;rfl):QE X E (.Subscript a b pos) (dOp f ta tb):=
 (ZEa hr ha hb hs).mono λ_ _ _ h=>two h
end
noncomputable instance (i j:Int):Decidable (CMul i j):=by unfold CMul;infer_instance
noncomputable instance (i j:Int):Decidable (CPow i j):=by unfold CPow;infer_instance
def CDivL(j:Int):Prop:=0<j/\j.natAbs.log2<9000
noncomputable instance (j:Int):Decidable (CDivL j):=by unfold CDivL;infer_instance
def Jk:D->D->DH->R D
 |.int i,.int j,G=>.ok (.int (i-j)) G
 |_,_,_=>.bad
def Ex:D->D->DH->R D
 |.int i,.int j,G=>if CDivL j then .ok (.int (i/j)) G else .bad
 |_,_,_=>.bad
def Bf:D->D->DH->R D
 |.int i,.int j,G=>if 0<j then .ok (.int (i%j)) G else .bad
 |_,_,_=>.bad
def Fp:D->D->DH->R D
 |.int i,.int j,G=>if CPow i j then .ok (.int (i^j.toNat)) G else .bad
 |_,_,_=>.bad
def Ep:D->D->DH->R D
 |.int i,.int j,G=>.ok (.bl (decide (i<j))) G
 |.str i,.str j,G=>.ok (.bl (decide (i.cps.toList<j.cps.toList))) G
 |_,_,_=>.bad
def Es:D->D->DH->R D
 |.int i,.int j,G=>.ok (.bl (decide (i<=j))) G
 |.str i,.str j,G=>.ok (.bl (!decide (j.cps.toList<i.cps.toList))) G
 |_,_,_=>.bad
def K5:D->D->DH->R D
 |.int i,.int j,G=>.ok (.bl (decide (j<i))) G
 |.str i,.str j,G=>.ok (.bl (decide (j.cps.toList<i.cps.toList))) G
 |_,_,_=>.bad
def Mu:D->D->DH->R D
 |.int i,.int j,G=>.ok (.bl (decide (j<=i))) G
 |.str i,.str j,G=>.ok (.bl (!decide (i.cps.toList<j.cps.toList))) G
 |_,_,_=>.bad
noncomputable def Gu(d:D)(G:DH):Option (List D):=match d with
 |.fl xs=>xF xs
 |.ref i=>match G[i]? with
  |some (.lst xs)=>xF xs
  |_=>xG
 |_=>xG
def Ag:D->D->DH->R D
 |.int i,.int j,G=>.ok (.int (i+j)) G
 |.str i,.str j,G=>if i.length+j.length<=1000000 then .ok (.str (i++j)) G else .bad
 |.tup xs,.tup ys,G=>if xs≠[]/\xs.length+ys.length<=1000000 then .ok (.tup (xs++ys)) G else .bad
 |d,e,G=>match Gu d G,Gu e G with
  |some xs,xF ys=>if xs.length+ys.length<=1000000 then .ok (.ref G.length) (G++[.lst (xs++ys)])else .bad
  |_,_=>.bad
section
variable{X:Cx}{E:XK}
theorem Cz{f:jF->jF->Sem jF}{r:R2}{F:D->D->DH->R D}(ho:OpR X f r)
  (h:∀(a:Wd)(G:DH)(d e:D)(x y:V)(Q:VK),a.K=X.K->Sim a G->Rep a d x->Rep a e y->out E a (F d e G) Q->r x y a.H Q):OpR X f (lR2 X.K E F):=
 ho.mono λx y H Q ⟨a,G,d,e,hk,hH,s,rd,re,q⟩=>by subst hH;exact h a G d e x y Q hk s rd re q
theorem ZH5:OpR X (jN .Sub) (lR2 X.K E Jk):=Cz ZDS λa G d e x y Q hk s rd re q=>by
 cases d<;>cases e<;>first
  |exact q.elim
  |exact⟨_,_,rd,re,q a _ (Ext.refl a) s rfl⟩
theorem ZCs:OpR X (jN .FloorDiv) (rI (λ_ j=>CDivL j) λi j=>.int (i/j)):=opI λi j _ _ _ _ _ hc q=>by have e:i.fdiv j=i/j:=Int.fdiv_eq_ediv_of_nonneg _ (Int.le_of_lt hc.1);refine floordiv_int (by have:=hc.1;lia) (by rw[e];exact q) (.inl (PyProof.noPylong_of_log2 hc.2))
theorem ZDk:OpR X (jN .FloorDiv) (lR2 X.K E Ex):=Cz ZCs λa G d e x y Q hk s rd re q=>by
 cases d<;>cases e<;>first
  |exact q.elim
  | (
    rename_i i j;unfold Ex at q;dsimp only at q;split at q
    ·exact⟨_,_,rd,re,by assumption,q a _ (Ext.refl a) s rfl⟩
    ·exact q.elim)
theorem ZCS:OpR X (jN .Mod) (lR2 X.K E Bf):=Cz ZDB λa G d e x y Q hk s rd re q=>by
 cases d<;>cases e<;>first
  |exact q.elim
  | (
    rename_i i j;unfold Bf at q;dsimp only at q;split at q
    ·exact⟨_,_,rd,re,by assumption,q a _ (Ext.refl a) s rfl⟩
    ·exact q.elim)
theorem ZFD:OpR X (jN .Pow) (lR2 X.K E Fp):=Cz ZHZ λa G d e x y Q hk s rd re q=>by
 cases d<;>cases e<;>first
  |exact q.elim
  | (
    rename_i i j;unfold Fp at q;dsimp only at q;split at q
    ·exact⟨_,_,rd,re,by assumption,q a _ (Ext.refl a) s rfl⟩
    ·exact q.elim)
theorem o_lt:OpR X (jR .Lt) (lR2 X.K E Ep):=Cz (ZFe.or ZFA) λa G d e x y Q hk s rd re q=>by
 cases d<;>cases e<;>first
  |exact q.elim
  |exact .inl ⟨_,_,rd,re,q a _ (Ext.refl a) s rfl⟩
  |exact .inr ⟨_,_,rd,re,q a _ (Ext.refl a) s rfl⟩
theorem ZDM:OpR X (jR .LtE) (λx y H Q=>∃i j,x=.str i/\y=.str j/\Q (.bl (!decide (j.cps.toList<i.cps.toList))) H):=by intro xE s σ H x y v u Q I rx ry h;obtain⟨i,j,rfl,rfl,q⟩:=h;obtain⟨t,rfl⟩:=rx;obtain⟨t',rfl⟩:=ry;exact PySem.P.le_str ⟨.bl _,H,I,rfl,q⟩
theorem ZHu:OpR X (jR .Gt) (λx y H Q=>∃i j,x=.str i/\y=.str j/\Q (.bl (decide (j.cps.toList<i.cps.toList))) H):=by intro xE s σ H x y v u Q I rx ry h;obtain⟨i,j,rfl,rfl,q⟩:=h;obtain⟨t,rfl⟩:=rx;obtain⟨t',rfl⟩:=ry;exact PySem.P.gt_str ⟨.bl _,H,I,rfl,q⟩
theorem ZCw:OpR X (jR .GtE) (λx y H Q=>∃i j,x=.str i/\y=.str j/\Q (.bl (!decide (i.cps.toList<j.cps.toList))) H):=by intro xE s σ H x y v u Q I rx ry h;obtain⟨i,j,rfl,rfl,q⟩:=h;obtain⟨t,rfl⟩:=rx;obtain⟨t',rfl⟩:=ry;exact PySem.P.ge_str ⟨.bl _,H,I,rfl,q⟩
theorem o_le:OpR X (jR .LtE) (lR2 X.K E Es):=Cz (ZIa.or ZDM) λa G d e x y Q hk s rd re q=>by
 cases d<;>cases e<;>first
  |exact q.elim
  |exact .inl ⟨_,_,rd,re,q a _ (Ext.refl a) s rfl⟩
  |exact .inr ⟨_,_,rd,re,q a _ (Ext.refl a) s rfl⟩
theorem o_gt:OpR X (jR .Gt) (lR2 X.K E K5):=Cz (ZEu.or ZHu) λa G d e x y Q hk s rd re q=>by
 cases d<;>cases e<;>first
  |exact q.elim
  |exact .inl ⟨_,_,rd,re,q a _ (Ext.refl a) s rfl⟩
  |exact .inr ⟨_,_,rd,re,q a _ (Ext.refl a) s rfl⟩
theorem o_ge:OpR X (jR .GtE) (lR2 X.K E Mu):=Cz (ZCR.or ZCw) λa G d e x y Q hk s rd re q=>by
 cases d<;>cases e<;>first
  |exact q.elim
  |exact .inl ⟨_,_,rd,re,q a _ (Ext.refl a) s rfl⟩
  |exact .inr ⟨_,_,rd,re,q a _ (Ext.refl a) s rfl⟩
theorem Sim.lst(s:Sim a G)(h:G[i]?=xF (.lst xs)):∃vs,a.H (a.m i)=xF (.lst vs)/\Reps a xs vs:=s.obj i _ h
theorem Ka(s:Sim a G)(r:Reps a ds vs)(h:out E a (.ok (.ref G.length) (G++[.lst ds])) Q)(p:j6)(hp:a.H p=xG):Q (.ref p) (upd a.H p (.lst vs)):=by
 refine h (a.push p (.lst vs)) (.ref p) (Ext.push hp) (s.push hp ⟨vs,rfl,r.mono (Ext.push hp)⟩) ⟨?_,?_⟩
 ·rw[s.len];exact zP _
 ·rw[s.len];show V.ref p=.ref (if a.n=a.n then p else a.m a.n);rw[if_pos rfl]
theorem Oe(s:Sim a G)(r:Reps a ds vs)(h:out E a (.ok (.tup ds) G) Q)(p:j6)(hp:a.H p=xG):Q (.ref p) (upd a.H p (.tup vs)):=
 h (a.put p (.tup vs)) (.ref p) (Ext.put hp) (s.put hp) ⟨p,vs,rfl,.of En,r.mono (Ext.put hp)⟩
theorem T4{x:V}(s:Sim a G)(r:Rep a d x)(h:Gu d G=xF xs):∃p vs,x=.ref p/\SqL a.K a.H p vs/\Reps a xs vs:=by
 cases d with
 |fl ys=>
  have e:ys=xs:=Option.some.inj h;subst e;obtain⟨p,vs,e,q,rr⟩:=r;exact⟨p,vs,e,q.sq,rr⟩
 |ref i=>
  unfold Gu at h;dsimp only at h;split at h
  ·rename_i ys hi;have e:ys=xs:=Option.some.inj h;subst e;obtain⟨vs,e1,r1⟩:=s.lst hi;exact⟨a.m i,vs,r.2,.of e1,r1⟩
  ·cases h
 |_=>cases h
def Vu(K:PySem.W.Frag):R2:=λx y H Q=>∃l b xs zs,x=.ref l/\y=.ref b/\SqL K H l xs/\SqL K H b zs/\xs.length+zs.length<=sizeLine/\∀p,H p=xG->Q (.ref p) (upd H p (.lst (xs++zs)))
theorem ZGP:OpR X (jN .Add) (Vu X.K):=by
 intro xE s σ H x y v u Q I rx ry h;obtain⟨l,b,xs,zs,rfl,rfl,hH,hB,hz,q⟩:=h;cases rx;cases ry;obtain⟨its,r,p1,_⟩:=I.list hH;obtain⟨its2,r2,p2,_⟩:=I.list hB;obtain⟨⟨cls,dd,data,sl⟩,n,ho,hc,_,hd⟩:=p1;obtain⟨⟨cls2,dd2,data2,sl2⟩,n2,ho2,hc2,_,hd2⟩:=p2;cases hc;cases hd;cases hc2;cases hd2;have hl:=r.length;have hl2:=r2.length;refine concat_meets ⟨_,ho,rfl⟩ ⟨_,ho2,rfl⟩ noFill_list_add seq_list_add PySem.F.slot_list_add PySem.F.entry_list_add (PySem.F.args_list_add_2 _ _) (list_addW l b its.toArray its2.toArray n n2 dd dd2 sl sl2 (by rw[zY,zY];lia)) ⟨ho,ho2,?_⟩
 have ea:its.toArray++its2.toArray=(its++its2).toArray:=by simp
 rw[ea];exact⟨.ref _,_,I.lnew (t':=s.toks) (r.append r2) (by rw[zK];lia),rfl,q _ I.fresh⟩
theorem M4:OpR X (jN .Add) (lR2 X.K E Ag):=Cz (ZEq.or (ZC3.or (ZGP.or ZID))) λa G d e x y Q hk s rd re q=>by
 have lst:out E a (match Gu d G,Gu e G with
  |some xs,xF ys=>if xs.length+ys.length<=1000000 then .ok (.ref G.length) (G++[.lst (xs++ys)])else .bad
  |_,_=>.bad) Q->Vu X.K x y a.H Q:=λq=>by
  split at q
  ·rename_i xs ys h1 h2;split at q
   ·rename_i hl;obtain⟨p,vs,e1,q1,r1⟩:=T4 s rd h1;obtain⟨p',vs',e2,q2,r2⟩:=T4 s re h2;rw[hk]at q1 q2;exact⟨p,p',vs,vs',e1,e2,q1,q2,by rw[<-r1.length,<-r2.length];exact zx hl size6,λp hp=>Ka s (r1.append r2) q p hp⟩
   ·exact q.elim
  ·exact q.elim
 have L:=λq=>Or.inr (a:=rI0 (λi j=>V.int (i+j)) x y a.H Q) (Or.inr (a:=∃i j,x=.str i/\y=.str j/\i.length+j.length<=sizeLine/\Q (.str (i++j)) a.H) (Or.inl (b:=ZA6 X.K x y a.H Q) (lst q)))
 cases d<;>cases e<;>first
  |exact .inl ⟨_,_,rd,re,q a _ (Ext.refl a) s rfl⟩
  |exact L q
  |skip
 ·rename_i i j;unfold Ag at q;dsimp only at q;split at q
  ·rename_i hl;exact .inr (.inl ⟨_,_,rd,re,zx hl size6,q a _ (Ext.refl a) s rfl⟩)
  ·exact q.elim
 ·rename_i xs ys;unfold Ag at q;dsimp only at q;split at q
  ·rename_i hl;obtain⟨p,vs,e1,h1,r1⟩:=rd;obtain⟨p',vs',e2,h2,r2⟩:=re;rw[hk]at h1 h2;refine .inr (.inr (.inr ⟨p,p',vs,vs',e1,e2,h1,h2,λz=>hl.1 (List.eq_nil_of_length_eq_zero (by rw[r1.length,z];rfl)),by rw[<-r1.length,<-r2.length];exact zx hl.2 size6,λz=>?_,λ_ p0 hp=>?_⟩))
   ·refine q a (.ref p) (Ext.refl a) s ⟨p,vs,rfl,by rw[hk];exact h1,?_⟩;have e3:ys=[]:=List.eq_nil_of_length_eq_zero (by rw[r2.length,z];rfl);rw[e3,qQ];exact r1
   ·exact Oe s (r1.append r2) q p0 hp
  ·exact q.elim
inductive VD where
 |flat (v:V)
 |lst (xs:List D)
 |tup (xs:List D)
 |bad
def view(G:DH):D->VD
 |.non=>.flat .non
 |.bl b=>.flat (.bl b)
 |.int i=>.flat (.int i)
 |.str x=>.flat (.str x)
 |.ty _=>.bad
 |.tup xs=>.tup xs
 |.fl xs=>.lst xs
 |.ref i=>match G[i]? with
  |some (.lst xs)=>.lst xs
  |_=>.bad
noncomputable def eqZ(f:D->D->Option Bool):List D->List D->Option Bool
 |x::xs,y::ys=>match f x y,eqZ f xs ys with
  |some a,xF b=>xF (a&&b)
  |_,_=>xG
 |_,_=>xF xH
def eqD:Nat->DH->D->D->Option Bool
 |0=>λ_ _ _=>xG
 | n+1=>λG d e=>match view G d,view G e with
  |.flat a,.flat b=>xF (eqV a b)
  |.lst xs,.lst ys=>if xs.length=ys.length then eqZ (eqD n G) xs ys else xF xI
  |.tup xs,.tup ys=>match eqZ (eqD n G) xs ys with
   |some b=>xF (b&&xs.length==ys.length)
   |none=>xG
  |.bad,_=>xG
  |_,.bad=>xG
  |_,_=>xF xI
theorem Mx{f:D->D->Option Bool}:∀{xs ys:List D}{k:Bool},eqZ f xs ys=xF k->∃e:Nat->Bool,(∀(j:Nat)(x y:D),xs[j]?=xF x->ys[j]?=xF y->f x y=xF (e j))/\k=(qK (min xs.length ys.length)).all e
 | [],ys,k,h=>⟨λ_=>xH,λj x y e1 _=>by simp at e1,by
   have h':xF xH=xF k:=by cases ys<;>exact h
   cases h';simp⟩
 |x::xs,[],k,h=>⟨λ_=>xH,λj x y _ e1=>by simp at e1,by have h':xF xH=xF k:=h;cases h';simp⟩
 | x::xs,y::ys,k,h=>by
  unfold eqZ at h;split at h
  ·rename_i a b h1 h2;obtain⟨e,he,hk⟩:=Mx h2;have h':(a&&b)=k:=Option.some.inj h
   refine⟨λj=>match j with |0=>a|j+1=>e j,λj x' y' e1 e2=>?_,?_⟩
   ·cases j with
    |zero=>simp at e1 e2;subst e1;subst e2;exact h1
    |succ j=>exact he j x' y' (by simpa using e1) (by simpa using e2)
   ·rw[<-h',hk];have:min (x::xs).length (y::ys).length=min xs.length ys.length+1:=by simp only[zz];lia
    rw[this,jw,jW,List.all_map]
    rfl
  ·cases h
theorem Oz(s:Sim a G){x:V}(r:Rep a d x):match view G d with
  |.flat v=>x=v/\Bt v=xH
  |.lst xs=>∃p vs,x=.ref p/\SqL a.K a.H p vs/\Reps a xs vs
  |.tup xs=>∃p vs,x=.ref p/\SqT a.K a.H p vs/\Reps a xs vs
  |.bad=>True:=by
 cases d with
 |non=>exact⟨r,rfl⟩
 |bl b=>exact⟨r,rfl⟩
 |int b=>exact⟨r,rfl⟩
 |str b=>exact⟨r,rfl⟩
 |ty n=>trivial
 |tup xs=>
  obtain⟨p,vs,e,h,q⟩:=r;exact⟨p,vs,e,h,q⟩
 |fl xs=>
  obtain⟨p,vs,e,h,q⟩:=r;exact⟨p,vs,e,h.sq,q⟩
 | ref i=>
  unfold view;dsimp only;split
  ·rename_i v hv
   split at hv<;>cases hv
  ·rename_i xs hv;split at hv
   ·rename_i ys hi;cases hv;obtain⟨vs,e1,r1⟩:=s.lst hi;exact⟨a.m i,vs,r.2,.of e1,r1⟩
   ·cases hv
  ·rename_i xs hv
   split at hv<;>cases hv
  ·trivial
theorem ZGv{x:V}{u v:jF}(ry:RelV y u)(rx:RelV x v)(fy:Bt y=xH)(fx:Bt x=xH):SeqAt.RcAt A s u v (eqV y x):=by
 cases y with
 |non=>
  cases ry;cases x with
  |non=>cases rx;exact SeqAt.RcAt.none_none
  |bl b=>cases rx;exact SeqAt.RcAt.none_bool b
  |int b=>obtain⟨t,rfl⟩:=rx;exact SeqAt.RcAt.none_int b t
  |str b=>obtain⟨t,rfl⟩:=rx;exact SeqAt.RcAt.none_str b t
  |_=>exact absurd (show xI=xH from fx) zq
 |bl a=>
  cases ry;cases x with
  |non=>cases rx;exact SeqAt.RcAt.bool_none a
  |bl b=>cases rx;exact SeqAt.RcAt.bool_bool a b
  |int b=>obtain⟨t,rfl⟩:=rx;exact SeqAt.RcAt.bool_int a b t
  |str b=>obtain⟨t,rfl⟩:=rx;exact SeqAt.RcAt.bool_str a b t
  |_=>exact absurd (show xI=xH from fx) zq
 |int a=>
  obtain⟨t',rfl⟩:=ry;cases x with
  |non=>cases rx;exact SeqAt.RcAt.int_none a t'
  |bl b=>cases rx;exact SeqAt.RcAt.int_bool a t' b
  |int b=>obtain⟨t,rfl⟩:=rx;exact SeqAt.RcAt.int_int a t' b t
  |str b=>obtain⟨t,rfl⟩:=rx;exact SeqAt.RcAt.int_str a t' b t
  |_=>exact absurd (show xI=xH from fx) zq
 |str a=>
  obtain⟨t',rfl⟩:=ry;cases x with
  |non=>cases rx;exact SeqAt.RcAt.str_none a t'
  |bl b=>cases rx;exact SeqAt.RcAt.str_bool a t' b
  |int b=>obtain⟨t,rfl⟩:=rx;exact SeqAt.RcAt.str_int a t' b t
  |str b=>obtain⟨t,rfl⟩:=rx;exact SeqAt.RcAt.str_str a t' b t
  |_=>exact absurd (show xI=xH from fx) zq
 |_=>exact absurd (show xI=xH from fy) zq
theorem ZD5{x:V}{u v:jF}(ry:RelV y u)(rx:RelV x v)(fy:Bt y=xH)(fx:Bt x=xH):SeqAt.RcNeAt A s u v (!eqV y x):=by
 cases y with
 |non=>
  cases ry;cases x with
  |non=>cases rx;exact SeqAt.RcNeAt.none_none
  |bl b=>cases rx;exact SeqAt.RcNeAt.none_bool b
  |int b=>obtain⟨t,rfl⟩:=rx;exact SeqAt.RcNeAt.none_int b t
  |str b=>obtain⟨t,rfl⟩:=rx;exact SeqAt.RcNeAt.none_str b t
  |_=>exact absurd (show xI=xH from fx) zq
 |bl a=>
  cases ry;cases x with
  |non=>cases rx;exact SeqAt.RcNeAt.bool_none a
  |bl b=>cases rx;exact SeqAt.RcNeAt.bool_bool a b
  |int b=>obtain⟨t,rfl⟩:=rx;exact SeqAt.RcNeAt.bool_int a b t
  |str b=>obtain⟨t,rfl⟩:=rx;exact SeqAt.RcNeAt.bool_str a b t
  |_=>exact absurd (show xI=xH from fx) zq
 |int a=>
  obtain⟨t',rfl⟩:=ry;cases x with
  |non=>cases rx;exact SeqAt.RcNeAt.int_none a t'
  |bl b=>cases rx;exact SeqAt.RcNeAt.int_bool a t' b
  |int b=>obtain⟨t,rfl⟩:=rx;exact SeqAt.RcNeAt.int_int a t' b t
  |str b=>obtain⟨t,rfl⟩:=rx;exact SeqAt.RcNeAt.int_str a t' b t
  |_=>exact absurd (show xI=xH from fx) zq
 |str a=>
  obtain⟨t',rfl⟩:=ry;cases x with
  |non=>cases rx;exact SeqAt.RcNeAt.str_none a t'
  |bl b=>cases rx;exact SeqAt.RcNeAt.str_bool a t' b
  |int b=>obtain⟨t,rfl⟩:=rx;exact SeqAt.RcNeAt.str_int a t' b t
  |str b=>obtain⟨t,rfl⟩:=rx;exact SeqAt.RcNeAt.str_str a t' b t
  |_=>exact absurd (show xI=xH from fx) zq
 |_=>exact absurd (show xI=xH from fy) zq
end
section
variable{X:Cx}{E:XK}{xE:List (j6×Obj)}{σ:St}{s:jD}
theorem ZGJ(v:V)(h:Bt v=xH):eqV v v=xH:=by cases v<;>first|rfl|exact absurd (show xI=xH from h) zq|(simp[eqV])
theorem ZAR(I:Inv X xE σ a.H s)(hk:a.K=X.K)(sm:Sim a G):∀(n:Nat){d e:D}{x:V}{k:Bool},Rep a d x->Rep a e x->eqD n G d e=xF k->k=xH
 |0,_,_,_,_,_,_,h=>by cases h
 | n+1,d,e,x,k,rd,re,h=>by
  have vd:=Oz sm rd;have ve:=Oz sm re;have items:∀{xs ys:List D}{vs:List V}{b:Bool},Reps a xs vs->Reps a ys vs->eqZ (eqD n G) xs ys=xF b->b=xH:=λ{xs ys vs b}r1 r2 hz=>by obtain⟨f,hf,hb⟩:=Mx hz;rw[hb,qA];intro j hj;have hj':j<min xs.length ys.length:=qM.mp hj;have h1:xs[j]?=xF (xs[j]'(by lia)):=zk (by lia);have h2:ys[j]?=xF (ys[j]'(by lia)):=zk (by lia);obtain⟨v1,e1,q1⟩:=r1.get h1;obtain⟨v2,e2,q2⟩:=r2.get h2;rw[e1]at e2;cases e2;exact ZAR I hk sm n q1 q2 (hf j _ _ h1 h2)
  unfold eqD at h
  try dsimp only at h
  revert h vd ve
  cases view G d<;>cases view G e<;>intro vd ve h<;>dsimp only at h vd ve<;>first
   |cases h
   |skip
  ·
   rename_i v w;obtain⟨rfl,f1⟩:=vd;obtain⟨rfl,f2⟩:=ve;exact ZGJ _ f1
  ·obtain⟨rfl,f1⟩:=vd;obtain⟨p,vs,e1,_⟩:=ve;subst e1;cases f1
  ·obtain⟨rfl,f1⟩:=vd;obtain⟨p,vs,e1,_⟩:=ve;subst e1;cases f1
  ·obtain⟨rfl,f1⟩:=ve;obtain⟨p,vs,e1,_⟩:=vd;subst e1;cases f1
  ·obtain⟨p,vs,e1,h1,r1⟩:=vd;obtain⟨p',vs',e2,h2,r2⟩:=ve;rw[e1]at e2;cases e2;rw[hk]at h1 h2;cases I.ZA9 h1 h2;split at h
   ·exact items r1 r2 h
   ·rename_i hl;exact absurd (r1.length.trans r2.length.symm) hl
  ·obtain⟨p,vs,e1,h1,r1⟩:=vd;obtain⟨p',vs',e2,h2,r2⟩:=ve;rw[e1]at e2;cases e2;rw[hk]at h1 h2;obtain⟨_,_,pl,_⟩:=I.list h1;obtain⟨_,_,pt,_⟩:=I.tuple h2;exact absurd rfl (SeqAt.ne_of_list_tuple pl.isList pt)
  ·obtain⟨rfl,f1⟩:=ve;obtain⟨p,vs,e1,_⟩:=vd;subst e1;cases f1
  ·obtain⟨p,vs,e1,h1,r1⟩:=vd;obtain⟨p',vs',e2,h2,r2⟩:=ve;rw[e1]at e2;cases e2;rw[hk]at h1 h2;obtain⟨_,_,pl,_⟩:=I.list h2;obtain⟨_,_,pt,_⟩:=I.tuple h1;exact absurd rfl (SeqAt.ne_of_list_tuple pl.isList pt)
  ·obtain⟨p,vs,e1,h1,r1⟩:=vd;obtain⟨p',vs',e2,h2,r2⟩:=ve;rw[e1]at e2;cases e2;rw[hk]at h1 h2;cases I.Wg h1 h2;split at h
   ·rename_i b hz;have h':(b&&_)=k:=Option.some.inj h;rw[<-h',items r1 r2 hz,r1.length,r2.length];simp
   ·cases h
theorem My{its:List jF}(r:Reps a xs vs)(q:Vals vs its)(h:j<its.toArray.size):∃d v,xs[j]?=xF d/\Rep a d v/\RelV v its.toArray[j]:=by
 have hl:j<its.length:=by simpa using h
 have h2:j<vs.length:=by rw[q.length];exact hl
 obtain⟨v,e1⟩:∃v,vs[j]?=xF v:=⟨vs[j],zk h2⟩;obtain⟨d,e2,rd⟩:=r.get' e1;obtain⟨u,e3,ru⟩:=q.get e1;have e4:u=its.toArray[j]:=by have:its[j]?=xF its[j]:=zk hl;rw[this]at e3;simpa using(Option.some.inj e3).symm
 exact⟨d,v,e2,rd,by rw[<-e4];exact ru⟩
theorem N7(I:Inv X xE σ a.H s)(hk:a.K=X.K)(sm:Sim a G):∀(n:Nat){A:j7}{d e:D}{x y:V}{u w:jF}{k:Bool},A.units+n<cLine->Rep a d x->Rep a e y->RelV x u->RelV y w->eqD n G d e=xF k->
  SeqAt.EqAt A s u w k/\SeqAt.RcAt A s u w k/\SeqAt.RcNeAt A s u w (!k)
 |0,_,_,_,_,_,_,_,_,_,_,_,_,_,h=>by cases h
 | n + 1,A,d,e,x,y,u,w,k,hu,rd,re,ru,rw',h=>by
  have vd:=Oz sm rd;have ve:=Oz sm re;have hu1:A.units<cLine:=by lia
  have hu2:A.in1.units+n<cLine:=by show A.units+1+n<cLine;lia
  have same:∀{z:V},Rep a d z->Rep a e z->eqD (n+1) G d e=xF k->k=xH:=λr1 r2 r3=>ZAR I hk sm (n+1) r1 r2 r3
  have h0:=h;unfold eqD at h
  try dsimp only at h
  have refs:∀{p q:j6}{k:Bool},(p=q->k=xH)->SeqAt.RcAt A s (.ref p) (.ref q) k->SeqAt.EqAt A s (.ref p) (.ref q) k:=λ{p q k}hs hr=>by
   by_cases e:p=q
   ·rw[hs e,e];exact SeqAt.EqAt.same _
   ·exact SeqAt.EqAt.of_refs e hr
  revert h vd ve
  cases hvd:view G d<;>cases hve:view G e<;>intro vd ve h<;>dsimp only at h vd ve<;>first
   |cases h
   |skip
  ·
   obtain⟨rfl,f1⟩:=vd;obtain⟨rfl,f2⟩:=ve;exact⟨ZAh ru rw' f1 f2,ZGv ru rw' f1 f2,ZD5 ru rw' f1 f2⟩
  ·
   obtain⟨rfl,f1⟩:=vd;obtain⟨q,vs,rfl,h2,r2⟩:=ve;cases rw';rw[hk]at h2;obtain⟨its,qv,pl,_⟩:=I.list h2;cases x with
   |non=>cases ru;exact⟨SeqAt.EqAt.none_list pl.isList hu1,SeqAt.RcAt.none_list pl.isList hu1,SeqAt.RcNeAt.none_list pl.isList hu1⟩
   |bl b=>cases ru;exact⟨SeqAt.EqAt.bool_list b pl.isList hu1,SeqAt.RcAt.bool_list b pl.isList hu1,SeqAt.RcNeAt.bool_list b pl.isList hu1⟩
   |int b=>obtain⟨t,rfl⟩:=ru;exact⟨SeqAt.EqAt.int_list b t pl.isList hu1,SeqAt.RcAt.int_list b t pl.isList hu1,SeqAt.RcNeAt.int_list b t pl.isList hu1⟩
   |str b=>obtain⟨t,rfl⟩:=ru;exact⟨SeqAt.EqAt.str_list b t pl.isList hu1,SeqAt.RcAt.str_list b t pl.isList hu1,SeqAt.RcNeAt.str_list b t pl.isList hu1⟩
   |_=>exact absurd (show xI=xH from f1) zq
  ·
   obtain⟨rfl,f1⟩:=vd;obtain⟨q,vs,rfl,h2,r2⟩:=ve;cases rw';rw[hk]at h2;obtain⟨its,qv,pl,_⟩:=I.tuple h2;cases x with
   |non=>cases ru;exact⟨SeqAt.EqAt.none_tuple pl hu1,SeqAt.RcAt.none_tuple pl hu1,SeqAt.RcNeAt.none_tuple pl hu1⟩
   |bl b=>cases ru;exact⟨SeqAt.EqAt.bool_tuple b pl hu1,SeqAt.RcAt.bool_tuple b pl hu1,SeqAt.RcNeAt.bool_tuple b pl hu1⟩
   |int b=>obtain⟨t,rfl⟩:=ru;exact⟨SeqAt.EqAt.int_tuple b t pl hu1,SeqAt.RcAt.int_tuple b t pl hu1,SeqAt.RcNeAt.int_tuple b t pl hu1⟩
   |str b=>obtain⟨t,rfl⟩:=ru;exact⟨SeqAt.EqAt.str_tuple b t pl hu1,SeqAt.RcAt.str_tuple b t pl hu1,SeqAt.RcNeAt.str_tuple b t pl hu1⟩
   |_=>exact absurd (show xI=xH from f1) zq
  ·
   obtain⟨rfl,f1⟩:=ve;obtain⟨q,vs,rfl,h2,r2⟩:=vd;cases ru;rw[hk]at h2;obtain⟨its,qv,pl,_⟩:=I.list h2;cases y with
   |non=>cases rw';exact⟨SeqAt.EqAt.list_none pl.isList hu1,SeqAt.RcAt.list_none pl.isList hu1,SeqAt.RcNeAt.list_none pl.isList hu1⟩
   |bl b=>cases rw';exact⟨SeqAt.EqAt.list_bool b pl.isList hu1,SeqAt.RcAt.list_bool b pl.isList hu1,SeqAt.RcNeAt.list_bool b pl.isList hu1⟩
   |int b=>obtain⟨t,rfl⟩:=rw';exact⟨SeqAt.EqAt.list_int b t pl.isList hu1,SeqAt.RcAt.list_int b t pl.isList hu1,SeqAt.RcNeAt.list_int b t pl.isList hu1⟩
   |str b=>obtain⟨t,rfl⟩:=rw';exact⟨SeqAt.EqAt.list_str b t pl.isList hu1,SeqAt.RcAt.list_str b t pl.isList hu1,SeqAt.RcNeAt.list_str b t pl.isList hu1⟩
   |_=>exact absurd (show xI=xH from f1) zq
  ·
   obtain⟨p,vs,rfl,h1,r1⟩:=vd;obtain⟨q,vs',rfl,h2,r2⟩:=ve;cases ru;cases rw';rw[hk]at h1 h2;obtain⟨its,q1,p1,_⟩:=I.list h1;obtain⟨its',q2,p2,_⟩:=I.list h2;have sz1:its.toArray.size=vs.length:=by rw[zY];exact q1.length.symm
   have sz2:its'.toArray.size=vs'.length:=by rw[zY];exact q2.length.symm
   split at h
   ·rename_i hl;obtain⟨f,hf,hb⟩:=Mx h;have hsz:its.toArray.size=its'.toArray.size:=by rw[sz1,sz2,<-r1.length,<-r2.length];exact hl
    have he:∀j(g1:j<its.toArray.size)(g2:j<its'.toArray.size),SeqAt.EqAt A.in1 s its.toArray[j] its'.toArray[j] (f j):=λj g1 g2=>by obtain⟨d1,v1,e1,rd1,rv1⟩:=My r1 q1 g1;obtain⟨d2,v2,e2,rd2,rv2⟩:=My r2 q2 g2;exact(N7 I hk sm n hu2 rd1 rd2 rv1 rv2 (hf j d1 d2 e1 e2)).1
    have hk':k=(qK its.toArray.size).all f:=by
     rw[hb]
     congr 2
     rw[sz1,<-r1.length,hl];lia
    have rc:SeqAt.RcAt A s (.ref p) (.ref q) k:=by rw[hk'];exact SeqAt.RcAt.lists p1.isList p2.isList hsz hu1 he
    refine⟨refs (λe=>?_) rc,rc,by rw[hk'];exact SeqAt.RcNeAt.lists p1.isList p2.isList hsz hu1 he⟩;subst e;exact same rd re h0
   ·rename_i hl;have h':xI=k:=Option.some.inj h;subst h';have hsz:(its.toArray.size != its'.toArray.size)=xH:=by rw[bne_iff_ne,sz1,sz2,<-r1.length,<-r2.length];exact hl
    refine⟨refs (λe=>?_) (SeqAt.RcAt.lists_lengths p1.isList p2.isList hsz hu1),SeqAt.RcAt.lists_lengths p1.isList p2.isList hsz hu1,SeqAt.RcNeAt.lists_lengths p1.isList p2.isList hsz hu1⟩;subst e;exact same rd re h0
  ·
   obtain⟨p,vs,rfl,h1,r1⟩:=vd;obtain⟨q,vs',rfl,h2,r2⟩:=ve;cases ru;cases rw';rw[hk]at h1 h2;obtain⟨its,q1,p1,_⟩:=I.list h1;obtain⟨its',q2,p2,_⟩:=I.tuple h2;exact⟨SeqAt.EqAt.list_tuple p1.isList p2 hu1,SeqAt.RcAt.list_tuple p1.isList p2 hu1,SeqAt.RcNeAt.list_tuple p1.isList p2 hu1⟩
  ·
   obtain⟨rfl,f1⟩:=ve;obtain⟨q,vs,rfl,h2,r2⟩:=vd;cases ru;rw[hk]at h2;obtain⟨its,qv,pl,_⟩:=I.tuple h2;cases y with
   |non=>cases rw';exact⟨SeqAt.EqAt.tuple_none pl hu1,SeqAt.RcAt.tuple_none pl hu1,SeqAt.RcNeAt.tuple_none pl hu1⟩
   |bl b=>cases rw';exact⟨SeqAt.EqAt.tuple_bool b pl hu1,SeqAt.RcAt.tuple_bool b pl hu1,SeqAt.RcNeAt.tuple_bool b pl hu1⟩
   |int b=>obtain⟨t,rfl⟩:=rw';exact⟨SeqAt.EqAt.tuple_int b t pl hu1,SeqAt.RcAt.tuple_int b t pl hu1,SeqAt.RcNeAt.tuple_int b t pl hu1⟩
   |str b=>obtain⟨t,rfl⟩:=rw';exact⟨SeqAt.EqAt.tuple_str b t pl hu1,SeqAt.RcAt.tuple_str b t pl hu1,SeqAt.RcNeAt.tuple_str b t pl hu1⟩
   |_=>exact absurd (show xI=xH from f1) zq
  ·
   obtain⟨p,vs,rfl,h1,r1⟩:=vd;obtain⟨q,vs',rfl,h2,r2⟩:=ve;cases ru;cases rw';rw[hk]at h1 h2;obtain⟨its,q1,p1,_⟩:=I.tuple h1;obtain⟨its',q2,p2,_⟩:=I.list h2;exact⟨SeqAt.EqAt.tuple_list p1 p2.isList hu1,SeqAt.RcAt.tuple_list p1 p2.isList hu1,SeqAt.RcNeAt.tuple_list p1 p2.isList hu1⟩
  ·
   rename_i xs ys;obtain⟨p,vs,rfl,h1,r1⟩:=vd;obtain⟨q,vs',rfl,h2,r2⟩:=ve;cases ru;cases rw';rw[hk]at h1 h2;obtain⟨its,q1,p1,_⟩:=I.tuple h1;obtain⟨its',q2,p2,_⟩:=I.tuple h2;have sz1:its.toArray.size=xs.length:=by rw[zY,r1.length];exact q1.length.symm
   have sz2:its'.toArray.size=ys.length:=by rw[zY,r2.length];exact q2.length.symm
   split at h
   ·rename_i b hz;have h':(b&&xs.length==ys.length)=k:=Option.some.inj h;obtain⟨f,hf,hb⟩:=Mx hz;have he:∀j(g1:j<its.toArray.size)(g2:j<its'.toArray.size),SeqAt.EqAt A.in1 s its.toArray[j] its'.toArray[j] (f j):=λj g1 g2=>by obtain⟨d1,v1,e1,rd1,rv1⟩:=My r1 q1 g1;obtain⟨d2,v2,e2,rd2,rv2⟩:=My r2 q2 g2;exact(N7 I hk sm n hu2 rd1 rd2 rv1 rv2 (hf j d1 d2 e1 e2)).1
    have hk':k=((qK (min its.toArray.size its'.toArray.size)).all f&&its.toArray.size==its'.toArray.size):=by rw[<-h',hb,sz1,sz2]
    have rc:SeqAt.RcAt A s (.ref p) (.ref q) k:=by rw[hk'];exact SeqAt.RcAt.tuples p1 p2 hu1 he
    refine⟨refs (λe=>?_) rc,rc,by rw[hk'];exact SeqAt.RcNeAt.tuples p1 p2 hu1 he⟩;subst e;exact same rd re h0
   ·cases h
def Bc(d e:D)(G:DH):R D:=match eqD 30 G d e with
 |some k=>.ok (.bl k) G
 |none=>.bad
def Fe(d e:D)(G:DH):R D:=match eqD 30 G d e with
 |some k=>.ok (.bl (!k)) G
 |none=>.bad
theorem o_eq(hu:X.A.units+64<cLine):OpR X (jR .Eq) (lR2 X.K E Bc):=by
 intro xE s σ H x y v u Q I rx ry ⟨a,G,d,e,hk,hH,sm,rd,re,q⟩;subst hH;unfold Bc at q;split at q
 ·rename_i k hd;exact(N7 I hk sm 30 (by lia) rd re rx ry hd).2.1 _ _ _ _ ⟨.bl k,a.H,I,rfl,q a _ (Ext.refl a) sm rfl⟩
 ·exact q.elim
theorem o_ne(hu:X.A.units+64<cLine):OpR X (jR .NotEq) (lR2 X.K E Fe):=by
 intro xE s σ H x y v u Q I rx ry ⟨a,G,d,e,hk,hH,sm,rd,re,q⟩;subst hH;unfold Fe at q;split at q
 ·rename_i k hd;exact(N7 I hk sm 30 (by lia) rd re rx ry hd).2.2 _ _ _ _ ⟨.bl (!k),a.H,I,rfl,q a _ (Ext.refl a) sm rfl⟩
 ·exact q.elim
end
noncomputable abbrev DG:=D->DSt->DH->R DSt
def Dl(E:XK)(a:Wd)(r:R DSt)(Q:St->Hp->Prop):Prop:=match r with
 |.ok S G=>∀(b:Wd)(σ:St),Ext a b->Sim b G->RepS b S σ->Q σ b.H
 |.err x G=>XOk E a x G
 |.bad=>False
def lG(K:PySem.W.Frag)(E:XK)(t:DG):TG:=λv σ H Q=>∃(a:Wd)(S:DSt)(G:DH)(d:D),a.K=K/\a.H=H/\Sim a G/\RepS a S σ/\Rep a d v/\Dl E a (t d S G) Q
def QG(X:Cx)(E:XK)(tg:j8)(t:DG):Prop:=PG X tg (lG X.K E t)
noncomputable abbrev DGs:=List D->DSt->DH->R DSt
def lGs(K:PySem.W.Frag)(E:XK)(t:DGs):TGs:=λvs σ H Q=>∃(a:Wd)(S:DSt)(G:DH)(ds:List D),a.K=K/\a.H=H/\Sim a G/\RepS a S σ/\Reps a ds vs/\Dl E a (t ds S G) Q
def QGs(X:Cx)(E:XK)(tg:List j8)(t:DGs):Prop:=PGs X tg (lGs X.K E t)
noncomputable def gV(i:Nat):DG:=λd S G=>.ok (S.set i (xF d)) G
noncomputable def Ef:DGs:=λds S G=>match ds with
 |[]=>.ok S G
 |_=>.bad
def Bk(t:DG)(u:DGs):DGs:=λds S G=>match ds with
 |d::r=>(t d S G).bind λS1 G1=>u r S1 G1
 |[]=>.bad
noncomputable def Do(n:Nat)(t:DGs):DG:=λd S G=>match d with
 |.tup ds=>if ds.length=n then t ds S G else .bad
 |_=>.bad
theorem Dl.imp{r:R DSt}{Q Q':St->Hp->Prop}(h:Dl E a r Q)(w:∀v H,Q v H->Q' v H):Dl E a r Q':=by
 cases r with
 |ok d G=>exact λb v x s q=>w _ _ (h b v x s q)
 |err e G=>exact h
 |bad=>exact h
theorem Dl.mono(x:Ext a b){r:R DSt}{Q:St->Hp->Prop}(h:Dl E a r Q):Dl E b r Q:=by
 cases r with
 |ok d G=>exact λc v y s q=>h c v (x.trans y) s q
 |err e G=>exact XOk.mono (E:=E) (e:=e) (G:=G) x h
 |bad=>exact h
theorem ZET{r:R DSt}{f:DSt->DH->R DSt}{Q:St->Hp->Prop}(h:Dl E a (r.bind f) Q):
  Dl E a r (λσ H=>∃(b:Wd)(S:DSt)(G:DH),b.H=H/\Ext a b/\Sim b G/\RepS b S σ/\r=.ok S G/\Dl E b (f S G) Q):=by
 cases r with
 |ok d G=>exact λb v x s q=>⟨b,d,G,rfl,x,s,q,rfl,Dl.mono x h⟩
 |err e G=>exact h
 |bad=>exact h
theorem Yj{r:R DSt}{f:DSt->DH->SR}(h:Ba E a (r.toS f) W):
  Dl E a r (λσ H=>∃(b:Wd)(S:DSt)(G:DH),b.H=H/\Ext a b/\Sim b G/\RepS b S σ/\r=.ok S G/\Ba E b (f S G) W):=by
 cases r with
 |ok d G=>exact λb v x s q=>⟨b,d,G,rfl,x,s,q,rfl,Ba.mono x h⟩
 |err e G=>exact h
 |bad=>exact h
section
variable{X:Cx}{E:XK}
theorem _root_._L.PG.mono{t t':TG}(h:PG X e t)(w:∀v σ H Q,t' v σ H Q->t v σ H Q):PG X e t':=λxE s σ H v u Q I r q=>h xE s σ H v u Q I r (w v σ H Q q)
theorem _root_._L.PGs.mono{e:List j8}{t t':TGs}(h:PGs X e t)(w:∀v σ H Q,t' v σ H Q->t v σ H Q):PGs X e t':=λxE s σ H v u Q I r q=>h xE s σ H v u Q I r (w v σ H Q q)
theorem Ot(i:Nat){pos:Pos}(hN:X.N.Nodup)(hi:X.N[i]?=xF x:=by rfl)(hx:Loc X.env.scope x:=by first|exact Or.inl rfl|exact Or.inr rfl)
  (hf:X.fn x=xH∨X.env.scope.names.lookup x=xF .local:=by first|exact .inl rfl|exact .inr rfl|assumption):QG X E (.Name x pos) (gV i):=
 (ZC7 hN hi hx hf).mono λv σ H Q h=>by obtain⟨a,S,G,d,hk,rfl,s,r,q,h⟩:=h;exact h a _ (Ext.refl a) s (r.set i q)
theorem ZGW:QGs X E [] Ef:=ZFH.mono λvs σ H Q h=>by
 obtain⟨a,S,G,ds,hk,rfl,s,r,q,h⟩:=h;cases ds with
 |nil=>exact⟨q,h a σ (Ext.refl a) s r⟩
 |cons d ds=>exact h.elim
theorem ZHT{es:List j8}{t:DG}{u:DGs}(h1:QG X E e t)(h2:QGs X E es u)
  (hs:(jH (e::es) X.env).map (·.2)=assign e X.env::(jH es X.env).map (·.2):=by rfl):QGs X E (e::es) (Bk t u):=(ZEx h1 h2 hs).mono λvs σ H Q h=>by
 obtain⟨a,S,G,ds,hk,rfl,s,r,q,h⟩:=h;cases ds with
 |nil=>exact h.elim
 |cons d ds=>
  obtain⟨v,rest,e1,q1,q2⟩:=q;refine⟨v,rest,e1,a,S,G,d,hk,rfl,s,r,q1,(ZET h).imp ?_⟩;rintro σ' _ ⟨b,S1,G1,rfl,x,s1,r1,_,h1⟩;exact⟨b,S1,G1,ds,x.k.trans hk,rfl,s1,r1,q2.mono x,h1⟩
theorem ZFM{es:List j8}{k:Nat}{t:DGs}{pos:Pos}(hc:X.calm=xH)(h:QGs X E es t)
  (hn:(jH es X.env).length=n:=by rfl) (hst:(jH es X.env).findIdx? (·.1)=xG:=by rfl):QG X E (.Tuple es k pos) (Do n t):=(ZE9 hc h hn hst).mono λv σ H Q h=>by
 obtain⟨a,S,G,d,hk,rfl,s,r,q,h⟩:=h;cases d with
 |tup ds=>
  obtain⟨p,vs,e,h1,r1⟩:=q;unfold Do at h;dsimp only at h;split at h
  ·rename_i hl;exact⟨p,vs,e,by rw[<-hk];exact h1,by rw[<-r1.length];exact hl,a,S,G,ds,hk,rfl,s,r,r1,h⟩
  ·exact h.elim
 |_=>exact h.elim
theorem ZB4{vs':List V}{ds':List D}(s:Sim a G)(hi:i<a.n)(h:a.H (a.m i)=xF (.lst vs))(r:Reps a ds' vs'):
  Ext a (a.put (a.m i) (.lst vs'))/\Sim (a.put (a.m i) (.lst vs')) (G.set i (.lst ds')):=⟨Ext.wr h,s.wr hi h (r.mono (Ext.wr h))⟩
variable{st:jE}{rest:List jE}{t u:DS}{e:j8}{te:DE}{pos:Pos}
noncomputable def sNx:DS:=λS G=>.nx S G
noncomputable def Ae(t u:DS):DS:=λS G=>match t S G with
 |.nx S1 G1=>u S1 G1
 |r=>r
def sEx(te:DE):DS:=λS G=>(te S G).toS λ_ G1=>.nx S G1
def sRt(te:DE):DS:=λS G=>(te S G).toS λd G1=>.rt d G1
def sIf(c:DB)(t u:DS):DS:=λS G=>(c S G).toS λk G1=>if k=xH then t S G1 else u S G1
def sAs(te:DE)(g:DG):DS:=λS G=>(te S G).toS λd G1=>(g d S G1).toS λS2 G2=>.nx S2 G2
theorem Hf:QSs X E [] sNx:=ZB8.mono λW σ H h=>by obtain⟨a,S,G,hk,rfl,s,r,h⟩:=h;exact h a σ (Ext.refl a) s r
theorem Ba.nxOf{t:DS}{K:PySem.W.Frag}(hk:a.K=K)(h:Ba E a (Ae t u S G) W):Ba E a (t S G) {W with nx:=lS K E u W}:=by
 unfold Ae at h
 revert h
 cases t S G<;>intro h
 ·exact λb σ x s r=>⟨b,_,_,x.k.trans hk,rfl,s,r,Ba.mono x h⟩
 all_goals exact h
theorem Bg(h1:QS X E st t)(h2:QSs X E rest u):QSs X E (st::rest) (Ae t u):=(Y5 h1 h2).mono λW σ H h=>by obtain⟨a,S,G,hk,rfl,s,r,h⟩:=h;exact⟨a,S,G,hk,rfl,s,r,h.nxOf hk⟩
theorem Gp(h1:QS X E st t):QSs X E [st] t:=Y6 h1
theorem ZB3(he:QE X E e te)(hs:swapsWith e xG pos.line X.env=pure xI:=by rfl):QS X E (.Expr e pos) (sEx te):=(Yc he hs).mono λW σ H h=>by obtain⟨a,S,G,hk,rfl,s,r,h⟩:=h;refine⟨a,S,G,hk,rfl,s,r,(Ng h).imp ?_⟩;rintro v _ ⟨b,d,G1,rfl,x,s1,q,_,h1⟩;exact h1 b σ (Ext.refl b) s1 (r.mono x)
theorem Ib(he:QE X E e te):QS X E (.Return (xF e) pos) (sRt te):=(ZG6 he).mono λW σ H h=>by obtain⟨a,S,G,hk,rfl,s,r,h⟩:=h;refine⟨a,S,G,hk,rfl,s,r,(Ng h).imp ?_⟩;rintro v _ ⟨b,d,G1,rfl,x,s1,q,_,h1⟩;exact h1 b v (Ext.refl b) s1 q
theorem Gr{c:j8}{tc:DB}{a b:List jE}(hc:QT X E c tc)(ha:QSs X E a t)(hb:QSs X E b u):QS X E (.If c a b pos) (sIf tc t u):=(ZDV hc ha hb).mono λW σ H h=>by
 obtain⟨a,S,G,hk,rfl,s,r,h⟩:=h;refine⟨a,S,G,hk,rfl,s,r,(Z8 h).imp ?_⟩;rintro k _ ⟨b,G1,rfl,x,s1,_,h1⟩;cases k with
 |true=>exact⟨b,S,G1,x.k.trans hk,rfl,s1,r.mono x,h1⟩
 |false=>exact⟨b,S,G1,x.k.trans hk,rfl,s1,r.mono x,h1⟩
theorem ZIf{K:PySem.W.Frag}{g:DG}(h:lS K E (sAs te g) W σ H):R0 (lE K E te) (lG K E g) W σ H:=by obtain⟨a,S,G,hk,rfl,s,r,h⟩:=h;refine⟨a,S,G,hk,rfl,s,r,(Ng h).imp ?_⟩;rintro v _ ⟨b,d,G1,rfl,x,s1,q,_,h1⟩;refine⟨b,S,G1,d,x.k.trans hk,rfl,s1,r.mono x,q,(Yj h1).imp ?_⟩;rintro σ' _ ⟨c,S2,G2,rfl,y,s2,r2,_,h2⟩;exact h2 c σ' (Ext.refl c) s2 r2
theorem Qa{g:DG}(he:QE X E e te)(hg:QG X E tg g)(hs:swapsWithSole [tg] e pos.line X.env=pure xI:=by rfl)(hw:swappedStores [tg] e X.env=pure xG:=by rfl)
  (h1:(jH [tg] X.env).map (·.2)=[assign tg X.env]:=by rfl):QS X E (.Assign [tg] e pos) (sAs te g):=(ZGy he hg hs hw h1).mono λ_ _ _ h=>ZIf h
theorem K4(i:Nat){pos':Pos}(hN:X.N.Nodup)(he:QE X E e te)(hi:X.N[i]?=xF x:=by rfl)(hx:Loc X.env.scope x:=by first|exact Or.inl rfl|exact Or.inr rfl)(hs:swapsWith e (xF (.Name x pos')) pos.line X.env=pure xI:=by rfl)
  (hf:X.fn x=xH∨X.env.scope.names.lookup x=xF .local:=by first|exact .inl rfl|exact .inr rfl|assumption):QS X E (.Assign [.Name x pos'] e pos) (sAs te (gV i)):=
 (ZDI hN hi hx he hs hf).mono λW σ H h=>by obtain⟨a,S,G,hk,rfl,s,r,h⟩:=h;refine⟨a,S,G,hk,rfl,s,r,(Ng h).imp ?_⟩;rintro v _ ⟨b,d,G1,rfl,x,s1,q,_,h1⟩;exact h1 b _ (Ext.refl b) s1 ((r.mono x).set i q)
end
noncomputable def aft(r:SR)(k:DSt->DH->SR):SR:=match r with
 |.nx S G=>k S G
 |.ct S G=>k S G
 |.bk S G=>.nx S G
 |r=>r
def Bm(g:DG)(b:DS):List D->DS
 |[],S,G=>.nx S G
 |x::xs,S,G=>(g x S G).toS λS1 G1=>aft (b S1 G1) (Bm g b xs)
def forM(i:Nat)(g:DG)(b:DS):Nat->Nat->DS
 |0,j,S,G=>match G[i]? with
  |some (.lst xs)=>if xs.length<=j then .nx S G else .bad
  |_=>.bad
 | k+1,j,S,G=>match G[i]? with
  |some (.lst xs)=>match xs[j]? with
   |some x=>(g x S G).toS λS1 G1=>aft (b S1 G1) (forM i g b k (j+1))
   |none=>.nx S G
  |_=>.bad
def Dr(f:Nat->DH->Option (Option D))(g:DG)(b:DS):Nat->Nat->DS
 |0,j,S,G=>match f j G with
  |some xG=>.nx S G
  |_=>.bad
 |k+1,j,S,G=>match f j G with
  |some (xF x)=>(g x S G).toS λS1 G1=>aft (b S1 G1) (Dr f g b k (j+1))
  |some xG=>.nx S G
  |none=>.bad
inductive ItD where
 |pure (xs:List D)
 |mt (i:Nat)
 |fn (n:Nat) (f:Nat->DH->Option (Option D))
noncomputable abbrev DI:=DSt->DH->R ItD
def Dk(it:DI)(g:DG)(b:DS):DS:=λS G=>(it S G).toS λJ G1=>match J with
 |.pure xs=>Bm g b xs S G1
 |.mt i=>match G1[i]? with
  |some (.lst xs)=>forM i g b xs.length 0 S G1
  |_=>.bad
 |.fn n f=>Dr f g b n 0 S G1
def RepI(a:Wd):ItD->It->Prop
 |.pure xs,J=>∃vs:List V,Reps a xs vs/\∀b:Wd,Ext a b->∀i,(∀v,vs[i]?=xF v->J.go i b.H/\∀x H',J.yld i b.H x H'->x=v/\H'=b.H)/\(vs.length<=i->J.stop i b.H)
 |.mt k,J=>k<a.n/\∀b:Wd,Ext a b->∀vs,b.H (b.m k)=xF (.lst vs)->∀i,(∀v,vs[i]?=xF v->J.go i b.H/\∀x H',J.yld i b.H x H'->x=v/\H'=b.H)/\(vs.length<=i->J.stop i b.H)
 |.fn _ f,J=>∀b:Wd,Ext a b->∀G,Sim b G->∀i,(∀d,f i G=xF (xF d)->J.go i b.H/\∀x H',J.yld i b.H x H'->∃c:Wd,c.H=H'/\Ext b c/\Sim c G/\Rep c d x)/\(f i G=xF xG->J.stop i b.H)
def outI(E:XK)(a:Wd)(r:R ItD)(Q:It->Hp->Prop):Prop:=match r with
 |.ok J G=>∀(b:Wd)(JJ:It),Ext a b->Sim b G->RepI b J JJ->Q JJ b.H
 |.err x G=>XOk E a x G
 |.bad=>False
def lI(K:PySem.W.Frag)(E:XK)(t:DI):TI:=λσ H Q=>∃(a:Wd)(S:DSt)(G:DH),a.K=K/\a.H=H/\Sim a G/\RepS a S σ/\outI E a (t S G) Q
def QI(X:Cx)(E:XK)(tg iter:j8)(t:DI):Prop:=PI X tg iter (lI X.K E t)
theorem outI.imp{r:R ItD}{Q Q':It->Hp->Prop}(h:outI E a r Q)(w:∀v H,Q v H->Q' v H):outI E a r Q':=by
 cases r with
 |ok d G=>exact λb v x s q=>w _ _ (h b v x s q)
 |err e G=>exact h
 |bad=>exact h
theorem ZDQ{r:R ItD}{f:ItD->DH->SR}(h:Ba E a (r.toS f) W):
  outI E a r (λJ H=>∃(b:Wd)(d:ItD)(G:DH),b.H=H/\Ext a b/\Sim b G/\RepI b d J/\r=.ok d G/\Ba E b (f d G) W):=by
 cases r with
 |ok d G=>exact λb v x s q=>⟨b,d,G,rfl,x,s,q,rfl,Ba.mono x h⟩
 |err e G=>exact h
 |bad=>exact h
theorem Wc {r:SR} {k:DSt->DH->SR} (h:Ba E a (aft r k) W):
  Ba E a r {W with
            nx:=λσ H=>∃(b:Wd)(S:DSt)(G:DH),b.H=H/\Ext a b/\Sim b G/\RepS b S σ/\Ba E b (k S G) W,
            ct:=λσ H=>∃(b:Wd)(S:DSt)(G:DH),b.H=H/\Ext a b/\Sim b G/\RepS b S σ/\Ba E b (k S G) W,bk:=W.nx}:=by
 cases r with
 |nx S G=>exact λb σ x s q=>⟨b,S,G,rfl,x,s,q,Ba.mono x h⟩
 |ct S G=>exact λb σ x s q=>⟨b,S,G,rfl,x,s,q,Ba.mono x h⟩
 |bk S G=>exact h
 |rt d G=>exact h
 |err x G=>exact h
 |bad=>exact h
noncomputable def mtF(i j:Nat)(G:DH):Option (Option D):=match G[i]? with
 |some (.lst xs)=>xF xs[j]?
 |_=>xG
theorem Q9{J:It}(r:RepI a (.pure xs) J):RepI a (.fn n λj _=>xF xs[j]?) J:=by
 obtain⟨vs,rv,h⟩:=r;refine λb x G sm i=>⟨λd e=>?_,λe=>?_⟩
 ·obtain⟨v,ev,q⟩:=rv.get (Option.some.inj e);obtain⟨h1,h2⟩:=(h b x i).1 v ev;refine⟨h1,λy H' hy=>?_⟩;obtain⟨rfl,rfl⟩:=h2 y H' hy;exact⟨b,rfl,Ext.refl b,sm,q.mono x⟩
 ·exact(h b x i).2 (by rw[<-rv.length];exact List.getElem?_eq_none_iff.mp (Option.some.inj e))
theorem Xv{J:It}(r:RepI a (.mt k) J):RepI a (.fn n (mtF k)) J:=by
 obtain⟨hk,h⟩:=r;refine λb x G sm i=>?_
 unfold mtF;cases hG:G[k]? with
 |none=>exact⟨λd e=>(by cases e),λe=>(by cases e)⟩
 | some o=>
  cases o with
  |lst xs=>
   obtain⟨vs,e1,rv⟩:=sm.lst hG;refine⟨λd e=>?_,λe=>?_⟩
   ·obtain⟨v,ev,q⟩:=rv.get (Option.some.inj e);obtain⟨h1,h2⟩:=(h b x vs e1 i).1 v ev;refine⟨h1,λy H' hy=>?_⟩;obtain⟨rfl,rfl⟩:=h2 y H' hy;exact⟨b,rfl,Ext.refl b,sm,q⟩
   ·exact(h b x vs e1 i).2 (by rw[<-rv.length];exact List.getElem?_eq_none_iff.mp (Option.some.inj e))
  |_=>exact⟨λd e=>(by cases e),λe=>(by cases e)⟩
theorem Y7{g:DG}{b:DS}:∀(n j:Nat),j+n=xs.length->Bm g b (xs.drop j)=Dr (λj _=>xF xs[j]?) g b n j
 |0,j,h=>by
  funext S G;rw[qk (by lia)]
  show SR.nx S G=(match xF xs[j]? with |some xG=>SR.nx S G|_=>.bad)
  rw[qq (by lia)]
 |n+1,j,h=>by
  funext S G;have hj:j<xs.length:=by lia
  rw[qH hj]
  show(g xs[j] S G).toS (λS1 G1=>aft (b S1 G1) (Bm g b (xs.drop (j+1))))=(match xF xs[j]? with |some (xF x)=>(g x S G).toS (λS1 G1=>aft (b S1 G1) (Dr (λj _=>xF xs[j]?) g b n (j+1)))|some xG=>SR.nx S G|none=>.bad)
  rw[zk hj,Y7 n (j+1) (by lia)]
theorem Xb{g:DG}{b:DS}:∀(n j:Nat),forM i g b n j=Dr (mtF i) g b n j
 | 0,j=>by
  funext S G;unfold forM Dr mtF;cases G[i]? with
  |none=>rfl
  | some o=>
   cases o with
   |lst xs=>
    dsimp only;by_cases hj:j<xs.length
    ·rw[if_neg (by lia),zk hj]
    ·rw[if_pos (by lia),qq (by lia)]
   |_=>rfl
 | n+1,j=>by
  funext S G;unfold forM Dr;rw[Xb n (j+1)];unfold mtF;cases G[i]? with
  |none=>rfl
  | some o=>
   cases o with
   |lst xs=>
    dsimp only
    cases xs[j]?<;>rfl
   |_=>rfl
section
variable{X:Cx}{E:XK}{tg iter:j8}{pos:Pos}
theorem ZHo{K:PySem.W.Frag}{it:DI}{g:DG}{b:DS}(h:lS K E (Dk it g b) W σ H):tFor (lI K E it) (lG K E g) (lS K E b) W σ H:=by
 obtain⟨a,S,G,hk,rfl,s,r,h⟩:=h;refine⟨a,S,G,hk,rfl,s,r,(ZDQ h).imp ?_⟩;rintro J _ ⟨a1,d,G1,rfl,x1,s1,q1,_,h1⟩;have k1:a1.K=K:=x1.k.trans hk
 suffices fnc:∃n f,RepI a1 (.fn n f) J/\Ba E a1 (Dr f g b n 0 S G1) W by
  obtain⟨n,f,q1,h1⟩:=fnc;have walk:∀b:Wd,Ext a1 b->∀G,Sim b G->∀i,(∀d,f i G=xF (xF d)->J.go i b.H/\∀x H',J.yld i b.H x H'->∃c:Wd,c.H=H'/\Ext b c/\Sim c G/\Rep c d x)/\(f i G=xF xG->J.stop i b.H):=q1;refine⟨λi m σ H=>∃(c:Wd)(S:DSt)(G:DH),c.H=H/\Ext a1 c/\Sim c G/\RepS c S σ/\Ba E c (Dr f g b m i S G) W,⟨_,a1,S,G1,rfl,Ext.refl _,s1,r.mono x1,h1⟩,?_⟩;rintro i m σ2 _ ⟨c,S2,G2,rfl,x2,s2,r2,h2⟩
  cases m with
  |zero=>
   unfold Dr at h2;split at h2
   ·rename_i hf;exact .inl ⟨(walk c x2 G2 s2 i).2 hf,h2 c σ2 (Ext.refl c) s2 r2⟩
   ·exact h2.elim
  | succ m=>
   unfold Dr at h2;split at h2
   ·rename_i d hf;obtain⟨go,yl⟩:=(walk c x2 G2 s2 i).1 d hf;refine .inr ⟨go,λσ' H'=>∃(c:Wd)(S:DSt)(G:DH),c.H=H'/\Ext a1 c/\Sim c G/\RepS c S σ'/\Ba E c (Dr f g b m (i+1) S G) W,λσ' H' z=>⟨m,zP _,z⟩,λw H' y=>?_⟩;obtain⟨cc,rfl,xx,ss,rd⟩:=yl w H' y;refine⟨cc,S2,G2,d,xx.k.trans (x2.k.trans k1),rfl,ss,r2.mono xx,rd,(Yj (Ba.mono xx h2)).imp ?_⟩;rintro σ3 _ ⟨c3,S3,G3,rfl,x3,s3,r3,_,h3⟩
    have fin:=Wc h3;refine⟨c3,S3,G3,x3.k.trans (xx.k.trans (x2.k.trans k1)),rfl,s3,r3,?_⟩
    revert fin
    cases b S3 G3 with
    | nx S4 G4=>
      intro fin c4 σ4 x4 s4 q4;obtain⟨c5,S5,G5,hh,x5,s5,r5,h5⟩:=fin c4 σ4 x4 s4 q4;exact⟨c5,S5,G5,hh,x2.trans (xx.trans (x3.trans x5)),s5,r5,h5⟩
    | ct S4 G4=>
      intro fin c4 σ4 x4 s4 q4;obtain⟨c5,S5,G5,hh,x5,s5,r5,h5⟩:=fin c4 σ4 x4 s4 q4;exact⟨c5,S5,G5,hh,x2.trans (xx.trans (x3.trans x5)),s5,r5,h5⟩
    |bk S4 G4=>exact λfin=>fin
    |rt S4 G4=>exact λfin=>fin
    |err S4 G4=>exact λfin=>fin
    |bad=>exact λfin=>fin
   ·rename_i hf;exact .inl ⟨(walk c x2 G2 s2 i).2 hf,h2 c σ2 (Ext.refl c) s2 r2⟩
   ·exact h2.elim
 cases d with
 |pure xs=>
  have h1':Ba E a1 (Bm g b (xs.drop 0) S G1) W:=h1;rw[Y7 xs.length 0 (by lia)]at h1';exact⟨_,_,Q9 q1,h1'⟩
 |mt k=>
  dsimp only at h1;split at h1
  ·rw[Xb]at h1;exact⟨_,_,Xv q1,h1⟩
  ·exact h1.elim
 |fn n f=>exact⟨n,f,q1,h1⟩
theorem ZDc{body:List jE}{it:DI}{g:DG}{b:DS}(hp:PassesOwn (xZ X.prog X.w) X.A X.env X.xe)(hc:X.calm=xH)(hi:QI X E tg iter it)(hg:QG X E tg g)(hb:QSs X E body b)
  (hs:∀x,foldedSetIterable iter X.env x=pure x:=by intro _;rfl):QS X E (.For tg iter body [] pos) (Dk it g b):=(ZFa hp hc hi hg hb hs).mono λ_ _ _ h=>ZHo h
theorem _root_._L.PI.mono{t t':TI}(h:PI X tg iter t)(w:∀σ H Q,t' σ H Q->t σ H Q):PI X tg iter t':=λxE s σ H Q I q=>h xE s σ H Q I (w σ H Q q)
noncomputable def sgn(c:Nat):D:=.str ⟨#[c]⟩
def signs(x:Str):List D:=x.cps.toList.map sgn
noncomputable def Its(x:Str):It:=⟨λi _=>i<x.cps.size,λi H v H'=>H'=H/\∃c,x.cps[i]?=xF c/\v=.str ⟨#[c]⟩,λi _=>x.cps.size<=i⟩
theorem ZG1{P:jB}{K:PySem.W.Frag}(it:j6)(x:Str)(t:Tok):Turn P w K tg (Its x) [it] it (λi h=>h.IsStrIter it "str_ascii_iterator" x t i) where
 mem:=by simp
 obj:=λi h st b hb=>by
  have e:b=it:=by simpa using hb
  subst e;obtain⟨o,e,c,d⟩:=st;exact⟨o,e,λv z=>by rw[d]at z;cases z⟩
 keep:=λi h h' st k=>let⟨o,ho,r⟩:=st;⟨o,k it (by simp) o ho,r⟩
 item:=by
  intro X hP hw hK hc i xE s σ H E I hf st hg;subst hP hw hK;obtain⟨f0,f1,f2,f3,f4,f5⟩:=hf it (by simp);have hi:i<x.cps.size:=hg;refine wpAny_pyNext_ascii_item st (c:=x.cps[i]) (by simp[hi]) λh' st' sb=>?_
  have I1:Inv X xE σ H {s with heap:=h',toks:=s.toks+1}:=I.turned (λb o hb e=>(sb.2 b hb).trans e) f0 f1 f3 f4 f5;obtain⟨o,e,c,d⟩:=id st';exact⟨_,rfl,K8 (s:={s with heap:=h',toks:=s.toks+1}) e c d (by decide) ⟨.str ⟨#[x.cps[i]]⟩,H,I1,⟨_,rfl⟩,⟨rfl,_,by simp[hi],rfl⟩,st',λb hb=>(hf b hb).1⟩⟩
 done:=by intro X hP hw hK hc i xE s σ H E I hf st hg;subst hP hw hK;obtain⟨f0,f1,f2,f3,f4,f5⟩:=hf it (by simp);have hi:x.cps.size<=i:=hg;exact wpAny_pyNext_ascii_end (I.ok.hd hc) st (by simp[hi]) λh' eb=>⟨rfl,I.turned (t':=s.toks) (λb o hb e=>eb b o hb e) f0 f1 f3 f4 f5⟩
 self:=λ_ _ _ _ _ st h=>wpAny_pyIter_striter_ascii st h
theorem ZDl{P:jB}{K:PySem.W.Frag}(it:j6)(x:Str)(t:Tok):Turn P w K tg (Its x) [it] it (λi h=>h.IsStrIter it "str_iterator" x t i) where
 mem:=by simp
 obj:=λi h st b hb=>by
  have e:b=it:=by simpa using hb
  subst e;obtain⟨o,e,c,d⟩:=st;exact⟨o,e,λv z=>by rw[d]at z;cases z⟩
 keep:=λi h h' st k=>let⟨o,ho,r⟩:=st;⟨o,k it (by simp) o ho,r⟩
 item:=by
  intro X hP hw hK hc i xE s σ H E I hf st hg;subst hP hw hK;obtain⟨f0,f1,f2,f3,f4,f5⟩:=hf it (by simp);have hi:i<x.cps.size:=hg;refine wpAny_pyNext_wide_item st (c:=x.cps[i]) (by simp[hi]) λh' st' sb=>?_
  have I1:Inv X xE σ H {s with heap:=h',toks:=s.toks+1}:=I.turned (λb o hb e=>(sb.2 b hb).trans e) f0 f1 f3 f4 f5;obtain⟨o,e,c,d⟩:=id st';exact⟨_,rfl,K8 (s:={s with heap:=h',toks:=s.toks+1}) e c d (by decide) ⟨.str ⟨#[x.cps[i]]⟩,H,I1,⟨_,rfl⟩,⟨rfl,_,by simp[hi],rfl⟩,st',λb hb=>(hf b hb).1⟩⟩
 done:=by intro X hP hw hK hc i xE s σ H E I hf st hg;subst hP hw hK;obtain⟨f0,f1,f2,f3,f4,f5⟩:=hf it (by simp);have hi:x.cps.size<=i:=hg;exact wpAny_pyNext_wide_end (I.ok.hd hc) st (by simp[hi]) λh' eb=>⟨rfl,I.turned (t':=s.toks) (λb o hb e=>eb b o hb e) f0 f1 f3 f4 f5⟩
 self:=λ_ _ _ _ _ st h=>wpAny_pyIter_striter_wide st h
def iStr(tl:TE):TI:=λσ H R=>tl σ H λx H1=>∃z,x=.str z/\R (Its z) H1
theorem ZDJ{l:j8}{tl:TE}(hl:PE X l tl):PI X tg l (iStr tl):=by
 intro xE s σ H R I h;refine thn (hl xE s σ H _ I h) λv s1 ⟨x,H1,I1,r1,q1⟩=>?_
 obtain⟨z,e,q⟩:=q1;subst e;obtain⟨t,rfl⟩:=r1;have fp:∀b∈[s1.heap.objs.size],FpOk X xE H1 b:=λb hb=>by
  have e:b=s1.heap.objs.size:=by simpa using hb
  subst e;exact I1.Mr (zJ _) (I1.hok.fresh (zJ _))
 cases ha:z.cps.all (· < 128)
 ·refine wpAny_pyIter_wide ha ?_;exact⟨s1.heap.objs.size,[s1.heap.objs.size],_,_,H1,rfl,I1.kept (t':=s1.toks) λb o e=>zQ _ e,ZDl _ z t,⟨_,zD _ rfl,rfl,rfl⟩,fp,q⟩
 ·refine wpAny_pyIter_ascii ha ?_;exact⟨s1.heap.objs.size,[s1.heap.objs.size],_,_,H1,rfl,I1.kept (t':=s1.toks) λb o e=>zQ _ e,ZG1 _ z t,⟨_,zD _ rfl,rfl,rfl⟩,fp,q⟩
theorem Reps.signs(x:Str):Reps a (signs x) (x.cps.toList.map λc=>V.str ⟨#[c]⟩):=by
 unfold _D.signs
 induction x.cps.toList with
 |nil=>exact rfl
 |cons c r ih=>exact⟨_,_,rfl,rfl,ih⟩
def Eu:D->DH->R ItD
 |.tup xs,G=>.ok (.pure xs) G
 |.str x,G=>.ok (.pure (signs x)) G
 |.fl xs,G=>.ok (.pure xs) G
 |.ref i,G=>match G[i]? with
  |some (.lst _)=>.ok (.mt i) G
  |_=>.bad
 |_,_=>.bad
def Ez(te:DE):DI:=λS G=>(te S G).bind Eu
theorem T8(he:QE X E iter te):QI X E tg iter (Ez te):=by
 intro xE s σ H R I h;obtain⟨a,S,G,hk,rfl,sm,r,h⟩:=h;cases ht:te S G with
 |bad=>
  have h':outI E a ((te S G).bind Eu) R:=h;rw[ht]at h';exact h'.elim
 |err e G1=>
  have h':outI E a ((te S G).bind Eu) R:=h;rw[ht]at h';refine Qx (tg:=tg) he xE s σ a.H R I ⟨a,S,G,hk,rfl,sm,r,?_⟩;rw[ht];exact h'
 | ok d G1=>
  have h':outI E a ((te S G).bind Eu) R:=h;rw[ht]at h';cases d with
  |tup xs=>
   refine ZCA (tg:=tg) he xE s σ a.H R I ⟨a,S,G,hk,rfl,sm,r,?_⟩;rw[ht];rintro b v x sb ⟨p,vs,rfl,hq,rv⟩;have hq':SqT X.K b.H p vs:=by rw[<-hk,<-x.k];exact hq
   refine⟨p,rfl,⟨vs,hq'⟩,h' b _ x sb ⟨vs,rv,λc y i=>⟨λv hv=>⟨⟨vs,v,?_,hv⟩,λw H' z=>?_⟩,λhl=>⟨vs,?_,hl⟩⟩⟩⟩
   ·have:=y.sqT hq;rw[y.k,x.k,hk]at this;exact this
   ·have:=y.sqT hq;rw[y.k,x.k,hk]at this;exact⟨Option.some.inj ((z.2 vs this).symm.trans hv),z.1⟩
   ·have:=y.sqT hq;rw[y.k,x.k,hk]at this;exact this
  |fl xs=>
   refine Qx (tg:=tg) he xE s σ a.H R I ⟨a,S,G,hk,rfl,sm,r,?_⟩;rw[ht];rintro b v x sb ⟨p,vs,rfl,hq,rv⟩;have hq':SqL X.K b.H p vs:=by rw[<-hk,<-x.k];exact hq.sq
   refine⟨p,rfl,⟨vs,hq'⟩,h' b _ x sb ⟨vs,rv,λc y i=>⟨λv hv=>⟨⟨vs,v,?_,hv⟩,λw H' z=>?_⟩,λhl=>⟨vs,?_,hl⟩⟩⟩⟩
   ·have:=(y.fzL hq).sq;rw[y.k,x.k,hk]at this;exact this
   ·have:=(y.fzL hq).sq;rw[y.k,x.k,hk]at this;exact⟨Option.some.inj ((z.2 vs this).symm.trans hv),z.1⟩
   ·have:=(y.fzL hq).sq;rw[y.k,x.k,hk]at this;exact this
  |ref k=>
   have h2:outI E a (Eu (.ref k) G1) R:=h';unfold Eu at h2;dsimp only at h2;split at h2
   ·rename_i xs hx;refine Qx (tg:=tg) he xE s σ a.H R I ⟨a,S,G,hk,rfl,sm,r,?_⟩;rw[ht];rintro b v x sb ⟨hkn,rfl⟩;obtain⟨vs,hx,_⟩:=sb.lst hx;refine⟨b.m k,rfl,⟨vs,.of hx⟩,h2 b _ x sb ⟨hkn,λc y us hu i=>?_⟩⟩;rw[y.m k hkn]at hu;exact⟨λv hv=>⟨⟨us,v,.of hu,hv⟩,λw H' z=>⟨Option.some.inj ((z.2 us (.of hu)).symm.trans hv),z.1⟩⟩,λhl=>⟨us,.of hu,hl⟩⟩
   ·exact h2.elim
  | str z=>
   refine ZDJ (tg:=tg) he xE s σ a.H R I ⟨a,S,G,hk,rfl,sm,r,?_⟩;rw[ht];intro b v x sb rv
   cases(show v=V.str z from rv)
   refine⟨z,rfl,h' b _ x sb ⟨_,Reps.signs z,λc y i=>⟨λv hv=>?_,λhl=>?_⟩⟩⟩
   ·rw[zM,zC]at hv;obtain⟨k,hk1,rfl⟩:=hv;have hk2:z.cps[i]?=xF k:=by rw[<-Array.getElem?_toList];exact hk1
    refine⟨(z0.mp hk2).1,λw H' q=>?_⟩;obtain⟨e1,k',e2,e3⟩:=q;rw[hk2]at e2;cases e2;exact⟨e3,e1⟩
   ·rw[zy,qN]at hl;exact hl
  |_=>exact h'.elim
end
noncomputable def Ck(lo:Int)(n:Nat):List D:=(qK n).map λ(k:Nat)=>D.int (lo+(k:Int))
def inR(j:Int):Prop:= -(2^62)<=j/\j<2^62
noncomputable instance (j:Int):Decidable (inR j):=by unfold inR;infer_instance
def rng1(ds:List D)(G:DH):R ItD:=match ds with
 |[.int j]=>if inR j then .ok (.pure (Ck 0 j.toNat)) G else .bad
 |_=>.bad
def Gf(f:List D->DH->R ItD)(ta:DA):DI:=λS G=>(ta S G).bind f
def sWh(c:DB)(b:DS):Nat->DS
 |0,_,_=>.bad
 |n+1,S,G=>(c S G).toS λk G1=>if k=xH then aft (b S G1) (sWh c b n)else .nx S G1
def Bd(np nl:Nat)(b:DS):List D->DH->R D:=λds G=>if ds.length=np then tidy G (match b (ds.map xF++zE nl xG) G with
 |.nx _ G'=>.ok .non G'
 |.rt d G'=>.ok d G'
 |.err x G'=>.err x G'
 |_=>.bad)else .bad
theorem outI.mono(x:Ext a b){r:R ItD}{Q:It->Hp->Prop}(h:outI E a r Q):outI E b r Q:=by
 cases r with
 |ok d G=>exact λc v y s q=>h c v (x.trans y) s q
 |err e G=>exact XOk.mono (E:=E) (e:=e) (G:=G) x h
 |bad=>exact h
theorem ZE8{r:R (List D)}{f:List D->DH->R ItD}{Q:It->Hp->Prop}(h:outI E a (r.bind f) Q):
  Cp E a r (λvs H=>∃(b:Wd)(ds:List D)(G:DH),b.H=H/\Ext a b/\Sim b G/\Reps b ds vs/\r=.ok ds G/\outI E b (f ds G) Q):=by
 cases r with
 |ok d G=>exact λb v x s q=>⟨b,d,G,rfl,x,s,q,rfl,outI.mono x h⟩
 |err e G=>exact h
 |bad=>exact h
section
variable{X:Cx}{E:XK}{tg iter:j8}{pos:Pos}
theorem ZGS(lo:Int)(n:Nat):RepI a (.pure (Ck lo n)) (Itr lo n):=by
 refine⟨(qK n).map λ(k:Nat)=>V.int (lo+(k:Int)),?_,λb x i=>⟨λv hv=>?_,λhl=>?_⟩⟩
 ·unfold Ck;generalize qK n=l
  induction l with
  |nil=>exact rfl
  |cons k l ih=>exact⟨_,_,rfl,rfl,ih⟩
 ·rw[zM]at hv;by_cases hi:i<n
  ·rw[List.getElem?_range hi]at hv;have hv':V.int (lo+(i:Int))=v:=by simpa using hv
   exact⟨hi,λw H' y=>⟨y.2.trans hv',y.1⟩⟩
  ·rw[qq (by simpa using hi)]at hv;cases hv
 ·show n<=i;simpa using hl
theorem ZCn{ta:DA}{p pos:Pos}(hg:Gl X "range")(hm:X.mg "range"=xG)(ha:QA X E [e] ta)(hs:xW [e] X.env=[(xI,eval e X.env)]:=by rfl):QI X E tg (.Call (.Name "range" p) [e] [] pos) (Gf rng1 ta):=
 (ZDi hg hm ha hs).mono λσ H Q h=>by
  obtain⟨a,S,G,hk,rfl,s,r,h⟩:=h;refine⟨a,S,G,hk,rfl,s,r,(ZE8 h).imp ?_⟩;rintro vs _ ⟨b,ds,G1,rfl,x,s1,q,-,h1⟩;unfold rng1 at h1;split at h1
  ·rename_i j;split at h1
   ·rename_i hj;obtain⟨v,r,e1,q1,q2⟩:=q
    cases(show v=V.int j from q1)
    cases(show r=[]from q2)
    exact⟨j,e1,hj.1,hj.2,h1 b _ (Ext.refl b) s1 (ZGS 0 j.toNat)⟩
   ·exact h1.elim
  ·exact h1.elim
theorem ZHj(n:Nat){c:j8}{body:List jE}{tc:DB}{tb:DS}(hp:PassesOwn (xZ X.prog X.w) X.A X.env X.xe)(hc:QT X E c tc)(hb:QSs X E body tb):QS X E (.While c body [] pos) (sWh tc tb n):=(ZDt hp hc hb).mono λW σ H h=>by
 obtain⟨a,S,G,hk,rfl,s,r,h⟩:=h;refine⟨λm σ H=>∃(b:Wd)(S:DSt)(G:DH),b.H=H/\Ext a b/\Sim b G/\RepS b S σ/\Ba E b (sWh tc tb m S G) W,⟨n,a,S,G,rfl,Ext.refl a,s,r,h⟩,?_⟩;rintro m σ2 _ ⟨b,S2,G2,rfl,x2,s2,r2,h2⟩;cases m with
 |zero=>exact h2.elim
 | succ m=>
  refine⟨b,S2,G2,x2.k.trans hk,rfl,s2,r2,(Z8 h2).imp ?_⟩;rintro k _ ⟨c3,G3,rfl,x3,s3,_,h3⟩;cases k with
  |false=>exact h3 c3 σ2 (Ext.refl c3) s3 (r2.mono x3)
  | true=>
   refine⟨λσ' H'=>∃(b:Wd)(S:DSt)(G:DH),b.H=H'/\Ext a b/\Sim b G/\RepS b S σ'/\Ba E b (sWh tc tb m S G) W,λσ' H' z=>⟨m,zP _,z⟩,c3,S2,G3,x3.k.trans (x2.k.trans hk),rfl,s3,r2.mono x3,?_⟩;have fin:=Wc h3
   revert fin
   cases tb S2 G3 with
   |nx S4 G4=>
    intro fin c4 σ4 x4 s4 q4;obtain⟨c5,S5,G5,hh,x5,s5,r5,h5⟩:=fin c4 σ4 x4 s4 q4;exact⟨c5,S5,G5,hh,x2.trans (x3.trans x5),s5,r5,h5⟩
   |ct S4 G4=>
    intro fin c4 σ4 x4 s4 q4;obtain⟨c5,S5,G5,hh,x5,s5,r5,h5⟩:=fin c4 σ4 x4 s4 q4;exact⟨c5,S5,G5,hh,x2.trans (x3.trans x5),s5,r5,h5⟩
   |bk S4 G4=>exact λfin=>fin
   |rt S4 G4=>exact λfin=>fin
   |err S4 G4=>exact λfin=>fin
   |bad=>exact λfin=>fin
end
theorem ZAU(r:Reps a ds vs)(n m:Nat)(h:n=m):RepS a (ds.map xF++zE n xG) (vs.map xF++zE m xG):=by
 subst h;refine⟨by simp[r.length],λi d hd=>?_⟩;by_cases hi:i<ds.length
 ·rw[zH (by simpa using hi),zM]at hd;cases e:ds[i]? with
  |none=>rw[e]at hd;cases hd
  |some d'=>
   rw[e]at hd;have hd':d'=d:=by simpa using hd
   subst hd';obtain⟨v,ev,q⟩:=r.get e;exact⟨v,by rw[zH (by rw[zy,<-r.length];exact hi),zM,ev];rfl,q⟩
 ·rw[zB (by simpa using hi),qx]at hd
  split at hd<;>cases hd
theorem Lg{P:jB}{K:PySem.W.Frag}{mg:Str->Option jF}{base:Heap}{qual:Str}{st:jE}{f:j6}{fd:j9}{N ps:List Str}{b:DS}(F:Fun K x qual st f fd)(S:FnScope N ps (Am st))
  (hbody:∀(cdv:jF)(A:j7)(outer:List Env)(s:jD)(H:Hp)(E:XK),Room k (A.deeper (envOfC qual (Am st) s.heap.objs.size f cdv))->QSs (Fj CX0 P w K mg base N qual (Am st) f cdv A outer s H E).nox E0 (By st) b):
  FnOk P w K mg base CX0 (k+1) f fd ps (lF K (Bd ps.length (N.length-ps.length) b)):=by
 have hlen:∀vs H Q E,lF K (Bd ps.length (N.length-ps.length) b) vs H Q E->vs.length=ps.length:=λvs H Q E h=>by
  obtain⟨a,G,ds,hk,rfl,sm,r,h⟩:=h;unfold Bd at h;split at h
  ·rename_i hl;rw[<-r.length];exact hl
  ·exact h.elim
 refine F.ok S hlen (λcdv A outer s H vs Q E hr h=>?_);refine⟨lS K E0 b,hbody cdv A outer s H E hr,?_⟩;have hl:=hlen vs H Q E h;obtain⟨a,G,ds,hk,rfl,sm,r,h⟩:=h;unfold Bd at h;split at h
 ·have h2:=Uv sm h;refine⟨a,ds.map xF++zE (N.length-ps.length) xG,G,hk,rfl,sm,ZAU r _ _ (by rw[hl]),?_⟩
  revert h2
  cases b (ds.map xF++zE (N.length-ps.length) xG) G with
  |nx S1 G1=>exact λh2 c σ x s1 _=>h2 c .non x s1 rfl
  |rt d G1=>exact λh2=>h2
  |err e G1=>exact λh2=>h2
  |bk S1 G1=>exact λh2=>h2.elim
  |ct S1 G1=>exact λh2=>h2.elim
  |bad=>exact λh2=>h2
 ·exact h.elim
theorem Hy{x:V}(s:Sim a G)(r:Rep a d x)(h:Cj d G=xF xs):∃p vs,x=.ref p/\(SqL a.K a.H p vs∨SqT a.K a.H p vs)/\Reps a xs vs:=by
 cases d with
 |tup ys=>
  have e:ys=xs:=Option.some.inj h;subst e;obtain⟨p,vs,e,q,rr⟩:=r;exact⟨p,vs,e,.inr q,rr⟩
 |fl ys=>
  have e:ys=xs:=Option.some.inj h;subst e;obtain⟨p,vs,e,q,rr⟩:=r;exact⟨p,vs,e,.inl q.sq,rr⟩
 |ref i=>
  unfold Cj at h;dsimp only at h;split at h
  ·rename_i ys hi;have e:ys=xs:=Option.some.inj h;subst e;obtain⟨vs,e1,r1⟩:=s.lst hi;exact⟨a.m i,vs,r.2,.inl (.of e1),r1⟩
  ·cases h
 |_=>cases h
def Ao (d e:D) (G:DH):R D:=match e with
 | .int i=>match d with
  | .str z=>if z.length<=1000000 then(match atI z.cps.toList i with
    |some c=>.ok (.str ⟨#[c]⟩) G
    |none=>.bad)else .bad
  | d=>match Cj d G with
   |some xs=>match atI xs i with
    |some v=>.ok v G
    |none=>.bad
   |none=>.bad
 |_=>.bad
theorem ZFp{i:Int}(r:Reps a xs vs)(h:atI xs i=xF d):∃v,atI vs i=xF v/\Rep a d v:=by
 unfold atI at h⊢;rw[<-r.length];cases e:ixN xs.length i with
 |none=>rw[e]at h;cases h
 |some j=>
  rw[e]at h
  obtain⟨v,ev,q⟩:=r.get (show xs[j]?=xF d from h)
  exact⟨v,ev,q⟩
section
variable{X:Cx}{E:XK}
theorem _root_._L.IxR.mono{r r':R2}(h:IxR X r)(w:∀x y H Q,r' x y H Q->r x y H Q):IxR X r':=λvalue slice xE s σ H x y v u Q I rx ry q hs=>h value slice xE s σ H x y v u Q I rx ry (w _ _ _ _ q) hs
theorem _root_._L.CallR.mono{f:jF}{r r':List V->Hp->VK->Prop}(h:CallR X f r)(w:∀xs H Q,r' xs H Q->r xs H Q):CallR X f r':=λxE s σ H xs us Q I rs q=>h xE s σ H xs us Q I rs (w _ _ _ q)
theorem _root_._L.MtM.mono{id:String}{r r':V->List V->Hp->VK->Prop}(h:MtM X id r)(w:∀x xs H Q,r' x xs H Q->r x xs H Q):MtM X id r':=λxE s σ H x xs v us Q I rx rs q=>h xE s σ H x xs v us Q I rx rs (w _ _ _ _ q)
theorem i_ix:IxR X (lR2 X.K E Ao):=ZED.mono λx y H Q h=>by
 obtain⟨a,G,d,e,hk,rfl,s,rd,re,q⟩:=h;cases e with
 | int i=>
  have fin:∀{xs:List D},Cj d G=xF xs->out E a (match atI xs i with |some v=>.ok v G|none=>.bad) Q->rIx X.K x y a.H Q:=λ{xs}hs q=>by
   obtain⟨p,vs,e1,h1,r1⟩:=Hy s rd hs;rw[hk]at h1;split at q
   ·rename_i v hv;obtain⟨u,hu,ru⟩:=ZFp r1 hv;have z:=q a u (Ext.refl a) s ru;rcases h1 with h1|h1
    ·exact .inl ⟨p,vs,i,u,e1,re,h1,hu,z⟩
    ·exact .inr (.inl ⟨p,vs,i,u,e1,re,h1,hu,z⟩)
   ·exact q.elim
  have fin':out E a (match Cj d G with |some xs=>(match atI xs i with |some v=>.ok v G|none=>.bad)|none=>.bad) Q->rIx X.K x y a.H Q:=λq=>by
   cases hs:Cj d G with
   |none=>rw[hs]at q;exact q.elim
   |some xs=>rw[hs]at q;exact fin hs q
  cases d with
  | str z=>
   unfold Ao at q;dsimp only at q;split at q
   ·rename_i hl;split at q
    ·rename_i c hc;exact .inr (.inr ⟨z,i,c,rd,re,zx hl size6,hc,q a _ (Ext.refl a) s rfl⟩)
    ·exact q.elim
   ·exact q.elim
  |tup ys=>exact fin' q
  |fl ys=>exact fin' q
  |ref j=>exact fin' q
  |_=>exact fin' q
 |_=>exact q.elim
def Az(ds:List D)(G:DH):R D:=match ds with
 |[.str z]=>if z.length<=1000000 then .ok (.int z.length) G else .bad
 |[d]=>match Cj d G with
  |some xs=>.ok (.int xs.length) G
  |none=>.bad
 |_=>.bad
theorem reps1(r:Reps a [d] vs):∃v,vs=[v]/\Rep a d v:=by
 obtain⟨v,r',e,q,z⟩:=r
 cases(show r'=[]from z)
 exact⟨v,e,q⟩
theorem reps2{d':D}(r:Reps a [d,d'] vs):∃v v',vs=[v,v']/\Rep a d v/\Rep a d' v':=by obtain⟨v,r',e,q,z⟩:=r;obtain⟨v',e',q'⟩:=reps1 z;subst e';exact⟨v,v',e,q,q'⟩
theorem ZCc:CallR X (.builtin "len") (lRn X.K E Az):=(ZGE.or ZBv).mono λvs H Q h=>by
 obtain⟨a,G,ds,hk,rfl,s,r,q⟩:=h;unfold Az at q;split at q
 ·rename_i z;split at q
  ·rename_i hl;obtain⟨v,rfl,rv⟩:=reps1 r
   cases(show v=V.str z from rv)
   exact .inr ⟨z,rfl,zx hl size6,q a _ (Ext.refl a) s rfl⟩
  ·exact q.elim
 ·rename_i d _;split at q
  ·rename_i xs hs;obtain⟨v,rfl,rv⟩:=reps1 r;obtain⟨p,us,rfl,h1,r1⟩:=Hy s rv hs;rw[hk]at h1;exact .inl ⟨p,us,rfl,h1,q a _ (Ext.refl a) s (by rw[<-r1.length];exact rfl)⟩
  ·exact q.elim
 ·exact q.elim
def Cw(ds:List D)(G:DH):R D:=match ds with
 |[d]=>match Cj d G with
  |some xs=>.ok (.tup xs) G
  |none=>.bad
 |_=>.bad
theorem Th:CallR X (.type "tuple") (lRn X.K E Cw):=ZEb.mono λvs H Q h=>by
 obtain⟨a,G,ds,hk,rfl,s,r,q⟩:=h;unfold Cw at q;split at q
 ·rename_i d;split at q
  ·rename_i xs hs;obtain⟨v,rfl,rv⟩:=reps1 r;obtain⟨p,us,rfl,h1,r1⟩:=Hy s rv hs;refine⟨p,us,rfl,?_⟩;rcases h1 with h1|h1
   ·exact .inl ⟨by rw[<-hk];exact h1,λl hl=>Oe s r1 q l hl⟩
   ·exact .inr ⟨by rw[<-hk];exact h1,q a _ (Ext.refl a) s ⟨p,us,rfl,h1,r1⟩⟩
  ·exact q.elim
 ·exact q.elim
noncomputable def Lb(ds:List D)(G:DH):R D:=match ds with
 |[.int i,.int j]=>.ok (.int (if j>i then j else i)) G
 |_=>.bad
theorem ZD8(hc:X.calm=xH):CallR X (.builtin "max") (lRn X.K E Lb):=(ZHB hc).mono λvs H Q h=>by
 obtain⟨a,G,ds,hk,rfl,s,r,q⟩:=h;unfold Lb at q;split at q
 ·obtain⟨v,v',rfl,h1,h2⟩:=reps2 r
  cases(show v=V.int _ from h1)
  cases(show v'=V.int _ from h2)
  exact⟨_,_,rfl,q a _ (Ext.refl a) s rfl⟩
 ·exact q.elim
noncomputable def Lh(ds:List D)(G:DH):R D:=match ds with
 |[.int i]=>.ok (.int i) G
 |[.bl k]=>.ok (.int (if k then 1 else 0)) G
 |_=>.bad
theorem ZGg:CallR X (.type "int") (lRn X.K E Lh):=ZIK.mono λvs H Q h=>by
 obtain⟨a,G,ds,hk,rfl,s,r,q⟩:=h;unfold Lh at q;split at q
 ·obtain⟨v,rfl,h1⟩:=reps1 r
  cases(show v=V.int _ from h1)
  exact .inl ⟨_,rfl,q a _ (Ext.refl a) s rfl⟩
 ·obtain⟨v,rfl,h1⟩:=reps1 r
  cases(show v=V.bl _ from h1)
  exact .inr ⟨_,rfl,q a _ (Ext.refl a) s rfl⟩
 ·exact q.elim
noncomputable def Ds(ds:List D)(G:DH):R D:=match ds with
 |[.int i]=>if i.natAbs.log2<1920 then .ok (.str (toString i)) G else .bad
 |_=>.bad
theorem ZHt:CallR X (.type "str") (lRn X.K E Ds):=ZBw.mono λvs H Q h=>by
 obtain⟨a,G,ds,hk,rfl,s,r,q⟩:=h;unfold Ds at q;split at q
 ·obtain⟨v,rfl,h1⟩:=reps1 r
  cases(show v=V.int _ from h1)
  split at q
  ·exact⟨_,rfl,by assumption,q a _ (Ext.refl a) s rfl⟩
  ·exact q.elim
 ·exact q.elim
noncomputable def Fo(o:D)(ds:List D)(G:DH):R D:=match o,ds with
 |.ref i,[d]=>match G[i]? with
  |some (.lst xs)=>if xs.length<1000000 then .ok .non (G.set i (.lst (xs++[d])))else .bad
  |_=>.bad
 |_,_=>.bad
def lRm(K:PySem.W.Frag)(E:XK)(f:D->List D->DH->R D):V->List V->Hp->VK->Prop:=λx xs H Q=>∃(a:Wd)(G:DH)(d:D)(ds:List D),a.K=K/\a.H=H/\Sim a G/\Rep a d x/\Reps a ds xs/\out E a (f d ds G) Q
theorem Sim.isList(s:Sim a G)(h:G[i]?=xF (.lst xs)):∃vs,SqL a.K a.H (a.m i) vs:=let⟨vs,e,_⟩:=s.lst h;⟨vs,.of e⟩
theorem ZES:MtM X "list.append" (lRm X.K E Fo):=ZDZ.mono λx xs H Q h=>by
 obtain⟨a,G,d,ds,hk,rfl,s,rd,r,q⟩:=h;unfold Fo at q;split at q
 ·rename_i i d;obtain⟨v,rfl,rv⟩:=reps1 r;split at q
  ·rename_i ys hy;split at q
   ·rename_i hl;obtain⟨vs,e1,r1⟩:=s.lst hy;obtain⟨x3,s3⟩:=ZB4 s rd.1 e1 (r1.append (Reps.cons rv Reps.nil));refine⟨a.m i,vs,v,rd.2,rfl,e1,by rw[<-r1.length];exact zZ hl size6,?_⟩;exact q _ .non x3 s3 rfl
   ·exact q.elim
  ·exact q.elim
 ·exact q.elim
variable{o e:j8}{es:List j8}{to:DE}{t:DA}{name:Str}{apos cpos:Pos}{T id:String}{f:D->List D->DH->R D}
noncomputable def isL(d:D)(G:DH):Bool:=match d with
 |.ref i=>match G[i]? with
  |some (.lst _)=>xH
  |_=>xI
 |.fl _=>xH
 |_=>xI
def Ff(f:D->List D->DH->R D)(o:DE)(t:DA):DE:=λS G=>(o S G).bind λx G1=>if isL x G1=xH then(t S G1).bind λxs G2=>f x xs G2 else .bad
theorem ZHl{x:V}(s:Sim a G)(r:Rep a d x)(h:isL d G=xH):tyV a.K "list" x a.H:=by
 cases d with
 |ref i=>
  unfold isL at h;dsimp only at h;split at h
  ·rename_i xs hx;cases r.2;exact .inl ⟨rfl,s.isList hx⟩
  ·cases h
 |fl xs=>
  obtain⟨p,vs,rfl,q,_⟩:=r;exact .inl ⟨rfl,vs,q.sq⟩
 |_=>cases h
theorem ZCV(slot:Slot "list" name id)(hty:typeOf (.builtin id)=pure (.type "method_descriptor"))(hm:MtM X id (lRm X.K E f))(ho:QE X E o to)(ha:QA X E (e::es) t)
  (hbase:jI o name X.env (eval o X.env)=eval o X.env:=by rfl)
  (hfew:((jL cpos (xW (e::es) X.env)).all (λx=> !x.1)&&(backToKw cpos (jT [] X.env)).all (λx=>x.1.isSome)
   && decide ((e::es).length+([]:List Keyword).length+(if([]:List Keyword).isEmpty then 0 else 1)<30))=xH:=by rfl)
  (hline:(apos.endLine==cpos.line)=xH:=by rfl) (hs:xW (e::es) X.env=(xI,eval e X.env)::xW es X.env:=by rfl) (hplain:(jL cpos (xW es X.env)).any (·.1)=xI:=by rfl):
  QE X E (.Call (.Attribute o name apos) (e::es) [] cpos) (Ff f to t):=(ZA4 PySem.F.plainAttrs_list slot hty hm ho ha hbase hfew hline hs hplain).mono λσ H Q h=>by
 obtain⟨a,S,G,hk,rfl,s,r,h⟩:=h;refine⟨a,S,G,hk,rfl,s,r,(Ci h).imp ?_⟩;rintro v _ ⟨b,d,G1,rfl,x,s1,q,-,h1⟩;split at h1
 ·rename_i hl;have ty:=ZHl s1 q hl;rw[x.k,hk]at ty;refine⟨ty,b,S,G1,x.k.trans hk,rfl,s1,r.mono x,(Le h1).imp ?_⟩;rintro vs _ ⟨c,ds,G2,rfl,y,s2,q2,-,h2⟩;exact⟨c,G2,d,ds,y.k.trans (x.k.trans hk),rfl,s2,q.mono y,q2,h2⟩
 ·exact h1.elim
end
inductive Ty where|non|bl|int|str|tup|lst
noncomputable def Ty.name:Ty->String
 |.non=>"NoneType" | .bl=>"bool" | .int=>"int" | .str=>"str" | .tup=>"tuple" | .lst=>"list"
def tyD(G:DH):D->Option Ty
 |.non=>xF .non
 |.bl _=>xF .bl
 |.int _=>xF .int
 |.str _=>xF .str
 |.tup _=>xF .tup
 |.fl _=>xF .lst
 |.ref i=>match G[i]? with
  |some (.lst _)=>xF .lst
  |_=>xG
 |.ty _=>xG
noncomputable def Ty.sub(t:Ty):String->Option Bool
 |"int"=>xF (match t with | .int=>xH | .bl=>xH|_=>xI)
 |"bool"=>xF (match t with | .bl=>xH|_=>xI)
 |"str"=>xF (match t with | .str=>xH|_=>xI)
 |"tuple"=>xF (match t with | .tup=>xH|_=>xI)
 |"list"=>xF (match t with | .lst=>xH|_=>xI)
 |_=>xG
def Ce(ds:List D)(G:DH):R D:=match ds with
 | [d,.ty T]=>match tyD G d with
  |some t=>match t.sub T with
   |some k=>.ok (.bl k) G
   |none=>.bad
  |none=>.bad
 |_=>.bad
theorem ZCf{K:PySem.W.Frag}{t:Ty}{T:String}{k:Bool}(h:t.sub T=xF k):PySem.W.kitOne K (.type t.name) (.type T)=xF k:=by
 unfold Ty.sub at h;split at h
 iterate 5 (cases t<;>cases h<;>rfl)
 cases h
section
variable{X:Cx}{E:XK}
theorem ZEY:CallR X (.builtin "isinstance") (lRn X.K E Ce):=by
 intro xE s σ H vs us Q I rs h;obtain⟨a,G,ds,hk,rfl,sm,r,q⟩:=h;unfold Ce at q;split at q
 ·rename_i d T;obtain⟨v,v',rfl,h1,h2⟩:=reps2 r
  cases(show v'=V.ty T from h2)
  obtain⟨u,u',rfl,ru,ru'⟩:∃u u',us=[u,u']/\RelV v u/\RelV (.ty T) u':=by
   cases rs with
   |cons p q=>cases q with
    |cons p' q'=>cases q';exact⟨_,_,rfl,p,p'⟩
  cases(show u'=Value.type T from ru')
  split at q
  ·rename_i t ht;split at q
   ·rename_i k hk';have fin:∀tk:Nat,EP X xE σ Q (.bool k) {s with toks:=tk}:=λtk=>⟨.bl k,a.H,I.tok _,rfl,q a _ (Ext.refl a) sm rfl⟩
    have e:=ZCf (K:=X.K) hk';clear q hk' r;have L:∀(p:j6)(ws:List V),SqL X.K a.H p ws->u=.ref p->t=.lst->xY (xZ X.prog X.w) X.A (call (.builtin "isinstance") [u,.type T]) (EP X xE σ Q) X.xe s:=λp ws hq eu et=>by
     subst eu et;obtain⟨its,_,pl,_⟩:=I.list hq
     exact PySem.W.kia_one PySem.W.kitx_list I.kIn (let⟨o,e,c,_⟩:=pl.isList;⟨o,e,c⟩) e (λz=>nomatch z) fin
    cases d with
    |non=>cases ht;cases(show v=_ from h1);cases ru;exact PySem.W.kia_one PySem.W.kitx_none I.kIn True.intro e (λz=>nomatch z) fin
    |bl b=>cases ht;cases(show v=_ from h1);cases ru;exact PySem.W.kia_one PySem.W.kitx_bool I.kIn True.intro e (λz=>nomatch z) fin
    |int b=>cases ht;cases(show v=_ from h1);obtain⟨tk,rfl⟩:=ru;exact PySem.W.kia_one PySem.W.kitx_int I.kIn True.intro e (λz=>nomatch z) fin
    |str b=>cases ht;cases(show v=_ from h1);obtain⟨tk,rfl⟩:=ru;exact PySem.W.kia_one PySem.W.kitx_str I.kIn True.intro e (λz=>nomatch z) fin
    |tup b=>
     cases ht;obtain⟨p,ws,rfl,hq,_⟩:=h1;cases ru;rw[hk]at hq;obtain⟨its,_,pl,_⟩:=I.tuple hq
     exact PySem.W.kia_one PySem.W.kitx_tuple I.kIn (let⟨o,e,c,_⟩:=pl;⟨o,e,c⟩) e (λz=>nomatch z) fin
    |fl b=>
     cases ht;obtain⟨p,ws,rfl,hq,_⟩:=h1;exact L p ws (hk▸hq.sq) ru rfl
    |ref b=>
     unfold tyD at ht;dsimp only at ht;split at ht
     ·rename_i xs hx;cases ht;obtain⟨ws,e1,_⟩:=sm.lst hx;cases h1.2;exact L _ ws (.of e1) ru rfl
     ·cases ht
    |ty n=>cases ht
   ·exact q.elim
  ·exact q.elim
 ·exact q.elim
end
noncomputable def Dh:List D->Option (List Bool)
 |[]=>xF []
 |.bl i::r=>(Dh r).map (i::·)
 |_=>xG
@[simp]theorem ZIr(ns:List Bool):Dh (ns.map D.bl)=xF ns:=by
 induction ns with
 |nil=>rfl
 |cons n ns ih=>simp[Dh,ih]
theorem R5:∀{xs:List D}{ns:List Bool},Dh xs=xF ns->xs=ns.map D.bl
 |[],ns,h=>by cases h;rfl
 |.bl i::r,ns,h=>by simp only[Dh,zC]at h;obtain⟨ms,h1,rfl⟩:=h;rw[zV,R5 h1]
 |.non::r,ns,h=>by simp[Dh]at h
 |.int _::r,ns,h=>by simp[Dh]at h
 |.str _::r,ns,h=>by simp[Dh]at h
 |.ty _::r,ns,h=>by simp[Dh]at h
 |.tup _::r,ns,h=>by simp[Dh]at h
 |.fl _::r,ns,h=>by simp[Dh]at h
 |.ref _::r,ns,h=>by simp[Dh]at h
def Ga(ds:List D)(G:DH):R D:=match ds with
 | [d]=>match Cj d G with
  |some xs=>match Dh xs with
   |some ns=>.ok (.bl (ns.all id)) G
   |none=>.bad
  |none=>.bad
 |_=>.bad
def Ls(ds:List D)(G:DH):R D:=match ds with
 | [d]=>match Cj d G with
  |some xs=>match Dh xs with
   |some ns=>.ok (.bl (ns.any id)) G
   |none=>.bad
  |none=>.bad
 |_=>.bad
section
variable{X:Cx}{E:XK}{xE:List (j6×Obj)}{σ:St}{s:jD}{H:Hp}
theorem Yh(I:Inv X xE σ H s)(hc:X.calm=xH)(h:SqL X.K H p vs∨SqT X.K H p vs){E':jF->jD->Prop}{Q:jF->jD->Prop}
  (hQ:∀(it:j6)(fp wr:List j6)(its:List jF)(St:Nat->Heap->Prop)(s₂:jD),Vals vs its->Walks X.prog X.w X.A.in1 it fp wr its.toArray.size (λi v=>its.toArray[i]?=xF v) St->St 0 s₂.heap->(∀b∈fp,b<s₂.heap.objs.size)->
   (∀h' tk,(∀b o,b∉wr->s₂.heap.get? b=xF o->h'.get? b=xF o)->Inv X xE σ H {s₂ with heap:=h',toks:=tk})->Q (.ref it) s₂):
  xY (xZ X.prog X.w) X.A.in1 (pyIter (.ref p)) Q E' s:=by
 have hh:X.A.in1.handled=xG:=I.ok.hd hc;rcases h with h|h
 ·obtain⟨its,r,pl,hz⟩:=I.list h;refine wpAny_pyIter_list pl.isList ?_;have hp:p<s.heap.objs.size:=by obtain⟨o,e,_⟩:=pl.isList;exact zX e
  refine hQ _ _ _ its _ _ r (Walks.list hh _ p (zG hp) its.toArray) ⟨⟨_,zD _ rfl,rfl,rfl⟩,?_⟩ (λb hb=>?_) λh' tk kk=>?_
  ·obtain⟨o,e,c⟩:=pl.isList;exact⟨o,zQ _ e,c⟩
  ·show b<(s.heap.push _).objs.size;rw[jz];rcases zv.mp hb with rfl|hb
   ·exact zP _
   ·have e:b=p:=by simpa using hb
    subst e;exact jv hp
  ·refine I.kept λb o e=>kk b o (λhb=>?_) (zQ _ e)
   have e2:b=s.heap.objs.size:=by simpa using hb
   subst e2;exact absurd (zX e) (zA _)
 ·obtain⟨its,r,pl,hz⟩:=I.tuple h
  refine wpAny_pyIter_tuple (show s.heap.IsTuple p its.toArray from pl) ?_
  have hp:p<s.heap.objs.size:=by obtain⟨o,e,_⟩:=pl;exact zX e
  refine hQ _ _ _ its _ _ r (Walks.tuple hh _ p (zG hp) its.toArray) ⟨⟨_,zD _ rfl,rfl,rfl⟩,?_⟩ (λb hb=>?_) λh' tk kk=>?_
  ·obtain⟨o,e,c⟩:=pl;exact⟨o,zQ _ e,c⟩
  ·show b<(s.heap.push _).objs.size;rw[jz];rcases zv.mp hb with rfl|hb
   ·exact zP _
   ·have e:b=p:=by simpa using hb
    subst e;exact jv hp
  ·refine I.kept λb o e=>kk b o (λhb=>?_) (zQ _ e)
   have e2:b=s.heap.objs.size:=by simpa using hb
   subst e2;exact absurd (zX e) (zA _)
theorem T9:∀{ns:List Bool}{vs:List V},Reps a (ns.map D.bl) vs->vs=ns.map V.bl
 |[],vs,h=>h
 |n::ns,vs,h=>by
  obtain⟨v,r,e,h1,h2⟩:=h
  cases(show v=V.bl n from h1)
  rw[e,T9 h2]
  rfl
theorem all_range(ns:List Bool):(qK ns.length).all (λi=>ns.getD i xH)=ns.all id:=by
 rw[Bool.eq_iff_iff,qA,qA];constructor
 ·intro h b hb;obtain⟨i,hi,rfl⟩:=List.getElem_of_mem hb;simpa[hi]using h i (qM.mpr hi)
 ·intro h i hi;have hi':i<ns.length:=qM.mp hi;simpa[hi']using h ns[i] (qO hi')
theorem any_range(ns:List Bool):(qK ns.length).any (λi=>ns.getD i xH)=ns.any id:=by
 rw[Bool.eq_iff_iff,List.any_eq_true,List.any_eq_true];constructor
 ·rintro⟨i,hi,h⟩;have hi':i<ns.length:=qM.mp hi;exact⟨ns[i],qO hi',by simpa[hi']using h⟩
 ·rintro⟨b,hb,h⟩;obtain⟨i,hi,rfl⟩:=List.getElem_of_mem hb;exact⟨i,qM.mpr hi,by simpa[hi]using h⟩
theorem ZIY(hc:X.calm=xH):CallR X (.builtin "all") (lRn X.K E Ga):=by
 intro xE s σ H vs us Q I rs h;obtain⟨a,G,ds,hk,rfl,sm,r,q⟩:=h;unfold Ga at q;split at q
 ·rename_i d;obtain⟨v,rfl,rv⟩:=reps1 r;split at q
  ·rename_i xs hs;split at q
   ·rename_i ns hn;cases R5 hn;obtain⟨p,ws,rfl,h1,r1⟩:=Hy sm rv hs;cases T9 r1;rw[hk]at h1;obtain⟨u,rfl,ru⟩:=vals1 rs;cases ru;refine call_all_walk (Yh I hc h1 λit fp wr its St s₂ hv W st hfp fin=>⟨it,fp,wr,its.toArray.size,_,St,λi=>ns.getD i xH,rfl,W,st,λi w s' Q' E' hw hQ'=>?_,λh' tk kk=>?_⟩)
    ·have hw':its[i]?=xF w:=by simpa using hw
     have hl:i<(ns.map V.bl).length:=by rw[hv.length];exact(z9.mp hw').1
     have hl':i<ns.length:=by simpa using hl
     obtain⟨u,hu,ru⟩:=hv.get (i:=i) (x:=V.bl ns[i]) (by simp[hl']);rw[hw']at hu;cases hu;cases ru;refine xB ?_;simpa[hl']using hQ'
    ·refine⟨.bl (ns.all id),a.H,fin h' tk kk,?_,q a _ (Ext.refl a) sm rfl⟩;have hl:its.toArray.size=ns.length:=by rw[zY,<-hv.length];simp
     rw[hl,all_range]
     rfl
   ·exact q.elim
  ·exact q.elim
 ·exact q.elim
theorem ZG0(hc:X.calm=xH):CallR X (.builtin "any") (lRn X.K E Ls):=by
 intro xE s σ H vs us Q I rs h;obtain⟨a,G,ds,hk,rfl,sm,r,q⟩:=h;unfold Ls at q;split at q
 ·rename_i d;obtain⟨v,rfl,rv⟩:=reps1 r;split at q
  ·rename_i xs hs;split at q
   ·rename_i ns hn;cases R5 hn;obtain⟨p,ws,rfl,h1,r1⟩:=Hy sm rv hs;cases T9 r1;rw[hk]at h1;obtain⟨u,rfl,ru⟩:=vals1 rs;cases ru;refine call_any_walk (Yh I hc h1 λit fp wr its St s₂ hv W st hfp fin=>⟨it,fp,wr,its.toArray.size,_,St,λi=>ns.getD i xH,rfl,W,st,λi w s' Q' E' hw hQ'=>?_,λh' tk kk=>?_⟩)
    ·have hw':its[i]?=xF w:=by simpa using hw
     have hl:i<(ns.map V.bl).length:=by rw[hv.length];exact(z9.mp hw').1
     have hl':i<ns.length:=by simpa using hl
     obtain⟨u,hu,ru⟩:=hv.get (i:=i) (x:=V.bl ns[i]) (by simp[hl']);rw[hw']at hu;cases hu;cases ru;refine xB ?_;simpa[hl']using hQ'
    ·refine⟨.bl (ns.any id),a.H,fin h' tk kk,?_,q a _ (Ext.refl a) sm rfl⟩;have hl:its.toArray.size=ns.length:=by rw[zY,<-hv.length];simp
     rw[hl,any_range]
     rfl
   ·exact q.elim
  ·exact q.elim
 ·exact q.elim
end
section
variable{X:Cx}{xE:List (j6×Obj)}{σ:St}{H:Hp}{s:jD}
theorem ZAO{a:j6}{o:HO}(I:Inv X xE σ H s)(hn:H a=xG)(hy:X.s₀.heap.objs.size<=a)(hL:a≠X.env.locals)(hc:∀x c,X.env.cells.lookup x=xF c->c≠a)(hp:∀p∈X.pn++xE,p.1≠a)
  (new:ObjOk X.prog X.w (upd H a o) s.heap a o):Inv X xE σ (upd H a o) s:=by
 have ne:∀b u,H b=xF u->b≠a:=λb u e z=>by rw[z,hn]at e;cases e
 refine⟨I.ok,I.os,I.bare,⟨I.base.keep,I.base.slot,λb ob q n hx=>?_,I.base.there,λb xs q=>?_,λb ob u q=>?_,λb ps q=>?_⟩,I.loc,I.cell,?_,λx c e=>?_,λp hp'=>?_,λb u e=>?_,I.len⟩
 ·rw[Al (zG (zZ (zX q) hy))];exact I.base.free b ob q n hx
 ·have:=I.base.tups b xs q;rw[Al (ne _ _ this)];exact this
 ·have:=I.base.frzs b ob u q;rw[Al (ne _ _ this)];exact this
 ·obtain⟨more,this⟩:=I.base.tbls b ps q;exact⟨more,by rw[Al (ne _ _ this)];exact this⟩
 ·rw[Al (Ne.symm hL)];exact I.free
 ·rw[Al (hc x c e)];exact I.Dc x c e
 ·obtain⟨e1,e2,e3⟩:=I.pin p hp';exact⟨e1,by rw[Al (hp p hp')];exact e2,e3⟩
 ·by_cases hb:b=a
  ·subst hb;rw[En]at e;cases e;exact new
  ·rw[Al hb]at e;exact(I.hok b u e).stay (λ_ _ _ q=>q) (λc q=>by rw[Al (ne _ _ q)];exact q) λc xs q=>by rw[Al (ne _ _ q)];exact q
end
noncomputable def Bx(env:Env):List (Str×jA)->List (Str×j6)->List (Str×j6)
 |[],cs=>cs
 |(n,k)::r,cs=>if(k==NameKind.free)=xH then Bx env r ((n,(env.cells.lookup n).getD 0)::cs)else Bx env r cs
theorem X8(h:∀y∈scope.names,y.2=.free->∃c,env.cells.lookup y.1=xF c):closureFor scope env=pure (Bx env scope.names []):=by
 unfold closureFor;obtain⟨kind,names,g1,g2⟩:=scope;have key:∀(names:List (Str×jA))(cs:List (Str×j6)),(∀y∈names,y.2=.free->∃c,env.cells.lookup y.1=xF c)->
   (forIn names cs (λx r=>match x with
    |(name,kind)=>if(kind==NameKind.free)=xH then(do let c<-cellOf env name;pure (ForInStep.yield ((name,c)::r)))else pure (ForInStep.yield r)):Sem (List (Str×j6)))=pure (Bx env names cs):=by
  intro names
  induction names with
  |nil=>intro cs _;rfl
  | cons y r ih=>
   intro cs hy;obtain⟨n,k⟩:=y;rw[List.forIn_cons];by_cases hk:(k==NameKind.free)=xH
   ·obtain⟨c,hc⟩:=hy (n,k) zU (by simpa using hk)
    have e1:cellOf env n=pure c:=by unfold cellOf;rw[show env.cells.lookup n=xF c from hc]
    have e2:Bx env ((n,k)::r) cs=Bx env r ((n,c)::cs):=by rw[Bx,if_pos hk,show env.cells.lookup n=xF c from hc];rfl
    rw[e2,<-ih ((n,c)::cs) λy' hy'=>hy y' (zW _ hy')];simp only[hk,if_true,e1]
    rfl
   ·have e2:Bx env ((n,k)::r) cs=Bx env r cs:=by rw[Bx,if_neg hk]
    rw[e2,<-ih cs λy' hy'=>hy y' (zW _ hy')];simp only[hk]
    rfl
 have:=key names [] h;exact congrArg (λm:Sem (List (Str×j6))=>m >>=λr=>pure r) this
theorem Qz:∀{names:List (Str×jA)}{cs:List (Str×j6)},(∀y∈names,y.2=.free->∃c,env.cells.lookup y.1=xF c)->(∀p∈cs,env.cells.lookup p.1=xF p.2)->∀p∈Bx env names cs,env.cells.lookup p.1=xF p.2
 |[],cs,_,hc,p,hp=>hc p hp
 | (n,k)::r,cs,hn,hc,p,hp=>by
  rw[Bx]at hp;split at hp
  ·rename_i hk;obtain⟨c,e⟩:=hn (n,k) zU (by simpa using hk);refine Qz (λy hy=>hn y (zW _ hy)) (λq hq=>?_) p hp;rcases zv.mp hq with rfl|hq
   ·rw[show env.cells.lookup n=xF c from e];rfl
   ·exact hc q hq
  ·exact Qz (λy hy=>hn y (zW _ hy)) hc p hp
theorem K7:∀{names:List (Str×jA)}{cs:List (Str×j6)},((x,.free)∈names∨∃c,(x,c)∈cs)->∃c,(x,c)∈Bx env names cs
 |[],cs,h=>by
  rcases h with h|h
  ·cases h
  ·exact h
 | (n,k)::r,cs,h=>by
  rw[Bx];split
  ·refine K7 ?_;rcases h with h|⟨c,h⟩
   ·rcases zv.mp h with e|h
    ·cases e;exact .inr ⟨_,zU⟩
    ·exact .inl h
   ·exact .inr ⟨c,zW _ h⟩
  ·rename_i hk;refine K7 ?_;rcases h with h|h
   ·rcases zv.mp h with e|h
    ·cases e;exact absurd rfl hk
    ·exact .inl h
   ·exact .inr h
theorem Ob{c:j6}:∀{l:List (Str×j6)},(x,c)∈l->∃d,l.lookup x=xF d
 |[],h=>by cases h
 | (y,d)::l,h=>by
  by_cases e:x=y
  ·subst e;exact⟨d,by simp⟩
  ·rcases zv.mp h with z|h
   ·cases z;exact absurd rfl e
   ·obtain⟨d',q⟩:=Ob h;exact⟨d',by rw[qB,beq_eq_false_iff_ne.mpr e];exact q⟩
theorem Sh(x:Str):(relabel scope env).names.lookup x=(scope.names.lookup x).map λk=>if(k==NameKind.free&&env.scope.kind == .function&&env.kindOf x==xF .cell)=xH then .cell else k:=by
 unfold relabel;generalize scope.names=l
 induction l with
 |nil=>rfl
 | cons y r ih=>
  obtain⟨n,k⟩:=y;by_cases e:x=n
  ·subst e;simp only[zV]
   cases hc:(k==NameKind.free&&env.scope.kind==ScopeKind.function&&env.kindOf x==xF NameKind.cell) <;>
    simp only[hc,if_true,qB,beq_self_eq_true,Option.map_some,Bool.false_eq_true,if_false]
  ·have hb:(x==n)=xI:=beq_eq_false_iff_ne.mpr e;simp only[zV];split
   ·rw[qB,qB,hb];exact ih
   ·rw[qB,qB,hb];exact ih
def blk(X:Cx)(N:List Str)(scope:jC)(C:j6)(s₀:jD)(H₀:Hp)(ex:List j6):Cx where
 prog:=X.prog
 w:=X.w
 K:=X.K
 mg:=X.mg
 base:=X.base
 A:=X.A
 N:=N
 s₀:=s₀
 H₀:=H₀
 env:=compEnvC scope (Bx X.env scope.names []) C X.env
 outer:=X.stack
 stack:=X.stack
 ex:=ex
 fn:=λ_=>xI
 calm:=X.calm
 pn:=[]
 xe:=λ_ _=>False
structure CompSc (X:Cx) (N:List Str) (scope:jC) (nt:Nat) (caps:List Nat):Prop where
 kind:scope.kind=.function
 names:∀y∈scope.names,y.2=.local->scope.names.lookup y.1=xF .local
 nocell:∀y∈scope.names,y.2≠ .cell
 free:∀y∈scope.names,y.2=.free->X.env.kindOf y.1=xF .cell∨X.env.kindOf y.1=xF .free
 nd:N.Nodup
 len:N.length=nt+caps.length
 cap:∀(k j:Nat),caps[k]?=xF j->∃x,X.N[j]?=xF x/\N[nt+k]?=xF x/\scope.names.lookup x=xF .free
section
variable{X:Cx}{xE:List (j6×Obj)}{σ:St}{H:Hp}{s:jD}{N:List Str}{scope:jC}{nt:Nat}{caps:List Nat}
theorem CompSc.cells(c:CompSc X N scope nt caps)(ok:X.Ok):∀y∈scope.names,y.2=.free->∃c,X.env.cells.lookup y.1=xF c:=λy hy hk=>ok.has y.1 (c.free y hy hk)
theorem CompSc.cl(c:CompSc X N scope nt caps)(ok:X.Ok){d:j6}(h:(Bx X.env scope.names []).lookup x=xF d):X.env.cells.lookup x=xF d:=
 Qz (c.cells ok) (λp hp=>by cases hp) (x,d) (PySem.mem_of_lookup h)
theorem Wn(c:CompSc X N scope nt caps)(I:Inv X xE σ H s){fp:List j6}(hf:∀b∈fp,FpOk X xE H b){C:j6}(hC:s.heap.objs.size<=C)(hCf:C∉fp):(blk X N scope C s H fp).Ok where
 mod:=I.ok.mod
 kind:=c.kind
 glob:=I.ok.glob
 blt:=I.ok.blt
 above:=hC
 inj:=λx y d h1 h2=>I.ok.inj x y d (c.cl I.ok h1) (c.cl I.ok h2)
 has:=λx h=>by
  have h':(relabel scope X.env).names.lookup x=xF .cell∨(relabel scope X.env).names.lookup x=xF .free:=h;rw[Sh]at h';have hfree:scope.names.lookup x=xF .free:=by
   cases e:scope.names.lookup x with
   |none=>rw[e]at h';rcases h' with h'|h'<;>cases h'
   |some k=>
    rw[e]at h';cases k with
    |free=>rfl
    |cell=>exact absurd rfl (c.nocell _ (PySem.mem_of_lookup e))
    |_=>rcases h' with h'|h'<;>(simp at h')
  obtain⟨d,hd⟩:=K7 (env:=X.env) (x:=x) (names:=scope.names) (cs:=[]) (.inl (PySem.mem_of_lookup hfree));exact Ob hd
 cab:=λx d h=>by cases h
 hd:=I.ok.hd
 frames:=I.ok.frames
 stk:=.inl rfl
 exf:=λb hb=>⟨λz=>hCf (by rw[<-show b=C from z];exact hb),λx d h=>(hf b hb).2.2.2.2.1 x d (c.cl I.ok h)⟩
 bs:=I.bs
 bsz:=zx I.ok.bsz I.sz
 noex:=λb o e hb=>by
  rcases(hf b hb).2.2.2.1 with h|h
  ·exact I.ok.noex b o e h
  ·exact absurd (zZ (zX (I.ok.bs b o e).1) h) (zA _)
 exfs:=λb hb hz=>by
  rcases zv.mp (I.Jq b hz)with z|z
  ·exact(hf b hb).2.1 z
  ·exact(hf b hb).2.2.1 z
 funs:=I.stack
 frf:=I.O3
end
def Bj(g:DG)(c:DB)(te:DE)(S:DSt):List D->DH->R (List D)
 |[],G=>.ok [] G
 | x::xs,G=>(g x S G).bind λS1 G1=>(c S1 G1).bind λk G2=>
   if k=xH then(te S1 G2).bind λd G3=>(Bj g c te S xs G3).bind λds G4=>.ok (d::ds) G4 else Bj g c te S xs G2
def Gg(i:Nat)(g:DG)(c:DB)(te:DE)(S:DSt):Nat->Nat->DH->R (List D)
 |0,j,G=>match G[i]? with
  |some (.lst xs)=>if xs.length<=j then .ok [] G else .bad
  |_=>.bad
 | n + 1,j,G=>match G[i]? with
  |some (.lst xs)=>match xs[j]? with
   | some x=>(g x S G).bind λS1 G1=>(c S1 G1).bind λk G2=>
     if k=xH then(te S1 G2).bind λd G3=>(Gg i g c te S n (j+1) G3).bind λds G4=>.ok (d::ds) G4 else Gg i g c te S n (j+1) G2
   |none=>.ok [] G
  |_=>.bad
def Bu(f:Nat->DH->Option (Option D))(g:DG)(c:DB)(te:DE)(S:DSt):Nat->Nat->DH->R (List D)
 |0,j,G=>match f j G with
  |some xG=>.ok [] G
  |_=>.bad
 | n + 1,j,G=>match f j G with
  |some (xF x)=>(g x S G).bind λS1 G1=>(c S1 G1).bind λk G2=>
     if k=xH then(te S1 G2).bind λd G3=>(Bu f g c te S n (j+1) G3).bind λds G4=>.ok (d::ds) G4 else Bu f g c te S n (j+1) G2
  |some xG=>.ok [] G
  |none=>.bad
noncomputable def Ar(nt:Nat)(caps:List Nat)(S:DSt):DSt:=zE nt xG++caps.map λj=>(S[j]?).join
def Ih(it:DI)(nt:Nat)(caps:List Nat)(g:DG)(c:DB)(te:DE):DE:=λS G=>(it S G).bind λJ G1=>(match J with
 |.pure xs=>Bj g c te (Ar nt caps S) xs G1
 |.mt i=>match G1[i]? with
  |some (.lst xs)=>Gg i g c te (Ar nt caps S) xs.length 0 G1
  |_=>.bad
 |.fn n f=>Bu f g c te (Ar nt caps S) n 0 G1).bind Ah
noncomputable def Di:DB:=λ_ G=>.ok xH G
def GK(nt:Nat)(g:DG):Prop:=∀d S G S1 G1,g d S G=.ok S1 G1->∀i e,nt<=i->S[i]?=xF (xF e)->S1[i]?=xF (xF e)
theorem ZCt{nt:Nat}(h:i<nt):GK nt (gV i):=λd S G S1 G1 e j x hj hx=>by cases e;rw[jZ (by lia)];exact hx
theorem Zu{r:R DSt}{f:DSt->DH->R D}(h:out E a (r.bind f) Q):
  Dl E a r (λσ H=>∃(b:Wd)(S:DSt)(G:DH),b.H=H/\Ext a b/\Sim b G/\RepS b S σ/\r=.ok S G/\out E b (f S G) Q):=by
 cases r with
 |ok d G=>exact λb v x s q=>⟨b,d,G,rfl,x,s,q,rfl,out.mono x h⟩
 |err e G=>exact h
 |bad=>exact h
theorem R.bind_assoc{γ:Type}(r:R α)(f:α->DH->R β)(g:β->DH->R γ):(r.bind f).bind g=r.bind λa G=>(f a G).bind g:=by cases r<;>rfl
theorem ZAa{r:R ItD}{f:ItD->DH->R D}(h:out E a (r.bind f) Q):
  outI E a r (λJ H=>∃(b:Wd)(d:ItD)(G:DH),b.H=H/\Ext a b/\Sim b G/\RepI b d J/\r=.ok d G/\out E b (f d G) Q):=by
 cases r with
 |ok d G=>exact λb v x s q=>⟨b,d,G,rfl,x,s,q,rfl,out.mono x h⟩
 |err e G=>exact h
 |bad=>exact h
section
variable{prog:jB}{w:jG}{A:j7}{R':Result->jD->Prop}{s:jD}
def CItem(prog:jB)(w:jG)(A:j7)(target elt:j8)(ifs:List j8)(acc:jF)(env:Env)(P:jD->Prop)(v:jF)(s:jD):Prop:=
 xY (xZ prog w) A (assign target env v) (λ_ s₂=>
  xY (xZ prog w) A (forIn ifs xH λc r=>if r=xH then do let ok<-isTrue c env (eval c env);pure (ForInStep.yield ok)else pure (ForInStep.yield r)) (λok s₃=>
   if ok=xH then xY (xZ prog w) A (eval elt env) (λx s₄=>xY (xZ prog w) A (call (.builtin "list.append") [acc,x]) (λ_ s₅=>P s₅) (λ_ _=>False) s₄) (λ_ _=>False) s₃
   else P s₃) (λ_ _=>False) s₂) (λ_ _=>False) s
def CTurn(prog:jB)(w:jG)(A:j7)(target elt:j8)(ifs:List j8)(it acc:jF)(env:Env)(R' P:jD->Prop)(s:jD):Prop:=
 xY (xZ prog w) A (pyNext it) (λr s₁=>match r with
  |none=>R' s₁
  |some v=>xY (xZ prog w) A (jU target it v) (λ_ s₁=>CItem prog w A target elt ifs acc env P v s₁) (λ_ _=>False) s₁) (λ_ _=>False) s
theorem ZHs{elt target iter:j8}{ifs:List j8}{pos:Pos}{it acc:jF}(I:Nat->jD->Prop)
  (turn:∀n s,I n s->CTurn prog w A target elt ifs it acc env (R' (.ok .next)) (λs'=>∃m,m<n/\I m s') s)
  (n:Nat) (h:I n s):
  codeAny (xZ prog w) A (.compLoop (.ListComp elt [⟨target,iter,ifs,0⟩] scope pos) 0 it acc env) R' s:=by
 refine codeAny_loop rfl I (λn s hI=>?_) n h
 show xY _ A ((compTurn (.ListComp elt [⟨target,iter,ifs,0⟩] scope pos) 0 it acc env).onRaise (λx=>do noteFrame x env;theTreesLotGoes x)) _ _ s
 refine wpAny_noted ?_;rw[compTurn_list];refine xy ?_ (λ_ _ q=>q) (λ_ _(f:False)=>f.elim);refine xz (wpAny_standAt (xz (xy (turn n s hI) (λr s₁ h₁=>?_) λ_ _ h'=>h')));cases r with
 |none=>exact xA h₁
 | some v=>
  refine xz (xy h₁ (λ_ s₂' h₁=>?_) λ_ _ h'=>h');refine xz (xy h₁ (λ_ s₂ h₂=>xz (xy h₂ (λok s₃ h₃=>?_) λ_ _ h'=>h')) λ_ _ h'=>h');cases ok with
  |false=>exact xA ⟨rfl,h₃⟩
  |true=>
   exact xz (xz (xy h₃ (λx s₄ h₄=>xz (xy h₄ (λ_ s₅ h₅=>xA (xA ⟨rfl,h₅⟩)) λ_ _ h'=>h')) λ_ _ h'=>h'))
end
def QTs(X:Cx)(E:XK)(ifs:List j8)(t:DB):Prop:=
 ∀(xE:List (j6×Obj))(s:jD)(σ:St)(H:Hp)(Q:Bool->Hp->Prop),Inv X xE σ H s->lB X.K E t σ H Q->
  xY (xZ X.prog X.w) X.A (forIn ifs xH λc r=>if r=xH then do let ok<-isTrue c X.env (eval c X.env);pure (ForInStep.yield ok)else pure (ForInStep.yield r)) (TP X xE σ Q) X.xe s
theorem Qv:QTs X E [] Di:=λxE s σ H Q I h=>by obtain⟨a,S,G,hk,rfl,sm,r,h⟩:=h;exact wpAny_tests_nil ⟨a.H,I,h a (Ext.refl a) sm⟩
theorem ZFZ{c:j8}{t:DB}(hc:QT X E c t):QTs X E [c] t:=λxE s σ H Q I h=>wpAny_tests_one (hc xE s σ H Q I h)
section
variable{X:Cx}{E:XK}{N:List Str}{scope:jC}{nt:Nat}{caps:List Nat}{tg elt iter:j8}{ifs:List j8}{pos:Pos}{it:DI}{g:DG}{c:DB}{te:DE}
theorem ZAn(r:RepS a S σ):RepS a (Ar nt caps S) (zE nt xG++caps.map λj=>(σ[j]?).join):=by
 refine⟨by simp[Ar],λi d h=>?_⟩;unfold Ar at h;by_cases hi:i<nt
 ·rw[zH (by simpa using hi),qx]at h
  split at h<;>cases h
 ·rw [zB (by simpa using hi),zM]at h;rw[zB (by simpa using hi),zM];rw[qU]at h⊢;cases e:caps[i-nt]? with
  |none=>rw[e]at h;cases h
  | some j=>
   rw[e]at h;have h1:(S[j]?).join=xF d:=by simpa using h
   have h2:S[j]?=xF (xF d):=by
    cases q:S[j]? with
    |none=>rw[q]at h1;cases h1
    |some o=>
     rw[q]at h1;have h1':o=xF d:=h1;rw[h1']
   obtain⟨v,ev,rv⟩:=r.get j d h2;exact⟨v,by simp[ev],rv⟩
theorem ZBq(h:(Ar nt caps S)[i]?=xF (xF d)):nt<=i:=by
 unfold Ar at h;by_cases hi:i<nt
 ·rw[zH (by simpa using hi),qx]at h
  split at h<;>cases h
 ·lia
theorem Q6(hc:X.calm=xH)(cs:CompSc X N scope nt caps)
  (hg:∀C s₀ H₀ ex,QG (blk X N scope C s₀ H₀ ex) E0 tg g) (gk:GK nt g) (hts:∀C s₀ H₀ ex,QTs (blk X N scope C s₀ H₀ ex) E0 ifs c) (he:∀C s₀ H₀ ex,QE (blk X N scope C s₀ H₀ ex) E0 elt te)
  {xE:List (j6×Obj)} {σ:St} {s:jD} {a:Wd} {S:DSt} {G:DH} {J:It} {n0:Nat} {f:Nat->DH->Option (Option D)} {i0:j6} {fp:List j6} {tn:Nat->Heap->Prop} (I:Inv X xE σ a.H s) (hk:a.K=X.K) (sm:Sim a G) (rS:RepS a S σ)
  (T:Turn X.prog X.w X.K tg J fp i0 tn) (t0:tn 0 s.heap) (hf:∀b∈fp,FpOk X xE a.H b) (rJ:RepI a (.fn n0 f) J) {Q:VK}
  (h:out E0 a ((Bu f g c te (Ar nt caps S) n0 0 G).bind Ah) Q)
  {RR:jF->j6->Result->jD->Prop} {E':jF->jD->Prop}
  (hRR:∀(D C:j6)(s':jD)(b:Wd)(vs:List V),Inv X xE σ (upd b.H D (.lst vs)) s'->b.H D=xG->s.heap.objs.size<=C->D≠C->(∃m,s'.heap.Ns C m)->b.H C=xG->Q (.ref D) (upd b.H D (.lst vs))->RR (.ref D) C (.ok .next) s'):
  xY (xZ X.prog X.w) X.A (newList []) (λacc s₃=>xY (xZ X.prog X.w) X.A (newFunctionEnv scope X.env.globals (Bx X.env scope.names []) [] X.env.qual xG .none (xF X.env)) (λcenv s₄=>
   codeAny (xZ X.prog X.w) X.A (.compStart (.ListComp elt [⟨tg,iter,ifs,0⟩] scope pos) 0 (.ref i0) acc {cenv with scope:=relabel scope X.env}) (RR acc cenv.locals) s₄) E' s₃) E' s:=by
 refine x0 (wpAny_newFunctionEnv cs.nocell (by intro y hy;simp at hy) (λh₁ hns₁ hsb₁=>?_) cs.kind);dsimp only at hns₁ hsb₁⊢;generalize hH2:s.heap.push {cls:=.type "list",dict:=xG,data:=.seq ([]:List jF).toArray}=H2 at hns₁ hsb₁⊢;have hC:H2.objs.size=s.heap.objs.size+1:=by rw[<-hH2,jz]
 have hDC:s.heap.objs.size≠H2.objs.size:=by rw[hC];exact zG (zP _)
 have hCle:s.heap.objs.size<=H2.objs.size:=by rw[hC];exact qF _
 have fpOld:∀b∈fp,b<s.heap.objs.size:=λb hb=>by obtain⟨o,e,_⟩:=T.obj 0 _ t0 b hb;exact zX e
 have hDf:s.heap.objs.size∉fp:=λhm=>zA _ (fpOld _ hm)
 have hCf:H2.objs.size∉fp:=λhm=>by have:=fpOld _ hm;rw[hC]at this;exact zA _ (Nat.lt_of_succ_lt this)
 have old:∀b o,s.heap.get? b=xF o->h₁.get? b=xF o:=λb o e=>
  hsb₁.extBut b o (by rw[hC];exact zG (jv (zX e))) (zQ _ (hH2▸zQ _ e))
 have hacc:h₁.PlainList s.heap.objs.size ([]:List jF).toArray:=⟨_,hsb₁.extBut _ _ hDC (zQ _ (hH2▸zD _ rfl))⟩;generalize hCe:H2.objs.size=C at*;generalize hDe:s.heap.objs.size=Dd at*;let B:=blk X N scope C s a.H fp;have okB:B.Ok:=Wn cs I hf (by rw[hDe];exact hCle) hCf;let σ0:St:=zE nt xG++caps.map λj=>(σ[j]?).join
 have start:∀tk,Inv B [] σ0 a.H {s with heap:=h₁,toks:=tk}:=λtk=>by
  refine⟨okB,rfl,I.bare,Un.kept old,⟨_,hns₁,λi x v e1 e2 e3=>?_⟩,λx d' e=>?_,I.hok.fresh (by rw[hDe];exact hCle),λx d' e=>?_,λp hp=>?_,I.hok.kept old,?_⟩
  ·have hi:nt<=i:=by
    by_cases hi:i<nt
    ·have e2':σ0[i]?=xF (xF v):=e2;rw[zH (by simpa using hi),qx]at e2'
     split at e2'<;>cases e2'
    ·lia
   have e2':σ0[i]?=xF (xF v):=e2;rw[zB (by simpa using hi),zM,qU]at e2';cases ej:caps[i-nt]? with
   |none=>rw[ej]at e2';cases e2'
   | some j=>
    rw[ej]at e2';have h1:(σ[j]?).join=xF v:=by simpa using e2'
    have h2:σ[j]?=xF (xF v):=by
     cases q:σ[j]? with
     |none=>rw[q]at h1;cases h1
     |some o=>
      rw[q]at h1;have h1':o=xF v:=h1;rw[h1']
    obtain⟨y,ey,en,ek⟩:=cs.cap (i-nt) j ej;have exy:x=y:=by
     have:nt+(i-nt)=i:=by lia
     rw[this]at en;have e1':N[i]?=xF x:=e1;rw[e1']at en;exact Option.some.inj en
    subst exy;have kx:=cs.free (x,.free) (PySem.mem_of_lookup ek) rfl;have vis:Vis X.env.scope x:=by
     rcases kx with kx|kx
     ·exact .inr (.inl kx)
     ·exact .inr (.inr kx)
    obtain⟨m,hn,hl⟩:=I.loc;obtain⟨u,ru,lk⟩:=hl j x v ey h2 vis;refine⟨u,ru,?_⟩;rcases lk with⟨k1,_⟩|⟨k1,c1,ec,hcell⟩
    ·rcases kx with kx|kx
     ·rw[k1]at kx;cases kx
     ·rw[k1]at kx;cases kx
    ·refine .inr ⟨?_,c1,?_,?_⟩
     ·show(relabel scope X.env).names.lookup x=xF .cell∨(relabel scope X.env).names.lookup x=xF .free;rw[Sh,ek];simp only[Option.map_some];split
      ·exact .inl rfl
      ·exact .inr rfl
     ·obtain⟨d1,hd1⟩:=K7 (env:=X.env) (x:=x) (names:=scope.names) (cs:=[]) (.inl (PySem.mem_of_lookup ek));obtain⟨d2,hd2⟩:=Ob hd1;have:=cs.cl I.ok hd2;rw[ec]at this;cases this;exact hd2
     ·obtain⟨o,e,dd⟩:=hcell;exact⟨o,old _ _ e,dd⟩
  ·obtain⟨v,o,e',dd⟩:=I.cell x d' (cs.cl I.ok e);exact⟨v,o,old _ _ e',dd⟩
  ·exact I.Dc x d' (cs.cl I.ok e)
  ·exact absurd hp (by simp[B,blk])
  ·show σ0.length=N.length;rw[cs.len];simp[σ0]
 have rS0:RepS a (Ar nt caps S) σ0:=ZAn rS;have aD:a.H Dd=xG:=I.hok.fresh (by rw[hDe];exact zJ _);have young:∀b∈fp,b≠C:=λb hb z=>hCf (z▸hb)
 have fpB:∀{H':Hp}{ps:List (j6×Obj)},(∀b∈fp,H' b=xG)->(∀p∈ps,p.1∉fp)->∀b∈fp,FpOk B ps H' b:=λ{H' ps}hn hps b hb=>
  ⟨hn b hb,young b hb,okB.exfs b hb,.inl hb,λx d' e=>(hf b hb).2.2.2.2.1 x d' (cs.cl I.ok e),λp hp z=>by
   have hp':p∈ps:=by simpa[B,blk]using hp
   exact hps p hp' (z▸hb)⟩
 have nstk:Dd∉frs X.stack:=λz=>by
  rcases zv.mp (I.Jq Dd z)with z|z
  ·have:=I.lt;rw[hDe,<-z]at this;exact zA _ this
  ·exact I.nofs (by rw[hDe];exact zJ _) z
 have pinD:∀{σ':St}{H':Hp}{s':jD}{its:List jF}{nD:Nat},Inv B [] σ' H' s'->s'.heap.get? Dd=xF {cls:=.type "list",data:=.seq its.toArray nD}->H' Dd=xG->Inv B [(Dd,{cls:=.type "list",data:=.seq its.toArray nD})] σ' H' s':=λ{σ' H' s' its nD}J e n=>
  J.Dj λp hp=>by
   have ep:p=(Dd,{cls:=.type "list",data:=.seq its.toArray nD}):=by simpa using hp
   subst ep;exact⟨e,n,hDC,nstk,λv' z=>by cases z⟩
 have fin:∀(s':jD)(b:Wd)(σ':St)(its:List jF)(ds:List D)(G':DH),Inv B [] σ' b.H s'->Ext a b->Sim b G'->s'.heap.PlainList Dd its.toArray->b.H Dd=xG->(∃vs,Vals vs its/\Reps b ds vs)->out E0 b (Ah ds G') Q->RR (.ref Dd) C (.ok .next) s':=by
  intro s' b σ' its ds G' IB x sb pl hD ⟨vs,hv,rv⟩ hq;have hz:ds.length<=1000000:=by
   unfold Ah at hq;split at hq
   ·assumption
   ·exact hq.elim
  have Ix:Inv X xE σ b.H s':=I.call' IB.os IB.base IB.hok IB.bare λb hb=>⟨(hf b hb).2.2.2.1,(hf b hb).2.1,(hf b hb).2.2.2.2.1,(hf b hb).2.2.2.2.2⟩
  obtain⟨n,eD⟩:=pl;have ylt:∀{q:j6}{o:Obj},s.heap.get? q=xF o->q≠Dd:=λe z=>by rw[z,<-hDe]at e;exact absurd (zX e) (zA _)
  have Ia:Inv X xE σ (upd b.H Dd (.lst vs)) s':=by
   refine ZAO Ix hD (by rw[<-hDe];exact I.sz) ?_ (λy c' ec=>?_) (λp hp=>?_) ⟨?_,its,n,hv,eD⟩
   ·rw[<-hDe];exact j5 I.lt
   ·obtain⟨v,o,e,_⟩:=I.cell y c' ec;exact ylt e
   ·exact ylt (I.pin p hp).1
   ·rw[<-rv.length];exact zx hz size6
  refine hRR Dd C s' b vs Ia hD hCle hDC (let⟨m,hn,_⟩:=IB.loc;⟨m,hn⟩) IB.free ?_;unfold Ah at hq;rw[if_pos hz]at hq;exact Ka sb rv hq Dd hD
 have turnX:∀(P:jD->Prop)(rest:DH->R (List D))(s1:jD)(b:Wd)(G1:DH)(σ1:St)(its:List jF)(acc:List D)(u:jF)(v:V)(x:D)(i:Nat),Inv B [] σ1 b.H s1->Ext a b->Sim b G1->RepS b (Ar nt caps S) σ1->tn i s1.heap->(∀q∈fp,b.H q=xG)->
   s1.heap.PlainList Dd its.toArray->b.H Dd=xG->(∃vs,Vals vs its/\Reps b acc vs)->RelV v u->Rep b x v->
   out E0 b (((g x (Ar nt caps S) G1).bind λS1 G1=>(c S1 G1).bind λk G2=>if k=xH then(te S1 G2).bind λd G3=>(rest G3).bind λds G4=>.ok (d::ds) G4 else rest G2).bind λds G=>Ah (acc++ds) G) Q->
   (∀(s2:jD)(b2:Wd)(G2:DH)(σ2:St)(its2:List jF)(acc2:List D),Inv B [] σ2 b2.H s2->Ext a b2->Sim b2 G2->RepS b2 (Ar nt caps S) σ2->tn i s2.heap->(∀q∈fp,b2.H q=xG)->
    s2.heap.PlainList Dd its2.toArray->b2.H Dd=xG->(∃vs,Vals vs its2/\Reps b2 acc2 vs)->out E0 b2 ((rest G2).bind λds G=>Ah (acc2++ds) G) Q->P s2)->
   CItem X.prog X.w X.A tg elt ifs (.ref Dd) B.env P u s1:=by
  intro P rest s1 b G1 σ1 its acc u v x i I1 x1 sb rSb t1 hfp pl hD hacc' ru rx hq next
  rw[R.bind_assoc]at hq;obtain⟨nD,eD⟩:=id pl;let pinD:List (j6×Obj):=[(Dd,{cls:=.type "list",data:=.seq its.toArray nD})];have pinOk:∀{σ':St}{H':Hp}{s':jD},Inv B (pinD++Gy fp s1.heap) σ' H' s'->s'.heap.PlainList Dd its.toArray/\H' Dd=xG/\tn i s'.heap/\∀q∈fp,H' q=xG:=λ{σ' H' s'}J=>by
   have p1:=J.pin (Dd,{cls:=.type "list",data:=.seq its.toArray nD}) (zj _ (qI _ (by simp[pinD])));refine⟨⟨nD,p1.1⟩,p1.2.1,T.keep _ _ _ t1 λq hq' o e=>(J.pin (q,o) (zj _ (zj _ (Jt hq' e)))).1,λq hq'=>?_⟩;obtain⟨o,e,_⟩:=T.obj _ _ t1 q hq';exact(J.pin (q,o) (zj _ (zj _ (Jt hq' e)))).2.1
  have I2:Inv B (pinD++Gy fp s1.heap) σ1 b.H s1:=I1.Dj λp hp=>by
   rcases qY.mp hp with hp|hp
   ·have e:p=(Dd,{cls:=.type "list",data:=.seq its.toArray nD}):=by simpa[pinD]using hp
    subst e;refine⟨eD,hD,hDC,λz=>?_,λv' z=>by cases z⟩;exact nstk z
   ·obtain⟨hb,e⟩:=Pu hp;obtain⟨f0,f1,f2,_⟩:=fpB (ps:=[]) hfp (λp hp=>by cases hp) p.1 hb;obtain⟨o,e',dd⟩:=T.obj _ _ t1 p.1 hb;rw[e]at e';cases e';exact⟨e,f0,f1,f2,dd⟩
  refine thn (hg C s a.H fp _ s1 σ1 b.H v u _ I2 ru ⟨b,Ar nt caps S,G1,x,x1.k.trans hk,rfl,sb,rSb,rx,(Zu hq).imp λ_ _ z=>z⟩) ?_;rintro _ s2 ⟨σ2,H2',J2,b2,S2,G2,rfl,y2,sb2,rS2,eg,hq2⟩;rw[R.bind_assoc]at hq2;have rS2':RepS b2 (Ar nt caps S) σ2:=⟨by have h1:=J2.len;have h2:σ1.length=N.length:=I1.len;rw[rSb.len,h2];exact h1.symm,λj e' hj=>rS2.get j e' (gk _ _ _ _ _ eg j e' (ZBq hj) hj)⟩
  refine thn (hts C s a.H fp _ s2 σ2 b2.H _ J2 ⟨b2,S2,G2,y2.k.trans (x1.k.trans hk),rfl,sb2,rS2,(ZBj hq2).imp λ_ _ z=>z⟩) ?_;rintro k s3 ⟨H3,J3,b3,G3,rfl,y3,sb3,_,hq3⟩;cases k with
  |false=>
   obtain⟨p1,p2,p3,p4⟩:=pinOk J3;have Jn:Inv B [] σ2 b3.H s3:=J3.Dj λp hp=>by cases hp
   obtain⟨vs,hv,rv⟩:=hacc'
   exact next s3 b3 G3 σ2 its acc Jn (x1.trans (y2.trans y3)) sb3 (rS2'.mono y3) p3 p4 p1 p2 ⟨vs,hv,(rv.mono y2).mono y3⟩ hq3
  | true=>
   have hq3':out E0 b3 (((te S2 G3).bind λd G3=>(rest G3).bind λds G4=>.ok (d::ds) G4).bind λds G=>Ah (acc++ds) G) Q:=hq3;rw[R.bind_assoc]at hq3';refine thn (he C s a.H fp _ s3 σ2 b3.H _ J3 ⟨b3,S2,G3,y3.k.trans (y2.k.trans (x1.k.trans hk)),rfl,sb3,rS2.mono y3,(Ci hq3').imp λ_ _ z=>z⟩) ?_;rintro w s4 ⟨vw,H4,J4,rw',b4,d4,G4,rfl,y4,sb4,q4,_,hq4⟩;obtain⟨p1,p2,p3,p4⟩:=pinOk J4;rw[R.bind_assoc]at hq4
   have hq4':out E0 b4 ((rest G4).bind λds G=>Ah ((acc++[d4])++ds) G) Q:=by
    have e:(λ(ds:List D)(G:DH)=>(R.ok (d4::ds) G).bind λds G=>Ah (acc++ds) G)=λds G=>Ah ((acc++[d4])++ds) G:=by funext ds G;simp
    rw[<-e];exact hq4
   obtain⟨vs,hv,rv⟩:=hacc';have hsz:its.toArray.size<=sizeLine:=by
    have:acc.length<=1000000:=by
     cases hr:rest G4 with
     |ok ds G5=>
      rw[hr]at hq4';have hq5:out E0 b4 (Ah ((acc++[d4])++ds) G5) Q:=hq4';unfold Ah at hq5;split at hq5
      ·rename_i hl;simp at hl;lia
      ·exact hq5.elim
     |err e' G5=>rw[hr]at hq4';exact(hq4'.1 rfl).elim
     |bad=>rw[hr]at hq4';exact hq4'.elim
    rw[zY,<-hv.length,<-rv.length];exact zx this size6
   refine wpAny_list_append_plain p1 (λh' hpl hsb=>?_) hsz;have Jn:Inv B [] σ2 b4.H s4:=J4.Dj λp hp=>by cases hp
   have J5:Inv B [] σ2 b4.H {s4 with heap:=h'}:=by refine Jn.turned (it:=Dd) (t':=s4.toks) (λq o hq' e=>(hsb.2 q hq').trans e) p2 hDC (.inr (by show s.heap.objs.size<=Dd;rw[hDe];exact zJ _)) (λy c' ec=>?_) (λp hp=>absurd hp (by simp[B,blk]));obtain⟨v',o,e,_⟩:=I.cell y c' (cs.cl I.ok ec);intro z;rw[z,<-hDe]at e;exact absurd (zX e) (zA _)
   refine next _ b4 G4 σ2 (its++[w]) (acc++[d4]) J5 (x1.trans (y2.trans (y3.trans y4))) sb4 ((rS2'.mono y3).mono y4) (T.keep _ _ _ p3 λq hq' o e=>(hsb.2 q (λz=>hDf (z▸hq'))).trans e) p4 (by simpa using hpl) p2 ⟨vs++[vw],hv.append (.cons rw' .nil),(((rv.mono y2).mono y3).mono y4).append (Reps.cons q4 Reps.nil)⟩ hq4'
 have loop:∀s₃:jD,s₃={s with heap:=h₁,toks:=s.toks+([]:List (Str×jF)).length}->
   codeAny (xZ X.prog X.w) X.A (.compLoop (.ListComp elt [⟨tg,iter,ifs,0⟩] scope pos) 0 (.ref i0) (.ref Dd) B.env) (RR (.ref Dd) C) s₃:=by
  rintro s₃ rfl;have t1:tn 0 h₁:=T.keep _ _ _ t0 λq _ o e=>old q o e
  have fp0:∀q∈fp,a.H q=xG:=λq hq=>(hf q hq).1
  have walk:∀b:Wd,Ext a b->∀G,Sim b G->∀i,(∀d,f i G=xF (xF d)->J.go i b.H/\∀x H',J.yld i b.H x H'->∃c:Wd,c.H=H'/\Ext b c/\Sim c G/\Rep c d x)/\(f i G=xF xG->J.stop i b.H):=rJ;obtain⟨Iv,hIv⟩:∃Iv:Nat->jD->Prop,∀m s',Iv m s'↔∃(i:Nat)(b:Wd)(G':DH)(σ':St)(its:List jF)(acc:List D),Inv B [] σ' b.H s'/\Ext a b/\Sim b G'/\RepS b (Ar nt caps S) σ'/\tn i s'.heap/\(∀q∈fp,b.H q=xG)/\s'.heap.PlainList Dd its.toArray/\b.H Dd=xG/\(∃vs,Vals vs its/\Reps b acc vs)/\out E0 b ((Bu f g c te (Ar nt caps S) m i G').bind λds G=>Ah (acc++ds) G) Q:=⟨_,λ_ _=>Iff.rfl⟩
  refine ZHs Iv (λm s' h'=>?_) n0 ((hIv _ _).2 ⟨0,a,G,σ0,[],[],start _,Ext.refl a,sm,rS0,t1,fp0,hacc,aD,⟨[],.nil,rfl⟩,by simpa using h⟩);obtain⟨i,b,G',σ',its,acc,IB,x,sb,rSb,ti,hfp,pl,hD,hac,hq⟩:=(hIv _ _).1 h';clear h';obtain⟨nD,eD⟩:=pl;have I0:=pinD IB eD hD;have f0:=fpB (ps:=[(Dd,{cls:=.type "list",data:=.seq its.toArray nD})]) hfp (λp hp=>by
   have ep:p=(Dd,{cls:=.type "list",data:=.seq its.toArray nD}):=by simpa using hp
   subst ep;exact hDf)
  have stop:J.stop i b.H->out E0 b (Ah acc G') Q->∀P,CTurn X.prog X.w X.A tg elt ifs (.ref i0) (.ref Dd) B.env (RR (.ref Dd) C (.ok .next)) P s':=by intro st hq' P;refine thn (T.done B rfl rfl rfl hc i _ s' σ' b.H _ I0 f0 ti st) ?_;rintro r s1 ⟨rfl,I2⟩;have pD:=(I2.pin (Dd,{cls:=.type "list",data:=.seq its.toArray nD}) (zj _ (by simp))).1;exact fin s1 b σ' its acc G' (I2.Dj λp hp=>by cases hp) x sb ⟨nD,pD⟩ hD hac hq'
  cases m with
  |zero=>
   unfold Bu at hq;split at hq
   ·rename_i hf;exact stop ((walk b x G' sb i).2 hf) (by have hq':out E0 b (Ah (acc++[]) G') Q:=hq;rw[qQ]at hq';exact hq') _
   ·exact hq.elim
  | succ m=>
   unfold Bu at hq;split at hq
   ·rename_i d1 hf;obtain⟨go,yl⟩:=(walk b x G' sb i).1 d1 hf;refine thn (T.item B rfl rfl rfl hc i _ s' σ' b.H _ I0 f0 ti go) ?_;rintro r s1 ⟨u,rfl,hgo⟩;refine thn hgo ?_;rintro _ s2 ⟨v,H',I2,ru,y,t2,hfp2⟩;obtain⟨cc,rfl,xx,ss,rd⟩:=yl v H' y;have pD:=I2.pin (Dd,{cls:=.type "list",data:=.seq its.toArray nD}) (zj _ (by simp));obtain⟨vs1,hv1,rv1⟩:=hac;refine turnX _ (λG3=>Bu f g c te (Ar nt caps S) m (i+1) G3) s2 cc G' σ' its acc u _ d1 (i+1) (I2.Dj λp hp=>by cases hp) (x.trans xx) ss (rSb.mono xx) t2 hfp2 ⟨nD,pD.1⟩ pD.2.1 ⟨vs1,hv1,rv1.mono xx⟩ ru rd (out.mono xx hq) ?_
    intro s3 b3 G3 σ3 its3 acc3 a1 a2 a3 a4 a5 a6 a7 a8 a9 a10;exact⟨m,zP _,(hIv _ _).2 ⟨i+1,b3,G3,σ3,its3,acc3,a1,a2,a3,a4,a5,a6,a7,a8,a9,a10⟩⟩
   ·rename_i hf;exact stop ((walk b x G' sb i).2 hf) (by have hq':out E0 b (Ah (acc++[]) G') Q:=hq;rw[qQ]at hq';exact hq') _
   ·exact hq.elim
 exact codeAny_compStart_list (loop _ rfl) (T.self _ 0 _ _ _ (T.keep _ _ _ t0 λq _ o e=>old q o e) (loop _ rfl))
theorem Mv{g:DG}{c:DB}:∀(n j:Nat)(G:DH),j+n=xs.length->Bj g c te S (xs.drop j) G=Bu (λj _=>xF xs[j]?) g c te S n j G
 |0,j,G,h=>by
  rw[qk (by lia)]
  show _=(match xF xs[j]? with |some xG=>R.ok [] G|_=>.bad)
  rw[qq (by lia)]
  rfl
 |n+1,j,G,h=>by
  have hj:j<xs.length:=by lia
  rw[qH hj]
  show(g xs[j] S G).bind _=(match xF xs[j]? with |some (xF x)=>_|some xG=>R.ok [] G|none=>.bad)
  rw[zk hj];dsimp only
  congr 1
  funext S1 G1
  congr 1
  funext k G2;rw[Mv n (j+1) G2 (by lia)]
  congr 1
  congr 1
  funext d G3;rw[Mv n (j+1) G3 (by lia)]
theorem Vp{g:DG}{c:DB}:∀(n j:Nat)(G:DH),Gg i g c te S n j G=Bu (mtF i) g c te S n j G
 | 0,j,G=>by
  unfold Gg Bu mtF;cases G[i]? with
  |none=>rfl
  | some o=>
   cases o with
   |lst xs=>
    dsimp only;by_cases hj:j<xs.length
    ·rw[if_neg (by lia),zk hj]
    ·rw[if_pos (by lia),qq (by lia)]
   |_=>rfl
 | n+1,j,G=>by
  have ih:(Gg i g c te S n (j+1))=Bu (mtF i) g c te S n (j+1):=funext λG=>Vp n (j+1) G
  unfold Gg Bu;rw[ih];unfold mtF;cases G[i]? with
  |none=>rfl
  | some o=>
   cases o with
   |lst xs=>
    dsimp only
    cases xs[j]?<;>rfl
   |_=>rfl
theorem ZF8(hc:X.calm=xH)(cs:CompSc X N scope nt caps)
  (hg:∀C s₀ H₀ ex,QG (blk X N scope C s₀ H₀ ex) E0 tg g) (gk:GK nt g) (hts:∀C s₀ H₀ ex,QTs (blk X N scope C s₀ H₀ ex) E0 ifs c) (he:∀C s₀ H₀ ex,QE (blk X N scope C s₀ H₀ ex) E0 elt te)
  {xE:List (j6×Obj)} {σ:St} {s:jD} {a:Wd} {S:DSt} {G:DH} {J:It} {d:ItD} {i0:j6} {fp:List j6} {tn:Nat->Heap->Prop} (I:Inv X xE σ a.H s) (hk:a.K=X.K) (sm:Sim a G) (rS:RepS a S σ)
  (T:Turn X.prog X.w X.K tg J fp i0 tn) (t0:tn 0 s.heap) (hf:∀b∈fp,FpOk X xE a.H b) (rJ:RepI a d J) {Q:VK}
  (h:out E0 a ((match d with
   |.pure xs=>Bj g c te (Ar nt caps S) xs G
   |.mt i=>match G[i]? with
    |some (.lst xs)=>Gg i g c te (Ar nt caps S) xs.length 0 G
    |_=>.bad
   |.fn n f=>Bu f g c te (Ar nt caps S) n 0 G).bind Ah) Q)
  {RR:jF->j6->Result->jD->Prop} {E':jF->jD->Prop}
  (hRR:∀(D C:j6)(s':jD)(b:Wd)(vs:List V),Inv X xE σ (upd b.H D (.lst vs)) s'->b.H D=xG->s.heap.objs.size<=C->D≠C->(∃m,s'.heap.Ns C m)->b.H C=xG->Q (.ref D) (upd b.H D (.lst vs))->RR (.ref D) C (.ok .next) s'):
  xY (xZ X.prog X.w) X.A (newList []) (λacc s₃=>xY (xZ X.prog X.w) X.A (newFunctionEnv scope X.env.globals (Bx X.env scope.names []) [] X.env.qual xG .none (xF X.env)) (λcenv s₄=>
   codeAny (xZ X.prog X.w) X.A (.compStart (.ListComp elt [⟨tg,iter,ifs,0⟩] scope pos) 0 (.ref i0) acc {cenv with scope:=relabel scope X.env}) (RR acc cenv.locals) s₄) E' s₃) E' s:=by
 cases d with
 |pure xs=>
  have h':out E0 a ((Bj g c te (Ar nt caps S) (xs.drop 0) G).bind Ah) Q:=h;rw[Mv xs.length 0 G (by lia)]at h';exact Q6 hc cs hg gk hts he I hk sm rS T t0 hf (Q9 rJ) h' hRR
 |mt k=>
  dsimp only at h;split at h
  ·rename_i xs hx;rw[Vp]at h;exact Q6 hc cs hg gk hts he I hk sm rS T t0 hf (Xv rJ) h hRR
  ·exact h.elim
 |fn n0 f=>exact Q6 hc cs hg gk hts he I hk sm rS T t0 hf rJ h hRR
end
section
variable{X:Cx}{N:List Str}{scope:jC}{nt:Nat}{caps:List Nat}{tg elt iter:j8}{ifs:List j8}{pos:Pos}{it:DI}{g:DG}{c:DB}{te:DE}
theorem letGo{xE:List (j6×Obj)}{s2 s':jD}{h':Heap}{C:j6}{t':Nat}{σ2:St}{H2:Hp}(I2:Inv X xE σ2 H2 s2)(Ia:Inv X xE σ H s')(hC:s2.heap.objs.size<=C)(hn:H C=xG)(hsb:jY C s'.heap h'):Inv X xE σ H {s' with heap:=h',toks:=t'}:=by
 have young:∀{b:j6}{o:Obj},s2.heap.get? b=xF o->b≠C:=λe z=>by rw[z]at e;exact absurd (zZ (zX e) hC) (zA _)
 refine Ia.turned (it:=C) (λb o hb e=>(hsb.2 b hb).trans e) hn (j5 (zZ I2.lt hC)) (.inr (zx I2.sz hC)) (λx c' e=>?_) λp hp=>?_
 ·obtain⟨v,o,e',_⟩:=I2.cell x c' e;exact young e'
 ·exact young (I2.pin p hp).1
theorem Xe(hc:X.calm=xH)(cs:CompSc X N scope nt caps)(hi:QI X E0 tg iter it)
  (hg:∀C s₀ H₀ ex,QG (blk X N scope C s₀ H₀ ex) E0 tg g) (gk:GK nt g) (hts:∀C s₀ H₀ ex,QTs (blk X N scope C s₀ H₀ ex) E0 ifs c) (he:∀C s₀ H₀ ex,QE (blk X N scope C s₀ H₀ ex) E0 elt te)
  (hs:∀x,foldedSetIterable iter X.env x=pure x:=by intro _;rfl):QE X E0 (.ListComp elt [⟨tg,iter,ifs,0⟩] scope pos) (Ih it nt caps g c te):=by
 intro xE s σ H Q I h;obtain⟨a,S,G,hk,rfl,sm,r,h⟩:=h;rw[eval_ListComp];refine wpAny_comprehension_free (use:=xG) rfl hs (X8 (cs.cells I.ok)) cs.kind cs.names (thn (hi xE s σ a.H _ I ⟨a,S,G,hk,rfl,sm,r,(ZAa h).imp λ_ _ z=>z⟩) λxv s1 h1=>thn h1 λitv s2 h2=>?_);obtain⟨i0,fp,tn,J,H2,rfl,I2,T,t0,f2,b,d,G1,rfl,x,sb,rJ,_,h1⟩:=h2;refine ZF8 hc cs hg gk hts he I2 (x.k.trans hk) sb (r.mono x) T t0 f2 rJ h1 (RR:=λacc C=>compPost (xZ X.prog X.w) X.A X.xe xG (EP X xE σ Q) acc C) ?_
 intro D C s' b vs Ia hD hCle hDC ⟨m,hn⟩ hCn hq;refine⟨m,hn,λh' hsb=>⟨.ref D,_,letGo I2 Ia hCle ?_ hsb,rfl,hq⟩⟩;rw[Al (Ne.symm hDC)];exact hCn
end
def Mm:D->DH->R D
 |.int i,G=>.ok (.int (-i)) G
 |_,_=>.bad
noncomputable def I9:D->Bool
 |.non=>xH
 |_=>xI
def Jc:D->D->DH->R D
 |d,.non,G=>.ok (.bl (I9 d)) G
 |_,_,_=>.bad
def Ol:D->D->DH->R D
 |d,.non,G=>.ok (.bl (!I9 d)) G
 |_,_,_=>.bad
noncomputable def M8:D->Option V
 |.non=>xF .non
 |.bl b=>xF (.bl b)
 |.int i=>xF (.int i)
 |.str x=>xF (.str x)
 |_=>xG
def Jm:List D->Option (List V)
 |[]=>xF []
 |d::r=>match M8 d,Jm r with
  |some v,xF vs=>xF (v::vs)
  |_,_=>xG
def inD(d e:D)(G:DH):Option Bool:=match e with
 |.str j=>match d with
  |.str i=>xF (!(Builtin.Str.occurrences j i 0 j.length 1).isEmpty)
  |_=>xG
 |e=>match Cj e G,M8 d with
  |some xs,xF v=>(Jm xs).map λvs=>inV v vs
  |_,_=>xG
def Jd(d e:D)(G:DH):R D:=match inD d e G with
 |some k=>.ok (.bl k) G
 |none=>.bad
def Gb(d e:D)(G:DH):R D:=match inD d e G with
 |some k=>.ok (.bl (!k)) G
 |none=>.bad
section
variable{X:Cx}{E:XK}{a b:j8}{ta tb:DE}{pos:Pos}
theorem ZCI:UnR X (unaryOp .USub) (lR1 X.K E Mm):=λxE s σ H x v Q I rx h=>by
 obtain⟨a,G,d,hk,rfl,sm,rd,q⟩:=h;cases d with
 |int i=>exact ZHe xE s σ a.H x v Q I rx ⟨i,rd,q a _ (Ext.refl a) sm rfl⟩
 |_=>exact q.elim
theorem ZEy{op:UnaryOp}{f:D->DH->R D}(ho:UnR X (unaryOp op) (lR1 X.K E f))(ha:QE X E a ta):QE X E (.UnaryOp op a pos) (dUn f ta):=(ZEL ho ha).mono λσ H Q h=>by obtain⟨a,S,G,hk,rfl,s,r,h⟩:=h;refine⟨a,S,G,hk,rfl,s,r,(Ci h).imp ?_⟩;rintro v _ ⟨b,d,G1,rfl,x,s1,q,-,h1⟩;exact⟨b,G1,d,x.k.trans hk,rfl,s1,q,h1⟩
theorem ZCj{n:String}(hg:Gl X x)(hm:X.mg x=xG)(hv:jO x=xF (.type n))(hn:x≠"__name__":=by decide)(hd:(x==("__debug__":Str))=xI:=by decide):QE X E (.Name x pos) (dC (.ty n)):=
 (ZAB (v:=.ty n) hg hm hv rfl hn hd).mono λσ H Q h=>Ir h λ_ _=>rfl
theorem ZAg{a:Wd}{x:V}(rd:Rep a d x):decide (x=V.non)=I9 d:=by
 cases d with
 |non=>rw[show x=V.non from rd];rfl
 |bl _=>rw[show x=V.bl _ from rd];rfl
 |int _=>rw[show x=V.int _ from rd];rfl
 |str _=>rw[show x=V.str _ from rd];rfl
 |ty _=>rw[show x=V.ty _ from rd];rfl
 |tup _=>obtain⟨p,vs,rfl,_⟩:=rd;rfl
 |fl _=>obtain⟨p,vs,rfl,_⟩:=rd;rfl
 |ref _=>rw[rd.2];rfl
theorem o_is:OpR X (jR .Is) (lR2 X.K E Jc):=Cz ZHn λa G d e x y Q hk s rd re q=>by
 cases e with
 |non=>exact⟨re,by rw[ZAg rd];cases d<;>exact q a _ (Ext.refl a) s rfl⟩
 |_=>cases d<;>exact q.elim
theorem ZDo:OpR X (jR .IsNot) (lR2 X.K E Ol):=Cz ZCa λa G d e x y Q hk s rd re q=>by
 cases e with
 |non=>exact⟨re,by rw[ZAg rd];cases d<;>exact q a _ (Ext.refl a) s rfl⟩
 |_=>cases d<;>exact q.elim
theorem ZBP{a:Wd}{x v:V}(r:Rep a d x)(h:M8 d=xF v):x=v/\Bt v=xH:=by
 cases d<;>first
  |(cases h;exact⟨r,rfl⟩)
  |cases h
theorem ZAC{a:Wd}:∀{ds:List D}{xs vs:List V},Reps a ds xs->Jm ds=xF vs->xs=vs/\vs.all Bt=xH
 |[],xs,vs,r,h=>by cases h;exact⟨r,rfl⟩
 |d::ds,xs,vs,r,h=>by
  obtain⟨x,r',rfl,r1,r2⟩:=r;unfold Jm at h;split at h
  ·rename_i v ws h1 h2;cases h;obtain⟨e1,f1⟩:=ZBP r1 h1;obtain⟨e2,f2⟩:=ZAC r2 h2;subst e1;subst e2;exact⟨rfl,by rw[jW,f1,f2];rfl⟩
  ·cases h
theorem ZBU{a:Wd}{e:D}{x:V}{k:Bool}(s:Sim a G)(rd:Rep a d x)(re:Rep a e y)(h:inD d e G=xF k):
  (∃i j,x=.str i/\y=.str j/\k= !(Builtin.Str.occurrences j i 0 j.length 1).isEmpty)∨(∃p xs,y=.ref p/\(SqL a.K a.H p xs∨SqT a.K a.H p xs)/\Bt x=xH/\xs.all Bt=xH/\k=inV x xs):=by
 have seq:(match Cj e G,M8 d with |some xs,xF v=>(Jm xs).map λvs=>inV v vs|_,_=>xG)=xF k->(∃p xs,y=.ref p/\(SqL a.K a.H p xs∨SqT a.K a.H p xs)/\Bt x=xH/\xs.all Bt=xH/\k=inV x xs):=λh=>by
  split at h
  ·rename_i xs v h1 h2;obtain⟨p,ws,e1,q,r1⟩:=Hy s re h1;obtain⟨e2,f2⟩:=ZBP rd h2;subst e2;rw[zC]at h;obtain⟨us,h3,h4⟩:=h;obtain⟨e3,f3⟩:=ZAC r1 h3;subst e3;exact⟨p,ws,e1,q,f2,f3,h4.symm⟩
  ·cases h
 cases e with
 |str j=>
  cases d with
  |str i=>exact .inl ⟨i,j,rd,re,(Option.some.inj h).symm⟩
  |_=>cases h
 |tup xs=>exact .inr (seq h)
 |fl xs=>exact .inr (seq h)
 |ref i=>exact .inr (seq h)
 |_=>exact .inr (seq h)
theorem o_in:OpR X (jR .In) (lR2 X.K E Jd):=Cz (ZCO.or ZGQ) λa G d e x y Q hk s rd re q=>by
 unfold Jd at q;split at q
 ·rename_i k h;have z:=q a _ (Ext.refl a) s rfl;rcases ZBU s rd re h with⟨i,j,e1,e2,rfl⟩|⟨p,xs,e1,hq,f1,f2,rfl⟩
  ·exact .inl ⟨i,j,e1,e2,z⟩
  ·exact .inr ⟨p,xs,e1,by rw[<-hk];exact hq,f1,f2,z⟩
 ·exact q.elim
theorem ZH8:OpR X (jR .NotIn) (lR2 X.K E Gb):=Cz (ZGU.or ZB5) λa G d e x y Q hk s rd re q=>by
 unfold Gb at q;split at q
 ·rename_i k h;have z:=q a _ (Ext.refl a) s rfl;rcases ZBU s rd re h with⟨i,j,e1,e2,rfl⟩|⟨p,xs,e1,hq,f1,f2,rfl⟩
  ·exact .inl ⟨i,j,e1,e2,z⟩
  ·exact .inr ⟨p,xs,e1,by rw[<-hk];exact hq,f1,f2,z⟩
 ·exact q.elim
end
theorem ZAV:jO "isinstance"=xF (.builtin "isinstance"):=by decide +kernel
theorem ZC9:jO "all"=xF (.builtin "all"):=by decide +kernel
theorem ZEB:jO "any"=xF (.builtin "any"):=by decide +kernel
theorem ZDE:jO "max"=xF (.builtin "max"):=by decide +kernel
theorem ZD2:jO "len"=xF (.builtin "len"):=by decide +kernel
theorem ZId:jO "int"=xF (.type "int"):=by decide +kernel
theorem ZIL:jO "bool"=xF (.type "bool"):=by decide +kernel
theorem ZDG:jO "str"=xF (.type "str"):=by decide +kernel
theorem Pb:jO "tuple"=xF (.type "tuple"):=by decide +kernel
noncomputable def Hj:jA->Bool | .local=>xH|_=>xI
noncomputable def Hv:jA->Bool | .cell=>xH|_=>xI
noncomputable def H8:jA->Bool | .free=>xH|_=>xI
noncomputable def isK(p:jA->Bool):Option jA->Bool|some k=>p k|none=>xI
theorem ZC0{k:jA}(h:Hj k=xH):k=.local:=by cases k<;>first|rfl|cases h
theorem ZGH{k:jA}(h:Hv k=xH):k=.cell:=by cases k<;>first|rfl|cases h
theorem ZBa{k:jA}(h:H8 k=xH):k=.free:=by cases k<;>first|rfl|cases h
theorem Ny{p:jA->Bool}{k:jA}(hp:∀k',p k'=xH->k'=k){o:Option jA}(h:isK p o=xH):o=xF k:=by
 cases o with
 |none=>cases h
 |some k'=>rw[hp _ h]
def Nf(dn:List (Str×jA))(N0 N:List Str)(names:List (Str×jA))(nt:Nat)(caps:List Nat):Bool:=
 names.all (λy=>(!Hj y.2||isK Hj (names.lookup y.1)) && !Hv y.2&&(!H8 y.2||isK Hv (dn.lookup y.1)||isK H8 (dn.lookup y.1)))&&decide N.Nodup&&decide (N.length=nt+caps.length) &&
 (qK caps.length).all λk=>match caps[k]? with
  |some j=>match N0[j]? with
   |some x=>decide (N[nt+k]?=xF x)&&isK H8 (names.lookup x)
   |none=>xI
  |none=>xH
theorem Q4{X:Cx}{N0 N:List Str}{nt:Nat}{caps:List Nat}{dn:List (Str×jA)}(hk:scope.kind=.function:=by rfl)(hdn:∀x,X.env.kindOf x=dn.lookup x:=by intro _;rfl)(hN:X.N=N0:=by rfl)
  (h:Nf dn N0 N scope.names nt caps=xH:=by decide +kernel):CompSc X N scope nt caps:=by
 unfold Nf at h;rw[zw,zw,zw]at h;obtain⟨⟨⟨h1,h2⟩,h3⟩,h4⟩:=h;rw[qA]at h1 h4;have key:=λ(y:Str×jA)(hy:y∈scope.names)=>(by have:=h1 y hy;rw[zw,zw]at this;exact this:((!Hj y.2||isK Hj (scope.names.lookup y.1))=xH/\(!Hv y.2)=xH)/\(!H8 y.2||isK Hv (dn.lookup y.1)||isK H8 (dn.lookup y.1))=xH)
 refine⟨hk,λy hy hl=>?_,λy hy hl=>?_,λy hy hl=>?_,of_decide_eq_true h2,of_decide_eq_true h3,λk j hj=>?_⟩
 ·have:=(key y hy).1.1;rw[hl]at this;exact Ny (p:=Hj) (λ_ h=>ZC0 h) (by have t:(xI||isK Hj (scope.names.lookup y.1))=xH:=this;simpa using t)
 ·have:=(key y hy).1.2;rw[hl]at this;exact absurd this (by decide)
 ·have:=(key y hy).2;rw[hl,Bool.or_eq_true]at this;rw[hdn];rcases this with h|h
  ·exact .inl (Ny (p:=Hv) (λ_ h=>ZGH h) (by have t:(xI||isK Hv (dn.lookup y.1))=xH:=h;simpa using t))
  ·exact .inr (Ny (p:=H8) (λ_ h=>ZBa h) h)
 ·have hk':k<caps.length:=(z9.mp hj).1;have:=h4 k (qM.mpr hk');rw[hj]at this;dsimp only at this;cases e:N0[j]? with
  |none=>rw[e]at this;cases this
  |some x=>
   rw[e]at this;dsimp only at this;rw[zw]at this;exact⟨x,by rw[hN];exact e,of_decide_eq_true this.1,Ny (p:=H8) (λ_ h=>ZBa h) this.2⟩
section
section
variable{X:Cx}{xE:List (j6×Obj)}{σ:St}{H:Hp}{s:jD}
theorem ZH3{xs:List V}(I:Inv X xE σ H s)(h:H p=xF (.lst xs)):∃o,Inv X xE σ (upd H p (.frz o (.lst xs))) s:=by
 obtain⟨hl,its,n,r,e⟩:=I.hok p _ h;have nt:∀b(u:HO),H b=xF u->u≠ .lst xs->b≠p:=λb u q d z=>by subst z;rw[h]at q;exact d (Option.some.inj q).symm
 refine⟨_,I.un (t':=s.toks) (H':=upd H p (.frz {cls:=.type "list",data:=.seq its.toArray n} (.lst xs))) ⟨λb o q _ _ _=>q,λb o q _ _ _=>⟨o.slots,q⟩,λb o q z _=>?_,λb o q _=>⟨o,q⟩,λb ys q=>?_,λb o u q=>?_,λb ps q=>⟨#[],?_⟩⟩ ?_⟩
 ·rw[Al (λz'=>by subst z';rw[h]at z;cases z)];exact z
 ·rw[Al (nt b _ q (by intro z;cases z))];exact q
 ·rw[Al (nt b _ q (by intro z;cases z))];exact q
 ·rw[Al (nt b _ q (by intro z;cases z)),Array.append_empty];exact q
 ·intro b u q;by_cases hb:b=p
  ·subst hb;rw[En]at q;cases q;exact⟨e,hl,its,n,r,e⟩
  ·rw[Al hb]at q;exact(I.hok b u q).stay (λc v _ z=>z) (λc z=>by rw[Al (nt c _ z (by intro z;cases z))];exact z) λc ys z=>by rw[Al (nt c _ z (by intro z;cases z))];exact z
def Fz(P:j6->Prop)(H H':Hp):Prop:=∀p,(H' p=H p/\(∀vs,H p=xF (.lst vs)->¬P p))∨∃o vs,P p/\H p=xF (.lst vs)/\H' p=xF (.frz o (.lst vs))
theorem ZAJ(I:Inv X xE σ H s)(m:Nat->j6)(n:Nat):∀k:Nat,∃H',Inv X xE σ H' s/\Fz (λp=>∃i,n<=i/\i<n+k/\p=m i) H H'
 |0=>⟨H,I,λp=>.inl ⟨rfl,λ_ _ ⟨i,h1,h2,_⟩=>by lia⟩⟩
 | k + 1=>by
  obtain⟨H',I',F⟩:=ZAJ I m n k;have keep:(∀vs,H' (m (n+k))≠xF (.lst vs))->Fz (λp=>∃i,n<=i/\i<n+(k+1)/\p=m i) H H':=λno p=>by
   rcases F p with⟨e,z⟩|⟨o,vs,⟨i,h1,h2,h3⟩,e1,e2⟩
   ·refine .inl ⟨e,λvs e1 ⟨i,h1,h2,h3⟩=>?_⟩;by_cases hi:i<n+k
    ·exact z vs e1 ⟨i,h1,hi,h3⟩
    ·have:i=n+k:=by lia
     subst this;subst h3;exact no vs (e.trans e1)
   ·exact .inr ⟨o,vs,⟨i,h1,by lia,h3⟩,e1,e2⟩
  cases hH:H' (m (n+k))with
  |none=>exact⟨H',I',keep λvs z=>by rw[hH]at z;cases z⟩
  | some u=>
   cases u with
   | lst vs=>
    obtain⟨o,I2⟩:=ZH3 I' hH;refine⟨_,I2,λp=>?_⟩;by_cases hp:p=m (n+k)
    ·subst hp;rcases F (m (n+k))with⟨e,z⟩|⟨o',vs',_,e1,e2⟩
     ·exact .inr ⟨o,vs,⟨n+k,by lia,by lia,rfl⟩,e.symm.trans hH,En⟩
     ·rw[hH]at e2;cases e2
    ·rcases F p with⟨e,z⟩|⟨o',vs',⟨i,h1,h2,h3⟩,e1,e2⟩
     ·refine .inl ⟨by rw[Al hp];exact e,λvs' e1 ⟨i,h1,h2,h3⟩=>?_⟩;by_cases hi:i<n+k
      ·exact z vs' e1 ⟨i,h1,hi,h3⟩
      ·have:i=n+k:=by lia
       subst this;exact hp h3
     ·exact .inr ⟨o',vs',⟨i,h1,by lia,h3⟩,e1,by rw[Al hp];exact e2⟩
   |_=>exact⟨H',I',keep λvs z=>by rw[hH]at z;cases z⟩
end
noncomputable def Ha(f:D->Option D):List D->Option (List D)
 |[]=>xF []
 |d::r=>match f d,Ha f r with
  |some d',xF r'=>xF (d'::r')
  |_,_=>xG
def Dv(G:DH)(n:Nat):Nat->D->Option D
 |0,_=>xG
 | k+1,d=>if bel n d=xH then xF d else match d with
  |.ref i=>match G[i]? with
   |some (.lst xs)=>(Ha (Dv G n k) xs).map .fl
   |_=>xG
  |.tup xs=>(Ha (Dv G n k) xs).map .tup
  |.fl xs=>(Ha (Dv G n k) xs).map .fl
  |_=>xG
open Classical in
def freeze(G:DH)(r:R D):R D:=match r with
 | .ok d G'=>if G'.take G.length=G then(match Dv G' G.length 9 d with
   |some d'=>.ok d' G
   |none=>.ok d G')else .ok d G'
 |r=>r
def Aj(t:DE):DE:=λS G=>freeze G (t S G)
structure CutF (b c:Wd) (n:Nat):Prop where
 k:c.K=b.K
 n:c.n=n
 m:c.m=b.m
 tup:∀p xs,b.H p=xF (.tup xs)->c.H p=xF (.tup xs)
 frz:∀p o u,b.H p=xF (.frz o u)->c.H p=xF (.frz o u)
theorem CutF.sqT{c:Wd}(x:CutF b c n){xs:List V}(h:SqT b.K b.H p xs):SqT c.K c.H p xs:=by
 rcases h with(h|⟨o,h⟩)|h
 ·exact .inl (.inl (x.tup _ _ h))
 ·exact .inl (.inr ⟨o,x.frz _ _ _ h⟩)
 ·exact .inr (by rw[x.k];exact h)
theorem CutF.fzL{c:Wd}(x:CutF b c n){xs:List V}(h:FzL b.K b.H p xs):FzL c.K c.H p xs:=by
 rcases h with⟨o,h⟩|h
 ·exact .inl ⟨o,x.frz _ _ _ h⟩
 ·exact .inr (by rw[x.k];exact h)
mutual
theorem Rep.Fi{c:Wd}(x:CutF b c n):∀{d:D}{v:V},Rep b d v->bel n d=xH->Rep c d v
 |.non,_,h,_=>h
 |.bl _,_,h,_=>h
 |.int _,_,h,_=>h
 |.str _,_,h,_=>h
 |.ty _,_,h,_=>h
 |.tup ds,v,h,q=>by obtain⟨p,vs,e,t,r⟩:=h;simp only[_D.bel]at q;exact⟨p,vs,e,x.sqT t,Reps.Fi x r q⟩
 |.fl ds,v,h,q=>by obtain⟨p,vs,e,t,r⟩:=h;simp only[_D.bel]at q;exact⟨p,vs,e,x.fzL t,Reps.Fi x r q⟩
 |.ref i,v,h,q=>by obtain⟨l,e⟩:=h;simp only[_D.bel]at q;have q':=of_decide_eq_true q;exact⟨by rw[x.n];exact q',by rw[x.m];exact e⟩
theorem Reps.Fi{c:Wd}(x:CutF b c n):∀{ds:List D}{vs:List V},Reps b ds vs->bels n ds=xH->Reps c ds vs
 |[],_,h,_=>h
 |d::ds,vs,h,q=>by obtain⟨v,r,e,h1,h2⟩:=h;simp only[_D.bels,zw]at q;exact⟨v,r,e,Rep.Fi x h1 q.1,Reps.Fi x h2 q.2⟩
end
theorem O8{c:Wd}{f:D->Option D}(hf:∀d d' v,f d=xF d'->Rep b d v->Rep c d' v):∀{ds ds':List D}{vs:List V},Ha f ds=xF ds'->Reps b ds vs->Reps c ds' vs
 |[],ds',vs,e,h=>by cases e;exact h
 |d::ds,ds',vs,e,h=>by
  obtain⟨v,r,rfl,h1,h2⟩:=h;unfold Ha at e;split at e
  ·rename_i d' r' e1 e2;cases e;exact⟨v,r,rfl,hf _ _ _ e1 h1,O8 hf e2 h2⟩
  ·cases e
theorem Z9{c:Wd}(s:Sim b G')(x:CutF b c n)(hz:∀i,n<=i->i<b.n->∀vs,b.H (b.m i)=xF (.lst vs)->∃o,c.H (b.m i)=xF (.frz o (.lst vs))):∀(k:Nat)(d d':D)(v:V),Dv G' n k d=xF d'->Rep b d v->Rep c d' v
 |0,d,d',v,e,h=>by cases e
 | k + 1,d,d',v,e,h=>by
  have ih:=Z9 s x hz k;unfold Dv at e;split at e
  ·rename_i hb;cases e;exact h.Fi x hb
  ·rename_i hb;cases d with
   | ref i=>
    dsimp only at e;split at e
    ·rename_i xs hx;rw[zC]at e;obtain⟨ys,e1,rfl⟩:=e;obtain⟨vs,e2,r2⟩:=s.obj i _ hx;obtain⟨il,rfl⟩:=h;have hi:n<=i:=by simp only[_D.bel,decide_eq_true_eq]at hb;lia
     obtain⟨o,e3⟩:=hz i hi il vs e2;exact⟨_,vs,rfl,.inl ⟨o,e3⟩,O8 ih e1 r2⟩
    ·cases e
   |tup xs=>
    dsimp only at e;rw[zC]at e;obtain⟨ys,e1,rfl⟩:=e;obtain⟨p,vs,rfl,t,r⟩:=h;exact⟨p,vs,rfl,x.sqT t,O8 ih e1 r⟩
   |fl xs=>
    dsimp only at e;rw[zC]at e;obtain⟨ys,e1,rfl⟩:=e;obtain⟨p,vs,rfl,t,r⟩:=h;exact⟨p,vs,rfl,x.fzL t,O8 ih e1 r⟩
   |_=>cases e
theorem ZFz{xE:List (j6×Obj)}{sh:jD}(s:Sim a G)(hG:G'.take G.length=G)(x:Ext a b)(sb:Sim b G')(I:Inv X xE σ b.H sh):
  ∃c:Wd,Inv X xE σ c.H sh/\Ext a c/\Sim c G/\CutF b c a.n/\∀(k:Nat)(d d':D)(v:V),Dv G' G.length k d=xF d'->Rep b d v->Rep c d' v:=by
 have hlen:∀i o,G[i]?=xF o->G'[i]?=xF o:=λi o e=>by have hi:i<G.length:=(z9.mp e).1;rw[<-hG,jK hi]at e;exact e
 obtain⟨H',I',F⟩:=ZAJ I b.m a.n (b.n-a.n);have hbn:a.n+(b.n-a.n)=b.n:=by have:=x.n;lia
 rw[hbn]at F;have ct:∀p(u:HO),(∀vs,u≠ .lst vs)->b.H p=xF u->H' p=xF u:=λp u nu e=>by
  rcases F p with⟨e1,_⟩|⟨o,vs,_,e1,_⟩
  ·exact e1.trans e
  ·rw[e]at e1;exact absurd (Option.some.inj e1) (nu vs)
 have tabs:∀p,TabOk b.H p->TabOk H' p:=λp t=>t.mono (λp ps e=>ct p _ (by intro _ z;cases z) e) λp o u e=>ct p _ (by intro _ z;cases z) e
 have cc:CutF b ⟨b.K,a.n,b.m,H'⟩ a.n:=⟨rfl,rfl,rfl,λp xs e=>ct p _ (by intro _ z;cases z) e,λp o u e=>ct p _ (by intro _ z;cases z) e⟩;have old:∀i,i<a.n->H' (b.m i)=b.H (b.m i):=λi hi=>by
  rcases F (b.m i)with⟨e1,_⟩|⟨o,vs,⟨j,h1,h2,h3⟩,e1,e2⟩
  ·exact e1
  ·have:=sb.inj i j (zZ hi x.n) h2 h3;lia
 refine⟨⟨b.K,a.n,b.m,H'⟩,I',⟨x.k,zJ _,x.m,λp xs e=>cc.tup p xs (x.tup p xs e),λp o u e=>cc.frz p o u (x.frz p o u e),λp t=>tabs p (x.tab p t)⟩,⟨s.len,λi j hi hj=>sb.inj i j (zZ hi x.n) (zZ hj x.n),λi o e=>?_,λi hi=>?_⟩,cc,λk d d' v hd rb=>?_⟩
 ·show ORep ⟨b.K,a.n,b.m,H'⟩ o (H' (b.m i));rw[old i (s.lt e)];have q:=sb.obj i o (hlen i o e);have lb:=(s.obj i o e).Hs;cases o with
  |lst ds=>obtain⟨vs,e1,r1⟩:=q;exact⟨vs,e1,r1.Fi cc lb⟩
  |dct kvs=>obtain⟨us,e1,k1,r1⟩:=q;exact⟨us,e1,k1,r1.Fi cc lb⟩
  |ins c fs=>obtain⟨C,dx,us,n1,e1,k1,r1⟩:=q;exact⟨C,dx,us,n1,e1,k1,r1.Fi cc lb⟩
  |tab C m=>obtain⟨c1,P1,e1,t1⟩:=q;exact⟨c1,P1,e1,tabs _ t1⟩
  |exc c fs=>
   obtain⟨C,oe,u,vs,n1,e1,k1,k2,z⟩:=q;refine⟨C,oe,u,vs,n1,e1,k1,k2,?_⟩;rcases z with z|⟨dx,o,us,e2,f2,k3,r1⟩
   ·exact .inl z
   ·exact .inr ⟨dx,o,us,e2,cc.frz _ _ _ f2,k3,r1.Fi cc lb⟩
  |gone=>trivial
 ·show H' (b.m i)≠xG;rw[old i hi];exact sb.tr i (zZ hi x.n)
 ·rw[s.len]at hd;refine Z9 sb cc (λi h1 h2 vs e=>?_) k d d' v hd rb;rcases F (b.m i)with⟨e1,z⟩|⟨o,vs',_,e1,e2⟩
  ·exact absurd ⟨i,h1,h2,rfl⟩ (z vs e)
  ·rw[e]at e1;cases e1;exact⟨o,e2⟩
theorem ZIO(s:Sim a G)(h:out E a (freeze G r) Q):
  out E a r λv H=>∀(xE:List (j6×Obj))(σ:St)(sh:jD),Inv X xE σ H sh->∃H',Inv X xE σ H' sh/\Q v H':=by
 cases r with
 |err e G'=>exact h
 |bad=>exact h
 | ok d G'=>
  intro b v x sb rb xE σ sh I;unfold freeze at h;dsimp only at h;split at h
  ·rename_i hG;split at h
   ·rename_i d' hd;obtain⟨c,Ic,xc,sc,cc,hr⟩:=ZFz s hG x sb I;exact⟨c.H,Ic,h c v xc sc (hr _ _ _ _ hd rb)⟩
   ·exact⟨_,I,h b v x sb rb⟩
  ·exact⟨_,I,h b v x sb rb⟩
theorem Df(ha:QE X E e t):QE X E e (Aj t):=λxE s σ H Q I h=>by
 obtain⟨a,S,G,hk,rfl,sm,r,h⟩:=h;refine thn (ha xE s σ a.H _ I ⟨a,S,G,hk,rfl,sm,r,ZIO (X:=X) sm h⟩) λu s' ⟨v,H',I',rv,q⟩=>?_
 obtain⟨H2,I2,q2⟩:=q xE σ s' I';exact⟨v,H2,I2,rv,q2⟩
end
section
variable{S:DSt}{G:DH}
@[simp]theorem ev_V:dV i S G=(match S[i]? with |some (xF d)=>.ok d G|_=>.bad):=id rfl
@[simp]theorem ev_C:dC d S G=.ok d G:=id rfl
@[simp]theorem ev_Op{f:D->D->DH->R D}{a b:DE}:dOp f a b S G=(a S G).bind λx G1=>(b S G1).bind λy G2=>f x y G2:=id rfl
@[simp]theorem ev_Un{f:D->DH->R D}{a:DE}:dUn f a S G=(a S G).bind f:=id rfl
@[simp]theorem ev_Nil:Ad S G=.ok [] G:=id rfl
@[simp]theorem ZJK{a:DE}{r:DA}:Ab a r S G=(a S G).bind λx G1=>(r S G1).bind λxs G2=>.ok (x::xs) G2:=id rfl
@[simp]theorem ev_Fn{f:List D->DH->R D}{t:DA}:dFn f t S G=(t S G).bind f:=id rfl
@[simp]theorem ZIm:G7 t S G=tidy G (t S G):=id rfl
@[simp]theorem ev_Frz:Aj t S G=freeze G (t S G):=id rfl
@[simp]theorem ev_asB{k:Bool}:asB (.bl k) G=.ok k G:=id rfl
@[simp]theorem ev_Tst:Ai t S G=(t S G).bind asB:=id rfl
@[simp]theorem ev_And{t u:DB}:Gs t u S G=(t S G).bind λk G1=>if k=xH then u S G1 else .ok xI G1:=id rfl
@[simp]theorem ev_Or{t u:DB}:dOr t u S G=(t S G).bind λk G1=>if k=xH then .ok xH G1 else u S G1:=id rfl
@[simp]theorem ev_Not{t:DB}:Bw t S G=(t S G).bind λk G1=>.ok (!k) G1:=id rfl
@[simp]theorem ZIo{u:DE}:J9 t u S G=(t S G).bind λx G1=>(asB x G1).bind λk G2=>if k=xH then u S G2 else .ok (.bl xI) G2:=id rfl
@[simp]theorem ev_OrV{u:DE}:Og t u S G=(t S G).bind λx G1=>(asB x G1).bind λk G2=>if k=xH then .ok (.bl xH) G2 else u S G2:=id rfl
@[simp]theorem ZIy:J8 t S G=(t S G).bind λx G1=>(asB x G1).bind λk G2=>.ok (.bl (!k)) G2:=id rfl
@[simp]theorem ZIh{f g:D->D->DH->R D}{a b c:DE}:Ie f g a b c S G=(a S G).bind λx G1=>(b S G1).bind λy G2=>(f x y G2).bind λz G3=>(asB z G3).bind λk G4=>
 if k=xH then(c S G4).bind λw G5=>g y w G5 else .ok (.bl xI) G4:=id rfl
@[simp]theorem ev_sNx:sNx S G=.nx S G:=id rfl
noncomputable def SR.then(r:SR)(u:DS):SR:=match r with
 |.nx S1 G1=>u S1 G1
 |r=>r
@[simp]theorem ZIg{t:DS}:Ae t u S G=(t S G).then u:=id rfl
@[simp]theorem ZI5:(SR.nx S G).then u=u S G:=id rfl
@[simp]theorem ZIs:(SR.rt d G).then u=.rt d G:=id rfl
@[simp]theorem ZI0{x:Xn}:(SR.err x G).then u=.err x G:=id rfl
@[simp]theorem ev_sEx:sEx t S G=(t S G).toS λ_ G1=>.nx S G1:=id rfl
@[simp]theorem ev_sRt:sRt t S G=(t S G).toS λd G1=>.rt d G1:=id rfl
@[simp]theorem ev_sIf{c:DB}{t:DS}:sIf c t u S G=(c S G).toS λk G1=>if k=xH then t S G1 else u S G1:=id rfl
@[simp]theorem ev_sAs{g:DG}:sAs t g S G=(t S G).toS λd G1=>(g d S G1).toS λS2 G2=>.nx S2 G2:=id rfl
@[simp]theorem ZIz{it:DI}{g:DG}{b:DS}:Dk it g b S G=(it S G).toS λJ G1=>(match J with
 |.pure xs=>Bm g b xs S G1
 |.mt i=>match G1[i]? with
  |some (.lst xs)=>forM i g b xs.length 0 S G1
  |_=>.bad
 |.fn n f=>Dr f g b n 0 S G1):=id rfl
@[simp]theorem ZIk:Ez t S G=(t S G).bind Eu:=id rfl
@[simp]theorem ZIu{f:List D->DH->R ItD}{t:DA}:Gf f t S G=(t S G).bind f:=id rfl
@[simp]theorem Br:gV i d S G=.ok (S.set i (xF d)) G:=id rfl
@[simp]theorem ZBB:Ef [] S G=.ok S G:=id rfl
@[simp]theorem Wy{t:DG}{u:DGs}{r:List D}:Bk t u (d::r) S G=(t d S G).bind λS1 G1=>u r S1 G1:=id rfl
@[simp]theorem ZBn{t:DGs}:Do n t (.tup ds) S G=if ds.length=n then t ds S G else .bad:=id rfl
@[simp]theorem ev_MtL{f:D->List D->DH->R D}{o:DE}{t:DA}:Ff f o t S G=(o S G).bind λx G1=>if isL x G1=xH then(t S G1).bind λxs G2=>f x xs G2 else .bad:=id rfl
@[simp]theorem ZI2{it:DI}{nt:Nat}{caps:List Nat}{g:DG}{c:DB}:Ih it nt caps g c te S G=(it S G).bind λJ G1=>(match J with
 |.pure xs=>Bj g c te (Ar nt caps S) xs G1
 |.mt i=>match G1[i]? with
  |some (.lst xs)=>Gg i g c te (Ar nt caps S) xs.length 0 G1
  |_=>.bad
 |.fn n f=>Bu f g c te (Ar nt caps S) n 0 G1).bind Ah:=id rfl
@[simp]theorem Jp:Di S G=.ok xH G:=id rfl
@[simp]theorem Cq{k:DSt->DH->SR}:aft (.nx S G) k=k S G:=id rfl
theorem G9{g:DG}{b:DS}:Bm g b [] S G=.nx S G:=id rfl
theorem Dp{g:DG}{b:DS}{x:D}:Bm g b (x::xs) S G=(g x S G).toS λS1 G1=>aft (b S1 G1) (Bm g b xs):=id rfl
theorem Gj{g:DG}{c:DB}{x:D}:Bj g c te S (x::xs) G=(g x S G).bind λS1 G1=>(c S1 G1).bind λk G2=>
   if k=xH then(te S1 G2).bind λd G3=>(Bj g c te S xs G3).bind λds G4=>.ok (d::ds) G4 else Bj g c te S xs G2:=id rfl
noncomputable def SR.ret(r:SR):R D:=match r with
 |.nx _ G'=>.ok .non G'
 |.rt d G'=>.ok d G'
 |.err x G'=>.err x G'
 |_=>.bad
@[simp]theorem ret_rt:(SR.rt d G).ret=.ok d G:=id rfl
@[simp]theorem ZJG{x:Xn}:(SR.err x G).ret=.err x G:=id rfl
theorem An{np nl:Nat}{b:DS}:Bd np nl b ds G=if ds.length=np then tidy G (b (ds.map xF++zE nl xG) G).ret else .bad:=id rfl
end
section
variable{n:Nat}{G:DH}
@[simp]theorem ZJQ:bel n .non=xH:=by simp[_D.bel]
@[simp]theorem bel_bl{b:Bool}:bel n (.bl b)=xH:=by simp[_D.bel]
@[simp]theorem ZIc{b:Int}:bel n (.int b)=xH:=by simp[_D.bel]
@[simp]theorem ZHf{b:Str}:bel n (.str b)=xH:=by simp[_D.bel]
@[simp]theorem ZJM{b:List D}:bel n (.tup b)=bels n b:=by simp[_D.bel]
@[simp]theorem ZJA{b:Nat}:bel n (.ref b)=decide (b<n):=by simp[_D.bel]
@[simp]theorem ZJL:bels n []=xH:=by simp[_D.bels]
@[simp]theorem ZFF:bels n (d::ds)=(bel n d&&bels n ds):=by simp[_D.bels]
theorem ZGt:bels n ds=xH↔∀d∈ds,bel n d=xH:=by
 induction ds with
 |nil=>simp
 |cons d ds ih=>simp[ih]
theorem Gx{f:α->D}{xs:List α}(h:∀x∈xs,bel n (f x)=xH):bels n (xs.map f)=xH:=by rw[ZGt];intro d hd;obtain⟨x,hx,rfl⟩:=q0.mp hd;exact h x hx
@[simp]theorem ZBW{xs:List Int}:bels n (xs.map D.int)=xH:=Gx λ_ _=>ZIc
@[simp]theorem Oi{xs:List Str}:bels n (xs.map D.str)=xH:=Gx λ_ _=>ZHf
theorem Aq(h:bel G.length d=xH):tidy G (.ok d G)=.ok d G:=by unfold tidy;simp[h]
theorem Ii(h:bel G.length d=xH):tidy G (.ok d (G++L))=.ok d G:=by unfold tidy;simp[h]
theorem ZCB(L:DH)(hk:L[k]?=xF (.lst ds))(h:bels G.length ds=xH):tidy G (.ok (.ref (G.length+k)) (G++L))=.ok (.ref G.length) (G++[.lst ds]):=by
 unfold tidy;have e:(G++L)[G.length+k]?=xF (.lst ds):=by rw[zB (by lia)];simpa using hk
 simp[e,Hs,h]
theorem Jg(h:bels G.length ds=xH):tidy G (.ok (.ref G.length) (G++ .lst ds::L))=.ok (.ref G.length) (G++[.lst ds]):=ZCB (.lst ds::L) (k:=0) rfl h
@[simp]theorem ZJO{x:Xn}:tidy G (.err x G')=.err x G':=id rfl
theorem I8(h:bel G.length d=xH):freeze G (.ok d G)=.ok d G:=by unfold freeze;simp[h,Dv]
theorem Xx:∀{ds:List D},bels n ds=xH->Ha (Dv G' n (k+1)) ds=xF ds
 |[],_=>rfl
 |d::ds,h=>by simp only[ZFF,zw]at h;unfold Ha;rw[Xx h.2];simp[Dv,h.1]
theorem ZHg(L:DH)(hk:L[k]?=xF (.lst ds))(h:bels G.length ds=xH):freeze G (.ok (.ref (G.length+k)) (G++L))=.ok (.fl ds) G:=by
 unfold freeze;have e:(G++L)[G.length+k]?=xF (.lst ds):=by rw[zB (by lia)];simpa using hk
 have m:Dv (G++L) G.length 9 (.ref (G.length+k))=xF (.fl ds):=by unfold Dv;simp[e,Xx h]
 simp[m]
theorem Cd(h:bels G.length ds=xH):freeze G (.ok (.ref G.length) (G++ .lst ds::L))=.ok (.fl ds) G:=ZHg (.lst ds::L) (k:=0) rfl h
@[simp]theorem ZIx{x:Xn}:freeze G (.err x G')=.err x G':=id rfl
theorem ZFk(L:DH)(k:Nat):(G++L)[G.length+k]?=L[k]? :=by rw[zB (by lia)];simp
theorem Fv(L:DH):(G++L)[G.length]?=L[0]? :=ZFk L 0
theorem ZFT(L:DH)(k:Nat)(o:DO):(G++L).set (G.length+k) o=G++L.set k o:=by rw[List.set_append_right _ _ (by lia)];simp
theorem Ht(L:DH)(o:DO):(G++L).set G.length o=G++L.set 0 o:=ZFT L 0 o
theorem Kv{lo:Int}:Ck lo 0=[]:=id rfl
theorem Jv{lo:Int}:Ck lo (n+1)=.int lo::Ck (lo+1) n:=by
 unfold Ck;rw[jw,zV,List.map_map]
 congr 1
 ·simp
 ·apply List.map_congr_left;intro k _;simp only[Function.comp]
  congr 1
  lia
end
section
variable{G:DH}{i j:Int}{x y:Str}{k l:Bool}
@[simp]theorem ev_add:Ag (.int i) (.int j) G=.ok (.int (i+j)) G:=id rfl
@[simp]theorem Eg:Ag (.str x) (.str y) G=if x.length+y.length<=1000000 then .ok (.str (x++y)) G else .bad:=id rfl
@[simp]theorem ev_sub:Jk (.int i) (.int j) G=.ok (.int (i-j)) G:=id rfl
theorem log2_small(h:n<10^100):n.log2<9000:=by
 by_cases hn:n=0
 ·subst hn;decide
 ·rw[Nat.log2_lt hn];exact Nat.lt_trans h (by decide)
@[simp]theorem ZI9[NeZero n](h:n<10^100):Ex (.int i) (.int (no_index (OfNat.ofNat n))) G=.ok (.int (i/OfNat.ofNat n)) G:=
 if_pos ⟨Int.ofNat_lt.mpr (Nat.pos_of_ne_zero (NeZero.ne n)),log2_small h⟩
@[simp]theorem ev_mod:Bf (.int i) (.int j) G=if 0<j then .ok (.int (i%j)) G else .bad:=id rfl
@[simp]theorem ev_pow:Fp (.int i) (.int j) G=if 0<=j/\j<=1000000/\i.natAbs<18446744073709551616 then .ok (.int (i^j.toNat)) G else .bad:=id rfl
@[simp]theorem ev_lt:Ep (.int i) (.int j) G=.ok (.bl (decide (i<j))) G:=id rfl
@[simp]theorem ev_le:Es (.int i) (.int j) G=.ok (.bl (decide (i<=j))) G:=id rfl
@[simp]theorem ev_gt:K5 (.int i) (.int j) G=.ok (.bl (decide (j<i))) G:=id rfl
@[simp]theorem ev_ge:Mu (.int i) (.int j) G=.ok (.bl (decide (j<=i))) G:=id rfl
@[simp]theorem ev_eq:Bc (.int i) (.int j) G=.ok (.bl (decide (i=j))) G:=id rfl
@[simp]theorem ev_ne:Fe (.int i) (.int j) G=.ok (.bl (!decide (i=j))) G:=id rfl
@[simp]theorem ev_eqS:Bc (.str x) (.str y) G=.ok (.bl (decide (x=y))) G:=id rfl
@[simp]theorem ev_neS:Fe (.str x) (.str y) G=.ok (.bl (!decide (x=y))) G:=id rfl
@[simp]theorem ev_neg:Mm (.int i) G=.ok (.int (-i)) G:=id rfl
@[simp]theorem ev_is:Jc d .non G=.ok (.bl (I9 d)) G:=by cases d<;>exact id rfl
@[simp]theorem ZJP:Ol d .non G=.ok (.bl (!I9 d)) G:=by cases d<;>exact id rfl
@[simp]theorem ZIn:I9 .non=xH:=id rfl
@[simp]theorem ZI4:I9 (.tup ds)=xI:=id rfl
@[simp]theorem ev_max:Lb [.int i,.int j] G=.ok (.int (max i j)) G:=by
 show R.ok (D.int (if j>i then j else i)) G=_
 congr 2
 split <;> lia
@[simp]theorem ZIv:Lh [.bl k] G=.ok (.int (if k then 1 else 0)) G:=id rfl
@[simp]theorem ZI1:Cj (.fl ds) G=xF ds:=id rfl
@[simp]theorem ZF3:Cj (.ref n) G=(match G[n]? with |some (.lst xs)=>xF xs|_=>xG):=id rfl
@[simp]theorem Cg:Az [.str x] G=if x.length<=1000000 then .ok (.int x.length) G else .bad:=id rfl
@[simp]theorem ZJC:Az [.tup ds] G=.ok (.int ds.length) G:=id rfl
@[simp]theorem ZIi:Az [.fl ds] G=.ok (.int ds.length) G:=id rfl
@[simp]theorem ev_ixT:Ao (.tup ds) (.int i) G=(match atI ds i with |some v=>.ok v G|none=>.bad):=id rfl
@[simp]theorem ev_ixF:Ao (.fl ds) (.int i) G=(match atI ds i with |some v=>.ok v G|none=>.bad):=id rfl
theorem ZBy{k:Nat}(h:k<n):ixN n (k:Int)=xF k:=by unfold ixN;rw[if_pos (by lia),if_pos (by lia)];simp
theorem ZFx{xs:List α}{k:Nat}{d:α}(h:xs[k]?=xF d):atI xs (k:Int)=xF d:=by unfold atI;rw[ZBy (z9.mp h).1];exact h
theorem Dz{xs:List α}{j:Int}{k:Nat}{d:α}(e:j=k)(h:xs[k]?=xF d):atI xs j=xF d:=by subst e;exact ZFx h
theorem ZBm{xs:List α}{j:Int}(h0:0<=j)(h:j<xs.length):atI xs j=xF (xs[j.toNat]'(by lia)):=
 Dz (k:=j.toNat) (by lia) (zk (by lia))
@[simp]theorem atI_0{a:α}{xs:List α}:atI (a::xs) 0=xF a:=Dz (k:=0) rfl rfl
@[simp]theorem atI_1{a b:α}{xs:List α}:atI (a::b::xs) 1=xF b:=Dz (k:=1) rfl rfl
@[simp]theorem atI_2{a b c:α}{xs:List α}:atI (a::b::c::xs) 2=xF c:=Dz (k:=2) rfl rfl
@[simp]theorem atI_3{a b c d:α}{xs:List α}:atI (a::b::c::d::xs) 3=xF d:=Dz (k:=3) rfl rfl
@[simp]theorem atI_4{a b c d e:α}{xs:List α}:atI (a::b::c::d::e::xs) 4=xF e:=Dz (k:=4) rfl rfl
@[simp]theorem atI_5{a b c d e f:α}{xs:List α}:atI (a::b::c::d::e::f::xs) 5=xF f:=Dz (k:=5) rfl rfl
@[simp]theorem atI_6{a b c d e f g:α}{xs:List α}:atI (a::b::c::d::e::f::g::xs) 6=xF g:=Dz (k:=6) rfl rfl
@[simp]theorem ZI6:Ec ds G=if ds.length<=1000000 then .ok (.tup ds) G else .bad:=id rfl
@[simp]theorem ZIp:Ah ds G=if ds.length<=1000000 then .ok (.ref G.length) (G++[.lst ds])else .bad:=id rfl
@[simp]theorem ZIl:Cw [.fl ds] G=.ok (.tup ds) G:=id rfl
@[simp]theorem ZJN:Cw [.ref n] G=(match G[n]? with |some (.lst xs)=>.ok (.tup xs) G|_=>.bad):=by
 unfold Cw;simp only[ZF3];cases G[n]? with
 |none=>rfl
 |some o=>cases o<;>rfl
@[simp]theorem ev_itT:Eu (.tup ds) G=.ok (.pure ds) G:=id rfl
@[simp]theorem ev_itF:Eu (.fl ds) G=.ok (.pure ds) G:=id rfl
@[simp]theorem ZJH:rng1 [.int j] G=if inR j then .ok (.pure (Ck 0 j.toNat)) G else .bad:=id rfl
theorem Kq(h0: -1000000000<=i)(h:i<=1000000000):inR i:=⟨by lia,by lia⟩
@[simp]theorem ZJF:isL (.ref n) G=(match G[n]? with |some (.lst _)=>xH|_=>xI):=id rfl
@[simp]theorem ev_app:Fo (.ref n) [d] G=(match G[n]? with |some (.lst xs)=>if xs.length<1000000 then .ok .non (G.set n (.lst (xs++[d])))else .bad|_=>.bad):=id rfl
@[simp]theorem Jj{ks:List Bool}:Ga [.fl (ks.map D.bl)] G=.ok (.bl (ks.all id)) G:=by simp[Ga]
@[simp]theorem ZJI:Ce [d,.ty "int"] G=(match tyD G d with |some .int=>.ok (.bl xH) G|some .bl=>.ok (.bl xH) G|some _=>.ok (.bl xI) G|none=>.bad):=by
 unfold Ce;dsimp only;cases tyD G d with
 |none=>rfl
 |some t=>cases t<;>rfl
@[simp]theorem ZJJ:Ce [d,.ty "bool"] G=(match tyD G d with |some .bl=>.ok (.bl xH) G|some _=>.ok (.bl xI) G|none=>.bad):=by
 unfold Ce;dsimp only;cases tyD G d with
 |none=>rfl
 |some t=>cases t<;>rfl
@[simp]theorem ZIq:Ce [d,.ty "tuple"] G=(match tyD G d with |some .tup=>.ok (.bl xH) G|some _=>.ok (.bl xI) G|none=>.bad):=by
 unfold Ce;dsimp only;cases tyD G d with
 |none=>rfl
 |some t=>cases t<;>rfl
@[simp]theorem ZI7:Ce [d,.ty "str"] G=(match tyD G d with |some .str=>.ok (.bl xH) G|some _=>.ok (.bl xI) G|none=>.bad):=by
 unfold Ce;dsimp only;cases tyD G d with
 |none=>rfl
 |some t=>cases t<;>rfl
end
section
variable{c:Prop}[Decidable c]
@[simp]theorem ite_ok{a b:α}:(if c then R.ok a G else R.ok b G)=R.ok (if c then a else b) G:=by split <;> rfl
theorem ZHV{S':DSt}:(if c then SR.nx S G else SR.nx S' G')=SR.nx (if c then S else S') (if c then G else G'):=by split <;> rfl
theorem ZDF{a b:α}{l m:List α}:(if c then a::l else b::m)=(if c then a else b)::(if c then l else m):=by split <;> rfl
theorem ZCL{a b:α}:(if c then xF a else xF b)=xF (if c then a else b):=by split <;> rfl
theorem ite_int{a b:Int}:(if c then D.int a else D.int b)=D.int (if c then a else b):=by split <;> rfl
end
section
variable{X:Cx}{E:XK}
end
section
variable{S:DSt}{G:DH}{n:Nat}{kvs:List (Key×D)}
end
section
noncomputable def okD:Nat->D->Bool
 |0,_=>xI
 |_+1,.non=>xH
 |_+1,.int _=>xH
 |_+1,.str _=>xH
 |n+1,.tup ds=>ds.all (okD n)
 |n+1,.fl ds=>ds.all (okD n)
 |_+1,_=>xI
theorem Rm{f:D->D->Option Bool}{P:D->Prop}(hf:∀x y,P x->P y->∃b,f x y=xF b/\(b=xH↔x=y)):∀{xs ys:List D},(∀x∈xs,P x)->(∀y∈ys,P y)->
  ∃b,eqZ f xs ys=xF b/\(b=xH↔xs.take ys.length=ys.take xs.length)
 |[],ys,_,_=>⟨xH,by cases ys<;>rfl,by simp⟩
 |x::xs,[],_,_=>⟨xH,rfl,by simp⟩
 |x::xs,y::ys,hx,hy=>by obtain⟨b,e1,h1⟩:=hf x y (hx x (by simp)) (hy y (by simp));obtain⟨c,e2,h2⟩:=Rm hf (λz hz=>hx z (zW _ hz)) (λz hz=>hy z (zW _ hz));refine⟨b&&c,by simp[eqZ,e1,e2],?_⟩;simp[h1,h2]
theorem Za{G:DH}:∀(n:Nat)(d e:D),okD n d=xH->okD n e=xH->∃b,eqD n G d e=xF b/\(b=xH↔d=e)
 |0,d,e,h,_=>by cases h
 | n+1,d,e,h1,h2=>by
  have ih:=Za (G:=G) n;cases d with
  |bl _=>simp[okD]at h1
  |ty _=>simp[okD]at h1
  |ref _=>simp[okD]at h1
  | tup xs=>
   cases e with
   |bl _=>simp[okD]at h2
   |ty _=>simp[okD]at h2
   |ref _=>simp[okD]at h2
   |tup ys=>
    simp only[okD,qA]at h1 h2;obtain⟨b,e1,h3⟩:=Rm ih (λx hx=>h1 x hx) (λx hx=>h2 x hx);refine⟨b&&xs.length==ys.length,by simp[eqD,view,e1],?_⟩;simp only[zw,h3,beq_iff_eq,D.tup.injEq];constructor
    ·rintro⟨e,hl⟩;rw[<-hl,qP]at e;rw[e,hl,qP]
    ·rintro rfl;exact⟨rfl,rfl⟩
   |_=>exact⟨xI,by simp[eqD,view],by simp⟩
  | fl xs=>
   cases e with
   |bl _=>simp[okD]at h2
   |ty _=>simp[okD]at h2
   |ref _=>simp[okD]at h2
   |fl ys=>
    simp only[okD,qA]at h1 h2;by_cases hl:xs.length=ys.length
    ·obtain⟨b,e1,h3⟩:=Rm ih (λx hx=>h1 x hx) (λx hx=>h2 x hx);refine⟨b,by simp[eqD,view,hl,e1],?_⟩;rw[h3,<-hl,qP,hl,qP];simp
    ·exact⟨xI,by simp[eqD,view,hl],by simp;rintro rfl;exact hl rfl⟩
   |_=>exact⟨xI,by simp[eqD,view],by simp⟩
  |non=>cases e<;>first|(simp[okD]at h2;done)|exact⟨_,rfl,by simp[eqV]⟩
  |int i=>cases e<;>first|(simp[okD]at h2;done)|exact⟨_,rfl,by simp[eqV]⟩
  |str i=>cases e<;>first|(simp[okD]at h2;done)|exact⟨_,rfl,by simp[eqV]⟩
open Classical in
theorem ZFN{e:D}(h1:okD 30 d=xH)(h2:okD 30 e=xH):Bc d e G=.ok (.bl (decide (d=e))) G:=by
 obtain⟨b,e1,h⟩:=Za (G:=G) 30 d e h1 h2;unfold Bc;rw[e1];cases b with
 |true=>simp[h.mp rfl]
 |false=>simp[show¬d=e from λz=>zq (h.mpr z)]
theorem ZEG(h1:okD 30 d=xH):Bc d d G=.ok (.bl xH) G:=by rw[ZFN h1 h1];simp
theorem Qg(h:∀d∈ds,okD n d=xH):okD (n+1) (.tup ds)=xH:=by simpa[okD]using h
end
def cutD{α:Type}(xs:List α)(lo hi:Option Int):List α:=(xs.drop (HT.sIx xs.length 0 lo)).take (HT.sIx xs.length xs.length hi-HT.sIx xs.length 0 lo)
def Jw(z:Str)(lo hi:Option Int):Str:=⟨(cutD z.cps.toList lo hi).toArray⟩
theorem ZIC(xs:List α)(lo hi:Option Int):(cutD xs lo hi).length<=xs.length:=by unfold cutD;rw[qz,qj];lia
def Hn(t:Option DE)(S:DSt)(G:DH):R (Option Int):=match t with
 |none=>.ok xG G
 |some t=>(t S G).bind λd G1=>match d with
  |.int i=>.ok (xF i) G1
  |_=>.bad
def Dq(d:D)(lo hi:Option Int)(G:DH):R D:=match d with
 |.str z=>if z.length<=1000000 then .ok (.str (Jw z lo hi)) G else .bad
 |.tup xs=>.ok (.tup (cutD xs lo hi)) G
 |d=>match Gu d G with
  |some xs=>.ok (.ref G.length) (G++[.lst (cutD xs lo hi)])
  |none=>.bad
def dSl(e:DE)(lo hi:Option DE):DE:=λS G=>(e S G).bind λd G1=>(Hn lo S G1).bind λl G2=>(Hn hi S G2).bind λh G3=>Dq d l h G3
theorem Gi(n:Nat)(v:Int):((HT.sIx n n (xF v):Nat):Int)=max 0 (min (if v<0 then v+(n:Int)else v) n)/\((HT.sIx n 0 (xF v):Nat):Int)=max 0 (min (if v<0 then v+(n:Int)else v) n):=by
 unfold HT.sIx;by_cases hv:v<0
 ·simp only[if_pos hv];lia
 ·simp only[if_neg hv];lia
theorem ZEf(xs:Array Nat)(i k:Nat):(qK k).filterMap (λm=>xs[i+m]?)=(xs.toList.drop i).take k:=by
 induction k generalizing i with
 |zero=>simp
 | succ k ih=>
  rw[jw,qw];have e:(List.map Nat.succ (qK k)).filterMap (λm=>xs[i+m]?)=(qK k).filterMap (λm=>xs[i+1+m]?):=by
   rw[List.filterMap_map]
   congr 1
   funext m;simp only[Function.comp]
   congr 1
   lia
  rw[e,ih (i+1)];by_cases hi:i<xs.size
  ·have h1:xs[i+0]?=xF xs[i]:=by simp[hi]
   rw[h1];have h2:xs.toList.drop i=xs[i]::xs.toList.drop (i+1):=by rw[qH (by simpa using hi)];simp
   rw[h2];simp
  ·have h1:xs[i+0]?=xG:=by simp;lia
   rw[h1];simp only;rw[qk (by simp;lia),qk (by simp;lia)];simp
theorem ZDs(x:Str)(lo hi:Option Int):Txt.slice x lo hi=Jw x lo hi:=by
 have hlen:x.length=x.cps.toList.length:=by simp[Str.length]
 have key:(Builtin.Str.strSliceIndices lo hi 1 x.length).filterMap (x.cps[·]?)=cutD x.cps.toList lo hi:=by
  have e1:∀(v:Option Int),(match v with |none=>(0:Int)|some i=>max 0 (min (if i<0 then i+(x.length:Int)else i) x.length))=((HT.sIx x.length 0 v:Nat):Int):=λv=>by
   cases v with
   |none=>rfl
   |some i=>exact(Gi x.length i).2.symm
  have e2:∀(v:Option Int),(match v with |none=>(x.length:Int)|some i=>max 0 (min (if i<0 then i+(x.length:Int)else i) x.length))=((HT.sIx x.length x.length v:Nat):Int):=λv=>by
   cases v with
   |none=>rfl
   |some i=>exact(Gi x.length i).1.symm
  have e3:Builtin.Str.strSliceIndices lo hi 1 x.length=sliceRange ((HT.sIx x.length 0 lo:Nat):Int) ((HT.sIx x.length x.length hi:Nat):Int) 1:=by
   rw[<-e1 lo,<-e2 hi];unfold Builtin.Str.strSliceIndices
   cases lo<;>cases hi<;>simp
  rw[e3];unfold sliceRange cutD;rw[List.filterMap_map,<-hlen];generalize HT.sIx x.length 0 lo=i;generalize HT.sIx x.length x.length hi=j;have e4:((λa=>x.cps[a]?) ∘ λ(k:Nat)=>((i:Int)+1*(k:Int)).toNat)=λk=>x.cps[i+k]? :=by
   funext k;simp only[Function.comp]
   congr 1
   lia
  have e5:(if(1:Int)>0 then if(i:Int)<(j:Int)then((j:Int)-i+1-1)/1 else 0 else if(i:Int)>(j:Int)then((i:Int)-j-1-1) / -1 else 0).toNat=j-i:=by
   rw[if_pos (by lia)];split
   ·rw[Int.ediv_one];lia
   ·lia
  rw[e4,e5];exact ZEf x.cps i (j-i)
 unfold Txt.slice Jw;split
 ·rename_i h;have h':(Builtin.Str.strSliceIndices lo hi 1 x.length).length=x.length:=by simpa using h
  have hsz:(cutD x.cps.toList lo hi).length=x.cps.toList.length∨(cutD x.cps.toList lo hi).length<x.cps.toList.length:=by have:=ZIC x.cps.toList lo hi;lia
  have hall:(cutD x.cps.toList lo hi).length=x.cps.toList.length:=by
   have e3:(Builtin.Str.strSliceIndices lo hi 1 x.length).length=HT.sIx x.length x.length hi-HT.sIx x.length 0 lo:=by
    have e1:∀(v:Option Int),(match v with |none=>(0:Int)|some i=>max 0 (min (if i<0 then i+(x.length:Int)else i) x.length))=((HT.sIx x.length 0 v:Nat):Int):=λv=>by
     cases v with
     |none=>rfl
     |some i=>exact(Gi x.length i).2.symm
    have e2:∀(v:Option Int),(match v with |none=>(x.length:Int)|some i=>max 0 (min (if i<0 then i+(x.length:Int)else i) x.length))=((HT.sIx x.length x.length v:Nat):Int):=λv=>by
     cases v with
     |none=>rfl
     |some i=>exact(Gi x.length i).1.symm
    have e3:Builtin.Str.strSliceIndices lo hi 1 x.length=sliceRange ((HT.sIx x.length 0 lo:Nat):Int) ((HT.sIx x.length x.length hi:Nat):Int) 1:=by
     rw[<-e1 lo,<-e2 hi];unfold Builtin.Str.strSliceIndices
     cases lo<;>cases hi<;>simp
    rw[e3];unfold sliceRange;rw[zy,List.length_range];generalize HT.sIx x.length 0 lo=i;generalize HT.sIx x.length x.length hi=j;rw[if_pos (by lia)];split
    ·rw[Int.ediv_one];lia
    ·lia
   have hj:HT.sIx x.length x.length hi<=x.length:=HT.ZBX _ _ (zJ _) hi;unfold cutD;rw[qz,qj,<-hlen];lia
  have hs:(cutD x.cps.toList lo hi).Sublist x.cps.toList:=(List.take_sublist _ _).trans (List.drop_sublist _ _);rw[hs.eq_of_length hall]
 ·rw[key]
section
variable{X:Cx}{E:XK}
theorem ZHR:SlR X (λx lo hi H Q=>∃z:Str,x=.str z/\z.length<=sizeLine/\Q (.str (Jw z lo hi)) H):=by
 intro xE s σ H x v vl vu lo hi sl Q I rx hs pl pu h;obtain⟨z,rfl,hz,q⟩:=h;obtain⟨t,rfl⟩:=rx;refine⟨"str",_,PySem.F.slot_str_getitem.lookup,typeIs_str _ _ _,?_⟩
 have fin:∀(l u:Option (Int×Tok)),vl=partValue l->vu=partValue u->l.map (·.1)=lo->u.map (·.1)=hi->xY (xZ X.prog X.w) X.A (getItem (.str z t) (.ref sl)) (EP X xE σ Q) X.xe s:=by
  rintro l u rfl rfl rfl rfl
  refine wpAny_getItem_str_slice (l:=l) (u:=u) (st:=xG) (show s.heap.IsSlice sl l u xG from hs) rfl ?_
  have e:∀Q',(Txt.slice z (l.map (·.1)) (u.map (·.1))).length<=sizeLine/\(∀t' k,Q' (.str (Txt.slice z (l.map (·.1)) (u.map (·.1))) t') {s with toks:=k})->(sliceMade z t l u xG).post Q' s:=λQ' hq=>post_val_or_str hq
  refine e _ ⟨zx (Txt.slice_le z _ _) hz,λt' k=>?_⟩;rw[ZDs];exact⟨.str _,H,I.tok k,⟨t',rfl⟩,q⟩
 cases pl with
 |none=>cases pu with
  |none=>exact fin xG xG rfl rfl rfl rfl
  |int j tj=>exact fin xG (xF (j,tj)) rfl rfl rfl rfl
 |int i ti=>cases pu with
  |none=>exact fin (xF (i,ti)) xG rfl rfl rfl rfl
  |int j tj=>exact fin (xF (i,ti)) (xF (j,tj)) rfl rfl rfl rfl
theorem ZEC{prog:jB}{E:jF->jD->Prop}{t sl:j6}{items:Array jF}{vl vu:jF}{lo hi:Option Int}{Q:jF->jD->Prop}(ht:IsTup s.heap t items)(hs:s.heap.IsSliceOf sl vl vu .none)(pl:IsPart vl lo)(pu:IsPart vu hi)
  (hw:HT.sIx items.size 0 lo=0/\HT.sIx items.size items.size hi=items.size) (h:Q (.ref t) s):xY (xZ prog w) A (getItem (.ref t) (.ref sl)) Q E s:=by
 obtain⟨os,hos,hcs,hds⟩:=id hs;have hTs:s.TypeIs (.ref sl) "slice":=⟨os,hos,hcs⟩;unfold getItem
 try with_reducible refine xk ?_
 first|refine xz (xA ?_)|skip
 refine xz (wpAny_sequenceKey ht.typeIs (by decide) ?_);refine xz (wpAny_callSpecial?_slot (name:=Str.ofString "__getitem__") ht.typeIs PyProof.Rows.slot_tuple_getitem
  (wpAny_call_entry PyProof.Rows.slot_tuple_getitem ht.typeIs entry_tuple_getitem ?_ (args_tuple_getitem _ _)))
 show xY _ _ (Builtin.Tuple.tupleItemsOf (.ref t) >>=_) _ _ s;refine xz (tupleItemsOf_ ht ?_);refine xz (wpAny_typeOf hTs ?_);rw[if_pos (by decide)];refine xz (HT.Wr hs pl pu ?_);have hyes:(((HT.sIx items.size 0 lo:Nat):Int)==0&&(1:Int)==1&&(HT.sIx items.size items.size hi-HT.sIx items.size 0 lo)==items.size)=xH:=by rw[hw.1,hw.2];simp
 show xY _ _ (if(((HT.sIx items.size 0 lo:Nat):Int)==0&&(1:Int)==1&&(HT.sIx items.size items.size hi-HT.sIx items.size 0 lo)==items.size)=xH then _ else _) _ _ s;rw[if_pos hyes];refine xz ?_;unfold Builtin.Tuple.tupleIsExact;refine xz (wpAny_typeOf ht.typeIs (xA ?_));rw[if_pos (by decide)];exact xz (wpAny_rule (xA ⟨_,rfl,xA h⟩))
theorem ZEU:SlR X (λx lo hi H Q=>∃a xs,x=.ref a/\SqT X.K H a xs/\(HT.sIx xs.length 0 lo=0/\HT.sIx xs.length xs.length hi=xs.length)/\Q (.ref a) H):=by
 intro xE s σ H x v vl vu lo hi sl Q I rx hs pl pu h;obtain⟨a,xs,rfl,hx,hw,q⟩:=h;cases rx;obtain⟨its,r,ht,hz⟩:=I.tuple hx;have hlen:its.toArray.size=xs.length:=by rw[zY];exact r.length.symm
 exact⟨"tuple",_,PyProof.Rows.slot_tuple_getitem.lookup,ht.typeIs,ZEC ht hs pl pu (by rw[hlen];exact hw) ⟨.ref a,H,I,rfl,q⟩⟩
def J1(E:XK)(a:Wd)(r:R (Option Int))(Q:Option Int->Hp->Prop):Prop:=match r with
 |.ok k G=>∀(b:Wd),Ext a b->Sim b G->Q k b.H
 |.err x G=>XOk E a x G
 |.bad=>False
def QO(X:Cx)(E:XK)(e:Option j8)(t:Option DE):Prop:=PO X e (λσ H Q=>∃(a:Wd)(S:DSt)(G:DH),a.K=X.K/\a.H=H/\Sim a G/\RepS a S σ/\J1 E a (Hn t S G) Q)
theorem _root_._L.PO.mono{e:Option j8}{t t':TO}(h:PO X e t)(w:∀σ H Q,t' σ H Q->t σ H Q):PO X e t':=λxE s σ H Q I q=>h xE s σ H Q I (w σ H Q q)
theorem Ve:QO X E xG xG:=ZEn.mono λσ H Q h=>by obtain⟨a,S,G,hk,rfl,s,r,h⟩:=h;exact h a (Ext.refl a) s
theorem Wk(he:QE X E e t):QO X E (xF e) (xF t):=(ZC8 he).mono λσ H Q h=>by
 obtain⟨a,S,G,hk,rfl,s,r,h⟩:=h;refine⟨a,S,G,hk,rfl,s,r,?_⟩
 have h':J1 E a ((t S G).bind λd G1=>match d with | .int i=>.ok (xF i) G1|_=>.bad) Q:=h
 cases ht:t S G with
 |ok d G1=>
  rw[ht]at h';intro b v x sb rv;cases d with
  |int i=>exact⟨i,rv,h' b x sb⟩
  |_=>exact h'.elim
 |err x G1=>rw[ht]at h';exact h'
 |bad=>rw[ht]at h';exact h'
theorem Reps.cutD(r:Reps a ds vs)(lo hi:Option Int):Reps a (_D.cutD ds lo hi) (Gv vs lo hi):=by unfold _D.cutD Gv;rw[r.length];exact(r.drop _).take _
theorem J1.imp{r:R (Option Int)}{Q Q':Option Int->Hp->Prop}(h:J1 E a r Q)(w:∀v H,Q v H->Q' v H):J1 E a r Q':=by
 cases r with
 |ok d G=>exact λb x s=>w _ _ (h b x s)
 |err e G=>exact h
 |bad=>exact h
theorem ZAQ{r:R (Option Int)}{f:Option Int->DH->R D}(h:out E a (r.bind f) Q):
  J1 E a r (λk H=>∃(b:Wd)(G:DH),b.H=H/\Ext a b/\Sim b G/\r=.ok k G/\out E b (f k G) Q):=by
 cases r with
 |ok d G=>exact λb x s=>⟨b,G,rfl,x,s,rfl,out.mono x h⟩
 |err e G=>exact h
 |bad=>exact h
theorem Ym{lo hi:Option j8}{tl th:Option DE}{p2 pos:Pos}(he:QE X E e te)(hl:QO X E lo tl)(hu:QO X E hi th):QE X E (.Subscript e (.Slice lo hi xG p2) pos) (dSl te tl th):=
 (ZF1 (ZE6.or (ZF2.or (ZEU.or ZHR))) he hl hu).mono λσ H Q h=>by
 obtain⟨a,S,G,hk,rfl,s,r,h⟩:=h;refine⟨a,S,G,hk,rfl,s,r,(Ci h).imp ?_⟩;rintro v _ ⟨b,d,G1,rfl,x,s1,q,_,h1⟩;refine⟨b,S,G1,x.k.trans hk,rfl,s1,r.mono x,(ZAQ h1).imp ?_⟩;rintro l _ ⟨c,G2,rfl,y,s2,_,h2⟩;refine⟨c,S,G2,y.k.trans (x.k.trans hk),rfl,s2,(r.mono x).mono y,(ZAQ h2).imp ?_⟩;rintro u _ ⟨c3,G3,rfl,y3,s3,_,h3⟩;have hk3:=y3.k.trans (y.k.trans (x.k.trans hk));have q3:=(q.mono y).mono y3
 have lst:out E c3 (match Gu d G3 with |some xs=>.ok (.ref G3.length) (G3++[.lst (cutD xs l u)])|none=>.bad) Q->rSlL X.K v l u c3.H Q:=λh3=>by
  split at h3
  ·rename_i xs hx;obtain⟨p,vs,e1,q1,r1⟩:=T4 s3 q3 hx;exact⟨p,vs,e1,by rw[<-hk3];exact q1,λp hp=>Ka s3 (Reps.cutD r1 l u) h3 p hp⟩
  ·exact h3.elim
 cases d with
 | str z=>
  have h4:out E c3 (if z.length<=1000000 then .ok (.str (Jw z l u)) G3 else .bad) Q:=h3;split at h4
  ·rename_i hl
   cases(show v=V.str z from q3)
   exact .inr (.inr (.inr ⟨z,rfl,zx hl size6,h4 c3 _ (Ext.refl _) s3 rfl⟩))
  ·exact h4.elim
 | tup xs=>
  have h4:out E c3 (.ok (.tup (cutD xs l u)) G3) Q:=h3;obtain⟨p,vs,e1,q1,r1⟩:=q3;by_cases hw:HT.sIx vs.length 0 l=0/\HT.sIx vs.length vs.length u=vs.length
  ·refine .inr (.inr (.inl ⟨p,vs,e1,by rw[<-hk3];exact q1,hw,h4 c3 _ (Ext.refl _) s3 ⟨p,vs,rfl,q1,?_⟩⟩));have:cutD xs l u=xs:=by unfold cutD;rw[r1.length,hw.1,hw.2,<-r1.length];simp
   rw[this];exact r1
  ·exact .inr (.inl ⟨p,vs,e1,by rw[<-hk3];exact q1,hw,λp hp=>Oe s3 (Reps.cutD r1 l u) h4 p hp⟩)
 |fl xs=>exact .inl (lst h3)
 |ref i=>exact .inl (lst h3)
 |non=>exact(show False from h3).elim
 |bl _=>exact(show False from h3).elim
 |int _=>exact(show False from h3).elim
 |ty _=>exact(show False from h3).elim
noncomputable def isS:D->Bool
 |.str _=>xH
 |_=>xI
def Dy(f:D->List D->DH->R D)(o:DE)(t:DA):DE:=λS G=>(o S G).bind λx G1=>if isS x=xH then(t S G1).bind λxs G2=>f x xs G2 else .bad
section
variable{name:Str}{id:String}{f:D->List D->DH->R D}{o e:j8}{es:List j8}{to:DE}{t:DA}{apos cpos:Pos}
theorem Gk(slot:Slot "str" name id)(hty:typeOf (.builtin id)=pure (.type "method_descriptor"))(hm:MtM X id (lRm X.K E f))(ho:QE X E o to)(ha:QA X E (e::es) t)
  (hbase:jI o name X.env (eval o X.env)=eval o X.env:=by rfl)
  (hfew:((jL cpos (xW (e::es) X.env)).all (λx=> !x.1)&&(backToKw cpos (jT [] X.env)).all (λx=>x.1.isSome)
   && decide ((e::es).length+([]:List Keyword).length+(if([]:List Keyword).isEmpty then 0 else 1)<30))=xH:=by rfl)
  (hline:(apos.endLine==cpos.line)=xH:=by rfl) (hs:xW (e::es) X.env=(xI,eval e X.env)::xW es X.env:=by rfl) (hplain:(jL cpos (xW es X.env)).any (·.1)=xI:=by rfl):
  QE X E (.Call (.Attribute o name apos) (e::es) [] cpos) (Dy f to t):=(ZA4 PySem.F.plainAttrs_str slot hty hm ho ha hbase hfew hline hs hplain).mono λσ H Q h=>by
 obtain⟨a,S,G,hk,rfl,s,r,h⟩:=h;refine⟨a,S,G,hk,rfl,s,r,(Ci h).imp ?_⟩;rintro v _ ⟨b,d,G1,rfl,x,s1,q,-,h1⟩;split at h1
 ·rename_i hl;have ty:tyV X.K "str" v b.H:=by
   cases d with
   |str z=>cases(show v=V.str z from q);exact rfl
   |_=>cases hl
  refine⟨ty,b,S,G1,x.k.trans hk,rfl,s1,r.mono x,(Le h1).imp ?_⟩;rintro vs _ ⟨c,ds,G2,rfl,y,s2,q2,-,h2⟩;exact⟨c,G2,d,ds,y.k.trans (x.k.trans hk),rfl,s2,q.mono y,q2,h2⟩
 ·exact h1.elim
end
noncomputable def Ju:List D->Option (List Str)
 |[]=>xF []
 |.str x::r=>(Ju r).map (x::·)
 |_=>xG
@[simp]theorem ZJR(ns:List Str):Ju (ns.map D.str)=xF ns:=by
 induction ns with
 |nil=>rfl
 |cons n ns ih=>simp[Ju,ih]
theorem ZAu:∀{xs:List D}{ns:List Str},Ju xs=xF ns->xs=ns.map D.str
 |[],ns,h=>by cases h;rfl
 |.str i::r,ns,h=>by
  unfold Ju at h;rw[zC]at h;obtain⟨m,e,rfl⟩:=h;rw[ZAu e]
  rfl
 |.non::_,_,h=>by cases h
 |.bl _::_,_,h=>by cases h
 |.int _::_,_,h=>by cases h
 |.ty _::_,_,h=>by cases h
 |.tup _::_,_,h=>by cases h
 |.fl _::_,_,h=>by cases h
 |.ref _::_,_,h=>by cases h
noncomputable def Ak(sep:List Nat):List (List Nat)->List Nat
 |[]=>[]
 |[x]=>x
 |x::y::r=>x++sep++Ak sep (y::r)
def Gn(o:D)(ds:List D)(G:DH):R D:=match o,ds with
 | .str sep,[d]=>match Cj d G with
  |some xs=>match Ju xs with
   |some ys=>if(ys.map (·.length)).sum+ys.length*sep.length<=1000000 then .ok (.str (Txt.join sep ys)) G else .bad
   |none=>.bad
  |none=>.bad
 |_,_=>.bad
theorem S8:∀{ys:List Str}{us:List jF},Vals (ys.map V.str) us->StrsAre us ys
 |[],us,r=>by cases r;exact .nil
 | y::ys,us,r=>by
  cases r with
  |cons h t=>
   obtain⟨tk,rfl⟩:=h;exact .cons _ _ (S8 t)
theorem Yu:∀{ys:List Str}{vs:List V},Reps a (ys.map D.str) vs->vs=ys.map V.str
 |[],vs,r=>r
 |y::ys,vs,r=>by
  obtain⟨v,w,rfl,h1,h2⟩:=r
  cases(show v=V.str y from h1)
  rw[Yu h2]
  rfl
theorem ZD9:MtM X "str.join" (lRm X.K E Gn):=λxE s σ H x xs v us Q I rx rs h=>by
 obtain⟨a,G,d,ds,hk,rfl,sm,rd,r,q⟩:=h;unfold Gn at q;split at q
 ·rename_i sep e;obtain⟨w,rfl,rw'⟩:=reps1 r
  cases(show x=V.str sep from rd)
  obtain⟨t,rfl⟩:=rx;split at q
  ·rename_i ys hs;split at q
   ·rename_i zs hz;split at q
    ·rename_i hl;obtain⟨p,vs,rfl,h1,r1⟩:=Hy sm rw' hs;rw[ZAu hz]at r1;have ev:=Yu r1;subst ev;obtain⟨u,rfl,ru⟩:=vals1 rs;cases ru;rw[hk]at h1;rcases h1 with h1|h1
     ·obtain⟨its,r2,pl,_⟩:=I.list h1;exact join_list pl.isList (by simpa using S8 r2) (zx hl (by decide)) λt' k=>⟨.str _,a.H,I.tok k,⟨t',rfl⟩,q a _ (Ext.refl a) sm rfl⟩
     ·obtain⟨its,r2,pl,_⟩:=I.tuple h1;exact join_tuple pl (by simpa using S8 r2) (zx hl (by decide)) λt' k=>⟨.str _,a.H,I.tok k,⟨t',rfl⟩,q a _ (Ext.refl a) sm rfl⟩
    ·exact q.elim
   ·exact q.elim
  ·exact q.elim
 ·exact q.elim
noncomputable def Io(o:D)(ds:List D)(G:DH):R D:=match o,ds with
 |.str x,[.str y]=>.ok (.int (Txt.find x y)) G
 |_,_=>.bad
theorem m_find:MtM X "str.find" (lRm X.K E Io):=λxE s σ H x xs v us Q I rx rs h=>by
 obtain⟨a,G,d,ds,hk,rfl,sm,rd,r,q⟩:=h;unfold Io at q;split at q
 ·rename_i x' y;obtain⟨w,rfl,rw'⟩:=reps1 r
  cases(show x=V.str x' from rd)
  cases(show w=V.str y from rw')
  obtain⟨t,rfl⟩:=rx;obtain⟨u,rfl,u',rfl⟩:=vals1 rs;exact SC.find ⟨.int _,a.H,I.tok _,⟨_,rfl⟩,q a _ (Ext.refl a) sm rfl⟩
 ·exact q.elim
noncomputable def Jh(o:D)(ds:List D)(G:DH):R D:=match o,ds with
 |.str x,[.str y]=>.ok (.bl (Txt.startswith x y)) G
 |_,_=>.bad
theorem Wh:MtM X "str.startswith" (lRm X.K E Jh):=λxE s σ H x xs v us Q I rx rs h=>by
 obtain⟨a,G,d,ds,hk,rfl,sm,rd,r,q⟩:=h;unfold Jh at q;split at q
 ·rename_i x' y;obtain⟨w,rfl,rw'⟩:=reps1 r
  cases(show x=V.str x' from rd)
  cases(show w=V.str y from rw')
  obtain⟨t,rfl⟩:=rx;obtain⟨u,rfl,u',rfl⟩:=vals1 rs;exact SC.startswith ⟨.bl _,a.H,I,rfl,q a _ (Ext.refl a) sm rfl⟩
 ·exact q.elim
end
section
variable{S:DSt}{G:DH}
@[simp]theorem ev_Sl{e:DE}{lo hi:Option DE}:dSl e lo hi S G=(e S G).bind λd G1=>(Hn lo S G1).bind λl G2=>(Hn hi S G2).bind λh G3=>Dq d l h G3:=id rfl
@[simp]theorem ZIt:Hn xG S G=.ok xG G:=id rfl
@[simp]theorem ZJD:Hn (xF t) S G=(t S G).bind λd G1=>match d with | .int i=>.ok (xF i) G1|_=>.bad:=id rfl
@[simp]theorem Bb{z:Str}{lo hi:Option Int}:Dq (.str z) lo hi G=if z.length<=1000000 then .ok (.str (Jw z lo hi)) G else .bad:=id rfl
@[simp]theorem ev_MtS{f:D->List D->DH->R D}{o:DE}{t:DA}:Dy f o t S G=(o S G).bind λx G1=>if isS x=xH then(t S G1).bind λxs G2=>f x xs G2 else .bad:=id rfl
@[simp]theorem ev_isS:isS (.str x)=xH:=id rfl
@[simp]theorem ZI8{y:Str}:Io (.str x) [.str y] G=.ok (.int (Txt.find x y)) G:=id rfl
@[simp]theorem ZIw{y:Str}:Jh (.str x) [.str y] G=.ok (.bl (Txt.startswith x y)) G:=id rfl
@[simp]theorem M6:Eu (.str x) G=.ok (.pure (signs x)) G:=id rfl
@[simp]theorem ZAz{ys:List D}:Ag (.fl xs) (.fl ys) G=if xs.length+ys.length<=1000000 then .ok (.ref G.length) (G++[.lst (xs++ys)])else .bad:=id rfl
@[simp]theorem Dm{z:Str}{i:Int}:Ao (.str z) (.int i) G=if z.length<=1000000 then(match atI z.cps.toList i with |some c=>.ok (sgn c) G|none=>.bad)else .bad:=id rfl
theorem ZDh{sep:Str}{ys:List Str}(h:(ys.map (·.length)).sum+ys.length*sep.length<=1000000):Gn (.str sep) [.fl (ys.map D.str)] G=.ok (.str (Txt.join sep ys)) G:=by simp[Gn,h]
end
end _D
namespace _D
open PySem PySem.Spec _L
open PyProof.Rows hiding St
open Builtin.Str
section
variable(p:Nat->Bool)(m:Nat)
end
theorem ZHy(sep:Str):∀(xs:List Str),(Txt.join sep xs).cps.toList=Ak sep.cps.toList (xs.map (·.cps.toList))
 |[]=>rfl
 |[x]=>by simp[Txt.join,glued,Ak]
 | x::y::r=>by
  have key:∀(r:List Str)(acc:Array Nat),(r.foldl (λacc p=>acc++sep.cps++p.cps) acc).toList=acc.toList++(r.map λp=>sep.cps.toList++p.cps.toList).flatten:=by
   intro r
   induction r with
   |nil=>intro acc;simp
   |cons p r ih=>intro acc;rw[List.foldl_cons,ih];simp
  have j:∀(x:Str)(r:List Str),Ak sep.cps.toList ((x::r).map (·.cps.toList))=x.cps.toList++(r.map λp=>sep.cps.toList++p.cps.toList).flatten:=by
   intro x r
   induction r generalizing x with
   |nil=>simp[Ak]
   |cons p r ih=>
    have:=ih p;simp only[zV]at this⊢;rw[Ak,this];simp
  rw[j];show(glued sep (x::y::r)).cps.toList=_;unfold glued;simp only[List.drop_one,List.tail_cons,List.headD_cons];rw[key]
theorem Lr{x y:Str}(h:x.cps.toList=y.cps.toList):x=y:=by obtain⟨a⟩:=x;obtain⟨b⟩:=y;simp only at h;rw[Array.toList_inj.mp h]
end _D
namespace _D
open PySem PySem.Spec _L
open PyProof.Rows hiding St
section
variable{prog:jB}{w:jG}{A:j7}{E:jF->jD->Prop}{s:jD}
end
section
variable{prog:jB}{w:jG}{A:j7}{E:jF->jD->Prop}{s:jD}
end
section
variable{prog:jB}{w:jG}{A:j7}{E:jF->jD->Prop}{s:jD}
end
section
variable{prog:jB}{w:jG}{A:j7}{E:jF->jD->Prop}{s:jD}
end
end _D
namespace _D
open PySem PySem.W PyProof.Rows
section
variable{lt:Nat->Nat->Bool}
noncomputable abbrev pt(p:Array Nat)(j:Nat):Nat:=p.getD j 0
end
end _D
namespace _D
open PySem PySem.Spec _L
open PyProof.Rows hiding St
section
variable{X:Cx}{xE:List (j6×Obj)}{σ:St}{H:Hp}{s:jD}{h':Heap}
end
section
variable{X:Cx}{E:XK}
end
section
variable{X:Cx}{xE:List (j6×Obj)}{σ:St}{H:Hp}{s:jD}
end
section
variable{X:Cx}{E:XK}
end
section
variable{X:Cx}{E:XK}
end
section
variable{X:Cx}{E:XK}
end
end _D
namespace _D
open PySem PySem.W PyProof.Rows
end _D
namespace _D
open PySem PySem.Spec _L
open PyProof.Rows hiding St
section
variable{prog:jB}{w:jG}{A:j7}{s:jD}
end
section
variable{X:Cx}{E:XK}{xE:List (j6×Obj)}{σ:St}{s:jD}{H:Hp}{h':Heap}
end
section
variable{prog:jB}{w:jG}{A:j7}{E:jF->jD->Prop}{s:jD}
end
section
variable{X:Cx}{E:XK}{xE:List (j6×Obj)}{σ:St}{s:jD}{H:Hp}
end
section
variable{X:Cx}{E:XK}
end
section
variable{S:DSt}{G:DH}
end
def Bts(i:Int):Prop:=i.natAbs.log2<33554432
def MulB(i j:Int):Prop:=CMul i j∨(Bts i/\Bts j)
noncomputable instance (i:Int):Decidable (Bts i):=by unfold Bts;infer_instance
noncomputable instance (i j:Int):Decidable (MulB i j):=by unfold MulB;infer_instance
theorem MulB.ok{i j:Int}(h:MulB i j):IntMulOk i j:=by
 rcases h with h|⟨h1,h2⟩
 ·exact h.ok
 ·have b:∀k:Int,Bts k->Builtin.Int.intBits k<=33554432:=λk hk=>by
   unfold Builtin.Int.intBits;split
   ·exact Nat.zero_le _
   ·exact hk
  have c1:=b i h1;have c2:=b j h2;have h:Builtin.Int.intTooBig (Builtin.Int.intBits i+Builtin.Int.intBits j)=xI:=by unfold Builtin.Int.intTooBig bitsLine;exact decide_eq_false (by lia)
  unfold IntMulOk;rw[h];simp
def Bo:D->D->DH->R D
 |.int i,.int j,G=>if MulB i j then .ok (.int (i*j)) G else .bad
 |_,_,_=>.bad
section
variable{X:Cx}{E:XK}
theorem ZBi:OpR X (jN .Mult) (rI MulB λi j=>.int (i*j)):=opI λ_ _ _ _ _ _ _ hc q=>mul_int q hc.ok
theorem ZF0:OpR X (jN .Mult) (lR2 X.K E Bo):=Cz ZBi λa G d e x y Q hk s rd re q=>by
 cases d<;>cases e<;>first
  |exact q.elim
  | (
    rename_i i j;unfold Bo at q;dsimp only at q;split at q
    ·exact⟨_,_,rd,re,by assumption,q a _ (Ext.refl a) s rfl⟩
    ·exact q.elim)
end
section
variable{i j:Int}{G:DH}
theorem ZGZ(h:MulB i j):Bo (.int i) (.int j) G=.ok (.int (i*j)) G:=if_pos h
theorem Kg(h1: -(2^64)<i)(h2:i<2^64):Bo (.int i) (.int j) G=.ok (.int (i*j)) G:=if_pos (.inl (.inl ⟨h1,h2⟩))
theorem ZH4(h1: -(2^64)<j)(h2:j<2^64):Bo (.int i) (.int j) G=.ok (.int (i*j)) G:=if_pos (.inl (.inr ⟨h1,h2⟩))
@[simp]theorem ZJB{n:Nat}(h:n<18446744073709551616):Bo (.int (no_index (OfNat.ofNat n))) (.int j) G=.ok (.int (OfNat.ofNat n*j)) G:=
 Kg (by have:(0:Int)<=(OfNat.ofNat n:Int):=Int.natCast_nonneg n;lia) (by have:(OfNat.ofNat n:Int)<18446744073709551616:=Int.ofNat_lt.mpr h;lia)
end
theorem ZBY:∀{ns:List Int},PySem.W.WData.weightAll (ns.map PySem.W.WData.int)<=2^20->∀n∈ns,n.natAbs.log2<1048576
 |[],_,n,h=>nomatch h
 | m::ns,hw,n,h=>by
  rw[zV,PySem.W.WData.weightAll,PySem.W.WData.weight]at hw;rcases zv.mp h with rfl|h
  ·split at hw
   ·rename_i hz;have:n=0:=by simpa using hz
    rw[this];decide
   ·lia
  ·exact ZBY (by lia) n h
theorem ZDz{l:PySem.W.OpenLaw}{n k:Nat}{q:jB}{loose:List Str}{XP:(Str->Option jF)->Heap->Prop}{YP:jG->Heap->Prop}{d:DefRec}{K:jG->PySem.W.Frag}{CX:jG->CXT}{sp:jG->Sp}{x:Str}
  (hn:l.most=xF n) (hn2:n<=sizeLine) (hdf:d.params.defaults=[]) (hr:Room k callerA) (hY:∀(w:jG)(h:Heap),YP w h->(K w).In h)
  (F:∀(w:jG)(mg:Str->Option jF)(fa:j6)(h:Heap),(K w).In h->h.Ns xQ mg->mg d.name=xF (.ref fa)->
   ∃fd:j9,(∀(s:jD)(u:jF),BindsTo s fd ⟨[u],[]⟩ [(x,u)])/\∀base:Heap,(K w).In base->base.Ns xQ mg->FnOk l.prog w (K w) mg base (CX w) k fa fd [x] (sp w))
  (hsp:∀(w:jG)(H:Hp)(a:j6)(ns:List Int),ns.length<=n->(∀m∈ns,m.natAbs.log2<1048576)->Only H->SqL (K w) H a (ns.map V.int)->sp w [.ref a] H (λv _=>v=.bl xH) λ_ _ _=>False)
  (hCX:∀(w:jG)(H:Hp)(s:jD)(e:jF)(s':jD),CX w [] H s (λ_ _ _=>False) e s'->False):PySem.W.WalkO q loose XP YP l.row.toRowW d [] (λf vs=>PySem.call f vs):=by
 intro w s₀ s₁ mg mb G Y fa o pm cd doc dV kV ho hd hcd hD hmg hg args vals as hpre hlay hrd hwl hlo;obtain rfl:dV=.none:=PySem.W.Dflts.none hD hdf;obtain rfl:kV=.none:=PySem.W.Dflts.noKw hD;obtain⟨a,vs,ns,rfl,rfl,hobj,hints,hlen⟩:=Att.ZIR hn hpre hwl;have KX:=hY w _ Y;obtain⟨fd,hb,hF⟩:=F w mg fa _ KX G.T.g hmg;have hw:PySem.W.WData.weightAll (ns.map PySem.W.WData.int)<=2^20:=by
  have h1:PySem.W.WData.layable (.list (ns.map PySem.W.WData.int))=xH:=by have:=hlay;simpa[PySem.W.WData.layableAll]using this
  have h2:=of_decide_eq_true (qV.mp h1).2;simpa only[PySem.W.WData.weight]using h2
 refine PySem.W.enter_call (jP (ZFi KX G.T.g G.T.b G.T.builtins G.T.nolimit hg hobj hints (zx hlen hn2) hr hF hb (λH hO hS=>hsp w H a ns hlen (ZBY hw) hO hS) λH e s'=>hCX w H s₁ e s') λr s' hq=>?_);obtain⟨rfl,h2,h3,h4⟩:=hq
 exact⟨.inl ⟨.bool xH,.bool xH,[],rfl,λ_=>rfl,.bool xH,Att.ZHL l _,λ_=>⟨List.Pairwise.nil,λ_ hm=>(nomatch hm)⟩⟩,h2,h3,h4⟩
section
variable{X:Cx}{E:XK}
end
theorem RepF.uncons{a:Wd}{g:Str}{d:D}{fs:List (Str×D)}{us:List (Str×V)}(h:RepF a ((g,d)::fs) us):∃v us',us=(g,v)::us'/\Rep a d v/\RepF a fs us':=by
 obtain⟨h1,h2⟩:=h;cases us with
 |nil=>simp at h1
 |cons q us=>
  obtain⟨g',y⟩:=q;simp only[zV,List.cons.injEq]at h1;obtain⟨rfl,h1⟩:=h1;obtain⟨v,r,e1,r1,r2⟩:=h2;simp only[zV,List.cons.injEq]at e1;obtain⟨rfl,rfl⟩:=e1;exact⟨y,us,rfl,r1,h1,r2⟩
theorem lkc{α:Type}{f g:Str}{x:α}{fs:List (Str×α)}:jk f ((g,x)::fs)=if(f==g)=xH then xF x else fs.lookup f:=by
 show(match f==g with
  |true=>xF x
  |false=>jk f fs)=_
 cases f==g<;>rfl
theorem RepF.look{a:Wd}{f:Str}{d:D}:∀{fs:List (Str×D)}{us:List (Str×V)},RepF a fs us->fs.lookup f=xF d->∃u,us.lookup f=xF u/\Rep a d u
 |[],us,h,e=>by simp at e
 |(g,x)::fs,us,h,e=>by
  obtain⟨v,us',rfl,hv,hr⟩:=h.uncons;rw[lkc]at e⊢;by_cases q:(f==g)=xH
  ·rw[if_pos q]at e⊢;cases e;exact⟨v,rfl,hv⟩
  ·rw[if_neg q]at e⊢;exact RepF.look hr e
section
variable{X:Cx}{E:XK}{c f m:Str}{C:j6}{e o:j8}{es:List j8}{t ta tv:DE}{tr:DA}{pos apos pos':Pos}
end
theorem Ni:∀{ns:List Int}{us:List jF},Vals (ns.map V.int) us->us.length=ns.length/\∀(j:Nat)(u:jF),us[j]?=xF u->∃t,∃h:j<ns.length,u=.int ns[j] t
 |[],us,h=>by cases h;exact⟨rfl,λj u e=>by simp at e⟩
 | n::ns,us,h=>by
  cases h with
  | cons r rr=>
   obtain⟨h1,h2⟩:=Ni rr;obtain⟨t,rfl⟩:=r;refine⟨by simp[h1],λj u e=>?_⟩;cases j with
   |zero=>simp at e;exact⟨t,by simp,by simpa using e.symm⟩
   |succ j=>
    obtain⟨t',hj,e'⟩:=h2 j u (by simpa using e);exact⟨t',by simpa using hj,by simpa using e'⟩
section
variable{X:Cx}{E:XK}
end
section
variable{prog:jB}{w:jG}{A:j7}{E:jF->jD->Prop}{s:jD}
end
section
variable{X:Cx}{E:XK}
end
end _D
namespace _D
open PySem PySem.Spec _L
section
variable{S:DSt}{G:DH}{c f m:Str}{t to tv:DE}{ta:DA}{F:List D->DH->R D}{i:Nat}{fs:List (Str×D)}{v d:D}
end
end _D
namespace _D
open PySem PySem.Spec _L
open PyProof.Rows hiding St
def Ek(x:Str)(n:Int):Str:=if n<1 then Str.empty else if(n==1||x.length==0)=xH then x else⟨(zE n.toNat x.cps).foldl (·++·) #[]⟩
theorem Wz{a:Array Nat}:∀(n:Nat)(b:Array Nat),((zE n a).foldl (·++·) b).toList=b.toList++(zE n a.toList).flatten
 |0,b=>by simp
 |n+1,b=>by rw[List.replicate_succ,List.foldl_cons,Wz n (b++a),List.replicate_succ,List.flatten_cons];simp
theorem ZEA{a:Array Nat}(n:Nat):((zE n a).foldl (·++·) #[]).size=n*a.size:=by rw[<-qN,Wz];simp
def Mf:D->D->DH->R D
 |.int i,.int j,G=>if MulB i j then .ok (.int (i*j)) G else .bad
 |.str x,.int n,G=>if -1000<=n/\n<=1000/\x.length<=1000 then .ok (.str (Ek x n)) G else .bad
 |_,_,_=>.bad
section
variable{X:Cx}{E:XK}
theorem ZEr:OpR X (jN .Mult) (λx y H Q=>∃i n,x=.str i/\y=.int n/\(-1000<=n/\n<=1000/\i.length<=1000)/\Q (.str (Ek i n)) H):=by
 intro xE s σ H x y v u Q I rx ry h;obtain⟨i,n,rfl,rfl,⟨h1,h2,h3⟩,q⟩:=h;obtain⟨t,rfl⟩:=rx;obtain⟨t',rfl⟩:=ry;have hlen:∀m:Nat,m<=1000->i.length*m<=1000000:=λm hm=>zx (Nat.mul_le_mul h3 hm) (by decide)
 refine P.mul_str ?_ (λhn hx=>?_) (λhn hx=>?_) ?_
 ·rw[decide_eq_false (by lia),decide_eq_false (by lia)];rfl
 ·intro hgt;have hm:0<n:=by lia
  have:(i.length:Int)*n<=2^63-1:=by have h4:(i.length:Int)*n<=1000*1000:=Int.mul_le_mul (by lia) h2 (by lia) (by lia);lia
  have h5:=(Int.le_ediv_iff_mul_le hm).mpr this;lia
 ·have:=hlen n.toNat (by lia);unfold Builtin.Str.tooLong;rw[xX];exact decide_eq_false (by lia)
 ·unfold Ek at q;split
  ·rename_i hn;rw[if_pos hn]at q;exact⟨by decide,.str Str.empty,H,I.tok _,⟨_,rfl⟩,q⟩
  ·rename_i hn;rw[if_neg hn]at q;split
   ·rename_i hx;rw[if_pos hx]at q;exact⟨.str i,H,I,⟨t,rfl⟩,q⟩
   ·rename_i hx;rw[if_neg hx]at q;refine⟨?_,.str _,H,I.tok _,⟨_,rfl⟩,q⟩
    show((zE n.toNat i.cps).foldl (·++·) #[]).size<=sizeLine
    have h6:i.cps.size<=1000:=h3;have h7:=Nat.mul_le_mul (show n.toNat<=1000 by lia) h6;rw[ZEA,xX];lia
theorem ZFo:OpR X (jN .Mult) (lR2 X.K E Mf):=Cz (ZBi.or ZEr) λa G d e x y Q hk s rd re q=>by
 cases d<;>cases e<;>first
  |exact q.elim
  | (
    rename_i i j;unfold Mf at q;dsimp only at q;split at q
    ·first
     |exact .inl ⟨_,_,rd,re,by assumption,q a _ (Ext.refl a) s rfl⟩
     |exact .inr ⟨_,_,rd,re,by assumption,q a _ (Ext.refl a) s rfl⟩
    ·exact q.elim)
end
section
variable{i j:Int}{G:DH}
end
section
variable{X:Cx}{E:XK}{e st:j8}{te:TE}{ts:TO}{p2 pos:Pos}
end
section
variable{S:DSt}{G:DH}
end
theorem size6'{n:Nat}(h:n<=1000000):n<=sizeLine:=zx h (by decide)
def Ej(ds:List D)(G:DH):R D:=match ds with
 |[.str x]=>match PySem.intText? x with
  |some n=>if x.length<=640 then .ok (.int n) G else .bad
  |none=>.bad
 |_=>.bad
section
variable{X:Cx}{E:XK}
theorem ZCY:CallR X (.type "int") (lRn X.K E Ej):=λxE s σ H xs us Q I rs h=>by
 obtain⟨a,G,ds,hk,rfl,sm,r,q⟩:=h;unfold Ej at q;split at q
 ·rename_i x;obtain⟨v,rfl,h1⟩:=reps1 r
  cases(show v=V.str x from h1)
  obtain⟨u,rfl,t,rfl⟩:=vals1 rs;split at q
  ·rename_i n hn;split at q
   ·rename_i hl;exact PySem.W.KIN.call_text hn hl ⟨.int n,a.H,I.tok _,⟨_,rfl⟩,q a _ (Ext.refl a) sm rfl⟩
   ·exact q.elim
  ·exact q.elim
 ·exact q.elim
noncomputable def part3(x y:Str):List D:=[.str (Txt.partition x y).1,.str (Txt.partition x y).2.1,.str (Txt.partition x y).2.2]
def Fw(o:D)(ds:List D)(G:DH):R D:=match o,ds with
 |.str x,[.str y]=>if y.length≠0/\x.length<=1000000 then .ok (.tup (part3 x y)) G else .bad
 |_,_=>.bad
theorem Tn:MtM X "str.partition" (lRm X.K E Fw):=λxE s σ H x xs v us Q I rx rs h=>by
 obtain⟨a,G,d,ds,hk,rfl,sm,rd,r,q⟩:=h;unfold Fw at q;split at q
 ·rename_i x' y;obtain⟨w,rfl,rw'⟩:=reps1 r
  cases(show x=V.str x' from rd)
  cases(show w=V.str y from rw')
  obtain⟨t,rfl⟩:=rx;obtain⟨u,rfl,u',rfl⟩:=vals1 rs;split at q
  ·rename_i hl;have hy:(y.length==0)=xI:=by simpa using hl.1
   have rs3:Reps a (part3 x' y) [.str (Txt.partition x' y).1,.str (Txt.partition x' y).2.1,.str (Txt.partition x' y).2.2]:=Reps.cons (show Rep a (.str _) (V.str _)from rfl) (Reps.cons (show Rep a (.str _) (V.str _)from rfl) (Reps.cons (show Rep a (.str _) (V.str _)from rfl) Reps.nil))
   have key:∀(t1 t2 t3:Tok)(k:Nat),EP X xE σ Q (.ref s.heap.objs.size) {s with toks:=k,heap:=s.heap.push {cls:=.type "tuple",data:=.seq [.str (Txt.partition x' y).1 t1,.str (Txt.partition x' y).2.1 t2,.str (Txt.partition x' y).2.2 t3].toArray}}:=λt1 t2 t3 k=>
    ⟨.ref s.heap.objs.size,_,I.laid (t':=k) (o:=.tup [.str (Txt.partition x' y).1,.str (Txt.partition x' y).2.1,.str (Txt.partition x' y).2.2]) (λb ob q=>zQ _ q) (zJ _) ⟨by show 3<=sizeLine;decide,_,.cons ⟨t1,rfl⟩ (.cons ⟨t2,rfl⟩ (.cons ⟨t3,rfl⟩ .nil)),IsTup.new _ _⟩,rfl,Oe sm rs3 q _ (I.hok.fresh (zJ _))⟩
   refine call_meets F.slot_str_partition (typeIs_str _ _ _) F.entry_str_partition (F.args_str_partition_2 _ _) (meets_str_partition x' y t u' hy (size6' hl.2)) ?_;clear rs3
   revert key
   clear q;unfold Txt.partition;cases Builtin.Str.occurrences x' y 0 x'.length 1 with
   |nil=>intro key;exact key _ _ _ _
   |cons i r=>intro key;exact key _ _ _ _
  ·exact q.elim
 ·exact q.elim
def Ew(o:D)(ds:List D)(G:DH):R D:=match o,ds with
 |.str x,[.str y]=>if y.length≠0/\x.length<=1000000 then .ok (.ref G.length) (G++[.lst ((Txt.split x y).map D.str)])else .bad
 |_,_=>.bad
theorem V4:∀(l:List (Str×Tok)),Vals ((l.map (·.1)).map V.str) (strValues l)
 |[]=>.nil
 |a::l=>.cons ⟨a.2,rfl⟩ (V4 l)
theorem Q0{a:Wd}:∀(l:List Str),Reps a (l.map D.str) (l.map V.str)
 |[]=>Reps.nil
 |x::l=>Reps.cons (show Rep a (.str x) (V.str x)from rfl) (Q0 l)
theorem m_split:MtM X "str.split" (lRm X.K E Ew):=λxE s σ H x xs v us Q I rx rs h=>by
 obtain⟨a,G,d,ds,hk,rfl,sm,rd,r,q⟩:=h;unfold Ew at q;split at q
 ·rename_i x' y;obtain⟨w,rfl,rw'⟩:=reps1 r
  cases(show x=V.str x' from rd)
  cases(show w=V.str y from rw')
  obtain⟨t,rfl⟩:=rx;obtain⟨u,rfl,u',rfl⟩:=vals1 rs;split at q
  ·rename_i hl;have hy:(y.length==0)=xI:=by simpa using hl.1
   have hsl:=split_le x' y;have hsz:(Txt.split x' y).length<=sizeLine:=zx (zx hsl (Nat.add_le_add_right hl.2 2)) (by decide)
   have key:∀(l:List (Str×Tok))(k:Nat),l.map (·.1)=Txt.split x' y->EP X xE σ Q (.ref s.heap.objs.size) {s with toks:=k,heap:=s.heap.push {cls:=.type "list",data:=.seq (strValues l).toArray}}:=λl k e=>
    ⟨.ref s.heap.objs.size,_,I.laid (t':=k) (o:=.lst ((Txt.split x' y).map V.str)) (λb ob q=>zQ _ q) (zJ _) ⟨by rw[zy];exact hsz,_,0,by rw[<-e];exact V4 l,zD _ rfl⟩,rfl,Ka sm (Q0 _) q _ (I.hok.fresh (zJ _))⟩
   cases h1:(decide (x'.length<y.length)||decide (Builtin.Str.strKind x'<Builtin.Str.strKind y))
   ·cases hf:(Builtin.Str.occurrences x' y 0 x'.length (x'.length+1)).isEmpty
    ·have e:Txt.split x' y=Builtin.Str.partsBetween x' (Builtin.Str.occurrences x' y 0 x'.length (x'.length+1)) y.length:=(if_neg (ne_true_of_eq_false h1)).trans (if_neg (ne_true_of_eq_false hf));refine call_meets F.slot_str_split (typeIs_str _ _ _) F.entry_str_split (F.args_str_split_2 _ _) (meets_str_split_sep x' y t u' h1 hy hf (size6' hl.2) (by rw[<-e];exact hsz)) ?_;show EP X xE σ Q _ {s with toks:=_,heap:=s.heap.push {cls:=.type "list",data:=.seq (strsFrom s.toks (Builtin.Str.partsBetween x' (Builtin.Str.occurrences x' y 0 x'.length (x'.length+1)) y.length)).toArray}}
     rw[strsFrom_eq];exact key (numbered s.toks _) _ ((numbered_texts _ _).trans e.symm)
    ·exact call_meets F.slot_str_split (typeIs_str _ _ _) F.entry_str_split (F.args_str_split_2 _ _) (meets_str_split_not_found x' y t u' h1 hy hf) (key [(x',t)] s.toks ((if_neg (ne_true_of_eq_false h1)).trans (if_pos hf)).symm)
   ·exact call_meets F.slot_str_split (typeIs_str _ _ _) F.entry_str_split (F.args_str_split_2 _ _) (meets_str_split_cannot_occur x' y t u' h1) (key [(x',t)] s.toks (if_pos h1).symm)
  ·exact q.elim
 ·exact q.elim
def TupG(K:PySem.W.Frag)(mg:Str->Option jF)(n:Str)(ss:List Str):Prop:=∃(p:j6)(o:Obj)(its:Array jF)(k:Nat),mg n=xF (.ref p)/\K.lookup p=xF o/\o.cls=.type "tuple"/\o.data=.seq its k/\its.size<=sizeLine/\Vals (ss.map V.str) its.toList
theorem ZCF{K:PySem.W.Frag}{h:Heap}{mg:Str->Option jF}{n:Str}{p:j6}{od:Option j6}{sl:Array (Option jF)}{k:Nat}{its:List jF}{ss:List Str}(KX:K.In h)(G:h.Ns xQ mg)(a:PySem.W.nsIn K xQ n=xF (xF (.ref p)))
  (l:K.lookup p=xF ⟨.type "tuple",od,.seq its.toArray k,sl⟩) (hs:its.length<=1000) (v:Vals (ss.map V.str) its):TupG K mg n ss:=
 ⟨p,_,its.toArray,k,PySem.W.mg_of KX G a,l,rfl,rfl,by rw[zY];exact zx hs (by decide),by simpa using v⟩
theorem ZFy{x:Str}{ss:List Str}{pos:Pos}(hg:Gl X x)(h:TupG X.K X.mg x ss)(hd:(x==("__debug__":Str))=xI:=by decide):QE X E (.Name x pos) (dC (.tup (ss.map D.str))):=by obtain⟨p,o,its,k,h1,h2,h3,h4,h5,h6⟩:=h;exact Ur (v:=.ref p) hg h1 rfl (λa ha=>⟨p,ss.map V.str,rfl,.inr ⟨o,its,k,by rw[ha];exact h2,h3,h4,h5,h6⟩,Q0 ss⟩) hd
end
section
variable{S:DSt}{G:DH}
end
section
variable{X:Cx}{xE:List (j6×Obj)}{σ:St}{H:Hp}{s:jD}{N:List Str}{scope:jC}{caps:List Nat}{x qual:Str}{f:j6}{cd:jF}{A:j7}
end
section
variable{X:Cx}{xE:List (j6×Obj)}{σ:St}{s:jD}{scope:jC}{a:Wd}
end
section
variable{prog:jB}{w:jG}{A:j7}{E:jF->jD->Prop}{s:jD}
end
section
variable{X:Cx}{xE:List (j6×Obj)}{σ:St}{H:Hp}{s:jD}{h':Heap}{m:Str->Option jF}
end
section
variable{X:Cx}{xE:List (j6×Obj)}{σ:St}{N:List Str}{scope:jC}{caps:List Nat}{x:Str}{f:j6}{A:j7}{a:Wd}{S:DSt}{body:j8}{te:DE}{params:Arguments}{pm ctv:jF}{c':j6}{ob oc:Obj}{vs0:Array jF}{t0:Tok}{E:XK}
 {Dd kS:j6} {e1:Nat} {m:Str->Option jF} {h₀:Heap} {Q:VK}
end
end _D
namespace _D
open PySem PySem.Spec _L
open PyProof.Rows hiding St
open PySem.W (KatKeys KatFin katRev KatBack)
section
variable{prog:jB}{w:jG}{A:j7}{E:jF->jD->Prop}{s:jD}{h₀:Heap}{L a kS:j6}{m:Str->Option jF}{P:PySem.Fin->jD->Prop}
theorem X7{ks:List jF}{v:jF}{e e1:Nat}(hl:ks.length=1)(h:KatFin h₀ L m kS a ks e e1 [v] (λs3=>P (.done (.ret .none)) s3) s):xY (xZ prog w) A (ksk_end a xH [v].toArray e1 (.ref kS) ks.toArray) P E s:=by
 obtain⟨k,rfl⟩:∃k,ks=[k]:=by
  match ks,hl with
  |[k],_=>exact⟨k,rfl⟩
 unfold ksk_end;dsimp only;refine xz (wpAny_rule ?_);have h2: [v].toArray.size<2:=by simp
 rw[if_pos h2,if_pos h2];refine xz (xA ?_);rw[StateT.run_pure];refine xz (xA ?_);dsimp only;exact PySem.W.kat_tail (b:=xH) (out:=[v]) (ks:=[k]) (by simp[arrOf]) (by simp) (by simp) rfl h
end
end _D
namespace _D
open PySem PySem.Spec _L
open PyProof.Rows hiding St
section
variable{X:Cx}{xE:List (j6×Obj)}{σ:St}{N:List Str}{scope:jC}{caps:List Nat}{x:Str}{f:j6}{A:j7}{a:Wd}{S:DSt}{body:j8}{te:DE}{params:Arguments}{pm ctv:jF}{c':j6}{ob oc:Obj}{vs0:Array jF}{t0:Tok}
 {Dd kS:j6} {e1:Nat} {m:Str->Option jF} {h₀:Heap} {Q:VK}
end
section
variable{X:Cx}{xE:List (j6×Obj)}{σ:St}{N:List Str}{scope:jC}{caps:List Nat}{x:Str}{f:j6}{A:j7}{a:Wd}{S:DSt}{body:j8}{te:DE}{params:Arguments}{pm ctv:jF}{c':j6}{ob oc:Obj}{vs0:Array jF}{t0:Tok}{Q:VK}
end
section
variable{X:Cx}{N:List Str}{scope:jC}{caps:List Nat}{x:Str}{body:j8}{te:DE}{params:Arguments}{e:j8}{tn:DA}{p p' pos pos' lp kp kp' cp:Pos}{C m:Str}{cj:Nat}
end
end _D
namespace _D
open PySem PySem.W _L
variable{h:Heap}{K:xC}{C f:j6}{m x q:Str}{st:jE}
theorem ZAf{a:j6}{o:Obj}:∀{l:List Obj}{n:Nat},(Ik l n).lookup a=xF o->n<=a/\l[a-n]?=xF o/\∀x y z,o≠⟨x,y,.freed,z⟩
 |[],n,h=>by cases h
 | p::r,n,h=>by
  have next:(Ik r (n+1)).lookup a=xF o->n<=a/\(p::r)[a-n]?=xF o/\∀x y z,o≠⟨x,y,.freed,z⟩:=λh=>by obtain⟨h1,h2,h3⟩:=ZAf h;obtain⟨k,rfl⟩:=Nat.exists_eq_add_of_le h1;rw[Nat.add_sub_cancel_left]at h2;refine⟨zx (qF n) h1,?_,h3⟩;rw[show n+1+k-n=k+1 by rw[Nat.add_assoc,Nat.add_sub_cancel_left,Nat.add_comm],List.getElem?_cons_succ];exact h2
  unfold Ik at h;split at h
  ·exact next h
  ·exact next h
  ·rename_i hz hf;rw[qB]at h;split at h
   ·rename_i e;have e':a=n:=by simpa using e
    subst e';cases h;refine⟨zJ _,by simp,λx y z q=>?_⟩;subst q;exact hz rfl
   ·exact next h
theorem ZD0(h:Heap):(Lq h).In h:=λa o e=>by
 obtain⟨_,h2,h3⟩:=ZAf e;have h4:h.objs[a]?=xF o:=by simpa using h2
 unfold Heap.get?;rw[h4];split
 ·rename_i q;cases q;exact absurd rfl (h3 _ _ _)
 ·rfl
noncomputable def Gd(p:jB)(N:Nat)(w:jG):Heap:=match openEnds xK p w N with
 |some s=>s.heap
 |none=>default
def Stays(p:jB)(N:Nat)(w:jG)(h:Heap):Prop:=∀b o,(Gd p N w).get? b=xF o->h.get? b=xF o
theorem Stays.in{p:jB}{N:Nat}{w:jG}(x:Stays p N w h):(Lq (Gd p N w)).In h:=λa o e=>x a o (ZD0 _ a o e)
def Mg(p:jB)(N:Nat):Hook:=
 ⟨Heap,λs=>s.heap,Gd p N,Stays p N,λw s e b o q=>by rw[show s.heap=Gd p N w from e];exact q,λw h h' x k b o q=>k b o (x b o q)⟩
section
variable{p q:jB}{loose:List Str}{Xt:jD->Bool}{N:Nat}{β:Type}{see:Heap->β}{val:β}
theorem ZF9(E:∀w,(openEnds xK p w N).map (λs=>(openSeen q loose (jS p.main.body) Xt xH s,see s.heap))=xF (openGood q loose,val)):
  LeftO p q loose Xt (Mg p N).obs (Mg p N).val N:=λw=>by
 obtain⟨s,h1,h2⟩:=zC.mp (E w);show Option.map _ _=xF (openGood q loose,Gd p N w);unfold Gd;rw[h1];show xF (openSeen q loose (jS p.main.body) Xt xH s,s.heap)=_;rw[(Prod.mk.inj h2).1]
theorem ZDf(E:∀w,(openEnds xK p w N).map (λs=>(openSeen q loose (jS p.main.body) Xt xH s,see s.heap))=xF (openGood q loose,val))(w:jG):see (Gd p N w)=val:=by obtain⟨s,h1,h2⟩:=zC.mp (E w);unfold Gd;rw[h1];exact(Prod.mk.inj h2).2
end
noncomputable def dOf(s:jE):DefRec:=match s with
 |Stmt.FunctionDef n a b _ _ _ s _ _ p=>⟨n,a,b,s,p⟩
 |_=>⟨Str.empty,⟨[],[],xG,[],[],xG,[]⟩,[],{kind:=.module,names:=[],isGenerator:=xI,isCoroutine:=xI,more:=[]},⟨0,0,0,0⟩⟩
theorem holds_top{l:OpenLaw}{q:jB}{loose:List Str}{N:Nat}{β:Type}{see:Heap->β}{val:β}{d:DefRec}(well:l.wellSaid=xH)
  (E:∀w,(openEnds xK l.prog w N).map (λs=>(openSeen q loose (jS l.prog.main.body) (XtOf l q) xH s,see s.heap))=xF (openGood q loose,val))
  (hdef:defOf q l.row.name=xF (d,[])) (hp:l.row.prog.theDef l.row.name=xF (d.params,d.body,d.scope)) (hk:kwWritten? d.params.kwonlyargs d.params.kw_defaults=xF []) (hwr:(!l.row.writes||l.row.records.isEmpty)=xH)
  (ok:(chainsOk q&&opensWell l.row.prog&&(frees l.row.toRowW&&l.row.within.isEmpty))=xH) (hb:l.row.prog.bare) (hw:l.row.toRowW.promised)
  (call:WalkO q loose (XL q []) (Stays l.prog N) l.row.toRowW d [] λf vs=>PySem.call f vs):l.Holds:=
 holds_law well λsaid=>holds_open (r:=l.row) (q:=q) (loose:=loose) (Xt:=XtOf l q) (XP:=XL q []) (YP:=Stays l.prog N) (N:=N) (ZF9 E) (Mg l.prog N).of (Mg l.prog N).keeps
  (λs e=>xl_of s (qV.mp e).1) XL.keeps hdef hp hk (λs e=>recFacts_of (qV.mp e).2) hwr said ok hb hw call
theorem Hl{n:Str}(h:gOk K n=xH):nsIn K xQ n=xF (xF (.ref (Ac K n))):=by
 unfold gOk at h;unfold Ac;split at h
 ·rename_i e;rw[e]
 ·cases h
theorem ZAM(h:mOk K C m=xH):findIn K (.ref C) m=xF (xF (.ref (Bs K C m)))/\isFn K (.ref (Bs K C m))=xH:=by
 unfold mOk at h;unfold Bs;split at h
 ·rename_i e;rw[e];exact⟨rfl,h⟩
 ·cases h
theorem Wf(h:noF K C m=xH):findIn K (.ref C) m=xF xG:=by
 unfold noF at h;split at h
 ·assumption
 ·cases h
theorem ZB0{n:Str}(h:zOk K n=xH):nsIn K xQ n=xF xG:=by
 unfold zOk at h;split at h
 ·assumption
 ·cases h
theorem ZBS(h:Ou K C=xH):findIn K (.ref C) "__setattr__"=xF (xF (.builtin "object.__setattr__")):=by
 unfold Ou at h;split at h
 ·rename_i e;rw[e,beq_iff_eq.mp h]
 ·cases h
noncomputable def Gq(K:xC)(n:Str):Tok:=match nsIn K xQ n with
 |some (xF (.int _ t))=>t
 |some (xF (.str _ t))=>t
 |_=>0
theorem ZDW{n:Str}{v:Int}(h:iOk K n v=xH):nsIn K xQ n=xF (xF (.int v (Gq K n))):=by
 unfold iOk at h;unfold Gq;split at h
 ·rename_i e;rw[e,of_decide_eq_true h]
 ·cases h
theorem ZDe{n:Str}{v:Str}(h:sOk K n v=xH):nsIn K xQ n=xF (xF (.str v (Gq K n))):=by
 unfold sOk at h;unfold Gq;split at h
 ·rename_i e;rw[e,of_decide_eq_true h]
 ·cases h
abbrev FnSaid(K:xC)(x q:Str)(st:jE)(f:j6):Prop:=
 K.lookup f=xF ⟨(Du K f).cls,(Du K f).dict,.func (fnOf x q (Eb st) (By st) (Am st) .none (Av K f).kwdefaults (Av K f).doc (Av K f).pyModule (Av K f).annotations (Av K f).code (Av K f).closureTuple),(Du K f).slots⟩/\
  codeIn K (Av K f).code q=xH/\keepIn K (.ref f)=xH
theorem Xq(h:Od K x q f=xH)(t:Hu K f=Hw st):FnSaid K x q st f:=by
 unfold Od at h;split at h
 ·rename_i oc od fd sl e;have eo:Du K f=⟨oc,od,.func fd,sl⟩:=by unfold Du;rw[e]
  have ef:Av K f=fd:=by unfold Av;rw[eo]
  unfold Hu Hw at t;rw[ef]at t;obtain⟨t1,t2⟩:=Prod.mk.inj t;obtain⟨t2,t3⟩:=Prod.mk.inj t2;simp only[zw,decide_eq_true_eq,beq_iff_eq,List.isEmpty_iff]at h;obtain⟨⟨⟨h1,h2⟩,⟨⟨h3,h4⟩,h5⟩,h6⟩,h7,h8⟩:=h;unfold FnSaid;rw[ef,eo,e];refine⟨?_,h7,h8⟩;have h6':fd.defaults=.none:=by
   revert h6
   generalize fd.defaults=df;intro h6
   cases df<;>first|rfl|cases h6
  have h9:fd.body=.stmts (By st):=by
   revert t2
   generalize fd.body=bd;intro t2
   cases bd<;>first|(cases t2;rfl)|(cases t2)
  have ef':fd=fnOf x q (Eb st) (By st) (Am st) .none fd.kwdefaults fd.doc fd.pyModule fd.annotations fd.code fd.closureTuple:=by show FuncData.mk fd.name fd.qualname fd.params fd.body fd.scope fd.globals fd.closure fd.defaults fd.kwdefaults fd.doc fd.pyModule fd.annotations fd.code fd.closureTuple fd.builtins=_;rw[h1,h2,t1,h9,t3,h3,h5,h6',h4]
  exact congrArg (λz=>xF (Obj.mk oc od (.func z) sl)) ef'
 ·cases h
abbrev DfSaid(K:xC)(d:jF)(v:Int):Prop:=∃T o t n,d=.ref T/\K.lookup T=xF o/\o.data=.seq #[.int v t] n
theorem ZEc{d:jF}{v:Int}(h:dfl K d v=xH):DfSaid K d v:=by
 unfold dfl at h;split at h
 ·rename_i T;split at h
  ·rename_i o e;split at h
   ·rename_i a n e2;split at h
    ·rename_i i t e3;cases of_decide_eq_true h;refine⟨T,o,t,n,rfl,e,?_⟩;rw[e2]
     congr 1
     rw[<-Array.toList_inj,e3]
    ·cases h
   ·cases h
  ·cases h
 ·cases h
abbrev FnSaidD(K:xC)(x q:Str)(st:jE)(f:j6)(v:Int):Prop:=
 K.lookup f=xF ⟨(Du K f).cls,(Du K f).dict,.func (fnOf x q (Eb st) (By st) (Am st) (Av K f).defaults (Av K f).kwdefaults (Av K f).doc (Av K f).pyModule (Av K f).annotations (Av K f).code (Av K f).closureTuple),(Du K f).slots⟩/\
  codeIn K (Av K f).code q=xH/\keepIn K (.ref f)=xH/\DfSaid K (Av K f).defaults v
theorem ZEZ{v:Int}(h:Qu K x q f v=xH)(t:Hu K f=Hw st):FnSaidD K x q st f v:=by
 unfold Qu at h;split at h
 ·rename_i oc od fd sl e;have eo:Du K f=⟨oc,od,.func fd,sl⟩:=by unfold Du;rw[e]
  have ef:Av K f=fd:=by unfold Av;rw[eo]
  unfold Hu Hw at t;rw[ef]at t;obtain⟨t1,t2⟩:=Prod.mk.inj t;obtain⟨t2,t3⟩:=Prod.mk.inj t2;simp only[zw,decide_eq_true_eq,beq_iff_eq,List.isEmpty_iff]at h;obtain⟨⟨⟨h1,h2⟩,⟨⟨h3,h4⟩,h5⟩,h6⟩,h7,h8⟩:=h;unfold FnSaidD;rw[ef,eo,e];refine⟨?_,h7,h8,ZEc h6⟩;have h9:fd.body=.stmts (By st):=by
   revert t2
   generalize fd.body=bd;intro t2
   cases bd<;>first|(cases t2;rfl)|(cases t2)
  have ef':fd=fnOf x q (Eb st) (By st) (Am st) fd.defaults fd.kwdefaults fd.doc fd.pyModule fd.annotations fd.code fd.closureTuple:=by show FuncData.mk fd.name fd.qualname fd.params fd.body fd.scope fd.globals fd.closure fd.defaults fd.kwdefaults fd.doc fd.pyModule fd.annotations fd.code fd.closureTuple fd.builtins=_;rw[h1,h2,t1,h9,t3,h3,h5,h4]
  exact congrArg (λz=>xF (Obj.mk oc od (.func z) sl)) ef'
 ·cases h
theorem Nz:∀{l:List jF}{ss:List Str},strsOf l=xF ss->Vals (ss.map V.str) l
 |[],ss,h=>by cases h;exact .nil
 |v::r,ss,h=>by
  unfold strsOf at h;split at h
  ·rename_i q;cases q
  ·rename_i s t r' q;cases q;obtain⟨ss',h1,rfl⟩:=zC.mp h;exact .cons ⟨_,rfl⟩ (Nz h1)
  ·cases h
abbrev GtSaid(K:xC)(n:Str)(vs:List Str):Prop:=∃(p:j6)(od:Option j6)(sl:Array (Option jF))(k:Nat)(its:List jF),nsIn K xQ n=xF (xF (.ref p))/\K.lookup p=xF ⟨.type "tuple",od,.seq its.toArray k,sl⟩/\its.length<=1000/\Vals (vs.map V.str) its
theorem ZB9{n:Str}{vs:List Str}(h:Tq K n vs=xH):GtSaid K n vs:=by
 unfold Tq at h;split at h
 ·rename_i p e;split at h
  ·rename_i t od its k sl e2;simp only[zw,beq_iff_eq,decide_eq_true_eq]at h;obtain⟨⟨rfl,h2⟩,h3⟩:=h;exact⟨p,od,sl,k,its.toList,e,by rw[e2],qG h3,Nz h2⟩
  ·cases h
 ·cases h
theorem ZEW{mg:Str->Option jF}{n:Str}{vs:List Str}(X:K.In h)(G:h.Ns xQ mg)(s:GtSaid K n vs):TupG K mg n vs:=by obtain⟨p,od,sl,k,its,h1,h2,h3,h4⟩:=s;exact ZCF X G h1 h2 h3 h4
abbrev GdSaid(K:xC)(n:Str)(kvs:List (Str×Str)):Prop:=∃(p:j6)(od:Option j6)(sl:Array (Option jF))(k:Nat)(es:Array DictEntry),nsIn K xQ n=xF (xF (.ref p))/\K.lookup p=xF ⟨.type "dict",od,.dict es k,sl⟩/\(p==sysModules)=xI/\Vals ((kvs.map (·.1)).map V.str) (es.toList.map (·.key))/\Vals ((kvs.map (·.2)).map V.str) (es.toList.map (·.val))
theorem ZDx{n:Str}{kvs:List (Str×Str)}(h:Tp K n kvs=xH):GdSaid K n kvs:=by
 unfold Tp at h;split at h
 ·rename_i p e;split at h
  ·rename_i t od es k sl e2;simp only[zw,beq_iff_eq,decide_eq_true_eq,Bool.not_eq_true']at h;obtain⟨⟨⟨rfl,h2⟩,h3⟩,h4⟩:=h;exact⟨p,od,sl,k,es,e,by rw[e2],h2,Nz h3,Nz h4⟩
  ·cases h
 ·cases h
def Ask.Said(K:xC):Ask->Prop
 |.fn n st=>nsIn K xQ n=xF (xF (.ref (Ac K n)))/\FnSaid K n n st (Ac K n)
 |.mt c m q st=>findIn K (.ref (Ac K c)) m=xF (xF (.ref (Bs K (Ac K c) m)))/\isFn K (.ref (Bs K (Ac K c) m))=xH/\FnSaid K m q st (Bs K (Ac K c) m)
 | .cl c=>nsIn K xQ c=xF (xF (.ref (Ac K c)))/\plainGet K (Ac K c) Str.empty=xH/\hasDictIn K (Ac K c)=xH/\plainOver K (Ac K c)=xH/\
   findIn K (.ref (Ac K c)) "__setattr__"=xF (xF (.builtin "object.__setattr__"))/\makesIn K (Ac K c)=xH/\keepIn K (.ref (Ac K c))=xH
 |.no c x=>findIn K (.ref (Ac K c)) x=xF xG
 |.z n=>nsIn K xQ n=xF xG
 |.gi n v=>nsIn K xQ n=xF (xF (.int v (Gq K n)))
 |.gs n v=>nsIn K xQ n=xF (xF (.str v (Gq K n)))
 |.gt n vs=>GtSaid K n vs
 |.gd n kvs=>GdSaid K n kvs
 |.ck φ=>φ K=xH
 |.fd n st v=>nsIn K xQ n=xF (xF (.ref (Ac K n)))/\FnSaidD K n n st (Ac K n) v
theorem Ask.said:∀{a:Ask},a.chk K=xH->a.txt K=a.want->a.Said K
 |.fn n st,h,t=>by obtain⟨h1,h2⟩:=qV.mp h;exact⟨Hl h1,Xq h2 (Option.some.inj t)⟩
 |.mt c m q st,h,t=>by obtain⟨h1,h2⟩:=qV.mp h;exact⟨(ZAM h1).1,(ZAM h1).2,Xq h2 (Option.some.inj t)⟩
 |.cl c,h,_=>by simp only[Ask.chk,zw]at h;obtain⟨⟨h1,⟨h2,h3⟩,h4⟩,⟨h5,h6⟩,h7⟩:=h;exact⟨Hl h1,h2,h3,h4,ZBS h5,h6,h7⟩
 |.no c x,h,_=>Wf h
 |.z n,h,_=>ZB0 h
 |.gi n v,h,_=>ZDW h
 |.gs n v,h,_=>ZDe h
 |.gt n vs,h,_=>ZB9 h
 |.gd n kvs,h,_=>ZDx h
 |.ck _,h,_=>h
 |.fd n st v,h,t=>by obtain⟨h1,h2⟩:=qV.mp h;exact⟨Hl h1,ZEZ h2 (Option.some.inj t)⟩
def AllSaid(K:xC):List Ask->Prop
 |[]=>True
 |a::r=>a.Said K/\AllSaid K r
theorem We:∀{l:List Ask},(l.all (Ask.chk K),l.map (Ask.txt K))=(xH,l.map Ask.want)->AllSaid K l
 |[],_=>trivial
 |a::r,h=>by obtain⟨h1,h2⟩:=Prod.mk.inj h;rw[jW]at h1;obtain⟨h3,h4⟩:=qV.mp h1;rw[zV,zV]at h2;obtain⟨h5,h6⟩:=List.cons.inj h2;exact⟨Ask.said h3 h5,We (by rw[h4,h6])⟩
theorem ZDw{a:Str}{fd:j9}{s:jD}{v:jF}(F:Fun K x q st f fd)
  (h:∀(kV doc pm:jF)(an:Option j6)(cdv ct:jF)(u:jF),bindArgs (fnOf x q (Eb st) (By st) (Am st) .none kV doc pm an cdv ct) ⟨[u],[]⟩=pure [(a,u)]):BindsTo s fd ⟨[v],[]⟩ [(a,v)]:=by
 obtain⟨oc,od,kV,doc,pm,an,cdv,ct,osl,rfl,lk,hcd⟩:=F.ex;exact .of_eq (h kV doc pm an cdv ct v)
theorem Zg{p:jB}{w:jG}{n₀:Nat}{ann:Option jF}:∀{n:Nat}{s s':SharedT}{t:Thread},Ms p w n₀ ann n s t=xF s'->topRun xK p w n₀ ann n s.abs t=xF s'.abs
 |0,_,_,_,h=>by cases h
 | n+1,s,s',t,h=>by
  unfold Ms at h;unfold topRun;rw[<-PySem.W.Fast.te6613529449190102663,<-PySem.W.Fast.te10156331382660048174,<-PySem.W.Fast.te11892475500146522536,<-PySem.W.Fast.te14364793385576792824]at h;cases ht:through t with
  |true=>
   rw[ht]at h;cases h
   rfl
  | false=>
   rw[ht]at h;dsimp only at h⊢;cases ho:stepOk n₀ ann t with
   |false=>rw[ho]at h;cases h
   |true=>
    rw[ho]at h;dsimp only at h⊢;split at h
    ·rename_i s2 t2 e;rw[stepT_spec e];exact Zg h
    ·cases h
theorem boot_abs:∀w os,(ZAD w os).abs=⟨xD w.params,Array.mk [],boot_drawn,boot_toks,os⟩:=λw os=>by kernel_rfl
theorem ZGe:∀w:jG,((xD w.params).isNs xQ&&(Array.mk []:Array GenState).size==0)=xH:=λw=>by kernel_rfl
theorem ZGA{p q:jB}{loose:List Str}{Xt:jD->Bool}{β:Type}{see:Heap->β}{val:β}(e:opening p=plainProg p.main.scope.names)(f:∀s,fenceModules? p s=xF s)
  (R:∀w os,(Rk p w os).map (λs=>(Rz p w s.abs,PySem.W.Fast.tw4187177175401517315 q loose (PySem.W.Fast.tw5923862056798008813 p.main.body) Xt xH s.abs,see s.abs.heap))=xF (xH,openGood q loose,val)):
  ∀w,(openEnds xK p w 100000).map (λs=>(openSeen q loose (jS p.main.body) Xt xH s,see s.heap))=xF (openGood q loose,val):=λw=>by
 obtain⟨⟨h,gs,d,k,os⟩,h0,e0⟩:=zC.mp (boot_open (N:=100000) e rfl f w);obtain⟨rfl,rfl,rfl,rfl⟩:h=xD w.params/\gs=Array.mk []/\d=boot_drawn/\k=boot_toks:=by simpa using e0
 obtain⟨s,h1,h2⟩:=zC.mp (R w os);obtain⟨h3,h4⟩:=Prod.mk.inj h2;obtain⟨h4,h5⟩:=Prod.mk.inj h4;unfold Rk at h1;have r:=Zg h1;rw[boot_abs,<-PySem.W.Fast.te8920871248978507458]at r;rw[<-PySem.W.Fast.te4187177175401517315,<-PySem.W.Fast.te5923862056798008813]at h4;unfold Rz at h3;rw[<-PySem.W.Fast.te5923862056798008813]at h3;have t:topFrom xK p w 100000 ⟨xD w.params,Array.mk [],boot_drawn,boot_toks,os⟩=xF s.abs:=by
  unfold topFrom;dsimp only;rw[ZGe,r]
  show(match staticsOk (jS p.main.body) (xD w.params) s.abs.heap&&namesBound p s.abs.heap&&gensDone s.abs&&laidKept (xD w.params) s.abs.heap with |true=>_|false=>_)=_
  rw[h3]
 unfold openEnds;rw[h0];show(topFrom xK p w 100000 _).map _=_;rw[t];exact congrArg xF (Prod.ext h4 h5)
theorem ZDR{l:OpenLaw}(h:PySem.W.Fast.tw9446332074065402090 l=xH):l.wellSaid=xH:=by rw[PySem.W.Fast.te9446332074065402090];exact h
structure FT (K:xC) (mg:Str->Option jF) (n:Str) (st:jE) (ps:List Str):Prop where
 F:Fun K n n st (Ac K n) (Av K (Ac K n))
 b:Binds K (Av K (Ac K n)) ps []
 m:mg n=xF (.ref (Ac K n))
 k:keepIn K (.ref (Ac K n))=xH
structure MT (K:xC) (c m q:Str) (st:jE) (ps:List Str):Prop where
 F:Fun K m q st (Bs K (Ac K c) m) (Av K (Bs K (Ac K c) m))
 b:Binds K (Av K (Bs K (Ac K c) m)) ps []
 me:Meth K (Ac K c) m (Bs K (Ac K c) m)
theorem O5(s:FnSaid K x q st f):Fun K x q st f (Av K f):=by
 have e:Av K f=fnOf x q (Eb st) (By st) (Am st) .none (Av K f).kwdefaults (Av K f).doc (Av K f).pyModule (Av K f).annotations (Av K f).code (Av K f).closureTuple:=by
  have h:=s.1
  conv=>lhs;unfold Av Du;rw[h]
 exact⟨⟨_,_,_,_,_,_,_,_,_,e,by rw[e];exact s.1,s.2.1⟩,s.2.2⟩
theorem ZIW{mg:Str->Option jF}{n:Str}{ps:List Str}(X:K.In h)(G:h.Ns xQ mg)(s:Ask.Said K (.fn n st))
  (hb:∀(kV doc pm:jF)(an:Option j6)(cdv ct:jF)(us:List jF),us.length=ps.length->bindArgs (fnOf n n (Eb st) (By st) (Am st) .none kV doc pm an cdv ct) ⟨us,[]⟩=pure (ps.zip us)):FT K mg n st ps:=
 ⟨O5 s.2,(O5 s.2).binds hb,mg_of X G s.1,s.2.2.2⟩
theorem ZGT{c:Str}{ps:List Str}(s:Ask.Said K (.mt c m q st))
  (hb:∀(kV doc pm:jF)(an:Option j6)(cdv ct:jF)(us:List jF),us.length=ps.length->bindArgs (fnOf m q (Eb st) (By st) (Am st) .none kV doc pm an cdv ct) ⟨us,[]⟩=pure (ps.zip us)):MT K c m q st ps:=
 ⟨O5 s.2.2,(O5 s.2.2).binds hb,s.1,s.2.1,s.2.2.2.2⟩
abbrev FnO(P:jB)(w:jG)(K:xC)(mg:Str->Option jF)(base:Heap)(k:Nat)(n:Str)(ps:List Str)(F:List D->DH->R D):Prop:=FnOk P w K mg base CX0 k (Ac K n) (Av K (Ac K n)) ps (lF K F)
theorem ZDA{fd:j9}{s:jD}{v:jF}{a:Str}(F:Fun K x q st f fd)
  (h:∀(kV doc pm:jF)(an:Option j6)(cdv ct:jF)(u:jF),bindArgs (fnOf x q (Eb st) (By st) (Am st) .none kV doc pm an cdv ct) ⟨[u],[]⟩=pure [(a,u)]:=by intros;rfl):BindsTo s fd ⟨[v],[]⟩ [(a,v)]:=ZDw F h
end _D
namespace _D
open PySem PySem.Spec _L
open PyProof.Rows hiding St
variable{k i:Nat}{st:jE}{ps:List Str}{F:List D->DH->R D}{cls v:jF}{od:Option j6}{w:jG}{h base:Heap}{C f:j6}{H:Hp}{mg:Str->Option jF}{qual:Str}{fd:j9}{s:jD}{A:j7}{b:Wd}{G:DH}{fill expr:Bool}
section
variable{prog:jB}{w:jG}{A:j7}{E:jF->jD->Prop}{s:jD}
end
section
variable{X:Cx}{E:XK}{p:j6}{kvs:List (Str×Str)}{x:Str}{a:j8}{ta:DE}{np pos:Pos}
end
noncomputable def Bt:D->Option V
 |.int i=>xF (.int i)
 |.str x=>xF (.str x)
 |_=>xG
section
variable{X:Cx}{E:XK}{pos:Pos}
end
section
variable{S:DSt}{G:DH}
end
theorem Cm{X:Cx}{j:Nat}{n:Str}{p pos:Pos}{e:j8}{es:List j8}{tr:DA}(FF:FnO X.prog X.w X.K X.mg X.base k n ps F)(T:FT X.K X.mg n st ps)(hr:Room j X.A)(ha:QA X E0 (e::es) tr)
  (hj:k<=j:=by decide) (hg:Gl X n:=by exact rfl) (hd:(n==("__debug__":Str))=xI:=by decide) (he:notStar e=xH:=by exact rfl) (hp:es.all notStar=xH:=by exact rfl):QE X E0 (.Call (.Name n p) (e::es) [] pos) (dFn F tr):=
 ZDU FF (hr.mono hj) hg T.m T.k T.b pass0 ha hd he hp
theorem ZGY{f:Array jF->Array jF}{o:Obj}:(Obj.mapFields f o).dict=o.dict:=by
 obtain⟨c,d,dt,sl⟩:=o;unfold Obj.mapFields
 cases dt<;>rfl
def Trc(h B:Heap)(e:j6)(cls:jF)(od:Option j6)(fl:jF):Prop:=
 ∃oe vs T oT ts,h.get? e=xF oe/\(oe.cls=cls/\oe.dict=od)/\oe.data=.fields vs/\vs[1]?=xF (.ref T)/\(B.get? T=xG/\T≠e)/\h.get? T=xF oT/\oT.data=.fields ts/\ts[3]?=xF fl
structure Noted (B:Heap) (l:List Env) (e:j6) (cls:jF) (od:Option j6) (fl:jF) (h h':Heap):Prop where
 st:B.StaysIn h'
 fr:h'.FunFrames B l
 tr:Trc h' B e cls od fl
 up:∀b o,h.get? b=xF o->(∀vs,o.data≠ .fields vs)->∃sl,h'.get? b=xF {o with slots:=sl}
 th:∀b o,h.get? b=xF o->∃o',h'.get? b=xF o'
section
variable{M:Model}{A:j7}{E:jF->jD->Prop}{s:jD}{B:Heap}{env:Env}{outer:List Env}{L e:j6}{oe:Obj}{vs:Array jF}{head:jF}{hn:Bool}{Q:Unit->jD->Prop}
theorem Sg(fr:A.frames=xF (env::outer))(hl:s.heap.FunFrames B (env::outer))(hf:env.frame=xF L)(he:s.heap.get? e=xF oe)(hk:B.StaysIn s.heap)(hb:B.get? e=xG)(hd:oe.data=.fields vs)(hz:1<vs.size)
  (q:∀h',Noted B (env::outer) e oe.cls oe.dict (xJ L) s.heap h'->Q () {s with heap:=h'}):
  xY M A (do let a<-frameOf env;let pl<-entryPlaceOf L hn;let b<-EntryCells.newEntry head a .none (xJ L) .none pl;setField (.ref e) 1 b) Q E s:=by
 have ne:e∉(env::outer).filterMap (·.frame):=λhm=>by obtain⟨_,o,ho,nf⟩:=hl.mem hm;rw[he]at ho;cases ho;exact nf vs hd
 refine xz (wpAny_frameOf_fun fr hl hf λh1 k1=>?_);refine xz (wpAny_entryPlaceOf λpl hp=>?_);unfold EntryCells.newEntry newFields;refine xz (x0 ?_ (hp.sizeOk5 _ _ _ _ _));generalize hO:({cls:=.type "traceback",dict:=xG,data:=.fields ([head,.ref L,.none,xJ L,.none]++(if pl.isEmpty then zE 6 Value.none else pl)).toArray}:Obj)=O;have hOd:O.data=.fields ([head,.ref L,.none,xJ L,.none]++(if pl.isEmpty then zE 6 Value.none else pl)).toArray:=by rw[<-hO]
 have e1:h1.get? e=xF oe:=(k1.2.1 e ne).trans he;have b1:B.StaysIn h1:=λb o hbo=>(k1.2.1 b λhm=>by rw[(hl.mem hm).1]at hbo;cases hbo).trans (hk b o hbo)
 have e2:(h1.push O).get? e=xF oe:=zQ O e1;refine wpAny_setField e2 hd hz (q _ ?_);have nTe:h1.objs.size≠e:=j5 (zX e1)
 have d3:=Obj.data_mapFields hd (·.setIfInBounds 1 (Value.ref h1.objs.size))
 have e3:=qZ (Obj.mapFields (·.setIfInBounds 1 (Value.ref h1.objs.size))) e2 (Obj.isFreed_of_fields d3)
 have t3:=(zN (h1.push O) (Obj.mapFields (·.setIfInBounds 1 (Value.ref h1.objs.size))) (Ne.symm nTe)).trans (zD h1 (by rw[<-hO];rfl))
 have keep:∀b o,b≠e->h1.get? b=xF o->((h1.push O).update e (Obj.mapFields (·.setIfInBounds 1 (Value.ref h1.objs.size)))).get? b=xF o:=λb o n hb'=>by rw[zN _ _ (Ne.symm n)];exact zQ _ hb'
 have nf:∀b o,s.heap.get? b=xF o->(∀vs,o.data≠ .fields vs)->b≠e:=λb o hb' n z=>by rw[z,he]at hb';cases hb';exact n vs hd
 have fresh:B.get? h1.objs.size=xG:=b1.fresh;refine⟨λb o hbo=>keep b o (λz=>by rw[z,hb]at hbo;cases hbo) (b1 b o hbo),hl.of_keeps λb o hb' n=>?_,⟨_,_,h1.objs.size,_,_,e3,⟨Obj.cls_mapFields _ _,ZGY⟩,d3,by simp[hz],⟨fresh,nTe⟩,t3,hOd,by simp⟩,λb o hb' n=>?_,λb o hb'=>?_⟩
 ·obtain⟨sl,hs⟩:=k1.2.2 b o hb';exact⟨_,keep b _ (nf b o hb' n) hs,rfl⟩
 ·obtain⟨sl,hs⟩:=k1.2.2 b o hb';exact⟨sl,keep b _ (nf b o hb' n) hs⟩
 ·obtain⟨sl,hs⟩:=k1.2.2 b o hb';by_cases z:b=e
  ·subst z;exact⟨_,e3⟩
  ·exact⟨_,keep b _ z hs⟩
theorem ZEl(fr:A.frames=xF (env::outer))(hl:s.heap.FunFrames B (env::outer))(hf:env.frame=xF L)(he:s.heap.get? e=xF oe)(hk:B.StaysIn s.heap)(hb:B.get? e=xG)(hd:oe.data=.fields vs)(h1:vs[1]?=xF .none)
  (q:∀h',Noted B (env::outer) e oe.cls oe.dict (xJ L) s.heap h'->Q () {s with heap:=h'}):xY M A (noteFrame (.ref e) env) Q E s:=by
 unfold noteFrame;simp only[hf];refine xz (xj he hd h1 ?_);rw[if_neg (by decide)];exact Sg fr hl hf he hk hb hd (z0.mp h1).1 q
theorem Vx(fr:A.frames=xF (env::outer))(hl:s.heap.FunFrames B (env::outer))(hf:env.frame=xF L)(ht:Trc s.heap B e cls od .none)(hk:B.StaysIn s.heap)(hb:B.get? e=xG)
  (q:∀h',Noted B (env::outer) e cls od (xJ L) s.heap h'->Q () {s with heap:=h'}):xY M A (noteFrame (.ref e) env) Q E s:=by
 obtain⟨oe,vs,T,oT,ts,he,⟨rfl,rfl⟩,hd,h1,⟨nT,nTe⟩,hT,dT,h3⟩:=ht;unfold noteFrame;simp only[hf];refine xz (xj he hd h1 ?_)
 rw[if_pos (show(Value.ref T != Value.none)=xH from by simp)]
 refine xz (xj hT dT h3 ?_)
 rw[if_neg (show¬((Value.none==xJ L)=xH)from by simp[xJ])]
 refine xz (wpAny_setField hT dT (z0.mp h3).1 ?_)
 have oth:∀b,b≠T->(s.heap.update T (Obj.mapFields (·.setIfInBounds 3 Value.none))).get? b=s.heap.get? b:=λb n=>zN _ _ (Ne.symm n)
 have nf:∀b o,s.heap.get? b=xF o->(∀vs,o.data≠ .fields vs)->b≠T:=λb o hb' n z=>by rw[z,hT]at hb';cases hb';exact n ts dT
 refine Sg fr (hl.of_keeps λb o hb' n=>⟨o,(oth b (nf b o hb' n)).trans hb',rfl⟩) hf ((oth e (Ne.symm nTe)).trans he)
  (λb o hbo=>(oth b λz=>by rw[z,nT]at hbo;cases hbo).trans (hk b o hbo)) hb hd (z0.mp h1).1
  λh' n=>q h' ⟨n.st,n.fr,n.tr,λb o hb' nn=>n.up b o ((oth b (nf b o hb' nn)).trans hb') nn,λb o hb'=>?_⟩
 by_cases z:b=T
 ·subst z;exact n.th b _ (qZ _ hT (Obj.isFreed_of_fields (Obj.data_mapFields dT _)))
 ·exact n.th b o ((oth b z).trans hb')
theorem O6{fl:jF}{l:List Env}(hl:s.heap.FunFrames B l)(ht:Trc s.heap B e cls od fl)(hk:B.StaysIn s.heap)
  (q:∀h',Noted B l e cls od .none s.heap h'->Q () {s with heap:=h'}):xY M A (setFlight (.ref e) xG) Q E s:=by
 obtain⟨oe,vs,T,oT,ts,he,⟨rfl,rfl⟩,hd,h1,⟨nT,nTe⟩,hT,dT,h3⟩:=ht;unfold setFlight;refine xz (xj he hd h1 ?_)
 rw[if_pos (show(Value.ref T != Value.none)=xH from by simp)]
 refine wpAny_setField hT dT (z0.mp h3).1 (q _ ?_)
 have oth:∀b,b≠T->(s.heap.update T (Obj.mapFields (·.setIfInBounds 3 ((xG:Option j6).elim Value.none λf=>xJ f)))).get? b=s.heap.get? b:=λb n=>zN _ _ (Ne.symm n)
 have nf:∀b o,s.heap.get? b=xF o->(∀vs,o.data≠ .fields vs)->b≠T:=λb o hb' n z=>by rw[z,hT]at hb';cases hb';exact n ts dT
 have dT':=Obj.data_mapFields dT (·.setIfInBounds 3 ((xG:Option j6).elim Value.none λf=>xJ f))
 have hT':=qZ (Obj.mapFields (·.setIfInBounds 3 ((xG:Option j6).elim Value.none λf=>xJ f))) hT (Obj.isFreed_of_fields dT')
 have z3:=(z0.mp h3).1;refine⟨λb o hbo=>(oth b λz=>by rw[z,nT]at hbo;cases hbo).trans (hk b o hbo),hl.of_keeps λb o hb' n=>⟨o,(oth b (nf b o hb' n)).trans hb',rfl⟩,
  ⟨oe,vs,T,_,_,(oth e (Ne.symm nTe)).trans he,⟨rfl,rfl⟩,hd,h1,⟨nT,nTe⟩,hT',dT',by simp[z3]⟩,λb o hb' n=>⟨o.slots,(oth b (nf b o hb' n)).trans hb'⟩,λb o hb'=>?_⟩
 by_cases z:b=T
 ·subst z;exact⟨_,hT'⟩
 ·exact⟨o,(oth b z).trans hb'⟩
theorem Noted.trans{l:List Env}{f1 f2:jF}{h1 h2 h3:Heap}(x:Noted B l e cls od f1 h1 h2)(y:Noted B l e cls od f2 h2 h3):Noted B l e cls od f2 h1 h3:=
 ⟨y.st,y.fr,y.tr,λb o hb n=>by
  obtain⟨sl,k⟩:=x.up b o hb n;obtain⟨sl',k'⟩:=y.up b _ k n;exact⟨sl',k'⟩,λb o hb=>by
  obtain⟨o',k⟩:=x.th b o hb;exact y.th b o' k⟩
theorem ZDT(fr:A.frames=xF (env::outer))(hl:s.heap.FunFrames B (env::outer))(hf:env.frame=xF L)(he:s.heap.get? e=xF oe)(hk:B.StaysIn s.heap)(hb:B.get? e=xG)(hd:oe.data=.fields vs)(h1:vs[1]?=xF .none)
  (q:∀h',Noted B (env::outer) e oe.cls oe.dict .none s.heap h'->Q () {s with heap:=h'}):xY M A (leaving env (.ref e)) Q E s:=by
 unfold leaving;exact xz (ZEl fr hl hf he hk hb hd h1 λh' n=>O6 n.fr n.tr n.st λh'' n'=>q h'' (n.trans n'))
theorem ZCz(fr:A.frames=xF (env::outer))(hl:s.heap.FunFrames B (env::outer))(hf:env.frame=xF L)(ht:Trc s.heap B e cls od .none)(hk:B.StaysIn s.heap)(hb:B.get? e=xG)
  (q:∀h',Noted B (env::outer) e cls od .none s.heap h'->Q () {s with heap:=h'}):xY M A (leaving env (.ref e)) Q E s:=by
 unfold leaving;exact xz (Vx fr hl hf ht hk hb λh' n=>O6 n.fr n.tr n.st λh'' n'=>q h'' (n.trans n'))
end
structure Fly (B:Heap) (l:List Env) (e:j6) (cls:jF) (od:Option j6) (H':Hp) (h:Heap):Prop where
 st:B.StaysIn h
 fr:h.FunFrames B l
 tr:Trc h B e cls od .none
 eb:B.get? e=xG
 al:∀b,H' b≠xG->∃o,B.get? b=xF o
def CXx(P:jB)(w:jG):CXT:=λouter H s E e s'=>∃(ea:j6)(cls:jF)(od:Option j6)(H':Hp)(B:Heap),e=.ref ea/\s'.os=s.os/\AllBare s'.gens/\Un (frs outer) [] H H' s.heap s'.heap/\HOk P w H' s'.heap/\
 Fly B outer ea cls od H' s'.heap/\(∀b o,s.heap.get? b=xF o->H b=xG->b∉frs outer->B.get? b=xF o)/\s.heap.get? ea=xG/\E cls od H'/\∃C,cls=.ref C
section
variable{X:Cx}{xE:List (j6×Obj)}{σ:St}{H H':Hp}{s s':jD}{B h'':Heap}{ea:j6}{cls:jF}{od:Option j6}{E:XK}
theorem Pj{P:jB}{h':Heap}(hok:HOk P w H' h)(al:∀b,H' b≠xG->∃o,B.get? b=xF o)(s1:B.StaysIn h)(s2:B.StaysIn h'):HOk P w H' h':=λa o e=>
 (hok a o e).stay (λb u hb q=>by
  have hn:H' b≠xG:=by
   rcases hb with rfl|hb
   ·rw[e];simp
   ·rw[hb];simp
  obtain⟨o',k⟩:=al b hn;have k1:=s1 b o' k;rw[q]at k1;cases k1;exact s2 b u k) (λ_ q=>q) λ_ _ q=>q
theorem Zq(I:Inv X xE σ H s)(hs:X.stack=X.env::X.outer)(hex:X.ex=[])(hfr:X.env.frame=xF X.env.locals)(os:s'.os=s.os)(bare:AllBare s'.gens)(un:Un (frs X.stack) [] H H' s.heap s'.heap)(hok:HOk X.prog X.w H' s'.heap)
  (bb:∀b o,s.heap.get? b=xF o->H b=xG->b∉frs X.stack->B.get? b=xF o) (al:∀b,H' b≠xG->∃o,B.get? b=xF o) (eb:B.get? ea=xG) (st:B.StaysIn s'.heap) (new:s.heap.get? ea=xG)
  (n:Noted B X.stack ea cls od .none s'.heap h'') (hE:E cls od H') (hc:∃C,cls=.ref C):CXx X.prog X.w X.outer X.H₀ X.s₀ E (.ref ea) {s' with heap:=h''}:=by
 have base:=I.base;rw[hex]at base;have fe:frs X.stack=X.env.locals::frs X.outer:=by rw[hs];unfold frs;rw[qw,hfr]
 have bb':∀b o,X.s₀.heap.get? b=xF o->X.H₀ b=xG->b∉frs X.outer->B.get? b=xF o:=λb o q hn hb=>by
  refine bb b o (base.keep b o q hn hb (by simp)) (base.free b o q hn (by simp)) ?_;rw[fe];intro hm;rcases zv.mp hm with z|z
  ·exact absurd (zZ (zX q) I.ok.above) (by rw[z];exact zA _)
  ·exact hb z
 have frO:h''.FunFrames B X.outer:=by have:=n.fr;rw[hs]at this;exact this.2.2
 refine⟨ea,cls,od,H',B,rfl,os.trans I.os,bare,⟨λb o q hn hb _=>n.st b o (bb' b o q hn hb),λb o q hn hb _=>?_,λb o q hn hx=>?_,λb o q hx=>?_,λb xs q=>un.tups b xs (base.tups b xs q),λb o u q=>un.frzs b o u (base.frzs b o u q),λb ps q=>?_⟩,Pj hok al st n.st,⟨n.st,frO,n.tr,eb,al⟩,bb',?_,hE,hc⟩
 ·obtain⟨sl,k⟩:=base.slot b o q hn hb (by simp);have hm:b∈frs X.stack:=by rw[fe];exact zW _ hb
  obtain⟨sl',k'⟩:=un.slot b _ k (base.free b o q hn (by simp)) hm (by simp);obtain⟨_,o2,k2,nf⟩:=I.stack.mem hm;rw[k]at k2;cases k2;obtain⟨sl'',k3⟩:=n.up b _ k' nf;exact⟨sl'',k3⟩
 ·obtain⟨o1,k1⟩:=base.there b o q hx;exact un.free b o1 k1 (base.free b o q hn hx) hx
 ·obtain⟨o1,k1⟩:=base.there b o q hx;obtain⟨o2,k2⟩:=un.there b o1 k1 hx;exact n.th b o2 k2
 ·obtain⟨m1,k1⟩:=base.tbls b ps q;obtain⟨m2,k2⟩:=un.tbls b _ k1;exact⟨m1++m2,by rw[k2,Array.append_assoc]⟩
 ·cases q:X.s₀.heap.get? ea with
  |none=>rfl
  |some o=>
   obtain⟨o1,k1⟩:=base.there ea o q (by simp);rw[new]at k1;cases k1
def Fd(X:Cx)(E:XK):jF->jD->Prop:=λe s'=>xY (xZ X.prog X.w) X.A (leaving X.env e) (λ_ s''=>CXx X.prog X.w X.outer X.H₀ X.s₀ E e s'') (λe' s''=>CXx X.prog X.w X.outer X.H₀ X.s₀ E e' s'') s'
theorem ZGn(hs:X.stack=X.env::X.outer)(hex:X.ex=[])(hfr:X.env.frame=xF X.env.locals)(I:Inv X xE σ H s){e:jF}(h:CXx X.prog X.w X.stack H s E e s'):Fd X E e s':=by
 obtain⟨ea,cls,od,H',B,rfl,os,bare,un,hok,fly,bb,new,hE,hc⟩:=h;have fr:=I.ok.frames;have ff:=fly.fr;unfold Fd;refine ZCz (B:=B) (L:=X.env.locals) (outer:=X.outer) (by rw[fr,hs]) (by rw[<-hs];exact ff) hfr fly.tr fly.st fly.eb λh'' n=>?_
 rw[<-hs]at n;exact Zq I hs hex hfr os bare un hok bb fly.al fly.eb fly.st new n hE hc
theorem ZFl{P:jB}{a:j6}{o:HO}(x:ObjOk P w H h a o):∃ob,h.get? a=xF ob:=by
 cases o with
 |lst xs=>obtain⟨_,_,_,_,e⟩:=x;exact⟨_,e⟩
 |tup xs=>obtain⟨_,_,_,_,e,_⟩:=x;exact⟨_,e⟩
 |dK kvs=>obtain⟨_,_,_,_,o,_,_,e,_⟩:=x;exact⟨_,e⟩
 |dT kvs=>obtain⟨_,_,_,_,o,_,_,e,_⟩:=x;exact⟨_,e⟩
 |set S n=>obtain⟨o,_,_,_,e,_⟩:=x;exact⟨_,e⟩
 |ins C dx fs=>obtain⟨_,_,_,e,_⟩:=x;exact⟨_,e⟩
 |own y=>exact x
 |xd fs=>obtain⟨_,⟨_,_,_,e,_⟩,_⟩:=x;exact⟨_,e⟩
 |rng lo hi=>obtain⟨_,_,_,e⟩:=x;exact⟨_,e⟩
 |frz ob u=>obtain⟨e,_⟩:=x;exact⟨_,e⟩
 |tbl ps=>exact⟨_,x⟩
 |met f y=>exact⟨_,x⟩
 |ext φ=>exact x.2.1
theorem U5{h':Heap}:∀{l:List Env},h.FunFrames base l->(∀b∈frs l,∀o,h.get? b=xF o->∃sl,h'.get? b=xF {o with slots:=sl})->h'.FunFrames base l
 |[],_,_=>trivial
 |env::r,⟨hk,⟨L,o,hf,hn,ho,hd⟩,hr⟩,k=>by
  have fe:frs (env::r)=L::frs r:=by unfold frs;rw[qw,hf]
  obtain⟨sl,z⟩:=k L (by rw[fe];exact zU) o ho;exact⟨hk,⟨L,_,hf,hn,z,hd⟩,U5 hr λb hb o' ho'=>k b (by rw[fe];exact zW _ hb) o' ho'⟩
structure Made (X:Cx) (H:Hp) (s:jD) (ea:j6) (cls:jF) (od:Option j6) (s':jD) (H':Hp):Prop where
 os:s'.os=s.os
 bare:AllBare s'.gens
 un:Un (frs X.stack) [] H H' s.heap s'.heap
 hok:HOk X.prog X.w H' s'.heap
 ob:∃oe vs,s'.heap.get? ea=xF oe/\oe.cls=cls/\oe.dict=od/\oe.data=.fields vs/\vs[1]?=xF .none
 fe:H' ea=xG
 new:s.heap.get? ea=xG
theorem ZFL(hs:X.stack=X.env::X.outer)(hex:X.ex=[])(hfr:X.env.frame=xF X.env.locals)(I:Inv X xE σ H s)(m:Made X H s ea cls od s' H')(hE:E cls od H')(hc:∃C,cls=.ref C):Fd X E (.ref ea) s':=by
 obtain⟨oe,vs,he,rfl,rfl,hd,h1⟩:=m.ob;have ne:ea∉frs X.stack:=λhm=>by obtain⟨_,o,ho,_⟩:=I.stack.mem hm;rw[m.new]at ho;cases ho
 have F':s'.heap.FunFrames X.base X.stack:=U5 I.stack λb hb o ho=>m.un.slot b o ho (I.O3 b hb) hb (by simp)
 have FB:s'.heap.FunFrames (PySem.W.hideAll s'.heap (ea::frs X.stack)) X.stack:=PySem.W.funFrames_hide F' λenv hm a q=>zW _ (List.mem_filterMap.mpr ⟨env,hm,q⟩)
 have eb:(PySem.W.hideAll s'.heap (ea::frs X.stack)).get? ea=xG:=by exact PySem.W.hideAll_none _ zU
 have st:(PySem.W.hideAll s'.heap (ea::frs X.stack)).StaysIn s'.heap:=λb o q=>PySem.W.of_hideAll _ q
 have bb:∀b o,s.heap.get? b=xF o->H b=xG->b∉frs X.stack->(PySem.W.hideAll s'.heap (ea::frs X.stack)).get? b=xF o:=λb o q hn hb=>PySem.W.hideAll_get _ (m.un.keep b o q hn hb (by simp)) λhm=>by
  rcases zv.mp hm with z|z
  ·rw[z,m.new]at q;cases q
  ·exact hb z
 have al:∀b,H' b≠xG->∃o,(PySem.W.hideAll s'.heap (ea::frs X.stack)).get? b=xF o:=λb hb=>by
  cases q:H' b with
  |none=>exact absurd q hb
  |some u=>
   obtain⟨o,k⟩:=ZFl (m.hok b u q);refine⟨o,PySem.W.hideAll_get _ k λhm=>?_⟩;rcases zv.mp hm with z|z
   ·rw[z,m.fe]at q;cases q
   ·obtain⟨_,o1,k1,_⟩:=I.stack.mem z;rw[m.un.free b o1 k1 (I.O3 b z) (by simp)]at q;cases q
 unfold Fd;refine ZDT (B:=PySem.W.hideAll s'.heap (ea::frs X.stack)) (L:=X.env.locals) (outer:=X.outer) (by rw[I.ok.frames,hs]) (by rw[<-hs];exact FB) hfr he st eb hd h1 λh'' n=>?_
 rw[<-hs]at n;exact Zq I hs hex hfr m.os m.bare m.un m.hok bb al eb st m.new n hE hc
end
section
variable{prog:jB}{w:jG}{A:j7}{E:jF->jD->Prop}{h:Heap}{g:Array GenState}{d:Drawn}{t:Nat}{os:OsState}
variable{nm q:Str}{C N:j6}{bs bm bmB:List jF}{hdct:Bool}{sn:List Str}{sub:List jF}{ab:Bool}{col:Option Bool}{dd:Option j6}{k0 k1 k2 k3 k5:Option jF}{B newId initId:String}
theorem ZCy(F:ExcBaseFacts B newId initId bmB)(T:OwnTail h bmB bm){mN:Str->Option jF}{rest:List jF}{fI:j6}{oI:Obj}{Q:Fin->jD->Prop}
  (hC:h.get? C=xF (excClassObj nm q C N bs bm hdct sn sub ab col dd k0 k1 k2 k3 k5 newId)) (hn:h.Ns N mN) (hi:mN "__init__"=xF (.ref fI)) (hfI:h.get? fI=xF oI) (hfc:oI.cls=.type "function")
  (hq:∀h' e,Heap.MadeExcOf h h' e (.ref C) rest->h.objs.size<=e->xY (xZ prog w) A (call (.ref fI) (.ref e::rest)) (λr s'=>r=.none/\Q (.done (.ret (.ref e))) s') E ⟨h',g,d,t,os⟩) (hr:rest.length<=sizeLine):
  xY (xZ prog w) A (Builtin.«type.__call__» ⟨.ref C::rest,[]⟩) Q E ⟨h,g,d,t,os⟩:=by
 repeat (first|with_reducible refine wpAny_loadPart_at hC ?_|with_reducible refine wpAny_madeBy_exc hC ?_|wp_step)
 refine codeAny_call_builtin_code (Code.quiet_builtin _ F.quiet) (wpAny_check_new_subT F T hC ?_);refine codeAny_exc_new_subT F T hC ?_ hr;show xY _ _ _ _ _ _;generalize hO1:({cls:=.type "tuple",data:=.seq rest.toArray}:Obj)=O1;generalize hO2:({cls:=.ref C,data:=.fields #[.ref h.objs.size,.none,.none,.none,.bool xI,.none]}:Obj)=O2;have kp:∀b o,h.get? b=xF o->((h.push O1).push O2).get? b=xF o:=λb o z=>zQ _ (zQ _ z)
 have hC1:=kp _ _ hC;have hf1:=kp _ _ hfI;have hn1:((h.push O1).push O2).Ns N mN:=hn.keeps kp;have T1:=T.keeps kp;have hg:((h.push O1).push O2).get? (h.objs.size+1)=xF O2:=Heap.get?_push_at (by simp only[jz]) (by rw[<-hO2];rfl);have hc2:O2.cls=.ref C:=by rw[<-hO2]
 have cc:(Value.ref C::bm).contains (.ref C)=xH:=by simp
 unfold isInstance
 repeat (first|(with_reducible refine wpAny_loadPart_at hg ?_;rw[hc2])|(with_reducible refine wpAny_isSubtype_exc hC1 ?_;rw[cc])|wp_step)
 show xY _ _ (typeLookup (.ref C) _) _ _ _;refine wpAny_typeLookup_tail hC1 hn1 T1 F.mroIs F.init.lookup ?_;rw[hi];refine xk (xz ?_);unfold bindSpecial;refine xz (wpAny_typeOf (T:="function") ⟨_,hf1,hfc⟩ ?_);rw[if_pos (by decide)];refine xA (xz (xy (hq _ (h.objs.size+1) ⟨kp,j1 (qF _),h.objs.size,by rw[hg,<-hO2],j1 (zJ _),?_⟩ ?_) (λr s' z=>?_) λ_ _ x=>x))
 ·rw[<-hO1];exact zQ _ (Heap.get?_push_at rfl rfl)
 ·exact qF _
 ·obtain⟨rfl,hQ⟩:=z
  wp_walk
  exact hQ
theorem ZGM(F:ExcBaseFacts B newId initId bmB)(T:OwnTail h bmB bm){mN:Str->Option jF}{rest:List jF}{fI:j6}{oI:Obj}{Q:jF->jD->Prop}
  (hC:h.get? C=xF (excClassObj nm q C N bs bm hdct sn sub ab col dd k0 k1 k2 k3 k5 newId)) (hn:h.Ns N mN) (hi:mN "__init__"=xF (.ref fI)) (hfI:h.get? fI=xF oI) (hfc:oI.cls=.type "function")
  (hq:∀h' e,Heap.MadeExcOf h h' e (.ref C) rest->h.objs.size<=e->xY (xZ prog w) (A.under (.builtin "type.__call__" ⟨.ref C::rest,[]⟩)) (call (.ref fI) (.ref e::rest)) (λr s'=>r=.none/\Q (.ref e) s') E ⟨h',g,d,t,os⟩) (hr:rest.length<=sizeLine):
  xY (xZ prog w) A (call (.ref C) rest) Q E ⟨h,g,d,t,os⟩:=by
 have f1:=tc_lookup;have f2:=tc_bind (.ref C);have hT:(⟨h,g,d,t,os⟩:jD).TypeIs (.ref C) "type":=⟨_,hC,rfl⟩;refine wpAny_call (codeAny_of_tree ?_);show xY _ _ (callAny (.ref C) _) _ _ _
 repeat (any_goals (first|assumption|with_reducible refine wpAny_loadPart_at hC ?_|wp_step))
 refine⟨rfl,?_⟩;refine codeAny_call_builtin_at (Code.quiet_builtin _ (by decide +kernel)) entry_typeCall (wpAny_check_type_call_sub hC (ZCy F T hC hn hi hfI hfc (λh' e hm he=>?_) hr));exact hq h' e hm he
end
theorem ZDP{K:PySem.W.Frag}{N:j6}{m:Str->Option jF}{n:Str}(X:K.In h)(G:h.Ns N m)(e:PySem.W.nsIn K N n=xF (xF v)):m n=xF v:=by
 obtain⟨o,es,ep,ho,hd,_,hf⟩:=G;unfold PySem.W.nsIn at e;split at e
 ·rename_i c d es' n' sl q;have:=X _ _ q;rw[ho]at this;cases this;cases hd;split at e
  ·rename_i y he;rw[<-hf];unfold nsFind findBy;rw[<-Array.find?_toList,he];exact Option.some.inj e
  ·split at e<;>cases e
 ·cases e
theorem J0{K:PySem.W.Frag}(X:K.In h)(q:Ft K C=xH):∃bm N nm qn bs sn sub ab col dd k0 k1 k2 k3 k5,h.get? C=xF (excClassObj nm qn C N bs bm xH sn sub ab col dd k0 k1 k2 k3 k5 "ValueError.__new__")/\OwnTail h vmro bm/\
  (∃m,h.Ns N m/\∀f,Ij K C f=xH->m "__init__"=xF (.ref f)):=by
 unfold Ft at q;split at q
 ·rename_i dd cd sl ho;split at q
  ·rename_i C' bm k0 k1 k2 k3 n k5 hm hs;simp only[zw,beq_iff_eq,Bool.not_eq_true']at q;obtain⟨⟨⟨⟨⟨rfl,rfl⟩,hdel⟩,hdc⟩,ht⟩,hok⟩:=q;have hi:∀f,Ij K C' f=xH->PySem.W.nsIn K cd.ns "__init__"=xF (xF (.ref f)):=λf z=>by unfold Ij at z;rw[ho]at z;exact beq_iff_eq.mp z
   obtain⟨nm,bs,mro,ns,qn,hd,sn,sub,ab,col,del⟩:=cd;dsimp only at hm hdel hok hdc hi;subst hm hdel hdc;have hsl:sl= #[k0,k1,k2,k3,xF (.builtin "ValueError.__new__"),k5]:=by obtain⟨l⟩:=sl;simp only at hs;rw[hs]
   subst hsl;exact⟨bm,ns,nm,qn,bs,sn,sub,ab,col,dd,k0,k1,k2,k3,k5,X _ _ ho,PySem.W.tail_of_in X ht,_,.of_isNs (PySem.W.isNs_of_in X hok),λf z=>ZDP X (.of_isNs (PySem.W.isNs_of_in X hok)) (hi f z)⟩
  ·cases q
 ·cases q
noncomputable def exO(C:j6)(od:Option j6)(t:j6):Obj:={cls:=.ref C,dict:=od,data:=.fields #[.ref t,.none,.none,.none,.bool xI,.none]}
def exo(e C:j6)(od:Option j6)(h:Heap):Prop:=∃t,h.get? e=xF (exO C od t)
theorem Qi{P:jB}{e:j6}(x:exo e C od h):ObjOk P w H h e (.ext (exo e C od)):=
 ⟨x,let⟨t,k⟩:=x;⟨_,k⟩,λh1 h2 ⟨t,k⟩ s=>⟨t,s _ k⟩⟩
section
variable{X:Cx}{C W:j6}{x:Str}{mc:jF}{p apos pos:Pos}{a1 a2:j8}{t:TA}
noncomputable def tBI(C:j6)(t:TA):TE:=λσ H Q=>t σ H λvs H1=>∃e v,vs=[.ref e,v]/\H1 e=xF (.ext (exo e C xG))/\Q .non H1
theorem ZFU{a:j6}{o:HO}(h:H a=xF o):upd H a o=H:=by
 funext b;unfold upd;split
 ·rename_i z;rw[z,h]
 ·rfl
theorem ZGq{pl:Sem Bool}(hC:Ft X.K C=xH)(hg:Gl X x)(hm:X.mg x=xF (.ref W))(hs:PySem.W.specialIn X.K (.ref W) "__getattribute__"=xF (xF (.builtin "type.__getattribute__")))(hr:PySem.W.readsIn X.K W mc=xH)
  (hf:PySem.W.findCls X.K (.ref W) mc "__init__"=xF (.val (.builtin "ValueError.__init__"))) (ha:PA X [a1,a2] t) (hdb:(x==("__debug__":Str))=xI:=by decide)
  (he:xW [a1,a2] X.env=(xI,eval a1 X.env)::xW [a2] X.env:=by rfl) (hpl:(jL pos (xW [a2] X.env)).any (·.1)=xI:=by rfl)
  (ht:eval (.Call (.Attribute (.Name x p) "__init__" apos) [a1,a2] [] pos) X.env=(do
   let ov<-eval (.Name x p) X.env
   standAt apos.atName
   let(f,first)<-holding [ov] (getMethod ov "__init__" pl)
   callWith pos f first (jL pos (xW [a1,a2] X.env)) (backToKw pos (jT [] X.env))):=by rfl):
  PE X (.Call (.Attribute (.Name x p) "__init__" apos) [a1,a2] [] pos) (tBI C t):=by
 intro xE s σ H Q I h;refine PySem.W.methodCall_KW (pl:=pl) (Js I hg hm ?_ hdb) ht;refine PySem.W.method_cls I.kIn hs (PySem.W.cls_value I.kIn hr hf (by decide) ?_);refine PyProof.Rows.callWith_builtin1 (thn (ha pos xE _ σ H _ (I.tok _) h) λus s1 ⟨vs,H1,I1,r,e,v,ev,hx,q⟩=>?_) he hpl;subst ev;obtain⟨u,rfl⟩:∃u,us=[.ref e,u]:=by
  cases r with
  | cons r1 r2=>
   cases r2 with
   |cons r3 r4=>
    cases r4
    obtain rfl:=(show _=Value.ref e from r1)
    exact⟨_,rfl⟩
 obtain⟨⟨tp,hob⟩,_,_⟩:=I1.hok e _ hx;obtain⟨bm,N,nm,qn,bs,sn,sub,ab,col,dd,k0,k1,k2,k3,k5,hcl,T,m,hN,_⟩:=J0 I1.kIn hC;obtain⟨hp,g,d,tk,os⟩:=s1;have F:=PySem.F.excBase_ValueError;refine wpAny_call (codeAny_call_builtin F.init.plain F.initEntry (wpAny_check_init_subT F T hcl hob rfl ?_))
 wp_walk
 show EP X xE σ Q .none {heap:=(hp.push {cls:=.type "tuple",data:=.seq #[u]}).update e (Obj.mapFields (·.setIfInBounds 0 (Value.ref hp.objs.size))),gens:=g,drawn:=d,toks:=tk,os:=os}
 have he1:(hp.push {cls:=.type "tuple",data:=.seq #[u]}).get? e=xF (exO C xG tp):=zQ _ hob
 have he2:((hp.push {cls:=.type "tuple",data:=.seq #[u]}).update e (Obj.mapFields (·.setIfInBounds 0 (Value.ref hp.objs.size)))).get? e=xF (exO C xG hp.objs.size):=qZ _ he1 rfl
 have J:=I1.write (t':=tk) (x:=e) (e:=e) (o:=.ext (exo e C xG)) (h':=(hp.push {cls:=.type "tuple",data:=.seq #[u]}).update e (Obj.mapFields (·.setIfInBounds 0 (Value.ref hp.objs.size)))) (by rw[hx];trivial) (.inl rfl)
  (λb o n k=>by rw[zN _ _ (Ne.symm n)];exact zQ _ k) ⟨_,he2⟩ (Qi ⟨_,he2⟩)
 rw[ZFU hx]at J;exact⟨.non,H1,J,rfl,q⟩
end
theorem Nx{n:String}(h:tyN v=n)(hn:¬""=n):v=.type n:=by cases v<;>first|exact absurd h hn|exact congrArg Value.type h
theorem ZGr(h:isRf v=xH):∃c,v=.ref c:=by cases v<;>first|exact⟨_,rfl⟩|cases h
theorem ZIZ{l:List jF}(h:l.map tyN=["ValueError","Exception","BaseException","object"]):l=vmro:=by
 rcases l with _|⟨a,_|⟨b,_|⟨c,_|⟨d,_|⟨e,l⟩⟩⟩⟩⟩<;>simp only[zV,zL,List.cons.injEq,reduceCtorEq,and_false]at h
 obtain⟨h1,h2,h3,h4,_⟩:=h;rw[Nx h1 (by decide),Nx h2 (by decide),Nx h3 (by decide),Nx h4 (by decide)]
theorem ZBC{P:List jF->Prop}(h0:P vmro)(h1:∀c r,P r->P (.ref c::r)):∀{l:List jF},M7 l=xH->P l:=by
 intro l
 induction l with
 |nil=>intro e;cases e
 |cons a r ih=>
  intro e;rcases Bool.or_eq_true_iff.mp e with e|e
  ·obtain⟨e1,e2⟩:=qV.mp e;obtain⟨c,rfl⟩:=ZGr e1;exact h1 c r (ih e2)
  ·rw[ZIZ (of_decide_eq_true e)];exact h0
theorem ZHx(self:jF):∀{l:List jF},M7 l=xH->refuseLoop self "__setattr__" l=pure ():=
 ZBC (P:=λl=>refuseLoop self "__setattr__" l=pure ()) (PySem.F.store_ValueError.passes self) λc r h=>by rw[refuseLoop_ref];exact h
theorem ZIb:∀{l:List jF},M7 l=xH->l.contains (.type "object")=xH:=
 ZBC (P:=λl=>l.contains (.type "object")=xH) (by simp) λc r h=>by rw[List.contains_cons,h,Bool.or_true]
section
open PySem.W
variable{prog:jB}{w:jG}{A:j7}{s:jD}{K:xC}{x C:j6}{R:Result->jD->Prop}
theorem ZC5{ox:Obj}{od:Option Obj}{name:Str}{tk:Tok}{r:Option jF}(X:K.In s.heap)(I:InstAt s.heap x ox C od)(hp:Mt K C=xH)(ht:takerIn K C name=xF r)
  (h:∀b,xY (xZ prog w) A.in1 (match r with |some a=>Builtin.ObjectAttr.setByDescriptor a (.ref x) v|none=>Builtin.ObjectAttr.storeInOwnDict (.ref x) (.ref C) (.str name tk) name v b)
   (λfin s'=>match fin with | .done f=>R (.ok f) s' | .again c'=>c'.quiet=xH/\codeAny (xZ prog w) A c' R s') (λe s'=>R (.error e) s') s):
  codeAny (xZ prog w) A (.call (.builtin "object.__setattr__") ⟨[.ref x,.str name tk,v],[]⟩) R s:=by
 obtain⟨cd,hcd,hve⟩:=any_some hp;obtain⟨at0,hat,htr⟩:=Option.bind_eq_some_iff.mp ht;have full:cd.mro≠[]:=λz=>by rw[z]at hve;cases hve
 have top:mroIn K C (.type "object")=xF xH:=by unfold mroIn;rw[hcd];show(if cd.mro.isEmpty=xH then _ else _)=_;rw[if_neg (by simpa using full),ZIb hve]
 have line:Looks (xZ prog w) s.heap (mroOf (.ref C)) cd.mro:=(looks_clsIn X hcd).andThen Looks.now;have obj:Looks (xZ prog w) s.heap (isInstance (.ref x) (.type "object")) xH:=I.type.andThen (looks_mroIn X top);have tk3:Looks (xZ prog w) s.heap (Builtin.ObjectAttr.storeTaker? at0) r:=by
  rcases at0 with _|av
  ·cases htr;exact Looks.now
  ·obtain⟨bb,h1,h2⟩:=zC.mp htr;subst h2
   exact(looks_takesIn X h1).andThen (by cases bb<;>exact Looks.now)
 refine codeAny_call_builtin F.store_object.slot.plain F.store_object.entry (@check_slot (xZ prog w) _ _ _ "object.__setattr__" "object" "__setattr__" (.ref x) [.str name tk,v] [] _ F.store_object.kind F.store_object.split obj (F.store_object.args (.ref x) (.str name tk) v) ?_);rw[osa_eq,refuse_eq];apply xz;apply xz;refine I.type.here ?_;apply xz;refine line.here ?_;rw[ZHx _ hve]
 apply xA;apply xz;refine I.type.here ?_;apply xz;refine(looks_findIn X hat).here ?_;apply xz;exact tk3.here (h _)
end
section
variable{prog:jB}{w:jG}{A:j7}{E:jF->jD->Prop}{s:jD}{K:PySem.W.Frag}{e C t:j6}{name:Str}{v:jF}
theorem ZFj{Q:Unit->jD->Prop}(X:K.In s.heap)(he:s.heap.get? e=xF (exO C xG t))
  (hs:PySem.W.findIn K (.ref C) "__setattr__"=xF (xF (.builtin "object.__setattr__"))) (hp:Mt K C=xH) (ht:PySem.W.takerIn K C name=xF xG) (hh:PySem.W.hasDictIn K C=xH)
  (h:∀h' dx tk,s.heap.objs.size<=dx->h'.get? e=xF (exO C (xF dx) t)->h'.Ns1 dx (λy=>if y=name then xF v else xG)->(∀b o,b≠e->s.heap.get? b=xF o->h'.get? b=xF o)->Q () {s with heap:=h',toks:=tk}):
  xY (xZ prog w) A (setAttr (.ref e) name v) Q E s:=by
 have J:PySem.W.InstAt s.heap e (exO C xG t) C xG:=⟨he,rfl,rfl,trivial⟩;refine PySem.W.set_plain X J hs (ZC5 (s:={s with toks:=s.toks+1}) (r:=xG) X J hp ht λb=>?_);obtain⟨cd,hc,hd'⟩:=PySem.W.any_some hh;refine xz (xA (xz (xz (wpAny_loadPart he (xz (PySem.W.Looks.here (s:={s with toks:=s.toks+1}) (PySem.W.looks_clsIn X hc) ?_))))));rw[hd'];have hx1:(s.heap.push {cls:=.type "dict",data:=.dict #[]}).get? e=xF (exO C xG t):=zQ _ he
 have ne:e≠s.heap.objs.size:=zG (zX he);refine xz (wpAny_alloc' ?_);refine xz (wpAny_update' hx1 ?_);unfold dictMade;refine xA ?_;have hgd:((s.heap.push {cls:=.type "dict",data:=.dict #[]}).update e λo=>{cls:=o.cls,dict:=xF s.heap.objs.size,data:=o.data,slots:=o.slots}).get? s.heap.objs.size=xF {cls:=.type "dict",data:=.dict #[]}:=
  (Heap.get?_update_ne _ _ _ _ ne.symm).trans (Heap.get?_push_at rfl rfl)
 have hnd:((s.heap.push {cls:=.type "dict",data:=.dict #[]}).update e λo=>{cls:=o.cls,dict:=xF s.heap.objs.size,data:=o.data,slots:=o.slots}).Ns s.heap.objs.size (λ_=>xG):=
  ⟨_,#[],_,hgd,rfl,λy hy=>absurd hy (by simp),λ_=>rfl⟩
 show xY _ _ (Builtin.ObjectAttr.storeInDict s.heap.objs.size _ name v) _ _ _;unfold Builtin.ObjectAttr.storeInDict Builtin.ObjectAttr.newKeyGuard;refine xz (xA (xz (wpAny_nsSet1 (Heap.Ns1.of_empty hnd) λh' hn' hs'=>?_)));obtain⟨oD,esD,epD,hoD,hdD,hcD⟩:=hn'.count (Within.cons name v Within.nil);refine xz (wpAny_lookBehind hoD (by rw[hdD];exact pastItsLine_dict (zx hcD (by rw[zz,qR,xX];lia))) ?_)
 refine xA (h h' s.heap.objs.size _ (zJ _) ?_ hn' λb o n hb=>?_)
 ·exact(hs'.2 e ne).trans (qZ _ hx1 rfl)
 ·exact(hs'.2 b (zG (zX hb))).trans ((Heap.get?_update_ne _ _ _ _ n).trans (zQ _ hb))
end
structure XSet (K:PySem.W.Frag) (C:j6) (f:Str):Prop where
 ec:Ft K C=xH
 sa:PySem.W.findIn K (.ref C) "__setattr__"=xF (xF (.builtin "object.__setattr__"))
 po:Mt K C=xH
 tk:PySem.W.takerIn K C f=xF xG
 hd:PySem.W.hasDictIn K C=xH
section
variable{X:Cx}{C:j6}{f:Str}{o value:j8}{pos pos':Pos}{ta tv:TE}
def sXf(C:j6)(f:Str)(ta tv:TE):TS:=λD σ H=>tv σ H λy H1=>ta σ H1 λx H2=>∃e,x=.ref e/\H2 e=xF (.ext (exo e C xG))/\
 ∀dx o,H2 dx=xG->dx≠e->D.nx σ (upd (upd H2 e (.ext (exo e C (xF dx)))) dx (.frz o (.xd [(f,y)])))
theorem ZIJ(S:XSet X.K C f)(ha:PE X o ta)(hv:PE X value tv)(hs:swapsWith value (xF (.Attribute o f pos')) pos.line X.env=pure xI):PS X (.Assign [.Attribute o f pos'] value pos) (sXf C f ta tv):=by
 intro xE s σ H D I h;refine plainObj_wpAny_Assign_Attribute (thn (hv xE s σ H _ I h) λu s1 ⟨y,H1,I1,ry,q⟩=>thn (ha xE s1 σ H1 _ I1 q) λov s2 ⟨x,H2,I2,rx,e,ex,hx,q2⟩=>?_) hs;subst ex;obtain rfl:ov=Value.ref e:=rx;obtain⟨⟨t,hob⟩,_,_⟩:=I2.hok e _ hx;refine ZFj I2.kIn hob S.sa S.po S.tk S.hd λh' dx tk hz he' hn kp=>?_
 have fx:H2 dx=xG:=I2.hok.fresh hz;have ne:dx≠e:=λz=>by rw[z,hx]at fx;cases fx
 obtain⟨od,hod⟩:∃od,h'.get? dx=xF od:=by obtain⟨o,_,_,k,_⟩:=hn;exact⟨o,k⟩
 have J:=I2.write (t':=tk) (x:=e) (e:=e) (o:=.ext (exo e C (xF dx))) (h':=h') (by rw[hx];trivial) (.inl rfl) (λb o n k=>kp b o n k) ⟨_,he'⟩ (Qi ⟨t,he'⟩);have fx':upd H2 e (.ext (exo e C (xF dx))) dx=xG:=by unfold upd;rw[if_neg ne];exact fx
 have K2:HOk X.prog X.w (upd (upd H2 e (.ext (exo e C (xF dx)))) dx (.frz od (.xd [(f,y)]))) h':=λb ob z=>by
  by_cases zb:b=dx
  ·subst zb;have zo:ob=.frz od (.xd [(f,y)]):=by
    have z':upd (upd H2 e (.ext (exo e C (xF b)))) b (.frz od (.xd [(f,y)])) b=xF (.frz od (.xd [(f,y)])):=by unfold upd;rw[if_pos rfl]
    rw[z']at z;exact(Option.some.inj z).symm
   subst zo;refine⟨hod,_,hn,λg=>?_⟩;by_cases zg:g=f
   ·subst zg;simp[jk];exact ry
   ·have:(g==f)=xI:=by simpa using zg
    simp[jk,this,zg]
    trivial
  ·have z':upd H2 e (.ext (exo e C (xF dx))) b=xF ob:=by unfold upd at z⊢;rw[if_neg zb]at z;exact z
   refine(J.hok b ob z').stay (λ_ _ _ k=>k) (λb' k=>?_) λb' xs k=>?_
   ·have:b'≠dx:=λw=>by rw[w,fx']at k;cases k
    show upd _ dx _ b'=_;unfold upd at k⊢;rw[if_neg this];exact k
   ·have:b'≠dx:=λw=>by rw[w,fx']at k;cases k
    show upd _ dx _ b'=_;unfold upd at k⊢;rw[if_neg this];exact k
 have ud:∀b,b≠e->b≠dx->upd (upd H2 e (.ext (exo e C (xF dx)))) dx (.frz od (.xd [(f,y)])) b=H2 b:=λb n1 n2=>by unfold upd;rw[if_neg n2,if_neg n1]
 have U:Un X.fs [] H2 (upd (upd H2 e (.ext (exo e C (xF dx)))) dx (.frz od (.xd [(f,y)]))) s2.heap h':=by
  have nd:∀b o,s2.heap.get? b=xF o->b≠dx:=λb o k z=>by have:=zX k;rw[z]at this;exact absurd this (Nat.not_lt.mpr hz)
  have n0:∀b,H2 b=xG->b≠e:=λb k z=>by rw[z,hx]at k;cases k
  refine⟨λb o k n _ _=>kp b o (n0 b n) k,λb o k n _ _=>⟨o.slots,kp b o (n0 b n) k⟩,λb o k n _=>by rw[ud b (n0 b n) (nd b o k)];exact n,λb o k _=>?_,λb xs k=>?_,λb o u k=>?_,λb ps k=>⟨#[],?_⟩⟩
  ·by_cases z:b=e
   ·subst z;exact⟨_,he'⟩
   ·exact⟨o,kp b o z k⟩
  ·rw[ud b (λz=>by rw[z,hx]at k;cases k) (λz=>by rw[z,fx]at k;cases k)];exact k
  ·rw[ud b (λz=>by rw[z,hx]at k;cases k) (λz=>by rw[z,fx]at k;cases k)];exact k
  ·rw[ud b (λz=>by rw[z,hx]at k;cases k) (λz=>by rw[z,fx]at k;cases k)];simpa using k
 exact⟨σ,_,I2.un (t':=tk) U K2,q2 dx od fx ne⟩
end
def intS(i:Int):Prop:=i.natAbs.log2<1920/\(Str.ofString (toString i)).length<=1000
def Ul(w:V):Prop:=(∃i:Int,w=.int i/\intS i)∨w=.non
section
variable{X:Cx}{j:Nat}{v s1 s2:Str}{k1 k2 p1 p2 pv pf pos}
noncomputable def tFs(j:Nat):TE:=λσ H Q=>∃w:V,σ[j]?=xF (xF w)/\Ul w/\∀x,Q (.str x) H
theorem ZF6(hN:X.N[j]?=xF v)(hv:Vis X.env.scope v)(l1:s1.length<=1000)(l2:s2.length<=1000)(hd:(v==("__debug__":Str))=xI:=by decide)(hcd:(v==("__classdict__":Str))=xI:=by decide):
  PE X (.JoinedStr [.Constant (.str s1) k1 p1,.FormattedValue (.Name v pv) (-1) xG pf,.Constant (.str s2) k2 p2] pos) (tFs j):=by
 intro xE s σ H Q I h;obtain⟨w,hσ,hw,q⟩:=h;have la:∀a b:Str,(a++b).length=a.length+b.length:=λa b=>by show(Str.append a b).length=_;unfold Str.append Str.length;simp
 have sz:∀n,n<=1000000->n<=sizeLine:=λn h=>by rw[xX];lia
 refine JoinedStr_many (joinParts_cons (thn (Ov (X:=X) xE s σ H (λx H'=>x=.str s1/\H'=H) I ⟨rfl,rfl⟩) λu s1' h1=>?_));obtain⟨x,H1,I1,rx,rfl,rfl⟩:=h1;obtain⟨t0,rfl⟩:=rx;refine⟨sz _ (by rw[la];show 0+_<=_;lia),?_⟩;refine joinParts_cons (FormattedValue_plain (thn (K6 (pos:=pv) hN hv hd hcd xE s1' σ H1 (λx H'=>x=w/\H'=H1) I1 ?_) λu s2' h1=>?_))
 ·exact⟨w,hσ,rfl,rfl⟩
 obtain⟨x,H2,I2,rx,rfl,rfl⟩:=h1;rcases hw with⟨i,rfl,hi,ls⟩|rfl
 ·obtain⟨t1,rfl⟩:=rx;refine formatField_int_small hi ⟨sz _ (by rw[la,la];show 0+_+_<=_;lia),?_⟩;refine joinParts_consE (joinParts_cons (thn (Ov (X:=X) xE _ σ H2 (λx H'=>x=.str s2/\H'=H2) (I2.tok _) ⟨rfl,rfl⟩) λu s3' h1=>?_));obtain⟨x,H3,I3,rx,rfl,rfl⟩:=h1;obtain⟨t2,rfl⟩:=rx;refine⟨sz _ (by rw[la,la,la];show 0+_+_+_<=_;lia),?_⟩;exact joinParts_nilE (joinParts_nil ⟨.str _,H3,I3.tok _,⟨_,rfl⟩,q _⟩ (sz _ (by rw[la,la,la];show 0+_+_+_<=_;lia)))
 ·cases(show u=Value.none from rx)
  have ls:(Str.ofString "None").length<=1000:=by decide
  refine wpAny_formatField_none ⟨sz _ (by rw[la,la];show 0+_+_<=_;lia),?_⟩;refine joinParts_consE (joinParts_cons (thn (Ov (X:=X) xE _ σ H2 (λx H'=>x=.str s2/\H'=H2) (I2.tok _) ⟨rfl,rfl⟩) λu s3' h1=>?_));obtain⟨x,H3,I3,rx,rfl,rfl⟩:=h1;obtain⟨t2,rfl⟩:=rx;refine⟨sz _ (by rw[la,la,la];show 0+_+_+_<=_;lia),?_⟩;exact joinParts_nilE (joinParts_nil ⟨.str _,H3,I3.tok _,⟨_,rfl⟩,q _⟩ (sz _ (by rw[la,la,la];show 0+_+_+_<=_;lia)))
end
def spI(C:j6)(f:Str):Sp:=λvs H Q _=>∃(e:j6)(i:V),vs=[.ref e,i]/\Ul i/\H e=xF (.ext (exo e C xG))/\∀dx o,H dx=xG->dx≠e->Q .non (upd (upd H e (.ext (exo e C (xF dx)))) dx (.frz o (.xd [(f,i)])))
structure XBase (K:PySem.W.Frag) (mg:Str->Option jF) (x:Str) (W:j6):Prop where
 m:mg x=xF (.ref W)
 s:PySem.W.specialIn K (.ref W) "__getattribute__"=xF (xF (.builtin "type.__getattribute__"))
 r:PySem.W.readsIn K W (.type "type")=xH
 f:PySem.W.findCls K (.ref W) (.type "type") "__init__"=xF (.val (.builtin "ValueError.__init__"))
theorem ZHS{P:jB}{K:PySem.W.Frag}{x xw v f s1 s2:Str}{fa W:j6}{pw pa pc pe p1 p2 p3 p4 p5 p6 p7 p8 pv pf:Pos}{k1 k2}
  (F:Fun K x qual st fa fd) (S:FnScope ["self",v] ["self",v] (Am st)) (XS:XSet K C f) (XB:XBase K mg xw W)
  (hb:By st=[.Expr (.Call (.Attribute (.Name xw pw) "__init__" pa) [.Name "self" p1,.JoinedStr [.Constant (.str s1) k1 p2,.FormattedValue (.Name v pv) (-1) xG pf,.Constant (.str s2) k2 p3] p4] [] pc) pe,.Assign [.Attribute (.Name "self" p5) f p6] (.Name v p8) p7])
  (l1:s1.length<=1000) (l2:s2.length<=1000) (hgl:(Am st).names.lookup xw=xF .globalImplicit) (hdw:(xw==("__debug__":Str))=xI) (hdv:(v==("__debug__":Str))=xI) (hcv:(v==("__classdict__":Str))=xI)
  (hvs:Vis (Am st) "self") (hvv:Vis (Am st) v)
  (hev:∀env:Env,∃pl:Sem Bool,eval (.Call (.Attribute (.Name xw pw) "__init__" pa) [.Name "self" p1,.JoinedStr [.Constant (.str s1) k1 p2,.FormattedValue (.Name v pv) (-1) xG pf,.Constant (.str s2) k2 p3] p4] [] pc) env=(do
   let ov<-eval (.Name xw pw) env
   standAt pa.atName
   let(f,first)<-holding [ov] (getMethod ov "__init__" pl)
   callWith pc f first (jL pc (xW [.Name "self" p1,.JoinedStr [.Constant (.str s1) k1 p2,.FormattedValue (.Name v pv) (-1) xG pf,.Constant (.str s2) k2 p3] p4] env)) (backToKw pc (jT [] env)))):
  FnOk P w K mg base CX0 (k+1) fa fd ["self",v] (spI C f):=by
 refine F.ok S (λvs H Q E ⟨e,i,z,_⟩=>by rw[z];rfl) (λcdv A outer s H vs Q E hr h=>?_);obtain⟨e,i,rfl,hi,hx,q⟩:=h;rw[hb];generalize hX:(Fj CX0 P w K mg base ["self",v] qual (Am st) fa cdv A outer s H E).nox=X;have hK:X.K=K:=by rw[<-hX];rfl
 have hm:X.mg=mg:=by rw[<-hX];rfl
 have hN:X.N=(["self",v]:List Str):=by rw[<-hX];rfl
 have hs:X.env.scope=Am st:=by rw[<-hX];rfl
 have pself:∀p,PE X (.Name "self" p) (Hm 0):=λp=>K6 (by rw[hN];rfl) (by rw[hs];exact hvs) (by decide) (by decide)
 have pv':∀p,PE X (.Name v p) (Hm 1):=λp=>K6 (by rw[hN];rfl) (by rw[hs];exact hvv) hdv hcv
 have hG:Gl X xw:=by unfold Gl;rw[<-hX];exact hgl
 obtain⟨pl,hpl⟩:=hev X.env;have c1:PE X (.Call (.Attribute (.Name xw pw) "__init__" pa) [.Name "self" p1,.JoinedStr [.Constant (.str s1) k1 p2,.FormattedValue (.Name v pv) (-1) xG pf,.Constant (.str s2) k2 p3] p4] [] pc) (tBI C (Up (Hm 0) (Up (tFs 1) tNil))):=
  ZGq (mc:=.type "type") (W:=W) (by rw[hK];exact XS.ec) hG (by rw[hm];exact XB.m) (by rw[hK];exact XB.s) (by rw[hK];exact XB.r) (by rw[hK];exact XB.f) (Kp (pself p1) (Kp (ZF6 (by rw[hN];rfl) (by rw[hs];exact hvv) l1 l2 hdv hcv) Ti)) hdw rfl rfl hpl
 have c2:PS X (.Assign [.Attribute (.Name "self" p5) f p6] (.Name v p8) p7) (sXf C f (Hm 0) (Hm 1)):=ZIJ (by rw[hK];exact XS) (pself p5) (pv' p8) rfl;refine⟨_,Y5 (Yc c1 rfl) (Y6 c2),?_⟩;refine⟨.ref e,rfl,i,rfl,hi,λxx=>⟨e,_,rfl,hx,?_⟩⟩;exact⟨i,rfl,.ref e,rfl,e,rfl,hx,q⟩
section
variable{M:Model}{A:j7}{E:jF->jD->Prop}{env:Env}
variable{nm q:Str}{C N:j6}{bs bm:List jF}{hdct:Bool}{sn:List Str}{sub:List jF}{ab:Bool}{col:Option Bool}{dd:Option j6}{k0 k1 k2 k3 k5:Option jF}{newId:String}
theorem ZHQ{x:Sem jF}{Q:Flow->jD->Prop}(hh:A.handled=xG)
  (h:xY M A x (λv s₁=>∃e od t bm N nm q bs hdct sn sub ab col dd k0 k1 k2 k3 k5 newId,v=.ref e/\s₁.heap.get? C=xF (excClassObj nm q C N bs bm hdct sn sub ab col dd k0 k1 k2 k3 k5 newId)/\bm.contains (.type "BaseException")=xH/\
   s₁.heap.get? e=xF {cls:=.ref C,dict:=od,data:=.fields #[.ref t,.none,.none,.none,.bool xI,.none]}/\E (.ref e) s₁) E s):xY M A (raiseStmt env (xF x) xG) Q E s:=by
 unfold raiseStmt;refine xz (xy h (λv s₁ h₁=>?_) λ_ _ x=>x);obtain⟨e,od,t,bm,N,nm,q,bs,hdct,sn,sub,ab,col,dd,k0,k1,k2,k3,k5,newId,rfl,hC,hb,he,hE⟩:=h₁;have hcB:(Value.ref C::bm).contains (.type "BaseException")=xH:=by rw[List.contains_cons,hb,Bool.or_true]
 obtain⟨hp,g,d,tk,os⟩:=s₁
 repeat (first|with_reducible refine wpAny_loadPart_at he ?_|with_reducible refine wpAny_loadPart_at hC ?_|(with_reducible refine wpAny_isSubtype_exc hC ?_;rw[hcB])|wp_step)
 exact wpAny_raiseNew_none hh hE
theorem ZG5{x:j8}{pos:Pos}{Q:Flow->jD->Prop}(hh:A.handled=xG)
  (h:xY M A (eval x env) (λv s₁=>∃e od t bm N nm q bs hdct sn sub ab col dd k0 k1 k2 k3 k5 newId,v=.ref e/\s₁.heap.get? C=xF (excClassObj nm q C N bs bm hdct sn sub ab col dd k0 k1 k2 k3 k5 newId)/\bm.contains (.type "BaseException")=xH/\
   s₁.heap.get? e=xF {cls:=.ref C,dict:=od,data:=.fields #[.ref t,.none,.none,.none,.bool xI,.none]}/\E (.ref e) s₁) E s):xY M A (exec (.Raise (xF x) xG pos) env) Q E s:=by
 rw[arm_exec_Raise];refine xz (wpAny_standAt (ZHQ (C:=C) hh ?_));exact xz (xy h (λv s₃ h₃=>xz (wpAny_standAt (xA h₃))) λ_ _ x=>x)
end
section
variable{X:Cx}{C fI:j6}{f x:Str}{np cpos pos:Pos}{a:j8}{ta:TA}{E:XK}{k:Nat}{fd:j9}{v:Str}
def tRz(C:j6)(f:Str)(E:XK)(ta:TA):TS:=λ_ σ H=>ta σ H λvs H1=>∃i:V,vs=[i]/\Ul i/\∀dx o,H1 dx=xG->E (.ref C) (xF dx) (upd H1 dx (.frz o (.xd [(f,i)])))
theorem ZDb(hcalm:X.calm=xH)(hs:X.stack=X.env::X.outer)(hex:X.ex=[])(hfr:X.env.frame=xF X.env.locals)(hxe:∀e s,Fd X E e s->X.xe e s)
  (XS:XSet X.K C f) (hi:Ij X.K C fI=xH) (hfn:∃o,X.K.lookup fI=xF o/\o.cls=.type "function") (F:FnOk X.prog X.w X.K X.mg X.base CX0 k fI fd ["self",v] (spI C f)) (hr:Room (k+1) X.A) (hb:Binds X.K fd ["self",v] [])
  (hg:Gl X x) (hm:X.mg x=xF (.ref C)) (hk:PySem.W.keepIn X.K (.ref C)=xH) (ha:PA X [a] ta) (hdb:(x==("__debug__":Str))=xI:=by decide)
  (he:xW [a] X.env=(xI,eval a X.env)::xW [] X.env:=by rfl) (hpl:(jL cpos (xW [] X.env)).any (·.1)=xI:=by rfl):
  PS X (.Raise (xF (.Call (.Name x np) [a] [] cpos)) xG pos) (tRz C f E ta):=by
 intro xE s σ H D I h;refine ZG5 (C:=C) (I.ok.hd hcalm) ?_;refine xq (Js I hg hm ?_ hdb);refine PySem.W.callWith_K (h₀:=X.base) I.ok.mod.kin hk (thn (ha cpos xE s σ H _ I h) λus s1 ⟨vs,H1,I1,r,i,ev,hi',q⟩=>⟨I1.kIn,?_⟩) he hpl;subst ev;obtain⟨bm,N,nm,qn,bs,sn,sub,ab,col,dd,k0,k1,k2,k3,k5,hcl,T,m,hN,hin⟩:=J0 I1.kIn XS.ec;obtain⟨oI,hfI,hfc⟩:=hfn;have hfI:=I1.kIn _ _ hfI;have hl1:us.length<=sizeLine:=by rw[<-r.length,xX];show 1<=_;decide
 obtain⟨hp,g,d,tk,os⟩:=s1;have FB:=PySem.F.excBase_ValueError;refine ZGM FB T hcl hN (hin fI hi) hfI hfc (λh' e hm' hz=>?_) hl1;obtain⟨t,ht,_,_⟩:=hm'.there;have ho:exo e C xG h':=⟨t,ht⟩;have I2:=I1.laid (t':=tk) (a:=e) (o:=.ext (exo e C xG)) (h':=h') hm'.keeps hz (Qi ho);have fe:H1 e=xG:=I1.hok.fresh hz;obtain⟨u,rfl⟩:∃u,us=[u]:=by
  cases r with
  |cons r1 r2=>cases r2;exact⟨_,rfl⟩
 have r2:Vals [V.ref e,i] [Value.ref e,u]:=.cons rfl r;have h2e:upd H1 e (.ext (exo e C xG)) e=xF (.ext (exo e C xG)):=by unfold upd;rw[if_pos rfl]
 have h2n:∀b,b≠e->upd H1 e (.ext (exo e C xG)) b=H1 b:=λb n=>by unfold upd;rw[if_neg n]
 refine wpAny_call (jP (F.run _ X.stack _ _ ⟨[Value.ref e,u],[]⟩ [Value.ref e,u] [V.ref e,i] (λw H3=>w=.non/\∃dx o,H1 dx=xG/\dx≠e/\H3=upd (upd (upd H1 e (.ext (exo e C xG))) e (.ext (exo e C (xF dx)))) dx (.frz o (.xd [(f,i)]))) E0 (hr.make C [u] [])
  (I2.env0.make C [u] []) (by simpa using hb _ [Value.ref e,u] I2.kIn rfl) r2 ⟨e,i,rfl,hi',h2e,λdx o n1 n2=>⟨rfl,dx,o,by rw[<-h2n dx n2];exact n1,n2,rfl⟩⟩) λr s' hq'=>?_)
 cases r with
 |error e=>exact hq'.elim
 | ok fl=>
  cases fl with
  |next=>exact False.elim hq'
  |brk=>exact False.elim hq'
  |cont=>exact False.elim hq'
  | ret w=>
   obtain⟨_,_,I3,_⟩:=I2.after hq';obtain⟨vw,H3,os',bare',un,hok,rw',rfl,dx,o,nd,ne,rfl⟩:=hq';refine⟨rw',?_⟩;have hd3:∀b,b≠e->upd (upd (upd H1 e (.ext (exo e C xG))) e (.ext (exo e C (xF dx)))) dx (.frz o (.xd [(f,i)])) b=upd H1 dx (.frz o (.xd [(f,i)])) b:=λb n=>by
    unfold upd;split
    ·rfl
    ·simp[n]
   have he3:upd (upd (upd H1 e (.ext (exo e C xG))) e (.ext (exo e C (xF dx)))) dx (.frz o (.xd [(f,i)])) e=xF (.ext (exo e C (xF dx))):=by unfold upd;rw[if_neg (Ne.symm ne),if_pos rfl]
   have feN:upd H1 dx (.frz o (.xd [(f,i)])) e=xG:=by unfold upd;rw[if_neg (Ne.symm ne)];exact fe
   obtain⟨⟨t',ht'⟩,_,_⟩:=hok e _ he3;obtain⟨bm',N',nm',qn',bs',sn',sub',ab',col',dd',l0,l1,l2,l3,l5,hcl',T',_⟩:=J0 I3.kIn XS.ec;have ne':∀b o,hp.get? b=xF o->b≠e:=λb o k z=>by rw[z,hm'.new]at k;cases k
   have mk:Made X H1 ⟨hp,g,d,tk,os⟩ e (.ref C) (xF dx) s' (upd H1 dx (.frz o (.xd [(f,i)]))):=by
    refine⟨os',bare',⟨λb o k n hb hx=>un.keep b o (hm'.keeps b o k) (by rw[h2n b (ne' b o k)];exact n) hb hx,λb o k n hb hx=>un.slot b o (hm'.keeps b o k) (by rw[h2n b (ne' b o k)];exact n) hb hx,λb o k n hx=>?_,λb o k hx=>un.there b o (hm'.keeps b o k) hx,λb xs k=>?_,λb o u k=>?_,λb ps k=>?_⟩,λb ob z=>?_,⟨_,_,ht',rfl,rfl,rfl,rfl⟩,feN,hm'.new⟩
    ·rw[<-hd3 b (ne' b o k)];exact un.free b o (hm'.keeps b o k) (by rw[h2n b (ne' b o k)];exact n) hx
    ·have nb:b≠e:=λz=>by rw[z,fe]at k;cases k
     rw[<-hd3 b nb];exact un.tups b xs (by rw[h2n b nb];exact k)
    ·have nb:b≠e:=λz=>by rw[z,fe]at k;cases k
     rw[<-hd3 b nb];exact un.frzs b o u (by rw[h2n b nb];exact k)
    ·have nb:b≠e:=λz=>by rw[z,fe]at k;cases k
     rw[<-hd3 b nb];exact un.tbls b ps (by rw[h2n b nb];exact k)
    ·have nb:b≠e:=λz'=>by rw[z',feN]at z;cases z
     rw[<-hd3 b nb]at z;refine(hok b ob z).stay (λ_ _ _ k=>k) (λb' k=>?_) λb' xs k=>?_
     ·rw[<-hd3 b' (λz'=>by rw[z',he3]at k;cases k)];exact k
     ·rw[<-hd3 b' (λz'=>by rw[z',he3]at k;cases k)];exact k
   exact⟨e,xF dx,t',bm',N',nm',qn',bs',xH,sn',sub',ab',col',dd',l0,l1,l2,l3,l5,_,rfl,hcl',T'.hasType FB.hasBase,ht',hxe _ _ (ZFL hs hex hfr I1 mk (q dx o nd) ⟨C,rfl⟩)⟩
end
section
variable{X:Cx}{xE:List (j6×Obj)}{σ:St}{H H':Hp}{s s':jD}{B h'':Heap}{ea:j6}{cls:jF}{od:Option j6}{E:XK}{fl:jF}
theorem ZCb(I:Inv X xE σ H s)(os:s'.os=s.os)(bare:AllBare s'.gens)(un:Un (frs X.stack) [] H H' s.heap s'.heap)(hok:HOk X.prog X.w H' s'.heap)
  (bb:∀b o,s.heap.get? b=xF o->H b=xG->b∉frs X.stack->B.get? b=xF o) (al:∀b,H' b≠xG->∃o,B.get? b=xF o) (eb:B.get? ea=xG) (st:B.StaysIn s'.heap) (new:s.heap.get? ea=xG)
  (n:Noted B X.stack ea cls od fl s'.heap h''):∃oe vs,h''.get? ea=xF oe/\oe.cls=cls/\oe.dict=od/\oe.data=.fields vs/\H' ea=xG/\Inv X xE σ (upd H' ea (.frz oe (.own 0))) {s' with heap:=h''}:=by
 obtain⟨oe,vs,T,oT,ts,he,⟨hc,hd⟩,hda,_⟩:=n.tr;have fe:H' ea=xG:=by
  cases z:H' ea with
  |none=>rfl
  |some u=>
   obtain⟨o,k⟩:=al ea (by rw[z];simp);rw[eb]at k;cases k
 have ud:∀b,b≠ea->upd H' ea (.frz oe (.own 0)) b=H' b:=λb k=>by unfold upd;rw[if_neg k]
 have ns:∀b o,s.heap.get? b=xF o->b≠ea:=λb o k z=>by rw[z,new]at k;cases k
 have hk:=Pj hok al st n.st;refine⟨oe,vs,he,hc,hd,hda,fe,I.call' (ch:=[]) os ⟨λb o q hn hb _=>n.st b o (bb b o q hn hb),λb o q hn hb _=>?_,λb o q hn hx=>?_,λb o q hx=>?_,λb xs q=>?_,λb o u q=>?_,λb ps q=>?_⟩ (λb ob z=>?_) bare λb z=>absurd z (by simp)⟩
 ·obtain⟨sl,k⟩:=un.slot b o q hn hb (by simp);obtain⟨_,o2,k2,nf⟩:=I.stack.mem hb;rw[q]at k2;cases k2;obtain⟨sl',k3⟩:=n.up b _ k nf;exact⟨sl',k3⟩
 ·rw[ud b (ns b o q)];exact un.free b o q hn hx
 ·obtain⟨o1,k1⟩:=un.there b o q hx;exact n.th b o1 k1
 ·have:=un.tups b xs q;rw[ud b (λz=>by rw[z,fe]at this;cases this)];exact this
 ·have:=un.frzs b o u q;rw[ud b (λz=>by rw[z,fe]at this;cases this)];exact this
 ·obtain⟨m,this⟩:=un.tbls b ps q;exact⟨m,by rw[ud b (λz=>by rw[z,fe]at this;cases this)];exact this⟩
 ·by_cases zb:b=ea
  ·subst zb;have zo:ob=.frz oe (.own 0):=by unfold upd at z;rw[if_pos rfl]at z;exact(Option.some.inj z).symm
   subst zo;exact⟨he,oe,he⟩
  ·rw[ud b zb]at z;refine(hk b ob z).stay (λ_ _ _ k=>k) (λb' k=>?_) λb' xs k=>?_
   ·rw[ud b' (λz'=>by rw[z',fe]at k;cases k)];exact k
   ·rw[ud b' (λz'=>by rw[z',fe]at k;cases k)];exact k
theorem lands(hs:X.stack=X.env::X.outer)(hfr:X.env.frame=xF X.env.locals)(I:Inv X xE σ H s){e:jF}(h:CXx X.prog X.w X.stack H s E e s'){Q:Unit->jD->Prop}{E':jF->jD->Prop}
  (q:∀(ea:j6)(C:jF)(od:Option j6)(H':Hp)(oe:Obj)(vs:Array jF)(h'':Heap),e=.ref ea->h''.get? ea=xF oe->oe.cls=C->oe.dict=od->oe.data=.fields vs->E C od H'->H' ea=xG->Inv X xE σ (upd H' ea (.frz oe (.own 0))) {s' with heap:=h''}->
   (∃B:Heap,Trc h'' B ea C od .none)->(∃C',C=.ref C')->Q () {s' with heap:=h''}):
  xY (xZ X.prog X.w) X.A (noteFrame e X.env) (λ_ s2=>xY (xZ X.prog X.w) X.A (setFlight e xG) Q E' s2) E' s':=by
 obtain⟨ea,cls,od,H',B,rfl,os,bare,un,hok,fly,bb,new,hE,hcC⟩:=h;have ff:=fly.fr;rw[hs]at ff;refine Vx (B:=B) (L:=X.env.locals) (outer:=X.outer) (by rw[I.ok.frames,hs]) ff hfr fly.tr fly.st fly.eb λh1 n1=>?_
 refine O6 n1.fr n1.tr n1.st λh2 n2=>?_
 have n:=n1.trans n2;rw[<-hs]at n;obtain⟨oe,vs,he,hc,hd,hda,fe,J⟩:=ZCb I os bare un hok bb fly.al fly.eb fly.st new n;exact q ea cls od H' oe vs h2 rfl he hc hd hda hE fe J ⟨B,n.tr⟩ hcC
end
section
variable{M:Model}{A:j7}{E:jF->jD->Prop}{h:Heap}{g:Array GenState}{d:Drawn}{t:Nat}{os:OsState}
theorem ZGs{W e:j6}{oe:Obj}{b:Bool}{nm q:Str}{N:j6}{bs bm:List jF}{hdct:Bool}{sn:List Str}{sub:List jF}{ab:Bool}{col:Option Bool}{dd:Option j6}{k0 k1 k2 k3 k5:Option jF}{newId:String}
  {nm' q':Str} {N':j6} {bs' bm':List jF} {hdct':Bool} {sn':List Str} {sub':List jF} {ab':Bool} {col':Option Bool} {dd':Option j6} {l0 l1 l2 l3 l5:Option jF} {newId':String} {Q:Bool->jD->Prop}
  (hC:h.get? C=xF (excClassObj nm q C N bs bm hdct sn sub ab col dd k0 k1 k2 k3 k5 newId)) (hW:h.get? W=xF (excClassObj nm' q' W N' bs' bm' hdct' sn' sub' ab' col' dd' l0 l1 l2 l3 l5 newId')) (he:h.get? e=xF oe) (hc:oe.cls=.ref C)
  (hb:bm'.contains (.type "BaseException")=xH) (hin:(Value.ref C::bm).contains (.ref W)=b) (hq:Q b ⟨h,g,d,t,os⟩):xY M A (excMatches (.ref e) (.ref W)) Q E ⟨h,g,d,t,os⟩:=by
 have hcB:(Value.ref W::bm').contains (.type "BaseException")=xH:=by rw[List.contains_cons,hb,Bool.or_true]
 have f:=tc_notTuple;unfold excMatches
 repeat (first|(with_reducible refine wpAny_loadPart_at he ?_;rw[hc])|with_reducible refine wpAny_loadPart_at hW ?_|(with_reducible refine wpAny_isSubtype_exc hW ?_;rw[hcB])|(with_reducible refine wpAny_isSubtype_exc hC ?_;rw[hin])|wp_step)
 cases b<;>(wp_walk;exact hq)
theorem ZGR{B:Heap}{e:j6}{Q:Unit->jD->Prop}(ht:Trc s.heap B e cls od .none)(q:∀h',(∀b o,s.heap.get? b=xF o->h'.get? b=xF o)->Q () {s with heap:=h'}):xY M A (setFlight (.ref e) xG) Q E s:=by
 obtain⟨oe,vs,T,oT,ts,he,_,hd,h1,⟨nT,nTe⟩,hT,dT,h3⟩:=ht;unfold setFlight;refine xz (xj he hd h1 ?_)
 rw[if_pos (show(Value.ref T != Value.none)=xH from by simp)]
 refine wpAny_setField hT dT (z0.mp h3).1 (q _ λb o k=>?_);by_cases z:b=T
 ·subst z;rw[hT]at k;cases k;rw[qZ _ hT (Obj.isFreed_of_fields (Obj.data_mapFields dT _))];obtain⟨c,dd,dt,sl⟩:=oT;obtain rfl:dt=.fields ts:=dT;unfold Obj.mapFields;dsimp only
  congr 2
  have:ts.setIfInBounds 3 Value.none=ts:=by
   refine Array.ext_getElem? λi=>?_
   rw[Array.getElem?_setIfInBounds];split
   ·rename_i z;subst z;rw[if_pos (z0.mp h3).1,h3]
   ·rfl
  exact congrArg _ this
 ·rw[zN _ _ (Ne.symm z)];exact k
end
section
variable{X:Cx}{xE:List (j6×Obj)}{σ:St}{H:Hp}{s:jD}
theorem Nv{M:Model}{E:jF->jD->Prop}{n:Str}{pos:Pos}{Q:Unit->jD->Prop}(I:Inv X xE σ H s)(hN:X.N.Nodup)(hi:X.N[i]?=xF n)(hk:X.env.kindOf n=xF .local)
  (q:∀s',Inv X xE (σ.set i xG) H s'->Q () s'):xY M A (do bindName X.env n .none;unbindBehindTheSuite X.env n pos) Q E s:=by
 obtain⟨m,hn,hl⟩:=I.loc;have hp:(X.env.scope.kind == .class||(X.env.scope.kind == .module&&X.env.locals != X.env.globals))=xI:=by rw[I.ok.kind];rfl
 refine wpAny_nameGoes_keeps hk hn hp λh' v hn' hs=>q _ ?_
 have neL:∀b o,X.s₀.heap.get? b=xF o->b≠X.env.locals:=λb o e=>zG (zZ (zX e) I.ok.above)
 refine⟨I.ok,I.os,I.bare,⟨λb o e nn hb hx=>(hs.2 b (neL b o e)).trans (I.base.keep b o e nn hb hx),λb o e nn hb hx=>?_,I.base.free,λb o e hx=>?_,I.base.tups,I.base.frzs,I.base.tbls⟩,⟨_,hn',λj y v' e1 e2 e3=>?_⟩,λy c e=>?_,I.free,I.Dc,λp hp=>?_,?_,by rw[List.length_set];exact I.len⟩
 ·obtain⟨sl,e1⟩:=I.base.slot b o e nn hb hx;exact⟨sl,(hs.2 b (neL b o e)).trans e1⟩
 ·obtain⟨o',e1⟩:=I.base.there b o e hx;exact⟨o',(hs.2 b (neL b o e)).trans e1⟩
 ·have hj:j≠i:=λz=>by
   subst z;rw[jx]at e2;split at e2
   ·split at e2<;>cases e2
   ·rename_i z;exact z rfl
  rw[jZ (Ne.symm hj)]at e2;obtain⟨u',r',z⟩:=hl j y v' e1 e2 e3;refine⟨u',r',?_⟩;rcases z with⟨k,e⟩|⟨k,c,e,z⟩
  ·refine .inl ⟨k,?_⟩;have:y≠n:=λe=>hj (Pg hN e1 (e▸hi))
   simp[this,e]
  ·exact .inr ⟨k,c,e,z.sameBut hs (I.cne y c e)⟩
 ·obtain⟨w',z⟩:=I.cell y c e;exact⟨w',z.sameBut hs (I.cne y c e)⟩
 ·obtain⟨e,nn,ne,nf,d⟩:=I.pin p hp;exact⟨(hs.2 p.1 ne).trans e,nn,ne,nf,d⟩
 ·exact λa o e=>(I.hok a o e).stay (λb u hb k=>(hs.2 b (λz=>by
   rcases hb with rfl|hb
   ·rw[z,I.free]at e;cases e
   ·rw[z,I.free]at hb;cases hb)).trans k) (λ_ k=>k) λ_ _ k=>k
end
noncomputable def Hh(X:Cx)(ea:j6):Cx:={X with A:=X.A.mark (xF (.ref ea)),calm:=xI,xe:=λ_ _=>False}
section
variable{X:Cx}{xE:List (j6×Obj)}{σ:St}{H:Hp}{s:jD}{ea:j6}
theorem Vf(I:Inv X xE σ H s):Inv (Hh X ea) xE σ H s:=
 ⟨⟨I.ok.mod,I.ok.kind,I.ok.glob,I.ok.blt,I.ok.above,I.ok.inj,I.ok.has,I.ok.cab,λz=>absurd z (by simp[Hh]),I.ok.frames,I.ok.stk,I.ok.exf,I.ok.bs,I.ok.bsz,I.ok.noex,I.ok.exfs,I.ok.funs,I.ok.frf⟩,I.os,I.bare,I.base,I.loc,I.cell,I.free,I.Dc,I.pin,I.hok,I.len⟩
theorem Ow{calm:X.calm=xH}(hh:X.A.handled=xG)(I:Inv (Hh X ea) xE σ H s):Inv X xE σ H s:=
 ⟨⟨I.ok.mod,I.ok.kind,I.ok.glob,I.ok.blt,I.ok.above,I.ok.inj,I.ok.has,I.ok.cab,λ_=>hh,I.ok.frames,I.ok.stk,I.ok.exf,I.ok.bs,I.ok.bsz,I.ok.noex,I.ok.exfs,I.ok.funs,I.ok.frf⟩,I.os,I.bare,I.base,I.loc,I.cell,I.free,I.Dc,I.pin,I.hok,I.len⟩
end
section
variable{X:Cx}{f W:j6}{fn x n:Str}{fp cp ep np hp pos:Pos}{a:j8}{es:List j8}{ta:TA}{sp:Sp}{k i:Nat}{fd:j9}{ps:List Str}{b₀:jE}{suite:List jE}{th:TS}
def tTry(K:PySem.W.Frag)(W:j6)(i:Nat)(sp:Sp)(ta:TA)(th:TS):TS:=λD σ H=>ta σ H λvs H1=>sp vs H1 (λ_ H2=>D.nx σ H2) λcls od H'=>cls=.none∨∃C,cls=.ref C/\takes K C W=xH/\
 ∀(ea:j6)(oe:Obj)(vs:Array jF),H' ea=xG->oe.cls=.ref C->oe.dict=od->oe.data=.fields vs->th {nx:=λσ2 H2=>D.nx (σ2.set i xG) H2,rt:=D.rt,bk:=λσ2 H2=>D.bk (σ2.set i xG) H2,ct:=λσ2 H2=>D.ct (σ2.set i xG) H2} (σ.set i (xF (.ref ea))) (upd H' ea (.frz oe (.own 0)))
theorem ZDj(hcalm:X.calm=xH)(hs:X.stack=X.env::X.outer)(hfr:X.env.frame=xF X.env.locals)(F:FnOk X.prog X.w X.K X.mg X.base (CXx X.prog X.w) k f fd ps sp)(hr:Room k X.A)(hb:Binds X.K fd ps [])(hg:Gl X fn)(hm:X.mg fn=xF (.ref f))
  (hk:PySem.W.keepIn X.K (.ref f)=xH) (ha:PA X.nox (a::es) ta) (hgx:Gl X x) (hmx:X.mg x=xF (.ref W)) (hN:X.N.Nodup) (hi:X.N[i]?=xF n) (hl:X.env.kindOf n=xF .local)
  (hh:∀ea,PSs (Hh X ea) (b₀::suite) th)
  (hdb:(fn==("__debug__":Str))=xI:=by decide) (hdx:(x==("__debug__":Str))=xI:=by decide) (he:xW (a::es) X.env=(xI,eval a X.env)::xW es X.env:=by rfl) (hpl:(jL cp (xW es X.env)).any (·.1)=xI:=by rfl)
  (hsw:swapsWith (.Call (.Name fn fp) (a::es) [] cp) xG ep.line X.env=pure xI:=by rfl):
  PS X (.Try [.Expr (.Call (.Name fn fp) (a::es) [] cp) ep] [.ExceptHandler (xF (.Name x np)) (xF n) (b₀::suite) hp] [] [] pos) (tTry X.K W i sp ta th):=by
 intro xE s σ H D I h;refine wpAny_Try_except (wpAny_execs_cons (wpAny_Expr_any ?_ I.quiet hsw));refine xq (Js I hg hm ?_ hdb);refine PySem.W.callWith_K (h₀:=X.base) I.ok.mod.kin hk (xy (ha cp xE s σ H _ (I.wish _) h) (λus s1 ⟨vs,H1,I1,r,q⟩=>⟨I1.kIn,?_⟩) λ_ _ z=>z.elim) he hpl;have I1':=I1.unwish;have hlen:(us++[]).length=ps.length:=by rw[qQ,<-r.length];exact F.len _ _ _ _ q
 refine wpAny_call (jP (F.run X.A X.stack s1 H1 ⟨us,[]⟩ us vs _ _ hr I1'.env0 (by have:=hb s1 us I1'.kIn hlen;rwa[qQ]at this) r q) λr s' hq=>?_);cases r with
 | ok fl=>
  cases fl with
  |next=>exact False.elim hq
  |brk=>exact False.elim hq
  |cont=>exact False.elim hq
  |ret u=>
   obtain⟨v,H2,I2,rv,q2⟩:=I1'.after hq;exact wpAny_execs_nil (wpAny_execs_nil ⟨σ,H2,I2,q2⟩)
 | error e=>
  refine lands hs hfr I1' hq λea C od H' oe vs' h'' ee ho hc hd hda hE fe J tr hcC=>?_
  subst ee;rcases hE with z|⟨C',hC',ht,hE⟩
  ·obtain⟨C2,z2⟩:=hcC;rw[z]at z2;cases z2
  subst hC';obtain⟨B,tr⟩:=tr;have hcalm':=I.ok.hd hcalm;unfold takes at ht;simp only[zw]at ht;obtain⟨⟨t1,t2⟩,t3⟩:=ht;obtain⟨bm,N,nm,qn,bs,sn,sub,ab,col,dd,k0,k1,k2,k3,k5,hcl,T,_⟩:=J0 J.kIn t1;obtain⟨bm',N',nm',qn',bs',sn',sub',ab',col',dd',l0,l1,l2,l3,l5,hcl',T',_⟩:=J0 J.kIn t2;have hin:(Value.ref C'::bm).contains (.ref W)=xH:=by
   split at t3
   ·rename_i c0 d0 cd sl0 ho';have:=J.kIn _ _ ho';rw[hcl]at this;cases this;exact t3
   ·cases t3
  refine wpAny_handleBy_cons (codeAny_handlers_test (Js (X:=Hh X ea) (Vf J) hgx hmx ?_ hdx)) (by intro q;cases q);refine ZGs hcl hcl' ho hc (T'.hasType PySem.F.excBase_ValueError.hasBase) hin ?_;refine codeAny_handlers_suite_as (ZGR tr λh3 kp=>?_);have J3:=J.kept (h':=h3) (t':=s'.toks) kp;refine Ut J3 hN hi (.inl hl) (v:=.ref ea) rfl (λs4 I4=>?_) (.inr hl);refine xy (hh ea xE s4 _ _ _ (Vf I4) (hE ea oe vs' fe hc hd hda)) (λfl s5 q5=>?_) λ_ _ z=>z.elim
  cases fl with
  |next=>
   obtain⟨σ2,H2,I5,q5⟩:=q5;exact Nv (Ow (calm:=hcalm) hcalm' I5) hN hi hl λs6 I6=>⟨_,H2,I6,q5⟩
  |brk=>
   obtain⟨σ2,H2,I5,q5⟩:=q5;exact Nv (Ow (calm:=hcalm) hcalm' I5) hN hi hl λs6 I6=>⟨_,H2,I6,q5⟩
  |cont=>
   obtain⟨σ2,H2,I5,q5⟩:=q5;exact Nv (Ow (calm:=hcalm) hcalm' I5) hN hi hl λs6 I6=>⟨_,H2,I6,q5⟩
  |ret u=>
   obtain⟨v,σ2,H2,I5,rv,q5⟩:=q5;exact Nv (Ow (calm:=hcalm) hcalm' I5) hN hi hl λs6 I6=>⟨v,_,H2,I6,rv,q5⟩
end
theorem ZGN:∀n:Nat,n<1000->intS (n:Int):=by
 have h:∀n:Fin 1000,((n.1:Int).natAbs.log2<1920/\(Str.ofString (toString (n.1:Int))).length<=1000):=by decide +kernel
 exact λn hn=>h ⟨n,hn⟩
def sRz(c f:Str)(t:DA):DS:=λS G=>match t S G with
 |.ok ds G1=>(match ds with
  |[.int i]=>if 0<=i/\i<1000 then .err ⟨c,[(f,.int i)]⟩ G1 else .bad
  |[.non]=>.err ⟨c,[(f,.non)]⟩ G1
  |_=>.bad)
 |.err x G1=>.err x G1
 |.bad=>.bad
section
variable{X:Cx}{E:XK}{C fI:j6}{c f v:Str}{np cpos pos:Pos}{a:j8}{t:DA}{k:Nat}{fd:j9}
theorem ZG8(hn:PySem.W.nsIn X.K xQ c=xF (xF (.ref C)))(hcalm:X.calm=xH)(hs:X.stack=X.env::X.outer)(hex:X.ex=[])(hfr:X.env.frame=xF X.env.locals)(hxe:∀e s,Fd X E e s->X.xe e s)
  (XS:XSet X.K C f) (hi:Ij X.K C fI=xH) (hfn:∃o,X.K.lookup fI=xF o/\o.cls=.type "function") (F:FnOk X.prog X.w X.K X.mg X.base CX0 k fI fd ["self",v] (spI C f)) (hr:Room (k+1) X.A) (hb:Binds X.K fd ["self",v] [])
  (hg:Gl X c) (hm:X.mg c=xF (.ref C)) (hk:PySem.W.keepIn X.K (.ref C)=xH) (ha:QA X E [a] t) (hdb:(c==("__debug__":Str))=xI:=by decide) (hst:notStar a=xH:=by rfl):
  QS X E (.Raise (xF (.Call (.Name c np) [a] [] cpos)) xG pos) (sRz c f t):=
 (ZDb hcalm hs hex hfr hxe XS hi hfn F hr hb hg hm hk ha hdb (Em a [] X.env hst) rfl).mono λW σ H h=>by
  obtain⟨w,S,G,hk,rfl,sm,r,h⟩:=h;refine⟨w,S,G,hk,rfl,sm,r,?_⟩;unfold sRz at h;cases ht:t S G with
  |err x G1=>rw[ht]at h;exact h
  |bad=>rw[ht]at h;exact h
  | ok ds G1=>
   rw[ht]at h;dsimp only at h;split at h
   ·rename_i i;split at h
    ·rename_i hi;intro b vs x s1 q;obtain⟨v1,r1,rfl,q1,q2⟩:=q;obtain rfl:v1=.int i:=q1;obtain rfl:r1=[]:=q2;refine⟨.int i,rfl,.inl ⟨i,rfl,?_⟩,λdx o nd=>?_⟩
     ·have:=ZGN i.toNat (by lia);rwa[show((i.toNat:Nat):Int)=i by lia]at this
     ·refine h.2 (b.put dx (.frz o (.xd [(f,.int i)]))) C (xF dx) (x.trans (Ext.put nd)) (s1.put nd) ?_ (.inr ⟨dx,o,[(f,.int i)],rfl,?_,rfl,?_⟩)
      ·show PySem.W.nsIn b.K _ _=_;rw[x.k,hk];exact hn
      ·show upd b.H dx _ dx=_;unfold upd;rw[if_pos rfl]
      ·exact⟨.int i,[],rfl,rfl,rfl⟩
    ·exact h.elim
   ·intro b vs x s1 q;obtain⟨v1,r1,rfl,q1,q2⟩:=q;obtain rfl:v1=.non:=q1;obtain rfl:r1=[]:=q2;refine⟨.non,rfl,.inr rfl,λdx o nd=>?_⟩;refine h.2 (b.put dx (.frz o (.xd [(f,.non)]))) C (xF dx) (x.trans (Ext.put nd)) (s1.put nd) ?_ (.inr ⟨dx,o,[(f,.non)],rfl,?_,rfl,?_⟩)
    ·show PySem.W.nsIn b.K _ _=_;rw[x.k,hk];exact hn
    ·show upd b.H dx _ dx=_;unfold upd;rw[if_pos rfl]
    ·exact⟨.non,[],rfl,rfl,rfl⟩
   ·exact h.elim
end
noncomputable def unnm(i:Nat):SR->SR
 |.nx S G=>.nx (S.set i xG) G
 |.bk S G=>.bk (S.set i xG) G
 |.ct S G=>.ct (S.set i xG) G
 |.rt d G=>.rt d G
 |_=>.bad
def Hd(ws:List Str)(i:Nat)(F:List D->DH->R D)(t:DA)(hb:DS):DS:=λS G=>match t S G with
 |.ok ds G1=>(match F ds G1 with
  |.ok _ G2=>.nx S G2
  |.err x G2=>if x.cls∈ws then unnm i (hb (S.set i (xF (.ref G2.length))) (G2++[.exc x.cls x.fs]))else .bad
  |.bad=>.bad)
 |_=>.bad
theorem RepS.unset{a:Wd}{S:DSt}{σ:St}(r:RepS a S σ)(i:Nat):RepS a (S.set i xG) (σ.set i xG):=by
 refine⟨by simpa using r.len,λj e he=>?_⟩;rw[jx]at he⊢;by_cases hij:i=j
 ·subst hij;rw[if_pos rfl]at he
  split at he<;>cases he
 ·rw[if_neg hij]at he⊢;exact r.get j e he
section
variable{X:Cx}{E:XK}{f W:j6}{fn x n:Str}{fp cp ep np hp pos:Pos}{a:j8}{es:List j8}{t:DA}{F:List D->DH->R D}{k i:Nat}{fd:j9}{ps:List Str}{b₀:jE}{suite:List jE}{hb:DS}{ws:List Str}
theorem ZB1(hcalm:X.calm=xH)(hs:X.stack=X.env::X.outer)(hfr:X.env.frame=xF X.env.locals)(FF:FnOk X.prog X.w X.K X.mg X.base (CXx X.prog X.w) k f fd ps (lFx X.K F))(hr:Room k X.A)(hbd:Binds X.K fd ps [])(hg:Gl X fn)(hm:X.mg fn=xF (.ref f))
  (hk:PySem.W.keepIn X.K (.ref f)=xH) (ha:QA X.nox E0 (a::es) t) (hgx:Gl X x) (hmx:X.mg x=xF (.ref W)) (hN:X.N.Nodup) (hi:X.N[i]?=xF n) (hl:X.env.kindOf n=xF .local)
  (hws:∀c∈ws,∀C,PySem.W.nsIn X.K xQ c=xF (xF (.ref C))->takes X.K C W=xH) (hh:∀ea,QSs (Hh X ea) E0 (b₀::suite) hb)
  (hdb:(fn==("__debug__":Str))=xI:=by decide) (hdx:(x==("__debug__":Str))=xI:=by decide) (he:xW (a::es) X.env=(xI,eval a X.env)::xW es X.env:=by rfl) (hpl:(jL cp (xW es X.env)).any (·.1)=xI:=by rfl)
  (hsw:swapsWith (.Call (.Name fn fp) (a::es) [] cp) xG ep.line X.env=pure xI:=by rfl):
  QS X E (.Try [.Expr (.Call (.Name fn fp) (a::es) [] cp) ep] [.ExceptHandler (xF (.Name x np)) (xF n) (b₀::suite) hp] [] [] pos) (Hd ws i F t hb):=
 (ZDj (th:=lS X.K E0 hb) hcalm hs hfr FF hr hbd hg hm hk ha hgx hmx hN hi hl (λea=>hh ea) hdb hdx he hpl hsw).mono λD σ H h=>by
  obtain⟨w,S,G,hk,rfl,sm,r,h⟩:=h;refine⟨w,S,G,hk,rfl,sm,r,?_⟩;unfold Hd at h;cases ht:t S G with
  |err x G1=>rw[ht]at h;exact h.elim
  |bad=>rw[ht]at h;exact h
  | ok ds G1=>
   rw[ht]at h;dsimp only at h;intro b vs y s1 q;refine⟨b,G1,ds,y.k.trans hk,rfl,s1,q,?_⟩;cases hF:F ds G1 with
   |bad=>rw[hF]at h;exact h
   |ok d G2=>
    rw[hF]at h;exact λb2 v y2 s2 _=>h b2 σ (y.trans y2) s2 (r.mono (y.trans y2))
   | err xn G2=>
    rw[hF]at h;dsimp only at h;split at h
    ·rename_i hw;refine⟨λz=>?_,λb2 C od y2 s2 hn hx=>.inr ⟨C,rfl,hws _ hw C (by rw[<-hk,<-y.k,<-y2.k];exact hn),λea oe vs fe hc hd hda=>?_⟩⟩
     ·have:=congrFun (congrFun (congrFun z Value.none) xG) w.H;exact cast this (.inl rfl)
     ·subst hd;have yp:=Ext.push (a:=b2) (p:=ea) (ho:=.frz oe (.own 0)) fe;refine⟨b2.push ea (.frz oe (.own 0)),S.set i (xF (.ref G2.length)),G2++[.exc xn.cls xn.fs],?_,rfl,?_,?_,?_⟩
      ·show b2.K=_;rw[y2.k,y.k,hk]
      ·exact s2.push fe ⟨C,oe,.own 0,vs,hn,rfl,hc,hda,hx.mono yp⟩
      ·refine(r.mono (y.trans (y2.trans yp))).set i ⟨?_,?_⟩
       ·show G2.length<b2.n+1;rw[s2.len];exact zP _
       ·show V.ref ea=V.ref (if G2.length=b2.n then ea else b2.m G2.length);rw[if_pos s2.len]
      ·have yw:=y.trans (y2.trans yp)
       revert h
       cases hb (S.set i (xF (.ref G2.length))) (G2++[.exc xn.cls xn.fs])with
       |nx S3 G3=>exact λh c σ3 y3 s3 r3=>h c _ (yw.trans y3) s3 (r3.unset i)
       |bk S3 G3=>exact λh c σ3 y3 s3 r3=>h c _ (yw.trans y3) s3 (r3.unset i)
       |ct S3 G3=>exact λh c σ3 y3 s3 r3=>h c _ (yw.trans y3) s3 (r3.unset i)
       |rt d3 G3=>exact λh c v3 y3 s3 r3=>h c v3 (yw.trans y3) s3 r3
       |err x3 G3=>exact λh=>h.elim
       |bad=>exact λh=>h.elim
    ·exact h.elim
end
theorem Jr{P:jB}{K:PySem.W.Frag}{x:Str}{N:List Str}{b:DS}(F:Fun K x qual st f fd)(S:FnScope N ps (Am st))
  (hbody:∀(cdv:jF)(A:j7)(outer:List Env)(s:jD)(H:Hp)(E:XK),Room k (A.deeper (envOfC qual (Am st) s.heap.objs.size f cdv))->QSs (Fj (CXx P w) P w K mg base N qual (Am st) f cdv A outer s H E) E (By st) b):
  FnOk P w K mg base (CXx P w) (k+1) f fd ps (lFx K (Bd ps.length (N.length-ps.length) b)):=by
 have hlen:∀vs H Q E,lFx K (Bd ps.length (N.length-ps.length) b) vs H Q E->vs.length=ps.length:=λvs H Q E h=>by
  obtain⟨a,G,ds,hk,rfl,sm,r,h⟩:=h;unfold Bd at h;split at h
  ·rename_i hl;rw[<-r.length];exact hl
  ·exact h.elim
 obtain⟨oc,od,kV,doc,pm,an,cdv,ct,osl,rfl,lk,hcd⟩:=F.ex;refine Zt lk hcd S hlen λA outer s H vs Q E hr h=>⟨lS K E b,hbody cdv A outer s H E hr,?_⟩
 have hl:=hlen vs H Q E h;obtain⟨a,G,ds,hk,rfl,sm,r,h⟩:=h;unfold Bd at h;split at h
 ·have h2:=Uv sm h;refine⟨a,ds.map xF++zE (N.length-ps.length) xG,G,hk,rfl,sm,ZAU r _ _ (by rw[hl]),?_⟩
  revert h2
  cases b (ds.map xF++zE (N.length-ps.length) xG) G with
  |nx S1 G1=>exact λh2 c σ x s1 _=>h2 c .non x s1 rfl
  |rt d G1=>exact λh2=>h2
  |err e G1=>exact λh2=>h2
  |bk S1 G1=>exact λh2=>h2.elim
  |ct S1 G1=>exact λh2=>h2.elim
  |bad=>exact λh2=>h2
 ·exact h.elim
theorem Qw{P:jB}{K:PySem.W.Frag}{N:List Str}{scope:jC}{cd:jF}{outer:List Env}{E:XK}:
  Passes (CXx P w) (Fj (CXx P w) P w K mg base N qual scope f cd A outer s H E) E:=λxE σ H1 s1 e s' I h=>ZGn rfl rfl rfl I h
noncomputable def nerr(F:List D->DH->R D):List D->DH->R D:=λds G=>match F ds G with
 |.ok d G1=>.ok d G1
 |_=>.bad
section
variable{X:Cx}{E:XK}{x:Str}{p pos:Pos}{e:j8}{es:List j8}{tr:DA}
theorem ZB7{ds:List D}{Q:VK}(h:out E b (nerr F ds G) Q):out E0 b (F ds G) Q:=by
 unfold nerr at h;cases hF:F ds G with
 |ok d G1=>rw[hF]at h;exact h
 |err x G1=>rw[hF]at h;exact h.elim
 |bad=>rw[hF]at h;exact h
theorem ZIe(FF:FnOk X.prog X.w X.K X.mg X.base CX0 k f fd ps (lF X.K F))(hr:Room k X.A)(hg:Gl X x)(hm:X.mg x=xF (.ref f))(hk:PySem.W.keepIn X.K (.ref f)=xH)(hb:Binds X.K fd ps [])
  (ha:QA X E (e::es) tr) (hdb:(x==("__debug__":Str))=xI:=by decide) (he:notStar e=xH:=by rfl) (hpl:es.all notStar=xH:=by rfl):QE X E (.Call (.Name x p) (e::es) [] pos) (dFn (nerr F) tr):=
 (Pz (E:=E) FF hr hg hm hk hb .nil (λ_ _ _ _ _ _ _ h=>h.elim) ha hdb (Em e es X.env he) (Hi pos X.env es hpl)).mono λσ H Q h=>by obtain⟨a,S,G,hk,rfl,s,r,h⟩:=Kw h;refine⟨a,S,G,hk,rfl,s,r,h.imp ?_⟩;rintro vs _ ⟨b,G1,ds,hk,rfl,s1,q,h1⟩;exact⟨b,G1,ds,hk,rfl,s1,by rw[qQ];exact q,ZB7 h1⟩
theorem Jx(FF:FnOk X.prog X.w X.K X.mg X.base (CXx X.prog X.w) k f fd ps (lFx X.K F))(hr:Room k X.A)(hg:Gl X x)(hm:X.mg x=xF (.ref f))(hk:PySem.W.keepIn X.K (.ref f)=xH)(hb:Binds X.K fd ps [])
  (hx:Passes (CXx X.prog X.w) X E) (ha:QA X E (e::es) tr) (hdb:(x==("__debug__":Str))=xI:=by decide) (he:notStar e=xH:=by rfl) (hpl:es.all notStar=xH:=by rfl):QE X E (.Call (.Name x p) (e::es) [] pos) (dFn F tr):=
 (Pz FF hr hg hm hk hb .nil hx ha hdb (Em e es X.env he) (Hi pos X.env es hpl)).mono λσ H Q h=>by obtain⟨a,S,G,hk,rfl,s,r,h⟩:=Kw h;refine⟨a,S,G,hk,rfl,s,r,h.imp ?_⟩;rintro vs _ ⟨b,G1,ds,hk,rfl,s1,q,h1⟩;exact⟨b,G1,ds,hk,rfl,s1,by rw[qQ];exact q,h1⟩
end
structure RoomH (k:Nat) (A:j7):Prop where
 dp:A.depth+3*k+5<recursionLimit
 un:A.units+16*k+200<cLine
theorem RoomH.of(r:Room k A):RoomH k A:=⟨r.dp,r.un⟩
theorem RoomH.held{v:Option jF}(r:RoomH k A):RoomH k (A.mark v):=⟨r.dp,r.un⟩
section
variable{X:Cx}{E:XK}{x:Str}{p pos:Pos}{e:j8}{es:List j8}{tr:DA}
end
structure XGet (K:PySem.W.Frag) (C:j6):Prop where
 ga:PySem.W.findIn K (.ref C) "__getattribute__"=xF (xF (.builtin "BaseException.__getattribute__"))
 gn:PySem.W.findIn K (.ref C) "__getattr__"=xF xG
 sb:PySem.W.subIn K (.ref C) (.type "BaseException")=xF xH
 hd:PySem.W.hasDictIn K C=xH
 cl:PySem.W.findIn K (.ref C) "__class__"=xF (xF (.builtin "object.__class__"))
 cg:PySem.W.specialIn K (.builtin "object.__class__") "__get__"=xF (xF (.builtin "getset_descriptor.__get__"))
 ct:PySem.W.takesIn K (.builtin "object.__class__")=xF xH
 mo:PySem.W.mroIn K C (.type "object")=xF xH
 kc:PySem.W.kitCls K (.ref C) (.ref C)=xF xH
 ec:Ft K C=xH
section
variable{prog:jB}{w:jG}{A:j7}{E:jF->jD->Prop}{s:jD}{K:PySem.W.Frag}{x C:j6}{ox:Obj}{od:Option Obj}{name:Str}{tk:Tok}
theorem ZEQ{M:Model}{nameV:jF}{Q:Unit->jD->Prop}(X:K.In s.heap)(I:PySem.W.InstAt s.heap x ox C od)(hs:PySem.W.subIn K (.ref C) (.type "BaseException")=xF xH)(hq:Q () s):
  xY M A (checkBuiltinCall "BaseException.__getattribute__" ⟨[.ref x,nameV],[]⟩) Q E s:=by
 have hk:builtinKind "BaseException.__getattribute__"=xF .slot:=by decide +kernel
 have hsplit:splitId "BaseException.__getattribute__"=xF ("BaseException","__getattribute__"):=by decide +kernel
 have ha:=F.args_bexc_ga (.ref x) nameV;have LI:PySem.W.Looks M s.heap (isInstance (.ref x) (.type "BaseException")) xH:=(I.type (M:=M)).andThen (PySem.W.looks_subIn X hs);obtain⟨h,g,d,t,os⟩:=s;simp only[checkBuiltinCall,hk,hsplit];refine xz (LI.at ?_)
 repeat (first|wp_step)
 exact hq
theorem ZBK{Q:jF->jD->Prop}(X:K.In s.heap)(I:PySem.W.InstAt s.heap x ox C od)(G:XGet K C)
  (h:∀A',xY (xZ prog w) A' (Builtin.«object.__getattribute__» ⟨[.ref x,.str name tk],[]⟩) (λfin s'=>match fin with | .done (.ret v)=>PySem.W.handedIn v=xH/\Q v s'|_=>False) (λ_ _=>False) s):
  xY (xZ prog w) A (getAttrBy (.ref x) (.str name tk) fill expr) Q E s:=by
 have L0:=I.type (M:=xZ prog w);have L1:=PySem.W.looks_findIn (M:=xZ prog w) X G.ga;have _L:=PySem.W.looks_findIn (M:=xZ prog w) X G.gn;have f3:=F.excAttr_ValueError.ga.bind (.ref x)
 have hx0:(expr&&onTheHeap (Value.builtin "BaseException.__getattribute__"))=xI:=by cases expr<;>rfl
 obtain⟨hh,g,d,t,os⟩:=s;unfold getAttrBy;refine xk (xz (L0.at (xz (L1.at ?_))));dsimp only;rw[show(onTheHeap (Value.ref C)&&Value.builtin "BaseException.__getattribute__"==Value.builtin "object.__getattribute__")=xI by rw[show(Value.builtin "BaseException.__getattribute__"==Value.builtin "object.__getattribute__")=xI by decide +kernel];rfl];simp only[Bool.false_eq_true,if_false]
 unfold getAttrByItsOwn;show xY _ _ (typeLookup (.ref C) "__getattr__" >>=_) _ _ _;refine xz (_L.at ?_);refine xz (wpAny_attempt (xk ?_));unfold callGetattribute;rw[hx0];simp only[Bool.false_eq_true,if_false];unfold boundAndCalled;rw[f3];refine xz (xA ?_);refine wpAny_call (codeAny_call_builtin F.excAttr_ValueError.ga.plain F.entry_bexc_ga (ZEQ X I G.sb (xy (h _) (λfin s' z=>?_) λ_ _ z=>z.elim)))
 rcases fin with(_|_|_|_)|_<;>first|exact z.elim|exact PySem.W.handed_on z.1 z.2
theorem ZCe{Q:jF->jD->Prop}(X:K.In s.heap)(I:PySem.W.InstAt s.heap x ox C od)(G:XGet K C)(hf:PySem.W.findObj K C od name=xF (.value v))(hv:PySem.W.handedIn v=xH)(h:Q v s):
  xY (xZ prog w) A (getAttrBy (.ref x) (.str name tk) fill expr) Q E s:=by
 refine ZBK X I G λA'=>?_
 have L0:=I.type (M:=xZ prog w);have L1:=PySem.W.looks_find (M:=xZ prog w) X I hf;obtain⟨hh,g,d,t,os⟩:=s;refine xz (xA (xz (xA (xz (L0.at (xz (L1.at ?_)))))));exact xA ⟨hv,h⟩
theorem ZBu{Q:jF->jD->Prop}(X:K.In s.heap)(I:PySem.W.InstAt s.heap x ox C od)(G:XGet K C)(h:Q (.ref C) s):
  xY (xZ prog w) A (getAttrBy (.ref x) (.str "__class__" tk) fill expr) Q E s:=by
 refine ZBK X I G λA'=>?_
 have hf:PySem.W.findObj K C od "__class__"=xF (.bind (.builtin "getset_descriptor.__get__") (.builtin "object.__class__")):=by obtain⟨cd,hc,_⟩:=PySem.W.any_some G.hd;unfold PySem.W.findObj;rw[hc,Option.bind_some,G.cl,Option.bind_some];simp[G.cg,G.ct]
 have L0:=I.type (M:=xZ prog w);have L1:=PySem.W.looks_find (M:=xZ prog w) X I hf;have cg:=λ(A:j7)(R:Result->jD->Prop)(z:R (.ok (.ret (.ref C))) s)=>PySem.W.class_get (prog:=prog) (w:=w) (A:=A) (R:=R) (tp:=.ref C) X I G.mo z
 obtain⟨hh,g,d,t,os⟩:=s;refine xz (xA (xz (xA (xz (L0.at (xz (L1.at ?_)))))));show xY _ _ (holding _ (call (.builtin "getset_descriptor.__get__") [.builtin "object.__class__",.ref x,.ref C]) >>=ret) _ _ _;exact xz (xk (wpAny_call (cg _ _ (xA ⟨rfl,h⟩))))
theorem ZFP(G:XGet K C):PySem.W.KitX K (.ref x) (.ref C) (λh=>PySem.W.InstAt h x ox C od):=by
 refine⟨λ_ _ _ I=>I.type,λ_ _ X _=>(PySem.W.kit_cls X G.kc).2.1,λh tp dd its n sl X htp=>?_,λ{_ _ _ _ _ s}X I k=>?_⟩
 ·cases q:(Value.ref C == .ref tp)with
  |false=>rfl
  |true=>
   have z:C=tp:=Value.ref.inj (beq_iff_eq.mp q);obtain⟨_,_,_,_,_,_,_,_,_,_,_,_,_,_,_,hcl,_⟩:=J0 X G.ec;rw[z,htp]at hcl;have:=congrArg Obj.cls (Option.some.inj hcl);have z2:Value.type "tuple"=Value.type "type":=this;exact absurd (Value.type.inj z2) (by decide)
 ·obtain⟨hh,g,d,t,os⟩:=s;unfold getAttr? getAttrBy?;refine xz (wpAny_mkText (xz (wpAny_attempt ?_)));exact ZBu (s:=⟨hh,g,d,t+1,os⟩) X I G (xA k)
end
noncomputable def isx(tb:List (Str×Bool))(x:D)(G:DH):R D:=match x with
 | .ref i=>(match G[i]? with
  |some (.exc c _)=>(match tb.lookup c with
   |some b=>.ok (.bl b) G
   |none=>.bad)
  |_=>.bad)
 |_=>.bad
def gtx(cs:List Str)(f:Str)(x:D)(G:DH):R D:=match x with
 | .ref i=>(match G[i]? with
  |some (.exc c (p::r))=>if c∈cs then(match(p::r).lookup f with
   |some d=>.ok d G
   |none=>.bad)else .bad
  |_=>.bad)
 |_=>.bad
def HeldAt(H:Hp)(x:V)(C:j6)(us:List (Str×V)):Prop:=∃a oe u vs dx o,x=.ref a/\H a=xF (.frz oe u)/\oe.cls=.ref C/\oe.data=.fields vs/\oe.dict=xF dx/\H dx=xF (.frz o (.xd us))
theorem Sim.exc{c:Str}{p:Str×D}{fs:List (Str×D)}{v:V}(s:Sim b G)(r:Rep b (.ref i) v)(h:G[i]?=xF (.exc c (p::fs))):∃C us,PySem.W.nsIn b.K xQ c=xF (xF (.ref C))/\HeldAt b.H v C us/\RepF b (p::fs) us:=by
 obtain⟨_,ev⟩:=r;obtain⟨C,oe,u,vs,n,e,k1,k2,z⟩:=s.obj i _ h;rcases z with⟨z,_⟩|⟨dx,o,us,z1,z2,z3⟩
 ·cases z
 ·exact⟨C,us,n,⟨_,oe,u,vs,dx,o,ev,e,k1,k2,z1,z2⟩,z3⟩
def HeldC(H:Hp)(x:V)(C:j6):Prop:=∃a oe u vs,x=.ref a/\H a=xF (.frz oe u)/\oe.cls=.ref C/\oe.data=.fields vs/\(oe.dict=xG∨∃dx o us,oe.dict=xF dx/\H dx=xF (.frz o (.xd us)))
theorem Sim.Ft{c:Str}{fs:List (Str×D)}{v:V}(s:Sim b G)(r:Rep b (.ref i) v)(h:G[i]?=xF (.exc c fs)):∃C,PySem.W.nsIn b.K xQ c=xF (xF (.ref C))/\HeldC b.H v C:=by
 obtain⟨_,ev⟩:=r;obtain⟨C,oe,u,vs,n,e,k1,k2,z⟩:=s.obj i _ h;rcases z with⟨_,z⟩|⟨dx,o,us,z1,z2,z3⟩
 ·exact⟨C,n,_,oe,u,vs,ev,e,k1,k2,.inl z⟩
 ·exact⟨C,n,_,oe,u,vs,ev,e,k1,k2,.inr ⟨dx,o,us,z1,z2⟩⟩
section
variable{X:Cx}{E:XK}{xE:List (j6×Obj)}{σ:St}{H:Hp}{s:jD}
theorem ZGl{x:V}{us:List (Str×V)}(I:Inv X xE σ H s)(h:HeldAt H x C us):∃(a:j6)(oe od:Obj)(mA:Str->Option jF),x=.ref a/\PySem.W.InstAt s.heap a oe C (xF od)/\(∀name,PySem.W.lookIn name od=xF (mA name))/\∀f,RelO (us.lookup f) (mA f):=by
 obtain⟨a,oe,u,vs,dx,o,rfl,ea,k1,k2,k3,ed⟩:=h
 obtain⟨ha,_⟩:=(show ObjOk X.prog X.w H s.heap a (.frz oe u)from I.hok a _ ea)
 obtain⟨hd,mA,hn,hr⟩:=(show ObjOk X.prog X.w H s.heap dx (.frz o (.xd us))from I.hok dx _ ed)
 obtain⟨od,ho,hl⟩:=Zb hn;refine⟨a,oe,od,mA,rfl,⟨ha,k1,?_,?_⟩,hl,hr⟩
 ·unfold PySem.W.notCls;rw[k2]
 ·rw[k3];exact ho
theorem ZCr{x:V}(I:Inv X xE σ H s)(h:HeldC H x C):∃(a:j6)(oe:Obj)(od:Option Obj),x=.ref a/\PySem.W.InstAt s.heap a oe C od:=by
 obtain⟨a,oe,u,vs,rfl,ea,k1,k2,z⟩:=h
 obtain⟨ha,_⟩:=(show ObjOk X.prog X.w H s.heap a (.frz oe u)from I.hok a _ ea)
 have nc:PySem.W.notCls oe=xH:=by unfold PySem.W.notCls;rw[k2]
 rcases z with z|⟨dx,o,us,z,ed⟩
 ·exact⟨a,oe,xG,rfl,ha,k1,nc,by rw[z];trivial⟩
 ·obtain⟨hd,mA,hn,hr⟩:=(show ObjOk X.prog X.w H s.heap dx (.frz o (.xd us))from I.hok dx _ ed)
  obtain⟨od,ho,hl⟩:=Zb hn;exact⟨a,oe,xF od,rfl,ha,k1,nc,by rw[z];exact ho⟩
def rIs1(K:PySem.W.Frag)(cv:V)(cu:jF):List V->Hp->VK->Prop:=λvs H Q=>∃x C b,vs=[x,cv]/\HeldC H x C/\XGet K C/\PySem.W.kitOne K (.ref C) cu=xF b/\Q (.bl b) H
theorem ZFQ{cv:V}{cu:jF}(hcu:∀u,RelV cv u->u=cu):CallR X (.builtin "isinstance") (rIs1 X.K cv cu):=by
 intro xE s σ H xs us Q I rs h;obtain⟨x,C,b,rfl,hx,G,hk,q⟩:=h;obtain⟨u,u',rfl,ru,ru'⟩:∃u u',us=[u,u']/\RelV x u/\RelV cv u':=by
  cases rs with
  |cons p q=>cases q with
   |cons p' q'=>cases q';exact⟨_,_,rfl,p,p'⟩
 cases hcu _ ru';obtain⟨a,oe,od,rfl,J⟩:=ZCr I hx
 cases(show u=Value.ref a from ru)
 exact PySem.W.kia_one (ZFP G) I.kIn J hk (λz=>nomatch z) λtk=>⟨.bl b,H,I.tok _,rfl,q⟩
variable{e ce:j8}{ces:List j8}{t:DE}{tb:List (Str×Bool)}{cv:V}{cu:jF}{cvs:List V}{cus:List jF}{p pos tp:Pos}
theorem Zc(hg:Gl X "isinstance")(hm:X.mg "isinstance"=xG)(ha:QE X E e t)(hc:PE X ce (tC cv))(hcu:∀u,RelV cv u->u=cu)
  (htb:∀c b,tb.lookup c=xF b->∀C,PySem.W.nsIn X.K xQ c=xF (xF (.ref C))->XGet X.K C/\PySem.W.kitOne X.K (.ref C) cu=xF b) (he:notStar e=xH:=by rfl) (hs:notStar ce=xH:=by rfl):
  QE X E (.Call (.Name "isinstance" p) [e,ce] [] pos) (dUn (isx tb) t):=
 (ZBl (ZFQ hcu) hg hm ZAV (Kp ha (Kp hc Ti (Em ce [] X.env hs)) (Em e [ce] X.env he)) (by decide) (by decide) (Em e [ce] X.env he) (Hi pos X.env [ce] (by simp[hs]))).mono λσ H Q h=>by
  obtain⟨a,S,G,hk,rfl,s,r,h⟩:=h;refine⟨a,S,G,hk,rfl,s,r,(Ci h).imp ?_⟩;rintro v _ ⟨b,d,G1,rfl,x,s1,q,-,h1⟩;unfold isx at h1;split at h1
  ·rename_i i;split at h1
   ·rename_i c fs hi;split at h1
    ·rename_i bb hb;obtain⟨C,n,hx⟩:=s1.Ft q hi;obtain⟨g1,g2⟩:=htb c bb hb C (by rw[<-hk,<-x.k];exact n);exact⟨v,C,bb,rfl,hx,g1,g2,h1 b _ (Ext.refl b) s1 rfl⟩
    ·exact h1.elim
   ·exact h1.elim
  ·exact h1.elim
variable{f:Str}{cs:List Str}
noncomputable def tXf(K:PySem.W.Frag)(ta:TE)(f:Str):TE:=λσ H Q=>ta σ H λx H1=>∃C us v,HeldAt H1 x C us/\XGet K C/\NoAttr K C f/\us.lookup f=xF v/\Q v H1
theorem ZIA{ta:TE}(he:PE X e ta)(hb:jI e f X.env (eval e X.env)=eval e X.env):PE X (.Attribute e f pos) (tXf X.K ta f):=by
 intro xE s σ H Q I h;refine ZGz hb (thn (he xE s σ H _ I h) λu s1 ⟨x,H1,I1,rx,C,us,v,hx,G,n,l,q⟩=>?_);obtain⟨a,oe,od,mA,rfl,J,hl,hr⟩:=ZGl I1 hx
 cases(show u=Value.ref a from rx)
 obtain⟨u',hu,ru⟩:=RelO.some_of (v:=v) (o:=mA f) (by rw[<-l];exact hr f);obtain⟨hh,g,d,t,os⟩:=s1;unfold getAttr;refine xz (wpAny_mkText ?_);exact ZCe (s:=⟨hh,g,d,t+1,os⟩) I1.kIn J G (PySem.W.findObj_own G.hd n rfl (by rw[hl,hu])) (ZFE ru) ⟨v,H1,I1.tok _,ru,q⟩
theorem ZGO(ha:QE X E e t)(hcs:∀c∈cs,∀C,PySem.W.nsIn X.K xQ c=xF (xF (.ref C))->XGet X.K C/\NoAttr X.K C f)(hb:jI e f X.env (eval e X.env)=eval e X.env:=by rfl):
  QE X E (.Attribute e f pos) (dUn (gtx cs f) t):=
 (ZIA ha hb).mono λσ H Q h=>by
  obtain⟨a,S,G,hk,rfl,s,r,h⟩:=h;refine⟨a,S,G,hk,rfl,s,r,(Ci h).imp ?_⟩;rintro v _ ⟨b,d,G1,rfl,x,s1,q,-,h1⟩;unfold gtx at h1;split at h1
  ·rename_i i;split at h1
   ·rename_i c pf fs hi;split at h1
    ·rename_i hc;split at h1
     ·rename_i d' hd;obtain⟨C,us,n,hx,rf⟩:=s1.exc q hi;obtain⟨g1,g2⟩:=hcs c hc C (by rw[<-hk,<-x.k];exact n);obtain⟨u,eu,ru⟩:=rf.look hd;exact⟨C,us,u,hx,g1,g2,eu,h1 b u (Ext.refl b) s1 ru⟩
     ·exact h1.elim
    ·exact h1.elim
   ·exact h1.elim
  ·exact h1.elim
end
end _D
namespace _D
open PySem PySem.Spec PySem.W _L
open PyProof.Rows hiding St
variable{K:xC}{h:Heap}{mg:Str->Option jF}{G:DH}
theorem Mq{r:Option (Option jF)}{n:String}(h:isB r n=xH):r=xF (xF (.builtin n)):=by
 unfold isB at h;split at h
 ·rw[beq_iff_eq.mp h]
 ·cases h
theorem Jo{r:Option Bool}{b:Bool}(h:Aw r b=xH):r=xF b:=by
 unfold Aw at h;split at h
 ·rw[beq_iff_eq.mp h]
 ·cases h
theorem ZAe{α:Type}{r:Option (Option α)}(h:Nh r=xH):r=xF xG:=by
 unfold Nh at h;split at h
 ·rfl
 ·cases h
structure ET (K:xC) (mg:Str->Option jF) (c f:Str):Prop where
 N:nsIn K xQ c=xF (xF (.ref (Ac K c)))
 g:mg c=xF (.ref (Ac K c))
 k:keepIn K (.ref (Ac K c))=xH
 X:XSet K (Ac K c) f
 i:Ij K (Ac K c) (Bs K (Ac K c) "__init__")=xH
 o:∃o,K.lookup (Bs K (Ac K c) "__init__")=xF o/\o.cls=.type "function"
 G:XGet K (Ac K c)
 no:NoAttr K (Ac K c) f
theorem ZCv{a:j6}(h:Tg K a=xH):∃o,K.lookup a=xF o/\o.cls=.type "function":=by
 unfold Tg at h;split at h
 ·rename_i t _ _ _ e;exact⟨_,e,by rw[beq_iff_eq.mp h]⟩
 ·cases h
theorem ZEV{c f:Str}(X:K.In h)(G:h.Ns xQ mg)(s:Qe c f K=xH):ET K mg c f:=by simp only[Qe,zw]at s;obtain⟨⟨⟨⟨⟨⟨h1,h2⟩,⟨⟨⟨h3,h4⟩,h5⟩,h6⟩,h7⟩,h8⟩,h9⟩,⟨⟨⟨⟨⟨⟨g1,g2⟩,g3⟩,g4⟩,g5⟩,g6⟩,g7⟩,g8⟩,h10⟩:=s;exact⟨Hl h1,mg_of X G (Hl h1),h2,⟨h3,ZBS h4,h5,ZAe h6,h7⟩,h8,ZCv h9,⟨Mq g1,ZAe g2,Jo g3,h7,Mq g4,Mq g5,Jo g6,Jo g7,Jo g8,h3⟩,Wf h10⟩
theorem ZCu{r:Option CFound}{n:String}(h:Py r n=xH):r=xF (.val (.builtin n)):=by
 unfold Py at h;split at h
 ·rw[beq_iff_eq.mp h]
 ·cases h
theorem ZHG{x:Str}(X:K.In h)(G:h.Ns xQ mg)(s:Sv x K=xH):XBase K mg x (Ac K x):=by simp only[Sv,zw]at s;obtain⟨⟨⟨h1,h2⟩,h3⟩,h4⟩:=s;exact⟨mg_of X G (Hl h1),Mq h2,h3,ZCu h4⟩
theorem ZHK{x:Str}(X:K.In h)(G:h.Ns xQ mg)(s:gOk K x=xH):mg x=xF (.ref (Ac K x)):=mg_of X G (Hl s)
abbrev FnX(P:jB)(w:jG)(K:xC)(mg:Str->Option jF)(base:Heap)(k:Nat)(n:Str)(ps:List Str)(F:List D->DH->R D):Prop:=FnOk P w K mg base (CXx P w) k (Ac K n) (Av K (Ac K n)) ps (lFx K F)
theorem ZGV{X:Cx}:Passes (CXx X.prog X.w) X E0:=λxE σ H s e s' I h=>by obtain⟨_,_,_,_,_,_,_,_,_,_,_,_,_,z,_⟩:=h;exact z.elim
section
variable{X:Cx}{E:XK}{c x n f v:Str}{e a:j8}{es:List j8}{t:DE}{tr:DA}{p q pos cpos np:Pos}{b:Bool}{F:List D->DH->R D}{k j:Nat}{ps:List Str}{st:jE}
theorem ZAk(FF:FnX X.prog X.w X.K X.mg X.base k n ps F)(T:FT X.K X.mg n st ps)(hr:Room j X.A)(ha:QA X E0 (e::es) tr)(hj:Nat.ble k j=xH:=by rfl)(hg:Gl X n:=by rfl)(hdb:(n==("__debug__":Str))=xI:=by decide)(he:notStar e=xH:=by rfl)(hpl:es.all notStar=xH:=by rfl):
  QE X E0 (.Call (.Name n p) (e::es) [] pos) (dFn F tr):=Jx FF (hr.mono (qG hj)) hg T.m T.k T.b ZGV ha hdb he hpl
theorem ZIQ(FF:FnO X.prog X.w X.K X.mg X.base k n ps F)(T:FT X.K X.mg n st ps)(hr:Room j X.A)(ha:QA X E (e::es) tr)(hj:Nat.ble k j=xH:=by rfl)(hg:Gl X n:=by rfl)(hdb:(n==("__debug__":Str))=xI:=by decide)(he:notStar e=xH:=by rfl)(hpl:es.all notStar=xH:=by rfl):
  QE X E (.Call (.Name n p) (e::es) [] pos) (dFn (nerr F) tr):=ZIe FF (hr.mono (qG hj)) hg T.m T.k T.b ha hdb he hpl
theorem Yt{P:j6->Bool->Prop}(hn:nsIn K xQ c=xF (xF (.ref (Ac K c))))(h:P (Ac K c) b):∀c' b',[(c,b)].lookup c'=xF b'->∀C,nsIn K xQ c'=xF (xF (.ref C))->P C b':=by
 intro c' b' hl C hC;by_cases z:c'=c
 ·subst z;rw[hn]at hC;cases hC;simp only[jk,beq_self_eq_true]at hl;cases hl;exact h
 ·have:(c'==c)=xI:=by simpa using z
  simp only[jk,this]at hl;cases hl
theorem Dt{w:Str}(N:nsIn X.K xQ c=xF (xF (.ref (Ac X.K c))))(G:XGet X.K (Ac X.K c))(hm:X.mg "isinstance"=xG)(mw:X.mg w=xF (.ref (Ac X.K w)))(k:Aw (kitOne X.K (.ref (Ac X.K c)) (.ref (Ac X.K w))) b=xH)(ha:QE X E e t)(hg:Gl X "isinstance":=by rfl)(gw:Gl X w:=by rfl)(hd:(w==("__debug__":Str))=xI:=by decide)(he:notStar e=xH:=by rfl):
  QE X E (.Call (.Name "isinstance" p) [e,.Name w q] [] pos) (dUn (isx [(c,b)]) t):=
 Zc (cv:=.ref (Ac X.K w)) (cu:=.ref (Ac X.K w)) hg hm ha (ZAN gw mw rfl hd) (λu h=>h) (Yt N ⟨G,Jo k⟩) he rfl
theorem ZCX{w:Str}{T:String}(N:nsIn X.K xQ c=xF (xF (.ref (Ac X.K c))))(G:XGet X.K (Ac X.K c))(hm:X.mg "isinstance"=xG)(mw:X.mg w=xG)(hv:jO w=xF (.type T))(k:Aw (kitOne X.K (.ref (Ac X.K c)) (.type T)) b=xH)(ha:QE X E e t)(hg:Gl X "isinstance":=by rfl)(gw:Gl X w:=by rfl)(hn:w≠"__name__":=by decide)(hd:(w==("__debug__":Str))=xI:=by decide)(he:notStar e=xH:=by rfl):
  QE X E (.Call (.Name "isinstance" p) [e,.Name w q] [] pos) (dUn (isx [(c,b)]) t):=
 Zc (cv:=.ty T) (cu:=.type T) hg hm ha (ZAB gw mw hv rfl hn hd) (λu h=>h) (Yt N ⟨G,Jo k⟩) he rfl
theorem Zz(T:ET X.K X.mg c f)(ha:QE X E e t)(hb:jI e f X.env (eval e X.env)=eval e X.env:=by rfl):QE X E (.Attribute e f pos) (dUn (gtx [c] f) t):=
 ZGO ha (λc' hc C hC=>by cases List.mem_singleton.mp hc;rw[T.N]at hC;cases hC;exact⟨T.G,T.no⟩) hb
theorem ZEt(T:ET X.K X.mg c f)(FI:FnOk X.prog X.w X.K X.mg X.base CX0 k (Bs X.K (Ac X.K c) "__init__") (Av X.K (Bs X.K (Ac X.K c) "__init__")) ["self",v] (spI (Ac X.K c) f))(hb:Binds X.K (Av X.K (Bs X.K (Ac X.K c) "__init__")) ["self",v] [])(hr:Room j X.A)(ha:QA X E [a] tr)
  (hxe:∀e s,Fd X E e s->X.xe e s:=by exact λ_ _ h=>h) (hj:Nat.ble (k+1) j=xH:=by rfl) (hcalm:X.calm=xH:=by rfl) (hs:X.stack=X.env::X.outer:=by rfl) (hex:X.ex=[]:=by rfl) (hfr:X.env.frame=xF X.env.locals:=by rfl) (hg:Gl X c:=by rfl) (hdb:(c==("__debug__":Str))=xI:=by decide) (hst:notStar a=xH:=by rfl):
  QS X E (.Raise (xF (.Call (.Name c np) [a] [] cpos)) xG pos) (sRz c f tr):=
 ZG8 T.N hcalm hs hex hfr hxe T.X T.i T.o FI (hr.mono (qG hj)) hb hg T.g T.k ha hdb hst
theorem ZGI{i:Nat}{fp cp ep hp:Pos}{b₀:jE}{suite:List jE}{hb:DS}{w:Str}(N:nsIn X.K xQ c=xF (xF (.ref (Ac X.K c))))(hw:takes X.K (Ac X.K c) (Ac X.K w)=xH)(mw:X.mg w=xF (.ref (Ac X.K w)))(FF:FnX X.prog X.w X.K X.mg X.base k n ps F)(T:FT X.K X.mg n st ps)(hr:Room j X.A)
  (ha:QA X.nox E0 (a::es) tr) (hN:X.N.Nodup) (hh:∀ea,RoomH j (Hh X ea).A->QSs (Hh X ea) E0 (b₀::suite) hb) (hj:Nat.ble k j=xH:=by rfl) (hcalm:X.calm=xH:=by rfl) (hs:X.stack=X.env::X.outer:=by rfl) (hfr:X.env.frame=xF X.env.locals:=by rfl) (hg:Gl X n:=by rfl) (hgw:Gl X w:=by rfl) (hi:X.N[i]?=xF x:=by rfl) (hl:X.env.kindOf x=xF .local:=by rfl)
  (hdb:(n==("__debug__":Str))=xI:=by decide) (hdx:(w==("__debug__":Str))=xI:=by decide) (he:xW (a::es) X.env=(xI,eval a X.env)::xW es X.env:=by rfl) (hpl:(jL cp (xW es X.env)).any (·.1)=xI:=by rfl)
  (hsw:swapsWith (.Call (.Name n fp) (a::es) [] cp) xG ep.line X.env=pure xI:=by rfl):
  QS X E (.Try [.Expr (.Call (.Name n fp) (a::es) [] cp) ep] [.ExceptHandler (xF (.Name w np)) (xF x) (b₀::suite) hp] [] [] pos) (Hd [c] i F tr hb):=
 ZB1 hcalm hs hfr FF (hr.mono (qG hj)) T.b hg T.m T.k ha hgw mw hN hi hl (λc' hc C hC=>by cases List.mem_singleton.mp hc;rw[N]at hC;cases hC;exact hw) (λea=>hh ea (RoomH.held (.of hr))) hdb hdx he hpl hsw
end
noncomputable def SR.nr:SR->SR
 |.err _ _=>.bad
 |r=>r
def sNr(t:DS):DS:=λS G=>(t S G).nr
@[simp]theorem ev_sNr{t:DS}{S:DSt}:sNr t S G=(t S G).nr:=id rfl
@[simp]theorem nr_nx{S:DSt}:(SR.nx S G).nr=.nx S G:=id rfl
@[simp]theorem nr_rt{d:D}:(SR.rt d G).nr=.rt d G:=id rfl
theorem ZCT{E:XK}{t:DS}{W:Ends}{σ:St}{H:Hp}(h:lS K E (sNr t) W σ H):lS K E0 t W σ H:=by
 obtain⟨a,S,G,hk,rfl,sm,r,h⟩:=h;refine⟨a,S,G,hk,rfl,sm,r,?_⟩;unfold sNr at h
 revert h
 cases t S G with
 |err x G1=>exact λh=>h.elim
 |nx S1 G1=>exact λh=>h
 |bk S1 G1=>exact λh=>h
 |ct S1 G1=>exact λh=>h
 |rt d G1=>exact λh=>h
 |bad=>exact λh=>h
theorem O7{X:Cx}{E:XK}{s:jE}{t:DS}(h:QS X E0 s t):QS X E s (sNr t):=PS.mono h λ_ _ _ z=>ZCT z
end _D
namespace _D
open PySem PySem.Spec _L
open PyProof.Rows hiding St
section
variable{X:Cx}{E:XK}{xE:List (j6×Obj)}{σ:St}{s:jD}
end
end _D
namespace _D
open PySem PySem.W PySem.Spec _L
open PyProof.Rows hiding St
section
variable{X:Cx}{E:XK}{x:Str}{p pos:Pos}{e:j8}{es:List j8}{tr:DA}
end
section
variable{X:Cx}{E:XK}{n:Str}{e:j8}{es:List j8}{tr:DA}{p pos:Pos}{F:List D->DH->R D}{k j:Nat}{ps:List Str}{st:jE}{v:Int}
end
section
variable{X:Cx}{E:XK}{c x n f v:Str}{e a:j8}{es:List j8}{t:DE}{tr:DA}{p q pos cpos np:Pos}{b:Bool}{F:List D->DH->R D}{k j:Nat}{ps:List Str}{st:jE}
end
end _D
namespace _D
open PySem PySem.Spec _L
open PyProof.Rows hiding St
section
variable{X:Cx}{f:j6}{fn:Str}{fp cp ep pos:Pos}{a e:j8}{es:List j8}{t:DA}{te:DE}{F:List D->DH->R D}{k:Nat}{fd:j9}{ps:List Str}
end
section
variable{X:Cx}{W:j6}{x n:Str}{np hp pos:Pos}{i:Nat}{b₀:jE}{suite:List jE}{hb:DS}{ws ns:List Str}{hs:List ExceptHandler}{f:DHn}
end
section
variable{X:Cx}{W:j6}{x:Str}{np hp pos:Pos}{b₀:jE}{suite:List jE}{hb:DS}{ws ns:List Str}{hs:List ExceptHandler}{f:DHn}
end
end _D
namespace _D
open PySem PySem.Spec PySem.W _L
open PyProof.Rows hiding St
section
variable{X:Cx}{C:j6}{x:Str}{np cpos pos:Pos}{a:j8}{ta:TA}{E:XK}
end
section
variable{X:Cx}{E:XK}{c x n f v w:Str}{e a:j8}{es:List j8}{t:DE}{tr:DA}{p q pos cpos np fp cp ep hp:Pos}{b:Bool}{F:List D->DH->R D}{k j:Nat}{ps:List Str}{st:jE}
end
section
variable{X:Cx}{n y:Str}{e e2:j8}{es:List j8}{tr:DA}{tu:DE}{p pos kp:Pos}{F:List D->DH->R D}{k j:Nat}{ps:List Str}{st:jE}{v:Int}
end
section
variable{prog:jB}{w:jG}{A:j7}{E:jF->jD->Prop}{s:jD}
end
section
variable{X:Cx}{E:XK}
end
section
variable{X:Cx}{E:XK}
end
section
variable{X:Cx}{E:XK}
end
end _D
namespace _D
open PySem PySem.Spec _L
open PyProof.Rows hiding St
noncomputable def tgN:j8->List Str
 |.Name x _=>[x]
 |.Tuple es _ _=>es.flatMap λe=>match e with
  |.Name x _=>[x]
  |_=>[]
 |_=>[]
def Fq(tg:j8)(caps:List Nat)(N:List Str):List Str:=tgN tg++caps.map λj=>N.getD j ""
section
variable{X:Cx}{scope:jC}{nt:Nat}{caps:List Nat}{tg elt iter:j8}{ifs:List j8}{pos:Pos}{it:DI}{g:DG}{c:DB}{te:DE}
theorem ZHk(hi:QI X E0 tg iter it)(hg:∀C s₀ H₀ ex,(Fq tg caps X.N).Nodup->QG (blk X (Fq tg caps X.N) scope C s₀ H₀ ex) E0 tg g)(gk:GK nt g)(hts:∀C s₀ H₀ ex,QTs (blk X (Fq tg caps X.N) scope C s₀ H₀ ex) E0 ifs c)
  (he:∀C s₀ H₀ ex,QE (blk X (Fq tg caps X.N) scope C s₀ H₀ ex) E0 elt te) (hc:X.calm=xH:=by rfl) (hk:scope.kind=.function:=by rfl) (hdn:∀x,X.env.kindOf x=X.env.scope.names.lookup x:=by intro _;rfl)
  (h:Nf X.env.scope.names X.N (Fq tg caps X.N) scope.names nt caps=xH:=by kernel_rfl) (hs:∀x,foldedSetIterable iter X.env x=pure x:=by intro _;rfl):QE X E0 (.ListComp elt [⟨tg,iter,ifs,0⟩] scope pos) (Ih it nt caps g c te):=
 have cs:=Q4 hk hdn rfl h
 Xe hc cs hi (λC s₀ H₀ ex=>hg C s₀ H₀ ex cs.nd) gk hts he hs
end
theorem bnd1{p:List jF->Prop}(h:∀a,p [a]):∀us:List jF,us.length=1->p us
 |[a],_=>h a
theorem bnd2{p:List jF->Prop}(h:∀a b,p [a,b]):∀us:List jF,us.length=2->p us
 |[a,b],_=>h a b
theorem bnd3{p:List jF->Prop}(h:∀a b c,p [a,b,c]):∀us:List jF,us.length=3->p us
 |[a,b,c],_=>h a b c
theorem fsc{N P:List Str}{sc:jC}(a:sc.kind=.function:=by rfl)(b:sc.isCoroutine=xI:=by rfl)(c:sc.isGenerator=xI:=by rfl)(d:N.Nodup:=by decide +kernel)(e:N.take P.length=P:=by rfl)
  (f:∀x∈P,sc.names.lookup x=xF .local∨sc.names.lookup x=xF .cell:=by decide +kernel) (g:∀y∈sc.names,y.2≠ .free:=by decide +kernel):FnScope N P sc:=⟨a,b,c,d,e,f,g⟩
end _D
namespace _D
open PySem PySem.W _L
theorem ZCZ{X:Cx}{E:XK}{x:Str}{n:Int}{t:Tok}{pos:Pos}(hg:Gl X x)(hm:X.mg x=xF (.int n t))(hd:(x==("__debug__":Str))=xI:=by decide):QE X E (.Name x pos) (dC (.int n)):=
 Ur (v:=.int n) hg hm ⟨_,rfl⟩ (λ_ _=>rfl) hd
theorem ZFn{X:Cx}{E:XK}{x:Str}{n:Str}{t:Tok}{pos:Pos}(hg:Gl X x)(hm:X.mg x=xF (.str n t))(hd:(x==("__debug__":Str))=xI:=by decide):QE X E (.Name x pos) (dC (.str n)):=
 Ur (v:=.str n) hg hm ⟨_,rfl⟩ (λ_ _=>rfl) hd
section
open Lean
def wA(s:String):Syntax:=.atom .none s
def wL(l:List Syntax):Syntax:=.node .none `null l.toArray
def wN(k:String)(l:List Syntax):Syntax:=.node .none ("Lean.Parser."++k).toName l.toArray
def wX(l:List Syntax):Syntax:=wN "Tactic.tacticSeq" [wN "Tactic.tacticSeq1Indented" [wL l]]
def wP(l:List Syntax):Syntax:=wN "Tactic.paren" [wA "(",wX l,wA ")"]
def wI(s:String):Syntax:=(mkIdent s.toName).raw
def wH:Syntax:=wN "Term.syntheticHole" [wA "?",wA "_"]
def wU(l:List String):Syntax:=wN "Term.fun" [wA "fun",wN "Term.basicFun" [wL (l.map wI),wL [],wA "=>",wH]]
def wY(l:List Syntax):Syntax:=match l.reverse with
 |x::y::r=>wN "Term.app" [x,wL (y::r)]
 |[x]=>x
 |_=>.missing
def wT(s:String):Syntax:=wY ((((s.replace "(" "( ").replace ")" " )").splitOn " ").foldl (λst w=>match st with
 | a::r=>
  if w="" then st else if w="(" then[]::st else if w=")" then(match r with
   |b::q=>(wY a::b)::q
   |_=>st)
  else((if w="_" then wN "Term.hole" [wA w]else if w="?" then wH else if w="." then wN "Term.ellipsis" [wA ".."]
   else if w="L" then wU ["C","s","H","e","nd"]else if w="l" then wU ["C","s","H","e"]
   else if w="d" then wN "Term.byTactic" [wA "by",wX [wN "Tactic.decide" [wA "decide",wN "Tactic.optConfig" [wL []]]]]
   else if w.isNat then(Syntax.mkNumLit w).raw else wI w)::a)::r
 |_=>st) [[]]).head!
def wF(l:List Syntax):Syntax:=wN "Tactic.first" [wA "first",wL (l.map λx=>.node .none `group #[wA "|",wX [x]])]
def wJ(a b:Syntax):Syntax:=wN "Tactic.«tactic_<;>_»" [a,wA "<;>",b]
def wG(k:String)(t:Syntax)(r:Syntax):Syntax:=wP [wN "Tactic.guardTarget" [wA "guard_target",wN "equal" [wN k [wA "="]],t],wA ";",r]
def wV:Syntax:=wN "Tactic.tacticTrivial" [wA "trivial"]
def wB(s:String):Syntax:=
 let t:=wT (s.drop 1).toString;let f:=λk=>wN ("Tactic."++k) [wA k,t]
 let c:=s.front
 if c='@' then f "apply" else if c='!' then wN "Tactic.withReducible" [wA "with_reducible",wX [f "exact"]]
 else if c='=' then wP [wJ (f "refine") (wN "Tactic.tacticRfl" [wA "rfl"])]else if c='<' then wP [wJ (f "refine'") wV]else if c='.' then f "exact" else f "refine'"
def wC(s:String):Syntax:=wF ((s.splitOn ",").map wB)
def wR(s:String):Syntax:=wF ((s.splitOn "#").map λg=>match g.splitOn "|" with
 | h::r=>
  let b:=wF (r.map λa=>match a.splitOn ":" with
   |[a,x]=>wG "equalD" (wT (h++" "++a)) (wC x)
   |_=>wC a)
  if h.front='=' then wG "equalR" (wT (h.drop 1).toString) b else if h.front='*' then b else wG "equalD" (wT (h++" _ _")) (wJ (wP [b]) wV)
 |_=>.missing)
end
end _D
namespace _D
open PySem PySem.Spec _L
open PyProof.Rows hiding St
variable{h B:Heap}{cls fl:jF}{od:Option j6}{l:List Env}{C:j6}
theorem ZFw{e:jF}{env env':Env}(h:env'.frame=env.frame):noteFrame e env'=noteFrame e env:=by unfold noteFrame PySem.frameOf;rw[h]
theorem ZAt{B':Heap}(z:∀b,B.get? b=xG->B'.get? b=xG):∀{l:List Env},h.FunFrames B l->h.FunFrames B' l
 |[],_=>trivial
 |env::r,⟨hk,⟨L,o,hf,hn,ho,hd⟩,hr⟩=>⟨hk,⟨L,o,hf,z L hn,ho,hd⟩,ZAt z hr⟩
section
variable{M:Model}{A:j7}{E:jF->jD->Prop}{s:jD}{B:Heap}{env:Env}{outer:List Env}{L e:j6}{oe:Obj}{vs:Array jF}{head:jF}{hn:Bool}{Q:Unit->jD->Prop}
theorem ZAs(fr:A.frames=xF (env::outer))(hl:s.heap.FunFrames B (env::outer))(hf:env.frame=xF L)(ht:Trc s.heap B e cls od fl)(hk:B.StaysIn s.heap)(hb:B.get? e=xG)
  (q:∀h',Noted B (env::outer) e cls od (xJ L) s.heap h'->Q () {s with heap:=h'}):xY M A (noteFrame (.ref e) env) Q E s:=by
 obtain⟨oe,vs,T,oT,ts,he,⟨rfl,rfl⟩,hd,h1,⟨nT,nTe⟩,hT,dT,h3⟩:=ht;unfold noteFrame;simp only[hf];refine xz (xj he hd h1 ?_)
 rw[if_pos (show(Value.ref T != Value.none)=xH from by simp)]
 refine xz (xj hT dT h3 ?_);by_cases hfl:(fl==xJ L)=xH
 ·rw[if_pos hfl];have hfl':fl=xJ L:=eq_of_beq hfl;subst hfl';exact xA (q s.heap ⟨hk,hl,⟨oe,vs,T,oT,ts,he,⟨rfl,rfl⟩,hd,h1,⟨nT,nTe⟩,hT,dT,h3⟩,λb o hb _=>⟨o.slots,hb⟩,λb o hb=>⟨o,hb⟩⟩)
 rw[if_neg hfl];refine xz (wpAny_setField hT dT (z0.mp h3).1 ?_)
 have oth:∀b,b≠T->(s.heap.update T (Obj.mapFields (·.setIfInBounds 3 Value.none))).get? b=s.heap.get? b:=λb n=>zN _ _ (Ne.symm n)
 have nf:∀b o,s.heap.get? b=xF o->(∀vs,o.data≠ .fields vs)->b≠T:=λb o hb' n z=>by rw[z,hT]at hb';cases hb';exact n ts dT
 refine Sg fr (hl.of_keeps λb o hb' n=>⟨o,(oth b (nf b o hb' n)).trans hb',rfl⟩) hf ((oth e (Ne.symm nTe)).trans he)
  (λb o hbo=>(oth b λz=>by rw[z,nT]at hbo;cases hbo).trans (hk b o hbo)) hb hd (z0.mp h1).1
  λh' n=>q h' ⟨n.st,n.fr,n.tr,λb o hb' nn=>n.up b o ((oth b (nf b o hb' nn)).trans hb') nn,λb o hb'=>?_⟩
 by_cases z:b=T
 ·subst z;exact n.th b _ (qZ _ hT (Obj.isFreed_of_fields (Obj.data_mapFields dT _)))
 ·exact n.th b o ((oth b z).trans hb')
theorem ZDg(fo:Option j6)(hl:s.heap.FunFrames B l)(ht:Trc s.heap B e cls od fl)(hk:B.StaysIn s.heap)
  (q:∀h',Noted B l e cls od (fo.elim Value.none λf=>xJ f) s.heap h'->Q () {s with heap:=h'}):xY M A (setFlight (.ref e) fo) Q E s:=by
 obtain⟨oe,vs,T,oT,ts,he,⟨rfl,rfl⟩,hd,h1,⟨nT,nTe⟩,hT,dT,h3⟩:=ht;unfold setFlight;refine xz (xj he hd h1 ?_)
 rw[if_pos (show(Value.ref T != Value.none)=xH from by simp)]
 refine wpAny_setField hT dT (z0.mp h3).1 (q _ ?_)
 have oth:∀b,b≠T->(s.heap.update T (Obj.mapFields (·.setIfInBounds 3 (fo.elim Value.none λf=>xJ f)))).get? b=s.heap.get? b:=λb n=>zN _ _ (Ne.symm n)
 have nf:∀b o,s.heap.get? b=xF o->(∀vs,o.data≠ .fields vs)->b≠T:=λb o hb' n z=>by rw[z,hT]at hb';cases hb';exact n ts dT
 have dT':=Obj.data_mapFields dT (·.setIfInBounds 3 (fo.elim Value.none λf=>xJ f))
 have hT':=qZ (Obj.mapFields (·.setIfInBounds 3 (fo.elim Value.none λf=>xJ f))) hT (Obj.isFreed_of_fields dT')
 have z3:=(z0.mp h3).1;refine⟨λb o hbo=>(oth b λz=>by rw[z,nT]at hbo;cases hbo).trans (hk b o hbo),hl.of_keeps λb o hb' n=>⟨o,(oth b (nf b o hb' n)).trans hb',rfl⟩,
  ⟨oe,vs,T,_,_,(oth e (Ne.symm nTe)).trans he,⟨rfl,rfl⟩,hd,h1,⟨nT,nTe⟩,hT',dT',by simp[z3]⟩,λb o hb' n=>⟨o.slots,(oth b (nf b o hb' n)).trans hb'⟩,λb o hb'=>?_⟩
 by_cases z:b=T
 ·subst z;exact⟨_,hT'⟩
 ·exact⟨o,(oth b z).trans hb'⟩
theorem ZE0{α:Type}{w:String}{cenv:Env}{Q:α->jD->Prop}(hl:s.heap.FunFrames B l)(ht:Trc s.heap B e cls od fl)(hk:B.StaysIn s.heap)
  (q:∀h' fl',Noted B l e cls od fl' s.heap h'->E (.ref e) {s with heap:=h'}):xY M A (PySem.passOn w (.ref e) cenv:Sem α) Q E s:=by
 obtain⟨oe,vs,T,oT,ts,he,⟨hc,hod⟩,hd,h1,hh⟩:=id ht;unfold PySem.passOn;refine xz (xj he hd h1 ?_)
 rw[if_neg (show¬(Value.ref T==Value.none)=xH from by simp)]
 exact xz (ZDg cenv.frame hl ht hk λh' n=>wpAny_throw (q h' _ n))
end
structure NotedC (C:j6) (B:Heap) (l:List Env) (e:j6) (cls:jF) (od:Option j6) (fl:jF) (h h':Heap):Prop where
 st:B.StaysIn h'
 fr:h'.FunFrames B l
 tr:Trc h' B e cls od fl
 up:∀b o,b≠C->h.get? b=xF o->(∀vs,o.data≠ .fields vs)->∃sl,h'.get? b=xF {o with slots:=sl}
 th:∀b o,b≠C->h.get? b=xF o->∃o',h'.get? b=xF o'
theorem Noted.c{e:j6}{h':Heap}(n:Noted B l e cls od fl h h'):NotedC C B l e cls od fl h h':=⟨n.st,n.fr,n.tr,λb o _=>n.up b o,λb o _=>n.th b o⟩
theorem NotedC.trans{e:j6}{f1 f2:jF}{h1 h2 h3:Heap}(x:NotedC C B l e cls od f1 h1 h2)(y:NotedC C B l e cls od f2 h2 h3):NotedC C B l e cls od f2 h1 h3:=
 ⟨y.st,y.fr,y.tr,λb o hc hb n=>by
  obtain⟨sl,k⟩:=x.up b o hc hb n;obtain⟨sl',k'⟩:=y.up b _ hc k n;exact⟨sl',k'⟩,λb o hc hb=>by
  obtain⟨o',k⟩:=x.th b o hc hb;exact y.th b o' hc k⟩
theorem NotedC.but{e:j6}{h':Heap}(st:B.StaysIn h)(fr:h.FunFrames B l)(tr:Trc h B e cls od fl)(hC:B.get? C=xG)(hf:C∉frs l)(nf:∃o,h.get? C=xF o/\∀vs,o.data≠ .fields vs)(z:jY C h h'):NotedC C B l e cls od fl h h':=by
 obtain⟨oC,hoC,dC'⟩:=nf;refine⟨λb o q=>?_,U5 fr λb hb o ho=>⟨o.slots,?_⟩,?_,λb o hc hb _=>⟨o.slots,(z.2 b hc).trans hb⟩,λb o hc hb=>⟨o,(z.2 b hc).trans hb⟩⟩
 ·refine(z.2 b λq'=>?_).trans (st b o q);rw[q',hC]at q;cases q
 ·exact(z.2 b λq=>hf (q▸hb)).trans ho
 ·obtain⟨oe,vs,T,oT,ts,he,hcd,hd,h1,⟨nT,nTe⟩,hT,dT,h3⟩:=tr;refine⟨oe,vs,T,oT,ts,(z.2 e λq=>?_).trans he,hcd,hd,h1,⟨nT,nTe⟩,(z.2 T λq=>?_).trans hT,dT,h3⟩
  ·rw[q,hoC]at he;cases he;exact dC' _ hd
  ·rw[q,hoC]at hT;cases hT;exact dC' _ dT
section
variable{X:Cx}{xE:List (j6×Obj)}{σ:St}{H H':Hp}{s s':jD}{B h'':Heap}{ea C:j6}{cls:jF}{od:Option j6}{E:XK}
theorem ZG3(I:Inv X xE σ H s)(hs:X.stack=X.env::X.outer)(hex:X.ex=[])(hfr:X.env.frame=xF X.env.locals)(os:s'.os=s.os)(bare:AllBare s'.gens)(un:Un (frs X.stack) [] H H' s.heap s'.heap)(hok:HOk X.prog X.w H' s'.heap)
  (bb:∀b o,s.heap.get? b=xF o->H b=xG->b∉frs X.stack->b≠C->B.get? b=xF o) (al:∀b,H' b≠xG->∃o,B.get? b=xF o) (eb:B.get? ea=xG) (st:B.StaysIn s'.heap) (new:s.heap.get? ea=xG) (hC0:X.s₀.heap.get? C=xG) (hCf:C∉frs X.stack)
  (n:NotedC C B X.stack ea cls od .none s'.heap h'') (hE:E cls od H') (hc:∃C,cls=.ref C):CXx X.prog X.w X.outer X.H₀ X.s₀ E (.ref ea) {s' with heap:=h''}:=by
 have base:=I.base;rw[hex]at base;have fe:frs X.stack=X.env.locals::frs X.outer:=by rw[hs];unfold frs;rw[qw,hfr]
 have old:∀{b:j6}{o:Obj},X.s₀.heap.get? b=xF o->b≠C:=λq z=>by rw[z,hC0]at q;cases q
 have bb':∀b o,X.s₀.heap.get? b=xF o->X.H₀ b=xG->b∉frs X.outer->B.get? b=xF o:=λb o q hn hb=>by
  refine bb b o (base.keep b o q hn hb (by simp)) (base.free b o q hn (by simp)) ?_ (old q);rw[fe];intro hm;rcases zv.mp hm with z|z
  ·exact absurd (zZ (zX q) I.ok.above) (by rw[z];exact zA _)
  ·exact hb z
 have frO:h''.FunFrames B X.outer:=by have:=n.fr;rw[hs]at this;exact this.2.2
 refine⟨ea,cls,od,H',B,rfl,os.trans I.os,bare,⟨λb o q hn hb _=>n.st b o (bb' b o q hn hb),λb o q hn hb _=>?_,λb o q hn hx=>?_,λb o q hx=>?_,λb xs q=>un.tups b xs (base.tups b xs q),λb o u q=>un.frzs b o u (base.frzs b o u q),λb ps q=>?_⟩,Pj hok al st n.st,⟨n.st,frO,n.tr,eb,al⟩,bb',?_,hE,hc⟩
 ·obtain⟨sl,k⟩:=base.slot b o q hn hb (by simp);have hm:b∈frs X.stack:=by rw[fe];exact zW _ hb
  obtain⟨sl',k'⟩:=un.slot b _ k (base.free b o q hn (by simp)) hm (by simp);obtain⟨_,o2,k2,nf⟩:=I.stack.mem hm;rw[k]at k2;cases k2;obtain⟨sl'',k3⟩:=n.up b _ (old q) k' nf;exact⟨sl'',k3⟩
 ·obtain⟨o1,k1⟩:=base.there b o q hx;exact un.free b o1 k1 (base.free b o q hn hx) hx
 ·obtain⟨o1,k1⟩:=base.there b o q hx;obtain⟨o2,k2⟩:=un.there b o1 k1 hx;exact n.th b o2 (old q) k2
 ·obtain⟨m1,k1⟩:=base.tbls b ps q;obtain⟨m2,k2⟩:=un.tbls b _ k1;exact⟨m1++m2,by rw[k2,Array.append_assoc]⟩
 ·cases q:X.s₀.heap.get? ea with
  |none=>rfl
  |some o=>
   obtain⟨o1,k1⟩:=base.there ea o q (by simp);rw[new]at k1;cases k1
theorem ZCW{benv:Env}{EE:jF->jD->Prop}(hs:X.stack=X.env::X.outer)(hex:X.ex=[])(hfr:X.env.frame=xF X.env.locals)(hbf:benv.frame=X.env.frame)(I:Inv X xE σ H s)(hC:∃m,s.heap.Ns C m)(hCn:H C=xG)(hC0:X.s₀.heap.get? C=xG)(hCf:C∉frs X.stack)
  {e:jF} (h:CXx X.prog X.w X.stack H s E e s'):
  xY (xZ X.prog X.w) X.A (noteFrame e benv) (λ_ s₂=>∃m,s₂.heap.Ns C m/\∀h',jY C s₂.heap h'->∀cenv:Env,cenv.locals=C->xY (xZ X.prog X.w) X.A (PySem.passOn "comprehension.variables-let-go" e cenv:Sem jF) (λ_ _=>False) (Fd X E) {s₂ with heap:=h'}) EE s':=by
 obtain⟨ea,cls,od,H',B0,rfl,os,bare,un,hok,fly,bb,new,hE,hc⟩:=h;obtain⟨m,oC,es,ep,hoC,hdC,hks,hm⟩:=hC;have dC':∀vs,oC.data≠ .fields vs:=λvs z=>by rw[hdC]at z;cases z
 have bC:B0.get? C=xF oC:=bb C oC hoC hCn hCf;have hC':s'.heap.get? C=xF oC:=fly.st C oC bC;have H'C:H' C=xG:=un.free C oC hoC hCn (by simp);obtain⟨B,hB⟩:∃B,B=PySem.W.hideAll B0 [C]:=⟨_,rfl⟩;have z:∀b,B0.get? b=xG->B.get? b=xG:=λb q=>by
  cases q':B.get? b with
  |none=>rfl
  |some o=>rw[hB]at q';rw[PySem.W.of_hideAll _ q']at q;cases q
 have hBC:B.get? C=xG:=by rw[hB];exact PySem.W.hideAll_none _ zU
 have st:B.StaysIn s'.heap:=λb o q=>fly.st b o (by rw[hB]at q;exact PySem.W.of_hideAll _ q)
 have tr:Trc s'.heap B ea cls od .none:=by obtain⟨oe,vs,T,oT,ts,he,hcd,hd,h1,⟨nT,nTe⟩,r⟩:=fly.tr;exact⟨oe,vs,T,oT,ts,he,hcd,hd,h1,⟨z T nT,nTe⟩,r⟩
 have fr:s'.heap.FunFrames B X.stack:=ZAt z fly.fr;have al:∀b,H' b≠xG->∃o,B.get? b=xF o:=λb hb=>by
  obtain⟨o,k⟩:=fly.al b hb;rw[hB];refine⟨o,PySem.W.hideAll_get _ k λq=>?_⟩;have q':b=C:=by simpa using q
  rw[q',H'C]at hb;exact hb rfl
 have bb':∀b o,s.heap.get? b=xF o->H b=xG->b∉frs X.stack->b≠C->B.get? b=xF o:=λb o q hn hb hbC=>by rw[hB];exact PySem.W.hideAll_get _ (bb b o q hn hb) (by simpa using hbC)
 rw[ZFw hbf];refine ZAs (B:=B) (outer:=X.outer) (by rw[I.ok.frames,hs]) (by rw[<-hs];exact fr) hfr tr st (z ea fly.eb) λh1 n1=>?_
 rw[<-hs]at n1;have hC1:∃sl,h1.get? C=xF {oC with slots:=sl}:=n1.up C oC hC' dC';obtain⟨sl,hC1⟩:=hC1;refine⟨m,⟨_,es,ep,hC1,hdC,hks,hm⟩,λh2 hsb cenv _=>?_⟩;have n2:NotedC C B X.stack ea cls od (xJ X.env.locals) h1 h2:=NotedC.but n1.st n1.fr n1.tr hBC hCf ⟨_,hC1,dC'⟩ hsb;refine ZE0 (B:=B) (l:=X.stack) n2.fr n2.tr n2.st λh3 fl3 n3=>?_
 unfold Fd leaving;refine xz (ZAs (B:=B) (outer:=X.outer) (by rw[I.ok.frames,hs]) (by rw[<-hs];exact n3.fr) hfr n3.tr n3.st (z ea fly.eb) λh4 n4=>?_);rw[<-hs]at n4;refine O6 n4.fr n4.tr n4.st λh5 n5=>?_
 exact ZG3 (C:=C) (s':=s') I hs hex hfr os bare un hok bb' al (z ea fly.eb) st new hC0 hCf (((n1.c.trans n2).trans n3.c).trans (n4.c.trans n5.c)) hE hc
end
def xeB(X:Cx)(E:XK)(N:List Str)(scope:jC)(C:j6)(s₀:jD)(H₀:Hp)(ex:List j6):jF->jD->Prop:=λe s'=>∃(xE:List (j6×Obj))(σ:St)(H:Hp)(s:jD),Inv (blk X N scope C s₀ H₀ ex) xE σ H s/\CXx X.prog X.w X.stack H s E e s'
noncomputable abbrev Ey(X:Cx)(E:XK)(N:List Str)(scope:jC)(C:j6)(s₀:jD)(H₀:Hp)(ex:List j6):Cx:=(blk X N scope C s₀ H₀ ex).wish (xeB X E N scope C s₀ H₀ ex)
theorem Vh{X:Cx}{E:XK}{N:List Str}{scope:jC}{s₀:jD}{H₀:Hp}{ex:List j6}:Passes (CXx X.prog X.w) (Ey X E N scope C s₀ H₀ ex) E:=λxE σ H s e s' I h=>⟨xE,σ,H,s,I.unwish,h⟩
def Ky(it:DI)(nt:Nat)(caps:List Nat)(g:DG)(c:DB)(te:DE):DE:=λS G=>(it S G).bind λJ G1=>match J with
 |.pure xs=>if xs.length<=1000000 then(Bj g c te (Ar nt caps S) xs G1).bind Ah else .bad
 |_=>.bad
section
variable{prog:jB}{w:jG}{A:j7}{R':Result->jD->Prop}{s:jD}
def CItemX(prog:jB)(w:jG)(A:j7)(target elt:j8)(ifs:List j8)(acc:jF)(env:Env)(xb:jF->jD->Prop)(P:jD->Prop)(v:jF)(s:jD):Prop:=
 xY (xZ prog w) A (assign target env v) (λ_ s₂=>
  xY (xZ prog w) A (forIn ifs xH λc r=>if r=xH then do let ok<-isTrue c env (eval c env);pure (ForInStep.yield ok)else pure (ForInStep.yield r)) (λok s₃=>
   if ok=xH then xY (xZ prog w) A (eval elt env) (λx s₄=>xY (xZ prog w) A (call (.builtin "list.append") [acc,x]) (λ_ s₅=>P s₅) xb s₄) xb s₃
   else P s₃) xb s₂) xb s
def CTurnX(prog:jB)(w:jG)(A:j7)(target elt:j8)(ifs:List j8)(it acc:jF)(env:Env)(xb:jF->jD->Prop)(R' P:jD->Prop)(s:jD):Prop:=
 xY (xZ prog w) A (pyNext it) (λr s₁=>match r with
  |none=>R' s₁
  |some v=>xY (xZ prog w) A (jU target it v) (λ_ s₁=>CItemX prog w A target elt ifs acc env xb P v s₁) xb s₁) xb s
theorem ZEJ{elt target iter:j8}{ifs:List j8}{scope:jC}{pos:Pos}{it acc:jF}{env:Env}{xb:jF->jD->Prop}(I:Nat->jD->Prop)
  (turn:∀n s,I n s->CTurnX prog w A target elt ifs it acc env xb (R' (.ok .next)) (λs'=>∃m,m<n/\I m s') s)
  (hx:∀x s',xb x s'->xY (xZ prog w) A (noteFrame x env) (λ_ s₂=>R' (.error x) s₂) (λe s₂=>R' (.error e) s₂) s') (n:Nat) (h:I n s):
  codeAny (xZ prog w) A (.compLoop (.ListComp elt [⟨target,iter,ifs,0⟩] scope pos) 0 it acc env) R' s:=by
 refine codeAny_loop rfl I (λn s hI=>?_) n h
 show xY _ A ((compTurn (.ListComp elt [⟨target,iter,ifs,0⟩] scope pos) 0 it acc env).onRaise (λx=>do noteFrame x env;theTreesLotGoes x)) _ _ s
 refine wpAny_noted ?_;rw[compTurn_list];refine xy ?_ (λ_ _ q=>q) (λx s' h'=>hx x s' h');refine xz (wpAny_standAt (xz (xy (turn n s hI) (λr s₁ h₁=>?_) λ_ _ h'=>h')));cases r with
 |none=>exact xA h₁
 | some v=>
  refine xz (xy h₁ (λ_ s₂' h₁=>?_) λ_ _ h'=>h');refine xz (xy h₁ (λ_ s₂ h₂=>xz (xy h₂ (λok s₃ h₃=>?_) λ_ _ h'=>h')) λ_ _ h'=>h');cases ok with
  |false=>exact xA ⟨rfl,h₃⟩
  |true=>
   exact xz (xz (xy h₃ (λx s₄ h₄=>xz (xy h₄ (λ_ s₅ h₅=>xA (xA ⟨rfl,h₅⟩)) λ_ _ h'=>h')) λ_ _ h'=>h'))
end
section
variable{X:Cx}{E:XK}{N:List Str}{scope:jC}{nt:Nat}{caps:List Nat}{tg elt iter:j8}{ifs:List j8}{pos:Pos}{it:DI}{g:DG}{c:DB}{te:DE}
theorem ZEm(hc:X.calm=xH)(hst:X.stack=X.env::X.outer)(hex:X.ex=[])(hfr:X.env.frame=xF X.env.locals)(cs:CompSc X N scope nt caps)
  (hg:∀C s₀ H₀ ex,QG (Ey X E N scope C s₀ H₀ ex) E tg g) (gk:GK nt g) (hts:∀C s₀ H₀ ex,QTs (Ey X E N scope C s₀ H₀ ex) E ifs c) (he:∀C s₀ H₀ ex,QE (Ey X E N scope C s₀ H₀ ex) E elt te)
  {xE:List (j6×Obj)} {σ:St} {s:jD} {a:Wd} {S:DSt} {G:DH} {J:It} {n0:Nat} {f:Nat->DH->Option (Option D)} {i0:j6} {fp:List j6} {tn:Nat->Heap->Prop} (I:Inv X xE σ a.H s) (hk:a.K=X.K) (sm:Sim a G) (rS:RepS a S σ)
  (T:Turn X.prog X.w X.K tg J fp i0 tn) (t0:tn 0 s.heap) (hf:∀b∈fp,FpOk X xE a.H b) (rJ:RepI a (.fn n0 f) J) {Q:VK}
  (hn0:n0<=1000000) (h:out E a ((Bu f g c te (Ar nt caps S) n0 0 G).bind Ah) Q)
  {RR:jF->j6->Result->jD->Prop} {E':jF->jD->Prop}
  (hRR:∀(D C:j6)(s':jD)(b:Wd)(vs:List V),Inv X xE σ (upd b.H D (.lst vs)) s'->b.H D=xG->s.heap.objs.size<=C->D≠C->(∃m,s'.heap.Ns C m)->b.H C=xG->Q (.ref D) (upd b.H D (.lst vs))->RR (.ref D) C (.ok .next) s')
  (hRX:∀(D C:j6)(e:jF)(s₂:jD),(∃m,s₂.heap.Ns C m/\∀h',jY C s₂.heap h'->∀cenv:Env,cenv.locals=C->xY (xZ X.prog X.w) X.A (PySem.passOn "comprehension.variables-let-go" e cenv:Sem jF) (λ_ _=>False) (Fd X E) {s₂ with heap:=h'})->RR (.ref D) C (.error e) s₂):
  xY (xZ X.prog X.w) X.A (newList []) (λacc s₃=>xY (xZ X.prog X.w) X.A (newFunctionEnv scope X.env.globals (Bx X.env scope.names []) [] X.env.qual xG .none (xF X.env)) (λcenv s₄=>
   codeAny (xZ X.prog X.w) X.A (.compStart (.ListComp elt [⟨tg,iter,ifs,0⟩] scope pos) 0 (.ref i0) acc {cenv with scope:=relabel scope X.env}) (RR acc cenv.locals) s₄) E' s₃) E' s:=by
 refine x0 (wpAny_newFunctionEnv cs.nocell (by intro y hy;simp at hy) (λh₁ hns₁ hsb₁=>?_) cs.kind);dsimp only at hns₁ hsb₁⊢;generalize hH2:s.heap.push {cls:=.type "list",dict:=xG,data:=.seq ([]:List jF).toArray}=H2 at hns₁ hsb₁⊢;have hC:H2.objs.size=s.heap.objs.size+1:=by rw[<-hH2,jz]
 have hDC:s.heap.objs.size≠H2.objs.size:=by rw[hC];exact zG (zP _)
 have hCle:s.heap.objs.size<=H2.objs.size:=by rw[hC];exact qF _
 have fpOld:∀b∈fp,b<s.heap.objs.size:=λb hb=>by obtain⟨o,e,_⟩:=T.obj 0 _ t0 b hb;exact zX e
 have hDf:s.heap.objs.size∉fp:=λhm=>zA _ (fpOld _ hm)
 have hCf:H2.objs.size∉fp:=λhm=>by have:=fpOld _ hm;rw[hC]at this;exact zA _ (Nat.lt_of_succ_lt this)
 have old:∀b o,s.heap.get? b=xF o->h₁.get? b=xF o:=λb o e=>
  hsb₁.extBut b o (by rw[hC];exact zG (jv (zX e))) (zQ _ (hH2▸zQ _ e))
 have hacc:h₁.PlainList s.heap.objs.size ([]:List jF).toArray:=⟨_,hsb₁.extBut _ _ hDC (zQ _ (hH2▸zD _ rfl))⟩;generalize hCe:H2.objs.size=C at*;generalize hDe:s.heap.objs.size=Dd at*;let B:=Ey X E N scope C s a.H fp;have okB:B.Ok:=(Wn cs I hf (by rw[hDe];exact hCle) hCf).wish _;let σ0:St:=zE nt xG++caps.map λj=>(σ[j]?).join
 have start:∀tk,Inv B [] σ0 a.H {s with heap:=h₁,toks:=tk}:=λtk=>by
  refine⟨okB,rfl,I.bare,Un.kept old,⟨_,hns₁,λi x v e1 e2 e3=>?_⟩,λx d' e=>?_,I.hok.fresh (by rw[hDe];exact hCle),λx d' e=>?_,λp hp=>?_,I.hok.kept old,?_⟩
  ·have hi:nt<=i:=by
    by_cases hi:i<nt
    ·have e2':σ0[i]?=xF (xF v):=e2;rw[zH (by simpa using hi),qx]at e2'
     split at e2'<;>cases e2'
    ·lia
   have e2':σ0[i]?=xF (xF v):=e2;rw[zB (by simpa using hi),zM,qU]at e2';cases ej:caps[i-nt]? with
   |none=>rw[ej]at e2';cases e2'
   | some j=>
    rw[ej]at e2';have h1:(σ[j]?).join=xF v:=by simpa using e2'
    have h2:σ[j]?=xF (xF v):=by
     cases q:σ[j]? with
     |none=>rw[q]at h1;cases h1
     |some o=>
      rw[q]at h1;have h1':o=xF v:=h1;rw[h1']
    obtain⟨y,ey,en,ek⟩:=cs.cap (i-nt) j ej;have exy:x=y:=by
     have:nt+(i-nt)=i:=by lia
     rw[this]at en;have e1':N[i]?=xF x:=e1;rw[e1']at en;exact Option.some.inj en
    subst exy;have kx:=cs.free (x,.free) (PySem.mem_of_lookup ek) rfl;have vis:Vis X.env.scope x:=by
     rcases kx with kx|kx
     ·exact .inr (.inl kx)
     ·exact .inr (.inr kx)
    obtain⟨m,hn,hl⟩:=I.loc;obtain⟨u,ru,lk⟩:=hl j x v ey h2 vis;refine⟨u,ru,?_⟩;rcases lk with⟨k1,_⟩|⟨k1,c1,ec,hcell⟩
    ·rcases kx with kx|kx
     ·rw[k1]at kx;cases kx
     ·rw[k1]at kx;cases kx
    ·refine .inr ⟨?_,c1,?_,?_⟩
     ·show(relabel scope X.env).names.lookup x=xF .cell∨(relabel scope X.env).names.lookup x=xF .free;rw[Sh,ek];simp only[Option.map_some];split
      ·exact .inl rfl
      ·exact .inr rfl
     ·obtain⟨d1,hd1⟩:=K7 (env:=X.env) (x:=x) (names:=scope.names) (cs:=[]) (.inl (PySem.mem_of_lookup ek));obtain⟨d2,hd2⟩:=Ob hd1;have:=cs.cl I.ok hd2;rw[ec]at this;cases this;exact hd2
     ·obtain⟨o,e,dd⟩:=hcell;exact⟨o,old _ _ e,dd⟩
  ·obtain⟨v,o,e',dd⟩:=I.cell x d' (cs.cl I.ok e);exact⟨v,o,old _ _ e',dd⟩
  ·exact I.Dc x d' (cs.cl I.ok e)
  ·exact absurd hp (by simp[B,Ey,blk])
  ·show σ0.length=N.length;rw[cs.len];simp[σ0]
 have rS0:RepS a (Ar nt caps S) σ0:=ZAn rS;have aD:a.H Dd=xG:=I.hok.fresh (by rw[hDe];exact zJ _);have young:∀b∈fp,b≠C:=λb hb z=>hCf (z▸hb)
 have fpB:∀{H':Hp}{ps:List (j6×Obj)},(∀b∈fp,H' b=xG)->(∀p∈ps,p.1∉fp)->∀b∈fp,FpOk B ps H' b:=λ{H' ps}hn hps b hb=>
  ⟨hn b hb,young b hb,okB.exfs b hb,.inl hb,λx d' e=>(hf b hb).2.2.2.2.1 x d' (cs.cl I.ok e),λp hp z=>by
   have hp':p∈ps:=by simpa[B,Ey,blk]using hp
   exact hps p hp' (z▸hb)⟩
 have nstk:Dd∉frs X.stack:=λz=>by
  rcases zv.mp (I.Jq Dd z)with z|z
  ·have:=I.lt;rw[hDe,<-z]at this;exact zA _ this
  ·exact I.nofs (by rw[hDe];exact zJ _) z
 have pinD:∀{σ':St}{H':Hp}{s':jD}{its:List jF}{nD:Nat},Inv B [] σ' H' s'->s'.heap.get? Dd=xF {cls:=.type "list",data:=.seq its.toArray nD}->H' Dd=xG->Inv B [(Dd,{cls:=.type "list",data:=.seq its.toArray nD})] σ' H' s':=λ{σ' H' s' its nD}J e n=>
  J.Dj λp hp=>by
   have ep:p=(Dd,{cls:=.type "list",data:=.seq its.toArray nD}):=by simpa using hp
   subst ep;exact⟨e,n,hDC,nstk,λv' z=>by cases z⟩
 have fin:∀(s':jD)(b:Wd)(σ':St)(its:List jF)(ds:List D)(G':DH),Inv B [] σ' b.H s'->Ext a b->Sim b G'->s'.heap.PlainList Dd its.toArray->b.H Dd=xG->(∃vs,Vals vs its/\Reps b ds vs)->out E b (Ah ds G') Q->RR (.ref Dd) C (.ok .next) s':=by
  intro s' b σ' its ds G' IB x sb pl hD ⟨vs,hv,rv⟩ hq;have hz:ds.length<=1000000:=by
   unfold Ah at hq;split at hq
   ·assumption
   ·exact hq.elim
  have Ix:Inv X xE σ b.H s':=I.call' IB.os IB.base IB.hok IB.bare λb hb=>⟨(hf b hb).2.2.2.1,(hf b hb).2.1,(hf b hb).2.2.2.2.1,(hf b hb).2.2.2.2.2⟩
  obtain⟨n,eD⟩:=pl;have ylt:∀{q:j6}{o:Obj},s.heap.get? q=xF o->q≠Dd:=λe z=>by rw[z,<-hDe]at e;exact absurd (zX e) (zA _)
  have Ia:Inv X xE σ (upd b.H Dd (.lst vs)) s':=by
   refine ZAO Ix hD (by rw[<-hDe];exact I.sz) ?_ (λy c' ec=>?_) (λp hp=>?_) ⟨?_,its,n,hv,eD⟩
   ·rw[<-hDe];exact j5 I.lt
   ·obtain⟨v,o,e,_⟩:=I.cell y c' ec;exact ylt e
   ·exact ylt (I.pin p hp).1
   ·rw[<-rv.length];exact zx hz size6
  refine hRR Dd C s' b vs Ia hD hCle hDC (let⟨m,hn,_⟩:=IB.loc;⟨m,hn⟩) IB.free ?_;unfold Ah at hq;rw[if_pos hz]at hq;exact Ka sb rv hq Dd hD
 have turnX:∀(P:jD->Prop)(rest:DH->R (List D))(s1:jD)(b:Wd)(G1:DH)(σ1:St)(its:List jF)(acc:List D)(u:jF)(v:V)(x:D)(i:Nat),Inv B [] σ1 b.H s1->Ext a b->Sim b G1->RepS b (Ar nt caps S) σ1->tn i s1.heap->(∀q∈fp,b.H q=xG)->
   s1.heap.PlainList Dd its.toArray->b.H Dd=xG->(∃vs,Vals vs its/\Reps b acc vs)->acc.length<=1000000->RelV v u->Rep b x v->
   out E b (((g x (Ar nt caps S) G1).bind λS1 G1=>(c S1 G1).bind λk G2=>if k=xH then(te S1 G2).bind λd G3=>(rest G3).bind λds G4=>.ok (d::ds) G4 else rest G2).bind λds G=>Ah (acc++ds) G) Q->
   (∀(s2:jD)(b2:Wd)(G2:DH)(σ2:St)(its2:List jF)(acc2:List D),Inv B [] σ2 b2.H s2->Ext a b2->Sim b2 G2->RepS b2 (Ar nt caps S) σ2->tn i s2.heap->(∀q∈fp,b2.H q=xG)->
    s2.heap.PlainList Dd its2.toArray->b2.H Dd=xG->(∃vs,Vals vs its2/\Reps b2 acc2 vs)->acc2.length<=acc.length+1->out E b2 ((rest G2).bind λds G=>Ah (acc2++ds) G) Q->P s2)->
   CItemX X.prog X.w X.A tg elt ifs (.ref Dd) B.env B.xe P u s1:=by
  intro P rest s1 b G1 σ1 its acc u v x i I1 x1 sb rSb t1 hfp pl hD hacc' hal ru rx hq next
  rw[R.bind_assoc]at hq;obtain⟨nD,eD⟩:=id pl;let pinD:List (j6×Obj):=[(Dd,{cls:=.type "list",data:=.seq its.toArray nD})];have pinOk:∀{σ':St}{H':Hp}{s':jD},Inv B (pinD++Gy fp s1.heap) σ' H' s'->s'.heap.PlainList Dd its.toArray/\H' Dd=xG/\tn i s'.heap/\∀q∈fp,H' q=xG:=λ{σ' H' s'}J=>by
   have p1:=J.pin (Dd,{cls:=.type "list",data:=.seq its.toArray nD}) (zj _ (qI _ (by simp[pinD])));refine⟨⟨nD,p1.1⟩,p1.2.1,T.keep _ _ _ t1 λq hq' o e=>(J.pin (q,o) (zj _ (zj _ (Jt hq' e)))).1,λq hq'=>?_⟩;obtain⟨o,e,_⟩:=T.obj _ _ t1 q hq';exact(J.pin (q,o) (zj _ (zj _ (Jt hq' e)))).2.1
  have I2:Inv B (pinD++Gy fp s1.heap) σ1 b.H s1:=I1.Dj λp hp=>by
   rcases qY.mp hp with hp|hp
   ·have e:p=(Dd,{cls:=.type "list",data:=.seq its.toArray nD}):=by simpa[pinD]using hp
    subst e;refine⟨eD,hD,hDC,λz=>?_,λv' z=>by cases z⟩;exact nstk z
   ·obtain⟨hb,e⟩:=Pu hp;obtain⟨f0,f1,f2,_⟩:=fpB (ps:=[]) hfp (λp hp=>by cases hp) p.1 hb;obtain⟨o,e',dd⟩:=T.obj _ _ t1 p.1 hb;rw[e]at e';cases e';exact⟨e,f0,f1,f2,dd⟩
  refine thn (hg C s a.H fp _ s1 σ1 b.H v u _ I2 ru ⟨b,Ar nt caps S,G1,x,x1.k.trans hk,rfl,sb,rSb,rx,(Zu hq).imp λ_ _ z=>z⟩) ?_;rintro _ s2 ⟨σ2,H2',J2,b2,S2,G2,rfl,y2,sb2,rS2,eg,hq2⟩;rw[R.bind_assoc]at hq2;have rS2':RepS b2 (Ar nt caps S) σ2:=⟨by have h1:=J2.len;have h2:σ1.length=N.length:=I1.len;rw[rSb.len,h2];exact h1.symm,λj e' hj=>rS2.get j e' (gk _ _ _ _ _ eg j e' (ZBq hj) hj)⟩
  refine thn (hts C s a.H fp _ s2 σ2 b2.H _ J2 ⟨b2,S2,G2,y2.k.trans (x1.k.trans hk),rfl,sb2,rS2,(ZBj hq2).imp λ_ _ z=>z⟩) ?_;rintro k s3 ⟨H3,J3,b3,G3,rfl,y3,sb3,_,hq3⟩;cases k with
  |false=>
   obtain⟨p1,p2,p3,p4⟩:=pinOk J3;have Jn:Inv B [] σ2 b3.H s3:=J3.Dj λp hp=>by cases hp
   obtain⟨vs,hv,rv⟩:=hacc'
   exact next s3 b3 G3 σ2 its acc Jn (x1.trans (y2.trans y3)) sb3 (rS2'.mono y3) p3 p4 p1 p2 ⟨vs,hv,(rv.mono y2).mono y3⟩ (qF _) hq3
  | true=>
   have hq3':out E b3 (((te S2 G3).bind λd G3=>(rest G3).bind λds G4=>.ok (d::ds) G4).bind λds G=>Ah (acc++ds) G) Q:=hq3;rw[R.bind_assoc]at hq3';refine thn (he C s a.H fp _ s3 σ2 b3.H _ J3 ⟨b3,S2,G3,y3.k.trans (y2.k.trans (x1.k.trans hk)),rfl,sb3,rS2.mono y3,(Ci hq3').imp λ_ _ z=>z⟩) ?_;rintro w s4 ⟨vw,H4,J4,rw',b4,d4,G4,rfl,y4,sb4,q4,_,hq4⟩;obtain⟨p1,p2,p3,p4⟩:=pinOk J4;rw[R.bind_assoc]at hq4
   have hq4':out E b4 ((rest G4).bind λds G=>Ah ((acc++[d4])++ds) G) Q:=by
    have e:(λ(ds:List D)(G:DH)=>(R.ok (d4::ds) G).bind λds G=>Ah (acc++ds) G)=λds G=>Ah ((acc++[d4])++ds) G:=by funext ds G;simp
    rw[<-e];exact hq4
   obtain⟨vs,hv,rv⟩:=hacc';have hsz:its.toArray.size<=sizeLine:=by rw[zY,<-hv.length,<-rv.length];exact zx hal size6
   refine wpAny_list_append_plain p1 (λh' hpl hsb=>?_) hsz;have Jn:Inv B [] σ2 b4.H s4:=J4.Dj λp hp=>by cases hp
   have J5:Inv B [] σ2 b4.H {s4 with heap:=h'}:=by refine Jn.turned (it:=Dd) (t':=s4.toks) (λq o hq' e=>(hsb.2 q hq').trans e) p2 hDC (.inr (by show s.heap.objs.size<=Dd;rw[hDe];exact zJ _)) (λy c' ec=>?_) (λp hp=>absurd hp (by simp[B,Ey,blk]));obtain⟨v',o,e,_⟩:=I.cell y c' (cs.cl I.ok ec);intro z;rw[z,<-hDe]at e;exact absurd (zX e) (zA _)
   refine next _ b4 G4 σ2 (its++[w]) (acc++[d4]) J5 (x1.trans (y2.trans (y3.trans y4))) sb4 ((rS2'.mono y3).mono y4) (T.keep _ _ _ p3 λq hq' o e=>(hsb.2 q (λz=>hDf (z▸hq'))).trans e) p4 (by simpa using hpl) p2 ⟨vs++[vw],hv.append (.cons rw' .nil),(((rv.mono y2).mono y3).mono y4).append (Reps.cons q4 Reps.nil)⟩ (by simp) hq4'
 have loop:∀s₃:jD,s₃={s with heap:=h₁,toks:=s.toks+([]:List (Str×jF)).length}->
   codeAny (xZ X.prog X.w) X.A (.compLoop (.ListComp elt [⟨tg,iter,ifs,0⟩] scope pos) 0 (.ref i0) (.ref Dd) B.env) (RR (.ref Dd) C) s₃:=by
  rintro s₃ rfl;have t1:tn 0 h₁:=T.keep _ _ _ t0 λq _ o e=>old q o e
  have fp0:∀q∈fp,a.H q=xG:=λq hq=>(hf q hq).1
  have walk:∀b:Wd,Ext a b->∀G,Sim b G->∀i,(∀d,f i G=xF (xF d)->J.go i b.H/\∀x H',J.yld i b.H x H'->∃c:Wd,c.H=H'/\Ext b c/\Sim c G/\Rep c d x)/\(f i G=xF xG->J.stop i b.H):=rJ;obtain⟨Iv,hIv⟩:∃Iv:Nat->jD->Prop,∀m s',Iv m s'↔∃(i:Nat)(b:Wd)(G':DH)(σ':St)(its:List jF)(acc:List D),Inv B [] σ' b.H s'/\Ext a b/\Sim b G'/\RepS b (Ar nt caps S) σ'/\tn i s'.heap/\(∀q∈fp,b.H q=xG)/\s'.heap.PlainList Dd its.toArray/\b.H Dd=xG/\(∃vs,Vals vs its/\Reps b acc vs)/\acc.length+m<=n0/\out E b ((Bu f g c te (Ar nt caps S) m i G').bind λds G=>Ah (acc++ds) G) Q:=⟨_,λ_ _=>Iff.rfl⟩
  refine ZEJ (xb:=B.xe) Iv (λm s' h'=>?_) ?_ n0 ((hIv _ _).2 ⟨0,a,G,σ0,[],[],start _,Ext.refl a,sm,rS0,t1,fp0,hacc,aD,⟨[],.nil,rfl⟩,by simp,h⟩)
  rotate_left
  ·rintro e s' ⟨pins1,σ1,H1,s1,I1,hcx⟩;have Ix:Inv X xE σ H1 s1:=I.call' I1.os I1.base I1.hok I1.bare λb hb=>⟨(hf b hb).2.2.2.1,(hf b hb).2.1,(hf b hb).2.2.2.2.1,(hf b hb).2.2.2.2.2⟩
   refine xy (ZCW (C:=C) (benv:=B.env) hst hex hfr rfl Ix (let⟨m,hn,_⟩:=I1.loc;⟨m,hn⟩) I1.free ?_ ?_ hcx) (λ_ s₂ h₂=>hRX Dd C e s₂ h₂) λ_ _ z=>z
   ·cases q:X.s₀.heap.get? C with
    |none=>rfl
    |some o=>
     have h1:=zX q;have h2:=I.sz;rw[hDe]at h2;exact absurd (zZ h1 (zx h2 hCle)) (zA _)
   ·intro z;rcases zv.mp (I.Jq C z)with z|z
    ·have h1:=I.lt;rw[hDe,<-z]at h1;exact absurd (zZ h1 hCle) (zA _)
    ·exact I.nofs (by rw[hDe];exact hCle) z
  obtain⟨i,b,G',σ',its,acc,IB,x,sb,rSb,ti,hfp,pl,hD,hac,hal,hq⟩:=(hIv _ _).1 h';clear h';obtain⟨nD,eD⟩:=pl;have I0:=pinD IB eD hD;have f0:=fpB (ps:=[(Dd,{cls:=.type "list",data:=.seq its.toArray nD})]) hfp (λp hp=>by
   have ep:p=(Dd,{cls:=.type "list",data:=.seq its.toArray nD}):=by simpa using hp
   subst ep;exact hDf)
  have stop:J.stop i b.H->out E b (Ah acc G') Q->∀P,CTurnX X.prog X.w X.A tg elt ifs (.ref i0) (.ref Dd) B.env B.xe (RR (.ref Dd) C (.ok .next)) P s':=by intro st hq' P;refine thn (T.done B rfl rfl rfl hc i _ s' σ' b.H _ I0 f0 ti st) ?_;rintro r s1 ⟨rfl,I2⟩;have pD:=(I2.pin (Dd,{cls:=.type "list",data:=.seq its.toArray nD}) (zj _ (by simp))).1;exact fin s1 b σ' its acc G' (I2.Dj λp hp=>by cases hp) x sb ⟨nD,pD⟩ hD hac hq'
  cases m with
  |zero=>
   unfold Bu at hq;split at hq
   ·rename_i hf;exact stop ((walk b x G' sb i).2 hf) (by have hq':out E b (Ah (acc++[]) G') Q:=hq;rw[qQ]at hq';exact hq') _
   ·exact hq.elim
  | succ m=>
   unfold Bu at hq;split at hq
   ·rename_i d1 hf;obtain⟨go,yl⟩:=(walk b x G' sb i).1 d1 hf;refine thn (T.item B rfl rfl rfl hc i _ s' σ' b.H _ I0 f0 ti go) ?_;rintro r s1 ⟨u,rfl,hgo⟩;refine thn hgo ?_;rintro _ s2 ⟨v,H',I2,ru,y,t2,hfp2⟩;obtain⟨cc,rfl,xx,ss,rd⟩:=yl v H' y;have pD:=I2.pin (Dd,{cls:=.type "list",data:=.seq its.toArray nD}) (zj _ (by simp));obtain⟨vs1,hv1,rv1⟩:=hac;refine turnX _ (λG3=>Bu f g c te (Ar nt caps S) m (i+1) G3) s2 cc G' σ' its acc u _ d1 (i+1) (I2.Dj λp hp=>by cases hp) (x.trans xx) ss (rSb.mono xx) t2 hfp2 ⟨nD,pD.1⟩ pD.2.1 ⟨vs1,hv1,rv1.mono xx⟩ (by lia) ru rd (out.mono xx hq) ?_
    intro s3 b3 G3 σ3 its3 acc3 a1 a2 a3 a4 a5 a6 a7 a8 a9 al a10;exact⟨m,zP _,(hIv _ _).2 ⟨i+1,b3,G3,σ3,its3,acc3,a1,a2,a3,a4,a5,a6,a7,a8,a9,by lia,a10⟩⟩
   ·rename_i hf;exact stop ((walk b x G' sb i).2 hf) (by have hq':out E b (Ah (acc++[]) G') Q:=hq;rw[qQ]at hq';exact hq') _
   ·exact hq.elim
 exact codeAny_compStart_list (loop _ rfl) (T.self _ 0 _ _ _ (T.keep _ _ _ t0 λq _ o e=>old q o e) (loop _ rfl))
theorem Wi(hi:QI X E tg iter it)(hg:∀C s₀ H₀ ex,(Fq tg caps X.N).Nodup->QG (Ey X E (Fq tg caps X.N) scope C s₀ H₀ ex) E tg g)(gk:GK nt g)(hts:∀C s₀ H₀ ex,QTs (Ey X E (Fq tg caps X.N) scope C s₀ H₀ ex) E ifs c)
  (he:∀C s₀ H₀ ex,QE (Ey X E (Fq tg caps X.N) scope C s₀ H₀ ex) E elt te) (hxe:∀e s',Fd X E e s'->X.xe e s':=by exact λ_ _ h=>h) (hst:X.stack=X.env::X.outer:=by rfl) (hex:X.ex=[]:=by rfl) (hfr:X.env.frame=xF X.env.locals:=by rfl)
  (hc:X.calm=xH:=by rfl) (hk:scope.kind=.function:=by rfl) (hdn:∀x,X.env.kindOf x=X.env.scope.names.lookup x:=by intro _;rfl)
  (h:Nf X.env.scope.names X.N (Fq tg caps X.N) scope.names nt caps=xH:=by kernel_rfl) (hs:∀x,foldedSetIterable iter X.env x=pure x:=by intro _;rfl):QE X E (.ListComp elt [⟨tg,iter,ifs,0⟩] scope pos) (Ky it nt caps g c te):=by
 have cs:=Q4 hk hdn rfl h;intro xE s σ H Q I h;obtain⟨a,S,G,hk,rfl,sm,r,h⟩:=h;rw[eval_ListComp];refine wpAny_comprehension_free (use:=xG) rfl hs (X8 (cs.cells I.ok)) cs.kind cs.names (thn (hi xE s σ a.H _ I ⟨a,S,G,hk,rfl,sm,r,(ZAa h).imp λ_ _ z=>z⟩) λxv s1 h1=>thn h1 λitv s2 h2=>?_);obtain⟨i0,fp,tn,J,H2,rfl,I2,T,t0,f2,b,d,G1,rfl,x,sb,rJ,_,h1⟩:=h2;cases d with
 | pure xs=>
  dsimp only at h1;split at h1
  ·rename_i hl;have h':out E b ((Bj g c te (Ar nt caps S) (xs.drop 0) G1).bind Ah) Q:=h1;rw[Mv xs.length 0 G1 (by lia)]at h';refine ZEm hc hst hex hfr cs (λC s₀ H₀ ex=>hg C s₀ H₀ ex cs.nd) gk hts he I2 (x.k.trans hk) sb (r.mono x) T t0 f2 (Q9 rJ) hl h' (RR:=λacc C=>compPost (xZ X.prog X.w) X.A X.xe xG (EP X xE σ Q) acc C) ?_ ?_
   ·intro D C s' b vs Ia hD hCle hDC ⟨m,hn⟩ hCn hq;refine⟨m,hn,λh' hsb=>⟨.ref D,_,letGo I2 Ia hCle ?_ hsb,rfl,hq⟩⟩;rw[Al (Ne.symm hDC)];exact hCn
   ·rintro D C e s₂ ⟨m,hn,hh⟩;exact⟨m,hn,λh' hsb cenv hcl=>xy (hh h' hsb cenv hcl) (λ_ _ z=>z) hxe⟩
  ·exact h1.elim
 |mt k=>exact h1.elim
 |fn n0 f=>exact h1.elim
end
end _D
namespace _W
open PySem _L _D
noncomputable def fuel:Nat:=10000
theorem ZCg:FnScope ["self","row"] ["self","row"] (Am Rt):=fsc
noncomputable abbrev Yi:List Str:=["_law_x","_law_cell"]
noncomputable abbrev Rg:=Yi.take 2
theorem ZEd:FnScope Yi Rg (Am T7):=fsc
noncomputable abbrev ZAo:List Str:=["_law_script","_law_k"]
noncomputable abbrev Qk:=ZAo.take 2
theorem ZGG:FnScope ZAo Qk (Am Tt):=fsc
noncomputable abbrev ZA1:List Str:=["_law_cell","_law_k","_law_many","_law_number","_law_left","_law_found","_law_j"]
noncomputable abbrev Ug:=ZA1.take 3
theorem ZE3:FnScope ZA1 Ug (Am Uk):=fsc
noncomputable abbrev Xw:List Str:=["_law_script","_law_at","_law_seasons","_law_k","_law_cell","_law_xs","_law_steps","_law_j","_law_way"]
noncomputable abbrev Tw:=Xw.take 2
theorem ZFs:FnScope Xw Tw (Am Ra):=fsc
noncomputable abbrev W4:List Str:=["_law_text","_law_xs","_law_signs","_law_j","_law_at","_law_way","_law_sign"]
noncomputable abbrev Q7:=W4.take 2
theorem ZD4:FnScope W4 Q7 (Am Pn):=fsc
noncomputable abbrev W7:List Str:=["_law_text","_law_x","_law_mark","_law_spots","_law_at","_law_way"]
noncomputable abbrev Qt:=W7.take 2
theorem ZDC:FnScope W7 Qt (Am R8):=fsc
noncomputable abbrev Vl:List Str:=["_law_found"]
noncomputable abbrev R9:=Vl.take 1
theorem ZDv:FnScope Vl R9 (Am Tv):=fsc
noncomputable abbrev Ro:List Str:=["text"]
noncomputable abbrev Ru:=Ro.take 1
theorem ZBG:FnScope Ro Ru (Am Mi):=fsc
noncomputable abbrev Xp:List Str:=["text","row"]
noncomputable abbrev Tj:=Xp.take 2
theorem ZBF:FnScope Xp Tj (Am Rh):=fsc
noncomputable abbrev Xi:List Str:=["text","row","height","plus","rest","many","blank","way"]
noncomputable abbrev Rp:=Xi.take 2
theorem ZBc:FnScope Xi Rp (Am Sq):=fsc
noncomputable abbrev Va:List Str:=["text","row"]
noncomputable abbrev Q8:=Va.take 2
theorem Wa:FnScope Va Q8 (Am Q3):=fsc
noncomputable abbrev Vt:List Str:=["text","row","first","colon","steps"]
noncomputable abbrev Rv:=Vt.take 2
theorem Yv:FnScope Vt Rv (Am Uc):=fsc
noncomputable abbrev Vk:List Str:=["text","row"]
noncomputable abbrev Ri:=Vk.take 2
theorem Zf:FnScope Vk Ri (Am Pq):=fsc
noncomputable abbrev Yk:List Str:=["text"]
noncomputable abbrev Rw:=Yk.take 1
theorem Vv:FnScope Yk Rw (Am Qn):=fsc
noncomputable abbrev Yb:List Str:=["_law_text","_law_caught","e","_law_others"]
noncomputable abbrev Uq:=Yb.take 1
theorem Hq:FnScope Yb Uq (Am S7):=fsc
noncomputable abbrev ZA2:List Str:=["_law_text","_law_at","_law_end_here"]
noncomputable abbrev Uu:=ZA2.take 2
theorem ZHW:FnScope ZA2 Uu (Am Rf):=fsc
noncomputable abbrev ZAy:List Str:=["_law_text","_law_at","_law_plus","_law_end_here","_law_way"]
noncomputable abbrev Sx:=ZAy.take 2
theorem ZCG:FnScope ZAy Sx (Am R4):=fsc
noncomputable abbrev ZBh:List Str:=["_law_text","_law_at","_law_end_here","_law_begin","_law_steps","_law_mark","_law_step_here"]
noncomputable abbrev Pr:=ZBh.take 2
theorem ZER:FnScope ZBh Pr (Am Rc):=fsc
noncomputable abbrev ZBp:List Str:=["_law_text","_law_seasons","_law_at","_law_season_here"]
noncomputable abbrev Qq:=ZBp.take 1
theorem ZHb:FnScope ZBp Qq (Am Tf):=fsc
noncomputable abbrev ZA0:List Str:=["_law_found","_law_due","_law_season_here","_law_step_here"]
noncomputable abbrev Sd:=ZA0.take 2
theorem ZHm:FnScope ZA0 Sd (Am T3):=fsc
noncomputable abbrev ZBJ:List Str:=["_law_rule","_law_seasons","_law_begin","_law_stairs","_law_text","_law_mark","_law_height","_law_many","_law_way"]
noncomputable abbrev Qd:=ZBJ.take 1
theorem Vc:FnScope ZBJ Qd (Am Ub):=fsc
noncomputable abbrev ZBN:List Str:=["_law_script","_law_rule","_law_good","_law_xs","_law_text","_law_some","_law_due"]
noncomputable abbrev U4:=ZBN.take 1
theorem U3:FnScope ZBN U4 (Am Ea):=fsc
def Uz:DS:=(Ae (sIf (Ai (dOp Bc (dOp Bf (dV 0) (dC (.int 3))) (dC (.int 0)))) (sRt (dOp Bf (dOp Ex (dV 0) (dC (.int 3))) (dC (.int 12)))) sNx) (Ae (sIf (Ai (dOp Bc (dOp Bf (dV 0) (dC (.int 3))) (dC (.int 1)))) (sRt (dOp Bf (dOp Ex (dV 0) (dC (.int 3))) (dOp Fp (dC (.int 10)) (dC (.int 6))))) sNx) (sRt (dOp Bf (dOp Ag (dV 1) (dOp Ex (dV 0) (dC (.int 3)))) (dOp Fp (dC (.int 10)) (dC (.int 40)))))))
def Jy:List D->DH->R D:=Bd 2 0 Uz
def Xo:DS:=(Ae (sIf (Ai (dOp Ep (dV 1) (dFn Az (Ab (dV 0) Ad)))) (sRt (dOp Ao (dV 0) (dV 1))) sNx) (sRt (dC (.int 0))))
def Fy:List D->DH->R D:=Bd 2 0 Xo
def Nk:DS:=(Ae (sAs (dOp Bf (dOp Ag (dOp Ag (dOp Bo (dV 3) (dV 3)) (dOp Bo (dC (.int 48271)) (dV 6))) (dC (.int 11))) (dC (.int 2147483647))) (gV 3)) (Ae (sEx (Ff Fo (dV 5) (Ab (dOp Ao (Aj (dFn Ah (Ab (dV 3) (Ab (dOp Bf (dV 4) (dOp Fp (dC (.int 10)) (dC (.int 42)))) Ad)))) (dFn Lh (Ab (dOp K5 (dV 4) (dC (.int 0))) Ad))) Ad))) (sAs (dOp Ex (dV 4) (dOp Fp (dC (.int 10)) (dC (.int 42)))) (gV 4))))
def Zh:DS:=(Ae (sAs (dOp Bf (dOp Bo (dOp Ag (dOp Bf (dV 0) (dC (.int 999999937))) (dC (.int 2))) (dOp Ag (dOp Bo (dOp Bo (dC (.int 7919)) (dV 1)) (dV 1)) (dC (.int 48271)))) (dC (.int 2147483647))) (gV 3)) (Ae (sAs (dC (.int 0)) (gV 4)) (Ae (sIf (dOr (Ai (dOp Ep (dV 0) (dC (.int 0)))) (Ai (dOp Mu (dV 0) (dOp Fp (dC (.int 10)) (dC (.int 18)))))) (sAs (dFn Lb (Ab (dV 0) (Ab (dOp Jk (dC (.int 0)) (dV 0)) Ad))) (gV 4)) sNx) (Ae (sAs (G7 (dFn Ah Ad)) (gV 5)) (Ae (Dk (Gf rng1 (Ab (dV 2) Ad)) (gV 6) Nk) (sRt (dV 5)))))))
def Hg:List D->DH->R D:=Bd 3 4 Zh
def La:DS:=(Ae (sAs (dOp Ao (Aj (dFn Ah (Ab (dC (.str "river")) (Ab (dC (.str "pump")) Ad)))) (dOp Bf (dOp Ao (dV 5) (dOp Ag (dC (.int 2)) (dOp Bo (dC (.int 3)) (dV 7)))) (dC (.int 2)))) (gV 8)) (sEx (Ff Fo (dV 6) (Ab (dFn Ec (Ab (dFn Jy (Ab (dOp Ao (dV 5) (dOp Ag (dC (.int 3)) (dOp Bo (dC (.int 3)) (dV 7)))) (Ab (dV 4) Ad))) (Ab (dFn Jy (Ab (dOp Ao (dV 5) (dOp Ag (dC (.int 4)) (dOp Bo (dC (.int 3)) (dV 7)))) (Ab (dOp Bo (dV 4) (dV 4)) Ad))) (Ab (dV 8) Ad)))) Ad))))
def Ld:DS:=(Ae (sAs (dFn Fy (Ab (dV 0) (Ab (dOp Ag (dOp Ag (dV 1) (dC (.int 1))) (dV 3)) Ad))) (gV 4)) (Ae (sAs (Aj (dFn Hg (Ab (dV 4) (Ab (dV 3) (Ab (dC (.int 14)) Ad))))) (gV 5)) (Ae (sAs (G7 (dFn Ah Ad)) (gV 6)) (Ae (Dk (Gf rng1 (Ab (dOp Bf (dOp Ao (dV 5) (dC (.int 1))) (dC (.int 5))) Ad)) (gV 7) La) (sEx (Ff Fo (dV 2) (Ab (dFn Ec (Ab (dFn Jy (Ab (dOp Ao (dV 5) (dC (.int 0))) (Ab (dV 4) Ad))) (Ab (dFn Cw (Ab (dV 6) Ad)) Ad))) Ad)))))))
def ZAW:DS:=(Ae (sAs (G7 (dFn Ah Ad)) (gV 2)) (Ae (Dk (Gf rng1 (Ab (dOp Ag (dC (.int 1)) (dOp Bf (dFn Fy (Ab (dV 0) (Ab (dV 1) Ad))) (dC (.int 5)))) Ad)) (gV 3) Ld) (sRt (dFn Cw (Ab (dV 2) Ad)))))
def Ke:List D->DH->R D:=Bd 2 7 ZAW
def Fg:DS:=(Ae (sAs (dOp Bf (dOp Ao (dV 1) (dOp Ag (dC (.int 1)) (dOp Bo (dC (.int 3)) (dV 3)))) (dOp Ag (dFn Az (Ab (dV 0) Ad)) (dC (.int 1)))) (gV 4)) (Ae (sAs (dOp Bf (dOp Ao (dV 1) (dOp Ag (dC (.int 2)) (dOp Bo (dC (.int 3)) (dV 3)))) (dC (.int 4))) (gV 5)) (Ae (sAs (dOp Ao (dV 2) (dOp Bf (dOp Ao (dV 1) (dOp Ag (dC (.int 3)) (dOp Bo (dC (.int 3)) (dV 3)))) (dC (.int 28)))) (gV 6)) (Ae (sIf (Ai (dOp Bc (dV 5) (dC (.int 0)))) (sAs (Aj (dOp Ag (Aj (dSl (dV 0) xG (xF (dV 4)))) (Aj (dSl (dV 0) (xF (dOp Ag (dV 4) (dC (.int 1)))) xG)))) (gV 0)) sNx) (Ae (sIf (Ai (dOp Bc (dV 5) (dC (.int 1)))) (sAs (Aj (dOp Ag (Aj (dOp Ag (Aj (dSl (dV 0) xG (xF (dV 4)))) (Aj (dSl (dV 0) (xF (dV 4)) (xF (dOp Ag (dV 4) (dC (.int 1)))))))) (Aj (dSl (dV 0) (xF (dV 4)) xG)))) (gV 0)) sNx) (Ae (sIf (Ai (dOp Bc (dV 5) (dC (.int 2)))) (sAs (Aj (dOp Ag (Aj (dOp Ag (Aj (dSl (dV 0) xG (xF (dV 4)))) (dV 6))) (Aj (dSl (dV 0) (xF (dV 4)) xG)))) (gV 0)) sNx) (sIf (Ai (dOp Bc (dV 5) (dC (.int 3)))) (sAs (Aj (dOp Ag (Aj (dOp Ag (Aj (dSl (dV 0) xG (xF (dV 4)))) (dV 6))) (Aj (dSl (dV 0) (xF (dOp Ag (dV 4) (dC (.int 1)))) xG)))) (gV 0)) sNx)))))))
def W2:DS:=(Ae (sAs (dC (.str "0123456789:;, +riverpump\n-R_")) (gV 2)) (Ae (Dk (Gf rng1 (Ab (dOp Bf (dOp Ao (dV 1) (dC (.int 0))) (dC (.int 4))) Ad)) (gV 3) Fg) (sRt (dV 0))))
def Nb:List D->DH->R D:=Bd 2 5 W2
def N6:DE:=(dV 0)
def Li:DB:=(Ai (dOp Bc (Aj (dSl (dV 1) (xF (dV 0)) (xF (dOp Ag (dV 0) (dFn Az (Ab (dV 2) Ad)))))) (dV 2)))
def Xu:DS:=(sRt (dOp Ag (Aj (dOp Ag (Aj (dSl (dV 0) xG (xF (dV 4)))) (dV 2))) (Aj (dSl (dV 0) (xF (dV 4)) xG))))
def R3:DS:=(Ae (sIf (Ai (dOp Bc (dV 5) (dC (.int 2)))) (sRt (dOp Ag (dV 0) (dOp Ao (Aj (dFn Ah (Ab (dC (.str "\n")) (Ab (dC (.str " ")) (Ab (dC (.str ", ")) (Ab (dC (.str "; ")) (Ab (dC (.str ",")) Ad))))))) (dOp Bf (dOp Ex (dV 1) (dC (.int 3500))) (dC (.int 5)))))) sNx) Xu)
def Ox:DS:=(Ae (sIf (Ai (dOp Bc (dV 5) (dC (.int 1)))) (sRt (dOp Ag (Aj (dOp Ag (Aj (dSl (dV 0) xG (xF (dV 4)))) (dC (.str "\n")))) (Aj (dSl (dV 0) (xF (dV 4)) xG)))) sNx) R3)
def Ko:DS:=(Ae (sIf (Ai (dOp Bc (dV 5) (dC (.int 0)))) (sRt (dOp Ag (Aj (dSl (dV 0) xG (xF (dV 4)))) (Aj (dSl (dV 0) (xF (dOp Ag (dV 4) (dFn Az (Ab (dV 2) Ad)))) xG)))) sNx) Ox)
def Ja:DS:=(Ae (sAs (dOp Bf (dOp Ex (dV 1) (dC (.int 700))) (dC (.int 5))) (gV 5)) Ko)
def ZBO:DS:=(Ae (sAs (dOp Ao (dV 3) (dOp Bf (dOp Ex (dV 1) (dC (.int 7))) (dFn Az (Ab (dV 3) Ad)))) (gV 4)) Ja)
def Xf:DS:=(Ae (sAs (Aj (dOp Ag (Aj (Ih (Gf rng1 (Ab (dFn Az (Ab (dV 0) Ad)) Ad)) 1 [0,2] (gV 0) Li N6)) (Aj (dFn Ah (Ab (dFn Az (Ab (dV 0) Ad)) Ad))))) (gV 3)) ZBO)
def Xh:DS:=(Ae (sAs (dOp Ao (Aj (dFn Ah (Ab (dC (.str ", ")) (Ab (dC (.str ", ")) (Ab (dC (.str "; ")) (Ab (dC (.str ", ")) (Ab (dC (.str ":")) (Ab (dC (.str " ")) (Ab (dC (.str "+")) Ad))))))))) (dOp Bf (dV 1) (dC (.int 7)))) (gV 2)) Xf)
def O9:List D->DH->R D:=Bd 2 4 Xh
def Wx:DS:=(sRt (J9 (dFn Ce (Ab (dV 0) (Ab (dC (.ty "int")) Ad))) (J8 (dFn Ce (Ab (dV 0) (Ab (dC (.ty "bool")) Ad))))))
def Ho:List D->DH->R D:=Bd 1 0 Wx
def Mj:DE:=(dOp Jd (dV 0) (dC (.str "0123456789")))
def Iz:DS:=(Ae (sIf (dOr (Bw (Ai (Ie Es Es (dC (.int 1)) (dFn Az (Ab (dV 0) Ad)) (dC (.int 40))))) (Bw (Ai (dFn Ga (Ab (Aj (Ih (Ez (dV 0)) 1 [] (gV 0) Di Mj)) Ad))))) (sRt (dC (.bl xI))) sNx) (sRt (Og (dOp Bc (dV 0) (dC (.str "0"))) (J8 (Dy Jh (dV 0) (Ab (dC (.str "0")) Ad))))))
def Gz:List D->DH->R D:=Bd 1 0 Iz
def Us:DS:=(Ae (sIf (Bw (Ai (dFn (nerr Gz) (Ab (dV 0) Ad)))) (sRz "NoText" "row" (Ab (dV 1) Ad)) sNx) (sNr (sRt (dFn Ej (Ab (dV 0) Ad)))))
def Gw:List D->DH->R D:=Bd 2 0 Us
def Ig:DS:=(Ae (sNr (sAs (Dy Fw (dV 0) (Ab (dC (.str "+")) Ad)) (Do 3 (Bk (gV 2) (Bk (gV 3) (Bk (gV 4) Ef)))))) (Ae (sNr (sAs (Dy Fw (dV 4) (Ab (dC (.str " ")) Ad)) (Do 3 (Bk (gV 5) (Bk (gV 6) (Bk (gV 7) Ef)))))) (Ae (sIf (Ai (dOp Gb (dV 7) (dC (.tup [.str "river",.str "pump"])))) (sRz "NoText" "row" (Ab (dV 1) Ad)) sNx) (sRt (dFn Ec (Ab (dFn Gw (Ab (dV 2) (Ab (dV 1) Ad))) (Ab (dFn Gw (Ab (dV 5) (Ab (dV 1) Ad))) (Ab (dV 7) Ad))))))))
def Fx:List D->DH->R D:=Bd 2 6 Ig
def Eo:DE:=(dFn Fx (Ab (dV 0) (Ab (dV 1) Ad)))
def Np:DS:=(Ae (sNr (sIf (Ai (dOp Bc (dV 0) (dC (.str "")))) (sRt (dFn Ec Ad)) sNx)) (Ae (sIf (Bw (Ai (Dy Jh (dV 0) (Ab (dC (.str " ")) Ad)))) (sRz "NoText" "row" (Ab (dV 1) Ad)) sNx) (sRt (dFn Cw (Ab (Aj (Ky (Ez (Aj (Dy Ew (Aj (dSl (dV 0) (xF (dC (.int 1))) xG)) (Ab (dC (.str ", ")) Ad)))) 1 [1] (gV 0) Di Eo)) Ad)))))
def Hb:List D->DH->R D:=Bd 2 0 Np
def Km:DS:=(Ae (sNr (sAs (Dy Fw (dV 0) (Ab (dC (.str ":")) Ad)) (Do 3 (Bk (gV 2) (Bk (gV 3) (Bk (gV 4) Ef)))))) (Ae (sIf (Ai (dOp Bc (dV 3) (dC (.str "")))) (sRz "NoText" "row" (Ab (dV 1) Ad)) sNx) (sRt (dFn Ec (Ab (dFn Gw (Ab (dV 2) (Ab (dV 1) Ad))) (Ab (dFn Hb (Ab (dV 4) (Ab (dV 1) Ad))) Ad))))))
def Hc:List D->DH->R D:=Bd 2 3 Km
def Ei:DE:=(dFn Hc (Ab (dV 0) (Ab (dV 1) Ad)))
def Wl:DS:=(sRt (dFn Cw (Ab (Aj (Ky (Ez (Aj (Dy Ew (dV 0) (Ab (dC (.str "; ")) Ad)))) 1 [1] (gV 0) Di Ei)) Ad)))
def Kr:List D->DH->R D:=Bd 2 0 Wl
def Qf:DS:=(sRt (dFn Kr (Ab (dV 0) (Ab (dC (.int 0)) Ad))))
def Er:List D->DH->R D:=Bd 1 0 Qf
def Rn:DS:=(sAs (dV 2) (gV 1))
def Ww:DS:=(Ae (sAs (dC .non) (gV 1)) (Ae (Hd ["NoText"] 2 Er (Ab (dV 0) Ad) Rn) (Ae (sIf (dOr (Bw (Ai (dUn (isx [("NoText",xH)]) (dV 1)))) (Bw (Ai (dUn (isx [("NoText",xH)]) (dV 1))))) (sRt (dC (.bl xI))) sNx) (Ae (sAs (Aj (dFn Ah (Ab (dUn (isx [("NoText",xI)]) (dV 1)) (Ab (dUn (isx [("NoText",xI)]) (dV 1)) (Ab (dUn (isx [("NoText",xI)]) (dV 1)) Ad))))) (gV 3)) (Ae (sAs (Aj (dOp Ag (dV 3) (Aj (dFn Ah (Ab (dUn (isx [("NoText",xI)]) (dV 1)) (Ab (dUn (isx [("NoText",xI)]) (dV 1)) (Ab (dUn (isx [("NoText",xI)]) (dV 1)) Ad))))))) (gV 3)) (Ae (sAs (Aj (dOp Ag (dV 3) (Aj (dFn Ah (Ab (dUn (isx [("NoText",xI)]) (dV 1)) (Ab (dUn (isx [("NoText",xI)]) (dV 1)) (Ab (dUn (isx [("NoText",xI)]) (dV 1)) Ad))))))) (gV 3)) (Ae (sAs (Aj (dOp Ag (dV 3) (Aj (dFn Ah (Ab (dUn (isx [("NoText",xI)]) (dV 1)) (Ab (dUn (isx [("NoText",xI)]) (dV 1)) (Ab (dUn (isx [("NoText",xI)]) (dV 1)) Ad))))))) (gV 3)) (sRt (J9 (J8 (dFn Ls (Ab (dV 3) Ad))) (J9 (dFn Ho (Ab (dUn (gtx ["NoText"] "row") (dV 1)) Ad)) (dOp Bc (dUn (gtx ["NoText"] "row") (dV 1)) (dC (.int 0)))))))))))))
def Nm:List D->DH->R D:=Bd 1 3 Ww
def Oj:DS:=(sAs (dOp Ag (dV 2) (dC (.int 1))) (gV 2))
def Ip:DB:=(Gs (Ai (dOp Ep (dV 2) (dFn Az (Ab (dV 0) Ad)))) (Ai (Ie Es Es (dC (.str "0")) (dOp Ao (dV 0) (dV 2)) (dC (.str "9")))))
def J7:DS:=(Ae (sAs (dV 1) (gV 2)) (Ae (sWh Ip Oj fuel) (Ae (sIf (dOr (Ai (dOp Bc (dV 2) (dV 1))) (dOr (Ai (dOp K5 (dOp Jk (dV 2) (dV 1)) (dC (.int 40)))) (Gs (Ai (dOp Bc (dOp Ao (dV 0) (dV 1)) (dC (.str "0")))) (Ai (dOp K5 (dOp Jk (dV 2) (dV 1)) (dC (.int 1))))))) (sRt (dUn Mm (dC (.int 1)))) sNx) (sRt (dV 2)))))
def Fl:List D->DH->R D:=Bd 2 1 J7
def El:DS:=(sIf (Ai (dOp Bc (Aj (dSl (dV 0) (xF (dV 3)) (xF (dOp Ag (dOp Ag (dV 3) (dC (.int 1))) (dFn Az (Ab (dV 4) Ad)))))) (dOp Ag (dC (.str " ")) (dV 4)))) (sRt (dFn Ec (Ab (dFn Ec (Ab (dFn Ej (Ab (Aj (dSl (dV 0) (xF (dV 1)) (xF (dV 2)))) Ad)) (Ab (dFn Ej (Ab (Aj (dSl (dV 0) (xF (dOp Ag (dV 2) (dC (.int 1)))) (xF (dV 3)))) Ad)) (Ab (dV 4) Ad)))) (Ab (dOp Ag (dOp Ag (dV 3) (dC (.int 1))) (dFn Az (Ab (dV 4) Ad))) Ad)))) sNx)
def Ji:DS:=(Ae (sAs (dFn Fl (Ab (dV 0) (Ab (dV 1) Ad))) (gV 2)) (Ae (sIf (dOr (Ai (dOp Ep (dV 2) (dC (.int 0)))) (Ai (dOp Fe (Aj (dSl (dV 0) (xF (dV 2)) (xF (dOp Ag (dV 2) (dC (.int 1)))))) (dC (.str "+"))))) (sRt (dC .non)) sNx) (Ae (sAs (dFn Fl (Ab (dV 0) (Ab (dOp Ag (dV 2) (dC (.int 1))) Ad))) (gV 3)) (Ae (sIf (Ai (dOp Ep (dV 3) (dC (.int 0)))) (sRt (dC .non)) sNx) (Ae (Dk (Ez (Aj (dFn Ah (Ab (dC (.str "river")) (Ab (dC (.str "pump")) Ad))))) (gV 4) El) (sRt (dC .non)))))))
def Gm:List D->DH->R D:=Bd 2 3 Ji
def Hk:DS:=(Ae (sAs (dFn Gm (Ab (dV 0) (Ab (dOp Ag (dV 1) (dFn Az (Ab (dV 5) Ad))) Ad))) (gV 6)) (Ae (sIf (Ai (dOp Jc (dV 6) (dC .non))) (sRt (dC .non)) sNx) (Ae (sEx (Ff Fo (dV 4) (Ab (dOp Ao (dV 6) (dC (.int 0))) Ad))) (Ae (sAs (dOp Ao (dV 6) (dC (.int 1))) (gV 1)) (sAs (dC (.str ", ")) (gV 5))))))
def Hr:DB:=(Ai (dOp Bc (Aj (dSl (dV 0) (xF (dV 1)) (xF (dOp Ag (dV 1) (dFn Az (Ab (dV 5) Ad)))))) (dV 5)))
def Kz:DS:=(Ae (sAs (dFn Fl (Ab (dV 0) (Ab (dV 1) Ad))) (gV 2)) (Ae (sIf (dOr (Ai (dOp Ep (dV 2) (dC (.int 0)))) (Ai (dOp Fe (Aj (dSl (dV 0) (xF (dV 2)) (xF (dOp Ag (dV 2) (dC (.int 1)))))) (dC (.str ":"))))) (sRt (dC .non)) sNx) (Ae (sAs (dFn Ej (Ab (Aj (dSl (dV 0) (xF (dV 1)) (xF (dV 2)))) Ad)) (gV 3)) (Ae (sAs (G7 (dFn Ah Ad)) (gV 4)) (Ae (sAs (dOp Ag (dV 2) (dC (.int 1))) (gV 1)) (Ae (sAs (dC (.str " ")) (gV 5)) (Ae (sWh Hr Hk fuel) (sRt (dFn Ec (Ab (dFn Ec (Ab (dV 3) (Ab (dFn Cw (Ab (dV 4) Ad)) Ad))) (Ab (dV 1) Ad)))))))))))
def H9:List D->DH->R D:=Bd 2 5 Kz
def Eh:DS:=(Ae (sAs (dFn H9 (Ab (dV 0) (Ab (dV 2) Ad))) (gV 3)) (Ae (sIf (Ai (dOp Jc (dV 3) (dC .non))) (sRt (dC .non)) sNx) (Ae (sEx (Ff Fo (dV 1) (Ab (dOp Ao (dV 3) (dC (.int 0))) Ad))) (Ae (sAs (dOp Ao (dV 3) (dC (.int 1))) (gV 2)) (Ae (sIf (Ai (dOp Bc (dV 2) (dFn Az (Ab (dV 0) Ad)))) (sRt (dFn Cw (Ab (dV 1) Ad))) sNx) (Ae (sIf (Ai (dOp Fe (Aj (dSl (dV 0) (xF (dV 2)) (xF (dOp Ag (dV 2) (dC (.int 2)))))) (dC (.str "; ")))) (sRt (dC .non)) sNx) (sAs (dOp Ag (dV 2) (dC (.int 2))) (gV 2))))))))
def Lf:DB:=(Ai (dC (.bl xH)))
def Qh:DS:=(Ae (sAs (G7 (dFn Ah Ad)) (gV 1)) (Ae (sAs (dC (.int 0)) (gV 2)) (sWh Lf Eh fuel)))
def Jz:List D->DH->R D:=Bd 1 3 Qh
def Om:DS:=(Ae (sIf (dOr (Bw (Ai (dFn Ce (Ab (dV 3) (Ab (dC (.ty "tuple")) Ad))))) (dOr (Ai (dOp Fe (dFn Az (Ab (dV 3) Ad)) (dC (.int 3)))) (Bw (Ai (dFn Ce (Ab (dOp Ao (dV 3) (dC (.int 2))) (Ab (dC (.ty "str")) Ad))))))) (sRt (dC (.bl xI))) sNx) (sIf (dOr (Bw (Ai (dFn Ho (Ab (dOp Ao (dV 3) (dC (.int 0))) Ad)))) (Bw (Ai (dFn Ho (Ab (dOp Ao (dV 3) (dC (.int 1))) Ad))))) (sRt (dC (.bl xI))) sNx))
def Oh:DS:=(Ae (sIf (dOr (Bw (Ai (dFn Ce (Ab (dV 2) (Ab (dC (.ty "tuple")) Ad))))) (dOr (Ai (dOp Fe (dFn Az (Ab (dV 2) Ad)) (dC (.int 2)))) (Bw (Ai (dFn Ho (Ab (dOp Ao (dV 2) (dC (.int 0))) Ad)))))) (sRt (dC (.bl xI))) sNx) (Ae (sIf (Bw (Ai (dFn Ce (Ab (dOp Ao (dV 2) (dC (.int 1))) (Ab (dC (.ty "tuple")) Ad))))) (sRt (dC (.bl xI))) sNx) (Dk (Ez (dOp Ao (dV 2) (dC (.int 1)))) (gV 3) Om)))
def ZA5:DS:=(Ae (sIf (dOr (Bw (Ai (dFn Ce (Ab (dV 0) (Ab (dC (.ty "tuple")) Ad))))) (Ai (dOp Fe (dFn Az (Ab (dV 0) Ad)) (dFn Az (Ab (dV 1) Ad))))) (sRt (dC (.bl xI))) sNx) (Ae (Dk (Ez (dV 0)) (gV 2) Oh) (sRt (dOp Bc (dV 0) (dV 1)))))
def Ks:List D->DH->R D:=Bd 2 2 ZA5
def N8:DS:=(Ae (sAs (dOp Ag (dOp Ag (dOp Ag (dOp Ag (dOp Ag (dOp Ag (dV 4) (dV 5)) (dFn Ds (Ab (dV 6) Ad))) (dC (.str "+"))) (dFn Ds (Ab (dV 7) Ad))) (dC (.str " "))) (dV 8)) (gV 4)) (sAs (dC (.str ", ")) (gV 5)))
def M9:DS:=(Ae (sAs (dOp Ag (dFn Ds (Ab (dV 2) Ad)) (dC (.str ":"))) (gV 4)) (Ae (sAs (dC (.str " ")) (gV 5)) (Ae (Dk (Ez (dV 3)) (Do 3 (Bk (gV 6) (Bk (gV 7) (Bk (gV 8) Ef)))) N8) (sEx (Ff Fo (dV 1) (Ab (dV 4) Ad))))))
def ZBA:DS:=(Ae (sAs (G7 (dFn Ah Ad)) (gV 1)) (Ae (Dk (Ez (dV 0)) (Do 2 (Bk (gV 2) (Bk (gV 3) Ef))) M9) (sRt (Dy Gn (dC (.str "; ")) (Ab (dV 1) Ad)))))
def N5:List D->DH->R D:=Bd 1 8 ZBA
def Uw:DS:=(sRt (dFn Ks (Ab (dFn Er (Ab (dV 2) Ad)) (Ab (dV 1) Ad))))
def Q5:DS:=(Ae (sIf (Gs (Ai (dOp Ol (dV 6) (dC .non))) (Bw (Ai (dFn Ks (Ab (dFn Er (Ab (dV 4) Ad)) (Ab (dV 6) Ad)))))) (sRt (dC (.bl xI))) sNx) Uw)
def Qs:DS:=(Ae (sIf (Gs (Ai (dOp Jc (dV 6) (dC .non))) (Bw (Ai (dFn Nm (Ab (dV 4) Ad))))) (sRt (dC (.bl xI))) sNx) Q5)
def Lz:DS:=(Ae (sAs (dFn Jz (Ab (dV 4) Ad)) (gV 6)) Qs)
def Lj:DS:=(Ae (sIf (Ai (dOp Bc (dOp Bf (dOp Ao (dV 3) (dC (.int 10))) (dC (.int 8))) (dC (.int 2)))) (sAs (Aj (dOp Ag (dOp Ag (dFn Ds (Ab (dOp Ag (dOp Fp (dC (.int 10)) (dC (.int 39))) (dOp Ao (dV 3) (dC (.int 11)))) Ad)) (dOp Mf (dC (.str "0")) (dOp Bf (dOp Ao (dV 3) (dC (.int 11))) (dC (.int 4))))) (Aj (dSl (dV 2) (xF (Dy Io (dV 2) (Ab (dC (.str ":")) Ad))) xG)))) (gV 4)) sNx) Lz)
def Lw:DS:=(Ae (sIf (Ai (Ie Ep Ep (dC (.int 2)) (dOp Bf (dOp Ao (dV 3) (dC (.int 10))) (dC (.int 8))) (dC (.int 6)))) (sAs (Aj (dFn O9 (Ab (dV 2) (Ab (dOp Ao (dV 3) (dC (.int 11))) Ad)))) (gV 4)) sNx) Lj)
def Jf:DS:=(Ae (sIf (Ai (dOp Bc (dOp Bf (dOp Ao (dV 3) (dC (.int 10))) (dC (.int 8))) (dC (.int 1)))) (Ae (sAs (Aj (dFn Ah (Ab (dC (.str "")) (Ab (dC (.str "0")) (Ab (dC (.str "0:")) (Ab (dC (.str "00:")) (Ab (dC (.str " 0:")) (Ab (dC (.str "0: ")) (Ab (dC (.str "0:; ")) (Ab (dC (.str "0:;1:")) (Ab (dC (.str "0:; 1:")) (Ab (dC (.str "0: 1+1 river,")) Ad)))))))))))) (gV 5)) (Ae (sAs (Aj (dOp Ag (dV 5) (Aj (dFn Ah (Ab (dC (.str "0: 1+1 river;")) (Ab (dC (.str "0: 1+1")) (Ab (dC (.str "0: 1+1 mill")) (Ab (dC (.str "0:1+1 river")) (Ab (dC (.str "0: 1+01 pump")) (Ab (dC (.str "0: 1 + 1 river")) Ad)))))))))) (gV 5)) (sAs (dOp Ao (dV 5) (dOp Bf (dOp Ao (dV 3) (dC (.int 11))) (dC (.int 16)))) (gV 4)))) sNx) Lw)
def Zy:DS:=(Ae (sAs (Aj (dFn Nb (Ab (dV 2) (Ab (dV 3) Ad)))) (gV 4)) Jf)
def ZAd:DS:=(Ae (sAs (Aj (dFn Hg (Ab (dFn Fy (Ab (dV 0) (Ab (dC (.int 6)) Ad))) (Ab (dC (.int 2)) (Ab (dC (.int 12)) Ad))))) (gV 3)) Zy)
def Zn:DS:=(Ae (sAs (dFn N5 (Ab (dV 1) Ad)) (gV 2)) ZAd)
def Zv:DS:=(Ae (sAs (dFn Ke (Ab (dV 0) (Ab (dC (.int 0)) Ad))) (gV 1)) Zn)
def Im:List D->DH->R D:=Bd 1 6 Zv
def Holds:Prop:=∀ns:List Int,ns.length<=63->(∀m∈ns,m.natAbs.log2<1048576)->∃G,Im [.fl (ns.map D.int)] []=.ok (.bl xH) G
end _W
namespace _W
open PySem _L _D
variable{ns xs:List Int}{k n x:Int}{G:DH}{α:Type}{a i m d:Nat}{l l' L u t v:List Nat}{ls:List (List Nat)}{r:D}
noncomputable abbrev zI(i:Int):Option D:=xF (.int i)
noncomputable abbrev zR(i:Nat):Option D:=xF (.ref i)
noncomputable abbrev zF(xs:List D):Option D:=xF (.fl xs)
noncomputable abbrev zT(xs:List D):Option D:=xF (.tup xs)
noncomputable abbrev zS(x:Str):Option D:=xF (.str x)
noncomputable def cellAt(ns:List Int)(k:Int):Int:=ns.getD k.toNat 0
theorem R6(hk:0<=k):Fy [.fl (ns.map D.int),.int k] G=.ok (.int (cellAt ns k)) G:=by
 unfold Fy Xo cellAt;rw[An];by_cases h:k<ns.length
 ·simp[h];rw[Dz (d:=D.int (ns[k.toNat]'(by lia))) (k:=k.toNat) (by lia) (by rw[zM,zk (by lia)];rfl)];simp[Aq,zk (show k.toNat<ns.length by lia)]
 ·simp[h,Aq,qq (show ns.length<=k.toNat by lia)]
def number(x cell:Int):Int:=if x%4=0 then 0 else if x%4=1/\2147483647<x then x/4%10^38 else if x%4=1 then cell*(x/4+2)%10^38 else x/4%40
def strm:Nat->Int->Int->Int->List Int
 |0,_,_,_=>[]
 |n+1,j,num,left=>(if 0<left then left%10^42 else(num*num+48271*j+11)%2147483647)::strm n (j+1) ((num*num+48271*j+11)%2147483647) (left/10^42)
theorem Xd:∀{n:Nat}{j num left:Int},(strm n j num left).length=n
 |0,_,_,_=>rfl
 |n+1,_,_,_=>by simp[strm,Xd]
theorem Zr:∀{n:Nat}{j num left:Int},∀x∈strm n j num left,0<=x
 |0,_,_,_,x,h=>by cases h
 | n+1,j,num,left,x,h=>by
  simp only[strm,zv]at h;rcases h with rfl|h
  ·split
   ·exact qX _ (by decide)
   ·exact qX _ (by decide)
  ·exact Zr x h
theorem Ys{c k m:D}{G:DH}:∀{n:Nat}{j num left:Int}{acc:List Int}{e:Option D},0<=num->num<2147483647->0<=j->acc.length+n<=1000->∃a b d,Bm (gV 6) Nk (Ck j n) [xF c,xF k,xF m,zI num,zI left,zR G.length,e] (G++[.lst (acc.map D.int)])=
  .nx [xF c,xF k,xF m,a,b,zR G.length,d] (G++[.lst ((acc++strm n j num left).map D.int)])
 |0,j,num,left,acc,e,h1,h2,h3,h4=>⟨zI num,zI left,e,by rw[Kv,G9];simp[strm]⟩
 | n+1,j,num,left,acc,e,h1,h2,h3,h4=>by
  obtain⟨a,b,d,ih⟩:=Ys (c:=c) (k:=k) (m:=m) (G:=G) (n:=n) (j:=j+1) (num:=(num*num+48271*j+11)%2147483647) (left:=left/10^42) (acc:=acc++[if 0<left then left%10^42 else(num*num+48271*j+11)%2147483647]) (e:=zI j) (qX _ (by decide)) (zO _ (by decide)) (by lia) (by simp;lia);refine⟨a,b,d,?_⟩;have hb:Nk [xF c,xF k,xF m,zI num,zI left,zR G.length,zI j] (G++[.lst (acc.map D.int)])=
    .nx [xF c,xF k,xF m,zI ((num*num+48271*j+11)%2147483647),zI (left/10^42),zR G.length,zI j] (G++[.lst ((acc++[if 0<left then left%10^42 else(num*num+48271*j+11)%2147483647]).map D.int)]):=by
   have hl:acc.length<1000000:=by lia
   unfold Nk
   by_cases hl0:0<left<;>simp[Kg (i:=num) (j:=num) (by lia) (by lia),Fv,Cd,hl0,hl,Ht]
  rw[Jv,Dp];simp only[Br,R.Bq,qW,hb,Cq,ih];simp[strm]
structure Stp where
 h:Int
 m:Int
 r:Bool
variable{st:List Stp}{s:Stp}
def wy(r:Bool):Str:=if r then "river" else "pump"
def Stp.enc(s:Stp):D:=.tup [.int s.h,.int s.m,.str (wy s.r)]
@[simp]theorem Mz{n:Nat}:bels n (st.map Stp.enc)=xH:=Gx λs _=>by simp[Stp.enc]
noncomputable abbrev Ssn:=Int×List Stp
variable{ss:List Ssn}
def Af(s:Ssn):D:=.tup [.int s.1,.tup (s.2.map Stp.enc)]
@[simp]theorem Iw{n:Nat}:bels n (ss.map Af)=xH:=Gx λs _=>by simp[Af]
theorem ZHi{A:DO}{ds:List D}{L:DH}(h:bels (G.length+1) ds=xH):freeze (G++[A]) (.ok (.ref (G.length+1)) (G++A:: .lst ds::L))=.ok (.fl ds) (G++[A]):=by have:=Cd (G:=G++[A]) (ds:=ds) (L:=L) (by simpa using h);simpa using this
theorem ZH1{xs:List α}(h:a<=xs.length):cutD xs xG (xF (a:Int))=xs.take a:=by
 have:=(Gi xs.length (a:Int)).1;have e:HT.sIx xs.length xs.length (xF (a:Int))=a:=by lia
 unfold cutD;rw[e];simp[HT.sIx]
theorem W3{xs:List α}(h:a<=xs.length):cutD xs (xF (a:Int)) xG=xs.drop a:=by
 have:=(Gi xs.length (a:Int)).2;have e:HT.sIx xs.length 0 (xF (a:Int))=a:=by lia
 unfold cutD;rw[e];simp only[HT.sIx];exact qC (by simp)
noncomputable def Aa(l:List Nat):Str:=⟨l.toArray⟩
@[simp]theorem Bp:(Aa l).cps.toList=l:=by simp[Aa]
@[simp]theorem Ay:(Aa l).length=l.length:=by simp[Aa,Str.length]
theorem Px:Aa l++Aa l'=Aa (l++l'):=by show Str.append _ _=_;unfold Str.append Aa;simp
theorem U0{s:Str}:s=Aa s.cps.toList:=_D.Lr (by simp)
theorem Dg:(Aa l=Aa l')=(l=l'):=propext ⟨λh=>by have h1:=congrArg (λs:Str=>s.cps.toList) h;simpa using h1,λh=>by rw[h]⟩
theorem Jl{S:List Nat}:StrLaws.At (Aa L) (Aa S) (Aa L).length i↔i+S.length<=L.length/\(L.drop i).take S.length=S:=by unfold StrLaws.At;rw[StrLaws.subAt_eq,Bp,Bp,Ay,Ay];simp
theorem Mh{b:Nat}:Builtin.Str.strSub (Aa L) a b=Aa ((L.drop a).take (b-a)):=_D.Lr (by rw[StrLaws.strSub_toList];simp)
theorem Yo{r s:List Nat}{c:Nat}(hi:i<l.length)(h:((l++r).drop i).take (m+1)=c::s):c∈l:=by rw[qS (by lia),qH hi,qD,List.take_succ_cons]at h;have:=(List.cons.inj h).1;rw[<-this];exact qO hi
theorem ZFm{p q:List Nat}{c:Nat}(hp:c∉p):Txt.partition (Aa (p++c::q)) (Aa [c])=(Aa p,Aa [c],Aa q):=by
 have hat:StrLaws.At (Aa (p++c::q)) (Aa [c]) (Aa (p++c::q)).length p.length:=Jl.mpr ⟨by simp,by simp⟩;have hno:∀k,k<p.length->¬StrLaws.At (Aa (p++c::q)) (Aa [c]) (Aa (p++c::q)).length k:=λk hk h=>by exact hp (Yo hk (Jl.mp h).2)
 rcases PyProof.Rows.partition_whole (Aa (p++c::q)) (Aa [c])with⟨_,h⟩|⟨i,e,h,hn⟩
 ·exact absurd hat (h _)
 ·have hi:i=p.length:=by
   rcases Nat.lt_trichotomy i p.length with z|z|z
   ·exact absurd h (hno i z)
   ·exact z
   ·exact absurd hat (hn _ z)
  subst hi;rw[e,Mh,Mh,Ay,Ay];have e1:((p++c::q).drop 0).take (p.length-0)=p:=by simp
  have e2:((p++c::q).drop (p.length + [c].length)).take ((p++c::q).length-(p.length + [c].length))=q:=by
   have e3:(p++c::q).drop (p.length + [c].length)=q:=by
    rw[<-jj,qS (zJ _),jy]
    rfl
   rw[e3];exact qC (by simp;lia)
  rw[e1,e2]
theorem Zm{c:Nat}:∀(ls:List (List Nat))(l:List Nat)(a f:Nat)(cuts:List Nat),(∀x∈l::ls,c∉x)->L.drop a=Ak [c,d] (l::ls)->a<=L.length->
  StrLaws.ChainG (Aa L) (Aa [c,d]) (Aa L).length a cuts f->(∀k,f<=k->¬StrLaws.At (Aa L) (Aa [c,d]) (Aa L).length k)->StrLaws.partsFrom (Aa L) 2 a cuts=(l::ls).map Aa
 | [],l,a,f,cuts,hc,hd,ha,hch,hn=>by
  have hj:Ak [c,d] [l]=l:=rfl;rw[hj]at hd;have hno:∀k,a<=k->¬StrLaws.At (Aa L) (Aa [c,d]) (Aa L).length k:=λk hk h=>by
   have h1:=(Jl.mp h).2;have e:L.drop k=(L.drop a).drop (k-a):=by rw[jj];congr 1;lia
   rw[e,hd]at h1;cases hq:l.drop (k-a)with
   |nil=>rw[hq]at h1;cases h1
   |cons x r=>
    rw[hq]at h1;simp at h1;exact hc l (by simp) (h1.1▸List.mem_of_mem_drop (hq▸zU ..))
  cases cuts with
  |nil=>
   show[Builtin.Str.strSub (Aa L) a (Aa L).length]=[Aa l];rw[Mh,Ay,hd]
   congr 2
   have:l.length=L.length-a:=by rw[<-hd];simp
   exact qC (by lia)
  |cons k r=>exact absurd hch.2.1 (hno k hch.1)
 | l'::ls,l,a,f,cuts,hc,hd,ha,hch,hn=>by
  have hj:Ak [c,d] (l::l'::ls)=l++[c,d]++Ak [c,d] (l'::ls):=rfl;rw[hj]at hd;have hlen:L.length=a+(l.length+2+(Ak [c,d] (l'::ls)).length):=by have:=congrArg qE hd;simp at this;lia
  have e1:L.drop (a+l.length)=[c,d]++Ak [c,d] (l'::ls):=by rw[<-jj,hd];simp
  have hat:StrLaws.At (Aa L) (Aa [c,d]) (Aa L).length (a+l.length):=Jl.mpr ⟨by simp;lia,by rw[e1];simp⟩;have hno:∀k,a<=k->k<a+l.length->¬StrLaws.At (Aa L) (Aa [c,d]) (Aa L).length k:=λk h1 h2 h=>by
   have h3:=(Jl.mp h).2;have e:L.drop k=(L.drop a).drop (k-a):=by rw[jj];congr 1;lia
   have hk:k-a<l.length:=by lia
   rw[e,hd,qJ]at h3;exact hc l (by simp) (Yo hk h3)
  cases cuts with
  |nil=>
   have hf:f=a:=hch;exact absurd hat (hn _ (by lia))
  | cons k r=>
   obtain⟨h1,h2,h3,h4⟩:=hch;have hk:k=a+l.length:=by
    rcases Nat.lt_trichotomy k (a+l.length)with z|z|z
    ·exact absurd h2 (hno k h1 z)
    ·exact z
    ·exact absurd hat (h3 _ (by lia) z)
   subst hk;have h4':StrLaws.ChainG (Aa L) (Aa [c,d]) (Aa L).length (a+l.length+2) r f:=h4;have ih:=Zm ls l' (a+l.length+2) f r (λx hx=>hc x (zW _ hx)) (by rw[<-jj,e1];simp) (by lia) h4' hn;show Builtin.Str.strSub (Aa L) a (a+l.length)::StrLaws.partsFrom (Aa L) 2 (a+l.length+2) r=Aa l::_;rw[ih,Mh,hd]
   congr 2
   rw[show a+l.length-a=l.length by lia,qJ,List.take_append_of_le_length (zJ _),qP]
theorem ZEk{c:Nat}(hc:∀x∈l::ls,c∉x)(hcd:c<256/\d<256):Txt.split (Aa (Ak [c,d] (l::ls))) (Aa [c,d])=(l::ls).map Aa:=by
 have key:=StrLaws.occ_tight (Aa (Ak [c,d] (l::ls))) (Aa [c,d]) (by simp);obtain⟨f,h1,h2⟩:=key;have hp:=Zm (c:=c) (d:=d) (L:=Ak [c,d] (l::ls)) ls l 0 f _ hc rfl (by lia) h1 h2;cases ls with
 | nil=>
  have hj:Ak [c,d] [l]=l:=rfl;rw[hj]at*;unfold Txt.split;split
  ·rfl
  ·split
   ·rfl
   ·rw[StrLaws.partsBetween_eq];exact hp
 | cons l' ls=>
  have hat:StrLaws.At (Aa (Ak [c,d] (l::l'::ls))) (Aa [c,d]) (Aa (Ak [c,d] (l::l'::ls))).length l.length:=Jl.mpr (by have hj:Ak [c,d] (l::l'::ls)=l++[c,d]++Ak [c,d] (l'::ls):=rfl;rw[hj];exact⟨by simp,by simp⟩)
  unfold Txt.split;rw[if_neg,if_neg]
  ·rw[StrLaws.partsBetween_eq];exact hp
  ·intro he;have h0:Builtin.Str.occurrences (Aa (Ak [c,d] (l::l'::ls))) (Aa [c,d]) 0 (Aa (Ak [c,d] (l::l'::ls))).length ((Aa (Ak [c,d] (l::l'::ls))).length+1)=[]:=List.isEmpty_iff.mp he;rw[h0]at h1;have hf:f=0:=h1;exact h2 l.length (by lia) hat
  ·have hk:Builtin.Str.strKind (Aa [c,d])=1:=by unfold Builtin.Str.strKind Aa;rw[if_pos];simp[hcd.1,hcd.2]
   have hk2:1<=Builtin.Str.strKind (Aa (Ak [c,d] (l::l'::ls))):=by
    unfold Builtin.Str.strKind;split
    ·exact zJ _
    ·split <;> lia
   have hl:=hat.1;rw[hk];simp only[Bool.or_eq_true,decide_eq_true_eq,not_or];lia
theorem ZCD{sep:List Nat}:Txt.join (Aa sep) (ls.map Aa)=Aa (Ak sep ls):=_D.Lr (by
 rw[ZHy,Bp,Bp,List.map_map]
 congr 1
 have:((λx:Str=>x.cps.toList)∘Aa)=id:=by funext l;simp
 rw[this,List.map_id])
theorem Td{sep:List Nat}{B:Nat}:∀(ls:List (List Nat)),(∀l∈ls,l.length<=B)->(Ak sep ls).length<=ls.length*(B+sep.length)
 |[],_=>by simp[Ak]
 |[x],h=>by have:=h x (by simp);show x.length<=1*(B+sep.length);lia
 |x::y::r,h=>by
  have h1:=h x (by simp);have ih:=Td (sep:=sep) (y::r) λl hl=>h l (zW _ hl)
  show(x++sep++Ak sep (y::r)).length<=(y::r).length.succ*(B+sep.length);rw[zK,zK,Nat.succ_mul];lia
noncomputable def num(n:Int):List Nat:=(q8 10 n.toNat).map Char.toNat
theorem ZBR(h:0<=n):Str.ofString (toString n)=Aa (num n):=by obtain⟨m,rfl⟩:=Int.eq_ofNat_of_zero_le h;refine _D.Lr ?_;rw[Bp];exact PySem.W.KIN.signs_num m
theorem G6:∀c∈num n,48<=c/\c<=57:=λc hc=>by
 obtain⟨ch,hch,e⟩:=q0.mp hc;have r:=Nat.isDigit_of_mem_toDigits (by decide) (by decide) hch;rw[<-e];have h1:48<=ch.toNat/\ch.toNat<=57:=by unfold Char.isDigit at r;simp at r;exact⟨r.1,r.2⟩
 exact h1
theorem ZDK(n:Nat):NumText.digitsVal (num n)=n:=by unfold num;exact PySem.W.KIN.val_back n
theorem O4(h:¬m<10):q8 10 m=q8 10 (m/10)++[Nat.digitChar (m%10)]:=by have hm:m%10<10:=Nat.mod_lt m (by decide);have t:q8 10 (m/10)++q8 10 (m%10)=q8 10 (10*(m/10)+m%10):=Nat.toDigits_append_toDigits (by decide) (by lia) hm;rw[Nat.div_add_mod]at t;rw[<-t,q9 hm]
theorem Tr:∀(k m:Nat),1<=k->m<10^k->(q8 10 m).length<=k
 |0,m,h,_=>by lia
 | k+1,m,_,h=>by
  by_cases hm:m<10
  ·rw[q9 hm];simp
  ·rw[O4 hm,zK];have hk:1<=k:=by
    cases k with
    |zero=>lia
    |succ k=>lia
   have h1:m/10<10^k:=by rw[Nat.pow_succ]at h;lia
   have:=Tr k (m/10) hk h1;simp;lia
theorem ZFf(m:Nat):q8 10 m≠[]:=by
 by_cases hm:m<10
 ·rw[q9 hm];simp
 ·rw[O4 hm];simp
theorem Ss:∀d:Nat,d<10->(Nat.digitChar d).toNat=48+d:=by decide
theorem ZHq(m:Nat):m≠0->∃c r,q8 10 m=c::r/\c.toNat≠48:=by
 induction m using Nat.strongRecOn with
 |_ m ih=>
  intro h0;by_cases hm:m<10
  ·rw[q9 hm];refine⟨_,[],rfl,?_⟩;rw[Ss m hm];lia
  ·obtain⟨c,r,e,hc⟩:=ih (m/10) (by lia) (by lia);rw[O4 hm,e];exact⟨c,r++[Nat.digitChar (m%10)],rfl,hc⟩
theorem ZBk:num n≠[]:=by unfold num;intro e;exact ZFf _ (List.map_eq_nil_iff.mp e)
theorem Dw(h1:n<10^40):(num n).length<=40:=by
 unfold num;rw[zy];refine Tr 40 n.toNat (by decide) ?_;have h2:(10:Int)^40=((10^40:Nat):Int):=by decide
 rw[h2]at h1;have h3:0<10^40:=by decide
 generalize 10^40=N at*;lia
theorem ZC4(h0:0<=n):n=0∨∃c r,num n=c::r/\c≠48:=by
 by_cases h:n=0
 ·exact .inl h
 ·obtain⟨c,r,e,hc⟩:=ZHq n.toNat (by lia);refine .inr ⟨c.toNat,r.map Char.toNat,?_,hc⟩;unfold num;rw[e]
  rfl
theorem ZBM(h0:0<=n)(h1:n<10^40):PySem.intText? (Aa (num n))=xF n:=by have hl:=Dw h1;have:=intText_digits (x:=Aa (num n)) (by rw[Bp];exact G6) (by rw[Bp];exact ZBk) (by rw[Ay];lia);rw[Bp]at this;rw[this];obtain⟨m,rfl⟩:=Int.eq_ofNat_of_zero_le h0;rw[ZDK]
theorem ZHh(h0:0<=n)(h1:n<10^40):n.natAbs.log2<1920:=by
 by_cases hz:n.natAbs=0
 ·rw[hz];decide
 ·rw[Nat.log2_lt hz];have h2:(10:Int)^40=((10^40:Nat):Int):=by decide
  have h3:(10:Nat)^40<2^200:=by decide
  have h4:(2:Nat)^200<=2^1920:=j2 (by decide) (by decide);rw[h2]at h1;have h5:n.natAbs<10^40:=by generalize 10^40=N at*;lia
  exact zZ (Nat.lt_trans h5 h3) h4
theorem Uy(h0:0<=n)(h1:n<10^40)(G:DH):Ds [.int n] G=.ok (.str (Aa (num n))) G:=by
 have e:Ds [.int n] G=if n.natAbs.log2<1920 then .ok (.str (Str.ofString (toString n))) G else .bad:=rfl
 rw[e,if_pos (ZHh h0 h1),ZBR h0]
theorem W5{c:Nat}{x:Nat}:Txt.startswith (Aa (c::l)) (Aa [x])=decide (c=x):=by
 unfold Txt.startswith;rw[StrLaws.subAt_eq,Bp,Bp,Ay,Ay];by_cases h:c=x
 ·subst h;simp
 ·simp[h]
theorem ZEs:("0123456789":Str).cps.toList=[48,49,50,51,52,53,54,55,56,57]:=by decide +kernel
theorem in_L{c:Nat}:(!(Builtin.Str.occurrences (Aa l) (Aa [c]) 0 (Aa l).length 1).isEmpty)=decide (c∈l):=by
 have hat:c∈l↔∃i,StrLaws.At (Aa l) (Aa [c]) (Aa l).length i:=by have:=PyProof.Rows.mem_iff_at (Aa l) c;rw[Bp]at this;exact this
 rcases StrLaws.occ_head (Aa l) (Aa [c]) 1 (zJ 1)with⟨h0,hn⟩|⟨i,r,h0,hi,hn⟩
 ·rw[h0];have:¬c∈l:=λh=>by obtain⟨i,hi⟩:=hat.mp h;exact hn i hi
  simp[this]
 ·rw[h0];have:c∈l:=hat.mpr ⟨i,hi⟩;simp[this]
theorem ZCQ(c:Nat)(G:DH):Jd (sgn c) (.str ("0123456789":Str)) G=.ok (.bl (decide (48<=c/\c<=57))) G:=by
 have e:inD (sgn c) (.str ("0123456789":Str)) G=xF (decide (48<=c/\c<=57)):=by
  show xF (!(Builtin.Str.occurrences ("0123456789":Str) (Aa [c]) 0 ("0123456789":Str).length 1).isEmpty)=_
  rw[show("0123456789":Str)=Aa [48,49,50,51,52,53,54,55,56,57]from _D.Lr (by rw[Bp];exact ZEs),in_L]
  congr 1
  rw[decide_eq_decide];simp only[zv,List.not_mem_nil,or_false];omega +splitNatSub
 unfold Jd;rw[e]
theorem ZBH(G:DH):∀l:List Nat,Bj (gV 0) Di Mj [xG] (l.map sgn) G=.ok ((l.map λc=>decide (48<=c/\c<=57)).map D.bl) G
 |[]=>rfl
 |c::l=>by
  have ih:=ZBH G l;have he:Mj [xF (sgn c)] G=.ok (.bl (decide (48<=c/\c<=57))) G:=by have:=ZCQ c G;unfold Mj;generalize sgn c=z at*;generalize("0123456789":Str)=F at*;generalize decide (48<=c/\c<=57)=b at*;simp[this]
  rw[zV,Gj];simp[he,ih]
def IsN(l:List Nat):Prop:=(1<=l.length/\l.length<=40)/\(∀c∈l,48<=c/\c<=57)/\(l=[48]∨∀r,l≠48::r)
theorem starts0:Txt.startswith (Aa l) ("0":Str)=xH↔∃r,l=48::r:=by
 have e0:("0":Str)=Aa [48]:=by decide +kernel
 rw[e0];cases l with
 |nil=>
  have:Txt.startswith (Aa []) (Aa [48])=xI:=by decide +kernel
  rw[this];simp
 |cons c r=>
  rw[W5];simp
open Classical in
theorem V7(hl:l.length<=1000000)(G:DH):Gz [.str (Aa l)] G=.ok (.bl (decide (IsN l))) G:=by
 have hc:=ZBH G l;have fz:freeze G (.ok (.ref G.length) (G++[.lst ((l.map λc=>decide (48<=c/\c<=57)).map D.bl)]))=.ok (.fl ((l.map λc=>decide (48<=c/\c<=57)).map D.bl)) G:=Cd (Gx λ_ _=>rfl);have al:Ga [.fl ((l.map λc=>decide (48<=c/\c<=57)).map D.bl)] G=.ok (.bl (decide (∀c∈l,48<=c/\c<=57))) G:=by
  rw[Jj]
  congr 2
  rw[Bool.eq_iff_iff];simp
 have ll:((l.map λc=>decide (48<=c/\c<=57)).map D.bl).length<=1000000:=by simp;lia
 have hs:Eu (.str (Aa l)) G=.ok (.pure (l.map sgn)) G:=by show R.ok (ItD.pure (signs (Aa l))) G=_;unfold signs;rw[Bp]
 have i0:(Aa l).length<=1000000:=by rw[Ay];lia
 have hcs:∀S:DSt,Ar 1 [] S=[xG]:=λ_=>rfl
 have e0:(Aa l=("0":Str))=(l=[48]):=by rw[show("0":Str)=Aa [48] by decide +kernel,Dg]
 have hst:=starts0 (l:=l);have hlen:(Aa l).length=l.length:=Ay;by_cases h1:1<=l.length/\l.length<=40
 ·by_cases h2:∀c∈l,48<=c/\c<=57
  ·have al':Ga [.fl ((l.map λc=>decide (48<=c/\c<=57)).map D.bl)] G=.ok (.bl xH) G:=by rw[al,decide_eq_true h2]
   have i1:(1:Int)<=((Aa l).length:Int):=by rw[hlen];lia
   have i2:((Aa l).length:Int)<=40:=by rw[hlen];lia
   have i3:(Aa l).length<=40:=by rw[hlen];lia
   have i4:1<=(Aa l).length:=by rw[hlen];lia
   by_cases h3:l=[48]
   ·have hz:decide (IsN l)=xH:=decide_eq_true ⟨h1,h2,.inl h3⟩;have hz':(Aa l=("0":Str))=True:=by rw[e0];simp[h3]
    rw[hz];generalize(l.map λc=>decide (48<=c/\c<=57)).map D.bl=Z at*;generalize Aa l=X at*;unfold Gz Iz;rw[An];simp[-Jj,-M6,i0,i1,i2,i3,i4,hs,hcs,hc,ll,fz,al',hz',Aq]
   ·have hz':(Aa l=("0":Str))=False:=by rw[e0];simp[h3]
    have hd:decide (IsN l)= !(Txt.startswith (Aa l) ("0":Str)):=by
     cases hq:Txt.startswith (Aa l) ("0":Str)with
     | true=>
      obtain⟨r,hr⟩:=hst.mp hq;exact decide_eq_false λz=>by
       rcases z.2.2 with z|z
       ·exact h3 z
       ·exact z r hr
     |false=>
      exact decide_eq_true ⟨h1,h2,.inr λr hr=>by rw[hst.mpr ⟨r,hr⟩]at hq;cases hq⟩
    rw[hd];generalize(l.map λc=>decide (48<=c/\c<=57)).map D.bl=Z at*;generalize Aa l=X at*;generalize hbb:Txt.startswith X ("0":Str)=b at*;unfold Gz Iz;rw[An];simp[-Jj,-M6,i0,i1,i2,i3,i4,hs,hcs,hc,ll,fz,al',hz',hbb,Aq]
  ·have al':Ga [.fl ((l.map λc=>decide (48<=c/\c<=57)).map D.bl)] G=.ok (.bl xI) G:=by rw[al,decide_eq_false h2]
   have i1:(1:Int)<=((Aa l).length:Int):=by rw[hlen];lia
   have i2:((Aa l).length:Int)<=40:=by rw[hlen];lia
   have i3:(Aa l).length<=40:=by rw[hlen];lia
   have i4:1<=(Aa l).length:=by rw[hlen];lia
   have hz:decide (IsN l)=xI:=decide_eq_false λz=>h2 z.2.1
   rw[hz];generalize(l.map λc=>decide (48<=c/\c<=57)).map D.bl=Z at*;generalize Aa l=X at*;unfold Gz Iz;rw[An];simp[-Jj,-M6,i0,i1,i2,i3,i4,hs,hcs,hc,ll,fz,al',Aq]
 ·have hz:decide (IsN l)=xI:=decide_eq_false λz=>h1 z.1
  have i5:¬(1<=(Aa l).length/\(Aa l).length<=40):=by rw[hlen];exact h1
  rw[hz];by_cases h6:1<=(Aa l).length
  ·have i6:(1:Int)<=((Aa l).length:Int):=by lia
   have i7:¬((Aa l).length:Int)<=40:=by lia
   have i8:¬(Aa l).length<=40:=by lia
   generalize Aa l=X at*;unfold Gz Iz;rw[An];simp[-Jj,-M6,i0,h6,i6,i7,i8,Aq]
  ·have i6:¬(1:Int)<=((Aa l).length:Int):=by lia
   generalize Aa l=X at*;unfold Gz Iz;rw[An];simp[-Jj,-M6,i0,h6,i6,Aq]
theorem Ud(l:List Nat)(c:Nat):NumText.digitsVal (l++[c])=NumText.digitsVal l*10+(c-48):=by
 unfold NumText.digitsVal;rw[List.foldl_append]
 rfl
theorem ZBz:∀(k:Nat)(l:List Nat),l.length=k->(∀c∈l,48<=c/\c<=57)->NumText.digitsVal l<10^k:=by
 intro k
 induction k with
 |zero=>
  intro l hl _;rw[List.length_eq_zero_iff.mp hl]
  decide
 |succ k ih=>
  intro l hl hd;have hne:l≠[]:=λz=>by rw[z]at hl;cases hl
  have e:=List.dropLast_concat_getLast hne;have h1:=ih l.dropLast (by rw[List.length_dropLast];lia) λc hc=>hd c (List.dropLast_subset l hc)
  have h2:=hd _ (List.getLast_mem hne);rw[<-e,Ud,Nat.pow_succ];lia
theorem ZDu:∀(k:Nat)(l:List Nat),l.length=k+1->(∀c∈l,48<=c/\c<=57)->(l=[48]∨∀r,l≠48::r)->(q8 10 (NumText.digitsVal l)).map Char.toNat=l:=by
 intro k
 induction k with
 |zero=>
  intro l hl hd _;obtain⟨c,rfl⟩:=List.length_eq_one_iff.mp hl;have hc:=hd c (by simp);have e:NumText.digitsVal [c]=c-48:=by have:=Ud [] c;simpa[NumText.digitsVal]using this
  rw[e,q9 (by lia)];simp[Ss (c-48) (by lia)];lia
 | succ k ih=>
  intro l hl hd hz;have hne:l≠[]:=λz=>by rw[z]at hl;cases hl
  have e:=List.dropLast_concat_getLast hne;have hc:=hd _ (List.getLast_mem hne);generalize l.getLast hne=c at*;have hl':l.dropLast.length=k+1:=by rw[List.length_dropLast];lia
  generalize l.dropLast=m at*;subst e;have hm:∀r,m≠48::r:=λr z=>by
   rcases hz with hz|hz
   ·have:=congrArg qE hz;simp at this;rw[this]at hl';simp at hl'
   ·exact hz (r++[c]) (by rw[z];rfl)
  have h1:=ih m hl' (λx hx=>hd x (qI _ hx)) (.inr hm);have hpos:1<=NumText.digitsVal m:=by
   rcases Nat.eq_zero_or_pos (NumText.digitsVal m)with z|z
   ·rw[z]at h1;have e0:(q8 10 0).map Char.toNat=[48]:=by decide
    rw[e0]at h1;exact absurd h1.symm (hm [])
   ·exact z
  have e2:NumText.digitsVal (m++[c])=NumText.digitsVal m*10+(c-48):=Ud m c;rw[O4 (by lia),e2];have d1:(NumText.digitsVal m*10+(c-48))/10=NumText.digitsVal m:=by lia
  have d2:(NumText.digitsVal m*10+(c-48))%10=c-48:=by lia
  rw[d1,d2,qy,h1];simp[Ss (c-48) (by lia)];lia
theorem J6(h:IsN l):∃n:Int,(0<=n/\n<10^40)/\l=num n:=by
 obtain⟨⟨h1,h2⟩,h3,h4⟩:=h;obtain⟨k,hk⟩:∃k,l.length=k+1:=⟨l.length-1,by lia⟩;refine⟨((NumText.digitsVal l:Nat):Int),⟨by lia,?_⟩,?_⟩
 ·have h5:=ZBz _ l rfl h3;have h6:10^l.length<=10^40:=j2 (by decide) h2;have h7:(10:Int)^40=((10^40:Nat):Int):=by decide
  rw[h7];generalize 10^40=N at*;lia
 ·have:=ZDu k l hk h3 h4;unfold num;rw[Int.toNat_natCast];exact this.symm
theorem Nt(h0:0<=n)(h1:n<10^40):IsN (num n):=by
 refine⟨⟨List.length_pos_iff.mpr ZBk,Dw h1⟩,G6,?_⟩;rcases ZC4 h0 with rfl|⟨c,r,e,hc⟩
 ·exact .inl (by decide +kernel)
 ·refine .inr λq hq=>?_
  rw[e]at hq;exact hc (List.cons.inj hq).1
noncomputable abbrev NT:Xn:=⟨"NoText",[("row",.int 0)]⟩
open Classical in
theorem Kf(h0:0<=n)(h1:n<10^40)(G:DH):Gw [.str (Aa (num n)),r] G=.ok (.int n) G:=by
 have hl:=Dw h1;have hr:=ZBM h0 h1;have hit:Ej [.str (Aa (num n))] G=.ok (.int n) G:=by unfold Ej;simp only[hr];rw[if_pos (by rw[Ay];lia)]
 have hn:=V7 (l:=num n) (by lia) G;rw[decide_eq_true (Nt h0 h1)]at hn;generalize Aa (num n)=X at*;unfold Gw Us;rw[An];simp[nerr,hn,hit,Aq]
open Classical in
theorem Ry(hl:l.length<=1000000)(h:¬IsN l)(G:DH):Gw [.str (Aa l),.int 0] G=.err NT G:=by have hn:=V7 hl G;rw[decide_eq_false h]at hn;generalize Aa l=X at*;unfold Gw Us;rw[An];simp[nerr,hn,sRz,Aq]
def wyL(r:Bool):List Nat:=if r then[114,105,118,101,114]else[112,117,109,112]
theorem Jb{r:Bool}:wy r=Aa (wyL r):=by cases r<;>decide +kernel
def stL(s:Stp):List Nat:=num s.h++43::(num s.m++32::wyL s.r)
def Cy:List Stp->List Nat
 |[]=>[]
 |s::r=>32::Ak [44,32] ((s::r).map stL)
def snL(s:Ssn):List Nat:=num s.1++58::Cy s.2
def ruL(r:List Ssn):List Nat:=Ak [59,32] (r.map snL)
def StpOk(s:Stp):Prop:=(0<=s.h/\s.h<10^40)/\(0<=s.m/\s.m<10^40)
def SsnOk(s:Ssn):Prop:=(0<=s.1/\s.1<10^40)/\s.2.length<=4/\∀t∈s.2,StpOk t
structure RuOk (r:List Ssn):Prop where
 ne:r≠[]
 len:r.length<=5
 ok:∀s∈r,SsnOk s
theorem Je{c:Nat}(h:c<48∨57<c):c∉num n:=λhc=>by have:=G6 c hc;lia
theorem Qy{r:Bool}:(wyL r).length<=5:=by cases r<;>decide
theorem ZBt{r:Bool}{c:Nat}(h:c<97):c∉wyL r:=λhc=>by cases r<;>simp[wyL]at hc<;>lia
theorem V5(h:StpOk s):(stL s).length<=87:=by have h1:=Dw h.1.2;have h2:=Dw h.2.2;have h3:=Qy (r:=s.r);simp[stL];lia
theorem Ws{c:Nat}(h:c=44∨c=59):c∉stL s:=λhc=>by
 unfold stL at hc;rcases qY.mp hc with h1|h1
 ·exact Je (by lia) h1
 ·rcases zv.mp h1 with h1|h1
  ·lia
  ·rcases qY.mp h1 with h1|h1
   ·exact Je (by lia) h1
   ·rcases zv.mp h1 with h1|h1
    ·lia
    ·exact ZBt (by lia) h1
theorem Wu{sep:List Nat}{c:Nat}:∀(ls:List (List Nat)),c∈Ak sep ls->c∈sep∨∃l∈ls,c∈l
 |[],h=>by cases h
 |[x],h=>.inr ⟨x,by simp,h⟩
 | x::y::r,h=>by
  have h':c∈x++sep++Ak sep (y::r):=h;rcases qY.mp h' with h1|h1
  ·rcases qY.mp h1 with h1|h1
   ·exact .inr ⟨x,by simp,h1⟩
   ·exact .inl h1
  ·rcases Wu (sep:=sep) (y::r) h1 with h2|⟨l,hl,h2⟩
   ·exact .inl h2
   ·exact .inr ⟨l,zW _ hl,h2⟩
theorem ZCh:59∉Cy st:=λhc=>by
 cases st with
 |nil=>cases hc
 | cons s r=>
  rcases zv.mp hc with h|h
  ·lia
  ·rcases Wu _ h with h|⟨l,hl,h⟩
   ·simp at h
   ·obtain⟨t,_,rfl⟩:=q0.mp hl;exact Ws (.inr rfl) h
theorem ZGu{s:Ssn}:59∉snL s:=λhc=>by
 unfold snL at hc;rcases qY.mp hc with h1|h1
 ·exact Je (by lia) h1
 ·rcases zv.mp h1 with h1|h1
  ·lia
  ·exact ZCh h1
theorem ZCk(hl:st.length<=4)(h:∀t∈st,StpOk t):(Cy st).length<=400:=by
 cases st with
 |nil=>simp[Cy]
 |cons s r=>
  have:=Td (sep:=[44,32]) (B:=87) ((s::r).map stL) λl hl=>by obtain⟨t,ht,rfl⟩:=q0.mp hl;exact V5 (h t ht)
  rw[zy]at this;have h2:(s::r).length*(87 + [44,32].length)<=4*(87 + [44,32].length):=qL _ hl;show(Ak [44,32] ((s::r).map stL)).length+1<=400;simp only[zz,qR]at h2 this;lia
theorem S6{s:Ssn}(h:SsnOk s):(snL s).length<=450:=by have h1:=Dw h.1.2;have h2:=ZCk h.2.1 h.2.2;simp[snL];lia
theorem Su{r:List Ssn}(h:RuOk r):(ruL r).length<=2260:=by
 have:=Td (sep:=[59,32]) (B:=450) (r.map snL) λl hl=>by obtain⟨t,ht,rfl⟩:=q0.mp hl;exact S6 (h.ok t ht)
 rw[zy]at this;have h2:r.length*(450 + [59,32].length)<=5*(450 + [59,32].length):=qL _ h.len;unfold ruL;simp only[zz,qR]at h2 this;lia
theorem K1{p q:List Nat}{c:Nat}(hp:c∉p)(hl:(p++c::q).length<=1000000)(G:DH):Fw (.str (Aa (p++c::q))) [.str (Aa [c])] G=.ok (.tup [.str (Aa p),.str (Aa [c]),.str (Aa q)]) G:=by
 have e:Fw (.str (Aa (p++c::q))) [.str (Aa [c])] G=if(Aa [c]).length≠0/\(Aa (p++c::q)).length<=1000000 then .ok (.tup (part3 (Aa (p++c::q)) (Aa [c]))) G else .bad:=rfl
 rw[e,if_pos ⟨by simp,by rw[Ay];exact hl⟩];unfold part3;rw[ZFm hp]
theorem ZEw{c:Nat}(h:c∉l):Txt.partition (Aa l) (Aa [c])=(Aa l,Str.empty,Str.empty):=by
 rcases PyProof.Rows.partition_whole (Aa l) (Aa [c])with⟨e,_⟩|⟨i,e,hi,hn⟩
 ·exact e
 ·have:c∈l:=by have:=(PyProof.Rows.mem_iff_at (Aa l) c).mpr ⟨i,hi⟩;rwa[Bp]at this
  exact absurd this h
theorem Oq{c:Nat}(h:c∉l)(hl:l.length<=1000000)(G:DH):Fw (.str (Aa l)) [.str (Aa [c])] G=.ok (.tup [.str (Aa l),.str "",.str ""]) G:=by
 have e:Fw (.str (Aa l)) [.str (Aa [c])] G=if(Aa [c]).length≠0/\(Aa l).length<=1000000 then .ok (.tup (part3 (Aa l) (Aa [c]))) G else .bad:=rfl
 rw[e,if_pos ⟨by simp,by rw[Ay];exact hl⟩];unfold part3;rw[ZEw h]
 rfl
theorem Z5{r:Bool}(G:DH):Gb (.str (Aa (wyL r))) (.tup [.str "river",.str "pump"]) G=.ok (.bl xI) G:=by
 have:∀r:Bool,inD (.str (Aa (wyL r))) (.tup [.str "river",.str "pump"]) []=xF xH:=by decide +kernel
 have e:inD (.str (Aa (wyL r))) (.tup [.str "river",.str "pump"]) G=inD (.str (Aa (wyL r))) (.tup [.str "river",.str "pump"]) []:=rfl;unfold Gb;rw[e,this]
 rfl
theorem ZAK{w:Str}(h:∀r,w≠wy r)(G:DH):Gb (.str w) (.tup [.str "river",.str "pump"]) G=.ok (.bl xH) G:=by
 have h1:w≠"river":=h xH;have h2:w≠"pump":=h xI;have e:inD (.str w) (.tup [.str "river",.str "pump"]) G=xF xI:=by simp[inD,Cj,M8,Jm,inV,eqV,Ne.symm h1,Ne.symm h2]
 unfold Gb;rw[e]
 rfl
theorem ZBr(h:StpOk s)(G:DH):Fx [.str (Aa (stL s)),r] G=.ok s.enc G:=by
 have h1:=Dw h.1.2;have h2:=Dw h.2.2;have h3:=Qy (r:=s.r);have p1:=λG=>K1 (p:=num s.h) (q:=num s.m++32::wyL s.r) (c:=43) (Je (by lia)) (by simp;lia) G
 have p2:=λG=>K1 (p:=num s.m) (q:=wyL s.r) (c:=32) (Je (by lia)) (by simp;lia) G
 have e1:("+":Str)=Aa [43]:=by decide +kernel
 have e2:(" ":Str)=Aa [32]:=by decide +kernel
 rw[<-e1]at p1;rw[<-e2]at p2;have n1:=λG=>Kf h.1.1 h.1.2 (r:=r) G
 have n2:=λG=>Kf h.2.1 h.2.2 (r:=r) G
 have w:=λG=>Z5 (r:=s.r) G
 have es:stL s=num s.h++43::(num s.m++32::wyL s.r):=rfl;rw[es];unfold Stp.enc;rw[Jb];generalize Aa (num s.h++43::(num s.m++32::wyL s.r))=X1 at*;generalize Aa (num s.m++32::wyL s.r)=X2 at*;generalize Aa (num s.h)=X3 at*;generalize Aa (num s.m)=X4 at*;generalize Aa (wyL s.r)=X5 at*;unfold Fx Ig;rw[An];simp[p1,p2,w,n1,n2,Aq]
theorem ZFC(G:DH):Gb (.str "") (.tup [.str "river",.str "pump"]) G=.ok (.bl xH) G:=ZAK (λr=>by cases r<;>decide +kernel) G
theorem ZDy(hl:l.length<=1000000)(G:DH):(∃s,StpOk s/\l=stL s)∨Fx [.str (Aa l),.int 0] G=.err NT G:=by
 have e1:("+":Str)=Aa [43]:=by decide +kernel
 have e2:(" ":Str)=Aa [32]:=by decide +kernel
 have e3:("":Str)=Aa []:=by decide +kernel
 have we:=ZFC G;have pe:=Oq (l:=[]) (c:=32) (by simp) (by simp) G;rw[<-e2,<-e3]at pe;by_cases h1:43∈l
 ·obtain⟨p,q,rfl,hp⟩:=jX h1;have p1:=K1 (q:=q) hp hl G;rw[<-e1]at p1;have hpl:p.length<=1000000:=by rw[zK,zz]at hl;lia
  have hql:q.length<=1000000:=by rw[zK,zz]at hl;lia
  by_cases h2:32∈q
  ·obtain⟨m,w,rfl,hm⟩:=jX h2;have p2:=K1 (q:=w) hm hql G;rw[<-e2]at p2;have hml:m.length<=1000000:=by rw[zK,zz]at hql;lia
   by_cases h3:∃r,Aa w=wy r
   ·obtain⟨r,hr⟩:=h3;have hw:w=wyL r:=by rw[Jb,Dg]at hr;exact hr
    have w1:=Z5 (r:=r) G;rw[<-Jb,<-hr]at w1;by_cases hN1:IsN p
    ·obtain⟨n1,⟨k1,k2⟩,rfl⟩:=J6 hN1;have c1:=Kf k1 k2 (r:=.int 0) G;by_cases hN2:IsN m
     ·obtain⟨n2,⟨k3,k4⟩,rfl⟩:=J6 hN2;exact .inl ⟨⟨n1,n2,r⟩,⟨⟨k1,k2⟩,k3,k4⟩,by rw[hw];rfl⟩
     ·have c2:=Ry hml hN2 G;refine .inr ?_;generalize Aa (num n1++43::(m++32::w))=X1 at*;generalize Aa (m++32::w)=X2 at*;generalize Aa (num n1)=X3 at*;generalize Aa m=X4 at*;generalize Aa w=X5 at*;unfold Fx Ig;rw[An];simp[p1,p2,w1,c1,c2,Aq]
    ·have c1:=Ry hpl hN1 G;refine .inr ?_;generalize Aa (p++43::(m++32::w))=X1 at*;generalize Aa (m++32::w)=X2 at*;generalize Aa p=X3 at*;generalize Aa m=X4 at*;generalize Aa w=X5 at*;unfold Fx Ig;rw[An];simp[p1,p2,w1,c1,Aq]
   ·have w1:=ZAK (w:=Aa w) (λr z=>h3 ⟨r,z⟩) G;refine .inr ?_;generalize Aa (p++43::(m++32::w))=X1 at*;generalize Aa (m++32::w)=X2 at*;generalize Aa p=X3 at*;generalize Aa m=X4 at*;generalize Aa w=X5 at*;unfold Fx Ig;rw[An];simp[p1,p2,w1,sRz,Aq]
  ·have p2:=Oq h2 hql G;rw[<-e2]at p2;refine .inr ?_;generalize Aa (p++43::q)=X1 at*;generalize Aa q=X2 at*;generalize Aa p=X3 at*;unfold Fx Ig;rw[An];simp[p1,p2,we,sRz,Aq]
 ·have p1:=Oq h1 hl G;rw[<-e1]at p1;refine .inr ?_;generalize Aa l=X1 at*;unfold Fx Ig;rw[An];simp[p1,pe,we,sRz,Aq]
theorem Z4{c:Nat}(hc:∀x∈l::ls,c∉x)(hcd:c<256/\d<256)(hl:(Ak [c,d] (l::ls)).length<=1000000)(G:DH):Ew (.str (Aa (Ak [c,d] (l::ls)))) [.str (Aa [c,d])] G=.ok (.ref G.length) (G++[.lst (((l::ls).map Aa).map D.str)]):=by
 have e:Ew (.str (Aa (Ak [c,d] (l::ls)))) [.str (Aa [c,d])] G=if(Aa [c,d]).length≠0/\(Aa (Ak [c,d] (l::ls))).length<=1000000 then .ok (.ref G.length) (G++[.lst ((Txt.split (Aa (Ak [c,d] (l::ls))) (Aa [c,d])).map D.str)])else .bad:=rfl
 rw[e,if_pos ⟨by simp,by rw[Ay];exact hl⟩,ZEk hc hcd]
theorem Ze{it:DI}{nt:Nat}{caps:List Nat}{g:DG}{c:DB}{te:DE}{S:DSt}:Ky it nt caps g c te S G=(it S G).bind λJ G1=>match J with
 |.pure xs=>if xs.length<=1000000 then(Bj g c te (Ar nt caps S) xs G1).bind Ah else .bad
 |_=>.bad:=rfl
theorem Yg{sep:List Nat}:∀(l:List Nat)(ls:List (List Nat)),PySem.Str.join (Aa sep) ((l::ls).map Aa)=Aa (Ak sep (l::ls))
 |l,[]=>rfl
 |l,m::ls=>by have ih:=Yg (sep:=sep) m ls;show Aa l++Aa sep++PySem.Str.join (Aa sep) ((m::ls).map Aa)=Aa (l++sep++Ak sep (m::ls));rw[ih,Px,Px]
theorem ZDD(u:List Nat)(c d:Nat):∃(l:List Nat)(ls:List (List Nat)),Txt.split (Aa u) (Aa [c,d])=(l::ls).map Aa/\Ak [c,d] (l::ls)=u:=by
 have hj:=StrLaws.join_split (Aa u) (Aa [c,d]);have hne:∃p r,Txt.split (Aa u) (Aa [c,d])=p::r:=by
  unfold Txt.split;split
  ·exact⟨_,_,rfl⟩
  ·split
   ·exact⟨_,_,rfl⟩
   ·rw[StrLaws.partsBetween_eq];exact StrLaws.partsFrom_ne _ _ _ _
 obtain⟨p,r,e⟩:=hne;have hr:r=(r.map λs=>s.cps.toList).map Aa:=by
  rw[List.map_map];have:(Aa ∘ λs:Str=>s.cps.toList)=id:=by funext s;exact U0.symm
  rw[this,List.map_id]
 have hp:p=Aa p.cps.toList:=U0;generalize p.cps.toList=l at*;generalize(r.map λs=>s.cps.toList)=ls at*;subst hp;subst hr;refine⟨l,ls,e,?_⟩;rw[e]at hj;have:=Yg (sep:=[c,d]) l ls;rw[zV]at this;rw[this,Dg]at hj;exact hj
theorem K9{c d:Nat}:∀(ls:List (List Nat)),ls.length<=(Ak [c,d] ls).length+1
 |[]=>by simp
 |[x]=>by simp
 |x::y::r=>by have ih:=K9 (c:=c) (d:=d) (y::r);show(y::r).length+1<=(x++[c,d]++Ak [c,d] (y::r)).length+1;rw[zK,zK];simp only[zz,qR]at ih⊢;lia
theorem Nu{sep:List Nat}:∀(ls:List (List Nat))(x:List Nat),x∈ls->x.length<=(Ak sep ls).length
 |[],_,h=>by cases h
 |[y],x,h=>by
  have:x=y:=by simpa using h
  subst this;exact zJ _
 |y::z::r,x,h=>by
  have e:Ak sep (y::z::r)=y++sep++Ak sep (z::r):=rfl;rw[e,zK,zK];rcases zv.mp h with rfl|h
  ·lia
  ·have:=Nu (sep:=sep) (z::r) x h;lia
theorem Xg(c d:Nat)(hu:u.length<=1000000):∃(l:List Nat)(ls:List (List Nat)),Ak [c,d] (l::ls)=u/\∀G,Ew (.str (Aa u)) [.str (Aa [c,d])] G=.ok (.ref G.length) (G++[.lst (((l::ls).map Aa).map D.str)]):=by
 obtain⟨l,ls,e,hj⟩:=ZDD u c d;refine⟨l,ls,hj,λG=>?_⟩;have e':Ew (.str (Aa u)) [.str (Aa [c,d])] G=if(Aa [c,d]).length≠0/\(Aa u).length<=1000000 then .ok (.ref G.length) (G++[.lst ((Txt.split (Aa u) (Aa [c,d])).map D.str)])else .bad:=rfl
 rw[e',if_pos ⟨by simp,by rw[Ay];exact hu⟩,e]
theorem Oi{l:List Str}:bels m (l.map D.str)=xH:=Gx λ_ _=>rfl
theorem Yr{r:D}(G:DH):∀st:List Stp,(∀s∈st,StpOk s)->Bj (gV 0) Di Eo [xG,xF r] (((st.map stL).map Aa).map D.str) G=.ok (st.map Stp.enc) G
 |[],_=>rfl
 |s::st,h=>by
  have ih:=Yr (r:=r) G st λx hx=>h x (zW _ hx)
  have hs:=ZBr (h s (by simp)) (r:=r) G;have he:Eo [zS (Aa (stL s)),xF r] G=.ok s.enc G:=by generalize Aa (stL s)=X at*;unfold Eo;simp[hs]
  rw[zV,zV,zV,Gj];simp only[Br,R.Ed,qW,Jp,if_true,he,ih]
  rfl
theorem V0(G:DH):∀ls:List (List Nat),(∀l∈ls,l.length<=1000000)->(∃st:List Stp,(∀s∈st,StpOk s)/\ls=st.map stL)∨Bj (gV 0) Di Eo [xG,zI 0] ((ls.map Aa).map D.str) G=.err NT G
 |[],_=>.inl ⟨[],by simp,rfl⟩
 | l::ls,h=>by
  rcases ZDy (h l (by simp)) G with⟨s,hs,rfl⟩|he
  ·have hc:=ZBr hs (r:=.int 0) G;have he:Eo [zS (Aa (stL s)),zI 0] G=.ok s.enc G:=by generalize Aa (stL s)=X at*;unfold Eo;simp[hc]
   rcases V0 G ls λx hx=>h x (zW _ hx)with⟨st,hst,rfl⟩|ih
   ·exact .inl ⟨s::st,jJ.mpr ⟨hs,hst⟩,rfl⟩
   ·refine .inr ?_;rw[zV,zV,Gj];simp only[Br,R.Ed,qW,Jp,if_true,he,ih,R.Oo]
  ·refine .inr ?_;have he':Eo [zS (Aa l),zI 0] G=.err NT G:=by generalize Aa l=X at*;unfold Eo;simp[he]
   rw[zV,zV,Gj];simp only[Br,R.Ed,qW,Jp,if_true,he',R.Oo]
theorem ZCi{c:Nat}(h:l.length<1000000)(G:DH):Dq (.str (Aa (c::l))) (xF 1) xG G=.ok (.str (Aa l)) G:=by
 rw[Bb,if_pos (by rw[Ay,zz];lia)];show R.ok (D.str (Aa (cutD (Aa (c::l)).cps.toList (xF 1) xG))) G=_;rw[Bp];have:=W3 (xs:=c::l) (a:=1) (by simp);have e:cutD (c::l) (xF 1) xG=(c::l).drop 1:=this;rw[e]
 rfl
theorem ZAp:Txt.startswith (Aa l) (" ":Str)=xH↔∃r,l=32::r:=by
 have e0:(" ":Str)=Aa [32]:=by decide +kernel
 rw[e0];cases l with
 |nil=>
  have:Txt.startswith (Aa []) (Aa [32])=xI:=by decide +kernel
  rw[this];simp
 |cons c r=>
  rw[W5];simp
theorem Vy(hu:u.length<1000000)(hj:Ak [44,32] (l::ls)=u)(hs:∀G,Ew (.str (Aa u)) [.str (Aa [44,32])] G=.ok (.ref G.length) (G++[.lst (((l::ls).map Aa).map D.str)]))(G:DH):
  Hb [.str (Aa (32::u)),r] G=(match Bj (gV 0) Di Eo [xG,xF r] (((l::ls).map Aa).map D.str) G with
   |.ok ds G1=>tidy G ((freeze G ((R.ok ds G1).bind Ah)).bind λd G2=>Cw [d] G2)
   |.err x G1=>.err x G1
   |.bad=>.bad):=by
 have e0:("":Str)=Aa []:=by decide +kernel
 have e2:(", ":Str)=Aa [44,32]:=by decide +kernel
 have hne:¬Aa (32::u)=("":Str):=by rw[e0,Dg];simp
 have hst:Txt.startswith (Aa (32::u)) (" ":Str)=xH:=ZAp.mpr ⟨u,rfl⟩;have hsl:=ZCi (c:=32) hu G;rw[<-e2]at hs;have fz:freeze G (.ok (.ref G.length) (G++[.lst (((l::ls).map Aa).map D.str)]))=.ok (.fl (((l::ls).map Aa).map D.str)) G:=Cd Oi;have fs:∀(x:Str)(G:DH),freeze G (.ok (.str x) G)=.ok (.str x) G:=λx G=>I8 rfl
 have ln:(((l::ls).map Aa).map D.str).length<=1000000:=by have:=K9 (c:=44) (d:=32) (l::ls);rw[hj]at this;rw[zy,zy];lia
 have hcs:∀a b:Option D,Ar 1 [1] [a,b]=[xG,b]:=λ_ _=>rfl
 generalize Aa (32::u)=X1 at*;generalize Aa u=X2 at*;generalize((l::ls).map Aa).map D.str=X3 at*;unfold Hb Np;rw[An];simp[-Bb,Ze,hne,hst,hsl,fs,hs,fz,hcs,ln,Aq];cases Bj (gV 0) Di Eo [xG,xF r] X3 G with
 | ok ds G1=>
  simp;generalize freeze G (if ds.length<=1000000 then R.ok (D.ref (qE G1)) (G1++[DO.lst ds])else R.bad)=z;cases z with
  |ok d G2=>
   simp only[R.Ed]
   cases Cw [d] G2<;>rfl
  |err x G2=>rfl
  |bad=>rfl
 |err x G1=>simp
 |bad=>rfl
theorem ZFR(st:List Stp):st.length<=(Cy st).length:=by
 cases st with
 |nil=>simp
 |cons s r=>
  have:=K9 (c:=44) (d:=32) ((s::r).map stL);rw[zy]at this;exact this
theorem ZCE(hl:(Cy st).length<=1000000)(h:∀s∈st,StpOk s)(G:DH):Hb [.str (Aa (Cy st)),r] G=.ok (.tup (st.map Stp.enc)) G:=by
 have e0:("":Str)=Aa []:=by decide +kernel
 have hge:=ZFR st;cases st with
 |nil=>
  have ht:Cy []=[]:=rfl;rw[ht,<-e0];unfold Hb Np;rw[An];simp[Aq]
 |cons s st=>
  have ht:Cy (s::st)=32::Ak [44,32] ((s::st).map stL):=rfl;rw[ht]at hge hl⊢;have hu:(Ak [44,32] ((s::st).map stL)).length<1000000:=by rw[zz]at hl;lia
  have hsp:=λG=>Z4 (c:=44) (d:=32) (l:=stL s) (ls:=st.map stL) (λx hx=>by have hx':x∈(s::st).map stL:=hx;obtain⟨t,_,rfl⟩:=q0.mp hx';exact Ws (.inl rfl)) (by decide) (j4 hu) G
  rw[Vy (l:=stL s) (ls:=st.map stL) hu rfl hsp];have cc:=Yr (r:=r) G (s::st) h;have e3:((stL s::st.map stL).map Aa).map D.str=(((s::st).map stL).map Aa).map D.str:=rfl;rw[e3,cc];have fz2:freeze G (.ok (.ref G.length) (G++[.lst ((s::st).map Stp.enc)]))=.ok (.fl ((s::st).map Stp.enc)) G:=Cd Mz;have ll:((s::st).map Stp.enc).length<=1000000:=by rw[zy];lia
  have be:bels G.length ((s::st).map Stp.enc)=xH:=Mz;generalize(s::st).map Stp.enc=X4 at*;simp[ll,fz2,be,Aq]
theorem ZD6(hl:l.length<=1000000)(G:DH):(∃st,(∀s∈st,StpOk s)/\l=Cy st)∨Hb [.str (Aa l),.int 0] G=.err NT G:=by
 have e0:("":Str)=Aa []:=by decide +kernel
 cases l with
 |nil=>exact .inl ⟨[],by simp,rfl⟩
 | cons c u=>
  by_cases hc:c=32
  ·subst hc;have hu:u.length<1000000:=by rw[zz]at hl;lia
   obtain⟨l,ls,hj,hs⟩:=Xg (u:=u) 44 32 (by lia);rcases V0 G (l::ls) λx hx=>by have:=Nu (sep:=[44,32]) (l::ls) x hx;rw[hj]at this;lia with⟨st,hst,e⟩|he
   ·cases st with
    |nil=>cases e
    |cons s st=>
     refine .inl ⟨s::st,hst,?_⟩;rw[<-hj,e]
     rfl
   ·refine .inr ?_;rw[Vy hu hj hs,he]
  ·refine .inr ?_;have hne:¬Aa (c::u)=("":Str):=by rw[e0,Dg];simp
   have hst:Txt.startswith (Aa (c::u)) (" ":Str)=xI:=by
    cases hq:Txt.startswith (Aa (c::u)) (" ":Str)with
    |false=>rfl
    |true=>
     obtain⟨r,hr⟩:=ZAp.mp hq;exact absurd (List.cons.inj hr).1 hc
   generalize Aa (c::u)=X at*;unfold Hb Np;rw[An];simp[hne,hst,sRz,Aq]
def SsnG(s:Ssn):Prop:=(0<=s.1/\s.1<10^40)/\∀t∈s.2,StpOk t
theorem Xl{s:Ssn}(h:SsnG s)(hl:(snL s).length<=1000000)(G:DH):Hc [.str (Aa (snL s)),r] G=.ok (Af s) G:=by
 have es:snL s=num s.1++58::Cy s.2:=rfl;rw[es]at hl⊢;have p1:=λG=>K1 (p:=num s.1) (q:=Cy s.2) (c:=58) (Je (by lia)) hl G
 have ht:(Cy s.2).length<=1000000:=by rw[zK,zz]at hl;lia
 have e1:(":":Str)=Aa [58]:=by decide +kernel
 rw[<-e1]at p1;have n1:=λG=>Kf h.1.1 h.1.2 (r:=r) G
 have n2:=λG=>ZCE ht h.2 (r:=r) G
 have hne:¬(":":Str)=("":Str):=by decide +kernel
 unfold Af;have be:bels G.length (s.2.map Stp.enc)=xH:=Mz;generalize Aa (num s.1++58::Cy s.2)=X1 at*;generalize Aa (num s.1)=X2 at*;generalize Aa (Cy s.2)=X3 at*;generalize s.2.map Stp.enc=X4 at*;unfold Hc Km;rw[An];simp[p1,hne,n1,n2,be,Aq]
theorem ZFS(hl:l.length<=1000000)(G:DH):(∃s,SsnG s/\l=snL s)∨Hc [.str (Aa l),.int 0] G=.err NT G:=by
 have e1:(":":Str)=Aa [58]:=by decide +kernel
 have hne:¬(":":Str)=("":Str):=by decide +kernel
 by_cases h1:58∈l
 ·obtain⟨p,q,rfl,hp⟩:=jX h1;have p1:=K1 (q:=q) hp hl G;rw[<-e1]at p1;have hpl:p.length<=1000000:=by rw[zK,zz]at hl;lia
  have hql:q.length<=1000000:=by rw[zK,zz]at hl;lia
  by_cases hN:IsN p
  ·obtain⟨n,⟨k1,k2⟩,rfl⟩:=J6 hN;have c1:=Kf k1 k2 (r:=.int 0) G;rcases ZD6 hql G with⟨st,hst,rfl⟩|he
   ·exact .inl ⟨(n,st),⟨⟨k1,k2⟩,hst⟩,rfl⟩
   ·refine .inr ?_;generalize Aa (num n++58::q)=X1 at*;generalize Aa (num n)=X2 at*;generalize Aa q=X3 at*;unfold Hc Km;rw[An];simp[p1,hne,c1,he,Aq]
  ·have c1:=Ry hpl hN G;refine .inr ?_;generalize Aa (p++58::q)=X1 at*;generalize Aa p=X2 at*;generalize Aa q=X3 at*;unfold Hc Km;rw[An];simp[p1,hne,c1,Aq]
 ·have p1:=Oq h1 hl G;rw[<-e1]at p1;refine .inr ?_;generalize Aa l=X1 at*;unfold Hc Km;rw[An];simp[p1,sRz,Aq]
theorem ZBT{r:D}(G:DH):∀ss:List Ssn,(∀s∈ss,SsnG s/\(snL s).length<=1000000)->Bj (gV 0) Di Ei [xG,xF r] (((ss.map snL).map Aa).map D.str) G=.ok (ss.map Af) G
 |[],_=>rfl
 |s::ss,h=>by
  have ih:=ZBT (r:=r) G ss λx hx=>h x (zW _ hx)
  have hs:=Xl (h s (by simp)).1 (h s (by simp)).2 (r:=r) G;have he:Ei [zS (Aa (snL s)),xF r] G=.ok (Af s) G:=by generalize Aa (snL s)=X at*;unfold Ei;simp[hs]
  rw[zV,zV,zV,Gj];simp only[Br,R.Ed,qW,Jp,if_true,he,ih]
  rfl
theorem Xa(G:DH):∀ls:List (List Nat),(∀l∈ls,l.length<=1000000)->(∃ss:List Ssn,(∀s∈ss,SsnG s)/\ls=ss.map snL)∨Bj (gV 0) Di Ei [xG,zI 0] ((ls.map Aa).map D.str) G=.err NT G
 |[],_=>.inl ⟨[],by simp,rfl⟩
 | l::ls,h=>by
  rcases ZFS (h l (by simp)) G with⟨s,hs,rfl⟩|he
  ·have hc:=Xl hs (h _ (by simp)) (r:=.int 0) G;have he:Ei [zS (Aa (snL s)),zI 0] G=.ok (Af s) G:=by generalize Aa (snL s)=X at*;unfold Ei;simp[hc]
   rcases Xa G ls λx hx=>h x (zW _ hx)with⟨st,hst,rfl⟩|ih
   ·exact .inl ⟨s::st,jJ.mpr ⟨hs,hst⟩,rfl⟩
   ·refine .inr ?_;rw[zV,zV,Gj];simp only[Br,R.Ed,qW,Jp,if_true,he,ih,R.Oo]
  ·refine .inr ?_;have he':Ei [zS (Aa l),zI 0] G=.err NT G:=by generalize Aa l=X at*;unfold Ei;simp[he]
   rw[zV,zV,Gj];simp only[Br,R.Ed,qW,Jp,if_true,he',R.Oo]
theorem Vd(hu:u.length<1000000)(hj:Ak [59,32] (l::ls)=u)(hs:∀G,Ew (.str (Aa u)) [.str (Aa [59,32])] G=.ok (.ref G.length) (G++[.lst (((l::ls).map Aa).map D.str)]))(G:DH):
  Kr [.str (Aa u),.int 0] G=(match Bj (gV 0) Di Ei [xG,zI 0] (((l::ls).map Aa).map D.str) G with
   |.ok ds G1=>tidy G ((freeze G ((R.ok ds G1).bind Ah)).bind λd G2=>Cw [d] G2)
   |.err x G1=>.err x G1
   |.bad=>.bad):=by
 have e2:("; ":Str)=Aa [59,32]:=by decide +kernel
 rw[<-e2]at hs;have fz:freeze G (.ok (.ref G.length) (G++[.lst (((l::ls).map Aa).map D.str)]))=.ok (.fl (((l::ls).map Aa).map D.str)) G:=Cd Oi;have ln:(((l::ls).map Aa).map D.str).length<=1000000:=by have:=K9 (c:=59) (d:=32) (l::ls);rw[hj]at this;rw[zy,zy];lia
 have hcs:∀a b:Option D,Ar 1 [1] [a,b]=[xG,b]:=λ_ _=>rfl
 generalize Aa u=X2 at*;generalize((l::ls).map Aa).map D.str=X3 at*;unfold Kr Wl;rw[An];simp[Ze,hs,fz,hcs,ln,Aq];cases Bj (gV 0) Di Ei [xG,zI 0] X3 G with
 | ok ds G1=>
  simp;generalize freeze G (if ds.length<=1000000 then R.ok (D.ref (qE G1)) (G1++[DO.lst ds])else R.bad)=z;cases z with
  |ok d G2=>
   simp only[R.Ed]
   cases Cw [d] G2<;>rfl
  |err x G2=>rfl
  |bad=>rfl
 |err x G1=>simp
 |bad=>rfl
structure RuG (r:List Ssn):Prop where
 ne:r≠[]
 ok:∀s∈r,SsnG s
theorem Vs(h:RuG ss)(hl:(ruL ss).length<1000000)(G:DH):Er [.str (Aa (ruL ss))] G=.ok (.tup (ss.map Af)) G:=by
 cases ss with
 |nil=>exact absurd rfl h.ne
 | cons s ss=>
  have hel:∀t∈s::ss,(snL t).length<=1000000:=λt ht=>by have:=Nu (sep:=[59,32]) ((s::ss).map snL) (snL t) (List.mem_map_of_mem ht);have e:Ak [59,32] ((s::ss).map snL)=ruL (s::ss):=rfl;rw[e]at this;lia
  have hsp:=λG=>Z4 (c:=59) (d:=32) (l:=snL s) (ls:=ss.map snL) (λx hx=>by have hx':x∈(s::ss).map snL:=hx;obtain⟨t,_,rfl⟩:=q0.mp hx';exact ZGu) (by decide) (j4 hl) G
  have hri:Kr [.str (Aa (ruL (s::ss))),.int 0] G=.ok (.tup ((s::ss).map Af)) G:=by
   rw[Vd (l:=snL s) (ls:=ss.map snL) hl rfl hsp];have cc:=ZBT (r:=.int 0) G (s::ss) λt ht=>⟨h.ok t ht,hel t ht⟩
   have e3:((snL s::ss.map snL).map Aa).map D.str=(((s::ss).map snL).map Aa).map D.str:=rfl;rw[e3,cc];have fz2:freeze G (.ok (.ref G.length) (G++[.lst ((s::ss).map Af)]))=.ok (.fl ((s::ss).map Af)) G:=Cd Iw;have ll:((s::ss).map Af).length<=1000000:=by have:=K9 (c:=59) (d:=32) ((s::ss).map snL);have e:Ak [59,32] ((s::ss).map snL)=ruL (s::ss):=rfl;rw[e,zy]at this;rw[zy];lia
   have be:bels G.length ((s::ss).map Af)=xH:=Iw;generalize(s::ss).map Af=X4 at*;simp[ll,fz2,be,Aq]
  have be:bels G.length ((s::ss).map Af)=xH:=Iw;generalize Aa (ruL (s::ss))=X1 at*;generalize(s::ss).map Af=X4 at*;unfold Er Qf;rw[An];simp[hri,be,Aq]
theorem ZEz(hl:l.length<1000000)(G:DH):(∃ss,RuG ss/\l=ruL ss)∨Er [.str (Aa l)] G=.err NT G:=by
 obtain⟨p,ls,hj,hs⟩:=Xg (u:=l) 59 32 (by lia);rcases Xa G (p::ls) λx hx=>by have:=Nu (sep:=[59,32]) (p::ls) x hx;rw[hj]at this;lia with⟨ss,hss,e⟩|he
 ·refine .inl ⟨ss,⟨(λz=>by rw[z]at e;cases e),hss⟩,?_⟩;rw[<-hj,e]
  rfl
 ·refine .inr ?_;have hri:=Vd hl hj hs G;rw[he]at hri;generalize Aa l=X1 at*;unfold Er Qf;rw[An];simp[hri,Aq]
theorem Bl(h:l.length+l'.length<=1000000)(G:DH):Ag (.str (Aa l)) (.str (Aa l')) G=.ok (.str (Aa (l++l'))) G:=by
 have e:Ag (.str (Aa l)) (.str (Aa l')) G=if(Aa l).length+(Aa l').length<=1000000 then .ok (.str (Aa l++Aa l')) G else .bad:=rfl
 rw[e,if_pos (by rw[Ay,Ay];exact h),Px]
noncomputable def isD(c:Nat):Bool:=decide (48<=c/\c<=57)
noncomputable def P(t u:List Nat):Int:=((t.length-u.length:Nat):Int)
theorem Cr{d:List Nat}(h:d++v <:+ t):v <:+ t/\P t v=P t (d++v)+d.length:=by have h1:v <:+ t:=(List.suffix_append d v).trans h;refine⟨h1,?_⟩;have h2:=h.length_le;rw[zK]at h2;unfold P;rw[zK];lia
theorem Xc(h:u <:+ t):t.drop (t.length-u.length)=u:=by
 obtain⟨x,rfl⟩:=h;rw[zK,Nat.add_sub_cancel,qS (zJ _),jy]
 rfl
theorem Y0{xs:List α}(a b:Nat):cutD xs (xF (a:Int)) (xF (b:Int))=(xs.drop a).take (b-a):=by
 have h1:=(Gi xs.length (a:Int)).2;have h2:=(Gi xs.length (b:Int)).1;unfold cutD;have e1:HT.sIx xs.length 0 (xF (a:Int))=min a xs.length:=by lia
 have e2:HT.sIx xs.length xs.length (xF (b:Int))=min b xs.length:=by lia
 rw[e1,e2];by_cases ha:a<=xs.length
 ·rw[Nat.min_eq_left ha];by_cases hb:b<=xs.length
  ·rw[Nat.min_eq_left hb]
  ·rw[Nat.min_eq_right (by lia),qC (by simp),qC (by simp;lia)]
 ·have ha':min a xs.length=xs.length:=Nat.min_eq_right (by lia);rw[ha',jy,qk (l:=xs) (i:=a) (by lia)];simp
theorem Il(h:u <:+ t)(ht:t.length<=1000000)(k:Nat)(G:DH):Dq (.str (Aa t)) (xF (P t u)) (xF (P t u+k)) G=.ok (.str (Aa (u.take k))) G:=by
 rw[Bb,if_pos (by rw[Ay];exact ht)];show R.ok (D.str (Aa (cutD (Aa t).cps.toList (xF (P t u)) (xF (P t u+k))))) G=_;rw[Bp];have e:P t u+(k:Int)=((t.length-u.length+k:Nat):Int):=by unfold P;lia
 rw[e];unfold P;rw[Y0,Xc h]
 congr 4
 lia
theorem ZAS{r:List Nat}{c:Nat}(h:c::r <:+ t)(ht:t.length<=1000000)(G:DH):Ao (.str (Aa t)) (.int (P t (c::r))) G=.ok (sgn c) G:=by
 have hd:=Xc h;have hl:=h.length_le;rw[zz]at hl;have e:atI t (P t (c::r))=xF c:=by refine Dz (k:=t.length-(r.length+1)) (by unfold P;rw[zz]) ?_;rw[zz]at hd;have:=congrArg (λl:List Nat=>l[0]?) hd;simpa using this
 rw[Dm,if_pos (by rw[Ay];exact ht),Bp,e]
def dg(u:List Nat):List Nat:=u.takeWhile isD
def rs(u:List Nat):List Nat:=u.dropWhile isD
theorem Mw(u:List Nat):dg u++rs u=u:=List.takeWhile_append_dropWhile
theorem ZIU(u:List Nat):∀c∈dg u,48<=c/\c<=57:=λc hc=>by have:=qA.mp (List.all_takeWhile (p:=isD) (l:=u)) c hc;simpa[isD]using this
theorem le0{c:Nat}(G:DH):Es (.str ("0":Str)) (sgn c) G=.ok (.bl (decide (48<=c))) G:=by
 have e:Es (.str ("0":Str)) (sgn c) G=.ok (.bl (!decide ([c] < [48]))) G:=rfl;rw[e];have h:([c] < [48])↔c<48:=by simp[List.cons_lt_cons_iff]
 by_cases hc:c<48
 ·simp[h,hc]
 ·simp only[h,hc];simp;lia
theorem le9{c:Nat}(G:DH):Es (sgn c) (.str ("9":Str)) G=.ok (.bl (decide (c<=57))) G:=by
 have e:Es (sgn c) (.str ("9":Str)) G=.ok (.bl (!decide ([57] < [c]))) G:=rfl;rw[e];have h:([57] < [c])↔57<c:=by simp[List.cons_lt_cons_iff]
 by_cases hc:57<c
 ·simp[h,hc]
 ·simp only[h,hc];simp;lia
theorem Zo(ht:t.length<=1000000){x:Option D}{G:DH}:∀(m:Nat)(u:List Nat),u <:+ t->u.length<m->
  sWh Ip Oj m [zS (Aa t),x,zI (P t u)] G=.nx [zS (Aa t),x,zI (P t (rs u))] G
 |0,u,_,h=>by lia
 |m+1,[],hs,h=>by
  have hP:P t []=(t.length:Int):=rfl;have hl:(Aa t).length<=1000000:=by rw[Ay];exact ht
  have hlen:(Aa t).length=t.length:=Ay;have hT:Ip [zS (Aa t),x,zI (P t [])] G=.ok xI G:=by rw[hP];generalize Aa t=T at*;unfold Ip;simp[ht,hl,hlen]
  unfold sWh;rw[hT]
  rfl
 | m+1,c::r,hs,h=>by
  have hix:=ZAS hs ht G;have hl:(Aa t).length<=1000000:=by rw[Ay];exact ht
  have hlen:(Aa t).length=t.length:=Ay;have hlt:P t (c::r)<(t.length:Int):=by have:=hs.length_le;unfold P;rw[zz]at*;lia
  have hT:Ip [zS (Aa t),x,zI (P t (c::r))] G=.ok (isD c) G:=by
   have a0:=le0 (c:=c) G;have a9:=le9 (c:=c) G;generalize hz:sgn c=z at*;generalize Aa t=T at*;generalize P t (c::r)=p at*;unfold Ip;by_cases h0:48<=c
   ·by_cases h9:c<=57
    ·simp[-Dm,ht,hl,hlen,hlt,hix,a0,a9,h0,h9,isD]
    ·simp[-Dm,ht,hl,hlen,hlt,hix,a0,a9,h0,h9,isD]
   ·simp[-Dm,ht,hl,hlen,hlt,hix,a0,a9,h0,isD]
  by_cases hd:isD c=xH
  ·have hb:Oj [zS (Aa t),x,zI (P t (c::r))] G=.nx [zS (Aa t),x,zI (P t (c::r)+1)] G:=by generalize Aa t=T at*;unfold Oj;simp
   have e:=Cr (d:=[c]) (v:=r) hs;have ih:=Zo ht (x:=x) (G:=G) m r e.1 (by rw[zz]at h;lia);unfold sWh;rw[hT,hd];simp only[R.Bq,if_true,hb,Cq];have e2:P t (c::r)+1=P t r:=by have:=e.2;simp at this;lia
   rw[e2,ih];simp[rs,hd]
  ·have hd':isD c=xI:=by simpa using hd
   unfold sWh;rw[hT,hd'];simp[rs,hd']
theorem eq0{c:Nat}(G:DH):Bc (sgn c) (.str ("0":Str)) G=.ok (.bl (decide (c=48))) G:=by
 have e0:("0":Str)=Aa [48]:=by decide +kernel
 have e1:sgn c=.str (Aa [c]):=rfl;rw[e0,e1];have:(Aa [c]=Aa [48])=(c=48):=by rw[Dg];simp
 simp[this]
open Classical in
theorem P0(ht:t.length<=5000)(hs:u <:+ t)(G:DH):Fl [.str (Aa t),.int (P t u)] G=.ok (.int (if IsN (dg u)then P t (rs u)else -1)) G:=by
 have ht':t.length<=1000000:=by lia
 have hL:=Zo ht' (x:=zI (P t u)) (G:=G) fuel u hs (by have:=hs.length_le;show u.length<10000;lia)
 have hl:(Aa t).length<=1000000:=by rw[Ay];exact ht'
 have hlen:(Aa t).length=t.length:=Ay;have hdr:=Mw u;have hdd:=ZIU u;cases hd:dg u with
 |nil=>
  rw[hd,qT]at hdr;rw[hdr]at hL;have hn:¬IsN []:=λz=>by have:=z.1.1;simp at this
  rw[if_neg hn];generalize Aa t=T at*;generalize P t u=p at*;unfold Fl J7;rw[An];simp[hL,Aq]
 | cons c d=>
  rw[hd]at hdr hdd;have hst:c::(d++rs u) <:+ t:=by rw[<-qD,hdr];exact hs
  have hix:=λG=>ZAS hst ht' G
  rw[<-qD,hdr]at hix;have hPs:=(Cr (t:=t) (d:=c::d) (v:=rs u) (by rw[hdr];exact hs)).2;rw[hdr,zz]at hPs;have h1:¬P t (rs u)=P t u:=by lia
  have h1':(P t (rs u)=P t u)=False:=by simp[h1]
  have hz:=λG=>eq0 (c:=c) G
  have hIs:IsN (c::d)↔d.length+1<=40/\¬(c=48/\0<d.length):=by
   constructor
   ·rintro⟨⟨_,k1⟩,_,k2⟩;rw[zz]at k1;refine⟨k1,λ⟨z1,z2⟩=>?_⟩;rcases k2 with k2|k2
    ·have:=(List.cons.inj k2).2;rw[this]at z2;simp at z2
    ·exact k2 d (by rw[z1])
   ·rintro⟨k1,k2⟩;refine⟨⟨by simp,by rw[zz];exact k1⟩,hdd,?_⟩;by_cases hc:c=48
    ·subst hc;refine .inl ?_;cases d with
     |nil=>rfl
     |cons x y=>exact absurd ⟨rfl,by simp⟩ k2
    ·exact .inr λr hr=>hc (List.cons.inj hr).1
  have hsub:P t (rs u)-P t u=(d.length:Int)+1:=by lia
  generalize hzz:sgn c=z at*;by_cases k1:d.length+1<=40
  ·have k1':¬(40:Int)<(d.length:Int)+1:=by lia
   by_cases k2:c=48
   ·by_cases k3:0<d.length
    ·have k3':(1:Int)<(d.length:Int)+1:=by lia
     rw[if_neg (λq=>(hIs.mp q).2 ⟨k2,k3⟩)];generalize Aa t=T at*;generalize P t u=p at*;generalize P t (rs u)=q at*;unfold Fl J7;rw[An];simp[-Dm,hL,h1',hsub,k1',hix,hz,k2,k3',k3,Aq]
    ·have k3':¬(1:Int)<(d.length:Int)+1:=by lia
     rw[if_pos (hIs.mpr ⟨k1,λq=>k3 q.2⟩)];generalize Aa t=T at*;generalize P t u=p at*;generalize P t (rs u)=q at*;unfold Fl J7;rw[An];simp[-Dm,hL,h1',hsub,k1',hix,hz,k2,k3',k3,Aq]
   ·rw[if_pos (hIs.mpr ⟨k1,λq=>k2 q.1⟩)];generalize Aa t=T at*;generalize P t u=p at*;generalize P t (rs u)=q at*;unfold Fl J7;rw[An];simp[-Dm,hL,h1',hsub,k1',hix,hz,k2,Aq]
  ·have k1':(40:Int)<(d.length:Int)+1:=by lia
   rw[if_neg (λq=>k1 (hIs.mp q).1)];generalize Aa t=T at*;generalize P t u=p at*;generalize P t (rs u)=q at*;unfold Fl J7;rw[An];simp[-Dm,hL,h1',hsub,k1',Aq]
theorem K3{d:List Nat}{c:Nat}(hd:∀x∈d,48<=x/\x<=57)(hc:c<48∨57<c):dg (d++c::v)=d/\rs (d++c::v)=c::v:=by
 have h1:∀x∈d,isD x=xH:=λx hx=>by simpa[isD]using hd x hx
 have h2:isD c=xI:=by simp[isD];lia
 refine⟨?_,?_⟩
 ·unfold dg;rw[List.takeWhile_append_of_pos h1];simp[h2]
 ·unfold rs;rw[List.dropWhile_append_of_pos h1];simp[h2]
theorem Te{d:List Nat}(h:d++v <:+ t)(ht:t.length<=1000000)(G:DH):Dq (.str (Aa t)) (xF (P t (d++v))) (xF (P t v)) G=.ok (.str (Aa d)) G:=by have e:=(Cr h).2;rw[e,Il h ht];simp
theorem Uj(h0:0<=n)(h1:n<10^40)(G:DH):Ej [.str (Aa (num n))] G=.ok (.int n) G:=by have hl:=Dw h1;unfold Ej;simp only[ZBM h0 h1];rw[if_pos (by rw[Ay];lia)]
theorem ZCH{u w v2:List Nat}{m:Int}(ht:t.length<=5000)(hn:0<=n/\n<10^40)(hm:0<=m/\m<10^40)(hs:num n++(43::(num m++v2)) <:+ t)(x4:Option D)(G:DH):
  (∃(r:Bool)(v:List Nat),v2=32::(wyL r++v)/\Bm (gV 4) El [.str "river",.str "pump"] [zS (Aa t),zI (P t (num n++(43::(num m++v2)))),zI (P t (43::(num m++v2))),zI (P t v2),x4] G=.rt (.tup [Stp.enc ⟨n,m,r⟩,.int (P t v)]) G)∨
  ((∀r v,v2≠32::(wyL r++v))/\∃y4,Bm (gV 4) El [.str "river",.str "pump"] [zS (Aa t),zI (P t (num n++(43::(num m++v2)))),zI (P t (43::(num m++v2))),zI (P t v2),x4] G=.nx [zS (Aa t),zI (P t (num n++(43::(num m++v2)))),zI (P t (43::(num m++v2))),zI (P t v2),y4] G):=by
 have ht':t.length<=1000000:=by lia
 have hs1:=Cr hs;have hs2:=Cr (d:=[43]) (v:=num m++v2) hs1.1;have hs3:=Cr hs2.1;have i1:=λG=>Te hs ht' G
 have i2:=λG=>Te hs2.1 ht' G
 have e2:P t (43::(num m++v2))+1=P t (num m++v2):=by have:=hs2.2;simp at this;lia
 have f1:=λG=>Uj hn.1 hn.2 G
 have f2:=λG=>Uj hm.1 hm.2 G
 have s6:=λG=>Il hs3.1 ht' 6 G
 have s5:=λG=>Il hs3.1 ht' 5 G
 have a6:P t v2+1+5=P t v2+((6:Nat):Int):=by lia
 have a5:P t v2+1+4=P t v2+((5:Nat):Int):=by lia
 have er:∀G,Ag (.str " ") (.str "river") G=.ok (.str (Aa (32::wyL xH))) G:=λG=>by
  have e:Ag (.str " ") (.str "river") G=Ag (.str (Aa [32])) (.str (Aa (wyL xH))) G:=by rw[show(" ":Str)=Aa [32] by decide +kernel,show("river":Str)=Aa (wyL xH)from Jb (r:=xH)]
  rw[e,Bl (by decide)]
  rfl
 have ep:∀G,Ag (.str " ") (.str "pump") G=.ok (.str (Aa (32::wyL xI))) G:=λG=>by
  have e:Ag (.str " ") (.str "pump") G=Ag (.str (Aa [32])) (.str (Aa (wyL xI))) G:=by rw[show(" ":Str)=Aa [32] by decide +kernel,show("pump":Str)=Aa (wyL xI)from Jb (r:=xI)]
  rw[e,Bl (by decide)]
  rfl
 have lr:∀G,Az [.str "river"] G=.ok (.int 5) G:=λG=>by
  have:("river":Str).length=5:=by decide +kernel
  simp[this]
 have lp:∀G,Az [.str "pump"] G=.ok (.int 4) G:=λG=>by
  have:("pump":Str).length=4:=by decide +kernel
  simp[this]
 have fs:∀(x:Str)(G:DH),freeze G (.ok (.str x) G)=.ok (.str x) G:=λx G=>I8 rfl
 have q6:(Aa (v2.take 6)=Aa (32::wyL xH))=(v2.take 6=32::wyL xH):=Dg;have q5:(Aa (v2.take 5)=Aa (32::wyL xI))=(v2.take 5=32::wyL xI):=Dg;by_cases h6:v2.take 6=32::wyL xH
 ·have hv:v2=32::(wyL xH++v2.drop 6):=by have:=jQ 6 v2;rw[h6]at this;exact this.symm
  have hp:=(Cr (d:=32::wyL xH) (v:=v2.drop 6) (by rw[qD,<-hv];exact hs3.1)).2;rw[qD,<-hv]at hp;have hp':P t v2+1+5=P t (v2.drop 6):=by have e:(32::wyL xH).length=6:=rfl;rw[e]at hp;lia
  refine .inl ⟨xH,v2.drop 6,hv,?_⟩;have hb:El [zS (Aa t),zI (P t (num n++(43::(num m++v2)))),zI (P t (43::(num m++v2))),zI (P t v2),zS "river"] G=.rt (.tup [Stp.enc ⟨n,m,xH⟩,.int (P t (v2.drop 6))]) G:=by
   have q6':(Aa (v2.take 6)=Aa (32::wyL xH))=True:=by rw[q6];simp[h6]
   have ee:Stp.enc ⟨n,m,xH⟩=.tup [.int n,.int m,.str "river"]:=rfl;rw[ee];rw[<-a6,hp']at s6;generalize Aa (v2.take 6)=V6 at*;generalize Aa (32::wyL xH)=W6 at*;generalize Aa (num n)=N1 at*;generalize Aa (num m)=N2 at*;generalize Aa t=T at*;generalize P t (num n++(43::(num m++v2)))=p0 at*;generalize P t (43::(num m++v2))=p1 at*;generalize P t (num m++v2)=p2 at*;generalize P t v2=p3 at*
   generalize P t (v2.drop 6)=p4 at*;unfold El;simp[-Bb,lr,hp',s6,fs,er,q6',i1,e2,i2,f1,f2]
  rw[Dp];simp only[Br,R.Bq,qW,hb]
  rfl
 ·have hb:El [zS (Aa t),zI (P t (num n++(43::(num m++v2)))),zI (P t (43::(num m++v2))),zI (P t v2),zS "river"] G=.nx [zS (Aa t),zI (P t (num n++(43::(num m++v2)))),zI (P t (43::(num m++v2))),zI (P t v2),zS "river"] G:=by
   have q6':(Aa (v2.take 6)=Aa (32::wyL xH))=False:=by rw[q6];simp[h6]
   rw[<-a6]at s6;generalize Aa (v2.take 6)=V6 at*;generalize Aa (32::wyL xH)=W6 at*;generalize Aa (num n)=N1 at*;generalize Aa (num m)=N2 at*;generalize Aa t=T at*;generalize P t (num n++(43::(num m++v2)))=p0 at*;generalize P t (43::(num m++v2))=p1 at*;generalize P t (num m++v2)=p2 at*;generalize P t v2=p3 at*;unfold El;simp[-Bb,lr,s6,fs,er,q6']
  by_cases h5:v2.take 5=32::wyL xI
  ·have hv:v2=32::(wyL xI++v2.drop 5):=by have:=jQ 5 v2;rw[h5]at this;exact this.symm
   have hp:=(Cr (d:=32::wyL xI) (v:=v2.drop 5) (by rw[qD,<-hv];exact hs3.1)).2;rw[qD,<-hv]at hp;have hp':P t v2+1+4=P t (v2.drop 5):=by have e:(32::wyL xI).length=5:=rfl;rw[e]at hp;lia
   refine .inl ⟨xI,v2.drop 5,hv,?_⟩;have hb2:El [zS (Aa t),zI (P t (num n++(43::(num m++v2)))),zI (P t (43::(num m++v2))),zI (P t v2),zS "pump"] G=.rt (.tup [Stp.enc ⟨n,m,xI⟩,.int (P t (v2.drop 5))]) G:=by
    have q5':(Aa (v2.take 5)=Aa (32::wyL xI))=True:=by rw[q5];simp[h5]
    have ee:Stp.enc ⟨n,m,xI⟩=.tup [.int n,.int m,.str "pump"]:=rfl;rw[ee];rw[<-a5,hp']at s5;generalize Aa (v2.take 5)=V6 at*;generalize Aa (32::wyL xI)=W6 at*;generalize Aa (num n)=N1 at*;generalize Aa (num m)=N2 at*;generalize Aa t=T at*;generalize P t (num n++(43::(num m++v2)))=p0 at*;generalize P t (43::(num m++v2))=p1 at*;generalize P t (num m++v2)=p2 at*;generalize P t v2=p3 at*
    generalize P t (v2.drop 5)=p4 at*;unfold El;simp[-Bb,lp,hp',s5,fs,ep,q5',i1,e2,i2,f1,f2]
   rw[Dp];simp only[Br,R.Bq,qW,hb,Cq];rw[Dp];simp only[Br,R.Bq,qW,hb2]
   rfl
  ·refine .inr ⟨λr v z=>?_,zS "pump",?_⟩
   ·cases r with
    |true=>exact h6 (by rw[z];rfl)
    |false=>exact h5 (by rw[z];rfl)
   ·have hb2:El [zS (Aa t),zI (P t (num n++(43::(num m++v2)))),zI (P t (43::(num m++v2))),zI (P t v2),zS "pump"] G=.nx [zS (Aa t),zI (P t (num n++(43::(num m++v2)))),zI (P t (43::(num m++v2))),zI (P t v2),zS "pump"] G:=by
     have q5':(Aa (v2.take 5)=Aa (32::wyL xI))=False:=by rw[q5];simp[h5]
     rw[<-a5]at s5;generalize Aa (v2.take 5)=V6 at*;generalize Aa (32::wyL xI)=W6 at*;generalize Aa (num n)=N1 at*;generalize Aa (num m)=N2 at*;generalize Aa t=T at*;generalize P t (num n++(43::(num m++v2)))=p0 at*;generalize P t (43::(num m++v2))=p1 at*;generalize P t (num m++v2)=p2 at*;generalize P t v2=p3 at*;unfold El;simp[-Bb,lp,s5,fs,ep,q5']
    rw[Dp];simp only[Br,R.Bq,qW,hb,Cq];rw[Dp];simp only[Br,R.Bq,qW,hb2,Cq];rw[G9]
theorem Iu:dg (stL s++v)=num s.h/\rs (stL s++v)=43::(num s.m++32::(wyL s.r++v)):=by
 have e:stL s++v=num s.h++43::(num s.m++32::(wyL s.r++v)):=by simp[stL]
 rw[e];exact K3 G6 (by lia)
theorem lstep(ht:t.length<=5000)(hs:u <:+ t)(G:DH):
  (∃s v,StpOk s/\u=stL s++v/\Gm [.str (Aa t),.int (P t u)] G=.ok (.tup [s.enc,.int (P t v)]) G)∨
  ((∀s v,StpOk s->u≠stL s++v)/\Gm [.str (Aa t),.int (P t u)] G=.ok .non G):=by
 have ht':t.length<=1000000:=by lia
 have hE:=λG=>P0 ht hs G
 have hdr:=Mw u;have e1:("+":Str)=Aa [43]:=by decide +kernel
 have fs:∀(x:Str)(G:DH),freeze G (.ok (.str x) G)=.ok (.str x) G:=λx G=>I8 rfl
 have hpos:∀w:List Nat,¬P t w<0:=λw=>by unfold P;lia
 by_cases hN:IsN (dg u)
 ·simp only[if_pos hN]at hE;have hs1:=Cr (t:=t) (d:=dg u) (v:=rs u) (by rw[hdr];exact hs);have hsl:=λG=>Il hs1.1 ht' 1 G
  have hsl':∀G,Dq (.str (Aa t)) (xF (P t (rs u))) (xF (P t (rs u)+1)) G=.ok (.str (Aa ((rs u).take 1))) G:=hsl;by_cases hp:(rs u).take 1=[43]
  ·obtain⟨w,hw⟩:∃w,rs u=43::w:=by
    cases hr:rs u with
    |nil=>rw[hr]at hp;simp at hp
    |cons x w=>
     rw[hr]at hp;simp at hp;exact⟨w,by rw[hp]⟩
   have hs2:=Cr (t:=t) (d:=[43]) (v:=w) (by have:=hs1.1;rw[hw]at this;exact this)
   have hE2:=λG=>P0 ht hs2.1 G
   have hw1:P t (rs u)+1=P t w:=by have h2:=hs2.2;rw[hw];simp at h2;lia
   have hsl2:=hsl';simp only[hw1]at hsl2;have hplus:(Aa ((rs u).take 1)=("+":Str))=True:=by rw[e1,Dg];simp[hp]
   by_cases hM:IsN (dg w)
   ·simp only[if_pos hM]at hE2;obtain⟨n,hn,hdn⟩:=J6 hN;obtain⟨m,hm,hdm⟩:=J6 hM;have hdw:=Mw w;have hu:u=num n++(43::(num m++rs w)):=by rw[<-hdm,hdw,<-hw,<-hdn,hdr]
    have hfz:∀G:DH,freeze G (.ok (.ref G.length) (G++[.lst [.str "river",.str "pump"]]))=.ok (.fl [.str "river",.str "pump"]) G:=λG=>Cd rfl
    have hw':43::(num m++rs w)=rs u:=by rw[<-hdm,hdw,<-hw]
    rcases ZCH (u:=u) (w:=w) ht hn hm (by rw[<-hu];exact hs) xG G with⟨r,v,hv,hf⟩|⟨hno,y4,hf⟩
    ·refine .inl ⟨⟨n,m,r⟩,v,⟨hn,hm⟩,?_,?_⟩
     ·rw[hu,hv];simp[stL]
     ·rw[<-hu,hw']at hf;have be:bels G.length [Stp.enc ⟨n,m,r⟩,.int (P t v)]=xH:=by simp[Stp.enc]
      generalize Stp.enc ⟨n,m,r⟩=E at*;have h0:=hpos (rs u);have h3:=hpos (rs w);generalize Aa ((rs u).take 1)=V1 at*;generalize Aa t=T at*;generalize P t u=p0 at*;generalize P t (rs u)=p1 at*;generalize P t w=p2 at*;generalize P t (rs w)=p3 at*;generalize P t v=p4 at*;unfold Gm Ji;rw[An];simp[-Bb,hE,h0,hsl2,fs,hplus,hw1,hE2,h3,hfz,hf,be,Aq]
    ·refine .inr ⟨λs v hok hc=>?_,?_⟩
     ·have h1:=Iu (s:=s) (v:=v);rw[<-hc,hw]at h1;have h2:=(List.cons.inj h1.2).2;have h3:=K3 (d:=num s.m) (c:=32) (v:=wyL s.r++v) G6 (by lia);rw[<-h2]at h3;exact hno s.r v h3.2
     ·rw[<-hu,hw']at hf;have h0:=hpos (rs u);have h3:=hpos (rs w);generalize Aa ((rs u).take 1)=V1 at*;generalize Aa t=T at*;generalize P t u=p0 at*;generalize P t (rs u)=p1 at*;generalize P t w=p2 at*;generalize P t (rs w)=p3 at*;unfold Gm Ji;rw[An];simp[-Bb,hE,h0,hsl2,fs,hplus,hw1,hE2,h3,hfz,hf,Aq]
   ·simp only[if_neg hM]at hE2;refine .inr ⟨λs v hok hc=>?_,?_⟩
    ·have h1:=Iu (s:=s) (v:=v);rw[<-hc,hw]at h1;have h2:=(List.cons.inj h1.2).2;have h3:=K3 (d:=num s.m) (c:=32) (v:=wyL s.r++v) G6 (by lia);rw[<-h2]at h3;rw[h3.1]at hM;exact hM (Nt hok.2.1 hok.2.2)
    ·have h0:=hpos (rs u);generalize Aa ((rs u).take 1)=V1 at*;generalize Aa t=T at*;generalize P t u=p0 at*;generalize P t (rs u)=p1 at*;generalize P t w=p2 at*;unfold Gm Ji;rw[An];simp[-Bb,hE,h0,hsl2,fs,hplus,hw1,hE2,Aq]
  ·refine .inr ⟨λs v hok hc=>?_,?_⟩
   ·have h1:=Iu (s:=s) (v:=v);rw[<-hc]at h1;rw[h1.2]at hp;exact hp rfl
   ·have h0:=hpos (rs u);have hplus:(Aa ((rs u).take 1)=("+":Str))=False:=by rw[e1,Dg];simp[hp]
    generalize Aa ((rs u).take 1)=V1 at*;generalize Aa t=T at*;generalize P t u=p0 at*;generalize P t (rs u)=p1 at*;unfold Gm Ji;rw[An];simp[-Bb,hE,h0,hsl',fs,hplus,Aq]
 ·simp only[if_neg hN]at hE;refine .inr ⟨λs v hok hc=>?_,?_⟩
  ·have h1:=Iu (s:=s) (v:=v);rw[<-hc]at h1;rw[h1.1]at hN;exact hN (Nt hok.1.1 hok.1.2)
  ·generalize Aa t=T at*;generalize P t u=p0 at*;unfold Gm Ji;rw[An];simp[hE,Aq]
def mkL(first:Bool):List Nat:=if first then[32]else[44,32]
def goL:Bool->List Stp->List Nat
 |_,[]=>[]
 |b,s::r=>mkL b++stL s++goL xI r
theorem ZBe:∀(s:Stp)(r:List Stp),stL s++goL xI r=Ak [44,32] ((s::r).map stL)
 |s,[]=>by simp[goL,Ak]
 |s,t::r=>by have ih:=ZBe t r;show stL s++([44,32]++stL t++goL xI r)=stL s++[44,32]++Ak [44,32] ((t::r).map stL);rw[<-ih];simp
theorem Xk:goL xH st=Cy st:=by
 cases st with
 |nil=>rfl
 |cons s r=>
  show[32]++stL s++goL xI r=32::Ak [44,32] ((s::r).map stL);rw[<-ZBe];simp
def Tl(w:List Nat):Prop:=w=[]∨∃z,w=59::32::z
theorem Vj{s':Stp}{v':List Nat}(h:stL s++v=stL s'++v'):v=v':=by
 have h1:=(Iu (s:=s) (v:=v)).2;have h2:=(Iu (s:=s') (v:=v')).2;rw[h,h2]at h1;have h3:=(List.cons.inj h1).2;have a1:=(K3 (d:=num s.m) (c:=32) (v:=wyL s.r++v) G6 (by lia)).2;have a2:=(K3 (d:=num s'.m) (c:=32) (v:=wyL s'.r++v') G6 (by lia)).2;rw[<-h3,a2]at a1;have h4:=(List.cons.inj a1).2
 cases hr:s.r<;>cases hr':s'.r<;>rw[hr,hr']at h4<;>simp[wyL]at h4<;>exact h4.symm
theorem Uh{b:Bool}{w:List Nat}(h:Tl w):w≠mkL b++v:=by
 rintro z;rcases h with h|⟨y,h⟩
 ·rw[h]at z
  cases b<;>simp[mkL]at z
 ·rw[h]at z
  cases b<;>simp[mkL]at z
theorem ZEg(b:Bool):(mkL b).length<=2:=by cases b<;>decide
theorem ZBf{t:List Nat}(ht:t.length<=5000){s2 s3:Option D}{G:DH}:∀(m:Nat)(b:Bool)(v:List Nat)(acc:List Stp)(x6:Option D),v <:+ t->v.length<m->acc.length+v.length<=10000->
  (∃(st:List Stp)(w:List Nat)(b':Bool)(y6:Option D),(∀s∈st,StpOk s)/\v=goL b st++w/\(∀st' w',Tl w'->v=goL b st'++w'->w'=w)/\st.length<=v.length/\
   sWh Hr Hk m [zS (Aa t),zI (P t v),s2,s3,zR G.length,zS (Aa (mkL b)),x6] (G++[.lst (acc.map Stp.enc)])=
    .nx [zS (Aa t),zI (P t w),s2,s3,zR G.length,zS (Aa (mkL b')),y6] (G++[.lst ((acc++st).map Stp.enc)]))∨
  ((∀st w,(∀s∈st,StpOk s)->Tl w->v≠goL b st++w)/\∃L,sWh Hr Hk m [zS (Aa t),zI (P t v),s2,s3,zR G.length,zS (Aa (mkL b)),x6] (G++[.lst (acc.map Stp.enc)])=.rt .non (G++[.lst L]))
 |0,b,v,acc,x6,_,h,_=>by lia
 | m + 1,b,v,acc,x6,hs,h,ha=>by
  have ht':t.length<=1000000:=by lia
  have hlm:(Aa (mkL b)).length=(mkL b).length:=Ay;have hl2:=ZEg b;have hsl:=λG=>Il hs ht' (mkL b).length G
  have fs:∀(x:Str)(G:DH),freeze G (.ok (.str x) G)=.ok (.str x) G:=λx G=>I8 rfl
  have hlen:∀G,Az [.str (Aa (mkL b))] G=.ok (.int (mkL b).length) G:=λG=>by
   have:(mkL b).length<=1000000:=by lia
   simp[this]
  have hq:(Aa (v.take (mkL b).length)=Aa (mkL b))=(v.take (mkL b).length=mkL b):=Dg;by_cases hp:v.take (mkL b).length=mkL b
  ·have hT:Hr [zS (Aa t),zI (P t v),s2,s3,zR G.length,zS (Aa (mkL b)),x6] (G++[.lst (acc.map Stp.enc)])=.ok xH (G++[.lst (acc.map Stp.enc)]):=by
    have hq':(Aa (v.take (mkL b).length)=Aa (mkL b))=True:=by rw[hq];simp[hp]
    generalize Aa (v.take (mkL b).length)=V1 at*;generalize Aa (mkL b)=M at*;generalize Aa t=T at*;generalize P t v=p at*;generalize acc.map Stp.enc=A at*;generalize(mkL b).length=k at*;unfold Hr;simp[-Bb,-Cg,hlen,hsl,fs,hq']
   have hv:v=mkL b++v.drop (mkL b).length:=by have:=jQ (mkL b).length v;rw[hp]at this;exact this.symm
   have hs1:=Cr (t:=t) (d:=mkL b) (v:=v.drop (mkL b).length) (by rw[<-hv];exact hs);rw[<-hv]at hs1;have hvl:v.length=(mkL b).length+(v.drop (mkL b).length).length:=by have:=congrArg qE hv;rwa[zK]at this
   generalize hv1:v.drop (mkL b).length=v1 at*
   have hmk1:1<=(mkL b).length:=by cases b<;>decide
   rcases lstep ht hs1.1 (G++[.lst (acc.map Stp.enc)])with⟨s,v2,hok,hu,hst⟩|⟨hno,hst⟩
   ·have hs2:=Cr (t:=t) (d:=stL s) (v:=v2) (by rw[<-hu];exact hs1.1);have hl3:v1.length=(stL s).length+v2.length:=by rw[hu,zK]
    have hstl:1<=(stL s).length:=by simp[stL];lia
    have hb:Hk [zS (Aa t),zI (P t v),s2,s3,zR G.length,zS (Aa (mkL b)),x6] (G++[.lst (acc.map Stp.enc)])=
      .nx [zS (Aa t),zI (P t v2),s2,s3,zR G.length,zS (Aa (mkL xI)),zT [s.enc,.int (P t v2)]] (G++[.lst ((acc++[s]).map Stp.enc)]):=by
     have hp1:P t v+((mkL b).length:Int)=P t v1:=by rw[hs1.2]
     have hal:(acc.map Stp.enc).length<1000000:=by rw[zy];lia
     have e2:(", ":Str)=Aa (mkL xI):=by decide +kernel
     rw[qy,zV,zL];rw[<-e2];generalize s.enc=E at*;generalize Aa (mkL b)=M at*;generalize Aa t=T at*;generalize P t v=p at*;generalize P t v1=p1 at*;generalize P t v2=p2 at*;generalize acc.map Stp.enc=A at*;generalize(mkL b).length=k at*;unfold Hk;simp[-Cg,hlen,hp1,hst,Fv,Ht,hal]
    rcases ZBf ht (s2:=s2) (s3:=s3) (G:=G) m xI v2 (acc++[s]) (zT [s.enc,.int (P t v2)]) hs2.1 (by lia) (by simp;lia)with⟨st,w,b',y6,k1,k2,k3,k4,k5⟩|⟨k1,L,k2⟩
    ·refine .inl ⟨s::st,w,b',y6,jJ.mpr ⟨hok,k1⟩,?_,?_,by simp;lia,?_⟩
     ·rw[hv,hu,k2];simp[goL]
     ·intro st' w' hw' e';cases st' with
      |nil=>
       rw[show goL b []++w'=w' from rfl]at e'
       rw[e']at hv;exact absurd hv (Uh hw')
      |cons s' r'=>
       have e2:mkL b++v1=mkL b++(stL s'++(goL xI r'++w')):=by rw[<-hv,e'];simp[goL]
       have e3:=jq e2;rw[hu]at e3;exact k3 r' w' hw' (Vj e3)
     ·unfold sWh;rw[hT];simp only[R.Bq,if_true,hb,Cq,k5];rw[qJ]
      rfl
    ·refine .inr ⟨λst' w' hst' hw' e'=>?_,L,?_⟩
     ·cases st' with
      |nil=>
       rw[show goL b []++w'=w' from rfl]at e'
       rw[e']at hv;exact absurd hv (Uh hw')
      |cons s' r'=>
       have e2:mkL b++v1=mkL b++(stL s'++(goL xI r'++w')):=by rw[<-hv,e'];simp[goL]
       have e3:=jq e2;rw[hu]at e3;exact k1 r' w' (λx hx=>hst' x (zW _ hx)) hw' (Vj e3)
     ·unfold sWh;rw[hT];simp only[R.Bq,if_true,hb,Cq,k2]
   ·have hb:Hk [zS (Aa t),zI (P t v),s2,s3,zR G.length,zS (Aa (mkL b)),x6] (G++[.lst (acc.map Stp.enc)])=.rt .non (G++[.lst (acc.map Stp.enc)]):=by
     have hp1:P t v+((mkL b).length:Int)=P t v1:=by rw[hs1.2]
     generalize Aa (mkL b)=M at*;generalize Aa t=T at*;generalize P t v=p at*;generalize P t v1=p1 at*;generalize acc.map Stp.enc=A at*;generalize(mkL b).length=k at*;unfold Hk;simp[-Cg,hlen,hp1,hst]
    refine .inr ⟨λst' w' hst' hw' e'=>?_,acc.map Stp.enc,?_⟩
    ·cases st' with
     |nil=>
      rw[show goL b []++w'=w' from rfl]at e'
      rw[e']at hv;exact absurd hv (Uh hw')
     |cons s' r'=>
      have e2:mkL b++v1=mkL b++(stL s'++(goL xI r'++w')):=by rw[<-hv,e'];simp[goL]
      exact hno s' _ (hst' s' (by simp)) (jq e2)
    ·unfold sWh;rw[hT];simp only[R.Bq,if_true,hb]
     rfl
  ·have hT:Hr [zS (Aa t),zI (P t v),s2,s3,zR G.length,zS (Aa (mkL b)),x6] (G++[.lst (acc.map Stp.enc)])=.ok xI (G++[.lst (acc.map Stp.enc)]):=by
    have hq':(Aa (v.take (mkL b).length)=Aa (mkL b))=False:=by rw[hq];simp[hp]
    generalize Aa (v.take (mkL b).length)=V1 at*;generalize Aa (mkL b)=M at*;generalize Aa t=T at*;generalize P t v=p at*;generalize acc.map Stp.enc=A at*;generalize(mkL b).length=k at*;unfold Hr;simp[-Bb,-Cg,hlen,hsl,fs,hq']
   refine .inl ⟨[],v,b,x6,by simp,rfl,?_,by simp,?_⟩
   ·intro st' w' hw' e';cases st' with
    |nil=>exact e'.symm
    |cons s' r'=>
     refine absurd ?_ hp;rw[e'];show(mkL b++stL s'++goL xI r'++w').take (mkL b).length=mkL b;rw[qJ,qJ,List.take_append_of_le_length (zJ _),qP]
   ·unfold sWh;rw[hT];simp
theorem ZBg{s:Ssn}:snL s=num s.1++58::goL xH s.2:=by rw[Xk];rfl
theorem lseason(ht:t.length<=5000)(hs:u <:+ t)(G:DH):
  (∃s v,SsnG s/\u=snL s++v/\(∀s' v',Tl v'->u=snL s'++v'->v'=v)/\H9 [.str (Aa t),.int (P t u)] G=.ok (.tup [Af s,.int (P t v)]) G)∨
  ((∀s v,SsnG s->Tl v->u≠snL s++v)/\H9 [.str (Aa t),.int (P t u)] G=.ok .non G):=by
 have ht':t.length<=1000000:=by lia
 have hE:=λG=>P0 ht hs G
 have hdr:=Mw u;have e1:(":":Str)=Aa [58]:=by decide +kernel
 have fs:∀(x:Str)(G:DH),freeze G (.ok (.str x) G)=.ok (.str x) G:=λx G=>I8 rfl
 have hpos:∀w:List Nat,¬P t w<0:=λw=>by unfold P;lia
 have hsn:∀(s:Ssn)(v:List Nat),dg (snL s++v)=num s.1/\rs (snL s++v)=58::(goL xH s.2++v):=λs v=>by
  rw[ZBg];have e:num s.1++58::goL xH s.2++v=num s.1++58::(goL xH s.2++v):=by simp
  rw[e];exact K3 G6 (by lia)
 by_cases hN:IsN (dg u)
 ·simp only[if_pos hN]at hE;have hs1:=Cr (t:=t) (d:=dg u) (v:=rs u) (by rw[hdr];exact hs);have hsl:=λG=>Il hs1.1 ht' 1 G
  have hsl':∀G,Dq (.str (Aa t)) (xF (P t (rs u))) (xF (P t (rs u)+1)) G=.ok (.str (Aa ((rs u).take 1))) G:=hsl;by_cases hp:(rs u).take 1=[58]
  ·obtain⟨w,hw⟩:∃w,rs u=58::w:=by
    cases hr:rs u with
    |nil=>rw[hr]at hp;simp at hp
    |cons x w=>
     rw[hr]at hp;simp at hp;exact⟨w,by rw[hp]⟩
   have hs2:=Cr (t:=t) (d:=[58]) (v:=w) (by have:=hs1.1;rw[hw]at this;exact this)
   have hw1:P t (rs u)+1=P t w:=by have h2:=hs2.2;rw[hw];simp at h2;lia
   have hsl2:=hsl';simp only[hw1]at hsl2;have hplus:(Aa ((rs u).take 1)=(":":Str))=True:=by rw[e1,Dg];simp[hp]
   obtain⟨n,hn,hdn⟩:=J6 hN;have hto:=λG=>Te (t:=t) (d:=dg u) (v:=rs u) (by rw[hdr];exact hs) ht' G
   rw[hdr,hdn]at hto;have hin:=λG=>Uj hn.1 hn.2 G
   have hu:u=num n++58::w:=by rw[<-hdr,hdn,hw]
   have hwl:=hs2.1.length_le;have e5:(" ":Str)=Aa (mkL xH):=by decide +kernel
   have tn:tidy G (.ok (.ref G.length) (G++[.lst []]))=.ok (.ref G.length) (G++[.lst []]):=Jg rfl;rcases ZBf ht (s2:=zI (P t (rs u))) (s3:=zI n) (G:=G) fuel xH w [] xG hs2.1 (by show w.length<10000;lia) (by simp;lia)with⟨st,v,b',y6,k1,k2,k3,k4,k5⟩|⟨k1,L,k2⟩
   ·refine .inl ⟨(n,st),v,⟨hn,k1⟩,?_,?_,?_⟩
    ·rw[hu,ZBg,k2];simp
    ·intro s' v' hv' e';have h1:=(hsn s' v').2;rw[<-e',hw]at h1;exact k3 s'.2 v' hv' (List.cons.inj h1).2
    ·have h0:=hpos (rs u);rw[zL,qT]at k5;rw[<-e5]at k5;have ee:Af (n,st)=.tup [.int n,.tup (st.map Stp.enc)]:=rfl;rw[ee];have be:bels G.length (st.map Stp.enc)=xH:=Mz;generalize st.map Stp.enc=Z at*;have td:tidy G (.ok (.tup [.tup [.int n,.tup Z],.int (P t v)]) (G++[.lst Z]))=.ok (.tup [.tup [.int n,.tup Z],.int (P t v)]) G:=Ii (by simp[be]);generalize Aa (mkL b')=MB at*
     generalize Aa ((rs u).take 1)=V1 at*;generalize Aa (num n)=NN at*;generalize Aa t=T at*;generalize P t u=p0 at*;generalize P t (rs u)=p1 at*;generalize P t w=p2 at*;generalize P t v=p4 at*;unfold H9 Kz;rw[An];simp[-Bb,Ah,hE,h0,hsl2,fs,hplus,hw1,hto,hin,tn,k5,Fv,td]
   ·refine .inr ⟨λs' v' hok hv' hc=>?_,?_⟩
    ·have h1:=(hsn s' v').2;rw[<-hc,hw]at h1;exact k1 s'.2 v' hok.2 hv' (List.cons.inj h1).2
    ·have h0:=hpos (rs u);rw[zL]at k2;rw[<-e5]at k2;have td:∀L:DH,tidy G (.ok .non (G++L))=.ok .non G:=λL=>Ii rfl
     generalize Aa ((rs u).take 1)=V1 at*;generalize Aa (num n)=NN at*;generalize Aa t=T at*;generalize P t u=p0 at*;generalize P t (rs u)=p1 at*;generalize P t w=p2 at*;unfold H9 Kz;rw[An];simp[-Bb,Ah,hE,h0,hsl2,fs,hplus,hw1,hto,hin,tn,k2,td]
  ·refine .inr ⟨λs v hok hv hc=>?_,?_⟩
   ·have h1:=(hsn s v).2;rw[<-hc]at h1;rw[h1]at hp;exact hp rfl
   ·have h0:=hpos (rs u);have hplus:(Aa ((rs u).take 1)=(":":Str))=False:=by rw[e1,Dg];simp[hp]
    generalize Aa ((rs u).take 1)=V1 at*;generalize Aa t=T at*;generalize P t u=p0 at*;generalize P t (rs u)=p1 at*;unfold H9 Kz;rw[An];simp[-Bb,hE,h0,hsl',fs,hplus,Aq]
 ·simp only[if_neg hN]at hE;refine .inr ⟨λs v hok hv hc=>?_,?_⟩
  ·have h1:=(hsn s v).1;rw[<-hc]at h1;rw[h1]at hN;exact hN (Nt hok.1.1 hok.1.2)
  ·generalize Aa t=T at*;generalize P t u=p0 at*;unfold H9 Kz;rw[An];simp[hE,Aq]
theorem W9{s s2:Ssn}{r:List Ssn}:ruL (s::s2::r)=snL s++59::32::ruL (s2::r):=by show snL s++[59,32]++Ak [59,32] ((s2::r).map snL)=_;simp[ruL]
theorem Qc(s:Ssn)(r:List Ssn):∃v,Tl v/\ruL (s::r)=snL s++v/\(r=[]->v=[])/\(∀s2 q,r=s2::q->v=59::32::ruL r):=by
 cases r with
 |nil=>exact⟨[],.inl rfl,by simp[ruL,Ak],λ_=>rfl,λs2 q h=>by cases h⟩
 |cons s2 q=>exact⟨_,.inr ⟨_,rfl⟩,W9,(λh=>by cases h),λ_ _ _=>rfl⟩
theorem Vg {t:List Nat} (ht:t.length<=5000) {G:DH}:∀(m:Nat)(u:List Nat)(acc:List Ssn)(x3:Option D),u <:+ t->u.length<m->acc.length+u.length<=10000->
  (∃ss:List Ssn,RuG ss/\u=ruL ss/\∃L,sWh Lf Eh m [zS (Aa t),zR G.length,zI (P t u),x3] (G++[.lst (acc.map Af)])=.rt (.tup ((acc++ss).map Af)) (G++[.lst L]))∨
  ((∀ss,RuG ss->u≠ruL ss)/\∃L,sWh Lf Eh m [zS (Aa t),zR G.length,zI (P t u),x3] (G++[.lst (acc.map Af)])=.rt .non (G++[.lst L]))
 |0,u,acc,x3,_,h,_=>by lia
 | m + 1,u,acc,x3,hs,h,ha=>by
  have ht':t.length<=1000000:=by lia
  have hT:Lf [zS (Aa t),zR G.length,zI (P t u),x3] (G++[.lst (acc.map Af)])=.ok xH (G++[.lst (acc.map Af)]):=by unfold Lf;simp
  have fs:∀(x:Str)(G:DH),freeze G (.ok (.str x) G)=.ok (.str x) G:=λx G=>I8 rfl
  have hlen:∀G,Az [.str (Aa t)] G=.ok (.int t.length) G:=λG=>by simp[ht']
  rcases lseason ht hs (G++[.lst (acc.map Af)])with⟨s,v,hok,hu,huq,hse⟩|⟨hno,hse⟩
  ·have hs1:=Cr (t:=t) (d:=snL s) (v:=v) (by rw[<-hu];exact hs);have hul:u.length=(snL s).length+v.length:=by rw[hu,zK]
   have hsl1:1<=(snL s).length:=by unfold snL;rw[zK,zz];lia
   have hal:(acc.map Af).length<1000000:=by rw[zy];lia
   have be:bels (G++[DO.lst ((acc++[s]).map Af)]).length ((acc++[s]).map Af)=xH:=Iw;by_cases hv0:v=[]
   ·subst hv0;refine .inl ⟨[s],⟨by simp,by simpa using hok⟩,?_,(acc++[s]).map Af,?_⟩
    ·rw[hu];simp[ruL,Ak]
    ·have hP:P t []=(t.length:Int):=rfl;have hb:Eh [zS (Aa t),zR G.length,zI (P t u),x3] (G++[.lst (acc.map Af)])=.rt (.tup ((acc++[s]).map Af)) (G++[.lst ((acc++[s]).map Af)]):=by rw[hP]at hse;rw[qy,zV,zL]at*;generalize Af s=E at*;generalize Aa t=T at*;generalize P t u=p at*;generalize acc.map Af=A at*;unfold Eh;simp[-Cg,hse,Fv,Ht,hal,hlen]
     unfold sWh;rw[hT];simp only[R.Bq,if_true,hb]
     rfl
   ·have hvt:=hs1.1.length_le;have hvp:0<v.length:=List.length_pos_iff.mpr hv0;have hne:¬P t v=(t.length:Int):=by unfold P;lia
    have hne':(P t v=(t.length:Int))=False:=by simp[hne]
    have hsl:=λG=>Il hs1.1 ht' 2 G
    have hsl':∀G,Dq (.str (Aa t)) (xF (P t v)) (xF (P t v+2)) G=.ok (.str (Aa (v.take 2))) G:=hsl;have e1:("; ":Str)=Aa [59,32]:=by decide +kernel
    by_cases hp:v.take 2=[59,32]
    ·obtain⟨w,hw⟩:∃w,v=59::32::w:=⟨v.drop 2,by have:=jQ 2 v;rw[hp]at this;exact this.symm⟩
     have hs2:=Cr (t:=t) (d:=[59,32]) (v:=w) (by have:=hs1.1;rw[hw]at this;exact this)
     have hw1:P t v+2=P t w:=by have h2:=hs2.2;rw[hw];simp at h2;lia
     have hsl2:=hsl';simp only[hw1]at hsl2;have hwl:v.length=w.length+2:=by rw[hw];rfl
     have hb:Eh [zS (Aa t),zR G.length,zI (P t u),x3] (G++[.lst (acc.map Af)])=.nx [zS (Aa t),zR G.length,zI (P t w),zT [Af s,.int (P t v)]] (G++[.lst ((acc++[s]).map Af)]):=by
      have hplus:(Aa (v.take 2)=("; ":Str))=True:=by rw[e1,Dg];simp[hp]
      rw[qy,zV,zL];generalize Aa (v.take 2)=V2 at*;generalize Af s=E at*;generalize Aa t=T at*;generalize P t u=p at*;generalize P t v=p1 at*;generalize P t w=p2 at*;generalize acc.map Af=A at*;unfold Eh;simp[-Cg,-Bb,hse,Fv,Ht,hal,hlen,hne',hw1,hsl2,fs,hplus]
     have hq:∀ss,RuG ss->u=ruL ss->∃s2 q,ss.tail=s2::q/\w=ruL ss.tail:=λss hr e=>by
      cases ss with
      |nil=>exact absurd rfl hr.ne
      | cons s' r=>
       obtain⟨v',h1,h2,h3,h4⟩:=Qc s' r;have h5:=huq s' v' h1 (e.trans h2);cases r with
       |nil=>
        rw[h3 rfl]at h5;exact absurd h5.symm hv0
       |cons s2 q=>
        rw[h4 s2 q rfl,hw]at h5;exact⟨s2,q,rfl,((List.cons.inj (List.cons.inj h5).2).2).symm⟩
     rcases Vg ht (G:=G) m w (acc++[s]) (zT [Af s,.int (P t v)]) hs2.1 (by lia) (by simp;lia)with⟨ss,k1,k2,L,k3⟩|⟨k1,L,k2⟩
     ·refine .inl ⟨s::ss,⟨by simp,jJ.mpr ⟨hok,k1.ok⟩⟩,?_,L,?_⟩
      ·cases ss with
       |nil=>exact absurd rfl k1.ne
       |cons s2 q=>rw[W9,hu,hw,k2]
      ·unfold sWh;rw[hT];simp only[R.Bq,if_true,hb,Cq,k3];rw[qJ]
       rfl
     ·refine .inr ⟨λss hr e=>?_,L,?_⟩
      ·obtain⟨s2,q,h1,h2⟩:=hq ss hr e;exact k1 ss.tail ⟨by rw[h1];simp,λx hx=>hr.ok x (List.mem_of_mem_tail hx)⟩ h2
      ·unfold sWh;rw[hT];simp only[R.Bq,if_true,hb,Cq,k2]
    ·refine .inr ⟨λss hr e=>?_,(acc++[s]).map Af,?_⟩
     ·cases ss with
      |nil=>exact absurd rfl hr.ne
      |cons s' r=>
       obtain⟨v',h1,h2,h3,h4⟩:=Qc s' r;have h5:=huq s' v' h1 (e.trans h2);rcases h1 with h1|⟨z,h1⟩
       ·rw[h1]at h5;exact hv0 h5.symm
       ·rw[h1]at h5;rw[<-h5]at hp;exact hp rfl
     ·have hb:Eh [zS (Aa t),zR G.length,zI (P t u),x3] (G++[.lst (acc.map Af)])=.rt .non (G++[.lst ((acc++[s]).map Af)]):=by
       have hplus:(Aa (v.take 2)=("; ":Str))=False:=by rw[e1,Dg];simp[hp]
       rw[qy,zV,zL];generalize Aa (v.take 2)=V2 at*;generalize Af s=E at*;generalize Aa t=T at*;generalize P t u=p at*;generalize P t v=p1 at*;generalize acc.map Af=A at*;unfold Eh;simp[-Cg,-Bb,hse,Fv,Ht,hal,hlen,hne',hsl',fs,hplus]
      unfold sWh;rw[hT];simp only[R.Bq,if_true,hb]
      rfl
  ·refine .inr ⟨λss hr e=>?_,acc.map Af,?_⟩
   ·cases ss with
    |nil=>exact absurd rfl hr.ne
    |cons s' r=>
     obtain⟨v',h1,h2,h3,h4⟩:=Qc s' r;exact hno s' v' (hr.ok s' (by simp)) h1 (e.trans h2)
   ·have hb:Eh [zS (Aa t),zR G.length,zI (P t u),x3] (G++[.lst (acc.map Af)])=.rt .non (G++[.lst (acc.map Af)]):=by generalize Aa t=T at*;generalize P t u=p at*;generalize acc.map Af=A at*;unfold Eh;simp[hse]
    unfold sWh;rw[hT];simp only[R.Bq,if_true,hb]
    rfl
theorem lreading(ht:t.length<=5000)(G:DH):
  (∃ss:List Ssn,RuG ss/\t=ruL ss/\Jz [.str (Aa t)] G=.ok (.tup (ss.map Af)) G)∨
  ((∀ss,RuG ss->t≠ruL ss)/\Jz [.str (Aa t)] G=.ok .non G):=by
 have hP:P t t=0:=by simp[P]
 have tn:tidy G (.ok (.ref G.length) (G++[.lst []]))=.ok (.ref G.length) (G++[.lst []]):=Jg rfl;rcases Vg ht (G:=G) fuel t [] xG (List.suffix_refl t) (by show t.length<10000;lia) (by simp;lia)with⟨ss,k1,k2,L,k3⟩|⟨k1,L,k2⟩
 ·refine .inl ⟨ss,k1,k2,?_⟩;rw[hP,zL,qT]at k3;have be:bels G.length (ss.map Af)=xH:=Iw;generalize ss.map Af=Z at*;have td:tidy G (.ok (.tup Z) (G++[.lst L]))=.ok (.tup Z) G:=Ii (by simp[be]);generalize Aa t=T at*;unfold Jz Qh;rw[An];simp[Ah,tn,k3,td]
 ·refine .inr ⟨k1,?_⟩;rw[hP,zL]at k2;have td:∀L:DH,tidy G (.ok .non (G++L))=.ok .non G:=λL=>Ii rfl
  generalize Aa t=T at*;unfold Jz Qh;rw[An];simp[Ah,tn,k2,td]
theorem ZDY{sep:List Nat}(h:(ls.map qE).sum+ls.length*sep.length<=1000000)(G:DH):Gn (.str (Aa sep)) [.fl ((ls.map Aa).map D.str)] G=.ok (.str (Aa (Ak sep ls))) G:=by
 have e:(ls.map Aa).map (·.length)=ls.map qE:=by rw[List.map_map];exact List.map_congr_left λl _=>by simp
 rw[ZDh (by rw[e,zy,Ay];exact h),ZCD]
theorem Vn{B:Nat}:∀(ls:List (List Nat)),(∀l∈ls,l.length<=B)->(ls.map qE).sum<=ls.length*B
 |[],_=>by simp
 |x::r,h=>by
  have h1:=h x (by simp);have ih:=Vn r λl hl=>h l (zW _ hl)
  rw[zV,List.sum_cons,zz,Nat.succ_mul];lia
theorem ZFV(h:RuOk ss):((ss.map snL).map qE).sum+(ss.map snL).length * [59,32].length<=1000000:=by
 have h5:=Vn (B:=450) (ss.map snL) λl hl=>by obtain⟨u,hu,rfl⟩:=q0.mp hl;exact S6 (h.ok u hu)
 rw[zy]at h5⊢;have h6:ss.length*450<=5*450:=qL _ h.len;have h7:ss.length * [59,32].length<=5*2:=qL _ h.len;lia
def mkS(b:Bool):Str:=if b then " " else ", "
theorem ZF4{b:Bool}:mkS b=Aa (mkL b):=by cases b<;>decide +kernel
theorem ZBs{s0 s1 s2 s3:Option D}{G:DH}:∀(st:List Stp)(b:Bool)(T:List Nat)(x6 x7 x8:Option D),(∀s∈st,StpOk s)->T.length+st.length*89<=10000->∃y5 y6 y7 y8,
  Bm (Do 3 (Bk (gV 6) (Bk (gV 7) (Bk (gV 8) Ef)))) N8 (st.map Stp.enc) [s0,s1,s2,s3,zS (Aa T),zS (mkS b),x6,x7,x8] G=
   .nx [s0,s1,s2,s3,zS (Aa (T++goL b st)),y5,y6,y7,y8] G
 |[],b,T,x6,x7,x8,_,_=>⟨zS (mkS b),x6,x7,x8,by rw[zL,G9];simp[goL]⟩
 | s::st,b,T,x6,x7,x8,h,hT=>by
  have hs:=h s (by simp);have h1:=Dw hs.1.2;have h2:=Dw hs.2.2;have h3:=Qy (r:=s.r)
  have h4:(mkL b).length<=2:=by cases b<;>decide
  simp only[zz]at hT;rw[Nat.succ_mul]at hT;have e1:("+":Str)=Aa [43]:=by decide +kernel
  have e2:(" ":Str)=Aa [32]:=by decide +kernel
  have hsl:=V5 hs;have es:T++mkL b++num s.h++[43]++num s.m++[32]++wyL s.r=T++(mkL b++stL s):=by simp[stL]
  obtain⟨y5,y6,y7,y8,ih⟩:=ZBs (s0:=s0) (s1:=s1) (s2:=s2) (s3:=s3) (G:=G) st xI (T++(mkL b++stL s)) (zI s.h) (zI s.m) (zS (wy s.r)) (λx hx=>h x (zW _ hx)) (by simp;lia);refine⟨y5,y6,y7,y8,?_⟩;have hb:N8 [s0,s1,s2,s3,zS (Aa T),zS (mkS b),zI s.h,zI s.m,zS (wy s.r)] G=.nx [s0,s1,s2,s3,zS (Aa (T++(mkL b++stL s))),zS (mkS xI),zI s.h,zI s.m,zS (wy s.r)] G:=by
   have a1:=λG=>Bl (l:=T) (l':=mkL b) (by lia) G
   have a2:=λG=>Bl (l:=T++mkL b) (l':=num s.h) (by simp;lia) G
   have a3:=λG=>Bl (l:=T++mkL b++num s.h) (l':=[43]) (by simp;lia) G
   have a4:=λG=>Bl (l:=T++mkL b++num s.h++[43]) (l':=num s.m) (by simp;lia) G
   have a5:=λG=>Bl (l:=T++mkL b++num s.h++[43]++num s.m) (l':=[32]) (by simp;lia) G
   have a6:=λG=>Bl (l:=T++mkL b++num s.h++[43]++num s.m++[32]) (l':=wyL s.r) (by simp;lia) G
   have c1:=λG=>Uy hs.1.1 hs.1.2 G
   have c2:=λG=>Uy hs.2.1 hs.2.2 G
   have em:mkS xI=(", ":Str):=rfl;rw[es]at a6;rw[em,ZF4,Jb];rw[<-e1]at a3;rw[<-e2]at a5;generalize Aa (T++(mkL b++stL s))=X6 at*;generalize Aa (T++mkL b++num s.h++[43]++num s.m++[32])=X5 at*;generalize Aa (T++mkL b++num s.h++[43]++num s.m)=X4 at*;generalize Aa (T++mkL b++num s.h++[43])=X3 at*;generalize Aa (T++mkL b++num s.h)=X2 at*;generalize Aa (T++mkL b)=X1 at*;generalize Aa T=X0 at*
   generalize Aa (mkL b)=Y1 at*;generalize Aa (num s.h)=Y2 at*;generalize Aa (num s.m)=Y3 at*;generalize Aa (wyL s.r)=Y4 at*;unfold N8;simp[-Eg,a1,a2,a3,a4,a5,a6,c1,c2]
  have e0:Stp.enc s=.tup [.int s.h,.int s.m,.str (wy s.r)]:=rfl;rw[zV,Dp,e0];simp only[ZBn,Wy,ZBB,Br,R.Ed,R.Bq,qW,zz,qR,Nat.reduceAdd,if_true,hb,Cq];rw[ih];show SR.nx [s0,s1,s2,s3,zS (Aa (T++(mkL b++stL s)++goL xI st)),y5,y6,y7,y8] G=.nx [s0,s1,s2,s3,zS (Aa (T++(mkL b++stL s++goL xI st))),y5,y6,y7,y8] G;rw[qJ]
theorem W0{s0:Option D}{G:DH}:∀(ss:List Ssn)(acc:List (List Nat))(x2 x3 x4 x5 x6 x7 x8:Option D),(∀s∈ss,SsnOk s)->acc.length+ss.length<=100->∃y2 y3 y4 y5 y6 y7 y8,
  Bm (Do 2 (Bk (gV 2) (Bk (gV 3) Ef))) M9 (ss.map Af) [s0,zR G.length,x2,x3,x4,x5,x6,x7,x8] (G++[.lst ((acc.map Aa).map D.str)])=
   .nx [s0,zR G.length,y2,y3,y4,y5,y6,y7,y8] (G++[.lst (((acc++ss.map snL).map Aa).map D.str)])
 |[],acc,x2,x3,x4,x5,x6,x7,x8,_,_=>⟨x2,x3,x4,x5,x6,x7,x8,by rw[zL,G9];simp⟩
 | s::ss,acc,x2,x3,x4,x5,x6,x7,x8,h,hl=>by
  have hs:=h s (by simp);have h1:=Dw hs.1.2;simp only[zz]at hl;have hsl:=S6 hs;have h4:s.2.length*89<=4*89:=qL _ hs.2.1;obtain⟨z5,z6,z7,z8,hin⟩:=ZBs (s0:=s0) (s1:=zR G.length) (s2:=zI s.1) (s3:=zT (s.2.map Stp.enc)) (G:=G++[.lst ((acc.map Aa).map D.str)]) s.2 xH (num s.1++[58]) x6 x7 x8 hs.2.2 (by simp;lia);have es:num s.1++[58]++goL xH s.2=snL s:=by rw[Xk];simp[snL]
  rw[es]at hin;obtain⟨y2,y3,y4,y5,y6,y7,y8,ih⟩:=W0 (s0:=s0) (G:=G) ss (acc++[snL s]) (zI s.1) (zT (s.2.map Stp.enc)) (zS (Aa (snL s))) z5 z6 z7 z8 (λx hx=>h x (zW _ hx)) (by simp;lia);refine⟨y2,y3,y4,y5,y6,y7,y8,?_⟩;have hb:M9 [s0,zR G.length,zI s.1,zT (s.2.map Stp.enc),x4,x5,x6,x7,x8] (G++[.lst ((acc.map Aa).map D.str)])=.nx [s0,zR G.length,zI s.1,zT (s.2.map Stp.enc),zS (Aa (snL s)),z5,z6,z7,z8] (G++[.lst (((acc++[snL s]).map Aa).map D.str)]):=by
   have e1:(":":Str)=Aa [58]:=by decide +kernel
   have a1:=λG=>Bl (l:=num s.1) (l':=[58]) (by simp;lia) G
   rw[<-e1]at a1;have c1:=λG=>Uy hs.1.1 hs.1.2 G
   have em:mkS xH=(" ":Str):=rfl;rw[em]at hin;have hal:((acc.map Aa).map D.str).length<1000000:=by simp;lia
   rw[qy,qy,zV,zL,zV,zL];generalize(acc.map Aa).map D.str=A at*;generalize s.2.map Stp.enc=B at*;generalize Aa (snL s)=X1 at*;generalize Aa (num s.1++[58])=X2 at*;generalize Aa (num s.1)=X3 at*;unfold M9;simp[-Eg,c1,a1,hin,Fv,Ht,hal]
  have e0:Af s=.tup [.int s.1,.tup (s.2.map Stp.enc)]:=rfl;rw[zV,Dp,e0];simp only[ZBn,Wy,ZBB,Br,R.Ed,R.Bq,qW,zz,qR,Nat.reduceAdd,if_true,hb,Cq];rw[ih];show SR.nx _ (G++[.lst (((acc++[snL s]++ss.map snL).map Aa).map D.str)])=SR.nx _ (G++[.lst (((acc++(snL s::ss.map snL)).map Aa).map D.str)]);rw[qJ]
  rfl
theorem ZHa(h:RuOk ss)(G:DH):N5 [.tup (ss.map Af)] G=.ok (.str (Aa (ruL ss))) G:=by
 obtain⟨y2,y3,y4,y5,y6,y7,y8,hL⟩:=W0 (s0:=zT (ss.map Af)) (G:=G) ss [] xG xG xG xG xG xG xG h.ok (by have:=h.len;simp;lia);have hL':Bm (Do 2 (Bk (gV 2) (Bk (gV 3) Ef))) M9 (ss.map Af) [zT (ss.map Af),zR G.length,xG,xG,xG,xG,xG,xG,xG] (G++[.lst []])=_:=hL;rw[qT]at hL';have hjo:=ZDY (sep:=[59,32]) (ls:=ss.map snL) (ZFV h) (G++[.lst (((ss.map snL).map Aa).map D.str)])
 have e2:("; ":Str)=Aa [59,32]:=by decide +kernel
 have er:Ak [59,32] (ss.map snL)=ruL ss:=rfl;rw[<-e2,er]at hjo;have hjr:Gn (.str ("; ":Str)) [.ref G.length] (G++[.lst (((ss.map snL).map Aa).map D.str)])=.ok (.str (Aa (ruL ss))) (G++[.lst (((ss.map snL).map Aa).map D.str)]):=by
  rw[<-hjo];have hg:(G++[DO.lst (((ss.map snL).map Aa).map D.str)])[G.length]?=xF (.lst (((ss.map snL).map Aa).map D.str)):=by rw[Fv];rfl
  simp only[Gn,Cj,hg]
 generalize((ss.map snL).map Aa).map D.str=Z at*;generalize ss.map Af=Y at*;have td:∀L:DH,tidy G (.ok (.str (Aa (ruL ss))) (G++L))=.ok (.str (Aa (ruL ss))) G:=λL=>Ii rfl
 unfold N5 ZBA;rw[An];simp[Ah,Jg,hL',hjr,td]
def anyF(x c:Int):Int:=if x%3=0 then x/3%12 else if x%3=1 then x/3%10^6 else(c+x/3)%10^40
theorem S9{c:Int}:0<=anyF x c/\anyF x c<10^40:=by
 have h40:(0:Int)<10^40:=by decide
 have h12:(12:Int)<=10^40:=by decide
 have h6:(10:Int)^6<=10^40:=by decide
 have h60:(0:Int)<10^6:=by decide
 unfold anyF;split
 ·have h1:=qX (x/3) (show(12:Int)≠0 by decide);have h2:=zO (x/3) (show(0:Int)<12 by decide);exact⟨h1,Int.lt_of_lt_of_le h2 h12⟩
 ·split
  ·exact⟨qX _ (by decide),Int.lt_of_lt_of_le (zO _ h60) h6⟩
  ·exact⟨qX _ (by decide),zO _ h40⟩
theorem ZAj{c:Int}(G:DH):Jy [.int x,.int c] G=.ok (.int (anyF x c)) G:=by
 unfold Jy Uz anyF;rw[An];by_cases h0:x%3=0
 ·simp[h0,Aq]
 ·by_cases h1:x%3=1
  ·simp[h1,Aq]
  ·simp[h0,h1,Aq]
theorem ZBW:bels m (xs.map D.int)=xH:=Gx λ_ _=>rfl
noncomputable def gx(xs:List Int)(i:Nat):Int:=xs.getD i 0
theorem Et(h:i<xs.length):atI (xs.map D.int) (i:Int)=zI (gx xs i):=Dz rfl (by rw[zM,zk h];simp[gx,jV,h])
def Fb(cell k:Int)(n:Nat):List Int:=strm n 0 ((cell%999999937+2)*(7919*k*k+48271)%2147483647) (if cell<0∨10^18<=cell then max cell (-cell)else 0)
theorem Wj{cell:Int}{n:Nat}:(Fb cell k n).length=n:=Xd
theorem Wo{cell:Int}{n:Nat}(hk:0<=k/\k<100)(hn:n<=1000)(G:DH):freeze G (Hg [.int cell,.int k,.int n] G)=.ok (.fl ((Fb cell k n).map D.int)) G:=by
 have hr:inR (n:Int):=Kq (by lia) (by lia);have h3:0<=7919*k*k:=Int.mul_nonneg (by lia) (by lia);have h2:7919*k*k<=791900*100:=Int.le_trans (Int.mul_le_mul_of_nonneg_right (c:=k) (by lia:7919*k<=791900) (by lia)) (Int.mul_le_mul_of_nonneg_left (by lia) (by lia));have hnum:(cell%999999937+2)*(7919*k*k+48271)%2147483647<2147483647:=zO _ (by decide)
 obtain⟨a,b,d,h⟩:=Ys (c:=.int cell) (k:=.int k) (m:=.int n) (G:=G) (n:=n) (j:=0) (num:=(cell%999999937+2)*(7919*k*k+48271)%2147483647) (left:=if cell<0∨10^18<=cell then max cell (-cell)else 0) (acc:=[]) (e:=xG) (qX _ (by decide)) hnum (by lia) (by simp;lia);have hc:Hg [.int cell,.int k,.int n] G=.ok (.ref G.length) (G++[.lst ((Fb cell k n).map D.int)]):=by unfold Fb Hg Zh;rw[An];simp at h;simp[Kg (i:=7919*k) (j:=k) (by lia) (by lia),ZH4 (i:=cell%999999937+2) (j:=7919*k*k+48271) (by lia) (by lia),ZHV,ZDF,ZCL,ite_int,Jg,hr,h]
 rw[hc];exact Cd ZBW
def Cu(xs:List Int)(c:Int)(j:Nat):Stp:=⟨anyF (gx xs (3+3*j)) c,anyF (gx xs (4+3*j)) (c*c),decide (gx xs (2+3*j)%2=0)⟩
theorem ZGw{c:Int}{j:Nat}:StpOk (Cu xs c j):=⟨S9,S9⟩
theorem Vz{xs:List Int}(hxl:xs.length=14){c:Int}(hc:Bts c){s0 s1 s2 s3:Option D}{G:DH}:∀(m j:Nat)(acc:List Stp)(x7 x8:Option D),j+m<=4->acc.length+m<=100->∃y7 y8,
  Bm (gV 7) La (Ck j m) [s0,s1,s2,s3,zI c,zF (xs.map D.int),zR G.length,x7,x8] (G++[.lst (acc.map Stp.enc)])=
   .nx [s0,s1,s2,s3,zI c,zF (xs.map D.int),zR G.length,y7,y8] (G++[.lst ((acc++(j0 j m).map (Cu xs c)).map Stp.enc)])
 |0,j,acc,x7,x8,h1,h2=>⟨x7,x8,by rw[Kv,G9];simp⟩
 | m+1,j,acc,x7,x8,h1,h2=>by
  obtain⟨y7,y8,ih⟩:=Vz hxl hc (s0:=s0) (s1:=s1) (s2:=s2) (s3:=s3) (G:=G) m (j+1) (acc++[Cu xs c j]) (zI j) (zS (wy (Cu xs c j).r)) (by lia) (by simp;lia);refine⟨y7,y8,?_⟩;have a2:atI (xs.map D.int) (2+3*(j:Int))=zI (gx xs (2+3*j)):=by have:=Et (xs:=xs) (i:=2+3*j) (by lia);rwa[show((2+3*j:Nat):Int)=2+3*(j:Int) by lia]at this
  have a3:atI (xs.map D.int) (3+3*(j:Int))=zI (gx xs (3+3*j)):=by have:=Et (xs:=xs) (i:=3+3*j) (by lia);rwa[show((3+3*j:Nat):Int)=3+3*(j:Int) by lia]at this
  have a4:atI (xs.map D.int) (4+3*(j:Int))=zI (gx xs (4+3*j)):=by have:=Et (xs:=xs) (i:=4+3*j) (by lia);rwa[show((4+3*j:Nat):Int)=4+3*(j:Int) by lia]at this
  have m3:∀G,Bo (.int 3) (.int (j:Int)) G=.ok (.int (3*(j:Int))) G:=λG=>Kg (by lia) (by lia)
  have mc:∀G,Bo (.int c) (.int c) G=.ok (.int (c*c)) G:=λG=>ZGZ (.inr ⟨hc,hc⟩)
  have hb:La [s0,s1,s2,s3,zI c,zF (xs.map D.int),zR G.length,zI j,x8] (G++[.lst (acc.map Stp.enc)])=.nx [s0,s1,s2,s3,zI c,zF (xs.map D.int),zR G.length,zI j,zS (wy (Cu xs c j).r)] (G++[.lst ((acc++[Cu xs c j]).map Stp.enc)]):=by
   have hal:(acc.map Stp.enc).length<1000000:=by simp;lia
   have fz:∀A:DO,freeze (G++[A]) (.ok (.ref (G.length+1)) (G++[A,.lst [.str "river",.str "pump"]]))=.ok (.fl [.str "river",.str "pump"]) (G++[A]):=λA=>ZHi rfl
   have e0:Stp.enc (Cu xs c j)=.tup [.int (anyF (gx xs (3+3*j)) c),.int (anyF (gx xs (4+3*j)) (c*c)),.str (wy (Cu xs c j).r)]:=rfl;rw[qy,zV,zL,e0];have hw:∀G,Ao (.fl [.str "river",.str "pump"]) (.int (gx xs (2+3*j)%2)) G=.ok (.str (wy (Cu xs c j).r)) G:=λG=>by
    unfold Cu
    rcases(by lia:gx xs (2+3*j)%2=0∨gx xs (2+3*j)%2=1)with h|h<;>rw[h]<;>simp[wy]
   generalize wy (Cu xs c j).r=W at*;generalize acc.map Stp.enc=A at*;unfold La;simp[m3,a2,a3,a4,fz,hw,ZAj,mc,Fv,Ht,hal]
  rw[Jv,Dp];simp only[Br,R.Bq,qW,hb,Cq];have e1:((j:Int)+1)=((j+1:Nat):Int):=by lia
  rw[e1,ih,List.range'_succ,zV,qJ]
  rfl
theorem ZGF(hb:∀m∈ns,m.natAbs.log2<1048576)(k:Int):Bts (cellAt ns k):=by
 have h:(cellAt ns k).natAbs.log2<1048576:=by
  unfold cellAt;rw[jV];by_cases h:k.toNat<ns.length
  ·rw[zk h];exact hb _ (qO h)
  ·rw[qq (by lia)]
   decide
 exact Nat.lt_trans h (by decide)
theorem ZCM(hb:∀m∈ns,m.natAbs.log2<1048576){at_ k:Nat}(hk:k<=4):∃s:Ssn,SsnOk s/\∀(G L:DH)(acc:List Ssn)(x4 x5 x6 x7 x8:Option D),acc.length<=100->∃L' y4 y5 y6 y7 y8,
  Ld [zF (ns.map D.int),zI at_,zR G.length,zI k,x4,x5,x6,x7,x8] (G++ .lst (acc.map Af)::L)=
   .nx [zF (ns.map D.int),zI at_,zR G.length,zI k,y4,y5,y6,y7,y8] (G++ .lst ((acc++[s]).map Af)::L'):=by
 obtain⟨c,ec⟩:∃c:Int,cellAt ns ((at_:Int)+1+k)=c:=⟨_,rfl⟩;have hB:Bts c:=by rw[<-ec];exact ZGF hb _
 have hcell:∀G,Fy [.fl (ns.map D.int),.int ((at_:Int)+1+k)] G=.ok (.int c) G:=λG=>by rw[R6 (by lia),ec]
 have hst:∀G,freeze G (Hg [.int c,.int (k:Int),.int 14] G)=.ok (.fl ((Fb c k 14).map D.int)) G:=λG=>Wo (cell:=c) (k:=k) (n:=14) (by lia) (by lia) G
 have hxl:(Fb c k 14).length=14:=Wj;generalize Fb c k 14=xs at*;obtain⟨n,en⟩:∃n:Nat,gx xs 1%5=n:=⟨(gx xs 1%5).toNat,by lia⟩;have a0:atI (xs.map D.int) 0=zI (gx xs 0):=Et (i:=0) (by lia);have a1:atI (xs.map D.int) 1=zI (gx xs 1):=Et (i:=1) (by lia);refine⟨(anyF (gx xs 0) c,(j0 0 n).map (Cu xs c)),⟨S9,by simp;lia,λt ht=>?_⟩,λG L acc x4 x5 x6 x7 x8 ha=>?_⟩
 ·obtain⟨i,_,rfl⟩:=q0.mp ht;exact ZGw
 ·let G1:DH:=G++ .lst (acc.map Af)::L;obtain⟨y7,y8,hL⟩:=Vz hxl hB (s0:=zF (ns.map D.int)) (s1:=zI at_) (s2:=zR G.length) (s3:=zI k) (G:=G1) n 0 [] x7 x8 (by lia) (by simp;lia);have hL':Bm (gV 7) La (Ck 0 n) [zF (ns.map D.int),zI at_,zR G.length,zI k,zI c,zF (xs.map D.int),zR G1.length,x7,x8] (G1++[.lst []])=_:=hL;rw[qT]at hL';have hr:inR (n:Int):=Kq (by lia) (by lia);have tn:tidy G1 (.ok (.ref G1.length) (G1++[.lst []]))=.ok (.ref G1.length) (G1++[.lst []]):=Jg rfl
  refine⟨L++[.lst (((j0 0 n).map (Cu xs c)).map Stp.enc)],zI c,zF (xs.map D.int),zR G1.length,y7,y8,?_⟩;have e0:Af (anyF (gx xs 0) c,(j0 0 n).map (Cu xs c))=.tup [.int (anyF (gx xs 0) c),.tup (((j0 0 n).map (Cu xs c)).map Stp.enc)]:=rfl;rw[qy,zV,zL,e0];generalize((j0 0 n).map (Cu xs c)).map Stp.enc=Z at*;have hal:(acc.map Af).length<1000000:=by simp;lia
  have g1:(G1++[DO.lst Z])[G1.length]?=xF (.lst Z):=by simp
  have g0:(G1++[DO.lst Z])[G.length]?=xF (.lst (acc.map Af)):=by simp[G1]
  have s0:∀c:DO,(G1++[DO.lst Z]).set G.length c=G++c::(L++[.lst Z]):=λc=>by simp[G1]
  have eG:G++ .lst (acc.map Af)::L=G1:=rfl;rw[eG]
  clear_value G1
  generalize acc.map Af=Y at*;unfold Ld;simp[hcell,hst,Ah,tn,a1,en,hr,hL',a0,ZAj,g1,g0,s0,hal]
theorem ZAq(hb:∀m∈ns,m.natAbs.log2<1048576){at_:Nat}:∀(m k:Nat),k+m<=5->∃ss:List Ssn,ss.length=m/\(∀s∈ss,SsnOk s)/\∀(G L:DH)(acc:List Ssn)(x3 x4 x5 x6 x7 x8:Option D),acc.length+m<=100->∃L' y3 y4 y5 y6 y7 y8,
  Bm (gV 3) Ld (Ck k m) [zF (ns.map D.int),zI at_,zR G.length,x3,x4,x5,x6,x7,x8] (G++ .lst (acc.map Af)::L)=
   .nx [zF (ns.map D.int),zI at_,zR G.length,y3,y4,y5,y6,y7,y8] (G++ .lst ((acc++ss).map Af)::L')
 |0,k,h=>⟨[],rfl,(λ_ h=>absurd h (by simp)),λG L acc x3 x4 x5 x6 x7 x8 _=>⟨L,x3,x4,x5,x6,x7,x8,by rw[Kv,G9,qQ]⟩⟩
 | m+1,k,h=>by
  obtain⟨s,hs,hbd⟩:=ZCM hb (at_:=at_) (k:=k) (by lia);obtain⟨ss,hl,hok,ih⟩:=ZAq hb (at_:=at_) m (k+1) (by lia);refine⟨s::ss,by simp[hl],λq hq=>?_,λG L acc x3 x4 x5 x6 x7 x8 ha=>?_⟩
  ·rcases zv.mp hq with rfl|hq
   ·exact hs
   ·exact hok q hq
  ·obtain⟨L1,z4,z5,z6,z7,z8,h1⟩:=hbd G L acc x4 x5 x6 x7 x8 (by lia);obtain⟨_L,y3,y4,y5,y6,y7,y8,h2⟩:=ih G L1 (acc++[s]) (zI k) z4 z5 z6 z7 z8 (by simp;lia);refine⟨_L,y3,y4,y5,y6,y7,y8,?_⟩;rw[Jv,Dp];simp only[Br,R.Bq,qW,h1,Cq];have e1:((k:Int)+1)=((k+1:Nat):Int):=by lia
   rw[e1,h2,qJ]
   rfl
theorem ZGX(hb:∀m∈ns,m.natAbs.log2<1048576){at_:Nat}:∃ss:List Ssn,RuOk ss/\∀G,Ke [.fl (ns.map D.int),.int at_] G=.ok (.tup (ss.map Af)) G:=by
 obtain⟨m,em⟩:∃m:Nat,1+cellAt ns (at_:Int)%5=m:=⟨(1+cellAt ns (at_:Int)%5).toNat,by lia⟩;obtain⟨ss,hl,hok,h⟩:=ZAq hb (at_:=at_) m 0 (by lia);refine⟨ss,⟨λz=>by rw[z]at hl;simp at hl;lia,by lia,hok⟩,λG=>?_⟩;obtain⟨L,y3,y4,y5,y6,y7,y8,hL⟩:=h G [] [] xG xG xG xG xG xG (by simp;lia);have hL':Bm (gV 3) Ld (Ck 0 m) [zF (ns.map D.int),zI at_,zR G.length,xG,xG,xG,xG,xG,xG] (G++[.lst []])=_:=hL
 rw[qT]at hL';have hc:∀G,Fy [.fl (ns.map D.int),.int (at_:Int)] G=.ok (.int (cellAt ns (at_:Int))) G:=λG=>R6 (by lia)
 have hr:inR (m:Int):=Kq (by lia) (by lia);have be:bels G.length (ss.map Af)=xH:=Iw;generalize ss.map Af=Z at*;have td:∀L:DH,tidy G (.ok (.tup Z) (G++L))=.ok (.tup Z) G:=λL=>Ii (by simpa using be)
 unfold Ke ZAW;rw[An];simp[Ah,Jg,hc,em,hr,hL',Fv,td]
theorem Ue{i:Int}(G:DH):Ho [.int i] G=.ok (.bl xH) G:=by unfold Ho Wx;rw[An];simp[Aq,tyD]
theorem ZA8{s0 s1 s2:Option D}{G:DH}:∀(st:List Stp)(x:Option D),∃x',Bm (gV 3) Om (st.map Stp.enc) [s0,s1,s2,x] G=.nx [s0,s1,s2,x'] G
 |[],x=>⟨x,by rw[zL,G9]⟩
 |s::st,x=>by
  obtain⟨x',ih⟩:=ZA8 (s0:=s0) (s1:=s1) (s2:=s2) (G:=G) st (xF s.enc);refine⟨x',?_⟩;have hb:Om [s0,s1,s2,xF s.enc] G=.nx [s0,s1,s2,xF s.enc] G:=by unfold Stp.enc Om;simp[tyD,Ue]
  rw[zV,Dp];simp only[Br,R.Bq,qW,hb,Cq];exact ih
theorem V8{s0 s1:Option D}{G:DH}:∀(ss:List Ssn)(x y:Option D),∃x' y',Bm (gV 2) Oh (ss.map Af) [s0,s1,x,y] G=.nx [s0,s1,x',y'] G
 |[],x,y=>⟨x,y,by rw[zL,G9]⟩
 |s::ss,x,y=>by
  obtain⟨z,hin⟩:=ZA8 (s0:=s0) (s1:=s1) (s2:=xF (Af s)) (G:=G) s.2 y;obtain⟨x',y',ih⟩:=V8 (s0:=s0) (s1:=s1) (G:=G) ss (xF (Af s)) z;refine⟨x',y',?_⟩;have hb:Oh [s0,s1,xF (Af s),y] G=.nx [s0,s1,xF (Af s),z] G:=by unfold Af at hin⊢;unfold Oh;simp[tyD,Ue,hin]
  rw[zV,Dp];simp only[Br,R.Bq,qW,hb,Cq];exact ih
theorem ZGc:okD 30 (.tup (ss.map Af))=xH:=Qg (n:=29) λd hd=>by
 obtain⟨s,_,rfl⟩:=q0.mp hd;refine Qg (n:=28) λd hd=>?_
 rcases zv.mp hd with rfl|hd
 ·rfl
 ·rcases zv.mp hd with rfl|hd
  ·refine Qg (n:=27) λd hd=>?_
   obtain⟨t,_,rfl⟩:=q0.mp hd
   rfl
  ·cases hd
theorem Zd(G:DH):Ks [.tup (ss.map Af),.tup (ss.map Af)] G=.ok (.bl xH) G:=by obtain⟨x',y',hL⟩:=V8 (s0:=zT (ss.map Af)) (s1:=zT (ss.map Af)) (G:=G) ss xG xG;have ee:Bc (.tup (ss.map Af)) (.tup (ss.map Af)) G=.ok (.bl xH) G:=ZEG ZGc;generalize ss.map Af=Z at*;unfold Ks ZA5;rw[An];simp[tyD,hL,ee,Aq]
theorem ZHz{xs:List α}(a:Nat):cutD xs (xF (a:Int)) xG=xs.drop a:=by
 by_cases h:a<=xs.length
 ·exact W3 h
 ·have:=(Gi xs.length (a:Int)).2;have e:HT.sIx xs.length 0 (xF (a:Int))=xs.length:=by lia
  unfold cutD;rw[e,jy,qk (by lia)];simp
theorem Vo(hl:l.length<=1000000)(ha:a<=l.length)(G:DH):Dq (.str (Aa l)) xG (xF (a:Int)) G=.ok (.str (Aa (l.take a))) G:=by rw[Bb,if_pos (by rw[Ay];exact hl)];show R.ok (D.str (Aa (cutD (Aa l).cps.toList xG (xF (a:Int))))) G=_;rw[Bp,ZH1 ha]
theorem Oa(hl:l.length<=1000000)(a:Nat)(G:DH):Dq (.str (Aa l)) (xF (a:Int)) xG G=.ok (.str (Aa (l.drop a))) G:=by rw[Bb,if_pos (by rw[Ay];exact hl)];show R.ok (D.str (Aa (cutD (Aa l).cps.toList (xF (a:Int)) xG))) G=_;rw[Bp,ZHz]
theorem Y9(hl:l.length<=1000000)(a b:Nat)(G:DH):Dq (.str (Aa l)) (xF (a:Int)) (xF (b:Int)) G=.ok (.str (Aa ((l.drop a).take (b-a)))) G:=by rw[Bb,if_pos (by rw[Ay];exact hl)];show R.ok (D.str (Aa (cutD (Aa l).cps.toList (xF (a:Int)) (xF (b:Int))))) G=_;rw[Bp,Y0]
theorem fsS(x:Str)(G:DH):freeze G (.ok (.str x) G)=.ok (.str x) G:=I8 rfl
noncomputable def sg28:List Nat:=[48,49,50,51,52,53,54,55,56,57,58,59,44,32,43,114,105,118,101,114,112,117,109,112,10,45,82,95]
theorem ZGm:("0123456789:;, +riverpump\n-R_":Str)=Aa sg28:=by decide +kernel
theorem ZCp{i:Int}(h0:0<=i)(h1:i<28):∃c:Nat,∀G,Ao (.str (Aa sg28)) (.int i) G=.ok (.str (Aa [c])) G:=by
 have hl:i<(sg28.length:Int):=h1;refine⟨sg28[i.toNat]'(by lia),λG=>?_⟩;rw[Dm,if_pos (by rw[Ay];decide),Bp,ZBm h0 hl]
 rfl
theorem ZCC(hxl:xs.length=12){j:Nat}(hj:j<=2)(hl:l.length<=4000)(x4 x5 x6:Option D):∃(m:List Nat)(y4 y5 y6:Option D),m.length<=l.length+1/\∀G,
  Fg [zS (Aa l),zF (xs.map D.int),zS (Aa sg28),zI j,x4,x5,x6] G=.nx [zS (Aa m),zF (xs.map D.int),zS (Aa sg28),zI j,y4,y5,y6] G:=by
 have hl':l.length<=1000000:=by lia
 have a1:atI (xs.map D.int) (1+3*(j:Int))=zI (gx xs (1+3*j)):=by have:=Et (xs:=xs) (i:=1+3*j) (by lia);rwa[show((1+3*j:Nat):Int)=1+3*(j:Int) by lia]at this
 have a2:atI (xs.map D.int) (2+3*(j:Int))=zI (gx xs (2+3*j)):=by have:=Et (xs:=xs) (i:=2+3*j) (by lia);rwa[show((2+3*j:Nat):Int)=2+3*(j:Int) by lia]at this
 have a3:atI (xs.map D.int) (3+3*(j:Int))=zI (gx xs (3+3*j)):=by have:=Et (xs:=xs) (i:=3+3*j) (by lia);rwa[show((3+3*j:Nat):Int)=3+3*(j:Int) by lia]at this
 have m3:∀G,Bo (.int 3) (.int (j:Int)) G=.ok (.int (3*(j:Int))) G:=λG=>Kg (by lia) (by lia)
 have hnz:¬((l.length:Int)+1=0):=by lia
 have g0:=qX (gx xs (1+3*j)) hnz;have g1:=zO (gx xs (1+3*j)) (show(0:Int)<(l.length:Int)+1 by lia);obtain⟨a,ea⟩:∃a:Nat,gx xs (1+3*j)%((l.length:Int)+1)=a:=⟨(gx xs (1+3*j)%((l.length:Int)+1)).toNat,by lia⟩;have hal:a<=l.length:=by lia
 obtain⟨c,hc⟩:=ZCp (i:=gx xs (3+3*j)%28) (qX _ (by decide)) (zO _ (by decide));have sp:=λG=>Vo hl' hal G
 have sq:=λG=>Oa hl' (a+1) G
 have sr:=λG=>Y9 hl' a (a+1) G
 have ss:=λG=>Oa hl' a G
 have ecast:((a+1:Nat):Int)=(a:Int)+1:=by lia
 rw[ecast]at sq sr;have hp:(l.take a).length=a:=by rw[qz];lia
 have hq:(l.drop (a+1)).length<=l.length-a:=by rw[qj];lia
 have hr:((l.drop a).take (a+1-a)).length<=1:=by rw[qz];lia
 have hs:(l.drop a).length=l.length-a:=qj;generalize l.take a=p at*;generalize l.drop (a+1)=q at*;generalize(l.drop a).take (a+1-a)=r at*;generalize l.drop a=s at*;have b1:=λG=>Bl (l:=p) (l':=q) (by lia) G
 have b2:=λG=>Bl (l:=p) (l':=r) (by lia) G
 have b3:=λG=>Bl (l:=p++r) (l':=s) (by simp;lia) G
 have b4:=λG=>Bl (l:=p) (l':=[c]) (by simp;lia) G
 have b5:=λG=>Bl (l:=p++[c]) (l':=s) (by simp;lia) G
 have b6:=λG=>Bl (l:=p++[c]) (l':=q) (by simp;lia) G
 have hlen:∀G,Az [.str (Aa l)] G=.ok (.int l.length) G:=λG=>by simp[hl']
 have key:∀(m:List Nat),m.length<=l.length+1->(∀G,Fg [zS (Aa l),zF (xs.map D.int),zS (Aa sg28),zI j,x4,x5,x6] G=.nx [zS (Aa m),zF (xs.map D.int),zS (Aa sg28),zI j,zI a,zI (gx xs (2+3*j)%4),zS (Aa [c])] G)->∃(m:List Nat)(y4 y5 y6:Option D),m.length<=l.length+1/\∀G,
  Fg [zS (Aa l),zF (xs.map D.int),zS (Aa sg28),zI j,x4,x5,x6] G=.nx [zS (Aa m),zF (xs.map D.int),zS (Aa sg28),zI j,y4,y5,y6] G:=λm hm h=>⟨m,_,_,_,hm,h⟩
 rcases(by lia:gx xs (2+3*j)%4=0∨gx xs (2+3*j)%4=1∨gx xs (2+3*j)%4=2∨gx xs (2+3*j)%4=3)with hw|hw|hw|hw
 ·refine key (p++q) (by simp;lia) λG=>?_
  generalize Aa (p++q)=Z1 at*;generalize Aa p=P1 at*;generalize Aa q=Q1 at*;generalize Aa r=R1 at*;generalize Aa s=S1 at*;generalize Aa [c]=C1 at*;generalize Aa sg28=SG at*;generalize Aa l=T at*;generalize xs.map D.int=X at*;unfold Fg;simp[-Bb,-Cg,-Dm,-Eg,m3,a1,a2,a3,hlen,hnz,ea,hc,hw,sp,sq,fsS,b1]
 ·refine key (p++r++s) (by simp;lia) λG=>?_
  generalize Aa (p++r++s)=Z1 at*;generalize Aa (p++r)=Z2 at*;generalize Aa p=P1 at*;generalize Aa q=Q1 at*;generalize Aa r=R1 at*;generalize Aa s=S1 at*;generalize Aa [c]=C1 at*;generalize Aa sg28=SG at*;generalize Aa l=T at*;generalize xs.map D.int=X at*;unfold Fg;simp[-Bb,-Cg,-Dm,-Eg,m3,a1,a2,a3,hlen,hnz,ea,hc,hw,sp,sr,ss,fsS,b2,b3]
 ·refine key (p++[c]++s) (by simp;lia) λG=>?_
  generalize Aa (p++[c]++s)=Z1 at*;generalize Aa (p++[c])=Z2 at*;generalize Aa p=P1 at*;generalize Aa q=Q1 at*;generalize Aa r=R1 at*;generalize Aa s=S1 at*;generalize Aa [c]=C1 at*;generalize Aa sg28=SG at*;generalize Aa l=T at*;generalize xs.map D.int=X at*;unfold Fg;simp[-Bb,-Cg,-Dm,-Eg,m3,a1,a2,a3,hlen,hnz,ea,hc,hw,sp,ss,fsS,b4,b5]
 ·refine key (p++[c]++q) (by simp;lia) λG=>?_
  generalize Aa (p++[c]++q)=Z1 at*;generalize Aa (p++[c])=Z2 at*;generalize Aa p=P1 at*;generalize Aa q=Q1 at*;generalize Aa r=R1 at*;generalize Aa s=S1 at*;generalize Aa [c]=C1 at*;generalize Aa sg28=SG at*;generalize Aa l=T at*;generalize xs.map D.int=X at*;unfold Fg;simp[-Bb,-Cg,-Dm,-Eg,m3,a1,a2,a3,hlen,hnz,ea,hc,hw,sp,sq,fsS,b4,b6]
theorem V3(hxl:xs.length=12):∀(n j:Nat)(l:List Nat)(x3 x4 x5 x6:Option D),j+n<=3->l.length+n<=4000->∃(m:List Nat)(y3 y4 y5 y6:Option D),m.length<=l.length+n/\∀G,
  Bm (gV 3) Fg (Ck j n) [zS (Aa l),zF (xs.map D.int),zS (Aa sg28),x3,x4,x5,x6] G=.nx [zS (Aa m),zF (xs.map D.int),zS (Aa sg28),y3,y4,y5,y6] G
 |0,j,l,x3,x4,x5,x6,_,_=>⟨l,x3,x4,x5,x6,by lia,λG=>by rw[Kv,G9]⟩
 |n+1,j,l,x3,x4,x5,x6,h1,h2=>by
  obtain⟨m,y4,y5,y6,hm,hb⟩:=ZCC hxl (j:=j) (by lia) (l:=l) (by lia) x4 x5 x6;obtain⟨m',z3,z4,z5,z6,hm',hb'⟩:=V3 hxl n (j+1) m (zI j) y4 y5 y6 (by lia) (by lia);refine⟨m',z3,z4,z5,z6,by lia,λG=>?_⟩;rw[Jv,Dp];simp only[Br,R.Bq,qW,hb,Cq];have e1:((j:Int)+1)=((j+1:Nat):Int):=by lia
  rw[e1,hb']
theorem ZFd(hxl:xs.length=12)(hl:l.length<=3900):∃m:List Nat,m.length<=l.length+3/\∀G,Nb [.str (Aa l),.fl (xs.map D.int)] G=.ok (.str (Aa m)) G:=by
 obtain⟨n,en⟩:∃n:Nat,gx xs 0%4=n:=⟨(gx xs 0%4).toNat,by lia⟩;obtain⟨m,y3,y4,y5,y6,hm,hL⟩:=V3 hxl n 0 l xG xG xG xG (by lia) (by lia);refine⟨m,by lia,λG=>?_⟩;have a0:atI (xs.map D.int) 0=zI (gx xs 0):=Et (i:=0) (by lia);have hr:inR (n:Int):=Kq (by lia) (by lia);have hL':∀G,Bm (gV 3) Fg (Ck 0 n) [zS (Aa l),zF (xs.map D.int),zS (Aa sg28),xG,xG,xG,xG] G=_:=hL;unfold Nb W2
 rw[An,ZGm];generalize Aa sg28=SG at*;generalize Aa l=T at*;generalize Aa m=M at*;generalize xs.map D.int=X at*;simp[a0,en,hr,hL',Aq]
noncomputable def Bh(ks:List Nat):List D:=ks.map λk:Nat=>D.int (k:Int)
theorem ZBQ{ks:List Nat}:bels m (Bh ks)=xH:=Gx λ_ _=>rfl
theorem Vr{mk:List Nat}(hl:l.length<=4000)(hm:mk.length<=2):∀(n j:Nat),∃ks:List Nat,(∀k∈ks,k<j+n)/\ks.length<=n/\∀G,
  Bj (gV 0) Li N6 [xG,zS (Aa l),zS (Aa mk)] (Ck j n) G=.ok (Bh ks) G
 |0,j=>⟨[],by simp,by simp,λG=>by rw[Kv];rfl⟩
 | n+1,j=>by
  obtain⟨ks,h1,h2,h3⟩:=Vr hl hm n (j+1);have hl':l.length<=1000000:=by lia
  have hs:=λG=>Y9 hl' j (j+mk.length) G
  have ec:((j+mk.length:Nat):Int)=(j:Int)+mk.length:=by lia
  rw[ec]at hs;have hlen:∀G,Az [.str (Aa mk)] G=.ok (.int mk.length) G:=λG=>by
   have:mk.length<=1000000:=by lia
   simp[this]
  have ht:∀G,Li [zI j,zS (Aa l),zS (Aa mk)] G=.ok (decide (Aa ((l.drop j).take (j+mk.length-j))=Aa mk)) G:=λG=>by generalize Aa ((l.drop j).take (j+mk.length-j))=V at*;generalize Aa mk=M at*;generalize Aa l=T at*;generalize mk.length=k at*;unfold Li;simp[-Bb,-Cg,hlen,hs,fsS]
  have he:∀G,N6 [zI j,zS (Aa l),zS (Aa mk)] G=.ok (.int j) G:=λG=>rfl
  have e1:((j:Int)+1)=((j+1:Nat):Int):=by lia
  by_cases hq:Aa ((l.drop j).take (j+mk.length-j))=Aa mk
  ·refine⟨j::ks,?_,by simp;lia,λG=>?_⟩
   ·intro k hk;rcases zv.mp hk with rfl|hk
    ·lia
    ·have:=h1 k hk;lia
   ·rw[Jv,Gj];simp only[Br,R.Ed,qW,ht,hq,decide_true,if_true,he];rw[e1,h3]
    rfl
  ·refine⟨ks,λk hk=>by have:=h1 k hk;lia,by lia,λG=>?_⟩;rw[Jv,Gj];simp only[Br,R.Ed,qW,ht,hq,decide_false];rw[e1,h3]
   rfl
theorem ZIN:∃mk:List Nat,(1<=mk.length/\mk.length<=2)/\∀G,Ao (.fl [.str ", ",.str ", ",.str "; ",.str ", ",.str ":",.str " ",.str "+"]) (.int (x%7)) G=.ok (.str (Aa mk)) G:=by
 have ec:(", ":Str)=Aa [44,32]:=by decide +kernel
 have es:("; ":Str)=Aa [59,32]:=by decide +kernel
 have ek:(":":Str)=Aa [58]:=by decide +kernel
 have eb:(" ":Str)=Aa [32]:=by decide +kernel
 have ep:("+":Str)=Aa [43]:=by decide +kernel
 rw[ec,es,ek,eb,ep]
 rcases(by lia:x%7=0∨x%7=1∨x%7=2∨x%7=3∨x%7=4∨x%7=5∨x%7=6)with h|h|h|h|h|h|h<;>rw[h]
 ·exact⟨[44,32],by decide,λG=>by simp⟩
 ·exact⟨[44,32],by decide,λG=>by simp⟩
 ·exact⟨[59,32],by decide,λG=>by simp⟩
 ·exact⟨[44,32],by decide,λG=>by simp⟩
 ·exact⟨[58],by decide,λG=>by simp⟩
 ·exact⟨[32],by decide,λG=>by simp⟩
 ·exact⟨[43],by decide,λG=>by simp⟩
theorem X7:∃mk:List Nat,mk.length<=2/\∀G,Ao (.fl [.str "\n",.str " ",.str ", ",.str "; ",.str ","]) (.int (x%5)) G=.ok (.str (Aa mk)) G:=by
 have en:("\n":Str)=Aa [10]:=by decide +kernel
 have ec:(", ":Str)=Aa [44,32]:=by decide +kernel
 have es:("; ":Str)=Aa [59,32]:=by decide +kernel
 have eb:(" ":Str)=Aa [32]:=by decide +kernel
 have ek:(",":Str)=Aa [44]:=by decide +kernel
 rw[ec,es,ek,eb,en]
 rcases(by lia:x%5=0∨x%5=1∨x%5=2∨x%5=3∨x%5=4)with h|h|h|h|h<;>rw[h]
 ·exact⟨[10],by decide,λG=>by simp⟩
 ·exact⟨[32],by decide,λG=>by simp⟩
 ·exact⟨[44,32],by decide,λG=>by simp⟩
 ·exact⟨[59,32],by decide,λG=>by simp⟩
 ·exact⟨[44],by decide,λG=>by simp⟩
theorem ZEH{mk:List Nat}(hl:l.length<=4000)(hm:mk.length<=2)(ha:a<=l.length){s3 x5:Option D}:∃m:List Nat,m.length<=l.length+2/\∀G,Ja [zS (Aa l),zI x,zS (Aa mk),s3,zI a,x5] G=.rt (.str (Aa m)) G:=by
 have hl':l.length<=1000000:=by lia
 have sp:=λG=>Vo hl' ha G
 have sq:=λG=>Oa hl' (a+mk.length) G
 have ss:=λG=>Oa hl' a G
 have ec:((a+mk.length:Nat):Int)=(a:Int)+mk.length:=by lia
 rw[ec]at sq;have hp:(l.take a).length=a:=by rw[qz];lia
 have hq:(l.drop (a+mk.length)).length<=l.length-a:=by rw[qj];lia
 have hs:(l.drop a).length=l.length-a:=qj;have hlen:∀G,Az [.str (Aa mk)] G=.ok (.int mk.length) G:=λG=>by
  have:mk.length<=1000000:=by lia
  simp[this]
 obtain⟨e,he,hE⟩:=X7 (x:=x/3500);generalize l.take a=p at*;generalize l.drop (a+mk.length)=q at*;generalize l.drop a=s at*;have en:("\n":Str)=Aa [10]:=by decide +kernel
 have b1:=λG=>Bl (l:=p) (l':=q) (by lia) G
 have b2:=λG=>Bl (l:=p) (l':=[10]) (by simp;lia) G
 have b3:=λG=>Bl (l:=p++[10]) (l':=s) (by simp;lia) G
 have b4:=λG=>Bl (l:=l) (l':=e) (by lia) G
 have b5:=λG=>Bl (l:=p) (l':=mk) (by lia) G
 have b6:=λG=>Bl (l:=p++mk) (l':=s) (by simp;lia) G
 have fz:∀G:DH,freeze G (.ok (.ref G.length) (G++[.lst [.str "\n",.str " ",.str ", ",.str "; ",.str ","]]))=.ok (.fl [.str "\n",.str " ",.str ", ",.str "; ",.str ","]) G:=λG=>Cd rfl
 rw[<-en]at b2;rcases(by lia:x/700%5=0∨x/700%5=1∨x/700%5=2∨(x/700%5=3∨x/700%5=4))with hw|hw|hw|hw
 ·refine⟨p++q,by simp;lia,λG=>?_⟩;generalize Aa (p++q)=Z1 at*;generalize Aa p=P1 at*;generalize Aa q=Q1 at*;generalize Aa mk=M at*;generalize Aa l=T at*;unfold Ja Ko;simp[-Bb,-Cg,-Eg,hw,hlen,sp,sq,fsS,b1]
 ·refine⟨p++[10]++s,by simp;lia,λG=>?_⟩;generalize Aa (p++[10]++s)=Z1 at*;generalize Aa (p++[10])=Z2 at*;generalize Aa p=P1 at*;generalize Aa s=S1 at*;generalize Aa mk=M at*;generalize Aa l=T at*;unfold Ja Ko Ox;simp[-Bb,-Cg,-Eg,hw,sp,ss,fsS,b2,b3]
 ·refine⟨l++e,by simp;lia,λG=>?_⟩;generalize Aa (l++e)=Z1 at*;generalize Aa e=E1 at*;generalize Aa mk=M at*;generalize Aa l=T at*;unfold Ja Ko Ox R3;simp[-Bb,-Cg,-Eg,hw,Ah,fz,hE,b4]
 ·refine⟨p++mk++s,by simp;lia,λG=>?_⟩;have w0:¬x/700%5=0:=by lia
  have w1:¬x/700%5=1:=by lia
  have w2:¬x/700%5=2:=by lia
  generalize Aa (p++mk++s)=Z1 at*;generalize Aa (p++mk)=Z2 at*;generalize Aa p=P1 at*;generalize Aa s=S1 at*;generalize Aa mk=M at*;generalize Aa l=T at*;unfold Ja Ko Ox R3 Xu;simp[-Bb,-Cg,-Eg,w0,w1,w2,sp,ss,fsS,b5,b6]
theorem ZFc(hl:l.length<=3900):∃m:List Nat,m.length<=l.length+2/\∀G,O9 [.str (Aa l),.int x] G=.ok (.str (Aa m)) G:=by
 obtain⟨mk,⟨hm1,hm2⟩,hmk⟩:=ZIN (x:=x);obtain⟨ks,h1,h2,h3⟩:=Vr (l:=l) (mk:=mk) (by lia) hm2 l.length 0;have hl':l.length<=1000000:=by lia
 have hL:((ks++[l.length]).length:Int)=(ks.length:Int)+1:=by simp
 have hnz:¬((ks.length:Int)+1=0):=by lia
 have g0:=qX (x/7) hnz;have g1:=zO (x/7) (show(0:Int)<(ks.length:Int)+1 by lia);obtain⟨i,ei⟩:∃i:Nat,x/7%((ks.length:Int)+1)=i:=⟨(x/7%((ks.length:Int)+1)).toNat,by lia⟩;have hi:i<(ks++[l.length]).length:=by simp;lia
 obtain⟨a,ea⟩:∃a:Nat,(ks++[l.length])[i]?=xF a:=⟨_,zk hi⟩;have ha:a<=l.length:=by
  have:=List.mem_of_getElem? ea;rcases qY.mp this with h|h
  ·have:=h1 a h;lia
  ·have:a=l.length:=by simpa using h
   lia
 have hat:atI (Bh (ks++[l.length])) (i:Int)=zI a:=Dz rfl (by unfold Bh;rw[zM,ea];rfl);obtain⟨m,hm,hE⟩:=ZEH (l:=l) (mk:=mk) (by lia) hm2 (x:=x) ha (s3:=zF (Bh (ks++[l.length]))) (x5:=xG);refine⟨m,hm,λG=>?_⟩;have hlen:∀G,Az [.str (Aa l)] G=.ok (.int l.length) G:=λG=>by simp[hl']
 have hr:inR (l.length:Int):=Kq (by lia) (by lia);have fz1:∀G:DH,freeze G (.ok (.ref G.length) (G++[.lst (Bh ks)]))=.ok (.fl (Bh ks)) G:=λG=>Cd ZBQ
 have fz2:∀G:DH,freeze G (.ok (.ref G.length) (G++[.lst [.int (l.length:Int)]]))=.ok (.fl [.int (l.length:Int)]) G:=λG=>Cd rfl
 have en:Bh (ks++[l.length])=Bh ks++[.int (l.length:Int)]:=by simp[Bh]
 have fz3:∀G:DH,freeze G (.ok (.ref G.length) (G++[.lst (Bh ks++[.int (l.length:Int)])]))=.ok (.fl (Bh (ks++[l.length]))) G:=λG=>by rw[<-en];exact Cd ZBQ
 have fz0:∀G:DH,freeze G (.ok (.ref G.length) (G++[.lst [.str ", ",.str ", ",.str "; ",.str ", ",.str ":",.str " ",.str "+"]]))=.ok (.fl [.str ", ",.str ", ",.str "; ",.str ", ",.str ":",.str " ",.str "+"]) G:=λG=>Cd rfl
 have hcs:∀a b c d e f:Option D,Ar 1 [0,2] [a,b,c,d,e,f]=[xG,a,c]:=λ_ _ _ _ _ _=>rfl
 have hkl:(Bh ks).length=ks.length:=by simp[Bh]
 have ll:(Bh ks).length<=1000000:=by rw[hkl];lia
 have lz:(Bh (ks++[l.length])).length=ks.length+1:=by simp[Bh]
 have lz':((Bh (ks++[l.length])).length:Int)=(ks.length:Int)+1:=by rw[lz];lia
 have lz2:(Bh ks++[D.int (l.length:Int)]).length<=1000000:=by rw[zK,hkl];simp;lia
 have ads:∀G,Ag (.fl (Bh ks)) (.fl [.int (l.length:Int)]) G=.ok (.ref G.length) (G++[.lst (Bh ks++[.int (l.length:Int)])]):=λG=>by simp;lia
 have hln:∀G,Az [.fl (Bh (ks++[l.length]))] G=.ok (.int ((ks.length:Int)+1)) G:=λG=>by simp[lz]
 have h3':∀G,Bj (gV 0) Li N6 [xG,zS (Aa l),zS (Aa mk)] (Ck 0 l.length) G=.ok (Bh ks) G:=h3;generalize Bh (ks++[l.length])=Z at*;generalize Bh ks=Y at*;generalize Aa mk=M at*;generalize Aa m=R1 at*;generalize Aa l=T at*;unfold O9 Xh Xf ZBO;rw[An];simp[-Cg,-ZAz,Ah,fz0,hmk,hlen,hr,hcs,h3',ll,fz1,fz2,ads,fz3,hln,hnz,ei,hat,hE,Aq]
theorem ZE4{ws:List Str}{F:List D->DH->R D}{t:DA}{hb:DS}{S:DSt}{G1 G2:DH}{ds:List D}{x:Xn}(ht:t S G=.ok ds G1)(hF:F ds G1=.err x G2)(hw:x.cls∈ws):Hd ws i F t hb S G=unnm i (hb (S.set i (zR G2.length)) (G2++[.exc x.cls x.fs])):=by unfold Hd;rw[ht];simp only[hF];rw[if_pos hw]
theorem ZCN(h:∀G,Er [.str (Aa l)] G=.err NT G)(G:DH):Nm [.str (Aa l)] G=.ok (.bl xH) G:=by
 generalize Aa l=T at*;have t1:Hd ["NoText"] 2 Er (Ab (dV 0) Ad) Rn [zS T,xF .non,xG,xG] G=.nx [zS T,zR G.length,xG,xG] (G++[.exc "NoText" [("row",.int 0)]]):=by rw[ZE4 (ds:=[.str T]) (G1:=G) (by simp) (h G) (by simp)];unfold Rn;simp[unnm]
 have td:tidy G (.ok (.bl xH) (G++[.exc "NoText" [("row",.int 0)]]))=.ok (.bl xH) G:=Ii rfl;have g0:(G++[DO.exc "NoText" [("row",.int 0)]])[G.length]?=xF (.exc "NoText" [("row",.int 0)]):=by simp
 generalize G++[DO.exc "NoText" [("row",.int 0)]]=G1 at*;have it:isx [("NoText",xH)] (.ref G.length) G1=.ok (.bl xH) G1:=by unfold isx;simp[g0]
 have iff_:isx [("NoText",xI)] (.ref G.length) G1=.ok (.bl xI) G1:=by unfold isx;simp[g0]
 have gt:gtx ["NoText"] "row" (.ref G.length) G1=.ok (.int 0) G1:=by unfold gtx;simp[g0]
 have fz:∀ds,bels G1.length ds=xH->freeze G1 (.ok (.ref G1.length) (G1++[.lst ds]))=.ok (.fl ds) G1:=λds h=>Cd h
 have f3:=fz [.bl xI,.bl xI,.bl xI] rfl;have f6:=fz [.bl xI,.bl xI,.bl xI,.bl xI,.bl xI,.bl xI] rfl;have f9:=fz [.bl xI,.bl xI,.bl xI,.bl xI,.bl xI,.bl xI,.bl xI,.bl xI,.bl xI] rfl;have f12:=fz [.bl xI,.bl xI,.bl xI,.bl xI,.bl xI,.bl xI,.bl xI,.bl xI,.bl xI,.bl xI,.bl xI,.bl xI] rfl;have hw:=λG=>Ue (i:=0) G
 have ha:Ls [.fl [.bl xI,.bl xI,.bl xI,.bl xI,.bl xI,.bl xI,.bl xI,.bl xI,.bl xI,.bl xI,.bl xI,.bl xI]] G1=.ok (.bl xI) G1:=by rfl
 generalize hn:G.length=n at*;unfold Nm Ww;rw[An];simp[Ah,t1,it,iff_,gt,f3,f6,f9,f12,ha,hw,td]
theorem RuOk.g(h:RuOk ss):RuG ss:=⟨h.ne,λs hs=>⟨(h.ok s hs).1,(h.ok s hs).2.2⟩⟩
theorem ZFK(hR:RuOk ss){T:List Nat}(hT:T.length<=5000){s0 s3 s5:Option D}(G:DH):Lz [s0,zT (ss.map Af),zS (Aa (ruL ss)),s3,zS (Aa T),s5,xG] G=.rt (.bl xH) G:=by
 have hl:=Su hR;have r0:=λG=>Vs hR.g (by lia) G
 have k0:=λG=>Zd (ss:=ss) G
 rcases lreading hT G with⟨st,k1,k2,k3⟩|⟨k1,k2⟩
 ·have r1:=λG=>Vs k1 (by rw[<-k2];lia) G
  rw[<-k2]at r1;have k4:=λG=>Zd (ss:=st) G
  generalize st.map Af=Z at*;generalize ss.map Af=Y at*;generalize Aa (ruL ss)=X1 at*;generalize Aa T=X2 at*;unfold Lz Qs Q5 Uw;simp[k3,r0,r1,k0,k4]
 ·have r1:∀G,Er [.str (Aa T)] G=.err NT G:=λG=>by
   rcases ZEz (l:=T) (by lia) G with⟨st,h1,h2⟩|h
   ·exact absurd h2 (k1 st h1)
   ·exact h
  have k4:=λG=>ZCN r1 G
  generalize ss.map Af=Y at*;generalize Aa (ruL ss)=X1 at*;generalize Aa T=X2 at*;unfold Lz Qs Q5 Uw;simp[k2,r0,k0,k4]
theorem Y8:∀{n:Nat}{j num left:Int},∀x∈strm n j num left,x<10^42
 |0,_,_,_,x,h=>by cases h
 | n+1,j,num,left,x,h=>by
  simp only[strm,zv]at h;have h42:(0:Int)<10^42:=by decide
  have hm:(2147483647:Int)<=10^42:=by decide
  rcases h with rfl|h
  ·split
   ·exact zO _ h42
   ·exact Int.lt_of_lt_of_le (zO _ (by decide)) hm
  ·exact Y8 x h
theorem ZGb(hl:l.length<=1000000)(lo hi:Option Int):∃m:List Nat,m.length<=l.length/\∀G,Dq (.str (Aa l)) lo hi G=.ok (.str (Aa m)) G:=by
 refine⟨cutD l lo hi,?_,λG=>?_⟩
 ·unfold cutD;rw[qz,qj];lia
 ·rw[Bb,if_pos (by rw[Ay];exact hl)];show R.ok (D.str (Aa (cutD (Aa l).cps.toList lo hi))) G=_;rw[Bp]
theorem ZGD(h0:0<=n)(h1:n<10^43):(num n).length<=43/\∀G,Ds [.int n] G=.ok (.str (Aa (num n))) G:=by
 have h2:(10:Int)^43=((10^43:Nat):Int):=by decide
 rw[h2]at h1;have h5:n.natAbs<10^43:=by generalize 10^43=N at*;lia
 refine⟨?_,λG=>?_⟩
 ·unfold num;rw[zy];refine Tr 43 n.toNat (by decide) ?_;generalize 10^43=N at*;lia
 ·have e:Ds [.int n] G=if n.natAbs.log2<1920 then .ok (.str (Str.ofString (toString n))) G else .bad:=rfl
  have hlog:n.natAbs.log2<1920:=by
   by_cases hz:n.natAbs=0
   ·rw[hz];decide
   ·rw[Nat.log2_lt hz];have h3:(10:Nat)^43<2^200:=by decide
    have h4:(2:Nat)^200<=2^1920:=j2 (by decide) (by decide);exact zZ (Nat.lt_trans h5 h3) h4
  rw[e,if_pos hlog,ZBR h0]
theorem rep0:∃m:List Nat,m.length<=3/\∀G,Mf (.str "0") (.int (x%4)) G=.ok (.str (Aa m)) G:=by
 have hl:("0":Str).length<=1000:=by decide +kernel
 rcases(by lia:x%4=0∨x%4=1∨x%4=2∨x%4=3)with h|h|h|h<;>rw[h]
 ·refine⟨[],by simp,λG=>?_⟩;show(if -1000<=(0:Int)/\(0:Int)<=1000/\("0":Str).length<=1000 then R.ok (D.str (Ek "0" 0)) G else .bad)=_;rw[if_pos ⟨by decide,by decide,hl⟩,show Ek "0" 0=Aa [] by decide +kernel]
 ·refine⟨[48],by simp,λG=>?_⟩;show(if -1000<=(1:Int)/\(1:Int)<=1000/\("0":Str).length<=1000 then R.ok (D.str (Ek "0" 1)) G else .bad)=_;rw[if_pos ⟨by decide,by decide,hl⟩,show Ek "0" 1=Aa [48] by decide +kernel]
 ·refine⟨[48,48],by simp,λG=>?_⟩;show(if -1000<=(2:Int)/\(2:Int)<=1000/\("0":Str).length<=1000 then R.ok (D.str (Ek "0" 2)) G else .bad)=_;rw[if_pos ⟨by decide,by decide,hl⟩,show Ek "0" 2=Aa [48,48] by decide +kernel]
 ·refine⟨[48,48,48],by simp,λG=>?_⟩;show(if -1000<=(3:Int)/\(3:Int)<=1000/\("0":Str).length<=1000 then R.ok (D.str (Ek "0" 3)) G else .bad)=_;rw[if_pos ⟨by decide,by decide,hl⟩,show Ek "0" 3=Aa [48,48,48] by decide +kernel]
noncomputable def some16:List Str:=["","0","0:","00:"," 0:","0: ","0:; ","0:;1:","0:; 1:","0: 1+1 river,","0: 1+1 river;","0: 1+1","0: 1+1 mill","0:1+1 river","0: 1+01 pump","0: 1 + 1 river"]
theorem ZEj:∀s∈some16,s.length<=100:=by decide +kernel
theorem ZB2:∃m:List Nat,m.length<=100/\∀G,Ao (.fl (some16.map D.str)) (.int (x%16)) G=.ok (.str (Aa m)) G:=by
 have h0:=qX x (show(16:Int)≠0 by decide);have h1:=zO x (show(0:Int)<16 by decide);have hl:x%16<((some16.map D.str).length:Int):=by
  have:(some16.map D.str).length=16:=by rw[zy];decide
  rw[this];exact h1
 have hi:(x%16).toNat<some16.length:=by
  have:some16.length=16:=by decide
  rw[this];lia
 refine⟨(some16[(x%16).toNat]).cps.toList,?_,λG=>?_⟩
 ·have:=ZEj _ (qO hi);unfold Str.length at this;simpa using this
 ·have e:=ZBm h0 hl;rw[List.getElem_map]at e;rw[<-U0];simp[e]
theorem ZFO(hR:RuOk ss)(hxl:xs.length=12)(hx:∀x∈xs,0<=x/\x<10^42){T:List Nat}(hT:T.length<=4000){s0:Option D}(G:DH):
  Jf [s0,zT (ss.map Af),zS (Aa (ruL ss)),zF (xs.map D.int),zS (Aa T),xG,xG] G=.rt (.bl xH) G:=by
 have hl:=Su hR;have hl':(ruL ss).length<=1000000:=by lia
 have hE:∀(T:List Nat)(s5:Option D)(G:DH),T.length<=5000->Lz [s0,zT (ss.map Af),zS (Aa (ruL ss)),zF (xs.map D.int),zS (Aa T),s5,xG] G=.rt (.bl xH) G:=λT s5 G h=>ZFK hR h G
 have a10:atI (xs.map D.int) 10=zI (gx xs 10):=Et (i:=10) (by lia);have a11:atI (xs.map D.int) 11=zI (gx xs 11):=Et (i:=11) (by lia);obtain⟨m1,hm1,hs1⟩:=ZB2 (x:=gx xs 11);obtain⟨m2,hm2,hs2⟩:=ZFc (l:=ruL ss) (by lia) (x:=gx xs 11);have hx11:0<=gx xs 11/\gx xs 11<10^42:=by
  have hi:11<xs.length:=by lia
  have e:gx xs 11=xs[11]:=by unfold gx;rw[jV,zk hi];rfl
  rw[e];exact hx _ (qO hi)
 have hsum:(0:Int)<=10^39+gx xs 11/\10^39+gx xs 11<10^43:=by
  have h1:(0:Int)<=10^39:=by decide
  have h2:(10:Int)^39+10^42<=10^43:=by decide
  lia
 obtain⟨nl,hn,hsn⟩:∃nl:List Nat,nl.length<=43/\∀G,Ds [.int (10^39+gx xs 11)] G=.ok (.str (Aa nl)) G:=⟨_,ZGD hsum.1 hsum.2⟩;have hsn':∀G,Ds [.int (1000000000000000000000000000000000000000+gx xs 11)] G=.ok (.str (Aa nl)) G:=hsn;obtain⟨z,hz,hz0⟩:=rep0 (x:=gx xs 11);obtain⟨f,hf⟩:∃f:Int,∀G,Io (.str (Aa (ruL ss))) [.str ":"] G=.ok (.int f) G:=⟨_,λG=>rfl⟩;obtain⟨m3,hm3,hs3⟩:=ZGb hl' (xF f) xG
 have b1:=λG=>Bl (l:=nl) (l':=z) (by lia) G
 have b2:=λG=>Bl (l:=nl++z) (l':=m3) (by simp;lia) G
 have fz1:∀G:DH,freeze G (.ok (.ref G.length) (G++[.lst [.str "",.str "0",.str "0:",.str "00:",.str " 0:",.str "0: ",.str "0:; ",.str "0:;1:",.str "0:; 1:",.str "0: 1+1 river,"]]))=.ok (.fl [.str "",.str "0",.str "0:",.str "00:",.str " 0:",.str "0: ",.str "0:; ",.str "0:;1:",.str "0:; 1:",.str "0: 1+1 river,"]) G:=λG=>Cd rfl
 have fz2:∀G:DH,freeze G (.ok (.ref G.length) (G++[.lst [.str "0: 1+1 river;",.str "0: 1+1",.str "0: 1+1 mill",.str "0:1+1 river",.str "0: 1+01 pump",.str "0: 1 + 1 river"]]))=.ok (.fl [.str "0: 1+1 river;",.str "0: 1+1",.str "0: 1+1 mill",.str "0:1+1 river",.str "0: 1+01 pump",.str "0: 1 + 1 river"]) G:=λG=>Cd rfl
 have fz3:∀G:DH,freeze G (.ok (.ref G.length) (G++[.lst (some16.map D.str)]))=.ok (.fl (some16.map D.str)) G:=λG=>Cd Oi
 have ad:∀G,Ag (.fl [.str "",.str "0",.str "0:",.str "00:",.str " 0:",.str "0: ",.str "0:; ",.str "0:;1:",.str "0:; 1:",.str "0: 1+1 river,"]) (.fl [.str "0: 1+1 river;",.str "0: 1+1",.str "0: 1+1 mill",.str "0:1+1 river",.str "0: 1+01 pump",.str "0: 1 + 1 river"]) G=.ok (.ref G.length) (G++[.lst (some16.map D.str)]):=λG=>rfl
 rcases(by lia:gx xs 10%8=1∨gx xs 10%8=2∨(2<gx xs 10%8/\gx xs 10%8<6)∨(¬gx xs 10%8=1/\¬gx xs 10%8=2/\¬(2<gx xs 10%8/\gx xs 10%8<6)))with hw|hw|hw|hw
 ·have hE1:=λs5 G=>hE m1 s5 G (by lia)
  generalize some16.map D.str=SM at*;generalize ss.map Af=Y at*;generalize Aa (ruL ss)=X1 at*;generalize Aa m1=M1 at*;generalize Aa T=X2 at*;generalize xs.map D.int=XS at*;unfold Jf Lw Lj;simp[-ZAz,Ah,a10,a11,hw,fz1,fz2,ad,fz3,hs1,hE1]
 ·have hE1:=λs5 G=>hE (nl++z++m3) s5 G (by simp;lia)
  generalize ss.map Af=Y at*;generalize Aa (ruL ss)=X1 at*;generalize Aa (nl++z++m3)=Z3 at*;generalize Aa (nl++z)=Z2 at*;generalize Aa nl=Z1 at*;generalize Aa z=Z0 at*;generalize Aa m3=M3 at*;generalize Aa T=X2 at*;generalize xs.map D.int=XS at*;unfold Jf Lw Lj;simp[-Bb,-Eg,a10,a11,hw,hsn',hsn,hz0,b1,hf,hs3,fsS,b2,hE1]
 ·have hE1:=λs5 G=>hE m2 s5 G (by lia)
  have w1:¬gx xs 10%8=1:=by lia
  have w2:¬gx xs 10%8=2:=by lia
  generalize ss.map Af=Y at*;generalize Aa (ruL ss)=X1 at*;generalize Aa m2=M2 at*;generalize Aa T=X2 at*;generalize xs.map D.int=XS at*;unfold Jf Lw Lj;simp[a10,a11,w1,w2,hw.1,hw.2,hs2,fsS,hE1]
 ·have hE1:=λs5 G=>hE T s5 G (by lia)
  obtain⟨w1,w2,w3⟩:=hw;generalize ss.map Af=Y at*;generalize Aa (ruL ss)=X1 at*;generalize Aa T=X2 at*;generalize xs.map D.int=XS at*;unfold Jf Lw Lj;by_cases w4:2<gx xs 10%8
  ·have w5:¬gx xs 10%8<6:=λz=>w3 ⟨w4,z⟩
   simp[a10,a11,w1,w2,w4,w5,hE1]
  ·simp[a10,a11,w1,w2,w4,hE1]
theorem ZDH(hb:∀m∈ns,m.natAbs.log2<1048576)(G:DH):Im [.fl (ns.map D.int)] G=.ok (.bl xH) G:=by
 obtain⟨ss,hR,h1⟩:=ZGX hb (at_:=0);have h1':∀G,Ke [.fl (ns.map D.int),.int 0] G=.ok (.tup (ss.map Af)) G:=h1;have h2:=λG=>ZHa hR G
 have hl:=Su hR;have hcell:∀G,Fy [.fl (ns.map D.int),.int 6] G=.ok (.int (cellAt ns 6)) G:=λG=>R6 (by lia)
 have hst:∀G,freeze G (Hg [.int (cellAt ns 6),.int 2,.int 12] G)=.ok (.fl ((Fb (cellAt ns 6) 2 12).map D.int)) G:=λG=>Wo (cell:=cellAt ns 6) (k:=2) (n:=12) (by lia) (by lia) G
 have hxl:(Fb (cellAt ns 6) 2 12).length=12:=Wj;have hx:∀x∈Fb (cellAt ns 6) 2 12,0<=x/\x<10^42:=λx hx=>⟨Zr x hx,Y8 x hx⟩
 generalize Fb (cellAt ns 6) 2 12=xs at*;obtain⟨m,hm,hc⟩:=ZFd hxl (l:=ruL ss) (by lia);have hM:=λG=>ZFO hR hxl hx (T:=m) (by lia) (s0:=zF (ns.map D.int)) G
 generalize ss.map Af=Y at*;generalize Aa (ruL ss)=X1 at*;generalize Aa m=X2 at*;generalize xs.map D.int=XS at*;unfold Im Zv Zn ZAd Zy;rw[An];simp[h1',h2,hcell,hst,hc,fsS,hM,Aq]
theorem holds:Holds:=λns hl hb=>⟨[],ZDH hb []⟩
end _W
namespace _W
open PySem _L _D
seal QE QT QA QS QSs QG QGs QI QTs QW QO
structure Txt (K:PySem.W.Frag) (mg:Str->Option jF):Prop where
 Sw:FT K mg "_law_any" T7 Rg
 Um:FT K mg "_law_cell_at" Tt Qk
 Pk:FT K mg "_law_stream" Uk Ug
 T6:FT K mg "_law_any_rule" Ra Tw
 Ui:FT K mg "_law_changed" Pn Q7
 R7:FT K mg "_law_marked" R8 Qt
 Mp:FT K mg "_law_whole" Tv R9
 Tc:FT K mg "is_number" Mi Ru
 Ma:FT K mg "number_in" Rh Tj
 Lp:FT K mg "step_in" Sq Rp
 Lk:FT K mg "stairs_in" Q3 Q8
 M5:FT K mg "season_in" Uc Rv
 Kd:FT K mg "rule_in" Pq Ri
 Ln:FT K mg "read_rule" Qn Rw
 U8:FT K mg "_law_no_rule" S7 Uq
 Qm:FT K mg "_law_end" Rf Uu
 Tu:FT K mg "_law_step" R4 Sx
 Ux:FT K mg "_law_season" Rc Pr
 U7:FT K mg "_law_reading" Tf Qq
 Nq:FT K mg "_law_rule_like" T3 Sd
 U6:FT K mg "_law_rule_text" Ub Qd
 Ml:FT K mg "law" Ea U4
 ZCd:mg "ValueError"=xG
 ZFB:mg "all"=xG
 ZG7:mg "any"=xG
 ZFW:mg "bool"=xG
 ZFt:mg "int"=xG
 De:mg "isinstance"=xG
 ZEF:mg "len"=xG
 ZGf:mg "max"=xG
 ZGh:mg "range"=xG
 ZHd:mg "str"=xG
 Pa:mg "tuple"=xG
 ZBV:mg "FIGURES"=xF (.str "0123456789" (Gq K "FIGURES"))
 ZAi:mg "MOST_FIGURES"=xF (.int 40 (Gq K "MOST_FIGURES"))
 Ph:TupG K mg "WAYS" ["river","pump"]
 Ua:MT K "NoText" "__init__" "NoText.__init__" Rt ["self","row"]
 Ax:ET K mg "NoText" "row"
 ZBo:XBase K mg "WaterError" (Ac K "WaterError")
 ZAE:mg "NoAsk"=xF (.ref (Ac K "NoAsk"))
 ZBb:mg "NoBounds"=xF (.ref (Ac K "NoBounds"))
 Zi:mg "NoHouse"=xF (.ref (Ac K "NoHouse"))
 W8:mg "NoLevel"=xF (.ref (Ac K "NoLevel"))
 V9:mg "NoName"=xF (.ref (Ac K "NoName"))
 ZBL:mg "NoNumber"=xF (.ref (Ac K "NoNumber"))
 Yx:mg "NoPump"=xF (.ref (Ac K "NoPump"))
 Zx:mg "NoRiver"=xF (.ref (Ac K "NoRiver"))
 Xy:mg "NoRow"=xF (.ref (Ac K "NoRow"))
 Vi:mg "NoRule"=xF (.ref (Ac K "NoRule"))
 Wm:mg "NoText"=xF (.ref (Ac K "NoText"))
 ZBD:mg "NoWay"=xF (.ref (Ac K "NoWay"))
 ZBd:mg "TooLong"=xF (.ref (Ac K "TooLong"))
 Ye:mg "WaterError"=xF (.ref (Ac K "WaterError"))
 ZAw:takes K (Ac K "NoText") (Ac K "WaterError")=xH
 ZA3:Aw (PySem.W.kitOne K (.ref (Ac K "NoText")) (.ref (Ac K "NoAsk"))) xI=xH
 Xm:Aw (PySem.W.kitOne K (.ref (Ac K "NoText")) (.ref (Ac K "NoBounds"))) xI=xH
 Wt:Aw (PySem.W.kitOne K (.ref (Ac K "NoText")) (.ref (Ac K "NoHouse"))) xI=xH
 ZBI:Aw (PySem.W.kitOne K (.ref (Ac K "NoText")) (.ref (Ac K "NoLevel"))) xI=xH
 Yz:Aw (PySem.W.kitOne K (.ref (Ac K "NoText")) (.ref (Ac K "NoName"))) xI=xH
 ZAx:Aw (PySem.W.kitOne K (.ref (Ac K "NoText")) (.ref (Ac K "NoNumber"))) xI=xH
 Wv:Aw (PySem.W.kitOne K (.ref (Ac K "NoText")) (.ref (Ac K "NoPump"))) xI=xH
 Yq:Aw (PySem.W.kitOne K (.ref (Ac K "NoText")) (.ref (Ac K "NoRiver"))) xI=xH
 Yn:Aw (PySem.W.kitOne K (.ref (Ac K "NoText")) (.ref (Ac K "NoRow"))) xI=xH
 Wq:Aw (PySem.W.kitOne K (.ref (Ac K "NoText")) (.ref (Ac K "NoRule"))) xI=xH
 Yp:Aw (PySem.W.kitOne K (.ref (Ac K "NoText")) (.ref (Ac K "NoText"))) xH=xH
 Vq:Aw (PySem.W.kitOne K (.ref (Ac K "NoText")) (.ref (Ac K "NoWay"))) xI=xH
 Z7:Aw (PySem.W.kitOne K (.ref (Ac K "NoText")) (.ref (Ac K "TooLong"))) xI=xH
 Yy:Aw (PySem.W.kitOne K (.ref (Ac K "NoText")) (.type "ValueError")) xH=xH
section
seal Gs J9 dC Ie Ih Ky Ab dFn Aj Ff Dy Ad Bw J8 dOp dOr Og dSl G7 Ai dUn dV Ga Ls Lh Ej Ce Az Lb Ds Cw Bk Ef Do gV Gf Ez Fo Io Gn Fw Ew Jh Ag Ex Bc Mu K5 Jd Jc Ol Ao Es Ep Bf Bo Mf Fe Mm Gb Fp Jk rng1 sAs sEx Dk sIf sNr sNx sRt sRz Ae Hd sWh
local macro_rules | `(tactic|trivial)=> `(tactic|first|refine' (_:String)|refine' (_:Str)|refine' (_:j6))
local macro_rules | `(tactic|trivial)=>pure (wR "QE _ _|_ (dV _):.Be _|(Expr.Subscript .) (dOp _ _ _):-ZBx ? ? ?|(Expr.Compare .) _:-Ql ? ? ? (nomark _)|(Expr.Call (Expr.Name .) .) (dFn _ _):<ZAl ? rfl ? ? ?,<Tz ? rfl ? ? ?,-Cm (ZHv T) T.Um hr ?,-Cm (ZG4 T) T.Sw hr ?,-Jx (ZCx T) (hr.mono d) rfl T.Ma.m T.Ma.k T.Ma.b Qw ?,-Cm (ZDn T) T.Qm hr ?,-Cm (Vm T) T.Mp hr ?,-Cm (ZHc T) T.Pk hr ?,-Jx (ZFY T) (hr.mono d) rfl T.Lp.m T.Lp.k T.Lp.b Vh ?,-Jx (ZHF T) (hr.mono d) rfl T.Lk.m T.Lk.k T.Lk.b Qw ?,-Jx (ZFI T) (hr.mono d) rfl T.M5.m T.M5.k T.M5.b Vh ?,-Jx (ZEI T) (hr.mono d) rfl T.Kd.m T.Kd.k T.Kd.b Qw ?,-Cm (ZDN T) T.Tu hr ?,-Cm (ZGd T) T.Ux hr ?,-Cm (ZFX T) T.T6 hr ?,-Cm (ZDr T) T.U6 hr ?,-Cm (ZE1 T) T.Ui hr ?,-Cm (ZF5 T) T.R7 hr ?,-Cm (ZH7 T) T.U7 hr ?,-Cm (ZEe T) T.U8 hr ?|_ (Ff _ _ _):-ZCV ? ? ? ? ?|(Expr.Name .) (dC (D.ty .)):-ZCj rfl ? ?|_ (dSl _ _ _):-Ym ? ? ?|_ (Ih _ _ _ _ _ _):-ZHk ? L ? l l|(Expr.Name .) (dC _):<ZCZ rfl ?,<ZFn rfl ?|.Xr,.ZBZ,.ZE5,.ZGL,@Ku,@Df,@ZHw,@ZCK,@Kl,@ZAF,@Qp,@T5,@ZEy#QA _ _|.G8,-Bv ? ?#QSs _ _|@Bg,.Hf,@Gp#QS _ _|(Stmt.Assign (List.cons (Expr.Name .) List.nil) .) (sAs _ (gV _)):-K4 _ nd ?|_ (sEx _):-ZB3 ?|_ (Dk _ _ _):-ZDc PassesOwn.never rfl ? ? ?|_ (sWh _ _ _):-ZHj fuel PassesOwn.never ? ?|@Ib,@Gr,@O7,-ZEt T.Ax (ZDa T) T.Ua.b hr ?#QG _ _|_ (gV _):.Ot _ nd|_ (Do _ _):-ZFM rfl ?#QGs _ _|.ZGW,-ZHT ? ?#QTs _ _|-ZFZ ?#QT _ _|(Expr.Compare _ (List.cons _ List.nil) .) (Ai _):-Yw ? ? ? (nomark _)|_ (Ai _):-Hz ?|(Expr.BoolOp .) _:-Oc ?|(Expr.Compare _ (List.cons _ (List.cons _ List.nil)) .) _:-ZEh ? ? ? ? ?|@Hx#QI _ _ _|(Expr.Call _ (List.cons _ List.nil) .) (Gf rng1 _):-ZCn rfl ? ?|@T8#QW _ _|@Qj,@Rx,@ZAv,@Xz#QO _ _|.Ve,@Wk#GK|_ (gV _):.ZCt d#=OpR _ _ _|!M4,!ZCS,!ZF0,!o_lt,!ZDk,!ZFD,!o_le,!ZH5,!o_gt,!o_is,!o_ge,!ZFo,!ZDo,.o_eq hr.units,.o_ne hr.units#=IxR _ _|!i_ix#=CallR _ _ _|.ZCc,.ZEY,.Th,.ZCY,.ZHt,=ZD8 ?,.ZGg,=ZG0 ?#=Eq _ none|.T.ZEF,.T.Pa,.T.De,.T.ZFt,.T.ZGh,.T.ZHd,.T.ZGf,.T.ZFW,.T.ZG7#=Eq (bootBuiltins _) _|!ZD2,!Pb,!ZAV,!ZId,!ZDG,!ZDE,!ZIL,!ZEB#=Slot _ _ _|!PySem.F.slot_list_append#=Eq (typeOf _) _|!PySem.F.type_list_append#=MtM _ _ _|!ZES#=Eq _ (some _)|.T.ZAi,.T.ZBV#=UnR _ _ _|!ZCI#*|.hr.mono d")
set_option hygiene false in
local macro_rules | `(tactic|exists $a,$b)=> `(tactic|(refine Lg $a $b λcdv A outer s H E hr=>?_;have nd:=($b).nd;trivial))
variable{P:jB}{w:jG}{K:PySem.W.Frag}{mg:Str->Option jF}{base:Heap}(T:Txt K mg)
include T
theorem ZDa:FnOk P w K mg base CX0 1 (Bs K (Ac K "NoText") "__init__") (Av K (Bs K (Ac K "NoText") "__init__")) ["self","row"] (spI (Ac K "NoText") "row"):=
 ZHS (k:=0) T.Ua.F ZCg T.Ax.X T.ZBo rfl (by decide +kernel) (by decide +kernel) rfl rfl rfl rfl (.inl rfl) (.inl rfl) (λ_=>⟨_,rfl⟩)
theorem ZG4:FnO P w K mg base 1 "_law_any" Rg Jy:=by exists T.Sw.F,ZEd
theorem ZHv:FnO P w K mg base 1 "_law_cell_at" Qk Fy:=by exists T.Um.F,ZGG
theorem ZHc:FnO P w K mg base 1 "_law_stream" Ug Hg:=by exists T.Pk.F,ZE3
theorem ZFX:FnO P w K mg base 2 "_law_any_rule" Tw Ke:=by exists T.T6.F,ZFs
theorem ZE1:FnO P w K mg base 1 "_law_changed" Q7 Nb:=by exists T.Ui.F,ZD4
theorem ZF5:FnO P w K mg base 1 "_law_marked" Qt O9:=by exists T.R7.F,ZDC
theorem Vm:FnO P w K mg base 1 "_law_whole" R9 Ho:=by exists T.Mp.F,ZDv
theorem ZEo:FnO P w K mg base 1 "is_number" Ru Gz:=by
 refine Lg T.Tc.F ZBG λcdv A outer s H E hr=>?_
 have nd:=ZBG.nd
 exact(Bg (Gr (Oc (Qj (by trivial) (Rx (Hx (Hz (ZAl (ZIY rfl) rfl T.ZFB ZC9 (Bv (Df (Xe rfl (Q4 (dn:=(Am Mi).names) (N0:=Ro) (N:=["sign"]) (nt:=1) (caps:=[])) (by trivial) (λC s₀ H₀ ex=>(Ot 0 (show(["sign"]:List Str).Nodup by decide +kernel))) (by trivial) (λC s₀ H₀ ex=>Qv) (λC s₀ H₀ ex=>(Ql o_in (Be 0) (by trivial) (by with_unfolding_all rfl))))) G8))))))) (by trivial) Hf) (Gp (Ib (ZHp (by trivial) (Qp (ZAF (Gk PySem.F.slot_str_startswith PySem.F.type_str_startswith Wh (Be 0) (by trivial))))))))
theorem ZCx:FnX P w K mg base 3 "number_in" Tj Gw:=by
 refine Jr T.Ma.F ZBF λcdv A outer s H E hr=>?_
 have nd:=ZBF.nd;exact(Bg (Gr (Hx (Hz (ZIQ (ZEo T) T.Tc hr (by trivial)))) (by trivial) Hf) (by trivial))
theorem ZFY:FnX P w K mg base 4 "step_in" Rp Fx:=by
 refine Jr T.Lp.F ZBc λcdv A outer s H E hr=>?_
 have nd:=ZBc.nd
 exact(Bg (O7 (Qa (Gk PySem.F.slot_str_partition PySem.F.type_str_partition Tn (Be 0) (by trivial)) (by trivial))) (Bg (O7 (Qa (Gk PySem.F.slot_str_partition PySem.F.type_str_partition Tn (Be 4) (by trivial)) (by trivial))) (Bg (Gr (Yw ZH8 (Be 7) (ZFy (ss:=["river","pump"]) rfl T.Ph) (by with_unfolding_all rfl)) (by trivial) Hf) (by trivial))))
theorem ZHF:FnX P w K mg base 5 "stairs_in" Q8 Hb:=by
 refine Jr T.Lk.F Wa λcdv A outer s H E hr=>?_
 have nd:=Wa.nd;exact(Bg (by trivial) (Bg (Gr (Hx (Hz (Gk PySem.F.slot_str_startswith PySem.F.type_str_startswith Wh (Be 0) (by trivial)))) (by trivial) Hf) (Gp (Ib (Tz Th rfl T.Pa Pb (Bv (Df (Wi (T8 (Df (Gk PySem.F.slot_str_split PySem.F.type_str_split m_split (by trivial) (by trivial)))) (λC s₀ H₀ ex nd=>(Ot 0 nd)) (by trivial) (λC s₀ H₀ ex=>Qv) (λC s₀ H₀ ex=>(by trivial)))) G8))))))
theorem ZFI:FnX P w K mg base 6 "season_in" Rv Hc:=by
 refine Jr T.M5.F Yv λcdv A outer s H E hr=>?_
 have nd:=Yv.nd;exact(Bg (O7 (Qa (Gk PySem.F.slot_str_partition PySem.F.type_str_partition Tn (Be 0) (by trivial)) (by trivial))) (by trivial))
theorem ZEI:FnX P w K mg base 7 "rule_in" Ri Kr:=by
 refine Jr T.Kd.F Zf λcdv A outer s H E hr=>?_
 have nd:=Zf.nd;exact(Gp (Ib (Tz Th rfl T.Pa Pb (Bv (Df (Wi (T8 (Df (Gk PySem.F.slot_str_split PySem.F.type_str_split m_split (Be 0) (by trivial)))) (λC s₀ H₀ ex nd=>(Ot 0 nd)) (by trivial) (λC s₀ H₀ ex=>Qv) (λC s₀ H₀ ex=>(by trivial)))) G8))))
theorem Rb:FnX P w K mg base 8 "read_rule" Rw Er:=by
 refine Jr T.Ln.F Vv λcdv A outer s H E hr=>?_
 have nd:=Vv.nd
 trivial
theorem ZEe:FnO P w K mg base 9 "_law_no_rule" Uq Nm:=by
 refine Lg T.U8.F Hq λcdv A outer s H E hr=>?_
 have nd:=Hq.nd;exact(Bg (by trivial) (Bg (ZGI T.Ax.N T.ZAw T.Ye (Rb T) T.Ln hr (by trivial) Hq.nd (λea hr=>(by trivial))) (Bg (Gr (Oc (Qj (Hx (Hz (Dt T.Ax.N T.Ax.G T.De T.Wm T.Yp (Be 1)))) (Rx (Hx (Hz (ZCX T.Ax.N T.Ax.G T.De T.ZCd (by decide +kernel) T.Yy (Be 1))))))) (by trivial) Hf) (Bg (K4 3 Hq.nd (Df (Kl (Bv (Dt T.Ax.N T.Ax.G T.De T.ZAE T.ZA3 (Be 1)) (Bv (Dt T.Ax.N T.Ax.G T.De T.ZBb T.Xm (Be 1)) (Bv (Dt T.Ax.N T.Ax.G T.De T.Zi T.Wt (Be 1)) G8)))))) (Bg (K4 3 Hq.nd (Df (Ku M4 (Be 3) (Df (Kl (Bv (Dt T.Ax.N T.Ax.G T.De T.W8 T.ZBI (Be 1)) (Bv (Dt T.Ax.N T.Ax.G T.De T.ZBL T.ZAx (Be 1)) (Bv (Dt T.Ax.N T.Ax.G T.De T.Yx T.Wv (Be 1)) G8)))))))) (Bg (K4 3 Hq.nd (Df (Ku M4 (Be 3) (Df (Kl (Bv (Dt T.Ax.N T.Ax.G T.De T.Zx T.Yq (Be 1)) (Bv (Dt T.Ax.N T.Ax.G T.De T.Xy T.Yn (Be 1)) (Bv (Dt T.Ax.N T.Ax.G T.De T.Vi T.Wq (Be 1)) G8)))))))) (Bg (K4 3 Hq.nd (Df (Ku M4 (Be 3) (Df (Kl (Bv (Dt T.Ax.N T.Ax.G T.De T.V9 T.Yz (Be 1)) (Bv (Dt T.Ax.N T.Ax.G T.De T.ZBD T.Vq (Be 1)) (Bv (Dt T.Ax.N T.Ax.G T.De T.ZBd T.Z7 (Be 1)) G8)))))))) (Gp (Ib (T5 (by trivial) (T5 (Cm (Vm T) T.Mp hr (Bv (Zz T.Ax (Be 1)) G8)) (Qp (Ql (o_eq hr.units) (Zz T.Ax (Be 1)) Xr (nomark _))))))))))))))
theorem ZDn:FnO P w K mg base 1 "_law_end" Uu Fl:=by exists T.Qm.F,ZHW
theorem ZDN:FnO P w K mg base 2 "_law_step" Sx Gm:=by exists T.Tu.F,ZCG
theorem ZGd:FnO P w K mg base 3 "_law_season" Pr H9:=by exists T.Ux.F,ZER
theorem ZH7:FnO P w K mg base 4 "_law_reading" Qq Jz:=by exists T.U7.F,ZHb
theorem ZAZ:FnO P w K mg base 2 "_law_rule_like" Sd Ks:=by exists T.Nq.F,ZHm
theorem ZDr:FnO P w K mg base 1 "_law_rule_text" Qd N5:=by
 refine Lg T.U6.F Vc λcdv A outer s H E hr=>?_
 have nd:=Vc.nd;exact(Bg (by trivial) (Bg (by trivial) (Gp (Ib (Gk PySem.F.slot_str_join PySem.F.type_str_join ZD9 ZBZ (by trivial))))))
theorem ZH0:FnO P w K mg base 10 "law" U4 Im:=by
 refine Lg T.Ml.F U3 λcdv A outer s H E hr=>?_
 have nd:=U3.nd;exact(Bg (by trivial) (Bg (by trivial) (Bg (by trivial) (Bg (by trivial) (Bg (by trivial) (Bg (by trivial) (Bg (Gr (by trivial) (Gp (K4 4 U3.nd (Df (Ku M4 (by trivial) (Df (Ym (Be 2) (Wk (Gk PySem.F.slot_str_find PySem.F.type_str_find m_find (Be 2) (by trivial))) Ve)))))) Hf) (Bg (by trivial) (Bg (by trivial) (Bg (Gr (Oc (ZAv (by trivial) (Xz (Hx (Hz (Cm (ZAZ T) T.Nq hr (Bv (ZAk (Rb T) T.Ln hr (by trivial)) (by trivial)))))))) (by trivial) Hf) (Gp (Ib (Cm (ZAZ T) T.Nq hr (Bv (ZAk (Rb T) T.Ln hr (by trivial)) (by trivial)))))))))))))))
end
theorem ZC1{K:PySem.W.Frag}{h:Heap}{mg:Str->Option jF}(X:K.In h)(G:h.Ns xQ mg)(S:AllSaid K asks):Txt K mg:=by
 obtain⟨Sw,Um,Pk,T6,Ui,R7,Mp,Tc,Ma,Lp,Lk,M5,Kd,Ln,U8,Qm,Tu,Ux,U7,Nq,U6,Ml,z_ValueError,z_all,z_any,z_bool,z_int,z_isinstance,z_len,z_max,z_range,z_str,ZJS,ZBV,ZAi,Ph,Ua,Ax,ZBo,ZAE,ZBb,Zi,W8,V9,ZBL,Yx,Zx,Xy,Vi,Wm,ZBD,ZBd,Ye,ZAw,ZA3,Xm,Wt,ZBI,Yz,ZAx,Wv,Yq,Yn,Wq,Yp,Vq,Z7,Yy,_⟩:=S
 constructor <;> first|assumption|exact PySem.W.mg_none_of X G (by assumption)|exact PySem.W.mg_of X G (by assumption)|exact ZHK X G (by assumption)|exact ZHG X G (by assumption)|exact ZEV X G (by assumption)|((first|refine ZIW X G (by assumption) ?_|refine ZGT (by assumption) ?_);(first|exact λ_ _ _ _ _ _=>bnd1 λ_=>rfl|exact λ_ _ _ _ _ _=>bnd2 λ_ _=>rfl|exact λ_ _ _ _ _ _=>bnd3 λ_ _ _=>rfl))|exact ZEW X G Ph
theorem all_mk{l:PySem.W.OpenLaw}{w:jG}{K:PySem.W.Frag}{h:Heap}{mg:Str->Option jF}{fa:j6}(X:K.In h)(G:h.Ns xQ mg)(hfa:mg "law"=xF (.ref fa))(S:AllSaid K asks):
  ∃fd:j9,(∀(s:jD)(v:jF),BindsTo s fd ⟨[v],[]⟩ [("_law_script",v)])/\∀base:Heap,K.In base->base.Ns xQ mg->FnOk l.prog w K mg base CX0 10 fa fd ["_law_script"] (lF K Im):=by
 have T:=ZC1 X G S;have eL:=T.Ml.m;obtain rfl:fa=Ac K "law":=by rw[hfa]at eL;cases eL;rfl
 exact⟨_,λs v=>ZDA (T.Ml.F),λbase _ _=>ZH0 T⟩
theorem walk{l:PySem.W.OpenLaw}{q:jB}{loose:List Str}{XP:(Str->Option jF)->Heap->Prop}{YP:jG->Heap->Prop}{d:DefRec}{K:jG->PySem.W.Frag}(hn:l.most=xF 63)(hdf:d.params.defaults=[])(HH:Holds)
  (hY:∀(w:jG)(h:Heap),YP w h->(K w).In h)
  (F:∀(w:jG)(mg:Str->Option jF)(fa:j6)(h:Heap),(K w).In h->h.Ns xQ mg->mg d.name=xF (.ref fa)->
   ∃fd:j9,(∀(s:jD)(u:jF),BindsTo s fd ⟨[u],[]⟩ [("_law_script",u)])/\∀base:Heap,(K w).In base->base.Ns xQ mg->FnOk l.prog w (K w) mg base CX0 10 fa fd ["_law_script"] (lF (K w) Im)):
  PySem.W.WalkO q loose XP YP l.row.toRowW d [] (λf vs=>PySem.call f vs):=
 ZDz (n:=63) (k:=10) (x:="_law_script") (CX:=λ_=>CX0) (sp:=λw=>lF (K w) Im) hn (by decide) hdf ⟨rfl,by decide,by decide⟩ hY F
  (λw H a ns hl hbt hO hS=>by
   obtain⟨G,hG⟩:=HH ns hl hbt;refine⟨⟨K w,0,λ_=>0,H⟩,[],[.fl (ns.map D.int)],rfl,rfl,⟨rfl,λi j h=>absurd h (Nat.not_lt_zero _),λi o h=>by simp at h,λi h=>absurd h (Nat.not_lt_zero _)⟩,Reps.cons ⟨a,ns.map V.int,rfl,?_,Reps.ints ns⟩ Reps.nil,?_⟩
   ·rcases hS with(hS|hS)|hS
    ·rcases hO a with z|⟨o,xs,z⟩
     ·rw[z]at hS;cases hS
     ·rw[z]at hS;cases hS
    ·exact .inl hS
    ·exact .inr hS
   ·rw[hG];exact λb v _ _ r=>r) λ_ _ _ _ _ z=>z
end _W
set_option maxRecDepth 100000
namespace _W
open PySem PySem.W _L _D
theorem Zk:∀w,(openEnds xK pw w 100000).map (λs=>(openSeen vw [] (jS pw.main.body) (XtOf rw_ vw) xH s,Qo asks s.heap))=xF (openGood vw [],U9 asks):=ZGA (by kernel_rfl) (λs=>rfl) ZH9
theorem well:rw_.wellSaid=xH:=ZDR (by kernel_rfl)
theorem hdef:defOf vw rw_.row.name=xF (dOf Ea,[]):=by kernel_rfl
theorem hp:rw_.row.prog.theDef rw_.row.name=xF ((dOf Ea).params,(dOf Ea).body,(dOf Ea).scope):=by kernel_rfl
theorem hk:kwWritten? (dOf Ea).params.kwonlyargs (dOf Ea).params.kw_defaults=xF []:=by kernel_rfl
theorem hok:(chainsOk vw&&opensWell rw_.row.prog&&(frees rw_.row.toRowW&&rw_.row.within.isEmpty))=xH:=by kernel_rfl
theorem hdf:(dOf Ea).params.defaults=[]:=by kernel_rfl
theorem hbare:rw_.row.prog.bare:=⟨rfl,rfl,rfl,rfl,rfl,by decide +kernel⟩
theorem hw:rw_.row.toRowW.promised:=by w_witness2
theorem walked:WalkO vw [] (XL vw []) (Stays rw_.prog 100000) rw_.row.toRowW (dOf Ea) [] λf vs=>PySem.call f vs:=
 walk (l:=rw_) (K:=λw=>Lq (Gd pw 100000 w)) rfl hdf holds (λw h Y=>Y.in) λw mg fa h KX G hmg=>all_mk KX G (show mg "law"=_ from hmg) (We (ZDf Zk w))
end _W
open PySem PySem.W PyProof.Rows _D
theorem PySem.Challenge.cw_sluiceway_k14_rules_read_holds : PySem.Challenge.rw_sluiceway_k14_rules_read.Holds := by
 refine holds_top (l:=_W.rw_) (q:=_W.vw) (loose:=[]) (N:=100000) (see:=Qo _W.asks) (val:=U9 _W.asks) (d:=dOf _W.Ea) ?_ ?_ ?_ ?_ ?_ ?_ ?_ ?_ ?_ ?_
 ·exact _W.well
 ·exact _W.Zk
 ·exact _W.hdef
 ·exact _W.hp
 ·exact _W.hk
 ·rfl
 ·exact _W.hok
 ·exact _W.hbare
 ·exact _W.hw
 ·exact _W.walked
