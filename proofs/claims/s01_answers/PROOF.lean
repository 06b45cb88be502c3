import PyProof.Rows.All
import Su56Spec
import PySu56
import PyProof.DictRoadsH
import PyProof.DictKinds
import PyProof.EqKinds
import PyProof.DictIter
import PyProof.DictCopy
import PyProof.DictValues
import PyProof.Rows.SortShell
import PyProof.DictTruth
import PyProof.MeetsDictList
import PyProof.RaisesDict
import KE.KDictOf
import PyProof.Rows.SortRuns
import PyProof.Rows.SortPure
import Wide.All
import OpenK.AllK
import Wide.FinOn
import PyProof.EqAt
import PyProof.TupleCall
import KE.BitLaws
import Open.SpecLaws
import KE.OsHead
import KE.OsGo
import KE.KLam
import PyProof.ZipIter
import PyProof.TupleIter
import KE.SpHead
import KE.OsShapes
import KE.KNest
import PySem.Challenge.RW_wallscaffold_s01_answers
set_option Elab.async false
set_option linter.all false
set_option maxRecDepth 100000
set_option maxHeartbeats 2000000
set_option compiler.small 0
set_option compiler.extract_closed false
set_option compiler.reuse false
namespace Hd
open PySem PySem.W
section
local macro_rules | `(tactic| o_headS $_) => `(tactic| skip)
theorem k(h:PySem.Challenge.rw_wallscaffold_s01_answers.Holds):PySem.Challenge.rw_wallscaffold_s01_answers.Holds:=by k_headS;exact h
end
noncomputable def as:List Addr:=[2,3,22,24,25,27,28,29,30,31,32,33,36,38,39,41,42,43,45,46,48,49,50,52,53,55,56,57,59,60,62,63,64,66,67,69,70,71,73,74,76,77,78,81,82,83,85,86,88,89,90,92,93,95,96,97,100,101,102,105,106,107,110,111,112,115,116,117,120,121,122,124,125,127,128,129,132,133,134,136,137,139,140,141,143,144,146,147,148,150,151,153,154,155,157,158,160,161,162,164,165,167,168,169,172,173,174,176,177,179,180,181,183,184,186,187,188,190,191,193,194,195,197,198,200,201,202,204,205,207,208,209,211,212,214,215,216,218,219,221,222,223,225,226,228,229,230,232,233,235,236,237,239,240,242,243,244,245,247,248,250,251,252,254,255,257,258,259,261,262,264,265,266,268,269,271,272,273,275,276,278,279,280,282,283,285,286,287,289,290,292,293,294,297,298,299,302,303,304,307,308,309,311,312,314,315,316,319,320,321,324,325,326,328,329,331,332,333,336,337,338,340,341,343,344,345,346,348,349,351,352,353,354,362,364,365,367,368,369,371,372,374,375,376,378,379,381,382,383,386,387,388,389,390,391,392,395,397,398,400,401]
theorem ae(P:Params):as=(k.heap_1 P).map (·.1):=by kernel_rfl
noncomputable abbrev H:=kHook k.heap_1 as ae
noncomputable def rT(p:Program)(w:World)(m:Nat)(a:Option Value):Nat->SharedT->Thread->Option SharedT
 |0,_,_=>none
 |n+1,s,t=>match through t with
  |true=>some s
  |false=>match stepOk m a t with
   |false=>none
   |true=>match stepT (denote treeTable) p w s t with
    |some (s',t')=>rT p w m a n s' t'
    |none=>none
theorem rO{p:Program}{w:World}{m:Nat}{a:Option Value}:∀{n:Nat}{s s':SharedT}{t:Thread},rT p w m a n s t=some s'->topRun treeTable p w m a n s.abs t=some s'.abs
 |0,_,_,_,h=>by cases h
 |n+1,s,s',t,h=>by
  unfold rT at h;unfold topRun
  cases he:through t with
  |true=>rw[he]at h;cases h;rfl
  |false=>
   rw[he]at h
   cases hk:stepOk m a t with
   |false=>rw[hk]at h;cases h
   |true=>
    rw[hk]at h
    cases hs:stepT (denote treeTable) p w s t with
    |none=>rw[hs]at h;cases h
    |some r=>obtain⟨s2,t2⟩:=r;rw[hs]at h;rw[stepT_spec hs];exact rO h
noncomputable def T(h:Heap)(os:OsState):SharedT:=⟨(h.objs.toList.foldl (λ(x:BT×Nat) o=>(x.1.ins x.2 o,x.2+1)) (.nil,0)).1,h.objs.size,h.life,#[],boot_drawn,boot_toks,os⟩
theorem tA(P:Params)(os:OsState):(T (boot_heap P) os).abs=⟨boot_heap P,#[],boot_drawn,boot_toks,os⟩:=by kernel_rfl
noncomputable def R(p:Program)(w:World)(h:Heap)(os:OsState):=rT p w h.objs.size (h.nsMap mainGlobals "__annotations__") 5748 (T h os) (topStub p)
abbrev p:=PySem.Challenge.pw_wallscaffold_s01_answers
abbrev l:List PySem.Str:=["CHANGES","TELLS"]
noncomputable def q:Program:={p with main:={p.main with body:=(((p.main.body.eraseIdx 75).eraseIdx 57).eraseIdx 23).eraseIdx 0}}
noncomputable def sn(h:Heap)(s:SharedT):=(h.isNs mainGlobals,staticsOk (importedModules p.main.body) h s.abs.heap&&namesBound p s.abs.heap&&gensDone s.abs&&laidKept h s.abs.heap,openSeen q l (importedModules p.main.body) (λs=>xlAt q [] s&&recOk [] s) true s.abs)
noncomputable def Z:=some (true,true,openGood q l)
noncomputable def V(s:SharedT):=as.map s.abs.heap.get?
lay_quick Hd.R
abbrev W(w:World)(b:Bool):World:=w.withFollow "special-get-raises" b
noncomputable abbrev B(w:World):=boot_heap w.params
theorem u{α:Type}{f:SharedT->α}{z:Option α}{w os}(h:(PySem.W.Fast.tw7840101188794326557 p w (B w) os).map f=z):(R p w (B w) os).map f=z:=by rw[PySem.W.Fast.te7840101188794326557];exact h
theorem q0(w os):(R p (W w false) (B (W w false)) os).map (sn (B (W w false)))=Z:=u (by kernel_rfl)
theorem q1(w os):(R p (W w true) (B (W w true)) os).map (sn (B (W w true)))=Z:=u (by kernel_rfl)
theorem v0(w os):(R p (W w false) (B (W w false)) os).map V=some (H.val (W w false)):=u (by kernel_rfl)
theorem v1(w os):(R p (W w true) (B (W w true)) os).map V=some (H.val (W w true)):=u (by kernel_rfl)
theorem b(w os):(R p w (B w) os).map (sn (B w))=Z/\(R p w (B w) os).map V=some (H.val w):=by
 have x:∀c,(R p (W w c) (B (W w c)) os).map (sn (B (W w c)))=Z/\(R p (W w c) (B (W w c)) os).map V=some (H.val (W w c)):=λc=>by
  cases c
  ·exact⟨q0 w os,v0 w os⟩
  ·exact⟨q1 w os,v1 w os⟩
 have y:=x (w.params.followText "special-get-raises");rw[W,World.withFollow_self]at y;exact y
theorem o(w:World):(fencedOpening treeTable p w 5748).map (λs=>(s.heap,s.gens,s.drawn,s.toks))=some (boot_heap w.params,#[],boot_drawn,boot_toks):=boot_open (by kernel_rfl) (by decide) (λs=>by kernel_rfl) w
theorem left:LeftO p q l (λs=>xlAt q [] s&&recOk [] s) H.obs H.val 5748:=λw=>by
 obtain⟨⟨h,g,d,t,os⟩,e,e'⟩:=Option.map_eq_some_iff.mp (o w)
 obtain⟨rfl,rfl,rfl,rfl⟩:h=boot_heap w.params/\g=#[]/\d=boot_drawn/\t=boot_toks:=by simpa using e'
 obtain⟨x,y⟩:=b w os
 obtain⟨s,r,r1⟩:=Option.map_eq_some_iff.mp x
 obtain⟨s2,r2,r3⟩:=Option.map_eq_some_iff.mp y
 obtain rfl:=Option.some.inj (r.symm.trans r2)
 obtain⟨z1,z⟩:=Prod.mk.inj r1
 obtain⟨z2,z3⟩:=Prod.mk.inj z
 have u:=rO r
 rw[tA]at u
 show ((fencedOpening treeTable p w 5748).bind (topFrom treeTable p w 5748)).map _=_
 rw[e]
 show (topFrom treeTable p w 5748 _).map _=_
 unfold topFrom
 rw[z1]
 show ((topRun treeTable p w _ _ 5748 _ _).bind _).map _=_
 rw[u]
 show (match staticsOk _ _ _&&_&&_&&_ with |true=>some s.abs|false=>none).map _=_
 rw[z2]
 exact congrArg some (Prod.ext z3 r3)
end Hd
def aa:=@PySem.wpAny_bind
def ah:=@PySem.wpAny_pure
def aJ:=@Nat.le_refl
def aO:=@decide_eq_true
def aW:=@List.map_cons
def aZ:=@List.getElem?_eq_getElem
def a9:=@List.mem_cons
def ba:=@decide_eq_false
def bc:=@Nat.lt_of_le_of_lt
def bh:=@List.mem_map
def bp:=@PySem.Heap.lt_size
def bJ:=@PySem.Heap.get?_push_of_some
def bP:=@Ne.symm
def bY:=@List.getElem?_map
def b9:=@Option.some.inj
def cf:=@List.map_append
def ck:=@of_decide_eq_true
def cn:=@PySem.Heap.get?_push_size
def cy:=@Nat.ne_of_lt
def cA:=@PySem.Paired.length
def cE:=@List.mem_of_getElem?
def cF:=@List.mem_singleton
def cG:=@List.nodup_cons
def cH:=@PySem.W.mg_of
def cK:=@List.mem_append
def cM:=@List.size_toArray
def cV:=@List.mem_filter
def cX:=@List.getElem?_eq_some_iff
def cY:=@PyProof.Rows.wpS_bind
def c0:=@Bool.false_ne_true
def da:=@Nat.zero_le
def df:=@List.length_append
def dr:=@congrArg
def du:=@List.getD_eq_getElem?_getD
def dw:=@Nat.le_trans
def dA:=@List.filter_cons
def dC:=@if_false
def dH:=@Bool.and_eq_true
def dI:=@not_or
def dJ:=@PySem.wpAny_holding
def dN:=@Nat.lt_of_lt_of_le
def dS:=@PyProof.Rows.wpS_pure
def dU:=@PySem.Heap.size_push
def d9:=@beq_iff_eq
def eC:=@PySem.wpAny_rule
def eM:=@PySem.wpAny_dictEntries
def eV:=@List.mem_iff_getElem?
def eW:=@Bool.false_eq_true
def eX:=@PySem.wpAny_mono
def fj:=@Bool.eq_iff_iff
def fk:=@PySem.mem_of_lookup
def fq:=@PySem.Heap.get?_update_other
def fR:=@List.mem_range
def fU:=@if_true
def fV:=@PySem.wpAny_call_entry
def fW:=@Nat.lt_irrefl
def fX:=@List.length_filter_le
def fY:=@List.take_succ_eq_append_getElem
def gh:=@Array.length_toList
def gj:=@PySem.wpAny_dictEpoch
def gm:=@PySem.wpAny_letGo
def gn:=@PySem.wpAny_field
def gp:=@List.take_length
def gq:=@PySem.boot_len
def gr:=@List.not_mem_nil
def gs:=@or_false
def gI:=@List.length_take
def gJ:=@PySem.Heap.get?_update_self
def gK:=@PySem.wpAny_newObj_type
def gL:=@PySem.W.mg_none_of
def gY:=@PySem.wpAny_truthy_bool
def gZ:=@PySem.wpAny_callSpecial?_slot
def g0:=@PySem.boot_len
def g9:=@List.sum_cons
def iw:=@Nat.add_sub_cancel
def iy:=@PySem.Heap.SameBut.update
def iz:=@PySem.wpAny_seqItems
def iA:=@List.filter_append
def iB:=@PySem.PassesOwn.never
def iC:=@List.filter_nil
def jc:=@List.all_eq_true
def jd:=@List.filter_sublist
def je:=@List.any_eq_true
def jf:=@List.mem_append_right
def jg:=@Int.toNat_natCast
def jh:=@Nat.le_add_right
def ji:=@List.length_range
def jj:=@List.length_take_le'
def jL:=@Nat.zero_add
def jM:=@beq_eq_false_iff_ne
def jN:=@Array.getElem?_toList
def jO:=@PySem.wpAny_attempt
def jP:=@List.take_of_length_le
def jQ:=@PySem.F.plainAttrs_list
def jR:=@List.take_add_one
def kQ:=@List.nodup_append
def kR:=@List.all_cons
def kU:=@PySem.wpAny_passesOwn
def kW:=@PySem.typeIs_int
def kX:=@List.replicate_succ
def kY:=@List.forIn_nil
def kZ:=@List.forIn_cons
def k9:=@List.lookup_cons
def lg:=@Nat.lt_succ_of_lt
def lh:=@PySem.plainId_quiet
def lj:=@Nat.min_le_right
def ll:=@Option.toList_some
def mQ:=@Option.isSome_iff_exists
def mR:=@List.find?_cons
def mU:=@List.map_congr_left
def mV:=@Option.map_some
def mW:=@PySem.Obj.data_mapDictKeys
def mX:=@PySem.wpAny_notOrdered_dict
def mY:=@List.pairwise_map
def mZ:=@PyProof.Rows.wpS_forRange
def m3:=@Nat.ne_of_gt
def m4:=@PyProof.Rows.callWith_type1
def m6:=@PySem.Calls.spliced_cons
def m7:=@PySem.wpAny_Call_Name_kw
def m8:=@PySem.F.slot_dict_keyiterator_next
def m9:=@PySem.wpAny_setField
def ng:=@PySem.Obj.data_mapFields
def nh:=@PySem.codeAny_builtin
def ni:=@PySem.Around.under_plainId
def nj:=@PySem.F.plain_max_loop
def nq:=@PySem.wpAny_updateSeq
def nr:=@PySem.wpAny_setField_rec
def nu:=@PySem.F.slot_list_append
def nv:=@PySem.F.type_list_append
def pP:=@Nat.mul_comm
def pQ:=@List.foldl_cons
def pR:=@List.modify_succ_cons
def pS:=@Nat.le_of_eq
def pT:=@Bool.or_false
def pU:=@Bool.or_eq_true
def pV:=@List.flatMap_cons
def pW:=@PySem.wpAny_forIn_list
def pX:=@List.findIdx?_cons
def pY:=@Bool.false_and
def pZ:=@Option.some.injEq
def p0:=@PySem.wpAny_specialOf
def p6:=@PySem.wpAny_isInstance
def p7:=@Nat.le_of_lt
def p8:=@List.mem_append_left
def p9:=@PySem.wpAny_standAt
def qa:=@Nat.lt_succ_self
def qb:=@PySem.codeAny_mono
def qe:=@List.flatten_cons
def qf:=@List.append_assoc
def qg:=@List.any_cons
def qh:=@List.any_map
def qi:=@Nat.lt_trans
def qj:=@PySem.wpAny_of_eq
def qk:=@PySem.wpAny_Call_method
def ql:=@PySem.F.slot_dict_valueiterator_next
def qm:=@PyProof.Rows.listItems_at
def qo:=@List.pairwise_iff_getElem
def sY:=@List.getElem_mem
def sZ:=@decide_eq_true_eq
def tj:=@List.contains_cons
def tq:=@List.contains_nil
def tu:=@Sum.inl.inj
def tw:=@List.getElem?_inj
def tD:=@PySem.Obj.isFreed_of_dict
def tE:=@PySem.call_meetsIn
def tF:=@Bool.and_false
def tG:=@List.Pairwise.imp_of_mem
def tH:=@PySem.wpAny_typeOf
def tI:=@beq_self_eq_true
def tJ:=@List.getElem?_eq_none_iff
def tK:=@PySem.wpAny_execs_nil
def tL:=@PySem.wpAny_pyIter_list
def tM:=@PySem.Calls.spliced_nil
def tN:=@PySem.W.callWith_K
def tO:=@List.of_mem_zip
def tP:=@PySem.Calls.callWith_builtin
def tQ:=@PySem.Calls.evalArgs_plain
def tR:=@PySem.pushCells_keeps
def tS:=@Nat.le_of_succ_le
def tT:=@PySem.wpAny_typeNameOfWhole_keyiter
def tU:=@PySem.wpAny_typeNameOf_keyiter
def tV:=@PySem.wpAny_fieldsOf
def tW:=@Array.getElem?_eq_some_iff
def tX:=@PySem.wpAny_pyIter_zip
def tY:=@PySem.F.slot_dict_pop
def tZ:=@PySem.F.plainAttrs_dict
def t6:=@PySem.wpAny_typeNameOfWhole_valiter
def t7:=@PySem.wpAny_typeNameOf_valiter
def t9:=@PySem.F.plain_extend_loop
def ua:=@PySem.F.slot_tuple_iterator_next
def ub:=@PySem.wpAny_onRaise
def uc:=@PySem.F.slot_zip_next
def ud:=@List.range_succ
def yO:=@List.getElem?_eq_none
def yP:=@List.getElem?_range
def yQ:=@Nat.lt_trichotomy
def yR:=@List.cons_append
def yS:=@List.getElem?_replicate
def yT:=@Int.natCast_nonneg
def yU:=@List.length_eq_zero_iff
def yV:=@List.mem_filterMap
def yW:=@List.filter_eq_self
def yX:=@PySem.slot_dict_contains
def yY:=@PySem.F.slot_dict_iter
def yZ:=@Array.perm_iff_toList_perm
def y4:=@List.getElem?_set_self
def y6:=@List.getElem?_set_ne
def y8:=@PySem.W.plainGet_of
def y9:=@PySem.W.cellsFrom_some
def za:=@List.getElem?_append_right
def zb:=@List.nil_append
def zc:=@PySem.wpAny_pyIter_slot
def zd:=@Array.getElem?_eq_getElem
def ze:=@PySem.Obj.isFreed_of_fields
def zf:=@PySem.Obj.cls_mapFields
def zg:=@PySem.wpAny_isOneOf_valiter
def zh:=@Array.toList_zip
def zi:=@List.getElem?_zip_eq_some
def zj:=@List.sum_append
def zk:=@PySem.wpAny_updateSeq_pair
def zl:=@List.getElem?_take
def zm:=@Option.isSome_map
def zo:=@Bool.true_and
def Gs:=@Option.isSome_iff_ne_none
def Gu:=@List.mem_or_eq_of_mem_set
def Gv:=@Array.toList_eq_nil_iff
def Gw:=@List.getElem?_append_left
def Gx:=@PySem.F.entry_dict_keyiterator_next
def Gy:=@PySem.F.args_dict_keyiterator_next_1
def Gz:=@PySem.W.length_le_weightAllW
def GF:=@PySem.F.args_dict_pop_3
def GJ:=@PySem.F.slot_dict_getitem
def GK:=@PySem.F.entry_dict_valueiterator_next
def GP:=@PySem.F.args_dict_valueiterator_next_1
def GQ:=@PySem.F.slot_dict_values
def GR:=@PySem.F.entry_tuple_iterator_next
def GU:=@PySem.F.args_tuple_iterator_next_1
def GV:=@PySem.F.args_zip_next_1
def GW:=@PySem.F.slot_list_extend
def GX:=@PySem.F.type_list_extend
def GY:=@List.perm_ext_iff_of_nodup
namespace Wl
open Su56
variable{a a':Abs}{b l c y x k n:Nat}{f:Frame->Frame}{p:Int}{dn:Nat->Nat->Bool}{xs:List Int}
theorem iE(hb:b<a.bays)(hl:l<a.levels):a.place b l<a.n:=by
 unfold Abs.place Abs.n;calc l*a.bays+b<l*a.bays+a.bays:=by omega
  _=(l+1)*a.bays:=by rw[Nat.add_mul];omega
  _<=a.levels*a.bays:=Nat.mul_le_mul_right _ hl
  _=a.bays*a.levels:=pP _ _
theorem fe(hb:b<a.bays):a.bay (a.place b l)=b:=by
 unfold Abs.place Abs.bay;rw[pP,Nat.mul_add_mod];exact Nat.mod_eq_of_lt hb
theorem eQ(hb:b<a.bays):a.level (a.place b l)=l:=by
 unfold Abs.place Abs.level;rw[pP,Nat.mul_add_div (by omega),Nat.div_eq_of_lt hb];rfl
theorem lV(h:c<a.n):a.bay c<a.bays:=by
 unfold Abs.bay;apply Nat.mod_lt;unfold Abs.n at h;rcases Nat.eq_zero_or_pos a.bays with e|e
 ·rw[e]at h;omega
 ·exact e
theorem CO(h:c<a.n):a.level c<a.levels:=by
 unfold Abs.level;unfold Abs.n at h;exact Nat.div_lt_of_lt_mul h
theorem gy(c:Nat):a.place (a.bay c) (a.level c)=c:=by
 unfold Abs.place Abs.bay Abs.level;rw[pP];exact Nat.div_add_mod c a.bays
theorem ka{b' l':Nat}(hb:b<a.bays)(hb':b'<a.bays)(e:a.place b l=a.place b' l'):b=b'/\l=l':=by
 have h1:=dr a.bay e;have h2:=dr a.level e;rw[fe hb,fe hb']at h1;rw[eQ hb,eQ hb']at h2;exact⟨h1,h2⟩
theorem gF(hb:b<a.bays)(hl:l<a.levels):a.frame b l=a.at_ (a.place b l):=by
 unfold Abs.frame;rw[if_pos ⟨hb,hl⟩]
theorem nR(h:¬(b<a.bays/\l<a.levels)):a.frame b l=none_:=by
 unfold Abs.frame;rw[if_neg h]
theorem nX(h:c<a.n):a.at_ c=a.frame (a.bay c) (a.level c):=by
 rw[gF (lV h) (CO h),gy]
theorem az(h:a.there b l=true):b<a.bays/\l<a.levels:=by
 unfold Abs.there at h;by_cases q:b<a.bays/\l<a.levels
 ·exact q
 ·rw[nR q]at h;simp[none_]at h
theorem dc:a.there b l=true↔(a.frame b l).kind≠0:=by
 unfold Abs.there;simp
theorem oJ:a.there b l=false↔(a.frame b l).kind=0:=by
 unfold Abs.there;simp
theorem fJ:c∈a.all↔c<a.n/\a.there (a.bay c) (a.level c)=true:=by
 unfold Abs.all;rw[cV,fR];constructor
 ·rintro⟨h1,h2⟩;refine⟨h1,?_⟩;rw[dc,←nX h1];simpa using h2
 ·rintro⟨h1,h2⟩;refine⟨h1,?_⟩;rw[dc,←nX h1]at h2;simpa using h2
theorem jl(h:a.there b l=true):a.place b l∈a.all:=by
 obtain⟨hb,hl⟩:=az h;rw[fJ,fe hb,eQ hb];exact⟨iE hb hl,h⟩
theorem pM(a:Abs):a.all.Nodup:=by
 unfold Abs.all;exact List.Pairwise.filter _ List.nodup_range
section
variable{a:Abs}{b l:Nat}{f:Frame->Frame}
theorem zJ(hlen:a.frames.length=a.n)(hc:c<a.n):(a.set b l f).at_ c=if c=a.place b l then f (a.at_ c)else a.at_ c:=by
 unfold Abs.at_ Abs.set;rw[du,du];show((a.frames.modify (a.place b l) f)[c]?).getD none_=_;rw[List.getElem?_modify];have hc':c<a.frames.length:=by omega
 rw[aZ hc'];by_cases e:c=a.place b l
 ·rw[if_pos e];simp[e]
 ·rw[if_neg e];have e':¬a.place b l=c:=λz=>e z.symm;simp[e']
theorem fu(hlen:a.frames.length=a.n)(hb:b<a.bays)(hl:l<a.levels)(x y:Nat):
  (a.set b l f).frame x y=if x=b/\y=l then f (a.frame b l)else a.frame x y:=by
 by_cases q:x<a.bays/\y<a.levels
 ·have h1:(a.set b l f).frame x y=(a.set b l f).at_ (a.place x y):=gF (a:=a.set b l f) q.1 q.2;rw[h1,zJ hlen (iE q.1 q.2),gF hb hl,gF q.1 q.2];by_cases e:x=b/\y=l
  ·obtain⟨rfl,rfl⟩:=e;simp
  ·rw[if_neg e,if_neg];intro z;exact e (ka q.1 hb z)
 ·have h1:(a.set b l f).frame x y=none_:=nR (a:=a.set b l f) q;rw[h1,nR q,if_neg];rintro⟨rfl,rfl⟩;exact q ⟨hb,hl⟩
theorem vU:(a.set b l f).frames.length=a.frames.length:=by
 unfold Abs.set;simp
end
theorem xJ(a:Abs):∀n,(a.tower n).length=n
 |0=>rfl
 |n+1=>by show(_::a.tower n).length=_;rw[List.length_cons,xJ a n]
theorem yC(a:Abs):∀n i,i<n->n<=a.levels->(a.tower n).getD i []=a.carry (a.levels-n+i) ((a.tower n).getD (i+1) [])
 |0,i,h,_=>by omega
 |n+1,0,_,hl=>by
  show a.carry (a.levels-1-n) ((a.tower n).headD [])=a.carry (a.levels- (n+1)+0) ((a.tower n).getD 0 []);have e:a.levels-1-n=a.levels- (n+1)+0:=by omega
  have e2:(a.tower n).headD []=(a.tower n).getD 0 []:=by cases a.tower n<;>rfl
  rw[e,e2]
 |n+1,i+1,h,hl=>by
  show(a.tower n).getD i []=a.carry (a.levels- (n+1)+ (i+1)) ((a.tower n).getD (i+1) []);have e:a.levels- (n+1)+ (i+1)=a.levels-n+i:=by omega
  rw[e];exact yC a n i (by omega) (by omega)
theorem uo(hl:l<a.levels):a.loads.getD l []=a.carry l (a.loads.getD (l+1) []):=by
 have:=yC a a.levels l hl (aJ _);rw[Nat.sub_self,jL]at this;exact this
theorem sV(a:Abs):a.loads.length=a.levels:=xJ a _
theorem Ge(a:Abs)(l:Nat)(u:List Nat):(a.carry l u).length=a.bays:=by unfold Abs.carry;simp
theorem pF(hl:l<a.levels):(a.loads.getD l []).length=a.bays:=by rw[uo hl,Ge]
theorem oF(h:¬(b<a.bays/\l<a.levels)):a.load b l=0:=by
 unfold Abs.load;by_cases hl:l<a.levels
 ·have hb:a.bays<=b:=by omega
  rw[du,yO (by rw[pF hl];exact hb)];rfl
 ·rw[du (l:=a.loads),yO (by rw[sV];omega)];rfl
def own(a:Abs)(b l:Nat):Nat:=a.weight+ (a.frame b l).things+a.persons (a.place b l)
theorem lI(hb:b<a.bays)(hl:l<a.levels):a.load b l=if a.there b l=false then 0 else
  own a b l+ (if(a.frame b (l+1)).kind=1 then a.load b (l+1)else 0)+
  (if(a.frame (b+1) (l+1)).kind=2 then(a.load (b+1) (l+1)+1)/2 else 0)+
  (if 0<b/\(a.frame (b-1) (l+1)).kind=2 then a.load (b-1) (l+1)/2 else 0):=by
 show(a.loads.getD l []).getD b 0=_;rw[uo hl];unfold Abs.carry;rw[du,bY,yP hb];rfl
theorem rX(h:a.there b l=false):a.load b l=0:=by
 by_cases q:b<a.bays/\l<a.levels
 ·rw[lI q.1 q.2,if_pos h]
 ·exact oF q
theorem jb:a.safe=true↔(∀b l,b<a.bays->l<a.levels->a.load b l<=a.most)/\∀b,b<a.bays->a.load b 0<=a.soil.getD b 0:=by
 unfold Abs.safe;rw[dH,jc,jc];constructor
 ·rintro⟨h1,h2⟩;refine⟨λb l hb hl=>?_,λb hb=>?_⟩
  ·have hr:a.loads[l]?=some (a.loads.getD l []):=by
    rw[du,aZ (by rw[sV];exact hl)];rfl
   have h3:=h1 _ (cE hr);rw[jc]at h3;have hx:(a.loads.getD l [])[b]?=some (a.load b l):=by
    unfold Abs.load;rw[du (i:=b),aZ (by rw[pF hl];exact hb)];rfl
   simpa using h3 _ (cE hx)
  ·have:=h2 b (fR.mpr hb);simpa[Abs.load]using this
 ·rintro⟨h1,h2⟩;refine⟨λr hr=>?_,λb hb=>?_⟩
  ·obtain⟨l,hl⟩:=eV.mp hr;have hl':l<a.levels:=by
    rw[←sV a];exact(cX.mp hl).1
   rw[jc];intro x hx;obtain⟨b,hb⟩:=eV.mp hx;have er:a.loads.getD l []=r:=by rw[du,hl];rfl
   have hb':b<a.bays:=by
    rw[←pF hl',er];exact(cX.mp hb).1
   have:=h1 b l hb' hl';unfold Abs.load at this;rw[er,du,hb]at this;simpa using this
  ·have:=h2 b (fR.mp hb);simpa[Abs.load]using this
theorem ia:a.steady=true↔∀b l,a.there b l=true->a.high b l<=a.free:=by
 unfold Abs.steady;rw[jc];constructor
 ·intro h b l ht;have:=h _ (jl ht);rw[fe (az ht).1,eQ (az ht).1]at this;simpa using this
 ·intro h c hc;have:=h _ _ (fJ.mp hc).2;simpa using this
theorem xm(seen:List Nat):∀(ys w:List Nat) (y:Nat),y∈ys.foldl (λw y=>if seen.contains y||w.contains y then w else w++[y]) w↔y∈w∨(y∈ys/\y∉seen)
 | [],w,y=>by simp
 |z::ys,w,y=>by
  rw[pQ,xm seen ys _ y];by_cases h1:z∈seen
  ·have:(seen.contains z||w.contains z)=true:=by simp[h1]
   rw[if_pos this,a9];constructor
   ·rintro(h|h)
    ·exact .inl h
    ·exact .inr ⟨.inr h.1,h.2⟩
   ·rintro(h|⟨rfl|h,h'⟩)
    ·exact .inl h
    ·exact absurd h1 h'
    ·exact .inr ⟨h,h'⟩
  ·by_cases h2:z∈w
   ·have:(seen.contains z||w.contains z)=true:=by simp[h2]
    rw[if_pos this,a9];constructor
    ·rintro(h|h)
     ·exact .inl h
     ·exact .inr ⟨.inr h.1,h.2⟩
    ·rintro(h|⟨rfl|h,h'⟩)
     ·exact .inl h
     ·exact .inl h2
     ·exact .inr ⟨h,h'⟩
   ·have:¬(seen.contains z||w.contains z)=true:=by simp[h1,h2]
    rw[if_neg this,cK,cF,a9];constructor
    ·rintro((h|rfl)|h)
     ·exact .inl h
     ·exact .inr ⟨.inl rfl,h1⟩
     ·exact .inr ⟨.inr h.1,h.2⟩
    ·rintro(h|⟨rfl|h,h'⟩)
     ·exact .inl (.inl h)
     ·exact .inl (.inr rfl)
     ·exact .inr ⟨h,h'⟩
theorem wC(seen:List Nat):∀(ys w:List Nat),w.Nodup->(ys.foldl (λw y=>if seen.contains y||w.contains y then w else w++[y]) w).Nodup
 | [],w,h=>h
 |z::ys,w,h=>by
  rw[pQ];refine wC seen ys _ ?_;by_cases h2:(seen.contains z||w.contains z)=true
  ·rw[if_pos h2];exact h
  ·rw[if_neg h2];have:z∉w:=by
    intro q;apply h2;simp[q]
   rw[kQ];exact⟨h,by simp,by simp;intro x hx e;subst e;exact this hx⟩
theorem Ef{seen l:List Nat}:y∈a.wave seen l↔(∃x∈l,y∈a.steps x)/\y∉seen:=by
 unfold Abs.wave;rw[xm,List.mem_flatMap];simp
theorem CF(a:Abs)(seen l:List Nat):(a.wave seen l).Nodup:=wC _ _ _ (by simp)
def fK(a:Abs)(x:Nat):Nat->List Nat×List Nat
 |0=>([x],[x])
 |k+1=>((fK a x k).1++a.wave (fK a x k).1 (fK a x k).2,a.wave (fK a x k).1 (fK a x k).2)
def sn(a:Abs)(x k:Nat):List Nat:=(fK a x k).1
def wv(a:Abs)(x k:Nat):List Nat:=(fK a x k).2
theorem nV(a:Abs)(x k:Nat):sn a x (k+1)=sn a x k++wv a x (k+1):=rfl
theorem rg(a:Abs)(x k:Nat):wv a x (k+1)=a.wave (sn a x k) (wv a x k):=rfl
theorem ig:y∈wv a x (k+1)↔(∃z∈wv a x k,y∈a.steps z)/\y∉sn a x k:=by
 rw[rg,Ef]
theorem mi{a:Abs}{x y:Nat}:∀{k},y∈sn a x k↔∃i,i<=k/\y∈wv a x i
 |0=>by
  constructor
  ·intro h;exact⟨0,aJ _,h⟩
  ·rintro⟨i,hi,h⟩;obtain rfl:i=0:=by omega
   exact h
 |k+1=>by
  rw[nV,cK,mi (k:=k)];constructor
  ·rintro(⟨i,hi,h⟩|h)
   ·exact⟨i,by omega,h⟩
   ·exact⟨k+1,aJ _,h⟩
  ·rintro⟨i,hi,h⟩;by_cases e:i=k+1
   ·subst e;exact .inr h
   ·exact .inl ⟨i,by omega,h⟩
theorem Fs{i j:Nat}(hi:y∈wv a x i)(hj:y∈wv a x j):i=j:=by
 rcases yQ i j with h|h|h
 ·exfalso;obtain⟨k,rfl⟩:∃k,j=k+1:=⟨j-1,by omega⟩;exact(ig.mp hj).2 (mi.mpr ⟨i,by omega,hi⟩)
 ·exact h
 ·exfalso;obtain⟨k,rfl⟩:∃k,i=k+1:=⟨i-1,by omega⟩;exact(ig.mp hi).2 (mi.mpr ⟨j,by omega,hj⟩)
theorem zG(a:Abs)(x:Nat):∀k,(wv a x k).Nodup
 |0=>by simp[wv,fK]
 |k+1=>CF _ _ _
theorem vG(a:Abs)(x:Nat):∀k,(sn a x k).Nodup
 |0=>by simp[sn,fK]
 |k+1=>by
  rw[nV,kQ];refine⟨vG a x k,zG a x _,?_⟩;intro y hy z hz e;subst e;exact(ig.mp hz).2 hy
theorem Du(h:wv a x (k+1)≠[]):wv a x k≠[]:=by
 intro e;apply h;rw[rg,e];rfl
theorem xD(h:wv a x k=[]):∀j,k<=j->wv a x j=[]:=by
 intro j hj
 induction j with
 |zero=>
  obtain rfl:k=0:=by omega
  exact h
 |succ j ih=>
  by_cases e:k=j+1
  ·subst e;exact h
  ·rw[rg,ih (by omega)];rfl
theorem Fg(h:y∈a.steps x):y<=a.n:=by
 unfold Abs.steps at h;by_cases e:x=0
 ·rw[if_pos e,bh]at h;obtain⟨c,hc,rfl⟩:=h;have:=(fJ.mp (cV.mp hc).1).1;omega
 ·rw[if_neg e]at h;dsimp only at h;rw[cK,cK,cK]at h;have lad:∀{b l},(a.frame b l).ladder=true->b<a.bays/\l<a.levels:=by
   intro b l q;by_cases r:b<a.bays/\l<a.levels
   ·exact r
   ·rw[nR r]at q;simp[none_]at q
  rcases h with((h|h)|h)|h
  ·split at h
   ·rename_i q;obtain⟨hb,hl⟩:=lad q;rw[cF]at h;split at h
    ·omega
    ·have:=iE (a:=a) hb (l:=a.level (x-1)-1) (by omega);omega
   ·simp at h
  ·split at h
   ·rename_i q;rw[cF]at h;have:=iE (az q.2).1 (az q.2).2;omega
   ·simp at h
  ·split at h
   ·rename_i q;rw[cF]at h;have:=iE (az q).1 (az q).2;omega
   ·simp at h
  ·split at h
   ·rename_i q;rw[cF]at h;have:=iE (lad q).1 (lad q).2;omega
   ·simp at h
theorem xQ{a:Abs}{x:Nat}(hx:x<=a.n):∀{k y},y∈sn a x k->y<=a.n
 |0,y,h=>by simp[sn,fK]at h;omega
 |k+1,y,h=>by
  rw[nV,cK]at h;rcases h with h|h
  ·exact xQ hx h
  ·obtain⟨⟨z,_,hz⟩,_⟩:=ig.mp h;exact Fg hz
theorem jE:∀{l m:List Nat},l.Nodup->(∀x∈l,x∈m)->l.length<=m.length:=by
 intro l
 induction l with
 |nil=>intro m _ _;simp
 |cons x l ih=>
  intro m hn hs;have hx:x∈m:=hs x (by simp);obtain⟨h1,h2⟩:=cG.mp hn;have:=ih (m:=m.erase x) h2 λy hy=>by
   have:y≠x:=λe=>h1 (e▸hy);exact(List.mem_erase_of_ne this).mpr (hs y (by simp[hy]))
  rw[List.length_erase_of_mem hx]at this;have:0<m.length:=List.length_pos_of_mem hx;simp;omega
theorem zy(hx:x<=a.n)(k:Nat):(sn a x k).length<=a.n+1:=by
 have:=jE (m:=List.range (a.n+1)) (vG a x k) λy hy=>by
  have:=xQ hx hy;simp;omega
 simpa using this
theorem uW{a:Abs}{x:Nat}:∀{k},wv a x k≠[]->k+1<=(sn a x k).length
 |0,_=>by simp[sn,fK]
 |k+1,h=>by
  have:=uW (Du h);rw[nV,df];have:0<(wv a x (k+1)).length:=List.length_pos_iff.mpr h;omega
theorem uH(hx:x<=a.n)(h:wv a x k≠[]):k<=a.n:=by
 have h1:=uW h;have h2:=zy hx k;omega
theorem xl{a:Abs}{x goal j:Nat}(hj:goal∈wv a x j):∀f k,k<=j->j<k+f->a.walk goal f k (sn a x k) (wv a x k)=some j
 |0,k,h1,h2=>by omega
 |f+1,k,h1,h2=>by
  unfold Abs.walk;by_cases e:k=j
  ·subst e;rw[if_pos (by simpa using hj)]
  ·have hn:goal∉wv a x k:=λq=>e (Fs q hj);rw[if_neg (by simpa using hn)];have hne:wv a x k≠[]:=by
    intro z;have:=xD z j h1;rw[this]at hj;simp at hj
   rw[if_neg hne];exact xl hj f (k+1) (by omega) (by omega)
theorem sC{a:Abs}{x goal:Nat}(h:∀j,goal∉wv a x j):∀f k,a.walk goal f k (sn a x k) (wv a x k)=none
 |0,k=>rfl
 |f+1,k=>by
  unfold Abs.walk;rw[if_neg (by simpa using h k)];by_cases e:wv a x k=[]
  ·rw[if_pos e]
  ·rw[if_neg e];exact sC h f (k+1)
theorem j4(hx:x<=a.n):a.way x y=some k↔y∈wv a x k:=by
 have key:∀j,y∈wv a x j->a.way x y=some j:=λj hj=>by
  have hb:=uH hx (k:=j) (by intro e;rw[e]at hj;simp at hj);exact xl hj (a.n+2) 0 (by omega) (by omega)
 constructor
 ·intro h;by_cases q:∃j,y∈wv a x j
  ·obtain⟨j,hj⟩:=q;have:=key j hj;rw[h]at this;injection this with this;subst this;exact hj
  ·have:a.way x y=none:=sC (λj hj=>q ⟨j,hj⟩) (a.n+2) 0;rw[h]at this;cases this
 ·exact key k
theorem Dh(hx:x<=a.n):a.way x y=none↔∀k,y∉wv a x k:=by
 constructor
 ·intro h k hk;rw[(j4 hx).mpr hk]at h;cases h
 ·intro h;exact sC h (a.n+2) 0
inductive Reach(a:Abs)(x:Nat):Nat->Prop
 |refl:Reach a x x
 |step {y z:Nat}:Reach a x y->z∈a.steps y->Reach a x z
theorem yb:Reach a x y↔∃k,y∈wv a x k:=by
 constructor
 ·intro h
  induction h with
  |refl=>exact⟨0,by simp[wv,fK]⟩
  |@step y z _ hz ih=>
   obtain⟨k,hk⟩:=ih;by_cases q:z∈sn a x k
   ·obtain⟨i,_,hi⟩:=mi.mp q;exact⟨i,hi⟩
   ·exact⟨k+1,ig.mpr ⟨⟨y,hk,hz⟩,q⟩⟩
 ·rintro⟨k,hk⟩
  induction k generalizing y with
  |zero=>simp[wv,fK]at hk;subst hk;exact .refl
  |succ k ih=>
   obtain⟨⟨z,hz,hy⟩,_⟩:=ig.mp hk;exact .step (ih hz) hy
theorem Reach.trans{z:Nat}(h1:Reach a x y)(h2:Reach a y z):Reach a x z:=by
 induction h2 with
 |refl=>exact h1
 |step _ hz ih=>exact .step ih hz
structure gB(a:Abs):Prop where
 to:∀b l,(a.frame b l).ladder=true->a.there b l=true
 frm:∀b l,(a.frame b (l+1)).ladder=true->a.there b l=true
def bQ(a:Abs)(x:Nat):Prop:=x=0∨∃b l,a.there b l=true/\x=a.place b l+1
theorem bQ.le(h:bQ a x):x<=a.n:=by
 rcases h with rfl|⟨b,l,ht,rfl⟩
 ·omega
 ·have:=iE (az ht).1 (az ht).2;omega
theorem j8:y∈a.steps 0↔∃b,a.there b 0=true/\(a.frame b 0).ladder=true/\y=a.place b 0+1:=by
 unfold Abs.steps;rw[if_pos rfl,bh];constructor
 ·rintro⟨c,hc,rfl⟩;obtain⟨h1,h2⟩:=cV.mp hc;obtain⟨h3,h4⟩:=fJ.mp h1;simp only[dH,d9]at h2;obtain⟨h5,h6⟩:=h2;rw[nX h3,h5]at h6;rw[h5]at h4;refine⟨a.bay c,h4,h6,?_⟩;have:=gy (a:=a) c;rw[h5]at this;rw[this]
 ·rintro⟨b,ht,hl,rfl⟩;obtain⟨hb,hl0⟩:=az ht;refine⟨a.place b 0,cV.mpr ⟨jl ht,?_⟩,rfl⟩;rw[eQ hb,←gF hb hl0,hl];rfl
theorem eT(hb:b<a.bays):y∈a.steps (a.place b l+1)↔
  ((a.frame b l).ladder=true/\y=(if l=0 then 0 else a.place b (l-1)+1))∨(0<b/\a.there (b-1) l=true/\y=a.place (b-1) l+1)∨
  (a.there (b+1) l=true/\y=a.place (b+1) l+1)∨((a.frame b (l+1)).ladder=true/\y=a.place b (l+1)+1):=by
 unfold Abs.steps;rw[if_neg (by omega)];simp only[iw,fe hb,eQ hb,cK];have one:∀(p:Prop) [Decidable p] (z:Nat),(y∈if p then[z]else[])↔(p/\y=z):=by
  intro p _ z;by_cases h:p<;>simp[h]
 rw[one,one,one,one];constructor
 ·rintro(((h|h)|h)|h)
  ·exact .inl h
  ·exact .inr (.inl ⟨h.1.1,h.1.2,h.2⟩)
  ·exact .inr (.inr (.inl h))
  ·exact .inr (.inr (.inr h))
 ·rintro(h|h|h|h)
  ·exact .inl (.inl (.inl h))
  ·exact .inl (.inl (.inr ⟨⟨h.1,h.2.1⟩,h.2.2⟩))
  ·exact .inl (.inr h)
  ·exact .inr h
theorem wY(L:gB a)(hx:bQ a x)(h:y∈a.steps x):bQ a y:=by
 rcases hx with rfl|⟨b,l,ht,rfl⟩
 ·obtain⟨b,ht,_,rfl⟩:=j8.mp h;exact .inr ⟨b,0,ht,rfl⟩
 ·rcases(eT (az ht).1).mp h with⟨h1,rfl⟩|⟨h0,h1,rfl⟩|⟨h1,rfl⟩|⟨h1,rfl⟩
  ·by_cases e:l=0
   ·rw[if_pos e];exact .inl rfl
   ·rw[if_neg e];refine .inr ⟨b,l-1,L.frm b (l-1) ?_,rfl⟩;have:l-1+1=l:=by omega
    rw[this];exact h1
  ·exact .inr ⟨_,_,h1,rfl⟩
  ·exact .inr ⟨_,_,h1,rfl⟩
  ·exact .inr ⟨_,_,L.to _ _ h1,rfl⟩
theorem EN(hx:bQ a x)(h:y∈a.steps x):x∈a.steps y:=by
 rcases hx with rfl|⟨b,l,ht,rfl⟩
 ·obtain⟨b,ht,hl,rfl⟩:=j8.mp h;refine(eT (az ht).1).mpr (.inl ⟨hl,?_⟩);rw[if_pos rfl]
 ·have hb:=(az ht).1;rcases(eT hb).mp h with⟨h1,rfl⟩|⟨h0,h1,rfl⟩|⟨h1,rfl⟩|⟨h1,rfl⟩
  ·by_cases e:l=0
   ·subst e;rw[if_pos rfl];exact j8.mpr ⟨b,ht,h1,rfl⟩
   ·rw[if_neg e];have e1:l-1+1=l:=by omega
    refine(eT hb).mpr (.inr (.inr (.inr ?_)));rw[e1];exact⟨h1,rfl⟩
  ·have e1:b-1+1=b:=by omega
   refine(eT (az h1).1).mpr (.inr (.inr (.inl ?_)));rw[e1];exact⟨ht,rfl⟩
  ·refine(eT (az h1).1).mpr (.inr (.inl ?_));rw[iw];exact⟨by omega,ht,rfl⟩
  ·refine(eT hb).mpr (.inl ⟨h1,?_⟩);rw[if_neg (by omega),iw]
theorem Reach.node(L:gB a)(hx:bQ a x)(h:Reach a x y):bQ a y:=by
 induction h with
 |refl=>exact hx
 |step _ hz ih=>exact wY L ih hz
theorem Reach.symm(L:gB a)(hx:bQ a x)(h:Reach a x y):Reach a y x:=by
 induction h with
 |refl=>exact .refl
 |@step y z hy hz ih=>
  exact Reach.trans (.step .refl (EN (hy.node L hx) hz)) ih
theorem jT(hx:x<=a.n):(a.way x y).isSome=true↔Reach a x y:=by
 rw[yb];constructor
 ·intro h;obtain⟨k,hk⟩:=mQ.mp h;exact⟨k,(j4 hx).mp hk⟩
 ·rintro⟨k,hk⟩;rw[(j4 hx).mpr hk];rfl
theorem xk(L:gB a)(hx:bQ a x):(a.way x 0).isSome=(a.way 0 x).isSome:=by
 have h:(a.way x 0).isSome=true↔(a.way 0 x).isSome=true:=by
  rw[jT hx.le,jT (da _)];exact⟨λh=>h.symm L hx,λh=>h.symm L (.inl rfl)⟩
 cases e1:(a.way x 0).isSome<;>cases e2:(a.way 0 x).isSome<;>simp_all
structure Wf(a:Abs):Prop where
 b1:1<=a.bays
 b8:a.bays<=8
 l1:1<=a.levels
 l6:a.levels<=6
 w1:1<=a.weight
 w100:a.weight<=100
 m1:1<=a.most
 m500:a.most<=500
 f1:1<=a.free
 f4:a.free<=4
 flen:a.frames.length=a.n
 slen:a.soil.length=a.bays
 s10:∀x∈a.soil,x<=10000
 kind:∀b l,(a.frame b l).kind<=2
 non:∀b l,(a.frame b l).kind=0->a.frame b l=none_
 stands:∀b l,(a.frame b (l+1)).kind=1->a.there b l=true
 beam:∀b l,(a.frame b l).kind=2->0<b/\0<l/\a.there (b-1) (l-1)=true/\a.there (b+1) (l-1)=true
 lad:∀b l,(a.frame b (l+1)).ladder=true->a.there b l=true
 plen:a.people.length<=8
 pw:∀p∈a.people,1<=p.weight/\p.weight<=200
 pat:∀p∈a.people,bQ a p.at_
 down:∀p∈a.people,Reach a 0 p.at_
 safe:a.safe=true
 steady:a.steady=true
theorem Wf.lads(W:Wf a):gB a:=⟨λb l h=>by
 rw[dc];intro e;rw[W.non b l e]at h;simp[none_]at h,W.lad⟩
theorem Wf.load_le(W:Wf a)(b l:Nat):a.load b l<=a.most:=by
 by_cases q:b<a.bays/\l<a.levels
 ·exact(jb.mp W.safe).1 b l q.1 q.2
 ·rw[oF q];omega
structure Grows(a a':Abs):Prop where
 bays:a'.bays=a.bays
 levels:a'.levels=a.levels
 there:∀b l,a.there b l=true->a'.there b l=true
 lad:∀b l,(a.frame b l).ladder=true->(a'.frame b l).ladder=true
theorem Grows.place(g:Grows a a')(b l:Nat):a'.place b l=a.place b l:=by unfold Abs.place;rw[g.bays]
theorem Grows.node(g:Grows a a')(h:bQ a x):bQ a' x:=by
 rcases h with rfl|⟨b,l,ht,rfl⟩
 ·exact .inl rfl
 ·exact .inr ⟨b,l,g.there b l ht,by rw[g.place]⟩
theorem Grows.steps(g:Grows a a')(hx:bQ a x)(h:y∈a.steps x):y∈a'.steps x:=by
 rcases hx with rfl|⟨b,l,ht,rfl⟩
 ·obtain⟨b,h1,h2,rfl⟩:=j8.mp h;exact j8.mpr ⟨b,g.there _ _ h1,g.lad _ _ h2,by rw[g.place]⟩
 ·have hb:=(az ht).1;rw[←g.place];refine(eT (by rw[g.bays];exact hb)).mpr ?_;simp only[g.place];rcases(eT hb).mp h with⟨h1,h2⟩|⟨h0,h1,h2⟩|⟨h1,h2⟩|⟨h1,h2⟩
  ·exact .inl ⟨g.lad _ _ h1,h2⟩
  ·exact .inr (.inl ⟨h0,g.there _ _ h1,h2⟩)
  ·exact .inr (.inr (.inl ⟨g.there _ _ h1,h2⟩))
  ·exact .inr (.inr (.inr ⟨g.lad _ _ h1,h2⟩))
theorem Grows.reach(g:Grows a a')(L:gB a)(hx:bQ a x)(h:Reach a x y):Reach a' x y:=by
 induction h with
 |refl=>exact .refl
 |step hy hz ih=>exact .step ih (g.steps (hy.node L hx) hz)
theorem nO{a a':Abs}(hb:a'.bays=a.bays)(hl:a'.levels=a.levels)(hw:a'.weight=a.weight)
  (hk:∀b l,(a'.frame b l).kind=0∨(a'.frame b l).kind=(a.frame b l).kind)
  (ht:∀b l,a'.there b l=true->(a'.frame b l).things<=(a.frame b l).things)
  (hp:∀b l,a'.there b l=true->a'.persons (a'.place b l)<=a.persons (a.place b l)):∀k b l,a.levels<=l+k->a'.load b l<=a.load b l
 |0,b,l,h=>by rw[oF (a:=a') (by omega)];omega
 |k+1,b,l,h=>by
  by_cases q:b<a'.bays/\l<a'.levels
  ·rw[lI q.1 q.2,lI (a:=a) (by omega) (by omega)];by_cases r:a'.there b l=false
   ·rw[if_pos r];omega
   ·have r':a'.there b l=true:=by simpa using r
    have r2:a.there b l=true:=by
     rw[dc]at r'⊢;rcases hk b l with e|e
     ·exact absurd e r'
     ·rw[←e];exact r'
    rw[if_neg r,if_neg (show¬a.there b l=false by rw[r2];simp)];have h1:=nO hb hl hw hk ht hp k b (l+1) (by omega);have h2:=nO hb hl hw hk ht hp k (b+1) (l+1) (by omega);have h3:=nO hb hl hw hk ht hp k (b-1) (l+1) (by omega);have t:=ht b l r';have p:=hp b l r';have k1:=hk b (l+1);have k2:=hk (b+1) (l+1);have k3:=hk (b-1) (l+1);unfold own;have e1:(if(a'.frame b (l+1)).kind=1 then a'.load b (l+1)else 0)<=(if(a.frame b (l+1)).kind=1 then a.load b (l+1)else 0):=by
     rcases k1 with e|e
     ·rw[e];simp
     ·rw[e];split<;>omega
    have e2:(if(a'.frame (b+1) (l+1)).kind=2 then(a'.load (b+1) (l+1)+1)/2 else 0)<=(if(a.frame (b+1) (l+1)).kind=2 then(a.load (b+1) (l+1)+1)/2 else 0):=by
     rcases k2 with e|e
     ·rw[e];simp
     ·rw[e];split<;>omega
    have e3:(if 0<b/\(a'.frame (b-1) (l+1)).kind=2 then a'.load (b-1) (l+1)/2 else 0)<=(if 0<b/\(a.frame (b-1) (l+1)).kind=2 then a.load (b-1) (l+1)/2 else 0):=by
     rcases k3 with e|e
     ·rw[e];simp
     ·rw[e];split<;>omega
    omega
  ·rw[oF q];omega
theorem lR(hb:a'.bays=a.bays)(hl:a'.levels=a.levels)(hw:a'.weight=a.weight)(hm:a'.most=a.most)(hs:a'.soil=a.soil)
  (hk:∀b l,(a'.frame b l).kind=0∨(a'.frame b l).kind=(a.frame b l).kind)
  (ht:∀b l,a'.there b l=true->(a'.frame b l).things<=(a.frame b l).things)
  (hp:∀b l,a'.there b l=true->a'.persons (a'.place b l)<=a.persons (a.place b l)) (h:a.safe=true):a'.safe=true:=by
 obtain⟨h1,h2⟩:=jb.mp h;have m:=λb l=>nO hb hl hw hk ht hp a.levels b l (by omega);refine jb.mpr ⟨λb l q r=>?_,λb q=>?_⟩
 ·rw[hm];exact dw (m b l) (h1 b l (by omega) (by omega))
 ·rw[hs];exact dw (m b 0) (h2 b (by omega))
theorem pb{a a':Abs}(hk:∀b l,a'.there b l=true->(a'.frame b l).kind=(a.frame b l).kind)(ht:∀b l,a'.there b l=true->(a.frame b l).tie=true->(a'.frame b l).tie=true)
  (hs:∀b l,(a'.frame b (l+1)).kind=1->a'.there b l=true) (hbm:∀b l,(a'.frame b (l+1)).kind=2->a'.there (b-1) l=true/\a'.there (b+1) l=true) (h2:∀b l,(a'.frame b l).kind<=2):
  ∀l b,a'.there b l=true->a'.high b l<=a.high b l
 |0,b,h=>by
  unfold Abs.high;have:=ht b 0 h;cases e:(a.frame b 0).tie
  ·simp;split<;>omega
  ·rw[this e];simp
 |l+1,b,h=>by
  unfold Abs.high;have t:=ht b (l+1) h;have k:=hk b (l+1) h;have k2:=h2 b (l+1);have k0:=dc.mp h;cases e:(a'.frame b (l+1)).tie
  ·have e':(a.frame b (l+1)).tie=false:=by
    cases q:(a.frame b (l+1)).tie
    ·rfl
    ·rw[t q]at e;cases e
   rw[e'];simp only[eW,dC];rw[k]at k0 k2⊢;by_cases q:(a.frame b (l+1)).kind=2
   ·rw[if_pos q,if_pos q];obtain⟨u,v⟩:=hbm b l (by rw[k];exact q);have i1:=pb hk ht hs hbm h2 l (b-1) u;have i2:=pb hk ht hs hbm h2 l (b+1) v;omega
   ·rw[if_neg q,if_neg q];have:=pb hk ht hs hbm h2 l b (hs b l (by rw[k];omega));omega
  ·simp
def dZ(ps:List Person)(c:Nat):Nat:=((ps.filter λp=>p.at_==c+1).map Person.weight).sum
theorem iZ(p:Person)(ps:List Person)(c:Nat):dZ (p::ps) c=(if p.at_=c+1 then p.weight else 0)+dZ ps c:=by
 unfold dZ;rw[dA];by_cases e:p.at_=c+1
 ·rw[if_pos (by simpa using e),if_pos e];simp
 ·rw[if_neg (by simpa using e),if_neg e];simp
theorem vM(c:Nat):∀(ps:List Person) (i:Nat),dZ (ps.modify i λz=>{z with at_:=0}) c<=dZ ps c
 | [],i=>by cases i<;>simp
 |p::ps,0=>by
  rw[List.modify_zero_cons,iZ,iZ];simp
 |p::ps,i+1=>by
  rw[pR,iZ,iZ];have:=vM c ps i;omega
theorem vX(c w:Nat):∀ps:List Person,dZ (ps++[⟨w,0⟩]) c=dZ ps c
 | []=>by show dZ [⟨w,0⟩] c=_;rw[iZ];simp
 |p::ps=>by rw[yR,iZ,iZ,vX c w ps]
theorem md{α:Type}{l:List α}{i:Nat}{f:α->α}{x:α}(h:x∈l.modify i f):x∈l∨∃y,l[i]?=some y/\x=f y:=by
 obtain⟨j,hj⟩:=eV.mp h;rw[List.getElem?_modify]at hj;by_cases e:i=j
 ·subst e;cases q:l[i]? with
  |none=>rw[q]at hj;simp at hj
  |some y=>
   rw[q]at hj;simp at hj;exact .inr ⟨y,rfl,hj.symm⟩
 ·cases q:l[j]? with
  |none=>rw[q]at hj;simp at hj
  |some y=>
   rw[q]at hj;simp[e]at hj;subst hj;exact .inl (cE q)
theorem gu(hlen:a.frames.length=a.n)(hb:b<a.bays)(hl:l<a.levels)(x y:Nat):
  (a.set b l f).there x y=if x=b/\y=l then(f (a.frame b l)).kind != 0 else a.there x y:=by
 unfold Abs.there;rw[fu hlen hb hl];split<;>rfl
theorem iT:a.bearing b l=true↔(a.frame b (l+1)).kind=1∨(a.frame (b+1) (l+1)).kind=2∨(0<b/\(a.frame (b-1) (l+1)).kind=2):=by
 unfold Abs.bearing;simp
theorem ny(W:Wf a)(hb:b<a.bays)(hl:l<a.levels)
  (k2:(f (a.frame b l)).kind<=2) (kn:(f (a.frame b l)).kind=0->f (a.frame b l)=none_)
  (ks:(f (a.frame b l)).kind=1->0<l->a.there b (l-1)=true)
  (kb:(f (a.frame b l)).kind=2->0<b/\0<l/\a.there (b-1) (l-1)=true/\a.there (b+1) (l-1)=true)
  (kl:(f (a.frame b l)).ladder=true->0<l->a.there b (l-1)=true)
  (kp:(f (a.frame b l)).kind≠0∨(a.bearing b l=false/\(a.frame b (l+1)).ladder=false/\∀p∈a.people,p.at_≠a.place b l+1))
  (dn:∀p∈a.people,Reach (a.set b l f) 0 p.at_) (sf:(a.set b l f).safe=true) (sd:(a.set b l f).steady=true):Wf (a.set b l f):=by
 have fr:=fu (f:=f) W.flen hb hl;have th:=gu (f:=f) W.flen hb hl;have keep:∀x y,a.there x y=true->(x≠b∨y≠l∨(f (a.frame b l)).kind≠0)->(a.set b l f).there x y=true:=by
  intro x y h q;rw[th];split
  ·rename_i e;rcases q with q|q|q
   ·exact absurd e.1 q
   ·exact absurd e.2 q
   ·simpa using q
  ·exact h
 refine⟨W.b1,W.b8,W.l1,W.l6,W.w1,W.w100,W.m1,W.m500,W.f1,W.f4,by rw[vU];exact W.flen,W.slen,W.s10,?_,?_,?_,?_,?_,W.plen,W.pw,?_,dn,sf,sd⟩
 ·intro x y;rw[fr];split
  ·exact k2
  ·exact W.kind x y
 ·intro x y;rw[fr];split
  ·exact kn
  ·exact W.non x y
 ·intro x y;rw[fr];split
  ·rename_i e;obtain⟨rfl,e⟩:=e;intro h;have h1:=ks h (by omega);refine keep _ _ ?_ (.inr (.inl (by omega)));have:l-1=y:=by omega
   rw[←this];exact h1
  ·intro h;refine keep _ _ (W.stands x y h) ?_;rcases kp with q|⟨q,_⟩
   ·exact .inr (.inr q)
   ·by_cases e:x=b/\y=l
    ·exfalso;obtain⟨rfl,rfl⟩:=e;have:=iT (a:=a) (b:=x) (l:=y);rw[q]at this;simp[h]at this
    ·by_cases e1:x=b
     ·exact .inr (.inl λz=>e ⟨e1,z⟩)
     ·exact .inl e1
 ·intro x y;rw[fr];split
  ·rename_i e;obtain⟨rfl,rfl⟩:=e;intro h;obtain⟨h1,h2,h3,h4⟩:=kb h;exact⟨h1,h2,keep _ _ h3 (.inl (by omega)),keep _ _ h4 (.inl (by omega))⟩
  ·intro h;obtain⟨h1,h2,h3,h4⟩:=W.beam x y h;have ey:y-1+1=y:=by omega
   refine⟨h1,h2,keep _ _ h3 ?_,keep _ _ h4 ?_⟩
   ·rcases kp with q|⟨q,_⟩
    ·exact .inr (.inr q)
    ·by_cases e:x-1=b/\y-1=l
     ·exfalso;obtain⟨rfl,rfl⟩:=e;have:=iT (a:=a) (b:=x-1) (l:=y-1);rw[q,ey,show x-1+1=x by omega]at this;simp[h]at this
     ·by_cases e1:x-1=b
      ·exact .inr (.inl λz=>e ⟨e1,z⟩)
      ·exact .inl e1
   ·rcases kp with q|⟨q,_⟩
    ·exact .inr (.inr q)
    ·by_cases e:x+1=b/\y-1=l
     ·exfalso;obtain⟨rfl,rfl⟩:=e;have:=iT (a:=a) (b:=x+1) (l:=y-1);rw[q,ey,iw]at this;simp[h]at this
     ·by_cases e1:x+1=b
      ·exact .inr (.inl λz=>e ⟨e1,z⟩)
      ·exact .inl e1
 ·intro x y;rw[fr];split
  ·rename_i e;obtain⟨rfl,e⟩:=e;intro h;have h1:=kl h (by omega);refine keep _ _ ?_ (.inr (.inl (by omega)));have:l-1=y:=by omega
   rw[←this];exact h1
  ·intro h;refine keep _ _ (W.lad x y h) ?_;rcases kp with q|⟨_,q,_⟩
   ·exact .inr (.inr q)
   ·by_cases e:x=b/\y=l
    ·exfalso;obtain⟨rfl,rfl⟩:=e;rw[q]at h;cases h
    ·by_cases e1:x=b
     ·exact .inr (.inl λz=>e ⟨e1,z⟩)
     ·exact .inl e1
 ·intro p hp;rcases W.pat p hp with h|⟨x,y,h1,h2⟩
  ·exact .inl h
  ·refine .inr ⟨x,y,keep x y h1 ?_,h2⟩;rcases kp with q|⟨_,_,q⟩
   ·exact .inr (.inr q)
   ·by_cases e:x=b/\y=l
    ·exfalso;obtain⟨rfl,rfl⟩:=e;exact q p hp h2
    ·by_cases e1:x=b
     ·exact .inr (.inl λz=>e ⟨e1,z⟩)
     ·exact .inl e1
theorem xY(W:Wf a)(hb:b<a.bays)(hl:l<a.levels)
  (hk:(a.frame b l).kind≠0->(f (a.frame b l)).kind≠0) (hlad:(a.frame b l).ladder=true->(f (a.frame b l)).ladder=true):Grows a (a.set b l f):=by
 refine⟨rfl,rfl,λx y h=>?_,λx y h=>?_⟩
 ·rw[gu W.flen hb hl];split
  ·rename_i e;obtain⟨rfl,rfl⟩:=e;simpa using hk (dc.mp h)
  ·exact h
 ·rw[fu W.flen hb hl];split
  ·rename_i e;obtain⟨rfl,rfl⟩:=e;exact hlad h
  ·exact h
theorem Wf.grown(W:Wf a)(g:Grows a a'):∀p∈a.people,Reach a' 0 p.at_:=λp hp=>g.reach W.lads (.inl rfl) (W.down p hp)
theorem j5(W:Wf a)(hb:b<a.bays)(hl:l<a.levels)
  (hk:(f (a.frame b l)).kind=0∨(f (a.frame b l)).kind=(a.frame b l).kind) (ht:(f (a.frame b l)).things<=(a.frame b l).things):(a.set b l f).safe=true:=by
 refine lR (a:=a) rfl rfl rfl rfl rfl (λx y=>?_) (λx y _=>?_) (λx y _=>aJ _) W.safe
 ·rw[fu W.flen hb hl];split
  ·rename_i e;obtain⟨rfl,rfl⟩:=e;exact hk
  ·exact .inr rfl
 ·rw[fu W.flen hb hl];split
  ·rename_i e;obtain⟨rfl,rfl⟩:=e;exact ht
  ·exact aJ _
theorem kI(W:Wf a)(hb:b<a.bays)(hl:l<a.levels)
  (hk:(f (a.frame b l)).kind=(a.frame b l).kind∨((f (a.frame b l)).kind=0/\a.bearing b l=false)) (ht:(f (a.frame b l)).kind≠0->(a.frame b l).tie=true->(f (a.frame b l)).tie=true):(a.set b l f).steady=true:=by
 have fr:=fu (f:=f) W.flen hb hl;have th:=gu (f:=f) W.flen hb hl;have kk:∀x y,(a.set b l f).there x y=true->((a.set b l f).frame x y).kind=(a.frame x y).kind:=by
  intro x y h;rw[fr];split
  ·rename_i e;obtain⟨rfl,rfl⟩:=e;rcases hk with q|⟨q,_⟩
   ·exact q
   ·rw[th,if_pos ⟨rfl,rfl⟩,q]at h;simp at h
  ·rfl
 have ta:∀x y,(a.set b l f).there x y=true->a.there x y=true:=by
  intro x y h;have:=kk x y h;rw[dc]at h⊢;rw[←this];exact h
 have nob:a.bearing b l=false->¬((a.frame b (l+1)).kind=1∨(a.frame (b+1) (l+1)).kind=2∨(0<b/\(a.frame (b-1) (l+1)).kind=2)):=by
  intro q r;rw[iT.mpr r]at q;cases q
 refine ia.mpr λx y h=>dw (pb (a:=a) (a':=a.set b l f) kk ?_ ?_ ?_ ?_ y x h) (ia.mp W.steady x y (ta x y h))
 ·intro x y h t;rw[fr];split
  ·rename_i e;obtain⟨rfl,rfl⟩:=e;rw[th,if_pos ⟨rfl,rfl⟩]at h;exact ht (by simpa using h) t
  ·exact t
 ·intro x y h;have h':(a.set b l f).there x (y+1)=true:=by rw[dc,h];decide
  have h1:=kk x (y+1) h';rw[h]at h1;have h2:=W.stands x y h1.symm;rw[th];split
  ·rename_i e;obtain⟨rfl,rfl⟩:=e;rcases hk with q|⟨_,q⟩
   ·rw[q];simpa using dc.mp h2
   ·exact absurd (.inl h1.symm) (nob q)
  ·exact h2
 ·intro x y h;have h':(a.set b l f).there x (y+1)=true:=by rw[dc,h];decide
  have h1:=kk x (y+1) h';rw[h]at h1;obtain⟨g1,g2,g3,g4⟩:=W.beam x (y+1) h1.symm;rw[iw]at g3 g4;constructor
  ·rw[th];split
   ·rename_i e;obtain⟨rfl,rfl⟩:=e;rcases hk with q|⟨_,q⟩
    ·rw[q];simpa using dc.mp g3
    ·refine absurd (.inr (.inl ?_)) (nob q);rw[show x-1+1=x by omega];exact h1.symm
   ·exact g3
  ·rw[th];split
   ·rename_i e;obtain⟨rfl,rfl⟩:=e;rcases hk with q|⟨_,q⟩
    ·rw[q];simpa using dc.mp g4
    ·refine absurd (.inr (.inr ⟨by omega,?_⟩)) (nob q);rw[iw];exact h1.symm
   ·exact g4
 ·intro x y;rw[fr];split
  ·have:=W.kind b l;rcases hk with q|⟨q,_⟩<;>omega
  ·exact W.kind x y
theorem EJ:a.stuck=[]↔∀p∈a.people,(a.way p.at_ 0).isSome=true:=by
 unfold Abs.stuck;rw[List.filter_eq_nil_iff];constructor
 ·intro h p hp;obtain⟨i,hi⟩:=eV.mp hp;have hl:=(cX.mp hi).1;have:=h i (fR.mpr hl);rw[du,hi]at this;simpa[Gs]using this
 ·intro h i hi;have hl:=fR.mp hi;rw[du,aZ hl];have:=h _ (sY hl);simp[Gs]at this⊢;exact this
theorem xW(W:Wf a)(hb:b<a.bays)(hl:l<a.levels)(kl:(f (a.frame b l)).ladder=true->(f (a.frame b l)).kind≠0/\(0<l->a.there b (l-1)=true))
  (kp:(f (a.frame b l)).kind≠0∨(a.frame b (l+1)).ladder=false):gB (a.set b l f):=by
 have fr:=fu (f:=f) W.flen hb hl;have th:=gu (f:=f) W.flen hb hl;refine⟨λx y h=>?_,λx y h=>?_⟩
 ·rw[fr]at h;rw[th];split at h
  ·rename_i e;rw[if_pos e];simpa using(kl h).1
  ·rename_i e;rw[if_neg e];exact W.lads.to x y h
 ·rw[fr]at h;rw[th];split at h
  ·rename_i e;have h1:=(kl h).2 (by omega);rw[if_neg (by omega)];obtain⟨rfl,e⟩:=e;rw[show y=l-1 by omega];exact h1
  ·split
   ·rename_i e;obtain⟨rfl,rfl⟩:=e;rcases kp with q|q
    ·simpa using q
    ·rw[q]at h;cases h
   ·exact W.lad x y h
theorem uz(W:Wf a)(hb:b<a.bays)(hl:l<a.levels)(h:bQ a x)(k:(f (a.frame b l)).kind≠0∨x≠a.place b l+1):bQ (a.set b l f) x:=by
 rcases h with h|⟨u,v,h1,h2⟩
 ·exact .inl h
 ·refine .inr ⟨u,v,?_,h2⟩;rw[gu W.flen hb hl];split
  ·rename_i e;obtain⟨rfl,rfl⟩:=e;rcases k with k|k
   ·simpa using k
   ·exact absurd h2 k
  ·exact h1
theorem xH(L:gB a)(hn:∀p∈a.people,bQ a p.at_):a.stuck=[]↔∀p∈a.people,Reach a 0 p.at_:=by
 rw[EJ];constructor
 ·intro h p hp;exact((jT (hn p hp).le).mp (h p hp)).symm L (hn p hp)
 ·intro h p hp;exact(jT (hn p hp).le).mpr ((h p hp).symm L (.inl rfl))
theorem xo{w m f:Nat}(h:¬(b=0∨8<b∨l=0∨6<l∨w=0∨100<w∨m=0∨500<m∨f=0∨4<f)):Wf (begun b l w m f):=by
 have fr:∀x y,(begun b l w m f).frame x y=none_:=by
  intro x y;unfold Abs.frame Abs.at_ begun;split
  ·rw[du,yS];split<;>rfl
  ·rfl
 have th:∀x y,(begun b l w m f).there x y=false:=by
  intro x y;rw[oJ,fr];rfl
 have ld:∀x y,(begun b l w m f).load x y=0:=λx y=>rX (th x y);simp only[dI]at h;refine⟨by show 1<=b;omega,by show b<=8;omega,by show 1<=l;omega,by show l<=6;omega,by show 1<=w;omega,by show w<=100;omega,by show 1<=m;omega,by show m<=500;omega,by show 1<=f;omega,by show f<=4;omega,?_,?_,?_,?_,?_,?_,?_,?_,?_,?_,?_,?_,?_,?_⟩
 ·simp[begun,Abs.n]
 ·simp[begun]
 ·intro x hx;have:=List.eq_of_mem_replicate hx;rw[this];decide
 ·intro x y;rw[fr];decide
 ·intro x y _;exact fr x y
 ·intro x y h;rw[fr]at h;cases h
 ·intro x y h;rw[fr]at h;cases h
 ·intro x y h;rw[fr]at h;cases h
 ·simp[begun]
 ·intro p hp;simp[begun]at hp
 ·intro p hp;simp[begun]at hp
 ·intro p hp;simp[begun]at hp
 ·refine jb.mpr ⟨λx y _ _=>?_,λx _=>?_⟩
  ·rw[ld];omega
  ·rw[ld];omega
 ·refine ia.mpr λx y h=>?_;rw[th]at h;cases h
theorem vf(W:Wf a)(hb:b<a.bays)(hl:l<a.levels)(hn:a.there b l=false)(hk:k=1∨k=2)(k1:k=1->0<l->a.there b (l-1)=true)
  (k2:k=2->0<b/\0<l/\a.there (b-1) (l-1)=true/\a.there (b+1) (l-1)=true) (sf:(a.raised b l k).safe=true) (sd:(a.raised b l k).steady=true):Wf (a.raised b l k):=by
 have g:Grows a (a.raised b l k):=xY W hb hl (λh=>absurd (oJ.mp hn) h) (λh=>by
  rw[W.non b l (oJ.mp hn)]at h;simp[none_]at h)
 refine ny W hb hl (by show k<=2;omega) (λh=>?_) k1 k2 (λh=>by cases h) (.inl (by show k≠0;omega)) (W.grown g) sf sd;have h':k=0:=h;omega
theorem u6(W:Wf a){ps:List Person}(h8:ps.length<=8)(hw:∀p∈ps,1<=p.weight/\p.weight<=200)(hn:∀p∈ps,bQ a p.at_)(hd:∀p∈ps,Reach a 0 p.at_)(hs:({a with people:=ps}:Abs).safe=true):
  Wf {a with people:=ps}:=by
 have g:Grows a {a with people:=ps}:=⟨rfl,rfl,λ_ _ h=>h,λ_ _ h=>h⟩;refine⟨W.b1,W.b8,W.l1,W.l6,W.w1,W.w100,W.m1,W.m500,W.f1,W.f4,W.flen,W.slen,W.s10,W.kind,W.non,W.stands,W.beam,W.lad,h8,hw,λp hp=>g.node (hn p hp),λp hp=>g.reach W.lads (.inl rfl) (hd p hp),hs,?_⟩;refine ia.mpr λb l h=>?_;have e:∀l b,({a with people:=ps}:Abs).high b l=a.high b l:=by
  intro l
  induction l with
  |zero=>intro b;rfl
  |succ l ih=>
   intro b;unfold Abs.high;rw[ih,ih,ih];rfl
 rw[e];exact ia.mp W.steady b l h
theorem Aj(W:Wf a)(hn:n<=10000)(hs:({a with soil:=a.soil.set b n}:Abs).safe=true):Wf {a with soil:=a.soil.set b n}:=by
 have g:Grows a {a with soil:=a.soil.set b n}:=⟨rfl,rfl,λ_ _ h=>h,λ_ _ h=>h⟩;refine⟨W.b1,W.b8,W.l1,W.l6,W.w1,W.w100,W.m1,W.m500,W.f1,W.f4,W.flen,by rw[List.length_set];exact W.slen,λx hx=>?_,W.kind,W.non,W.stands,W.beam,W.lad,W.plen,W.pw,λp hp=>g.node (W.pat p hp),λp hp=>g.reach W.lads (.inl rfl) (W.down p hp),hs,?_⟩
 ·rcases Gu hx with h|h
  ·exact W.s10 x h
  ·omega
 refine ia.mpr λx y h=>?_;have e:∀l b',({a with soil:=a.soil.set b n}:Abs).high b' l=a.high b' l:=by
  intro l
  induction l with
  |zero=>intro b;rfl
  |succ l ih=>
   intro b;unfold Abs.high;rw[ih,ih,ih];rfl
 rw[e];exact ia.mp W.steady x y h
theorem gz(h:¬a.there b l=false):a.there b l=true:=by simpa using h
theorem pC{c:Nat}:∀{ps:List Person},(∀p∈ps,1<=p.weight)->(dZ ps c=0↔∀p∈ps,p.at_≠c+1)
 | [],_=>by simp[dZ]
 |p::ps,h=>by
  rw[iZ];have ih:=pC (c:=c) (ps:=ps) λq hq=>h q (by simp[hq]);have h1:=h p (by simp);constructor
  ·intro e q hq;rcases a9.mp hq with rfl|hq
   ·intro z;rw[if_pos z]at e;omega
   ·exact ih.mp (by omega) q hq
  ·intro e;rw[if_neg (e p (by simp)),ih.mpr λq hq=>e q (by simp[hq])]
theorem Ap(W:Wf a)(ht:a.there b l=true)(h:a.strips b l=true):Wf (a.set b l λ_=>none_):=by
 obtain⟨hb,hl⟩:=az ht;unfold Abs.strips at h;rw[dH,d9,d9]at h;obtain⟨h1,h2⟩:=h;unfold Abs.takes at h1;split at h1
 ·cases h1
 rename_i n1;split at h1
 ·cases h1
 rename_i n2;split at h1
 ·cases h1
 rename_i n3;split at h1
 ·cases h1
 rename_i n4;have nb:a.bearing b l=false:=by simpa using n1
 have nl:(a.frame b (l+1)).ladder=false:=by
  simp only[dI]at n4;simpa using n4.2
 have np:∀p∈a.people,p.at_≠a.place b l+1:=by
  simp only[dI,Decidable.not_not]at n2;exact(pC λp hp=>(W.pw p hp).1).mp n2.2
 have L:gB (a.set b l λ_=>none_):=xW W hb hl (λh=>by cases h) (.inr nl);refine ny W hb hl (by decide) (λ_=>rfl) (λh=>by cases h) (λh=>by cases h) (λh=>by cases h) (.inr ⟨nb,nl,np⟩) ?_ ?_ ?_
 ·exact(xH L λp hp=>uz W hb hl (W.pat p hp) (.inr (np p hp))).mp h2
 ·exact j5 W hb hl (.inl rfl) (da _)
 ·exact kI W hb hl (.inr ⟨rfl,nb⟩) λh=>absurd rfl h
theorem EF(W:Wf a)(ht:a.there b l=true)(h:(a.set b l λx=>{x with ladder:=false}).stuck=[]):Wf (a.set b l λx=>{x with ladder:=false}):=by
 obtain⟨hb,hl⟩:=az ht;have kn:=dc.mp ht;have L:gB (a.set b l λx=>{x with ladder:=false}):=xW W hb hl (λh=>by cases h) (.inl kn);refine ny W hb hl (W.kind b l) (λh=>absurd h kn) (λh z=>?_) (W.beam b l) (λh=>by cases h) (.inl kn) ?_ ?_ ?_
 ·have:l-1+1=l:=by omega
  exact W.stands b (l-1) (by rw[this];exact h)
 ·exact(xH L λp hp=>uz W hb hl (W.pat p hp) (.inl kn)).mp h
 ·exact j5 W hb hl (.inr rfl) (aJ _)
 ·exact kI W hb hl (.inl rfl) λ_ h=>h
theorem lO(W:Wf a)(ht:a.there b l=true)(hk:(f (a.frame b l)).kind=(a.frame b l).kind)(hlad:(a.frame b l).ladder=true->(f (a.frame b l)).ladder=true)
  (hl2:(f (a.frame b l)).ladder=true->0<l->a.there b (l-1)=true) (sf:(a.set b l f).safe=true) (sd:(a.set b l f).steady=true):Wf (a.set b l f):=by
 obtain⟨hb,hl⟩:=az ht;have kn:=dc.mp ht;have g:Grows a (a.set b l f):=xY W hb hl (λ_=>by rw[hk];exact kn) hlad;refine ny W hb hl (by rw[hk];exact W.kind b l) (λh=>?_) (λh z=>?_) (λh=>?_) hl2 (.inl (by rw[hk];exact kn)) (W.grown g) sf sd
 ·rw[hk]at h;exact absurd h kn
 ·rw[hk]at h;have:l-1+1=l:=by omega
  exact W.stands b (l-1) (by rw[this];exact h)
 ·rw[hk]at h;exact W.beam b l h
theorem oT(W:Wf a)(h:(a.frame b l).ladder=true)(z:0<l):a.there b (l-1)=true:=by
 have:l-1+1=l:=by omega
 exact W.lad b (l-1) (by rw[this];exact h)
theorem yH(W:Wf a){p:Nat}(hx:bQ a x)(hr:Reach a 0 x)(hs:(a.moved p x).safe=true):Wf (a.moved p x):=by
 refine u6 W (ps:=a.people.modify p λz=>{z with at_:=x}) (by rw[List.length_modify];exact W.plen) (λq hq=>?_) (λq hq=>?_) (λq hq=>?_) hs
 ·rcases md hq with h|⟨y,h,rfl⟩
  ·exact W.pw q h
  ·exact W.pw y (cE h)
 ·rcases md hq with h|⟨y,h,rfl⟩
  ·exact W.pat q h
  ·exact hx
 ·rcases md hq with h|⟨y,h,rfl⟩
  ·exact W.down q h
  ·exact hr
theorem jF{p:Nat}(h:p<a.people.length):a.person p∈a.people:=by
 unfold Abs.person;rw[du,aZ h];exact sY h
theorem Bo(W:Wf a)(c:Call):Wf (does a c).1:=by
 cases c with
 |begin_ b l w m f=>
  rw[does];split
  ·exact W
  ·rename_i h;exact xo h
 |soil b n=>
  rw[does];split
  ·exact W
  ·rename_i h;dsimp only;split
   ·exact W
   ·rename_i h2;exact Aj W (by have h':¬(a.bays<=b∨10000<n):=h;omega) (by simpa using h2)
 |put b l=>
  rw[does];split
  ·exact W
  rename_i h1;split
  ·exact W
  rename_i h2;split
  ·exact W
  rename_i h3;unfold Abs.tries;split
  ·exact W
  rename_i h4;split
  ·exact W
  rename_i h5;simp[Abs.isAt]at h1;refine vf W h1.1 h1.2 (by simpa using h2) (.inl rfl) (λ_ z=>?_) (λh=>by cases h) (by simpa using h5) (by simpa using h4);have:=not_and.mp h3 z;simpa using this
 |span b l=>
  rw[does];split
  ·exact W
  rename_i h1;split
  ·exact W
  rename_i h2;split
  ·exact W
  rename_i h3;unfold Abs.tries;split
  ·exact W
  rename_i h4;split
  ·exact W
  rename_i h5;simp only[Abs.isAt,dI]at h1;have h1a:b<a.bays/\l<a.levels:=by simpa using h1.1
  simp only[dI]at h3;obtain⟨q1,q2,q3,q4⟩:=h3;refine vf W h1a.1 h1a.2 (by simpa using h2) (.inr rfl) (λh=>by cases h) (λ_=>⟨by omega,by omega,gz q3,gz q4⟩) (by simpa using h5) (by simpa using h4)
 |take b l=>
  rw[does];split
  ·exact W
  rename_i h1;split
  ·exact W
  split
  ·exact W
  rename_i h3;simp only[dI]at h1;exact Ap W (gz h1.2) (by simpa using h3)
 |tie b l=>
  rw[does];split
  ·exact W
  rename_i h1;split
  ·exact W
  have ht:=gz h1;obtain⟨hb,hl⟩:=az ht;exact lO W (f:=λx=>{x with tie:=true}) ht rfl (λh=>h) (λh z=>oT W h z) (j5 W hb hl (.inr rfl) (aJ _)) (kI W hb hl (.inl rfl) λ_ _=>rfl)
 |untie b l=>
  rw[does];split
  ·exact W
  rename_i h1;split
  ·exact W
  dsimp only;split
  ·exact W
  rename_i h2;have ht:=gz h1;obtain⟨hb,hl⟩:=az ht;exact lO W (f:=λx=>{x with tie:=false}) ht rfl (λh=>h) (λh z=>oT W h z) (j5 W hb hl (.inr rfl) (aJ _)) (by simpa using h2)
 |load b l n=>
  rw[does];split
  ·exact W
  rename_i h1;split
  ·exact W
  dsimp only;split
  ·exact W
  rename_i h2;have ht:=gz h1;obtain⟨hb,hl⟩:=az ht;exact lO W (f:=λx=>{x with things:=x.things+n}) ht rfl (λh=>h) (λh z=>oT W h z) (by simpa using h2) (kI W hb hl (.inl rfl) λ_ h=>h)
 |unload b l n=>
  rw[does];split
  ·exact W
  rename_i h1;split
  ·exact W
  split
  ·exact W
  have ht:=gz h1;obtain⟨hb,hl⟩:=az ht;exact lO W (f:=λx=>{x with things:=x.things-n}) ht rfl (λh=>h) (λh z=>oT W h z) (j5 W hb hl (.inr rfl) (Nat.sub_le _ _)) (kI W hb hl (.inl rfl) λ_ h=>h)
 |ladder b l=>
  rw[does];split
  ·exact W
  rename_i h1;split
  ·exact W
  split
  ·exact W
  rename_i h2;have ht:=gz h1;obtain⟨hb,hl⟩:=az ht;refine lO W (f:=λx=>{x with ladder:=true}) ht rfl (λ_=>rfl) (λh z=>?_) (j5 W hb hl (.inr rfl) (aJ _)) (kI W hb hl (.inl rfl) λ_ h=>h);exact gz (not_and.mp h2 z)
 |noladder b l=>
  rw[does];split
  ·exact W
  rename_i h1;split
  ·exact W
  dsimp only;split
  ·exact W
  rename_i h2;exact EF W (gz h1) (by simpa using h2)
 |come w=>
  rw[does];split
  ·exact W
  rename_i h1;split
  ·exact W
  rename_i h2;have hs:({a with people:=a.people++[⟨w,0⟩]}:Abs).safe=true:=by
   refine lR (a:=a) rfl rfl rfl rfl rfl (λ_ _=>.inr rfl) (λ_ _ _=>aJ _) (λx y _=>?_) W.safe;exact pS (vX _ w a.people)
  refine u6 W (ps:=a.people++[⟨w,0⟩]) (by simp[PEOPLE]at h1⊢;omega) (λq hq=>?_) (λq hq=>?_) (λq hq=>?_) hs
  ·rcases cK.mp hq with h|h
   ·exact W.pw q h
   ·rw[cF]at h;subst h;simp only[dI]at h2;exact⟨by show 1<=w;omega,by show w<=200;omega⟩
  ·rcases cK.mp hq with h|h
   ·exact W.pat q h
   ·rw[cF]at h;subst h;exact .inl rfl
  ·rcases cK.mp hq with h|h
   ·exact W.down q h
   ·rw[cF]at h;subst h;exact .refl
 |go p b l=>
  rw[does];split
  ·exact W
  rename_i h1;split
  ·exact W
  split
  ·exact W
  rename_i k hk;dsimp only;split
  ·exact W
  rename_i h2;simp only[dI]at h1;have ht:=gz h1.2;have hp:p<a.people.length:=by simpa[Abs.isP]using h1.1
  have hm:=jF hp;refine yH W (.inr ⟨b,l,ht,rfl⟩) ?_ (by simpa using h2);exact(W.down _ hm).trans ((jT (W.pat _ hm).le).mp (by rw[hk];rfl))
 |down p=>
  rw[does];split
  ·exact W
  split
  ·exact W
  refine yH W (.inl rfl) .refl ?_;refine lR (a:=a) rfl rfl rfl rfl rfl (λ_ _=>.inr rfl) (λ_ _ _=>aJ _) (λx y _=>?_) W.safe;exact vM _ a.people p
 |bears b l=>rw[does];split<;>exact W
 |feet=>exact W
 |room b l=>rw[does];split<;>exact W
 |high b l=>rw[does];split<;>exact W
 |way p b l=>
  rw[does];split
  ·exact W
  ·split<;>exact W
 |strip=>exact W
 |loose=>exact W
 |reached=>exact W
 |cut b l=>
  rw[does];split
  ·exact W
  ·split<;>exact W
 |most=>
  rw[does];split<;>exact W
 |look b l=>rw[does];split<;>exact W
 |where_ p=>
  rw[does];split
  ·exact W
  ·split<;>exact W
 |sums=>exact W
 |state=>exact W
structure Sf(a:Abs):Prop where
 b1:1<=a.bays
 b8:a.bays<=8
 l1:1<=a.levels
 l6:a.levels<=6
 w1:1<=a.weight
 w100:a.weight<=100
 m1:1<=a.most
 m500:a.most<=500
 f1:1<=a.free
 f4:a.free<=4
 flen:a.frames.length=a.n
 slen:a.soil.length=a.bays
 s10:∀x∈a.soil,x<=10000
 kind:∀b l,(a.frame b l).kind<=2
 non:∀b l,(a.frame b l).kind=0->a.frame b l=none_
 stands:∀b l,(a.frame b (l+1)).kind=1->a.there b l=true
 beam:∀b l,(a.frame b l).kind=2->0<b/\0<l/\a.there (b-1) (l-1)=true/\a.there (b+1) (l-1)=true
 lad:∀b l,(a.frame b (l+1)).ladder=true->a.there b l=true
 plen:a.people.length<=8
 pw:∀p∈a.people,1<=p.weight/\p.weight<=200
 pat:∀p∈a.people,bQ a p.at_
theorem Wf.sf(W:Wf a):Sf a:=⟨W.b1,W.b8,W.l1,W.l6,W.w1,W.w100,W.m1,W.m500,W.f1,W.f4,W.flen,W.slen,W.s10,W.kind,W.non,W.stands,W.beam,W.lad,W.plen,W.pw,W.pat⟩
theorem Sf.lads(W:Sf a):gB a:=⟨λb l h=>by
 rw[dc];intro e;rw[W.non b l e]at h;simp[none_]at h,W.lad⟩
theorem D5(W:Sf a){ps:List Person}(h8:ps.length<=8)(hw:∀p∈ps,1<=p.weight/\p.weight<=200)(hn:∀p∈ps,bQ a p.at_):Sf {a with people:=ps}:=by
 have g:Grows a {a with people:=ps}:=⟨rfl,rfl,λ_ _ h=>h,λ_ _ h=>h⟩;exact⟨W.b1,W.b8,W.l1,W.l6,W.w1,W.w100,W.m1,W.m500,W.f1,W.f4,W.flen,W.slen,W.s10,W.kind,W.non,W.stands,W.beam,W.lad,h8,hw,λp hp=>g.node (hn p hp)⟩
theorem FH(W:Sf a)(hn:n<=10000):Sf {a with soil:=a.soil.set b n}:=by
 have g:Grows a {a with soil:=a.soil.set b n}:=⟨rfl,rfl,λ_ _ h=>h,λ_ _ h=>h⟩;refine⟨W.b1,W.b8,W.l1,W.l6,W.w1,W.w100,W.m1,W.m500,W.f1,W.f4,W.flen,by rw[List.length_set];exact W.slen,λx hx=>?_,W.kind,W.non,W.stands,W.beam,W.lad,W.plen,W.pw,λp hp=>g.node (W.pat p hp)⟩;rcases Gu hx with h|h
 ·exact W.s10 x h
 ·omega
theorem rS(W:Sf a)(hb:b<a.bays)(hl:l<a.levels)
  (k2:(f (a.frame b l)).kind<=2) (kn:(f (a.frame b l)).kind=0->f (a.frame b l)=none_)
  (ks:(f (a.frame b l)).kind=1->0<l->a.there b (l-1)=true)
  (kb:(f (a.frame b l)).kind=2->0<b/\0<l/\a.there (b-1) (l-1)=true/\a.there (b+1) (l-1)=true)
  (kl:(f (a.frame b l)).ladder=true->0<l->a.there b (l-1)=true)
  (kp:(f (a.frame b l)).kind≠0∨(a.bearing b l=false/\(a.frame b (l+1)).ladder=false/\∀p∈a.people,p.at_≠a.place b l+1))
  :Sf (a.set b l f):=by
 have fr:=fu (f:=f) W.flen hb hl;have th:=gu (f:=f) W.flen hb hl;have keep:∀x y,a.there x y=true->(x≠b∨y≠l∨(f (a.frame b l)).kind≠0)->(a.set b l f).there x y=true:=by
  intro x y h q;rw[th];split
  ·rename_i e;rcases q with q|q|q
   ·exact absurd e.1 q
   ·exact absurd e.2 q
   ·simpa using q
  ·exact h
 refine⟨W.b1,W.b8,W.l1,W.l6,W.w1,W.w100,W.m1,W.m500,W.f1,W.f4,by rw[vU];exact W.flen,W.slen,W.s10,?_,?_,?_,?_,?_,W.plen,W.pw,?_⟩
 ·intro x y;rw[fr];split
  ·exact k2
  ·exact W.kind x y
 ·intro x y;rw[fr];split
  ·exact kn
  ·exact W.non x y
 ·intro x y;rw[fr];split
  ·rename_i e;obtain⟨rfl,e⟩:=e;intro h;have h1:=ks h (by omega);refine keep _ _ ?_ (.inr (.inl (by omega)));have:l-1=y:=by omega
   rw[←this];exact h1
  ·intro h;refine keep _ _ (W.stands x y h) ?_;rcases kp with q|⟨q,_⟩
   ·exact .inr (.inr q)
   ·by_cases e:x=b/\y=l
    ·exfalso;obtain⟨rfl,rfl⟩:=e;have:=iT (a:=a) (b:=x) (l:=y);rw[q]at this;simp[h]at this
    ·by_cases e1:x=b
     ·exact .inr (.inl λz=>e ⟨e1,z⟩)
     ·exact .inl e1
 ·intro x y;rw[fr];split
  ·rename_i e;obtain⟨rfl,rfl⟩:=e;intro h;obtain⟨h1,h2,h3,h4⟩:=kb h;exact⟨h1,h2,keep _ _ h3 (.inl (by omega)),keep _ _ h4 (.inl (by omega))⟩
  ·intro h;obtain⟨h1,h2,h3,h4⟩:=W.beam x y h;have ey:y-1+1=y:=by omega
   refine⟨h1,h2,keep _ _ h3 ?_,keep _ _ h4 ?_⟩
   ·rcases kp with q|⟨q,_⟩
    ·exact .inr (.inr q)
    ·by_cases e:x-1=b/\y-1=l
     ·exfalso;obtain⟨rfl,rfl⟩:=e;have:=iT (a:=a) (b:=x-1) (l:=y-1);rw[q,ey,show x-1+1=x by omega]at this;simp[h]at this
     ·by_cases e1:x-1=b
      ·exact .inr (.inl λz=>e ⟨e1,z⟩)
      ·exact .inl e1
   ·rcases kp with q|⟨q,_⟩
    ·exact .inr (.inr q)
    ·by_cases e:x+1=b/\y-1=l
     ·exfalso;obtain⟨rfl,rfl⟩:=e;have:=iT (a:=a) (b:=x+1) (l:=y-1);rw[q,ey,iw]at this;simp[h]at this
     ·by_cases e1:x+1=b
      ·exact .inr (.inl λz=>e ⟨e1,z⟩)
      ·exact .inl e1
 ·intro x y;rw[fr];split
  ·rename_i e;obtain⟨rfl,e⟩:=e;intro h;have h1:=kl h (by omega);refine keep _ _ ?_ (.inr (.inl (by omega)));have:l-1=y:=by omega
   rw[←this];exact h1
  ·intro h;refine keep _ _ (W.lad x y h) ?_;rcases kp with q|⟨_,q,_⟩
   ·exact .inr (.inr q)
   ·by_cases e:x=b/\y=l
    ·exfalso;obtain⟨rfl,rfl⟩:=e;rw[q]at h;cases h
    ·by_cases e1:x=b
     ·exact .inr (.inl λz=>e ⟨e1,z⟩)
     ·exact .inl e1
 ·intro p hp;rcases W.pat p hp with h|⟨x,y,h1,h2⟩
  ·exact .inl h
  ·refine .inr ⟨x,y,keep x y h1 ?_,h2⟩;rcases kp with q|⟨_,_,q⟩
   ·exact .inr (.inr q)
   ·by_cases e:x=b/\y=l
    ·exfalso;obtain⟨rfl,rfl⟩:=e;exact q p hp h2
    ·by_cases e1:x=b
     ·exact .inr (.inl λz=>e ⟨e1,z⟩)
     ·exact .inl e1
def part(a:Abs)(dn:Nat->Nat->Bool)(b l:Nat):Nat:=own a b l+
  (if(a.frame b (l+1)).kind=1/\dn b (l+1)=true then a.load b (l+1)else 0)+
  (if(a.frame (b+1) (l+1)).kind=2/\dn (b+1) (l+1)=true then(a.load (b+1) (l+1)+1)/2 else 0)+
  (if(0<b/\(a.frame (b-1) (l+1)).kind=2)/\dn (b-1) (l+1)=true then a.load (b-1) (l+1)/2 else 0)
theorem Bi(h:∀b l,dn b l=false)(b l:Nat):part a dn b l=own a b l:=by
 unfold part;rw[h,h,h];simp
theorem vw(ht:a.there b l=true)(h:∀x,a.there x (l+1)=true->dn x (l+1)=true):part a dn b l=a.load b l:=by
 have hb:=az ht;rw[lI hb.1 hb.2,if_neg (by rw[ht];simp)];unfold part;have q:∀x k,k≠0->((a.frame x (l+1)).kind=k/\dn x (l+1)=true↔(a.frame x (l+1)).kind=k):=λx k hk=>⟨λz=>z.1,λz=>⟨z,h x (dc.mpr (by omega))⟩⟩;have q3:((0<b/\(a.frame (b-1) (l+1)).kind=2)/\dn (b-1) (l+1)=true↔(0<b/\(a.frame (b-1) (l+1)).kind=2)):=⟨λz=>z.1,λz=>⟨z,h _ (dc.mpr (by omega))⟩⟩;simp only[q b 1 (by decide),q (b+1) 2 (by decide),q3]
theorem Fm{dn':Nat->Nat->Bool}(hn:dn b l=false)(h:∀x y,dn' x y=true↔dn x y=true∨(x=b/\y=l))(b' l':Nat):
  part a dn' b' l'=part a dn b' l'+ (if(a.frame b l).kind=1/\b'=b/\l'+1=l then a.load b l else 0)+ (if(a.frame b l).kind=2/\b'+1=b/\l'+1=l then a.load b l-a.load b l/2 else 0)+ (if(a.frame b l).kind=2/\b'=b+1/\l'+1=l then a.load b l/2 else 0):=by
 unfold part;by_cases e:l'+1=l
 ·subst e;have hh:∀(x k:Nat) (p:Prop) [Decidable p],True:=λ_ _ _ _=>True.intro;by_cases e1:b'=b
  ·subst e1;have d1:dn' b' (l'+1)=true:=(h _ _).mpr (.inr ⟨rfl,rfl⟩);have d2:dn' (b'+1) (l'+1)=dn (b'+1) (l'+1):=by
    rw[fj,h];constructor
    ·rintro(z|z);exact z;omega
    ·exact .inl
   rw[d1,d2,hn];by_cases e3:0<b'
   ·have d3:dn' (b'-1) (l'+1)=dn (b'-1) (l'+1):=by
     rw[fj,h];constructor
     ·rintro(z|z);exact z;omega
     ·exact .inl
    rw[d3];simp;split<;>omega
   ·have:b'=0:=by omega
    subst this;simp;split<;>omega
  ·by_cases e2:b'+1=b
   ·subst e2;have d1:dn' (b'+1) (l'+1)=true:=(h _ _).mpr (.inr ⟨rfl,rfl⟩);have d2:dn' b' (l'+1)=dn b' (l'+1):=by
     rw[fj,h];constructor
     ·rintro(z|z);exact z;omega
     ·exact .inl
    have d3:dn' (b'-1) (l'+1)=dn (b'-1) (l'+1):=by
     rw[fj,h];constructor
     ·rintro(z|z);exact z;omega
     ·exact .inl
    rw[d1,d2,d3,hn];simp[show¬b'=b'+1+1 by omega];by_cases q:(a.frame (b'+1) (l'+1)).kind=2
    ·rw[if_pos q,if_pos q];omega
    ·rw[if_neg q,if_neg q];omega
   ·by_cases e3:b'=b+1
    ·subst e3;have d1:dn' b (l'+1)=true:=(h _ _).mpr (.inr ⟨rfl,rfl⟩);have d2:dn' (b+1) (l'+1)=dn (b+1) (l'+1):=by
      rw[fj,h];constructor
      ·rintro(z|z);exact z;omega
      ·exact .inl
     have d3:dn' (b+1+1) (l'+1)=dn (b+1+1) (l'+1):=by
      rw[fj,h];constructor
      ·rintro(z|z);exact z;omega
      ·exact .inl
     rw[iw,d1,d2,d3,hn];simp[show¬b+1+1=b by omega];all_goals omega
    ·have dd:∀x,x=b'∨x=b'+1∨(0<b'/\x=b'-1)->dn' x (l'+1)=dn x (l'+1):=λx hx=>by
      rw[fj,h];constructor
      ·rintro(z|z);exact z;omega
      ·exact .inl
     rw[dd _ (.inl rfl),dd _ (.inr (.inl rfl))];by_cases z:0<b'
     ·rw[dd (b'-1) (.inr (.inr ⟨z,rfl⟩))];simp[e1,e2,e3]
     ·simp[e1,e2,e3,z]
 ·have dd:∀x,dn' x (l'+1)=dn x (l'+1):=λx=>by
   rw[fj,h];constructor
   ·rintro(z|z);exact z;omega
   ·exact .inl
  rw[dd,dd,dd];simp[e]
def more(a:Abs)(b l n:Nat):Abs:=a.set b l λx=>{x with things:=x.things+n}
theorem xj(S:Sf a){m:Nat}(ht:a.there b l=true)(h:n<=m)(hs:(more a b l m).safe=true):(more a b l n).safe=true:=by
 have fm:=fu (f:=λx=>{x with things:=x.things+m}) S.flen (az ht).1 (az ht).2;have fn:=fu (f:=λx=>{x with things:=x.things+n}) S.flen (az ht).1 (az ht).2;refine lR (a:=more a b l m) rfl rfl rfl rfl rfl (λx y=>.inr ?_) (λx y _=>?_) (λx y _=>aJ _) hs
 ·unfold more;rw[fm,fn];split<;>rfl
 ·unfold more;rw[fm,fn];split
  ·show _+n<=_+m;omega
  ·exact aJ _
theorem BC(S:Sf a)(ht:a.there b l=true)(hs:a.safe=true):(more a b l 0).safe=true:=by
 have fn:=fu (f:=λx=>{x with things:=x.things+0}) S.flen (az ht).1 (az ht).2;refine lR (a:=a) rfl rfl rfl rfl rfl (λx y=>.inr ?_) (λx y _=>?_) (λx y _=>aJ _) hs
 ·unfold more;rw[fn];split
  ·rename_i e;rw[e.1,e.2]
  ·rfl
 ·unfold more;rw[fn];split
  ·rename_i e;rw[e.1,e.2];exact aJ _
  ·exact aJ _
theorem yf(S:Sf a)(ht:a.there b l=true):(more a b l a.most).safe=false:=by
 cases q:(more a b l a.most).safe with
 |false=>rfl
 |true=>
  exfalso;have fn:=fu (f:=λx=>{x with things:=x.things+a.most}) S.flen (az ht).1 (az ht).2;have th:=gu (f:=λx=>{x with things:=x.things+a.most}) S.flen (az ht).1 (az ht).2;have h:=(jb.mp q).1 b l (az ht).1 (az ht).2;have t2:(more a b l a.most).there b l=true:=by
   unfold more;rw[th,if_pos ⟨rfl,rfl⟩];exact ht
  rw[lI (az t2).1 (az t2).2,if_neg (by rw[t2];decide)]at h;unfold own at h;have e:((more a b l a.most).frame b l).things=(a.frame b l).things+a.most:=by
   unfold more;rw[fn,if_pos ⟨rfl,rfl⟩]
  rw[e]at h;have w1:=S.w1;have e2:(more a b l a.most).weight=a.weight:=rfl;have e3:(more a b l a.most).most=a.most:=rfl;rw[e2,e3]at h;omega
theorem xC{p:Nat->Bool}:∀(m s k:Nat),k<m->(∀n,n<k->p (s+n)=true)->p (s+k)=false->(((List.range' s m).takeWhile p).length)=k
 |0,_,_,h,_,_=>by omega
 |m+1,s,0,_,_,hk=>by
  rw[List.range'_succ,List.takeWhile_cons,show p s=false from hk];rfl
 |m+1,s,k+1,h,hn,hk=>by
  rw[List.range'_succ,List.takeWhile_cons,show p s=true from hn 0 (by omega)];show _+1=_;rw[xC m (s+1) k (by omega) (λn z=>by have:=hn (n+1) (by omega);rw[show s+1+n=s+ (n+1) by omega];exact this) (by rw[show s+1+k=s+ (k+1) by omega];exact hk)]
theorem Et(S:Sf a)(ht:a.there b l=true)(h1:(more a b l k).safe=true)(h2:(more a b l (k+1)).safe=false):
  ((List.range a.most).takeWhile λn=>(a.set b l λx=>{x with things:=x.things+ (n+1)}).safe).length=k:=by
 have hk:k<a.most:=by
  by_cases q:k<a.most
  ·exact q
  ·have:=xj S ht (show a.most<=k by omega) h1;rw[yf S ht]at this;cases this
 rw[List.range_eq_range'];refine xC _ 0 k hk (λn hn=>?_) ?_
 ·rw[jL];exact xj S ht (show n+1<=k by omega) h1
 ·rw[jL];exact h2
theorem uV(S:Sf a):a.feet=(List.range a.bays).map λb=>a.load b 0:=by
 unfold Abs.feet;have hl:=pF (a:=a) (l:=0) (by have:=S.l1;omega);refine List.ext_getElem (by rw[hl];simp) λi h1 h2=>?_;rw[List.getElem_map,List.getElem_range];unfold Abs.load;rw[du (l:=a.loads.getD 0 []),aZ h1];rfl
theorem EV(a:Abs):a.all.Pairwise (·<·):=by
 unfold Abs.all;exact List.Pairwise.sublist jd List.pairwise_lt_range
theorem DV{d:Nat}(hc:c<a.n)(hd:d<a.n)(h:c<d):a.level c<a.level d∨(a.level c=a.level d/\a.bay c<a.bay d):=by
 have e1:=gy (a:=a) c;have e2:=gy (a:=a) d;have b1:=lV hc;have b2:=lV hd;unfold Abs.place at e1 e2;by_cases q:a.level c<a.level d
 ·exact .inl q
 ·right;by_cases q2:a.level d<a.level c
  ·exfalso;have:(a.level d+1)*a.bays<=a.level c*a.bays:=Nat.mul_le_mul_right _ q2;rw[Nat.succ_mul]at this;omega
  ·have e:a.level c=a.level d:=by omega
   refine⟨e,?_⟩;rw[e]at e1;omega
theorem qZ(f:Nat->Nat):∀(L:List Nat) (d:Nat),∃c,L.foldl (λ(b:Option Nat) c=>match b with
   |none=>some c
   |some d=>if f d<f c then some c else some d) (some d)=some c/\((d::L).filter λx=>decide (f x=f c)).head?=some c/\∀x∈d::L,f x<=f c
 | [],d=>⟨d,rfl,by simp,λx hx=>by rw[cF.mp hx];exact aJ _⟩
 |y::L,d=>by
  rw[pQ];by_cases q:f d<f y
  ·obtain⟨c,h1,h2,h3⟩:=qZ f L y;refine⟨c,by simp only[if_pos q];exact h1,?_,λx hx=>?_⟩
   ·have:=h3 y (List.mem_cons_self ..);rw[dA,if_neg (by simp;omega)];exact h2
   ·rcases a9.mp hx with rfl|hx
    ·have:=h3 y (List.mem_cons_self ..);omega
    ·exact h3 x hx
  ·obtain⟨c,h1,h2,h3⟩:=qZ f L d;have hd:=h3 d (List.mem_cons_self ..);refine⟨c,by simp only[if_neg q];exact h1,?_,λx hx=>?_⟩
   ·by_cases z:f d=f c
    ·rw[dA,if_pos (by simpa using z)]at h2⊢;exact h2
    ·rw[dA,if_neg (by simpa using z)]at h2⊢;rw[dA,if_neg (by simp;omega)];exact h2
   ·rcases a9.mp hx with rfl|hx
    ·exact hd
    ·rcases a9.mp hx with rfl|hx
     ·omega
     ·exact h3 x (List.mem_cons_of_mem _ hx)
theorem vj(h:a.all≠[]):∃c,does a .most=(a,num (a.load (a.bay c) (a.level c)) [a.bay c,a.level c])/\(a.all.filter λx=>decide (a.load (a.bay x) (a.level x)=a.load (a.bay c) (a.level c))).head?=some c/\
  ∀x∈a.all,a.load (a.bay x) (a.level x)<=a.load (a.bay c) (a.level c):=by
 cases q:a.all with
 |nil=>exact absurd q h
 |cons d L=>
  obtain⟨c,h1,h2,h3⟩:=qZ (λc=>a.load (a.bay c) (a.level c)) L d;refine⟨c,?_,h2,h3⟩;unfold does;simp only[q,pQ];exact dr (λo:Option Nat=>match o with|none=>(a,no (-6))|some c=>(a,num (a.load (a.bay c) (a.level c)) [a.bay c,a.level c])) h1
theorem yj(h:a.all=[]):does a .most=(a,no (-6)):=by
 unfold does;simp only[h,List.foldl_nil]
theorem eR{c:Call}(h:match c with|.bears ..=>True|.feet=>True|.room ..=>True|.high ..=>True|.way ..=>True|.strip=>True|.loose=>True|.reached=>True|.cut ..=>True|.most=>True|.look ..=>True|.where_ ..=>True|.sums=>True|.state=>True|_=>False):(does a c).1=a:=by
 cases c with
 |bears b l=>unfold does;simp only[];split<;>rfl
 |feet=>rfl
 |room b l=>unfold does;simp only[];split<;>rfl
 |high b l=>unfold does;simp only[];split<;>rfl
 |way p b l=>
  unfold does;simp only[];split
  ·rfl
  ·split<;>rfl
 |strip=>rfl
 |loose=>rfl
 |reached=>rfl
 |cut b l=>
  unfold does;simp only[];split
  ·rfl
  ·split<;>rfl
 |most=>
  by_cases q:a.all=[]
  ·rw[yj q]
  ·obtain⟨c,h1,_⟩:=vj q;rw[h1]
 |look b l=>unfold does;simp only[];split<;>rfl
 |where_ p=>
  unfold does;simp only[];split
  ·rfl
  ·split<;>rfl
 |sums=>rfl
 |state=>rfl
 |_=>exact h.elim
theorem Ba{c:Call}(h:(does a c).2.value<0):(does a c).1=a:=by
 have nn:∀(n:Nat) (l:List Nat),¬(num n l).value<0:=λn l z=>by
  have:(Int.ofNat n)<0:=z;have h2:(0:Int)<=Int.ofNat n:=yT n;omega
 have nn0:¬(no 0).value<0:=by decide
 have tr:∀x:Abs,(a.tries x).2.value<0->(a.tries x).1=a:=λx z=>by
  unfold Abs.tries at z⊢;split at z
  ·rw[if_pos (by assumption)]
  ·rename_i q;rw[if_neg q];split at z
   ·rw[if_pos (by assumption)]
   ·exact absurd z (nn _ _)
 cases c with
 |begin_ b l w m f=>
  unfold does at h⊢;simp only[]at h⊢;split at h
  ·rw[if_pos (by assumption)]
  ·exact absurd h nn0
 |soil b n=>
  unfold does at h⊢;simp only[]at h⊢;split at h
  ·rw[if_pos (by assumption)]
  ·rename_i q;rw[if_neg q];split at h
   ·rw[if_pos (by assumption)]
   ·exact absurd h (nn _ _)
 |put b l=>
  unfold does at h⊢;simp only[]at h⊢;split at h
  ·rw[if_pos (by assumption)]
  ·rename_i q;rw[if_neg q];split at h
   ·rw[if_pos (by assumption)]
   ·rename_i q;rw[if_neg q];split at h
    ·rw[if_pos (by assumption)]
    ·rename_i q;rw[if_neg q];exact tr _ h
 |span b l=>
  unfold does at h⊢;simp only[]at h⊢;split at h
  ·rw[if_pos (by assumption)]
  ·rename_i q;rw[if_neg q];split at h
   ·rw[if_pos (by assumption)]
   ·rename_i q;rw[if_neg q];split at h
    ·rw[if_pos (by assumption)]
    ·rename_i q;rw[if_neg q];exact tr _ h
 |take b l=>
  unfold does at h⊢;simp only[]at h⊢;split at h
  ·rw[if_pos (by assumption)]
  ·rename_i q;rw[if_neg q];split at h
   ·rw[if_pos (by assumption)]
   ·rename_i q;rw[if_neg q];split at h
    ·rw[if_pos (by assumption)]
    ·exact absurd h (nn _ _)
 |tie b l=>
  unfold does at h⊢;simp only[]at h⊢;split at h
  ·rw[if_pos (by assumption)]
  ·rename_i q;rw[if_neg q];split at h
   ·rw[if_pos (by assumption)]
   ·exact absurd h (nn _ _)
 |untie b l=>
  unfold does at h⊢;simp only[]at h⊢;split at h
  ·rw[if_pos (by assumption)]
  ·rename_i q;rw[if_neg q];split at h
   ·rw[if_pos (by assumption)]
   ·rename_i q;rw[if_neg q];split at h
    ·rw[if_pos (by assumption)]
    ·exact absurd h (nn _ _)
 |load b l n=>
  unfold does at h⊢;simp only[]at h⊢;split at h
  ·rw[if_pos (by assumption)]
  ·rename_i q;rw[if_neg q];split at h
   ·rw[if_pos (by assumption)]
   ·rename_i q;rw[if_neg q];split at h
    ·rw[if_pos (by assumption)]
    ·exact absurd h (nn _ _)
 |unload b l n=>
  unfold does at h⊢;simp only[]at h⊢;split at h
  ·rw[if_pos (by assumption)]
  ·rename_i q;rw[if_neg q];split at h
   ·rw[if_pos (by assumption)]
   ·rename_i q;rw[if_neg q];split at h
    ·rw[if_pos (by assumption)]
    ·exact absurd h (nn _ _)
 |ladder b l=>
  unfold does at h⊢;simp only[]at h⊢;split at h
  ·rw[if_pos (by assumption)]
  ·rename_i q;rw[if_neg q];split at h
   ·rw[if_pos (by assumption)]
   ·rename_i q;rw[if_neg q];split at h
    ·rw[if_pos (by assumption)]
    ·exact absurd h nn0
 |noladder b l=>
  unfold does at h⊢;simp only[]at h⊢;split at h
  ·rw[if_pos (by assumption)]
  ·rename_i q;rw[if_neg q];split at h
   ·rw[if_pos (by assumption)]
   ·rename_i q;rw[if_neg q];split at h
    ·rw[if_pos (by assumption)]
    ·exact absurd h nn0
 |come w=>
  unfold does at h⊢;simp only[]at h⊢;split at h
  ·rw[if_pos (by assumption)]
  ·rename_i q;rw[if_neg q];split at h
   ·rw[if_pos (by assumption)]
   ·exact absurd h (nn _ _)
 |go p b l=>
  unfold does at h⊢;simp only[]at h⊢;split at h
  ·rw[if_pos (by assumption)]
  ·rename_i q;rw[if_neg q];split at h
   ·rw[if_pos (by assumption)]
   ·rename_i q;rw[if_neg q];cases z:a.way (a.person p).at_ (a.place b l+1)with
    |none=>rfl
    |some k=>
     rw[z]at h;simp only[]at h⊢;split at h
     ·rw[if_pos (by assumption)]
     ·exact absurd h (nn _ _)
 |down p=>
  unfold does at h⊢;simp only[]at h⊢;split at h
  ·rw[if_pos (by assumption)]
  ·rename_i q;rw[if_neg q];split at h
   ·rw[if_pos (by assumption)]
   ·exact absurd h (nn _ _)
 |_=>exact eR trivial
def cb(q:Nat)(xs:List Nat):Call:=match q with
 |0=>.begin_ (xs.getD 0 0) (xs.getD 1 0) (xs.getD 2 0) (xs.getD 3 0) (xs.getD 4 0)
 |1=>.soil (xs.getD 0 0) (xs.getD 1 0)
 |2=>.put (xs.getD 0 0) (xs.getD 1 0)
 |3=>.span (xs.getD 0 0) (xs.getD 1 0)
 |4=>.take (xs.getD 0 0) (xs.getD 1 0)
 |5=>.tie (xs.getD 0 0) (xs.getD 1 0)
 |6=>.untie (xs.getD 0 0) (xs.getD 1 0)
 |7=>.load (xs.getD 0 0) (xs.getD 1 0) (xs.getD 2 0)
 |8=>.unload (xs.getD 0 0) (xs.getD 1 0) (xs.getD 2 0)
 |9=>.ladder (xs.getD 0 0) (xs.getD 1 0)
 |10=>.noladder (xs.getD 0 0) (xs.getD 1 0)
 |11=>.come (xs.getD 0 0)
 |12=>.go (xs.getD 0 0) (xs.getD 1 0) (xs.getD 2 0)
 |13=>.down (xs.getD 0 0)
 |14=>.bears (xs.getD 0 0) (xs.getD 1 0)
 |15=>.feet
 |16=>.room (xs.getD 0 0) (xs.getD 1 0)
 |17=>.high (xs.getD 0 0) (xs.getD 1 0)
 |18=>.way (xs.getD 0 0) (xs.getD 1 0) (xs.getD 2 0)
 |19=>.strip
 |20=>.loose
 |21=>.reached
 |22=>.cut (xs.getD 0 0) (xs.getD 1 0)
 |23=>.most
 |24=>.look (xs.getD 0 0) (xs.getD 1 0)
 |25=>.where_ (xs.getD 0 0)
 |26=>.sums
 |_=>.state
def ma:List Nat:=[5,2,2,2,2,2,2,3,3,2,2,1,3,1,2,0,2,2,3,0,0,0,2,0,2,1,0,0]
def cnt(q:Nat):Nat:=ma.getD q 0
theorem vL:∀q:Fin 28,PySu56.shape (q.val:Int)=some (cnt q.val,0):=by decide
theorem gA{z:Int}(h:Su56Neutral.natural z 32=true):∃n:Nat,z=n:=by
 unfold Su56Neutral.natural at h;simp only[dH,sZ]at h;exact⟨z.toNat,by omega⟩
theorem Dx{c:List Int}(h:Su56Neutral.asked1 c=true):∃(q:Nat) (ns:List Nat),c=(q:Int)::ns.map (λn:Nat=>(n:Int))/\q<28/\ns.length=cnt q/\Su56Neutral.callOf c=some (cb q ns):=by
 unfold Su56Neutral.asked1 at h;split at h
 ·rename_i a b c d e;simp only[kR,List.all_nil,dH,and_true]at h;obtain⟨h1,h2,h3,h4,h5⟩:=h;obtain⟨a,rfl⟩:=gA h1;obtain⟨b,rfl⟩:=gA h2;obtain⟨c,rfl⟩:=gA h3;obtain⟨d,rfl⟩:=gA h4;obtain⟨e,rfl⟩:=gA h5;exact⟨0,[a,b,c,d,e],rfl,by decide,rfl,rfl⟩
 ·rename_i p a b c;simp only[kR,List.all_nil,dH,and_true,tj,tq,pT,pU,d9]at h;obtain⟨hp,h1,h2,h3⟩:=h;obtain⟨a,rfl⟩:=gA h1;obtain⟨b,rfl⟩:=gA h2;obtain⟨c,rfl⟩:=gA h3;rcases hp with rfl|rfl|rfl|rfl
  ·exact⟨7,[a,b,c],rfl,by decide,rfl,rfl⟩
  ·exact⟨8,[a,b,c],rfl,by decide,rfl,rfl⟩
  ·exact⟨12,[a,b,c],rfl,by decide,rfl,rfl⟩
  ·exact⟨18,[a,b,c],rfl,by decide,rfl,rfl⟩
 ·rename_i p a b;simp only[dH,tj,tq,pT,pU,d9]at h;obtain⟨hp,h1,h2⟩:=h;obtain⟨a,rfl⟩:=gA h1;obtain⟨b,rfl⟩:=gA h2;rcases hp with rfl|rfl|rfl|rfl|rfl|rfl|rfl|rfl|rfl|rfl|rfl|rfl|rfl
  ·exact⟨1,[a,b],rfl,by decide,rfl,rfl⟩
  ·exact⟨2,[a,b],rfl,by decide,rfl,rfl⟩
  ·exact⟨3,[a,b],rfl,by decide,rfl,rfl⟩
  ·exact⟨4,[a,b],rfl,by decide,rfl,rfl⟩
  ·exact⟨5,[a,b],rfl,by decide,rfl,rfl⟩
  ·exact⟨6,[a,b],rfl,by decide,rfl,rfl⟩
  ·exact⟨9,[a,b],rfl,by decide,rfl,rfl⟩
  ·exact⟨10,[a,b],rfl,by decide,rfl,rfl⟩
  ·exact⟨14,[a,b],rfl,by decide,rfl,rfl⟩
  ·exact⟨16,[a,b],rfl,by decide,rfl,rfl⟩
  ·exact⟨17,[a,b],rfl,by decide,rfl,rfl⟩
  ·exact⟨22,[a,b],rfl,by decide,rfl,rfl⟩
  ·exact⟨24,[a,b],rfl,by decide,rfl,rfl⟩
 ·rename_i p a;simp only[dH,tj,tq,pT,pU,d9]at h;obtain⟨hp,h1⟩:=h;obtain⟨a,rfl⟩:=gA h1;rcases hp with rfl|rfl|rfl
  ·exact⟨11,[a],rfl,by decide,rfl,rfl⟩
  ·exact⟨13,[a],rfl,by decide,rfl,rfl⟩
  ·exact⟨25,[a],rfl,by decide,rfl,rfl⟩
 ·rename_i p;simp only[tj,tq,pT,pU,d9]at h;rcases h with rfl|rfl|rfl|rfl|rfl|rfl|rfl
  ·exact⟨15,[],rfl,by decide,rfl,rfl⟩
  ·exact⟨19,[],rfl,by decide,rfl,rfl⟩
  ·exact⟨20,[],rfl,by decide,rfl,rfl⟩
  ·exact⟨21,[],rfl,by decide,rfl,rfl⟩
  ·exact⟨23,[],rfl,by decide,rfl,rfl⟩
  ·exact⟨26,[],rfl,by decide,rfl,rfl⟩
  ·exact⟨27,[],rfl,by decide,rfl,rfl⟩
 ·cases h
inductive Reads:List Int->List (Nat×List Nat)->Prop
 |nil:Reads [] []
 |cons {q:Nat} {ns:List Nat} {r:List Int} {cs:List (Nat×List Nat)}:q<28->ns.length=cnt q->Reads r cs->Reads ((q:Int)::(ns.map (λn:Nat=>(n:Int))++r)) ((q,ns)::cs)
def jI:Option Abs->List (Nat×List Nat)->List Int
 |_,[]=>[]
 |s,c::r=>let x:=step s (cb c.1 c.2)
  (((x.2.out.length+1:Nat):Int)::x.2.value::Su56Neutral.outs x.2.out)++jI x.1 r
theorem jK(h:xs.length=0):xs=[]:=yU.mp h
theorem rK(h:xs.length=1):∃a,xs=[a]:=by
 match xs,h with
 | [a],_=>exact⟨a,rfl⟩
theorem fQ(h:xs.length=2):∃a b,xs=[a,b]:=by
 match xs,h with
 | [a,b],_=>exact⟨a,b,rfl⟩
theorem ox(h:xs.length=3):∃a b c,xs=[a,b,c]:=by
 match xs,h with
 | [a,b,c],_=>exact⟨a,b,c,rfl⟩
theorem zv(h:xs.length=5):∃a b c d e,xs=[a,b,c,d,e]:=by
 match xs,h with
 | [a,b,c,d,e],_=>exact⟨a,b,c,d,e,rfl⟩
theorem B3:∀(q:Nat) (xs:List Int),q<28->xs.length=cnt q->PySu56.whole [(q:Int)::xs]=[(q:Int)::xs]
 |0,xs,_,h=>by obtain⟨a,b,c,d,e,rfl⟩:=zv h;rfl
 |1,xs,_,h=>by obtain⟨a,b,rfl⟩:=fQ h;rfl
 |2,xs,_,h=>by obtain⟨a,b,rfl⟩:=fQ h;rfl
 |3,xs,_,h=>by obtain⟨a,b,rfl⟩:=fQ h;rfl
 |4,xs,_,h=>by obtain⟨a,b,rfl⟩:=fQ h;rfl
 |5,xs,_,h=>by obtain⟨a,b,rfl⟩:=fQ h;rfl
 |6,xs,_,h=>by obtain⟨a,b,rfl⟩:=fQ h;rfl
 |7,xs,_,h=>by obtain⟨a,b,c,rfl⟩:=ox h;rfl
 |8,xs,_,h=>by obtain⟨a,b,c,rfl⟩:=ox h;rfl
 |9,xs,_,h=>by obtain⟨a,b,rfl⟩:=fQ h;rfl
 |10,xs,_,h=>by obtain⟨a,b,rfl⟩:=fQ h;rfl
 |11,xs,_,h=>by obtain⟨a,rfl⟩:=rK h;rfl
 |12,xs,_,h=>by obtain⟨a,b,c,rfl⟩:=ox h;rfl
 |13,xs,_,h=>by obtain⟨a,rfl⟩:=rK h;rfl
 |14,xs,_,h=>by obtain⟨a,b,rfl⟩:=fQ h;rfl
 |15,xs,_,h=>by obtain rfl:=jK h;rfl
 |16,xs,_,h=>by obtain⟨a,b,rfl⟩:=fQ h;rfl
 |17,xs,_,h=>by obtain⟨a,b,rfl⟩:=fQ h;rfl
 |18,xs,_,h=>by obtain⟨a,b,c,rfl⟩:=ox h;rfl
 |19,xs,_,h=>by obtain rfl:=jK h;rfl
 |20,xs,_,h=>by obtain rfl:=jK h;rfl
 |21,xs,_,h=>by obtain rfl:=jK h;rfl
 |22,xs,_,h=>by obtain⟨a,b,rfl⟩:=fQ h;rfl
 |23,xs,_,h=>by obtain rfl:=jK h;rfl
 |24,xs,_,h=>by obtain⟨a,b,rfl⟩:=fQ h;rfl
 |25,xs,_,h=>by obtain⟨a,rfl⟩:=rK h;rfl
 |26,xs,_,h=>by obtain rfl:=jK h;rfl
 |27,xs,_,h=>by obtain rfl:=jK h;rfl
 |n+28,xs,h,_=>by omega
theorem Ag(h:PySu56.shape p=some (n,k)):∃q:Nat,q<28/\p=q:=by
 have key:∀{c:Prop} [Decidable c] {x:Nat×Nat} {e:Option (Nat×Nat)},(c->∃q:Nat,q<28/\p=q)->(e=some (n,k)->∃q:Nat,q<28/\p=q)->(if c then some x else e)=some (n,k)->∃q:Nat,q<28/\p=q:=by
  intro c _ x e h1 h2 h3;by_cases q:c
  ·exact h1 q
  ·rw[if_neg q]at h3;exact h2 h3
 revert h;unfold PySu56.shape;refine key (λe=>⟨0,by decide,e⟩) ?_;refine key (λe=>⟨1,by decide,e⟩) ?_;refine key (λe=>⟨2,by decide,e⟩) ?_;refine key (λe=>⟨3,by decide,e⟩) ?_;refine key (λe=>⟨4,by decide,e⟩) ?_;refine key (λe=>⟨5,by decide,e⟩) ?_;refine key (λe=>⟨6,by decide,e⟩) ?_;refine key (λe=>⟨7,by decide,e⟩) ?_;refine key (λe=>⟨8,by decide,e⟩) ?_;refine key (λe=>⟨9,by decide,e⟩) ?_;refine key (λe=>⟨10,by decide,e⟩) ?_;refine key (λe=>⟨11,by decide,e⟩) ?_;refine key (λe=>⟨12,by decide,e⟩) ?_;refine key (λe=>⟨13,by decide,e⟩) ?_;refine key (λe=>⟨14,by decide,e⟩) ?_;refine key (λe=>⟨15,by decide,e⟩) ?_;refine key (λe=>⟨16,by decide,e⟩) ?_;refine key (λe=>⟨17,by decide,e⟩) ?_;refine key (λe=>⟨18,by decide,e⟩) ?_;refine key (λe=>⟨19,by decide,e⟩) ?_;refine key (λe=>⟨20,by decide,e⟩) ?_;refine key (λe=>⟨21,by decide,e⟩) ?_;refine key (λe=>⟨22,by decide,e⟩) ?_;refine key (λe=>⟨23,by decide,e⟩) ?_;refine key (λe=>⟨24,by decide,e⟩) ?_;refine key (λe=>⟨25,by decide,e⟩) ?_;refine key (λe=>⟨26,by decide,e⟩) ?_;refine key (λe=>⟨27,by decide,e⟩) ?_;intro h;cases h
theorem Ew(h:PySu56.shape p=some (n,k)):k=0:=by
 have key:∀{c:Prop} [Decidable c] {x:Nat×Nat} {e:Option (Nat×Nat)},x.2=0->(e=some (n,k)->k=0)->(if c then some x else e)=some (n,k)->k=0:=by
  intro c _ x e h1 h2 h3;by_cases q:c
  ·rw[if_pos q]at h3;have:=b9 h3;rw[this]at h1;exact h1
  ·rw[if_neg q]at h3;exact h2 h3
 revert h;unfold PySu56.shape;iterate 28 refine key rfl ?_
 intro h;cases h
theorem yu{f:Nat}{r:List Int}{cs:List (List (List Int))}(h:PyFlat.calls PySu56.shape (f+1) (p::r)=some cs):
  ∃n cs',PySu56.shape p=some (n,0)/\n<=r.length/\cs=[p::r.take n]::cs'/\PyFlat.calls PySu56.shape f (r.drop n)=some cs':=by
 simp only[PyFlat.calls,PyFlat.call]at h;cases q:PySu56.shape p with
 |none=>rw[q]at h;cases h
 |some nk=>
  obtain⟨n,k⟩:=nk;obtain rfl:=Ew q;rw[q]at h;simp only[]at h;by_cases z:r.length<n
  ·rw[if_pos z]at h;cases h
  ·rw[if_neg z]at h;simp only[PyFlat.rows]at h;cases y:PyFlat.calls PySu56.shape f (r.drop n)with
   |none=>rw[y]at h;cases h
   |some cs'=>
    rw[y]at h;simp only[]at h;exact⟨n,cs',rfl,by omega,(b9 h).symm,y⟩
theorem wK:∀(f:Nat) (l:List Int) (cs:List (List (List Int))),PyFlat.calls PySu56.shape f l=some cs->(cs.map λc=>c.headD []).all Su56Neutral.asked1=true->
  ∃ds,Reads l ds/\ds.length=cs.length/\∀s,PyFlat.told (PyFlat.played (λs c=>Su56Neutral.step s (c.headD [])) s cs)=jI s ds
 |f,[],cs,h,_=>by
  have e:cs=[]:=by
   unfold PyFlat.calls at h;exact(b9 h).symm
  subst e;exact⟨[],.nil,rfl,λs=>rfl⟩
 |0,p::r,cs,h,_=>by
  unfold PyFlat.calls at h;cases h
 |f+1,p::r,cs,h,ha=>by
  obtain⟨n,cs',h1,h2,rfl,h4⟩:=yu h;rw[aW,kR,dH]at ha;obtain⟨ha1,ha2⟩:=ha;obtain⟨q,ns,e1,hq,hl,hc⟩:=Dx ha1;have e1':p::r.take n=(q:Int)::ns.map (λn:Nat=>(n:Int)):=e1;injection e1' with e2 e3;subst e2;have hn:n=cnt q:=by
   have:=vL ⟨q,hq⟩;rw[show((⟨q,hq⟩:Fin 28).val:Int)=(q:Int)from rfl,h1]at this;injection this with this;injection this with this
  obtain⟨ds,r1,r2,r3⟩:=wK f (r.drop n) cs' h4 ha2;refine⟨(q,ns)::ds,?_,by simp[r2],λs=>?_⟩
  ·rw[←List.take_append_drop n r,e3];exact .cons hq hl r1
  ·show _=_;unfold PyFlat.played;have es:Su56Neutral.step s ([(q:Int)::r.take n].headD [])=((step s (cb q ns)).1,(step s (cb q ns)).2.value::Su56Neutral.outs (step s (cb q ns)).2.out):=by
    show Su56Neutral.step s ((q:Int)::r.take n)=_;unfold Su56Neutral.step;rw[show Su56Neutral.callOf ((q:Int)::r.take n)=some (cb q ns)from hc]
   rw[es];unfold jI;unfold PyFlat.told;rw[pV];have:=r3 (step s (cb q ns)).1;unfold PyFlat.told at this;rw[this];have el:(((step s (cb q ns)).2.value::Su56Neutral.outs (step s (cb q ns)).2.out).length:Int)=(((step s (cb q ns)).2.out.length+1:Nat):Int):=by
    unfold Su56Neutral.outs;simp
   simp only[]at el⊢;rw[el]
theorem yM:∀(f:Nat) (l:List Int) (cs:List (List (List Int))),PyFlat.calls PySu56.shape f l=some cs->cs.map PySu56.whole=cs
 |f,[],cs,h=>by
  have e:cs=[]:=by
   unfold PyFlat.calls at h;exact(b9 h).symm
  subst e;rfl
 |0,p::r,cs,h=>by
  unfold PyFlat.calls at h;cases h
 |f+1,p::r,cs,h=>by
  obtain⟨n,cs',h1,h2,rfl,h4⟩:=yu h;obtain⟨q,hq,rfl⟩:=Ag h1;have hn:n=cnt q:=by
   have:=vL ⟨q,hq⟩;rw[show((⟨q,hq⟩:Fin 28).val:Int)=(q:Int)from rfl,h1]at this;injection this with this;injection this with this
  rw[aW,yM f _ _ h4,B3 q _ hq (by rw[gI];omega)]
theorem Gk{l:List Int}(h:PySu56.answers_asked l=true):∃ds,Reads l ds/\PySu56.answers l=jI none ds/\(PySu56.answers l).length<=10000000:=by
 unfold PySu56.answers_asked at h;cases q:PyFlat.calls PySu56.shape l.length l with
 |none=>rw[q]at h;cases h
 |some raw=>
  rw[q]at h;simp only[dH]at h;obtain⟨⟨⟨⟨h1,h2⟩,h3⟩,h4⟩,h5⟩:=h;unfold Su56Neutral.asked at h4;simp only[dH]at h4;have e:raw.map PySu56.whole=raw:=yM _ _ _ q;rw[e]at h4;obtain⟨ds,r1,r2,r3⟩:=wK _ _ _ q h4.2;have ea:PySu56.answers l=jI none ds:=by
   unfold PySu56.answers PySu56.calls;rw[q];simp only[e];exact r3 none
  refine⟨ds,r1,ea,?_⟩;unfold PyFlat.short at h5;exact ck h5
end Wl
namespace L2
open PySem PySem.Spec PyProof.Rows
variable{h base:Heap}{v u pm:Value}{Q E:Value->Shared->Prop}{a q d b it f C z i1 i2 l1 l2:Addr}{j ep i n t' tk kk k1 k2:Nat}{x qual:Str}{p pos tpos:Pos}{o od:Obj}{es:Array DictEntry}{P prog:Program}{w:World}{ys:Array Value}{us vs its:List Value}{ch fp ts:List Addr}{e c tg iter elt:Expr}{N ps:List Str}{M:Model}{A:Around}{s:Shared}{pins:List (Addr×Obj)}{body:List Stmt}{l:Int}{pl:Sem Bool}{op:CmpOp}{kw:List (Str×Value)}{env:Env}{mg:Str->Option Value}{fd:FuncData}{outer:List Env}{sc scope:Scope}{cells:List (Str×Addr)}{ifs elts:List Expr}{ds:List WData}
abbrev dh:=Sum Int Str
def j0:dh->Value->Bool
 |.inl k,v=>Value.isInt k v
 |.inr x,v=>Value.isStrOf x v
def Bt(w:World):dh->Int
 |.inl k=>hashInt k
 |.inr x=>hashStr w x
theorem ib:∀{k:dh} {v:Value},j0 k v=true->(∃i t,k=Sum.inl i/\v=Value.int i t)∨(∃x t,k=Sum.inr x/\v=Value.str x t)
 |.inl i,v,h=>by
  obtain⟨t,e⟩:=Value.isInt_shape (k:=i) (v:=v) h;exact .inl ⟨i,t,rfl,e⟩
 |.inr x,v,h=>by
  obtain⟨t,e⟩:=Value.isStrOf_shape (x:=x) (v:=v) h;exact .inr ⟨x,t,rfl,e⟩
theorem F4(i:Int)(t:Tok):j0 (.inl i) (.int i t)=true:=by simp[j0,Value.isInt]
theorem AA(x:Str)(t:Tok):j0 (.inr x) (.str x t)=true:=by simp[j0,Value.isStrOf]
theorem Fi(a b:Int):decide ((Sum.inl a:dh)=Sum.inl b)=(a==b):=by
 by_cases e:a=b
 ·subst e;simp
 ·have h:¬(Sum.inl a:dh)=Sum.inl b:=λq=>e (tu q);rw[ba h];exact(jM.mpr e).symm
theorem CB(a b:Str):decide ((Sum.inr a:dh)=Sum.inr b)=decide (a=b):=by
 by_cases e:a=b
 ·subst e;simp
 ·have h:¬(Sum.inr a:dh)=Sum.inr b:=λq=>e (Sum.inr.inj q);rw[ba h,ba e]
theorem CH(a:Int)(b:Str):decide ((Sum.inl a:dh)=Sum.inr b)=false:=ba (λq=>nomatch q)
theorem BB(a:Str)(b:Int):decide ((Sum.inr a:dh)=Sum.inl b)=false:=ba (λq=>nomatch q)
def ed(prog:Program)(w:World):PySem.KeyKind prog w dh where
 is:=j0
 hash:=Bt w
 inj:=λv a b ha hb=>by
  rcases ib ha with⟨i,t,rfl,rfl⟩|⟨x,t,rfl,rfl⟩
  ·rcases ib hb with⟨j,u,rfl,e⟩|⟨y,u,rfl,e⟩
   ·injection e with e1 _;rw[e1]
   ·exact nomatch e
  ·rcases ib hb with⟨j,u,rfl,e⟩|⟨y,u,rfl,e⟩
   ·exact nomatch e
   ·injection e with e1 _;rw[e1]
 byValue:=λk v h=>by
  rcases ib h with⟨i,t,rfl,rfl⟩|⟨x,t,rfl,rfl⟩<;>rfl
 pyHash:=λhv h=>by
  rcases ib hv with⟨i,t,rfl,rfl⟩|⟨x,t,rfl,rfl⟩
  ·exact wpAny_pyHash_int h
  ·exact wpAny_pyHash_str h
 eqBool:=λhu hv h=>by
  rcases ib hu with⟨i,t,rfl,rfl⟩|⟨x,t,rfl,rfl⟩
  ·rcases ib hv with⟨j,u,rfl,rfl⟩|⟨y,u,rfl,rfl⟩
   ·rw[Fi]at h;exact wpAny_eqBool_int h
   ·rw[CH]at h;exact SeqAt.EqAt.int_str i t y u _ _ _ _ h
  ·rcases ib hv with⟨j,u,rfl,rfl⟩|⟨y,u,rfl,rfl⟩
   ·rw[BB]at h;exact SeqAt.EqAt.str_int x t j u _ _ _ _ h
   ·rw[CB]at h;exact wpAny_eqBool_str h
 «strs»:=λk x t v h=>by
  rcases ib h with⟨i,u,rfl,e⟩|⟨y,u,rfl,e⟩
  ·exact nomatch e
  ·injection e with e1 _;subst e1;cases v<;>rfl
theorem BV(prog:Program)(w:World)(i:Int)(t:Tok):(ed prog w).is (.inl i) (.int i t)=true:=F4 i t
theorem AK(prog:Program)(w:World)(x:Str)(t:Tok):(ed prog w).is (.inr x) (.str x t)=true:=AA x t
abbrev MK:=Sum Str (List dh)
section
variable(P:Program)(w:World)
def bR(h:Heap):MK->Value->Prop
 |.inl x,v=>∃t,v=Value.str x t
 |.inr ks,v=>∃a,v=Value.ref a/\(tupleKind (ed P w)).is h ks a
def cU:MK->Int
 |.inl x=>hashStr w x
 |.inr ks=>(tupleKind (ed P w)).hash ks
end
variable{k:MK}{xs:List (MK×Value×Value)}
def dG:MK->Nat
 |.inl _=>1
 |.inr ks=>ks.length+1
section
variable{P:Program}{w:World}{A:Around}{E:Value->Shared->Prop}{s:Shared}
theorem uL:∀{k j:MK} {v:Value},bR P w h k v->bR P w h j v->k=j
 |.inl x,.inl y,v,⟨t,e⟩,⟨u,q⟩=>by
  subst e;injection q with q1 _;rw[q1]
 |.inl x,.inr ks,v,⟨t,e⟩,⟨a,q,_⟩=>by
  subst e;exact nomatch q
 |.inr ks,.inl y,v,⟨a,e,_⟩,⟨t,q⟩=>by
  subst e;exact nomatch q
 |.inr ks,.inr js,v,⟨a,e,h1⟩,⟨b,q,h2⟩=>by
  subst e;injection q with q1;subst q1;rw[(tupleKind (ed P w)).inj h1 h2]
theorem qO{Q:Int->Shared->Prop}(hu:A.units<cLine)(hk:bR P w s.heap k v)(h:Q (cU P w k) {s with toks:=s.toks+dG k}):wpAny (model P w) A (pyHash v) Q E s:=by
 cases k with
 |inl x=>
  obtain⟨t,rfl⟩:=hk;exact wpAny_pyHash_str h
 |inr ks=>
  obtain⟨a,rfl,ha⟩:=hk;exact(tupleKind (ed P w)).pyHash hu ha h
theorem uk{ks:List dh}(x:(tupleKind (ed P w)).is h ks a):∃its,h.IsTuple a its:=by
 obtain⟨o,its,n,h1,h2,h3,_⟩:=x;exact⟨its,o,h1,h2,n,h3⟩
theorem pK{j:MK}{Q:Bool->Shared->Prop}(hu:A.units<cLine)(hk:bR P w s.heap k u)(hj:bR P w s.heap j v)(h:Q (decide (k=j)) s):wpAny (model P w) A (eqBool u v) Q E s:=by
 cases k with
 |inl x=>
  obtain⟨t,rfl⟩:=hk;cases j with
  |inl y=>
   obtain⟨t',rfl⟩:=hj;refine wpAny_eqBool_str ?_;have e:decide ((Sum.inl x:MK)=Sum.inl y)=decide (x=y):=by
    by_cases q:x=y
    ·subst q;simp
    ·rw[ba q,ba (λz=>q (tu z))]
   rw[←e];exact h
  |inr js=>
   obtain⟨a,rfl,ha⟩:=hj;obtain⟨its,hi⟩:=uk ha;rw[ba (λz=>nomatch z)]at h;exact SeqAt.EqAt.str_tuple x t hi hu _ _ _ _ h
 |inr ks=>
  obtain⟨a,rfl,ha⟩:=hk;cases j with
  |inl y=>
   obtain⟨t',rfl⟩:=hj;obtain⟨its,hi⟩:=uk ha;rw[ba (λz=>nomatch z)]at h;exact SeqAt.EqAt.tuple_str y t' hi hu _ _ _ _ h
  |inr js=>
   obtain⟨b,rfl,hb⟩:=hj;refine(tupleKind (ed P w)).eqBool hu ha hb ?_;have e:decide ((Sum.inr ks:MK)=Sum.inr js)=decide (ks=js):=by
    by_cases q:ks=js
    ·subst q;simp
    ·rw[ba q,ba (λz=>q (Sum.inr.inj z))]
   rw[←e];exact h
theorem xR{Q:Bool->Shared->Prop}(hk:bR P w s.heap k v)(h:Q true s):wpAny (model P w) A (eqIsQuiet 8 v) Q E s:=by
 cases k with
 |inl x=>
  obtain⟨t,rfl⟩:=hk;exact ah h
 |inr ks=>
  obtain⟨a,rfl,ha⟩:=hk;exact(tupleKind (ed P w)).quiet ha h
theorem u9{stored:List Value}{Q:Bool->Shared->Prop}(hk:bR P w s.heap k v)(hst:∀u∈stored,∃j,bR P w s.heap j u)(h:Q false s):wpAny (model P w) A (tableMayTell v stored) Q E s:=by
 unfold tableMayTell;split
 ·exact ah h
 refine aa (xR hk ?_);rw[if_neg (by decide)];refine aa (pW _ (λbV r s'=>s'=s/\r=(none,())/\∀u∈bV,∃j,bR P w s.heap j u) _ ?_ ?_ _ _ ⟨rfl,rfl,hst⟩)
 ·rintro u bV r s' ⟨rfl,rfl,hr⟩;obtain⟨j,hj⟩:=hr u (List.mem_cons_self ..);refine aa (xR hj ?_);rw[if_neg (by decide)];exact ah ⟨rfl,rfl,λz hz=>hr z (List.mem_cons_of_mem _ hz)⟩
 ·rintro r s' ⟨rfl,rfl,_⟩;exact ah h
end
def c9(P:Program)(w:World)(x:MK×Value×Value):DictEntry:=⟨cU P w x.1,x.2.1,x.2.2⟩
def cw(xs:List (MK×Value×Value))(k:MK):Option Nat:=xs.findIdx? λx=>decide (x.1=k)
theorem ip(h:cw xs k=some j):∃x,xs[j]?=some x/\x.1=k:=by
 unfold cw at h;obtain⟨h1,h2,_⟩:=List.findIdx?_eq_some_iff_getElem.mp h;exact⟨_,aZ h1,ck h2⟩
theorem vN(h:cw xs k=none):∀x∈xs,x.1≠k:=by
 unfold cw at h;intro x hx e;have:=List.findIdx?_eq_none_iff.mp h x hx;simp[e]at this
theorem oM(hn:(xs.map (·.1)).Nodup){x:MK×Value×Value}(h:xs[j]?=some x):cw xs x.1=some j:=by
 cases q:cw xs x.1 with
 |none=>exact absurd rfl (vN q x (cE h))
 |some i=>
  obtain⟨y,h1,h2⟩:=ip q;have a1:(xs.map (·.1))[i]?=some x.1:=by rw[bY,h1];simp[h2]
  have a2:(xs.map (·.1))[j]?=some x.1:=by rw[bY,h];rfl
  rw[(tw (cX.mp a1).1 hn).mp (a1.trans a2.symm)]
theorem vi{α:Type}{p q:α->Bool}:∀{l:List α},(∀x∈l,p x=q x)->l.findIdx? p=l.findIdx? q
 | [],_=>rfl
 |x::l,h=>by
  rw[pX,pX,h x (List.mem_cons_self ..),vi λy hy=>h y (List.mem_cons_of_mem _ hy)]
section
variable{P:Program}{w:World}{A:Around}{E:Value->Shared->Prop}{s:Shared}
theorem qU{Q:Option Nat->Shared->Prop}(hu:A.units<cLine)(hk:bR P w s.heap k v)(ho:s.heap.get? d=some o)
  (hd:o.data= .dict es ep) (he:es.toList=xs.map (c9 P w)) (his:∀x∈xs,bR P w s.heap x.1 x.2.1) (hn:(xs.map (·.1)).Nodup) (hQ:Q (cw xs k) s):wpAny (model P w) A (dictFind d v (cU P w k)) Q E s:=by
 have hat:∀i:Nat,es[i]?=(xs[i]?).map (c9 P w):=λi=>by rw[←jN,he,bY]
 have hsz:es.size=xs.length:=by rw[←gh,he,List.length_map]
 have cc:∀i,i∈placesWithHash es.size (λi=>es[i]?.map (·.hash)) (cU P w k)->∃x,xs[i]?=some x/\es[i]?=some (c9 P w x)/\(cU P w x.1==cU P w k)=true:=by
  intro i hi;obtain⟨h1,h2⟩:=cV.mp hi;have hlt:i<xs.length:=by rw[←hsz];exact fR.mp h1
  refine⟨xs[i],aZ hlt,by rw[hat,aZ hlt];rfl,?_⟩;dsimp only at h2;rw[hat,aZ hlt]at h2;simpa[c9]using h2
 have hin:∀j,cw xs k=some j->j∈placesWithHash es.size (λi=>es[i]?.map (·.hash)) (cU P w k):=by
  intro j hj;obtain⟨x,h1,h2⟩:=ip hj;refine cV.mpr ⟨fR.mpr (by rw[hsz];exact(cX.mp h1).1),?_⟩;dsimp only;rw[hat,h1];simp[c9,h2]
 have hnd:(placesWithHash es.size (λi=>es[i]?.map (·.hash)) (cU P w k)).Nodup:=List.Pairwise.filter _ List.nodup_range;generalize hpls:placesWithHash es.size (λi=>es[i]?.map (·.hash)) (cU P w k)=pls at*;have hst:∀u∈pls.filterMap (λi=>es[i]?.map (·.key)),∃j,bR P w s.heap j u:=by
  intro u hu';obtain⟨i,hi,e⟩:=yV.mp hu';obtain⟨x,h1,h2,_⟩:=cc i hi;rw[h2]at e;obtain rfl:x.2.1=u:=by simpa[c9]using e
  exact⟨x.1,his x (cE h1)⟩
 have walk:wpAny (model P w) A (dictWalkPlain d v (cU P w k) es pls) Q E s:=by
  unfold dictWalkPlain;refine aa (pW _ (λbV b s'=>s'=s/\b=(none,())/\(∀i∈bV,i∈pls)/\∀j,cw xs k=some j->j∈bV) _ ?_ ?_ _ _ ⟨rfl,rfl,λ_ h=>h,hin⟩)
  ·rintro i bV b s' ⟨rfl,rfl,hr,hj⟩;obtain⟨x,h1,h2,h3⟩:=cc i (hr i (List.mem_cons_self ..));rw[h2];dsimp only;rw[show(c9 P w x).hash=cU P w x.1 from rfl,if_pos h3];refine aa (gj ho hd (aa (pK (k:=x.1) (j:=k) hu (his x (cE h1)) hk (aa (gj ho hd ?_)))));show wpAny _ _ (if(ep != ep)=true then _ else _) _ E _;rw[if_neg (by simp)];by_cases q:x.1=k
   ·rw[aO q];have e:=oM hn h1;rw[q]at e;rw[e]at hQ;exact aa (eC (ah (ah hQ)))
   ·rw[ba q];refine aa (eC (ah ⟨rfl,rfl,λa ha=>hr a (List.mem_cons_of_mem _ ha),λj hj'=>?_⟩));rcases a9.mp (hj j hj')with e|h
    ·obtain⟨y,g1,g2⟩:=ip hj';rw[e,h1]at g1;injection g1 with g1;exact absurd (by rw[g1];exact g2) q
    ·exact h
  ·rintro b s' ⟨rfl,rfl,_,hj⟩;have e:cw xs k=none:=by
    cases q:cw xs k with
    |none=>rfl
    |some j=>exact nomatch (hj j q)
   rw[e]at hQ;exact ah hQ
 have slow:∀tells:Bool,tells=false->wpAny (model P w) A (do
   if tells&&(pls.filterMap λi=>es[i]?.map (·.key)).length≥2 then unsupported "dict.find:order-among-keys-of-one-hash"
   let mut hit:Option Nat:=none
   for i in pls do
    if let some e:=es[i]? then
     if e.hash==cU P w k then
      let before←dictEpoch d (keyPart v)
      let same←eqBool e.key v
      if(←dictEpoch d (keyPart v)) != before then unsupported "dict.changed-during-lookup"
      if same then
       if hit.isSome then unsupported "dict.find:order-among-keys-of-one-hash"
       rule "dict.find.hit"
       if(pls.filterMap λi=>es[i]?.map (·.key)).length<2 then return some i
       hit:=some i
      else
       rule "dict.find.same-hash-other-key"
       if tells&&!(0<=cU P w k&&cU P w k<32)then unsupported "dict.find:asked-again-or-not-hangs-on-the-table"
   return hit) Q E s:=by
  rintro tells rfl;rw[if_neg (by simp)];dsimp only;refine aa (pW _ (λbV b s'=>s'=s/\(∀i∈bV,i∈pls)/\bV.Nodup/\∃hit,b=(none,hit)/\((hit=none/\∀j,cw xs k=some j->j∈bV)∨(hit=cw xs k/\∀j,cw xs k=some j->j∉bV))) _ ?_ ?_ _ _ ⟨rfl,λ_ h=>h,hnd,none,rfl,.inl ⟨rfl,hin⟩⟩)
  ·rintro i bV b s' ⟨rfl,hr,hrn,hit,rfl,hj⟩;obtain⟨x,h1,h2,h3⟩:=cc i (hr i (List.mem_cons_self ..));obtain⟨hi1,hi2⟩:=cG.mp hrn;rw[h2];dsimp only;rw[show(c9 P w x).hash=cU P w x.1 from rfl,if_pos h3];refine aa (gj ho hd (aa (pK (k:=x.1) (j:=k) hu (his x (cE h1)) hk (aa (gj ho hd ?_)))));show wpAny _ _ (if(ep != ep)=true then _ else _) _ E _;rw[if_neg (by simp)];have e:=oM hn h1;by_cases q:x.1=k
   ·rw[aO q];rw[q]at e;have hh:hit=none:=by
     rcases hj with⟨z,_⟩|⟨_,z⟩
     ·exact z
     ·exact absurd (List.mem_cons_self ..) (z i e)
    subst hh;simp only[fU,Option.isSome_none,eW,dC];refine aa (eC ?_);split
    ·rw[e]at hQ;exact ah (ah hQ)
    ·refine ah ⟨rfl,λa ha=>hr a (List.mem_cons_of_mem _ ha),hi2,some i,rfl,.inr ⟨e.symm,λj hj'=>?_⟩⟩;rw[e]at hj';injection hj' with hj';subst hj';exact hi1
   ·rw[ba q];simp only[eW,dC,pY];have keep:∀j,cw xs k=some j->j≠i:=λj hj' z=>by
     obtain⟨y,g1,g2⟩:=ip hj';rw[z,h1]at g1;injection g1 with g1;exact q (by rw[g1];exact g2)
    refine aa (eC (ah ⟨rfl,λa ha=>hr a (List.mem_cons_of_mem _ ha),hi2,hit,rfl,?_⟩));rcases hj with⟨z,hz⟩|⟨z,hz⟩
    ·refine .inl ⟨z,λj hj'=>?_⟩;rcases a9.mp (hz j hj')with c|c
     ·exact absurd c (keep j hj')
     ·exact c
    ·exact .inr ⟨z,λj hj' c=>hz j hj' (List.mem_cons_of_mem _ c)⟩
  ·rintro b s' ⟨rfl,_,_,hit,rfl,hj⟩;have e:hit=cw xs k:=by
    rcases hj with⟨z,hz⟩|⟨z,_⟩
    ·cases q:cw xs k with
     |none=>exact z
     |some j=>exact nomatch (hz j q)
    ·exact z
   subst e;exact ah hQ
 unfold dictFind;try with_reducible refine dJ ?_
 refine aa (eM ho hd ?_);dsimp only;rw[hpls];split;next x t=>
  obtain⟨y,rfl⟩:∃y,k=Sum.inl y:=by
   cases k with
   |inl y=>exact⟨y,rfl⟩
   |inr ks=>obtain⟨a,e,_⟩:=hk;exact nomatch e
  obtain rfl:x=y:=by
   obtain⟨t',e⟩:=hk;injection e
  by_cases hs:(es.all λe=>isExactStrKey e.key)=true
  ·rw[if_pos hs];unfold foundByValue;have hf:es.findIdx? (λe=>e.key.isStr x)=cw xs (.inl x):=by
    unfold cw;have ea:es=(xs.map (c9 P w)).toArray:=by rw[←he]
    rw[ea,List.findIdx?_toArray,List.findIdx?_map];refine vi λy hy=>?_;have hm:=his y hy;show y.2.1.isStr x=decide (y.1=Sum.inl x);obtain⟨y1,y2,y3⟩:=y;cases y1 with
    |inl z=>
     obtain⟨t',e⟩:=hm;dsimp only at e;subst e;by_cases q:z=x
     ·subst q;simp[Value.isStr]
     ·rw[ba (λc=>q (tu c))];simp[Value.isStr,q]
    |inr ks=>
     obtain⟨a,e,_⟩:=hm;dsimp only at e;subst e;rw[ba (λc=>nomatch c)];rfl
   rw[hf];cases q:cw xs (Sum.inl x)with
   |none=>
    rw[q]at hQ;exact ah hQ
   |some j=>
    rw[q]at hQ;obtain⟨y,h1,h2⟩:=ip q;have h3:es[j]?=some (c9 P w y):=by rw[hat,h1];rfl
    dsimp only;rw[h3];refine aa (gj ho hd (aa (pK (k:=y.1) (j:=Sum.inl x) hu (his y (cE h1)) hk (aa (gj ho hd ?_)))));show wpAny _ _ (if(ep != ep)=true then _ else _) _ E _;rw[if_neg (by simp),aO h2];exact aa (eC (ah hQ))
  ·rw[if_neg hs];by_cases hc:((Value.str x t::pls.filterMap λi=>es[i]?.map (·.key)).all carriedByValue)=true
   ·rw[if_pos hc];exact walk
   ·rw[if_neg hc];show wpAny (model P w) A (if((pls.filterMap λi=>es[i]?.map (·.key))==[Value.str x t])=true then _ else _) Q E s;by_cases hone:((pls.filterMap λi=>es[i]?.map (·.key))==[Value.str x t])=true
    ·rw[if_pos hone];exact aa (ah (slow false rfl))
    ·rw[if_neg hone];exact aa (u9 hk hst (slow false rfl))
 next hns=>
  obtain⟨ks,rfl⟩:∃ks,k=Sum.inr ks:=by
   cases k with
   |inl y=>obtain⟨t,e⟩:=hk;exact absurd e (hns y t)
   |inr ks=>exact⟨ks,rfl⟩
  obtain⟨a,rfl,ha⟩:=id hk;have hc:¬((Value.ref a::pls.filterMap λi=>es[i]?.map (·.key)).all carriedByValue)=true:=by simp[carriedByValue]
  rw[if_neg hc];have hany:¬(es.any λe=>e.key==Value.ref a&&e.hash != cU P w (Sum.inr ks))=true:=by
   rw[←Array.any_toList,je];rintro⟨e,h1,h2⟩;rw[he]at h1;obtain⟨x,hx,rfl⟩:=bh.mp h1;simp only[c9,dH,d9,bne_iff_ne,ne_eq]at h2;have h3:=his x hx;rw[h2.1]at h3;exact h2.2 (by rw[uL h3 hk])
  rw[if_neg hany];by_cases hone:((pls.filterMap λi=>es[i]?.map (·.key))==[Value.ref a])=true
  ·rw[if_pos hone];exact aa (ah (slow false rfl))
  ·rw[if_neg hone];exact aa (u9 hk hst (slow false rfl))
end
def cJ(P:Program)(w:World)(h:Heap)(d:Addr)(xs:List (MK×Value×Value)):Prop:=
 ∃o es ep,h.get? d=some o/\o.ExactDict/\o.data= .dict es ep/\es.toList=xs.map (c9 P w)/\(xs.map (·.1)).Nodup
def cC(xs:List (MK×Value×Value))(k:MK):Option Value:=(xs.find? λx=>decide (x.1=k)).map (·.2.2)
def f7(k:MK)(v:Value)(x:MK×Value×Value):MK×Value×Value:=if x.1=k then(x.1,x.2.1,v)else x
def iU(xs:List (MK×Value×Value))(k:MK)(u v:Value):List (MK×Value×Value):=if(cC xs k).isSome then xs.map (f7 k v)else xs++[(k,u,v)]
def jy(xs:List (MK×Value×Value))(k:MK):List (MK×Value×Value):=xs.filter λx=>decide (x.1≠k)
theorem uP:cC xs k=(cw xs k).bind λj=>xs[j]?.map (·.2.2):=by
 unfold cC cw
 induction xs with
 |nil=>rfl
 |cons x xs ih=>
  rw[mR,pX];by_cases e:x.1=k
  ·simp[e]
  ·simp only[ba e,eW,dC];rw[ih];cases List.findIdx? (λx=>decide (x.1=k)) xs with
   |none=>rfl
   |some j=>simp
theorem sD{x:MK×Value×Value}(h:cw xs k=some j)(hx:xs[j]?=some x):cC xs k=some x.2.2:=by rw[uP,h];simp[hx]
theorem qN(h:cw xs k=none):cC xs k=none:=by rw[uP,h];rfl
theorem zI(h:cw xs k=some j):j<xs.length:=by
 obtain⟨x,h1,_⟩:=ip h;exact(cX.mp h1).1
theorem Dy(v:Value)(h:∀x∈xs,x.1≠k):xs.map (f7 k v)=xs:=by
 induction xs with
 |nil=>rfl
 |cons x xs ih=>
  rw[aW,f7,if_neg (h x (List.mem_cons_self ..)),ih λy hy=>h y (List.mem_cons_of_mem _ hy)]
theorem zU(xs:List (MK×Value×Value))(k:MK)(v:Value):(xs.map (f7 k v)).map (·.1)=xs.map (·.1):=by
 rw[List.map_map];refine mU λx _=>?_;show(f7 k v x).1=x.1;unfold f7;split<;>rfl
theorem wk{P:Program}{w:World}{k:MK}{v:Value}:∀{xs:List (MK×Value×Value)} {j:Nat},(xs.map (·.1)).Nodup->cw xs k=some j->(xs.map (c9 P w)).modify j (λe=>{e with val:=v})=(xs.map (f7 k v)).map (c9 P w)
 | [],j,_,h=>by cases h
 |x::xs,j,hn,h=>by
  rw[aW,cG]at hn;unfold cw at h;rw[pX]at h;by_cases e:x.1=k
  ·simp only[aO e,fU,pZ]at h;subst h;have hno:∀y∈xs,y.1≠k:=λy hy q=>hn.1 (bh.mpr ⟨y,hy,q.trans e.symm⟩);rw[aW,aW,aW,Dy v hno,f7,if_pos e,List.modify_zero_cons];rfl
  ·simp only[ba e,eW,dC]at h;cases q:List.findIdx? (λx=>decide (x.1=k)) xs with
   |none=>rw[q]at h;cases h
   |some i=>
    rw[q]at h;simp only[mV,pZ]at h;subst h;rw[aW,aW,aW,pR,wk hn.2 (show cw xs k=some i from q),f7,if_neg e]
theorem vF{P:Program}{w:World}{k:MK}:∀{xs:List (MK×Value×Value)} {j:Nat},(xs.map (·.1)).Nodup->cw xs k=some j->(xs.map (c9 P w)).eraseIdx j=(jy xs k).map (c9 P w)
 | [],j,_,h=>by cases h
 |x::xs,j,hn,h=>by
  rw[aW,cG]at hn;unfold cw at h;rw[pX]at h;unfold jy;rw[dA];by_cases e:x.1=k
  ·simp only[aO e,fU,pZ]at h;subst h;rw[if_neg (by simp[e]),aW,List.eraseIdx_zero,List.tail_cons,yW.mpr];intro y hy;have:y.1≠k:=λq=>hn.1 (bh.mpr ⟨y,hy,q.trans e.symm⟩);simpa using this
  ·simp only[ba e,eW,dC]at h;cases q:List.findIdx? (λx=>decide (x.1=k)) xs with
   |none=>rw[q]at h;cases h
   |some i=>
    rw[q]at h;simp only[mV,pZ]at h;subst h;rw[if_pos (by simpa using e),aW,aW,List.eraseIdx_cons_succ,vF hn.2 (show cw xs k=some i from q)];rfl
section
variable{P:Program}{w:World}{A:Around}{E:Value->Shared->Prop}{s:Shared}{d:Addr}{xs:List (MK×Value×Value)}{k:MK}{u v:Value}
theorem cJ.typeIs(hm:cJ P w s.heap d xs):s.TypeIs (.ref d) "dict":=let⟨o,_,_,ho,hc,_⟩:=hm;⟨o,ho,hc.1⟩
theorem rm{Q:Option Value->Shared->Prop}(hu:A.units<cLine)(hk:bR P w s.heap k u)(hm:cJ P w s.heap d xs)(his:∀x∈xs,bR P w s.heap x.1 x.2.1)
  (h:Q (cC xs k) {s with toks:=s.toks+dG k}):wpAny (model P w) A (dictGet d u) Q E s:=by
 obtain⟨o,es,ep,ho,hc,hd,he,hn⟩:=hm;unfold dictGet;try with_reducible refine dJ ?_
 refine aa (qO hu hk (aa (qU (s:={s with toks:=s.toks+dG k}) hu hk ho hd he his hn ?_)));cases q:cw xs k with
 |none=>
  rw[qN q]at h;exact ah h
 |some j=>
  obtain⟨x,h1,h2⟩:=ip q;rw[sD q h1]at h;refine aa (eM (s:={s with toks:=s.toks+dG k}) ho hd (ah ?_));have:es[j]?=some (c9 P w x):=by rw[←jN,he,bY,h1];rfl
  rw[this];exact h
theorem xq{Q:Unit->Shared->Prop}(hu:A.units<cLine)(hk:bR P w s.heap k u)(hm:cJ P w s.heap d xs)(his:∀x∈xs,bR P w s.heap x.1 x.2.1)(hsz:xs.length<=sizeLine)
  (hQ:∀h',cJ P w h' d (iU xs k u v)->Heap.SameBut d s.heap h'->Q () {s with heap:=h',toks:=s.toks+dG k}):wpAny (model P w) A (dictSet d u v) Q E s:=by
 obtain⟨o,es,ep,ho,hc,hd,he,hn⟩:=hm;have hes:es.size=xs.length:=by rw[←gh,he,List.length_map]
 unfold dictSet;try with_reducible refine dJ ?_
 refine aa (qO hu hk ?_);unfold dictSetHashed;try with_reducible refine dJ ?_
 refine aa (qU (s:={s with toks:=s.toks+dG k}) hu hk ho hd he his hn ?_);cases q:cw xs k with
 |none=>
  have e1:iU xs k u v=xs++[(k,u,v)]:=by unfold iU;rw[qN q];rfl
  refine aa (eC (wpAny_updateDictKeys (hz:=by omega) (s:={s with toks:=s.toks+dG k}) ho hd (hQ _ ⟨_,_,ep+1,gJ _ ho (tD (mW hd _)),hc.mapDictKeys _,mW hd _,?_,?_⟩ (iy ..))))
  ·rw[e1];simp[he,c9]
  ·rw[e1,cf,kQ];refine⟨hn,by simp,?_⟩;intro a ha b hb e;simp only[aW,List.map_nil,cF]at hb;obtain⟨x,hx,rfl⟩:=bh.mp ha;exact vN q x hx (e.trans hb)
 |some j=>
  obtain⟨x,h1,h2⟩:=ip q;have e1:iU xs k u v=xs.map (f7 k v):=by unfold iU;rw[sD q h1];rfl
  refine aa (eC (aa (wpAny_updateDict (s:={s with toks:=s.toks+dG k}) ho hd (wpAny_point (hQ _ ⟨_,_,ep,gJ _ ho (tD (Obj.data_mapDict hd _)),hc.mapDict _,Obj.data_mapDict hd _,?_,?_⟩ (iy ..))))))
  ·rw[e1];have:=wk (P:=P) (w:=w) (v:=v) hn q;rw[←he]at this;obtain⟨l⟩:=es;simpa using this
  ·rw[e1,zU];exact hn
theorem mq{Q:Option DictEntry->Shared->Prop}(hu:A.units<cLine)(hk:bR P w s.heap k u)(hm:cJ P w s.heap d xs)(his:∀x∈xs,bR P w s.heap x.1 x.2.1)(hsz:xs.length<=sizeLine)
  (hnone:cC xs k=none->Q none {s with toks:=s.toks+dG k})
  (hsome:∀e,cC xs k=some e.val->∀h',cJ P w h' d (jy xs k)->Heap.SameBut d s.heap h'->Q (some e) {s with heap:=h',toks:=s.toks+dG k}):wpAny (model P w) A (Builtin.Dict.takeOut d u) Q E s:=by
 obtain⟨o,es,ep,ho,hc,hd,he,hn⟩:=hm;have hes:es.size=xs.length:=by rw[←gh,he,List.length_map]
 unfold Builtin.Dict.takeOut;try with_reducible refine dJ ?_
 refine aa (qO hu hk (aa (qU (s:={s with toks:=s.toks+dG k}) hu hk ho hd he his hn ?_)));cases q:cw xs k with
 |none=>exact ah (hnone (qN q))
 |some j=>
  obtain⟨x,h1,h2⟩:=ip q;have e1:es[j]?=some (c9 P w x):=by rw[←jN,he,bY,h1];rfl
  refine aa (eM (s:={s with toks:=s.toks+dG k}) ho hd ?_);rw[e1];refine aa (wpAny_updateDictKeys (hz:=by omega) (s:={s with toks:=s.toks+dG k}) ho hd (ah (hsome _ (sD q h1) _ ⟨_,_,ep+1,gJ _ ho (tD (mW hd _)),hc.mapDictKeys _,mW hd _,?_,?_⟩ (iy ..))))
  ·rw[←vF hn q,←he];obtain⟨l⟩:=es;have hj:j<l.length:=by have:=zI q;rw[←hes]at this;simpa using this
   simp[Array.eraseIdxIfInBounds,hj]
  ·unfold jy;exact(List.Sublist.map _ jd).nodup hn
theorem xS{Q:Bool->Shared->Prop}(hu:A.units+1<cLine)(hd:(d==sysModules)=false)(hk:bR P w s.heap k u)(hm:cJ P w s.heap d xs)(his:∀x∈xs,bR P w s.heap x.1 x.2.1)
  (h:Q (cC xs k).isSome {s with toks:=s.toks+dG k}):wpAny (model P w) A (contains (.ref d) u) Q E s:=by
 unfold contains;try with_reducible refine dJ ?_
 refine aa (p0 hm.typeIs yX.lookup ?_);show wpAny _ _ (if(some (Value.builtin "dict.__contains__")==some Value.none)=true then _ else _) _ E s;rw[if_neg (by rw[beq_builtin_none];exact c0)];refine aa (wpAny_callSpecialUnlessNone?_slot (name:=Str.ofString "__contains__") hm.typeIs yX (fV yX hm.typeIs entry_dict_contains ?_ (args_dict_contains _ _)));show wpAny _ _ (dictGet d u >>= _) _ _ s;refine aa (rm hu hk hm his ?_);cases hf:cC xs k with
 |some p=>
  rw[hf]at h;show wpAny _ _ (ret (.bool true)) _ _ _;exact ah ⟨_,rfl,gY h⟩
 |none=>
  rw[hf]at h;show wpAny _ _ (Builtin.Dict.pendingKey? d u >>= _) _ _ _;exact aa (wpAny_pendingKey_other hd (ah ⟨_,rfl,gY h⟩))
theorem EE(hu:A.units+1<cLine)(hd:(d==sysModules)=false)(hk:bR P w s.heap k u)(hm:cJ P w s.heap d xs)(his:∀x∈xs,bR P w s.heap x.1 x.2.1)
  (h:Q (.bool (cC xs k).isSome) {s with toks:=s.toks+dG k}):wpAny (model P w) A (compareOp .In u (.ref d)) Q E s:=by
 show wpAny _ _ (do return .bool (←contains (.ref d) u)) Q E s;exact aa (xS hu hd hk hm his (ah h))
theorem zA(hu:A.units+1<cLine)(hd:(d==sysModules)=false)(hk:bR P w s.heap k u)(hm:cJ P w s.heap d xs)(his:∀x∈xs,bR P w s.heap x.1 x.2.1)
  (h:Q (.bool (!(cC xs k).isSome)) {s with toks:=s.toks+dG k}):wpAny (model P w) A (compareOp .NotIn u (.ref d)) Q E s:=by
 show wpAny _ _ (do return .bool (!(←contains (.ref d) u))) Q E s;exact aa (xS hu hd hk hm his (ah h))
theorem Bj(hu:A.units+1<cLine)(hk:bR P w s.heap k u)(hm:cJ P w s.heap d xs)(his:∀x∈xs,bR P w s.heap x.1 x.2.1)(hv:cC xs k=some v)
  (h:Q v {s with toks:=s.toks+dG k}):wpAny (model P w) A (getItem (.ref d) u) Q E s:=by
 unfold getItem;try with_reducible refine dJ ?_
 refine aa (wpAny_sequenceKey hm.typeIs (by decide) ?_);refine aa (gZ (name:=Str.ofString "__getitem__") hm.typeIs slot_dict_getitem (fV slot_dict_getitem hm.typeIs entry_dict_getitem ?_ (args_dict_getitem _ _)));show wpAny _ _ (dictGet d u >>= _) _ _ s;refine aa (rm hu hk hm his ?_);rw[hv];exact ah ⟨v,rfl,ah h⟩
theorem AO{Q:Unit->Shared->Prop}(hu:A.units+1<cLine)(hk:bR P w s.heap k u)(hm:cJ P w s.heap d xs)(his:∀x∈xs,bR P w s.heap x.1 x.2.1)(hsz:xs.length<=sizeLine)
  (hQ:∀h',cJ P w h' d (iU xs k u v)->Heap.SameBut d s.heap h'->Q () {s with heap:=h',toks:=s.toks+dG k}):wpAny (model P w) A (setItem (.ref d) u v) Q E s:=by
 unfold setItem;try with_reducible refine dJ ?_
 refine aa (wpAny_sequenceKey hm.typeIs (by decide) ?_);refine aa (gZ (name:=Str.ofString "__setitem__") hm.typeIs slot_dict_setitem (fV slot_dict_setitem hm.typeIs entry_dict_setitem ?_ (args_dict_setitem _ _ _)));show wpAny _ _ (Builtin.Dict.notOrdered "__setitem__" ⟨[.ref d,u,v],[]⟩ >>= _) _ _ s;refine aa (mX hm.typeIs ?_);show wpAny _ _ (dictSet d u v >>= _) _ _ s;exact aa (xq hu hk hm his hsz λh' hm' hs'=>ah ⟨.none,rfl,ah (hQ h' hm' hs')⟩)
theorem Dr(hd:(d==sysModules)=false)(dflt:Value):
  MeetsIn P w (Builtin.«dict.get» ⟨[.ref d,u,dflt],[]⟩) (λA R s=>A.units+1<cLine/\∃k xs,bR P w s.heap k u/\cJ P w s.heap d xs/\(∀x∈xs,bR P w s.heap x.1 x.2.1)/\
   R (.ok (.ret ((cC xs k).getD dflt))) {s with toks:=s.toks+dG k}):=
 .of_wp λA R s ⟨hu,k,xs,hk,hm,his,h⟩=>by
  show wpAny _ _ (dictGet d u >>= _) _ _ s;refine aa (rm hu hk hm his ?_);cases hf:cC xs k with
  |some v=>
   rw[hf]at h;exact ah ⟨v,rfl,h⟩
  |none=>
   rw[hf]at h;show wpAny _ _ (Builtin.Dict.missed d u >>= _) _ _ _;exact aa (wpAny_missed_other hd (ah ⟨dflt,rfl,h⟩))
theorem Bd(bV:List Value)(hrest:bV=[]∨∃dflt,bV=[dflt]):
  MeetsIn P w (Builtin.«dict.pop» ⟨.ref d::u::bV,[]⟩) (λA R s=>A.units+1<cLine/\∃k xs v,bR P w s.heap k u/\cJ P w s.heap d xs/\(∀x∈xs,bR P w s.heap x.1 x.2.1)/\xs.length<=sizeLine/\cC xs k=some v/\
   ∀h',cJ P w h' d (jy xs k)->Heap.SameBut d s.heap h'->R (.ok (.ret v)) {s with heap:=h',toks:=s.toks+dG k}):=
 .of_wp λA R s ⟨hu,k,xs,v,hk,hm,his,hsz,hv,h⟩=>by
  obtain⟨o,es,ep,ho,hc,hd,he,hn⟩:=id hm;have hne:es.isEmpty=false:=by
   cases q:es.isEmpty with
   |false=>rfl
   |true=>
    exfalso;have e0:es=#[]:=Array.isEmpty_iff.mp q;subst e0;cases xs with
    |nil=>simp[cC]at hv
    |cons a b=>simp at he
  unfold Builtin.«dict.pop»;refine aa ?_;unfold Builtin.Dict.keyAndDefault;refine aa (mX hm.typeIs ?_);rcases hrest with rfl|⟨dflt,rfl⟩
  ·show wpAny _ _ (pure (d,u,none)) _ _ s;refine ah ?_;dsimp only;by_cases q0:(keyPart u).isSome=true
   ·rw[if_pos q0];refine aa (ah ?_);rw[if_neg (by decide)];refine aa (mq hu hk hm his hsz (λq=>by rw[hv]at q;cases q) λe q h' hm' hs'=>?_);rw[hv]at q;injection q with q;rw[if_neg (by simp)];exact aa (gm (ah ⟨e.val,rfl,by rw[←q];exact h h' hm' hs'⟩))
   ·rw[if_neg q0];refine aa (eM ho hd (aa (ah ?_)));rw[hne,if_neg (by decide)];refine aa (mq hu hk hm his hsz (λq=>by rw[hv]at q;cases q) λe q h' hm' hs'=>?_);rw[hv]at q;injection q with q;rw[if_neg (by simp)];exact aa (gm (ah ⟨e.val,rfl,by rw[←q];exact h h' hm' hs'⟩))
  ·show wpAny _ _ (pure (d,u,some dflt)) _ _ s;refine ah ?_;dsimp only;by_cases q0:(keyPart u).isSome=true
   ·rw[if_pos q0];refine aa (ah ?_);rw[if_neg (by decide)];refine aa (mq hu hk hm his hsz (λq=>by rw[hv]at q;cases q) λe q h' hm' hs'=>?_);rw[hv]at q;injection q with q;rw[if_neg (by simp)];exact aa (gm (ah ⟨e.val,rfl,by rw[←q];exact h h' hm' hs'⟩))
   ·rw[if_neg q0];refine aa (eM ho hd (aa (ah ?_)));rw[hne,if_neg (by decide)];refine aa (mq hu hk hm his hsz (λq=>by rw[hv]at q;cases q) λe q h' hm' hs'=>?_);rw[hv]at q;injection q with q;rw[if_neg (by simp)];exact aa (gm (ah ⟨e.val,rfl,by rw[←q];exact h h' hm' hs'⟩))
theorem Ab(hd:(d==sysModules)=false)(dflt:Value):
  MeetsIn P w (Builtin.«dict.pop» ⟨[.ref d,u,dflt],[]⟩) (λA R s=>A.units+1<cLine/\∃k xs,bR P w s.heap k u/\cJ P w s.heap d xs/\(∀x∈xs,bR P w s.heap x.1 x.2.1)/\xs.length<=sizeLine/\cC xs k=none/\
   ∀tk,R (.ok (.ret dflt)) {s with toks:=tk}):=
 .of_wp λA R s ⟨hu,k,xs,hk,hm,his,hsz,hv,h⟩=>by
  obtain⟨o,es,ep,ho,hc,hdat,he,hn⟩:=id hm;unfold Builtin.«dict.pop»;refine aa ?_;unfold Builtin.Dict.keyAndDefault;refine aa (mX hm.typeIs ?_);show wpAny _ _ (pure (d,u,some dflt)) _ _ s;refine ah ?_;dsimp only;have tail:∀tk,wpAny (model P w) A.in1 (if(none:Option DictEntry).isNone=true then do
    let r←Builtin.Dict.missedRemoval d u
    rule "dict.pop.default"
    ret dflt else do
    rule "dict.pop.default"
    ret dflt) (λfin s'=>∃v,fin= .done (.ret v)/\R (.ok (.ret v)) s') (λe s'=>R (.error e) s') {s with toks:=tk}:=λtk=>by
   rw[if_pos (by rfl)];refine aa (wpAny_missedRemoval_other hd ?_);exact aa (eC (ah ⟨dflt,rfl,h _⟩))
  have old:wpAny (model P w) A.in1 (do
    let old←Builtin.Dict.takeOut d u
    if old.isNone=true then do
     let r←Builtin.Dict.missedRemoval d u
     match old,some dflt with
     |some e,x=>do
      letGo [e.key] [e.val]
      ret e.val
     |none,some x=>do
      rule "dict.pop.default"
      ret x
     |none,none=>do
      rule "dict.pop.keyerror"
      raiseNew (←newExc (.type "KeyError") [u])
    else match old,some dflt with
     |some e,x=>do
      letGo [e.key] [e.val]
      ret e.val
     |none,some x=>do
      rule "dict.pop.default"
      ret x
     |none,none=>do
      rule "dict.pop.keyerror"
      raiseNew (←newExc (.type "KeyError") [u])) (λfin s'=>∃v,fin= .done (.ret v)/\R (.ok (.ret v)) s') (λe s'=>R (.error e) s') s:=
   aa (mq hu hk hm his hsz (λ_=>tail _) λe q=>by rw[hv]at q;cases q)
  by_cases q0:(keyPart u).isSome=true
  ·rw[if_pos q0];refine aa (ah ?_);rw[if_neg (by decide)];exact old
  ·rw[if_neg q0];refine aa (eM ho hdat (aa (ah ?_)));cases q1:es.isEmpty with
   |false=>
    rw[if_neg (by decide)];exact old
   |true=>
    rw[if_pos rfl];exact aa (eC (aa (ah (tail s.toks))))
theorem Fc(hd:(d==sysModules)=false):
  MeetsIn P w (Builtin.«dict.__len__» ⟨[.ref d],[]⟩) (λ_ R s=>∃xs,cJ P w s.heap d xs/\R (.ok (.ret (.int xs.length s.toks))) {s with toks:=s.toks+1}):=
 .of_wp λA R s ⟨xs,hm,h⟩=>by
  obtain⟨o,es,ep,ho,hc,hdat,he,hn⟩:=hm;have hes:es.size=xs.length:=by rw[←gh,he,List.length_map]
  show wpAny _ _ (dictSize d >>= _) _ _ s;unfold dictSize;refine aa (aa (eM ho hdat (ah ?_)));show wpAny _ _ (Builtin.Dict.pendingCount d >>= _) _ _ s;refine aa (wpAny_pendingCount_other hd ?_);refine aa (wpAny_mkInt (ah ⟨_,rfl,?_⟩));rw[←hes]at h;simpa using h
theorem CV(hd:(d==sysModules)=false)(hm:cJ P w s.heap d xs)(hsz:xs.length<=sizeLine)(h:∀t tk,Q (.int xs.length t) {s with toks:=tk}):wpAny (model P w) A (call (.builtin "len") [.ref d]) Q E s:=by
 have hfit:(xs.length:Int)<2^63:=by rw[sizeLine_eq]at hsz;omega
 refine Calls.call_function_entry kind_len plain_len entry_len (args_len1 _) ?_;unfold Builtin.«len»;refine aa (m:=oneArg "len" _) (ah ?_);refine aa (m:=callSpecial? (.ref d) (Str.ofString "__len__")) (gZ (name:=Str.ofString "__len__") hm.typeIs F.slot_dict_len
  (tE F.slot_dict_len hm.typeIs F.entry_dict_len (F.args_dict_len_1 _) (Fc hd) ⟨xs,hm,?_⟩))
 show wpAny _ _ _ _ _ {s with toks:=s.toks+1};refine aa (dJ (ah ?_));refine aa (gm ?_);show wpAny _ _ (if((xs.length:Nat):Int)<0 then _ else _) _ _ _;rw[if_neg (by omega)];show wpAny _ _ (if((xs.length:Nat):Int)≥2^63 then _ else _) _ _ _;rw[if_neg (by omega)];exact aa (wpAny_mkInt (ah ⟨_,rfl,h _ _⟩))
end
theorem x8{α:Type}{p:α->Bool}:∀{l:List α},l.Nodup->(∀a∈l,∀b∈l,p a=true->p b=true->a=b)->(l.filter p).length<=1
 | [],_,_=>by simp
 |a::l,hn,h=>by
  obtain⟨h1,h2⟩:=cG.mp hn;have ih:=x8 h2 λx hx y hy=>h x (List.mem_cons_of_mem _ hx) y (List.mem_cons_of_mem _ hy);rw[dA];split
  ·rename_i q;have:l.filter p=[]:=List.filter_eq_nil_iff.mpr λb hb r=>by
    have:=h a (List.mem_cons_self ..) b (List.mem_cons_of_mem _ hb) q r;subst this;exact h1 hb
   rw[this];simp
  ·exact ih
section
variable{P:Program}{w:World}{A:Around}{E:Value->Shared->Prop}{s:Shared}{d o:Addr}{xs:List (MK×Value×Value)}
theorem BM{k:List dh}{Q:Bool->Shared->Prop}(ha:(tupleKind (ed P w)).is s.heap k a)(h:Q false s):wpAny (model P w) A (Builtin.Dict.quietEq (.ref a)) Q E s:=by
 obtain⟨ob,its,n,h1,h2,h3,_⟩:=ha;have hT:s.TypeIs (.ref a) "tuple":=⟨ob,h1,h2⟩;unfold Builtin.Dict.quietEq;exact aa (p0 hT F.slot_tuple_eq.lookup (ah (by
  have e:(some (Value.builtin "tuple.__eq__")==some (Value.builtin "object.__eq__"))=false:=by decide +kernel
  rw[e];exact h)))
theorem AB{nm:String}{Q:Unit->Shared->Prop}(hdo:d≠o)(hoS:(o==sysModules)=false)(hd:cJ P w s.heap d [])(ho:cJ P w s.heap o xs)(his:∀x∈xs,bR P w s.heap x.1 x.2.1)
  (ht:∀x∈xs,∃ks,x.1=Sum.inr ks) (hinj:∀x∈xs,∀y∈xs,cU P w x.1=cU P w y.1->x.1=y.1) (hsz:xs.length<=sizeLine)
  (hQ:∀h',cJ P w h' d xs->Heap.SameBut d s.heap h'->Q () {s with heap:=h'}):wpAny (model P w) A (Builtin.Dict.mergeDict nm d o) Q E s:=by
 obtain⟨od,esd,epd,hod,hcd,hdd,hed,hnd⟩:=id hd;obtain⟨oo,es,epo,hoo,hco,hdat,he,hn⟩:=id ho;have e0:esd=#[]:=by
  rw[List.map_nil]at hed;exact Gv.mp hed
 subst e0;have hes:es.size=xs.length:=by rw[←gh,he,List.length_map]
 unfold Builtin.Dict.mergeDict;rw[if_neg (by simpa using hdo)];unfold Builtin.Dict.showsAll;rw[if_neg (by rw[hoS];exact c0)];refine aa (ah ?_);refine aa (eM hoo hdat ?_);dsimp only;cases xs with
 |nil=>
  have e1:es=#[]:=by
   rw[List.map_nil]at he;exact Gv.mp he
  subst e1;rw[if_neg (by simp)];refine aa (gj hoo hdat (aa (eM hoo hdat ?_)));rw[Std.Legacy.Range.forIn_eq_forIn_range'];exact aa (ah (ah (hQ _ hd (Heap.SameBut.refl _ _))))
 |cons x0 xr=>
  have hfew:(decide (es.size<=8)&&es.all λe=>(keyPart e.key).isSome)=false:=by
   have:(es.all λe=>(keyPart e.key).isSome)=false:=by
    rw[←Array.all_toList,he,aW,kR];obtain⟨ks,e1⟩:=ht x0 (List.mem_cons_self ..);have h0:=his x0 (List.mem_cons_self ..);rw[e1]at h0;obtain⟨a,e2,_⟩:=h0;have:(keyPart (c9 P w x0).key).isSome=false:=by
     show(keyPart x0.2.1).isSome=false;rw[e2];rfl
    rw[this];rfl
   rw[this,tF]
  rw[hfew,if_pos (by decide)];refine aa (eM hod hdd ?_);rw[if_pos (by rfl)];refine aa ?_;unfold Builtin.Dict.entriesForEmpty;refine aa (eM hoo hdat ?_);refine aa ?_;rw[←Array.forIn_toList];refine pW _ (λbV _ s'=>s'=s/\∀e∈bV,e∈es.toList) _ ?_ ?_ _ _ ⟨rfl,λ_ h=>h⟩
  ·rintro e bV b s' ⟨rfl,hr⟩;have hm:=hr e (List.mem_cons_self ..);have hm':=hm;rw[he]at hm;obtain⟨x,hx,rfl⟩:=bh.mp hm;obtain⟨ks,e1⟩:=ht x hx;have h0:=his x hx;rw[e1]at h0;obtain⟨a,e2,ha⟩:=h0;have e3:(c9 P w x).key= .ref a:=e2;rw[e3];refine aa (BM ha ?_);rw[if_pos (by decide)];have hone:¬(es.filter λe'=>e'.hash==(c9 P w x).hash).size>1:=by
    have:(es.filter λe'=>e'.hash==(c9 P w x).hash).size=(es.toList.filter λe'=>e'.hash==(c9 P w x).hash).length:=by
     rw[←Array.toList_filter,gh]
    rw[this,he];refine Nat.not_lt.mpr (x8 ?_ ?_)
    ·have hxn:(x0::xr).Pairwise (λp q=>p.1≠q.1):=mY.mp hn;refine mY.mpr (tG (λ{p q} hp hq hne e=>hne ?_) hxn);exact hinj p hp q hq (dr DictEntry.hash e)
    ·intro p hp q hq h1 h2;obtain⟨p',hp',rfl⟩:=bh.mp hp;obtain⟨q',hq',rfl⟩:=bh.mp hq;have a1:cU P w p'.1=cU P w x.1:=eq_of_beq h1;have a2:cU P w q'.1=cU P w x.1:=eq_of_beq h2;have a3:=hinj p' hp' q' hq' (a1.trans a2.symm);obtain⟨i,hi⟩:=eV.mp hp';obtain⟨j,hj⟩:=eV.mp hq';have b1:cw (x0::xr) p'.1=some i:=oM hn hi;have b2:cw (x0::xr) q'.1=some j:=oM hn hj;rw[←a3,b1]at b2;injection b2 with b2;subst b2;rw[hi]at hj;injection hj with hj;rw[hj]
   rw[if_neg hone];exact ah ⟨rfl,λe' h'=>hr e' (List.mem_cons_of_mem _ h')⟩
  ·rintro b s' ⟨rfl,_⟩;refine ah ?_;have hnotempty:es.isEmpty=false:=by
    cases q:es.isEmpty with
    |false=>rfl
    |true=>
     have:=Array.isEmpty_iff.mp q;subst this;simp at he
   rw[hnotempty,if_pos (by decide)];refine aa (wpAny_updateDictKeysTo hod hdd (ah (hQ _ ⟨_,_,epd+1,gJ _ hod (tD (mW hdd _)),hcd.mapDictKeys _,mW hdd _,he,hn⟩ (iy ..))) ?_);show es.size<=sizeLine+1;omega
theorem ug(h:Heap):cJ P w (h.push {cls:=.type "dict",data:=.dict #[]}) h.objs.size []:=⟨_,#[],0,cn _ rfl,⟨rfl,rfl,rfl⟩,rfl,rfl,List.nodup_nil⟩
theorem Er(hoS:(o==sysModules)=false)(ho:cJ P w s.heap o xs)(his:∀x∈xs,bR P w s.heap x.1 x.2.1)
  (ht:∀x∈xs,∃ks,x.1=Sum.inr ks) (hinj:∀x∈xs,∀y∈xs,cU P w x.1=cU P w y.1->x.1=y.1) (hsz:xs.length<=sizeLine)
  (h:∀h',cJ P w h' s.heap.objs.size xs->Heap.SameBut s.heap.objs.size (s.heap.push {cls:=.type "dict",data:=.dict #[]}) h'->Q (.ref s.heap.objs.size) {s with heap:=h'}):
  wpAny (model P w) A (call (.type "dict") [.ref o]) Q E s:=by
 refine callType_codes (Q₁:=λobj s₁=>obj= .ref s.heap.objs.size/\s₁={s with heap:=s.heap.push {cls:=.type "dict",data:=.dict #[]} }) F.kt_called_dict (F.kt_typeCall_dict_1 _) F.entry_dict_init (kt_code_dict_new _ ⟨rfl,rfl⟩) ?_;rintro obj s₁ ⟨rfl,rfl⟩;have hnew:cJ P w (s.heap.push {cls:=.type "dict",data:=.dict #[]}) s.heap.objs.size []:=ug s.heap;have keep:∀b ob,s.heap.get? b=some ob->(s.heap.push {cls:=.type "dict",data:=.dict #[]}).get? b=some ob:=λb ob q=>bJ _ q;have ho':cJ P w (s.heap.push {cls:=.type "dict",data:=.dict #[]}) o xs:=let⟨a,b,c,e1,e2⟩:=ho;⟨a,b,c,keep _ _ e1,e2⟩;have his':∀x∈xs,bR P w (s.heap.push {cls:=.type "dict",data:=.dict #[]}) x.1 x.2.1:=λx hx=>by
  have h0:=his x hx;cases e:x.1 with
  |inl y=>rw[e]at h0;exact h0
  |inr ks=>
   rw[e]at h0;obtain⟨a,e2,ob,its,n,h1,h2⟩:=h0;exact⟨a,e2,ob,its,n,keep _ _ h1,h2⟩
 have hdo:s.heap.objs.size≠o:=by
  obtain⟨_,_,_,hg,_⟩:=ho;exact λe=>absurd (bp hg) (by rw[e];exact fW _)
 have hT:Shared.TypeIs {s with heap:=s.heap.push {cls:=.type "dict",data:=.dict #[]} } (.ref s.heap.objs.size) "dict":=hnew.typeIs (s:={s with heap:=s.heap.push {cls:=.type "dict",data:=.dict #[]} });have hTo:Shared.TypeIs {s with heap:=s.heap.push {cls:=.type "dict",data:=.dict #[]} } (.ref o) "dict":=ho'.typeIs (s:={s with heap:=s.heap.push {cls:=.type "dict",data:=.dict #[]} });refine⟨hT,F.args_dict_init_2 _ _,?_⟩;unfold Builtin.«dict.__init__»;refine aa ?_;unfold Builtin.Dict.selfAndRest;refine aa (mX hT ?_);show wpAny _ _ (pure (s.heap.objs.size,[Value.ref o])) _ _ _;refine ah ?_;show wpAny _ _ (Builtin.Dict.updateFrom "dict.__init__" s.heap.objs.size (.ref o) [] .none) _ _ _;unfold Builtin.Dict.updateFrom;refine aa (tH hTo ?_);rw[if_neg (by decide)];refine aa ?_;unfold Builtin.Dict.merge;refine aa ?_;unfold Builtin.Dict.readDirectly;refine aa (p6 hTo isSubtype_dict_dict ?_);simp only[Bool.not_true,eW,dC];refine aa (p0 hTo yY.lookup (ah ?_));simp only[tI,fU];refine aa (ah ?_);refine AB (s:={s with heap:=s.heap.push {cls:=.type "dict",data:=.dict #[]} }) hdo hoS hnew ho' his' ht hinj hsz λh' hd' hs'=>?_;show wpAny _ _ (Builtin.Dict.addKeywords s.heap.objs.size [] >>= _) _ _ _;exact aa (ah (ah ⟨rfl,h h' hd' hs'⟩))
end
def rk(g:Keyed->Int)(xs:Array Keyed)(i:Nat):Int:=(xs[i]?.map g).getD 0
def Up(g:Keyed->Int)(xs:Array Keyed)(k:Nat):Prop:=∀i j,i<j->j<k->rk g xs i<rk g xs j
def Dn(g:Keyed->Int)(xs:Array Keyed)(k:Nat):Prop:=∀i j,i<j->j<k->rk g xs j<rk g xs i
structure Sg(g:Keyed->Int)(kd:SortKind)(a0:Array Keyed)(st:SortSt):Prop where
 perm:(arrOf st).Perm a0
 kind:kindOf st=kd
 fail:failedOf st=none
 pend:pendingOf st=#[]
 nd:(a0.toList.map g).Nodup
theorem E1{g:Keyed->Int}{xs ys:Array Keyed}(h:xs[i]?=ys[j]?):rk g xs i=rk g ys j:=by unfold rk;rw[h]
section
variable{g:Keyed->Int}{kd:SortKind}{a0:Array Keyed}{st:SortSt}
theorem Sg.size(S:Sg g kd a0 st):(arrOf st).size=a0.size:=S.perm.size_eq
theorem Sg.put(S:Sg g kd a0 st){xs:Array Keyed}(h:xs.Perm (arrOf st)):Sg g kd a0 (setArr st xs):=⟨h.trans S.perm,S.kind,S.fail,S.pend,S.nd⟩
theorem Sg.get(S:Sg g kd a0 st)(hi:i<a0.size):∃p,(arrOf st)[i]?=some p/\p∈a0.toList/\rk g (arrOf st) i=g p:=by
 have h1:i<(arrOf st).size:=by rw[S.size];exact hi
 have e:(arrOf st)[i]?=some (arrOf st)[i]:=getElem?_pos _ i h1;refine⟨_,e,(yZ.mp S.perm).mem_iff.mp (by simp),?_⟩;unfold rk;rw[e];rfl
theorem Sg.inj(S:Sg g kd a0 st)(hi:i<a0.size)(hj:j<a0.size)(e:rk g (arrOf st) i=rk g (arrOf st) j):i=j:=by
 have hn:((arrOf st).toList.map g).Nodup:=((yZ.mp S.perm).map g).nodup_iff.mpr S.nd;obtain⟨p,h1,_,h2⟩:=S.get hi;obtain⟨q,h3,_,h4⟩:=S.get hj;have e1:((arrOf st).toList.map g)[i]?=some (g p):=by rw[bY,jN,h1];rfl
 have e2:((arrOf st).toList.map g)[j]?=some (g p):=by rw[bY,jN,h3,←h2,e,h4];rfl
 exact(tw (cX.mp e1).1 hn).mp (e1.trans e2.symm)
end
section
variable{P:Program}{w:World}{A:Around}{E:Value->Shared->Prop}{s:Shared}{g:Keyed->Int}{kd:SortKind}{a0:Array Keyed}{st:SortSt}
def iW(P:Program)(w:World)(A:Around)(s:Shared)(g:Keyed->Int)(kd:SortKind)(a0:Array Keyed):Prop:=
 ∀p∈a0.toList,∀q∈a0.toList,∀(E:Value->Shared->Prop) (Q:Bool->Shared->Prop),Q (decide (g p<g q)) s->wpAny (model P w) A (keyLt' kd p.1 q.1) Q E s
theorem mF{Q:Option Bool->SortSt->Prop}(C:iW P w A s g kd a0)(S:Sg g kd a0 st)(hi:i<a0.size)(hj:j<a0.size)(h:Q (some (decide (rk g (arrOf st) i<rk g (arrOf st) j))) st):
  wpS (model P w) A E s (ltAt' i j) Q st:=by
 obtain⟨p,h1,m1,r1⟩:=S.get hi;obtain⟨q,h2,m2,r2⟩:=S.get hj;rw[ltAt'_eq];refine cY (wpS_get ?_);show wpS _ _ _ _ (do let x←elem' (arrOf st) i;let y←elem' (arrOf st) j;lt' x y) Q st;rw[elem'_eq,elem'_eq,h1,h2];refine cY (dS (cY (dS ?_)));rw[lt'_eq];refine cY (wpS_get ?_);rw[S.kind];refine cY (wpS_lift (jO (C p m1 q m2 _ _ ⟨rfl,dS ?_⟩)));rw[←r1,←r2];exact h
theorem uu{a:Nat}{Q:AscSt->SortSt->Prop}(C:iW P w A s g kd a0)(hn:n<=a0.size)(ha:1<=a)(han:a<=n)(S:Sg g kd a0 st)(hs:Up g (arrOf st) a)
  (h:∀m,a<=m->m<=n->Up g (arrOf st) m->(m=n∨rk g (arrOf st) m<rk g (arrOf st) (m-1))->Q (none,m) st):wpS (model P w) A E s (ascLoop a n) Q st:=by
 unfold ascLoop;refine mZ (I:=λx c st'=>st'=st/\c=(none,x)/\Up g (arrOf st) x) ?_ ?_ ⟨rfl,rfl,hs⟩
 ·rintro x c st' h1 h2 ⟨rfl,rfl,hu⟩;dsimp only;refine cY (mF C S (by omega) (by omega) ?_);by_cases q:rk g (arrOf st') x<rk g (arrOf st') (x-1)
  ·rw[aO q];exact dS (h x h1 (by omega) hu (.inr q))
  ·rw[ba q];refine dS ⟨rfl,rfl,λi j hij hj=>?_⟩;by_cases hx:j<x
   ·exact hu i j hij hx
   ·have e:j=x:=by omega
    subst e;have d:rk g (arrOf st') j≠rk g (arrOf st') (j-1):=λe=>by have:=S.inj (by omega) (by omega) e;omega
    by_cases hi:i=j-1
    ·subst hi;omega
    ·have:=hu i (j-1) (by omega) (by omega);omega
 ·rintro c st' ⟨rfl,rfl,hu⟩;have e:max a n=n:=by omega
  rw[e]at hu⊢;exact h n han (aJ _) hu (.inl rfl)
theorem CD{m:Nat}{Q:Option Nat->SortSt->Prop}(C:iW P w A s g kd a0)(hn:n<=a0.size)(h1:1<=m)(hm:m<=n)(S:Sg g kd a0 st)(hd:Dn g (arrOf st) m)
  (h:∀k st',Sg g kd a0 st'->1<=k->k<=n->Up g (arrOf st') k->Q (some k) st'):wpS (model P w) A E s (tail3 m n) Q st:=by
 unfold tail3;have hz:m<=(arrOf st).size:=by rw[S.size];omega
 refine cY (wpS_reverse ?_);have S':Sg g kd a0 (setArr st (mirror (arrOf st) 0 m ((m-0)/2))):=S.put (mirror_perm _ _ _ _);refine cY (uu C hn h1 hm S' ?_ λk hk1 hk2 hu _=>dS (h k _ S' (by omega) hk2 hu));intro i j hij hj;have e:∀t,t<m->rk g (mirror (arrOf st) 0 m ((m-0)/2)) t=rk g (arrOf st) (m-1-t):=λt ht=>by
  refine E1 ?_;rw[getElem?_mirror_all hz,if_pos ⟨by omega,ht⟩,jL]
 show rk g (mirror (arrOf st) 0 m ((m-0)/2)) i<rk g (mirror (arrOf st) 0 m ((m-0)/2)) j;rw[e i (by omega),e j hj];exact hd _ _ (by omega) (by omega)
theorem DB{m:Nat}{Q:DescSt->SortSt->Prop}(C:iW P w A s g kd a0)(hn:n<=a0.size)(h1:1<=m)(hm:m<=n)(S:Sg g kd a0 st)(hd:Dn g (arrOf st) m)
  (h:∀k,m<=k->k<=n->Dn g (arrOf st) k->Q (none,k,0) st):wpS (model P w) A E s (descLoop m n) Q st:=by
 unfold descLoop;refine mZ (I:=λx c st'=>st'=st/\c=(none,x,0)/\Dn g (arrOf st) x) ?_ ?_ ⟨rfl,rfl,hd⟩
 ·rintro x c st' g1 g2 ⟨rfl,rfl,hu⟩;dsimp only;refine cY (mF C S (by omega) (by omega) ?_);have d:rk g (arrOf st') x≠rk g (arrOf st') (x-1):=λe=>by have:=S.inj (by omega) (by omega) e;omega
  by_cases q:rk g (arrOf st') x<rk g (arrOf st') (x-1)
  ·rw[aO q];refine dS ⟨rfl,rfl,λi j hij hj=>?_⟩;by_cases hx:j<x
   ·exact hu i j hij hx
   ·have e:j=x:=by omega
    subst e;by_cases hi:i=j-1
    ·subst hi;exact q
    ·have:=hu i (j-1) (by omega) (by omega);omega
  ·rw[ba q];refine cY (mF C S (by omega) (by omega) ?_);rw[aO (show rk g (arrOf st') (x-1)<rk g (arrOf st') x by omega)];exact dS (h x g1 (by omega) hu)
 ·rintro c st' ⟨rfl,rfl,hu⟩;have e:max m n=n:=by omega
  rw[e]at hu⊢;exact h n hm (aJ _) hu
theorem Gi{Q:Option Nat->SortSt->Prop}(C:iW P w A s g kd a0)(hn:n<=a0.size)(h1:1<=n)(S:Sg g kd a0 st)
  (h:∀k st',Sg g kd a0 st'->1<=k->k<=n->Up g (arrOf st') k->Q (some k) st'):wpS (model P w) A E s (countRun' 0 n) Q st:=by
 rw[countRun0_eq];refine cY (uu C hn (aJ 1) h1 S (λi j hij hj=>by omega) λm hm1 hm2 hu hor=>?_);dsimp only;by_cases e:m=n
 ·rw[if_pos (by simpa using e)];exact dS (h m st S hm1 hm2 hu)
 ·rw[if_neg (by simpa using e)];have hlt:=hor.resolve_left e;by_cases hgt:m>1
  ·rw[if_pos hgt];refine cY (mF C S (by omega) (by omega) ?_);rw[aO (hu 0 (m-1) (by omega) (by omega))];exact dS (h m st S hm1 hm2 hu)
  ·rw[if_neg hgt];have e1:m=1:=by omega
   subst e1;unfold descPart;refine cY (wpS_lift (eC ⟨rfl,?_⟩));refine cY (DB C hn (by omega) (by omega) S (λi j hij hj=>?_) λk hk1 hk2 hd=>?_)
   ·have a1:i=0:=by omega
    have a2:j=1:=by omega
    subst a1;subst a2;exact hlt
   ·dsimp only;rw[if_neg (by omega)];exact CD C hn (show 1<=k by omega) hk2 S hd h
theorem Cu{ok:Nat}{Q:Bool->SortSt->Prop}(C:iW P w A s g kd a0)(hn:n<=a0.size)(hok:ok<=n)(S:Sg g kd a0 st)(hs:Up g (arrOf st) ok)
  (h:∀st',Sg g kd a0 st'->Up g (arrOf st') n->Q true st'):wpS (model P w) A E s (binarySort' 0 n ok) Q st:=by
 rw[binarySort'_eq];simp only[jL];refine cY (wpS_mono (mZ (I:=λk c st'=>c=(none,())/\Sg g kd a0 st'/\Up g (arrOf st') (min k n)) (Q:=λc st'=>c=(none,())/\Sg g kd a0 st'/\Up g (arrOf st') n) ?_ ?_ ?_) ?_)
 ·rintro k c st' hk1 hk2 ⟨rfl,S1,hu⟩;rw[show min k n=k by omega]at hu;have hk:k<a0.size:=by omega
  refine cY (wpS_mono (mZ (I:=λx c st2=>st2=st'/\∃l r,c=(none,l,r)/\l<=r/\r<=k/\r+x<=k+l/\(∀i,i<l->rk g (arrOf st') i<rk g (arrOf st') k)/\(∀i,r<=i->i<k->rk g (arrOf st') k<rk g (arrOf st') i))
   (Q:=λc st2=>st2=st'/\∃l r,c=(none,l,r)/\l<=k/\(∀i,i<l->rk g (arrOf st') i<rk g (arrOf st') k)/\(∀i,l<=i->i<k->rk g (arrOf st') k<rk g (arrOf st') i)) ?_ ?_ ?_) ?_)
  ·rintro x c st2 _ hx ⟨rfl,l,r,rfl,b1,b2,b3,b4,b5⟩;dsimp only;by_cases hge:l≥r
   ·rw[if_pos hge];exact dS ⟨rfl,l,r,rfl,by omega,b4,λi i1 i2=>b5 i (by omega) i2⟩
   ·rw[if_neg hge];refine cY (mF C S1 hk (by omega) ?_);have hmid:(l+r)/2<k:=by omega
    have d:rk g (arrOf st2) k≠rk g (arrOf st2) ((l+r)/2):=λe=>by have:=S1.inj hk (by omega) e;omega
    by_cases q:rk g (arrOf st2) k<rk g (arrOf st2) ((l+r)/2)
    ·rw[aO q];refine dS ⟨rfl,l,(l+r)/2,rfl,by omega,by omega,by omega,b4,λi i1 i2=>?_⟩;by_cases z:i=(l+r)/2
     ·subst z;exact q
     ·have:=hu ((l+r)/2) i (by omega) i2;omega
    ·rw[ba q];refine dS ⟨rfl,(l+r)/2+1,r,rfl,by omega,by omega,by omega,λi i1=>?_,b5⟩;by_cases z:i=(l+r)/2
     ·subst z;omega
     ·have:=hu i ((l+r)/2) (by omega) (by omega);omega
  ·rintro c st2 ⟨rfl,l,r,rfl,b1,b2,b3,b4,b5⟩;exact⟨rfl,l,r,rfl,by omega,b4,λi i1 i2=>b5 i (by omega) i2⟩
  ·exact⟨rfl,0,k,rfl,by omega,by omega,by omega,λi hi=>by omega,λi i1 i2=>by omega⟩
  ·rintro c st2 ⟨rfl,l,r,rfl,b1,b4,b5⟩;show wpS _ _ _ _ (do moveDown' k l;pure (ForInStep.yield (none,()))) _ _;rw[moveDown'_eq];refine cY (wpS_modify (dS ⟨rfl,S1.put (bubble_perm _ _ _),?_⟩));rw[show min (k+1) n=k+1 by omega];have hz:k<(arrOf st2).size:=by rw[S1.size];exact hk
   have e:∀t,rk g (bubble (arrOf st2) k (k-l)) t=if t=l then rk g (arrOf st2) k else if l<t/\t<=k then rk g (arrOf st2) (t-1)else rk g (arrOf st2) t:=λt=>by
    have q:=getElem?_bubble hz (k-l) (by omega) t;rw[show k- (k-l)=l by omega]at q;unfold rk;rw[q];split
    ·rfl
    ·split<;>rfl
   intro i j hij hj;show rk g (bubble (arrOf st2) k (k-l)) i<rk g (bubble (arrOf st2) k (k-l)) j;rw[e i,e j];by_cases ci:i=l
   ·rw[if_pos ci,if_neg (by omega),if_pos (by omega)];exact b5 _ (by omega) (by omega)
   ·rw[if_neg ci];by_cases cj:j=l
    ·rw[if_pos cj,if_neg (by omega)];exact b4 _ (by omega)
    ·rw[if_neg cj];by_cases di:l<i/\i<=k
     ·rw[if_pos di,if_pos (by omega)];exact hu _ _ (by omega) (by omega)
     ·rw[if_neg di];by_cases dj:l<j/\j<=k
      ·rw[if_pos dj];by_cases z:i=j-1
       ·omega
       ·exact hu _ _ (by omega) (by omega)
      ·rw[if_neg dj];exact hu _ _ (by omega) (by omega)
 ·rintro c st' ⟨hc,S1,hu⟩;rw[show min (max (max ok 1) n) n=n by omega]at hu;exact⟨hc,S1,hu⟩
 ·refine⟨rfl,S,λi j hij hj=>?_⟩;exact hs i j hij (by omega)
 ·rintro c st' ⟨rfl,S1,hu⟩;exact dS (h st' S1 hu)
theorem BH{Q:Unit->SortSt->Prop}(C:iW P w A s g kd a0)(S:Sg g kd a0 st)(h2:2<=a0.size)(h64:a0.size<64)
  (h:∀st',(arrOf st').Perm a0->failedOf st'=none->Up g (arrOf st') a0.size->Q () st'):wpS (model P w) A E s sortRuns' Q st:=by
 rw[sortRuns'_eq];refine cY (wpS_get ?_);dsimp only;have hmr:minRun' a0.size a0.size 0=a0.size:=by
  obtain⟨f,hf⟩:∃f,a0.size=f+1:=⟨a0.size-1,by omega⟩;have e:minRun' (f+1) a0.size 0=a0.size:=by rw[minRun'_succ,if_pos h64];rfl
  rwa[←hf]at e
 simp only[S.size,hmr];refine cY (wpS_mono (mZ
  (I:=λx c st'=>(x=0/\c=(none,0)/\Sg g kd a0 st')∨(1<=x/\c=(none,a0.size)/\(arrOf st').Perm a0/\failedOf st'=none/\(pendingOf st').size=1/\Up g (arrOf st') a0.size))
  (Q:=λc st'=>c=(none,a0.size)/\(arrOf st').Perm a0/\failedOf st'=none/\(pendingOf st').size=1/\Up g (arrOf st') a0.size) ?_ ?_ (.inl ⟨rfl,rfl,S⟩)) ?_)
 ·rintro x c st' _ hx (⟨rfl,rfl,S1⟩|⟨hx1,rfl,D⟩)
  ·dsimp only;rw[if_neg (by omega)];simp only[Nat.sub_zero,Nat.min_self,jL];refine cY (Gi C (aJ _) (by omega) S1 λm st2 S2 hm1 hm2 hu2=>?_);dsimp only;by_cases hlt:m<a0.size
   ·rw[if_pos hlt];refine cY (wpS_lift (eC ⟨rfl,?_⟩));refine cY (Cu C (aJ _) hm2 S2 hu2 λst3 S3 hu3=>?_);simp only[Bool.not_true,eW,dC];refine cY (wpS_get ?_);have hb:(pendingOf st3).back?=none:=by rw[S3.pend];rfl
    rw[hb];dsimp only;refine cY (wpS_modify (dS (.inr ⟨by omega,rfl,S3.perm,S3.fail,?_,hu3⟩)));show((pendingOf st3).push _).size=1;rw[S3.pend];rfl
   ·rw[if_neg hlt];have e:m=a0.size:=by omega
    subst e;refine cY (wpS_get ?_);have hb:(pendingOf st2).back?=none:=by rw[S2.pend];rfl
    rw[hb];dsimp only;refine cY (wpS_modify (dS (.inr ⟨by omega,rfl,S2.perm,S2.fail,?_,hu2⟩)));show((pendingOf st2).push _).size=1;rw[S2.pend];rfl
  ·dsimp only;rw[if_pos (aJ _)];exact dS ⟨rfl,D⟩
 ·rintro c st' (⟨hx,_,_⟩|⟨_,hc,D⟩)
  ·omega
  ·exact⟨hc,D⟩
 ·rintro c st' ⟨rfl,D⟩;dsimp only;refine cY (wpS_mono (mZ (I:=λ_ c st2=>st2=st'/\c=(none,())) (Q:=λc st2=>st2=st'/\c=(none,())) ?_ (λ_ _ hh=>hh) ⟨rfl,rfl⟩) ?_)
  ·rintro x c st2 _ _ ⟨rfl,rfl⟩;refine cY (wpS_get ?_);rw[if_pos (by rw[D.2.2.1];exact aJ 1)];exact dS ⟨rfl,rfl⟩
  ·rintro c st2 ⟨rfl,rfl⟩;exact dS (h _ D.1 D.2.1 D.2.2.2)
end
inductive V where
 |non|bl (b:Bool)|int (i:Int)|str (x:Str)|byt (b:Array UInt8)|flt (b:UInt64)|ref (a:Addr)|ty (n:String)
 deriving DecidableEq
variable{y:V}{kvs:List (MK×V)}
def aT:V->Value->Prop
 |.non,u=>u=Value.none
 |.bl b,u=>u=Value.bool b
 |.int i,u=>∃t,u=Value.int i t
 |.str x,u=>∃t,u=Value.str x t
 |.byt b,u=>∃t,u=Value.bytes b t
 |.flt b,u=>∃t,u=Value.float b t
 |.ref a,u=>u=Value.ref a
 |.ty n,u=>u=Value.type n
abbrev aH:List V->List Value->Prop:=Paired aT
theorem aH.length{xs:List V}(r:aH xs us):xs.length=us.length:=cA r
theorem aH.get:∀{xs:List V} {us:List Value} {i:Nat} {x:V},aH xs us->xs[i]?=some x->∃u,us[i]?=some u/\aT x u
 |_,_,_,_,.nil,e=>by simp at e
 |_,_,0,_,.cons r _,e=>by simp at e;subst e;exact⟨_,rfl,r⟩
 |_,_,i+1,x,.cons _ t,e=>by
  obtain⟨u,h1,h2⟩:=aH.get (i:=i) (x:=x) t (by simpa using e);exact⟨u,by simpa using h1,h2⟩
theorem aH.set{x:V}{u:Value}(r:aT x u):∀{xs:List V} {us:List Value} (i:Nat),aH xs us->aH (xs.set i x) (us.set i u)
 |_,_,_,.nil=>.nil
 |_,_,0,.cons _ t=>.cons r t
 |_,_,i+1,.cons q t=>.cons q (aH.set r i t)
theorem aH.append:∀{xs ys:List V} {us ws:List Value},aH xs us->aH ys ws->aH (xs++ys) (us++ws)
 |_,_,_,_,.nil,s=>s
 |_,_,_,_,.cons r t,s=>.cons r (aH.append t s)
theorem aH.take:∀{xs:List V} {us:List Value} (n:Nat),aH xs us->aH (xs.take n) (us.take n)
 |_,_,0,_=>.nil
 |_,_,_+1,.nil=>.nil
 |_,_,n+1,.cons r t=>.cons r (aH.take n t)
theorem aH.drop:∀{xs:List V} {us:List Value} (n:Nat),aH xs us->aH (xs.drop n) (us.drop n)
 |_,_,0,r=>r
 |_,_,_+1,.nil=>.nil
 |_,_,n+1,.cons _ t=>aH.drop n t
theorem aH.none_of:∀{xs:List V} {us:List Value} {i:Nat},aH xs us->xs[i]?=none->us[i]?=none:=λ{xs us i} r e=>by
 have h1:=r.length;have h2:xs.length<=i:=tJ.mp e;exact tJ.mpr (by omega)
def dW:Option V->Option Value->Prop
 |some v,some u=>aT v u
 |none,none=>True
 |_,_=>False
def KV{κ:Type}:List (κ×V)->List (κ×Value)->Prop:=Paired λ(p:κ×V) (q:κ×Value)=>p.1=q.1/\aT p.2 q.2
def kV:dh->V
 |.inl i=>.int i
 |.inr x=>.str x
inductive HO where
 |lst (xs:List V)
 |tup (xs:List V)
 |dK (kvs:List (dh×V))|dT (kvs:List (List dh×V))|dM (kvs:List (MK×V))
 |set (S:Int->Bool) (n:Nat)
 |ins (C dx:Addr) (fs:List (Str×V))
 |own (x:Addr)
 |xd (fs:List (Str×V))
 |met (f x:Addr)
 |rng (lo hi:Int)
 |frz (o:Obj) (u:HO)
 |tbl (ps:Array Value)
 |ext (φ:Heap->Prop)
abbrev Hp:=Addr->Option HO
variable{H H':Hp}
def upd(H:Hp)(a:Addr)(o:HO):Hp:=λb=>if b=a then some o else H b
theorem ao{o:HO}:upd H a o a=some o:=by unfold upd;rw[if_pos rfl]
theorem ag{o:HO}(h:b≠a):upd H a o b=H b:=by unfold upd;rw[if_neg h]
theorem ED{o u:HO}:upd (upd H a o) a u=upd H a u:=by
 funext b;unfold upd;split<;>rfl
theorem aC{o u:HO}(h:H a=some o)(h':H b=some u)(d:o≠u):a≠b:=by
 intro e;subst e;rw[h]at h';exact d (b9 h')
theorem ay{o:HO}(h:H a=some o)(h':H b=none):a≠b:=by
 intro e;subst e;rw[h]at h';cases h'
def h7(H:Hp):MK->Value->Prop
 |.inl x,u=>∃t,u=Value.str x t
 |.inr ks,u=>∃b,u=Value.ref b/\H b=some (.tup (ks.map kV))
theorem vJ(ht:∀b xs,H b=some (.tup xs)->H' b=some (.tup xs)):∀{k:MK} {u:Value},h7 H k u->h7 H' k u
 |.inl _,_,h=>h
 |.inr _,_,⟨b,e,h⟩=>⟨b,e,ht _ _ h⟩
section
variable(P:Program)(w:World)
def cQ(H:Hp)(h:Heap)(a:Addr):HO->Prop
 |.lst xs=>xs.length<=sizeLine/\∃(its:List Value) (n:Nat),aH xs its/\h.get? a=some {cls:=.type "list",data:=.seq its.toArray n}
 |.tup xs=>xs.length<=sizeLine/\∃its:List Value,aH xs its/\IsTup h a its.toArray
 |.dK kvs=>kvs.length<=sizeLine/\(a==sysModules)=false/\∃vs,KV kvs vs/\h.DictOf (ed P w) a vs
 |.dT kvs=>kvs.length<=sizeLine/\(a==sysModules)=false/\∃xs:List (List dh×Addr×Value),
   Paired (λ(p:List dh×V) (q:List dh×Addr×Value)=>p.1=q.1/\H q.2.1=some (.tup (p.1.map kV))/\aT p.2 q.2.2) kvs xs/\
   ∃o es ep,h.get? a=some o/\o.ExactDict/\o.data= .dict es ep/\es.toList=xs.map (entryOfKey (tupleKind (ed P w)))/\(xs.map (·.1)).Nodup
 |.dM kvs=>kvs.length<=sizeLine/\(a==sysModules)=false/\∃xs:List (MK×Value×Value),
   Paired (λ(p:MK×V) (q:MK×Value×Value)=>p.1=q.1/\h7 H p.1 q.2.1/\aT p.2 q.2.2) kvs xs/\cJ P w h a xs
 |.set S n=>h.SetOf (intKind P w) a S n
 |.ins C dx fs=>H dx=some (.own a)/\fs.length<=1000/\dx≠a/\h.get? a=some (PySem.W.instObj C dx)/\
   ∃mA,h.Ns1 dx mA/\(∀f,dW (fs.lookup f) (mA f))/\PySem.Within mA (fs.map (·.1))
 |.own _=>∃o,h.get? a=some o
 |.xd fs=>∃mA,h.Ns1 a mA/\∀f,dW (fs.lookup f) (mA f)
 |.rng lo hi=>∃t u v,h.get? a=some {cls:=.type "range",data:=.fields #[.int lo t,.int hi u,.int 1 v]}
 |.frz o u=>h.get? a=some o/\cQ H h a u
 |.tbl ps=>h.get? a=some {cls:=.none,data:=.fields ps}
 |.met f x=>h.get? a=some (PySem.W.methodObj (.ref f) (.ref x))
 |.ext φ=>φ h/\(∃o,h.get? a=some o)/\∀h1 h2:Heap,φ h1->(∀o,h1.get? a=some o->h2.get? a=some o)->φ h2
def cg(H:Hp)(h:Heap):Prop:=∀a o,H a=some o->cQ P w H h a o
end
section
variable{P:Program}{w:World}{H H':Hp}{h h':Heap}{a:Addr}{o:HO}
theorem cQ.lt(x:cQ P w H h a o):a<h.objs.size:=by
 cases o with
 |lst xs=>obtain⟨_,_,_,_,e⟩:=x;exact bp e
 |tup xs=>obtain⟨_,_,_,p⟩:=x;exact p.lt
 |dK kvs=>obtain⟨_,_,_,_,o,_,_,e,_⟩:=x;exact bp e
 |dT kvs=>obtain⟨_,_,_,_,o,_,_,e,_⟩:=x;exact bp e
 |dM kvs=>obtain⟨_,_,_,_,o,_,_,e,_⟩:=x;exact bp e
 |set S n=>obtain⟨o,_,_,_,e,_⟩:=x;exact bp e
 |ins C dx fs=>obtain⟨_,_,_,e,_⟩:=x;exact bp e
 |own y=>obtain⟨_,e⟩:=x;exact bp e
 |xd fs=>obtain⟨_,⟨_,_,_,e,_⟩,_⟩:=x;exact bp e
 |rng lo hi=>obtain⟨_,_,_,e⟩:=x;exact bp e
 |frz ob u=>obtain⟨e,_⟩:=x;exact bp e
 |tbl ps=>exact bp (show h.get? a=some _ from x)
 |met f y=>exact bp (show h.get? a=some _ from x)
 |ext φ=>obtain⟨_,⟨_,e⟩,_⟩:=x;exact bp e
theorem Paired.mapP{α β:Type}{F G:α->β->Prop}:∀{l₁:List α} {l₂:List β},Paired F l₁ l₂->(∀a b,F a b->G a b)->Paired G l₁ l₂
 |_,_,.nil,_=>.nil
 |_,_,.cons r t,f=>.cons (f _ _ r) (Paired.mapP t f)
theorem cQ.stay(x:cQ P w H h a o)(k:∀b u,(b=a∨H b=some (.own a))->h.get? b=some u->h'.get? b=some u)
  (ho:∀b,H b=some (.own a)->H' b=some (.own a)) (ht:∀b xs,H b=some (.tup xs)->H' b=some (.tup xs)):cQ P w H' h' a o:=by
 induction o with
 |lst xs=>obtain⟨z,its,n,r,e⟩:=x;exact⟨z,its,n,r,k _ _ (.inl rfl) e⟩
 |tup xs=>obtain⟨z,its,r,ob,e,c⟩:=x;exact⟨z,its,r,ob,k _ _ (.inl rfl) e,c⟩
 |dK kvs=>obtain⟨z,y,vs,r,ob,es,ep,e,c⟩:=x;exact⟨z,y,vs,r,ob,es,ep,k _ _ (.inl rfl) e,c⟩
 |dM kvs=>
  obtain⟨z,y,xs,r,ob,es,ep,e,c⟩:=x;exact⟨z,y,xs,Paired.mapP r λp q z=>⟨z.1,vJ ht z.2.1,z.2.2⟩,ob,es,ep,k _ _ (.inl rfl) e,c⟩
 |dT kvs=>
  obtain⟨z,y,xs,r,ob,es,ep,e,c⟩:=x;exact⟨z,y,xs,Paired.mapP r λp q z=>⟨z.1,ht _ _ z.2.1,z.2.2⟩,ob,es,ep,k _ _ (.inl rfl) e,c⟩
 |set S n=>obtain⟨ob,es,ep,t,e,c⟩:=x;exact⟨ob,es,ep,t,k _ _ (.inl rfl) e,c⟩
 |ins C dx fs=>
  obtain⟨d,z,ne,e,mA,⟨od,es,ep,e2,c⟩,r⟩:=x;exact⟨ho _ d,z,ne,k _ _ (.inl rfl) e,mA,⟨od,es,ep,k _ _ (.inr d) e2,c⟩,r⟩
 |own y=>obtain⟨ob,e⟩:=x;exact⟨ob,k _ _ (.inl rfl) e⟩
 |xd fs=>obtain⟨mA,⟨od,es,ep,e,c⟩,r⟩:=x;exact⟨mA,⟨od,es,ep,k _ _ (.inl rfl) e,c⟩,r⟩
 |rng lo hi=>obtain⟨t,u,v,e⟩:=x;exact⟨t,u,v,k _ _ (.inl rfl) e⟩
 |frz ob u ih=>obtain⟨e,q⟩:=x;exact⟨k _ _ (.inl rfl) e,ih q⟩
 |tbl ps=>
  have e:h.get? a=some {cls:=.none,data:=.fields ps}:=x;show h'.get? a=some {cls:=.none,data:=.fields ps};exact k a _ (.inl rfl) e
 |met f y=>
  have e:h.get? a=some (PySem.W.methodObj (.ref f) (.ref y)):=x;show h'.get? a=some (PySem.W.methodObj (.ref f) (.ref y));exact k a _ (.inl rfl) e
 |ext φ=>obtain⟨p,⟨o,e⟩,st⟩:=x;exact⟨st _ _ p λo q=>k _ _ (.inl rfl) q,⟨o,k _ _ (.inl rfl) e⟩,st⟩
theorem cg.lt(x:cg P w H h)(e:H a=some o):a<h.objs.size:=(x a o e).lt
theorem cg.fresh(x:cg P w H h)(e:h.objs.size<=a):H a=none:=by
 cases q:H a with
 |none=>rfl
 |some u=>exact absurd (dN (x.lt q) e) (fW _)
theorem cg.kept(x:cg P w H h)(k:∀b u,h.get? b=some u->h'.get? b=some u):cg P w H h':=λa o e=>
 (x a o e).stay (λb u _ q=>k b u q) (λ_ q=>q) λ_ _ q=>q
theorem cg.laid(x:cg P w H h)(k:∀b u,h.get? b=some u->h'.get? b=some u)(hp:h.objs.size<=a)(new:cQ P w (upd H a o) h' a o):cg P w (upd H a o) h':=λb u e=>by
 have hn:=x.fresh hp;by_cases hb:b=a
 ·subst hb;rw[ao]at e;cases e;exact new
 ·rw[ag hb]at e;exact(x b u e).stay (λc v _ q=>k c v q) (λc q=>by rw[ag (ay q hn)];exact q) λc xs q=>by rw[ag (ay q hn)];exact q
end
def Rd(H:Hp)(a:Addr)(u:HO):Prop:=H a=some u∨∃o,H a=some (.frz o u)
theorem Rd.ok{u:HO}(r:Rd H a u)(x:cg P w H h):cQ P w H h a u:=by
 rcases r with r|⟨o,r⟩
 ·exact x a u r
 ·obtain⟨_,q⟩:=x a _ r;exact q
def iI:Option HO->Prop
 |some (.lst _)=>True
 |some (.dK _)=>True
 |some (.dT _)=>True
 |some (.dM _)=>True
 |some (.set _ _)=>True
 |some (.ins _ _ _)=>True
 |some (.ext _)=>True
 |_=>False
section
variable{P:Program}{w:World}{H:Hp}{h h':Heap}{x e:Addr}{o':HO}
theorem cg.write(ok:cg P w H h)(mu:iI (H x))(he:e=x∨H e=some (.own x))(k:∀b u,b≠e->h.get? b=some u->h'.get? b=some u)(heo:∃u,h'.get? e=some u)
  (new:cQ P w (upd H x o') h' x o'):cg P w (upd H x o') h':=λb u q=>by
 have nown:∀c y,H c=some (.own y)->c≠x:=λc y r z=>by subst z;rw[r]at mu;exact mu
 have ntup:∀c xs,H c=some (.tup xs)->c≠x:=λc xs r z=>by subst z;rw[r]at mu;exact mu
 by_cases hb:b=x
 ·subst hb;rw[ao]at q;cases q;exact new
 ·rw[ag hb]at q;by_cases hbe:b=e
  ·have q':H b=some (.own x):=by
    rcases he with z|z
    ·exact absurd (hbe.trans z) hb
    ·rw[hbe];exact z
   rw[q]at q';cases q';obtain⟨v,hv⟩:=heo;exact⟨v,by rw[hbe];exact hv⟩
  ·refine(ok b u q).stay (λc v hc r=>k c v ?_ r) (λc r=>by rw[ag (nown c b r)];exact r) λc xs r=>by rw[ag (ntup c xs r)];exact r
   rcases hc with rfl|hc
   ·exact hbe
   ·rintro rfl;rcases he with z|z
    ·exact nown c b hc z
    ·rw[hc]at z;cases z;exact hb rfl
end
structure Un(fs ex:List Addr)(H H':Hp)(h h':Heap):Prop where
 keep:∀b o,h.get? b=some o->H b=none->b∉fs->b∉ex->h'.get? b=some o
 slot:∀b o,h.get? b=some o->H b=none->b∈fs->b∉ex->∃sl,h'.get? b=some {o with slots:=sl}
 free:∀b o,h.get? b=some o->H b=none->b∉ex->H' b=none
 there:∀b o,h.get? b=some o->b∉ex->∃o',h'.get? b=some o'
 tups:∀b xs,H b=some (.tup xs)->H' b=some (.tup xs)
 frzs:∀b o u,H b=some (.frz o u)->H' b=some (.frz o u)
 tbls:∀b ps,H b=some (.tbl ps)->∃more,H' b=some (.tbl (ps++more))
section
variable{fs fs' ex ex':List Addr}{H H1 H2:Hp}{h h1 h2 h':Heap}{a x e:Addr}{o:HO}
theorem Un.any(u:Un fs ex H H1 h h1){ob:Obj}(q:h.get? b=some ob)(n:H b=none)(hx:b∉ex):∃sl,h1.get? b=some {ob with slots:=sl}:=by
 by_cases hb:b∈fs
 ·exact u.slot b ob q n hb hx
 ·exact⟨ob.slots,u.keep b ob q n hb hx⟩
theorem Un.kept(k:∀b u,h.get? b=some u->h'.get? b=some u):Un fs ex H H h h':=
 ⟨λb ob q _ _ _=>k b ob q,λb ob q _ _ _=>⟨ob.slots,k b ob q⟩,λ_ _ _ n _=>n,λb ob q _=>⟨ob,k b ob q⟩,λ_ _ q=>q,λ_ _ _ q=>q,λ_ ps q=>⟨#[],by rw[q];simp⟩⟩
theorem Un.refl:Un fs ex H H h h:=Un.kept λ_ _ q=>q
theorem Un.laid(k:∀b u,h.get? b=some u->h'.get? b=some u)(hp:h.objs.size<=a)(hn:H a=none):Un fs ex H (upd H a o) h h' where
 keep:=λb u q _ _ _=>k b u q
 slot:=λb u q _ _ _=>⟨u.slots,k b u q⟩
 free:=λb u q n _=>by rw[ag (cy (dN (bp q) hp))];exact n
 there:=λb u q _=>⟨u,k b u q⟩
 tups:=λb xs q=>by rw[ag (ay q hn)];exact q
 frzs:=λb u xs q=>by rw[ag (ay q hn)];exact q
 tbls:=λb ps q=>⟨#[],by rw[ag (ay q hn),q];simp⟩
theorem Un.write(mu:iI (H x))(he:e=x∨H e=some (.own x))(k:∀b u,b≠e->h.get? b=some u->h'.get? b=some u)(heo:∃u,h'.get? e=some u):Un fs ex H (upd H x o) h h':=by
 have hx:∀b,H b=none->b≠x:=λb n z=>by subst z;rw[n]at mu;exact mu
 have hb:∀b,H b=none->b≠e:=λb n z=>by
  subst z;rcases he with r|r
  ·exact hx b n r
  ·rw[n]at r;cases r
 have hm:∀b u,H b=some u->¬iI (some u)->b≠x:=λb u q nm z=>by subst z;rw[q]at mu;exact nm mu
 refine⟨λb u q n _ _=>k b u (hb b n) q,λb u q n _ _=>⟨u.slots,k b u (hb b n) q⟩,λb u q n _=>by rw[ag (hx b n)];exact n,λb u q _=>?_,
  λb xs q=>by rw[ag (hm b _ q λz=>z)];exact q,λb u xs q=>by rw[ag (hm b _ q λz=>z)];exact q,λb ps q=>⟨#[],by rw[ag (hm b _ q λz=>z),q];simp⟩⟩
 by_cases hbe:b=e
 ·subst hbe;exact heo
 ·exact⟨u,k b u hbe q⟩
end
def nK(h:Heap)(H:Hp):List Addr:=(List.range h.objs.size).filter λa=>(H a).isSome
def fF(h:Heap)(H:Hp):Heap:=PySem.W.hideAll h (nK h H)
theorem Aq(h:Heap)(H:Hp):(fF h H).objs.size=h.objs.size:=PySem.W.hideAll_size _ _
theorem A3(e:h.get? b=some o)(n:H b=none):(fF h H).get? b=some o:=
 PySem.W.hideAll_get _ e λhm=>by
  have q:(H b).isSome=true:=(cV.mp hm).2;rw[n]at q;simp at q
theorem vP(e:(fF h H).get? b=some o):h.get? b=some o/\H b=none:=by
 have e':h.get? b=some o:=PySem.W.of_hideAll (nK h H) e;refine⟨e',?_⟩;cases q:H b with
 |none=>rfl
 |some x=>
  have hm:b∈nK h H:=cV.mpr ⟨fR.mpr (bp e'),by simp[q]⟩;have z:(fF h H).get? b=none:=PySem.W.hideAll_none (nK h H) hm;rw[z]at e;cases e
structure pq(K:PySem.W.Frag)(mg:Str->Option Value)(base:Heap):Prop where
 kin:K.In base
 glob:base.Ns mainGlobals mg
 blt:∃mb,base.Ns builtinsNs mb/\∀x:Str,x≠"__name__"->mb x=bootBuiltins x
 nolimit:base.NoLimit
structure Cx where
 prog:Program
 w:World
 K:PySem.W.Frag
 mg:Str->Option Value
 base:Heap
 A:Around
 N:List Str
 s_0:Shared
 H_0:Hp
 env:Env
 outer:List Env
 stack:List Env
 ex:List Addr
 fn:Str->Bool
 calm:Bool
 pn:List (Addr×Obj)
 xe:Value->Shared->Prop
variable{X:Cx}
def gG(l:List Env):List Addr:=l.filterMap (·.frame)
abbrev Cx.fs(X:Cx):List Addr:=gG X.outer
def lF(sc:Scope)(x:Str):Prop:=sc.names.lookup x=some .local∨sc.names.lookup x=some .cell∨sc.names.lookup x=some .free
def oR(sc:Scope)(x:Str):Prop:=sc.names.lookup x=some .local∨sc.names.lookup x=some .cell
def CL(env:Env)(h:Heap)(m:Str->Option Value)(x:Str)(u:Value):Prop:=
 (env.kindOf x=some .local/\m x=some u)∨((env.kindOf x=some .cell∨env.kindOf x=some .free)/\∃c,env.cells.lookup x=some c/\h.IsCell c (some u))
structure Cx.Ok(X:Cx):Prop where
 mod:pq X.K X.mg X.base
 kind:X.env.scope.kind= .function
 glob:X.env.globals=mainGlobals
 blt:X.env.builtins=builtinsNs
 above:X.s_0.heap.objs.size<=X.env.locals
 inj:∀x y c,X.env.cells.lookup x=some c->X.env.cells.lookup y=some c->x=y
 has:∀x,(X.env.kindOf x=some .cell∨X.env.kindOf x=some .free)->∃c,X.env.cells.lookup x=some c
 cab:∀x c,X.fn x=true->X.env.cells.lookup x=some c->X.s_0.heap.objs.size<=c
 hd:X.calm=true->X.A.handled=none
 frames:X.A.frames=some X.stack
 stk:X.stack=X.outer∨(X.stack=X.env::X.outer/\X.env.frame=some X.env.locals)
 exf:∀b∈X.ex,b≠X.env.locals/\∀x c,X.env.cells.lookup x=some c->c≠b
 bs:∀b o,X.base.get? b=some o->X.s_0.heap.get? b=some o/\X.H_0 b=none
 bsz:X.base.objs.size<=X.s_0.heap.objs.size
 noex:∀b o,X.base.get? b=some o->b∉X.ex
 exfs:∀b∈X.ex,b∉X.fs
 funs:X.s_0.heap.FunFrames X.base X.outer
 frf:∀b∈X.fs,X.H_0 b=none
structure ae(X:Cx)(pins:List (Addr×Obj))(σ:List (Option V))(H:Hp)(s:Shared):Prop where
 ok:X.Ok
 os:s.os=X.s_0.os
 bare:AllBare s.gens
 base:Un X.fs X.ex X.H_0 H X.s_0.heap s.heap
 loc:∃m,s.heap.Ns X.env.locals m/\∀(i:Nat) (x:Str) (v:V),X.N[i]?=some x->σ[i]?=some (some v)->lF X.env.scope x->∃u,aT v u/\CL X.env s.heap m x u
 cell:∀x c,X.env.cells.lookup x=some c->∃v,s.heap.IsCell c v
 free:H X.env.locals=none
 freeC:∀x c,X.env.cells.lookup x=some c->H c=none
 pin:∀p∈X.pn++pins,s.heap.get? p.1=some p.2/\H p.1=none/\p.1≠X.env.locals/\p.1∉X.fs/\∀v,p.2.data≠.cell v
 hok:cg X.prog X.w H s.heap
 len:σ.length=X.N.length
section
variable{X:Cx}{pins:List (Addr×Obj)}{σ:List (Option V)}{H H':Hp}{s:Shared}{h':Heap}
theorem Cx.Ok.nofr(ok:X.Ok)(e:X.base.get? b=some o):b∉X.fs:=λhb=>by
 have:=(ok.funs.mem hb).1;rw[e]at this;cases this
theorem ae.bs(I:ae X pins σ H s):∀b o,X.base.get? b=some o->s.heap.get? b=some o/\H b=none:=λb o e=>
 ⟨I.base.keep b o (I.ok.bs b o e).1 (I.ok.bs b o e).2 (I.ok.nofr e) (I.ok.noex b o e),I.base.free b o (I.ok.bs b o e).1 (I.ok.bs b o e).2 (I.ok.noex b o e)⟩
theorem ae.bk(I:ae X pins σ H s):∀b o,X.base.get? b=some o->s.heap.get? b=some o:=λb o e=>(I.bs b o e).1
theorem ae.mod(I:ae X pins σ H s):pq X.K X.mg X.base:=I.ok.mod
theorem ae.kIn(I:ae X pins σ H s):X.K.In s.heap:=I.ok.mod.kin.keeps I.bk
theorem ae.lt(I:ae X pins σ H s):X.env.locals<s.heap.objs.size:=let⟨_,hn,_⟩:=I.loc;hn.lt
theorem ae.sz(I:ae X pins σ H s):X.s_0.heap.objs.size<=s.heap.objs.size:=dw I.ok.above (p7 I.lt)
theorem ae.nofs(I:ae X pins σ H s)(h:s.heap.objs.size<=a):a∉X.fs:=λhb=>by
 obtain⟨_,o,ho,_⟩:=I.ok.funs.mem hb;exact absurd (dN (bp ho) (dw I.sz h)) (fW _)
theorem ae.cne(I:ae X pins σ H s):∀x c,X.env.cells.lookup x=some c->c≠X.env.locals:=λx c e z=>by
 obtain⟨v,o,ho,hd⟩:=I.cell x c e;obtain⟨m,⟨o',es,ep,ho',hd',_⟩,_⟩:=I.loc;rw[z,ho']at ho;cases ho;rw[hd']at hd;cases hd
theorem ae.funs(I:ae X pins σ H s):s.heap.FunFrames X.base X.outer:=by
 have all:∀(l:List Env),(∀b∈gG l,b∈X.fs)->X.s_0.heap.FunFrames X.base l->s.heap.FunFrames X.base l:=by
  intro l
  induction l with
  |nil=>intro _ _;trivial
  |cons env r ih=>
   intro hs hl;obtain⟨hk,⟨L,o,hf,hn,ho,hd⟩,hr⟩:=hl;have hL:L∈X.fs:=hs L (by unfold gG;rw[List.filterMap_cons,hf];exact List.mem_cons_self);obtain⟨sl,e⟩:=I.base.slot L o ho (I.ok.frf L hL) hL λz=>I.ok.exfs L z hL;exact⟨hk,⟨L,_,hf,hn,e,hd⟩,ih (λb hb=>hs b (by unfold gG;rw[List.filterMap_cons,hf];exact List.mem_cons_of_mem _ hb)) hr⟩
 exact all X.outer (λ_ hb=>hb) I.ok.funs
theorem ae.stack(I:ae X pins σ H s):s.heap.FunFrames X.base X.stack:=by
 rcases I.ok.stk with e|⟨e,hf⟩
 ·rw[e];exact I.funs
 ·rw[e];obtain⟨m,hn,_⟩:=I.loc;refine .cons (by rw[I.ok.kind];decide) hf hn ?_ I.funs;exact Heap.get?_none_of_le (dw I.ok.bsz I.ok.above)
theorem ae.stkSub(I:ae X pins σ H s):∀b∈gG X.stack,b∈X.env.locals::X.fs:=λb hb=>by
 rcases I.ok.stk with e|⟨e,hf⟩
 ·rw[e]at hb;exact List.mem_cons_of_mem _ hb
 ·rw[e]at hb;unfold gG at hb;rw[List.filterMap_cons,hf]at hb;exact hb
theorem ae.stkFree(I:ae X pins σ H s):∀b∈gG X.stack,H b=none:=λb hb=>by
 rcases a9.mp (I.stkSub b hb)with e|hb
 ·rw[e];exact I.free
 ·obtain⟨_,o,ho,_⟩:=I.ok.funs.mem hb;exact I.base.free b o ho (I.ok.frf b hb) λz=>I.ok.exfs b z hb
theorem ae.step{g':Array GenState}{t':Nat}{d':Drawn}{ch:List Addr}(I:ae X pins σ H s)
  (hch:∀b∈ch,(b∈X.ex∨X.s_0.heap.objs.size<=b)/\b≠X.env.locals/\(∀x c,X.env.cells.lookup x=some c->c≠b)/\∀p∈X.pn++pins,p.1≠b)
  (keep:∀b o,b≠X.env.locals->b∉X.fs->b∉ch->s.heap.get? b=some o->H b=none->h'.get? b=some o)
  (slot:∀b o,b≠X.env.locals->b∈X.fs->b∉ch->s.heap.get? b=some o->H b=none->∃sl,h'.get? b=some {o with slots:=sl}) (free:∀b o,b∉ch->s.heap.get? b=some o->H b=none->H' b=none)
  (there:∀b o,b∉ch->s.heap.get? b=some o->∃o',h'.get? b=some o')
  (tups:∀b xs,H b=some (.tup xs)->H' b=some (.tup xs)) (frzs:∀b o u,H b=some (.frz o u)->H' b=some (.frz o u)) (tbls:∀b ps,H b=some (.tbl ps)->∃more,H' b=some (.tbl (ps++more)))
  (ns:∀m,s.heap.Ns X.env.locals m->h'.Ns X.env.locals m) (hok:cg X.prog X.w H' h') (hg:AllBare g'):
  ae X pins σ H' {s with heap:=h',gens:=g',drawn:=d',toks:=t'}:=by
 have neL:∀b o,X.s_0.heap.get? b=some o->b≠X.env.locals:=λb o e=>cy (dN (bp e) I.ok.above);have neC:∀b o,X.s_0.heap.get? b=some o->b∉X.ex->b∉ch:=λb o e hx hb=>by
  rcases(hch b hb).1 with z|z
  ·exact hx z
  ·exact absurd (dN (bp e) z) (fW _)
 have cellK:∀x c,X.env.cells.lookup x=some c->∀v,s.heap.IsCell c v->h'.IsCell c v:=λx c e v ⟨o,ho,hd⟩=>by
  have nch:c∉ch:=λz=>(hch c z).2.2.1 x c e rfl;by_cases hc:c∈X.fs
  ·obtain⟨sl,q⟩:=slot c o (I.cne x c e) hc nch ho (I.freeC x c e);exact⟨_,q,hd⟩
  ·exact⟨o,keep c o (I.cne x c e) hc nch ho (I.freeC x c e),hd⟩
 refine⟨I.ok,I.os,hg,⟨λb o e n hb hx=>?_,λb o e n hb hx=>?_,λb o e n hx=>?_,λb o e hx=>?_,λb xs e=>tups b xs (I.base.tups b xs e),λb o xs e=>frzs b o xs (I.base.frzs b o xs e),λb ps e=>?_⟩,?_,λx c e=>?_,?_,λx c e=>?_,λp hp=>?_,hok,I.len⟩
 ·exact keep b o (neL b o e) hb (neC b o e hx) (I.base.keep b o e n hb hx) (I.base.free b o e n hx)
 ·obtain⟨sl,e1⟩:=I.base.slot b o e n hb hx;obtain⟨sl',e2⟩:=slot b _ (neL b o e) hb (neC b o e hx) e1 (I.base.free b o e n hx);exact⟨sl',e2⟩
 ·obtain⟨o',e1⟩:=I.base.there b o e hx;exact free b o' (neC b o e hx) e1 (I.base.free b o e n hx)
 ·obtain⟨o',e1⟩:=I.base.there b o e hx;exact there b o' (neC b o e hx) e1
 ·obtain⟨m1,e1⟩:=I.base.tbls b ps e;obtain⟨m2,e2⟩:=tbls b _ e1;exact⟨m1++m2,by rw[e2,Array.append_assoc]⟩
 ·obtain⟨m,hn,hl⟩:=I.loc;refine⟨m,ns m hn,λi x v e1 e2 e3=>?_⟩;obtain⟨u,r,l⟩:=hl i x v e1 e2 e3;refine⟨u,r,?_⟩;rcases l with l|⟨k,c,e,z⟩
  ·exact .inl l
  ·exact .inr ⟨k,c,e,cellK x c e _ z⟩
 ·obtain⟨v,z⟩:=I.cell x c e;exact⟨v,cellK x c e v z⟩
 ·obtain⟨m,⟨o,_,_,ho,_⟩,_⟩:=I.loc;exact free _ o (λz=>(hch _ z).2.1 rfl) ho I.free
 ·obtain⟨v,o,ho,hd⟩:=I.cell x c e;exact free c o (λz=>(hch c z).2.2.1 x c e rfl) ho (I.freeC x c e)
 ·obtain⟨e,n,ne,nf,d⟩:=I.pin p hp;have nch:p.1∉ch:=λz=>(hch p.1 z).2.2.2 p hp rfl;exact⟨keep p.1 p.2 ne nf nch e n,free p.1 p.2 nch e n,ne,nf,d⟩
theorem ae.un(I:ae X pins σ H s)(u:Un X.fs [] H H' s.heap h')(hok:cg X.prog X.w H' h'):ae X pins σ H' {s with heap:=h',toks:=t'}:=by
 obtain⟨m,⟨o,es,ep,ho,r⟩,_⟩:=id I.loc;obtain⟨sl,hL⟩:=u.any ho I.free (by simp);exact I.step (g':=s.gens) (d':=s.drawn) (ch:=[]) (λ_ z=>nomatch z) (λb o _ hb _ e n=>u.keep b o e n hb (by simp)) (λb o _ hb _ e n=>u.slot b o e n hb (by simp)) (λb o _ e n=>u.free b o e n (by simp)) (λb o _ e=>u.there b o e (by simp)) u.tups u.frzs u.tbls (λm' hm=>by
  obtain⟨o',es',ep',ho',r'⟩:=hm;rw[ho]at ho';cases ho';exact⟨_,es',ep',hL,r'⟩) hok I.bare
theorem ae.call{g':Array GenState}{d':Drawn}(I:ae X pins σ H s)(u:Un (gG X.stack) ch H H' s.heap h')(hok:cg X.prog X.w H' h')(hg:AllBare g')
  (hch:∀b∈ch,(b∈X.ex∨X.s_0.heap.objs.size<=b)/\b≠X.env.locals/\(∀x c,X.env.cells.lookup x=some c->c≠b)/\∀p∈X.pn++pins,p.1≠b):
  ae X pins σ H' {s with heap:=h',gens:=g',drawn:=d',toks:=t'}:=by
 obtain⟨m,⟨o,es,ep,ho,r⟩,_⟩:=id I.loc;obtain⟨sl,hL⟩:=u.any ho I.free λz=>(hch _ z).2.1 rfl;exact I.step (ch:=ch) hch (λb o hL hb hc e n=>u.keep b o e n (λz=>(a9.mp (I.stkSub b z)).elim hL hb) hc) (λb o _ _ hc e n=>u.any e n hc) (λb o hc e n=>u.free b o e n hc) (λb o hc e=>u.there b o e hc) u.tups u.frzs u.tbls (λm' hm=>by
  obtain⟨o',es',ep',ho',r'⟩:=hm;rw[ho]at ho';cases ho';exact⟨_,es',ep',hL,r'⟩) hok hg
theorem ae.turned(I:ae X pins σ H s)(k:∀b o,b≠it->s.heap.get? b=some o->h'.get? b=some o)(hn:H it=none)(hL:it≠X.env.locals)
  (h1:it∈X.ex∨X.s_0.heap.objs.size<=it) (h2:∀x c,X.env.cells.lookup x=some c->c≠it) (h3:∀p∈X.pn++pins,p.1≠it):ae X pins σ H {s with heap:=h',toks:=t'}:=by
 have nit:∀b u,H b=some u->b≠it:=λb u e z=>by rw[z,hn]at e;cases e
 refine I.step (g':=s.gens) (d':=s.drawn) (ch:=[it]) (λb hb=>?_) (λb o _ _ hc e _=>k b o (λz=>hc (by simp[z])) e) (λb o _ _ hc e _=>⟨o.slots,k b o (λz=>hc (by simp[z])) e⟩) (λ_ _ _ _ n=>n)
  (λb o hc e=>⟨o,k b o (λz=>hc (by simp[z])) e⟩) (λ_ _ e=>e) (λ_ _ _ e=>e) (λb ps e=>⟨#[],by rw[e];simp⟩) (λm hm=>?_) (λb u e=>?_) I.bare
 ·have e:b=it:=by simpa using hb
  subst e;exact⟨h1,hL,h2,h3⟩
 ·obtain⟨o,es,ep,ho,r⟩:=hm;exact⟨o,es,ep,k _ o (bP hL) ho,r⟩
 ·refine(I.hok b u e).stay (λc v hc q=>k c v ?_ q) (λ_ q=>q) λ_ _ q=>q;rcases hc with z|z
  ·rw[z];exact nit b u e
  ·exact nit c _ z
theorem ae.tok(I:ae X pins σ H s)(t:Nat):ae X pins σ H {s with toks:=t}:=I.un (h':=s.heap) (t':=t) Un.refl I.hok
theorem ae.kept(I:ae X pins σ H s)(k:∀b u,s.heap.get? b=some u->h'.get? b=some u):ae X pins σ H {s with heap:=h',toks:=t'}:=I.un (Un.kept k) (I.hok.kept k)
theorem ae.laid{o:HO}(I:ae X pins σ H s)(k:∀b u,s.heap.get? b=some u->h'.get? b=some u)(hp:s.heap.objs.size<=a)(new:cQ X.prog X.w (upd H a o) h' a o):
  ae X pins σ (upd H a o) {s with heap:=h',toks:=t'}:=I.un (Un.laid k hp (I.hok.fresh hp)) (I.hok.laid k hp new)
theorem ae.write{x e:Addr}{o:HO}(I:ae X pins σ H s)(mu:iI (H x))(he:e=x∨H e=some (.own x))(k:∀b u,b≠e->s.heap.get? b=some u->h'.get? b=some u)(heo:∃u,h'.get? e=some u)
  (new:cQ X.prog X.w (upd H x o) h' x o):ae X pins σ (upd H x o) {s with heap:=h',toks:=t'}:=I.un (Un.write mu he k heo) (I.hok.write mu he k heo new)
theorem ae.weak{σ':List (Option V)}(I:ae X pins σ H s)(hl:σ'.length=σ.length)(w:∀(i:Nat) v,σ'[i]?=some (some v)->σ[i]?=some (some v)):ae X pins σ' H s:=
 ⟨I.ok,I.os,I.bare,I.base,let⟨m,hn,hl'⟩:=I.loc;⟨m,hn,λi x v e1 e2 e3=>hl' i x v e1 (w i v e2) e3⟩,I.cell,I.free,I.freeC,I.pin,I.hok,hl.trans I.len⟩
theorem ae.pins_of{pins':List (Addr×Obj)}(I:ae X pins σ H s)(h:∀p∈pins',s.heap.get? p.1=some p.2/\H p.1=none/\p.1≠X.env.locals/\p.1∉X.fs/\∀v,p.2.data≠.cell v):ae X pins' σ H s:=
 ⟨I.ok,I.os,I.bare,I.base,I.loc,I.cell,I.free,I.freeC,λp hp=>(cK.mp hp).elim (λz=>I.pin p (p8 _ z)) (h p),I.hok,I.len⟩
theorem qy(hN:N.Nodup)(a:N[i]?=some x)(b:N[j]?=some x):i=j:=by
 obtain⟨h1,e1⟩:=cX.mp a;obtain⟨h2,e2⟩:=cX.mp b;exact(List.getElem_inj hN).mp (e1.trans e2.symm)
theorem xE{v:V}{Q:Unit->Shared->Prop}(I:ae X pins σ H s)(hN:X.N.Nodup)(hi:X.N[i]?=some x)(hx:oR X.env.scope x)(r:aT v u)
  (h:∀s',ae X pins (σ.set i (some v)) H s'->(∃a,Heap.SameBut a s.heap s'.heap/\(a=X.env.locals∨X.env.cells.lookup x=some a))->Q () s') (hf:X.fn x=true∨X.env.scope.names.lookup x=some .local:=by first|exact .inl rfl|exact .inr rfl|assumption):wpAny M A (storeName X.env x u) Q E s:=by
 obtain⟨m,hn,hl⟩:=id I.loc;have hcls:(X.env.scope.kind==.class||(X.env.scope.kind==.module&&X.env.locals != X.env.globals))=false:=by rw[I.ok.kind];rfl
 have hiσ:i<σ.length:=by rw[I.len];exact(cX.mp hi).1
 have cne:=I.cne;have tracked:∀{a:Addr} {h':Heap},(∃o,s.heap.get? a=some o/\H a=none)->Heap.SameBut a s.heap h'->cg X.prog X.w H h':=λ{a h'} ha hs b ob e=>by
  obtain⟨_,_,hfree⟩:=ha;refine(I.hok b ob e).stay (λc w' hc q=>(hs.2 c ?_).trans q) (λ_ q=>q) λ_ _ q=>q;rintro rfl;rcases hc with rfl|hc
  ·rw[hfree]at e;cases e
  ·rw[hfree]at hc;cases hc
 rcases hx with hk|hk
 ·refine wpAny_storeName_local hk hn (λh' hn' hs=>?_) hcls;obtain⟨oL,_,_,hoL,_⟩:=id hn;refine h _ ⟨I.ok,I.os,I.bare,⟨λb o e n hb hx=>?_,λb o e n hb hx=>?_,I.base.free,λb o e hx=>?_,I.base.tups,I.base.frzs,I.base.tbls⟩,⟨_,hn',λj y v' e1 e2 e3=>?_⟩,λy c e=>?_,I.free,I.freeC,λp hp=>?_,tracked ⟨oL,hoL,I.free⟩ hs,by simpa using I.len⟩ ⟨_,hs,.inl rfl⟩
  ·exact(hs.2 b (cy (dN (bp e) I.ok.above))).trans (I.base.keep b o e n hb hx)
  ·obtain⟨sl,e1⟩:=I.base.slot b o e n hb hx;exact⟨sl,(hs.2 b (cy (dN (bp e) I.ok.above))).trans e1⟩
  ·obtain⟨o',e1⟩:=I.base.there b o e hx;exact⟨o',(hs.2 b (cy (dN (bp e) I.ok.above))).trans e1⟩
  ·by_cases hj:j=i
   ·subst hj;rw[hi]at e1;cases e1;rw[y4 hiσ]at e2;cases e2;exact⟨u,r,.inl ⟨hk,by simp⟩⟩
   ·rw[y6 (bP hj)]at e2;obtain⟨u',r',q⟩:=hl j y v' e1 e2 e3;refine⟨u',r',?_⟩;rcases q with⟨k,e⟩|⟨k,c,e,z⟩
    ·refine .inl ⟨k,?_⟩;have:y≠x:=λe=>hj (qy hN e1 (e▸hi));simp[this,e]
    ·exact .inr ⟨k,c,e,z.sameBut hs (cne y c e)⟩
  ·obtain⟨w',z⟩:=I.cell y c e;exact⟨w',z.sameBut hs (cne y c e)⟩
  ·obtain⟨e,n,ne,nf,d⟩:=I.pin p hp;exact⟨(hs.2 p.1 ne).trans e,n,ne,nf,d⟩
 ·have hfn:X.fn x=true:=by
   rcases hf with z|z
   ·exact z
   ·rw[z]at hk;cases hk
  obtain⟨c,hc⟩:=I.ok.has x (.inl hk);obtain⟨w',z⟩:=I.cell x c hc;refine wpAny_storeName_cell I.ok.kind hk hc z (λh' hc' hs=>?_);obtain⟨oc,hoc,hocd⟩:=id z;refine h {s with heap:=h'} ⟨I.ok,I.os,I.bare,⟨λb o e n hb hx=>?_,λb o e n hb hx=>?_,I.base.free,λb o e hx=>?_,I.base.tups,I.base.frzs,I.base.tbls⟩,⟨m,hn.sameBut hs (bP (cne x c hc)),λj y v' e1 e2 e3=>?_⟩,λy c' e=>?_,I.free,I.freeC,λp hp=>?_,tracked ⟨oc,hoc,I.freeC x c hc⟩ hs,by simpa using I.len⟩ ⟨c,hs,.inr hc⟩
  ·exact(hs.2 b (cy (dN (bp e) (I.ok.cab x c hfn hc)))).trans (I.base.keep b o e n hb hx)
  ·obtain⟨sl,e1⟩:=I.base.slot b o e n hb hx;exact⟨sl,(hs.2 b (cy (dN (bp e) (I.ok.cab x c hfn hc)))).trans e1⟩
  ·obtain⟨o',e1⟩:=I.base.there b o e hx;exact⟨o',(hs.2 b (cy (dN (bp e) (I.ok.cab x c hfn hc)))).trans e1⟩
  ·by_cases hj:j=i
   ·subst hj;rw[hi]at e1;cases e1;rw[y4 hiσ]at e2;cases e2;exact⟨u,r,.inr ⟨.inl hk,c,hc,hc'⟩⟩
   ·rw[y6 (bP hj)]at e2;obtain⟨u',r',q⟩:=hl j y v' e1 e2 e3;refine⟨u',r',?_⟩;rcases q with q|⟨k,c',e,z'⟩
    ·exact .inl q
    ·refine .inr ⟨k,c',e,z'.sameBut hs ?_⟩;rintro rfl;exact hj (qy hN e1 (I.ok.inj _ _ _ e hc▸hi))
  ·by_cases hcc:c'=c
   ·subst hcc;exact⟨_,hc'⟩
   ·obtain⟨w2,z2⟩:=I.cell y c' e;exact⟨w2,z2.sameBut hs hcc⟩
  ·obtain⟨e,n,ne,nf,d⟩:=I.pin p hp;refine⟨(hs.2 p.1 ?_).trans e,n,ne,nf,d⟩;intro q;rw[q,hoc]at e;have q':oc=p.2:=b9 e;exact d w' (by rw[←q'];exact hocd)
theorem yt{v:V}{Q:Unit->Shared->Prop}(I:ae X pins σ H s)(hN:X.N.Nodup)(hi:X.N[i]?=some x)(hx:oR X.env.scope x)(r:aT v u)
  (h:∀s',ae X pins (σ.set i (some v)) H s'->Q () s') (hf:X.fn x=true∨X.env.scope.names.lookup x=some .local:=by first|exact .inl rfl|exact .inr rfl|assumption):wpAny M A (storeName X.env x u) Q E s:=
 xE I hN hi hx r (λs' I' _=>h s' I') hf
theorem ae.call'{s':Shared}(I:ae X pins σ H s)(ho:s'.os=s.os)(u:Un (gG X.stack) ch H H' s.heap s'.heap)(hok:cg X.prog X.w H' s'.heap)(hg:AllBare s'.gens)
  (hch:∀b∈ch,(b∈X.ex∨X.s_0.heap.objs.size<=b)/\b≠X.env.locals/\(∀x c,X.env.cells.lookup x=some c->c≠b)/\∀p∈X.pn++pins,p.1≠b):ae X pins σ H' s':=by
 obtain⟨h',g',d',t',o'⟩:=s';have e:o'=s.os:=ho;subst e;exact I.call (g':=g') (t':=t') (d':=d') u hok hg hch
end
abbrev XK:=Value->Option Addr->Hp->Prop
abbrev St:=List (Option V)
variable{σ:St}
abbrev VK:=V->Hp->Prop
abbrev TE:=St->Hp->VK->Prop
variable{t te:TE}
abbrev TT:=St->Hp->(Bool->Hp->Prop)->Prop
variable{tt:TT}
abbrev TA:=St->Hp->(List V->Hp->Prop)->Prop
variable{ta:TA}
structure lu where
 nx:St->Hp->Prop
 rt:VK
 bk:St->Hp->Prop:=λ_ _=>False
 ct:St->Hp->Prop:=λ_ _=>False
variable{D:lu}
abbrev TS:=lu->St->Hp->Prop
variable{tb:TS}
def EP(X:Cx)(pins:List (Addr×Obj))(σ:St)(Q:VK)(u:Value)(s':Shared):Prop:=∃v H',ae X pins σ H' s'/\aT v u/\Q v H'
def TP(X:Cx)(pins:List (Addr×Obj))(σ:St)(Q:Bool->Hp->Prop)(b:Bool)(s':Shared):Prop:=∃H',ae X pins σ H' s'/\Q b H'
def AP(X:Cx)(pins:List (Addr×Obj))(σ:St)(Q:List V->Hp->Prop)(us:List Value)(s':Shared):Prop:=∃vs H',ae X pins σ H' s'/\aH vs us/\Q vs H'
def SP(X:Cx)(pins:List (Addr×Obj))(D:lu)(f:Flow)(s':Shared):Prop:=
 match f with
 |.next=>∃σ' H',ae X pins σ' H' s'/\D.nx σ' H'
 |.brk=>∃σ' H',ae X pins σ' H' s'/\D.bk σ' H'
 |.cont=>∃σ' H',ae X pins σ' H' s'/\D.ct σ' H'
 |.ret u=>∃v σ' H',ae X pins σ' H' s'/\aT v u/\D.rt v H'
def PE(X:Cx)(e:Expr)(t:TE):Prop:=
 ∀(pins:List (Addr×Obj)) (s:Shared) (σ:St) (H:Hp) (Q:VK),ae X pins σ H s->t σ H Q->wpAny (model X.prog X.w) X.A (eval e X.env) (EP X pins σ Q) X.xe s
def PT(X:Cx)(e:Expr)(t:TT):Prop:=
 ∀(pins:List (Addr×Obj)) (s:Shared) (σ:St) (H:Hp) (Q:Bool->Hp->Prop),ae X pins σ H s->t σ H Q->wpAny (model X.prog X.w) X.A (isTrue e X.env (eval e X.env)) (TP X pins σ Q) X.xe s
def PW(X:Cx)(e:Expr)(t:TT):Prop:=
 ∀(whole:Sem Value) (pins:List (Addr×Obj)) (s:Shared) (σ:St) (H:Hp) (Q:Bool->Hp->Prop),ae X pins σ H s->t σ H Q->wpAny (model X.prog X.w) X.A (isTrue e X.env whole) (TP X pins σ Q) X.xe s
theorem PW.pt{t:TT}(h:PW X e t):PT X e t:=h _
def PA(X:Cx)(es:List Expr)(t:TA):Prop:=
 ∀(pos:Pos) (pins:List (Addr×Obj)) (s:Shared) (σ:St) (H:Hp) (Q:List V->Hp->Prop),ae X pins σ H s->t σ H Q->wpAny (model X.prog X.w) X.A (spliced (backTo pos (starEach es X.env))) (AP X pins σ Q) X.xe s
def PS(X:Cx)(st:Stmt)(t:TS):Prop:=
 ∀(pins:List (Addr×Obj)) (s:Shared) (σ:St) (H:Hp) (D:lu),ae X pins σ H s->t D σ H->wpAny (model X.prog X.w) X.A (exec st X.env) (SP X pins D) X.xe s
def fb(X:Cx)(st:List Stmt)(t:TS):Prop:=
 ∀(pins:List (Addr×Obj)) (s:Shared) (σ:St) (H:Hp) (D:lu),ae X pins σ H s->t D σ H->wpAny (model X.prog X.w) X.A (execs st X.env) (SP X pins D) X.xe s
theorem aI{α:Type}{t:Sem α}{Q Q':α->Shared->Prop}(h:wpAny M A t Q E s)(hQ:∀a s,Q a s->Q' a s):wpAny M A t Q' E s:=eX h hQ λ_ _ x=>x
section
variable{X:Cx}
def ya(i:Nat):TE:=λσ H Q=>∃v,σ[i]?=some (some v)/\Q v H
def tC(v:V):TE:=λ_ H Q=>Q v H
theorem BQ(hN:X.N[i]?=some x)(hv:lF X.env.scope x)(hd:(x==("__debug__":Str))=false:=by decide)(hcd:(x==("__classdict__":Str))=false:=by decide):PE X (.Name x pos) (ya i):=by
 intro pins s σ H Q I h;obtain⟨v,e,h⟩:=h;obtain⟨m,hn,hl⟩:=I.loc;obtain⟨u,r,l⟩:=hl i x v hN e hv;have fin:EP X pins σ Q u s:=⟨v,H,I,r,h⟩;rcases l with⟨hk,hm⟩|⟨hk,c,hc,hcell⟩
 ·exact wpAny_Name (wpAny_loadName_local I.ok.kind hk hn hm fin) hd
 ·rcases hk with hk|hk
  ·exact wpAny_Name (wpAny_loadName_cell I.ok.kind hk hc hcell fin) hd
  ·exact wpAny_Name (wpAny_loadName_free I.ok.kind hk hc hcell fin hcd) hd
theorem aq{i j pos}:PE X (.Constant (.int i) j pos) (tC (.int i)):=λ_ _ _ H _ I h=>wpAny_Constant_int ⟨.int i,H,I.tok _,⟨_,rfl⟩,h⟩
theorem qw{b j pos}:PE X (.Constant (.bool b) j pos) (tC (.bl b)):=λ_ _ _ H _ I h=>Constant_bool ⟨.bl b,H,I,rfl,h⟩
theorem xF{j pos}:PE X (.Constant .none j pos) (tC .non):=λ_ _ _ H _ I h=>Constant_none ⟨.non,H,I,rfl,h⟩
def Gl(X:Cx)(x:Str):Prop:=X.env.kindOf x=some .globalImplicit
theorem l8(I:ae X pins σ H s)(hg:Gl X x)(hm:X.mg x=some u)(h:Q u s)
  (hd:(x==("__debug__":Str))=false:=by decide):wpAny (model X.prog X.w) X.A (eval (.Name x pos) X.env) Q E s:=
 Calls.Name_function_global I.ok.kind hg (Calls.loadGlobal_global (by rw[I.ok.glob];exact I.mod.glob.keeps I.bk) hm h) hd
theorem iO(I:ae X pins σ H s)(hg:Gl X x)(hm:X.mg x=none)(hv:bootBuiltins x=some u)(h:Q u s)
  (hn:x≠"__name__":=by decide) (hd:(x==("__debug__":Str))=false:=by decide):wpAny (model X.prog X.w) X.A (eval (.Name x pos) X.env) Q E s:=by
 obtain⟨mb,h1,h2⟩:=I.mod.blt;exact Calls.Name_function_global I.ok.kind hg (Calls.loadGlobal_builtin (by rw[I.ok.glob];exact I.mod.glob.keeps I.bk) hm (by rw[I.ok.blt];exact h1.keeps I.bk) ((h2 x hn).trans hv) h) hd
theorem aP{v:V}(hg:Gl X x)(hm:X.mg x=some u)(r:aT v u)(hd:(x==("__debug__":Str))=false:=by decide):PE X (.Name x pos) (tC v):=
 λ_ _ _ H _ I h=>l8 I hg hm ⟨v,H,I,r,h⟩ hd
variable{a b:Expr}{ta tb:TE}{pos:Pos}
def tB(t:TE):TT:=λσ H Q=>t σ H λx H1=>∃c,x= .bl c/\Q c H1
theorem eO(h:PE X e t)(he:∀whole,isTrue e X.env whole=(do let v←whole;standAt e.pos;holding [v] (truthy v)):=by intro _;rfl):PT X e (tB t):=by
 intro pins s σ H Q I hw;refine isTrue_plain (aI (h pins s σ H _ I hw) λv s1 ⟨x,H1,I1,r1,q1⟩=>?_) (he _);obtain⟨d,rfl,q⟩:=q1;cases r1;exact gY ⟨H1,I1,q⟩
variable{tA tB':TT}{bV:List Expr}
def Gq(t u:TT):TT:=λσ H Q=>t σ H λc H1=>if c=true then u σ H1 Q else Q false H1
def B1(t u:TT):TT:=λσ H Q=>t σ H λc H1=>if c=true then Q true H1 else u σ H1 Q
def F6(t:TT):TT:=λσ H Q=>t σ H λc H1=>Q (!c) H1
theorem v9(ha:PT X a tA):PW X (.BoolOp .And [a] pos) tA:=by
 intro wh pins s σ H Q I h;refine isTrue_and (aI (ha pins s σ H Q I h) λc s1 e=>?_);cases c with
 |true=>exact isTrue_and_nil e
 |false=>exact e
theorem jC(ha:PT X a tA):PW X (.BoolOp .Or [a] pos) tA:=by
 intro wh pins s σ H Q I h;refine isTrue_or (aI (ha pins s σ H Q I h) λc s1 e=>?_);cases c with
 |false=>exact isTrue_or_nil e
 |true=>exact e
theorem uR(ha:PT X a tA)(hb:PW X (.BoolOp .And (b::bV) pos) tB'):PW X (.BoolOp .And (a::b::bV) pos) (Gq tA tB'):=by
 intro wh pins s σ H Q I h;refine isTrue_and (aI (ha pins s σ H _ I h) λc s1 ⟨H1,I1,q1⟩=>?_);cases c with
 |true=>exact hb wh pins s1 σ H1 Q I1 q1
 |false=>exact⟨H1,I1,q1⟩
theorem jJ(ha:PT X a tA)(hb:PW X (.BoolOp .Or (b::bV) pos) tB'):PW X (.BoolOp .Or (a::b::bV) pos) (B1 tA tB'):=by
 intro wh pins s σ H Q I h;refine isTrue_or (aI (ha pins s σ H _ I h) λc s1 ⟨H1,I1,q1⟩=>?_);cases c with
 |true=>exact⟨H1,I1,q1⟩
 |false=>exact hb wh pins s1 σ H1 Q I1 q1
theorem jm(ha:PT X a tA):PT X (.UnaryOp .Not a pos) (F6 tA):=by
 intro pins s σ H Q I h;exact isTrue_not (ha pins s σ H (λc H1=>Q (!c) H1) I h)
def zw(ta tb:TE):TE:=λσ H Q=>ta σ H λx H1=>∃c,x= .bl c/\if c=true then tb σ H1 Q else Q (.bl false) H1
theorem Br{op}(h:PE X a t):PE X (.BoolOp op [a] pos) t:=λpins s σ H Q I hw=>BoolOp_one (h pins s σ H Q I hw)
theorem Bv(ha:PE X a ta)(hb:PE X (.BoolOp .And (b::bV) pos) tb):PE X (.BoolOp .And (a::b::bV) pos) (zw ta tb):=by
 intro pins s σ H Q I h;refine BoolOp_and (aI (ha pins s σ H _ I h) λv s1 ⟨x,H1,I1,r1,q1⟩=>?_);obtain⟨c,rfl,q1⟩:=q1;cases r1;refine gY ?_;cases c with
 |true=>exact hb pins s1 σ H1 Q I1 q1
 |false=>exact⟨.bl false,H1,I1,rfl,q1⟩
def DI(t:TT)(ta tb:TE):TE:=λσ H Q=>t σ H λc H1=>if c=true then ta σ H1 Q else tb σ H1 Q
theorem rj(hc:PT X c tA)(ha:PE X a ta)(hb:PE X b tb):PE X (.IfExp c a b pos) (DI tA ta tb):=by
 intro pins s σ H Q I h;refine wpAny_IfExp (aI (hc pins s σ H _ I h) λd s1 ⟨H1,I1,q1⟩=>?_);cases d with
 |true=>exact ha pins s1 σ H1 Q I1 q1
 |false=>exact hb pins s1 σ H1 Q I1 q1
end
def SqL(K:PySem.W.Frag)(H:Hp)(a:Addr)(xs:List V):Prop:=
 Rd H a (.lst xs)∨
  ∃(o:Obj) (its:Array Value) (n:Nat),K.lookup a=some o/\o.cls= .type "list"/\o.dict=none/\o.data= .seq its n/\its.size<=sizeLine/\aH xs its.toList
def bo(K:PySem.W.Frag)(H:Hp)(a:Addr)(xs:List V):Prop:=
 Rd H a (.tup xs)∨
  ∃(o:Obj) (its:Array Value) (n:Nat),K.lookup a=some o/\o.cls= .type "tuple"/\o.data= .seq its n/\its.size<=sizeLine/\aH xs its.toList
def Ct:Value->Option V
 |.none=>some .non
 |.bool b=>some (.bl b)
 |.int i _=>some (.int i)
 |.str x _=>some (.str x)
 |.bytes b _=>some (.byt b)
 |.float b _=>some (.flt b)
 |.ref a=>some (.ref a)
 |.type n=>some (.ty n)
 |_=>none
theorem aT.abs{x:V}(r:aT x u):Ct u=some x:=by
 cases x with
 |non=>cases r;rfl
 |bl _=>cases r;rfl
 |int _=>obtain⟨t,rfl⟩:=r;rfl
 |str _=>obtain⟨t,rfl⟩:=r;rfl
 |byt _=>obtain⟨t,rfl⟩:=r;rfl
 |flt _=>obtain⟨t,rfl⟩:=r;rfl
 |ref _=>cases r;rfl
 |ty _=>cases r;rfl
theorem aT.inj{x:V}(r:aT x u)(q:aT y u):x=y:=b9 (r.abs.symm.trans q.abs)
theorem aH.inj:∀{xs ys:List V} {us:List Value},aH xs us->aH ys us->xs=ys
 |_,_,_,.nil,.nil=>rfl
 |_,_,_,.cons r t,.cons r' t'=>by rw[r.inj r',aH.inj t t']
section
variable{X:Cx}{pins:List (Addr×Obj)}{σ:St}{H:Hp}{s:Shared}{a:Addr}{xs ys:List V}
theorem SqL.of{K:PySem.W.Frag}(h:H a=some (.lst xs)):SqL K H a xs:=.inl (.inl h)
theorem bo.of{K:PySem.W.Frag}(h:H a=some (.tup xs)):bo K H a xs:=.inl (.inl h)
theorem ae.list(I:ae X pins σ H s)(h:SqL X.K H a xs):∃its:List Value,aH xs its/\PlainL s.heap a its.toArray/\xs.length<=sizeLine:=by
 rcases h with h|⟨o,its,n,hk,hc,hd,hs,hz,r⟩
 ·obtain⟨z,its,n,r,e⟩:=h.ok I.hok;exact⟨its,r,⟨_,n,e,rfl,rfl,rfl⟩,z⟩
 ·refine⟨its.toList,r,⟨o,n,I.kIn a o hk,hc,hd,by simpa using hs⟩,?_⟩;have e:=r.length;simp only[gh]at e;omega
theorem ae.tuple(I:ae X pins σ H s)(h:bo X.K H a xs):∃its:List Value,aH xs its/\IsTup s.heap a its.toArray/\xs.length<=sizeLine:=by
 rcases h with h|⟨o,its,n,hk,hc,hs,hz,r⟩
 ·obtain⟨z,its,r,p⟩:=h.ok I.hok;exact⟨its,r,p,z⟩
 ·refine⟨its.toList,r,⟨o,I.kIn a o hk,hc,n,by simpa using hs⟩,?_⟩;have e:=r.length;simp only[gh]at e;omega
theorem ae.list_inj(I:ae X pins σ H s)(h:SqL X.K H a xs)(h':SqL X.K H a ys):xs=ys:=by
 obtain⟨its,r,⟨o,n,e,_,_,d⟩,_⟩:=I.list h;obtain⟨its',r',⟨o',n',e',_,_,d'⟩,_⟩:=I.list h';rw[e]at e';cases e';rw[d]at d';injection d' with d1 _;have:its=its':=by simpa using dr Array.toList d1
 subst this;exact r.inj r'
theorem ae.tuple_inj(I:ae X pins σ H s)(h:bo X.K H a xs)(h':bo X.K H a ys):xs=ys:=by
 obtain⟨its,r,⟨o,e,_,n,d⟩,_⟩:=I.tuple h;obtain⟨its',r',⟨o',e',_,n',d'⟩,_⟩:=I.tuple h';rw[e]at e';cases e';rw[d]at d';injection d' with d1 _;have:its=its':=by simpa using dr Array.toList d1
 subst this;exact r.inj r'
end
abbrev Cx.wish(X:Cx)(E:Value->Shared->Prop):Cx:={X with xe:=E}
abbrev Cx.nox(X:Cx):Cx:=X.wish λ_ _=>False
theorem Cx.Ok.wish(ok:X.Ok)(E:Value->Shared->Prop):(X.wish E).Ok:=
 ⟨ok.mod,ok.kind,ok.glob,ok.blt,ok.above,ok.inj,ok.has,ok.cab,ok.hd,ok.frames,ok.stk,ok.exf,ok.bs,ok.bsz,ok.noex,ok.exfs,ok.funs,ok.frf⟩
theorem Cx.Ok.unwish(ok:(X.wish E).Ok):X.Ok:=
 ⟨ok.mod,ok.kind,ok.glob,ok.blt,ok.above,ok.inj,ok.has,ok.cab,ok.hd,ok.frames,ok.stk,ok.exf,ok.bs,ok.bsz,ok.noex,ok.exfs,ok.funs,ok.frf⟩
section
variable{X:Cx}{pins:List (Addr×Obj)}{σ:St}{H:Hp}{s:Shared}{E:Value->Shared->Prop}
theorem ae.wish(I:ae X pins σ H s)(E:Value->Shared->Prop):ae (X.wish E) pins σ H s:=⟨I.ok.wish E,I.os,I.bare,I.base,I.loc,I.cell,I.free,I.freeC,I.pin,I.hok,I.len⟩
theorem ae.unwish(I:ae (X.wish E) pins σ H s):ae X pins σ H s:=⟨I.ok.unwish,I.os,I.bare,I.base,I.loc,I.cell,I.free,I.freeC,I.pin,I.hok,I.len⟩
theorem SP.unwish{f:Flow}{s':Shared}(h:SP (X.wish E) pins D f s'):SP X pins D f s':=by
 cases f with
 |next=>obtain⟨σ',H',I,q⟩:=h;exact⟨σ',H',I.unwish,q⟩
 |brk=>obtain⟨σ',H',I,q⟩:=h;exact⟨σ',H',I.unwish,q⟩
 |cont=>obtain⟨σ',H',I,q⟩:=h;exact⟨σ',H',I.unwish,q⟩
 |ret u=>obtain⟨v,σ',H',I,r,q⟩:=h;exact⟨v,σ',H',I.unwish,r,q⟩
theorem PE.nox(h:PE X.nox e t):PE X e t:=λpins s σ H Q I hw=>
 eX (h pins s σ H Q (I.wish _) hw) (λ_ _ ⟨v,H',I',r,q⟩=>⟨v,H',I'.unwish,r,q⟩) λ_ _ z=>False.elim z
theorem fb.nox{st:List Stmt}{t:TS}(h:fb X.nox st t):fb X st t:=λpins s σ H D I hw=>
 eX (h pins s σ H D (I.wish _) hw) (λ_ _ q=>q.unwish) λ_ _ z=>False.elim z
end
section
variable{X:Cx}{st:Stmt}{bV:List Stmt}{t u:TS}{e:Expr}{te:TE}{pos:Pos}
def AZ:TS:=λD σ H=>D.nx σ H
def dz(t u:TS):TS:=λD σ H=>t {D with nx:=u D} σ H
theorem aY:fb X [] AZ:=λ_ _ σ H _ I h=>tK ⟨σ,H,I,h⟩
theorem ai(h1:PS X st t)(h2:fb X bV u):fb X (st::bV) (dz t u):=by
 intro pins s σ H D I h;refine wpAny_execs_cons (aI (h1 pins s σ H {D with nx:=u D} I h) λf s1 q=>?_);cases f with
 |next=>
  obtain⟨σ',H',I',q⟩:=q;exact h2 pins s1 σ' H' D I' q
 |ret v=>exact q
 |brk=>exact q
 |cont=>exact q
theorem aw(h1:PS X st t):fb X [st] t:=by
 intro pins s σ H D I h;refine wpAny_execs_cons (aI (h1 pins s σ H D I h) λf s1 q=>?_);cases f with
 |next=>exact tK q
 |ret v=>exact q
 |brk=>exact q
 |cont=>exact q
theorem ae.quiet(I:ae X pins σ H s):interactive X.env=false:=by simp[interactive,I.ok.kind]
def BN(te:TE):TS:=λD σ H=>te σ H λ_ H1=>D.nx σ H1
theorem fx(he:PE X e te)(hs:swapsWith e none pos.line X.env=pure false:=by rfl):PS X (.Expr e pos) (BN te):=by
 intro pins s σ H D I h;exact wpAny_Expr_any (aI (he pins s σ H _ I h) λv s1 ⟨x,H1,I1,r1,q1⟩=>⟨σ,H1,I1,q1⟩) I.quiet hs
def BZ(te:TE):TS:=λD σ H=>te σ H D.rt
theorem aF(he:PE X e te):PS X (.Return (some e) pos) (BZ te):=by
 intro pins s σ H D I h;exact wpAny_Return_some (aI (he pins s σ H _ I h) λv s1 ⟨x,H1,I1,r1,q1⟩=>⟨x,σ,H1,I1,r1,q1⟩)
def BK(c:TT)(t u:TS):TS:=λD σ H=>c σ H λb H1=>if b=true then t D σ H1 else u D σ H1
theorem aV{a b:List Stmt}{tc:TT}(hc:PT X c tc)(ha:fb X a t)(hb:fb X b u):PS X (.If c a b pos) (BK tc t u):=by
 intro pins s σ H D I h;refine wpAny_If (aI (hc pins s σ H _ I h) λd s1 ⟨H1,I1,q1⟩=>?_);cases d with
 |true=>exact ha pins s1 σ H1 D I1 q1
 |false=>exact hb pins s1 σ H1 D I1 q1
end
abbrev TG:=V->St->Hp->(St->Hp->Prop)->Prop
variable{g:TG}
abbrev iP:=List V->St->Hp->(St->Hp->Prop)->Prop
def PG(X:Cx)(target:Expr)(t:TG):Prop:=
 ∀(pins:List (Addr×Obj)) (s:Shared) (σ:St) (H:Hp) (v:V) (u:Value) (Q:St->Hp->Prop),ae X pins σ H s->aT v u->t v σ H Q->
  wpAny (model X.prog X.w) X.A (assign target X.env u) (λ_ s'=>∃σ' H',ae X pins σ' H' s'/\Q σ' H') X.xe s
def lq(X:Cx)(ts:List Expr)(t:iP):Prop:=
 ∀(pins:List (Addr×Obj)) (s:Shared) (σ:St) (H:Hp) (vs:List V) (us:List Value) (Q:St->Hp->Prop),ae X pins σ H s->aH vs us->t vs σ H Q->
  wpAny (model X.prog X.w) X.A (assignInOrder ((assignEach ts X.env).map (·.2)) us) (λ_ s'=>∃σ' H',ae X pins σ' H' s'/\Q σ' H') X.xe s
abbrev qP:=V->V->V->Hp->(Hp->Prop)->Prop
def uG(X:Cx)(t:qP):Prop:=
 ∀(pins:List (Addr×Obj)) (s:Shared) (σ:St) (H:Hp) (o i v:V) (ov iv u:Value) (Q:Hp->Prop),ae X pins σ H s->aT o ov->aT i iv->aT v u->t o i v H Q->
  wpAny (model X.prog X.w) X.A (setItem ov iv u) (λ_ s'=>∃H',ae X pins σ H' s'/\Q H') X.xe s
section
variable{X:Cx}{pos:Pos}
def oH(i:Nat):TG:=λv σ H Q=>Q (σ.set i (some v)) H
theorem cN(hN:X.N.Nodup)(hi:X.N[i]?=some x)(hx:oR X.env.scope x)(hf:X.fn x=true∨X.env.scope.names.lookup x=some .local:=by first|exact .inl rfl|exact .inr rfl|assumption):PG X (.Name x pos) (oH i):=by
 intro pins s σ H v u Q I r h;exact wpAny_assign_Name (yt I hN hi hx r (λs' I'=>⟨_,H,I',h⟩) hf)
def Co:iP:=λvs σ H Q=>vs=[]/\Q σ H
def Gp(t:TG)(u:iP):iP:=λvs σ H Q=>∃v r,vs=v::r/\t v σ H λσ' H'=>u r σ' H' Q
theorem lH:lq X [] Co:=by
 intro pins s σ H vs us Q I r h;obtain⟨e,h⟩:=h;subst e;cases r;exact assignInOrder_nil ⟨σ,H,I,h⟩
theorem gT{es:List Expr}{t:TG}{u:iP}(h1:PG X e t)(h2:lq X es u)
  (hs:(assignEach (e::es) X.env).map (·.2)=assign e X.env::(assignEach es X.env).map (·.2):=by rfl):lq X (e::es) (Gp t u):=by
 intro pins s σ H vs us Q I r h;obtain⟨v,vr,e1,h⟩:=h;subst e1;cases r with
 |cons r rr=>
  rw[hs];refine assignInOrder_cons (aI (h1 pins s σ H _ _ _ I r h) λ_ s1 ⟨σ1,H1,I1,q1⟩=>?_);exact h2 pins s1 σ1 H1 _ _ Q I1 rr q1
def yq(K:PySem.W.Frag)(n:Nat)(t:iP):TG:=λv σ H Q=>∃a xs,v= .ref a/\bo K H a xs/\xs.length=n/\t xs σ H Q
theorem xp{es:List Expr}{k:Nat}{t:iP}(hc:X.calm=true)(h:lq X es t)
  (hn:(assignEach es X.env).length=n:=by rfl) (hst:(assignEach es X.env).findIdx? (·.1)=none:=by rfl):PG X (.Tuple es k pos) (yq X.K n t):=by
 intro pins s σ H v u Q I r hw;obtain⟨a,xs,e1,hq,hl,hw⟩:=hw;subst e1;cases r;obtain⟨its,rv,ht,hz⟩:=I.tuple hq;refine assign_Tuple_tuple (I.ok.hd hc) ht (by simp[hn,←hl,rv.length]) hst λh' hx=>?_;have I1:ae X pins σ H {s with heap:=h'}:=I.kept (t':=s.toks) λb o e=>hx b o (cy (bp e)) e;exact h pins _ σ H xs _ Q I1 (by simpa using rv) hw
def BX(to ti:TE)(t:qP):TG:=λv σ H Q=>to σ H λo H1=>ti σ H1 λi H2=>t o i v H2 λH3=>Q σ H3
theorem sL{o i:Expr}{to ti:TE}{t:qP}(ho:PE X o to)(hi:PE X i ti)(hs:uG X t)
  (ha:∀v,assign (.Subscript o i pos) X.env v=(do
   let ov←holding [v] (eval o X.env)
   let iv←holding [v,ov] (eval i X.env)
   standAt pos
   holding [v,ov,iv] (setItem ov iv v)
   release [v,ov,iv] []):=by intro _;rfl):PG X (.Subscript o i pos) (BX to ti t):=by
 intro pins s σ H v u Q I r h;rw[ha];refine aa (dJ (aI (ho pins s σ H _ I h) λov s1 ⟨x,H1,I1,r1,q1⟩=>?_));refine aa (dJ (aI (hi pins s1 σ H1 _ I1 q1) λiv s2 ⟨y,H2,I2,r2,q2⟩=>?_));refine aa (p9 (aa (dJ (aI (hs pins s2 σ H2 x y v ov iv u _ I2 r1 r2 r q2) λ_ s3 ⟨H3,I3,q3⟩=>?_))));exact wpAny_release ⟨σ,H3,I3,q3⟩
def sj(te:TE)(g:TG):TS:=λD σ H=>te σ H λx H1=>g x σ H1 D.nx
theorem rG(he:PE X e te)(hg:PG X tg g)(hs:swapsWithSole [tg] e pos.line X.env=pure false:=by rfl)(hw:swappedStores [tg] e X.env=pure none:=by rfl)
  (h1:(assignEach [tg] X.env).map (·.2)=[assign tg X.env]:=by rfl):PS X (.Assign [tg] e pos) (sj te g):=by
 intro pins s σ H D I h;refine wpAny_Assign_stores (aI (he pins s σ H _ I h) λv s1 ⟨x,H1,I1,r1,q1⟩=>?_) hs hw;rw[h1];exact aI (hg pins s1 σ H1 x v _ I1 r1 q1) λ_ s2 q=>q
theorem aS{pos':Pos}(hN:X.N.Nodup)(hi:X.N[i]?=some x)(hx:oR X.env.scope x)(he:PE X e te)(hs:swapsWith e (some (.Name x pos')) pos.line X.env=pure false:=by rfl)(hf:X.fn x=true∨X.env.scope.names.lookup x=some .local:=by first|exact .inl rfl|exact .inr rfl|assumption):
  PS X (.Assign [.Name x pos'] e pos) (sj te (oH i)):=by
 intro pins s σ H D I h;refine wpAny_Assign_Name (aI (he pins s σ H _ I h) λv s1 ⟨y,H1,I1,r1,q1⟩=>?_) hs;exact yt I1 hN hi hx r1 (λs2 I2=>⟨_,H1,I2,q1⟩) hf
def Fu(c:TT)(tb:TS):TS:=λD σ H=>∃W:Nat->St->Hp->Prop,(∃m,W m σ H)/\∀m σ H,W m σ H->
 c σ H λb H1=>if b=true then∃N:St->Hp->Prop,(∀σ' H',N σ' H'->∃m',m'<m/\W m' σ' H')/\tb {D with nx:=N,ct:=N,bk:=D.nx} σ H1 else D.nx σ H1
theorem qA{tc:TT}(hp:PassesOwn (model X.prog X.w) X.A X.env X.xe)(hc:PT X c tc)(hb:fb X body tb):PS X (.While c body [] pos) (Fu tc tb):=by
 intro pins s σ H D I h;obtain⟨W,⟨m0,w0⟩,turn⟩:=h;refine wpAny_While (codeAny_whileLoop (λn s'=>∃σ' H',ae X pins σ' H' s'/\W n σ' H') ?_ m0 ⟨σ,H,I,w0⟩);rintro n s1 ⟨σ1,H1,I1,w1⟩;refine kU hp (aI (hc pins s1 σ1 H1 _ I1 (turn n σ1 H1 w1)) λb s2 ⟨H2,I2,q2⟩=>?_);cases b with
 |true=>
  obtain⟨N,hN,q2⟩:=q2;rw[if_pos rfl];refine kU hp (aI (hb pins s2 σ1 H2 _ I2 q2) λf s3 q3=>?_);cases f with
  |next=>
   obtain⟨σ3,H3,I3,n3⟩:=q3;obtain⟨m',hm,w3⟩:=hN σ3 H3 n3;exact⟨m',hm,σ3,H3,I3,w3⟩
  |cont=>
   obtain⟨σ3,H3,I3,n3⟩:=q3;obtain⟨m',hm,w3⟩:=hN σ3 H3 n3;exact⟨m',hm,σ3,H3,I3,w3⟩
  |brk=>exact q3
  |ret v=>exact q3
 |false=>
  rw[if_neg c0];exact tK ⟨σ1,H2,I2,q2⟩
end
structure It where
 go:Nat->Hp->Prop
 yld:Nat->Hp->V->Hp->Prop
 stop:Nat->Hp->Prop
variable{J:It}
def gd(X:Cx)(pins:List (Addr×Obj))(H:Hp)(b:Addr):Prop:=
 H b=none/\b≠X.env.locals/\b∉X.fs/\(b∈X.ex∨X.s_0.heap.objs.size<=b)/\(∀x c,X.env.cells.lookup x=some c->c≠b)/\∀p∈X.pn++pins,p.1≠b
theorem ae.fpOk(I:ae X pins σ H s)(hb:s.heap.objs.size<=b)(hn:H' b=none):gd X pins H' b:=by
 refine⟨hn,m3 (dN I.lt hb),I.nofs hb,.inr (dw I.sz hb),λx c e z=>?_,λp hp z=>?_⟩
 ·obtain⟨v,q⟩:=I.cell x c e;exact absurd (dN q.lt (by rw[z];exact hb)) (fW _)
 ·exact absurd (dN (bp (I.pin p hp).1) (by rw[z];exact hb)) (fW _)
structure gW(P:Program)(w:World)(K:PySem.W.Frag)(tg:Expr)(J:It)(fp:List Addr)(it:Addr)(tn:Nat->Heap->Prop):Prop where
 mem:it∈fp
 obj:∀i h,tn i h->∀b∈fp,∃o,h.get? b=some o/\∀v,o.data≠.cell v
 keep:∀i h h',tn i h->(∀b∈fp,∀o,h.get? b=some o->h'.get? b=some o)->tn i h'
 item:∀(X:Cx),X.prog=P->X.w=w->X.K=K->X.calm=true->∀(i:Nat) (pins:List (Addr×Obj)) (s:Shared) (σ:St) (H:Hp) (E:Value->Shared->Prop),ae X pins σ H s->(∀b∈fp,gd X pins H b)->tn i s.heap->J.go i H->
  wpAny (model P w) X.A (pyNext (.ref it)) (λr s1=>∃u,r=some u/\
   wpAny (model P w) X.A (letOwnedTupleGo tg (.ref it) u) (λ_ s2=>∃x H',ae X pins σ H' s2/\aT x u/\J.yld i H x H'/\tn (i+1) s2.heap/\∀b∈fp,H' b=none) E s1) E s
 done:∀(X:Cx),X.prog=P->X.w=w->X.K=K->X.calm=true->∀(i:Nat) (pins:List (Addr×Obj)) (s:Shared) (σ:St) (H:Hp) (E:Value->Shared->Prop),ae X pins σ H s->(∀b∈fp,gd X pins H b)->tn i s.heap->J.stop i H->
  wpAny (model P w) X.A (pyNext (.ref it)) (λr s1=>r=none/\ae X pins σ H s1) E s
 self:∀(A:Around) (i:Nat) (s:Shared) (Q:Value->Shared->Prop) (E:Value->Shared->Prop),tn i s.heap->Q (.ref it) s->wpAny (model P w) A (pyIter (.ref it)) Q E s
abbrev TI:=St->Hp->(It->Hp->Prop)->Prop
variable{wi:TI}
def pO(X:Cx)(pins:List (Addr×Obj))(σ:St)(tg:Expr)(R:It->Hp->Prop)(itv:Value)(s2:Shared):Prop:=
 ∃(it:Addr) (fp:List Addr) (tn:Nat->Heap->Prop) (J:It) (H':Hp),itv= .ref it/\ae X pins σ H' s2/\gW X.prog X.w X.K tg J fp it tn/\tn 0 s2.heap/\(∀b∈fp,gd X pins H' b)/\R J H'
def PI(X:Cx)(tg iter:Expr)(wi:TI):Prop:=
 ∀(pins:List (Addr×Obj)) (s:Shared) (σ:St) (H:Hp) (R:It->Hp->Prop),ae X pins σ H s->wi σ H R->
  wpAny (model X.prog X.w) X.A (eval iter X.env) (λv s1=>wpAny (model X.prog X.w) X.A (pyIter v) (pO X pins σ tg R) X.xe s1) X.xe s
theorem l7{n:String}{vs:Array Value}{Q:Unit->Shared->Prop}(ho:s.heap.get? it=some o)(hc:o.cls= .type n)(hd:o.data= .fields vs)
  (hn:["enumerate","zip","dict_itemiterator","dict_reverseitemiterator","odict_iterator","itertools.zip_longest","itertools.pairwise"].contains n=false) (hQ:Q () s):wpAny M A (letOwnedTupleGo tg (.ref it) u) Q E s:=by
 unfold letOwnedTupleGo;cases tg<;>first
  |exact ah hQ
  |(cases u<;>first
    |exact ah hQ
    |(refine aa (wpAny_load ho ?_);rw[hc,hd];show wpAny M A (if(["enumerate","zip","dict_itemiterator","dict_reverseitemiterator","odict_iterator","itertools.zip_longest","itertools.pairwise"].contains n&&vs[0]?==some (rawInt _))=true then _ else _) Q E s;rw[if_neg (by intro h;rw[hn,pY]at h;cases h)];exact ah hQ))
def l3(K:PySem.W.Frag)(a:Addr):It:=
 ⟨λi H=>∃xs x,SqL K H a xs/\xs[i]?=some x,λi H x H'=>H'=H/\∀xs,SqL K H a xs->xs[i]?=some x,λi H=>∃xs,SqL K H a xs/\xs.length<=i⟩
def qz(lo:Int)(n:Nat):It:=⟨λi _=>i<n,λi H x H'=>H'=H/\x= .int (lo+i),λi _=>n<=i⟩
theorem F2{K:PySem.W.Frag}(a it:Addr):gW P w K tg (l3 K a) [it] it (λi h=>h.IsListIter it a i)where
 mem:=by simp
 obj:=λi h st b hb=>by
  have e:b=it:=by simpa using hb
  subst e;obtain⟨o,e,c,d⟩:=st;exact⟨o,e,λv z=>by rw[d]at z;cases z⟩
 keep:=λi h h' st k=>st.at λo e=>k it (by simp) o e
 item:=by
  intro X hP hw hK hc i pins s σ H E I hf st hg;subst hP hw hK;obtain⟨xs,x,hq,hx⟩:=hg;obtain⟨its,rv,p,hz⟩:=I.list hq;obtain⟨u,hu,ru⟩:=rv.get hx;obtain⟨f0,f1,f2,f3,f4,f5⟩:=hf it (by simp);refine wpAny_pyNext_list_item st p.isList (x:=u) (by simpa using hu) λh' st' sb=>?_;have I1:ae X pins σ H {s with heap:=h'}:=I.turned (t':=s.toks) (λb o hb e=>(sb.2 b hb).trans e) f0 f1 f3 f4 f5;obtain⟨o,e,c,d⟩:=id st';exact⟨u,rfl,l7 (s:={s with heap:=h'}) e c d (by decide) ⟨x,H,I1,ru,⟨rfl,λys hy=>by rw[I.list_inj hy hq];exact hx⟩,st',λb hb=>(hf b hb).1⟩⟩
 done:=by
  intro X hP hw hK hc i pins s σ H E I hf st hg;subst hP hw hK;obtain⟨xs,hq,hx⟩:=hg;obtain⟨its,rv,p,hz⟩:=I.list hq;obtain⟨f0,f1,f2,f3,f4,f5⟩:=hf it (by simp);have hl:=rv.length;exact wpAny_pyNext_list_end (I.ok.hd hc) st p.isList (by simp;omega) λh' eb=>⟨rfl,I.turned (t':=s.toks) (λb o hb e=>eb b o hb e) f0 f1 f3 f4 f5⟩
 self:=λ_ _ _ _ _ st h=>wpAny_pyIter_listiter st h
theorem AL{K:PySem.W.Frag}(it:Addr)(lo:Int)(n:Nat):gW P w K tg (qz lo n) [it] it (λi h=>IsRangeIter h it (lo+ (i:Nat)*1) ((n:Int)- (i:Nat)) 1)where
 mem:=by simp
 obj:=λi h st b hb=>by
  have e:b=it:=by simpa using hb
  subst e;exact⟨_,st,λv z=>by
   have z':Data.fields _=Data.cell v:=z;cases z'⟩
 keep:=λi h h' st k=>k it (by simp) _ st
 item:=by
  intro X hP hw hK hc i pins s σ H E I hf st hg;subst hP hw hK;obtain⟨f0,f1,f2,f3,f4,f5⟩:=hf it (by simp);have W:=Walks.range (prog:=X.prog) (w:=X.w) (I.ok.hd hc) it lo 1 n;refine W.item i s _ _ hg st λv h' tk hv st' kk=>?_;obtain⟨t,rfl⟩:=hv;have I1:ae X pins σ H {s with heap:=h',toks:=tk}:=I.turned (λb o hb e=>kk b o (by simpa using hb) e) f0 f1 f3 f4 f5;refine⟨_,rfl,l7 (s:={s with heap:=h',toks:=tk}) (n:="range_iterator") st' rfl rfl (by decide) ⟨.int (lo+i),H,I1,⟨t,?_⟩,⟨rfl,rfl⟩,st',λb hb=>(hf b hb).1⟩⟩;rw[Int.mul_one]
 done:=by
  intro X hP hw hK hc i pins s σ H E I hf st hg;subst hP hw hK;obtain⟨f0,f1,f2,f3,f4,f5⟩:=hf it (by simp);exact wpAny_pyNext_range_end (I.ok.hd hc) st (by have:n<=i:=hg;omega) λh' eb=>⟨rfl,I.turned (t':=s.toks) (λb o hb e=>eb b o hb e) f0 f1 f3 f4 f5⟩
 self:=λ_ _ _ _ _ st h=>wpAny_pyIter_rangeiter st h
section
variable{X:Cx}{tg:Expr}
def B2(K:PySem.W.Frag)(tl:TE):TI:=λσ H R=>tl σ H λx H1=>∃a,x= .ref a/\(∃xs,SqL K H1 a xs)/\R (l3 K a) H1
theorem iu{l:Expr}{tl:TE}(hl:PE X l tl):PI X tg l (B2 X.K tl):=by
 intro pins s σ H R I h;refine aI (hl pins s σ H _ I h) λv s1 ⟨x,H1,I1,r1,q1⟩=>?_;obtain⟨a,e,⟨xs,hq⟩,q⟩:=q1;subst e;cases r1;obtain⟨its,rv,p,hz⟩:=I1.list hq;refine tL p.isList ?_;refine⟨s1.heap.objs.size,[s1.heap.objs.size],_,_,H1,rfl,I1.kept (t':=s1.toks) λb o e=>bJ _ e,F2 a _,⟨_,cn _ rfl,rfl,rfl⟩,λb hb=>?_,q⟩;have e:b=s1.heap.objs.size:=by simpa using hb
 subst e;exact I1.fpOk (aJ _) (I1.hok.fresh (aJ _))
theorem Ci{R:It->Hp->Prop}{lo hi:Int}{t u v:Tok}(I:ae X pins σ H s)(h1:-(2^62)<=lo)(h2:lo<2^62)(h3:-(2^62)<=hi)(h4:hi<2^62)
  (q:R (qz lo (hi-lo).toNat) H):wpAny (model X.prog X.w) X.A (pyIter (.ref s.heap.objs.size)) (pO X pins σ tg R) E {s with heap:=s.heap.push {cls:=.type "range",data:=.fields #[.int lo t,.int hi u,.int 1 v]},toks:=tk}:=by
 refine wpAny_pyIter_range (IsRange.new ..) (small_one h1 h2 h3 h4) ?_;have I1:ae X pins σ H {s with heap:=s.heap.push {cls:=.type "range",data:=.fields #[.int lo t,.int hi u,.int 1 v]},toks:=tk}:=I.kept λb o e=>bJ _ e;refine⟨(s.heap.push {cls:=.type "range",data:=.fields #[.int lo t,.int hi u,.int 1 v]}).objs.size,[(s.heap.push {cls:=.type "range",data:=.fields #[.int lo t,.int hi u,.int 1 v]}).objs.size],_,_,H,rfl,
  I1.kept (t':=tk) λb o e=>bJ _ e,AL _ lo (hi-lo).toNat,?_,λb hb=>?_,q⟩
 ·have e1:lo+ ((0:Nat):Int)*1=lo:=by simp
  have e2:(((hi-lo).toNat:Nat):Int)- ((0:Nat):Int)=Builtin.Range.rangeSize lo hi 1:=by rw[rangeSize_one];split<;>omega
  show IsRangeIter _ _ (lo+ ((0:Nat):Int)*1) ((((hi-lo).toNat:Nat):Int)- ((0:Nat):Int)) 1;rw[e1,e2];exact cn _ rfl
 ·have e:b=(s.heap.push {cls:=.type "range",data:=.fields #[.int lo t,.int hi u,.int 1 v]}).objs.size:=by simpa using hb
  subst e;exact I1.fpOk (aJ _) (I1.hok.fresh (aJ _))
def zD(ta:TA):TI:=λσ H R=>ta σ H λvs H1=>∃j:Int,vs=[.int j]/\-(2^62)<=j/\j<2^62/\R (qz 0 j.toNat) H1
theorem uf{a:Expr}(hg:Gl X "range")(hm:X.mg "range"=none)(ha:PA X [a] ta)(hs:starEach [a] X.env=[(false,eval a X.env)]:=by rfl):PI X tg (.Call (.Name "range" p) [a] [] pos) (zD ta):=by
 intro pins s σ H R I h;refine Call_ (iO I hg hm boot_range (m4 (aI (ha pos pins s σ H _ I h) λus s1 ⟨vs,H1,I1,r1,q1⟩=>?_) hs rfl));obtain⟨j,e,q1,q2,q⟩:=q1;subst e;cases r1 with
 |cons r rr=>
  cases rr;obtain⟨t,rfl⟩:=r;exact call_range_1 (Ci I1 (by omega) (by omega) q1 q2 (by simpa using q))
def FY(wi:TI)(g:TG)(tb:TS):TS:=λD σ H=>wi σ H λJ H1=>∃W:Nat->Nat->St->Hp->Prop,(∃m,W 0 m σ H1)/\∀i m σ H,W i m σ H->
 (J.stop i H/\D.nx σ H)∨(J.go i H/\∃N:St->Hp->Prop,(∀σ' H',N σ' H'->∃m',m'<m/\W (i+1) m' σ' H')/\∀x H',J.yld i H x H'->g x σ H' λσ2 H2=>tb {D with nx:=N,ct:=N,bk:=D.nx} σ2 H2)
def lG(fp:List Addr)(h:Heap):List (Addr×Obj):=fp.filterMap λb=>(h.get? b).map λo=>(b,o)
theorem rP(hb:b∈fp)(e:h.get? b=some o):(b,o)∈lG fp h:=yV.mpr ⟨b,hb,by rw[e];rfl⟩
theorem Bm{p:Addr×Obj}(hp:p∈lG fp h):p.1∈fp/\h.get? p.1=some p.2:=by
 obtain⟨b,hb,e⟩:=yV.mp hp;cases q:h.get? b with
 |none=>rw[q]at e;cases e
 |some o=>
  rw[q]at e;have e':(b,o)=p:=b9 e;subst e';exact⟨hb,q⟩
theorem ae.pinned(I:ae X pins σ H s)(hf:∀b∈fp,gd X pins H b)(ho:∀b∈fp,∃o,s.heap.get? b=some o/\∀v,o.data≠.cell v):ae X (pins++lG fp s.heap) σ H s:=
 I.pins_of λp hp=>(cK.mp hp).elim (λz=>I.pin p (jf _ z)) λz=>by
  obtain⟨hb,e⟩:=Bm z;obtain⟨f0,f1,f2,_⟩:=hf p.1 hb;obtain⟨o,e',d⟩:=ho p.1 hb;rw[e]at e';cases e';exact⟨e,f0,f1,f2,d⟩
theorem ae.unpinned{pl:List (Addr×Obj)}(I:ae X (pins++pl) σ H s):ae X pins σ H s:=I.pins_of λp hp=>I.pin p (jf _ (p8 _ hp))
theorem jo(hp:PassesOwn (model X.prog X.w) X.A X.env X.xe)(hc:X.calm=true)(hi:PI X tg iter wi)(hg:PG X tg g)(hb:fb X body tb)
  (hs:∀x,foldedSetIterable iter X.env x=pure x:=by intro _;rfl):PS X (.For tg iter body [] pos) (FY wi g tb):=by
 intro pins s σ H D I h;refine wpAny_For (aI (hi pins s σ H _ I h) λv s1 h1=>aI h1 λitv s2 h2=>?_) hs;obtain⟨it,fp,tn,J,H2,e,I2,T,st2,f2,W,⟨m0,w0⟩,turn⟩:=h2;subst e;have stat:∀{H':Hp},(∀b∈fp,H' b=none)->∀b∈fp,gd X pins H' b:=λhn b hb=>⟨hn b hb,(f2 b hb).2⟩;refine codeAny_forLoop_any (λn s'=>∃i σ' H',ae X pins σ' H' s'/\tn i s'.heap/\(∀b∈fp,H' b=none)/\W i n σ' H') ?_ m0 ⟨0,σ,H2,I2,st2,λb hb=>(f2 b hb).1,w0⟩;rintro n s3 ⟨i,σ3,H3,I3,st3,fr3,w3⟩;rcases turn i n σ3 H3 w3 with⟨stop,qn⟩|⟨go,N,hN,step⟩
 ·refine kU hp (aI (T.done X rfl rfl rfl hc i pins s3 σ3 H3 X.xe I3 (stat fr3) st3 stop) λr s4 ⟨hr,I4⟩=>?_);subst hr;exact tK ⟨σ3,H3,I4,qn⟩
 ·refine kU hp (aI (T.item X rfl rfl rfl hc i pins s3 σ3 H3 X.xe I3 (stat fr3) st3 go) λr s4 ⟨u,hr,h4⟩=>?_);subst hr;refine kU hp (aI h4 λ_ s5 ⟨x,H5,I5,r5,y5,st5,fr5⟩=>?_);have I5':=I5.pinned (stat fr5) (T.obj _ _ st5);refine kU hp (aI (hg _ s5 σ3 H5 x u _ I5' r5 (step x H5 y5)) λ_ s6 ⟨σ6,H6,I6,q6⟩=>?_);refine kU hp (aI (hb _ s6 σ6 H6 _ I6 q6) λf s7 q7=>?_);have again:∀{σ7:St} {H7:Hp},ae X (pins++lG fp s5.heap) σ7 H7 s7->N σ7 H7->∃m,m<n/\∃i σ' H',ae X pins σ' H' s7/\tn i s7.heap/\(∀b∈fp,H' b=none)/\W i m σ' H':=λ{σ7 H7} I7 n7=>by
   obtain⟨m',hm,w7⟩:=hN σ7 H7 n7;refine⟨m',hm,i+1,σ7,H7,I7.unpinned,T.keep _ _ _ st5 λb hb o e=>(I7.pin (b,o) (jf _ (jf _ (rP hb e)))).1,λb hb=>?_,w7⟩;obtain⟨o,e,d⟩:=T.obj _ _ st5 b hb;exact(I7.pin (b,o) (jf _ (jf _ (rP hb e)))).2.1
  cases f with
  |next=>obtain⟨σ7,H7,I7,n7⟩:=q7;exact again I7 n7
  |cont=>obtain⟨σ7,H7,I7,n7⟩:=q7;exact again I7 n7
  |brk=>obtain⟨σ7,H7,I7,q7⟩:=q7;exact⟨σ7,H7,I7.unpinned,q7⟩
  |ret v=>obtain⟨x7,σ7,H7,I7,r7,q7⟩:=q7;exact⟨x7,σ7,H7,I7.unpinned,r7,q7⟩
end
theorem CG{K:PySem.W.Frag}{xs:List V}(Pv:Nat->St->Hp->Prop)(h0:Pv 0 σ H)(hl:∀i σ H,i<=xs.length->Pv i σ H->SqL K H a xs)
  (hs:∀i x σ H,xs[i]?=some x->Pv i σ H->g x σ H λσ2 H2=>tb {D with nx:=Pv (i+1),ct:=Pv (i+1),bk:=D.nx} σ2 H2) (hd:∀σ H,Pv xs.length σ H->D.nx σ H):
  ∃W:Nat->Nat->St->Hp->Prop,(∃m,W 0 m σ H)/\∀i m σ H,W i m σ H->
   ((l3 K a).stop i H/\D.nx σ H)∨((l3 K a).go i H/\∃N:St->Hp->Prop,(∀σ' H',N σ' H'->∃m',m'<m/\W (i+1) m' σ' H')/\∀x H',(l3 K a).yld i H x H'->g x σ H' λσ2 H2=>tb {D with nx:=N,ct:=N,bk:=D.nx} σ2 H2):=by
 refine⟨λi m σ H=>m=xs.length-i/\i<=xs.length/\Pv i σ H,⟨xs.length,by simp,da _,h0⟩,?_⟩;rintro i m σ H ⟨rfl,hi,p⟩;have q:=hl i σ H hi p;by_cases hlt:i<xs.length
 ·refine .inr ⟨⟨xs,xs[i],q,by simp[hlt]⟩,Pv (i+1),λσ' H' p'=>⟨xs.length- (i+1),by omega,rfl,hlt,p'⟩,λx H' y=>?_⟩;obtain⟨e,y⟩:=y;subst e;exact hs i x σ _ (y xs q) p
 ·have e:i=xs.length:=by omega
  subst e;exact .inl ⟨⟨xs,q,aJ _⟩,hd σ H p⟩
abbrev R2:=V->V->Hp->VK->Prop
variable{r r':R2}
def cO(X:Cx)(f:Value->Value->Sem Value)(r:R2):Prop:=
 ∀(pins:List (Addr×Obj)) (s:Shared) (σ:St) (H:Hp) (x y:V) (v u:Value) (Q:VK),ae X pins σ H s->aT x v->aT y u->r x y H Q->
  wpAny (model X.prog X.w) X.A (f v u) (EP X pins σ Q) X.xe s
def gE(X:Cx)(f:Value)(r:List V->Hp->VK->Prop):Prop:=
 ∀(pins:List (Addr×Obj)) (s:Shared) (σ:St) (H:Hp) (xs:List V) (us:List Value) (Q:VK),ae X pins σ H s->aH xs us->r xs H Q->
  wpAny (model X.prog X.w) X.A (call f us) (EP X pins σ Q) X.xe s
def oK(r:R2)(ta tb:TE):TE:=λσ H Q=>ta σ H λx H1=>tb σ H1 λy H2=>r x y H2 Q
def rI(C:Int->Int->Prop)(g:Int->Int->V):R2:=λx y H Q=>∃i j,x= .int i/\y= .int j/\C i j/\Q (g i j) H
def iN(g:Int->Int->V):R2:=λx y H Q=>∃i j,x= .int i/\y= .int j/\Q (g i j) H
section
variable{X:Cx}{a b c:Expr}{ta tb tc:TE}{pos:Pos}
theorem qV(ha:PE X a ta)(hb:PE X b tb){R:V->V->Hp->Prop}(I:ae X pins σ H s)
  (h:ta σ H λx H1=>tb σ H1 λy H2=>R x y H2) {f:Value->Value->Sem Value}
  (hf:∀v u s2 x y H2,ae X pins σ H2 s2->aT x v->aT y u->R x y H2->wpAny (model X.prog X.w) X.A (f v u) Q X.xe s2):
  wpAny (model X.prog X.w) X.A (eval a X.env) (λv s₁=>wpAny (model X.prog X.w) X.A (eval b X.env) (λu s₂=>wpAny (model X.prog X.w) X.A (f v u) Q X.xe s₂) X.xe s₁) X.xe s:=by
 refine aI (ha pins s σ H _ I h) λv s1 ⟨x,H1,I1,r1,q1⟩=>?_;refine aI (hb pins s1 σ H1 _ I1 q1) λu s2 ⟨y,H2,I2,r2,q2⟩=>?_;exact hf v u s2 x y H2 I2 r1 r2 q2
theorem cW{op:Operator}(ho:cO X (binaryOp op) r)(ha:PE X a ta)(hb:PE X b tb):PE X (.BinOp a op b pos) (oK r ta tb):=by
 intro pins s σ H Q I h;exact wpAny_BinOp (qV ha hb I h λv u s2 x y H2 I2 rx ry q=>ho pins s2 σ H2 x y v u Q I2 rx ry q)
theorem EB{f:Value->Value->Sem Value}{C:Int->Int->Prop}{g:Int->Int->Int}
  (rule:∀(i j:Int) (t u:Tok) (s:Shared) (Q:Value->Shared->Prop) (E:Value->Shared->Prop),C i j->Q (.int (g i j) s.toks) {s with toks:=s.toks+1}->wpAny (model X.prog X.w) X.A (f (.int i t) (.int j u)) Q E s):
  cO X f (rI C λi j=>.int (g i j)):=by
 intro pins s σ H x y v u Q I rx ry h;obtain⟨i,j,rfl,rfl,hc,q⟩:=h;obtain⟨t,rfl⟩:=rx;obtain⟨t',rfl⟩:=ry;exact rule i j t t' s _ _ hc ⟨.int (g i j),H,I.tok _,⟨_,rfl⟩,q⟩
theorem vZ{f:Value->Value->Sem Value}{g:Int->Int->Int}
  (rule:∀(i j:Int) (t u:Tok) (s:Shared) (Q:Value->Shared->Prop) (E:Value->Shared->Prop),Q (.int (g i j) s.toks) {s with toks:=s.toks+1}->wpAny (model X.prog X.w) X.A (f (.int i t) (.int j u)) Q E s):
  cO X f (iN λi j=>.int (g i j)):=by
 intro pins s σ H x y v u Q I rx ry h;obtain⟨i,j,rfl,rfl,q⟩:=h;obtain⟨t,rfl⟩:=rx;obtain⟨t',rfl⟩:=ry;exact rule i j t t' s _ _ ⟨.int (g i j),H,I.tok _,⟨_,rfl⟩,q⟩
theorem nH{f:Value->Value->Sem Value}{g:Int->Int->Bool}
  (rule:∀(i j:Int) (t u:Tok) (s:Shared) (Q:Value->Shared->Prop) (E:Value->Shared->Prop),Q (.bool (g i j)) s->wpAny (model X.prog X.w) X.A (f (.int i t) (.int j u)) Q E s):
  cO X f (iN λi j=>.bl (g i j)):=by
 intro pins s σ H x y v u Q I rx ry h;obtain⟨i,j,rfl,rfl,q⟩:=h;obtain⟨t,rfl⟩:=rx;obtain⟨t',rfl⟩:=ry;exact rule i j t t' s _ _ ⟨.bl (g i j),H,I,rfl,q⟩
def Cs(i j:Int):Prop:=0<j/\j<1073741824
theorem gc:cO X (binaryOp .Add) (iN λi j=>.int (i+j)):=vZ λ_ _ _ _ _ _ _ q=>add_int q
theorem gQ:cO X (binaryOp .Sub) (iN λi j=>.int (i-j)):=vZ λ_ _ _ _ _ _ _ q=>sub_int q
theorem rM:cO X (binaryOp .FloorDiv) (rI Cs λi j=>.int (i/j)):=EB λi j _ _ _ _ _ hc q=>by
 have h1:(0:Int)<j:=hc.1;have h2:j<1073741824:=hc.2;exact floordiv_int (by omega) (by rw[Int.fdiv_eq_ediv_of_nonneg i (by omega)];exact q) (.inl (PyProof.noPylong_small (by omega)))
end
def wV:V->V->Bool
 |.non,.non=>true|.non,.int _=>true|.int _,.non=>true|.non,.bl _=>true|.bl _,.non=>true|.non,.str _=>true|.str _,.non=>true
 |.int _,.int _=>true|.bl _,.bl _=>true|.str _,.str _=>true|.byt _,.byt _=>true
 |.int _,.str _=>true|.str _,.int _=>true|.bl _,.str _=>true|.str _,.bl _=>true
 |_,_=>false
def AQ:R2:=λx y H Q=>wV x y=true/\Q (.bl (decide (x=y))) H
def zN:R2:=λx y H Q=>wV x y=true/\Q (.bl (!decide (x=y))) H
theorem vq{i j:Int}:decide (V.int i=V.int j)=(i==j):=by
 rw[fj];simp
theorem wJ{i j:Bool}:decide (V.bl i=V.bl j)=(i==j):=by
 rw[fj];simp
theorem uI{i j:Str}:decide (V.str i=V.str j)=(i==j):=by
 rw[fj];simp
theorem x9{i j:Array UInt8}:decide (V.byt i=V.byt j)=(i.toList==j.toList):=by
 rw[fj];cases i;cases j;simp
section
variable{X:Cx}{a b c:Expr}{ta tb tc:TE}{pos:Pos}
theorem cD{Q:VK}{k k':Bool}(I:ae X pins σ H s)(q:Q (.bl k) H)(e:k=k'):EP X pins σ Q (.bool k') s:=by
 subst e;exact⟨.bl k,H,I,rfl,q⟩
theorem gX:cO X (compareOp .Eq) AQ:=by
 intro pins s σ H x y v u Q I rx ry h;obtain⟨hs,q⟩:=h;cases x with
 |non=>
  cases rx;cases y with
  |non=>cases ry;exact PySem.EqNone.eq_none_none (cD I q (by simp))
  |bl j=>cases ry;exact PySem.EqNone.eq_none_bool (cD I q (by simp))
  |int j=>obtain⟨t',rfl⟩:=ry;exact PySem.EqNone.eq_none_int (cD I q (by simp))
  |str j=>obtain⟨t',rfl⟩:=ry;exact PySem.EqNone.eq_none_str (cD I q (by simp))
  |_=>exact absurd (show false=true from hs) c0
 |bl i=>
  cases rx;cases y with
  |non=>cases ry;exact PySem.EqNone.eq_bool_none (cD I q (by simp))
  |bl j=>cases ry;exact eq_bool (cD I q wJ)
  |str j=>obtain⟨t',rfl⟩:=ry;exact PySem.EqMixed.eq_bool_str (cD I q (by simp))
  |_=>exact absurd (show false=true from hs) c0
 |int i=>
  obtain⟨t,rfl⟩:=rx;cases y with
  |non=>cases ry;exact PySem.EqNone.eq_int_none (cD I q (by simp))
  |int j=>obtain⟨t',rfl⟩:=ry;exact eq_int (cD I q vq)
  |str j=>obtain⟨t',rfl⟩:=ry;exact PySem.EqMixed.eq_int_str (cD I q (by simp))
  |_=>exact absurd (show false=true from hs) c0
 |str i=>
  obtain⟨t,rfl⟩:=rx;cases y with
  |non=>cases ry;exact PySem.EqNone.eq_str_none (cD I q (by simp))
  |bl j=>cases ry;exact PySem.EqMixed.eq_str_bool (cD I q (by simp))
  |int j=>obtain⟨t',rfl⟩:=ry;exact PySem.EqMixed.eq_str_int (cD I q (by simp))
  |str j=>obtain⟨t',rfl⟩:=ry;exact eq_str (cD I q uI)
  |_=>exact absurd (show false=true from hs) c0
 |byt i=>
  obtain⟨t,rfl⟩:=rx;cases y with
  |byt j=>obtain⟨t',rfl⟩:=ry;exact PySem.W.eq_bytes (cD I q x9)
  |_=>exact absurd (show false=true from hs) c0
 |_=>cases y<;>exact absurd (show false=true from hs) c0
theorem yy:cO X (compareOp .NotEq) zN:=by
 intro pins s σ H x y v u Q I rx ry h;obtain⟨hs,q⟩:=h;cases x with
 |non=>
  cases rx;cases y with
  |non=>cases ry;exact PySem.EqNone.ne_none_none (cD I q (by simp))
  |bl j=>cases ry;exact PySem.EqNone.ne_none_bool (cD I q (by simp))
  |int j=>obtain⟨t',rfl⟩:=ry;exact PySem.EqNone.ne_none_int (cD I q (by simp))
  |str j=>obtain⟨t',rfl⟩:=ry;exact PySem.EqNone.ne_none_str (cD I q (by simp))
  |_=>exact absurd (show false=true from hs) c0
 |bl i=>
  cases rx;cases y with
  |non=>cases ry;exact PySem.EqNone.ne_bool_none (cD I q (by simp))
  |bl j=>cases ry;exact ne_bool (cD I q (dr not wJ))
  |str j=>obtain⟨t',rfl⟩:=ry;exact PySem.EqMixed.ne_bool_str (cD I q (by simp))
  |_=>exact absurd (show false=true from hs) c0
 |int i=>
  obtain⟨t,rfl⟩:=rx;cases y with
  |non=>cases ry;exact PySem.EqNone.ne_int_none (cD I q (by simp))
  |int j=>obtain⟨t',rfl⟩:=ry;exact ne_int (cD I q (dr not vq))
  |str j=>obtain⟨t',rfl⟩:=ry;exact PySem.EqMixed.ne_int_str (cD I q (by simp))
  |_=>exact absurd (show false=true from hs) c0
 |str i=>
  obtain⟨t,rfl⟩:=rx;cases y with
  |non=>cases ry;exact PySem.EqNone.ne_str_none (cD I q (by simp))
  |bl j=>cases ry;exact PySem.EqMixed.ne_str_bool (cD I q (by simp))
  |int j=>obtain⟨t',rfl⟩:=ry;exact PySem.EqMixed.ne_str_int (cD I q (by simp))
  |str j=>obtain⟨t',rfl⟩:=ry;exact ne_str (cD I q (dr not uI))
  |_=>exact absurd (show false=true from hs) c0
 |byt i=>
  obtain⟨t,rfl⟩:=rx;cases y with
  |byt j=>obtain⟨t',rfl⟩:=ry;exact PySem.W.ne_bytes (cD I q (dr not x9))
  |_=>exact absurd (show false=true from hs) c0
 |_=>cases y<;>exact absurd (show false=true from hs) c0
theorem pD:cO X (compareOp .Lt) (iN λi j=>.bl (decide (i<j))):=nH λ_ _ _ _ _ _ _ q=>lt_int q
theorem il:cO X (compareOp .LtE) (iN λi j=>.bl (decide (i<=j))):=nH λ_ _ _ _ _ _ _ q=>le_int q
theorem iX:cO X (compareOp .Gt) (iN λi j=>.bl (decide (j<i))):=nH λ_ _ _ _ _ _ _ q=>gt_int q
theorem i8:cO X (compareOp .GtE) (iN λi j=>.bl (decide (j<=i))):=nH λ_ _ _ _ _ _ _ q=>ge_int q
theorem A5:cO X (compareOp .Is) (λx y H Q=>y= .non/\Q (.bl (decide (x= .non))) H):=by
 intro pins s σ H x y v u Q I rx ry h;obtain⟨rfl,q⟩:=h;cases ry;refine is_none_gen (cD I q ?_);cases x<;>first
  |(cases rx;rfl)
  |(obtain⟨t,rfl⟩:=rx;rfl)
theorem b7(b:Expr)(h:op≠.In:=by decide)(h2:op≠.NotIn:=by decide):behindInMarks op b=false:=by
 have e1:(op==CmpOp.In)=false:=by cases op<;>first|rfl|exact absurd rfl h
 have e2:(op==CmpOp.NotIn)=false:=by cases op<;>first|rfl|exact absurd rfl h2
 cases b<;>simp[behindInMarks,e1,e2]
theorem iY(ho:cO X (compareOp op) r)(ha:PE X a ta)(hb:PE X b tb)(hm:behindInMarks op b=false):PE X (.Compare a [op] [b] pos) (oK r ta tb):=by
 intro pins s σ H Q I h;exact wpAny_Compare1 (qV ha hb I h λv u s2 x y H2 I2 rx ry q=>ho pins s2 σ H2 x y v u Q I2 rx ry q) hm
def vv(t:TE):TT:=λσ H Q=>t σ H λx H'=>∃k,x= .bl k/\Q k H'
theorem aR(ho:cO X (compareOp op) r)(ha:PE X a ta)(hb:PE X b tb)(hm:behindInMarks op b=false):PT X (.Compare a [op] [b] pos) (vv (oK r ta tb)):=by
 intro pins s σ H Q I h;refine wpAny_isTrue_Compare1 (aI (ha pins s σ H _ I h) λv s1 ⟨x,H1,I1,r1,q1⟩=>aI (hb pins s1 σ H1 _ I1 q1) λu s2 ⟨y,H2,I2,r2,q2⟩=>
  aI (ho pins s2 σ H2 x y v u _ I2 r1 r2 q2) λc s3 ⟨z,H3,I3,r3,k,e,q3⟩=>?_) hm
 subst e;cases r3;exact gY ⟨H3,I3,q3⟩
def yL(r r':R2)(ta tb tc:TE):TE:=λσ H Q=>ta σ H λx H1=>tb σ H1 λy H2=>r x y H2 λz H3=>∃k,z= .bl k/\
 (if k=true then tc σ H3 λw' H4=>r' y w' H4 Q else Q (.bl false) H3)
theorem Ao{op':CmpOp}(ho:cO X (compareOp op) r)(ho':cO X (compareOp op') r')(ha:PE X a ta)(hb:PE X b tb)(hc:PE X c tc)
  (hm:lastMarks [op,op'] [b,c]=false:=by with_unfolding_all rfl):PE X (.Compare a [op,op'] [b,c] pos) (yL r r' ta tb tc):=by
 intro pins s σ H Q I h;refine Compare_chain (aI (ha pins s σ H _ I h) λv s1 ⟨x,H1,I1,r1,q1⟩=>chain_link (aI (hb pins s1 σ H1 _ I1 q1) λu s2 ⟨y,H2,I2,r2,q2⟩=>
  aI (ho pins s2 σ H2 x y v u _ I2 r1 r2 q2) λd s3 ⟨z,H3,I3,r3,k,e,q3⟩=>?_)) hm
 subst e;cases r3;refine gY ?_;cases k with
 |false=>exact ite_ff ⟨.bl false,H3,I3,rfl,q3⟩
 |true=>exact ite_tt (chain_last (aI (hc pins s3 σ H3 _ I3 q3) λw' s4 ⟨z',H4,I4,r4,q4⟩=>ho' pins s4 σ H4 y z' u w' Q I4 r2 r4 q4))
theorem qS{op':CmpOp}(ho:cO X (compareOp op) r)(ho':cO X (compareOp op') r')(ha:PE X a ta)(hb:PE X b tb)(hc:PE X c tc)
  (hm:lastMarks [op,op'] [b,c]=false:=by with_unfolding_all rfl):PT X (.Compare a [op,op'] [b,c] pos) (vv (yL r r' ta tb tc)):=by
 intro pins s σ H Q I h;refine isTrue_chain (aI (ha pins s σ H _ I h) λv s1 ⟨x,H1,I1,r1,q1⟩=>test_link (aI (hb pins s1 σ H1 _ I1 q1) λu s2 ⟨y,H2,I2,r2,q2⟩=>
  aI (ho pins s2 σ H2 x y v u _ I2 r1 r2 q2) λd s3 ⟨z,H3,I3,r3,k,e,q3⟩=>?_)) hm
 subst e;cases r3;refine gY ?_;cases k with
 |false=>
  obtain⟨k',e',q'⟩:=q3;cases e';exact ite_ff ⟨H3,I3,q'⟩
 |true=>
  refine ite_tt (test_last (aI (hc pins s3 σ H3 _ I3 q3) λw' s4 ⟨z',H4,I4,r4,q4⟩=>aI (ho' pins s4 σ H4 y z' u w' _ I4 r2 r4 q4) λd' s5 ⟨z2,H5,I5,r5,k2,e2,q5⟩=>?_));subst e2;cases r5;exact gY ⟨H5,I5,q5⟩
theorem ml:(sizeLine:Nat)<2^63:=by rw[sizeLine_eq];decide
theorem yc{x:V}(r:aH [x] us):∃u,us=[u]/\aT x u:=by
 cases r with
 |cons r1 r2=>cases r2;exact⟨_,rfl,r1⟩
end
structure jH(h:Heap)(x dx C:Addr)(mA:Str->Option Value):Prop where
 obj:h.get? x=some (PySem.W.instObj C dx)
 ns:h.Ns1 dx mA
 ne:dx≠x
theorem Cr{dx:Addr}{mA:Str->Option Value}(n:h.Ns1 dx mA):∃od,h.get? dx=some od/\∀name,PySem.W.lookIn name od=some (mA name):=by
 obtain⟨o,es,ep,ho,hd,hk,_,hm⟩:=n;refine⟨o,ho,λname=>?_⟩;have e:=hm name;unfold nsFind findBy at e;rw[←Array.find?_toList]at e;unfold PySem.W.lookIn;rw[hd];dsimp only;split
 ·rename_i y q;rw[q]at e;exact dr some e
 ·rename_i q;rw[q]at e;have a:es.toList.any (·.refKey)=false:=by
   rw[List.any_eq_false];intro y hy;obtain⟨z,t,hkey⟩:=hk y (Array.mem_toList_iff.mp hy);simp[DictEntry.refKey,hkey]
  have a':¬es.toList.any (·.refKey)=true:=by rw[a];exact c0
  rw[if_neg a'];exact dr some e
theorem jH.look{x dx:Addr}{mA:Str->Option Value}(I:jH h x dx C mA):∃od,PySem.W.InstAt h x (PySem.W.instObj C dx) C (some od)/\∀name,PySem.W.lookIn name od=some (mA name):=
 let⟨od,ho,hl⟩:=Cr I.ns
 ⟨od,⟨I.obj,rfl,rfl,ho⟩,hl⟩
section
variable{prog:Program}{w:World}{A:Around}{E:Value->Shared->Prop}{s:Shared}{K:PySem.W.Frag}{x dx C f:Addr}{mA:Str->Option Value}{name:Str}{v:Value}
theorem BO{expr:Bool}(X:K.In s.heap)(I:jH s.heap x dx C mA)(hg:PySem.W.plainGet K C name=true)(hh:PySem.W.hasDictIn K C=true)
  (ha:PySem.W.findIn K (.ref C) name=some none) (hv:mA name=some v) (hv':PySem.W.handedIn v=true) (h:Q v {s with toks:=s.toks+1}):
  wpAny (model prog w) A (getAttr (.ref x) name expr) Q E s:=by
 obtain⟨od,J,hl⟩:=I.look;exact PySem.W.get_value X J (y8 hg).1 (PySem.W.findObj_own hh ha rfl (by rw[hl,hv])) hv' h
theorem Cq{Q:Value×List Value->Shared->Prop}(X:K.In s.heap)(I:jH s.heap x dx C mA)(hg:PySem.W.plainGet K C name=true)
  (hf:PySem.W.findIn K (.ref C) name=some (some (.ref f))) (ht:PySem.W.isFn K (.ref f)=true) (hv:mA name=none) (h:Q (.ref f,[.ref x]) s):
  wpAny (model prog w) A (getMethod (.ref x) name pl) Q E s:=by
 obtain⟨od,J,hl⟩:=I.look;exact PySem.W.method_fn X J (y8 hg).1 (y8 hg).2 hf (d9.mp ht) (by show(PySem.W.lookIn name od).map (·.isSome)=some false;rw[hl,hv];rfl) h
theorem Gd{ns:List Str}{Q:Unit->Shared->Prop}(X:K.In s.heap)(I:jH s.heap x dx C mA)
  (hs:PySem.W.findIn K (.ref C) "__setattr__"=some (some (.builtin "object.__setattr__"))) (hp:PySem.W.plainOver K C=true) (ht:PySem.W.takerIn K C name=some none) (hh:PySem.W.hasDictIn K C=true)
  (hw:PySem.Within mA ns) (hsz:ns.length<=sizeLine)
  (h:∀h',jH h' x dx C (λy=>if y=name then some v else mA y)->Heap.SameBut dx s.heap h'->Q () {s with heap:=h',toks:=s.toks+2}):
  wpAny (model prog w) A (setAttr (.ref x) name v) Q E s:=by
 obtain⟨od,J,hl⟩:=I.look;refine PySem.W.set_plain X J hs (PySem.W.osa_open (s:={s with toks:=s.toks+1}) (r:=none) X J hp ht λb=>?_);obtain⟨cd,hc,hd'⟩:=PySem.W.any_some hh;have hx:s.heap.get? x=some ⟨.ref C,some dx,.plain,#[]⟩:=I.obj;refine aa (ah (aa (aa (wpAny_loadPart hx (aa (PySem.W.Looks.here (s:={s with toks:=s.toks+1}) (PySem.W.looks_clsIn X hc) ?_))))));rw[hd'];refine ah (a:=some dx) (aa (ah (aa ?_)));refine wpAny_nsSet1 (s:={s with toks:=s.toks+1}) I.ns λh' hn2 hs2=>?_;obtain⟨oD,esD,epD,hoD,hdD,hcD⟩:=hn2.count (PySem.Within.cons name v hw);refine aa (wpAny_lookBehind hoD (by rw[hdD];exact pastItsLine_dict (dw hcD (by rw[List.length_cons];omega))) ?_);exact ah (h _ ⟨(hs2.2 _ (bP I.ne)).trans I.obj,hn2,I.ne⟩ hs2)
theorem D0{R:Result->Shared->Prop}(X:K.In s.heap)(hm:PySem.W.makesIn K C=true)
  (hi:PySem.W.findIn K (.ref C) "__init__"=some (some (.ref f))) (hf:PySem.W.typeIn K (.ref f)=some (.type "function"))
  (h:codeAny (model prog w) (A.under (.builtin "type.__call__" ⟨.ref C::vs,kw⟩)) (.call (.ref f) ⟨.ref (s.heap.objs.size+1)::vs,kw⟩) (PySem.W.InitBack (s.heap.objs.size+1) R)
   {s with heap:=(s.heap.push PySem.W.emptyDict).push (PySem.W.instObj C s.heap.objs.size)}):
  codeAny (model prog w) A (.call (.ref C) ⟨vs,kw⟩) R s:=by
 obtain⟨hh,g,d,t,os⟩:=s;exact PySem.W.make_core (PySem.W.makes_of X hm) (PySem.W.looks_findIn X hi) (λself=>PySem.W.bind_fn X self hf) (.inl rfl) h
end
def aG(f:Str)(v:V):List (Str×V)->List (Str×V)
 | []=>[(f,v)]
 |(g,x)::r=>if g=f then(g,v)::r else(g,x)::aG f v r
theorem yh(f g:Str)(v:V):∀fs:List (Str×V),(aG f v fs).lookup g=if g=f then some v else fs.lookup g
 | []=>by
  show List.lookup g [(f,v)]=_;by_cases h:g=f
  ·have hb:(g==f)=true:=d9.mpr h;simp only[List.lookup,hb,if_pos h]
  ·have hb:(g==f)=false:=jM.mpr h;simp only[List.lookup,hb,if_neg h]
 |(k,x)::r=>by
  have ih:=yh f g v r;rw[show aG f v ((k,x)::r)=(if k=f then(k,v)::r else(k,x)::aG f v r)from rfl];by_cases hk:k=f
  ·rw[if_pos hk];by_cases h:g=k
   ·have hb:(g==k)=true:=d9.mpr h;simp only[List.lookup,hb,if_pos (h.trans hk)]
   ·have hb:(g==k)=false:=jM.mpr h;simp only[List.lookup,hb,if_neg (λe:g=f=>h (e.trans hk.symm))]
  ·rw[if_neg hk];by_cases h:g=k
   ·have hb:(g==k)=true:=d9.mpr h;simp only[List.lookup,hb,if_neg (λe:g=f=>hk (h.symm.trans e))]
   ·have hb:(g==k)=false:=jM.mpr h;simp only[List.lookup,hb];exact ih
theorem sy(f:Str)(v:V):∀fs:List (Str×V),f∈(aG f v fs).map (·.1)/\∀g,g∈fs.map (·.1)->g∈(aG f v fs).map (·.1)
 | []=>⟨by simp[aG],λg h=>by simp at h⟩
 |(k,x)::r=>by
  obtain⟨i1,i2⟩:=sy f v r;rw[show aG f v ((k,x)::r)=(if k=f then(k,v)::r else(k,x)::aG f v r)from rfl];by_cases hk:k=f
  ·rw[if_pos hk];subst hk;exact⟨by simp,λg h=>by simpa using h⟩
  ·rw[if_neg hk];refine⟨?_,λg h=>?_⟩
   ·rw[aW];exact List.mem_cons_of_mem _ i1
   ·rw[aW]at h⊢;rcases a9.mp h with e|e
    ·exact a9.mpr (.inl e)
    ·exact List.mem_cons_of_mem _ (i2 g e)
theorem ym(f:Str)(v:V):∀fs:List (Str×V),(aG f v fs).length<=fs.length+1
 | []=>by simp[aG]
 |(k,x)::r=>by
  have ih:=ym f v r;rw[show aG f v ((k,x)::r)=(if k=f then(k,v)::r else(k,x)::aG f v r)from rfl];by_cases hk:k=f
  ·rw[if_pos hk,List.length_cons,List.length_cons];omega
  ·rw[if_neg hk,List.length_cons,List.length_cons];omega
theorem dW.some_of{v:V}{o:Option Value}(r:dW (some v) o):∃u,o=some u/\aT v u:=by
 cases o with
 |none=>exact(show False from r).elim
 |some u=>exact⟨u,rfl,r⟩
theorem dW.none_of{o:Option Value}(r:dW none o):o=none:=by
 cases o with
 |none=>rfl
 |some u=>exact(show False from r).elim
theorem CJ{v:V}(r:aT v u):PySem.W.handedIn u=true:=by
 cases v with
 |non=>cases(show u=Value.none from r);rfl
 |bl b=>cases(show u=Value.bool b from r);rfl
 |int i=>obtain⟨t,e⟩:=(show∃t,u=Value.int i t from r);cases e;rfl
 |str x=>obtain⟨t,e⟩:=(show∃t,u=Value.str x t from r);cases e;rfl
 |byt b=>obtain⟨t,e⟩:=(show∃t,u=Value.bytes b t from r);cases e;rfl
 |flt b=>obtain⟨t,e⟩:=(show∃t,u=Value.float b t from r);cases e;rfl
 |ref a=>cases(show u=Value.ref a from r);rfl
 |ty n=>cases(show u=Value.type n from r);rfl
section
variable{P:Program}{w:World}{H H':Hp}{h h':Heap}{a C dx:Addr}{fs fs':List (Str×V)}
theorem sg(hok:cg P w H h)(e:H a=some (.ins C dx fs)):∃mA,jH h a dx C mA/\(∀f,dW (fs.lookup f) (mA f))/\PySem.Within mA (fs.map (·.1))/\fs.length<=1000/\H dx=some (.own a):=by
 obtain⟨d,z,ne,ob,mA,n,r,q⟩:=(show cQ P w H h a (.ins C dx fs)from hok a _ e);exact⟨mA,⟨ob,n,ne⟩,r,q,z,d⟩
end
structure gS(K:PySem.W.Frag)(C:Addr):Prop where
 pg:PySem.W.plainGet K C Str.empty=true
 hd:PySem.W.hasDictIn K C=true
 po:PySem.W.plainOver K C=true
 sa:PySem.W.findIn K (.ref C) "__setattr__"=some (some (.builtin "object.__setattr__"))
theorem gS.get{K:PySem.W.Frag}(c:gS K C)(f:Str):PySem.W.plainGet K C f=true:=c.pg
def dR(K:PySem.W.Frag)(C:Addr)(f:Str):Prop:=PySem.W.findIn K (.ref C) f=some none
theorem dR.taker{K:PySem.W.Frag}{f:Str}(n:dR K C f):PySem.W.takerIn K C f=some none:=by
 unfold PySem.W.takerIn;rw[show PySem.W.findIn K (.ref C) f=some none from n];rfl
structure jX(K:PySem.W.Frag)(C:Addr)(m:Str)(f:Addr):Prop where
 at_:PySem.W.findIn K (.ref C) m=some (some (.ref f))
 fn:PySem.W.isFn K (.ref f)=true
 kp:PySem.W.keepIn K (.ref f)=true
section
variable{X:Cx}{pins:List (Addr×Obj)}{σ:St}{H:Hp}{s:Shared}{a C dx:Addr}{fs:List (Str×V)}{f:Str}{v:V}{A:Around}{E:Value->Shared->Prop}
theorem EU{b:Bool}(I:ae X pins σ H s)(e:H a=some (.ins C dx fs))(c:gS X.K C)(n:dR X.K C f)(l:fs.lookup f=some v)
  (h:∀u s',ae X pins σ H s'->aT v u->Q u s'):wpAny (model X.prog X.w) A (getAttr (.ref a) f b) Q E s:=by
 obtain⟨mA,O,r,_,_,_⟩:=sg I.hok e;obtain⟨u,hu,ru⟩:=dW.some_of (v:=v) (o:=mA f) (by rw[←l];exact r f);exact BO I.kIn O (c.get f) c.hd n hu (CJ ru) (h u _ (I.tok _) ru)
theorem Di{m:Str}{g:Addr}{Q:Value×List Value->Shared->Prop}(I:ae X pins σ H s)(e:H a=some (.ins C dx fs))(c:gS X.K C)(k:jX X.K C m g)(l:fs.lookup m=none)
  (h:Q (.ref g,[.ref a]) s):wpAny (model X.prog X.w) A (getMethod (.ref a) m pl) Q E s:=by
 obtain⟨mA,O,r,_,_,_⟩:=sg I.hok e;have hn:mA m=none:=dW.none_of (by rw[←l];exact r m);exact Cq I.kIn O (c.get m) k.at_ k.fn hn h
theorem Dq{Q:Unit->Shared->Prop}(I:ae X pins σ H s)(e:H a=some (.ins C dx fs))(c:gS X.K C)(n:dR X.K C f)(hl:fs.length<1000)(ry:aT y u)
  (h:∀s',ae X pins σ (upd H a (.ins C dx (aG f y fs))) s'->Q () s'):wpAny (model X.prog X.w) A (setAttr (.ref a) f u) Q E s:=by
 obtain⟨mA,O,r,wi,_,ho⟩:=sg I.hok e;have hz:(fs.map (·.1)).length<=sizeLine:=by rw[List.length_map,sizeLine_eq];omega
 refine Gd I.kIn O c.sa c.po n.taker c.hd wi hz λh' O' sb=>h _ ?_;have hd:∃o,h'.get? dx=some o:=let⟨o,_,_,e',_⟩:=O'.ns;⟨o,e'⟩;refine I.write (x:=a) (e:=dx) (by rw[e];exact True.intro) (.inr ho) (λb q hb z=>(sb.2 b hb).trans z) hd ?_;refine⟨by rw[ag O.ne];exact ho,?_,O.ne,O'.obj,_,O'.ns,λg=>?_,λg hg=>?_⟩
 ·have:=ym f y fs;omega
 ·show dW ((aG f y fs).lookup g) (if g=f then some u else mA g);rw[yh];by_cases q:g=f
  ·rw[if_pos q,if_pos q];exact ry
  ·rw[if_neg q,if_neg q];exact r g
 ·by_cases q:g=f
  ·rw[q];exact(sy f y fs).1
  ·refine(sy f y fs).2 g (wi g λz=>hg ?_);show(if g=f then some u else mA g)=none;rw[if_neg q];exact z
theorem ae.made(I:ae X pins σ H s):ae X pins σ (upd (upd H s.heap.objs.size (.own (s.heap.objs.size+1))) (s.heap.objs.size+1) (.ins C s.heap.objs.size []))
  {s with heap:=(s.heap.push PySem.W.emptyDict).push (PySem.W.instObj C s.heap.objs.size)}:=by
 have e1:(s.heap.push PySem.W.emptyDict).get? s.heap.objs.size=some PySem.W.emptyDict:=cn s.heap rfl;have e2:((s.heap.push PySem.W.emptyDict).push (PySem.W.instObj C s.heap.objs.size)).get? (s.heap.objs.size+1)=some (PySem.W.instObj C s.heap.objs.size):=by
  have:=cn (s.heap.push PySem.W.emptyDict) (o:=PySem.W.instObj C s.heap.objs.size) rfl;rwa[dU]at this
 have e3:(s.heap.push PySem.W.emptyDict).Ns s.heap.objs.size (λ_=>none):=⟨PySem.W.emptyDict,#[],_,e1,rfl,(λe he=>absurd he (by simp)),λ_=>rfl⟩;have I1:=I.laid (a:=s.heap.objs.size) (o:=.own (s.heap.objs.size+1)) (h':=s.heap.push PySem.W.emptyDict) (t':=s.toks) (λb u q=>bJ _ q) (aJ _) ⟨_,e1⟩;refine I1.laid (a:=s.heap.objs.size+1) (o:=.ins C s.heap.objs.size []) (t':=s.toks) (λb u q=>bJ _ q) (pS (dU _ _)) ?_;have ne:s.heap.objs.size≠s.heap.objs.size+1:=cy (qa _);refine⟨by rw[ag ne,ao],da _,ne,e2,λ_=>none,(Heap.Ns1.of_empty e3).at λo q=>bJ _ q,λ_=>True.intro,λy hy=>absurd rfl hy⟩
theorem C1{f:Str}{s:Shared}(hb:attributeBase e f env (eval e env)=eval e env)
  (h:wpAny (model prog w) A (eval e env) (λo s₁=>wpAny (model prog w) A (getAttr o f true) Q E s₁) E s):wpAny (model prog w) A (eval (.Attribute e f pos) env) Q E s:=
 Attribute_any_ h (by rw[arm_eval_Attribute,hb])
end
def yI(K:PySem.W.Frag)(ta:TE)(f:Str):TE:=λσ H Q=>ta σ H λx H1=>∃a C dx fs v,x= .ref a/\H1 a=some (.ins C dx fs)/\gS K C/\dR K C f/\fs.lookup f=some v/\Q v H1
def B9(K:PySem.W.Frag)(ta tv:TE)(f:Str):TS:=λD σ H=>tv σ H λy H1=>ta σ H1 λx H2=>∃a C dx fs,x= .ref a/\H2 a=some (.ins C dx fs)/\gS K C/\dR K C f/\fs.length<1000/\
 D.nx σ (upd H2 a (.ins C dx (aG f y fs)))
def xO(X:Cx)(op:Operator)(rd:V->V->Hp->VK->Prop):Prop:=
 ∀(pins:List (Addr×Obj)) (s:Shared) (σ:St) (H:Hp) (x y:V) (u v:Value) (Q:VK),ae X pins σ H s->aT x u->aT y v->rd x y H Q->wpAny (model X.prog X.w) X.A (inplaceOp op u v) (EP X pins σ Q) X.xe s
section
variable{X:Cx}{o e value:Expr}{f:Str}{pos pos' tpos:Pos}{ta tv:TE}
theorem ax(he:PE X e ta)(hb:attributeBase e f X.env (eval e X.env)=eval e X.env):PE X (.Attribute e f pos) (yI X.K ta f):=by
 intro pins s σ H Q I h;refine C1 hb (aI (he pins s σ H _ I h) λu s1 ⟨x,H1,I1,rx,a,C,dx,fs,v,ex,ea,c,n,l,q⟩=>?_);subst ex;obtain rfl:u=Value.ref a:=rx;exact EU I1 ea c n l λu' s2 I2 ru=>⟨v,H1,I2,ru,q⟩
theorem dy(ha:PE X o ta)(hv:PE X value tv)(hs:swapsWith value (some (.Attribute o f pos')) pos.line X.env=pure false):PS X (.Assign [.Attribute o f pos'] value pos) (B9 X.K ta tv f):=by
 intro pins s σ H D I h;refine plainObj_wpAny_Assign_Attribute (aI (hv pins s σ H _ I h) λu s1 ⟨y,H1,I1,ry,q⟩=>aI (ha pins s1 σ H1 _ I1 q) λov s2 ⟨x,H2,I2,rx,a,C,dx,fs,ex,ea,c,n,l,q2⟩=>?_) hs;subst ex;obtain rfl:ov=Value.ref a:=rx;exact Dq I2 ea c n l ry λs3 I3=>⟨σ,_,I3,q2⟩
def zT:V->V->Hp->VK->Prop:=λx y H Q=>∃i j,x= .int i/\y= .int j/\Q (.int (i+j)) H
theorem nU:xO X .Add zT:=by
 rintro pins s σ H x y u v Q I rx ry ⟨i,j,rfl,rfl,q⟩;obtain⟨t,rfl⟩:=(show∃t,u=Value.int i t from rx);obtain⟨t',rfl⟩:=(show∃t',v=Value.int j t' from ry);exact PyProof.Rows.iadd_int ⟨.int (i+j),H,I.tok _,⟨_,rfl⟩,q⟩
end
structure cq(k:Nat)(A:Around):Prop where
 hd:A.handled=none
 dp:A.depth+3*k+5<recursionLimit
 un:A.units+16*k+200<cLine
theorem cq.mono{k:Nat}(r:cq k A)(h:j<=k):cq j A:=⟨r.hd,by have:=r.dp;omega,by have:=r.un;omega⟩
theorem cq.deeper{k:Nat}(r:cq (k+1) A)(env:Env):cq k (A.deeper env):=
 ⟨r.hd,by have:=r.dp;show A.depth+1+3*k+5<_;omega,by have:=r.un;show A.units+3+16*k+200<_;omega⟩
theorem cq.in1{k:Nat}(r:cq (k+1) A):cq k A.in1:=
 ⟨r.hd,by have:=r.dp;show A.depth+3*k+5<_;omega,by have:=r.un;show A.units+1+16*k+200<_;omega⟩
theorem Ed:(A.under (.builtin "type.__call__" ⟨.ref C::us,kw⟩)).depth=A.depth+1:=by
 first|rfl|simp[Around.under,Code.weight,Code.isCreation,Code.isGuard,Code.isCaller,Code.frames,Code.isFrame,guardIds]
theorem D8:(A.under (.builtin "type.__call__" ⟨.ref C::us,kw⟩)).units=A.units+1:=by
 first|rfl|simp[Around.under,Code.cUnits,Code.frames,Code.isFrame]
theorem cq.make{k:Nat}(r:cq (k+1) A)(C:Addr)(us:List Value)(kw:List (Str×Value)):cq k (A.under (.builtin "type.__call__" ⟨.ref C::us,kw⟩)):=
 ⟨r.hd,by have:=r.dp;rw[Ed];omega,by have:=r.un;rw[D8];omega⟩
theorem cq.depth{k:Nat}(r:cq k A):A.depth<recursionLimit:=by have:=r.dp;omega
theorem cq.units{k:Nat}(r:cq k A):A.units+64<cLine:=by have:=r.un;omega
def qK:TA:=λ_ H Q=>Q [] H
def wW(ta:TE)(tr:TA):TA:=λσ H Q=>ta σ H λx H1=>tr σ H1 λxs H2=>Q (x::xs) H2
section
variable{X:Cx}{e:Expr}{es:List Expr}{te:TE}{t:TA}{pos:Pos}
theorem af:PA X [] qK:=λ_ _ _ _ H Q I h=>tM ⟨[],H,I,.nil,h⟩
theorem ab(ha:PE X e te)(hr:PA X es t)(hs:starEach (e::es) X.env=(false,eval e X.env)::starEach es X.env:=by rfl):PA X (e::es) (wW te t):=by
 intro pos pins s σ H Q I h;rw[hs];show wpAny _ _ (spliced ((false,eval e X.env)::backTo pos (starEach es X.env))) _ _ s;refine m6 (aI (ha pins s σ H _ I h) λu s1 ⟨x,H1,I1,r1,q1⟩=>?_);exact aI (hr pos pins s1 σ H1 _ I1 q1) λus s2 ⟨xs,H2,I2,r2,q2⟩=>⟨x::xs,H2,I2,.cons r1 r2,q2⟩
def C5(t:TA):TE:=λσ H Q=>t σ H λxs H1=>xs.length<=sizeLine/\∀p,H1 p=none->Q (.ref p) (upd H1 p (.tup xs))
def AH(t:TA):TE:=λσ H Q=>t σ H λxs H1=>xs.length<=sizeLine/\∀p,H1 p=none->Q (.ref p) (upd H1 p (.lst xs))
theorem c8{x1}(h:PA X es t):PE X (.Tuple es x1 pos) (C5 t):=by
 intro pins s σ H Q I hq;refine wpAny_Tuple_spliced (aI (h pos pins s σ H _ I hq) λus s1 ⟨xs,H1,I1,r,z,q⟩=>⟨by rw[←r.length];exact z,?_⟩);have hf:H1 s1.heap.objs.size=none:=I1.hok.fresh (aJ _);refine⟨.ref s1.heap.objs.size,upd H1 s1.heap.objs.size (.tup xs),I1.laid (t':=s1.toks) (λb u e=>bJ _ e) (aJ _) ?_,rfl,q _ hf⟩;exact⟨z,us,r,⟨_,cn _ rfl,rfl,_,rfl⟩⟩
theorem cu(h:PA X es t):PE X (.List es pos) (AH t):=by
 intro pins s σ H Q I hq;refine wpAny_List_spliced (aI (h pos pins s σ H _ I hq) λus s1 ⟨xs,H1,I1,r,z,q⟩=>⟨by rw[←r.length];exact z,?_⟩);have hf:H1 s1.heap.objs.size=none:=I1.hok.fresh (aJ _);refine⟨.ref s1.heap.objs.size,upd H1 s1.heap.objs.size (.lst xs),I1.laid (t':=s1.toks) (λb u e=>bJ _ e) (aJ _) ?_,rfl,q _ hf⟩;exact⟨z,us,0,r,cn _ rfl⟩
end
abbrev Sp:=List V->Hp->VK->XK->Prop
variable{sp:Sp}
abbrev h9:=List Env->Hp->Shared->XK->Value->Shared->Prop
variable{CX:h9}
structure gf(P:Program)(w:World)(K:PySem.W.Frag)(mg:Str->Option Value)(base:Heap)(A:Around)(outer:List Env)(s:Shared)(H:Hp):Prop where
 frames:A.frames=some outer
 mod:pq K mg base
 bs:∀b o,base.get? b=some o->s.heap.get? b=some o/\H b=none
 bsz:base.objs.size<=s.heap.objs.size
 funs:s.heap.FunFrames base outer
 frf:∀b∈gG outer,H b=none
 hok:cg P w H s.heap
 bare:AllBare s.gens
def CE(outer:List Env)(P:Program)(w:World)(H:Hp)(s:Shared)(Q:VK)(u:Value)(s':Shared):Prop:=
 ∃v H',s'.os=s.os/\AllBare s'.gens/\Un (gG outer) [] H H' s.heap s'.heap/\cg P w H' s'.heap/\aT v u/\Q v H'
def CR(CX:h9)(outer:List Env)(P:Program)(w:World)(H:Hp)(s:Shared)(Q:VK)(E:XK)(r:Result)(s':Shared):Prop:=
 match r with
 |.ok (.ret u)=>CE outer P w H s Q u s'
 |.ok _=>False
 |.error e=>CX outer H s E e s'
structure ak(P:Program)(w:World)(K:PySem.W.Frag)(mg:Str->Option Value)(base:Heap)(CX:h9)(k:Nat)(f:Addr)(fd:FuncData)(ps:List Str)(sp:Sp):Prop where
 len:∀vs H Q E,sp vs H Q E->vs.length=ps.length
 run:∀(A:Around) (outer:List Env) (s:Shared) (H:Hp) (args:Args) (us:List Value) (vs:List V) (Q:VK) (E:XK),cq k A->gf P w K mg base A outer s H->BindsTo s fd args (ps.zip us)->aH vs us->sp vs H Q E->
  codeAny (model P w) A (.call (.ref f) args) (CR CX outer P w H s Q E) s
theorem ak.mono{K:PySem.W.Frag}{k:Nat}(F:ak P w K mg base CX j f fd ps sp)(h:j<=k):
  ak P w K mg base CX k f fd ps sp:=⟨F.len,λA outer s H args us vs Q E hr=>F.run A outer s H args us vs Q E (hr.mono h)⟩
theorem ak.imp{K:PySem.W.Frag}{k:Nat}{sp':Sp}(F:ak P w K mg base CX k f fd ps sp)
  (h:∀vs H Q E,sp' vs H Q E->sp vs H Q E):ak P w K mg base CX k f fd ps sp':=
 ⟨λvs H Q E q=>F.len vs H Q E (h _ _ _ _ q),λA outer s H args us vs Q E hr he hb hv hs=>F.run A outer s H args us vs Q E hr he hb hv (h _ _ _ _ hs)⟩
theorem gf.make{K:PySem.W.Frag}(e:gf P w K mg base A outer s H)(C:Addr)(us:List Value)(kw:List (Str×Value)):
  gf P w K mg base (A.under (.builtin "type.__call__" ⟨.ref C::us,kw⟩)) outer s H:=⟨by first|exact e.frames|(simpa[Around.under,Code.envs,Code.isFrame,pushEnvs]using e.frames),e.mod,e.bs,e.bsz,e.funs,e.frf,e.hok,e.bare⟩
theorem gf.in1{K:PySem.W.Frag}(e:gf P w K mg base A outer s H):
  gf P w K mg base A.in1 outer s H:=⟨e.frames,e.mod,e.bs,e.bsz,e.funs,e.frf,e.hok,e.bare⟩
section
variable{X:Cx}{pins:List (Addr×Obj)}{σ:St}{H:Hp}{s s':Shared}
theorem ae.env0(I:ae X pins σ H s):gf X.prog X.w X.K X.mg X.base X.A X.stack s H:=
 ⟨I.ok.frames,I.ok.mod,I.bs,dw I.ok.bsz I.sz,I.stack,I.stkFree,I.hok,I.bare⟩
theorem ae.after{Q:VK}(I:ae X pins σ H s)(h:CE X.stack X.prog X.w H s Q u s'):EP X pins σ Q u s':=by
 obtain⟨v,H',os,bare,un,hok,r,q⟩:=h;obtain⟨hh,g,d,t,os'⟩:=s';obtain rfl:os'=s.os:=os;exact⟨v,H',I.call (h':=hh) (g':=g) (d':=d) (t':=t) (ch:=[]) un hok bare (λb z=>absurd z (by simp)),r,q⟩
end
def AX(sp:Sp)(dvs:List V)(E:XK)(t:TA):TE:=λσ H Q=>t σ H λvs H1=>sp (vs++dvs) H1 Q E
def AN(C:Addr)(m:Str)(sp:Sp)(dvs:List V)(E:XK)(ta:TE)(t:TA):TE:=λσ H Q=>ta σ H λx H1=>∃a dx fs,x= .ref a/\H1 a=some (.ins C dx fs)/\fs.lookup m=none/\
 t σ H1 λvs H2=>sp (x::(vs++dvs)) H2 Q E
def ur(C:Addr)(sp:Sp)(dvs:List V)(E:XK)(t:TA):TE:=λσ H Q=>t σ H λvs H1=>∀x dx,H1 x=none->H1 dx=none->dx≠x->
 sp (.ref x::(vs++dvs)) (upd (upd H1 dx (.own x)) x (.ins C dx [])) (λv H2=>v= .non/\Q (.ref x) H2) E
def aN(K:PySem.W.Frag)(fd:FuncData)(ps:List Str)(ds:List Value):Prop:=
 ∀(s:Shared) (us:List Value),K.In s.heap->(us++ds).length=ps.length->BindsTo s fd ⟨us,[]⟩ (ps.zip (us++ds))
theorem aN.all{K:PySem.W.Frag}(h:∀us:List Value,us.length=ps.length->bindArgs fd ⟨us,[]⟩=pure (ps.zip us)):aN K fd ps []:=λs us _ hl=>by
 rw[List.append_nil]at hl⊢;exact .of_eq (h us hl)
def iK(CX:h9)(X:Cx)(E:XK):Prop:=∀(pins:List (Addr×Obj)) (σ:St) (H:Hp) (s:Shared) (e:Value) (s':Shared),ae X pins σ H s->CX X.stack H s E e s'->X.xe e s'
section
variable{X:Cx}{CX:h9}{k:Nat}{f C:Addr}{fd:FuncData}{ps:List Str}{sp:Sp}{dvs:List V}{ds:List Value}{E:XK}{x m:Str}{p pos apos:Pos}{e o:Expr}{es:List Expr}{ta:TE}{t:TA}
theorem rB{Q:VK}{vs:List V}(F:ak X.prog X.w X.K X.mg X.base CX k f fd ps sp)(hr:cq k X.A)(hb:aN X.K fd ps ds)(hd:aH dvs ds)(hx:iK CX X E)
  (I:ae X pins σ H s) (r:aH vs us) (h:sp (vs++dvs) H Q E):wpAny (model X.prog X.w) X.A (call (.ref f) us) (EP X pins σ Q) X.xe s:=by
 have r2:aH (vs++dvs) (us++ds):=r.append hd;have hl:(us++ds).length=ps.length:=by rw[←r2.length];exact F.len _ _ _ _ h
 refine wpAny_call (qb (F.run X.A X.stack s H ⟨us,[]⟩ (us++ds) (vs++dvs) Q E hr I.env0 (hb s us I.kIn hl) r2 h) λr s' hq=>?_);cases r with
 |error e=>exact hx pins σ H s e s' I hq
 |ok fl=>
  cases fl with
  |ret u=>exact I.after hq
  |next=>exact False.elim hq
  |brk=>exact False.elim hq
  |cont=>exact False.elim hq
theorem bg(F:ak X.prog X.w X.K X.mg X.base CX k f fd ps sp)(hr:cq k X.A)(hg:Gl X x)(hm:X.mg x=some (.ref f))(hk:PySem.W.keepIn X.K (.ref f)=true)(hb:aN X.K fd ps ds)(hd:aH dvs ds)(hx:iK CX X E)
  (ha:PA X (e::es) t) (hdb:(x==("__debug__":Str))=false:=by decide) (he:starEach (e::es) X.env=(false,eval e X.env)::starEach es X.env:=by rfl) (cc:(backTo pos (starEach es X.env)).any (·.1)=false:=by rfl):
  PE X (.Call (.Name x p) (e::es) [] pos) (AX sp dvs E t):=by
 intro pins s σ H Q I h;refine m7 (l8 I hg hm ?_ hdb);refine tN (h₀:=X.base) I.ok.mod.kin hk (aI (ha pos pins s σ H _ I h) λus s1 ⟨vs,H1,I1,r,q⟩=>⟨I1.kIn,?_⟩) he cc;exact rB F hr hb hd hx I1 r q
theorem rL(he:PE X o ta)(c:gS X.K C)(hm:jX X.K C m f)(F:ak X.prog X.w X.K X.mg X.base CX k f fd ps sp)(hr:cq k X.A)(hb:aN X.K fd ps ds)(hd:aH dvs ds)(hx:iK CX X E)(ha:PA X (e::es) t)
  (hst:starEach (e::es) X.env=(false,eval e X.env)::starEach es X.env:=by rfl) (cc:(backTo pos (starEach es X.env)).any (·.1)=false:=by rfl)
  (ht:eval (.Call (.Attribute o m apos) (e::es) [] pos) X.env=(do
   let ov←eval o X.env
   standAt apos.atName
   let(f,first)←holding [ov] (getMethod ov m pl)
   callWith pos f first (backTo pos (starEach (e::es) X.env)) (backToKw pos (keywordEach [] X.env))):=by rfl):
  PE X (.Call (.Attribute o m apos) (e::es) [] pos) (AN C m sp dvs E ta t):=by
 intro pins s σ H Q I h;refine PySem.W.methodCall_KW (pl:=pl) (aI (he pins s σ H _ I h) λu s1 ⟨x,H1,I1,rx,a,dx,fs,ex,ea,l,q⟩=>?_) ht;subst ex;obtain rfl:u=Value.ref a:=rx;refine Di I1 ea c hm l ?_;refine tN (first:=[.ref a]) (h₀:=X.base) I.ok.mod.kin hm.kp (aI (ha pos pins s1 σ H1 _ I1 q) λus s2 ⟨vs,H2,I2,r,q2⟩=>⟨I2.kIn,?_⟩) hst cc;exact rB (us:=.ref a::us) (vs:=.ref a::vs) F hr hb hd hx I2 (.cons rfl r) q2
structure Mk(K:PySem.W.Frag)(C f:Addr):Prop where
 makes:PySem.W.makesIn K C=true
 init:PySem.W.findIn K (.ref C) "__init__"=some (some (.ref f))
 fn:PySem.W.isFn K (.ref f)=true
 kp:PySem.W.keepIn K (.ref C)=true
theorem vz{Q:VK}{vs:List V}(M:Mk X.K C f)(F:ak X.prog X.w X.K X.mg X.base CX k f fd ps sp)(hr:cq (k+1) X.A)(hb:aN X.K fd ps ds)(hd:aH dvs ds)
  (hx:iK CX X E) (I:ae X pins σ H s) (r:aH vs us)
  (h:∀x dx,H x=none->H dx=none->dx≠x->sp (.ref x::(vs++dvs)) (upd (upd H dx (.own x)) x (.ins C dx [])) (λv H2=>v= .non/\Q (.ref x) H2) E):
  wpAny (model X.prog X.w) X.A (call (.ref C) us) (EP X pins σ Q) X.xe s:=by
 have hq:=h (s.heap.objs.size+1) s.heap.objs.size (I.hok.fresh (Nat.le_succ _)) (I.hok.fresh (aJ _)) (cy (qa _));have I2:=ae.made (C:=C) I;have r2:aH (V.ref (s.heap.objs.size+1)::(vs++dvs)) (Value.ref (s.heap.objs.size+1)::(us++ds)):=.cons rfl (r.append hd);have hl:(Value.ref (s.heap.objs.size+1)::us++ds).length=ps.length:=by
  have e:=r2.length;rw[F.len _ _ _ _ hq]at e;exact e.symm
 refine wpAny_call (D0 (f:=f) I.kIn M.makes M.init (d9.mp M.fn) (qb (F.run _ X.stack _ _ ⟨Value.ref (s.heap.objs.size+1)::us,[]⟩ (Value.ref (s.heap.objs.size+1)::(us++ds)) _ _ E (hr.make C us [])
  (I2.env0.make C us []) (hb _ (Value.ref (s.heap.objs.size+1)::us) I2.kIn hl) r2 hq) λr s' hq'=>?_))
 cases r with
 |error e=>exact hx pins σ _ _ e s' I2 hq'
 |ok fl=>
  cases fl with
  |ret u=>
   obtain⟨v,H',I3,rv,ev,q3⟩:=I2.after hq';subst ev;exact⟨rv,⟨V.ref (s.heap.objs.size+1),H',I3,rfl,q3⟩⟩
  |next=>exact False.elim hq'
  |brk=>exact False.elim hq'
  |cont=>exact False.elim hq'
theorem vp(M:Mk X.K C f)(F:ak X.prog X.w X.K X.mg X.base CX k f fd ps sp)(hr:cq (k+1) X.A)(hg:Gl X x)(hm:X.mg x=some (.ref C))(hb:aN X.K fd ps ds)(hd:aH dvs ds)(hx:iK CX X E)
  (ha:PA X (e::es) t) (hdb:(x==("__debug__":Str))=false:=by decide) (he:starEach (e::es) X.env=(false,eval e X.env)::starEach es X.env:=by rfl) (cc:(backTo pos (starEach es X.env)).any (·.1)=false:=by rfl):
  PE X (.Call (.Name x p) (e::es) [] pos) (ur C sp dvs E t):=by
 intro pins s σ H Q I h;refine m7 (l8 I hg hm ?_ hdb);refine tN (h₀:=X.base) I.ok.mod.kin M.kp (aI (ha pos pins s σ H _ I h) λus s1 ⟨vs,H1,I1,r,q⟩=>⟨I1.kIn,?_⟩) he cc;exact vz M F hr hb hd hx I1 r q
theorem FM(M:Mk X.K C f)(F:ak X.prog X.w X.K X.mg X.base CX k f fd ps sp)(hr:cq (k+1) X.A)(hg:Gl X x)(hm:X.mg x=some (.ref C))(hb:aN X.K fd ps ds)(hd:aH dvs ds)(hx:iK CX X E)
  (hdb:(x==("__debug__":Str))=false:=by decide):PE X (.Call (.Name x p) [] [] pos) (ur C sp dvs E qK):=by
 intro pins s σ H Q I h;refine m7 (l8 I hg hm ?_ hdb);exact PySem.W.callWith_K0 I.kIn M.kp (vz (us:=[]) M F hr hb hd hx I .nil h)
end
def PK(X:Cx)(kws:List Keyword)(t:TA):Prop:=
 ∀(pos:Pos) (pins:List (Addr×Obj)) (s:Shared) (σ:St) (H:Hp) (Q:List V->Hp->Prop),ae X pins σ H s->t σ H Q->wpAny (model X.prog X.w) X.A (evalAll ((backToKw pos (keywordEach kws X.env)).map (·.2))) (AP X pins σ Q) X.xe s
section
variable{X:Cx}{CX:h9}{k:Nat}{f C:Addr}{fd:FuncData}{ps ks:List Str}{sp:Sp}{E:XK}{x m:Str}{p pos apos kpos:Pos}{e o:Expr}{es:List Expr}{kws:List Keyword}{te ta:TE}{t tk:TA}{nm:Option Str}
theorem vy:PK X [] qK:=λ_ _ _ _ H Q I h=>wpAny_evalAll_nil ⟨[],H,I,.nil,h⟩
theorem wt(ha:PE X e te)(hr:PK X kws t):PK X (⟨nm,e,kpos⟩::kws) (wW te t):=by
 intro pos pins s σ H Q I h;show wpAny _ _ (evalAll ((do let v←eval e X.env;standAt pos;pure v)::(backToKw pos (keywordEach kws X.env)).map (·.2))) _ _ s;refine wpAny_evalAll_cons (aa (aI (ha pins s σ H _ I h) λu s1 ⟨x,H1,I1,r1,q1⟩=>aa (p9 (ah ?_))));exact aI (hr pos pins s1 σ H1 _ I1 q1) λus s2 ⟨xs,H2,I2,r2,q2⟩=>⟨x::xs,H2,I2,.cons r1 r2,q2⟩
variable{g:List Value->List Value->List Value}{gV:List V->List V->List V}
end
structure bj(N P:List Str)(sc:Scope):Prop where
 kind:sc.kind= .function
 co:sc.isCoroutine=false
 gen:sc.isGenerator=false
 nd:N.Nodup
 pre:N.take P.length=P
 par:∀x∈P,sc.names.lookup x=some .local∨sc.names.lookup x=some .cell
 nofree:∀y∈sc.names,y.2≠.free
theorem uF{kindOf:Str->Option NameKind}{x:Str}:∀{binds:List (Str×Value)} {m:Str->Option Value},(∀v,(x,v)∉binds)->bindL kindOf binds m x=m x
 | [],_,_=>rfl
 |(n,v)::r,m,h=>by
  unfold bindL;rw[uF λw hw=>h w (List.mem_cons_of_mem _ hw)];split
  ·have:x≠n:=by rintro rfl;exact h v List.mem_cons_self
   simp[this]
  ·rfl
theorem xf{kindOf:Str->Option NameKind}{x:Str}:∀{binds:List (Str×Value)} {m:Str->Option Value},(∀v,(x,v)∉binds)->bindC kindOf binds m x=m x
 | [],_,_=>rfl
 |(n,v)::r,m,h=>by
  unfold bindC;rw[xf λw hw=>h w (List.mem_cons_of_mem _ hw)];split
  ·rfl
  ·have:x≠n:=by rintro rfl;exact h v List.mem_cons_self
   simp[this]
theorem wm{kindOf:Str->Option NameKind}{x:Str}{v:Value}:∀{P:List Str} {vs:List Value} {i:Nat} {m:Str->Option Value},P.Nodup->P[i]?=some x->vs[i]?=some v->kindOf x=some .local->
  bindL kindOf (P.zip vs) m x=some v
 | [],_,_,_,_,h,_,_=>by simp at h
 |_::_,[],_,_,_,_,h,_=>by simp at h
 |p::P,w::vs,0,m,nd,h1,h2,hk=>by
  simp at h1 h2;subst h1;subst h2;show bindL kindOf ((p,w)::P.zip vs) m p=_;unfold bindL;rw[uF λv hv=>(cG.mp nd).1 (tO hv).1,if_pos hk];simp
 |p::P,w::vs,i+1,m,nd,h1,h2,hk=>by
  show bindL kindOf ((p,w)::P.zip vs) m x=_;unfold bindL;exact wm (i:=i) (cG.mp nd).2 (by simpa using h1) (by simpa using h2) hk
theorem vI{kindOf:Str->Option NameKind}{x:Str}{v:Value}:∀{P:List Str} {vs:List Value} {i:Nat} {m:Str->Option Value},P.Nodup->P[i]?=some x->vs[i]?=some v->kindOf x≠some .local->
  bindC kindOf (P.zip vs) m x=some v
 | [],_,_,_,_,h,_,_=>by simp at h
 |_::_,[],_,_,_,_,h,_=>by simp at h
 |p::P,w::vs,0,m,nd,h1,h2,hk=>by
  simp at h1 h2;subst h1;subst h2;show bindC kindOf ((p,w)::P.zip vs) m p=_;unfold bindC;rw[xf λv hv=>(cG.mp nd).1 (tO hv).1,if_neg hk];simp
 |p::P,w::vs,i+1,m,nd,h1,h2,hk=>by
  show bindC kindOf ((p,w)::P.zip vs) m x=_;unfold bindC;exact vI (i:=i) (cG.mp nd).2 (by simpa using h1) (by simpa using h2) hk
def gD(N:List Str)(vs:List V):St:=vs.map some++List.replicate (N.length-vs.length) none
def iS(CX:h9)(P:Program)(w:World)(K:PySem.W.Frag)(mg:Str->Option Value)(base:Heap)(N:List Str)(qual:Str)(scope:Scope)(f:Addr)(cd:Value)(A:Around)(outer:List Env)(s:Shared)(H:Hp)(E:XK):Cx where
 prog:=P
 w:=w
 K:=K
 mg:=mg
 base:=base
 A:=A.deeper (envOfC qual scope s.heap.objs.size f cd)
 N:=N
 s_0:=s
 H_0:=H
 env:=envOfC qual scope s.heap.objs.size f cd
 outer:=outer
 stack:=envOfC qual scope s.heap.objs.size f cd::outer
 ex:=[]
 calm:=true
 fn:=λ_=>true
 pn:=[]
 xe:=λe s'=>wpAny (model P w) (A.deeper (envOfC qual scope s.heap.objs.size f cd)) (leaving (envOfC qual scope s.heap.objs.size f cd) e) (λ_ s''=>CX outer H s E e s'') (λe' s''=>CX outer H s E e' s'') s'
theorem wQ(h:sc.names.lookup x=some .cell):∃c,(cellsFrom n sc.names []).lookup x=some c:=by
 have q:=y9 sc.names n [] (.inl h);exact mQ.mp q
theorem xa{K:PySem.W.Frag}{cd:Value}{s1:Shared}{E:XK}{vs:List V}
  (S:bj N ps scope) (hd:A.handled=none) (e0:gf P w K mg base A outer s H) (hl:vs.length=ps.length) (r:aH vs us)
  (x:InCallC s s.heap.objs.size (bindL (envOfC qual scope s.heap.objs.size f cd).kindOf (ps.zip us) λ_=>none) (cellsFrom (s.heap.objs.size+1) scope.names []) (bindC (envOfC qual scope s.heap.objs.size f cd).kindOf (ps.zip us) λ_=>none) s1):
  ae (iS CX P w K mg base N qual scope f cd A outer s H E) [] (gD N vs) H s1:=by
 have cc:ps.length<=N.length:=by have:=dr List.length S.pre;rw[gI]at this;omega
 obtain⟨h1,tk,rfl,hk⟩:=x.done;have noA:∀b:Addr,b∉(iS CX P w K mg base N qual scope f cd A outer s H E).ex:=λb z=>absurd (show b∈([]:List Addr)from z) (by simp);refine⟨⟨e0.mod,S.kind,rfl,rfl,aJ _,λy z c h1 h2=>?_,λy hy=>?_,λy c _ h=>?_,λ_=>hd,Around.frames_deeper e0.frames,.inr ⟨rfl,rfl⟩,λb z=>absurd z (noA b),e0.bs,e0.bsz,λb _ _=>noA b,λb z=>absurd z (noA b),e0.funs,e0.frf⟩,
  rfl,e0.bare,Un.kept hk,⟨_,x.toInCall.ns,λi y v h1 h2 h3=>?_⟩,λy c h=>⟨_,x.cell y c h⟩,e0.hok.fresh (aJ _),λy c h=>?_,λp hp=>absurd (show p∈([]:List (Addr×Obj))from hp) (by simp),e0.hok.kept hk,?_⟩
 ·exact name_of_addr x.apart (fk h1) (fk h2)
 ·have hy:scope.names.lookup y=some .cell∨scope.names.lookup y=some .free:=hy;rcases hy with hy|hy
  ·exact wQ hy
  ·exact absurd rfl (S.nofree _ (fk hy))
 ·exact p7 (x.above y c (fk h))
 ·have hi:i<vs.length:=by
   unfold gD at h2;by_cases hi:i<vs.length
   ·exact hi
   ·rw[za (by simpa using hi)]at h2;rw[yS]at h2;split at h2<;>cases h2
  have ha:vs[i]?=some v:=by
   unfold gD at h2;rw[Gw (by simpa using hi),bY]at h2;cases e:vs[i]? with
   |none=>rw[e]at h2;cases h2
   |some a=>rw[e]at h2;cases h2;rfl
  obtain⟨u,hu,rv⟩:=r.get ha;have hp:ps[i]?=some y:=by
   rw[←S.pre,List.getElem?_take_of_lt (by omega)];exact h1
  have ndP:ps.Nodup:=by rw[←S.pre];exact S.nd.sublist (List.take_sublist _ _)
  refine⟨u,rv,?_⟩;rcases S.par y (cE hp)with k|k
  ·exact .inl ⟨k,wm ndP hp hu k⟩
  ·obtain⟨c,e⟩:=wQ (n:=s.heap.objs.size+1) k;refine .inr ⟨.inl k,c,e,?_⟩;have q:=x.cell y c e;rw[vI ndP hp hu (by show scope.names.lookup y≠_;rw[k];decide)]at q;exact q
 ·exact e0.hok.fresh (p7 (x.above y c (fk h)))
 ·unfold gD;show _=N.length;rw[df,List.length_map,List.length_replicate];omega
theorem uJ{K:PySem.W.Frag}{k:Nat}{name:Str}{params:Arguments}{dV kV doc cdv ct oc:Value}{an od:Option Addr}
  {osl:Array (Option Value)} (lk:K.lookup f=some ⟨oc,od,.func (PySem.W.fnOf name qual params body scope dV kV doc pm an cdv ct),osl⟩) (hcd:PySem.W.codeIn K cdv qual=true) (S:bj N ps scope)
  (len:∀vs H Q E,sp vs H Q E->vs.length=ps.length)
  (hbody:∀(A:Around) (outer:List Env) (s:Shared) (H:Hp) (vs:List V) (Q:VK) (E:XK),cq k (A.deeper (envOfC qual scope s.heap.objs.size f cdv))->sp vs H Q E->
   ∃t,fb (iS CX P w K mg base N qual scope f cdv A outer s H E) body t/\t {nx:=λ_ H'=>Q .non H',rt:=Q} (gD N vs) H):
  ak P w K mg base CX (k+1) f (PySem.W.fnOf name qual params body scope dV kV doc pm an cdv ct) ps sp:=by
 refine⟨len,λA outer s H args us vs Q E hr e0 hb r hsp=>?_⟩;have hl:=len _ _ _ _ hsp;have KX:K.In s.heap:=e0.mod.kin.keeps λb o e=>(e0.bs b o e).1;have lim:s.heap.NoLimit:=e0.mod.nolimit.keeps λb o e=>(e0.bs b o e).1;have hkind:∀y∈ps.zip us,scope.names.lookup y.1=some .local∨(scope.names.lookup y.1=some .cell/\((cellsFrom (s.heap.objs.size+1) scope.names []).lookup y.1).isSome=true):=λ⟨n,v⟩ hy=>by
  rcases S.par n (tO hy).1 with q|q
  ·exact .inl q
  ·exact .inr ⟨q,y9 _ _ _ (.inl q)⟩
 refine codeAny_call_function hr.depth (KX _ _ lk) rfl S.co S.gen rfl (PySem.W.codeRec_of KX hcd) (hb _ _ _ _ ?_);refine wpAny_newFunctionEnv_cells S.kind hkind λenv he s1 x=>?_;subst he;refine⟨lim.keeps x.toInCall.keep,codeAny_func ?_⟩;obtain⟨t,ht,hq⟩:=hbody A outer s H vs Q E (hr.deeper _) hsp;have I:ae (iS CX P w K mg base N qual scope f cdv A outer s H E) [] (gD N vs) H s1:=xa S hr.hd e0 hl r x;refine eX (ht [] s1 (gD N vs) H _ I hq) (λfl s' hs=>?_) λe s' hs=>hs;have fin:∀{σ':St} {H':Hp} {v:V} {u:Value},ae (iS CX P w K mg base N qual scope f cdv A outer s H E) [] σ' H' s'->aT v u->Q v H'->CE outer P w H s Q u s':=
  λ{σ' H' v u} J rv q=>⟨v,H',J.os,J.bare,J.base,J.hok,rv,q⟩
 cases fl with
 |ret u=>
  obtain⟨v,σ',H',J,rv,q⟩:=hs;exact fin J rv q
 |next=>
  obtain⟨σ',H',J,q⟩:=hs;exact fin (v:=V.non) (u:=Value.none) J rfl q
 |brk=>
  obtain⟨_,_,_,q⟩:=hs;exact False.elim q
 |cont=>
  obtain⟨_,_,_,q⟩:=hs;exact False.elim q
section
variable{X:Cx}{x:Str}{p pos:Pos}{e:Expr}{es:List Expr}{t:TA}{id T:String}{r:List V->Hp->VK->Prop}
def yl(r:List V->Hp->VK->Prop)(t:TA):TE:=λσ H Q=>t σ H λvs H1=>r vs H1 Q
theorem cx(hc:gE X (.builtin id) r)(hg:Gl X x)(hm:X.mg x=none)(hv:bootBuiltins x=some (.builtin id))(ha:PA X (e::es) t)(hn:x≠"__name__":=by decide)(hdb:(x==("__debug__":Str))=false:=by decide)
  (he:starEach (e::es) X.env=(false,eval e X.env)::starEach es X.env:=by rfl) (cc:(backTo pos (starEach es X.env)).any (·.1)=false:=by rfl):PE X (.Call (.Name x p) (e::es) [] pos) (yl r t):=by
 intro pins s σ H Q I h;refine m7 (iO I hg hm hv ?_ hn hdb);exact PyProof.Rows.callWith_builtin1 (aI (ha pos pins s σ H _ I h) λus s1 ⟨vs,H1,I1,r1,q1⟩=>hc pins s1 σ H1 vs us Q I1 r1 q1) he cc
theorem jt(hc:gE X (.type T) r)(hg:Gl X x)(hm:X.mg x=none)(hv:bootBuiltins x=some (.type T))(ha:PA X (e::es) t)(hn:x≠"__name__":=by decide)(hdb:(x==("__debug__":Str))=false:=by decide)
  (he:starEach (e::es) X.env=(false,eval e X.env)::starEach es X.env:=by rfl) (cc:(backTo pos (starEach es X.env)).any (·.1)=false:=by rfl):PE X (.Call (.Name x p) (e::es) [] pos) (yl r t):=by
 intro pins s σ H Q I h;refine m7 (iO I hg hm hv ?_ hn hdb);exact m4 (aI (ha pos pins s σ H _ I h) λus s1 ⟨vs,H1,I1,r1,q1⟩=>hc pins s1 σ H1 vs us Q I1 r1 q1) he cc
end
namespace HT
section
variable{prog:Program}{w:World}{A:Around}{E:Value->Shared->Prop}{s:Shared}
def sIx(n d:Nat):Option Int->Nat
 |none=>d
 |some v=>if v<0 then(v+ (n:Int)).toNat else min v.toNat n
theorem sIx_nat(n d k:Nat):sIx n d (some (k:Int))=min k n:=by
 show(if(k:Int)<0 then((k:Int)+ (n:Int)).toNat else min (k:Int).toNat n)=min k n;rw[if_neg (by omega),jg]
end
end HT
abbrev TO:=St->Hp->(Option Int->Hp->Prop)->Prop
def PO(X:Cx)(e:Option Expr)(t:TO):Prop:=
 ∀(pins:List (Addr×Obj)) (s:Shared) (σ:St) (H:Hp) (Q:Option Int->Hp->Prop),ae X pins σ H s->t σ H Q->
  wpAny (model X.prog X.w) X.A (evalPart e X.env) (λu s'=>∃o H',ae X pins σ H' s'/\IsPart u o/\Q o H') X.xe s
def Ek(t:TE):TO:=λσ H Q=>t σ H λx H1=>∃i,x= .int i/\Q (some i) H1
section
variable{X:Cx}{e:Expr}{te:TE}{lo hi:Option Expr}{tl th:TO}{pos p2:Pos}
theorem wq(h:PE X e te):PO X (some e) (Ek te):=by
 intro pins s σ H Q I hw;rw[evalPart_some];refine aI (h pins s σ H _ I hw) λu s1 ⟨x,H1,I1,r1,q1⟩=>?_;obtain⟨i,rfl,q⟩:=q1;obtain⟨t,rfl⟩:=r1;exact⟨some i,H1,I1,.int i t,q⟩
def uZ(X:Cx)(r:V->Option Int->Option Int->Hp->VK->Prop):Prop:=
 ∀(pins:List (Addr×Obj)) (s:Shared) (σ:St) (H:Hp) (x:V) (v vl vu:Value) (lo hi:Option Int) (sl:Addr) (Q:VK),ae X pins σ H s->aT x v->s.heap.IsSliceOf sl vl vu .none->IsPart vl lo->IsPart vu hi->r x lo hi H Q->
  ∃T id,typeLookup (.type T) "__getitem__"=pure (some (.builtin id))/\s.TypeIs v T/\wpAny (model X.prog X.w) X.A (getItem v (.ref sl)) (EP X pins σ Q) X.xe s
def Be(r:V->Option Int->Option Int->Hp->VK->Prop)(te:TE)(tl th:TO):TE:=λσ H Q=>te σ H λx H1=>tl σ H1 λl H2=>th σ H2 λu H3=>r x l u H3 Q
theorem BW{r:V->Option Int->Option Int->Hp->VK->Prop}(hr:uZ X r)(he:PE X e te)(hl:PO X lo tl)(hu:PO X hi th):PE X (.Subscript e (.Slice lo hi none p2) pos) (Be r te tl th):=by
 intro pins s σ H Q I h;refine Subscript_ (aI (he pins s σ H _ I h) λv s1 ⟨x,H1,I1,r1,q1⟩=>?_);refine wpAny_Slice (aI (hl pins s1 σ H1 _ I1 q1) λvl s2 ⟨l,H2,I2,pl,q2⟩=>aI (hu pins s2 σ H2 _ I2 q2) λvu s3 ⟨u,H3,I3,pu,q3⟩=>?_);rw[evalPart_none];refine ah ?_;have I4:ae X pins σ H3 {s3 with heap:=s3.heap.push {cls:=.type "slice",data:=.fields #[vl,vu,.none]} }:=I3.kept (t':=s3.toks) λb ob q=>bJ _ q;obtain⟨T,id,hT,ht,hg⟩:=hr pins {s3 with heap:=s3.heap.push {cls:=.type "slice",data:=.fields #[vl,vu,.none]} } σ H3 x v vl vu l u s3.heap.objs.size Q I4 r1 (Heap.IsSliceOf.new ..) pl pu q3;show wpAny (model X.prog X.w) X.A (subscriptTail e (.Slice lo hi none p2) v (.ref s3.heap.objs.size)) (EP X pins σ Q) X.xe {s3 with heap:=s3.heap.push {cls:=.type "slice",data:=.fields #[vl,vu,.none]} };exact tail_any (ops:=[.ref s3.heap.objs.size,v]) ht hT hg (by with_unfolding_all rfl)
def jA(xs:List V)(lo hi:Option Int):List V:=(xs.drop (HT.sIx xs.length 0 lo)).take (HT.sIx xs.length xs.length hi-HT.sIx xs.length 0 lo)
theorem Ft(xs:List V)(lo hi:Option Int):(jA xs lo hi).length<=xs.length:=by
 unfold jA;rw[gI,List.length_drop];omega
end
def ij(n:Nat)(i:Int):Option Nat:=if 0<=i then(if i<n then some i.toNat else none)else if -(n:Int)<=i then some (i+n).toNat else none
def iQ{α:Type}(xs:List α)(i:Int):Option α:=(ij xs.length i).bind λj=>xs[j]?
theorem xI{i:Int}(h:ij n i=some j):seqIndex? i n=some j/\j<n/\-(n:Int)<=i/\i<n:=by
 unfold ij at h;by_cases h0:0<=i
 ·rw[if_pos h0]at h;by_cases h1:i<n
  ·rw[if_pos h1]at h;have e:i.toNat=j:=b9 h;exact⟨by rw[seqIndex_of h0 h1,e],by omega,by omega,h1⟩
  ·rw[if_neg h1]at h;cases h
 ·rw[if_neg h0]at h;by_cases h1:-(n:Int)<=i
  ·rw[if_pos h1]at h;have e:(i+n).toNat=j:=b9 h;exact⟨by rw[seqIndex_neg (by omega) h1,e],by omega,h1,by omega⟩
  ·rw[if_neg h1]at h;cases h
theorem su{α:Type}{xs:List α}{i:Int}{v:α}(h:iQ xs i=some v):∃j,seqIndex? i xs.length=some j/\xs[j]?=some v/\j<xs.length/\-(xs.length:Int)<=i/\i<xs.length:=by
 unfold iQ at h;cases e:ij xs.length i with
 |none=>rw[e]at h;cases h
 |some j=>
  rw[e]at h;obtain⟨h1,h2,h3,h4⟩:=xI e;exact⟨j,h1,h,h2,h3,h4⟩
theorem aK{α:Type}{xs:List α}{v:α}(h:xs[j]?=some v):iQ xs (j:Int)=some v:=by
 have hj:j<xs.length:=(cX.mp h).1;have e:ij xs.length (j:Int)=some j:=by
  unfold ij;rw[if_pos (by omega),if_pos (by omega)];simp
 unfold iQ;rw[e];exact h
def AV(b:Expr):Prop:=∀o i,subscripted b false o i=operate [o,i] (getItem o i)
def ir(X:Cx)(r:R2):Prop:=
 ∀(value slice:Expr) (pins:List (Addr×Obj)) (s:Shared) (σ:St) (H:Hp) (x y:V) (v u:Value) (Q:VK),ae X pins σ H s->aT x v->aT y u->r x y H Q->
  subscripted slice false v u=operate [v,u] (getItem v u)->wpAny (model X.prog X.w) X.A (subscriptTail value slice v u) (EP X pins σ Q) X.xe s
def Gn(X:Cx)(id:String)(r:V->List V->Hp->VK->Prop):Prop:=
 ∀(pins:List (Addr×Obj)) (s:Shared) (σ:St) (H:Hp) (x:V) (xs:List V) (v:Value) (us:List Value) (Q:VK),ae X pins σ H s->aT x v->aH xs us->r x xs H Q->
  wpAny (model X.prog X.w) X.A (call (.builtin id) (v::us)) (EP X pins σ Q) X.xe s
section
variable{X:Cx}{a b:Expr}{ta tb:TE}{pos:Pos}
theorem ir.or(h:ir X r)(h':ir X r'):ir X (λx y H Q=>r x y H Q∨r' x y H Q):=by
 intro value slice pins s σ H x y v u Q I rx ry q hs;rcases q with q|q
 ·exact h value slice pins s σ H x y v u Q I rx ry q hs
 ·exact h' value slice pins s σ H x y v u Q I rx ry q hs
theorem aL(hr:ir X r)(ha:PE X a ta)(hb:PE X b tb)(hs:AV b):PE X (.Subscript a b pos) (oK r ta tb):=by
 intro pins s σ H Q I h;exact Subscript_ (qV ha hb I h λv u s2 x y H2 I2 rx ry q=>hr a b pins s2 σ H2 x y v u Q I2 rx ry q (hs _ _))
def uB(K:PySem.W.Frag):R2:=λx y H Q=>∃p xs i v,x= .ref p/\y= .int i/\SqL K H p xs/\iQ xs i=some v/\Q v H
def wZ(K:PySem.W.Frag):R2:=λx y H Q=>∃p xs i v,x= .ref p/\y= .int i/\bo K H p xs/\iQ xs i=some v/\Q v H
def uw:R2:=λx y H Q=>∃z i c,x= .str z/\y= .int i/\z.length<=sizeLine/\iQ z.cps.toList i=some c/\Q (.str ⟨#[c]⟩) H
theorem bf:ir X (uB X.K):=by
 intro value slice pins s σ H x y v u Q I rx ry h hs;obtain⟨p,xs,i,z,rfl,rfl,hq,he,q⟩:=h;cases rx;obtain⟨t,rfl⟩:=ry;obtain⟨its,r,pl,hz⟩:=I.list hq;obtain⟨j,h1,h2,h3,h4,h5⟩:=su he;obtain⟨w,ew,rw'⟩:=r.get h2;have hl:=r.length;have hn:=ml;have fin:EP X pins σ Q w s:=⟨z,H,I,rw',q⟩;by_cases h0:0<=i
 ·have hj:i.toNat=j:=by
   rw[seqIndex_of h0 h5]at h1;exact b9 h1
  exact item_listR pl.isList h0 (by omega) (by rw[hj];simpa using ew) fin hs
 ·have hj:(i+ (its.toArray.size:Int)).toNat=j:=by
   rw[seqIndex_neg (by omega) h4]at h1;rw[cM,←hl];exact b9 h1
  exact subscriptTail_builtinR (x:=w) pl.isList.typeIs slot_list_getitem.lookup
   (wpAny_getItem_list_neg (Q:=λr s'=>r=w/\EP X pins σ Q r s') pl.isList (by omega) (by rw[cM]<;>omega) (by omega) (by rw[hj];simpa using ew) ⟨rfl,fin⟩) hs
theorem cR:ir X (wZ X.K):=by
 intro value slice pins s σ H x y v u Q I rx ry h hs;obtain⟨p,xs,i,z,rfl,rfl,hq,he,q⟩:=h;cases rx;obtain⟨t,rfl⟩:=ry;obtain⟨its,r,pl,hz⟩:=I.tuple hq;obtain⟨j,h1,h2,h3,h4,h5⟩:=su he;obtain⟨w,ew,rw'⟩:=r.get h2;have hl:=r.length;have hn:=ml;have fin:EP X pins σ Q w s:=⟨z,H,I,rw',q⟩;exact subscriptTail_builtinR (x:=w) pl.typeIs slot_tuple_getitem.lookup
  (getItem_tuple (j:=j) (Q:=λr s'=>r=w/\EP X pins σ Q r s') pl (by omega) (by omega) (by rw[cM,←hl];exact h1) (by simpa using ew) ⟨rfl,fin⟩) hs
theorem Ei:ir X uw:=by
 intro value slice pins s σ H x y v u Q I rx ry h hs;obtain⟨z,i,c,rfl,rfl,hz,he,q⟩:=h;obtain⟨t,rfl⟩:=rx;obtain⟨t',rfl⟩:=ry;obtain⟨j,h1,h2,h3,h4,h5⟩:=su he;have hl:z.cps.toList.length=z.length:=by simp[Str.length]
 rw[hl]at h1 h4 h5;have hn:=ml;exact tail_any (typeIs_str s z t) slot_str_getitem.lookup (getItem_str (c:=c) (by
  have e1:decide (i< -(2^63:Int))=false:=ba (by omega)
  have e2:decide (i≥2^63)=false:=ba (by omega);rw[e1,e2,pT]) (by rw[h1];simpa using h2) ⟨.str ⟨#[c]⟩,H,I.tok _,⟨_,rfl⟩,q⟩) hs
def w9(K:PySem.W.Frag):R2:=λx y H Q=>uB K x y H Q∨wZ K x y H Q∨uw x y H Q
theorem pH:ir X (w9 X.K):=bf.or (cR.or Ei)
theorem DN(its:List Value)(n j:Nat)(u:Value):Obj.mapSeq (·.setIfInBounds j u) {cls:=.type "list",data:=.seq its.toArray n}={cls:=.type "list",data:=.seq (its.set j u).toArray n}:=by
 simp[Obj.mapSeq]
theorem ae.lst{p:Addr}{xs:List V}(I:ae X pins σ H s)(h:H p=some (.lst xs)):
  ∃(its:List Value) (n:Nat),aH xs its/\s.heap.get? p=some {cls:=.type "list",data:=.seq its.toArray n}/\xs.length<=sizeLine:=by
 obtain⟨z,its,n,r,e⟩:=I.hok p _ h;exact⟨its,n,r,e,z⟩
theorem ae.lstUpd{p:Addr}{xs ys:List V}{its':List Value}{n':Nat}{f:Obj->Obj}(I:ae X pins σ H s)(h:H p=some (.lst xs))
  (ho:s.heap.get? p=some {cls:=.type "list",data:=.seq its.toArray n}) (hf:f {cls:=.type "list",data:=.seq its.toArray n}={cls:=.type "list",data:=.seq its'.toArray n'}) (r:aH ys its') (hz:ys.length<=sizeLine) (t:Nat):
  ae X pins σ (upd H p (.lst ys)) {s with heap:=s.heap.update p f,toks:=t}:=by
 have e:(s.heap.update p f).get? p=some {cls:=.type "list",data:=.seq its'.toArray n'}:=by
  rw[gJ f ho (by rw[hf]<;>rfl),hf]
 refine I.write (x:=p) (e:=p) (by rw[h];trivial) (.inl rfl) (λb u hb q=>(fq _ _ (bP hb)).trans q) ⟨_,e⟩ ?_;exact⟨hz,its',n',r,e⟩
def Bk:V->V->V->Hp->(Hp->Prop)->Prop:=λo i v H Q=>∃p xs k j,o= .ref p/\i= .int k/\H p=some (.lst xs)/\ij xs.length k=some j/\Q (upd H p (.lst (xs.set j v)))
theorem qD:uG X Bk:=by
 intro pins s σ H o i v ov iv u Q I ro ri rv h;obtain⟨p,xs,k,j,rfl,rfl,hp,hj,q⟩:=h;cases ro;obtain⟨t,rfl⟩:=ri;obtain⟨its,n,r,ho,hz⟩:=I.lst hp;obtain⟨h1,h2,h3,h4⟩:=xI hj;have hl:=r.length;have hn:=ml;have I':ae X pins σ (upd H p (.lst (xs.set j v))) {s with heap:=s.heap.update p (Obj.mapSeq (·.setIfInBounds j u))}:=
  I.lstUpd hp ho (DN its n j u) (r.set rv j) (by rw[List.length_set];exact hz) s.toks
 by_cases h0:0<=k
 ·have hk:k.toNat=j:=by
   rw[seqIndex_of h0 h4]at h1;exact b9 h1
  exact PySem.W.ki_setAt ho h0 (by omega) (by rw[cM,←hl];exact h4) (by rw[hk];exact⟨_,I',q⟩)
 ·have hk:(k+ (its.toArray.size:Int)).toNat=j:=by
   rw[seqIndex_neg (by omega) h3]at h1;rw[cM,←hl];exact b9 h1
  exact PySem.W.ki_setBack ho (by omega) (by rw[cM,←hl];exact h3) (by omega) (by rw[hk];exact⟨_,I',q⟩)
theorem Gj(lo hi:Option Int)(n:Nat):(sliceBounds lo hi none n).1=((HT.sIx n 0 lo:Nat):Int)/\(sliceBounds lo hi none n).2.1=((HT.sIx n n hi:Nat):Int)/\(sliceBounds lo hi none n).2.2=1:=by
 refine⟨?_,?_,rfl⟩
 ·cases lo with
  |none=>simp[sliceBounds,HT.sIx]
  |some i=>
   simp only[sliceBounds,HT.sIx,Option.getD_none,show(1:Int)>0 by decide,fU];by_cases h:i<0
   ·simp only[h,fU]<;>omega
   ·simp only[h,dC]<;>omega
 ·cases hi with
  |none=>simp[sliceBounds,HT.sIx]
  |some i=>
   simp only[sliceBounds,HT.sIx,Option.getD_none,show(1:Int)>0 by decide,fU];by_cases h:i<0
   ·simp only[h,fU]<;>omega
   ·simp only[h,dC]<;>omega
theorem Ae(its:List Value)(lo hi:Option Int):slicePick its.toArray lo hi none=((its.drop (HT.sIx its.length 0 lo)).take (HT.sIx its.length its.length hi-HT.sIx its.length 0 lo)).toArray:=by
 obtain⟨h1,h2,h3⟩:=Gj lo hi its.toArray.size;unfold slicePick;rw[h1,h2,h3];simp only[sliceRange_one,pick_run,cM]<;>rfl
def Cp(K:PySem.W.Frag):V->Option Int->Option Int->Hp->VK->Prop:=λx lo hi H Q=>∃a xs,x= .ref a/\SqL K H a xs/\∀p,H p=none->Q (.ref p) (upd H p (.lst (jA xs lo hi)))
theorem C0:uZ X (Cp X.K):=by
 intro pins s σ H x v vl vu lo hi sl Q I rx hs pl pu h;obtain⟨a,xs,rfl,hx,q⟩:=h;cases rx;obtain⟨its,r,ht,hz⟩:=I.list hx;have hlen:=r.length;refine⟨"list",_,slot_list_getitem.lookup,ht.isList.typeIs,?_⟩;refine wpAny_getItem_list_slice ht.isList hs pl pu .none (by simp) ?_ (by rw[cM]<;>omega);rw[Ae,←hlen];refine⟨.ref s.heap.objs.size,_,I.laid (t':=s.toks) (o:=.lst (jA xs lo hi)) (λb ob q=>bJ _ q) (aJ _) ?_,rfl,q _ (I.hok.fresh (aJ _))⟩;exact⟨dw (Ft xs lo hi) hz,_,0,(r.drop (HT.sIx xs.length 0 lo)).take (HT.sIx xs.length xs.length hi-HT.sIx xs.length 0 lo),cn _ rfl⟩
theorem eK:gE X (.builtin "len") (λxs H Q=>∃p ys,xs=[.ref p]/\(SqL X.K H p ys∨bo X.K H p ys)/\Q (.int ys.length) H):=by
 intro pins s σ H xs us Q I r h;obtain⟨p,ys,rfl,hq,q⟩:=h;obtain⟨u,rfl,rx⟩:=yc r;cases rx;have hn:=ml;rcases hq with hq|hq
 ·obtain⟨its,r',pl,hz⟩:=I.list hq;have hlen:=r'.length;exact Calls.call_len_list pl.isList (by simp only[cM]<;>omega) ⟨.int ys.length,H,I.tok _,⟨s.toks+1,by rw[cM,hlen]⟩,q⟩
 ·obtain⟨its,r',pl,hz⟩:=I.tuple hq;have hlen:=r'.length;exact len_tuple pl (by simp only[cM]<;>omega) ⟨.int ys.length,H,I.tok _,⟨s.toks+1,by rw[cM,hlen]⟩,q⟩
theorem sE:gE X (.type "list") (λxs H Q=>∃p ys,xs=[.ref p]/\(SqL X.K H p ys∨bo X.K H p ys)/\∀l,H l=none->Q (.ref l) (upd H l (.lst ys))):=by
 intro pins s σ H xs us Q I r h;obtain⟨p,ys,rfl,hq,q⟩:=h;obtain⟨u,rfl,rx⟩:=yc r;cases rx;have fin:∀(its:List Value),aH ys its->ys.length<=sizeLine->∀(h':Heap) (c':Nat),(∀b o',s.heap.get? b=some o'->h'.get? b=some o')->
   h'.get? s.heap.objs.size=some {cls:=.type "list",dict:=none,data:=.seq its.toArray c',slots:=#[]}->EP X pins σ Q (.ref s.heap.objs.size) {s with heap:=h'}:=λits r' hz h' c' kp e=>
  ⟨.ref s.heap.objs.size,_,I.laid (t':=s.toks) kp (aJ _) (show cQ X.prog X.w _ h' _ (.lst ys)from⟨hz,its,c',r',e⟩),rfl,q _ (I.hok.fresh (aJ _))⟩
 rcases hq with hq|hq
 ·obtain⟨its,r',pl,hz⟩:=I.list hq;have hlen:=r'.length;obtain⟨o,ho,hc,n,hd⟩:=pl.isList;exact call_list_seq p (.inl rfl) ho hc hd (λh' c' kp e=>fin its r' hz h' c' kp e) (by simp only[cM]<;>omega)
 ·obtain⟨its,r',pl,hz⟩:=I.tuple hq;have hlen:=r'.length;obtain⟨o,ho,hc,n,hd⟩:=pl;exact call_list_seq p (.inr rfl) ho hc hd (λh' c' kp e=>fin its r' hz h' c' kp e) (by simp only[cM]<;>omega)
def wF(K:PySem.W.Frag)(T:String)(x:V)(H:Hp):Prop:=match x with
 |.str _=>T="str"
 |.int _=>T="int"
 |.ref p=>(T="list"/\∃xs,SqL K H p xs)∨(T="tuple"/\∃o,K.lookup p=some o/\o.cls= .type "tuple"/\o.dict=none)∨
   (T="dict"/\((∃kvs,H p=some (.dK kvs))∨∃kvs,H p=some (.dT kvs)))∨(T="set"/\∃S n,H p=some (.set S n))
 |_=>False
theorem C9{T:String}{x:V}(I:ae X pins σ H s)(r:aT x v)(ty:wF X.K T x H):
  s.TypeIs v T/\∀a,v= .ref a->∃ob,s.heap.get? a=some ob/\ob.dict=none:=by
 cases x with
 |str z=>
  obtain⟨t,rfl⟩:=r;cases(show T="str" from ty);exact⟨typeIs_str s z t,λ_ e=>nomatch e⟩
 |int i=>
  obtain⟨t,rfl⟩:=r;cases(show T="int" from ty);exact⟨kW s i t,λ_ e=>nomatch e⟩
 |ref p=>
  cases r;rcases ty with⟨rfl,xs,hq⟩|⟨rfl,o,hk,hc,hd⟩|⟨rfl,hk⟩|⟨rfl,S,n,hk⟩
  ·obtain⟨its,_,pl,_⟩:=I.list hq;refine⟨pl.isList.typeIs,λa e=>?_⟩;cases e;obtain⟨o,n,e,c,hd,_⟩:=pl;exact⟨o,e,hd⟩
  ·refine⟨⟨o,I.kIn p o hk,hc⟩,λa e=>?_⟩;cases e;exact⟨o,I.kIn _ o hk,hd⟩
  ·have z:∃o,s.heap.get? p=some o/\o.ExactDict:=by
    rcases hk with⟨kvs,hk⟩|⟨kvs,hk⟩
    ·obtain⟨_,_,_,_,o,_,_,e,ex,_⟩:=I.hok p _ hk;exact⟨o,e,ex⟩
    ·obtain⟨_,_,_,_,o,_,_,e,ex,_⟩:=I.hok p _ hk;exact⟨o,e,ex⟩
   obtain⟨o,e,ex⟩:=z;refine⟨⟨o,e,ex.1⟩,λa e2=>?_⟩;cases e2;exact⟨o,e,ex.2.1⟩
  ·obtain⟨o,_,_,_,e,ex,_⟩:=I.hok p _ hk;refine⟨⟨o,e,ex.1⟩,λa e2=>?_⟩;cases e2;exact⟨o,e,ex.2.1⟩
 |_=>exact False.elim ty
def F1(K:PySem.W.Frag)(T:String)(r:V->List V->Hp->VK->Prop)(to:TE)(t:TA):TE:=λσ H Q=>to σ H λx H1=>wF K T x H1/\t σ H1 λxs H2=>r x xs H2 Q
variable{o e:Expr}{es:List Expr}{to:TE}{t:TA}{name:Str}{apos cpos:Pos}{T id:String}{r:V->List V->Hp->VK->Prop}
theorem ja(pa:PlainAttrs T)(slot:Slot T name id)(hty:typeOf (.builtin id)=pure (.type "method_descriptor"))(hm:Gn X id r)(ho:PE X o to)(ha:PA X (e::es) t)
  (hbase:attributeBase o name X.env (eval o X.env)=eval o X.env:=by rfl)
  (hfew:((backTo cpos (starEach (e::es) X.env)).all (λx=>!x.1)&&(backToKw cpos (keywordEach [] X.env)).all (λx=>x.1.isSome)
   &&decide ((e::es).length+ ([]:List Keyword).length+ (if([]:List Keyword).isEmpty then 0 else 1)<30))=true:=by rfl)
  (hline:(apos.endLine==cpos.line)=true:=by rfl) (hs:starEach (e::es) X.env=(false,eval e X.env)::starEach es X.env:=by rfl) (hplain:(backTo cpos (starEach es X.env)).any (·.1)=false:=by rfl):
  PE X (.Call (.Attribute o name apos) (e::es) [] cpos) (F1 X.K T r to t):=by
 intro pins s σ H Q I h;refine wpAny_Call_method_late hbase hfew hline rfl (aI (ho pins s σ H _ I h) λv s1 ⟨x,H1,I1,r1,ty,q1⟩=>?_);obtain⟨h1,h2⟩:=C9 I1 r1 ty;refine⟨T,id,pa,slot,hty,h1,h2,?_⟩;have hA:=ha cpos pins s1 σ H1 _ I1 q1;rw[hs]at hA⊢;refine tP (by show(false||(backTo cpos (starEach es X.env)).any (·.1))=false;rw[hplain]<;>rfl) (tQ ?_);exact aI hA λus s2 ⟨vs,H2,I2,r2,q2⟩=>hm pins s2 σ H2 x vs v us Q I2 r1 r2 q2
end
def uh(X:Cx)(id:String)(r:V->List V->Hp->VK->Prop):Prop:=
 ∀(pins:List (Addr×Obj)) (s:Shared) (σ:St) (H:Hp) (x:V) (xs:List V) (v:Value) (us:List Value) (Q:VK),ae X pins σ H s->aT x v->aH xs us->r x xs H Q->
  wpAny (model X.prog X.w) X.A (call (.builtin id) (v::us)) (EP X pins σ Q) X.xe s
theorem aH.one:∀{x:V} {us:List Value},aH [x] us->∃u,us=[u]/\aT x u
 |_,_,.cons r .nil=>⟨_,rfl,r⟩
theorem aH.rep{xs:List V}{us:List Value}(h:aH xs us):∀k:Nat,aH (List.replicate k xs).flatten (List.replicate k us).flatten
 |0=>.nil
 |k+1=>by
  rw[kX,kX,qe,qe];exact aH.append h (aH.rep h k)
theorem uC(its:List Value):∀(k:Nat) (acc:List Value),
  List.foldl (λx1 x2=>x1++x2) acc.toArray (List.replicate k its.toArray)=(acc++(List.replicate k its).flatten).toArray
 |0,acc=>by simp
 |k+1,acc=>by
  have e:acc.toArray++its.toArray=(acc++its).toArray:=by simp
  have e2:(acc++its)++(List.replicate k its).flatten=acc++(List.replicate (k+1) its).flatten:=by
   rw[kX,qe,qf]
  rw[←e2,←uC its k (acc++its),←e,kX,pQ]
section
variable{X:Cx}{pins:List (Addr×Obj)}{σ:St}{H:Hp}{s:Shared}{l b:Addr}{xs ys zs:List V}
theorem ae.lset{its':List Value}{f:Array Value->Array Value}(I:ae X pins σ H s)(hH:H l=some (.lst xs))
  (e:s.heap.get? l=some {cls:=.type "list",data:=.seq its.toArray n}) (hf:f its.toArray=its'.toArray) (hv:aH ys its') (hz:ys.length<=sizeLine):
  ae X pins σ (upd H l (.lst ys)) {s with heap:=s.heap.update l (Obj.mapSeq f),toks:=t'}:=by
 have q:=PySem.IsL.update e f;rw[hf]at q;refine I.write (x:=l) (e:=l) (by rw[hH];exact trivial) (.inl rfl) (λb' u hb hu=>(fq s.heap (Obj.mapSeq f) (bP hb)).trans hu) ⟨_,q⟩ ?_;exact⟨hz,its',_,hv,q⟩
theorem ae.lnew(I:ae X pins σ H s)(hv:aH ys its)(hz:ys.length<=sizeLine):
  ae X pins σ (upd H s.heap.objs.size (.lst ys)) {s with heap:=s.heap.push {cls:=.type "list",data:=.seq its.toArray},toks:=t'}:=
 I.laid (λ_ _ q=>bJ _ q) (aJ _) ⟨hz,its,0,hv,cn _ rfl⟩
theorem ae.fresh(I:ae X pins σ H s):H s.heap.objs.size=none:=I.hok.fresh (aJ _)
theorem ae.lstM(I:ae X pins σ H s)(hH:H l=some (.lst xs)):xs.length<=sizeLine/\∃(its:List Value) (n:Nat),aH xs its/\xs.length=its.length/\s.heap.get? l=some {cls:=.type "list",data:=.seq its.toArray n}:=by
 obtain⟨z,its,n,r,e⟩:=I.hok l _ hH;exact⟨z,its,n,r,r.length,e⟩
theorem uA(h:n<=sizeLine):Builtin.List.listTooLong n=false:=by
 unfold Builtin.List.listTooLong;exact ba (by omega)
end
section
variable{X:Cx}
def BR:V->List V->Hp->VK->Prop:=λx vs H Q=>∃l xs y,x= .ref l/\vs=[y]/\H l=some (.lst xs)/\xs.length<sizeLine/\Q .non (upd H l (.lst (xs++[y])))
theorem jS:uh X "list.append" BR:=by
 intro pins s σ H x vs v us Q I rx rv h;obtain⟨l,xs,y,rfl,rfl,hH,hz,q⟩:=h;cases rx;obtain⟨u,rfl,ru⟩:=rv.one;obtain⟨z,its,n,r,hl,e⟩:=I.lstM hH;refine call_meets F.slot_list_append ⟨_,e,rfl⟩ F.entry_list_append (F.args_list_append_2 _ _) (PySem.list_append l its.toArray n u (by rw[cM];omega)) ⟨e,?_⟩;refine⟨.non,_,I.lset (its':=its++[u]) hH e (by simp) (r.append (.cons ru .nil)) ?_,rfl,q⟩;rw[df,List.length_singleton];omega
def AI:V->List V->Hp->VK->Prop:=λx vs H Q=>∃l b xs zs,x= .ref l/\vs=[.ref b]/\H l=some (.lst xs)/\H b=some (.lst zs)/\xs.length+zs.length<=sizeLine/\Q .non (upd H l (.lst (xs++zs)))
theorem uy:uh X "list.extend" AI:=by
 intro pins s σ H x vs v us Q I rx rv h;obtain⟨l,b,xs,zs,rfl,rfl,hH,hB,hz,q⟩:=h;cases rx;obtain⟨u,rfl,ru⟩:=rv.one;cases ru;obtain⟨z,its,n,r,hl,e⟩:=I.lstM hH;obtain⟨z2,its2,n2,r2,hl2,e2⟩:=I.lstM hB;have hsz:its.toArray.size+its2.toArray.size<=sizeLine:=by rw[cM,cM];omega
 have hlong:¬(!its.toArray.isEmpty&&Builtin.List.listTooLong (its.toArray.size+its2.toArray.size))=true:=by
  rw[uA hsz,tF];exact c0
 refine call_meets F.slot_list_extend ⟨_,e,rfl⟩ F.entry_list_extend (F.args_list_extend_2 _ _)
  (AutoSeq1.list_extend_list_list_0 l its.toArray n b its2.toArray n2 hlong (by rw[cM];omega) (by omega)) ⟨e,e2,?_⟩
 refine⟨.non,_,I.lset (its':=its++its2) hH e (by simp) (r.append r2) ?_,rfl,q⟩;rw[df];omega
def Bh:R2:=λx y H Q=>∃l b xs zs,x= .ref l/\y= .ref b/\H l=some (.lst xs)/\H b=some (.lst zs)/\xs.length+zs.length<=sizeLine/\∀p,H p=none->Q (.ref p) (upd H p (.lst (xs++zs)))
theorem xT:cO X (binaryOp .Add) Bh:=by
 intro pins s σ H x y v u Q I rx ry h;obtain⟨l,b,xs,zs,rfl,rfl,hH,hB,hz,q⟩:=h;cases rx;cases ry;obtain⟨z,its,n,r,hl,e⟩:=I.lstM hH;obtain⟨z2,its2,n2,r2,hl2,e2⟩:=I.lstM hB;refine PySem.P.add_list e e2 ?_ (by rw[cM,cM];omega);have ea:its.toArray++its2.toArray=(its++its2).toArray:=by simp
 rw[ea];exact⟨.ref _,_,I.lnew (t':=s.toks) (r.append r2) (by rw[df];omega),rfl,q _ I.fresh⟩
def D9:R2:=λx y H Q=>∃l k xs,x= .ref l/\y= .int k/\H l=some (.lst xs)/\-(2^63)<=k/\k<2^63/\xs.length*k.toNat<=sizeLine/\
 ∀p,H p=none->Q (.ref p) (upd H p (.lst (List.replicate k.toNat xs).flatten))
theorem E3{α:Type}(xs:List α)(k:Nat):(List.replicate k xs).flatten.length=k*xs.length:=by
 induction k with
 |zero=>simp
 |succ k ih=>rw[kX,qe,df,ih,Nat.succ_mul,Nat.add_comm]
theorem EG:cO X (binaryOp .Mult) D9:=by
 intro pins s σ H x y v u Q I rx ry h;obtain⟨l,k,xs,rfl,rfl,hH,h1,h2,hz,q⟩:=h;cases rx;obtain⟨t,rfl⟩:=ry;obtain⟨z,its,n,r,hl,e⟩:=I.lstM hH;have hlen:its.toArray.size*k.toNat<=sizeLine:=by rw[cM,←hl];exact hz
 have hcap:¬its.toArray.size*k.toNat>(2^63-1)/8:=by
  have:(sizeLine:Nat)<=(2^63-1)/8:=by decide
  omega
 have hfit:¬(!Builtin.List.listFitsIndex k)=true:=by
  rw[fitsIndex_both h1 h2];exact c0
 have hlong:¬Builtin.List.listTooLong (its.toArray.size*k.toNat)=true:=by
  rw[uA hlen];exact c0
 have hnew:List.foldl (λx1 x2=>x1++x2) #[] (List.replicate (if its.toArray.isEmpty=true then 0 else k.toNat) its.toArray)=(List.replicate k.toNat its).flatten.toArray:=by
  have f0:∀m:Nat,List.foldl (λx1 x2=>x1++x2) #[] (List.replicate m its.toArray)=(List.replicate m its).flatten.toArray:=λm=>by
   have:=uC its m [];rw[zb]at this;exact this
  rw[f0];cases its with
  |nil=>simp
  |cons a r'=>rw[if_neg (by simp)]
 refine wpAny_binaryOp_repeat_ref (T:="list") (U:="int") (by decide) ⟨_,e,rfl⟩ (λs'=>kW s' k t) noFill_list_mul F.fills_int_mul F.slot_int_rmul repeat_list F.slot_int_index.lookup
  (call_meets F.slot_int_rmul (kW s k t) F.entry_int_rmul (F.args_int_rmul_2 _ _) (int___rmul___int_list k t l its.toArray n)
   ⟨e,rfl,⟨_,e,rfl⟩,call_meets F.slot_list_mul ⟨_,e,rfl⟩ F.entry_list_mul (F.args_list_mul_2 _ _) (AutoListH.list___mul___list_int_3 l its.toArray n k t hfit hcap hlong) ⟨e,?_⟩⟩)
 rw[hnew];exact⟨.ref _,_,I.lnew (t':=s.toks) (r.rep k.toNat) (by rw[E3,pP];exact hz),rfl,q _ I.fresh⟩
end
theorem aH.ints:∀{ns:List Int} {us:List Value},aH (ns.map V.int) us->IntsAre us ns
 | [],us,h=>by
  rw[List.map_nil]at h;cases h;exact IntsAre.nil
 |n::ns,us,h=>by
  rw[aW]at h;cases h with
  |cons r t=>
   obtain⟨k,rfl⟩:=r;exact IntsAre.cons n k (aH.ints t)
theorem aH.bls:∀{bs:List Bool} {us:List Value},aH (bs.map V.bl) us->us=bs.map Value.bool
 | [],us,h=>by
  rw[List.map_nil]at h;cases h;rfl
 |b::bs,us,h=>by
  rw[aW]at h;cases h with
  |cons r t=>
   cases r;rw[aH.bls t,aW]
theorem aH.ref1(r:aH [V.ref a] us):us=[Value.ref a]:=by
 cases r with
 |cons r t=>
  cases t;cases r;rfl
section
variable{prog:Program}{w:World}{A:Around}{E:Value->Shared->Prop}{s:Shared}{l:Addr}{its:List Value}{ns:List Int}{Q:Value->Shared->Prop}
theorem E4(hh:A.handled=none)(hl:s.heap.IsList l its.toArray)(hi:IntsAre its ns)
  (h:∀h' tk t',(∀b o,s.heap.get? b=some o->h'.get? b=some o)->Q (.int ns.sum t') {s with heap:=h',toks:=tk}):wpAny (model prog w) A (call (.builtin "sum") [.ref l]) Q E s:=by
 obtain⟨xs,e⟩:=hi.allInts.items;have hn:numsOf (intItems xs).toList=ns:=by rw[←e];exact hi.numsOf
 rw[nums_intItems]at hn;rw[e]at hl;refine PySem.sum_intListG hh hl λh' tk t' hk=>?_;have:=h h' tk t' hk;rw[preSum_eq,jP (by simp),hn];exact this
end
section
variable{X:Cx}
def zZ(K:PySem.W.Frag):List V->Hp->VK->Prop:=λvs H Q=>∃(a:Addr) (ns:List Int),vs=[V.ref a]/\SqL K H a (ns.map V.int)/\Q (.int ns.sum) H
theorem u7(hc:X.calm=true):gE X (.builtin "sum") (zZ X.K):=by
 intro pins s σ H vs us Q I r h;obtain⟨a,ns,rfl,hs,q⟩:=h;obtain⟨its,rv,hl,_⟩:=I.list hs;rw[aH.ref1 r];exact E4 (I.ok.hd hc) hl.isList rv.ints λh' tk t' hk=>⟨.int _,H,I.kept hk,⟨_,rfl⟩,q⟩
end
theorem wj{l:Addr}{items:Array Value}(hl:s.heap.IsList l items)
  (h:∀s₂:Shared,s₂={s with heap:=s.heap.push {cls:=.type "list_iterator",data:=.fields #[.ref l,.int 0 0]} }->
   (s₂.heap.IsListIter s.heap.objs.size l 0/\s₂.heap.IsList l items)->l≠s.heap.objs.size->Q (.ref s.heap.objs.size) s₂):wpAny (model prog w) A (pyIter (.ref l)) Q E s:=by
 have hlt:l<s.heap.objs.size:=by obtain⟨_,e,_⟩:=hl;exact bp e
 exact tL hl (h _ rfl ⟨⟨_,cn _ rfl,rfl,rfl⟩,hl.push _⟩ (cy hlt))
theorem wg{bs:List Bool}(e:its=bs.map Value.bool):
  TruthOf prog w A (λi v=>its.toArray[i]?=some v) (λi=>bs.getD i false):=λi v s Q E hv hq=>by
 have hv':its[i]?=some v:=by simpa using hv
 rw[e,bY]at hv';obtain⟨b,hb,rfl⟩:=Option.map_eq_some_iff.mp hv';have hg:bs.getD i false=b:=by rw[du,hb]<;>rfl
 have hq':Q (bs.getD i false) s:=hq;rw[hg]at hq';exact gY hq'
theorem yN:∀bs:List Bool,(List.range bs.length).any (λi=>bs.getD i false)=bs.any id
 | []=>rfl
 |b::bs=>by
  rw[List.length_cons,List.range_succ_eq_map,qg,qh,qg,←yN bs];all_goals rfl
theorem uN:∀bs:List Bool,(List.range bs.length).all (λi=>bs.getD i false)=bs.all id
 | []=>rfl
 |b::bs=>by
  rw[List.length_cons,List.range_succ_eq_map,kR,List.all_map,kR,←uN bs];all_goals rfl
section
variable{X:Cx}
def CU(K:PySem.W.Frag):List V->Hp->VK->Prop:=λvs H Q=>∃(a:Addr) (bs:List Bool),vs=[V.ref a]/\SqL K H a (bs.map V.bl)/\Q (.bl (bs.any id)) H
def Eh(K:PySem.W.Frag):List V->Hp->VK->Prop:=λvs H Q=>∃(a:Addr) (bs:List Bool),vs=[V.ref a]/\SqL K H a (bs.map V.bl)/\Q (.bl (bs.all id)) H
theorem nz(hc:X.calm=true):gE X (.builtin "any") (CU X.K):=by
 intro pins s σ H vs us Q I r h;obtain⟨a,bs,rfl,hs,q⟩:=h;obtain⟨its,rv,hl,_⟩:=I.list hs;rw[aH.ref1 r];have hb:=rv.bls;refine call_any_walk (wj hl.isList λs₂ e2 st hne=>?_);subst e2;refine⟨_,_,_,_,_,_,_,rfl,Walks.list (A:=X.A.in1) (I.ok.hd hc) _ a hne its.toArray,st,wg hb,λh' tk hk=>?_⟩;refine⟨.bl _,H,I.kept λb o eo=>hk b o (λhmem=>?_) (bJ _ eo),?_,q⟩
 ·rcases a9.mp hmem with e1|hmem
  ·exact absurd (e1▸bp eo) (fW _)
  ·cases hmem
 ·show Value.bool _=Value.bool _;rw[←yN,hb,cM,List.length_map]
theorem um(hc:X.calm=true):gE X (.builtin "all") (Eh X.K):=by
 intro pins s σ H vs us Q I r h;obtain⟨a,bs,rfl,hs,q⟩:=h;obtain⟨its,rv,hl,_⟩:=I.list hs;rw[aH.ref1 r];have hb:=rv.bls;refine call_all_walk (wj hl.isList λs₂ e2 st hne=>?_);subst e2;refine⟨_,_,_,_,_,_,_,rfl,Walks.list (A:=X.A.in1) (I.ok.hd hc) _ a hne its.toArray,st,wg hb,λh' tk hk=>?_⟩;refine⟨.bl _,H,I.kept λb o eo=>hk b o (λhmem=>?_) (bJ _ eo),?_,q⟩
 ·rcases a9.mp hmem with e1|hmem
  ·exact absurd (e1▸bp eo) (fW _)
  ·cases hmem
 ·show Value.bool _=Value.bool _;rw[←uN,hb,cM,List.length_map]
end
mutual
inductive Dp (K:PySem.W.Frag) (H:Hp):V->PyData->Prop
 |non:Dp K H .non .none
 |bl (b:Bool):Dp K H (.bl b) (.bool b)
 |int (i:Int):Dp K H (.int i) (.int i)
 |str (x:Str):Dp K H (.str x) (.str x)
 |lst {a:Addr} {xs:List V} {ds:List PyData}:SqL K H a xs->ke K H xs ds->Dp K H (.ref a) (.list ds)
 |tup {a:Addr} {xs:List V} {ds:List PyData}:bo K H a xs->ke K H xs ds->Dp K H (.ref a) (.tuple ds)
inductive ke (K:PySem.W.Frag) (H:Hp):List V->List PyData->Prop
 |nil:ke K H [] []
 |cons {v:V} {vs:List V} {d:PyData} {ds:List PyData}:Dp K H v d->ke K H vs ds->ke K H (v::vs) (d::ds)
end
section
variable{X:Cx}{pins:List (Addr×Obj)}{σ:St}{H:Hp}{s:Shared}
mutual
theorem Dp.reads (I:ae X pins σ H s):∀(d:PyData) (v:V) (u:Value),Dp X.K H v d->aT v u->∃as,Reads s.heap u d as
 |.none,_,_,h,r=>by
  cases h;cases r;exact⟨_,Reads.none⟩
 |.bool b,_,_,h,r=>by
  cases h;cases r;exact⟨_,Reads.bool b⟩
 |.int i,_,_,h,r=>by
  cases h;obtain⟨t,rfl⟩:=r;exact⟨_,Reads.int i t⟩
 |.str x,_,_,h,r=>by
  cases h;obtain⟨t,rfl⟩:=r;exact⟨_,Reads.str x t⟩
 |.list ds,_,_,h,r=>by
  cases h with
  |lst hs ha=>
   cases r;obtain⟨its,rv,⟨o,n,ho,hc,_,hd⟩,_⟩:=I.list hs;obtain⟨as,hr⟩:=Dp.readsAll I ds _ its ha rv;exact⟨_,Reads.list ho hc hd hr⟩
 |.tuple ds,_,_,h,r=>by
  cases h with
  |tup hs ha=>
   cases r;obtain⟨its,rv,⟨o,ho,hc,n,hd⟩,_⟩:=I.tuple hs;obtain⟨as,hr⟩:=Dp.readsAll I ds _ its ha rv;exact⟨_,Reads.tuple ho hc hd hr⟩
 |.dict _,_,_,h,_=>by cases h
theorem Dp.readsAll (I:ae X pins σ H s):∀(ds:List PyData) (vs:List V) (us:List Value),ke X.K H vs ds->aH vs us->∃as,ReadsAll s.heap us ds as
 | [],_,_,h,r=>by
  cases h;cases r;exact⟨_,ReadsAll.nil⟩
 |d::ds,_,_,h,r=>by
  cases h with
  |cons h1 h2=>
   cases r with
   |cons r1 r2=>
    obtain⟨as,q1⟩:=Dp.reads I d _ _ h1 r1;obtain⟨bs,q2⟩:=Dp.readsAll I ds _ _ h2 r2;exact⟨_,ReadsAll.cons q1 q2⟩
end
end
section
variable{X:Cx}
def zV(K:PySem.W.Frag):R2:=λx y H Q=>∃d e,Dp K H x d/\Dp K H y e/\SeqAt.shaped d=true/\SeqAt.shaped e=true/\Q (.bl (PyData.eqv d e)) H
def AM(K:PySem.W.Frag):R2:=λx y H Q=>∃d e,Dp K H x d/\Dp K H y e/\SeqAt.shaped d=true/\SeqAt.shaped e=true/\Q (.bl (!PyData.eqv d e)) H
theorem DO(hu:X.A.units+64<cLine):cO X (compareOp .Eq) (zV X.K):=by
 intro pins s σ H x y v u Q I rx ry h;obtain⟨d,e,hd,he,sd,se,q⟩:=h;obtain⟨as,r1⟩:=Dp.reads I d x v hd rx;obtain⟨bs,r2⟩:=Dp.reads I e y u he ry;exact SeqAt.compareEq_shaped r1 r2 sd se hu ⟨.bl _,H,I,rfl,q⟩
theorem Da(hu:X.A.units+64<cLine):cO X (compareOp .NotEq) (AM X.K):=by
 intro pins s σ H x y v u Q I rx ry h;obtain⟨d,e,hd,he,sd,se,q⟩:=h;obtain⟨as,r1⟩:=Dp.reads I d x v hd rx;obtain⟨bs,r2⟩:=Dp.reads I e y u he ry;exact SeqAt.compareNe_shaped r1 r2 sd se hu ⟨.bl _,H,I,rfl,q⟩
end
abbrev xt(h:Heap)(c:Addr)(v:Option Value):Prop:=h.IsCell c v
def EL(scope sc:Scope):Scope:=
 {scope with names:=scope.names.map λ(n,k)=>if(k==.free&&sc.kind==.function&&sc.names.lookup n==some .cell)then(n,.cell)else(n,k)}
def dB(cells:List (Str×Addr)):List (Str×NameKind)->List (Str×Addr)->List (Str×Addr)
 | [],acc=>acc
 |(n,k)::r,acc=>if k==.free then dB cells r ((n,(cells.lookup n).getD 0)::acc)else dB cells r acc
theorem yG(env:Env)(f:Str×NameKind->List (Str×Addr)->Sem (ForInStep (List (Str×Addr))))
  (hf:∀n k c,f (n,k) c=if k==.free then(do let a←cellOf env n;pure (.yield ((n,a)::c)))else pure (.yield c)):
  ∀(names:List (Str×NameKind)) (acc:List (Str×Addr)),(∀y∈names,y.2= .free->∃c,env.cells.lookup y.1=some c)->forIn names acc f=pure (dB env.cells names acc)
 | [],acc,_=>by rw[kY];rfl
 |(n,k)::r,acc,h=>by
  rw[kZ,hf];have ih:=λacc=>yG env f hf r acc λy hy=>h y (List.mem_cons_of_mem _ hy);unfold dB;by_cases hk:(k==NameKind.free)=true
  ·rw[if_pos hk,if_pos hk];obtain⟨c,hc⟩:=h (n,k) List.mem_cons_self (by simpa using hk);have e:cellOf env n=pure c:=by unfold cellOf;rw[hc]
   rw[e];have e2:(env.cells.lookup n).getD 0=c:=by rw[hc];rfl
   rw[e2];exact ih _
  ·rw[if_neg hk,if_neg hk];exact ih _
theorem Ca(h:∀y∈scope.names,y.2= .free->∃c,env.cells.lookup y.1=some c):closureFor scope env=pure (dB env.cells scope.names []):=by
 simp only[closureFor];rw[yG env _ (λn k c=>rfl) scope.names [] h];rfl
theorem rV{α:Type}:∀{l:List (Str×α)} {n:Str} {c:α},(n,c)∈l->∃c',l.lookup n=some c'
 |(k,v)::r,n,c,h=>by
  rw[k9];cases hb:n==k with
  |true=>exact⟨_,rfl⟩
  |false=>
   rcases a9.mp h with e|h
   ·cases e;simp at hb
   ·exact rV h
theorem nZ{cells:List (Str×Addr)}:∀{names:List (Str×NameKind)} {acc:List (Str×Addr)} {n:Str} {c:Addr},(n,c)∈dB cells names acc->(n,c)∈acc∨((n,.free)∈names/\c=(cells.lookup n).getD 0)
 | [],_,_,_,h=>.inl h
 |(m,k)::r,acc,n,c,h=>by
  unfold dB at h;split at h
  ·rename_i hk;have hk:k= .free:=by simpa using hk
   rcases nZ h with h|⟨h1,h2⟩
   ·rcases a9.mp h with e|h
    ·cases e;exact .inr ⟨hk▸List.mem_cons_self,rfl⟩
    ·exact .inl h
   ·exact .inr ⟨List.mem_cons_of_mem _ h1,h2⟩
  ·rcases nZ h with h|⟨h1,h2⟩
   ·exact .inl h
   ·exact .inr ⟨List.mem_cons_of_mem _ h1,h2⟩
theorem sI{cells:List (Str×Addr)}:∀{names:List (Str×NameKind)} {acc:List (Str×Addr)} {p:Str×Addr},p∈acc->p∈dB cells names acc
 | [],_,_,h=>h
 |(m,k)::r,acc,p,h=>by
  unfold dB;split
  ·exact sI (List.mem_cons_of_mem _ h)
  ·exact sI h
theorem qX{cells:List (Str×Addr)}:∀{names:List (Str×NameKind)} {acc:List (Str×Addr)} {n:Str},(n,.free)∈names->(n,(cells.lookup n).getD 0)∈dB cells names acc
 |(m,k)::r,acc,n,h=>by
  unfold dB;rcases a9.mp h with e|h
  ·cases e;exact sI List.mem_cons_self
  ·split
   ·exact qX h
   ·exact qX h
theorem mP:∀{names:List (Str×NameKind)} {h:Heap} {acc:List (Str×Addr)} {x:Str} {c:Addr},(x,c)∈cellsFrom h.objs.size names acc->
  (x,c)∈acc∨((x,.cell)∈names/\h.objs.size<=c/\xt (pushCells h names) c none)
 | [],_,_,_,_,h=>.inl h
 |(n,k)::r,h,acc,x,c,hm=>by
  unfold cellsFrom at hm;unfold pushCells;split at hm
  ·rename_i hk;rw[if_pos hk];have hk:k= .cell:=by simpa using hk
   rw[←dU h {cls:=.type "cell",data:=.cell none}]at hm;rcases mP hm with hm|⟨h1,h2,h3⟩
   ·rcases a9.mp hm with e|hm
    ·cases e;exact .inr ⟨hk▸List.mem_cons_self,aJ _,_,tR r _ _ _ (cn _ rfl),rfl⟩
    ·exact .inl hm
   ·rw[dU]at h2;exact .inr ⟨List.mem_cons_of_mem _ h1,tS h2,h3⟩
  ·rename_i hk;rw[if_neg hk];rcases mP hm with hm|⟨h1,h2,h3⟩
   ·exact .inl hm
   ·exact .inr ⟨List.mem_cons_of_mem _ h1,h2,h3⟩
theorem nN:∀{names:List (Str×NameKind)} {n:Nat} {acc:List (Str×Addr)} {p:Str×Addr},p∈acc->p∈cellsFrom n names acc
 | [],_,_,_,h=>h
 |(m,k)::r,n,acc,p,h=>by
  unfold cellsFrom;split
  ·exact nN (List.mem_cons_of_mem _ h)
  ·exact nN h
theorem qJ:∀{names:List (Str×NameKind)} {n:Nat} {acc:List (Str×Addr)} {x:Str},(x,.cell)∈names->∃c,(x,c)∈cellsFrom n names acc
 |(m,k)::r,n,acc,x,h=>by
  unfold cellsFrom;rcases a9.mp h with e|h
  ·cases e;exact⟨n,nN List.mem_cons_self⟩
  ·split
   ·exact qJ h
   ·exact qJ h
theorem sR:∀{names:List (Str×NameKind)} {h:Heap} {acc:List (Str×Addr)} {x y:Str} {c:Addr},(∀p∈acc,p.2<h.objs.size)->(∀x y c,(x,c)∈acc->(y,c)∈acc->x=y)->
  (x,c)∈cellsFrom h.objs.size names acc->(y,c)∈cellsFrom h.objs.size names acc->x=y
 | [],_,_,_,_,_,_,hi,h1,h2=>hi _ _ _ h1 h2
 |(n,k)::r,h,acc,x,y,c,hl,hi,h1,h2=>by
  unfold cellsFrom at h1 h2;split at h1
  ·rename_i hk;rw[if_pos hk]at h2;rw[←dU h {cls:=.type "cell",data:=.cell none}]at h1 h2;refine sR (h:=h.push _) (λp hp=>?_) (λx y c a b=>?_) h1 h2
   ·rw[dU];rcases a9.mp hp with rfl|hp
    ·exact qa _
    ·exact lg (hl p hp)
   ·rcases a9.mp a with e|a<;>rcases a9.mp b with e'|b
    ·cases e;cases e';rfl
    ·cases e;exact absurd (hl _ b) (fW _)
    ·cases e';exact absurd (hl _ a) (fW _)
    ·exact hi _ _ _ a b
  ·rename_i hk;rw[if_neg hk]at h2;exact sR hl hi h1 h2
theorem Dl{globals:Addr}{closure:List (Str×Addr)}{func:Option Addr}{code:Value}{around:Env}{builtins:Addr}{Q:Env->Shared->Prop}
  (h:Q (newEnv scope s.heap.objs.size globals (cellsFrom (s.heap.objs.size+1) scope.names closure) qual func code (some around) builtins)
   {s with heap:=pushCells (s.heap.push {cls:=.type "dict",data:=.dict #[]}) scope.names}):
  wpAny M A (newFunctionEnv scope globals closure [] qual func code (some around) builtins) Q E s:=by
 simp only[newFunctionEnv,Option.isSome_some,fU];refine aa (wpAny_alloc ?_);refine aa (wpAny_layCells _ (λn k c=>rfl) scope.names closure _ _ ?_);rw[show({s with heap:=s.heap.push {cls:=.type "dict",data:=.dict #[]} }:Shared).heap.objs.size=s.heap.objs.size+1 from dU ..];rw[kY];exact aa (ah (ah h))
theorem sA{sc:Scope}:∀{names:List (Str×NameKind)} {x:Str} {k:NameKind},
  (names.map λ(n,k)=>if(k==NameKind.free&&sc.kind==.function&&sc.names.lookup n==some .cell)then(n,NameKind.cell)else(n,k)).lookup x=some k->
  ∃k',names.lookup x=some k'/\(k=k'∨(k'= .free/\k= .cell))
 | [],_,_,h=>by simp at h
 |(n,k₀)::r,x,k,h=>by
  have ih:=@sA sc r x k;have h':List.lookup x ((if(k₀==NameKind.free&&sc.kind==.function&&sc.names.lookup n==some .cell)=true then(n,NameKind.cell)else(n,k₀))::(r.map _))=some k:=h;cases hx:x==n with
  |true=>
   simp only[k9,hx];by_cases hc:(k₀==NameKind.free&&sc.kind==.function&&sc.names.lookup n==some .cell)=true
   ·rw[if_pos hc]at h';simp only[k9,hx]at h';cases h';simp only[dH,d9]at hc;exact⟨k₀,rfl,.inr ⟨hc.1.1,rfl⟩⟩
   ·rw[if_neg hc]at h';simp only[k9,hx]at h';cases h';exact⟨_,rfl,.inl rfl⟩
  |false=>
   simp only[k9,hx];by_cases hc:(k₀==NameKind.free&&sc.kind==.function&&sc.names.lookup n==some .cell)=true
   ·rw[if_pos hc]at h';simp only[k9,hx]at h';exact ih h'
   ·rw[if_neg hc]at h';simp only[k9,hx]at h';exact ih h'
structure lC(N:List Str)(sc scope:Scope)(own:List (Str×Nat)):Prop where
 kind:scope.kind= .function
 uniq:∀y∈scope.names,scope.names.lookup y.1=some y.2
 ix:∀p∈own,N[p.2]?=some p.1
 free:∀y∈scope.names,y.2= .free->sc.names.lookup y.1=some .cell∨sc.names.lookup y.1=some .free
 own:∀y∈scope.names,y.2= .local∨y.2= .cell->y.1∈own.map (·.1)∨y.1∉N
def dO(σ:St):List Nat->St
 | []=>σ
 |v::vs=>(dO σ vs).set v none
theorem qt(σ:St):∀vs:List Nat,(dO σ vs).length=σ.length
 | []=>rfl
 |v::vs=>by unfold dO;rw[List.length_set,qt σ vs]
theorem sT{σ:St}{i:Nat}{x:V}:∀{vs:List Nat},(dO σ vs)[i]?=some (some x)->σ[i]?=some (some x)/\i∉vs
 | [],h=>⟨h,by simp⟩
 |v::vs,h=>by
  unfold dO at h;by_cases hi:v=i
  ·subst hi;by_cases hv:v<(dO σ vs).length
   ·rw[y4 hv]at h;cases h
   ·rw[yO (by simpa using hv)]at h;cases h
  ·rw[y6 hi]at h;obtain⟨h1,h2⟩:=sT h;exact⟨h1,by simp only[a9,dI];exact⟨λe=>hi e.symm,h2⟩⟩
abbrev Cx.blk(X:Cx)(s:Shared)(H:Hp)(scope:Scope)(cenv:Env)(fp:List Addr):Cx:={X with s_0:=s,H_0:=H,env:=cenv,outer:=X.stack,ex:=fp,fn:=λx=>scope.names.lookup x==some .cell,pn:=[],xe:=λ_ _=>False}
section
variable{X:Cx}{pins:List (Addr×Obj)}{σ:St}{H:Hp}{s:Shared}
theorem Af{own:List (Str×Nat)}(I:ae X pins σ H s)(ok:lC X.N X.env.scope scope own)(hN:X.N.Nodup)(hfp:∀b∈fp,gd X pins H b/\b<s.heap.objs.size):
  ae (X.blk s H scope (compEnvC scope (cellsFrom (s.heap.objs.size+1) scope.names (dB X.env.cells scope.names [])) s.heap.objs.size X.env) fp) [] (dO σ (own.map (·.2))) H {s with heap:=pushCells (s.heap.push {cls:=.type "dict",data:=.dict #[]}) scope.names}:=by
 have hfree:∀y∈scope.names,y.2= .free->∃c,X.env.cells.lookup y.1=some c:=λy hy e=>by
  rcases ok.free y hy e with k|k
  ·exact I.ok.has _ (.inl k)
  ·exact I.ok.has _ (.inr k)
 generalize hcenv:compEnvC scope (cellsFrom (s.heap.objs.size+1) scope.names (dB X.env.cells scope.names [])) s.heap.objs.size X.env=cenv;have kp:∀b o,s.heap.get? b=some o->(pushCells (s.heap.push {cls:=.type "dict",data:=.dict #[]}) scope.names).get? b=some o:=λb o e=>tR _ _ _ _ (bJ _ e);have hL:cenv.locals=s.heap.objs.size:=by rw[←hcenv];rfl
 have hcl:cenv.cells=cellsFrom (s.heap.objs.size+1) scope.names (dB X.env.cells scope.names []):=by rw[←hcenv];rfl
 have hsc:cenv.scope=EL scope X.env.scope:=by rw[←hcenv];rfl
 rw[←dU s.heap {cls:=.type "dict",data:=.dict #[]}]at hcl;have cm:∀{y c},(y,c)∈dB X.env.cells scope.names []->X.env.cells.lookup y=some c/\c<s.heap.objs.size:=λ{y c} hm=>by
  rcases nZ hm with hm|⟨h1,rfl⟩
  ·cases hm
  ·obtain⟨c,hc⟩:=hfree _ h1 rfl;rw[hc];obtain⟨w,z⟩:=I.cell _ _ hc;exact⟨rfl,z.lt⟩
 have mem:∀{y c},cenv.cells.lookup y=some c->(X.env.cells.lookup y=some c/\c<s.heap.objs.size)∨(s.heap.objs.size+1<=c/\xt (pushCells (s.heap.push {cls:=.type "dict",data:=.dict #[]}) scope.names) c none):=λ{y c} e=>by
  rw[hcl]at e;rcases mP (fk e)with hm|⟨_,h2,h3⟩
  ·exact .inl (cm hm)
  ·rw[dU]at h2;exact .inr ⟨h2,h3⟩
 have look:∀{y},scope.names.lookup y=some .free->∃c,cenv.cells.lookup y=some c/\X.env.cells.lookup y=some c:=λ{y} hl=>by
  have hy:(y,NameKind.free)∈scope.names:=fk hl;obtain⟨c',e'⟩:=rV (nN (names:=scope.names) (n:=(s.heap.push {cls:=.type "dict",data:=.dict #[]}).objs.size) (qX (cells:=X.env.cells) (acc:=[]) hy));rw[←hcl]at e';refine⟨c',e',?_⟩;rw[hcl]at e';rcases mP (fk e')with hm|⟨h1,_,_⟩
  ·exact(cm hm).1
  ·have:=ok.uniq _ h1;rw[hl]at this;cases this
 have fP:(X.blk s H scope cenv fp).Ok:=by
  refine⟨I.ok.mod,by show cenv.scope.kind=_;rw[hsc];exact ok.kind,by show cenv.globals=_;rw[←hcenv];exact I.ok.glob,by show cenv.builtins=_;rw[←hcenv];exact I.ok.blt,by show s.heap.objs.size<=cenv.locals;rw[hL];exact aJ _,
   λy z c e1 e2=>?_,λy hy=>?_,λy c z e=>?_,I.ok.hd,I.ok.frames,.inl rfl,λb hb=>⟨?_,λy c e z=>?_⟩,I.bs,dw I.ok.bsz I.sz,λb o e hb=>?_,λb hb z=>?_,I.stack,I.stkFree⟩
  ·have e1:cenv.cells.lookup y=some c:=e1;have e2:cenv.cells.lookup z=some c:=e2;rw[hcl]at e1 e2;refine sR (λp hp=>?_) (λy z c a b=>I.ok.inj y z c (cm a).1 (cm b).1) (fk e1) (fk e2);rw[dU];exact lg (cm (y:=p.1) (c:=p.2) hp).2
  ·show∃c,cenv.cells.lookup y=some c;have key:∀k,cenv.kindOf y=some k->(k= .cell∨k= .free)->∃c,cenv.cells.lookup y=some c:=λk hk hk'=>by
    unfold Env.kindOf at hk;rw[hsc]at hk;obtain⟨k',e,r⟩:=sA hk;have:k'= .cell∨k'= .free:=by
     rcases r with rfl|⟨rfl,_⟩
     ·exact hk'
     ·exact .inr rfl
    rcases this with rfl|rfl
    ·obtain⟨c,hm⟩:=qJ (n:=(s.heap.push {cls:=.type "dict",data:=.dict #[]}).objs.size) (acc:=dB X.env.cells scope.names []) (fk e);obtain⟨c',e'⟩:=rV hm;exact⟨c',by rw[hcl];exact e'⟩
    ·obtain⟨c,h1,_⟩:=look e;exact⟨c,h1⟩
   rcases hy with hy|hy
   ·exact key _ hy (.inl rfl)
   ·exact key _ hy (.inr rfl)
  ·have z:(scope.names.lookup y==some NameKind.cell)=true:=z;have z:scope.names.lookup y=some .cell:=by simpa using z
   have e:cenv.cells.lookup y=some c:=e;rw[hcl]at e;rcases mP (fk e)with hm|⟨_,h2,_⟩
   ·rcases nZ hm with hm|⟨h1,_⟩
    ·cases hm
    ·have q:=ok.uniq _ h1;rw[z]at q;cases q
   ·rw[dU]at h2;exact tS h2
  ·show b≠cenv.locals;rw[hL];exact cy (hfp b hb).2
  ·have e:cenv.cells.lookup y=some c:=e;rcases mem e with⟨h1,_⟩|⟨h1,_⟩
   ·exact(hfp b hb).1.2.2.2.2.1 y c h1 z
   ·have h2:s.heap.objs.size+1<=b:=by rw[←z];exact h1
    exact absurd (dN (hfp b hb).2 (tS h2)) (fW _)
  ·rcases(hfp b hb).1.2.2.2.1 with z|z
   ·exact I.ok.noex b o e z
   ·exact absurd (dN (bp e) (dw I.ok.bsz z)) (fW _)
  ·rcases a9.mp (I.stkSub b z)with z|z
   ·exact(hfp b hb).1.2.1 z
   ·exact(hfp b hb).1.2.2.1 z
 refine⟨fP,rfl,I.bare,Un.kept kp,⟨λ_=>none,?_,λi y av e1 e2 e3=>?_⟩,λy c e=>?_,?_,λy c e=>?_,λp hp=>?_,I.hok.kept kp,by rw[qt];exact I.len⟩
 ·show Heap.Ns _ cenv.locals _;rw[hL];exact Heap.Ns.keeps (Heap.Ns.new ..) λb o e=>tR _ _ _ _ e
 ·obtain⟨e2,hne⟩:=sT e2;have hfr:scope.names.lookup y=some .free/\(cenv.kindOf y=some .cell∨cenv.kindOf y=some .free):=by
   have key:∀k,cenv.scope.names.lookup y=some k->k= .local∨k= .cell∨k= .free->scope.names.lookup y=some .free/\(cenv.kindOf y=some .cell∨cenv.kindOf y=some .free):=λk hk hk'=>by
    have hk0:=hk;rw[hsc]at hk;obtain⟨k',e,r⟩:=sA hk;have no:¬(k'= .local∨k'= .cell):=λhh=>by
     rcases ok.own _ (fk e) hh with e'|e'
     ·obtain⟨p,hp,hpy⟩:=bh.mp e';have e3:=ok.ix p hp;have:p.1=y:=hpy;rw[this]at e3;exact hne (bh.mpr ⟨p,hp,qy hN e3 e1⟩)
     ·exact e' (cE e1)
    rcases r with rfl|⟨rfl,rfl⟩
    ·rcases hk' with rfl|rfl|rfl
     ·exact absurd (.inl rfl) no
     ·exact absurd (.inr rfl) no
     ·exact⟨e,.inr hk0⟩
    ·exact⟨e,.inl hk0⟩
   have e3:lF cenv.scope y:=e3;rcases e3 with e3|e3|e3
   ·exact key _ e3 (.inl rfl)
   ·exact key _ e3 (.inr (.inl rfl))
   ·exact key _ e3 (.inr (.inr rfl))
  obtain⟨m,hn,hl⟩:=I.loc;have hvis:lF X.env.scope y:=(ok.free _ (fk hfr.1) rfl).elim (λk=>.inr (.inl k)) (λk=>.inr (.inr k));obtain⟨w,r,q⟩:=hl i y av e1 e2 hvis;refine⟨w,r,.inr ⟨hfr.2,?_⟩⟩;obtain⟨c,h1,h2⟩:=look hfr.1;rcases q with⟨k,_⟩|⟨_,c',e',z⟩
  ·have k:X.env.scope.names.lookup y=some .local:=k;rcases ok.free _ (fk hfr.1) rfl with k'|k'<;>rw[show X.env.scope.names.lookup y=_ from k']at k<;>cases k
  ·rw[h2]at e';cases e';exact⟨c,h1,z.keeps kp⟩
 ·have e:cenv.cells.lookup y=some c:=e;rcases mem e with⟨h1,_⟩|⟨_,z⟩
  ·obtain⟨w,z⟩:=I.cell y c h1;exact⟨w,z.keeps kp⟩
  ·exact⟨_,z⟩
 ·show H cenv.locals=none;rw[hL];exact I.hok.fresh (aJ _)
 ·have e:cenv.cells.lookup y=some c:=e;rcases mem e with⟨h1,_⟩|⟨h1,_⟩
  ·exact I.freeC y c h1
  ·exact I.hok.fresh (tS h1)
 ·exact absurd (show p∈([]:List (Addr×Obj))++[]from hp) (by simp)
theorem En{D:Addr}{xs:List V}(I:ae X pins σ H s)(hD:H D=some (.lst xs))(hz:xs.length<sizeLine)(r:aT y v)
  (h:∀s',ae X pins σ (upd H D (.lst (xs++[y]))) s'->Q .none s'):wpAny (model X.prog X.w) X.A (call (.builtin "list.append") [.ref D,v]) Q E s:=by
 obtain⟨hz',its,n,ri,e⟩:=I.hok D _ hD;have hl:=ri.length;refine append_at (hsz:=by rw[cM];omega) e λh' sb ho'=>?_;refine h {s with heap:=h'} (I.write (t':=s.toks) (by rw[hD];trivial) (.inl rfl) (λb u hb q=>(sb.2 b hb).trans q) ⟨_,ho'⟩ ⟨by rw[df];exact hz,its++[v],n+1,ri.append (.cons r .nil),?_⟩);rw[ho'];simp
def lr(X:Cx)(ifs:List Expr)(t:TT):Prop:=
 ∀(pins:List (Addr×Obj)) (s:Shared) (σ:St) (H:Hp) (Q:Bool->Hp->Prop),ae X pins σ H s->t σ H Q->
  wpAny (model X.prog X.w) X.A (forIn ifs true λc r=>if r=true then do let ok←isTrue c X.env (eval c X.env);pure (ForInStep.yield ok)else pure (ForInStep.yield r)) (TP X pins σ Q) X.xe s
def zC:TT:=λ_ H Q=>Q true H
theorem i3:lr X [] zC:=λ_ _ _ H _ I h=>wpAny_tests_nil ⟨H,I,h⟩
theorem hU{t:TT}(h:PT X c t):lr X [c] t:=λpins s σ H Q I hw=>wpAny_tests_one (h pins s σ H Q I hw)
end
theorem j1{α:Type}{t:Sem α}{Q Q':α->Shared->Prop}(h:wpAny M A t Q (λ_ _=>False) s)(hQ:∀a s,Q a s->Q' a s):wpAny M A t Q' E s:=eX h hQ λ_ _ z=>False.elim z
theorem Dm{R:Result->Shared->Prop}{target:Expr}{it acc:Value}(I:Nat->Shared->Prop)
  (turn:∀n s,I n s->wpAny (model prog w) A (pyNext it) (λr s₁=>match r with
   |none=>R (.ok .next) s₁
   |some v=>wpAny (model prog w) A (letOwnedTupleGo target it v) (λ_ s₁'=>wpAny (model prog w) A (assign target env v) (λ_ s₂=>
     wpAny (model prog w) A (forIn ifs true λc r=>if r=true then do let ok←isTrue c env (eval c env);pure (ForInStep.yield ok)else pure (ForInStep.yield r)) (λok s₃=>
      if ok=true then wpAny (model prog w) A (eval elt env) (λx s₄=>
       wpAny (model prog w) A (call (.builtin "list.append") [acc,x]) (λ_ s₅=>∃m,m<n/\I m s₅) (notedBy (model prog w) A env λe s'=>R (.error e) s') s₄) (notedBy (model prog w) A env λe s'=>R (.error e) s') s₃
      else∃m,m<n/\I m s₃) (notedBy (model prog w) A env λe s'=>R (.error e) s') s₂) (notedBy (model prog w) A env λe s'=>R (.error e) s') s₁') (notedBy (model prog w) A env λe s'=>R (.error e) s') s₁) (notedBy (model prog w) A env λe s'=>R (.error e) s') s)
  (n:Nat) (h:I n s):
  codeAny (model prog w) A (.compLoop (.ListComp elt [⟨target,iter,ifs,0⟩] scope pos) 0 it acc env) R s:=by
 refine codeAny_loop rfl I (λn s hI=>?_) n h;show wpAny _ A ((compTurn (.ListComp elt [⟨target,iter,ifs,0⟩] scope pos) 0 it acc env).onRaise (λx=>do noteFrame x env;theTreesLotGoes x)) _ _ s;refine wpAny_noted ?_;rw[compTurn_list];refine aa (p9 (aa (eX (turn n s hI) (λr s₁ h₁=>?_) λ_ _ h'=>h')));cases r with
 |none=>exact ah h₁
 |some v=>
  refine aa (eX h₁ (λ_ s₁' h₁'=>?_) λ_ _ h'=>h');refine aa (eX h₁' (λ_ s₂ h₂=>aa (eX h₂ (λok s₃ h₃=>?_) λ_ _ h'=>h')) λ_ _ h'=>h');cases ok with
  |false=>exact ah ⟨rfl,h₃⟩
  |true=>
   exact aa (aa (eX h₃ (λx s₄ h₄=>aa (eX h₄ (λ_ s₅ h₅=>ah (ah ⟨rfl,h₅⟩)) λ_ _ h'=>h')) λ_ _ h'=>h'))
section
variable{X:Cx}
def pd(wi:TI)(g:TG)(tt:TT)(te:TE)(vs:List Nat):TE:=λσ H Q=>wi σ H λJ H1=>∀D,H1 D=none->∃W:Nat->Nat->Hp->Prop,(∃m,W 0 m (upd H1 D (.lst [])))/\∀i m H,W i m H->
 (J.stop i H/\Q (.ref D) H)∨(J.go i H/\∃Nx:Hp->Prop,(∀H',Nx H'->∃m',m'<m/\W (i+1) m' H')/\∀x H',J.yld i H x H'->g x (dO σ vs) H' λσ2 H2=>dO σ2 vs=dO σ vs/\tt σ2 H2 λb H3=>
  if b=true then te σ2 H3 λy H4=>∃acc,H4 D=some (.lst acc)/\acc.length<sizeLine/\Nx (upd H4 D (.lst (acc++[y])))else Nx H3)
theorem w6{Q:VK}{own:List (Str×Nat)}{pos':Pos}{use:Option (Value->Sem Unit)}{Qf:Value->Shared->Prop}
  (hc:X.calm=true) (hN:X.N.Nodup) (I:ae X pins σ H s) (hi:PI X tg iter wi) (ok:lC X.N X.env.scope scope own)
  (hg:∀(s:Shared) (H:Hp) (C:Addr) (cl:List (Str×Addr)) (fp:List Addr),PG (X.blk s H scope (compEnvC scope cl C X.env) fp) tg g) (ht:∀(s:Shared) (H:Hp) (C:Addr) (cl:List (Str×Addr)) (fp:List Addr),lr (X.blk s H scope (compEnvC scope cl C X.env) fp) ifs tt)
  (he:∀(s:Shared) (H:Hp) (C:Addr) (cl:List (Str×Addr)) (fp:List Addr),PE (X.blk s H scope (compEnvC scope cl C X.env) fp) elt te) (hs:∀x,foldedSetIterable iter X.env x=pure x)
  (h:pd wi g tt te (own.map (·.2)) σ H Q)
  (hRR:∀D C s' m H',ae X pins σ H' s'->Q (.ref D) H'->s'.heap.Ns C m->gd X pins H' C->compPost (model X.prog X.w) X.A X.xe use Qf (.ref D) C (.ok .next) s'):
  wpAny (model X.prog X.w) X.A (comprehension (.ListComp elt [⟨tg,iter,ifs,0⟩] scope pos) scope X.env pos' (newList []) false (eval iter X.env) use) Qf X.xe s:=by
 have hfree:∀y∈scope.names,y.2= .free->∃c,X.env.cells.lookup y.1=some c:=λy hy e=>by
  rcases ok.free y hy e with k|k
  ·exact I.ok.has _ (.inl k)
  ·exact I.ok.has _ (.inr k)
 refine wpAny_comprehension_free (use:=use) rfl hs (Ca hfree) ok.kind (λy hy e=>by rw[ok.uniq y hy,e])
  (aI (hi pins s σ H _ I h) λxv s1 hx=>aI hx λitv s2 h2=>?_)
 obtain⟨it,fp,tn,J,H2,e,I2,T,st2,f2,q⟩:=h2;subst e;refine gK (Dl ?_) (by show 0<=sizeLine;decide);generalize hD:s2.heap.objs.size=D;have hDn:H2 D=none:=I2.hok.fresh (pS hD);obtain⟨W,⟨m0,w0⟩,turn⟩:=q D hDn;generalize hs3:({s2 with heap:=s2.heap.push {cls:=.type "list",data:=.seq ([]:List Value).toArray} }:Shared)=s3;have I3:ae X pins σ (upd H2 D (.lst [])) s3:=by
  rw[←hs3];refine I2.laid (t':=s2.toks) (λb o e=>bJ _ e) (pS hD) ⟨da _,[],0,.nil,?_⟩;rw[←hD];exact cn _ rfl
 have h3:s3.heap=s2.heap.push {cls:=.type "list",data:=.seq ([]:List Value).toArray}:=by rw[←hs3]
 have sz:∀b∈fp,b<s2.heap.objs.size:=λb hb=>by
  obtain⟨o,e,_⟩:=T.obj _ _ st2 b hb;exact bp e
 have f3:∀b∈fp,gd X pins (upd H2 D (.lst [])) b/\b<s3.heap.objs.size:=λb hb=>by
  have hlt:=sz b hb;refine⟨⟨?_,(f2 b hb).2⟩,by rw[h3,dU];exact lg hlt⟩;rw[ag (by rw[←hD];exact cy hlt)];exact(f2 b hb).1
 have st3:tn 0 s3.heap:=T.keep _ _ _ st2 λb _ o e=>by rw[h3];exact bJ _ e
 have I4:=Af I3 ok hN f3;have pg:=hg s3 (upd H2 D (.lst [])) s3.heap.objs.size (cellsFrom (s3.heap.objs.size+1) scope.names (dB X.env.cells scope.names [])) fp;have pt:=ht s3 (upd H2 D (.lst [])) s3.heap.objs.size (cellsFrom (s3.heap.objs.size+1) scope.names (dB X.env.cells scope.names [])) fp;have pe:=he s3 (upd H2 D (.lst [])) s3.heap.objs.size (cellsFrom (s3.heap.objs.size+1) scope.names (dB X.env.cells scope.names [])) fp;show codeAny _ _ (.compStart (.ListComp elt [⟨tg,iter,ifs,0⟩] scope pos) 0 (.ref it) (.ref D) (compEnvC scope (cellsFrom (s3.heap.objs.size+1) scope.names (dB X.env.cells scope.names [])) s3.heap.objs.size X.env)) (compPost (model X.prog X.w) X.A X.xe use Qf (.ref D) s3.heap.objs.size) {s3 with heap:=pushCells (s3.heap.push {cls:=.type "dict",data:=.dict #[]}) scope.names};have nfp:∀b∈fp,(upd H2 D (.lst [])) b=none:=λb hb=>(f3 b hb).1.1;generalize hce:compEnvC scope (cellsFrom (s3.heap.objs.size+1) scope.names (dB X.env.cells scope.names [])) s3.heap.objs.size X.env=ce at I4 pg pt pe⊢;have cL:ce.locals=s3.heap.objs.size:=by subst hce;rfl
 generalize hH3:upd H2 D (.lst [])=H3 at I3 I4 pg pt pe w0 nfp f3;generalize hs4:({s3 with heap:=pushCells (s3.heap.push {cls:=.type "dict",data:=.dict #[]}) scope.names}:Shared)=s4 at I4⊢;have st4:tn 0 s4.heap:=T.keep _ _ _ st3 λb _ o e=>by rw[←hs4];exact tR _ _ _ _ (bJ _ e)
 have stat:∀{σ':St} {H':Hp} {s':Shared},ae (X.blk s3 H3 scope ce fp) [] σ' H' s'->(∀b∈fp,H' b=none)->∀b∈fp,gd (X.blk s3 H3 scope ce fp) [] H' b:=λ{σ' H' s'} I' hn b hb=>
  ⟨hn b hb,(I'.ok.exf b hb).1,I'.ok.exfs b hb,.inl hb,λx c e=>(I'.ok.exf b hb).2 x c e,λp hp=>absurd (show p∈([]:List (Addr×Obj))++[]from hp) (by simp)⟩
 have loop:codeAny (model X.prog X.w) X.A (.compLoop (.ListComp elt [⟨tg,iter,ifs,0⟩] scope pos) 0 (.ref it) (.ref D) ce) (compPost (model X.prog X.w) X.A X.xe use Qf (.ref D) s3.heap.objs.size) s4:=by
  refine Dm (λn s'=>∃i H',ae (X.blk s3 H3 scope ce fp) [] (dO σ (own.map (·.2))) H' s'/\tn i s'.heap/\(∀b∈fp,H' b=none)/\W i n H') ?_ m0 ⟨0,H3,I4,st4,nfp,w0⟩;rintro n s5 ⟨i,H5,I5,st5,n5,w5⟩;rcases turn i n H5 w5 with⟨stop,qq⟩|⟨go,Nx,hNx,step⟩
  ·have td:=T.done (X.blk s3 H3 scope ce fp) rfl rfl rfl hc i [] s5 _ H5 (λ_ _=>False) I5 (stat I5 n5) st5 stop;refine j1 td λr s6 ⟨hr,I6⟩=>?_;subst hr;have I7:ae X pins σ H5 s6:=I3.call' (ch:=fp) I6.os I6.base I6.hok I6.bare λb hb=>⟨(f3 b hb).1.2.2.2.1,(f3 b hb).1.2.1,(f3 b hb).1.2.2.2.2.1,(f3 b hb).1.2.2.2.2.2⟩;have nC:H5 s3.heap.objs.size=none:=by
    have z:H5 ce.locals=none:=I6.free;rw[cL]at z;exact z
   obtain⟨m,hn,_⟩:=I6.loc;have hn:s6.heap.Ns ce.locals m:=hn;rw[cL]at hn;exact hRR D s3.heap.objs.size s6 m H5 I7 qq hn (I3.fpOk (aJ _) nC)
  ·have ti:=T.item (X.blk s3 H3 scope ce fp) rfl rfl rfl hc i [] s5 _ H5 (λ_ _=>False) I5 (stat I5 n5) st5 go;refine j1 ti λr s6 ⟨u,hr,h6⟩=>?_;subst hr;refine j1 h6 λ_ s7 ⟨x,H7,I7,r7,y7,st7,n7⟩=>?_;have I7':=I7.pinned (stat I7 n7) (T.obj _ _ st7);refine j1 (pg _ s7 _ H7 x u _ I7' r7 (step x H7 y7)) λ_ s8 ⟨σ8,H8,I8,hw8,q8⟩=>?_;refine j1 (pt _ s8 σ8 H8 _ I8 q8) λb s9 ⟨H9,I9,q9⟩=>?_;have fin:∀{s':Shared} {H':Hp},ae (X.blk s3 H3 scope ce fp) ([]++lG fp s7.heap) σ8 H' s'->Nx H'->∃m,m<n/\∃i H',ae (X.blk s3 H3 scope ce fp) [] (dO σ (own.map (·.2))) H' s'/\tn i s'.heap/\(∀b∈fp,H' b=none)/\W i m H':=λ{s' H'} I' nx=>by
    obtain⟨m',hm,w'⟩:=hNx H' nx;have pin':∀b∈fp,∀o,s7.heap.get? b=some o->s'.heap.get? b=some o/\H' b=none:=λb hb o e=>
     let z:=I'.pin (b,o) (jf _ (jf _ (rP hb e)))
     ⟨z.1,z.2.1⟩
    have hl:(dO σ (own.map (·.2))).length=σ8.length:=by rw[←hw8,qt]
    refine⟨m',hm,i+1,H',(I'.unpinned (pins:=[])).weak hl (λj v e=>?_),T.keep _ _ _ st7 λb hb o e=>(pin' b hb o e).1,λb hb=>?_,w'⟩
    ·rw[←hw8]at e;exact(sT e).1
    ·obtain⟨o,e,_⟩:=T.obj _ _ st7 b hb;exact(pin' b hb o e).2
   cases b with
   |false=>
    simp only[eW,dC]at q9⊢;exact fin I9 q9
   |true=>
    simp only[fU]at q9⊢;refine j1 (pe _ s9 σ8 H9 _ I9 q9) λz s10 ⟨yv,H10,I10,r10,acc,hD10,hz10,nx⟩=>?_;exact En (X:=X.blk s3 H3 scope ce fp) I10 hD10 hz10 r10 λs11 I11=>fin I11 nx
 exact codeAny_compStart_list loop (T.self X.A 0 _ _ _ st4 loop)
theorem eG{own:List (Str×Nat)}(hc:X.calm=true)(hN:X.N.Nodup)(hi:PI X tg iter wi)(ok:lC X.N X.env.scope scope own)
  (hg:∀(s:Shared) (H:Hp) (C:Addr) (cl:List (Str×Addr)) (fp:List Addr),PG (X.blk s H scope (compEnvC scope cl C X.env) fp) tg g) (ht:∀(s:Shared) (H:Hp) (C:Addr) (cl:List (Str×Addr)) (fp:List Addr),lr (X.blk s H scope (compEnvC scope cl C X.env) fp) ifs tt)
  (he:∀(s:Shared) (H:Hp) (C:Addr) (cl:List (Str×Addr)) (fp:List Addr),PE (X.blk s H scope (compEnvC scope cl C X.env) fp) elt te) (hs:∀x,foldedSetIterable iter X.env x=pure x:=by intro _;rfl):
  PE X (.ListComp elt [⟨tg,iter,ifs,0⟩] scope pos) (pd wi g tt te (own.map (·.2))):=by
 intro pins s σ H Q I h;rw[eval_ListComp];refine w6 hc hN I hi ok hg ht he hs h λD C s' m H' I' q hn f=>⟨m,hn,λh'' sb=>?_⟩;obtain⟨f0,f1,f2,f3,f4,f5⟩:=f;exact⟨.ref D,H',I'.turned (t':=s'.toks) (λb o hb e=>(sb.2 b hb).trans e) f0 f1 f3 f4 f5,rfl,q⟩
theorem zY{y:Str}{py:Pos}{own:List (Str×Nat)}{spos:Pos}(hc:X.calm=true)(hN:X.N.Nodup)(hy:X.N[i]?=some y)(hyl:X.env.scope.names.lookup y=some .local)
  (hsw:swapsWith (.ListComp elt [⟨tg,iter,ifs,0⟩] scope pos) (some (.Name y py)) spos.line X.env=pure true) (hi:PI X tg iter wi) (ok:lC X.N X.env.scope scope own)
  (hg:∀(s:Shared) (H:Hp) (C:Addr) (cl:List (Str×Addr)) (fp:List Addr),PG (X.blk s H scope (compEnvC scope cl C X.env) fp) tg g) (ht:∀(s:Shared) (H:Hp) (C:Addr) (cl:List (Str×Addr)) (fp:List Addr),lr (X.blk s H scope (compEnvC scope cl C X.env) fp) ifs tt)
  (he:∀(s:Shared) (H:Hp) (C:Addr) (cl:List (Str×Addr)) (fp:List Addr),PE (X.blk s H scope (compEnvC scope cl C X.env) fp) elt te) (hs:∀x,foldedSetIterable iter X.env x=pure x:=by intro _;rfl):
  PS X (.Assign [.Name y py] (.ListComp elt [⟨tg,iter,ifs,0⟩] scope pos) spos) (sj (pd wi g tt te (own.map (·.2))) (oH i)):=by
 intro pins s σ H D I h;rw[exec_Assign_Name_used _ _ _ _ hsw];refine aa (p9 (aa ?_));show wpAny _ X.A (do let _←comprehension (.ListComp elt [⟨tg,iter,ifs,0⟩] scope pos) scope X.env (firstIterPos [⟨tg,iter,ifs,0⟩] pos) (newList []) false (eval iter X.env) (some (assign (.Name y py) X.env))) _ _ s;have h:pd wi g tt te (own.map (·.2)) σ H (λx H1=>oH i x σ H1 D.nx):=h;refine aa (aI (w6 (Qf:=λ_ s'=>SP X pins D .next s') hc hN I hi ok hg ht he hs h λL C s' m H' I' q hn f=>?_) λ_ s' hq=>ah (ah hq));show wpAny _ _ (assign (.Name y py) X.env (.ref L)) _ _ _;refine wpAny_assign_Name (xE (v:=V.ref L) I' hN hy (.inl hyl) rfl (λs2 I2 ⟨a,sb,ha⟩=>?_) (.inr hyl));obtain⟨f0,f1,f2,f3,f4,f5⟩:=f;have haC:C≠a:=by
  rcases ha with z|z
  ·rw[z];exact f1
  ·exact λe=>f4 y a z e.symm
 refine⟨m,hn.sameBut sb haC,λh3 sb3=>?_⟩;exact⟨_,H',I2.turned (t':=s2.toks) (λb o hb e=>(sb3.2 b hb).trans e) f0 f1 f3 f4 f5,q⟩
end
def yk(N:List Str)(sc scope:Scope)(own:List (Str×Nat)):Bool:=
 (match scope.kind with|.function=>true|_=>false)&&(scope.names.all λy=>decide (scope.names.lookup y.1=some y.2))&&(own.all λp=>decide (N[p.2]?=some p.1))&&
  (scope.names.all λy=>match y.2 with
   |.free=>(match sc.names.lookup y.1 with|some .cell=>true|some .free=>true|_=>false)
   |.local=>decide (y.1∈own.map (·.1))||decide (y.1∉N)
   |.cell=>decide (y.1∈own.map (·.1))||decide (y.1∉N)
   |_=>true)
theorem eB{own:List (Str×Nat)}(h:yk N sc scope own=true):lC N sc scope own:=by
 unfold yk at h;simp only[dH,jc,sZ]at h;obtain⟨⟨⟨h1,h2⟩,h3⟩,h4⟩:=h;refine⟨?_,h2,h3,λy hy e=>?_,λy hy e=>?_⟩
 ·split at h1
  ·assumption
  ·cases h1
 ·have q:=h4 y hy;simp only[e]at q;split at q<;>first|exact .inl (by assumption)|exact .inr (by assumption)|cases q
 ·have q:=h4 y hy;rcases e with e|e<;>(simp only[e,pU,sZ]at q;exact q)
section
variable{κ:Type}[DecidableEq κ]
def aE(kvs:List (κ×V))(k:κ):Option V:=(kvs.find? λkv=>decide (kv.1=k)).map (·.2)
def bt(kvs:List (κ×V))(k:κ)(v:V):List (κ×V):=
 if(kvs.any λkv=>decide (kv.1=k))=true then kvs.map (λkv=>if kv.1=k then(kv.1,v)else kv)else kvs++[(k,v)]
def bK(kvs:List (κ×V))(k:κ):List (κ×V):=kvs.filter λkv=>decide (kv.1≠k)
theorem fg{p:κ×V}{r:List (κ×V)}{k:κ}(e:p.1=k):aE (p::r) k=some p.2:=by simp[aE,mR,e]
theorem eJ{p:κ×V}{r:List (κ×V)}{k:κ}(e:¬p.1=k):aE (p::r) k=aE r k:=by simp[aE,mR,e]
theorem i4(k:κ):∀kvs:List (κ×V),(kvs.any λkv=>decide (kv.1=k))=(aE kvs k).isSome
 | []=>rfl
 |p::r=>by
  rw[qg];by_cases e:p.1=k
  ·simp only[fg e,aO e,Bool.true_or,Option.isSome_some]
  ·rw[eJ e,ba e,Bool.false_or];exact i4 k r
theorem ue(k j:κ)(y:V):∀kvs:List (κ×V),aE (kvs.map λkv=>if kv.1=k then(kv.1,y)else kv) j=(aE kvs j).map λx=>if j=k then y else x
 | []=>rfl
 |p::r=>by
  have ih:=ue k j y r;rw[aW];by_cases h:p.1=k
  ·rw[if_pos h];by_cases e:p.1=j
   ·rw[fg (p:=(p.1,y)) e,fg e,mV,if_pos (e.symm.trans h)]
   ·rw[eJ (p:=(p.1,y)) e,eJ e,ih]
  ·rw[if_neg h];by_cases e:p.1=j
   ·rw[fg (p:=p) e,fg e,mV,if_neg (λz=>h (e.trans z))]
   ·rw[eJ (p:=p) e,eJ e,ih]
theorem vc(k j:κ)(y:V):∀kvs:List (κ×V),aE kvs k=none->aE (kvs++[(k,y)]) j=if j=k then some y else aE kvs j
 | [],_=>by
  by_cases e:k=j
  ·rw[if_pos e.symm];exact fg (p:=(k,y)) e
  ·rw[if_neg (λz=>e z.symm)];exact eJ (p:=(k,y)) e
 |p::r,hn=>by
  rw[yR];have hk:¬p.1=k:=λz=>by rw[fg z]at hn;cases hn
  rw[eJ hk]at hn;have ih:=vc k j y r hn;by_cases e:p.1=j
  ·rw[fg e,fg e,if_neg (λz=>hk (e.trans z))]
  ·rw[eJ e,eJ e,ih]
theorem oA(kvs:List (κ×V))(k j:κ)(y:V):aE (bt kvs k y) j=if j=k then some y else aE kvs j:=by
 unfold bt;by_cases a:(kvs.any λkv=>decide (kv.1=k))=true
 ·rw[if_pos a,ue];rw[i4]at a;by_cases e:j=k
  ·obtain⟨x,hx⟩:=mQ.mp a;rw[if_pos e,e,hx,mV,if_pos rfl]
  ·rw[if_neg e];cases aE kvs j with
   |none=>rfl
   |some x=>rw[mV,if_neg e]
 ·rw[if_neg a];refine vc k j y kvs ?_;rw[i4]at a;cases q:aE kvs k with
  |none=>rfl
  |some x=>rw[q]at a;exact(a rfl).elim
theorem Ar(kvs:List (κ×V))(k:κ)(v:V):(bt kvs k v).length<=kvs.length+1:=by
 unfold bt;split
 ·rw[List.length_map];omega
 ·rw[df,List.length_cons,List.length_nil];omega
theorem lU{kvs:List (κ×V)}{k:κ}(v:V)(h:aE kvs k=none):bt kvs k v=kvs++[(k,v)]:=by
 unfold bt;rw[i4,h];exact if_neg (by decide)
theorem dW.isSome_eq{o:Option V}{u:Option Value}(r:dW o u):o.isSome=u.isSome:=by
 cases o with
 |none=>cases u with
  |none=>rfl
  |some _=>exact(show False from r).elim
 |some _=>cases u with
  |none=>exact(show False from r).elim
  |some _=>rfl
theorem dW.getD{o:Option V}{u:Option Value}{d:V}{d':Value}(r:dW o u)(rd:aT d d'):aT (o.getD d) (u.getD d'):=by
 cases o with
 |none=>cases u with
  |none=>exact rd
  |some _=>exact(show False from r).elim
 |some _=>cases u with
  |none=>exact(show False from r).elim
  |some _=>exact r
theorem Fx(kvs:List (κ×V))(k:κ):(bK kvs k).length<=kvs.length:=fX _ _
end
theorem CY{k:dh}(r:aT (kV k) u):(ed P w).is k u=true:=by
 cases k with
 |inl i=>obtain⟨t,e⟩:=(show∃t,u=Value.int i t from r);subst e;exact BV P w i t
 |inr x=>obtain⟨t,e⟩:=(show∃t,u=Value.str x t from r);subst e;exact AK P w x t
theorem xc{P:Program}{w:World}:∀{ks:List dh} {us:List Value},aH (ks.map kV) us->ItemsAre (ed P w) ks us
 | [],_,r=>by rw[List.map_nil]at r;cases r;exact .nil
 |k::ks,_,r=>by
  rw[aW]at r;cases r with
  |cons h t=>exact .cons (CY h) (xc t)
section
variable{P:Program}{w:World}{H:Hp}{h:Heap}{a:Addr}
theorem FK{ks:List dh}(ok:cg P w H h)(e:H a=some (.tup (ks.map kV))):(tupleKind (ed P w)).is h ks a:=by
 obtain⟨_,its,r,o,h1,h2,n,h3⟩:=(show cQ P w H h a (.tup (ks.map kV))from ok a _ e);exact⟨o,its.toArray,n,h1,h2,h3,by simpa using xc r⟩
end
section
variable{X:Cx}{pins:List (Addr×Obj)}{σ:St}{H:Hp}{s:Shared}{a:Addr}{y v:V}{u r:Value}{o:Option V}{A:Around}{E:Value->Shared->Prop}
theorem ae.big(I:ae X pins σ H s):sysModules<s.heap.objs.size:=by
 have h:mainGlobals<s.heap.objs.size:=(I.mod.glob.keeps I.bk).lt;exact qi (by decide) h
end
def sU(i:Expr):Prop:=∀ov iv,subscripted i false ov iv=operate [ov,iv] (getItem ov iv)
theorem yD{value slice:Expr}{T id:String}
  (hl:typeLookup (.type T) "__getitem__"=pure (some (.builtin id))) (hs:sU slice)
  (h:wpAny (model prog w) A (eval value env) (λo s₁=>wpAny (model prog w) A (eval slice env) (λi s₂=>s₂.TypeIs o T/\wpAny (model prog w) A (getItem o i) Q E s₂) E s₁) E s):
  wpAny (model prog w) A (eval (.Subscript value slice pos) env) Q E s:=by
 refine Subscript_ (eX h (λo s₁ h₁=>eX h₁ (λi s₂ h₂=>?_) λ_ _ x=>x) λ_ _ x=>x);obtain⟨hT,h₂⟩:=h₂;unfold subscriptTail;refine aa ?_;rw[getitemInPython_of_ne hT.not_modules];refine aa (p0 hT hl ?_);have fin:wpAny (model prog w) A (subscripted slice false o i) (λr s₃=>wpAny (model prog w) A (letTemporaryGo value o r >>= λ_=>pure r) Q E s₃) E s₂:=by
  rw[hs o i];exact wpAny_operating (eX h₂ (λr s₃ h₃=>aa (wpAny_letTemporaryGo (ah h₃))) λ_ _ x=>x)
 first
  |exact ah (aa fin)
  |exact aa (ah (aa fin))
  |exact aa fin
def xK:List (TE×TE)->St->Hp->(List (V×V)->Hp->Prop)->Prop
 | [],_,H,Q=>Q [] H
 |(tk,tv)::r,σ,H,Q=>tk σ H λx H1=>tv σ H1 λy H2=>xK r σ H2 λps H3=>Q ((x,y)::ps) H3
abbrev VV:List (V×V)->List (Value×Value)->Prop:=Paired λp q=>aT p.1 q.1/\aT p.2 q.2
def oU(X:Cx)(pos:Pos)(keys:List (Option Expr))(values:List Expr)(trs:List (TE×TE)):Prop:=
 ∀(pins:List (Addr×Obj)) (s:Shared) (σ:St) (H:Hp) (Q:List (V×V)->Hp->Prop),ae X pins σ H s->xK trs σ H Q->
  wpAny (model X.prog X.w) X.A (evalPairs (pairTrees keys values X.env pos)) (λvs s'=>∃ps H',ae X pins σ H' s'/\VV ps vs/\Q ps H') X.xe s
theorem A8:oU X pos [] [] []:=λpins s σ H Q I h=>pairTrees_nil_walk ⟨[],H,I,.nil,h⟩
theorem Fo{k v:Expr}{ks:List (Option Expr)}{vs:List Expr}{tk tv:TE}{trs:List (TE×TE)}(hk:PE X k tk)(hv:PE X v tv)(hr:oU X pos ks vs trs):
  oU X pos (some k::ks) (v::vs) ((tk,tv)::trs):=λpins s σ H Q I h=>
 pairTrees_cons_walk (aI (hk pins s σ H _ I h) λu s1 ⟨x,H1,I1,rx,q1⟩=>aI (hv pins s1 σ H1 _ I1 q1) λw2 s2 ⟨y,H2,I2,ry,q2⟩=>
  aI (hr pins s2 σ H2 _ I2 q2) λws s3 ⟨ps,H3,I3,rel,q3⟩=>⟨(x,y)::ps,H3,I3,.cons ⟨rx,ry⟩ rel,q3⟩)
structure M1(X:Cx)(o:Expr)(m:Str)(apos:Pos)(e:Expr)(cpos:Pos):Prop where
 base:attributeBase o m X.env (eval o X.env)=eval o X.env
 few:((backTo cpos (starEach [e] X.env)).all (λx=>!x.1)&&(backToKw cpos (keywordEach [] X.env)).all (λx=>x.1.isSome)
  &&decide (([e]:List Expr).length+ ([]:List Keyword).length+ (if([]:List Keyword).isEmpty then 0 else 1)<30))=true
 line:(apos.endLine==cpos.line)=true
 trees:backTo cpos (starEach [e] X.env)=[(false,eval e X.env)]
structure M2(X:Cx)(o:Expr)(m:Str)(apos:Pos)(e f:Expr)(cpos:Pos):Prop where
 base:attributeBase o m X.env (eval o X.env)=eval o X.env
 few:((backTo cpos (starEach [e,f] X.env)).all (λx=>!x.1)&&(backToKw cpos (keywordEach [] X.env)).all (λx=>x.1.isSome)
  &&decide (([e,f]:List Expr).length+ ([]:List Keyword).length+ (if([]:List Keyword).isEmpty then 0 else 1)<30))=true
 line:(apos.endLine==cpos.line)=true
 trees:backTo cpos (starEach [e,f] X.env)=[(false,eval e X.env),(false,eval f X.env)]
theorem DZ:bootBuiltins "reversed"=some (.type "reversed"):=by decide +kernel
section
variable{X:Cx}{pins:List (Addr×Obj)}{σ:St}{H:Hp}{s:Shared}{h':Heap}
theorem ae.turnedL(I:ae X pins σ H s)(k:∀b o,b∉ch->s.heap.get? b=some o->h'.get? b=some o)(hf:∀b∈ch,gd X pins H b):ae X pins σ H {s with heap:=h',toks:=t'}:=by
 have nit:∀b u,H b=some u->b∉ch:=λb u e z=>by
  have q:=(hf b z).1;rw[q]at e;cases e
 refine I.step (g':=s.gens) (d':=s.drawn) (ch:=ch) (λb hb=>⟨(hf b hb).2.2.2.1,(hf b hb).2.1,(hf b hb).2.2.2.2.1,(hf b hb).2.2.2.2.2⟩) (λb o _ _ hc e _=>k b o hc e) (λb o _ _ hc e _=>⟨o.slots,k b o hc e⟩)
  (λ_ _ _ _ n=>n) (λb o hc e=>⟨o,k b o hc e⟩) (λ_ _ e=>e) (λ_ _ _ e=>e) (λb ps e=>⟨#[],by rw[e];simp⟩) (λm hm=>?_) (λb u e=>?_) I.bare
 ·obtain⟨o,es,ep,ho,r⟩:=hm;exact⟨o,es,ep,k _ o (λz=>(hf _ z).2.1 rfl) ho,r⟩
 ·refine(I.hok b u e).stay (λc v hc q=>k c v ?_ q) (λ_ q=>q) λ_ _ q=>q;rcases hc with z|z
  ·rw[z];exact nit b u e
  ·exact nit c _ z
theorem ae.turnedNew{T:Addr}{ob:HO}(I:ae X pins σ H s)(k:∀b o,b∉ch->s.heap.get? b=some o->h'.get? b=some o)(hf:∀b∈ch,gd X pins H b)(hT:s.heap.objs.size<=T)
  (new:cQ X.prog X.w (upd H T ob) h' T ob):ae X pins σ (upd H T ob) {s with heap:=h',toks:=t'}:=by
 have hn:H T=none:=I.hok.fresh hT;have nit:∀b u,H b=some u->b∉ch:=λb u e z=>by
  have q:=(hf b z).1;rw[q]at e;cases e
 refine I.step (g':=s.gens) (d':=s.drawn) (ch:=ch) (λb hb=>⟨(hf b hb).2.2.2.1,(hf b hb).2.1,(hf b hb).2.2.2.2.1,(hf b hb).2.2.2.2.2⟩) (λb o _ _ hc e _=>k b o hc e) (λb o _ _ hc e _=>⟨o.slots,k b o hc e⟩)
  (λb o _ e n=>?_) (λb o hc e=>⟨o,k b o hc e⟩) (λb xs e=>?_) (λb o u e=>?_) (λb ps e=>⟨#[],?_⟩) (λm hm=>?_) (λb u e=>?_) I.bare
 ·rw[ag (cy (dN (bp e) hT))];exact n
 ·rw[ag (ay e hn)];exact e
 ·rw[ag (ay e hn)];exact e
 ·rw[ag (ay e hn),e];simp
 ·obtain⟨o,es,ep,ho,r⟩:=hm;exact⟨o,es,ep,k _ o (λz=>(hf _ z).2.1 rfl) ho,r⟩
 ·by_cases hb:b=T
  ·subst hb;rw[ao]at e;cases e;exact new
  ·rw[ag hb]at e;refine(I.hok b u e).stay (λc v hc q=>k c v ?_ q) (λc q=>by rw[ag (ay q hn)];exact q) λc xs q=>by rw[ag (ay q hn)];exact q
   rcases hc with z|z
   ·rw[z];exact nit b u e
   ·exact nit c _ z
theorem ae.lock{u:HO}(I:ae X pins σ H s)(h:H d=some u)(mu:iI (some u)):∃od,ae X pins σ (upd H d (.frz od u)) s:=by
 have x:=I.hok d u h;have ex:∃od,s.heap.get? d=some od:=by
  cases u with
  |lst xs=>obtain⟨_,_,_,_,e⟩:=x;exact⟨_,e⟩
  |dK kvs=>obtain⟨_,_,_,_,o,_,_,e,_⟩:=x;exact⟨o,e⟩
  |dT kvs=>obtain⟨_,_,_,_,o,_,_,e,_⟩:=x;exact⟨o,e⟩
  |dM kvs=>obtain⟨_,_,_,_,o,_,_,e,_⟩:=x;exact⟨o,e⟩
  |set S n=>obtain⟨o,_,_,_,e,_⟩:=x;exact⟨o,e⟩
  |ins C dx fs=>obtain⟨_,_,_,e,_⟩:=x;exact⟨_,e⟩
  |ext φ=>obtain⟨_,⟨_,e⟩,_⟩:=x;exact⟨_,e⟩
  |_=>exact False.elim mu
 obtain⟨od,e⟩:=ex;have new:cQ X.prog X.w (upd H d (.frz od u)) s.heap d (.frz od u):=by
  refine⟨e,x.stay (λb v _ q=>q) (λb q=>?_) λb xs q=>?_⟩
  ·rw[ag (λz=>by rw[z,h]at q;cases q;exact mu)];exact q
  ·rw[ag (λz=>by rw[z,h]at q;cases q;exact mu)];exact q
 exact⟨od,I.write (x:=d) (e:=d) (t':=s.toks) (h':=s.heap) (by rw[h];exact mu) (.inl rfl) (λb v _ q=>q) ⟨od,e⟩ new⟩
theorem ae.nofrz{u:HO}(I:ae X pins σ H s)(h:H d=some u)(mu:iI (some u)):∀o' u',X.H_0 d≠some (.frz o' u'):=λo' u' e=>by
 have q:=I.base.frzs d o' u' e;rw[h]at q;cases q;exact mu
theorem ae.unlock{u:HO}(I:ae X pins σ H s)(h:H d=some (.frz od u))(hn:∀o' u',X.H_0 d≠some (.frz o' u')):ae X pins σ (upd H d u) s:=by
 have neH:∀b o,H b=some o->(∀o' u',o≠.frz o' u')->b≠d:=λb o e hne z=>by
  rw[z,h]at e;cases e;exact hne _ _ rfl
 have neN:∀b,H b=none->b≠d:=λb e z=>by rw[z,h]at e;cases e
 refine⟨I.ok,I.os,I.bare,⟨I.base.keep,I.base.slot,λb o e n hx=>?_,I.base.there,λb xs e=>?_,λb o x e=>?_,λb ps e=>?_⟩,I.loc,I.cell,?_,λx c e=>?_,λp hp=>?_,λb o e=>?_,I.len⟩
 ·rw[ag (neN b (I.base.free b o e n hx))];exact I.base.free b o e n hx
 ·have q:=I.base.tups b xs e;rw[ag (neH b _ q (λ_ _ z=>nomatch z))];exact q
 ·have q:=I.base.frzs b o x e;rw[ag (λz=>by rw[z]at e;exact hn _ _ e)];exact q
 ·obtain⟨m,q⟩:=I.base.tbls b ps e;exact⟨m,by rw[ag (neH b _ q (λ_ _ z=>nomatch z))];exact q⟩
 ·rw[ag (neN _ I.free)];exact I.free
 ·rw[ag (neN c (I.freeC x c e))];exact I.freeC x c e
 ·obtain⟨e,n,r⟩:=I.pin p hp;exact⟨e,by rw[ag (neN _ n)];exact n,r⟩
 ·by_cases hb:b=d
  ·rw[hb,ao]at e;cases e;rw[hb];obtain⟨_,x⟩:=I.hok d _ h;exact x.stay (λc v _ q=>q) (λc q=>by rw[ag (neH c _ q (λ_ _ z=>nomatch z))];exact q) λc xs q=>by rw[ag (neH c _ q (λ_ _ z=>nomatch z))];exact q
  ·rw[ag hb]at e;exact(I.hok b o e).stay (λc v _ q=>q) (λc q=>by rw[ag (neH c _ q (λ_ _ z=>nomatch z))];exact q) λc xs q=>by rw[ag (neH c _ q (λ_ _ z=>nomatch z))];exact q
end
def Ak(t:TS):TS:=λD σ H=>∃d u,H d=some u/\iI (some u)/\∀od,t ⟨λσ' H'=>H' d=some (.frz od u)/\D.nx σ' (upd H' d u),λv H'=>H' d=some (.frz od u)/\D.rt v (upd H' d u),λσ' H'=>H' d=some (.frz od u)/\D.bk σ' (upd H' d u),λσ' H'=>H' d=some (.frz od u)/\D.ct σ' (upd H' d u)⟩ σ (upd H d (.frz od u))
def Eg(t:TE):TE:=λσ H Q=>∃d u,H d=some u/\iI (some u)/\∀od,t σ (upd H d (.frz od u)) λv H'=>H' d=some (.frz od u)/\Q v (upd H' d u)
section
variable{X:Cx}
theorem Az{st:Stmt}{t:TS}(h:PS X st t):PS X st (Ak t):=by
 intro pins s σ H D I hw;obtain⟨d,u,hd,mu,hw⟩:=hw;obtain⟨od,I1⟩:=I.lock hd mu;refine aI (h pins s σ _ _ I1 (hw od)) λf s1 q=>?_;cases f with
 |next=>obtain⟨σ',H',I2,e,q⟩:=q;exact⟨σ',_,I2.unlock e (I.nofrz hd mu),q⟩
 |brk=>obtain⟨σ',H',I2,e,q⟩:=q;exact⟨σ',_,I2.unlock e (I.nofrz hd mu),q⟩
 |cont=>obtain⟨σ',H',I2,e,q⟩:=q;exact⟨σ',_,I2.unlock e (I.nofrz hd mu),q⟩
 |ret v=>obtain⟨x,σ',H',I2,r,e,q⟩:=q;exact⟨x,σ',_,I2.unlock e (I.nofrz hd mu),r,q⟩
theorem mh(h:PE X e t):PE X e (Eg t):=by
 intro pins s σ H Q I hw;obtain⟨d,u,hd,mu,hw⟩:=hw;obtain⟨od,I1⟩:=I.lock hd mu;refine aI (h pins s σ _ _ I1 (hw od)) λv s1 ⟨x,H1,I2,r,e2,q⟩=>?_;exact⟨x,_,I2.unlock e2 (I.nofrz hd mu),r,q⟩
theorem ou{R:It->Hp->Prop}{tn:Nat->Heap->Prop}(I:ae X pins σ H s)(o:Obj)
  (T:gW X.prog X.w X.K tg J [s.heap.objs.size] s.heap.objs.size tn) (st:tn 0 (s.heap.push o)) (q:R J H):pO X pins σ tg R (.ref s.heap.objs.size) {s with heap:=s.heap.push o,toks:=tk}:=by
 refine⟨s.heap.objs.size,[s.heap.objs.size],tn,J,H,rfl,I.kept λb ob e=>bJ _ e,T,st,λb hb=>?_,q⟩;have e:b=s.heap.objs.size:=by simpa using hb
 subst e;exact I.fpOk (aJ _) (I.hok.fresh (aJ _))
end
def xP(K:PySem.W.Frag)(a:Addr)(n:Nat):It:=
 ⟨λi H=>i<n/\∃(xs:List V) (x:V),SqL K H a xs/\xs[n-1-i]?=some x,λi H x H'=>H'=H/\∀xs,SqL K H a xs->xs[n-1-i]?=some x,λi _=>n<=i⟩
theorem AE{K:PySem.W.Frag}(a it:Addr)(n:Nat):gW P w K tg (xP K a n) [it] it (λi h=>i<=n/\h.IsRevIter it a ((n:Int)-1- (i:Nat)))where
 mem:=by simp
 obj:=λi h st b hb=>by
  have e:b=it:=by simpa using hb
  subst e;obtain⟨_,o,e,c,d⟩:=st;exact⟨o,e,λv z=>by rw[d]at z;cases z⟩
 keep:=λi h h' st k=>⟨st.1,st.2.at λo e=>k it (by simp) o e⟩
 item:=by
  intro X hP hw hK hc i pins s σ H E I hf st hg;subst hP hw hK;obtain⟨hin,xs,x,hq,hx⟩:=hg;obtain⟨its,rv,p,hz⟩:=I.list hq;obtain⟨u,hu,ru⟩:=rv.get hx;obtain⟨f0,f1,f2,f3,f4,f5⟩:=hf it (by simp);obtain⟨_,hit⟩:=st;have e1:(n:Int)-1- ((i:Nat):Int)=((n-1-i:Nat):Int):=by omega
  rw[e1]at hit;refine wpAny_pyNext_rev_item hit p.isList (x:=u) (by simpa using hu) λh' st' sb=>?_;have e2:((n-1-i:Nat):Int)-1=(n:Int)-1- ((i+1:Nat):Int):=by omega
  rw[e2]at st';have I1:ae X pins σ H {s with heap:=h'}:=I.turned (t':=s.toks) (λb o hb e=>(sb.2 b hb).trans e) f0 f1 f3 f4 f5;obtain⟨o,e,c,d⟩:=id st';exact⟨u,rfl,l7 (s:={s with heap:=h'}) e c d (by decide) ⟨x,H,I1,ru,⟨rfl,λys hy=>by rw[I.list_inj hy hq];exact hx⟩,⟨hin,st'⟩,λb hb=>(hf b hb).1⟩⟩
 done:=by
  intro X hP hw hK hc i pins s σ H E I hf st hg;subst hP hw hK;obtain⟨f0,f1,f2,f3,f4,f5⟩:=hf it (by simp);obtain⟨hin,hit⟩:=st;have hge:n<=i:=hg;have e1:(n:Int)-1- ((i:Nat):Int)=-1:=by omega
  rw[e1]at hit;exact wpAny_pyNext_rev_end (I.ok.hd hc) hit λh' eb=>⟨rfl,I.turned (t':=s.toks) (λb o hb e=>eb b o hb e) f0 f1 f3 f4 f5⟩
 self:=λA i s Q E st h=>wpAny_pyIter_revIter st.2 h
def Ff(K:PySem.W.Frag)(ta:TA):TI:=λσ H R=>ta σ H λvs H1=>∃(a:Addr) (xs:List V),vs=[.ref a]/\SqL K H1 a xs/\R (xP K a xs.length) H1
section
variable{X:Cx}{tg:Expr}
theorem EM(hg:Gl X "reversed")(hm:X.mg "reversed"=none)(ha:PA X [e] ta)(hs:starEach [e] X.env=[(false,eval e X.env)]:=by rfl):PI X tg (.Call (.Name "reversed" p) [e] [] pos) (Ff X.K ta):=by
 intro pins s σ H R I h;refine Call_ (iO I hg hm DZ (m4 (aI (ha pos pins s σ H _ I h) λus s1 ⟨vs,H1,I1,r1,q1⟩=>?_) hs rfl));obtain⟨a,xs,e,hq,q⟩:=q1;subst e;cases r1 with
 |cons r rr=>
  cases rr;cases r;obtain⟨its,rv,p',hz⟩:=I1.list hq;have hl:=rv.length;have e1:((its.toArray.size:Nat):Int)-1=(xs.length:Int)-1- ((0:Nat):Int):=by simp only[cM];omega
  refine call_reversed_list p'.isList (wpAny_pyIter_revIter (l:=a) (i:=((its.toArray.size:Nat):Int)-1) ⟨_,cn _ rfl,rfl,rfl⟩ ?_);refine ou (tk:=s1.toks) I1 _ (AE a _ xs.length) ⟨da _,?_⟩ q;rw[←e1];exact⟨_,cn _ rfl,rfl,rfl⟩
end
section
variable{prog:Program}{w:World}{A:Around}{E:Value->Shared->Prop}{s:Shared}
theorem qC(hd:(d==sysModules)=false)(ho:s.heap.get? d=some o)(hc:o.ExactDict)(hdat:o.data= .dict es ep)
  (hQ:Q (.ref s.heap.objs.size) {s with heap:=s.heap.push {cls:=.type "dict_keyiterator",data:=.fields #[.ref d,.int 0 0,.int es.size 0,.int ep 0]} }):
  wpAny (model prog w) A (pyIter (.ref d)) Q E s:=by
 have hT:s.TypeIs (.ref d) "dict":=⟨o,ho,hc.1⟩;refine zc hT yY (fV yY hT F.entry_dict_iter ?_ (F.args_dict_iter_1 _));unfold Builtin.«dict.__iter__»;refine aa ?_;unfold Builtin.Dict.dictSlotNone;refine aa (mX hT ?_);show wpAny _ _ (pure (Value.ref d)) _ _ s;refine ah ?_;show wpAny _ _ (Builtin.Dict.showsAll d >>= _) _ _ s;unfold Builtin.Dict.showsAll;rw[if_neg (by rw[hd];exact c0)];refine aa (ah ?_);refine aa (eM ho hdat ?_);refine aa (gj ho hdat ?_);refine aa (gK (ah ⟨_,rfl,"dict_keyiterator",_,⟨_,cn _ rfl,rfl⟩,m8.lookup,?_⟩));simpa[rawInt]using hQ
theorem wy{en:DictEntry}{Q:Option Value->Shared->Prop}(hit:s.heap.IsKeyIter it d i n ep)(hod:s.heap.get? d=some od)(hdd:od.data= .dict es ep)
  (hsz:es.size=n) (hx:es[i]?=some en) (hQ:∀h',h'.IsKeyIter it d (i+1) n ep->Heap.SameBut it s.heap h'->Q (some en.key) {s with heap:=h'}):wpAny (model prog w) A (pyNext (.ref it)) Q E s:=by
 obtain⟨o,ho,hc,hd⟩:=id hit;unfold pyNext;refine aa (jO (gZ (name:=Str.ofString "__next__") hit.typeIs m8
  (fV m8 hit.typeIs Gx ?_ (Gy _))))
 refine aa (ah ?_);refine aa ?_;refine aa ?_;first|refine aa (tT hit.typeIs (ah ?_))|refine aa (tU hit.typeIs (ah ?_))
 refine aa (tV ho hd ?_);have hown:Builtin.Dict_items.ownsTuple "dict_keyiterator"=false:=by decide
 simp only[hown,eW,dC];show wpAny _ _ (if(Value.ref d==Value.none)=true then _ else _) _ _ s;rw[if_neg (show¬((Value.ref d==Value.none)=true)from c0)];refine aa (ah ?_);refine aa (eM hod hdd ?_);rw[if_neg (by rw[hsz];simp)];refine aa (ah ?_);refine aa (gj hod hdd ?_);rw[if_neg (by simp)];refine ah ?_;obtain⟨hlt',hen⟩:=tW.mp hx;simp only[show¬((i:Int)<0)from by omega,dC,jg,zd hlt'];refine aa ?_;first|refine aa (tT hit.typeIs (ah ?_))|refine aa (tU hit.typeIs (ah ?_))
 refine aa (wpAny_isOneOf_keyiter hit.typeIs ?_);show wpAny _ _ (setField (.ref it) 1 (rawInt ((i:Int)+1)) >>= _) _ _ s;refine aa (m9 ho hd (by simp) ?_);have hit':(s.heap.update it (Obj.mapFields (·.setIfInBounds 1 (rawInt ((i:Int)+1))))).IsKeyIter it d (i+1) n ep:=
  ⟨_,gJ _ ho (ze (ng hd _)),(zf ..).trans hc,by rw[ng hd];simp[rawInt]⟩
 refine aa (dJ ?_);refine aa (wpAny_isOneOf_keyiter (s:={s with heap:=s.heap.update it (Obj.mapFields (·.setIfInBounds 1 (rawInt ((i:Int)+1))))}) hit'.typeIs ?_);show wpAny _ _ (pure es[i].key) _ _ _;rw[hen];exact ah (ah ⟨_,rfl,ah (hQ _ hit' (iy ..))⟩)
theorem yr{Q:Option Value->Shared->Prop}(hh:A.handled=none)(hit:s.heap.IsKeyIter it d i n ep)(hod:s.heap.get? d=some od)(hdd:od.data= .dict es ep)
  (hsz:es.size=n) (hge:n<=i) (hQ:∀h',Heap.ExtBut it s.heap h'->Q none {s with heap:=h'}):wpAny (model prog w) A (pyNext (.ref it)) Q E s:=by
 obtain⟨o,ho,hc,hd⟩:=id hit;unfold pyNext;refine aa (jO (gZ (name:=Str.ofString "__next__") hit.typeIs m8
  (fV m8 hit.typeIs Gx ?_ (Gy _))))
 refine aa (ah ?_);refine aa ?_;refine aa ?_;first|refine aa (tT hit.typeIs (ah ?_))|refine aa (tU hit.typeIs (ah ?_))
 refine aa (tV ho hd ?_);have hown:Builtin.Dict_items.ownsTuple "dict_keyiterator"=false:=by decide
 simp only[hown,eW,dC];show wpAny _ _ (if(Value.ref d==Value.none)=true then _ else _) _ _ s;rw[if_neg (show¬((Value.ref d==Value.none)=true)from c0)];refine aa (ah ?_);refine aa (eM hod hdd ?_);rw[if_neg (by rw[hsz];simp)];refine aa (ah ?_);refine aa (gj hod hdd ?_);rw[if_neg (by simp)];refine ah ?_;have hge':es.size<=i:=by rw[hsz];exact hge
 simp only[show¬((i:Int)<0)from by omega,dC,jg,Array.getElem?_eq_none hge'];refine aa ?_;first|refine aa (tT hit.typeIs (ah ?_))|refine aa (tU hit.typeIs (ah ?_))
 show wpAny _ _ (setField (.ref it) 0 .none >>= _) _ _ s;refine aa (m9 ho hd (by simp) ?_);show wpAny _ _ (newExc (.type "StopIteration") [] >>= _) _ _ _;refine aa ?_;simp only[newExc,newTuple];refine aa (gK ?_ (by size_fits));refine aa (m:=firstArgMember _ _) (qj (a:=Value.none) (by first|rfl|(simp only[firstArgMember];rfl)) ?_);refine gK ?_ (by size_fits);simp only[raiseNew];refine aa (wpAny_handled ?_);rw[show A.in1.handled=none from hh];refine aa (ah (wpAny_throw ?_));refine aa (p6 (T:="StopIteration") (b:=true) ⟨_,cn _ rfl,rfl⟩ isSubtype_stop ?_);exact ah (hQ _ (((iy ..).extBut.push _).push _))
end
theorem dX{α β:Type}{G:α->β->Prop}{l₁:List α}{l₂:List β}(h:Paired G l₁ l₂):∀{i:Nat} {a:α},l₁[i]?=some a->∃b,l₂[i]?=some b/\G a b:=by
 induction h with
 |nil=>intro i a e;simp at e
 |@cons a b l₁ l₂ r t ih=>
  intro i a' e;cases i with
  |zero=>
   simp only[List.getElem?_cons_zero,pZ]at e;subst e;exact⟨b,rfl,r⟩
  |succ j=>
   simp only[List.getElem?_cons_succ]at e⊢;exact ih e
theorem oI{es':Array DictEntry}{ep':Nat}(h:o.data= .dict es ep)(h':o.data= .dict es' ep'):es'=es/\ep'=ep:=by
 rw[h]at h';cases h';exact⟨rfl,rfl⟩
def vb(K:PySem.W.Frag)(a:Addr):It:=
 ⟨λi H=>∃(xs:List V) (x:V),SqL K H a xs/\xs[i]?=some x,λi H v H'=>∃T x,v= .ref T/\H T=none/\H'=upd H T (.tup [.int (i:Nat),x])/\∀xs,SqL K H a xs->xs[i]?=some x,λi H=>∃xs:List V,SqL K H a xs/\xs.length<=i⟩
theorem AG{K:PySem.W.Frag}(a e it:Addr):
  gW P w K (.Tuple elts kk tpos) (vb K a) [e,it] e (λi h=>(∃old,IsEnum h e it ((i:Nat):Int) old)/\h.IsListIter it a i/\e≠it)where
 mem:=by simp
 obj:=λi h st b hb=>by
  obtain⟨⟨old,he⟩,⟨o,ho,hc,hd⟩,_⟩:=st;have e':b=e∨b=it:=by simpa using hb
  rcases e' with z|z
  ·rw[z];exact⟨_,he,λv q=>nomatch q⟩
  ·rw[z];exact⟨o,ho,λv q=>by rw[hd]at q;cases q⟩
 keep:=λi h h' st k=>let⟨⟨old,he⟩,hi,hne⟩:=st;⟨⟨old,k e (by simp) _ he⟩,hi.at λo q=>k it (by simp) o q,hne⟩
 item:=by
  intro X hP hw hK hc i pins s σ H E I hf st hg;subst hP hw hK;obtain⟨⟨old,he⟩,hit,hne⟩:=st;obtain⟨xs,x,hq,hx⟩:=hg;obtain⟨its,rv,p,hz⟩:=I.list hq;obtain⟨u,hu,ru⟩:=rv.get hx;have hel:e<s.heap.objs.size:=bp he;have hil:it<s.heap.objs.size:=by obtain⟨_,q,_⟩:=hit;exact bp q
  refine wpAny_pyNext_enum_item he hit p.isList (x:=u) (by simpa using hu) hne λh' ho hit' hT hsz hk=>?_;refine⟨_,rfl,wpAny_letOwnedTupleGo_enum (s:={s with heap:=h',toks:=s.toks+1}) ho λh'' he' sb=>?_⟩;have hT2:h''.get? s.heap.objs.size=some {cls:=.type "tuple",data:=.seq #[.int i s.toks,u]}:=(sb.2 _ (m3 hel)).trans hT;have new:cQ X.prog X.w (upd H s.heap.objs.size (.tup [.int (i:Nat),x])) h'' s.heap.objs.size (.tup [.int (i:Nat),x]):=
   ⟨by show 2<=sizeLine;decide,[.int i s.toks,u],.cons ⟨_,rfl⟩ (.cons ru .nil),⟨_,hT2,rfl,_,rfl⟩⟩
  have I1:ae X pins σ (upd H s.heap.objs.size (.tup [.int (i:Nat),x])) {s with heap:=h'',toks:=s.toks+1}:=
   I.turnedNew (ch:=[e,it]) (λb ob hb q=>(sb.2 b (λz=>hb (by simp[z]))).trans (hk b ob (λz=>hb (by simp[z])) (λz=>hb (by simp[z])) q)) hf (aJ _) new
  refine⟨.ref s.heap.objs.size,_,I1,rfl,⟨_,x,rfl,I.hok.fresh (aJ _),rfl,λys hy=>by rw[I.list_inj hy hq];exact hx⟩,⟨⟨u,?_⟩,hit'.at λo q=>(sb.2 it (bP hne)).trans q,hne⟩,λb hb=>?_⟩
  ·have e1:((i+1:Nat):Int)=(i:Int)+1:=by omega
   rw[e1];exact he'
  ·have hb':b<s.heap.objs.size:=by
    have e':b=e∨b=it:=by simpa using hb
    rcases e' with z|z
    ·rw[z];exact hel
    ·rw[z];exact hil
   rw[ag (cy hb')];exact(hf b hb).1
 done:=by
  intro X hP hw hK hc i pins s σ H E I hf st hg;subst hP hw hK;obtain⟨⟨old,he⟩,hit,hne⟩:=st;obtain⟨xs,hq,hx⟩:=hg;obtain⟨its,rv,p,hz⟩:=I.list hq;obtain⟨f0,f1,f2,f3,f4,f5⟩:=hf it (by simp);have hl:=rv.length;exact wpAny_pyNext_enum_end (I.ok.hd hc) he hit p.isList (by simp;omega) λh' eb=>⟨rfl,I.turned (t':=s.toks) (λb o hb q=>eb b o hb q) f0 f1 f3 f4 f5⟩
 self:=λA i s Q E st h=>let⟨⟨_,he⟩,_⟩:=st;wpAny_pyIter_enum he h
def Ad(K:PySem.W.Frag)(ta:TA):TI:=λσ H R=>ta σ H λvs H1=>∃a xs,vs=[.ref a]/\SqL K H1 a xs/\R (vb K a) H1
theorem BL(hg:Gl X "enumerate")(hm:X.mg "enumerate"=none)(ha:PA X [e] ta)(hs:starEach [e] X.env=[(false,eval e X.env)]:=by rfl):
  PI X (.Tuple elts kk tpos) (.Call (.Name "enumerate" p) [e] [] pos) (Ad X.K ta):=by
 intro pins s σ H R I h;refine Call_ (iO I hg hm boot_enumerate (m4 (aI (ha pos pins s σ H _ I h) λus s1 ⟨vs,H1,I1,r1,q1⟩=>?_) hs rfl));obtain⟨a,xs,ex,hq,q⟩:=q1;subst ex;cases r1 with
 |cons r rr=>
  cases rr;cases r;obtain⟨its,rv,p',hz⟩:=I1.list hq;refine call_enumerate_list p'.isList λh' he hit hsz hk=>wpAny_pyIter_enum he ?_;have I2:ae X pins σ H1 {s1 with heap:=h'}:=I1.kept (t':=s1.toks) hk;refine⟨s1.heap.objs.size+1,[s1.heap.objs.size+1,s1.heap.objs.size],_,_,H1,rfl,I2,AG a (s1.heap.objs.size+1) s1.heap.objs.size,⟨⟨.none,he⟩,hit,Nat.succ_ne_self _⟩,λb hb=>?_,q⟩;have e':b=s1.heap.objs.size+1∨b=s1.heap.objs.size:=by simpa using hb
  have hle:s1.heap.objs.size<=b:=by
   rcases e' with z|z
   ·rw[z];exact jh _ _
   ·rw[z];exact aJ _
  exact I1.fpOk hle (I1.hok.fresh hle)
theorem uM:bootBuiltins "zip"=some (.type "zip"):=by decide +kernel
def w4(K:PySem.W.Frag)(a b:Addr):It:=
 ⟨λi H=>∃(xs ys:List V) (x y:V),SqL K H a xs/\SqL K H b ys/\xs[i]?=some x/\ys[i]?=some y,
  λi H v H'=>∃T x y,v= .ref T/\H T=none/\H'=upd H T (.tup [x,y])/\(∀xs,SqL K H a xs->xs[i]?=some x)/\∀ys,SqL K H b ys->ys[i]?=some y,
  λi H=>∃xs ys:List V,SqL K H a xs/\SqL K H b ys/\(xs.length<=i∨ys.length<=i)⟩
theorem Ee{K:PySem.W.Frag}{TI TO:Addr}(D:ZipApart z TI TO i1 i2 a b):
  gW P w K (.Tuple elts kk tpos) (w4 K a b) [z,TI,TO,i1,i2] z (λi h=>IsZip h z TI TO .none/\IsPair h TI (.ref i1) (.ref i2)/\(∃x y,IsPair h TO x y)/\h.IsListIter i1 a i/\h.IsListIter i2 b i)where
 mem:=by simp
 obj:=λi h st c hc=>by
  obtain⟨hz,hTI,⟨x,y,hTO⟩,⟨o1,e1,_,d1⟩,⟨o2,e2,_,d2⟩⟩:=st;have e':c=z∨c=TI∨c=TO∨c=i1∨c=i2:=by simpa using hc
  rcases e' with q|q|q|q|q
  ·rw[q];exact⟨_,hz,λv q=>nomatch q⟩
  ·rw[q];exact⟨_,hTI,λv q=>nomatch q⟩
  ·rw[q];exact⟨_,hTO,λv q=>nomatch q⟩
  ·rw[q];exact⟨o1,e1,λv q=>by rw[d1]at q;cases q⟩
  ·rw[q];exact⟨o2,e2,λv q=>by rw[d2]at q;cases q⟩
 keep:=λi h h' st k=>by
  obtain⟨hz,hTI,⟨x,y,hTO⟩,h1,h2⟩:=st;exact⟨k z (by simp) _ hz,k TI (by simp) _ hTI,⟨x,y,k TO (by simp) _ hTO⟩,h1.at λo q=>k i1 (by simp) o q,h2.at λo q=>k i2 (by simp) o q⟩
 item:=by
  intro X hP hw hK hc i pins s σ H E I hf st hg;subst hP hw hK;obtain⟨hz,hTI,⟨x0,y0,hTO⟩,h1,h2⟩:=st;obtain⟨xs,ys,x,y,hqx,hqy,hx,hy⟩:=hg;obtain⟨its,rv,p,_⟩:=I.list hqx;obtain⟨its2,rv2,p2,_⟩:=I.list hqy;obtain⟨u,hu,ru⟩:=rv.get hx;obtain⟨u2,hu2,ru2⟩:=rv2.get hy;have hzl:z<s.heap.objs.size:=bp hz;refine wpAny_pyNext_zip_item D hz hTI hTO h1 h2 p.isList p2.isList (x:=u) (y:=u2) (by simpa using hu) (by simpa using hu2) λh' z' TO' h1' h2' hT hsz hk=>?_;refine⟨_,rfl,wpAny_letOwnedTupleGo_zip (s:={s with heap:=h'}) z' λh'' z'' sb=>?_⟩;have hT2:h''.get? s.heap.objs.size=some {cls:=.type "tuple",data:=.seq #[u,u2]}:=(sb.2 _ (m3 hzl)).trans hT;have new:cQ X.prog X.w (upd H s.heap.objs.size (.tup [x,y])) h'' s.heap.objs.size (.tup [x,y]):=
   ⟨by show 2<=sizeLine;decide,[u,u2],.cons ru (.cons ru2 .nil),⟨_,hT2,rfl,_,rfl⟩⟩
  have I1:ae X pins σ (upd H s.heap.objs.size (.tup [x,y])) {s with heap:=h''}:=
   I.turnedNew (t':=s.toks) (ch:=[z,TI,TO,i1,i2]) (λc o hb q=>(sb.2 c (λq'=>hb (by simp[q']))).trans (hk c o (λq'=>hb (by simp[q'])) (λq'=>hb (by simp[q'])) (λq'=>hb (by simp[q'])) (λq'=>hb (by simp[q'])) q)) hf (aJ _) new
  refine⟨.ref s.heap.objs.size,_,I1,rfl,⟨_,x,y,rfl,I.hok.fresh (aJ _),rfl,λl hl=>by rw[I.list_inj hl hqx];exact hx,λl hl=>by rw[I.list_inj hl hqy];exact hy⟩,⟨z'',?_,⟨u,u2,?_⟩,?_,?_⟩,λc hcm=>?_⟩
  ·exact(sb.2 _ D.TIz).trans (hk _ _ D.TIz D.TITO D.TIi1 D.TIi2 hTI)
  ·exact(sb.2 _ D.TOz).trans TO'
  ·exact h1'.at λo q=>(sb.2 _ D.i1z).trans q
  ·exact h2'.at λo q=>(sb.2 _ D.i2z).trans q
  ·have hlt:c<s.heap.objs.size:=by
    have e':c=z∨c=TI∨c=TO∨c=i1∨c=i2:=by simpa using hcm
    rcases e' with q|q|q|q|q
    ·rw[q];exact hzl
    ·rw[q];exact bp hTI
    ·rw[q];exact bp hTO
    ·rw[q];obtain⟨_,e1,_⟩:=h1;exact bp e1
    ·rw[q];obtain⟨_,e2,_⟩:=h2;exact bp e2
   rw[ag (cy hlt)];exact(hf c hcm).1
 done:=by
  intro X hP hw hK hc i pins s σ H E I hf st hg;subst hP hw hK;obtain⟨hz,hTI,⟨x0,y0,hTO⟩,h1,h2⟩:=st;obtain⟨xs,ys,hqx,hqy,hend⟩:=hg;obtain⟨its,rv,p,_⟩:=I.list hqx;obtain⟨its2,rv2,p2,_⟩:=I.list hqy;have l1:=rv.length;have l2:=rv2.length;have he:its.toArray[i]?=none∨its2.toArray[i]?=none:=by
   rcases hend with q|q
   ·exact .inl (by simp;omega)
   ·exact .inr (by simp;omega)
  exact wpAny_pyNext_zip_end (I.ok.hd hc) D hz hTI hTO h1 h2 p.isList p2.isList he λh' hk=>⟨rfl,I.turnedL (t':=s.toks) (ch:=[z,TI,TO,i1,i2]) (λc o hb q=>
   hk c o (λq'=>hb (by simp[q'])) (λq'=>hb (by simp[q'])) (λq'=>hb (by simp[q'])) (λq'=>hb (by simp[q'])) q) hf⟩
 self:=λA i s Q E st h=>tX st.1 h
def zu(K:PySem.W.Frag)(ta:TA):TI:=λσ H R=>ta σ H λvs H1=>∃a b xs ys,vs=[.ref a,.ref b]/\SqL K H1 a xs/\SqL K H1 b ys/\R (w4 K a b) H1
theorem sP{e2:Expr}(hg:Gl X "zip")(hm:X.mg "zip"=none)(ha:PA X [e,e2] ta)
  (hs:starEach [e,e2] X.env=(false,eval e X.env)::starEach [e2] X.env:=by rfl) (cc:(backTo pos (starEach [e2] X.env)).any (·.1)=false:=by rfl):
  PI X (.Tuple elts kk tpos) (.Call (.Name "zip" p) [e,e2] [] pos) (zu X.K ta):=by
 intro pins s σ H R I h;refine Call_ (iO I hg hm uM (m4 (aI (ha pos pins s σ H _ I h) λus s1 ⟨vs,H1,I1,r1,q1⟩=>?_) hs cc));obtain⟨a,b,xs,ys,ex,hqx,hqy,q⟩:=q1;subst ex;cases r1 with
 |cons r rr=>
  cases rr with
  |cons r' rr=>
   cases rr;cases r;cases r';obtain⟨its,rv,p1,_⟩:=I1.list hqx;obtain⟨its2,rv2,p2,_⟩:=I1.list hqy;have la:a<s1.heap.objs.size:=p1.lt;have lb:b<s1.heap.objs.size:=p2.lt;refine call_zip_2 p1.isList p2.isList λh' hz hTI hTO h1 h2 hsz hk=>tX hz ?_;have I2:ae X pins σ H1 {s1 with heap:=h'}:=I1.kept (t':=s1.toks) hk;refine⟨s1.heap.objs.size+4,[s1.heap.objs.size+4,s1.heap.objs.size+2,s1.heap.objs.size+3,s1.heap.objs.size,s1.heap.objs.size+1],_,_,H1,rfl,I2,Ee (PySem.W.ktu_apart s1.heap.objs.size a b la lb),⟨hz,hTI,⟨_,_,hTO⟩,h1,h2⟩,λc hcm=>?_,q⟩;have e':c=s1.heap.objs.size+4∨c=s1.heap.objs.size+2∨c=s1.heap.objs.size+3∨c=s1.heap.objs.size∨c=s1.heap.objs.size+1:=by simpa using hcm
   have hle:s1.heap.objs.size<=c:=by
    rcases e' with z|z|z|z|z
    ·rw[z];exact jh _ _
    ·rw[z];exact jh _ _
    ·rw[z];exact jh _ _
    ·rw[z];exact aJ _
    ·rw[z];exact jh _ _
   exact I1.fpOk hle (I1.hok.fresh hle)
section
namespace Bits
end Bits
namespace TL
open PySem PySem.Builtin PySem.Builtin.Str PySem.StrLaws
end TL
end
namespace Att
open PySem PySem.W PySem.Calls PyProof.Rows
end Att
def l9(s:Stmt)(j:Nat):Stmt:=match s with
 |.ClassDef _ _ _ body _ _ _ _ _ _ _=>body.getD j (.Pass ⟨0,0,0,0⟩)
 |_=>.Pass ⟨0,0,0,0⟩
def fh(s:Stmt):Arguments:=match s with
 |.FunctionDef _ a _ _ _ _ _ _ _ _=>a
 |_=>{posonlyargs:=[],args:=[],vararg:=none,kwonlyargs:=[],kw_defaults:=[],kwarg:=none,defaults:=[]}
def eN(s:Stmt):List Stmt:=match s with
 |.FunctionDef _ _ b _ _ _ _ _ _ _=>b
 |_=>[]
def aM(s:Stmt):Scope:=match s with
 |.FunctionDef _ _ _ _ _ _ sc _ _ _=>sc
 |_=>{kind:=.function,names:=[],isGenerator:=false,isCoroutine:=false}
abbrev au:h9:=λ_ _ _ _ _ _=>False
abbrev E0:XK:=λ_ _ _=>False
theorem aU:iK au X E0:=λ_ _ _ _ _ _ _ h=>h.elim
structure a8(K:PySem.W.Frag)(x qual:Str)(st:Stmt)(f:Addr)(fd:FuncData):Prop where
 ex:∃(oc:Value) (od:Option Addr) (kV doc pm:Value) (an:Option Addr) (cdv ct:Value) (osl:Array (Option Value)),
  fd=PySem.W.fnOf x qual (fh st) (eN st) (aM st) .none kV doc pm an cdv ct/\K.lookup f=some ⟨oc,od,.func fd,osl⟩/\PySem.W.codeIn K cdv qual=true
 kp:PySem.W.keepIn K (.ref f)=true
section
variable{P:Program}{w:World}{K:PySem.W.Frag}{mg:Str->Option Value}{base:Heap}
theorem a8.ok{st:Stmt}{k:Nat}(F:a8 K x qual st f fd)(S:bj N ps (aM st))(len:∀vs H Q E,sp vs H Q E->vs.length=ps.length)
  (hbody:∀(cdv:Value) (A:Around) (outer:List Env) (s:Shared) (H:Hp) (vs:List V) (Q:VK) (E:XK),cq k (A.deeper (envOfC qual (aM st) s.heap.objs.size f cdv))->sp vs H Q E->
   ∃t,fb (iS au P w K mg base N qual (aM st) f cdv A outer s H E).nox (eN st) t/\t {nx:=λ_ H'=>Q .non H',rt:=Q} (gD N vs) H):ak P w K mg base au (k+1) f fd ps sp:=by
 obtain⟨oc,od,kV,doc,pm,an,cdv,ct,osl,rfl,lk,hcd⟩:=F.ex;refine uJ lk hcd S len λA outer s H vs Q E hr hsp=>?_;obtain⟨t,h,q⟩:=hbody cdv A outer s H vs Q E hr hsp;exact⟨t,h.nox,q⟩
theorem a8.binds{st:Stmt}(F:a8 K x qual st f fd)
  (h:∀(kV doc pm:Value) (an:Option Addr) (cdv ct:Value) (us:List Value),us.length=ps.length->bindArgs (PySem.W.fnOf x qual (fh st) (eN st) (aM st) .none kV doc pm an cdv ct) ⟨us,[]⟩=pure (ps.zip us)):aN K fd ps []:=by
 obtain⟨oc,od,kV,doc,pm,an,cdv,ct,osl,rfl,lk,hcd⟩:=F.ex;exact .all (h kV doc pm an cdv ct)
theorem lN{st:Stmt}{oc:Value}{od an:Option Addr}{osl:Array (Option Value)}{kV doc cdv ct:Value}(l:K.lookup f=some ⟨oc,od,.func (PySem.W.fnOf x qual (fh st) (eN st) (aM st) .none kV doc pm an cdv ct),osl⟩)
  (c:PySem.W.codeIn K cdv qual=true) (k:PySem.W.keepIn K (.ref f)=true):a8 K x qual st f (PySem.W.fnOf x qual (fh st) (eN st) (aM st) .none kV doc pm an cdv ct):=⟨⟨oc,od,kV,doc,pm,an,cdv,ct,osl,rfl,l,c⟩,k⟩
end
theorem cP{k:Nat}(hr:cq k A):A.units+1<cLine:=bc (Nat.add_le_add_left (by decide:1<=64) _) hr.units
section
variable{X:Cx}
theorem pv(i:Nat)(hN:X.N[i]?=some x:=by rfl)(hv:lF X.env.scope x:=by first|exact Or.inl rfl|exact Or.inr (Or.inl rfl)|exact Or.inr (Or.inr rfl))(hd:(x==("__debug__":Str))=false:=by decide)
  (hcd:(x==("__classdict__":Str))=false:=by decide):PE X (.Name x pos) (ya i):=BQ hN hv hd hcd
end
theorem bZ{c A B:Prop}[Decidable c](h1:c->A)(h2:¬c->B):if c then A else B:=by
 by_cases h:c
 ·rw[if_pos h];exact h1 h
 ·rw[if_neg h];exact h2 h
section
variable{κ:Type}[DecidableEq κ]
theorem qW{kvs:List (κ×V)}{k:κ}(h:aE kvs k=none):¬k∈kvs.map (·.1):=by
 intro m;obtain⟨p,hp,e⟩:=bh.mp m;have q:(kvs.any λkv=>decide (kv.1=k))=true:=je.mpr ⟨p,hp,aO e⟩;rw[i4,h]at q;exact absurd q (by simp)
theorem iH{kvs:List (κ×V)}{k:κ}{v:V}(h:aE kvs k=some v):k∈kvs.map (·.1):=by
 have q:(kvs.any λkv=>decide (kv.1=k))=true:=by
  rw[i4,h];all_goals rfl
 obtain⟨p,hp,e⟩:=je.mp q;exact bh.mpr ⟨p,hp,ck e⟩
theorem zE{p:κ×V}{r:List (κ×V)}{k:κ}(e:p.1=k):bK (p::r) k=bK r k:=by
 unfold bK;rw[dA,if_neg (by simp[e])]
theorem Dt{p:κ×V}{r:List (κ×V)}{k:κ}(e:¬p.1=k):bK (p::r) k=p::bK r k:=by
 unfold bK;rw[dA,if_pos (by simp[e])]
theorem Bq{kvs:List (κ×V)}{k:κ}{p:κ×V}(h:p∈bK kvs k):p∈kvs:=(cV.mp h).1
end
section
open PySem.W (WData Codec OpenSpec Well WellAll ReadsW ReadsAllW)
mutual
inductive Dw (K:PySem.W.Frag) (H:Hp):V->WData->Prop
 |non:Dw K H .non .none
 |bl (b:Bool):Dw K H (.bl b) (.bool b)
 |int (i:Int):Dw K H (.int i) (.int i)
 |str (x:Str):Dw K H (.str x) (.str x)
 |byt (b:Array UInt8):Dw K H (.byt b) (.bytes b.toList)
 |lst {a:Addr} {xs:List V} {ds:List WData}:SqL K H a xs->d4 K H xs ds->Dw K H (.ref a) (.list ds)
 |tup {a:Addr} {xs:List V} {ds:List WData}:bo K H a xs->d4 K H xs ds->Dw K H (.ref a) (.tuple ds)
inductive d4 (K:PySem.W.Frag) (H:Hp):List V->List WData->Prop
 |nil:d4 K H [] []
 |cons {v:V} {vs:List V} {d:WData} {ds:List WData}:Dw K H v d->d4 K H vs ds->d4 K H (v::vs) (d::ds)
end
theorem dw_ints{K:PySem.W.Frag}{H:Hp}:∀ns:List Int,d4 K H (ns.map V.int) (ns.map WData.int)
 | []=>.nil
 |n::r=>.cons (.int n) (dw_ints r)
theorem ints_dw{K:PySem.W.Frag}{H:Hp}:∀(ns:List Int) (xs:List V),d4 K H xs (ns.map WData.int)->xs=ns.map V.int
 | [],xs,h=>by
  cases h;rfl
 |n::r,xs,h=>by
  cases h with
  |cons h1 h2=>
   cases h1;rw[ints_dw r _ h2]<;>rfl
section
variable{P:Program}{w:World}{K:PySem.W.Frag}{H:Hp}{h:Heap}{R:PySem.W.WRecords}{cl:Str->Option Addr}
theorem F5{xs:List V}(hok:cg P w H h)(KX:K.In h)(q:SqL K H a xs):∃(its:List Value) (o:Obj) (n:Nat),aH xs its/\h.get? a=some o/\o.cls= .type "list"/\o.data= .seq its.toArray n:=by
 rcases q with q|⟨o,its,n,e,hc,_,hd,_,hv⟩
 ·obtain⟨_,its,n,hv,e⟩:=(show cQ P w H h a (.lst xs)from q.ok hok);exact⟨its,_,n,hv,e,rfl,rfl⟩
 ·exact⟨its.toList,o,n,hv,KX _ _ e,hc,by simp[hd]⟩
theorem Fq{xs:List V}(hok:cg P w H h)(KX:K.In h)(q:bo K H a xs):∃(its:List Value) (o:Obj) (n:Nat),aH xs its/\h.get? a=some o/\o.cls= .type "tuple"/\o.data= .seq its.toArray n:=by
 rcases q with q|⟨o,its,n,e,hc,hd,_,hv⟩
 ·obtain⟨_,its,hv,o,e,hc,n,hd⟩:=(show cQ P w H h a (.tup xs)from q.ok hok);exact⟨its,o,n,hv,e,hc,hd⟩
 ·exact⟨its.toList,o,n,hv,KX _ _ e,hc,by simp[hd]⟩
mutual
theorem Dw.reads (hok:cg P w H h) (KX:K.In h):∀(d:WData) (v:V) (u:Value),Dw K H v d->aT v u->∃as,ReadsW R cl h u d as
 |.none,_,_,x,r=>by
  cases x;cases r;exact⟨_,ReadsW.none⟩
 |.bool b,_,_,x,r=>by
  cases x;cases r;exact⟨_,ReadsW.bool b⟩
 |.int i,_,_,x,r=>by
  cases x;obtain⟨t,rfl⟩:=r;exact⟨_,ReadsW.int i t⟩
 |.str s,_,_,x,r=>by
  cases x;obtain⟨t,rfl⟩:=r;exact⟨_,ReadsW.str s t⟩
 |.bytes b,_,_,x,r=>by
  cases x;obtain⟨t,rfl⟩:=r;exact⟨_,ReadsW.bytes _ t⟩
 |.list ds,_,_,x,r=>by
  cases x with
  |lst hs ha=>
   cases r;obtain⟨its,o,n,rv,ho,hc,hd⟩:=F5 hok KX hs;obtain⟨as,hr⟩:=Dw.readsAll hok KX ds _ its ha rv;exact⟨_,ReadsW.list ho hc hd hr⟩
 |.tuple ds,_,_,x,r=>by
  cases x with
  |tup hs ha=>
   cases r;obtain⟨its,o,n,rv,ho,hc,hd⟩:=Fq hok KX hs;obtain⟨as,hr⟩:=Dw.readsAll hok KX ds _ its ha rv;exact⟨_,ReadsW.tuple ho hc hd hr⟩
 |.float _,_,_,x,_=>by cases x
 |.dict _,_,_,x,_=>by cases x
 |.bytearray _,_,_,x,_=>by cases x
 |.set _,_,_,x,_=>by cases x
 |.frozenset _,_,_,x,_=>by cases x
 |.obj _ _,_,_,x,_=>by cases x
theorem Dw.readsAll (hok:cg P w H h) (KX:K.In h):∀(ds:List WData) (vs:List V) (us:List Value),d4 K H vs ds->aH vs us->∃as,ReadsAllW R cl h us ds as
 | [],_,_,x,r=>by
  cases x;cases r;exact⟨_,ReadsAllW.nil⟩
 |d::ds,_,_,x,r=>by
  cases x with
  |cons h1 h2=>
   cases r with
   |cons r1 r2=>
    obtain⟨as,q1⟩:=Dw.reads hok KX d _ _ h1 r1;obtain⟨bs,q2⟩:=Dw.readsAll hok KX ds _ _ h2 r2;exact⟨_,ReadsAllW.cons q1 q2⟩
end
end
mutual
def eZ:WData->Bool
 |.none=>true
 |.bool _=>true
 |.int _=>true
 |.str _=>true
 |.bytes _=>true
 |.list xs=>f6 xs
 |.tuple xs=>f6 xs
 |_=>false
def f6:List WData->Bool
 | []=>true
 |x::r=>eZ x&&f6 r
end
theorem xw{α:Type}{f:α->WData}(h:∀a,eZ (f a)=true):∀l:List α,f6 (l.map f)=true
 | []=>rfl
 |x::r=>by
  show(eZ (f x)&&f6 (r.map f))=true;rw[h x,xw h r]<;>rfl
theorem i9:∀(c:Codec) (a:c.denote),eZ (c.enc a)=true
 |.unit,_=>rfl
 |.bool,_=>rfl
 |.int _ _,_=>rfl
 |.nat _ _,_=>rfl
 |.u8,_=>rfl
 |.bytes _ _,_=>rfl
 |.text _ _ _ _,_=>rfl
 |.list _ _ c,a=>xw (λx=>i9 c x) a
 |.pair c d,a=>by
  show(eZ (c.enc a.1)&&(eZ (d.enc a.2)&&true))=true;rw[i9 c a.1,i9 d a.2]<;>rfl
 |.triple c d e,a=>by
  show(eZ (c.enc a.1)&&(eZ (d.enc a.2.1)&&(eZ (e.enc a.2.2)&&true)))=true;rw[i9 c a.1,i9 d a.2.1,i9 e a.2.2]<;>rfl
 |.option c,none=>rfl
 |.option c,some x=>i9 c x
theorem vC:∀(cs:List Codec) (a:Codec.denoteAll cs),f6 (Codec.encAll cs a)=true
 | [],_=>rfl
 |c::cs,a=>by
  show(eZ (c.enc a.1)&&f6 (Codec.encAll cs a.2))=true;rw[i9 c a.1,vC cs a.2]<;>rfl
theorem sX:∀{xs:List WData} {d:WData},d∈xs->d.weight<=WData.weightAll xs
 | [],d,h=>absurd h (by simp)
 |x::r,d,h=>by
  show d.weight<=x.weight+1+WData.weightAll r;rcases a9.mp h with e|m
  ·rw[e];omega
  ·have z:=sX m;omega
def eh:Value->V
 |.none=>.non
 |.bool b=>.bl b
 |.int i _=>.int i
 |.str x _=>.str x
 |.bytes b _=>.byt b
 |.ref a=>.ref a
 |_=>.non
def ft(A:List Addr):Value->Prop
 |.none=>True
 |.bool _=>True
 |.int _ _=>True
 |.str _ _=>True
 |.bytes _ _=>True
 |.ref a=>a∈A
 |_=>False
theorem ft.mono{A B:List Addr}(h:∀a∈A,a∈B):∀{u:Value},ft A u->ft B u:=λ{u} x=>by
 cases u with
 |ref a=>exact h a x
 |none=>trivial
 |bool b=>trivial
 |int i t=>trivial
 |str s t=>trivial
 |bytes b t=>trivial
 |_=>exact False.elim x
theorem Dz{A:List Addr}(x:ft A u):aT (eh u) u:=by
 cases u with
 |ref a=>rfl
 |none=>rfl
 |bool b=>rfl
 |int i t=>exact⟨t,rfl⟩
 |str s t=>exact⟨t,rfl⟩
 |bytes b t=>exact⟨t,rfl⟩
 |_=>exact False.elim x
theorem i5{A:List Addr}:∀{vs:List Value},(∀u∈vs,ft A u)->aH (vs.map eh) vs
 | [],_=>.nil
 |u::r,h=>.cons (Dz (h u (List.mem_cons_self ..))) (i5 λx hx=>h x (List.mem_cons_of_mem _ hx))
def gx(h:Heap)(A:List Addr)(a:Addr):Prop:=∃vs:List Value,vs.length<=sizeLine/\(∀u∈vs,ft A u)/\
 (h.get? a=some {cls:=.type "list",data:=.seq vs.toArray}∨h.get? a=some {cls:=.type "tuple",data:=.seq vs.toArray})
theorem gx.mono{A B:List Addr}(k:∀a∈A,a∈B)(x:gx h A a):gx h B a:=by
 obtain⟨vs,h1,h2,h3⟩:=x;exact⟨vs,h1,λu hu=>(h2 u hu).mono k,h3⟩
theorem nD{P:Params}{h:Heap}:∀{vs:List Value} {ds:List WData},WellAll P h vs ds->vs.length=ds.length
 |_,_,.nil=>rfl
 |_,_,.cons _ b=>by
  show _+1=_+1;rw[nD b]
theorem wN{P:Params}(x:Well P h v (.list ds)):∃(a:Addr) (vs:List Value),v= .ref a/\h.get? a=some {cls:=.type "list",data:=.seq vs.toArray}/\WellAll P h vs ds:=by
 cases x with
 |list ho hall=>exact⟨_,_,rfl,ho,hall⟩
theorem xX{P:Params}(x:Well P h v (.tuple ds)):∃(a:Addr) (vs:List Value),v= .ref a/\h.get? a=some {cls:=.type "tuple",data:=.seq vs.toArray}/\WellAll P h vs ds:=by
 cases x with
 |tuple ho hall=>exact⟨_,_,rfl,ho,hall⟩
theorem vQ{P:Params}{d:WData}(x:WellAll P h us (d::ds)):∃(v:Value) (vs:List Value),us=v::vs/\Well P h v d/\WellAll P h vs ds:=by
 cases x with
 |cons a b=>exact⟨_,_,rfl,a,b⟩
theorem uD(h:n<=1048576):n<=sizeLine:=dw h (by decide)
section
variable{P:Params}{h:Heap}
mutual
theorem DH:∀(d:WData) (v:Value),Well P h v d->eZ d=true->d.weight<=1048576->∃A:List Addr,ft A v/\∀a∈A,gx h A a
 |.none,_,x,_,_=>by
  cases x;exact⟨[],trivial,λa m=>absurd m (by simp)⟩
 |.bool b,_,x,_,_=>by
  cases x;exact⟨[],trivial,λa m=>absurd m (by simp)⟩
 |.int i,_,x,_,_=>by
  cases x;exact⟨[],trivial,λa m=>absurd m (by simp)⟩
 |.str s,_,x,_,_=>by
  cases x;exact⟨[],trivial,λa m=>absurd m (by simp)⟩
 |.bytes b,_,x,_,_=>by
  cases x;exact⟨[],trivial,λa m=>absurd m (by simp)⟩
 |.list ds,_,x,p,z=>by
  obtain⟨a,vs,rfl,ho,hall⟩:=wN x;have z2:WData.weightAll ds<=1048576:=z;obtain⟨A,h1,h2⟩:=oa ds _ hall p λd hd=>dw (sX hd) z2;have k:∀b∈A,b∈a::A:=λb hb=>List.mem_cons_of_mem _ hb;refine⟨a::A,List.mem_cons_self ..,λb hb=>?_⟩;rcases a9.mp hb with e|m
  ·rw[e];exact⟨vs,uD (by rw[nD hall];exact dw (Gz ds) z2),λu hu=>(h1 u hu).mono k,.inl ho⟩
  ·exact(h2 b m).mono k
 |.tuple ds,_,x,p,z=>by
  obtain⟨a,vs,rfl,ho,hall⟩:=xX x;have z2:WData.weightAll ds<=1048576:=z;obtain⟨A,h1,h2⟩:=oa ds _ hall p λd hd=>dw (sX hd) z2;have k:∀b∈A,b∈a::A:=λb hb=>List.mem_cons_of_mem _ hb;refine⟨a::A,List.mem_cons_self ..,λb hb=>?_⟩;rcases a9.mp hb with e|m
  ·rw[e];exact⟨vs,uD (by rw[nD hall];exact dw (Gz ds) z2),λu hu=>(h1 u hu).mono k,.inr ho⟩
  ·exact(h2 b m).mono k
 |.float _,_,_,p,_=>Bool.noConfusion (show false=true from p)
 |.dict _,_,_,p,_=>Bool.noConfusion (show false=true from p)
 |.bytearray _,_,_,p,_=>Bool.noConfusion (show false=true from p)
 |.set _,_,_,p,_=>Bool.noConfusion (show false=true from p)
 |.frozenset _,_,_,p,_=>Bool.noConfusion (show false=true from p)
 |.obj _ _,_,_,p,_=>Bool.noConfusion (show false=true from p)
theorem oa:∀(ds:List WData) (vs:List Value),WellAll P h vs ds->f6 ds=true->(∀d∈ds,d.weight<=1048576)->∃A:List Addr,(∀u∈vs,ft A u)/\∀a∈A,gx h A a
 | [],_,x,_,_=>by
  cases x;exact⟨[],λu m=>absurd m (by simp),λa m=>absurd m (by simp)⟩
 |d::ds,_,x,p,z=>by
  obtain⟨v,vs,rfl,x1,x2⟩:=vQ x;have q:eZ d=true/\f6 ds=true:=Bool.and_eq_true_iff.mp p;obtain⟨A,a1,a2⟩:=DH d v x1 q.1 (z d (List.mem_cons_self ..));obtain⟨B,b1,b2⟩:=oa ds vs x2 q.2 λe he=>z e (List.mem_cons_of_mem _ he);have kA:∀b∈A,b∈A++B:=λb hb=>cK.mpr (.inl hb);have kB:∀b∈B,b∈A++B:=λb hb=>cK.mpr (.inr hb);refine⟨A++B,λu hu=>?_,λb hb=>?_⟩
  ·rcases a9.mp hu with e|m
   ·rw[e];exact a1.mono kA
   ·exact(b1 u m).mono kB
  ·rcases cK.mp hb with m|m
   ·exact(a2 b m).mono kA
   ·exact(b2 b m).mono kB
end
end
def ow(o:Obj):Option HO:=match o.data with
 |.seq vs _=>if(o.cls==Value.type "list")=true then some (.frz o (.lst (vs.toList.map eh)))else some (.frz o (.tup (vs.toList.map eh)))
 |_=>none
def dg(K:PySem.W.Frag)(h:Heap)(A:List Addr):Hp:=λb=>if b∈A then(if(K.lookup b).isNone=true then(h.get? b).bind ow else none)else none
theorem yK(vs:List Value):ow {cls:=.type "list",data:=.seq vs.toArray}=some (.frz {cls:=.type "list",data:=.seq vs.toArray} (.lst (vs.map eh))):=by
 show(if(Value.type "list"==Value.type "list")=true then some (HO.frz {cls:=.type "list",data:=.seq vs.toArray} (.lst (vs.toArray.toList.map eh)))else some (HO.frz {cls:=.type "list",data:=.seq vs.toArray} (.tup (vs.toArray.toList.map eh))))=_;rw[if_pos (tI _)]
theorem wx(vs:List Value):ow {cls:=.type "tuple",data:=.seq vs.toArray}=some (.frz {cls:=.type "tuple",data:=.seq vs.toArray} (.tup (vs.map eh))):=by
 show(if(Value.type "tuple"==Value.type "list")=true then some (HO.frz {cls:=.type "tuple",data:=.seq vs.toArray} (.lst (vs.toArray.toList.map eh)))else some (HO.frz {cls:=.type "tuple",data:=.seq vs.toArray} (.tup (vs.toArray.toList.map eh))))=_;rw[if_neg (by decide)]
section
variable{P:Program}{w:World}{K:PySem.W.Frag}{h:Heap}{A:List Addr}
theorem nI(hb:b∈A)(hk:K.lookup b=none)(e:h.get? b=some o):dg K h A b=ow o:=by
 unfold dg;rw[if_pos hb,hk,if_pos (show(none:Option Obj).isNone=true from rfl),e]<;>rfl
theorem B0{u:HO}(q:dg K h A b=some u):b∈A/\K.lookup b=none:=by
 unfold dg at q;by_cases hb:b∈A
 ·rw[if_pos hb]at q;cases hk:K.lookup b with
  |none=>exact⟨hb,rfl⟩
  |some o=>
   rw[hk,if_neg (by simp)]at q;cases q
 ·rw[if_neg hb]at q;cases q
theorem qR(ar:∀a∈A,gx h A a){u:HO}(q:dg K h A b=some u):K.lookup b=none/\∃vs:List Value,vs.length<=sizeLine/\(∀u∈vs,ft A u)/\
  ((h.get? b=some {cls:=.type "list",data:=.seq vs.toArray}/\u= .frz {cls:=.type "list",data:=.seq vs.toArray} (.lst (vs.map eh)))∨
  (h.get? b=some {cls:=.type "tuple",data:=.seq vs.toArray}/\u= .frz {cls:=.type "tuple",data:=.seq vs.toArray} (.tup (vs.map eh)))):=by
 obtain⟨hb,hk⟩:=B0 q;obtain⟨vs,h1,h2,h3⟩:=ar b hb;refine⟨hk,vs,h1,h2,?_⟩;rcases h3 with e|e
 ·rw[nI hb hk e,yK]at q;exact .inl ⟨e,(b9 q).symm⟩
 ·rw[nI hb hk e,wx]at q;exact .inr ⟨e,(b9 q).symm⟩
theorem Gr(ar:∀a∈A,gx h A a):cg P w (dg K h A) h:=λb u q=>by
 obtain⟨_,vs,h1,h2,⟨e,rfl⟩|⟨e,rfl⟩⟩:=qR ar q
 ·exact⟨e,by rw[List.length_map];exact h1,vs,_,i5 h2,e⟩
 ·exact⟨e,by rw[List.length_map];exact h1,vs,i5 h2,_,e,rfl,_,rfl⟩
theorem pI{c c':Value}(e:(some {cls:=c,data:=.seq vs.toArray}:Option Obj)=some {cls:=c',data:=.seq us.toArray}):c=c'/\vs=us:=by
 have e1:=b9 e;have e2:c=c':=dr Obj.cls e1;have e3:Data.seq vs.toArray=Data.seq us.toArray:=dr Obj.data e1;injection e3 with e4;refine⟨e2,?_⟩;have e5:=dr Array.toList e4;simpa using e5
theorem B7(KX:K.In h)(ar:∀a∈A,gx h A a)(ha:a∈A)(e:h.get? a=some {cls:=.type "list",data:=.seq vs.toArray}):(∀u∈vs,ft A u)/\SqL K (dg K h A) a (vs.map eh):=by
 obtain⟨us,h1,h2,h3⟩:=ar a ha;have hu:us=vs:=by
  rcases h3 with q|q
  ·rw[e]at q;exact(pI q).2.symm
  ·rw[e]at q;exact absurd (Value.type.inj (pI q).1) (by decide)
 subst hu;refine⟨h2,?_⟩;cases hk:K.lookup a with
 |none=>exact .inl (.inr ⟨_,by rw[nI ha hk e,yK]⟩)
 |some o=>
  have e2:=KX a o hk;rw[e]at e2;obtain rfl:=b9 e2;exact .inr ⟨_,us.toArray,_,hk,rfl,rfl,rfl,by rw[cM];exact h1,by simpa using i5 h2⟩
theorem ET(KX:K.In h)(ar:∀a∈A,gx h A a)(ha:a∈A)(e:h.get? a=some {cls:=.type "tuple",data:=.seq vs.toArray}):(∀u∈vs,ft A u)/\bo K (dg K h A) a (vs.map eh):=by
 obtain⟨us,h1,h2,h3⟩:=ar a ha;have hu:us=vs:=by
  rcases h3 with q|q
  ·rw[e]at q;exact absurd (Value.type.inj (pI q).1) (by decide)
  ·rw[e]at q;exact(pI q).2.symm
 subst hu;refine⟨h2,?_⟩;cases hk:K.lookup a with
 |none=>exact .inl (.inr ⟨_,by rw[nI ha hk e,wx]⟩)
 |some o=>
  have e2:=KX a o hk;rw[e]at e2;obtain rfl:=b9 e2;exact .inr ⟨_,us.toArray,_,hk,rfl,rfl,by rw[cM];exact h1,by simpa using i5 h2⟩
mutual
theorem A0 {Pm:Params} (KX:K.In h) (ar:∀a∈A,gx h A a):∀(d:WData) (v:Value),Well Pm h v d->eZ d=true->ft A v->Dw K (dg K h A) (eh v) d
 |.none,_,x,_,_=>by
  cases x;exact .non
 |.bool b,_,x,_,_=>by
  cases x;exact .bl b
 |.int i,_,x,_,_=>by
  cases x;exact .int i
 |.str s,_,x,_,_=>by
  cases x;exact .str s
 |.bytes b,_,x,_,_=>by
  cases x;have z:=Dw.byt (K:=K) (H:=dg K h A) b.toArray;exact z
 |.list ds,_,x,p,hu=>by
  obtain⟨a,vs,rfl,ho,hall⟩:=wN x;obtain⟨h2,hs⟩:=B7 KX ar hu ho;exact .lst hs (nQ KX ar ds _ hall p h2)
 |.tuple ds,_,x,p,hu=>by
  obtain⟨a,vs,rfl,ho,hall⟩:=xX x;obtain⟨h2,hs⟩:=ET KX ar hu ho;exact .tup hs (nQ KX ar ds _ hall p h2)
 |.float _,_,_,p,_=>Bool.noConfusion (show false=true from p)
 |.dict _,_,_,p,_=>Bool.noConfusion (show false=true from p)
 |.bytearray _,_,_,p,_=>Bool.noConfusion (show false=true from p)
 |.set _,_,_,p,_=>Bool.noConfusion (show false=true from p)
 |.frozenset _,_,_,p,_=>Bool.noConfusion (show false=true from p)
 |.obj _ _,_,_,p,_=>Bool.noConfusion (show false=true from p)
theorem nQ {Pm:Params} (KX:K.In h) (ar:∀a∈A,gx h A a):∀(ds:List WData) (vs:List Value),WellAll Pm h vs ds->f6 ds=true->(∀u∈vs,ft A u)->d4 K (dg K h A) (vs.map eh) ds
 | [],_,x,_,_=>by
  cases x;exact .nil
 |d::ds,_,x,p,hu=>by
  obtain⟨v,vs,rfl,x1,x2⟩:=vQ x;have q:eZ d=true/\f6 ds=true:=Bool.and_eq_true_iff.mp p;exact .cons (A0 KX ar d v x1 q.1 (hu _ (List.mem_cons_self ..))) (nQ KX ar ds vs x2 q.2 λu m=>hu u (List.mem_cons_of_mem _ m))
end
end
theorem zF(h:WData.layableAll ds=true):∀d∈ds,d.weight<=1048576:=λd hd=>
 (PySem.W.layableW_iff.mp (jc.mp h d hd)).2.2
theorem uY:∀(cs:List Codec) (a:Codec.denoteAll cs),(Codec.encAll cs a).length=cs.length
 | [],_=>rfl
 |c::cs,a=>by
  show(Codec.encAll cs a.2).length+1=cs.length+1;rw[uY cs a.2]
end
def br(H:Hp):MK->V->Prop
 |.inl x,y=>y= .str x
 |.inr ks,y=>∃b,y= .ref b/\H b=some (.tup (ks.map kV))
theorem br.raw:∀{k:MK} {y:V} {u:Value},br H k y->aT y u->h7 H k u
 |.inl x,_,u,e,r=>by cases(show _=V.str x from e);exact r
 |.inr ks,_,u,⟨b,e,h⟩,r=>by cases e;exact⟨b,r,h⟩
theorem br.mono(ht:∀b xs,H b=some (.tup xs)->H' b=some (.tup xs)):∀{k:MK} {y:V},br H k y->br H' k y
 |.inl _,_,h=>h
 |.inr _,_,⟨b,e,h⟩=>⟨b,e,ht _ _ h⟩
theorem gg(ok:cg P w H h):∀{k:MK} {u:Value},h7 H k u->bR P w h k u
 |.inl _,_,e=>e
 |.inr _,_,⟨b,e,q⟩=>⟨b,e,FK ok q⟩
abbrev KM(H:Hp):List (MK×V)->List (MK×Value×Value)->Prop:=Paired λp q=>p.1=q.1/\h7 H p.1 q.2.1/\aT p.2 q.2.2
theorem KM.val(r:KM H kvs xs)(k:MK):dW (aE kvs k) (cC xs k):=by
 induction r with
 |nil=>exact True.intro
 |@cons p q ps qs h t ih=>
  obtain⟨h1,_,h2⟩:=h;by_cases e:p.1=k
  ·have e':q.1=k:=h1.symm.trans e;have b:cC (q::qs) k=some q.2.2:=by simp[cC,mR,e']
   rw[fg e,b];exact h2
  ·have e':¬q.1=k:=λz=>e (h1.trans z);have b:cC (q::qs) k=cC qs k:=by simp[cC,mR,e']
   rw[eJ e,b];exact ih
theorem KM.repl(r:KM H kvs xs)(k:MK)(ry:aT y u):
  KM H (kvs.map λkv=>if kv.1=k then(kv.1,y)else kv) (xs.map (f7 k u)):=by
 induction r with
 |nil=>exact .nil
 |@cons p q ps qs h t ih=>
  rw[aW,aW];refine .cons ?_ ih;obtain⟨h1,h2,h3⟩:=h;unfold f7;by_cases e:p.1=k
  ·rw[if_pos e,if_pos (h1.symm.trans e)];exact⟨h1,h2,ry⟩
  ·rw[if_neg e,if_neg (λz=>e (h1.trans z))];exact⟨h1,h2,h3⟩
theorem KM.put(r:KM H kvs xs)(k:MK){c:Value}(hc:h7 H k c)(ry:aT y u):KM H (bt kvs k y) (iU xs k c u):=by
 have e:(kvs.any λkv=>decide (kv.1=k))=(cC xs k).isSome:=by rw[i4,(r.val k).isSome_eq]
 unfold bt iU;rw[e];by_cases q:(cC xs k).isSome=true
 ·rw[if_pos q,if_pos q];exact r.repl k ry
 ·rw[if_neg q,if_neg q];exact Paired.snoc r ⟨rfl,hc,ry⟩
theorem KM.drop(r:KM H kvs xs)(k:MK):KM H (bK kvs k) (jy xs k):=by
 unfold bK jy
 induction r with
 |nil=>exact .nil
 |@cons p q ps qs h t ih=>
  rw[dA,dA];by_cases e:p.1=k
  ·rw[if_neg (by simp[e]),if_neg (by simp[h.1.symm.trans e])];exact ih
  ·rw[if_pos (by simp[e]),if_pos (by simpa using λz=>e (h.1.trans z))];exact .cons h ih
theorem KM.keeps(r:KM H kvs xs)(ht:∀b ys,H b=some (.tup ys)->H' b=some (.tup ys)):KM H' kvs xs:=
 Paired.mapP r λ_ _ z=>⟨z.1,vJ ht z.2.1,z.2.2⟩
theorem KM.is(ok:cg P w H h)(r:KM H kvs xs):∀x∈xs,bR P w h x.1 x.2.1:=by
 induction r with
 |nil=>intro x hx;exact nomatch hx
 |@cons p q ps qs hq t ih=>
  intro x hx;rcases a9.mp hx with e|hx
  ·subst e;rw[←hq.1];exact gg ok hq.2.1
  ·exact ih x hx
theorem fc(ok:cg P w H h)(e:Rd H a (.dM kvs)):kvs.length<=sizeLine/\(a==sysModules)=false/\
  ∃xs,KM H kvs xs/\cJ P w h a xs/\(∀x∈xs,bR P w h x.1 x.2.1):=by
 obtain⟨z,y,xs,r,d⟩:=(show cQ P w H h a (.dM kvs)from e.ok ok);exact⟨z,y,xs,r,d,KM.is ok r⟩
section
variable{X:Cx}{pins:List (Addr×Obj)}{σ:St}{H:Hp}{s:Shared}{a:Addr}{kvs:List (MK×V)}{k:MK}{y v:V}{u r:Value}{A:Around}{E:Value->Shared->Prop}
theorem qE{h':Heap}{kvs':List (MK×V)}{xs':List (MK×Value×Value)}(I:ae X pins σ H s)(e:H a=some (.dM kvs))(hs:Heap.SameBut a s.heap h')(hl:kvs'.length<=sizeLine)(hd:(a==sysModules)=false)
  (km:KM H kvs' xs') (dd:cJ X.prog X.w h' a xs'):ae X pins σ (upd H a (.dM kvs')) {s with heap:=h',toks:=t'}:=by
 obtain⟨q,es,ep,hq,r⟩:=id dd;refine I.write (x:=a) (e:=a) (by rw[e];exact True.intro) (.inl rfl) (λb z hb p=>(hs.2 b hb).trans p) ⟨q,hq⟩ ⟨hl,hd,xs',km.keeps λc ys ec=>?_,dd⟩;rw[ag (aC ec e (λz=>nomatch z))];exact ec
theorem ux(hu:A.units+1<cLine)(I:ae X pins σ H s)(e:Rd H a (.dM kvs))(hk:br H k y)(l:aE kvs k=some v)(ry:aT y u)(h:∀w' s',ae X pins σ H s'->aT v w'->Q w' s'):
  wpAny (model X.prog X.w) A (getItem (.ref a) u) Q E s:=by
 obtain⟨z,hd,xs,km,dd,is⟩:=fc I.hok e;obtain⟨w',hw,rw'⟩:=dW.some_of (v:=v) (o:=cC xs k) (by rw[←l];exact km.val k);exact Bj hu (gg I.hok (hk.raw ry)) dd is hw (h w' _ (I.tok _) rw')
theorem wG{Q:Unit->Shared->Prop}(hu:A.units+1<cLine)(I:ae X pins σ H s)(e:H a=some (.dM kvs))(hk:br H k y)(hl:kvs.length<sizeLine)(ry:aT y u)(rv:aT v r)(h:∀s',ae X pins σ (upd H a (.dM (bt kvs k v))) s'->Q () s'):
  wpAny (model X.prog X.w) A (setItem (.ref a) u r) Q E s:=by
 obtain⟨z,hd,xs,km,dd,is⟩:=fc I.hok (.inl e);have hx:xs.length=kvs.length:=(cA km).symm;refine AO hu (gg I.hok (hk.raw ry)) dd is (by omega) λh' dd' hs=>h _ (qE I e hs ?_ hd (km.put k (hk.raw ry) rv) dd');have:=Ar kvs k v;omega
theorem E8(I:ae X pins σ H s)(e:Rd H a (.dM kvs))(h:∀t s',ae X pins σ H s'->Q (.int kvs.length t) s'):wpAny (model X.prog X.w) A (call (.builtin "len") [.ref a]) Q E s:=by
 obtain⟨z,hd,xs,km,dd,is⟩:=fc I.hok e;have hx:xs.length=kvs.length:=(cA km).symm;refine CV hd dd (by omega) λt tk=>?_;rw[hx];exact h t _ (I.tok _)
theorem jz(I:ae X pins σ H s)(e:Rd H a (.dM kvs)):s.TypeIs (.ref a) "dict"/\∀b,Value.ref a= .ref b->∃ob,s.heap.get? b=some ob/\ob.dict=none:=by
 obtain⟨z,hd,xs,km,dd,is⟩:=fc I.hok e;obtain⟨ob,_,_,h1,h2,_⟩:=id dd;exact⟨dd.typeIs,λb q=>by cases q;exact⟨ob,h1,h2.2.1⟩⟩
theorem A1{d:V}{dv:Value}(hu:A.units+1<cLine)(I:ae X pins σ H s)(e:Rd H a (.dM kvs))(hk:br H k y)(ry:aT y u)(rd:aT d dv)(h:∀w' s',ae X pins σ H s'->aT ((aE kvs k).getD d) w'->Q w' s'):
  wpAny (model X.prog X.w) A (call (.builtin "dict.get") [.ref a,u,dv]) Q E s:=by
 obtain⟨z,hd,xs,km,dd,is⟩:=fc I.hok e;exact tE PySem.F.slot_dict_get dd.typeIs PySem.F.entry_dict_get (PySem.F.args_dict_get_3 _ _ _) (Dr hd dv) ⟨hu,k,xs,gg I.hok (hk.raw ry),dd,is,h _ _ (I.tok _) ((km.val k).getD rd)⟩
theorem xh{more:List Value}(hu:A.units+1<cLine)(I:ae X pins σ H s)(e:H a=some (.dM kvs))(hk:br H k y)(ry:aT y u)(l:aE kvs k=some v)(hm:more=[]∨∃x,more=[x])
  (h:∀w' s',ae X pins σ (upd H a (.dM (bK kvs k))) s'->aT v w'->Q w' s'):wpAny (model X.prog X.w) A (call (.builtin "dict.pop") (.ref a::u::more)) Q E s:=by
 obtain⟨z,hd,xs,km,dd,is⟩:=fc I.hok (.inl e);have hx:xs.length=kvs.length:=(cA km).symm;obtain⟨w',hw,rw'⟩:=dW.some_of (v:=v) (o:=cC xs k) (by rw[←l];exact km.val k);have ha:argsOk "dict.pop" ⟨.ref a::u::more,[]⟩:=by
  rcases hm with q|⟨x,q⟩
  ·subst q;exact PySem.F.args_dict_pop_2 _ _
  ·subst q;exact GF _ _ _
 exact tE tY dd.typeIs PySem.F.entry_dict_pop ha (Bd more hm) ⟨hu,k,xs,w',gg I.hok (hk.raw ry),dd,is,by omega,hw,λh' dd' hs=>h w' _ (qE I e hs (dw (Fx kvs k) z) hd (km.drop k) dd') rw'⟩
theorem zp{dv:Value}(hu:A.units+1<cLine)(I:ae X pins σ H s)(e:H a=some (.dM kvs))(hk:br H k y)(ry:aT y u)(l:aE kvs k=none)(h:∀s',ae X pins σ H s'->Q dv s'):
  wpAny (model X.prog X.w) A (call (.builtin "dict.pop") [.ref a,u,dv]) Q E s:=by
 obtain⟨z,hd,xs,km,dd,is⟩:=fc I.hok (.inl e);have hx:xs.length=kvs.length:=(cA km).symm;have hn:cC xs k=none:=dW.none_of (by rw[←l];exact km.val k);exact tE tY dd.typeIs PySem.F.entry_dict_pop (GF _ _ _) (Ab hd dv) ⟨hu,k,xs,gg I.hok (hk.raw ry),dd,is,by omega,hn,λtk=>h _ (I.tok _)⟩
end
def zK(td ty:TE):TE:=λσ H Q=>td σ H λx H1=>ty σ H1 λy H2=>∃a kvs k v,x= .ref a/\Rd H2 a (.dM kvs)/\br H2 k y/\aE kvs k=some v/\Q v H2
def Gc(td ty tv:TE):TS:=λD σ H=>tv σ H λv H1=>td σ H1 λx H2=>ty σ H2 λy H3=>∃a kvs k,x= .ref a/\H3 a=some (.dM kvs)/\br H3 k y/\kvs.length<sizeLine/\D.nx σ (upd H3 a (.dM (bt kvs k v)))
def Gm(td ty tv:TE)(rd:V->V->Hp->VK->Prop):TS:=λD σ H=>td σ H λx H1=>ty σ H1 λy H2=>∃a kvs k v,x= .ref a/\Rd H2 a (.dM kvs)/\br H2 k y/\aE kvs k=some v/\
 tv σ H2 λy2 H3=>rd v y2 H3 λz H4=>∃kvs',H4 a=some (.dM kvs')/\br H4 k y/\kvs'.length<sizeLine/\D.nx σ (upd H4 a (.dM (bt kvs' k z)))
def Gg:R2:=λy x H Q=>∃a kvs k,x= .ref a/\Rd H a (.dM kvs)/\br H k y/\Q (.bl (aE kvs k).isSome) H
def A6:R2:=λy x H Q=>∃a kvs k,x= .ref a/\Rd H a (.dM kvs)/\br H k y/\Q (.bl (!(aE kvs k).isSome)) H
def Ey(td ty tx:TE):TE:=λσ H Q=>td σ H λx H1=>∃a,x= .ref a/\(∃kvs,Rd H1 a (.dM kvs))/\ty σ H1 λy H2=>tx σ H2 λz H3=>∃kvs k,Rd H3 a (.dM kvs)/\br H3 k y/\Q ((aE kvs k).getD z) H3
def B4(td ty:TE):TE:=λσ H Q=>td σ H λx H1=>∃a,x= .ref a/\(∃kvs,Rd H1 a (.dM kvs))/\ty σ H1 λy H2=>∃kvs k v,H2 a=some (.dM kvs)/\br H2 k y/\aE kvs k=some v/\Q v (upd H2 a (.dM (bK kvs k)))
def Cm(td ty tx:TE):TE:=λσ H Q=>td σ H λx H1=>∃a,x= .ref a/\(∃kvs,Rd H1 a (.dM kvs))/\ty σ H1 λy H2=>tx σ H2 λz H3=>∃kvs k,H3 a=some (.dM kvs)/\br H3 k y/\
 (∀v,aE kvs k=some v->Q v (upd H3 a (.dM (bK kvs k))))/\(aE kvs k=none->Q z H3)
def BP:TE:=λ_ H Q=>∀p,H p=none->Q (.ref p) (upd H p (.dM []))
section
variable{X:Cx}{o i e f value:Expr}{pos pos' tpos apos cpos:Pos}{td ty tv tx:TE}
theorem gb(hu:X.A.units+1<cLine)(ho:PE X o td)(hi:PE X i ty)(hs:sU i):PE X (.Subscript o i pos) (zK td ty):=by
 intro pins s σ H Q I h;refine yD GJ.lookup hs (aI (ho pins s σ H _ I h) λu s1 ⟨x,H1,I1,rx,q1⟩=>aI (hi pins s1 σ H1 _ I1 q1) λiv s2 ⟨y,H2,I2,ry,a,kvs,k,v,ex,g,hk,l,q2⟩=>?_);subst ex;obtain rfl:u=Value.ref a:=rx;exact⟨(jz I2 g).1,ux hu I2 g hk l ry λw' s3 I3 rw'=>⟨v,H2,I3,rw',q2⟩⟩
theorem eE(hu:X.A.units+1<cLine):cO X (compareOp .In) Gg:=by
 intro pins s σ H x y v u Q I rx ry ⟨a,kvs,k,ey,g,hk,q⟩;subst ey;obtain rfl:u=Value.ref a:=ry;obtain⟨z,hd,xs,km,dd,is⟩:=fc I.hok g;refine EE hu hd (gg I.hok (hk.raw rx)) dd is ⟨.bl (cC xs k).isSome,H,I.tok _,rfl,?_⟩;rw[←(km.val k).isSome_eq];exact q
theorem dq(hu:X.A.units+1<cLine):cO X (compareOp .NotIn) A6:=by
 intro pins s σ H x y v u Q I rx ry ⟨a,kvs,k,ey,g,hk,q⟩;subst ey;obtain rfl:u=Value.ref a:=ry;obtain⟨z,hd,xs,km,dd,is⟩:=fc I.hok g;refine zA hu hd (gg I.hok (hk.raw rx)) dd is ⟨.bl (!(cC xs k).isSome),H,I.tok _,rfl,?_⟩;rw[←(km.val k).isSome_eq];exact q
theorem gN(hu:X.A.units+1<cLine)(ho:PE X o td)(hi:PE X i ty)(hv:PE X value tv)(hs:swapsWith value (some (.Subscript o i pos')) pos.line X.env=pure false):
  PS X (.Assign [.Subscript o i pos'] value pos) (Gc td ty tv):=by
 intro pins s σ H D I h;refine wpAny_Assign_Subscript (aI (hv pins s σ H _ I h) λr s1 ⟨v,H1,I1,rv,q1⟩=>aI (ho pins s1 σ H1 _ I1 q1) λu s2 ⟨x,H2,I2,rx,q2⟩=>aI (hi pins s2 σ H2 _ I2 q2) λiv s3 ⟨y,H3,I3,ry,a,kvs,k,ex,g,hk,hl,q3⟩=>?_) hs;subst ex;obtain rfl:u=Value.ref a:=rx;exact wG hu I3 g hk hl ry rv λs4 I4=>⟨σ,_,I4,q3⟩
theorem pJ{op:Operator}{rd:V->V->Hp->VK->Prop}(hu:X.A.units+1<cLine)(ho:PE X o td)(hi:PE X i ty)(hv:PE X value tv)(hop:xO X op rd)
  (ha:∀ov iv new,augStore i ov iv new=(do holding [new,ov,iv] (setItem ov iv new);release [new,ov,iv] [];pure .next)):PS X (.AugAssign (.Subscript o i tpos) op value pos) (Gm td ty tv rd):=by
 intro pins s σ H D I h;refine wpAny_AugAssign_SubscriptAny (aI (ho pins s σ H _ I h) λu s1 ⟨x,H1,I1,rx,q1⟩=>aI (hi pins s1 σ H1 _ I1 q1) λiv s2 ⟨y,H2,I2,ry,a,kvs,k,v,ex,g,hk,l,q2⟩=>?_) ha;subst ex;obtain rfl:u=Value.ref a:=rx;refine ux hu I2 g hk l ry λw' s3 I3 rw'=>aI (hv pins s3 σ H2 _ I3 q2) λw2 s4 ⟨y2,H3,I4,ry2,q3⟩=>aI (hop pins s4 σ H3 v y2 w' w2 _ I4 rw' ry2 q3) λw3 s5 ⟨z,H4,I5,rz,kvs',g5,hk5,hl,q4⟩=>?_;exact wG hu I5 g5 hk5 hl ry rz λs6 I6=>⟨σ,_,I6,q4⟩
theorem jq(hu:X.A.units+1<cLine)(ho:PE X o td)(he:PE X e ty)(hf:PE X f tx)(m:M2 X o "get" apos e f cpos):PE X (.Call (.Attribute o "get" apos) [e,f] [] cpos) (Ey td ty tx):=by
 intro pins s σ H Q I h;refine qk m.base m.few m.line tZ PySem.F.slot_dict_get PySem.F.type_dict_get (aI (ho pins s σ H _ I h) λu s1 ⟨x,H1,I1,rx,a,ex,⟨kv0,d⟩,q1⟩=>?_);subst ex;obtain rfl:u=Value.ref a:=rx;refine⟨(jz I1 d).1,(jz I1 d).2,?_⟩;rw[m.trees];refine tP rfl (tQ (m6 (aI (he pins s1 σ H1 _ I1 q1) λiv s2 ⟨y,H2,I2,ry,q2⟩=>
  m6 (aI (hf pins s2 σ H2 _ I2 q2) λfv s3 ⟨z,H3,I3,rz,kvs,k,g,hk,q3⟩=>tM ?_))))
 exact A1 hu I3 g hk ry rz λw' s4 I4 rw'=>⟨_,H3,I4,rw',q3⟩
theorem n0(hu:X.A.units+1<cLine)(ho:PE X o td)(he:PE X e ty)(m:M1 X o "pop" apos e cpos):PE X (.Call (.Attribute o "pop" apos) [e] [] cpos) (B4 td ty):=by
 intro pins s σ H Q I h;refine qk m.base m.few m.line tZ tY PySem.F.type_dict_pop (aI (ho pins s σ H _ I h) λu s1 ⟨x,H1,I1,rx,a,ex,⟨kv0,d⟩,q1⟩=>?_);subst ex;obtain rfl:u=Value.ref a:=rx;refine⟨(jz I1 d).1,(jz I1 d).2,?_⟩;rw[m.trees];refine tP rfl (tQ (m6 (aI (he pins s1 σ H1 _ I1 q1) λiv s2 ⟨y,H2,I2,ry,kvs,k,v,g,hk,l,q2⟩=>tM ?_)));exact xh hu I2 g hk ry l (.inl rfl) λw' s3 I3 rw'=>⟨v,_,I3,rw',q2⟩
theorem Fw(hu:X.A.units+1<cLine)(ho:PE X o td)(he:PE X e ty)(hf:PE X f tx)(m:M2 X o "pop" apos e f cpos):PE X (.Call (.Attribute o "pop" apos) [e,f] [] cpos) (Cm td ty tx):=by
 intro pins s σ H Q I h;refine qk m.base m.few m.line tZ tY PySem.F.type_dict_pop (aI (ho pins s σ H _ I h) λu s1 ⟨x,H1,I1,rx,a,ex,⟨kv0,d⟩,q1⟩=>?_);subst ex;obtain rfl:u=Value.ref a:=rx;refine⟨(jz I1 d).1,(jz I1 d).2,?_⟩;rw[m.trees];refine tP rfl (tQ (m6 (aI (he pins s1 σ H1 _ I1 q1) λiv s2 ⟨y,H2,I2,ry,q2⟩=>
  m6 (aI (hf pins s2 σ H2 _ I2 q2) λfv s3 ⟨z,H3,I3,rz,kvs,k,g,hk,q3,q4⟩=>tM ?_))))
 cases l:aE kvs k with
 |some v=>exact xh hu I3 g hk ry l (.inr ⟨fv,rfl⟩) λw' s4 I4 rw'=>⟨v,_,I4,rw',q3 v l⟩
 |none=>exact zp hu I3 g hk ry l λs4 I4=>⟨z,H3,I4,rz,q4 l⟩
theorem vY(h:Heap)(hb:sysModules<h.objs.size):cQ P w H (h.push {cls:=.type "dict",data:=.dict #[]}) h.objs.size (.dM []):=
 ⟨da _,jM.mpr (bP (cy hb)),[],.nil,ug h⟩
theorem j9:PE X (.Dict [] [] pos) BP:=λpins s σ H Q I h=>
 wpAny_Dict_empty ⟨.ref s.heap.objs.size,_,I.laid (a:=s.heap.objs.size) (o:=.dM []) (t':=s.toks) (λ_ _ q=>bJ _ q) (aJ _) (vY s.heap I.big),rfl,h _ (I.hok.fresh (aJ _))⟩
theorem i7:gE X (.builtin "len") (λxs H Q=>∃a kvs,xs=[V.ref a]/\Rd H a (.dM kvs)/\Q (.int kvs.length) H):=by
 intro pins s σ H xs us Q I r ⟨a,kvs,ex,e,q⟩;subst ex;obtain rfl:=aH.ref1 r;exact E8 I e λt s' I'=>⟨.int kvs.length,H,I',⟨t,rfl⟩,q⟩
end
section
variable{X:Cx}{pins:List (Addr×Obj)}{σ:St}{H:Hp}{s:Shared}{d:Addr}{o:Obj}
theorem ae.frzM(I:ae X pins σ H s)(h:H d=some (.frz o (.dM kvs))):
  (d==sysModules)=false/\s.heap.get? d=some o/\o.ExactDict/\∃(es:Array DictEntry) (ep:Nat),o.data= .dict es ep/\es.size=kvs.length/\
   ∀(i:Nat) (k:MK) (v:V),kvs[i]?=some (k,v)->∃en:DictEntry,es[i]?=some en/\h7 H k en.key/\aT v en.val:=by
 obtain⟨hd,z,hs,xs,pr,o',es,ep,ho,hx,hdt,he,_⟩:=I.hok d _ h;rw[hd]at ho;cases ho;refine⟨hs,hd,hx,es,ep,hdt,?_,λi k v e=>?_⟩
 ·have l1:es.size=xs.length:=by rw[←gh,he,List.length_map]
  have l2:kvs.length=xs.length:=cA pr;omega
 ·obtain⟨b,hb,e1,e2,e3⟩:=dX pr e;have q:es[i]?=some (c9 X.prog X.w b):=by rw[←jN,he,bY,hb];rfl
  exact⟨_,q,e2,e3⟩
theorem xZ:∀{k:MK} {u:Value},h7 H k u->∃y,aT y u/\br H k y
 |.inl x,_,⟨t,e⟩=>⟨.str x,⟨t,e⟩,rfl⟩
 |.inr ks,_,⟨b,e,q⟩=>⟨.ref b,e,b,rfl,q⟩
theorem oS:gE X (.type "dict") (λxs H Q=>∃a kvs,xs=[V.ref a]/\Rd H a (.dM kvs)/\(∀p∈kvs,∃ks,p.1=Sum.inr ks)/\(∀p∈kvs,∀q∈kvs,cU X.prog X.w p.1=cU X.prog X.w q.1->p.1=q.1)/\
  ∀p,H p=none->Q (.ref p) (upd H p (.dM kvs))):=by
 intro pins s σ H xs us Q I r ⟨a,kvs,ex,e,ht,hinj,q⟩;subst ex;obtain rfl:=aH.ref1 r;obtain⟨z,hd,xs,km,dd,is⟩:=fc I.hok e;have hx:xs.length=kvs.length:=(cA km).symm;have back:∀x∈xs,∃p∈kvs,p.1=x.1:=λx hxm=>by
  obtain⟨i,hi⟩:=eV.mp hxm;have hlt:i<kvs.length:=by rw[←hx];exact(cX.mp hi).1
  obtain⟨b,hb,e1,_⟩:=dX km (aZ hlt);rw[hi]at hb;injection hb with hb;subst hb;exact⟨_,sY hlt,e1⟩
 refine Er hd dd is (λx hxm=>?_) (λx hxm y hym hh=>?_) (by omega) λh' dd' hs=>?_
 ·obtain⟨p,hp,e1⟩:=back x hxm;rw[←e1];exact ht p hp
 ·obtain⟨p,hp,e1⟩:=back x hxm;obtain⟨p',hp',e2⟩:=back y hym;rw[←e1,←e2]at hh⊢;exact hinj p hp p' hp' hh
 ·refine⟨.ref s.heap.objs.size,_,I.laid (a:=s.heap.objs.size) (o:=.dM kvs) (t':=s.toks) (λb ob hb=>?_) (aJ _) ⟨z,jM.mpr (bP (cy I.big)),xs,km.keeps λc ys ec=>?_,dd'⟩,rfl,q _ (I.hok.fresh (aJ _))⟩
  ·exact(hs.2 b (cy (bp hb))).trans (bJ _ hb)
  ·rw[ag (ay ec (I.hok.fresh (aJ _)))];exact ec
end
def qQ(d:Addr)(o:Obj)(kvs:List (MK×V)):It:=
 ⟨λi H=>H d=some (.frz o (.dM kvs))/\i<kvs.length,λi H x H'=>H'=H/\∃k v,kvs[i]?=some (k,v)/\br H k x,λi H=>H d=some (.frz o (.dM kvs))/\kvs.length<=i⟩
def wa(d:Addr)(o:Obj)(kvs:List (MK×V)):It:=
 ⟨λi H=>H d=some (.frz o (.dM kvs))/\i<kvs.length,λi H x H'=>H'=H/\∃k,kvs[i]?=some (k,x),λi H=>H d=some (.frz o (.dM kvs))/\kvs.length<=i⟩
section
variable{prog:Program}{w:World}{A:Around}{E:Value->Shared->Prop}{s:Shared}
theorem vA{en:DictEntry}{Q:Option Value->Shared->Prop}(hit:s.heap.IsValIter it d i n ep)(hod:s.heap.get? d=some od)(hdd:od.data= .dict es ep)
  (hsz:es.size=n) (hx:es[i]?=some en) (hQ:∀h',h'.IsValIter it d (i+1) n ep->Heap.SameBut it s.heap h'->Q (some en.val) {s with heap:=h'}):wpAny (model prog w) A (pyNext (.ref it)) Q E s:=by
 obtain⟨o,ho,hc,hd⟩:=id hit;unfold pyNext;refine aa (jO (gZ (name:=Str.ofString "__next__") hit.typeIs ql
  (fV ql hit.typeIs GK ?_ (GP _))))
 refine aa (ah ?_);refine aa ?_;refine aa ?_;first|refine aa (t6 hit.typeIs (ah ?_))|refine aa (t7 hit.typeIs (ah ?_))
 refine aa (tV ho hd ?_);have hown:Builtin.Dict_items.ownsTuple "dict_valueiterator"=false:=by decide
 simp only[hown,eW,dC];show wpAny _ _ (if(Value.ref d==Value.none)=true then _ else _) _ _ s;rw[if_neg (show¬((Value.ref d==Value.none)=true)from c0)];refine aa (ah ?_);refine aa (eM hod hdd ?_);rw[if_neg (by rw[hsz];simp)];refine aa (ah ?_);refine aa (gj hod hdd ?_);rw[if_neg (by simp)];refine ah ?_;obtain⟨hlt',hen⟩:=tW.mp hx;simp only[show¬((i:Int)<0)from by omega,dC,jg,zd hlt'];refine aa ?_;first|refine aa (t6 hit.typeIs (ah ?_))|refine aa (t7 hit.typeIs (ah ?_))
 refine aa (zg hit.typeIs ?_);show wpAny _ _ (setField (.ref it) 1 (rawInt ((i:Int)+1)) >>= _) _ _ s;refine aa (m9 ho hd (by simp) ?_);have hit':(s.heap.update it (Obj.mapFields (·.setIfInBounds 1 (rawInt ((i:Int)+1))))).IsValIter it d (i+1) n ep:=
  ⟨_,gJ _ ho (ze (ng hd _)),(zf ..).trans hc,by rw[ng hd];simp[rawInt]⟩
 refine aa (dJ ?_);refine aa (zg (s:={s with heap:=s.heap.update it (Obj.mapFields (·.setIfInBounds 1 (rawInt ((i:Int)+1))))}) hit'.typeIs ?_);rw[if_neg (by decide)];refine aa (zg (s:={s with heap:=s.heap.update it (Obj.mapFields (·.setIfInBounds 1 (rawInt ((i:Int)+1))))}) hit'.typeIs ?_);rw[if_pos (by decide),hen];exact ah (ah ⟨_,rfl,ah (hQ _ hit' (iy ..))⟩)
theorem vK{Q:Option Value->Shared->Prop}(hh:A.handled=none)(hit:s.heap.IsValIter it d i n ep)(hod:s.heap.get? d=some od)(hdd:od.data= .dict es ep)
  (hsz:es.size=n) (hge:n<=i) (hQ:∀h',Heap.ExtBut it s.heap h'->Q none {s with heap:=h'}):wpAny (model prog w) A (pyNext (.ref it)) Q E s:=by
 obtain⟨o,ho,hc,hd⟩:=id hit;unfold pyNext;refine aa (jO (gZ (name:=Str.ofString "__next__") hit.typeIs ql
  (fV ql hit.typeIs GK ?_ (GP _))))
 refine aa (ah ?_);refine aa ?_;refine aa ?_;first|refine aa (t6 hit.typeIs (ah ?_))|refine aa (t7 hit.typeIs (ah ?_))
 refine aa (tV ho hd ?_);have hown:Builtin.Dict_items.ownsTuple "dict_valueiterator"=false:=by decide
 simp only[hown,eW,dC];show wpAny _ _ (if(Value.ref d==Value.none)=true then _ else _) _ _ s;rw[if_neg (show¬((Value.ref d==Value.none)=true)from c0)];refine aa (ah ?_);refine aa (eM hod hdd ?_);rw[if_neg (by rw[hsz];simp)];refine aa (ah ?_);refine aa (gj hod hdd ?_);rw[if_neg (by simp)];refine ah ?_;have hge':es.size<=i:=by rw[hsz];exact hge
 simp only[show¬((i:Int)<0)from by omega,dC,jg,Array.getElem?_eq_none hge'];refine aa ?_;first|refine aa (t6 hit.typeIs (ah ?_))|refine aa (t7 hit.typeIs (ah ?_))
 show wpAny _ _ (setField (.ref it) 0 .none >>= _) _ _ s;refine aa (m9 ho hd (by simp) ?_);show wpAny _ _ (newExc (.type "StopIteration") [] >>= _) _ _ _;refine aa ?_;simp only[newExc,newTuple];refine aa (gK ?_ (by size_fits));refine aa (m:=firstArgMember _ _) (qj (a:=Value.none) (by first|rfl|(simp only[firstArgMember];rfl)) ?_);refine gK ?_ (by size_fits);simp only[raiseNew];refine aa (wpAny_handled ?_);rw[show A.in1.handled=none from hh];refine aa (ah (wpAny_throw ?_));refine aa (p6 (T:="StopIteration") (b:=true) ⟨_,cn _ rfl,rfl⟩ isSubtype_stop ?_);exact ah (hQ _ (((iy ..).extBut.push _).push _))
theorem wb{v:Addr}(hv:s.heap.IsValuesView v d)(ho:s.heap.get? d=some o)(hdat:o.data= .dict es ep)
  (hQ:Q (.ref s.heap.objs.size) {s with heap:=s.heap.push {cls:=.type "dict_valueiterator",data:=.fields #[.ref d,.int 0 0,.int es.size 0,.int ep 0]} }):wpAny (model prog w) A (pyIter (.ref v)) Q E s:=by
 obtain⟨ov,hov,hcv,hdv⟩:=id hv;refine zc hv.typeIs F.slot_dict_values_iter (fV F.slot_dict_values_iter hv.typeIs F.entry_dict_values_iter ?_ (F.args_dict_values_iter_1 _));unfold Builtin.«dict_values.__iter__»;refine aa (ah ?_);refine aa ?_;unfold Builtin.Dict_items.dictOf;refine aa (gn hov hdv (x:=.ref d) rfl (ah ?_));refine aa ?_;unfold Builtin.Dict_items.newIterator;refine aa (eM ho hdat ?_);refine aa (gj ho hdat ?_);have hown:Builtin.Dict_items.ownsTuple "dict_valueiterator"=false:=by decide
 simp only[hown,eW,dC];refine gK (ah ⟨_,rfl,"dict_valueiterator",_,⟨_,cn _ rfl,rfl⟩,ql.lookup,?_⟩);simpa[rawInt]using hQ
theorem xA(hd:(d==sysModules)=false):
  MeetsIn prog w (Builtin.«dict.values» ⟨[.ref d],[]⟩) (λ_ R s=>s.TypeIs (.ref d) "dict"/\R (.ok (.ret (.ref s.heap.objs.size))) {s with heap:=s.heap.push {cls:=.type "dict_values",data:=.fields #[.ref d]} }):=
 .of_wp λA R s ⟨hT,h⟩=>by
  refine aa ?_;unfold Builtin.Dict.noArgs;refine aa (mX hT ?_);show wpAny _ _ (pure d) _ _ s;refine ah ?_;show wpAny _ _ (Builtin.Dict.showsAll d >>= _) _ _ s;unfold Builtin.Dict.showsAll;rw[if_neg (by rw[hd];exact c0)];refine aa (ah ?_);exact aa (gK (ah ⟨_,rfl,h⟩))
end
section
variable{P:Program}{w:World}{K:PySem.W.Frag}{tg:Expr}{d:Addr}{o:Obj}{es:Array DictEntry}{ep:Nat}
theorem yd(it:Addr)(hod:o.data= .dict es ep):gW P w K tg (qQ d o kvs) [it] it (λi h=>h.IsKeyIter it d i kvs.length ep)where
 mem:=by simp
 obj:=λi h st b hb=>by
  have e:b=it:=by simpa using hb
  subst e;obtain⟨oi,e,c,dd⟩:=st;exact⟨oi,e,λv z=>by rw[dd]at z;cases z⟩
 keep:=λi h h' st k=>st.at λoi e=>k it (by simp) oi e
 item:=by
  intro X hP hw hK hc i pins s σ H E I hf st hg;subst hP hw hK;obtain⟨hd,hi⟩:=hg;obtain⟨f0,f1,f2,f3,f4,f5⟩:=hf it (by simp);obtain⟨hs,hgd,hx,es',ep',hdt,hsz,ent⟩:=I.frzM hd;obtain⟨rfl,rfl⟩:=oI hod hdt;obtain⟨⟨k,v⟩,hkv⟩:∃p,kvs[i]?=some p:=⟨kvs[i],aZ hi⟩;obtain⟨en,hen,hkey,_⟩:=ent i k v hkv;obtain⟨y,ry,my⟩:=xZ hkey;refine wy st hgd hdt hsz hen λh' st' sb=>?_;have I1:ae X pins σ H {s with heap:=h'}:=I.turned (t':=s.toks) (λb ob hb e=>(sb.2 b hb).trans e) f0 f1 f3 f4 f5;obtain⟨oi,e,c,dd⟩:=id st';exact⟨en.key,rfl,l7 (s:={s with heap:=h'}) e c dd (by decide) ⟨y,H,I1,ry,⟨rfl,k,v,hkv,my⟩,st',λb hb=>(hf b hb).1⟩⟩
 done:=by
  intro X hP hw hK hc i pins s σ H E I hf st hg;subst hP hw hK;obtain⟨hd,hi⟩:=hg;obtain⟨f0,f1,f2,f3,f4,f5⟩:=hf it (by simp);obtain⟨hs,hgd,hx,es',ep',hdt,hsz,ent⟩:=I.frzM hd;obtain⟨rfl,rfl⟩:=oI hod hdt;exact yr (I.ok.hd hc) st hgd hdt hsz hi λh' eb=>⟨rfl,I.turned (t':=s.toks) (λb ob hb e=>eb b ob hb e) f0 f1 f3 f4 f5⟩
 self:=λA i s Q E st h=>by
  refine zc st.typeIs F.slot_dict_keyiterator_iter (fV F.slot_dict_keyiterator_iter st.typeIs F.entry_dict_keyiterator_iter ?_ (F.args_dict_keyiterator_iter_1 _));show wpAny _ _ (ret (.ref it)) _ _ s;exact ah ⟨_,rfl,"dict_keyiterator",_,st.typeIs,m8.lookup,h⟩
theorem DR(it:Addr)(hod:o.data= .dict es ep):gW P w K tg (wa d o kvs) [it] it (λi h=>h.IsValIter it d i kvs.length ep)where
 mem:=by simp
 obj:=λi h st b hb=>by
  have e:b=it:=by simpa using hb
  subst e;obtain⟨oi,e,c,dd⟩:=st;exact⟨oi,e,λv z=>by rw[dd]at z;cases z⟩
 keep:=λi h h' st k=>by
  obtain⟨oi,e,r⟩:=st;exact⟨oi,k it (by simp) oi e,r⟩
 item:=by
  intro X hP hw hK hc i pins s σ H E I hf st hg;subst hP hw hK;obtain⟨hd,hi⟩:=hg;obtain⟨f0,f1,f2,f3,f4,f5⟩:=hf it (by simp);obtain⟨hs,hgd,hx,es',ep',hdt,hsz,ent⟩:=I.frzM hd;obtain⟨rfl,rfl⟩:=oI hod hdt;obtain⟨⟨k,v⟩,hkv⟩:∃p,kvs[i]?=some p:=⟨kvs[i],aZ hi⟩;obtain⟨en,hen,_,rv⟩:=ent i k v hkv;refine vA st hgd hdt hsz hen λh' st' sb=>?_;have I1:ae X pins σ H {s with heap:=h'}:=I.turned (t':=s.toks) (λb ob hb e=>(sb.2 b hb).trans e) f0 f1 f3 f4 f5;obtain⟨oi,e,c,dd⟩:=id st';exact⟨en.val,rfl,l7 (s:={s with heap:=h'}) e c dd (by decide) ⟨v,H,I1,rv,⟨rfl,k,hkv⟩,st',λb hb=>(hf b hb).1⟩⟩
 done:=by
  intro X hP hw hK hc i pins s σ H E I hf st hg;subst hP hw hK;obtain⟨hd,hi⟩:=hg;obtain⟨f0,f1,f2,f3,f4,f5⟩:=hf it (by simp);obtain⟨hs,hgd,hx,es',ep',hdt,hsz,ent⟩:=I.frzM hd;obtain⟨rfl,rfl⟩:=oI hod hdt;exact vK (I.ok.hd hc) st hgd hdt hsz hi λh' eb=>⟨rfl,I.turned (t':=s.toks) (λb ob hb e=>eb b ob hb e) f0 f1 f3 f4 f5⟩
 self:=λA i s Q E st h=>wpAny_pyIter_valiter st h
end
def F3(td:TE):TI:=λσ H R=>td σ H λx H1=>∃d o kvs,x= .ref d/\H1 d=some (.frz o (.dM kvs))/\R (qQ d o kvs) H1
def BS(td:TE):TI:=λσ H R=>td σ H λx H1=>∃d o kvs,x= .ref d/\H1 d=some (.frz o (.dM kvs))/\R (wa d o kvs) H1
section
variable{X:Cx}{tg e:Expr}{td:TE}{apos cpos:Pos}
theorem ph(he:PE X e td):PI X tg e (F3 td):=by
 intro pins s σ H R I h;refine aI (he pins s σ H _ I h) λu s1 ⟨x,H1,I1,rx,d,o,kvs,ex,hd,q⟩=>?_;subst ex;obtain rfl:u=Value.ref d:=rx;obtain⟨hs,hgd,hx,es,ep,hdt,hsz,ent⟩:=I1.frzM hd;refine qC hs hgd hx hdt (ou (tk:=s1.toks) I1 _ (yd _ hdt) ⟨_,cn _ rfl,rfl,?_⟩ q);rw[hsz]<;>rfl
theorem yB(he:PE X e td)(hbase:attributeBase e "values" X.env (eval e X.env)=eval e X.env:=by rfl)(hline:(apos.endLine==cpos.line)=true:=by rfl):PI X tg (.Call (.Attribute e "values" apos) [] [] cpos) (BS td):=by
 intro pins s σ H R I h;refine qk (T:="dict") (id:="dict.values") hbase rfl hline F.plainAttrs_dict F.slot_dict_values F.type_dict_values (aI (he pins s σ H _ I h) λu s1 ⟨x,H1,I1,rx,d,o,kvs,ex,hd,q⟩=>?_);subst ex;obtain rfl:u=Value.ref d:=rx;obtain⟨hs,hgd,hx,es,ep,hdt,hsz,ent⟩:=I1.frzM hd;have hT:s1.TypeIs (.ref d) "dict":=⟨o,hgd,hx.1⟩;refine⟨hT,λb q=>by cases q;exact⟨o,hgd,hx.2.1⟩,?_⟩;have I2:ae X pins σ H1 {s1 with heap:=s1.heap.push {cls:=.type "dict_values",data:=.fields #[.ref d]} }:=I1.kept (t':=s1.toks) λb ob q=>bJ _ q;have fin:wpAny (model X.prog X.w) X.A (pyIter (.ref s1.heap.objs.size)) (pO X pins σ tg R) X.xe {s1 with heap:=s1.heap.push {cls:=.type "dict_values",data:=.fields #[.ref d]} }:=by
  refine wb (d:=d) ⟨_,cn _ rfl,rfl,rfl⟩ (bJ _ hgd) hdt (ou (tk:=s1.toks) I2 _ (DR _ hdt) ⟨_,cn _ rfl,rfl,?_⟩ q);rw[hsz]<;>rfl
 show wpAny _ _ (callWith cpos (.builtin "dict.values") [.ref d] [] []) _ X.xe s1;exact method_meetsIn F.slot_dict_values F.entry_dict_values rfl (PySem.evalArgs_none ⟨rfl,hT,F.args_dict_values_1 _,_,xA hs,hT,fin⟩)
end
def qv(X:Cx)(f:Value)(ks:List Str)(r:List V->List V->Hp->VK->Prop):Prop:=
 ∀(pins:List (Addr×Obj)) (s:Shared) (σ:St) (H:Hp) (xs zs:List V) (us ws:List Value) (Q:VK),ae X pins σ H s->aH xs us->aH zs ws->r xs zs H Q->
  wpAny (model X.prog X.w) X.A (call f us (ks.zip ws)) (EP X pins σ Q) X.xe s
def FZ(r:List V->List V->Hp->VK->Prop)(t tk:TA):TE:=λσ H Q=>t σ H λvs H1=>tk σ H1 λzs H2=>r vs zs H2 Q
theorem yn{es:List Expr}{kws:List Keyword}{t tk:TA}{id:String}{ks:List Str}{r:List V->List V->Hp->VK->Prop}(hc:qv X (.builtin id) ks r)(hg:Gl X x)(hm:X.mg x=none)(hv:bootBuiltins x=some (.builtin id))
  (ha:PA X (e::es) t) (hkw:PK X kws tk) (hall:(backToKw pos (keywordEach kws X.env)).all (·.1.isSome)=true:=by rfl) (hks:(backToKw pos (keywordEach kws X.env)).filterMap (·.1)=ks:=by rfl) (hnn:(backToKw pos (keywordEach kws X.env)).any (·.1.isNone)=false:=by rfl)
  (hn:x≠"__name__":=by decide) (hdb:(x==("__debug__":Str))=false:=by decide)
  (he:starEach (e::es) X.env=(false,eval e X.env)::starEach es X.env:=by rfl) (cc:(backTo pos (starEach es X.env)).any (·.1)=false:=by rfl):PE X (.Call (.Name x p) (e::es) kws pos) (FZ r t tk):=by
 intro pins s σ H Q I h;refine m7 (iO I hg hm hv ?_ hn hdb);have hA:=ha pos pins s σ H _ I h;rw[he]at hA⊢;refine callWith_builtin_kwB (by show(false||(backTo pos (starEach es X.env)).any (·.1))=false;rw[cc]<;>rfl) hnn (evalArgs_kwB hall (aI hA λus s1 ⟨vs,H1,I1,r1,q1⟩=>?_));refine aI (hkw pos pins s1 σ H1 _ I1 q1) λws s2 ⟨zs,H2,I2,rz,q2⟩=>?_;rw[hks];exact hc pins s2 σ H2 vs zs us ws Q I2 r1 rz q2
theorem uE{id:String}{b:Builtin}{args:Args}(hp:plainId id=true)(hb:entryFor table id=some b)(ha:checkBuiltinCall id args=pure ())
  (hc:wpAny (model prog w) A.in1 (b args) (λfin s'=>match fin with
   |.done f=>(match(Except.ok f:Result)with|.ok (.ret v)=>Q v s'|.ok _=>False|.error e=>E e s')
   |.again c'=>c'.quiet=true/\codeAny (model prog w) A c' (λr s'=>match r with|.ok (.ret v)=>Q v s'|.ok _=>False|.error e=>E e s') s') E s):
  wpAny (model prog w) A (call (.builtin id) args.pos args.kw) Q E s:=by
 exact wpAny_call (codeAny_call_builtin hp hb (qj ha hc))
abbrev bw(H:Hp):List MK->List V->Prop:=Paired (br H)
theorem wU{P':Program}{w':World}(x:bR P w h k v):bR P' w' h k v:=by
 cases k with
 |inl y=>exact x
 |inr ks=>
  obtain⟨a,e,o,its,n,h1,h2,h3,h4⟩:=x;refine⟨a,e,o,its,n,h1,h2,h3,?_⟩;have:∀{ks:List dh} {us:List Value},ItemsAre (ed P w) ks us->ItemsAre (ed P' w') ks us:=by
   intro ks us q
   induction q with
   |nil=>exact .nil
   |cons h t ih=>exact .cons h ih
  exact this h4
theorem vW{P:Program}{w:World}{H:Hp}{h:Heap}(ok:cg P w H h){k:MK}{e:Value->Bool}(he:∀j v,bR P w h j v->e v=decide (j=k)):∀{ks:List MK} {xs:List V} {us:List Value},bw H ks xs->aH xs us->us.any e=ks.any λj=>decide (j=k)
 |_,_,_,.nil,r=>by cases r;rfl
 |j::ks,_,_,.cons m t,r=>by
  cases r with
  |cons r1 r2=>rw[qg,qg,vW ok he t r2,he j _ (gg ok (m.raw r1))]
theorem ui{P:Program}{w:World}{H:Hp}{h:Heap}(ok:cg P w H h):∀{ks:List MK} {xs:List V} {us:List Value},bw H ks xs->aH xs us->∀u∈us,∃j,bR P w h j u
 |_,_,_,.nil,r=>by cases r;intro u hu;exact nomatch hu
 |j::ks,_,_,.cons m t,r=>by
  cases r with
  |cons r1 r2=>
   intro u hu;rcases a9.mp hu with e|hu
   ·subst e;exact⟨j,gg ok (m.raw r1)⟩
   ·exact ui ok t r2 u hu
open Classical in
noncomputable def o7 (P:Program) (w:World) (h:Heap) (k:MK) (v:Value):Bool:=if bR P w h k v then true else false
theorem vO{j:MK}(x:bR P w h j v):o7 P w h k v=decide (j=k):=by
 unfold o7;by_cases e:j=k
 ·subst e;rw[if_pos x];simp
 ·rw[if_neg (λz=>e (uL x z)),ba e]
section
variable{X:Cx}
def sS(K:PySem.W.Frag):R2:=λy x H Q=>∃a xs ks k,x= .ref a/\SqL K H a xs/\bw H ks xs/\br H k y/\Q (.bl (ks.any λj=>decide (j=k))) H
theorem xB(hu:X.A.units+2<cLine):cO X (compareOp .In) (sS X.K):=by
 intro pins s σ H x y v u Q I rx ry ⟨a,xs,ks,k,ey,hs,hm,hk,q⟩;subst ey;obtain rfl:u=Value.ref a:=ry;obtain⟨its,r,pl,_⟩:=I.list hs;have hkv:=gg I.hok (hk.raw rx);refine SeqAt.in_listAt (o7 X.prog X.w s.heap k) pl.isList (λz hz=>?_) ⟨.bl (ks.any λj=>decide (j=k)),H,I,?_,q⟩
 ·obtain⟨j,hj⟩:=ui I.hok hm r z (by simpa using hz);rw[vO hj];exact λprog w E Q hq=>pK (P:=prog) (w:=w) (by show X.A.units+1<cLine;omega) (wU hj) (wU hkv) hq
 ·show Value.bool (its.toArray.any (o7 X.prog X.w s.heap k))=Value.bool (ks.any λj=>decide (j=k));rw[List.any_toArray,vW I.hok (λj v hj=>vO hj) hm r]
end
def fy(nm:Nat->Int):Nat->Option Int
 |0=>none
 |k+1=>match fy nm k with
  |none=>some (nm k)
  |some m=>some (if nm k>m then nm k else m)
section
variable{prog:Program}{w:World}{A:Around}{R:Result->Shared->Prop}{I:Addr}{fp wr:List Addr}{n:Nat}{P:Nat->Value->Prop}{St:Nat->Heap->Prop}
def A7:Option (Int×Tok)->Array Value
 |none=>#[]
 |some (m,t)=>#[.int m t,.int m t]
theorem Fl{d:Value}(W:Walks prog w A.in1 I fp wr n P St)(nm:Nat->Int)(hP:∀i v,P i v->∃t,v= .int (nm i) t)(S:Addr)(hSf:S∉fp):
  ∀(k j:Nat) (s:Shared) (best:Option (Int×Tok)) (c:Nat),n-j=k->j<=n->St j s.heap->best.map (·.1)=fy nm j->
  s.heap.get? S=some {cls:=.type "list",dict:=none,data:=.seq (A7 best) c,slots:=#[]}->
  (∀v h' tk,(fy nm n=none->v=d)->(∀m,fy nm n=some m->∃t,v= .int m t)->(∀b o,b∉wr->b≠S->s.heap.get? b=some o->h'.get? b=some o)->R (.ok (.ret v)) {s with heap:=h',toks:=tk})->
  codeAny (model prog w) A (.builtin "max.loop" ⟨[.ref I,.none,.ref S],[("default",d)]⟩) R s:=by
 have hSw:S∉wr:=λh=>hSf (W.sub _ h);have hname:(toString "max"++toString ".loop":String)="max.loop":=by decide
 intro k
 induction k with
 |zero=>
  intro j s best c hk hj hst hb hS hR;have hin:j=n:=by omega
  refine nh F.entry_max_loop ?_;rw[ni nj _];show wpAny _ A.in1 (seqItems? (.ref S) >>= _) _ _ s;refine aa (iz hS rfl ?_);show wpAny _ A.in1 (tryCatch (pyNext (.ref I)) _ >>= _) _ _ s;refine aa (wpAny_tryCatch (W.done s _ _ (hin▸hst) λh' tk hk'=>?_));have hS':=hk' S _ hSw hS;rw[hin]at hb;cases best with
  |none=>
   show wpAny _ A.in1 (rule _ >>= _) _ _ _;refine aa (eC (ah ?_));exact hR d _ tk (λ_=>rfl) (λm e=>by rw[←hb]at e;cases e) λb o hbw _ e=>hk' b o hbw e
  |some p=>
   obtain⟨m,t⟩:=p;show wpAny _ A.in1 (updateSeq S (λ_=>#[]) >>= _) _ _ _;refine aa ?_;refine nq (hz:=by show 2<=sizeLine;decide) hS' rfl (aa (gm (ah ?_)));refine hR (.int m t) _ tk (λe=>by rw[←hb]at e;cases e) (λm' e=>?_) λb o hbw hbS e=>(fq _ _ (bP hbS)).trans (hk' b o hbw e);rw[←hb]at e;injection e with e;exact⟨t,by rw[←e]⟩
 |succ k ih=>
  intro j s best c hk hj hst hb hS hR;have hlt:j<n:=by omega
  refine nh F.entry_max_loop ?_;rw[ni nj _];show wpAny _ A.in1 (seqItems? (.ref S) >>= _) _ _ s;refine aa (iz hS rfl ?_);show wpAny _ A.in1 (tryCatch (pyNext (.ref I)) _ >>= _) _ _ s;refine aa (wpAny_tryCatch (W.item j s _ _ hlt hst λv h' tk hPv hst' hk'=>?_));have hS':=hk' S _ hSw hS;obtain⟨tv,rfl⟩:=hP j v hPv;cases best with
  |none=>
   have e1:fy nm (j+1)=some (nm j):=by
    show(match fy nm j with|none=>some (nm j)|some m=>some (if nm j>m then nm j else m))=some (nm j);rw[←hb];rfl
   show wpAny _ A.in1 (updateSeq S (λ_=>#[.int (nm j) tv,.int (nm j) tv]) >>= _) _ _ _;refine aa ?_;refine nq hS' rfl ?_;rw[hname];refine ah ⟨lh nj _,ih (j+1) _ (some (nm j,tv)) _ (by omega) hlt (W.frame _ _ _ hst' λb hbf o e=>?_) e1.symm (gJ _ hS' rfl) λv' h'' tk'' q1 q2 hk''=>?_⟩
   ·exact(fq _ _ (λh:S=b=>hSf (by rw[h];exact hbf))).trans e
   ·exact hR v' h'' tk'' q1 q2 λb o hbw hbS e=>hk'' b o hbw hbS ((fq _ _ (bP hbS)).trans (hk' b o hbw e))
  |some p=>
   obtain⟨m,t⟩:=p;have e1:fy nm (j+1)=some (if nm j>m then nm j else m):=by
    show(match fy nm j with|none=>some (nm j)|some m=>some (if nm j>m then nm j else m))=_;rw[←hb];rfl
   show wpAny _ A.in1 (tryCatch (holding [.int (nm j) tv,.int (nm j) tv] (richCompare .Gt (.int (nm j) tv) (.int m t) >>= _)) _ >>= _) _ _ _;refine aa (wpAny_tryCatch (dJ (aa ?_)));refine richCompare_gives (op:=.Gt) (kW _ _ tv) (kW _ _ t) F.slot_int_gt F.entry_int_gt (F.args_int_gt_2 _ _) (gives_int_gt _ _ tv t) (λx=>nomatch x) ?_;refine aa (dJ (gY ?_));refine aa (gm (ah ?_));by_cases q:nm j>m
   ·rw[aO q];rw[if_pos q]at e1;simp only[fU];refine aa ?_;refine nq (hz:=by show 2<=sizeLine;decide) hS' rfl (aa (gm ?_));rw[hname];refine ah ⟨lh nj _,ih (j+1) _ (some (nm j,tv)) _ (by omega) hlt (W.frame _ _ _ hst' λb hbf o e=>?_) e1.symm (gJ _ hS' rfl) λv' h'' tk'' q1 q2 hk''=>?_⟩
    ·exact(fq _ _ (λh:S=b=>hSf (by rw[h];exact hbf))).trans e
    ·exact hR v' h'' tk'' q1 q2 λb o hbw hbS e=>hk'' b o hbw hbS ((fq _ _ (bP hbS)).trans (hk' b o hbw e))
   ·rw[ba q];rw[if_neg q]at e1;simp only[eW,dC];refine aa (gm ?_);rw[hname];refine ah ⟨lh nj _,ih (j+1) _ (some (m,t)) c (by omega) hlt hst' e1.symm hS' λv' h'' tk'' q1 q2 hk''=>?_⟩;exact hR v' h'' tk'' q1 q2 λb o hbw hbS e=>hk'' b o hbw hbS (hk' b o hbw e)
end
theorem Cz(a d:Value):checkBuiltinCall "max" ⟨[a],[("default",d)]⟩=pure ():=by kernel_rfl
section
variable{prog:Program}{w:World}{A:Around}{E:Value->Shared->Prop}{s:Shared}{l:Addr}{its:List Value}{ns:List Int}{Q:Value->Shared->Prop}{d:Value}
theorem Ea(hh:A.handled=none)(hl:s.heap.IsList l its.toArray)(hi:IntsAre its ns)
  (h:∀v h' tk,(fy (λi=>ns.getD i 0) ns.length=none->v=d)->(∀m,fy (λi=>ns.getD i 0) ns.length=some m->∃t,v= .int m t)->(∀b o,s.heap.get? b=some o->h'.get? b=some o)->Q v {s with heap:=h',toks:=tk}):
  wpAny (model prog w) A (call (.builtin "max") [.ref l] [("default",d)]) Q E s:=by
 have hname:(toString "max"++toString ".loop":String)="max.loop":=by decide
 have hlt:l<s.heap.objs.size:=by obtain⟨_,e,_⟩:=hl;exact bp e
 have hlen:its.toArray.size=ns.length:=by rw[←hi.length];simp
 refine uE (args:=⟨[.ref l],[("default",d)]⟩) F.plain_max F.entry_max (Cz _ _) ?_;show wpAny _ A.in1 (Builtin.Builtins.bindParams "max" ["key","default"] 0 ⟨[],[("default",d)]⟩ >>= _) _ _ s;refine aa (qj (show Builtin.Builtins.bindParams "max" ["key","default"] 0 ⟨[],[("default",d)]⟩=pure [none,some d]from rfl) ?_);refine aa (ah ?_);refine aa (tL hl ?_);refine aa (gK ?_);rw[hname];have W:=Walks.list (prog:=prog) (w:=w) (A:=A.in1) hh s.heap.objs.size l (cy hlt) its.toArray;have hne:l≠s.heap.objs.size:=cy hlt;have hl1:=hl.push {cls:=.type "list_iterator",data:=.fields #[.ref l,.int 0 0]};have hit:(s.heap.push {cls:=.type "list_iterator",data:=.fields #[.ref l,.int 0 0]}).IsListIter s.heap.objs.size l 0:=⟨_,cn _ rfl,rfl,rfl⟩;have hsz:(s.heap.push {cls:=.type "list_iterator",data:=.fields #[.ref l,.int 0 0]}).objs.size=s.heap.objs.size+1:=dU ..
 refine ah ⟨lh nj _,Fl W (λi=>ns.getD i 0) (λi v q=>?_) _ ?_ ns.length 0 _ none 0 (by rw[hlen];rfl) (da _) ?_ rfl (cn _ rfl) λv h' tk q1 q2 hk=>?_⟩
 ·have hlt2:i<its.toArray.size:=(tW.mp q).1;obtain⟨t,ht⟩:=hi.get i (ns.getD i 0) (by rw[du,aZ (by rw[←hlen];exact hlt2)];rfl);rw[List.getElem?_toArray,ht]at q;exact⟨t,(b9 q).symm⟩
 ·show(s.heap.push {cls:=.type "list_iterator",data:=.fields #[.ref l,.int 0 0]}).objs.size∉[s.heap.objs.size,l];rw[hsz];intro z;rcases a9.mp z with z|z
  ·exact Nat.succ_ne_self _ z
  ·rcases a9.mp z with z|z
   ·exact fW l (dN hlt (by rw[←z];exact Nat.le_succ _))
   ·exact nomatch z
 ·refine W.frame 0 _ _ ⟨hit,hl1⟩ λb hb o e=>bJ _ e
 ·rw[hlen]at q1 q2;refine h v h' tk q1 q2 λb o e=>hk b o ?_ ?_ (bJ _ (bJ _ e))
  ·intro z;rcases a9.mp z with z|z
   ·exact cy (bp e) z
   ·exact nomatch z
  ·show b≠(s.heap.push {cls:=.type "list_iterator",data:=.fields #[.ref l,.int 0 0]}).objs.size;rw[hsz];exact cy (lg (bp e))
end
def C7(K:PySem.W.Frag):List V->List V->Hp->VK->Prop:=λvs zs H Q=>∃(a:Addr) (ns:List Int) (d:Int),vs=[V.ref a]/\zs=[.int d]/\SqL K H a (ns.map V.int)/\Q (.int ((fy (λi=>ns.getD i 0) ns.length).getD d)) H
theorem E9(hc:X.calm=true):qv X (.builtin "max") ["default"] (C7 X.K):=by
 intro pins s σ H xs zs us ws Q I r rz ⟨a,ns,d,ex,ez,hs,q⟩;subst ex ez;obtain rfl:=aH.ref1 r;obtain⟨its,r2,pl,_⟩:=I.list hs;cases rz with
 |@cons z1 w1 zr wr h1 h2=>
  cases h2;obtain⟨td,rfl⟩:=h1;refine Ea (I.ok.hd hc) pl.isList r2.ints λv h' tk q1 q2 hk=>?_;cases e:fy (λi=>ns.getD i 0) ns.length with
  |none=>
   rw[q1 e];refine⟨.int d,H,I.kept (t':=tk) hk,⟨td,rfl⟩,?_⟩;rw[e]at q;exact q
  |some m=>
   obtain⟨t,rfl⟩:=q2 m e;refine⟨.int m,H,I.kept (t':=tk) hk,⟨t,rfl⟩,?_⟩;rw[e]at q;exact q
section
variable{prog:Program}{w:World}{A:Around}{E:Value->Shared->Prop}{R:Result->Shared->Prop}
theorem Df{S:Addr}{res:Value}(hh:A.handled=none)(h1:S≠it)(h2:S≠d)(h3:it≠d)(hdat:od.data= .dict es ep)(hsz:es.size<=sizeLine):
  ∀(k i:Nat) (s:Shared) (acc:List Value) (c:Nat),es.size-i=k->i<=es.size->s.heap.IsKeyIter it d i es.size ep->s.heap.get? d=some od->s.heap.get? S=some {cls:=.type "list",data:=.seq acc.toArray c}->acc=(es.toList.take i).map (·.key)->
  (∀h' c',h'.get? S=some {cls:=.type "list",data:=.seq ((es.toList.map (·.key)).toArray) c'}->(∀b o,b≠S->b≠it->s.heap.get? b=some o->h'.get? b=some o)->R (.ok (.ret res)) {s with heap:=h'})->
  codeAny (model prog w) A (.builtin "list.extend.loop" ⟨[.ref S,.ref it,res],[]⟩) R s:=by
 intro k
 induction k with
 |zero=>
  intro i s acc c hk hi hit hod hS hacc hR;have hin:i=es.size:=by omega
  subst hin;refine nh F.entry_extend_loop ?_;rw[ni t9 _];show wpAny _ A.in1 (pyNext (.ref it) >>= _) _ _ s;refine aa (yr (A:=A.in1) hh hit hod hdat rfl (aJ _) λh' eb=>ah (hR h' c ?_ λb o _ hb e=>eb b o hb e));have e:=eb S _ h1 hS;rw[hacc,jP (by rw[gh];exact aJ _)]at e;exact e
 |succ k ih=>
  intro i s acc c hk hi hit hod hS hacc hR;have hlt:i<es.size:=by omega
  refine nh F.entry_extend_loop ?_;rw[ni t9 _];show wpAny _ A.in1 (pyNext (.ref it) >>= _) _ _ s;have hx:es[i]?=some es[i]:=getElem?_pos es i hlt;have hal:acc.toArray.size=i:=by
   rw[hacc];simp;omega
  refine aa (wy (A:=A.in1) hit hod hdat rfl hx λh' hit' sb=>?_);have hS':h'.get? S=some {cls:=.type "list",data:=.seq acc.toArray c}:=(sb.2 S h1).trans hS;have hod':h'.get? d=some od:=(sb.2 d (bP h3)).trans hod;show wpAny _ A.in1 (updateSeq S (·.push es[i].key) >>= _) _ _ _;refine aa (nq hS' rfl ?_ (by rw[hal];omega) (by show(acc.toArray.push es[i].key).size<=sizeLine+1;rw[Array.size_push,hal];omega));refine ah ⟨lh t9 _,ih (i+1) _ (acc++[es[i].key]) (if(acc.toArray.push es[i].key).size==acc.toArray.size then c else c+1) (by omega) hlt ?_ ?_ ?_ ?_ λh'' c' q1 q2=>?_⟩
  ·obtain⟨oi,e1,r⟩:=hit';exact⟨oi,(fq _ _ h1).trans e1,r⟩
  ·exact(fq _ _ h2).trans hod'
  ·have e:=get?_update_seq (h:=h') (a:=S) (c:="list") (xs:=acc.toArray) (n:=c) hS' (·.push es[i].key);simpa using e
  ·rw[hacc];have ht:es.toList.take (i+1)=es.toList.take i++[es[i]]:=by
    have hl:i<es.toList.length:=by simpa using hlt
    rw[fY hl];simp
   rw[ht,cf];rfl
  ·refine hR h'' c' q1 λb o hbS hbi e=>q2 b o hbS hbi ?_;exact(fq _ _ (bP hbS)).trans ((sb.2 b hbi).trans e)
end
section
variable{prog:Program}{w:World}{A:Around}{E:Value->Shared->Prop}{s:Shared}{d:Addr}{o:Obj}{es:Array DictEntry}{ep:Nat}{Q:List Value->Shared->Prop}
theorem zQ(hh:A.handled=none)(hd:(d==sysModules)=false)(ho:s.heap.get? d=some o)(hc:o.ExactDict)(hdat:o.data= .dict es ep)(hsz:es.size<=sizeLine)
  (h:∀h',(∀b ob,s.heap.get? b=some ob->h'.get? b=some ob)->Q (es.toList.map (·.key)) {s with heap:=h'}):wpAny (model prog w) A (collect (.ref d)) Q E s:=by
 have hlt:d<s.heap.objs.size:=bp ho;unfold collect;refine aa (wpAny_runValue (nh F.entry_proto_collect ?_));rw[ni F.plain_proto_collect _];show wpAny _ A.in1 (newList [] >>= λl=>again (.builtin "list.__iadd__" ⟨[l,.ref d],[]⟩)) _ _ s;refine aa (gK ?_);refine ah ⟨lh F.plain_list_iadd _,nh F.entry_list_iadd ?_⟩;rw[ni F.plain_list_iadd _];generalize hs1:({s with heap:=s.heap.push {cls:=.type "list",data:=.seq ([]:List Value).toArray} }:Shared)=s1;have e1:s1.heap=s.heap.push {cls:=.type "list",data:=.seq ([]:List Value).toArray}:=by rw[←hs1]
 have hS1:s1.heap.get? s.heap.objs.size=some {cls:=.type "list",data:=.seq ([]:List Value).toArray}:=by rw[e1];exact cn _ rfl
 have ho1:s1.heap.get? d=some o:=by rw[e1];exact bJ _ ho
 have hT:s1.TypeIs (.ref d) "dict":=⟨o,ho1,hc.1⟩;have hne:s.heap.objs.size≠d:=bP (cy hlt);have h1:Builtin.List.listSameRef (.ref s.heap.objs.size) (.ref d)=false:=by simp[Builtin.List.listSameRef,hne]
 show wpAny _ A.in1 (Builtin.List.listExtendWith (.ref s.heap.objs.size) (.ref d) (.ref s.heap.objs.size)) _ _ _;unfold Builtin.List.listExtendWith;refine aa (tH hT ?_);rw[if_neg (by rw[h1];decide)];refine aa (qC hd ho1 hc hdat ?_);refine aa (dJ ?_);generalize hs2:({s1 with heap:=s1.heap.push {cls:=.type "dict_keyiterator",data:=.fields #[.ref d,.int 0 0,.int es.size 0,.int ep 0]} }:Shared)=s2;have e2:s2.heap=s1.heap.push {cls:=.type "dict_keyiterator",data:=.fields #[.ref d,.int 0 0,.int es.size 0,.int ep 0]}:=by rw[←hs2]
 have hS2:s2.heap.get? s.heap.objs.size=some {cls:=.type "list",data:=.seq ([]:List Value).toArray}:=by rw[e2];exact bJ _ hS1
 have ho2:s2.heap.get? d=some o:=by rw[e2];exact bJ _ ho1
 have hT2:s2.TypeIs (.ref d) "dict":=⟨o,ho2,hc.1⟩;have hit2:s2.heap.IsKeyIter s1.heap.objs.size d 0 es.size ep:=by rw[e2];exact⟨_,cn _ rfl,rfl,rfl⟩
 have sz1:s1.heap.objs.size=s.heap.objs.size+1:=by rw[e1];exact dU ..
 unfold Builtin.List.listLengthHint;refine aa (p0 hT2 F.slot_dict_len.lookup ?_);generalize hid:("dict.__len__":String)=id0
 wp_delta
 rw[show splitId id0=some ("dict","__len__")from by subst hid;decide +kernel];subst hid;dsimp only;refine aa (p6 (b:=true) hT2 isSubtype_dict_dict ?_);rw[if_neg (by decide)];refine aa (tH hT2 ?_);refine ah ?_;show wpAny _ A.in1 (rule "list.extend.makes-room" >>= λ_=>Builtin.List.listTouch (.ref s.heap.objs.size) >>= λ_=>
  again (.builtin "list.extend.loop" ⟨[.ref s.heap.objs.size,.ref s1.heap.objs.size,.ref s.heap.objs.size],[]⟩)) _ _ _
 refine aa (eC ?_);refine aa ?_;show wpAny _ A.in1 (updateSeq s.heap.objs.size (·.push .none) >>= λ_=>updateSeq s.heap.objs.size (·.pop)) _ _ _;refine aa (nq hS2 rfl ?_);have hS3:=gJ (Obj.mapSeq (·.push Value.none)) hS2 rfl;refine nq (hz:=by seq_fits) hS3 rfl ?_;have hS4:=gJ (Obj.mapSeq (·.pop)) hS3 rfl;have oth:∀b ob,b≠s.heap.objs.size->s2.heap.get? b=some ob->((s2.heap.update s.heap.objs.size (Obj.mapSeq (·.push Value.none))).update s.heap.objs.size (Obj.mapSeq (·.pop))).get? b=some ob:=
  λb ob hb e=>(fq _ _ (bP hb)).trans ((fq _ _ (bP hb)).trans e)
 have n1:s.heap.objs.size≠s1.heap.objs.size:=by rw[sz1];exact cy (qa _)
 have n3:s1.heap.objs.size≠d:=by rw[sz1];exact bP (cy (lg hlt))
 refine ah ⟨lh t9 _,Df hh n1 hne n3 hdat hsz es.size 0 _ [] _ (Nat.sub_zero _) (da _) ?_ (oth _ _ (bP hne) ho2) hS4 rfl λh' c' q1 q2=>?_⟩
 ·obtain⟨oi,e,r⟩:=hit2;exact⟨oi,oth _ _ (bP n1) e,r⟩
 ·show wpAny _ A (load s.heap.objs.size >>= _) _ _ _;refine aa (wpAny_load q1 (ah ?_));have fin:=h h' λb ob e=>q2 b ob (cy (bp e)) (by rw[sz1];exact cy (lg (bp e))) (oth b ob (cy (bp e)) (by rw[e2,e1];exact bJ _ (bJ _ e)));rw[←hs2,←hs1];simpa using fin
end
def oz(a:Addr)(keyStore:Value)(before:Nat)(s:SortSt):Sem Fin:=do
 let sorted:=(arrOf s).map (·.2)
 Builtin.List.listUpdate keyStore λ_=>#[]
 letGo ((arrOf s).map (·.1)).toList (failedOf s).toList
 let touched:=(←seqEpoch a) != before
 Builtin.List.listUpdate (.ref a) λ_=>sorted
 if let some e:=failedOf s then rule "list.sort.comparison-raised";throw e
 if touched then rule "list.sort.modified";raiseError "ValueError" "list modified during sort"
 ret .none
theorem DD(a f:Addr):Builtin.«list.sort» ⟨[.ref a],[("key",.ref f)]⟩=(do
  let items←Builtin.List.listItems (.ref a)
  Builtin.List.listUpdate (.ref a) λ_=>#[]
  let before←seqEpoch a
  let held←newTuple items.toList
  let keyStore←newList []
  holding [held,keyStore] do
   rule "list.sort.key"
   for x in items do
    match←(call (.ref f) [x]).attempt with
    |.ok k=>Builtin.List.listUpdate keyStore (·.push k)
    |.error e=>
     rule "list.sort.key-raised"
     let made←Builtin.List.listItems keyStore
     Builtin.List.listUpdate keyStore λ_=>#[]
     letGo made.toList.reverse [e]
     Builtin.List.listUpdate (.ref a) λ_=>items
     throw e
   let keys←Builtin.List.listItems keyStore
   let kind←if items.size<2 then pure general' else keyKind' keys
   let((),s)←(if items.size<2 then pure ()else sortRuns').run (SortSt.mk' kind (keys.zip items) #[] 7 none)
   oz a keyStore before s):=rfl
theorem FQ{K:PySem.W.Frag}{k:Nat}{c':Addr}{nm:Str}{params:Arguments}{body:Expr}{ctv:Value}{vs:List V}{Q:VK}
  (S:bj N ps scope) (hl:vs.length=ps.length) (hr:cq (k+1) A) (e0:gf P w K mg base A outer s H) (ho:s.heap.get? f=some (PySem.W.kla_obj nm qual params body scope [] pm c' ctv)) (hcd:s.heap.CodeRec (.ref c') qual)
  (hb:bindArgs (PySem.W.kla_fn nm qual params body scope [] pm (.ref c') ctv) ⟨us,[]⟩=pure (ps.zip us)) (r:aH vs us)
  (hbody:PE (iS au P w K mg base N qual scope f (.ref c') A outer s H E0).nox body t) (ht:t (gD N vs) H Q):codeAny (model P w) A (.call (.ref f) ⟨us,[]⟩) (CR au outer P w H s Q E0) s:=by
 have lim:s.heap.NoLimit:=e0.mod.nolimit.keeps λb o e=>(e0.bs b o e).1;have hkind:∀y∈ps.zip us,scope.names.lookup y.1=some .local∨(scope.names.lookup y.1=some .cell/\((cellsFrom (s.heap.objs.size+1) scope.names []).lookup y.1).isSome=true):=λ⟨n,v⟩ hy=>by
  rcases S.par n (tO hy).1 with q|q
  ·exact .inl q
  ·exact .inr ⟨q,y9 _ _ _ (.inl q)⟩
 refine PySem.W.kla_callFunE hr.depth ho rfl S.co S.gen rfl hcd ?_;rw[hb];refine ah ?_;refine wpAny_newFunctionEnv_cells S.kind hkind λenv he s1 x=>?_;subst he;refine⟨lim.keeps x.toInCall.keep,PySem.W.kla_codeExpr ?_⟩;have I:ae (iS au P w K mg base N qual scope f (.ref c') A outer s H E0) [] (gD N vs) H s1:=xa S hr.hd e0 hl r x;refine eX (hbody.nox [] s1 (gD N vs) H Q I ht) (λu s' hs=>?_) λe s' hs=>hs;obtain⟨v,H',J,rv,q⟩:=hs;exact⟨v,H',J.os,J.bare,J.base,J.hok,rv,q⟩
theorem C6(x y:Value)(b:Bool):keyLt' (tuples' b) x y=(do
  let xs←Builtin.List.listItems x
  let ys←Builtin.List.listItems y
  for ((p,q),i)in (xs.toList.zip ys.toList).zipIdx do
   if !(←eqBool p q)then return←oneLt' (b&&i==0) p q
  return xs.size<ys.size):=rfl
section
variable{P:Program}{w:World}{A:Around}{E:Value->Shared->Prop}{s:Shared}
theorem wc{c:Bool}{a b:Int}{t u:Tok}{Q:Bool->Shared->Prop}(h:Q (decide (a<b)) s):wpAny (model P w) A (oneLt' c (.int a t) (.int b u)) Q E s:=by
 cases c with
 |true=>exact oneLt_int h
 |false=>
  rw[oneLt'_eq];simp only[eW,dC];refine aa ?_;refine richCompare_gives (op:=.Lt) (kW s _ t) (kW s _ u) F.slot_int_lt F.entry_int_lt (F.args_int_lt_2 _ _) (gives_int_lt _ _ t u) (λx=>nomatch x) ?_;exact gY h
theorem F8{t1 t2:Addr}{l1 b1 l2 b2:Int}{c1 c2 c3 c4:Tok}{Q:Bool->Shared->Prop}(h1:IsTup s.heap t1 #[.int l1 c1,.int b1 c2])(h2:IsTup s.heap t2 #[.int l2 c3,.int b2 c4])
  (h:Q (decide (l1<l2∨(l1=l2/\b1<b2))) s):wpAny (model P w) A (keyLt' (tuples' true) (.ref t1) (.ref t2)) Q E s:=by
 obtain⟨o1,g1,_,n1,d1⟩:=h1;obtain⟨o2,g2,_,n2,d2⟩:=h2;rw[C6];refine aa (qm g1 d1 (aa (qm g2 d2 ?_)));show wpAny _ _ (forIn [((Value.int l1 c1,Value.int l2 c3),0),((Value.int b1 c2,Value.int b2 c4),1)] _ _ >>= _) Q E s;refine aa ?_;rw[kZ];refine aa ?_;refine aa (SeqAt.EqAt.int_int l1 c1 l2 c3 _ _ _ _ ?_);by_cases q:l1=l2
 ·subst q;rw[show(l1==l1)=true from tI l1];rw[if_neg (by decide)];refine ah ?_;dsimp only;rw[kZ];refine aa ?_;refine aa (SeqAt.EqAt.int_int b1 c2 b2 c4 _ _ _ _ ?_);by_cases p:b1=b2
  ·subst p;rw[show(b1==b1)=true from tI b1];rw[if_neg (by decide)];refine ah ?_;dsimp only;rw[kY];refine ah (ah ?_);have e:decide (l1<l1∨(l1=l1/\b1<b1))=false:=by simp
   rw[e]at h;exact h
  ·rw[show(b1==b2)=false from jM.mpr p];rw[if_pos (by decide)];refine aa (wc ?_);refine ah (ah ?_);have e:decide (l1<l1∨(l1=l1/\b1<b2))=decide (b1<b2):=by simp
   rw[e]at h;exact ah h
 ·rw[show(l1==l2)=false from jM.mpr q];rw[if_pos (by decide)];refine aa (wc ?_);refine ah (ah ?_);have e:decide (l1<l2∨(l1=l2/\b1<b2))=decide (l1<l2):=by simp[q]
  rw[e]at h;exact ah h
def rN(h:Heap)(v:Value):Prop:=∃t l b c1 c2,v=Value.ref t/\IsTup h t #[.int l c1,.int b c2]
theorem Aa{Q:Option Value->Shared->Prop}(h:rN s.heap v)(hq:∀l c,Q (some (.int l c)) s):wpAny (model P w) A (firstOfTuple' v) Q E s:=by
 obtain⟨t,l,b,c1,c2,rfl,o,g,hc,n,d⟩:=h;have hT:s.TypeIs (.ref t) "tuple":=⟨o,g,hc⟩;show wpAny _ _ (do
  if(←typeOf (.ref t)) != .type "tuple" then return none
  return (←Builtin.List.listItems (.ref t))[0]?) Q E s
 refine aa (tH hT ?_);rw[if_neg (by decide)];exact aa (qm g d (ah (hq l c1)))
theorem uj:∀{vs:List Value} {Q:List (Option Value)->Shared->Prop},(∀v∈vs,rN s.heap v)->(∀os:List (Int×Tok),os.length=vs.length->Q (os.map λp=>some (.int p.1 p.2)) s)->wpAny (model P w) A (vs.mapM firstOfTuple') Q E s
 | [],Q,_,hq=>by
  rw[List.mapM_nil];exact ah (hq [] rfl)
 |v::vs,Q,h,hq=>by
  rw[List.mapM_cons];refine aa (Aa (h v (List.mem_cons_self ..)) λl c=>?_);refine aa (uj (λu hu=>h u (List.mem_cons_of_mem _ hu)) λos ho=>ah ?_);exact hq ((l,c)::os) (by rw[List.length_cons,List.length_cons,ho])
theorem wM:∀(os:List (Int×Tok)),(os.map λp=>Value.int p.1 p.2).mapM typeOf=pure (os.map λ_=>Value.type "int")
 | []=>by simp
 |p::os=>by
  rw[aW,List.mapM_cons,wM os];show(pure (Value.type "int") >>= λb=>pure _ >>= λbs=>pure (b::bs))=_;simp
theorem CZ{Q:SortKind->Shared->Prop}(hne:vs≠[])(h:∀v∈vs,rN s.heap v)(hq:Q (tuples' true) s):wpAny (model P w) A (keyKind' vs.toArray) Q E s:=by
 rw[keyKind'_eq,List.mapM_toArray];refine aa ?_;show wpAny _ _ (List.toArray <$> vs.mapM firstOfTuple') _ E s;rw[←bind_pure_comp];refine aa (uj h λos ho=>ah ?_);rw[if_pos (by simp)];refine aa (eC ?_);have e1:((os.map λp=>some (Value.int p.1 p.2)).toArray.filterMap id)=(os.map λp=>Value.int p.1 p.2).toArray:=by
  simp[List.filterMap_map]
 rw[e1,oneTypeOnly'_eq,List.mapM_toArray,wM];have hos:os≠[]:=λz=>by
  subst z;cases vs with
  |nil=>exact hne rfl
  |cons a b=>simp at ho
 obtain⟨p,r,rfl⟩:∃p r,os=p::r:=by
  cases os with
  |nil=>exact absurd rfl hos
  |cons p r=>exact⟨p,r,rfl⟩
 simp only[map_pure,pure_bind];have h0:(List.map (λ_=>Value.type "int") (p::r)).toArray[0]?=some (Value.type "int"):=by simp
 have hall:((List.map (λ_=>Value.type "int") (p::r)).toArray.all λx=>x==Value.type "int")=true:=by
  simp only[List.all_toArray,List.all_map,jc];intro _ _;rfl
 rw[h0];simp only[hall,fU,pure_bind];exact ah hq
end
def bX(H:Hp)(q:Addr)(b l:Int):Prop:=H q=some (.tup [.int b,.int l])
def eD(H:Hp):V->Int
 |.ref q=>match H q with
  |some (.tup [.int b,.int l])=>l*16+b
  |_=>0
 |_=>0
theorem ie{b:Int}(h:bX H q b l):eD H (.ref q)=l*16+b:=by
 unfold eD;dsimp only;rw[show H q=_ from h]
def hX:Value->V
 |.ref a=>.ref a
 |_=>.non
def pz(P:Program)(w:World)(K:PySem.W.Frag)(mg:Str->Option Value)(base:Heap)(f:Addr)(G:Hp->Prop):Prop:=
 ∀(A:Around) (outer:List Env) (s:Shared) (H:Hp) (q:Addr) (b l:Int) (Q:VK),cq 1 A->gf P w K mg base A outer s H->G H->bX H q b l->(∀t,H t=none->Q (.ref t) (upd H t (.tup [.int l,.int b])))->
  codeAny (model P w) A (.call (.ref f) ⟨[.ref q],[]⟩) (CR au outer P w H s Q E0) s
theorem D7(a f:Value):argsOk "list.sort" ⟨[a],[("key",f)]⟩:=by unfold argsOk;kernel_rfl
theorem ES{l1 b1 l2 b2:Int}(h1:0<=b1)(h2:b1<16)(h3:0<=b2)(h4:b2<16):decide (l1<l2∨(l1=l2/\b1<b2))=decide (l1*16+b1<l2*16+b2):=by
 by_cases q:l1<l2∨(l1=l2/\b1<b2)
 ·rw[aO q,aO (by omega)]
 ·rw[ba q,ba (by omega)]
def gM(H:Hp)(p:Keyed):Int:=match p.1 with
 |.ref t=>match H t with
  |some (.tup [.int l,.int b])=>l*16+b
  |_=>0
 |_=>0
theorem oE{t:Addr}{b:Int}(h:H t=some (.tup [.int l,.int b])):gM H (.ref t,v)=l*16+b:=by
 unfold gM;dsimp only;rw[h]
structure sH(H:Hp)(xs:List V)(ts:List Addr):Prop where
 len:ts.length<=xs.length
 at_:∀(i:Nat) (t:Addr),ts[i]?=some t->∃q b l,xs[i]?=some (.ref q)/\bX H q b l/\H t=some (.tup [.int l,.int b])
theorem rD{t:Addr}{b:Int}(ok:cg P w H h)(e:H t=some (.tup [.int l,.int b])):∃c1 c2,IsTup h t #[.int l c1,.int b c2]:=by
 obtain⟨_,its,r,x⟩:=(show cQ P w H h t (.tup [.int l,.int b])from ok t _ e);cases r with
 |cons r1 r2=>
  cases r2 with
  |cons r3 r4=>
   cases r4;obtain⟨c1,rfl⟩:=r1;obtain⟨c2,rfl⟩:=r3;exact⟨c1,c2,x⟩
section
variable{X:Cx}{pins:List (Addr×Obj)}{σ:St}{H:Hp}{s:Shared}{l f:Addr}{xs:List V}{G:Hp->Prop}
theorem lK(I:ae X pins σ H s)(e:H l=some (.lst xs)):xs.length<=sizeLine/\∃(its:List Value) (n:Nat),aH xs its/\s.heap.get? l=some (seqObj "list" its.toArray n):=by
 obtain⟨z,its,n,r,g⟩:=(show cQ X.prog X.w H s.heap l (.lst xs)from I.hok l _ e);exact⟨z,its,n,r,g⟩
theorem oO{ys':List Value}{ys:List V}(I:ae X pins σ H s)(e:H l=some (.lst xs))(g:s.heap.get? l=some (seqObj "list" its.toArray n))(r:aH ys ys')(hz:ys.length<=sizeLine)(F:Array Value->Array Value)(hF:F its.toArray=ys'.toArray):
  ae X pins σ (upd H l (.lst ys)) {s with heap:=s.heap.update l (Obj.mapSeq F),toks:=tk}:=by
 have e2:=get?_update_seq g F;rw[hF]at e2;refine I.write (x:=l) (e:=l) (by rw[e];exact True.intro) (.inl rfl) (λb z hb p=>(fq _ _ (bP hb)).trans p) ⟨_,e2⟩ ⟨hz,ys',_,r,e2⟩
theorem v8:∀{ts:List Addr} {us:List Value},aH (ts.map V.ref) us->us=ts.map Value.ref
 | [],_,r=>by rw[List.map_nil]at r;cases r;rfl
 |t::ts,_,r=>by
  rw[aW]at r;cases r with
  |cons h1 h2=>rw[aW,v8 h2,show _=Value.ref t from h1]
theorem Ac{K0:Addr}{n1:Nat}{zs ys:List V}{st:SortSt}{P:Fin->Shared->Prop}(I:ae X pins σ H s)(e:H l=some (.frz (seqObj "list" #[] n1) (.lst [])))(hn:∀o' u',X.H_0 l≠some (.frz o' u'))(ek:H K0=some (.lst zs))
  (hne:K0≠l) (hf:failedOf st=none) (r:aH ys ((arrOf st).map (·.2)).toList) (hz:ys.length<=sizeLine)
  (h:∀s':Shared,ae X pins σ (upd (upd H K0 (.lst [])) l (.lst ys)) s'->P (.done (.ret .none)) s'):wpAny (model X.prog X.w) A (oz l (.ref K0) n1 st) P E s:=by
 unfold oz;obtain⟨z1,kits,nk,rk,gk⟩:=lK I ek;refine aa (listUpdate_at gk rfl ?_ (by rw[cM,←rk.length];exact z1) (da _));have I1:ae X pins σ (upd H K0 (.lst [])) {s with heap:=s.heap.update K0 (Obj.mapSeq λ_=>#[])}:=oO (tk:=s.toks) I ek gk (.nil) (da _) (λ_=>#[]) rfl;have g:s.heap.get? l=some (seqObj "list" #[] n1):=(I.hok l _ e).1;have g1:(s.heap.update K0 (Obj.mapSeq λ_=>#[])).get? l=some (seqObj "list" #[] n1):=(fq _ _ hne).trans g;have e1:upd H K0 (.lst []) l=some (.frz (seqObj "list" #[] n1) (.lst [])):=by rw[ag (bP hne)];exact e
 refine aa (gm ?_);refine aa (seqEpoch_at g1 rfl ?_);have hsz:((arrOf st).map (·.2)).size=ys.length:=by rw[r.length,gh]
 refine aa (listUpdate_at g1 rfl ?_ (da _) (by show((arrOf st).map (·.2)).size<=sizeLine+1;omega));have I2:=I1.unlock e1 hn;have e2:upd (upd H K0 (.lst [])) l (.lst []) l=some (.lst []):=ao;have I3:=oO (tk:=s.toks) (ys:=ys) (ys':=((arrOf st).map (·.2)).toList) I2 e2 g1 r hz (λ_=>(arrOf st).map (·.2)) (Array.toArray_toList).symm;rw[ED]at I3;rw[hf];dsimp only;rw[if_neg (by simp)];exact ah (h _ I3)
end
theorem r9{x:V}(r:aT x u)(e:x= .ref q):u= .ref q:=by subst e;exact r
section
variable{X:Cx}{pins:List (Addr×Obj)}{σ:St}{H:Hp}{s:Shared}{l f:Addr}{xs:List V}{G:Hp->Prop}
theorem rW(r:aH xs its)(K:sH H xs ts)(hl:ts.length=xs.length){p:Keyed}(hp:p∈((ts.map Value.ref).toArray.zip its.toArray).toList):
  ∃t q b c,p=(.ref t,.ref q)/\(.ref q)∈xs/\bX H q b c/\H t=some (.tup [.int c,.int b]):=by
 rw[zh]at hp;obtain⟨i,hi⟩:=eV.mp hp;rw[zi]at hi;obtain⟨h1,h2⟩:=hi;simp only[bY]at h1;obtain⟨t,ht,e1⟩:=Option.map_eq_some_iff.mp h1;obtain⟨q,b,c,g1,g2,g3⟩:=K.at_ i t ht;obtain⟨u,g4,g5⟩:=r.get g1;rw[g4]at h2;injection h2 with h2;refine⟨t,q,b,c,?_,cE g1,g2,g3⟩;obtain⟨p1,p2⟩:=p;simp only at e1 h2;rw[←e1,←h2,r9 g5 rfl]
theorem B8(hl:ts.length=its.length):(((ts.map Value.ref).toArray.zip its.toArray).toList.map (·.2))=its:=by
 rw[zh];show List.map Prod.snd _=_;rw[List.map_snd_zip];simp;omega
theorem FW(r:aH xs its)(K:sH H xs ts)(hl:ts.length=xs.length):((ts.map Value.ref).toArray.zip its.toArray).toList.map (gM H)=xs.map (eD H):=by
 rw[zh];refine List.ext_getElem? λi=>?_;rw[bY,bY];cases q:xs[i]? with
 |none=>
  have h1:xs.length<=i:=tJ.mp q;have h2:((ts.map Value.ref).toArray.toList.zip its.toArray.toList)[i]?=none:=by
   rw[tJ,List.length_zip];simp;omega
  rw[h2];rfl
 |some x=>
  have h1:i<ts.length:=by rw[hl];exact(cX.mp q).1
  obtain⟨q0,b,c,g1,g2,g3⟩:=K.at_ i ts[i] (aZ h1);rw[q]at g1;injection g1 with g1;subst g1;obtain⟨u,g4,g5⟩:=r.get q;have h2:((ts.map Value.ref).toArray.toList.zip its.toArray.toList)[i]?=some (.ref ts[i],u):=by
   rw[zi];refine⟨?_,g4⟩;simp only[bY,aZ h1];rfl
  rw[h2];show some (gM H (.ref ts[i],u))=some (eD H (.ref q0));rw[oE g3,ie g2]
theorem Gb(hr:cq 1 X.A.in1.in1)(hf:pz X.prog X.w X.K X.mg X.base f G)(hG:∀H1 H2:Hp,G H1->(∀b o,H1 b=some o->b≠l->H2 b=some o)->G H2)(I:ae X pins σ H s)(hGH:G H)(e:H l=some (.lst xs))(h64:xs.length<64)
  (hx:∀x∈xs,∃q b c,x= .ref q/\bX H q b c/\0<=b/\b<16) (hnd:(xs.map (eD H)).Nodup)
  (h:∀(s':Shared) (H':Hp) (ys:List V),ae X pins σ H' s'->H' l=some (.lst ys)->ys.Perm xs->ys.Pairwise (λx y=>eD H x<eD H y)->(∀b o,H b=some o->b≠l->H' b=some o)->Q .none s'):
  wpAny (model X.prog X.w) X.A.in1 (call (.builtin "list.sort") [.ref l] [("key",.ref f)]) Q E s:=by
 obtain⟨hz,its,n,r,g⟩:=lK I e;have hlen:its.length=xs.length:=r.length.symm;refine wpAny_call_entry_kw slot_list_sort ⟨_,g,rfl⟩ entry_list_sort ?_ (D7 _ _);rw[DD];refine aa (qm g rfl ?_);refine aa (listUpdate_at g rfl ?_ (by rw[cM,hlen];exact hz) (da _));have I1:ae X pins σ (upd H l (.lst [])) {s with heap:=s.heap.update l (Obj.mapSeq λ_=>#[])}:=oO (tk:=s.toks) I e g (.nil) (da _) (λ_=>#[]) rfl;generalize hs1:({s with heap:=s.heap.update l (Obj.mapSeq λ_=>#[])}:Shared)=s1 at I1⊢;have e1:upd H l (.lst []) l=some (.lst []):=ao;obtain⟨_,its1,n1,r1,g1⟩:=lK I1 e1;cases r1;refine aa (seqEpoch_at g1 rfl ?_);refine aa (wpAny_newTuple ?_);have I2:ae X pins σ (upd H l (.lst [])) {s1 with heap:=s1.heap.push (seqObj "tuple" its.toArray 0)}:=I1.kept (t':=s1.toks) λb ob q=>bJ _ q;have g2:(s1.heap.push (seqObj "tuple" its.toArray 0)).get? l=some (seqObj "list" #[] n1):=bJ _ g1;generalize hs2:({s1 with heap:=s1.heap.push (seqObj "tuple" its.toArray 0)}:Shared)=s2 at I2⊢;have g2':s2.heap.get? l=some (seqObj "list" #[] n1):=by rw[←hs2];exact g2
 show wpAny _ _ (newList [] >>= _) _ E s2;refine aa (wpAny_newList ?_);have fresh:=I2.hok.fresh (aJ s2.heap.objs.size);have I3:ae X pins σ (upd (upd H l (.lst [])) s2.heap.objs.size (.lst [])) {s2 with heap:=s2.heap.push (seqObj "list" #[] 0)}:=I2.laid (a:=s2.heap.objs.size) (o:=.lst []) (t':=s2.toks) (λ_ _ q=>bJ _ q) (aJ _) ⟨da _,[],0,.nil,cn _ rfl⟩;have g3:(s2.heap.push (seqObj "list" #[] 0)).get? l=some (seqObj "list" #[] n1):=bJ _ g2';generalize hK0:s2.heap.objs.size=K0 at*;have nk:K0≠l:=λz=>by rw[z,e1]at fresh;cases fresh
 have hKn:H K0=none:=by rw[ag nk]at fresh;exact fresh
 generalize hs3:({s2 with heap:=s2.heap.push (seqObj "list" #[] 0)}:Shared)=s3 at I3⊢;have g3':s3.heap.get? l=some (seqObj "list" #[] n1):=by rw[←hs3];exact g3
 refine dJ ?_;refine aa (eC ?_);have el3:upd (upd H l (.lst [])) K0 (.lst []) l=some (.lst []):=by rw[ag (bP nk)];exact e1
 have hnf:=I3.nofrz el3 True.intro;obtain⟨od,I4⟩:=I3.lock (d:=l) (u:=.lst []) el3 True.intro;have god:s3.heap.get? l=some od:=(I4.hok l _ ao).1;rw[g3']at god;injection god with god;subst god;generalize hH4:upd (upd (upd H l (.lst [])) K0 (.lst [])) l (.frz (seqObj "list" #[] n1) (.lst []))=H4 at I4;have fr4:∀b o,H b=some o->b≠l->H4 b=some o:=λb o q hb=>by
  have hbk:b≠K0:=ay q hKn;rw[←hH4,ag hb,ag hbk,ag hb];exact q
 have l4:H4 l=some (.frz (seqObj "list" #[] n1) (.lst [])):=by rw[←hH4];exact ao
 have k4:H4 K0=some (.lst []):=by rw[←hH4,ag nk];exact ao
 refine aa ?_;rw[←Array.forIn_toList];refine pW _ (λbV _ st=>∃ts Hi,ts.length+bV.length=its.length/\bV=its.drop ts.length/\ae X pins σ Hi st/\Hi l=some (.frz (seqObj "list" #[] n1) (.lst []))/\Hi K0=some (.lst (ts.map V.ref))/\sH Hi xs ts/\(∀b o,H b=some o->b≠l->Hi b=some o)) _ ?_ ?_ _ _
  ⟨[],H4,by simp,by simp,I4,l4,k4,⟨da _,λi t q=>by simp at q⟩,fr4⟩
 ·rintro x bV b0 st ⟨ts,Hi,hlen2,hrest,Ii,li,ki,Kd,fri⟩;have hlt:ts.length<its.length:=by rw[←hlen2];simp
  have hxi:its[ts.length]?=some x:=by
   have:=dr List.head? hrest;rw[List.head?_drop]at this;simpa using this.symm
  obtain⟨xv,hxv⟩:∃xv,xs[ts.length]?=some xv:=⟨_,aZ (by omega)⟩;obtain⟨q,b,c,eq,hp,hb0,hb16⟩:=hx xv (cE hxv);obtain⟨u,hu,ru⟩:=r.get hxv;rw[hxi]at hu;injection hu with hu;subst hu;obtain rfl:=r9 ru eq;have hql:q≠l:=aC hp e (λz=>nomatch z);have hpi:bX Hi q b c:=fri q _ hp hql;refine aa (jO (wpAny_call (qb (hf X.A.in1.in1 X.stack st Hi q b c (λv H'=>∃t,v= .ref t/\Hi t=none/\H'=upd Hi t (.tup [.int c,.int b])) hr Ii.env0.in1.in1 (hG H Hi hGH fri) hpi λt ht=>⟨t,rfl,ht,rfl⟩) λrr s' hq=>?_)));cases rr with
  |error e'=>exact False.elim hq
  |ok fl=>
   cases fl with
   |next=>exact False.elim hq
   |brk=>exact False.elim hq
   |cont=>exact False.elim hq
   |ret u'=>
    obtain⟨v,H',I',rv,t,ev,ht,eH⟩:=Ii.after hq;subst ev eH;obtain rfl:u'=Value.ref t:=rv;have ntk:K0≠t:=ay ki ht;have ntl:l≠t:=ay li ht;have ek:upd Hi t (.tup [.int c,.int b]) K0=some (.lst (ts.map V.ref)):=by rw[ag ntk];exact ki
    obtain⟨z1,kits,nk2,rk,gk⟩:=lK I' ek;have hkl:kits.length=ts.length:=by rw[←rk.length,List.length_map]
    show wpAny _ _ (Builtin.List.listUpdate (.ref K0) (·.push (.ref t)) >>= _) _ E s';refine aa (listUpdate_at gk rfl ?_ (by rw[cM];omega) (by show(kits.toArray.push (.ref t)).size<=sizeLine+1;rw[Array.size_push,cM];omega));have I'':=oO (tk:=s'.toks) (ys:=ts.map V.ref++[V.ref t]) (ys':=kits++[Value.ref t]) I' ek gk (rk.append (.cons rfl .nil)) (by rw[df,List.length_map];simp;omega) (·.push (.ref t)) (by simp);refine ah ⟨ts++[t],_,?_,?_,I'',?_,?_,?_,λb' o' q' hb'=>?_⟩
    ·rw[df];simp at hlen2⊢;omega
    ·rw[df,←List.drop_drop,←hrest];rfl
    ·rw[ag (bP nk),ag ntl];exact li
    ·rw[ao,cf];rfl
    ·have old:∀b' o',Hi b'=some o'->b'≠K0->upd (upd Hi t (.tup [.int c,.int b])) K0 (.lst (ts.map V.ref++[V.ref t])) b'=some o':=λb' o' q' hb'=>by
      rw[ag hb',ag (ay q' ht)];exact q'
     refine⟨by rw[df];simp;omega,λi t' ht'=>?_⟩;by_cases hi:i<ts.length
     ·rw[Gw hi]at ht';obtain⟨q1,b1,c1,a1,a2,a3⟩:=Kd.at_ i t' ht';exact⟨q1,b1,c1,a1,old _ _ a2 (aC a2 ki (λz=>nomatch z)),old _ _ a3 (aC a3 ki (λz=>nomatch z))⟩
     ·have hi2:i=ts.length:=by
       have:=(cX.mp ht').1;rw[df]at this;simp at this;omega
      subst hi2;rw[za (aJ _)]at ht';simp at ht';subst ht';refine⟨q,b,c,by rw[hxv,eq],old _ _ hpi (aC hpi ki (λz=>nomatch z)),?_⟩;rw[ag (bP ntk)];exact ao
    ·have q2:=fri b' o' q' hb';have hbk:b'≠K0:=ay q' hKn;rw[ag hbk,ag (ay q2 ht)];exact q2
 ·rintro b0 st ⟨ts,Hi,hlen2,hrest,Ii,li,ki,Kd,fri⟩;have htl:ts.length=its.length:=by simpa using hlen2
  have htx:ts.length=xs.length:=by omega
  obtain⟨z1,kits,nk2,rkv,gk⟩:=lK Ii ki;obtain rfl:=v8 rkv;refine aa (qm gk rfl ?_);have hsz:its.toArray.size=its.length:=by simp
  have hrv:xs.map (eD Hi)=xs.map (eD H):=mU λx hxm=>by
   obtain⟨q,b,c,rfl,hp,_⟩:=hx x hxm;rw[ie hp,ie (fri q _ hp (aC hp e (λz=>nomatch z)))]
  have a0size:((ts.map Value.ref).toArray.zip its.toArray).size=its.length:=by
   rw[Array.size_zip];simp;omega
  have fin:∀st':SortSt,(arrOf st').Perm ((ts.map Value.ref).toArray.zip its.toArray)->failedOf st'=none->Up (gM Hi) (arrOf st') ((ts.map Value.ref).toArray.zip its.toArray).size->
    wpAny (model X.prog X.w) X.A.in1.in1 (oz l (.ref K0) n1 st') (λfin s'=>∃v,fin= .done (.ret v)/\Q v s') E st:=λst' hp hfl hup=>by
   have cc:=yZ.mp hp;have hmem:∀p∈(arrOf st').toList,∃t q b c,p=(.ref t,.ref q)/\(.ref q)∈xs/\bX Hi q b c/\Hi t=some (.tup [.int c,.int b]):=λp hpm=>rW r Kd htx (cc.mem_iff.mp hpm);have hvals:∀{ps:List Keyed},(∀p∈ps,∃t q b c,p=(Value.ref t,Value.ref q)/\(V.ref q)∈xs/\bX Hi q b c/\Hi t=some (.tup [.int c,.int b]))->aH (ps.map λp=>hX p.2) (ps.map (·.2)):=by
    intro ps
    induction ps with
    |nil=>intro _;exact .nil
    |cons p ps ih=>
     intro hh;obtain⟨t,q,b,c,rfl,_⟩:=hh p (List.mem_cons_self ..);exact .cons rfl (ih λp' hp'=>hh p' (List.mem_cons_of_mem _ hp'))
   have hperm:((arrOf st').toList.map λp=>hX p.2).Perm xs:=by
    have h1:=cc.map (λp:Keyed=>hX p.2);have h2:((ts.map Value.ref).toArray.zip its.toArray).toList.map (λp:Keyed=>hX p.2)=xs:=by
     have:((ts.map Value.ref).toArray.zip its.toArray).toList.map (λp:Keyed=>hX p.2)=(((ts.map Value.ref).toArray.zip its.toArray).toList.map (·.2)).map hX:=by rw[List.map_map];rfl
     rw[this,B8 htl];refine List.ext_getElem? λi=>?_;rw[bY];cases qx:xs[i]? with
     |none=>
      rw[aH.none_of r qx];rfl
     |some x=>
      obtain⟨u,g4,g5⟩:=r.get qx;obtain⟨q,b,c,rfl,_⟩:=hx x (cE qx);rw[g4,r9 g5 rfl];rfl
    rw[h2]at h1;exact h1
   refine Ac (ys:=(arrOf st').toList.map λp=>hX p.2) Ii li hnf ki nk hfl ?_ ?_ λs' I'=>⟨.none,rfl,h s' _ _ I' ao hperm ?_ λb o q hb=>?_⟩
   ·have:=hvals hmem;rw[Array.toList_map];exact this
   ·rw[hperm.length_eq];exact hz
   ·rw[mY,qo];intro i j hi hj hij;have hi':i<(arrOf st').size:=by simpa using hi
    have hj':j<(arrOf st').size:=by simpa using hj
    have hu:=hup i j hij (by rw[←hp.size_eq];exact hj');have rk1:∀(k:Nat) (hk:k<(arrOf st').toList.length),eD H (hX ((arrOf st').toList[k]).2)=rk (gM Hi) (arrOf st') k:=λk hk=>by
     obtain⟨t,q,b,c,ep,hqx,hp1,ht1⟩:=hmem _ (sY hk);have hka:(arrOf st')[k]?=some (arrOf st').toList[k]:=by
      rw[←jN,aZ hk]
     unfold rk;rw[hka];show eD H (hX ((arrOf st').toList[k]).2)=gM Hi (arrOf st').toList[k];rw[ep,oE ht1];obtain⟨q2,b2,c2,eq2,hp2,_⟩:=hx _ hqx;injection eq2 with eq2;subst eq2;have:=fri q _ hp2 (aC hp2 e (λz=>nomatch z));rw[show Hi q=_ from hp1]at this;injection this with this;injection this with this;injection this with t1 t2;injection t2 with t2 _;injection t1 with t1;injection t2 with t2;show eD H (.ref q)=_;rw[ie hp2,t1,t2]
    rw[rk1 i hi,rk1 j hj];exact hu
   ·have hbk:b≠K0:=ay q hKn;rw[ag hb,ag hbk];exact fri b o q hb
  have hnd2:(((ts.map Value.ref).toArray.zip its.toArray).toList.map (gM Hi)).Nodup:=by rw[FW r Kd htx,hrv];exact hnd
  by_cases h2:its.toArray.size<2
  ·rw[if_pos h2,if_pos h2];refine aa (ah ?_);dsimp only;rw[StateT.run_pure];refine aa (ah ?_);refine fin (SortSt.mk' general' ((ts.map Value.ref).toArray.zip its.toArray) #[] 7 none) (Array.Perm.refl _) rfl λi j hij hj=>?_;exfalso;rw[a0size]at hj;omega
  ·rw[if_neg h2,if_neg h2];have hne:ts.map Value.ref≠[]:=λz=>by
    have:=dr List.length z;rw[List.length_map]at this;simp at this;rw[this]at htl;simp at htl h2;omega
   refine aa (CZ hne (λv hv=>?_) ?_)
   ·obtain⟨t,htm,rfl⟩:=bh.mp hv;obtain⟨i,hi⟩:=eV.mp htm;obtain⟨q,b,c,_,_,g3⟩:=Kd.at_ i t hi;obtain⟨c1,c2,ht⟩:=rD Ii.hok g3;exact⟨t,c,b,c1,c2,rfl,ht⟩
   ·have C:iW X.prog X.w X.A.in1.in1 st (gM Hi) (tuples' true) ((ts.map Value.ref).toArray.zip its.toArray):=by
     intro p hp q hq E' Q' hQ';obtain⟨t1,q1,b1,c1,rfl,m1,a1,a2⟩:=rW r Kd htx hp;obtain⟨t2,q2,b2,c2,rfl,m2,a3,a4⟩:=rW r Kd htx hq;obtain⟨k1,k2,u1⟩:=rD Ii.hok a2;obtain⟨k3,k4,u2⟩:=rD Ii.hok a4;have bd:∀{q b c},(V.ref q)∈xs->bX Hi q b c->0<=b/\b<16:=λ{q b c} hm ha=>by
      obtain⟨q',b',c',eq',hp',h0,h1⟩:=hx _ hm;injection eq' with eq';subst eq';have:=fri q _ hp' (aC hp' e (λz=>nomatch z));rw[show Hi q=_ from ha]at this;injection this with this;injection this with this;injection this with t1 _;injection t1 with t1;rw[t1];exact⟨h0,h1⟩
     refine F8 u1 u2 ?_;rw[ES (bd m1 a1).1 (bd m1 a1).2 (bd m2 a3).1 (bd m2 a3).2];rw[oE a2,oE a4]at hQ';exact hQ'
    refine aa (eX (BH (E:=E) (st:=SortSt.mk' (tuples' true) ((ts.map Value.ref).toArray.zip its.toArray) #[] 7 none) (Q:=λ_ st'=>(arrOf st').Perm ((ts.map Value.ref).toArray.zip its.toArray)/\failedOf st'=none/\Up (gM Hi) (arrOf st') ((ts.map Value.ref).toArray.zip its.toArray).size)
     C ⟨Array.Perm.refl _,rfl,rfl,rfl,hnd2⟩ (by rw[a0size];omega) (by rw[a0size];omega) λst' a1 a2 a3=>⟨a1,a2,a3⟩) ?_ λ_ _ z=>z)
    rintro⟨⟨⟩,st'⟩ s' ⟨rfl,a1,a2,a3⟩;exact fin st' a1 a2 a3
end
abbrev pk(b c:Int):MK:=.inr [.inl b,.inl c]
def cz:MK->Int
 |.inr [.inl b,.inl c]=>c*16+b
 |_=>0
def jU(H:Hp):V->MK
 |.ref q=>match H q with
  |some (.tup [.int b,.int c])=>pk b c
  |_=>.inl ""
 |_=>.inl ""
theorem oh{b c:Int}(h:bX H q b c):jU H (.ref q)=pk b c:=by
 unfold jU;dsimp only;rw[show H q=_ from h]
theorem gH{b c:Int}(m:br H (pk b c) y):∃q,y= .ref q/\bX H q b c:=by
 obtain⟨q,e,h⟩:=m;exact⟨q,e,h⟩
theorem Cb(a d:Value):checkBuiltinCall "sorted" ⟨[a],[("key",d)]⟩=pure ():=by kernel_rfl
def hJ(k:MK):Prop:=∃b c,k=pk b c/\0<=b/\b<16
theorem Cd{j:MK}(hj:hJ j)(hk:hJ k)(e:cz j=cz k):j=k:=by
 obtain⟨b,c,rfl,h1,h2⟩:=hj;obtain⟨b',c',rfl,h3,h4⟩:=hk;have e':c*16+b=c'*16+b':=e;have e1:c=c':=by omega
 have e2:b=b':=by omega
 rw[e1,e2]
theorem va{H:Hp}:∀{ks:List MK} {xs:List V},bw H ks xs->(∀k∈ks,hJ k)->xs.map (jU H)=ks/\(xs.map (eD H)=ks.map cz)/\∀x∈xs,∃q b c,x= .ref q/\bX H q b c/\0<=b/\b<16
 |_,_,.nil,_=>⟨rfl,rfl,λx hx=>nomatch hx⟩
 |_,_,.cons (a:=k) (b:=x) m t,hp=>by
  obtain⟨ih1,ih2,ih3⟩:=va t λk' hk'=>hp k' (List.mem_cons_of_mem _ hk');obtain⟨b,c,rfl,h1,h2⟩:=hp k (List.mem_cons_self ..);obtain⟨q,rfl,hq⟩:=gH m;refine⟨?_,?_,λy hy=>?_⟩
  ·rw[aW,ih1,oh hq]
  ·rw[aW,aW,ih2,ie hq];rfl
  ·rcases a9.mp hy with e|hy
   ·exact⟨q,b,c,e,hq,h1,h2⟩
   ·exact ih3 y hy
theorem yp{H:Hp}:∀{ys:List V},(∀x∈ys,∃q b c,x= .ref q/\bX H q b c)->bw H (ys.map (jU H)) ys
 | [],_=>.nil
 |y::ys,h=>by
  obtain⟨q,b,c,rfl,hq⟩:=h y (List.mem_cons_self ..);rw[aW,oh hq];exact .cons ⟨q,rfl,hq⟩ (yp λx hx=>h x (List.mem_cons_of_mem _ hx))
theorem bw.mono{H H':Hp}(ht:∀b xs,H b=some (.tup xs)->H' b=some (.tup xs)):∀{ks:List MK} {xs:List V},bw H ks xs->bw H' ks xs
 |_,_,.nil=>.nil
 |_,_,.cons m t=>.cons (m.mono ht) (bw.mono ht t)
section
variable{X:Cx}{pins:List (Addr×Obj)}{σ:St}{H:Hp}{s:Shared}{f:Addr}{xs:List V}{G:Hp->Prop}{ks:List MK}{v:Value}
theorem zO(hr:cq 1 X.A.in1.in1)(hf:pz X.prog X.w X.K X.mg X.base f G)(hG:∀l,H l=none->∀H1 H2:Hp,G H1->(∀b o,H1 b=some o->b≠l->H2 b=some o)->G H2)(I:ae X pins σ H s)(hGH:G H)
  (hcol:∀(E:Value->Shared->Prop) (Q':List Value->Shared->Prop),(∀us s1,ae X pins σ H s1->aH xs us->Q' us s1)->wpAny (model X.prog X.w) X.A.in1 (collect v) Q' E s)
  (hks:bw H ks xs) (h64:ks.length<64) (hp:∀k∈ks,hJ k) (hnd:ks.Nodup)
  (h:∀(s':Shared) (H':Hp) (l:Addr) (ks':List MK) (ys:List V),ae X pins σ H' s'->H l=none->H' l=some (.lst ys)->ks'.Perm ks->ks'.Pairwise (λj k=>cz j<cz k)->bw H' ks' ys->(∀b o,H b=some o->H' b=some o)->Q (.ref l) s'):
  wpAny (model X.prog X.w) X.A (call (.builtin "sorted") [v] [("key",.ref f)]) Q E s:=by
 refine uE (args:=⟨[v],[("key",.ref f)]⟩) plain_sorted entry_sorted (Cb _ _) ?_;unfold Builtin.«sorted»;refine aa (m:=checkCount "sorted" 1 1 _) (ah ?_);have hxl:xs.length=ks.length:=(cA hks).symm;obtain⟨a1,a2,a3⟩:=va hks hp;refine aa (hcol _ _ λus s1 I1 r=>?_);have hul:us.length=xs.length:=r.length.symm;refine aa (wpAny_newList ?_);have fresh:=I1.hok.fresh (aJ s1.heap.objs.size);have hz:xs.length<=sizeLine:=by rw[hxl];exact p7 (dN h64 (by decide))
 have I2:ae X pins σ (upd H s1.heap.objs.size (.lst xs)) {s1 with heap:=s1.heap.push (seqObj "list" us.toArray 0)}:=I1.laid (a:=s1.heap.objs.size) (o:=.lst xs) (t':=s1.toks) (λ_ _ q=>bJ _ q) (aJ _) ⟨hz,us,0,r,cn _ rfl⟩;generalize hl:s1.heap.objs.size=l at*;have keep:∀b o,H b=some o->upd H l (.lst xs) b=some o:=λb o q=>by rw[ag (ay q fresh)];exact q
 have hx2:∀x∈xs,∃q b c,x= .ref q/\bX (upd H l (.lst xs)) q b c/\0<=b/\b<16:=λx hx=>by
  obtain⟨q,b,c,e1,e2,e3⟩:=a3 x hx;exact⟨q,b,c,e1,keep _ _ e2,e3⟩
 have hrk:xs.map (eD (upd H l (.lst xs)))=xs.map (eD H):=mU λx hx=>by
  obtain⟨q,b,c,rfl,e2,_⟩:=a3 x hx;rw[ie e2,ie (show bX (upd H l (.lst xs)) q b c from keep _ _ e2)]
 have hndr:(xs.map (eD (upd H l (.lst xs)))).Nodup:=by
  rw[hrk,a2];refine mY.mpr (tG (λ{j k} hj hk hne e=>hne (Cd (hp j hj) (hp k hk) e)) hnd)
 refine aa (dJ (Gb hr hf (hG l fresh) I2 (hG l fresh H _ hGH λb o q _=>keep b o q) ao (by omega) hx2 hndr λs' H' ys I' el hperm hpw hfr=>?_));refine ah ?_;have fr2:∀b o,H b=some o->H' b=some o:=λb o q=>hfr b o (keep b o q) (ay q fresh);have hy:∀y∈ys,∃q b c,y= .ref q/\bX H q b c:=λy hy=>by
  obtain⟨q,b,c,e1,e2,_⟩:=a3 y (hperm.mem_iff.mp hy);exact⟨q,b,c,e1,e2⟩
 refine h s' H' l (ys.map (jU H)) ys I' fresh el ?_ ?_ ((yp hy).mono λb zs q=>fr2 b _ q) fr2
 ·have:=hperm.map (jU H);rw[a1]at this;exact this
 ·refine mY.mpr (tG (λ{x y} hxm hym hlt=>?_) hpw);obtain⟨q,b,c,rfl,e2⟩:=hy x hxm;obtain⟨q',b',c',rfl,e2'⟩:=hy y hym;rw[ie (show bX (upd H l (.lst xs)) q b c from keep _ _ e2),ie (show bX (upd H l (.lst xs)) q' b' c' from keep _ _ e2')]at hlt;rw[oh e2,oh e2'];exact hlt
theorem Ga(hc:X.calm=true)(I:ae X pins σ H s)(e:Rd H d (.dM kvs)):∃xs,bw H (kvs.map (·.1)) xs/\
  ∀(E:Value->Shared->Prop) (Q':List Value->Shared->Prop),(∀us s1,ae X pins σ H s1->aH xs us->Q' us s1)->wpAny (model X.prog X.w) X.A.in1 (collect (.ref d)) Q' E s:=by
 obtain⟨z,hd,ms,km,⟨o,es,ep,g,hx,hdat,he,hn⟩,is⟩:=fc I.hok e;have key:∀{kvs:List (MK×V)} {ms:List (MK×Value×Value)},KM H kvs ms->∃xs,bw H (kvs.map (·.1)) xs/\aH xs (ms.map (·.2.1)):=by
  intro kvs ms r
  induction r with
  |nil=>exact⟨[],.nil,.nil⟩
  |@cons p q ps qs hq t ih=>
   obtain⟨xs,m1,m2⟩:=ih;obtain⟨y,ry,my⟩:=xZ hq.2.1;exact⟨y::xs,.cons my m1,.cons ry m2⟩
 obtain⟨xs,m1,m2⟩:=key km;refine⟨xs,m1,λE Q' hq=>?_⟩;have hsz:es.size=kvs.length:=by
  rw[←gh,he,List.length_map];exact(cA km).symm
 refine zQ (A:=X.A.in1) (I.ok.hd hc) hd g hx hdat (by omega) λh' hk=>?_;have em:es.toList.map (·.key)=ms.map (·.2.1):=by rw[he,List.map_map];rfl
 rw[em];exact hq _ _ (I.kept (t':=s.toks) hk) m2
end
open PySem.W (CodeHd kla_obj kla_fn tabObj)
def ic(c':Addr)(qual:Str):HO:=.ext λh=>h.CodeRec (.ref c') qual
def iF(f:Addr)(o:Obj):HO:=.ext λh=>h.get? f=some o
def bx(H:Hp)(P:Addr)(qual:Str)(pos:Pos):Prop:=H P=some (.tbl #[])∨∃c',H P=some (.tbl #[rawInt pos.line,rawInt pos.col,.ref c'])/\H c'=some (ic c' qual)
theorem DM{c':Addr}(x:h.CodeRec (.ref c') qual):cQ P w H h c' (ic c' qual):=by
 obtain⟨c,o,vs,t,e,g,r⟩:=id x;cases e;refine⟨x,⟨o,g⟩,λh1 h2 ⟨c,o1,vs1,t1,e1,g1,r1⟩ k=>?_⟩;cases e1;exact⟨c',o1,vs1,t1,rfl,k _ g1,r1⟩
theorem uS(x:h.get? f=some o):cQ P w H h f (iF f o):=⟨x,⟨o,x⟩,λ_ _ h1 k=>k _ h1⟩
section
variable{X:Cx}{params:Arguments}{body:Expr}{scope:Scope}{lpos:Pos}{c P:Addr}{qual:Str}
def AC(P:Addr)(qual:Str)(lpos:Pos)(params:Arguments)(body:Expr)(scope:Scope):TE:=λ_ H Q=>bx H P qual lpos/\
 ∀f c' pm ctv H',H f=none->H' f=some (iF f (kla_obj "<lambda>" qual params body scope [] pm c' ctv))->H' c'=some (ic c' qual)->(∀b o,H b=some o->b≠P->H' b=some o)->bx H' P qual lpos->Q (.ref f) H'
theorem Bc(hcode:X.env.code= .ref c)(hC:CodeHd X.base c P)(hPb:X.base.get? P=none)(hbm:X.base.BuiltinsAt X.mg P)(hcl:closureFor scope X.env=pure [])(hdef:defaultsOf params X.env=([],[]))(hq:X.env.qual++"<lambda>"=qual):
  PE X (.Lambda params body scope lpos) (AC P qual lpos params body scope):=by
 intro pins s σ H Q I ⟨hT,h⟩;refine PySem.W.kla_eval hdef ?_;rw[hq];have hg:s.heap.Ns mainGlobals X.mg:=I.mod.glob.keeps I.bk;have hgP:mainGlobals≠P:=λz=>by
  obtain⟨o,es,ep,e,_⟩:=I.mod.glob;rw[z,hPb]at e;cases e
 have hb:s.heap.BuiltinsAt X.mg P:=by
  obtain⟨bm,ob,b1,b2,b3,b4,b5,b6⟩:=hbm;exact⟨bm,ob,b1,b2,b3,b4,I.bk _ _ b5,b6⟩
 rcases hT with hT|⟨c',hT,hc'⟩
 ·have gP:s.heap.get? P=some (tabObj #[]):=I.hok P _ hT;refine PySem.W.kla_makeFunction (mg:=X.mg) hcl I.ok.glob hg hcode (hC.keeps I.bk) gP True.intro rfl hgP hb λc' ctv h' tk hx hge hlt hrec htb=>?_;have hcn:H c'=none:=I.hok.fresh hge;have hsz:s.heap.objs.size<=h'.objs.size:=p7 (bc hge hlt);have hfn:H h'.objs.size=none:=I.hok.fresh hsz;have nPc:P≠c':=ay hT hcn;have nPf:P≠h'.objs.size:=ay hT hfn;have ncf:c'≠h'.objs.size:=cy hlt;have kp:∀(ob:Obj) b o,b≠P->s.heap.get? b=some o->(h'.push ob).get? b=some o:=λob b o hb e=>bJ _ (hx b o hb e);generalize hfo:kla_obj "<lambda>" qual params body scope [] ((X.mg "__name__").getD .none) c' ctv=fo;generalize hH':upd (upd (upd H P (.tbl #[rawInt lpos.line,rawInt lpos.col,.ref c'])) c' (ic c' qual)) h'.objs.size (iF h'.objs.size fo)=H';have eP:H' P=some (.tbl #[rawInt lpos.line,rawInt lpos.col,.ref c']):=by rw[←hH',ag nPf,ag nPc];exact ao
  have ec:H' c'=some (ic c' qual):=by rw[←hH',ag ncf];exact ao
  have ef:H' h'.objs.size=some (iF h'.objs.size fo):=by rw[←hH'];exact ao
  have oth:∀b,b≠P->b≠c'->b≠h'.objs.size->H' b=H b:=λb n1 n2 n3=>by rw[←hH',ag n3,ag n2,ag n1]
  have old:∀b o,H b=some o->b≠P->H' b=some o:=λb o q hb=>by rw[oth b hb (ay q hcn) (ay q hfn)];exact q
  have hrec':(h'.push fo).CodeRec (.ref c') qual:=hrec.push _;have gP':(h'.push fo).get? P=some (tabObj #[rawInt lpos.line,rawInt lpos.col,.ref c']):=by
   have:=bJ fo htb;simpa using this
  have hok':cg X.prog X.w H' (h'.push fo):=λb u q=>by
   by_cases e1:b=P
   ·subst e1;rw[eP]at q;cases q;exact gP'
   by_cases e2:b=c'
   ·subst e2;rw[ec]at q;cases q;exact DM hrec'
   by_cases e3:b=h'.objs.size
   ·subst e3;rw[ef]at q;cases q;exact uS (cn _ (by rw[←hfo];rfl))
   rw[oth b e1 e2 e3]at q;refine(I.hok b u q).stay (λd o hd e=>?_) (λd hd=>old d _ hd (aC hd hT (λz=>nomatch z))) λd zs hd=>old d _ hd (aC hd hT (λz=>nomatch z));refine kp fo d o ?_ e;rcases hd with rfl|hd
   ·exact e1
   ·exact aC hd hT (λz=>nomatch z)
  have un:Un X.fs [] H H' s.heap (h'.push fo):=by
   refine⟨λb o e n _ _=>kp fo b o (λz=>by rw[z,hT]at n;cases n) e,λb o e n _ _=>⟨o.slots,kp fo b o (λz=>by rw[z,hT]at n;cases n) e⟩,λb o e n _=>?_,λb o e _=>?_,λb zs q=>old b _ q (aC q hT (λz=>nomatch z)),λb o u q=>old b _ q (aC q hT (λz=>nomatch z)),λb ps q=>?_⟩
   ·have lb:=bp e;rw[oth b (λz=>by rw[z,hT]at n;cases n) (cy (dN lb hge)) (cy (dN lb hsz))];exact n
   ·by_cases e1:b=P
    ·exact⟨_,by rw[e1];exact gP'⟩
    ·exact⟨o,kp fo b o e1 e⟩
   ·by_cases e1:b=P
    ·subst e1;rw[hT]at q;cases q;exact⟨#[rawInt lpos.line,rawInt lpos.col,.ref c'],by rw[eP];simp⟩
    ·exact⟨#[],by rw[old b _ q e1];simp⟩
  refine⟨.ref h'.objs.size,H',I.un (t':=tk) un hok',rfl,h h'.objs.size c' _ ctv H' hfn (by rw[ef,←hfo]) ec old (.inr ⟨c',eP,ec⟩)⟩
 ·have gP:s.heap.get? P=some (tabObj #[rawInt lpos.line,rawInt lpos.col,.ref c']):=I.hok P _ hT;have hrec:s.heap.CodeRec (.ref c') qual:=(I.hok c' _ hc').1;refine PySem.W.kla_makeFunctionHit (cv:=.ref c') (mg:=X.mg) hcl I.ok.glob hg hcode (hC.keeps I.bk) gP (by simp[TriplesOk,rawInt]) (by simp[codeAmong,rawInt]) hb λctv h' tk hx hsz=>?_;have hfn:H h'.objs.size=none:=I.hok.fresh hsz;generalize hfo:kla_obj "<lambda>" qual params body scope [] ((X.mg "__name__").getD .none) c' ctv=fo;have I1:ae X pins σ (upd H h'.objs.size (iF h'.objs.size fo)) {s with heap:=h'.push fo,toks:=tk}:=I.laid (a:=h'.objs.size) (o:=iF h'.objs.size fo) (t':=tk) (λb u q=>bJ _ (hx b u q)) hsz (uS (cn _ (by rw[←hfo];rfl)));have old:∀b o,H b=some o->upd H h'.objs.size (iF h'.objs.size fo) b=some o:=λb o q=>by rw[ag (ay q hfn)];exact q
  subst hfo;exact⟨.ref h'.objs.size,_,I1,rfl,h h'.objs.size c' _ ctv _ hfn ao (old _ _ hc') (λb o q _=>old b o q) (.inr ⟨c',old _ _ hT,old _ _ hc'⟩)⟩
end
theorem ee{vs:List Nat}{H1:Hp}{D:Addr}{Qd:Hp->Prop}(Pv:Nat->Hp->Prop)(h0:Pv 0 (upd H1 D (.lst [])))(hgo:∀i H,i<n->Pv i H->J.go i H)(hst:∀H,Pv n H->J.stop n H)
  (hs:∀i x H H',i<n->Pv i H->J.yld i H x H'->g x (dO σ vs) H' λσ2 H2=>dO σ2 vs=dO σ vs/\tt σ2 H2 λb H3=>
   if b=true then te σ2 H3 λy H4=>∃acc,H4 D=some (.lst acc)/\acc.length<sizeLine/\Pv (i+1) (upd H4 D (.lst (acc++[y])))else Pv (i+1) H3) (hd:∀H,Pv n H->Qd H):
  ∃W:Nat->Nat->Hp->Prop,(∃m,W 0 m (upd H1 D (.lst [])))/\∀i m H,W i m H->
   (J.stop i H/\Qd H)∨(J.go i H/\∃Nx:Hp->Prop,(∀H',Nx H'->∃m',m'<m/\W (i+1) m' H')/\∀x H',J.yld i H x H'->g x (dO σ vs) H' λσ2 H2=>dO σ2 vs=dO σ vs/\tt σ2 H2 λb H3=>
    if b=true then te σ2 H3 λy H4=>∃acc,H4 D=some (.lst acc)/\acc.length<sizeLine/\Nx (upd H4 D (.lst (acc++[y])))else Nx H3):=by
 refine⟨λi m H=>i+m=n/\Pv i H,⟨n,jL n,h0⟩,λi m H ⟨e,p⟩=>?_⟩;by_cases q:i<n
 ·exact .inr ⟨hgo i H q p,Pv (i+1),λH' p'=>⟨m-1,by omega,by omega,p'⟩,λx H' y=>hs i x H H' q p y⟩
 ·have e2:i=n:=by omega
  subst e2;exact .inl ⟨hst H p,hd H p⟩
theorem kr(Pv:Nat->St->Hp->Prop)(h0:Pv 0 σ H)(hgo:∀i σ H,i<n->Pv i σ H->J.go i H)(hst:∀σ H,Pv n σ H->J.stop n H)
  (hs:∀i x σ H H',i<n->Pv i σ H->J.yld i H x H'->g x σ H' λσ2 H2=>tb {D with nx:=Pv (i+1),ct:=Pv (i+1),bk:=D.nx} σ2 H2) (hd:∀σ H,Pv n σ H->D.nx σ H):
  ∃W:Nat->Nat->St->Hp->Prop,(∃m,W 0 m σ H)/\∀i m σ H,W i m σ H->
   (J.stop i H/\D.nx σ H)∨(J.go i H/\∃N:St->Hp->Prop,(∀σ' H',N σ' H'->∃m',m'<m/\W (i+1) m' σ' H')/\∀x H',J.yld i H x H'->g x σ H' λσ2 H2=>tb {D with nx:=N,ct:=N,bk:=D.nx} σ2 H2):=by
 refine⟨λi m σ H=>i+m=n/\Pv i σ H,⟨n,jL n,h0⟩,λi m σ H ⟨e,p⟩=>?_⟩;by_cases q:i<n
 ·exact .inr ⟨hgo i σ H q p,Pv (i+1),λσ' H' p'=>⟨m-1,by omega,by omega,p'⟩,λx H' y=>hs i x σ H H' q p y⟩
 ·have e2:i=n:=by omega
  subst e2;exact .inl ⟨hst σ H p,hd σ H p⟩
inductive jk:MK->PyData->Prop
 |str (x:Str) (h:SeqAt.shaped (.str x)=true):jk (.inl x) (.str x)
 |pair (b c:Int):jk (pk b c) (.tuple [.int b,.int c])
theorem D3(b c b' c':Int):PyData.eqv (.tuple [.int b,.int c]) (.tuple [.int b',.int c'])=(b==b'&&c==c'):=by
 simp[PyData.eqv,PyData.eqvAll]
theorem AR(x y:Str):PyData.eqv (.str x) (.str y)=(x==y):=by simp[PyData.eqv]
theorem xu{j:MK}{d e:PyData}(hj:jk j d)(hk:jk k e):PyData.eqv d e=decide (j=k):=by
 cases hj with
 |str x hx=>
  cases hk with
  |str y hy=>
   rw[AR];by_cases q:x=y
   ·subst q;simp
   ·rw[ba (λz=>q (tu z))];simpa using q
  |pair b c=>rw[ba (λz=>nomatch z)];rfl
 |pair b c=>
  cases hk with
  |str y hy=>rw[ba (λz=>nomatch z)];rfl
  |pair b' c'=>
   rw[D3];by_cases q:b=b'/\c=c'
   ·rw[q.1,q.2];simp
   ·have:¬pk b c=pk b' c':=λz=>q (by
     injection z with z;injection z with z1 z2;injection z1 with z1;injection z2 with z2 _;injection z2 with z2;exact⟨z1,z2⟩)
    rw[ba this];by_cases q1:b=b'
    ·have q2:¬c=c':=λz=>q ⟨q1,z⟩;simp[q1,q2]
    ·simp[q1]
theorem oG{j:MK}{d:PyData}(h:jk j d):SeqAt.shaped d=true:=by
 cases h with
 |str x h=>exact h
 |pair b c=>rfl
theorem pN{K:PySem.W.Frag}{j:MK}{d:PyData}{x:V}(h:jk j d)(m:br H j x):Dp K H x d:=by
 cases h with
 |str y h=>
  cases(show x=V.str y from m);exact .str y
 |pair b c=>
  obtain⟨q,rfl,hq⟩:=gH m;exact .tup (bo.of hq) (.cons (.int b) (.cons (.int c) .nil))
def jv(j:MK):Prop:=∃d,jk j d
section
variable{X:Cx}
def FP:R2:=λx y H Q=>∃j k,jv j/\jv k/\br H j x/\br H k y/\Q (.bl (decide (j=k))) H
def BA:R2:=λx y H Q=>∃j k,jv j/\jv k/\br H j x/\br H k y/\Q (.bl (!decide (j=k))) H
theorem mJ(hu:X.A.units+64<cLine):cO X (compareOp .Eq) FP:=λpins s σ H x y v u Q I rx ry ⟨j,k,⟨d,hd⟩,⟨e,he⟩,mj,mk,q⟩=>
 DO hu pins s σ H x y v u Q I rx ry ⟨d,e,pN hd mj,pN he mk,oG hd,oG he,by rw[xu hd he];exact q⟩
theorem rp(hu:X.A.units+64<cLine):cO X (compareOp .NotEq) BA:=λpins s σ H x y v u Q I rx ry ⟨j,k,⟨d,hd⟩,⟨e,he⟩,mj,mk,q⟩=>
 Da hu pins s σ H x y v u Q I rx ry ⟨d,e,pN hd mj,pN he mk,oG hd,oG he,by rw[xu hd he];exact q⟩
end
theorem FN(k v:Sem Value):dictDisplay [(some k,v)]=(do let d←subDict [(k,v)];pure (.ref d)):=by
 unfold dictDisplay;simp only[kZ,kY,pure_bind,zb,List.length_singleton,bind_assoc];simp
theorem Am(k v:Expr)(pos:Pos)(env:Env):eval (.Dict [some k] [v] pos) env=(do standAt pos;dictDisplay [(some (eval k env),do let x←eval v env;standAt pos;pure x)]):=rfl
def D6(tk tv:TE):TE:=λσ H Q=>∀p,H p=none->tk σ (upd H p (.dM [])) λx H1=>tv σ H1 λy H2=>H2 p=some (.dM [])/\∃k,br H2 k x/\Q (.ref p) (upd H2 p (.dM [(k,y)]))
theorem Av{k v:Expr}{tk tv:TE}(hu:X.A.units+1<cLine)(hk:PE X k tk)(hv:PE X v tv):PE X (.Dict [some k] [v] pos) (D6 tk tv):=by
 intro pins s σ H Q I q;have hn:=I.hok.fresh (aJ s.heap.objs.size);have I1:=I.laid (a:=s.heap.objs.size) (o:=.dM []) (h':=s.heap.push {cls:=.type "dict",data:=.dict #[]}) (t':=s.toks) (λ_ _ q=>bJ _ q) (aJ _) (vY s.heap I.big);have q1:=q _ hn;rw[Am,FN];refine aa (p9 (aa ?_));unfold subDict;refine aa (wpAny_alloc (aa (dJ ?_)));rw[if_pos (show[(eval k X.env,(do let x←eval v X.env;standAt pos;pure x:Sem Value))].length<=15 from Nat.le_of_ble_eq_true rfl)];have hp:oU X pos [some k] [v] [(tk,tv)]:=Fo hk hv A8;refine aa (aI (hp pins _ σ _ (λps H2=>match ps with
  | [(x,y)]=>H2 s.heap.objs.size=some (.dM [])/\∃k,br H2 k x/\Q (.ref s.heap.objs.size) (upd H2 s.heap.objs.size (.dM [(k,y)]))
  |_=>False) I1 q1) ?_)
 rintro vs s2 ⟨ps,H2,I2,rel,q2⟩
 match ps,q2 with
 | [(x,y)],q2=>
  obtain⟨e,kx,mx,q2⟩:=q2;cases rel with
  |@cons _ b _ _ r t=>
   cases t;obtain⟨u,r'⟩:=b;obtain⟨z,hd,xs,km,dd,is⟩:=fc I2.hok (.inl e);have hx:xs.length=0:=(cA km).symm;refine dJ (aa ?_);simp only[kZ,kY,bind_assoc,pure_bind];refine aa (xq (by omega) (gg I2.hok (mx.raw r.1)) dd is (by omega) λh' dd' hs=>ah (ah (ah (ah ?_))));exact⟨.ref s.heap.objs.size,_,qE I2 e hs (by show 1<=sizeLine;decide) hd (km.put kx (mx.raw r.1) r.2) dd',rfl,q2⟩
def ju(K:PySem.W.Frag)(H:Hp)(d:Addr)(ks:List MK):Prop:=(∃kvs,Rd H d (.dM kvs)/\ks=kvs.map (·.1))∨∃xs,SqL K H d xs/\bw H ks xs
section
variable{X:Cx}{pins:List (Addr×Obj)}{σ:St}{H:Hp}{s:Shared}
theorem CK{ks:List MK}(hc:X.calm=true)(I:ae X pins σ H s)(e:ju X.K H d ks):∃xs,bw H ks xs/\
  ∀(E:Value->Shared->Prop) (Q':List Value->Shared->Prop),(∀us s1,ae X pins σ H s1->aH xs us->Q' us s1)->wpAny (model X.prog X.w) X.A.in1 (collect (.ref d)) Q' E s:=by
 rcases e with⟨kvs,e,rfl⟩|⟨xs,hq,mk⟩
 ·exact Ga hc I e
 ·refine⟨xs,mk,λE Q' hQ=>?_⟩;obtain⟨its,rv,hl,hz⟩:=I.list hq;refine collect_list hl.isList (hQ _ _ (I.kept (t':=s.toks) λb o e=>?_) rv) (by rw[←rv.length];exact hz);exact(fq _ _ (bP (cy (bp e)))).trans (bJ _ e)
end
def zz(K:PySem.W.Frag)(G:Addr->Addr->Hp->Prop):List V->List V->Hp->VK->Prop:=λvs zs H Q=>∃d ks f c',vs=[V.ref d]/\zs=[V.ref f]/\ju K H d ks/\G f c' H/\ks.length<64/\(∀k∈ks,hJ k)/\ks.Nodup/\
 ∀(H':Hp) (l:Addr) (ks':List MK) (ys:List V),H l=none->H' l=some (.lst ys)->ks'.Perm ks->ks'.Pairwise (λj k=>cz j<cz k)->bw H' ks' ys->(∀b o,H b=some o->H' b=some o)->Q (.ref l) H'
theorem EI{G:Addr->Addr->Hp->Prop}(hc:X.calm=true)(hr:cq 1 X.A.in1.in1)(hf:∀f c',pz X.prog X.w X.K X.mg X.base f (G f c'))(hG:∀f c' H l,G f c' H->H l=none->∀H1 H2:Hp,G f c' H1->(∀b o,H1 b=some o->b≠l->H2 b=some o)->G f c' H2):
  qv X (.builtin "sorted") ["key"] (zz X.K G):=by
 intro pins s σ H xs zs us ws Q I r rz ⟨d,ks,f,c',ex,ez,e,hGf,h64,hp,hnd,q⟩;subst ex ez;obtain rfl:=aH.ref1 r;obtain rfl:=aH.ref1 rz;obtain⟨xs,hm,hcol⟩:=CK hc I e;exact zO (ks:=ks) (xs:=xs) hr (hf f c') (λl hl H1 H2 g1 fr=>hG f c' H l hGf hl H1 H2 g1 fr) I hGf hcol hm h64 hp hnd λs' H' l ks' ys I' hl el pm pw mk fr=>⟨.ref l,H',I',rfl,q H' l ks' ys hl el pm pw mk fr⟩
def d8(v d:Addr):HO:=.ext λh=>h.IsValuesView v d
def By(td:TE):TE:=λσ H Q=>td σ H λx H1=>∃d kvs,x= .ref d/\Rd H1 d (.dM kvs)/\∀v,H1 v=none->Q (.ref v) (upd H1 v (d8 v d))
theorem Bl{v:Addr}(x:h.IsValuesView v d):cQ P w H h v (d8 v d):=
 ⟨x,let⟨o,e,_⟩:=x;⟨o,e⟩,λh1 h2 y k=>let⟨o,e,r⟩:=y;⟨o,k o e,r⟩⟩
section
variable{X:Cx}{e:Expr}{td:TE}{apos cpos:Pos}
theorem ra(he:PE X e td)(hbase:attributeBase e "values" X.env (eval e X.env)=eval e X.env:=by rfl)(hline:(apos.endLine==cpos.line)=true:=by rfl):PE X (.Call (.Attribute e "values" apos) [] [] cpos) (By td):=by
 intro pins s σ H Q I h;refine qk (T:="dict") (id:="dict.values") hbase rfl hline tZ GQ PySem.F.type_dict_values (aI (he pins s σ H _ I h) λu s1 ⟨x,H1,I1,rx,d,kvs,ex,hd,q⟩=>?_);subst ex;obtain rfl:u=Value.ref d:=rx;obtain⟨z,hs,ms,km,⟨o,es,ep,hgd,hx,hdat,he',hn⟩,is⟩:=fc I1.hok hd;have hT:s1.TypeIs (.ref d) "dict":=⟨o,hgd,hx.1⟩;refine⟨hT,λb q=>by cases q;exact⟨o,hgd,hx.2.1⟩,?_⟩;have I2:ae X pins σ (upd H1 s1.heap.objs.size (d8 s1.heap.objs.size d)) {s1 with heap:=s1.heap.push {cls:=.type "dict_values",data:=.fields #[.ref d]} }:=
  I1.laid (t':=s1.toks) (λb ob q=>bJ _ q) (aJ _) (Bl ⟨_,cn _ rfl,rfl,rfl⟩)
 show wpAny _ _ (callWith cpos (.builtin "dict.values") [.ref d] [] []) _ X.xe s1;exact method_meetsIn GQ PySem.F.entry_dict_values rfl (PySem.evalArgs_none ⟨rfl,hT,PySem.F.args_dict_values_1 _,_,xA hs,hT,.ref _,_,I2,rfl,q _ (I1.hok.fresh (aJ _))⟩)
end
theorem CP(hh:A.handled=none)(hdd:od.data= .dict es ep)(hsz:es.size=n)(hne:d≠it):
  Walks prog w A it [it,d] [it] n (λi v=>∃en:DictEntry,es[i]?=some en/\v=en.val) (λi h=>h.IsValIter it d i n ep/\h.get? d=some od)where
 sub:=λb hb=>by simp at hb;simp[hb]
 frame:=λi h h' st hk=>by
  obtain⟨⟨o,e,r⟩,g⟩:=st;exact⟨⟨o,hk it (by simp) o e,r⟩,hk d (by simp) _ g⟩
 item:=λi s Q E hi st hQ=>by
  obtain⟨en,hen⟩:∃en,es[i]?=some en:=⟨es[i]'(by omega),zd _⟩;refine vA st.1 st.2 hdd hsz hen λh' hit' hs'=>?_;exact hQ _ h' s.toks ⟨en,hen,rfl⟩ ⟨hit',(hs'.2 d hne).trans st.2⟩ λb o hb e=>(hs'.2 b (λz=>hb (by simp[z]))).trans e
 done:=λs Q E st hQ=>vK hh st.1 st.2 hdd hsz (aJ _) λh' eb=>hQ h' s.toks λb o hb e=>eb b o (λz=>hb (by simp[z])) e
 self:=λi s Q E st hQ=>wpAny_pyIter_valiter st.1 hQ
section
variable{X:Cx}
def rF(kvs:List (MK×V))(ns:List Int):Prop:=kvs.map (·.2)=ns.map V.int
theorem wL{v:Addr}{ns:List Int}(hc:X.calm=true)(I:ae X pins σ H s)(hv:H v=some (d8 v d))(hd:Rd H d (.dM kvs))(hn:rF kvs ns)
  (h:∀(it:Addr) (od:Obj) (es:Array DictEntry) (ep:Nat) (s₂:Shared),Walks X.prog X.w X.A.in1 it [it,d] [it] ns.length (λi v=>∃en:DictEntry,es[i]?=some en/\v=en.val) (λi h=>h.IsValIter it d i ns.length ep/\h.get? d=some od)->
   (s₂.heap.IsValIter it d 0 ns.length ep/\s₂.heap.get? d=some od)->(∀b∈[it,d],b<s₂.heap.objs.size)->(∀i v,(∃en:DictEntry,es[i]?=some en/\v=en.val)->∃t,v= .int (ns.getD i 0) t)->
   (∀h' tk,(∀b o,b∉[it]->s₂.heap.get? b=some o->h'.get? b=some o)->ae X pins σ H {s₂ with heap:=h',toks:=tk})->Q (.ref it) s₂):
  wpAny (model X.prog X.w) X.A.in1 (pyIter (.ref v)) Q E s:=by
 obtain⟨z,hs,ms,km,⟨o,es,ep,hgd,hx,hdat,he,hnd⟩,is⟩:=fc I.hok hd;have hvw:s.heap.IsValuesView v d:=(I.hok v _ hv).1;have hsz:es.size=ns.length:=by
  have h1:es.size=kvs.length:=by
   rw[←gh,he,List.length_map];exact(cA km).symm
  have h2:=dr List.length hn;rw[List.length_map,List.length_map]at h2;omega
 have hlt:d<s.heap.objs.size:=bp hgd;refine wb hvw hgd hdat ?_;refine h s.heap.objs.size o es ep _ (CP (A:=X.A.in1) (I.ok.hd hc) hdat hsz (cy hlt)) ⟨⟨_,cn _ rfl,rfl,by rw[hsz];rfl⟩,bJ _ hgd⟩ (λb hb=>?_) (λi u hu=>?_) (λh' tk hk=>?_)
 ·show b<(s.heap.push _).objs.size;rw[dU];have e':b=s.heap.objs.size∨b=d:=by simpa using hb
  rcases e' with q|q
  ·rw[q];exact qa _
  ·rw[q];exact lg hlt
 ·obtain⟨en,hen,rfl⟩:=hu;obtain⟨hi,hei⟩:=tW.mp hen;have hik:i<kvs.length:=by
   have h2:=dr List.length hn;rw[List.length_map,List.length_map]at h2;omega
  obtain⟨q,hq1,hq2⟩:=dX km (i:=i) (aZ hik);have e1:es.toList[i]?=some en:=by rw[jN];exact hen
  rw[he,bY,hq1]at e1;have e2:=b9 e1;have e3:kvs[i].2=V.int (ns.getD i 0):=by
   have h3:=dr (λl=>l[i]?) hn;simp only[bY]at h3;rw[aZ hik]at h3;cases h4:ns[i]? with
   |none=>rw[h4]at h3;cases h3
   |some m=>
    rw[h4]at h3;rw[du,h4];exact b9 h3
  have r:=hq2.2.2;rw[e3]at r;obtain⟨t,ht⟩:=r;refine⟨t,?_⟩;rw[←e2];exact ht
 ·refine I.kept (t':=tk) λb ob e=>hk b ob (λz=>?_) (bJ _ e);have e':b=s.heap.objs.size:=by simpa using z
  exact absurd (bp e) (by rw[e'];exact fW _)
theorem DS(ns:List Int):preSum (λi=>ns.getD i 0) ns.length=ns.sum:=by
 have:∀(k:Nat),k<=ns.length->preSum (λi=>ns.getD i 0) k=(ns.take k).sum:=by
  intro k
  induction k with
  |zero=>intro _;rfl
  |succ k ih=>
   intro hk;have h1:preSum (λi=>ns.getD i 0) (k+1)=preSum (λi=>ns.getD i 0) k+ns.getD k 0:=rfl;rw[h1,ih (by omega),fY (by omega),zj,du,aZ (by omega)];simp
 rw[this _ (aJ _),gp]
def DG:List V->Hp->VK->Prop:=λvs H Q=>∃v d kvs ns,vs=[V.ref v]/\H v=some (d8 v d)/\Rd H d (.dM kvs)/\rF kvs ns/\Q (.int ns.sum) H
theorem vg(hc:X.calm=true):gE X (.builtin "sum") DG:=by
 intro pins s σ H vs us Q I r ⟨v,d,kvs,ns,ex,hv,hd,hn,q⟩;subst ex;obtain rfl:=aH.ref1 r;refine call_sum_walkG (wL hc I hv hd hn λit od es ep s₂ W st hfp hval hI=>?_);refine⟨it,[it,d],[it],ns.length,_,_,λi=>ns.getD i 0,rfl,W,st,hfp,hval,λh' tk t' hk=>⟨.int _,H,hI h' tk hk,⟨t',rfl⟩,?_⟩⟩;rw[DS];exact q
def E2:List V->Hp->VK->Prop:=λvs H Q=>∃v d kvs ns,vs=[V.ref v]/\H v=some (d8 v d)/\Rd H d (.dM kvs)/\rF kvs ns/\0<ns.length/\∀m,m∈ns->(∀y,y∈ns->y<=m)->Q (.int m) H
theorem Cn(hc:X.calm=true):gE X (.builtin "max") E2:=by
 intro pins s σ H vs us Q I r ⟨v,d,kvs,ns,ex,hv,hd,hn,h0,q⟩;subst ex;obtain rfl:=aH.ref1 r;refine call_max_walk (wL hc I hv hd hn λit od es ep s₂ W st hfp hval hI=>?_);refine⟨it,[it,d],[it],ns.length,_,_,λi j=>decide (ns.getD i 0>ns.getD j 0),rfl,W,st,hfp,h0,CmpOf.ints_gt (λi=>ns.getD i 0) hval,λu h' tk hP hk=>?_⟩;obtain⟨t,rfl⟩:=hval _ _ hP;obtain⟨h1,h2⟩:=argBest_gt (λi=>ns.getD i 0) (ns.length-1);refine⟨.int _,H,hI h' tk hk,⟨t,rfl⟩,q _ ?_ λy hy=>?_⟩
 ·exact PySem.getD_mem (by omega)
 ·obtain⟨j,hj,rfl⟩:=mem_getD hy;exact h2 j (by omega)
def EC(td:TE):TI:=λσ H R=>td σ H λx H1=>∃d kvs,x= .ref d/\H1 d=some (.dM kvs)/\∀o,R (qQ d o kvs) (upd H1 d (.frz o (.dM kvs)))
theorem Ah{td:TE}(he:PE X e td):PI X tg e (EC td):=by
 intro pins s σ H R I h;refine aI (he pins s σ H _ I h) λu s1 ⟨x,H1,I1,rx,d,kvs,ex,hd,q⟩=>?_;subst ex;obtain rfl:u=Value.ref d:=rx;obtain⟨o,I2⟩:=I1.lock hd True.intro;obtain⟨hs,hgd,hx,es,ep,hdt,hsz,ent⟩:=I2.frzM ao;refine qC hs hgd hx hdt (ou (tk:=s1.toks) I2 _ (yd _ hdt) ⟨_,cn _ rfl,rfl,?_⟩ (q o));rw[hsz]<;>rfl
end
def jV:List DictEntry->List (Int×Addr)->Bool
 | [],[]=>true
 |e::es,(i,f)::D=>(match e.key with|.int j _=>j==i|_=>false)&&e.hash==hashInt i&&(match e.val with|.ref g=>g==f|_=>false)&&jV es D
 |_,_=>false
def i0(K:PySem.W.Frag)(a:Addr)(D:List (Int×Addr)):Bool:=decide ((D.map (·.1)).Nodup)&&(match K.lookup a with
 |some o=>o.cls==.type "dict"&&o.dict.isNone&&o.slots.isEmpty&&(match o.data with|.dict es _=>jV es.toList D|_=>false)
 |none=>false)
theorem xM(prog:Program)(w:World):∀{es:List DictEntry} {D:List (Int×Addr)},jV es D=true->
  (∀e∈es,∃k,(PySem.intKind prog w).is k e.key=true/\e.hash=(PySem.intKind prog w).hash k)/\Pairs (PySem.intKind prog w) es (D.map λp=>(p.1,Value.ref p.2))
 | [],[],_=>⟨(λ_ h=>(nomatch h)),.nil⟩
 |e::es,(i,f)::D,h=>by
  simp only[jV,dH]at h;obtain⟨⟨⟨h1,h2⟩,h3⟩,h4⟩:=h;obtain⟨hk,hp⟩:=xM prog w h4;split at h1
  ·rename_i j t hkey;obtain rfl:=d9.mp h1;split at h3
   ·rename_i g hval;have hg:g=f:=d9.mp h3;subst hg;have hi:(PySem.intKind prog w).is j e.key=true:=by rw[hkey];show Value.isInt j (.int j t)=true;simp[Value.isInt]
    refine⟨λe' he'=>?_,.cons hi hval hp⟩;rcases a9.mp he' with rfl|he'
    ·exact⟨j,hi,d9.mp h2⟩
    ·exact hk e' he'
   ·cases h3
  ·cases h1
 | [],_::_,h=>by simp[jV]at h
 |_::_,[],h=>by simp[jV]at h
theorem FV{K:PySem.W.Frag}{D:List (Int×Addr)}(hl:i0 K a D=true)(X:K.In h)(prog:Program)(w:World):h.DictOf (PySem.intKind prog w) a (D.map λp=>(p.1,Value.ref p.2)):=by
 simp only[i0,dH]at hl;obtain⟨hn,hl⟩:=hl;split at hl
 ·rename_i o ho;simp only[dH]at hl;obtain⟨⟨⟨e1,e2⟩,e3⟩,e4⟩:=hl;split at e4
  ·rename_i es ep hd;obtain⟨hk,hp⟩:=xM prog w e4;refine⟨o,es,ep,X _ _ ho,⟨d9.mp e1,by simpa using e2,by simpa using e3⟩,hd,λe he=>hk e (by simpa using he),hp,?_⟩;rw[List.map_map];exact ck hn
  ·cases e4
 ·cases hl
theorem BY{D:List (Int×Addr)}(hn:(D.map (·.1)).Nodup){i:Int}(h:(i,f)∈D):valueAt (D.map λp=>(p.1,Value.ref p.2)) i=some (.ref f):=by
 induction D with
 |nil=>cases h
 |cons p r ih=>
  rw[aW,cG]at hn;unfold valueAt;rw[aW,mR];rcases a9.mp h with e|h
  ·rw[←e];simp
  ·have ne:p.1≠i:=λz=>hn.1 (by rw[z];exact bh.mpr ⟨_,h,rfl⟩);simp only[ba ne];exact ih hn.2 h
section
variable{X:Cx}{x:Str}{a:Addr}{D:List (Int×Addr)}{CX:h9}{k:Nat}{ps:List Str}{spI:Int->Sp}{i e:Expr}{es:List Expr}{ti:TE}{t:TA}{E:XK}{p p1 pos:Pos}
def F9(D:List (Int×Addr))(spI:Int->Sp)(E:XK)(ti:TE)(t:TA):TE:=λσ H Q=>ti σ H λy H1=>∃j f,y= .int j/\(j,f)∈D/\t σ H1 λvs H2=>spI j vs H2 Q E
theorem ye(hD:i0 X.K a D=true)(hg:Gl X x)(hm:X.mg x=some (.ref a))
  (G:∀j f,(j,f)∈D->∃fd,ak X.prog X.w X.K X.mg X.base CX k f fd ps (spI j)/\aN X.K fd ps []/\PySem.W.keepIn X.K (.ref f)=true) (hr:cq k X.A) (hx:iK CX X E) (hi:PE X i ti) (hs:sU i)
  (ha:PA X (e::es) t) (hdb:(x==("__debug__":Str))=false:=by decide) (he:starEach (e::es) X.env=(false,eval e X.env)::starEach es X.env:=by rfl) (cc:(backTo pos (starEach es X.env)).any (·.1)=false:=by rfl):
  PE X (.Call (.Subscript (.Name x p) i p1) (e::es) [] pos) (F9 D spI E ti t):=by
 intro pins s σ H Q I h;have hn:(D.map (·.1)).Nodup:=by
  simp only[i0,dH]at hD;exact ck hD.1
 refine Call_ (yD GJ.lookup hs (l8 I hg hm (aI (hi pins s σ H _ I h) λiv s1 ⟨y,H1,I1,ry,j,f,ey,hf,q1⟩=>?_) hdb));subst ey;obtain⟨tk,rfl⟩:=ry;have dd:=FV hD I1.kIn X.prog X.w;refine⟨dd.mapOf.typeIs,wpAny_getItem_of (k:=j) (by show Value.isInt j (.int j tk)=true;simp[Value.isInt]) dd.mapOf (BY hn hf) ?_⟩;obtain⟨fd,F,hb,hk⟩:=G j f hf;have I2:ae X pins σ H1 {s1 with toks:=s1.toks+1}:=I1.tok _;refine tN (h₀:=X.base) I2.ok.mod.kin hk (aI (ha pos pins _ σ H1 _ I2 q1) λus s3 ⟨vs,H3,I3,r,q⟩=>⟨I3.kIn,?_⟩) he cc;exact rB F hr hb .nil hx I3 r (by rw[List.append_nil];exact q)
end
section
variable{prog:Program}{w:World}{A:Around}{E:Value->Shared->Prop}{s:Shared}
theorem DF{t:Addr}{y:Value}(st:s.heap.IsTupleIter it t i)(ht:s.heap.IsTuple t ys)(hy:ys[i]?=some y)
  (q:∀h',h'.IsTupleIter it t (i+1)->Heap.SameBut it s.heap h'->Q y {s with heap:=h'}):wpAny (model prog w) A (Builtin.SmallTypes.nextOf (.ref it)) Q E s:=by
 have⟨oi,gi,ci,di⟩:=st;have⟨ot,gt,_,n,dt⟩:=ht;unfold Builtin.SmallTypes.nextOf;refine aa (gZ (name:=Str.ofString "__next__") st.typeIs ua (fV ua st.typeIs GR ?_ (GU _)));show wpAny _ _ (field (.ref it) 0 >>= _) _ _ s;refine aa (gn gi di (x:=.ref t) rfl ?_);show wpAny _ _ (if(Value.ref t==Value.none)=true then _ else _) _ _ s;rw[if_neg (λz:(Value.ref t==Value.none)=true=>c0 z)];show wpAny _ _ (field (.ref it) 1 >>= _) _ _ s;refine aa (gn gi di (x:=.int i 0) rfl ?_);show wpAny _ _ (seqItems? (.ref t) >>= _) _ _ s;refine aa (iz gt dt ?_);simp only[jg,hy];refine aa (m9 gi di (by simp) (ah ⟨y,rfl,ah (q _ ⟨_,gJ _ gi (ze (ng di _)),(zf ..).trans ci,?_⟩ (iy ..))⟩));rw[ng di];simp[rawInt]
theorem Ec{t:Addr}(hh:A.handled=none)(st:s.heap.IsTupleIter it t i)(ht:s.heap.IsTuple t ys)(hy:ys[i]?=none)
  (q:∀h' e,Heap.ExtBut it s.heap h'->(∃o,h'.get? e=some o/\o.cls= .type "StopIteration")->E (.ref e) {s with heap:=h'}):wpAny (model prog w) A (Builtin.SmallTypes.nextOf (.ref it)) Q E s:=by
 have⟨oi,gi,ci,di⟩:=st;have⟨ot,gt,_,n,dt⟩:=ht;unfold Builtin.SmallTypes.nextOf;refine aa (gZ (name:=Str.ofString "__next__") st.typeIs ua (fV ua st.typeIs GR ?_ (GU _)));show wpAny _ _ (field (.ref it) 0 >>= _) _ _ s;refine aa (gn gi di (x:=.ref t) rfl ?_);show wpAny _ _ (if(Value.ref t==Value.none)=true then _ else _) _ _ s;rw[if_neg (λz:(Value.ref t==Value.none)=true=>c0 z)];show wpAny _ _ (field (.ref it) 1 >>= _) _ _ s;refine aa (gn gi di (x:=.int i 0) rfl ?_);show wpAny _ _ (seqItems? (.ref t) >>= _) _ _ s;refine aa (iz gt dt ?_);simp only[jg,hy];refine aa (eC (aa (m9 gi di (by simp) (aa ?_))));simp only[newExc,newTuple];refine aa (gK ?_ (by size_fits));refine aa (m:=firstArgMember _ _) (qj (a:=Value.none) (by first|rfl|(simp only[firstArgMember];rfl)) ?_);refine gK ?_ (by size_fits);simp only[raiseNew];refine aa (wpAny_handled ?_);first|rw[show A.in1.handled=none from hh]|rw[hh]
 exact aa (ah (wpAny_throw (q _ _ (((iy ..).extBut.push _).push _) ⟨_,cn _ rfl,rfl⟩)))
theorem zM{TI TO:Addr}{xs:Array Value}{x y a b:Value}(D:ZipApart z TI TO i1 i2 l1 l2)
  (hz:IsZip s.heap z TI TO .none) (hTI:IsPair s.heap TI (.ref i1) (.ref i2)) (hTO:IsPair s.heap TO a b)
  (h1:s.heap.IsListIter i1 l1 k1) (h2:s.heap.IsTupleIter i2 l2 k2) (hl1:s.heap.IsList l1 xs) (hl2:s.heap.IsTuple l2 ys) (hx:xs[k1]?=some x) (hy:ys[k2]?=some y)
  (hQ:∀h',IsZip h' z TI TO (rawInt s.heap.objs.size)->IsPair h' TO x y->h'.IsListIter i1 l1 (k1+1)->h'.IsTupleIter i2 l2 (k2+1)->IsPair h' s.heap.objs.size x y->h'.objs.size=s.heap.objs.size+1->
   (∀c o,c≠z->c≠TO->c≠i1->c≠i2->s.heap.get? c=some o->h'.get? c=some o)->Q (.ref s.heap.objs.size) {s with heap:=h'}):
  wpAny (model prog w) A (Builtin.«zip.__next__» ⟨[.ref z],[]⟩) (λfin s'=>∃v,fin= .done (.ret v)/\Q v s') E s:=by
 show wpAny _ _ (field (.ref z) 2 >>= _) _ _ _;refine aa (gn hz rfl (x:=.bool false) rfl ?_);show wpAny _ _ (field (.ref z) 3 >>= _) _ _ _;refine aa (gn hz rfl (x:=.ref TI) rfl (aa (iz hTI rfl ?_)));show wpAny _ _ (Builtin.SmallTypes.ownedTupleIsFree (.ref z) >>= _) _ _ _;refine aa ?_;unfold Builtin.SmallTypes.ownedTupleIsFree;refine aa (gn hz rfl (x:=.none) rfl (ah ?_));simp only[fU];refine aa (eC (aa (gn hz rfl (x:=.ref TO) rfl (aa (nr hz (by simp) λg1 z1 e1=>?_)))));replace z1:IsZip g1 z TI TO .ellipsis:=z1;refine aa ?_;simp only[List.zipIdx_cons,List.zipIdx_nil,kZ,kY];refine aa (aa (ub ?_));show wpAny _ _ (Builtin.SmallTypes.nextOf (.ref i1) >>= _) _ _ _;refine aa (wpAny_nextOf_list_item (h1.extBut e1.extBut D.i1z) (hl1.extBut e1.extBut D.l1z) hx λg2 a2 e2=>ah ?_);have o2:IsPair g2 TO a b:=e2.extBut _ _ D.TOi1 (e1.extBut _ _ D.TOz hTO);refine aa (iz o2 rfl (aa (zk o2 λg3 o3 e3=>?_)));replace o3:IsPair g3 TO x b:=o3;refine aa (gm (ah (aa (aa (ub ?_)))));show wpAny _ _ (Builtin.SmallTypes.nextOf (.ref i2) >>= _) _ _ _;refine aa (DF (((h2.extBut e1.extBut D.i2z).extBut e2.extBut D.i12.symm).extBut e3.extBut D.TOi2.symm) (((hl2.extBut e1.extBut D.l2z).extBut e2.extBut D.l2i1).extBut e3.extBut D.l2TO) hy λg4 b4 e4=>ah ?_);have o4:IsPair g4 TO x b:=e4.extBut _ _ D.TOi2 o3;refine aa (iz o4 rfl (aa (zk o4 λg5 o5 e5=>?_)));replace o5:IsPair g5 TO x y:=o5;refine aa (gm (ah (ah (aa (iz o5 rfl (aa (wpAny_newTuple ?_)))))));have sz5:g5.objs.size=s.heap.objs.size:=by rw[e5.1,e4.1,e3.1,e2.1,e1.1]
 have z5:IsZip g5 z TI TO .ellipsis:=e5.extBut _ _ D.TOz.symm (e4.extBut _ _ D.i2z.symm (e3.extBut _ _ D.TOz.symm (e2.extBut _ _ D.i1z.symm z1)));have k5:∀c o,c≠z->c≠TO->c≠i1->c≠i2->s.heap.get? c=some o->g5.get? c=some o:=λc o c1 c2 c3 c4 e=>e5.extBut _ _ c2 (e4.extBut _ _ c4 (e3.extBut _ _ c2 (e2.extBut _ _ c3 (e1.extBut _ _ c1 e))));have a5:g5.IsListIter i1 l1 (k1+1):=((a2.extBut e3.extBut D.TOi1.symm).extBut e4.extBut D.i12).extBut e5.extBut D.TOi1.symm;have b5:g5.IsTupleIter i2 l2 (k2+1):=b4.extBut e5.extBut D.TOi2.symm;have zlt:z<g5.objs.size:=bp z5;show wpAny _ _ (Builtin.SmallTypes.ownedTupleHandOut (.ref z) (.ref g5.objs.size) >>= _) _ _ _;refine aa ?_;unfold Builtin.SmallTypes.ownedTupleHandOut;have z6:IsZip (g5.push {cls:=.type "tuple",data:=.seq #[x,y]}) z TI TO .ellipsis:=bJ _ z5;refine aa (nr z6 (by simp) λg7 z7 e7=>?_);replace z7:IsZip g7 z TI TO (rawInt g5.objs.size):=z7;refine nr z7 (by simp) λg8 z8 e8=>?_;replace z8:IsZip g8 z TI TO (rawInt g5.objs.size):=z8;have up:∀c o,c≠z->g5.get? c=some o->g8.get? c=some o:=λc o c1 e=>e8.extBut _ _ c1 (e7.extBut _ _ c1 (bJ _ e));have t8:IsPair g8 g5.objs.size x y:=e8.extBut _ _ (m3 zlt) (e7.extBut _ _ (m3 zlt) (cn _ rfl));have s8:g8.objs.size=g5.objs.size+1:=by rw[e8.1,e7.1,dU]
 rw[sz5]at z8 t8 s8;refine ah ⟨_,rfl,?_⟩;show Q (.ref g5.objs.size) _;rw[sz5];have b8:g8.IsTupleIter i2 l2 (k2+1):=by
  obtain⟨o,ho,r⟩:=b5;exact⟨o,up _ o D.i2z ho,r⟩
 exact hQ g8 z8 (up _ _ D.TOz o5) (a5.at λo e=>up _ o D.i1z e) b8 t8 s8 λc o c1 c2 c3 c4 e=>up c o c1 (k5 c o c1 c2 c3 c4 e)
theorem F0{TI TO:Addr}{xs:Array Value}{a b:Value}{Q:Fin->Shared->Prop}(hh:A.handled=none)(D:ZipApart z TI TO i1 i2 l1 l2)
  (hz:IsZip s.heap z TI TO .none) (hTI:IsPair s.heap TI (.ref i1) (.ref i2)) (hTO:IsPair s.heap TO a b)
  (h1:s.heap.IsListIter i1 l1 k1) (h2:s.heap.IsTupleIter i2 l2 k2) (hl1:s.heap.IsList l1 xs) (hl2:s.heap.IsTuple l2 ys) (hend:xs[k1]?=none∨ys[k2]?=none)
  (hE:∀h' e,(∀c o,c≠z->c≠TO->c≠i1->c≠i2->s.heap.get? c=some o->h'.get? c=some o)->(∃o,h'.get? e=some o/\o.cls= .type "StopIteration")->E (.ref e) {s with heap:=h'}):
  wpAny (model prog w) A (Builtin.«zip.__next__» ⟨[.ref z],[]⟩) Q E s:=by
 show wpAny _ _ (field (.ref z) 2 >>= _) _ _ _;refine aa (gn hz rfl (x:=.bool false) rfl ?_);show wpAny _ _ (field (.ref z) 3 >>= _) _ _ _;refine aa (gn hz rfl (x:=.ref TI) rfl (aa (iz hTI rfl ?_)));show wpAny _ _ (Builtin.SmallTypes.ownedTupleIsFree (.ref z) >>= _) _ _ _;refine aa ?_;unfold Builtin.SmallTypes.ownedTupleIsFree;refine aa (gn hz rfl (x:=.none) rfl (ah ?_));simp only[fU];refine aa (eC (aa (gn hz rfl (x:=.ref TO) rfl (aa (nr hz (by simp) λg1 z1 e1=>?_)))));replace z1:IsZip g1 z TI TO .ellipsis:=z1;refine aa ?_;simp only[List.zipIdx_cons,List.zipIdx_nil,kZ,kY];refine aa (aa (ub ?_));show wpAny _ _ (Builtin.SmallTypes.nextOf (.ref i1) >>= _) _ _ _;cases hx:xs[k1]? with
 |none=>
  refine aa (wpAny_nextOf_list_end hh (h1.extBut e1.extBut D.i1z) (hl1.extBut e1.extBut D.l1z) hx λg2 e e2 he=>?_);obtain⟨oe,hoe,hce⟩:=he;have z2:IsZip g2 z TI TO .ellipsis:=e2 _ _ D.i1z.symm z1;have hez:e≠z:=λq=>by subst q;rw[z2]at hoe;cases hoe;simp at hce
  refine nr z2 (by simp) λg3 _ e3=>hE g3 e (λc o c1 _ c3 _ q=>e3.extBut _ _ c1 (e2 _ _ c3 (e1.extBut _ _ c1 q))) ⟨oe,e3.extBut _ _ hez hoe,hce⟩
 |some x=>
  have hy:ys[k2]?=none:=by
   rcases hend with h|h
   ·rw[hx]at h;cases h
   ·exact h
  refine aa (wpAny_nextOf_list_item (h1.extBut e1.extBut D.i1z) (hl1.extBut e1.extBut D.l1z) hx λg2 a2 e2=>ah ?_);have o2:IsPair g2 TO a b:=e2.extBut _ _ D.TOi1 (e1.extBut _ _ D.TOz hTO);refine aa (iz o2 rfl (aa (zk o2 λg3 o3 e3=>?_)));refine aa (gm (ah (aa (aa (ub ?_)))));show wpAny _ _ (Builtin.SmallTypes.nextOf (.ref i2) >>= _) _ _ _;refine aa (Ec hh (((h2.extBut e1.extBut D.i2z).extBut e2.extBut D.i12.symm).extBut e3.extBut D.TOi2.symm) (((hl2.extBut e1.extBut D.l2z).extBut e2.extBut D.l2i1).extBut e3.extBut D.l2TO) hy λg4 e e4 he=>?_);obtain⟨oe,hoe,hce⟩:=he;have z4:IsZip g4 z TI TO .ellipsis:=e4 _ _ D.i2z.symm (e3.extBut _ _ D.TOz.symm (e2.extBut _ _ D.i1z.symm z1));have hez:e≠z:=λq=>by subst q;rw[z4]at hoe;cases hoe;simp at hce
  refine nr z4 (by simp) λg5 _ e5=>hE g5 e (λc o c1 c2 c3 c4 q=>e5.extBut _ _ c1 (e4 _ _ c4 (e3.extBut _ _ c2 (e2.extBut _ _ c3 (e1.extBut _ _ c1 q))))) ⟨oe,e5.extBut _ _ hez hoe,hce⟩
theorem Ex{TI TO:Addr}{xs:Array Value}{x y a b:Value}{Q:Option Value->Shared->Prop}(D:ZipApart z TI TO i1 i2 l1 l2)
  (hz:IsZip s.heap z TI TO .none) (hTI:IsPair s.heap TI (.ref i1) (.ref i2)) (hTO:IsPair s.heap TO a b)
  (h1:s.heap.IsListIter i1 l1 k1) (h2:s.heap.IsTupleIter i2 l2 k2) (hl1:s.heap.IsList l1 xs) (hl2:s.heap.IsTuple l2 ys) (hx:xs[k1]?=some x) (hy:ys[k2]?=some y)
  (hQ:∀h',IsZip h' z TI TO (rawInt s.heap.objs.size)->IsPair h' TO x y->h'.IsListIter i1 l1 (k1+1)->h'.IsTupleIter i2 l2 (k2+1)->IsPair h' s.heap.objs.size x y->h'.objs.size=s.heap.objs.size+1->
   (∀c o,c≠z->c≠TO->c≠i1->c≠i2->s.heap.get? c=some o->h'.get? c=some o)->Q (some (.ref s.heap.objs.size)) {s with heap:=h'}):wpAny (model prog w) A (pyNext (.ref z)) Q E s:=by
 have hT:s.TypeIs (.ref z) "zip":=⟨_,hz,rfl⟩;unfold pyNext;refine aa (jO (gZ (name:=Str.ofString "__next__") hT uc (fV uc hT PySem.F.entry_zip_next ?_ (GV _))));exact zM D hz hTI hTO h1 h2 hl1 hl2 hx hy λh' a1 a2 a3 a4 a5 a6 a7=>ah (hQ h' a1 a2 a3 a4 a5 a6 a7)
theorem Dj{TI TO:Addr}{xs:Array Value}{a b:Value}{Q:Option Value->Shared->Prop}(hh:A.handled=none)(D:ZipApart z TI TO i1 i2 l1 l2)
  (hz:IsZip s.heap z TI TO .none) (hTI:IsPair s.heap TI (.ref i1) (.ref i2)) (hTO:IsPair s.heap TO a b)
  (h1:s.heap.IsListIter i1 l1 k1) (h2:s.heap.IsTupleIter i2 l2 k2) (hl1:s.heap.IsList l1 xs) (hl2:s.heap.IsTuple l2 ys) (hend:xs[k1]?=none∨ys[k2]?=none)
  (hQ:∀h',(∀c o,c≠z->c≠TO->c≠i1->c≠i2->s.heap.get? c=some o->h'.get? c=some o)->Q none {s with heap:=h'}):wpAny (model prog w) A (pyNext (.ref z)) Q E s:=by
 have hT:s.TypeIs (.ref z) "zip":=⟨_,hz,rfl⟩;unfold pyNext;refine aa (jO (gZ (name:=Str.ofString "__next__") hT uc (fV uc hT PySem.F.entry_zip_next ?_ (GV _))));refine F0 hh D hz hTI hTO h1 h2 hl1 hl2 hend λh' e hk ⟨o,ho,hc⟩=>?_;exact aa (p6 (T:="StopIteration") (b:=true) ⟨o,ho,hc⟩ isSubtype_stop (ah (hQ _ hk)))
abbrev lM(h:Heap)(l1:Addr):Heap:=h.push {cls:=.type "list_iterator",data:=.fields #[.ref l1,.int 0 0]}
abbrev mv(h:Heap)(l1 l2:Addr):Heap:=(lM h l1).push {cls:=.type "tuple_iterator",data:=.fields #[.ref l2,.int 0 0]}
abbrev lQ(h:Heap)(l1 l2:Addr):Heap:=(mv h l1 l2).push {cls:=.type "tuple",data:=.seq #[.ref h.objs.size,.ref (lM h l1).objs.size]}
abbrev lL(h:Heap)(l1 l2:Addr):Heap:=(lQ h l1 l2).push {cls:=.type "tuple",data:=.seq #[.none,.none]}
abbrev gO(h:Heap)(l1 l2:Addr):Heap:=(lL h l1 l2).push {cls:=.type "zip",data:=.fields #[.none,.bool false,.bool false,.ref (mv h l1 l2).objs.size,.ref (lQ h l1 l2).objs.size]}
end
theorem AU(l1 l2:Addr)(xs ys:Array Value):
  Meets (Builtin.«zip.__new__» ⟨[.type "zip",.ref l1,.ref l2],[]⟩) (λ_ R s=>s.heap.IsList l1 xs/\s.heap.IsTuple l2 ys/\R (.ok (.ret (.ref (lL s.heap l1 l2).objs.size))) {s with heap:=gO s.heap l1 l2}):=
 .of_wp λprog w A R s h=>by
  obtain⟨hp,g,d,tk,os⟩:=s;obtain⟨hl1,hl2,h⟩:=h;have hsub:=sub_zip;have hL1:Heap.IsList (Shared.heap ⟨hp,g,d,tk,os⟩) l1 xs:=hl1;have hL2:Heap.IsTuple (Shared.heap ⟨hp.push {cls:=.type "list_iterator",data:=.fields #[.ref l1,.int 0 0]},g,d,tk,os⟩) l2 ys:=Heap.IsTuple.push hl2 _
  wp_walk using tL hL1,wpAny_pyIter_tuple hL2
  exact⟨_,rfl,h⟩
section
variable{prog:Program}{w:World}{A:Around}{E:Value->Shared->Prop}{s:Shared}
theorem DE{xs:Array Value}(hl1:s.heap.IsList l1 xs)(hl2:s.heap.IsTuple l2 ys)
  (h:∀h',IsZip h' (s.heap.objs.size+4) (s.heap.objs.size+2) (s.heap.objs.size+3) .none->IsPair h' (s.heap.objs.size+2) (.ref s.heap.objs.size) (.ref (s.heap.objs.size+1))->
   IsPair h' (s.heap.objs.size+3) .none .none->h'.IsListIter s.heap.objs.size l1 0->h'.IsTupleIter (s.heap.objs.size+1) l2 0->
   (∀c o,s.heap.get? c=some o->h'.get? c=some o)->Q (.ref (s.heap.objs.size+4)) {s with heap:=h'}):
  wpAny (model prog w) A (call (.type "zip") [.ref l1,.ref l2]) Q E s:=by
 refine callType_new PySem.F.called_zip (by decide) (PySem.F.typeCall_zip_2 _ _) (PySem.F.newCall_zip_2 _ _) (λobj=>PySem.F.args_object_init_3 obj _ _) PySem.F.entry_zip_new (AU l1 l2 xs ys) ⟨hl1,hl2,?_⟩;have z1:(lM s.heap l1).objs.size=s.heap.objs.size+1:=dU ..
 have z2:(mv s.heap l1 l2).objs.size=s.heap.objs.size+2:=by rw[dU,z1]
 have z3:(lQ s.heap l1 l2).objs.size=s.heap.objs.size+3:=by rw[dU,z2]
 have z4:(lL s.heap l1 l2).objs.size=s.heap.objs.size+4:=by rw[dU,z3]
 have p5:∀c o,(lL s.heap l1 l2).get? c=some o->(gO s.heap l1 l2).get? c=some o:=λc o e=>bJ _ e;have p4:∀c o,(lQ s.heap l1 l2).get? c=some o->(gO s.heap l1 l2).get? c=some o:=λc o e=>p5 c o (bJ _ e);have p3:∀c o,(mv s.heap l1 l2).get? c=some o->(gO s.heap l1 l2).get? c=some o:=λc o e=>p4 c o (bJ _ e);have p2:∀c o,(lM s.heap l1).get? c=some o->(gO s.heap l1 l2).get? c=some o:=λc o e=>p3 c o (bJ _ e);have g5:(gO s.heap l1 l2).get? (lL s.heap l1 l2).objs.size=some _:=cn _ rfl;have g4:(gO s.heap l1 l2).get? (lQ s.heap l1 l2).objs.size=some _:=p5 _ _ (cn _ rfl);have g3:(gO s.heap l1 l2).get? (mv s.heap l1 l2).objs.size=some _:=p4 _ _ (cn _ rfl);have g2:(gO s.heap l1 l2).get? (lM s.heap l1).objs.size=some _:=p3 _ _ (cn _ rfl);have g1:(gO s.heap l1 l2).get? s.heap.objs.size=some _:=p2 _ _ (cn _ rfl);show _/\_;rw[z2,z3,z4]at g5;rw[z1,z2]at g3;rw[z3]at g4;rw[z1]at g2;rw[z4];exact⟨⟨_,g5,rfl⟩,h _ g5 g3 g4 ⟨_,g1,rfl,rfl⟩ ⟨_,g2,rfl,rfl⟩ λc o e=>p2 c o (bJ _ e)⟩
end
def xV(K:PySem.W.Frag)(a b:Addr):It:=
 ⟨λi H=>∃(xs ys:List V) (x y:V),SqL K H a xs/\bo K H b ys/\xs[i]?=some x/\ys[i]?=some y,
  λi H v H'=>∃T x y,v= .ref T/\H T=none/\H'=upd H T (.tup [x,y])/\(∀xs,SqL K H a xs->xs[i]?=some x)/\∀ys,bo K H b ys->ys[i]?=some y,
  λi H=>∃xs ys:List V,SqL K H a xs/\bo K H b ys/\(xs.length<=i∨ys.length<=i)⟩
theorem AS{K:PySem.W.Frag}{TI TO:Addr}(D:ZipApart z TI TO i1 i2 a b):
  gW P w K (.Tuple elts kk tpos) (xV K a b) [z,TI,TO,i1,i2] z (λi h=>IsZip h z TI TO .none/\IsPair h TI (.ref i1) (.ref i2)/\(∃x y,IsPair h TO x y)/\h.IsListIter i1 a i/\h.IsTupleIter i2 b i)where
 mem:=by simp
 obj:=λi h st c hc=>by
  obtain⟨hz,hTI,⟨x,y,hTO⟩,⟨o1,e1,_,d1⟩,⟨o2,e2,_,d2⟩⟩:=st;have e':c=z∨c=TI∨c=TO∨c=i1∨c=i2:=by simpa using hc
  rcases e' with q|q|q|q|q
  ·rw[q];exact⟨_,hz,λv q=>nomatch q⟩
  ·rw[q];exact⟨_,hTI,λv q=>nomatch q⟩
  ·rw[q];exact⟨_,hTO,λv q=>nomatch q⟩
  ·rw[q];exact⟨o1,e1,λv q=>by rw[d1]at q;cases q⟩
  ·rw[q];exact⟨o2,e2,λv q=>by rw[d2]at q;cases q⟩
 keep:=λi h h' st k=>by
  obtain⟨hz,hTI,⟨x,y,hTO⟩,h1,h2⟩:=st;exact⟨k z (by simp) _ hz,k TI (by simp) _ hTI,⟨x,y,k TO (by simp) _ hTO⟩,h1.at λo q=>k i1 (by simp) o q,(let⟨o,e,r⟩:=h2;⟨o,k i2 (by simp) o e,r⟩)⟩
 item:=by
  intro X hP hw hK hc i pins s σ H E I hf st hg;subst hP hw hK;obtain⟨hz,hTI,⟨x0,y0,hTO⟩,h1,h2⟩:=st;obtain⟨xs,ys,x,y,hqx,hqy,hx,hy⟩:=hg;obtain⟨its,rv,p,_⟩:=I.list hqx;obtain⟨its2,rv2,p2,_⟩:=I.tuple hqy;obtain⟨u,hu,ru⟩:=rv.get hx;obtain⟨u2,hu2,ru2⟩:=rv2.get hy;have hzl:z<s.heap.objs.size:=bp hz;refine Ex D hz hTI hTO h1 h2 p.isList p2 (x:=u) (y:=u2) (by simpa using hu) (by simpa using hu2) λh' z' TO' h1' h2' hT hsz hk=>?_;refine⟨_,rfl,wpAny_letOwnedTupleGo_zip (s:={s with heap:=h'}) z' λh'' z'' sb=>?_⟩;have hT2:h''.get? s.heap.objs.size=some {cls:=.type "tuple",data:=.seq #[u,u2]}:=(sb.2 _ (m3 hzl)).trans hT;have new:cQ X.prog X.w (upd H s.heap.objs.size (.tup [x,y])) h'' s.heap.objs.size (.tup [x,y]):=
   ⟨by show 2<=sizeLine;decide,[u,u2],.cons ru (.cons ru2 .nil),⟨_,hT2,rfl,_,rfl⟩⟩
  have I1:ae X pins σ (upd H s.heap.objs.size (.tup [x,y])) {s with heap:=h''}:=
   I.turnedNew (t':=s.toks) (ch:=[z,TI,TO,i1,i2]) (λc o hb q=>(sb.2 c (λq'=>hb (by simp[q']))).trans (hk c o (λq'=>hb (by simp[q'])) (λq'=>hb (by simp[q'])) (λq'=>hb (by simp[q'])) (λq'=>hb (by simp[q'])) q)) hf (aJ _) new
  refine⟨.ref s.heap.objs.size,_,I1,rfl,⟨_,x,y,rfl,I.hok.fresh (aJ _),rfl,λl hl=>by rw[I.list_inj hl hqx];exact hx,λl hl=>by rw[I.tuple_inj hl hqy];exact hy⟩,⟨z'',?_,⟨u,u2,?_⟩,?_,?_⟩,λc hcm=>?_⟩
  ·exact(sb.2 _ D.TIz).trans (hk _ _ D.TIz D.TITO D.TIi1 D.TIi2 hTI)
  ·exact(sb.2 _ D.TOz).trans TO'
  ·exact h1'.at λo q=>(sb.2 _ D.i1z).trans q
  ·obtain⟨o,e,r⟩:=h2';exact⟨o,(sb.2 _ D.i2z).trans e,r⟩
  ·have hlt:c<s.heap.objs.size:=by
    have e':c=z∨c=TI∨c=TO∨c=i1∨c=i2:=by simpa using hcm
    rcases e' with q|q|q|q|q
    ·rw[q];exact hzl
    ·rw[q];exact bp hTI
    ·rw[q];exact bp hTO
    ·rw[q];obtain⟨_,e1,_⟩:=h1;exact bp e1
    ·rw[q];obtain⟨_,e2,_⟩:=h2;exact bp e2
   rw[ag (cy hlt)];exact(hf c hcm).1
 done:=by
  intro X hP hw hK hc i pins s σ H E I hf st hg;subst hP hw hK;obtain⟨hz,hTI,⟨x0,y0,hTO⟩,h1,h2⟩:=st;obtain⟨xs,ys,hqx,hqy,hend⟩:=hg;obtain⟨its,rv,p,_⟩:=I.list hqx;obtain⟨its2,rv2,p2,_⟩:=I.tuple hqy;have l1:=rv.length;have l2:=rv2.length;have he:its.toArray[i]?=none∨its2.toArray[i]?=none:=by
   rcases hend with q|q
   ·exact .inl (by simp;omega)
   ·exact .inr (by simp;omega)
  exact Dj (I.ok.hd hc) D hz hTI hTO h1 h2 p.isList p2 he λh' hk=>⟨rfl,I.turnedL (t':=s.toks) (ch:=[z,TI,TO,i1,i2]) (λc o hb q=>
   hk c o (λq'=>hb (by simp[q'])) (λq'=>hb (by simp[q'])) (λq'=>hb (by simp[q'])) (λq'=>hb (by simp[q'])) q) hf⟩
 self:=λA i s Q E st h=>tX st.1 h
def CM(K:PySem.W.Frag)(ta:TA):TI:=λσ H R=>ta σ H λvs H1=>∃a b xs ys,vs=[.ref a,.ref b]/\SqL K H1 a xs/\bo K H1 b ys/\R (xV K a b) H1
theorem Fn{e2:Expr}(hg:Gl X "zip")(hm:X.mg "zip"=none)(ha:PA X [e,e2] ta)
  (hs:starEach [e,e2] X.env=(false,eval e X.env)::starEach [e2] X.env:=by rfl) (cc:(backTo pos (starEach [e2] X.env)).any (·.1)=false:=by rfl):
  PI X (.Tuple elts kk tpos) (.Call (.Name "zip" p) [e,e2] [] pos) (CM X.K ta):=by
 intro pins s σ H R I h;refine Call_ (iO I hg hm uM (m4 (aI (ha pos pins s σ H _ I h) λus s1 ⟨vs,H1,I1,r1,q1⟩=>?_) hs cc));obtain⟨a,b,xs,ys,ex,hqx,hqy,q⟩:=q1;subst ex;cases r1 with
 |cons r rr=>
  cases rr with
  |cons r' rr=>
   cases rr;cases r;cases r';obtain⟨its,rv,p1,_⟩:=I1.list hqx;obtain⟨its2,rv2,p2,_⟩:=I1.tuple hqy;have la:a<s1.heap.objs.size:=p1.lt;have lb:b<s1.heap.objs.size:=by obtain⟨_,e,_⟩:=p2;exact bp e
   refine DE p1.isList p2 λh' hz hTI hTO h1 h2 hk=>tX hz ?_;have I2:ae X pins σ H1 {s1 with heap:=h'}:=I1.kept (t':=s1.toks) hk;refine⟨s1.heap.objs.size+4,[s1.heap.objs.size+4,s1.heap.objs.size+2,s1.heap.objs.size+3,s1.heap.objs.size,s1.heap.objs.size+1],_,_,H1,rfl,I2,AS (PySem.W.ktu_apart s1.heap.objs.size a b la lb),⟨hz,hTI,⟨_,_,hTO⟩,h1,h2⟩,λc hcm=>?_,q⟩;have e':c=s1.heap.objs.size+4∨c=s1.heap.objs.size+2∨c=s1.heap.objs.size+3∨c=s1.heap.objs.size∨c=s1.heap.objs.size+1:=by simpa using hcm
   have hle:s1.heap.objs.size<=c:=by
    rcases e' with z|z|z|z|z
    ·rw[z];exact jh _ _
    ·rw[z];exact jh _ _
    ·rw[z];exact jh _ _
    ·rw[z];exact aJ _
    ·rw[z];exact jh _ _
   exact I1.fpOk hle (I1.hok.fresh hle)
open PySem.W (WData Codec OpenSpec Well WellAll ReadsW ReadsAllW CodeHd tabObj)
mutual
theorem Dw.mono {K:PySem.W.Frag} {H H':Hp} (k:∀b o,H b=some o->H' b=some o):∀{v:V} {d:WData},Dw K H v d->Dw K H' v d
 |_,_,.non=>.non
 |_,_,.bl b=>.bl b
 |_,_,.int i=>.int i
 |_,_,.str x=>.str x
 |_,_,.byt b=>.byt b
 |_,_,.lst h t=>.lst (by
   rcases h with(h|⟨o,h⟩)|h
   ·exact .inl (.inl (k _ _ h))
   ·exact .inl (.inr ⟨o,k _ _ h⟩)
   ·exact .inr h) (d4.mono k t)
 |_,_,.tup h t=>.tup (by
   rcases h with(h|⟨o,h⟩)|h
   ·exact .inl (.inl (k _ _ h))
   ·exact .inl (.inr ⟨o,k _ _ h⟩)
   ·exact .inr h) (d4.mono k t)
theorem d4.mono {K:PySem.W.Frag} {H H':Hp} (k:∀b o,H b=some o->H' b=some o):∀{vs:List V} {ds:List WData},d4 K H vs ds->d4 K H' vs ds
 |_,_,.nil=>.nil
 |_,_,.cons h t=>.cons (Dw.mono k h) (d4.mono k t)
end
theorem DX{K:PySem.W.Frag}{mb:Str->Option Value}{k:Nat}{fa cT Pt:Addr}{s₁:Shared}{vals:List Value}{R:PySem.W.WRecords}{cl:Str->Option Addr}{d0:WData}
  (KX:K.In s₁.heap) (hnt:PySem.W.noTabs K=true) (hns:s₁.heap.Ns mainGlobals mg) (hb:s₁.heap.Ns builtinsNs mb) (hbb:∀x:Str,x≠"__name__"->mb x=bootBuiltins x) (hlim:s₁.heap.NoLimit) (hg:s₁.gens=#[])
  (hTab:CodeHd s₁.heap cT Pt/\s₁.heap.get? Pt=some (tabObj #[])) (hbm:∃bm ob,mg "__builtins__"=some (.ref bm)/\bm≠builtinsNs/\s₁.heap.get? bm=some ob/\ob.cls= .type "module"/\ob.dict=some builtinsNs/\ob.data= .plain)
  (hwl:WellAll w.params s₁.heap vals ds) (cc:f6 ds=true) (hwt:∀d∈ds,d.weight<=1048576) (hr:cq k callerA)
  (F:∀base:Heap,K.In base->base.Ns mainGlobals mg->CodeHd base cT Pt->base.get? Pt=none->base.BuiltinsAt mg Pt->ak P w K mg base au k fa fd ps sp) (hbind:∀(s:Shared) (us:List Value),us.length=ps.length->BindsTo s fd ⟨us,[]⟩ (ps.zip us)) (hlen:ds.length=ps.length)
  (hsp:∀(H:Hp) (xs:List V),H Pt=some (.tbl #[])->d4 K H xs ds->sp xs H (λv H'=>Dw K H' v d0) λ_ _ _=>False):
  codeAny (model P w) callerA (.call (.ref fa) ⟨vals,[]⟩) (λr s'=>∃u as,r= .ok (.ret u)/\ReadsW R cl s'.heap u d0 as/\OldK s₁.heap s'.heap/\s'.os=s₁.os/\AllBare s'.gens) s₁:=by
 obtain⟨A,ho,ar⟩:=oa ds vals hwl cc hwt;obtain⟨hcd,hPt⟩:=hTab;have hS0:=nQ KX ar ds vals hwl cc ho;have hV:=i5 ho;have hlt:∀{b:Addr} {u:HO},dg K s₁.heap A b=some u->∃o,s₁.heap.get? b=some o/\(o.cls= .type "list"∨o.cls= .type "tuple")/\K.lookup b=none/\(∃vs n,o.data= .seq vs n)/\∃u',u= .frz o u':=λ{b u} q=>by
  obtain⟨hk,vs,_,_,⟨e,e2⟩|⟨e,e2⟩⟩:=qR ar q
  ·exact⟨_,e,.inl rfl,hk,⟨_,_,rfl⟩,_,e2⟩
  ·exact⟨_,e,.inr rfl,hk,⟨_,_,rfl⟩,_,e2⟩
 have nPt:dg K s₁.heap A Pt=none:=by
  cases q:dg K s₁.heap A Pt with
  |none=>rfl
  |some u=>
   obtain⟨o,e,hc,_⟩:=hlt q;rw[hPt]at e;cases e;rcases hc with hc|hc<;>cases hc
 have KPt:K.lookup Pt=none:=by
  cases q:K.lookup Pt with
  |none=>rfl
  |some o=>
   have e:=KX Pt o q;rw[hPt]at e;cases e;have h2:=jc.mp hnt _ (PySem.W.mem_of_lookupK q);exact absurd (show false=true from h2) c0
 have hok0:cg P w (dg K s₁.heap A) s₁.heap:=Gr ar;have kp:∀b o,dg K s₁.heap A b=some o->upd (dg K s₁.heap A) Pt (.tbl #[]) b=some o:=λb o q=>by rw[ag (λz=>by rw[z,nPt]at q;cases q)];exact q
 have hok:cg P w (upd (dg K s₁.heap A) Pt (.tbl #[])) s₁.heap:=λb u q=>by
  by_cases z:b=Pt
  ·subst z;rw[ao]at q;cases q;exact hPt
  ·rw[ag z]at q;obtain⟨hk,vs,h1,h2,⟨e,rfl⟩|⟨e,rfl⟩⟩:=qR ar q
   ·exact⟨e,by rw[List.length_map];exact h1,vs,_,i5 h2,e⟩
   ·exact⟨e,by rw[List.length_map];exact h1,vs,i5 h2,_,e,rfl,_,rfl⟩
 have hS:=d4.mono kp hS0;have hPH:upd (dg K s₁.heap A) Pt (.tbl #[]) Pt=some (.tbl #[]):=ao;have hof:∀{b:Addr} {o:Obj},s₁.heap.get? b=some o->b≠Pt->(o.cls≠.type "list"/\o.cls≠.type "tuple"∨∀vs n,o.data≠.seq vs n)->upd (dg K s₁.heap A) Pt (.tbl #[]) b=none:=λ{b o} e n hc=>by
  rw[ag n];cases q:dg K s₁.heap A b with
  |none=>rfl
  |some u=>
   obtain⟨o',e',hc',_,⟨vs,m,hd⟩,_⟩:=hlt q;rw[e]at e';cases e';rcases hc with hc|hc
   ·rcases hc' with z|z
    ·exact absurd z hc.1
    ·exact absurd z hc.2
   ·exact absurd hd (hc vs m)
 have hfz:∀b u,upd (dg K s₁.heap A) Pt (.tbl #[]) b=some u->b≠Pt->∃o u',u= .frz o u'/\K.lookup b=none:=λb u q n=>by
  rw[ag n]at q;obtain⟨o,_,_,hk,_,u',e⟩:=hlt q;exact⟨o,u',e,hk⟩
 generalize upd (dg K s₁.heap A) Pt (.tbl #[])=H at hok hS hPH hof hfz;have base_of:∀{b:Addr} {o:Obj},s₁.heap.get? b=some o->H b=none->(fF s₁.heap H).get? b=some o:=λe n=>A3 e n;have nsK:∀{b:Addr} {m:Str->Option Value},s₁.heap.Ns b m->(fF s₁.heap H).Ns b m:=λ{b m} ⟨o,es,ep,e,d,r⟩=>by
  refine⟨o,es,ep,base_of e (hof e (λz=>?_) (.inr λvs n y=>?_)),d,r⟩
  ·rw[z,hPt]at e;cases e;have d':Data.fields #[]=Data.dict es ep:=d;cases d'
  ·rw[d]at y;cases y
 have hKb:K.In (fF s₁.heap H):=λb o e=>by
  refine base_of (KX b o e) ?_;cases q:H b with
  |none=>rfl
  |some u=>
   by_cases z:b=Pt
   ·rw[z,KPt]at e;cases e
   ·obtain⟨_,_,_,hk⟩:=hfz b u q z;rw[hk]at e;cases e
 have hM:pq K mg (fF s₁.heap H):=⟨hKb,nsK hns,⟨mb,nsK hb,hbb⟩,let⟨mc,h1,h2⟩:=hlim;⟨mc,nsK h1,h2⟩⟩;have hC:CodeHd (fF s₁.heap H) cT Pt:=by
  obtain⟨o,vs,file,tf,flags,tg,inF,text,tt,e1,r1,r2,r3,r4,r5,r6,r7,r8,hne⟩:=hcd;exact⟨o,vs,file,tf,flags,tg,inF,text,tt,base_of e1 (hof e1 hne (.inl ⟨by rw[r1];decide,by rw[r1];decide⟩)),r1,r2,r3,r4,r5,r6,r7,r8,hne⟩
 have hPb:(fF s₁.heap H).get? Pt=none:=by
  cases q:(fF s₁.heap H).get? Pt with
  |none=>rfl
  |some o=>
   have:=(vP q).2;rw[hPH]at this;cases this
 have hB:(fF s₁.heap H).BuiltinsAt mg Pt:=by
  obtain⟨bm,ob,h1,h2,h3,h4,h5,h6⟩:=hbm;have n1:bm≠Pt:=λz=>by
   rw[z,hPt]at h3;cases h3;cases h4
  have n2:bm≠mainGlobals:=λz=>by
   obtain⟨o,es,ep,e,dd,_⟩:=hns;rw[z,e]at h3;cases h3;rw[dd]at h6;cases h6
  exact⟨bm,ob,h1,h2,n2,n1,base_of h3 (hof h3 n1 (.inl ⟨by rw[h4];decide,by rw[h4];decide⟩)),h4,h5,h6⟩
 have e0:gf P w K mg (fF s₁.heap H) callerA [] s₁ H:=⟨rfl,hM,λb o e=>vP e,pS (Aq _ _),trivial,λb hb=>absurd (show b∈([]:List Addr)from hb) (by simp),hok,.of_eq hg⟩;have hl:vals.length=ps.length:=by rw[nD hwl];exact hlen
 refine qb ((F _ hKb (nsK hns) hC hPb hB).run callerA [] s₁ H ⟨vals,[]⟩ vals (vals.map eh) _ _ hr e0 (hbind s₁ vals hl) hV (hsp H _ hPH hS)) λr s' x=>?_;cases r with
 |error e=>exact False.elim x
 |ok fl=>
  cases fl with
  |next=>exact False.elim x
  |brk=>exact False.elim x
  |cont=>exact False.elim x
  |ret u=>
   obtain⟨v,H',os,bare,un,hok',r',q⟩:=x;have kept:∀b o,b≠Pt->s₁.heap.get? b=some o->s'.heap.get? b=some o:=λb o n e=>by
    cases q2:H b with
    |none=>exact un.keep b o e q2 (by intro z;exact absurd (show b∈([]:List Addr)from z) (by simp)) (by simp)
    |some u2=>
     obtain⟨ob,u3,rfl,_⟩:=hfz b u2 q2 n;have z2:=un.frzs b ob _ q2;obtain⟨e1,_⟩:=hok b _ q2;obtain⟨e2,_⟩:=hok' b _ z2;rw[e]at e1;cases e1;exact e2
   obtain⟨more,hmore⟩:=un.tbls Pt #[] hPH;have ePt:s'.heap.get? Pt=some {cls:=.none,data:=.fields (#[]++more)}:=hok' Pt _ hmore;have KX':K.In s'.heap:=λb o e=>kept b o (λz=>by rw[z,KPt]at e;cases e) (KX b o e);obtain⟨as,hrd⟩:=Dw.reads (R:=R) (cl:=cl) hok' KX' d0 v u q r';have hold:OldK s₁.heap s'.heap:=by
    refine⟨λb o e=>?_,λb o e=>?_⟩
    ·by_cases z:b=Pt
     ·subst z;have e':=e;rw[hPt]at e';cases e';exact .inr (.inl ⟨(hcd.tab hPt).isCodeTable,rfl,#[],more,rfl,ePt⟩)
     ·exact .inl (kept b o z e)
    ·by_cases z:b=Pt
     ·subst z;exact⟨_,ePt⟩
     ·exact⟨o,kept b o z e⟩
   exact⟨u,as,rfl,hrd,hold,os,bare⟩
theorem walk_specT{r:OpenSpec}{k:Nat}{q:Program}{loose:List Str}{XP:(Str->Option Value)->Heap->Prop}{YP:World->Heap->Prop}{d:DefRec}{K:Params->PySem.W.Frag}{sp:PySem.W.Frag->Addr->Sp}(cT Pt:Addr)
  (hwell:r.wellSaid=true) (hdf:d.params.defaults=[]) (hlen:r.args.length=ps.length) (hr:cq k callerA)
  (hY:∀(w:World) (h:Heap),YP w h->(K w.params).In h)
  (hnt:∀w:World,PySem.W.noTabs (K w.params)=true)
  (hTab:∀(w:World) (mg mb:Str->Option Value) (s₀:Shared) (h:Heap),PySem.W.Ground q loose [] XP w s₀ mg mb h->(K w.params).In h->CodeHd h cT Pt/\h.get? Pt=some (tabObj #[]))
  (F:∀(w:World) (mg:Str->Option Value) (fa:Addr) (h:Heap),YP w h->(K w.params).In h->h.Ns mainGlobals mg->mg d.name=some (.ref fa)->
   ∃fd:FuncData,(∀(s:Shared) (us:List Value),us.length=ps.length->BindsTo s fd ⟨us,[]⟩ (ps.zip us))/\
    ∀base:Heap,(K w.params).In base->base.Ns mainGlobals mg->CodeHd base cT Pt->base.get? Pt=none->base.BuiltinsAt mg Pt->ak r.prog w (K w.params) mg base au k fa fd ps (sp (K w.params) Pt))
  (hsp:∀(K:PySem.W.Frag) (H:Hp) (xs:List V) (a:Codec.denoteAll r.args),H Pt=some (.tbl #[])->Codec.withinAll r.args a=true->Codec.app r.args r.asked a=true->d4 K H xs (Codec.encAll r.args a)->
   sp K Pt xs H (λv H'=>Dw K H' v (r.ret.enc (Codec.app r.args r.f a))) λ_ _ _=>False):
  PySem.W.WalkOS q loose XP YP r d [] (λf vs=>PySem.call f vs):=by
 intro w s_0 s₁ mg mb G Y fa o pm cd doc dV kV ho hd hcd hD hmg hg args vals as hpre hlay hrd hwl hlo;obtain⟨a,e1,e2⟩:=PySem.W.os_pre_some hpre;obtain⟨e3,hwi⟩:=Codec.encAll_of_decAll r.args args a e1;subst e3;have KX:=hY w _ Y;obtain⟨fd,hb,hF⟩:=F w mg fa _ Y KX G.T.g hmg;refine PySem.W.enter_call (qb (DX (R:=[]) (cl:=classAt s_0.heap) (d0:=r.ret.enc (Codec.app r.args r.f a)) KX (hnt w) G.T.g G.T.b G.T.builtins G.T.nolimit hg (hTab w mg mb s_0 _ G KX) G.T.bmain hwl (vC _ _) (zF hlay) hr hF hb (by rw[uY];exact hlen)
  (λH xs hO hS=>hsp (K w.params) H xs a hO hwi e2 hS)) λr' s' hq=>?_)
 obtain⟨u,as',rfl,h1,h2,h3,h4⟩:=hq;exact⟨.inl ⟨u,_,as',rfl,λ_=>rfl,h1,(OpenSpec.post_iff hwell hwi _ _).mpr rfl,λz=>Bool.noConfusion (show false=true from z)⟩,h2,h3,h4⟩
end L2
namespace Wp
open PySem PySem.Spec PyProof.Rows L2 Su56 Wl
def bq(i:Nat):Stmt:=PySem.Challenge.pw_wallscaffold_s01_answers.main.body.getD i (.Pass ⟨0,0,0,0⟩)
abbrev sBelow:Stmt:=bq 7
abbrev sAbove:Stmt:=bq 8
abbrev sEnds:Stmt:=bq 9
abbrev eS:Stmt:=bq 10
abbrev Kp(H H':Hp):Prop:=∀b o,H b=some o->H' b=some o
def jW:Sp:=λvs H Q _=>∃q b l,vs=[.ref q]/\bX H q b l/\∀t,H t=none->Q (.ref t) (upd H t (.tup [.int b,.int (l-1)]))
def sk:Sp:=λvs H Q _=>∃q b l,vs=[.ref q]/\bX H q b l/\∀t,H t=none->Q (.ref t) (upd H t (.tup [.int b,.int (l+1)]))
section
variable{P:Program}{w:World}{K:PySem.W.Frag}{mg:Str->Option Value}{base:Heap}
theorem Ds:bj ["place"] ["place"] (aM sBelow):=⟨rfl,rfl,rfl,by decide +kernel,rfl,by decide +kernel,by decide +kernel⟩
theorem sh{f:Addr}{fd:FuncData}(F:a8 K "below" "below" sBelow f fd):ak P w K mg base au 1 f fd ["place"] jW:=by
 refine F.ok Ds (λvs H Q E h=>?_) (λcdv A outer s H vs Q E hr h=>?_)
 ·obtain⟨q,b,l,rfl,_⟩:=h;rfl
 ·obtain⟨q,b,l,rfl,hq,k⟩:=h;refine⟨_,aw (aF (c8 (ab (aL cR (pv 0) aq (λ_ _=>rfl)) (ab (cW gQ (aL cR (pv 0) aq (λ_ _=>rfl)) aq) af)))),?_⟩;refine⟨_,rfl,q,_,0,_,rfl,rfl,bo.of hq,aK (j:=0) rfl,?_⟩;refine⟨_,rfl,q,_,1,_,rfl,rfl,bo.of hq,aK (j:=1) rfl,?_⟩;refine⟨_,_,rfl,rfl,?_⟩;refine⟨(by show 2<=sizeLine;decide),λt ht=>?_⟩;exact k t ht
theorem DA:bj ["place"] ["place"] (aM sAbove):=⟨rfl,rfl,rfl,by decide +kernel,rfl,by decide +kernel,by decide +kernel⟩
theorem uT{f:Addr}{fd:FuncData}(F:a8 K "above" "above" sAbove f fd):ak P w K mg base au 1 f fd ["place"] sk:=by
 refine F.ok DA (λvs H Q E h=>?_) (λcdv A outer s H vs Q E hr h=>?_)
 ·obtain⟨q,b,l,rfl,_⟩:=h;rfl
 ·obtain⟨q,b,l,rfl,hq,k⟩:=h;refine⟨_,aw (aF (c8 (ab (aL cR (pv 0) aq (λ_ _=>rfl)) (ab (cW gc (aL cR (pv 0) aq (λ_ _=>rfl)) aq) af)))),?_⟩;refine⟨_,rfl,q,_,0,_,rfl,rfl,bo.of hq,aK (j:=0) rfl,?_⟩;refine⟨_,rfl,q,_,1,_,rfl,rfl,bo.of hq,aK (j:=1) rfl,?_⟩;refine⟨_,_,rfl,rfl,?_⟩;refine⟨(by show 2<=sizeLine;decide),λt ht=>?_⟩;exact k t ht
end
open PySem.W (CodeHd kla_obj kla_fn tabObj)
def lZ:Expr:=match eN eS with
 | [.Return (some (.Call _ _ [kw] _)) _]=>kw.value
 |_=>.Constant .none 0 ⟨0,0,0,0⟩
def vk:Arguments:=match lZ with|.Lambda a _ _ _=>a|_=>fh eS
def vt:Expr:=match lZ with|.Lambda _ b _ _=>b|_=>lZ
def r0:Scope:=match lZ with|.Lambda _ _ s _=>s|_=>aM eS
def bz:Pos:=match lZ with|.Lambda _ _ _ p=>p|_=>⟨0,0,0,0⟩
def bu:Str:="by_levels.<locals>.<lambda>"
def lW(f c':Addr)(H:Hp):Prop:=∃pm ctv,H f=some (iF f (kla_obj "<lambda>" bu vk vt r0 [] pm c' ctv))/\H c'=some (ic c' bu)
section
variable{P:Program}{w:World}{K:PySem.W.Frag}{mg:Str->Option Value}{base:Heap}
theorem Do:bj ["place"] ["place"] r0:=⟨rfl,rfl,rfl,by decide +kernel,rfl,by decide +kernel,by decide +kernel⟩
theorem Bz(f c':Addr):pz P w K mg base f (lW f c'):=by
 intro A outer s H q b l Q hr e0 ⟨pm,ctv,hf,hc⟩ hq k;refine FQ (k:=0) (N:=["place"]) (ps:=["place"]) (vs:=[.ref q]) Do rfl hr e0 (e0.hok f _ hf).1 (e0.hok c' _ hc).1 rfl (.cons rfl .nil)
  (c8 (ab (aL cR (pv 0) aq (λ_ _=>rfl)) (ab (aL cR (pv 0) aq (λ_ _=>rfl)) af))) ?_
 refine⟨_,rfl,q,_,1,_,rfl,rfl,bo.of hq,aK (j:=1) rfl,?_⟩;refine⟨_,rfl,q,_,0,_,rfl,rfl,bo.of hq,aK (j:=0) rfl,?_⟩;exact⟨(by show 2<=sizeLine;decide),λt ht=>k t ht⟩
end
open PySem.W (CodeHd kla_obj kla_fn tabObj)
theorem zq(f c':Addr)(H:Hp)(l:Addr)(g:lW f c' H)(hl:H l=none)(H1 H2:Hp)(g1:lW f c' H1)(fr:∀b o,H1 b=some o->b≠l->H2 b=some o):lW f c' H2:=by
 obtain⟨pm,ctv,a1,a2⟩:=g;obtain⟨pm1,ctv1,b1,b2⟩:=g1;exact⟨pm1,ctv1,fr _ _ b1 (ay a1 hl),fr _ _ b2 (ay a2 hl)⟩
theorem AY{H:Hp}{Pt:Addr}(t:bx H Pt bu bz):∃ps,H Pt=some (.tbl ps):=by
 rcases t with t|⟨c,t,_⟩
 ·exact⟨_,t⟩
 ·exact⟨_,t⟩
theorem ju.fr{K:PySem.W.Frag}{H H1:Hp}{Pt d:Addr}{ks:List MK}(h:ju K H d ks)(hT:bx H Pt bu bz)(fr:∀b o,H b=some o->b≠Pt->H1 b=some o):ju K H1 d ks:=by
 obtain⟨ps,e⟩:=AY hT;have rd:∀{c:Addr} {u:HO},Rd H c u->(∀ps,u≠.tbl ps)->Rd H1 c u:=λ{c u} r n=>by
  rcases r with r|⟨o,r⟩
  ·exact .inl (fr _ _ r (aC r e (n ps)))
  ·exact .inr ⟨o,fr _ _ r (aC r e (λz=>nomatch z))⟩
 rcases h with⟨kvs,hd,rfl⟩|⟨xs,hq,mk⟩
 ·exact .inl ⟨kvs,rd hd (λ_ z=>nomatch z),rfl⟩
 ·refine .inr ⟨xs,?_,mk.mono λb zs q=>fr _ _ q (aC q e (λz=>nomatch z))⟩;rcases hq with hq|hq
  ·exact .inl (rd hq (λ_ z=>nomatch z))
  ·exact .inr hq
def rH(K:PySem.W.Frag)(Pt:Addr):Sp:=λvs H Q _=>∃d ks,vs=[.ref d]/\ju K H d ks/\bx H Pt bu bz/\ks.length<64/\(∀k∈ks,hJ k)/\ks.Nodup/\
 ∀(H':Hp) (l:Addr) (ks':List MK) (ys:List V),H l=none->H' l=some (.lst ys)->ks'.Perm ks->ks'.Pairwise (λj k=>cz j<cz k)->bw H' ks' ys->(∀b o,H b=some o->b≠Pt->H' b=some o)->bx H' Pt bu bz->Q (.ref l) H'
def oj(Pt:Addr):Sp:=λvs H Q _=>∃d kvs,vs=[.ref d]/\Rd H d (.dM kvs)/\bx H Pt bu bz/\kvs.length<64/\(∀p∈kvs,hJ p.1)/\(kvs.map (·.1)).Nodup/\
 ∀(H':Hp) (l:Addr) (ks':List MK) (ys:List V),H l=none->H' l=some (.lst ys)->ks'.Perm (kvs.map (·.1))->ks'.Pairwise (λj k=>cz j<cz k)->bw H' ks' ys->(∀b o,H b=some o->b≠Pt->H' b=some o)->bx H' Pt bu bz->Q (.ref l) H'
theorem zW:bj ["places"] ["places"] (aM eS):=⟨rfl,rfl,rfl,by decide +kernel,rfl,by decide +kernel,by decide +kernel⟩
theorem AD{P:Program}{w:World}{K:PySem.W.Frag}{mg:Str->Option Value}{base:Heap}{f c Pt:Addr}{oc kV doc pm ct:Value}{od an:Option Addr}{osl:Array (Option Value)}
  (lk:K.lookup f=some ⟨oc,od,.func (PySem.W.fnOf "by_levels" "by_levels" (fh eS) (eN eS) (aM eS) .none kV doc pm an (.ref c) ct),osl⟩) (hcd:PySem.W.codeIn K (.ref c) "by_levels"=true)
  (hC:CodeHd base c Pt) (hPb:base.get? Pt=none) (hbm:base.BuiltinsAt mg Pt) (hsrt:mg "sorted"=none):
  ak P w K mg base au 4 f (PySem.W.fnOf "by_levels" "by_levels" (fh eS) (eN eS) (aM eS) .none kV doc pm an (.ref c) ct) ["places"] (rH K Pt):=by
 refine uJ lk hcd zW (λvs H Q E h=>?_) (λA outer s H vs Q E hr h=>?_)
 ·obtain⟨d,ks,rfl,_⟩:=h;rfl
 ·obtain⟨d,ks,rfl,hd,hT,h64,hp,hnd,k⟩:=h;have hr1:cq 1 (A.deeper (envOfC "by_levels" (aM eS) s.heap.objs.size f (.ref c))).in1.in1:=cq.in1 (cq.in1 hr);refine⟨_,fb.nox (aw (aF (yn (EI (G:=lW) rfl hr1 (λf c'=>Bz f c') zq) rfl hsrt boot_sorted (ab (pv 0) af)
   (wt (Bc (lpos:=bz) (params:=vk) (body:=vt) (scope:=r0) (qual:=bu) rfl hC hPb hbm rfl rfl rfl) vy)))),?_⟩
  refine⟨_,rfl,hT,λf' c' pm' ctv H1 hf1 e1 e2 fr1 hT1=>?_⟩;have hd1:=ju.fr (K:=K) hd hT fr1;refine⟨d,ks,f',c',rfl,rfl,hd1,⟨pm',ctv,e1,e2⟩,h64,hp,hnd,λH' l ks' ys hl el pm pw mk fr=>?_⟩;have hlH:H l=none:=by
   cases q:H l with
   |none=>rfl
   |some o=>
    exfalso;by_cases z:l=Pt
    ·subst z;rcases hT1 with hT1|⟨c2,hT1,_⟩
     ·rw[hT1]at hl;cases hl
     ·rw[hT1]at hl;cases hl
    ·rw[fr1 l o q z]at hl;cases hl
  refine k H' l ks' ys hlH el pm pw mk (λb o q hb=>fr b o (fr1 b o q hb)) ?_;rcases hT1 with hT1|⟨c2,hT1,hc2⟩
  ·exact .inl (fr _ _ hT1)
  ·exact .inr ⟨c2,fr _ _ hT1,fr _ _ hc2⟩
theorem CQ{P:Program}{w:World}{K:PySem.W.Frag}{mg:Str->Option Value}{base:Heap}{k:Nat}{f Pt:Addr}{fd:FuncData}(G:ak P w K mg base au k f fd ["places"] (rH K Pt)):ak P w K mg base au k f fd ["places"] (oj Pt):=
 G.imp λvs H Q E ⟨d,kvs,e,hd,hT,h64,hp,hnd,k⟩=>⟨d,kvs.map (·.1),e,.inl ⟨kvs,hd,rfl⟩,hT,by rw[List.length_map];exact h64,λj hj=>by
  obtain⟨p,hpm,rfl⟩:=bh.mp hj;exact hp p hpm,hnd,k⟩
abbrev sCarr:Stmt:=bq 11
structure WD where
 dx:Addr
 g:Addr
 fr:Addr
 ti:Addr
 th:Addr
 la:Addr
 we:Addr
 sp:Addr
 kf:List (MK×V)
 kt:List (MK×V)
 kh:List (MK×V)
 kl:List (MK×V)
 svs:List V
def rT(a:Abs)(d:WD):List (Str×V):=[("bays",.int a.bays),("levels",.int a.levels),("weight",.int a.weight),("most",.int a.most),("free",.int a.free),("ground",.ref d.g),("frames",.ref d.fr),("ties",.ref d.ti),("things",.ref d.th),("ladders",.ref d.la),("weights",.ref d.we),("spots",.ref d.sp)]
abbrev key(b l:Nat):MK:=pk (b:Int) (l:Int)
def nk(a:Abs)(x:Nat):MK:=if x=0 then .inl "ground" else key (a.bay (x-1)) (a.level (x-1))
structure cS(a:Abs)(kvs:List (MK×V)):Prop where
 nd:(kvs.map (·.1)).Nodup
 at_:∀p∈kvs,∃b l:Nat,p.1=key b l/\a.there b l=true
structure bU(a:Abs)(d:WD):Prop where
 f:cS a d.kf
 t:cS a d.kt
 h:cS a d.kh
 l:cS a d.kl
 fv:∀b l,aE d.kf (key b l)=if a.there b l=true then some (.int (a.frame b l).kind)else none
 tv:∀b l,aE d.kt (key b l)=if(a.frame b l).tie=true then some (.bl true)else none
 hv:∀b l,(aE d.kh (key b l)).getD (.int 0)= .int (a.frame b l).things
 lv:∀b l,aE d.kl (key b l)=if(a.frame b l).ladder=true then some (.bl true)else none
structure c7(K:PySem.W.Frag)(C:Addr)(H:Hp)(wl:Addr)(a:Abs)(d:WD):Prop where
 ins:H wl=some (.ins C d.dx (rT a d))
 g:SqL K H d.g (a.soil.map λn=>V.int (n:Nat))
 fr:Rd H d.fr (.dM d.kf)
 ti:Rd H d.ti (.dM d.kt)
 th:Rd H d.th (.dM d.kh)
 la:Rd H d.la (.dM d.kl)
 we:SqL K H d.we (a.people.map λp=>V.int (p.weight:Nat))
 sp:SqL K H d.sp d.svs
 spk:bw H (a.people.map λp=>nk a p.at_) d.svs
 ok:bU a d
structure aj(Pt:Addr)(H H':Hp):Prop where
 keep:∀b o,H b=some o->b≠Pt->H' b=some o
 tab:bx H Pt bu bz->bx H' Pt bu bz
theorem aj.refl{Pt:Addr}{H:Hp}:aj Pt H H:=⟨λ_ _ q _=>q,λt=>t⟩
theorem aj.trans{Pt:Addr}{H H1 H2:Hp}(x:aj Pt H H1)(y:aj Pt H1 H2):aj Pt H H2:=⟨λb o q n=>y.keep b o (x.keep b o q n) n,λt=>y.tab (x.tab t)⟩
theorem eU{H:Hp}{Pt:Addr}(t:bx H Pt bu bz):∃ps,H Pt=some (.tbl ps):=by
 rcases t with t|⟨c,t,_⟩
 ·exact⟨_,t⟩
 ·exact⟨_,t⟩
theorem aj.all{Pt:Addr}{H H':Hp}(k:Kp H H'):aj Pt H H':=⟨λb o q _=>k b o q,λt=>by
 rcases t with t|⟨c,t,t2⟩
 ·exact .inl (k _ _ t)
 ·exact .inr ⟨c,k _ _ t,k _ _ t2⟩⟩
theorem Kp.laid{H:Hp}{t:Addr}{o:HO}(h:H t=none):Kp H (upd H t o):=λb u q=>by rw[ag (ay q h)];exact q
theorem Kp.trans{H H1 H2:Hp}(x:Kp H H1)(y:Kp H1 H2):Kp H H2:=λb o q=>y b o (x b o q)
theorem aj.laid{Pt:Addr}{H:Hp}{t:Addr}{o:HO}(h:H t=none):aj Pt H (upd H t o):=.all (Kp.laid h)
theorem aj.free{Pt:Addr}{H H':Hp}(x:aj Pt H H')(t:bx H Pt bu bz){l:Addr}(h:H' l=none):H l=none:=by
 cases q:H l with
 |none=>rfl
 |some o=>
  exfalso;by_cases z:l=Pt
  ·subst z;obtain⟨ps,e⟩:=eU (x.tab t);rw[e]at h;cases h
  ·rw[x.keep l o q z]at h;cases h
theorem aj.rd{Pt:Addr}{H H':Hp}(x:aj Pt H H')(t:bx H Pt bu bz){c:Addr}{u:HO}(h:Rd H c u)(hu:∀ps,u≠.tbl ps):Rd H' c u:=by
 obtain⟨ps,e⟩:=eU t;rcases h with h|⟨o,h⟩
 ·exact .inl (x.keep _ _ h (aC h e (hu ps)))
 ·exact .inr ⟨o,x.keep _ _ h (aC h e (λz=>nomatch z))⟩
theorem aj.seq{K:PySem.W.Frag}{Pt:Addr}{H H':Hp}(x:aj Pt H H')(t:bx H Pt bu bz){c:Addr}{xs:List V}(h:SqL K H c xs):SqL K H' c xs:=by
 rcases h with h|h
 ·exact .inl (x.rd t h (λps z=>nomatch z))
 ·exact .inr h
theorem aj.tup{Pt:Addr}{H H':Hp}(x:aj Pt H H')(t:bx H Pt bu bz){c:Addr}{xs:List V}(h:H c=some (.tup xs)):H' c=some (.tup xs):=by
 obtain⟨ps,e⟩:=eU t;exact x.keep _ _ h (aC h e (λz=>nomatch z))
theorem aj.mks{Pt:Addr}{H H':Hp}(x:aj Pt H H')(t:bx H Pt bu bz){ks:List MK}{xs:List V}(h:bw H ks xs):bw H' ks xs:=h.mono λ_ _ q=>x.tup t q
theorem c7.ext{K:PySem.W.Frag}{C:Addr}{Pt:Addr}{H H':Hp}{wl:Addr}{a:Abs}{d:WD}(W:c7 K C H wl a d)(x:aj Pt H H')(t:bx H Pt bu bz):c7 K C H' wl a d:=by
 obtain⟨ps,e⟩:=eU t;exact⟨x.keep _ _ W.ins (aC W.ins e (λz=>nomatch z)),x.seq t W.g,x.rd t W.fr (λ_ z=>nomatch z),x.rd t W.ti (λ_ z=>nomatch z),x.rd t W.th (λ_ z=>nomatch z),x.rd t W.la (λ_ z=>nomatch z),x.seq t W.we,x.seq t W.sp,x.mks t W.spk,W.ok⟩
structure bW(K:PySem.W.Frag)(mg:Str->Option Value)(C:Addr):Prop where
 cl:gS K C
 nB:dR K C "bays"
 nL:dR K C "levels"
 nW:dR K C "weight"
 nM:dR K C "most"
 nF:dR K C "free"
 nG:dR K C "ground"
 nFr:dR K C "frames"
 nTi:dR K C "ties"
 nTh:dR K C "things"
 nLa:dR K C "ladders"
 nWe:dR K C "weights"
 nSp:dR K C "spots"
 onBeam:∃t,mg "ON_BEAM"=some (.int 2 t)
 ground:∃t,mg "GROUND"=some (.str "ground" t)
theorem jw{b c b' c':Int}(e:pk b c=pk b' c'):b=b'/\c=c':=by
 injection e with e;injection e with e1 e2;injection e1 with e1;injection e2 with e2 _;injection e2 with e2;exact⟨e1,e2⟩
theorem FI{a:Abs}{kvs:List (MK×V)}(k:cS a kvs){z:MK}(h:∀b l:Nat,a.there b l=true->z≠key b l):aE kvs z=none:=by
 cases q:aE kvs z with
 |none=>rfl
 |some v=>
  obtain⟨p,hp,e⟩:=bh.mp (iH q);obtain⟨b,l,e1,ht⟩:=k.at_ p hp;exact absurd (e.symm.trans e1) (h b l ht)
def rE:Sp:=λvs H Q _=>∃q b l,vs=[.ref q]/\bX H q b l/\∀H' p ys,Kp H H'->H p=none->H' p=some (.lst ys)->bw H' [pk (b-1) (l-1),pk (b+1) (l-1)] ys->Q (.ref p) H'
section
variable{P:Program}{w:World}{K:PySem.W.Frag}{mg:Str->Option Value}{base:Heap}
theorem EK:bj ["place"] ["place"] (aM sEnds):=⟨rfl,rfl,rfl,by decide +kernel,rfl,by decide +kernel,by decide +kernel⟩
theorem xb{f:Addr}{fd:FuncData}(F:a8 K "beam_ends" "beam_ends" sEnds f fd):ak P w K mg base au 1 f fd ["place"] rE:=by
 refine F.ok EK (λvs H Q E h=>?_) (λcdv A outer s H vs Q E hr h=>?_)
 ·obtain⟨q,b,l,rfl,_⟩:=h;rfl
 ·obtain⟨q,b,l,rfl,hq,k⟩:=h;refine⟨_,aw (aF (cu (ab (c8 (ab (cW gQ (aL cR (pv 0) aq (λ_ _=>rfl)) aq) (ab (cW gQ (aL cR (pv 0) aq (λ_ _=>rfl)) aq) af)))
   (ab (c8 (ab (cW gc (aL cR (pv 0) aq (λ_ _=>rfl)) aq) (ab (cW gQ (aL cR (pv 0) aq (λ_ _=>rfl)) aq) af))) af)))),?_⟩
  refine⟨_,rfl,q,_,0,_,rfl,rfl,bo.of hq,aK (j:=0) rfl,_,_,rfl,rfl,?_⟩;refine⟨_,rfl,q,_,1,_,rfl,rfl,bo.of hq,aK (j:=1) rfl,_,_,rfl,rfl,?_⟩;refine⟨(by show 2<=sizeLine;decide),λt1 ht1=>?_⟩;have k1:Kp H (upd H t1 (.tup [.int (b-1),.int (l-1)])):=Kp.laid ht1;have hq1:=k1 _ _ hq;refine⟨_,rfl,q,_,0,_,rfl,rfl,bo.of hq1,aK (j:=0) rfl,_,_,rfl,rfl,?_⟩;refine⟨_,rfl,q,_,1,_,rfl,rfl,bo.of hq1,aK (j:=1) rfl,_,_,rfl,rfl,?_⟩;refine⟨(by show 2<=sizeLine;decide),λt2 ht2=>?_⟩;have k2:=Kp.laid (o:=.tup [.int (b+1),.int (l-1)]) ht2;refine⟨(by show 2<=sizeLine;decide),λp hp=>?_⟩;have k3:=Kp.laid (o:=.lst [.ref t1,.ref t2]) hp;have kk:Kp H _:=Kp.trans (Kp.trans k1 k2) k3;refine k _ p _ kk ?_ ao (.cons ⟨t1,rfl,k3 _ _ (k2 _ _ ao)⟩ (.cons ⟨t2,rfl,k3 _ _ ao⟩ .nil));cases e:H p with
  |none=>rfl
  |some o=>rw[k2 _ _ (k1 _ _ e)]at hp;cases hp
def cZ(a:Abs)(b l:Nat):List MK:=if(a.frame b l).kind=2 then[pk ((b:Int)-1) ((l:Int)-1),pk ((b:Int)+1) ((l:Int)-1)]else if l=0 then[]else[pk (b:Int) ((l:Int)-1)]
def nE(K:PySem.W.Frag)(C Pt:Addr):Sp:=λvs H Q _=>∃wl q a d,∃b l:Nat,vs=[.ref wl,.ref q]/\c7 K C H wl a d/\bX H q b l/\a.there b l=true/\
 ∀H' p ys,Kp H H'->H p=none->H' p=some (.lst ys)->bw H' (cZ a b l) ys->Q (.ref p) H'
theorem CT:bj ["wall","place"] ["wall","place"] (aM sCarr):=⟨rfl,rfl,rfl,by decide +kernel,rfl,by decide +kernel,by decide +kernel⟩
theorem CC{f fE fB C Pt:Addr}{fd fdE fdB:FuncData}(F:a8 K "carriers" "carriers" sCarr f fd)(T:bW K mg C)(FE:a8 K "beam_ends" "beam_ends" sEnds fE fdE)(bE:aN K fdE ["place"] [])(mE:mg "beam_ends"=some (.ref fE))
  (FB:a8 K "below" "below" sBelow fB fdB) (bB:aN K fdB ["place"] []) (mB:mg "below"=some (.ref fB)):ak P w K mg base au 2 f fd ["wall","place"] (nE K C Pt):=by
 have GE:ak P w K mg base au 1 fE fdE ["place"] rE:=xb FE;have GB:ak P w K mg base au 1 fB fdB ["place"] jW:=sh FB;obtain⟨tb,hbeam⟩:=T.onBeam;refine F.ok CT (λvs H Q E h=>?_) (λcdv A outer s H vs Q E hr h=>?_)
 ·obtain⟨wl,q,a,d,b,l,rfl,_⟩:=h;rfl
 ·obtain⟨wl,q,a,d,b,l,rfl,W,hq,ht,k⟩:=h;have hu:=cP hr;refine⟨_,ai (aV (aR gX (gb hu (ax (pv 0) rfl) (pv 1) (λ_ _=>rfl)) (aP (v:=.int 2) rfl hbeam ⟨tb,rfl⟩) (b7 _)) (aw (aF (bg GE hr rfl mE FE.kp bE .nil aU (ab (pv 1) af)))) aY)
   (ai (aV (aR gX (aL cR (pv 1) aq (λ_ _=>rfl)) aq (b7 _)) (aw (aF (cu af))) aY)
   (aw (aF (cu (ab (bg GB hr rfl mB FB.kp bB .nil aU (ab (pv 1) af)) af))))),?_⟩
  have hv:aE d.kf (key b l)=some (.int (a.frame b l).kind):=by rw[W.ok.fv,if_pos ht]
  refine⟨_,rfl,wl,C,d.dx,_,_,rfl,W.ins,T.cl,T.nFr,rfl,_,rfl,d.fr,d.kf,key b l,_,rfl,W.fr,⟨q,rfl,hq⟩,hv,rfl,_,rfl,?_⟩;have kq:(a.frame b l).kind=2↔V.int ((a.frame b l).kind:Nat)=V.int 2:=⟨λe=>by rw[e];rfl,λe=>by injection e with e;omega⟩;refine bZ (λe=>?_) (λe=>?_)
  ·have e2:=kq.mpr (ck e);refine⟨_,rfl,q,b,l,rfl,hq,λH' p ys k1 hp el mk=>k H' p ys k1 hp el ?_⟩;unfold cZ;rw[if_pos e2];exact mk
  ·have e2:¬(a.frame b l).kind=2:=λz=>e (aO (kq.mp z));refine⟨_,rfl,q,_,1,_,rfl,rfl,bo.of hq,aK (j:=1) rfl,rfl,_,rfl,?_⟩;refine bZ (λe3=>?_) (λe3=>?_)
   ·have l0:l=0:=by
     have:=ck e3;injection this with this;omega
    refine⟨da _,λp hp=>k _ p _ (Kp.laid hp) hp ao ?_⟩;unfold cZ;rw[if_neg e2,if_pos l0];exact .nil
   ·have l0:¬l=0:=λz=>e3 (aO (by rw[z];rfl));refine⟨_,rfl,q,b,l,rfl,hq,λt ht1=>?_⟩;have k1:=Kp.laid (o:=.tup [.int b,.int ((l:Int)-1)]) ht1;refine⟨(by show 1<=sizeLine;decide),λp hp=>?_⟩;have k2:=Kp.laid (o:=.lst [.ref t]) hp;refine k _ p _ (Kp.trans k1 k2) ?_ ao ?_
    ·cases e:H p with
     |none=>rfl
     |some o=>rw[k1 _ _ e]at hp;cases hp
    ·unfold cZ;rw[if_neg e2,if_neg l0];exact .cons ⟨t,rfl,k2 _ _ ao⟩ .nil
end
abbrev sCarries:Stmt:=bq 12
def mw(a:Abs):MK->List MK
 |.inr [.inl b,.inl l]=>cZ a b.toNat l.toNat
 |_=>[]
theorem oN(a:Abs)(b l:Nat):mw a (key b l)=cZ a b l:=rfl
def xU(K:PySem.W.Frag)(C:Addr):Sp:=λvs H Q _=>∃wl q a d,∃b l:Nat,vs=[.ref wl,.ref q]/\c7 K C H wl a d/\H d.fr=some (.dM d.kf)/\d.kf.length<=48/\bX H q b l/\
 ∀H',Kp H H'->Q (.bl (d.kf.any λp=>(mw a p.1).any λj=>decide (j=key b l))) H'
section
variable{P:Program}{w:World}{K:PySem.W.Frag}{mg:Str->Option Value}{base:Heap}
theorem Kp.unlock{H H':Hp}{c:Addr}{o:Obj}{u:HO}(h:H c=some u)(k:Kp (upd H c (.frz o u)) H'):Kp H (upd H' c u):=λb z q=>by
 by_cases e:b=c
 ·subst e;rw[h]at q;cases q;exact ao
 ·rw[ag e];exact k b z (by rw[ag e];exact q)
theorem c7.lock{C:Addr}{H:Hp}{wl:Addr}{a:Abs}{d:WD}{o:Obj}(W:c7 K C H wl a d)(h:H d.fr=some (.dM d.kf)):c7 K C (upd H d.fr (.frz o (.dM d.kf))) wl a d:=by
 have st:∀b u,H b=some u->b≠d.fr->upd H d.fr (.frz o (.dM d.kf)) b=some u:=λb u q n=>by rw[ag n];exact q
 have rd:∀{c:Addr} {kvs:List (MK×V)},Rd H c (.dM kvs)->Rd (upd H d.fr (.frz o (.dM d.kf))) c (.dM kvs):=λ{c kvs} r=>by
  by_cases e:c=d.fr
  ·subst e;rcases r with r|⟨o',r⟩
   ·rw[h]at r;cases r;exact .inr ⟨o,ao⟩
   ·rw[h]at r;cases r
  ·rcases r with r|⟨o',r⟩
   ·exact .inl (st _ _ r e)
   ·exact .inr ⟨o',st _ _ r e⟩
 have sq:∀{c:Addr} {xs:List V},SqL K H c xs->SqL K (upd H d.fr (.frz o (.dM d.kf))) c xs:=λ{c xs} r=>by
  rcases r with(r|⟨o',r⟩)|r
  ·exact .inl (.inl (st _ _ r (aC r h (λz=>nomatch z))))
  ·exact .inl (.inr ⟨o',st _ _ r (aC r h (λz=>nomatch z))⟩)
  ·exact .inr r
 exact⟨st _ _ W.ins (aC W.ins h (λz=>nomatch z)),sq W.g,rd W.fr,rd W.ti,rd W.th,rd W.la,sq W.we,sq W.sp,W.spk.mono λb xs q=>st _ _ q (aC q h (λz=>nomatch z)),W.ok⟩
theorem c7.kp{C:Addr}{H H':Hp}{wl:Addr}{a:Abs}{d:WD}(W:c7 K C H wl a d)(k:Kp H H'):c7 K C H' wl a d:=by
 have rd:∀{c:Addr} {u:HO},Rd H c u->Rd H' c u:=λ{c u} r=>by
  rcases r with r|⟨o',r⟩
  ·exact .inl (k _ _ r)
  ·exact .inr ⟨o',k _ _ r⟩
 have sq:∀{c:Addr} {xs:List V},SqL K H c xs->SqL K H' c xs:=λ{c xs} r=>by
  rcases r with r|r
  ·exact .inl (rd r)
  ·exact .inr r
 exact⟨k _ _ W.ins,sq W.g,rd W.fr,rd W.ti,rd W.th,rd W.la,sq W.we,sq W.sp,W.spk.mono λb xs q=>k _ _ q,W.ok⟩
theorem rO:bj ["wall","place","other"] ["wall","place"] (aM sCarries):=⟨rfl,rfl,rfl,by decide +kernel,rfl,by decide +kernel,by decide +kernel⟩
theorem BI{f fC C Pt:Addr}{fd fdC:FuncData}(F:a8 K "carries_some" "carries_some" sCarries f fd)(T:bW K mg C)(hany:mg "any"=none)(GC:ak P w K mg base au 2 fC fdC ["wall","place"] (nE K C Pt))(FC:PySem.W.keepIn K (.ref fC)=true)(bC:aN K fdC ["wall","place"] [])(mC:mg "carriers"=some (.ref fC)):
  ak P w K mg base au 3 f fd ["wall","place"] (xU K C):=by
 refine F.ok rO (λvs H Q E h=>?_) (λcdv A outer s H vs Q E hr h=>?_)
 ·obtain⟨wl,q,a,d,b,l,rfl,_⟩:=h;rfl
 ·obtain⟨wl,q,a,d,b,l,rfl,W,hfr,h48,hq,k⟩:=h;have hu2:(A.deeper (envOfC "carries_some" (aM sCarries) s.heap.objs.size f cdv)).units+2<cLine:=by have:=hr.un;omega
  refine⟨_,aw (aF (mh (cx (nz rfl) rfl hany boot_any (ab (eG (own:=[("other",2)]) rfl rO.nd (ph (ax (pv 0) rfl)) (eB rfl) (λs H C cl fp=>cN (i:=2) rO.nd rfl (Or.inl rfl)) (λs H C cl fp=>i3)
   (λs H C' cl fp=>iY (r:=sS K) (xB hu2) (pv 1) (bg GC hr rfl mC FC bC .nil aU (ab (pv 0) (ab (pv 2) af))) (by with_unfolding_all rfl))) af)))),?_⟩
  refine⟨d.fr,.dM d.kf,hfr,True.intro,λod=>?_⟩;have W1:=W.lock (o:=od) hfr;have hq1:bX (upd H d.fr (.frz od (.dM d.kf))) q b l:=by
   show upd H d.fr _ q=_;rw[ag (aC hq hfr (λz=>nomatch z))];exact hq
  refine⟨_,rfl,wl,C,d.dx,_,_,rfl,W1.ins,T.cl,T.nFr,rfl,d.fr,od,d.kf,rfl,ao,λD hD=>?_⟩;have hfr1:upd H d.fr (.frz od (.dM d.kf)) d.fr=some (.frz od (.dM d.kf)):=ao;have hback:∀H',Kp (upd H d.fr (.frz od (.dM d.kf))) H'->Kp H (upd H' d.fr (.dM d.kf)):=λH' kk=>Kp.unlock hfr kk;generalize hH1:upd H d.fr (.frz od (.dM d.kf))=H1 at*;refine ee (n:=d.kf.length) (λi H'=>Kp H1 H'/\H' D=some (.lst ((d.kf.take i).map λp=>V.bl ((mw a p.1).any λj=>decide (j=key b l)))))
   ⟨Kp.laid hD,ao⟩ (λi H' hi ⟨kk,_⟩=>⟨kk _ _ hfr1,hi⟩) (λH' ⟨kk,_⟩=>⟨kk _ _ hfr1,aJ _⟩) ?_ ?_
  ·rintro i x H2 H3 hi ⟨kk,hD2⟩ ⟨rfl,kx,vx,hkx,mx⟩;refine⟨rfl,?_⟩;refine⟨_,rfl,_,rfl,_,rfl,?_⟩;obtain⟨b',l',e1,ht'⟩:=W.ok.f.at_ _ (cE hkx);dsimp only at e1;subst e1;obtain⟨q',rfl,hq'⟩:=gH mx;refine⟨wl,q',a,d,b',l',rfl,W1.kp kk,hq',ht',λH4 p ys k4 hp el mk=>?_⟩;refine⟨p,ys,cZ a b' l',key b l,rfl,SqL.of el,mk,⟨q,rfl,k4 _ _ (kk _ _ hq1)⟩,?_⟩;refine⟨_,k4 _ _ hD2,?_,?_,?_⟩
   ·rw[List.length_map,gI];exact bc (lj _ _) (bc h48 (by decide))
   ·intro c o qc;have ncD:c≠D:=ay qc hD;rw[ag ncD];exact k4 _ _ (kk _ _ qc)
   ·rw[ao,fY hi,cf];have e2:d.kf[i]=(key b' l',vx):=by
     have:=aZ hi;rw[hkx]at this;exact(b9 this).symm
    rw[e2];rfl
  ·rintro H2 ⟨kk,hD2⟩;rw[gp]at hD2;refine⟨D,d.kf.map λp=>(mw a p.1).any λj=>decide (j=key b l),rfl,SqL.of (by rw[hD2,List.map_map];rfl),kk _ _ hfr1,?_⟩;have:=k _ (hback _ kk);rw[qh];exact this
end
abbrev sOwn:Stmt:=bq 13
section
variable{κ:Type}[DecidableEq κ]
theorem wX{kvs:List (κ×V)}{k:κ}{v x:V}(h:aE kvs k=some x):(bt kvs k v).map (·.1)=kvs.map (·.1):=by
 unfold bt;rw[i4,h];show((kvs.map λkv=>if kv.1=k then(kv.1,v)else kv).map (·.1))=_;rw[List.map_map];refine mU λp _=>?_;show(if p.1=k then(p.1,v)else p).1=p.1;split<;>rfl
theorem ku:∀{kvs:List (κ×V)} {k:κ},¬k∈kvs.map (·.1)->aE kvs k=none
 | [],_,_=>rfl
 |p::r,k,h=>by
  rw[aW,a9,dI]at h;rw[eJ (λz=>h.1 z.symm)];exact ku h.2
theorem gw:∀{kvs:List (κ×V)} {k:κ} {v:V},(kvs.map (·.1)).Nodup->(k,v)∈kvs->aE kvs k=some v
 | [],_,_,_,h=>nomatch h
 |p::r,k,v,hn,h=>by
  rw[aW,cG]at hn;rcases a9.mp h with e|h
  ·rw[←e];exact fg rfl
  ·rw[eJ (λz=>hn.1 (by rw[z];exact bh.mpr ⟨_,h,rfl⟩))];exact gw hn.2 h
theorem Dd{kvs:List (κ×V)}(hn:(kvs.map (·.1)).Nodup){i:Nat}{p:κ×V}(h:kvs[i]?=some p)(g:κ×V->V):aE ((kvs.take i).map λq=>(q.1,g q)) p.1=none:=by
 refine ku λhm=>?_;rw[List.map_map]at hm;obtain⟨q,hq,e⟩:=bh.mp hm;obtain⟨j,hj⟩:=eV.mp hq;have hjl:j<(kvs.take i).length:=(cX.mp hj).1;rw[gI]at hjl;rw[zl,if_pos (by omega)]at hj;have a1:(kvs.map (·.1))[j]?=some p.1:=by rw[bY,hj];exact dr some e
 have a2:(kvs.map (·.1))[i]?=some p.1:=by rw[bY,h];rfl
 have:=(tw (cX.mp a1).1 hn).mp (a1.trans a2.symm);omega
end
structure d7(a:Abs)(d:WD)(kv:List (MK×V))(g:Nat->Nat->Int):Prop where
 keys:kv.map (·.1)=d.kf.map (·.1)
 val:∀b l,a.there b l=true->aE kv (key b l)=some (.int (g b l))
theorem d7.len{a:Abs}{d:WD}{kv:List (MK×V)}{g:Nat->Nat->Int}(x:d7 a d kv g):kv.length=d.kf.length:=by
 have:=dr List.length x.keys;simpa using this
theorem d7.put{a:Abs}{d:WD}{kv:List (MK×V)}{g:Nat->Nat->Int}(x:d7 a d kv g){b l:Nat}(ht:a.there b l=true)(z:Int):d7 a d (bt kv (key b l) (.int z)) (λb' l'=>if b'=b/\l'=l then z else g b' l'):=by
 refine⟨by rw[wX (x.val b l ht)];exact x.keys,λb' l' ht'=>?_⟩;rw[oA];by_cases e:b'=b/\l'=l
 ·rw[if_pos (by rw[e.1,e.2]),if_pos e]
 ·rw[if_neg (λq=>e ⟨by have:=(jw q).1;omega,by have:=(jw q).2;omega⟩),if_neg e];exact x.val b' l' ht'
theorem jG:jv (.inl "ground"):=⟨_,.str "ground" (by decide +kernel)⟩
theorem rh(b c:Int):jv (pk b c):=⟨_,.pair b c⟩
theorem iJ(a:Abs)(x:Nat):jv (nk a x):=by
 unfold nk;split
 ·exact jG
 ·exact rh _ _
def sQ(K:PySem.W.Frag)(C:Addr):Sp:=λvs H Q _=>∃wl a d,vs=[.ref wl]/\Sf a/\c7 K C H wl a d/\H d.fr=some (.dM d.kf)/\d.kf.length<=48/\
 ∀H' p kv,Kp H H'->H p=none->H' p=some (.dM kv)->d7 a d kv (λb l=>(own a b l:Nat))->Q (.ref p) H'
section
variable{P:Program}{w:World}{K:PySem.W.Frag}{mg:Str->Option Value}{base:Heap}
theorem lD:bj ["wall","loads","place","spot","weight"] ["wall"] (aM sOwn):=⟨rfl,rfl,rfl,by decide +kernel,rfl,by decide +kernel,by decide +kernel⟩
theorem EA(ps:List Person)(c j:Nat){p:Person}(h:ps[j]?=some p):dZ (ps.take (j+1)) c=dZ (ps.take j) c+ (if p.at_=c+1 then p.weight else 0):=by
 have hj:=(cX.mp h).1;have e:ps[j]=p:=by
  have:=aZ hj;rw[h]at this;exact(b9 this).symm
 rw[fY hj,e];unfold dZ;rw[iA,cf,zj,dA];by_cases q:p.at_=c+1
 ·rw[if_pos (by simpa using q),if_pos q];simp
 ·rw[if_neg (by simpa using q),if_neg q];simp
def j7(a:Abs):MK->Nat
 |.inr [.inl b,.inl l]=>(a.frame b.toNat l.toNat).things
 |_=>0
theorem FT{a:Abs}{d:WD}(D:bU a d):d7 a d (d.kf.map λq=>(q.1,V.int (a.weight+j7 a q.1:Nat))) (λb l=>((a.weight+ (a.frame b l).things+dZ (a.people.take 0) (a.place b l):Nat):Int)):=by
 refine⟨by rw[List.map_map];rfl,λb l ht=>?_⟩;have hv:aE d.kf (key b l)=some (.int (a.frame b l).kind):=by rw[D.fv,if_pos ht]
 have hm:∃v,(key b l,v)∈d.kf:=by
  obtain⟨q,hq,e⟩:=bh.mp (iH hv);exact⟨q.2,by rw[←e];exact hq⟩
 obtain⟨v,hm⟩:=hm;have:(key b l,V.int (a.weight+j7 a (key b l):Nat))∈d.kf.map λq=>(q.1,V.int (a.weight+j7 a q.1:Nat)):=bh.mpr ⟨_,hm,rfl⟩;rw[gw (by rw[List.map_map];exact D.f.nd) this];rfl
theorem jZ(a:Abs)(x:Nat):decide (nk a x= .inl "ground")=decide (x=0):=by
 unfold nk;by_cases e:x=0
 ·rw[if_pos e,aO e,aO rfl]
 ·rw[if_neg e,ba e,ba (λz=>nomatch z)]
theorem dE{a:Abs}{b l:Nat}(ht:a.there b l=true):nk a (a.place b l+1)=key b l:=by
 unfold nk;rw[if_neg (by omega),iw,fe (az ht).1,eQ (az ht).1]
theorem Dc{f C:Addr}{fd:FuncData}(F:a8 K "own_loads" "own_loads" sOwn f fd)(T:bW K mg C)(hzip:mg "zip"=none):ak P w K mg base au 1 f fd ["wall"] (sQ K C):=by
 obtain⟨tg,hgr⟩:=T.ground;refine F.ok lD (λvs H Q E h=>?_) (λcdv A outer s H vs Q E hr h=>?_)
 ·obtain⟨wl,a,d,rfl,_⟩:=h;rfl
 ·obtain⟨wl,a,d,rfl,Wfa,W,hfr,h48,k⟩:=h;have hu:=cP hr;have hu64:(A.deeper (envOfC "own_loads" (aM sOwn) s.heap.objs.size f cdv)).units+64<cLine:=by have:=hr.un;omega
  refine⟨_,ai (aS (i:=1) lD.nd rfl (Or.inl rfl) j9)
   (ai (Az (jo iB rfl (ph (ax (pv 0) rfl)) (cN (i:=2) lD.nd rfl (Or.inl rfl))
    (aw (gN hu (pv 1) (pv 2) (cW gc (ax (pv 0) rfl) (jq hu (ax (pv 0) rfl) (pv 2) aq ⟨rfl,rfl,rfl,rfl⟩)) rfl))))
   (ai (jo iB rfl (sP rfl hzip (ab (ax (pv 0) rfl) (ab (ax (pv 0) rfl) af))) (xp rfl (gT (cN (i:=3) lD.nd rfl (Or.inl rfl)) (gT (cN (i:=4) lD.nd rfl (Or.inl rfl)) lH)))
    (aw (aV (aR (rp hu64) (pv 3) (aP (v:=.str "ground") rfl hgr ⟨tg,rfl⟩) (b7 _)) (aw (pJ hu (pv 1) (pv 3) (pv 4) nU (λ_ _ _=>rfl))) aY)))
   (aw (aF (pv 1))))),?_⟩
  intro p hp;have k0:Kp H (upd H p (.dM [])):=Kp.laid hp;have npf:p≠d.fr:=λz=>by rw[z,hfr]at hp;cases hp
  refine⟨d.fr,.dM d.kf,k0 _ _ hfr,True.intro,λod=>?_⟩;have W1:=W.lock (o:=od) hfr;have hback:∀H',Kp (upd H d.fr (.frz od (.dM d.kf))) H'->Kp H (upd H' d.fr (.dM d.kf)):=λH' kk=>Kp.unlock hfr kk;have hp1:upd H d.fr (.frz od (.dM d.kf)) p=none:=by rw[ag npf];exact hp
  have hfr1:upd H d.fr (.frz od (.dM d.kf)) d.fr=some (.frz od (.dM d.kf)):=ao;have k1:Kp (upd H d.fr (.frz od (.dM d.kf))) (upd (upd H p (.dM [])) d.fr (.frz od (.dM d.kf))):=λb o q=>by
   by_cases e:b=d.fr
   ·subst e;rw[hfr1]at q;cases q;exact ao
   ·rw[ag e]at q⊢;exact k0 _ _ q
  have ep:upd (upd H p (.dM [])) d.fr (.frz od (.dM d.kf)) p=some (.dM []):=by rw[ag npf];exact ao
  generalize upd (upd H p (.dM [])) d.fr (.frz od (.dM d.kf))=H2 at k1 ep⊢;generalize upd H d.fr (.frz od (.dM d.kf))=HL at W1 hback hp1 hfr1 k1;have W2:=W1.kp k1;refine⟨_,rfl,wl,C,d.dx,_,_,rfl,W2.ins,T.cl,T.nFr,rfl,d.fr,od,d.kf,rfl,k1 _ _ hfr1,kr (n:=d.kf.length)
   (λi σ H'=>∃v2:Option V,σ=[some (.ref wl),some (.ref p),v2,none,none]/\Kp HL H'/\H' p=some (.dM ((d.kf.take i).map λq=>(q.1,V.int (a.weight+j7 a q.1:Nat)))))
   ⟨none,rfl,k1,ep⟩ (λi σ H' hi ⟨_,_,kk,_⟩=>⟨kk _ _ hfr1,hi⟩) (λσ H' ⟨_,_,kk,_⟩=>⟨kk _ _ hfr1,aJ _⟩) ?_ ?_⟩
  ·rintro i x σ H3 H4 hi ⟨v2,rfl,kk,hpv⟩ ⟨rfl,kx,vx,hkx,mx⟩;obtain⟨b,l,e1,ht⟩:=W.ok.f.at_ _ (cE hkx);dsimp only at e1;subst e1;have W3:=W1.kp kk;refine⟨_,rfl,wl,C,d.dx,_,_,rfl,W3.ins,T.cl,T.nW,rfl,_,rfl,wl,C,d.dx,_,_,rfl,W3.ins,T.cl,T.nTh,rfl,d.th,rfl,⟨_,W3.th⟩,_,rfl,d.kh,key b l,W3.th,mx,_,_,rfl,W.ok.hv b l,?_⟩;have hnew:=Dd W.ok.f.nd hkx (λq=>V.int (a.weight+j7 a q.1:Nat));refine⟨_,rfl,_,rfl,p,_,key b l,rfl,hpv,mx,?_,some x,rfl,?_,?_⟩
   ·rw[List.length_map,gI];exact bc (lj _ _) (bc h48 (by decide))
   ·intro c o qc;rw[ag (ay qc hp1)];exact kk _ _ qc
   ·have e2:d.kf[i]=(key b l,vx):=by
     have:=aZ hi;rw[hkx]at this;exact(b9 this).symm
    rw[ao,lU _ hnew,fY hi,cf,e2];rfl
  ·rintro σ H3 ⟨v2,rfl,kk,hpv⟩;rw[gp]at hpv;refine⟨kk _ _ hfr1,?_⟩;have kH:=hback _ kk;have ep3:upd H3 d.fr (.dM d.kf) p=some (.dM (d.kf.map λq=>(q.1,V.int (a.weight+j7 a q.1:Nat)))):=by rw[ag npf];exact hpv
   generalize upd H3 d.fr (.dM d.kf)=H5 at kH ep3⊢;have W5:=W.kp kH;have hsl:d.svs.length=a.people.length:=by
    have:=cA W.spk;rw[List.length_map]at this;exact this.symm
   refine⟨_,rfl,wl,C,d.dx,_,_,rfl,W5.ins,T.cl,T.nSp,rfl,_,rfl,wl,C,d.dx,_,_,rfl,W5.ins,T.cl,T.nWe,rfl,d.sp,d.we,_,_,rfl,W5.sp,W5.we,kr (n:=a.people.length)
    (λj σ H'=>∃v2 v3 v4:Option V,σ=[some (.ref wl),some (.ref p),v2,v3,v4]/\Kp H H'/\∃kv,H' p=some (.dM kv)/\d7 a d kv (λb l=>((a.weight+ (a.frame b l).things+dZ (a.people.take j) (a.place b l):Nat):Int)))
    ⟨v2,none,none,rfl,kH,_,ep3,FT W.ok⟩ (λj σ H' hj ⟨_,_,_,_,kk,_⟩=>?_) (λσ H' ⟨_,_,_,_,kk,_⟩=>⟨_,_,(W.kp kk).sp,(W.kp kk).we,.inl (by omega)⟩) ?_ ?_⟩
   ·refine⟨_,_,d.svs[j],(a.people.map λp=>V.int (p.weight:Nat))[j]'(by rw[List.length_map];exact hj),(W.kp kk).sp,(W.kp kk).we,aZ _,aZ _⟩
   ·rintro j x σ H6 H7 hj ⟨v2,v3,v4,rfl,kk,kv,hkv,V2⟩ ⟨Tt,x1,y1,rfl,hTt,rfl,hx1,hy1⟩;have hx:=hx1 _ (W.kp kk).sp;have hy:=hy1 _ (W.kp kk).we;obtain⟨pj,hpj⟩:∃pj,a.people[j]?=some pj:=⟨_,aZ hj⟩;rw[bY,hpj]at hy;have hy':V.int (pj.weight:Nat)=y1:=b9 hy;subst hy';have mx:br H6 (nk a pj.at_) x1:=by
     obtain⟨z,hz1,hz2⟩:=dX (W.kp kk).spk (i:=j) (a:=nk a pj.at_) (by rw[bY,hpj];rfl);rw[hx]at hz1;cases hz1;exact hz2
    have kT:=Kp.laid (o:=.tup [x1,V.int (pj.weight:Nat)]) hTt;have mx7:=mx.mono λb xs q=>kT _ _ q;have hkv7:=kT _ _ hkv;refine⟨Tt,_,rfl,bo.of ao,rfl,_,_,rfl,_,_,rfl,rfl,?_⟩;refine⟨_,rfl,nk a pj.at_,.inl "ground",iJ _ _,jG,mx7,rfl,_,rfl,?_⟩;rw[jZ];have pt:∀c,dZ (a.people.take (j+1)) c=dZ (a.people.take j) c+ (if pj.at_=c+1 then pj.weight else 0):=λc=>EA a.people c j hpj;by_cases e0:pj.at_=0
    ·rw[aO e0];refine⟨v2,some x1,some (.int (pj.weight:Nat)),rfl,Kp.trans kk kT,kv,hkv7,V2.keys,λb l ht=>?_⟩;rw[V2.val b l ht,pt,if_neg (by omega)];rfl
    ·rw[ba e0];obtain⟨b,l,ht,eat⟩:∃b l,a.there b l=true/\pj.at_=a.place b l+1:=by
      rcases Wfa.pat pj (cE hpj)with z|⟨b,l,ht,z⟩
      ·exact absurd z e0
      ·exact⟨b,l,ht,z⟩
     rw[eat,dE ht]at mx7;have hlen:kv.length<sizeLine:=by
      rw[V2.len];exact bc h48 (by decide)
     refine⟨_,rfl,_,rfl,p,kv,key b l,_,rfl,.inl hkv7,mx7,V2.val b l ht,_,rfl,_,_,rfl,rfl,kv,hkv7,mx7,hlen,?_⟩;have V3:=V2.put ht ((((a.weight+ (a.frame b l).things+dZ (a.people.take j) (a.place b l):Nat):Int))+ (pj.weight:Nat));refine⟨v2,some x1,some (.int (pj.weight:Nat)),rfl,?_,_,ao,V3.keys,λb' l' ht'=>?_⟩
     ·intro c o qc;rw[ag (ay qc hp)];exact Kp.trans kk kT _ _ qc
     ·rw[V3.val b' l' ht',pt,eat];by_cases e3:b'=b/\l'=l
      ·rw[if_pos e3,e3.1,e3.2,if_pos rfl];congr 2;omega
      ·rw[if_neg e3,if_neg (λz=>e3 (ka (az ht').1 (az ht).1 (by omega)))];rfl
   ·rintro σ H6 ⟨v2,v3,v4,rfl,kk,kv,hkv,V2⟩;refine⟨_,rfl,k H6 p kv kk hp hkv ?_⟩;rw[gp]at V2;exact V2
end
abbrev sLoads:Stmt:=bq 14
theorem An{ks:List MK}(pw:ks.Pairwise (λj k=>cz j<cz k)){m:Nat}{k j:MK}(hk:ks[m]?=some k)(hj:j∈ks)(h:cz k<cz j):j∈ks.drop (m+1):=by
 obtain⟨i,hi⟩:=eV.mp hj;obtain⟨hil,ei⟩:=cX.mp hi;obtain⟨hml,em⟩:=cX.mp hk;rcases yQ i m with q|q|q
 ·have:=(qo.mp pw) i m hil hml q;rw[ei,em]at this;omega
 ·subst q;rw[hi]at hk;cases hk;omega
 ·refine eV.mpr ⟨i- (m+1),?_⟩;rw[List.getElem?_drop,show m+1+ (i- (m+1))=i by omega];exact hi
theorem EH{ks:List MK}(pw:ks.Pairwise (λj k=>cz j<cz k)){m:Nat}{k j:MK}(hk:ks[m]?=some k)(hj:j∈ks)(h:cz j<cz k):j∈ks.take m:=by
 obtain⟨i,hi⟩:=eV.mp hj;obtain⟨hil,ei⟩:=cX.mp hi;obtain⟨hml,em⟩:=cX.mp hk;rcases yQ i m with q|q|q
 ·refine eV.mpr ⟨i,?_⟩;rw[zl,if_pos q];exact hi
 ·subst q;rw[hi]at hk;cases hk;omega
 ·have:=(qo.mp pw) m i hml hil q;rw[ei,em]at this;omega
theorem BG{ks:List MK}(pw:ks.Pairwise (λj k=>cz j<cz k)){m:Nat}{k:MK}(hk:ks[m]?=some k):k∉ks.drop (m+1):=by
 intro h;obtain⟨i,hi⟩:=eV.mp h;rw[List.getElem?_drop]at hi;obtain⟨hil,ei⟩:=cX.mp hi;obtain⟨hml,em⟩:=cX.mp hk;have:=(qo.mp pw) m (m+1+i) hml hil (by omega);rw[ei,em]at this;omega
theorem Fv{ks:List MK}(pw:ks.Pairwise (λj k=>cz j<cz k)){m:Nat}{k:MK}(hk:ks[m]?=some k):k∉ks.take m:=by
 intro h;obtain⟨i,hi⟩:=eV.mp h;have hm:i<(ks.take m).length:=(cX.mp hi).1;rw[gI]at hm;rw[zl,if_pos (by omega)]at hi;obtain⟨hil,ei⟩:=cX.mp hi;obtain⟨hml,em⟩:=cX.mp hk;have:=(qo.mp pw) i m hil hml (by omega);rw[ei,em]at this;omega
theorem hW{b l b' l':Nat}(e:key b l=key b' l'):b=b'/\l=l':=by
 have:=jw e;omega
theorem kz(b l:Nat):cz (key b l)=(l:Int)*16+b:=rfl
theorem gR{ks:List MK}{k:MK}:(ks.any λj=>decide (j=k))=true↔k∈ks:=by
 rw[je];constructor
 ·rintro⟨j,hj,e⟩;rw[←ck e];exact hj
 ·exact λh=>⟨k,h,aO rfl⟩
theorem cS.len{a:Abs}(S:Sf a){kvs:List (MK×V)}(k:cS a kvs):kvs.length<=48:=by
 have:∀kvs:List (MK×V),(kvs.map (·.1)).Nodup->(∀p∈kvs,∃b l:Nat,p.1=key b l/\a.there b l=true)->∃cs:List Nat,cs.length=kvs.length/\cs.Nodup/\∀c∈cs,c<a.n/\∃b l:Nat,a.there b l=true/\c=a.place b l/\key b l∈kvs.map (·.1):=by
  intro kvs
  induction kvs with
  |nil=>exact λ_ _=>⟨[],rfl,List.nodup_nil,λc h=>nomatch h⟩
  |cons p r ih=>
   intro hn ha;rw[aW,cG]at hn;obtain⟨cs,e,nd,hc⟩:=ih hn.2 λq hq=>ha q (List.mem_cons_of_mem _ hq);obtain⟨b,l,e1,ht⟩:=ha p (List.mem_cons_self ..);have hi:=az ht;refine⟨a.place b l::cs,by simp[e],cG.mpr ⟨λhm=>?_,nd⟩,λc h=>?_⟩
   ·obtain⟨_,b',l',ht',e2,hm'⟩:=hc _ hm;obtain⟨rfl,rfl⟩:=ka hi.1 (az ht').1 e2;exact hn.1 (by rw[e1];exact hm')
   ·rcases a9.mp h with rfl|h
    ·exact⟨iE hi.1 hi.2,b,l,ht,rfl,by rw[aW,←e1];exact List.mem_cons_self ..⟩
    ·obtain⟨h1,b',l',h2,h3,h4⟩:=hc c h;exact⟨h1,b',l',h2,h3,List.mem_cons_of_mem _ h4⟩
 obtain⟨cs,e,nd,hc⟩:=this kvs k.nd k.at_;rw[←e];have h1:=jE (m:=List.range a.n) nd λx hx=>fR.mpr (hc x hx).1;rw[ji]at h1;have h2:a.n<=8*6:=Nat.mul_le_mul S.b8 S.l6;omega
theorem cS.pair{a:Abs}(S:Sf a){kvs:List (MK×V)}(k:cS a kvs):∀p∈kvs,hJ p.1:=λp hp=>by
 obtain⟨b,l,e,ht⟩:=k.at_ p hp;have:=az ht;have:=S.b8;exact⟨b,l,e,by omega,by omega⟩
theorem kc{H:Hp}{Pt p:Addr}{kv:List (MK×V)}{o:HO}(t:bx H Pt bu bz)(hp:H p=some (.dM kv)):bx (upd H p o) Pt bu bz:=by
 rcases t with t|⟨c,t,t2⟩
 ·refine .inl ?_;rw[ag (aC t hp (λz=>nomatch z))];exact t
 ·refine .inr ⟨c,?_,?_⟩
  ·rw[ag (aC t hp (λz=>nomatch z))];exact t
  ·rw[ag (aC t2 hp (λz=>nomatch z))];exact t2
theorem aj.upd{H H':Hp}{Pt p:Addr}{kv:List (MK×V)}{o:HO}(x:aj Pt H H')(hp:H p=none)(hp':H' p=some (.dM kv)):aj Pt H (upd H' p o):=
 ⟨λb u q n=>by rw[ag (ay q hp)];exact x.keep b u q n,λt=>kc (x.tab t) hp'⟩
theorem lz{H:Hp}{p:Addr}{kv:List (MK×V)}{o:HO}(hp:H p=some (.dM kv)){ks:List MK}{xs:List V}(h:bw H ks xs):bw (upd H p o) ks xs:=h.mono λb xs q=>by
 rw[ag (aC q hp (λz=>nomatch z))];exact q
def ly(K:PySem.W.Frag)(C Pt:Addr):Sp:=λvs H Q _=>∃wl a d,vs=[.ref wl]/\Sf a/\c7 K C H wl a d/\H d.fr=some (.dM d.kf)/\bx H Pt bu bz/\
 ∀H' p kv,aj Pt H H'->H p=none->H' p=some (.dM kv)->d7 a d kv (λb l=>(a.load b l:Nat))->Q (.ref p) H'
section
variable{P:Program}{w:World}{K:PySem.W.Frag}{mg:Str->Option Value}{base:Heap}
theorem mK:bj ["wall","loads","place","load","under"] ["wall"] (aM sLoads):=⟨rfl,rfl,rfl,by decide +kernel,rfl,by decide +kernel,by decide +kernel⟩
theorem zB{f fO fB fC C Pt:Addr}{fd fdO fdB fdC:FuncData}(F:a8 K "frame_loads" "frame_loads" sLoads f fd)(T:bW K mg C)(hlen:mg "len"=none)(hrev:mg "reversed"=none)
  (GO:ak P w K mg base au 1 fO fdO ["wall"] (sQ K C)) (kO:PySem.W.keepIn K (.ref fO)=true) (bO:aN K fdO ["wall"] []) (mO:mg "own_loads"=some (.ref fO))
  (GB:ak P w K mg base au 4 fB fdB ["places"] (oj Pt)) (kB:PySem.W.keepIn K (.ref fB)=true) (bB:aN K fdB ["places"] []) (mB:mg "by_levels"=some (.ref fB))
  (GC:ak P w K mg base au 2 fC fdC ["wall","place"] (nE K C Pt)) (kC:PySem.W.keepIn K (.ref fC)=true) (bC:aN K fdC ["wall","place"] []) (mC:mg "carriers"=some (.ref fC)):
  ak P w K mg base au 5 f fd ["wall"] (ly K C Pt):=by
 refine F.ok mK (λvs H Q E h=>?_) (λcdv A outer s H vs Q E hr h=>?_)
 ·obtain⟨wl,a,d,rfl,_⟩:=h;rfl
 ·obtain⟨wl,a,d,rfl,S,W,hfr,hT,k⟩:=h;have hu:=cP hr;refine⟨_,ai (aS (i:=1) mK.nd rfl (Or.inl rfl) (bg (GO.mono (k:=4) (by decide)) hr rfl mO kO bO .nil aU (ab (pv 0) af)))
   (ai (jo iB rfl (EM rfl hrev (ab (bg GB hr rfl mB kB bB .nil aU (ab (ax (pv 0) rfl) af)) af)) (cN (i:=2) mK.nd rfl (Or.inl rfl))
    (ai (aS (i:=3) mK.nd rfl (Or.inl rfl) (gb hu (pv 1) (pv 2) (λ_ _=>rfl)))
    (ai (aS (i:=4) mK.nd rfl (Or.inl rfl) (bg (GC.mono (k:=4) (by decide)) hr rfl mC kC bC .nil aU (ab (pv 0) (ab (pv 2) af))))
    (ai (aV (aR gX (cx eK rfl hlen g0 (ab (pv 4) af)) aq (b7 _))
     (aw (pJ hu (pv 1) (aL bf (pv 4) aq (λ_ _=>rfl)) (pv 3) nU (λ_ _ _=>rfl))) aY)
    (aw (aV (aR gX (cx eK rfl hlen g0 (ab (pv 4) af)) aq (b7 _))
     (ai (pJ hu (pv 1) (aL bf (pv 4) aq (λ_ _=>rfl)) (cW gQ (pv 3) (cW rM (pv 3) aq)) nU (λ_ _ _=>rfl))
     (aw (pJ hu (pv 1) (aL bf (pv 4) aq (λ_ _=>rfl)) (cW rM (pv 3) aq) nU (λ_ _ _=>rfl)))) aY))))))
   (aw (aF (pv 1)))),?_⟩
  have h48:=W.ok.f.len S;refine⟨_,rfl,wl,a,d,rfl,S,W,hfr,h48,λH1 p kv0 k1 hp ep V0=>?_⟩;have W1:=W.kp k1;refine⟨_,rfl,wl,C,d.dx,_,_,rfl,W1.ins,T.cl,T.nFr,rfl,?_⟩;have T1:=(aj.all k1).tab hT;refine⟨d.fr,d.kf,rfl,W1.fr,T1,by omega,W.ok.f.pair S,W.ok.f.nd,λH2 l ks ys hl el pm pw mk x2 T2=>?_⟩;have X2:aj Pt H H2:=⟨λb o q n=>x2 b o (k1 b o q) n,λ_=>T2⟩;have np:∀{H':Hp},bx H' Pt bu bz->H' p=some (.dM kv0)->p≠Pt:=λ{H'} t e=>by
   obtain⟨ps,e2⟩:=eU t;exact aC e e2 (λz=>nomatch z)
  have ep2:H2 p=some (.dM kv0):=x2 _ _ ep (np T1 ep);have hks:∀b l:Nat,key b l∈ks↔a.there b l=true:=λb l=>by
   rw[pm.mem_iff];constructor
   ·intro h;obtain⟨q,hq,e⟩:=bh.mp h;obtain⟨b',l',e',ht⟩:=W.ok.f.at_ q hq;obtain⟨rfl,rfl⟩:=hW (e.symm.trans e');exact ht
   ·intro ht;exact iH (show aE d.kf (key b l)=some (.int (a.frame b l).kind) by rw[W.ok.fv,if_pos ht])
  have hkk:∀j∈ks,∃b l:Nat,j=key b l/\a.there b l=true:=λj hj=>by
   obtain⟨q,hq,e⟩:=bh.mp (pm.mem_iff.mp hj);obtain⟨b',l',e',ht⟩:=W.ok.f.at_ q hq;exact⟨b',l',e.symm.trans e',ht⟩
  have hyl:ys.length=ks.length:=(cA mk).symm;refine⟨l,ys,rfl,SqL.of el,kr (n:=ys.length)
   (λi σ H'=>∃v2 v3 v4:Option V,σ=[some (.ref wl),some (.ref p),v2,v3,v4]/\aj Pt H H'/\bx H' Pt bu bz/\H' l=some (.lst ys)/\bw H' ks ys/\∃kv,H' p=some (.dM kv)/\d7 a d kv (λb l=>(Wl.part a (λb l=>(ks.drop (ys.length-i)).any λj=>decide (j=key b l)) b l:Nat)))
   ⟨none,none,none,rfl,X2,T2,el,mk,kv0,ep2,V0.keys,λb l ht=>?_⟩ (λi σ H' hi ⟨_,_,_,_,_,_,e,_⟩=>⟨hi,ys,ys[ys.length-1-i],SqL.of e,aZ _⟩) (λσ H' _=>aJ _) ?_ ?_⟩
  ·rw[V0.val b l ht,Bi (λb l=>by simp[hyl])]
  ·rintro i x σ H3 H4 hi ⟨v2,v3,v4,rfl,x3,T3,el3,mk3,kv,e3,V3⟩ ⟨rfl,hx1⟩;have hx:=hx1 ys (SqL.of el3);obtain⟨j,hj⟩:∃j,ks[ys.length-1-i]?=some j:=⟨_,aZ (by omega)⟩;obtain⟨b,l',rfl,ht⟩:=hkk j (cE hj);have mx:br H4 (key b l') x:=by
    obtain⟨z,hz1,hz2⟩:=dX mk3 hj;rw[hx]at hz1;cases hz1;exact hz2
   obtain⟨q,rfl,hq⟩:=gH mx;have en:ys.length-1-i+1=ys.length-i:=by omega
   have en2:ys.length- (i+1)=ys.length-1-i:=by omega
   have W3:=W.ext x3 hT;generalize hdn:(λb l:Nat=>(ks.drop (ys.length-i)).any λj=>decide (j=key b l))=dn at V3;have full:Wl.part a dn b l'=a.load b l':=vw ht (λx hx=>by
    have:=An pw hj ((hks _ _).mpr hx) (by rw[kz,kz];have:=(az ht).1;have:=S.b8;omega);rw[en]at this;rw[←hdn];exact gR.mpr this)
   have hnew:dn b l'=false:=by
    have:=BG pw hj;rw[en]at this;refine Bool.eq_false_iff.mpr λz=>absurd (gR.mp ?_) this;rw[←hdn]at z;exact z
   have hdn':∀x y:Nat,((ks.drop (ys.length- (i+1))).any λj=>decide (j=key x y))=true↔dn x y=true∨(x=b/\y=l'):=λx y=>by
    obtain⟨hml,em⟩:=cX.mp hj;rw[gR,←hdn,en2,List.drop_eq_getElem_cons hml,em,en,a9];show _↔((ks.drop (ys.length-i)).any λj=>decide (j=key x y))=true∨_;rw[gR];constructor
    ·rintro(z|z)
     ·exact .inr (hW z)
     ·exact .inl z
    ·rintro(z|⟨rfl,rfl⟩)
     ·exact .inr z
     ·exact .inl rfl
   have hst:=Fm (a:=a) hnew hdn';refine⟨_,rfl,_,rfl,p,kv,key b l',_,rfl,.inl e3,mx,V3.val b l' ht,?_⟩;refine⟨_,rfl,_,rfl,wl,q,a,d,b,l',rfl,W3,hq,ht,λH5 pu us k5 hpu eu mku=>?_⟩;have x5:aj Pt H H5:=x3.trans (aj.all k5);have T5:bx H5 Pt bu bz:=(aj.all k5).tab T3;have e5:=k5 _ _ e3;have l5:=k5 _ _ el3;have m5:bw H5 ks ys:=mk3.mono λb xs q=>k5 _ _ q;have npp:pu≠p:=λz=>by rw[z,e3]at hpu;cases hpu
   have nlp:l≠p:=aC el3 e3 (λz=>nomatch z);have hlen':kv.length<sizeLine:=by
    rw[V3.len];exact bc h48 (by decide)
   refine⟨_,rfl,pu,us,rfl,.inl (SqL.of eu),rfl,_,rfl,?_⟩;by_cases k2:(a.frame b l').kind=2
   ·obtain⟨b0,l0,hL,hR⟩:=S.beam b l' k2;unfold cZ at mku;rw[if_pos k2]at mku;have ek:pk ((b:Int)-1) ((l':Int)-1)=key (b-1) (l'-1):=by
     unfold key;rw[show((l'-1:Nat):Int)=(l':Int)-1 by omega,show((b-1:Nat):Int)=(b:Int)-1 by omega]
    have ek2:pk ((b:Int)+1) ((l':Int)-1)=key (b+1) (l'-1):=by
     unfold key;rw[show((l'-1:Nat):Int)=(l':Int)-1 by omega,show((b+1:Nat):Int)=(b:Int)+1 by omega]
    rw[ek,ek2]at mku;cases mku with
    |cons mt bV=>
     cases bV with
     |cons mt2 bV=>
      cases bV;rw[ba (λz=>by injection z with z;simp at z)];refine⟨_,rfl,pu,_,rfl,.inl (SqL.of eu),rfl,_,rfl,?_⟩;rw[aO (by rfl)];refine⟨_,rfl,_,rfl,pu,_,0,_,rfl,rfl,SqL.of eu,aK (j:=0) rfl,p,kv,key (b-1) (l'-1),_,rfl,.inl e5,mt,V3.val (b-1) (l'-1) hL,_,rfl,_,rfl,_,_,rfl,rfl,⟨by decide,by decide⟩,_,_,rfl,rfl,_,_,rfl,rfl,kv,e5,mt,hlen',?_⟩;have V4:=V3.put hL ((Wl.part a dn (b-1) (l'-1):Nat)+ ((Wl.part a dn b l':Nat)- (Wl.part a dn b l':Nat)/2:Int):Int);have e6:upd H5 p (.dM (bt kv (key (b-1) (l'-1)) (.int ((Wl.part a dn (b-1) (l'-1):Nat)+ ((Wl.part a dn b l':Nat)- (Wl.part a dn b l':Nat)/2:Int):Int)))) p=_:=ao;have mt6:=mt2.mono (H':=upd H5 p (.dM (bt kv (key (b-1) (l'-1)) (.int ((Wl.part a dn (b-1) (l'-1):Nat)+ ((Wl.part a dn b l':Nat)- (Wl.part a dn b l':Nat)/2:Int):Int))))) λb xs q=>by
       rw[ag (aC q e5 (λz=>nomatch z))];exact q
      have hl4:(bt kv (key (b-1) (l'-1)) (.int ((Wl.part a dn (b-1) (l'-1):Nat)+ ((Wl.part a dn b l':Nat)- (Wl.part a dn b l':Nat)/2:Int):Int))).length<sizeLine:=by
       rw[V4.len];exact bc h48 (by decide)
      refine⟨_,rfl,_,rfl,pu,_,1,_,rfl,rfl,SqL.of (by rw[ag npp];exact eu),aK (j:=1) rfl,p,_,key (b+1) (l'-1),_,rfl,.inl e6,mt6,V4.val (b+1) (l'-1) hR,_,rfl,_,_,rfl,rfl,⟨by decide,by decide⟩,_,_,rfl,rfl,_,e6,mt6,hl4,?_⟩;have V5:=V4.put hR (((if b+1=b-1/\l'-1=l'-1 then((Wl.part a dn (b-1) (l'-1):Nat)+ ((Wl.part a dn b l':Nat)- (Wl.part a dn b l':Nat)/2:Int):Int)else(Wl.part a dn (b+1) (l'-1):Nat))+ (Wl.part a dn b l':Nat)/2:Int));refine⟨_,_,_,rfl,(x5.upd hp e5).upd hp e6,kc (kc T5 e5) e6,by rw[ag nlp,ag nlp];exact l5,lz e6 (lz e5 m5),_,ao,V5.keys,λb' y' ht'=>?_⟩;rw[V5.val b' y' ht',hst,full,if_neg (show¬(b+1=b-1/\l'-1=l'-1) by omega)];by_cases e:b'=b+1/\y'=l'-1
      ·rw[if_pos e,if_neg (by omega),if_neg (by omega),if_pos ⟨k2,e.1,by omega⟩,e.1,e.2];congr 1
      ·rw[if_neg e];by_cases e':b'=b-1/\y'=l'-1
       ·rw[if_pos e',if_neg (by omega),if_pos ⟨k2,by omega,by omega⟩,if_neg (by omega),e'.1,e'.2];congr 2;omega
       ·rw[if_neg e',if_neg (by omega),if_neg (by omega),if_neg (by omega)];rfl
   ·have k1':(a.frame b l').kind=1:=by
     have:=dc.mp ht;have:=S.kind b l';omega
    by_cases l0:l'=0
    ·unfold cZ at mku;rw[if_neg k2,if_pos l0]at mku;cases mku;rw[ba (λz=>by injection z with z;simp at z)];refine⟨_,rfl,pu,[],rfl,.inl (SqL.of eu),rfl,_,rfl,?_⟩;rw[ba (λz=>by injection z with z;simp at z)];refine⟨_,_,_,rfl,x5,T5,l5,m5,kv,e5,V3.keys,λb' y' ht'=>?_⟩;rw[V3.val b' y' ht',hst,if_neg (by omega),if_neg (by omega),if_neg (by omega)];rfl
    ·unfold cZ at mku;rw[if_neg k2,if_neg l0]at mku;have hb':a.there b (l'-1)=true:=S.stands b (l'-1) (by rw[show l'-1+1=l' by omega];exact k1');have ek:pk (b:Int) ((l':Int)-1)=key b (l'-1):=by
      unfold key;rw[show((l'-1:Nat):Int)=(l':Int)-1 by omega]
     rw[ek]at mku;cases mku with
     |cons mt bV=>
      cases bV;rw[aO (by rfl)];refine⟨_,rfl,_,rfl,pu,_,0,_,rfl,rfl,SqL.of eu,aK (j:=0) rfl,p,kv,key b (l'-1),_,rfl,.inl e5,mt,V3.val b (l'-1) hb',_,rfl,_,_,rfl,rfl,kv,e5,mt,hlen',?_⟩;refine⟨_,rfl,pu,_,rfl,.inl (SqL.of (by rw[ag npp];exact eu)),rfl,_,rfl,?_⟩;rw[ba (λz=>by injection z with z;simp at z)];have V4:=V3.put hb' ((Wl.part a dn b (l'-1):Nat)+ (Wl.part a dn b l':Nat):Int);refine⟨_,_,_,rfl,x5.upd hp e5,kc T5 e5,by rw[ag nlp];exact l5,lz e5 m5,_,ao,V4.keys,λb' y' ht'=>?_⟩;rw[V4.val b' y' ht',hst,full];by_cases e:b'=b/\y'=l'-1
      ·rw[if_pos e,if_pos ⟨k1',e.1,by omega⟩,if_neg (by omega),if_neg (by omega),e.1,e.2];congr 1
      ·rw[if_neg e,if_neg (by omega),if_neg (by omega),if_neg (by omega)];rfl
  ·rintro σ H3 ⟨v2,v3,v4,rfl,x3,T3,_,_,kv,e3,V3⟩;refine⟨_,rfl,k H3 p kv x3 hp e3 ⟨V3.keys,λb l ht=>?_⟩⟩;rw[V3.val b l ht,vw ht (λx hx=>?_)];simp only[Nat.sub_self,List.drop_zero];exact gR.mpr ((hks _ _).mpr hx)
end
abbrev sGL:Stmt:=bq 15
abbrev sMuch:Stmt:=bq 16
def iq(K:PySem.W.Frag)(C Pt:Addr)(g:Abs->Bool):Sp:=λvs H Q _=>∃wl a d,vs=[.ref wl]/\Sf a/\c7 K C H wl a d/\H d.fr=some (.dM d.kf)/\bx H Pt bu bz/\
 ∀H',aj Pt H H'->Q (.bl (g a)) H'
theorem d7.at_{a:Abs}{d:WD}{kv:List (MK×V)}{g:Nat->Nat->Int}(D:bU a d)(x:d7 a d kv g){q:MK×V}(hq:q∈kv):∃b l:Nat,q.1=key b l/\a.there b l=true/\q.2= .int (g b l):=by
 have h1:q.1∈d.kf.map (·.1):=by rw[←x.keys];exact bh.mpr ⟨q,hq,rfl⟩
 obtain⟨r,hr,e⟩:=bh.mp h1;obtain⟨b,l,e1,ht⟩:=D.f.at_ r hr;have e2:q.1=key b l:=e.symm.trans e1;refine⟨b,l,e2,ht,?_⟩;have h3:=gw (by rw[x.keys];exact D.f.nd) (show(q.1,q.2)∈kv from hq);rw[e2,x.val b l ht]at h3;exact(b9 h3).symm
theorem jB:∀(kvs:List (MK×V)) {k:MK} {v:V},aE kvs k=some v->(k,v)∈kvs
 | [],_,_,h=>nomatch h
 |p::r,k,v,h=>by
  by_cases e:p.1=k
  ·rw[fg e]at h;cases h;rw[←e];exact List.mem_cons_self ..
  ·rw[eJ e]at h;exact List.mem_cons_of_mem _ (jB r h)
theorem d7.has{a:Abs}{d:WD}{kv:List (MK×V)}{g:Nat->Nat->Int}(x:d7 a d kv g){b l:Nat}(ht:a.there b l=true):(key b l,V.int (g b l))∈kv:=by
 have h:=x.val b l ht;obtain⟨q,hq,e⟩:=bh.mp (iH h);have:=jB kv h;exact this
theorem d7.get{a:Abs}{d:WD}{kv:List (MK×V)}{g:Nat->Nat->Int}(D:bU a d)(x:d7 a d kv g)(b l:Nat):(aE kv (key b l)).getD (.int 0)= .int (if a.there b l=true then g b l else 0):=by
 by_cases ht:a.there b l=true
 ·rw[x.val b l ht,if_pos ht];rfl
 ·rw[if_neg ht,ku]
  ·rfl
  ·rw[x.keys];intro h;obtain⟨r,hr,e⟩:=bh.mp h;obtain⟨b',l',e1,ht'⟩:=D.f.at_ r hr;obtain⟨rfl,rfl⟩:=hW (e.symm.trans e1);exact ht ht'
def gU:V->Int
 |.int i=>i
 |_=>0
theorem lx{X:Cx}{K:PySem.W.Frag}{e:Expr}{f:Str}{ta:TE}{pos:Pos}(hK:X.K=K)(he:PE X e ta)(hb:attributeBase e f X.env (eval e X.env)=eval e X.env):PE X (.Attribute e f pos) (yI K ta f):=hK▸ax he hb
theorem om{X:Cx}{K:PySem.W.Frag}{es:List Expr}{k:Nat}{t:iP}{n:Nat}{pos:Pos}(hK:X.K=K)(hc:X.calm=true)(h:lq X es t)
  (hn:(assignEach es X.env).length=n:=by rfl) (hst:(assignEach es X.env).findIdx? (·.1)=none:=by rfl):PG X (.Tuple es k pos) (yq K n t):=hK▸xp hc h hn hst
section
variable{P:Program}{w:World}{K:PySem.W.Frag}{mg:Str->Option Value}{base:Heap}
def qT(K:PySem.W.Frag)(C:Addr):Sp:=λvs H Q _=>∃wl p a d kv,vs=[.ref wl,.ref p]/\Sf a/\c7 K C H wl a d/\Rd H p (.dM kv)/\d7 a d kv (λb l=>(a.load b l:Nat))/\
 ∀H' q,Kp H H'->H q=none->H' q=some (.lst ((List.range a.bays).map λb=>V.int (a.load b 0:Nat)))->Q (.ref q) H'
theorem rq:bj ["wall","loads","bay"] ["wall","loads"] (aM sGL):=⟨rfl,rfl,rfl,by decide +kernel,rfl,by decide +kernel,by decide +kernel⟩
theorem Eb{f C:Addr}{fd:FuncData}(F:a8 K "ground_loads" "ground_loads" sGL f fd)(T:bW K mg C)(hrng:mg "range"=none):ak P w K mg base au 1 f fd ["wall","loads"] (qT K C):=by
 refine F.ok rq (λvs H Q E h=>?_) (λcdv A outer s H vs Q E hr h=>?_)
 ·obtain⟨wl,p,a,d,kv,rfl,_⟩:=h;rfl
 ·obtain⟨wl,p,a,d,kv,rfl,S,W,hp,V0,k⟩:=h;have hu:=cP hr;refine⟨_,aw (aF (eG (own:=[("bay",2)]) rfl rq.nd (uf rfl hrng (ab (ax (pv 0) rfl) af)) (eB rfl) (λs H C cl fp=>cN (i:=2) rq.nd rfl (Or.inl rfl)) (λs H C cl fp=>i3)
   (λs H C' cl fp=>jq hu (pv 1) (c8 (ab (pv 2) (ab aq af))) aq ⟨rfl,rfl,rfl,rfl⟩))),?_⟩
  refine⟨_,rfl,wl,C,d.dx,_,_,rfl,W.ins,T.cl,T.nB,rfl,_,rfl,?_,?_,λD hD=>?_⟩
  ·have:=S.b8;omega
  ·have:=S.b8;omega
  refine ee (n:=a.bays) (λi H'=>Kp H H'/\H' D=some (.lst ((List.range i).map λb=>V.int (a.load b 0:Nat))))
   ⟨Kp.laid hD,ao⟩ (λi H' hi ⟨kk,_⟩=>?_) (λH' ⟨kk,_⟩=>?_) ?_ ?_
  ·show i<(a.bays:Int).toNat;omega
  ·show(a.bays:Int).toNat<=a.bays;omega
  ·rintro b x H6 H7 hb ⟨kk,hD3⟩ ⟨rfl,rfl⟩;have rdk:∀{H':Hp},Kp H H'->Rd H' p (.dM kv):=λ{H'} q=>by
    rcases hp with r|⟨o',r⟩
    ·exact .inl (q _ _ r)
    ·exact .inr ⟨o',q _ _ r⟩
   refine⟨rfl,?_⟩;refine⟨_,rfl,p,rfl,⟨kv,rdk kk⟩,_,rfl,(by show 2<=sizeLine;decide),λt ht=>?_⟩;have k8:=Kp.trans kk (Kp.laid (o:=.tup [.int (0+ (b:Int)),.int 0]) ht);have hD8:=Kp.laid (o:=.tup [.int (0+ (b:Int)),.int 0]) ht _ _ hD3;refine⟨kv,key b 0,rdk k8,⟨t,rfl,by rw[ao,Int.zero_add];rfl⟩,?_⟩;rw[V0.get W.ok b 0];refine⟨_,hD8,?_,?_,?_⟩
   ·rw[List.length_map,ji];exact qi hb (bc S.b8 (by decide))
   ·intro c o qc;rw[ag (ay qc hD)];exact k8 _ _ qc
   ·rw[ao,ud,cf];have:(if a.there b 0=true then((a.load b 0:Nat):Int)else 0)=((a.load b 0:Nat):Int):=by
     by_cases q:a.there b 0=true
     ·rw[if_pos q]
     ·rw[if_neg q,rX (by simpa using q)];rfl
    rw[this];rfl
  ·rintro H6 ⟨kk,hD3⟩;exact k H6 D kk hD hD3
theorem jn:bj ["wall","loads","load","limit"] ["wall"] (aM sMuch):=⟨rfl,rfl,rfl,by decide +kernel,rfl,by decide +kernel,by decide +kernel⟩
theorem z9{f fL fG C Pt:Addr}{fd fdL fdG:FuncData}(F:a8 K "too_much" "too_much" sMuch f fd)(T:bW K mg C)(hany:mg "any"=none)(hzip:mg "zip"=none)
  (GL:ak P w K mg base au 5 fL fdL ["wall"] (ly K C Pt)) (kL:PySem.W.keepIn K (.ref fL)=true) (bL:aN K fdL ["wall"] []) (mL:mg "frame_loads"=some (.ref fL))
  (GG:ak P w K mg base au 1 fG fdG ["wall","loads"] (qT K C)) (kG:PySem.W.keepIn K (.ref fG)=true) (bG:aN K fdG ["wall","loads"] []) (mG:mg "ground_loads"=some (.ref fG)):
  ak P w K mg base au 6 f fd ["wall"] (iq K C Pt λa=>!a.safe):=by
 refine F.ok jn (λvs H Q E h=>?_) (λcdv A outer s H vs Q E hr h=>?_)
 ·obtain⟨wl,a,d,rfl,_⟩:=h;rfl
 ·obtain⟨wl,a,d,rfl,S,W,hfr,hT,k⟩:=h;have hu:=cP hr;refine⟨_,ai (aS (i:=1) jn.nd rfl (Or.inl rfl) (bg GL hr rfl mL kL bL .nil aU (ab (pv 0) af)))
   (ai (aV (eO (mh (cx (nz rfl) rfl hany boot_any (ab (eG (own:=[("load",2)]) rfl jn.nd (yB (pv 1)) (eB rfl) (λs H C cl fp=>cN (i:=2) jn.nd rfl (Or.inl rfl)) (λs H C cl fp=>i3)
    (λs H C' cl fp=>iY iX (pv 2) (lx (K:=K) rfl (pv 0) rfl) (b7 _))) af)))) (aw (aF qw)) aY)
   (aw (aF (cx (nz rfl) rfl hany boot_any (ab (eG (own:=[("load",2),("limit",3)]) rfl jn.nd (sP rfl hzip (ab (bg (GG.mono (by decide)) hr rfl mG kG bG .nil aU (ab (pv 0) (ab (pv 1) af))) (ab (ax (pv 0) rfl) af))) (eB rfl)
    (λs H C cl fp=>om (K:=K) (n:=2) rfl rfl (gT (cN (i:=2) jn.nd rfl (Or.inl rfl)) (gT (cN (i:=3) jn.nd rfl (Or.inl rfl)) lH))) (λs H C cl fp=>i3)
    (λs H C' cl fp=>iY iX (pv 2) (pv 3) (b7 _))) af))))),?_⟩
  refine⟨_,rfl,wl,a,d,rfl,S,W,hfr,hT,λH1 p kv x1 hp ep V0=>?_⟩;have W1:=W.ext x1 hT;have T1:=x1.tab hT;refine⟨p,.dM kv,ep,True.intro,λod=>?_⟩;have npw:∀{c:Addr} {o:HO},H1 c=some o->(∀kv,o≠.dM kv)->upd H1 p (.frz od (.dM kv)) c=some o:=λ{c o} h n=>by
   rw[ag (aC h ep (n kv))];exact h
  have ep2:upd H1 p (.frz od (.dM kv)) p=some (.frz od (.dM kv)):=ao;have hback:∀H',Kp (upd H1 p (.frz od (.dM kv))) H'->Kp H1 (upd H' p (.dM kv)):=λH' kk=>Kp.unlock ep kk;have ins2:=npw W1.ins (λ_ z=>nomatch z);generalize upd H1 p (.frz od (.dM kv))=H2 at ep2 hback ins2⊢;refine⟨_,rfl,p,od,kv,rfl,ep2,λD hD=>?_⟩;have h48:=W.ok.f.len S;refine ee (n:=kv.length) (λi H'=>Kp H2 H'/\H' D=some (.lst ((kv.take i).map λq=>V.bl (decide ((a.most:Int)<gU q.2)))))
   ⟨Kp.laid hD,ao⟩ (λi H' hi ⟨kk,_⟩=>⟨kk _ _ ep2,hi⟩) (λH' ⟨kk,_⟩=>⟨kk _ _ ep2,aJ _⟩) ?_ ?_
  ·rintro i x H3 H4 hi ⟨kk,hD2⟩ ⟨rfl,kx,hkx⟩;obtain⟨b,l,e1,ht,e2⟩:=V0.at_ W.ok (cE hkx);dsimp only at e2;subst e2;refine⟨rfl,?_⟩;refine⟨_,rfl,_,rfl,wl,C,d.dx,_,_,rfl,kk _ _ ins2,T.cl,T.nM,rfl,_,_,rfl,rfl,_,hD2,?_,?_,?_⟩
   ·rw[List.length_map,gI,V0.len];exact bc (lj _ _) (bc h48 (by decide))
   ·intro c o qc;rw[ag (ay qc hD)];exact kk _ _ qc
   ·have e2:kv[i]=(kx,V.int (a.load b l:Nat)):=by
     have:=aZ hi;rw[hkx]at this;exact(b9 this).symm
    rw[ao,fY hi,cf,e2];rfl
  ·rintro H3 ⟨kk,hD2⟩;rw[gp]at hD2;refine⟨D,kv.map λq=>decide ((a.most:Int)<gU q.2),rfl,SqL.of (by rw[hD2,List.map_map];rfl),kk _ _ ep2,?_⟩;have k3:=hback _ kk;generalize upd H3 p (.dM kv)=H5 at k3⊢;have x5:=x1.trans (aj.all (Pt:=Pt) k3);rw[qh];have W5:=W1.kp k3;have ep5:=k3 _ _ ep;refine⟨_,rfl,?_⟩;refine bZ (λe=>?_) (λe=>?_)
   ·obtain⟨q,hq,e⟩:=je.mp e;obtain⟨b,l,e1,ht,e2⟩:=V0.at_ W.ok hq;have e3:=ck e;rw[e2]at e3;have e4:(a.most:Int)<(a.load b l:Nat):=e3;have:a.safe=false:=by
     cases q:a.safe with
     |false=>rfl
     |true=>have:=(jb.mp q).1 b l (az ht).1 (az ht).2;omega
    have:=k H5 x5;simp only[*]at this;exact this
   ·have hsm:∀b l,a.load b l<=a.most:=λb l=>by
     by_cases ht:a.there b l=true
     ·by_cases z:a.load b l<=a.most
      ·exact z
      ·exfalso;refine e (je.mpr ⟨_,V0.has ht,aO ?_⟩);show(a.most:Int)<(a.load b l:Nat);omega
     ·rw[rX (by simpa using ht)];omega
    refine⟨_,rfl,_,rfl,wl,p,a,d,kv,rfl,S,W5,.inl ep5,V0,λH6 g6 k6 hg6 eg6=>?_⟩;have W6:=W5.kp k6;have hsoil:∀{b:Nat},b<a.bays->(a.soil.map λn=>V.int (n:Nat))[b]?=some (V.int (a.soil.getD b 0:Nat)):=λ{b} hb=>by
     rw[bY,du,aZ (by rw[S.slen];exact hb)];rfl
    have hload:∀{b:Nat},b<a.bays->((List.range a.bays).map λb=>V.int (a.load b 0:Nat))[b]?=some (V.int (a.load b 0:Nat)):=λ{b} hb=>by
     rw[bY,yP hb];rfl
    refine⟨_,rfl,wl,C,d.dx,_,_,rfl,W6.ins,T.cl,T.nG,rfl,g6,d.g,_,_,rfl,SqL.of eg6,W6.g,λD2 hD2=>?_⟩;refine ee (n:=a.bays) (λi H'=>Kp H6 H'/\H' D2=some (.lst ((List.range i).map λb=>V.bl (decide ((a.soil.getD b 0:Nat)<a.load b 0)))))
     ⟨Kp.laid hD2,ao⟩ (λi H' hi ⟨kk,_⟩=>⟨_,_,_,_,SqL.of (kk _ _ eg6),(W6.kp kk).g,hload hi,hsoil hi⟩) (λH' ⟨kk,_⟩=>⟨_,_,SqL.of (kk _ _ eg6),(W6.kp kk).g,.inl (by rw[List.length_map,ji];exact aJ _)⟩) ?_ ?_
    ·rintro b x H7 H8 hb ⟨kk,hD3⟩ ⟨Tt,x1,y1,rfl,hTt,rfl,hx1,hy1⟩;have hx:=hx1 _ (SqL.of (kk _ _ eg6));have hy:=hy1 _ (W6.kp kk).g;rw[hload hb]at hx;rw[hsoil hb]at hy;obtain rfl:=b9 hx;obtain rfl:=b9 hy;have kT:=Kp.laid (o:=.tup [V.int (a.load b 0:Nat),V.int (a.soil.getD b 0:Nat)]) hTt;refine⟨Tt,_,rfl,bo.of ao,rfl,_,_,rfl,_,_,rfl,rfl,rfl,?_⟩;refine⟨_,rfl,_,rfl,_,_,rfl,rfl,_,kT _ _ hD3,?_,?_,?_⟩
     ·rw[List.length_map,ji];exact qi hb (bc S.b8 (by decide))
     ·intro c o qc;rw[ag (ay qc hD2)];exact kT _ _ (kk _ _ qc)
     ·rw[ao,ud,cf];have:decide ((a.soil.getD b 0:Int)<(a.load b 0:Int))=decide (a.soil.getD b 0<a.load b 0):=decide_eq_decide.mpr (by omega);dsimp only;rw[this];rfl
    ·rintro H7 ⟨kk,hD3⟩;refine⟨D2,(List.range a.bays).map λb=>decide (a.soil.getD b 0<a.load b 0),rfl,SqL.of (by rw[hD3,List.map_map];rfl),?_⟩;have:=k H7 (x5.trans (aj.all (Kp.trans k6 kk)));have e9:(!a.safe)=(List.range a.bays).any λb=>decide (a.soil.getD b 0<a.load b 0):=by
      rw[fj,je];constructor
      ·intro h;have h2:¬a.safe=true:=by simpa using h
       rw[jb]at h2;by_cases q:∃b,b<a.bays/\a.soil.getD b 0<a.load b 0
       ·obtain⟨b,q1,q2⟩:=q;exact⟨b,fR.mpr q1,aO q2⟩
       ·exact absurd ⟨λb l _ _=>hsm b l,λb hb=>by
         by_cases z:a.load b 0<=a.soil.getD b 0
         ·exact z
         ·exact absurd ⟨b,hb,by omega⟩ q⟩ h2
      ·rintro⟨b,h1,h2⟩;cases q:a.safe with
       |false=>rfl
       |true=>have:=(jb.mp q).2 b (fR.mp h1);have:=ck h2;omega
     rw[qh];dsimp only at this;rw[e9]at this;exact this
end
abbrev sHigh:Stmt:=bq 17
structure qI(a:Abs)(kv:List (MK×V))(g:Nat->Nat->Int):Prop where
 keys:cS a kv
 val:∀b l,a.there b l=true->aE kv (key b l)=some (.int (g b l))
theorem qI.at_{a:Abs}{kv:List (MK×V)}{g:Nat->Nat->Int}(x:qI a kv g){q:MK×V}(hq:q∈kv):∃b l:Nat,q.1=key b l/\a.there b l=true/\q.2= .int (g b l):=by
 obtain⟨b,l,e1,ht⟩:=x.keys.at_ q hq;refine⟨b,l,e1,ht,?_⟩;have h3:=gw x.keys.nd (show(q.1,q.2)∈kv from hq);rw[e1,x.val b l ht]at h3;exact(b9 h3).symm
def eI(a:Abs):MK->Nat
 |.inr [.inl b,.inl l]=>a.high b.toNat l.toNat
 |_=>0
theorem BE{a:Abs}(S:Sf a){b l:Nat}(ht:a.there b l=true){j:MK}(h:j∈cZ a b l):∃b',j=key b' (l-1)/\a.there b' (l-1)=true/\0<l:=by
 unfold cZ at h;by_cases k2:(a.frame b l).kind=2
 ·obtain⟨b0,l0,hL,hR⟩:=S.beam b l k2;rw[if_pos k2]at h;rcases a9.mp h with e|h
  ·refine⟨b-1,?_,hL,l0⟩;rw[e];unfold key;rw[show((l-1:Nat):Int)=(l:Int)-1 by omega,show((b-1:Nat):Int)=(b:Int)-1 by omega]
  ·refine⟨b+1,?_,hR,l0⟩;rw[cF.mp h];unfold key;rw[show((l-1:Nat):Int)=(l:Int)-1 by omega,show((b+1:Nat):Int)=(b:Int)+1 by omega]
 ·have k1':(a.frame b l).kind=1:=by
   have:=dc.mp ht;have:=S.kind b l;omega
  rw[if_neg k2]at h;by_cases l0:l=0
  ·rw[if_pos l0]at h;cases h
  ·rw[if_neg l0]at h;refine⟨b,?_,S.stands b (l-1) (by rw[show l-1+1=l by omega];exact k1'),by omega⟩;rw[cF.mp h];unfold key;rw[show((l-1:Nat):Int)=(l:Int)-1 by omega]
theorem Ai{a:Abs}(S:Sf a){b l:Nat}(ht:a.there b l=true)(hn:(a.frame b l).tie=false):
  1+ (fy (λi=>((cZ a b l).map λj=>(eI a j:Int)).getD i 0) ((cZ a b l).map λj=>(eI a j:Int)).length).getD 0=(a.high b l:Nat):=by
 unfold cZ;by_cases k2:(a.frame b l).kind=2
 ·obtain⟨b0,l0,hL,hR⟩:=S.beam b l k2;rw[if_pos k2];obtain⟨m,rfl⟩:∃m,l=m+1:=⟨l-1,by omega⟩;have e1:eI a (pk ((b:Int)-1) (((m+1:Nat):Int)-1))=a.high (b-1) m:=by
   show a.high _ _=_;rw[show((b:Int)-1).toNat=b-1 by omega,show(((m+1:Nat):Int)-1).toNat=m by omega]
  have e2:eI a (pk ((b:Int)+1) (((m+1:Nat):Int)-1))=a.high (b+1) m:=by
   show a.high _ _=_;rw[show((b:Int)+1).toNat=b+1 by omega,show(((m+1:Nat):Int)-1).toNat=m by omega]
  rw[aW,aW,List.map_nil,e1,e2];show 1+ (if(a.high (b+1) m:Int)>(a.high (b-1) m:Int)then(a.high (b+1) m:Int)else(a.high (b-1) m:Int))=(a.high b (m+1):Nat);rw[show a.high b (m+1)=max (a.high (b-1) m) (a.high (b+1) m)+1 from by
   show(if _ then _ else _)=_;rw[hn,if_neg (by decide),if_pos k2]]
  split<;>omega
 ·have k1':(a.frame b l).kind=1:=by
   have:=dc.mp ht;have:=S.kind b l;omega
  rw[if_neg k2];by_cases l0:l=0
  ·subst l0;rw[if_pos rfl];show(1:Int)+0=_;rw[show a.high b 0=1 from by
    show(if _ then _ else _)=_;rw[hn];rfl]
   rfl
  ·rw[if_neg l0];obtain⟨m,rfl⟩:∃m,l=m+1:=⟨l-1,by omega⟩;have e1:eI a (pk (b:Int) (((m+1:Nat):Int)-1))=a.high b m:=by
    show a.high _ _=_;rw[show((b:Int)).toNat=b by omega,show(((m+1:Nat):Int)-1).toNat=m by omega]
   rw[aW,List.map_nil,e1];show 1+ (a.high b m:Int)=(a.high b (m+1):Nat);rw[show a.high b (m+1)=a.high b m+1 from by
    show(if _ then _ else _)=_;rw[hn,if_neg (by decide),if_neg k2]]
   omega
theorem Eo{a:Abs}{b l:Nat}(h:(a.frame b l).tie=true):a.high b l=0:=by
 cases l with
 |zero=>show(if _ then _ else _)=_;rw[h];rfl
 |succ m=>show(if _ then _ else _)=_;rw[h];rfl
def so(K:PySem.W.Frag)(C Pt:Addr):Sp:=λvs H Q _=>∃wl a d,vs=[.ref wl]/\Sf a/\c7 K C H wl a d/\H d.fr=some (.dM d.kf)/\bx H Pt bu bz/\
 ∀H' p kv,aj Pt H H'->H p=none->H' p=some (.dM kv)->qI a kv (λb l=>(a.high b l:Nat))->Q (.ref p) H'
section
variable{P:Program}{w:World}{K:PySem.W.Frag}{mg:Str->Option Value}{base:Heap}
theorem lX:bj ["wall","heights","place","under"] ["wall"] (aM sHigh):=⟨rfl,rfl,rfl,by decide +kernel,rfl,by decide +kernel,by decide +kernel⟩
theorem Cv{f fB fC C Pt:Addr}{fd fdB fdC:FuncData}(F:a8 K "frame_heights" "frame_heights" sHigh f fd)(T:bW K mg C)(hmax:mg "max"=none)
  (GB:ak P w K mg base au 4 fB fdB ["places"] (oj Pt)) (kB:PySem.W.keepIn K (.ref fB)=true) (bB:aN K fdB ["places"] []) (mB:mg "by_levels"=some (.ref fB))
  (GC:ak P w K mg base au 2 fC fdC ["wall","place"] (nE K C Pt)) (kC:PySem.W.keepIn K (.ref fC)=true) (bC:aN K fdC ["wall","place"] []) (mC:mg "carriers"=some (.ref fC)):
  ak P w K mg base au 5 f fd ["wall"] (so K C Pt):=by
 refine F.ok lX (λvs H Q E h=>?_) (λcdv A outer s H vs Q E hr h=>?_)
 ·obtain⟨wl,a,d,rfl,_⟩:=h;rfl
 ·obtain⟨wl,a,d,rfl,S,W,hfr,hT,k⟩:=h;have hu:=cP hr;refine⟨_,ai (aS (i:=1) lX.nd rfl (Or.inr rfl) j9)
   (ai (jo iB rfl (iu (bg GB hr rfl mB kB bB .nil aU (ab (ax (pv 0) rfl) af))) (cN (i:=2) lX.nd rfl (Or.inl rfl))
    (aw (aV (aR (eE hu) (pv 2) (ax (pv 0) rfl) (by with_unfolding_all rfl))
     (aw (gN hu (pv 1) (pv 2) aq rfl))
     (aw (gN hu (pv 1) (pv 2) (cW gc aq (yn (E9 rfl) rfl hmax boot_max
      (ab (eG (own:=[("under",3)]) rfl lX.nd (iu (bg (GC.mono (k:=4) (by decide)) hr rfl mC kC bC .nil aU (ab (pv 0) (ab (pv 2) af)))) (eB rfl) (λs H C cl fp=>cN (i:=3) lX.nd rfl (Or.inl rfl)) (λs H C cl fp=>i3)
       (λs H C' cl fp=>gb hu (pv 1) (pv 3) (λ_ _=>rfl))) af) (wt aq vy))) rfl)))))
   (aw (aF (pv 1)))),?_⟩
  have h48:=W.ok.f.len S;intro p hp;have k1:Kp H (upd H p (.dM [])):=Kp.laid hp;have ep:upd H p (.dM []) p=some (.dM []):=ao;generalize upd H p (.dM [])=H1 at k1 ep⊢;have W1:=W.kp k1;have T1:=(aj.all k1).tab hT;refine⟨_,rfl,wl,C,d.dx,_,_,rfl,W1.ins,T.cl,T.nFr,rfl,d.fr,d.kf,rfl,W1.fr,T1,by omega,W.ok.f.pair S,W.ok.f.nd,λH2 l ks ys hl el pm pw mk x2 T2=>?_⟩;have X2:aj Pt H H2:=⟨λb o q n=>x2 b o (k1 b o q) n,λ_=>T2⟩;have ep2:H2 p=some (.dM []):=by
   obtain⟨ps,e2⟩:=eU T1;exact x2 _ _ ep (aC ep e2 (λz=>nomatch z))
  have hks:∀b l:Nat,key b l∈ks↔a.there b l=true:=λb l=>by
   rw[pm.mem_iff];constructor
   ·intro h;obtain⟨q,hq,e⟩:=bh.mp h;obtain⟨b',l',e',ht⟩:=W.ok.f.at_ q hq;obtain⟨rfl,rfl⟩:=hW (e.symm.trans e');exact ht
   ·intro ht;exact iH (show aE d.kf (key b l)=some (.int (a.frame b l).kind) by rw[W.ok.fv,if_pos ht])
  have hkk:∀j∈ks,∃b l:Nat,j=key b l/\a.there b l=true:=λj hj=>by
   obtain⟨q,hq,e⟩:=bh.mp (pm.mem_iff.mp hj);obtain⟨b',l',e',ht⟩:=W.ok.f.at_ q hq;exact⟨b',l',e.symm.trans e',ht⟩
  have hnd:ks.Nodup:=pm.symm.nodup W.ok.f.nd;have hyl:ys.length=ks.length:=(cA mk).symm;have hk48:ks.length<=48:=by rw[pm.length_eq,List.length_map];exact h48
  refine⟨l,rfl,⟨ys,SqL.of el⟩,kr (n:=ks.length)
   (λi σ H'=>∃v2 v3:Option V,σ=[some (.ref wl),some (.ref p),v2,v3]/\aj Pt H H'/\bx H' Pt bu bz/\H' l=some (.lst ys)/\bw H' ks ys/\H' p=some (.dM ((ks.take i).map λk=>(k,V.int (eI a k:Nat)))))
   ⟨none,none,rfl,X2,T2,el,mk,ep2⟩ (λi σ H' hi ⟨_,_,_,_,_,e,_⟩=>⟨ys,ys[i]'(by omega),SqL.of e,aZ _⟩) (λσ H' ⟨_,_,_,_,_,e,_⟩=>⟨ys,SqL.of e,by omega⟩) ?_ ?_⟩
  ·rintro i x σ H3 H4 hi ⟨v2,v3,rfl,x3,T3,el3,mk3,e3⟩ ⟨rfl,hx1⟩;have hx:=hx1 ys (SqL.of el3);obtain⟨j,hj⟩:∃j,ks[i]?=some j:=⟨_,aZ hi⟩;obtain⟨b,l',rfl,ht⟩:=hkk j (cE hj);have mx:br H4 (key b l') x:=by
    obtain⟨z,hz1,hz2⟩:=dX mk3 hj;rw[hx]at hz1;cases hz1;exact hz2
   obtain⟨q,rfl,hq⟩:=gH mx;have W3:=W.ext x3 hT;have hnew:aE ((ks.take i).map λk=>(k,V.int (eI a k:Nat))) (key b l')=none:=ku (by
    rw[List.map_map];intro h;obtain⟨z,hz,e⟩:=bh.mp h;exact Fv pw hj (by rw[←show z=key b l' from e];exact hz))
   have hlen':((ks.take i).map λk=>(k,V.int (eI a k:Nat))).length<sizeLine:=by
    rw[List.length_map,gI];exact bc (lj _ _) (bc hk48 (by decide))
   have hput:bt ((ks.take i).map λk=>(k,V.int (eI a k:Nat))) (key b l') (.int (a.high b l':Nat))=(ks.take (i+1)).map λk=>(k,V.int (eI a k:Nat)):=by
    have e2:ks[i]=key b l':=by
     have:=aZ hi;rw[hj]at this;exact(b9 this).symm
    rw[lU _ hnew,fY hi,cf,e2];rfl
   have nlp:l≠p:=aC el3 e3 (λz=>nomatch z);refine⟨_,rfl,_,rfl,wl,C,d.dx,_,_,rfl,W3.ins,T.cl,T.nTi,rfl,d.ti,d.kt,key b l',rfl,W3.ti,mx,_,rfl,?_⟩;rw[W.ok.tv b l'];cases q2:(a.frame b l').tie with
   |true=>
    refine⟨_,rfl,_,rfl,p,_,key b l',rfl,e3,mx,hlen',?_⟩;refine⟨_,_,rfl,x3.upd hp e3,kc T3 e3,by rw[ag nlp];exact el3,lz e3 mk3,?_⟩;rw[ao,←hput,Eo q2];rfl
   |false=>
    refine⟨_,rfl,_,rfl,wl,q,a,d,b,l',rfl,W3,hq,ht,λH5 pu us k5 hpu eu mku=>⟨pu,rfl,⟨us,SqL.of eu⟩,λD hD=>?_⟩⟩;have e5:=k5 _ _ e3;have hul:us.length=(cZ a b l').length:=(cA mku).symm;have hc2:(cZ a b l').length<=2:=by
     unfold cZ;split
     ·exact aJ _
     ·split
      ·exact da _
      ·exact Nat.le_succ _
    refine ee (n:=(cZ a b l').length) (λi H'=>Kp H5 H'/\H' D=some (.lst (((cZ a b l').take i).map λj=>V.int (eI a j:Nat))))
     ⟨Kp.laid hD,ao⟩ (λi H' hi ⟨kk,_⟩=>⟨us,us[i]'(by omega),SqL.of (kk _ _ eu),aZ _⟩) (λH' ⟨kk,_⟩=>⟨us,SqL.of (kk _ _ eu),by omega⟩) ?_ ?_
    ·rintro m x H6 H7 hm ⟨kk,hD2⟩ ⟨rfl,hx2⟩;have hx:=hx2 us (SqL.of (kk _ _ eu));obtain⟨j,hj'⟩:∃j,(cZ a b l')[m]?=some j:=⟨_,aZ hm⟩;have mj:br H7 j x:=by
      obtain⟨z,hz1,hz2⟩:=dX mku hj';rw[hx]at hz1;cases hz1;exact hz2.mono λb xs q=>kk _ _ q
     obtain⟨b',e',ht',l0⟩:=BE S ht (cE hj');have hin:j∈ks.take i:=by
      rw[e'];refine EH pw hj ((hks _ _).mpr ht') ?_;rw[kz,kz];have:=(az ht').1;have:=S.b8;omega
     have hv:aE ((ks.take i).map λk=>(k,V.int (eI a k:Nat))) j=some (.int (eI a j:Nat)):=by
      refine gw ?_ (bh.mpr ⟨j,hin,rfl⟩);rw[List.map_map];have:(ks.take i).Nodup:=hnd.sublist (List.take_sublist ..);rw[show((λx:MK×V=>x.1)∘λk:MK=>(k,V.int (eI a k:Nat)))=id from rfl,List.map_id];exact this
     refine⟨rfl,?_⟩;refine⟨_,rfl,_,rfl,p,_,j,_,rfl,.inl (kk _ _ e5),mj,hv,_,hD2,?_,?_,?_⟩
     ·rw[List.length_map,gI];exact bc (lj _ _) (bc hc2 (by decide))
     ·intro c o qc;rw[ag (ay qc hD)];exact kk _ _ qc
     ·have e2:(cZ a b l')[m]=j:=by
       have:=aZ hm;rw[hj']at this;exact(b9 this).symm
      rw[ao,fY hm,cf,e2];rfl
    ·rintro H6 ⟨kk,hD2⟩;rw[gp]at hD2;refine⟨D,(cZ a b l').map λj=>(eI a j:Int),0,rfl,rfl,SqL.of (by rw[hD2,List.map_map];rfl),_,_,rfl,rfl,?_⟩;have k6:Kp H4 H6:=Kp.trans k5 kk;have e6:=k6 _ _ e3;have mk6:bw H6 ks ys:=mk3.mono λb xs q=>k6 _ _ q;refine⟨_,rfl,_,rfl,p,_,key b l',rfl,e6,⟨q,rfl,k6 _ _ hq⟩,hlen',?_⟩;refine⟨_,_,rfl,(x3.trans (aj.all k6)).upd hp e6,kc ((aj.all k6).tab T3) e6,by rw[ag nlp];exact k6 _ _ el3,lz e6 mk6,?_⟩;rw[ao,←hput,←Ai S ht q2]
  ·rintro σ H3 ⟨v2,v3,rfl,x3,T3,_,_,e3⟩;rw[gp]at e3;have hmap:(ks.map λk=>(k,V.int (eI a k:Nat))).map (·.1)=ks:=by
    rw[List.map_map];exact List.map_id' ks
   refine⟨_,rfl,k H3 p _ x3 hp e3 ⟨⟨?_,?_⟩,λb l ht=>?_⟩⟩
   ·rw[hmap];exact hnd
   ·intro q hq;obtain⟨j,hj,e⟩:=bh.mp hq;obtain⟨b,l,e1,ht⟩:=hkk j hj;exact⟨b,l,by rw[←e];exact e1,ht⟩
   ·refine gw ?_ (bh.mpr ⟨key b l,(hks b l).mpr ht,rfl⟩);rw[hmap];exact hnd
end
abbrev sTooHigh:Stmt:=bq 18
section
variable{P:Program}{w:World}{K:PySem.W.Frag}{mg:Str->Option Value}{base:Heap}
theorem oV:bj ["wall","heights","height"] ["wall"] (aM sTooHigh):=⟨rfl,rfl,rfl,by decide +kernel,rfl,by decide +kernel,by decide +kernel⟩
theorem BD{f fL C Pt:Addr}{fd fdL:FuncData}(F:a8 K "too_high" "too_high" sTooHigh f fd)(T:bW K mg C)(hany:mg "any"=none)
  (GL:ak P w K mg base au 5 fL fdL ["wall"] (so K C Pt)) (kL:PySem.W.keepIn K (.ref fL)=true) (bL:aN K fdL ["wall"] []) (mL:mg "frame_heights"=some (.ref fL)):
  ak P w K mg base au 6 f fd ["wall"] (iq K C Pt λa=>!a.steady):=by
 refine F.ok oV (λvs H Q E h=>?_) (λcdv A outer s H vs Q E hr h=>?_)
 ·obtain⟨wl,a,d,rfl,_⟩:=h;rfl
 ·obtain⟨wl,a,d,rfl,S,W,hfr,hT,k⟩:=h;have hu:=cP hr;refine⟨_,ai (aS (i:=1) oV.nd rfl (Or.inl rfl) (bg GL hr rfl mL kL bL .nil aU (ab (pv 0) af)))
   (aw (aF (mh (cx (nz rfl) rfl hany boot_any (ab (eG (own:=[("height",2)]) rfl oV.nd (yB (pv 1)) (eB rfl) (λs H C cl fp=>cN (i:=2) oV.nd rfl (Or.inl rfl)) (λs H C cl fp=>i3)
    (λs H C' cl fp=>iY iX (pv 2) (lx (K:=K) rfl (pv 0) rfl) (b7 _))) af))))),?_⟩
  refine⟨_,rfl,wl,a,d,rfl,S,W,hfr,hT,λH1 p kv x1 hp ep V0=>?_⟩;have W1:=W.ext x1 hT;refine⟨p,.dM kv,ep,True.intro,λod=>?_⟩;have npw:∀{c:Addr} {o:HO},H1 c=some o->(∀kv,o≠.dM kv)->upd H1 p (.frz od (.dM kv)) c=some o:=λ{c o} h n=>by
   rw[ag (aC h ep (n kv))];exact h
  have ep2:upd H1 p (.frz od (.dM kv)) p=some (.frz od (.dM kv)):=ao;have hback:∀H',Kp (upd H1 p (.frz od (.dM kv))) H'->Kp H1 (upd H' p (.dM kv)):=λH' kk=>Kp.unlock ep kk;have ins2:=npw W1.ins (λ_ z=>nomatch z);generalize upd H1 p (.frz od (.dM kv))=H2 at ep2 hback ins2⊢;refine⟨_,rfl,p,od,kv,rfl,ep2,λD hD=>?_⟩;have h48:=V0.keys.len S;refine ee (n:=kv.length) (λi H'=>Kp H2 H'/\H' D=some (.lst ((kv.take i).map λq=>V.bl (decide ((a.free:Int)<gU q.2)))))
   ⟨Kp.laid hD,ao⟩ (λi H' hi ⟨kk,_⟩=>⟨kk _ _ ep2,hi⟩) (λH' ⟨kk,_⟩=>⟨kk _ _ ep2,aJ _⟩) ?_ ?_
  ·rintro i x H3 H4 hi ⟨kk,hD2⟩ ⟨rfl,kx,hkx⟩;obtain⟨b,l,e1,ht,e2⟩:=V0.at_ (cE hkx);dsimp only at e2;subst e2;refine⟨rfl,?_⟩;refine⟨_,rfl,_,rfl,wl,C,d.dx,_,_,rfl,kk _ _ ins2,T.cl,T.nF,rfl,_,_,rfl,rfl,_,hD2,?_,?_,?_⟩
   ·rw[List.length_map,gI];exact bc (lj _ _) (bc h48 (by decide))
   ·intro c o qc;rw[ag (ay qc hD)];exact kk _ _ qc
   ·have e2:kv[i]=(kx,V.int (a.high b l:Nat)):=by
     have:=aZ hi;rw[hkx]at this;exact(b9 this).symm
    rw[ao,fY hi,cf,e2];rfl
  ·rintro H3 ⟨kk,hD2⟩;rw[gp]at hD2;refine⟨D,kv.map λq=>decide ((a.free:Int)<gU q.2),rfl,SqL.of (by rw[hD2,List.map_map];rfl),kk _ _ ep2,?_⟩;have k3:=hback _ kk;have:=k _ (x1.trans (aj.all (Pt:=Pt) k3));have e9:(!a.steady)=kv.any λq=>decide ((a.free:Int)<gU q.2):=by
    rw[fj,je];constructor
    ·intro h;have h2:¬a.steady=true:=by simpa using h
     rw[ia]at h2;by_cases q:∃b l,a.there b l=true/\a.free<a.high b l
     ·obtain⟨b,l,q1,q2⟩:=q;refine⟨_,jB kv (V0.val b l q1),aO ?_⟩;show(a.free:Int)<(a.high b l:Nat);omega
     ·exact absurd (λb l ht=>by
       by_cases z:a.high b l<=a.free
       ·exact z
       ·exact absurd ⟨b,l,ht,by omega⟩ q) h2
    ·rintro⟨q,h1,h2⟩;obtain⟨b,l,e1,ht,e2⟩:=V0.at_ h1;have e3:=ck h2;rw[e2]at e3;have e4:(a.free:Int)<(a.high b l:Nat):=e3;cases q:a.steady with
     |false=>rfl
     |true=>have:=ia.mp q b l ht;omega
   rw[qh];dsimp only at this;rw[e9]at this;exact this
end
abbrev sNext:Stmt:=bq 19
def uK(K:PySem.W.Frag)(C:Addr):Sp:=λvs H Q _=>∃wl sv a d x,vs=[.ref wl,sv]/\Sf a/\c7 K C H wl a d/\bQ a x/\br H (nk a x) sv/\
 ∀H' p ys (ns:List Nat),Kp H H'->H p=none->H' p=some (.lst ys)->bw H' (ns.map (nk a)) ys->(∀y,y∈ns↔y∈a.steps x)->Q (.ref p) H'
theorem eY{H:Hp}:∀{ks:List MK} {ys:List V} {k:MK} {y:V},bw H ks ys->br H k y->bw H (ks++[k]) (ys++[y])
 |_,_,_,_,.nil,m=>.cons m .nil
 |_,_,_,_,.cons m0 t,m=>.cons m0 (eY t m)
theorem gv{H:Hp}{D:Addr}{ys zs:List V}(hD:H D=some (.lst ys)){ks:List MK}{xs:List V}(h:bw H ks xs):bw (upd H D (.lst zs)) ks xs:=h.mono λb xs q=>by
 rw[ag (aC q hD (λz=>nomatch z))];exact q
theorem xy{a:Abs}{d:WD}(D:bU a d)(b l:Nat):(aE d.kf (pk ((b:Int)-1) l)).isSome=decide (0<b/\a.there (b-1) l=true):=by
 by_cases b0:0<b
 ·rw[show pk ((b:Int)-1) l=key (b-1) l by unfold key;rw[show((b-1:Nat):Int)=(b:Int)-1 by omega],D.fv];by_cases h:a.there (b-1) l=true
  ·rw[if_pos h,aO ⟨b0,h⟩];rfl
  ·rw[if_neg h,ba (λz=>h z.2)];rfl
 ·rw[FI D.f (λb' l' _ e=>by have:=(jw e).1;omega),ba (λz=>b0 z.1)];rfl
theorem u5{a:Abs}{d:WD}(D:bU a d)(b l:Nat):(aE d.kf (pk ((b:Int)+1) l)).isSome=a.there (b+1) l:=by
 rw[show pk ((b:Int)+1) l=key (b+1) l from rfl,D.fv];cases h:a.there (b+1) l<;>rfl
theorem gC{a:Abs}{d:WD}(D:bU a d)(b l:Nat):(aE d.kl (key b l)).isSome=(a.frame b l).ladder:=by
 rw[D.lv];cases h:(a.frame b l).ladder<;>rfl
section
variable{P:Program}{w:World}{K:PySem.W.Frag}{mg:Str->Option Value}{base:Heap}
theorem ko:bj ["wall","spot","sides","found","bay","side"] ["wall","spot"] (aM sNext):=⟨rfl,rfl,rfl,by decide +kernel,rfl,by decide +kernel,by decide +kernel⟩
theorem BJ{f fA fB C:Addr}{fd fdA fdB:FuncData}(F:a8 K "next_spots" "next_spots" sNext f fd)(T:bW K mg C)(hrng:mg "range"=none)
  (FA:a8 K "above" "above" sAbove fA fdA) (bA:aN K fdA ["place"] []) (mA:mg "above"=some (.ref fA)) (FB:a8 K "below" "below" sBelow fB fdB) (bB:aN K fdB ["place"] []) (mB:mg "below"=some (.ref fB)):
  ak P w K mg base au 2 f fd ["wall","spot"] (uK K C):=by
 have GA:ak P w K mg base au 1 fA fdA ["place"] sk:=uT FA;have GB:ak P w K mg base au 1 fB fdB ["place"] jW:=sh FB;obtain⟨tg,hgr⟩:=T.ground;refine F.ok ko (λvs H Q E h=>?_) (λcdv A outer s H vs Q E hr h=>?_)
 ·obtain⟨wl,sv,a,d,x,rfl,_⟩:=h;rfl
 ·obtain⟨wl,sv,a,d,x,rfl,S,W,hx,mx,k⟩:=h;have hu:=cP hr;have hu64:(A.deeper (envOfC "next_spots" (aM sNext) s.heap.objs.size f cdv)).units+64<cLine:=by have:=hr.un;omega
  refine⟨_,ai (aV (aR (mJ hu64) (pv 1) (aP (v:=.str "ground") rfl hgr ⟨tg,rfl⟩) (b7 _))
    (aw (aF (eG (own:=[("bay",4)]) rfl ko.nd (uf rfl hrng (ab (ax (pv 0) rfl) af)) (eB rfl) (λs H C cl fp=>cN (i:=4) ko.nd rfl (Or.inl rfl))
     (λs H C cl fp=>hU (aR (eE hu) (c8 (ab (pv 4) (ab aq af))) (lx (K:=K) rfl (pv 0) rfl) (by with_unfolding_all rfl)))
     (λs H C' cl fp=>c8 (ab (pv 4) (ab aq af)))))) aY)
   (ai (aS (i:=2) ko.nd rfl (Or.inl rfl) (cu (ab (c8 (ab (cW gQ (aL cR (pv 1) aq (λ_ _=>rfl)) aq) (ab (aL cR (pv 1) aq (λ_ _=>rfl)) af)))
    (ab (c8 (ab (cW gc (aL cR (pv 1) aq (λ_ _=>rfl)) aq) (ab (aL cR (pv 1) aq (λ_ _=>rfl)) af))) af))))
   (ai (zY (i:=3) (own:=[("side",5)]) rfl ko.nd rfl rfl rfl (iu (pv 2)) (eB rfl) (λs H C cl fp=>cN (i:=5) ko.nd rfl (Or.inl rfl))
     (λs H C cl fp=>hU (aR (eE hu) (pv 5) (lx (K:=K) rfl (pv 0) rfl) (by with_unfolding_all rfl)))
     (λs H C' cl fp=>pv 5))
   (ai (aV (aR (eE hu) (bg GA hr rfl mA FA.kp bA .nil aU (ab (pv 1) af)) (ax (pv 0) rfl) (by with_unfolding_all rfl))
    (aw (fx (ja jQ nu nv jS (pv 3) (ab (bg GA hr rfl mA FA.kp bA .nil aU (ab (pv 1) af)) af)))) aY)
   (ai (aV (aR (eE hu) (pv 1) (ax (pv 0) rfl) (by with_unfolding_all rfl))
    (aw (fx (ja jQ nu nv jS (pv 3) (ab (rj (aR gX (aL cR (pv 1) aq (λ_ _=>rfl)) aq (b7 _)) (aP (v:=.str "ground") rfl hgr ⟨tg,rfl⟩) (bg GB hr rfl mB FB.kp bB .nil aU (ab (pv 1) af))) af)))) aY)
   (aw (aF (pv 3))))))),?_⟩
  refine⟨_,rfl,nk a x,.inl "ground",iJ _ _,jG,mx,rfl,_,rfl,?_⟩;rw[jZ];rcases hx with rfl|⟨b,l,ht,rfl⟩
  ·rw[aO rfl];refine⟨_,rfl,wl,C,d.dx,_,_,rfl,W.ins,T.cl,T.nB,rfl,_,rfl,?_,?_,λD hD=>?_⟩
   ·have:=S.b8;omega
   ·have:=S.b8;omega
   refine ee (n:=a.bays) (λi H'=>Kp H H'/\∃ys,H' D=some (.lst ys)/\bw H' (((List.range i).filter λb=>(a.frame b 0).ladder).map λb=>key b 0) ys)
    ⟨Kp.laid hD,[],ao,.nil⟩ (λi H' hi _=>?_) (λH' _=>?_) ?_ ?_
   ·show i<(a.bays:Int).toNat;omega
   ·show(a.bays:Int).toNat<=a.bays;omega
   ·rintro b x H6 H7 hb ⟨kk,ys,hD3,mk3⟩ ⟨rfl,rfl⟩;refine⟨rfl,?_⟩;refine⟨_,rfl,(by show 2<=sizeLine;decide),λt ht=>?_⟩;have kt:=Kp.laid (o:=.tup [.int (0+ (b:Int)),.int 0]) ht;have k8:=Kp.trans kk kt;refine⟨_,rfl,wl,C,d.dx,_,_,rfl,k8 _ _ W.ins,T.cl,T.nLa,rfl,d.la,d.kl,key b 0,rfl,(W.kp k8).la,⟨t,rfl,by rw[ao,Int.zero_add];rfl⟩,_,rfl,?_⟩;rw[gC W.ok];have hr1:(List.range (b+1)).filter (λb=>(a.frame b 0).ladder)=(List.range b).filter (λb=>(a.frame b 0).ladder)++(if(a.frame b 0).ladder=true then[b]else[]):=by
     rw[ud,iA,dA,iC]
    cases q:(a.frame b 0).ladder with
    |true=>
     rw[q,if_pos rfl]at hr1;refine⟨_,rfl,(by show 2<=sizeLine;decide),λt2 ht2=>?_⟩;have kt2:=Kp.laid (o:=.tup [.int (0+ (b:Int)),.int 0]) ht2;have hD9:=kt2 _ _ (kt _ _ hD3);refine⟨ys,hD9,?_,?_,ys++[.ref t2],ao,?_⟩
     ·rw[←cA mk3,List.length_map];exact bc (fX ..) (by rw[ji];exact qi hb (bc S.b8 (by decide)))
     ·intro c o qc;rw[ag (ay qc hD)];exact kt2 _ _ (k8 _ _ qc)
     ·rw[hr1,cf];refine gv hD9 (eY (mk3.mono λb xs q=>kt2 _ _ (kt _ _ q)) ⟨t2,rfl,?_⟩);rw[ao,Int.zero_add];rfl
    |false=>
     rw[q,if_neg (by decide),List.append_nil]at hr1;refine⟨k8,ys,kt _ _ hD3,?_⟩;rw[hr1];exact mk3.mono λb xs q=>kt _ _ q
   ·rintro H6 ⟨kk,ys,hD3,mk3⟩;refine k H6 D ys (((List.range a.bays).filter λb=>(a.frame b 0).ladder).map λb=>a.place b 0+1) kk hD hD3 ?_ ?_
    ·rw[List.map_map];refine(mU λb hb=>?_)▸mk3;have:=(cV.mp hb).2;exact(dE (S.lads.1 b 0 this)).symm
    ·intro y;rw[j8,bh];constructor
     ·rintro⟨b,hb,rfl⟩;have:=(cV.mp hb).2;exact⟨b,S.lads.1 b 0 this,this,rfl⟩
     ·rintro⟨b,ht,hl,rfl⟩;exact⟨b,cV.mpr ⟨fR.mpr (az ht).1,hl⟩,rfl⟩
  ·rw[ba (by omega)];rw[dE ht]at mx;obtain⟨q,rfl,hq⟩:=gH mx;refine⟨_,rfl,q,_,0,_,rfl,rfl,bo.of hq,aK (j:=0) rfl,_,_,rfl,rfl,_,rfl,q,_,1,_,rfl,rfl,bo.of hq,aK (j:=1) rfl,(by show 2<=sizeLine;decide),λt1 ht1=>?_⟩;have k1:Kp H (upd H t1 (.tup [.int (b-1),.int l])):=Kp.laid ht1;have hq1:=k1 _ _ hq;refine⟨_,rfl,q,_,0,_,rfl,rfl,bo.of hq1,aK (j:=0) rfl,_,_,rfl,rfl,_,rfl,q,_,1,_,rfl,rfl,bo.of hq1,aK (j:=1) rfl,(by show 2<=sizeLine;decide),λt2 ht2=>?_⟩;have k2:=Kp.laid (o:=.tup [.int (b+1),.int l]) ht2;refine⟨(by show 2<=sizeLine;decide),λp hp=>?_⟩;have k3:=Kp.laid (o:=.lst [.ref t1,.ref t2]) hp;have K3:Kp H _:=Kp.trans (Kp.trans k1 k2) k3;have hsd:upd (upd (upd H t1 (.tup [.int (b-1),.int l])) t2 (.tup [.int (b+1),.int l])) p (.lst [.ref t1,.ref t2]) p=some (.lst [.ref t1,.ref t2]):=ao;have hmk:bw (upd (upd (upd H t1 (.tup [.int (b-1),.int l])) t2 (.tup [.int (b+1),.int l])) p (.lst [.ref t1,.ref t2])) [pk ((b:Int)-1) l,pk ((b:Int)+1) l] [.ref t1,.ref t2]:=.cons ⟨t1,rfl,k3 _ _ (k2 _ _ ao)⟩ (.cons ⟨t2,rfl,k3 _ _ ao⟩ .nil);generalize upd (upd (upd H t1 (.tup [.int (b-1),.int l])) t2 (.tup [.int (b+1),.int l])) p (.lst [.ref t1,.ref t2])=H3 at K3 hsd hmk⊢;clear k1 k2 k3 hq1 hp ht1 ht2;refine⟨_,rfl,p,rfl,⟨_,SqL.of hsd⟩,λD hD3=>?_⟩;have hD:H D=none:=by
    cases e:H D with
    |none=>rfl
    |some o=>rw[K3 _ _ e]at hD3;cases hD3
   refine ee (n:=2) (λi H'=>Kp H3 H'/\∃ys,H' D=some (.lst ys)/\bw H' (([pk ((b:Int)-1) l,pk ((b:Int)+1) l].take i).filter λk=>(aE d.kf k).isSome) ys)
    ⟨Kp.laid hD3,[],ao,.nil⟩ (λi H' hi ⟨kk,_⟩=>⟨_,_,SqL.of (kk _ _ hsd),aZ hi⟩) (λH' ⟨kk,_⟩=>⟨_,SqL.of (kk _ _ hsd),aJ _⟩) ?_ ?_
   ·rintro i x H6 H7 hi ⟨kk,ys,hD4,mk4⟩ ⟨rfl,hx2⟩;have hx:=hx2 _ (SqL.of (kk _ _ hsd));obtain⟨j,hj⟩:∃j,[pk ((b:Int)-1) l,pk ((b:Int)+1) l][i]?=some j:=⟨_,aZ hi⟩;have mj:br H7 j x:=by
     obtain⟨z,hz1,hz2⟩:=dX hmk hj;rw[hx]at hz1;cases hz1;exact hz2.mono λb xs q=>kk _ _ q
    have W7:=W.kp (Kp.trans K3 kk);have ej:([pk ((b:Int)-1) l,pk ((b:Int)+1) l].take (i+1)).filter (λk=>(aE d.kf k).isSome)=([pk ((b:Int)-1) l,pk ((b:Int)+1) l].take i).filter (λk=>(aE d.kf k).isSome)++(if(aE d.kf j).isSome=true then[j]else[]):=by
     have e2:[pk ((b:Int)-1) l,pk ((b:Int)+1) l][i]=j:=by
      have:=aZ (l:=[pk ((b:Int)-1) l,pk ((b:Int)+1) l]) hi;rw[hj]at this;exact(b9 this).symm
     rw[fY hi,iA,e2,dA,iC]
    refine⟨rfl,?_⟩;refine⟨_,rfl,_,rfl,wl,C,d.dx,_,_,rfl,W7.ins,T.cl,T.nFr,rfl,d.fr,d.kf,j,rfl,W7.fr,mj,_,rfl,?_⟩;cases q:(aE d.kf j).isSome with
    |true=>
     rw[q,if_pos rfl]at ej;refine⟨_,rfl,ys,hD4,?_,?_,ys++[x],ao,?_⟩
     ·rw[←cA mk4];exact bc (fX ..) (bc (jj ..) (by show 2<sizeLine;decide))
     ·intro c o qc;rw[ag (ay qc hD3)];exact kk _ _ qc
     ·rw[ej];exact gv hD4 (eY mk4 mj)
    |false=>
     rw[q,if_neg (by decide),List.append_nil]at ej;refine⟨kk,ys,hD4,?_⟩;rw[ej];exact mk4
   ·rintro H4 ⟨kk,ys,hD4,mk4⟩;have K4:Kp H H4:=Kp.trans K3 kk;clear kk hD3 hsd hmk K3;generalize hn0:(if 0<b/\a.there (b-1) l=true then[a.place (b-1) l+1]else[])++(if a.there (b+1) l=true then[a.place (b+1) l+1]else[])=ns0;have m0:∀y,y∈ns0↔(0<b/\a.there (b-1) l=true/\y=a.place (b-1) l+1)∨(a.there (b+1) l=true/\y=a.place (b+1) l+1):=λy=>by
     rw[←hn0,cK];have one:∀(p:Prop) [Decidable p] (z:Nat),(y∈if p then[z]else[])↔(p/\y=z):=by
      intro p _ z;by_cases h:p<;>simp[h]
     rw[one,one,and_assoc]
    have l2:ns0.length<=2:=by
     rw[←hn0,df];have:∀(p:Prop) [Decidable p] (z:Nat),(if p then[z]else[]).length<=1:=by
      intro p _ z;by_cases h:p<;>simp[h]
     have h1:=this (0<b/\a.there (b-1) l=true) (a.place (b-1) l+1);have h2:=this (a.there (b+1) l=true) (a.place (b+1) l+1);omega
    have mk0:bw H4 (ns0.map (nk a)) ys:=by
     have:([pk ((b:Int)-1) l,pk ((b:Int)+1) l].take 2).filter (λk=>(aE d.kf k).isSome)=ns0.map (nk a):=by
      show[pk ((b:Int)-1) l,pk ((b:Int)+1) l].filter (λk=>(aE d.kf k).isSome)=_;rw[←hn0,dA,dA,iC,xy W.ok,u5 W.ok,cf];by_cases hL:0<b/\a.there (b-1) l=true
      ·have eL:nk a (a.place (b-1) l+1)=pk ((b:Int)-1) l:=by
        rw[dE hL.2];unfold key;rw[show((b-1:Nat):Int)=(b:Int)-1 by omega]
       rw[aO hL,if_pos rfl,if_pos hL,aW,eL,List.map_nil];by_cases hR:a.there (b+1) l=true
       ·rw[if_pos hR,if_pos hR,aW,dE hR];rfl
       ·rw[if_neg hR,if_neg hR];rfl
      ·rw[ba hL,if_neg (by decide),if_neg hL];by_cases hR:a.there (b+1) l=true
       ·rw[if_pos hR,if_pos hR,aW,dE hR];rfl
       ·rw[if_neg hR,if_neg hR];rfl
     rw[←this];exact mk4
    clear mk4 hn0;refine⟨_,rfl,q,b,l,rfl,K4 _ _ hq,λt3 ht3=>?_⟩;have kt3:=Kp.laid (o:=.tup [.int b,.int ((l:Int)+1)]) ht3;have K3:=Kp.trans K4 kt3;refine⟨_,rfl,wl,C,d.dx,_,_,rfl,(W.kp K3).ins,T.cl,T.nLa,rfl,d.la,d.kl,key b (l+1),rfl,(W.kp K3).la,⟨t3,rfl,ao⟩,_,rfl,?_⟩;rw[gC W.ok];cases qu:(a.frame b (l+1)).ladder with
    |true=>
     refine⟨_,rfl,.inl ⟨rfl,_,SqL.of (kt3 _ _ hD4)⟩,?_⟩;refine⟨_,rfl,q,b,l,rfl,K3 _ _ hq,λt5 ht5=>?_⟩;have kt5:=Kp.laid (o:=.tup [.int b,.int ((l:Int)+1)]) ht5;have K5':=Kp.trans K3 kt5;have hD5':=kt5 _ _ (kt3 _ _ hD4);refine⟨D,_,_,rfl,rfl,hD5',(by rw[←cA mk0,List.length_map];exact bc l2 (by decide)),?_⟩;have mk5:bw (upd (upd (upd H4 t3 (.tup [.int b,.int ((l:Int)+1)])) t5 (.tup [.int b,.int ((l:Int)+1)])) D (.lst (ys++[.ref t5]))) ((ns0++[a.place b (l+1)+1]).map (nk a)) (ys++[.ref t5]):=by
      rw[cf];refine gv hD5' (eY (mk0.mono λb xs q=>kt5 _ _ (kt3 _ _ q)) ?_);rw[dE (S.lads.1 b (l+1) qu)];exact⟨t5,rfl,ao⟩
     have K5:Kp H (upd (upd (upd H4 t3 (.tup [.int b,.int ((l:Int)+1)])) t5 (.tup [.int b,.int ((l:Int)+1)])) D (.lst (ys++[.ref t5]))):=λc o qc=>by
      rw[ag (ay qc hD)];exact K5' _ _ qc
     have hD5:upd (upd (upd H4 t3 (.tup [.int b,.int ((l:Int)+1)])) t5 (.tup [.int b,.int ((l:Int)+1)])) D (.lst (ys++[.ref t5])) D=some (.lst (ys++[.ref t5])):=ao;generalize upd (upd (upd H4 t3 (.tup [.int b,.int ((l:Int)+1)])) t5 (.tup [.int b,.int ((l:Int)+1)])) D (.lst (ys++[.ref t5]))=H5 at mk5 K5 hD5⊢;generalize hys5:ys++[.ref t5]=ys5 at mk5 hD5;have mem5:∀y,y∈ns0++[a.place b (l+1)+1]↔(0<b/\a.there (b-1) l=true/\y=a.place (b-1) l+1)∨(a.there (b+1) l=true/\y=a.place (b+1) l+1)∨((a.frame b (l+1)).ladder=true/\y=a.place b (l+1)+1):=λy=>by
      rw[cK,m0,cF,qu,or_assoc];simp
     have hn5:(ns0++[a.place b (l+1)+1]).length<=3:=by rw[df];show ns0.length+1<=3;omega
     generalize ns0++[a.place b (l+1)+1]=ns5 at mk5 mem5 hn5;refine⟨_,rfl,_,rfl,wl,C,d.dx,_,_,rfl,(W.kp K5).ins,T.cl,T.nLa,rfl,d.la,d.kl,key b l,rfl,(W.kp K5).la,⟨q,rfl,K5 _ _ hq⟩,_,rfl,?_⟩;rw[gC W.ok];have hl5:ys5.length<sizeLine:=by
      rw[←cA mk5,List.length_map];exact bc hn5 (by decide)
     cases qd:(a.frame b l).ladder with
     |false=>
      refine⟨_,rfl,k H5 D ys5 ns5 K5 hD hD5 mk5 λy=>?_⟩;rw[eT (az ht).1,mem5,qd];constructor
      ·exact .inr
      ·rintro(⟨z,_⟩|z)
       ·cases z
       ·exact z
     |true=>
      refine⟨_,rfl,.inl ⟨rfl,_,SqL.of hD5⟩,?_⟩;refine⟨_,rfl,q,_,1,_,rfl,rfl,bo.of (K5 _ _ hq),aK (j:=1) rfl,rfl,_,rfl,?_⟩;refine bZ (λe=>?_) (λe=>?_)
      ·have l0:l=0:=by
        have:=ck e;injection this with this;omega
       refine⟨D,_,_,rfl,rfl,hD5,hl5,?_⟩;refine⟨_,rfl,k _ D _ (ns5++[0]) (λc o qc=>by rw[ag (ay qc hD)];exact K5 _ _ qc) hD ao ?_ λy=>?_⟩
       ·rw[cf];exact gv hD5 (eY mk5 (by show br H5 (nk a 0) (.str "ground");rfl))
       ·rw[eT (az ht).1,cK,mem5,if_pos l0,cF];constructor
        ·rintro(z|z)
         ·exact .inr z
         ·exact .inl ⟨qd,z⟩
        ·rintro(z|z)
         ·exact .inr z.2
         ·exact .inl z
      ·have l0:¬l=0:=λz=>e (aO (by rw[z];rfl));have hbe:a.there b (l-1)=true:=S.lads.2 b (l-1) (by rw[show l-1+1=l by omega];exact qd);refine⟨_,rfl,q,b,l,rfl,K5 _ _ hq,λt4 ht4=>?_⟩;have kt4:=Kp.laid (o:=.tup [.int b,.int ((l:Int)-1)]) ht4;have hD6:=kt4 _ _ hD5;refine⟨D,_,_,rfl,rfl,hD6,hl5,?_⟩;refine⟨_,rfl,k _ D _ (ns5++[a.place b (l-1)+1]) (λc o qc=>by rw[ag (ay qc hD)];exact kt4 _ _ (K5 _ _ qc)) hD ao ?_ λy=>?_⟩
       ·rw[cf];refine gv hD6 (eY (mk5.mono λb xs q=>kt4 _ _ q) ?_);rw[dE hbe];refine⟨t4,rfl,?_⟩;rw[ao];show some (HO.tup [.int b,.int ((l:Int)-1)])=some (.tup [.int b,.int ((l-1:Nat):Int)]);rw[show((l-1:Nat):Int)=(l:Int)-1 by omega]
       ·rw[eT (az ht).1,cK,mem5,if_neg l0,cF];constructor
        ·rintro(z|z)
         ·exact .inr z
         ·exact .inl ⟨qd,z⟩
        ·rintro(z|z)
         ·exact .inr z.2
         ·exact .inl z
    |false=>
     have K5:=K3;have hD5:=kt3 _ _ hD4;have mk5:bw (upd H4 t3 (.tup [.int b,.int ((l:Int)+1)])) (ns0.map (nk a)) ys:=mk0.mono λb xs q=>kt3 _ _ q;have mem5:∀y,y∈ns0↔(0<b/\a.there (b-1) l=true/\y=a.place (b-1) l+1)∨(a.there (b+1) l=true/\y=a.place (b+1) l+1)∨((a.frame b (l+1)).ladder=true/\y=a.place b (l+1)+1):=λy=>by
      rw[m0,qu];simp
     have hn5:ns0.length<=3:=by omega
     generalize upd H4 t3 (.tup [.int b,.int ((l:Int)+1)])=H5 at mk5 K5 hD5⊢;generalize hns5:ns0=ns5 at mk5 mem5 hn5;generalize hys5:ys=ys5 at mk5 hD5;refine⟨_,rfl,_,rfl,wl,C,d.dx,_,_,rfl,(W.kp K5).ins,T.cl,T.nLa,rfl,d.la,d.kl,key b l,rfl,(W.kp K5).la,⟨q,rfl,K5 _ _ hq⟩,_,rfl,?_⟩;rw[gC W.ok];have hl5:ys5.length<sizeLine:=by
      rw[←cA mk5,List.length_map];exact bc hn5 (by decide)
     cases qd:(a.frame b l).ladder with
     |false=>
      refine⟨_,rfl,k H5 D ys5 ns5 K5 hD hD5 mk5 λy=>?_⟩;rw[eT (az ht).1,mem5,qd];constructor
      ·exact .inr
      ·rintro(⟨z,_⟩|z)
       ·cases z
       ·exact z
     |true=>
      refine⟨_,rfl,.inl ⟨rfl,_,SqL.of hD5⟩,?_⟩;refine⟨_,rfl,q,_,1,_,rfl,rfl,bo.of (K5 _ _ hq),aK (j:=1) rfl,rfl,_,rfl,?_⟩;refine bZ (λe=>?_) (λe=>?_)
      ·have l0:l=0:=by
        have:=ck e;injection this with this;omega
       refine⟨D,_,_,rfl,rfl,hD5,hl5,?_⟩;refine⟨_,rfl,k _ D _ (ns5++[0]) (λc o qc=>by rw[ag (ay qc hD)];exact K5 _ _ qc) hD ao ?_ λy=>?_⟩
       ·rw[cf];exact gv hD5 (eY mk5 (by show br H5 (nk a 0) (.str "ground");rfl))
       ·rw[eT (az ht).1,cK,mem5,if_pos l0,cF];constructor
        ·rintro(z|z)
         ·exact .inr z
         ·exact .inl ⟨qd,z⟩
        ·rintro(z|z)
         ·exact .inr z.2
         ·exact .inl z
      ·have l0:¬l=0:=λz=>e (aO (by rw[z];rfl));have hbe:a.there b (l-1)=true:=S.lads.2 b (l-1) (by rw[show l-1+1=l by omega];exact qd);refine⟨_,rfl,q,b,l,rfl,K5 _ _ hq,λt4 ht4=>?_⟩;have kt4:=Kp.laid (o:=.tup [.int b,.int ((l:Int)-1)]) ht4;have hD6:=kt4 _ _ hD5;refine⟨D,_,_,rfl,rfl,hD6,hl5,?_⟩;refine⟨_,rfl,k _ D _ (ns5++[a.place b (l-1)+1]) (λc o qc=>by rw[ag (ay qc hD)];exact kt4 _ _ (K5 _ _ qc)) hD ao ?_ λy=>?_⟩
       ·rw[cf];refine gv hD6 (eY (mk5.mono λb xs q=>kt4 _ _ q) ?_);rw[dE hbe];refine⟨t4,rfl,?_⟩;rw[ao];show some (HO.tup [.int b,.int ((l:Int)-1)])=some (.tup [.int b,.int ((l-1:Nat):Int)]);rw[show((l-1:Nat):Int)=(l:Int)-1 by omega]
       ·rw[eT (az ht).1,cK,mem5,if_neg l0,cF];constructor
        ·rintro(z|z)
         ·exact .inr z
         ·exact .inl ⟨qd,z⟩
        ·rintro(z|z)
         ·exact .inr z.2
         ·exact .inl z
end
abbrev sSteps:Stmt:=bq 20
def dk(a:Abs)(ps:List (Nat×Nat)):List (MK×V):=ps.map λq=>(nk a q.1,V.int (q.2:Nat))
theorem rA{a:Abs}{y z:Nat}(hy:bQ a y)(hz:bQ a z)(e:nk a y=nk a z):y=z:=by
 rcases hy with rfl|⟨b,l,ht,rfl⟩
 ·rcases hz with rfl|⟨b,l,ht,rfl⟩
  ·rfl
  ·rw[dE ht]at e;cases e
 ·rcases hz with rfl|⟨b',l',ht',rfl⟩
  ·rw[dE ht]at e;cases e
  ·rw[dE ht,dE ht']at e;obtain⟨rfl,rfl⟩:=hW e;rfl
theorem qF{a:Abs}:∀{ys:List Nat},(∀y∈ys,bQ a y)->ys.Nodup->(ys.map (nk a)).Nodup
 | [],_,_=>List.nodup_nil
 |y::ys,hn,nd=>by
  rw[cG]at nd;rw[aW,cG];refine⟨λh=>?_,qF (λz hz=>hn z (List.mem_cons_of_mem _ hz)) nd.2⟩;obtain⟨z,hz,e⟩:=bh.mp h;exact nd.1 (rA (hn z (List.mem_cons_of_mem _ hz)) (hn y (List.mem_cons_self ..)) e▸hz)
theorem wB(a:Abs)(ps:List (Nat×Nat)):(dk a ps).map (·.1)=(ps.map (·.1)).map (nk a):=by
 unfold dk;rw[List.map_map,List.map_map];rfl
theorem yg{a:Abs}{ps:List (Nat×Nat)}{y:Nat}(hn:∀q∈ps,bQ a q.1)(hy:bQ a y)(h:y∉ps.map (·.1)):aE (dk a ps) (nk a y)=none:=ku (by
 rw[wB];intro z;obtain⟨u,hu,e⟩:=bh.mp z;obtain⟨q,hq,rfl⟩:=bh.mp hu;exact h (rA (hn q hq) hy e▸hu))
theorem sO{a:Abs}{ps:List (Nat×Nat)}{y i:Nat}(hn:∀q∈ps,bQ a q.1)(nd:(ps.map (·.1)).Nodup)(h:(y,i)∈ps):aE (dk a ps) (nk a y)=some (.int (i:Nat)):=by
 refine gw ?_ (bh.mpr ⟨(y,i),h,rfl⟩);rw[wB];refine qF (λz hz=>?_) nd;obtain⟨q,hq,rfl⟩:=bh.mp hz;exact hn q hq
theorem sN{a:Abs}(S:Sf a){ys:List Nat}(nd:ys.Nodup)(h:∀y∈ys,bQ a y):ys.length<=49:=by
 have h1:=jE (m:=List.range (a.n+1)) nd λy hy=>fR.mpr (by have:=(h y hy).le;omega);rw[ji]at h1;have h2:a.n<=8*6:=Nat.mul_le_mul S.b8 S.l6;omega
theorem kg{a:Abs}(S:Sf a){x y i:Nat}(hx:bQ a x)(h:y∈wv a x i):bQ a y:=Reach.node S.lads hx (yb.mpr ⟨i,h⟩)
structure kF(a:Abs)(x:Nat)(ps:List (Nat×Nat)):Prop where
 nd:(ps.map (·.1)).Nodup
 mem:∀y i,(y,i)∈ps↔y∈wv a x i
structure f9(a:Abs)(x k:Nat)(ps:List (Nat×Nat)):Prop where
 nd:(ps.map (·.1)).Nodup
 mem:∀y i,(y,i)∈ps↔i<=k/\y∈wv a x i
theorem f9.fst{a:Abs}{x k:Nat}{ps:List (Nat×Nat)}(s:f9 a x k ps)(y:Nat):y∈ps.map (·.1)↔y∈sn a x k:=by
 rw[mi,bh];constructor
 ·rintro⟨⟨y',i⟩,h,rfl⟩;exact⟨i,(s.mem _ _).mp h⟩
 ·rintro⟨i,h⟩;exact⟨(y,i),(s.mem _ _).mpr h,rfl⟩
theorem f9.node{a:Abs}(S:Sf a){x k:Nat}(hx:bQ a x){ps:List (Nat×Nat)}(s:f9 a x k ps):∀q∈ps,bQ a q.1:=λq hq=>kg S hx ((s.mem q.1 q.2).mp hq).2
theorem FL{a:Abs}{x:Nat}:f9 a x 0 [(x,0)]:=by
 refine⟨by simp,λy i=>?_⟩;rw[cF];constructor
 ·intro e;cases e;exact⟨aJ _,cF.mpr rfl⟩
 ·rintro⟨h1,h2⟩;have:i=0:=by omega
  subst this;have:y=x:=cF.mp h2;rw[this]
structure iR(a:Abs)(x k:Nat)(fs:List Nat):Prop where
 nd:fs.Nodup
 sub:∀y∈fs,y∈wv a x (k+1)
theorem iR.add{a:Abs}{x k:Nat}{fs:List Nat}(f:iR a x k fs){y z:Nat}(hz:z∈wv a x k)(hy:y∈a.steps z)(h1:y∉sn a x k)(h2:y∉fs):iR a x k (fs++[y]):=by
 refine⟨kQ.mpr ⟨f.nd,by simp,λu hu v hv e=>h2 ?_⟩,λu hu=>?_⟩
 ·rw[←cF.mp hv,←e];exact hu
 ·rcases cK.mp hu with hu|hu
  ·exact f.sub u hu
  ·rw[cF.mp hu];exact ig.mpr ⟨⟨z,hz,hy⟩,h1⟩
def dQ(k:Nat)(ps:List (Nat×Nat))(fs:List Nat):List (Nat×Nat):=ps++fs.map λy=>(y,k+1)
theorem qH(k:Nat)(ps:List (Nat×Nat))(fs:List Nat):(dQ k ps fs).map (·.1)=ps.map (·.1)++fs:=by
 unfold dQ;rw[cf,List.map_map];congr 1;exact List.map_id' fs
theorem og{a:Abs}{x k:Nat}{ps:List (Nat×Nat)}{fs:List Nat}(s:f9 a x k ps)(f:iR a x k fs):((dQ k ps fs).map (·.1)).Nodup:=by
 rw[qH];refine kQ.mpr ⟨s.nd,f.nd,λu hu v hv e=>?_⟩;subst e;exact(ig.mp (f.sub u hv)).2 ((s.fst u).mp hu)
theorem oB{a:Abs}(S:Sf a){x k:Nat}(hx:bQ a x){ps:List (Nat×Nat)}{fs:List Nat}(s:f9 a x k ps)(f:iR a x k fs):∀q∈dQ k ps fs,bQ a q.1:=λq hq=>by
 rcases cK.mp hq with h|h
 ·exact s.node S hx q h
 ·obtain⟨y,hy,rfl⟩:=bh.mp h;exact kg S hx (f.sub y hy)
theorem DL{a:Abs}(S:Sf a){x k:Nat}(hx:bQ a x){ps:List (Nat×Nat)}{fs:List Nat}(s:f9 a x k ps)(f:iR a x k fs):(dQ k ps fs).length<=49:=by
 have:=sN S (og s f) λy hy=>by
  obtain⟨q,hq,rfl⟩:=bh.mp hy;exact oB S hx s f q hq
 simpa using this
theorem Em{a:Abs}{x k:Nat}{ps:List (Nat×Nat)}{fs es:List Nat}(s:f9 a x k ps)(f:iR a x k fs)(he:∀y,y∈es↔y∈wv a x k)(hc:∀z∈es,∀y∈a.steps z,y∈sn a x k∨y∈fs):
  f9 a x (k+1) (dQ k ps fs)/\∀y,y∈fs↔y∈wv a x (k+1):=by
 have hm:∀y,y∈fs↔y∈wv a x (k+1):=λy=>⟨f.sub y,λh=>by
  obtain⟨⟨z,hz,hy⟩,hn⟩:=ig.mp h;rcases hc z ((he z).mpr hz) y hy with q|q
  ·exact absurd q hn
  ·exact q⟩
 refine⟨⟨og s f,λy i=>?_⟩,hm⟩;unfold dQ;rw[cK,s.mem,bh];constructor
 ·rintro(⟨h1,h2⟩|⟨z,hz,e⟩)
  ·exact⟨by omega,h2⟩
  ·cases e;exact⟨aJ _,f.sub _ hz⟩
 ·rintro⟨h1,h2⟩;by_cases q:i<=k
  ·exact .inl ⟨q,h2⟩
  ·have:i=k+1:=by omega
   subst this;exact .inr ⟨y,(hm y).mpr h2,rfl⟩
theorem Cj{a:Abs}{x k:Nat}{ps:List (Nat×Nat)}(s:f9 a x k ps)(h:wv a x k=[]):kF a x ps:=by
 refine⟨s.nd,λy i=>?_⟩;rw[s.mem];constructor
 ·exact λz=>z.2
 intro z;refine⟨?_,z⟩;by_cases q:i<=k
 ·exact q
 ·rw[xD h i (by omega)]at z;cases z
theorem kF.node{a:Abs}(S:Sf a){x:Nat}(hx:bQ a x){ps:List (Nat×Nat)}(s:kF a x ps):∀q∈ps,bQ a q.1:=λq hq=>kg S hx ((s.mem q.1 q.2).mp hq)
theorem kF.val{a:Abs}(S:Sf a){x:Nat}(hx:bQ a x){ps:List (Nat×Nat)}(s:kF a x ps){y:Nat}(hy:bQ a y):aE (dk a ps) (nk a y)=(a.way x y).map λi=>V.int (i:Nat):=by
 cases q:a.way x y with
 |some i=>exact sO (s.node S hx) s.nd ((s.mem y i).mpr ((j4 hx.le).mp q))
 |none=>
  refine yg (s.node S hx) hy λh=>?_;obtain⟨⟨y',i⟩,h1,e⟩:=bh.mp h;cases e;exact(Dh hx.le).mp q i ((s.mem _ _).mp h1)
def ky(K:PySem.W.Frag)(C:Addr):Sp:=λvs H Q _=>∃wl sv a d x,vs=[.ref wl,sv]/\Sf a/\c7 K C H wl a d/\bQ a x/\br H (nk a x) sv/\
 ∀H' p ps,Kp H H'->H p=none->H' p=some (.dM (dk a ps))->kF a x ps->Q (.ref p) H'
def SW(a:Abs)(x:Nat)(H:Hp)(wl:Addr)(sv:V)(p:Addr)(m:Nat)(σ:L2.St)(H':Hp):Prop:=∃(k:Nat) (eA:Addr) (es:List Nat) (yv:List V) (ps:List (Nat×Nat)),∃v4 v5 v6:Option V,m+k=a.n+1/\σ=[some (.ref wl),some sv,some (.ref p),some (.ref eA),v4,v5,v6]/\Kp H H'/\H' p=some (.dM (dk a ps))/\H' eA=some (.lst yv)/\
 bw H' (es.map (nk a)) yv/\(∀y,y∈es↔y∈wv a x k)/\f9 a x k ps
def Kq(p fA:Addr)(H H':Hp):Prop:=∀b o,H b=some o->b≠p->b≠fA->H' b=some o
structure HF(a:Abs)(x k:Nat)(p fA:Addr)(ps:List (Nat×Nat))(fs:List Nat)(H':Hp):Prop where
 pp:H' p=some (.dM (dk a (dQ k ps fs)))
 ff:∃ys,H' fA=some (.lst ys)/\bw H' (fs.map (nk a)) ys
 fnd:iR a x k fs
theorem HF.kp{a:Abs}{x k:Nat}{p fA:Addr}{ps:List (Nat×Nat)}{fs:List Nat}{H' H2:Hp}(h:HF a x k p fA ps fs H')(kk:Kp H' H2):HF a x k p fA ps fs H2:=by
 obtain⟨ys,e,m⟩:=h.ff;exact⟨kk _ _ h.pp,⟨ys,kk _ _ e,m.mono λb xs q=>kk _ _ q⟩,h.fnd⟩
theorem Kq.tup{p fA:Addr}{H H':Hp}(kq:Kq p fA H H'){kv:List (MK×V)}{ys:List V}(hp:H p=some (.dM kv))(hf:H fA=some (.lst ys)){b:Addr}{xs:List V}(h:H b=some (.tup xs)):H' b=some (.tup xs):=
 kq _ _ h (aC h hp (λz=>nomatch z)) (aC h hf (λz=>nomatch z))
section
variable{P:Program}{w:World}{K:PySem.W.Frag}{mg:Str->Option Value}{base:Heap}
theorem jx:bj ["wall","start","steps","edge","found","spot","other"] ["wall","start"] (aM sSteps):=⟨rfl,rfl,rfl,by decide +kernel,rfl,by decide +kernel,by decide +kernel⟩
theorem Au{f fN C:Addr}{fd fdN:FuncData}(F:a8 K "steps_from" "steps_from" sSteps f fd)(T:bW K mg C)(hlen:mg "len"=none)
  (GN:ak P w K mg base au 2 fN fdN ["wall","spot"] (uK K C)) (kN:PySem.W.keepIn K (.ref fN)=true) (bN:aN K fdN ["wall","spot"] []) (mN:mg "next_spots"=some (.ref fN)):
  ak P w K mg base au 3 f fd ["wall","start"] (ky K C):=by
 refine F.ok jx (λvs H Q E h=>?_) (λcdv A outer s H vs Q E hr h=>?_)
 ·obtain⟨wl,sv,a,d,x,rfl,_⟩:=h;rfl
 ·obtain⟨wl,sv,a,d,x,rfl,S,W,hx,mx,k⟩:=h;have hu:=cP hr;refine⟨_,ai (aS (i:=2) jx.nd rfl (Or.inl rfl) (Av hu (pv 1) aq))
   (ai (aS (i:=3) jx.nd rfl (Or.inl rfl) (cu (ab (pv 1) af)))
   (ai (qA iB (aR iX (cx eK rfl hlen g0 (ab (pv 3) af)) aq (b7 _))
    (ai (aS (i:=4) jx.nd rfl (Or.inl rfl) (cu af))
    (ai (jo iB rfl (iu (pv 3)) (cN (i:=5) jx.nd rfl (Or.inl rfl))
     (aw (jo iB rfl (iu (bg GN hr rfl mN kN bN .nil aU (ab (pv 0) (ab (pv 5) af)))) (cN (i:=6) jx.nd rfl (Or.inl rfl))
      (aw (aV (aR (dq hu) (pv 6) (pv 2) (by with_unfolding_all rfl))
       (ai (gN hu (pv 2) (pv 6) (cW gc (gb hu (pv 2) (pv 5) (λ_ _=>rfl)) aq) rfl)
       (aw (fx (ja jQ nu nv jS (pv 4) (ab (pv 6) af))))) aY)))))
    (aw (aS (i:=3) jx.nd rfl (Or.inl rfl) (pv 4))))))
   (aw (aF (pv 2))))),?_⟩
  intro p hp;refine⟨_,rfl,ao,nk a x,mx.mono (λb xs q=>by rw[ag (ay q hp)];exact q),?_⟩;have k1:Kp H (upd (upd H p (.dM [])) p (.dM [(nk a x,.int 0)])):=λb o q=>by
   rw[ag (ay q hp),ag (ay q hp)];exact q
  have e1:upd (upd H p (.dM [])) p (.dM [(nk a x,.int 0)]) p=some (.dM (dk a [(x,0)])):=ao;generalize upd (upd H p (.dM [])) p (.dM [(nk a x,.int 0)])=H1 at k1 e1⊢;refine⟨_,rfl,(by show 1<=sizeLine;decide),λeA heA=>?_⟩;have k2:=Kp.laid (o:=.lst [sv]) heA;refine⟨SW a x H wl sv p,⟨a.n+1,0,eA,[x],[sv],[(x,0)],none,none,none,rfl,rfl,Kp.trans k1 k2,k2 _ _ e1,ao,.cons (mx.mono λb xs q=>k2 _ _ (k1 _ _ q)) .nil,λy=>Iff.rfl,FL⟩,?_⟩;clear k2 heA e1 k1;rintro m σ H3 ⟨k',eA,es,yv,ps,v4,v5,v6,hm,rfl,k3,e3,el3,mk3,he,st⟩;refine⟨_,rfl,eA,yv,rfl,.inl (SqL.of el3),_,_,rfl,rfl,_,rfl,?_⟩;have hyl:yv.length=es.length:=by
   have:=cA mk3;rw[List.length_map]at this;exact this.symm
  refine bZ (λe=>?_) (λe=>?_)
  ·have e':=ck e;have hne:wv a x k'≠[]:=λz=>by
    have:es=[]:=by
     cases es with
     |nil=>rfl
     |cons y r=>have:=(he y).mp (List.mem_cons_self ..);rw[z]at this;cases this
    rw[this]at hyl;have h0:yv.length=0:=hyl;omega
   have hkn:=uH hx.le hne;refine⟨SW a x H wl sv p (m-1),λσ' H' h=>⟨m-1,by omega,h⟩,?_⟩;refine⟨da _,λfA hfA=>?_⟩;have hfA0:H fA=none:=by
    cases q:H fA with
    |none=>rfl
    |some o=>rw[k3 _ _ q]at hfA;cases hfA
   have k4:=Kp.laid (o:=.lst []) hfA;have f4:upd H3 fA (.lst []) fA=some (.lst []):=ao;generalize upd H3 fA (.lst [])=H4 at k4 f4⊢;have e4:=k4 _ _ e3;have el4:=k4 _ _ el3;have npe:eA≠p:=aC el4 e4 (λz=>nomatch z);have nfe:eA≠fA:=ay el3 hfA;have npf:p≠fA:=ay e3 hfA;have mk4:bw H4 (es.map (nk a)) yv:=mk3.mono λb xs q=>k4 _ _ q;have W4:=W.kp (Kp.trans k3 k4);have toH:∀{H':Hp},Kq p fA H4 H'->Kp H H':=λ{H'} kq b o q=>kq b o (k4 _ _ (k3 _ _ q)) (ay q hp) (ay q hfA0);refine⟨_,rfl,eA,rfl,⟨yv,SqL.of el4⟩,kr (n:=es.length)
    (λj σ H'=>∃v5 v6:Option V,σ=[some (.ref wl),some sv,some (.ref p),some (.ref eA),some (.ref fA),v5,v6]/\Kq p fA H4 H'/\∃fs,HF a x k' p fA ps fs H'/\∀z∈es.take j,∀y∈a.steps z,y∈sn a x k'∨y∈fs)
    ⟨v5,v6,rfl,λb o q _ _=>q,[],⟨by unfold dQ;rw[List.map_nil,List.append_nil];exact e4,⟨[],f4,.nil⟩,List.nodup_nil,λy hy=>nomatch hy⟩,λz hz=>nomatch hz⟩
    (λj σ H' hj ⟨_,_,_,kq,_⟩=>⟨yv,yv[j]'(by omega),SqL.of (kq _ _ el4 npe nfe),aZ _⟩) (λσ H' ⟨_,_,_,kq,_⟩=>⟨yv,SqL.of (kq _ _ el4 npe nfe),by omega⟩) ?_ ?_⟩
   ·rintro j xv σ H5 H6 hj ⟨v5,v6,rfl,kq,fs,hf,hc⟩ ⟨rfl,hx1⟩;have hxv:=hx1 yv (SqL.of (kq _ _ el4 npe nfe));obtain⟨z,hz⟩:∃z,es[j]?=some z:=⟨_,aZ hj⟩;have hzw:z∈wv a x k':=(he z).mp (cE hz);have mz:br H6 (nk a z) xv:=by
     obtain⟨u,hu1,hu2⟩:=dX mk4 (i:=j) (a:=nk a z) (by rw[bY,hz];rfl);rw[hxv]at hu1;cases hu1;exact hu2.mono λb xs q=>kq.tup e4 f4 q
    refine⟨_,rfl,_,rfl,wl,xv,a,d,z,rfl,S,W.kp (toH kq),kg S hx hzw,mz,λH7 nA ws ns k7 hnA enA mkn hns=>?_⟩;have hf7:=hf.kp k7;obtain⟨ys7,ef7,mf7⟩:=hf7.ff;have npn:nA≠p:=λz=>by rw[z,hf.pp]at hnA;cases hnA
    have nfn:nA≠fA:=λz=>by
     obtain⟨ys,ef,_⟩:=hf.ff;rw[z,ef]at hnA;cases hnA
    have hwl:ws.length=ns.length:=by
     have:=cA mkn;rw[List.length_map]at this;exact this.symm
    refine⟨nA,rfl,⟨ws,SqL.of enA⟩,kr (n:=ns.length)
     (λi σ H'=>∃v6:Option V,σ=[some (.ref wl),some sv,some (.ref p),some (.ref eA),some (.ref fA),some xv,v6]/\Kq p fA H7 H'/\∃fs',HF a x k' p fA ps fs' H'/\(∀y∈fs,y∈fs')/\∀y∈ns.take i,y∈sn a x k'∨y∈fs')
     ⟨v6,rfl,λb o q _ _=>q,fs,hf7,λy h=>h,λy h=>nomatch h⟩
     (λi σ H' hi ⟨_,_,kq,_⟩=>⟨ws,ws[i]'(by omega),SqL.of (kq _ _ enA npn nfn),aZ _⟩) (λσ H' ⟨_,_,kq,_⟩=>⟨ws,SqL.of (kq _ _ enA npn nfn),by omega⟩) ?_ ?_⟩
    ·rintro i wv' σ H8 H9 hi ⟨v6,rfl,kq2,fs',hf',hsub,hc'⟩ ⟨rfl,hx2⟩;have hwv:=hx2 ws (SqL.of (kq2 _ _ enA npn nfn));obtain⟨y,hy⟩:∃y,ns[i]?=some y:=⟨_,aZ hi⟩;have hys:y∈a.steps z:=(hns y).mp (cE hy);have hyn:bQ a y:=wY S.lads (kg S hx hzw) hys;have my:br H9 (nk a y) wv':=by
      obtain⟨u,hu1,hu2⟩:=dX mkn (i:=i) (a:=nk a y) (by rw[bY,hy];rfl);rw[hwv]at hu1;cases hu1;exact hu2.mono λb xs q=>kq2.tup hf7.pp ef7 q
     have mz9:br H9 (nk a z) xv:=mz.mono λb xs q=>kq2.tup hf7.pp ef7 (k7 _ _ q);refine⟨_,rfl,_,rfl,p,_,nk a y,rfl,.inl hf'.pp,my,_,rfl,?_⟩;by_cases hin:y∈sn a x k'∨y∈fs'
     ·have hmem:y∈(dQ k' ps fs').map (·.1):=by
       rw[qH,cK,st.fst];exact hin
      obtain⟨⟨y',i'⟩,h1,h2⟩:=bh.mp hmem;have h2':y'=y:=h2;subst h2';rw[sO (oB S hx st hf'.fnd) (og st hf'.fnd) h1];refine⟨_,rfl,kq2,fs',hf',hsub,λu hu=>?_⟩;rw[fY hi]at hu;rcases cK.mp hu with hu|hu
      ·exact hc' u hu
      ·have:ns[i]=y':=by
        have:=aZ hi;rw[hy]at this;exact(b9 this).symm
       rw[cF.mp hu,this];exact hin
     ·have hnm:y∉(dQ k' ps fs').map (·.1):=by
       rw[qH,cK,st.fst];exact hin
      have hval:=yg (oB S hx st hf'.fnd) hyn hnm;rw[hval];obtain⟨ys9,ef9,mf9⟩:=hf'.ff;have hzk:(z,k')∈dQ k' ps fs':=p8 _ ((st.mem z k').mpr ⟨aJ _,hzw⟩);have fnd':=hf'.fnd.add hzw hys (λh=>hin (.inl h)) (λh=>hin (.inr h));have hlen1:(dk a (dQ k' ps fs')).length<sizeLine:=by
       unfold dk;rw[List.length_map];exact bc (DL S hx st hf'.fnd) (by decide)
      have hlen2:ys9.length<sizeLine:=by
       rw[←cA mf9,List.length_map];exact bc (sN S hf'.fnd.nd λy hy=>kg S hx (hf'.fnd.sub y hy)) (by decide)
      refine⟨_,rfl,_,rfl,p,_,nk a z,_,rfl,.inl hf'.pp,mz9,sO (oB S hx st hf'.fnd) (og st hf'.fnd) hzk,_,_,rfl,rfl,_,rfl,_,rfl,p,_,nk a y,rfl,hf'.pp,my,hlen1,?_⟩;have ep10:bt (dk a (dQ k' ps fs')) (nk a y) (.int ((k':Int)+1))=dk a (dQ k' ps (fs'++[y])):=by
       rw[lU _ hval];unfold dk dQ;rw[cf,cf,cf,cf,qf];rfl
      have ef10:upd H9 p (.dM (bt (dk a (dQ k' ps fs')) (nk a y) (.int ((k':Int)+1)))) fA=some (.lst ys9):=by
       rw[ag (bP npf)];exact ef9
      refine⟨_,rfl,.inl ⟨rfl,_,SqL.of ef10⟩,_,rfl,fA,_,_,rfl,rfl,ef10,hlen2,?_⟩;have tp:∀b xs,H9 b=some (.tup xs)->upd (upd H9 p (.dM (bt (dk a (dQ k' ps fs')) (nk a y) (.int ((k':Int)+1))))) fA (.lst (ys9++[wv'])) b=some (.tup xs):=λb xs q=>by
       rw[ag (aC q ef9 (λz=>nomatch z)),ag (aC q hf'.pp (λz=>nomatch z))];exact q
      refine⟨_,rfl,λb o q n1 n2=>by rw[ag n2,ag n1];exact kq2 _ _ q n1 n2,fs'++[y],⟨by rw[ag npf,ao,ep10],⟨_,ao,?_⟩,fnd'⟩,λu hu=>p8 _ (hsub u hu),λu hu=>?_⟩
      ·rw[cf];exact eY (mf9.mono tp) (my.mono tp)
      ·rw[fY hi]at hu;rcases cK.mp hu with hu|hu
       ·rcases hc' u hu with h|h
        ·exact .inl h
        ·exact .inr (p8 _ h)
       ·have:ns[i]=y:=by
         have:=aZ hi;rw[hy]at this;exact(b9 this).symm
        rw[cF.mp hu,this];exact .inr (jf _ (cF.mpr rfl))
    ·rintro σ H8 ⟨v6,rfl,kq2,fs',hf',hsub,hc'⟩;refine⟨_,_,rfl,λb o q n1 n2=>kq2 _ _ (k7 _ _ (kq _ _ q n1 n2)) n1 n2,fs',hf',λu hu y hyu=>?_⟩;rw[fY hj]at hu;rcases cK.mp hu with hu|hu
     ·rcases hc u hu y hyu with h|h
      ·exact .inl h
      ·exact .inr (hsub y h)
     ·have:es[j]=z:=by
       have:=aZ hj;rw[hz]at this;exact(b9 this).symm
      rw[cF.mp hu,this]at hyu;rw[gp]at hc';exact hc' y ((hns y).mpr hyu)
   ·rintro σ H5 ⟨v5,v6,rfl,kq,fs,hf,hc⟩;rw[gp]at hc;obtain⟨st',hm'⟩:=Em st hf.fnd he hc;obtain⟨ys,ef,mf⟩:=hf.ff;exact⟨_,rfl,k'+1,fA,fs,ys,dQ k' ps fs,_,_,_,by omega,rfl,toH kq,hf.pp,ef,mf,hm',st'⟩
  ·have hnil:wv a x k'=[]:=by
    have h0:yv.length=0:=by
     by_cases z:yv.length=0
     ·exact z
     ·exact absurd (aO (by omega)) e
    cases q:wv a x k' with
    |nil=>rfl
    |cons y r=>
     have:=(he y).mpr (by rw[q];exact List.mem_cons_self ..);have h1:es=[]:=yU.mp (by omega);rw[h1]at this;cases this
   exact⟨_,rfl,k H3 p ps k3 hp e3 (Cj st hnil)⟩
end
abbrev sStuckP:Stmt:=bq 21
abbrev sStuck:Stmt:=bq 22
def rY(K:PySem.W.Frag)(C:Addr):Sp:=λvs H Q _=>∃wl a d,vs=[.ref wl]/\Sf a/\c7 K C H wl a d/\∀H' q,Kp H H'->H q=none->H' q=some (.lst (a.stuck.map λn=>V.int (n:Nat)))->Q (.ref q) H'
def sW(K:PySem.W.Frag)(C:Addr):Sp:=λvs H Q _=>∃wl a d,vs=[.ref wl]/\Sf a/\c7 K C H wl a d/\∀H',Kp H H'->Q (.bl (!(a.stuck==[]))) H'
theorem Fz{a:Abs}(S:Sf a):a.stuck=(List.range a.people.length).filter λp=>!(a.way 0 (a.person p).at_).isSome:=by
 unfold Abs.stuck;refine List.filter_congr λp hp=>?_;show(a.way (a.person p).at_ 0).isNone=_;have h:=xk S.lads (S.pat _ (jF (fR.mp hp)));rw[←h];cases a.way (a.person p).at_ 0<;>rfl
section
variable{P:Program}{w:World}{K:PySem.W.Frag}{mg:Str->Option Value}{base:Heap}
theorem lE:bj ["wall","steps","person","spot"] ["wall"] (aM sStuckP):=⟨rfl,rfl,rfl,by decide +kernel,rfl,by decide +kernel,by decide +kernel⟩
theorem EX{f fN C:Addr}{fd fdN:FuncData}(F:a8 K "stuck_persons" "stuck_persons" sStuckP f fd)(T:bW K mg C)(henum:mg "enumerate"=none)
  (GN:ak P w K mg base au 3 fN fdN ["wall","start"] (ky K C)) (kN:PySem.W.keepIn K (.ref fN)=true) (bN:aN K fdN ["wall","start"] []) (mN:mg "steps_from"=some (.ref fN)):
  ak P w K mg base au 4 f fd ["wall"] (rY K C):=by
 obtain⟨tg,hgr⟩:=T.ground;refine F.ok lE (λvs H Q E h=>?_) (λcdv A outer s H vs Q E hr h=>?_)
 ·obtain⟨wl,a,d,rfl,_⟩:=h;rfl
 ·obtain⟨wl,a,d,rfl,S,W,k⟩:=h;have hu:=cP hr;refine⟨_,ai (aS (i:=1) lE.nd rfl (Or.inr rfl) (bg GN hr rfl mN kN bN .nil aU (ab (pv 0) (ab (aP (v:=.str "ground") rfl hgr ⟨tg,rfl⟩) af))))
   (aw (aF (eG (own:=[("person",2),("spot",3)]) rfl lE.nd (BL rfl henum (ab (ax (pv 0) rfl) af)) (eB rfl)
    (λs H C cl fp=>om (K:=K) (n:=2) rfl rfl (gT (cN (i:=2) lE.nd rfl (Or.inl rfl)) (gT (cN (i:=3) lE.nd rfl (Or.inl rfl)) lH)))
    (λs H C cl fp=>hU (aR (dq hu) (pv 3) (pv 1) (by with_unfolding_all rfl)))
    (λs H C' cl fp=>pv 2)))),?_⟩
  refine⟨_,rfl,wl,.str "ground",a,d,0,rfl,S,W,.inl rfl,rfl,λH1 p ps k1 hp ep st=>?_⟩;have W1:=W.kp k1;refine⟨_,rfl,wl,C,d.dx,_,_,rfl,W1.ins,T.cl,T.nSp,rfl,d.sp,_,rfl,W1.sp,λD hD=>?_⟩;have hsl:d.svs.length=a.people.length:=by
   have:=cA W.spk;rw[List.length_map]at this;exact this.symm
  refine ee (n:=a.people.length) (λi H'=>Kp H1 H'/\H' D=some (.lst (((List.range i).filter λp=>!(a.way 0 (a.person p).at_).isSome).map λn=>V.int (n:Nat))))
   ⟨Kp.laid hD,ao⟩ (λi H' hi ⟨kk,_⟩=>⟨_,d.svs[i]'(by omega),(W1.kp kk).sp,aZ _⟩) (λH' ⟨kk,_⟩=>⟨_,(W1.kp kk).sp,by omega⟩) ?_ ?_
  ·rintro i x H3 H4 hi ⟨kk,hD2⟩ ⟨Tt,x1,rfl,hTt,rfl,hx1⟩;have hx:=hx1 _ (W1.kp kk).sp;obtain⟨pj,hpj⟩:∃pj,a.people[i]?=some pj:=⟨_,aZ hi⟩;have hper:a.person i=pj:=by
    unfold Abs.person;rw[du,hpj];rfl
   have mx:br H3 (nk a pj.at_) x1:=by
    obtain⟨z,hz1,hz2⟩:=dX (W1.kp kk).spk (i:=i) (a:=nk a pj.at_) (by rw[bY,hpj];rfl);rw[hx]at hz1;cases hz1;exact hz2
   have kT:=Kp.laid (o:=.tup [V.int (i:Nat),x1]) hTt;have mx4:=mx.mono λb xs q=>kT _ _ q;have hr1:(List.range (i+1)).filter (λp=>!(a.way 0 (a.person p).at_).isSome)=(List.range i).filter (λp=>!(a.way 0 (a.person p).at_).isSome)++(if(!(a.way 0 pj.at_).isSome)=true then[i]else[]):=by
    rw[ud,iA,dA,iC,hper]
   refine⟨Tt,_,rfl,bo.of ao,rfl,_,_,rfl,_,_,rfl,rfl,rfl,?_⟩;refine⟨_,rfl,_,rfl,p,_,nk a pj.at_,rfl,.inl (kT _ _ (kk _ _ ep)),mx4,_,rfl,?_⟩;rw[st.val S (.inl rfl) (S.pat pj (cE hpj)),zm];cases q:(a.way 0 pj.at_).isSome with
   |false=>
    rw[q,if_pos (by decide)]at hr1;refine⟨_,rfl,_,kT _ _ hD2,?_,?_,?_⟩
    ·rw[List.length_map];exact bc (fX ..) (by rw[ji];exact qi hi (bc S.plen (by decide)))
    ·intro c o qc;rw[ag (ay qc hD)];exact kT _ _ (kk _ _ qc)
    ·rw[ao,hr1,cf];rfl
   |true=>
    rw[q,if_neg (by decide),List.append_nil]at hr1;refine⟨Kp.trans kk kT,?_⟩;rw[hr1];exact kT _ _ hD2
  ·rintro H3 ⟨kk,hD2⟩;refine k H3 D (Kp.trans k1 kk) ?_ (by rw[Fz S];exact hD2);cases e:H D with
   |none=>rfl
   |some o=>rw[k1 _ _ e]at hD;cases hD
theorem DQ:bj ["wall"] ["wall"] (aM sStuck):=⟨rfl,rfl,rfl,by decide +kernel,rfl,by decide +kernel,by decide +kernel⟩
theorem A2{f fN C:Addr}{fd fdN:FuncData}(F:a8 K "somebody_stuck" "somebody_stuck" sStuck f fd)(T:bW K mg C)(hlen:mg "len"=none)
  (GN:ak P w K mg base au 4 fN fdN ["wall"] (rY K C)) (kN:PySem.W.keepIn K (.ref fN)=true) (bN:aN K fdN ["wall"] []) (mN:mg "stuck_persons"=some (.ref fN)):
  ak P w K mg base au 5 f fd ["wall"] (sW K C):=by
 refine F.ok DQ (λvs H Q E h=>?_) (λcdv A outer s H vs Q E hr h=>?_)
 ·obtain⟨wl,a,d,rfl,_⟩:=h;rfl
 ·obtain⟨wl,a,d,rfl,S,W,k⟩:=h;refine⟨_,aw (aF (iY iX (cx eK (by rfl) hlen gq (ab (bg GN hr rfl mN kN bN .nil aU (ab (pv 0) af)) af)) aq (b7 _))),?_⟩;refine⟨_,rfl,wl,a,d,rfl,S,W,λH1 q k1 hq eq=>?_⟩;refine⟨q,_,rfl,.inl (SqL.of eq),_,_,rfl,rfl,?_⟩;have:=k H1 k1;have e:decide ((0:Int)<((a.stuck.map λn=>V.int (n:Nat)).length:Nat))=!(a.stuck==[]):=by
   rw[List.length_map];cases a.stuck with
   |nil=>rfl
   |cons y r=>
    rw[aO (by rw[List.length_cons];omega)];rfl
  dsimp only;rw[e];exact this
end
def cc(b l:Nat):Int:=reduceHash (Builtin.Tuple.tupleHashOf [hashInt b,hashInt l])
theorem uO(P:Program)(w:World)(b l:Nat):cU P w (key b l)=cc b l:=rfl
theorem Ay:((List.range 48).map λc=>cc (c%8) (c/8)).Nodup:=by decide +kernel
theorem Cg{b l b' l':Nat}(hb:b<8)(hl:l<6)(hb':b'<8)(hl':l'<6)(e:cc b l=cc b' l'):b=b'/\l=l':=by
 have get:∀{b l:Nat},b<8->l<6->((List.range 48).map λc=>cc (c%8) (c/8))[l*8+b]?=some (cc b l):=λ{b l} hb hl=>by
  rw[bY,yP (by omega)];show some (cc ((l*8+b)%8) ((l*8+b)/8))=_;rw[show(l*8+b)%8=b by omega,show(l*8+b)/8=l by omega]
 have h1:=get hb hl;have h2:=get hb' hl';rw[←e]at h2;have:=(tw (cX.mp h1).1 Ay).mp (h1.trans h2.symm);omega
theorem cS.hash{a:Abs}(S:Sf a){kvs:List (MK×V)}(k:cS a kvs)(P:Program)(w:World):∀p∈kvs,∀q∈kvs,cU P w p.1=cU P w q.1->p.1=q.1:=λp hp q hq e=>by
 obtain⟨b,l,e1,ht⟩:=k.at_ p hp;obtain⟨b',l',e1',ht'⟩:=k.at_ q hq;rw[e1,e1',uO,uO]at e;have h1:=az ht;have h2:=az ht';have h8:=S.b8;have h6:=S.l6;obtain⟨rfl,rfl⟩:=Cg (by omega) (by omega) (by omega) (by omega) e;rw[e1,e1']
theorem cS.tuples{a:Abs}{kvs:List (MK×V)}(k:cS a kvs):∀p∈kvs,∃ks,p.1=Sum.inr ks:=λp hp=>by
 obtain⟨b,l,e1,ht⟩:=k.at_ p hp;exact⟨_,e1⟩
structure aQ(C:Addr)(H:Hp)(wl:Addr)(a:Abs)(d:WD):Prop where
 ins:H wl=some (.ins C d.dx (rT a d))
 g:H d.g=some (.lst (a.soil.map λn=>V.int (n:Nat)))
 fr:H d.fr=some (.dM d.kf)
 ti:H d.ti=some (.dM d.kt)
 th:H d.th=some (.dM d.kh)
 la:H d.la=some (.dM d.kl)
 we:H d.we=some (.lst (a.people.map λp=>V.int (p.weight:Nat)))
 sp:H d.sp=some (.lst d.svs)
 spk:bw H (a.people.map λp=>nk a p.at_) d.svs
 ok:bU a d
 nd:[d.fr,d.ti,d.th,d.la].Nodup
 nl:[d.g,d.we,d.sp].Nodup
theorem aQ.r{K:PySem.W.Frag}{C:Addr}{H:Hp}{wl:Addr}{a:Abs}{d:WD}(W:aQ C H wl a d):c7 K C H wl a d:=
 ⟨W.ins,SqL.of W.g,.inl W.fr,.inl W.ti,.inl W.th,.inl W.la,SqL.of W.we,SqL.of W.sp,W.spk,W.ok⟩
theorem aQ.kp{C:Addr}{H H':Hp}{wl:Addr}{a:Abs}{d:WD}(W:aQ C H wl a d)(k:Kp H H'):aQ C H' wl a d:=
 ⟨k _ _ W.ins,k _ _ W.g,k _ _ W.fr,k _ _ W.ti,k _ _ W.th,k _ _ W.la,k _ _ W.we,k _ _ W.sp,W.spk.mono λb xs q=>k _ _ q,W.ok,W.nd,W.nl⟩
theorem aQ.ext{C Pt:Addr}{H H':Hp}{wl:Addr}{a:Abs}{d:WD}(W:aQ C H wl a d)(x:aj Pt H H')(t:bx H Pt bu bz):aQ C H' wl a d:=by
 obtain⟨ps,e⟩:=eU t;have st:∀{b:Addr} {o:HO},H b=some o->(∀ps,o≠.tbl ps)->H' b=some o:=λ{b o} q n=>x.keep _ _ q (aC q e (n ps));exact⟨st W.ins (λ_ z=>nomatch z),st W.g (λ_ z=>nomatch z),st W.fr (λ_ z=>nomatch z),st W.ti (λ_ z=>nomatch z),st W.th (λ_ z=>nomatch z),st W.la (λ_ z=>nomatch z),st W.we (λ_ z=>nomatch z),st W.sp (λ_ z=>nomatch z),W.spk.mono λb xs q=>st q (λ_ z=>nomatch z),W.ok,W.nd,W.nl⟩
def dD(wl:Addr)(d:WD)(c:Addr):Prop:=c=wl∨c=d.dx∨c=d.g∨c=d.fr∨c=d.ti∨c=d.th∨c=d.la∨c=d.we∨c=d.sp
abbrev sInit:Stmt:=l9 (bq 5) 0
def sx(C:Addr):Sp:=λvs H Q _=>∃wl dx,∃b l w m f:Nat,vs=[.ref wl,.int b,.int l,.int w,.int m,.int f]/\H wl=some (.ins C dx [])/\b<=8/\
 ∀H' d,d.dx=dx->(∀c o,H c=some o->c≠wl->H' c=some o)->(∀c,dD wl d c->c=wl∨c=dx∨H c=none)->aQ C H' wl (begun b l w m f) d->Q .non H'
section
variable{P:Program}{w:World}{K:PySem.W.Frag}{mg:Str->Option Value}{base:Heap}
theorem El:bj ["self","bays","levels","weight","most","free"] ["self","bays","levels","weight","most","free"] (aM sInit):=⟨rfl,rfl,rfl,by decide +kernel,rfl,by decide +kernel,by decide +kernel⟩
theorem fi{H H1:Hp}{wl C dx p:Addr}{o:HO}{fs fs':List (Str×V)}(hk:∀c u,H c=some u->c≠wl->H1 c=some u)(ins:H1 wl=some (.ins C dx fs))(hp:H1 p=none):
  (upd (upd H1 p o) wl (.ins C dx fs')) wl=some (.ins C dx fs')/\(∀c u,H1 c=some u->c≠wl->upd (upd H1 p o) wl (.ins C dx fs') c=some u)/\upd (upd H1 p o) wl (.ins C dx fs') p=some o/\p≠wl/\(p=wl∨p=dx∨H p=none):=by
 have n:p≠wl:=λz=>by rw[z,ins]at hp;cases hp
 refine⟨ao,λc u q nc=>by rw[ag nc,ag (ay q hp)];exact q,by rw[ag n];exact ao,n,.inr (.inr ?_)⟩;cases q:H p with
 |none=>rfl
 |some u=>rw[hk _ _ q n]at hp;cases hp
theorem pG{b l w m f:Nat}(x y:Nat):(begun b l w m f).frame x y=none_:=by
 unfold Abs.frame Abs.at_ begun;split
 ·rw[du,yS];split<;>rfl
 ·rfl
theorem B6{b l w m f:Nat}(x y:Nat):(begun b l w m f).there x y=false:=by
 unfold Abs.there;rw[pG];rfl
theorem pE(a:Abs):cS a []:=⟨List.nodup_nil,λp h=>nomatch h⟩
theorem FU{b l w m f:Nat}{d:WD}(h1:d.kf=[])(h2:d.kt=[])(h3:d.kh=[])(h4:d.kl=[]):bU (begun b l w m f) d:=by
 refine⟨by rw[h1];exact pE _,by rw[h2];exact pE _,by rw[h3];exact pE _,by rw[h4];exact pE _,λx y=>?_,λx y=>?_,λx y=>?_,λx y=>?_⟩
 ·rw[B6,h1];rfl
 ·rw[pG,h2];rfl
 ·rw[pG,h3];rfl
 ·rw[pG,h4];rfl
theorem wI:∀b:Nat,(List.replicate b [V.int 10000]).flatten=List.replicate b (V.int ((SOIL:Nat):Int))
 |0=>rfl
 |b+1=>by rw[kX,kX,qe,wI b];rfl
def fy(b l u m f:Nat)(x:List (Str×V)):List (Str×V):=("bays",.int b)::("levels",.int l)::("weight",.int u)::("most",.int m)::("free",.int f)::x
def fz(a:Abs)(g r t h l u s:Addr):List (Str×V):=fy a.bays a.levels a.weight a.most a.free [("ground",.ref g),("frames",.ref r),("ties",.ref t),("things",.ref h),("ladders",.ref l),("weights",.ref u),("spots",.ref s)]
theorem Bs{f C:Addr}{fd:FuncData}{tgb:Tok}(F:a8 K "__init__" "Wall.__init__" sInit f fd)(T:bW K mg C)(hgb:mg "GROUND_BEARS"=some (.int 10000 tgb)):
  ak P w K mg base au 1 f fd ["self","bays","levels","weight","most","free"] (sx C):=by
 refine F.ok El (λvs H Q E h=>?_) (λcdv A outer s H vs Q E hr h=>?_)
 ·obtain⟨wl,dx,b,l,w,m,f,rfl,_⟩:=h;rfl
 ·obtain⟨wl,dx,b,l,w,m,f,rfl,ins,h8,k⟩:=h;refine⟨_,ai (dy (pv 0) (pv 1) rfl) (ai (dy (pv 0) (pv 2) rfl) (ai (dy (pv 0) (pv 3) rfl) (ai (dy (pv 0) (pv 4) rfl) (ai (dy (pv 0) (pv 5) rfl)
   (ai (dy (pv 0) (cW EG (cu (ab (aP (v:=.int 10000) rfl hgb ⟨tgb,rfl⟩) af)) (pv 1)) rfl)
   (ai (dy (pv 0) j9 rfl) (ai (dy (pv 0) j9 rfl) (ai (dy (pv 0) j9 rfl) (ai (dy (pv 0) j9 rfl)
   (ai (dy (pv 0) (cu af) rfl) (aw (dy (pv 0) (cu af) rfl)))))))))))),?_⟩
  have few:∀{n:Nat},n<20->n<1000:=λ{n} h=>by omega
  refine⟨_,rfl,_,rfl,wl,C,dx,_,rfl,ins,T.cl,T.nB,few (by show 0<20;decide),?_⟩;refine⟨_,rfl,_,rfl,wl,C,dx,_,rfl,ao,T.cl,T.nL,few (by show 1<20;decide),?_⟩;refine⟨_,rfl,_,rfl,wl,C,dx,_,rfl,ao,T.cl,T.nW,few (by show 2<20;decide),?_⟩;refine⟨_,rfl,_,rfl,wl,C,dx,_,rfl,ao,T.cl,T.nM,few (by show 3<20;decide),?_⟩;refine⟨_,rfl,_,rfl,wl,C,dx,_,rfl,ao,T.cl,T.nF,few (by show 4<20;decide),?_⟩;have keep5:∀c u,H c=some u->c≠wl->upd (upd (upd (upd (upd H wl (.ins C dx (aG "bays" (.int b) []))) wl (.ins C dx (aG "levels" (.int l) (aG "bays" (.int b) [])))) wl (.ins C dx (aG "weight" (.int w) (aG "levels" (.int l) (aG "bays" (.int b) []))))) wl (.ins C dx (aG "most" (.int m) (aG "weight" (.int w) (aG "levels" (.int l) (aG "bays" (.int b) [])))))) wl (.ins C dx (aG "free" (.int f) (aG "most" (.int m) (aG "weight" (.int w) (aG "levels" (.int l) (aG "bays" (.int b) [])))))) c=some u:=λc u q n=>by
   rw[ag n,ag n,ag n,ag n,ag n];exact q
  have ins5:upd (upd (upd (upd (upd H wl (.ins C dx (aG "bays" (.int b) []))) wl (.ins C dx (aG "levels" (.int l) (aG "bays" (.int b) [])))) wl (.ins C dx (aG "weight" (.int w) (aG "levels" (.int l) (aG "bays" (.int b) []))))) wl (.ins C dx (aG "most" (.int m) (aG "weight" (.int w) (aG "levels" (.int l) (aG "bays" (.int b) [])))))) wl (.ins C dx (aG "free" (.int f) (aG "most" (.int m) (aG "weight" (.int w) (aG "levels" (.int l) (aG "bays" (.int b) [])))))) wl=some (.ins C dx (fy b l w m f [])):=by
   rw[ao];rfl
  generalize upd (upd (upd (upd (upd H wl (.ins C dx (aG "bays" (.int b) []))) wl (.ins C dx (aG "levels" (.int l) (aG "bays" (.int b) [])))) wl (.ins C dx (aG "weight" (.int w) (aG "levels" (.int l) (aG "bays" (.int b) []))))) wl (.ins C dx (aG "most" (.int m) (aG "weight" (.int w) (aG "levels" (.int l) (aG "bays" (.int b) [])))))) wl (.ins C dx (aG "free" (.int f) (aG "most" (.int m) (aG "weight" (.int w) (aG "levels" (.int l) (aG "bays" (.int b) []))))))=H5 at keep5 ins5⊢;refine⟨(by show 1<=sizeLine;decide),λt htn=>?_⟩;have kt:=Kp.laid (o:=.lst [.int 10000]) htn;refine⟨_,rfl,t,b,_,rfl,rfl,ao,by omega,by omega,?_,λg hg=>?_⟩
  ·show 1*(b:Int).toNat<=sizeLine;exact dw (show 1*(b:Int).toNat<=8 by omega) (by decide)
  have keepT:∀c u,H c=some u->c≠wl->upd H5 t (.lst [.int 10000]) c=some u:=λc u q n=>kt _ _ (keep5 c u q n);have insT:=kt _ _ ins5;generalize upd H5 t (.lst [.int 10000])=HT at keepT insT hg⊢;have eg:(List.replicate (b:Int).toNat [V.int 10000]).flatten=((begun b l w m f).soil.map λn=>V.int (n:Nat)):=by
   show _=(List.replicate b SOIL).map _;rw[List.map_replicate,jg];exact wI b
  rw[eg];refine⟨_,rfl,wl,C,dx,_,rfl,Kp.laid hg _ _ insT,T.cl,T.nG,few (by show 5<20;decide),?_⟩;obtain⟨ins_g,kp_g,at_g,nw_g,fresh_g⟩:=fi (o:=.lst ((begun b l w m f).soil.map λn=>V.int (n:Nat))) (fs':=aG "ground" (.ref g) (fy b l w m f [])) keepT insT hg;have keep_g:∀c u,H c=some u->c≠wl->upd (upd HT g (.lst ((begun b l w m f).soil.map λn=>V.int (n:Nat)))) wl (.ins C dx (aG "ground" (.ref g) (fy b l w m f []))) c=some u:=λc u q n=>kp_g c u (keepT c u q n) n;replace ins_g:_=some (HO.ins C dx (fy b l w m f [("ground",.ref g)])):=ins_g;generalize upd (upd HT g (.lst ((begun b l w m f).soil.map λn=>V.int (n:Nat)))) wl (.ins C dx (aG "ground" (.ref g) (fy b l w m f [])))=H_g at*;intro fr hfr;refine⟨_,rfl,wl,C,dx,_,rfl,Kp.laid hfr _ _ ins_g,T.cl,T.nFr,few (by show 6<20;decide),?_⟩;obtain⟨ins_fr,kp_fr,at_fr,nw_fr,fresh_fr⟩:=fi (o:=.dM []) (fs':=aG "frames" (.ref fr) (fy b l w m f [("ground",.ref g)])) keep_g ins_g hfr;have keep_fr:∀c u,H c=some u->c≠wl->upd (upd H_g fr (.dM [])) wl (.ins C dx (aG "frames" (.ref fr) (fy b l w m f [("ground",.ref g)]))) c=some u:=λc u q n=>kp_fr c u (keep_g c u q n) n;have ne_g_fr:g≠fr:=ay at_g hfr;replace at_g:=kp_fr _ _ at_g nw_g;replace ins_fr:_=some (HO.ins C dx (fy b l w m f [("ground",.ref g),("frames",.ref fr)])):=ins_fr;generalize upd (upd H_g fr (.dM [])) wl (.ins C dx (aG "frames" (.ref fr) (fy b l w m f [("ground",.ref g)])))=H_fr at*;intro ti hti;refine⟨_,rfl,wl,C,dx,_,rfl,Kp.laid hti _ _ ins_fr,T.cl,T.nTi,few (by show 7<20;decide),?_⟩;obtain⟨ins_ti,kp_ti,at_ti,nw_ti,fresh_ti⟩:=fi (o:=.dM []) (fs':=aG "ties" (.ref ti) (fy b l w m f [("ground",.ref g),("frames",.ref fr)])) keep_fr ins_fr hti;have keep_ti:∀c u,H c=some u->c≠wl->upd (upd H_fr ti (.dM [])) wl (.ins C dx (aG "ties" (.ref ti) (fy b l w m f [("ground",.ref g),("frames",.ref fr)]))) c=some u:=λc u q n=>kp_ti c u (keep_fr c u q n) n;have ne_g_ti:g≠ti:=ay at_g hti;replace at_g:=kp_ti _ _ at_g nw_g;have ne_fr_ti:fr≠ti:=ay at_fr hti;replace at_fr:=kp_ti _ _ at_fr nw_fr;replace ins_ti:_=some (HO.ins C dx (fy b l w m f [("ground",.ref g),("frames",.ref fr),("ties",.ref ti)])):=ins_ti;generalize upd (upd H_fr ti (.dM [])) wl (.ins C dx (aG "ties" (.ref ti) (fy b l w m f [("ground",.ref g),("frames",.ref fr)])))=H_ti at*;intro th hth;refine⟨_,rfl,wl,C,dx,_,rfl,Kp.laid hth _ _ ins_ti,T.cl,T.nTh,few (by show 8<20;decide),?_⟩;obtain⟨ins_th,kp_th,at_th,nw_th,fresh_th⟩:=fi (o:=.dM []) (fs':=aG "things" (.ref th) (fy b l w m f [("ground",.ref g),("frames",.ref fr),("ties",.ref ti)])) keep_ti ins_ti hth;have keep_th:∀c u,H c=some u->c≠wl->upd (upd H_ti th (.dM [])) wl (.ins C dx (aG "things" (.ref th) (fy b l w m f [("ground",.ref g),("frames",.ref fr),("ties",.ref ti)]))) c=some u:=λc u q n=>kp_th c u (keep_ti c u q n) n;have ne_g_th:g≠th:=ay at_g hth;replace at_g:=kp_th _ _ at_g nw_g;have ne_fr_th:fr≠th:=ay at_fr hth;replace at_fr:=kp_th _ _ at_fr nw_fr;have ne_ti_th:ti≠th:=ay at_ti hth;replace at_ti:=kp_th _ _ at_ti nw_ti;replace ins_th:_=some (HO.ins C dx (fy b l w m f [("ground",.ref g),("frames",.ref fr),("ties",.ref ti),("things",.ref th)])):=ins_th;generalize upd (upd H_ti th (.dM [])) wl (.ins C dx (aG "things" (.ref th) (fy b l w m f [("ground",.ref g),("frames",.ref fr),("ties",.ref ti)])))=H_th at*;intro la hla;refine⟨_,rfl,wl,C,dx,_,rfl,Kp.laid hla _ _ ins_th,T.cl,T.nLa,few (by show 9<20;decide),?_⟩;obtain⟨ins_la,kp_la,at_la,nw_la,fresh_la⟩:=fi (o:=.dM []) (fs':=aG "ladders" (.ref la) (fy b l w m f [("ground",.ref g),("frames",.ref fr),("ties",.ref ti),("things",.ref th)])) keep_th ins_th hla;have keep_la:∀c u,H c=some u->c≠wl->upd (upd H_th la (.dM [])) wl (.ins C dx (aG "ladders" (.ref la) (fy b l w m f [("ground",.ref g),("frames",.ref fr),("ties",.ref ti),("things",.ref th)]))) c=some u:=λc u q n=>kp_la c u (keep_th c u q n) n;have ne_g_la:g≠la:=ay at_g hla;replace at_g:=kp_la _ _ at_g nw_g;have ne_fr_la:fr≠la:=ay at_fr hla;replace at_fr:=kp_la _ _ at_fr nw_fr;have ne_ti_la:ti≠la:=ay at_ti hla;replace at_ti:=kp_la _ _ at_ti nw_ti;have ne_th_la:th≠la:=ay at_th hla;replace at_th:=kp_la _ _ at_th nw_th;replace ins_la:_=some (HO.ins C dx (fy b l w m f [("ground",.ref g),("frames",.ref fr),("ties",.ref ti),("things",.ref th),("ladders",.ref la)])):=ins_la;generalize upd (upd H_th la (.dM [])) wl (.ins C dx (aG "ladders" (.ref la) (fy b l w m f [("ground",.ref g),("frames",.ref fr),("ties",.ref ti),("things",.ref th)])))=H_la at*;refine⟨da _,λwe hwe=>?_⟩;refine⟨_,rfl,wl,C,dx,_,rfl,Kp.laid hwe _ _ ins_la,T.cl,T.nWe,few (by show 10<20;decide),?_⟩;obtain⟨ins_we,kp_we,at_we,nw_we,fresh_we⟩:=fi (o:=.lst []) (fs':=aG "weights" (.ref we) (fy b l w m f [("ground",.ref g),("frames",.ref fr),("ties",.ref ti),("things",.ref th),("ladders",.ref la)])) keep_la ins_la hwe;have keep_we:∀c u,H c=some u->c≠wl->upd (upd H_la we (.lst [])) wl (.ins C dx (aG "weights" (.ref we) (fy b l w m f [("ground",.ref g),("frames",.ref fr),("ties",.ref ti),("things",.ref th),("ladders",.ref la)]))) c=some u:=λc u q n=>kp_we c u (keep_la c u q n) n;have ne_g_we:g≠we:=ay at_g hwe;replace at_g:=kp_we _ _ at_g nw_g;have ne_fr_we:fr≠we:=ay at_fr hwe;replace at_fr:=kp_we _ _ at_fr nw_fr;have ne_ti_we:ti≠we:=ay at_ti hwe;replace at_ti:=kp_we _ _ at_ti nw_ti;have ne_th_we:th≠we:=ay at_th hwe;replace at_th:=kp_we _ _ at_th nw_th;have ne_la_we:la≠we:=ay at_la hwe;replace at_la:=kp_we _ _ at_la nw_la;replace ins_we:_=some (HO.ins C dx (fy b l w m f [("ground",.ref g),("frames",.ref fr),("ties",.ref ti),("things",.ref th),("ladders",.ref la),("weights",.ref we)])):=ins_we;generalize upd (upd H_la we (.lst [])) wl (.ins C dx (aG "weights" (.ref we) (fy b l w m f [("ground",.ref g),("frames",.ref fr),("ties",.ref ti),("things",.ref th),("ladders",.ref la)])))=H_we at*;refine⟨da _,λsp hsp=>?_⟩;refine⟨_,rfl,wl,C,dx,_,rfl,Kp.laid hsp _ _ ins_we,T.cl,T.nSp,few (by show 11<20;decide),?_⟩;obtain⟨ins_sp,kp_sp,at_sp,nw_sp,fresh_sp⟩:=fi (o:=.lst []) (fs':=aG "spots" (.ref sp) (fy b l w m f [("ground",.ref g),("frames",.ref fr),("ties",.ref ti),("things",.ref th),("ladders",.ref la),("weights",.ref we)])) keep_we ins_we hsp;have keep_sp:∀c u,H c=some u->c≠wl->upd (upd H_we sp (.lst [])) wl (.ins C dx (aG "spots" (.ref sp) (fy b l w m f [("ground",.ref g),("frames",.ref fr),("ties",.ref ti),("things",.ref th),("ladders",.ref la),("weights",.ref we)]))) c=some u:=λc u q n=>kp_sp c u (keep_we c u q n) n;have ne_g_sp:g≠sp:=ay at_g hsp;replace at_g:=kp_sp _ _ at_g nw_g;have ne_fr_sp:fr≠sp:=ay at_fr hsp;replace at_fr:=kp_sp _ _ at_fr nw_fr;have ne_ti_sp:ti≠sp:=ay at_ti hsp;replace at_ti:=kp_sp _ _ at_ti nw_ti;have ne_th_sp:th≠sp:=ay at_th hsp;replace at_th:=kp_sp _ _ at_th nw_th;have ne_la_sp:la≠sp:=ay at_la hsp;replace at_la:=kp_sp _ _ at_la nw_la;have ne_we_sp:we≠sp:=ay at_we hsp;replace at_we:=kp_sp _ _ at_we nw_we;replace ins_sp:_=some (HO.ins C dx (fy b l w m f [("ground",.ref g),("frames",.ref fr),("ties",.ref ti),("things",.ref th),("ladders",.ref la),("weights",.ref we),("spots",.ref sp)])):=ins_sp;generalize upd (upd H_we sp (.lst [])) wl (.ins C dx (aG "spots" (.ref sp) (fy b l w m f [("ground",.ref g),("frames",.ref fr),("ties",.ref ti),("things",.ref th),("ladders",.ref la),("weights",.ref we)])))=H_sp at*;refine k H_sp ⟨dx,g,fr,ti,th,la,we,sp,[],[],[],[],[]⟩ rfl keep_sp (λc hc=>?_) ⟨ins_sp,at_g,at_fr,at_ti,at_th,at_la,at_we,at_sp,.nil,FU rfl rfl rfl rfl,?_,?_⟩
  ·rcases hc with rfl|rfl|rfl|rfl|rfl|rfl|rfl|rfl|rfl
   ·exact .inl rfl
   ·exact .inr (.inl rfl)
   ·exact fresh_g
   ·exact fresh_fr
   ·exact fresh_ti
   ·exact fresh_th
   ·exact fresh_la
   ·exact fresh_we
   ·exact fresh_sp
  ·simp[ne_fr_ti,ne_fr_th,ne_fr_la,ne_ti_th,ne_ti_la,ne_th_la]
  ·simp[ne_g_we,ne_g_sp,ne_we_sp]
end
abbrev sCopied:Stmt:=bq 6
def j6(K:PySem.W.Frag)(C:Addr):Sp:=λvs H Q _=>∃wl a d,vs=[.ref wl]/\Sf a/\c7 K C H wl a d/\
 ∀H' o d',Kp H H'->(∀c,dD o d' c->H c=none)->aQ C H' o a d'->Q (.ref o) H'
section
variable{P:Program}{w:World}{K:PySem.W.Frag}{mg:Str->Option Value}{base:Heap}
theorem xN:bj ["wall","other"] ["wall"] (aM sCopied):=⟨rfl,rfl,rfl,by decide +kernel,rfl,by decide +kernel,by decide +kernel⟩
theorem CN{a:Abs}{d d':WD}(D:bU a d)(h1:d'.kf=d.kf)(h2:d'.kt=d.kt)(h3:d'.kh=d.kh)(h4:d'.kl=d.kl):bU a d':=by
 refine⟨?_,?_,?_,?_,?_,?_,?_,?_⟩
 ·rw[h1];exact D.f
 ·rw[h2];exact D.t
 ·rw[h3];exact D.h
 ·rw[h4];exact D.l
 ·rw[h1];exact D.fv
 ·rw[h2];exact D.tv
 ·rw[h3];exact D.hv
 ·rw[h4];exact D.lv
theorem DK{f fI C:Addr}{fd fdI:FuncData}(F:a8 K "copied" "copied" sCopied f fd)(T:bW K mg C)(M:Mk K C fI)(mC:mg "Wall"=some (.ref C))(hlst:mg "list"=none)(hdct:mg "dict"=none)
  (GI:ak P w K mg base au 1 fI fdI ["self","bays","levels","weight","most","free"] (sx C)) (bI:aN K fdI ["self","bays","levels","weight","most","free"] []):
  ak P w K mg base au 3 f fd ["wall"] (j6 K C):=by
 have boot_lst:bootBuiltins "list"=some (.type "list"):=by decide +kernel
 have boot_dct:bootBuiltins "dict"=some (.type "dict"):=by decide +kernel
 refine F.ok xN (λvs H Q E h=>?_) (λcdv A outer s H vs Q E hr h=>?_)
 ·obtain⟨wl,a,d,rfl,_⟩:=h;rfl
 ·obtain⟨wl,a,d,rfl,S,W,k⟩:=h;refine⟨_,ai (aS (i:=1) xN.nd rfl (Or.inl rfl) (vp M GI hr rfl mC bI .nil aU (ab (ax (pv 0) rfl) (ab (ax (pv 0) rfl) (ab (ax (pv 0) rfl) (ab (ax (pv 0) rfl) (ab (ax (pv 0) rfl) af)))))))
   (ai (dy (pv 1) (jt sE rfl hlst boot_lst (ab (ax (pv 0) rfl) af)) rfl)
   (ai (dy (pv 1) (jt oS rfl hdct boot_dct (ab (ax (pv 0) rfl) af)) rfl)
   (ai (dy (pv 1) (jt oS rfl hdct boot_dct (ab (ax (pv 0) rfl) af)) rfl)
   (ai (dy (pv 1) (jt oS rfl hdct boot_dct (ab (ax (pv 0) rfl) af)) rfl)
   (ai (dy (pv 1) (jt oS rfl hdct boot_dct (ab (ax (pv 0) rfl) af)) rfl)
   (ai (dy (pv 1) (jt sE rfl hlst boot_lst (ab (ax (pv 0) rfl) af)) rfl)
   (ai (dy (pv 1) (jt sE rfl hlst boot_lst (ab (ax (pv 0) rfl) af)) rfl)
   (aw (aF (pv 1)))))))))),?_⟩
  have few:∀{n:Nat},n<20->n<1000:=λ{n} h=>by omega
  refine⟨_,rfl,wl,C,d.dx,_,_,rfl,W.ins,T.cl,T.nB,rfl,_,rfl,wl,C,d.dx,_,_,rfl,W.ins,T.cl,T.nL,rfl,_,rfl,wl,C,d.dx,_,_,rfl,W.ins,T.cl,T.nW,rfl,_,rfl,wl,C,d.dx,_,_,rfl,W.ins,T.cl,T.nM,rfl,_,rfl,wl,C,d.dx,_,_,rfl,W.ins,T.cl,T.nF,rfl,?_⟩;intro o dx ho hdx ndo;refine⟨o,dx,a.bays,a.levels,a.weight,a.most,a.free,rfl,ao,S.b8,λH1 e edx keep1 own1 W1=>⟨rfl,?_⟩⟩;subst edx;have keep0:∀c u,H c=some u->c≠o->H1 c=some u:=λc u q n=>keep1 c u (by rw[ag n,ag (ay q hdx)];exact q) n;have ins0:=W1.ins;clear own1 keep1;replace ins0:H1 o=some (.ins C e.dx (fz a e.g e.fr e.ti e.th e.la e.we e.sp)):=ins0;have W_g:=W.kp (λc u q=>keep0 c u q (ay q ho));refine⟨_,rfl,wl,C,d.dx,_,_,rfl,W_g.ins,T.cl,T.nG,rfl,d.g,_,rfl,.inl W_g.g,λg hg=>?_⟩;refine⟨_,rfl,o,C,e.dx,_,rfl,Kp.laid hg _ _ ins0,T.cl,T.nG,few (by show 12<20;decide),?_⟩;obtain⟨ins_g,kp_g,at_g,nw_g,fresh_g⟩:=fi (o:=.lst (a.soil.map λn=>V.int (n:Nat))) (fs':=aG "ground" (.ref g) (fz a e.g e.fr e.ti e.th e.la e.we e.sp)) keep0 ins0 hg;have keep_g:∀c u,H c=some u->c≠o->upd (upd H1 g (.lst (a.soil.map λn=>V.int (n:Nat)))) o (.ins C e.dx (aG "ground" (.ref g) (fz a e.g e.fr e.ti e.th e.la e.we e.sp))) c=some u:=λc u q n=>kp_g c u (keep0 c u q n) n;replace ins_g:upd (upd H1 g (.lst (a.soil.map λn=>V.int (n:Nat)))) o (.ins C e.dx (aG "ground" (.ref g) (fz a e.g e.fr e.ti e.th e.la e.we e.sp))) o=some (HO.ins C e.dx (fz a g e.fr e.ti e.th e.la e.we e.sp)):=ins_g;generalize upd (upd H1 g (.lst (a.soil.map λn=>V.int (n:Nat)))) o (.ins C e.dx (aG "ground" (.ref g) (fz a e.g e.fr e.ti e.th e.la e.we e.sp)))=H_g at*;have W_fr:=W.kp (λc u q=>keep_g c u q (ay q ho));refine⟨_,rfl,wl,C,d.dx,_,_,rfl,W_fr.ins,T.cl,T.nFr,rfl,d.fr,_,rfl,W_fr.fr,W.ok.f.tuples,W.ok.f.hash S _ _,λfr hfr=>?_⟩;refine⟨_,rfl,o,C,e.dx,_,rfl,Kp.laid hfr _ _ ins_g,T.cl,T.nFr,few (by show 12<20;decide),?_⟩;obtain⟨ins_fr,kp_fr,at_fr,nw_fr,fresh_fr⟩:=fi (o:=.dM d.kf) (fs':=aG "frames" (.ref fr) (fz a g e.fr e.ti e.th e.la e.we e.sp)) keep_g ins_g hfr;have keep_fr:∀c u,H c=some u->c≠o->upd (upd H_g fr (.dM d.kf)) o (.ins C e.dx (aG "frames" (.ref fr) (fz a g e.fr e.ti e.th e.la e.we e.sp))) c=some u:=λc u q n=>kp_fr c u (keep_g c u q n) n;have ne_g_fr:g≠fr:=ay at_g hfr;replace at_g:=kp_fr _ _ at_g nw_g;replace ins_fr:upd (upd H_g fr (.dM d.kf)) o (.ins C e.dx (aG "frames" (.ref fr) (fz a g e.fr e.ti e.th e.la e.we e.sp))) o=some (HO.ins C e.dx (fz a g fr e.ti e.th e.la e.we e.sp)):=ins_fr;generalize upd (upd H_g fr (.dM d.kf)) o (.ins C e.dx (aG "frames" (.ref fr) (fz a g e.fr e.ti e.th e.la e.we e.sp)))=H_fr at*;have W_ti:=W.kp (λc u q=>keep_fr c u q (ay q ho));refine⟨_,rfl,wl,C,d.dx,_,_,rfl,W_ti.ins,T.cl,T.nTi,rfl,d.ti,_,rfl,W_ti.ti,W.ok.t.tuples,W.ok.t.hash S _ _,λti hti=>?_⟩;refine⟨_,rfl,o,C,e.dx,_,rfl,Kp.laid hti _ _ ins_fr,T.cl,T.nTi,few (by show 12<20;decide),?_⟩;obtain⟨ins_ti,kp_ti,at_ti,nw_ti,fresh_ti⟩:=fi (o:=.dM d.kt) (fs':=aG "ties" (.ref ti) (fz a g fr e.ti e.th e.la e.we e.sp)) keep_fr ins_fr hti;have keep_ti:∀c u,H c=some u->c≠o->upd (upd H_fr ti (.dM d.kt)) o (.ins C e.dx (aG "ties" (.ref ti) (fz a g fr e.ti e.th e.la e.we e.sp))) c=some u:=λc u q n=>kp_ti c u (keep_fr c u q n) n;have ne_g_ti:g≠ti:=ay at_g hti;replace at_g:=kp_ti _ _ at_g nw_g;have ne_fr_ti:fr≠ti:=ay at_fr hti;replace at_fr:=kp_ti _ _ at_fr nw_fr;replace ins_ti:upd (upd H_fr ti (.dM d.kt)) o (.ins C e.dx (aG "ties" (.ref ti) (fz a g fr e.ti e.th e.la e.we e.sp))) o=some (HO.ins C e.dx (fz a g fr ti e.th e.la e.we e.sp)):=ins_ti;generalize upd (upd H_fr ti (.dM d.kt)) o (.ins C e.dx (aG "ties" (.ref ti) (fz a g fr e.ti e.th e.la e.we e.sp)))=H_ti at*;have W_th:=W.kp (λc u q=>keep_ti c u q (ay q ho));refine⟨_,rfl,wl,C,d.dx,_,_,rfl,W_th.ins,T.cl,T.nTh,rfl,d.th,_,rfl,W_th.th,W.ok.h.tuples,W.ok.h.hash S _ _,λth hth=>?_⟩;refine⟨_,rfl,o,C,e.dx,_,rfl,Kp.laid hth _ _ ins_ti,T.cl,T.nTh,few (by show 12<20;decide),?_⟩;obtain⟨ins_th,kp_th,at_th,nw_th,fresh_th⟩:=fi (o:=.dM d.kh) (fs':=aG "things" (.ref th) (fz a g fr ti e.th e.la e.we e.sp)) keep_ti ins_ti hth;have keep_th:∀c u,H c=some u->c≠o->upd (upd H_ti th (.dM d.kh)) o (.ins C e.dx (aG "things" (.ref th) (fz a g fr ti e.th e.la e.we e.sp))) c=some u:=λc u q n=>kp_th c u (keep_ti c u q n) n;have ne_g_th:g≠th:=ay at_g hth;replace at_g:=kp_th _ _ at_g nw_g;have ne_fr_th:fr≠th:=ay at_fr hth;replace at_fr:=kp_th _ _ at_fr nw_fr;have ne_ti_th:ti≠th:=ay at_ti hth;replace at_ti:=kp_th _ _ at_ti nw_ti;replace ins_th:upd (upd H_ti th (.dM d.kh)) o (.ins C e.dx (aG "things" (.ref th) (fz a g fr ti e.th e.la e.we e.sp))) o=some (HO.ins C e.dx (fz a g fr ti th e.la e.we e.sp)):=ins_th;generalize upd (upd H_ti th (.dM d.kh)) o (.ins C e.dx (aG "things" (.ref th) (fz a g fr ti e.th e.la e.we e.sp)))=H_th at*;have W_la:=W.kp (λc u q=>keep_th c u q (ay q ho));refine⟨_,rfl,wl,C,d.dx,_,_,rfl,W_la.ins,T.cl,T.nLa,rfl,d.la,_,rfl,W_la.la,W.ok.l.tuples,W.ok.l.hash S _ _,λla hla=>?_⟩;refine⟨_,rfl,o,C,e.dx,_,rfl,Kp.laid hla _ _ ins_th,T.cl,T.nLa,few (by show 12<20;decide),?_⟩;obtain⟨ins_la,kp_la,at_la,nw_la,fresh_la⟩:=fi (o:=.dM d.kl) (fs':=aG "ladders" (.ref la) (fz a g fr ti th e.la e.we e.sp)) keep_th ins_th hla;have keep_la:∀c u,H c=some u->c≠o->upd (upd H_th la (.dM d.kl)) o (.ins C e.dx (aG "ladders" (.ref la) (fz a g fr ti th e.la e.we e.sp))) c=some u:=λc u q n=>kp_la c u (keep_th c u q n) n;have ne_g_la:g≠la:=ay at_g hla;replace at_g:=kp_la _ _ at_g nw_g;have ne_fr_la:fr≠la:=ay at_fr hla;replace at_fr:=kp_la _ _ at_fr nw_fr;have ne_ti_la:ti≠la:=ay at_ti hla;replace at_ti:=kp_la _ _ at_ti nw_ti;have ne_th_la:th≠la:=ay at_th hla;replace at_th:=kp_la _ _ at_th nw_th;replace ins_la:upd (upd H_th la (.dM d.kl)) o (.ins C e.dx (aG "ladders" (.ref la) (fz a g fr ti th e.la e.we e.sp))) o=some (HO.ins C e.dx (fz a g fr ti th la e.we e.sp)):=ins_la;generalize upd (upd H_th la (.dM d.kl)) o (.ins C e.dx (aG "ladders" (.ref la) (fz a g fr ti th e.la e.we e.sp)))=H_la at*;have W_we:=W.kp (λc u q=>keep_la c u q (ay q ho));refine⟨_,rfl,wl,C,d.dx,_,_,rfl,W_we.ins,T.cl,T.nWe,rfl,d.we,_,rfl,.inl W_we.we,λwe hwe=>?_⟩;refine⟨_,rfl,o,C,e.dx,_,rfl,Kp.laid hwe _ _ ins_la,T.cl,T.nWe,few (by show 12<20;decide),?_⟩;obtain⟨ins_we,kp_we,at_we,nw_we,fresh_we⟩:=fi (o:=.lst (a.people.map λp=>V.int (p.weight:Nat))) (fs':=aG "weights" (.ref we) (fz a g fr ti th la e.we e.sp)) keep_la ins_la hwe;have keep_we:∀c u,H c=some u->c≠o->upd (upd H_la we (.lst (a.people.map λp=>V.int (p.weight:Nat)))) o (.ins C e.dx (aG "weights" (.ref we) (fz a g fr ti th la e.we e.sp))) c=some u:=λc u q n=>kp_we c u (keep_la c u q n) n;have ne_g_we:g≠we:=ay at_g hwe;replace at_g:=kp_we _ _ at_g nw_g;have ne_fr_we:fr≠we:=ay at_fr hwe;replace at_fr:=kp_we _ _ at_fr nw_fr;have ne_ti_we:ti≠we:=ay at_ti hwe;replace at_ti:=kp_we _ _ at_ti nw_ti;have ne_th_we:th≠we:=ay at_th hwe;replace at_th:=kp_we _ _ at_th nw_th;have ne_la_we:la≠we:=ay at_la hwe;replace at_la:=kp_we _ _ at_la nw_la;replace ins_we:upd (upd H_la we (.lst (a.people.map λp=>V.int (p.weight:Nat)))) o (.ins C e.dx (aG "weights" (.ref we) (fz a g fr ti th la e.we e.sp))) o=some (HO.ins C e.dx (fz a g fr ti th la we e.sp)):=ins_we;generalize upd (upd H_la we (.lst (a.people.map λp=>V.int (p.weight:Nat)))) o (.ins C e.dx (aG "weights" (.ref we) (fz a g fr ti th la e.we e.sp)))=H_we at*;have W_sp:=W.kp (λc u q=>keep_we c u q (ay q ho));refine⟨_,rfl,wl,C,d.dx,_,_,rfl,W_sp.ins,T.cl,T.nSp,rfl,d.sp,_,rfl,.inl W_sp.sp,λsp hsp=>?_⟩;refine⟨_,rfl,o,C,e.dx,_,rfl,Kp.laid hsp _ _ ins_we,T.cl,T.nSp,few (by show 12<20;decide),?_⟩;obtain⟨ins_sp,kp_sp,at_sp,nw_sp,fresh_sp⟩:=fi (o:=.lst d.svs) (fs':=aG "spots" (.ref sp) (fz a g fr ti th la we e.sp)) keep_we ins_we hsp;have keep_sp:∀c u,H c=some u->c≠o->upd (upd H_we sp (.lst d.svs)) o (.ins C e.dx (aG "spots" (.ref sp) (fz a g fr ti th la we e.sp))) c=some u:=λc u q n=>kp_sp c u (keep_we c u q n) n;have ne_g_sp:g≠sp:=ay at_g hsp;replace at_g:=kp_sp _ _ at_g nw_g;have ne_fr_sp:fr≠sp:=ay at_fr hsp;replace at_fr:=kp_sp _ _ at_fr nw_fr;have ne_ti_sp:ti≠sp:=ay at_ti hsp;replace at_ti:=kp_sp _ _ at_ti nw_ti;have ne_th_sp:th≠sp:=ay at_th hsp;replace at_th:=kp_sp _ _ at_th nw_th;have ne_la_sp:la≠sp:=ay at_la hsp;replace at_la:=kp_sp _ _ at_la nw_la;have ne_we_sp:we≠sp:=ay at_we hsp;replace at_we:=kp_sp _ _ at_we nw_we;replace ins_sp:upd (upd H_we sp (.lst d.svs)) o (.ins C e.dx (aG "spots" (.ref sp) (fz a g fr ti th la we e.sp))) o=some (HO.ins C e.dx (fz a g fr ti th la we sp)):=ins_sp;generalize upd (upd H_we sp (.lst d.svs)) o (.ins C e.dx (aG "spots" (.ref sp) (fz a g fr ti th la we e.sp)))=H_sp at*;have free_:∀{v:Addr},v≠o->(v=o∨v=e.dx∨H v=none)->H v=none:=λ{v} n h=>by
   rcases h with h|h|h
   ·exact absurd h n
   ·rw[h];exact hdx
   ·exact h
  refine⟨_,rfl,k H_sp o ⟨e.dx,g,fr,ti,th,la,we,sp,d.kf,d.kt,d.kh,d.kl,d.svs⟩ (λc u q=>keep_sp c u q (ay q ho)) (λc hc=>?_) ⟨ins_sp,at_g,at_fr,at_ti,at_th,at_la,at_we,at_sp,W.spk.mono (λb xs q=>keep_sp _ _ q (ay q ho)),CN W.ok rfl rfl rfl rfl,?_,?_⟩⟩
  ·rcases hc with rfl|rfl|rfl|rfl|rfl|rfl|rfl|rfl|rfl
   ·exact ho
   ·exact hdx
   ·exact free_ nw_g fresh_g
   ·exact free_ nw_fr fresh_fr
   ·exact free_ nw_ti fresh_ti
   ·exact free_ nw_th fresh_th
   ·exact free_ nw_la fresh_la
   ·exact free_ nw_we fresh_we
   ·exact free_ nw_sp fresh_sp
  ·simp[ne_fr_ti,ne_fr_th,ne_fr_la,ne_ti_th,ne_ti_la,ne_th_la]
  ·simp[ne_g_we,ne_g_sp,ne_we_sp]
end
structure TxtC(mg:Str->Option Value):Prop where
 noSuch:∃t,mg "NO_SUCH"=some (.int (-2) t)
 noneThere:∃t,mg "NONE_THERE"=some (.int (-6) t)
 stuck:∃t,mg "STUCK"=some (.int (-12) t)
 hasLadder:∃t,mg "HAS_LADDER"=some (.int (-13) t)
 isTied:∃t,mg "IS_TIED"=some (.int (-14) t)
 notEmpty:∃t,mg "NOT_EMPTY"=some (.int (-15) t)
 carries:∃t,mg "CARRIES"=some (.int (-16) t)
 soAlready:∃t,mg "SO_ALREADY"=some (.int (-17) t)
 outOf:∃t,mg "OUT_OF_RANGE"=some (.int (-22) t)
 tooMany:∃t,mg "TOO_MANY"=some (.int (-28) t)
 cannotBe:∃t,mg "CANNOT_BE"=some (.int (-33) t)
 tooHigh:∃t,mg "TOO_HIGH"=some (.int (-40) t)
 tooMuch:∃t,mg "TOO_MUCH"=some (.int (-41) t)
 mostThings:∃t,mg "MOST_THINGS"=some (.int 1000 t)
 mostPersons:∃t,mg "MOST_PERSONS"=some (.int 8 t)
 heaviest:∃t,mg "HEAVIEST_PERSON"=some (.int 200 t)
 groundBears:∃t,mg "GROUND_BEARS"=some (.int 10000 t)
 stands:∃t,mg "STANDS"=some (.int 1 t)
structure aX(Pt wl:Addr)(d:WD)(H H':Hp):Prop where
 keep:∀b o,H b=some o->b≠Pt->¬dD wl d b->H' b=some o
 tab:bx H Pt bu bz->bx H' Pt bu bz
theorem aX.of{Pt wl:Addr}{d:WD}{H H':Hp}(x:aj Pt H H'):aX Pt wl d H H':=⟨λb o q n _=>x.keep b o q n,x.tab⟩
theorem aX.trans{Pt wl:Addr}{d:WD}{H H1 H2:Hp}(x:aX Pt wl d H H1)(y:aX Pt wl d H1 H2):aX Pt wl d H H2:=⟨λb o q n m=>y.keep b o (x.keep b o q n m) n m,λt=>y.tab (x.tab t)⟩
theorem aQ.upd_tab{C Pt wl:Addr}{H:Hp}{a:Abs}{d:WD}{c:Addr}{u o:HO}(t:bx H Pt bu bz)(hc:H c=some u)(h1:∀ps,u≠.tbl ps)(h2:∀c q,u≠ic c q):bx (upd H c o) Pt bu bz:=by
 rcases t with t|⟨c',t,t2⟩
 ·exact .inl (by rw[ag (aC t hc (bP (h1 _)))];exact t)
 ·exact .inr ⟨c',by rw[ag (aC t hc (bP (h1 _)))];exact t,by rw[ag (aC t2 hc (bP (h2 _ _)))];exact t2⟩
def eF(K:PySem.W.Frag)(C Pt:Addr)(n:Nat)(cl:List Nat->Call):Sp:=λvs H Q _=>∃wl nl a d,∃xs:List Nat,vs=[.ref wl,.ref nl]/\xs.length=n/\Wf a/\aQ C H wl a d/\SqL K H nl (xs.map λx=>V.int (x:Nat))/\¬dD wl d nl/\bx H Pt bu bz/\
 ∀H' z,aX Pt wl d H H'->z=(does a (cl xs)).2.value->(0<=z->∃d',(∀c,dD wl d' c->dD wl d c)/\aQ C H' wl (does a (cl xs)).1 d')->Q (.int z) H'
def lA(K:PySem.W.Frag)(C Pt:Addr)(n:Nat)(cl:List Nat->Call):Sp:=λvs H Q _=>∃wl nl a d,∃xs:List Nat,vs=[.ref wl,.ref nl]/\xs.length=n/\Wf a/\aQ C H wl a d/\(SqL K H nl (xs.map λx=>V.int (x:Nat))∨bo K H nl (xs.map λx=>V.int (x:Nat)))/\bx H Pt bu bz/\
 ∀H' z,aX Pt wl d H H'->z=(does a (cl xs)).2.value->(0<=z->∃d',(∀c,dD wl d' c->dD wl d c)/\aQ C H' wl (does a (cl xs)).1 d')->Q (.int z) H'
theorem oP{K:PySem.W.Frag}{H:Hp}{nl:Addr}{xs:List V}{i:Int}{v:V}{Q:VK}(h:SqL K H nl xs∨bo K H nl xs)(e:iQ xs i=some v)(q:Q v H):w9 K (.ref nl) (.int i) H Q:=by
 rcases h with h|h
 ·exact .inl ⟨nl,xs,i,v,rfl,rfl,h,e,q⟩
 ·exact .inr (.inl ⟨nl,xs,i,v,rfl,rfl,h,e,q⟩)
abbrev sSoil:Stmt:=bq 42
section
variable{P:Program}{w:World}{K:PySem.W.Frag}{mg:Str->Option Value}{base:Heap}
theorem rb:bj ["wall","numbers","bay","before"] ["wall","numbers"] (aM sSoil):=⟨rfl,rfl,rfl,by decide +kernel,rfl,by decide +kernel,by decide +kernel⟩
theorem qL(a:Abs)(b n:Nat):does a (.soil b n)=if a.bays<=b∨SOIL<n then(a,no (-22))else if({a with soil:=a.soil.set b n}:Abs).safe=false then(a,no (-41))else({a with soil:=a.soil.set b n},num (a.soil.getD b 0) []):=rfl
theorem qY{n j:Nat}(h:j<n):ij n (j:Int)=some j:=by
 unfold ij;rw[if_pos (by omega),if_pos (by omega),jg]
theorem aQ.soil{C wl:Addr}{H:Hp}{a:Abs}{d:WD}(W:aQ C H wl a d)(b n:Nat):aQ C (upd H d.g (.lst (({a with soil:=a.soil.set b n}:Abs).soil.map λn=>V.int (n:Nat)))) wl {a with soil:=a.soil.set b n} d:=by
 have nl:=W.nl;simp only[cG,a9,gr,gs,dI]at nl;obtain⟨⟨n1,n2⟩,n3,_⟩:=nl;have st:∀{c:Addr} {o:HO},H c=some o->c≠d.g->upd H d.g (.lst (({a with soil:=a.soil.set b n}:Abs).soil.map λn=>V.int (n:Nat))) c=some o:=λ{c o} q ne=>by rw[ag ne];exact q
 exact⟨st W.ins (aC W.ins W.g (λz=>nomatch z)),ao,st W.fr (aC W.fr W.g (λz=>nomatch z)),st W.ti (aC W.ti W.g (λz=>nomatch z)),st W.th (aC W.th W.g (λz=>nomatch z)),st W.la (aC W.la W.g (λz=>nomatch z)),
  st W.we (bP n1),st W.sp (bP n2),W.spk.mono (λb xs q=>st q (aC q W.g (λz=>nomatch z))),⟨⟨W.ok.f.nd,W.ok.f.at_⟩,⟨W.ok.t.nd,W.ok.t.at_⟩,⟨W.ok.h.nd,W.ok.h.at_⟩,⟨W.ok.l.nd,W.ok.l.at_⟩,W.ok.fv,W.ok.tv,W.ok.hv,W.ok.lv⟩,W.nd,W.nl⟩
theorem aX.own{Pt wl:Addr}{C:Addr}{H:Hp}{a:Abs}{d:WD}{c:Addr}{u o:HO}(hc:H c=some u)(hO:dD wl d c)(h1:∀ps,u≠.tbl ps)(h2:∀c q,u≠ic c q):aX Pt wl d H (upd H c o):=
 ⟨λb o' q n m=>by
  rw[ag (λz:b=c=>m (by rw[z];exact hO))];exact q,λt=>aQ.upd_tab (C:=C) (wl:=wl) (a:=a) (d:=d) t hc h1 h2⟩
theorem EY{f fM C Pt:Addr}{fd fdM:FuncData}(F:a8 K "soil" "soil" sSoil f fd)(T:bW K mg C)(TC:TxtC mg)
  (GM:ak P w K mg base au 6 fM fdM ["wall"] (iq K C Pt λa=>!a.safe)) (kM:PySem.W.keepIn K (.ref fM)=true) (bM:aN K fdM ["wall"] []) (mM:mg "too_much"=some (.ref fM)):
  ak P w K mg base au 7 f fd ["wall","numbers"] (eF K C Pt 2 λxs=>.soil (xs.getD 0 0) (xs.getD 1 0)):=by
 obtain⟨tgb,hgb⟩:=TC.groundBears;obtain⟨too,hoo⟩:=TC.outOf;obtain⟨ttm,htm⟩:=TC.tooMuch;refine F.ok rb (λvs H Q E h=>?_) (λcdv A outer s H vs Q E hr h=>?_)
 ·obtain⟨wl,nl,a,d,xs,rfl,_⟩:=h;rfl
 ·obtain⟨wl,nl,a,d,xs,rfl,hxl,Wa,W,hnl,hno,hT,k⟩:=h;obtain⟨b,n,rfl⟩:∃b n,xs=[b,n]:=by
   match xs,hxl with
   | [b,n],_=>exact⟨b,n,rfl⟩
  refine⟨_,ai (aS (i:=2) rb.nd rfl (Or.inl rfl) (aL bf (pv 1) aq (λ_ _=>rfl)))
   (ai (aV (PW.pt (jJ (aR i8 (pv 2) (ax (pv 0) rfl) (b7 _)) (jC (aR iX (aL bf (pv 1) aq (λ_ _=>rfl)) (aP (v:=.int 10000) rfl hgb ⟨tgb,rfl⟩) (b7 _)))))
    (aw (aF (aP (v:=.int (-22)) rfl hoo ⟨too,rfl⟩))) aY)
   (ai (aS (i:=3) rb.nd rfl (Or.inl rfl) (aL bf (ax (pv 0) rfl) (pv 2) (λ_ _=>rfl)))
   (ai (rG (aL bf (pv 1) aq (λ_ _=>rfl)) (sL (ax (pv 0) rfl) (pv 2) qD))
   (ai (aV (eO (bg GM hr rfl mM kM bM .nil aU (ab (pv 0) af))) (aw (aF (aP (v:=.int (-41)) rfl htm ⟨ttm,rfl⟩))) aY)
   (aw (aF (pv 3))))))),?_⟩
  refine⟨_,rfl,nl,_,0,_,rfl,rfl,hnl,aK (j:=0) rfl,?_⟩;refine⟨_,rfl,_,rfl,wl,C,d.dx,_,_,rfl,W.ins,T.cl,T.nB,rfl,_,_,rfl,rfl,_,rfl,?_⟩;have out:(a.bays<=b∨SOIL<n)->Q (.int (-22)) H:=λh=>k H (-22) (.of aj.refl) (by show _=(does a (.soil b n)).2.value;rw[qL,if_pos h];rfl) (λz=>absurd z (by decide));refine bZ (λe=>?_) (λe=>?_)
  ·exact out (.inl (by have:=ck e;omega))
  ·have hb:b<a.bays:=by
    have:¬((a.bays:Int)<=(b:Int)):=λz=>e (aO z);omega
   refine⟨_,rfl,nl,_,1,_,rfl,rfl,hnl,aK (j:=1) rfl,_,_,rfl,rfl,_,rfl,?_⟩;refine bZ (λe2=>?_) (λe2=>?_)
   ·exact out (.inr (by have:=ck e2;unfold SOIL;omega))
   ·have hn:n<=10000:=by
     have:¬((10000:Int)<(n:Int)):=λz=>e2 (aO z);omega
    have hsb:(a.soil.map λn=>V.int (n:Nat))[b]?=some (V.int (a.soil.getD b 0:Nat)):=by
     rw[bY,du,aZ (by rw[Wa.slen];exact hb)];rfl
    refine⟨_,rfl,wl,C,d.dx,_,_,rfl,W.ins,T.cl,T.nG,rfl,_,rfl,d.g,_,b,_,rfl,rfl,SqL.of W.g,aK hsb,?_⟩;refine⟨_,rfl,nl,_,1,_,rfl,rfl,hnl,aK (j:=1) rfl,?_⟩;refine⟨_,rfl,wl,C,d.dx,_,_,rfl,W.ins,T.cl,T.nG,rfl,_,rfl,d.g,_,b,b,rfl,rfl,W.g,?_,?_⟩
    ·rw[List.length_map,Wa.slen];exact qY hb
    have eset:(a.soil.map λn=>V.int (n:Nat)).set b (V.int (n:Nat))=({a with soil:=a.soil.set b n}:Abs).soil.map λn=>V.int (n:Nat):=by
     show _=(a.soil.set b n).map _;rw[List.map_set]
    have W2:=W.soil b n;have c2:aX Pt wl d H (upd H d.g (.lst (({a with soil:=a.soil.set b n}:Abs).soil.map λn=>V.int (n:Nat)))):=aX.own (C:=C) (a:=a) W.g (.inr (.inr (.inl rfl))) (λ_ z=>nomatch z) (λ_ _ z=>nomatch z);have e1:does a (.soil b n)=if({a with soil:=a.soil.set b n}:Abs).safe=false then(a,no (-41))else({a with soil:=a.soil.set b n},num (a.soil.getD b 0) []):=by
     rw[qL,if_neg];rintro(z|z)
     ·omega
     ·unfold SOIL at z;omega
    have S2:Sf {a with soil:=a.soil.set b n}:=FH Wa.sf hn;dsimp only;rw[eset];refine⟨_,rfl,wl,{a with soil:=a.soil.set b n},d,rfl,S2,W2.r,W2.fr,c2.tab hT,λH3 x3=>?_⟩;have W3:=W2.ext x3 (c2.tab hT);refine⟨_,rfl,?_⟩;refine bZ (λe=>?_) (λe=>?_)
    ·have q:({a with soil:=a.soil.set b n}:Abs).safe=false:=by
      have e':(!({a with soil:=a.soil.set b n}:Abs).safe)=true:=e;simpa using e'
     rw[q,if_pos rfl]at e1;refine k H3 (-41) (c2.trans (.of x3)) ?_ (λz=>absurd z (by decide));show _=(does a (.soil b n)).2.value;rw[e1];rfl
    ·have q:({a with soil:=a.soil.set b n}:Abs).safe=true:=by
      have e':¬(!({a with soil:=a.soil.set b n}:Abs).safe)=true:=e;simpa using e'
     rw[q,if_neg (by decide)]at e1;refine⟨_,rfl,k H3 _ (c2.trans (.of x3)) ?_ λ_=>⟨d,λc h=>h,?_⟩⟩
     ·show _=(does a (.soil b n)).2.value;rw[e1];rfl
     ·show aQ C H3 wl (does a (.soil b n)).1 d;rw[e1];exact W3
end
theorem sJ:∀(kvs:List (MK×V)) (k j:MK),aE (bK kvs k) j=if j=k then none else aE kvs j
 | [],k,j=>by
  show aE [] j=_;split<;>rfl
 |p::r,k,j=>by
  by_cases e:p.1=k
  ·rw[zE e,sJ r k j];by_cases z:j=k
   ·rw[if_pos z,if_pos z]
   ·rw[if_neg z,if_neg z,eJ (λq=>z (q.symm.trans e))]
  ·rw[Dt e];by_cases z:p.1=j
   ·rw[fg z,if_neg (λq=>e (z.trans q)),fg z]
   ·rw[eJ z,sJ r k j,eJ z]
theorem lp{a a':Abs}{kvs:List (MK×V)}{b l:Nat}{v:V}(k:cS a kvs)(hm:∀x y,a.there x y=true->a'.there x y=true)(ht:a'.there b l=true):cS a' (bt kvs (key b l) v):=by
 cases q:aE kvs (key b l)with
 |some u=>
  have e:=wX (v:=v) q;refine⟨by rw[e];exact k.nd,λp hp=>?_⟩;have h1:p.1∈kvs.map (·.1):=by rw[←e];exact bh.mpr ⟨p,hp,rfl⟩
  obtain⟨r,hr,e1⟩:=bh.mp h1;obtain⟨x,y,e2,ht2⟩:=k.at_ r hr;exact⟨x,y,e1.symm.trans e2,hm x y ht2⟩
 |none=>
  rw[lU _ q];refine⟨?_,λp hp=>?_⟩
  ·rw[cf];refine kQ.mpr ⟨k.nd,by simp,λu hu v' hv e=>?_⟩;rw[aW,List.map_nil,cF]at hv;exact qW q (by rw[show key b l=u from(e.trans hv).symm];exact hu)
  ·rcases cK.mp hp with h|h
   ·obtain⟨x,y,e2,ht2⟩:=k.at_ p h;exact⟨x,y,e2,hm x y ht2⟩
   ·rw[cF.mp h];exact⟨b,l,rfl,ht⟩
theorem pL{a a':Abs}{kvs:List (MK×V)}{b l:Nat}(k:cS a kvs)(hm:∀x y,a.there x y=true->¬(x=b/\y=l)->a'.there x y=true):cS a' (bK kvs (key b l)):=by
 refine⟨?_,λp hp=>?_⟩
 ·exact k.nd.sublist (List.Sublist.map _ jd)
 ·obtain⟨x,y,e2,ht2⟩:=k.at_ p (Bq hp);refine⟨x,y,e2,hm x y ht2 λz=>?_⟩;have:=(cV.mp hp).2;have:=ck this;exact this (by rw[e2,z.1,z.2])
theorem de{a a':Abs}{kvs:List (MK×V)}(k:cS a kvs)(hm:∀x y,a.there x y=true->(aE kvs (key x y)).isSome=true->a'.there x y=true):cS a' kvs:=by
 refine⟨k.nd,λp hp=>?_⟩;obtain⟨x,y,e2,ht2⟩:=k.at_ p hp;refine⟨x,y,e2,hm x y ht2 ?_⟩;rw[←e2,gw k.nd (show(p.1,p.2)∈kvs from hp)];rfl
theorem iM{a:Abs}{d d':WD}(D:bU a d)(flen:a.frames.length=a.n){b l:Nat}{g:Su56.Frame->Su56.Frame}(hb:b<a.bays)(hl:l<a.levels)
  (f:cS (a.set b l g) d'.kf) (t:cS (a.set b l g) d'.kt) (h:cS (a.set b l g) d'.kh) (la:cS (a.set b l g) d'.kl)
  (fv:∀x y,aE d'.kf (key x y)=if x=b/\y=l then(if(g (a.frame b l)).kind≠0 then some (.int ((g (a.frame b l)).kind:Nat))else none)else aE d.kf (key x y))
  (tv:∀x y,aE d'.kt (key x y)=if x=b/\y=l then(if(g (a.frame b l)).tie=true then some (.bl true)else none)else aE d.kt (key x y))
  (hv:∀x y,(aE d'.kh (key x y)).getD (.int 0)=if x=b/\y=l then .int ((g (a.frame b l)).things:Nat)else(aE d.kh (key x y)).getD (.int 0))
  (lv:∀x y,aE d'.kl (key x y)=if x=b/\y=l then(if(g (a.frame b l)).ladder=true then some (.bl true)else none)else aE d.kl (key x y)):bU (a.set b l g) d':=by
 have fr:=fu (f:=g) flen hb hl;have th:=gu (f:=g) flen hb hl;refine⟨f,t,h,la,λx y=>?_,λx y=>?_,λx y=>?_,λx y=>?_⟩
 ·rw[fv,th,fr];by_cases e:x=b/\y=l
  ·rw[if_pos e,if_pos e,if_pos e];by_cases z:(g (a.frame b l)).kind=0
   ·rw[if_neg (by simp[z]),if_neg (by simp[z])]
   ·rw[if_pos z,if_pos (by simp[z])]
  ·rw[if_neg e,if_neg e,if_neg e];exact D.fv x y
 ·rw[tv,fr];by_cases e:x=b/\y=l
  ·rw[if_pos e,if_pos e]
  ·rw[if_neg e,if_neg e];exact D.tv x y
 ·rw[hv,fr];by_cases e:x=b/\y=l
  ·rw[if_pos e,if_pos e]
  ·rw[if_neg e,if_neg e];exact D.hv x y
 ·rw[lv,fr];by_cases e:x=b/\y=l
  ·rw[if_pos e,if_pos e]
  ·rw[if_neg e,if_neg e];exact D.lv x y
theorem kP{b l x y:Nat}:key x y=key b l↔(x=b/\y=l):=⟨hW,λz=>by rw[z.1,z.2]⟩
theorem Bf{a:Abs}{d:WD}(S:Sf a)(D:bU a d){b l kd:Nat}(hb:b<a.bays)(hl:l<a.levels)(hn:a.there b l=false)(hk:kd≠0):bU (a.raised b l kd) {d with kf:=bt d.kf (key b l) (.int (kd:Nat))}:=by
 have hfr:a.frame b l=none_:=S.non b l (oJ.mp hn);have th:=gu (f:=λ_=>⟨kd,false,0,false⟩) S.flen hb hl;have hm:∀x y,a.there x y=true->(a.raised b l kd).there x y=true:=λx y h=>by
  show(a.set b l _).there x y=true;rw[th];split
  ·simpa using hk
  ·exact h
 have ht:(a.raised b l kd).there b l=true:=by
  show(a.set b l _).there b l=true;rw[th,if_pos ⟨rfl,rfl⟩];simpa using hk
 refine iM D S.flen hb hl (lp D.f hm ht) (de D.t λx y h _=>hm x y h) (de D.h λx y h _=>hm x y h) (de D.l λx y h _=>hm x y h) (λx y=>?_) (λx y=>?_) (λx y=>?_) (λx y=>?_)
 ·show aE (bt d.kf (key b l) _) (key x y)=_;rw[oA];by_cases e:x=b/\y=l
  ·rw[if_pos (kP.mpr e),if_pos e,if_pos hk]
  ·rw[if_neg (λz=>e (kP.mp z)),if_neg e]
 ·by_cases e:x=b/\y=l
  ·rw[if_pos e,e.1,e.2];have:=D.tv b l;rw[hfr]at this;exact this
  ·rw[if_neg e]
 ·by_cases e:x=b/\y=l
  ·rw[if_pos e,e.1,e.2];have:=D.hv b l;rw[hfr]at this;exact this
  ·rw[if_neg e]
 ·by_cases e:x=b/\y=l
  ·rw[if_pos e,e.1,e.2];have:=D.lv b l;rw[hfr]at this;exact this
  ·rw[if_neg e]
section
variable{a:Abs}{d:WD}{b l:Nat}
theorem j2(S:Sf a){g:Su56.Frame->Su56.Frame}(ht:a.there b l=true)(hk:(g (a.frame b l)).kind=(a.frame b l).kind)(x y:Nat):(a.set b l g).there x y=a.there x y:=by
 rw[gu S.flen (az ht).1 (az ht).2];by_cases e:x=b/\y=l
 ·rw[if_pos e,hk,e.1,e.2];rfl
 ·rw[if_neg e]
theorem jY(D:bU a d)(ht:a.there b l=true){k:Nat}(hk:k=(a.frame b l).kind)(x y:Nat):aE d.kf (key x y)=if x=b/\y=l then(if k≠0 then some (.int (k:Nat))else none)else aE d.kf (key x y):=by
 by_cases e:x=b/\y=l
 ·rw[if_pos e,e.1,e.2,D.fv,if_pos ht,hk,if_pos (dc.mp ht)]
 ·rw[if_neg e]
theorem mI(D:bU a d){k:Bool}(hk:k=(a.frame b l).tie)(x y:Nat):aE d.kt (key x y)=if x=b/\y=l then(if k=true then some (.bl true)else none)else aE d.kt (key x y):=by
 by_cases e:x=b/\y=l
 ·rw[if_pos e,e.1,e.2,D.tv,hk]
 ·rw[if_neg e]
theorem nY(D:bU a d){k:Nat}(hk:k=(a.frame b l).things)(x y:Nat):(aE d.kh (key x y)).getD (.int 0)=if x=b/\y=l then .int (k:Nat)else(aE d.kh (key x y)).getD (.int 0):=by
 by_cases e:x=b/\y=l
 ·rw[if_pos e,e.1,e.2,D.hv,hk]
 ·rw[if_neg e]
theorem mr(D:bU a d){k:Bool}(hk:k=(a.frame b l).ladder)(x y:Nat):aE d.kl (key x y)=if x=b/\y=l then(if k=true then some (.bl true)else none)else aE d.kl (key x y):=by
 by_cases e:x=b/\y=l
 ·rw[if_pos e,e.1,e.2,D.lv,hk]
 ·rw[if_neg e]
theorem pA{kvs:List (MK×V)}{v:V}(x y:Nat):aE (bt kvs (key b l) v) (key x y)=if x=b/\y=l then some v else aE kvs (key x y):=by
 rw[oA];by_cases e:x=b/\y=l
 ·rw[if_pos (kP.mpr e),if_pos e]
 ·rw[if_neg (λz=>e (kP.mp z)),if_neg e]
theorem nS{kvs:List (MK×V)}(x y:Nat):aE (bK kvs (key b l)) (key x y)=if x=b/\y=l then none else aE kvs (key x y):=by
 rw[sJ];by_cases e:x=b/\y=l
 ·rw[if_pos (kP.mpr e),if_pos e]
 ·rw[if_neg (λz=>e (kP.mp z)),if_neg e]
theorem Fk(S:Sf a)(D:bU a d)(ht:a.there b l=true):bU (a.set b l λx=>{x with tie:=true}) {d with kt:=bt d.kt (key b l) (.bl true)}:=by
 have th:=j2 (g:=λx=>{x with tie:=true}) S ht rfl;have hm:∀x y,a.there x y=true->(a.set b l λx=>{x with tie:=true}).there x y=true:=λx y h=>by rw[th];exact h
 exact iM D S.flen (az ht).1 (az ht).2 (de D.f λx y h _=>hm x y h) (lp D.t hm (hm b l ht)) (de D.h λx y h _=>hm x y h) (de D.l λx y h _=>hm x y h)
  (jY D ht rfl) pA (nY D rfl) (mr D rfl)
theorem FR(S:Sf a)(D:bU a d)(ht:a.there b l=true):bU (a.set b l λx=>{x with tie:=false}) {d with kt:=bK d.kt (key b l)}:=by
 have th:=j2 (g:=λx=>{x with tie:=false}) S ht rfl;have hm:∀x y,a.there x y=true->(a.set b l λx=>{x with tie:=false}).there x y=true:=λx y h=>by rw[th];exact h
 exact iM D S.flen (az ht).1 (az ht).2 (de D.f λx y h _=>hm x y h) (pL D.t λx y h _=>hm x y h) (de D.h λx y h _=>hm x y h) (de D.l λx y h _=>hm x y h)
  (jY D ht rfl) nS (nY D rfl) (mr D rfl)
theorem ve(S:Sf a)(D:bU a d)(ht:a.there b l=true){g:Nat->Nat}{n:Nat}(hn:n=g (a.frame b l).things):bU (a.set b l λx=>{x with things:=g x.things}) {d with kh:=bt d.kh (key b l) (.int (n:Nat))}:=by
 have th:=j2 (g:=λx=>{x with things:=g x.things}) S ht rfl;have hm:∀x y,a.there x y=true->(a.set b l λx=>{x with things:=g x.things}).there x y=true:=λx y h=>by rw[th];exact h
 refine iM D S.flen (az ht).1 (az ht).2 (de D.f λx y h _=>hm x y h) (de D.t λx y h _=>hm x y h) (lp D.h hm (hm b l ht)) (de D.l λx y h _=>hm x y h)
  (jY D ht rfl) (mI D rfl) (λx y=>?_) (mr D rfl)
 show(aE (bt d.kh (key b l) _) (key x y)).getD _=_;rw[pA];by_cases e:x=b/\y=l
 ·rw[if_pos e,if_pos e,hn];rfl
 ·rw[if_neg e,if_neg e]
theorem zP(S:Sf a)(D:bU a d)(ht:a.there b l=true):bU (a.set b l λx=>{x with ladder:=true}) {d with kl:=bt d.kl (key b l) (.bl true)}:=by
 have th:=j2 (g:=λx=>{x with ladder:=true}) S ht rfl;have hm:∀x y,a.there x y=true->(a.set b l λx=>{x with ladder:=true}).there x y=true:=λx y h=>by rw[th];exact h
 exact iM D S.flen (az ht).1 (az ht).2 (de D.f λx y h _=>hm x y h) (de D.t λx y h _=>hm x y h) (de D.h λx y h _=>hm x y h) (lp D.l hm (hm b l ht))
  (jY D ht rfl) (mI D rfl) (nY D rfl) pA
theorem yA(S:Sf a)(D:bU a d)(ht:a.there b l=true):bU (a.set b l λx=>{x with ladder:=false}) {d with kl:=bK d.kl (key b l)}:=by
 have th:=j2 (g:=λx=>{x with ladder:=false}) S ht rfl;have hm:∀x y,a.there x y=true->(a.set b l λx=>{x with ladder:=false}).there x y=true:=λx y h=>by rw[th];exact h
 exact iM D S.flen (az ht).1 (az ht).2 (de D.f λx y h _=>hm x y h) (de D.t λx y h _=>hm x y h) (de D.h λx y h _=>hm x y h) (pL D.l λx y h _=>hm x y h)
  (jY D ht rfl) (mI D rfl) (nY D rfl) nS
theorem As(S:Sf a)(D:bU a d)(ht:a.there b l=true)(h1:(a.frame b l).tie=false)(h2:(a.frame b l).ladder=false):bU (a.set b l λ_=>none_) {d with kf:=bK d.kf (key b l),kh:=bK d.kh (key b l)}:=by
 have th:=gu (f:=λ_=>none_) S.flen (az ht).1 (az ht).2;have hm:∀x y,a.there x y=true->¬(x=b/\y=l)->(a.set b l λ_=>none_).there x y=true:=λx y h n=>by rw[th,if_neg n];exact h
 refine iM D S.flen (az ht).1 (az ht).2 (pL D.f hm) (de D.t λx y h q=>hm x y h λz=>?_) (pL D.h hm) (de D.l λx y h q=>hm x y h λz=>?_)
  nS (mI D h1.symm) (λx y=>?_) (mr D h2.symm)
 ·rw[z.1,z.2,D.tv,h1]at q;cases q
 ·rw[z.1,z.2,D.lv,h2]at q;cases q
 ·show(aE (bK d.kh (key b l)) (key x y)).getD _=_;rw[nS];by_cases e:x=b/\y=l
  ·rw[if_pos e,if_pos e];rfl
  ·rw[if_neg e,if_neg e]
end
section
variable{C wl:Addr}{H:Hp}{a:Abs}{d:WD}{b l:Nat}{g:Su56.Frame->Su56.Frame}{kv:List (MK×V)}
theorem aQ.put_fr(W:aQ C H wl a d)(D:bU (a.set b l g) {d with kf:=kv}):aQ C (upd H d.fr (.dM kv)) wl (a.set b l g) {d with kf:=kv}:=by
 have nd:=W.nd;simp only[cG,a9,gr,gs,dI]at nd;obtain⟨⟨n1,n2,n3⟩,⟨n4,n5⟩,n6,_⟩:=nd;have st:∀{c:Addr} {o:HO},H c=some o->c≠d.fr->upd H d.fr (.dM kv) c=some o:=λ{c o} q ne=>by rw[ag ne];exact q
 exact⟨st W.ins (aC W.ins W.fr (λz=>nomatch z)),st W.g (aC W.g W.fr (λz=>nomatch z)),ao,st W.ti (bP n1),st W.th (bP n2),st W.la (bP n3),st W.we (aC W.we W.fr (λz=>nomatch z)),st W.sp (aC W.sp W.fr (λz=>nomatch z)),W.spk.mono (λb xs q=>st q (aC q W.fr (λz=>nomatch z))),D,W.nd,W.nl⟩
theorem aQ.put_ti(W:aQ C H wl a d)(D:bU (a.set b l g) {d with kt:=kv}):aQ C (upd H d.ti (.dM kv)) wl (a.set b l g) {d with kt:=kv}:=by
 have nd:=W.nd;simp only[cG,a9,gr,gs,dI]at nd;obtain⟨⟨n1,n2,n3⟩,⟨n4,n5⟩,n6,_⟩:=nd;have st:∀{c:Addr} {o:HO},H c=some o->c≠d.ti->upd H d.ti (.dM kv) c=some o:=λ{c o} q ne=>by rw[ag ne];exact q
 exact⟨st W.ins (aC W.ins W.ti (λz=>nomatch z)),st W.g (aC W.g W.ti (λz=>nomatch z)),st W.fr n1,ao,st W.th (bP n4),st W.la (bP n5),st W.we (aC W.we W.ti (λz=>nomatch z)),st W.sp (aC W.sp W.ti (λz=>nomatch z)),W.spk.mono (λb xs q=>st q (aC q W.ti (λz=>nomatch z))),D,W.nd,W.nl⟩
theorem aQ.put_th(W:aQ C H wl a d)(D:bU (a.set b l g) {d with kh:=kv}):aQ C (upd H d.th (.dM kv)) wl (a.set b l g) {d with kh:=kv}:=by
 have nd:=W.nd;simp only[cG,a9,gr,gs,dI]at nd;obtain⟨⟨n1,n2,n3⟩,⟨n4,n5⟩,n6,_⟩:=nd;have st:∀{c:Addr} {o:HO},H c=some o->c≠d.th->upd H d.th (.dM kv) c=some o:=λ{c o} q ne=>by rw[ag ne];exact q
 exact⟨st W.ins (aC W.ins W.th (λz=>nomatch z)),st W.g (aC W.g W.th (λz=>nomatch z)),st W.fr n2,st W.ti n4,ao,st W.la (bP n6),st W.we (aC W.we W.th (λz=>nomatch z)),st W.sp (aC W.sp W.th (λz=>nomatch z)),W.spk.mono (λb xs q=>st q (aC q W.th (λz=>nomatch z))),D,W.nd,W.nl⟩
theorem aQ.put_la(W:aQ C H wl a d)(D:bU (a.set b l g) {d with kl:=kv}):aQ C (upd H d.la (.dM kv)) wl (a.set b l g) {d with kl:=kv}:=by
 have nd:=W.nd;simp only[cG,a9,gr,gs,dI]at nd;obtain⟨⟨n1,n2,n3⟩,⟨n4,n5⟩,n6,_⟩:=nd;have st:∀{c:Addr} {o:HO},H c=some o->c≠d.la->upd H d.la (.dM kv) c=some o:=λ{c o} q ne=>by rw[ag ne];exact q
 exact⟨st W.ins (aC W.ins W.la (λz=>nomatch z)),st W.g (aC W.g W.la (λz=>nomatch z)),st W.fr n3,st W.ti n5,st W.th n6,ao,st W.we (aC W.we W.la (λz=>nomatch z)),st W.sp (aC W.sp W.la (λz=>nomatch z)),W.spk.mono (λb xs q=>st q (aC q W.la (λz=>nomatch z))),D,W.nd,W.nl⟩
end
abbrev sHas:Stmt:=bq 40
abbrev sSetUp:Stmt:=bq 41
def rQ(K:PySem.W.Frag)(C:Addr):Sp:=λvs H Q _=>∃wl q a d,∃b l:Nat,vs=[.ref wl,.ref q]/\c7 K C H wl a d/\bX H q b l/\Q (.bl (a.isAt b l)) H
def nT(K:PySem.W.Frag)(C Pt:Addr):Sp:=λvs H Q _=>∃wl q a d,∃b l kd:Nat,vs=[.ref wl,.ref q,.int kd]/\Wf a/\aQ C H wl a d/\bX H q b l/\bx H Pt bu bz/\b<a.bays/\l<a.levels/\a.there b l=false/\kd≠0/\Sf (a.raised b l kd)/\
 ∀H' z,aX Pt wl d H H'->z=(a.tries (a.raised b l kd)).2.value->(0<=z->∃d',(∀c,dD wl d' c->dD wl d c)/\aQ C H' wl (a.tries (a.raised b l kd)).1 d')->Q (.int z) H'
theorem oQ{a:Abs}{d:WD}(S:Sf a)(D:bU a d):d.kf.length=a.all.length:=by
 have h1:∀kvs:List (MK×V),(kvs.map (·.1)).Nodup->(∀p∈kvs,∃b l:Nat,p.1=key b l/\a.there b l=true)->∃cs:List Nat,cs.length=kvs.length/\cs.Nodup/\(∀c∈cs,c∈a.all/\∃b l:Nat,a.there b l=true/\c=a.place b l/\key b l∈kvs.map (·.1))/\∀b l:Nat,key b l∈kvs.map (·.1)->a.place b l∈cs:=by
  intro kvs
  induction kvs with
  |nil=>exact λ_ _=>⟨[],rfl,List.nodup_nil,(λc h=>nomatch h),(λb l h=>nomatch h)⟩
  |cons p r ih=>
   intro hn ha;rw[aW,cG]at hn;obtain⟨cs,e,nd,hc,hk⟩:=ih hn.2 λq hq=>ha q (List.mem_cons_of_mem _ hq);obtain⟨b,l,e1,ht⟩:=ha p (List.mem_cons_self ..);refine⟨a.place b l::cs,by simp[e],cG.mpr ⟨λhm=>?_,nd⟩,λc h=>?_,λb' l' h=>?_⟩
   ·obtain⟨_,b',l',ht',e2,hm'⟩:=hc _ hm;obtain⟨rfl,rfl⟩:=ka (az ht).1 (az ht').1 e2;exact hn.1 (by rw[e1];exact hm')
   ·rcases a9.mp h with rfl|h
    ·exact⟨jl ht,b,l,ht,rfl,by rw[aW,←e1];exact List.mem_cons_self ..⟩
    ·obtain⟨h1,b',l',h2,h3,h4⟩:=hc c h;exact⟨h1,b',l',h2,h3,List.mem_cons_of_mem _ h4⟩
   ·rw[aW]at h;rcases a9.mp h with h|h
    ·obtain⟨rfl,rfl⟩:=hW (h.trans e1);exact List.mem_cons_self ..
    ·exact List.mem_cons_of_mem _ (hk b' l' h)
 obtain⟨cs,e,nd,hc,hk⟩:=h1 d.kf D.f.nd D.f.at_;rw[←e];refine Nat.le_antisymm (jE nd λc h=>(hc c h).1) (jE (pM a) λc h=>?_);obtain⟨_,h2⟩:=fJ.mp h;have:=hk (a.bay c) (a.level c) (iH (show aE d.kf (key (a.bay c) (a.level c))=some (.int (a.frame (a.bay c) (a.level c)).kind) by rw[D.fv,if_pos h2]));rw[gy]at this;exact this
section
variable{P:Program}{w:World}{K:PySem.W.Frag}{mg:Str->Option Value}{base:Heap}
theorem CI:bj ["wall","place"] ["wall","place"] (aM sHas):=⟨rfl,rfl,rfl,by decide +kernel,rfl,by decide +kernel,by decide +kernel⟩
theorem Bw{f C:Addr}{fd:FuncData}(F:a8 K "has_place" "has_place" sHas f fd)(T:bW K mg C):ak P w K mg base au 1 f fd ["wall","place"] (rQ K C):=by
 refine F.ok CI (λvs H Q E h=>?_) (λcdv A outer s H vs Q E hr h=>?_)
 ·obtain⟨wl,q,a,d,b,l,rfl,_⟩:=h;rfl
 ·obtain⟨wl,q,a,d,b,l,rfl,W,hq,k⟩:=h;refine⟨_,aw (aF (Bv (iY pD (aL cR (pv 1) aq (λ_ _=>rfl)) (ax (pv 0) rfl) (b7 _)) (Br (iY pD (aL cR (pv 1) aq (λ_ _=>rfl)) (ax (pv 0) rfl) (b7 _))))),?_⟩;refine⟨_,rfl,q,_,0,_,rfl,rfl,bo.of hq,aK (j:=0) rfl,_,rfl,wl,C,d.dx,_,_,rfl,W.ins,T.cl,T.nB,rfl,_,_,rfl,rfl,_,rfl,?_⟩;unfold Abs.isAt at k;refine bZ (λe=>?_) (λe=>?_)
  ·have e':b<a.bays:=by have:=ck e;omega
   rw[aO e',zo]at k;refine⟨_,rfl,q,_,1,_,rfl,rfl,bo.of hq,aK (j:=1) rfl,_,rfl,wl,C,d.dx,_,_,rfl,W.ins,T.cl,T.nL,rfl,_,_,rfl,rfl,?_⟩;have:decide ((l:Int)<(a.levels:Int))=decide (l<a.levels):=decide_eq_decide.mpr (by omega);dsimp only;rw[this];exact k
  ·have e':¬b<a.bays:=λz=>e (aO (by show(b:Int)<(a.bays:Int);omega));rw[ba e',pY]at k;exact k
theorem Bb:bj ["wall","place","kind"] ["wall","place","kind"] (aM sSetUp):=⟨rfl,rfl,rfl,by decide +kernel,rfl,by decide +kernel,by decide +kernel⟩
theorem Fd{f fM fH C Pt:Addr}{fd fdM fdH:FuncData}(F:a8 K "set_up" "set_up" sSetUp f fd)(T:bW K mg C)(TC:TxtC mg)(hlen:mg "len"=none)
  (GM:ak P w K mg base au 6 fM fdM ["wall"] (iq K C Pt λa=>!a.safe)) (kM:PySem.W.keepIn K (.ref fM)=true) (bM:aN K fdM ["wall"] []) (mM:mg "too_much"=some (.ref fM))
  (GH:ak P w K mg base au 6 fH fdH ["wall"] (iq K C Pt λa=>!a.steady)) (kH:PySem.W.keepIn K (.ref fH)=true) (bH:aN K fdH ["wall"] []) (mH:mg "too_high"=some (.ref fH)):
  ak P w K mg base au 7 f fd ["wall","place","kind"] (nT K C Pt):=by
 obtain⟨tth,hth⟩:=TC.tooHigh;obtain⟨ttm,htm⟩:=TC.tooMuch;refine F.ok Bb (λvs H Q E h=>?_) (λcdv A outer s H vs Q E hr h=>?_)
 ·obtain⟨wl,q,a,d,b,l,kd,rfl,_⟩:=h;rfl
 ·obtain⟨wl,q,a,d,b,l,kd,rfl,Wa,W,hq,hT,hb,hl,hn,hk,S1,k⟩:=h;have hu:=cP hr;refine⟨_,ai (gN hu (ax (pv 0) rfl) (pv 1) (pv 2) rfl)
   (ai (aV (eO (bg GH hr rfl mH kH bH .nil aU (ab (pv 0) af))) (aw (aF (aP (v:=.int (-40)) rfl hth ⟨tth,rfl⟩))) aY)
   (ai (aV (eO (bg GM hr rfl mM kM bM .nil aU (ab (pv 0) af))) (aw (aF (aP (v:=.int (-41)) rfl htm ⟨ttm,rfl⟩))) aY)
   (aw (aF (cx i7 rfl hlen g0 (ab (ax (pv 0) rfl) af)))))),?_⟩
  have h48:=W.ok.f.len Wa.sf;refine⟨_,rfl,_,rfl,wl,C,d.dx,_,_,rfl,W.ins,T.cl,T.nFr,rfl,_,rfl,d.fr,d.kf,key b l,rfl,W.fr,⟨q,rfl,hq⟩,bc h48 (by decide),?_⟩;have D1:=Bf Wa.sf W.ok hb hl hn hk;have W1:aQ C _ wl (a.raised b l kd) {d with kf:=bt d.kf (key b l) (.int (kd:Nat))}:=W.put_fr D1;have c1:aX Pt wl d H (upd H d.fr (.dM (bt d.kf (key b l) (.int (kd:Nat))))):=aX.own (C:=C) (a:=a) W.fr (.inr (.inr (.inr (.inl rfl)))) (λ_ z=>nomatch z) (λ_ _ z=>nomatch z);refine⟨_,rfl,wl,a.raised b l kd,_,rfl,S1,W1.r,W1.fr,c1.tab hT,λH3 x3=>?_⟩;have T3:=x3.tab (c1.tab hT);have W3:=W1.ext x3 (c1.tab hT);have c3:aX Pt wl d H H3:=c1.trans (.of x3);refine⟨_,rfl,?_⟩;refine bZ (λe=>?_) (λe=>?_)
  ·have q:(a.raised b l kd).steady=false:=by
    have e':(!(a.raised b l kd).steady)=true:=e;simpa using e'
   refine k H3 (-40) c3 ?_ (λz=>absurd z (by decide));unfold Abs.tries;rw[if_pos q];rfl
  ·have q:(a.raised b l kd).steady=true:=by
    have e':¬(!(a.raised b l kd).steady)=true:=e;simpa using e'
   refine⟨_,rfl,wl,a.raised b l kd,_,rfl,S1,W3.r,W3.fr,T3,λH4 x4=>?_⟩;have W4:=W3.ext x4 T3;have c4:aX Pt wl d H H4:=c3.trans (.of x4);refine⟨_,rfl,?_⟩;refine bZ (λe=>?_) (λe=>?_)
   ·have q2:(a.raised b l kd).safe=false:=by
     have e':(!(a.raised b l kd).safe)=true:=e;simpa using e'
    refine k H4 (-41) c4 ?_ (λz=>absurd z (by decide));unfold Abs.tries;rw[if_neg (by rw[q];decide),if_pos q2];rfl
   ·have q2:(a.raised b l kd).safe=true:=by
     have e':¬(!(a.raised b l kd).safe)=true:=e;simpa using e'
    have e5:a.tries (a.raised b l kd)=(a.raised b l kd,num (a.raised b l kd).all.length []):=by
     unfold Abs.tries;rw[if_neg (by rw[q];decide),if_neg (by rw[q2];decide)]
    refine⟨_,rfl,wl,C,d.dx,_,_,rfl,W4.ins,T.cl,T.nFr,rfl,d.fr,_,rfl,.inl W4.fr,?_⟩;refine k H4 _ c4 ?_ λ_=>⟨{d with kf:=bt d.kf (key b l) (.int (kd:Nat))},λc h=>h,?_⟩
    ·rw[e5];show((bt d.kf (key b l) (.int (kd:Nat))).length:Int)=Int.ofNat (a.raised b l kd).all.length;rw[←oQ S1 D1];rfl
    ·rw[e5];exact W4
end
abbrev sPut:Stmt:=bq 43
theorem uq{a:Abs}(W:Sf a){b l k:Nat}(hb:b<a.bays)(hl:l<a.levels)(hk:k=1∨k=2)(k1:k=1->0<l->a.there b (l-1)=true)
  (k2:k=2->0<b/\0<l/\a.there (b-1) (l-1)=true/\a.there (b+1) (l-1)=true):Sf (a.raised b l k):=by
 refine rS W hb hl (by show k<=2;omega) (λh=>?_) k1 k2 (λh=>by cases h) (.inl (by show k≠0;omega));have h':k=0:=h;omega
theorem me(a:Abs)(b l:Nat):does a (.put b l)=if a.isAt b l=false then(a,no (-22))else if a.there b l then(a,no (-17))else if 0<l/\a.there b (l-1)=false then(a,no (-33))else a.tries (a.raised b l 1):=rfl
theorem dP{a:Abs}{d:WD}(D:bU a d)(b l:Nat):(aE d.kf (key b l)).isSome=a.there b l:=by
 rw[D.fv];cases h:a.there b l<;>rfl
section
variable{P:Program}{w:World}{K:PySem.W.Frag}{mg:Str->Option Value}{base:Heap}
theorem wA:bj ["wall","numbers","place"] ["wall","numbers"] (aM sPut):=⟨rfl,rfl,rfl,by decide +kernel,rfl,by decide +kernel,by decide +kernel⟩
theorem Dg{f fHas fB fS C Pt:Addr}{fd fdHas fdB fdS:FuncData}(F:a8 K "put" "put" sPut f fd)(T:bW K mg C)(TC:TxtC mg)
  (GA:ak P w K mg base au 1 fHas fdHas ["wall","place"] (rQ K C)) (kA:PySem.W.keepIn K (.ref fHas)=true) (bA:aN K fdHas ["wall","place"] []) (mA:mg "has_place"=some (.ref fHas))
  (GB:ak P w K mg base au 1 fB fdB ["place"] jW) (kB:PySem.W.keepIn K (.ref fB)=true) (bB:aN K fdB ["place"] []) (mB:mg "below"=some (.ref fB))
  (GS:ak P w K mg base au 7 fS fdS ["wall","place","kind"] (nT K C Pt)) (kS:PySem.W.keepIn K (.ref fS)=true) (bS:aN K fdS ["wall","place","kind"] []) (mS:mg "set_up"=some (.ref fS)):
  ak P w K mg base au 8 f fd ["wall","numbers"] (eF K C Pt 2 λxs=>.put (xs.getD 0 0) (xs.getD 1 0)):=by
 obtain⟨too,hoo⟩:=TC.outOf;obtain⟨tso,hso⟩:=TC.soAlready;obtain⟨tcb,hcb⟩:=TC.cannotBe;obtain⟨tst,hst⟩:=TC.stands;refine F.ok wA (λvs H Q E h=>?_) (λcdv A outer s H vs Q E hr h=>?_)
 ·obtain⟨wl,nl,a,d,xs,rfl,_⟩:=h;rfl
 ·obtain⟨wl,nl,a,d,xs,rfl,hxl,Wa,W,hnl,hno,hT,k⟩:=h;obtain⟨b,l,rfl⟩:∃b n,xs=[b,n]:=by
   match xs,hxl with
   | [b,n],_=>exact⟨b,n,rfl⟩
  have hu:=cP hr;refine⟨_,ai (aS (i:=2) wA.nd rfl (Or.inl rfl) (c8 (ab (aL bf (pv 1) aq (λ_ _=>rfl)) (ab (aL bf (pv 1) aq (λ_ _=>rfl)) af))))
   (ai (aV (jm (eO (bg (GA.mono (k:=7) (by decide)) hr rfl mA kA bA .nil aU (ab (pv 0) (ab (pv 2) af))))) (aw (aF (aP (v:=.int (-22)) rfl hoo ⟨too,rfl⟩))) aY)
   (ai (aV (aR (eE hu) (pv 2) (ax (pv 0) rfl) (by with_unfolding_all rfl)) (aw (aF (aP (v:=.int (-17)) rfl hso ⟨tso,rfl⟩))) aY)
   (ai (aV (PW.pt (uR (aR yy (aL cR (pv 2) aq (λ_ _=>rfl)) aq (b7 _)) (v9 (aR (dq hu) (bg (GB.mono (k:=7) (by decide)) hr rfl mB kB bB .nil aU (ab (pv 2) af)) (ax (pv 0) rfl) (by with_unfolding_all rfl)))))
    (aw (aF (aP (v:=.int (-33)) rfl hcb ⟨tcb,rfl⟩))) aY)
   (aw (aF (bg GS hr rfl mS kS bS .nil aU (ab (pv 0) (ab (pv 2) (ab (aP (v:=.int 1) rfl hst ⟨tst,rfl⟩) af))))))))),?_⟩
  refine⟨_,rfl,nl,_,0,_,rfl,rfl,hnl,aK (j:=0) rfl,_,rfl,nl,_,1,_,rfl,rfl,hnl,aK (j:=1) rfl,(by show 2<=sizeLine;decide),λt ht=>?_⟩;have kt:Kp H (upd H t (.tup [.int (b:Nat),.int (l:Nat)])):=Kp.laid ht;have W1:=W.kp kt;have hq:bX (upd H t (.tup [.int (b:Nat),.int (l:Nat)])) t b l:=ao;have x1:aj Pt H (upd H t (.tup [.int (b:Nat),.int (l:Nat)])):=aj.all kt;have T1:=x1.tab hT;show dz _ _ _ _ (upd H t (.tup [.int (b:Nat),.int (l:Nat)]));generalize upd H t (.tup [.int (b:Nat),.int (l:Nat)])=H1 at kt W1 hq x1 T1⊢;have ref:∀{H':Hp} (x:aj Pt H H') (z:Int),z<0->z=(does a (.put b l)).2.value->Q (.int z) H':=λ{H'} x z h e=>k H' z (.of x) e λh'=>absurd h (by omega);refine⟨_,rfl,_,rfl,wl,t,a,d,b,l,rfl,W1.r,hq,_,rfl,?_⟩;cases q1:a.isAt b l with
  |false=>exact ref x1 (-22) (by decide) (by rw[me,if_pos q1];rfl)
  |true=>
   have hbl:b<a.bays/\l<a.levels:=by
    unfold Abs.isAt at q1;simpa using q1
   refine⟨_,rfl,_,rfl,wl,C,d.dx,_,_,rfl,W1.ins,T.cl,T.nFr,rfl,d.fr,d.kf,key b l,rfl,.inl W1.fr,⟨t,rfl,hq⟩,_,rfl,?_⟩;rw[dP W.ok];cases q2:a.there b l with
   |true=>exact ref x1 (-17) (by decide) (by rw[me,if_neg (by rw[q1];decide),if_pos q2];rfl)
   |false=>
    refine⟨_,rfl,t,_,1,_,rfl,rfl,bo.of hq,aK (j:=1) rfl,rfl,_,rfl,?_⟩;have last:∀{H2:Hp},Kp H1 H2->¬(0<l/\a.there b (l-1)=false)->nT K C Pt [.ref wl,.ref t,.int 1] H2 Q E0:=λ{H2} k2 hc=>by
     have hc':0<l->a.there b (l-1)=true:=λz=>by
      cases q:a.there b (l-1)with
      |true=>rfl
      |false=>exact absurd ⟨z,q⟩ hc
     have e1:does a (.put b l)=a.tries (a.raised b l 1):=by
      rw[me,if_neg (by rw[q1];decide),if_neg (by rw[q2];decide),if_neg hc]
     refine⟨wl,t,a,d,b,l,1,rfl,Wa,W1.kp k2,k2 _ _ hq,(aj.all k2).tab T1,hbl.1,hbl.2,q2,by decide,uq Wa.sf hbl.1 hbl.2 (.inl rfl) (λ_=>hc') (λz=>absurd z (by decide)),λH' z c ez hw=>?_⟩;refine k H' z ((aX.of (x1.trans (aj.all k2))).trans c) ?_ ?_
     ·show z=(does a (.put b l)).2.value;rw[e1];exact ez
     ·show 0<=z->∃d',(∀c,dD wl d' c->dD wl d c)/\aQ C H' wl (does a (.put b l)).1 d';rw[e1];exact hw
    refine bZ (λe=>?_) (λe=>?_)
    ·have l0:¬l=0:=λz=>by
      subst z;exact absurd e (by decide)
     refine⟨_,rfl,t,b,l,rfl,hq,λt2 ht2=>?_⟩;have k2:=Kp.laid (o:=.tup [.int b,.int ((l:Int)-1)]) ht2;have W2:=W1.kp k2;refine⟨_,rfl,wl,C,d.dx,_,_,rfl,W2.ins,T.cl,T.nFr,rfl,d.fr,d.kf,key b (l-1),rfl,.inl W2.fr,⟨t2,rfl,?_⟩,_,rfl,?_⟩
     ·rw[ao,show((l-1:Nat):Int)=(l:Int)-1 by omega];rfl
     rw[dP W.ok];cases q3:a.there b (l-1)with
     |false=>exact ref (x1.trans (aj.all k2)) (-33) (by decide) (by rw[me,if_neg (by rw[q1];decide),if_neg (by rw[q2];decide),if_pos ⟨by omega,q3⟩];rfl)
     |true=>exact⟨_,rfl,_,rfl,last k2 (λz=>by rw[q3]at z;exact absurd z.2 (by decide))⟩
    ·have l0:l=0:=by
      by_cases z:l=0
      ·exact z
      ·refine absurd ?_ e;rw[ba (λh=>by injection h with h;exact z (by omega))];rfl
     exact⟨_,rfl,_,rfl,last (λ_ _ q=>q) (λz=>by omega)⟩
end
abbrev sTie:Stmt:=bq 46
theorem vS{a:Abs}{kvs:List (MK×V)}(k:cS a kvs){p:Nat->Bool}(h:∀b l,a.there b l=true->(aE kvs (key b l)).isSome=p (a.place b l)):kvs.length=(a.all.filter p).length:=by
 have h1:∀kvs:List (MK×V),(kvs.map (·.1)).Nodup->(∀p∈kvs,∃b l:Nat,p.1=key b l/\a.there b l=true)->∃cs:List Nat,cs.length=kvs.length/\cs.Nodup/\(∀c∈cs,c∈a.all/\∃b l:Nat,a.there b l=true/\c=a.place b l/\key b l∈kvs.map (·.1))/\∀b l:Nat,key b l∈kvs.map (·.1)->a.place b l∈cs:=by
  intro kvs
  induction kvs with
  |nil=>exact λ_ _=>⟨[],rfl,List.nodup_nil,(λc h=>nomatch h),(λb l h=>nomatch h)⟩
  |cons p r ih=>
   intro hn ha;rw[aW,cG]at hn;obtain⟨cs,e,nd,hc,hk⟩:=ih hn.2 λq hq=>ha q (List.mem_cons_of_mem _ hq);obtain⟨b,l,e1,ht⟩:=ha p (List.mem_cons_self ..);refine⟨a.place b l::cs,by simp[e],cG.mpr ⟨λhm=>?_,nd⟩,λc h=>?_,λb' l' h=>?_⟩
   ·obtain⟨_,b',l',ht',e2,hm'⟩:=hc _ hm;obtain⟨rfl,rfl⟩:=ka (az ht).1 (az ht').1 e2;exact hn.1 (by rw[e1];exact hm')
   ·rcases a9.mp h with rfl|h
    ·exact⟨jl ht,b,l,ht,rfl,by rw[aW,←e1];exact List.mem_cons_self ..⟩
    ·obtain⟨h1,b',l',h2,h3,h4⟩:=hc c h;exact⟨h1,b',l',h2,h3,List.mem_cons_of_mem _ h4⟩
   ·rw[aW]at h;rcases a9.mp h with h|h
    ·obtain⟨rfl,rfl⟩:=hW (h.trans e1);exact List.mem_cons_self ..
    ·exact List.mem_cons_of_mem _ (hk b' l' h)
 obtain⟨cs,e,nd,hc,hk⟩:=h1 kvs k.nd k.at_;have hin:∀j:MK,j∈kvs.map (·.1)->(aE kvs j).isSome=true:=λj hj=>by
  cases q:aE kvs j with
  |some v=>rfl
  |none=>exact absurd hj (qW q)
 rw[←e];refine Nat.le_antisymm (jE nd λc hc'=>?_) (jE ((pM a).sublist jd) λc hc'=>?_)
 ·obtain⟨h2,b,l,ht,rfl,hm⟩:=hc c hc';exact cV.mpr ⟨h2,by rw[←h b l ht];exact hin _ hm⟩
 ·obtain⟨h2,h3⟩:=cV.mp hc';obtain⟨_,h4⟩:=fJ.mp h2;have h5:=h _ _ h4;rw[gy,h3]at h5;obtain⟨v,hv⟩:=mQ.mp h5;have:=hk _ _ (iH hv);rw[gy]at this;exact this
theorem rZ{a:Abs}{d:WD}(D:bU a d):d.kt.length=a.ties:=by
 refine vS D.t λb l ht=>?_;rw[D.tv,←gF (az ht).1 (az ht).2];cases h:(a.frame b l).tie<;>rfl
theorem nP(a:Abs)(b l:Nat):does a (.tie b l)=if a.there b l=false then(a,no (-2))else if(a.frame b l).tie then(a,no (-17))else(a.set b l λx=>{x with tie:=true},num (a.ties+1) []):=rfl
theorem oX{a:Abs}{d:WD}(D:bU a d)(b l:Nat):(aE d.kt (key b l)).isSome=(a.frame b l).tie:=by
 rw[D.tv];cases h:(a.frame b l).tie<;>rfl
section
variable{P:Program}{w:World}{K:PySem.W.Frag}{mg:Str->Option Value}{base:Heap}
theorem xn:bj ["wall","numbers","place"] ["wall","numbers"] (aM sTie):=⟨rfl,rfl,rfl,by decide +kernel,rfl,by decide +kernel,by decide +kernel⟩
theorem A4{f C Pt:Addr}{fd:FuncData}(F:a8 K "tie" "tie" sTie f fd)(T:bW K mg C)(TC:TxtC mg)(hlen:mg "len"=none):
  ak P w K mg base au 1 f fd ["wall","numbers"] (eF K C Pt 2 λxs=>.tie (xs.getD 0 0) (xs.getD 1 0)):=by
 obtain⟨tns,hns⟩:=TC.noSuch;obtain⟨tso,hso⟩:=TC.soAlready;refine F.ok xn (λvs H Q E h=>?_) (λcdv A outer s H vs Q E hr h=>?_)
 ·obtain⟨wl,nl,a,d,xs,rfl,_⟩:=h;rfl
 ·obtain⟨wl,nl,a,d,xs,rfl,hxl,Wa,W,hnl,hno,hT,k⟩:=h;obtain⟨b,l,rfl⟩:∃b n,xs=[b,n]:=by
   match xs,hxl with
   | [b,n],_=>exact⟨b,n,rfl⟩
  have hu:=cP hr;refine⟨_,ai (aS (i:=2) xn.nd rfl (Or.inl rfl) (c8 (ab (aL bf (pv 1) aq (λ_ _=>rfl)) (ab (aL bf (pv 1) aq (λ_ _=>rfl)) af))))
   (ai (aV (aR (dq hu) (pv 2) (ax (pv 0) rfl) (by with_unfolding_all rfl)) (aw (aF (aP (v:=.int (-2)) rfl hns ⟨tns,rfl⟩))) aY)
   (ai (aV (aR (eE hu) (pv 2) (ax (pv 0) rfl) (by with_unfolding_all rfl)) (aw (aF (aP (v:=.int (-17)) rfl hso ⟨tso,rfl⟩))) aY)
   (ai (gN hu (ax (pv 0) rfl) (pv 2) qw rfl)
   (aw (aF (cx i7 rfl hlen g0 (ab (ax (pv 0) rfl) af))))))),?_⟩
  refine⟨_,rfl,nl,_,0,_,rfl,rfl,hnl,aK (j:=0) rfl,_,rfl,nl,_,1,_,rfl,rfl,hnl,aK (j:=1) rfl,(by show 2<=sizeLine;decide),λt ht=>?_⟩;have kt:Kp H (upd H t (.tup [.int (b:Nat),.int (l:Nat)])):=Kp.laid ht;have W1:=W.kp kt;have hq:bX (upd H t (.tup [.int (b:Nat),.int (l:Nat)])) t b l:=ao;have x1:aj Pt H (upd H t (.tup [.int (b:Nat),.int (l:Nat)])):=aj.all kt;show dz _ _ _ _ (upd H t (.tup [.int (b:Nat),.int (l:Nat)]));generalize upd H t (.tup [.int (b:Nat),.int (l:Nat)])=H1 at kt W1 hq x1⊢;have ref:∀{H':Hp} (x:aj Pt H H') (z:Int),z<0->z=(does a (.tie b l)).2.value->Q (.int z) H':=λ{H'} x z h e=>k H' z (.of x) e λh'=>absurd h (by omega);refine⟨_,rfl,_,rfl,wl,C,d.dx,_,_,rfl,W1.ins,T.cl,T.nFr,rfl,d.fr,d.kf,key b l,rfl,.inl W1.fr,⟨t,rfl,hq⟩,_,rfl,?_⟩;rw[dP W.ok];cases q1:a.there b l with
  |false=>exact ref x1 (-2) (by decide) (by rw[nP,if_pos q1];rfl)
  |true=>
   refine⟨_,rfl,_,rfl,wl,C,d.dx,_,_,rfl,W1.ins,T.cl,T.nTi,rfl,d.ti,d.kt,key b l,rfl,.inl W1.ti,⟨t,rfl,hq⟩,_,rfl,?_⟩;rw[oX W.ok];cases q2:(a.frame b l).tie with
   |true=>exact ref x1 (-17) (by decide) (by rw[nP,if_neg (by rw[q1];decide),if_pos q2];rfl)
   |false=>
    have h48:=W.ok.t.len Wa.sf;have e1:does a (.tie b l)=(a.set b l λx=>{x with tie:=true},num (a.ties+1) []):=by
     rw[nP,if_neg (by rw[q1];decide),if_neg (by rw[q2];decide)]
    refine⟨_,rfl,wl,C,d.dx,_,_,rfl,W1.ins,T.cl,T.nTi,rfl,_,rfl,d.ti,d.kt,key b l,rfl,W1.ti,⟨t,rfl,hq⟩,bc h48 (by decide),?_⟩;have D1:=Fk Wa.sf W.ok q1;have W2:=W1.put_ti D1;have c1:aX Pt wl d H1 (upd H1 d.ti (.dM (bt d.kt (key b l) (.bl true)))):=aX.own (C:=C) (a:=a) W1.ti (.inr (.inr (.inr (.inr (.inl rfl))))) (λ_ z=>nomatch z) (λ_ _ z=>nomatch z);refine⟨_,rfl,wl,C,d.dx,_,_,rfl,W2.ins,T.cl,T.nTi,rfl,d.ti,_,rfl,.inl W2.ti,?_⟩;refine k _ _ ((aX.of x1).trans c1) ?_ λ_=>⟨{d with kt:=bt d.kt (key b l) (.bl true)},λc h=>h,?_⟩
    ·show _=(does a (.tie b l)).2.value;have hnew:aE d.kt (key b l)=none:=by rw[W.ok.tv,q2];rfl
     rw[e1];show((bt d.kt (key b l) (.bl true)).length:Int)=Int.ofNat (a.ties+1);rw[lU _ hnew,df,rZ W.ok];rfl
    ·show aQ C _ wl (does a (.tie b l)).1 _;rw[e1];exact W2
end
abbrev sUntie:Stmt:=bq 47
abbrev sLadder:Stmt:=bq 50
abbrev sNoladder:Stmt:=bq 51
theorem mn{a:Abs}(W:Sf a){b l:Nat}{g:Su56.Frame->Su56.Frame}(ht:a.there b l=true)(hk:(g (a.frame b l)).kind=(a.frame b l).kind)(hl:(g (a.frame b l)).ladder=true->0<l->a.there b (l-1)=true):Sf (a.set b l g):=by
 have k0:=dc.mp ht;refine rS W (az ht).1 (az ht).2 (by rw[hk];exact W.kind b l) (λh=>absurd (hk▸h) k0) (λh z=>?_) (λh=>W.beam b l (hk▸h)) hl (.inl (by rw[hk];exact k0));rw[hk]at h;exact W.stands b (l-1) (by rw[show l-1+1=l by omega];exact h)
theorem qB{a:Abs}(W:Sf a){b l:Nat}(h:(a.frame b l).ladder=true)(z:0<l):a.there b (l-1)=true:=W.lad b (l-1) (by rw[show l-1+1=l by omega];exact h)
theorem lS(a:Abs)(b l:Nat):does a (.untie b l)=if a.there b l=false then(a,no (-2))else if(a.frame b l).tie=false then(a,no (-6))else if(a.set b l λx=>{x with tie:=false}).steady=false then(a,no (-40))else((a.set b l λx=>{x with tie:=false}),num (a.set b l λx=>{x with tie:=false}).ties []):=rfl
theorem mm(a:Abs)(b l:Nat):does a (.ladder b l)=if a.there b l=false then(a,no (-2))else if(a.frame b l).ladder then(a,no (-17))else if 0<l/\a.there b (l-1)=false then(a,no (-33))else(a.set b l λx=>{x with ladder:=true},no 0):=rfl
theorem pf(a:Abs)(b l:Nat):does a (.noladder b l)=if a.there b l=false then(a,no (-2))else if(a.frame b l).ladder=false then(a,no (-6))else if(a.set b l λx=>{x with ladder:=false}).stuck≠[]then(a,no (-12))else((a.set b l λx=>{x with ladder:=false}),no 0):=rfl
section
variable{P:Program}{w:World}{K:PySem.W.Frag}{mg:Str->Option Value}{base:Heap}
theorem vm:bj ["wall","numbers","place"] ["wall","numbers"] (aM sUntie):=⟨rfl,rfl,rfl,by decide +kernel,rfl,by decide +kernel,by decide +kernel⟩
theorem BU{f fH C Pt:Addr}{fd fdH:FuncData}(F:a8 K "untie" "untie" sUntie f fd)(T:bW K mg C)(TC:TxtC mg)(hlen:mg "len"=none)(GH:ak P w K mg base au 6 fH fdH ["wall"] (iq K C Pt λa=>!a.steady))(kH:PySem.W.keepIn K (.ref fH)=true)(bH:aN K fdH ["wall"] [])(mH:mg "too_high"=some (.ref fH)):
  ak P w K mg base au 7 f fd ["wall","numbers"] (lA K C Pt 2 λxs=>.untie (xs.getD 0 0) (xs.getD 1 0)):=by
 obtain⟨tns,hns⟩:=TC.noSuch;obtain⟨tnt,hnt⟩:=TC.noneThere;obtain⟨tth,hth⟩:=TC.tooHigh;refine F.ok vm (λvs H Q E h=>?_) (λcdv A outer s H vs Q E hr h=>?_)
 ·obtain⟨wl,nl,a,d,xs,rfl,_⟩:=h;rfl
 ·obtain⟨wl,nl,a,d,xs,rfl,hxl,Wa,W,hnl,hT,k⟩:=h;obtain⟨b,l,rfl⟩:∃b n,xs=[b,n]:=by
   match xs,hxl with
   | [b,n],_=>exact⟨b,n,rfl⟩
  have hu:=cP hr;refine⟨_,ai (aS (i:=2) vm.nd rfl (Or.inl rfl) (c8 (ab (aL pH (pv 1) aq (λ_ _=>rfl)) (ab (aL pH (pv 1) aq (λ_ _=>rfl)) af))))
   (ai (aV (aR (dq hu) (pv 2) (ax (pv 0) rfl) (by with_unfolding_all rfl)) (aw (aF (aP (v:=.int (-2)) rfl hns ⟨tns,rfl⟩))) aY)
   (ai (aV (aR (dq hu) (pv 2) (ax (pv 0) rfl) (by with_unfolding_all rfl)) (aw (aF (aP (v:=.int (-6)) rfl hnt ⟨tnt,rfl⟩))) aY)
   (ai (fx (n0 hu (ax (pv 0) rfl) (pv 2) ⟨rfl,rfl,rfl,rfl⟩))
   (ai (aV (eO (bg GH hr rfl mH kH bH .nil aU (ab (pv 0) af))) (aw (aF (aP (v:=.int (-40)) rfl hth ⟨tth,rfl⟩))) aY)
   (aw (aF (cx i7 rfl hlen g0 (ab (ax (pv 0) rfl) af)))))))),?_⟩
  refine⟨_,rfl,oP hnl (aK (j:=0) rfl) ⟨_,rfl,oP hnl (aK (j:=1) rfl) ⟨(by show 2<=sizeLine;decide),λt ht=>?_⟩⟩⟩;have kt:Kp H (upd H t (.tup [.int (b:Nat),.int (l:Nat)])):=Kp.laid ht;have W1:=W.kp kt;have hq:bX (upd H t (.tup [.int (b:Nat),.int (l:Nat)])) t b l:=ao;have x1:aj Pt H (upd H t (.tup [.int (b:Nat),.int (l:Nat)])):=aj.all kt;have T1:=x1.tab hT;show dz _ _ _ _ (upd H t (.tup [.int (b:Nat),.int (l:Nat)]));generalize upd H t (.tup [.int (b:Nat),.int (l:Nat)])=H1 at kt W1 hq x1 T1⊢;have ref:∀{H':Hp} (x:aj Pt H H') (z:Int),z<0->z=(does a (.untie b l)).2.value->Q (.int z) H':=λ{H'} x z h e=>k H' z (.of x) e λh'=>absurd h (by omega);refine⟨_,rfl,_,rfl,wl,C,d.dx,_,_,rfl,W1.ins,T.cl,T.nFr,rfl,d.fr,d.kf,key b l,rfl,.inl W1.fr,⟨t,rfl,hq⟩,_,rfl,?_⟩;rw[dP W.ok];cases q1:a.there b l with
  |false=>exact ref x1 (-2) (by decide) (by rw[lS,if_pos q1];rfl)
  |true=>
   refine⟨_,rfl,_,rfl,wl,C,d.dx,_,_,rfl,W1.ins,T.cl,T.nTi,rfl,d.ti,d.kt,key b l,rfl,.inl W1.ti,⟨t,rfl,hq⟩,_,rfl,?_⟩;rw[oX W.ok];cases q2:(a.frame b l).tie with
   |false=>exact ref x1 (-6) (by decide) (by rw[lS,if_neg (by rw[q1];decide),if_pos q2];rfl)
   |true=>
    have hv:aE d.kt (key b l)=some (.bl true):=by rw[W.ok.tv,q2];rfl
    refine⟨_,rfl,wl,C,d.dx,_,_,rfl,W1.ins,T.cl,T.nTi,rfl,d.ti,rfl,⟨_,.inl W1.ti⟩,_,rfl,d.kt,key b l,_,W1.ti,⟨t,rfl,hq⟩,hv,?_⟩;have D1:=FR Wa.sf W.ok q1;have W2:=W1.put_ti D1;have c1:aX Pt wl d H1 (upd H1 d.ti (.dM (bK d.kt (key b l)))):=aX.own (C:=C) (a:=a) W1.ti (.inr (.inr (.inr (.inr (.inl rfl))))) (λ_ z=>nomatch z) (λ_ _ z=>nomatch z);have S2:Sf (a.set b l λx=>{x with tie:=false}):=mn Wa.sf q1 rfl (qB Wa.sf);refine⟨_,rfl,wl,_,_,rfl,S2,W2.r,W2.fr,c1.tab T1,λH3 x3=>?_⟩;have W3:=W2.ext x3 (c1.tab T1);have c3:aX Pt wl d H H3:=((aX.of x1).trans c1).trans (.of x3);have e1:does a (.untie b l)=if(a.set b l λx=>{x with tie:=false}).steady=false then(a,no (-40))else((a.set b l λx=>{x with tie:=false}),num (a.set b l λx=>{x with tie:=false}).ties []):=by
     rw[lS,if_neg (by rw[q1];decide),if_neg (by rw[q2];decide)]
    refine⟨_,rfl,?_⟩;refine bZ (λe=>?_) (λe=>?_)
    ·have q:(a.set b l λx=>{x with tie:=false}).steady=false:=by
      have e':(!(a.set b l λx=>{x with tie:=false}).steady)=true:=e;simpa using e'
     rw[if_pos q]at e1;refine k H3 (-40) c3 ?_ (λz=>absurd z (by decide));show _=(does a (.untie b l)).2.value;rw[e1];rfl
    ·have q:(a.set b l λx=>{x with tie:=false}).steady=true:=by
      have e':¬(!(a.set b l λx=>{x with tie:=false}).steady)=true:=e;simpa using e'
     rw[if_neg (by rw[q];decide)]at e1;refine⟨_,rfl,wl,C,d.dx,_,_,rfl,W3.ins,T.cl,T.nTi,rfl,d.ti,_,rfl,.inl W3.ti,?_⟩;refine k H3 _ c3 ?_ λ_=>⟨{d with kt:=bK d.kt (key b l)},λc h=>h,?_⟩
     ·show _=(does a (.untie b l)).2.value;rw[e1,←rZ D1];rfl
     ·show aQ C _ wl (does a (.untie b l)).1 _;rw[e1];exact W3
theorem uU:bj ["wall","numbers","place"] ["wall","numbers"] (aM sNoladder):=⟨rfl,rfl,rfl,by decide +kernel,rfl,by decide +kernel,by decide +kernel⟩
theorem De{f fS C Pt:Addr}{fd fdS:FuncData}(F:a8 K "noladder" "noladder" sNoladder f fd)(T:bW K mg C)(TC:TxtC mg)(GS:ak P w K mg base au 5 fS fdS ["wall"] (sW K C))(kS:PySem.W.keepIn K (.ref fS)=true)(bS:aN K fdS ["wall"] [])(mS:mg "somebody_stuck"=some (.ref fS)):
  ak P w K mg base au 6 f fd ["wall","numbers"] (eF K C Pt 2 λxs=>.noladder (xs.getD 0 0) (xs.getD 1 0)):=by
 obtain⟨tns,hns⟩:=TC.noSuch;obtain⟨tnt,hnt⟩:=TC.noneThere;obtain⟨tsk,hsk⟩:=TC.stuck;refine F.ok uU (λvs H Q E h=>?_) (λcdv A outer s H vs Q E hr h=>?_)
 ·obtain⟨wl,nl,a,d,xs,rfl,_⟩:=h;rfl
 ·obtain⟨wl,nl,a,d,xs,rfl,hxl,Wa,W,hnl,hno,hT,k⟩:=h;obtain⟨b,l,rfl⟩:∃b n,xs=[b,n]:=by
   match xs,hxl with
   | [b,n],_=>exact⟨b,n,rfl⟩
  have hu:=cP hr;refine⟨_,ai (aS (i:=2) uU.nd rfl (Or.inl rfl) (c8 (ab (aL bf (pv 1) aq (λ_ _=>rfl)) (ab (aL bf (pv 1) aq (λ_ _=>rfl)) af))))
   (ai (aV (aR (dq hu) (pv 2) (ax (pv 0) rfl) (by with_unfolding_all rfl)) (aw (aF (aP (v:=.int (-2)) rfl hns ⟨tns,rfl⟩))) aY)
   (ai (aV (aR (dq hu) (pv 2) (ax (pv 0) rfl) (by with_unfolding_all rfl)) (aw (aF (aP (v:=.int (-6)) rfl hnt ⟨tnt,rfl⟩))) aY)
   (ai (fx (n0 hu (ax (pv 0) rfl) (pv 2) ⟨rfl,rfl,rfl,rfl⟩))
   (ai (aV (eO (bg GS hr rfl mS kS bS .nil aU (ab (pv 0) af))) (aw (aF (aP (v:=.int (-12)) rfl hsk ⟨tsk,rfl⟩))) aY)
   (aw (aF aq)))))),?_⟩
  refine⟨_,rfl,nl,_,0,_,rfl,rfl,hnl,aK (j:=0) rfl,_,rfl,nl,_,1,_,rfl,rfl,hnl,aK (j:=1) rfl,(by show 2<=sizeLine;decide),λt ht=>?_⟩;have kt:Kp H (upd H t (.tup [.int (b:Nat),.int (l:Nat)])):=Kp.laid ht;have W1:=W.kp kt;have hq:bX (upd H t (.tup [.int (b:Nat),.int (l:Nat)])) t b l:=ao;have x1:aj Pt H (upd H t (.tup [.int (b:Nat),.int (l:Nat)])):=aj.all kt;have T1:=x1.tab hT;show dz _ _ _ _ (upd H t (.tup [.int (b:Nat),.int (l:Nat)]));generalize upd H t (.tup [.int (b:Nat),.int (l:Nat)])=H1 at kt W1 hq x1 T1⊢;have ref:∀{H':Hp} (x:aj Pt H H') (z:Int),z<0->z=(does a (.noladder b l)).2.value->Q (.int z) H':=λ{H'} x z h e=>k H' z (.of x) e λh'=>absurd h (by omega);refine⟨_,rfl,_,rfl,wl,C,d.dx,_,_,rfl,W1.ins,T.cl,T.nFr,rfl,d.fr,d.kf,key b l,rfl,.inl W1.fr,⟨t,rfl,hq⟩,_,rfl,?_⟩;rw[dP W.ok];cases q1:a.there b l with
  |false=>exact ref x1 (-2) (by decide) (by rw[pf,if_pos q1];rfl)
  |true=>
   refine⟨_,rfl,_,rfl,wl,C,d.dx,_,_,rfl,W1.ins,T.cl,T.nLa,rfl,d.la,d.kl,key b l,rfl,.inl W1.la,⟨t,rfl,hq⟩,_,rfl,?_⟩;rw[gC W.ok];cases q2:(a.frame b l).ladder with
   |false=>exact ref x1 (-6) (by decide) (by rw[pf,if_neg (by rw[q1];decide),if_pos q2];rfl)
   |true=>
    have hv:aE d.kl (key b l)=some (.bl true):=by rw[W.ok.lv,q2];rfl
    refine⟨_,rfl,wl,C,d.dx,_,_,rfl,W1.ins,T.cl,T.nLa,rfl,d.la,rfl,⟨_,.inl W1.la⟩,_,rfl,d.kl,key b l,_,W1.la,⟨t,rfl,hq⟩,hv,?_⟩;have D1:=yA Wa.sf W.ok q1;have W2:=W1.put_la D1;have c1:aX Pt wl d H1 (upd H1 d.la (.dM (bK d.kl (key b l)))):=aX.own (C:=C) (a:=a) W1.la (.inr (.inr (.inr (.inr (.inr (.inr (.inl rfl))))))) (λ_ z=>nomatch z) (λ_ _ z=>nomatch z);have S2:Sf (a.set b l λx=>{x with ladder:=false}):=mn Wa.sf q1 rfl (λh=>nomatch h);refine⟨_,rfl,wl,_,_,rfl,S2,W2.r,λH3 k3=>?_⟩;have W3:=W2.kp k3;have c3:aX Pt wl d H H3:=((aX.of x1).trans c1).trans (.of (aj.all k3));have e1:does a (.noladder b l)=if(a.set b l λx=>{x with ladder:=false}).stuck≠[]then(a,no (-12))else((a.set b l λx=>{x with ladder:=false}),no 0):=by
     rw[pf,if_neg (by rw[q1];decide),if_neg (by rw[q2];decide)]
    refine⟨_,rfl,?_⟩;refine bZ (λe=>?_) (λe=>?_)
    ·have q:(a.set b l λx=>{x with ladder:=false}).stuck≠[]:=λz=>by
      rw[z]at e;cases e
     rw[if_pos q]at e1;refine k H3 (-12) c3 ?_ (λz=>absurd z (by decide));show _=(does a (.noladder b l)).2.value;rw[e1];rfl
    ·have q:(a.set b l λx=>{x with ladder:=false}).stuck=[]:=by
      cases q:(a.set b l λx=>{x with ladder:=false}).stuck with
      |nil=>rfl
      |cons y r=>rw[q]at e;exact absurd rfl e
     rw[if_neg (λz=>z q)]at e1;refine k H3 0 c3 ?_ λ_=>⟨{d with kl:=bK d.kl (key b l)},λc h=>h,?_⟩
     ·show _=(does a (.noladder b l)).2.value;rw[e1];rfl
     ·show aQ C _ wl (does a (.noladder b l)).1 _;rw[e1];exact W3
theorem yz:bj ["wall","numbers","place"] ["wall","numbers"] (aM sLadder):=⟨rfl,rfl,rfl,by decide +kernel,rfl,by decide +kernel,by decide +kernel⟩
theorem C4{f fB C Pt:Addr}{fd fdB:FuncData}(F:a8 K "ladder" "ladder" sLadder f fd)(T:bW K mg C)(TC:TxtC mg)(GB:ak P w K mg base au 1 fB fdB ["place"] jW)(kB:PySem.W.keepIn K (.ref fB)=true)(bB:aN K fdB ["place"] [])(mB:mg "below"=some (.ref fB)):
  ak P w K mg base au 2 f fd ["wall","numbers"] (eF K C Pt 2 λxs=>.ladder (xs.getD 0 0) (xs.getD 1 0)):=by
 obtain⟨tns,hns⟩:=TC.noSuch;obtain⟨tso,hso⟩:=TC.soAlready;obtain⟨tcb,hcb⟩:=TC.cannotBe;refine F.ok yz (λvs H Q E h=>?_) (λcdv A outer s H vs Q E hr h=>?_)
 ·obtain⟨wl,nl,a,d,xs,rfl,_⟩:=h;rfl
 ·obtain⟨wl,nl,a,d,xs,rfl,hxl,Wa,W,hnl,hno,hT,k⟩:=h;obtain⟨b,l,rfl⟩:∃b n,xs=[b,n]:=by
   match xs,hxl with
   | [b,n],_=>exact⟨b,n,rfl⟩
  have hu:=cP hr;refine⟨_,ai (aS (i:=2) yz.nd rfl (Or.inl rfl) (c8 (ab (aL bf (pv 1) aq (λ_ _=>rfl)) (ab (aL bf (pv 1) aq (λ_ _=>rfl)) af))))
   (ai (aV (aR (dq hu) (pv 2) (ax (pv 0) rfl) (by with_unfolding_all rfl)) (aw (aF (aP (v:=.int (-2)) rfl hns ⟨tns,rfl⟩))) aY)
   (ai (aV (aR (eE hu) (pv 2) (ax (pv 0) rfl) (by with_unfolding_all rfl)) (aw (aF (aP (v:=.int (-17)) rfl hso ⟨tso,rfl⟩))) aY)
   (ai (aV (PW.pt (uR (aR yy (aL cR (pv 2) aq (λ_ _=>rfl)) aq (b7 _)) (v9 (aR (dq hu) (bg GB hr rfl mB kB bB .nil aU (ab (pv 2) af)) (ax (pv 0) rfl) (by with_unfolding_all rfl)))))
    (aw (aF (aP (v:=.int (-33)) rfl hcb ⟨tcb,rfl⟩))) aY)
   (ai (gN hu (ax (pv 0) rfl) (pv 2) qw rfl)
   (aw (aF aq)))))),?_⟩
  refine⟨_,rfl,nl,_,0,_,rfl,rfl,hnl,aK (j:=0) rfl,_,rfl,nl,_,1,_,rfl,rfl,hnl,aK (j:=1) rfl,(by show 2<=sizeLine;decide),λt ht=>?_⟩;have kt:Kp H (upd H t (.tup [.int (b:Nat),.int (l:Nat)])):=Kp.laid ht;have W1:=W.kp kt;have hq:bX (upd H t (.tup [.int (b:Nat),.int (l:Nat)])) t b l:=ao;have x1:aj Pt H (upd H t (.tup [.int (b:Nat),.int (l:Nat)])):=aj.all kt;have T1:=x1.tab hT;show dz _ _ _ _ (upd H t (.tup [.int (b:Nat),.int (l:Nat)]));generalize upd H t (.tup [.int (b:Nat),.int (l:Nat)])=H1 at kt W1 hq x1 T1⊢;have ref:∀{H':Hp} (x:aj Pt H H') (z:Int),z<0->z=(does a (.ladder b l)).2.value->Q (.int z) H':=λ{H'} x z h e=>k H' z (.of x) e λh'=>absurd h (by omega);refine⟨_,rfl,_,rfl,wl,C,d.dx,_,_,rfl,W1.ins,T.cl,T.nFr,rfl,d.fr,d.kf,key b l,rfl,.inl W1.fr,⟨t,rfl,hq⟩,_,rfl,?_⟩;rw[dP W.ok];cases q1:a.there b l with
  |false=>exact ref x1 (-2) (by decide) (by rw[mm,if_pos q1];rfl)
  |true=>
   refine⟨_,rfl,_,rfl,wl,C,d.dx,_,_,rfl,W1.ins,T.cl,T.nLa,rfl,d.la,d.kl,key b l,rfl,.inl W1.la,⟨t,rfl,hq⟩,_,rfl,?_⟩;rw[gC W.ok];cases q2:(a.frame b l).ladder with
   |true=>exact ref x1 (-17) (by decide) (by rw[mm,if_neg (by rw[q1];decide),if_pos q2];rfl)
   |false=>
    refine⟨_,rfl,t,_,1,_,rfl,rfl,bo.of hq,aK (j:=1) rfl,rfl,_,rfl,?_⟩;have h48:=W.ok.l.len Wa.sf;have D1:=zP Wa.sf W.ok q1;have last:∀{H2:Hp},Kp H1 H2->¬(0<l/\a.there b (l-1)=false)->Q (.int 0) (upd H2 d.la (.dM (bt d.kl (key b l) (.bl true)))):=λ{H2} k2 hc=>by
     have W2:=W1.kp k2;have W3:=W2.put_la D1;have c1:aX Pt wl d H2 (upd H2 d.la (.dM (bt d.kl (key b l) (.bl true)))):=aX.own (C:=C) (a:=a) W2.la (.inr (.inr (.inr (.inr (.inr (.inr (.inl rfl))))))) (λ_ z=>nomatch z) (λ_ _ z=>nomatch z);have e1:does a (.ladder b l)=(a.set b l λx=>{x with ladder:=true},no 0):=by
      rw[mm,if_neg (by rw[q1];decide),if_neg (by rw[q2];decide),if_neg hc]
     refine k _ 0 ((aX.of (x1.trans (aj.all k2))).trans c1) ?_ λ_=>⟨{d with kl:=bt d.kl (key b l) (.bl true)},λc h=>h,?_⟩
     ·show _=(does a (.ladder b l)).2.value;rw[e1];rfl
     ·show aQ C _ wl (does a (.ladder b l)).1 _;rw[e1];exact W3
    refine bZ (λe=>?_) (λe=>?_)
    ·have l0:¬l=0:=λz=>by
      subst z;exact absurd e (by decide)
     refine⟨_,rfl,t,b,l,rfl,hq,λt2 ht2=>?_⟩;have k2:=Kp.laid (o:=.tup [.int b,.int ((l:Int)-1)]) ht2;have W2:=W1.kp k2;refine⟨_,rfl,wl,C,d.dx,_,_,rfl,W2.ins,T.cl,T.nFr,rfl,d.fr,d.kf,key b (l-1),rfl,.inl W2.fr,⟨t2,rfl,?_⟩,_,rfl,?_⟩
     ·rw[ao,show((l-1:Nat):Int)=(l:Int)-1 by omega];rfl
     rw[dP W.ok];cases q3:a.there b (l-1)with
     |false=>exact ref (x1.trans (aj.all k2)) (-33) (by decide) (by rw[mm,if_neg (by rw[q1];decide),if_neg (by rw[q2];decide),if_pos ⟨by omega,q3⟩];rfl)
     |true=>
      exact⟨_,rfl,wl,C,d.dx,_,_,rfl,W2.ins,T.cl,T.nLa,rfl,_,rfl,d.la,d.kl,key b l,rfl,W2.la,⟨t,rfl,k2 _ _ hq⟩,bc h48 (by decide),last k2 (λz=>by rw[q3]at z;exact absurd z.2 (by decide))⟩
    ·have l0:l=0:=by
      by_cases z:l=0
      ·exact z
      ·refine absurd ?_ e;rw[ba (λh=>by injection h with h;exact z (by omega))];rfl
     exact⟨_,rfl,wl,C,d.dx,_,_,rfl,W1.ins,T.cl,T.nLa,rfl,_,rfl,d.la,d.kl,key b l,rfl,W1.la,⟨t,rfl,hq⟩,bc h48 (by decide),last (λ_ _ q=>q) (λz=>by omega)⟩
end
abbrev sSpan:Stmt:=bq 44
theorem jD(a:Abs)(b l:Nat):does a (.span b l)=if a.isAt b l=false∨l=0 then(a,no (-22))else if a.there b l then(a,no (-17))else if b=0∨a.there b (l-1)=true∨a.there (b-1) (l-1)=false∨a.there (b+1) (l-1)=false then(a,no (-33))else a.tries (a.raised b l 2):=rfl
section
variable{P:Program}{w:World}{K:PySem.W.Frag}{mg:Str->Option Value}{base:Heap}
theorem oY:bj ["wall","numbers","place","end"] ["wall","numbers"] (aM sSpan):=⟨rfl,rfl,rfl,by decide +kernel,rfl,by decide +kernel,by decide +kernel⟩
theorem C8{f fHas fB fE fS C Pt:Addr}{fd fdHas fdB fdE fdS:FuncData}(F:a8 K "span" "span" sSpan f fd)(T:bW K mg C)(TC:TxtC mg)(hall:mg "all"=none)
  (GA:ak P w K mg base au 1 fHas fdHas ["wall","place"] (rQ K C)) (kA:PySem.W.keepIn K (.ref fHas)=true) (bA:aN K fdHas ["wall","place"] []) (mA:mg "has_place"=some (.ref fHas))
  (GB:ak P w K mg base au 1 fB fdB ["place"] jW) (kB:PySem.W.keepIn K (.ref fB)=true) (bB:aN K fdB ["place"] []) (mB:mg "below"=some (.ref fB))
  (GE:ak P w K mg base au 1 fE fdE ["place"] rE) (kE:PySem.W.keepIn K (.ref fE)=true) (bE:aN K fdE ["place"] []) (mE:mg "beam_ends"=some (.ref fE))
  (GS:ak P w K mg base au 7 fS fdS ["wall","place","kind"] (nT K C Pt)) (kS:PySem.W.keepIn K (.ref fS)=true) (bS:aN K fdS ["wall","place","kind"] []) (mS:mg "set_up"=some (.ref fS)):
  ak P w K mg base au 8 f fd ["wall","numbers"] (eF K C Pt 2 λxs=>.span (xs.getD 0 0) (xs.getD 1 0)):=by
 obtain⟨too,hoo⟩:=TC.outOf;obtain⟨tso,hso⟩:=TC.soAlready;obtain⟨tcb,hcb⟩:=TC.cannotBe;obtain⟨tbm,hbm⟩:=T.onBeam;refine F.ok oY (λvs H Q E h=>?_) (λcdv A outer s H vs Q E hr h=>?_)
 ·obtain⟨wl,nl,a,d,xs,rfl,_⟩:=h;rfl
 ·obtain⟨wl,nl,a,d,xs,rfl,hxl,Wa,W,hnl,hno,hT,k⟩:=h;obtain⟨b,l,rfl⟩:∃b n,xs=[b,n]:=by
   match xs,hxl with
   | [b,n],_=>exact⟨b,n,rfl⟩
  have hu:=cP hr;refine⟨_,ai (aS (i:=2) oY.nd rfl (Or.inl rfl) (c8 (ab (aL bf (pv 1) aq (λ_ _=>rfl)) (ab (aL bf (pv 1) aq (λ_ _=>rfl)) af))))
   (ai (aV (PW.pt (jJ (jm (eO (bg (GA.mono (k:=7) (by decide)) hr rfl mA kA bA .nil aU (ab (pv 0) (ab (pv 2) af))))) (jC (aR gX (aL cR (pv 2) aq (λ_ _=>rfl)) aq (b7 _)))))
    (aw (aF (aP (v:=.int (-22)) rfl hoo ⟨too,rfl⟩))) aY)
   (ai (aV (aR (eE hu) (pv 2) (ax (pv 0) rfl) (by with_unfolding_all rfl)) (aw (aF (aP (v:=.int (-17)) rfl hso ⟨tso,rfl⟩))) aY)
   (ai (aV (PW.pt (jJ (aR (eE hu) (bg (GB.mono (k:=7) (by decide)) hr rfl mB kB bB .nil aU (ab (pv 2) af)) (ax (pv 0) rfl) (by with_unfolding_all rfl))
    (jC (jm (eO (cx (um rfl) rfl hall boot_all (ab (eG (own:=[("end",3)]) rfl oY.nd (iu (bg (GE.mono (k:=7) (by decide)) hr rfl mE kE bE .nil aU (ab (pv 2) af))) (eB rfl)
     (λs H C cl fp=>cN (i:=3) oY.nd rfl (Or.inl rfl)) (λs H C cl fp=>i3)
     (λs H C' cl fp=>iY (eE hu) (pv 3) (lx (K:=K) rfl (pv 0) rfl) (by with_unfolding_all rfl))) af)))))))
    (aw (aF (aP (v:=.int (-33)) rfl hcb ⟨tcb,rfl⟩))) aY)
   (aw (aF (bg GS hr rfl mS kS bS .nil aU (ab (pv 0) (ab (pv 2) (ab (aP (v:=.int 2) rfl hbm ⟨tbm,rfl⟩) af))))))))),?_⟩
  refine⟨_,rfl,nl,_,0,_,rfl,rfl,hnl,aK (j:=0) rfl,_,rfl,nl,_,1,_,rfl,rfl,hnl,aK (j:=1) rfl,(by show 2<=sizeLine;decide),λt ht=>?_⟩;have kt:Kp H (upd H t (.tup [.int (b:Nat),.int (l:Nat)])):=Kp.laid ht;have W1:=W.kp kt;have hq:bX (upd H t (.tup [.int (b:Nat),.int (l:Nat)])) t b l:=ao;have x1:aj Pt H (upd H t (.tup [.int (b:Nat),.int (l:Nat)])):=aj.all kt;have T1:=x1.tab hT;show dz _ _ _ _ (upd H t (.tup [.int (b:Nat),.int (l:Nat)]));generalize upd H t (.tup [.int (b:Nat),.int (l:Nat)])=H1 at kt W1 hq x1 T1⊢;have ref:∀{H':Hp} (x:aj Pt H H') (z:Int),z<0->z=(does a (.span b l)).2.value->Q (.int z) H':=λ{H'} x z h e=>k H' z (.of x) e λh'=>absurd h (by omega);refine⟨_,rfl,_,rfl,wl,t,a,d,b,l,rfl,W1.r,hq,_,rfl,?_⟩;cases q1:a.isAt b l with
  |false=>exact ref x1 (-22) (by decide) (by rw[jD,if_pos (.inl q1)];rfl)
  |true=>
   have hbl:b<a.bays/\l<a.levels:=by
    unfold Abs.isAt at q1;simpa using q1
   refine⟨_,rfl,t,_,1,_,rfl,rfl,bo.of hq,aK (j:=1) rfl,rfl,_,rfl,?_⟩;refine bZ (λe=>?_) (λe=>?_)
   ·have l0:l=0:=by
     have:=ck e;injection this with this;omega
    exact ref x1 (-22) (by decide) (by rw[jD,if_pos (.inr l0)];rfl)
   have l0:¬l=0:=λz=>e (aO (by rw[z];rfl));have n1:¬(a.isAt b l=false∨l=0):=λz=>by
    rcases z with z|z
    ·rw[q1]at z;cases z
    ·exact l0 z
   refine⟨_,rfl,_,rfl,wl,C,d.dx,_,_,rfl,W1.ins,T.cl,T.nFr,rfl,d.fr,d.kf,key b l,rfl,.inl W1.fr,⟨t,rfl,hq⟩,_,rfl,?_⟩;rw[dP W.ok];cases q2:a.there b l with
   |true=>exact ref x1 (-17) (by decide) (by rw[jD,if_neg n1,if_pos q2];rfl)
   |false=>
    have n2:¬a.there b l=true:=by rw[q2];decide
    refine⟨_,rfl,t,b,l,rfl,hq,λt2 ht2=>?_⟩;have k2:=Kp.laid (o:=.tup [.int b,.int ((l:Int)-1)]) ht2;have hq2:upd H1 t2 (.tup [.int b,.int ((l:Int)-1)]) t2=some (.tup [.int b,.int ((l:Int)-1)]):=ao;generalize upd H1 t2 (.tup [.int b,.int ((l:Int)-1)])=H2 at k2 hq2⊢;have W2:=W1.kp k2;refine⟨_,rfl,wl,C,d.dx,_,_,rfl,W2.ins,T.cl,T.nFr,rfl,d.fr,d.kf,key b (l-1),rfl,.inl W2.fr,⟨t2,rfl,?_⟩,_,rfl,?_⟩
    ·rw[hq2,show((l-1:Nat):Int)=(l:Int)-1 by omega];rfl
    rw[dP W.ok];cases q3:a.there b (l-1)with
    |true=>exact ref (x1.trans (aj.all k2)) (-33) (by decide) (by rw[jD,if_neg n1,if_neg n2,if_pos (.inr (.inl q3))];rfl)
    |false=>
     refine⟨_,rfl,t,b,l,rfl,k2 _ _ hq,λH3 p ys k3 hp el mk=>?_⟩;have W3:=W2.kp k3;have hkk:[pk ((b:Int)-1) ((l:Int)-1),pk ((b:Int)+1) ((l:Int)-1)]=[pk ((b:Int)-1) ((l-1:Nat):Int),pk ((b:Int)+1) ((l-1:Nat):Int)]:=by
      rw[show((l-1:Nat):Int)=(l:Int)-1 by omega]
     rw[hkk]at mk;refine⟨p,rfl,⟨_,SqL.of el⟩,λD hD=>?_⟩;have hyl:ys.length=2:=(cA mk).symm;refine ee (n:=2) (λi H'=>Kp H3 H'/\H' D=some (.lst (([pk ((b:Int)-1) ((l-1:Nat):Int),pk ((b:Int)+1) ((l-1:Nat):Int)].take i).map λk=>V.bl (aE d.kf k).isSome)))
      ⟨Kp.laid hD,ao⟩ (λi H' hi ⟨kk,_⟩=>⟨_,ys[i]'(by omega),SqL.of (kk _ _ el),aZ _⟩) (λH' ⟨kk,_⟩=>⟨_,SqL.of (kk _ _ el),by omega⟩) ?_ ?_
     ·rintro i x H6 H7 hi ⟨kk,hD4⟩ ⟨rfl,hx2⟩;have hx:=hx2 _ (SqL.of (kk _ _ el));obtain⟨j,hj⟩:∃j,[pk ((b:Int)-1) ((l-1:Nat):Int),pk ((b:Int)+1) ((l-1:Nat):Int)][i]?=some j:=⟨_,aZ hi⟩;have mj:br H7 j x:=by
       obtain⟨z,hz1,hz2⟩:=dX mk hj;rw[hx]at hz1;cases hz1;exact hz2.mono λb xs q=>kk _ _ q
      have W7:=W3.kp kk;refine⟨rfl,?_⟩;refine⟨_,rfl,_,rfl,wl,C,d.dx,_,_,rfl,W7.ins,T.cl,T.nFr,rfl,d.fr,d.kf,j,rfl,.inl W7.fr,mj,_,hD4,?_,?_,?_⟩
      ·rw[List.length_map,gI];exact bc (lj _ _) (by show 2<sizeLine;decide)
      ·intro c o qc;rw[ag (ay qc hD)];exact kk _ _ qc
      ·have e2:[pk ((b:Int)-1) ((l-1:Nat):Int),pk ((b:Int)+1) ((l-1:Nat):Int)][i]=j:=by
        have:=aZ (l:=[pk ((b:Int)-1) ((l-1:Nat):Int),pk ((b:Int)+1) ((l-1:Nat):Int)]) hi;rw[hj]at this;exact(b9 this).symm
       rw[ao,fY hi,cf,e2];rfl
     ·rintro H4 ⟨kk,hD4⟩;have K4:Kp H1 H4:=Kp.trans k2 (Kp.trans k3 kk);refine⟨D,[decide (0<b/\a.there (b-1) (l-1)=true),a.there (b+1) (l-1)],rfl,SqL.of ?_,_,rfl,?_⟩
      ·rw[hD4];show some (HO.lst [V.bl (aE d.kf (pk ((b:Int)-1) ((l-1:Nat):Int))).isSome,V.bl (aE d.kf (pk ((b:Int)+1) ((l-1:Nat):Int))).isSome])=_;rw[xy W.ok,u5 W.ok];rfl
      by_cases hc:(0<b/\a.there (b-1) (l-1)=true)/\a.there (b+1) (l-1)=true
      ·obtain⟨⟨hc1,hc2⟩,hc3⟩:=hc;rw[aO ⟨hc1,hc2⟩,hc3];have e1:does a (.span b l)=a.tries (a.raised b l 2):=by
        rw[jD,if_neg n1,if_neg n2,if_neg];rintro(z|z|z|z)
        ·omega
        ·rw[q3]at z;cases z
        ·rw[hc2]at z;cases z
        ·rw[hc3]at z;cases z
       refine⟨_,rfl,_,rfl,wl,t,a,d,b,l,2,rfl,Wa,W1.kp K4,K4 _ _ hq,(aj.all K4).tab T1,hbl.1,hbl.2,q2,by decide,uq Wa.sf hbl.1 hbl.2 (.inr rfl) (λz=>absurd z (by decide)) (λ_=>⟨hc1,by omega,hc2,hc3⟩),λH' z c ez hw=>?_⟩;refine k H' z ((aX.of (x1.trans (aj.all K4))).trans c) ?_ ?_
       ·show z=(does a (.span b l)).2.value;rw[e1];exact ez
       ·show 0<=z->∃d',(∀c,dD wl d' c->dD wl d c)/\aQ C H' wl (does a (.span b l)).1 d';rw[e1];exact hw
      ·have e0:([decide (0<b/\a.there (b-1) (l-1)=true),a.there (b+1) (l-1)].all id)=false:=by
        cases z1:decide (0<b/\a.there (b-1) (l-1)=true)with
        |false=>rfl
        |true=>
         cases z2:a.there (b+1) (l-1)with
         |false=>rfl
         |true=>exact absurd ⟨ck z1,z2⟩ hc
       rw[e0];refine ref (x1.trans (aj.all K4)) (-33) (by decide) ?_;rw[jD,if_neg n1,if_neg n2,if_pos]
       ·rfl
       by_cases z0:b=0
       ·exact .inl z0
       ·right;right;cases z1:a.there (b-1) (l-1)with
        |false=>exact .inl rfl
        |true=>
         cases z2:a.there (b+1) (l-1)with
         |false=>exact .inr rfl
         |true=>exact absurd ⟨⟨by omega,z1⟩,z2⟩ hc
end
abbrev sTake:Stmt:=bq 45
theorem lP(a:Abs)(b l:Nat):does a (.take b l)=if a.isAt b l=false∨a.there b l=false then(a,no (-2))else if a.takes b l≠0 then(a,no (a.takes b l))else if a.strips b l=false then(a,no (-12))else
  (a.set b l λ_=>none_,num (a.set b l λ_=>none_).all.length []):=rfl
theorem FX{a:Abs}{d:WD}(S:Sf a)(D:bU a d)(b l:Nat):(d.kf.any λp=>(mw a p.1).any λj=>decide (j=key b l))=a.bearing b l:=by
 rw[fj,je,iT];have mem:∀{x y:Nat},a.there x y=true->∃p∈d.kf,p.1=key x y:=λ{x y} h=>by
  have hv:=D.fv x y;rw[if_pos h]at hv;exact⟨_,jB _ hv,rfl⟩
 have th:∀{x y k:Nat},(a.frame x y).kind=k->k≠0->a.there x y=true:=λ{x y k} h z=>dc.mpr (by rw[h];exact z);constructor
 ·rintro⟨p,hp,h⟩;obtain⟨x,y,e,ht⟩:=D.f.at_ p hp;rw[gR,e,oN]at h;unfold cZ at h;by_cases k2:(a.frame x y).kind=2
  ·rw[if_pos k2]at h;obtain⟨hx,hy,_⟩:=S.beam x y k2;rcases a9.mp h with h|h
   ·obtain⟨h1,h2⟩:=jw h;have e1:x=b+1:=by omega
    have e2:y=l+1:=by omega
    subst e1 e2;exact .inr (.inl k2)
   ·obtain⟨h1,h2⟩:=jw (cF.mp h);have e2:y=l+1:=by omega
    have e1:x=b-1:=by omega
    subst e1 e2;exact .inr (.inr ⟨by omega,k2⟩)
  ·rw[if_neg k2]at h;by_cases y0:y=0
   ·rw[if_pos y0]at h;cases h
   ·rw[if_neg y0]at h;obtain⟨h1,h2⟩:=jw (cF.mp h);have e1:x=b:=by omega
    have e2:y=l+1:=by omega
    subst e1 e2;have:=S.kind x (l+1);have:=dc.mp ht;exact .inl (by omega)
 ·rintro(h|h|⟨hb,h⟩)
  ·obtain⟨p,hp,e⟩:=mem (th h (by decide));refine⟨p,hp,?_⟩;rw[gR,e,oN];unfold cZ;rw[if_neg (by omega),if_neg (by omega)];refine cF.mpr ?_;unfold key;congr 1;omega
  ·obtain⟨p,hp,e⟩:=mem (th h (by decide));refine⟨p,hp,?_⟩;rw[gR,e,oN];unfold cZ;rw[if_pos h];refine a9.mpr (.inl ?_);unfold key;rw[show((b+1:Nat):Int)-1=(b:Int) by omega,show((l+1:Nat):Int)-1=(l:Int) by omega]
  ·obtain⟨p,hp,e⟩:=mem (th h (by decide));refine⟨p,hp,?_⟩;rw[gR,e,oN];unfold cZ;rw[if_pos h];refine a9.mpr (.inr (cF.mpr ?_));unfold key;rw[show((b-1:Nat):Int)+1=(b:Int) by omega,show((l+1:Nat):Int)-1=(l:Int) by omega]
theorem lT{a:Abs}{b l x:Nat}(ht:a.there b l=true)(hx:bQ a x):nk a x=key b l↔x=a.place b l+1:=by
 rw[←dE ht];exact⟨λe=>rA hx (.inr ⟨b,l,ht,rfl⟩) e,λe=>by rw[e]⟩
theorem u0{a:Abs}(S:Sf a){b l:Nat}(ht:a.there b l=true):((a.people.map λp=>nk a p.at_).any λj=>decide (j=key b l))=true↔a.persons (a.place b l)≠0:=by
 rw[gR,bh];have h:=pC (c:=a.place b l) λp hp=>(S.pw p hp).1;have h':a.persons (a.place b l)=0↔∀p∈a.people,p.at_≠a.place b l+1:=h;constructor
 ·rintro⟨p,hp,e⟩ z;exact h'.mp z p hp ((lT ht (S.pat p hp)).mp e)
 ·intro z;by_cases q:∃p∈a.people,p.at_=a.place b l+1
  ·obtain⟨p,hp,e⟩:=q;exact⟨p,hp,(lT ht (S.pat p hp)).mpr e⟩
  ·exact absurd (h'.mpr λp hp e=>q ⟨p,hp,e⟩) z
theorem DP{kvs:List (MK×V)}{k:MK}(h:aE kvs k=none):bK kvs k=kvs:=by
 unfold bK;refine yW.mpr λp hp=>aO λe=>?_;exact qW h (bh.mpr ⟨p,hp,e⟩)
theorem aQ.put2{C wl:Addr}{H H':Hp}{a:Abs}{d:WD}{b l:Nat}{g:Su56.Frame->Su56.Frame}{kf kh:List (MK×V)}(W:aQ C H wl a d)(D:bU (a.set b l g) {d with kf:=kf,kh:=kh})
  (h1:H' d.fr=some (.dM kf)) (h2:H' d.th=some (.dM kh)) (h3:∀c o,H c=some o->c≠d.fr->c≠d.th->H' c=some o):aQ C H' wl (a.set b l g) {d with kf:=kf,kh:=kh}:=by
 have nd:=W.nd;simp only[cG,a9,gr,gs,dI]at nd;obtain⟨⟨n1,n2,n3⟩,⟨n4,n5⟩,n6,_⟩:=nd;have st:∀{c:Addr} {o:HO},H c=some o->(∀kv,o≠.dM kv)->H' c=some o:=λ{c o} q n=>h3 c o q (aC q W.fr (n _)) (aC q W.th (n _));exact⟨st W.ins (λ_ z=>nomatch z),st W.g (λ_ z=>nomatch z),h1,h3 _ _ W.ti (bP n1) n4,h2,h3 _ _ W.la (bP n3) (bP n6),st W.we (λ_ z=>nomatch z),st W.sp (λ_ z=>nomatch z),W.spk.mono (λb xs q=>st q (λ_ z=>nomatch z)),D,W.nd,W.nl⟩
theorem FJ{a:Abs}(S:Sf a){b l:Nat}(ht:a.there b l=true)(nb:a.bearing b l=false)(nl:(a.frame b (l+1)).ladder=false)(np:a.persons (a.place b l)=0):Sf (a.set b l λ_=>none_):=
 rS S (az ht).1 (az ht).2 (by decide) (λ_=>rfl) (λh=>by cases h) (λh=>by cases h) (λh=>by cases h) (.inr ⟨nb,nl,(pC λp hp=>(S.pw p hp).1).mp np⟩)
section
variable{P:Program}{w:World}{K:PySem.W.Frag}{mg:Str->Option Value}{base:Heap}
theorem yx:bj ["wall","numbers","place"] ["wall","numbers"] (aM sTake):=⟨rfl,rfl,rfl,by decide +kernel,rfl,by decide +kernel,by decide +kernel⟩
theorem Ck{f fC fA fS C Pt:Addr}{fd fdC fdA fdS:FuncData}(F:a8 K "take" "take" sTake f fd)(T:bW K mg C)(TC:TxtC mg)(hlen:mg "len"=none)
  (GC:ak P w K mg base au 3 fC fdC ["wall","place"] (xU K C)) (kC:PySem.W.keepIn K (.ref fC)=true) (bC:aN K fdC ["wall","place"] []) (mC:mg "carries_some"=some (.ref fC))
  (GA:ak P w K mg base au 1 fA fdA ["place"] sk) (kA:PySem.W.keepIn K (.ref fA)=true) (bA:aN K fdA ["place"] []) (mA:mg "above"=some (.ref fA))
  (GS:ak P w K mg base au 5 fS fdS ["wall"] (sW K C)) (kS:PySem.W.keepIn K (.ref fS)=true) (bS:aN K fdS ["wall"] []) (mS:mg "somebody_stuck"=some (.ref fS)):
  ak P w K mg base au 6 f fd ["wall","numbers"] (lA K C Pt 2 λxs=>.take (xs.getD 0 0) (xs.getD 1 0)):=by
 obtain⟨tns,hns⟩:=TC.noSuch;obtain⟨tca,hca⟩:=TC.carries;obtain⟨tne,hne⟩:=TC.notEmpty;obtain⟨tit,hit⟩:=TC.isTied;obtain⟨thl,hhl⟩:=TC.hasLadder;obtain⟨tsk,hsk⟩:=TC.stuck;refine F.ok yx (λvs H Q E h=>?_) (λcdv A outer s H vs Q E hr h=>?_)
 ·obtain⟨wl,nl,a,d,xs,rfl,_⟩:=h;rfl
 ·obtain⟨wl,nl,a,d,xs,rfl,hxl,Wa,W,hnl,hT,k⟩:=h;obtain⟨b,l,rfl⟩:∃b n,xs=[b,n]:=by
   match xs,hxl with
   | [b,n],_=>exact⟨b,n,rfl⟩
  have hu:=cP hr;have hu2:(A.deeper (envOfC "take" (aM sTake) s.heap.objs.size f cdv)).units+2<cLine:=by have:=hr.un;omega
  refine⟨_,ai (aS (i:=2) yx.nd rfl (Or.inl rfl) (c8 (ab (aL pH (pv 1) aq (λ_ _=>rfl)) (ab (aL pH (pv 1) aq (λ_ _=>rfl)) af))))
   (ai (aV (aR (dq hu) (pv 2) (ax (pv 0) rfl) (by with_unfolding_all rfl)) (aw (aF (aP (v:=.int (-2)) rfl hns ⟨tns,rfl⟩))) aY)
   (ai (aV (eO (bg (GC.mono (k:=5) (by decide)) hr rfl mC kC bC .nil aU (ab (pv 0) (ab (pv 2) af)))) (aw (aF (aP (v:=.int (-16)) rfl hca ⟨tca,rfl⟩))) aY)
   (ai (aV (PW.pt (jJ (aR iX (jq hu (ax (pv 0) rfl) (pv 2) aq ⟨rfl,rfl,rfl,rfl⟩) aq (b7 _)) (jC (aR (r:=sS K) (xB hu2) (pv 2) (ax (pv 0) rfl) (by with_unfolding_all rfl)))))
    (aw (aF (aP (v:=.int (-15)) rfl hne ⟨tne,rfl⟩))) aY)
   (ai (aV (aR (eE hu) (pv 2) (ax (pv 0) rfl) (by with_unfolding_all rfl)) (aw (aF (aP (v:=.int (-14)) rfl hit ⟨tit,rfl⟩))) aY)
   (ai (aV (PW.pt (jJ (aR (eE hu) (pv 2) (ax (pv 0) rfl) (by with_unfolding_all rfl)) (jC (aR (eE hu) (bg (GA.mono (k:=5) (by decide)) hr rfl mA kA bA .nil aU (ab (pv 2) af)) (ax (pv 0) rfl) (by with_unfolding_all rfl)))))
    (aw (aF (aP (v:=.int (-13)) rfl hhl ⟨thl,rfl⟩))) aY)
   (ai (fx (n0 hu (ax (pv 0) rfl) (pv 2) ⟨rfl,rfl,rfl,rfl⟩))
   (ai (fx (Fw hu (ax (pv 0) rfl) (pv 2) aq ⟨rfl,rfl,rfl,rfl⟩))
   (ai (aV (eO (bg GS hr rfl mS kS bS .nil aU (ab (pv 0) af))) (aw (aF (aP (v:=.int (-12)) rfl hsk ⟨tsk,rfl⟩))) aY)
   (aw (aF (cx i7 rfl hlen g0 (ab (ax (pv 0) rfl) af)))))))))))),?_⟩
  refine⟨_,rfl,oP hnl (aK (j:=0) rfl) ⟨_,rfl,oP hnl (aK (j:=1) rfl) ⟨(by show 2<=sizeLine;decide),λt ht=>?_⟩⟩⟩;have kt:Kp H (upd H t (.tup [.int (b:Nat),.int (l:Nat)])):=Kp.laid ht;have W1:=W.kp kt;have hq:bX (upd H t (.tup [.int (b:Nat),.int (l:Nat)])) t b l:=ao;have x1:aj Pt H (upd H t (.tup [.int (b:Nat),.int (l:Nat)])):=aj.all kt;have T1:=x1.tab hT;show dz _ _ _ _ (upd H t (.tup [.int (b:Nat),.int (l:Nat)]));generalize upd H t (.tup [.int (b:Nat),.int (l:Nat)])=H1 at kt W1 hq x1 T1⊢;have ref:∀{H':Hp} (x:aj Pt H H') (z:Int),z<0->z=(does a (.take b l)).2.value->Q (.int z) H':=λ{H'} x z h e=>k H' z (.of x) e λh'=>absurd h (by omega);refine⟨_,rfl,_,rfl,wl,C,d.dx,_,_,rfl,W1.ins,T.cl,T.nFr,rfl,d.fr,d.kf,key b l,rfl,.inl W1.fr,⟨t,rfl,hq⟩,_,rfl,?_⟩;rw[dP W.ok];cases q1:a.there b l with
  |false=>exact ref x1 (-2) (by decide) (by rw[lP,if_pos (.inr q1)];rfl)
  |true=>
   have n1:¬(a.isAt b l=false∨a.there b l=false):=by
    rintro(z|z)
    ·unfold Abs.isAt at z;rw[aO (az q1).1,aO (az q1).2]at z;cases z
    ·rw[q1]at z;cases z
   have rf:∀{z:Int},a.takes b l=z->z≠0->(does a (.take b l)).2.value=z:=λ{z} e h=>by
    rw[lP,if_neg n1,if_pos (by rw[e];exact h),e];rfl
   refine⟨_,rfl,_,rfl,wl,t,a,d,b,l,rfl,W1.r,W1.fr,W.ok.f.len Wa.sf,hq,λH2 k2=>?_⟩;have W2:=W1.kp k2;have hq2:=k2 _ _ hq;have x2:=x1.trans (aj.all (Pt:=Pt) k2);have T2:=x2.tab hT;rw[FX Wa.sf W.ok];refine⟨_,rfl,?_⟩;cases q2:a.bearing b l with
   |true=>exact ref x2 (-16) (by decide) (rf (by unfold Abs.takes;rw[if_pos q2]) (by decide)).symm
   |false=>
    have tk:a.takes b l=if(a.frame b l).things≠0∨a.persons (a.place b l)≠0 then -15 else if(a.frame b l).tie then -14 else if(a.frame b l).ladder∨(a.frame b (l+1)).ladder then -13 else 0:=by
     unfold Abs.takes;rw[if_neg (by rw[q2];decide)]
    refine⟨_,rfl,wl,C,d.dx,_,_,rfl,W2.ins,T.cl,T.nTh,rfl,d.th,rfl,⟨_,.inl W2.th⟩,_,rfl,d.kh,key b l,.inl W2.th,⟨t,rfl,hq2⟩,_,_,W.ok.hv b l,rfl,_,rfl,?_⟩;refine bZ (λe=>?_) (λe=>?_)
    ·have h0:(a.frame b l).things≠0:=by have:=ck e;omega
     exact ref x2 (-15) (by decide) (rf (by rw[tk,if_pos (.inl h0)]) (by decide)).symm
    have h0:(a.frame b l).things=0:=by
     have:¬((0:Int)<((a.frame b l).things:Nat)):=λz=>e (aO z);omega
    refine⟨_,rfl,_,rfl,wl,C,d.dx,_,_,rfl,W2.ins,T.cl,T.nSp,rfl,d.sp,_,_,key b l,rfl,SqL.of W2.sp,W2.spk,⟨t,rfl,hq2⟩,_,rfl,?_⟩;refine bZ (λe=>?_) (λe=>?_)
    ·exact ref x2 (-15) (by decide) (rf (by rw[tk,if_pos (.inr ((u0 Wa.sf q1).mp e))]) (by decide)).symm
    have hp0:a.persons (a.place b l)=0:=by
     by_cases z:a.persons (a.place b l)=0
     ·exact z
     ·exact absurd ((u0 Wa.sf q1).mpr z) e
    have tk2:a.takes b l=if(a.frame b l).tie then -14 else if(a.frame b l).ladder∨(a.frame b (l+1)).ladder then -13 else 0:=by
     rw[tk,if_neg];rintro(z|z)
     ·exact z h0
     ·exact z hp0
    refine⟨_,rfl,_,rfl,wl,C,d.dx,_,_,rfl,W2.ins,T.cl,T.nTi,rfl,d.ti,d.kt,key b l,rfl,.inl W2.ti,⟨t,rfl,hq2⟩,_,rfl,?_⟩;rw[oX W.ok];cases q3:(a.frame b l).tie with
    |true=>exact ref x2 (-14) (by decide) (rf (by rw[tk2,if_pos q3]) (by decide)).symm
    |false=>
     have tk3:a.takes b l=if(a.frame b l).ladder∨(a.frame b (l+1)).ladder then -13 else 0:=by rw[tk2,if_neg (by rw[q3];decide)]
     refine⟨_,rfl,_,rfl,wl,C,d.dx,_,_,rfl,W2.ins,T.cl,T.nLa,rfl,d.la,d.kl,key b l,rfl,.inl W2.la,⟨t,rfl,hq2⟩,_,rfl,?_⟩;rw[gC W.ok];cases q4:(a.frame b l).ladder with
     |true=>exact ref x2 (-13) (by decide) (rf (by rw[tk3,if_pos (.inl q4)]) (by decide)).symm
     |false=>
      refine⟨_,rfl,t,b,l,rfl,hq2,λt3 ht3=>?_⟩;have k3:=Kp.laid (o:=.tup [.int b,.int ((l:Int)+1)]) ht3;have hq3:upd H2 t3 (.tup [.int b,.int ((l:Int)+1)]) t3=some (.tup [.int b,.int ((l:Int)+1)]):=ao;generalize upd H2 t3 (.tup [.int b,.int ((l:Int)+1)])=H3 at k3 hq3⊢;have W3:=W2.kp k3;have x3:=x2.trans (aj.all (Pt:=Pt) k3);have T3:=x3.tab hT;have hqt:=k3 _ _ hq2;refine⟨_,rfl,wl,C,d.dx,_,_,rfl,W3.ins,T.cl,T.nLa,rfl,d.la,d.kl,key b (l+1),rfl,.inl W3.la,⟨t3,rfl,hq3⟩,_,rfl,?_⟩;rw[gC W.ok];cases q5:(a.frame b (l+1)).ladder with
      |true=>exact ref x3 (-13) (by decide) (rf (by rw[tk3,if_pos (.inr q5)]) (by decide)).symm
      |false=>
       have tk4:a.takes b l=0:=by
        rw[tk3,if_neg];rintro(z|z)
        ·rw[q4]at z;cases z
        ·rw[q5]at z;cases z
       have hv:aE d.kf (key b l)=some (.int (a.frame b l).kind):=by rw[W.ok.fv,if_pos q1]
       refine⟨_,rfl,wl,C,d.dx,_,_,rfl,W3.ins,T.cl,T.nFr,rfl,d.fr,rfl,⟨_,.inl W3.fr⟩,_,rfl,d.kf,key b l,_,W3.fr,⟨t,rfl,hqt⟩,hv,?_⟩;have nd:=W.nd;simp only[cG,a9,gr,gs,dI]at nd;have nft:d.fr≠d.th:=nd.1.2.1;have st4:∀{c:Addr} {o:HO},H3 c=some o->c≠d.fr->upd H3 d.fr (.dM (bK d.kf (key b l))) c=some o:=λ{c o} q ne=>by rw[ag ne];exact q
       have fr4:upd H3 d.fr (.dM (bK d.kf (key b l))) d.fr=some (.dM (bK d.kf (key b l))):=ao;have c4:aX Pt wl d H3 (upd H3 d.fr (.dM (bK d.kf (key b l)))):=aX.own (C:=C) (a:=a) W3.fr (.inr (.inr (.inr (.inl rfl)))) (λ_ z=>nomatch z) (λ_ _ z=>nomatch z);have ins4:=st4 W3.ins (aC W3.ins W3.fr (λz=>nomatch z));have th4:=st4 W3.th (bP nft);have hq4:=st4 hqt (aC hqt W3.fr (λz=>nomatch z));generalize upd H3 d.fr (.dM (bK d.kf (key b l)))=H4 at st4 fr4 c4 ins4 th4 hq4⊢;have D1:=As Wa.sf W.ok q1 q3 q4;have S2:=FJ Wa.sf q1 q2 q5 hp0;have fin:∀{H5:Hp},H5 d.fr=some (.dM (bK d.kf (key b l)))->H5 d.th=some (.dM (bK d.kh (key b l)))->(∀c o,H3 c=some o->c≠d.fr->c≠d.th->H5 c=some o)->aX Pt wl d H H5->
         aQ C H5 wl (a.set b l λ_=>none_) {d with kf:=bK d.kf (key b l),kh:=bK d.kh (key b l)}:=λ{H5} g1 g2 g3 _=>W3.put2 D1 g1 g2 g3
       have e1:does a (.take b l)=if(a.set b l λ_=>none_).stuck≠[]then(a,no (-12))else(a.set b l λ_=>none_,num (a.set b l λ_=>none_).all.length []):=by
        rw[lP,if_neg n1,if_neg (λz=>z tk4)];unfold Abs.strips;rw[tk4];by_cases z:(a.set b l λ_=>none_).stuck=[]
        ·rw[if_neg (by rw[z];decide),if_neg (λy=>y z)]
        ·rw[if_pos z,if_pos];cases y:(a.set b l λ_=>none_).stuck with
         |nil=>exact absurd y z
         |cons u r=>rfl
       have go:∀{H5:Hp},aQ C H5 wl (a.set b l λ_=>none_) {d with kf:=bK d.kf (key b l),kh:=bK d.kh (key b l)}->aX Pt wl d H H5->∀H6,Kp H5 H6->
         (if(!((a.set b l λ_=>none_).stuck==[]))=true then Q (.int (-12)) H6 else Q (.int ((bK d.kf (key b l)).length:Nat)) H6):=λ{H5} W5 c5 H6 k6=>by
        have W6:=W5.kp k6;have c6:aX Pt wl d H H6:=c5.trans (.of (aj.all k6));refine bZ (λe=>?_) (λe=>?_)
        ·have q:(a.set b l λ_=>none_).stuck≠[]:=λz=>by rw[z]at e;cases e
         rw[if_pos q]at e1;refine k H6 (-12) c6 ?_ (λz=>absurd z (by decide));show _=(does a (.take b l)).2.value;rw[e1];rfl
        ·have q:(a.set b l λ_=>none_).stuck=[]:=by
          cases q:(a.set b l λ_=>none_).stuck with
          |nil=>rfl
          |cons y r=>rw[q]at e;exact absurd rfl e
         rw[if_neg (λz=>z q)]at e1;refine k H6 _ c6 ?_ λ_=>⟨{d with kf:=bK d.kf (key b l),kh:=bK d.kh (key b l)},λc h=>h,?_⟩
         ·show _=(does a (.take b l)).2.value;rw[e1,oQ S2 D1];rfl
         ·show aQ C _ wl (does a (.take b l)).1 _;rw[e1];exact W6
       refine⟨_,rfl,wl,C,d.dx,_,_,rfl,ins4,T.cl,T.nTh,rfl,d.th,rfl,⟨_,.inl th4⟩,_,rfl,d.kh,key b l,th4,⟨t,rfl,hq4⟩,?_,?_⟩
       ·intro v hvv;have W5:aQ C (upd H4 d.th (.dM (bK d.kh (key b l)))) wl (a.set b l λ_=>none_) {d with kf:=bK d.kf (key b l),kh:=bK d.kh (key b l)}:=
         fin (by rw[ag nft];exact fr4) ao (λc o q n m=>by rw[ag m];exact st4 q n) (((aX.of x3).trans c4).trans (aX.own (C:=C) (a:=a) th4 (.inr (.inr (.inr (.inr (.inr (.inl rfl)))))) (λ_ z=>nomatch z) (λ_ _ z=>nomatch z)))
        have c5:aX Pt wl d H (upd H4 d.th (.dM (bK d.kh (key b l)))):=((aX.of x3).trans c4).trans (aX.own (C:=C) (a:=a) th4 (.inr (.inr (.inr (.inr (.inr (.inl rfl)))))) (λ_ z=>nomatch z) (λ_ _ z=>nomatch z));generalize upd H4 d.th (.dM (bK d.kh (key b l)))=H5 at W5 c5⊢;refine⟨_,rfl,wl,_,_,rfl,S2,W5.r,λH6 k6=>?_⟩;have W6:=W5.kp k6;have g:=go W5 c5 H6 k6;refine⟨_,rfl,?_⟩;refine bZ (λe=>?_) (λe=>?_)
        ·rw[if_pos e]at g;exact g
        ·rw[if_neg e]at g;exact⟨_,rfl,wl,C,d.dx,_,_,rfl,W6.ins,T.cl,T.nFr,rfl,d.fr,_,rfl,.inl W6.fr,g⟩
       ·intro hvv;have W5:aQ C H4 wl (a.set b l λ_=>none_) {d with kf:=bK d.kf (key b l),kh:=bK d.kh (key b l)}:=
         fin fr4 (by rw[DP hvv];exact th4) (λc o q n m=>st4 q n) ((aX.of x3).trans c4)
        have c5:aX Pt wl d H H4:=(aX.of x3).trans c4;refine⟨_,rfl,wl,_,_,rfl,S2,W5.r,λH6 k6=>?_⟩;have W6:=W5.kp k6;have g:=go W5 c5 H6 k6;refine⟨_,rfl,?_⟩;refine bZ (λe=>?_) (λe=>?_)
        ·rw[if_pos e]at g;exact g
        ·rw[if_neg e]at g;exact⟨_,rfl,wl,C,d.dx,_,_,rfl,W6.ins,T.cl,T.nFr,rfl,d.fr,_,rfl,.inl W6.fr,g⟩
end
abbrev sLoad:Stmt:=bq 48
abbrev sUnload:Stmt:=bq 49
theorem o9(a:Abs)(b l n:Nat):does a (.load b l n)=if a.there b l=false then(a,no (-2))else if n=0∨THINGS<n then(a,no (-22))else
  if(a.set b l λx=>{x with things:=x.things+n}).safe=false then(a,no (-41))else((a.set b l λx=>{x with things:=x.things+n}),num ((a.frame b l).things+n) []):=rfl
theorem lJ(a:Abs)(b l n:Nat):does a (.unload b l n)=if a.there b l=false then(a,no (-2))else if n=0∨THINGS<n then(a,no (-22))else if(a.frame b l).things<n then(a,no (-6))else(a.set b l λx=>{x with things:=x.things-n},num ((a.frame b l).things-n) []):=rfl
theorem rR{n M:Int}{Q:Bool->Prop}(h:Q (decide ((1:Int)<=n)&&decide (n<=M))):if decide ((1:Int)<=n)=true then(∃i j,V.int n= .int i/\V.int M= .int j/\∃k,V.bl (decide (i<=j))= .bl k/\Q k)else∃k,V.bl false=V.bl k/\Q k:=by
 by_cases e:(1:Int)<=n
 ·rw[if_pos (aO e)];rw[aO e,zo]at h;exact⟨n,M,rfl,rfl,_,rfl,h⟩
 ·rw[if_neg (by rw[ba e];decide)];rw[ba e,pY]at h;exact⟨_,rfl,h⟩
theorem u4{n:Nat}(h:¬(n=0∨THINGS<n)):(decide ((1:Int)<=(n:Nat))&&decide (((n:Nat):Int)<=1000))=true:=by
 have h1:n≠0:=λz=>h (.inl z);have h2:¬1000<n:=λz=>h (.inr z);rw[aO (by omega),aO (by omega)];rfl
theorem yw{n:Nat}(h:n=0∨THINGS<n):(decide ((1:Int)<=(n:Nat))&&decide (((n:Nat):Int)<=1000))=false:=by
 rcases h with h|h
 ·rw[ba (by omega)];rfl
 ·have h2:1000<n:=h;rw[ba (show¬((n:Nat):Int)<=1000 by omega),tF]
section
variable{P:Program}{w:World}{K:PySem.W.Frag}{mg:Str->Option Value}{base:Heap}
theorem vd:bj ["wall","numbers","place"] ["wall","numbers"] (aM sLoad):=⟨rfl,rfl,rfl,by decide +kernel,rfl,by decide +kernel,by decide +kernel⟩
theorem Cw{f fM C Pt:Addr}{fd fdM:FuncData}(F:a8 K "load" "load" sLoad f fd)(T:bW K mg C)(TC:TxtC mg)
  (GM:ak P w K mg base au 6 fM fdM ["wall"] (iq K C Pt λa=>!a.safe)) (kM:PySem.W.keepIn K (.ref fM)=true) (bM:aN K fdM ["wall"] []) (mM:mg "too_much"=some (.ref fM)):
  ak P w K mg base au 7 f fd ["wall","numbers"] (eF K C Pt 3 λxs=>.load (xs.getD 0 0) (xs.getD 1 0) (xs.getD 2 0)):=by
 obtain⟨tns,hns⟩:=TC.noSuch;obtain⟨too,hoo⟩:=TC.outOf;obtain⟨tmt,hmt⟩:=TC.mostThings;obtain⟨ttm,htm⟩:=TC.tooMuch;refine F.ok vd (λvs H Q E h=>?_) (λcdv A outer s H vs Q E hr h=>?_)
 ·obtain⟨wl,nl,a,d,xs,rfl,_⟩:=h;rfl
 ·obtain⟨wl,nl,a,d,xs,rfl,hxl,Wa,W,hnl,hno,hT,k⟩:=h;obtain⟨b,l,n,rfl⟩:∃b l n,xs=[b,l,n]:=by
   match xs,hxl with
   | [b,l,n],_=>exact⟨b,l,n,rfl⟩
  have hu:=cP hr;refine⟨_,ai (aS (i:=2) vd.nd rfl (Or.inl rfl) (c8 (ab (aL bf (pv 1) aq (λ_ _=>rfl)) (ab (aL bf (pv 1) aq (λ_ _=>rfl)) af))))
   (ai (aV (aR (dq hu) (pv 2) (ax (pv 0) rfl) (by with_unfolding_all rfl)) (aw (aF (aP (v:=.int (-2)) rfl hns ⟨tns,rfl⟩))) aY)
   (ai (aV (jm (qS il il aq (aL bf (pv 1) aq (λ_ _=>rfl)) (aP (v:=.int 1000) rfl hmt ⟨tmt,rfl⟩))) (aw (aF (aP (v:=.int (-22)) rfl hoo ⟨too,rfl⟩))) aY)
   (ai (gN hu (ax (pv 0) rfl) (pv 2) (cW gc (jq hu (ax (pv 0) rfl) (pv 2) aq ⟨rfl,rfl,rfl,rfl⟩) (aL bf (pv 1) aq (λ_ _=>rfl))) rfl)
   (ai (aV (eO (bg GM hr rfl mM kM bM .nil aU (ab (pv 0) af))) (aw (aF (aP (v:=.int (-41)) rfl htm ⟨ttm,rfl⟩))) aY)
   (aw (aF (gb hu (ax (pv 0) rfl) (pv 2) (λ_ _=>rfl)))))))),?_⟩
  refine⟨_,rfl,nl,_,0,_,rfl,rfl,hnl,aK (j:=0) rfl,_,rfl,nl,_,1,_,rfl,rfl,hnl,aK (j:=1) rfl,(by show 2<=sizeLine;decide),λt ht=>?_⟩;have kt:Kp H (upd H t (.tup [.int (b:Nat),.int (l:Nat)])):=Kp.laid ht;have W1:=W.kp kt;have hq:bX (upd H t (.tup [.int (b:Nat),.int (l:Nat)])) t b l:=ao;have x1:aj Pt H (upd H t (.tup [.int (b:Nat),.int (l:Nat)])):=aj.all kt;have T1:=x1.tab hT;have hnl1:=x1.seq hT hnl;show dz _ _ _ _ (upd H t (.tup [.int (b:Nat),.int (l:Nat)]));generalize upd H t (.tup [.int (b:Nat),.int (l:Nat)])=H1 at kt W1 hq x1 T1 hnl1⊢;have ref:∀{H':Hp} (x:aj Pt H H') (z:Int),z<0->z=(does a (.load b l n)).2.value->Q (.int z) H':=λ{H'} x z h e=>k H' z (.of x) e λh'=>absurd h (by omega);refine⟨_,rfl,_,rfl,wl,C,d.dx,_,_,rfl,W1.ins,T.cl,T.nFr,rfl,d.fr,d.kf,key b l,rfl,.inl W1.fr,⟨t,rfl,hq⟩,_,rfl,?_⟩;rw[dP W.ok];cases q1:a.there b l with
  |false=>exact ref x1 (-2) (by decide) (by rw[o9,if_pos q1];rfl)
  |true=>
   have n1:¬a.there b l=false:=by rw[q1];decide
   refine⟨_,rfl,nl,_,2,_,rfl,rfl,hnl1,aK (j:=2) rfl,_,_,rfl,rfl,_,rfl,rR ?_⟩;by_cases hc:n=0∨THINGS<n
   ·rw[yw hc];exact ref x1 (-22) (by decide) (by rw[o9,if_neg n1,if_pos hc];rfl)
   ·rw[u4 hc];have h48:=W.ok.h.len Wa.sf;refine⟨_,rfl,wl,C,d.dx,_,_,rfl,W1.ins,T.cl,T.nTh,rfl,d.th,rfl,⟨_,.inl W1.th⟩,_,rfl,d.kh,key b l,.inl W1.th,⟨t,rfl,hq⟩,?_⟩;refine⟨_,rfl,nl,_,2,_,rfl,rfl,hnl1,aK (j:=2) rfl,_,_,W.ok.hv b l,rfl,?_⟩;refine⟨_,rfl,wl,C,d.dx,_,_,rfl,W1.ins,T.cl,T.nTh,rfl,_,rfl,d.th,d.kh,key b l,rfl,W1.th,⟨t,rfl,hq⟩,bc h48 (by decide),?_⟩;have D1:=ve Wa.sf W.ok q1 (g:=λx=>x+n) (n:=(a.frame b l).things+n) rfl;have W2:=W1.put_th D1;have c1:aX Pt wl d H1 (upd H1 d.th (.dM (bt d.kh (key b l) (.int (((a.frame b l).things+n:Nat):Int))))):=aX.own (C:=C) (a:=a) W1.th (.inr (.inr (.inr (.inr (.inr (.inl rfl)))))) (λ_ z=>nomatch z) (λ_ _ z=>nomatch z);have hq2:bX (upd H1 d.th (.dM (bt d.kh (key b l) (.int (((a.frame b l).things+n:Nat):Int))))) t b l:=by
     show upd H1 d.th _ t=_;rw[ag (aC hq W1.th (λz=>nomatch z))];exact hq
    have S2:Sf (a.set b l λx=>{x with things:=x.things+n}):=mn Wa.sf q1 rfl (qB Wa.sf);show dz _ _ _ _ (upd H1 d.th (.dM (bt d.kh (key b l) (.int (((a.frame b l).things+n:Nat):Int)))));generalize upd H1 d.th (.dM (bt d.kh (key b l) (.int (((a.frame b l).things+n:Nat):Int))))=H2 at W2 c1 hq2⊢;have T2:=c1.tab T1;refine⟨_,rfl,wl,_,_,rfl,S2,W2.r,W2.fr,T2,λH3 x3=>?_⟩;have W3:=W2.ext x3 T2;have c3:aX Pt wl d H H3:=((aX.of x1).trans c1).trans (.of x3);have e1:does a (.load b l n)=if(a.set b l λx=>{x with things:=x.things+n}).safe=false then(a,no (-41))else((a.set b l λx=>{x with things:=x.things+n}),num ((a.frame b l).things+n) []):=by
     rw[o9,if_neg n1,if_neg hc]
    refine⟨_,rfl,?_⟩;refine bZ (λe=>?_) (λe=>?_)
    ·have q:(a.set b l λx=>{x with things:=x.things+n}).safe=false:=by
      have e':(!(a.set b l λx=>{x with things:=x.things+n}).safe)=true:=e;simpa using e'
     rw[if_pos q]at e1;refine k H3 (-41) c3 ?_ (λz=>absurd z (by decide));show _=(does a (.load b l n)).2.value;rw[e1];rfl
    ·have q:(a.set b l λx=>{x with things:=x.things+n}).safe=true:=by
      have e':¬(!(a.set b l λx=>{x with things:=x.things+n}).safe)=true:=e;simpa using e'
     rw[if_neg (by rw[q];decide)]at e1;refine⟨_,rfl,wl,C,d.dx,_,_,rfl,W3.ins,T.cl,T.nTh,rfl,_,rfl,d.th,_,key b l,_,rfl,.inl W3.th,⟨t,rfl,x3.tup T2 hq2⟩,(by show aE (bt d.kh (key b l) _) (key b l)=_;rw[oA,if_pos rfl]),?_⟩;refine k H3 _ c3 ?_ λ_=>⟨{d with kh:=bt d.kh (key b l) (.int (((a.frame b l).things+n:Nat):Int))},λc h=>h,?_⟩
     ·show _=(does a (.load b l n)).2.value;rw[e1];rfl
     ·show aQ C H3 wl (does a (.load b l n)).1 _;rw[e1];exact W3
theorem rJ:bj ["wall","numbers","place","left"] ["wall","numbers"] (aM sUnload):=⟨rfl,rfl,rfl,by decide +kernel,rfl,by decide +kernel,by decide +kernel⟩
theorem DY{f C Pt:Addr}{fd:FuncData}(F:a8 K "unload" "unload" sUnload f fd)(T:bW K mg C)(TC:TxtC mg):
  ak P w K mg base au 1 f fd ["wall","numbers"] (eF K C Pt 3 λxs=>.unload (xs.getD 0 0) (xs.getD 1 0) (xs.getD 2 0)):=by
 obtain⟨tns,hns⟩:=TC.noSuch;obtain⟨too,hoo⟩:=TC.outOf;obtain⟨tmt,hmt⟩:=TC.mostThings;obtain⟨tnt,hnt⟩:=TC.noneThere;refine F.ok rJ (λvs H Q E h=>?_) (λcdv A outer s H vs Q E hr h=>?_)
 ·obtain⟨wl,nl,a,d,xs,rfl,_⟩:=h;rfl
 ·obtain⟨wl,nl,a,d,xs,rfl,hxl,Wa,W,hnl,hno,hT,k⟩:=h;obtain⟨b,l,n,rfl⟩:∃b l n,xs=[b,l,n]:=by
   match xs,hxl with
   | [b,l,n],_=>exact⟨b,l,n,rfl⟩
  have hu:=cP hr;refine⟨_,ai (aS (i:=2) rJ.nd rfl (Or.inl rfl) (c8 (ab (aL bf (pv 1) aq (λ_ _=>rfl)) (ab (aL bf (pv 1) aq (λ_ _=>rfl)) af))))
   (ai (aV (aR (dq hu) (pv 2) (ax (pv 0) rfl) (by with_unfolding_all rfl)) (aw (aF (aP (v:=.int (-2)) rfl hns ⟨tns,rfl⟩))) aY)
   (ai (aV (jm (qS il il aq (aL bf (pv 1) aq (λ_ _=>rfl)) (aP (v:=.int 1000) rfl hmt ⟨tmt,rfl⟩))) (aw (aF (aP (v:=.int (-22)) rfl hoo ⟨too,rfl⟩))) aY)
   (ai (aS (i:=3) rJ.nd rfl (Or.inl rfl) (cW gQ (jq hu (ax (pv 0) rfl) (pv 2) aq ⟨rfl,rfl,rfl,rfl⟩) (aL bf (pv 1) aq (λ_ _=>rfl))))
   (ai (aV (aR pD (pv 3) aq (b7 _)) (aw (aF (aP (v:=.int (-6)) rfl hnt ⟨tnt,rfl⟩))) aY)
   (ai (gN hu (ax (pv 0) rfl) (pv 2) (pv 3) rfl)
   (aw (aF (pv 3)))))))),?_⟩
  refine⟨_,rfl,nl,_,0,_,rfl,rfl,hnl,aK (j:=0) rfl,_,rfl,nl,_,1,_,rfl,rfl,hnl,aK (j:=1) rfl,(by show 2<=sizeLine;decide),λt ht=>?_⟩;have kt:Kp H (upd H t (.tup [.int (b:Nat),.int (l:Nat)])):=Kp.laid ht;have W1:=W.kp kt;have hq:bX (upd H t (.tup [.int (b:Nat),.int (l:Nat)])) t b l:=ao;have x1:aj Pt H (upd H t (.tup [.int (b:Nat),.int (l:Nat)])):=aj.all kt;have T1:=x1.tab hT;have hnl1:=x1.seq hT hnl;show dz _ _ _ _ (upd H t (.tup [.int (b:Nat),.int (l:Nat)]));generalize upd H t (.tup [.int (b:Nat),.int (l:Nat)])=H1 at kt W1 hq x1 T1 hnl1⊢;have ref:∀{H':Hp} (x:aj Pt H H') (z:Int),z<0->z=(does a (.unload b l n)).2.value->Q (.int z) H':=λ{H'} x z h e=>k H' z (.of x) e λh'=>absurd h (by omega);refine⟨_,rfl,_,rfl,wl,C,d.dx,_,_,rfl,W1.ins,T.cl,T.nFr,rfl,d.fr,d.kf,key b l,rfl,.inl W1.fr,⟨t,rfl,hq⟩,_,rfl,?_⟩;rw[dP W.ok];cases q1:a.there b l with
  |false=>exact ref x1 (-2) (by decide) (by rw[lJ,if_pos q1];rfl)
  |true=>
   have n1:¬a.there b l=false:=by rw[q1];decide
   refine⟨_,rfl,nl,_,2,_,rfl,rfl,hnl1,aK (j:=2) rfl,_,_,rfl,rfl,_,rfl,rR ?_⟩;by_cases hc:n=0∨THINGS<n
   ·rw[yw hc];exact ref x1 (-22) (by decide) (by rw[lJ,if_neg n1,if_pos hc];rfl)
   ·rw[u4 hc];have h48:=W.ok.h.len Wa.sf;refine⟨_,rfl,wl,C,d.dx,_,_,rfl,W1.ins,T.cl,T.nTh,rfl,d.th,rfl,⟨_,.inl W1.th⟩,_,rfl,d.kh,key b l,.inl W1.th,⟨t,rfl,hq⟩,?_⟩;refine⟨_,rfl,nl,_,2,_,rfl,rfl,hnl1,aK (j:=2) rfl,_,_,W.ok.hv b l,rfl,?_⟩;refine⟨_,rfl,_,_,rfl,rfl,_,rfl,?_⟩;refine bZ (λe=>?_) (λe=>?_)
    ·have h0:(a.frame b l).things<n:=by have:=ck e;omega
     exact ref x1 (-6) (by decide) (by rw[lJ,if_neg n1,if_neg hc,if_pos h0];rfl)
    have h0:¬(a.frame b l).things<n:=λz=>e (aO (by omega));have hz:((a.frame b l).things:Int)- (n:Int)=(((a.frame b l).things-n:Nat):Int):=by omega
    refine⟨_,rfl,_,rfl,wl,C,d.dx,_,_,rfl,W1.ins,T.cl,T.nTh,rfl,_,rfl,d.th,d.kh,key b l,rfl,W1.th,⟨t,rfl,hq⟩,bc h48 (by decide),?_⟩;have D1:=ve Wa.sf W.ok q1 (g:=λx=>x-n) (n:=(a.frame b l).things-n) rfl;have W2:=W1.put_th D1;have c1:aX Pt wl d H1 (upd H1 d.th (.dM (bt d.kh (key b l) (.int (((a.frame b l).things-n:Nat):Int))))):=aX.own (C:=C) (a:=a) W1.th (.inr (.inr (.inr (.inr (.inr (.inl rfl)))))) (λ_ z=>nomatch z) (λ_ _ z=>nomatch z);have e1:does a (.unload b l n)=(a.set b l λx=>{x with things:=x.things-n},num ((a.frame b l).things-n) []):=by
     rw[lJ,if_neg n1,if_neg hc,if_neg h0]
    dsimp only;rw[hz];refine⟨_,rfl,?_⟩;refine k _ _ ((aX.of x1).trans c1) ?_ λ_=>⟨{d with kh:=bt d.kh (key b l) (.int (((a.frame b l).things-n:Nat):Int))},λc h=>h,?_⟩
    ·show _=(does a (.unload b l n)).2.value;rw[e1];rfl
    ·show aQ C _ wl (does a (.unload b l n)).1 _;rw[e1];exact W2
end
abbrev sCome:Stmt:=bq 52
abbrev sGo:Stmt:=bq 53
abbrev sDown:Stmt:=bq 54
theorem nJ(a:Abs)(w:Nat):does a (.come w)=if PEOPLE<=a.people.length then(a,no (-28))else if w=0∨200<w then(a,no (-22))else({a with people:=a.people++[⟨w,0⟩]},num a.people.length []):=rfl
theorem oq(a:Abs)(p:Nat):does a (.down p)=if a.isP p=false then(a,no (-2))else if(a.person p).at_=0 then(a,no (-17))else(a.moved p 0,num ((a.way (a.person p).at_ 0).getD 0) []):=rfl
theorem aQ.people{C wl:Addr}{H H':Hp}{a:Abs}{d:WD}{ps:List Person}{svs:List V}(W:aQ C H wl a d)
  (h1:H' d.we=some (.lst (ps.map λp=>V.int (p.weight:Nat)))) (h2:H' d.sp=some (.lst svs)) (h3:∀c o,H c=some o->c≠d.we->c≠d.sp->H' c=some o) (h4:bw H' (ps.map λp=>nk a p.at_) svs):
  aQ C H' wl {a with people:=ps} {d with svs:=svs}:=by
 have nl:=W.nl;simp only[cG,a9,gr,gs,dI]at nl;obtain⟨⟨n1,n2⟩,n3,_⟩:=nl;have st:∀{c:Addr} {o:HO},H c=some o->(∀ys,o≠.lst ys)->H' c=some o:=λ{c o} q n=>h3 c o q (aC q W.we (n _)) (aC q W.sp (n _));exact⟨st W.ins (λ_ z=>nomatch z),h3 _ _ W.g n1 n2,st W.fr (λ_ z=>nomatch z),st W.ti (λ_ z=>nomatch z),st W.th (λ_ z=>nomatch z),st W.la (λ_ z=>nomatch z),h1,h2,h4,
  ⟨⟨W.ok.f.nd,W.ok.f.at_⟩,⟨W.ok.t.nd,W.ok.t.at_⟩,⟨W.ok.h.nd,W.ok.h.at_⟩,⟨W.ok.l.nd,W.ok.l.at_⟩,W.ok.fv,W.ok.tv,W.ok.hv,W.ok.lv⟩,W.nd,W.nl⟩
theorem FS{n:Nat}(h:¬(n=0∨200<n)):(decide ((1:Int)<=(n:Nat))&&decide (((n:Nat):Int)<=200))=true:=by
 rw[aO (by omega),aO (by omega)];rfl
theorem Ax{n:Nat}(h:n=0∨200<n):(decide ((1:Int)<=(n:Nat))&&decide (((n:Nat):Int)<=200))=false:=by
 rcases h with h|h
 ·rw[ba (by omega)];rfl
 ·rw[ba (show¬((n:Nat):Int)<=200 by omega),tF]
theorem aQ.svs_len{C wl:Addr}{H:Hp}{a:Abs}{d:WD}(W:aQ C H wl a d):d.svs.length=a.people.length:=by
 have:=cA W.spk;rw[List.length_map]at this;exact this.symm
section
variable{P:Program}{w:World}{K:PySem.W.Frag}{mg:Str->Option Value}{base:Heap}
theorem DW:bj ["wall","numbers"] ["wall","numbers"] (aM sCome):=⟨rfl,rfl,rfl,by decide +kernel,rfl,by decide +kernel,by decide +kernel⟩
theorem A9{f C Pt:Addr}{fd:FuncData}(F:a8 K "come" "come" sCome f fd)(T:bW K mg C)(TC:TxtC mg)(hlen:mg "len"=none):
  ak P w K mg base au 1 f fd ["wall","numbers"] (eF K C Pt 1 λxs=>.come (xs.getD 0 0)):=by
 obtain⟨ttm,htm⟩:=TC.tooMany;obtain⟨tmp,hmp⟩:=TC.mostPersons;obtain⟨too,hoo⟩:=TC.outOf;obtain⟨thv,hhv⟩:=TC.heaviest;obtain⟨tg,hgr⟩:=T.ground;refine F.ok DW (λvs H Q E h=>?_) (λcdv A outer s H vs Q E hr h=>?_)
 ·obtain⟨wl,nl,a,d,xs,rfl,_⟩:=h;rfl
 ·obtain⟨wl,nl,a,d,xs,rfl,hxl,Wa,W,hnl,hno,hT,k⟩:=h;obtain⟨n,rfl⟩:∃n,xs=[n]:=by
   match xs,hxl with
   | [n],_=>exact⟨n,rfl⟩
  refine⟨_,ai (aV (aR gX (cx eK (by rfl) hlen gq (ab (ax (pv 0) rfl) af)) (aP (v:=.int 8) rfl hmp ⟨tmp,rfl⟩) (b7 _)) (aw (aF (aP (v:=.int (-28)) rfl htm ⟨ttm,rfl⟩))) aY)
   (ai (aV (jm (qS il il aq (aL bf (pv 1) aq (λ_ _=>rfl)) (aP (v:=.int 200) rfl hhv ⟨thv,rfl⟩))) (aw (aF (aP (v:=.int (-22)) rfl hoo ⟨too,rfl⟩))) aY)
   (ai (fx (ja jQ nu nv jS (ax (pv 0) rfl) (ab (aL bf (pv 1) aq (λ_ _=>rfl)) af)))
   (ai (fx (ja jQ nu nv jS (ax (pv 0) rfl) (ab (aP (v:=.str "ground") rfl hgr ⟨tg,rfl⟩) af)))
   (aw (aF (cW gQ (cx eK (by rfl) hlen gq (ab (ax (pv 0) rfl) af)) aq)))))),?_⟩
  have ref:∀(z:Int),z<0->z=(does a (.come n)).2.value->Q (.int z) H:=λz h e=>k H z (.of aj.refl) e λh'=>absurd h (by omega);have hsl:=W.svs_len;refine⟨_,rfl,wl,C,d.dx,_,_,rfl,W.ins,T.cl,T.nSp,rfl,d.sp,_,rfl,.inl (SqL.of W.sp),rfl,_,rfl,?_⟩;have hp8:=Wa.plen;refine bZ (λe=>?_) (λe=>?_)
  ·have h8:PEOPLE<=a.people.length:=by
    have:=ck e;injection this with this;unfold PEOPLE;omega
   exact ref (-28) (by decide) (by rw[nJ,if_pos h8];rfl)
  have h8:¬PEOPLE<=a.people.length:=λz=>e (aO (by
   unfold PEOPLE at z;rw[hsl,show a.people.length=8 by omega];rfl))
  refine⟨_,rfl,nl,_,0,_,rfl,rfl,hnl,aK (j:=0) rfl,_,_,rfl,rfl,_,rfl,rR ?_⟩;by_cases hc:n=0∨200<n
  ·rw[Ax hc];exact ref (-22) (by decide) (by rw[nJ,if_neg h8,if_pos hc];rfl)
  rw[FS hc];have nl3:=W.nl;simp only[cG,a9,gr,gs,dI]at nl3;obtain⟨⟨n1,n2⟩,n3,_⟩:=nl3;refine⟨_,rfl,wl,C,d.dx,_,_,rfl,W.ins,T.cl,T.nWe,rfl,.inl ⟨rfl,_,SqL.of W.we⟩,_,rfl,nl,_,0,_,rfl,rfl,hnl,aK (j:=0) rfl,d.we,_,_,rfl,rfl,W.we,?_,?_⟩
  ·rw[List.length_map];exact bc hp8 (by decide)
  have st1:∀{c:Addr} {o:HO},H c=some o->c≠d.we->upd H d.we (.lst ((a.people.map λp=>V.int (p.weight:Nat))++[V.int (n:Nat)])) c=some o:=λ{c o} q ne=>by rw[ag ne];exact q
  have we1:upd H d.we (.lst ((a.people.map λp=>V.int (p.weight:Nat))++[V.int (n:Nat)])) d.we=some (.lst ((a.people.map λp=>V.int (p.weight:Nat))++[V.int (n:Nat)])):=ao;have c1:aX Pt wl d H (upd H d.we (.lst ((a.people.map λp=>V.int (p.weight:Nat))++[V.int (n:Nat)]))):=aX.own (C:=C) (a:=a) W.we (.inr (.inr (.inr (.inr (.inr (.inr (.inr (.inl rfl)))))))) (λ_ z=>nomatch z) (λ_ _ z=>nomatch z);show dz _ _ _ _ (upd H d.we (.lst ((a.people.map λp=>V.int (p.weight:Nat))++[V.int (n:Nat)])));generalize upd H d.we (.lst ((a.people.map λp=>V.int (p.weight:Nat))++[V.int (n:Nat)]))=H1 at st1 we1 c1⊢;have ins1:=st1 W.ins (aC W.ins W.we (λz=>nomatch z));have sp1:=st1 W.sp (bP n3);refine⟨_,rfl,wl,C,d.dx,_,_,rfl,ins1,T.cl,T.nSp,rfl,.inl ⟨rfl,_,SqL.of sp1⟩,d.sp,_,_,rfl,rfl,sp1,?_,?_⟩
  ·rw[hsl];exact bc hp8 (by decide)
  have c2:aX Pt wl d H1 (upd H1 d.sp (.lst (d.svs++[V.str "ground"]))):=aX.own (C:=C) (a:=a) sp1 (.inr (.inr (.inr (.inr (.inr (.inr (.inr (.inr rfl)))))))) (λ_ z=>nomatch z) (λ_ _ z=>nomatch z);have W2:aQ C (upd H1 d.sp (.lst (d.svs++[V.str "ground"]))) wl {a with people:=a.people++[⟨n,0⟩]} {d with svs:=d.svs++[V.str "ground"]}:=by
   refine W.people (by rw[ag n3,we1,cf];rfl) ao (λc o q n m=>by rw[ag m];exact st1 q n) ?_;rw[cf];refine eY (W.spk.mono λb xs q=>?_) rfl;have q1:=st1 q (aC q W.we (λz=>nomatch z));rw[ag (aC q1 sp1 (λz=>nomatch z))];exact q1
  generalize upd H1 d.sp (.lst (d.svs++[V.str "ground"]))=H2 at c2 W2⊢;refine⟨_,rfl,wl,C,d.dx,_,_,rfl,W2.ins,T.cl,T.nSp,rfl,d.sp,_,rfl,.inl (SqL.of W2.sp),_,_,rfl,rfl,?_⟩;have e1:does a (.come n)=({a with people:=a.people++[⟨n,0⟩]},num a.people.length []):=by
   rw[nJ,if_neg h8,if_neg hc]
  refine k H2 _ (c1.trans c2) ?_ λ_=>⟨{d with svs:=d.svs++[V.str "ground"]},λc h=>h,?_⟩
  ·show _=(does a (.come n)).2.value;rw[e1];show(((d.svs++[V.str "ground"]).length:Nat):Int)-1=((a.people.length:Nat):Int);rw[df,hsl];simp
  ·show aQ C H2 wl (does a (.come n)).1 _;rw[e1];exact W2
end
theorem vh{H:Hp}:∀{ks:List MK} {ys:List V} {i:Nat} {k:MK} {y:V},bw H ks ys->br H k y->bw H (ks.set i k) (ys.set i y)
 |_,_,_,_,_,.nil,_=>.nil
 |_,_,0,_,_,.cons _ t,m=>.cons m t
 |_,_,i+1,_,_,.cons m0 t,m=>.cons m0 (vh t m)
theorem Dk(ps:List Person)(p x:Nat):((ps.modify p λz=>{z with at_:=x}).map λq=>V.int (q.weight:Nat))=ps.map λq=>V.int (q.weight:Nat):=by
 induction ps generalizing p with
 |nil=>cases p<;>rfl
 |cons a r ih=>
  cases p with
  |zero=>rfl
  |succ p=>
   rw[pR,aW,ih,aW]
theorem Gh(a:Abs)(ps:List Person)(p x:Nat):((ps.modify p λz=>{z with at_:=x}).map λq=>nk a q.at_)=(ps.map λq=>nk a q.at_).set p (nk a x):=by
 induction ps generalizing p with
 |nil=>cases p<;>rfl
 |cons q r ih=>
  cases p with
  |zero=>rfl
  |succ p=>
   rw[pR,aW,ih,aW,List.set_cons_succ]
theorem aQ.moved{C wl:Addr}{H:Hp}{a:Abs}{d:WD}{p x:Nat}{y:V}(W:aQ C H wl a d)(m:br H (nk a x) y):aQ C (upd H d.sp (.lst (d.svs.set p y))) wl (a.moved p x) {d with svs:=d.svs.set p y}:=by
 have nl:=W.nl;simp only[cG,a9,gr,gs,dI]at nl;have tup:∀b xs,H b=some (.tup xs)->upd H d.sp (.lst (d.svs.set p y)) b=some (.tup xs):=λb xs q=>by rw[ag (aC q W.sp (λz=>nomatch z))];exact q
 refine W.people (ps:=a.people.modify p λz=>{z with at_:=x}) ?_ ao (λc o q _ m=>by rw[ag m];exact q) ?_
 ·rw[Dk,ag nl.2.1];exact W.we
 ·rw[Gh];exact vh (W.spk.mono tup) (m.mono tup)
theorem B5{a:Abs}(S:Sf a){p x:Nat}(hx:bQ a x):Sf (a.moved p x):=by
 refine D5 S (by rw[List.length_modify];exact S.plen) (λq hq=>?_) (λq hq=>?_)
 ·rcases md hq with h|⟨y,hy,rfl⟩
  ·exact S.pw q h
  ·exact S.pw y (cE hy)
 ·rcases md hq with h|⟨y,hy,rfl⟩
  ·exact S.pat q h
  ·exact hx
theorem xG{a:Abs}{p:Nat}(h:p<a.people.length):a.people[p]?=some (a.person p):=by
 unfold Abs.person;rw[du,aZ h];rfl
theorem aQ.spot{K:PySem.W.Frag}{C wl:Addr}{H:Hp}{a:Abs}{d:WD}(W:aQ C H wl a d){p:Nat}(h:p<a.people.length):∃y,d.svs[p]?=some y/\br H (nk a (a.person p).at_) y:=by
 obtain⟨z,hz1,hz2⟩:=dX W.spk (i:=p) (a:=nk a (a.person p).at_) (by rw[bY,xG h];rfl);exact⟨z,hz1,hz2⟩
theorem oW{a:Abs}{p:Nat}:a.isP p=true↔p<a.people.length:=by unfold Abs.isP;simp
theorem o8{a:Abs}{p:Nat}:a.isP p=false↔¬p<a.people.length:=by unfold Abs.isP;simp
section
variable{P:Program}{w:World}{K:PySem.W.Frag}{mg:Str->Option Value}{base:Heap}
theorem sm:bj ["wall","numbers","person","steps"] ["wall","numbers"] (aM sDown):=⟨rfl,rfl,rfl,by decide +kernel,rfl,by decide +kernel,by decide +kernel⟩
theorem Fe{f fN C Pt:Addr}{fd fdN:FuncData}(F:a8 K "down" "down" sDown f fd)(T:bW K mg C)(TC:TxtC mg)(hlen:mg "len"=none)
  (GN:ak P w K mg base au 3 fN fdN ["wall","start"] (ky K C)) (kN:PySem.W.keepIn K (.ref fN)=true) (bN:aN K fdN ["wall","start"] []) (mN:mg "steps_from"=some (.ref fN)):
  ak P w K mg base au 4 f fd ["wall","numbers"] (eF K C Pt 1 λxs=>.down (xs.getD 0 0)):=by
 obtain⟨tns,hns⟩:=TC.noSuch;obtain⟨tso,hso⟩:=TC.soAlready;obtain⟨tg,hgr⟩:=T.ground;refine F.ok sm (λvs H Q E h=>?_) (λcdv A outer s H vs Q E hr h=>?_)
 ·obtain⟨wl,nl,a,d,xs,rfl,_⟩:=h;rfl
 ·obtain⟨wl,nl,a,d,xs,rfl,hxl,Wa,W,hnl,hno,hT,k⟩:=h;obtain⟨p,rfl⟩:∃n,xs=[n]:=by
   match xs,hxl with
   | [n],_=>exact⟨n,rfl⟩
  have hu:=cP hr;have hu64:(A.deeper (envOfC "down" (aM sDown) s.heap.objs.size f cdv)).units+64<cLine:=by have:=hr.un;omega
  refine⟨_,ai (aS (i:=2) sm.nd rfl (Or.inl rfl) (aL bf (pv 1) aq (λ_ _=>rfl)))
   (ai (aV (aR i8 (pv 2) (cx eK (by rfl) hlen gq (ab (ax (pv 0) rfl) af)) (b7 _)) (aw (aF (aP (v:=.int (-2)) rfl hns ⟨tns,rfl⟩))) aY)
   (ai (aV (aR (mJ hu64) (aL bf (ax (pv 0) rfl) (pv 2) (λ_ _=>rfl)) (aP (v:=.str "ground") rfl hgr ⟨tg,rfl⟩) (b7 _)) (aw (aF (aP (v:=.int (-17)) rfl hso ⟨tso,rfl⟩))) aY)
   (ai (aS (i:=3) sm.nd rfl (Or.inl rfl) (bg GN hr rfl mN kN bN .nil aU (ab (pv 0) (ab (aL bf (ax (pv 0) rfl) (pv 2) (λ_ _=>rfl)) af))))
   (ai (rG (aP (v:=.str "ground") rfl hgr ⟨tg,rfl⟩) (sL (ax (pv 0) rfl) (pv 2) qD))
   (aw (aF (gb hu (pv 3) (aP (v:=.str "ground") rfl hgr ⟨tg,rfl⟩) (λ_ _=>rfl)))))))),?_⟩
  have ref:∀(z:Int),z<0->z=(does a (.down p)).2.value->Q (.int z) H:=λz h e=>k H z (.of aj.refl) e λh'=>absurd h (by omega);have hsl:=W.svs_len;refine⟨_,rfl,nl,_,0,_,rfl,rfl,hnl,aK (j:=0) rfl,?_⟩;refine⟨_,rfl,_,rfl,wl,C,d.dx,_,_,rfl,W.ins,T.cl,T.nSp,rfl,d.sp,_,rfl,.inl (SqL.of W.sp),_,_,rfl,rfl,_,rfl,?_⟩;refine bZ (λe=>?_) (λe=>?_)
  ·have h0:¬p<a.people.length:=by have:=ck e;omega
   exact ref (-2) (by decide) (by rw[oq,if_pos (o8.mpr h0)];rfl)
  have h0:p<a.people.length:=by
   have:¬((d.svs.length:Int)<=(p:Int)):=λz=>e (aO z);omega
  have n1:¬a.isP p=false:=by rw[oW.mpr h0];decide
  obtain⟨y,hy,my⟩:=W.spot (K:=K) h0;refine⟨_,rfl,wl,C,d.dx,_,_,rfl,W.ins,T.cl,T.nSp,rfl,_,rfl,d.sp,_,p,_,rfl,rfl,SqL.of W.sp,aK hy,nk a (a.person p).at_,.inl "ground",iJ _ _,jG,my,rfl,_,rfl,?_⟩;rw[jZ];refine bZ (λe=>?_) (λe=>?_)
  ·exact ref (-17) (by decide) (by rw[oq,if_neg n1,if_pos (ck e)];rfl)
  have hat:¬(a.person p).at_=0:=λz=>e (aO z);have hpat:=Wa.pat _ (jF h0);refine⟨_,rfl,_,rfl,wl,C,d.dx,_,_,rfl,W.ins,T.cl,T.nSp,rfl,_,rfl,d.sp,_,p,_,rfl,rfl,SqL.of W.sp,aK hy,?_⟩;refine⟨wl,y,a,d,(a.person p).at_,rfl,Wa.sf,W.r,hpat,my,λH1 q ps k1 hq eq st=>?_⟩;have W1:=W.kp k1;refine⟨_,rfl,wl,C,d.dx,_,_,rfl,W1.ins,T.cl,T.nSp,rfl,_,rfl,d.sp,_,p,p,rfl,rfl,W1.sp,qY (by rw[hsl];exact h0),?_⟩;have W2:=W1.moved (p:=p) (x:=0) (y:=V.str "ground") rfl;have c2:aX Pt wl d H1 (upd H1 d.sp (.lst (d.svs.set p (V.str "ground")))):=aX.own (C:=C) (a:=a) W1.sp (.inr (.inr (.inr (.inr (.inr (.inr (.inr (.inr rfl)))))))) (λ_ z=>nomatch z) (λ_ _ z=>nomatch z);have eq2:upd H1 d.sp (.lst (d.svs.set p (V.str "ground"))) q=some (.dM (dk a ps)):=by rw[ag (aC eq W1.sp (λz=>nomatch z))];exact eq
  have hway:∃i,a.way (a.person p).at_ 0=some i:=by
   have h1:=Wa.down _ (jF h0);have h2:=(jT (da _)).mpr h1;rw[←xk Wa.lads hpat]at h2;exact mQ.mp h2
  obtain⟨i,hi⟩:=hway;refine⟨_,rfl,q,_,.inl "ground",V.int (i:Nat),rfl,.inl eq2,rfl,?_,?_⟩
  ·have:=st.val Wa.sf hpat (y:=0) (.inl rfl);rw[hi]at this;exact this
  have e1:does a (.down p)=(a.moved p 0,num i []):=by
   rw[oq,if_neg n1,if_neg hat,hi];rfl
  refine k _ _ ((aX.of (aj.all k1)).trans c2) ?_ λ_=>⟨{d with svs:=d.svs.set p (V.str "ground")},λc h=>h,?_⟩
  ·show _=(does a (.down p)).2.value;rw[e1];rfl
  ·show aQ C _ wl (does a (.down p)).1 _;rw[e1];exact W2
theorem kj(a:Abs)(p b l:Nat):does a (.go p b l)=if a.isP p=false∨a.there b l=false then(a,no (-2))else if(a.person p).at_=a.place b l+1 then(a,no (-17))else(match a.way (a.person p).at_ (a.place b l+1)with
  |none=>(a,no (-33))
  |some k=>if(a.moved p (a.place b l+1)).safe=false then(a,no (-41))else(a.moved p (a.place b l+1),num k [])):=rfl
theorem pB:bj ["wall","numbers","person","place","steps"] ["wall","numbers"] (aM sGo):=⟨rfl,rfl,rfl,by decide +kernel,rfl,by decide +kernel,by decide +kernel⟩
theorem Bg{f fN fM C Pt:Addr}{fd fdN fdM:FuncData}(F:a8 K "go" "go" sGo f fd)(T:bW K mg C)(TC:TxtC mg)(hlen:mg "len"=none)
  (GN:ak P w K mg base au 3 fN fdN ["wall","start"] (ky K C)) (kN:PySem.W.keepIn K (.ref fN)=true) (bN:aN K fdN ["wall","start"] []) (mN:mg "steps_from"=some (.ref fN))
  (GM:ak P w K mg base au 6 fM fdM ["wall"] (iq K C Pt λa=>!a.safe)) (kM:PySem.W.keepIn K (.ref fM)=true) (bM:aN K fdM ["wall"] []) (mM:mg "too_much"=some (.ref fM)):
  ak P w K mg base au 7 f fd ["wall","numbers"] (eF K C Pt 3 λxs=>.go (xs.getD 0 0) (xs.getD 1 0) (xs.getD 2 0)):=by
 obtain⟨tns,hns⟩:=TC.noSuch;obtain⟨tso,hso⟩:=TC.soAlready;obtain⟨tcb,hcb⟩:=TC.cannotBe;obtain⟨ttm,htm⟩:=TC.tooMuch;refine F.ok pB (λvs H Q E h=>?_) (λcdv A outer s H vs Q E hr h=>?_)
 ·obtain⟨wl,nl,a,d,xs,rfl,_⟩:=h;rfl
 ·obtain⟨wl,nl,a,d,xs,rfl,hxl,Wa,W,hnl,hno,hT,k⟩:=h;obtain⟨p,b,l,rfl⟩:∃p b l,xs=[p,b,l]:=by
   match xs,hxl with
   | [p,b,l],_=>exact⟨p,b,l,rfl⟩
  have hu:=cP hr;have hu64:(A.deeper (envOfC "go" (aM sGo) s.heap.objs.size f cdv)).units+64<cLine:=by have:=hr.un;omega
  refine⟨_,ai (aS (i:=2) pB.nd rfl (Or.inl rfl) (aL bf (pv 1) aq (λ_ _=>rfl)))
   (ai (aS (i:=3) pB.nd rfl (Or.inl rfl) (c8 (ab (aL bf (pv 1) aq (λ_ _=>rfl)) (ab (aL bf (pv 1) aq (λ_ _=>rfl)) af))))
   (ai (aV (PW.pt (jJ (aR i8 (pv 2) (cx eK (by rfl) hlen gq (ab (ax (pv 0) rfl) af)) (b7 _)) (jC (aR (dq hu) (pv 3) (ax (pv 0) rfl) (by with_unfolding_all rfl)))))
    (aw (aF (aP (v:=.int (-2)) rfl hns ⟨tns,rfl⟩))) aY)
   (ai (aV (aR (mJ hu64) (aL bf (ax (pv 0) rfl) (pv 2) (λ_ _=>rfl)) (pv 3) (b7 _)) (aw (aF (aP (v:=.int (-17)) rfl hso ⟨tso,rfl⟩))) aY)
   (ai (aS (i:=4) pB.nd rfl (Or.inl rfl) (bg (GN.mono (k:=6) (by decide)) hr rfl mN kN bN .nil aU (ab (pv 0) (ab (aL bf (ax (pv 0) rfl) (pv 2) (λ_ _=>rfl)) af))))
   (ai (aV (aR (dq hu) (pv 3) (pv 4) (by with_unfolding_all rfl)) (aw (aF (aP (v:=.int (-33)) rfl hcb ⟨tcb,rfl⟩))) aY)
   (ai (rG (pv 3) (sL (ax (pv 0) rfl) (pv 2) qD))
   (ai (aV (eO (bg GM hr rfl mM kM bM .nil aU (ab (pv 0) af))) (aw (aF (aP (v:=.int (-41)) rfl htm ⟨ttm,rfl⟩))) aY)
   (aw (aF (gb hu (pv 4) (pv 3) (λ_ _=>rfl))))))))))),?_⟩
  have hsl:=W.svs_len;refine⟨_,rfl,nl,_,0,_,rfl,rfl,hnl,aK (j:=0) rfl,?_⟩;refine⟨_,rfl,nl,_,1,_,rfl,rfl,hnl,aK (j:=1) rfl,_,rfl,nl,_,2,_,rfl,rfl,hnl,aK (j:=2) rfl,(by show 2<=sizeLine;decide),λt ht=>?_⟩;have kt:Kp H (upd H t (.tup [.int (b:Nat),.int (l:Nat)])):=Kp.laid ht;have W1:=W.kp kt;have hq:bX (upd H t (.tup [.int (b:Nat),.int (l:Nat)])) t b l:=ao;have x1:aj Pt H (upd H t (.tup [.int (b:Nat),.int (l:Nat)])):=aj.all kt;have T1:=x1.tab hT;show dz _ _ _ _ (upd H t (.tup [.int (b:Nat),.int (l:Nat)]));generalize upd H t (.tup [.int (b:Nat),.int (l:Nat)])=H1 at kt W1 hq x1 T1⊢;have ref:∀{H':Hp} (x:aj Pt H H') (z:Int),z<0->z=(does a (.go p b l)).2.value->Q (.int z) H':=λ{H'} x z h e=>k H' z (.of x) e λh'=>absurd h (by omega);refine⟨_,rfl,_,rfl,wl,C,d.dx,_,_,rfl,W1.ins,T.cl,T.nSp,rfl,d.sp,_,rfl,.inl (SqL.of W1.sp),_,_,rfl,rfl,_,rfl,?_⟩;refine bZ (λe=>?_) (λe=>?_)
  ·have h0:¬p<a.people.length:=by have:=ck e;omega
   exact ref x1 (-2) (by decide) (by rw[kj,if_pos (.inl (o8.mpr h0))];rfl)
  have h0:p<a.people.length:=by
   have:¬((d.svs.length:Int)<=(p:Int)):=λz=>e (aO z);omega
  refine⟨_,rfl,_,rfl,wl,C,d.dx,_,_,rfl,W1.ins,T.cl,T.nFr,rfl,d.fr,d.kf,key b l,rfl,.inl W1.fr,⟨t,rfl,hq⟩,_,rfl,?_⟩;rw[dP W.ok];cases q1:a.there b l with
  |false=>exact ref x1 (-2) (by decide) (by rw[kj,if_pos (.inr q1)];rfl)
  |true=>
   have n1:¬(a.isP p=false∨a.there b l=false):=by
    rintro(z|z)
    ·rw[oW.mpr h0]at z;cases z
    ·rw[q1]at z;cases z
   obtain⟨y,hy,my⟩:=W1.spot (K:=K) h0;have hpat:=Wa.pat _ (jF h0);have hnode:bQ a (a.place b l+1):=.inr ⟨b,l,q1,rfl⟩;refine⟨_,rfl,wl,C,d.dx,_,_,rfl,W1.ins,T.cl,T.nSp,rfl,_,rfl,d.sp,_,p,_,rfl,rfl,SqL.of W1.sp,aK hy,_,rfl,nk a (a.person p).at_,key b l,iJ _ _,rh _ _,my,⟨t,rfl,hq⟩,_,rfl,?_⟩;refine bZ (λe=>?_) (λe=>?_)
   ·have h1:=(lT q1 hpat).mp (ck e);exact ref x1 (-17) (by decide) (by rw[kj,if_neg n1,if_pos h1];rfl)
   have h1:¬(a.person p).at_=a.place b l+1:=λz=>e (aO ((lT q1 hpat).mpr z));refine⟨_,rfl,_,rfl,wl,C,d.dx,_,_,rfl,W1.ins,T.cl,T.nSp,rfl,_,rfl,d.sp,_,p,_,rfl,rfl,SqL.of W1.sp,aK hy,?_⟩;refine⟨wl,y,a,d,(a.person p).at_,rfl,Wa.sf,W1.r,hpat,my,λH2 q ps k2 hq2 eq2 st=>?_⟩;have W2:=W1.kp k2;have x2:=x1.trans (aj.all (Pt:=Pt) k2);have T2:=x2.tab hT;have hqt:=k2 _ _ hq;have hval:=st.val Wa.sf hpat hnode;rw[dE q1]at hval;refine⟨_,rfl,_,rfl,q,_,key b l,rfl,.inl eq2,⟨t,rfl,hqt⟩,_,rfl,?_⟩;rw[hval,zm];cases hw:a.way (a.person p).at_ (a.place b l+1)with
   |none=>exact ref x2 (-33) (by decide) (by rw[kj,if_neg n1,if_neg h1,hw];rfl)
   |some i=>
    rw[hw]at hval;refine⟨_,rfl,_,rfl,wl,C,d.dx,_,_,rfl,W2.ins,T.cl,T.nSp,rfl,_,rfl,d.sp,_,p,p,rfl,rfl,W2.sp,qY (by rw[hsl];exact h0),?_⟩;have W3:=W2.moved (p:=p) (x:=a.place b l+1) (y:=V.ref t) (by rw[dE q1];exact⟨t,rfl,hqt⟩);have c3:aX Pt wl d H2 (upd H2 d.sp (.lst (d.svs.set p (V.ref t)))):=aX.own (C:=C) (a:=a) W2.sp (.inr (.inr (.inr (.inr (.inr (.inr (.inr (.inr rfl)))))))) (λ_ z=>nomatch z) (λ_ _ z=>nomatch z);have eq3:upd H2 d.sp (.lst (d.svs.set p (V.ref t))) q=some (.dM (dk a ps)):=by rw[ag (aC eq2 W2.sp (λz=>nomatch z))];exact eq2
    have hq3:upd H2 d.sp (.lst (d.svs.set p (V.ref t))) t=some (.tup [.int (b:Nat),.int (l:Nat)]):=by rw[ag (aC hqt W2.sp (λz=>nomatch z))];exact hqt
    have T3:=c3.tab T2;have S3:Sf (a.moved p (a.place b l+1)):=B5 Wa.sf hnode;show dz _ _ _ _ (upd H2 d.sp (.lst (d.svs.set p (V.ref t))));generalize upd H2 d.sp (.lst (d.svs.set p (V.ref t)))=H3 at W3 c3 eq3 hq3 T3⊢;refine⟨_,rfl,wl,_,_,rfl,S3,W3.r,W3.fr,T3,λH4 x4=>?_⟩;have W4:=W3.ext x4 T3;have c4:aX Pt wl d H H4:=((aX.of x2).trans c3).trans (.of x4);have e1:does a (.go p b l)=if(a.moved p (a.place b l+1)).safe=false then(a,no (-41))else(a.moved p (a.place b l+1),num i []):=by
     rw[kj,if_neg n1,if_neg h1,hw]
    refine⟨_,rfl,?_⟩;refine bZ (λe=>?_) (λe=>?_)
    ·have z:(a.moved p (a.place b l+1)).safe=false:=by
      have e':(!(a.moved p (a.place b l+1)).safe)=true:=e;simpa using e'
     rw[if_pos z]at e1;refine k H4 (-41) c4 ?_ (λz=>absurd z (by decide));show _=(does a (.go p b l)).2.value;rw[e1];rfl
    ·have z:(a.moved p (a.place b l+1)).safe=true:=by
      have e':¬(!(a.moved p (a.place b l+1)).safe)=true:=e;simpa using e'
     rw[if_neg (by rw[z];decide)]at e1;refine⟨_,rfl,_,rfl,q,_,key b l,_,rfl,x4.rd T3 (.inl eq3) (λ_ z=>nomatch z),⟨t,rfl,x4.tup T3 hq3⟩,hval,?_⟩;refine k H4 _ c4 ?_ λ_=>⟨{d with svs:=d.svs.set p (V.ref t)},λc h=>h,?_⟩
     ·show _=(does a (.go p b l)).2.value;rw[e1];rfl
     ·show aQ C H4 wl (does a (.go p b l)).1 _;rw[e1];exact W4
end
abbrev sState:Stmt:=bq 72
abbrev sWhere:Stmt:=bq 70
abbrev sHighT:Stmt:=bq 62
abbrev sBears:Stmt:=bq 59
abbrev sFeet:Stmt:=bq 60
abbrev sWay:Stmt:=bq 63
def cI(r:Ans):List V:=V.int r.value::r.out.map λn=>V.int (n:Nat)
def d6(K:PySem.W.Frag)(C Pt:Addr)(n:Nat)(cl:List Nat->Call):Sp:=λvs H Q _=>∃wl nl a d,∃xs:List Nat,vs=[.ref wl,.ref nl]/\xs.length=n/\Wf a/\aQ C H wl a d/\SqL K H nl (xs.map λx=>V.int (x:Nat))/\bx H Pt bu bz/\
 ∀H' q,aj Pt H H'->H q=none->H' q=some (.lst (cI (does a (cl xs)).2))->Q (.ref q) H'
theorem dm{Pt:Addr}{H H1:Hp}{Q:VK}{r:Ans}(k:∀H' q,aj Pt H H'->H q=none->H' q=some (.lst (cI r))->Q (.ref q) H')(hT:bx H Pt bu bz)(x:aj Pt H H1){ys:List V}(e:ys=cI r){q:Addr}(hq:H1 q=none):Q (.ref q) (upd H1 q (.lst ys)):=
 k _ q (x.trans (aj.laid hq)) (x.free hT hq) (by rw[ao,e])
theorem sM(a:Abs)(p:Nat):does a (.where_ p)=if a.isP p=false then(a,no (-2))else if(a.person p).at_=0 then(a,num 0 [(a.person p).weight,0,0])else(a,num 1 [(a.person p).weight,a.bay ((a.person p).at_-1),a.level ((a.person p).at_-1)]):=rfl
theorem uQ(a:Abs)(b l:Nat):does a (.bears b l)=if a.there b l=false then(a,no (-2))else(a,num (a.load b l) [a.most-a.load b l]):=rfl
theorem vo(a:Abs)(b l:Nat):does a (.high b l)=if a.there b l=false then(a,no (-2))else(a,num (a.high b l) []):=rfl
theorem oy(a:Abs)(p b l:Nat):does a (.way p b l)=if a.isP p=false∨a.there b l=false then(a,no (-2))else(match a.way (a.person p).at_ (a.place b l+1)with
  |none=>(a,no (-33))
  |some k=>(a,num k [])):=rfl
section
variable{P:Program}{w:World}{K:PySem.W.Frag}{mg:Str->Option Value}{base:Heap}
theorem zx:bj ["wall","numbers"] ["wall","numbers"] (aM sState):=⟨rfl,rfl,rfl,by decide +kernel,rfl,by decide +kernel,by decide +kernel⟩
theorem Fh{f C Pt:Addr}{fd:FuncData}(F:a8 K "state" "state" sState f fd)(T:bW K mg C)(hlen:mg "len"=none):
  ak P w K mg base au 1 f fd ["wall","numbers"] (d6 K C Pt 0 λ_=>.state):=by
 refine F.ok zx (λvs H Q E h=>?_) (λcdv A outer s H vs Q E hr h=>?_)
 ·obtain⟨wl,nl,a,d,xs,rfl,_⟩:=h;rfl
 ·obtain⟨wl,nl,a,d,xs,rfl,hxl,Wa,W,hnl,hT,k⟩:=h;refine⟨_,aw (aF (cu (ab (ax (pv 0) rfl) (ab (ax (pv 0) rfl) (ab (ax (pv 0) rfl) (ab (ax (pv 0) rfl) (ab (ax (pv 0) rfl) (ab (cx eK (by rfl) hlen gq (ab (ax (pv 0) rfl) af)) af)))))))),?_⟩;refine⟨_,rfl,wl,C,d.dx,_,_,rfl,W.ins,T.cl,T.nB,rfl,?_⟩;refine⟨_,rfl,wl,C,d.dx,_,_,rfl,W.ins,T.cl,T.nL,rfl,?_⟩;refine⟨_,rfl,wl,C,d.dx,_,_,rfl,W.ins,T.cl,T.nW,rfl,?_⟩;refine⟨_,rfl,wl,C,d.dx,_,_,rfl,W.ins,T.cl,T.nM,rfl,?_⟩;refine⟨_,rfl,wl,C,d.dx,_,_,rfl,W.ins,T.cl,T.nF,rfl,?_⟩;refine⟨_,rfl,wl,C,d.dx,_,_,rfl,W.ins,T.cl,T.nSp,rfl,d.sp,_,rfl,.inl (SqL.of W.sp),?_⟩;refine⟨(by show 6<=sizeLine;decide),λq hq=>dm k hT aj.refl ?_ hq⟩;rw[W.svs_len];rfl
theorem rl:bj ["wall","numbers","person","spot"] ["wall","numbers"] (aM sWhere):=⟨rfl,rfl,rfl,by decide +kernel,rfl,by decide +kernel,by decide +kernel⟩
theorem FG{f C Pt:Addr}{fd:FuncData}(F:a8 K "where" "where" sWhere f fd)(T:bW K mg C)(TC:TxtC mg)(hlen:mg "len"=none):
  ak P w K mg base au 1 f fd ["wall","numbers"] (d6 K C Pt 1 λxs=>.where_ (xs.getD 0 0)):=by
 obtain⟨tns,hns⟩:=TC.noSuch;obtain⟨tg,hgr⟩:=T.ground;refine F.ok rl (λvs H Q E h=>?_) (λcdv A outer s H vs Q E hr h=>?_)
 ·obtain⟨wl,nl,a,d,xs,rfl,_⟩:=h;rfl
 ·obtain⟨wl,nl,a,d,xs,rfl,hxl,Wa,W,hnl,hT,k⟩:=h;obtain⟨p,rfl⟩:∃n,xs=[n]:=by
   match xs,hxl with
   | [n],_=>exact⟨n,rfl⟩
  have hu64:(A.deeper (envOfC "where" (aM sWhere) s.heap.objs.size f cdv)).units+64<cLine:=by have:=hr.un;omega
  have k':∀H' q,aj Pt H H'->H q=none->H' q=some (.lst (cI (does a (.where_ p)).2))->Q (.ref q) H':=k;refine⟨_,ai (aS (i:=2) rl.nd rfl (Or.inl rfl) (aL bf (pv 1) aq (λ_ _=>rfl)))
   (ai (aV (aR i8 (pv 2) (cx eK (by rfl) hlen gq (ab (ax (pv 0) rfl) af)) (b7 _)) (aw (aF (cu (ab (aP (v:=.int (-2)) rfl hns ⟨tns,rfl⟩) af)))) aY)
   (ai (aS (i:=3) rl.nd rfl (Or.inl rfl) (aL bf (ax (pv 0) rfl) (pv 2) (λ_ _=>rfl)))
   (ai (aV (aR (mJ hu64) (pv 3) (aP (v:=.str "ground") rfl hgr ⟨tg,rfl⟩) (b7 _)) (aw (aF (cu (ab aq (ab (aL bf (ax (pv 0) rfl) (pv 2) (λ_ _=>rfl)) (ab aq (ab aq af))))))) aY)
   (aw (aF (cu (ab aq (ab (aL bf (ax (pv 0) rfl) (pv 2) (λ_ _=>rfl)) (ab (aL cR (pv 3) aq (λ_ _=>rfl)) (ab (aL cR (pv 3) aq (λ_ _=>rfl)) af)))))))))),?_⟩
  have hsl:=W.svs_len;refine⟨_,rfl,nl,_,0,_,rfl,rfl,hnl,aK (j:=0) rfl,?_⟩;refine⟨_,rfl,_,rfl,wl,C,d.dx,_,_,rfl,W.ins,T.cl,T.nSp,rfl,d.sp,_,rfl,.inl (SqL.of W.sp),_,_,rfl,rfl,_,rfl,?_⟩;refine bZ (λe=>?_) (λe=>?_)
  ·have h0:¬p<a.people.length:=by have:=ck e;omega
   exact⟨(by show 1<=sizeLine;decide),λq hq=>dm k' hT aj.refl (by rw[sM,if_pos (o8.mpr h0)];rfl) hq⟩
  have h0:p<a.people.length:=by
   have:¬((d.svs.length:Int)<=(p:Int)):=λz=>e (aO z);omega
  have n1:¬a.isP p=false:=by rw[oW.mpr h0];decide
  obtain⟨y,hy,my⟩:=W.spot (K:=K) h0;have hwe:(a.people.map λp=>V.int (p.weight:Nat))[p]?=some (V.int ((a.person p).weight:Nat)):=by rw[bY,xG h0];rfl
  refine⟨_,rfl,wl,C,d.dx,_,_,rfl,W.ins,T.cl,T.nSp,rfl,_,rfl,d.sp,_,p,_,rfl,rfl,SqL.of W.sp,aK hy,?_⟩;refine⟨_,rfl,nk a (a.person p).at_,.inl "ground",iJ _ _,jG,my,rfl,_,rfl,?_⟩;rw[jZ];refine bZ (λe=>?_) (λe=>?_)
  ·refine⟨_,rfl,wl,C,d.dx,_,_,rfl,W.ins,T.cl,T.nWe,rfl,_,rfl,d.we,_,p,_,rfl,rfl,SqL.of W.we,aK hwe,?_⟩;refine⟨(by show 4<=sizeLine;decide),λq hq=>dm k' hT aj.refl ?_ hq⟩;rw[sM,if_neg n1,if_pos (ck e)];rfl
  ·have hat:¬(a.person p).at_=0:=λz=>e (aO z);have hpat:=Wa.pat _ (jF h0);obtain⟨b,l,ht,e2⟩:∃b l,a.there b l=true/\(a.person p).at_=a.place b l+1:=by
    rcases hpat with z|z
    ·exact absurd z hat
    ·exact z
   rw[e2,dE ht]at my;obtain⟨q1,rfl,hq1⟩:=gH my;refine⟨_,rfl,wl,C,d.dx,_,_,rfl,W.ins,T.cl,T.nWe,rfl,_,rfl,d.we,_,p,_,rfl,rfl,SqL.of W.we,aK hwe,?_⟩;refine⟨_,rfl,q1,_,0,_,rfl,rfl,bo.of hq1,aK (j:=0) rfl,?_⟩;refine⟨_,rfl,q1,_,1,_,rfl,rfl,bo.of hq1,aK (j:=1) rfl,?_⟩;refine⟨(by show 4<=sizeLine;decide),λq hq=>dm k' hT aj.refl ?_ hq⟩;rw[sM,if_neg n1,if_neg hat,e2,iw,fe (az ht).1,eQ (az ht).1];rfl
theorem yE:bj ["wall","numbers","place"] ["wall","numbers"] (aM sHighT):=⟨rfl,rfl,rfl,by decide +kernel,rfl,by decide +kernel,by decide +kernel⟩
theorem CS{f fH C Pt:Addr}{fd fdH:FuncData}(F:a8 K "high" "high" sHighT f fd)(T:bW K mg C)(TC:TxtC mg)
  (GH:ak P w K mg base au 5 fH fdH ["wall"] (so K C Pt)) (kH:PySem.W.keepIn K (.ref fH)=true) (bH:aN K fdH ["wall"] []) (mH:mg "frame_heights"=some (.ref fH)):
  ak P w K mg base au 6 f fd ["wall","numbers"] (d6 K C Pt 2 λxs=>.high (xs.getD 0 0) (xs.getD 1 0)):=by
 obtain⟨tns,hns⟩:=TC.noSuch;refine F.ok yE (λvs H Q E h=>?_) (λcdv A outer s H vs Q E hr h=>?_)
 ·obtain⟨wl,nl,a,d,xs,rfl,_⟩:=h;rfl
 ·obtain⟨wl,nl,a,d,xs,rfl,hxl,Wa,W,hnl,hT,k⟩:=h;obtain⟨b,l,rfl⟩:∃b n,xs=[b,n]:=by
   match xs,hxl with
   | [b,n],_=>exact⟨b,n,rfl⟩
  have hu:=cP hr;have k':∀H' q,aj Pt H H'->H q=none->H' q=some (.lst (cI (does a (.high b l)).2))->Q (.ref q) H':=k;refine⟨_,ai (aS (i:=2) yE.nd rfl (Or.inl rfl) (c8 (ab (aL bf (pv 1) aq (λ_ _=>rfl)) (ab (aL bf (pv 1) aq (λ_ _=>rfl)) af))))
   (ai (aV (aR (dq hu) (pv 2) (ax (pv 0) rfl) (by with_unfolding_all rfl)) (aw (aF (cu (ab (aP (v:=.int (-2)) rfl hns ⟨tns,rfl⟩) af)))) aY)
   (aw (aF (cu (ab (gb hu (bg GH hr rfl mH kH bH .nil aU (ab (pv 0) af)) (pv 2) (λ_ _=>rfl)) af))))),?_⟩
  refine⟨_,rfl,nl,_,0,_,rfl,rfl,hnl,aK (j:=0) rfl,_,rfl,nl,_,1,_,rfl,rfl,hnl,aK (j:=1) rfl,(by show 2<=sizeLine;decide),λt ht=>?_⟩;have kt:Kp H (upd H t (.tup [.int (b:Nat),.int (l:Nat)])):=Kp.laid ht;have W1:=W.kp kt;have hq:bX (upd H t (.tup [.int (b:Nat),.int (l:Nat)])) t b l:=ao;have x1:aj Pt H (upd H t (.tup [.int (b:Nat),.int (l:Nat)])):=aj.all kt;have T1:=x1.tab hT;show dz _ _ _ _ (upd H t (.tup [.int (b:Nat),.int (l:Nat)]));generalize upd H t (.tup [.int (b:Nat),.int (l:Nat)])=H1 at kt W1 hq x1 T1⊢;refine⟨_,rfl,_,rfl,wl,C,d.dx,_,_,rfl,W1.ins,T.cl,T.nFr,rfl,d.fr,d.kf,key b l,rfl,.inl W1.fr,⟨t,rfl,hq⟩,_,rfl,?_⟩;rw[dP W.ok];cases q1:a.there b l with
  |false=>exact⟨(by show 1<=sizeLine;decide),λq hq=>dm k' hT x1 (by rw[vo,if_pos q1];rfl) hq⟩
  |true=>
   refine⟨_,rfl,wl,a,d,rfl,Wa.sf,W1.r,W1.fr,T1,λH2 p kv x2 hp ep V0=>?_⟩;have x12:=x1.trans x2;refine⟨_,rfl,p,kv,key b l,_,rfl,.inl ep,⟨t,rfl,x2.tup T1 hq⟩,V0.val b l q1,?_⟩;refine⟨(by show 1<=sizeLine;decide),λq hq=>dm k' hT x12 ?_ hq⟩;rw[vo,if_neg (by rw[q1];decide)];rfl
theorem si:bj ["wall","numbers","place","borne"] ["wall","numbers"] (aM sBears):=⟨rfl,rfl,rfl,by decide +kernel,rfl,by decide +kernel,by decide +kernel⟩
theorem EO{f fL C Pt:Addr}{fd fdL:FuncData}(F:a8 K "bears" "bears" sBears f fd)(T:bW K mg C)(TC:TxtC mg)
  (GL:ak P w K mg base au 5 fL fdL ["wall"] (ly K C Pt)) (kL:PySem.W.keepIn K (.ref fL)=true) (bL:aN K fdL ["wall"] []) (mL:mg "frame_loads"=some (.ref fL)):
  ak P w K mg base au 6 f fd ["wall","numbers"] (d6 K C Pt 2 λxs=>.bears (xs.getD 0 0) (xs.getD 1 0)):=by
 obtain⟨tns,hns⟩:=TC.noSuch;refine F.ok si (λvs H Q E h=>?_) (λcdv A outer s H vs Q E hr h=>?_)
 ·obtain⟨wl,nl,a,d,xs,rfl,_⟩:=h;rfl
 ·obtain⟨wl,nl,a,d,xs,rfl,hxl,Wa,W,hnl,hT,k⟩:=h;obtain⟨b,l,rfl⟩:∃b n,xs=[b,n]:=by
   match xs,hxl with
   | [b,n],_=>exact⟨b,n,rfl⟩
  have hu:=cP hr;have k':∀H' q,aj Pt H H'->H q=none->H' q=some (.lst (cI (does a (.bears b l)).2))->Q (.ref q) H':=k;refine⟨_,ai (aS (i:=2) si.nd rfl (Or.inl rfl) (c8 (ab (aL bf (pv 1) aq (λ_ _=>rfl)) (ab (aL bf (pv 1) aq (λ_ _=>rfl)) af))))
   (ai (aV (aR (dq hu) (pv 2) (ax (pv 0) rfl) (by with_unfolding_all rfl)) (aw (aF (cu (ab (aP (v:=.int (-2)) rfl hns ⟨tns,rfl⟩) af)))) aY)
   (ai (aS (i:=3) si.nd rfl (Or.inl rfl) (gb hu (bg GL hr rfl mL kL bL .nil aU (ab (pv 0) af)) (pv 2) (λ_ _=>rfl)))
   (aw (aF (cu (ab (pv 3) (ab (cW gQ (ax (pv 0) rfl) (pv 3)) af))))))),?_⟩
  refine⟨_,rfl,nl,_,0,_,rfl,rfl,hnl,aK (j:=0) rfl,_,rfl,nl,_,1,_,rfl,rfl,hnl,aK (j:=1) rfl,(by show 2<=sizeLine;decide),λt ht=>?_⟩;have kt:Kp H (upd H t (.tup [.int (b:Nat),.int (l:Nat)])):=Kp.laid ht;have W1:=W.kp kt;have hq:bX (upd H t (.tup [.int (b:Nat),.int (l:Nat)])) t b l:=ao;have x1:aj Pt H (upd H t (.tup [.int (b:Nat),.int (l:Nat)])):=aj.all kt;have T1:=x1.tab hT;show dz _ _ _ _ (upd H t (.tup [.int (b:Nat),.int (l:Nat)]));generalize upd H t (.tup [.int (b:Nat),.int (l:Nat)])=H1 at kt W1 hq x1 T1⊢;refine⟨_,rfl,_,rfl,wl,C,d.dx,_,_,rfl,W1.ins,T.cl,T.nFr,rfl,d.fr,d.kf,key b l,rfl,.inl W1.fr,⟨t,rfl,hq⟩,_,rfl,?_⟩;rw[dP W.ok];cases q1:a.there b l with
  |false=>exact⟨(by show 1<=sizeLine;decide),λq hq=>dm k' hT x1 (by rw[uQ,if_pos q1];rfl) hq⟩
  |true=>
   refine⟨_,rfl,wl,a,d,rfl,Wa.sf,W1.r,W1.fr,T1,λH2 p kv x2 hp ep V0=>?_⟩;have x12:=x1.trans x2;have W2:=W1.ext x2 T1;refine⟨_,rfl,p,kv,key b l,_,rfl,.inl ep,⟨t,rfl,x2.tup T1 hq⟩,V0.val b l q1,?_⟩;refine⟨_,rfl,_,rfl,wl,C,d.dx,_,_,rfl,W2.ins,T.cl,T.nM,rfl,_,rfl,_,_,rfl,rfl,?_⟩;refine⟨(by show 2<=sizeLine;decide),λq hq=>dm k' hT x12 ?_ hq⟩;rw[uQ,if_neg (by rw[q1];decide)];have hle:=Wa.load_le b l;show[V.int ((a.load b l:Nat):Int),V.int (((a.most:Nat):Int)- ((a.load b l:Nat):Int))]=[V.int ((a.load b l:Nat):Int),V.int ((a.most-a.load b l:Nat):Int)];rw[show((a.most:Nat):Int)- ((a.load b l:Nat):Int)=((a.most-a.load b l:Nat):Int) by omega]
theorem lY:∀xs:List Nat,(xs.map λn=>((n:Nat):Int)).sum=((xs.sum:Nat):Int)
 | []=>rfl
 |x::r=>by
  rw[aW,g9,lY r,g9];omega
theorem vD:bj ["wall","numbers","loads"] ["wall","numbers"] (aM sFeet):=⟨rfl,rfl,rfl,by decide +kernel,rfl,by decide +kernel,by decide +kernel⟩
theorem zH{f fL fG C Pt:Addr}{fd fdL fdG:FuncData}(F:a8 K "feet" "feet" sFeet f fd)(T:bW K mg C)(hsum:mg "sum"=none)
  (GL:ak P w K mg base au 5 fL fdL ["wall"] (ly K C Pt)) (kL:PySem.W.keepIn K (.ref fL)=true) (bL:aN K fdL ["wall"] []) (mL:mg "frame_loads"=some (.ref fL))
  (GG:ak P w K mg base au 1 fG fdG ["wall","loads"] (qT K C)) (kG:PySem.W.keepIn K (.ref fG)=true) (bG:aN K fdG ["wall","loads"] []) (mG:mg "ground_loads"=some (.ref fG)):
  ak P w K mg base au 6 f fd ["wall","numbers"] (d6 K C Pt 0 λ_=>.feet):=by
 refine F.ok vD (λvs H Q E h=>?_) (λcdv A outer s H vs Q E hr h=>?_)
 ·obtain⟨wl,nl,a,d,xs,rfl,_⟩:=h;rfl
 ·obtain⟨wl,nl,a,d,xs,rfl,hxl,Wa,W,hnl,hT,k⟩:=h;refine⟨_,ai (aS (i:=2) vD.nd rfl (Or.inl rfl) (bg (GG.mono (by decide)) hr rfl mG kG bG .nil aU (ab (pv 0) (ab (bg GL hr rfl mL kL bL .nil aU (ab (pv 0) af)) af))))
   (aw (aF (cW xT (cu (ab (cx (u7 rfl) rfl hsum boot_sum (ab (pv 2) af)) af)) (pv 2)))),?_⟩
  refine⟨_,rfl,_,rfl,wl,a,d,rfl,Wa.sf,W.r,W.fr,hT,λH1 p kv x1 hp ep V0=>?_⟩;have W1:=W.ext x1 hT;have T1:=x1.tab hT;refine⟨wl,p,a,d,kv,rfl,Wa.sf,W1.r,.inl ep,V0,λH2 g k2 hg eg=>?_⟩;have x2:=x1.trans (aj.all (Pt:=Pt) k2);have ei:((List.range a.bays).map λb=>V.int (a.load b 0:Nat))=(a.feet.map λn=>((n:Nat):Int)).map V.int:=by
   rw[uV Wa.sf,List.map_map,List.map_map];rfl
  rw[ei]at eg;refine⟨_,rfl,g,_,rfl,SqL.of eg,(by show 1<=sizeLine;decide),λu hu1=>?_⟩;have k3:=Kp.laid (o:=.lst [V.int ((a.feet.map λn=>((n:Nat):Int)).sum)]) hu1;refine⟨_,rfl,u,g,_,_,rfl,rfl,ao,k3 _ _ eg,?_,λq hq=>dm k hT (x2.trans (aj.all k3)) ?_ hq⟩
  ·rw[List.length_map,List.length_map,uV Wa.sf,List.length_map,ji];have:=Wa.b8;exact dw (show 1+a.bays<=9 by omega) (by decide)
  ·rw[lY,List.map_map];rfl
theorem o6:bj ["wall","numbers","person","place","steps"] ["wall","numbers"] (aM sWay):=⟨rfl,rfl,rfl,by decide +kernel,rfl,by decide +kernel,by decide +kernel⟩
theorem Bx{f fN C Pt:Addr}{fd fdN:FuncData}(F:a8 K "way" "way" sWay f fd)(T:bW K mg C)(TC:TxtC mg)(hlen:mg "len"=none)
  (GN:ak P w K mg base au 3 fN fdN ["wall","start"] (ky K C)) (kN:PySem.W.keepIn K (.ref fN)=true) (bN:aN K fdN ["wall","start"] []) (mN:mg "steps_from"=some (.ref fN)):
  ak P w K mg base au 4 f fd ["wall","numbers"] (d6 K C Pt 3 λxs=>.way (xs.getD 0 0) (xs.getD 1 0) (xs.getD 2 0)):=by
 obtain⟨tns,hns⟩:=TC.noSuch;obtain⟨tcb,hcb⟩:=TC.cannotBe;refine F.ok o6 (λvs H Q E h=>?_) (λcdv A outer s H vs Q E hr h=>?_)
 ·obtain⟨wl,nl,a,d,xs,rfl,_⟩:=h;rfl
 ·obtain⟨wl,nl,a,d,xs,rfl,hxl,Wa,W,hnl,hT,k⟩:=h;obtain⟨p,b,l,rfl⟩:∃p b l,xs=[p,b,l]:=by
   match xs,hxl with
   | [p,b,l],_=>exact⟨p,b,l,rfl⟩
  have hu:=cP hr;have k':∀H' q,aj Pt H H'->H q=none->H' q=some (.lst (cI (does a (.way p b l)).2))->Q (.ref q) H':=k;refine⟨_,ai (aS (i:=2) o6.nd rfl (Or.inl rfl) (aL bf (pv 1) aq (λ_ _=>rfl)))
   (ai (aS (i:=3) o6.nd rfl (Or.inl rfl) (c8 (ab (aL bf (pv 1) aq (λ_ _=>rfl)) (ab (aL bf (pv 1) aq (λ_ _=>rfl)) af))))
   (ai (aV (PW.pt (jJ (aR i8 (pv 2) (cx eK (by rfl) hlen gq (ab (ax (pv 0) rfl) af)) (b7 _)) (jC (aR (dq hu) (pv 3) (ax (pv 0) rfl) (by with_unfolding_all rfl)))))
    (aw (aF (cu (ab (aP (v:=.int (-2)) rfl hns ⟨tns,rfl⟩) af)))) aY)
   (ai (aS (i:=4) o6.nd rfl (Or.inl rfl) (bg GN hr rfl mN kN bN .nil aU (ab (pv 0) (ab (aL bf (ax (pv 0) rfl) (pv 2) (λ_ _=>rfl)) af))))
   (ai (aV (aR (dq hu) (pv 3) (pv 4) (by with_unfolding_all rfl)) (aw (aF (cu (ab (aP (v:=.int (-33)) rfl hcb ⟨tcb,rfl⟩) af)))) aY)
   (aw (aF (cu (ab (gb hu (pv 4) (pv 3) (λ_ _=>rfl)) af)))))))),?_⟩
  have hsl:=W.svs_len;refine⟨_,rfl,nl,_,0,_,rfl,rfl,hnl,aK (j:=0) rfl,?_⟩;refine⟨_,rfl,nl,_,1,_,rfl,rfl,hnl,aK (j:=1) rfl,_,rfl,nl,_,2,_,rfl,rfl,hnl,aK (j:=2) rfl,(by show 2<=sizeLine;decide),λt ht=>?_⟩;have kt:Kp H (upd H t (.tup [.int (b:Nat),.int (l:Nat)])):=Kp.laid ht;have W1:=W.kp kt;have hq:bX (upd H t (.tup [.int (b:Nat),.int (l:Nat)])) t b l:=ao;have x1:aj Pt H (upd H t (.tup [.int (b:Nat),.int (l:Nat)])):=aj.all kt;have T1:=x1.tab hT;show dz _ _ _ _ (upd H t (.tup [.int (b:Nat),.int (l:Nat)]));generalize upd H t (.tup [.int (b:Nat),.int (l:Nat)])=H1 at kt W1 hq x1 T1⊢;refine⟨_,rfl,_,rfl,wl,C,d.dx,_,_,rfl,W1.ins,T.cl,T.nSp,rfl,d.sp,_,rfl,.inl (SqL.of W1.sp),_,_,rfl,rfl,_,rfl,?_⟩;refine bZ (λe=>?_) (λe=>?_)
  ·have h0:¬p<a.people.length:=by have:=ck e;omega
   exact⟨(by show 1<=sizeLine;decide),λq hq=>dm k' hT x1 (by rw[oy,if_pos (.inl (o8.mpr h0))];rfl) hq⟩
  have h0:p<a.people.length:=by
   have:¬((d.svs.length:Int)<=(p:Int)):=λz=>e (aO z);omega
  refine⟨_,rfl,_,rfl,wl,C,d.dx,_,_,rfl,W1.ins,T.cl,T.nFr,rfl,d.fr,d.kf,key b l,rfl,.inl W1.fr,⟨t,rfl,hq⟩,_,rfl,?_⟩;rw[dP W.ok];cases q1:a.there b l with
  |false=>exact⟨(by show 1<=sizeLine;decide),λq hq=>dm k' hT x1 (by rw[oy,if_pos (.inr q1)];rfl) hq⟩
  |true=>
   have n1:¬(a.isP p=false∨a.there b l=false):=by
    rintro(z|z)
    ·rw[oW.mpr h0]at z;cases z
    ·rw[q1]at z;cases z
   obtain⟨y,hy,my⟩:=W1.spot (K:=K) h0;have hpat:=Wa.pat _ (jF h0);have hnode:bQ a (a.place b l+1):=.inr ⟨b,l,q1,rfl⟩;refine⟨_,rfl,_,rfl,wl,C,d.dx,_,_,rfl,W1.ins,T.cl,T.nSp,rfl,_,rfl,d.sp,_,p,_,rfl,rfl,SqL.of W1.sp,aK hy,?_⟩;refine⟨wl,y,a,d,(a.person p).at_,rfl,Wa.sf,W1.r,hpat,my,λH2 q ps k2 hq2 eq2 st=>?_⟩;have x2:=x1.trans (aj.all (Pt:=Pt) k2);have hqt:=k2 _ _ hq;have hval:=st.val Wa.sf hpat hnode;rw[dE q1]at hval;refine⟨_,rfl,_,rfl,q,_,key b l,rfl,.inl eq2,⟨t,rfl,hqt⟩,_,rfl,?_⟩;rw[hval,zm];cases hw:a.way (a.person p).at_ (a.place b l+1)with
   |none=>exact⟨(by show 1<=sizeLine;decide),λq hq=>dm k' hT x2 (by rw[oy,if_neg n1,hw];rfl) hq⟩
   |some i=>
    rw[hw]at hval;refine⟨_,rfl,_,rfl,q,_,key b l,_,rfl,.inl eq2,⟨t,rfl,hqt⟩,hval,?_⟩;exact⟨(by show 1<=sizeLine;decide),λq hq=>dm k' hT x2 (by rw[oy,if_neg n1,hw];rfl) hq⟩
end
abbrev sListed:Stmt:=bq 58
def iV:MK->List V
 |.inr [.inl b,.inl l]=>[.int b,.int l]
 |_=>[]
theorem Fp(b l:Int):iV (pk b l)=[.int b,.int l]:=rfl
def oC(Pt:Addr):Sp:=λvs H Q _=>∃p xs ks,vs=[.ref p]/\H p=some (.lst xs)/\bw H ks xs/\bx H Pt bu bz/\ks.length<64/\(∀k∈ks,hJ k)/\ks.Nodup/\
 ∀(H':Hp) (q:Addr) (ks':List MK),aj Pt H H'->H q=none->ks'.Perm ks->ks'.Pairwise (λj k=>cz j<cz k)->H' q=some (.lst (V.int (ks.length:Nat)::ks'.flatMap iV))->Q (.ref q) H'
theorem yo{H H':Hp}{Pt t:Addr}{xs:List V}(h:bx H Pt bu bz)(ht:H t=some (.lst xs))(k:∀b o,H b=some o->b≠t->H' b=some o):bx H' Pt bu bz:=by
 rcases h with h|⟨c,h,h2⟩
 ·exact .inl (k _ _ h (aC h ht (λz=>nomatch z)))
 ·exact .inr ⟨c,k _ _ h (aC h ht (λz=>nomatch z)),k _ _ h2 (aC h2 ht (λz=>nomatch z))⟩
theorem yF:∀(ks:List MK),(ks.flatMap iV).length<=2*ks.length
 | []=>aJ _
 |k::r=>by
  rw[pV,df,List.length_cons];have h1:(iV k).length<=2:=by
   unfold iV;split
   ·exact aJ _
   ·exact da _
  have:=yF r;omega
section
variable{P:Program}{w:World}{K:PySem.W.Frag}{mg:Str->Option Value}{base:Heap}
theorem sr:bj ["places","told","place"] ["places"] (aM sListed):=⟨rfl,rfl,rfl,by decide +kernel,rfl,by decide +kernel,by decide +kernel⟩
theorem Ez{f fB Pt:Addr}{fd fdB:FuncData}(F:a8 K "listed" "listed" sListed f fd)(hlen:mg "len"=none)
  (GB:ak P w K mg base au 4 fB fdB ["places"] (rH K Pt)) (kB:PySem.W.keepIn K (.ref fB)=true) (bB:aN K fdB ["places"] []) (mB:mg "by_levels"=some (.ref fB)):
  ak P w K mg base au 5 f fd ["places"] (oC Pt):=by
 refine F.ok sr (λvs H Q E h=>?_) (λcdv A outer s H vs Q E hr h=>?_)
 ·obtain⟨p,xs,ks,rfl,_⟩:=h;rfl
 ·obtain⟨p,xs,ks,rfl,hp,mk,hT,h64,hpk,hnd,k⟩:=h;refine⟨_,ai (aS (i:=1) sr.nd rfl (Or.inl rfl) (cu (ab (cx eK (by rfl) hlen gq (ab (pv 0) af)) af)))
   (ai (jo iB rfl (iu (bg GB hr rfl mB kB bB .nil aU (ab (pv 0) af))) (cN (i:=2) sr.nd rfl (Or.inl rfl))
    (aw (fx (ja jQ GW GX uy (pv 1) (ab (cu (ab (aL cR (pv 2) aq (λ_ _=>rfl)) (ab (aL cR (pv 2) aq (λ_ _=>rfl)) af))) af)))))
   (aw (aF (pv 1)))),?_⟩
  have hxk:xs.length=ks.length:=(cA mk).symm;refine⟨_,rfl,p,_,rfl,.inl (SqL.of hp),(by show 1<=sizeLine;decide),λt ht=>?_⟩;have k1:Kp H (upd H t (.lst [V.int (xs.length:Nat)])):=Kp.laid ht;have et:upd H t (.lst [V.int (xs.length:Nat)]) t=some (.lst [V.int (xs.length:Nat)]):=ao;show dz _ _ _ _ (upd H t (.lst [V.int (xs.length:Nat)]));generalize upd H t (.lst [V.int (xs.length:Nat)])=H1 at k1 et⊢;have x1:aj Pt H H1:=aj.all k1;have T1:=x1.tab hT;have mk1:=x1.mks hT mk;refine⟨_,rfl,p,ks,rfl,.inr ⟨xs,SqL.of (k1 _ _ hp),mk1⟩,T1,h64,hpk,hnd,λH2 l ks' ys hl el pm pw mk2 fr2 T2=>?_⟩;have x2:aj Pt H1 H2:=⟨fr2,λ_=>T2⟩;obtain⟨ps,epT⟩:=eU T1;have et2:=fr2 _ _ et (aC et epT (λz=>nomatch z));have nlt:l≠t:=λz=>by rw[z,et]at hl;cases hl
  have hyk:ys.length=ks'.length:=(cA mk2).symm;refine⟨l,rfl,⟨_,SqL.of el⟩,CG (K:=K) (a:=l) (xs:=ys) (λi σ H'=>∃v2:Option V,σ=[some (.ref p),some (.ref t),v2]/\(∀b o,H2 b=some o->b≠t->H' b=some o)/\H' t=some (.lst (V.int (xs.length:Nat)::(ks'.take i).flatMap iV)))
   ⟨none,rfl,λb o q _=>q,et2⟩ (λi σ H' _ ⟨_,_,fr,_⟩=>SqL.of (fr _ _ el nlt)) ?_ ?_⟩
  ·rintro i y σ H' hi ⟨v2,rfl,fr,ht'⟩;obtain⟨hil,hie⟩:=cX.mp hi;obtain⟨j,hj⟩:∃j,ks'[i]?=some j:=⟨_,aZ (by omega)⟩;have mj:br H2 j y:=by
    obtain⟨z,hz1,hz2⟩:=dX mk2 hj;rw[hi]at hz1;cases hz1;exact hz2
   obtain⟨b,c,rfl,_⟩:=hpk j (pm.mem_iff.mp (cE hj));obtain⟨q,rfl,hq⟩:=gH mj;have hq':H' q=some (.tup [.int b,.int c]):=fr _ _ hq (aC hq et2 (λz=>nomatch z));refine⟨_,rfl,.inl ⟨rfl,_,SqL.of ht'⟩,?_⟩;refine⟨_,rfl,q,_,0,_,rfl,rfl,bo.of hq',aK (j:=0) rfl,?_⟩;refine⟨_,rfl,q,_,1,_,rfl,rfl,bo.of hq',aK (j:=1) rfl,?_⟩;refine⟨(by show 2<=sizeLine;decide),λt2 ht2=>?_⟩;have k5:=Kp.laid (o:=.lst [V.int b,V.int c]) ht2;refine⟨t,t2,_,_,rfl,rfl,k5 _ _ ht',ao,?_,?_⟩
   ·have h1:=yF (ks'.take i);have h2:(ks'.take i).length<=ks'.length:=jj ..
    have h3:=pm.length_eq;rw[List.length_cons];show(List.flatMap iV (List.take i ks')).length+1+2<=sizeLine;exact dw (show _<=200 by omega) (by decide)
   ·refine⟨some (V.ref q),rfl,λb' o q' n=>?_,?_⟩
    ·rw[ag n];exact k5 _ _ (fr b' o q' n)
    ·rw[ao,jR,hj,List.flatMap_append,ll,pV,List.flatMap_nil,Fp];rfl
  ·rintro σ H' ⟨v2,rfl,fr,ht'⟩;rw[jP (by omega),hxk]at ht';refine⟨_,rfl,k H' t ks' ?_ ht pm pw ht'⟩;refine⟨λb o q n=>fr _ _ (fr2 _ _ (k1 _ _ q) n) (ay q ht),λ_=>yo T2 et2 fr⟩
end
theorem vB{a:Abs}(S:Sf a){p:Nat->Bool}{ks ks':List MK}(hk:∀k,k∈ks↔∃b l:Nat,k=key b l/\a.there b l=true/\p (a.place b l)=true)(hnd:ks.Nodup)(pm:ks'.Perm ks)(pw:ks'.Pairwise (λj k=>cz j<cz k)):
  ks'=(a.all.filter p).map λc=>key (a.bay c) (a.level c):=by
 have hpw2:((a.all.filter p).map λc=>key (a.bay c) (a.level c)).Pairwise (λj k=>cz j<cz k):=by
  refine mY.mpr (tG (λ{c d} hc hd h=>?_) (List.Pairwise.sublist jd (EV a)));have hc1:=(fJ.mp (cV.mp hc).1).1;have hd1:=(fJ.mp (cV.mp hd).1).1;rw[kz,kz];have h8:=S.b8;have b1:=lV hc1;have b2:=lV hd1;rcases DV hc1 hd1 h with z|⟨z,z2⟩
  ·omega
  ·rw[z];omega
 refine List.Perm.eq_of_pairwise (le:=λj k=>cz j<cz k) (λj k _ _ h1 h2=>by omega) pw hpw2 ?_;refine(GY (pm.nodup_iff.mpr hnd) ?_).mpr λj=>?_
 ·exact List.Pairwise.imp (λ{j k} h e=>by rw[e]at h;omega) hpw2
 ·rw[pm.mem_iff,hk,bh];constructor
  ·rintro⟨b,l,rfl,ht,hp⟩;refine⟨a.place b l,cV.mpr ⟨jl ht,hp⟩,?_⟩;rw[fe (az ht).1,eQ (az ht).1]
  ·rintro⟨c,hc,rfl⟩;obtain⟨h1,h2⟩:=cV.mp hc;exact⟨_,_,rfl,(fJ.mp h1).2,by rw[gy];exact h2⟩
theorem qG{a:Abs}(S:Sf a){p:Nat->Bool}{ks ks':List MK}(hk:∀k,k∈ks↔∃b l:Nat,k=key b l/\a.there b l=true/\p (a.place b l)=true)(hnd:ks.Nodup)(pm:ks'.Perm ks)(pw:ks'.Pairwise (λj k=>cz j<cz k)):
  V.int (ks.length:Nat)::ks'.flatMap iV=cI (a.places (a.all.filter p)):=by
 have e:=vB S hk hnd pm pw;have el:ks.length=(a.all.filter p).length:=by rw[←pm.length_eq,e,List.length_map]
 rw[el,e];unfold cI Abs.places num;show _::_=V.int (((a.all.filter p).length:Nat):Int)::((a.all.filter p).flatMap λc=>[a.bay c,a.level c]).map λn=>V.int (n:Nat);congr 1
 induction a.all.filter p with
 |nil=>rfl
 |cons c r ih=>
  rw[aW,pV,pV,cf,ih];rfl
abbrev sTaken:Stmt:=bq 64
abbrev sLoose:Stmt:=bq 65
abbrev sReached:Stmt:=bq 66
theorem c7.lockAny{K:PySem.W.Frag}{C:Addr}{H:Hp}{wl:Addr}{a:Abs}{d:WD}{o:Obj}{e:Addr}{kv:List (MK×V)}(W:c7 K C H wl a d)(h:H e=some (.dM kv)):c7 K C (upd H e (.frz o (.dM kv))) wl a d:=by
 have st:∀b u,H b=some u->b≠e->upd H e (.frz o (.dM kv)) b=some u:=λb u q n=>by rw[ag n];exact q
 have rd:∀{c:Addr} {kvs:List (MK×V)},Rd H c (.dM kvs)->Rd (upd H e (.frz o (.dM kv))) c (.dM kvs):=λ{c kvs} r=>by
  by_cases z:c=e
  ·subst z;rcases r with r|⟨o',r⟩
   ·rw[h]at r;cases r;exact .inr ⟨o,ao⟩
   ·rw[h]at r;cases r
  ·rcases r with r|⟨o',r⟩
   ·exact .inl (st _ _ r z)
   ·exact .inr ⟨o',st _ _ r z⟩
 have sq:∀{c:Addr} {xs:List V},SqL K H c xs->SqL K (upd H e (.frz o (.dM kv))) c xs:=λ{c xs} r=>by
  rcases r with(r|⟨o',r⟩)|r
  ·exact .inl (.inl (st _ _ r (aC r h (λz=>nomatch z))))
  ·exact .inl (.inr ⟨o',st _ _ r (aC r h (λz=>nomatch z))⟩)
  ·exact .inr r
 exact⟨st _ _ W.ins (aC W.ins h (λz=>nomatch z)),sq W.g,rd W.fr,rd W.ti,rd W.th,rd W.la,sq W.we,sq W.sp,W.spk.mono λb xs q=>st _ _ q (aC q h (λz=>nomatch z)),W.ok⟩
theorem iG{H:Hp}{Pt c:Addr}{u o:HO}(t:bx H Pt bu bz)(hc:H c=some u)(h1:∀ps,u≠.tbl ps)(h2:∀c q,u≠ic c q):bx (upd H c o) Pt bu bz:=by
 rcases t with t|⟨c',t,t2⟩
 ·exact .inl (by rw[ag (aC t hc (bP (h1 _)))];exact t)
 ·exact .inr ⟨c',by rw[ag (aC t hc (bP (h1 _)))];exact t,by rw[ag (aC t2 hc (bP (h2 _ _)))];exact t2⟩
theorem vn{Pt:Addr}{H H':Hp}{c:Addr}{o:Obj}{kv:List (MK×V)}(h:H c=some (.dM kv))(x:aj Pt (upd H c (.frz o (.dM kv))) H')(h':H' c=some (.frz o (.dM kv))):aj Pt H (upd H' c (.dM kv)):=
 ⟨λb z q n=>by
  by_cases e:b=c
  ·subst e;rw[h]at q;cases q;exact ao
  ·rw[ag e];exact x.keep b z (by rw[ag e];exact q) n,
 λt=>iG (x.tab (iG t h (λ_ z=>nomatch z) (λ_ _ z=>nomatch z))) h' (λ_ z=>nomatch z) (λ_ _ z=>nomatch z)⟩
theorem aX.ext{Pt o:Addr}{d:WD}{H H1 H2:Hp}(c:aX Pt o d H1 H2)(k:Kp H H1)(hown:∀c,dD o d c->H c=none):aj Pt H H2:=
 ⟨λb u q n=>c.keep _ _ (k _ _ q) n (λz=>by rw[hown _ z]at q;cases q),λt=>c.tab ((aj.all k).tab t)⟩
theorem uv{a:Abs}{b l:Nat}(ht:a.there b l=true):0<=(does a (.take b l)).2.value↔a.strips b l=true:=by
 have n1:¬(a.isAt b l=false∨a.there b l=false):=by
  rintro(z|z)
  ·unfold Abs.isAt at z;rw[aO (az ht).1,aO (az ht).2]at z;cases z
  ·rw[ht]at z;cases z
 rw[lP,if_neg n1];by_cases h0:a.takes b l=0
 ·rw[if_neg (λz=>z h0)];cases q:a.strips b l with
  |false=>
   rw[if_pos rfl];exact⟨λz=>absurd z (by show¬(0:Int)<=-12;decide),λz=>nomatch z⟩
  |true=>
   rw[if_neg (by decide)];exact⟨λ_=>rfl,λ_=>yT _⟩
 ·rw[if_pos h0];have hlt:a.takes b l<0:=by
   unfold Abs.takes at h0⊢;split
   ·decide
   ·split
    ·decide
    ·split
     ·decide
     ·split
      ·decide
      ·rename_i n1 n2 n3 n4;rw[if_neg n1,if_neg n2,if_neg n3,if_neg n4]at h0;exact absurd rfl h0
  constructor
  ·intro z;have z':0<=a.takes b l:=z;omega
  ·intro z;unfold Abs.strips at z;rw[dH,d9]at z;exact absurd z.1 h0
theorem wH{a:Abs}{b l:Nat}(ht:a.there b l=true)(h:(a.frame b l).tie=true):0<=(does a (.untie b l)).2.value↔(a.set b l λx=>{x with tie:=false}).steady=true:=by
 rw[lS,if_neg (by rw[ht];decide),if_neg (by rw[h];decide)];cases q:(a.set b l λx=>{x with tie:=false}).steady with
 |false=>
  rw[if_pos rfl];exact⟨λz=>absurd z (by show¬(0:Int)<=-40;decide),λz=>nomatch z⟩
 |true=>
  rw[if_neg (by decide)];exact⟨λ_=>rfl,λ_=>yT _⟩
def fw(p:Nat->Nat->Bool):MK->Bool
 |.inr [.inl b,.inl l]=>p b.toNat l.toNat
 |_=>false
theorem j3(p:Nat->Nat->Bool)(b l:Nat):fw p (key b l)=p b l:=rfl
section
variable{P:Program}{w:World}{K:PySem.W.Frag}{mg:Str->Option Value}{base:Heap}
theorem qp:bj ["wall","numbers","place"] ["wall","numbers"] (aM sTaken):=⟨rfl,rfl,rfl,by decide +kernel,rfl,by decide +kernel,by decide +kernel⟩
theorem DJ{f fL fT fC C Pt:Addr}{fd fdL fdT fdC:FuncData}(F:a8 K "taken_now" "taken_now" sTaken f fd)(T:bW K mg C)
  (GL:ak P w K mg base au 5 fL fdL ["places"] (oC Pt)) (kL:PySem.W.keepIn K (.ref fL)=true) (bL:aN K fdL ["places"] []) (mL:mg "listed"=some (.ref fL))
  (GT:ak P w K mg base au 6 fT fdT ["wall","numbers"] (lA K C Pt 2 λxs=>.take (xs.getD 0 0) (xs.getD 1 0))) (kT:PySem.W.keepIn K (.ref fT)=true) (bT:aN K fdT ["wall","numbers"] []) (mT:mg "take"=some (.ref fT))
  (GC:ak P w K mg base au 3 fC fdC ["wall"] (j6 K C)) (kC:PySem.W.keepIn K (.ref fC)=true) (bC:aN K fdC ["wall"] []) (mC:mg "copied"=some (.ref fC)):
  ak P w K mg base au 7 f fd ["wall","numbers"] (d6 K C Pt 0 λ_=>.strip):=by
 refine F.ok qp (λvs H Q E h=>?_) (λcdv A outer s H vs Q E hr h=>?_)
 ·obtain⟨wl,nl,a,d,xs,rfl,_⟩:=h;rfl
 ·obtain⟨wl,nl,a,d,xs,rfl,hxl,Wa,W,hnl,hT,k⟩:=h;refine⟨_,aw (aF (mh (bg (GL.mono (k:=6) (by decide)) hr rfl mL kL bL .nil aU (ab (eG (own:=[("place",2)]) rfl qp.nd (ph (ax (pv 0) rfl)) (eB rfl) (λs H C cl fp=>cN (i:=2) qp.nd rfl (Or.inl rfl))
   (λs H C' cl fp=>hU (aR i8 (bg GT hr rfl mT kT bT .nil aU (ab (bg (GC.mono (k:=6) (by decide)) hr rfl mC kC bC .nil aU (ab (pv 0) af)) (ab (pv 2) af))) aq (b7 _)))
   (λs H C' cl fp=>pv 2)) af)))),?_⟩
  refine⟨d.fr,.dM d.kf,W.fr,True.intro,λod=>?_⟩;have W1:=W.r (K:=K)|>.lockAny (o:=od) W.fr;have T1:bx (upd H d.fr (.frz od (.dM d.kf))) Pt bu bz:=iG hT W.fr (λ_ z=>nomatch z) (λ_ _ z=>nomatch z);have fr1:upd H d.fr (.frz od (.dM d.kf)) d.fr=some (.frz od (.dM d.kf)):=ao;have back:∀{H'},aj Pt (upd H d.fr (.frz od (.dM d.kf))) H'->H' d.fr=some (.frz od (.dM d.kf))->aj Pt H (upd H' d.fr (.dM d.kf)):=λ{H'} x h'=>vn W.fr x h';have free1:∀{c:Addr},upd H d.fr (.frz od (.dM d.kf)) c=none->H c=none/\c≠d.fr:=λ{c} h=>by
   have n:c≠d.fr:=λz=>by rw[z,ao]at h;cases h
   rw[ag n]at h;exact⟨h,n⟩
  refine⟨_,rfl,wl,C,d.dx,_,_,rfl,W1.ins,T.cl,T.nFr,rfl,d.fr,od,d.kf,rfl,fr1,λD hD=>?_⟩;generalize upd H d.fr (.frz od (.dM d.kf))=H1 at W1 T1 fr1 back free1 hD⊢;obtain⟨tps,epT⟩:=eU T1;have nfr:d.fr≠Pt:=aC fr1 epT (λz=>nomatch z);have h48:=W.ok.f.len Wa.sf;have nDT:D≠Pt:=λz=>by rw[z,epT]at hD;cases hD
  refine ee (n:=d.kf.length) (λi H'=>aj Pt H1 H'/\∃ys,H' D=some (.lst ys)/\bw H' (((d.kf.map (·.1)).take i).filter (fw a.strips)) ys)
   ⟨aj.laid hD,[],ao,.nil⟩ (λi H' hi ⟨xx,_⟩=>⟨xx.keep _ _ fr1 nfr,hi⟩) (λH' ⟨xx,_⟩=>⟨xx.keep _ _ fr1 nfr,aJ _⟩) ?_ ?_
  ·rintro i x H3 H4 hi ⟨xx,ys,hD3,mk3⟩ ⟨rfl,kx,vx,hkx,mx⟩;obtain⟨b,l,e1,ht⟩:=W.ok.f.at_ _ (cE hkx);dsimp only at e1;subst e1;obtain⟨q,rfl,hq⟩:=gH mx;have W4:=W1.ext xx T1;have T4:=xx.tab T1;refine⟨rfl,?_⟩;refine⟨_,rfl,wl,a,d,rfl,Wa.sf,W4,λH5 o d5 k5 hown W5=>?_⟩;refine⟨_,rfl,o,q,a,d5,[b,l],rfl,rfl,Wa,W5,.inr (bo.of (k5 _ _ hq)),(aj.all k5).tab T4,λH6 z c6 ez hw=>?_⟩;have x6:aj Pt H4 H6:=c6.ext k5 hown;have ez':z=(does a (.take b l)).2.value:=ez;refine⟨_,_,rfl,rfl,_,rfl,?_⟩;have ek:((d.kf.map (·.1)).take (i+1)).filter (fw a.strips)=((d.kf.map (·.1)).take i).filter (fw a.strips)++(if a.strips b l=true then[key b l]else[]):=by
    have hi2:(d.kf.map (·.1))[i]?=some (key b l):=by rw[bY,hkx];rfl
    rw[jR,hi2,iA,ll,dA,iC,j3]
   have hD6:=x6.keep _ _ hD3 nDT;have mk6:=x6.mks T4 mk3;have hlen:ys.length<sizeLine:=by
    rw[←cA mk3];exact bc (fX ..) (bc (jj ..) (by rw[List.length_map];exact bc h48 (by decide)))
   refine bZ (λe=>?_) (λe=>?_)
   ·have hs:a.strips b l=true:=(uv ht).mp (by rw[←ez'];exact ck e);rw[if_pos hs]at ek;refine⟨_,rfl,ys,hD6,hlen,⟨λc o qc n=>?_,λt=>iG ((xx.trans x6).tab t) hD6 (λ_ z=>nomatch z) (λ_ _ z=>nomatch z)⟩,ys++[.ref q],ao,?_⟩
    ·rw[ag (ay qc hD)];exact(xx.trans x6).keep _ _ qc n
    ·rw[ek];exact gv hD6 (eY mk6 ⟨q,rfl,x6.tup T4 hq⟩)
   ·have hs:¬a.strips b l=true:=λz2=>e (aO (by rw[ez'];exact(uv ht).mpr z2));rw[if_neg hs,List.append_nil]at ek;refine⟨xx.trans x6,ys,hD6,?_⟩;rw[ek];exact mk6
  ·rintro H3 ⟨xx,ys,hD3,mk3⟩;rw[jP (by rw[List.length_map];exact aJ _)]at mk3;have T3:=xx.tab T1;have hnd:((d.kf.map (·.1)).filter (fw a.strips)).Nodup:=W.ok.f.nd.sublist jd;have hkeys:∀j,j∈(d.kf.map (·.1)).filter (fw a.strips)↔∃b l:Nat,j=key b l/\a.there b l=true/\(λc=>a.strips (a.bay c) (a.level c)) (a.place b l)=true:=λj=>by
    rw[cV,bh];constructor
    ·rintro⟨⟨p,hp,rfl⟩,hb⟩;obtain⟨b,l,e1,ht⟩:=W.ok.f.at_ p hp;rw[e1,j3]at hb;refine⟨b,l,e1,ht,?_⟩;show a.strips (a.bay (a.place b l)) (a.level (a.place b l))=true;rw[fe (az ht).1,eQ (az ht).1];exact hb
    ·rintro⟨b,l,rfl,ht,hs⟩;have hs':a.strips (a.bay (a.place b l)) (a.level (a.place b l))=true:=hs;rw[fe (az ht).1,eQ (az ht).1]at hs';have hv:=W.ok.fv b l;rw[if_pos ht]at hv;exact⟨⟨_,jB _ hv,rfl⟩,by rw[j3];exact hs'⟩
   refine⟨D,ys,(d.kf.map (·.1)).filter (fw a.strips),rfl,hD3,mk3,T3,?_,λj hj=>?_,hnd,λH4 q ks' x4 hq pm pw eq=>?_⟩
   ·exact bc (fX ..) (by rw[List.length_map];omega)
   ·obtain⟨p,hp,rfl⟩:=bh.mp (cV.mp hj).1;exact W.ok.f.pair Wa.sf p hp
   ·have x5:=xx.trans x4;have hf4:=x5.keep _ _ fr1 nfr;refine⟨hf4,k _ q (back x5 hf4) ?_ ?_⟩
    ·exact(free1 (xx.free T1 hq)).1
    ·rw[ag (free1 (xx.free T1 hq)).2,eq,qG (p:=λc=>a.strips (a.bay c) (a.level c)) Wa.sf hkeys hnd pm pw];rfl
theorem rn:bj ["wall","numbers","place"] ["wall","numbers"] (aM sLoose):=⟨rfl,rfl,rfl,by decide +kernel,rfl,by decide +kernel,by decide +kernel⟩
theorem Cy{f fL fT fC C Pt:Addr}{fd fdL fdT fdC:FuncData}(F:a8 K "loose" "loose" sLoose f fd)(T:bW K mg C)
  (GL:ak P w K mg base au 5 fL fdL ["places"] (oC Pt)) (kL:PySem.W.keepIn K (.ref fL)=true) (bL:aN K fdL ["places"] []) (mL:mg "listed"=some (.ref fL))
  (GT:ak P w K mg base au 7 fT fdT ["wall","numbers"] (lA K C Pt 2 λxs=>.untie (xs.getD 0 0) (xs.getD 1 0))) (kT:PySem.W.keepIn K (.ref fT)=true) (bT:aN K fdT ["wall","numbers"] []) (mT:mg "untie"=some (.ref fT))
  (GC:ak P w K mg base au 3 fC fdC ["wall"] (j6 K C)) (kC:PySem.W.keepIn K (.ref fC)=true) (bC:aN K fdC ["wall"] []) (mC:mg "copied"=some (.ref fC)):
  ak P w K mg base au 8 f fd ["wall","numbers"] (d6 K C Pt 0 λ_=>.loose):=by
 refine F.ok rn (λvs H Q E h=>?_) (λcdv A outer s H vs Q E hr h=>?_)
 ·obtain⟨wl,nl,a,d,xs,rfl,_⟩:=h;rfl
 ·obtain⟨wl,nl,a,d,xs,rfl,hxl,Wa,W,hnl,hT,k⟩:=h;refine⟨_,aw (aF (mh (bg (GL.mono (k:=7) (by decide)) hr rfl mL kL bL .nil aU (ab (eG (own:=[("place",2)]) rfl rn.nd (ph (ax (pv 0) rfl)) (eB rfl) (λs H C cl fp=>cN (i:=2) rn.nd rfl (Or.inl rfl))
   (λs H C' cl fp=>hU (aR i8 (bg GT hr rfl mT kT bT .nil aU (ab (bg (GC.mono (k:=7) (by decide)) hr rfl mC kC bC .nil aU (ab (pv 0) af)) (ab (pv 2) af))) aq (b7 _)))
   (λs H C' cl fp=>pv 2)) af)))),?_⟩
  refine⟨d.ti,.dM d.kt,W.ti,True.intro,λod=>?_⟩;have W1:=W.r (K:=K)|>.lockAny (o:=od) W.ti;have T1:bx (upd H d.ti (.frz od (.dM d.kt))) Pt bu bz:=iG hT W.ti (λ_ z=>nomatch z) (λ_ _ z=>nomatch z);have fr1:upd H d.ti (.frz od (.dM d.kt)) d.ti=some (.frz od (.dM d.kt)):=ao;have back:∀{H'},aj Pt (upd H d.ti (.frz od (.dM d.kt))) H'->H' d.ti=some (.frz od (.dM d.kt))->aj Pt H (upd H' d.ti (.dM d.kt)):=λ{H'} x h'=>vn W.ti x h';have free1:∀{c:Addr},upd H d.ti (.frz od (.dM d.kt)) c=none->H c=none/\c≠d.ti:=λ{c} h=>by
   have n:c≠d.ti:=λz=>by rw[z,ao]at h;cases h
   rw[ag n]at h;exact⟨h,n⟩
  refine⟨_,rfl,wl,C,d.dx,_,_,rfl,W1.ins,T.cl,T.nTi,rfl,d.ti,od,d.kt,rfl,fr1,λD hD=>?_⟩;generalize upd H d.ti (.frz od (.dM d.kt))=H1 at W1 T1 fr1 back free1 hD⊢;obtain⟨tps,epT⟩:=eU T1;have nfr:d.ti≠Pt:=aC fr1 epT (λz=>nomatch z);have h48:=W.ok.t.len Wa.sf;have nDT:D≠Pt:=λz=>by rw[z,epT]at hD;cases hD
  refine ee (n:=d.kt.length) (λi H'=>aj Pt H1 H'/\∃ys,H' D=some (.lst ys)/\bw H' (((d.kt.map (·.1)).take i).filter (fw λb l=>(a.set b l λx=>{x with tie:=false}).steady)) ys)
   ⟨aj.laid hD,[],ao,.nil⟩ (λi H' hi ⟨xx,_⟩=>⟨xx.keep _ _ fr1 nfr,hi⟩) (λH' ⟨xx,_⟩=>⟨xx.keep _ _ fr1 nfr,aJ _⟩) ?_ ?_
  ·rintro i x H3 H4 hi ⟨xx,ys,hD3,mk3⟩ ⟨rfl,kx,vx,hkx,mx⟩;obtain⟨b,l,e1,ht⟩:=W.ok.t.at_ _ (cE hkx);dsimp only at e1;subst e1;have htie:(a.frame b l).tie=true:=by
    have hv:=W.ok.tv b l;rw[gw W.ok.t.nd (cE hkx)]at hv;cases q:(a.frame b l).tie with
    |true=>rfl
    |false=>rw[q]at hv;cases hv
   obtain⟨q,rfl,hq⟩:=gH mx;have W4:=W1.ext xx T1;have T4:=xx.tab T1;refine⟨rfl,?_⟩;refine⟨_,rfl,wl,a,d,rfl,Wa.sf,W4,λH5 o d5 k5 hown W5=>?_⟩;refine⟨_,rfl,o,q,a,d5,[b,l],rfl,rfl,Wa,W5,.inr (bo.of (k5 _ _ hq)),(aj.all k5).tab T4,λH6 z c6 ez hw=>?_⟩;have x6:aj Pt H4 H6:=c6.ext k5 hown;have ez':z=(does a (.untie b l)).2.value:=ez;refine⟨_,_,rfl,rfl,_,rfl,?_⟩;have ek:((d.kt.map (·.1)).take (i+1)).filter (fw λb l=>(a.set b l λx=>{x with tie:=false}).steady)=((d.kt.map (·.1)).take i).filter (fw λb l=>(a.set b l λx=>{x with tie:=false}).steady)++(if(a.set b l λx=>{x with tie:=false}).steady=true then[key b l]else[]):=by
    have hi2:(d.kt.map (·.1))[i]?=some (key b l):=by rw[bY,hkx];rfl
    rw[jR,hi2,iA,ll,dA,iC,j3]
   have hD6:=x6.keep _ _ hD3 nDT;have mk6:=x6.mks T4 mk3;have hlen:ys.length<sizeLine:=by
    rw[←cA mk3];exact bc (fX ..) (bc (jj ..) (by rw[List.length_map];exact bc h48 (by decide)))
   refine bZ (λe=>?_) (λe=>?_)
   ·have hs:(a.set b l λx=>{x with tie:=false}).steady=true:=(wH ht htie).mp (by rw[←ez'];exact ck e);rw[if_pos hs]at ek;refine⟨_,rfl,ys,hD6,hlen,⟨λc o qc n=>?_,λt=>iG ((xx.trans x6).tab t) hD6 (λ_ z=>nomatch z) (λ_ _ z=>nomatch z)⟩,ys++[.ref q],ao,?_⟩
    ·rw[ag (ay qc hD)];exact(xx.trans x6).keep _ _ qc n
    ·rw[ek];exact gv hD6 (eY mk6 ⟨q,rfl,x6.tup T4 hq⟩)
   ·have hs:¬(a.set b l λx=>{x with tie:=false}).steady=true:=λz2=>e (aO (by rw[ez'];exact(wH ht htie).mpr z2));rw[if_neg hs,List.append_nil]at ek;refine⟨xx.trans x6,ys,hD6,?_⟩;rw[ek];exact mk6
  ·rintro H3 ⟨xx,ys,hD3,mk3⟩;rw[jP (by rw[List.length_map];exact aJ _)]at mk3;have T3:=xx.tab T1;have hnd:((d.kt.map (·.1)).filter (fw λb l=>(a.set b l λx=>{x with tie:=false}).steady)).Nodup:=W.ok.t.nd.sublist jd;have hkeys:∀j,j∈(d.kt.map (·.1)).filter (fw λb l=>(a.set b l λx=>{x with tie:=false}).steady)↔∃b l:Nat,j=key b l/\a.there b l=true/\(λc=>(a.at_ c).tie&&(a.set (a.bay c) (a.level c) λx=>{x with tie:=false}).steady) (a.place b l)=true:=λj=>by
    rw[cV,bh];constructor
    ·rintro⟨⟨p,hp,rfl⟩,hb⟩;obtain⟨b,l,e1,ht⟩:=W.ok.t.at_ p hp;have hv:=W.ok.tv b l;rw[←e1,gw W.ok.t.nd (show(p.1,p.2)∈d.kt from hp)]at hv;rw[e1,j3]at hb;refine⟨b,l,e1,ht,?_⟩;show((a.at_ (a.place b l)).tie&&(a.set (a.bay (a.place b l)) (a.level (a.place b l)) λx=>{x with tie:=false}).steady)=true;rw[fe (az ht).1,eQ (az ht).1,hb,←gF (az ht).1 (az ht).2];cases q:(a.frame b l).tie with
     |true=>rfl
     |false=>rw[q]at hv;cases hv
    ·rintro⟨b,l,rfl,ht,hs⟩;have hs':((a.at_ (a.place b l)).tie&&(a.set (a.bay (a.place b l)) (a.level (a.place b l)) λx=>{x with tie:=false}).steady)=true:=hs;rw[fe (az ht).1,eQ (az ht).1,←gF (az ht).1 (az ht).2,dH]at hs';have hv:=W.ok.tv b l;rw[if_pos hs'.1]at hv;exact⟨⟨_,jB _ hv,rfl⟩,by rw[j3];exact hs'.2⟩
   refine⟨D,ys,(d.kt.map (·.1)).filter (fw λb l=>(a.set b l λx=>{x with tie:=false}).steady),rfl,hD3,mk3,T3,?_,λj hj=>?_,hnd,λH4 q ks' x4 hq pm pw eq=>?_⟩
   ·exact bc (fX ..) (by rw[List.length_map];omega)
   ·obtain⟨p,hp,rfl⟩:=bh.mp (cV.mp hj).1;exact W.ok.t.pair Wa.sf p hp
   ·have x5:=xx.trans x4;have hf4:=x5.keep _ _ fr1 nfr;refine⟨hf4,k _ q (back x5 hf4) ?_ ?_⟩
    ·exact(free1 (xx.free T1 hq)).1
    ·rw[ag (free1 (xx.free T1 hq)).2,eq,qG (p:=λc=>(a.at_ c).tie&&(a.set (a.bay c) (a.level c) λx=>{x with tie:=false}).steady) Wa.sf hkeys hnd pm pw];rfl
end
abbrev sCut:Stmt:=bq 67
abbrev sMost:Stmt:=bq 68
theorem sG(a:Abs)(b l:Nat):does a (.cut b l)=if a.there b l=false then(a,no (-2))else if(a.frame b l).ladder=false then(a,no (-6))else(a,list (a.set b l λx=>{x with ladder:=false}).stuck):=rfl
section
variable{P:Program}{w:World}{K:PySem.W.Frag}{mg:Str->Option Value}{base:Heap}
theorem rC:bj ["wall","numbers","spot"] ["wall","numbers"] (aM sReached):=⟨rfl,rfl,rfl,by decide +kernel,rfl,by decide +kernel,by decide +kernel⟩
theorem Eu{f fL fN C Pt:Addr}{fd fdL fdN:FuncData}(F:a8 K "reached" "reached" sReached f fd)(T:bW K mg C)
  (GL:ak P w K mg base au 5 fL fdL ["places"] (oC Pt)) (kL:PySem.W.keepIn K (.ref fL)=true) (bL:aN K fdL ["places"] []) (mL:mg "listed"=some (.ref fL))
  (GN:ak P w K mg base au 3 fN fdN ["wall","start"] (ky K C)) (kN:PySem.W.keepIn K (.ref fN)=true) (bN:aN K fdN ["wall","start"] []) (mN:mg "steps_from"=some (.ref fN)):
  ak P w K mg base au 6 f fd ["wall","numbers"] (d6 K C Pt 0 λ_=>.reached):=by
 obtain⟨tg,hgr⟩:=T.ground;refine F.ok rC (λvs H Q E h=>?_) (λcdv A outer s H vs Q E hr h=>?_)
 ·obtain⟨wl,nl,a,d,xs,rfl,_⟩:=h;rfl
 ·obtain⟨wl,nl,a,d,xs,rfl,hxl,Wa,W,hnl,hT,k⟩:=h;have hu64:(A.deeper (envOfC "reached" (aM sReached) s.heap.objs.size f cdv)).units+64<cLine:=by have:=hr.un;omega
  refine⟨_,aw (aF (bg GL hr rfl mL kL bL .nil aU (ab (eG (own:=[("spot",2)]) rfl rC.nd (Ah (bg (GN.mono (k:=5) (by decide)) hr rfl mN kN bN .nil aU (ab (pv 0) (ab (aP (v:=.str "ground") rfl hgr ⟨tg,rfl⟩) af)))) (eB rfl) (λs H C cl fp=>cN (i:=2) rC.nd rfl (Or.inl rfl))
   (λs H C' cl fp=>hU (aR (rp hu64) (pv 2) (aP (v:=.str "ground") rfl hgr ⟨tg,rfl⟩) (b7 _)))
   (λs H C' cl fp=>pv 2)) af))),?_⟩
  refine⟨_,rfl,wl,.str "ground",a,d,0,rfl,Wa.sf,W.r,.inl rfl,rfl,λH1 p ps k1 hp ep st=>?_⟩;refine⟨p,dk a ps,rfl,ep,λod D hD=>?_⟩;have hnode:=st.node Wa.sf (.inl rfl);have fz:upd H1 p (.frz od (.dM (dk a ps))) p=some (.frz od (.dM (dk a ps))):=ao;have k2:Kp H (upd H1 p (.frz od (.dM (dk a ps)))):=λb o q=>by rw[ag (ay q hp)];exact k1 _ _ q
  generalize upd H1 p (.frz od (.dM (dk a ps)))=H2 at fz k2 hD⊢;have x2:aj Pt H H2:=aj.all k2;have T2:=x2.tab hT;have hdl:(dk a ps).length=ps.length:=by unfold dk;rw[List.length_map]
  have h49:(ps.map (·.1)).length<=49:=sN Wa.sf st.nd λy hy=>by
   obtain⟨q,hq,rfl⟩:=bh.mp hy;exact hnode q hq
  refine ee (n:=(dk a ps).length) (λi H'=>Kp H2 H'/\∃ys,H' D=some (.lst ys)/\bw H' ((((ps.map (·.1)).take i).filter λy=>!decide (y=0)).map (nk a)) ys)
   ⟨Kp.laid hD,[],ao,.nil⟩ (λi H' hi ⟨kk,_⟩=>⟨kk _ _ fz,hi⟩) (λH' ⟨kk,_⟩=>⟨kk _ _ fz,aJ _⟩) ?_ ?_
  ·rintro i x H3 H4 hi ⟨kk,ys,hD3,mk3⟩ ⟨rfl,kx,vx,hkx,mx⟩;obtain⟨q,hq1,hq2⟩:∃q,ps[i]?=some q/\nk a q.1=kx:=by
    unfold dk at hkx;rw[bY]at hkx;cases e:ps[i]? with
    |none=>rw[e]at hkx;cases hkx
    |some q=>
     rw[e]at hkx;have:=b9 hkx;injection this with h1 h2;exact⟨q,rfl,h1⟩
   subst hq2;have ek:(((ps.map (·.1)).take (i+1)).filter λy=>!decide (y=0))=(((ps.map (·.1)).take i).filter λy=>!decide (y=0))++(if(!decide (q.1=0))=true then[q.1]else[]):=by
    have hi2:(ps.map (·.1))[i]?=some q.1:=by rw[bY,hq1];rfl
    rw[jR,hi2,iA,ll,dA,iC]
   refine⟨rfl,?_⟩;refine⟨_,rfl,nk a q.1,.inl "ground",iJ _ _,jG,mx,rfl,_,rfl,?_⟩;rw[jZ];by_cases q0:q.1=0
   ·rw[aO q0,if_neg (by decide),List.append_nil]at ek;rw[aO q0];refine⟨kk,ys,hD3,?_⟩;rw[ek];exact mk3
   ·rw[ba q0,if_pos (by decide)]at ek;rw[ba q0];refine⟨_,rfl,ys,hD3,?_,λc o qc=>?_,ys++[x],ao,?_⟩
    ·rw[←cA mk3,List.length_map];exact bc (fX ..) (bc (jj ..) (bc h49 (by decide)))
    ·rw[ag (ay qc hD)];exact kk _ _ qc
    ·rw[ek,cf];exact gv hD3 (eY mk3 mx)
  ·rintro H3 ⟨kk,ys,hD3,mk3⟩;rw[jP (by rw[List.length_map,hdl];exact aJ _)]at mk3;have T3:=(aj.all (Pt:=Pt) kk).tab T2;have nd0:((ps.map (·.1)).filter λy=>!decide (y=0)).Nodup:=st.nd.sublist jd;have node0:∀y∈(ps.map (·.1)).filter λy=>!decide (y=0),bQ a y:=λy hy=>by
    obtain⟨q,hq,rfl⟩:=bh.mp (cV.mp hy).1;exact hnode q hq
   have hnd:=qF node0 nd0;have hkeys:∀j,j∈((ps.map (·.1)).filter λy=>!decide (y=0)).map (nk a)↔∃b l:Nat,j=key b l/\a.there b l=true/\(λc=>(a.way 0 (c+1)).isSome) (a.place b l)=true:=λj=>by
    rw[bh];constructor
    ·rintro⟨y,hy,rfl⟩;have hn:=node0 y hy;obtain⟨h1,h2⟩:=cV.mp hy;obtain⟨q,hq,rfl⟩:=bh.mp h1;have y0:¬q.1=0:=λz=>by rw[aO z]at h2;cases h2
     rcases hn with z|⟨b,l,ht,z⟩
     ·exact absurd z y0
     ·refine⟨b,l,by rw[z,dE ht],ht,?_⟩;show(a.way 0 (a.place b l+1)).isSome=true;rw[←z,(j4 (da _)).mpr ((st.mem q.1 q.2).mp hq)];rfl
    ·rintro⟨b,l,rfl,ht,hs⟩;have hs':(a.way 0 (a.place b l+1)).isSome=true:=hs;obtain⟨i,hi⟩:=mQ.mp hs';have hm:=(st.mem (a.place b l+1) i).mpr ((j4 (da _)).mp hi);refine⟨a.place b l+1,cV.mpr ⟨bh.mpr ⟨_,hm,rfl⟩,?_⟩,dE ht⟩;rw[ba (by omega)];rfl
   refine⟨D,ys,_,rfl,hD3,mk3,T3,?_,λj hj=>?_,hnd,λH4 q ks' x4 hq pm pw eq=>?_⟩
   ·rw[List.length_map];exact bc (fX ..) (by omega)
   ·obtain⟨b,l,rfl,ht,_⟩:=(hkeys j).mp hj;have h1:=(az ht).1;have h8:=Wa.b8;exact⟨b,l,rfl,by omega,by omega⟩
   ·have x3:=x2.trans (aj.all (Pt:=Pt) kk);refine k H4 q (x3.trans x4) (x3.free hT hq) ?_;rw[eq,qG (p:=λc=>(a.way 0 (c+1)).isSome) Wa.sf hkeys hnd pm pw];rfl
theorem oZ:bj ["wall","numbers","place","trial","stuck"] ["wall","numbers"] (aM sCut):=⟨rfl,rfl,rfl,by decide +kernel,rfl,by decide +kernel,by decide +kernel⟩
theorem zt{f fC fS C Pt:Addr}{fd fdC fdS:FuncData}(F:a8 K "cut" "cut" sCut f fd)(T:bW K mg C)(TC:TxtC mg)(hlen:mg "len"=none)
  (GC:ak P w K mg base au 3 fC fdC ["wall"] (j6 K C)) (kC:PySem.W.keepIn K (.ref fC)=true) (bC:aN K fdC ["wall"] []) (mC:mg "copied"=some (.ref fC))
  (GS:ak P w K mg base au 4 fS fdS ["wall"] (rY K C)) (kS:PySem.W.keepIn K (.ref fS)=true) (bS:aN K fdS ["wall"] []) (mS:mg "stuck_persons"=some (.ref fS)):
  ak P w K mg base au 5 f fd ["wall","numbers"] (d6 K C Pt 2 λxs=>.cut (xs.getD 0 0) (xs.getD 1 0)):=by
 obtain⟨tns,hns⟩:=TC.noSuch;obtain⟨tnt,hnt⟩:=TC.noneThere;refine F.ok oZ (λvs H Q E h=>?_) (λcdv A outer s H vs Q E hr h=>?_)
 ·obtain⟨wl,nl,a,d,xs,rfl,_⟩:=h;rfl
 ·obtain⟨wl,nl,a,d,xs,rfl,hxl,Wa,W,hnl,hT,k⟩:=h;obtain⟨b,l,rfl⟩:∃b n,xs=[b,n]:=by
   match xs,hxl with
   | [b,n],_=>exact⟨b,n,rfl⟩
  have hu:=cP hr;have k':∀H' q,aj Pt H H'->H q=none->H' q=some (.lst (cI (does a (.cut b l)).2))->Q (.ref q) H':=k;refine⟨_,ai (aS (i:=2) oZ.nd rfl (Or.inl rfl) (c8 (ab (aL bf (pv 1) aq (λ_ _=>rfl)) (ab (aL bf (pv 1) aq (λ_ _=>rfl)) af))))
   (ai (aV (aR (dq hu) (pv 2) (ax (pv 0) rfl) (by with_unfolding_all rfl)) (aw (aF (cu (ab (aP (v:=.int (-2)) rfl hns ⟨tns,rfl⟩) af)))) aY)
   (ai (aV (aR (dq hu) (pv 2) (ax (pv 0) rfl) (by with_unfolding_all rfl)) (aw (aF (cu (ab (aP (v:=.int (-6)) rfl hnt ⟨tnt,rfl⟩) af)))) aY)
   (ai (aS (i:=3) oZ.nd rfl (Or.inl rfl) (bg (GC.mono (k:=4) (by decide)) hr rfl mC kC bC .nil aU (ab (pv 0) af)))
   (ai (fx (n0 hu (ax (pv 3) rfl) (pv 2) ⟨rfl,rfl,rfl,rfl⟩))
   (ai (aS (i:=4) oZ.nd rfl (Or.inl rfl) (bg GS hr rfl mS kS bS .nil aU (ab (pv 3) af)))
   (aw (aF (cW xT (cu (ab (cx eK (by rfl) hlen gq (ab (pv 4) af)) af)) (pv 4))))))))),?_⟩
  refine⟨_,rfl,nl,_,0,_,rfl,rfl,hnl,aK (j:=0) rfl,_,rfl,nl,_,1,_,rfl,rfl,hnl,aK (j:=1) rfl,(by show 2<=sizeLine;decide),λt ht=>?_⟩;have kt:Kp H (upd H t (.tup [.int (b:Nat),.int (l:Nat)])):=Kp.laid ht;have W1:=W.kp kt;have hq:bX (upd H t (.tup [.int (b:Nat),.int (l:Nat)])) t b l:=ao;have x1:aj Pt H (upd H t (.tup [.int (b:Nat),.int (l:Nat)])):=aj.all kt;have T1:=x1.tab hT;show dz _ _ _ _ (upd H t (.tup [.int (b:Nat),.int (l:Nat)]));generalize upd H t (.tup [.int (b:Nat),.int (l:Nat)])=H1 at kt W1 hq x1 T1⊢;refine⟨_,rfl,_,rfl,wl,C,d.dx,_,_,rfl,W1.ins,T.cl,T.nFr,rfl,d.fr,d.kf,key b l,rfl,.inl W1.fr,⟨t,rfl,hq⟩,_,rfl,?_⟩;rw[dP W.ok];cases q1:a.there b l with
  |false=>exact⟨(by show 1<=sizeLine;decide),λq hq=>dm k' hT x1 (by rw[sG,if_pos q1];rfl) hq⟩
  |true=>
   have n1:¬a.there b l=false:=by rw[q1];decide
   refine⟨_,rfl,_,rfl,wl,C,d.dx,_,_,rfl,W1.ins,T.cl,T.nLa,rfl,d.la,d.kl,key b l,rfl,.inl W1.la,⟨t,rfl,hq⟩,_,rfl,?_⟩;rw[gC W.ok];cases q2:(a.frame b l).ladder with
   |false=>exact⟨(by show 1<=sizeLine;decide),λq hq=>dm k' hT x1 (by rw[sG,if_neg n1,if_pos q2];rfl) hq⟩
   |true=>
    refine⟨_,rfl,wl,a,d,rfl,Wa.sf,W1.r,λH2 o d2 k2 hown W2=>?_⟩;have hv:aE d2.kl (key b l)=some (.bl true):=by rw[W2.ok.lv,q2];rfl
    refine⟨_,rfl,o,C,d2.dx,_,_,rfl,W2.ins,T.cl,T.nLa,rfl,d2.la,rfl,⟨_,.inl W2.la⟩,_,rfl,d2.kl,key b l,_,W2.la,⟨t,rfl,k2 _ _ hq⟩,hv,?_⟩;have W3:=W2.put_la (yA Wa.sf W2.ok q1);have c3:aX Pt o d2 H2 (upd H2 d2.la (.dM (bK d2.kl (key b l)))):=aX.own (C:=C) (a:=a) W2.la (.inr (.inr (.inr (.inr (.inr (.inr (.inl rfl))))))) (λ_ z=>nomatch z) (λ_ _ z=>nomatch z);have S3:Sf (a.set b l λx=>{x with ladder:=false}):=mn Wa.sf q1 rfl (λh=>nomatch h);have x3:=x1.trans (c3.ext k2 hown);refine⟨_,rfl,o,_,_,rfl,S3,W3.r,λH4 q k4 hq4 eq4=>?_⟩;have x4:=x3.trans (aj.all (Pt:=Pt) k4);refine⟨_,rfl,q,_,rfl,.inl (SqL.of eq4),(by show 1<=sizeLine;decide),λu hu1=>?_⟩;have k5:=Kp.laid (o:=.lst [V.int (((a.set b l λx=>{x with ladder:=false}).stuck.map λn=>V.int (n:Nat)).length:Nat)]) hu1;refine⟨_,rfl,u,q,_,_,rfl,rfl,ao,k5 _ _ eq4,?_,λr hr=>dm k' hT (x4.trans (aj.all k5)) ?_ hr⟩
    ·rw[List.length_map];have h1:(a.set b l λx=>{x with ladder:=false}).stuck.length<=8:=by
      unfold Abs.stuck;exact dw (fX ..) (by rw[ji];exact Wa.plen)
     exact dw (show 1+_<=9 by omega) (by decide)
    ·rw[sG,if_neg n1,if_neg (by rw[q2];decide),List.length_map];rfl
end
abbrev sRoom:Stmt:=bq 61
theorem yJ(a:Abs)(b l:Nat):does a (.room b l)=if a.there b l=false then(a,no (-2))else(a,num ((List.range a.most).takeWhile λn=>(a.set b l λx=>{x with things:=x.things+ (n+1)}).safe).length []):=rfl
theorem wd{α:Type}{f:α->α}(hf:∀x,f x=x):∀(l:List α) (i:Nat),l.modify i f=l
 | [],i=>by cases i<;>rfl
 |x::r,0=>by
  show f x::r=_;rw[hf]
 |x::r,i+1=>by rw[pR,wd hf r i]
theorem CA(a:Abs)(b l:Nat):more a b l 0=a:=by
 unfold more Abs.set;have e:=wd (f:=λx:Su56.Frame=>({x with things:=x.things+0}:Su56.Frame)) (λx=>rfl) a.frames (a.place b l);rw[e]
section
variable{a:Abs}{d:WD}{b l m m':Nat}{kv kv':List (MK×V)}
theorem Bu(S:Sf a)(ht:a.there b l=true)(x y:Nat):(more a b l m).there x y=a.there x y:=j2 S ht rfl x y
theorem FD(S:Sf a)(D:bU a d)(ht:a.there b l=true)(hk:cS a kv)(hv:∀x y,(aE kv (key x y)).getD (.int 0)= .int ((if x=b/\y=l then(a.frame b l).things+m else(a.frame x y).things:Nat):Int)):
  bU (more a b l m) {d with kh:=kv}:=by
 have hm:∀x y,a.there x y=true->(more a b l m).there x y=true:=λx y h=>by rw[Bu S ht];exact h
 refine iM D S.flen (az ht).1 (az ht).2 (de D.f λx y h _=>hm x y h) (de D.t λx y h _=>hm x y h) (de hk λx y h _=>hm x y h) (de D.l λx y h _=>hm x y h)
  (jY D ht rfl) (mI D rfl) (λx y=>?_) (mr D rfl)
 show(aE kv (key x y)).getD (.int 0)=_;rw[hv,D.hv];by_cases e:x=b/\y=l
 ·rw[if_pos e,if_pos e]
 ·rw[if_neg e,if_neg e]
theorem aQ.more{C wl:Addr}{H:Hp}(W:aQ C H wl (Wl.more a b l m) {d with kh:=kv})(D:bU (Wl.more a b l m') {d with kh:=kv'}):aQ C (upd H d.th (.dM kv')) wl (Wl.more a b l m') {d with kh:=kv'}:=by
 have nd:=W.nd;simp only[cG,a9,gr,gs,dI]at nd;obtain⟨⟨n1,n2,n3⟩,⟨n4,n5⟩,n6,_⟩:=nd;have st:∀{c:Addr} {o:HO},H c=some o->c≠d.th->upd H d.th (.dM kv') c=some o:=λ{c o} q ne=>by rw[ag ne];exact q
 exact⟨st W.ins (aC W.ins W.th (λz=>nomatch z)),st W.g (aC W.g W.th (λz=>nomatch z)),st W.fr n2,st W.ti n4,ao,st W.la (bP n6),st W.we (aC W.we W.th (λz=>nomatch z)),st W.sp (aC W.sp W.th (λz=>nomatch z)),W.spk.mono (λb xs q=>st q (aC q W.th (λz=>nomatch z))),D,W.nd,W.nl⟩
def RW(C Pt:Addr)(a:Abs)(b l:Nat)(d:WD)(H1:Hp)(wl nl t o:Addr)(n:Nat)(σ:L2.St)(H':Hp):Prop:=∃(fits fails m:Nat) (kv:List (MK×V)) (v7:Option V),n+fits=fails/\
 σ=[some (.ref wl),some (.ref nl),some (.ref t),some (.ref o),some (.int ((a.frame b l).things:Nat)),some (.int (fits:Nat)),some (.int (fails:Nat)),v7]/\aj Pt H1 H'/\bX H' t b l/\
 aQ C H' o (Wl.more a b l m) {d with kh:=kv}/\cS a kv/\(∀x y,(aE kv (key x y)).getD (.int 0)= .int ((if x=b/\y=l then(a.frame b l).things+m else(a.frame x y).things:Nat):Int))/\
 fits<fails/\(Wl.more a b l fits).safe=true/\(Wl.more a b l fails).safe=false
end
section
variable{P:Program}{w:World}{K:PySem.W.Frag}{mg:Str->Option Value}{base:Heap}
theorem ik:bj ["wall","numbers","place","trial","things","fits","fails","more"] ["wall","numbers"] (aM sRoom):=⟨rfl,rfl,rfl,by decide +kernel,rfl,by decide +kernel,by decide +kernel⟩
theorem Bp{f fC fM C Pt:Addr}{fd fdC fdM:FuncData}(F:a8 K "room" "room" sRoom f fd)(T:bW K mg C)(TC:TxtC mg)
  (GC:ak P w K mg base au 3 fC fdC ["wall"] (j6 K C)) (kC:PySem.W.keepIn K (.ref fC)=true) (bC:aN K fdC ["wall"] []) (mC:mg "copied"=some (.ref fC))
  (GM:ak P w K mg base au 6 fM fdM ["wall"] (iq K C Pt λa=>!a.safe)) (kM:PySem.W.keepIn K (.ref fM)=true) (bM:aN K fdM ["wall"] []) (mM:mg "too_much"=some (.ref fM)):
  ak P w K mg base au 7 f fd ["wall","numbers"] (d6 K C Pt 2 λxs=>.room (xs.getD 0 0) (xs.getD 1 0)):=by
 obtain⟨tns,hns⟩:=TC.noSuch;refine F.ok ik (λvs H Q E h=>?_) (λcdv A outer s H vs Q E hr h=>?_)
 ·obtain⟨wl,nl,a,d,xs,rfl,_⟩:=h;rfl
 ·obtain⟨wl,nl,a,d,xs,rfl,hxl,Wa,W,hnl,hT,k⟩:=h;obtain⟨b,l,rfl⟩:∃b n,xs=[b,n]:=by
   match xs,hxl with
   | [b,n],_=>exact⟨b,n,rfl⟩
  have hu:=cP hr;have k':∀H' q,aj Pt H H'->H q=none->H' q=some (.lst (cI (does a (.room b l)).2))->Q (.ref q) H':=k;refine⟨_,ai (aS (i:=2) ik.nd rfl (Or.inl rfl) (c8 (ab (aL bf (pv 1) aq (λ_ _=>rfl)) (ab (aL bf (pv 1) aq (λ_ _=>rfl)) af))))
   (ai (aV (aR (dq hu) (pv 2) (ax (pv 0) rfl) (by with_unfolding_all rfl)) (aw (aF (cu (ab (aP (v:=.int (-2)) rfl hns ⟨tns,rfl⟩) af)))) aY)
   (ai (aS (i:=3) ik.nd rfl (Or.inl rfl) (bg (GC.mono (k:=6) (by decide)) hr rfl mC kC bC .nil aU (ab (pv 0) af)))
   (ai (aS (i:=4) ik.nd rfl (Or.inl rfl) (jq hu (ax (pv 0) rfl) (pv 2) aq ⟨rfl,rfl,rfl,rfl⟩))
   (ai (aS (i:=5) ik.nd rfl (Or.inl rfl) aq)
   (ai (aS (i:=6) ik.nd rfl (Or.inl rfl) (ax (pv 0) rfl))
   (ai (qA iB (aR iX (cW gQ (pv 6) (pv 5)) aq (b7 _))
    (ai (aS (i:=7) ik.nd rfl (Or.inl rfl) (cW rM (cW gc (pv 5) (pv 6)) aq))
    (ai (gN hu (ax (pv 3) rfl) (pv 2) (cW gc (pv 4) (pv 7)) rfl)
    (aw (aV (eO (bg GM hr rfl mM kM bM .nil aU (ab (pv 3) af))) (aw (aS (i:=6) ik.nd rfl (Or.inl rfl) (pv 7))) (aw (aS (i:=5) ik.nd rfl (Or.inl rfl) (pv 7))))))))
   (aw (aF (cu (ab (pv 5) af)))))))))),?_⟩
  refine⟨_,rfl,nl,_,0,_,rfl,rfl,hnl,aK (j:=0) rfl,_,rfl,nl,_,1,_,rfl,rfl,hnl,aK (j:=1) rfl,(by show 2<=sizeLine;decide),λt ht=>?_⟩;have kt:Kp H (upd H t (.tup [.int (b:Nat),.int (l:Nat)])):=Kp.laid ht;have W1:=W.kp kt;have hq:bX (upd H t (.tup [.int (b:Nat),.int (l:Nat)])) t b l:=ao;have x1:aj Pt H (upd H t (.tup [.int (b:Nat),.int (l:Nat)])):=aj.all kt;have T1:=x1.tab hT;show dz _ _ _ _ (upd H t (.tup [.int (b:Nat),.int (l:Nat)]));generalize upd H t (.tup [.int (b:Nat),.int (l:Nat)])=H1 at kt W1 hq x1 T1⊢;refine⟨_,rfl,_,rfl,wl,C,d.dx,_,_,rfl,W1.ins,T.cl,T.nFr,rfl,d.fr,d.kf,key b l,rfl,.inl W1.fr,⟨t,rfl,hq⟩,_,rfl,?_⟩;rw[dP W.ok];cases q1:a.there b l with
  |false=>exact⟨(by show 1<=sizeLine;decide),λq hq=>dm k' hT x1 (by rw[yJ,if_pos q1];rfl) hq⟩
  |true=>
   refine⟨_,rfl,wl,a,d,rfl,Wa.sf,W1.r,λH2 o d2 k2 hown W2=>?_⟩;have W12:=W1.kp k2;have hq2:=k2 _ _ hq;refine⟨_,rfl,wl,C,d.dx,_,_,rfl,W12.ins,T.cl,T.nTh,rfl,d.th,rfl,⟨_,.inl W12.th⟩,_,rfl,d.kh,key b l,.inl W12.th,⟨t,rfl,hq2⟩,?_⟩;rw[W.ok.hv b l];refine⟨_,rfl,wl,C,d.dx,_,_,rfl,W12.ins,T.cl,T.nM,rfl,?_⟩;refine⟨RW C Pt a b l d2 H1 wl nl t o,⟨a.most,0,a.most,0,d2.kh,none,Nat.add_zero _,rfl,aj.all k2,hq2,by rw[CA];exact W2,W2.ok.h,λx y=>?_,by have:=Wa.m1;omega,BC Wa.sf q1 Wa.safe,yf Wa.sf q1⟩,?_⟩
   ·rw[W2.ok.hv];by_cases e:x=b/\y=l
    ·rw[if_pos e,e.1,e.2];rfl
    ·rw[if_neg e]
   rintro n σ H3 ⟨fits,fails,m,kv,v7,hn,rfl,x3,hq3,W3,hk3,hv3,hlt,hs1,hs2⟩;refine⟨_,rfl,_,rfl,_,_,rfl,rfl,_,_,rfl,rfl,_,rfl,?_⟩;refine bZ (λe=>?_) (λe=>?_)
   ·have e':(1:Int)<(fails:Int)- (fits:Int):=ck e;refine⟨λσ' H'=>∃n',n'<n/\RW C Pt a b l d2 H1 wl nl t o n' σ' H',λσ' H' h=>h,?_⟩;refine⟨_,rfl,_,rfl,_,_,rfl,rfl,_,_,rfl,rfl,⟨by decide,by decide⟩,?_⟩;have hmid:((fits:Int)+ (fails:Int))/2=(((fits+fails)/2:Nat):Int):=by omega
    dsimp only;rw[hmid];have hlo:fits<(fits+fails)/2:=by omega
    have hhi:(fits+fails)/2<fails:=by omega
    generalize (fits+fails)/2=mid at hlo hhi hmid⊢;have h48:=hk3.len Wa.sf;have T3:=x3.tab T1;refine⟨_,rfl,_,rfl,_,_,rfl,rfl,_,rfl,o,C,d2.dx,_,_,rfl,W3.ins,T.cl,T.nTh,rfl,_,rfl,d2.th,kv,key b l,rfl,W3.th,⟨t,rfl,hq3⟩,bc h48 (by decide),?_⟩;have hk4:cS a (bt kv (key b l) (.int (((a.frame b l).things+mid:Nat):Int))):=lp hk3 (λ_ _ h=>h) q1;have hv4:∀x y,(aE (bt kv (key b l) (.int (((a.frame b l).things+mid:Nat):Int))) (key x y)).getD (.int 0)= .int ((if x=b/\y=l then(a.frame b l).things+mid else(a.frame x y).things:Nat):Int):=λx y=>by
     rw[pA];by_cases z:x=b/\y=l
     ·rw[if_pos z,if_pos z];rfl
     ·rw[if_neg z,if_neg z,hv3,if_neg z]
    have D4:=FD Wa.sf W2.ok q1 hk4 hv4;have W4:=W3.more D4;have ownth:dD o d2 d2.th:=.inr (.inr (.inr (.inr (.inr (.inl rfl)))));have x4:aj Pt H1 (upd H3 d2.th (.dM (bt kv (key b l) (.int (((a.frame b l).things+mid:Nat):Int))))):=⟨λc u q z=>by
      rw[ag (λy:c=d2.th=>by rw[y,hown _ ownth]at q;cases q)];exact x3.keep _ _ q z,λt=>iG (x3.tab t) W3.th (λ_ z=>nomatch z) (λ_ _ z=>nomatch z)⟩
    have hq4:bX (upd H3 d2.th (.dM (bt kv (key b l) (.int (((a.frame b l).things+mid:Nat):Int))))) t b l:=by
     show upd H3 d2.th _ t=_;rw[ag (aC hq3 W3.th (λz=>nomatch z))];exact hq3
    show dz _ _ _ _ (upd H3 d2.th (.dM (bt kv (key b l) (.int (((a.frame b l).things+mid:Nat):Int)))));generalize upd H3 d2.th (.dM (bt kv (key b l) (.int (((a.frame b l).things+mid:Nat):Int))))=H4 at W4 x4 hq4⊢;have T4:=x4.tab T1;have S4:Sf (Wl.more a b l mid):=mn Wa.sf q1 rfl (qB Wa.sf);refine⟨_,rfl,o,_,_,rfl,S4,W4.r,W4.fr,T4,λH5 x5=>?_⟩;have W5:=W4.ext x5 T4;have x15:=x4.trans x5;have hq5:=x5.tup T4 hq4;refine⟨_,rfl,?_⟩;refine bZ (λe=>?_) (λe=>?_)
    ·have hs:(Wl.more a b l mid).safe=false:=by
      have e':(!(Wl.more a b l mid).safe)=true:=e;simpa using e'
     exact⟨_,rfl,mid-fits,by omega,fits,mid,mid,_,_,by omega,rfl,x15,hq5,W5,hk4,hv4,hlo,hs1,hs⟩
    ·have hs:(Wl.more a b l mid).safe=true:=by
      have e':¬(!(Wl.more a b l mid).safe)=true:=e;simpa using e'
     exact⟨_,rfl,fails-mid,by omega,mid,fails,mid,_,_,by omega,rfl,x15,hq5,W5,hk4,hv4,hhi,hs,hs2⟩
   ·have e':¬((1:Int)<(fails:Int)- (fits:Int)):=λz=>e (aO z);have hf:fails=fits+1:=by omega
    subst hf;refine⟨_,rfl,(by show 1<=sizeLine;decide),λq hq=>dm k' hT (x1.trans x3) ?_ hq⟩;rw[yJ,if_neg (by rw[q1];decide),Et Wa.sf q1 hs1 hs2];rfl
end
abbrev sLook:Stmt:=bq 69
abbrev sSums:Stmt:=bq 71
theorem vE(a:Abs)(b l:Nat):does a (.look b l)=if a.there b l=false then(a,no (-2))else(a,num (a.frame b l).kind [bit (a.frame b l).tie,(a.frame b l).things,a.persons (a.place b l),bit (a.frame b l).ladder]):=rfl
theorem wR{b:Bool}{σ:L2.St}{H:Hp}{Q:VK}(h:Q (V.int (bit b:Nat)) H):if b=true then tC (V.int 1) σ H Q else tC (V.int 0) σ H Q:=by
 cases b<;>exact h
theorem Es{xs ys:List Nat}(h:xs.Perm ys):xs.sum=ys.sum:=by
 induction h with
 |nil=>rfl
 |cons x _ ih=>rw[g9,g9,ih]
 |swap x y l=>rw[g9,g9,g9,g9];omega
 |trans _ _ h1 h2=>exact h1.trans h2
theorem vT{a:Abs}{kvs:List (MK×V)}{g:Nat->Nat}(hn:(kvs.map (·.1)).Nodup)(hp:∀p∈kvs,∃b l:Nat,p.1=key b l/\a.there b l=true/\p.2= .int (g (a.place b l):Nat))
  (hz:∀b l:Nat,a.there b l=true->key b l∉kvs.map (·.1)->g (a.place b l)=0):∃ns:List Nat,kvs.map (·.2)=ns.map (λn=>V.int (n:Nat))/\ns.sum=(a.all.map g).sum:=by
 have h1:∀kvs:List (MK×V),(kvs.map (·.1)).Nodup->(∀p∈kvs,∃b l:Nat,p.1=key b l/\a.there b l=true/\p.2= .int (g (a.place b l):Nat))->
   ∃cs:List Nat,kvs.map (·.2)=cs.map (λc=>V.int (g c:Nat))/\cs.Nodup/\(∀c∈cs,c∈a.all/\∃b l:Nat,a.there b l=true/\c=a.place b l/\key b l∈kvs.map (·.1))/\∀b l:Nat,key b l∈kvs.map (·.1)->a.place b l∈cs:=by
  intro kvs
  induction kvs with
  |nil=>exact λ_ _=>⟨[],rfl,List.nodup_nil,(λc h=>nomatch h),(λb l h=>nomatch h)⟩
  |cons p r ih=>
   intro hn ha;rw[aW,cG]at hn;obtain⟨cs,e,nd,hc,hk⟩:=ih hn.2 λq hq=>ha q (List.mem_cons_of_mem _ hq);obtain⟨b,l,e1,ht,e2⟩:=ha p (List.mem_cons_self ..);refine⟨a.place b l::cs,by rw[aW,aW,e,e2],cG.mpr ⟨λhm=>?_,nd⟩,λc h=>?_,λb' l' h=>?_⟩
   ·obtain⟨_,b',l',ht',e2,hm'⟩:=hc _ hm;obtain⟨rfl,rfl⟩:=ka (az ht).1 (az ht').1 e2;exact hn.1 (by rw[e1];exact hm')
   ·rcases a9.mp h with rfl|h
    ·exact⟨jl ht,b,l,ht,rfl,by rw[aW,←e1];exact List.mem_cons_self ..⟩
    ·obtain⟨h1,b',l',h2,h3,h4⟩:=hc c h;exact⟨h1,b',l',h2,h3,List.mem_cons_of_mem _ h4⟩
   ·rw[aW]at h;rcases a9.mp h with h|h
    ·obtain⟨rfl,rfl⟩:=hW (h.trans e1);exact List.mem_cons_self ..
    ·exact List.mem_cons_of_mem _ (hk b' l' h)
 obtain⟨cs,e,nd,hc,hk⟩:=h1 kvs hn hp;refine⟨cs.map g,by rw[e,List.map_map];rfl,?_⟩;have pm:a.all.Perm (cs++a.all.filter λc=>!decide (c∈cs)):=by
  refine(GY (pM a) ?_).mpr λc=>?_
  ·refine kQ.mpr ⟨nd,(pM a).sublist jd,λx hx y hy e=>?_⟩;have:=(cV.mp hy).2;rw[←e,aO hx]at this;cases this
  ·rw[cK,cV];constructor
   ·intro h;by_cases z:c∈cs
    ·exact .inl z
    ·exact .inr ⟨h,by rw[ba z];rfl⟩
   ·rintro(h|h)
    ·exact(hc c h).1
    ·exact h.1
 rw[Es (pm.map g),cf,zj];have z0:∀L:List Nat,(∀c∈L,g c=0)->(L.map g).sum=0:=by
  intro L
  induction L with
  |nil=>exact λ_=>rfl
  |cons x r ih=>
   intro h;rw[aW,g9,h x (List.mem_cons_self ..),ih λc hc=>h c (List.mem_cons_of_mem _ hc)]
 rw[z0 (a.all.filter λc=>!decide (c∈cs)) λc hc'=>?_,Nat.add_zero];obtain⟨h2,h3⟩:=cV.mp hc';obtain⟨_,h4⟩:=fJ.mp h2;have h5:=hz _ _ h4 λz=>by
  have:=hk _ _ z;rw[gy]at this;rw[aO this]at h3;cases h3
 rw[gy]at h5;exact h5
theorem EW{a:Abs}:a.total=(a.all.map λc=>own a (a.bay c) (a.level c)).sum:=by
 unfold Abs.total;have h:∀L:List Nat,(∀c∈L,c<a.n)->a.weight*L.length+ (L.map λc=>(a.at_ c).things+a.persons c).sum=(L.map λc=>own a (a.bay c) (a.level c)).sum:=by
  intro L
  induction L with
  |nil=>exact λ_=>rfl
  |cons x r ih=>
   intro hL;have h1:=ih λc hc=>hL c (List.mem_cons_of_mem _ hc);rw[aW,g9,aW,g9,List.length_cons,←h1,Nat.mul_succ];unfold own;rw[gy,←nX (hL x (List.mem_cons_self ..))];omega
 exact h _ λc hc=>(fJ.mp hc).1
theorem AF{a:Abs}{d:WD}(D:bU a d):∃ns:List Nat,d.kh.map (·.2)=ns.map (λn=>V.int (n:Nat))/\ns.sum=(a.all.map λc=>(a.at_ c).things).sum:=by
 refine vT D.h.nd (λp hp=>?_) (λb l ht hn=>?_)
 ·obtain⟨b,l,e,ht⟩:=D.h.at_ p hp;refine⟨b,l,e,ht,?_⟩;have hv:=D.hv b l;rw[←e,gw D.h.nd (show(p.1,p.2)∈d.kh from hp)]at hv;rw[←gF (az ht).1 (az ht).2];exact hv
 ·have hv:=D.hv b l;rw[ku hn]at hv;rw[←gF (az ht).1 (az ht).2];have hv':V.int 0=V.int ((a.frame b l).things:Nat):=hv;injection hv' with hv';omega
theorem Dv{a:Abs}{d:WD}{kv:List (MK×V)}(D:bU a d)(V0:d7 a d kv (λb l=>(own a b l:Nat))):∃ns:List Nat,kv.map (·.2)=ns.map (λn=>V.int (n:Nat))/\ns.sum=a.total:=by
 rw[EW];refine vT (by rw[V0.keys];exact D.f.nd) (λp hp=>?_) (λb l ht hn=>?_)
 ·obtain⟨b,l,e,ht,e2⟩:=V0.at_ D hp;refine⟨b,l,e,ht,?_⟩;rw[fe (az ht).1,eQ (az ht).1];exact e2
 ·exact absurd (iH (V0.val b l ht)) hn
theorem vH{ns:List Nat}:ns.map (λn=>V.int (n:Nat))=(ns.map λn=>((n:Nat):Int)).map V.int:=by rw[List.map_map];rfl
section
variable{P:Program}{w:World}{K:PySem.W.Frag}{mg:Str->Option Value}{base:Heap}
theorem kK:bj ["wall","numbers","things","persons_up","weight","spot"] ["wall","numbers"] (aM sSums):=⟨rfl,rfl,rfl,by decide +kernel,rfl,by decide +kernel,by decide +kernel⟩
theorem FO{f fO C Pt:Addr}{fd fdO:FuncData}(F:a8 K "sums" "sums" sSums f fd)(T:bW K mg C)(hlen:mg "len"=none)(hsum:mg "sum"=none)
  (GO:ak P w K mg base au 1 fO fdO ["wall"] (sQ K C)) (kO:PySem.W.keepIn K (.ref fO)=true) (bO:aN K fdO ["wall"] []) (mO:mg "own_loads"=some (.ref fO)):
  ak P w K mg base au 2 f fd ["wall","numbers"] (d6 K C Pt 0 λ_=>.sums):=by
 obtain⟨tg,hgr⟩:=T.ground;refine F.ok kK (λvs H Q E h=>?_) (λcdv A outer s H vs Q E hr h=>?_)
 ·obtain⟨wl,nl,a,d,xs,rfl,_⟩:=h;rfl
 ·obtain⟨wl,nl,a,d,xs,rfl,hxl,Wa,W,hnl,hT,k⟩:=h;have hu64:(A.deeper (envOfC "sums" (aM sSums) s.heap.objs.size f cdv)).units+64<cLine:=by have:=hr.un;omega
  refine⟨_,ai (aS (i:=2) kK.nd rfl (Or.inl rfl) (cx (vg rfl) rfl hsum boot_sum (ab (ra (ax (pv 0) rfl)) af)))
   (ai (aS (i:=3) kK.nd rfl (Or.inl rfl) (cx eK (by rfl) hlen gq (ab (eG (own:=[("spot",5)]) rfl kK.nd (iu (ax (pv 0) rfl)) (eB rfl) (λs H C cl fp=>cN (i:=5) kK.nd rfl (Or.inl rfl))
    (λs H C' cl fp=>hU (aR (rp hu64) (pv 5) (aP (v:=.str "ground") rfl hgr ⟨tg,rfl⟩) (b7 _))) (λs H C' cl fp=>pv 5)) af)))
   (ai (aS (i:=4) kK.nd rfl (Or.inl rfl) (cx (vg rfl) rfl hsum boot_sum (ab (ra (bg GO hr rfl mO kO bO .nil aU (ab (pv 0) af))) af)))
   (aw (aF (cu (ab (cx i7 rfl hlen g0 (ab (ax (pv 0) rfl) af)) (ab (cx i7 rfl hlen g0 (ab (ax (pv 0) rfl) af)) (ab (cx i7 rfl hlen g0 (ab (ax (pv 0) rfl) af)) (ab (pv 2) (ab (pv 3) (ab (pv 4) af))))))))))),?_⟩
  obtain⟨ns,hns,hsm⟩:=AF W.ok;refine⟨_,rfl,wl,C,d.dx,_,_,rfl,W.ins,T.cl,T.nTh,rfl,d.th,d.kh,rfl,.inl W.th,λv hv=>?_⟩;have k1:Kp H (upd H v (d8 v d.th)):=Kp.laid hv;have hv1:upd H v (d8 v d.th) v=some (d8 v d.th):=ao;generalize upd H v (d8 v d.th)=H1 at k1 hv1⊢;have W1:=W.kp k1;refine⟨v,d.th,d.kh,ns.map λn=>((n:Nat):Int),rfl,hv1,.inl W1.th,hns.trans vH,?_⟩;refine⟨_,rfl,wl,C,d.dx,_,_,rfl,W1.ins,T.cl,T.nSp,rfl,d.sp,rfl,⟨_,SqL.of W1.sp⟩,λD hD=>?_⟩;have hsl:=W.svs_len;refine ee (n:=a.people.length) (λi H'=>Kp H1 H'/\∃ys,H' D=some (.lst ys)/\ys.length=((a.people.take i).filter λp=>p.at_ != 0).length)
   ⟨Kp.laid hD,[],ao,rfl⟩ (λi H' hi ⟨kk,_⟩=>⟨_,d.svs[i]'(by omega),SqL.of (W1.kp kk).sp,aZ _⟩) (λH' ⟨kk,_⟩=>⟨_,SqL.of (W1.kp kk).sp,by omega⟩) ?_ ?_
  ·rintro i x H3 H4 hi ⟨kk,ys,hD2,hyl⟩ ⟨rfl,hx1⟩;have hx:=hx1 _ (SqL.of (W1.kp kk).sp);obtain⟨pj,hpj⟩:∃pj,a.people[i]?=some pj:=⟨_,aZ hi⟩;have mx:br H4 (nk a pj.at_) x:=by
    obtain⟨z,hz1,hz2⟩:=dX (W1.kp kk).spk (i:=i) (a:=nk a pj.at_) (by rw[bY,hpj];rfl);rw[hx]at hz1;cases hz1;exact hz2
   have ek:((a.people.take (i+1)).filter λp=>p.at_ != 0)=((a.people.take i).filter λp=>p.at_ != 0)++(if(pj.at_ != 0)=true then[pj]else[]):=by
    rw[jR,hpj,iA,ll,dA,iC]
   refine⟨rfl,?_⟩;refine⟨_,rfl,nk a pj.at_,.inl "ground",iJ _ _,jG,mx,rfl,_,rfl,?_⟩;rw[jZ];by_cases q0:pj.at_=0
   ·rw[aO q0];rw[if_neg (by simp[q0]),List.append_nil]at ek;exact⟨kk,ys,hD2,by rw[ek];exact hyl⟩
   ·rw[ba q0];rw[if_pos (by simp[q0])]at ek;refine⟨_,rfl,ys,hD2,?_,λc o qc=>?_,ys++[x],ao,?_⟩
    ·rw[hyl];exact bc (fX ..) (bc (jj ..) (bc Wa.plen (by decide)))
    ·rw[ag (ay qc hD)];exact kk _ _ qc
    ·rw[ek,df,df,hyl];rfl
  ·rintro H3 ⟨kk,ys,hD2,hyl⟩;rw[gp]at hyl;have W3:=W1.kp kk;have k3:=Kp.trans k1 kk;refine⟨D,_,rfl,.inl (SqL.of hD2),?_⟩;refine⟨_,rfl,wl,a,d,rfl,Wa.sf,W3.r,W3.fr,W.ok.f.len Wa.sf,λH4 p kv k4 hp ep V0=>?_⟩;obtain⟨ms,hms,hmt⟩:=Dv W.ok V0;have W4:=W3.kp k4;refine⟨p,kv,rfl,.inl ep,λu hu1=>?_⟩;have k5:Kp H4 (upd H4 u (d8 u p)):=Kp.laid hu1;have hv5:upd H4 u (d8 u p) u=some (d8 u p):=ao;generalize upd H4 u (d8 u p)=H5 at k5 hv5⊢;have W5:=W4.kp k5;have x5:aj Pt H H5:=aj.all (Kp.trans k3 (Kp.trans k4 k5));refine⟨u,p,kv,ms.map λn=>((n:Nat):Int),rfl,hv5,.inl (k5 _ _ ep),hms.trans vH,?_⟩;refine⟨_,rfl,wl,C,d.dx,_,_,rfl,W5.ins,T.cl,T.nFr,rfl,d.fr,_,rfl,.inl W5.fr,?_⟩;refine⟨_,rfl,wl,C,d.dx,_,_,rfl,W5.ins,T.cl,T.nTi,rfl,d.ti,_,rfl,.inl W5.ti,?_⟩;refine⟨_,rfl,wl,C,d.dx,_,_,rfl,W5.ins,T.cl,T.nLa,rfl,d.la,_,rfl,.inl W5.la,?_⟩;refine⟨_,rfl,_,rfl,_,rfl,(by show 6<=sizeLine;decide),λq hq=>dm k hT x5 ?_ hq⟩;have hlad:d.kl.length=(a.all.filter λc=>(a.at_ c).ladder).length:=vS W.ok.l λb l ht=>by
    rw[gC W.ok,←gF (az ht).1 (az ht).2]
   rw[lY,lY,hsm,hmt,oQ Wa.sf W.ok,rZ W.ok,hlad,hyl];rfl
theorem i6:bj ["wall","numbers","place","tied","persons","has_ladder","spot","weight"] ["wall","numbers"] (aM sLook):=⟨rfl,rfl,rfl,by decide +kernel,rfl,by decide +kernel,by decide +kernel⟩
theorem FF{f C Pt:Addr}{fd:FuncData}(F:a8 K "look" "look" sLook f fd)(T:bW K mg C)(TC:TxtC mg)(hzip:mg "zip"=none)(hsum:mg "sum"=none):
  ak P w K mg base au 1 f fd ["wall","numbers"] (d6 K C Pt 2 λxs=>.look (xs.getD 0 0) (xs.getD 1 0)):=by
 obtain⟨tns,hns⟩:=TC.noSuch;refine F.ok i6 (λvs H Q E h=>?_) (λcdv A outer s H vs Q E hr h=>?_)
 ·obtain⟨wl,nl,a,d,xs,rfl,_⟩:=h;rfl
 ·obtain⟨wl,nl,a,d,xs,rfl,hxl,Wa,W,hnl,hT,k⟩:=h;obtain⟨b,l,rfl⟩:∃b n,xs=[b,n]:=by
   match xs,hxl with
   | [b,n],_=>exact⟨b,n,rfl⟩
  have hu:=cP hr;have hu64:(A.deeper (envOfC "look" (aM sLook) s.heap.objs.size f cdv)).units+64<cLine:=by have:=hr.un;omega
  have k':∀H' q,aj Pt H H'->H q=none->H' q=some (.lst (cI (does a (.look b l)).2))->Q (.ref q) H':=k;refine⟨_,ai (aS (i:=2) i6.nd rfl (Or.inr rfl) (c8 (ab (aL bf (pv 1) aq (λ_ _=>rfl)) (ab (aL bf (pv 1) aq (λ_ _=>rfl)) af))))
   (ai (aV (aR (dq hu) (pv 2) (ax (pv 0) rfl) (by with_unfolding_all rfl)) (aw (aF (cu (ab (aP (v:=.int (-2)) rfl hns ⟨tns,rfl⟩) af)))) aY)
   (ai (aS (i:=3) i6.nd rfl (Or.inl rfl) (rj (aR (eE hu) (pv 2) (ax (pv 0) rfl) (by with_unfolding_all rfl)) aq aq))
   (ai (aS (i:=4) i6.nd rfl (Or.inl rfl) (cx (u7 rfl) rfl hsum boot_sum (ab (eG (own:=[("spot",6),("weight",7)]) rfl i6.nd (sP rfl hzip (ab (ax (pv 0) rfl) (ab (ax (pv 0) rfl) af))) (eB rfl)
    (λs H C cl fp=>om (K:=K) (n:=2) rfl rfl (gT (cN (i:=6) i6.nd rfl (Or.inl rfl)) (gT (cN (i:=7) i6.nd rfl (Or.inl rfl)) lH)))
    (λs H C' cl fp=>hU (aR (mJ hu64) (pv 6) (pv 2) (b7 _)))
    (λs H C' cl fp=>pv 7)) af)))
   (ai (aS (i:=5) i6.nd rfl (Or.inl rfl) (rj (aR (eE hu) (pv 2) (ax (pv 0) rfl) (by with_unfolding_all rfl)) aq aq))
   (aw (aF (cu (ab (gb hu (ax (pv 0) rfl) (pv 2) (λ_ _=>rfl)) (ab (pv 3) (ab (jq hu (ax (pv 0) rfl) (pv 2) aq ⟨rfl,rfl,rfl,rfl⟩) (ab (pv 4) (ab (pv 5) af)))))))))))),?_⟩
  refine⟨_,rfl,nl,_,0,_,rfl,rfl,hnl,aK (j:=0) rfl,_,rfl,nl,_,1,_,rfl,rfl,hnl,aK (j:=1) rfl,(by show 2<=sizeLine;decide),λt ht=>?_⟩;have kt:Kp H (upd H t (.tup [.int (b:Nat),.int (l:Nat)])):=Kp.laid ht;have W1:=W.kp kt;have hq:bX (upd H t (.tup [.int (b:Nat),.int (l:Nat)])) t b l:=ao;have x1:aj Pt H (upd H t (.tup [.int (b:Nat),.int (l:Nat)])):=aj.all kt;have T1:=x1.tab hT;show dz _ _ _ _ (upd H t (.tup [.int (b:Nat),.int (l:Nat)]));generalize upd H t (.tup [.int (b:Nat),.int (l:Nat)])=H1 at kt W1 hq x1 T1⊢;refine⟨_,rfl,_,rfl,wl,C,d.dx,_,_,rfl,W1.ins,T.cl,T.nFr,rfl,d.fr,d.kf,key b l,rfl,.inl W1.fr,⟨t,rfl,hq⟩,_,rfl,?_⟩;rw[dP W.ok];cases q1:a.there b l with
  |false=>exact⟨(by show 1<=sizeLine;decide),λq hq=>dm k' hT x1 (by rw[vE,if_pos q1];rfl) hq⟩
  |true=>
   refine⟨_,rfl,_,rfl,wl,C,d.dx,_,_,rfl,W1.ins,T.cl,T.nTi,rfl,d.ti,d.kt,key b l,rfl,.inl W1.ti,⟨t,rfl,hq⟩,_,rfl,?_⟩;rw[oX W.ok];refine wR ?_;have hsl:=W.svs_len;refine⟨_,rfl,wl,C,d.dx,_,_,rfl,W1.ins,T.cl,T.nSp,rfl,_,rfl,wl,C,d.dx,_,_,rfl,W1.ins,T.cl,T.nWe,rfl,d.sp,d.we,_,_,rfl,SqL.of W1.sp,SqL.of W1.we,λD hD=>?_⟩;refine ee (n:=a.people.length) (λi H'=>Kp H1 H'/\H' D=some (.lst (((a.people.take i).filter λp=>p.at_==a.place b l+1).map λp=>V.int (p.weight:Nat))))
    ⟨Kp.laid hD,ao⟩ (λj H' hj ⟨kk,_⟩=>⟨_,_,d.svs[j]'(by omega),(a.people.map λp=>V.int (p.weight:Nat))[j]'(by rw[List.length_map];exact hj),SqL.of (W1.kp kk).sp,SqL.of (W1.kp kk).we,aZ _,aZ _⟩) (λH' ⟨kk,_⟩=>⟨_,_,SqL.of (W1.kp kk).sp,SqL.of (W1.kp kk).we,.inl (by omega)⟩) ?_ ?_
   ·rintro j x H6 H7 hj ⟨kk,hD2⟩ ⟨Tt,x1',y1,rfl,hTt,rfl,hx1,hy1⟩;have hx:=hx1 _ (SqL.of (W1.kp kk).sp);have hy:=hy1 _ (SqL.of (W1.kp kk).we);obtain⟨pj,hpj⟩:∃pj,a.people[j]?=some pj:=⟨_,aZ hj⟩;rw[bY,hpj]at hy;have hy':V.int (pj.weight:Nat)=y1:=b9 hy;subst hy';have mx:br H6 (nk a pj.at_) x1':=by
     obtain⟨z,hz1,hz2⟩:=dX (W1.kp kk).spk (i:=j) (a:=nk a pj.at_) (by rw[bY,hpj];rfl);rw[hx]at hz1;cases hz1;exact hz2
    have kT:=Kp.laid (o:=.tup [x1',V.int (pj.weight:Nat)]) hTt;have mx7:=mx.mono λb xs q=>kT _ _ q;have ek:((a.people.take (j+1)).filter λp=>p.at_==a.place b l+1)=((a.people.take j).filter λp=>p.at_==a.place b l+1)++(if(pj.at_==a.place b l+1)=true then[pj]else[]):=by
     rw[jR,hpj,iA,ll,dA,iC]
    have hnk:=lT q1 (Wa.pat pj (cE hpj));refine⟨Tt,_,rfl,bo.of ao,rfl,_,_,rfl,_,_,rfl,rfl,rfl,?_⟩;refine⟨_,rfl,_,rfl,nk a pj.at_,key b l,iJ _ _,rh _ _,mx7,⟨t,rfl,kT _ _ (kk _ _ hq)⟩,_,rfl,?_⟩;by_cases q0:pj.at_=a.place b l+1
    ·rw[aO (hnk.mpr q0)];rw[if_pos (by simp[q0])]at ek;refine⟨_,rfl,_,kT _ _ hD2,?_,λc o qc=>?_,?_⟩
     ·rw[List.length_map];exact bc (fX ..) (bc (jj ..) (bc Wa.plen (by decide)))
     ·rw[ag (ay qc hD)];exact kT _ _ (kk _ _ qc)
     ·rw[ao,ek,cf];rfl
    ·rw[ba (λz=>q0 (hnk.mp z))];rw[if_neg (by simp[q0]),List.append_nil]at ek;refine⟨Kp.trans kk kT,?_⟩;rw[ek];exact kT _ _ hD2
   ·rintro H6 ⟨kk,hD2⟩;rw[gp]at hD2;have W6:=W1.kp kk;have hq6:=kk _ _ hq;have x6:=x1.trans (aj.all (Pt:=Pt) kk);have eL:((a.people.filter λp=>p.at_==a.place b l+1).map λp=>V.int (p.weight:Nat))=(((a.people.filter λp=>p.at_==a.place b l+1).map Person.weight).map λn=>((n:Nat):Int)).map V.int:=by
     rw[List.map_map,List.map_map];rfl
    rw[eL]at hD2;refine⟨D,_,rfl,SqL.of hD2,?_⟩;refine⟨_,rfl,_,rfl,wl,C,d.dx,_,_,rfl,W6.ins,T.cl,T.nLa,rfl,d.la,d.kl,key b l,rfl,.inl W6.la,⟨t,rfl,hq6⟩,_,rfl,?_⟩;rw[gC W.ok];refine wR ?_;have hvf:aE d.kf (key b l)=some (.int (a.frame b l).kind):=by rw[W.ok.fv,if_pos q1]
    refine⟨_,rfl,wl,C,d.dx,_,_,rfl,W6.ins,T.cl,T.nFr,rfl,_,rfl,d.fr,d.kf,key b l,_,rfl,.inl W6.fr,⟨t,rfl,hq6⟩,hvf,?_⟩;refine⟨_,rfl,_,rfl,wl,C,d.dx,_,_,rfl,W6.ins,T.cl,T.nTh,rfl,d.th,rfl,⟨_,.inl W6.th⟩,_,rfl,d.kh,key b l,.inl W6.th,⟨t,rfl,hq6⟩,?_⟩;refine⟨_,rfl,_,rfl,(by show 5<=sizeLine;decide),λq hq=>dm k' hT x6 ?_ hq⟩;rw[vE,if_neg (by rw[q1];decide),W.ok.hv,lY];rfl
theorem kJ:bj ["wall","numbers","loads","heaviest","first","place"] ["wall","numbers"] (aM sMost):=⟨rfl,rfl,rfl,by decide +kernel,rfl,by decide +kernel,by decide +kernel⟩
theorem zS{f fL fB C Pt:Addr}{fd fdL fdB:FuncData}(F:a8 K "most" "most" sMost f fd)(T:bW K mg C)(TC:TxtC mg)(hlen:mg "len"=none)(hmax:mg "max"=none)
  (GL:ak P w K mg base au 5 fL fdL ["wall"] (ly K C Pt)) (kL:PySem.W.keepIn K (.ref fL)=true) (bL:aN K fdL ["wall"] []) (mL:mg "frame_loads"=some (.ref fL))
  (GB:ak P w K mg base au 4 fB fdB ["places"] (oj Pt)) (kB:PySem.W.keepIn K (.ref fB)=true) (bB:aN K fdB ["places"] []) (mB:mg "by_levels"=some (.ref fB)):
  ak P w K mg base au 6 f fd ["wall","numbers"] (d6 K C Pt 0 λ_=>.most):=by
 obtain⟨tnt,hnt⟩:=TC.noneThere;refine F.ok kJ (λvs H Q E h=>?_) (λcdv A outer s H vs Q E hr h=>?_)
 ·obtain⟨wl,nl,a,d,xs,rfl,_⟩:=h;rfl
 ·obtain⟨wl,nl,a,d,xs,rfl,hxl,Wa,W,hnl,hT,k⟩:=h;have hu:=cP hr;refine⟨_,ai (aV (aR gX (cx i7 rfl hlen g0 (ab (ax (pv 0) rfl) af)) aq (b7 _)) (aw (aF (cu (ab (aP (v:=.int (-6)) rfl hnt ⟨tnt,rfl⟩) af)))) aY)
   (ai (aS (i:=2) kJ.nd rfl (Or.inr rfl) (bg GL hr rfl mL kL bL .nil aU (ab (pv 0) af)))
   (ai (aS (i:=3) kJ.nd rfl (Or.inr rfl) (cx (Cn rfl) rfl hmax boot_max (ab (ra (pv 2)) af)))
   (ai (aS (i:=4) kJ.nd rfl (Or.inl rfl) (aL bf (eG (own:=[("place",5)]) rfl kJ.nd (iu (bg (GB.mono (k:=5) (by decide)) hr rfl mB kB bB .nil aU (ab (pv 2) af))) (eB rfl) (λs H C cl fp=>cN (i:=5) kJ.nd rfl (Or.inl rfl))
    (λs H C' cl fp=>hU (aR gX (gb hu (pv 2) (pv 5) (λ_ _=>rfl)) (pv 3) (b7 _))) (λs H C' cl fp=>pv 5)) aq (λ_ _=>rfl)))
   (aw (aF (cu (ab (pv 3) (ab (aL cR (pv 4) aq (λ_ _=>rfl)) (ab (aL cR (pv 4) aq (λ_ _=>rfl)) af))))))))),?_⟩
  refine⟨_,rfl,wl,C,d.dx,_,_,rfl,W.ins,T.cl,T.nFr,rfl,d.fr,_,rfl,.inl W.fr,rfl,_,rfl,?_⟩;have hal:=oQ Wa.sf W.ok;refine bZ (λe=>?_) (λe=>?_)
  ·have h0:a.all=[]:=by
    have:=ck e;injection this with this;exact yU.mp (by omega)
   exact⟨(by show 1<=sizeLine;decide),λq hq=>dm k hT aj.refl (by rw[yj h0];rfl) hq⟩
  have h0:a.all≠[]:=λz=>e (aO (by rw[hal,z];rfl));obtain⟨c,hdm,hhead,hbig⟩:=vj h0;have hc:=List.mem_of_mem_head? hhead;have hcall:=(cV.mp hc).1;have htc:=(fJ.mp hcall).2;refine⟨_,rfl,wl,a,d,rfl,Wa.sf,W.r,W.fr,hT,λH1 p kv x1 hp ep V0=>?_⟩;have T1:=x1.tab hT;refine⟨_,rfl,p,kv,rfl,.inl ep,λv hv=>?_⟩;have k2:Kp H1 (upd H1 v (d8 v p)):=Kp.laid hv;have hv2:upd H1 v (d8 v p) v=some (d8 v p):=ao;generalize upd H1 v (d8 v p)=H2 at k2 hv2⊢;have x2:=x1.trans (aj.all (Pt:=Pt) k2);have T2:=x2.tab hT;have ep2:=k2 _ _ ep;have hvals:kv.map (·.2)=(kv.map λq=>gU q.2).map V.int:=by
   rw[List.map_map];refine mU λq hq=>?_;obtain⟨b,l,_,_,e2⟩:=V0.at_ W.ok hq;show q.2=V.int (gU q.2);rw[e2];rfl
  have hmem:((a.load (a.bay c) (a.level c):Nat):Int)∈kv.map λq=>gU q.2:=bh.mpr ⟨_,V0.has htc,rfl⟩;refine⟨v,p,kv,kv.map (λq:MK×V=>gU q.2),rfl,hv2,.inl ep2,hvals,List.length_pos_of_mem hmem,λm hm hmx=>?_⟩;have hme:m=((a.load (a.bay c) (a.level c):Nat):Int):=by
   have h1:=hmx _ hmem;obtain⟨q,hq,e2⟩:=bh.mp hm;obtain⟨b,l,_,ht,e3⟩:=V0.at_ W.ok hq;have h2:=hbig _ (jl ht);rw[fe (az ht).1,eQ (az ht).1]at h2;have e4:gU q.2=((a.load b l:Nat):Int):=by rw[e3];rfl
   omega
  subst hme;have hkl:=V0.len;have h48:=W.ok.f.len Wa.sf;have hknd:(kv.map (·.1)).Nodup:=by rw[V0.keys];exact W.ok.f.nd
  refine⟨_,rfl,p,kv,rfl,.inl ep2,T2,by omega,λq hq=>?_,hknd,λH3 l ks' ys hl el pm pw mk fr3 T3=>?_⟩
  ·obtain⟨b,l,e1,ht,_⟩:=V0.at_ W.ok hq;have h1:=(az ht).1;have h8:=Wa.b8;exact⟨b,l,e1,by omega,by omega⟩
  have x3:aj Pt H2 H3:=⟨fr3,λ_=>T3⟩;obtain⟨tps,epT⟩:=eU T2;have ep3:=fr3 _ _ ep2 (aC ep2 epT (λz=>nomatch z));have hks:ks'=a.all.map λc=>key (a.bay c) (a.level c):=by
   have:=vB (p:=λ_=>true) Wa.sf (ks:=kv.map (·.1)) (λj=>?_) hknd pm pw
   ·rw[yW.mpr (λ_ _=>rfl)]at this;exact this
   ·rw[V0.keys,bh];constructor
    ·rintro⟨q,hq,rfl⟩;obtain⟨b,l,e1,ht⟩:=W.ok.f.at_ q hq;exact⟨b,l,e1,ht,rfl⟩
    ·rintro⟨b,l,rfl,ht,_⟩;have hv:=W.ok.fv b l;rw[if_pos ht]at hv;exact⟨_,jB _ hv,rfl⟩
  subst hks;have hyl:ys.length=a.all.length:=by
   have:=cA mk;rw[List.length_map]at this;exact this.symm
  refine⟨l,rfl,⟨_,SqL.of el⟩,λD hD=>?_⟩;refine ee (n:=a.all.length) (λi H'=>Kp H3 H'/\∃zs,H' D=some (.lst zs)/\bw H' (((a.all.take i).filter λx=>decide (a.load (a.bay x) (a.level x)=a.load (a.bay c) (a.level c))).map λc=>key (a.bay c) (a.level c)) zs)
   ⟨Kp.laid hD,[],ao,.nil⟩ (λi H' hi ⟨kk,_⟩=>⟨_,ys[i]'(by omega),SqL.of (kk _ _ el),aZ _⟩) (λH' ⟨kk,_⟩=>⟨_,SqL.of (kk _ _ el),by omega⟩) ?_ ?_
  ·rintro i x H6 H7 hi ⟨kk,zs,hD4,mk4⟩ ⟨rfl,hx2⟩;have hx:=hx2 _ (SqL.of (kk _ _ el));obtain⟨u,hu1⟩:∃u,a.all[i]?=some u:=⟨_,aZ hi⟩;have htu:=(fJ.mp (cE hu1)).2;have mj:br H7 (key (a.bay u) (a.level u)) x:=by
    obtain⟨z,hz1,hz2⟩:=dX mk (i:=i) (a:=key (a.bay u) (a.level u)) (by rw[bY,hu1];rfl);rw[hx]at hz1;cases hz1;exact hz2.mono λb xs q=>kk _ _ q
   have ek:((a.all.take (i+1)).filter λx=>decide (a.load (a.bay x) (a.level x)=a.load (a.bay c) (a.level c)))=((a.all.take i).filter λx=>decide (a.load (a.bay x) (a.level x)=a.load (a.bay c) (a.level c)))++(if decide (a.load (a.bay u) (a.level u)=a.load (a.bay c) (a.level c))=true then[u]else[]):=by
    rw[jR,hu1,iA,ll,dA,iC]
   refine⟨rfl,?_⟩;refine⟨_,rfl,_,rfl,p,kv,key (a.bay u) (a.level u),_,rfl,.inl (kk _ _ ep3),mj,V0.val _ _ htu,_,rfl,rfl,_,rfl,?_⟩;by_cases q0:a.load (a.bay u) (a.level u)=a.load (a.bay c) (a.level c)
   ·rw[aO (by rw[q0])];rw[if_pos (aO q0)]at ek;refine⟨_,rfl,zs,hD4,?_,λc o qc=>?_,zs++[x],ao,?_⟩
    ·rw[←cA mk4,List.length_map];exact bc (fX ..) (bc (jj ..) (bc (by rw[←hal];exact h48) (by decide)))
    ·rw[ag (ay qc hD)];exact kk _ _ qc
    ·rw[ek,cf];exact gv hD4 (eY mk4 mj)
   ·rw[ba (λz=>q0 (by injection z with z;omega))];rw[if_neg (λz=>q0 (ck z)),List.append_nil]at ek;refine⟨kk,zs,hD4,?_⟩;rw[ek];exact mk4
  ·rintro H4 ⟨kk,zs,hD4,mk4⟩;rw[gp]at mk4;obtain⟨y,hy1,hy2⟩:=dX mk4 (i:=0) (a:=key (a.bay c) (a.level c)) (by rw[bY,←List.head?_eq_getElem?,hhead];rfl);obtain⟨q,rfl,hq⟩:=gH hy2;have x4:=(x2.trans x3).trans (aj.all (Pt:=Pt) kk);refine⟨D,zs,0,_,rfl,rfl,SqL.of hD4,aK (j:=0) hy1,?_⟩;refine⟨_,rfl,_,rfl,q,_,0,_,rfl,rfl,bo.of hq,aK (j:=0) rfl,_,rfl,q,_,1,_,rfl,rfl,bo.of hq,aK (j:=1) rfl,(by show 3<=sizeLine;decide),λr hr=>dm k hT x4 ?_ hr⟩;rw[hdm];rfl
end
abbrev sChange:Stmt:=bq 56
abbrev sTell:Stmt:=bq 74
def wO(K:PySem.W.Frag)(C Pt:Addr):Sp:=λvs H Q E=>∃wl nl,∃q:Nat,vs=[.ref wl,.int (q:Nat),.ref nl]/\1<=q/\q<=13/\eF K C Pt (cnt q) (cb q) [.ref wl,.ref nl] H Q E
def xg(K:PySem.W.Frag)(C Pt:Addr):Sp:=λvs H Q E=>∃wl nl,∃q:Nat,vs=[.ref wl,.int (q:Nat),.ref nl]/\14<=q/\q<=27/\d6 K C Pt (cnt q) (cb q) [.ref wl,.ref nl] H Q E
section
variable{P:Program}{w:World}{K:PySem.W.Frag}{mg:Str->Option Value}{base:Heap}
theorem DC:bj ["wall","number","numbers"] ["wall","number","numbers"] (aM sChange):=⟨rfl,rfl,rfl,by decide +kernel,rfl,by decide +kernel,by decide +kernel⟩
theorem Gf{f aD C Pt:Addr}{fd:FuncData}{D:List (Int×Addr)}(F:a8 K "change" "change" sChange f fd)(hD:i0 K aD D=true)(mD:mg "CHANGES"=some (.ref aD))(hq:∀q:Nat,1<=q->q<=13->∃g,((q:Int),g)∈D)
  (G:∀j g,(j,g)∈D->∃fd,ak P w K mg base au 8 g fd ["wall","numbers"] (eF K C Pt (cnt j.toNat) (cb j.toNat))/\aN K fd ["wall","numbers"] []/\PySem.W.keepIn K (.ref g)=true):
  ak P w K mg base au 9 f fd ["wall","number","numbers"] (wO K C Pt):=by
 refine F.ok DC (λvs H Q E h=>?_) (λcdv A outer s H vs Q E hr h=>?_)
 ·obtain⟨wl,nl,q,rfl,_⟩:=h;rfl
 ·obtain⟨wl,nl,q,rfl,h1,h13,k⟩:=h;obtain⟨g,hg⟩:=hq q h1 h13;refine⟨_,aw (aF (ye (spI:=λj=>eF K C Pt (cnt j.toNat) (cb j.toNat)) hD rfl mD G hr aU (pv 1) (λ_ _=>rfl) (ab (pv 0) (ab (pv 2) af)))),?_⟩;exact⟨_,rfl,q,g,rfl,hg,_,rfl,_,rfl,k⟩
theorem AJ:bj ["wall","number","numbers"] ["wall","number","numbers"] (aM sTell):=⟨rfl,rfl,rfl,by decide +kernel,rfl,by decide +kernel,by decide +kernel⟩
theorem Ej{f aD C Pt:Addr}{fd:FuncData}{D:List (Int×Addr)}(F:a8 K "tell" "tell" sTell f fd)(hD:i0 K aD D=true)(mD:mg "TELLS"=some (.ref aD))(hq:∀q:Nat,14<=q->q<=27->∃g,((q:Int),g)∈D)
  (G:∀j g,(j,g)∈D->∃fd,ak P w K mg base au 8 g fd ["wall","numbers"] (d6 K C Pt (cnt j.toNat) (cb j.toNat))/\aN K fd ["wall","numbers"] []/\PySem.W.keepIn K (.ref g)=true):
  ak P w K mg base au 9 f fd ["wall","number","numbers"] (xg K C Pt):=by
 refine F.ok AJ (λvs H Q E h=>?_) (λcdv A outer s H vs Q E hr h=>?_)
 ·obtain⟨wl,nl,q,rfl,_⟩:=h;rfl
 ·obtain⟨wl,nl,q,rfl,h1,h13,k⟩:=h;obtain⟨g,hg⟩:=hq q h1 h13;refine⟨_,aw (aF (ye (spI:=λj=>d6 K C Pt (cnt j.toNat) (cb j.toNat)) hD rfl mD G hr aU (pv 1) (λ_ _=>rfl) (ab (pv 0) (ab (pv 2) af)))),?_⟩;exact⟨_,rfl,q,g,rfl,hg,_,rfl,_,rfl,k⟩
end
abbrev sScInit:Stmt:=l9 (bq 81) 0
abbrev sAnswer:Stmt:=l9 (bq 81) 1
abbrev sTry:Stmt:=l9 (bq 81) 2
abbrev sBegin:Stmt:=l9 (bq 81) 3
def dF(C2 C:Addr)(Fb:Addr->Prop)(H:Hp)(sc dx:Addr):Option Abs->Prop
 |none=>H sc=some (.ins C2 dx [("wall",.non)])
 |some a=>∃wl d,H sc=some (.ins C2 dx [("wall",.ref wl)])/\Wf a/\aQ C H wl a d/\∀c,Fb c->¬dD wl d c
structure dY(Pt sc:Addr)(H H':Hp):Prop where
 keep:∀b o,H b=some o->b≠Pt->b≠sc->H' b=some o
 tab:bx H Pt bu bz->bx H' Pt bu bz
theorem dY.of{Pt sc:Addr}{H H':Hp}(x:aj Pt H H'):dY Pt sc H H':=⟨λb o q n _=>x.keep b o q n,x.tab⟩
theorem dY.trans{Pt sc:Addr}{H H1 H2:Hp}(x:dY Pt sc H H1)(y:dY Pt sc H1 H2):dY Pt sc H H2:=⟨λb o q n m=>y.keep b o (x.keep b o q n m) n m,λt=>y.tab (x.tab t)⟩
theorem dY.put{Pt sc C2 dx:Addr}{H:Hp}{fs fs':List (Str×V)}(h:H sc=some (.ins C2 dx fs)):dY Pt sc H (upd H sc (.ins C2 dx fs')):=
 ⟨λb o q _ m=>by rw[ag m];exact q,λt=>iG t h (λ_ z=>nomatch z) (λ_ _ z=>nomatch z)⟩
theorem dF.at_{C2 C:Addr}{Fb:Addr->Prop}{H:Hp}{sc dx:Addr}{s:Option Abs}(h:dF C2 C Fb H sc dx s):∃v,H sc=some (.ins C2 dx [("wall",v)]):=by
 cases s with
 |none=>exact⟨_,h⟩
 |some a=>
  obtain⟨wl,d,h1,_⟩:=h;exact⟨_,h1⟩
theorem dF.ext{C2 C Pt:Addr}{Fb:Addr->Prop}{H H':Hp}{sc dx:Addr}{s:Option Abs}(h:dF C2 C Fb H sc dx s)(x:aj Pt H H')(t:bx H Pt bu bz):dF C2 C Fb H' sc dx s:=by
 obtain⟨ps,e⟩:=eU t;cases s with
 |none=>exact x.keep _ _ h (aC h e (λz=>nomatch z))
 |some a=>
  obtain⟨wl,d,h1,Wa,W,hf⟩:=h;exact⟨wl,d,x.keep _ _ h1 (aC h1 e (λz=>nomatch z)),Wa,W.ext x t,hf⟩
theorem aQ.scaf{C2 C:Addr}{H:Hp}{sc dx wl:Addr}{a:Abs}{d:WD}{v v':V}(W:aQ C H wl a d)(h:H sc=some (.ins C2 dx [("wall",v)])):aQ C (upd H sc (.ins C2 dx [("wall",v')])) wl a d:=by
 have st:∀{c:Addr} {o:HO},H c=some o->o≠.ins C2 dx [("wall",v)]->upd H sc (.ins C2 dx [("wall",v')]) c=some o:=λ{c o} q ne=>by rw[ag (aC q h ne)];exact q
 refine⟨st W.ins (λz=>?_),st W.g (λz=>nomatch z),st W.fr (λz=>nomatch z),st W.ti (λz=>nomatch z),st W.th (λz=>nomatch z),st W.la (λz=>nomatch z),st W.we (λz=>nomatch z),st W.sp (λz=>nomatch z),W.spk.mono (λb xs q=>st q (λz=>nomatch z)),W.ok,W.nd,W.nl⟩;injection z with _ _ z;unfold rT at z;injection z with _ z;cases z
structure jr(K:PySem.W.Frag)(mg:Str->Option Value)(C2:Addr):Prop where
 cl:gS K C2
 nW:dR K C2 "wall"
 notBegun:∃t,mg "NOT_BEGUN"=some (.int (-11) t)
 begin_:∃t,mg "BEGIN"=some (.int 0 t)
 last:∃t,mg "LAST_CHANGE"=some (.int 13 t)
def fZ:List Nat:=[8,6,100,500,4]
def fP(n M:Nat):Bool:=decide ((1:Int)<=(n:Nat))&&decide (((n:Nat):Int)<=(M:Nat))
def hZ(b l w m f:Nat):Prop:=b=0∨8<b∨l=0∨6<l∨w=0∨100<w∨m=0∨500<m∨f=0∨4<f
theorem wo(b l w m f:Nat):((([b,l,w,m,f].zip fZ).map λp=>fP p.1 p.2).all id)=true↔¬hZ b l w m f:=by
 unfold fZ fP hZ;simp only[List.zip_cons_cons,List.zip_nil_left,aW,List.map_nil,kR,List.all_nil,id,dH,sZ,Bool.and_true];omega
theorem uX{b l w m f:Nat}(h:hZ b l w m f)(a:Abs):does a (.begin_ b l w m f)=(a,no (-22)):=if_pos h
theorem vV{b l w m f:Nat}(h:¬hZ b l w m f)(a:Abs):does a (.begin_ b l w m f)=(begun b l w m f,no 0):=if_neg h
theorem sF{s:Option Abs}{b l w m f:Nat}(h:hZ b l w m f):Su56.step s (.begin_ b l w m f)=(s,no (-22)):=by
 unfold Su56.step;cases s with
 |none=>
  simp only[uX h];rfl
 |some a=>
  simp only[uX h]
theorem qr{s:Option Abs}{b l w m f:Nat}(h:¬hZ b l w m f):Su56.step s (.begin_ b l w m f)=(some (begun b l w m f),no 0):=by
 unfold Su56.step;cases s with
 |none=>
  simp only[vV h];rfl
 |some a=>
  simp only[vV h]
def wu(C2:Addr):Sp:=λvs H Q _=>∃sc dx,vs=[.ref sc]/\H sc=some (.ins C2 dx [])/\Q .non (upd H sc (.ins C2 dx [("wall",.non)]))
def vR(C2 C Pt:Addr):Sp:=λvs H Q _=>∃sc nl dx s,∃Fb:Addr->Prop,∃xs:List Nat,(∀c,Fb c->H c≠none)/\vs=[.ref sc,.ref nl]/\xs.length=5/\dF C2 C Fb H sc dx s/\H nl=some (.lst (xs.map λx=>V.int (x:Nat)))/\bx H Pt bu bz/\
 ∀H' z,dY Pt sc H H'->dF C2 C Fb H' sc dx (Su56.step s (cb 0 xs)).1->z=(Su56.step s (cb 0 xs)).2.value->Q (.int z) H'
def wD(C2 C Pt:Addr):Sp:=λvs H Q _=>∃sc nl dx a,∃Fb:Addr->Prop,∃(q:Nat) (xs:List Nat),(∀c,Fb c->H c≠none)/\vs=[.ref sc,.int (q:Nat),.ref nl]/\1<=q/\q<=13/\xs.length=Wl.cnt q/\dF C2 C Fb H sc dx (some a)/\H nl=some (.lst (xs.map λx=>V.int (x:Nat)))/\bx H Pt bu bz/\
 ∀H' z,dY Pt sc H H'->dF C2 C Fb H' sc dx (some (does a (cb q xs)).1)->z=(does a (cb q xs)).2.value->Q (.int z) H'
section
variable{P:Program}{w:World}{K:PySem.W.Frag}{mg:Str->Option Value}{base:Heap}
theorem Bn:bj ["self"] ["self"] (aM sScInit):=⟨rfl,rfl,rfl,by decide +kernel,rfl,by decide +kernel,by decide +kernel⟩
theorem C3{f C2:Addr}{fd:FuncData}(F:a8 K "__init__" "Scaffold.__init__" sScInit f fd)(T2:jr K mg C2):ak P w K mg base au 1 f fd ["self"] (wu C2):=by
 refine F.ok Bn (λvs H Q E h=>?_) (λcdv A outer s H vs Q E hr h=>?_)
 ·obtain⟨sc,dx,rfl,_⟩:=h;rfl
 ·obtain⟨sc,dx,rfl,hs,k⟩:=h;refine⟨_,aw (dy (pv 0) xF rfl),?_⟩;exact⟨_,rfl,sc,C2,dx,_,rfl,hs,T2.cl,T2.nW,(by show 0<1000;decide),k⟩
theorem px:bj ["self","numbers","given","limit"] ["self","numbers"] (aM sBegin):=⟨rfl,rfl,rfl,by decide +kernel,rfl,by decide +kernel,by decide +kernel⟩
theorem zX{f fI aB C2 C Pt:Addr}{fd fdI:FuncData}(F:a8 K "begin" "Scaffold.begin" sBegin f fd)(T2:jr K mg C2)(TC:TxtC mg)(hall:mg "all"=none)(hzip:mg "zip"=none)
  (hB:∀H,bo K H aB (fZ.map λn=>V.int (n:Nat))) (mB:mg "BEGIN_LIMITS"=some (.ref aB)) (M:Mk K C fI) (mC:mg "Wall"=some (.ref C))
  (GI:ak P w K mg base au 1 fI fdI ["self","bays","levels","weight","most","free"] (sx C)) (bI:aN K fdI ["self","bays","levels","weight","most","free"] []):
  ak P w K mg base au 3 f fd ["self","numbers"] (vR C2 C Pt):=by
 obtain⟨too,hoo⟩:=TC.outOf;refine F.ok px (λvs H Q E h=>?_) (λcdv A outer s H vs Q E hr h=>?_)
 ·obtain⟨sc,nl,dx,st,Fb,xs,_,rfl,_⟩:=h;rfl
 ·obtain⟨sc,nl,dx,st,Fb,xs,hFb,rfl,hxl,S0,hnl,hT,k⟩:=h;obtain⟨b,l,w,m,f,rfl⟩:∃b l w m f,xs=[b,l,w,m,f]:=by
   match xs,hxl with
   | [b,l,w,m,f],_=>exact⟨b,l,w,m,f,rfl⟩
  refine⟨_,ai (aV (jm (eO (cx (um rfl) rfl hall boot_all (ab (eG (own:=[("given",2),("limit",3)]) rfl px.nd (Fn rfl hzip (ab (pv 1) (ab (aP (v:=.ref aB) rfl mB rfl) af))) (eB rfl)
    (λs H C cl fp=>om (K:=K) (n:=2) rfl rfl (gT (cN (i:=2) px.nd rfl (Or.inl rfl)) (gT (cN (i:=3) px.nd rfl (Or.inl rfl)) lH))) (λs H C cl fp=>i3)
    (λs H C' cl fp=>Ao il il aq (pv 2) (pv 3))) af)))) (aw (aF (aP (v:=.int (-22)) rfl hoo ⟨too,rfl⟩))) aY)
   (ai (dy (pv 0) (vp M GI hr rfl mC bI .nil aU (ab (aL bf (pv 1) aq (λ_ _=>rfl)) (ab (aL bf (pv 1) aq (λ_ _=>rfl)) (ab (aL bf (pv 1) aq (λ_ _=>rfl)) (ab (aL bf (pv 1) aq (λ_ _=>rfl)) (ab (aL bf (pv 1) aq (λ_ _=>rfl)) af)))))) rfl)
   (aw (aF aq))),?_⟩
  have hsq:∀{H'},Kp H H'->SqL K H' nl ([b,l,w,m,f].map λx=>V.int (x:Nat)):=λ{H'} q=>SqL.of (q _ _ hnl);refine⟨_,rfl,nl,aB,_,_,rfl,SqL.of hnl,hB H,λD hD=>?_⟩;refine ee (n:=5) (λi H'=>Kp H H'/\H' D=some (.lst (((([b,l,w,m,f].zip fZ).map λp=>fP p.1 p.2).take i).map V.bl)))
   ⟨Kp.laid hD,ao⟩ (λi H' hi ⟨kk,_⟩=>⟨_,_,([b,l,w,m,f].map λx=>V.int (x:Nat))[i]'hi,(fZ.map λn=>V.int (n:Nat))[i]'hi,hsq kk,hB H',aZ _,aZ _⟩) (λH' ⟨kk,_⟩=>⟨_,_,hsq kk,hB H',.inl (aJ 5)⟩) ?_ ?_
  ·rintro i x H6 H7 hi ⟨kk,hD2⟩ ⟨Tt,x1,y1,rfl,hTt,rfl,hx1,hy1⟩;have hx:=hx1 _ (hsq kk);have hy:=hy1 _ (hB H6);obtain⟨n,hn⟩:∃n,[b,l,w,m,f][i]?=some n:=⟨_,aZ hi⟩;obtain⟨M',hM⟩:∃n,fZ[i]?=some n:=⟨_,aZ (show i<fZ.length from hi)⟩;rw[bY,hn]at hx;rw[bY,hM]at hy;obtain rfl:V.int (n:Nat)=x1:=b9 hx;obtain rfl:V.int (M':Nat)=y1:=b9 hy;have kT:=Kp.laid (o:=.tup [V.int (n:Nat),V.int (M':Nat)]) hTt;have hb:(([b,l,w,m,f].zip fZ).map λp=>fP p.1 p.2)[i]?=some (fP n M'):=by
    rw[bY,zi (z:=(n,M'))|>.mpr ⟨hn,hM⟩];rfl
   have fin:∀bb:Bool,bb=fP n M'->∃acc,upd H6 Tt (.tup [V.int (n:Nat),V.int (M':Nat)]) D=some (.lst acc)/\acc.length<sizeLine/\(Kp H (upd (upd H6 Tt (.tup [V.int (n:Nat),V.int (M':Nat)])) D (.lst (acc++[V.bl bb])))/\upd (upd H6 Tt (.tup [V.int (n:Nat),V.int (M':Nat)])) D (.lst (acc++[V.bl bb])) D=some (.lst (((([b,l,w,m,f].zip fZ).map λp=>fP p.1 p.2).take (i+1)).map V.bl))):=by
    intro bb hbb;refine⟨_,kT _ _ hD2,?_,λc o qc=>?_,?_⟩
    ·rw[List.length_map];exact bc (jj ..) (by show 5<sizeLine;decide)
    ·rw[ag (ay qc hD)];exact kT _ _ (kk _ _ qc)
    ·rw[ao,jR,hb,cf,hbb];rfl
   refine⟨Tt,_,rfl,bo.of ao,rfl,_,_,rfl,_,_,rfl,rfl,rfl,?_⟩;refine⟨_,rfl,_,_,rfl,rfl,_,rfl,?_⟩;by_cases e1:(1:Int)<=(n:Nat)
   ·rw[if_pos (aO e1)];refine⟨_,rfl,_,_,rfl,rfl,fin _ ?_⟩;unfold fP;rw[aO e1,zo]
   ·rw[if_neg (by rw[ba e1];decide)];refine fin _ ?_;unfold fP;rw[ba e1,pY]
  ·rintro H6 ⟨kk,hD2⟩;rw[jP (by exact aJ 5)]at hD2;have x6:aj Pt H H6:=aj.all kk;have T6:=x6.tab hT;have S6:=S0.ext x6 hT;refine⟨D,_,rfl,SqL.of hD2,_,rfl,?_⟩;by_cases hb:hZ b l w m f
   ·have e0:((([b,l,w,m,f].zip fZ).map λp=>fP p.1 p.2).all id)=false:=by
     cases q:((([b,l,w,m,f].zip fZ).map λp=>fP p.1 p.2).all id)with
     |false=>rfl
     |true=>exact absurd hb ((wo b l w m f).mp q)
    rw[e0];refine k H6 (-22) (.of x6) ?_ ?_
    ·show dF C2 C Fb H6 sc dx (Su56.step st (.begin_ b l w m f)).1;rw[sF hb];exact S6
    ·show _=(Su56.step st (.begin_ b l w m f)).2.value;rw[sF hb];rfl
   ·rw[(wo b l w m f).mpr hb];refine⟨_,rfl,nl,_,0,_,rfl,rfl,hsq kk,aK (j:=0) rfl,?_⟩;refine⟨_,rfl,nl,_,1,_,rfl,rfl,hsq kk,aK (j:=1) rfl,?_⟩;refine⟨_,rfl,nl,_,2,_,rfl,rfl,hsq kk,aK (j:=2) rfl,?_⟩;refine⟨_,rfl,nl,_,3,_,rfl,rfl,hsq kk,aK (j:=3) rfl,?_⟩;refine⟨_,rfl,nl,_,4,_,rfl,rfl,hsq kk,aK (j:=4) rfl,?_⟩;intro o dx1 ho hdx ndo;refine⟨o,dx1,b,l,w,m,f,rfl,ao,by unfold hZ at hb;omega,λH7 e edx keep1 own1 W1=>⟨rfl,?_⟩⟩;have k7:Kp H6 H7:=λc u q=>keep1 c u (by rw[ag (ay q ho),ag (ay q hdx)];exact q) (ay q ho);obtain⟨v,hsc⟩:=S6.at_;have hsc7:=k7 _ _ hsc;refine⟨_,rfl,sc,C2,dx,_,rfl,hsc7,T2.cl,T2.nW,(by show 1<1000;decide),?_⟩;have W8:=W1.scaf (v':=.ref o) hsc7;refine k _ 0 ((dY.of (x6.trans (aj.all k7))).trans (dY.put hsc7)) ?_ ?_
    ·show dF C2 C Fb _ sc dx (Su56.step st (.begin_ b l w m f)).1;rw[qr hb];refine⟨o,e,ao,xo hb,W8,λc hc hO=>?_⟩;have hn:H6 c=none:=by
      rcases own1 c hO with z|z|z
      ·rw[z];exact ho
      ·rw[z];exact hdx
      ·by_cases y:c=o
       ·rw[y];exact ho
       ·by_cases y2:c=dx1
        ·rw[y2];exact hdx
        ·rw[ag y,ag y2]at z;exact z
     cases q:H c with
     |none=>exact hFb c hc q
     |some u=>rw[kk _ _ q]at hn;cases hn
    ·show _=(Su56.step st (.begin_ b l w m f)).2.value;rw[qr hb];rfl
theorem qM:bj ["self","number","numbers","trial","result"] ["self","number","numbers"] (aM sTry):=⟨rfl,rfl,rfl,by decide +kernel,rfl,by decide +kernel,by decide +kernel⟩
theorem F7{f fC fD C2 C Pt:Addr}{fd fdC fdD:FuncData}(F:a8 K "try_change" "Scaffold.try_change" sTry f fd)(T2:jr K mg C2)
  (GC:ak P w K mg base au 3 fC fdC ["wall"] (j6 K C)) (kC:PySem.W.keepIn K (.ref fC)=true) (bC:aN K fdC ["wall"] []) (mC:mg "copied"=some (.ref fC))
  (GD:ak P w K mg base au 9 fD fdD ["wall","number","numbers"] (wO K C Pt)) (kD:PySem.W.keepIn K (.ref fD)=true) (bD:aN K fdD ["wall","number","numbers"] []) (mD:mg "change"=some (.ref fD)):
  ak P w K mg base au 10 f fd ["self","number","numbers"] (wD C2 C Pt):=by
 refine F.ok qM (λvs H Q E h=>?_) (λcdv A outer s H vs Q E hr h=>?_)
 ·obtain⟨sc,nl,dx,a,Fb,q,xs,_,rfl,_⟩:=h;rfl
 ·obtain⟨sc,nl,dx,a,Fb,q,xs,hFb,rfl,h1,h13,hxl,⟨wl,d,hsc,Wa,W,hf⟩,hnl,hT,k⟩:=h;refine⟨_,ai (aS (i:=3) qM.nd rfl (Or.inl rfl) (bg (GC.mono (k:=9) (by decide)) hr rfl mC kC bC .nil aU (ab (ax (pv 0) rfl) af)))
   (ai (aS (i:=4) qM.nd rfl (Or.inl rfl) (bg GD hr rfl mD kD bD .nil aU (ab (pv 3) (ab (pv 1) (ab (pv 2) af)))))
   (ai (aV (aR i8 (pv 4) aq (b7 _)) (aw (dy (pv 0) (pv 3) rfl)) aY)
   (aw (aF (pv 4))))),?_⟩
  refine⟨_,rfl,sc,C2,dx,_,_,rfl,hsc,T2.cl,T2.nW,rfl,wl,a,d,rfl,Wa.sf,W.r,λH1 o d1 k1 hown W1=>?_⟩;refine⟨_,rfl,_,rfl,_,rfl,o,nl,q,rfl,h1,h13,o,nl,a,d1,xs,rfl,hxl,Wa,W1,SqL.of (k1 _ _ hnl),(λz=>by rw[hown _ z]at hnl;cases hnl),(aj.all k1).tab hT,λH2 z c2 ez hw=>?_⟩;have x2:aj Pt H H2:=c2.ext k1 hown;have T2':=x2.tab hT;obtain⟨ps,epT⟩:=eU hT;have hsc2:=x2.keep _ _ hsc (aC hsc epT (λz=>nomatch z));refine⟨_,rfl,_,_,rfl,rfl,_,rfl,?_⟩;refine bZ (λe=>?_) (λe=>?_)
  ·have hz:0<=z:=ck e;obtain⟨d2,ho2,W2⟩:=hw hz;refine⟨_,rfl,_,rfl,sc,C2,dx,_,rfl,hsc2,T2.cl,T2.nW,(by show 1<1000;decide),?_⟩;have W3:=W2.scaf (v':=.ref o) hsc2;exact⟨_,rfl,k _ z ((dY.of x2).trans (dY.put hsc2)) ⟨o,d2,ao,Bo Wa _,W3,λc hc hO=>hFb c hc (hown c (ho2 c hO))⟩ ez⟩
  ·have hz:z<0:=by
    have:¬0<=z:=λy=>e (aO y);omega
   have e1:(does a (cb q xs)).1=a:=Ba (by rw[←ez];exact hz);refine⟨_,rfl,k H2 z (.of x2) ?_ ez⟩;rw[e1];exact⟨wl,d,hsc2,Wa,W.ext x2 hT,hf⟩
end
abbrev sAnswers:Stmt:=bq 82
theorem w8(a x:Abs):(a.tries x).2.out=[]:=by
 unfold Abs.tries;split
 ·rfl
 ·split<;>rfl
theorem DT(a:Abs)(b n:Nat):(does a (.soil b n)).2.out=[]:=by
 rw[qL];split
 ·rfl
 ·split<;>rfl
theorem E7(a:Abs)(b l:Nat):(does a (.put b l)).2.out=[]:=by
 rw[me];split
 ·rfl
 ·split
  ·rfl
  ·split
   ·rfl
   ·exact w8 _ _
theorem ER(a:Abs)(b l:Nat):(does a (.span b l)).2.out=[]:=by
 rw[jD];split
 ·rfl
 ·split
  ·rfl
  ·split
   ·rfl
   ·exact w8 _ _
theorem Al(a:Abs)(b l:Nat):(does a (.take b l)).2.out=[]:=by
 rw[lP];split
 ·rfl
 ·split
  ·rfl
  ·split<;>rfl
theorem E5(a:Abs)(b l:Nat):(does a (.tie b l)).2.out=[]:=by
 rw[nP];split
 ·rfl
 ·split<;>rfl
theorem Cc(a:Abs)(b l:Nat):(does a (.untie b l)).2.out=[]:=by
 rw[lS];split
 ·rfl
 ·split
  ·rfl
  ·split<;>rfl
theorem zL(a:Abs)(b l n:Nat):(does a (.load b l n)).2.out=[]:=by
 rw[o9];split
 ·rfl
 ·split
  ·rfl
  ·split<;>rfl
theorem Aw(a:Abs)(b l n:Nat):(does a (.unload b l n)).2.out=[]:=by
 rw[lJ];split
 ·rfl
 ·split
  ·rfl
  ·split<;>rfl
theorem E6(a:Abs)(b l:Nat):(does a (.ladder b l)).2.out=[]:=by
 rw[mm];split
 ·rfl
 ·split
  ·rfl
  ·split<;>rfl
theorem Ce(a:Abs)(b l:Nat):(does a (.noladder b l)).2.out=[]:=by
 rw[pf];split
 ·rfl
 ·split
  ·rfl
  ·split<;>rfl
theorem DU(a:Abs)(w:Nat):(does a (.come w)).2.out=[]:=by
 rw[nJ];split
 ·rfl
 ·split<;>rfl
theorem CW(a:Abs)(p b l:Nat):(does a (.go p b l)).2.out=[]:=by
 rw[kj];split
 ·rfl
 ·split
  ·rfl
  ·split
   ·rfl
   ·split<;>rfl
theorem BF(a:Abs)(p:Nat):(does a (.down p)).2.out=[]:=by
 rw[oq];split
 ·rfl
 ·split<;>rfl
theorem Ep(a:Abs)(xs:List Nat):∀q:Nat,1<=q->q<=13->(does a (cb q xs)).2.out=[]
 |0,h,_=>by omega
 |1,_,_=>DT ..
 |2,_,_=>E7 ..
 |3,_,_=>ER ..
 |4,_,_=>Al ..
 |5,_,_=>E5 ..
 |6,_,_=>Cc ..
 |7,_,_=>zL ..
 |8,_,_=>Aw ..
 |9,_,_=>E6 ..
 |10,_,_=>Ce ..
 |11,_,_=>DU ..
 |12,_,_=>CW ..
 |13,_,_=>BF ..
 |n+14,_,h=>by omega
theorem yi(xs:List Nat):∀q:Nat,1<=q->q<28->Su56.step none (cb q xs)=(none,no (-11))
 |0,h,_=>by omega
 |1,_,_=>rfl
 |2,_,_=>rfl
 |3,_,_=>rfl
 |4,_,_=>rfl
 |5,_,_=>rfl
 |6,_,_=>rfl
 |7,_,_=>rfl
 |8,_,_=>rfl
 |9,_,_=>rfl
 |10,_,_=>rfl
 |11,_,_=>rfl
 |12,_,_=>rfl
 |13,_,_=>rfl
 |14,_,_=>rfl
 |15,_,_=>rfl
 |16,_,_=>rfl
 |17,_,_=>rfl
 |18,_,_=>rfl
 |19,_,_=>rfl
 |20,_,_=>rfl
 |21,_,_=>rfl
 |22,_,_=>rfl
 |23,_,_=>rfl
 |24,_,_=>rfl
 |25,_,_=>rfl
 |26,_,_=>rfl
 |27,_,_=>rfl
 |n+28,_,h=>by omega
theorem Fy(a:Abs)(xs:List Nat):∀q:Nat,14<=q->q<=27->(does a (cb q xs)).1=a
 |0,h,_=>by omega
 |1,h,_=>by omega
 |2,h,_=>by omega
 |3,h,_=>by omega
 |4,h,_=>by omega
 |5,h,_=>by omega
 |6,h,_=>by omega
 |7,h,_=>by omega
 |8,h,_=>by omega
 |9,h,_=>by omega
 |10,h,_=>by omega
 |11,h,_=>by omega
 |12,h,_=>by omega
 |13,h,_=>by omega
 |14,_,_=>eR trivial
 |15,_,_=>eR trivial
 |16,_,_=>eR trivial
 |17,_,_=>eR trivial
 |18,_,_=>eR trivial
 |19,_,_=>eR trivial
 |20,_,_=>eR trivial
 |21,_,_=>eR trivial
 |22,_,_=>eR trivial
 |23,_,_=>eR trivial
 |24,_,_=>eR trivial
 |25,_,_=>eR trivial
 |26,_,_=>eR trivial
 |27,_,_=>eR trivial
 |n+28,_,h=>by omega
theorem wz{r:Ans}(h:r.out=[]):cI r=[V.int r.value]:=by
 unfold cI;rw[h];rfl
theorem dY.free{Pt sc:Addr}{H H':Hp}{o:HO}(x:dY Pt sc H H')(t:bx H Pt bu bz)(hs:H' sc=some o){r:Addr}(h:H' r=none):H r=none:=by
 cases q:H r with
 |none=>rfl
 |some u=>
  exfalso;by_cases z:r=Pt
  ·subst z;obtain⟨ps,e⟩:=eU (x.tab t);rw[e]at h;cases h
  ·by_cases y:r=sc
   ·rw[y,hs]at h;cases h
   ·rw[x.keep r u q z y]at h;cases h
def xi(C2 C Pt:Addr):Sp:=λvs H Q _=>∃sc nl dx s,∃Fb:Addr->Prop,∃(q:Nat) (xs:List Nat),(∀c,Fb c->H c≠none)/\vs=[.ref sc,.int (q:Nat),.ref nl]/\q<28/\xs.length=Wl.cnt q/\dF C2 C Fb H sc dx s/\H nl=some (.lst (xs.map λx=>V.int (x:Nat)))/\bx H Pt bu bz/\
 ∀H' r,dY Pt sc H H'->dF C2 C Fb H' sc dx (Su56.step s (cb q xs)).1->H r=none->H' r=some (.lst (cI (Su56.step s (cb q xs)).2))->Q (.ref r) H'
section
variable{P:Program}{w:World}{K:PySem.W.Frag}{mg:Str->Option Value}{base:Heap}
theorem EZ:bj ["self","number","numbers"] ["self","number","numbers"] (aM sAnswer):=⟨rfl,rfl,rfl,by decide +kernel,rfl,by decide +kernel,by decide +kernel⟩
theorem Cf{f fB fT fL C2 C Pt:Addr}{fd fdB fdT fdL:FuncData}(F:a8 K "answer" "Scaffold.answer" sAnswer f fd)(T2:jr K mg C2)
  (GB:ak P w K mg base au 3 fB fdB ["self","numbers"] (vR C2 C Pt)) (bB:aN K fdB ["self","numbers"] []) (mB:jX K C2 "begin" fB)
  (GT:ak P w K mg base au 10 fT fdT ["self","number","numbers"] (wD C2 C Pt)) (bT:aN K fdT ["self","number","numbers"] []) (mT:jX K C2 "try_change" fT)
  (GL:ak P w K mg base au 9 fL fdL ["wall","number","numbers"] (xg K C Pt)) (kL:PySem.W.keepIn K (.ref fL)=true) (bL:aN K fdL ["wall","number","numbers"] []) (mL:mg "tell"=some (.ref fL)):
  ak P w K mg base au 11 f fd ["self","number","numbers"] (xi C2 C Pt):=by
 obtain⟨tnb,hnb⟩:=T2.notBegun;obtain⟨tbg,hbg⟩:=T2.begin_;obtain⟨tls,hls⟩:=T2.last;refine F.ok EZ (λvs H Q E h=>?_) (λcdv A outer s H vs Q E hr h=>?_)
 ·obtain⟨sc,nl,dx,st,Fb,q,xs,_,rfl,_⟩:=h;rfl
 ·obtain⟨sc,nl,dx,st,Fb,q,xs,hFb,rfl,hq,hxl,S0,hnl,hT,k⟩:=h;refine⟨_,ai (aV (aR gX (pv 1) (aP (v:=.int 0) rfl hbg ⟨tbg,rfl⟩) (b7 _)) (aw (aF (cu (ab (rL (pv 0) T2.cl mB (GB.mono (k:=10) (by decide)) hr bB .nil aU (ab (pv 2) af)) af)))) aY)
   (ai (aV (aR A5 (ax (pv 0) rfl) xF (b7 _)) (aw (aF (cu (ab (aP (v:=.int (-11)) rfl hnb ⟨tnb,rfl⟩) af)))) aY)
   (ai (aV (aR il (pv 1) (aP (v:=.int 13) rfl hls ⟨tls,rfl⟩) (b7 _)) (aw (aF (cu (ab (rL (pv 0) T2.cl mT GT hr bT .nil aU (ab (pv 1) (ab (pv 2) af))) af)))) aY)
   (aw (aF (bg (GL.mono (k:=10) (by decide)) hr rfl mL kL bL .nil aU (ab (ax (pv 0) rfl) (ab (pv 1) (ab (pv 2) af)))))))),?_⟩
  have endS:∀{H1:Hp} {z:Int} {s1:Option Abs},dY Pt sc H H1->dF C2 C Fb H1 sc dx s1->s1=(Su56.step st (cb q xs)).1->cI (Su56.step st (cb q xs)).2=[V.int z]->∀r,H1 r=none->Q (.ref r) (upd H1 r (.lst [V.int z])):=λ{H1 z s1} x S1 e1 e2 r hr1=>by
   obtain⟨v,hsc⟩:=S1.at_;refine k _ r (x.trans (.of (aj.laid hr1))) ?_ (x.free hT hsc hr1) (by rw[ao,e2]);rw[←e1];exact S1.ext (aj.laid hr1) (x.tab hT)
  obtain⟨v,hsc⟩:=S0.at_;refine⟨_,rfl,rfl,_,rfl,?_⟩;refine bZ (λe=>?_) (λe=>?_)
  ·have q0:q=0:=by
    have:=ck e;injection this with this;omega
   subst q0;refine⟨_,rfl,sc,dx,_,rfl,hsc,rfl,_,rfl,sc,nl,dx,st,Fb,xs,hFb,rfl,hxl,S0,hnl,hT,λH1 z x1 S1 ez=>?_⟩;refine⟨(by show 1<=sizeLine;decide),λr hr1=>endS x1 S1 rfl ?_ r hr1⟩;obtain⟨b,l,w,m,f,rfl⟩:∃b l w m f,xs=[b,l,w,m,f]:=by
    match xs,(show xs.length=5 from hxl)with
    | [b,l,w,m,f],_=>exact⟨b,l,w,m,f,rfl⟩
   rw[ez];refine wz ?_;show(Su56.step st (.begin_ b l w m f)).2.out=[];by_cases hb:hZ b l w m f
   ·rw[sF hb];rfl
   ·rw[qr hb];rfl
  have q0:1<=q:=by
   by_cases z:q=0
   ·exact absurd (aO (by rw[z];rfl)) e
   ·omega
  cases st with
  |none=>
   have hsc':H sc=some (.ins C2 dx [("wall",.non)]):=S0;refine⟨_,rfl,sc,C2,dx,_,_,rfl,hsc',T2.cl,T2.nW,rfl,rfl,_,rfl,?_⟩;rw[aO rfl];refine⟨(by show 1<=sizeLine;decide),λr hr1=>endS (.of aj.refl) S0 ?_ ?_ r hr1⟩
   ·rw[yi xs q q0 hq]
   ·rw[yi xs q q0 hq];rfl
  |some a=>
   obtain⟨wl,d,hsc',Wa,W,hf⟩:=S0;refine⟨_,rfl,sc,C2,dx,_,_,rfl,hsc',T2.cl,T2.nW,rfl,rfl,_,rfl,?_⟩;rw[ba (λz=>nomatch z)];refine⟨_,rfl,_,_,rfl,rfl,_,rfl,?_⟩;refine bZ (λe=>?_) (λe=>?_)
   ·have q13:q<=13:=by have:=ck e;omega
    refine⟨_,rfl,sc,dx,_,rfl,hsc',rfl,_,rfl,_,rfl,sc,nl,dx,a,Fb,q,xs,hFb,rfl,q0,q13,hxl,⟨wl,d,hsc',Wa,W,hf⟩,hnl,hT,λH1 z x1 S1 ez=>?_⟩;refine⟨(by show 1<=sizeLine;decide),λr hr1=>endS x1 S1 rfl ?_ r hr1⟩;rw[ez];exact wz (Ep a xs q q0 q13)
   ·have q14:14<=q:=by
     have:¬((q:Int)<=13):=λz=>e (aO z);omega
    refine⟨_,rfl,sc,C2,dx,_,_,rfl,hsc',T2.cl,T2.nW,rfl,_,rfl,_,rfl,wl,nl,q,rfl,q14,by omega,wl,nl,a,d,xs,rfl,hxl,Wa,W,SqL.of hnl,hT,λH1 r x1 hr1 er=>?_⟩;refine k H1 r (.of x1) ?_ hr1 er;show dF C2 C Fb H1 sc dx (some (does a (cb q xs)).1);rw[Fy a xs q q14 (by omega)];exact dF.ext (s:=some a) ⟨wl,d,hsc',Wa,W,hf⟩ x1 hT
end
def spAns(K:PySem.W.Frag)(Pt:Addr):Sp:=λvs H Q _=>∃(a:Addr) (l:List Int),vs=[.ref a]/\SqL K H a (l.map V.int)/\PySu56.answers_asked l=true/\bx H Pt bu bz/\
 ∀H' p,aj Pt H H'->H' p=some (.lst ((PySu56.answers l).map V.int))->Q (.ref p) H'
def AW(C2 C Pt:Addr)(l:List Int)(H0:Hp)(a0 sc dx t:Addr)(m:Nat)(σ:L2.St)(H':Hp):Prop:=∃(pre bV:List Int) (cs:List (Nat×List Nat)) (s:Option Abs) (acc:List Int) (v4 v5 v6:Option V),l=pre++bV/\m=bV.length/\Reads bV cs/\acc++jI s cs=PySu56.answers l/\
 σ=[some (.ref a0),some (.ref sc),some (.ref t),some (.int (pre.length:Nat)),v4,v5,v6]/\aj Pt H0 H'/\dF C2 C (λc=>c=t) H' sc dx s/\H' t=some (.lst (acc.map V.int))
theorem Fj{pre r:List Int}{q:Nat}{ns:List Nat}:jA ((pre++(q:Int)::(ns.map (λn:Nat=>(n:Int))++r)).map V.int) (some ((pre.length:Int)+1)) (some ((pre.length:Int)+1+ (ns.length:Nat)))=ns.map λx=>V.int (x:Nat):=by
 unfold jA;rw[show(pre.length:Int)+1+ (ns.length:Nat)=((pre.length+1+ns.length:Nat):Int) by omega,show(pre.length:Int)+1=((pre.length+1:Nat):Int) by omega,HT.sIx_nat,HT.sIx_nat];have hl:((pre++(q:Int)::(ns.map (λn:Nat=>(n:Int))++r)).map V.int).length=pre.length+1+ns.length+r.length:=by simp;omega
 rw[hl,show min (pre.length+1) (pre.length+1+ns.length+r.length)=pre.length+1 by omega,show min (pre.length+1+ns.length) (pre.length+1+ns.length+r.length)=pre.length+1+ns.length by omega,
  show pre.length+1+ns.length- (pre.length+1)=ns.length by omega]
 rw[cf,aW,cf];have e1:(pre.map V.int++V.int (q:Int)::((ns.map (λn:Nat=>(n:Int))).map V.int++r.map V.int)).drop (pre.length+1)=(ns.map (λn:Nat=>(n:Int))).map V.int++r.map V.int:=by
  rw[show pre.length+1=(pre.map V.int).length+1 by rw[List.length_map],List.drop_append,List.drop_eq_nil_of_le (by omega),zb,show(pre.map V.int).length+1- (pre.map V.int).length=1 by omega];rfl
 rw[e1,List.take_append_of_le_length (by rw[List.length_map,List.length_map];exact aJ _),jP (by rw[List.length_map,List.length_map];exact aJ _),List.map_map];rfl
theorem aQ.told{C wl:Addr}{H H':Hp}{a:Abs}{d:WD}{t:Addr}{ys:List V}(W:aQ C H wl a d)(ht:H t=some (.lst ys))(hn:¬dD wl d t)(st:∀c o,H c=some o->c≠t->H' c=some o):aQ C H' wl a d:=by
 have n:∀{c:Addr},dD wl d c->c≠t:=λ{c} h z=>hn (by rw[←z];exact h);exact⟨st _ _ W.ins (n (.inl rfl)),st _ _ W.g (n (.inr (.inr (.inl rfl)))),st _ _ W.fr (n (.inr (.inr (.inr (.inl rfl))))),st _ _ W.ti (n (.inr (.inr (.inr (.inr (.inl rfl)))))),st _ _ W.th (n (.inr (.inr (.inr (.inr (.inr (.inl rfl))))))),st _ _ W.la (n (.inr (.inr (.inr (.inr (.inr (.inr (.inl rfl)))))))),
  st _ _ W.we (n (.inr (.inr (.inr (.inr (.inr (.inr (.inr (.inl rfl))))))))),st _ _ W.sp (n (.inr (.inr (.inr (.inr (.inr (.inr (.inr (.inr rfl))))))))),W.spk.mono (λb xs q=>st _ _ q (aC q ht (λz=>nomatch z))),W.ok,W.nd,W.nl⟩
section
variable{P:Program}{w:World}{K:PySem.W.Frag}{mg:Str->Option Value}{base:Heap}
theorem iL:bj ["calls","scaffold","told","at","number","end","result"] ["calls"] (aM sAnswers):=⟨rfl,rfl,rfl,by decide +kernel,rfl,by decide +kernel,by decide +kernel⟩
theorem zR{f fI fA aA C2 C Pt:Addr}{fd fdI fdA:FuncData}(F:a8 K "answers" "answers" sAnswers f fd)(T2:jr K mg C2)(hlen:mg "len"=none)
  (hA:∀H,bo K H aA (ma.map λn=>V.int (n:Nat))) (mA:mg "ARGUMENT_COUNTS"=some (.ref aA)) (M2:Mk K C2 fI) (mC2:mg "Scaffold"=some (.ref C2))
  (GI:ak P w K mg base au 1 fI fdI ["self"] (wu C2)) (bI:aN K fdI ["self"] [])
  (GA:ak P w K mg base au 11 fA fdA ["self","number","numbers"] (xi C2 C Pt)) (bA:aN K fdA ["self","number","numbers"] []) (mAn:jX K C2 "answer" fA):
  ak P w K mg base au 12 f fd ["calls"] (spAns K Pt):=by
 refine F.ok iL (λvs H Q E h=>?_) (λcdv A outer s H vs Q E hr h=>?_)
 ·obtain⟨a,l,rfl,_⟩:=h;rfl
 ·obtain⟨a,l,rfl,hS,hask,hT,k⟩:=h;obtain⟨ds,hrd,hans,hshort⟩:=Gk hask;refine⟨_,ai (aS (i:=1) iL.nd rfl (Or.inl rfl) (FM M2 (GI.mono (k:=10) (by decide)) hr rfl mC2 bI .nil aU))
   (ai (aS (i:=2) iL.nd rfl (Or.inl rfl) (cu af))
   (ai (aS (i:=3) iL.nd rfl (Or.inl rfl) aq)
   (ai (qA iB (aR pD (pv 3) (cx eK (by rfl) hlen gq (ab (pv 0) af)) (b7 _))
    (ai (aS (i:=4) iL.nd rfl (Or.inl rfl) (aL bf (pv 0) (pv 3) (λ_ _=>rfl)))
    (ai (aS (i:=5) iL.nd rfl (Or.inl rfl) (cW gc (cW gc (pv 3) aq) (aL cR (aP (v:=.ref aA) rfl mA rfl) (pv 4) (λ_ _=>rfl))))
    (ai (aS (i:=6) iL.nd rfl (Or.inl rfl) (rL (pv 1) T2.cl mAn GA hr bA .nil aU (ab (pv 4) (ab (BW C0 (pv 0) (wq (cW gc (pv 3) aq)) (wq (pv 5))) af))))
    (ai (fx (ja jQ nu nv jS (pv 2) (ab (cx eK (by rfl) hlen gq (ab (pv 6) af)) af)))
    (ai (fx (ja jQ GW GX uy (pv 2) (ab (pv 6) af)))
    (aw (aS (i:=3) iL.nd rfl (Or.inl rfl) (pv 5)))))))))
   (aw (aF (pv 2)))))),?_⟩
  intro sc dx hsc0 hdx0 ndx;refine⟨sc,dx,rfl,ao,rfl,?_⟩;have k1:Kp H (upd (upd (upd H dx (.own sc)) sc (.ins C2 dx [])) sc (.ins C2 dx [("wall",.non)])):=λb o q=>by
   rw[ag (ay q hsc0),ag (ay q hsc0),ag (ay q hdx0)];exact q
  have S1:dF C2 C (λ_=>False) (upd (upd (upd H dx (.own sc)) sc (.ins C2 dx [])) sc (.ins C2 dx [("wall",.non)])) sc dx none:=ao;generalize upd (upd (upd H dx (.own sc)) sc (.ins C2 dx [])) sc (.ins C2 dx [("wall",.non)])=H1 at k1 S1⊢;refine⟨da _,λt ht=>?_⟩;have x1:aj Pt H H1:=aj.all k1;have T1:=x1.tab hT;have ht0:H t=none:=x1.free hT ht;have S2:dF C2 C (λc=>c=t) (upd H1 t (.lst [])) sc dx none:=S1.ext (aj.laid (o:=.lst []) ht) T1;have x2:aj Pt H (upd H1 t (.lst [])):=x1.trans (aj.laid ht);have et:upd H1 t (.lst []) t=some (.lst []):=ao;generalize upd H1 t (.lst [])=H2 at S2 x2 et⊢;refine⟨AW C2 C Pt l H a sc dx t,⟨l.length,[],l,ds,none,[],none,none,none,rfl,rfl,hrd,hans.symm,rfl,x2,S2,et⟩,?_⟩;rintro m σ H3 ⟨pre,bV,cs,st,acc,v4,v5,v6,hl,hm,hr3,hacc,rfl,x3,S3,et3⟩;have T3:=x3.tab hT;have hS3:=x3.seq hT hS;refine⟨_,rfl,_,rfl,a,_,rfl,.inl hS3,_,_,rfl,rfl,_,rfl,?_⟩;have hll:l.length=pre.length+bV.length:=by rw[hl,df]
  refine bZ (λe=>?_) (λe=>?_)
  ·have e':(pre.length:Int)<((l.map V.int).length:Nat):=ck e;rw[List.length_map]at e';cases hr3 with
   |nil=>
    exfalso;have:([]:List Int).length=0:=rfl;omega
   |@cons q ns r cs' hq hnl hr4=>
    refine⟨λσ' H'=>∃m',m'<m/\AW C2 C Pt l H a sc dx t m' σ' H',λσ' H' h=>h,?_⟩;have hat:(l.map V.int)[pre.length]?=some (V.int (q:Nat)):=by
     rw[hl,cf,za (by rw[List.length_map];exact aJ _),List.length_map,Nat.sub_self];rfl
    refine⟨_,rfl,_,rfl,a,_,pre.length,_,rfl,rfl,hS3,aK hat,?_⟩;have hcn:(ma.map λn=>V.int (n:Nat))[q]?=some (V.int (Wl.cnt q:Nat)):=by
     rw[bY];unfold Wl.cnt;rw[du,aZ (show q<ma.length from hq)];rfl
    refine⟨_,rfl,_,_,rfl,rfl,_,rfl,aA,_,q,_,rfl,rfl,hA H3,aK hcn,_,_,rfl,rfl,?_⟩;obtain⟨v,hsc⟩:=S3.at_;refine⟨_,rfl,sc,dx,_,rfl,hsc,rfl,_,rfl,_,rfl,_,rfl,_,_,rfl,rfl,_,rfl,_,rfl,_,rfl,a,_,rfl,hS3,λnl hnl3=>?_⟩;have ecut:jA (l.map V.int) (some ((pre.length:Int)+1)) (some ((pre.length:Int)+1+ (Wl.cnt q:Nat)))=ns.map λx=>V.int (x:Nat):=by
     rw[hl,←hnl];exact Fj
    rw[ecut];have k4:Kp H3 (upd H3 nl (.lst (ns.map λx=>V.int (x:Nat)))):=Kp.laid hnl3;have enl:upd H3 nl (.lst (ns.map λx=>V.int (x:Nat))) nl=some (.lst (ns.map λx=>V.int (x:Nat))):=ao;generalize upd H3 nl (.lst (ns.map λx=>V.int (x:Nat)))=H4 at k4 enl⊢;have x34:aj Pt H3 H4:=aj.all k4;have T4:=x34.tab T3;have S4:=S3.ext x34 T3;refine⟨sc,nl,dx,st,(λc=>c=t),q,ns,(λc hc=>by rw[hc,k4 _ _ et3];exact λz=>nomatch z),rfl,hq,hnl,S4,enl,T4,λH5 r5 x5 S5 hr5 er5=>?_⟩;have et4:=k4 _ _ et3;obtain⟨tps,epT⟩:=eU T4;obtain⟨v4',hsc4⟩:=S4.at_;obtain⟨v5',hsc5⟩:=S5.at_;have ntP:t≠Pt:=aC et4 epT (λz=>nomatch z);have ntS:t≠sc:=aC et4 hsc4 (λz=>nomatch z);have et5:=x5.keep _ _ et4 ntP ntS;have T5:=x5.tab T4;have x05:aj Pt H H5:=⟨λb o q0 n=>x5.keep _ _ (k4 _ _ (x3.keep _ _ q0 n)) n (ay q0 hsc0),λt=>x5.tab (x34.tab (x3.tab t))⟩;have nrt:r5≠t:=λz=>by rw[z,et4]at hr5;cases hr5
    have cc:acc++(((((Su56.step st (cb q ns)).2.out.length+1:Nat):Int)::(Su56.step st (cb q ns)).2.value::Su56Neutral.outs (Su56.step st (cb q ns)).2.out)++jI (Su56.step st (cb q ns)).1 cs')=PySu56.answers l:=hacc;have hlenT:=dr List.length cc;simp only[df,List.length_cons]at hlenT;have hol:(Su56Neutral.outs (Su56.step st (cb q ns)).2.out).length=(Su56.step st (cb q ns)).2.out.length:=by unfold Su56Neutral.outs;rw[List.length_map]
    have hal:(cI (Su56.step st (cb q ns)).2).length=(Su56.step st (cb q ns)).2.out.length+1:=by unfold cI;rw[List.length_cons,List.length_map]
    generalize hres:Su56.step st (cb q ns)=res at*;refine⟨_,rfl,.inl ⟨rfl,_,SqL.of et5⟩,_,rfl,r5,_,rfl,.inl (SqL.of er5),t,_,_,rfl,rfl,et5,?_,?_⟩
    ·rw[List.length_map];exact bc (show acc.length<=10000000 by omega) (by decide)
    have et6:upd H5 t (.lst (acc.map V.int++[V.int ((cI res.2).length:Nat)])) t=some (.lst (acc.map V.int++[V.int ((cI res.2).length:Nat)])):=ao;have st6:∀{c:Addr} {o:HO},H5 c=some o->c≠t->upd H5 t (.lst (acc.map V.int++[V.int ((cI res.2).length:Nat)])) c=some o:=λ{c o} q0 ne=>by rw[ag ne];exact q0
    generalize upd H5 t (.lst (acc.map V.int++[V.int ((cI res.2).length:Nat)]))=H6 at et6 st6⊢;have er6:=st6 er5 nrt;refine⟨_,rfl,.inl ⟨rfl,_,SqL.of et6⟩,_,rfl,t,r5,_,_,rfl,rfl,et6,er6,?_,?_⟩
    ·rw[df,List.length_map,hal];exact dw (show acc.length+1+ (res.2.out.length+1)<=10000000 by omega) (by decide)
    have et7:upd H6 t (.lst (acc.map V.int++[V.int ((cI res.2).length:Nat)]++cI res.2)) t=some (.lst (acc.map V.int++[V.int ((cI res.2).length:Nat)]++cI res.2)):=ao;have st7:∀{c:Addr} {o:HO},H5 c=some o->c≠t->upd H6 t (.lst (acc.map V.int++[V.int ((cI res.2).length:Nat)]++cI res.2)) c=some o:=λ{c o} q0 ne=>by rw[ag ne];exact st6 q0 ne
    generalize upd H6 t (.lst (acc.map V.int++[V.int ((cI res.2).length:Nat)]++cI res.2))=H7 at et7 st7⊢;have S7:dF C2 C (λc=>c=t) H7 sc dx res.1:=by
     cases hr1:res.1 with
     |none=>
      rw[hr1]at S5;exact st7 S5 (bP ntS)
     |some a1=>
      rw[hr1]at S5;obtain⟨wl,d,h1,Wa,W,hf⟩:=S5;exact⟨wl,d,st7 h1 (bP ntS),Wa,W.told et5 (hf t rfl) (λc o q0 ne=>st7 q0 ne),hf⟩
    have x07:aj Pt H H7:=⟨λb o q0 n=>st7 (x05.keep _ _ q0 n) (ay q0 ht0),λt0=>yo (x05.tab t0) et5 (λb o q0 ne=>st7 q0 ne)⟩;have hend:(pre.length:Int)+1+ (Wl.cnt q:Nat)=((pre++(q:Int)::ns.map (λn:Nat=>(n:Int))).length:Nat):=by
     rw[df,List.length_cons,List.length_map,hnl];omega
    refine⟨_,rfl,r.length,?_,pre++(q:Int)::ns.map (λn:Nat=>(n:Int)),r,cs',res.1,acc++((((res.2.out.length+1:Nat):Int)::res.2.value::Su56Neutral.outs res.2.out)),some (V.int (q:Nat)),some (V.int ((pre.length:Int)+1+ (Wl.cnt q:Nat))),some (.ref r5),?_,rfl,hr4,?_,?_,x07,S7,?_⟩
    ·rw[hm,List.length_cons,df,List.length_map];omega
    ·rw[hl,qf,yR]
    ·rw[←cc,qf]
    ·rw[←hend];rfl
    ·rw[et7,cf,qf];have eo:(Su56Neutral.outs res.2.out).map V.int=res.2.out.map λn=>V.int (n:Nat):=by
      unfold Su56Neutral.outs;rw[List.map_map];rfl
     rw[aW,aW,eo,hal];rfl
  ·have e':¬(pre.length:Int)<((l.map V.int).length:Nat):=λz=>e (aO z);rw[List.length_map]at e';cases hr3 with
   |nil=>
    refine⟨_,rfl,k H3 t x3 ?_⟩;rw[et3];have:acc=PySu56.answers l:=by rw[←hacc];exact(List.append_nil _).symm
    rw[this]
   |@cons q ns r cs' hq hnl hr4=>
    exfalso;rw[List.length_cons]at hll;omega
end
structure bF(K:PySem.W.Frag)(mg:Str->Option Value)(x:Str)(st:Stmt)(ps:List Str)(f:Addr)(fd:FuncData):Prop where
 F:a8 K x x st f fd
 m:mg x=some (.ref f)
 b:aN K fd ps []
theorem l1{P:List Value->Prop}(h:∀a,P [a]):∀us:List Value,us.length=1->P us
 | [a],_=>h a
theorem l2{P:List Value->Prop}(h:∀a b,P [a,b]):∀us:List Value,us.length=2->P us
 | [a,b],_=>h a b
theorem l3{P:List Value->Prop}(h:∀a b c,P [a,b,c]):∀us:List Value,us.length=3->P us
 | [a,b,c],_=>h a b c
theorem l6{P:List Value->Prop}(h:∀a b c d e f,P [a,b,c,d,e,f]):∀us:List Value,us.length=6->P us
 | [a,b,c,d,e,f],_=>h a b c d e f
theorem dfn{K:PySem.W.Frag}{h:Heap}{mg:Str->Option Value}(X:K.In h)(G:h.Ns mainGlobals mg){x:Str}{st:Stmt}{ps:List Str}{f:Addr}{oc:Value}{od an:Option Addr}{osl:Array (Option Value)}{kV doc pm cdv ct:Value}
  (a:PySem.W.nsIn K mainGlobals x=some (some (.ref f))) (l:K.lookup f=some ⟨oc,od,.func (PySem.W.fnOf x x (fh st) (eN st) (aM st) .none kV doc pm an cdv ct),osl⟩) (c:PySem.W.codeIn K cdv x=true) (k:PySem.W.keepIn K (.ref f)=true)
  (hb:∀(kV doc pm:Value) (an:Option Addr) (cdv ct:Value) (us:List Value),us.length=ps.length->bindArgs (PySem.W.fnOf x x (fh st) (eN st) (aM st) .none kV doc pm an cdv ct) ⟨us,[]⟩=pure (ps.zip us)):bF K mg x st ps f (PySem.W.fnOf x x (fh st) (eN st) (aM st) .none kV doc pm an cdv ct):=
 ⟨lN l c k,cH X G a,(lN l c k).binds hb⟩
structure iD(K:PySem.W.Frag)(C:Addr)(x q:Str)(st:Stmt)(ps:List Str)(f:Addr)(fd:FuncData):Prop where
 F:a8 K x q st f fd
 at_:PySem.W.findIn K (.ref C) x=some (some (.ref f))
 fn:PySem.W.isFn K (.ref f)=true
 b:aN K fd ps []
theorem mtd{K:PySem.W.Frag}{h:Heap}(_X:K.In h){mg:Str->Option Value}{y:Str}{C:Addr}(_mC:mg y=some (.ref C)){x q:Str}{st:Stmt}{ps:List Str}{f:Addr}{oc:Value}{od an:Option Addr}{osl:Array (Option Value)}{kV doc pm cdv ct:Value}
  (a:PySem.W.findIn K (.ref C) x=some (some (.ref f))) (i:PySem.W.isFn K (.ref f)=true) (l:K.lookup f=some ⟨oc,od,.func (PySem.W.fnOf x q (fh st) (eN st) (aM st) .none kV doc pm an cdv ct),osl⟩) (c:PySem.W.codeIn K cdv q=true) (k:PySem.W.keepIn K (.ref f)=true)
  (hb:∀(kV doc pm:Value) (an:Option Addr) (cdv ct:Value) (us:List Value),us.length=ps.length->bindArgs (PySem.W.fnOf x q (fh st) (eN st) (aM st) .none kV doc pm an cdv ct) ⟨us,[]⟩=pure (ps.zip us)):iD K C x q st ps f (PySem.W.fnOf x q (fh st) (eN st) (aM st) .none kV doc pm an cdv ct):=
 ⟨lN l c k,a,i,(lN l c k).binds hb⟩
theorem iD.meth{K:PySem.W.Frag}{C:Addr}{x q:Str}{st:Stmt}{ps:List Str}{f:Addr}{fd:FuncData}(d:iD K C x q st ps f fd):jX K C x f:=⟨d.at_,d.fn,d.F.kp⟩
structure NoB(mg:Str->Option Value):Prop where
 all_:mg "all"=none
 any_:mg "any"=none
 dict_:mg "dict"=none
 enumerate_:mg "enumerate"=none
 len_:mg "len"=none
 list_:mg "list"=none
 max_:mg "max"=none
 range_:mg "range"=none
 reversed_:mg "reversed"=none
 sorted_:mg "sorted"=none
 sum_:mg "sum"=none
 zip_:mg "zip"=none
theorem tabIn_of{K:PySem.W.Frag}{x:Str}{f c P:Addr}{oc oc':Value}{od od':Option Addr}{fd:FuncData}{osl osl':Array (Option Value)}{vs:Array Value}(a:PySem.W.nsIn K mainGlobals x=some (some (.ref f)))(l:K.lookup f=some ⟨oc,od,.func fd,osl⟩)(e:fd.code= .ref c)(l2:K.lookup c=some ⟨oc',od',.fields vs,osl'⟩)(e2:(vs[11]?:Option Value)=some (.ref P)):
  PySem.W.tabIn K x=some (c,P):=by
 unfold PySem.W.tabIn;rw[a];simp only[l,e,l2,e2]
theorem txt_mk{K:PySem.W.Frag}{h:Heap}{mg:Str->Option Value}(X:K.In h)(G:h.Ns mainGlobals mg){C:Addr}{t1 t2:Tok}(mC:PySem.W.nsIn K mainGlobals "Wall"=some (some (.ref C)))
  (pg:PySem.W.plainGet K C Str.empty=true) (hd:PySem.W.hasDictIn K C=true) (po:PySem.W.plainOver K C=true) (sa:PySem.W.findIn K (.ref C) "__setattr__"=some (some (.builtin "object.__setattr__")))
  (n1:PySem.W.findIn K (.ref C) "bays"=some none) (n2:PySem.W.findIn K (.ref C) "levels"=some none) (n3:PySem.W.findIn K (.ref C) "weight"=some none) (n4:PySem.W.findIn K (.ref C) "most"=some none) (n5:PySem.W.findIn K (.ref C) "free"=some none) (n6:PySem.W.findIn K (.ref C) "ground"=some none) (n7:PySem.W.findIn K (.ref C) "frames"=some none) (n8:PySem.W.findIn K (.ref C) "ties"=some none) (n9:PySem.W.findIn K (.ref C) "things"=some none) (n10:PySem.W.findIn K (.ref C) "ladders"=some none) (n11:PySem.W.findIn K (.ref C) "weights"=some none) (n12:PySem.W.findIn K (.ref C) "spots"=some none)
  (o:PySem.W.nsIn K mainGlobals "ON_BEAM"=some (some (.int 2 t1))) (g:PySem.W.nsIn K mainGlobals "GROUND"=some (some (.str "ground" t2))):bW K mg C/\mg "Wall"=some (.ref C):=
 ⟨⟨⟨pg,hd,po,sa⟩,n1,n2,n3,n4,n5,n6,n7,n8,n9,n10,n11,n12,⟨_,cH X G o⟩,⟨_,cH X G g⟩⟩,cH X G mC⟩
theorem txtS_mk{K:PySem.W.Frag}{h:Heap}{mg:Str->Option Value}(X:K.In h)(G:h.Ns mainGlobals mg){C:Addr}{t1 t2 t3:Tok}(mC:PySem.W.nsIn K mainGlobals "Scaffold"=some (some (.ref C)))
  (pg:PySem.W.plainGet K C Str.empty=true) (hd:PySem.W.hasDictIn K C=true) (po:PySem.W.plainOver K C=true) (sa:PySem.W.findIn K (.ref C) "__setattr__"=some (some (.builtin "object.__setattr__"))) (n1:PySem.W.findIn K (.ref C) "wall"=some none)
  (a:PySem.W.nsIn K mainGlobals "NOT_BEGUN"=some (some (.int (-11) t1))) (b:PySem.W.nsIn K mainGlobals "BEGIN"=some (some (.int 0 t2))) (c:PySem.W.nsIn K mainGlobals "LAST_CHANGE"=some (some (.int 13 t3))):jr K mg C/\mg "Scaffold"=some (.ref C):=
 ⟨⟨⟨pg,hd,po,sa⟩,n1,⟨_,cH X G a⟩,⟨_,cH X G b⟩,⟨_,cH X G c⟩⟩,cH X G mC⟩
theorem tupK{K:PySem.W.Frag}{a:Addr}{od:Option Addr}{osl:Array (Option Value)}{its:Array Value}{n:Nat}{xs:List V}(e:K.lookup a=some ⟨.type "tuple",od,.seq its n,osl⟩)(hz:its.size<=sizeLine)(hv:aH xs its.toList)(H:Hp):bo K H a xs:=.inr ⟨_,its,n,e,rfl,rfl,hz,hv⟩
theorem ak.call{P:Program}{w:World}{K:PySem.W.Frag}{mg:Str->Option Value}{base:Heap}{k:Nat}{f C Pt:Addr}{fd:FuncData}{n:Nat}{cl:List Nat->Call}(G:ak P w K mg base au k f fd ["wall","numbers"] (lA K C Pt n cl)):ak P w K mg base au k f fd ["wall","numbers"] (eF K C Pt n cl):=
 G.imp λvs H Q E ⟨wl,nl,a,d,xs,e,hl,Wa,W,hnl,hno,hT,k⟩=>⟨wl,nl,a,d,xs,e,hl,Wa,W,.inl hnl,hT,k⟩
theorem assemble{P:Program}{w:World}{K:PySem.W.Frag}{mg:Str->Option Value}{base:Heap}{C C2 Pt cT fB aCh aTe aB aA:Addr}{oc kV doc pm ct:Value}{od an:Option Addr}{osl:Array (Option Value)}{tgb:Tok}{fWI fSI fAns fTry fBeg fBelow fAbove fEnds fCarr fCarries fOwn fLoads fGL fMuch fHighs fTooHigh fNext fSteps fStuckP fStuck fCopied fHas fSetUp fSoil fPut fSpan fTake fTie fUntie fLoad fUnload fLadder fNoladder fCome fGo fDown fChange fListed fBears fFeet fRoom fHighT fWay fTaken fLoose fReached fCut fMost fLook fWhere fSums fState fTell fAnswers:Addr}{fdWI fdSI fdAns fdTry fdBeg fdBelow fdAbove fdEnds fdCarr fdCarries fdOwn fdLoads fdGL fdMuch fdHighs fdTooHigh fdNext fdSteps fdStuckP fdStuck fdCopied fdHas fdSetUp fdSoil fdPut fdSpan fdTake fdTie fdUntie fdLoad fdUnload fdLadder fdNoladder fdCome fdGo fdDown fdChange fdListed fdBears fdFeet fdRoom fdHighT fdWay fdTaken fdLoose fdReached fdCut fdMost fdLook fdWhere fdSums fdState fdTell fdAnswers:FuncData}
  (T:bW K mg C) (TC:TxtC mg) (T2:jr K mg C2) (n:NoB mg) (hgb:mg "GROUND_BEARS"=some (.int 10000 tgb)) (mC:mg "Wall"=some (.ref C)) (mC2:mg "Scaffold"=some (.ref C2)) (makes:PySem.W.makesIn K C=true) (kpC:PySem.W.keepIn K (.ref C)=true) (makes2:PySem.W.makesIn K C2=true) (kpC2:PySem.W.keepIn K (.ref C2)=true)
  (mB:mg "BEGIN_LIMITS"=some (.ref aB)) (hB:∀H,bo K H aB (fZ.map λn=>V.int (n:Nat))) (mA:mg "ARGUMENT_COUNTS"=some (.ref aA)) (hA:∀H,bo K H aA (ma.map λn=>V.int (n:Nat)))
  (iWall:iD K C "__init__" "Wall.__init__" sInit ["self","bays","levels","weight","most","free"] fWI fdWI) (iSc:iD K C2 "__init__" "Scaffold.__init__" sScInit ["self"] fSI fdSI) (dAns:iD K C2 "answer" "Scaffold.answer" sAnswer ["self","number","numbers"] fAns fdAns) (dTry:iD K C2 "try_change" "Scaffold.try_change" sTry ["self","number","numbers"] fTry fdTry) (dBeg:iD K C2 "begin" "Scaffold.begin" sBegin ["self","numbers"] fBeg fdBeg)
  (lB:K.lookup fB=some ⟨oc,od,.func (PySem.W.fnOf "by_levels" "by_levels" (fh eS) (eN eS) (aM eS) .none kV doc pm an (.ref cT) ct),osl⟩) (cB:PySem.W.codeIn K (.ref cT) "by_levels"=true) (kB:PySem.W.keepIn K (.ref fB)=true) (mBy:mg "by_levels"=some (.ref fB))
  (hC:PySem.W.CodeHd base cT Pt) (hPb:base.get? Pt=none) (hbm:base.BuiltinsAt mg Pt)
  (dBelow:bF K mg "below" sBelow ["place"] fBelow fdBelow)
  (dAbove:bF K mg "above" sAbove ["place"] fAbove fdAbove)
  (dEnds:bF K mg "beam_ends" sEnds ["place"] fEnds fdEnds)
  (dCarr:bF K mg "carriers" sCarr ["wall","place"] fCarr fdCarr)
  (dCarries:bF K mg "carries_some" sCarries ["wall","place"] fCarries fdCarries)
  (dOwn:bF K mg "own_loads" sOwn ["wall"] fOwn fdOwn)
  (dLoads:bF K mg "frame_loads" sLoads ["wall"] fLoads fdLoads)
  (dGL:bF K mg "ground_loads" sGL ["wall","loads"] fGL fdGL)
  (dMuch:bF K mg "too_much" sMuch ["wall"] fMuch fdMuch)
  (dHighs:bF K mg "frame_heights" sHigh ["wall"] fHighs fdHighs)
  (dTooHigh:bF K mg "too_high" sTooHigh ["wall"] fTooHigh fdTooHigh)
  (dNext:bF K mg "next_spots" sNext ["wall","spot"] fNext fdNext)
  (dSteps:bF K mg "steps_from" sSteps ["wall","start"] fSteps fdSteps)
  (dStuckP:bF K mg "stuck_persons" sStuckP ["wall"] fStuckP fdStuckP)
  (dStuck:bF K mg "somebody_stuck" sStuck ["wall"] fStuck fdStuck)
  (dCopied:bF K mg "copied" sCopied ["wall"] fCopied fdCopied)
  (dHas:bF K mg "has_place" sHas ["wall","place"] fHas fdHas)
  (dSetUp:bF K mg "set_up" sSetUp ["wall","place","kind"] fSetUp fdSetUp)
  (dSoil:bF K mg "soil" sSoil ["wall","numbers"] fSoil fdSoil)
  (dPut:bF K mg "put" sPut ["wall","numbers"] fPut fdPut)
  (dSpan:bF K mg "span" sSpan ["wall","numbers"] fSpan fdSpan)
  (dTake:bF K mg "take" sTake ["wall","numbers"] fTake fdTake)
  (dTie:bF K mg "tie" sTie ["wall","numbers"] fTie fdTie)
  (dUntie:bF K mg "untie" sUntie ["wall","numbers"] fUntie fdUntie)
  (dLoad:bF K mg "load" sLoad ["wall","numbers"] fLoad fdLoad)
  (dUnload:bF K mg "unload" sUnload ["wall","numbers"] fUnload fdUnload)
  (dLadder:bF K mg "ladder" sLadder ["wall","numbers"] fLadder fdLadder)
  (dNoladder:bF K mg "noladder" sNoladder ["wall","numbers"] fNoladder fdNoladder)
  (dCome:bF K mg "come" sCome ["wall","numbers"] fCome fdCome)
  (dGo:bF K mg "go" sGo ["wall","numbers"] fGo fdGo)
  (dDown:bF K mg "down" sDown ["wall","numbers"] fDown fdDown)
  (dChange:bF K mg "change" sChange ["wall","number","numbers"] fChange fdChange)
  (dListed:bF K mg "listed" sListed ["places"] fListed fdListed)
  (dBears:bF K mg "bears" sBears ["wall","numbers"] fBears fdBears)
  (dFeet:bF K mg "feet" sFeet ["wall","numbers"] fFeet fdFeet)
  (dRoom:bF K mg "room" sRoom ["wall","numbers"] fRoom fdRoom)
  (dHighT:bF K mg "high" sHighT ["wall","numbers"] fHighT fdHighT)
  (dWay:bF K mg "way" sWay ["wall","numbers"] fWay fdWay)
  (dTaken:bF K mg "taken_now" sTaken ["wall","numbers"] fTaken fdTaken)
  (dLoose:bF K mg "loose" sLoose ["wall","numbers"] fLoose fdLoose)
  (dReached:bF K mg "reached" sReached ["wall","numbers"] fReached fdReached)
  (dCut:bF K mg "cut" sCut ["wall","numbers"] fCut fdCut)
  (dMost:bF K mg "most" sMost ["wall","numbers"] fMost fdMost)
  (dLook:bF K mg "look" sLook ["wall","numbers"] fLook fdLook)
  (dWhere:bF K mg "where" sWhere ["wall","numbers"] fWhere fdWhere)
  (dSums:bF K mg "sums" sSums ["wall","numbers"] fSums fdSums)
  (dState:bF K mg "state" sState ["wall","numbers"] fState fdState)
  (dTell:bF K mg "tell" sTell ["wall","number","numbers"] fTell fdTell)
  (dAnswers:bF K mg "answers" sAnswers ["calls"] fAnswers fdAnswers)
  (mCh:mg "CHANGES"=some (.ref aCh)) (hCh:i0 K aCh [(1,fSoil),(2,fPut),(3,fSpan),(4,fTake),(5,fTie),(6,fUntie),(7,fLoad),(8,fUnload),(9,fLadder),(10,fNoladder),(11,fCome),(12,fGo),(13,fDown)]=true)
  (mTe:mg "TELLS"=some (.ref aTe)) (hTe:i0 K aTe [(14,fBears),(15,fFeet),(16,fRoom),(17,fHighT),(18,fWay),(19,fTaken),(20,fLoose),(21,fReached),(22,fCut),(23,fMost),(24,fLook),(25,fWhere),(26,fSums),(27,fState)]=true):
  ak P w K mg base au 12 fAnswers fdAnswers ["calls"] (spAns K Pt):=by
 have fBy:=lN (st:=eS) lB cB kB;have bBy:aN K _ ["places"] []:=fBy.binds λ_ _ _ _ _ _=>Wp.l1 λ_=>rfl
 have M:Mk K C fWI:=⟨makes,iWall.at_,iWall.fn,kpC⟩;have M2:Mk K C2 fSI:=⟨makes2,iSc.at_,iSc.fn,kpC2⟩;have bI:=iWall.b;have gInit:=Bs (P:=P) (w:=w) (mg:=mg) (base:=base) iWall.F T hgb;have gByS:=AD (P:=P) (w:=w) (mg:=mg) (base:=base) lB cB hC hPb hbm n.sorted_;have gBy:=CQ gByS;have gBelow:=sh (P:=P) (w:=w) (mg:=mg) (base:=base) dBelow.F;have gAbove:=uT (P:=P) (w:=w) (mg:=mg) (base:=base) dAbove.F;have gEnds:=xb (P:=P) (w:=w) (mg:=mg) (base:=base) dEnds.F;have gCarr:=CC (P:=P) (w:=w) (mg:=mg) (base:=base) (Pt:=Pt) dCarr.F T dEnds.F dEnds.b dEnds.m dBelow.F dBelow.b dBelow.m;have gCarries:=BI (P:=P) (w:=w) (mg:=mg) (base:=base) (Pt:=Pt) dCarries.F T n.any_ gCarr dCarr.F.kp dCarr.b dCarr.m;have gOwn:=Dc (P:=P) (w:=w) (mg:=mg) (base:=base) dOwn.F T n.zip_;have gLoads:=zB (P:=P) (w:=w) (mg:=mg) (base:=base) (Pt:=Pt) dLoads.F T n.len_ n.reversed_ gOwn dOwn.F.kp dOwn.b dOwn.m gBy kB bBy mBy gCarr dCarr.F.kp dCarr.b dCarr.m;have gGL:=Eb (P:=P) (w:=w) (mg:=mg) (base:=base) dGL.F T n.range_;have gMuch:=z9 (P:=P) (w:=w) (mg:=mg) (base:=base) (Pt:=Pt) dMuch.F T n.any_ n.zip_ gLoads dLoads.F.kp dLoads.b dLoads.m gGL dGL.F.kp dGL.b dGL.m;have gHighs:=Cv (P:=P) (w:=w) (mg:=mg) (base:=base) (Pt:=Pt) dHighs.F T n.max_ gBy kB bBy mBy gCarr dCarr.F.kp dCarr.b dCarr.m;have gTooHigh:=BD (P:=P) (w:=w) (mg:=mg) (base:=base) (Pt:=Pt) dTooHigh.F T n.any_ gHighs dHighs.F.kp dHighs.b dHighs.m;have gNext:=BJ (P:=P) (w:=w) (mg:=mg) (base:=base) dNext.F T n.range_ dAbove.F dAbove.b dAbove.m dBelow.F dBelow.b dBelow.m;have gSteps:=Au (P:=P) (w:=w) (mg:=mg) (base:=base) dSteps.F T n.len_ gNext dNext.F.kp dNext.b dNext.m;have gStuckP:=EX (P:=P) (w:=w) (mg:=mg) (base:=base) dStuckP.F T n.enumerate_ gSteps dSteps.F.kp dSteps.b dSteps.m;have gStuck:=A2 (P:=P) (w:=w) (mg:=mg) (base:=base) dStuck.F T n.len_ gStuckP dStuckP.F.kp dStuckP.b dStuckP.m;have gCopied:=DK (P:=P) (w:=w) (mg:=mg) (base:=base) dCopied.F T M mC n.list_ n.dict_ gInit bI;have gHas:=Bw (P:=P) (w:=w) (mg:=mg) (base:=base) dHas.F T;have gSetUp:=Fd (P:=P) (w:=w) (mg:=mg) (base:=base) (Pt:=Pt) dSetUp.F T TC n.len_ gMuch dMuch.F.kp dMuch.b dMuch.m gTooHigh dTooHigh.F.kp dTooHigh.b dTooHigh.m;have gSoil:=EY (P:=P) (w:=w) (mg:=mg) (base:=base) (Pt:=Pt) dSoil.F T TC gMuch dMuch.F.kp dMuch.b dMuch.m;have gPut:=Dg (P:=P) (w:=w) (mg:=mg) (base:=base) (Pt:=Pt) dPut.F T TC gHas dHas.F.kp dHas.b dHas.m gBelow dBelow.F.kp dBelow.b dBelow.m gSetUp dSetUp.F.kp dSetUp.b dSetUp.m;have gSpan:=C8 (P:=P) (w:=w) (mg:=mg) (base:=base) (Pt:=Pt) dSpan.F T TC n.all_ gHas dHas.F.kp dHas.b dHas.m gBelow dBelow.F.kp dBelow.b dBelow.m gEnds dEnds.F.kp dEnds.b dEnds.m gSetUp dSetUp.F.kp dSetUp.b dSetUp.m;have gTake:=Ck (P:=P) (w:=w) (mg:=mg) (base:=base) (Pt:=Pt) dTake.F T TC n.len_ gCarries dCarries.F.kp dCarries.b dCarries.m gAbove dAbove.F.kp dAbove.b dAbove.m gStuck dStuck.F.kp dStuck.b dStuck.m;have gTie:=A4 (P:=P) (w:=w) (mg:=mg) (base:=base) (Pt:=Pt) dTie.F T TC n.len_;have gUntie:=BU (P:=P) (w:=w) (mg:=mg) (base:=base) (Pt:=Pt) dUntie.F T TC n.len_ gTooHigh dTooHigh.F.kp dTooHigh.b dTooHigh.m;have gLoad:=Cw (P:=P) (w:=w) (mg:=mg) (base:=base) (Pt:=Pt) dLoad.F T TC gMuch dMuch.F.kp dMuch.b dMuch.m;have gUnload:=DY (P:=P) (w:=w) (mg:=mg) (base:=base) (Pt:=Pt) dUnload.F T TC;have gLadder:=C4 (P:=P) (w:=w) (mg:=mg) (base:=base) (Pt:=Pt) dLadder.F T TC gBelow dBelow.F.kp dBelow.b dBelow.m;have gNoladder:=De (P:=P) (w:=w) (mg:=mg) (base:=base) (Pt:=Pt) dNoladder.F T TC gStuck dStuck.F.kp dStuck.b dStuck.m;have gCome:=A9 (P:=P) (w:=w) (mg:=mg) (base:=base) (Pt:=Pt) dCome.F T TC n.len_;have gGo:=Bg (P:=P) (w:=w) (mg:=mg) (base:=base) (Pt:=Pt) dGo.F T TC n.len_ gSteps dSteps.F.kp dSteps.b dSteps.m gMuch dMuch.F.kp dMuch.b dMuch.m;have gDown:=Fe (P:=P) (w:=w) (mg:=mg) (base:=base) (Pt:=Pt) dDown.F T TC n.len_ gSteps dSteps.F.kp dSteps.b dSteps.m;have gListed:=Ez (P:=P) (w:=w) (mg:=mg) (base:=base) (Pt:=Pt) dListed.F n.len_ gByS kB bBy mBy;have gBears:=EO (P:=P) (w:=w) (mg:=mg) (base:=base) (Pt:=Pt) dBears.F T TC gLoads dLoads.F.kp dLoads.b dLoads.m;have gFeet:=zH (P:=P) (w:=w) (mg:=mg) (base:=base) (Pt:=Pt) dFeet.F T n.sum_ gLoads dLoads.F.kp dLoads.b dLoads.m gGL dGL.F.kp dGL.b dGL.m;have gRoom:=Bp (P:=P) (w:=w) (mg:=mg) (base:=base) (Pt:=Pt) dRoom.F T TC gCopied dCopied.F.kp dCopied.b dCopied.m gMuch dMuch.F.kp dMuch.b dMuch.m;have gHighT:=CS (P:=P) (w:=w) (mg:=mg) (base:=base) (Pt:=Pt) dHighT.F T TC gHighs dHighs.F.kp dHighs.b dHighs.m;have gWay:=Bx (P:=P) (w:=w) (mg:=mg) (base:=base) (Pt:=Pt) dWay.F T TC n.len_ gSteps dSteps.F.kp dSteps.b dSteps.m;have gTaken:=DJ (P:=P) (w:=w) (mg:=mg) (base:=base) (Pt:=Pt) dTaken.F T gListed dListed.F.kp dListed.b dListed.m gTake dTake.F.kp dTake.b dTake.m gCopied dCopied.F.kp dCopied.b dCopied.m;have gLoose:=Cy (P:=P) (w:=w) (mg:=mg) (base:=base) (Pt:=Pt) dLoose.F T gListed dListed.F.kp dListed.b dListed.m gUntie dUntie.F.kp dUntie.b dUntie.m gCopied dCopied.F.kp dCopied.b dCopied.m;have gReached:=Eu (P:=P) (w:=w) (mg:=mg) (base:=base) (Pt:=Pt) dReached.F T gListed dListed.F.kp dListed.b dListed.m gSteps dSteps.F.kp dSteps.b dSteps.m;have gCut:=zt (P:=P) (w:=w) (mg:=mg) (base:=base) (Pt:=Pt) dCut.F T TC n.len_ gCopied dCopied.F.kp dCopied.b dCopied.m gStuckP dStuckP.F.kp dStuckP.b dStuckP.m;have gMost:=zS (P:=P) (w:=w) (mg:=mg) (base:=base) (Pt:=Pt) dMost.F T TC n.len_ n.max_ gLoads dLoads.F.kp dLoads.b dLoads.m gBy kB bBy mBy;have gLook:=FF (P:=P) (w:=w) (mg:=mg) (base:=base) (Pt:=Pt) dLook.F T TC n.zip_ n.sum_;have gWhere:=FG (P:=P) (w:=w) (mg:=mg) (base:=base) (Pt:=Pt) dWhere.F T TC n.len_;have gSums:=FO (P:=P) (w:=w) (mg:=mg) (base:=base) (Pt:=Pt) dSums.F T n.len_ n.sum_ gOwn dOwn.F.kp dOwn.b dOwn.m;have gState:=Fh (P:=P) (w:=w) (mg:=mg) (base:=base) (Pt:=Pt) dState.F T n.len_;have hq1:∀q:Nat,1<=q->q<=13->∃g,((q:Int),g)∈([(1,fSoil),(2,fPut),(3,fSpan),(4,fTake),(5,fTie),(6,fUntie),(7,fLoad),(8,fUnload),(9,fLadder),(10,fNoladder),(11,fCome),(12,fGo),(13,fDown)]:List (Int×Addr)):=λq h1 h2=>by
  match q,h1,h2 with
  |1,_,_=>exact⟨fSoil,by simp⟩
  |2,_,_=>exact⟨fPut,by simp⟩
  |3,_,_=>exact⟨fSpan,by simp⟩
  |4,_,_=>exact⟨fTake,by simp⟩
  |5,_,_=>exact⟨fTie,by simp⟩
  |6,_,_=>exact⟨fUntie,by simp⟩
  |7,_,_=>exact⟨fLoad,by simp⟩
  |8,_,_=>exact⟨fUnload,by simp⟩
  |9,_,_=>exact⟨fLadder,by simp⟩
  |10,_,_=>exact⟨fNoladder,by simp⟩
  |11,_,_=>exact⟨fCome,by simp⟩
  |12,_,_=>exact⟨fGo,by simp⟩
  |13,_,_=>exact⟨fDown,by simp⟩
 have hg1:∀j g,(j,g)∈([(1,fSoil),(2,fPut),(3,fSpan),(4,fTake),(5,fTie),(6,fUntie),(7,fLoad),(8,fUnload),(9,fLadder),(10,fNoladder),(11,fCome),(12,fGo),(13,fDown)]:List (Int×Addr))->∃fd,ak P w K mg base au 8 g fd ["wall","numbers"] (eF K C Pt (Wl.cnt j.toNat) (cb j.toNat))/\aN K fd ["wall","numbers"] []/\PySem.W.keepIn K (.ref g)=true:=λj g hj=>by
  simp only[a9,gr,gs,Prod.mk.injEq]at hj;rcases hj with⟨rfl,rfl⟩|⟨rfl,rfl⟩|⟨rfl,rfl⟩|⟨rfl,rfl⟩|⟨rfl,rfl⟩|⟨rfl,rfl⟩|⟨rfl,rfl⟩|⟨rfl,rfl⟩|⟨rfl,rfl⟩|⟨rfl,rfl⟩|⟨rfl,rfl⟩|⟨rfl,rfl⟩|⟨rfl,rfl⟩
  ·exact⟨fdSoil,ak.mono gSoil (by decide),dSoil.b,dSoil.F.kp⟩
  ·exact⟨fdPut,ak.mono gPut (by decide),dPut.b,dPut.F.kp⟩
  ·exact⟨fdSpan,ak.mono gSpan (by decide),dSpan.b,dSpan.F.kp⟩
  ·exact⟨fdTake,ak.mono (ak.call gTake) (by decide),dTake.b,dTake.F.kp⟩
  ·exact⟨fdTie,ak.mono gTie (by decide),dTie.b,dTie.F.kp⟩
  ·exact⟨fdUntie,ak.mono (ak.call gUntie) (by decide),dUntie.b,dUntie.F.kp⟩
  ·exact⟨fdLoad,ak.mono gLoad (by decide),dLoad.b,dLoad.F.kp⟩
  ·exact⟨fdUnload,ak.mono gUnload (by decide),dUnload.b,dUnload.F.kp⟩
  ·exact⟨fdLadder,ak.mono gLadder (by decide),dLadder.b,dLadder.F.kp⟩
  ·exact⟨fdNoladder,ak.mono gNoladder (by decide),dNoladder.b,dNoladder.F.kp⟩
  ·exact⟨fdCome,ak.mono gCome (by decide),dCome.b,dCome.F.kp⟩
  ·exact⟨fdGo,ak.mono gGo (by decide),dGo.b,dGo.F.kp⟩
  ·exact⟨fdDown,ak.mono gDown (by decide),dDown.b,dDown.F.kp⟩
 have gChange:=Gf (P:=P) (w:=w) (mg:=mg) (base:=base) (C:=C) (Pt:=Pt) dChange.F hCh mCh hq1 hg1;have hq2:∀q:Nat,14<=q->q<=27->∃g,((q:Int),g)∈([(14,fBears),(15,fFeet),(16,fRoom),(17,fHighT),(18,fWay),(19,fTaken),(20,fLoose),(21,fReached),(22,fCut),(23,fMost),(24,fLook),(25,fWhere),(26,fSums),(27,fState)]:List (Int×Addr)):=λq h1 h2=>by
  match q,h1,h2 with
  |14,_,_=>exact⟨fBears,by simp⟩
  |15,_,_=>exact⟨fFeet,by simp⟩
  |16,_,_=>exact⟨fRoom,by simp⟩
  |17,_,_=>exact⟨fHighT,by simp⟩
  |18,_,_=>exact⟨fWay,by simp⟩
  |19,_,_=>exact⟨fTaken,by simp⟩
  |20,_,_=>exact⟨fLoose,by simp⟩
  |21,_,_=>exact⟨fReached,by simp⟩
  |22,_,_=>exact⟨fCut,by simp⟩
  |23,_,_=>exact⟨fMost,by simp⟩
  |24,_,_=>exact⟨fLook,by simp⟩
  |25,_,_=>exact⟨fWhere,by simp⟩
  |26,_,_=>exact⟨fSums,by simp⟩
  |27,_,_=>exact⟨fState,by simp⟩
  |n+28,_,h2=>exact absurd h2 (by omega)
 have hg2:∀j g,(j,g)∈([(14,fBears),(15,fFeet),(16,fRoom),(17,fHighT),(18,fWay),(19,fTaken),(20,fLoose),(21,fReached),(22,fCut),(23,fMost),(24,fLook),(25,fWhere),(26,fSums),(27,fState)]:List (Int×Addr))->∃fd,ak P w K mg base au 8 g fd ["wall","numbers"] (d6 K C Pt (Wl.cnt j.toNat) (cb j.toNat))/\aN K fd ["wall","numbers"] []/\PySem.W.keepIn K (.ref g)=true:=λj g hj=>by
  simp only[a9,gr,gs,Prod.mk.injEq]at hj;rcases hj with⟨rfl,rfl⟩|⟨rfl,rfl⟩|⟨rfl,rfl⟩|⟨rfl,rfl⟩|⟨rfl,rfl⟩|⟨rfl,rfl⟩|⟨rfl,rfl⟩|⟨rfl,rfl⟩|⟨rfl,rfl⟩|⟨rfl,rfl⟩|⟨rfl,rfl⟩|⟨rfl,rfl⟩|⟨rfl,rfl⟩|⟨rfl,rfl⟩
  ·exact⟨fdBears,ak.mono gBears (by decide),dBears.b,dBears.F.kp⟩
  ·exact⟨fdFeet,ak.mono gFeet (by decide),dFeet.b,dFeet.F.kp⟩
  ·exact⟨fdRoom,ak.mono gRoom (by decide),dRoom.b,dRoom.F.kp⟩
  ·exact⟨fdHighT,ak.mono gHighT (by decide),dHighT.b,dHighT.F.kp⟩
  ·exact⟨fdWay,ak.mono gWay (by decide),dWay.b,dWay.F.kp⟩
  ·exact⟨fdTaken,ak.mono gTaken (by decide),dTaken.b,dTaken.F.kp⟩
  ·exact⟨fdLoose,ak.mono gLoose (by decide),dLoose.b,dLoose.F.kp⟩
  ·exact⟨fdReached,ak.mono gReached (by decide),dReached.b,dReached.F.kp⟩
  ·exact⟨fdCut,ak.mono gCut (by decide),dCut.b,dCut.F.kp⟩
  ·exact⟨fdMost,ak.mono gMost (by decide),dMost.b,dMost.F.kp⟩
  ·exact⟨fdLook,ak.mono gLook (by decide),dLook.b,dLook.F.kp⟩
  ·exact⟨fdWhere,ak.mono gWhere (by decide),dWhere.b,dWhere.F.kp⟩
  ·exact⟨fdSums,ak.mono gSums (by decide),dSums.b,dSums.F.kp⟩
  ·exact⟨fdState,ak.mono gState (by decide),dState.b,dState.F.kp⟩
 have gTell:=Ej (P:=P) (w:=w) (mg:=mg) (base:=base) (C:=C) (Pt:=Pt) dTell.F hTe mTe hq2 hg2;have gBeg:=zX (P:=P) (w:=w) (mg:=mg) (base:=base) (Pt:=Pt) dBeg.F T2 TC n.all_ n.zip_ hB mB M mC gInit bI;have gTry:=F7 (P:=P) (w:=w) (mg:=mg) (base:=base) dTry.F T2 gCopied dCopied.F.kp dCopied.b dCopied.m gChange dChange.F.kp dChange.b dChange.m;have gAns:=Cf (P:=P) (w:=w) (mg:=mg) (base:=base) dAns.F T2 gBeg dBeg.b dBeg.meth gTry dTry.b dTry.meth gTell dTell.F.kp dTell.b dTell.m;exact zR dAnswers.F T2 n.len_ hA mA M2 mC2 (C3 iSc.F T2) iSc.b gAns dAns.b dAns.meth
end Wp
open PySem PySem.W PyProof.Rows
set_option maxHeartbeats 0 in
theorem PySem.Challenge.cw_wallscaffold_s01_answers_holds : PySem.Challenge.rw_wallscaffold_s01_answers.Holds := by
  w_on;refine holds_os (q:=Hd.q) (loose:=Hd.l) (Xt:=λs=>xlAt Hd.q [] s&&recOk [] s) (XP:=XL Hd.q []) (Yf:=Hd.H.obs) (Ya:=Hd.H.val) (YP:=Hd.H.says) (N:=5748) Hd.left Hd.H.of Hd.H.keeps (λs e=>xl_of s (Bool.and_eq_true_iff.mp e).1) XL.keeps (by rfl) (by rfl) (by rfl) (λs e=>recFacts_of (Bool.and_eq_true_iff.mp e).2) os_shapes (by decide +kernel) (by decide +kernel) ⟨rfl,rfl,rfl,rfl,rfl,by decide +kernel⟩ ?hw ?hc;(case hw=>exact⟨[.list [.int 27]],by decide +kernel,by decide +kernel⟩)
  k_fillS
  refine' L2.walk_specT (r:=PySem.Challenge.rw_wallscaffold_s01_answers) (k:=12) (ps:=["calls"]) (sp:=Wp.spAns) ?cT ?Pt (by decide +kernel) rfl rfl ⟨rfl,by decide,by decide⟩ (λw h Y=>PySem.W.kIn_of Y) ?nt ?tab ?F ?S
  case tab=>
    intro w mg mb s0 h G KX
    refine PySem.W.tab_of (x:="by_levels") G.T KX rfl ?_
    refine' Wp.tabIn_of ?ta ?tl ?te ?tm ?tf
    (case ta=>k_is);(case tl=>k_is);(case te=>rfl);(case tm=>k_is);(case tf=>rfl)
  case nt=>
    intro w
    kernel_rfl
  case F=>
    intro w mg fa h Y KX G hmg
    have T:=Wp.txt_mk KX G (by k_is) (by k_is) (by k_is) (by k_is) (by k_is) (by k_is) (by k_is) (by k_is) (by k_is) (by k_is) (by k_is) (by k_is) (by k_is) (by k_is) (by k_is) (by k_is) (by k_is) (by k_is) (by k_is)
    have T2:=Wp.txtS_mk KX G (by k_is) (by k_is) (by k_is) (by k_is) (by k_is) (by k_is) (by k_is) (by k_is) (by k_is)
    have TC:Wp.TxtC mg:=⟨⟨_,cH KX G (by k_is)⟩,⟨_,cH KX G (by k_is)⟩,⟨_,cH KX G (by k_is)⟩,⟨_,cH KX G (by k_is)⟩,⟨_,cH KX G (by k_is)⟩,⟨_,cH KX G (by k_is)⟩,⟨_,cH KX G (by k_is)⟩,⟨_,cH KX G (by k_is)⟩,⟨_,cH KX G (by k_is)⟩,⟨_,cH KX G (by k_is)⟩,⟨_,cH KX G (by k_is)⟩,⟨_,cH KX G (by k_is)⟩,⟨_,cH KX G (by k_is)⟩,⟨_,cH KX G (by k_is)⟩,⟨_,cH KX G (by k_is)⟩,⟨_,cH KX G (by k_is)⟩,⟨_,cH KX G (by k_is)⟩,⟨_,cH KX G (by k_is)⟩⟩
    have nB:Wp.NoB mg:=⟨gL KX G (by k_is),gL KX G (by k_is),gL KX G (by k_is),gL KX G (by k_is),gL KX G (by k_is),gL KX G (by k_is),gL KX G (by k_is),gL KX G (by k_is),gL KX G (by k_is),gL KX G (by k_is),gL KX G (by k_is),gL KX G (by k_is)⟩
    have hgb:=cH (n:="GROUND_BEARS") KX G (by k_is)
    have mB:=cH (n:="BEGIN_LIMITS") KX G (by k_is)
    have mA:=cH (n:="ARGUMENT_COUNTS") KX G (by k_is)
    have mCh:=cH (n:="CHANGES") KX G (by k_is)
    have mTe:=cH (n:="TELLS") KX G (by k_is)
    have mBy:=cH (n:="by_levels") KX G (by k_is)
    have iWall:=Wp.mtd KX T.2 (x:="__init__") (q:="Wall.__init__") (st:=Wp.sInit) (ps:=["self","bays","levels","weight","most","free"]) (by k_is) (by k_is) (by k_is) (by k_is) (by k_is) (λ_ _ _ _ _ _=>Wp.l6 λ_ _ _ _ _ _=>rfl)
    have iSc:=Wp.mtd KX T2.2 (x:="__init__") (q:="Scaffold.__init__") (st:=Wp.sScInit) (ps:=["self"]) (by k_is) (by k_is) (by k_is) (by k_is) (by k_is) (λ_ _ _ _ _ _=>Wp.l1 λ_=>rfl)
    have dAns:=Wp.mtd KX T2.2 (x:="answer") (q:="Scaffold.answer") (st:=Wp.sAnswer) (ps:=["self","number","numbers"]) (by k_is) (by k_is) (by k_is) (by k_is) (by k_is) (λ_ _ _ _ _ _=>Wp.l3 λ_ _ _=>rfl)
    have dTry:=Wp.mtd KX T2.2 (x:="try_change") (q:="Scaffold.try_change") (st:=Wp.sTry) (ps:=["self","number","numbers"]) (by k_is) (by k_is) (by k_is) (by k_is) (by k_is) (λ_ _ _ _ _ _=>Wp.l3 λ_ _ _=>rfl)
    have dBeg:=Wp.mtd KX T2.2 (x:="begin") (q:="Scaffold.begin") (st:=Wp.sBegin) (ps:=["self","numbers"]) (by k_is) (by k_is) (by k_is) (by k_is) (by k_is) (λ_ _ _ _ _ _=>Wp.l2 λ_ _=>rfl)
    have dBelow:=Wp.dfn (x:="below") (st:=Wp.sBelow) (ps:=["place"]) KX G (by k_is) (by k_is) (by k_is) (by k_is) (λ_ _ _ _ _ _=>Wp.l1 λ_=>rfl)
    have dAbove:=Wp.dfn (x:="above") (st:=Wp.sAbove) (ps:=["place"]) KX G (by k_is) (by k_is) (by k_is) (by k_is) (λ_ _ _ _ _ _=>Wp.l1 λ_=>rfl)
    have dEnds:=Wp.dfn (x:="beam_ends") (st:=Wp.sEnds) (ps:=["place"]) KX G (by k_is) (by k_is) (by k_is) (by k_is) (λ_ _ _ _ _ _=>Wp.l1 λ_=>rfl)
    have dCarr:=Wp.dfn (x:="carriers") (st:=Wp.sCarr) (ps:=["wall","place"]) KX G (by k_is) (by k_is) (by k_is) (by k_is) (λ_ _ _ _ _ _=>Wp.l2 λ_ _=>rfl)
    have dCarries:=Wp.dfn (x:="carries_some") (st:=Wp.sCarries) (ps:=["wall","place"]) KX G (by k_is) (by k_is) (by k_is) (by k_is) (λ_ _ _ _ _ _=>Wp.l2 λ_ _=>rfl)
    have dOwn:=Wp.dfn (x:="own_loads") (st:=Wp.sOwn) (ps:=["wall"]) KX G (by k_is) (by k_is) (by k_is) (by k_is) (λ_ _ _ _ _ _=>Wp.l1 λ_=>rfl)
    have dLoads:=Wp.dfn (x:="frame_loads") (st:=Wp.sLoads) (ps:=["wall"]) KX G (by k_is) (by k_is) (by k_is) (by k_is) (λ_ _ _ _ _ _=>Wp.l1 λ_=>rfl)
    have dGL:=Wp.dfn (x:="ground_loads") (st:=Wp.sGL) (ps:=["wall","loads"]) KX G (by k_is) (by k_is) (by k_is) (by k_is) (λ_ _ _ _ _ _=>Wp.l2 λ_ _=>rfl)
    have dMuch:=Wp.dfn (x:="too_much") (st:=Wp.sMuch) (ps:=["wall"]) KX G (by k_is) (by k_is) (by k_is) (by k_is) (λ_ _ _ _ _ _=>Wp.l1 λ_=>rfl)
    have dHighs:=Wp.dfn (x:="frame_heights") (st:=Wp.sHigh) (ps:=["wall"]) KX G (by k_is) (by k_is) (by k_is) (by k_is) (λ_ _ _ _ _ _=>Wp.l1 λ_=>rfl)
    have dTooHigh:=Wp.dfn (x:="too_high") (st:=Wp.sTooHigh) (ps:=["wall"]) KX G (by k_is) (by k_is) (by k_is) (by k_is) (λ_ _ _ _ _ _=>Wp.l1 λ_=>rfl)
    have dNext:=Wp.dfn (x:="next_spots") (st:=Wp.sNext) (ps:=["wall","spot"]) KX G (by k_is) (by k_is) (by k_is) (by k_is) (λ_ _ _ _ _ _=>Wp.l2 λ_ _=>rfl)
    have dSteps:=Wp.dfn (x:="steps_from") (st:=Wp.sSteps) (ps:=["wall","start"]) KX G (by k_is) (by k_is) (by k_is) (by k_is) (λ_ _ _ _ _ _=>Wp.l2 λ_ _=>rfl)
    have dStuckP:=Wp.dfn (x:="stuck_persons") (st:=Wp.sStuckP) (ps:=["wall"]) KX G (by k_is) (by k_is) (by k_is) (by k_is) (λ_ _ _ _ _ _=>Wp.l1 λ_=>rfl)
    have dStuck:=Wp.dfn (x:="somebody_stuck") (st:=Wp.sStuck) (ps:=["wall"]) KX G (by k_is) (by k_is) (by k_is) (by k_is) (λ_ _ _ _ _ _=>Wp.l1 λ_=>rfl)
    have dCopied:=Wp.dfn (x:="copied") (st:=Wp.sCopied) (ps:=["wall"]) KX G (by k_is) (by k_is) (by k_is) (by k_is) (λ_ _ _ _ _ _=>Wp.l1 λ_=>rfl)
    have dHas:=Wp.dfn (x:="has_place") (st:=Wp.sHas) (ps:=["wall","place"]) KX G (by k_is) (by k_is) (by k_is) (by k_is) (λ_ _ _ _ _ _=>Wp.l2 λ_ _=>rfl)
    have dSetUp:=Wp.dfn (x:="set_up") (st:=Wp.sSetUp) (ps:=["wall","place","kind"]) KX G (by k_is) (by k_is) (by k_is) (by k_is) (λ_ _ _ _ _ _=>Wp.l3 λ_ _ _=>rfl)
    have dSoil:=Wp.dfn (x:="soil") (st:=Wp.sSoil) (ps:=["wall","numbers"]) KX G (by k_is) (by k_is) (by k_is) (by k_is) (λ_ _ _ _ _ _=>Wp.l2 λ_ _=>rfl)
    have dPut:=Wp.dfn (x:="put") (st:=Wp.sPut) (ps:=["wall","numbers"]) KX G (by k_is) (by k_is) (by k_is) (by k_is) (λ_ _ _ _ _ _=>Wp.l2 λ_ _=>rfl)
    have dSpan:=Wp.dfn (x:="span") (st:=Wp.sSpan) (ps:=["wall","numbers"]) KX G (by k_is) (by k_is) (by k_is) (by k_is) (λ_ _ _ _ _ _=>Wp.l2 λ_ _=>rfl)
    have dTake:=Wp.dfn (x:="take") (st:=Wp.sTake) (ps:=["wall","numbers"]) KX G (by k_is) (by k_is) (by k_is) (by k_is) (λ_ _ _ _ _ _=>Wp.l2 λ_ _=>rfl)
    have dTie:=Wp.dfn (x:="tie") (st:=Wp.sTie) (ps:=["wall","numbers"]) KX G (by k_is) (by k_is) (by k_is) (by k_is) (λ_ _ _ _ _ _=>Wp.l2 λ_ _=>rfl)
    have dUntie:=Wp.dfn (x:="untie") (st:=Wp.sUntie) (ps:=["wall","numbers"]) KX G (by k_is) (by k_is) (by k_is) (by k_is) (λ_ _ _ _ _ _=>Wp.l2 λ_ _=>rfl)
    have dLoad:=Wp.dfn (x:="load") (st:=Wp.sLoad) (ps:=["wall","numbers"]) KX G (by k_is) (by k_is) (by k_is) (by k_is) (λ_ _ _ _ _ _=>Wp.l2 λ_ _=>rfl)
    have dUnload:=Wp.dfn (x:="unload") (st:=Wp.sUnload) (ps:=["wall","numbers"]) KX G (by k_is) (by k_is) (by k_is) (by k_is) (λ_ _ _ _ _ _=>Wp.l2 λ_ _=>rfl)
    have dLadder:=Wp.dfn (x:="ladder") (st:=Wp.sLadder) (ps:=["wall","numbers"]) KX G (by k_is) (by k_is) (by k_is) (by k_is) (λ_ _ _ _ _ _=>Wp.l2 λ_ _=>rfl)
    have dNoladder:=Wp.dfn (x:="noladder") (st:=Wp.sNoladder) (ps:=["wall","numbers"]) KX G (by k_is) (by k_is) (by k_is) (by k_is) (λ_ _ _ _ _ _=>Wp.l2 λ_ _=>rfl)
    have dCome:=Wp.dfn (x:="come") (st:=Wp.sCome) (ps:=["wall","numbers"]) KX G (by k_is) (by k_is) (by k_is) (by k_is) (λ_ _ _ _ _ _=>Wp.l2 λ_ _=>rfl)
    have dGo:=Wp.dfn (x:="go") (st:=Wp.sGo) (ps:=["wall","numbers"]) KX G (by k_is) (by k_is) (by k_is) (by k_is) (λ_ _ _ _ _ _=>Wp.l2 λ_ _=>rfl)
    have dDown:=Wp.dfn (x:="down") (st:=Wp.sDown) (ps:=["wall","numbers"]) KX G (by k_is) (by k_is) (by k_is) (by k_is) (λ_ _ _ _ _ _=>Wp.l2 λ_ _=>rfl)
    have dChange:=Wp.dfn (x:="change") (st:=Wp.sChange) (ps:=["wall","number","numbers"]) KX G (by k_is) (by k_is) (by k_is) (by k_is) (λ_ _ _ _ _ _=>Wp.l3 λ_ _ _=>rfl)
    have dListed:=Wp.dfn (x:="listed") (st:=Wp.sListed) (ps:=["places"]) KX G (by k_is) (by k_is) (by k_is) (by k_is) (λ_ _ _ _ _ _=>Wp.l1 λ_=>rfl)
    have dBears:=Wp.dfn (x:="bears") (st:=Wp.sBears) (ps:=["wall","numbers"]) KX G (by k_is) (by k_is) (by k_is) (by k_is) (λ_ _ _ _ _ _=>Wp.l2 λ_ _=>rfl)
    have dFeet:=Wp.dfn (x:="feet") (st:=Wp.sFeet) (ps:=["wall","numbers"]) KX G (by k_is) (by k_is) (by k_is) (by k_is) (λ_ _ _ _ _ _=>Wp.l2 λ_ _=>rfl)
    have dRoom:=Wp.dfn (x:="room") (st:=Wp.sRoom) (ps:=["wall","numbers"]) KX G (by k_is) (by k_is) (by k_is) (by k_is) (λ_ _ _ _ _ _=>Wp.l2 λ_ _=>rfl)
    have dHighT:=Wp.dfn (x:="high") (st:=Wp.sHighT) (ps:=["wall","numbers"]) KX G (by k_is) (by k_is) (by k_is) (by k_is) (λ_ _ _ _ _ _=>Wp.l2 λ_ _=>rfl)
    have dWay:=Wp.dfn (x:="way") (st:=Wp.sWay) (ps:=["wall","numbers"]) KX G (by k_is) (by k_is) (by k_is) (by k_is) (λ_ _ _ _ _ _=>Wp.l2 λ_ _=>rfl)
    have dTaken:=Wp.dfn (x:="taken_now") (st:=Wp.sTaken) (ps:=["wall","numbers"]) KX G (by k_is) (by k_is) (by k_is) (by k_is) (λ_ _ _ _ _ _=>Wp.l2 λ_ _=>rfl)
    have dLoose:=Wp.dfn (x:="loose") (st:=Wp.sLoose) (ps:=["wall","numbers"]) KX G (by k_is) (by k_is) (by k_is) (by k_is) (λ_ _ _ _ _ _=>Wp.l2 λ_ _=>rfl)
    have dReached:=Wp.dfn (x:="reached") (st:=Wp.sReached) (ps:=["wall","numbers"]) KX G (by k_is) (by k_is) (by k_is) (by k_is) (λ_ _ _ _ _ _=>Wp.l2 λ_ _=>rfl)
    have dCut:=Wp.dfn (x:="cut") (st:=Wp.sCut) (ps:=["wall","numbers"]) KX G (by k_is) (by k_is) (by k_is) (by k_is) (λ_ _ _ _ _ _=>Wp.l2 λ_ _=>rfl)
    have dMost:=Wp.dfn (x:="most") (st:=Wp.sMost) (ps:=["wall","numbers"]) KX G (by k_is) (by k_is) (by k_is) (by k_is) (λ_ _ _ _ _ _=>Wp.l2 λ_ _=>rfl)
    have dLook:=Wp.dfn (x:="look") (st:=Wp.sLook) (ps:=["wall","numbers"]) KX G (by k_is) (by k_is) (by k_is) (by k_is) (λ_ _ _ _ _ _=>Wp.l2 λ_ _=>rfl)
    have dWhere:=Wp.dfn (x:="where") (st:=Wp.sWhere) (ps:=["wall","numbers"]) KX G (by k_is) (by k_is) (by k_is) (by k_is) (λ_ _ _ _ _ _=>Wp.l2 λ_ _=>rfl)
    have dSums:=Wp.dfn (x:="sums") (st:=Wp.sSums) (ps:=["wall","numbers"]) KX G (by k_is) (by k_is) (by k_is) (by k_is) (λ_ _ _ _ _ _=>Wp.l2 λ_ _=>rfl)
    have dState:=Wp.dfn (x:="state") (st:=Wp.sState) (ps:=["wall","numbers"]) KX G (by k_is) (by k_is) (by k_is) (by k_is) (λ_ _ _ _ _ _=>Wp.l2 λ_ _=>rfl)
    have dTell:=Wp.dfn (x:="tell") (st:=Wp.sTell) (ps:=["wall","number","numbers"]) KX G (by k_is) (by k_is) (by k_is) (by k_is) (λ_ _ _ _ _ _=>Wp.l3 λ_ _ _=>rfl)
    have dAnswers:=Wp.dfn (x:="answers") (st:=Wp.sAnswers) (ps:=["calls"]) KX G (by k_is) (by k_is) (by k_is) (by k_is) (λ_ _ _ _ _ _=>Wp.l1 λ_=>rfl)
    have e:=hmg.symm.trans dAnswers.m
    cases e
    refine'⟨_,?bd,?ok⟩
    case ok=>
     intro base KB GB hC hPb hbm
     refine' Wp.assemble T.1 TC T2.1 nB hgb T.2 T2.2 ?k1 ?k2 ?k3 ?k4 mB ?hB mA ?hA iWall iSc dAns dTry dBeg ?lB ?cB ?kB mBy hC hPb hbm dBelow dAbove dEnds dCarr dCarries dOwn dLoads dGL dMuch dHighs dTooHigh dNext dSteps dStuckP dStuck dCopied dHas dSetUp dSoil dPut dSpan dTake dTie dUntie dLoad dUnload dLadder dNoladder dCome dGo dDown dChange dListed dBears dFeet dRoom dHighT dWay dTaken dLoose dReached dCut dMost dLook dWhere dSums dState dTell dAnswers mCh ?hCh mTe ?hTe
     (case k1=>k_is);(case k2=>k_is);(case k3=>k_is);(case k4=>k_is)
     case hB=>
       refine' Wp.tupK ?e ?z ?v
       (case e=>k_is)
       (case z=>show 5<=sizeLine;decide)
       (case v=>exact .cons ⟨_,rfl⟩ (.cons ⟨_,rfl⟩ (.cons ⟨_,rfl⟩ (.cons ⟨_,rfl⟩ (.cons ⟨_,rfl⟩ .nil)))))
     case hA=>
       refine' Wp.tupK ?e ?z ?v
       (case e=>k_is)
       (case z=>show 28<=sizeLine;decide)
       (case v=>exact .cons ⟨_,rfl⟩ (.cons ⟨_,rfl⟩ (.cons ⟨_,rfl⟩ (.cons ⟨_,rfl⟩ (.cons ⟨_,rfl⟩ (.cons ⟨_,rfl⟩ (.cons ⟨_,rfl⟩ (.cons ⟨_,rfl⟩ (.cons ⟨_,rfl⟩ (.cons ⟨_,rfl⟩ (.cons ⟨_,rfl⟩ (.cons ⟨_,rfl⟩ (.cons ⟨_,rfl⟩ (.cons ⟨_,rfl⟩ (.cons ⟨_,rfl⟩ (.cons ⟨_,rfl⟩ (.cons ⟨_,rfl⟩ (.cons ⟨_,rfl⟩ (.cons ⟨_,rfl⟩ (.cons ⟨_,rfl⟩ (.cons ⟨_,rfl⟩ (.cons ⟨_,rfl⟩ (.cons ⟨_,rfl⟩ (.cons ⟨_,rfl⟩ (.cons ⟨_,rfl⟩ (.cons ⟨_,rfl⟩ (.cons ⟨_,rfl⟩ (.cons ⟨_,rfl⟩ (.nil)))))))))))))))))))))))))))))
     (case lB=>k_is);(case cB=>k_is);(case kB=>k_is)
     case hCh=>kernel_rfl
     case hTe=>kernel_rfl
    case bd=>
      intro s us hu
      match us,hu with
      | [_],_=>exact .of_eq rfl
  case S=>
    intro K H xs a hO hwi hask hx
    cases hx with
    |cons h1 h2=>
      cases h2
      cases h1 with
      |lst hs ha=>
        have e:=L2.ints_dw a.1 _ ha
        subst e
        exact⟨_,a.1,rfl,hs,hask,.inl hO,λH' p _ hp=>.lst (L2.SqL.of hp) (L2.dw_ints _)⟩
