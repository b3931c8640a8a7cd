import PyProof.Rows.All
import PySem.Challenge.RW_shufflegroups_s01_answers
import Open.SpecLaws
import KE.OsHead
import KE.OsGo
import OpenK.AllK
import Wide.All
import Wide.FinOn
import PyProof.EqAt
import PyProof.EqKinds
import PyProof.TupleCall
import KE.BitLaws
import KE.KDictSum
import PyProof.Rows.SortShellAny
import PyProof.Rows.TupDisplay
import KE.KNest
import KE.KMinKey
import PyProof.Rows.CallKwBuiltin
import KE.KRevIter
import PyProof.Rows.SetFrom
import PyProof.Draws
import PyProof.ZipIter
import VgSpec
import PyWqbaaz
set_option Elab.async false
set_option linter.all false
set_option maxRecDepth 100000
set_option maxHeartbeats 0
open List (range mem_cons_self mem_cons_of_mem mem_append_left getElem?_set_self getElem?_set_ne mem_append_right length_cons map_cons length_map append_nil of_mem_zip replicate length length_take getElem?_append_right getElem?_append_left getElem?_map mem_of_getElem? length_append length_drop size_toArray length_set all_cons replicate_succ flatten_cons foldl append_assoc foldl_cons nil_append map_nil getElem?_eq_getElem getD_eq_getElem?_getD any_cons all_map forIn_nil forIn_cons lookup_cons getElem?_eq_none mem_cons all_eq_true find?_cons length_nil getElem?_range take_of_length_le take_add_one getElem_of_mem drop_eq_getElem_cons drop_eq_nil_of_le not_mem_nil map_append foldl_append mem_append getElem?_of_mem getElem_mem mem_map length_pos_of_mem nodup_range mem_filter contains_iff_mem mem_range length_range map_map map_congr_left map_id take_append_drop filter_cons filter_filter filter_congr flatMap_cons mem_of_mem_take ext_getElem getElem_map length_filter_le map_take map_drop range_succ take_length mem_singleton filter_append)
open Nat (lt_of_lt_of_le lt_irrefl ne_of_lt le_trans le_of_lt ne_of_gt le_refl zero_le le_of_eq lt_succ_self le_succ succ_mul add_comm mul_comm le_of_succ_le lt_succ_of_lt le_add_right lt_trichotomy mod_eq_of_lt add_mul one_mul add_mod le_of_dvd mod_eq_zero_of_dvd dvd_of_mod_eq_zero Coprime pow_succ mod_lt div_add_mod mul_one pow_add two_pow_pos mul_assoc mul_le_mul_right dvd_trans pow_dvd_pow min_eq_left)
open PySem.W (instObj methodObj hideAll hideAll_size hideAll_get of_hideAll hideAll_none Frag lookIn plainGet hasDictIn handedIn plainGet_of plainOver takerIn makesIn typeIn emptyDict methodCall_KW callWith_K cellsFrom_some ktu_apart WRecords fnX tabObj callWith_F envX WalkOS mg_of tab_of codeHd_of_K kIn_of)
open PySem.Heap (lt_size get?_push_of_some get?_push_size size_push Ns)
open Bool (and_eq_true or_eq_true noConfusion not_eq_true')
open PySem.F (slot_list_index entry_min_loop plain_min_loop kind_min plain_min entry_min plainAttrs_list type_list_index)
open Int (toNat toNat_natCast)
open Array (mk length_toList toList getElem?_toList)
open Vg02 (central classes isSimple series shape different)
open Vg03 (tooMany TRIED Reply Call)
open Vg01 (ofShuffles)
open PyWqbaaz (answers_asked answers calls)
open Classical (byContradiction)
open VeilNeutral (nat? nats? callOf)
abbrev GmT:=PySem.Str->Option PySem.Value
abbrev LpT:=List (PySem.Addr×PySem.Obj)
abbrev DW:=List Nat
abbrev L4:=List DW
abbrev L5:=PySem.Value->PySem.Shared->Prop
abbrev Nc:=@Option.some.inj
theorem Nd{α}{l:List α}{i:Nat}{a:α}(h:l[i]?=some a):∃h:i<l.length,l[i]=a:=List.getElem?_eq_some_iff.mp h
theorem Nf{α}{a b:α}{l:List α}(h:a∈b::l):a=b\/a∈l:=List.mem_cons.mp h
theorem Ng{α β}{f:α->β}{b:β}{l:List α}(h:b∈l.map f):∃a,a∈l/\f a=b:=List.mem_map.mp h
abbrev Nh:=@Prod.mk.inj
abbrev Ni:=Bool.false_ne_true
theorem Nj{α}{a:α}{s t:List α}(h:a∈s++t):a∈s\/a∈t:=List.mem_append.mp h
namespace L2
open PySem
def inClass(s:Stmt)(j:Nat):Stmt:=match s with
 |.ClassDef _ _ _ body _ _ _ _ _ _ _=>body.getD j (.Pass ⟨0,0,0,0⟩)
 |_=>.Pass ⟨0,0,0,0⟩
def bD(s:Stmt):Arguments:=match s with
 |.FunctionDef _ a _ _ _ _ _ _ _ _=>a
 |_=>{ posonlyargs:=[],args:=[],vararg:=none,kwonlyargs:=[],kw_defaults:=[],kwarg:=none,defaults:=[] }
def bh(s:Stmt):List Stmt:=match s with
 |.FunctionDef _ _ b _ _ _ _ _ _ _=>b
 |_=>[]
def af(s:Stmt):Scope:=match s with
 |.FunctionDef _ _ _ _ _ _ sc _ _ _=>sc
 |_=>{ kind:=.function,names:=[],isGenerator:=false,isCoroutine:=false }
end L2
namespace Pg
open PySem
def top(i:Nat):Stmt:=PySem.Challenge.pw_shufflegroups_s01_answers.main.body.getD i (.Pass ⟨0,0,0,0⟩)
end Pg
namespace Hd
open PySem PySem.W PyProof.Rows L2 Pg
open PySem.W.Fast (te10156331382660048174 tw10156331382660048174 te11892475500146522536 tw11892475500146522536 te6613529449190102663 tw6613529449190102663 te14364793385576792824 tw14364793385576792824)
noncomputable def jg(p:Program)(w:World)(n₀:Nat)(ann:Option Value):Nat->SharedT->Thread->Option SharedT
 |0,_,_=>none
 |n+1,s,t=>match through t with
  |true=>some s
  |false=>match tw6613529449190102663 n₀ ann t with
   |false=>none
   |true=>match tw10156331382660048174 (tw11892475500146522536 tw14364793385576792824) p w s t with
    |some (s',t')=>jg p w n₀ ann n s' t'
    |none=>none
theorem ow{p:Program}{w:World}{n₀:Nat}{ann:Option Value}:∀{n:Nat}{s s':SharedT}{t:Thread},jg p w n₀ ann n s t=some s'->topRun treeTable p w n₀ ann n s.abs t=some s'.abs
 |0,_,_,_,h=>by cases h
 |n+1,s,s',t,h=>by
  unfold jg at h
  rw[<-te10156331382660048174,<-te11892475500146522536,<-te6613529449190102663,<-te14364793385576792824]at h
  unfold topRun
  cases he:through t with
  |true=>rw[he]at h;cases h;rfl
  |false=>
   rw[he]at h
   cases hk:stepOk n₀ ann t with
   |false=>rw[hk]at h;cases h
   |true=>
    rw[hk]at h
    cases hs:stepT (denote treeTable) p w s t with
    |none=>rw[hs]at h;cases h
    |some r=>obtain⟨s₂,t₂⟩:=r;rw[hs]at h;rw[stepT_spec hs];exact ow h
noncomputable def bT(P:Params):BT:=((boot_heap P).objs.toList.zipIdx).foldl (fun t x=>t.ins x.2 x.1) .nil
noncomputable def sT(P:Params)(os:OsState):SharedT:=⟨bT P,11,{},mk [],boot_drawn,boot_toks,os⟩
theorem EA(P:Params)(os:OsState):(sT P os).abs=⟨boot_heap P,mk [],boot_drawn,boot_toks,os⟩:=by kernel_rfl
def kV:Program:={ PySem.Challenge.pw_shufflegroups_s01_answers with main:={ PySem.Challenge.pw_shufflegroups_s01_answers.main with body:=[45,38,32,28,13,7,0].foldl (fun l i=>l.eraseIdx i) PySem.Challenge.pw_shufflegroups_s01_answers.main.body } }
def kL:List PySem.Str:=["FORMS","ASKING","PUTTING"]
def kD(k:Nat)(l:List DictEntry):Obj:={ cls:=.type "dict",data:=.dict l.toArray k }
def kJ(i t:Nat)(v:Value):DictEntry:={ hash:=i,key:=.int i t,val:=v }
def kE(P:Params)(x:PySem.Str)(t:Nat)(v:Value):DictEntry:={ hash:=PyData.keyHash P x,key:=.str x t,val:=v }
def kT(x:PySem.Str)(a n t u:Nat):Obj:={ cls:=.type "type",data:=.cls { name:=x,bases:=[.type "object"],mro:=[.ref a,.type "object"],ns:=n,qualname:=x },slots:=#[none,none,some (.str x t),some (.str x u),some (.builtin "object.__new__"),some (.bool true)] }
def kR(a:Nat):Value:=if a=0 then .none else .ref a
def kC(x q:PySem.Str)(t l n r p a b c k u:Nat):Obj:={ cls:=.type "code",data:=.fields #[.str x t,.str q (t+1),.str "/claim/cut.py" (t+2),.int l 0,.int n 0,.int 0 0,.int 0 0,.int 3 0,.ref r,.bool true,.int 181 0,.ref p,.none,kR a,kR b,kR c,.int k 0,.int l 0,.str "/claim/cut.py" u] }
def kG(x q:PySem.Str)(i j:Nat)(m:Value)(c:Nat):Obj:={ cls:=.type "function",data:=.func (fnOf x q (bD (inClass (top i) j)) (bh (inClass (top i) j)) (af (inClass (top i) j)) .none .none .none m none (.ref c) .none) }
def kF(x:PySem.Str)(i:Nat)(m:Value)(c:Nat):Obj:={ cls:=.type "function",data:=.func (fnOf x x (bD (top i)) (bh (top i)) (af (top i)) .none .none .none m none (.ref c) .none) }
def kU(x:PySem.Str)(t l n i k:Nat)(q:PySem.Str:=x):Obj:=kC x q t l n (i-5) (i-4) (i-3) (i-2) (i-1) k (k+1)
def kW(x:PySem.Str)(t l n i k:Nat)(q:PySem.Str:=x):Obj:=kC x q t l n (i-3) (i-2) 0 0 (i-1) k (k+1)
def kP(P:Params)(x:PySem.Str)(t a:Nat):DictEntry:=kE P x t (.ref a)
def kI(i t a:Nat):DictEntry:=kJ i t (.ref a)
def kH(i t:Nat)(s:PySem.Str)(u:Nat):DictEntry:=kJ i t (.str s u)
def JQ:Value:=.str "shufflegroups.maps" 187
def Cd:Value:=.str "shufflegroups.structure" 239
def vx:Value:=.str "shufflegroups.subsets" 342
def Lx:Value:=.str "shufflegroups.quotients" 459
def Kw:Value:=.str "shufflegroups.shuffles" 479
def Im:Value:=.str "shufflegroups.subgroups" 515
def gJ:Value:=.str "shufflegroups.groups" 562
def kK(P:Params):Frag:=(nat_lit 2,{ cls:=.none,data:=.dict #[] })::(nat_lit 3,kD 89 (kE P "__name__" 165 (.str "shufflegroups.groups" 562)::kE P "__doc__" 166 .none::kE P "__package__" 167 .none::kE P "__loader__" 168 (.builtin "__main__.__loader__#opaque")::kE P "__spec__" 169 .none::kP P "__annotations__" 170 6::kP P "__builtins__" 171 4::kE P "__file__" 173 (.str "/claim/cut.py" 172)::kE P "__cached__" 174 .none::kE P "MOST_CHOICES" 190 (.int 4096 189)::kP P "too_many_choices" 200 21::kP P "choices" 206 26::kP P "extended" 221 33::kP P "all_maps" 232 40::kP P "first_same" 238 45::kE P "MOST_IN_A_GROUP" 242 (.int 60 241)::kE P "MOST_GENERATORS" 244 (.int 4 243)::kP P "Group" 329 102::kP P "generated" 335 111::kP P "table_of" 341 116::kP P "is_set" 353 123::kP P "least_subgroup" 366 130::kP P "turned_by" 372 135::kP P "all_turned" 383 142::kP P "least_normal" 391 149::kP P "is_subgroup" 399 156::kP P "is_normal" 407 163::kP P "commutes" 413 168::kP P "commuting" 419 173::kP P "keeping" 425 178::kP P "mixed_pair" 434 185::kP P "mixed_of" 446 192::kP P "least_in_classes" 452 197::kP P "least_in_cosets" 458 202::kP P "quotient" 466 207::kP P "paired" 472 212::kP P "shape_of" 478 217::kE P "MOST_PLACES" 482 (.int 6 481)::kP P "unmoved" 489 224::kP P "first_then" 495 229::kP P "is_shuffle" 503 236::kP P "parted" 514 243::kP P "row_of_mixed" 527 250::kP P "is_prime" 533 255::kP P "greatest_power" 542 262::kP P "falling" 549 269::kP P "prime_subgroup" 555 274::kP P "is_simple" 561 279::kE P "PLACES" 565 (.int 3 564)::kP P "FORMS" 641 280::kE P "ROWS" 643 (.str "as" 642)::kP P "Reader" 695 319::kP P "counted" 702 330::kP P "parts" 709 337::kP P "size" 716 344::kP P "name" 724 351::kP P "number" 733 358::kP P "word" 741 365::kP P "times" 750 372::kP P "inverse" 758 379::kP P "power" 767 386::kP P "order" 775 393::kP P "made" 783 400::kP P "kind" 791 407::kP P "normal" 799 414::kP P "central" 807 421::kP P "stay" 815 428::kP P "mixed" 824 435::kP P "classes" 831 442::kP P "cosets" 839 449::kP P "series" 845 454::kP P "prime" 853 461::kP P "shape" 860 468::kP P "simple" 867 475::kP P "same" 876 482::kP P "maps" 884 489::kP P "ASKING" 929 490::kP P "ask" 938 498::kP P "put" 947 505::kP P "make" 959 512::kP P "over" 969 519::kP P "pairs" 980 526::kP P "PUTTING" 987 527::kP P "fits_places" 996 534::kP P "fits_group" 1005 541::kP P "all_fit" 1017 548::kP P "answer" 1023 553::kP P "take_given" 1033 560::kP P "answers" 1045 567::[]))::(nat_lit 20,kU "too_many_choices" 191 3 2 20 198)::(nat_lit 21,kF "too_many_choices" 2 JQ 20)::(nat_lit 25,kW "choices" 201 8 2 25 204)::(nat_lit 26,kF "choices" 3 JQ 25)::(nat_lit 32,kU "extended" 207 16 3 32 219)::(nat_lit 33,kF "extended" 4 JQ 32)::(nat_lit 39,kU "all_maps" 222 28 2 39 230)::(nat_lit 40,kF "all_maps" 5 JQ 39)::(nat_lit 44,kW "first_same" 233 35 2 44 236)::(nat_lit 45,kF "first_same" 6 JQ 44)::(nat_lit 56,kW "__init__" 257 44 5 56 260 "Group.__init__")::(nat_lit 57,kG "__init__" "Group.__init__" 10 0 Cd 56)::(nat_lit 63,kU "size" 263 51 1 63 267 "Group.size")::(nat_lit 64,kG "size" "Group.size" 10 1 Cd 63)::(nat_lit 70,kU "times" 270 54 3 70 276 "Group.times")::(nat_lit 71,kG "times" "Group.times" 10 2 Cd 70)::(nat_lit 77,kU "inverse" 279 57 2 77 284 "Group.inverse")::(nat_lit 78,kG "inverse" "Group.inverse" 10 3 Cd 77)::(nat_lit 84,kU "turned" 287 60 3 84 293 "Group.turned")::(nat_lit 85,kG "turned" "Group.turned" 10 4 Cd 84)::(nat_lit 91,kU "order" 296 63 2 91 303 "Group.order")::(nat_lit 92,kG "order" "Group.order" 10 5 Cd 91)::(nat_lit 98,kU "power" 306 71 3 98 314 "Group.power")::(nat_lit 99,kG "power" "Group.power" 10 6 Cd 98)::(nat_lit 101,kD 4 (kE P "__module__" 252 (.str "shufflegroups.structure" 239)::kE P "__firstlineno__" 256 (.int 42 255)::kP P "__init__" 262 57::kP P "size" 269 64::kP P "times" 278 71::kP P "inverse" 286 78::kP P "turned" 295 85::kP P "order" 305 92::kP P "power" 316 99::kP P "__static_attributes__" 322 100::kP P "__dict__" 324 103::kP P "__weakref__" 326 104::kE P "__doc__" 327 .none::[]))::(nat_lit 102,kT "Group" 102 101 245 253)::(nat_lit 110,kW "generated" 330 76 3 110 333)::(nat_lit 111,kF "generated" 11 Cd 110)::(nat_lit 115,kW "table_of" 336 92 3 115 339)::(nat_lit 116,kF "table_of" 12 Cd 115)::(nat_lit 122,kU "is_set" 344 98 2 122 351)::(nat_lit 123,kF "is_set" 14 vx 122)::(nat_lit 129,kU "least_subgroup" 354 105 2 129 364)::(nat_lit 130,kF "least_subgroup" 15 vx 129)::(nat_lit 134,kW "turned_by" 367 117 3 134 370)::(nat_lit 135,kF "turned_by" 16 vx 134)::(nat_lit 141,kU "all_turned" 373 119 2 141 381)::(nat_lit 142,kF "all_turned" 17 vx 141)::(nat_lit 148,kU "least_normal" 384 125 2 148 389)::(nat_lit 149,kF "least_normal" 18 vx 148)::(nat_lit 155,kU "is_subgroup" 392 127 2 155 397)::(nat_lit 156,kF "is_subgroup" 19 vx 155)::(nat_lit 162,kU "is_normal" 400 129 2 162 405)::(nat_lit 163,kF "is_normal" 20 vx 162)::(nat_lit 167,kW "commutes" 408 131 3 167 411)::(nat_lit 168,kF "commutes" 21 vx 167)::(nat_lit 172,kW "commuting" 414 133 2 172 417)::(nat_lit 173,kF "commuting" 22 vx 172)::(nat_lit 177,kW "keeping" 420 135 2 177 423)::(nat_lit 178,kF "keeping" 23 vx 177)::(nat_lit 184,kU "mixed_pair" 426 137 3 184 432)::(nat_lit 185,kF "mixed_pair" 24 vx 184)::(nat_lit 191,kU "mixed_of" 435 139 3 191 444)::(nat_lit 192,kF "mixed_of" 25 vx 191)::(nat_lit 196,kW "least_in_classes" 447 145 1 196 450)::(nat_lit 197,kF "least_in_classes" 26 vx 196)::(nat_lit 201,kW "least_in_cosets" 453 147 2 201 456)::(nat_lit 202,kF "least_in_cosets" 27 vx 201)::(nat_lit 206,kW "quotient" 461 150 2 206 464)::(nat_lit 207,kF "quotient" 29 Lx 206)::(nat_lit 211,kW "paired" 467 156 2 211 470)::(nat_lit 212,kF "paired" 30 Lx 211)::(nat_lit 216,kW "shape_of" 473 165 1 216 476)::(nat_lit 217,kF "shape_of" 31 Lx 216)::(nat_lit 223,kU "unmoved" 483 177 1 223 487)::(nat_lit 224,kF "unmoved" 34 Kw 223)::(nat_lit 228,kW "first_then" 490 179 2 228 493)::(nat_lit 229,kF "first_then" 35 Kw 228)::(nat_lit 235,kU "is_shuffle" 496 181 2 235 501)::(nat_lit 236,kF "is_shuffle" 36 Kw 235)::(nat_lit 242,kU "parted" 504 183 2 242 512)::(nat_lit 243,kF "parted" 37 Kw 242)::(nat_lit 249,kU "row_of_mixed" 517 196 2 249 525)::(nat_lit 250,kF "row_of_mixed" 39 Im 249)::(nat_lit 254,kW "is_prime" 528 204 1 254 531)::(nat_lit 255,kF "is_prime" 40 Im 254)::(nat_lit 261,kU "greatest_power" 534 206 2 261 540)::(nat_lit 262,kF "greatest_power" 41 Im 261)::(nat_lit 268,kU "falling" 543 211 1 268 547)::(nat_lit 269,kF "falling" 42 Im 268)::(nat_lit 273,kW "prime_subgroup" 550 213 2 273 553)::(nat_lit 274,kF "prime_subgroup" 43 Im 273)::(nat_lit 278,kW "is_simple" 556 221 1 278 559)::(nat_lit 279,kF "is_simple" 44 Im 278)::(nat_lit 280,kD 25 (kH 1 566 "dna" 567::kH 2 569 "k" 570::kH 3 572 "ki" 573::kH 4 575 "ka" 576::kH 5 578 "ki" 579::kH 6 581 "kii" 582::kH 7 584 "ki" 585::kH 8 587 "kin" 588::kH 9 590 "ki" 591::kH 10 593 "ks" 594::kH 11 596 "ks" 597::kH 12 599 "ks" 600::kH 13 602 "ks" 603::kH 14 605 "ks" 606::kH 15 608 "kss" 609::kH 16 611 "k" 612::kH 17 614 "ks" 615::kH 18 617 "kn" 618::kH 19 619 "kn" 620::kH 20 621 "k" 622::kH 21 623 "k" 624::kH 22 625 "dks" 626::kH 23 627 "dkk" 628::kH 24 629 "kk" 630::kH 25 631 "kk" 632::[]))::(nat_lit 294,kU "__init__" 656 231 2 294 661 "Reader.__init__")::(nat_lit 295,kG "__init__" "Reader.__init__" 49 0 gJ 294)::(nat_lit 301,kU "ended" 664 235 1 301 668 "Reader.ended")::(nat_lit 302,kG "ended" "Reader.ended" 49 1 gJ 301)::(nat_lit 308,kU "take_number" 671 238 1 308 675 "Reader.take_number")::(nat_lit 309,kG "take_number" "Reader.take_number" 49 2 gJ 308)::(nat_lit 315,kU "take_row" 678 242 1 315 683 "Reader.take_row")::(nat_lit 316,kG "take_row" "Reader.take_row" 49 3 gJ 315)::(nat_lit 318,kD 4 (kE P "__module__" 651 (.str "shufflegroups.groups" 562)::kE P "__firstlineno__" 655 (.int 229 654)::kP P "__init__" 663 295::kP P "ended" 670 302::kP P "take_number" 677 309::kP P "take_row" 685 316::kP P "__static_attributes__" 688 317::kP P "__dict__" 690 320::kP P "__weakref__" 692 321::kE P "__doc__" 693 .none::[]))::(nat_lit 319,kT "Reader" 319 318 644 652)::(nat_lit 329,kU "counted" 696 246 1 329 700)::(nat_lit 330,kF "counted" 50 gJ 329)::(nat_lit 336,kU "parts" 703 248 1 336 707)::(nat_lit 337,kF "parts" 51 gJ 336)::(nat_lit 343,kU "size" 710 250 1 343 714)::(nat_lit 344,kF "size" 52 gJ 343)::(nat_lit 350,kU "name" 717 252 2 350 722)::(nat_lit 351,kF "name" 53 gJ 350)::(nat_lit 357,kU "number" 725 254 2 357 731)::(nat_lit 358,kF "number" 54 gJ 357)::(nat_lit 364,kU "word" 734 259 2 364 739)::(nat_lit 365,kF "word" 55 gJ 364)::(nat_lit 371,kU "times" 742 261 3 371 748)::(nat_lit 372,kF "times" 56 gJ 371)::(nat_lit 378,kU "inverse" 751 263 2 378 756)::(nat_lit 379,kF "inverse" 57 gJ 378)::(nat_lit 385,kU "power" 759 265 3 385 765)::(nat_lit 386,kF "power" 58 gJ 385)::(nat_lit 392,kU "order" 768 267 2 392 773)::(nat_lit 393,kF "order" 59 gJ 392)::(nat_lit 399,kU "made" 776 269 2 399 781)::(nat_lit 400,kF "made" 60 gJ 399)::(nat_lit 406,kU "kind" 784 271 2 406 789)::(nat_lit 407,kF "kind" 61 gJ 406)::(nat_lit 413,kU "normal" 792 277 2 413 797)::(nat_lit 414,kF "normal" 62 gJ 413)::(nat_lit 420,kU "central" 800 279 2 420 805)::(nat_lit 421,kF "central" 63 gJ 420)::(nat_lit 427,kU "stay" 808 281 2 427 813)::(nat_lit 428,kF "stay" 64 gJ 427)::(nat_lit 434,kU "mixed" 816 283 3 434 822)::(nat_lit 435,kF "mixed" 65 gJ 434)::(nat_lit 441,kU "classes" 825 285 1 441 829)::(nat_lit 442,kF "classes" 66 gJ 441)::(nat_lit 448,kU "cosets" 832 287 2 448 837)::(nat_lit 449,kF "cosets" 67 gJ 448)::(nat_lit 453,kW "series" 840 291 2 453 843)::(nat_lit 454,kF "series" 68 gJ 453)::(nat_lit 460,kU "prime" 846 293 2 460 851)::(nat_lit 461,kF "prime" 69 gJ 460)::(nat_lit 467,kU "shape" 854 297 1 467 858)::(nat_lit 468,kF "shape" 70 gJ 467)::(nat_lit 474,kU "simple" 861 299 1 474 865)::(nat_lit 475,kF "simple" 71 gJ 474)::(nat_lit 481,kU "same" 868 301 2 481 874)::(nat_lit 482,kF "same" 72 gJ 481)::(nat_lit 488,kU "maps" 877 306 2 488 882)::(nat_lit 489,kF "maps" 73 gJ 488)::(nat_lit 490,kD 22 (kI 2 885 344::kI 3 887 351::kI 4 889 358::kI 5 891 365::kI 6 893 372::kI 7 895 379::kI 8 897 386::kI 9 899 393::kI 10 901 400::kI 11 903 407::kI 12 905 414::kI 13 907 421::kI 14 909 428::kI 15 911 435::kI 16 913 442::kI 17 915 449::kI 18 917 454::kI 19 919 461::kI 20 920 468::kI 21 921 475::kI 24 922 482::kI 25 923 489::[]))::(nat_lit 497,kU "ask" 930 311 2 497 936)::(nat_lit 498,kF "ask" 75 gJ 497)::(nat_lit 504,kU "put" 939 318 3 504 945)::(nat_lit 505,kF "put" 76 gJ 504)::(nat_lit 511,kU "make" 948 321 4 511 957)::(nat_lit 512,kF "make" 77 gJ 511)::(nat_lit 518,kU "over" 960 329 4 518 967)::(nat_lit 519,kF "over" 78 gJ 518)::(nat_lit 525,kU "pairs" 970 333 4 525 978)::(nat_lit 526,kF "pairs" 79 gJ 525)::(nat_lit 527,kD 3 (kI 1 981 512::kI 22 982 519::kI 23 983 526::[]))::(nat_lit 533,kU "fits_places" 988 341 3 533 994)::(nat_lit 534,kF "fits_places" 81 gJ 533)::(nat_lit 540,kU "fits_group" 997 345 3 540 1003)::(nat_lit 541,kF "fits_group" 82 gJ 540)::(nat_lit 547,kU "all_fit" 1006 351 3 547 1015)::(nat_lit 548,kF "all_fit" 83 gJ 547)::(nat_lit 552,kW "answer" 1018 361 3 552 1021)::(nat_lit 553,kF "answer" 84 gJ 552)::(nat_lit 559,kU "take_given" 1024 369 2 559 1031)::(nat_lit 560,kF "take_given" 85 gJ 559)::(nat_lit 566,kU "answers" 1034 374 1 566 1043)::(nat_lit 567,kF "answers" 86 gJ 566)::[]
def kA:List Addr:=[2,3,20,21,25,26,32,33,39,40,44,45,56,57,63,64,70,71,77,78,84,85,91,92,98,99,101,102,110,111,115,116,122,123,129,130,134,135,141,142,148,149,155,156,162,163,167,168,172,173,177,178,184,185,191,192,196,197,201,202,206,207,211,212,216,217,223,224,228,229,235,236,242,243,249,250,254,255,261,262,268,269,273,274,278,279,280,294,295,301,302,308,309,315,316,318,319,329,330,336,337,343,344,350,351,357,358,364,365,371,372,378,379,385,386,392,393,399,400,406,407,413,414,420,421,427,428,434,435,441,442,448,449,453,454,460,461,467,468,474,475,481,482,488,489,490,497,498,504,505,511,512,518,519,525,526,527,533,534,540,541,547,548,552,553,559,560,566,567]
abbrev AR:Hook:=kHook kK kA (fun _=>by kernel_rfl)
noncomputable abbrev Rn(w:World)(os:OsState)(b:Bool):Option SharedT:=jg PySem.Challenge.pw_shufflegroups_s01_answers (w.withFollow "special-get-raises" b) 11 (some (.ref 6)) 7524 (sT w.params os) (topStub PySem.Challenge.pw_shufflegroups_s01_answers)
abbrev Md:List PySem.Str:=importedModules PySem.Challenge.pw_shufflegroups_s01_answers.main.body
abbrev Xw:Shared->Bool:=fun s=>xlAt kV [] s&&recOk [] s
noncomputable def Ly(w:World)(s:Shared):Bool:=staticsOk Md (boot_heap w.params) s.heap&&namesBound PySem.Challenge.pw_shufflegroups_s01_answers s.heap&&gensDone s&&laidKept (boot_heap w.params) s.heap
theorem sz(P:Params):((boot_heap P).isNs mainGlobals&&(mk []:Array GenState).size==0,(boot_heap P).objs.size,(boot_heap P).nsMap mainGlobals "__annotations__")=(true,11,some (.ref 6)):=by kernel_rfl
abbrev kS{α:Type}(f:World->Shared->α)(x:World->α)(b:Bool):Prop:=∀w os,(Rn w os b).map (fun s=>f w s.abs)=some (x w)
abbrev S0:=kS (fun w s=>(AR.obs s,Fast.tw10880121769531294198 s.heap (looseW kV kL) ((recsOf kV).map (·.name)) ((litsOf kV).map (·.1)) ((clssOf kV (looseW kV kL)).map (·.name))&&Fast.tw14722251495701143533 s.heap Md&&s.heap.isNs mainGlobals&&s.heap.isNs builtinsNs&&Fast.tw10994771534591457954 kV s.heap&&Xw s&&(if true then s.gens.size==0 else !leftWithCleanup s.gens))) (fun w=>(AR.val w,true))
abbrev S1:=kS (fun w s=>(Fast.tw16090120013241838585 kV (drecsOf kV) s,Fast.tw2386780881361962483 kV (looseW kV kL) s)) (fun w=>(pinGoodD (drecsOf kV),plainGoodE kV (looseW kV kL)))
abbrev S2:=kS (fun w s=>(Ly w s,s.heap.bltView,Fast.tw11698064438423848299 kV kL s,Fast.tw7317090234206586261 kV s,Fast.tw7369524293546568484 kV kL s)) (fun w=>(true,bltViewBooted,plainGoodD kV kL,wideGood kV,clsGoodW kV kL))
abbrev S3:=kS (fun w s=>(Fast.tw5160383126252970620 ((recsOf kV).map (·.name)) (ownsOf kV) [] { s with gens:=#[] },Fast.tw479339242167458305 kV s)) (fun w=>(expectedOf kV,true))
theorem MR:S0 false:=fun w os=>by kernel_rfl
theorem MQ:S0 true:=fun w os=>by kernel_rfl
theorem MM:S1 false:=fun w os=>by kernel_rfl
theorem ML:S1 true:=fun w os=>by kernel_rfl
theorem MK:S2 false:=fun w os=>by kernel_rfl
theorem MJ:S2 true:=fun w os=>by kernel_rfl
theorem MH:S3 false:=fun w os=>by kernel_rfl
theorem MG:S3 true:=fun w os=>by kernel_rfl
theorem pe{α β:Type}{a a':α}{b b':β}(h:a=a')(k:b=b'):(a,b)=(a',b'):=h▸k▸rfl
theorem bo(w:World):(fencedOpening treeTable PySem.Challenge.pw_shufflegroups_s01_answers w 7524).map (fun s=>(s.heap,s.gens,s.drawn,s.toks))=some (boot_heap w.params,mk [],boot_drawn,boot_toks):=boot_open (by kernel_rfl) (by decide) (fun s=>rfl) w
theorem M5:LeftO PySem.Challenge.pw_shufflegroups_s01_answers kV kL Xw AR.obs AR.val 7524:=fun w=>by
 obtain⟨⟨h,gs,d,k,os⟩,e,e'⟩:=Option.map_eq_some_iff.mp (bo w)
 obtain⟨rfl,rfl,rfl,rfl⟩:h=boot_heap w.params/\gs=mk []/\d=boot_drawn/\k=boot_toks:=by simpa using e'
 have key:∃s,jg PySem.Challenge.pw_shufflegroups_s01_answers w 11 (some (.ref 6)) 7524 (sT w.params os) (topStub PySem.Challenge.pw_shufflegroups_s01_answers)=some s/\Ly w s.abs=true/\AR.obs s.abs=AR.val w/\openSeen kV kL Md Xw true s.abs=openGood kV kL:=by
  obtain⟨b,hb⟩:∃b,w.params.followText "special-get-raises"=b:=⟨_,rfl⟩;have q:=World.withFollow_self w "special-get-raises";rw[hb]at q;have A:S0 b/\S1 b/\S2 b/\S3 b:=match b with|false=>⟨MR,MM,MK,MH⟩|true=>⟨MQ,ML,MJ,MG⟩
  obtain⟨A0,A1,A2,A3⟩:=A;obtain⟨s,a1,a2⟩:=Option.map_eq_some_iff.mp (A0 w os);have A1:=A1 w os;have A2:=A2 w os;have A3:=A3 w os;rw[a1]at A1 A2 A3;have A0:=Prod.mk.inj a2;have A1:=Prod.mk.inj (Option.some.inj A1);have A2:=Prod.mk.inj (Option.some.inj A2);have A3:=Prod.mk.inj (Option.some.inj A3);have B:=Prod.mk.inj A2.2;have C:=Prod.mk.inj B.2;have D:=Prod.mk.inj C.2;rw[<-Fast.te10880121769531294198,<-Fast.te14722251495701143533,<-Fast.te10994771534591457954]at A0;rw[<-Fast.te16090120013241838585,<-Fast.te2386780881361962483]at A1;rw[<-Fast.te11698064438423848299]at C;rw[<-Fast.te7317090234206586261,<-Fast.te7369524293546568484]at D;rw[<-Fast.te5160383126252970620,<-Fast.te479339242167458305]at A3;unfold Rn at a1;rw[q]at a1;refine⟨s,a1,A2.1,A0.1,?_⟩;unfold openSeen openGood;exact pe A3.1 (pe B.1 (pe A0.2 (pe A3.2 (pe A1.1 (pe A1.2 (pe C.1 (pe D.1 D.2)))))))
 obtain⟨s,h1,l1,l2,l3⟩:=key;obtain⟨z1,z2,z3⟩:_/\_/\_:=by simpa only [Prod.mk.injEq]using sz w.params
 have r:=ow h1;rw[EA]at r;have t:topFrom treeTable PySem.Challenge.pw_shufflegroups_s01_answers w 7524 ⟨boot_heap w.params,mk [],boot_drawn,boot_toks,os⟩=some s.abs:=by
  unfold topFrom;dsimp only;rw[z1,z2,z3,r,Option.bind_some];unfold Ly at l1;rw[l1]
 unfold openEnds;rw[e,Option.bind_some,t];exact congrArg some (pe l3 l2)
end Hd
namespace L2
open PySem PySem.Spec PyProof.Rows
abbrev Key:=Sum Int Str
def mQ:Key->Value->Bool
 |.inl k,v=>Value.isInt k v
 |.inr x,v=>Value.isStrOf x v
def Lw(w:World):Key->Int
 |.inl k=>hashInt k
 |.inr x=>hashStr w x
theorem bX:∀{k:Key}{v:Value},mQ k v=true->(∃i t,k=Sum.inl i/\v=Value.int i t)\/(∃x t,k=Sum.inr x/\v=Value.str x t)
 |.inl i,v,h=>by
  obtain⟨t,e⟩:=Value.isInt_shape (k:=i) (v:=v) h
  exact .inl ⟨i,t,rfl,e⟩
 |.inr x,v,h=>by
  obtain⟨t,e⟩:=Value.isStrOf_shape (x:=x) (v:=v) h
  exact .inr ⟨x,t,rfl,e⟩
theorem wX(i:Int)(t:Tok):mQ (.inl i) (.int i t)=true:=by simp[mQ,Value.isInt]
theorem wW(x:Str)(t:Tok):mQ (.inr x) (.str x t)=true:=by simp[mQ,Value.isStrOf]
theorem HH(a b:Int):decide ((Sum.inl a:Key)=Sum.inl b)=(a==b):=by
 by_cases e:a=b
 ·subst e;simp
 ·have h:¬(Sum.inl a:Key)=Sum.inl b:=fun q=>e (Sum.inl.inj q);rw[decide_eq_false h];exact(beq_eq_false_iff_ne.mpr e).symm
theorem HE(a b:Str):decide ((Sum.inr a:Key)=Sum.inr b)=decide (a=b):=by
 by_cases e:a=b
 ·subst e;simp
 ·have h:¬(Sum.inr a:Key)=Sum.inr b:=fun q=>e (Sum.inr.inj q);rw[decide_eq_false h,decide_eq_false e]
theorem HG(a:Int)(b:Str):decide ((Sum.inl a:Key)=Sum.inr b)=false:=decide_eq_false (fun q=>nomatch q)
theorem HF(a:Str)(b:Int):decide ((Sum.inr a:Key)=Sum.inl b)=false:=decide_eq_false (fun q=>nomatch q)
def cz(prog:Program)(w:World):PySem.KeyKind prog w Key where
 is:=mQ
 hash:=Lw w
 inj:=fun v a b ha hb=>by
  rcases bX ha with⟨i,t,rfl,rfl⟩|⟨x,t,rfl,rfl⟩
  ·rcases bX hb with⟨j,u,rfl,e⟩|⟨y,u,rfl,e⟩
   ·injection e with e1 _;rw[e1]
   ·exact nomatch e
  ·rcases bX hb with⟨j,u,rfl,e⟩|⟨y,u,rfl,e⟩
   ·exact nomatch e
   ·injection e with e1 _;rw[e1]
 byValue:=fun k v h=>by
  rcases bX h with⟨i,t,rfl,rfl⟩|⟨x,t,rfl,rfl⟩<;>rfl
 pyHash:=fun hv h=>by
  rcases bX hv with⟨i,t,rfl,rfl⟩|⟨x,t,rfl,rfl⟩
  ·exact wpAny_pyHash_int h
  ·exact wpAny_pyHash_str h
 eqBool:=fun hu hv h=>by
  rcases bX hu with⟨i,t,rfl,rfl⟩|⟨x,t,rfl,rfl⟩
  ·rcases bX hv with⟨j,u,rfl,rfl⟩|⟨y,u,rfl,rfl⟩
   ·rw[HH]at h;exact wpAny_eqBool_int h
   ·rw[HG]at h;exact SeqAt.EqAt.int_str i t y u _ _ _ _ h
  ·rcases bX hv with⟨j,u,rfl,rfl⟩|⟨y,u,rfl,rfl⟩
   ·rw[HF]at h;exact SeqAt.EqAt.str_int x t j u _ _ _ _ h
   ·rw[HE]at h;exact wpAny_eqBool_str h
 «strs»:=fun k x t v h=>by
  rcases bX h with⟨i,u,rfl,e⟩|⟨y,u,rfl,e⟩
  ·exact nomatch e
  ·injection e with e1 _
   subst e1
   cases v<;>rfl
theorem rD(prog:Program)(w:World)(i:Int)(t:Tok):(cz prog w).is (.inl i) (.int i t)=true:=wX i t
theorem rC(prog:Program)(w:World)(x:Str)(t:Tok):(cz prog w).is (.inr x) (.str x t)=true:=wW x t
inductive V where
 |cu|bl (b:Bool)|int (i:Int)|str (x:Str)|sP (b:Array UInt8)|KA (b:UInt64)|ref (a:Addr)|ty (n:String)
 deriving DecidableEq
def RelV:V->Value->Prop
 |.cu,u=>u=Value.none
 |.bl b,u=>u=Value.bool b
 |.int i,u=>∃t,u=Value.int i t
 |.str x,u=>∃t,u=Value.str x t
 |.sP b,u=>∃t,u=Value.bytes b t
 |.KA b,u=>∃t,u=Value.float b t
 |.ref a,u=>u=Value.ref a
 |.ty n,u=>u=Value.type n
abbrev Vals:List V->List Value->Prop:=Paired RelV
theorem Vals.length{xs:List V}{us:List Value}(r:Vals xs us):xs.length=us.length:=Paired.length r
theorem Vals.get:∀{xs:List V}{us:List Value}{i:Nat}{x:V},Vals xs us->xs[i]?=some x->∃u,us[i]?=some u/\RelV x u
 |_,_,_,_,.nil,e=>by simp at e
 |_,_,0,_,.cons r _,e=>by simp at e;subst e;exact⟨_,rfl,r⟩
 |_,_,i+1,x,.cons _ t,e=>by
  obtain⟨u,h1,h2⟩:=Vals.get (i:=i) (x:=x) t (by simpa using e)
  exact⟨u,by simpa using h1,h2⟩
theorem Vals.set{x:V}{u:Value}(r:RelV x u):∀{xs:List V}{us:List Value}(i:Nat),Vals xs us->Vals (xs.set i x) (us.set i u)
 |_,_,_,.nil=>.nil
 |_,_,0,.cons _ t=>.cons r t
 |_,_,i+1,.cons q t=>.cons q (Vals.set r i t)
theorem Vals.append:∀{xs ys:List V}{us ws:List Value},Vals xs us->Vals ys ws->Vals (xs++ys) (us++ws)
 |_,_,_,_,.nil,s=>s
 |_,_,_,_,.cons r t,s=>.cons r (Vals.append t s)
theorem Vals.take:∀{xs:List V}{us:List Value}(n:Nat),Vals xs us->Vals (xs.take n) (us.take n)
 |_,_,0,_=>.nil
 |_,_,_+1,.nil=>.nil
 |_,_,n+1,.cons r t=>.cons r (Vals.take n t)
theorem Vals.drop:∀{xs:List V}{us:List Value}(n:Nat),Vals xs us->Vals (xs.drop n) (us.drop n)
 |_,_,0,r=>r
 |_,_,_+1,.nil=>.nil
 |_,_,n+1,.cons _ t=>Vals.drop n t
def iM:Option V->Option Value->Prop
 |some v,some u=>RelV v u
 |none,none=>True
 |_,_=>False
def KV{κ:Type}:List (κ×V)->List (κ×Value)->Prop:=Paired fun(p:κ×V)(q:κ×Value)=>p.1=q.1/\RelV p.2 q.2
def kV:Key->V
 |.inl i=>.int i
 |.inr x=>.str x
inductive HO where
 |lst (xs:List V)
 |tup (xs:List V)
 |dK (kvs:List (Key×V))|dT (kvs:List (List Key×V))
 |set (S:Int->Bool) (n:Nat)
 |ins (C dx:Addr) (fs:List (Str×V))
 |own (x:Addr)
 |xd (fs:List (Str×V))
 |met (f x:Addr)
 |qm (lo hi:Int)
 |ny (o:Obj) (u:HO)
 |eL (ps:Array Value)
 |ext (φ:Heap->Prop)
abbrev Hp:=Addr->Option HO
def upd(H:Hp)(a:Addr)(o:HO):Hp:=fun b=>if b=a then some o else H b
theorem ae{H:Hp}{a:Addr}{o:HO}:upd H a o a=some o:=by unfold upd;rw[if_pos rfl]
theorem ao{H:Hp}{a b:Addr}{o:HO}(h:b≠a):upd H a o b=H b:=by unfold upd;rw[if_neg h]
theorem bw{H:Hp}{a b:Addr}{o u:HO}(h:H a=some o)(h':H b=some u)(d:o≠u):a≠b:=by
 intro e;subst e;rw[h]at h';exact d (Nc h')
theorem ax{H:Hp}{a b:Addr}{o:HO}(h:H a=some o)(h':H b=none):a≠b:=by
 intro e;subst e;rw[h]at h';cases h'
section
variable(P:Program)(w:World)
def bB(H:Hp)(h:Heap)(a:Addr):HO->Prop
 |.lst xs=>xs.length<=sizeLine/\∃(its:List Value)(n:Nat),Vals xs its/\h.get? a=some { cls:=.type "list",data:=.seq its.toArray n }
 |.tup xs=>xs.length<=sizeLine/\∃its:List Value,Vals xs its/\IsTup h a its.toArray
 |.dK kvs=>kvs.length<=sizeLine/\(a==sysModules)=false/\∃vs,KV kvs vs/\h.DictOf (cz P w) a vs
 |.dT kvs=>kvs.length<=sizeLine/\(a==sysModules)=false/\∃xs:List (List Key×Addr×Value),
   Paired (fun(p:List Key×V)(q:List Key×Addr×Value)=>p.1=q.1/\H q.2.1=some (.tup (p.1.map kV))/\RelV p.2 q.2.2) kvs xs /\
   ∃o es ep,h.get? a=some o/\o.ExactDict/\o.data=.dict es ep/\es.toList=xs.map (entryOfKey (tupleKind (cz P w)))/\(xs.map (·.1)).Nodup
 |.set S n=>h.SetOf (intKind P w) a S n
 |.ins C dx fs=>H dx=some (.own a)/\fs.length<=1000/\dx≠a/\h.get? a=some (instObj C dx) /\
   ∃mA,h.Ns1 dx mA/\(∀f,iM (fs.lookup f) (mA f))/\PySem.Within mA (fs.map (·.1))
 |.own _=>∃o,h.get? a=some o
 |.xd fs=>∃mA,h.Ns1 a mA/\∀f,iM (fs.lookup f) (mA f)
 |.qm lo hi=>∃t u v,h.get? a=some { cls:=.type "range",data:=.fields #[.int lo t,.int hi u,.int 1 v] }
 |.ny o u=>h.get? a=some o/\bB H h a u
 |.eL ps=>h.get? a=some { cls:=.none,data:=.fields ps }
 |.met f x=>h.get? a=some (methodObj (.ref f) (.ref x))
 |.ext φ=>φ h/\(∃o,h.get? a=some o)/\∀h1 h2:Heap,φ h1->(∀o,h1.get? a=some o->h2.get? a=some o)->φ h2
def gq(H:Hp)(h:Heap):Prop:=∀a o,H a=some o->bB P w H h a o
end
section
variable{P:Program}{w:World}{H H':Hp}{h h':Heap}{a:Addr}{o:HO}
theorem bB.lt(x:bB P w H h a o):a<h.objs.size:=by
 cases o with
 |lst xs=>obtain⟨_,_,_,_,e⟩:=x;exact lt_size e
 |tup xs=>obtain⟨_,_,_,p⟩:=x;exact p.lt
 |dK kvs=>obtain⟨_,_,_,_,o,_,_,e,_⟩:=x;exact lt_size e
 |dT kvs=>obtain⟨_,_,_,_,o,_,_,e,_⟩:=x;exact lt_size e
 |set S n=>obtain⟨o,_,_,_,e,_⟩:=x;exact lt_size e
 |ins C dx fs=>obtain⟨_,_,_,e,_⟩:=x;exact lt_size e
 |own y=>obtain⟨_,e⟩:=x;exact lt_size e
 |xd fs=>obtain⟨_,⟨_,_,_,e,_⟩,_⟩:=x;exact lt_size e
 |qm lo hi=>obtain⟨_,_,_,e⟩:=x;exact lt_size e
 |ny ob u=>obtain⟨e,_⟩:=x;exact lt_size e
 |eL ps=>exact lt_size (show h.get? a=some _ from x)
 |met f y=>exact lt_size (show h.get? a=some _ from x)
 |ext φ=>obtain⟨_,⟨_,e⟩,_⟩:=x;exact lt_size e
theorem Paired.js{α β:Type}{F G:α->β->Prop}:∀{l₁:List α}{l₂:List β},Paired F l₁ l₂->(∀a b,F a b->G a b)->Paired G l₁ l₂
 |_,_,.nil,_=>.nil
 |_,_,.cons r t,f=>.cons (f _ _ r) (Paired.js t f)
theorem bB.stay(x:bB P w H h a o)(k:∀b u,(b=a\/H b=some (.own a))->h.get? b=some u->h'.get? b=some u)(ho:∀b,H b=some (.own a)->H' b=some (.own a))(ht:∀b xs,H b=some (.tup xs)->H' b=some (.tup xs)):bB P w H' h' a o:=by
 induction o with
 |lst xs=>obtain⟨z,its,n,r,e⟩:=x;exact⟨z,its,n,r,k _ _ (.inl rfl) e⟩
 |tup xs=>obtain⟨z,its,r,ob,e,c⟩:=x;exact⟨z,its,r,ob,k _ _ (.inl rfl) e,c⟩
 |dK kvs=>obtain⟨z,y,vs,r,ob,es,ep,e,c⟩:=x;exact⟨z,y,vs,r,ob,es,ep,k _ _ (.inl rfl) e,c⟩
 |dT kvs=>
  obtain⟨z,y,xs,r,ob,es,ep,e,c⟩:=x;exact⟨z,y,xs,Paired.js r fun p q z=>⟨z.1,ht _ _ z.2.1,z.2.2⟩,ob,es,ep,k _ _ (.inl rfl) e,c⟩
 |set S n=>obtain⟨ob,es,ep,t,e,c⟩:=x;exact⟨ob,es,ep,t,k _ _ (.inl rfl) e,c⟩
 |ins C dx fs=>
  obtain⟨d,z,ne,e,mA,⟨od,es,ep,e2,c⟩,r⟩:=x;exact⟨ho _ d,z,ne,k _ _ (.inl rfl) e,mA,⟨od,es,ep,k _ _ (.inr d) e2,c⟩,r⟩
 |own y=>obtain⟨ob,e⟩:=x;exact⟨ob,k _ _ (.inl rfl) e⟩
 |xd fs=>obtain⟨mA,⟨od,es,ep,e,c⟩,r⟩:=x;exact⟨mA,⟨od,es,ep,k _ _ (.inl rfl) e,c⟩,r⟩
 |qm lo hi=>obtain⟨t,u,v,e⟩:=x;exact⟨t,u,v,k _ _ (.inl rfl) e⟩
 |ny ob u ih=>obtain⟨e,q⟩:=x;exact⟨k _ _ (.inl rfl) e,ih q⟩
 |eL ps=>
  have e:h.get? a=some { cls:=.none,data:=.fields ps }:=x;show h'.get? a=some { cls:=.none,data:=.fields ps };exact k a _ (.inl rfl) e
 |met f y=>
  have e:h.get? a=some (methodObj (.ref f) (.ref y)):=x;show h'.get? a=some (methodObj (.ref f) (.ref y));exact k a _ (.inl rfl) e
 |ext φ=>obtain⟨p,⟨o,e⟩,st⟩:=x;exact⟨st _ _ p fun o q=>k _ _ (.inl rfl) q,⟨o,k _ _ (.inl rfl) e⟩,st⟩
theorem gq.lt(x:gq P w H h)(e:H a=some o):a<h.objs.size:=(x a o e).lt
theorem gq.fresh(x:gq P w H h)(e:h.objs.size<=a):H a=none:=by
 cases q:H a with
 |none=>rfl
 |some u=>exact absurd (lt_of_lt_of_le (x.lt q) e) (lt_irrefl _)
theorem gq.kept(x:gq P w H h)(k:∀b u,h.get? b=some u->h'.get? b=some u):gq P w H h':=fun a o e=>
 (x a o e).stay (fun b u _ q=>k b u q) (fun _ q=>q) fun _ _ q=>q
theorem gq.laid(x:gq P w H h)(k:∀b u,h.get? b=some u->h'.get? b=some u)(hp:h.objs.size<=a)(new:bB P w (upd H a o) h' a o):gq P w (upd H a o) h':=fun b u e=>by
 have hn:=x.fresh hp
 by_cases hb:b=a
 ·subst hb;rw[ae]at e;cases e;exact new
 ·rw[ao hb]at e
  exact(x b u e).stay (fun c v _ q=>k c v q) (fun c q=>by rw[ao (ax q hn)];exact q) fun c xs q=>by rw[ao (ax q hn)];exact q
end
def Rd(H:Hp)(a:Addr)(u:HO):Prop:=H a=some u\/∃o,H a=some (.ny o u)
theorem Rd.ok{P:Program}{w:World}{H:Hp}{h:Heap}{a:Addr}{u:HO}(r:Rd H a u)(x:gq P w H h):bB P w H h a u:=by
 rcases r with r|⟨o,r⟩
 ·exact x a u r
 ·obtain⟨_,q⟩:=x a _ r;exact q
def Kh:Option HO->Prop
 |some (.lst _)=>True
 |some (.dK _)=>True
 |some (.dT _)=>True
 |some (.set _ _)=>True
 |some (.ins _ _ _)=>True
 |some (.ext _)=>True
 |_=>False
section
variable{P:Program}{w:World}{H:Hp}{h h':Heap}{x e:Addr}{o':HO}
theorem gq.write(ok:gq P w H h)(mu:Kh (H x))(he:e=x\/H e=some (.own x))(k:∀b u,b≠e->h.get? b=some u->h'.get? b=some u)(heo:∃u,h'.get? e=some u)(new:bB P w (upd H x o') h' x o'):gq P w (upd H x o') h':=fun b u q=>by
 have nown:∀c y,H c=some (.own y)->c≠x:=fun c y r z=>by subst z;rw[r]at mu;exact mu
 have ntup:∀c xs,H c=some (.tup xs)->c≠x:=fun c xs r z=>by subst z;rw[r]at mu;exact mu
 by_cases hb:b=x
 ·subst hb;rw[ae]at q;cases q;exact new
 ·rw[ao hb]at q
  by_cases hbe:b=e
  ·have q':H b=some (.own x):=by
    rcases he with z|z
    ·exact absurd (hbe.trans z) hb
    ·rw[hbe];exact z
   rw[q]at q';cases q'
   obtain⟨v,hv⟩:=heo
   exact⟨v,by rw[hbe];exact hv⟩
  ·refine(ok b u q).stay (fun c v hc r=>k c v ?_ r) (fun c r=>by rw[ao (nown c b r)];exact r) fun c xs r=>by rw[ao (ntup c xs r)];exact r
   rcases hc with rfl|hc
   ·exact hbe
   ·rintro rfl
    rcases he with z|z
    ·exact nown c b hc z
    ·rw[hc]at z;cases z;exact hb rfl
end
structure Un(fs ex:List Addr)(H H':Hp)(h h':Heap):Prop where
 keep:∀b o,h.get? b=some o->H b=none->b∉fs->b∉ex->h'.get? b=some o
 slot:∀b o,h.get? b=some o->H b=none->b∈fs->b∉ex->∃sl,h'.get? b=some { o with slots:=sl }
 free:∀b o,h.get? b=some o->H b=none->b∉ex->H' b=none
 there:∀b o,h.get? b=some o->b∉ex->∃o',h'.get? b=some o'
 kh:∀b xs,H b=some (.tup xs)->H' b=some (.tup xs)
 nX:∀b o u,H b=some (.ny o u)->H' b=some (.ny o u)
 nE:∀b ps,H b=some (.eL ps)->∃more,H' b=some (.eL (ps++more))
section
variable{fs fs' ex ex':List Addr}{H H1 H2:Hp}{h h1 h2 h':Heap}{a x e:Addr}{o:HO}
theorem Un.any(u:Un fs ex H H1 h h1){b:Addr}{ob:Obj}(q:h.get? b=some ob)(n:H b=none)(hx:b∉ex):∃sl,h1.get? b=some { ob with slots:=sl }:=by
 by_cases hb:b∈fs
 ·exact u.slot b ob q n hb hx
 ·exact⟨ob.slots,u.keep b ob q n hb hx⟩
theorem Un.kept(k:∀b u,h.get? b=some u->h'.get? b=some u):Un fs ex H H h h':=
 ⟨fun b ob q _ _ _=>k b ob q,fun b ob q _ _ _=>⟨ob.slots,k b ob q⟩,fun _ _ _ n _=>n,fun b ob q _=>⟨ob,k b ob q⟩,fun _ _ q=>q,fun _ _ _ q=>q,fun _ ps q=>⟨#[],by rw[q];simp⟩⟩
theorem Un.refl:Un fs ex H H h h:=Un.kept fun _ _ q=>q
theorem Un.laid(k:∀b u,h.get? b=some u->h'.get? b=some u)(hp:h.objs.size<=a)(hn:H a=none):Un fs ex H (upd H a o) h h' where
 keep:=fun b u q _ _ _=>k b u q
 slot:=fun b u q _ _ _=>⟨u.slots,k b u q⟩
 free:=fun b u q n _=>by rw[ao (ne_of_lt (lt_of_lt_of_le (lt_size q) hp))];exact n
 there:=fun b u q _=>⟨u,k b u q⟩
 kh:=fun b xs q=>by rw[ao (ax q hn)];exact q
 nX:=fun b u xs q=>by rw[ao (ax q hn)];exact q
 nE:=fun b ps q=>⟨#[],by rw[ao (ax q hn),q];simp⟩
theorem Un.write(mu:Kh (H x))(he:e=x\/H e=some (.own x))(k:∀b u,b≠e->h.get? b=some u->h'.get? b=some u)(heo:∃u,h'.get? e=some u):Un fs ex H (upd H x o) h h':=by
 have hx:∀b,H b=none->b≠x:=fun b n z=>by subst z;rw[n]at mu;exact mu
 have hb:∀b,H b=none->b≠e:=fun b n z=>by
  subst z;rcases he with r|r
  ·exact hx b n r
  ·rw[n]at r;cases r
 have hm:∀b u,H b=some u->¬Kh (some u)->b≠x:=fun b u q nm z=>by subst z;rw[q]at mu;exact nm mu
 refine⟨fun b u q n _ _=>k b u (hb b n) q,fun b u q n _ _=>⟨u.slots,k b u (hb b n) q⟩,fun b u q n _=>by rw[ao (hx b n)];exact n,fun b u q _=>?_,
  fun b xs q=>by rw[ao (hm b _ q fun z=>z)];exact q,fun b u xs q=>by rw[ao (hm b _ q fun z=>z)];exact q,fun b ps q=>⟨#[],by rw[ao (hm b _ q fun z=>z),q];simp⟩⟩
 by_cases hbe:b=e
 ·subst hbe;exact heo
 ·exact⟨u,k b u hbe q⟩
end
def Ko(h:Heap)(H:Hp):List Addr:=(range h.objs.size).filter fun a=>(H a).isSome
def nV(h:Heap)(H:Hp):Heap:=hideAll h (Ko h H)
theorem xb(h:Heap)(H:Hp):(nV h H).objs.size=h.objs.size:=hideAll_size _ _
theorem Aj{h:Heap}{H:Hp}{b:Addr}{o:Obj}(e:h.get? b=some o)(n:H b=none):(nV h H).get? b=some o:=
 hideAll_get _ e fun hm=>by
  have q:(H b).isSome=true:=(List.mem_filter.mp hm).2
  rw[n]at q;simp at q
theorem B4{h:Heap}{H:Hp}{b:Addr}{o:Obj}(e:(nV h H).get? b=some o):h.get? b=some o/\H b=none:=by
 have e':h.get? b=some o:=of_hideAll (Ko h H) e;refine⟨e',?_⟩;cases q:H b with
 |none=>rfl
 |some x=>
  have hm:b∈Ko h H:=List.mem_filter.mpr ⟨List.mem_range.mpr (lt_size e'),by simp[q]⟩;have z:(nV h H).get? b=none:=hideAll_none (Ko h H) hm;rw[z]at e;cases e
structure Mod(K:Frag)(mg:GmT)(base:Heap):Prop where
 Cc:K.In base
 glob:base.Ns mainGlobals mg
 blt:∃mb,base.Ns builtinsNs mb/\∀x:Str,x≠"__name__"->mb x=bootBuiltins x
 nolimit:base.NoLimit
structure Cx where
 prog:Program
 w:World
 K:Frag
 mg:Str->Option Value
 base:Heap
 A:Around
 N:List Str
 nO:Shared
 Ir:Hp
 env:Env
 outer:List Env
 stack:List Env
 ex:List Addr
 fn:Str->Bool
 calm:Bool
 pn:List (Addr×Obj)
 xe:Value->Shared->Prop
def r4(l:List Env):List Addr:=l.filterMap (·.frame)
abbrev Cx.fs(X:Cx):List Addr:=r4 X.outer
def Iq(sc:Scope)(x:Str):Prop:=sc.names.lookup x=some .local\/sc.names.lookup x=some .cell\/sc.names.lookup x=some .free
def Loc(sc:Scope)(x:Str):Prop:=sc.names.lookup x=some .local\/sc.names.lookup x=some .cell
def Look(env:Env)(h:Heap)(m:GmT)(x:Str)(u:Value):Prop:=
 (env.kindOf x=some .local/\m x=some u)\/((env.kindOf x=some .cell\/env.kindOf x=some .free)/\∃c,env.cells.lookup x=some c/\h.IsCell c (some u))
structure Cx.Ok(X:Cx):Prop where
 mod:Mod X.K X.mg X.base
 kind:X.env.scope.kind=.function
 glob:X.env.globals=mainGlobals
 blt:X.env.builtins=builtinsNs
 above:X.nO.heap.objs.size<=X.env.locals
 inj:∀x y c,X.env.cells.lookup x=some c->X.env.cells.lookup y=some c->x=y
 has:∀x,(X.env.kindOf x=some .cell\/X.env.kindOf x=some .free)->∃c,X.env.cells.lookup x=some c
 Ip:∀x c,X.fn x=true->X.env.cells.lookup x=some c->X.nO.heap.objs.size<=c
 hd:X.calm=true->X.A.handled=none
 frames:X.A.frames=some X.stack
 Ks:X.stack=X.outer\/(X.stack=X.env::X.outer/\X.env.frame=some X.env.locals)
 KG:∀b∈X.ex,b≠X.env.locals/\∀x c,X.env.cells.lookup x=some c->c≠b
 bs:∀b o,X.base.get? b=some o->X.nO.heap.get? b=some o/\X.Ir b=none
 xm:X.base.objs.size<=X.nO.heap.objs.size
 zx:∀b o,X.base.get? b=some o->b∉X.ex
 Ar:∀b∈X.ex,b∉X.fs
 ir:X.nO.heap.FunFrames X.base X.outer
 xw:∀b∈X.fs,X.Ir b=none
structure Inv(X:Cx)(pins:LpT)(σ:List (Option V))(H:Hp)(s:Shared):Prop where
 ok:X.Ok
 os:s.os=X.nO.os
 bare:AllBare s.gens
 base:Un X.fs X.ex X.Ir H X.nO.heap s.heap
 loc:∃m,s.heap.Ns X.env.locals m/\∀(i:Nat)(x:Str)(v:V),X.N[i]?=some x->σ[i]?=some (some v)->Iq X.env.scope x->∃u,RelV v u/\Look X.env s.heap m x u
 cell:∀x c,X.env.cells.lookup x=some c->∃v,s.heap.IsCell c v
 free:H X.env.locals=none
 gT:∀x c,X.env.cells.lookup x=some c->H c=none
 pin:∀p∈X.pn++pins,s.heap.get? p.1=some p.2/\H p.1=none/\p.1≠X.env.locals/\p.1∉X.fs/\∀v,p.2.data≠.cell v
 a8:gq X.prog X.w H s.heap
 len:σ.length=X.N.length
section
variable{X:Cx}{pins:LpT}{σ:List (Option V)}{H H':Hp}{s:Shared}{h':Heap}
theorem Cx.Ok.B6(ok:X.Ok){b:Addr}{o:Obj}(e:X.base.get? b=some o):b∉X.fs:=fun hb=>by
 have:=(ok.ir.mem hb).1
 rw[e]at this;cases this
theorem Inv.bs(I:Inv X pins σ H s):∀b o,X.base.get? b=some o->s.heap.get? b=some o/\H b=none:=fun b o e=>
 ⟨I.base.keep b o (I.ok.bs b o e).1 (I.ok.bs b o e).2 (I.ok.B6 e) (I.ok.zx b o e),I.base.free b o (I.ok.bs b o e).1 (I.ok.bs b o e).2 (I.ok.zx b o e)⟩
theorem Inv.bk(I:Inv X pins σ H s):∀b o,X.base.get? b=some o->s.heap.get? b=some o:=fun b o e=>(I.bs b o e).1
theorem Inv.mod(I:Inv X pins σ H s):Mod X.K X.mg X.base:=I.ok.mod
theorem Inv.mS(I:Inv X pins σ H s):X.K.In s.heap:=I.ok.mod.Cc.keeps I.bk
theorem Inv.fr(I:Inv X pins σ H s):∃m,Fr X.base X.env.locals s.heap m:=
 let⟨m,hn,_⟩:=I.loc
 ⟨m,hn,I.bk,le_trans I.ok.xm I.ok.above⟩
theorem Inv.lt(I:Inv X pins σ H s):X.env.locals<s.heap.objs.size:=let⟨_,hn,_⟩:=I.loc;hn.lt
theorem Inv.sz(I:Inv X pins σ H s):X.nO.heap.objs.size<=s.heap.objs.size:=le_trans I.ok.above (le_of_lt I.lt)
theorem Inv.Ls(I:Inv X pins σ H s){a:Addr}(h:s.heap.objs.size<=a):a∉X.fs:=fun hb=>by
 obtain⟨_,o,ho,_⟩:=I.ok.ir.mem hb
 exact absurd (lt_of_lt_of_le (lt_size ho) (le_trans I.sz h)) (lt_irrefl _)
theorem Inv.DR(I:Inv X pins σ H s):∀x c,X.env.cells.lookup x=some c->c≠X.env.locals:=fun x c e z=>by
 obtain⟨v,o,ho,hd⟩:=I.cell x c e
 obtain⟨m,⟨o',es,ep,ho',hd',_⟩,_⟩:=I.loc
 rw[z,ho']at ho;cases ho;rw[hd']at hd;cases hd
theorem Inv.ir(I:Inv X pins σ H s):s.heap.FunFrames X.base X.outer:=by
 have all:∀(l:List Env),(∀b∈r4 l,b∈X.fs)->X.nO.heap.FunFrames X.base l->s.heap.FunFrames X.base l:=by
  intro l
  induction l with
  |nil=>intro _ _;trivial
  |cons env r ih=>
   intro hs hl;obtain⟨hk,⟨L,o,hf,hn,ho,hd⟩,hr⟩:=hl;have hL:L∈X.fs:=hs L (by unfold r4;rw[List.filterMap_cons,hf];exact mem_cons_self);obtain⟨sl,e⟩:=I.base.slot L o ho (I.ok.xw L hL) hL fun z=>I.ok.Ar L z hL;exact⟨hk,⟨L,_,hf,hn,e,hd⟩,ih (fun b hb=>hs b (by unfold r4;rw[List.filterMap_cons,hf];exact mem_cons_of_mem _ hb)) hr⟩
 exact all X.outer (fun _ hb=>hb) I.ok.ir
theorem Inv.stack(I:Inv X pins σ H s):s.heap.FunFrames X.base X.stack:=by
 rcases I.ok.Ks with e|⟨e,hf⟩
 ·rw[e];exact I.ir
 ·rw[e];obtain⟨m,hn,_⟩:=I.loc;refine .cons (by rw[I.ok.kind];decide) hf hn ?_ I.ir;exact Heap.get?_none_of_le (le_trans I.ok.xm I.ok.above)
theorem Inv.pf(I:Inv X pins σ H s):∀b∈r4 X.stack,b∈X.env.locals::X.fs:=fun b hb=>by
 rcases I.ok.Ks with e|⟨e,hf⟩
 ·rw[e]at hb;exact mem_cons_of_mem _ hb
 ·rw[e]at hb
  unfold r4 at hb
  rw[List.filterMap_cons,hf]at hb
  exact hb
theorem Inv.uM(I:Inv X pins σ H s):∀b∈r4 X.stack,H b=none:=fun b hb=>by
 rcases Nf (I.pf b hb)with e|hb
 ·rw[e];exact I.free
 ·obtain⟨_,o,ho,_⟩:=I.ok.ir.mem hb
  exact I.base.free b o ho (I.ok.xw b hb) fun z=>I.ok.Ar b z hb
theorem Inv.step{g':Array GenState}{t':Nat}{d':Drawn}{ch:List Addr}(I:Inv X pins σ H s)(hch:∀b∈ch,(b∈X.ex\/X.nO.heap.objs.size<=b)/\b≠X.env.locals/\(∀x c,X.env.cells.lookup x=some c->c≠b)/\∀p∈X.pn++pins,p.1≠b)(keep:∀b o,b≠X.env.locals->b∉X.fs->b∉ch->s.heap.get? b=some o->H b=none->h'.get? b=some o)(slot:∀b o,b≠X.env.locals->b∈X.fs->b∉ch->s.heap.get? b=some o->H b=none->∃sl,h'.get? b=some { o with slots:=sl })(free:∀b o,b∉ch->s.heap.get? b=some o->H b=none->H' b=none)(there:∀b o,b∉ch->s.heap.get? b=some o->∃o',h'.get? b=some o')(kh:∀b xs,H b=some (.tup xs)->H' b=some (.tup xs))(nX:∀b o u,H b=some (.ny o u)->H' b=some (.ny o u))(nE:∀b ps,H b=some (.eL ps)->∃more,H' b=some (.eL (ps++more)))(ns:∀m,s.heap.Ns X.env.locals m->h'.Ns X.env.locals m)(a8:gq X.prog X.w H' h')(hg:AllBare g'):
  Inv X pins σ H' { s with heap:=h',gens:=g',drawn:=d',toks:=t' }:=by
 have neL:∀b o,X.nO.heap.get? b=some o->b≠X.env.locals:=fun b o e=>ne_of_lt (lt_of_lt_of_le (lt_size e) I.ok.above);have neC:∀b o,X.nO.heap.get? b=some o->b∉X.ex->b∉ch:=fun b o e hx hb=>by
  rcases(hch b hb).1 with z|z
  ·exact hx z
  ·exact absurd (lt_of_lt_of_le (lt_size e) z) (lt_irrefl _)
 have cellK:∀x c,X.env.cells.lookup x=some c->∀v,s.heap.IsCell c v->h'.IsCell c v:=fun x c e v⟨o,ho,hd⟩=>by
  have nch:c∉ch:=fun z=>(hch c z).2.2.1 x c e rfl;by_cases hc:c∈X.fs
  ·obtain⟨sl,q⟩:=slot c o (I.DR x c e) hc nch ho (I.gT x c e);exact⟨_,q,hd⟩
  ·exact⟨o,keep c o (I.DR x c e) hc nch ho (I.gT x c e),hd⟩
 refine⟨I.ok,I.os,hg,⟨fun b o e n hb hx=>?_,fun b o e n hb hx=>?_,fun b o e n hx=>?_,fun b o e hx=>?_,fun b xs e=>kh b xs (I.base.kh b xs e),fun b o xs e=>nX b o xs (I.base.nX b o xs e),fun b ps e=>?_⟩,?_,fun x c e=>?_,?_,fun x c e=>?_,fun p hp=>?_,a8,I.len⟩
 ·exact keep b o (neL b o e) hb (neC b o e hx) (I.base.keep b o e n hb hx) (I.base.free b o e n hx)
 ·obtain⟨sl,e1⟩:=I.base.slot b o e n hb hx;obtain⟨sl',e2⟩:=slot b _ (neL b o e) hb (neC b o e hx) e1 (I.base.free b o e n hx);exact⟨sl',e2⟩
 ·obtain⟨o',e1⟩:=I.base.there b o e hx;exact free b o' (neC b o e hx) e1 (I.base.free b o e n hx)
 ·obtain⟨o',e1⟩:=I.base.there b o e hx;exact there b o' (neC b o e hx) e1
 ·obtain⟨m1,e1⟩:=I.base.nE b ps e;obtain⟨m2,e2⟩:=nE b _ e1;exact⟨m1++m2,by rw[e2,Array.append_assoc]⟩
 ·obtain⟨m,hn,hl⟩:=I.loc;refine⟨m,ns m hn,fun i x v e1 e2 e3=>?_⟩;obtain⟨u,r,l⟩:=hl i x v e1 e2 e3;refine⟨u,r,?_⟩;rcases l with l|⟨k,c,e,z⟩
  ·exact .inl l
  ·exact .inr ⟨k,c,e,cellK x c e _ z⟩
 ·obtain⟨v,z⟩:=I.cell x c e;exact⟨v,cellK x c e v z⟩
 ·obtain⟨m,⟨o,_,_,ho,_⟩,_⟩:=I.loc;exact free _ o (fun z=>(hch _ z).2.1 rfl) ho I.free
 ·obtain⟨v,o,ho,hd⟩:=I.cell x c e;exact free c o (fun z=>(hch c z).2.2.1 x c e rfl) ho (I.gT x c e)
 ·obtain⟨e,n,ne,nf,d⟩:=I.pin p hp;have nch:p.1∉ch:=fun z=>(hch p.1 z).2.2.2 p hp rfl;exact⟨keep p.1 p.2 ne nf nch e n,free p.1 p.2 nch e n,ne,nf,d⟩
theorem Inv.un{t':Nat}(I:Inv X pins σ H s)(u:Un X.fs [] H H' s.heap h')(a8:gq X.prog X.w H' h'):Inv X pins σ H' { s with heap:=h',toks:=t' }:=by
 obtain⟨m,⟨o,es,ep,ho,r⟩,_⟩:=id I.loc;obtain⟨sl,hL⟩:=u.any ho I.free (by simp);exact I.step (g':=s.gens) (d':=s.drawn) (ch:=[]) (fun _ z=>nomatch z) (fun b o _ hb _ e n=>u.keep b o e n hb (by simp)) (fun b o _ hb _ e n=>u.slot b o e n hb (by simp)) (fun b o _ e n=>u.free b o e n (by simp)) (fun b o _ e=>u.there b o e (by simp)) u.kh u.nX u.nE (fun m' hm=>by
  obtain⟨o',es',ep',ho',r'⟩:=hm;rw[ho]at ho';cases ho';exact⟨_,es',ep',hL,r'⟩) a8 I.bare
theorem Inv.call{g':Array GenState}{t':Nat}{d':Drawn}{ch:List Addr}(I:Inv X pins σ H s)(u:Un (r4 X.stack) ch H H' s.heap h')(a8:gq X.prog X.w H' h')(hg:AllBare g')(hch:∀b∈ch,(b∈X.ex\/X.nO.heap.objs.size<=b)/\b≠X.env.locals/\(∀x c,X.env.cells.lookup x=some c->c≠b)/\∀p∈X.pn++pins,p.1≠b):
  Inv X pins σ H' { s with heap:=h',gens:=g',drawn:=d',toks:=t' }:=by
 obtain⟨m,⟨o,es,ep,ho,r⟩,_⟩:=id I.loc;obtain⟨sl,hL⟩:=u.any ho I.free fun z=>(hch _ z).2.1 rfl;exact I.step (ch:=ch) hch (fun b o hL hb hc e n=>u.keep b o e n (fun z=>(Nf (I.pf b z)).elim hL hb) hc) (fun b o _ _ hc e n=>u.any e n hc) (fun b o hc e n=>u.free b o e n hc) (fun b o hc e=>u.there b o e hc) u.kh u.nX u.nE (fun m' hm=>by
  obtain⟨o',es',ep',ho',r'⟩:=hm;rw[ho]at ho';cases ho';exact⟨_,es',ep',hL,r'⟩) a8 hg
theorem Inv.turned{t':Nat}{it:Addr}(I:Inv X pins σ H s)(k:∀b o,b≠it->s.heap.get? b=some o->h'.get? b=some o)(hn:H it=none)(hL:it≠X.env.locals)(h1:it∈X.ex\/X.nO.heap.objs.size<=it)(h2:∀x c,X.env.cells.lookup x=some c->c≠it)(h3:∀p∈X.pn++pins,p.1≠it):Inv X pins σ H { s with heap:=h',toks:=t' }:=by
 have nit:∀b u,H b=some u->b≠it:=fun b u e z=>by rw[z,hn]at e;cases e
 refine I.step (g':=s.gens) (d':=s.drawn) (ch:=[it]) (fun b hb=>?_) (fun b o _ _ hc e _=>k b o (fun z=>hc (by simp[z])) e) (fun b o _ _ hc e _=>⟨o.slots,k b o (fun z=>hc (by simp[z])) e⟩) (fun _ _ _ _ n=>n)
  (fun b o hc e=>⟨o,k b o (fun z=>hc (by simp[z])) e⟩) (fun _ _ e=>e) (fun _ _ _ e=>e) (fun b ps e=>⟨#[],by rw[e];simp⟩) (fun m hm=>?_) (fun b u e=>?_) I.bare
 ·have e:b=it:=by simpa using hb
  subst e;exact⟨h1,hL,h2,h3⟩
 ·obtain⟨o,es,ep,ho,r⟩:=hm;exact⟨o,es,ep,k _ o (Ne.symm hL) ho,r⟩
 ·refine(I.a8 b u e).stay (fun c v hc q=>k c v ?_ q) (fun _ q=>q) fun _ _ q=>q;rcases hc with z|z
  ·rw[z];exact nit b u e
  ·exact nit c _ z
theorem Inv.tok(I:Inv X pins σ H s)(t:Nat):Inv X pins σ H { s with toks:=t }:=I.un (h':=s.heap) (t':=t) Un.refl I.a8
theorem Inv.kept{t':Nat}(I:Inv X pins σ H s)(k:∀b u,s.heap.get? b=some u->h'.get? b=some u):Inv X pins σ H { s with heap:=h',toks:=t' }:=I.un (Un.kept k) (I.a8.kept k)
theorem Inv.laid{a:Addr}{o:HO}{t':Nat}(I:Inv X pins σ H s)(k:∀b u,s.heap.get? b=some u->h'.get? b=some u)(hp:s.heap.objs.size<=a)(new:bB X.prog X.w (upd H a o) h' a o):
  Inv X pins σ (upd H a o) { s with heap:=h',toks:=t' }:=I.un (Un.laid k hp (I.a8.fresh hp)) (I.a8.laid k hp new)
theorem Inv.write{x e:Addr}{o:HO}{t':Nat}(I:Inv X pins σ H s)(mu:Kh (H x))(he:e=x\/H e=some (.own x))(k:∀b u,b≠e->s.heap.get? b=some u->h'.get? b=some u)(heo:∃u,h'.get? e=some u)(new:bB X.prog X.w (upd H x o) h' x o):Inv X pins σ (upd H x o) { s with heap:=h',toks:=t' }:=I.un (Un.write mu he k heo) (I.a8.write mu he k heo new)
theorem Inv.weak{σ':List (Option V)}(I:Inv X pins σ H s)(hl:σ'.length=σ.length)(w:∀(i:Nat)v,σ'[i]?=some (some v)->σ[i]?=some (some v)):Inv X pins σ' H s:=
 ⟨I.ok,I.os,I.bare,I.base,let⟨m,hn,hl'⟩:=I.loc;⟨m,hn,fun i x v e1 e2 e3=>hl' i x v e1 (w i v e2) e3⟩,I.cell,I.free,I.gT,I.pin,I.a8,hl.trans I.len⟩
theorem Inv.u0{pins':LpT}(I:Inv X pins σ H s)(h:∀p∈pins',s.heap.get? p.1=some p.2/\H p.1=none/\p.1≠X.env.locals/\p.1∉X.fs/\∀v,p.2.data≠.cell v):Inv X pins' σ H s:=
 ⟨I.ok,I.os,I.bare,I.base,I.loc,I.cell,I.free,I.gT,fun p hp=>(Nj hp).elim (fun z=>I.pin p (mem_append_left _ z)) (h p),I.a8,I.len⟩
theorem mH{N:List Str}(hN:N.Nodup){i j:Nat}{x:Str}(a:N[i]?=some x)(b:N[j]?=some x):i=j:=by
 obtain⟨h1,e1⟩:=Nd a;obtain⟨h2,e2⟩:=Nd b;exact(List.getElem_inj hN).mp (e1.trans e2.symm)
theorem ox{M:Model}{A:Around}{E:L5}{i:Nat}{x:Str}{v:V}{u:Value}{Q:Unit->Shared->Prop}(I:Inv X pins σ H s)(hN:X.N.Nodup)(hi:X.N[i]?=some x)(hx:Loc X.env.scope x)(r:RelV v u)(h:∀s',Inv X pins (σ.set i (some v)) H s'->(∃a,Heap.SameBut a s.heap s'.heap/\(a=X.env.locals\/X.env.cells.lookup x=some a))->Q () s')(hf:X.fn x=true\/X.env.scope.names.lookup x=some .local:=by first|exact .inl rfl|exact .inr rfl|assumption):wpAny M A (storeName X.env x u) Q E s:=by
 obtain⟨m,hn,hl⟩:=id I.loc;have hcls:(X.env.scope.kind==.class||(X.env.scope.kind==.module&&X.env.locals != X.env.globals))=false:=by rw[I.ok.kind];rfl
 have hiσ:i<σ.length:=by rw[I.len];exact(Nd hi).1
 have DR:=I.DR;have tracked:∀{a:Addr}{h':Heap},(∃o,s.heap.get? a=some o/\H a=none)->Heap.SameBut a s.heap h'->gq X.prog X.w H h':=fun{a h'}ha hs b ob e=>by
  obtain⟨_,_,hfree⟩:=ha;refine(I.a8 b ob e).stay (fun c w' hc q=>(hs.2 c ?_).trans q) (fun _ q=>q) fun _ _ q=>q;rintro rfl;rcases hc with rfl|hc
  ·rw[hfree]at e;cases e
  ·rw[hfree]at hc;cases hc
 rcases hx with hk|hk
 ·refine wpAny_storeName_local hk hn (fun h' hn' hs=>?_) hcls;obtain⟨oL,_,_,hoL,_⟩:=id hn;refine h _ ⟨I.ok,I.os,I.bare,⟨fun b o e n hb hx=>?_,fun b o e n hb hx=>?_,I.base.free,fun b o e hx=>?_,I.base.kh,I.base.nX,I.base.nE⟩,⟨_,hn',fun j y v' e1 e2 e3=>?_⟩,fun y c e=>?_,I.free,I.gT,fun p hp=>?_,tracked ⟨oL,hoL,I.free⟩ hs,by simpa using I.len⟩ ⟨_,hs,.inl rfl⟩
  ·exact(hs.2 b (ne_of_lt (lt_of_lt_of_le (lt_size e) I.ok.above))).trans (I.base.keep b o e n hb hx)
  ·obtain⟨sl,e1⟩:=I.base.slot b o e n hb hx;exact⟨sl,(hs.2 b (ne_of_lt (lt_of_lt_of_le (lt_size e) I.ok.above))).trans e1⟩
  ·obtain⟨o',e1⟩:=I.base.there b o e hx;exact⟨o',(hs.2 b (ne_of_lt (lt_of_lt_of_le (lt_size e) I.ok.above))).trans e1⟩
  ·by_cases hj:j=i
   ·subst hj;rw[hi]at e1;cases e1;rw[getElem?_set_self hiσ]at e2;cases e2;exact⟨u,r,.inl ⟨hk,by simp⟩⟩
   ·rw[getElem?_set_ne (Ne.symm hj)]at e2;obtain⟨u',r',q⟩:=hl j y v' e1 e2 e3;refine⟨u',r',?_⟩;rcases q with⟨k,e⟩|⟨k,c,e,z⟩
    ·refine .inl ⟨k,?_⟩;have:y≠x:=fun e=>hj (mH hN e1 (e▸hi));simp[this,e]
    ·exact .inr ⟨k,c,e,z.sameBut hs (DR y c e)⟩
  ·obtain⟨w',z⟩:=I.cell y c e;exact⟨w',z.sameBut hs (DR y c e)⟩
  ·obtain⟨e,n,ne,nf,d⟩:=I.pin p hp;exact⟨(hs.2 p.1 ne).trans e,n,ne,nf,d⟩
 ·have hfn:X.fn x=true:=by
   rcases hf with z|z
   ·exact z
   ·rw[z]at hk;cases hk
  obtain⟨c,hc⟩:=I.ok.has x (.inl hk);obtain⟨w',z⟩:=I.cell x c hc;refine wpAny_storeName_cell I.ok.kind hk hc z (fun h' hc' hs=>?_);obtain⟨oc,hoc,hocd⟩:=id z;refine h { s with heap:=h' } ⟨I.ok,I.os,I.bare,⟨fun b o e n hb hx=>?_,fun b o e n hb hx=>?_,I.base.free,fun b o e hx=>?_,I.base.kh,I.base.nX,I.base.nE⟩,⟨m,hn.sameBut hs (Ne.symm (DR x c hc)),fun j y v' e1 e2 e3=>?_⟩,fun y c' e=>?_,I.free,I.gT,fun p hp=>?_,tracked ⟨oc,hoc,I.gT x c hc⟩ hs,by simpa using I.len⟩ ⟨c,hs,.inr hc⟩
  ·exact(hs.2 b (ne_of_lt (lt_of_lt_of_le (lt_size e) (I.ok.Ip x c hfn hc)))).trans (I.base.keep b o e n hb hx)
  ·obtain⟨sl,e1⟩:=I.base.slot b o e n hb hx;exact⟨sl,(hs.2 b (ne_of_lt (lt_of_lt_of_le (lt_size e) (I.ok.Ip x c hfn hc)))).trans e1⟩
  ·obtain⟨o',e1⟩:=I.base.there b o e hx;exact⟨o',(hs.2 b (ne_of_lt (lt_of_lt_of_le (lt_size e) (I.ok.Ip x c hfn hc)))).trans e1⟩
  ·by_cases hj:j=i
   ·subst hj;rw[hi]at e1;cases e1;rw[getElem?_set_self hiσ]at e2;cases e2;exact⟨u,r,.inr ⟨.inl hk,c,hc,hc'⟩⟩
   ·rw[getElem?_set_ne (Ne.symm hj)]at e2;obtain⟨u',r',q⟩:=hl j y v' e1 e2 e3;refine⟨u',r',?_⟩;rcases q with q|⟨k,c',e,z'⟩
    ·exact .inl q
    ·refine .inr ⟨k,c',e,z'.sameBut hs ?_⟩;rintro rfl;exact hj (mH hN e1 (I.ok.inj _ _ _ e hc▸hi))
  ·by_cases hcc:c'=c
   ·subst hcc;exact⟨_,hc'⟩
   ·obtain⟨w2,z2⟩:=I.cell y c' e;exact⟨w2,z2.sameBut hs hcc⟩
  ·obtain⟨e,n,ne,nf,d⟩:=I.pin p hp;refine⟨(hs.2 p.1 ?_).trans e,n,ne,nf,d⟩;intro q;rw[q,hoc]at e;have q':oc=p.2:=Nc e;exact d w' (by rw[<-q'];exact hocd)
theorem g8{M:Model}{A:Around}{E:L5}{i:Nat}{x:Str}{v:V}{u:Value}{Q:Unit->Shared->Prop}(I:Inv X pins σ H s)(hN:X.N.Nodup)(hi:X.N[i]?=some x)(hx:Loc X.env.scope x)(r:RelV v u)(h:∀s',Inv X pins (σ.set i (some v)) H s'->Q () s')(hf:X.fn x=true\/X.env.scope.names.lookup x=some .local:=by first|exact .inl rfl|exact .inr rfl|assumption):wpAny M A (storeName X.env x u) Q E s:=
 ox I hN hi hx r (fun s' I' _=>h s' I') hf
theorem Inv.J8{s':Shared}{ch:List Addr}(I:Inv X pins σ H s)(ho:s'.os=s.os)(u:Un (r4 X.stack) ch H H' s.heap s'.heap)(a8:gq X.prog X.w H' s'.heap)(hg:AllBare s'.gens)(hch:∀b∈ch,(b∈X.ex\/X.nO.heap.objs.size<=b)/\b≠X.env.locals/\(∀x c,X.env.cells.lookup x=some c->c≠b)/\∀p∈X.pn++pins,p.1≠b):Inv X pins σ H' s':=by
 obtain⟨h',g',d',t',o'⟩:=s';have e:o'=s.os:=ho;subst e;exact I.call (g':=g') (t':=t') (d':=d') u a8 hg hch
end
abbrev XK:=Value->Option Addr->Hp->Prop
abbrev St:=List (Option V)
abbrev VK:=V->Hp->Prop
abbrev TE:=St->Hp->VK->Prop
abbrev TT:=St->Hp->(Bool->Hp->Prop)->Prop
abbrev TA:=St->Hp->(List V->Hp->Prop)->Prop
structure Ends where
 nx:St->Hp->Prop
 rt:VK
 bk:St->Hp->Prop:=fun _ _=>False
 ct:St->Hp->Prop:=fun _ _=>False
abbrev TS:=Ends->St->Hp->Prop
def EP(X:Cx)(pins:LpT)(σ:St)(Q:VK)(u:Value)(s':Shared):Prop:=∃v H',Inv X pins σ H' s'/\RelV v u/\Q v H'
def TP(X:Cx)(pins:LpT)(σ:St)(Q:Bool->Hp->Prop)(b:Bool)(s':Shared):Prop:=∃H',Inv X pins σ H' s'/\Q b H'
def AP(X:Cx)(pins:LpT)(σ:St)(Q:List V->Hp->Prop)(us:List Value)(s':Shared):Prop:=∃vs H',Inv X pins σ H' s'/\Vals vs us/\Q vs H'
def SP(X:Cx)(pins:LpT)(D:Ends)(f:Flow)(s':Shared):Prop:=
 match f with
 |.next=>∃σ' H',Inv X pins σ' H' s'/\D.nx σ' H'
 |.brk=>∃σ' H',Inv X pins σ' H' s'/\D.bk σ' H'
 |.cont=>∃σ' H',Inv X pins σ' H' s'/\D.ct σ' H'
 |.ret u=>∃v σ' H',Inv X pins σ' H' s'/\RelV v u/\D.rt v H'
def PE(X:Cx)(e:Expr)(t:TE):Prop:=
 ∀(pins:LpT)(s:Shared)(σ:St)(H:Hp)(Q:VK),Inv X pins σ H s->t σ H Q->wpAny (model X.prog X.w) X.A (eval e X.env) (EP X pins σ Q) X.xe s
def PT(X:Cx)(e:Expr)(t:TT):Prop:=
 ∀(pins:LpT)(s:Shared)(σ:St)(H:Hp)(Q:Bool->Hp->Prop),Inv X pins σ H s->t σ H Q->wpAny (model X.prog X.w) X.A (isTrue e X.env (eval e X.env)) (TP X pins σ Q) X.xe s
def PW(X:Cx)(e:Expr)(t:TT):Prop:=
 ∀(whole:Sem Value)(pins:LpT)(s:Shared)(σ:St)(H:Hp)(Q:Bool->Hp->Prop),Inv X pins σ H s->t σ H Q->wpAny (model X.prog X.w) X.A (isTrue e X.env whole) (TP X pins σ Q) X.xe s
theorem PW.pt{X:Cx}{e:Expr}{t:TT}(h:PW X e t):PT X e t:=h _
def PA(X:Cx)(es:List Expr)(t:TA):Prop:=
 ∀(pos:Pos)(pins:LpT)(s:Shared)(σ:St)(H:Hp)(Q:List V->Hp->Prop),Inv X pins σ H s->t σ H Q->wpAny (model X.prog X.w) X.A (spliced (backTo pos (starEach es X.env))) (AP X pins σ Q) X.xe s
def PS(X:Cx)(st:Stmt)(t:TS):Prop:=
 ∀(pins:LpT)(s:Shared)(σ:St)(H:Hp)(D:Ends),Inv X pins σ H s->t D σ H->wpAny (model X.prog X.w) X.A (exec st X.env) (SP X pins D) X.xe s
def uE(X:Cx)(st:List Stmt)(t:TS):Prop:=
 ∀(pins:LpT)(s:Shared)(σ:St)(H:Hp)(D:Ends),Inv X pins σ H s->t D σ H->wpAny (model X.prog X.w) X.A (execs st X.env) (SP X pins D) X.xe s
theorem bK{α:Type}{t:Sem α}{Q Q':α->Shared->Prop}{M:Model}{A:Around}{E:L5}{s:Shared}(h:wpAny M A t Q E s)(hQ:∀a s,Q a s->Q' a s):wpAny M A t Q' E s:=wpAny_mono h hQ fun _ _ x=>x
section
variable{X:Cx}
theorem bin{a b:Expr}{ta tb:TE}(ha:PE X a ta)(hb:PE X b tb){pins:LpT}{s:Shared}{σ:St}{H:Hp}{R:V->V->Hp->Prop}(I:Inv X pins σ H s)(h:ta σ H fun x H1=>tb σ H1 fun y H2=>R x y H2){α:Type}{Q:α->Shared->Prop}{f:Value->Value->Sem α}(hf:∀v u s2 x y H2,Inv X pins σ H2 s2->RelV x v->RelV y u->R x y H2->wpAny (model X.prog X.w) X.A (f v u) Q X.xe s2):
  wpAny (model X.prog X.w) X.A (eval a X.env) (fun v s₁=>wpAny (model X.prog X.w) X.A (eval b X.env) (fun u s₂=>wpAny (model X.prog X.w) X.A (f v u) Q X.xe s₂) X.xe s₁) X.xe s:=by
 refine bK (ha pins s σ H _ I h) fun v s1⟨x,H1,I1,r1,q1⟩=>?_;refine bK (hb pins s1 σ H1 _ I1 q1) fun u s2⟨y,H2,I2,r2,q2⟩=>?_;exact hf v u s2 x y H2 I2 r1 r2 q2
def Ed(i:Nat):TE:=fun σ H Q=>∃v,σ[i]?=some (some v)/\Q v H
def tC(v:V):TE:=fun _ H Q=>Q v H
theorem FK{i:Nat}{x:Str}{pos:Pos}(hN:X.N[i]?=some x)(hv:Iq X.env.scope x)(hd:(x==("__debug__":Str))=false:=by decide)(hcd:(x==("__classdict__":Str))=false:=by decide):PE X (.Name x pos) (Ed i):=by
 intro pins s σ H Q I h;obtain⟨v,e,h⟩:=h;obtain⟨m,hn,hl⟩:=I.loc;obtain⟨u,r,l⟩:=hl i x v hN e hv;have fin:EP X pins σ Q u s:=⟨v,H,I,r,h⟩;rcases l with⟨hk,hm⟩|⟨hk,c,hc,hcell⟩
 ·exact wpAny_Name (wpAny_loadName_local I.ok.kind hk hn hm fin) hd
 ·rcases hk with hk|hk
  ·exact wpAny_Name (wpAny_loadName_cell I.ok.kind hk hc hcell fin) hd
  ·exact wpAny_Name (wpAny_loadName_free I.ok.kind hk hc hcell fin hcd) hd
theorem az{i j pos}:PE X (.Constant (.int i) j pos) (tC (.int i)):=fun _ _ _ H _ I h=>wpAny_Constant_int ⟨.int i,H,I.tok _,⟨_,rfl⟩,h⟩
theorem gR{b j pos}:PE X (.Constant (.bool b) j pos) (tC (.bl b)):=fun _ _ _ H _ I h=>Constant_bool ⟨.bl b,H,I,rfl,h⟩
theorem c7{j pos}:PE X (.Constant .none j pos) (tC .cu):=fun _ _ _ H _ I h=>Constant_none ⟨.cu,H,I,rfl,h⟩
theorem l6{x j pos}:PE X (.Constant (.str x) j pos) (tC (.str x)):=fun _ _ _ H _ I h=>Calls.Constant_str ⟨.str x,H,I.tok _,⟨_,rfl⟩,h⟩
def Gl(X:Cx)(x:Str):Prop:=X.env.kindOf x=some .globalImplicit
theorem ju{E:L5}{pins:LpT}{s:Shared}{σ:St}{H:Hp}{x:Str}{u:Value}{pos:Pos}{Q:L5}(I:Inv X pins σ H s)(hg:Gl X x)(hm:X.mg x=some u)(h:Q u s)(hd:(x==("__debug__":Str))=false:=by decide):wpAny (model X.prog X.w) X.A (eval (.Name x pos) X.env) Q E s:=
 Calls.Name_function_global I.ok.kind hg (Calls.loadGlobal_global (by rw[I.ok.glob];exact I.mod.glob.keeps I.bk) hm h) hd
theorem eB{E:L5}{pins:LpT}{s:Shared}{σ:St}{H:Hp}{x:Str}{u:Value}{pos:Pos}{Q:L5}(I:Inv X pins σ H s)(hg:Gl X x)(hm:X.mg x=none)(hv:bootBuiltins x=some u)(h:Q u s)(hn:x≠"__name__":=by decide)(hd:(x==("__debug__":Str))=false:=by decide):wpAny (model X.prog X.w) X.A (eval (.Name x pos) X.env) Q E s:=by
 obtain⟨mb,h1,h2⟩:=I.mod.blt;exact Calls.Name_function_global I.ok.kind hg (Calls.loadGlobal_builtin (by rw[I.ok.glob];exact I.mod.glob.keeps I.bk) hm (by rw[I.ok.blt];exact h1.keeps I.bk) ((h2 x hn).trans hv) h) hd
theorem cN{x:Str}{v:V}{u:Value}{pos:Pos}(hg:Gl X x)(hm:X.mg x=some u)(r:RelV v u)(hd:(x==("__debug__":Str))=false:=by decide):PE X (.Name x pos) (tC v):=
 fun _ _ _ H _ I h=>ju I hg hm ⟨v,H,I,r,h⟩ hd
variable{a b:Expr}{ta tb:TE}{pos:Pos}
def PC(X:Cx)(op:CmpOp)(a b:Expr)(t:TE):Prop:=
 ∀(pins:LpT)(s:Shared)(σ:St)(H:Hp)(Q:VK),Inv X pins σ H s->t σ H Q ->
  wpAny (model X.prog X.w) X.A (eval a X.env) (fun v s₁=>wpAny (model X.prog X.w) X.A (eval b X.env) (fun u s₂=>wpAny (model X.prog X.w) X.A (compareOp op v u) (EP X pins σ Q) X.xe s₂) X.xe s₁) X.xe s
def tB(t:TE):TT:=fun σ H Q=>t σ H fun x H1=>∃c,x=.bl c/\Q c H1
theorem tO{op:CmpOp}{t:TE}(h:PC X op a b t)(h1:behindInMarks op b=false:=by first|exact JM _ (by decide) (by decide)|rfl):PT X (.Compare a [op] [b] pos) (tB t):=by
 intro pins s σ H Q I hw;refine wpAny_isTrue_Compare1 (bK (h pins s σ H _ I hw) fun v s1 h1=>bK h1 fun u s2 h2=>bK h2 fun c s3⟨x,H1,I1,r1,q1⟩=>?_) h1;obtain⟨d,rfl,q⟩:=q1;cases r1;exact wpAny_truthy_bool ⟨H1,I1,q⟩
theorem df{e:Expr}{t:TE}(h:PE X e t)(he:∀whole,isTrue e X.env whole=(do let v <-whole;standAt e.pos;holding [v] (truthy v)):=by intro _;rfl):PT X e (tB t):=by
 intro pins s σ H Q I hw;refine isTrue_plain (bK (h pins s σ H _ I hw) fun v s1⟨x,H1,I1,r1,q1⟩=>?_) (he _);obtain⟨d,rfl,q⟩:=q1;cases r1;exact wpAny_truthy_bool ⟨H1,I1,q⟩
variable{tA tB':TT}{rest:List Expr}
def MC(t u:TT):TT:=fun σ H Q=>t σ H fun c H1=>if c=true then Q true H1 else u σ H1 Q
def KY(t:TT):TT:=fun σ H Q=>t σ H fun c H1=>Q (!c) H1
theorem tN(ha:PT X a tA):PW X (.BoolOp .Or [a] pos) tA:=by
 intro wh pins s σ H Q I h;refine isTrue_or (bK (ha pins s σ H Q I h) fun c s1 e=>?_);cases c with
 |false=>exact isTrue_or_nil e
 |true=>exact e
theorem yW(ha:PT X a tA)(hb:PW X (.BoolOp .Or (b::rest) pos) tB'):PW X (.BoolOp .Or (a::b::rest) pos) (MC tA tB'):=by
 intro wh pins s σ H Q I h;refine isTrue_or (bK (ha pins s σ H _ I h) fun c s1⟨H1,I1,q1⟩=>?_);cases c with
 |true=>exact⟨H1,I1,q1⟩
 |false=>exact hb wh pins s1 σ H1 Q I1 q1
theorem fE(ha:PT X a tA):PT X (.UnaryOp .Not a pos) (KY tA):=by
 intro pins s σ H Q I h;exact isTrue_not (ha pins s σ H (fun c H1=>Q (!c) H1) I h)
def IH(ta tb:TE):TE:=fun σ H Q=>ta σ H fun x H1=>∃c,x=.bl c/\if c=true then tb σ H1 Q else Q (.bl false) H1
def KW(ta tb:TE):TE:=fun σ H Q=>ta σ H fun x H1=>∃c,x=.bl c/\if c=true then Q (.bl true) H1 else tb σ H1 Q
theorem y4{op}{t:TE}(h:PE X a t):PE X (.BoolOp op [a] pos) t:=fun pins s σ H Q I hw=>BoolOp_one (h pins s σ H Q I hw)
theorem FO(ha:PE X a ta)(hb:PE X (.BoolOp .And (b::rest) pos) tb):PE X (.BoolOp .And (a::b::rest) pos) (IH ta tb):=by
 intro pins s σ H Q I h;refine BoolOp_and (bK (ha pins s σ H _ I h) fun v s1⟨x,H1,I1,r1,q1⟩=>?_);obtain⟨c,rfl,q1⟩:=q1;cases r1;refine wpAny_truthy_bool ?_;cases c with
 |true=>exact hb pins s1 σ H1 Q I1 q1
 |false=>exact⟨.bl false,H1,I1,rfl,q1⟩
theorem JB(ha:PE X a ta)(hb:PE X (.BoolOp .Or (b::rest) pos) tb):PE X (.BoolOp .Or (a::b::rest) pos) (KW ta tb):=by
 intro pins s σ H Q I h;refine BoolOp_or (bK (ha pins s σ H _ I h) fun v s1⟨x,H1,I1,r1,q1⟩=>?_);obtain⟨c,rfl,q1⟩:=q1;cases r1;refine wpAny_truthy_bool ?_;cases c with
 |false=>exact hb pins s1 σ H1 Q I1 q1
 |true=>exact⟨.bl true,H1,I1,rfl,q1⟩
def MD(t:TT)(ta tb:TE):TE:=fun σ H Q=>t σ H fun c H1=>if c=true then ta σ H1 Q else tb σ H1 Q
theorem hJ{c:Expr}(hc:PT X c tA)(ha:PE X a ta)(hb:PE X b tb):PE X (.IfExp c a b pos) (MD tA ta tb):=by
 intro pins s σ H Q I h;refine wpAny_IfExp (bK (hc pins s σ H _ I h) fun d s1⟨H1,I1,q1⟩=>?_);cases d with
 |true=>exact ha pins s1 σ H1 Q I1 q1
 |false=>exact hb pins s1 σ H1 Q I1 q1
end
def aH(K:Frag)(H:Hp)(a:Addr)(xs:List V):Prop:=
 Rd H a (.lst xs) \/
  ∃(o:Obj)(its:Array Value)(n:Nat),K.lookup a=some o/\o.cls=.type "list"/\o.dict=none/\o.data=.seq its n/\its.size<=sizeLine/\Vals xs its.toList
def gr(K:Frag)(H:Hp)(a:Addr)(xs:List V):Prop:=
 Rd H a (.tup xs) \/
  ∃(o:Obj)(its:Array Value)(n:Nat),K.lookup a=some o/\o.cls=.type "tuple"/\o.data=.seq its n/\its.size<=sizeLine/\Vals xs its.toList
def LV:Value->Option V
 |.none=>some .cu
 |.bool b=>some (.bl b)
 |.int i _=>some (.int i)
 |.str x _=>some (.str x)
 |.bytes b _=>some (.sP b)
 |.float b _=>some (.KA b)
 |.ref a=>some (.ref a)
 |.type n=>some (.ty n)
 |_=>none
theorem RelV.abs{x:V}{u:Value}(r:RelV x u):LV u=some x:=by
 cases x with
 |cu=>cases r;rfl
 |bl _=>cases r;rfl
 |int _=>obtain⟨t,rfl⟩:=r;rfl
 |str _=>obtain⟨t,rfl⟩:=r;rfl
 |sP _=>obtain⟨t,rfl⟩:=r;rfl
 |KA _=>obtain⟨t,rfl⟩:=r;rfl
 |ref _=>cases r;rfl
 |ty _=>cases r;rfl
theorem RelV.inj{x y:V}{u:Value}(r:RelV x u)(q:RelV y u):x=y:=Nc (r.abs.symm.trans q.abs)
theorem Vals.inj:∀{xs ys:List V}{us:List Value},Vals xs us->Vals ys us->xs=ys
 |_,_,_,.nil,.nil=>rfl
 |_,_,_,.cons r t,.cons r' t'=>by rw[r.inj r',Vals.inj t t']
section
variable{X:Cx}{pins:LpT}{σ:St}{H:Hp}{s:Shared}{a:Addr}{xs ys:List V}
theorem aH.of{K:Frag}(h:H a=some (.lst xs)):aH K H a xs:=.inl (.inl h)
theorem gr.of{K:Frag}(h:H a=some (.tup xs)):gr K H a xs:=.inl (.inl h)
theorem Inv.list(I:Inv X pins σ H s)(h:aH X.K H a xs):∃its:List Value,Vals xs its/\PlainL s.heap a its.toArray/\xs.length<=sizeLine:=by
 rcases h with h|⟨o,its,n,hk,hc,hd,hs,hz,r⟩
 ·obtain⟨z,its,n,r,e⟩:=h.ok I.a8;exact⟨its,r,⟨_,n,e,rfl,rfl,rfl⟩,z⟩
 ·refine⟨its.toList,r,⟨o,n,I.mS a o hk,hc,hd,by simpa using hs⟩,?_⟩;have e:=r.length;simp only[length_toList]at e;omega
theorem Inv.tuple(I:Inv X pins σ H s)(h:gr X.K H a xs):∃its:List Value,Vals xs its/\IsTup s.heap a its.toArray/\xs.length<=sizeLine:=by
 rcases h with h|⟨o,its,n,hk,hc,hs,hz,r⟩
 ·obtain⟨z,its,r,p⟩:=h.ok I.a8;exact⟨its,r,p,z⟩
 ·refine⟨its.toList,r,⟨o,I.mS a o hk,hc,n,by simpa using hs⟩,?_⟩;have e:=r.length;simp only[length_toList]at e;omega
theorem Inv.ic(I:Inv X pins σ H s)(h:aH X.K H a xs)(h':aH X.K H a ys):xs=ys:=by
 obtain⟨its,r,⟨o,n,e,_,_,d⟩,_⟩:=I.list h;obtain⟨its',r',⟨o',n',e',_,_,d'⟩,_⟩:=I.list h';rw[e]at e';cases e';rw[d]at d';injection d' with d1 _;have:its=its':=by simpa using congrArg toList d1
 subst this;exact r.inj r'
theorem Inv.wj(I:Inv X pins σ H s)(h:gr X.K H a xs)(h':gr X.K H a ys):xs=ys:=by
 obtain⟨its,r,⟨o,e,_,n,d⟩,_⟩:=I.tuple h;obtain⟨its',r',⟨o',e',_,n',d'⟩,_⟩:=I.tuple h';rw[e]at e';cases e';rw[d]at d';injection d' with d1 _;have:its=its':=by simpa using congrArg toList d1
 subst this;exact r.inj r'
end
abbrev Cx.nB(X:Cx)(E:L5):Cx:={ X with xe:=E }
abbrev Cx.Dy(X:Cx):Cx:=X.nB fun _ _=>False
theorem Cx.Ok.nB{X:Cx}(ok:X.Ok)(E:L5):(X.nB E).Ok:=
 ⟨ok.mod,ok.kind,ok.glob,ok.blt,ok.above,ok.inj,ok.has,ok.Ip,ok.hd,ok.frames,ok.Ks,ok.KG,ok.bs,ok.xm,ok.zx,ok.Ar,ok.ir,ok.xw⟩
theorem Cx.Ok.g7{X:Cx}{E:L5}(ok:(X.nB E).Ok):X.Ok:=
 ⟨ok.mod,ok.kind,ok.glob,ok.blt,ok.above,ok.inj,ok.has,ok.Ip,ok.hd,ok.frames,ok.Ks,ok.KG,ok.bs,ok.xm,ok.zx,ok.Ar,ok.ir,ok.xw⟩
section
variable{X:Cx}{pins:LpT}{σ:St}{H:Hp}{s:Shared}{E:L5}
theorem Inv.nB(I:Inv X pins σ H s)(E:L5):Inv (X.nB E) pins σ H s:=⟨I.ok.nB E,I.os,I.bare,I.base,I.loc,I.cell,I.free,I.gT,I.pin,I.a8,I.len⟩
theorem Inv.g7(I:Inv (X.nB E) pins σ H s):Inv X pins σ H s:=⟨I.ok.g7,I.os,I.bare,I.base,I.loc,I.cell,I.free,I.gT,I.pin,I.a8,I.len⟩
theorem SP.g7{D:Ends}{f:Flow}{s':Shared}(h:SP (X.nB E) pins D f s'):SP X pins D f s':=by
 cases f with
 |next=>obtain⟨σ',H',I,q⟩:=h;exact⟨σ',H',I.g7,q⟩
 |brk=>obtain⟨σ',H',I,q⟩:=h;exact⟨σ',H',I.g7,q⟩
 |cont=>obtain⟨σ',H',I,q⟩:=h;exact⟨σ',H',I.g7,q⟩
 |ret u=>obtain⟨v,σ',H',I,r,q⟩:=h;exact⟨v,σ',H',I.g7,r,q⟩
theorem uE.Dy{st:List Stmt}{t:TS}(h:uE X.Dy st t):uE X st t:=fun pins s σ H D I hw=>
 wpAny_mono (h pins s σ H D (I.nB _) hw) (fun _ _ q=>q.g7) fun _ _ z=>False.elim z
end
section
variable{X:Cx}{st:Stmt}{rest:List Stmt}{t u:TS}{e:Expr}{te:TE}{pos:Pos}
def Iz:TS:=fun D σ H=>D.nx σ H
def KS(t u:TS):TS:=fun D σ H=>t { D with nx:=u D } σ H
theorem aZ:uE X [] Iz:=fun _ _ σ H _ I h=>wpAny_execs_nil ⟨σ,H,I,h⟩
theorem ag(h1:PS X st t)(h2:uE X rest u):uE X (st::rest) (KS t u):=by
 intro pins s σ H D I h;refine wpAny_execs_cons (bK (h1 pins s σ H { D with nx:=u D } I h) fun f s1 q=>?_);cases f with
 |next=>
  obtain⟨σ',H',I',q⟩:=q;exact h2 pins s1 σ' H' D I' q
 |ret v=>exact q
 |brk=>exact q
 |cont=>exact q
theorem ah(h1:PS X st t):uE X [st] t:=by
 intro pins s σ H D I h;refine wpAny_execs_cons (bK (h1 pins s σ H D I h) fun f s1 q=>?_);cases f with
 |next=>exact wpAny_execs_nil q
 |ret v=>exact q
 |brk=>exact q
 |cont=>exact q
theorem Inv.quiet{pins:LpT}{σ:St}{H:Hp}{s:Shared}(I:Inv X pins σ H s):interactive X.env=false:=by simp[interactive,I.ok.kind]
def ID(te:TE):TS:=fun D σ H=>te σ H fun _ H1=>D.nx σ H1
theorem dC(he:PE X e te)(hs:swapsWith e none pos.line X.env=pure false:=by rfl):PS X (.Expr e pos) (ID te):=by
 intro pins s σ H D I h;exact wpAny_Expr_any (bK (he pins s σ H _ I h) fun v s1⟨x,H1,I1,r1,q1⟩=>⟨σ,H1,I1,q1⟩) I.quiet hs
def KU(te:TE):TS:=fun D σ H=>te σ H D.rt
theorem ak(he:PE X e te):PS X (.Return (some e) pos) (KU te):=by
 intro pins s σ H D I h;exact wpAny_Return_some (bK (he pins s σ H _ I h) fun v s1⟨x,H1,I1,r1,q1⟩=>⟨x,σ,H1,I1,r1,q1⟩)
def K1(c:TT)(t u:TS):TS:=fun D σ H=>c σ H fun b H1=>if b=true then t D σ H1 else u D σ H1
theorem bL{c:Expr}{a b:List Stmt}{tc:TT}(hc:PT X c tc)(ha:uE X a t)(hb:uE X b u):PS X (.If c a b pos) (K1 tc t u):=by
 intro pins s σ H D I h;refine wpAny_If (bK (hc pins s σ H _ I h) fun d s1⟨H1,I1,q1⟩=>?_);cases d with
 |true=>exact ha pins s1 σ H1 D I1 q1
 |false=>exact hb pins s1 σ H1 D I1 q1
end
abbrev TG:=V->St->Hp->(St->Hp->Prop)->Prop
abbrev DU:=List V->St->Hp->(St->Hp->Prop)->Prop
def PG(X:Cx)(target:Expr)(t:TG):Prop:=
 ∀(pins:LpT)(s:Shared)(σ:St)(H:Hp)(v:V)(u:Value)(Q:St->Hp->Prop),Inv X pins σ H s->RelV v u->t v σ H Q ->
  wpAny (model X.prog X.w) X.A (assign target X.env u) (fun _ s'=>∃σ' H',Inv X pins σ' H' s'/\Q σ' H') X.xe s
def Kg(X:Cx)(ts:List Expr)(t:DU):Prop:=
 ∀(pins:LpT)(s:Shared)(σ:St)(H:Hp)(vs:List V)(us:List Value)(Q:St->Hp->Prop),Inv X pins σ H s->Vals vs us->t vs σ H Q ->
  wpAny (model X.prog X.w) X.A (assignInOrder ((assignEach ts X.env).map (·.2)) us) (fun _ s'=>∃σ' H',Inv X pins σ' H' s'/\Q σ' H') X.xe s
abbrev Ih:=V->V->V->Hp->(Hp->Prop)->Prop
def Kf(X:Cx)(t:Ih):Prop:=
 ∀(pins:LpT)(s:Shared)(σ:St)(H:Hp)(o i v:V)(ov iv u:Value)(Q:Hp->Prop),Inv X pins σ H s->RelV o ov->RelV i iv->RelV v u->t o i v H Q ->
  wpAny (model X.prog X.w) X.A (setItem ov iv u) (fun _ s'=>∃H',Inv X pins σ H' s'/\Q H') X.xe s
abbrev KJ:=V->V->Hp->VK->Prop
def L0(X:Cx)(op:Operator)(t:KJ):Prop:=
 ∀(pins:LpT)(s:Shared)(σ:St)(H:Hp)(x y:V)(v u:Value)(Q:VK),Inv X pins σ H s->RelV x v->RelV y u->t x y H Q ->
  wpAny (model X.prog X.w) X.A (inplaceOp op v u) (EP X pins σ Q) X.xe s
section
variable{X:Cx}{pos:Pos}
def vE(i:Nat):TG:=fun v σ H Q=>Q (σ.set i (some v)) H
theorem aJ{i:Nat}{x:Str}(hN:X.N.Nodup)(hi:X.N[i]?=some x)(hx:Loc X.env.scope x)(hf:X.fn x=true\/X.env.scope.names.lookup x=some .local:=by first|exact .inl rfl|exact .inr rfl|assumption):PG X (.Name x pos) (vE i):=by
 intro pins s σ H v u Q I r h;exact wpAny_assign_Name (g8 I hN hi hx r (fun s' I'=>⟨_,H,I',h⟩) hf)
def LF:DU:=fun vs σ H Q=>vs=[]/\Q σ H
def JY(t:TG)(u:DU):DU:=fun vs σ H Q=>∃v r,vs=v::r/\t v σ H fun σ' H'=>u r σ' H' Q
theorem k6:Kg X [] LF:=by
 intro pins s σ H vs us Q I r h;obtain⟨e,h⟩:=h;subst e;cases r;exact assignInOrder_nil ⟨σ,H,I,h⟩
theorem eh{e:Expr}{es:List Expr}{t:TG}{u:DU}(h1:PG X e t)(h2:Kg X es u)(hs:(assignEach (e::es) X.env).map (·.2)=assign e X.env::(assignEach es X.env).map (·.2):=by rfl):Kg X (e::es) (JY t u):=by
 intro pins s σ H vs us Q I r h;obtain⟨v,vr,e1,h⟩:=h;subst e1;cases r with
 |cons r rr=>
  rw[hs];refine assignInOrder_cons (bK (h1 pins s σ H _ _ _ I r h) fun _ s1⟨σ1,H1,I1,q1⟩=>?_);exact h2 pins s1 σ1 H1 _ _ Q I1 rr q1
def JX(K:Frag)(n:Nat)(t:DU):TG:=fun v σ H Q=>∃a xs,v=.ref a/\gr K H a xs/\xs.length=n/\t xs σ H Q
theorem pF{es:List Expr}{k:Nat}{t:DU}{n:Nat}(hc:X.calm=true)(h:Kg X es t)(hn:(assignEach es X.env).length=n:=by rfl)(hst:(assignEach es X.env).findIdx? (·.1)=none:=by rfl):PG X (.Tuple es k pos) (JX X.K n t):=by
 intro pins s σ H v u Q I r hw;obtain⟨a,xs,e1,hq,hl,hw⟩:=hw;subst e1;cases r;obtain⟨its,rv,ht,hz⟩:=I.tuple hq;refine assign_Tuple_tuple (I.ok.hd hc) ht (by simp[hn,<-hl,rv.length]) hst fun h' hx=>?_;have I1:Inv X pins σ H { s with heap:=h' }:=I.kept (t':=s.toks) fun b o e=>hx b o (ne_of_lt (lt_size e)) e;exact h pins _ σ H xs _ Q I1 (by simpa using rv) hw
def LD(to ti:TE)(t:Ih):TG:=fun v σ H Q=>to σ H fun o H1=>ti σ H1 fun i H2=>t o i v H2 fun H3=>Q σ H3
theorem tT{o i:Expr}{to ti:TE}{t:Ih}(ho:PE X o to)(hi:PE X i ti)(hs:Kf X t)(ha:∀v,assign (.Subscript o i pos) X.env v=(do
   let ov <-holding [v] (eval o X.env)
   let iv <-holding [v,ov] (eval i X.env)
   standAt pos
   holding [v,ov,iv] (setItem ov iv v)
   release [v,ov,iv] []):=by intro _;rfl):PG X (.Subscript o i pos) (LD to ti t):=by
 intro pins s σ H v u Q I r h
 rw[ha]
 refine wpAny_bind (wpAny_holding (bK (ho pins s σ H _ I h) fun ov s1⟨x,H1,I1,r1,q1⟩=>?_))
 refine wpAny_bind (wpAny_holding (bK (hi pins s1 σ H1 _ I1 q1) fun iv s2⟨y,H2,I2,r2,q2⟩=>?_))
 refine wpAny_bind (wpAny_standAt (wpAny_bind (wpAny_holding (bK (hs pins s2 σ H2 x y v ov iv u _ I2 r1 r2 r q2) fun _ s3⟨H3,I3,q3⟩=>?_))))
 exact wpAny_release ⟨σ,H3,I3,q3⟩
def El(te:TE)(g:TG):TS:=fun D σ H=>te σ H fun x H1=>g x σ H1 D.nx
theorem tQ{tg e:Expr}{te:TE}{g:TG}(he:PE X e te)(hg:PG X tg g)(hs:swapsWithSole [tg] e pos.line X.env=pure false:=by rfl)(hw:swappedStores [tg] e X.env=pure none:=by rfl)(h1:(assignEach [tg] X.env).map (·.2)=[assign tg X.env]:=by rfl):PS X (.Assign [tg] e pos) (El te g):=by
 intro pins s σ H D I h;refine wpAny_Assign_stores (bK (he pins s σ H _ I h) fun v s1⟨x,H1,I1,r1,q1⟩=>?_) hs hw;rw[h1];exact bK (hg pins s1 σ H1 x v _ I1 r1 q1) fun _ s2 q=>q
theorem aC{i:Nat}{x:Str}{e:Expr}{te:TE}{pos':Pos}(hN:X.N.Nodup)(hi:X.N[i]?=some x)(hx:Loc X.env.scope x)(he:PE X e te)(hs:swapsWith e (some (.Name x pos')) pos.line X.env=pure false:=by rfl)(hf:X.fn x=true\/X.env.scope.names.lookup x=some .local:=by first|exact .inl rfl|exact .inr rfl|assumption):
  PS X (.Assign [.Name x pos'] e pos) (El te (vE i)):=by
 intro pins s σ H D I h;refine wpAny_Assign_Name (bK (he pins s σ H _ I h) fun v s1⟨y,H1,I1,r1,q1⟩=>?_) hs;exact g8 I1 hN hi hx r1 (fun s2 I2=>⟨_,H1,I2,q1⟩) hf
def K5(i:Nat)(te:TE)(ti:KJ):TS:=fun D σ H=>∃x,σ[i]?=some (some x)/\te σ H fun y H1=>ti x y H1 fun z H2=>D.nx (σ.set i (some z)) H2
theorem lW{i:Nat}{x:Str}{e:Expr}{te:TE}{op:Operator}{ti:KJ}{pos':Pos}(hN:X.N.Nodup)(hi:X.N[i]?=some x)(hx:Loc X.env.scope x)(he:PE X e te)(ho:L0 X op ti)(hf:X.fn x=true\/X.env.scope.names.lookup x=some .local:=by first|exact .inl rfl|exact .inr rfl|assumption):
  PS X (.AugAssign (.Name x pos') op e pos) (K5 i te ti):=by
 intro pins s σ H D I h;obtain⟨v,e1,h⟩:=h;obtain⟨m,hn,hl⟩:=I.loc;have vis:Iq X.env.scope x:=by rcases hx with k|k;exact .inl k;exact .inr (.inl k)
 obtain⟨u,r,l⟩:=hl i x v hi e1 vis;refine wpAny_AugAssign_Name ?_;have go:wpAny (model X.prog X.w) X.A (eval e X.env) (fun w s₂=>wpAny (model X.prog X.w) X.A (inplaceOp op u w) (fun r s₃=>wpAny (model X.prog X.w) X.A (storeName X.env x r) (fun _=>SP X pins D .next) X.xe s₃) X.xe s₂) X.xe s:=by
  refine bK (he pins s σ H _ I h) fun w s1⟨y,H1,I1,r1,q1⟩=>?_;refine bK (ho pins s1 σ H1 v y u w _ I1 r r1 q1) fun z s2⟨zv,H2,I2,r2,q2⟩=>?_;exact g8 I2 hN hi hx r2 (fun s3 I3=>⟨_,H2,I3,q2⟩) hf
 rcases l with⟨hk,hm⟩|⟨hk,c,hc,hcell⟩
 ·exact wpAny_loadName_local I.ok.kind hk hn hm go
 ·rcases hk with hk|hk
  ·exact wpAny_loadName_cell I.ok.kind hk hc hcell go
  ·rcases hx with k|k
   ·have:X.env.scope.names.lookup x=some .free:=hk;rw[k]at this;cases this
   ·have:X.env.scope.names.lookup x=some .free:=hk;rw[k]at this;cases this
def M8(f:Int->Int->Int):KJ:=fun x y H Q=>∃i j,x=.int i/\y=.int j/\Q (.int (f i j)) H
theorem ud:L0 X .Add (M8 fun i j=>i+j):=by
 intro pins s σ H x y v u Q I r1 r2 h;obtain⟨i,j,e1,e2,q⟩:=h;subst e1;subst e2;obtain⟨t,rfl⟩:=r1;obtain⟨t',rfl⟩:=r2;exact iadd_int ⟨.int _,H,I.tok _,⟨_,rfl⟩,q⟩
def Ec(c:TT)(tb:TS):TS:=fun D σ H=>∃W:Nat->St->Hp->Prop,(∃m,W m σ H)/\∀m σ H,W m σ H ->
 c σ H fun b H1=>if b=true then∃N:St->Hp->Prop,(∀σ' H',N σ' H'->∃m',m'<m/\W m' σ' H')/\tb { D with nx:=N,ct:=N,bk:=D.nx } σ H1 else D.nx σ H1
theorem eO{c:Expr}{body:List Stmt}{tc:TT}{tb:TS}(hp:PassesOwn (model X.prog X.w) X.A X.env X.xe)(hc:PT X c tc)(hb:uE X body tb):PS X (.While c body [] pos) (Ec tc tb):=by
 intro pins s σ H D I h;obtain⟨W,⟨m0,w0⟩,turn⟩:=h;refine wpAny_While (codeAny_whileLoop (fun n s'=>∃σ' H',Inv X pins σ' H' s'/\W n σ' H') ?_ m0 ⟨σ,H,I,w0⟩);rintro n s1 ⟨σ1,H1,I1,w1⟩;refine wpAny_passesOwn hp (bK (hc pins s1 σ1 H1 _ I1 (turn n σ1 H1 w1)) fun b s2⟨H2,I2,q2⟩=>?_);cases b with
 |true=>
  obtain⟨N,hN,q2⟩:=q2;rw[if_pos rfl];refine wpAny_passesOwn hp (bK (hb pins s2 σ1 H2 _ I2 q2) fun f s3 q3=>?_);cases f with
  |next=>
   obtain⟨σ3,H3,I3,n3⟩:=q3;obtain⟨m',hm,w3⟩:=hN σ3 H3 n3;exact⟨m',hm,σ3,H3,I3,w3⟩
  |cont=>
   obtain⟨σ3,H3,I3,n3⟩:=q3;obtain⟨m',hm,w3⟩:=hN σ3 H3 n3;exact⟨m',hm,σ3,H3,I3,w3⟩
  |brk=>exact q3
  |ret v=>exact q3
 |false=>
  rw[if_neg Ni];exact wpAny_execs_nil ⟨σ1,H2,I2,q2⟩
end
structure It where
 go:Nat->Hp->Prop
 vY:Nat->Hp->V->Hp->Prop
 stop:Nat->Hp->Prop
def fJ(X:Cx)(pins:LpT)(H:Hp)(b:Addr):Prop:=
 H b=none/\b≠X.env.locals/\b∉X.fs/\(b∈X.ex\/X.nO.heap.objs.size<=b)/\(∀x c,X.env.cells.lookup x=some c->c≠b)/\∀p∈X.pn++pins,p.1≠b
theorem Inv.nY{X:Cx}{pins:LpT}{σ:St}{H H':Hp}{s:Shared}{b:Addr}(I:Inv X pins σ H s)(hb:s.heap.objs.size<=b)(hn:H' b=none):fJ X pins H' b:=by
 refine⟨hn,ne_of_gt (lt_of_lt_of_le I.lt hb),I.Ls hb,.inr (le_trans I.sz hb),fun x c e z=>?_,fun p hp z=>?_⟩
 ·obtain⟨v,q⟩:=I.cell x c e;exact absurd (lt_of_lt_of_le q.lt (by rw[z];exact hb)) (lt_irrefl _)
 ·exact absurd (lt_of_lt_of_le (lt_size (I.pin p hp).1) (by rw[z];exact hb)) (lt_irrefl _)
structure Turn(P:Program)(w:World)(K:Frag)(tg:Expr)(J:It)(fp:List Addr)(it:Addr)(tn:Nat->Heap->Prop):Prop where
 mem:it∈fp
 obj:∀i h,tn i h->∀b∈fp,∃o,h.get? b=some o/\∀v,o.data≠.cell v
 keep:∀i h h',tn i h->(∀b∈fp,∀o,h.get? b=some o->h'.get? b=some o)->tn i h'
 item:∀(X:Cx),X.prog=P->X.w=w->X.K=K->X.calm=true->∀(i:Nat)(pins:LpT)(s:Shared)(σ:St)(H:Hp)(E:L5),Inv X pins σ H s->(∀b∈fp,fJ X pins H b)->tn i s.heap->J.go i H ->
  wpAny (model P w) X.A (pyNext (.ref it)) (fun r s1=>∃u,r=some u /\
   wpAny (model P w) X.A (letOwnedTupleGo tg (.ref it) u) (fun _ s2=>∃x H',Inv X pins σ H' s2/\RelV x u/\J.vY i H x H'/\tn (i+1) s2.heap/\∀b∈fp,H' b=none) E s1) E s
 done:∀(X:Cx),X.prog=P->X.w=w->X.K=K->X.calm=true->∀(i:Nat)(pins:LpT)(s:Shared)(σ:St)(H:Hp)(E:L5),Inv X pins σ H s->(∀b∈fp,fJ X pins H b)->tn i s.heap->J.stop i H ->
  wpAny (model P w) X.A (pyNext (.ref it)) (fun r s1=>r=none/\Inv X pins σ H s1) E s
 self:∀(A:Around)(i:Nat)(s:Shared)(Q:L5)(E:L5),tn i s.heap->Q (.ref it) s->wpAny (model P w) A (pyIter (.ref it)) Q E s
abbrev TI:=St->Hp->(It->Hp->Prop)->Prop
def L1(X:Cx)(pins:LpT)(σ:St)(tg:Expr)(R:It->Hp->Prop)(itv:Value)(s2:Shared):Prop:=
 ∃(it:Addr)(fp:List Addr)(tn:Nat->Heap->Prop)(J:It)(H':Hp),itv=.ref it/\Inv X pins σ H' s2/\Turn X.prog X.w X.K tg J fp it tn/\tn 0 s2.heap/\(∀b∈fp,fJ X pins H' b)/\R J H'
def PI(X:Cx)(tg iter:Expr)(wi:TI):Prop:=
 ∀(pins:LpT)(s:Shared)(σ:St)(H:Hp)(R:It->Hp->Prop),Inv X pins σ H s->wi σ H R ->
  wpAny (model X.prog X.w) X.A (eval iter X.env) (fun v s1=>wpAny (model X.prog X.w) X.A (pyIter v) (L1 X pins σ tg R) X.xe s1) X.xe s
theorem rZ{M:Model}{A:Around}{E:L5}{s:Shared}{tg:Expr}{it:Addr}{u:Value}{o:Obj}{n:String}{vs:Array Value}{Q:Unit->Shared->Prop}(ho:s.heap.get? it=some o)(hc:o.cls=.type n)(hd:o.data=.fields vs)(hn:["enumerate","zip","dict_itemiterator","dict_reverseitemiterator","odict_iterator","itertools.zip_longest","itertools.pairwise"].contains n=false)(hQ:Q () s):wpAny M A (letOwnedTupleGo tg (.ref it) u) Q E s:=by
 unfold letOwnedTupleGo;cases tg<;>first
  |exact wpAny_pure hQ
  |(cases u<;>first
    |exact wpAny_pure hQ
    |(refine wpAny_bind (wpAny_load ho ?_)
      rw[hc,hd];show wpAny M A (if(["enumerate","zip","dict_itemiterator","dict_reverseitemiterator","odict_iterator","itertools.zip_longest","itertools.pairwise"].contains n&&vs[0]?==some (rawInt _))=true then _ else _) Q E s;rw[if_neg (by intro h;rw[hn,Bool.false_and]at h;cases h)];exact wpAny_pure hQ))
def DY(K:Frag)(a:Addr):It:=
 ⟨fun i H=>∃xs x,aH K H a xs/\xs[i]?=some x,fun i H x H'=>H'=H/\∀xs,aH K H a xs->xs[i]?=some x,fun i H=>∃xs,aH K H a xs/\xs.length<=i⟩
def Kj(K:Frag)(a:Addr):It:=
 ⟨fun i H=>∃xs x,gr K H a xs/\xs[i]?=some x,fun i H x H'=>H'=H/\∀xs,gr K H a xs->xs[i]?=some x,fun i H=>∃xs,gr K H a xs/\xs.length<=i⟩
def AV(lo:Int)(n:Nat):It:=⟨fun i _=>i<n,fun i H x H'=>H'=H/\x=.int (lo+i),fun i _=>n<=i⟩
theorem we{P:Program}{w:World}{K:Frag}{tg:Expr}(a it:Addr):Turn P w K tg (DY K a) [it] it (fun i h=>h.IsListIter it a i) where
 mem:=by simp
 obj:=fun i h st b hb=>by
  have e:b=it:=by simpa using hb
  subst e
  obtain⟨o,e,c,d⟩:=st
  exact⟨o,e,fun v z=>by rw[d]at z;cases z⟩
 keep:=fun i h h' st k=>st.at fun o e=>k it (by simp) o e
 item:=by
  intro X hP hw hK hc i pins s σ H E I hf st hg
  subst hP hw hK
  obtain⟨xs,x,hq,hx⟩:=hg
  obtain⟨its,rv,p,hz⟩:=I.list hq
  obtain⟨u,hu,ru⟩:=rv.get hx
  obtain⟨f0,f1,f2,f3,f4,f5⟩:=hf it (by simp)
  refine wpAny_pyNext_list_item st p.isList (x:=u) (by simpa using hu) fun h' st' sb=>?_
  have I1:Inv X pins σ H { s with heap:=h' }:=I.turned (t':=s.toks) (fun b o hb e=>(sb.2 b hb).trans e) f0 f1 f3 f4 f5
  obtain⟨o,e,c,d⟩:=id st'
  exact⟨u,rfl,rZ (s:={ s with heap:=h' }) e c d (by decide) ⟨x,H,I1,ru,⟨rfl,fun ys hy=>by rw[I.ic hy hq];exact hx⟩,st',fun b hb=>(hf b hb).1⟩⟩
 done:=by
  intro X hP hw hK hc i pins s σ H E I hf st hg
  subst hP hw hK
  obtain⟨xs,hq,hx⟩:=hg
  obtain⟨its,rv,p,hz⟩:=I.list hq
  obtain⟨f0,f1,f2,f3,f4,f5⟩:=hf it (by simp)
  have hl:=rv.length
  exact wpAny_pyNext_list_end (I.ok.hd hc) st p.isList (by simp;omega) fun h' eb=>⟨rfl,I.turned (t':=s.toks) (fun b o hb e=>eb b o hb e) f0 f1 f3 f4 f5⟩
 self:=fun _ _ _ _ _ st h=>wpAny_pyIter_listiter st h
theorem sY{P:Program}{w:World}{K:Frag}{tg:Expr}(a it:Addr):Turn P w K tg (Kj K a) [it] it (fun i h=>h.IsTupleIter it a i) where
 mem:=by simp
 obj:=fun i h st b hb=>by
  have e:b=it:=by simpa using hb
  subst e
  obtain⟨o,e,c,d⟩:=st
  exact⟨o,e,fun v z=>by rw[d]at z;cases z⟩
 keep:=fun i h h' st k=>st.at fun o e=>k it (by simp) o e
 item:=by
  intro X hP hw hK hc i pins s σ H E I hf st hg
  subst hP hw hK
  obtain⟨xs,x,hq,hx⟩:=hg
  obtain⟨its,rv,p,hz⟩:=I.tuple hq
  obtain⟨u,hu,ru⟩:=rv.get hx
  obtain⟨f0,f1,f2,f3,f4,f5⟩:=hf it (by simp)
  refine wpAny_pyNext_tuple_item st (show s.heap.IsTuple a its.toArray from p) (x:=u) (by simpa using hu) fun h' st' sb=>?_
  have I1:Inv X pins σ H { s with heap:=h' }:=I.turned (t':=s.toks) (fun b o hb e=>(sb.2 b hb).trans e) f0 f1 f3 f4 f5
  obtain⟨o,e,c,d⟩:=id st'
  exact⟨u,rfl,rZ (s:={ s with heap:=h' }) e c d (by decide) ⟨x,H,I1,ru,⟨rfl,fun ys hy=>by rw[I.wj hy hq];exact hx⟩,st',fun b hb=>(hf b hb).1⟩⟩
 done:=by
  intro X hP hw hK hc i pins s σ H E I hf st hg
  subst hP hw hK
  obtain⟨xs,hq,hx⟩:=hg
  obtain⟨its,rv,p,hz⟩:=I.tuple hq
  obtain⟨f0,f1,f2,f3,f4,f5⟩:=hf it (by simp)
  have hl:=rv.length
  exact wpAny_pyNext_tuple_end (I.ok.hd hc) st (show s.heap.IsTuple a its.toArray from p) (by simp;omega) fun h' eb=>⟨rfl,I.turned (t':=s.toks) (fun b o hb e=>eb b o hb e) f0 f1 f3 f4 f5⟩
 self:=fun _ _ _ _ _ st h=>wpAny_pyIter_tupleiter st h
theorem sZ{P:Program}{w:World}{K:Frag}{tg:Expr}(it:Addr)(lo:Int)(n:Nat):Turn P w K tg (AV lo n) [it] it (fun i h=>IsRangeIter h it (lo+(i:Nat)*1) ((n:Int)-(i:Nat)) 1) where
 mem:=by simp
 obj:=fun i h st b hb=>by
  have e:b=it:=by simpa using hb
  subst e
  exact⟨_,st,fun v z=>by
   have z':Data.fields _=Data.cell v:=z
   cases z'⟩
 keep:=fun i h h' st k=>k it (by simp) _ st
 item:=by
  intro X hP hw hK hc i pins s σ H E I hf st hg
  subst hP hw hK
  obtain⟨f0,f1,f2,f3,f4,f5⟩:=hf it (by simp)
  have W:=Walks.range (prog:=X.prog) (w:=X.w) (I.ok.hd hc) it lo 1 n
  refine W.item i s _ _ hg st fun v h' tk hv st' kk=>?_
  obtain⟨t,rfl⟩:=hv
  have I1:Inv X pins σ H { s with heap:=h',toks:=tk }:=I.turned (fun b o hb e=>kk b o (by simpa using hb) e) f0 f1 f3 f4 f5
  refine⟨_,rfl,rZ (s:={ s with heap:=h',toks:=tk }) (n:="range_iterator") st' rfl rfl (by decide) ⟨.int (lo+i),H,I1,⟨t,?_⟩,⟨rfl,rfl⟩,st',fun b hb=>(hf b hb).1⟩⟩
  rw[Int.mul_one]
 done:=by
  intro X hP hw hK hc i pins s σ H E I hf st hg
  subst hP hw hK
  obtain⟨f0,f1,f2,f3,f4,f5⟩:=hf it (by simp)
  exact wpAny_pyNext_range_end (I.ok.hd hc) st (by have:n<=i:=hg;omega) fun h' eb=>⟨rfl,I.turned (t':=s.toks) (fun b o hb e=>eb b o hb e) f0 f1 f3 f4 f5⟩
 self:=fun _ _ _ _ _ st h=>wpAny_pyIter_rangeiter st h
section
variable{X:Cx}{tg:Expr}
def DI(K:Frag)(tl:TE):TI:=fun σ H R=>tl σ H fun x H1=>∃a,x=.ref a/\(∃xs,aH K H1 a xs)/\R (DY K a) H1
def LB(K:Frag)(tl:TE):TI:=fun σ H R=>tl σ H fun x H1=>∃a,x=.ref a/\(∃xs,gr K H1 a xs)/\R (Kj K a) H1
theorem bM{l:Expr}{tl:TE}(hl:PE X l tl):PI X tg l (DI X.K tl):=by
 intro pins s σ H R I h;refine bK (hl pins s σ H _ I h) fun v s1⟨x,H1,I1,r1,q1⟩=>?_;obtain⟨a,e,⟨xs,hq⟩,q⟩:=q1;subst e;cases r1;obtain⟨its,rv,p,hz⟩:=I1.list hq;refine wpAny_pyIter_list p.isList ?_;refine⟨s1.heap.objs.size,[s1.heap.objs.size],_,_,H1,rfl,I1.kept (t':=s1.toks) fun b o e=>get?_push_of_some _ e,we a _,⟨_,get?_push_size _ rfl,rfl,rfl⟩,fun b hb=>?_,q⟩;have e:b=s1.heap.objs.size:=by simpa using hb
 subst e;exact I1.nY (le_refl _) (I1.a8.fresh (le_refl _))
theorem FH{l:Expr}{tl:TE}(hl:PE X l tl):PI X tg l (LB X.K tl):=by
 intro pins s σ H R I h;refine bK (hl pins s σ H _ I h) fun v s1⟨x,H1,I1,r1,q1⟩=>?_;obtain⟨a,e,⟨xs,hq⟩,q⟩:=q1;subst e;cases r1;obtain⟨its,rv,p,hz⟩:=I1.tuple hq;refine wpAny_pyIter_tuple (show s1.heap.IsTuple a its.toArray from p) ?_;refine⟨s1.heap.objs.size,[s1.heap.objs.size],_,_,H1,rfl,I1.kept (t':=s1.toks) fun b o e=>get?_push_of_some _ e,sY a _,⟨_,get?_push_size _ rfl,rfl,rfl⟩,fun b hb=>?_,q⟩;have e:b=s1.heap.objs.size:=by simpa using hb
 subst e;exact I1.nY (le_refl _) (I1.a8.fresh (le_refl _))
theorem qL{pins:LpT}{σ:St}{H:Hp}{s:Shared}{R:It->Hp->Prop}{E:L5}{lo hi:Int}{t u v:Tok}{tk:Nat}(I:Inv X pins σ H s)(h1:-(2^62)<=lo)(h2:lo<2^62)(h3:-(2^62)<=hi)(h4:hi<2^62)(q:R (AV lo (hi-lo).toNat) H):wpAny (model X.prog X.w) X.A (pyIter (.ref s.heap.objs.size)) (L1 X pins σ tg R) E { s with heap:=s.heap.push { cls:=.type "range",data:=.fields #[.int lo t,.int hi u,.int 1 v] },toks:=tk }:=by
 refine wpAny_pyIter_range (IsRange.new ..) (small_one h1 h2 h3 h4) ?_;have I1:Inv X pins σ H { s with heap:=s.heap.push { cls:=.type "range",data:=.fields #[.int lo t,.int hi u,.int 1 v] },toks:=tk }:=I.kept fun b o e=>get?_push_of_some _ e;refine⟨(s.heap.push { cls:=.type "range",data:=.fields #[.int lo t,.int hi u,.int 1 v] }).objs.size,[(s.heap.push { cls:=.type "range",data:=.fields #[.int lo t,.int hi u,.int 1 v] }).objs.size],_,_,H,rfl,
  I1.kept (t':=tk) fun b o e=>get?_push_of_some _ e,sZ _ lo (hi-lo).toNat,?_,fun b hb=>?_,q⟩
 ·have e1:lo+((0:Nat):Int)*1=lo:=by simp
  have e2:(((hi-lo).toNat:Nat):Int)-((0:Nat):Int)=Builtin.Range.rangeSize lo hi 1:=by rw[rangeSize_one];split<;>omega
  show IsRangeIter _ _ (lo+((0:Nat):Int)*1) ((((hi-lo).toNat:Nat):Int)-((0:Nat):Int)) 1;rw[e1,e2];exact get?_push_size _ rfl
 ·have e:b=(s.heap.push { cls:=.type "range",data:=.fields #[.int lo t,.int hi u,.int 1 v] }).objs.size:=by simpa using hb
  subst e;exact I1.nY (le_refl _) (I1.a8.fresh (le_refl _))
def JU(ta:TA):TI:=fun σ H R=>ta σ H fun vs H1=>∃j:Int,vs=[.int j]/\-(2^62)<=j/\j<2^62/\R (AV 0 j.toNat) H1
def JT(ta:TA):TI:=fun σ H R=>ta σ H fun vs H1=>∃i j:Int,vs=[.int i,.int j]/\(-(2^62)<=i/\i<2^62/\-(2^62)<=j/\j<2^62)/\R (AV i (j-i).toNat) H1
theorem cw{a:Expr}{ta:TA}{p pos:Pos}(hg:Gl X "range")(hm:X.mg "range"=none)(ha:PA X [a] ta)(hs:starEach [a] X.env=[(false,eval a X.env)]:=by rfl):PI X tg (.Call (.Name "range" p) [a] [] pos) (JU ta):=by
 intro pins s σ H R I h;refine Call_ (eB I hg hm boot_range (PyProof.Rows.callWith_type1 (bK (ha pos pins s σ H _ I h) fun us s1⟨vs,H1,I1,r1,q1⟩=>?_) hs rfl));obtain⟨j,e,q1,q2,q⟩:=q1;subst e;cases r1 with
 |cons r rr=>
  cases rr;obtain⟨t,rfl⟩:=r;exact call_range_1 (qL I1 (by omega) (by omega) q1 q2 (by simpa using q))
theorem oC{a b:Expr}{ta:TA}{p pos:Pos}(hg:Gl X "range")(hm:X.mg "range"=none)(ha:PA X [a,b] ta)(hs:starEach [a,b] X.env=[(false,eval a X.env),(false,eval b X.env)]:=by rfl)(hs2:starEach [b] X.env=[(false,eval b X.env)]:=by rfl):
  PI X tg (.Call (.Name "range" p) [a,b] [] pos) (JT ta):=by
 intro pins s σ H R I h;refine Call_ (eB I hg hm boot_range (PyProof.Rows.callWith_type1 (bK (ha pos pins s σ H _ I h) fun us s1⟨vs,H1,I1,r1,q1⟩=>?_) (by rw[hs,hs2]) (by rw[hs2];rfl)));obtain⟨i,j,e,⟨q1,q2,q3,q4⟩,q⟩:=q1;subst e;cases r1 with
 |cons r rr=>
  cases rr with
  |cons r' rr=>
   cases rr;obtain⟨t,rfl⟩:=r;obtain⟨t',rfl⟩:=r';exact call_range_2 (qL I1 q1 q2 q3 q4 q)
def K2(wi:TI)(g:TG)(tb:TS):TS:=fun D σ H=>wi σ H fun J H1=>∃W:Nat->Nat->St->Hp->Prop,(∃m,W 0 m σ H1)/\∀i m σ H,W i m σ H ->
 (J.stop i H/\D.nx σ H)\/(J.go i H/\∃N:St->Hp->Prop,(∀σ' H',N σ' H'->∃m',m'<m/\W (i+1) m' σ' H')/\∀x H',J.vY i H x H'->g x σ H' fun σ2 H2=>tb { D with nx:=N,ct:=N,bk:=D.nx } σ2 H2)
def iW(fp:List Addr)(h:Heap):LpT:=fp.filterMap fun b=>(h.get? b).map fun o=>(b,o)
theorem dh{fp:List Addr}{h:Heap}{b:Addr}{o:Obj}(hb:b∈fp)(e:h.get? b=some o):(b,o)∈iW fp h:=List.mem_filterMap.mpr ⟨b,hb,by rw[e];rfl⟩
theorem wH{fp:List Addr}{h:Heap}{p:Addr×Obj}(hp:p∈iW fp h):p.1∈fp/\h.get? p.1=some p.2:=by
 obtain⟨b,hb,e⟩:=List.mem_filterMap.mp hp;cases q:h.get? b with
 |none=>rw[q]at e;cases e
 |some o=>
  rw[q]at e;have e':(b,o)=p:=Nc e;subst e';exact⟨hb,q⟩
theorem Inv.pinned{pins:LpT}{σ:St}{H:Hp}{s:Shared}{fp:List Addr}(I:Inv X pins σ H s)(hf:∀b∈fp,fJ X pins H b)(ho:∀b∈fp,∃o,s.heap.get? b=some o/\∀v,o.data≠.cell v):Inv X (pins++iW fp s.heap) σ H s:=
 I.u0 fun p hp=>(Nj hp).elim (fun z=>I.pin p (mem_append_right _ z)) fun z=>by
  obtain⟨hb,e⟩:=wH z
  obtain⟨f0,f1,f2,_⟩:=hf p.1 hb
  obtain⟨o,e',d⟩:=ho p.1 hb
  rw[e]at e';cases e'
  exact⟨e,f0,f1,f2,d⟩
theorem Inv.fO{pins pl:LpT}{σ:St}{H:Hp}{s:Shared}(I:Inv X (pins++pl) σ H s):Inv X pins σ H s:=I.u0 fun p hp=>I.pin p (mem_append_right _ (mem_append_left _ hp))
theorem cM{iter:Expr}{body:List Stmt}{wi:TI}{g:TG}{tb:TS}{pos:Pos}(hp:PassesOwn (model X.prog X.w) X.A X.env X.xe)(hc:X.calm=true)(hi:PI X tg iter wi)(hg:PG X tg g)(hb:uE X body tb)(hs:∀x,foldedSetIterable iter X.env x=pure x:=by intro _;rfl):PS X (.For tg iter body [] pos) (K2 wi g tb):=by
 intro pins s σ H D I h;refine wpAny_For (bK (hi pins s σ H _ I h) fun v s1 h1=>bK h1 fun itv s2 h2=>?_) hs;obtain⟨it,fp,tn,J,H2,e,I2,T,st2,f2,W,⟨m0,w0⟩,turn⟩:=h2;subst e;have stat:∀{H':Hp},(∀b∈fp,H' b=none)->∀b∈fp,fJ X pins H' b:=fun hn b hb=>⟨hn b hb,(f2 b hb).2⟩;refine codeAny_forLoop_any (fun n s'=>∃i σ' H',Inv X pins σ' H' s'/\tn i s'.heap/\(∀b∈fp,H' b=none)/\W i n σ' H') ?_ m0 ⟨0,σ,H2,I2,st2,fun b hb=>(f2 b hb).1,w0⟩;rintro n s3 ⟨i,σ3,H3,I3,st3,fr3,w3⟩;rcases turn i n σ3 H3 w3 with⟨stop,qn⟩|⟨go,N,hN,step⟩
 ·refine wpAny_passesOwn hp (bK (T.done X rfl rfl rfl hc i pins s3 σ3 H3 X.xe I3 (stat fr3) st3 stop) fun r s4⟨hr,I4⟩=>?_);subst hr;exact wpAny_execs_nil ⟨σ3,H3,I4,qn⟩
 ·refine wpAny_passesOwn hp (bK (T.item X rfl rfl rfl hc i pins s3 σ3 H3 X.xe I3 (stat fr3) st3 go) fun r s4⟨u,hr,h4⟩=>?_);subst hr;refine wpAny_passesOwn hp (bK h4 fun _ s5⟨x,H5,I5,r5,y5,st5,fr5⟩=>?_);have I5':=I5.pinned (stat fr5) (T.obj _ _ st5);refine wpAny_passesOwn hp (bK (hg _ s5 σ3 H5 x u _ I5' r5 (step x H5 y5)) fun _ s6⟨σ6,H6,I6,q6⟩=>?_);refine wpAny_passesOwn hp (bK (hb _ s6 σ6 H6 _ I6 q6) fun f s7 q7=>?_);have again:∀{σ7:St}{H7:Hp},Inv X (pins++iW fp s5.heap) σ7 H7 s7->N σ7 H7->∃m,m<n/\∃i σ' H',Inv X pins σ' H' s7/\tn i s7.heap/\(∀b∈fp,H' b=none)/\W i m σ' H':=fun{σ7 H7}I7 n7=>by
   obtain⟨m',hm,w7⟩:=hN σ7 H7 n7;refine⟨m',hm,i+1,σ7,H7,I7.fO,T.keep _ _ _ st5 fun b hb o e=>(I7.pin (b,o) (mem_append_right _ (mem_append_right _ (dh hb e)))).1,fun b hb=>?_,w7⟩;obtain⟨o,e,d⟩:=T.obj _ _ st5 b hb;exact(I7.pin (b,o) (mem_append_right _ (mem_append_right _ (dh hb e)))).2.1
  cases f with
  |next=>obtain⟨σ7,H7,I7,n7⟩:=q7;exact again I7 n7
  |cont=>obtain⟨σ7,H7,I7,n7⟩:=q7;exact again I7 n7
  |brk=>obtain⟨σ7,H7,I7,q7⟩:=q7;exact⟨σ7,H7,I7.fO,q7⟩
  |ret v=>obtain⟨x7,σ7,H7,I7,r7,q7⟩:=q7;exact⟨x7,σ7,H7,I7.fO,r7,q7⟩
end
theorem dM{K:Frag}{a:Addr}{xs:List V}{g:TG}{tb:TS}{D:Ends}{σ:St}{H:Hp}(Pv:Nat->St->Hp->Prop)(h0:Pv 0 σ H)(hl:∀i σ H,i<=xs.length->Pv i σ H->aH K H a xs)(hs:∀i x σ H,xs[i]?=some x->Pv i σ H->g x σ H fun σ2 H2=>tb { D with nx:=Pv (i+1),ct:=Pv (i+1),bk:=D.nx } σ2 H2)(hd:∀σ H,Pv xs.length σ H->D.nx σ H):
  ∃W:Nat->Nat->St->Hp->Prop,(∃m,W 0 m σ H)/\∀i m σ H,W i m σ H ->
   ((DY K a).stop i H/\D.nx σ H)\/((DY K a).go i H/\∃N:St->Hp->Prop,(∀σ' H',N σ' H'->∃m',m'<m/\W (i+1) m' σ' H')/\∀x H',(DY K a).vY i H x H'->g x σ H' fun σ2 H2=>tb { D with nx:=N,ct:=N,bk:=D.nx } σ2 H2):=by
 refine⟨fun i m σ H=>m=xs.length-i/\i<=xs.length/\Pv i σ H,⟨xs.length,by simp,zero_le _,h0⟩,?_⟩;rintro i m σ H ⟨rfl,hi,p⟩;have q:=hl i σ H hi p;by_cases hlt:i<xs.length
 ·refine .inr ⟨⟨xs,xs[i],q,by simp[hlt]⟩,Pv (i+1),fun σ' H' p'=>⟨xs.length-(i+1),by omega,rfl,hlt,p'⟩,fun x H' y=>?_⟩;obtain⟨e,y⟩:=y;subst e;exact hs i x σ _ (y xs q) p
 ·have e:i=xs.length:=by omega
  subst e;exact .inl ⟨⟨xs,q,le_refl _⟩,hd σ H p⟩
theorem gj{lo:Int}{n:Nat}{g:TG}{tb:TS}{D:Ends}{σ:St}{H:Hp}(Pv:Nat->St->Hp->Prop)(h0:Pv 0 σ H)(hs:∀i σ H,i<n->Pv i σ H->g (.int (lo+i)) σ H fun σ2 H2=>tb { D with nx:=Pv (i+1),ct:=Pv (i+1),bk:=D.nx } σ2 H2)(hd:∀σ H,Pv n σ H->D.nx σ H):
  ∃W:Nat->Nat->St->Hp->Prop,(∃m,W 0 m σ H)/\∀i m σ H,W i m σ H ->
   ((AV lo n).stop i H/\D.nx σ H)\/((AV lo n).go i H/\∃N:St->Hp->Prop,(∀σ' H',N σ' H'->∃m',m'<m/\W (i+1) m' σ' H')/\∀x H',(AV lo n).vY i H x H'->g x σ H' fun σ2 H2=>tb { D with nx:=N,ct:=N,bk:=D.nx } σ2 H2):=by
 refine⟨fun i m σ H=>m=n-i/\i<=n/\Pv i σ H,⟨n,by simp,zero_le _,h0⟩,?_⟩;rintro i m σ H ⟨rfl,hi,p⟩;by_cases hlt:i<n
 ·refine .inr ⟨hlt,Pv (i+1),fun σ' H' p'=>⟨n-(i+1),by omega,rfl,hlt,p'⟩,fun x H' y=>?_⟩;obtain⟨e,y⟩:=y;subst e y;exact hs i σ _ hlt p
 ·have e:i=n:=by omega
  subst e;exact .inl ⟨le_refl _,hd σ H p⟩
abbrev R2:=V->V->Hp->VK->Prop
def lF(X:Cx)(f:Value->Value->Sem Value)(r:R2):Prop:=
 ∀(pins:LpT)(s:Shared)(σ:St)(H:Hp)(x y:V)(v u:Value)(Q:VK),Inv X pins σ H s->RelV x v->RelV y u->r x y H Q ->
  wpAny (model X.prog X.w) X.A (f v u) (EP X pins σ Q) X.xe s
def LW(X:Cx)(f:Value->Sem Value)(r:V->Hp->VK->Prop):Prop:=
 ∀(pins:LpT)(s:Shared)(σ:St)(H:Hp)(x:V)(v:Value)(Q:VK),Inv X pins σ H s->RelV x v->r x H Q ->
  wpAny (model X.prog X.w) X.A (f v) (EP X pins σ Q) X.xe s
def eX(X:Cx)(f:Value)(r:List V->Hp->VK->Prop):Prop:=
 ∀(pins:LpT)(s:Shared)(σ:St)(H:Hp)(xs:List V)(us:List Value)(Q:VK),Inv X pins σ H s->Vals xs us->r xs H Q ->
  wpAny (model X.prog X.w) X.A (call f us) (EP X pins σ Q) X.xe s
def Kq(r:R2)(ta tb:TE):TE:=fun σ H Q=>ta σ H fun x H1=>tb σ H1 fun y H2=>r x y H2 Q
def MA(r:V->Hp->VK->Prop)(ta:TE):TE:=fun σ H Q=>ta σ H fun x H1=>r x H1 Q
def rI(C:Int->Int->Prop)(g:Int->Int->V):R2:=fun x y H Q=>∃i j,x=.int i/\y=.int j/\C i j/\Q (g i j) H
def Dv(g:Int->Int->V):R2:=fun x y H Q=>∃i j,x=.int i/\y=.int j/\Q (g i j) H
def rU(g:Int->V):V->Hp->VK->Prop:=fun x H Q=>∃i,x=.int i/\Q (g i) H
section
variable{X:Cx}{a b c:Expr}{ta tb tc:TE}{pos:Pos}
theorem Ib(ha:PE X a ta)(hb:PE X b tb){pins:LpT}{s:Shared}{σ:St}{H:Hp}{R:V->V->Hp->Prop}(I:Inv X pins σ H s)(h:ta σ H fun x H1=>tb σ H1 fun y H2=>R x y H2){Q:L5}{f:Value->Value->Sem Value}(hf:∀v u s2 x y H2,Inv X pins σ H2 s2->RelV x v->RelV y u->R x y H2->wpAny (model X.prog X.w) X.A (f v u) Q X.xe s2):
  wpAny (model X.prog X.w) X.A (eval a X.env) (fun v s₁=>wpAny (model X.prog X.w) X.A (eval b X.env) (fun u s₂=>wpAny (model X.prog X.w) X.A (f v u) Q X.xe s₂) X.xe s₁) X.xe s:=by
 refine bK (ha pins s σ H _ I h) fun v s1⟨x,H1,I1,r1,q1⟩=>?_;refine bK (hb pins s1 σ H1 _ I1 q1) fun u s2⟨y,H2,I2,r2,q2⟩=>?_;exact hf v u s2 x y H2 I2 r1 r2 q2
theorem cI{op:Operator}{r:R2}(ho:lF X (binaryOp op) r)(ha:PE X a ta)(hb:PE X b tb):PE X (.BinOp a op b pos) (Kq r ta tb):=by
 intro pins s σ H Q I h;exact wpAny_BinOp (Ib ha hb I h fun v u s2 x y H2 I2 rx ry q=>ho pins s2 σ H2 x y v u Q I2 rx ry q)
theorem fW{op:UnaryOp}{r:V->Hp->VK->Prop}(ho:LW X (unaryOp op) r)(ha:PE X a ta):PE X (.UnaryOp op a pos) (MA r ta):=by
 intro pins s σ H Q I h;exact UnaryOp_ (bK (ha pins s σ H _ I h) fun v s1⟨x,H1,I1,r1,q1⟩=>ho pins s1 σ H1 x v Q I1 r1 q1)
theorem Lq{f:Value->Value->Sem Value}{C:Int->Int->Prop}{g:Int->Int->Int}(rule:∀(i j:Int)(t u:Tok)(s:Shared)(Q:L5)(E:L5),C i j->Q (.int (g i j) s.toks) { s with toks:=s.toks+1 }->wpAny (model X.prog X.w) X.A (f (.int i t) (.int j u)) Q E s):
  lF X f (rI C fun i j=>.int (g i j)):=by
 intro pins s σ H x y v u Q I rx ry h;obtain⟨i,j,rfl,rfl,hc,q⟩:=h;obtain⟨t,rfl⟩:=rx;obtain⟨t',rfl⟩:=ry;exact rule i j t t' s _ _ hc ⟨.int (g i j),H,I.tok _,⟨_,rfl⟩,q⟩
theorem JE{f:Value->Value->Sem Value}{g:Int->Int->Int}(rule:∀(i j:Int)(t u:Tok)(s:Shared)(Q:L5)(E:L5),Q (.int (g i j) s.toks) { s with toks:=s.toks+1 }->wpAny (model X.prog X.w) X.A (f (.int i t) (.int j u)) Q E s):
  lF X f (Dv fun i j=>.int (g i j)):=by
 intro pins s σ H x y v u Q I rx ry h;obtain⟨i,j,rfl,rfl,q⟩:=h;obtain⟨t,rfl⟩:=rx;obtain⟨t',rfl⟩:=ry;exact rule i j t t' s _ _ ⟨.int (g i j),H,I.tok _,⟨_,rfl⟩,q⟩
theorem BX{f:Value->Value->Sem Value}{g:Int->Int->Bool}(rule:∀(i j:Int)(t u:Tok)(s:Shared)(Q:L5)(E:L5),Q (.bool (g i j)) s->wpAny (model X.prog X.w) X.A (f (.int i t) (.int j u)) Q E s):
  lF X f (Dv fun i j=>.bl (g i j)):=by
 intro pins s σ H x y v u Q I rx ry h;obtain⟨i,j,rfl,rfl,q⟩:=h;obtain⟨t,rfl⟩:=rx;obtain⟨t',rfl⟩:=ry;exact rule i j t t' s _ _ ⟨.bl (g i j),H,I,rfl,q⟩
def L7(i j:Int):Prop:=0<j/\j<1073741824
def CI(i j:Int):Prop:=(-(2^64)<i/\i<2^64)\/(-(2^64)<j/\j<2^64)
theorem CI.ok{i j:Int}(h:CI i j):IntMulOk i j:=by
 rcases h with⟨h1,h2⟩|⟨h1,h2⟩
 ·exact .of_left (intBits_le_64 h1 h2)
 ·exact .of_right (intBits_le_64 h1 h2)
theorem tW:lF X (binaryOp .Add) (Dv fun i j=>.int (i+j)):=JE fun _ _ _ _ _ _ _ q=>add_int q
theorem zj:lF X (binaryOp .Sub) (Dv fun i j=>.int (i-j)):=JE fun _ _ _ _ _ _ _ q=>sub_int q
theorem pG:lF X (binaryOp .Mult) (rI CI fun i j=>.int (i*j)):=Lq fun _ _ _ _ _ _ _ hc q=>mul_int q hc.ok
theorem vf:lF X (binaryOp .FloorDiv) (rI L7 fun i j=>.int (i/j)):=Lq fun i j _ _ _ _ _ hc q=>by
 have h1:(0:Int)<j:=hc.1
 have h2:j<1073741824:=hc.2
 exact floordiv_int (by omega) (by rw[Int.fdiv_eq_ediv_of_nonneg i (by omega)];exact q) (.inl (PyProof.noPylong_small (by omega)))
theorem jQ:lF X (binaryOp .Mod) (rI (fun _ j=>0<j) fun i j=>.int (i%j)):=Lq fun i j _ _ _ _ _ hc q=>by
 have h1:(0:Int)<j:=hc
 exact mod_int' (by omega) (by rw[Int.fmod_eq_emod_of_nonneg i (by omega)];exact q)
theorem Mr{f:Value->Sem Value}{g:Int->Int}(rule:∀(i:Int)(t:Tok)(s:Shared)(Q:L5)(E:L5),Q (.int (g i) s.toks) { s with toks:=s.toks+1 }->wpAny (model X.prog X.w) X.A (f (.int i t)) Q E s):
  LW X f (rU fun i=>.int (g i)):=by
 intro pins s σ H x v Q I rx h;obtain⟨i,rfl,q⟩:=h;obtain⟨t,rfl⟩:=rx;exact rule i t s _ _ ⟨.int (g i),H,I.tok _,⟨_,rfl⟩,q⟩
theorem dW:LW X (unaryOp .USub) (rU fun i=>.int (-i)):=Mr fun _ _ _ _ _ q=>neg_int q
end
def IL:V->V->Bool
 |.cu,.cu=>true|.cu,.int _=>true|.int _,.cu=>true|.cu,.bl _=>true|.bl _,.cu=>true|.cu,.str _=>true|.str _,.cu=>true
 |.int _,.int _=>true|.bl _,.bl _=>true|.str _,.str _=>true|.sP _,.sP _=>true
 |.int _,.str _=>true|.str _,.int _=>true|.bl _,.str _=>true|.str _,.bl _=>true
 |_,_=>false
def MW:R2:=fun x y H Q=>IL x y=true/\Q (.bl (decide (x=y))) H
def MV:R2:=fun x y H Q=>IL x y=true/\Q (.bl (!decide (x=y))) H
theorem vM{i j:Int}:decide (V.int i=V.int j)=(i==j):=by
 rw[Bool.eq_iff_iff];simp
theorem AA{i j:Bool}:decide (V.bl i=V.bl j)=(i==j):=by
 rw[Bool.eq_iff_iff];simp
theorem vL{i j:Str}:decide (V.str i=V.str j)=(i==j):=by
 rw[Bool.eq_iff_iff];simp
theorem vN{i j:Array UInt8}:decide (V.sP i=V.sP j)=(i.toList==j.toList):=by
 rw[Bool.eq_iff_iff];cases i;cases j;simp
section
variable{X:Cx}{a b c:Expr}{ta tb tc:TE}{pos:Pos}
theorem bg{pins:LpT}{σ:St}{H:Hp}{s:Shared}{Q:VK}{k k':Bool}(I:Inv X pins σ H s)(q:Q (.bl k) H)(e:k=k'):EP X pins σ Q (.bool k') s:=by
 subst e;exact⟨.bl k,H,I,rfl,q⟩
theorem fZ:lF X (compareOp .Eq) MW:=by
 intro pins s σ H x y v u Q I rx ry h;obtain⟨hs,q⟩:=h;cases x with
 |cu=>
  cases rx;cases y with
  |cu=>cases ry;exact PySem.EqNone.eq_none_none (bg I q (by simp))
  |bl j=>cases ry;exact PySem.EqNone.eq_none_bool (bg I q (by simp))
  |int j=>obtain⟨t',rfl⟩:=ry;exact PySem.EqNone.eq_none_int (bg I q (by simp))
  |str j=>obtain⟨t',rfl⟩:=ry;exact PySem.EqNone.eq_none_str (bg I q (by simp))
  |_=>exact absurd (show false=true from hs) Ni
 |bl i=>
  cases rx;cases y with
  |cu=>cases ry;exact PySem.EqNone.eq_bool_none (bg I q (by simp))
  |bl j=>cases ry;exact eq_bool (bg I q AA)
  |str j=>obtain⟨t',rfl⟩:=ry;exact PySem.EqMixed.eq_bool_str (bg I q (by simp))
  |_=>exact absurd (show false=true from hs) Ni
 |int i=>
  obtain⟨t,rfl⟩:=rx;cases y with
  |cu=>cases ry;exact PySem.EqNone.eq_int_none (bg I q (by simp))
  |int j=>obtain⟨t',rfl⟩:=ry;exact eq_int (bg I q vM)
  |str j=>obtain⟨t',rfl⟩:=ry;exact PySem.EqMixed.eq_int_str (bg I q (by simp))
  |_=>exact absurd (show false=true from hs) Ni
 |str i=>
  obtain⟨t,rfl⟩:=rx;cases y with
  |cu=>cases ry;exact PySem.EqNone.eq_str_none (bg I q (by simp))
  |bl j=>cases ry;exact PySem.EqMixed.eq_str_bool (bg I q (by simp))
  |int j=>obtain⟨t',rfl⟩:=ry;exact PySem.EqMixed.eq_str_int (bg I q (by simp))
  |str j=>obtain⟨t',rfl⟩:=ry;exact eq_str (bg I q vL)
  |_=>exact absurd (show false=true from hs) Ni
 |sP i=>
  obtain⟨t,rfl⟩:=rx;cases y with
  |sP j=>obtain⟨t',rfl⟩:=ry;exact PySem.W.eq_bytes (bg I q vN)
  |_=>exact absurd (show false=true from hs) Ni
 |_=>cases y<;>exact absurd (show false=true from hs) Ni
theorem qX:lF X (compareOp .NotEq) MV:=by
 intro pins s σ H x y v u Q I rx ry h;obtain⟨hs,q⟩:=h;cases x with
 |cu=>
  cases rx;cases y with
  |cu=>cases ry;exact PySem.EqNone.ne_none_none (bg I q (by simp))
  |bl j=>cases ry;exact PySem.EqNone.ne_none_bool (bg I q (by simp))
  |int j=>obtain⟨t',rfl⟩:=ry;exact PySem.EqNone.ne_none_int (bg I q (by simp))
  |str j=>obtain⟨t',rfl⟩:=ry;exact PySem.EqNone.ne_none_str (bg I q (by simp))
  |_=>exact absurd (show false=true from hs) Ni
 |bl i=>
  cases rx;cases y with
  |cu=>cases ry;exact PySem.EqNone.ne_bool_none (bg I q (by simp))
  |bl j=>cases ry;exact ne_bool (bg I q (congrArg not AA))
  |str j=>obtain⟨t',rfl⟩:=ry;exact PySem.EqMixed.ne_bool_str (bg I q (by simp))
  |_=>exact absurd (show false=true from hs) Ni
 |int i=>
  obtain⟨t,rfl⟩:=rx;cases y with
  |cu=>cases ry;exact PySem.EqNone.ne_int_none (bg I q (by simp))
  |int j=>obtain⟨t',rfl⟩:=ry;exact ne_int (bg I q (congrArg not vM))
  |str j=>obtain⟨t',rfl⟩:=ry;exact PySem.EqMixed.ne_int_str (bg I q (by simp))
  |_=>exact absurd (show false=true from hs) Ni
 |str i=>
  obtain⟨t,rfl⟩:=rx;cases y with
  |cu=>cases ry;exact PySem.EqNone.ne_str_none (bg I q (by simp))
  |bl j=>cases ry;exact PySem.EqMixed.ne_str_bool (bg I q (by simp))
  |int j=>obtain⟨t',rfl⟩:=ry;exact PySem.EqMixed.ne_str_int (bg I q (by simp))
  |str j=>obtain⟨t',rfl⟩:=ry;exact ne_str (bg I q (congrArg not vL))
  |_=>exact absurd (show false=true from hs) Ni
 |sP i=>
  obtain⟨t,rfl⟩:=rx;cases y with
  |sP j=>obtain⟨t',rfl⟩:=ry;exact PySem.W.ne_bytes (bg I q (congrArg not vN))
  |_=>exact absurd (show false=true from hs) Ni
 |_=>cases y<;>exact absurd (show false=true from hs) Ni
theorem qY:lF X (compareOp .Lt) (Dv fun i j=>.bl (decide (i<j))):=BX fun _ _ _ _ _ _ _ q=>lt_int q
theorem JD:lF X (compareOp .LtE) (Dv fun i j=>.bl (decide (i<=j))):=BX fun _ _ _ _ _ _ _ q=>le_int q
theorem oG:lF X (compareOp .Gt) (Dv fun i j=>.bl (decide (j<i))):=BX fun _ _ _ _ _ _ _ q=>gt_int q
theorem ve:lF X (compareOp .GtE) (Dv fun i j=>.bl (decide (j<=i))):=BX fun _ _ _ _ _ _ _ q=>ge_int q
theorem mj:lF X (compareOp .Is) (fun x y H Q=>y=.cu/\Q (.bl (decide (x=.cu))) H):=by
 intro pins s σ H x y v u Q I rx ry h;obtain⟨rfl,q⟩:=h;cases ry;refine is_none_gen (bg I q ?_);cases x<;>first
  |(cases rx;rfl)
  |(obtain⟨t,rfl⟩:=rx;rfl)
theorem vd:lF X (compareOp .IsNot) (fun x y H Q=>y=.cu/\Q (.bl (!decide (x=.cu))) H):=by
 intro pins s σ H x y v u Q I rx ry h;obtain⟨rfl,q⟩:=h;cases ry;refine isnot_none_gen (bg I q ?_);cases x<;>first
  |(cases rx;rfl)
  |(obtain⟨t,rfl⟩:=rx;rfl)
theorem aW(b:Expr){op:CmpOp}(h:op≠.In:=by decide)(h2:op≠.NotIn:=by decide):behindInMarks op b=false:=by
 have e1:(op==CmpOp.In)=false:=by cases op<;>first|rfl|exact absurd rfl h
 have e2:(op==CmpOp.NotIn)=false:=by cases op<;>first|rfl|exact absurd rfl h2
 cases b<;>simp[behindInMarks,e1,e2]
theorem cV{op:CmpOp}{r:R2}(ho:lF X (compareOp op) r)(ha:PE X a ta)(hb:PE X b tb)(hm:behindInMarks op b=false):PE X (.Compare a [op] [b] pos) (Kq r ta tb):=by
 intro pins s σ H Q I h;exact wpAny_Compare1 (Ib ha hb I h fun v u s2 x y H2 I2 rx ry q=>ho pins s2 σ H2 x y v u Q I2 rx ry q) hm
def Iw(t:TE):TT:=fun σ H Q=>t σ H fun x H'=>∃k,x=.bl k/\Q k H'
theorem aX{op:CmpOp}{r:R2}(ho:lF X (compareOp op) r)(ha:PE X a ta)(hb:PE X b tb)(hm:behindInMarks op b=false):PT X (.Compare a [op] [b] pos) (Iw (Kq r ta tb)):=by
 intro pins s σ H Q I h;refine wpAny_isTrue_Compare1 (bK (ha pins s σ H _ I h) fun v s1⟨x,H1,I1,r1,q1⟩=>bK (hb pins s1 σ H1 _ I1 q1) fun u s2⟨y,H2,I2,r2,q2⟩=>
  bK (ho pins s2 σ H2 x y v u _ I2 r1 r2 q2) fun c s3⟨z,H3,I3,r3,k,e,q3⟩=>?_) hm
 subst e;cases r3;exact wpAny_truthy_bool ⟨H3,I3,q3⟩
theorem pP:(sizeLine:Nat)<2^63:=by rw[sizeLine_eq];decide
theorem vals1{x:V}{us:List Value}(r:Vals [x] us):∃u,us=[u]/\RelV x u:=by
 cases r with
 |cons r1 r2=>cases r2;exact⟨_,rfl,r1⟩
end
structure uF(h:Heap)(x dx C:Addr)(mA:GmT):Prop where
 obj:h.get? x=some (instObj C dx)
 ns:h.Ns1 dx mA
 ne:dx≠x
theorem wR{h:Heap}{dx:Addr}{mA:GmT}(n:h.Ns1 dx mA):∃od,h.get? dx=some od/\∀name,lookIn name od=some (mA name):=by
 obtain⟨o,es,ep,ho,hd,hk,_,hm⟩:=n;refine⟨o,ho,fun name=>?_⟩;have e:=hm name;unfold nsFind findBy at e;rw[<-Array.find?_toList]at e;unfold lookIn;rw[hd];dsimp only;split
 ·rename_i y q;rw[q]at e;exact congrArg some e
 ·rename_i q;rw[q]at e;have a:es.toList.any (·.refKey)=false:=by
   rw[List.any_eq_false];intro y hy;obtain⟨z,t,hkey⟩:=hk y (Array.mem_toList_iff.mp hy);simp[DictEntry.refKey,hkey]
  have a':¬es.toList.any (·.refKey)=true:=by rw[a];exact Ni
  rw[if_neg a'];exact congrArg some e
theorem uF.look{h:Heap}{x dx C:Addr}{mA:GmT}(I:uF h x dx C mA):∃od,PySem.W.InstAt h x (instObj C dx) C (some od)/\∀name,lookIn name od=some (mA name):=
 let⟨od,ho,hl⟩:=wR I.ns
 ⟨od,⟨I.obj,rfl,rfl,ho⟩,hl⟩
section
variable{prog:Program}{w:World}{A:Around}{E:L5}{s:Shared}{K:Frag}{x dx C f:Addr}{mA:GmT}{name:Str}{v:Value}
theorem get_map{expr:Bool}{Q:L5}(X:K.In s.heap)(I:uF s.heap x dx C mA)(hg:plainGet K C name=true)(hh:hasDictIn K C=true)(ha:PySem.W.findIn K (.ref C) name=some none)(hv:mA name=some v)(hv':handedIn v=true)(h:Q v { s with toks:=s.toks+1 }):
  wpAny (model prog w) A (getAttr (.ref x) name expr) Q E s:=by
 obtain⟨od,J,hl⟩:=I.look;exact PySem.W.get_value X J (plainGet_of hg).1 (PySem.W.findObj_own hh ha rfl (by rw[hl,hv])) hv' h
theorem An{pl:Sem Bool}{Q:Value×List Value->Shared->Prop}(X:K.In s.heap)(I:uF s.heap x dx C mA)(hg:plainGet K C name=true)(hf:PySem.W.findIn K (.ref C) name=some (some (.ref f)))(ht:PySem.W.isFn K (.ref f)=true)(hv:mA name=none)(h:Q (.ref f,[.ref x]) s):
  wpAny (model prog w) A (getMethod (.ref x) name pl) Q E s:=by
 obtain⟨od,J,hl⟩:=I.look;exact PySem.W.method_fn X J (plainGet_of hg).1 (plainGet_of hg).2 hf (beq_iff_eq.mp ht) (by show(lookIn name od).map (·.isSome)=some false;rw[hl,hv];rfl) h
theorem Ba{ns:List Str}{Q:Unit->Shared->Prop}(X:K.In s.heap)(I:uF s.heap x dx C mA)(hs:PySem.W.findIn K (.ref C) "__setattr__"=some (some (.builtin "object.__setattr__")))(hp:plainOver K C=true)(ht:takerIn K C name=some none)(hh:hasDictIn K C=true)(hw:PySem.Within mA ns)(hsz:ns.length<=sizeLine)(h:∀h',uF h' x dx C (fun y=>if y=name then some v else mA y)->Heap.SameBut dx s.heap h'->Q () { s with heap:=h',toks:=s.toks+2 }):
  wpAny (model prog w) A (setAttr (.ref x) name v) Q E s:=by
 obtain⟨od,J,hl⟩:=I.look;refine PySem.W.set_plain X J hs (PySem.W.osa_open (s:={ s with toks:=s.toks+1 }) (r:=none) X J hp ht fun b=>?_);obtain⟨cd,hc,hd'⟩:=PySem.W.any_some hh;have hx:s.heap.get? x=some ⟨.ref C,some dx,.plain,#[]⟩:=I.obj;refine wpAny_bind (wpAny_pure (wpAny_bind (wpAny_bind (wpAny_loadPart hx (wpAny_bind (PySem.W.Looks.here (s:={ s with toks:=s.toks+1 }) (PySem.W.looks_clsIn X hc) ?_))))));rw[hd'];refine wpAny_pure (a:=some dx) (wpAny_bind (wpAny_pure (wpAny_bind ?_)));refine wpAny_nsSet1 (s:={ s with toks:=s.toks+1 }) I.ns fun h' hn2 hs2=>?_;obtain⟨oD,esD,epD,hoD,hdD,hcD⟩:=hn2.count (PySem.Within.cons name v hw);refine wpAny_bind (wpAny_lookBehind hoD (by rw[hdD];exact pastItsLine_dict (le_trans hcD (by rw[length_cons];omega))) ?_);exact wpAny_pure (h _ ⟨(hs2.2 _ (Ne.symm I.ne)).trans I.obj,hn2,I.ne⟩ hs2)
theorem zL{R:Result->Shared->Prop}{vs:List Value}{kw:List (Str×Value)}(X:K.In s.heap)(hm:makesIn K C=true)(hi:PySem.W.findIn K (.ref C) "__init__"=some (some (.ref f)))(hf:typeIn K (.ref f)=some (.type "function"))(h:codeAny (model prog w) (A.under (.builtin "type.__call__" ⟨.ref C::vs,kw⟩)) (.call (.ref f) ⟨.ref (s.heap.objs.size+1)::vs,kw⟩) (PySem.W.InitBack (s.heap.objs.size+1) R)
   { s with heap:=(s.heap.push emptyDict).push (instObj C s.heap.objs.size) }):
  codeAny (model prog w) A (.call (.ref C) ⟨vs,kw⟩) R s:=by
 obtain⟨hh,g,d,t,os⟩:=s;exact PySem.W.make_core (PySem.W.makes_of X hm) (PySem.W.looks_findIn X hi) (fun self=>PySem.W.bind_fn X self hf) (.inl rfl) h
end
def bU(f:Str)(v:V):List (Str×V)->List (Str×V)
 |[]=>[(f,v)]
 |(g,x)::r=>if g=f then(g,v)::r else(g,x)::bU f v r
theorem aE(f g:Str)(v:V):∀fs:List (Str×V),(bU f v fs).lookup g=if g=f then some v else fs.lookup g
 |[]=>by
  show List.lookup g [(f,v)]=_
  by_cases h:g=f
  ·have hb:(g==f)=true:=beq_iff_eq.mpr h
   simp only[List.lookup,hb,if_pos h]
  ·have hb:(g==f)=false:=beq_eq_false_iff_ne.mpr h
   simp only[List.lookup,hb,if_neg h]
 |(k,x)::r=>by
  have ih:=aE f g v r
  rw[show bU f v ((k,x)::r)=(if k=f then(k,v)::r else(k,x)::bU f v r)from rfl]
  by_cases hk:k=f
  ·rw[if_pos hk]
   by_cases h:g=k
   ·have hb:(g==k)=true:=beq_iff_eq.mpr h
    simp only[List.lookup,hb,if_pos (h.trans hk)]
   ·have hb:(g==k)=false:=beq_eq_false_iff_ne.mpr h
    simp only[List.lookup,hb,if_neg (fun e:g=f=>h (e.trans hk.symm))]
  ·rw[if_neg hk]
   by_cases h:g=k
   ·have hb:(g==k)=true:=beq_iff_eq.mpr h
    simp only[List.lookup,hb,if_neg (fun e:g=f=>hk (h.symm.trans e))]
   ·have hb:(g==k)=false:=beq_eq_false_iff_ne.mpr h
    simp only[List.lookup,hb]
    exact ih
theorem jT(f:Str)(v:V):∀fs:List (Str×V),f∈(bU f v fs).map (·.1)/\∀g,g∈fs.map (·.1)->g∈(bU f v fs).map (·.1)
 |[]=>⟨by simp[bU],fun g h=>by simp at h⟩
 |(k,x)::r=>by
  obtain⟨i1,i2⟩:=jT f v r
  rw[show bU f v ((k,x)::r)=(if k=f then(k,v)::r else(k,x)::bU f v r)from rfl]
  by_cases hk:k=f
  ·rw[if_pos hk]
   subst hk
   exact⟨by simp,fun g h=>by simpa using h⟩
  ·rw[if_neg hk]
   refine⟨?_,fun g h=>?_⟩
   ·rw[map_cons]
    exact mem_cons_of_mem _ i1
   ·rw[map_cons]at h ⊢
    rcases Nf h with e|e
    ·exact List.mem_cons.mpr (.inl e)
    ·exact mem_cons_of_mem _ (i2 g e)
theorem j8(f:Str)(v:V):∀fs:List (Str×V),(bU f v fs).length<=fs.length+1
 |[]=>by simp[bU]
 |(k,x)::r=>by
  have ih:=j8 f v r
  rw[show bU f v ((k,x)::r)=(if k=f then(k,v)::r else(k,x)::bU f v r)from rfl]
  by_cases hk:k=f
  ·rw[if_pos hk,length_cons,length_cons];omega
  ·rw[if_neg hk,length_cons,length_cons];omega
theorem iM.some_of{v:V}{o:Option Value}(r:iM (some v) o):∃u,o=some u/\RelV v u:=by
 cases o with
 |none=>exact(show False from r).elim
 |some u=>exact⟨u,rfl,r⟩
theorem iM.none_of{o:Option Value}(r:iM none o):o=none:=by
 cases o with
 |none=>rfl
 |some u=>exact(show False from r).elim
theorem xc{v:V}{u:Value}(r:RelV v u):handedIn u=true:=by
 cases v with
 |cu=>cases(show u=Value.none from r);rfl
 |bl b=>cases(show u=Value.bool b from r);rfl
 |int i=>obtain⟨t,e⟩:=(show∃t,u=Value.int i t from r);cases e;rfl
 |str x=>obtain⟨t,e⟩:=(show∃t,u=Value.str x t from r);cases e;rfl
 |sP b=>obtain⟨t,e⟩:=(show∃t,u=Value.bytes b t from r);cases e;rfl
 |KA b=>obtain⟨t,e⟩:=(show∃t,u=Value.float b t from r);cases e;rfl
 |ref a=>cases(show u=Value.ref a from r);rfl
 |ty n=>cases(show u=Value.type n from r);rfl
section
variable{P:Program}{w:World}{H H':Hp}{h h':Heap}{a C dx:Addr}{fs fs':List (Str×V)}
theorem pV(a8:gq P w H h)(e:H a=some (.ins C dx fs)):∃mA,uF h a dx C mA/\(∀f,iM (fs.lookup f) (mA f))/\PySem.Within mA (fs.map (·.1))/\fs.length<=1000/\H dx=some (.own a):=by
 obtain⟨d,z,ne,ob,mA,n,r,q⟩:=(show bB P w H h a (.ins C dx fs)from a8 a _ e);exact⟨mA,⟨ob,n,ne⟩,r,q,z,d⟩
end
structure xu(K:Frag)(C:Addr):Prop where
 pg:plainGet K C Str.empty=true
 hd:hasDictIn K C=true
 po:plainOver K C=true
 sa:PySem.W.findIn K (.ref C) "__setattr__"=some (some (.builtin "object.__setattr__"))
theorem xu.get{K:Frag}{C:Addr}(c:xu K C)(f:Str):plainGet K C f=true:=c.pg
def dP(K:Frag)(C:Addr)(f:Str):Prop:=PySem.W.findIn K (.ref C) f=some none
theorem dP.Iv{K:Frag}{C:Addr}{f:Str}(n:dP K C f):takerIn K C f=some none:=by
 unfold takerIn;rw[show PySem.W.findIn K (.ref C) f=some none from n];rfl
structure Meth(K:Frag)(C:Addr)(m:Str)(f:Addr):Prop where
 at_:PySem.W.findIn K (.ref C) m=some (some (.ref f))
 fn:PySem.W.isFn K (.ref f)=true
 kp:PySem.W.keepIn K (.ref f)=true
section
variable{X:Cx}{pins:LpT}{σ:St}{H:Hp}{s:Shared}{a C dx:Addr}{fs:List (Str×V)}{f:Str}{v:V}{A:Around}{E:L5}
theorem mW{b:Bool}{Q:L5}(I:Inv X pins σ H s)(e:H a=some (.ins C dx fs))(c:xu X.K C)(n:dP X.K C f)(l:fs.lookup f=some v)(h:∀u s',Inv X pins σ H s'->RelV v u->Q u s'):wpAny (model X.prog X.w) A (getAttr (.ref a) f b) Q E s:=by
 obtain⟨mA,O,r,_,_,_⟩:=pV I.a8 e;obtain⟨u,hu,ru⟩:=iM.some_of (v:=v) (o:=mA f) (by rw[<-l];exact r f);exact get_map I.mS O (c.get f) c.hd n hu (xc ru) (h u _ (I.tok _) ru)
theorem i7{m:Str}{g:Addr}{pl:Sem Bool}{Q:Value×List Value->Shared->Prop}(I:Inv X pins σ H s)(e:H a=some (.ins C dx fs))(c:xu X.K C)(k:Meth X.K C m g)(l:fs.lookup m=none)(h:Q (.ref g,[.ref a]) s):wpAny (model X.prog X.w) A (getMethod (.ref a) m pl) Q E s:=by
 obtain⟨mA,O,r,_,_,_⟩:=pV I.a8 e;have hn:mA m=none:=iM.none_of (by rw[<-l];exact r m);exact An I.mS O (c.get m) k.at_ k.fn hn h
theorem lQ{y:V}{u:Value}{Q:Unit->Shared->Prop}(I:Inv X pins σ H s)(e:H a=some (.ins C dx fs))(c:xu X.K C)(n:dP X.K C f)(hl:fs.length<1000)(ry:RelV y u)(h:∀s',Inv X pins σ (upd H a (.ins C dx (bU f y fs))) s'->Q () s'):wpAny (model X.prog X.w) A (setAttr (.ref a) f u) Q E s:=by
 obtain⟨mA,O,r,wi,_,ho⟩:=pV I.a8 e;have hz:(fs.map (·.1)).length<=sizeLine:=by rw[length_map,sizeLine_eq];omega
 refine Ba I.mS O c.sa c.po n.Iv c.hd wi hz fun h' O' sb=>h _ ?_;have hd:∃o,h'.get? dx=some o:=let⟨o,_,_,e',_⟩:=O'.ns;⟨o,e'⟩
 refine I.write (x:=a) (e:=dx) (by rw[e];exact True.intro) (.inr ho) (fun b q hb z=>(sb.2 b hb).trans z) hd ?_;refine⟨by rw[ao O.ne];exact ho,?_,O.ne,O'.obj,_,O'.ns,fun g=>?_,fun g hg=>?_⟩
 ·have:=j8 f y fs;omega
 ·show iM ((bU f y fs).lookup g) (if g=f then some u else mA g);rw[aE];by_cases q:g=f
  ·rw[if_pos q,if_pos q];exact ry
  ·rw[if_neg q,if_neg q];exact r g
 ·by_cases q:g=f
  ·rw[q];exact(jT f y fs).1
  ·refine(jT f y fs).2 g (wi g fun z=>hg ?_);show(if g=f then some u else mA g)=none;rw[if_neg q];exact z
theorem Inv.made(I:Inv X pins σ H s):Inv X pins σ (upd (upd H s.heap.objs.size (.own (s.heap.objs.size+1))) (s.heap.objs.size+1) (.ins C s.heap.objs.size []))
  { s with heap:=(s.heap.push emptyDict).push (instObj C s.heap.objs.size) }:=by
 have e1:(s.heap.push emptyDict).get? s.heap.objs.size=some emptyDict:=get?_push_size s.heap rfl;have e2:((s.heap.push emptyDict).push (instObj C s.heap.objs.size)).get? (s.heap.objs.size+1)=some (instObj C s.heap.objs.size):=by
  have:=get?_push_size (s.heap.push emptyDict) (o:=instObj C s.heap.objs.size) rfl;rwa [size_push]at this
 have e3:(s.heap.push emptyDict).Ns s.heap.objs.size (fun _=>none):=⟨emptyDict,#[],_,e1,rfl,(fun e he=>absurd he (by simp)),fun _=>rfl⟩;have I1:=I.laid (a:=s.heap.objs.size) (o:=.own (s.heap.objs.size+1)) (h':=s.heap.push emptyDict) (t':=s.toks) (fun b u q=>get?_push_of_some _ q) (le_refl _) ⟨_,e1⟩;refine I1.laid (a:=s.heap.objs.size+1) (o:=.ins C s.heap.objs.size []) (t':=s.toks) (fun b u q=>get?_push_of_some _ q) (le_of_eq (size_push _ _)) ?_;have ne:s.heap.objs.size≠s.heap.objs.size+1:=ne_of_lt (lt_succ_self _);refine⟨by rw[ao ne,ae],zero_le _,ne,e2,fun _=>none,(Heap.Ns1.of_empty e3).at fun o q=>get?_push_of_some _ q,fun _=>True.intro,fun y hy=>absurd rfl hy⟩
theorem CA{prog:Program}{w:World}{env:Env}{e:Expr}{f:Str}{pos:Pos}{s:Shared}{Q:L5}(hb:attributeBase e f env (eval e env)=eval e env)(h:wpAny (model prog w) A (eval e env) (fun o s₁=>wpAny (model prog w) A (getAttr o f true) Q E s₁) E s):wpAny (model prog w) A (eval (.Attribute e f pos) env) Q E s:=
 Attribute_any_ h (by rw[arm_eval_Attribute,hb])
end
def K3(K:Frag)(ta:TE)(f:Str):TE:=fun σ H Q=>ta σ H fun x H1=>∃a C dx fs v,x=.ref a/\H1 a=some (.ins C dx fs)/\xu K C/\dP K C f/\fs.lookup f=some v/\Q v H1
def Lf(K:Frag)(ta tv:TE)(f:Str):TS:=fun D σ H=>tv σ H fun y H1=>ta σ H1 fun x H2=>∃a C dx fs,x=.ref a/\H2 a=some (.ins C dx fs)/\xu K C/\dP K C f/\fs.length<1000 /\
 D.nx σ (upd H2 a (.ins C dx (bU f y fs)))
def Kl(X:Cx)(op:Operator)(rd:V->V->Hp->VK->Prop):Prop:=
 ∀(pins:LpT)(s:Shared)(σ:St)(H:Hp)(x y:V)(u v:Value)(Q:VK),Inv X pins σ H s->RelV x u->RelV y v->rd x y H Q->wpAny (model X.prog X.w) X.A (inplaceOp op u v) (EP X pins σ Q) X.xe s
def Bt(K:Frag)(ta tv:TE)(rd:V->V->Hp->VK->Prop)(f:Str):TS:=fun D σ H=>ta σ H fun x H1=>∃a C dx fs v,x=.ref a/\H1 a=some (.ins C dx fs)/\xu K C/\dP K C f/\fs.lookup f=some v /\
 tv σ H1 fun y H2=>rd v y H2 fun z H3=>∃dx' fs',H3 a=some (.ins C dx' fs')/\fs'.length<1000/\D.nx σ (upd H3 a (.ins C dx' (bU f z fs')))
section
variable{X:Cx}{o e value:Expr}{f:Str}{pos pos' tpos:Pos}{ta tv:TE}
theorem cj(he:PE X e ta)(hb:attributeBase e f X.env (eval e X.env)=eval e X.env):PE X (.Attribute e f pos) (K3 X.K ta f):=by
 intro pins s σ H Q I h;refine CA hb (bK (he pins s σ H _ I h) fun u s1⟨x,H1,I1,rx,a,C,dx,fs,v,ex,ea,c,n,l,q⟩=>?_);subst ex;obtain rfl:u=Value.ref a:=rx;exact mW I1 ea c n l fun u' s2 I2 ru=>⟨v,H1,I2,ru,q⟩
theorem iV(ha:PE X o ta)(hv:PE X value tv)(hs:swapsWith value (some (.Attribute o f pos')) pos.line X.env=pure false):PS X (.Assign [.Attribute o f pos'] value pos) (Lf X.K ta tv f):=by
 intro pins s σ H D I h;refine plainObj_wpAny_Assign_Attribute (bK (hv pins s σ H _ I h) fun u s1⟨y,H1,I1,ry,q⟩=>bK (ha pins s1 σ H1 _ I1 q) fun ov s2⟨x,H2,I2,rx,a,C,dx,fs,ex,ea,c,n,l,q2⟩=>?_) hs;subst ex;obtain rfl:ov=Value.ref a:=rx;exact lQ I2 ea c n l ry fun s3 I3=>⟨σ,_,I3,q2⟩
theorem oB{op:Operator}{rd:V->V->Hp->VK->Prop}(ha:PE X o ta)(hv:PE X value tv)(hop:Kl X op rd):PS X (.AugAssign (.Attribute o f tpos) op value pos) (Bt X.K ta tv rd f):=by
 intro pins s σ H D I h;refine wpAny_AugAssign_AttributeAny (bK (ha pins s σ H _ I h) fun ov s1⟨x,H1,I1,rx,a,C,dx,fs,v,ex,ea,c,n,l,q⟩=>?_);subst ex;obtain rfl:ov=Value.ref a:=rx;refine mW I1 ea c n l fun u s2 I2 ru=>bK (hv pins s2 σ H1 _ I2 q) fun w3 s3⟨y,H2,I3,ry,q3⟩=>bK (hop pins s3 σ H2 v y u w3 _ I3 ru ry q3) fun w4 s4⟨z,H3,I4,rz,dx',fs',ea',l',q4⟩=>?_;exact lQ I4 ea' c n l' rz fun s5 I5=>⟨σ,_,I5,q4⟩
def Lo:V->V->Hp->VK->Prop:=fun x y H Q=>∃i j,x=.int i/\y=.int j/\Q (.int (i+j)) H
theorem Af:Kl X .Add Lo:=by
 rintro pins s σ H x y u v Q I rx ry ⟨i,j,rfl,rfl,q⟩;obtain⟨t,rfl⟩:=(show∃t,u=Value.int i t from rx);obtain⟨t',rfl⟩:=(show∃t',v=Value.int j t' from ry);exact PyProof.Rows.iadd_int ⟨.int (i+j),H,I.tok _,⟨_,rfl⟩,q⟩
theorem Dz{pl:Sem Bool}{m:Str}{apos:Pos}{args:List Expr}{pins:LpT}{s:Shared}{σ:St}{H:Hp}{Q:L5}{te:TE}(he:PE X e te)(I:Inv X pins σ H s)(h:te σ H fun x H1=>∃a C dx fs g,x=.ref a/\H1 a=some (.ins C dx fs)/\xu X.K C/\Meth X.K C m g/\fs.lookup m=none /\
   ∀s1,Inv X pins σ H1 s1->wpAny (model X.prog X.w) X.A (callWith pos (.ref g) [.ref a] (backTo pos (starEach args X.env)) (backToKw pos (keywordEach [] X.env))) Q X.xe s1)(ht:eval (.Call (.Attribute e m apos) args [] pos) X.env=(do
   let ov <-eval e X.env
   standAt apos.atName
   let(f,first) <-holding [ov] (getMethod ov m pl)
   callWith pos f first (backTo pos (starEach args X.env)) (backToKw pos (keywordEach [] X.env)))):
  wpAny (model X.prog X.w) X.A (eval (.Call (.Attribute e m apos) args [] pos) X.env) Q X.xe s:=by
 refine methodCall_KW (pl:=pl) (bK (he pins s σ H _ I h) fun u s1⟨x,H1,I1,rx,a,C,dx,fs,g,ex,ea,c,k,l,q⟩=>?_) ht
 subst ex
 obtain rfl:u=Value.ref a:=rx
 exact i7 I1 ea c k l (q s1 I1)
end
structure bR(k:Nat)(A:Around):Prop where
 hd:A.handled=none
 dp:A.depth+3*k+5<recursionLimit
 un:A.units+16*k+200<cLine
theorem bR.mono{j k:Nat}{A:Around}(r:bR k A)(h:j<=k):bR j A:=⟨r.hd,by have:=r.dp;omega,by have:=r.un;omega⟩
theorem bR.deeper{k:Nat}{A:Around}(r:bR (k+1) A)(env:Env):bR k (A.deeper env):=
 ⟨r.hd,by have:=r.dp;show A.depth+1+3*k+5<_;omega,by have:=r.un;show A.units+3+16*k+200<_;omega⟩
theorem bR.in1{k:Nat}{A:Around}(r:bR (k+1) A):bR k A.in1:=
 ⟨r.hd,by have:=r.dp;show A.depth+3*k+5<_;omega,by have:=r.un;show A.units+1+16*k+200<_;omega⟩
theorem t9{A:Around}{C:Addr}{us:List Value}{kw:List (Str×Value)}:(A.under (.builtin "type.__call__" ⟨.ref C::us,kw⟩)).depth=A.depth+1:=by
 first|rfl|simp[Around.under,Code.weight,Code.isCreation,Code.isGuard,Code.isCaller,Code.frames,Code.isFrame,guardIds]
theorem t7{A:Around}{C:Addr}{us:List Value}{kw:List (Str×Value)}:(A.under (.builtin "type.__call__" ⟨.ref C::us,kw⟩)).units=A.units+1:=by
 first|rfl|simp[Around.under,Code.cUnits,Code.frames,Code.isFrame]
theorem bR.make{k:Nat}{A:Around}(r:bR (k+1) A)(C:Addr)(us:List Value)(kw:List (Str×Value)):bR k (A.under (.builtin "type.__call__" ⟨.ref C::us,kw⟩)):=
 ⟨r.hd,by have:=r.dp;rw[t9];omega,by have:=r.un;rw[t7];omega⟩
theorem bR.depth{k:Nat}{A:Around}(r:bR k A):A.depth<recursionLimit:=by have:=r.dp;omega
theorem bR.units{k:Nat}{A:Around}(r:bR k A):A.units+64<cLine:=by have:=r.un;omega
def Ee:TA:=fun _ H Q=>Q [] H
def CM(ta:TE)(tr:TA):TA:=fun σ H Q=>ta σ H fun x H1=>tr σ H1 fun xs H2=>Q (x::xs) H2
section
variable{X:Cx}{e:Expr}{es:List Expr}{te:TE}{t:TA}{pos:Pos}
theorem ab:PA X [] Ee:=fun _ _ _ _ H Q I h=>Calls.spliced_nil ⟨[],H,I,.nil,h⟩
theorem aa(ha:PE X e te)(hr:PA X es t)(hs:starEach (e::es) X.env=(false,eval e X.env)::starEach es X.env:=by rfl):PA X (e::es) (CM te t):=by
 intro pos pins s σ H Q I h;rw[hs];show wpAny _ _ (spliced ((false,eval e X.env)::backTo pos (starEach es X.env))) _ _ s;refine Calls.spliced_cons (bK (ha pins s σ H _ I h) fun u s1⟨x,H1,I1,r1,q1⟩=>?_);exact bK (hr pos pins s1 σ H1 _ I1 q1) fun us s2⟨xs,H2,I2,r2,q2⟩=>⟨x::xs,H2,I2,.cons r1 r2,q2⟩
def KR(t:TA):TE:=fun σ H Q=>t σ H fun xs H1=>xs.length<=sizeLine/\∀p,H1 p=none->Q (.ref p) (upd H1 p (.tup xs))
def KZ(t:TA):TE:=fun σ H Q=>t σ H fun xs H1=>xs.length<=sizeLine/\∀p,H1 p=none->Q (.ref p) (upd H1 p (.lst xs))
theorem iX{x1}(h:PA X es t):PE X (.Tuple es x1 pos) (KR t):=by
 intro pins s σ H Q I hq;refine wpAny_Tuple_spliced (bK (h pos pins s σ H _ I hq) fun us s1⟨xs,H1,I1,r,z,q⟩=>⟨by rw[<-r.length];exact z,?_⟩);have hf:H1 s1.heap.objs.size=none:=I1.a8.fresh (le_refl _);refine⟨.ref s1.heap.objs.size,upd H1 s1.heap.objs.size (.tup xs),I1.laid (t':=s1.toks) (fun b u e=>get?_push_of_some _ e) (le_refl _) ?_,rfl,q _ hf⟩;exact⟨z,us,r,⟨_,get?_push_size _ rfl,rfl,_,rfl⟩⟩
theorem aT(h:PA X es t):PE X (.List es pos) (KZ t):=by
 intro pins s σ H Q I hq;refine wpAny_List_spliced (bK (h pos pins s σ H _ I hq) fun us s1⟨xs,H1,I1,r,z,q⟩=>⟨by rw[<-r.length];exact z,?_⟩);have hf:H1 s1.heap.objs.size=none:=I1.a8.fresh (le_refl _);refine⟨.ref s1.heap.objs.size,upd H1 s1.heap.objs.size (.lst xs),I1.laid (t':=s1.toks) (fun b u e=>get?_push_of_some _ e) (le_refl _) ?_,rfl,q _ hf⟩;exact⟨z,us,0,r,get?_push_size _ rfl⟩
end
abbrev Sp:=List V->Hp->VK->XK->Prop
abbrev AX:=List Env->Hp->Shared->XK->Value->Shared->Prop
structure je(P:Program)(w:World)(K:Frag)(mg:GmT)(base:Heap)(A:Around)(outer:List Env)(s:Shared)(H:Hp):Prop where
 frames:A.frames=some outer
 mod:Mod K mg base
 bs:∀b o,base.get? b=some o->s.heap.get? b=some o/\H b=none
 xm:base.objs.size<=s.heap.objs.size
 ir:s.heap.FunFrames base outer
 xw:∀b∈r4 outer,H b=none
 a8:gq P w H s.heap
 bare:AllBare s.gens
def CE(outer:List Env)(P:Program)(w:World)(H:Hp)(s:Shared)(Q:VK)(u:Value)(s':Shared):Prop:=
 ∃v H',s'.os=s.os/\AllBare s'.gens/\Un (r4 outer) [] H H' s.heap s'.heap/\gq P w H' s'.heap/\RelV v u/\Q v H'
def CR(CX:AX)(outer:List Env)(P:Program)(w:World)(H:Hp)(s:Shared)(Q:VK)(E:XK)(r:Result)(s':Shared):Prop:=
 match r with
 |.ok (.ret u)=>CE outer P w H s Q u s'
 |.ok _=>False
 |.error e=>CX outer H s E e s'
structure aG(P:Program)(w:World)(K:Frag)(mg:GmT)(base:Heap)(CX:AX)(k:Nat)(f:Addr)(fd:FuncData)(ps:List Str)(sp:Sp):Prop where
 len:∀vs H Q E,sp vs H Q E->vs.length=ps.length
 run:∀(A:Around)(outer:List Env)(s:Shared)(H:Hp)(args:Args)(us:List Value)(vs:List V)(Q:VK)(E:XK),bR k A->je P w K mg base A outer s H->BindsTo s fd args (ps.zip us)->Vals vs us->sp vs H Q E ->
  codeAny (model P w) A (.call (.ref f) args) (CR CX outer P w H s Q E) s
theorem aG.mono{P:Program}{w:World}{K:Frag}{mg:GmT}{base:Heap}{CX:AX}{j k:Nat}{f:Addr}{fd:FuncData}{ps:List Str}{sp:Sp}(F:aG P w K mg base CX j f fd ps sp)(h:j<=k):
  aG P w K mg base CX k f fd ps sp:=⟨F.len,fun A outer s H args us vs Q E hr=>F.run A outer s H args us vs Q E (hr.mono h)⟩
theorem je.make{P:Program}{w:World}{K:Frag}{mg:GmT}{base:Heap}{A:Around}{outer:List Env}{s:Shared}{H:Hp}(e:je P w K mg base A outer s H)(C:Addr)(us:List Value)(kw:List (Str×Value)):
  je P w K mg base (A.under (.builtin "type.__call__" ⟨.ref C::us,kw⟩)) outer s H:=⟨by first|exact e.frames|(simpa[Around.under,Code.envs,Code.isFrame,pushEnvs]using e.frames),e.mod,e.bs,e.xm,e.ir,e.xw,e.a8,e.bare⟩
theorem je.in1{P:Program}{w:World}{K:Frag}{mg:GmT}{base:Heap}{A:Around}{outer:List Env}{s:Shared}{H:Hp}(e:je P w K mg base A outer s H):
  je P w K mg base A.in1 outer s H:=⟨e.frames,e.mod,e.bs,e.xm,e.ir,e.xw,e.a8,e.bare⟩
section
variable{X:Cx}{pins:LpT}{σ:St}{H:Hp}{s s':Shared}
theorem Inv.Au(I:Inv X pins σ H s):je X.prog X.w X.K X.mg X.base X.A X.stack s H:=
 ⟨I.ok.frames,I.ok.mod,I.bs,le_trans I.ok.xm I.sz,I.stack,I.uM,I.a8,I.bare⟩
theorem Inv.after{Q:VK}{u:Value}(I:Inv X pins σ H s)(h:CE X.stack X.prog X.w H s Q u s'):EP X pins σ Q u s':=by
 obtain⟨v,H',os,bare,un,a8,r,q⟩:=h;obtain⟨hh,g,d,t,os'⟩:=s';obtain rfl:os'=s.os:=os;exact⟨v,H',I.call (h':=hh) (g':=g) (d':=d) (t':=t) (ch:=[]) un a8 bare (fun b z=>absurd z (by simp)),r,q⟩
end
def IG(sp:Sp)(dvs:List V)(E:XK)(t:TA):TE:=fun σ H Q=>t σ H fun vs H1=>sp (vs++dvs) H1 Q E
def CL(C:Addr)(m:Str)(sp:Sp)(dvs:List V)(E:XK)(ta:TE)(t:TA):TE:=fun σ H Q=>ta σ H fun x H1=>∃a dx fs,x=.ref a/\H1 a=some (.ins C dx fs)/\fs.lookup m=none /\
 t σ H1 fun vs H2=>sp (x::(vs++dvs)) H2 Q E
def IC(C:Addr)(sp:Sp)(dvs:List V)(E:XK)(t:TA):TE:=fun σ H Q=>t σ H fun vs H1=>∀x dx,H1 x=none->H1 dx=none->dx≠x ->
 sp (.ref x::(vs++dvs)) (upd (upd H1 dx (.own x)) x (.ins C dx [])) (fun v H2=>v=.cu/\Q (.ref x) H2) E
def Binds(K:Frag)(fd:FuncData)(ps:List Str)(ds:List Value):Prop:=
 ∀(s:Shared)(us:List Value),K.In s.heap->(us++ds).length=ps.length->BindsTo s fd ⟨us,[]⟩ (ps.zip (us++ds))
theorem Binds.all{K:Frag}{fd:FuncData}{ps:List Str}(h:∀us:List Value,us.length=ps.length->bindArgs fd ⟨us,[]⟩=pure (ps.zip us)):Binds K fd ps []:=fun s us _ hl=>by
 rw[append_nil]at hl ⊢
 exact .of_eq (h us hl)
def Passes(CX:AX)(X:Cx)(E:XK):Prop:=∀(pins:LpT)(σ:St)(H:Hp)(s:Shared)(e:Value)(s':Shared),Inv X pins σ H s->CX X.stack H s E e s'->X.xe e s'
section
variable{X:Cx}{CX:AX}{k:Nat}{f C:Addr}{fd:FuncData}{ps:List Str}{sp:Sp}{dvs:List V}{ds:List Value}{E:XK}{x m:Str}{p pos apos:Pos}{e o:Expr}{es:List Expr}{ta:TE}{t:TA}
theorem jM{pins:LpT}{σ:St}{H:Hp}{s:Shared}{Q:VK}{us:List Value}{vs:List V}(F:aG X.prog X.w X.K X.mg X.base CX k f fd ps sp)(hr:bR k X.A)(hb:Binds X.K fd ps ds)(hd:Vals dvs ds)(hx:Passes CX X E)(I:Inv X pins σ H s)(r:Vals vs us)(h:sp (vs++dvs) H Q E):wpAny (model X.prog X.w) X.A (call (.ref f) us) (EP X pins σ Q) X.xe s:=by
 have r2:Vals (vs++dvs) (us++ds):=r.append hd;have hl:(us++ds).length=ps.length:=by rw[<-r2.length];exact F.len _ _ _ _ h
 refine wpAny_call (codeAny_mono (F.run X.A X.stack s H ⟨us,[]⟩ (us++ds) (vs++dvs) Q E hr I.Au (hb s us I.mS hl) r2 h) fun r s' hq=>?_);cases r with
 |error e=>exact hx pins σ H s e s' I hq
 |ok fl=>
  cases fl with
  |ret u=>exact I.after hq
  |next=>exact False.elim hq
  |brk=>exact False.elim hq
  |cont=>exact False.elim hq
theorem aw(F:aG X.prog X.w X.K X.mg X.base CX k f fd ps sp)(hr:bR k X.A)(hg:Gl X x)(hm:X.mg x=some (.ref f))(hk:PySem.W.keepIn X.K (.ref f)=true)(hb:Binds X.K fd ps ds)(hd:Vals dvs ds)(hx:Passes CX X E)(ha:PA X (e::es) t)(hdb:(x==("__debug__":Str))=false:=by decide)(he:starEach (e::es) X.env=(false,eval e X.env)::starEach es X.env:=by rfl)(hpl:(backTo pos (starEach es X.env)).any (·.1)=false:=by rfl):
  PE X (.Call (.Name x p) (e::es) [] pos) (IG sp dvs E t):=by
 intro pins s σ H Q I h;refine wpAny_Call_Name_kw (ju I hg hm ?_ hdb);refine callWith_K (h₀:=X.base) I.ok.mod.Cc hk (bK (ha pos pins s σ H _ I h) fun us s1⟨vs,H1,I1,r,q⟩=>⟨I1.mS,?_⟩) he hpl;exact jM F hr hb hd hx I1 r q
theorem ba{pl:Sem Bool}(he:PE X o ta)(c:xu X.K C)(hm:Meth X.K C m f)(F:aG X.prog X.w X.K X.mg X.base CX k f fd ps sp)(hr:bR k X.A)(hb:Binds X.K fd ps ds)(hd:Vals dvs ds)(hx:Passes CX X E)(ha:PA X (e::es) t)(hst:starEach (e::es) X.env=(false,eval e X.env)::starEach es X.env:=by rfl)(hpl:(backTo pos (starEach es X.env)).any (·.1)=false:=by rfl)(ht:eval (.Call (.Attribute o m apos) (e::es) [] pos) X.env=(do
   let ov <-eval o X.env
   standAt apos.atName
   let(f,first) <-holding [ov] (getMethod ov m pl)
   callWith pos f first (backTo pos (starEach (e::es) X.env)) (backToKw pos (keywordEach [] X.env))):=by rfl):
  PE X (.Call (.Attribute o m apos) (e::es) [] pos) (CL C m sp dvs E ta t):=by
 intro pins s σ H Q I h
 refine methodCall_KW (pl:=pl) (bK (he pins s σ H _ I h) fun u s1⟨x,H1,I1,rx,a,dx,fs,ex,ea,l,q⟩=>?_) ht
 subst ex
 obtain rfl:u=Value.ref a:=rx
 refine i7 I1 ea c hm l ?_
 refine callWith_K (first:=[.ref a]) (h₀:=X.base) I.ok.mod.Cc hm.kp (bK (ha pos pins s1 σ H1 _ I1 q) fun us s2⟨vs,H2,I2,r,q2⟩=>⟨I2.mS,?_⟩) hst hpl
 exact jM (us:=.ref a::us) (vs:=.ref a::vs) F hr hb hd hx I2 (.cons rfl r) q2
theorem aU{pl:Sem Bool}(he:PE X o ta)(c:xu X.K C)(hm:Meth X.K C m f)(F:aG X.prog X.w X.K X.mg X.base CX k f fd ps sp)(hr:bR k X.A)(hb:Binds X.K fd ps ds)(hd:Vals dvs ds)(hx:Passes CX X E)(ht:eval (.Call (.Attribute o m apos) [] [] pos) X.env=(do
   let ov <-eval o X.env
   standAt apos.atName
   let(f,first) <-holding [ov] (getMethod ov m pl)
   callWith pos f first (backTo pos (starEach [] X.env)) (backToKw pos (keywordEach [] X.env))):=by rfl):
  PE X (.Call (.Attribute o m apos) [] [] pos) (CL C m sp dvs E ta Ee):=by
 intro pins s σ H Q I h
 refine methodCall_KW (pl:=pl) (bK (he pins s σ H _ I h) fun u s1⟨x,H1,I1,rx,a,dx,fs,ex,ea,l,q⟩=>?_) ht
 subst ex
 obtain rfl:u=Value.ref a:=rx
 refine i7 I1 ea c hm l ?_
 exact PySem.W.callWith_K0 (first:=[.ref a]) I1.mS hm.kp (jM (us:=[.ref a]) (vs:=[.ref a]) F hr hb hd hx I1 (.cons rfl .nil) q)
structure Mk(K:Frag)(C f:Addr):Prop where
 makes:makesIn K C=true
 init:PySem.W.findIn K (.ref C) "__init__"=some (some (.ref f))
 fn:PySem.W.isFn K (.ref f)=true
 kp:PySem.W.keepIn K (.ref C)=true
theorem yI{pins:LpT}{σ:St}{H:Hp}{s:Shared}{Q:VK}{us:List Value}{vs:List V}(M:Mk X.K C f)(F:aG X.prog X.w X.K X.mg X.base CX k f fd ps sp)(hr:bR (k+1) X.A)(hb:Binds X.K fd ps ds)(hd:Vals dvs ds)(hx:Passes CX X E)(I:Inv X pins σ H s)(r:Vals vs us)(h:∀x dx,H x=none->H dx=none->dx≠x->sp (.ref x::(vs++dvs)) (upd (upd H dx (.own x)) x (.ins C dx [])) (fun v H2=>v=.cu/\Q (.ref x) H2) E):
  wpAny (model X.prog X.w) X.A (call (.ref C) us) (EP X pins σ Q) X.xe s:=by
 have hq:=h (s.heap.objs.size+1) s.heap.objs.size (I.a8.fresh (le_succ _)) (I.a8.fresh (le_refl _)) (ne_of_lt (lt_succ_self _));have I2:=Inv.made (C:=C) I;have r2:Vals (V.ref (s.heap.objs.size+1)::(vs++dvs)) (Value.ref (s.heap.objs.size+1)::(us++ds)):=.cons rfl (r.append hd);have hl:(Value.ref (s.heap.objs.size+1)::us++ds).length=ps.length:=by
  have e:=r2.length;rw[F.len _ _ _ _ hq]at e;exact e.symm
 refine wpAny_call (zL (f:=f) I.mS M.makes M.init (beq_iff_eq.mp M.fn) (codeAny_mono (F.run _ X.stack _ _ ⟨Value.ref (s.heap.objs.size+1)::us,[]⟩ (Value.ref (s.heap.objs.size+1)::(us++ds)) _ _ E (hr.make C us [])
  (I2.Au.make C us []) (hb _ (Value.ref (s.heap.objs.size+1)::us) I2.mS hl) r2 hq) fun r s' hq'=>?_))
 cases r with
 |error e=>exact hx pins σ _ _ e s' I2 hq'
 |ok fl=>
  cases fl with
  |ret u=>
   obtain⟨v,H',I3,rv,ev,q3⟩:=I2.after hq';subst ev;exact⟨rv,⟨V.ref (s.heap.objs.size+1),H',I3,rfl,q3⟩⟩
  |next=>exact False.elim hq'
  |brk=>exact False.elim hq'
  |cont=>exact False.elim hq'
theorem u4(M:Mk X.K C f)(F:aG X.prog X.w X.K X.mg X.base CX k f fd ps sp)(hr:bR (k+1) X.A)(hg:Gl X x)(hm:X.mg x=some (.ref C))(hb:Binds X.K fd ps ds)(hd:Vals dvs ds)(hx:Passes CX X E)(ha:PA X (e::es) t)(hdb:(x==("__debug__":Str))=false:=by decide)(he:starEach (e::es) X.env=(false,eval e X.env)::starEach es X.env:=by rfl)(hpl:(backTo pos (starEach es X.env)).any (·.1)=false:=by rfl):
  PE X (.Call (.Name x p) (e::es) [] pos) (IC C sp dvs E t):=by
 intro pins s σ H Q I h;refine wpAny_Call_Name_kw (ju I hg hm ?_ hdb);refine callWith_K (h₀:=X.base) I.ok.mod.Cc M.kp (bK (ha pos pins s σ H _ I h) fun us s1⟨vs,H1,I1,r,q⟩=>⟨I1.mS,?_⟩) he hpl;exact yI M F hr hb hd hx I1 r q
end
def PK(X:Cx)(kws:List Keyword)(t:TA):Prop:=
 ∀(pos:Pos)(pins:LpT)(s:Shared)(σ:St)(H:Hp)(Q:List V->Hp->Prop),Inv X pins σ H s->t σ H Q->wpAny (model X.prog X.w) X.A (evalAll ((backToKw pos (keywordEach kws X.env)).map (·.2))) (AP X pins σ Q) X.xe s
section
variable{X:Cx}{CX:AX}{k:Nat}{f C:Addr}{fd:FuncData}{ps ks:List Str}{sp:Sp}{E:XK}{x m:Str}{p pos apos kpos:Pos}{e o:Expr}{es:List Expr}{kws:List Keyword}{te ta:TE}{t tk:TA}{nm:Option Str}
theorem FD:PK X [] Ee:=fun _ _ _ _ H Q I h=>wpAny_evalAll_nil ⟨[],H,I,.nil,h⟩
theorem BO(ha:PE X e te)(hr:PK X kws t):PK X (⟨nm,e,kpos⟩::kws) (CM te t):=by
 intro pos pins s σ H Q I h;show wpAny _ _ (evalAll ((do let v <-eval e X.env;standAt pos;pure v)::(backToKw pos (keywordEach kws X.env)).map (·.2))) _ _ s;refine wpAny_evalAll_cons (wpAny_bind (bK (ha pins s σ H _ I h) fun u s1⟨x,H1,I1,r1,q1⟩=>wpAny_bind (wpAny_standAt (wpAny_pure ?_))));exact bK (hr pos pins s1 σ H1 _ I1 q1) fun us s2⟨xs,H2,I2,r2,q2⟩=>⟨x::xs,H2,I2,.cons r1 r2,q2⟩
variable{g:List Value->List Value->List Value}{gV:List V->List V->List V}
end
structure aq(N P:List Str)(sc:Scope):Prop where
 kind:sc.kind=.function
 co:sc.isCoroutine=false
 gen:sc.isGenerator=false
 nd:N.Nodup
 pre:N.take P.length=P
 par:∀x∈P,sc.names.lookup x=some .local\/sc.names.lookup x=some .cell
 Hy:∀y∈sc.names,y.2≠.free
theorem aq.m{N P:List Str}{sc:Scope}(a:sc.kind=.function:=by rfl)(b:sc.isCoroutine=false:=by rfl)(c:sc.isGenerator=false:=by rfl)(d:N.Nodup:=by decide +kernel)(e:N.take P.length=P:=by rfl)(f:∀x∈P,sc.names.lookup x=some .local\/sc.names.lookup x=some .cell:=by decide +kernel)(g:∀y∈sc.names,y.2≠.free:=by decide +kernel):aq N P sc:=⟨a,b,c,d,e,f,g⟩
theorem oZ{kindOf:Str->Option NameKind}{x:Str}:∀{binds:List (Str×Value)}{m:GmT},(∀v,(x,v)∉binds)->bindL kindOf binds m x=m x
 |[],_,_=>rfl
 |(n,v)::r,m,h=>by
  unfold bindL
  rw[oZ fun w hw=>h w (mem_cons_of_mem _ hw)]
  split
  ·have:x≠n:=by rintro rfl;exact h v mem_cons_self
   simp[this]
  ·rfl
theorem o7{kindOf:Str->Option NameKind}{x:Str}:∀{binds:List (Str×Value)}{m:GmT},(∀v,(x,v)∉binds)->bindC kindOf binds m x=m x
 |[],_,_=>rfl
 |(n,v)::r,m,h=>by
  unfold bindC
  rw[o7 fun w hw=>h w (mem_cons_of_mem _ hw)]
  split
  ·rfl
  ·have:x≠n:=by rintro rfl;exact h v mem_cons_self
   simp[this]
theorem o6{kindOf:Str->Option NameKind}{x:Str}{v:Value}:∀{P:List Str}{vs:List Value}{i:Nat}{m:GmT},P.Nodup->P[i]?=some x->vs[i]?=some v->kindOf x=some .local ->
  bindL kindOf (P.zip vs) m x=some v
 |[],_,_,_,_,h,_,_=>by simp at h
 |_::_,[],_,_,_,_,h,_=>by simp at h
 |p::P,w::vs,0,m,nd,h1,h2,hk=>by
  simp at h1 h2;subst h1;subst h2
  show bindL kindOf ((p,w)::P.zip vs) m p=_
  unfold bindL
  rw[oZ fun v hv=>(List.nodup_cons.mp nd).1 (of_mem_zip hv).1,if_pos hk]
  simp
 |p::P,w::vs,i+1,m,nd,h1,h2,hk=>by
  show bindL kindOf ((p,w)::P.zip vs) m x=_
  unfold bindL
  exact o6 (i:=i) (List.nodup_cons.mp nd).2 (by simpa using h1) (by simpa using h2) hk
theorem o8{kindOf:Str->Option NameKind}{x:Str}{v:Value}:∀{P:List Str}{vs:List Value}{i:Nat}{m:GmT},P.Nodup->P[i]?=some x->vs[i]?=some v->kindOf x≠some .local ->
  bindC kindOf (P.zip vs) m x=some v
 |[],_,_,_,_,h,_,_=>by simp at h
 |_::_,[],_,_,_,_,h,_=>by simp at h
 |p::P,w::vs,0,m,nd,h1,h2,hk=>by
  simp at h1 h2;subst h1;subst h2
  show bindC kindOf ((p,w)::P.zip vs) m p=_
  unfold bindC
  rw[o7 fun v hv=>(List.nodup_cons.mp nd).1 (of_mem_zip hv).1,if_neg hk]
  simp
 |p::P,w::vs,i+1,m,nd,h1,h2,hk=>by
  show bindC kindOf ((p,w)::P.zip vs) m x=_
  unfold bindC
  exact o8 (i:=i) (List.nodup_cons.mp nd).2 (by simpa using h1) (by simpa using h2) hk
def start(N:List Str)(vs:List V):St:=vs.map some++replicate (N.length-vs.length) none
def ur(CX:AX)(P:Program)(w:World)(K:Frag)(mg:GmT)(base:Heap)(N:List Str)(qual:Str)(scope:Scope)(f:Addr)(cd:Value)(A:Around)(outer:List Env)(s:Shared)(H:Hp)(E:XK):Cx where
 prog:=P
 w:=w
 K:=K
 mg:=mg
 base:=base
 A:=A.deeper (envOfC qual scope s.heap.objs.size f cd)
 N:=N
 nO:=s
 Ir:=H
 env:=envOfC qual scope s.heap.objs.size f cd
 outer:=outer
 stack:=envOfC qual scope s.heap.objs.size f cd::outer
 ex:=[]
 calm:=true
 fn:=fun _=>true
 pn:=[]
 xe:=fun e s'=>wpAny (model P w) (A.deeper (envOfC qual scope s.heap.objs.size f cd)) (leaving (envOfC qual scope s.heap.objs.size f cd) e) (fun _ s''=>CX outer H s E e s'') (fun e' s''=>CX outer H s E e' s'') s'
theorem sy{sc:Scope}{n:Nat}{x:Str}(h:sc.names.lookup x=some .cell):∃c,(cellsFrom n sc.names []).lookup x=some c:=by
 have q:=cellsFrom_some sc.names n [] (.inl h);exact Option.isSome_iff_exists.mp q
theorem wY{CX:AX}{P:Program}{w:World}{K:Frag}{mg:GmT}{base:Heap}{N ps:List Str}{qual:Str}{scope:Scope}{f:Addr}{cd:Value}{A:Around}{outer:List Env}{s s1:Shared}{H:Hp}{E:XK}{us:List Value}{vs:List V}(S:aq N ps scope)(hd:A.handled=none)(e0:je P w K mg base A outer s H)(hl:vs.length=ps.length)(r:Vals vs us)(x:InCallC s s.heap.objs.size (bindL (envOfC qual scope s.heap.objs.size f cd).kindOf (ps.zip us) fun _=>none) (cellsFrom (s.heap.objs.size+1) scope.names []) (bindC (envOfC qual scope s.heap.objs.size f cd).kindOf (ps.zip us) fun _=>none) s1):
  Inv (ur CX P w K mg base N qual scope f cd A outer s H E) [] (start N vs) H s1:=by
 have hpl:ps.length<=N.length:=by have:=congrArg length S.pre;rw[length_take]at this;omega
 obtain⟨h1,tk,rfl,hk⟩:=x.done;have noA:∀b:Addr,b∉(ur CX P w K mg base N qual scope f cd A outer s H E).ex:=fun b z=>absurd (show b∈([]:List Addr)from z) (by simp);refine⟨⟨e0.mod,S.kind,rfl,rfl,le_refl _,fun y z c h1 h2=>?_,fun y hy=>?_,fun y c _ h=>?_,fun _=>hd,Around.frames_deeper e0.frames,.inr ⟨rfl,rfl⟩,fun b z=>absurd z (noA b),e0.bs,e0.xm,fun b _ _=>noA b,fun b z=>absurd z (noA b),e0.ir,e0.xw⟩,
  rfl,e0.bare,Un.kept hk,⟨_,x.toInCall.ns,fun i y v h1 h2 h3=>?_⟩,fun y c h=>⟨_,x.cell y c h⟩,e0.a8.fresh (le_refl _),fun y c h=>?_,fun p hp=>absurd (show p∈([]:LpT)from hp) (by simp),e0.a8.kept hk,?_⟩
 ·exact name_of_addr x.apart (PySem.mem_of_lookup h1) (PySem.mem_of_lookup h2)
 ·have hy:scope.names.lookup y=some .cell\/scope.names.lookup y=some .free:=hy;rcases hy with hy|hy
  ·exact sy hy
  ·exact absurd rfl (S.Hy _ (PySem.mem_of_lookup hy))
 ·exact le_of_lt (x.above y c (PySem.mem_of_lookup h))
 ·have hi:i<vs.length:=by
   unfold start at h2;by_cases hi:i<vs.length
   ·exact hi
   ·rw[getElem?_append_right (by simpa using hi)]at h2;rw[List.getElem?_replicate]at h2;split at h2<;>cases h2
  have ha:vs[i]?=some v:=by
   unfold start at h2;rw[getElem?_append_left (by simpa using hi),getElem?_map]at h2;cases e:vs[i]? with
   |none=>rw[e]at h2;cases h2
   |some a=>rw[e]at h2;cases h2;rfl
  obtain⟨u,hu,rv⟩:=r.get ha;have hp:ps[i]?=some y:=by
   rw[<-S.pre,List.getElem?_take_of_lt (by omega)];exact h1
  have ndP:ps.Nodup:=by rw[<-S.pre];exact S.nd.sublist (List.take_sublist _ _)
  refine⟨u,rv,?_⟩;rcases S.par y (mem_of_getElem? hp)with k|k
  ·exact .inl ⟨k,o6 ndP hp hu k⟩
  ·obtain⟨c,e⟩:=sy (n:=s.heap.objs.size+1) k;refine .inr ⟨.inl k,c,e,?_⟩;have q:=x.cell y c e;rw[o8 ndP hp hu (by show scope.names.lookup y≠_;rw[k];decide)]at q;exact q
 ·exact e0.a8.fresh (le_of_lt (x.above y c (PySem.mem_of_lookup h)))
 ·unfold start;show _=N.length;rw[length_append,length_map,List.length_replicate];omega
theorem DJ{CX:AX}{P:Program}{w:World}{K:Frag}{mg:GmT}{base:Heap}{k:Nat}{f:Addr}{name qual:Str}{params:Arguments}{body:List Stmt}{scope:Scope}{dV kV doc pm cdv ct oc:Value}{an od:Option Addr}{osl:Array (Option Value)}{N ps:List Str}{sp:Sp}(lk:K.lookup f=some ⟨oc,od,.func (PySem.W.fnOf name qual params body scope dV kV doc pm an cdv ct),osl⟩)(hcd:PySem.W.codeIn K cdv qual=true)(S:aq N ps scope)(len:∀vs H Q E,sp vs H Q E->vs.length=ps.length)(hbody:∀(A:Around)(outer:List Env)(s:Shared)(H:Hp)(vs:List V)(Q:VK)(E:XK),bR k (A.deeper (envOfC qual scope s.heap.objs.size f cdv))->sp vs H Q E ->
   ∃t,uE (ur CX P w K mg base N qual scope f cdv A outer s H E) body t/\t { nx:=fun _ H'=>Q .cu H',rt:=Q } (start N vs) H):
  aG P w K mg base CX (k+1) f (PySem.W.fnOf name qual params body scope dV kV doc pm an cdv ct) ps sp:=by
 refine⟨len,fun A outer s H args us vs Q E hr e0 hb r hsp=>?_⟩;have hl:=len _ _ _ _ hsp;have KX:K.In s.heap:=e0.mod.Cc.keeps fun b o e=>(e0.bs b o e).1;have lim:s.heap.NoLimit:=e0.mod.nolimit.keeps fun b o e=>(e0.bs b o e).1;have hkind:∀y∈ps.zip us,scope.names.lookup y.1=some .local\/(scope.names.lookup y.1=some .cell/\((cellsFrom (s.heap.objs.size+1) scope.names []).lookup y.1).isSome=true):=fun⟨n,v⟩hy=>by
  rcases S.par n (of_mem_zip hy).1 with q|q
  ·exact .inl q
  ·exact .inr ⟨q,cellsFrom_some _ _ _ (.inl q)⟩
 refine codeAny_call_function hr.depth (KX _ _ lk) rfl S.co S.gen rfl (PySem.W.codeRec_of KX hcd) (hb _ _ _ _ ?_);refine wpAny_newFunctionEnv_cells S.kind hkind fun env he s1 x=>?_;subst he;refine⟨lim.keeps x.toInCall.keep,codeAny_func ?_⟩;obtain⟨t,ht,hq⟩:=hbody A outer s H vs Q E (hr.deeper _) hsp;have I:Inv (ur CX P w K mg base N qual scope f cdv A outer s H E) [] (start N vs) H s1:=wY S hr.hd e0 hl r x;refine wpAny_mono (ht [] s1 (start N vs) H _ I hq) (fun fl s' hs=>?_) fun e s' hs=>hs;have fin:∀{σ':St}{H':Hp}{v:V}{u:Value},Inv (ur CX P w K mg base N qual scope f cdv A outer s H E) [] σ' H' s'->RelV v u->Q v H'->CE outer P w H s Q u s':=
  fun{σ' H' v u}J rv q=>⟨v,H',J.os,J.bare,J.base,J.a8,rv,q⟩
 cases fl with
 |ret u=>
  obtain⟨v,σ',H',J,rv,q⟩:=hs;exact fin J rv q
 |next=>
  obtain⟨σ',H',J,q⟩:=hs;exact fin (v:=V.cu) (u:=Value.none) J rfl q
 |brk=>
  obtain⟨_,_,_,q⟩:=hs;exact False.elim q
 |cont=>
  obtain⟨_,_,_,q⟩:=hs;exact False.elim q
section
variable{X:Cx}{x:Str}{p pos:Pos}{e:Expr}{es:List Expr}{t:TA}{id T:String}{r:List V->Hp->VK->Prop}
def Ma(r:List V->Hp->VK->Prop)(t:TA):TE:=fun σ H Q=>t σ H fun vs H1=>r vs H1 Q
theorem aS(hc:eX X (.builtin id) r)(hg:Gl X x)(hm:X.mg x=none)(hv:bootBuiltins x=some (.builtin id))(ha:PA X (e::es) t)(hn:x≠"__name__":=by decide)(hdb:(x==("__debug__":Str))=false:=by decide)(he:starEach (e::es) X.env=(false,eval e X.env)::starEach es X.env:=by rfl)(hpl:(backTo pos (starEach es X.env)).any (·.1)=false:=by rfl):PE X (.Call (.Name x p) (e::es) [] pos) (Ma r t):=by
 intro pins s σ H Q I h;refine wpAny_Call_Name_kw (eB I hg hm hv ?_ hn hdb);exact PyProof.Rows.callWith_builtin1 (bK (ha pos pins s σ H _ I h) fun us s1⟨vs,H1,I1,r1,q1⟩=>hc pins s1 σ H1 vs us Q I1 r1 q1) he hpl
theorem bO(hc:eX X (.type T) r)(hg:Gl X x)(hm:X.mg x=none)(hv:bootBuiltins x=some (.type T))(ha:PA X (e::es) t)(hn:x≠"__name__":=by decide)(hdb:(x==("__debug__":Str))=false:=by decide)(he:starEach (e::es) X.env=(false,eval e X.env)::starEach es X.env:=by rfl)(hpl:(backTo pos (starEach es X.env)).any (·.1)=false:=by rfl):PE X (.Call (.Name x p) (e::es) [] pos) (Ma r t):=by
 intro pins s σ H Q I h;refine wpAny_Call_Name_kw (eB I hg hm hv ?_ hn hdb);exact PyProof.Rows.callWith_type1 (bK (ha pos pins s σ H _ I h) fun us s1⟨vs,H1,I1,r1,q1⟩=>hc pins s1 σ H1 vs us Q I1 r1 q1) he hpl
end
end L2
namespace HT
open PySem PyProof.Rows
def lexLt:List Int->List Int->Bool
 |[],[]=>false
 |[],_::_=>true
 |_::_,[]=>false
 |x::xs,y::ys=>if x=y then lexLt xs ys else decide (x<y)
theorem gI(x y:Int)(xs ys:List Int):lexLt (x::xs) (y::ys)=if x=y then lexLt xs ys else decide (x<y):=rfl
theorem As(A:Around)(s:Shared)(a:Int)(t:Tok)(c:Int)(u:Tok):∃e,SeqAt.EqAt A s (.int a t) (.int c u) e/\(e=true↔a=c):=
 ⟨(a==c),SeqAt.EqAt.int_int a t c u,by simp⟩
theorem yQ(A:Around)(s:Shared)(a:Int)(t:Tok)(c:Int)(u:Tok)(prog:Program)(w:World)(E:L5)(Q:L5)(h:Q (.bool (decide (a<c))) s):
  wpAny (model prog w) A (richCompare .Lt (.int a t) (.int c u)) Q E s:=
 (PyProof.Rows.lt_int h:wpAny (model prog w) A (compareOp .Lt (.int a t) (.int c u)) Q E s)
section
open PySem.SeqAt
open PySem.AutoSeq1 (wpAny_loadPart')
open PySem.MeetsSeq PySem.MeetsSeq2 PySem.MeetsSeq3
end
section
variable{prog:Program}{w:World}{A:Around}{E:L5}{s:Shared}
def qH(n d:Nat):Option Int->Nat
 |none=>d
 |some v=>if v<0 then(v+(n:Int)).toNat else min v.toNat n
end
end HT
namespace L2
open PySem PySem.Spec PyProof.Rows
abbrev TO:=St->Hp->(Option Int->Hp->Prop)->Prop
def PO(X:Cx)(e:Option Expr)(t:TO):Prop:=
 ∀(pins:LpT)(s:Shared)(σ:St)(H:Hp)(Q:Option Int->Hp->Prop),Inv X pins σ H s->t σ H Q ->
  wpAny (model X.prog X.w) X.A (evalPart e X.env) (fun u s'=>∃o H',Inv X pins σ H' s'/\IsPart u o/\Q o H') X.xe s
def Iy(t:TE):TO:=fun σ H Q=>t σ H fun x H1=>∃i,x=.int i/\Q (some i) H1
section
variable{X:Cx}{e:Expr}{te:TE}{lo hi:Option Expr}{tl th:TO}{pos p2:Pos}
theorem kZ(h:PE X e te):PO X (some e) (Iy te):=by
 intro pins s σ H Q I hw;rw[evalPart_some];refine bK (h pins s σ H _ I hw) fun u s1⟨x,H1,I1,r1,q1⟩=>?_;obtain⟨i,rfl,q⟩:=q1;obtain⟨t,rfl⟩:=r1;exact⟨some i,H1,I1,.int i t,q⟩
def Ml(X:Cx)(r:V->Option Int->Option Int->Hp->VK->Prop):Prop:=
 ∀(pins:LpT)(s:Shared)(σ:St)(H:Hp)(x:V)(v vl vu:Value)(lo hi:Option Int)(sl:Addr)(Q:VK),Inv X pins σ H s->RelV x v->s.heap.IsSliceOf sl vl vu .none->IsPart vl lo->IsPart vu hi->r x lo hi H Q ->
  ∃T id,typeLookup (.type T) "__getitem__"=pure (some (.builtin id))/\s.TypeIs v T/\wpAny (model X.prog X.w) X.A (getItem v (.ref sl)) (EP X pins σ Q) X.xe s
def MB(r:V->Option Int->Option Int->Hp->VK->Prop)(te:TE)(tl th:TO):TE:=fun σ H Q=>te σ H fun x H1=>tl σ H1 fun l H2=>th σ H2 fun u H3=>r x l u H3 Q
theorem qS{r:V->Option Int->Option Int->Hp->VK->Prop}(hr:Ml X r)(he:PE X e te)(hl:PO X lo tl)(hu:PO X hi th):PE X (.Subscript e (.Slice lo hi none p2) pos) (MB r te tl th):=by
 intro pins s σ H Q I h;refine Subscript_ (bK (he pins s σ H _ I h) fun v s1⟨x,H1,I1,r1,q1⟩=>?_);refine wpAny_Slice (bK (hl pins s1 σ H1 _ I1 q1) fun vl s2⟨l,H2,I2,pl,q2⟩=>bK (hu pins s2 σ H2 _ I2 q2) fun vu s3⟨u,H3,I3,pu,q3⟩=>?_);rw[evalPart_none];refine wpAny_pure ?_;have I4:Inv X pins σ H3 { s3 with heap:=s3.heap.push { cls:=.type "slice",data:=.fields #[vl,vu,.none] } }:=I3.kept (t':=s3.toks) fun b ob q=>get?_push_of_some _ q;obtain⟨T,id,hT,ht,hg⟩:=hr pins { s3 with heap:=s3.heap.push { cls:=.type "slice",data:=.fields #[vl,vu,.none] } } σ H3 x v vl vu l u s3.heap.objs.size Q I4 r1 (Heap.IsSliceOf.new ..) pl pu q3;show wpAny (model X.prog X.w) X.A (subscriptTail e (.Slice lo hi none p2) v (.ref s3.heap.objs.size)) (EP X pins σ Q) X.xe { s3 with heap:=s3.heap.push { cls:=.type "slice",data:=.fields #[vl,vu,.none] } };exact tail_any (ops:=[.ref s3.heap.objs.size,v]) ht hT hg (by with_unfolding_all rfl)
def uu(xs:List V)(lo hi:Option Int):List V:=(xs.drop (HT.qH xs.length 0 lo)).take (HT.qH xs.length xs.length hi-HT.qH xs.length 0 lo)
theorem sv(xs:List V)(lo hi:Option Int):(uu xs lo hi).length<=xs.length:=by
 unfold uu;rw[length_take,length_drop];omega
end
def Aa(n:Nat)(i:Int):Option Nat:=if 0<=i then(if i<n then some i.toNat else none)else if -(n:Int)<=i then some (i+n).toNat else none
def CB{α:Type}(xs:List α)(i:Int):Option α:=(Aa xs.length i).bind fun j=>xs[j]?
theorem vy{n:Nat}{i:Int}{j:Nat}(h:Aa n i=some j):seqIndex? i n=some j/\j<n/\-(n:Int)<=i/\i<n:=by
 unfold Aa at h;by_cases h0:0<=i
 ·rw[if_pos h0]at h;by_cases h1:i<n
  ·rw[if_pos h1]at h;have e:i.toNat=j:=Nc h;exact⟨by rw[seqIndex_of h0 h1,e],by omega,by omega,h1⟩
  ·rw[if_neg h1]at h;cases h
 ·rw[if_neg h0]at h;by_cases h1:-(n:Int)<=i
  ·rw[if_pos h1]at h;have e:(i+n).toNat=j:=Nc h;exact⟨by rw[seqIndex_neg (by omega) h1,e],by omega,h1,by omega⟩
  ·rw[if_neg h1]at h;cases h
theorem vS{α:Type}{xs:List α}{i:Int}{v:α}(h:CB xs i=some v):∃j,seqIndex? i xs.length=some j/\xs[j]?=some v/\j<xs.length/\-(xs.length:Int)<=i/\i<xs.length:=by
 unfold CB at h;cases e:Aa xs.length i with
 |none=>rw[e]at h;cases h
 |some j=>
  rw[e]at h;obtain⟨h1,h2,h3,h4⟩:=vy e;exact⟨j,h1,h,h2,h3,h4⟩
theorem b9{α:Type}{xs:List α}{j:Nat}{v:α}(h:xs[j]?=some v):CB xs (j:Int)=some v:=by
 have hj:j<xs.length:=(Nd h).1;have e:Aa xs.length (j:Int)=some j:=by
  unfold Aa;rw[if_pos (by omega),if_pos (by omega)];simp
 unfold CB;rw[e];exact h
def CG(b:Expr):Prop:=∀o i,subscripted b false o i=operate [o,i] (getItem o i)
def L6(X:Cx)(r:R2):Prop:=
 ∀(value slice:Expr)(pins:LpT)(s:Shared)(σ:St)(H:Hp)(x y:V)(v u:Value)(Q:VK),Inv X pins σ H s->RelV x v->RelV y u->r x y H Q ->
  subscripted slice false v u=operate [v,u] (getItem v u)->wpAny (model X.prog X.w) X.A (subscriptTail value slice v u) (EP X pins σ Q) X.xe s
def KN(X:Cx)(id:String)(r:V->List V->Hp->VK->Prop):Prop:=
 ∀(pins:LpT)(s:Shared)(σ:St)(H:Hp)(x:V)(xs:List V)(v:Value)(us:List Value)(Q:VK),Inv X pins σ H s->RelV x v->Vals xs us->r x xs H Q ->
  wpAny (model X.prog X.w) X.A (call (.builtin id) (v::us)) (EP X pins σ Q) X.xe s
section
variable{X:Cx}{a b:Expr}{ta tb:TE}{pos:Pos}
theorem bN{r:R2}(hr:L6 X r)(ha:PE X a ta)(hb:PE X b tb)(hs:CG b):PE X (.Subscript a b pos) (Kq r ta tb):=by
 intro pins s σ H Q I h;exact Subscript_ (Ib ha hb I h fun v u s2 x y H2 I2 rx ry q=>hr a b pins s2 σ H2 x y v u Q I2 rx ry q (hs _ _))
def Fy(K:Frag):R2:=fun x y H Q=>∃p xs i v,x=.ref p/\y=.int i/\aH K H p xs/\CB xs i=some v/\Q v H
def Jy(K:Frag):R2:=fun x y H Q=>∃p xs i v,x=.ref p/\y=.int i/\gr K H p xs/\CB xs i=some v/\Q v H
theorem bb:L6 X (Fy X.K):=by
 intro value slice pins s σ H x y v u Q I rx ry h hs;obtain⟨p,xs,i,z,rfl,rfl,hq,he,q⟩:=h;cases rx;obtain⟨t,rfl⟩:=ry;obtain⟨its,r,pl,hz⟩:=I.list hq;obtain⟨j,h1,h2,h3,h4,h5⟩:=vS he;obtain⟨w,ew,rw'⟩:=r.get h2;have hl:=r.length;have hn:=pP;have fin:EP X pins σ Q w s:=⟨z,H,I,rw',q⟩;by_cases h0:0<=i
 ·have hj:i.toNat=j:=by
   rw[seqIndex_of h0 h5]at h1;exact Nc h1
  exact item_listR pl.isList h0 (by omega) (by rw[hj];simpa using ew) fin hs
 ·have hj:(i+(its.toArray.size:Int)).toNat=j:=by
   rw[seqIndex_neg (by omega) h4]at h1;rw[size_toArray,<-hl];exact Nc h1
  exact subscriptTail_builtinR (x:=w) pl.isList.typeIs slot_list_getitem.lookup
   (wpAny_getItem_list_neg (Q:=fun r s'=>r=w/\EP X pins σ Q r s') pl.isList (by omega) (by rw[size_toArray]<;>omega) (by omega) (by rw[hj];simpa using ew) ⟨rfl,fin⟩) hs
theorem i5:L6 X (Jy X.K):=by
 intro value slice pins s σ H x y v u Q I rx ry h hs;obtain⟨p,xs,i,z,rfl,rfl,hq,he,q⟩:=h;cases rx;obtain⟨t,rfl⟩:=ry;obtain⟨its,r,pl,hz⟩:=I.tuple hq;obtain⟨j,h1,h2,h3,h4,h5⟩:=vS he;obtain⟨w,ew,rw'⟩:=r.get h2;have hl:=r.length;have hn:=pP;have fin:EP X pins σ Q w s:=⟨z,H,I,rw',q⟩;exact subscriptTail_builtinR (x:=w) pl.typeIs slot_tuple_getitem.lookup
  (getItem_tuple (j:=j) (Q:=fun r s'=>r=w/\EP X pins σ Q r s') pl (by omega) (by omega) (by rw[size_toArray,<-hl];exact h1) (by simpa using ew) ⟨rfl,fin⟩) hs
theorem t6(its:List Value)(n j:Nat)(u:Value):Obj.mapSeq (·.setIfInBounds j u) { cls:=.type "list",data:=.seq its.toArray n }={ cls:=.type "list",data:=.seq (its.set j u).toArray n }:=by
 simp[Obj.mapSeq]
theorem Inv.lst{pins:LpT}{σ:St}{H:Hp}{s:Shared}{p:Addr}{xs:List V}(I:Inv X pins σ H s)(h:H p=some (.lst xs)):
  ∃(its:List Value)(n:Nat),Vals xs its/\s.heap.get? p=some { cls:=.type "list",data:=.seq its.toArray n }/\xs.length<=sizeLine:=by
 obtain⟨z,its,n,r,e⟩:=I.a8 p _ h;exact⟨its,n,r,e,z⟩
theorem Inv.HB{pins:LpT}{σ:St}{H:Hp}{s:Shared}{p:Addr}{xs ys:List V}{its its':List Value}{n n':Nat}{f:Obj->Obj}(I:Inv X pins σ H s)(h:H p=some (.lst xs))(ho:s.heap.get? p=some { cls:=.type "list",data:=.seq its.toArray n })(hf:f { cls:=.type "list",data:=.seq its.toArray n }={ cls:=.type "list",data:=.seq its'.toArray n' })(r:Vals ys its')(hz:ys.length<=sizeLine)(t:Nat):
  Inv X pins σ (upd H p (.lst ys)) { s with heap:=s.heap.update p f,toks:=t }:=by
 have e:(s.heap.update p f).get? p=some { cls:=.type "list",data:=.seq its'.toArray n' }:=by
  rw[Heap.get?_update_self f ho (by rw[hf]<;>rfl),hf]
 refine I.write (x:=p) (e:=p) (by rw[h];trivial) (.inl rfl) (fun b u hb q=>(Heap.get?_update_other _ _ (Ne.symm hb)).trans q) ⟨_,e⟩ ?_;exact⟨hz,its',n',r,e⟩
def Jx:V->V->V->Hp->(Hp->Prop)->Prop:=fun o i v H Q=>∃p xs k j,o=.ref p/\i=.int k/\H p=some (.lst xs)/\Aa xs.length k=some j/\Q (upd H p (.lst (xs.set j v)))
theorem set_list:Kf X Jx:=by
 intro pins s σ H o i v ov iv u Q I ro ri rv h;obtain⟨p,xs,k,j,rfl,rfl,hp,hj,q⟩:=h;cases ro;obtain⟨t,rfl⟩:=ri;obtain⟨its,n,r,ho,hz⟩:=I.lst hp;obtain⟨h1,h2,h3,h4⟩:=vy hj;have hl:=r.length;have hn:=pP;have I':Inv X pins σ (upd H p (.lst (xs.set j v))) { s with heap:=s.heap.update p (Obj.mapSeq (·.setIfInBounds j u)) }:=
  I.HB hp ho (t6 its n j u) (r.set rv j) (by rw[length_set];exact hz) s.toks
 by_cases h0:0<=k
 ·have hk:k.toNat=j:=by
   rw[seqIndex_of h0 h4]at h1;exact Nc h1
  exact PySem.W.ki_setAt ho h0 (by omega) (by rw[size_toArray,<-hl];exact h4) (by rw[hk];exact⟨_,I',q⟩)
 ·have hk:(k+(its.toArray.size:Int)).toNat=j:=by
   rw[seqIndex_neg (by omega) h3]at h1;rw[size_toArray,<-hl];exact Nc h1
  exact PySem.W.ki_setBack ho (by omega) (by rw[size_toArray,<-hl];exact h3) (by omega) (by rw[hk];exact⟨_,I',q⟩)
theorem px(lo hi:Option Int)(n:Nat):(sliceBounds lo hi none n).1=((HT.qH n 0 lo:Nat):Int)/\(sliceBounds lo hi none n).2.1=((HT.qH n n hi:Nat):Int)/\(sliceBounds lo hi none n).2.2=1:=by
 refine⟨?_,?_,rfl⟩
 ·cases lo with
  |none=>simp[sliceBounds,HT.qH]
  |some i=>
   simp only[sliceBounds,HT.qH,Option.getD_none,show(1:Int)>0 by decide,if_true];by_cases h:i<0
   ·simp only[h,if_true]<;>omega
   ·simp only[h,if_false]<;>omega
 ·cases hi with
  |none=>simp[sliceBounds,HT.qH]
  |some i=>
   simp only[sliceBounds,HT.qH,Option.getD_none,show(1:Int)>0 by decide,if_true];by_cases h:i<0
   ·simp only[h,if_true]<;>omega
   ·simp only[h,if_false]<;>omega
theorem nH(its:List Value)(lo hi:Option Int):slicePick its.toArray lo hi none=((its.drop (HT.qH its.length 0 lo)).take (HT.qH its.length its.length hi-HT.qH its.length 0 lo)).toArray:=by
 obtain⟨h1,h2,h3⟩:=px lo hi its.toArray.size;unfold slicePick;rw[h1,h2,h3];simp only[sliceRange_one,pick_run,size_toArray]<;>rfl
def Lj(K:Frag):V->Option Int->Option Int->Hp->VK->Prop:=fun x lo hi H Q=>∃a xs,x=.ref a/\aH K H a xs/\∀p,H p=none->Q (.ref p) (upd H p (.lst (uu xs lo hi)))
theorem uW:Ml X (Lj X.K):=by
 intro pins s σ H x v vl vu lo hi sl Q I rx hs pl pu h;obtain⟨a,xs,rfl,hx,q⟩:=h;cases rx;obtain⟨its,r,ht,hz⟩:=I.list hx;have hlen:=r.length;refine⟨"list",_,slot_list_getitem.lookup,ht.isList.typeIs,?_⟩;refine wpAny_getItem_list_slice ht.isList hs pl pu .none (by simp) ?_ (by rw[size_toArray]<;>omega);rw[nH,<-hlen];refine⟨.ref s.heap.objs.size,_,I.laid (t':=s.toks) (o:=.lst (uu xs lo hi)) (fun b ob q=>get?_push_of_some _ q) (le_refl _) ?_,rfl,q _ (I.a8.fresh (le_refl _))⟩;exact⟨le_trans (sv xs lo hi) hz,_,0,(r.drop (HT.qH xs.length 0 lo)).take (HT.qH xs.length xs.length hi-HT.qH xs.length 0 lo),get?_push_size _ rfl⟩
def jw:V->Bool
 |.cu=>true
 |.bl _=>true
 |.int _=>true
 |.str _=>true
 |_=>false
def Ck:V->V->Bool
 |.cu,.cu=>true
 |.bl a,.bl b=>a==b
 |.bl a,.int b=>(if a then 1 else 0)==b
 |.int a,.bl b=>a==(if b then 1 else 0)
 |.int a,.int b=>a==b
 |.str a,.str b=>a==b
 |_,_=>false
theorem HL{A:Around}{s:Shared}{y x:V}{u v:Value}(ry:RelV y u)(rx:RelV x v)(fy:jw y=true)(fx:jw x=true):SeqAt.EqAt A s u v (Ck y x):=by
 cases y with
 |cu=>
  cases ry;cases x with
  |cu=>cases rx;exact SeqAt.EqAt.same _
  |bl b=>cases rx;exact SeqAt.EqAt.none_bool b
  |int b=>obtain⟨t,rfl⟩:=rx;exact SeqAt.EqAt.none_int b t
  |str b=>obtain⟨t,rfl⟩:=rx;exact SeqAt.EqAt.none_str b t
  |_=>exact absurd (show false=true from fx) Ni
 |bl a=>
  cases ry;cases x with
  |cu=>cases rx;exact SeqAt.EqAt.bool_none a
  |bl b=>cases rx;exact SeqAt.EqAt.bool_bool a b
  |int b=>obtain⟨t,rfl⟩:=rx;exact SeqAt.EqAt.bool_int a b t
  |str b=>obtain⟨t,rfl⟩:=rx;exact SeqAt.EqAt.bool_str a b t
  |_=>exact absurd (show false=true from fx) Ni
 |int a=>
  obtain⟨t',rfl⟩:=ry;cases x with
  |cu=>cases rx;exact SeqAt.EqAt.int_none a t'
  |bl b=>cases rx;exact SeqAt.EqAt.int_bool a t' b
  |int b=>obtain⟨t,rfl⟩:=rx;exact SeqAt.EqAt.int_int a t' b t
  |str b=>obtain⟨t,rfl⟩:=rx;exact SeqAt.EqAt.int_str a t' b t
  |_=>exact absurd (show false=true from fx) Ni
 |str a=>
  obtain⟨t',rfl⟩:=ry;cases x with
  |cu=>cases rx;exact SeqAt.EqAt.str_none a t'
  |bl b=>cases rx;exact SeqAt.EqAt.str_bool a t' b
  |int b=>obtain⟨t,rfl⟩:=rx;exact SeqAt.EqAt.str_int a t' b t
  |str b=>obtain⟨t,rfl⟩:=rx;exact SeqAt.EqAt.str_str a t' b t
  |_=>exact absurd (show false=true from fx) Ni
 |_=>exact absurd (show false=true from fy) Ni
def LI(x:V)(u:Value):Bool:=match u with
 |.none=>Ck .cu x
 |.bool b=>Ck (.bl b) x
 |.int i _=>Ck (.int i) x
 |.str z _=>Ck (.str z) x
 |_=>false
theorem uo{x y:V}{u:Value}(r:RelV y u)(f:jw y=true):LI x u=Ck y x:=by
 cases y with
 |cu=>cases r;rfl
 |bl b=>cases r;rfl
 |int i=>obtain⟨t,rfl⟩:=r;rfl
 |str z=>obtain⟨t,rfl⟩:=r;rfl
 |_=>exact absurd (show false=true from f) Ni
theorem rG{A:Around}{s:Shared}{x:V}{v:Value}(rx:RelV x v)(fx:jw x=true):∀{xs:List V}{us:List Value},Vals xs us->xs.all jw=true->∀u∈us,SeqAt.EqAt A s u v (LI x u)
 |_,_,.nil,_=>fun u hu=>by cases hu
 |y::xs,u::us,.cons r t,f=>fun u' hu=>by
  rw[all_cons,and_eq_true]at f
  rcases Nf hu with rfl|hu
  ·rw[uo r f.1];exact HL r rx f.1 fx
  ·exact rG rx fx t f.2 u' hu
theorem aM:eX X (.builtin "len") (fun xs H Q=>∃p ys,xs=[.ref p]/\(aH X.K H p ys\/gr X.K H p ys)/\Q (.int ys.length) H):=by
 intro pins s σ H xs us Q I r h;obtain⟨p,ys,rfl,hq,q⟩:=h;obtain⟨u,rfl,rx⟩:=vals1 r;cases rx;have hn:=pP;rcases hq with hq|hq
 ·obtain⟨its,r',pl,hz⟩:=I.list hq;have hlen:=r'.length;exact Calls.call_len_list pl.isList (by simp only[size_toArray]<;>omega) ⟨.int ys.length,H,I.tok _,⟨s.toks+1,by rw[size_toArray,hlen]⟩,q⟩
 ·obtain⟨its,r',pl,hz⟩:=I.tuple hq;have hlen:=r'.length;exact len_tuple pl (by simp only[size_toArray]<;>omega) ⟨.int ys.length,H,I.tok _,⟨s.toks+1,by rw[size_toArray,hlen]⟩,q⟩
theorem qe:eX X (.type "list") (fun xs H Q=>∃p ys,xs=[.ref p]/\(aH X.K H p ys\/gr X.K H p ys)/\∀l,H l=none->Q (.ref l) (upd H l (.lst ys))):=by
 intro pins s σ H xs us Q I r h;obtain⟨p,ys,rfl,hq,q⟩:=h;obtain⟨u,rfl,rx⟩:=vals1 r;cases rx;have fin:∀(its:List Value),Vals ys its->ys.length<=sizeLine->∀(h':Heap)(c':Nat),(∀b o',s.heap.get? b=some o'->h'.get? b=some o') ->
   h'.get? s.heap.objs.size=some { cls:=.type "list",dict:=none,data:=.seq its.toArray c',slots:=#[] }->EP X pins σ Q (.ref s.heap.objs.size) { s with heap:=h' }:=fun its r' hz h' c' kp e=>
  ⟨.ref s.heap.objs.size,_,I.laid (t':=s.toks) kp (le_refl _) (show bB X.prog X.w _ h' _ (.lst ys)from⟨hz,its,c',r',e⟩),rfl,q _ (I.a8.fresh (le_refl _))⟩
 rcases hq with hq|hq
 ·obtain⟨its,r',pl,hz⟩:=I.list hq;have hlen:=r'.length;obtain⟨o,ho,hc,n,hd⟩:=pl.isList;exact call_list_seq p (.inl rfl) ho hc hd (fun h' c' kp e=>fin its r' hz h' c' kp e) (by simp only[size_toArray]<;>omega)
 ·obtain⟨its,r',pl,hz⟩:=I.tuple hq;have hlen:=r'.length;obtain⟨o,ho,hc,n,hd⟩:=pl;exact call_list_seq p (.inr rfl) ho hc hd (fun h' c' kp e=>fin its r' hz h' c' kp e) (by simp only[size_toArray]<;>omega)
theorem fH:eX X (.type "tuple") (fun xs H Q=>∃p ys,xs=[.ref p]/\((aH X.K H p ys/\∀l,H l=none->Q (.ref l) (upd H l (.tup ys)))\/(gr X.K H p ys/\Q (.ref p) H))):=by
 intro pins s σ H xs us Q I r h;obtain⟨p,ys,rfl,h⟩:=h;obtain⟨u,rfl,rx⟩:=vals1 r;cases rx;rcases h with⟨hq,q⟩|⟨hq,q⟩
 ·obtain⟨its,r',pl,hz⟩:=I.list hq;have hlen:=r'.length;refine call_tuple_list pl.isList (fun h' kp=>?_) (by simp only[size_toArray]<;>omega);have I1:Inv X pins σ H { s with heap:=h' }:=I.kept (t':=s.toks) kp;have I2:Inv X pins σ (upd H h'.objs.size (.tup ys)) { s with heap:=h'.push { cls:=.type "tuple",data:=.seq its.toArray } }:=
   I1.laid (t':=s.toks) (fun b o e=>get?_push_of_some _ e) (le_refl _) (show bB X.prog X.w _ _ _ (.tup ys)from⟨hz,its,r',IsTup.new _ _⟩)
  exact⟨.ref h'.objs.size,_,I2,rfl,q _ (I1.a8.fresh (le_refl _))⟩
 ·obtain⟨its,r',pl,hz⟩:=I.tuple hq;exact call_tuple_same pl ⟨.ref p,H,I,rfl,q⟩
def L9(K:Frag)(T:String)(x:V)(H:Hp):Prop:=match x with
 |.str _=>T="str"
 |.int _=>T="int"
 |.ref p=>(T="list"/\∃xs,aH K H p xs)\/(T="tuple"/\∃o,K.lookup p=some o/\o.cls=.type "tuple"/\o.dict=none) \/
   (T="dict"/\((∃kvs,H p=some (.dK kvs))\/∃kvs,H p=some (.dT kvs)))\/(T="set"/\∃S n,H p=some (.set S n))
 |_=>False
theorem D0{pins:LpT}{σ:St}{H:Hp}{s:Shared}{T:String}{x:V}{v:Value}(I:Inv X pins σ H s)(r:RelV x v)(ty:L9 X.K T x H):
  s.TypeIs v T/\∀a,v=.ref a->∃ob,s.heap.get? a=some ob/\ob.dict=none:=by
 cases x with
 |str z=>
  obtain⟨t,rfl⟩:=r;cases(show T="str" from ty);exact⟨typeIs_str s z t,fun _ e=>nomatch e⟩
 |int i=>
  obtain⟨t,rfl⟩:=r;cases(show T="int" from ty);exact⟨typeIs_int s i t,fun _ e=>nomatch e⟩
 |ref p=>
  cases r;rcases ty with⟨rfl,xs,hq⟩|⟨rfl,o,hk,hc,hd⟩|⟨rfl,hk⟩|⟨rfl,S,n,hk⟩
  ·obtain⟨its,_,pl,_⟩:=I.list hq;refine⟨pl.isList.typeIs,fun a e=>?_⟩;cases e;obtain⟨o,n,e,c,hd,_⟩:=pl;exact⟨o,e,hd⟩
  ·refine⟨⟨o,I.mS p o hk,hc⟩,fun a e=>?_⟩;cases e;exact⟨o,I.mS _ o hk,hd⟩
  ·have z:∃o,s.heap.get? p=some o/\o.ExactDict:=by
    rcases hk with⟨kvs,hk⟩|⟨kvs,hk⟩
    ·obtain⟨_,_,_,_,o,_,_,e,ex,_⟩:=I.a8 p _ hk;exact⟨o,e,ex⟩
    ·obtain⟨_,_,_,_,o,_,_,e,ex,_⟩:=I.a8 p _ hk;exact⟨o,e,ex⟩
   obtain⟨o,e,ex⟩:=z;refine⟨⟨o,e,ex.1⟩,fun a e2=>?_⟩;cases e2;exact⟨o,e,ex.2.1⟩
  ·obtain⟨o,_,_,_,e,ex,_⟩:=I.a8 p _ hk;refine⟨⟨o,e,ex.1⟩,fun a e2=>?_⟩;cases e2;exact⟨o,e,ex.2.1⟩
 |_=>exact False.elim ty
def Mb(K:Frag)(T:String)(r:V->List V->Hp->VK->Prop)(to:TE)(t:TA):TE:=fun σ H Q=>to σ H fun x H1=>L9 K T x H1/\t σ H1 fun xs H2=>r x xs H2 Q
variable{o e:Expr}{es:List Expr}{to:TE}{t:TA}{name:Str}{apos cpos:Pos}{T id:String}{r:V->List V->Hp->VK->Prop}
theorem fb(pa:PlainAttrs T)(slot:Slot T name id)(hty:typeOf (.builtin id)=pure (.type "method_descriptor"))(hm:KN X id r)(ho:PE X o to)(ha:PA X (e::es) t)(hbase:attributeBase o name X.env (eval o X.env)=eval o X.env:=by rfl)(hfew:((backTo cpos (starEach (e::es) X.env)).all (fun x=>!x.1)&&(backToKw cpos (keywordEach [] X.env)).all (fun x=>x.1.isSome)
   && decide ((e::es).length+([]:List Keyword).length+(if([]:List Keyword).isEmpty then 0 else 1)<30))=true:=by rfl)(hline:(apos.endLine==cpos.line)=true:=by rfl)(hs:starEach (e::es) X.env=(false,eval e X.env)::starEach es X.env:=by rfl)(hplain:(backTo cpos (starEach es X.env)).any (·.1)=false:=by rfl):
  PE X (.Call (.Attribute o name apos) (e::es) [] cpos) (Mb X.K T r to t):=by
 intro pins s σ H Q I h;refine wpAny_Call_method_late hbase hfew hline rfl (bK (ho pins s σ H _ I h) fun v s1⟨x,H1,I1,r1,ty,q1⟩=>?_);obtain⟨h1,h2⟩:=D0 I1 r1 ty;refine⟨T,id,pa,slot,hty,h1,h2,?_⟩;have hA:=ha cpos pins s1 σ H1 _ I1 q1;rw[hs]at hA ⊢;refine Calls.callWith_builtin (by show(false||(backTo cpos (starEach es X.env)).any (·.1))=false;rw[hplain]<;>rfl) (Calls.evalArgs_plain ?_);exact bK hA fun us s2⟨vs,H2,I2,r2,q2⟩=>hm pins s2 σ H2 x vs v us Q I2 r1 r2 q2
end
def L3(X:Cx)(id:String)(r:V->List V->Hp->VK->Prop):Prop:=
 ∀(pins:LpT)(s:Shared)(σ:St)(H:Hp)(x:V)(xs:List V)(v:Value)(us:List Value)(Q:VK),Inv X pins σ H s->RelV x v->Vals xs us->r x xs H Q ->
  wpAny (model X.prog X.w) X.A (call (.builtin id) (v::us)) (EP X pins σ Q) X.xe s
theorem Vals.one:∀{x:V}{us:List Value},Vals [x] us->∃u,us=[u]/\RelV x u
 |_,_,.cons r .nil=>⟨_,rfl,r⟩
theorem Vals.rep{xs:List V}{us:List Value}(h:Vals xs us):∀k:Nat,Vals (replicate k xs).flatten (replicate k us).flatten
 |0=>.nil
 |k+1=>by
  rw[replicate_succ,replicate_succ,flatten_cons,flatten_cons]
  exact Vals.append h (Vals.rep h k)
theorem foldl_rep(its:List Value):∀(k:Nat)(acc:List Value),
  foldl (fun x1 x2=>x1++x2) acc.toArray (replicate k its.toArray)=(acc++(replicate k its).flatten).toArray
 |0,acc=>by simp
 |k+1,acc=>by
  have e:acc.toArray++its.toArray=(acc++its).toArray:=by simp
  have e2:(acc++its)++(replicate k its).flatten=acc++(replicate (k+1) its).flatten:=by
   rw[replicate_succ,flatten_cons,append_assoc]
  rw[<-e2,<-foldl_rep its k (acc++its),<-e,replicate_succ,foldl_cons]
section
variable{X:Cx}{pins:LpT}{σ:St}{H:Hp}{s:Shared}{l b:Addr}{xs ys zs:List V}
theorem Inv.HC{its its':List Value}{n:Nat}{f:Array Value->Array Value}{t':Nat}(I:Inv X pins σ H s)(hH:H l=some (.lst xs))(e:s.heap.get? l=some { cls:=.type "list",data:=.seq its.toArray n })(hf:f its.toArray=its'.toArray)(hv:Vals ys its')(hz:ys.length<=sizeLine):
  Inv X pins σ (upd H l (.lst ys)) { s with heap:=s.heap.update l (Obj.mapSeq f),toks:=t' }:=by
 have q:=PySem.IsL.update e f;rw[hf]at q;refine I.write (x:=l) (e:=l) (by rw[hH];exact trivial) (.inl rfl) (fun b' u hb hu=>(Heap.get?_update_other s.heap (Obj.mapSeq f) (Ne.symm hb)).trans hu) ⟨_,q⟩ ?_;exact⟨hz,its',_,hv,q⟩
theorem Inv.JO{its:List Value}{t':Nat}(I:Inv X pins σ H s)(hv:Vals ys its)(hz:ys.length<=sizeLine):
  Inv X pins σ (upd H s.heap.objs.size (.lst ys)) { s with heap:=s.heap.push { cls:=.type "list",data:=.seq its.toArray },toks:=t' }:=
 I.laid (fun _ _ q=>get?_push_of_some _ q) (le_refl _) ⟨hz,its,0,hv,get?_push_size _ rfl⟩
theorem Inv.fresh(I:Inv X pins σ H s):H s.heap.objs.size=none:=I.a8.fresh (le_refl _)
theorem Inv.pN(I:Inv X pins σ H s)(hH:H l=some (.lst xs)):xs.length<=sizeLine/\∃(its:List Value)(n:Nat),Vals xs its/\xs.length=its.length/\s.heap.get? l=some { cls:=.type "list",data:=.seq its.toArray n }:=by
 obtain⟨z,its,n,r,e⟩:=I.a8 l _ hH;exact⟨z,its,n,r,r.length,e⟩
theorem rb{n:Nat}(h:n<=sizeLine):Builtin.List.listTooLong n=false:=by
 unfold Builtin.List.listTooLong;exact decide_eq_false (by omega)
end
section
variable{X:Cx}
def BL:V->List V->Hp->VK->Prop:=fun x vs H Q=>∃l xs y,x=.ref l/\vs=[y]/\H l=some (.lst xs)/\xs.length<sizeLine/\Q .cu (upd H l (.lst (xs++[y])))
theorem dw:L3 X "list.append" BL:=by
 intro pins s σ H x vs v us Q I rx rv h;obtain⟨l,xs,y,rfl,rfl,hH,hz,q⟩:=h;cases rx;obtain⟨u,rfl,ru⟩:=rv.one;obtain⟨z,its,n,r,hl,e⟩:=I.pN hH;refine call_meets F.slot_list_append ⟨_,e,rfl⟩ F.entry_list_append (F.args_list_append_2 _ _) (PySem.list_append l its.toArray n u (by rw[size_toArray];omega)) ⟨e,?_⟩;refine⟨.cu,_,I.HC (its':=its++[u]) hH e (by simp) (r.append (.cons ru .nil)) ?_,rfl,q⟩;rw[length_append,List.length_singleton];omega
def BK:V->List V->Hp->VK->Prop:=fun x vs H Q=>∃l b xs zs,x=.ref l/\vs=[.ref b]/\H l=some (.lst xs)/\H b=some (.lst zs)/\xs.length+zs.length<=sizeLine/\Q .cu (upd H l (.lst (xs++zs)))
theorem oI:L3 X "list.extend" BK:=by
 intro pins s σ H x vs v us Q I rx rv h;obtain⟨l,b,xs,zs,rfl,rfl,hH,hB,hz,q⟩:=h;cases rx;obtain⟨u,rfl,ru⟩:=rv.one;cases ru;obtain⟨z,its,n,r,hl,e⟩:=I.pN hH;obtain⟨z2,its2,n2,r2,hl2,e2⟩:=I.pN hB;have hsz:its.toArray.size+its2.toArray.size<=sizeLine:=by rw[size_toArray,size_toArray];omega
 have hlong:¬(!its.toArray.isEmpty&&Builtin.List.listTooLong (its.toArray.size+its2.toArray.size))=true:=by
  rw[rb hsz,Bool.and_false];exact Ni
 refine call_meets F.slot_list_extend ⟨_,e,rfl⟩ F.entry_list_extend (F.args_list_extend_2 _ _)
  (AutoSeq1.list_extend_list_list_0 l its.toArray n b its2.toArray n2 hlong (by rw[size_toArray];omega) (by omega)) ⟨e,e2,?_⟩
 refine⟨.cu,_,I.HC (its':=its++its2) hH e (by simp) (r.append r2) ?_,rfl,q⟩;rw[length_append];omega
def Lm:R2:=fun x y H Q=>∃l b xs zs,x=.ref l/\y=.ref b/\H l=some (.lst xs)/\H b=some (.lst zs)/\xs.length+zs.length<=sizeLine/\∀p,H p=none->Q (.ref p) (upd H p (.lst (xs++zs)))
theorem iY:lF X (binaryOp .Add) Lm:=by
 intro pins s σ H x y v u Q I rx ry h;obtain⟨l,b,xs,zs,rfl,rfl,hH,hB,hz,q⟩:=h;cases rx;cases ry;obtain⟨z,its,n,r,hl,e⟩:=I.pN hH;obtain⟨z2,its2,n2,r2,hl2,e2⟩:=I.pN hB;refine PySem.P.add_list e e2 ?_ (by rw[size_toArray,size_toArray];omega);have ea:its.toArray++its2.toArray=(its++its2).toArray:=by simp
 rw[ea];exact⟨.ref _,_,I.JO (t':=s.toks) (r.append r2) (by rw[length_append];omega),rfl,q _ I.fresh⟩
def Lk:R2:=fun x y H Q=>∃l k xs,x=.ref l/\y=.int k/\H l=some (.lst xs)/\-(2^63)<=k/\k<2^63/\xs.length*k.toNat<=sizeLine /\
 ∀p,H p=none->Q (.ref p) (upd H p (.lst (replicate k.toNat xs).flatten))
theorem len_rep{α:Type}(xs:List α)(k:Nat):(replicate k xs).flatten.length=k*xs.length:=by
 induction k with
 |zero=>simp
 |succ k ih=>rw[replicate_succ,flatten_cons,length_append,ih,succ_mul,add_comm]
theorem zl:lF X (binaryOp .Mult) Lk:=by
 intro pins s σ H x y v u Q I rx ry h;obtain⟨l,k,xs,rfl,rfl,hH,h1,h2,hz,q⟩:=h;cases rx;obtain⟨t,rfl⟩:=ry;obtain⟨z,its,n,r,hl,e⟩:=I.pN hH;have hlen:its.toArray.size*k.toNat<=sizeLine:=by rw[size_toArray,<-hl];exact hz
 have hcap:¬its.toArray.size*k.toNat>(2^63-1)/8:=by
  have:(sizeLine:Nat)<=(2^63-1)/8:=by decide
  omega
 have hfit:¬(!Builtin.List.listFitsIndex k)=true:=by
  rw[fitsIndex_both h1 h2];exact Ni
 have hlong:¬Builtin.List.listTooLong (its.toArray.size*k.toNat)=true:=by
  rw[rb hlen];exact Ni
 have hnew:foldl (fun x1 x2=>x1++x2) #[] (replicate (if its.toArray.isEmpty=true then 0 else k.toNat) its.toArray)=(replicate k.toNat its).flatten.toArray:=by
  have f0:∀m:Nat,foldl (fun x1 x2=>x1++x2) #[] (replicate m its.toArray)=(replicate m its).flatten.toArray:=fun m=>by
   have:=foldl_rep its m [];rw[nil_append]at this;exact this
  rw[f0];cases its with
  |nil=>simp
  |cons a r'=>rw[if_neg (by simp)]
 refine wpAny_binaryOp_repeat_ref (T:="list") (U:="int") (by decide) ⟨_,e,rfl⟩ (fun s'=>typeIs_int s' k t) noFill_list_mul F.fills_int_mul F.slot_int_rmul repeat_list F.slot_int_index.lookup
  (call_meets F.slot_int_rmul (typeIs_int s k t) F.entry_int_rmul (F.args_int_rmul_2 _ _) (int___rmul___int_list k t l its.toArray n)
   ⟨e,rfl,⟨_,e,rfl⟩,call_meets F.slot_list_mul ⟨_,e,rfl⟩ F.entry_list_mul (F.args_list_mul_2 _ _) (AutoListH.list___mul___list_int_3 l its.toArray n k t hfit hcap hlong) ⟨e,?_⟩⟩)
 rw[hnew];exact⟨.ref _,_,I.JO (t':=s.toks) (r.rep k.toNat) (by rw[len_rep,mul_comm];exact hz),rfl,q _ I.fresh⟩
end
theorem Vals.ints:∀{ns:List Int}{us:List Value},Vals (ns.map V.int) us->IntsAre us ns
 |[],us,h=>by
  rw[map_nil]at h
  cases h
  exact IntsAre.nil
 |n::ns,us,h=>by
  rw[map_cons]at h
  cases h with
  |cons r t=>
   obtain⟨k,rfl⟩:=r
   exact IntsAre.cons n k (Vals.ints t)
theorem gB:∀{us:List Value}{ns:List Int},IntsAre us ns->Vals (ns.map V.int) us
 |_,_,.nil=>by rw[map_nil];exact Paired.nil
 |_,_,.cons n t h=>by rw[map_cons];exact Paired.cons (show RelV (V.int n) (Value.int n t)from⟨t,rfl⟩) (gB h)
theorem Vals.Mi:∀{bs:List Bool}{us:List Value},Vals (bs.map V.bl) us->us=bs.map Value.bool
 |[],us,h=>by
  rw[map_nil]at h
  cases h
  rfl
 |b::bs,us,h=>by
  rw[map_cons]at h
  cases h with
  |cons r t=>
   cases r
   rw[Vals.Mi t,map_cons]
theorem Vals.nQ{a:Addr}{us:List Value}(r:Vals [V.ref a] us):us=[Value.ref a]:=by
 cases r with
 |cons r t=>
  cases t;cases r;rfl
section
variable{prog:Program}{w:World}{A:Around}{E:L5}{s:Shared}{l:Addr}{its:List Value}{ns:List Int}{Q:L5}
theorem B8(hh:A.handled=none)(hl:s.heap.IsList l its.toArray)(hi:IntsAre its ns)(hne:0<ns.length)(h:∀h' tk M t',(∀b o,s.heap.get? b=some o->h'.get? b=some o)->M∈ns->(∀a,a∈ns->a<=M)->Q (.int M t') { s with heap:=h',toks:=tk }):wpAny (model prog w) A (call (.builtin "max") [.ref l]) Q E s:=by
 obtain⟨xs,e⟩:=hi.allInts.items;have hn:numsOf (intItems xs).toList=ns:=by rw[<-e];exact hi.numsOf
 rw[nums_intItems]at hn;subst hn;rw[e]at hl;have hsz:0<xs.size:=by simpa using hne
 refine PySem.max_intList hh hl hsz fun v h' tk hv hk=>?_;obtain⟨t,rfl⟩:=intItems_at hv;obtain⟨h1,h2⟩:=argBest_gt (numAt xs) (xs.size-1);refine h h' tk _ t hk ?_ fun a ha=>?_
 ·rw[numAt_eq];exact PySem.getD_mem (by rw[length_map,length_toList];omega)
 ·obtain⟨j,hj,rfl⟩:=mem_getD ha;rw[length_map,length_toList]at hj;rw[<-numAt_eq];exact h2 j (by omega)
theorem B7(hh:A.handled=none)(hl:s.heap.IsList l its.toArray)(hi:IntsAre its ns)(hne:0<ns.length)(h:∀h' tk M t',(∀b o,s.heap.get? b=some o->h'.get? b=some o)->M∈ns->(∀a,a∈ns->M<=a)->Q (.int M t') { s with heap:=h',toks:=tk }):wpAny (model prog w) A (call (.builtin "min") [.ref l]) Q E s:=by
 obtain⟨xs,e⟩:=hi.allInts.items;have hn:numsOf (intItems xs).toList=ns:=by rw[<-e];exact hi.numsOf
 rw[nums_intItems]at hn;subst hn;rw[e]at hl;have hsz:0<xs.size:=by simpa using hne
 refine PySem.min_intList hh hl hsz fun v h' tk hv hk=>?_;obtain⟨t,rfl⟩:=intItems_at hv;obtain⟨h1,h2⟩:=argBest_lt (numAt xs) (xs.size-1);refine h h' tk _ t hk ?_ fun a ha=>?_
 ·rw[numAt_eq];exact PySem.getD_mem (by rw[length_map,length_toList];omega)
 ·obtain⟨j,hj,rfl⟩:=mem_getD ha;rw[length_map,length_toList]at hj;rw[<-numAt_eq];exact h2 j (by omega)
end
section
variable{X:Cx}
def Ll(K:Frag):List V->Hp->VK->Prop:=fun vs H Q=>∃(a:Addr)(ns:List Int),vs=[V.ref a]/\aH K H a (ns.map V.int)/\0<ns.length/\∀m,m∈ns->(∀y,y∈ns->y<=m)->Q (.int m) H
def Fx(K:Frag):List V->Hp->VK->Prop:=fun vs H Q=>∃(a:Addr)(ns:List Int),vs=[V.ref a]/\aH K H a (ns.map V.int)/\0<ns.length/\∀m,m∈ns->(∀y,y∈ns->m<=y)->Q (.int m) H
theorem HW(hc:X.calm=true):eX X (.builtin "max") (Ll X.K):=by
 intro pins s σ H vs us Q I r h;obtain⟨a,ns,rfl,hs,hne,q⟩:=h;obtain⟨its,rv,hl,_⟩:=I.list hs;rw[Vals.nQ r];exact B8 (I.ok.hd hc) hl.isList rv.ints hne fun h' tk m t' hk h1 h2=>⟨.int _,H,I.kept hk,⟨_,rfl⟩,q m h1 h2⟩
theorem AB(hc:X.calm=true):eX X (.builtin "min") (Fx X.K):=by
 intro pins s σ H vs us Q I r h;obtain⟨a,ns,rfl,hs,hne,q⟩:=h;obtain⟨its,rv,hl,_⟩:=I.list hs;rw[Vals.nQ r];exact B7 (I.ok.hd hc) hl.isList rv.ints hne fun h' tk m t' hk h1 h2=>⟨.int _,H,I.kept hk,⟨_,rfl⟩,q m h1 h2⟩
def BJ(K:Frag):List V->Hp->VK->Prop:=fun vs H Q=>∃(a:Addr)(ns:List Int),vs=[V.ref a]/\aH K H a (ns.map V.int)/\ns.length<64 /\
 ∀(ns':List Int)(p:Addr),ns'.Perm ns->ns'.Pairwise (·<=·)->H p=none->Q (.ref p) (upd H p (.lst (ns'.map V.int)))
theorem A8{n:Nat}(h:n<64):n<=sizeLine:=by rw[sizeLine_eq];omega
theorem jX:eX X (.builtin "sorted") (BJ X.K):=by
 intro pins s σ H vs us Q I r h;obtain⟨a,ns,rfl,hs,h64,q⟩:=h;obtain⟨its,rv,hl,_⟩:=I.list hs;rw[Vals.nQ r];have hi:=rv.ints;refine PyProof.Rows.sorted_ints hl.isList hi (by rw[hi.length];exact h64) fun out ns' h1 h2 h3=>?_;obtain⟨ep,he'⟩:=PyProof.Rows.sortedAll_at s.heap its out;have hlen:(ns'.map V.int).length<=sizeLine:=by rw[length_map,h2.length_eq];exact A8 h64
 exact⟨.ref _,upd H (s.heap.objs.size+1) (.lst (ns'.map V.int)),I.laid (t':=s.toks) (fun _ _=>PyProof.Rows.sortedAll_old) (le_succ _) ⟨hlen,out.toList,ep,gB h1,he'⟩,rfl,q ns' _ h2 h3 (I.a8.fresh (le_succ _))⟩
def yV(K:Frag):V->List V->Hp->VK->Prop:=fun x xs H Q=>∃(a:Addr)(ys:List V)(y:V)(j:Nat)(z:V),x=V.ref a/\xs=[y]/\aH K H a ys/\jw y=true/\ys.all jw=true/\ys[j]?=some z/\Ck z y=true /\
 (∀(m:Nat)(z':V),m<j->ys[m]?=some z'->Ck z' y=false)/\Q (.int (j:Nat)) H
theorem vG{ys:List V}(f:ys.all jw=true){j:Nat}{z:V}(h:ys[j]?=some z):jw z=true:=List.all_eq_true.mp f z (mem_of_getElem? h)
theorem rA:KN X "list.index" (yV X.K):=by
 intro pins s σ H x xs v us Q I rx rxs h;obtain⟨a,ys,y,j,z,rfl,rfl,hs,fy,fys,hz,hzj,hno,q⟩:=h;cases rx;cases rxs with
 |cons ry rt=>
  rename_i uy ut;cases rt;obtain⟨its,rv,⟨⟨cls,dd,data,sl⟩,n,ho,hc,hdn,hd⟩,hlen⟩:=I.list hs;simp only at hc hd;subst hc hd;obtain⟨u,hu,ru⟩:=rv.get hz;obtain⟨hjl,hje⟩:=Nd hu;have hvl:=rv.length;have hj:j<its.toArray.size:=by simpa using hjl
  have hsl:=sizeLine_eq;refine call_meets slot_list_index ⟨_,ho,rfl⟩ PySem.F.entry_list_index (PySem.F.args_list_index_2 _ _)
   (SeqAt.list_indexAt a its.toArray n dd sl uy (LI y) j hj (by omega) ?_ ?_) ⟨ho,fun u' hu'=>rG ry fy rv fys u' (by simpa using hu'),?_⟩
  ·have e1:its.toArray[j]=u:=by simpa using hje
   rw[e1,uo ru (vG fys hz)];exact hzj
  ·intro m hm hmj;have hml:m<its.length:=by simpa using hm
   have hmy:m<ys.length:=by omega
   have hy':ys[m]?=some ys[m]:=getElem?_eq_getElem hmy;obtain⟨u2,hu2,ru2⟩:=rv.get hy';obtain⟨_,hme⟩:=Nd hu2;have e1:its.toArray[m]=u2:=by simpa using hme
   rw[e1,uo ru2 (vG fys hy')];exact hno m _ hmj hy'
  ·exact⟨.int (j:Nat),H,I.tok _,⟨_,rfl⟩,q⟩
end
theorem Ac{prog:Program}{w:World}{A:Around}{E:L5}{s:Shared}{l:Addr}{items:Array Value}{Q:L5}(hl:s.heap.IsList l items)(h:∀s₂:Shared,s₂={ s with heap:=s.heap.push { cls:=.type "list_iterator",data:=.fields #[.ref l,.int 0 0] } } ->
   (s₂.heap.IsListIter s.heap.objs.size l 0/\s₂.heap.IsList l items)->l≠s.heap.objs.size->Q (.ref s.heap.objs.size) s₂):wpAny (model prog w) A (pyIter (.ref l)) Q E s:=by
 have hlt:l<s.heap.objs.size:=by obtain⟨_,e,_⟩:=hl;exact lt_size e
 exact wpAny_pyIter_list hl (h _ rfl ⟨⟨_,get?_push_size _ rfl,rfl,rfl⟩,hl.push _⟩ (ne_of_lt hlt))
theorem qx{prog:Program}{w:World}{A:Around}{bs:List Bool}{its:List Value}(e:its=bs.map Value.bool):
  TruthOf prog w A (fun i v=>its.toArray[i]?=some v) (fun i=>bs.getD i false):=fun i v s Q E hv hq=>by
 have hv':its[i]?=some v:=by simpa using hv
 rw[e,getElem?_map]at hv'
 obtain⟨b,hb,rfl⟩:=Option.map_eq_some_iff.mp hv'
 have hg:bs.getD i false=b:=by rw[getD_eq_getElem?_getD,hb]<;>rfl
 have hq':Q (bs.getD i false) s:=hq
 rw[hg]at hq'
 exact wpAny_truthy_bool hq'
theorem any_range:∀bs:List Bool,(range bs.length).any (fun i=>bs.getD i false)=bs.any id
 |[]=>rfl
 |b::bs=>by
  rw[length_cons,List.range_succ_eq_map,any_cons,List.any_map,any_cons,<-any_range bs]
  all_goals rfl
theorem all_range:∀bs:List Bool,(range bs.length).all (fun i=>bs.getD i false)=bs.all id
 |[]=>rfl
 |b::bs=>by
  rw[length_cons,List.range_succ_eq_map,all_cons,all_map,all_cons,<-all_range bs]
  all_goals rfl
section
variable{X:Cx}
def Ln(K:Frag):List V->Hp->VK->Prop:=fun vs H Q=>∃(a:Addr)(bs:List Bool),vs=[V.ref a]/\aH K H a (bs.map V.bl)/\Q (.bl (bs.all id)) H
theorem uv(hc:X.calm=true):eX X (.builtin "all") (Ln X.K):=by
 intro pins s σ H vs us Q I r h;obtain⟨a,bs,rfl,hs,q⟩:=h;obtain⟨its,rv,hl,_⟩:=I.list hs;rw[Vals.nQ r];have hb:=rv.Mi;refine call_all_walk (Ac hl.isList fun s₂ e2 st hne=>?_);subst e2;refine⟨_,_,_,_,_,_,_,rfl,Walks.list (A:=X.A.in1) (I.ok.hd hc) _ a hne its.toArray,st,qx hb,fun h' tk hk=>?_⟩;refine⟨.bl _,H,I.kept fun b o eo=>hk b o (fun hmem=>?_) (get?_push_of_some _ eo),?_,q⟩
 ·rcases Nf hmem with e1|hmem
  ·exact absurd (e1▸lt_size eo) (lt_irrefl _)
  ·cases hmem
 ·show Value.bool _=Value.bool _;rw[<-all_range,hb,size_toArray,length_map]
end
mutual
inductive Dp (K:Frag) (H:Hp):V->PyData->Prop
 |cu:Dp K H .cu .none
 |bl (b:Bool):Dp K H (.bl b) (.bool b)
 |int (i:Int):Dp K H (.int i) (.int i)
 |str (x:Str):Dp K H (.str x) (.str x)
 |lst {a:Addr} {xs:List V} {ds:List PyData}:aH K H a xs->iS K H xs ds->Dp K H (.ref a) (.list ds)
 |tup {a:Addr} {xs:List V} {ds:List PyData}:gr K H a xs->iS K H xs ds->Dp K H (.ref a) (.tuple ds)
inductive iS (K:Frag) (H:Hp):List V->List PyData->Prop
 |nil:iS K H [] []
 |cons {v:V} {vs:List V} {d:PyData} {ds:List PyData}:Dp K H v d->iS K H vs ds->iS K H (v::vs) (d::ds)
end
section
variable{X:Cx}{pins:LpT}{σ:St}{H:Hp}{s:Shared}
mutual
theorem Dp.reads (I:Inv X pins σ H s):∀(d:PyData)(v:V)(u:Value),Dp X.K H v d->RelV v u->∃as,Reads s.heap u d as
 |.none,_,_,h,r=>by
  cases h
  cases r
  exact⟨_,Reads.none⟩
 |.bool b,_,_,h,r=>by
  cases h
  cases r
  exact⟨_,Reads.bool b⟩
 |.int i,_,_,h,r=>by
  cases h
  obtain⟨t,rfl⟩:=r
  exact⟨_,Reads.int i t⟩
 |.str x,_,_,h,r=>by
  cases h
  obtain⟨t,rfl⟩:=r
  exact⟨_,Reads.str x t⟩
 |.list ds,_,_,h,r=>by
  cases h with
  |lst hs ha=>
   cases r
   obtain⟨its,rv,⟨o,n,ho,hc,_,hd⟩,_⟩:=I.list hs
   obtain⟨as,hr⟩:=Dp.readsAll I ds _ its ha rv
   exact⟨_,Reads.list ho hc hd hr⟩
 |.tuple ds,_,_,h,r=>by
  cases h with
  |tup hs ha=>
   cases r
   obtain⟨its,rv,⟨o,ho,hc,n,hd⟩,_⟩:=I.tuple hs
   obtain⟨as,hr⟩:=Dp.readsAll I ds _ its ha rv
   exact⟨_,Reads.tuple ho hc hd hr⟩
 |.dict _,_,_,h,_=>by cases h
theorem Dp.readsAll (I:Inv X pins σ H s):∀(ds:List PyData)(vs:List V)(us:List Value),iS X.K H vs ds->Vals vs us->∃as,ReadsAll s.heap us ds as
 |[],_,_,h,r=>by
  cases h
  cases r
  exact⟨_,ReadsAll.nil⟩
 |d::ds,_,_,h,r=>by
  cases h with
  |cons h1 h2=>
   cases r with
   |cons r1 r2=>
    obtain⟨as,q1⟩:=Dp.reads I d _ _ h1 r1
    obtain⟨bs,q2⟩:=Dp.readsAll I ds _ _ h2 r2
    exact⟨_,ReadsAll.cons q1 q2⟩
end
end
section
variable{X:Cx}
def Fz(K:Frag):R2:=fun x y H Q=>∃d e,Dp K H x d/\Dp K H y e/\SeqAt.shaped d=true/\SeqAt.shaped e=true/\Q (.bl (PyData.eqv d e)) H
theorem pH(hu:X.A.units+64<cLine):lF X (compareOp .Eq) (Fz X.K):=by
 intro pins s σ H x y v u Q I rx ry h;obtain⟨d,e,hd,he,sd,se,q⟩:=h;obtain⟨as,r1⟩:=Dp.reads I d x v hd rx;obtain⟨bs,r2⟩:=Dp.reads I e y u he ry;exact SeqAt.compareEq_shaped r1 r2 sd se hu ⟨.bl _,H,I,rfl,q⟩
end
abbrev AQ(h:Heap)(c:Addr)(v:Option Value):Prop:=h.IsCell c v
def Lh(scope sc:Scope):Scope:=
 { scope with names:=scope.names.map fun(n,k)=>if(k==.free&&sc.kind==.function&&sc.names.lookup n==some .cell)then(n,.cell)else(n,k) }
def bJ(cells:List (Str×Addr)):List (Str×NameKind)->List (Str×Addr)->List (Str×Addr)
 |[],acc=>acc
 |(n,k)::r,acc=>if k==.free then bJ cells r ((n,(cells.lookup n).getD 0)::acc)else bJ cells r acc
theorem jA(env:Env)(f:Str×NameKind->List (Str×Addr)->Sem (ForInStep (List (Str×Addr))))(hf:∀n k c,f (n,k) c=if k==.free then(do let a <-cellOf env n;pure (.yield ((n,a)::c)))else pure (.yield c)):
  ∀(names:List (Str×NameKind))(acc:List (Str×Addr)),(∀y∈names,y.2=.free->∃c,env.cells.lookup y.1=some c)->forIn names acc f=pure (bJ env.cells names acc)
 |[],acc,_=>by rw[forIn_nil];rfl
 |(n,k)::r,acc,h=>by
  rw[forIn_cons,hf]
  have ih:=fun acc=>jA env f hf r acc fun y hy=>h y (mem_cons_of_mem _ hy)
  unfold bJ
  by_cases hk:(k==NameKind.free)=true
  ·rw[if_pos hk,if_pos hk]
   obtain⟨c,hc⟩:=h (n,k) mem_cons_self (by simpa using hk)
   have e:cellOf env n=pure c:=by unfold cellOf;rw[hc]
   rw[e]
   have e2:(env.cells.lookup n).getD 0=c:=by rw[hc];rfl
   rw[e2]
   exact ih _
  ·rw[if_neg hk,if_neg hk]
   exact ih _
theorem ux{scope:Scope}{env:Env}(h:∀y∈scope.names,y.2=.free->∃c,env.cells.lookup y.1=some c):closureFor scope env=pure (bJ env.cells scope.names []):=by
 simp only[closureFor];rw[jA env _ (fun n k c=>rfl) scope.names [] h];rfl
theorem mem_lookup{α:Type}:∀{l:List (Str×α)}{n:Str}{c:α},(n,c)∈l->∃c',l.lookup n=some c'
 |(k,v)::r,n,c,h=>by
  rw[lookup_cons]
  cases hb:n==k with
  |true=>exact⟨_,rfl⟩
  |false=>
   rcases Nf h with e|h
   ·cases e;simp at hb
   ·exact mem_lookup h
theorem fh{cells:List (Str×Addr)}:∀{names:List (Str×NameKind)}{acc:List (Str×Addr)}{n:Str}{c:Addr},(n,c)∈bJ cells names acc->(n,c)∈acc\/((n,.free)∈names/\c=(cells.lookup n).getD 0)
 |[],_,_,_,h=>.inl h
 |(m,k)::r,acc,n,c,h=>by
  unfold bJ at h
  split at h
  ·rename_i hk
   have hk:k=.free:=by simpa using hk
   rcases fh h with h|⟨h1,h2⟩
   ·rcases Nf h with e|h
    ·cases e;exact .inr ⟨hk▸mem_cons_self,rfl⟩
    ·exact .inl h
   ·exact .inr ⟨mem_cons_of_mem _ h1,h2⟩
  ·rcases fh h with h|⟨h1,h2⟩
   ·exact .inl h
   ·exact .inr ⟨mem_cons_of_mem _ h1,h2⟩
theorem iy{cells:List (Str×Addr)}:∀{names:List (Str×NameKind)}{acc:List (Str×Addr)}{p:Str×Addr},p∈acc->p∈bJ cells names acc
 |[],_,_,h=>h
 |(m,k)::r,acc,p,h=>by
  unfold bJ
  split
  ·exact iy (mem_cons_of_mem _ h)
  ·exact iy h
theorem iw{cells:List (Str×Addr)}:∀{names:List (Str×NameKind)}{acc:List (Str×Addr)}{n:Str},(n,.free)∈names->(n,(cells.lookup n).getD 0)∈bJ cells names acc
 |(m,k)::r,acc,n,h=>by
  unfold bJ
  rcases Nf h with e|h
  ·cases e
   exact iy mem_cons_self
  ·split
   ·exact iw h
   ·exact iw h
theorem gk:∀{names:List (Str×NameKind)}{h:Heap}{acc:List (Str×Addr)}{x:Str}{c:Addr},(x,c)∈cellsFrom h.objs.size names acc ->
  (x,c)∈acc\/((x,.cell)∈names/\h.objs.size<=c/\AQ (pushCells h names) c none)
 |[],_,_,_,_,h=>.inl h
 |(n,k)::r,h,acc,x,c,hm=>by
  unfold cellsFrom at hm
  unfold pushCells
  split at hm
  ·rename_i hk
   rw[if_pos hk]
   have hk:k=.cell:=by simpa using hk
   rw[<-size_push h { cls:=.type "cell",data:=.cell none }]at hm
   rcases gk hm with hm|⟨h1,h2,h3⟩
   ·rcases Nf hm with e|hm
    ·cases e
     exact .inr ⟨hk▸mem_cons_self,le_refl _,_,pushCells_keeps r _ _ _ (get?_push_size _ rfl),rfl⟩
    ·exact .inl hm
   ·rw[size_push]at h2
    exact .inr ⟨mem_cons_of_mem _ h1,le_of_succ_le h2,h3⟩
  ·rename_i hk
   rw[if_neg hk]
   rcases gk hm with hm|⟨h1,h2,h3⟩
   ·exact .inl hm
   ·exact .inr ⟨mem_cons_of_mem _ h1,h2,h3⟩
theorem iK:∀{names:List (Str×NameKind)}{n:Nat}{acc:List (Str×Addr)}{p:Str×Addr},p∈acc->p∈cellsFrom n names acc
 |[],_,_,_,h=>h
 |(m,k)::r,n,acc,p,h=>by
  unfold cellsFrom
  split
  ·exact iK (mem_cons_of_mem _ h)
  ·exact iK h
theorem j0:∀{names:List (Str×NameKind)}{n:Nat}{acc:List (Str×Addr)}{x:Str},(x,.cell)∈names->∃c,(x,c)∈cellsFrom n names acc
 |(m,k)::r,n,acc,x,h=>by
  unfold cellsFrom
  rcases Nf h with e|h
  ·cases e
   exact⟨n,iK mem_cons_self⟩
  ·split
   ·exact j0 h
   ·exact j0 h
theorem jZ:∀{names:List (Str×NameKind)}{h:Heap}{acc:List (Str×Addr)}{x y:Str}{c:Addr},(∀p∈acc,p.2<h.objs.size)->(∀x y c,(x,c)∈acc->(y,c)∈acc->x=y) ->
  (x,c)∈cellsFrom h.objs.size names acc->(y,c)∈cellsFrom h.objs.size names acc->x=y
 |[],_,_,_,_,_,_,hi,h1,h2=>hi _ _ _ h1 h2
 |(n,k)::r,h,acc,x,y,c,hl,hi,h1,h2=>by
  unfold cellsFrom at h1 h2
  split at h1
  ·rename_i hk
   rw[if_pos hk]at h2
   rw[<-size_push h { cls:=.type "cell",data:=.cell none }]at h1 h2
   refine jZ (h:=h.push _) (fun p hp=>?_) (fun x y c a b=>?_) h1 h2
   ·rw[size_push]
    rcases Nf hp with rfl|hp
    ·exact lt_succ_self _
    ·exact lt_succ_of_lt (hl p hp)
   ·rcases Nf a with e|a<;>rcases Nf b with e'|b
    ·cases e;cases e';rfl
    ·cases e;exact absurd (hl _ b) (lt_irrefl _)
    ·cases e';exact absurd (hl _ a) (lt_irrefl _)
    ·exact hi _ _ _ a b
  ·rename_i hk
   rw[if_neg hk]at h2
   exact jZ hl hi h1 h2
theorem rg{M:Model}{A:Around}{E:L5}{s:Shared}{scope:Scope}{globals:Addr}{closure:List (Str×Addr)}{qual:Str}{func:Option Addr}{code:Value}{around:Env}{builtins:Addr}{Q:Env->Shared->Prop}(h:Q (newEnv scope s.heap.objs.size globals (cellsFrom (s.heap.objs.size+1) scope.names closure) qual func code (some around) builtins)
   { s with heap:=pushCells (s.heap.push { cls:=.type "dict",data:=.dict #[] }) scope.names }):
  wpAny M A (newFunctionEnv scope globals closure [] qual func code (some around) builtins) Q E s:=by
 simp only[newFunctionEnv,Option.isSome_some,if_true];refine wpAny_bind (wpAny_alloc ?_);refine wpAny_bind (wpAny_layCells _ (fun n k c=>rfl) scope.names closure _ _ ?_);rw[show({ s with heap:=s.heap.push { cls:=.type "dict",data:=.dict #[] } }:Shared).heap.objs.size=s.heap.objs.size+1 from size_push ..];rw[forIn_nil];exact wpAny_bind (wpAny_pure (wpAny_pure h))
theorem hZ{sc:Scope}:∀{names:List (Str×NameKind)}{x:Str}{k:NameKind},
  (names.map fun(n,k)=>if(k==NameKind.free&&sc.kind==.function&&sc.names.lookup n==some .cell)then(n,NameKind.cell)else(n,k)).lookup x=some k ->
  ∃k',names.lookup x=some k'/\(k=k'\/(k'=.free/\k=.cell))
 |[],_,_,h=>by simp at h
 |(n,k₀)::r,x,k,h=>by
  have ih:=@hZ sc r x k
  have h':List.lookup x ((if(k₀==NameKind.free&&sc.kind==.function&&sc.names.lookup n==some .cell)=true then(n,NameKind.cell)else(n,k₀))::(r.map _))=some k:=h
  cases hx:x==n with
  |true=>
   simp only[lookup_cons,hx]
   by_cases hc:(k₀==NameKind.free&&sc.kind==.function&&sc.names.lookup n==some .cell)=true
   ·rw[if_pos hc]at h'
    simp only[lookup_cons,hx]at h'
    cases h'
    simp only[and_eq_true,beq_iff_eq]at hc
    exact⟨k₀,rfl,.inr ⟨hc.1.1,rfl⟩⟩
   ·rw[if_neg hc]at h'
    simp only[lookup_cons,hx]at h'
    cases h'
    exact⟨_,rfl,.inl rfl⟩
  |false=>
   simp only[lookup_cons,hx]
   by_cases hc:(k₀==NameKind.free&&sc.kind==.function&&sc.names.lookup n==some .cell)=true
   ·rw[if_pos hc]at h'
    simp only[lookup_cons,hx]at h'
    exact ih h'
   ·rw[if_neg hc]at h'
    simp only[lookup_cons,hx]at h'
    exact ih h'
structure sN(N:List Str)(sc scope:Scope)(own:List (Str×Nat)):Prop where
 kind:scope.kind=.function
 uniq:∀y∈scope.names,scope.names.lookup y.1=some y.2
 ix:∀p∈own,N[p.2]?=some p.1
 free:∀y∈scope.names,y.2=.free->sc.names.lookup y.1=some .cell\/sc.names.lookup y.1=some .free
 own:∀y∈scope.names,y.2=.local\/y.2=.cell->y.1∈own.map (·.1)\/y.1∉N
def wipe(σ:St):DW->St
 |[]=>σ
 |v::vs=>(wipe σ vs).set v none
theorem gY(σ:St):∀vs:DW,(wipe σ vs).length=σ.length
 |[]=>rfl
 |v::vs=>by unfold wipe;rw[length_set,gY σ vs]
theorem jJ{σ:St}{i:Nat}{x:V}:∀{vs:DW},(wipe σ vs)[i]?=some (some x)->σ[i]?=some (some x)/\i∉vs
 |[],h=>⟨h,by simp⟩
 |v::vs,h=>by
  unfold wipe at h
  by_cases hi:v=i
  ·subst hi
   by_cases hv:v<(wipe σ vs).length
   ·rw[getElem?_set_self hv]at h;cases h
   ·rw[getElem?_eq_none (by simpa using hv)]at h;cases h
  ·rw[getElem?_set_ne hi]at h
   obtain⟨h1,h2⟩:=jJ h
   exact⟨h1,by simp only[mem_cons,not_or];exact⟨fun e=>hi e.symm,h2⟩⟩
abbrev Cx.qg(X:Cx)(s:Shared)(H:Hp)(scope:Scope)(cenv:Env)(fp:List Addr):Cx:={ X with nO:=s,Ir:=H,env:=cenv,outer:=X.stack,ex:=fp,fn:=fun x=>scope.names.lookup x==some .cell,pn:=[],xe:=fun _ _=>False }
section
variable{X:Cx}{pins:LpT}{σ:St}{H:Hp}{s:Shared}
theorem sG{scope:Scope}{own:List (Str×Nat)}{fp:List Addr}(I:Inv X pins σ H s)(ok:sN X.N X.env.scope scope own)(hN:X.N.Nodup)(hfp:∀b∈fp,fJ X pins H b/\b<s.heap.objs.size):
  Inv (X.qg s H scope (compEnvC scope (cellsFrom (s.heap.objs.size+1) scope.names (bJ X.env.cells scope.names [])) s.heap.objs.size X.env) fp) [] (wipe σ (own.map (·.2))) H { s with heap:=pushCells (s.heap.push { cls:=.type "dict",data:=.dict #[] }) scope.names }:=by
 have hfree:∀y∈scope.names,y.2=.free->∃c,X.env.cells.lookup y.1=some c:=fun y hy e=>by
  rcases ok.free y hy e with k|k
  ·exact I.ok.has _ (.inl k)
  ·exact I.ok.has _ (.inr k)
 generalize hcenv:compEnvC scope (cellsFrom (s.heap.objs.size+1) scope.names (bJ X.env.cells scope.names [])) s.heap.objs.size X.env=cenv;have kp:∀b o,s.heap.get? b=some o->(pushCells (s.heap.push { cls:=.type "dict",data:=.dict #[] }) scope.names).get? b=some o:=fun b o e=>pushCells_keeps _ _ _ _ (get?_push_of_some _ e);have hL:cenv.locals=s.heap.objs.size:=by rw[<-hcenv];rfl
 have hcl:cenv.cells=cellsFrom (s.heap.objs.size+1) scope.names (bJ X.env.cells scope.names []):=by rw[<-hcenv];rfl
 have hsc:cenv.scope=Lh scope X.env.scope:=by rw[<-hcenv];rfl
 rw[<-size_push s.heap { cls:=.type "dict",data:=.dict #[] }]at hcl;have cm:∀{y c},(y,c)∈bJ X.env.cells scope.names []->X.env.cells.lookup y=some c/\c<s.heap.objs.size:=fun{y c}hm=>by
  rcases fh hm with hm|⟨h1,rfl⟩
  ·cases hm
  ·obtain⟨c,hc⟩:=hfree _ h1 rfl;rw[hc];obtain⟨w,z⟩:=I.cell _ _ hc;exact⟨rfl,z.lt⟩
 have mem:∀{y c},cenv.cells.lookup y=some c->(X.env.cells.lookup y=some c/\c<s.heap.objs.size)\/(s.heap.objs.size+1<=c/\AQ (pushCells (s.heap.push { cls:=.type "dict",data:=.dict #[] }) scope.names) c none):=fun{y c}e=>by
  rw[hcl]at e;rcases gk (PySem.mem_of_lookup e)with hm|⟨_,h2,h3⟩
  ·exact .inl (cm hm)
  ·rw[size_push]at h2;exact .inr ⟨h2,h3⟩
 have look:∀{y},scope.names.lookup y=some .free->∃c,cenv.cells.lookup y=some c/\X.env.cells.lookup y=some c:=fun{y}hl=>by
  have hy:(y,NameKind.free)∈scope.names:=PySem.mem_of_lookup hl;obtain⟨c',e'⟩:=mem_lookup (iK (names:=scope.names) (n:=(s.heap.push { cls:=.type "dict",data:=.dict #[] }).objs.size) (iw (cells:=X.env.cells) (acc:=[]) hy));rw[<-hcl]at e';refine⟨c',e',?_⟩;rw[hcl]at e';rcases gk (PySem.mem_of_lookup e')with hm|⟨h1,_,_⟩
  ·exact(cm hm).1
  ·have:=ok.uniq _ h1;rw[hl]at this;cases this
 have okB:(X.qg s H scope cenv fp).Ok:=by
  refine⟨I.ok.mod,by show cenv.scope.kind=_;rw[hsc];exact ok.kind,by show cenv.globals=_;rw[<-hcenv];exact I.ok.glob,by show cenv.builtins=_;rw[<-hcenv];exact I.ok.blt,by show s.heap.objs.size<=cenv.locals;rw[hL];exact le_refl _,
   fun y z c e1 e2=>?_,fun y hy=>?_,fun y c z e=>?_,I.ok.hd,I.ok.frames,.inl rfl,fun b hb=>⟨?_,fun y c e z=>?_⟩,I.bs,le_trans I.ok.xm I.sz,fun b o e hb=>?_,fun b hb z=>?_,I.stack,I.uM⟩
  ·have e1:cenv.cells.lookup y=some c:=e1;have e2:cenv.cells.lookup z=some c:=e2;rw[hcl]at e1 e2;refine jZ (fun p hp=>?_) (fun y z c a b=>I.ok.inj y z c (cm a).1 (cm b).1) (PySem.mem_of_lookup e1) (PySem.mem_of_lookup e2);rw[size_push];exact lt_succ_of_lt (cm (y:=p.1) (c:=p.2) hp).2
  ·show∃c,cenv.cells.lookup y=some c;have key:∀k,cenv.kindOf y=some k->(k=.cell\/k=.free)->∃c,cenv.cells.lookup y=some c:=fun k hk hk'=>by
    unfold Env.kindOf at hk;rw[hsc]at hk;obtain⟨k',e,r⟩:=hZ hk;have:k'=.cell\/k'=.free:=by
     rcases r with rfl|⟨rfl,_⟩
     ·exact hk'
     ·exact .inr rfl
    rcases this with rfl|rfl
    ·obtain⟨c,hm⟩:=j0 (n:=(s.heap.push { cls:=.type "dict",data:=.dict #[] }).objs.size) (acc:=bJ X.env.cells scope.names []) (PySem.mem_of_lookup e);obtain⟨c',e'⟩:=mem_lookup hm;exact⟨c',by rw[hcl];exact e'⟩
    ·obtain⟨c,h1,_⟩:=look e;exact⟨c,h1⟩
   rcases hy with hy|hy
   ·exact key _ hy (.inl rfl)
   ·exact key _ hy (.inr rfl)
  ·have z:(scope.names.lookup y==some NameKind.cell)=true:=z;have z:scope.names.lookup y=some .cell:=by simpa using z
   have e:cenv.cells.lookup y=some c:=e;rw[hcl]at e;rcases gk (PySem.mem_of_lookup e)with hm|⟨_,h2,_⟩
   ·rcases fh hm with hm|⟨h1,_⟩
    ·cases hm
    ·have q:=ok.uniq _ h1;rw[z]at q;cases q
   ·rw[size_push]at h2;exact le_of_succ_le h2
  ·show b≠cenv.locals;rw[hL];exact ne_of_lt (hfp b hb).2
  ·have e:cenv.cells.lookup y=some c:=e;rcases mem e with⟨h1,_⟩|⟨h1,_⟩
   ·exact(hfp b hb).1.2.2.2.2.1 y c h1 z
   ·have h2:s.heap.objs.size+1<=b:=by rw[<-z];exact h1
    exact absurd (lt_of_lt_of_le (hfp b hb).2 (le_of_succ_le h2)) (lt_irrefl _)
  ·rcases(hfp b hb).1.2.2.2.1 with z|z
   ·exact I.ok.zx b o e z
   ·exact absurd (lt_of_lt_of_le (lt_size e) (le_trans I.ok.xm z)) (lt_irrefl _)
  ·rcases Nf (I.pf b z)with z|z
   ·exact(hfp b hb).1.2.1 z
   ·exact(hfp b hb).1.2.2.1 z
 refine⟨okB,rfl,I.bare,Un.kept kp,⟨fun _=>none,?_,fun i y av e1 e2 e3=>?_⟩,fun y c e=>?_,?_,fun y c e=>?_,fun p hp=>?_,I.a8.kept kp,by rw[gY];exact I.len⟩
 ·show Ns _ cenv.locals _;rw[hL];exact Heap.Ns.keeps (Heap.Ns.new ..) fun b o e=>pushCells_keeps _ _ _ _ e
 ·obtain⟨e2,hne⟩:=jJ e2;have hfr:scope.names.lookup y=some .free/\(cenv.kindOf y=some .cell\/cenv.kindOf y=some .free):=by
   have key:∀k,cenv.scope.names.lookup y=some k->k=.local\/k=.cell\/k=.free->scope.names.lookup y=some .free/\(cenv.kindOf y=some .cell\/cenv.kindOf y=some .free):=fun k hk hk'=>by
    have hk0:=hk;rw[hsc]at hk;obtain⟨k',e,r⟩:=hZ hk;have no:¬(k'=.local\/k'=.cell):=fun hh=>by
     rcases ok.own _ (PySem.mem_of_lookup e) hh with e'|e'
     ·obtain⟨p,hp,hpy⟩:=Ng e';have e3:=ok.ix p hp;have:p.1=y:=hpy;rw[this]at e3;exact hne (List.mem_map.mpr ⟨p,hp,mH hN e3 e1⟩)
     ·exact e' (mem_of_getElem? e1)
    rcases r with rfl|⟨rfl,rfl⟩
    ·rcases hk' with rfl|rfl|rfl
     ·exact absurd (.inl rfl) no
     ·exact absurd (.inr rfl) no
     ·exact⟨e,.inr hk0⟩
    ·exact⟨e,.inl hk0⟩
   have e3:Iq cenv.scope y:=e3;rcases e3 with e3|e3|e3
   ·exact key _ e3 (.inl rfl)
   ·exact key _ e3 (.inr (.inl rfl))
   ·exact key _ e3 (.inr (.inr rfl))
  obtain⟨m,hn,hl⟩:=I.loc;have hvis:Iq X.env.scope y:=(ok.free _ (PySem.mem_of_lookup hfr.1) rfl).elim (fun k=>.inr (.inl k)) (fun k=>.inr (.inr k));obtain⟨w,r,q⟩:=hl i y av e1 e2 hvis;refine⟨w,r,.inr ⟨hfr.2,?_⟩⟩;obtain⟨c,h1,h2⟩:=look hfr.1;rcases q with⟨k,_⟩|⟨_,c',e',z⟩
  ·have k:X.env.scope.names.lookup y=some .local:=k;rcases ok.free _ (PySem.mem_of_lookup hfr.1) rfl with k'|k'<;>rw[show X.env.scope.names.lookup y=_ from k']at k<;>cases k
  ·rw[h2]at e';cases e';exact⟨c,h1,z.keeps kp⟩
 ·have e:cenv.cells.lookup y=some c:=e;rcases mem e with⟨h1,_⟩|⟨_,z⟩
  ·obtain⟨w,z⟩:=I.cell y c h1;exact⟨w,z.keeps kp⟩
  ·exact⟨_,z⟩
 ·show H cenv.locals=none;rw[hL];exact I.a8.fresh (le_refl _)
 ·have e:cenv.cells.lookup y=some c:=e;rcases mem e with⟨h1,_⟩|⟨h1,_⟩
  ·exact I.gT y c h1
  ·exact I.a8.fresh (le_of_succ_le h1)
 ·exact absurd (show p∈([]:LpT)++[] from hp) (by simp)
theorem Ie{E:L5}{D:Addr}{xs:List V}{y:V}{v:Value}{Q:L5}(I:Inv X pins σ H s)(hD:H D=some (.lst xs))(hz:xs.length<sizeLine)(r:RelV y v)(h:∀s',Inv X pins σ (upd H D (.lst (xs++[y]))) s'->Q .none s'):wpAny (model X.prog X.w) X.A (call (.builtin "list.append") [.ref D,v]) Q E s:=by
 obtain⟨hz',its,n,ri,e⟩:=I.a8 D _ hD;have hl:=ri.length;refine append_at (hsz:=by rw[size_toArray];omega) e fun h' sb ho'=>?_;refine h { s with heap:=h' } (I.write (t':=s.toks) (by rw[hD];trivial) (.inl rfl) (fun b u hb q=>(sb.2 b hb).trans q) ⟨_,ho'⟩ ⟨by rw[length_append];exact hz,its++[v],n+1,ri.append (.cons r .nil),?_⟩);rw[ho'];simp
def Ke(X:Cx)(ifs:List Expr)(t:TT):Prop:=
 ∀(pins:LpT)(s:Shared)(σ:St)(H:Hp)(Q:Bool->Hp->Prop),Inv X pins σ H s->t σ H Q ->
  wpAny (model X.prog X.w) X.A (forIn ifs true fun c r=>if r=true then do let ok <-isTrue c X.env (eval c X.env);pure (ForInStep.yield ok)else pure (ForInStep.yield r)) (TP X pins σ Q) X.xe s
def KQ:TT:=fun _ H Q=>Q true H
theorem bV:Ke X [] KQ:=fun _ _ _ H _ I h=>wpAny_tests_nil ⟨H,I,h⟩
theorem pE{c:Expr}{t:TT}(h:PT X c t):Ke X [c] t:=fun pins s σ H Q I hw=>wpAny_tests_one (h pins s σ H Q I hw)
end
theorem wm{α:Type}{t:Sem α}{Q Q':α->Shared->Prop}{M:Model}{A:Around}{E:L5}{s:Shared}(h:wpAny M A t Q (fun _ _=>False) s)(hQ:∀a s,Q a s->Q' a s):wpAny M A t Q' E s:=wpAny_mono h hQ fun _ _ z=>False.elim z
theorem qd{prog:Program}{w:World}{A:Around}{R:Result->Shared->Prop}{s:Shared}{elt target iter:Expr}{ifs:List Expr}{scope:Scope}{pos:Pos}{it acc:Value}{env:Env}(I:Nat->Shared->Prop)(turn:∀n s,I n s->wpAny (model prog w) A (pyNext it) (fun r s₁=>match r with
   |none=>R (.ok .next) s₁
   |some v=>wpAny (model prog w) A (letOwnedTupleGo target it v) (fun _ s₁'=>wpAny (model prog w) A (assign target env v) (fun _ s₂=>
     wpAny (model prog w) A (forIn ifs true fun c r=>if r=true then do let ok <-isTrue c env (eval c env);pure (ForInStep.yield ok)else pure (ForInStep.yield r)) (fun ok s₃=>
      if ok=true then wpAny (model prog w) A (eval elt env) (fun x s₄=>
       wpAny (model prog w) A (call (.builtin "list.append") [acc,x]) (fun _ s₅=>∃m,m<n/\I m s₅) (notedBy (model prog w) A env fun e s'=>R (.error e) s') s₄) (notedBy (model prog w) A env fun e s'=>R (.error e) s') s₃
      else∃m,m<n/\I m s₃) (notedBy (model prog w) A env fun e s'=>R (.error e) s') s₂) (notedBy (model prog w) A env fun e s'=>R (.error e) s') s₁') (notedBy (model prog w) A env fun e s'=>R (.error e) s') s₁) (notedBy (model prog w) A env fun e s'=>R (.error e) s') s)(n:Nat)(h:I n s):
  codeAny (model prog w) A (.compLoop (.ListComp elt [⟨target,iter,ifs,0⟩] scope pos) 0 it acc env) R s:=by
 refine codeAny_loop rfl I (fun n s hI=>?_) n h
 show wpAny _ A ((compTurn (.ListComp elt [⟨target,iter,ifs,0⟩] scope pos) 0 it acc env).onRaise (fun x=>do noteFrame x env;theTreesLotGoes x)) _ _ s
 refine wpAny_noted ?_
 rw[compTurn_list]
 refine wpAny_bind (wpAny_standAt (wpAny_bind (wpAny_mono (turn n s hI) (fun r s₁ h₁=>?_) fun _ _ h'=>h')))
 cases r with
 |none=>exact wpAny_pure h₁
 |some v=>
  refine wpAny_bind (wpAny_mono h₁ (fun _ s₁' h₁'=>?_) fun _ _ h'=>h')
  refine wpAny_bind (wpAny_mono h₁' (fun _ s₂ h₂=>wpAny_bind (wpAny_mono h₂ (fun ok s₃ h₃=>?_) fun _ _ h'=>h')) fun _ _ h'=>h')
  cases ok with
  |false=>exact wpAny_pure ⟨rfl,h₃⟩
  |true=>
   exact wpAny_bind (wpAny_bind (wpAny_mono h₃ (fun x s₄ h₄=>wpAny_bind (wpAny_mono h₄ (fun _ s₅ h₅=>wpAny_pure (wpAny_pure ⟨rfl,h₅⟩)) fun _ _ h'=>h')) fun _ _ h'=>h'))
section
variable{X:Cx}
def Kr(wi:TI)(g:TG)(tt:TT)(te:TE)(vs:DW):TE:=fun σ H Q=>wi σ H fun J H1=>∀D,H1 D=none->∃W:Nat->Nat->Hp->Prop,(∃m,W 0 m (upd H1 D (.lst [])))/\∀i m H,W i m H ->
 (J.stop i H/\Q (.ref D) H)\/(J.go i H/\∃Nx:Hp->Prop,(∀H',Nx H'->∃m',m'<m/\W (i+1) m' H')/\∀x H',J.vY i H x H'->g x (wipe σ vs) H' fun σ2 H2=>wipe σ2 vs=wipe σ vs/\tt σ2 H2 fun b H3=>
  if b=true then te σ2 H3 fun y H4=>∃acc,H4 D=some (.lst acc)/\acc.length<sizeLine/\Nx (upd H4 D (.lst (acc++[y])))else Nx H3)
theorem vp{pins:LpT}{s:Shared}{σ:St}{H:Hp}{Q:VK}{elt tg iter:Expr}{ifs:List Expr}{scope:Scope}{own:List (Str×Nat)}{pos pos':Pos}{wi:TI}{g:TG}{tt:TT}{te:TE}{use:Option (Value->Sem Unit)}{Qf:L5}(hc:X.calm=true)(hN:X.N.Nodup)(I:Inv X pins σ H s)(hi:PI X tg iter wi)(ok:sN X.N X.env.scope scope own)(hg:∀(s:Shared)(H:Hp)(C:Addr)(cl:List (Str×Addr))(fp:List Addr),PG (X.qg s H scope (compEnvC scope cl C X.env) fp) tg g)(ht:∀(s:Shared)(H:Hp)(C:Addr)(cl:List (Str×Addr))(fp:List Addr),Ke (X.qg s H scope (compEnvC scope cl C X.env) fp) ifs tt)(he:∀(s:Shared)(H:Hp)(C:Addr)(cl:List (Str×Addr))(fp:List Addr),PE (X.qg s H scope (compEnvC scope cl C X.env) fp) elt te)(hs:∀x,foldedSetIterable iter X.env x=pure x)(h:Kr wi g tt te (own.map (·.2)) σ H Q)(hRR:∀D C s' m H',Inv X pins σ H' s'->Q (.ref D) H'->s'.heap.Ns C m->fJ X pins H' C->compPost (model X.prog X.w) X.A X.xe use Qf (.ref D) C (.ok .next) s'):
  wpAny (model X.prog X.w) X.A (comprehension (.ListComp elt [⟨tg,iter,ifs,0⟩] scope pos) scope X.env pos' (newList []) false (eval iter X.env) use) Qf X.xe s:=by
 have hfree:∀y∈scope.names,y.2=.free->∃c,X.env.cells.lookup y.1=some c:=fun y hy e=>by
  rcases ok.free y hy e with k|k
  ·exact I.ok.has _ (.inl k)
  ·exact I.ok.has _ (.inr k)
 refine wpAny_comprehension_free (use:=use) rfl hs (ux hfree) ok.kind (fun y hy e=>by rw[ok.uniq y hy,e])
  (bK (hi pins s σ H _ I h) fun xv s1 hx=>bK hx fun itv s2 h2=>?_)
 obtain⟨it,fp,tn,J,H2,e,I2,T,st2,f2,q⟩:=h2;subst e;refine wpAny_newObj_type (rg ?_) (by show 0<=sizeLine;decide);generalize hD:s2.heap.objs.size=D;have hDn:H2 D=none:=I2.a8.fresh (le_of_eq hD);obtain⟨W,⟨m0,w0⟩,turn⟩:=q D hDn;generalize hs3:({ s2 with heap:=s2.heap.push { cls:=.type "list",data:=.seq ([]:List Value).toArray } }:Shared)=s3;have I3:Inv X pins σ (upd H2 D (.lst [])) s3:=by
  rw[<-hs3];refine I2.laid (t':=s2.toks) (fun b o e=>get?_push_of_some _ e) (le_of_eq hD) ⟨zero_le _,[],0,.nil,?_⟩;rw[<-hD];exact get?_push_size _ rfl
 have h3:s3.heap=s2.heap.push { cls:=.type "list",data:=.seq ([]:List Value).toArray }:=by rw[<-hs3]
 have sz:∀b∈fp,b<s2.heap.objs.size:=fun b hb=>by
  obtain⟨o,e,_⟩:=T.obj _ _ st2 b hb;exact lt_size e
 have f3:∀b∈fp,fJ X pins (upd H2 D (.lst [])) b/\b<s3.heap.objs.size:=fun b hb=>by
  have hlt:=sz b hb;refine⟨⟨?_,(f2 b hb).2⟩,by rw[h3,size_push];exact lt_succ_of_lt hlt⟩;rw[ao (by rw[<-hD];exact ne_of_lt hlt)];exact(f2 b hb).1
 have st3:tn 0 s3.heap:=T.keep _ _ _ st2 fun b _ o e=>by rw[h3];exact get?_push_of_some _ e
 have I4:=sG I3 ok hN f3;have pg:=hg s3 (upd H2 D (.lst [])) s3.heap.objs.size (cellsFrom (s3.heap.objs.size+1) scope.names (bJ X.env.cells scope.names [])) fp;have pt:=ht s3 (upd H2 D (.lst [])) s3.heap.objs.size (cellsFrom (s3.heap.objs.size+1) scope.names (bJ X.env.cells scope.names [])) fp;have pe:=he s3 (upd H2 D (.lst [])) s3.heap.objs.size (cellsFrom (s3.heap.objs.size+1) scope.names (bJ X.env.cells scope.names [])) fp;show codeAny _ _ (.compStart (.ListComp elt [⟨tg,iter,ifs,0⟩] scope pos) 0 (.ref it) (.ref D) (compEnvC scope (cellsFrom (s3.heap.objs.size+1) scope.names (bJ X.env.cells scope.names [])) s3.heap.objs.size X.env)) (compPost (model X.prog X.w) X.A X.xe use Qf (.ref D) s3.heap.objs.size) { s3 with heap:=pushCells (s3.heap.push { cls:=.type "dict",data:=.dict #[] }) scope.names };have nfp:∀b∈fp,(upd H2 D (.lst [])) b=none:=fun b hb=>(f3 b hb).1.1;generalize hce:compEnvC scope (cellsFrom (s3.heap.objs.size+1) scope.names (bJ X.env.cells scope.names [])) s3.heap.objs.size X.env=ce at I4 pg pt pe ⊢;have cL:ce.locals=s3.heap.objs.size:=by subst hce;rfl
 generalize hH3:upd H2 D (.lst [])=H3 at I3 I4 pg pt pe w0 nfp f3;generalize hs4:({ s3 with heap:=pushCells (s3.heap.push { cls:=.type "dict",data:=.dict #[] }) scope.names }:Shared)=s4 at I4 ⊢;have st4:tn 0 s4.heap:=T.keep _ _ _ st3 fun b _ o e=>by rw[<-hs4];exact pushCells_keeps _ _ _ _ (get?_push_of_some _ e)
 have stat:∀{σ':St}{H':Hp}{s':Shared},Inv (X.qg s3 H3 scope ce fp) [] σ' H' s'->(∀b∈fp,H' b=none)->∀b∈fp,fJ (X.qg s3 H3 scope ce fp) [] H' b:=fun{σ' H' s'}I' hn b hb=>
  ⟨hn b hb,(I'.ok.KG b hb).1,I'.ok.Ar b hb,.inl hb,fun x c e=>(I'.ok.KG b hb).2 x c e,fun p hp=>absurd (show p∈([]:LpT)++[] from hp) (by simp)⟩
 have loop:codeAny (model X.prog X.w) X.A (.compLoop (.ListComp elt [⟨tg,iter,ifs,0⟩] scope pos) 0 (.ref it) (.ref D) ce) (compPost (model X.prog X.w) X.A X.xe use Qf (.ref D) s3.heap.objs.size) s4:=by
  refine qd (fun n s'=>∃i H',Inv (X.qg s3 H3 scope ce fp) [] (wipe σ (own.map (·.2))) H' s'/\tn i s'.heap/\(∀b∈fp,H' b=none)/\W i n H') ?_ m0 ⟨0,H3,I4,st4,nfp,w0⟩;rintro n s5 ⟨i,H5,I5,st5,n5,w5⟩;rcases turn i n H5 w5 with⟨stop,qq⟩|⟨go,Nx,hNx,step⟩
  ·have td:=T.done (X.qg s3 H3 scope ce fp) rfl rfl rfl hc i [] s5 _ H5 (fun _ _=>False) I5 (stat I5 n5) st5 stop;refine wm td fun r s6⟨hr,I6⟩=>?_;subst hr;have I7:Inv X pins σ H5 s6:=I3.J8 (ch:=fp) I6.os I6.base I6.a8 I6.bare fun b hb=>⟨(f3 b hb).1.2.2.2.1,(f3 b hb).1.2.1,(f3 b hb).1.2.2.2.2.1,(f3 b hb).1.2.2.2.2.2⟩;have nC:H5 s3.heap.objs.size=none:=by
    have z:H5 ce.locals=none:=I6.free;rw[cL]at z;exact z
   obtain⟨m,hn,_⟩:=I6.loc;have hn:s6.heap.Ns ce.locals m:=hn;rw[cL]at hn;exact hRR D s3.heap.objs.size s6 m H5 I7 qq hn (I3.nY (le_refl _) nC)
  ·have ti:=T.item (X.qg s3 H3 scope ce fp) rfl rfl rfl hc i [] s5 _ H5 (fun _ _=>False) I5 (stat I5 n5) st5 go;refine wm ti fun r s6⟨u,hr,h6⟩=>?_;subst hr;refine wm h6 fun _ s7⟨x,H7,I7,r7,y7,st7,n7⟩=>?_;have I7':=I7.pinned (stat I7 n7) (T.obj _ _ st7);refine wm (pg _ s7 _ H7 x u _ I7' r7 (step x H7 y7)) fun _ s8⟨σ8,H8,I8,hw8,q8⟩=>?_;refine wm (pt _ s8 σ8 H8 _ I8 q8) fun b s9⟨H9,I9,q9⟩=>?_;have fin:∀{s':Shared}{H':Hp},Inv (X.qg s3 H3 scope ce fp) ([]++iW fp s7.heap) σ8 H' s'->Nx H'->∃m,m<n/\∃i H',Inv (X.qg s3 H3 scope ce fp) [] (wipe σ (own.map (·.2))) H' s'/\tn i s'.heap/\(∀b∈fp,H' b=none)/\W i m H':=fun{s' H'}I' nx=>by
    obtain⟨m',hm,w'⟩:=hNx H' nx;have pin':∀b∈fp,∀o,s7.heap.get? b=some o->s'.heap.get? b=some o/\H' b=none:=fun b hb o e=>
     let z:=I'.pin (b,o) (mem_append_right _ (mem_append_right _ (dh hb e)))
     ⟨z.1,z.2.1⟩
    have hl:(wipe σ (own.map (·.2))).length=σ8.length:=by rw[<-hw8,gY]
    refine⟨m',hm,i+1,H',(I'.fO (pins:=[])).weak hl (fun j v e=>?_),T.keep _ _ _ st7 fun b hb o e=>(pin' b hb o e).1,fun b hb=>?_,w'⟩
    ·rw[<-hw8]at e;exact(jJ e).1
    ·obtain⟨o,e,_⟩:=T.obj _ _ st7 b hb;exact(pin' b hb o e).2
   cases b with
   |false=>
    simp only[Bool.false_eq_true,if_false]at q9 ⊢;exact fin I9 q9
   |true=>
    simp only[if_true]at q9 ⊢;refine wm (pe _ s9 σ8 H9 _ I9 q9) fun z s10⟨yv,H10,I10,r10,acc,hD10,hz10,nx⟩=>?_;exact Ie (X:=X.qg s3 H3 scope ce fp) I10 hD10 hz10 r10 fun s11 I11=>fin I11 nx
 exact codeAny_compStart_list loop (T.self X.A 0 _ _ _ st4 loop)
theorem dm{elt tg iter:Expr}{ifs:List Expr}{scope:Scope}{own:List (Str×Nat)}{pos:Pos}{wi:TI}{g:TG}{tt:TT}{te:TE}(hc:X.calm=true)(hN:X.N.Nodup)(hi:PI X tg iter wi)(ok:sN X.N X.env.scope scope own)(hg:∀(s:Shared)(H:Hp)(C:Addr)(cl:List (Str×Addr))(fp:List Addr),PG (X.qg s H scope (compEnvC scope cl C X.env) fp) tg g)(ht:∀(s:Shared)(H:Hp)(C:Addr)(cl:List (Str×Addr))(fp:List Addr),Ke (X.qg s H scope (compEnvC scope cl C X.env) fp) ifs tt)(he:∀(s:Shared)(H:Hp)(C:Addr)(cl:List (Str×Addr))(fp:List Addr),PE (X.qg s H scope (compEnvC scope cl C X.env) fp) elt te)(hs:∀x,foldedSetIterable iter X.env x=pure x:=by intro _;rfl):
  PE X (.ListComp elt [⟨tg,iter,ifs,0⟩] scope pos) (Kr wi g tt te (own.map (·.2))):=by
 intro pins s σ H Q I h;rw[eval_ListComp];refine vp hc hN I hi ok hg ht he hs h fun D C s' m H' I' q hn f=>⟨m,hn,fun h'' sb=>?_⟩;obtain⟨f0,f1,f2,f3,f4,f5⟩:=f;exact⟨.ref D,H',I'.turned (t':=s'.toks) (fun b o hb e=>(sb.2 b hb).trans e) f0 f1 f3 f4 f5,rfl,q⟩
theorem qN{i:Nat}{y:Str}{py:Pos}{elt tg iter:Expr}{ifs:List Expr}{scope:Scope}{own:List (Str×Nat)}{pos spos:Pos}{wi:TI}{g:TG}{tt:TT}{te:TE}(hc:X.calm=true)(hN:X.N.Nodup)(hy:X.N[i]?=some y)(hyl:X.env.scope.names.lookup y=some .local)(hsw:swapsWith (.ListComp elt [⟨tg,iter,ifs,0⟩] scope pos) (some (.Name y py)) spos.line X.env=pure true)(hi:PI X tg iter wi)(ok:sN X.N X.env.scope scope own)(hg:∀(s:Shared)(H:Hp)(C:Addr)(cl:List (Str×Addr))(fp:List Addr),PG (X.qg s H scope (compEnvC scope cl C X.env) fp) tg g)(ht:∀(s:Shared)(H:Hp)(C:Addr)(cl:List (Str×Addr))(fp:List Addr),Ke (X.qg s H scope (compEnvC scope cl C X.env) fp) ifs tt)(he:∀(s:Shared)(H:Hp)(C:Addr)(cl:List (Str×Addr))(fp:List Addr),PE (X.qg s H scope (compEnvC scope cl C X.env) fp) elt te)(hs:∀x,foldedSetIterable iter X.env x=pure x:=by intro _;rfl):
  PS X (.Assign [.Name y py] (.ListComp elt [⟨tg,iter,ifs,0⟩] scope pos) spos) (El (Kr wi g tt te (own.map (·.2))) (vE i)):=by
 intro pins s σ H D I h;rw[exec_Assign_Name_used _ _ _ _ hsw];refine wpAny_bind (wpAny_standAt (wpAny_bind ?_));show wpAny _ X.A (do let _ <-comprehension (.ListComp elt [⟨tg,iter,ifs,0⟩] scope pos) scope X.env (firstIterPos [⟨tg,iter,ifs,0⟩] pos) (newList []) false (eval iter X.env) (some (assign (.Name y py) X.env))) _ _ s;have h:Kr wi g tt te (own.map (·.2)) σ H (fun x H1=>vE i x σ H1 D.nx):=h;refine wpAny_bind (bK (vp (Qf:=fun _ s'=>SP X pins D .next s') hc hN I hi ok hg ht he hs h fun L C s' m H' I' q hn f=>?_) fun _ s' hq=>wpAny_pure (wpAny_pure hq));show wpAny _ _ (assign (.Name y py) X.env (.ref L)) _ _ _;refine wpAny_assign_Name (ox (v:=V.ref L) I' hN hy (.inl hyl) rfl (fun s2 I2⟨a,sb,ha⟩=>?_) (.inr hyl));obtain⟨f0,f1,f2,f3,f4,f5⟩:=f;have haC:C≠a:=by
  rcases ha with z|z
  ·rw[z];exact f1
  ·exact fun e=>f4 y a z e.symm
 refine⟨m,hn.sameBut sb haC,fun h3 sb3=>?_⟩;exact⟨_,H',I2.turned (t':=s2.toks) (fun b o hb e=>(sb3.2 b hb).trans e) f0 f1 f3 f4 f5,q⟩
theorem A7{elt:Expr}{gs:List Comprehension}{scope:Scope}{pos py:Pos}{y:Str}{l:Nat}{env:Env}(hk:env.scope.kind=.function)(hy:env.scope.names.lookup y=some .local)(hl:(py.line==pos.line)=true)(ha:(scope.names.any fun(n,k)=>n==y&&(k==.local||k==.cell))=false):swapsWith (.ListComp elt gs scope pos) (some (.Name y py)) l env=pure true:=by
 have ky:env.kindOf y=some .local:=hy;have hb:env.blockKind=.function:=by unfold Env.blockKind;rw[hk];rfl
 unfold swapsWith;simp only[hb,ky,ha,Expr.pos,hl];rfl
end
theorem dG{lo:Int}{n:Nat}{g:TG}{tt:TT}{te:TE}{vs:DW}{σ:St}{H1:Hp}{D:Addr}{Qd:Hp->Prop}(Pv:Nat->Hp->Prop)(h0:Pv 0 (upd H1 D (.lst [])))(hs:∀i H,i<n->Pv i H->g (.int (lo+i)) (wipe σ vs) H fun σ2 H2=>wipe σ2 vs=wipe σ vs/\tt σ2 H2 fun b H3=>
   if b=true then te σ2 H3 fun y H4=>∃acc,H4 D=some (.lst acc)/\acc.length<sizeLine/\Pv (i+1) (upd H4 D (.lst (acc++[y])))else Pv (i+1) H3)(hd:∀H,Pv n H->Qd H):
  ∃W:Nat->Nat->Hp->Prop,(∃m,W 0 m (upd H1 D (.lst [])))/\∀i m H,W i m H ->
   ((AV lo n).stop i H/\Qd H)\/((AV lo n).go i H/\∃Nx:Hp->Prop,(∀H',Nx H'->∃m',m'<m/\W (i+1) m' H')/\∀x H',(AV lo n).vY i H x H'->g x (wipe σ vs) H' fun σ2 H2=>wipe σ2 vs=wipe σ vs/\tt σ2 H2 fun b H3=>
    if b=true then te σ2 H3 fun y H4=>∃acc,H4 D=some (.lst acc)/\acc.length<sizeLine/\Nx (upd H4 D (.lst (acc++[y])))else Nx H3):=by
 refine⟨fun i m H=>m=n-i/\i<=n/\Pv i H,⟨n,by simp,zero_le _,h0⟩,?_⟩
 rintro i m H ⟨rfl,hi,p⟩
 by_cases hlt:i<n
 ·refine .inr ⟨hlt,Pv (i+1),fun H' p'=>⟨n-(i+1),by omega,rfl,hlt,p'⟩,fun x H' y=>?_⟩
  obtain⟨e,y⟩:=y
  subst e y
  exact hs i _ hlt p
 ·have e:i=n:=by omega
  subst e
  exact .inl ⟨le_refl _,hd H p⟩
theorem dH{K:Frag}{a:Addr}{xs:List V}{g:TG}{tt:TT}{te:TE}{vs:DW}{σ:St}{H1:Hp}{D:Addr}{Qd:Hp->Prop}(Pv:Nat->Hp->Prop)(h0:Pv 0 (upd H1 D (.lst [])))(hl:∀i H,i<=xs.length->Pv i H->aH K H a xs)(hs:∀i x H,xs[i]?=some x->Pv i H->g x (wipe σ vs) H fun σ2 H2=>wipe σ2 vs=wipe σ vs/\tt σ2 H2 fun b H3=>
   if b=true then te σ2 H3 fun y H4=>∃acc,H4 D=some (.lst acc)/\acc.length<sizeLine/\Pv (i+1) (upd H4 D (.lst (acc++[y])))else Pv (i+1) H3)(hd:∀H,Pv xs.length H->Qd H):
  ∃W:Nat->Nat->Hp->Prop,(∃m,W 0 m (upd H1 D (.lst [])))/\∀i m H,W i m H ->
   ((DY K a).stop i H/\Qd H)\/((DY K a).go i H/\∃Nx:Hp->Prop,(∀H',Nx H'->∃m',m'<m/\W (i+1) m' H')/\∀x H',(DY K a).vY i H x H'->g x (wipe σ vs) H' fun σ2 H2=>wipe σ2 vs=wipe σ vs/\tt σ2 H2 fun b H3=>
    if b=true then te σ2 H3 fun y H4=>∃acc,H4 D=some (.lst acc)/\acc.length<sizeLine/\Nx (upd H4 D (.lst (acc++[y])))else Nx H3):=by
 refine⟨fun i m H=>m=xs.length-i/\i<=xs.length/\Pv i H,⟨xs.length,by simp,zero_le _,h0⟩,?_⟩
 rintro i m H ⟨rfl,hi,p⟩
 have q:=hl i H hi p
 by_cases hlt:i<xs.length
 ·refine .inr ⟨⟨xs,xs[i],q,by simp[hlt]⟩,Pv (i+1),fun H' p'=>⟨xs.length-(i+1),by omega,rfl,hlt,p'⟩,fun x H' y=>?_⟩
  obtain⟨e,y⟩:=y
  subst e
  exact hs i x _ (y xs q) p
 ·have e:i=xs.length:=by omega
  subst e
  exact .inl ⟨⟨xs,q,le_refl _⟩,hd H p⟩
theorem HD{K:Frag}{a:Addr}{xs:List V}{g:TG}{tt:TT}{te:TE}{vs:DW}{σ:St}{H1:Hp}{D:Addr}{Qd:Hp->Prop}(Pv:Nat->Hp->Prop)(h0:Pv 0 (upd H1 D (.lst [])))(hl:∀i H,i<=xs.length->Pv i H->gr K H a xs)(hs:∀i x H,xs[i]?=some x->Pv i H->g x (wipe σ vs) H fun σ2 H2=>wipe σ2 vs=wipe σ vs/\tt σ2 H2 fun b H3=>
   if b=true then te σ2 H3 fun y H4=>∃acc,H4 D=some (.lst acc)/\acc.length<sizeLine/\Pv (i+1) (upd H4 D (.lst (acc++[y])))else Pv (i+1) H3)(hd:∀H,Pv xs.length H->Qd H):
  ∃W:Nat->Nat->Hp->Prop,(∃m,W 0 m (upd H1 D (.lst [])))/\∀i m H,W i m H ->
   ((Kj K a).stop i H/\Qd H)\/((Kj K a).go i H/\∃Nx:Hp->Prop,(∀H',Nx H'->∃m',m'<m/\W (i+1) m' H')/\∀x H',(Kj K a).vY i H x H'->g x (wipe σ vs) H' fun σ2 H2=>wipe σ2 vs=wipe σ vs/\tt σ2 H2 fun b H3=>
    if b=true then te σ2 H3 fun y H4=>∃acc,H4 D=some (.lst acc)/\acc.length<sizeLine/\Nx (upd H4 D (.lst (acc++[y])))else Nx H3):=by
 refine⟨fun i m H=>m=xs.length-i/\i<=xs.length/\Pv i H,⟨xs.length,by simp,zero_le _,h0⟩,?_⟩
 rintro i m H ⟨rfl,hi,p⟩
 have q:=hl i H hi p
 by_cases hlt:i<xs.length
 ·refine .inr ⟨⟨xs,xs[i],q,by simp[hlt]⟩,Pv (i+1),fun H' p'=>⟨xs.length-(i+1),by omega,rfl,hlt,p'⟩,fun x H' y=>?_⟩
  obtain⟨e,y⟩:=y
  subst e
  exact hs i x _ (y xs q) p
 ·have e:i=xs.length:=by omega
  subst e
  exact .inl ⟨⟨xs,q,le_refl _⟩,hd H p⟩
def J9(N:List Str)(sc scope:Scope)(own:List (Str×Nat)):Bool:=
 (match scope.kind with|.function=>true|_=>false)&&(scope.names.all fun y=>decide (scope.names.lookup y.1=some y.2))&&(own.all fun p=>decide (N[p.2]?=some p.1)) &&
  (scope.names.all fun y=>match y.2 with
   |.free=>(match sc.names.lookup y.1 with|some .cell=>true|some .free=>true|_=>false)
   |.local=>decide (y.1∈own.map (·.1))||decide (y.1∉N)
   |.cell=>decide (y.1∈own.map (·.1))||decide (y.1∉N)
   |_=>true)
theorem bf{N:List Str}{sc scope:Scope}{own:List (Str×Nat)}(h:J9 N sc scope own=true):sN N sc scope own:=by
 unfold J9 at h;simp only[and_eq_true,all_eq_true,decide_eq_true_eq]at h;obtain⟨⟨⟨h1,h2⟩,h3⟩,h4⟩:=h;refine⟨?_,h2,h3,fun y hy e=>?_,fun y hy e=>?_⟩
 ·split at h1
  ·assumption
  ·cases h1
 ·have q:=h4 y hy;simp only[e]at q;split at q<;>first|exact .inl (by assumption)|exact .inr (by assumption)|cases q
 ·have q:=h4 y hy;rcases e with e|e<;>(simp only[e,or_eq_true,decide_eq_true_eq]at q;exact q)
section
variable{κ:Type}[DecidableEq κ]
def fA(kvs:List (κ×V))(k:κ):Option V:=(kvs.find? fun kv=>decide (kv.1=k)).map (·.2)
def putK(kvs:List (κ×V))(k:κ)(v:V):List (κ×V):=
 if(kvs.any fun kv=>decide (kv.1=k))=true then kvs.map (fun kv=>if kv.1=k then(kv.1,v)else kv)else kvs++[(k,v)]
theorem g0{p:κ×V}{r:List (κ×V)}{k:κ}(e:p.1=k):fA (p::r) k=some p.2:=by simp[fA,find?_cons,e]
theorem fN{p:κ×V}{r:List (κ×V)}{k:κ}(e:¬p.1=k):fA (p::r) k=fA r k:=by simp[fA,find?_cons,e]
theorem lL(k:κ):∀kvs:List (κ×V),(kvs.any fun kv=>decide (kv.1=k))=(fA kvs k).isSome
 |[]=>rfl
 |p::r=>by
  rw[any_cons]
  by_cases e:p.1=k
  ·simp only[g0 e,decide_eq_true e,Bool.true_or,Option.isSome_some]
  ·rw[fN e,decide_eq_false e,Bool.false_or];exact lL k r
theorem ie(kvs:List (κ×V))(k:κ)(v:V):(putK kvs k v).length<=kvs.length+1:=by
 unfold putK;split
 ·rw[length_map];omega
 ·rw[length_append,length_cons,length_nil];omega
theorem qM{kvs:List (κ×V)}{k:κ}(v:V)(h:fA kvs k=none):putK kvs k v=kvs++[(k,v)]:=by
 unfold putK;rw[lL,h];exact if_neg (by decide)
theorem iM.jU{o:Option V}{u:Option Value}(r:iM o u):o.isSome=u.isSome:=by
 cases o with
 |none=>cases u with
  |none=>rfl
  |some _=>exact(show False from r).elim
 |some _=>cases u with
  |none=>exact(show False from r).elim
  |some _=>rfl
theorem KV.val{kvs:List (κ×V)}{vs:List (κ×Value)}(r:KV kvs vs)(k:κ):iM (fA kvs k) (valueAt vs k):=by
 unfold KV at r
 induction r with
 |nil=>exact True.intro
 |@cons p q ps qs h t ih=>
  obtain⟨h1,h2⟩:=h;by_cases e:p.1=k
  ·have e':q.1=k:=h1.symm.trans e;have b:valueAt (q::qs) k=some q.2:=by simp[valueAt,find?_cons,e']
   rw[g0 e,b];exact h2
  ·have e':¬q.1=k:=fun z=>e (h1.trans z);have b:valueAt (q::qs) k=valueAt qs k:=by simp[valueAt,find?_cons,e']
   rw[fN e,b];exact ih
theorem KV.any{kvs:List (κ×V)}{vs:List (κ×Value)}(r:KV kvs vs)(k:κ):(kvs.any fun kv=>decide (kv.1=k))=vs.any fun kv=>decide (kv.1=k):=by
 unfold KV at r
 induction r with
 |nil=>rfl
 |cons h t ih=>rw[any_cons,any_cons,ih,h.1]
theorem KV.Fw{kvs:List (κ×V)}{vs:List (κ×Value)}(r:KV kvs vs)(k:κ){y:V}{u:Value}(ry:RelV y u):
  KV (kvs.map fun kv=>if kv.1=k then(kv.1,y)else kv) (vs.map fun kv=>if kv.1=k then(kv.1,u)else kv):=by
 unfold KV at r ⊢
 induction r with
 |nil=>exact .nil
 |@cons p q ps qs h t ih=>
  rw[map_cons,map_cons];refine .cons ?_ ih;obtain⟨h1,h2⟩:=h;by_cases e:p.1=k
  ·rw[if_pos e,if_pos (h1.symm.trans e)];exact⟨h1,ry⟩
  ·rw[if_neg e,if_neg (fun z=>e (h1.trans z))];exact⟨h1,h2⟩
theorem KV.put{kvs:List (κ×V)}{vs:List (κ×Value)}(r:KV kvs vs)(k:κ){y:V}{u:Value}(ry:RelV y u):KV (putK kvs k y) (stored vs k u):=by
 unfold putK stored;rw[r.any k];by_cases e:(vs.any fun kv=>decide (kv.1=k))=true
 ·rw[if_pos e,if_pos e];exact r.Fw k ry
 ·rw[if_neg e,if_neg e];exact Paired.snoc r ⟨rfl,ry⟩
theorem KV.length{kvs:List (κ×V)}{vs:List (κ×Value)}(r:KV kvs vs):kvs.length=vs.length:=Paired.length r
end
theorem rP{P:Program}{w:World}{k:Key}{u:Value}(r:RelV (kV k) u):(cz P w).is k u=true:=by
 cases k with
 |inl i=>obtain⟨t,e⟩:=(show∃t,u=Value.int i t from r);subst e;exact rD P w i t
 |inr x=>obtain⟨t,e⟩:=(show∃t,u=Value.str x t from r);subst e;exact rC P w x t
theorem oN{P:Program}{w:World}:∀{ks:List Key}{us:List Value},Vals (ks.map kV) us->ItemsAre (cz P w) ks us
 |[],_,r=>by rw[map_nil]at r;cases r;exact .nil
 |k::ks,_,r=>by
  rw[map_cons]at r
  cases r with
  |cons h t=>exact .cons (rP h) (oN t)
abbrev KT(H:Hp):List (List Key×V)->List (List Key×Addr×Value)->Prop:=Paired fun p q=>p.1=q.1/\H q.2.1=some (.tup (p.1.map kV))/\RelV p.2 q.2.2
theorem KT.val{H:Hp}{kvs:List (List Key×V)}{xs:List (List Key×Addr×Value)}(r:KT H kvs xs)(k:List Key):iM (fA kvs k) ((atKey xs k).map (·.2)):=by
 induction r with
 |nil=>exact True.intro
 |@cons p q ps qs h t ih=>
  obtain⟨h1,_,h2⟩:=h;by_cases e:p.1=k
  ·have e':q.1=k:=h1.symm.trans e;have b:atKey (q::qs) k=some q.2:=by simp[atKey,find?_cons,e']
   rw[g0 e,b];exact h2
  ·have e':¬q.1=k:=fun z=>e (h1.trans z);have b:atKey (q::qs) k=atKey qs k:=by simp[atKey,find?_cons,e']
   rw[fN e,b];exact ih
theorem KT.Fw{H:Hp}{kvs:List (List Key×V)}{xs:List (List Key×Addr×Value)}(r:KT H kvs xs)(k:List Key){y:V}{u:Value}(ry:RelV y u):
  KT H (kvs.map fun kv=>if kv.1=k then(kv.1,y)else kv) (xs.map (putAt k u)):=by
 induction r with
 |nil=>exact .nil
 |@cons p q ps qs h t ih=>
  rw[map_cons,map_cons];refine .cons ?_ ih;obtain⟨h1,h2,h3⟩:=h;unfold putAt;by_cases e:p.1=k
  ·rw[if_pos e,if_pos (h1.symm.trans e)];exact⟨h1,h2,ry⟩
  ·rw[if_neg e,if_neg (fun z=>e (h1.trans z))];exact⟨h1,h2,h3⟩
theorem KT.put{H:Hp}{kvs:List (List Key×V)}{xs:List (List Key×Addr×Value)}(r:KT H kvs xs)(k:List Key){b:Addr}{y:V}{u:Value}(hb:H b=some (.tup (k.map kV)))(ry:RelV y u):
  KT H (putK kvs k y) (storedH xs k b u):=by
 have e:(kvs.any fun kv=>decide (kv.1=k))=(atKey xs k).isSome:=by
  rw[lL,(r.val k).jU,Option.isSome_map]
 unfold putK storedH;rw[e];by_cases q:(atKey xs k).isSome=true
 ·rw[if_pos q,if_pos q];exact r.Fw k ry
 ·rw[if_neg q,if_neg q];exact Paired.snoc r ⟨rfl,hb,ry⟩
theorem KT.keeps{H H':Hp}{kvs:List (List Key×V)}{xs:List (List Key×Addr×Value)}(r:KT H kvs xs)(ht:∀b ys,H b=some (.tup ys)->H' b=some (.tup ys)):KT H' kvs xs:=
 Paired.js r fun _ _ z=>⟨z.1,ht _ _ z.2.1,z.2.2⟩
section
variable{P:Program}{w:World}{H:Hp}{h:Heap}{a:Addr}
theorem Du{u:HO}(ok:gq P w H h)(e:Rd H a u):bB P w H h a u:=e.ok ok
theorem vK{kvs:List (Key×V)}(ok:gq P w H h)(e:Rd H a (.dK kvs)):kvs.length<=sizeLine/\(a==sysModules)=false/\∃vs,KV kvs vs/\h.DictOf (cz P w) a vs:=
 show bB P w H h a (.dK kvs)from Du ok e
theorem Ax{kvs:List (Key×V)}(ok:gq P w H h)(e:H a=some (.dK kvs)):kvs.length<=sizeLine/\(a==sysModules)=false/\∃vs,KV kvs vs/\h.DictOf (cz P w) a vs:=vK ok (.inl e)
theorem mN{ks:List Key}(ok:gq P w H h)(e:H a=some (.tup (ks.map kV))):(tupleKind (cz P w)).is h ks a:=by
 obtain⟨_,its,r,o,h1,h2,n,h3⟩:=(show bB P w H h a (.tup (ks.map kV))from ok a _ e);exact⟨o,its.toArray,n,h1,h2,h3,by simpa using oN r⟩
theorem vI{kvs:List (List Key×V)}(ok:gq P w H h)(e:Rd H a (.dT kvs)):kvs.length<=sizeLine/\(a==sysModules)=false /\
  ∃xs,KT H kvs xs/\h.DictOfH (tupleKind (cz P w)) a xs:=by
 obtain⟨z,y,xs,r,o,es,ep,h1,h2,h3,h4,h5⟩:=(show bB P w H h a (.dT kvs)from Du ok e);refine⟨z,y,xs,r,o,es,ep,h1,h2,h3,h4,fun x hx=>?_,h5⟩;have all:∀{l:List (List Key×V)}{m:List (List Key×Addr×Value)},KT H l m->∀x∈m,(tupleKind (cz P w)).is h x.1 x.2.1:=by
  intro l m q
  induction q with
  |nil=>intro x hx;exact nomatch hx
  |@cons p q ps qs hq t ih=>
   intro x hx;rcases Nf hx with e|hx
   ·subst e;exact mN ok (by rw[<-hq.1];exact hq.2.1)
   ·exact ih x hx
 exact all r x hx
theorem DN{kvs:List (List Key×V)}(ok:gq P w H h)(e:H a=some (.dT kvs)):kvs.length<=sizeLine/\(a==sysModules)=false /\
  ∃xs,KT H kvs xs/\h.DictOfH (tupleKind (cz P w)) a xs:=vI ok (.inl e)
end
def j3(H:Hp)(a:Addr)(y:V)(r:Option V):Prop:=
 (∃kvs k,Rd H a (.dK kvs)/\y=kV k/\r=fA kvs k)\/∃kvs k b,Rd H a (.dT kvs)/\y=.ref b/\H b=some (.tup (k.map kV))/\r=fA kvs k
def oh(H:Hp)(a:Addr)(y v:V)(H':Hp):Prop:=
 (∃kvs k,H a=some (.dK kvs)/\y=kV k/\kvs.length<sizeLine/\H'=upd H a (.dK (putK kvs k v))) \/
 ∃kvs k b,H a=some (.dT kvs)/\y=.ref b/\H b=some (.tup (k.map kV))/\kvs.length<sizeLine/\H'=upd H a (.dT (putK kvs k v))
theorem j3.k{H:Hp}{a:Addr}{kvs:List (Key×V)}{k:Key}(e:H a=some (.dK kvs)):j3 H a (kV k) (fA kvs k):=.inl ⟨kvs,k,.inl e,rfl,rfl⟩
theorem j3.t{H:Hp}{a b:Addr}{kvs:List (List Key×V)}{k:List Key}(e:H a=some (.dT kvs))(eb:H b=some (.tup (k.map kV))):j3 H a (.ref b) (fA kvs k):=.inr ⟨kvs,k,b,.inl e,rfl,eb,rfl⟩
theorem oh.k{H:Hp}{a:Addr}{kvs:List (Key×V)}{k:Key}{v:V}(e:H a=some (.dK kvs))(hl:kvs.length<sizeLine):oh H a (kV k) v (upd H a (.dK (putK kvs k v))):=.inl ⟨kvs,k,e,rfl,hl,rfl⟩
theorem oh.t{H:Hp}{a b:Addr}{kvs:List (List Key×V)}{k:List Key}{v:V}(e:H a=some (.dT kvs))(eb:H b=some (.tup (k.map kV)))(hl:kvs.length<sizeLine):
  oh H a (.ref b) v (upd H a (.dT (putK kvs k v))):=.inr ⟨kvs,k,b,e,rfl,eb,hl,rfl⟩
section
variable{X:Cx}{pins:LpT}{σ:St}{H:Hp}{s:Shared}{a:Addr}{y v:V}{u r:Value}{o:Option V}{A:Around}{E:L5}
theorem Inv.big(I:Inv X pins σ H s):sysModules<s.heap.objs.size:=by
 have h:mainGlobals<s.heap.objs.size:=(I.mod.glob.keeps I.bk).lt;exact Nat.lt_trans (by decide) h
theorem xj{Q:L5}(hu:A.units+1<cLine)(I:Inv X pins σ H s)(g:j3 H a y (some v))(ry:RelV y u)(h:∀w' s',Inv X pins σ H s'->RelV v w'->Q w' s'):
  wpAny (model X.prog X.w) A (getItem (.ref a) u) Q E s:=by
 rcases g with⟨kvs,k,e,ey,l⟩|⟨kvs,k,b,e,ey,eb,l⟩
 ·subst ey;obtain⟨z,hd,vs,rel,dd⟩:=vK I.a8 e;obtain⟨w',hw,rw'⟩:=iM.some_of (v:=v) (o:=valueAt vs k) (by rw[l];exact rel.val k);exact wpAny_getItem_of (rP ry) dd.mapOf hw (h w' _ (I.tok _) rw')
 ·subst ey;cases(show u=Value.ref b from ry);obtain⟨z,hd,xs,rel,dd⟩:=vI I.a8 e;obtain⟨w',hw,rw'⟩:=iM.some_of (v:=v) (o:=(atKey xs k).map (·.2)) (by rw[l];exact rel.val k);obtain⟨p,hp,hp2⟩:=Option.map_eq_some_iff.mp hw;refine wpAny_getItem_heap (tupleKind_room_in1 hu) (mN I.a8 eb) dd hp ?_;rw[hp2];exact h w' _ (I.tok _) rw'
theorem Cu{Q:L5}(hu:A.units+1<cLine)(I:Inv X pins σ H s)(g:j3 H a y o)(ry:RelV y u)(h:∀s',Inv X pins σ H s'->Q (.bool (!o.isSome)) s'):
  wpAny (model X.prog X.w) A (compareOp .NotIn u (.ref a)) Q E s:=by
 rcases g with⟨kvs,k,e,ey,l⟩|⟨kvs,k,b,e,ey,eb,l⟩
 ·subst ey;obtain⟨z,hd,vs,rel,dd⟩:=vK I.a8 e;refine wpAny_notIn_of (rP ry) hd dd.mapOf ?_;rw[<-(rel.val k).jU,<-l];exact h _ (I.tok _)
 ·subst ey;cases(show u=Value.ref b from ry);obtain⟨z,hd,xs,rel,dd⟩:=vI I.a8 e;refine wpAny_notIn_heap (tupleKind_room_in1 hu) (mN I.a8 eb) hd dd ?_;have q:=(rel.val k).jU;rw[Option.isSome_map]at q;rw[<-q,<-l];exact h _ (I.tok _)
theorem lq{h':Heap}{t':Nat}{ob:HO}(I:Inv X pins σ H s)(mu:Kh (H a))(hs:Heap.SameBut a s.heap h')(he:∃q,h'.get? a=some q)(new:bB X.prog X.w (upd H a ob) h' a ob):
  Inv X pins σ (upd H a ob) { s with heap:=h',toks:=t' }:=
 I.write (x:=a) (e:=a) mu (.inl rfl) (fun b q hb z=>(hs.2 b hb).trans z) he new
theorem Ay{P:Program}{w:World}{H':Hp}{h':Heap}{kvs:List (Key×V)}{vs:List (Key×Value)}(z:kvs.length<=sizeLine)(hd:(a==sysModules)=false)(rel:KV kvs vs)(dd:h'.DictOf (cz P w) a vs):
  bB P w H' h' a (.dK kvs):=⟨z,hd,vs,rel,dd⟩
theorem xi{H':Hp}{Q:Unit->Shared->Prop}(hu:A.units+1<cLine)(I:Inv X pins σ H s)(g:oh H a y v H')(ry:RelV y u)(rv:RelV v r)(h:∀s',Inv X pins σ H' s'->Q () s'):
  wpAny (model X.prog X.w) A (setItem (.ref a) u r) Q E s:=by
 rcases g with⟨kvs,k,e,ey,l,eH⟩|⟨kvs,k,b,e,ey,eb,l,eH⟩
 ·subst ey eH;obtain⟨z,hd,vs,rel,dd⟩:=Ax I.a8 e;have hz:vs.length<=sizeLine:=by rw[<-rel.length];exact z
  have hl:(putK kvs k v).length<=sizeLine:=by have:=ie kvs k v;omega
  refine wpAny_setItem_pairs (hsz:=hz) (rP ry) dd fun h' dd' hs=>h _ ?_;have he:∃q,h'.get? a=some q:=let⟨q,_,_,hq,_⟩:=dd';⟨q,hq⟩
  exact lq I (by rw[e];exact True.intro) hs he (Ay hl hd (rel.put k rv) dd')
 ·subst ey eH;cases(show u=Value.ref b from ry);obtain⟨z,hd,xs,rel,dd⟩:=DN I.a8 e;have hz:xs.length<=sizeLine:=by rw[<-Paired.length rel];exact z
  have hl:(putK kvs k v).length<=sizeLine:=by have:=ie kvs k v;omega
  refine wpAny_setItem_heap (hsz:=hz) (tupleKind_room_in1 hu) (mN I.a8 eb) dd fun h' dd' hs=>h _ ?_;obtain⟨q,es,ep,hq,h2,h3,h4,_,h5⟩:=dd';refine lq I (by rw[e];exact True.intro) hs ⟨q,hq⟩ ⟨hl,hd,_,(rel.put k eb rv).keeps fun c ys ec=>?_,q,es,ep,hq,h2,h3,h4,h5⟩;rw[ao (bw ec e (fun z=>nomatch z))];exact ec
end
def Ik(i:Expr):Prop:=∀ov iv,subscripted i false ov iv=operate [ov,iv] (getItem ov iv)
theorem uL{prog:Program}{w:World}{A:Around}{E:L5}{s:Shared}{env:Env}{value slice:Expr}{pos:Pos}{T id:String}{Q:L5}(hl:typeLookup (.type T) "__getitem__"=pure (some (.builtin id)))(hs:Ik slice)(h:wpAny (model prog w) A (eval value env) (fun o s₁=>wpAny (model prog w) A (eval slice env) (fun i s₂=>s₂.TypeIs o T/\wpAny (model prog w) A (getItem o i) Q E s₂) E s₁) E s):
  wpAny (model prog w) A (eval (.Subscript value slice pos) env) Q E s:=by
 refine Subscript_ (wpAny_mono h (fun o s₁ h₁=>wpAny_mono h₁ (fun i s₂ h₂=>?_) fun _ _ x=>x) fun _ _ x=>x);obtain⟨hT,h₂⟩:=h₂;unfold subscriptTail;refine wpAny_bind ?_;rw[getitemInPython_of_ne hT.not_modules];refine wpAny_bind (wpAny_specialOf hT hl ?_);have fin:wpAny (model prog w) A (subscripted slice false o i) (fun r s₃=>wpAny (model prog w) A (letTemporaryGo value o r>>=fun _=>pure r) Q E s₃) E s₂:=by
  rw[hs o i];exact wpAny_operating (wpAny_mono h₂ (fun r s₃ h₃=>wpAny_bind (wpAny_letTemporaryGo (wpAny_pure h₃))) fun _ _ x=>x)
 first
  |exact wpAny_pure (wpAny_bind fin)
  |exact wpAny_bind (wpAny_pure (wpAny_bind fin))
  |exact wpAny_bind fin
theorem sq{X:Cx}{pins:LpT}{σ:St}{H:Hp}{s:Shared}{a:Addr}{y:V}{o:Option V}(I:Inv X pins σ H s)(g:j3 H a y o):s.TypeIs (.ref a) "dict":=by
 rcases g with⟨kvs,k,e,_,_⟩|⟨kvs,k,b,e,_,_,_⟩
 ·obtain⟨_,_,vs,_,dd⟩:=vK I.a8 e;exact dd.typeIs
 ·obtain⟨_,_,xs,_,dd⟩:=vI I.a8 e;exact dd.typeIs
def IF(td ty:TE):TE:=fun σ H Q=>td σ H fun x H1=>ty σ H1 fun y H2=>∃a v,x=.ref a/\j3 H2 a y (some v)/\Q v H2
def A5(ty td:TE):TE:=fun σ H Q=>ty σ H fun y H1=>td σ H1 fun x H2=>∃a o,x=.ref a/\j3 H2 a y o/\Q (.bl (!o.isSome)) H2
def Jw(td ty tv:TE):TS:=fun D σ H=>tv σ H fun v H1=>td σ H1 fun x H2=>ty σ H2 fun y H3=>∃a H4,x=.ref a/\oh H3 a y v H4/\D.nx σ H4
section
variable{X:Cx}{o i e value:Expr}{pos pos' tpos:Pos}{td ty tv:TE}
theorem u6(hu:X.A.units+1<cLine)(ho:PE X o td)(hi:PE X i ty)(hs:Ik i):PE X (.Subscript o i pos) (IF td ty):=by
 intro pins s σ H Q I h;refine uL PySem.F.slot_dict_getitem.lookup hs (bK (ho pins s σ H _ I h) fun u s1⟨x,H1,I1,rx,q1⟩=>bK (hi pins s1 σ H1 _ I1 q1) fun iv s2⟨y,H2,I2,ry,a,v,ex,g,q2⟩=>?_);subst ex;obtain rfl:u=Value.ref a:=rx;exact⟨sq I2 g,xj hu I2 g ry fun w' s3 I3 rw'=>⟨v,H2,I3,rw',q2⟩⟩
theorem oF(hu:X.A.units+1<cLine)(hi:PE X i ty)(ho:PE X o td):PC X .NotIn i o (A5 ty td):=by
 intro pins s σ H Q I h;refine bK (hi pins s σ H _ I h) fun iv s1⟨y,H1,I1,ry,q1⟩=>bK (ho pins s1 σ H1 _ I1 q1) fun u s2⟨x,H2,I2,rx,a,ov,ex,g,q2⟩=>?_;subst ex;obtain rfl:u=Value.ref a:=rx;exact Cu hu I2 g ry fun s3 I3=>⟨.bl (!ov.isSome),H2,I3,rfl,q2⟩
theorem kY(hu:X.A.units+1<cLine)(ho:PE X o td)(hi:PE X i ty)(hv:PE X value tv)(hs:swapsWith value (some (.Subscript o i pos')) pos.line X.env=pure false):
  PS X (.Assign [.Subscript o i pos'] value pos) (Jw td ty tv):=by
 intro pins s σ H D I h;refine wpAny_Assign_Subscript (bK (hv pins s σ H _ I h) fun r s1⟨v,H1,I1,rv,q1⟩=>bK (ho pins s1 σ H1 _ I1 q1) fun u s2⟨x,H2,I2,rx,q2⟩=>bK (hi pins s2 σ H2 _ I2 q2) fun iv s3⟨y,H3,I3,ry,a,H4,ex,g,q3⟩=>?_) hs;subst ex;obtain rfl:u=Value.ref a:=rx;exact xi hu I3 g ry rv fun s4 I4=>⟨σ,H4,I4,q3⟩
end
theorem so{P:Program}{w:World}{H:Hp}(h:Heap)(hb:sysModules<h.objs.size):bB P w H (h.push { cls:=.type "dict",data:=.dict #[] }) h.objs.size (.dK []):=
 ⟨zero_le _,beq_eq_false_iff_ne.mpr (Ne.symm (ne_of_lt hb)),[],.nil,Heap.DictOf.new h⟩
theorem Aw{P:Program}{w:World}{H:Hp}(h:Heap)(hb:sysModules<h.objs.size):bB P w H (h.push { cls:=.type "dict",data:=.dict #[] }) h.objs.size (.dT []):=
 ⟨zero_le _,beq_eq_false_iff_ne.mpr (Ne.symm (ne_of_lt hb)),[],.nil,_,#[],0,get?_push_size _ rfl,⟨rfl,rfl,rfl⟩,rfl,rfl,List.nodup_nil⟩
def Eg:TE:=fun _ H Q=>∀p,H p=none->Q (.ref p) (upd H p (.dK []))
section
variable{X:Cx}{pos:Pos}
theorem qT:PE X (.Dict [] [] pos) Eg:=fun pins s σ H Q I h=>
 wpAny_Dict_empty ⟨.ref s.heap.objs.size,_,I.laid (a:=s.heap.objs.size) (o:=.dK []) (t':=s.toks) (fun _ _ q=>get?_push_of_some _ q) (le_refl _) (so s.heap I.big),rfl,h _ (I.a8.fresh (le_refl _))⟩
end
def tw:List (TE×TE)->St->Hp->(List (V×V)->Hp->Prop)->Prop
 |[],_,H,Q=>Q [] H
 |(tk,tv)::r,σ,H,Q=>tk σ H fun x H1=>tv σ H1 fun y H2=>tw r σ H2 fun ps H3=>Q ((x,y)::ps) H3
abbrev VV:List (V×V)->List (Value×Value)->Prop:=Paired fun p q=>RelV p.1 q.1/\RelV p.2 q.2
def KL(X:Cx)(pos:Pos)(keys:List (Option Expr))(values:List Expr)(trs:List (TE×TE)):Prop:=
 ∀(pins:LpT)(s:Shared)(σ:St)(H:Hp)(Q:List (V×V)->Hp->Prop),Inv X pins σ H s->tw trs σ H Q ->
  wpAny (model X.prog X.w) X.A (evalPairs (pairTrees keys values X.env pos)) (fun vs s'=>∃ps H',Inv X pins σ H' s'/\VV ps vs/\Q ps H') X.xe s
theorem BN{X:Cx}{pos:Pos}:KL X pos [] [] []:=fun pins s σ H Q I h=>pairTrees_nil_walk ⟨[],H,I,.nil,h⟩
theorem yZ{X:Cx}{pos:Pos}{k v:Expr}{ks:List (Option Expr)}{vs:List Expr}{tk tv:TE}{trs:List (TE×TE)}(hk:PE X k tk)(hv:PE X v tv)(hr:KL X pos ks vs trs):
  KL X pos (some k::ks) (v::vs) ((tk,tv)::trs):=fun pins s σ H Q I h=>
 pairTrees_cons_walk (bK (hk pins s σ H _ I h) fun u s1⟨x,H1,I1,rx,q1⟩=>bK (hv pins s1 σ H1 _ I1 q1) fun w2 s2⟨y,H2,I2,ry,q2⟩=>
  bK (hr pins s2 σ H2 _ I2 q2) fun ws s3⟨ps,H3,I3,rel,q3⟩=>⟨(x,y)::ps,H3,I3,.cons ⟨rx,ry⟩ rel,q3⟩)
def jR(kvs more:List (Key×V)):List (Key×V):=more.foldl (fun acc kv=>putK acc kv.1 kv.2) kvs
theorem KV.merge:∀{more:List (Key×V)}{rs:List (Key×Value)}{kvs:List (Key×V)}{vs:List (Key×Value)},KV more rs->KV kvs vs->KV (jR kvs more) (merged vs rs):=by
 intro more rs kvs vs r;unfold KV at r
 induction r generalizing kvs vs with
 |nil=>intro q;exact q
 |@cons p q ps qs h t ih=>
  intro r0;have e:KV (putK kvs p.1 p.2) (stored vs q.1 q.2):=by
   have:=r0.put p.1 h.2;rw[<-h.1];exact this
  exact ih e
theorem iQ:∀(more kvs:List (Key×V)),(jR kvs more).length<=kvs.length+more.length
 |[],kvs=>by show kvs.length<=kvs.length+0;omega
 |p::r,kvs=>by
  have h1:=iQ r (putK kvs p.1 p.2)
  have h2:=ie kvs p.1 p.2
  show(jR (putK kvs p.1 p.2) r).length<=_
  rw[length_cons];omega
theorem nh{P:Program}{w:World}:∀{kvs:List (Key×V)}{ws:List (Value×Value)},VV (kvs.map fun kv=>(kV kv.1,kv.2)) ws->∃rs,Carries (cz P w) ws rs/\KV kvs rs
 |[],_,r=>by rw[map_nil]at r;cases r;exact⟨[],True.intro,.nil⟩
 |p::kvs,_,r=>by
  rw[map_cons]at r
  cases r with
  |@cons a b as bs h t=>
   obtain⟨rs,c,q⟩:=nh (P:=P) (w:=w) t
   obtain⟨b1,b2⟩:=b
   exact⟨(p.1,b2)::rs,⟨rP h.1,rfl,c⟩,.cons ⟨rfl,h.2⟩ q⟩
def IE(trs:List (TE×TE)):TE:=fun σ H Q=>∀p,H p=none->tw trs σ (upd H p (.dK [])) fun ps H2=>H2 p=some (.dK [])/\∃kvs:List (Key×V),ps=kvs.map (fun kv=>(kV kv.1,kv.2))/\kvs.length<=15/\Q (.ref p) (upd H2 p (.dK (jR [] kvs)))
theorem BU{X:Cx}{pos:Pos}{keys:List (Option Expr)}{values:List Expr}{trs:List (TE×TE)}(h:KL X pos keys values trs)(hall:keys.all (·.isSome)=true)(hl:keys.length=values.length)(h0:keys≠[])(h15:keys.length<=15):PE X (.Dict keys values pos) (IE trs):=by
 intro pins s σ H Q I q;have hn:=I.a8.fresh (le_refl s.heap.objs.size);have I1:=I.laid (a:=s.heap.objs.size) (o:=.dK []) (h':=s.heap.push { cls:=.type "dict",data:=.dict #[] }) (t':=s.toks) (fun _ _ q=>get?_push_of_some _ q) (le_refl _) (so s.heap I.big);refine wpAny_Dict_walk (knd:=cz X.prog X.w) hall hl h0 h15 (bK (h pins _ σ _ _ I1 (q _ hn)) fun ws s2⟨ps,H2,I2,rel,e,kvs,ep,lk,q2⟩=>?_);subst ep;obtain⟨rs,c,rk⟩:=nh (P:=X.prog) (w:=X.w) rel;obtain⟨z,hd,vs0,r0,dd⟩:=Ax I2.a8 e;cases r0;refine⟨rs,c,dd,fun h' dd' hs=>⟨.ref s.heap.objs.size,_,?_,rfl,q2⟩⟩;have hz:(jR [] kvs).length<=sizeLine:=by
  have h1:=iQ kvs [];rw[length_nil]at h1;rw[sizeLine_eq];omega
 have he:∃q,h'.get? s.heap.objs.size=some q:=let⟨q,_,_,hq,_⟩:=dd';⟨q,hq⟩
 exact lq I2 (by rw[e];exact True.intro) hs he (Ay hz hd (rk.merge .nil) dd')
section
variable{X:Cx}{pins:LpT}{σ:St}{H:Hp}{s:Shared}{h':Heap}
theorem Inv.uJ{t':Nat}{ch:List Addr}(I:Inv X pins σ H s)(k:∀b o,b∉ch->s.heap.get? b=some o->h'.get? b=some o)(hf:∀b∈ch,fJ X pins H b):Inv X pins σ H { s with heap:=h',toks:=t' }:=by
 have nit:∀b u,H b=some u->b∉ch:=fun b u e z=>by
  have q:=(hf b z).1;rw[q]at e;cases e
 refine I.step (g':=s.gens) (d':=s.drawn) (ch:=ch) (fun b hb=>⟨(hf b hb).2.2.2.1,(hf b hb).2.1,(hf b hb).2.2.2.2.1,(hf b hb).2.2.2.2.2⟩) (fun b o _ _ hc e _=>k b o hc e) (fun b o _ _ hc e _=>⟨o.slots,k b o hc e⟩)
  (fun _ _ _ _ n=>n) (fun b o hc e=>⟨o,k b o hc e⟩) (fun _ _ e=>e) (fun _ _ _ e=>e) (fun b ps e=>⟨#[],by rw[e];simp⟩) (fun m hm=>?_) (fun b u e=>?_) I.bare
 ·obtain⟨o,es,ep,ho,r⟩:=hm;exact⟨o,es,ep,k _ o (fun z=>(hf _ z).2.1 rfl) ho,r⟩
 ·refine(I.a8 b u e).stay (fun c v hc q=>k c v ?_ q) (fun _ q=>q) fun _ _ q=>q;rcases hc with z|z
  ·rw[z];exact nit b u e
  ·exact nit c _ z
theorem Inv.jK{t':Nat}{ch:List Addr}{T:Addr}{ob:HO}(I:Inv X pins σ H s)(k:∀b o,b∉ch->s.heap.get? b=some o->h'.get? b=some o)(hf:∀b∈ch,fJ X pins H b)(hT:s.heap.objs.size<=T)(new:bB X.prog X.w (upd H T ob) h' T ob):Inv X pins σ (upd H T ob) { s with heap:=h',toks:=t' }:=by
 have hn:H T=none:=I.a8.fresh hT;have nit:∀b u,H b=some u->b∉ch:=fun b u e z=>by
  have q:=(hf b z).1;rw[q]at e;cases e
 refine I.step (g':=s.gens) (d':=s.drawn) (ch:=ch) (fun b hb=>⟨(hf b hb).2.2.2.1,(hf b hb).2.1,(hf b hb).2.2.2.2.1,(hf b hb).2.2.2.2.2⟩) (fun b o _ _ hc e _=>k b o hc e) (fun b o _ _ hc e _=>⟨o.slots,k b o hc e⟩)
  (fun b o _ e n=>?_) (fun b o hc e=>⟨o,k b o hc e⟩) (fun b xs e=>?_) (fun b o u e=>?_) (fun b ps e=>⟨#[],?_⟩) (fun m hm=>?_) (fun b u e=>?_) I.bare
 ·rw[ao (ne_of_lt (lt_of_lt_of_le (lt_size e) hT))];exact n
 ·rw[ao (ax e hn)];exact e
 ·rw[ao (ax e hn)];exact e
 ·rw[ao (ax e hn),e];simp
 ·obtain⟨o,es,ep,ho,r⟩:=hm;exact⟨o,es,ep,k _ o (fun z=>(hf _ z).2.1 rfl) ho,r⟩
 ·by_cases hb:b=T
  ·subst hb;rw[ae]at e;cases e;exact new
  ·rw[ao hb]at e;refine(I.a8 b u e).stay (fun c v hc q=>k c v ?_ q) (fun c q=>by rw[ao (ax q hn)];exact q) fun c xs q=>by rw[ao (ax q hn)];exact q
   rcases hc with z|z
   ·rw[z];exact nit b u e
   ·exact nit c _ z
end
section
variable{X:Cx}
theorem tS{tg:Expr}{pins:LpT}{σ:St}{H:Hp}{s:Shared}{R:It->Hp->Prop}{J:It}{tn:Nat->Heap->Prop}{tk:Nat}(I:Inv X pins σ H s)(o:Obj)(T:Turn X.prog X.w X.K tg J [s.heap.objs.size] s.heap.objs.size tn)(st:tn 0 (s.heap.push o))(q:R J H):L1 X pins σ tg R (.ref s.heap.objs.size) { s with heap:=s.heap.push o,toks:=tk }:=by
 refine⟨s.heap.objs.size,[s.heap.objs.size],tn,J,H,rfl,I.kept fun b ob e=>get?_push_of_some _ e,T,st,fun b hb=>?_,q⟩;have e:b=s.heap.objs.size:=by simpa using hb
 subst e;exact I.nY (le_refl _) (I.a8.fresh (le_refl _))
end
def Kk(lo c:Int)(n:Nat):It:=⟨fun i _=>i<n,fun i H x H'=>H'=H/\x=.int (lo+(i:Nat)*c),fun i _=>n<=i⟩
theorem qv{P:Program}{w:World}{K:Frag}{tg:Expr}(it:Addr)(lo c:Int)(n:Nat):Turn P w K tg (Kk lo c n) [it] it (fun i h=>IsRangeIter h it (lo+(i:Nat)*c) ((n:Int)-(i:Nat)) c) where
 mem:=by simp
 obj:=fun i h st b hb=>by
  have e:b=it:=by simpa using hb
  subst e
  exact⟨_,st,fun v z=>nomatch z⟩
 keep:=fun i h h' st k=>k it (by simp) _ st
 item:=by
  intro X hP hw hK hc i pins s σ H E I hf st hg
  subst hP hw hK
  obtain⟨f0,f1,f2,f3,f4,f5⟩:=hf it (by simp)
  have W:=Walks.range (prog:=X.prog) (w:=X.w) (I.ok.hd hc) it lo c n
  refine W.item i s _ _ hg st fun v h' tk hv st' kk=>?_
  obtain⟨t,rfl⟩:=hv
  have I1:Inv X pins σ H { s with heap:=h',toks:=tk }:=I.turned (fun b o hb e=>kk b o (by simpa using hb) e) f0 f1 f3 f4 f5
  exact⟨_,rfl,rZ (s:={ s with heap:=h',toks:=tk }) (n:="range_iterator") st' rfl rfl (by decide) ⟨.int (lo+(i:Nat)*c),H,I1,⟨t,rfl⟩,⟨rfl,rfl⟩,st',fun b hb=>(hf b hb).1⟩⟩
 done:=by
  intro X hP hw hK hc i pins s σ H E I hf st hg
  subst hP hw hK
  obtain⟨f0,f1,f2,f3,f4,f5⟩:=hf it (by simp)
  exact wpAny_pyNext_range_end (I.ok.hd hc) st (by have:n<=i:=hg;omega) fun h' eb=>⟨rfl,I.turned (t':=s.toks) (fun b o hb e=>eb b o hb e) f0 f1 f3 f4 f5⟩
 self:=fun A i s Q E st h=>wpAny_pyIter_rangeiter st h
def Mm(i j c:Int)(n:Nat):Prop:=c≠0/\c.natAbs<1073741824/\Builtin.Range.small i j c=true/\Builtin.Range.rangeSize i j c=n
def JS(ta:TA):TI:=fun σ H R=>ta σ H fun vs H1=>∃(i j c:Int)(n:Nat),vs=[.int i,.int j,.int c]/\Mm i j c n/\R (Kk i c n) H1
section
variable{X:Cx}{tg:Expr}
theorem wA{a b c:Expr}{ta:TA}{p pos:Pos}(hg:Gl X "range")(hm:X.mg "range"=none)(ha:PA X [a,b,c] ta)(hs:starEach [a,b,c] X.env=(false,eval a X.env)::starEach [b,c] X.env:=by rfl)(hpl:(backTo pos (starEach [b,c] X.env)).any (·.1)=false:=by rfl):
  PI X tg (.Call (.Name "range" p) [a,b,c] [] pos) (JS ta):=by
 intro pins s σ H R I h;refine Call_ (eB I hg hm boot_range (PyProof.Rows.callWith_type1 (bK (ha pos pins s σ H _ I h) fun us s1⟨vs,H1,I1,r1,q1⟩=>?_) hs hpl));obtain⟨i,j,k,n,e,⟨c0,c1,c2,c3⟩,q⟩:=q1;subst e;cases r1 with
 |cons r rr=>
  cases rr with
  |cons r' rr=>
   cases rr with
   |cons r'' rr=>
    cases rr;obtain⟨t,rfl⟩:=r;obtain⟨t',rfl⟩:=r';obtain⟨t'',rfl⟩:=r'';refine call_range_3 c0 ?_ (.inl (PyProof.noPylong_small c1));refine wpAny_pyIter_range (IsRange.new ..) c2 ?_;have I2:Inv X pins σ H1 { s1 with heap:=s1.heap.push { cls:=.type "range",data:=.fields #[.int i t,.int j t',.int k t''] } }:=I1.kept (t':=s1.toks) fun b o e=>get?_push_of_some _ e;refine tS (tk:=s1.toks) I2 _ (qv _ i k n) ?_ q;have e1:i+((0:Nat):Int)*k=i:=by simp
    have e2:(n:Int)-((0:Nat):Int)=Builtin.Range.rangeSize i j k:=by rw[c3];simp
    show IsRangeIter _ _ (i+((0:Nat):Int)*k) ((n:Int)-((0:Nat):Int)) k;rw[e1,e2];exact get?_push_size _ rfl
end
theorem uh{lo c:Int}{n:Nat}{g:TG}{tb:TS}{D:Ends}{σ:St}{H:Hp}(Pv:Nat->St->Hp->Prop)(h0:Pv 0 σ H)(hs:∀i σ H,i<n->Pv i σ H->g (.int (lo+(i:Nat)*c)) σ H fun σ2 H2=>tb { D with nx:=Pv (i+1),ct:=Pv (i+1),bk:=D.nx } σ2 H2)(hd:∀σ H,Pv n σ H->D.nx σ H):
  ∃W:Nat->Nat->St->Hp->Prop,(∃m,W 0 m σ H)/\∀i m σ H,W i m σ H ->
   ((Kk lo c n).stop i H/\D.nx σ H)\/((Kk lo c n).go i H/\∃N:St->Hp->Prop,(∀σ' H',N σ' H'->∃m',m'<m/\W (i+1) m' σ' H')/\∀x H',(Kk lo c n).vY i H x H'->g x σ H' fun σ2 H2=>tb { D with nx:=N,ct:=N,bk:=D.nx } σ2 H2):=by
 refine⟨fun i m σ H=>m=n-i/\i<=n/\Pv i σ H,⟨n,by simp,zero_le _,h0⟩,?_⟩;rintro i m σ H ⟨rfl,hi,p⟩;by_cases hlt:i<n
 ·refine .inr ⟨hlt,Pv (i+1),fun σ' H' p'=>⟨n-(i+1),by omega,rfl,hlt,p'⟩,fun x H' y=>?_⟩;obtain⟨e,y⟩:=y;subst e y;exact hs i σ _ hlt p
 ·have e:i=n:=by omega
  subst e;exact .inl ⟨le_refl _,hd σ H p⟩
def Mo(x:Str):It:=⟨fun i _=>i<x.cps.size,fun i H v H'=>H'=H/\∃c,x.cps[i]?=some c/\v=.str ⟨#[c]⟩,fun i _=>x.cps.size<=i⟩
theorem qt{P:Program}{w:World}{K:Frag}{tg:Expr}(it:Addr)(x:Str)(t:Tok)(ty:String)(hty:ty="str_ascii_iterator"\/ty="str_iterator"):
  Turn P w K tg (Mo x) [it] it (fun i h=>h.IsStrIter it ty x t i) where
 mem:=by simp
 obj:=fun i h st b hb=>by
  have e:b=it:=by simpa using hb
  subst e
  obtain⟨o,e,c,d⟩:=st
  exact⟨o,e,fun v z=>by rw[d]at z;cases z⟩
 keep:=fun i h h' st k=>let⟨o,ho,r⟩:=st;⟨o,k it (by simp) o ho,r⟩
 item:=by
  intro X hP hw hK hc i pins s σ H E I hf st hg
  subst hP hw hK
  obtain⟨f0,f1,f2,f3,f4,f5⟩:=hf it (by simp)
  have W:Walks X.prog X.w X.A it [it] [it] x.cps.size (SignAt x) (fun i h=>h.IsStrIter it ty x t i):=by
   rcases hty with e|e
   ·rw[e];exact Walks.strAscii (I.ok.hd hc) it x t
   ·rw[e];exact Walks.strWide (I.ok.hd hc) it x t
  have hno:["enumerate","zip","dict_itemiterator","dict_reverseitemiterator","odict_iterator","itertools.zip_longest","itertools.pairwise"].contains ty=false:=by
   rcases hty with e|e
   ·rw[e];decide
   ·rw[e];decide
  refine W.item i s _ _ hg st fun v h' tk hv st' kk=>?_
  obtain⟨c,u,hcx,rfl⟩:=hv
  have I1:Inv X pins σ H { s with heap:=h',toks:=tk }:=I.turned (fun b o hb e=>kk b o (by simpa using hb) e) f0 f1 f3 f4 f5
  obtain⟨oi,e,cc,dd⟩:=id st'
  exact⟨_,rfl,rZ (s:={ s with heap:=h',toks:=tk }) e cc dd hno ⟨.str ⟨#[c]⟩,H,I1,⟨u,rfl⟩,⟨rfl,c,hcx,rfl⟩,st',fun b hb=>(hf b hb).1⟩⟩
 done:=by
  intro X hP hw hK hc i pins s σ H E I hf st hg
  subst hP hw hK
  obtain⟨f0,f1,f2,f3,f4,f5⟩:=hf it (by simp)
  have hx:x.cps[i]?=none:=Array.getElem?_eq_none hg
  rcases hty with e|e
  ·rw[e]at st
   exact wpAny_pyNext_ascii_end (I.ok.hd hc) st hx fun h' eb=>⟨rfl,I.turned (t':=s.toks) (fun b o hb e=>eb b o hb e) f0 f1 f3 f4 f5⟩
  ·rw[e]at st
   exact wpAny_pyNext_wide_end (I.ok.hd hc) st hx fun h' eb=>⟨rfl,I.turned (t':=s.toks) (fun b o hb e=>eb b o hb e) f0 f1 f3 f4 f5⟩
 self:=fun A i s Q E st h=>by
  rcases hty with e|e
  ·rw[e]at st;exact wpAny_pyIter_striter_ascii st h
  ·rw[e]at st;exact wpAny_pyIter_striter_wide st h
def LC(te:TE):TI:=fun σ H R=>te σ H fun v H1=>∃x,v=.str x/\R (Mo x) H1
theorem FJ{X:Cx}{tg e:Expr}{te:TE}(he:PE X e te):PI X tg e (LC te):=by
 intro pins s σ H R I h;refine bK (he pins s σ H _ I h) fun v s1⟨y,H1,I1,r1,x,ex,q⟩=>?_;subst ex;obtain⟨t,rfl⟩:=r1;cases ha:x.cps.all (·<128)
 ·exact wpAny_pyIter_wide ha (tS (tk:=s1.toks) I1 _ (qt _ x t "str_iterator" (.inr rfl)) ⟨_,get?_push_size _ rfl,rfl,rfl⟩ q)
 ·exact wpAny_pyIter_ascii ha (tS (tk:=s1.toks) I1 _ (qt _ x t "str_ascii_iterator" (.inl rfl)) ⟨_,get?_push_size _ rfl,rfl,rfl⟩ q)
theorem bP{α β:Type}{G:α->β->Prop}{l₁:List α}{l₂:List β}(h:Paired G l₁ l₂):∀{i:Nat}{a:α},l₁[i]?=some a->∃b,l₂[i]?=some b/\G a b:=by
 induction h with
 |nil=>intro i a e;simp at e
 |@cons a b l₁ l₂ r t ih=>
  intro i a' e;cases i with
  |zero=>
   simp only[List.getElem?_cons_zero,Option.some.injEq]at e;subst e;exact⟨b,rfl,r⟩
  |succ j=>
   simp only[List.getElem?_cons_succ]at e ⊢;exact ih e
def Mp(K:Frag)(a:Addr):It:=
 ⟨fun i H=>∃(xs:List V)(x:V),aH K H a xs/\xs[i]?=some x,fun i H v H'=>∃T x,v=.ref T/\H T=none/\H'=upd H T (.tup [.int (i:Nat),x])/\∀xs,aH K H a xs->xs[i]?=some x,fun i H=>∃xs:List V,aH K H a xs/\xs.length<=i⟩
theorem wg{P:Program}{w:World}{K:Frag}{elts:List Expr}{kk:Nat}{tpos:Pos}(a e it:Addr):
  Turn P w K (.Tuple elts kk tpos) (Mp K a) [e,it] e (fun i h=>(∃old,IsEnum h e it ((i:Nat):Int) old)/\h.IsListIter it a i/\e≠it) where
 mem:=by simp
 obj:=fun i h st b hb=>by
  obtain⟨⟨old,he⟩,⟨o,ho,hc,hd⟩,_⟩:=st
  have e':b=e\/b=it:=by simpa using hb
  rcases e' with z|z
  ·rw[z];exact⟨_,he,fun v q=>nomatch q⟩
  ·rw[z];exact⟨o,ho,fun v q=>by rw[hd]at q;cases q⟩
 keep:=fun i h h' st k=>let⟨⟨old,he⟩,hi,hne⟩:=st;⟨⟨old,k e (by simp) _ he⟩,hi.at fun o q=>k it (by simp) o q,hne⟩
 item:=by
  intro X hP hw hK hc i pins s σ H E I hf st hg
  subst hP hw hK
  obtain⟨⟨old,he⟩,hit,hne⟩:=st
  obtain⟨xs,x,hq,hx⟩:=hg
  obtain⟨its,rv,p,hz⟩:=I.list hq
  obtain⟨u,hu,ru⟩:=rv.get hx
  have hel:e<s.heap.objs.size:=lt_size he
  have hil:it<s.heap.objs.size:=by obtain⟨_,q,_⟩:=hit;exact lt_size q
  refine wpAny_pyNext_enum_item he hit p.isList (x:=u) (by simpa using hu) hne fun h' ho hit' hT hsz hk=>?_
  refine⟨_,rfl,wpAny_letOwnedTupleGo_enum (s:={ s with heap:=h',toks:=s.toks+1 }) ho fun h'' he' sb=>?_⟩
  have hT2:h''.get? s.heap.objs.size=some { cls:=.type "tuple",data:=.seq #[.int i s.toks,u] }:=(sb.2 _ (ne_of_gt hel)).trans hT
  have new:bB X.prog X.w (upd H s.heap.objs.size (.tup [.int (i:Nat),x])) h'' s.heap.objs.size (.tup [.int (i:Nat),x]):=
   ⟨by show 2<=sizeLine;decide,[.int i s.toks,u],.cons ⟨_,rfl⟩ (.cons ru .nil),⟨_,hT2,rfl,_,rfl⟩⟩
  have I1:Inv X pins σ (upd H s.heap.objs.size (.tup [.int (i:Nat),x])) { s with heap:=h'',toks:=s.toks+1 }:=
   I.jK (ch:=[e,it]) (fun b ob hb q=>(sb.2 b (fun z=>hb (by simp[z]))).trans (hk b ob (fun z=>hb (by simp[z])) (fun z=>hb (by simp[z])) q)) hf (le_refl _) new
  refine⟨.ref s.heap.objs.size,_,I1,rfl,⟨_,x,rfl,I.a8.fresh (le_refl _),rfl,fun ys hy=>by rw[I.ic hy hq];exact hx⟩,⟨⟨u,?_⟩,hit'.at fun o q=>(sb.2 it (Ne.symm hne)).trans q,hne⟩,fun b hb=>?_⟩
  ·have e1:((i+1:Nat):Int)=(i:Int)+1:=by omega
   rw[e1];exact he'
  ·have hb':b<s.heap.objs.size:=by
    have e':b=e\/b=it:=by simpa using hb
    rcases e' with z|z
    ·rw[z];exact hel
    ·rw[z];exact hil
   rw[ao (ne_of_lt hb')]
   exact(hf b hb).1
 done:=by
  intro X hP hw hK hc i pins s σ H E I hf st hg
  subst hP hw hK
  obtain⟨⟨old,he⟩,hit,hne⟩:=st
  obtain⟨xs,hq,hx⟩:=hg
  obtain⟨its,rv,p,hz⟩:=I.list hq
  obtain⟨f0,f1,f2,f3,f4,f5⟩:=hf it (by simp)
  have hl:=rv.length
  exact wpAny_pyNext_enum_end (I.ok.hd hc) he hit p.isList (by simp;omega) fun h' eb=>⟨rfl,I.turned (t':=s.toks) (fun b o hb q=>eb b o hb q) f0 f1 f3 f4 f5⟩
 self:=fun A i s Q E st h=>let⟨⟨_,he⟩,_⟩:=st;wpAny_pyIter_enum he h
def JV(K:Frag)(ta:TA):TI:=fun σ H R=>ta σ H fun vs H1=>∃a xs,vs=[.ref a]/\aH K H1 a xs/\R (Mp K a) H1
theorem BP{X:Cx}{e:Expr}{ta:TA}{p pos tpos:Pos}{elts:List Expr}{kk:Nat}(hg:Gl X "enumerate")(hm:X.mg "enumerate"=none)(ha:PA X [e] ta)(hs:starEach [e] X.env=[(false,eval e X.env)]:=by rfl):
  PI X (.Tuple elts kk tpos) (.Call (.Name "enumerate" p) [e] [] pos) (JV X.K ta):=by
 intro pins s σ H R I h;refine Call_ (eB I hg hm boot_enumerate (PyProof.Rows.callWith_type1 (bK (ha pos pins s σ H _ I h) fun us s1⟨vs,H1,I1,r1,q1⟩=>?_) hs rfl));obtain⟨a,xs,ex,hq,q⟩:=q1;subst ex;cases r1 with
 |cons r rr=>
  cases rr;cases r;obtain⟨its,rv,p',hz⟩:=I1.list hq;refine call_enumerate_list p'.isList fun h' he hit hsz hk=>wpAny_pyIter_enum he ?_;have I2:Inv X pins σ H1 { s1 with heap:=h' }:=I1.kept (t':=s1.toks) hk;refine⟨s1.heap.objs.size+1,[s1.heap.objs.size+1,s1.heap.objs.size],_,_,H1,rfl,I2,wg a (s1.heap.objs.size+1) s1.heap.objs.size,⟨⟨.none,he⟩,hit,Nat.succ_ne_self _⟩,fun b hb=>?_,q⟩;have e':b=s1.heap.objs.size+1\/b=s1.heap.objs.size:=by simpa using hb
  have hle:s1.heap.objs.size<=b:=by
   rcases e' with z|z
   ·rw[z];exact le_add_right _ _
   ·rw[z];exact le_refl _
  exact I1.nY hle (I1.a8.fresh hle)
theorem oY:bootBuiltins "zip"=some (.type "zip"):=by decide +kernel
def Mn(K:Frag)(a b:Addr):It:=
 ⟨fun i H=>∃(xs ys:List V)(x y:V),aH K H a xs/\aH K H b ys/\xs[i]?=some x/\ys[i]?=some y,
  fun i H v H'=>∃T x y,v=.ref T/\H T=none/\H'=upd H T (.tup [x,y])/\(∀xs,aH K H a xs->xs[i]?=some x)/\∀ys,aH K H b ys->ys[i]?=some y,
  fun i H=>∃xs ys:List V,aH K H a xs/\aH K H b ys/\(xs.length<=i\/ys.length<=i)⟩
theorem xF{P:Program}{w:World}{K:Frag}{elts:List Expr}{kk:Nat}{tpos:Pos}{a b z TI TO i1 i2:Addr}(D:ZipApart z TI TO i1 i2 a b):
  Turn P w K (.Tuple elts kk tpos) (Mn K a b) [z,TI,TO,i1,i2] z (fun i h=>IsZip h z TI TO .none/\IsPair h TI (.ref i1) (.ref i2)/\(∃x y,IsPair h TO x y)/\h.IsListIter i1 a i/\h.IsListIter i2 b i) where
 mem:=by simp
 obj:=fun i h st c hc=>by
  obtain⟨hz,hTI,⟨x,y,hTO⟩,⟨o1,e1,_,d1⟩,⟨o2,e2,_,d2⟩⟩:=st
  have e':c=z\/c=TI\/c=TO\/c=i1\/c=i2:=by simpa using hc
  rcases e' with q|q|q|q|q
  ·rw[q];exact⟨_,hz,fun v q=>nomatch q⟩
  ·rw[q];exact⟨_,hTI,fun v q=>nomatch q⟩
  ·rw[q];exact⟨_,hTO,fun v q=>nomatch q⟩
  ·rw[q];exact⟨o1,e1,fun v q=>by rw[d1]at q;cases q⟩
  ·rw[q];exact⟨o2,e2,fun v q=>by rw[d2]at q;cases q⟩
 keep:=fun i h h' st k=>by
  obtain⟨hz,hTI,⟨x,y,hTO⟩,h1,h2⟩:=st
  exact⟨k z (by simp) _ hz,k TI (by simp) _ hTI,⟨x,y,k TO (by simp) _ hTO⟩,h1.at fun o q=>k i1 (by simp) o q,h2.at fun o q=>k i2 (by simp) o q⟩
 item:=by
  intro X hP hw hK hc i pins s σ H E I hf st hg
  subst hP hw hK
  obtain⟨hz,hTI,⟨x0,y0,hTO⟩,h1,h2⟩:=st
  obtain⟨xs,ys,x,y,hqx,hqy,hx,hy⟩:=hg
  obtain⟨its,rv,p,_⟩:=I.list hqx
  obtain⟨its2,rv2,p2,_⟩:=I.list hqy
  obtain⟨u,hu,ru⟩:=rv.get hx
  obtain⟨u2,hu2,ru2⟩:=rv2.get hy
  have hzl:z<s.heap.objs.size:=lt_size hz
  refine wpAny_pyNext_zip_item D hz hTI hTO h1 h2 p.isList p2.isList (x:=u) (y:=u2) (by simpa using hu) (by simpa using hu2) fun h' z' TO' h1' h2' hT hsz hk=>?_
  refine⟨_,rfl,wpAny_letOwnedTupleGo_zip (s:={ s with heap:=h' }) z' fun h'' z'' sb=>?_⟩
  have hT2:h''.get? s.heap.objs.size=some { cls:=.type "tuple",data:=.seq #[u,u2] }:=(sb.2 _ (ne_of_gt hzl)).trans hT
  have new:bB X.prog X.w (upd H s.heap.objs.size (.tup [x,y])) h'' s.heap.objs.size (.tup [x,y]):=
   ⟨by show 2<=sizeLine;decide,[u,u2],.cons ru (.cons ru2 .nil),⟨_,hT2,rfl,_,rfl⟩⟩
  have I1:Inv X pins σ (upd H s.heap.objs.size (.tup [x,y])) { s with heap:=h'' }:=
   I.jK (t':=s.toks) (ch:=[z,TI,TO,i1,i2]) (fun c o hb q=>(sb.2 c (fun q'=>hb (by simp[q']))).trans (hk c o (fun q'=>hb (by simp[q'])) (fun q'=>hb (by simp[q'])) (fun q'=>hb (by simp[q'])) (fun q'=>hb (by simp[q'])) q)) hf (le_refl _) new
  refine⟨.ref s.heap.objs.size,_,I1,rfl,⟨_,x,y,rfl,I.a8.fresh (le_refl _),rfl,fun l hl=>by rw[I.ic hl hqx];exact hx,fun l hl=>by rw[I.ic hl hqy];exact hy⟩,⟨z'',?_,⟨u,u2,?_⟩,?_,?_⟩,fun c hcm=>?_⟩
  ·exact(sb.2 _ D.TIz).trans (hk _ _ D.TIz D.TITO D.TIi1 D.TIi2 hTI)
  ·exact(sb.2 _ D.TOz).trans TO'
  ·exact h1'.at fun o q=>(sb.2 _ D.i1z).trans q
  ·exact h2'.at fun o q=>(sb.2 _ D.i2z).trans q
  ·have hlt:c<s.heap.objs.size:=by
    have e':c=z\/c=TI\/c=TO\/c=i1\/c=i2:=by simpa using hcm
    rcases e' with q|q|q|q|q
    ·rw[q];exact hzl
    ·rw[q];exact lt_size hTI
    ·rw[q];exact lt_size hTO
    ·rw[q];obtain⟨_,e1,_⟩:=h1;exact lt_size e1
    ·rw[q];obtain⟨_,e2,_⟩:=h2;exact lt_size e2
   rw[ao (ne_of_lt hlt)]
   exact(hf c hcm).1
 done:=by
  intro X hP hw hK hc i pins s σ H E I hf st hg
  subst hP hw hK
  obtain⟨hz,hTI,⟨x0,y0,hTO⟩,h1,h2⟩:=st
  obtain⟨xs,ys,hqx,hqy,hend⟩:=hg
  obtain⟨its,rv,p,_⟩:=I.list hqx
  obtain⟨its2,rv2,p2,_⟩:=I.list hqy
  have l1:=rv.length
  have l2:=rv2.length
  have he:its.toArray[i]?=none\/its2.toArray[i]?=none:=by
   rcases hend with q|q
   ·exact .inl (by simp;omega)
   ·exact .inr (by simp;omega)
  exact wpAny_pyNext_zip_end (I.ok.hd hc) D hz hTI hTO h1 h2 p.isList p2.isList he fun h' hk=>⟨rfl,I.uJ (t':=s.toks) (ch:=[z,TI,TO,i1,i2]) (fun c o hb q=>
   hk c o (fun q'=>hb (by simp[q'])) (fun q'=>hb (by simp[q'])) (fun q'=>hb (by simp[q'])) (fun q'=>hb (by simp[q'])) q) hf⟩
 self:=fun A i s Q E st h=>wpAny_pyIter_zip st.1 h
def LA(K:Frag)(ta:TA):TI:=fun σ H R=>ta σ H fun vs H1=>∃a b xs ys,vs=[.ref a,.ref b]/\aH K H1 a xs/\aH K H1 b ys/\R (Mn K a b) H1
theorem FE{X:Cx}{e e2:Expr}{ta:TA}{p pos tpos:Pos}{elts:List Expr}{kk:Nat}(hg:Gl X "zip")(hm:X.mg "zip"=none)(ha:PA X [e,e2] ta)(hs:starEach [e,e2] X.env=(false,eval e X.env)::starEach [e2] X.env:=by rfl)(hpl:(backTo pos (starEach [e2] X.env)).any (·.1)=false:=by rfl):
  PI X (.Tuple elts kk tpos) (.Call (.Name "zip" p) [e,e2] [] pos) (LA X.K ta):=by
 intro pins s σ H R I h;refine Call_ (eB I hg hm oY (PyProof.Rows.callWith_type1 (bK (ha pos pins s σ H _ I h) fun us s1⟨vs,H1,I1,r1,q1⟩=>?_) hs hpl));obtain⟨a,b,xs,ys,ex,hqx,hqy,q⟩:=q1;subst ex;cases r1 with
 |cons r rr=>
  cases rr with
  |cons r' rr=>
   cases rr;cases r;cases r';obtain⟨its,rv,p1,_⟩:=I1.list hqx;obtain⟨its2,rv2,p2,_⟩:=I1.list hqy;have la:a<s1.heap.objs.size:=p1.lt;have lb:b<s1.heap.objs.size:=p2.lt;refine call_zip_2 p1.isList p2.isList fun h' hz hTI hTO h1 h2 hsz hk=>wpAny_pyIter_zip hz ?_;have I2:Inv X pins σ H1 { s1 with heap:=h' }:=I1.kept (t':=s1.toks) hk;refine⟨s1.heap.objs.size+4,[s1.heap.objs.size+4,s1.heap.objs.size+2,s1.heap.objs.size+3,s1.heap.objs.size,s1.heap.objs.size+1],_,_,H1,rfl,I2,xF (ktu_apart s1.heap.objs.size a b la lb),⟨hz,hTI,⟨_,_,hTO⟩,h1,h2⟩,fun c hcm=>?_,q⟩;have e':c=s1.heap.objs.size+4\/c=s1.heap.objs.size+2\/c=s1.heap.objs.size+3\/c=s1.heap.objs.size\/c=s1.heap.objs.size+1:=by simpa using hcm
   have hle:s1.heap.objs.size<=c:=by
    rcases e' with z|z|z|z|z
    ·rw[z];exact le_add_right _ _
    ·rw[z];exact le_add_right _ _
    ·rw[z];exact le_add_right _ _
    ·rw[z];exact le_refl _
    ·rw[z];exact le_add_right _ _
   exact I1.nY hle (I1.a8.fresh hle)
end L2
section
namespace L8
open PySem PyProof.Rows
end L8
end
section
namespace TL
open PySem PySem.Builtin PySem.Builtin.Str PySem.StrLaws
end TL
end
namespace L2
open PySem PySem.Spec PyProof.Rows
section
variable{X:Cx}
theorem mv:lF X (compareOp .In) (fun x y H Q=>∃(c:Nat)(z:Str),x=.str ⟨#[c]⟩/\y=.str z/\Q (.bl (decide (c∈z.cps.toList))) H):=by
 intro pins s σ H x y v u Q I rx ry h;obtain⟨c,z,rfl,rfl,q⟩:=h;obtain⟨t,rfl⟩:=rx;obtain⟨t',rfl⟩:=ry;exact PyProof.Rows.in_str (bg I q (PySem.StrLaws.found_one z c).symm)
end
end L2
namespace Nr
open PySem PySem.W PySem.Calls PyProof.Rows
end Nr
namespace L2
open PySem PySem.Spec PyProof.Rows
abbrev bA:AX:=fun _ _ _ _ _ _=>False
abbrev E0:XK:=fun _ _ _=>False
theorem au{X:Cx}:Passes bA X E0:=fun _ _ _ _ _ _ _ h=>h.elim
structure bW(K:Frag)(x qual:Str)(st:Stmt)(f:Addr)(fd:FuncData):Prop where
 ex:∃(oc:Value)(od:Option Addr)(kV doc pm:Value)(an:Option Addr)(cdv ct:Value)(osl:Array (Option Value)),
  fd=PySem.W.fnOf x qual (bD st) (bh st) (af st) .none kV doc pm an cdv ct/\K.lookup f=some ⟨oc,od,.func fd,osl⟩/\PySem.W.codeIn K cdv qual=true
 kp:PySem.W.keepIn K (.ref f)=true
section
variable{P:Program}{w:World}{K:Frag}{mg:GmT}{base:Heap}
theorem bW.ok{x qual:Str}{st:Stmt}{f:Addr}{fd:FuncData}{N ps:List Str}{k:Nat}{sp:Sp}(F:bW K x qual st f fd)(S:aq N ps (af st))(len:∀vs H Q E,sp vs H Q E->vs.length=ps.length)(hbody:∀(cdv:Value)(A:Around)(outer:List Env)(s:Shared)(H:Hp)(vs:List V)(Q:VK)(E:XK),bR k (A.deeper (envOfC qual (af st) s.heap.objs.size f cdv))->sp vs H Q E ->
   ∃t,uE (ur bA P w K mg base N qual (af st) f cdv A outer s H E).Dy (bh st) t/\t { nx:=fun _ H'=>Q .cu H',rt:=Q } (start N vs) H):aG P w K mg base bA (k+1) f fd ps sp:=by
 obtain⟨oc,od,kV,doc,pm,an,cdv,ct,osl,rfl,lk,hcd⟩:=F.ex;refine DJ lk hcd S len fun A outer s H vs Q E hr hsp=>?_;obtain⟨t,h,q⟩:=hbody cdv A outer s H vs Q E hr hsp;exact⟨t,h.Dy,q⟩
theorem bW.binds{x qual:Str}{st:Stmt}{f:Addr}{fd:FuncData}{ps:List Str}(F:bW K x qual st f fd)(h:∀(kV doc pm:Value)(an:Option Addr)(cdv ct:Value)(us:List Value),us.length=ps.length->bindArgs (PySem.W.fnOf x qual (bD st) (bh st) (af st) .none kV doc pm an cdv ct) ⟨us,[]⟩=pure (ps.zip us)):Binds K fd ps []:=by
 obtain⟨oc,od,kV,doc,pm,an,cdv,ct,osl,rfl,lk,hcd⟩:=F.ex;exact .all (h kV doc pm an cdv ct)
theorem ug{x qual:Str}{st:Stmt}{f:Addr}{oc:Value}{od an:Option Addr}{osl:Array (Option Value)}{kV doc pm cdv ct:Value}(l:K.lookup f=some ⟨oc,od,.func (PySem.W.fnOf x qual (bD st) (bh st) (af st) .none kV doc pm an cdv ct),osl⟩)(c:PySem.W.codeIn K cdv qual=true)(k:PySem.W.keepIn K (.ref f)=true):bW K x qual st f (PySem.W.fnOf x qual (bD st) (bh st) (af st) .none kV doc pm an cdv ct):=⟨⟨oc,od,kV,doc,pm,an,cdv,ct,osl,rfl,l,c⟩,k⟩
end
theorem rT{A:Around}{k:Nat}(hr:bR k A):A.units+1<cLine:=Nat.lt_of_le_of_lt (Nat.add_le_add_left (by decide:1<=64) _) hr.units
section
variable{X:Cx}
theorem pv(i:Nat){x:Str}{pos:Pos}(hN:X.N[i]?=some x:=by rfl)(hv:Iq X.env.scope x:=by first|exact Or.inl rfl|exact Or.inr (Or.inl rfl)|exact Or.inr (Or.inr rfl))(hd:(x==("__debug__":Str))=false:=by decide)(hcd:(x==("__classdict__":Str))=false:=by decide):PE X (.Name x pos) (Ed i):=FK hN hv hd hcd
end
theorem c9{c A B:Prop}[Decidable c](h1:c->A)(h2:¬c->B):if c then A else B:=by
 by_cases h:c
 ·rw[if_pos h];exact h1 h
 ·rw[if_neg h];exact h2 h
def aj(H H':Hp):Prop:=∀b o,H b=some o->H' b=some o
theorem aj.refl(H:Hp):aj H H:=fun _ _ h=>h
theorem aj.trans{H H1 H2:Hp}(a:aj H H1)(b:aj H1 H2):aj H H2:=fun c o h=>b c o (a c o h)
theorem aj.free{H H':Hp}(e:aj H H'){l:Addr}(h:H' l=Option.none):H l=Option.none:=by
 cases q:H l with
 |none=>rfl
 |some o=>
  rw[e l o q]at h;cases h
theorem aj.seq{K:Frag}{H H':Hp}{a:Addr}{xs:List V}(e:aj H H')(h:aH K H a xs):aH K H' a xs:=by
 rcases h with(h|⟨o,h⟩)|h
 ·exact .inl (.inl (e _ _ h))
 ·exact .inl (.inr ⟨o,e _ _ h⟩)
 ·exact .inr h
theorem at_of{xs:List V}{z:Int}{j:Nat}{v:V}(e:z=(j:Int))(h:xs[j]?=some v):CB xs z=some v:=by
 rw[e];exact b9 h
theorem aj.made{H H1:Hp}{x dx C:Addr}(nx:H x=Option.none)(nd:H dx=Option.none)(k:∀b o,(upd (upd H dx (.own x)) x (.ins C dx [])) b=some o->b≠x->H1 b=some o):aj H H1:=fun b o e=>
 k b o (by rw[ao (ax e nx),ao (ax e nd)];exact e) (ax e nx)
end L2
section
namespace L2
open PySem PySem.Spec PyProof.Rows
open PySem.W (WData Codec OpenSpec Well WellAll ReadsW ReadsAllW)
mutual
inductive Dw (K:Frag) (H:Hp):V->WData->Prop
 |cu:Dw K H .cu .none
 |bl (b:Bool):Dw K H (.bl b) (.bool b)
 |int (i:Int):Dw K H (.int i) (.int i)
 |str (x:Str):Dw K H (.str x) (.str x)
 |sP (b:Array UInt8):Dw K H (.sP b) (.bytes b.toList)
 |lst {a:Addr} {xs:List V} {ds:List WData}:aH K H a xs->jG K H xs ds->Dw K H (.ref a) (.list ds)
 |tup {a:Addr} {xs:List V} {ds:List WData}:gr K H a xs->jG K H xs ds->Dw K H (.ref a) (.tuple ds)
inductive jG (K:Frag) (H:Hp):List V->List WData->Prop
 |nil:jG K H [] []
 |cons {v:V} {vs:List V} {d:WData} {ds:List WData}:Dw K H v d->jG K H vs ds->jG K H (v::vs) (d::ds)
end
theorem vH{K:Frag}{H:Hp}:∀ns:List Int,jG K H (ns.map V.int) (ns.map WData.int)
 |[]=>.nil
 |n::r=>.cons (.int n) (vH r)
theorem vA{K:Frag}{H:Hp}:∀(ns:List Int)(xs:List V),jG K H xs (ns.map WData.int)->xs=ns.map V.int
 |[],xs,h=>by
  cases h
  rfl
 |n::r,xs,h=>by
  cases h with
  |cons h1 h2=>
   cases h1
   rw[vA r _ h2]<;>rfl
section
variable{P:Program}{w:World}{K:Frag}{H:Hp}{h:Heap}{R:WRecords}{cl:Str->Option Addr}
theorem En{a:Addr}{xs:List V}(a8:gq P w H h)(KX:K.In h)(q:aH K H a xs):∃(its:List Value)(o:Obj)(n:Nat),Vals xs its/\h.get? a=some o/\o.cls=.type "list"/\o.data=.seq its.toArray n:=by
 rcases q with q|⟨o,its,n,e,hc,_,hd,_,hv⟩
 ·obtain⟨_,its,n,hv,e⟩:=(show bB P w H h a (.lst xs)from q.ok a8);exact⟨its,_,n,hv,e,rfl,rfl⟩
 ·exact⟨its.toList,o,n,hv,KX _ _ e,hc,by simp[hd]⟩
theorem Em{a:Addr}{xs:List V}(a8:gq P w H h)(KX:K.In h)(q:gr K H a xs):∃(its:List Value)(o:Obj)(n:Nat),Vals xs its/\h.get? a=some o/\o.cls=.type "tuple"/\o.data=.seq its.toArray n:=by
 rcases q with q|⟨o,its,n,e,hc,hd,_,hv⟩
 ·obtain⟨_,its,hv,o,e,hc,n,hd⟩:=(show bB P w H h a (.tup xs)from q.ok a8);exact⟨its,o,n,hv,e,hc,hd⟩
 ·exact⟨its.toList,o,n,hv,KX _ _ e,hc,by simp[hd]⟩
mutual
theorem Dw.reads (a8:gq P w H h) (KX:K.In h):∀(d:WData)(v:V)(u:Value),Dw K H v d->RelV v u->∃as,ReadsW R cl h u d as
 |.none,_,_,x,r=>by
  cases x
  cases r
  exact⟨_,ReadsW.none⟩
 |.bool b,_,_,x,r=>by
  cases x
  cases r
  exact⟨_,ReadsW.bool b⟩
 |.int i,_,_,x,r=>by
  cases x
  obtain⟨t,rfl⟩:=r
  exact⟨_,ReadsW.int i t⟩
 |.str s,_,_,x,r=>by
  cases x
  obtain⟨t,rfl⟩:=r
  exact⟨_,ReadsW.str s t⟩
 |.bytes b,_,_,x,r=>by
  cases x
  obtain⟨t,rfl⟩:=r
  exact⟨_,ReadsW.bytes _ t⟩
 |.list ds,_,_,x,r=>by
  cases x with
  |lst hs ha=>
   cases r
   obtain⟨its,o,n,rv,ho,hc,hd⟩:=En a8 KX hs
   obtain⟨as,hr⟩:=Dw.readsAll a8 KX ds _ its ha rv
   exact⟨_,ReadsW.list ho hc hd hr⟩
 |.tuple ds,_,_,x,r=>by
  cases x with
  |tup hs ha=>
   cases r
   obtain⟨its,o,n,rv,ho,hc,hd⟩:=Em a8 KX hs
   obtain⟨as,hr⟩:=Dw.readsAll a8 KX ds _ its ha rv
   exact⟨_,ReadsW.tuple ho hc hd hr⟩
 |.float _,_,_,x,_=>by cases x
 |.dict _,_,_,x,_=>by cases x
 |.bytearray _,_,_,x,_=>by cases x
 |.set _,_,_,x,_=>by cases x
 |.frozenset _,_,_,x,_=>by cases x
 |.obj _ _,_,_,x,_=>by cases x
theorem Dw.readsAll (a8:gq P w H h) (KX:K.In h):∀(ds:List WData)(vs:List V)(us:List Value),jG K H vs ds->Vals vs us->∃as,ReadsAllW R cl h us ds as
 |[],_,_,x,r=>by
  cases x
  cases r
  exact⟨_,ReadsAllW.nil⟩
 |d::ds,_,_,x,r=>by
  cases x with
  |cons h1 h2=>
   cases r with
   |cons r1 r2=>
    obtain⟨as,q1⟩:=Dw.reads a8 KX d _ _ h1 r1
    obtain⟨bs,q2⟩:=Dw.readsAll a8 KX ds _ _ h2 r2
    exact⟨_,ReadsAllW.cons q1 q2⟩
end
end
mutual
def FC:WData->Bool
 |.none=>true
 |.bool _=>true
 |.int _=>true
 |.str _=>true
 |.bytes _=>true
 |.list xs=>lY xs
 |.tuple xs=>lY xs
 |_=>false
def lY:List WData->Bool
 |[]=>true
 |x::r=>FC x&&lY r
end
theorem qR{α:Type}{f:α->WData}(h:∀a,FC (f a)=true):∀l:List α,lY (l.map f)=true
 |[]=>rfl
 |x::r=>by
  show(FC (f x)&&lY (r.map f))=true
  rw[h x,qR h r]<;>rfl
theorem iT:∀{xs:List WData}{d:WData},d∈xs->d.weight<=WData.weightAll xs
 |[],d,h=>absurd h (by simp)
 |x::r,d,h=>by
  show d.weight<=x.weight+1+WData.weightAll r
  rcases Nf h with e|m
  ·rw[e]
   omega
  ·have z:=iT m
   omega
def toV:Value->V
 |.none=>.cu
 |.bool b=>.bl b
 |.int i _=>.int i
 |.str x _=>.str x
 |.bytes b _=>.sP b
 |.ref a=>.ref a
 |_=>.cu
def xt(A:List Addr):Value->Prop
 |.none=>True
 |.bool _=>True
 |.int _ _=>True
 |.str _ _=>True
 |.bytes _ _=>True
 |.ref a=>a∈A
 |_=>False
theorem xt.mono{A B:List Addr}(h:∀a∈A,a∈B):∀{u:Value},xt A u->xt B u:=fun{u}x=>by
 cases u with
 |ref a=>exact h a x
 |none=>trivial
 |bool b=>trivial
 |int i t=>trivial
 |str s t=>trivial
 |bytes b t=>trivial
 |_=>exact False.elim x
theorem yP{A:List Addr}{u:Value}(x:xt A u):RelV (toV u) u:=by
 cases u with
 |ref a=>rfl
 |none=>rfl
 |bool b=>rfl
 |int i t=>exact⟨t,rfl⟩
 |str s t=>exact⟨t,rfl⟩
 |bytes b t=>exact⟨t,rfl⟩
 |_=>exact False.elim x
theorem fM{A:List Addr}:∀{vs:List Value},(∀u∈vs,xt A u)->Vals (vs.map toV) vs
 |[],_=>.nil
 |u::r,h=>.cons (yP (h u (mem_cons_self ..))) (fM fun x hx=>h x (mem_cons_of_mem _ hx))
def gW(h:Heap)(A:List Addr)(a:Addr):Prop:=∃vs:List Value,vs.length<=sizeLine/\(∀u∈vs,xt A u) /\
 (h.get? a=some { cls:=.type "list",data:=.seq vs.toArray }\/h.get? a=some { cls:=.type "tuple",data:=.seq vs.toArray })
theorem gW.mono{h:Heap}{A B:List Addr}{a:Addr}(k:∀a∈A,a∈B)(x:gW h A a):gW h B a:=by
 obtain⟨vs,h1,h2,h3⟩:=x;exact⟨vs,h1,fun u hu=>(h2 u hu).mono k,h3⟩
theorem eZ{P:Params}{h:Heap}:∀{vs:List Value}{ds:List WData},WellAll P h vs ds->vs.length=ds.length
 |_,_,.nil=>rfl
 |_,_,.cons _ b=>by
  show _+1=_+1
  rw[eZ b]
theorem oo{P:Params}{h:Heap}{v:Value}{ds:List WData}(x:Well P h v (.list ds)):∃(a:Addr)(vs:List Value),v=.ref a/\h.get? a=some { cls:=.type "list",data:=.seq vs.toArray }/\WellAll P h vs ds:=by
 cases x with
 |list ho hall=>exact⟨_,_,rfl,ho,hall⟩
theorem lI{P:Params}{h:Heap}{v:Value}{ds:List WData}(x:Well P h v (.tuple ds)):∃(a:Addr)(vs:List Value),v=.ref a/\h.get? a=some { cls:=.type "tuple",data:=.seq vs.toArray }/\WellAll P h vs ds:=by
 cases x with
 |tuple ho hall=>exact⟨_,_,rfl,ho,hall⟩
theorem oq{P:Params}{h:Heap}{us:List Value}{d:WData}{ds:List WData}(x:WellAll P h us (d::ds)):∃(v:Value)(vs:List Value),us=v::vs/\Well P h v d/\WellAll P h vs ds:=by
 cases x with
 |cons a b=>exact⟨_,_,rfl,a,b⟩
theorem vo{n:Nat}(h:n<=1048576):n<=sizeLine:=le_trans h (by decide)
section
variable{P:Params}{h:Heap}
mutual
theorem AL:∀(d:WData)(v:Value),Well P h v d->FC d=true->d.weight<=1048576->∃A:List Addr,xt A v/\∀a∈A,gW h A a
 |.none,_,x,_,_=>by
  cases x
  exact⟨[],trivial,fun a m=>absurd m (by simp)⟩
 |.bool b,_,x,_,_=>by
  cases x
  exact⟨[],trivial,fun a m=>absurd m (by simp)⟩
 |.int i,_,x,_,_=>by
  cases x
  exact⟨[],trivial,fun a m=>absurd m (by simp)⟩
 |.str s,_,x,_,_=>by
  cases x
  exact⟨[],trivial,fun a m=>absurd m (by simp)⟩
 |.bytes b,_,x,_,_=>by
  cases x
  exact⟨[],trivial,fun a m=>absurd m (by simp)⟩
 |.list ds,_,x,p,z=>by
  obtain⟨a,vs,rfl,ho,hall⟩:=oo x
  have z2:WData.weightAll ds<=1048576:=z
  obtain⟨A,h1,h2⟩:=jE ds _ hall p fun d hd=>le_trans (iT hd) z2
  have k:∀b∈A,b∈a::A:=fun b hb=>mem_cons_of_mem _ hb
  refine⟨a::A,mem_cons_self ..,fun b hb=>?_⟩
  rcases Nf hb with e|m
  ·rw[e]
   exact⟨vs,vo (by rw[eZ hall];exact le_trans (PySem.W.length_le_weightAllW ds) z2),fun u hu=>(h1 u hu).mono k,.inl ho⟩
  ·exact(h2 b m).mono k
 |.tuple ds,_,x,p,z=>by
  obtain⟨a,vs,rfl,ho,hall⟩:=lI x
  have z2:WData.weightAll ds<=1048576:=z
  obtain⟨A,h1,h2⟩:=jE ds _ hall p fun d hd=>le_trans (iT hd) z2
  have k:∀b∈A,b∈a::A:=fun b hb=>mem_cons_of_mem _ hb
  refine⟨a::A,mem_cons_self ..,fun b hb=>?_⟩
  rcases Nf hb with e|m
  ·rw[e]
   exact⟨vs,vo (by rw[eZ hall];exact le_trans (PySem.W.length_le_weightAllW ds) z2),fun u hu=>(h1 u hu).mono k,.inr ho⟩
  ·exact(h2 b m).mono k
 |.float _,_,_,p,_=>noConfusion (show false=true from p)
 |.dict _,_,_,p,_=>noConfusion (show false=true from p)
 |.bytearray _,_,_,p,_=>noConfusion (show false=true from p)
 |.set _,_,_,p,_=>noConfusion (show false=true from p)
 |.frozenset _,_,_,p,_=>noConfusion (show false=true from p)
 |.obj _ _,_,_,p,_=>noConfusion (show false=true from p)
theorem jE:∀(ds:List WData)(vs:List Value),WellAll P h vs ds->lY ds=true->(∀d∈ds,d.weight<=1048576)->∃A:List Addr,(∀u∈vs,xt A u)/\∀a∈A,gW h A a
 |[],_,x,_,_=>by
  cases x
  exact⟨[],fun u m=>absurd m (by simp),fun a m=>absurd m (by simp)⟩
 |d::ds,_,x,p,z=>by
  obtain⟨v,vs,rfl,x1,x2⟩:=oq x
  have q:FC d=true/\lY ds=true:=Bool.and_eq_true_iff.mp p
  obtain⟨A,a1,a2⟩:=AL d v x1 q.1 (z d (mem_cons_self ..))
  obtain⟨B,b1,b2⟩:=jE ds vs x2 q.2 fun e he=>z e (mem_cons_of_mem _ he)
  have kA:∀b∈A,b∈A++B:=fun b hb=>List.mem_append.mpr (.inl hb)
  have kB:∀b∈B,b∈A++B:=fun b hb=>List.mem_append.mpr (.inr hb)
  refine⟨A++B,fun u hu=>?_,fun b hb=>?_⟩
  ·rcases Nf hu with e|m
   ·rw[e]
    exact a1.mono kA
   ·exact(b1 u m).mono kB
  ·rcases Nj hb with m|m
   ·exact(a2 b m).mono kA
   ·exact(b2 b m).mono kB
end
end
def Cf(o:Obj):Option HO:=match o.data with
 |.seq vs _=>if(o.cls==Value.type "list")=true then some (.ny o (.lst (vs.toList.map toV)))else some (.ny o (.tup (vs.toList.map toV)))
 |_=>none
def cU(K:Frag)(h:Heap)(A:List Addr):Hp:=fun b=>if b∈A then(if(K.lookup b).isNone=true then(h.get? b).bind Cf else none)else none
def DX(H:Hp):Prop:=∀b,H b=none\/∃o u,H b=some (.ny o u)
theorem rW(vs:List Value):Cf { cls:=.type "list",data:=.seq vs.toArray }=some (.ny { cls:=.type "list",data:=.seq vs.toArray } (.lst (vs.map toV))):=by
 show(if(Value.type "list"==Value.type "list")=true then some (HO.ny { cls:=.type "list",data:=.seq vs.toArray } (.lst (vs.toArray.toList.map toV)))else some (HO.ny { cls:=.type "list",data:=.seq vs.toArray } (.tup (vs.toArray.toList.map toV))))=_;rw[if_pos (beq_self_eq_true _)]
theorem rV(vs:List Value):Cf { cls:=.type "tuple",data:=.seq vs.toArray }=some (.ny { cls:=.type "tuple",data:=.seq vs.toArray } (.tup (vs.map toV))):=by
 show(if(Value.type "tuple"==Value.type "list")=true then some (HO.ny { cls:=.type "tuple",data:=.seq vs.toArray } (.lst (vs.toArray.toList.map toV)))else some (HO.ny { cls:=.type "tuple",data:=.seq vs.toArray } (.tup (vs.toArray.toList.map toV))))=_;rw[if_neg (by decide)]
section
variable{P:Program}{w:World}{K:Frag}{h:Heap}{A:List Addr}
theorem lD{b:Addr}{o:Obj}(hb:b∈A)(hk:K.lookup b=none)(e:h.get? b=some o):cU K h A b=Cf o:=by
 unfold cU;rw[if_pos hb,hk,if_pos (show(none:Option Obj).isNone=true from rfl),e]<;>rfl
theorem B5{b:Addr}{u:HO}(q:cU K h A b=some u):b∈A/\K.lookup b=none:=by
 unfold cU at q;by_cases hb:b∈A
 ·rw[if_pos hb]at q;cases hk:K.lookup b with
  |none=>exact⟨hb,rfl⟩
  |some o=>
   rw[hk,if_neg (by simp)]at q;cases q
 ·rw[if_neg hb]at q;cases q
theorem jD(ar:∀a∈A,gW h A a){b:Addr}{u:HO}(q:cU K h A b=some u):K.lookup b=none/\∃vs:List Value,vs.length<=sizeLine/\(∀u∈vs,xt A u) /\
  ((h.get? b=some { cls:=.type "list",data:=.seq vs.toArray }/\u=.ny { cls:=.type "list",data:=.seq vs.toArray } (.lst (vs.map toV))) \/
   (h.get? b=some { cls:=.type "tuple",data:=.seq vs.toArray }/\u=.ny { cls:=.type "tuple",data:=.seq vs.toArray } (.tup (vs.map toV)))):=by
 obtain⟨hb,hk⟩:=B5 q;obtain⟨vs,h1,h2,h3⟩:=ar b hb;refine⟨hk,vs,h1,h2,?_⟩;rcases h3 with e|e
 ·rw[lD hb hk e,rW]at q;exact .inl ⟨e,(Nc q).symm⟩
 ·rw[lD hb hk e,rV]at q;exact .inr ⟨e,(Nc q).symm⟩
theorem xp(ar:∀a∈A,gW h A a):DX (cU K h A):=fun b=>by
 cases q:cU K h A b with
 |none=>exact .inl rfl
 |some u=>
  obtain⟨_,vs,_,_,⟨_,e⟩|⟨_,e⟩⟩:=jD ar q
  ·exact .inr ⟨_,_,by rw[e]⟩
  ·exact .inr ⟨_,_,by rw[e]⟩
theorem CD(ar:∀a∈A,gW h A a):gq P w (cU K h A) h:=fun b u q=>by
 obtain⟨_,vs,h1,h2,⟨e,rfl⟩|⟨e,rfl⟩⟩:=jD ar q
 ·exact⟨e,by rw[length_map];exact h1,vs,_,fM h2,e⟩
 ·exact⟨e,by rw[length_map];exact h1,vs,fM h2,_,e,rfl,_,rfl⟩
theorem kX{c c':Value}{vs us:List Value}(e:(some { cls:=c,data:=.seq vs.toArray }:Option Obj)=some { cls:=c',data:=.seq us.toArray }):c=c'/\vs=us:=by
 have e1:=Nc e;have e2:c=c':=congrArg Obj.cls e1;have e3:Data.seq vs.toArray=Data.seq us.toArray:=congrArg Obj.data e1;injection e3 with e4;refine⟨e2,?_⟩;have e5:=congrArg toList e4;simpa using e5
theorem LQ(KX:K.In h)(ar:∀a∈A,gW h A a){a:Addr}{vs:List Value}(ha:a∈A)(e:h.get? a=some { cls:=.type "list",data:=.seq vs.toArray }):(∀u∈vs,xt A u)/\aH K (cU K h A) a (vs.map toV):=by
 obtain⟨us,h1,h2,h3⟩:=ar a ha;have hu:us=vs:=by
  rcases h3 with q|q
  ·rw[e]at q;exact(kX q).2.symm
  ·rw[e]at q;exact absurd (Value.type.inj (kX q).1) (by decide)
 subst hu;refine⟨h2,?_⟩;cases hk:K.lookup a with
 |none=>exact .inl (.inr ⟨_,by rw[lD ha hk e,rW]⟩)
 |some o=>
  have e2:=KX a o hk;rw[e]at e2;obtain rfl:=Nc e2;exact .inr ⟨_,us.toArray,_,hk,rfl,rfl,rfl,by rw[size_toArray];exact h1,by simpa using fM h2⟩
theorem LP(KX:K.In h)(ar:∀a∈A,gW h A a){a:Addr}{vs:List Value}(ha:a∈A)(e:h.get? a=some { cls:=.type "tuple",data:=.seq vs.toArray }):(∀u∈vs,xt A u)/\gr K (cU K h A) a (vs.map toV):=by
 obtain⟨us,h1,h2,h3⟩:=ar a ha;have hu:us=vs:=by
  rcases h3 with q|q
  ·rw[e]at q;exact absurd (Value.type.inj (kX q).1) (by decide)
  ·rw[e]at q;exact(kX q).2.symm
 subst hu;refine⟨h2,?_⟩;cases hk:K.lookup a with
 |none=>exact .inl (.inr ⟨_,by rw[lD ha hk e,rV]⟩)
 |some o=>
  have e2:=KX a o hk;rw[e]at e2;obtain rfl:=Nc e2;exact .inr ⟨_,us.toArray,_,hk,rfl,rfl,by rw[size_toArray];exact h1,by simpa using fM h2⟩
mutual
theorem HN {Pm:Params} (KX:K.In h) (ar:∀a∈A,gW h A a):∀(d:WData)(v:Value),Well Pm h v d->FC d=true->xt A v->Dw K (cU K h A) (toV v) d
 |.none,_,x,_,_=>by
  cases x
  exact .cu
 |.bool b,_,x,_,_=>by
  cases x
  exact .bl b
 |.int i,_,x,_,_=>by
  cases x
  exact .int i
 |.str s,_,x,_,_=>by
  cases x
  exact .str s
 |.bytes b,_,x,_,_=>by
  cases x
  have z:=Dw.sP (K:=K) (H:=cU K h A) b.toArray
  exact z
 |.list ds,_,x,p,hu=>by
  obtain⟨a,vs,rfl,ho,hall⟩:=oo x
  obtain⟨h2,hs⟩:=LQ KX ar hu ho
  exact .lst hs (qb KX ar ds _ hall p h2)
 |.tuple ds,_,x,p,hu=>by
  obtain⟨a,vs,rfl,ho,hall⟩:=lI x
  obtain⟨h2,hs⟩:=LP KX ar hu ho
  exact .tup hs (qb KX ar ds _ hall p h2)
 |.float _,_,_,p,_=>noConfusion (show false=true from p)
 |.dict _,_,_,p,_=>noConfusion (show false=true from p)
 |.bytearray _,_,_,p,_=>noConfusion (show false=true from p)
 |.set _,_,_,p,_=>noConfusion (show false=true from p)
 |.frozenset _,_,_,p,_=>noConfusion (show false=true from p)
 |.obj _ _,_,_,p,_=>noConfusion (show false=true from p)
theorem qb {Pm:Params} (KX:K.In h) (ar:∀a∈A,gW h A a):∀(ds:List WData)(vs:List Value),WellAll Pm h vs ds->lY ds=true->(∀u∈vs,xt A u)->jG K (cU K h A) (vs.map toV) ds
 |[],_,x,_,_=>by
  cases x
  exact .nil
 |d::ds,_,x,p,hu=>by
  obtain⟨v,vs,rfl,x1,x2⟩:=oq x
  have q:FC d=true/\lY ds=true:=Bool.and_eq_true_iff.mp p
  exact .cons (HN KX ar d v x1 q.1 (hu _ (mem_cons_self ..))) (qb KX ar ds vs x2 q.2 fun u m=>hu u (mem_cons_of_mem _ m))
end
end
theorem mM{ds:List WData}(h:WData.layableAll ds=true):∀d∈ds,d.weight<=1048576:=fun d hd=>
 (PySem.W.layableW_iff.mp (List.all_eq_true.mp h d hd)).2.2
end L2
end
namespace L2
open PySem PySem.Spec PyProof.Rows
section
variable{X:Cx}
structure FV(P:Program)(w:World)(K:Frag)(mg:GmT)(base:Heap)(k:Nat)(v:V)(ps:List Str)(sp:Sp):Prop where
 ex:∃(f:Addr)(fd:FuncData),v=.ref f/\aG P w K mg base bA k f fd ps sp/\PySem.W.keepIn K (.ref f)=true/\Binds K fd ps []
def Ej(X:Cx)(k:Nat)(tf:TE)(t:TA):TE:=fun σ H Q=>tf σ H fun v H1=>∃ps sp,FV X.prog X.w X.K X.mg X.base k v ps sp/\t σ H1 fun vs H2=>sp vs H2 Q E0
theorem md{x:Str}{p pos:Pos}{e:Expr}{es:List Expr}{tf:TE}{t:TA}{k:Nat}(hf:PE X (.Name x p) tf)(hr:bR k X.A)(hx:Passes bA X E0)(ha:PA X (e::es) t)(he:starEach (e::es) X.env=(false,eval e X.env)::starEach es X.env:=by rfl)(hpl:(backTo pos (starEach es X.env)).any (·.1)=false:=by rfl):
  PE X (.Call (.Name x p) (e::es) [] pos) (Ej X k tf t):=by
 intro pins s σ H Q I h;refine wpAny_Call_Name_kw (bK (hf pins s σ H _ I h) fun u s0⟨v,H1,I1,r,ps,sp,⟨f,fd,ev,F,hk,hb⟩,q⟩=>?_);subst ev;obtain rfl:u=Value.ref f:=r;refine callWith_K (h₀:=X.base) I.ok.mod.Cc hk (bK (ha pos pins s0 σ H1 _ I1 q) fun us s1⟨vs,H2,I2,r2,q2⟩=>⟨I2.mS,?_⟩) he hpl;refine jM (dvs:=[]) (ds:=[]) F hr hb .nil hx I2 r2 ?_;rw[append_nil];exact q2
theorem Kz{P:Program}{w:World}{i:Int}{t:Tok}:(intKind P w).is i (.int i t)=true:=by
 show Value.isInt i (.int i t)=true;simp[Value.isInt]
abbrev sM:List DictEntry->List (Int×Value)->Prop:=Paired fun e kv=>e.hash=hashInt kv.1/\(∃t,e.key=.int kv.1 t)/\e.val=kv.2
structure kg(K:Frag)(a:Addr)(kvs:List (Int×Value)):Prop where
 at_:∃es ep,K.lookup a=some { cls:=.type "dict",data:=.dict es ep }/\sM es.toList kvs
 nd:(kvs.map (·.1)).Nodup
theorem sM.keys{P:Program}{w:World}:∀{es:List DictEntry}{kvs:List (Int×Value)},sM es kvs->∀e∈es,∃k,(intKind P w).is k e.key=true/\e.hash=(intKind P w).hash k
 |_,_,.nil,e,h=>by cases h
 |_::_,_,.cons r t,e,h=>by
  rcases Nf h with z|z
  ·subst z
   obtain⟨h1,⟨t',h2⟩,_⟩:=r
   exact⟨_,by rw[h2];exact Kz,h1⟩
  ·exact sM.keys t e z
theorem sM.pairs{P:Program}{w:World}:∀{es:List DictEntry}{kvs:List (Int×Value)},sM es kvs->PySem.Pairs (intKind P w) es kvs
 |_,_,.nil=>.nil
 |_::_,_,.cons r t=>.cons (by obtain⟨_,⟨t',h2⟩,_⟩:=r;rw[h2];exact Kz) r.2.2 (sM.pairs t)
theorem kg.dictOf{K:Frag}{a:Addr}{kvs:List (Int×Value)}(M:kg K a kvs){P:Program}{w:World}{h:Heap}(KX:K.In h):h.DictOf (intKind P w) a kvs:=by
 obtain⟨es,ep,l,r⟩:=M.at_;exact⟨_,es,ep,KX _ _ l,⟨rfl,rfl,rfl⟩,rfl,fun e he=>r.keys e (by simpa using he),r.pairs,M.nd⟩
def Eh(K:Frag)(td ty:TE):TE:=fun σ H Q=>td σ H fun x H1=>ty σ H1 fun y H2=>∃a i kvs u v,x=.ref a/\y=.int i/\kg K a kvs/\valueAt kvs i=some u/\RelV v u/\Q v H2
theorem jl{o i:Expr}{pos:Pos}{td ty:TE}(ho:PE X o td)(hi:PE X i ty)(hs:Ik i):PE X (.Subscript o i pos) (Eh X.K td ty):=by
 intro pins s σ H Q I h;refine uL PySem.F.slot_dict_getitem.lookup hs (bK (ho pins s σ H _ I h) fun u s1⟨x,H1,I1,rx,q1⟩=>bK (hi pins s1 σ H1 _ I1 q1) fun iv s2⟨y,H2,I2,ry,a,j,kvs,u',v,ex,ey,M,hv,rv,q2⟩=>?_);subst ex ey;obtain rfl:u=Value.ref a:=rx;obtain⟨t,rfl⟩:=ry;have D:s2.heap.DictOf (intKind X.prog X.w) a kvs:=M.dictOf I2.mS;refine⟨D.typeIs,wpAny_getItem_of (knd:=intKind X.prog X.w) (k:=j) Kz D.mapOf hv ⟨v,H2,I2.tok _,rv,q2⟩⟩
theorem wG(hu:X.A.units+65<cLine):lF X (compareOp .NotIn) (fun x y H Q=>∃d es,Dp X.K H x d/\Dp X.K H y (.list es)/\SeqAt.shaped d=true/\SeqAt.shaped (.list es)=true/\Q (.bl (!(es.any fun e=>PyData.eqv e d))) H):=by
 intro pins s σ H x y v u Q I rx ry h;obtain⟨d,es,hd,he,sd,se,q⟩:=h;obtain⟨as,r1⟩:=Dp.reads I d x v hd rx;obtain⟨bs,r2⟩:=Dp.reads I (.list es) y u he ry;exact SeqAt.notIn_list_reads r2 r1 (SeqAt.canLay_of_shaped se) (SeqAt.canLay_of_shaped sd) (PyProof.Rows.room_in_shaped sd hu) ⟨.bl _,H,I,rfl,q⟩
end
open AutoSeq1 (wpAny_loadPart')
def cR(n:Nat):List V:=(range n).map fun(i:Nat)=>V.int i
theorem gE(n:Nat):(cR n).length=n:=by simp[cR]
theorem gZ:∀{xs:List V}{us:List Value},xs.length=us.length->(∀(i:Nat)x u,xs[i]?=some x->us[i]?=some u->RelV x u)->Vals xs us
 |[],[],_,_=>.nil
 |[],_::_,h,_=>by simp at h
 |_::_,[],h,_=>by simp at h
 |x::xs,u::us,h,r=>.cons (r 0 x u rfl rfl) (gZ (by simpa using h) fun i y v h1 h2=>r (i+1) y v (by simpa using h1) (by simpa using h2))
theorem lK{n:Nat}{acc:Array Value}(h:ItemsOf (fun i v=>∃t,v=.int (0+(i:Int)*1) t) acc n):Vals (cR n) acc.toList:=by
 refine gZ (by rw[gE];simp[h.1]) fun i x u h1 h2=>?_;have hi:i<n:=by have:=(Nd h1).1;rwa [gE]at this
 have e1:x=V.int i:=by
  unfold cR at h1;rw[getElem?_map,getElem?_range hi]at h1;exact(Nc h1).symm
 obtain⟨t,e2⟩:=h.2 i u (by simpa using h2);subst e1 e2;exact⟨t,by simp⟩
section
variable{prog:Program}{w:World}{A:Around}{E:L5}{s:Shared}
theorem uw{Q:List Value->Shared->Prop}{r:Addr}{Done:Shared->Array Value->Prop}(run:∀Rs:Result->Shared->Prop,(∀s' acc c,s'.heap.get? s.heap.objs.size=some { cls:=.type "list",dict:=none,data:=.seq acc c,slots:=#[] }->Done s' acc->Rs (.ok (.ret (.ref s.heap.objs.size))) s') ->
   wpAny (model prog w) A.in1 (Builtin.List.listExtendWith (.ref s.heap.objs.size) (.ref r) (.ref s.heap.objs.size))
    (fun fin s'=>match fin with|.done f=>Rs (.ok f) s'|.again c'=>c'.quiet=true/\codeAny (model prog w) A c' Rs s') (fun e s'=>Rs (.error e) s') { s with heap:=s.heap.push { cls:=.type "list",data:=.seq #[] } })(hQ:∀s' acc,Done s' acc->Q acc.toList s'):wpAny (model prog w) A (collect (.ref r)) Q E s:=by
 let Rs:Result->Shared->Prop:=fun res s'=>res=.ok (.ret (.ref s.heap.objs.size))/\∃acc c,s'.heap.get? s.heap.objs.size=some { cls:=.type "list",dict:=none,data:=.seq acc c,slots:=#[] }/\Done s' acc
 have told:=run Rs fun s' acc c e d=>⟨rfl,acc,c,e,d⟩;apply wpAny_bind;apply wpAny_runValue;apply codeAny_builtin F.entry_proto_collect;simp only[Around.under_plainId F.plain_proto_collect];apply wpAny_bind (m:=newList []);refine wpAny_newObj_type (wpAny_pure ⟨plainId_quiet F.plain_list_iadd _,codeAny_builtin F.entry_list_iadd ?_⟩);simp only[Around.under_plainId F.plain_list_iadd];have read:∀res s',Rs res s'->wants (fun v s'=>wpAny (model prog w) A (match v with
   |.ref b=>do
    match (<-load b).data with
    |.seq xs _=>pure xs.toList
    |_=>unsupported "internal:collect"
   |_=>unsupported "internal:collect") Q E s') E res s':=by
  rintro res s' ⟨rfl,acc,c,e,d⟩;exact wpAny_bind (m:=load _) (wpAny_load e (wpAny_pure (hQ s' acc d)))
 refine wpAny_mono told (fun fin s' h=>?_) fun e s' h=>absurd h.1 nofun
 match fin,h with
 |.done _,h=>exact read _ s' h
 |.again _,⟨h1,h2⟩=>exact⟨h1,codeAny_mono h2 read⟩
theorem nZ{Q:List Value->Shared->Prop}{r:Addr}{lo hi st:Int}{t u v:Tok}{n:Nat}(hh:A.handled=none)(hr:IsRange s.heap r lo hi st t u v)(hsm:Builtin.Range.small lo hi st=true)(hn:Builtin.Range.rangeSize lo hi st=n)(hle:n<=2^24)(hQ:∀h' tk acc,(∀b o,s.heap.get? b=some o->h'.get? b=some o)->ItemsOf (fun i v=>∃t,v=.int (lo+i*st) t) acc n->Q acc.toList { s with heap:=h',toks:=tk }):
  wpAny (model prog w) A (collect (.ref r)) Q E s:=by
 refine uw (Done:=fun s' acc=>∃h' tk,s'={ s with heap:=h',toks:=tk }/\(∀b o,s.heap.get? b=some o->h'.get? b=some o)/\ItemsOf (fun i v=>∃t,v=.int (lo+i*st) t) acc n) (fun Rs k=>?_) ?_
 ·have hS:(s.heap.push { cls:=.type "list",data:=.seq #[] }).get? s.heap.objs.size=some { cls:=.type "list",data:=.seq #[] 0 }:=get?_push_size _ rfl;refine wpAny_extend_range (A:=A) (s:={ s with heap:=s.heap.push { cls:=.type "list",data:=.seq #[] } }) hh (show IsRange (s.heap.push _) r lo hi st t u v from get?_push_of_some _ hr) hsm hn hle _ _ 0 hS fun h' tk acc c hk e hi=>?_;exact k _ acc c e ⟨h',tk,rfl,fun b o q=>hk b o (ne_of_lt (lt_size q)) (get?_push_of_some _ q),hi⟩
 ·rintro s' acc ⟨h',tk,rfl,hk,hi⟩;exact hQ h' tk acc hk hi
theorem xG{Q:L5}{r:Addr}{ty:String}{n:Nat}(hT:s.TypeIs (.ref r) ty)(hne:(Value.type ty==Value.type "tuple")=false)(hn:n<=sizeLine){Done:Heap->Nat->Array Value->Prop}(col:∀Q':List Value->Shared->Prop,(∀h' tk acc,Done h' tk acc->Q' acc.toList { s with heap:=h',toks:=tk })->∀E',wpAny (model prog w) A.in1.in1 (collect (.ref r)) Q' E' s)(sz:∀h' tk acc,Done h' tk acc->acc.size=n)(hQ:∀h' tk acc,Done h' tk acc->Q (.ref h'.objs.size) { s with heap:=h'.push { cls:=.type "tuple",data:=.seq acc },toks:=tk }):
  wpAny (model prog w) A (call (.type "tuple") [.ref r]) Q E s:=by
 refine callType_codes (Q₁:=fun obj s₁=>s₁.TypeIs obj "tuple"/\Q obj s₁) F.called_tuple (F.typeCall_tuple_1 _) F.entry_object_init (codeAny_of_tree ?_) fun obj s₁⟨h1,h2⟩=>
  ⟨h1,F.args_object_init_2 obj _,object_init_meets F.called_tuple.init.lookup F.called_tuple.made (by decide) prog w A.in1 _ s₁ ⟨h1,rfl,h2⟩⟩
 have checked:=F.newCall_tuple_1 (.ref r);apply wpAny_bind (m:=checkBuiltinCall "tuple.__new__" ⟨[.type "tuple",.ref r],[]⟩);refine wpAny_of_eq checked (wpAny_pure ⟨plainId_quiet F.plain_tuple_new _,codeAny_builtin F.entry_tuple_new ?_⟩);simp only[Around.under_plainId F.plain_tuple_new];have q1:=sub_tuple_self;have q2:=init_tuple_lookup;have q3:=madeHere_tuple
 wp_walk using wpAny_typeOf hT,fun Q' E' k=>col Q' k E'
 intro h' tk acc d;have ea:acc.toList.toArray=acc:=Array.toArray_toList ..;apply wpAny_bind (m:=Builtin.Tuple.tupleExact acc.toList.toArray);rw[ea];exact wpAny_newObj_type (wpAny_pure ⟨⟨_,get?_push_size _ rfl,rfl⟩,hQ h' tk acc d⟩) (by show acc.size<=sizeLine;rw[sz h' tk acc d];exact hn)
end
section
variable{X:Cx}
theorem fj:eX X (.type "range") (fun xs H Q=>∃j:Int,xs=[.int j]/\∀p,H p=none->Q (.ref p) (upd H p (.qm 0 j))):=by
 intro pins s σ H xs us Q I r h;obtain⟨j,rfl,q⟩:=h;obtain⟨u,rfl,rx⟩:=vals1 r;obtain⟨t,rfl⟩:=rx;refine call_range_1 ?_;exact⟨.ref s.heap.objs.size,upd H s.heap.objs.size (.qm 0 j),I.laid (fun b o e=>get?_push_of_some _ e) (le_refl _) ⟨_,_,_,get?_push_size _ rfl⟩,rfl,q _ (I.a8.fresh (le_refl _))⟩
theorem jb(hc:X.calm=true):eX X (.type "list") (fun xs H Q=>∃p n,xs=[.ref p]/\H p=some (.qm 0 ((n:Nat):Int))/\n<=2^24/\∀l,H l=none->Q (.ref l) (upd H l (.lst (cR n)))):=by
 intro pins s σ H xs us Q I r h;obtain⟨p,n,rfl,hp,hn,q⟩:=h;obtain⟨u,rfl,rx⟩:=vals1 r;cases rx;obtain⟨t,u',v,e⟩:=(show bB X.prog X.w H s.heap p (.qm 0 n)from I.a8 p _ hp);refine call_list_range (n:=n) (I.ok.hd hc) (show IsRange s.heap p 0 n 1 t u' v from e) (small_one (by omega) (by omega) (by omega) (by omega)) (by rw[rangeSize_one];split<;>omega) hn fun h' tk acc c' hk e' hi=>?_;have rv:=lK hi;exact⟨.ref s.heap.objs.size,upd H s.heap.objs.size (.lst (cR n)),I.laid hk (le_refl _) ⟨by rw[gE,sizeLine_eq];omega,acc.toList,c',rv,by simpa using e'⟩,rfl,q _ (I.a8.fresh (le_refl _))⟩
theorem sC(hc:X.calm=true):eX X (.type "tuple") (fun xs H Q=>∃p n,xs=[.ref p]/\H p=some (.qm 0 ((n:Nat):Int))/\n<=2^24/\∀l,H l=none->Q (.ref l) (upd H l (.tup (cR n)))):=by
 intro pins s σ H xs us Q I r h;obtain⟨p,n,rfl,hp,hn,q⟩:=h;obtain⟨u,rfl,rx⟩:=vals1 r;cases rx;obtain⟨t,u',v,e⟩:=(show bB X.prog X.w H s.heap p (.qm 0 n)from I.a8 p _ hp);refine xG (n:=n) (Done:=fun h' tk acc=>(∀b o,s.heap.get? b=some o->h'.get? b=some o)/\ItemsOf (fun i v=>∃t,v=.int (0+(i:Int)*1) t) acc n) ⟨_,e,rfl⟩ (by decide) (by rw[sizeLine_eq];omega)
  (fun Q' k E'=>nZ (A:=X.A.in1.in1) (n:=n) (I.ok.hd hc) (show IsRange s.heap p 0 n 1 t u' v from e) (small_one (by omega) (by omega) (by omega) (by omega)) (by rw[rangeSize_one];split<;>omega) hn fun h' tk acc hk hi=>k h' tk acc ⟨hk,hi⟩)
  (fun _ _ _ d=>d.2.1) fun h' tk acc⟨hk,hi⟩=>?_
 have rv:=lK hi;have I1:Inv X pins σ H { s with heap:=h',toks:=tk }:=I.kept (t':=tk) hk;have I2:Inv X pins σ (upd H h'.objs.size (.tup (cR n))) { s with heap:=h'.push { cls:=.type "tuple",data:=.seq acc },toks:=tk }:=
  I1.laid (t':=tk) (fun b o e=>get?_push_of_some _ e) (le_refl _) (show bB X.prog X.w _ _ _ (.tup (cR n))from⟨by rw[gE,sizeLine_eq];omega,acc.toList,rv,by simpa using IsTup.new h' acc⟩)
 exact⟨.ref h'.objs.size,_,I2,rfl,q _ (I1.a8.fresh (le_refl _))⟩
end
theorem j9:∀{us:List Value}{ns:List Int},us.length=ns.length->(∀(i:Nat)u n,us[i]?=some u->ns[i]?=some n->∃t,u=.int n t)->IntsAre us ns
 |[],[],_,_=>.nil
 |[],_::_,h,_=>by simp at h
 |_::_,[],h,_=>by simp at h
 |u::us,n::ns,h,r=>by
  obtain⟨t,rfl⟩:=r 0 u n rfl rfl
  exact .cons _ _ (j9 (by simpa using h) fun i y v h1 h2=>r (i+1) y v (by simpa using h1) (by simpa using h2))
section
variable{X:Cx}
theorem m7(hc:X.calm=true):eX X (.builtin "sorted") (fun vs H Q=>∃(a:Addr)(kvs:List (Key×V))(ns:List Int),vs=[V.ref a]/\H a=some (.dK kvs)/\kvs.map (·.1)=ns.map Sum.inl /\
  ∀(ns':List Int)(p:Addr),ns'.Perm ns->ns'.Pairwise (·<=·)->H p=none->Q (.ref p) (upd H p (.lst (ns'.map V.int)))):=by
 intro pins s σ H vs us Q I r h;obtain⟨a,kvs,ns,rfl,ha,hk,q⟩:=h;rw[Vals.nQ r];obtain⟨hz,lo,vs,rel,dd⟩:=Ax I.a8 ha;obtain⟨ep,hat⟩:=dd.dictAt;have hl:vs.length=kvs.length:=rel.length.symm;have hkl:kvs.length=ns.length:=by have:=congrArg length hk;simpa using this
 apply Calls.call_function_entry kind_sorted plain_sorted entry_sorted (args_sorted1 _);apply wpAny_bind (m:=checkCount "sorted" 1 1 _);apply wpAny_pure;refine wpAny_bind (PySem.W.kdu_collect (A:=X.A.in1) (PySem.W.kdl_dict (knd:=cz X.prog X.w) (kvs:=vs) (ep:=ep) lo) (I.ok.hd hc) hat (by omega) fun h' tk acc kp hacc=>?_);have hal:acc.toList.length=ns.length:=by rw[length_toList,hacc.1,hl,hkl]
 have hI:IntsAre acc.toList ns:=j9 hal fun i u n h1 h2=>by
  obtain⟨k,x,hx,hki⟩:=hacc.2 i u (by rw[<-getElem?_toList];exact h1);have e1:(kvs.map (·.1))[i]?=some (Sum.inl n):=by rw[hk,getElem?_map,h2];rfl
  have hi:i<kvs.length:=by rw[hkl];exact(Nd h2).1
  obtain⟨b,hb,hr⟩:=bP rel (getElem?_eq_getElem hi);rw[hx]at hb;have eb:(k,x)=b:=Nc hb;have e3:kvs[i].1=k:=by rw[hr.1,<-eb]
  rw[getElem?_map,getElem?_eq_getElem hi]at e1;have e4:kvs[i].1=Sum.inl n:=Nc e1;rw[<-e3,e4]at hki;rcases bX (show mQ (Sum.inl n) u=true from hki)with⟨j,t,ej,eu⟩|⟨y,t,ej,_⟩
  ·cases ej;exact⟨t,eu⟩
  ·cases ej
 refine wpAny_bind (wpAny_newList ?_ (by rw[hal,<-hkl];exact hz));have I1:Inv X pins σ H { s with heap:=h',toks:=tk }:=I.kept (t':=tk) kp;have hoL:(h'.push (seqObj "list" acc.toList.toArray 0)).get? h'.objs.size=some (seqObj "list" acc.toList.toArray 0):=get?_push_size _ rfl;refine wpAny_bind (wpAny_holding (wpAny_call_entry slot_list_sort ⟨_,hoL,rfl⟩ entry_list_sort (list_sort_treeAny hoL hI (by rw[hal,<-hkl];exact hz) fun out ns' h1 h2 h3=>⟨_,rfl,?_⟩) (args_list_sort _)));refine wpAny_pure ⟨_,rfl,?_⟩;obtain⟨e2,he'⟩:=sortedHeap_at (vs:=acc.toList) (out:=out) hoL;have hlen:(ns'.map V.int).length<=sizeLine:=by rw[length_map,h2.length_eq,<-hkl];exact hz
 refine⟨.ref h'.objs.size,upd H h'.objs.size (.lst (ns'.map V.int)),I1.laid (t':=tk) (fun b u hu=>?_) (le_refl _) ⟨hlen,out.toList,e2,gB h1,by simpa[seqObj]using he'⟩,rfl,q ns' _ h2 h3 (I1.a8.fresh (le_refl _))⟩;have hb:b≠h'.objs.size:=ne_of_lt (lt_size hu);rw[sortedHeap_old hb (by rw[size_push'];exact lt_succ_of_lt (lt_size hu))];exact get?_push_of_some _ hu
theorem wK(hu:X.A.units+66<cLine):KN X "list.index" (fun x xs H Q=>∃(a:Addr)(ys:List V)(y:V)(d:PyData)(es:List PyData)(j:Nat)(e:PyData),x=.ref a/\xs=[y]/\aH X.K H a ys/\iS X.K H ys es/\Dp X.K H y d/\SeqAt.shaped d=true/\SeqAt.shaped (.list es)=true /\
  es[j]?=some e/\PyData.eqv e d=true/\(∀(m:Nat)(e':PyData),m<j->es[m]?=some e'->PyData.eqv e' d=false)/\Q (.int (j:Nat)) H):=by
 intro pins s σ H x xs v us Q I rx rxs h;obtain⟨a,ys,y,d,es,j,e,rfl,rfl,hs,hes,hd,sd,se,hej,hje,hno,q⟩:=h;cases rx;cases rxs with
 |cons ry rt=>
  rename_i uy ut;cases rt;obtain⟨its,rv,⟨⟨cls,dd,data,sl⟩,n,ho,hc,hdn,hdd⟩,hlen⟩:=I.list hs;simp only at hc hdd;subst hc hdd;obtain⟨as,r1⟩:=Dp.reads I d y uy hd ry;obtain⟨bs,r2⟩:=Dp.readsAll I es ys its hes rv;have hcl:PyData.canLayAll0 es=true:=SeqAt.canLay_of_shaped se;have hmap:=SeqAt.readsAll_map es its bs hcl r2;have hvl:=rv.length;have hsl:=sizeLine_eq;have hjl:j<its.length:=by
   have h1:=(Nd hej).1;rw[<-hmap,length_map]at h1;exact h1
  have rd:∀(m:Nat)(hm:m<its.length)e',es[m]?=some e'->SeqAt.readOf s.heap its[m]=e':=fun m hm e' he'=>by
   rw[<-hmap,getElem?_map,getElem?_eq_getElem hm]at he';exact Nc he'
  refine call_meets slot_list_index ⟨_,ho,rfl⟩ PySem.F.entry_list_index (PySem.F.args_list_index_2 _ _)
   (SeqAt.list_indexAt a its.toArray n dd sl uy (fun z=>PyData.eqv (SeqAt.readOf s.heap z) d) j (by simpa using hjl) (by omega) ?_ ?_) ⟨ho,fun u' hu'=>?_,?_⟩
  ·show PyData.eqv (SeqAt.readOf s.heap its.toArray[j]) d=true;have e1:its.toArray[j]'(by simpa using hjl)=its[j]:=by simp
   rw[e1,rd j hjl e hej];exact hje
  ·intro m hm hmj;have hml:m<its.length:=by simpa using hm
   have hme:m<es.length:=by rw[<-hmap,length_map];exact hml
   show PyData.eqv (SeqAt.readOf s.heap its.toArray[m]) d=false;have e1:its.toArray[m]=its[m]:=by simp
   rw[e1,rd m hml _ (getElem?_eq_getElem hme)];exact hno m _ hmj (getElem?_eq_getElem hme)
  ·exact SeqAt.items_eqAt (A:=X.A) (vs:=its.toArray) (by simpa using r2) r1 hcl (SeqAt.canLay_of_shaped sd) (PyProof.Rows.room_in_shaped sd (by omega)) u' hu'
  ·exact⟨.int (j:Nat),H,I.tok _,⟨_,rfl⟩,q⟩
end
theorem aj.IK{K:Frag}{H H':Hp}{a:Addr}{xs:List V}(e:aj H H')(h:gr K H a xs):gr K H' a xs:=by
 rcases h with(h|⟨o,h⟩)|h
 ·exact .inl (.inl (e _ _ h))
 ·exact .inl (.inr ⟨o,e _ _ h⟩)
 ·exact .inr h
theorem aj.upd{H:Hp}{p:Addr}{o:HO}(h:H p=none):aj H (upd H p o):=fun b u e=>by rw[ao (ax e h)];exact e
theorem aj.over{H H':Hp}{p:Addr}{o:HO}(h:H p=none)(s:aj H H'):aj H (L2.upd H' p o):=fun b u e=>by rw[ao (ax e h)];exact s b u e
def gu(H1:Hp)(D:Addr)(acc:Nat->List V)(i:Nat)(H:Hp):Prop:=aj H1 H/\H D=some (.lst (acc i))
section
variable{H1 H H4:Hp}{D:Addr}{acc:Nat->List V}{i:Nat}
theorem gu.start(hD:H1 D=none)(h0:acc 0=[]):gu H1 D acc 0 (L2.upd H1 D (.lst [])):=⟨aj.upd hD,by rw[ae,h0]⟩
theorem gu.push{y:V}(p:gu H1 D acc i H)(hD:H1 D=none)(s:aj H H4)(hl:(acc i).length<sizeLine)(e:acc (i+1)=acc i++[y]):
  ∃ac,H4 D=some (.lst ac)/\ac.length<sizeLine/\gu H1 D acc (i+1) (L2.upd H4 D (.lst (ac++[y]))):=
 ⟨acc i,s _ _ p.2,hl,aj.over hD (p.1.trans s),by rw[ae,e]⟩
theorem gu.skip(p:gu H1 D acc i H)(s:aj H H4)(e:acc (i+1)=acc i):gu H1 D acc (i+1) H4:=⟨p.1.trans s,by rw[e];exact s _ _ p.2⟩
end
theorem gu.done{H1 H:Hp}{D:Addr}{zs:List V}{n:Nat}(p:gu H1 D (fun i=>zs.take i) n H)(h:zs.length<=n):H D=some (.lst zs):=by
 have q:H D=some (.lst (zs.take n)):=p.2;rwa [take_of_length_le h]at q
theorem fQ{zs:List V}{i:Nat}{y:V}(h:zs[i]?=some y):zs.take (i+1)=zs.take i++[y]:=by rw[take_add_one,h];rfl
section
variable{X:Cx}
def Ef(tk tv:TE):TE:=fun σ H Q=>∀p,H p=none->tk σ (upd H p (.dT [])) fun x H1=>tv σ H1 fun y H2=>∃b ks,x=.ref b/\H2 p=some (.dT [])/\H2 b=some (.tup (ks.map kV))/\Q (.ref p) (upd H2 p (.dT [(ks,y)]))
theorem y6{k v:Expr}{pos:Pos}{tk tv:TE}(hu:X.A.units+1<cLine)(hk:PE X k tk)(hv:PE X v tv):PE X (.Dict [some k] [v] pos) (Ef tk tv):=by
 intro pins s σ H Q I q;have hn:=I.a8.fresh (le_refl s.heap.objs.size);have I1:=I.laid (a:=s.heap.objs.size) (o:=.dT []) (h':=s.heap.push { cls:=.type "dict",data:=.dict #[] }) (t':=s.toks) (fun _ _ q=>get?_push_of_some _ q) (le_refl _) (Aw s.heap I.big);refine wpAny_Dict_any rfl rfl (by simp) (by simp) (pairTrees_cons_walk (bK (hk pins _ σ _ _ I1 (q _ hn)) fun kv s1⟨x,H1,J1,rx,q1⟩=>bK (hv pins s1 σ H1 _ J1 q1) fun vv s2⟨y,H2,J2,ry,b,ks,ex,e,eb,q2⟩=>pairTrees_nil_walk ?_));subst ex;obtain rfl:kv=Value.ref b:=rx;obtain⟨z,hd,xs,rel,dd⟩:=DN J2.a8 e;cases rel;unfold storeAll;rw[forIn_cons];refine wpAny_bind (wpAny_bind (wpAny_dictSet_heap (knd:=tupleKind (cz X.prog X.w)) (by exact Nat.lt_of_succ_lt hu) (mN J2.a8 eb) dd fun h' dd' hs=>wpAny_pure ?_));dsimp only;rw[forIn_nil];refine wpAny_pure ⟨.ref s.heap.objs.size,_,?_,rfl,q2⟩;obtain⟨o,es,ep,hq,h2,h3,h4,_,h5⟩:=dd';refine lq J2 (by rw[e];exact True.intro) hs ⟨o,hq⟩ ⟨by show 1<=sizeLine;decide,hd,[(ks,b,vv)],.cons ⟨rfl,?_,ry⟩ .nil,o,es,ep,hq,h2,h3,h4,h5⟩;rw[ao (bw eb e (fun z=>nomatch z))];exact eb
end
open PySem.W (CodeHd FnAt)
def nv(a:Addr)(o:Obj):HO:=.ext fun h=>h.get? a=some o
section
variable{P:Program}{w:World}{H:Hp}{h:Heap}{a:Addr}{o:Obj}
theorem qh(a8:gq P w H h)(e:H a=some (nv a o)):h.get? a=some o:=by
 obtain⟨q,_⟩:=(show bB P w H h a (.ext fun h=>h.get? a=some o)from a8 a _ e);exact q
theorem uB(e:h.get? a=some o):bB P w H h a (nv a o):=
 show bB P w H h a (.ext fun h=>h.get? a=some o)from⟨e,⟨o,e⟩,fun _ _ p k=>k o p⟩
end
def ko(H:Hp)(c:Addr)(qual:Str):Prop:=∃oc vs t,H c=some (nv c oc)/\oc.data=.fields vs/\vs[1]?=some (.str qual t)
theorem ko.Li{P:Program}{w:World}{H:Hp}{h:Heap}{c:Addr}{qual:Str}(x:ko H c qual)(a8:gq P w H h):h.CodeRec (.ref c) qual:=by
 obtain⟨oc,vs,t,e,hd,hv⟩:=x;exact⟨c,oc,vs,t,rfl,qh a8 e,hd,hv⟩
def km(H:Hp)(P:Addr)(pos:Pos)(qual:Str):Prop:=
 H P=some (.eL #[])\/∃c,H P=some (.eL #[rawInt pos.line,rawInt pos.col,.ref c])/\ko H c qual
structure Tab(mg:GmT)(base:Heap)(cd:Value)(P:Addr):Prop where
 code:∃c,cd=.ref c/\CodeHd base c P
 bm:∃bm ob,mg "__builtins__"=some (.ref bm)/\bm≠builtinsNs/\base.get? bm=some ob/\ob.cls=.type "module"/\ob.dict=some builtinsNs/\ob.data=.plain
abbrev iR(name qual:Str)(params:Arguments)(body:List Stmt)(scope:Scope)(clos:List (Str×Addr))(doc pm:Value)(c:Addr)(ct:Value):Obj:=
 { cls:=.type "function",data:=.func (fnX name qual params body scope clos .none .none doc pm none (.ref c) ct) }
def K4(P:Addr)(pos:Pos)(name qual:Str)(params:Arguments)(body:List Stmt)(scope:Scope)(clos:List (Str×Addr))(pm:Value)(i:Nat):TS:=fun D σ H=>km H P pos qual /\
 ∀(H':Hp)(f c:Addr)(doc ct:Value),(∀b o,H b=some o->b≠P->H' b=some o)->H f=none->H' f=some (nv f (iR name qual params body scope clos doc pm c ct))->ko H' c qual->km H' P pos qual->D.nx (σ.set i (some (.ref f))) H'
section
variable{X:Cx}
theorem yX{name qual:Str}{params:Arguments}{body:List Stmt}{scope:Scope}{pos:Pos}{i:Nat}{P:Addr}{cd:Value}{clos:List (Str×Addr)}(hN:X.N.Nodup)(hi:X.N[i]?=some name)(hx:Loc X.env.scope name)(hcode:X.env.code=cd)(T:Tab X.mg X.base cd P)(hcl:closureFor scope X.env=pure clos)(hq:qualnameIn X.env name name=qual)(hd0:params.defaults=[])(hk0:params.kw_defaults=[])(ha:annTrees params none X.env=[])(hf:X.fn name=true\/X.env.scope.names.lookup name=some .local):
  PS X (.FunctionDef name params body [] none [] scope none name pos) (K4 P pos name qual params body scope clos ((X.mg "__name__").getD .none) i):=by
 intro pins s σ H D I h;obtain⟨tb,k⟩:=h;obtain⟨c,rfl,CH⟩:=T.code;obtain⟨bm,ob,b1,b2,b3,b4,b5,b6⟩:=T.bm;refine PySem.W.nestDef_K hd0 hk0 ha ?_;rw[hq];have hC:CodeHd s.heap c P:=CH.keeps I.bk;have hgs:s.heap.Ns mainGlobals X.mg:=I.ok.mod.glob.keeps I.bk;have e3:=I.bk _ _ b3;have tbl_at:∀ps,H P=some (.eL ps)->s.heap.get? P=some (tabObj ps):=fun ps e=>(show bB X.prog X.w H s.heap P (.eL ps)from I.a8 P _ e);have hbG:bm≠mainGlobals:=fun q=>by
  obtain⟨o,es,ep,e,hd,_⟩:=hgs;rw[q,e]at e3;cases e3;rw[hd]at b6;cases b6
 have hB:∀ps,H P=some (.eL ps)->s.heap.BuiltinsAt X.mg P:=fun ps e=>by
  have hP:=tbl_at ps e;refine⟨bm,ob,b1,b2,hbG,fun q=>?_,e3,b4,b5,b6⟩;rw[q,hP]at e3;cases e3;cases b4
 have hgP:∀ps,H P=some (.eL ps)->mainGlobals≠P:=fun ps e q=>by
  have hP:=tbl_at ps e;obtain⟨o,es,ep,e',hd,_⟩:=hgs;rw[q,hP]at e';cases e';cases hd
 rcases tb with eP|⟨c',eP,hc'⟩
 ·have hP:=tbl_at _ eP;refine PySem.W.makeFunction_K (ps:=#[]) hcl I.ok.glob hgs hcode hC hP (by exact True.intro) rfl (hgP _ eP) (hB _ eP) fun c' ctv doc h' tk hx' hge hlt hrec htb=>?_;obtain⟨c₂,oc,vs,t,e2,hoc,hd,hv⟩:=hrec;cases e2
  let fo:Obj:=iR name qual params body scope clos doc ((X.mg "__name__").getD .none) c' ctv
  let f:Addr:=h'.objs.size
  let H1:Hp:=upd (upd (upd H P (.eL #[rawInt pos.line,rawInt pos.col,.ref c'])) c' (nv c' oc)) f (nv f fo)
  have nc:H c'=none:=I.a8.fresh hge;have lf:s.heap.objs.size<=f:=le_trans hge (le_of_lt hlt);have nf:H f=none:=I.a8.fresh lf;have cf:c'≠f:=ne_of_lt hlt;have Pc:P≠c':=ax eP nc;have Pf:P≠f:=ax eP nf;have old:∀b o,H b=some o->b≠P->H1 b=some o:=fun b o e hb=>by
   show upd _ f _ b=_;rw[ao (ax e nf),ao (ax e nc),ao hb];exact e
  have atP:H1 P=some (.eL #[rawInt pos.line,rawInt pos.col,.ref c']):=by
   show upd _ f _ P=_;rw[ao Pf,ao Pc,ae]
  have atc:H1 c'=some (nv c' oc):=by
   show upd _ f _ c'=_;rw[ao cf,ae]
  have atf:H1 f=some (nv f fo):=ae;have kp:∀b o,b≠P->s.heap.get? b=some o->(h'.push fo).get? b=some o:=fun b o hb e=>get?_push_of_some _ (hx' b o hb e);have gP:(h'.push fo).get? P=some { cls:=.none,data:=.fields #[rawInt pos.line,rawInt pos.col,.ref c'] }:=get?_push_of_some _ (by simpa using htb);have gc:(h'.push fo).get? c'=some oc:=get?_push_of_some _ hoc;have gf:(h'.push fo).get? f=some fo:=get?_push_size _ rfl;have nP:∀b,H b=none->b≠P:=fun b n q=>by rw[q,eP]at n;cases n
  have un:Un X.fs [] H H1 s.heap (h'.push fo):=by
   refine⟨fun b o e n _ _=>kp b o (nP b n) e,fun b o e n _ _=>⟨o.slots,kp b o (nP b n) e⟩,fun b o e n _=>?_,fun b o e _=>?_,fun b xs e=>old b _ e (bw e eP (by intro z;cases z)),fun b o u e=>old b _ e (bw e eP (by intro z;cases z)),fun b ps e=>?_⟩
   ·show upd _ f _ b=_;rw[ao (ne_of_lt (lt_of_lt_of_le (lt_size e) lf)),ao (ne_of_lt (lt_of_lt_of_le (lt_size e) hge)),ao (nP b n)];exact n
   ·by_cases hb:b=P
    ·subst hb;exact⟨_,gP⟩
    ·exact⟨o,kp b o hb e⟩
   ·by_cases hb:b=P
    ·subst hb;rw[eP]at e;cases e;exact⟨#[rawInt pos.line,rawInt pos.col,.ref c'],by rw[atP];simp⟩
    ·exact⟨#[],by rw[old b _ e hb];simp⟩
  have ok1:gq X.prog X.w H1 (h'.push fo):=fun b u e=>by
   by_cases hf1:b=f
   ·subst hf1;rw[atf]at e;cases e;exact uB gf
   ·by_cases hc1:b=c'
    ·subst hc1;rw[atc]at e;cases e;exact uB gc
    ·by_cases hP1:b=P
     ·subst hP1;rw[atP]at e;cases e;exact gP
     ·have e':H b=some u:=by
       have e2:upd (upd (upd H P (.eL #[rawInt pos.line,rawInt pos.col,.ref c'])) c' (nv c' oc)) f (nv f fo) b=some u:=e;rw[ao hf1,ao hc1,ao hP1]at e2;exact e2
      refine(I.a8 b u e').stay (fun b2 v hb2 q=>kp b2 v ?_ q) (fun b2 q=>old b2 _ q (bw q eP (by intro z;cases z))) fun b2 xs q=>old b2 _ q (bw q eP (by intro z;cases z));rcases hb2 with z|z
      ·rw[z];exact hP1
      ·exact bw z eP (by intro z;cases z)
  have I1:Inv X pins σ H1 { s with heap:=h'.push fo,toks:=tk }:=I.un un ok1;refine g8 I1 hN hi hx (v:=.ref f) (u:=.ref f) rfl (fun s' I2=>?_) hf;exact⟨_,_,I2,k H1 f c' doc ctv old nf atf ⟨oc,vs,t,atc,hd,hv⟩ (.inr ⟨c',atP,oc,vs,t,atc,hd,hv⟩)⟩
 ·have hP:=tbl_at _ eP;refine PySem.W.makeFunction_hit (ps:=#[rawInt pos.line,rawInt pos.col,.ref c']) (cv:=.ref c') hcl I.ok.glob hgs hcode hC hP (by simp[TriplesOk,rawInt]) (by simp[codeAmong,rawInt]) (hB _ eP) fun ctv doc h' tk kp hsz=>?_
  let fo:Obj:=iR name qual params body scope clos doc ((X.mg "__name__").getD .none) c' ctv
  have nf:H h'.objs.size=none:=I.a8.fresh hsz;have I1:Inv X pins σ (upd H h'.objs.size (nv h'.objs.size fo)) { s with heap:=h'.push fo,toks:=tk }:=
   I.laid (fun b o e=>get?_push_of_some _ (kp b o e)) hsz (uB (get?_push_size _ rfl))
  have old:∀b o,H b=some o->upd H h'.objs.size (nv h'.objs.size fo) b=some o:=fun b o e=>by rw[ao (ax e nf)];exact e
  have hc1:ko (upd H h'.objs.size (nv h'.objs.size fo)) c' qual:=by
   obtain⟨oc,vs,t,e,r⟩:=hc';exact⟨oc,vs,t,old _ _ e,r⟩
  refine g8 I1 hN hi hx (v:=.ref h'.objs.size) (u:=.ref h'.objs.size) rfl (fun s' I2=>?_) hf;exact⟨_,_,I2,k _ h'.objs.size c' doc ctv (fun b o e _=>old b o e) nf ae hc1 (.inr ⟨c',old _ _ eP,hc1⟩)⟩
end
def ke(base h:Heap)(cs:List Addr):Heap:=hideAll h ((range h.objs.size).filter fun a=>!((base.get? a).isSome||cs.contains a))
section
variable{base h:Heap}{cs:List Addr}{b:Addr}{o:Obj}
theorem o9(e:h.get? b=some o)(x:(base.get? b).isSome=true\/b∈cs):(ke base h cs).get? b=some o:=by
 refine hideAll_get _ e fun hm=>?_;have q:=(List.mem_filter.mp hm).2;rcases x with x|x
 ·simp[x]at q
 ·have:cs.contains b=true:=by simpa using x
  simp[x]at q
theorem qZ(e:(ke base h cs).get? b=some o):h.get? b=some o/\((base.get? b).isSome=true\/b∈cs):=by
 have e':h.get? b=some o:=of_hideAll _ e;refine⟨e',?_⟩;apply byContradiction;intro n;have hm:b∈(range h.objs.size).filter fun a=>!((base.get? a).isSome||cs.contains a):=by
  refine List.mem_filter.mpr ⟨List.mem_range.mpr (lt_size e'),?_⟩;have n1:(base.get? b).isSome=false:=by
   cases q:(base.get? b).isSome with
   |true=>exact absurd (.inl q) n
   |false=>rfl
  have n2:b∉cs:=fun z=>n (.inr z);simp[n1,n2]
 have:=hideAll_none (h:=h) _ hm;have e2:(hideAll h ((range h.objs.size).filter fun a=>!((base.get? a).isSome||cs.contains a))).get? b=some o:=e;rw[this]at e2;cases e2
end
theorem je.wide{P:Program}{w:World}{K:Frag}{mg:GmT}{base:Heap}{A:Around}{outer:List Env}{s:Shared}{H:Hp}{cs:List Addr}(e:je P w K mg base A outer s H)(hc:∀c∈cs,H c=none)(hf:∀c∈cs,c∉r4 outer):
  je P w K mg (ke base s.heap cs) A outer s H/\∀b o,base.get? b=some o->(ke base s.heap cs).get? b=some o:=by
 have up:∀b o,base.get? b=some o->(ke base s.heap cs).get? b=some o:=fun b o q=>o9 (e.bs b o q).1 (.inl (by rw[q];rfl));have nsK:∀{b:Addr}{m:GmT},base.Ns b m->(ke base s.heap cs).Ns b m:=fun x=>x.keeps up;refine⟨⟨e.frames,⟨e.mod.Cc.keeps up,nsK e.mod.glob,let⟨mb,h1,h2⟩:=e.mod.blt;⟨mb,nsK h1,h2⟩,e.mod.nolimit.keeps up⟩,fun b o q=>?_,?_,?_,e.xw,e.a8,e.bare⟩,up⟩
 ·obtain⟨q1,q2⟩:=qZ q;refine⟨q1,?_⟩;rcases q2 with q2|q2
  ·obtain⟨o',q3⟩:=Option.isSome_iff_exists.mp q2;exact(e.bs b o' q3).2
  ·exact hc b q2
 ·exact le_of_eq (hideAll_size _ _)
 ·have all:∀l:List Env,(∀b∈r4 l,b∈r4 outer)->s.heap.FunFrames base l->s.heap.FunFrames (ke base s.heap cs) l:=by
   intro l
   induction l with
   |nil=>intro _ _;trivial
   |cons env rest ih=>
    intro hs hl;obtain⟨hk,⟨L,o,h1,h2,h3,h4⟩,hr⟩:=hl;have hL:L∈r4 (env::rest):=List.mem_filterMap.mpr ⟨env,mem_cons_self ..,h1⟩;refine⟨hk,⟨L,o,h1,?_,h3,h4⟩,ih (fun b hb=>hs b ?_) hr⟩
    ·cases q:(ke base s.heap cs).get? L with
     |none=>rfl
     |some o'=>
      rcases(qZ q).2 with z|z
      ·rw[h2]at z;cases z
      ·exact absurd (hs L hL) (hf L z)
    ·obtain⟨e1,m1,m2⟩:=List.mem_filterMap.mp hb;exact List.mem_filterMap.mpr ⟨e1,mem_cons_of_mem _ m1,m2⟩
  exact all outer (fun b hb=>hb) e.ir
def vV(X:Cx)(σ:St)(base:Heap):Prop:=∀(i:Nat)(x:Str)(v:V),X.N[i]?=some x->σ[i]?=some (some v)->X.env.scope.names.lookup x=some .cell->∃c u,X.env.cells.lookup x=some c/\base.IsCell c (some u)/\RelV v u
section
variable{X:Cx}{pins:LpT}{σ:St}{H:Hp}{s:Shared}
theorem rF{α:Type}:∀{l:List (Str×α)}{x:Str}{c:α},l.lookup x=some c->c∈l.map (·.2)
 |[],_,_,h=>by cases h
 |(y,d)::l,x,c,h=>by
  rw[lookup_cons]at h
  split at h
  ·cases h;simp
  ·exact mem_cons_of_mem _ (rF h)
theorem h9:∀{l:List (Str×Addr)}{c:Addr},c∈l.map (·.2)->(l.Pairwise fun x y=>x.1≠y.1)->∃x,l.lookup x=some c
 |(y,d)::l,c,h,nd=>by
  rcases Nf h with q|q
  ·exact⟨y,by rw[lookup_cons,beq_self_eq_true];simp[q]⟩
  ·obtain⟨x,hx⟩:=h9 q (List.pairwise_cons.mp nd).2
   refine⟨x,?_⟩
   have hm:=PySem.mem_of_lookup hx
   have ne:x≠y:=fun z=>(List.pairwise_cons.mp nd).1 _ hm z.symm
   rw[lookup_cons]
   have:(x==y)=false:=by simpa using ne
   rw[this];exact hx
theorem Inv.widen(I:Inv X pins σ H s)(hfn:∀x c,X.env.cells.lookup x=some c->X.fn x=true)(nd:X.env.cells.Pairwise fun x y=>x.1≠y.1):
  ∃base',je X.prog X.w X.K X.mg base' X.A X.stack s H/\(∀b o,X.base.get? b=some o->base'.get? b=some o)/\vV X σ base':=by
 let cs:=X.env.cells.map (·.2)
 have at_:∀c∈cs,∃x,X.env.cells.lookup x=some c:=fun c hc=>h9 hc nd;obtain⟨e1,e2⟩:=I.Au.wide (cs:=cs) (fun c hc=>by obtain⟨x,hx⟩:=at_ c hc;exact I.gT x c hx) (fun c hc hb=>by
  obtain⟨x,hx⟩:=at_ c hc;rcases Nf (I.pf c hb)with z|z
  ·exact I.DR x c hx z
  ·obtain⟨_,o,ho,_⟩:=I.ok.ir.mem z;exact absurd (lt_of_lt_of_le (lt_size ho) (I.ok.Ip x c (hfn x c hx) hx)) (lt_irrefl _))
 refine⟨_,e1,e2,fun i x v h1 h2 h3=>?_⟩;obtain⟨m,hn,hl⟩:=I.loc;obtain⟨u,r,l⟩:=hl i x v h1 h2 (.inr (.inl h3));rcases l with⟨k,_⟩|⟨_,c,hc,o,ho,hd⟩
 ·have:X.env.scope.names.lookup x=some .local:=k;rw[h3]at this;cases this
 ·exact⟨c,u,hc,⟨o,o9 ho (.inr (rF hc)),hd⟩,r⟩
end
section
variable{X:Cx}{k:Nat}{f:Addr}{fd:FuncData}{ps:List Str}{spB:Heap->Sp}{x:Str}{p pos:Pos}{e:Expr}{es:List Expr}{t:TA}
def Ek(X:Cx)(spB:Heap->Sp)(t:TA):TE:=fun σ H Q=>t σ H fun vs H1=>∀base',(∀b o,X.base.get? b=some o->base'.get? b=some o)->vV X σ base'->spB base' vs H1 Q E0
theorem qV(F:∀base',(∀b o,X.base.get? b=some o->base'.get? b=some o)->aG X.prog X.w X.K X.mg base' bA k f fd ps (spB base'))(hr:bR k X.A)(hg:Gl X x)(hm:X.mg x=some (.ref f))(hk:PySem.W.keepIn X.K (.ref f)=true)(hb:Binds X.K fd ps [])(hx:Passes bA X E0)(hfn:∀x c,X.env.cells.lookup x=some c->X.fn x=true)(nd:X.env.cells.Pairwise fun x y=>x.1≠y.1)(ha:PA X (e::es) t)(hdb:(x==("__debug__":Str))=false:=by decide)(he:starEach (e::es) X.env=(false,eval e X.env)::starEach es X.env:=by rfl)(hpl:(backTo pos (starEach es X.env)).any (·.1)=false:=by rfl):
  PE X (.Call (.Name x p) (e::es) [] pos) (Ek X spB t):=by
 intro pins s σ H Q I h;refine wpAny_Call_Name_kw (ju I hg hm ?_ hdb);refine callWith_K (h₀:=X.base) I.ok.mod.Cc hk (bK (ha pos pins s σ H _ I h) fun us s1⟨vs,H1,I1,r,q⟩=>⟨I1.mS,?_⟩) he hpl;obtain⟨base',e0,up,ci⟩:=I1.widen hfn nd;have hs:=q base' up ci;have F':=F base' up;have hl:us.length=ps.length:=by rw[<-r.length];exact F'.len _ _ _ _ hs
 have hbb:=hb s1 us I1.mS (by simpa using hl);rw[append_nil]at hbb;refine wpAny_call (codeAny_mono (F'.run X.A X.stack s1 H1 ⟨us,[]⟩ us vs Q E0 hr e0 hbb r hs) fun r s' hq=>?_);cases r with
 |error e=>exact hx pins σ H1 s1 e s' I1 hq
 |ok fl=>
  cases fl with
  |ret u=>exact I1.after hq
  |next=>exact False.elim hq
  |brk=>exact False.elim hq
  |cont=>exact False.elim hq
def AW(K:Frag)(H:Hp)(f:Addr):Prop:=(∃oc od fd sl,K.lookup f=some ⟨oc,od,.func fd,sl⟩)\/∃oc od fd sl,H f=some (nv f ⟨oc,od,.func fd,sl⟩)
theorem AW.at_{pins:LpT}{σ:St}{H:Hp}{s:Shared}{f:Addr}(x:AW X.K H f)(I:Inv X pins σ H s):FnAt f s.heap:=by
 rcases x with⟨oc,od,fd,sl,e⟩|⟨oc,od,fd,sl,e⟩
 ·exact⟨oc,od,fd,sl,I.mS _ _ e⟩
 ·exact⟨oc,od,fd,sl,qh I.a8 e⟩
def xJ(X:Cx)(k:Nat)(tf:TE)(t:TA):TE:=fun σ H Q=>tf σ H fun v H1=>∃f fd ps sp,v=.ref f/\aG X.prog X.w X.K X.mg X.base bA k f fd ps sp/\Binds X.K fd ps []/\AW X.K H1 f/\t σ H1 fun vs H2=>AW X.K H2 f/\sp vs H2 Q E0
theorem y8{tf:TE}(hf:PE X (.Name x p) tf)(hr:bR k X.A)(hx:Passes bA X E0)(ha:PA X (e::es) t)(he:starEach (e::es) X.env=(false,eval e X.env)::starEach es X.env:=by rfl)(hpl:(backTo pos (starEach es X.env)).any (·.1)=false:=by rfl):
  PE X (.Call (.Name x p) (e::es) [] pos) (xJ X k tf t):=by
 intro pins s σ H Q I h;refine wpAny_Call_Name_kw (bK (hf pins s σ H _ I h) fun u s0⟨v,H1,I1,r,f,fd,ps,sp,ev,F,hb,hk,q⟩=>?_);subst ev;obtain rfl:u=Value.ref f:=r;refine callWith_F (hk.at_ I1) (bK (ha pos pins s0 σ H1 _ I1 q) fun us s1⟨vs,H2,I2,r2,hk2,q2⟩=>⟨hk2.at_ I2,?_⟩) he hpl;refine jM (dvs:=[]) (ds:=[]) F hr hb .nil hx I2 r2 ?_;rw[append_nil];exact q2
end
structure ql(N ps fr lo:List Str)(sc:Scope):Prop where
 kind:sc.kind=.function
 co:sc.isCoroutine=false
 gen:sc.isGenerator=false
 nd:N.Nodup
 eq:N=ps++fr++lo
 par:∀x∈ps,sc.names.lookup x=some .local
 free:∀x∈fr,sc.names.lookup x=some .free
 zy:∀y∈sc.names,y.2≠.cell
 all:∀y∈sc.names,y.2=.free->y.1∈fr
theorem zV{α:Type}{l:List (Str×α)}{x:Str}{u:α}(nd:(l.map (·.1)).Nodup)(h:(x,u)∈l):l.reverse.lookup x=some u:=by
 have go:∀m:List (Str×α),(m.map (·.1)).Nodup->(x,u)∈m->m.lookup x=some u:=by
  intro m
  induction m with
  |nil=>intro _ h;cases h
  |cons p m ih=>
   intro nd h;obtain⟨y,v⟩:=p;rw[map_cons]at nd;rcases Nf h with q|q
   ·cases q;rw[lookup_cons,beq_self_eq_true]
   ·have ne:x≠y:=fun z=>(List.nodup_cons.mp nd).1 (by rw[<-z];exact List.mem_map.mpr ⟨(x,u),q,rfl⟩);rw[lookup_cons];have:(x==y)=false:=by simpa using ne
    rw[this];exact ih (List.nodup_cons.mp nd).2 q
 refine go _ ?_ (List.mem_reverse.mpr h);rw[List.map_reverse];exact(List.reverse_perm _).nodup_iff.mpr nd
def Cv(P:Program)(w:World)(K:Frag)(mg:GmT)(base:Heap)(N:List Str)(qual:Str)(scope:Scope)(clos:List (Str×Addr))(f:Addr)(cd:Value)(A:Around)(outer:List Env)(s:Shared)(H:Hp)(E:XK):Cx where
 prog:=P
 w:=w
 K:=K
 mg:=mg
 base:=base
 A:=A.deeper (envX qual scope s.heap.objs.size f cd clos)
 N:=N
 nO:=s
 Ir:=H
 env:=envX qual scope s.heap.objs.size f cd clos
 outer:=outer
 stack:=envX qual scope s.heap.objs.size f cd clos::outer
 ex:=[]
 calm:=true
 fn:=fun _=>false
 pn:=[]
 xe:=fun e s'=>wpAny (model P w) (A.deeper (envX qual scope s.heap.objs.size f cd clos)) (leaving (envX qual scope s.heap.objs.size f cd clos) e) (fun _ s''=>bA outer H s E e s'') (fun e' s''=>bA outer H s E e' s'') s'
def nk(base:Heap)(clos:List (Str×Addr))(fr:List Str)(fv:List V):Prop:=fv.length=fr.length/\∀(i:Nat)(x:Str)(v:V),fr[i]?=some x->fv[i]?=some v->∃c u,clos.lookup x=some c/\base.IsCell c (some u)/\RelV v u
theorem DK{P:Program}{w:World}{K:Frag}{mg:GmT}{base:Heap}{k:Nat}{f c':Addr}{name qual:Str}{params:Arguments}{body:List Stmt}{scope:Scope}{clos:List (Str×Addr)}{doc pm ct:Value}{N ps fr lo:List Str}{fv:List V}{sp:Sp}(S:ql N ps fr lo scope)(ci:nk base clos fr fv)(inj:∀x y c,clos.lookup x=some c->clos.lookup y=some c->x=y)(only:∀x c,clos.lookup x=some c->x∈fr)(len:∀vs H Q E,sp vs H Q E->vs.length=ps.length)(hob:∀vs H Q E,sp vs H Q E->H f=some (nv f (iR name qual params body scope clos doc pm c' ct))/\ko H c' qual)(hbody:∀(A:Around)(outer:List Env)(s:Shared)(H:Hp)(vs:List V)(Q:VK)(E:XK),bR k (A.deeper (envX qual scope s.heap.objs.size f (.ref c') clos))->sp vs H Q E ->
   ∃t,uE (Cv P w K mg base N qual scope clos f (.ref c') A outer s H E).Dy body t/\t { nx:=fun _ H'=>Q .cu H',rt:=Q } (vs.map some++fv.map some++replicate lo.length none) H):
  aG P w K mg base bA (k+1) f (fnX name qual params body scope clos .none .none doc pm none (.ref c') ct) ps sp:=by
 refine⟨len,fun A outer s H args us vs Q E hr e0 hb r hsp=>?_⟩;have hl:=len _ _ _ _ hsp;obtain⟨h1,h2⟩:=hob _ _ _ _ hsp;have lim:s.heap.NoLimit:=e0.mod.nolimit.keeps fun b o e=>(e0.bs b o e).1;have ndP:ps.Nodup:=by have:=S.nd;rw[S.eq]at this;exact(List.nodup_append.mp (List.nodup_append.mp this).1).1
 have hzl:us.length=ps.length:=by rw[<-r.length];exact hl
 have zk:(ps.zip us).map (·.1)=ps:=List.map_fst_zip (by omega);refine codeAny_call_def (fd:=fnX name qual params body scope clos .none .none doc pm none (.ref c') ct) (body:=body) (binds:=ps.zip us) hr.depth (qh e0.a8 h1) rfl lim (h2.Li e0.a8) rfl hb S.zy (fun x hx=>S.par _ (of_mem_zip hx).1) (fun h₀ hns hk=>?_) S.co S.gen S.kind;obtain⟨t,ht0,hq⟩:=hbody A outer s H vs Q E (hr.deeper _) hsp;have ht:=ht0.Dy;have noA:∀b:Addr,b∉(Cv P w K mg base N qual scope clos f (.ref c') A outer s H E).ex:=fun b z=>absurd (show b∈([]:List Addr)from z) (by simp);have cellAt:∀x c,clos.lookup x=some c->∃(i:Nat)(v:V)(u:Value),fr[i]?=some x/\fv[i]?=some v/\base.IsCell c (some u)/\RelV v u:=fun x c e=>by
  obtain⟨i,hi,e1⟩:=getElem_of_mem (only x c e);have hi2:i<fv.length:=by rw[ci.1];exact hi
  obtain⟨c2,u,q1,q2,q3⟩:=ci.2 i x fv[i] (by rw[getElem?_eq_getElem hi,e1]) (getElem?_eq_getElem hi2);rw[e]at q1;cases q1;exact⟨i,fv[i],u,by rw[getElem?_eq_getElem hi,e1],getElem?_eq_getElem hi2,q2,q3⟩
 have I:Inv (Cv P w K mg base N qual scope clos f (.ref c') A outer s H E) [] (vs.map some++fv.map some++replicate lo.length none) H { s with heap:=h₀,toks:=s.toks+(ps.zip us).length }:=by
  refine⟨⟨e0.mod,S.kind,rfl,rfl,le_refl _,inj,fun y hy=>?_,fun y c z _=>noConfusion (show false=true from z),fun _=>hr.hd,Around.frames_deeper e0.frames,.inr ⟨rfl,rfl⟩,fun b z=>absurd z (noA b),e0.bs,e0.xm,fun b _ _=>noA b,fun b z=>absurd z (noA b),e0.ir,e0.xw⟩,
   rfl,e0.bare,Un.kept hk,⟨_,hns,fun i y v h1 h2 h3=>?_⟩,fun y c h=>?_,e0.a8.fresh (le_refl _),fun y c h=>?_,fun p hp=>absurd (show p∈([]:LpT)from hp) (by simp),e0.a8.kept hk,?_⟩
  ·have hy:scope.names.lookup y=some .cell\/scope.names.lookup y=some .free:=hy;rcases hy with hy|hy
   ·exact absurd rfl (S.zy _ (PySem.mem_of_lookup hy))
   ·have hm:=S.all _ (PySem.mem_of_lookup hy) rfl;obtain⟨i,hi,e1⟩:=getElem_of_mem hm;have hi2:i<fv.length:=by rw[ci.1];exact hi
    obtain⟨c2,u,q1,_⟩:=ci.2 i y fv[i] (by rw[getElem?_eq_getElem hi,e1]) (getElem?_eq_getElem hi2);exact⟨c2,q1⟩
  ·have h1':N[i]?=some y:=h1;rw[S.eq]at h1';have hlt:i<vs.length+fv.length:=by
    apply byContradiction;intro q;rw[getElem?_append_right (by simp;omega),List.getElem?_replicate]at h2;split at h2<;>cases h2
   rw[getElem?_append_left (by simp;omega)]at h2;rw[getElem?_append_left (by rw[length_append,<-ci.1,<-hl];exact hlt)]at h1';by_cases hi:i<vs.length
   ·rw[getElem?_append_left (by rw[length_map];exact hi),getElem?_map]at h2;rw[getElem?_append_left (by omega)]at h1';have ha:vs[i]?=some v:=by
     cases e:vs[i]? with
     |none=>rw[e]at h2;cases h2
     |some a=>rw[e]at h2;cases h2;rfl
    obtain⟨u,hu,rv⟩:=r.get ha;refine⟨u,rv,.inl ⟨S.par y (mem_of_getElem? h1'),?_⟩⟩;refine zV (by rw[zk];exact ndP) ?_;have:(ps.zip us)[i]?=some (y,u):=List.getElem?_zip_eq_some.mpr ⟨h1',hu⟩;exact mem_of_getElem? this
   ·rw[getElem?_append_right (by rw[length_map];omega),length_map,getElem?_map]at h2;rw[getElem?_append_right (by omega)]at h1';rw[hl]at h2;have ha:fv[i-ps.length]?=some v:=by
     cases e:fv[i-ps.length]? with
     |none=>rw[e]at h2;cases h2
     |some a=>rw[e]at h2;cases h2;rfl
    obtain⟨c2,u,q1,⟨oc,q2,q4⟩,q3⟩:=ci.2 _ y v h1' ha;exact⟨u,q3,.inr ⟨.inr (S.free y (mem_of_getElem? h1')),c2,q1,oc,hk _ _ (e0.bs _ _ q2).1,q4⟩⟩
  ·obtain⟨_,v,u,_,_,⟨oc,q2,q4⟩,_⟩:=cellAt y c h;exact⟨_,oc,hk _ _ (e0.bs _ _ q2).1,q4⟩
  ·obtain⟨_,v,u,_,_,⟨oc,q2,q4⟩,_⟩:=cellAt y c h;exact(e0.bs _ _ q2).2
  ·show(vs.map some++fv.map some++replicate lo.length none).length=N.length;rw[S.eq,length_append,length_append,length_append,length_append,length_map,length_map,List.length_replicate,hl,ci.1]
 refine wpAny_mono (ht [] _ _ H _ I hq) (fun fl s' hs=>?_) fun e s' hs=>hs;have fin:∀{σ':St}{H':Hp}{v:V}{u:Value},Inv (Cv P w K mg base N qual scope clos f (.ref c') A outer s H E) [] σ' H' s'->RelV v u->Q v H'->CE outer P w H s Q u s':=
  fun{σ' H' v u}J rv q=>⟨v,H',J.os,J.bare,J.base,J.a8,rv,q⟩
 cases fl with
 |ret u=>
  obtain⟨v,σ',H',J,rv,q⟩:=hs;exact fin J rv q
 |next=>
  obtain⟨σ',H',J,q⟩:=hs;exact fin (v:=V.cu) (u:=Value.none) J rfl q
 |brk=>
  obtain⟨_,_,_,q⟩:=hs;exact False.elim q
 |cont=>
  obtain⟨_,_,_,q⟩:=hs;exact False.elim q
theorem bW.Mc{P:Program}{w:World}{K:Frag}{mg:GmT}{base:Heap}{x qual:Str}{st:Stmt}{f:Addr}{fd:FuncData}{N ps:List Str}{k:Nat}{sp:Sp}(F:bW K x qual st f fd)(S:aq N ps (af st))(len:∀vs H Q E,sp vs H Q E->vs.length=ps.length)(hbody:∀(A:Around)(outer:List Env)(s:Shared)(H:Hp)(vs:List V)(Q:VK)(E:XK),bR k (A.deeper (envOfC qual (af st) s.heap.objs.size f fd.code))->sp vs H Q E ->
   ∃t,uE (ur bA P w K mg base N qual (af st) f fd.code A outer s H E).Dy (bh st) t/\t { nx:=fun _ H'=>Q .cu H',rt:=Q } (start N vs) H):aG P w K mg base bA (k+1) f fd ps sp:=by
 obtain⟨oc,od,kV,doc,pm,an,cdv,ct,osl,rfl,lk,hcd⟩:=F.ex;refine DJ lk hcd S len fun A outer s H vs Q E hr hsp=>?_;obtain⟨t,h,q⟩:=hbody A outer s H vs Q E hr hsp;exact⟨t,h.Dy,q⟩
theorem pZ{J:It}{n:Nat}{g:TG}{tb:TS}{D:Ends}{σ:St}{H:Hp}(Pv:Nat->St->Hp->Prop)(h0:Pv 0 σ H)(hgo:∀i σ H,i<n->Pv i σ H->J.go i H)(hs:∀i x σ H H',i<n->Pv i σ H->J.vY i H x H'->g x σ H' fun σ2 H2=>tb { D with nx:=Pv (i+1),ct:=Pv (i+1),bk:=D.nx } σ2 H2)(hst:∀σ H,Pv n σ H->J.stop n H)(hd:∀σ H,Pv n σ H->D.nx σ H):
  ∃W:Nat->Nat->St->Hp->Prop,(∃m,W 0 m σ H)/\∀i m σ H,W i m σ H ->
   (J.stop i H/\D.nx σ H)\/(J.go i H/\∃N:St->Hp->Prop,(∀σ' H',N σ' H'->∃m',m'<m/\W (i+1) m' σ' H')/\∀x H',J.vY i H x H'->g x σ H' fun σ2 H2=>tb { D with nx:=N,ct:=N,bk:=D.nx } σ2 H2):=by
 refine⟨fun i m σ H=>m=n-i/\i<=n/\Pv i σ H,⟨n,by simp,zero_le _,h0⟩,?_⟩;rintro i m σ H ⟨rfl,hi,p⟩;by_cases hlt:i<n
 ·exact .inr ⟨hgo i σ H hlt p,Pv (i+1),fun σ' H' p'=>⟨n-(i+1),by omega,rfl,hlt,p'⟩,fun x H' y=>hs i x σ H H' hlt p y⟩
 ·have e:i=n:=by omega
  subst e;exact .inl ⟨hst σ H p,hd σ H p⟩
theorem JP{J:It}{n:Nat}{g:TG}{tt:TT}{te:TE}{vs:DW}{σ:St}{H1:Hp}{D:Addr}{Qd:Hp->Prop}(Pv:Nat->Hp->Prop)(h0:Pv 0 (upd H1 D (.lst [])))(hgo:∀i H,i<n->Pv i H->J.go i H)(hs:∀i x H H',i<n->Pv i H->J.vY i H x H'->g x (wipe σ vs) H' fun σ2 H2=>wipe σ2 vs=wipe σ vs/\tt σ2 H2 fun b H3=>
   if b=true then te σ2 H3 fun y H4=>∃acc,H4 D=some (.lst acc)/\acc.length<sizeLine/\Pv (i+1) (upd H4 D (.lst (acc++[y])))else Pv (i+1) H3)(hst:∀H,Pv n H->J.stop n H)(hd:∀H,Pv n H->Qd H):
  ∃W:Nat->Nat->Hp->Prop,(∃m,W 0 m (upd H1 D (.lst [])))/\∀i m H,W i m H ->
   (J.stop i H/\Qd H)\/(J.go i H/\∃Nx:Hp->Prop,(∀H',Nx H'->∃m',m'<m/\W (i+1) m' H')/\∀x H',J.vY i H x H'->g x (wipe σ vs) H' fun σ2 H2=>wipe σ2 vs=wipe σ vs/\tt σ2 H2 fun b H3=>
    if b=true then te σ2 H3 fun y H4=>∃acc,H4 D=some (.lst acc)/\acc.length<sizeLine/\Nx (upd H4 D (.lst (acc++[y])))else Nx H3):=by
 refine⟨fun i m H=>m=n-i/\i<=n/\Pv i H,⟨n,by simp,zero_le _,h0⟩,?_⟩
 rintro i m H ⟨rfl,hi,p⟩
 by_cases hlt:i<n
 ·exact .inr ⟨hgo i H hlt p,Pv (i+1),fun H' p'=>⟨n-(i+1),by omega,rfl,hlt,p'⟩,fun x H' y=>hs i x H H' hlt p y⟩
 ·have e:i=n:=by omega
  subst e
  exact .inl ⟨hst H p,hd H p⟩
section
variable{X:Cx}{o e:Expr}{es:List Expr}{to:TE}{t:TA}{name:Str}{apos cpos pos:Pos}{T id:String}{r:V->List V->Hp->VK->Prop}
theorem FL(K:Frag)(pa:PlainAttrs T)(slot:Slot T name id)(hty:typeOf (.builtin id)=pure (.type "method_descriptor"))(hm:KN X id r)(ho:PE X o to)(ha:PA X (e::es) t)(hK:X.K=K:=by rfl)(hbase:attributeBase o name X.env (eval o X.env)=eval o X.env:=by rfl)(hfew:((backTo cpos (starEach (e::es) X.env)).all (fun x=>!x.1)&&(backToKw cpos (keywordEach [] X.env)).all (fun x=>x.1.isSome)
   && decide ((e::es).length+([]:List Keyword).length+(if([]:List Keyword).isEmpty then 0 else 1)<30))=true:=by rfl)(hline:(apos.endLine==cpos.line)=true:=by rfl)(hs:starEach (e::es) X.env=(false,eval e X.env)::starEach es X.env:=by rfl)(hplain:(backTo cpos (starEach es X.env)).any (·.1)=false:=by rfl):
  PE X (.Call (.Attribute o name apos) (e::es) [] cpos) (Mb K T r to t):=by
 subst hK;exact fb pa slot hty hm ho ha hbase hfew hline hs hplain
end
section
variable{X:Cx}{k:Nat}{x:Str}{p pos:Pos}{e:Expr}{es:List Expr}{t:TA}
def A6(P:Program)(w:World)(K:Frag)(mg:GmT)(base:Heap)(k:Nat)(tf:TE)(t:TA):TE:=fun σ H Q=>tf σ H fun v H1=>∃f fd ps sp,v=.ref f/\aG P w K mg base bA k f fd ps sp/\Binds K fd ps []/\AW K H1 f/\t σ H1 fun vs H2=>AW K H2 f/\sp vs H2 Q E0
theorem oE(P:Program)(w:World)(K:Frag)(mg:GmT)(base:Heap){tf:TE}(hf:PE X (.Name x p) tf)(hr:bR k X.A)(hx:Passes bA X E0)(ha:PA X (e::es) t)(h1:X.prog=P:=by rfl)(h2:X.w=w:=by rfl)(h3:X.K=K:=by rfl)(h4:X.mg=mg:=by rfl)(h5:X.base=base:=by rfl)(he:starEach (e::es) X.env=(false,eval e X.env)::starEach es X.env:=by rfl)(hpl:(backTo pos (starEach es X.env)).any (·.1)=false:=by rfl):
  PE X (.Call (.Name x p) (e::es) [] pos) (A6 P w K mg base k tf t):=by
 subst h1 h2 h3 h4 h5;exact y8 hf hr hx ha he hpl
end
theorem zX{ns ms:List Int}{i:Nat}{a c:Int}(h1:ns[i]?=some a)(h2:ms[i]?=some c):HT.lexLt (ns.drop i) (ms.drop i)=if a=c then HT.lexLt (ns.drop (i+1)) (ms.drop (i+1))else decide (a<c):=by
 obtain⟨l1,e1⟩:=Nd h1;obtain⟨l2,e2⟩:=Nd h2;rw[drop_eq_getElem_cons l1,drop_eq_getElem_cons l2,e1,e2];exact HT.gI a c _ _
theorem oM{ns ms:List Int}{i:Nat}(hn:i<=ns.length)(hm:i<=ms.length)(h:ns.length<=i\/ms.length<=i):HT.lexLt (ns.drop i) (ms.drop i)=decide (ns.length<ms.length):=by
 by_cases q:ns.length<=i
 ·rw[drop_eq_nil_of_le q];cases e:ms.drop i with
  |nil=>
   have:ms.length<=i:=by have:=congrArg length e;simp at this;omega
   exact(decide_eq_false (by omega)).symm
  |cons y r=>
   have:i<ms.length:=by have:=congrArg length e;simp at this;omega
   exact(decide_eq_true (by omega)).symm
 ·have hi:i<ns.length:=by omega
  rw[drop_eq_getElem_cons hi,drop_eq_nil_of_le (show ms.length<=i by omega)];exact(decide_eq_false (by omega)).symm
theorem ints_get{us:List Value}{ns:List Int}(h:IntsAre us ns){i:Nat}{u:Value}(e:us[i]?=some u):∃a t,ns[i]?=some a/\u=.int a t:=by
 have hl:=h.length;have hi:i<ns.length:=by have:=(Nd e).1;omega
 obtain⟨t,q⟩:=h.get i ns[i] (getElem?_eq_getElem hi);rw[q]at e;cases e;exact⟨_,t,getElem?_eq_getElem hi,rfl⟩
theorem qI(a b:Addr)(us ws:List Value)(n m:Nat)(ns ms:List Int)(hu:IntsAre us ns)(hw:IntsAre ws ms)(k:Nat):∀i:Nat,ns.length-i=k->i<=ns.length->i<=ms.length ->
  Meets (Builtin.«list.__eq__.loop» ⟨[.ref a,.ref b,rawInt i,rawInt 0],[]⟩) (fun _ R st=>st.heap.get? a=some { cls:=.type "list",data:=.seq us.toArray n }/\st.heap.get? b=some { cls:=.type "list",data:=.seq ws.toArray m }/\R (.ok (.ret (.bool (HT.lexLt (ns.drop i) (ms.drop i))))) st):=by
 induction k with
 |zero=>
  intro i hk h1 h2 prog w A R st h;obtain⟨hp,gg,dr,tks,oss⟩:=st;obtain⟨ga,gb,h⟩:=h;rw[oM h1 h2 (.inl (by omega))]at h;have n1:us.toArray[((i:Nat):Int).toNat]?=none:=by simp;rw[hu.length];omega
  wp_walk using wpAny_loadPart' ga,wpAny_loadPart' gb
  rw[n1]
  wp_walk using wpAny_loadPart' ga,wpAny_loadPart' gb
  show R (.ok (.ret (.bool (decide (us.toArray.size<ws.toArray.size))))) _;rw[size_toArray,size_toArray,hu.length,hw.length];exact h
 |succ k ih=>
  intro i hk h1 h2 prog w A R st h;obtain⟨hp,gg,dr,tks,oss⟩:=st;obtain⟨ga,gb,h⟩:=h;have lu:i<us.length:=by rw[hu.length];omega
  have n1:us.toArray[((i:Nat):Int).toNat]?=some us[i]:=by simp[lu]
  by_cases hm:i<ms.length
  ·have lw:i<ws.length:=by rw[hw.length];exact hm
   have n2:ws.toArray[((i:Nat):Int).toNat]?=some ws[i]:=by simp[lw]
   obtain⟨x,t1,e1,q1⟩:=ints_get hu (getElem?_eq_getElem lu);obtain⟨y,t2,e2,q2⟩:=ints_get hw (getElem?_eq_getElem lw);rw[zX e1 e2]at h;rw[q1]at n1;rw[q2]at n2;obtain⟨eb,he,hiff⟩:=HT.As A.in1 ⟨hp,gg,dr,tks,oss⟩ x t1 y t2
   wp_walk using wpAny_loadPart' ga,wpAny_loadPart' gb
   rw[n1,n2];refine wpAny_bind (he prog w _ _ ?_);cases eb with
   |true=>
    rw[if_pos (hiff.mp rfl)]at h
    wp_walk
    rw[show((i:Int)+1)=((i+1:Nat):Int)by push_cast;rfl];refine⟨plainId_quiet MeetsSeq3.plain_eq_loop _,codeAny_builtin MeetsSeq3.entry_eq_loop (by rw[Around.under_plainId MeetsSeq3.plain_eq_loop _];exact ih (i+1) (by omega) (by omega) (by omega) prog w A R _ ⟨ga,gb,h⟩)⟩
   |false=>
    rw[if_neg (fun q=>absurd (hiff.mpr q) Ni)]at h
    wp_walk using wpAny_loadPart' ga,wpAny_loadPart' gb
    rw[n1,n2];have hri:=HT.yQ A.in1 ⟨hp,gg,dr,tks,oss⟩ x t1 y t2 prog w
    wp_walk using hri
    exact h
  ·have n2:ws.toArray[((i:Nat):Int).toNat]?=none:=by simp;rw[hw.length];omega
   rw[oM h1 h2 (.inr (by omega))]at h
   wp_walk using wpAny_loadPart' ga,wpAny_loadPart' gb
   rw[n1,n2]
   wp_walk using wpAny_loadPart' ga,wpAny_loadPart' gb
   show R (.ok (.ret (.bool (decide (us.toArray.size<ws.toArray.size))))) _;rw[size_toArray,size_toArray,hu.length,hw.length];exact h
theorem Fv(a b:Addr)(us ws:List Value)(n m:Nat)(ns ms:List Int)(hu:IntsAre us ns)(hw:IntsAre ws ms):
  Meets (Builtin.«list.__lt__» ⟨[.ref a,.ref b],[]⟩) (fun _ R st=>st.heap.get? a=some { cls:=.type "list",data:=.seq us.toArray n }/\st.heap.get? b=some { cls:=.type "list",data:=.seq ws.toArray m }/\R (.ok (.ret (.bool (HT.lexLt ns ms)))) st):=by
 intro prog w A R st h;obtain⟨hp,gg,dr,tks,oss⟩:=st;obtain⟨ga,gb,h⟩:=h;have f3:=AutoSeq1.sub_list_list
 wp_walk using wpAny_loadPart' ga,wpAny_loadPart' gb
 refine⟨plainId_quiet MeetsSeq3.plain_eq_loop _,codeAny_builtin MeetsSeq3.entry_eq_loop (by rw[Around.under_plainId MeetsSeq3.plain_eq_loop _];exact qI a b us ws n m ns ms hu hw _ 0 rfl (zero_le _) (zero_le _) prog w A R _ ⟨ga,gb,h⟩)⟩
theorem rM:∀{a b c:List Int},HT.lexLt a b=true->HT.lexLt c b=false->HT.lexLt c a=false
 |[],[],_,h,_=>by cases h
 |[],_::_,[],_,_=>rfl
 |[],_::_,_::_,_,_=>rfl
 |_::_,[],_,h,_=>by cases h
 |x::a,y::b,[],_,h2=>by cases h2
 |x::a,y::b,z::c,h1,h2=>by
  rw[HT.gI]at h1 h2 ⊢
  by_cases e1:x=y
  ·rw[if_pos e1]at h1
   by_cases e2:z=y
   ·rw[if_pos e2]at h2
    rw[if_pos (by omega)]
    exact rM h1 h2
   ·rw[if_neg e2]at h2
    have:=of_decide_eq_false h2
    rw[if_neg (by omega)]
    exact decide_eq_false (by omega)
  ·rw[if_neg e1]at h1
   have:=of_decide_eq_true h1
   by_cases e2:z=y
   ·rw[if_neg (by omega)]
    exact decide_eq_false (by omega)
   ·rw[if_neg e2]at h2
    have:=of_decide_eq_false h2
    rw[if_neg (by omega)]
    exact decide_eq_false (by omega)
theorem pQ:∀a:List Int,HT.lexLt a a=false
 |[]=>rfl
 |x::a=>by rw[HT.gI,if_pos rfl];exact pQ a
section
variable{X:Cx}
def vU(X:Cx)(H:Hp)(kv:Value)(ts:List Addr)(rows:List (List Int)):Prop:=
 (kv=.none/\∀(i:Nat)(t:Addr)(r:List Int),ts[i]?=some t->rows[i]?=some r->H t=some (.lst (r.map V.int))) \/
 (∃q,kv=.ref q/\∀(i:Nat)(t:Addr)(r:List Int),ts[i]?=some t->rows[i]?=some r->∀(pins:LpT)(s:Shared)(σ:St)(H1:Hp),Inv X pins σ H1 s->aj H H1 ->
  wpAny (model X.prog X.w) X.A.in1 (call (.ref q) [.ref t]) (fun u s'=>∃v H2,u=.ref v/\Inv X pins σ H2 s'/\aj H1 H2/\H2 v=some (.lst (r.map V.int))) (fun _ _=>False) s)
abbrev Io(a b:Value)(c:Nat):Obj:={ cls:=.type "list",data:=.seq #[a,b] c }
theorem fJ.at_{pins:LpT}{H H':Hp}{b:Addr}(f:fJ X pins H b)(h:H' b=none):fJ X pins H' b:=⟨h,f.2⟩
theorem yJ{pins:LpT}{σ:St}{H:Hp}{s:Shared}{v w':Addr}{r q:List Int}{A:Around}{Q E:L5}(I:Inv X pins σ H s)(h1:H v=some (.lst (r.map V.int)))(h2:H w'=some (.lst (q.map V.int)))(hu:A.units<cLine)(k:Q (.bool (HT.lexLt r q)) s):wpAny (model X.prog X.w) A (richCompare .Lt (.ref v) (.ref w')) Q E s:=by
 obtain⟨_,its,n,rv,_,g1⟩:=I.pN h1;obtain⟨_,its2,n2,rv2,_,g2⟩:=I.pN h2;exact richCompare_meets_room (op:=.Lt) ⟨_,g1,rfl⟩ ⟨_,g2,rfl⟩ PySem.F.slot_list_lt PySem.F.entry_list_lt (PySem.F.args_list_lt_2 _ _) (Fv v w' its its2 n n2 r q rv.ints rv2.ints) ⟨g1,g2,show Value.bool (HT.lexLt r q)≠Value.notImplemented/\Q (.bool (HT.lexLt r q)) s from⟨(fun x=>nomatch x),k⟩⟩ hu
def qj(X:Cx)(R:Result->Shared->Prop)(it bs:Addr)(kv:Value)(dk:List (Str×Value))(t v t2 v2:Addr)(s2:Shared):Prop:=
 wpAny (model X.prog X.w) X.A.in1 (do
  let better <-tryCatch (holding [Value.ref t2,Value.ref v2] (do
   let answer <-richCompare .Lt (.ref v2) (.ref v)
   let yes <-holding [answer] (truthy answer)
   letGo [answer]
   pure yes)) fun e=>do
    updateSeq bs fun _=>#[]
    letGo ([Value.ref v2,Value.ref t2]++((some #[Value.ref t,Value.ref v]).getD #[]).toList.reverse) [e]
    throw e
  if better=true then(do
   updateSeq bs fun _=>#[Value.ref t2,Value.ref v2]
   letGo [Value.ref v,Value.ref t]
   again (.builtin (toString "min"++toString ".loop") ⟨[.ref it,kv,.ref bs],dk⟩))else(do
   letGo [Value.ref t2,Value.ref v2]
   again (.builtin (toString "min"++toString ".loop") ⟨[.ref it,kv,.ref bs],dk⟩)))
  (fun fin s'=>match fin with
   |.done f=>R (.ok f) s'
   |.again c'=>c'.quiet=true/\codeAny (model X.prog X.w) X.A c' R s') (fun e s'=>R (.error e) s') s2
theorem HA{pins:LpT}{σ:St}{H:Hp}{l it bs:Addr}{ts:List Addr}{rows:List (List Int)}{kv:Value}{dk:List (Str×Value)}{R:Result->Shared->Prop}(hc:X.calm=true)(kok:vU X H kv ts rows)(rl:rows.length=ts.length)(hl:H l=some (.lst (ts.map V.ref)))(hne:it≠bs)(hu:X.A.in1.units<cLine)(hR:∀(i:Nat)(t:Addr)(r:List Int)(s':Shared)(H':Hp),ts[i]?=some t->rows[i]?=some r->(∀(j:Nat)(q:List Int),rows[j]?=some q->HT.lexLt q r=false)->Inv X pins σ H' s'->aj H H'->R (.ok (.ret (.ref t))) s'):
  ∀(d j i:Nat)(s:Shared)(H1:Hp)(t v:Addr)(r:List Int)(c:Nat),ts.length-j=d->j<=ts.length->Inv X pins σ H1 s->aj H H1->fJ X pins H1 it->fJ X pins H1 bs->s.heap.IsListIter it l j->s.heap.get? bs=some (Io (.ref t) (.ref v) c) ->
   ts[i]?=some t->rows[i]?=some r->H1 v=some (.lst (r.map V.int))->(∀(j':Nat)(q:List Int),j'<j->rows[j']?=some q->HT.lexLt q r=false) ->
   codeAny (model X.prog X.w) X.A (.builtin "min.loop" ⟨[.ref it,kv,.ref bs],dk⟩) R s:=by
 have nm:(toString "min"++toString ".loop":String)="min.loop":=by decide
 intro d
 induction d with
 |zero=>
  intro j i s H1 t v r c hd hj I s1 f1 f2 hit hb ht hr hv best;have hq:aH X.K H1 l (ts.map V.ref):=aH.of (s1 _ _ hl);obtain⟨its,rv,p,hz⟩:=I.list hq;have hll:=rv.length;rw[length_map]at hll;refine codeAny_builtin entry_min_loop ?_;rw[Around.under_plainId plain_min_loop _];show wpAny _ X.A.in1 (seqItems? (.ref bs)>>=_) _ _ _;refine wpAny_bind (wpAny_seqItems hb rfl ?_);show wpAny _ X.A.in1 (tryCatch (pyNext (.ref it)) _>>=_) _ _ _;refine wpAny_bind (wpAny_tryCatch (wpAny_pyNext_list_end (I.ok.hd hc) hit p.isList (by simp;omega) fun h' eb=>?_));have I1:Inv X pins σ H1 { s with heap:=h' }:=I.turned (t':=s.toks) (fun b o hb e=>eb b o hb e) f1.1 f1.2.1 f1.2.2.2.1 f1.2.2.2.2.1 f1.2.2.2.2.2;have hb1:h'.get? bs=some (Io (.ref t) (.ref v) c):=eb _ _ hne.symm hb;have sb:=Heap.SameBut.update h' bs (Obj.mapSeq fun _=>(#[]:Array Value));show wpAny _ X.A.in1 (updateSeq bs (fun _=>#[])>>=_) _ _ _;refine wpAny_bind (wpAny_updateSeq (s:={ s with heap:=h' }) hb1 rfl (wpAny_bind (wpAny_letGo (wpAny_pure ?_))));have I2:Inv X pins σ H1 { s with heap:=h'.update bs (Obj.mapSeq fun _=>(#[]:Array Value)) }:=I1.turned (t':=s.toks) (fun b o hb e=>(sb.2 b hb).trans e) f2.1 f2.2.1 f2.2.2.2.1 f2.2.2.2.2.1 f2.2.2.2.2.2;refine hR i t r _ H1 ht hr (fun j' q hq'=>best j' q ?_ hq') I2 s1;have:=(Nd hq').1;omega
 |succ d ih=>
  intro j i s H1 t v r c hd hj I s1 f1 f2 hit hb ht hr hv best;have hq:aH X.K H1 l (ts.map V.ref):=aH.of (s1 _ _ hl);obtain⟨its,rv,p,hz⟩:=I.list hq;have hjl:j<ts.length:=by omega
  obtain⟨u,hu1,ru⟩:=rv.get (i:=j) (x:=V.ref ts[j]) (by rw[getElem?_map,getElem?_eq_getElem hjl];rfl);obtain rfl:u=Value.ref ts[j]:=ru;have hjr:rows[j]?=some (rows[j]'(by omega)):=getElem?_eq_getElem (by omega);generalize rows[j]'(by omega)=rj at hjr;refine codeAny_builtin entry_min_loop ?_;rw[Around.under_plainId plain_min_loop _];show wpAny _ X.A.in1 (seqItems? (.ref bs)>>=_) _ _ _;refine wpAny_bind (wpAny_seqItems hb rfl ?_);show wpAny _ X.A.in1 (tryCatch (pyNext (.ref it)) _>>=_) _ _ _;refine wpAny_bind (wpAny_tryCatch (wpAny_pyNext_list_item hit p.isList (x:=.ref ts[j]) (by simpa using hu1) fun h' st' sb=>?_));have I1:Inv X pins σ H1 { s with heap:=h' }:=I.turned (t':=s.toks) (fun b o hb e=>(sb.2 b hb).trans e) f1.1 f1.2.1 f1.2.2.2.1 f1.2.2.2.2.1 f1.2.2.2.2.2;have hb1:h'.get? bs=some (Io (.ref t) (.ref v) c):=(sb.2 _ hne.symm).trans hb;obtain⟨oi,goi,coi,doi⟩:=id st';have I1p:=I1.pinned (fp:=[it,bs]) (fun b hb'=>by
   rcases Nf hb' with q|q
   ·rw[q];exact f1
   ·rw[List.mem_singleton.mp q];exact f2) (fun b hb'=>by
   rcases Nf hb' with q|q
   ·rw[q];exact⟨oi,goi,fun v' z=>by rw[doi]at z;cases z⟩
   ·rw[List.mem_singleton.mp q];exact⟨_,hb1,fun v' z=>by cases z⟩)
  have main:∀(s2:Shared)(v2:Addr)(H2:Hp),Inv X (pins++iW [it,bs] h') σ H2 s2->aj H1 H2->H2 v2=some (.lst (rj.map V.int))->qj X R it bs kv dk t v ts[j] v2 s2:=by
   intro s2 v2 H2 I2p s12 hv2;unfold qj;have I2:=I2p.fO;have pI:=I2p.pin (it,oi) (mem_append_right _ (mem_append_right _ (dh (by simp) goi)));have pB:=I2p.pin (bs,Io (.ref t) (.ref v) c) (mem_append_right _ (mem_append_right _ (dh (by simp) hb1)));have g1:=f1.at_ pI.2.1;have g2:=f2.at_ pB.2.1;have st2:s2.heap.IsListIter it l (j+1):=⟨oi,pI.1,coi,doi⟩;have hv':=s12 _ _ hv;show wpAny _ X.A.in1 (tryCatch (holding [Value.ref ts[j],Value.ref v2] (richCompare .Lt (.ref v2) (.ref v)>>=_)) _>>=_) _ _ _;refine wpAny_bind (wpAny_tryCatch (wpAny_holding (wpAny_bind (yJ I2 hv2 hv' hu ?_))));refine wpAny_bind (wpAny_holding (wpAny_truthy_bool ?_));refine wpAny_bind (wpAny_letGo (wpAny_pure ?_));cases hlt:HT.lexLt rj r with
   |true=>
    have sb2:=Heap.SameBut.update s2.heap bs (Obj.mapSeq fun _=>#[Value.ref ts[j],Value.ref v2]);obtain⟨c2,hc2⟩:∃c2,(s2.heap.update bs (Obj.mapSeq fun _=>#[Value.ref ts[j],Value.ref v2])).get? bs=some (Io (.ref ts[j]) (.ref v2) c2):=⟨_,get?_update_seq pB.1 fun _=>#[Value.ref ts[j],Value.ref v2]⟩;show wpAny _ X.A.in1 (updateSeq bs (fun _=>#[Value.ref ts[j],Value.ref v2])>>=_) _ _ _;refine wpAny_bind (wpAny_updateSeq pB.1 rfl (wpAny_bind (wpAny_letGo ?_)));have I3:Inv X pins σ H2 { s2 with heap:=s2.heap.update bs (Obj.mapSeq fun _=>#[Value.ref ts[j],Value.ref v2]) }:=I2.turned (t':=s2.toks) (fun b o hb e=>(sb2.2 b hb).trans e) g2.1 g2.2.1 g2.2.2.2.1 g2.2.2.2.2.1 g2.2.2.2.2.2;rw[nm];refine wpAny_pure ⟨plainId_quiet plain_min_loop _,ih (j+1) j _ H2 ts[j] v2 rj c2 (by omega) (by omega) I3 (s1.trans s12) g1 g2 ⟨oi,(sb2.2 _ hne).trans pI.1,coi,doi⟩ hc2 (getElem?_eq_getElem hjl) hjr hv2 fun j' q hj' hq'=>?_⟩;by_cases e:j'=j
    ·subst e;rw[hjr]at hq';cases hq';exact pQ _
    ·exact rM hlt (best j' q (by omega) hq')
   |false=>
    show wpAny _ X.A.in1 (letGo _>>=_) _ _ _;refine wpAny_bind (wpAny_letGo ?_);rw[nm];refine wpAny_pure ⟨plainId_quiet plain_min_loop _,ih (j+1) i _ H2 t v r c (by omega) (by omega) I2 (s1.trans s12) g1 g2 st2 pB.1 ht hr hv' fun j' q hj' hq'=>?_⟩;by_cases e:j'=j
    ·subst e;rw[hjr]at hq';cases hq';exact hlt
    ·exact best j' q (by omega) hq'
  unfold qj at main
  rcases kok with⟨ek,kk⟩|⟨q,ek,kk⟩
  ·subst ek;refine wpAny_bind (wpAny_pure ?_);exact main _ ts[j] H1 I1p (fun _ _ e=>e) (s1 _ _ (kk j _ _ (getElem?_eq_getElem hjl) hjr))
  ·subst ek;refine wpAny_bind (wpAny_tryCatch (wpAny_holding (wpAny_mono (kk j _ _ (getElem?_eq_getElem hjl) hjr _ _ _ _ I1p s1) (fun val s2⟨v2,H2,ev,I2p,s12,hv2⟩=>?_) fun _ _ x=>x.elim)));subst ev;exact main s2 v2 H2 I2p s12 hv2
abbrev nul(c:Nat):Obj:={ cls:=.type "list",data:=.seq #[] c }
def qk(X:Cx)(R:Result->Shared->Prop)(it bs:Addr)(kv:Value)(dk:List (Str×Value))(t2 v2:Addr)(s2:Shared):Prop:=
 wpAny (model X.prog X.w) X.A.in1 (do
  updateSeq bs fun _=>#[Value.ref t2,Value.ref v2]
  again (.builtin (toString "min"++toString ".loop") ⟨[.ref it,kv,.ref bs],dk⟩))
  (fun fin s'=>match fin with
   |.done f=>R (.ok f) s'
   |.again c'=>c'.quiet=true/\codeAny (model X.prog X.w) X.A c' R s') (fun e s'=>R (.error e) s') s2
theorem vk{pins:LpT}{σ:St}{H:Hp}{l it bs:Addr}{ts:List Addr}{rows:List (List Int)}{kv:Value}{dk:List (Str×Value)}{R:Result->Shared->Prop}(hc:X.calm=true)(kok:vU X H kv ts rows)(rl:rows.length=ts.length)(hl:H l=some (.lst (ts.map V.ref)))(hne:it≠bs)(hu:X.A.in1.units<cLine)(hR:∀(i:Nat)(t:Addr)(r:List Int)(s':Shared)(H':Hp),ts[i]?=some t->rows[i]?=some r->(∀(j:Nat)(q:List Int),rows[j]?=some q->HT.lexLt q r=false)->Inv X pins σ H' s'->aj H H'->R (.ok (.ret (.ref t))) s')(s:Shared)(c:Nat)(h0:0<ts.length)(I:Inv X pins σ H s)(f1:fJ X pins H it)(f2:fJ X pins H bs)(hit:s.heap.IsListIter it l 0)(hb:s.heap.get? bs=some (nul c)):
  codeAny (model X.prog X.w) X.A (.builtin "min.loop" ⟨[.ref it,kv,.ref bs],dk⟩) R s:=by
 have nm:(toString "min"++toString ".loop":String)="min.loop":=by decide
 have hq:aH X.K H l (ts.map V.ref):=aH.of hl;obtain⟨its,rv,p,hz⟩:=I.list hq;obtain⟨u,hu1,ru⟩:=rv.get (i:=0) (x:=V.ref ts[0]) (by rw[getElem?_map,getElem?_eq_getElem h0];rfl);obtain rfl:u=Value.ref ts[0]:=ru;have hjr:rows[0]?=some (rows[0]'(by omega)):=getElem?_eq_getElem (by omega);generalize rows[0]'(by omega)=rj at hjr;refine codeAny_builtin entry_min_loop ?_;rw[Around.under_plainId plain_min_loop _];show wpAny _ X.A.in1 (seqItems? (.ref bs)>>=_) _ _ _;refine wpAny_bind (wpAny_seqItems hb rfl ?_);show wpAny _ X.A.in1 (tryCatch (pyNext (.ref it)) _>>=_) _ _ _;refine wpAny_bind (wpAny_tryCatch (wpAny_pyNext_list_item hit p.isList (x:=.ref ts[0]) (by simpa using hu1) fun h' st' sb=>?_));have I1:Inv X pins σ H { s with heap:=h' }:=I.turned (t':=s.toks) (fun b o hb e=>(sb.2 b hb).trans e) f1.1 f1.2.1 f1.2.2.2.1 f1.2.2.2.2.1 f1.2.2.2.2.2;have hb1:h'.get? bs=some (nul c):=(sb.2 _ hne.symm).trans hb;obtain⟨oi,goi,coi,doi⟩:=id st';have I1p:=I1.pinned (fp:=[it,bs]) (fun b hb'=>by
  rcases Nf hb' with q|q
  ·rw[q];exact f1
  ·rw[List.mem_singleton.mp q];exact f2) (fun b hb'=>by
  rcases Nf hb' with q|q
  ·rw[q];exact⟨oi,goi,fun v' z=>by rw[doi]at z;cases z⟩
  ·rw[List.mem_singleton.mp q];exact⟨_,hb1,fun v' z=>by cases z⟩)
 have main:∀(s2:Shared)(v2:Addr)(H2:Hp),Inv X (pins++iW [it,bs] h') σ H2 s2->aj H H2->H2 v2=some (.lst (rj.map V.int))->qk X R it bs kv dk ts[0] v2 s2:=by
  intro s2 v2 H2 I2p s12 hv2;unfold qk;have I2:=I2p.fO;have pI:=I2p.pin (it,oi) (mem_append_right _ (mem_append_right _ (dh (by simp) goi)));have pB:=I2p.pin (bs,nul c) (mem_append_right _ (mem_append_right _ (dh (by simp) hb1)));have g1:=f1.at_ pI.2.1;have g2:=f2.at_ pB.2.1;have sb2:=Heap.SameBut.update s2.heap bs (Obj.mapSeq fun _=>#[Value.ref ts[0],Value.ref v2]);obtain⟨c2,hc2⟩:∃c2,(s2.heap.update bs (Obj.mapSeq fun _=>#[Value.ref ts[0],Value.ref v2])).get? bs=some (Io (.ref ts[0]) (.ref v2) c2):=⟨_,get?_update_seq pB.1 fun _=>#[Value.ref ts[0],Value.ref v2]⟩;refine wpAny_bind (wpAny_updateSeq pB.1 rfl ?_);have I3:Inv X pins σ H2 { s2 with heap:=s2.heap.update bs (Obj.mapSeq fun _=>#[Value.ref ts[0],Value.ref v2]) }:=I2.turned (t':=s2.toks) (fun b o hb e=>(sb2.2 b hb).trans e) g2.1 g2.2.1 g2.2.2.2.1 g2.2.2.2.2.1 g2.2.2.2.2.2;rw[nm];refine wpAny_pure ⟨plainId_quiet plain_min_loop _,HA hc kok rl hl hne hu hR _ 1 0 _ H2 ts[0] v2 rj c2 rfl h0 I3 s12 g1 g2 ⟨oi,(sb2.2 _ hne).trans pI.1,coi,doi⟩ hc2 (getElem?_eq_getElem h0) hjr hv2 fun j' q hj' hq'=>?_⟩;obtain rfl:j'=0:=by omega
  rw[hjr]at hq';cases hq';exact pQ _
 unfold qk at main
 rcases id kok with⟨ek,kk⟩|⟨q,ek,kk⟩
 ·subst ek;refine wpAny_bind (wpAny_pure ?_);exact main _ ts[0] H I1p (fun _ _ e=>e) (kk 0 _ _ (getElem?_eq_getElem h0) hjr)
 ·subst ek;refine wpAny_bind (wpAny_tryCatch (wpAny_holding (wpAny_mono (kk 0 _ _ (getElem?_eq_getElem h0) hjr _ _ _ _ I1p (fun _ _ e=>e)) (fun val s2⟨v2,H2,ev,I2p,s12,hv2⟩=>?_) fun _ _ x=>x.elim)));subst ev;exact main s2 v2 H2 I2p s12 hv2
theorem vm{pins:LpT}{σ:St}{H:Hp}{s:Shared}(I:Inv X pins σ H s)(l:Addr):
  ∃h2:Heap,h2=(s.heap.push { cls:=.type "list_iterator",data:=.fields #[.ref l,.int 0 0] }).push (nul 0)/\Inv X pins σ H { s with heap:=h2 }/\fJ X pins H s.heap.objs.size/\fJ X pins H (s.heap.objs.size+1)/\h2.IsListIter s.heap.objs.size l 0/\h2.get? (s.heap.objs.size+1)=some (nul 0):=by
 refine⟨_,rfl,I.kept (t':=s.toks) fun b o e=>get?_push_of_some _ (get?_push_of_some _ e),I.nY (le_refl _) (I.a8.fresh (le_refl _)),I.nY (le_succ _) (I.a8.fresh (le_succ _)),⟨_,get?_push_of_some _ (get?_push_size _ rfl),rfl,rfl⟩,?_⟩;have:(s.heap.push { cls:=.type "list_iterator",data:=.fields #[.ref l,.int 0 0] }).objs.size=s.heap.objs.size+1:=size_push ..;rw[<-this];exact get?_push_size _ rfl
theorem yG{pins:LpT}{σ:St}{H:Hp}{s:Shared}{l q:Addr}{ts:List Addr}{rows:List (List Int)}{Q:VK}{E:L5}(hc:X.calm=true)(hu:X.A.in1.units<cLine)(I:Inv X pins σ H s)(kok:vU X H (.ref q) ts rows)(rl:rows.length=ts.length)(hl:H l=some (.lst (ts.map V.ref)))(h0:0<ts.length)(k:∀(i:Nat)(t:Addr)(r:List Int)(H':Hp),ts[i]?=some t->rows[i]?=some r->(∀(j:Nat)(q:List Int),rows[j]?=some q->HT.lexLt q r=false)->aj H H'->Q (.ref t) H'):
  wpAny (model X.prog X.w) X.A (call (.builtin "min") [.ref l] [("key",.ref q)]) (EP X pins σ Q) E s:=by
 obtain⟨its,rv,p,hz⟩:=I.list (aH.of (K:=X.K) hl);obtain⟨h2,e2,I2,f1,f2,i1,b1⟩:=vm I l;have nm:(toString "min"++toString ".loop":String)="min.loop":=by decide
 refine kmk_tree kind_min plain_min entry_min (kmk_min_key _ _) ?_;show wpAny _ X.A.in1 (Builtin.Builtins.bindParams "min" ["key","default"] 0 ⟨[],[("key",.ref q)]⟩>>=_) _ _ s;refine wpAny_bind (wpAny_of_eq (show Builtin.Builtins.bindParams "min" ["key","default"] 0 ⟨[],[("key",.ref q)]⟩=pure [some (.ref q),none] from rfl) ?_);refine wpAny_bind (wpAny_pure (wpAny_bind (wpAny_pyIter_list p.isList (wpAny_bind (wpAny_newList ?_ (zero_le _))))));rw[nm,size_push];refine wpAny_pure ⟨plainId_quiet plain_min_loop _,?_⟩;show codeAny _ _ _ _ { s with heap:=(s.heap.push { cls:=.type "list_iterator",data:=.fields #[.ref l,.int 0 0] }).push (nul 0) };rw[<-e2];exact vk hc kok rl hl (ne_of_lt (lt_succ_self _)) hu (fun i t r s' H' ht hr hb J s1=>⟨.ref t,H',J,rfl,k i t r H' ht hr hb s1⟩) _ 0 h0 I2 f1 f2 i1 b1
theorem j1(a v:Value):argsOk "min" ⟨[a],[(Str.ofString "default",v)]⟩:=by unfold argsOk;kernel_rfl
theorem yH{pins:LpT}{σ:St}{H:Hp}{s:Shared}{l:Addr}{ts:List Addr}{rows:List (List Int)}{Q:VK}{E:L5}(hc:X.calm=true)(hu:X.A.in1.units<cLine)(I:Inv X pins σ H s)(kok:vU X H .none ts rows)(rl:rows.length=ts.length)(hl:H l=some (.lst (ts.map V.ref)))(k0:ts=[]->Q .cu H)(k:∀(i:Nat)(t:Addr)(r:List Int)(H':Hp),ts[i]?=some t->rows[i]?=some r->(∀(j:Nat)(q:List Int),rows[j]?=some q->HT.lexLt q r=false)->aj H H'->Q (.ref t) H'):
  wpAny (model X.prog X.w) X.A (call (.builtin "min") [.ref l] [("default",.none)]) (EP X pins σ Q) E s:=by
 obtain⟨its,rv,p,hz⟩:=I.list (aH.of (K:=X.K) hl);obtain⟨h2,e2,I2,f1,f2,i1,b1⟩:=vm I l;have nm:(toString "min"++toString ".loop":String)="min.loop":=by decide
 refine kmk_tree kind_min plain_min entry_min (j1 _ _) ?_;show wpAny _ X.A.in1 (Builtin.Builtins.bindParams "min" ["key","default"] 0 ⟨[],[("default",.none)]⟩>>=_) _ _ s;refine wpAny_bind (wpAny_of_eq (show Builtin.Builtins.bindParams "min" ["key","default"] 0 ⟨[],[("default",.none)]⟩=pure [none,some .none] from rfl) ?_);refine wpAny_bind (wpAny_pure (wpAny_bind (wpAny_pyIter_list p.isList (wpAny_bind (wpAny_newList ?_ (zero_le _))))));rw[nm,size_push];refine wpAny_pure ⟨plainId_quiet plain_min_loop _,?_⟩;show codeAny _ _ _ _ { s with heap:=(s.heap.push { cls:=.type "list_iterator",data:=.fields #[.ref l,.int 0 0] }).push (nul 0) };rw[<-e2];by_cases h0:0<ts.length
 ·exact vk hc kok rl hl (ne_of_lt (lt_succ_self _)) hu (fun i t r s' H' ht hr hb J s1=>⟨.ref t,H',J,rfl,k i t r H' ht hr hb s1⟩) _ 0 h0 I2 f1 f2 i1 b1
 ·have hts:ts=[]:=List.length_eq_zero_iff.mp (by omega);obtain⟨its2,rv2,p2,hz2⟩:=I2.list (aH.of (K:=X.K) hl);have hll:=rv2.length;rw[hts]at hll;refine codeAny_builtin entry_min_loop ?_;rw[Around.under_plainId plain_min_loop _];show wpAny _ X.A.in1 (seqItems? (.ref (s.heap.objs.size+1))>>=_) _ _ _;refine wpAny_bind (wpAny_seqItems b1 rfl ?_);show wpAny _ X.A.in1 (tryCatch (pyNext (.ref s.heap.objs.size)) _>>=_) _ _ _;refine wpAny_bind (wpAny_tryCatch (wpAny_pyNext_list_end (I2.ok.hd hc) i1 p2.isList (by have q:its2.length=0:=hll.symm;rw[List.length_eq_zero_iff.mp q];rfl) fun h' eb=>?_));have I3:Inv X pins σ H { s with heap:=h' }:=I2.turned (t':=s.toks) (fun b o hb e=>eb b o hb e) f1.1 f1.2.1 f1.2.2.2.1 f1.2.2.2.2.1 f1.2.2.2.2.2;refine wpAny_bind (wpAny_rule (wpAny_pure ?_));exact⟨.cu,H,I3,rfl,k0 hts⟩
end
theorem tM:typeLookup (.type "list_reverseiterator") "__len__"=pure none:=by rw[typeLookup_type,builtinLookup_eq_fast];kernel_rfl
theorem yN:typeLookup (.type "list_reverseiterator") "__length_hint__"=pure (some (.builtin "list_reverseiterator.__length_hint__")):=by rw[typeLookup_type,builtinLookup_eq_fast];kernel_rfl
section
variable{prog:Program}{w:World}{A:Around}{E:L5}{s:Shared}
theorem Ai{a l:Addr}{i:Int}{Q:Bool->Shared->Prop}(hr:s.heap.IsRevIter a l i)(h:Q false s):wpAny (model prog w) A (Builtin.List.listLengthHint (.ref a)) Q E s:=by
 unfold Builtin.List.listLengthHint;refine wpAny_bind (wpAny_specialOf hr.typeIs tM ?_);refine wpAny_ite_split (fun z=>absurd z (by decide +kernel)) (fun _=>?_);refine wpAny_ite_split (fun z=>absurd z (by decide)) (fun _=>?_);refine wpAny_bind (wpAny_specialOf hr.typeIs yN ?_);generalize hid:("list_reverseiterator.__length_hint__":String)=id0
 wp_delta
 rw[show splitId id0=some ("list_reverseiterator","__length_hint__")from by subst hid;decide +kernel];subst hid;refine wpAny_bind (wpAny_isInstance (T:="list_reverseiterator") (b:=true) hr.typeIs (by rw[isSubtype_type];kernel_rfl) ?_);refine wpAny_ite_split (fun z=>absurd z (by decide)) (fun _=>?_);refine wpAny_ite_split (fun _=>?_) (fun z=>absurd (by decide +kernel) z);exact wpAny_ite_split (fun z=>absurd z (by decide +kernel)) (fun _=>wpAny_pure h)
theorem uk{R:Result->Shared->Prop}{a l S:Addr}{items:Array Value}{res:Value}{c₀:Nat}(hh:A.handled=none)(hr:s.heap.IsRevIter a l ((items.size:Int)-1))(hl:s.heap.IsList l items)(hsz:items.size<=sizeLine)(hS:s.heap.get? S=some { cls:=.type "list",data:=.seq #[] c₀ })(hSa:S≠a)(hSl:S≠l)(hla:l≠a)(hR:∀h' tk acc' c',(∀b o,b≠S->b≠a->s.heap.get? b=some o->h'.get? b=some o)->h'.get? S=some { cls:=.type "list",dict:=none,data:=.seq acc' c',slots:=#[] }->ItemsOf (fun i v=>items[items.size-1-i]?=some v) acc' items.size->R (.ok (.ret res)) { s with heap:=h',toks:=tk }):
  wpAny (model prog w) A.in1 (Builtin.List.listExtendWith (.ref S) (.ref a) res)
   (fun fin s'=>match fin with|.done f=>R (.ok f) s'|.again c'=>c'.quiet=true/\codeAny (model prog w) A c' R s') (fun e s'=>R (.error e) s') s:=by
 have W0:=Walks.listRev (prog:=prog) (w:=w) (A:=A.in1) hh a l hla items;have W:=W0.toS;unfold Builtin.List.listExtendWith;refine wpAny_bind (wpAny_typeOf (T:="list_reverseiterator") hr.typeIs ?_);have h1:Builtin.List.listSameRef (.ref S) (.ref a)=false:=by simp[Builtin.List.listSameRef,hSa]
 have h2:(Value.type "list_reverseiterator"==Value.type "list")=false:=by decide
 have h3:(Value.type "list_reverseiterator"==Value.type "tuple")=false:=by decide
 simp only[h1,h2,h3,Bool.or_false,Bool.false_eq_true,if_false];have st0:0<=items.size/\s.heap.IsRevIter a l ((items.size:Int)-1-((0:Nat):Int))/\s.heap.IsList l items:=⟨zero_le _,by simpa using hr,hl⟩;refine wpAny_bind (W0.self 0 s _ _ st0 ?_);refine wpAny_bind (wpAny_holding (Ai hr ?_));refine wpAny_ite_split (fun z=>absurd z (by decide +kernel)) (fun _=>wpAny_pure ⟨plainId_quiet F.plain_extend_loop _,?_⟩);refine codeAny_extend_loopS W hsz S (by simp[hSa,hSl]) res items.size 0 _ #[] c₀ rfl (zero_le _) st0 hS (ItemsOf.nil _) fun s' acc' c' hm hS' hacc=>?_;rw[Moved.eq_with hm];refine hR s'.heap s'.toks acc' c' (fun b o hb hb2 e=>hm.heap b o (fun hmem=>?_) e) hS' hacc;rcases Nf hmem with q|q
 ·exact hb q
 ·exact hb2 (List.mem_singleton.mp q)
theorem zW{Q:L5}{a l:Addr}{items:Array Value}(hh:A.handled=none)(hr:s.heap.IsRevIter a l ((items.size:Int)-1))(hl:s.heap.IsList l items)(hsz:items.size<=sizeLine)(hla:l≠a)(hQ:∀h' tk acc' c',(∀b o,b≠a->s.heap.get? b=some o->h'.get? b=some o)->h'.get? s.heap.objs.size=some { cls:=.type "list",dict:=none,data:=.seq acc' c',slots:=#[] }->ItemsOf (fun i v=>items[items.size-1-i]?=some v) acc' items.size->Q (.ref s.heap.objs.size) { s with heap:=h',toks:=tk }):
  wpAny (model prog w) A (call (.type "list") [.ref a]) Q E s:=by
 have hal:a<s.heap.objs.size:=by obtain⟨o,ho,_⟩:=hr;exact lt_size ho
 have hll:l<s.heap.objs.size:=by obtain⟨o,ho,_⟩:=id hl;exact lt_size ho
 refine callType_codes (Q₁:=fun obj t=>obj=.ref s.heap.objs.size/\t={ s with heap:=s.heap.push { cls:=.type "list",data:=.seq #[] } }) F.called_list (F.typeCall_list_1 _) F.entry_list_init (code_list_new _ ⟨rfl,rfl⟩) fun obj t ht=>?_;obtain⟨rfl,rfl⟩:=ht;have gS:(s.heap.push { cls:=.type "list",data:=.seq #[] }).get? s.heap.objs.size=some { cls:=.type "list",data:=.seq #[] }:=get?_push_size _ rfl;refine⟨⟨_,gS,rfl⟩,F.args_list_init_2 _ _,?_⟩;show wpAny _ _ (Builtin.List.listItems (.ref s.heap.objs.size)>>=fun old=>Builtin.List.listUpdate (.ref s.heap.objs.size) (fun _=>#[])>>=fun _=>letGo old.toList.reverse>>=fun _=>Builtin.List.listExtendWith (.ref s.heap.objs.size) (.ref a) .none) _ _ _;unfold Builtin.List.listItems;refine wpAny_bind (wpAny_bind (wpAny_seqItems gS rfl (wpAny_pure ?_)));show wpAny _ _ (updateSeq s.heap.objs.size (fun _=>#[])>>=fun _=>letGo (#[]:Array Value).toList.reverse>>=fun _=>Builtin.List.listExtendWith (.ref s.heap.objs.size) (.ref a) .none) _ _ _;have gS2:=Heap.get?_update_self (Obj.mapSeq (fun _=>(#[]:Array Value))) gS rfl;have oth:∀b o,b≠s.heap.objs.size->s.heap.get? b=some o->((s.heap.push { cls:=.type "list",data:=.seq #[] }).update s.heap.objs.size (Obj.mapSeq (fun _=>(#[]:Array Value)))).get? b=some o:=fun b o hb e=>(Heap.get?_update_other _ _ (Ne.symm hb)).trans (get?_push_of_some _ e);refine wpAny_bind (wpAny_updateSeq gS rfl (wpAny_bind (wpAny_letGo ?_)));refine uk (A:=A.in1) hh (hr.at fun o e=>oth _ o (ne_of_lt hal) e) (hl.at fun o e=>oth _ o (ne_of_lt hll) e) hsz gS2 (ne_of_gt hal) (ne_of_gt hll) hla fun h' tk acc' c' hk hS' hacc=>?_;exact⟨rfl,hQ h' tk acc' c' (fun b o hb e=>hk b o (ne_of_lt (lt_size e)) hb (oth b o (ne_of_lt (lt_size e)) e)) hS' hacc⟩
end
section
variable{X:Cx}{e:Expr}{te:TE}{p1 p2 pos1 pos2:Pos}
theorem sE:bootBuiltins "reversed"=some (.type "reversed"):=by decide +kernel
theorem AJ:bootBuiltins "list"=some (.type "list"):=by decide +kernel
def xI(K:Frag)(te:TE):TE:=fun σ H Q=>te σ H fun x H1=>∃l ys,x=.ref l/\aH K H1 l ys/\∀p,H1 p=none->Q (.ref p) (upd H1 p (.lst ys.reverse))
theorem xD{ys:List V}{its:List Value}{acc:Array Value}(rv:Vals ys its)(h:ItemsOf (fun i v=>its.toArray[its.toArray.size-1-i]?=some v) acc its.toArray.size):Vals ys.reverse acc.toList:=by
 have hl:=rv.length;have hs:acc.size=its.length:=by rw[h.1,size_toArray]
 refine gZ (by have q1:acc.toList.length=acc.size:=length_toList;rw[List.length_reverse];omega) fun i x u h1 h2=>?_;have hi:i<ys.length:=by have:=(Nd h1).1;simpa using this
 rw[List.getElem?_reverse hi]at h1;have q:=h.2 i u (by simpa using h2);rw[size_toArray]at q;obtain⟨u2,hu2,r2⟩:=rv.get h1;have q':its[its.length-1-i]?=some u:=by simpa using q
 rw[hl]at hu2;rw[hu2]at q';cases q';exact r2
theorem tU(hc:X.calm=true)(hg1:Gl X "list")(hm1:X.mg "list"=none)(hg2:Gl X "reversed")(hm2:X.mg "reversed"=none)(he:PE X e te)(hs1:starEach [.Call (.Name "reversed" p2) [e] [] pos2] X.env=[(false,eval (.Call (.Name "reversed" p2) [e] [] pos2) X.env)]:=by rfl)(hs2:starEach [e] X.env=[(false,eval e X.env)]:=by rfl):
  PE X (.Call (.Name "list" p1) [.Call (.Name "reversed" p2) [e] [] pos2] [] pos1) (xI X.K te):=by
 intro pins s σ H Q I h;refine wpAny_Call_Name_kw (eB I hg1 hm1 AJ (PyProof.Rows.callWith_type1 ?_ hs1 rfl));rw[hs1];show wpAny _ _ (spliced [(false,eval (.Call (.Name "reversed" p2) [e] [] pos2) X.env)]) _ _ s;refine Calls.spliced_cons ?_;refine wpAny_Call_Name_kw (eB I hg2 hm2 sE (PyProof.Rows.callWith_type1 ?_ hs2 rfl));rw[hs2];show wpAny _ _ (spliced [(false,eval e X.env)]) _ _ s;refine Calls.spliced_cons (bK (he pins s σ H _ I h) fun u s1⟨x,H1,I1,r1,l,ys,ex,hl,q⟩=>Calls.spliced_nil ?_);subst ex;obtain rfl:u=Value.ref l:=r1;obtain⟨its,rv,p,hz⟩:=I1.list hl;have hn:ys.length=its.toArray.size:=by rw[size_toArray];exact rv.length
 refine call_reversed_list p.isList (Calls.spliced_nil ?_);have hll:l<s1.heap.objs.size:=by obtain⟨o,ho,_⟩:=p.isList;exact lt_size ho
 have g:(s1.heap.push (revObj l ((its.toArray.size:Int)-1))).IsRevIter s1.heap.objs.size l ((its.toArray.size:Int)-1):=⟨_,get?_push_size _ rfl,rfl,rfl⟩;refine zW (s:={ s1 with heap:=s1.heap.push (revObj l ((its.toArray.size:Int)-1)) }) (I1.ok.hd hc) g (p.isList.at fun o e=>get?_push_of_some _ e) (by rw[<-hn];exact hz) (ne_of_lt hll) fun h' tk acc c' kp hS hacc=>?_;have es:(s1.heap.push (revObj l ((its.toArray.size:Int)-1))).objs.size=s1.heap.objs.size+1:=size_push ..;have rr:=xD rv hacc;refine⟨_,_,I1.laid (t':=tk) (a:=s1.heap.objs.size+1) (o:=.lst ys.reverse) (fun b o e=>kp b o (ne_of_lt (lt_size e)) (get?_push_of_some _ e)) (le_succ _) ⟨by rw[List.length_reverse];exact hz,acc.toList,c',rr,by rw[<-es];simpa using hS⟩,by rw[es];rfl,q _ (I1.a8.fresh (le_succ _))⟩
end
section
variable{X:Cx}
theorem tZ:L3 X "list.insert" (fun x vs H Q=>∃l xs y,x=.ref l/\vs=[.int 0,y]/\H l=some (.lst xs)/\xs.length<sizeLine/\Q .cu (upd H l (.lst (y::xs)))):=by
 intro pins s σ H x vs v us Q I rx rv h;obtain⟨l,xs,y,rfl,rfl,hH,hz,q⟩:=h;cases rx;cases rv with
 |cons r1 rt=>
  cases rt with
  |cons r2 rt=>
   cases rt;obtain⟨t,rfl⟩:=r1;rename_i u;obtain⟨z,its,n,r,hl,e⟩:=I.pN hH;refine call_meets F.slot_list_insert ⟨_,e,rfl⟩ F.entry_list_insert (F.args_list_insert_3 _ _ _) (AutoSeq1.list_insert_list_int_val_1 l its.toArray n 0 t u (by decide) (by rw[size_toArray];omega)) ⟨e,?_⟩;refine⟨.cu,_,I.HC (its':=u::its) hH e (by simp) (.cons r2 r) ?_,rfl,q⟩;rw[length_cons];omega
theorem Ae:L0 X .Mult (fun x y H Q=>∃i j,x=.int i/\y=.int j/\CI i j/\Q (.int (i*j)) H):=by
 intro pins s σ H x y v u Q I r1 r2 h;obtain⟨i,j,rfl,rfl,hm,q⟩:=h;obtain⟨t,rfl⟩:=r1;obtain⟨t',rfl⟩:=r2;exact imul_int ⟨.int _,H,I.tok _,⟨_,rfl⟩,q⟩ hm.ok
theorem oX(hc:X.calm=true):eX X (.type "set") (fun xs H Q=>∃(a:Addr)(ns:List Int),xs=[.ref a]/\aH X.K H a (ns.map V.int)/\ns.length<1000/\∀p,H p=none->Q (.ref p) (upd H p (.set (fun k=>(firstMet (fun i=>ns.getD i 0) ns.length).any (·==k)) (firstMet (fun i=>ns.getD i 0) ns.length).length))):=by
 intro pins s σ H xs us Q I r h;obtain⟨a,ns,rfl,hs,hl,q⟩:=h;rw[Vals.nQ r];obtain⟨its,rv,p,_⟩:=I.list hs;have hn:its.toArray.size=ns.length:=by rw[size_toArray,<-rv.length,length_map]
 refine call_set_list (I.ok.hd hc) p.isList (ns:=ns) (by simpa using rv.ints) (by rw[hn];show ns.length+1<scanBound;unfold scanBound;omega) fun h' tk hS hk=>?_;rw[hn]at hS;exact⟨.ref s.heap.objs.size,_,I.laid (o:=.set (fun k=>(firstMet (fun i=>ns.getD i 0) ns.length).any (·==k)) (firstMet (fun i=>ns.getD i 0) ns.length).length) (t':=tk) (fun b o e=>hk b o (lt_size e) e) (le_refl _) hS,rfl,q _ (I.a8.fresh (le_refl _))⟩
theorem kb:eX X (.builtin "len") (fun xs H Q=>∃a S n,xs=[.ref a]/\H a=some (.set S n)/\Q (.int (n:Nat)) H):=by
 intro pins s σ H xs us Q I r h;obtain⟨a,S,n,rfl,ha,q⟩:=h;rw[Vals.nQ r];obtain⟨o,es,ep,t,ho,hex,hd,_,_,hsz,hf,hn⟩:=(show s.heap.SetOf (intKind X.prog X.w) a S n from I.a8 a _ ha);refine call_len_set ho hex hd hf (by have:scanBound<=2^63:=(by decide +kernel);omega) ⟨.int (n:Nat),H,I.tok _,⟨_,by rw[hn]⟩,q⟩
end
theorem sD{env:Env}{o i:Expr}{p pos:Pos}{args:List Expr}:eval (.Call (.Subscript o i p) args [] pos) env=(do callWith pos (<-eval (.Subscript o i p) env) [] (backTo pos (starEach args env)) (backToKw pos (keywordEach [] env))):=rfl
section
variable{X:Cx}{k:Nat}{o i e:Expr}{p pos:Pos}{es:List Expr}{t:TA}
theorem y9{tf:TE}(hf:PE X (.Subscript o i p) tf)(hr:bR k X.A)(hx:Passes bA X E0)(ha:PA X (e::es) t)(he:starEach (e::es) X.env=(false,eval e X.env)::starEach es X.env:=by rfl)(hpl:(backTo pos (starEach es X.env)).any (·.1)=false:=by rfl):
  PE X (.Call (.Subscript o i p) (e::es) [] pos) (xJ X k tf t):=by
 intro pins s σ H Q I h;rw[sD];refine wpAny_bind (bK (hf pins s σ H _ I h) fun u s0⟨v,H1,I1,r,f,fd,ps,sp,ev,F,hb,hk,q⟩=>?_);subst ev;obtain rfl:u=Value.ref f:=r;refine callWith_F (hk.at_ I1) (bK (ha pos pins s0 σ H1 _ I1 q) fun us s1⟨vs,H2,I2,r2,hk2,q2⟩=>⟨hk2.at_ I2,?_⟩) he hpl;refine jM (dvs:=[]) (ds:=[]) F hr hb .nil hx I2 r2 ?_;rw[append_nil];exact q2
end
abbrev ER:String:="str_ascii_iterator"
theorem cY{h h':Heap}{it:Addr}{x:Str}{t:Tok}{k:Nat}(q:h.IsStrIter it ER x t k)(e:∀o,h.get? it=some o->h'.get? it=some o):h'.IsStrIter it ER x t k:=let⟨o,ho,r⟩:=q;⟨o,e o ho,r⟩
section
variable{prog:Program}{w:World}{A:Around}{E:L5}{s:Shared}
structure ZS(h:Heap)(z TI TO i1 i2 l:Addr)(f0 a b:Value)(x:Str)(t:Tok)(k1 k2:Nat)(ys:Array Value):Prop where
 gz:IsZip h z TI TO f0
 gi:IsPair h TI (.ref i1) (.ref i2)
 go:IsPair h TO a b
 gs:h.IsStrIter i1 ER x t k1
 gl:h.IsListIter i2 l k2
 gy:h.IsList l ys
theorem AY{z TI TO i1 i2 l:Addr}{k:Nat}{x:Str}{t:Tok}{c:Nat}{ys:Array Value}{y a b:Value}{Q:L5}(D:ZipApart z TI TO i1 i2 l l)(Z:ZS s.heap z TI TO i1 i2 l .none a b x t k k ys)(hx:x.cps[k]?=some c)(hy:ys[k]?=some y)(hQ:∀h' u,ZS h' z TI TO i1 i2 l (rawInt s.heap.objs.size) (.str ⟨#[c]⟩ u) y x t (k+1) (k+1) ys->IsPair h' s.heap.objs.size (.str ⟨#[c]⟩ u) y->h'.objs.size=s.heap.objs.size+1 ->
   (∀d o,d≠z->d≠TO->d≠i1->d≠i2->s.heap.get? d=some o->h'.get? d=some o)->Q (.ref s.heap.objs.size) { s with heap:=h',toks:=s.toks+1 }):
  wpAny (model prog w) A (Builtin.«zip.__next__» ⟨[.ref z],[]⟩) (fun fin s'=>∃v,fin=.done (.ret v)/\Q v s') E s:=by
 obtain⟨gz,gi,go,gs,gl,gy⟩:=Z;show wpAny _ _ (field (.ref z) 2>>=_) _ _ _;refine wpAny_bind (wpAny_field gz rfl (x:=.bool false) rfl ?_);show wpAny _ _ (field (.ref z) 3>>=_) _ _ _;refine wpAny_bind (wpAny_field gz rfl (x:=.ref TI) rfl (wpAny_bind (wpAny_seqItems gi rfl ?_)));show wpAny _ _ (Builtin.SmallTypes.ownedTupleIsFree (.ref z)>>=_) _ _ _;refine wpAny_bind ?_;unfold Builtin.SmallTypes.ownedTupleIsFree;refine wpAny_bind (wpAny_field gz rfl (x:=.none) rfl (wpAny_pure ?_));simp only[if_true];refine wpAny_bind (wpAny_rule (wpAny_bind (wpAny_field gz rfl (x:=.ref TO) rfl (wpAny_bind (wpAny_setField_rec gz (by simp) fun e1 z1 b1=>?_)))));replace z1:IsZip e1 z TI TO .ellipsis:=z1;refine wpAny_bind ?_;simp only[List.zipIdx_cons,List.zipIdx_nil,forIn_cons,forIn_nil];refine wpAny_bind (wpAny_bind (wpAny_onRaise ?_));show wpAny _ _ (Builtin.SmallTypes.nextOf (.ref i1)>>=_) _ _ _;refine wpAny_bind (wpAny_nextOf_ascii_item (s:={ s with heap:=e1 }) (cY gs fun o q=>b1.extBut _ _ D.i1z q) hx fun e2 s2 b2=>wpAny_pure ?_);have o2:IsPair e2 TO a b:=b2.extBut _ _ D.TOi1 (b1.extBut _ _ D.TOz go);refine wpAny_bind (wpAny_seqItems o2 rfl (wpAny_bind (wpAny_updateSeq_pair o2 fun e3 o3 b3=>wpAny_bind (wpAny_letGo (wpAny_pure ?_)))));replace o3:IsPair e3 TO (.str ⟨#[c]⟩ s.toks) b:=o3;refine wpAny_bind (wpAny_bind (wpAny_onRaise ?_));show wpAny _ _ (Builtin.SmallTypes.nextOf (.ref i2)>>=_) _ _ _;have l3:e3.IsListIter i2 l k:=((gl.extBut b1.extBut D.i2z).extBut b2.extBut D.i12.symm).extBut b3.extBut D.TOi2.symm;have y3:e3.IsList l ys:=((gy.extBut b1.extBut D.l2z).extBut b2.extBut D.l2i1).extBut b3.extBut D.l2TO;refine wpAny_bind (wpAny_nextOf_list_item (s:={ s with heap:=e3,toks:=s.toks+1 }) l3 y3 hy fun e4 l4 b4=>wpAny_pure ?_);have o4:IsPair e4 TO (.str ⟨#[c]⟩ s.toks) b:=b4.extBut _ _ D.TOi2 o3;refine wpAny_bind (wpAny_seqItems o4 rfl (wpAny_bind (wpAny_updateSeq_pair o4 fun e5 o5 b5=>wpAny_bind (wpAny_letGo (wpAny_pure (wpAny_pure ?_))))));replace o5:IsPair e5 TO (.str ⟨#[c]⟩ s.toks) y:=o5;refine wpAny_bind (wpAny_seqItems o5 rfl (wpAny_bind (wpAny_newTuple ?_)));have sz:e5.objs.size=s.heap.objs.size:=by rw[b5.1,b4.1,b3.1,b2.1,b1.1]
 have z5:IsZip e5 z TI TO .ellipsis:=b5.extBut _ _ D.TOz.symm (b4.extBut _ _ D.i2z.symm (b3.extBut _ _ D.TOz.symm (b2.extBut _ _ D.i1z.symm z1)));have k5:∀d o,d≠z->d≠TO->d≠i1->d≠i2->s.heap.get? d=some o->e5.get? d=some o:=fun d o d1 d2 d3 d4 q=>b5.extBut _ _ d2 (b4.extBut _ _ d4 (b3.extBut _ _ d2 (b2.extBut _ _ d3 (b1.extBut _ _ d1 q))));have s5:e5.IsStrIter i1 ER x t (k+1):=cY s2 fun o q=>b5.extBut _ _ D.TOi1.symm (b4.extBut _ _ D.i12 (b3.extBut _ _ D.TOi1.symm q));have l5:e5.IsListIter i2 l (k+1):=l4.extBut b5.extBut D.TOi2.symm;have zlt:z<e5.objs.size:=lt_size z5;show wpAny _ _ (Builtin.SmallTypes.ownedTupleHandOut (.ref z) (.ref e5.objs.size)>>=_) _ _ _;refine wpAny_bind ?_;unfold Builtin.SmallTypes.ownedTupleHandOut;have z6:IsZip (e5.push { cls:=.type "tuple",data:=.seq #[.str ⟨#[c]⟩ s.toks,y] }) z TI TO .ellipsis:=get?_push_of_some _ z5;refine wpAny_bind (wpAny_setField_rec z6 (by simp) fun e7 z7 b7=>?_);replace z7:IsZip e7 z TI TO (rawInt e5.objs.size):=z7;refine wpAny_setField_rec z7 (by simp) fun e8 z8 b8=>?_;replace z8:IsZip e8 z TI TO (rawInt e5.objs.size):=z8;have up:∀d o,d≠z->e5.get? d=some o->e8.get? d=some o:=fun d o d1 q=>b8.extBut _ _ d1 (b7.extBut _ _ d1 (get?_push_of_some _ q));have t8:IsPair e8 e5.objs.size (.str ⟨#[c]⟩ s.toks) y:=b8.extBut _ _ (ne_of_gt zlt) (b7.extBut _ _ (ne_of_gt zlt) (get?_push_size _ rfl));have n8:e8.objs.size=e5.objs.size+1:=by rw[b8.1,b7.1,size_push]
 rw[sz]at z8 t8 n8;refine wpAny_pure ⟨_,rfl,?_⟩;show Q (.ref e5.objs.size) _;rw[sz];have yy:e8.IsList l ys:=gy.at fun o q=>up _ o D.l2z (k5 _ o D.l2z D.l2TO D.l2i1 D.l2i2 q);exact hQ e8 s.toks ⟨z8,up _ _ D.TIz (k5 _ _ D.TIz D.TITO D.TIi1 D.TIi2 gi),up _ _ D.TOz o5,cY s5 fun o q=>up _ o D.i1z q,l5.at fun o q=>up _ o D.i2z q,yy⟩ t8 n8 fun d o d1 d2 d3 d4 q=>up d o d1 (k5 d o d1 d2 d3 d4 q)
theorem DZ{z TI TO i1 i2 l:Addr}{k:Nat}{x:Str}{t:Tok}{ys:Array Value}{a b:Value}{Q:Fin->Shared->Prop}(hh:A.handled=none)(D:ZipApart z TI TO i1 i2 l l)(Z:ZS s.heap z TI TO i1 i2 l .none a b x t k k ys)(hx:x.cps[k]?=none)(hE:∀h' e,(∀d o,d≠z->d≠TO->d≠i1->d≠i2->s.heap.get? d=some o->h'.get? d=some o)->(∃o,h'.get? e=some o/\o.cls=.type "StopIteration")->E (.ref e) { s with heap:=h' }):
  wpAny (model prog w) A (Builtin.«zip.__next__» ⟨[.ref z],[]⟩) Q E s:=by
 obtain⟨gz,gi,go,gs,gl,gy⟩:=Z;show wpAny _ _ (field (.ref z) 2>>=_) _ _ _;refine wpAny_bind (wpAny_field gz rfl (x:=.bool false) rfl ?_);show wpAny _ _ (field (.ref z) 3>>=_) _ _ _;refine wpAny_bind (wpAny_field gz rfl (x:=.ref TI) rfl (wpAny_bind (wpAny_seqItems gi rfl ?_)));show wpAny _ _ (Builtin.SmallTypes.ownedTupleIsFree (.ref z)>>=_) _ _ _;refine wpAny_bind ?_;unfold Builtin.SmallTypes.ownedTupleIsFree;refine wpAny_bind (wpAny_field gz rfl (x:=.none) rfl (wpAny_pure ?_));simp only[if_true];refine wpAny_bind (wpAny_rule (wpAny_bind (wpAny_field gz rfl (x:=.ref TO) rfl (wpAny_bind (wpAny_setField_rec gz (by simp) fun e1 z1 b1=>?_)))));replace z1:IsZip e1 z TI TO .ellipsis:=z1;refine wpAny_bind ?_;simp only[List.zipIdx_cons,List.zipIdx_nil,forIn_cons,forIn_nil];refine wpAny_bind (wpAny_bind (wpAny_onRaise ?_));show wpAny _ _ (Builtin.SmallTypes.nextOf (.ref i1)>>=_) _ _ _;refine wpAny_bind (wpAny_nextOf_ascii_end (s:={ s with heap:=e1 }) hh (cY gs fun o q=>b1.extBut _ _ D.i1z q) hx fun e2 e b2 he=>?_);obtain⟨oe,g1,g2⟩:=he;have z2:IsZip e2 z TI TO .ellipsis:=b2 _ _ D.i1z.symm z1;have nz:e≠z:=fun q=>by subst q;rw[z2]at g1;cases g1;simp at g2
 exact wpAny_setField_rec z2 (by simp) fun e3 _ b3=>hE e3 e (fun d o d1 _ d3 _ q=>b3.extBut _ _ d1 (b2 _ _ d3 (b1.extBut _ _ d1 q))) ⟨oe,b3.extBut _ _ nz g1,g2⟩
theorem vX{z TI TO i1 i2 l:Addr}{k:Nat}{x:Str}{t:Tok}{c:Nat}{ys:Array Value}{y a b:Value}{Q:Option Value->Shared->Prop}(D:ZipApart z TI TO i1 i2 l l)(Z:ZS s.heap z TI TO i1 i2 l .none a b x t k k ys)(hx:x.cps[k]?=some c)(hy:ys[k]?=some y)(hQ:∀h' u,ZS h' z TI TO i1 i2 l (rawInt s.heap.objs.size) (.str ⟨#[c]⟩ u) y x t (k+1) (k+1) ys->IsPair h' s.heap.objs.size (.str ⟨#[c]⟩ u) y->h'.objs.size=s.heap.objs.size+1 ->
   (∀d o,d≠z->d≠TO->d≠i1->d≠i2->s.heap.get? d=some o->h'.get? d=some o)->Q (some (.ref s.heap.objs.size)) { s with heap:=h',toks:=s.toks+1 }):wpAny (model prog w) A (pyNext (.ref z)) Q E s:=by
 have ty:s.TypeIs (.ref z) "zip":=⟨_,Z.gz,rfl⟩;unfold pyNext;refine wpAny_bind (wpAny_attempt (wpAny_callSpecial?_slot (name:=Str.ofString "__next__") ty F.slot_zip_next (wpAny_call_entry F.slot_zip_next ty F.entry_zip_next (AY D Z hx hy fun h' u a1 a2 a3 a4=>wpAny_pure (hQ h' u a1 a2 a3 a4)) (F.args_zip_next_1 _))))
theorem vW{z TI TO i1 i2 l:Addr}{k:Nat}{x:Str}{t:Tok}{ys:Array Value}{a b:Value}{Q:Option Value->Shared->Prop}(hh:A.handled=none)(D:ZipApart z TI TO i1 i2 l l)(Z:ZS s.heap z TI TO i1 i2 l .none a b x t k k ys)(hx:x.cps[k]?=none)(hQ:∀h',(∀d o,d≠z->d≠TO->d≠i1->d≠i2->s.heap.get? d=some o->h'.get? d=some o)->Q none { s with heap:=h' }):wpAny (model prog w) A (pyNext (.ref z)) Q E s:=by
 have ty:s.TypeIs (.ref z) "zip":=⟨_,Z.gz,rfl⟩;unfold pyNext;refine wpAny_bind (wpAny_attempt (wpAny_callSpecial?_slot (name:=Str.ofString "__next__") ty F.slot_zip_next (wpAny_call_entry F.slot_zip_next ty F.entry_zip_next (DZ hh D Z hx fun h' e hk he=>?_) (F.args_zip_next_1 _))));obtain⟨o,ho,hc⟩:=he;exact wpAny_bind (wpAny_isInstance (T:="StopIteration") (b:=true) ⟨o,ho,hc⟩ isSubtype_stop (wpAny_pure (hQ _ hk)))
end
def Ki(K:Frag)(x:Str)(b:Addr):It:=
 ⟨fun i H=>i<x.cps.size/\∃(ys:List V)(y:V),aH K H b ys/\ys[i]?=some y,
  fun i H v H'=>∃T c y,v=.ref T/\H T=none/\H'=upd H T (.tup [.str ⟨#[c]⟩,y])/\x.cps[i]?=some c/\∀ys,aH K H b ys->ys[i]?=some y,
  fun i H=>x.cps.size<=i/\∃ys:List V,aH K H b ys⟩
theorem wc{P:Program}{w:World}{K:Frag}{elts:List Expr}{kk:Nat}{tpos:Pos}{x:Str}{t:Tok}{b z TI TO i1 i2:Addr}(D:ZipApart z TI TO i1 i2 b b):
  Turn P w K (.Tuple elts kk tpos) (Ki K x b) [z,TI,TO,i1,i2] z (fun i h=>IsZip h z TI TO .none/\IsPair h TI (.ref i1) (.ref i2)/\(∃u v,IsPair h TO u v)/\h.IsStrIter i1 ER x t i/\h.IsListIter i2 b i) where
 mem:=by simp
 obj:=fun i h st c hc=>by
  obtain⟨hz,hTI,⟨u,v,hTO⟩,⟨o1,e1,_,d1⟩,⟨o2,e2,_,d2⟩⟩:=st
  simp only[mem_cons,not_mem_nil,or_false]at hc
  rcases hc with rfl|rfl|rfl|rfl|rfl
  ·exact⟨_,hz,fun v q=>nomatch q⟩
  ·exact⟨_,hTI,fun v q=>nomatch q⟩
  ·exact⟨_,hTO,fun v q=>nomatch q⟩
  ·exact⟨o1,e1,fun v q=>by rw[d1]at q;cases q⟩
  ·exact⟨o2,e2,fun v q=>by rw[d2]at q;cases q⟩
 keep:=fun i h h' st k=>by
  obtain⟨hz,hTI,⟨u,v,hTO⟩,h1,h2⟩:=st
  exact⟨k z (by simp) _ hz,k TI (by simp) _ hTI,⟨u,v,k TO (by simp) _ hTO⟩,cY h1 fun o q=>k i1 (by simp) o q,h2.at fun o q=>k i2 (by simp) o q⟩
 item:=by
  intro X hP hw hK hc i pins s σ H E I hf st hg
  subst hP hw hK
  obtain⟨hz,hTI,⟨x0,y0,hTO⟩,h1,h2⟩:=st
  obtain⟨hi,ys,y,hqy,hy⟩:=hg
  obtain⟨its2,rv2,p2,_⟩:=I.list hqy
  obtain⟨u2,hu2,ru2⟩:=rv2.get hy
  have hzl:z<s.heap.objs.size:=lt_size hz
  have hcx:x.cps[i]?=some x.cps[i]:=Array.getElem?_eq_getElem hi
  refine vX D ⟨hz,hTI,hTO,h1,h2,p2.isList⟩ hcx (y:=u2) (by simpa using hu2) fun h' u Z' hT hsz hk=>?_
  refine⟨_,rfl,wpAny_letOwnedTupleGo_zip (s:={ s with heap:=h',toks:=s.toks+1 }) Z'.gz fun h'' z'' sb=>?_⟩
  have hT2:h''.get? s.heap.objs.size=some { cls:=.type "tuple",data:=.seq #[.str ⟨#[x.cps[i]]⟩ u,u2] }:=(sb.2 _ (ne_of_gt hzl)).trans hT
  have new:bB X.prog X.w (upd H s.heap.objs.size (.tup [.str ⟨#[x.cps[i]]⟩,y])) h'' s.heap.objs.size (.tup [.str ⟨#[x.cps[i]]⟩,y]):=
   ⟨by show 2<=sizeLine;decide,[.str ⟨#[x.cps[i]]⟩ u,u2],.cons ⟨_,rfl⟩ (.cons ru2 .nil),⟨_,hT2,rfl,_,rfl⟩⟩
  have I1:Inv X pins σ (upd H s.heap.objs.size (.tup [.str ⟨#[x.cps[i]]⟩,y])) { s with heap:=h'',toks:=s.toks+1 }:=
   I.jK (t':=s.toks+1) (ch:=[z,TI,TO,i1,i2]) (fun c o hb q=>(sb.2 c (fun q'=>hb (by simp[q']))).trans (hk c o (fun q'=>hb (by simp[q'])) (fun q'=>hb (by simp[q'])) (fun q'=>hb (by simp[q'])) (fun q'=>hb (by simp[q'])) q)) hf (le_refl _) new
  refine⟨.ref s.heap.objs.size,_,I1,rfl,⟨_,x.cps[i],y,rfl,I.a8.fresh (le_refl _),rfl,hcx,fun l hl=>by rw[I.ic hl hqy];exact hy⟩,⟨z'',(sb.2 _ D.TIz).trans Z'.gi,⟨_,_,(sb.2 _ D.TOz).trans Z'.go⟩,cY Z'.gs fun o q=>(sb.2 _ D.i1z).trans q,Z'.gl.at fun o q=>(sb.2 _ D.i2z).trans q⟩,fun c hcm=>?_⟩
  have hlt:c<s.heap.objs.size:=by
   simp only[mem_cons,not_mem_nil,or_false]at hcm
   rcases hcm with rfl|rfl|rfl|rfl|rfl
   ·exact hzl
   ·exact lt_size hTI
   ·exact lt_size hTO
   ·obtain⟨_,e1,_⟩:=h1;exact lt_size e1
   ·obtain⟨_,e2,_⟩:=h2;exact lt_size e2
  rw[ao (ne_of_lt hlt)]
  exact(hf c hcm).1
 done:=by
  intro X hP hw hK hc i pins s σ H E I hf st hg
  subst hP hw hK
  obtain⟨hz,hTI,⟨x0,y0,hTO⟩,h1,h2⟩:=st
  obtain⟨hend,ys,hqy⟩:=hg
  obtain⟨its2,rv2,p2,_⟩:=I.list hqy
  exact vW (I.ok.hd hc) D ⟨hz,hTI,hTO,h1,h2,p2.isList⟩ (Array.getElem?_eq_none hend) fun h' hk=>⟨rfl,I.uJ (t':=s.toks) (ch:=[z,TI,TO,i1,i2]) (fun c o hb q=>
   hk c o (fun q'=>hb (by simp[q'])) (fun q'=>hb (by simp[q'])) (fun q'=>hb (by simp[q'])) (fun q'=>hb (by simp[q'])) q) hf⟩
 self:=fun A i s Q E st h=>wpAny_pyIter_zip st.1 h
abbrev zA(h:Heap)(x:Str)(t:Tok):Heap:=h.push { cls:=.type ER,data:=.fields #[.str x t,.int 0 0] }
abbrev zB(h:Heap)(x:Str)(t:Tok)(l:Addr):Heap:=(zA h x t).push { cls:=.type "list_iterator",data:=.fields #[.ref l,.int 0 0] }
abbrev zC(h:Heap)(x:Str)(t:Tok)(l:Addr):Heap:=(zB h x t l).push { cls:=.type "tuple",data:=.seq #[.ref h.objs.size,.ref (zA h x t).objs.size] }
abbrev zD(h:Heap)(x:Str)(t:Tok)(l:Addr):Heap:=(zC h x t l).push { cls:=.type "tuple",data:=.seq #[.none,.none] }
abbrev zE(h:Heap)(x:Str)(t:Tok)(l:Addr):Heap:=(zD h x t l).push { cls:=.type "zip",data:=.fields #[.none,.bool false,.bool false,.ref (zB h x t l).objs.size,.ref (zC h x t l).objs.size] }
theorem xx(x:Str)(t:Tok)(l:Addr)(ys:Array Value)(ha:x.cps.all (·<128)=true):
  Meets (Builtin.«zip.__new__» ⟨[.type "zip",.str x t,.ref l],[]⟩) (fun _ R s=>s.heap.IsList l ys/\R (.ok (.ret (.ref (zD s.heap x t l).objs.size))) { s with heap:=zE s.heap x t l }):=
 .of_wp fun prog w A R st h=>by
  obtain⟨hp,gg,dr,tks,oss⟩:=st
  obtain⟨h1,h⟩:=h
  have hs:=sub_zip
  have hL:Heap.IsList (Shared.heap ⟨zA hp x t,gg,dr,tks,oss⟩) l ys:=Heap.IsList.push h1 _
  wp_walk using wpAny_pyIter_ascii ha,wpAny_pyIter_list hL
  exact⟨_,rfl,h⟩
section
variable{prog:Program}{w:World}{A:Around}{E:L5}{s:Shared}
theorem xk{x:Str}{t:Tok}{l:Addr}{ys:Array Value}{Q:L5}(ha:x.cps.all (·<128)=true)(hl:s.heap.IsList l ys)(h:∀h' n,n=s.heap.objs.size->IsZip h' (n+4) (n+2) (n+3) .none->IsPair h' (n+2) (.ref n) (.ref (n+1))->IsPair h' (n+3) .none .none->h'.IsStrIter n ER x t 0->h'.IsListIter (n+1) l 0->(∀c o,s.heap.get? c=some o->h'.get? c=some o)->Q (.ref (n+4)) { s with heap:=h' }):
  wpAny (model prog w) A (call (.type "zip") [.str x t,.ref l]) Q E s:=by
 refine callType_new F.called_zip (by decide) (F.typeCall_zip_2 _ _) (F.newCall_zip_2 _ _) (fun obj=>F.args_object_init_3 obj _ _) F.entry_zip_new (xx x t l ys ha) ⟨hl,?_⟩;have n1:(zA s.heap x t).objs.size=s.heap.objs.size+1:=size_push ..;have n2:(zB s.heap x t l).objs.size=s.heap.objs.size+2:=by rw[size_push,n1]
 have n3:(zC s.heap x t l).objs.size=s.heap.objs.size+3:=by rw[size_push,n2]
 have n4:(zD s.heap x t l).objs.size=s.heap.objs.size+4:=by rw[size_push,n3]
 have g5:(zE s.heap x t l).get? (zD s.heap x t l).objs.size=some _:=get?_push_size _ rfl;have g4:(zE s.heap x t l).get? (zC s.heap x t l).objs.size=some _:=get?_push_of_some _ (get?_push_size _ rfl);have g3:(zE s.heap x t l).get? (zB s.heap x t l).objs.size=some _:=get?_push_of_some _ (get?_push_of_some _ (get?_push_size _ rfl));have g2:(zE s.heap x t l).get? (zA s.heap x t).objs.size=some _:=get?_push_of_some _ (get?_push_of_some _ (get?_push_of_some _ (get?_push_size _ rfl)));have g1:(zE s.heap x t l).get? s.heap.objs.size=some _:=get?_push_of_some _ (get?_push_of_some _ (get?_push_of_some _ (get?_push_of_some _ (get?_push_size _ rfl))));show _/\_;rw[n2,n3,n4]at g5;rw[n1,n2]at g3;rw[n3]at g4;rw[n1]at g2;rw[n4];refine⟨⟨_,g5,rfl⟩,h _ _ rfl g5 g3 g4 ⟨_,g1,rfl,rfl⟩ ⟨_,g2,rfl,rfl⟩ fun c o q=>?_⟩;exact get?_push_of_some _ (get?_push_of_some _ (get?_push_of_some _ (get?_push_of_some _ (get?_push_of_some _ q))))
end
def JR(K:Frag)(ta:TA):TI:=fun σ H R=>ta σ H fun vs H1=>∃x b ys,vs=[.str x,.ref b]/\x.cps.all (·<128)=true/\aH K H1 b ys/\R (Ki K x b) H1
theorem u1{X:Cx}{e e2:Expr}{ta:TA}{p pos tpos:Pos}{elts:List Expr}{kk:Nat}(hg:Gl X "zip")(hm:X.mg "zip"=none)(ha:PA X [e,e2] ta)(hs:starEach [e,e2] X.env=(false,eval e X.env)::starEach [e2] X.env:=by rfl)(hpl:(backTo pos (starEach [e2] X.env)).any (·.1)=false:=by rfl):
  PI X (.Tuple elts kk tpos) (.Call (.Name "zip" p) [e,e2] [] pos) (JR X.K ta):=by
 intro pins s σ H R I h;refine Call_ (eB I hg hm oY (PyProof.Rows.callWith_type1 (bK (ha pos pins s σ H _ I h) fun us s1⟨vs,H1,I1,r1,x,b,ys,ex,hx,hqy,q⟩=>?_) hs hpl));subst ex;cases r1 with
 |cons r rr=>
  cases rr with
  |cons r' rr=>
   cases rr;cases r';obtain⟨t,rfl⟩:=r;obtain⟨its2,rv2,p2,_⟩:=I1.list hqy;have lb:b<s1.heap.objs.size:=p2.lt;refine xk hx p2.isList fun h' n hn hz hTI hTO h1 h2 hk=>wpAny_pyIter_zip hz ?_;have I2:Inv X pins σ H1 { s1 with heap:=h' }:=I1.kept (t':=s1.toks) hk;subst hn;have D:=ktu_apart s1.heap.objs.size b b lb lb;refine⟨s1.heap.objs.size+4,[s1.heap.objs.size+4,s1.heap.objs.size+2,s1.heap.objs.size+3,s1.heap.objs.size,s1.heap.objs.size+1],_,_,H1,rfl,I2,wc D,⟨hz,hTI,⟨_,_,hTO⟩,h1,h2⟩,fun c hcm=>?_,q⟩;have hle:s1.heap.objs.size<=c:=by
    simp only[mem_cons,not_mem_nil,or_false]at hcm;rcases hcm with rfl|rfl|rfl|rfl|rfl
    ·exact le_add_right _ _
    ·exact le_add_right _ _
    ·exact le_add_right _ _
    ·exact le_refl _
    ·exact le_add_right _ _
   exact I1.nY hle (I1.a8.fresh hle)
section
variable{X:Cx}{e:Expr}{p pos:Pos}
def IA(X:Cx)(k:Nat)(t tk:TA):TE:=fun σ H Q=>t σ H fun vs H1=>tk σ H1 fun zs H2=>∃(l f:Addr)(fd:FuncData)(ps:List Str)(sp:Sp)(ts:List Addr)(rows:List (List Int)),vs=[.ref l]/\zs=[.ref f]/\aG X.prog X.w X.K X.mg X.base bA k f fd ps sp/\Binds X.K fd ps [] /\
 rows.length=ts.length/\H2 l=some (.lst (ts.map V.ref))/\0<ts.length /\
 (∀(i:Nat)(t:Addr)(r:List Int),ts[i]?=some t->rows[i]?=some r->∀H3,aj H2 H3->sp [.ref t] H3 (fun u H4=>∃v,u=.ref v/\aj H3 H4/\H4 v=some (.lst (r.map V.int))) E0) /\
 ∀(i:Nat)(t:Addr)(r:List Int)(H':Hp),ts[i]?=some t->rows[i]?=some r->(∀(j:Nat)(q:List Int),rows[j]?=some q->HT.lexLt q r=false)->aj H2 H'->Q (.ref t) H'
theorem vR:bootBuiltins "min"=some (.builtin "min"):=by decide +kernel
theorem BR{e2:Expr}{k:Nat}{t tk:TA}{kp:Pos}(hc:X.calm=true)(hr:bR (k+1) X.A)(hg:Gl X "min")(hm:X.mg "min"=none)(ha:PA X [e] t)(hk:PK X [⟨some "key",e2,kp⟩] tk)(he:starEach [e] X.env=[(false,eval e X.env)]:=by rfl):PE X (.Call (.Name "min" p) [e] [⟨some "key",e2,kp⟩] pos) (IA X k t tk):=by
 intro pins s σ H Q I h;refine wpAny_Call_Name_kw (eB I hg hm vR (PyProof.Rows.callWith_kw (bK (ha pos pins s σ H _ I h) fun us s1⟨vs,H1,I1,r,q⟩=>?_) (by rw[he];rfl) (by rw[he];rfl) rfl rfl));refine bK (hk pos pins s1 σ H1 _ I1 q) fun ws s2⟨zs,H2,I2,rz,l,f,fd,ps,sp,ts,rows,e1,e2',F,hb,rl,hl,h0,hsp,k'⟩=>?_;subst e1 e2';rw[Vals.nQ r,Vals.nQ rz];refine yG hc (by have:=hr.un;show X.A.units+1<_;omega) I2 (.inr ⟨f,rfl,fun i t r' ht hr' pins' s' σ' H3 I3 s3=>?_⟩) rl hl h0 k';have hs:=hsp i t r' ht hr' H3 s3;have hlen:([Value.ref t]:List Value).length=ps.length:=F.len _ _ _ _ hs;have hbb:=hb s' [Value.ref t] I3.mS (by simpa using hlen);rw[append_nil]at hbb;refine wpAny_call (codeAny_mono (F.run X.A.in1 X.stack s' H3 ⟨[.ref t],[]⟩ [.ref t] [.ref t] _ E0 hr.in1 I3.Au.in1 hbb (.cons rfl .nil) hs) fun res s'' hq=>?_);cases res with
 |error e=>exact hq.elim
 |ok fl=>
  cases fl with
  |ret u=>
   obtain⟨v,H4,I4,rv,w',ew,s4,hv⟩:=I3.after hq;subst ew;exact⟨w',H4,rv,I4,s4,hv⟩
  |next=>exact False.elim hq
  |brk=>exact False.elim hq
  |cont=>exact False.elim hq
def IB(t:TA):TE:=fun σ H Q=>t σ H fun vs H1=>∃(l:Addr)(ts:List Addr)(rows:List (List Int)),vs=[.ref l]/\rows.length=ts.length/\H1 l=some (.lst (ts.map V.ref)) /\
 (∀(i:Nat)(t:Addr)(r:List Int),ts[i]?=some t->rows[i]?=some r->H1 t=some (.lst (r.map V.int)))/\(ts=[]->Q .cu H1) /\
 ∀(i:Nat)(t:Addr)(r:List Int)(H':Hp),ts[i]?=some t->rows[i]?=some r->(∀(j:Nat)(q:List Int),rows[j]?=some q->HT.lexLt q r=false)->aj H1 H'->Q (.ref t) H'
theorem BS{t:TA}{j:Nat}{kp cp:Pos}(hc:X.calm=true)(hr:bR 1 X.A)(hg:Gl X "min")(hm:X.mg "min"=none)(ha:PA X [e] t)(he:starEach [e] X.env=[(false,eval e X.env)]:=by rfl):PE X (.Call (.Name "min" p) [e] [⟨some "default",.Constant .none j cp,kp⟩] pos) (IB t):=by
 intro pins s σ H Q I h;refine wpAny_Call_Name_kw (eB I hg hm vR (PyProof.Rows.callWith_kw (bK (ha pos pins s σ H _ I h) fun us s1⟨vs,H1,I1,r,l,ts,rows,e1,rl,hl,hrow,k0,k1⟩=>?_) (by rw[he];rfl) (by rw[he];rfl) rfl rfl));subst e1;rw[Vals.nQ r];refine PyProof.Rows.kws_cons (Constant_none (PyProof.Rows.kws_nil ?_));exact yH hc (by have:=hr.un;show X.A.units+1<_;omega) I1 (.inl ⟨rfl,hrow⟩) rl hl k0 k1
def K0(K:Frag)(ty td:TE):TE:=fun σ H Q=>ty σ H fun y H1=>td σ H1 fun x H2=>∃a i kvs,x=.ref a/\y=.int i/\kg K a kvs/\(a==sysModules)=false/\Q (.bl (valueAt kvs i).isSome) H2
theorem FP{o i:Expr}{ty td:TE}(hi:PE X i ty)(ho:PE X o td):PC X .In i o (K0 X.K ty td):=by
 intro pins s σ H Q I h;refine bK (hi pins s σ H _ I h) fun iv s1⟨y,H1,I1,ry,q1⟩=>bK (ho pins s1 σ H1 _ I1 q1) fun u s2⟨x,H2,I2,rx,a,j,kvs,ex,ey,M,hs,q2⟩=>?_;subst ex ey;obtain rfl:u=Value.ref a:=rx;obtain⟨t,rfl⟩:=ry;exact wpAny_in_of (knd:=intKind X.prog X.w) (k:=j) Kz hs (M.dictOf I2.mS).mapOf ⟨.bl _,H2,I2.tok _,rfl,q2⟩
end
def bx(Z:Addr->Bool)(H:Hp):Hp:=fun b=>if Z b=true then none else H b
def dj(Z:Addr->Bool)(H H2:Hp):Hp:=fun b=>if Z b=true then H b else H2 b
section
variable{Z:Addr->Bool}{H H2:Hp}{b:Addr}{o:HO}
theorem cF(h:Z b=true):bx Z H b=none:=by unfold bx;rw[if_pos h]
theorem a0(h:Z b=false):bx Z H b=H b:=by unfold bx;rw[if_neg (by rw[h];exact Ni)]
theorem fV(h:Z b=true):dj Z H H2 b=H b:=by unfold dj;rw[if_pos h]
theorem cE(h:Z b=false):dj Z H H2 b=H2 b:=by unfold dj;rw[if_neg (by rw[h];exact Ni)]
def rR:HO->Bool
 |.ins _ _ _=>true
 |.ny _ u=>rR u
 |_=>false
theorem CN{P:Program}{w:World}{H H':Hp}{h h':Heap}{a:Addr}{o:HO}(x:bB P w H h a o)(hi:rR o=false)(k:∀u,h.get? a=some u->h'.get? a=some u)(ht:∀b xs,H b=some (.tup xs)->H' b=some (.tup xs)):bB P w H' h' a o:=by
 induction o with
 |lst xs=>obtain⟨z,its,n,r,e⟩:=x;exact⟨z,its,n,r,k _ e⟩
 |tup xs=>obtain⟨z,its,r,ob,e,c⟩:=x;exact⟨z,its,r,ob,k _ e,c⟩
 |dK kvs=>obtain⟨z,y,vs,r,ob,es,ep,e,c⟩:=x;exact⟨z,y,vs,r,ob,es,ep,k _ e,c⟩
 |dT kvs=>obtain⟨z,y,xs,r,ob,es,ep,e,c⟩:=x;exact⟨z,y,xs,Paired.js r fun p q z=>⟨z.1,ht _ _ z.2.1,z.2.2⟩,ob,es,ep,k _ e,c⟩
 |set S n=>obtain⟨ob,es,ep,t,e,c⟩:=x;exact⟨ob,es,ep,t,k _ e,c⟩
 |ins C dx fs=>cases hi
 |own y=>obtain⟨ob,e⟩:=x;exact⟨ob,k _ e⟩
 |xd fs=>obtain⟨mA,⟨od,es,ep,e,c⟩,r⟩:=x;exact⟨mA,⟨od,es,ep,k _ e,c⟩,r⟩
 |qm lo hi2=>obtain⟨t,u,v,e⟩:=x;exact⟨t,u,v,k _ e⟩
 |ny ob u ih=>obtain⟨e,q⟩:=x;exact⟨k _ e,ih q hi⟩
 |eL ps=>exact(show h'.get? a=some { cls:=.none,data:=.fields ps } from k _ (show h.get? a=some { cls:=.none,data:=.fields ps } from x))
 |met f y=>exact(show h'.get? a=some (methodObj (.ref f) (.ref y))from k _ (show h.get? a=some (methodObj (.ref f) (.ref y))from x))
 |ext φ=>obtain⟨p,⟨o,e⟩,st⟩:=x;exact⟨st _ _ p fun o q=>k _ q,⟨o,k _ e⟩,st⟩
structure Kb(Z:Addr->Bool)(H:Hp):Prop where
 tup:∀b xs,H b=some (.tup xs)->Z b=false
 own:∀b x o,H x=some o->rR o=true->H b=some (.own x)->Z b=Z x
 eL:∀b ps,H b=some (.eL ps)->Z b=false
 at_:∀b,Z b=true->H b≠none
end
section
variable{X:Cx}{k:Nat}{f:Addr}{fd:FuncData}{ps:List Str}{sp:Sp}{x:Str}{p pos:Pos}{e:Expr}{es:List Expr}{t:TA}
theorem wZ{P:Program}{w:World}{Z:Addr->Bool}{H:Hp}{h:Heap}(z:Kb Z H)(ok:gq P w H h):gq P w (bx Z H) h:=fun b o e=>by
 cases hz:Z b with
 |true=>rw[cF hz]at e;cases e
 |false=>
  rw[a0 hz]at e
  cases hi:rR o with
  |false=>exact CN (ok b o e) hi (fun _ q=>q) fun c xs q=>by rw[a0 (z.tup c xs q)];exact q
  |true=>
   refine(ok b o e).stay (fun c v _ q=>q) (fun c q=>?_) fun c xs q=>?_
   ·rw[a0 (by rw[z.own c b o e hi q];exact hz)];exact q
   ·rw[a0 (z.tup c xs q)];exact q
theorem Bz{pins:LpT}{σ:St}{H:Hp}{s:Shared}{Q:VK}{us:List Value}{vs:List V}(Z:Addr->Bool)(F:aG X.prog X.w X.K X.mg X.base bA k f fd ps sp)(hr:bR k X.A)(hb:Binds X.K fd ps [])(I:Inv X pins σ H s)(r:Vals vs us)(z:Kb Z H)(h:sp vs (bx Z H) (fun v H2=>(∀b,Z b=true->H b≠none->H2 b=none)->Q v (dj Z H H2)) E0):wpAny (model X.prog X.w) X.A (call (.ref f) us) (EP X pins σ Q) X.xe s:=by
 have hl:us.length=ps.length:=by rw[<-r.length];exact F.len _ _ _ _ h
 have hbb:=hb s us I.mS (by simpa using hl);rw[append_nil]at hbb;have e:=I.Au;have e0:je X.prog X.w X.K X.mg X.base X.A X.stack s (bx Z H):=⟨e.frames,e.mod,fun b o q=>⟨(e.bs b o q).1,by cases hz:Z b with|true=>exact cF hz|false=>rw[a0 hz];exact(e.bs b o q).2⟩,e.xm,e.ir,fun b hb'=>by cases hz:Z b with|true=>exact cF hz|false=>rw[a0 hz];exact e.xw b hb',wZ z e.a8,e.bare⟩;refine wpAny_call (codeAny_mono (F.run X.A X.stack s (bx Z H) ⟨us,[]⟩ us vs _ E0 hr e0 hbb r h) fun res s' hq=>?_);cases res with
 |error e=>exact hq.elim
 |ok fl=>
  cases fl with
  |next=>exact False.elim hq
  |brk=>exact False.elim hq
  |cont=>exact False.elim hq
  |ret u=>
   obtain⟨v,H2,os,bare,un,ok2,rv,q⟩:=hq;have side:∀b,Z b=true->H b≠none->H2 b=none:=fun b hz hn=>by
    cases hb2:H b with
    |none=>exact absurd hb2 hn
    |some o=>
     obtain⟨u',hu'⟩:∃u',s.heap.get? b=some u':=by
      have:=(I.a8.lt hb2);cases o with
      |lst xs=>obtain⟨_,_,_,_,g⟩:=I.a8 b _ hb2;exact⟨_,g⟩
      |tup xs=>obtain⟨_,_,_,_,g,_⟩:=I.a8 b _ hb2;exact⟨_,g⟩
      |dK kvs=>obtain⟨_,_,_,_,o,_,_,g,_⟩:=I.a8 b _ hb2;exact⟨_,g⟩
      |dT kvs=>obtain⟨_,_,_,_,o,_,_,g,_⟩:=I.a8 b _ hb2;exact⟨_,g⟩
      |set S n=>obtain⟨o,_,_,_,g,_⟩:=I.a8 b _ hb2;exact⟨_,g⟩
      |ins C dx fs=>obtain⟨_,_,_,g,_⟩:=I.a8 b _ hb2;exact⟨_,g⟩
      |own y=>exact I.a8 b _ hb2
      |xd fs=>obtain⟨_,⟨_,_,_,g,_⟩,_⟩:=I.a8 b _ hb2;exact⟨_,g⟩
      |qm lo hi=>obtain⟨_,_,_,g⟩:=I.a8 b _ hb2;exact⟨_,g⟩
      |ny ob u=>obtain⟨g,_⟩:=I.a8 b _ hb2;exact⟨_,g⟩
      |eL ps=>exact⟨_,(show s.heap.get? b=some _ from I.a8 b _ hb2)⟩
      |met f y=>exact⟨_,(show s.heap.get? b=some _ from I.a8 b _ hb2)⟩
      |ext φ=>obtain⟨_,g,_⟩:=I.a8 b _ hb2;exact g
     exact un.free b u' hu' (cF hz) (by simp)
   have B6:∀b o,H b=some o->b∉r4 X.stack:=fun b o hb' hm=>by rw[e.xw b hm]at hb';cases hb'
   have ok3:gq X.prog X.w (dj Z H H2) s'.heap:=fun b o hb'=>by
    cases hz:Z b with
    |true=>
     rw[fV hz]at hb';have tt:∀c xs,H c=some (.tup xs)->dj Z H H2 c=some (.tup xs):=fun c xs g=>by
      rw[cE (z.tup c xs g)];exact un.kh c xs (by rw[a0 (z.tup c xs g)];exact g)
     cases hi:rR o with
     |false=>exact CN (I.a8 b o hb') hi (fun u' g=>un.keep b u' g (cF hz) (B6 b o hb') (by simp)) tt
     |true=>
      refine(I.a8 b o hb').stay (fun c u' hc g=>?_) (fun c g=>?_) tt
      ·have zc:Z c=true/\∃o',H c=some o':=by
        rcases hc with rfl|hc
        ·exact⟨hz,o,hb'⟩
        ·exact⟨by rw[z.own c b o hb' hi hc];exact hz,_,hc⟩
       obtain⟨zc,o',hc'⟩:=zc;exact un.keep c u' g (cF zc) (B6 c o' hc') (by simp)
      ·rw[fV (by rw[z.own c b o hb' hi g];exact hz)];exact g
    |false=>
     rw[cE hz]at hb';have zin:∀c u,H2 c=some u->Z c=false:=fun c u hc=>by
      cases zc:Z c with
      |false=>rfl
      |true=>rw[side c zc (z.at_ c zc)]at hc;cases hc
     refine(ok2 b o hb').stay (fun c v' _ g=>g) (fun c g=>?_) fun c xs g=>?_
     ·rw[cE (zin c _ g)];exact g
     ·rw[cE (zin c _ g)];exact g
   have mn:∀b,H b=none->Z b=false:=fun b hn=>by
    cases zb:Z b with
    |false=>rfl
    |true=>exact absurd hn (z.at_ b zb)
   have un3:Un (r4 X.stack) [] H (dj Z H H2) s.heap s'.heap:=by
    refine⟨fun b o g n h1 h2=>un.keep b o g (by rw[a0 (mn b n)];exact n) h1 h2,fun b o g n h1 h2=>un.slot b o g (by rw[a0 (mn b n)];exact n) h1 h2,fun b o g n h1=>?_,un.there,fun b xs g=>?_,fun b o u' g=>?_,fun b ps' g=>?_⟩
    ·rw[cE (mn b n)];exact un.free b o g (by rw[a0 (mn b n)];exact n) h1
    ·rw[cE (z.tup b xs g)];exact un.kh b xs (by rw[a0 (z.tup b xs g)];exact g)
    ·cases zb:Z b with
     |true=>rw[fV zb];exact g
     |false=>rw[cE zb];exact un.nX b o u' (by rw[a0 zb];exact g)
    ·rw[cE (z.eL b ps' g)];exact un.nE b ps' (by rw[a0 (z.eL b ps' g)];exact g)
   exact I.after ⟨v,dj Z H H2,os,bare,un3,ok3,rv,q side⟩
def Ei(sp:Sp)(t:TA):TE:=fun σ H Q=>t σ H fun vs H1=>∃Z,Kb Z H1/\sp vs (bx Z H1) (fun v H2=>(∀b,Z b=true->H1 b≠none->H2 b=none)->Q v (dj Z H1 H2)) E0
theorem qU(F:aG X.prog X.w X.K X.mg X.base bA k f fd ps sp)(hr:bR k X.A)(hg:Gl X x)(hm:X.mg x=some (.ref f))(hk:PySem.W.keepIn X.K (.ref f)=true)(hb:Binds X.K fd ps [])(ha:PA X (e::es) t)(hdb:(x==("__debug__":Str))=false:=by decide)(he:starEach (e::es) X.env=(false,eval e X.env)::starEach es X.env:=by rfl)(hpl:(backTo pos (starEach es X.env)).any (·.1)=false:=by rfl):
  PE X (.Call (.Name x p) (e::es) [] pos) (Ei sp t):=by
 intro pins s σ H Q I h;refine wpAny_Call_Name_kw (ju I hg hm ?_ hdb);refine callWith_K (h₀:=X.base) I.ok.mod.Cc hk (bK (ha pos pins s σ H _ I h) fun us s1⟨vs,H1,I1,r,Z,z,q⟩=>⟨I1.mS,?_⟩) he hpl;exact Bz Z F hr hb I1 r z q
end
end L2
section
open Vg01 Vg02
namespace Mg
theorem rS{x:DW}{l:L4}(h:x∈l):l.idxOf x<l.length:=List.idxOf_lt_length_iff.mpr h
theorem iI{x:DW}{l:L4}(h:x∈l):l[l.idxOf x]?=some x:=by
 rw[getElem?_eq_getElem (rS h)];simp
theorem dI{x:DW}{l:L4}{i:Nat}(nd:l.Nodup)(h:l[i]?=some x):l.idxOf x=i:=by
 obtain⟨hi,e⟩:=Nd h;have:=List.Nodup.idxOf_getElem nd i hi;rw[e]at this;exact this
abbrev Met:=List (DW×DW)
def nm(l:Met):L4:=l.map fun x=>x.1
def ev(mul:DW->DW->DW)(one:DW)(gens:L4)(w:DW):DW:=w.foldl (fun x k=>mul x (gens.getD k [])) one
structure dU(mul:DW->DW->DW)(one:DW)(gens:L4)(l:Met):Prop where
 first:l[0]?=some (one,[])
 nd:(nm l).Nodup
 word:∀p∈l,p.1=ev mul one gens p.2/\∀k∈p.2,k<gens.length
def jf(mul:DW->DW->DW)(gens:L4)(l:Met)(k:Nat):Prop:=∀j x,j<k->(nm l)[j]?=some x->∀g∈gens,mul x g∈nm l
theorem jS{l:Met}{x w:DW}:∃r,meets l x w=l++r:=by
 unfold meets;split
 ·exact⟨[],by simp⟩
 ·exact⟨_,rfl⟩
theorem lE{l:Met}{x:DW}:(l.any fun(y:DW×DW)=>y.1==x)=true↔x∈nm l:=by
 simp[nm,List.any_eq_true]
theorem wN{l:Met}{x w:DW}:x∈nm (meets l x w):=by
 unfold meets;split
 ·next h=>exact lE.mp h
 ·simp[nm]
theorem rJ{mul one gens}{l:Met}{x w:DW}(G:dU mul one gens l)(hw:x=ev mul one gens w)(hk:∀k∈w,k<gens.length):dU mul one gens (meets l x w):=by
 unfold meets;split
 ·exact G
 ·next h=>
  have hx:x∉nm l:=fun q=>h (lE.mpr q);refine⟨?_,?_,?_⟩
  ·have:=G.first;rw[getElem?_append_left (Nd this).1];exact this
  ·have nd:=G.nd;simp only[nm,map_append,map_cons,map_nil]at *;exact List.nodup_append.mpr ⟨nd,by simp,by intro a ha b hb;simp at hb;subst hb;intro e;subst e;exact hx ha⟩
  ·intro p hp;rcases Nj hp with q|q
   ·exact G.word p q
   ·simp at q;subst q;exact⟨hw,hk⟩
theorem gM{mul one}{gens:L4}{x:DW×DW}:∀(gs:List (DW×Nat))(l:Met),dU mul one gens l->x.1=ev mul one gens x.2->(∀k∈x.2,k<gens.length)->(∀g∈gs,gens[g.2]?=some g.1) ->
  let m:=gs.foldl (fun(m:Met)(g:DW×Nat)=>meets m (mul x.1 g.1) (x.2++[g.2])) l
  dU mul one gens m/\(∃r,m=l++r)/\∀g∈gs,mul x.1 g.1∈nm m
 |[],l,G,_,_,_=>⟨G,⟨[],by simp⟩,by simp⟩
 |g::gs,l,G,hx,hk,hg=>by
  have e1:gens[g.2]?=some g.1:=hg g mem_cons_self
  have G1:dU mul one gens (meets l (mul x.1 g.1) (x.2++[g.2])):=by
   refine rJ G ?_ ?_
   ·unfold ev at *;rw[foldl_append,<-hx];simp[List.getD,e1]
   ·intro k hk'
    rcases Nj hk' with q|q
    ·exact hk k q
    ·simp at q;subst q;exact(Nd e1).1
  obtain⟨A,⟨r,B⟩,C⟩:=gM gs _ G1 hx hk (fun g' h'=>hg g' (mem_cons_of_mem _ h'))
  obtain⟨r0,B0⟩:=jS (l:=l) (x:=mul x.1 g.1) (w:=x.2++[g.2])
  refine⟨A,⟨r0++r,by simp only[foldl_cons];rw[B,B0,append_assoc]⟩,?_⟩
  intro g' h'
  rcases Nf h' with q|q
  ·subst q
   simp only[foldl_cons];rw[B]
   have:=wN (l:=l) (x:=mul x.1 g'.1) (w:=x.2++[g'.2])
   simp only[nm,map_append,mem_append]at *;exact .inl this
  ·exact C g' q
theorem jV{mul one}{gens:L4}{most:Nat}:∀(f k:Nat)(l r:Met),dU mul one gens l->jf mul gens l k->l.length<=most->growFrom mul gens most f k l=some r ->
  dU mul one gens r/\jf mul gens r r.length/\r.length<=most
 |0,k,l,r,_,_,_,h=>by simp[growFrom]at h
 |f+1,k,l,r,G,C,hl,h=>by
  unfold growFrom at h
  split at h
  ·next e=>
   cases h
   have:l.length<=k:=List.getElem?_eq_none_iff.mp e
   exact⟨G,fun j x hj=>C j x (by omega),hl⟩
  ·next x e=>
   have hm:=mem_of_getElem? e
   have W:=G.word x hm
   have F:=gM (mul:=mul) (one:=one) (gens:=gens) (x:=x) gens.zipIdx l G W.1 W.2 (fun g hg=>by
    have:=List.mem_zipIdx hg;simp at this;rw[getElem?_eq_getElem (by omega)];simp[this.2])
   simp only at h F
   obtain⟨A,⟨rr,B⟩,D⟩:=F
   split at h
   ·cases h
   ·next hn=>
    refine jV f (k+1) _ r A ?_ (Nat.le_of_not_lt hn) h
    intro j y hj hy g hg
    rw[B]at hy ⊢
    have hk:k<l.length:=(Nd e).1
    have hy':(nm l)[j]?=some y:=by
     simp only[nm,map_append]at hy ⊢
     rwa [getElem?_append_left (by simp;omega)]at hy
    by_cases hjk:j=k
    ·subst hjk
     have:y=x.1:=by simp only[nm,getElem?_map,e]at hy';simpa using hy'.symm
     subst this
     obtain⟨i,hi⟩:=getElem?_of_mem hg
     have:=D (g,i) (by
      apply List.mem_iff_getElem?.mpr;exact⟨i,by rw[List.getElem?_zipIdx,hi];simp⟩)
     rw[B]at this;exact this
    ·have:=C j y (by omega) hy' g hg
     simp only[nm,map_append,mem_append]at *;exact .inl this
structure Op(mul:DW->DW->DW)(one:DW)(P:DW->Prop):Prop where
 oH:P one
 rq:∀a b,P a->P b->P (mul a b)
 assoc:∀a b c,P a->P b->P c->mul (mul a b) c=mul a (mul b c)
 a7:∀a,P a->mul one a=a
 bS:∀a,P a->mul a one=a
 Cz:∀a b c,P a->P b->P c->mul a c=mul b c->a=b
structure WF(G:Group):Prop where
 pos:0<G.size
 le:G.size<=60
 lt:∀i j,i<G.size->j<G.size->G.times i j<G.size
 assoc:∀i j k,i<G.size->j<G.size->k<G.size->G.times (G.times i j) k=G.times i (G.times j k)
 a7:∀i,i<G.size->G.times 0 i=i
 bS:∀i,i<G.size->G.times i 0=i
 inv:∀i,i<G.size->∃j,j<G.size/\G.times i j=0/\G.times j i=0
 dJ:∀g∈G.gens,g<G.size
 mw:G.words.length=G.size
 pK:G.names.length=G.size
 nd:G.names.Nodup
 w0:G.words[0]?=some []
 word:∀i w,G.words[i]?=some w->leads G G.gens w=i/\∀k∈w,k<G.gens.length
 M3:G.table.size=G.size
 M4:∀i,i<G.size->(G.table.getD i #[]).size=G.size
section
variable{mul:DW->DW->DW}{one:DW}{P:DW->Prop}{gens:L4}
theorem HK(O:Op mul one P)(hg:∀g∈gens,P g):∀(w:DW)(x:DW),P x->(∀k∈w,k<gens.length)->P (w.foldl (fun x k=>mul x (gens.getD k [])) x)
 |[],x,hx,_=>hx
 |k::w,x,hx,h=>by
  simp only[foldl_cons]
  refine HK O hg w _ (O.rq _ _ hx ?_) (fun j hj=>h j (mem_cons_of_mem _ hj))
  have hk:=h k mem_cons_self
  rw[getD_eq_getElem?_getD,getElem?_eq_getElem hk]
  exact hg _ (getElem_mem hk)
theorem oR{k:Nat}(hk:k<gens.length):gens.getD k []∈gens:=by
 rw[getD_eq_getElem?_getD,getElem?_eq_getElem hk];exact getElem_mem hk
theorem oV(O:Op mul one P)(hg:∀g∈gens,P g){l:Met}(C:jf mul gens l l.length)(hP:∀x∈nm l,P x):∀(w:DW)(a b:DW),a∈nm l->P b->(∀k∈w,k<gens.length) ->
  mul a b∈nm l->mul a (w.foldl (fun x k=>mul x (gens.getD k [])) b)∈nm l
 |[],a,b,_,_,_,h=>h
 |k::w,a,b,ha,hb,hk,h=>by
  simp only[foldl_cons]
  have hk0:=hk k mem_cons_self
  have hgk:gens.getD k []∈gens:=oR hk0
  refine oV O hg C hP w a _ ha (O.rq _ _ hb (hg _ hgk)) (fun j hj=>hk j (mem_cons_of_mem _ hj)) ?_
  rw[<-O.assoc _ _ _ (hP a ha) hb (hg _ hgk)]
  obtain⟨j,hj⟩:=getElem?_of_mem h
  have hjl:j<l.length:=by have:=(Nd hj).1;simpa[nm]using this
  exact C j _ hjl hj _ hgk
theorem ng(O:Op mul one P)(hg:∀g∈gens,P g){l:Met}(R:dU mul one gens l)(C:jf mul gens l l.length){a b:DW}(ha:a∈nm l)(hb:b∈nm l):mul a b∈nm l:=by
 have hP:∀x∈nm l,P x:=fun x hx=>by
  simp only[nm,mem_map]at hx;obtain⟨p,hp,rfl⟩:=hx;have W:=R.word p hp;rw[W.1];exact HK O hg _ _ O.oH W.2
 simp only[nm,mem_map]at hb;obtain⟨p,hp,rfl⟩:=hb;have W:=R.word p hp;rw[W.1];refine oV O hg C hP p.2 a one ha O.oH W.2 ?_;rw[O.bS _ (hP a ha)];exact ha
theorem iH(O:Op mul one P)(hg:∀g∈gens,P g){l:Met}(R:dU mul one gens l):∀x∈nm l,P x:=fun x hx=>by
  simp only[nm,mem_map]at hx
  obtain⟨p,hp,rfl⟩:=hx
  have W:=R.word p hp
  rw[W.1];exact HK O hg _ _ O.oH W.2
end
theorem sub_len{α:Type}[DecidableEq α]:∀{m l:List α},m.Nodup->(∀x∈m,x∈l)->m.length<=l.length
 |[],_,_,_=>zero_le _
 |a::m,l,nd,h=>by
  have ha:=h a mem_cons_self
  have nd':=List.nodup_cons.mp nd
  have:=sub_len (m:=m) (l:=l.erase a) nd'.2 (fun x hx=>(List.mem_erase_of_ne (fun(e:x=a)=>nd'.1 (e▸hx))).mpr (h x (mem_cons_of_mem _ hx)))
  rw[List.length_erase_of_mem ha]at this
  have:0<l.length:=length_pos_of_mem ha
  simp only[length_cons];omega
theorem jh{α:Type}[DecidableEq α]{m l:List α}(nd:m.Nodup)(h:∀x∈m,x∈l)(hl:l.length<=m.length):∀y∈l,y∈m:=by
 intro y hy;apply byContradiction;intro hn;have:=sub_len (m:=y::m) (l:=l) (List.nodup_cons.mpr ⟨hn,nd⟩) (fun x hx=>by
  rcases Nf hx with e|e
  ·subst e;exact hy
  ·exact h x e)
 simp only[length_cons]at this;omega
theorem bY{α β:Type}{l:List α}(nd:l.Nodup)(f:α->β)(inj:∀x∈l,∀y∈l,f x=f y->x=y):(l.map f).Nodup:=by
 refine List.pairwise_map.mpr ?_;refine List.Pairwise.imp_of_mem ?_ nd;intro a b ha hb hne e;exact hne (inj a ha b hb e)
theorem j7{α:Type}[DecidableEq α]{l:List α}(nd:l.Nodup)(f:α->α)(hf:∀x∈l,f x∈l)(inj:∀x∈l,∀y∈l,f x=f y->x=y):∀y∈l,∃x∈l,f x=y:=by
 intro y hy;have:=jh (bY nd f inj) (l:=l) (fun z hz=>by obtain⟨x,hx,rfl⟩:=Ng hz;exact hf x hx) (by simp) y hy;obtain⟨x,hx,e⟩:=Ng this;exact⟨x,hx,e⟩
section
variable{mul:DW->DW->DW}{one:DW}{P:DW->Prop}{gens:L4}
def cb(mul:DW->DW->DW)(gens:L4)(l:Met):Group:=
 ⟨(nm l).length,((nm l).map fun a=>((nm l).map fun b=>(nm l).idxOf (mul a b)).toArray).toArray,gens.map (nm l).idxOf,l.map fun x=>x.2,nm l⟩
theorem k8:made mul one gens=(growFrom mul gens MOST (MOST+2) 0 [(one,[])]).map (cb mul gens):=rfl
theorem iG{l:Met}{i j:Nat}{a b:DW}(ha:(nm l)[i]?=some a)(hb:(nm l)[j]?=some b):(cb mul gens l).times i j=(nm l).idxOf (mul a b):=by
 unfold Group.times cb;simp[Array.getD_eq_getD_getElem?,ha,hb]
theorem Ak(O:Op mul one P)(hg:∀g∈gens,P g){l:Met}(R:dU mul one gens l)(C:jf mul gens l l.length)(hl:l.length<=60):WF (cb mul gens l):=by
 have sz:(cb mul gens l).size=l.length:=by simp[cb,nm]
 have nl:(nm l).length=l.length:=by simp[nm]
 have hP:=iH O hg R;have get:∀i,i<l.length->∃a,(nm l)[i]?=some a/\a∈nm l:=fun i hi=>⟨_,getElem?_eq_getElem (by omega),getElem_mem _⟩;have cl:∀{a b},a∈nm l->b∈nm l->mul a b∈nm l:=fun ha hb=>ng O hg R C ha hb;have h0:(nm l)[0]?=some one:=by simp[nm,R.first]
 have m0:one∈nm l:=mem_of_getElem? h0;have i0:(nm l).idxOf one=0:=dI R.nd h0;have tm:∀i j a b,(nm l)[i]?=some a->(nm l)[j]?=some b->(nm l)[(cb mul gens l).times i j]?=some (mul a b):=fun i j a b ha hb=>by
  rw[iG ha hb];exact iI (cl (mem_of_getElem? ha) (mem_of_getElem? hb))
 have lt:∀i j,i<l.length->j<l.length->(cb mul gens l).times i j<l.length:=fun i j hi hj=>by
  obtain⟨a,ha,_⟩:=get i hi;obtain⟨b,hb,_⟩:=get j hj;have:=(Nd (tm i j a b ha hb)).1;omega
 have eqi:∀{i j a},(nm l)[i]?=some a->(nm l)[j]?=some a->i=j:=fun h1 h2=>by
  rw[<-dI R.nd h1,<-dI R.nd h2]
 have gl:∀g∈gens,g∈nm l:=fun g hgm=>by
  have:=C 0 one (by have:=(Nd R.first).1;omega) h0 g hgm;rwa [O.a7 g (hg g hgm)]at this
 have linv:∀a∈nm l,∃x∈nm l,mul x a=one:=fun a ha=>
  j7 R.nd (fun x=>mul x a) (fun x hx=>cl hx ha) (fun x hx y hy e=>O.Cz x y a (hP x hx) (hP y hy) (hP a ha) e) one m0
 refine⟨?_,?_,?_,?_,?_,?_,?_,?_,?_,?_,?_,?_,?_,?_,?_⟩
 ·rw[sz];exact Nat.lt_of_le_of_lt (zero_le _) (Nd R.first).1
 ·rw[sz];exact hl
 ·rw[sz];exact lt
 ·rw[sz];intro i j k hi hj hk;obtain⟨a,ha,ma⟩:=get i hi;obtain⟨b,hb,mb⟩:=get j hj;obtain⟨c,hc,mc⟩:=get k hk;have e1:=tm _ k _ c (tm i j a b ha hb) hc;have e2:=tm i _ a _ ha (tm j k b c hb hc);rw[O.assoc a b c (hP a ma) (hP b mb) (hP c mc)]at e1;exact eqi e1 e2
 ·rw[sz];intro i hi;obtain⟨a,ha,ma⟩:=get i hi;have e:=tm 0 i one a h0 ha;rw[O.a7 a (hP a ma)]at e;exact eqi e ha
 ·rw[sz];intro i hi;obtain⟨a,ha,ma⟩:=get i hi;have e:=tm i 0 a one ha h0;rw[O.bS a (hP a ma)]at e;exact eqi e ha
 ·rw[sz];intro i hi;obtain⟨a,ha,ma⟩:=get i hi;obtain⟨x,mx,ex⟩:=linv a ma;obtain⟨y,my,ey⟩:=linv x mx;have exy:y=a:=by
   have e1:mul (mul y x) a=mul y (mul x a):=O.assoc y x a (hP y my) (hP x mx) (hP a ma);rw[ey,ex,O.a7 a (hP a ma),O.bS y (hP y my)]at e1;exact e1.symm
  subst exy;obtain⟨j,hj⟩:=getElem?_of_mem mx;have hjl:j<l.length:=by have:=(Nd hj).1;omega
  refine⟨j,hjl,?_,?_⟩
  ·have e:=tm i j _ _ ha hj;rw[ey]at e;exact eqi e h0
  ·have e:=tm j i _ _ hj ha;rw[ex]at e;exact eqi e h0
 ·rw[sz];intro g hgm;simp only[cb,mem_map]at hgm;obtain⟨x,hx,rfl⟩:=hgm;have:=rS (gl x hx);omega
 ·rw[sz];simp[cb]
 ·rw[sz];simp[cb,nm]
 ·exact R.nd
 ·simp[cb,R.first]
 ·intro i w hw;have hw':∃p,l[i]?=some p/\p.2=w:=by
   simp only[cb,getElem?_map]at hw;cases e:l[i]? with
   |none=>rw[e]at hw;cases hw
   |some p=>rw[e]at hw;exact⟨p,rfl,by simpa using hw⟩
  obtain⟨p,hp,rfl⟩:=hw';have W:=R.word p (mem_of_getElem? hp);have hn:(nm l)[i]?=some p.1:=by simp[nm,hp]
  refine⟨?_,fun k hk=>by simpa[cb]using W.2 k hk⟩;have key:∀(w:DW)(z:DW)(iz:Nat),(nm l)[iz]?=some z->(∀k∈w,k<gens.length) ->
    (nm l)[w.foldl (fun(x k:Nat)=>(cb mul gens l).times x ((cb mul gens l).gens.getD k 0)) iz]?=some (w.foldl (fun x k=>mul x (gens.getD k [])) z):=by
   intro w
   induction w with
   |nil=>intro z iz h _;exact h
   |cons k w ih=>
    intro z iz h hk;simp only[foldl_cons];refine ih _ _ ?_ (fun j hj=>hk j (mem_cons_of_mem _ hj));have hk0:=hk k mem_cons_self;refine tm _ _ _ _ h ?_;have:(cb mul gens l).gens.getD k 0=(nm l).idxOf (gens.getD k []):=by
     simp[cb,getD_eq_getElem?_getD,getElem?_map,getElem?_eq_getElem hk0]
    rw[this];exact iI (gl _ (oR hk0))
  have e:=key p.2 one 0 h0 W.2;rw[show p.2.foldl (fun x k=>mul x (gens.getD k [])) one=p.1 from W.1.symm]at e;exact eqi e hn
 ·rw[sz];simp[cb,nm]
 ·rw[sz];intro i hi;simp[cb,nm,Array.getD_eq_getD_getElem?,getElem?_eq_getElem hi]
theorem e6:dU mul one gens [(one,[])]:=⟨rfl,by simp[nm],by intro p hp;simp at hp;subst hp;exact⟨rfl,by simp⟩⟩
theorem oK(O:Op mul one P)(hg:∀g∈gens,P g){G:Group}(h:made mul one gens=some G):WF G/\∃l,G=cb mul gens l/\dU mul one gens l/\jf mul gens l l.length/\l.length<=60:=by
 rw[k8]at h;cases e:growFrom mul gens MOST (MOST+2) 0 [(one,[])]with
 |none=>rw[e]at h;cases h
 |some l=>
  rw[e]at h;have:=jV (MOST+2) 0 _ l (e6 (mul:=mul) (one:=one) (gens:=gens)) (fun j x hj=>by omega) (show 1<=60 by decide) e;have hG:cb mul gens l=G:=by simpa using h
  subst hG;exact⟨Ak O hg this.1 this.2.1 this.2.2,l,rfl,this.1,this.2.1,this.2.2⟩
end
section
variable{G:Group}
theorem WF.inverse(W:WF G){i:Nat}(hi:i<G.size):G.inverse i<G.size/\G.times i (G.inverse i)=0:=by
 obtain⟨j,hj,e,_⟩:=W.inv i hi;unfold Group.inverse;cases q:G.all.find? fun(j:Nat)=>G.times i j==0 with
 |none=>
  have:=List.find?_eq_none.mp q j (by simp[Group.all,hj]);simp[e]at this
 |some x=>
  have h1:=List.find?_some q;have h2:=List.mem_of_find?_eq_some q;simp[Group.all]at h1 h2;exact⟨h2,h1⟩
theorem WF.AG(W:WF G){a b c:Nat}(ha:a<G.size)(hb:b<G.size)(hc:c<G.size)(e:G.times a c=G.times b c):a=b:=by
 obtain⟨d,hd,e1,_⟩:=W.inv c hc;have:G.times (G.times a c) d=G.times (G.times b c) d:=by rw[e]
 rw[W.assoc _ _ _ ha hc hd,W.assoc _ _ _ hb hc hd,e1,W.bS _ ha,W.bS _ hb]at this;exact this
theorem WF.ja(W:WF G){a b c:Nat}(ha:a<G.size)(hb:b<G.size)(hc:c<G.size)(e:G.times c a=G.times c b):a=b:=by
 obtain⟨d,hd,_,e1⟩:=W.inv c hc;have:G.times d (G.times c a)=G.times d (G.times c b):=by rw[e]
 rw[<-W.assoc _ _ _ hd hc ha,<-W.assoc _ _ _ hd hc hb,e1,W.a7 _ ha,W.a7 _ hb]at this;exact this
theorem WF.aV(W:WF G){i:Nat}(hi:i<G.size):G.inverse i<G.size:=(W.inverse hi).1
theorem WF.cy(W:WF G){i:Nat}(hi:i<G.size):G.times i (G.inverse i)=0:=(W.inverse hi).2
theorem WF.inv_mul(W:WF G){i:Nat}(hi:i<G.size):G.times (G.inverse i) i=0:=by
 obtain⟨j,hj,e1,e2⟩:=W.inv i hi;have:j=G.inverse i:=W.ja hj (W.aV hi) hi (e1.trans (W.cy hi).symm);rw[<-this];exact e2
theorem WF.gh(W:WF G){i j:Nat}(hi:i<G.size)(hj:j<G.size)(e:G.times i j=0):j=G.inverse i:=W.ja hj (W.aV hi) hi (e.trans (W.cy hi).symm)
theorem WF.inv_inv(W:WF G){i:Nat}(hi:i<G.size):G.inverse (G.inverse i)=i:=(W.gh (W.aV hi) hi (W.inv_mul hi)).symm
theorem WF.dY(W:WF G){i j:Nat}(hi:i<G.size)(hj:j<G.size):G.turned i j<G.size:=W.lt _ _ (W.lt _ _ hj hi) (W.aV hj)
theorem aL{i:Nat}:i∈G.all↔i<G.size:=by simp[Group.all]
theorem WF.c5(W:WF G){i:Nat}(hi:i<G.size):∀k,powerOf G i k<G.size
 |0=>W.pos
 |k+1=>W.lt _ _ (W.c5 hi k) hi
theorem WF.pow_add(W:WF G){i:Nat}(hi:i<G.size)(a:Nat):∀b,powerOf G i (a+b)=G.times (powerOf G i a) (powerOf G i b)
 |0=>by simp[powerOf,W.bS _ (W.c5 hi a)]
 |b+1=>by
  rw[<-Nat.add_assoc];simp only[powerOf]
  rw[W.pow_add hi a b,W.assoc _ _ _ (W.c5 hi a) (W.c5 hi b) hi]
theorem WF.wz(W:WF G){i:Nat}(hi:i<G.size):∃d,0<d/\d<=G.size/\powerOf G i d=0:=by
 apply byContradiction;intro hn;have nd:((range (G.size+1)).map (powerOf G i)).Nodup:=by
  have key:∀x,x<G.size+1->∀y,y<G.size+1->x<y->powerOf G i x=powerOf G i y->False:=by
   intro x hx y hy hxy e;apply hn;refine⟨y-x,by omega,by omega,?_⟩;have:powerOf G i (x+(y-x))=G.times (powerOf G i x) (powerOf G i (y-x)):=W.pow_add hi x (y-x);rw[show x+(y-x)=y by omega,<-e]at this;have h2:=W.bS _ (W.c5 hi x);exact(W.ja W.pos (W.c5 hi _) (W.c5 hi x) (h2.trans this)).symm
  refine bY nodup_range _ ?_;intro x hx y hy e;simp at hx hy;rcases lt_trichotomy x y with h|h|h
  ·exact(key x hx y hy h e).elim
  ·exact h
  ·exact(key y hy x hx h e.symm).elim
 have:=sub_len nd (l:=range G.size) (fun x hx=>by
  obtain⟨k,_,rfl⟩:=Ng hx;simp[W.c5 hi k])
 simp at this;omega
theorem WF.cS(W:WF G){i:Nat}(hi:i<G.size):0<G.order i/\G.order i<=G.size/\powerOf G i (G.order i)=0/\∀k,0<k->k<G.order i->powerOf G i k≠0:=by
 obtain⟨d,h0,h1,h2⟩:=W.wz hi;have key:∀f k,0<k->k+f=G.size+1->(∀j,0<j->j<k->powerOf G i j≠0) ->
   k<=orderFrom G i f k (powerOf G i k)/\orderFrom G i f k (powerOf G i k)<=G.size/\powerOf G i (orderFrom G i f k (powerOf G i k))=0/\∀j,0<j->j<orderFrom G i f k (powerOf G i k)->powerOf G i j≠0:=by
  intro f
  induction f with
  |zero=>
   intro k hk e hn;exact absurd h2 (hn d h0 (by omega))
  |succ f ih=>
   intro k hk e hn;unfold orderFrom;split
   ·next q=>exact⟨le_refl _,by omega,q,hn⟩
   ·next q=>
    have:=ih (k+1) (by omega) (by omega) (fun j hj hjk=>by
     by_cases hjk':j=k
     ·subst hjk';exact q
     ·exact hn j hj (by omega))
    exact⟨by have:=this.1;exact le_of_succ_le this,this.2⟩
 have e1:powerOf G i 1=i:=by simp[powerOf,W.a7 i hi]
 have:=key G.size 1 (by omega) (by omega) (fun j hj hj1=>by omega);rw[e1]at this;exact⟨this.1,this.2⟩
theorem WF.tV(W:WF G){i k:Nat}(hi:i<G.size)(hk:0<k)(e:powerOf G i k=0)(hn:∀j,0<j->j<k->powerOf G i j≠0):G.order i=k:=by
 have O:=W.cS hi;rcases lt_trichotomy (G.order i) k with h|h|h
 ·exact absurd O.2.2.1 (hn _ O.1 h)
 ·exact h
 ·exact absurd e (O.2.2.2 k hk h)
inductive Reach(G:Group)(g:DW):Nat->Prop
 |zero:Reach G g 0
 |step {x y:Nat}:Reach G g x->y∈g->Reach G g (G.times x y)
theorem Reach.lt(W:WF G){g:DW}(hg:∀y∈g,y<G.size){x:Nat}(h:Reach G g x):x<G.size:=by
 induction h with
 |zero=>exact W.pos
 |step _ hy ih=>exact W.lt _ _ ih (hg _ hy)
theorem Reach.mem(W:WF G){g:DW}(hg:∀y∈g,y<G.size){y:Nat}(h:y∈g):Reach G g y:=by
 have:=Reach.step (Reach.zero (G:=G) (g:=g)) h;rwa [W.a7 _ (hg y h)]at this
theorem Reach.mul(W:WF G){g:DW}(hg:∀y∈g,y<G.size){x y:Nat}(hx:Reach G g x)(hy:Reach G g y):Reach G g (G.times x y):=by
 induction hy with
 |zero=>rwa [W.bS _ (hx.lt W hg)]
 |step h1 h2 ih=>
  rw[<-W.assoc _ _ _ (hx.lt W hg) (h1.lt W hg) (hg _ h2)];exact .step ih h2
theorem Reach.sub(W:WF G){g s:DW}(hg:∀y∈g,y<G.size)(h:∀y∈s,Reach G g y){x:Nat}(hx:Reach G s x):Reach G g x:=by
 induction hx with
 |zero=>exact .zero
 |step _ h2 ih=>exact ih.mul W hg (h _ h2)
theorem Reach.mono{g s:DW}(h:∀y∈s,y∈g){x:Nat}(hx:Reach G s x):Reach G g x:=by
 induction hx with
 |zero=>exact .zero
 |step _ h2 ih=>exact .step ih (h _ h2)
theorem Reach.least{g:DW}{S:Nat->Prop}(h0:S 0)(hS:∀x y,S x->y∈g->S (G.times x y)){x:Nat}(h:Reach G g x):S x:=by
 induction h with
 |zero=>exact h0
 |step _ h2 ih=>exact hS _ _ ih h2
def br(G:Group)(g:DW)(x:Nat)(l:DW):DW:=g.foldl (fun(m:DW)(y:Nat)=>if m.contains (G.times x y)=true then m else m++[G.times x y]) l
structure uD(G:Group)(g l:DW):Prop where
 first:l[0]?=some 0
 nd:l.Nodup
 reach:∀x∈l,Reach G g x
theorem uD.add{g l:DW}(S:uD G g l){x y:Nat}(hx:Reach G g x)(hy:y∈g):uD G g (if l.contains (G.times x y)=true then l else l++[G.times x y]):=by
 split
 ·exact S
 ·next h=>
  have h':G.times x y∉l:=by simpa using h
  refine⟨?_,?_,?_⟩
  ·rw[getElem?_append_left (Nd S.first).1];exact S.first
  ·exact List.nodup_append.mpr ⟨S.nd,by simp,by intro a ha b hb;simp at hb;subst hb;intro e;subst e;exact h' ha⟩
  ·intro z hz;rcases Nj hz with q|q
   ·exact S.reach z q
   ·simp at q;subst q;exact .step hx hy
theorem fC{g:DW}{x:Nat}(hx:Reach G g x):∀(gs l:DW),(∀y∈gs,y∈g)->uD G g l->uD G g (br G gs x l)/\(∃r,br G gs x l=l++r)/\∀y∈gs,G.times x y∈br G gs x l
 |[],l,_,S=>⟨S,⟨[],by simp[br]⟩,by simp⟩
 |y::gs,l,h,S=>by
  have S1:=S.add hx (h y mem_cons_self)
  obtain⟨A,⟨r,B⟩,C⟩:=fC hx gs _ (fun z hz=>h z (mem_cons_of_mem _ hz)) S1
  have e:br G (y::gs) x l=br G gs x (if l.contains (G.times x y)=true then l else l++[G.times x y]):=rfl
  rw[e]
  have pre:∃r0,(if l.contains (G.times x y)=true then l else l++[G.times x y])=l++r0:=by
   split
   ·exact⟨[],by simp⟩
   ·exact⟨_,rfl⟩
  obtain⟨r0,e0⟩:=pre
  have has:G.times x y∈(if l.contains (G.times x y)=true then l else l++[G.times x y]):=by
   split
   ·next q=>simpa using q
   ·simp
  refine⟨A,⟨r0++r,by rw[B,e0,append_assoc]⟩,fun z hz=>?_⟩
  rcases Nf hz with q|q
  ·subst q;rw[B];exact List.mem_append.mpr (.inl has)
  ·exact C z q
theorem iP(W:WF G){g:DW}(hg:∀y∈g,y<G.size):∀(f k:Nat)(l:DW),uD G g l->(∀(j:Nat)x,j<k->l[j]?=some x->∀y∈g,G.times x y∈l)->k<=l.length->G.size<k+f ->
  uD G g (spanFrom G g f k l)/\∀x∈spanFrom G g f k l,∀y∈g,G.times x y∈spanFrom G g f k l
 |0,k,l,S,C,hk,hf=>by
  have:=sub_len S.nd (l:=range G.size) (fun x hx=>by simp[(S.reach x hx).lt W hg])
  simp at this;omega
 |f+1,k,l,S,C,hk,hf=>by
  unfold spanFrom
  split
  ·next e=>
   have:l.length<=k:=List.getElem?_eq_none_iff.mp e
   refine⟨S,fun x hx y hy=>?_⟩
   obtain⟨j,hj⟩:=getElem?_of_mem hx
   exact C j x (by have:=(Nd hj).1;omega) hj y hy
  ·next x e=>
   obtain⟨A,⟨r,B⟩,D⟩:=fC (S.reach x (mem_of_getElem? e)) g l (fun _ h=>h) S
   have hk':k<l.length:=(Nd e).1
   refine iP W hg f (k+1) (br G g x l) A ?_ (by rw[B];simp;omega) (by omega)
   intro j z hj hz y hy
   have hz':l[j]?=some z:=by
    rw[B,getElem?_append_left (by omega)]at hz;exact hz
   by_cases hjk:j=k
   ·subst hjk;rw[e]at hz';cases hz';exact D y hy
   ·rw[B];exact List.mem_append.mpr (.inl (C j z (by omega) hz' y hy))
theorem lN(G:Group)(g:DW):uD G g [0]:=⟨rfl,by simp,by intro x hx;simp at hx;subst hx;exact .zero⟩
theorem wq(W:WF G){g:DW}(hg:∀y∈g,y<G.size):uD G g (span G g)/\∀x,x∈span G g↔Reach G g x:=by
 have S:=iP W hg (G.size+1) 0 [0] (lN G g) (fun j x hj=>by omega) (by simp) (by omega);refine⟨S.1,fun x=>⟨S.1.reach x,fun h=>?_⟩⟩;exact h.least (S:=fun x=>x∈span G g) (mem_of_getElem? S.1.first) (fun x y hx hy=>S.2 x hx y hy)
theorem cx(W:WF G){s:DW}(hs:∀y∈s,y<G.size)(x:Nat):x∈least G s↔Reach G s x:=by
 have key:∀(t:DW)(p:DW×DW)(d:DW),(∀y∈t,y<G.size)->(∀y∈d,y<G.size)->(∀y∈p.1,y∈d)->(∀y∈d,Reach G p.1 y)->(∀x,x∈p.2↔Reach G p.1 x) ->
   ∀x,x∈(t.foldl (fun(x:DW×DW)(i:Nat)=>if x.2.contains i=true then x else(x.1++[i],span G (x.1++[i]))) p).2↔Reach G (d++t) x:=by
  intro t
  induction t with
  |nil=>
   intro p d _ hd h1 h2 h3 x;rw[List.foldl_nil,h3,append_nil];exact⟨fun h=>h.mono h1,fun h=>h.sub W (fun y hy=>hd y (h1 y hy)) h2⟩
  |cons i t ih=>
   intro p d ht hd h1 h2 h3 x;rw[foldl_cons];have hi:i<G.size:=ht i mem_cons_self;have hp:∀y∈p.1,y<G.size:=fun y hy=>hd y (h1 y hy);have ht':∀y∈t,y<G.size:=fun y hy=>ht y (mem_cons_of_mem _ hy);have hd':∀y∈d++[i],y<G.size:=fun y hy=>by
    rcases Nj hy with q|q
    ·exact hd y q
    ·simp at q;subst q;exact hi
   rw[show d++i::t=(d++[i])++t by simp];split
   ·next q=>
    have q':i∈p.2:=by simpa using q
    refine ih p (d++[i]) ht' hd' (fun y hy=>List.mem_append.mpr (.inl (h1 y hy))) (fun y hy=>?_) h3 x;rcases Nj hy with z|z
    ·exact h2 y z
    ·simp at z;subst z;exact(h3 y).mp q'
   ·next q=>
    have hpi:∀y∈p.1++[i],y<G.size:=fun y hy=>by
     rcases Nj hy with q|q
     ·exact hp y q
     ·simp at q;subst q;exact hi
    refine ih (p.1++[i],span G (p.1++[i])) (d++[i]) ht' hd' (fun y hy=>?_) (fun y hy=>?_) (fun y=>(wq W hpi).2 y) x
    ·rcases Nj hy with z|z
     ·exact List.mem_append.mpr (.inl (h1 y z))
     ·exact List.mem_append.mpr (.inr z)
    ·rcases Nj hy with z|z
     ·exact(h2 y z).mono (fun y hy=>List.mem_append.mpr (.inl hy))
     ·exact Reach.mem W hpi (List.mem_append.mpr (.inr z))
 have k:=key s ([],[0]) [] hs (by simp) (by simp) (by simp) (fun x=>⟨fun h=>by simp at h;subst h;exact .zero,fun h=>by
  cases h with
  |zero=>simp
  |step _ h2=>simp at h2⟩) x
 unfold least setOf;simp only[mem_filter,contains_iff_mem,nil_append]at k ⊢;rw[k,aL];exact⟨fun h=>h.2,fun h=>⟨h.lt W hs,h⟩⟩
end
theorem cB:∀{l m:DW},l.Pairwise (·<·)->m.Pairwise (·<·)->(∀x,x∈l↔x∈m)->l=m
 |[],[],_,_,_=>rfl
 |[],b::m,_,_,h=>absurd ((h b).mpr mem_cons_self) (by simp)
 |a::l,[],_,_,h=>absurd ((h a).mp mem_cons_self) (by simp)
 |a::l,b::m,hl,hm,h=>by
  have hl':=List.pairwise_cons.mp hl
  have hm':=List.pairwise_cons.mp hm
  have e:a=b:=by
   rcases Nf ((h a).mp mem_cons_self)with q|q
   ·exact q
   ·rcases Nf ((h b).mpr mem_cons_self)with z|z
    ·exact z.symm
    ·have:=hl'.1 b z;have:=hm'.1 a q;omega
  subst e
  rw[cB hl'.2 hm'.2 fun x=>?_]
  constructor
  ·intro hx
   rcases Nf ((h x).mp (mem_cons_of_mem _ hx))with q|q
   ·subst q;have:=hl'.1 _ hx;omega
   ·exact q
  ·intro hx
   rcases Nf ((h x).mpr (mem_cons_of_mem _ hx))with q|q
   ·subst q;have:=hm'.1 _ hx;omega
   ·exact q
theorem lT:∀{l:DW},rising l=true↔l.Pairwise (·<·)
 |[]=>by simp[rising]
 |[a]=>by simp[rising]
 |a::b::r=>by
  unfold rising
  rw[and_eq_true,lT (l:=b::r),List.pairwise_cons (a:=a)]
  simp only[decide_eq_true_eq]
  constructor
  ·rintro⟨h1,h2⟩
   refine⟨fun x hx=>?_,h2⟩
   rcases Nf hx with q|q
   ·subst q;exact h1
   ·have:=(List.pairwise_cons.mp h2).1 x q;omega
  ·rintro⟨h1,h2⟩
   exact⟨h1 b mem_cons_self,h2⟩
section
variable{G:Group}
theorem aB{s:DW}:isSet G s=true↔s.Pairwise (·<·)/\∀i∈s,i<G.size:=by
 unfold isSet;rw[and_eq_true,lT];simp
theorem dA(f:Nat->Bool):(setOf G f).Pairwise (·<·):=by
 unfold setOf Group.all;exact List.Pairwise.filter _ (List.pairwise_lt_range)
theorem cW{f:Nat->Bool}{x:Nat}:x∈setOf G f↔x<G.size/\f x=true:=by
 unfold setOf;rw[mem_filter,aL]
theorem bp(s:DW):(least G s).Pairwise (·<·):=dA _
theorem rO(W:WF G){s:DW}(hs:∀y∈s,y<G.size):∀x∈least G s,x<G.size:=fun x hx=>((cx W hs x).mp hx).lt W hs
theorem iE(W:WF G){s:DW}(hs:∀y∈s,y<G.size):isSet G (least G s)=true:=aB.mpr ⟨bp s,rO W hs⟩
theorem ig(W:WF G){s t:DW}(hs:∀y∈s,y<G.size)(h:∀x,x∈s↔x∈t):least G s=least G t:=by
 have ht:∀y∈t,y<G.size:=fun y hy=>hs y ((h y).mpr hy);refine cB (bp s) (bp t) fun x=>?_;rw[cx W hs,cx W ht];exact⟨fun q=>q.mono fun y hy=>(h y).mp hy,fun q=>q.mono fun y hy=>(h y).mpr hy⟩
structure Sub(G:Group)(S:DW):Prop where
 lt:∀x∈S,x<G.size
 one:0∈S
 mul:∀x∈S,∀y∈S,G.times x y∈S
theorem bZ(W:WF G){s:DW}(hs:∀y∈s,y<G.size):Sub G (least G s):=by
 refine⟨rO W hs,(cx W hs 0).mpr .zero,fun x hx y hy=>?_⟩;exact(cx W hs _).mpr (((cx W hs x).mp hx).mul W hs ((cx W hs y).mp hy))
theorem cG(W:WF G){s:DW}(hs:∀y∈s,y<G.size):∀x∈s,x∈least G s:=fun x hx=>(cx W hs x).mpr (Reach.mem W hs hx)
theorem iF(W:WF G){s S:DW}(hs:∀y∈s,y<G.size)(h:Sub G S)(hsub:∀x∈s,x∈S):∀x∈least G s,x∈S:=fun x hx=>
 ((cx W hs x).mp hx).least (S:=fun x=>x∈S) h.one fun x y hx hy=>h.mul x hx y (hsub y hy)
theorem Sub.pow(_W:WF G){S:DW}(h:Sub G S){x:Nat}(hx:x∈S):∀k,powerOf G x k∈S
 |0=>h.one
 |k+1=>h.mul _ (Sub.pow _W h hx k) _ hx
theorem WF.Ce(W:WF G){x:Nat}(hx:x<G.size):G.inverse x=powerOf G x (G.order x-1):=by
 have O:=W.cS hx;refine(W.gh hx (W.c5 hx _) ?_).symm;have h1:powerOf G x (1+(G.order x-1))=G.times (powerOf G x 1) (powerOf G x (G.order x-1)):=W.pow_add hx 1 _;rw[show 1+(G.order x-1)=G.order x by omega,O.2.2.1]at h1;rw[show powerOf G x 1=x by simp[powerOf,W.a7 x hx]]at h1;exact h1.symm
theorem Sub.inv(W:WF G){S:DW}(h:Sub G S){x:Nat}(hx:x∈S):G.inverse x∈S:=by
 rw[W.Ce (h.lt x hx)];exact h.pow W hx _
theorem iq(W:WF G){s:DW}(hs:∀y∈s,y<G.size):isGroup G s=true↔Sub G s:=by
 unfold isGroup;simp only[and_eq_true,all_eq_true,contains_iff_mem,not_eq_true',List.isEmpty_eq_false_iff];constructor
 ·rintro⟨h1,h2⟩;obtain⟨x,hx⟩:=List.exists_mem_of_ne_nil _ h1;have hp:∀k,powerOf G x (k+1)∈s:=by
   intro k
   induction k with
   |zero=>simp[powerOf,W.a7 x (hs x hx),hx]
   |succ k ih=>exact h2 _ ih _ hx
  have O:=W.cS (hs x hx);refine⟨hs,?_,h2⟩;have:=hp (G.order x-1);rwa [show G.order x-1+1=G.order x by omega,O.2.2.1]at this
 ·intro h;exact⟨List.ne_nil_of_mem h.one,h.mul⟩
theorem pR(W:WF G){s:DW}(hs:isSet G s=true)(h:Sub G s):least G s=s:=by
 have q:=aB.mp hs;refine cB (bp s) q.1 fun x=>⟨fun hx=>iF W q.2 h (fun _ z=>z) x hx,fun hx=>cG W q.2 x hx⟩
theorem pT(W:WF G){s:DW}(hs:isSet G s=true):least G s=s↔isGroup G s=true:=by
 have q:=aB.mp hs;rw[iq W q.2];exact⟨fun e=>e▸bZ W q.2,pR W hs⟩
theorem WF.inv_mul_rev(W:WF G){a b:Nat}(ha:a<G.size)(hb:b<G.size):G.inverse (G.times a b)=G.times (G.inverse b) (G.inverse a):=by
 refine(W.gh (W.lt _ _ ha hb) (W.lt _ _ (W.aV hb) (W.aV ha)) ?_).symm;rw[W.assoc _ _ _ ha hb (W.lt _ _ (W.aV hb) (W.aV ha)),<-W.assoc _ _ _ hb (W.aV hb) (W.aV ha),W.cy hb,W.a7 _ (W.aV ha),W.cy ha]
theorem WF.inv_zero(W:WF G):G.inverse 0=0:=(W.gh W.pos W.pos (W.a7 0 W.pos)).symm
theorem WF.di(W:WF G){i:Nat}(hi:i<G.size):G.turned i 0=i:=by
 unfold Group.turned;rw[W.inv_zero,W.a7 i hi,W.bS i hi]
theorem WF.gX(W:WF G){j:Nat}(hj:j<G.size):G.turned 0 j=0:=by
 unfold Group.turned;rw[W.bS j hj,W.cy hj]
theorem WF.dZ(W:WF G){i j k:Nat}(hi:i<G.size)(hj:j<G.size)(hk:k<G.size):G.turned (G.turned i j) k=G.turned i (G.times k j):=by
 unfold Group.turned;rw[W.inv_mul_rev hk hj];have ij:=W.aV hj;have ik:=W.aV hk;rw[W.assoc (G.times k j) i _ (W.lt _ _ hk hj) hi (W.lt _ _ ij ik),W.assoc k j _ hk hj (W.lt _ _ hi (W.lt _ _ ij ik)),
  W.assoc k _ _ hk (W.lt _ _ (W.lt _ _ hj hi) ij) ik,W.assoc (G.times j i) _ _ (W.lt _ _ hj hi) ij ik,W.assoc j i _ hj hi (W.lt _ _ ij ik)]
theorem WF.dX(W:WF G){x y j:Nat}(hx:x<G.size)(hy:y<G.size)(hj:j<G.size):G.turned (G.times x y) j=G.times (G.turned x j) (G.turned y j):=by
 unfold Group.turned;have ij:=W.aV hj;have jx:=W.lt _ _ hj hx;rw[W.assoc (G.times j x) _ _ jx ij (W.lt _ _ (W.lt _ _ hj hy) ij),<-W.assoc (G.inverse j) _ _ ij (W.lt _ _ hj hy) ij,<-W.assoc (G.inverse j) j y ij hj hy,W.inv_mul hj,W.a7 y hy,
  <-W.assoc _ y _ jx hy ij,W.assoc j x y hj hx hy]
theorem WF.iU(W:WF G){x y j:Nat}(hx:x<G.size)(hy:y<G.size)(hj:j<G.size)(e:G.turned x j=G.turned y j):x=y:=by
 have this:G.turned (G.turned x j) (G.inverse j)=G.turned (G.turned y j) (G.inverse j):=by rw[e]
 rw[W.dZ hx hj (W.aV hj),W.dZ hy hj (W.aV hj),W.inv_mul hj,W.di hx,W.di hy]at this;exact this
theorem jv(W:WF G){s:DW}(hs:∀y∈s,y<G.size):isNormal G s=true↔Sub G s/\∀j,j<G.size->∀i∈s,G.turned i j∈s:=by
 unfold isNormal;rw[and_eq_true,iq W hs];simp only[all_eq_true,contains_iff_mem,aL]
def turns(G:Group)(s:DW):DW:=s.flatMap fun(i:Nat)=>G.all.map (G.turned i)
theorem dy{s:DW}{x:Nat}:x∈turns G s↔∃i∈s,∃j,j<G.size/\G.turned i j=x:=by
 simp[turns,List.mem_flatMap,mem_map,aL]
theorem fP(W:WF G){s:DW}(hs:∀y∈s,y<G.size):∀y∈turns G s,y<G.size:=fun y hy=>by
 obtain⟨i,hi,j,hj,rfl⟩:=dy.mp hy
 exact W.dY (hs i hi) hj
theorem eV(G:Group)(s:DW):leastNormal G s=least G (turns G s):=rfl
theorem eU(W:WF G){s:DW}(hs:∀y∈s,y<G.size):∀j,j<G.size->∀i∈leastNormal G s,G.turned i j∈leastNormal G s:=by
 have ht:=fP W hs;intro j hj i hi;have hr:Reach G (turns G s) i:=(cx W ht i).mp hi;have:∀x,Reach G (turns G s) x->G.turned x j∈least G (turns G s):=by
  intro x hx
  induction hx with
  |zero=>rw[W.gX hj];exact(bZ W ht).one
  |step h1 h2 ih=>
   obtain⟨a,ha,k,hk,rfl⟩:=dy.mp h2;rw[W.dX (h1.lt W ht) (W.dY (hs a ha) hk) hj];refine(bZ W ht).mul _ ih _ ?_;rw[W.dZ (hs a ha) hk hj];exact cG W ht _ (dy.mpr ⟨a,ha,_,W.lt _ _ hj hk,rfl⟩)
 exact this i hr
theorem kj(W:WF G){s:DW}(hs:∀y∈s,y<G.size):∀x∈s,x∈leastNormal G s:=fun x hx=>
 cG W (fP W hs) x (dy.mpr ⟨x,hx,0,W.pos,W.di (hs x hx)⟩)
theorem ki(W:WF G){s S:DW}(hs:∀y∈s,y<G.size)(h:Sub G S)(hn:∀j,j<G.size->∀i∈S,G.turned i j∈S)(hsub:∀x∈s,x∈S):∀x∈leastNormal G s,x∈S:=
 iF W (fP W hs) h fun x hx=>by
  obtain⟨i,hi,j,hj,rfl⟩:=dy.mp hx
  exact hn j hj i (hsub i hi)
theorem i4(W:WF G){s:DW}(hs:isSet G s=true):leastNormal G s=s↔isNormal G s=true:=by
 have q:=aB.mp hs;rw[jv W q.2];constructor
 ·intro e;refine⟨?_,?_⟩
  ·have:=bZ W (fP W q.2);rw[<-eV,e]at this;exact this
  ·have:=eU W q.2;rw[e]at this;exact this
 ·rintro⟨h1,h2⟩;exact cB (bp _) q.1 fun x=>⟨ki W q.2 h1 h2 (fun _ z=>z) x,kj W q.2 x⟩
end
structure iL(n:Nat)(a:DW):Prop where
 len:a.length=n
 has:∀i,i<n->i∈a
theorem fG{n:Nat}{a:DW}:isShuffle n a=true↔iL n a:=by
 unfold isShuffle;simp only[and_eq_true,beq_iff_eq,all_eq_true,mem_range,contains_iff_mem];exact⟨fun h=>⟨h.1,h.2⟩,fun h=>⟨h.len,h.has⟩⟩
theorem iL.lt{n:Nat}{a:DW}(h:iL n a):∀x∈a,x<n:=fun x hx=>by
 have:=jh (m:=range n) (l:=a) nodup_range (fun x hx=>h.has x (by simpa using hx)) (by simp[h.len]) x hx
 simpa using this
theorem iL.nd{n:Nat}{a:DW}(h:iL n a):a.Nodup:=by
 apply byContradiction;intro hn;have:∃x,x∈a/\2<=a.count x:=by
  apply byContradiction;intro q;apply hn;exact List.nodup_iff_count.mpr fun x=>by
   by_cases hx:x∈a
   ·apply byContradiction;intro z;exact q ⟨x,hx,by omega⟩
   ·rw[List.count_eq_zero.mpr hx];omega
 obtain⟨x,hx,h2⟩:=this;have:=sub_len (m:=range n) (l:=a.erase x) nodup_range (fun y hy=>by
  have hy':=h.has y (by simpa using hy);by_cases e:y=x
  ·subst e;have:0<(a.erase y).count y:=by rw[List.count_erase_self];omega
   exact List.count_pos_iff.mp this
  ·exact(List.mem_erase_of_ne e).mpr hy')
 rw[List.length_erase_of_mem hx,h.len,length_range]at this;have h3:=length_pos_of_mem hx;rw[h.len]at h3;omega
theorem iL.range(n:Nat):iL n (range n):=⟨by simp,fun i hi=>by simpa using hi⟩
theorem iL.followed{n:Nat}{a b:DW}(ha:iL n a)(hb:iL n b):iL n (followed a b):=by
 refine⟨by simp[Vg01.followed,ha.len],fun i hi=>?_⟩;obtain⟨j,hj⟩:=getElem?_of_mem (hb.has i hi);have hjn:j<n:=by have:=(Nd hj).1;rw[hb.len]at this;exact this
 refine List.mem_map.mpr ⟨j,ha.has j hjn,?_⟩;rw[getD_eq_getElem?_getD,hj];rfl
theorem BW(n:Nat):Op followed (range n) (iL n) where
 oH:=iL.range n
 rq:=fun _ _ ha hb=>ha.followed hb
 assoc:=fun a b c ha hb _=>by
  unfold followed
  rw[map_map]
  refine map_congr_left fun x hx=>?_
  have hx':x<b.length:=by rw[hb.len];exact ha.lt x hx
  simp[getD_eq_getElem?_getD,getElem?_eq_getElem hx']
 a7:=fun a ha=>by
  unfold followed
  apply List.ext_getElem?
  intro i
  rw[getElem?_map]
  by_cases h:i<n
  ·have h':i<a.length:=by rw[ha.len];exact h
   rw[getElem?_range h]
   simp[getElem?_eq_getElem h']
  ·rw[getElem?_eq_none (by simpa using h),getElem?_eq_none (by rw[ha.len];omega)];rfl
 bS:=fun a ha=>by
  unfold followed
  conv=>rhs;rw[<-map_id a]
  refine map_congr_left fun x hx=>?_
  simp[getD_eq_getElem?_getD,getElem?_range (ha.lt x hx)]
 Cz:=fun a b c ha hb hc e=>by
  apply List.ext_getElem?
  intro i
  have ei:=congrArg (fun l=>l[i]?) e
  simp only[followed,getElem?_map]at ei
  by_cases h:i<n
  ·have h1:i<a.length:=by rw[ha.len];exact h
   have h2:i<b.length:=by rw[hb.len];exact h
   rw[getElem?_eq_getElem h1,getElem?_eq_getElem h2]at ei ⊢
   simp only[Option.map_some,Option.some.injEq]at ei
   have l1:a[i]<c.length:=by rw[hc.len];exact ha.lt _ (getElem_mem h1)
   have l2:b[i]<c.length:=by rw[hc.len];exact hb.lt _ (getElem_mem h2)
   rw[getD_eq_getElem?_getD,getD_eq_getElem?_getD,getElem?_eq_getElem l1,getElem?_eq_getElem l2]at ei
   simp only[Option.getD_some]at ei
   rw[(List.getElem_inj hc.nd).mp ei]
  ·rw[getElem?_eq_none (by rw[ha.len];omega),getElem?_eq_none (by rw[hb.len];omega)]
theorem su{n:Nat}:∀(f:Nat)(l:DW)(r:L4),cut n f l=some r->r.flatten=l/\∀x∈r,x.length=n
 |f,[],r,h=>by simp[cut]at h;subst h;simp
 |0,_::_,r,h=>by simp[cut]at h
 |f+1,a::l,r,h=>by
  unfold cut at h
  split at h
  ·cases h
  ·next hn=>
   cases e:cut n f ((a::l).drop n)with
   |none=>rw[e]at h;cases h
   |some r'=>
    rw[e]at h
    have hr:(a::l).take n::r'=r:=by simpa using h
    subst hr
    obtain⟨h1,h2⟩:=su f _ r' e
    refine⟨by rw[flatten_cons,h1,take_append_drop],fun x hx=>?_⟩
    rcases Nf hx with q|q
    ·subst q;rw[length_take];simp at hn ⊢;omega
    ·exact h2 x q
theorem nJ{n:Nat}{l:DW}{r:List Shuffle}(h:shuffles n l=some r):r.length<=4/\∀x∈r,iL n x:=by
 unfold shuffles at h;split at h
 ·cases h
 ·next r' e=>
  split at h
  ·next hc=>
   cases h;exact⟨hc.1,fun x hx=>fG.mp (List.all_eq_true.mp hc.2 x hx)⟩
  ·cases h
section
variable{G:Group}{s:DW}
structure Norm(G:Group)(s:DW):Prop where
 sub:Sub G s
 Kn:∀j,j<G.size->∀i∈s,G.turned i j∈s
def rep(G:Group)(s:DW)(i:Nat):Nat:=(s.map (G.times i)).foldl min i
theorem gL:∀(l:DW)(a:Nat),l.foldl min a<=a/\(∀x∈l,l.foldl min a<=x)/\(l.foldl min a=a\/l.foldl min a∈l)
 |[],a=>by simp
 |x::l,a=>by
  have h:=gL l (min a x)
  simp only[foldl_cons]
  refine⟨by omega,?_,?_⟩
  ·intro y hy
   rcases Nf hy with q|q
   ·subst q;omega
   ·exact h.2.1 y q
  ·rcases h.2.2 with q|q
   ·rw[q]
    by_cases hx:a<=x
    ·left;omega
    ·right;rw[show min a x=x by omega];exact mem_cons_self
   ·right;exact mem_cons_of_mem _ q
def Co(G:Group)(s:DW)(i j:Nat):Prop:=∃x∈s,j=G.times i x
theorem Co.refl(W:WF G)(S:Sub G s){i:Nat}(hi:i<G.size):Co G s i i:=⟨0,S.one,(W.bS i hi).symm⟩
theorem Co.symm(W:WF G)(S:Sub G s){i j:Nat}(hi:i<G.size)(h:Co G s i j):Co G s j i:=by
 obtain⟨x,hx,rfl⟩:=h;have lx:=S.lt x hx;refine⟨G.inverse x,S.inv W hx,?_⟩;rw[W.assoc _ _ _ hi lx (W.aV lx),W.cy lx,W.bS i hi]
theorem Co.trans(W:WF G)(S:Sub G s){i j k:Nat}(hi:i<G.size)(h:Co G s i j)(h':Co G s j k):Co G s i k:=by
 obtain⟨x,hx,rfl⟩:=h;obtain⟨y,hy,rfl⟩:=h';exact⟨G.times x y,S.mul x hx y hy,W.assoc _ _ _ hi (S.lt x hx) (S.lt y hy)⟩
theorem cD(W:WF G)(S:Sub G s){i:Nat}(hi:i<G.size):Co G s i (rep G s i)/\∀j,Co G s i j->rep G s i<=j:=by
 have h:=gL (s.map (G.times i)) i;refine⟨?_,?_⟩
 ·rcases h.2.2 with q|q
  ·unfold rep;rw[q];exact Co.refl W S hi
  ·obtain⟨x,hx,e⟩:=Ng q;exact⟨x,hx,e.symm⟩
 ·rintro j ⟨x,hx,rfl⟩;exact h.2.1 _ (List.mem_map.mpr ⟨x,hx,rfl⟩)
theorem Co.lt(W:WF G)(S:Sub G s){i j:Nat}(hi:i<G.size)(h:Co G s i j):j<G.size:=by
 obtain⟨x,hx,rfl⟩:=h;exact W.lt _ _ hi (S.lt x hx)
theorem dB(W:WF G)(S:Sub G s){i:Nat}(hi:i<G.size):rep G s i<G.size:=(cD W S hi).1.lt W S hi
theorem aY(W:WF G)(S:Sub G s){i j:Nat}(hi:i<G.size)(hj:j<G.size):rep G s i=rep G s j↔Co G s i j:=by
 have A:=cD W S hi;have B:=cD W S hj;constructor
 ·intro e;have:=A.1;rw[e]at this;exact this.trans W S hi (B.1.symm W S hj)
 ·intro h;refine Nat.le_antisymm (A.2 _ (h.trans W S hi B.1)) (B.2 _ ((h.symm W S hi).trans W S hj A.1))
theorem gO(G:Group)(s:DW){i:Nat}(hi:i<G.size):(cosets G s).getD i 0=rep G s i:=by
 unfold cosets rep Group.all;rw[getD_eq_getElem?_getD,getElem?_map,getElem?_range hi];rfl
theorem Norm.zG(W:WF G)(N:Norm G s){a b c d:Nat}(ha:a<G.size)(hb:b<G.size)(h1:Co G s a c)(h2:Co G s b d):Co G s (G.times a b) (G.times c d):=by
 obtain⟨x,hx,rfl⟩:=h1;obtain⟨y,hy,rfl⟩:=h2;have lx:=N.sub.lt x hx;have ly:=N.sub.lt y hy;have ib:=W.aV hb;have hz:G.turned x (G.inverse b)∈s:=N.Kn _ ib x hx;refine⟨G.times (G.turned x (G.inverse b)) y,N.sub.mul _ hz _ hy,?_⟩;have ez:G.turned x (G.inverse b)=G.times (G.times (G.inverse b) x) b:=by unfold Group.turned;rw[W.inv_inv hb]
 rw[ez];have l1:=W.lt _ _ ib lx;have l2:=W.lt _ _ l1 hb;have l3:=W.lt _ _ lx hb;rw[W.assoc a x _ ha lx (W.lt _ _ hb ly),W.assoc a b _ ha hb (W.lt _ _ l2 ly),<-W.assoc x b y lx hb ly,<-W.assoc b _ y hb l2 ly,W.assoc (G.inverse b) x b ib lx hb,<-W.assoc b (G.inverse b) _ hb ib l3,W.cy hb,W.a7 _ l3]
theorem Norm.Cy(W:WF G)(N:Norm G s){a b c:Nat}(ha:a<G.size)(hb:b<G.size)(hc:c<G.size)(h:Co G s (G.times a c) (G.times b c)):Co G s a b:=by
 have S:=N.sub;have:=N.zG W (W.lt _ _ ha hc) (W.aV hc) h (Co.refl W S (W.aV hc));rw[W.assoc _ _ _ ha hc (W.aV hc),W.assoc _ _ _ hb hc (W.aV hc),W.cy hc,W.bS _ ha,W.bS _ hb]at this;exact this
def m9(G:Group)(s:DW)(a b:DW):DW:=[(cosets G s).getD (G.times (a.headD 0) (b.headD 0)) 0]
theorem cH(W:WF G)(N:Norm G s){i j:Nat}(hi:i<G.size)(hj:j<G.size):m9 G s [rep G s i] [rep G s j]=[rep G s (G.times i j)]:=by
 have S:=N.sub;unfold m9;simp only[List.headD_cons];have l1:=dB W S hi;have l2:=dB W S hj;rw[gO G s (W.lt _ _ l1 l2)];refine congrArg (fun z=>[z]) ((aY W S (W.lt _ _ l1 l2) (W.lt _ _ hi hj)).mpr ?_);exact(N.zG W hi hj (cD W S hi).1 (cD W S hj).1).symm W S (W.lt _ _ hi hj)
theorem vg(W:WF G)(N:Norm G s):Op (m9 G s) [rep G s 0] (fun a=>∃i,i<G.size/\a=[rep G s i]) where
 oH:=⟨0,W.pos,rfl⟩
 rq:=by
  rintro _ _ ⟨i,hi,rfl⟩ ⟨j,hj,rfl⟩;exact⟨_,W.lt _ _ hi hj,cH W N hi hj⟩
 assoc:=by
  rintro _ _ _ ⟨i,hi,rfl⟩ ⟨j,hj,rfl⟩ ⟨k,hk,rfl⟩;rw[cH W N hi hj,cH W N (W.lt _ _ hi hj) hk,cH W N hj hk,cH W N hi (W.lt _ _ hj hk),W.assoc _ _ _ hi hj hk]
 a7:=by
  rintro _ ⟨i,hi,rfl⟩;rw[cH W N W.pos hi,W.a7 _ hi]
 bS:=by
  rintro _ ⟨i,hi,rfl⟩;rw[cH W N hi W.pos,W.bS _ hi]
 Cz:=by
  rintro _ _ _ ⟨i,hi,rfl⟩ ⟨j,hj,rfl⟩ ⟨k,hk,rfl⟩ e;rw[cH W N hi hk,cH W N hj hk]at e;have e':rep G s (G.times i k)=rep G s (G.times j k):=by simpa using e
  have:=N.Cy W hi hj hk ((aY W N.sub (W.lt _ _ hi hk) (W.lt _ _ hj hk)).mp e');rw[(aY W N.sub hi hj).mpr this]
theorem k7(W:WF G):over G s=made (m9 G s) [rep G s 0] (G.gens.map fun i=>[rep G s i]):=by
 have e1:[(cosets G s).getD 0 0]=[rep G s 0]:=by rw[gO G s W.pos]
 have e2:(G.gens.map fun i=>[(cosets G s).getD i 0])=G.gens.map fun i=>[rep G s i]:=map_congr_left fun i hi=>by rw[gO G s (W.dJ i hi)]
 show made _ [(cosets G s).getD 0 0] (G.gens.map fun i=>[(cosets G s).getD i 0])=_;rw[e1,e2];rfl
theorem fe(W:WF G):∀g∈(G.gens.map fun i=>[rep G s i]),∃i,i<G.size/\g=[rep G s i]:=fun g hg=>by
 obtain⟨i,hi,rfl⟩:=Ng hg
 exact⟨i,W.dJ i hi,rfl⟩
end
section
variable{G H:Group}
def dD(G H:Group)(a b:DW):DW:=[G.times (a.headD 0/H.size) (b.headD 0/H.size)*H.size+H.times (a.headD 0%H.size) (b.headD 0%H.size)]
def pr(H:Group)(x y:Nat):DW:=[x*H.size+y]
theorem fY{n x y:Nat}(hy:y<n):(x*n+y)/n=x:=by
 rw[mul_comm,Nat.mul_add_div (by omega),Nat.div_eq_of_lt hy];omega
theorem fX{n x y:Nat}(hy:y<n):(x*n+y)%n=y:=by
 rw[mul_comm,Nat.mul_add_mod,mod_eq_of_lt hy]
theorem bQ{x y z w:Nat}(hy:y<H.size)(hw:w<H.size):dD G H (pr H x y) (pr H z w)=pr H (G.times x z) (H.times y w):=by
 simp[dD,pr,fY hy,fY hw,fX hy,fX hw]
theorem FA{x y z w:Nat}(hy:y<H.size)(hw:w<H.size)(e:pr H x y=pr H z w):x=z/\y=w:=by
 have e':x*H.size+y=z*H.size+w:=by simpa[pr]using e
 have a:=congrArg (·/H.size) e';have b:=congrArg (·%H.size) e';simp only[fY hy,fY hw,fX hy,fX hw]at a b;exact⟨a,b⟩
theorem vc(W:WF G)(V:WF H):Op (dD G H) (pr H 0 0) (fun a=>∃x y,x<G.size/\y<H.size/\a=pr H x y) where
 oH:=⟨0,0,W.pos,V.pos,rfl⟩
 rq:=by
  rintro _ _ ⟨x,y,hx,hy,rfl⟩ ⟨z,w,hz,hw,rfl⟩;exact⟨_,_,W.lt _ _ hx hz,V.lt _ _ hy hw,bQ hy hw⟩
 assoc:=by
  rintro _ _ _ ⟨x,y,hx,hy,rfl⟩ ⟨z,w,hz,hw,rfl⟩ ⟨u,v,hu,hv,rfl⟩;rw[bQ hy hw,bQ (V.lt _ _ hy hw) hv,bQ hw hv,bQ hy (V.lt _ _ hw hv),W.assoc _ _ _ hx hz hu,V.assoc _ _ _ hy hw hv]
 a7:=by
  rintro _ ⟨x,y,hx,hy,rfl⟩;rw[bQ V.pos hy,W.a7 _ hx,V.a7 _ hy]
 bS:=by
  rintro _ ⟨x,y,hx,hy,rfl⟩;rw[bQ hy V.pos,W.bS _ hx,V.bS _ hy]
 Cz:=by
  rintro _ _ _ ⟨x,y,hx,hy,rfl⟩ ⟨z,w,hz,hw,rfl⟩ ⟨u,v,hu,hv,rfl⟩ e;rw[bQ hy hv,bQ hw hv]at e;have q:=FA (V.lt _ _ hy hv) (V.lt _ _ hw hv) e;rw[W.AG hx hz hu q.1,V.AG hy hw hv q.2]
theorem zd(G H:Group):pairs G H=if GENS<G.gens.length+H.gens.length\/MOST<G.size*H.size then none else made (dD G H) (pr H 0 0) ((G.gens.map fun i=>pr H i 0)++H.gens.map fun j=>pr H 0 j):=by
 unfold pairs;have e1:(fun(i:Nat)=>[i*H.size])=fun i=>pr H i 0:=by funext i;simp[pr]
 have e2:(fun(j:Nat)=>[j])=fun j=>pr H 0 j:=by funext j;simp[pr]
 have e3:([0]:DW)=pr H 0 0:=by simp[pr]
 rw[<-e1,<-e2,<-e3];rfl
theorem jm(W:WF G)(V:WF H):∀g∈(G.gens.map fun i=>pr H i 0)++H.gens.map fun j=>pr H 0 j,∃x y,x<G.size/\y<H.size/\g=pr H x y:=fun g hg=>by
 rcases Nj hg with q|q
 ·obtain⟨i,hi,rfl⟩:=Ng q;exact⟨i,0,W.dJ i hi,V.pos,rfl⟩
 ·obtain⟨i,hi,rfl⟩:=Ng q;exact⟨0,i,W.pos,V.dJ i hi,rfl⟩
end
theorem eK{α:Type}(p:α->Bool):∀l:List α,l.length=(l.filter p).length+(l.filter fun x=>!p x).length
 |[]=>rfl
 |a::l=>by
  have:=eK p l
  simp only[filter_cons,length_cons]
  cases p a<;>simp<;>omega
theorem gQ{α β:Type}[DecidableEq β](f:α->β)(m:Nat):∀(O:List β)(Q:List α),O.Nodup->(∀x∈Q,f x∈O)->(∀y∈O,(Q.filter fun x=>decide (f x=y)).length=m)->Q.length=O.length*m
 |[],Q,_,h,_=>by
  cases Q with
  |nil=>simp
  |cons a Q=>exact absurd (h a mem_cons_self) (by simp)
 |y::O,Q,nd,h,hm=>by
  have nd':=List.nodup_cons.mp nd
  have e:=eK (fun x=>decide (f x=y)) Q
  have r:=gQ f m O (Q.filter fun x=>!decide (f x=y)) nd'.2 (fun x hx=>by
   have hx':=List.mem_filter.mp hx
   rcases Nf (h x hx'.1)with q|q
   ·have:=hx'.2;simp[q]at this
   ·exact q) (fun z hz=>by
   have ez:((Q.filter fun x=>!decide (f x=y)).filter fun x=>decide (f x=z))=Q.filter fun x=>decide (f x=z):=by
    rw[filter_filter]
    refine filter_congr fun x _=>?_
    by_cases q:f x=z
    ·have hne:z≠y:=fun q2=>nd'.1 (q2▸hz)
     simp[q,hne]
    ·simp[q]
   rw[ez];exact hm z (mem_cons_of_mem _ hz))
  rw[e,hm y mem_cons_self,r,length_cons,add_mul,one_mul,add_comm]
theorem jY{β:Type}(p:Nat)(R:β->β->Bool):∀(n:Nat)(X:List β),X.length<=n->(∀x∈X,R x x=true)->(∀x∈X,∀y∈X,∀z∈X,R x y=true->(R x z=R y z)) ->
  (∀x∈X,(X.filter (R x)).length=1\/p∣(X.filter (R x)).length)->X.length%p=(X.filter fun x=>(X.filter (R x)).length==1).length%p
 |0,X,hn,_,_,_=>by
  have:X=[]:=List.eq_nil_of_length_eq_zero (by omega)
  subst this;simp
 |n+1,[],_,_,_,_=>by simp
 |n+1,a::X0,hn,rf,tr,h=>by
  generalize hX:a::X0=X at *
  have ha:a∈X:=by rw[<-hX];exact mem_cons_self
  have e:=eK (R a) X
  have hC:0<(X.filter (R a)).length:=length_pos_of_mem (List.mem_filter.mpr ⟨ha,rf a ha⟩)
  have hY:∀x∈X.filter (fun x=>!R a x),x∈X/\R a x=false:=fun x hx=>by
   have:=List.mem_filter.mp hx;simpa using this
  have same:∀y∈X.filter (fun x=>!R a x),(X.filter fun x=>!R a x).filter (R y)=X.filter (R y):=fun y hy=>by
   rw[filter_filter]
   refine filter_congr fun z hz=>?_
   cases q:R y z with
   |false=>simp
   |true=>
    have hy':=hY y hy
    have:R a z=false:=by
     cases q2:R a z with
     |false=>rfl
     |true=>
      have t1:=tr a ha z hz y hy'.1 q2
      have t2:=tr y hy'.1 z hz y hy'.1 q
      rw[rf y hy'.1]at t2
      rw[<-t2,hy'.2]at t1
      cases t1
    simp[this]
  have ih:=jY p R n (X.filter fun x=>!R a x) (by omega) (fun x hx=>rf x (hY x hx).1)
   (fun x hx y hy z hz=>tr x (hY x hx).1 y (hY y hy).1 z (hY z hz).1)
   (fun y hy=>by rw[same y hy];exact h y (hY y hy).1)
  have e2:(X.filter fun x=>(X.filter (R x)).length==1).length=((X.filter (R a)).filter fun x=>(X.filter (R x)).length==1).length+((X.filter fun x=>!R a x).filter fun x=>(X.filter (R x)).length==1).length:=by
   have:=eK (R a) (X.filter fun x=>(X.filter (R x)).length==1)
   rw[this]
   congr 1
   ·rw[filter_filter,filter_filter];congr 1;refine filter_congr fun z _=>by rw[Bool.and_comm]
   ·rw[filter_filter,filter_filter];congr 1;refine filter_congr fun z _=>by rw[Bool.and_comm]
  have e3:((X.filter fun x=>!R a x).filter fun x=>(X.filter (R x)).length==1)=((X.filter fun x=>!R a x).filter fun x=>((X.filter fun x=>!R a x).filter (R x)).length==1):=by
   refine filter_congr fun z hz=>by rw[same z hz]
  have e4:∀x∈X.filter (R a),X.filter (R x)=X.filter (R a):=fun x hx=>by
   have hx':=List.mem_filter.mp hx
   refine filter_congr fun z hz=>(tr a ha x hx'.1 z hz hx'.2).symm
  rw[e2,e3,add_mod,<-ih,<-add_mod]
  rcases h a ha with q|q
  ·have:((X.filter (R a)).filter fun x=>(X.filter (R x)).length==1)=X.filter (R a):=by
    refine List.filter_eq_self.mpr fun x hx=>by rw[e4 x hx,q];rfl
   rw[this,<-e]
  ·by_cases q1:(X.filter (R a)).length=1
   ·have:((X.filter (R a)).filter fun x=>(X.filter (R x)).length==1)=X.filter (R a):=by
     refine List.filter_eq_self.mpr fun x hx=>by rw[e4 x hx,q1];rfl
    rw[this,<-e]
   ·have:((X.filter (R a)).filter fun x=>(X.filter (R x)).length==1)=[]:=by
     refine List.filter_eq_nil_iff.mpr fun x hx=>by rw[e4 x hx];simpa using q1
    rw[this,e]
    obtain⟨c,hc⟩:=q
    rw[hc]
    simp[add_mod]
structure Pr(p:Nat):Prop where
 two:2<=p
 div:∀d,d∣p->d=1\/d=p
theorem ff{p:Nat}:isPrime p=true↔Pr p:=by
 unfold isPrime;simp only[and_eq_true,decide_eq_true_eq,all_eq_true,mem_range,or_eq_true,bne_iff_ne];constructor
 ·rintro⟨h1,h2⟩;refine⟨h1,fun d hd=>?_⟩;have hle:d<=p:=le_of_dvd (by omega) hd;by_cases e:d=p
  ·exact .inr e
  ·rcases h2 d (by omega)with q|q
   ·have:d≠0:=fun z=>by subst z;have:=Nat.eq_zero_of_zero_dvd hd;omega
    left;omega
   ·exact absurd (mod_eq_zero_of_dvd hd) q
 ·rintro⟨h1,h2⟩;refine⟨h1,fun d hd=>?_⟩;by_cases q:d<2
  ·exact .inl q
  ·right;intro e;rcases h2 d (dvd_of_mod_eq_zero e)with z|z<;>omega
theorem Pr.coprime{p d:Nat}(P:Pr p)(h:¬p∣d):Coprime d p:=by
 unfold Coprime;rcases P.div _ (Nat.gcd_dvd_right d p)with q|q
 ·exact q
 ·exact absurd (q▸Nat.gcd_dvd_left d p) h
theorem Pr.dvd_pow{p d:Nat}(P:Pr p):∀k,d∣p^k->d=1\/p∣d
 |0,h=>by simp at h;exact .inl h
 |k+1,h=>by
  by_cases q:p∣d
  ·exact .inr q
  ·rw[pow_succ]at h
   exact Pr.dvd_pow P k ((P.coprime q).dvd_of_dvd_mul_right h)
def it{α:Type}(f:α->α):Nat->α->α
 |0,x=>x
 |n+1,x=>it f n (f x)
theorem gK{α:Type}(f:α->α):∀(a b:Nat)(x:α),it f (a+b) x=it f b (it f a x)
 |0,b,x=>by simp[it]
 |a+1,b,x=>by rw[show a+1+b=(a+b)+1 by omega];simp only[it];exact gK f a b (f x)
theorem mU{α:Type}(f:α->α){d:Nat}{x:α}(h:it f d x=x):∀k,it f (k*d) x=x
 |0=>by simp[it]
 |k+1=>by rw[add_mul,one_mul,gK,mU f h k,h]
theorem Ad{α:Type}{f:α->α}{p d:Nat}{x:α}(P:Pr p)(hp:it f p x=x)(h0:0<d)(hd:d<p)(h:it f d x=x):f x=x:=by
 have cp:Coprime d p:=P.coprime fun q=>by have:=le_of_dvd h0 q;omega
 obtain⟨u,hu⟩:∃u,(u*d)%p=1%p:=by
  have hg:=(Nat.coprime_iff_gcd_eq_one).mp cp;have key:((range p).map fun u=>(u*d)%p).Nodup:=by
   refine bY nodup_range _ fun a ha b hb e=>?_;simp at ha hb;have main:∀a b,a<p->b<p->a<=b->(a*d)%p=(b*d)%p->a=b:=by
    intro a b ha hb hab e;have h1:p∣b*d-a*d:=dvd_of_mod_eq_zero (Nat.sub_mod_eq_zero_of_mod_eq e.symm);rw[<-Nat.sub_mul]at h1;have h2:p∣b-a:=cp.symm.dvd_of_dvd_mul_right h1;rcases Nat.eq_zero_or_pos (b-a)with z|z
    ·omega
    ·have:=le_of_dvd z h2;omega
   rcases Nat.le_total a b with q|q
   ·exact main a b ha hb q e
   ·exact(main b a hb ha q e.symm).symm
  have:=jh key (l:=range p) (fun x hx=>by
   obtain⟨u,_,rfl⟩:=Ng hx;simp;exact mod_lt _ (by omega)) (by simp) 1 (by simp;exact P.two)
  obtain⟨u,_,e⟩:=Ng this;exact⟨u,by rw[e,mod_eq_of_lt P.two]⟩
 have e1:it f (u*d) x=x:=mU f h u;have e2:u*d=p*(u*d/p)+1:=by
  have:=div_add_mod (u*d) p;rw[hu,mod_eq_of_lt P.two]at this;omega
 rw[e2,gK,mul_comm p,mU f hp]at e1;simpa[it]using e1
structure FG{α:Type}(K:List α)(mul:α->α->α)(one:α):Prop where
 nd:K.Nodup
 zo:one∈K
 JN:∀a∈K,∀b∈K,mul a b∈K
 assoc:∀a∈K,∀b∈K,∀c∈K,mul (mul a b) c=mul a (mul b c)
 a7:∀a∈K,mul one a=a
 bS:∀a∈K,mul a one=a
 inv:∀a∈K,∃b∈K,mul a b=one/\mul b a=one
theorem i8{α:Type}{l:List α}{a:α}{f:α->Bool}(nd:l.Nodup)(ha:a∈l)(hf:f a=true)(h:∀b∈l,f b=true->b=a):(l.filter f).length=1:=by
 have nd':(l.filter f).Nodup:=nd.filter _;have all:∀b∈l.filter f,b=a:=fun b hb=>h b (List.mem_filter.mp hb).1 (List.mem_filter.mp hb).2;have hm:a∈l.filter f:=List.mem_filter.mpr ⟨ha,hf⟩
 match e:l.filter f with
 |[]=>rw[e]at hm;cases hm
 |[x]=>rfl
 |x::y::r=>
  rw[e]at nd' all;have h1:=all x (by simp);have h2:=all y (by simp);have:=(List.nodup_cons.mp nd').1;rw[h1,h2]at this;simp at this
theorem fU{α:Type}[DecidableEq α]{l m:List α}(nl:l.Nodup)(nm:m.Nodup)(h:∀x,x∈l↔x∈m):l.length=m.length:=
 Nat.le_antisymm (sub_len nl fun x hx=>(h x).mp hx) (sub_len nm fun x hx=>(h x).mpr hx)
section
variable{α:Type}
def tup(K:List α):Nat->List (List α)
 |0=>[[]]
 |n+1=>K.flatMap fun a=>(tup K n).map fun t=>a::t
theorem jr{K:List α}:∀{n:Nat}{t:List α},t∈tup K n↔t.length=n/\∀a∈t,a∈K
 |0,t=>by simp[tup];intro h;subst h;simp
 |n+1,t=>by
  simp only[tup,List.mem_flatMap,mem_map]
  constructor
  ·rintro⟨a,ha,u,hu,rfl⟩
   have:=jr.mp hu
   simp[this.1,ha];exact this.2
  ·rintro⟨h1,h2⟩
   cases t with
   |nil=>simp at h1
   |cons a u=>exact⟨a,h2 a (by simp),u,jr.mpr ⟨by simpa using h1,fun b hb=>h2 b (by simp[hb])⟩,rfl⟩
theorem uK{K:List α}:∀n,(tup K n).length=K.length^n
 |0=>rfl
 |n+1=>by
  have:∀l:List α,(l.flatMap fun a=>(tup K n).map fun t=>a::t).length=l.length*(tup K n).length:=by
   intro l
   induction l with
   |nil=>simp
   |cons a l ih=>simp[flatMap_cons,ih,add_mul];omega
  rw[tup,this,uK n,pow_succ,mul_comm]
theorem tj{K:List α}(nd:K.Nodup):∀n,(tup K n).Nodup
 |0=>by simp[tup]
 |n+1=>by
  have ih:=tj nd n
  have:∀l:List α,l.Nodup->(l.flatMap fun a=>(tup K n).map fun t=>a::t).Nodup:=by
   intro l
   induction l with
   |nil=>simp
   |cons a l ihl=>
    intro h
    have h':=List.nodup_cons.mp h
    rw[flatMap_cons]
    refine List.nodup_append.mpr ⟨bY ih _ (fun x _ y _ e=>(List.cons.inj e).2),ihl h'.2,?_⟩
    intro u hu v hv e
    subst e
    obtain⟨t,_,rfl⟩:=Ng hu
    obtain⟨b,hb,hv⟩:=List.mem_flatMap.mp hv
    obtain⟨t',_,e⟩:=Ng hv
    have:=(List.cons.inj e).1
    subst this;exact h'.1 hb
  exact this K nd
def j6:List α->List α
 |[]=>[]
 |a::t=>t++[a]
theorem yL:∀(k:Nat)(t:List α),k<=t.length->it j6 k t=t.drop k++t.take k
 |0,t,_=>by simp[it]
 |k+1,[],h=>by simp at h
 |k+1,a::t,h=>by
  simp only[it,j6]
  rw[yL k (t++[a]) (by simp at h ⊢;omega)]
  simp at h
  rw[List.drop_append_of_le_length h,List.take_append_of_le_length h]
  simp
theorem BE(t:List α):it j6 t.length t=t:=by rw[yL _ _ (le_refl _)];simp
theorem qJ:∀{t:List α}{a:α},t++[a]=a::t->∀b∈t,b=a
 |[],_,_,_,h=>by cases h
 |c::t,a,e,b,h=>by
  have e':=List.cons.inj (show c::(t++[a])=a::c::t from e)
  have hc:c=a:=e'.1
  subst hc
  rcases Nf h with q|q
  ·exact q
  ·exact qJ e'.2 b q
variable{K:List α}{mul:α->α->α}{one:α}
def pd(mul:α->α->α)(one:α)(t:List α):α:=t.foldr mul one
theorem za(F:FG K mul one):∀{t:List α},(∀a∈t,a∈K)->pd mul one t∈K
 |[],_=>F.zo
 |a::t,h=>F.JN _ (h a (by simp)) _ (za F fun b hb=>h b (by simp[hb]))
theorem u7(F:FG K mul one){b:α}(hb:b∈K):∀{t:List α},(∀a∈t,a∈K)->pd mul one (t++[b])=mul (pd mul one t) b
 |[],_=>by show mul b one=mul one b;rw[F.bS b hb,F.a7 b hb]
 |a::t,h=>by
  show mul a (pd mul one (t++[b]))=mul (mul a (pd mul one t)) b
  rw[u7 F hb fun c hc=>h c (by simp[hc]),F.assoc _ (h a (by simp)) _ (za F fun c hc=>h c (by simp[hc])) _ hb]
theorem FG.J5(F:FG K mul one){a b:α}(ha:a∈K)(hb:b∈K)(e:mul a b=one):mul b a=one:=by
 obtain⟨c,hc,e1,e2⟩:=F.inv a ha;have:b=c:=by
  have h1:mul (mul c a) b=mul c (mul a b):=F.assoc c hc a ha b hb;rw[e2,e,F.a7 b hb,F.bS c hc]at h1;exact h1
 subst this;exact e2
theorem FG.ja(F:FG K mul one){a b c:α}(ha:a∈K)(hb:b∈K)(hc:c∈K)(e:mul a c=mul b c):a=b:=by
 obtain⟨d,hd,e1,_⟩:=F.inv c hc;have:mul (mul a c) d=mul (mul b c) d:=by rw[e]
 rw[F.assoc _ ha _ hc _ hd,F.assoc _ hb _ hc _ hd,e1,F.bS _ ha,F.bS _ hb]at this;exact this
theorem HZ[DecidableEq α](F:FG K mul one){p:Nat}(P:Pr p)(hK:p∣K.length):∃a∈K,a≠one/\pd mul one (replicate p a)=one:=by
 have p2:=P.two
 let X:=(tup K p).filter fun t=>decide (pd mul one t=one)
 have memX:∀t,t∈X↔(t.length=p/\∀a∈t,a∈K)/\pd mul one t=one:=fun t=>by
  simp only[X,mem_filter,jr,decide_eq_true_eq]
 have ndX:X.Nodup:=(tj F.nd p).filter _;have lenX:X.length=K.length^(p-1):=by
  have:=gQ (fun t:List α=>t.tail) 1 (tup K (p-1)) X (tj F.nd _) (fun t ht=>by
   have h:=((memX t).mp ht).1;exact jr.mpr ⟨by rw[List.length_tail,h.1],fun a ha=>h.2 a (List.mem_of_mem_tail ha)⟩) (fun u hu=>by
   have hu':=jr.mp hu;obtain⟨b,hb,e1,e2⟩:=F.inv _ (za F hu'.2);have hbu:b::u∈X:=(memX _).mpr ⟨⟨by simp[hu'.1];omega,fun a ha=>by
    rcases Nf ha with q|q
    ·subst q;exact hb
    ·exact hu'.2 a q⟩,e2⟩
   refine i8 ndX hbu (by simp) fun t ht et=>?_;have h:=(memX t).mp ht;cases t with
   |nil=>have:=h.1.1;simp at this;omega
   |cons c t=>
    have et:t=u:=of_decide_eq_true et;subst et;have:c=b:=F.ja (h.1.2 c (by simp)) hb (za F hu'.2) ((show mul c (pd mul one t)=one from h.2).trans e2.symm);rw[this])
  rw[this,uK,mul_one]
 have rotX:∀t∈X,j6 t∈X:=fun t ht=>by
  have h:=(memX t).mp ht;cases t with
  |nil=>exact ht
  |cons a t=>
   refine(memX _).mpr ⟨⟨by simpa[j6]using h.1.1,fun b hb=>h.1.2 b (by simp[j6]at hb ⊢;exact hb.symm)⟩,?_⟩;show pd mul one (t++[a])=one;have ha:a∈K:=h.1.2 a (by simp);have ht':∀b∈t,b∈K:=fun b hb=>h.1.2 b (by simp[hb]);rw[u7 F ha ht'];exact F.J5 ha (za F ht') h.2
 have itX:∀k,∀t∈X,it j6 k t∈X:=fun k=>by
  induction k with
  |zero=>intro t ht;exact ht
  |succ k ih=>intro t ht;exact ih _ (rotX t ht)
 have itp:∀t∈X,it j6 p t=t:=fun t ht=>by
  have:=BE t;rwa [((memX t).mp ht).1.1]at this
 let R:List α->List α->Bool:=fun t u=>(range p).any fun i=>decide (it j6 i t=u)
 have memR:∀t u,R t u=true↔∃i,i<p/\it j6 i t=u:=fun t u=>by simp[R]
 have rfR:∀t∈X,R t t=true:=fun t _=>(memR t t).mpr ⟨0,by omega,rfl⟩;have modp:∀t∈X,∀k,it j6 k t=it j6 (k%p) t:=fun t ht k=>by
  have e:=div_add_mod k p
  conv=>lhs;rw[<-e]
  rw[gK,mul_comm,mU j6 (itp t ht)]
 have trR:∀x∈X,∀y∈X,∀z∈X,R x y=true->R x z=R y z:=fun x hx y hy z hz h=>by
  obtain⟨i,hi,rfl⟩:=(memR x y).mp h;have key:R x z=true↔R (it j6 i x) z=true:=by
   rw[memR,memR];constructor
   ·rintro⟨j,hj,rfl⟩;refine⟨(j+(p-i))%p,mod_lt _ (by omega),?_⟩;rw[<-modp _ (itX i x hx),<-gK,show i+(j+(p-i))=p+j by omega,gK,itp x hx]
   ·rintro⟨j,hj,rfl⟩;refine⟨(i+j)%p,mod_lt _ (by omega),?_⟩;rw[<-modp x hx,gK]
  exact Bool.eq_iff_iff.mpr key
 have cls:∀t∈X,(j6 t=t->(X.filter (R t)).length=1)/\(j6 t≠t->(X.filter (R t)).length=p):=fun t ht=>by
  constructor
  ·intro e;refine i8 ndX ht (rfR t ht) fun u _ hR=>?_;obtain⟨i,_,rfl⟩:=(memR t u).mp hR;have:it j6 (i*1) t=t:=mU j6 (d:=1) (show it j6 1 t=t from e) i;rw[mul_one]at this;exact this
  ·intro e;have nd:((range p).map fun i=>it j6 i t).Nodup:=by
    have main:∀a b,a<p->b<p->a<b->it j6 a t=it j6 b t->False:=fun a b ha hb hab q=>by
     have h1:it j6 (a+(p-b)) t=t:=by rw[gK,q,<-gK,show b+(p-b)=p by omega,itp t ht]
     exact e (Ad P (itp t ht) (by omega) (by omega) h1)
    refine bY nodup_range _ fun a ha b hb q=>?_;simp at ha hb;rcases lt_trichotomy a b with h|h|h
    ·exact(main a b ha hb h q).elim
    ·exact h
    ·exact(main b a hb ha h q.symm).elim
   have:=fU (l:=X.filter (R t)) (ndX.filter _) nd (fun u=>by
    simp only[mem_filter,mem_map,mem_range,memR];constructor
    ·rintro⟨_,h⟩;exact h
    ·rintro⟨i,hi,rfl⟩;exact⟨itX i t ht,i,hi,rfl⟩)
   rw[this];simp
 have cm:=jY p R X.length X (le_refl _) rfR trR (fun t ht=>by
  by_cases e:j6 t=t
  ·exact .inl ((cls t ht).1 e)
  ·exact .inr ⟨1,by rw[(cls t ht).2 e,mul_one]⟩)
 have h0:X.length%p=0:=by
  rw[lenX];obtain⟨c,hc⟩:=hK;rw[show p-1=(p-2)+1 by omega,pow_succ,hc];exact mod_eq_zero_of_dvd ⟨(p*c)^(p-2)*c,by rw[Nat.mul_left_comm]⟩
 have ones:replicate p one∈X.filter fun t=>(X.filter (R t)).length==1:=by
  have hp1:∀n,pd mul one (replicate n one)=one:=fun n=>by
   induction n with
   |zero=>rfl
   |succ n ih=>show mul one (pd mul one (replicate n one))=one;rw[ih,F.a7 one F.zo]
  have hm:replicate p one∈X:=(memX _).mpr ⟨⟨by simp,fun a ha=>by rw[(List.mem_replicate.mp ha).2];exact F.zo⟩,hp1 p⟩;refine List.mem_filter.mpr ⟨hm,?_⟩;have:j6 (replicate p one)=replicate p one:=by
   obtain⟨n,rfl⟩:∃n,p=n+1:=⟨p-1,by omega⟩;rw[replicate_succ];show replicate n one++[one]=one::replicate n one;rw[<-List.replicate_succ',replicate_succ]
  rw[(cls _ hm).1 this];rfl
 have big:2<=(X.filter fun t=>(X.filter (R t)).length==1).length:=by
  have h1:=length_pos_of_mem ones;rw[h0]at cm;have:=le_of_dvd h1 (dvd_of_mod_eq_zero cm.symm);omega
 obtain⟨t,ht,hne⟩:∃t,t∈(X.filter fun t=>(X.filter (R t)).length==1)/\t≠replicate p one:=by
  apply byContradiction;intro hn;have:=sub_len (m:=X.filter fun t=>(X.filter (R t)).length==1) (l:=[replicate p one]) (ndX.filter _) (fun t ht=>by
   have:t=replicate p one:=byContradiction fun q=>hn ⟨t,ht,q⟩;simp[this])
  simp at this;omega
 have ht':=List.mem_filter.mp ht;have htX:=(memX t).mp ht'.1;have rt:j6 t=t:=byContradiction fun q=>by
  have:=(cls t ht'.1).2 q;have h2:=ht'.2;rw[this]at h2;simp at h2;omega
 cases t with
 |nil=>have:=htX.1.1;simp at this;omega
 |cons a u=>
  have all:=qJ (show u++[a]=a::u from rt);have ea:a::u=replicate p a:=List.eq_replicate_iff.mpr ⟨htX.1.1,fun b hb=>by
   rcases Nf hb with q|q
   ·exact q
   ·exact all b q⟩
  refine⟨a,htX.1.2 a (by simp),fun q=>hne ?_,?_⟩
  ·rw[ea,q]
  ·rw[<-ea];exact htX.2
end
section
variable{G:Group}{S T:DW}
theorem aR{l:DW}(h:l.Pairwise (·<·)):l.Nodup:=h.imp fun h=>by omega
theorem lB(W:WF G)(hS:Sub G S){a b c:Nat}(ha:a<G.size)(hb:b<G.size)(h:Co G S b c):Co G S (G.times a b) (G.times a c):=by
 obtain⟨x,hx,rfl⟩:=h;exact⟨x,hx,(W.assoc _ _ _ ha hb (hS.lt x hx)).symm⟩
theorem AF(W:WF G)(hS:Sub G S){a b c:Nat}(ha:a<G.size)(hb:b<G.size)(hn:∀x∈S,G.turned x (G.inverse b)∈S)(h:Co G S a c):Co G S (G.times a b) (G.times c b):=by
 obtain⟨x,hx,rfl⟩:=h;have lx:=hS.lt x hx;have ib:=W.aV hb;refine⟨_,hn x hx,?_⟩;have ez:G.turned x (G.inverse b)=G.times (G.times (G.inverse b) x) b:=by unfold Group.turned;rw[W.inv_inv hb]
 have l1:=W.lt _ _ ib lx;have l3:=W.lt _ _ lx hb;rw[ez,W.assoc a x b ha lx hb,W.assoc a b _ ha hb (W.lt _ _ l1 hb),W.assoc (G.inverse b) x b ib lx hb,<-W.assoc b (G.inverse b) _ hb ib l3,W.cy hb,W.a7 _ l3]
theorem lA(W:WF G)(hS:Sub G S){a:Nat}(_ha:a<G.size):Co G S 0 a↔a∈S:=by
 constructor
 ·rintro⟨x,hx,e⟩;rw[W.a7 x (hS.lt x hx)]at e;subst e;exact hx
 ·intro h;exact⟨a,h,(W.a7 a (hS.lt a h)).symm⟩
theorem m8(W:WF G)(hS:Sub G S){a b:Nat}(ha:a<G.size)(hb:b<G.size):Co G S a b↔G.times (G.inverse a) b∈S:=by
 have ia:=W.aV ha;constructor
 ·rintro⟨x,hx,rfl⟩;rw[<-W.assoc _ _ _ ia ha (hS.lt x hx),W.inv_mul ha,W.a7 _ (hS.lt x hx)];exact hx
 ·intro h;exact⟨_,h,by rw[<-W.assoc _ _ _ ha ia hb,W.cy ha,W.a7 b hb]⟩
def cQ(G:Group)(S T:DW):DW:=T.filter fun i=>rep G S i==i
theorem bc{i:Nat}:i∈cQ G S T↔i∈T/\rep G S i=i:=by simp[cQ]
theorem jk(W:WF G)(hS:Sub G S){i:Nat}(hi:i<G.size):rep G S (rep G S i)=rep G S i:=
 (aY W hS (dB W hS hi) hi).mpr ((cD W hS hi).1.symm W hS hi)
theorem xh(W:WF G)(hS:Sub G S)(nS:S.Nodup)(hT:Sub G T)(nT:T.Nodup)(sub:∀x∈S,x∈T){y:Nat}(hy:y∈cQ G S T):(T.filter fun x=>decide (rep G S x=y)).length=S.length:=by
 obtain⟨yT,ey⟩:=bc.mp hy;have ly:=hT.lt y yT;have nd:(S.map (G.times y)).Nodup:=bY nS _ fun a ha b hb e=>W.ja (hS.lt a ha) (hS.lt b hb) ly e;have:=fU (l:=T.filter fun x=>decide (rep G S x=y)) (m:=S.map (G.times y)) (nT.filter _) nd (fun x=>by
  simp only[mem_filter,decide_eq_true_eq,mem_map];constructor
  ·rintro⟨hx,e⟩;rw[<-ey]at e;obtain⟨s,hs,rfl⟩:=((aY W hS (hT.lt x hx) ly).mp e).symm W hS (hT.lt x hx);exact⟨s,hs,rfl⟩
  ·rintro⟨s,hs,rfl⟩;refine⟨hT.mul _ yT _ (sub s hs),?_⟩;have hl:=W.lt _ _ ly (hS.lt s hs);rw[(aY W hS hl ly).mpr (Co.symm W hS ly ⟨s,hs,rfl⟩),ey])
 rw[this,length_map]
theorem pC(W:WF G)(hS:Sub G S)(hT:Sub G T)(sub:∀x∈S,x∈T){i:Nat}(hi:i∈T):rep G S i∈T:=by
 obtain⟨x,hx,e⟩:=(cD W hS (hT.lt i hi)).1;rw[e];exact hT.mul _ hi _ (sub x hx)
theorem eW(W:WF G)(hS:Sub G S)(nS:S.Nodup)(hT:Sub G T)(nT:T.Nodup)(sub:∀x∈S,x∈T):T.length=(cQ G S T).length*S.length:=
 gQ (rep G S) S.length (cQ G S T) T (nT.filter _) (fun x hx=>bc.mpr ⟨pC W hS hT sub hx,jk W hS (hT.lt x hx)⟩) fun _ hy=>xh W hS nS hT nT sub hy
theorem jF(W:WF G):Sub G G.all:=⟨fun x hx=>aL.mp hx,aL.mpr W.pos,fun x hx y hy=>aL.mpr (W.lt _ _ (aL.mp hx) (aL.mp hy))⟩
theorem nj:G.all.Nodup:=nodup_range
theorem fm:G.all.length=G.size:=by simp[Group.all]
theorem bF{j x:Nat}(W:WF G)(hS:∀x∈S,x<G.size)(hj:j<G.size):x∈turnedSet G S j↔∃i∈S,G.turned i j=x:=by
 unfold turnedSet;simp only[cW,contains_iff_mem,mem_map];constructor
 ·rintro⟨_,h⟩;exact h
 ·rintro⟨i,hi,rfl⟩;exact⟨W.dY (hS i hi) hj,i,hi,rfl⟩
theorem bq(j:Nat):(turnedSet G S j).Pairwise (·<·):=dA _
theorem cT(W:WF G)(hS:isSet G S=true){j:Nat}:j∈stay G S↔j<G.size/\∀x∈S,G.turned x j∈S:=by
 have q:=aB.mp hS;unfold stay;rw[cW,beq_iff_eq];constructor
 ·rintro⟨hj,e⟩;refine⟨hj,fun x hx=>?_⟩;have:=(bF W q.2 hj).mpr ⟨x,hx,rfl⟩;rwa [e]at this
 ·rintro⟨hj,h⟩;refine⟨hj,cB (bq j) q.1 fun x=>?_⟩;rw[bF W q.2 hj];constructor
  ·rintro⟨i,hi,rfl⟩;exact h i hi
  ·intro hx;exact j7 (aR q.1) (fun i=>G.turned i j) h (fun a ha b hb e=>W.iU (q.2 a ha) (q.2 b hb) hj e) x hx
theorem j4:(stay G S).Pairwise (·<·):=dA _
theorem eM(W:WF G)(hS:isSet G S=true):Sub G (stay G S):=by
 have q:=aB.mp hS;refine⟨fun x hx=>((cT W hS).mp hx).1,(cT W hS).mpr ⟨W.pos,fun x hx=>by rw[W.di (q.2 x hx)];exact hx⟩,fun x hx y hy=>?_⟩;have hx':=(cT W hS).mp hx;have hy':=(cT W hS).mp hy;refine(cT W hS).mpr ⟨W.lt _ _ hx'.1 hy'.1,fun z hz=>?_⟩;rw[<-W.dZ (q.2 z hz) hy'.1 hx'.1];exact hx'.2 _ (hy'.2 z hz)
theorem tE(W:WF G)(hS:Sub G S){x y:Nat}(hx:x∈S)(hy:y∈S):G.turned x y∈S:=hS.mul _ (hS.mul _ hy _ hx) _ (hS.inv W hy)
theorem xK(W:WF G)(hs:isSet G S=true)(hS:Sub G S):∀x∈S,x∈stay G S:=fun x hx=>(cT W hs).mpr ⟨hS.lt x hx,fun _ hy=>tE W hS hy hx⟩
theorem qO(W:WF G){i:Nat}(hi:i<G.size)(k:Nat):G.power i k=powerOf G i k:=by
 have O:=W.cS hi;have hm:∀c,powerOf G i (G.order i*c)=0:=fun c=>by
  induction c with
  |zero=>rfl
  |succ c ih=>rw[Nat.mul_succ,W.pow_add hi,ih,O.2.2.1,W.a7 0 W.pos]
 unfold Group.power;have e:=div_add_mod k (G.order i)
 conv=>rhs;rw[<-e]
 rw[W.pow_add hi,hm,W.a7 _ (W.c5 hi _)]
theorem pow_mul(W:WF G){i:Nat}(hi:i<G.size)(a:Nat):∀b,powerOf G i (a*b)=powerOf G (powerOf G i a) b
 |0=>rfl
 |b+1=>by rw[Nat.mul_succ,W.pow_add hi,pow_mul W hi a b];rfl
theorem CJ(W:WF G)(hs:isSet G S=true)(hS:Sub G S){p:Nat}(P:Pr p)(hp:p∣(cQ G S (stay G S)).length):∃x∈stay G S,x∉S/\powerOf G x p∈S:=by
 have q:=aB.mp hs;have hN:=eM W hs;have sub:=xK W hs hS;have lt:∀{x},x∈cQ G S (stay G S)->x<G.size:=fun h=>hN.lt _ (bc.mp h).1;have nrm:∀{b},b∈stay G S->∀x∈S,G.turned x (G.inverse b)∈S:=fun hb x hx=>((cT W hs).mp (hN.inv W hb)).2 x hx;have rp:∀{x},x∈stay G S->rep G S x∈cQ G S (stay G S):=fun h=>bc.mpr ⟨pC W hS hN sub h,jk W hS (hN.lt _ h)⟩;have rl:∀{a b},a<G.size->b<G.size->rep G S (G.times a (rep G S b))=rep G S (G.times a b):=fun ha hb=>
  (aY W hS (W.lt _ _ ha (dB W hS hb)) (W.lt _ _ ha hb)).mpr ((lB W hS ha hb (cD W hS hb).1).symm W hS (W.lt _ _ ha hb))
 have rr:∀{a b},a<G.size->b∈stay G S->rep G S (G.times (rep G S a) b)=rep G S (G.times a b):=fun ha hb=>
  (aY W hS (W.lt _ _ (dB W hS ha) (hN.lt _ hb)) (W.lt _ _ ha (hN.lt _ hb))).mpr ((AF W hS ha (hN.lt _ hb) (nrm hb) (cD W hS ha).1).symm W hS (W.lt _ _ ha (hN.lt _ hb)))
 have F:FG (cQ G S (stay G S)) (fun a b=>rep G S (G.times a b)) (rep G S 0):=by
  refine⟨(aR j4).filter _,rp hN.one,?_,?_,?_,?_,?_⟩
  ·intro a ha b hb;exact rp (hN.mul _ (bc.mp ha).1 _ (bc.mp hb).1)
  ·intro a ha b hb c hc;show rep G S (G.times (rep G S (G.times a b)) c)=rep G S (G.times a (rep G S (G.times b c)));rw[rr (W.lt _ _ (lt ha) (lt hb)) (bc.mp hc).1,rl (lt ha) (W.lt _ _ (lt hb) (lt hc)),W.assoc _ _ _ (lt ha) (lt hb) (lt hc)]
  ·intro a ha;show rep G S (G.times (rep G S 0) a)=a;rw[rr W.pos (bc.mp ha).1,W.a7 _ (lt ha),(bc.mp ha).2]
  ·intro a ha;show rep G S (G.times a (rep G S 0))=a;rw[rl (lt ha) W.pos,W.bS _ (lt ha),(bc.mp ha).2]
  ·intro a ha;have ia:=hN.inv W (bc.mp ha).1;refine⟨rep G S (G.inverse a),rp ia,?_,?_⟩
   ·show rep G S (G.times a (rep G S (G.inverse a)))=rep G S 0;rw[rl (lt ha) (hN.lt _ ia),W.cy (lt ha)]
   ·show rep G S (G.times (rep G S (G.inverse a)) a)=rep G S 0;rw[rr (hN.lt _ ia) (bc.mp ha).1,W.inv_mul (lt ha)]
 obtain⟨a,ha,hne,e⟩:=HZ F P hp;have aN:=(bc.mp ha).1;have la:=lt ha;have pw:∀n,pd (fun a b=>rep G S (G.times a b)) (rep G S 0) (replicate n a)=rep G S (powerOf G a n):=fun n=>by
  induction n with
  |zero=>rfl
  |succ n ih=>
   show rep G S (G.times a (pd _ (rep G S 0) (replicate n a)))=_;rw[ih,rl la (W.c5 la n)];have h1:=W.pow_add la 1 n;rw[show powerOf G a 1=a by simp[powerOf,W.a7 a la]]at h1;rw[<-h1,add_comm]
 rw[pw]at e;refine⟨a,aN,fun h=>hne ?_,?_⟩
 ·have:=(aY W hS W.pos la).mpr ((lA W hS la).mpr h);rw[this];exact(bc.mp ha).2.symm
 ·exact(lA W hS (W.c5 la p)).mp ((aY W hS W.pos (W.c5 la p)).mp e.symm)
theorem om(W:WF G)(hs:isSet G S=true)(hS:Sub G S){p x:Nat}(P:Pr p)(hx:x∈stay G S)(hn:x∉S)(hp:powerOf G x p∈S){u:DW}(hu:∀y,y∈u↔y∈S\/y=x):
  Sub G (least G u)/\(least G u).length=p*S.length/\(∀y∈S,y∈least G u):=by
 have q:=aB.mp hs;have hN:=eM W hs;have lx:=hN.lt x hx;have ul:∀y∈u,y<G.size:=fun y hy=>by
  rcases(hu y).mp hy with z|z
  ·exact q.2 y z
  ·subst z;exact lx
 have U:=bZ W ul;have sub:∀y∈S,y∈least G u:=fun y hy=>cG W ul y ((hu y).mpr (.inl hy));have xU:x∈least G u:=cG W ul x ((hu x).mpr (.inr rfl));refine⟨U,?_,sub⟩;have p2:=P.two;have nrm:∀{b},b∈stay G S->∀x∈S,G.turned x (G.inverse b)∈S:=fun hb x hx=>((cT W hs).mp (hN.inv W hb)).2 x hx;have pl:=W.c5 lx;have co:∀y∈least G u,∃k,k<p/\Co G S (powerOf G x k) y:=fun y hy=>by
  have red:∀k,∃j,j<p/\Co G S (powerOf G x j) (powerOf G x k):=fun k=>by
   refine⟨k%p,mod_lt _ (by omega),?_⟩;have e:=Nat.mod_add_div k p;refine⟨powerOf G x (p*(k/p)),?_,?_⟩
   ·rw[pow_mul W lx];exact hS.pow W hp _
   ·rw[<-W.pow_add lx,e]
  refine((cx W ul y).mp hy).least (S:=fun y=>∃k,k<p/\Co G S (powerOf G x k) y) ⟨0,by omega,Co.refl W hS W.pos⟩ ?_;rintro y z ⟨k,hk,hc⟩ hz;have ly:=hc.lt W hS (pl k);rcases(hu z).mp hz with h|h
  ·exact⟨k,hk,hc.trans W hS (pl k) ⟨z,h,rfl⟩⟩
  ·subst h;have h1:=AF W hS (pl k) lx (nrm hx) hc;obtain⟨j,hj,h2⟩:=red (k+1);exact⟨j,hj,h2.trans W hS (pl j) h1⟩
 have nd:((range p).map fun k=>rep G S (powerOf G x k)).Nodup:=by
  have main:∀a b,a<p->b<p->a<b->rep G S (powerOf G x a)=rep G S (powerOf G x b)->False:=fun a b ha hb hab e=>by
   have h1:=(aY W hS (pl a) (pl b)).mp e;rw[m8 W hS (pl a) (pl b),show b=a+(b-a)by omega,W.pow_add lx,<-W.assoc _ _ _ (W.aV (pl a)) (pl a) (pl _),W.inv_mul (pl a),W.a7 _ (pl _)]at h1;have h2:it (fun i=>rep G S (G.times x i)) (b-a) (rep G S 0)=rep G S 0/\it (fun i=>rep G S (G.times x i)) p (rep G S 0)=rep G S 0:=by
    have key:∀n y,y<G.size->it (fun i=>rep G S (G.times x i)) n (rep G S y)=rep G S (G.times (powerOf G x n) y):=fun n=>by
     induction n with
     |zero=>intro y hy;simp[it,powerOf,W.a7 y hy]
     |succ n ih=>
      intro y hy;simp only[it];have e1:rep G S (G.times x (rep G S y))=rep G S (G.times x y):=
       (aY W hS (W.lt _ _ lx (dB W hS hy)) (W.lt _ _ lx hy)).mpr ((lB W hS lx hy (cD W hS hy).1).symm W hS (W.lt _ _ lx hy))
      rw[e1,ih _ (W.lt _ _ lx hy),<-W.assoc _ _ _ (pl n) lx hy];rfl
    have z:∀n,powerOf G x n∈S->rep G S (G.times (powerOf G x n) 0)=rep G S 0:=fun n hn=>by
     rw[W.bS _ (pl n)];exact((aY W hS W.pos (pl n)).mpr ((lA W hS (pl n)).mpr hn)).symm
    rw[key _ 0 W.pos,key _ 0 W.pos];exact⟨z _ h1,z _ hp⟩
   have h3:rep G S (G.times x (rep G S 0))=rep G S 0:=Ad P h2.2 (by omega) (by omega) h2.1;have e1:rep G S (G.times x (rep G S 0))=rep G S (G.times x 0):=
    (aY W hS (W.lt _ _ lx (dB W hS W.pos)) (W.lt _ _ lx W.pos)).mpr ((lB W hS lx W.pos (cD W hS W.pos).1).symm W hS (W.lt _ _ lx W.pos))
   rw[e1,W.bS x lx]at h3;exact hn ((lA W hS lx).mp ((aY W hS W.pos lx).mp h3.symm))
  refine bY nodup_range _ fun a ha b hb e=>?_;simp at ha hb;rcases lt_trichotomy a b with h|h|h
  ·exact(main a b ha hb h e).elim
  ·exact h
  ·exact(main b a hb ha h e.symm).elim
 have L:=eW W hS (aR q.1) U (aR (bp u)) sub;have:(cQ G S (least G u)).length=p:=by
  rw[fU (l:=cQ G S (least G u)) (m:=(range p).map fun k=>rep G S (powerOf G x k)) ((aR (bp u)).filter _) nd (fun y=>?_)]
  ·simp
  ·simp only[bc,mem_map,mem_range];constructor
   ·rintro⟨hy,e⟩;obtain⟨k,hk,hc⟩:=co y hy;exact⟨k,hk,by rw[(aY W hS (pl k) (U.lt y hy)).mpr hc,e]⟩
   ·rintro⟨k,hk,rfl⟩;exact⟨pC W hS U sub (U.pow W xU k),jk W hS (pl k)⟩
 rw[L,this]
theorem qi(W:WF G)(hS:Sub G S)(hT:Sub G T)(nT:T.Nodup){p k:Nat}(P:Pr p)(hTl:T.length=p^k):
  (cQ G S G.all).length%p=((cQ G S G.all).filter fun i=>decide (∀t∈T,rep G S (G.times t i)=i)).length%p:=by
 have lt:∀{x},x∈cQ G S G.all->x<G.size:=fun h=>aL.mp (bc.mp h).1;have rl:∀{a b},a<G.size->b<G.size->rep G S (G.times a (rep G S b))=rep G S (G.times a b):=fun ha hb=>
  (aY W hS (W.lt _ _ ha (dB W hS hb)) (W.lt _ _ ha hb)).mpr ((lB W hS ha hb (cD W hS hb).1).symm W hS (W.lt _ _ ha hb))
 let R:Nat->Nat->Bool:=fun i j=>T.any fun t=>decide (rep G S (G.times t i)=j)
 have memR:∀i j,R i j=true↔∃t∈T,rep G S (G.times t i)=j:=fun i j=>by simp[R]
 have ndX:(cQ G S G.all).Nodup:=nj.filter _;have rf:∀i∈cQ G S G.all,R i i=true:=fun i hi=>(memR i i).mpr ⟨0,hT.one,by rw[W.a7 i (lt hi),(bc.mp hi).2]⟩;have tr:∀x∈cQ G S G.all,∀y∈cQ G S G.all,∀z∈cQ G S G.all,R x y=true->R x z=R y z:=fun x hx y hy z hz h=>by
  obtain⟨t,ht,rfl⟩:=(memR x y).mp h;have lt':=hT.lt t ht;refine Bool.eq_iff_iff.mpr ?_;rw[memR,memR];constructor
  ·rintro⟨u,hu,rfl⟩;have it:=hT.inv W ht;refine⟨G.times u (G.inverse t),hT.mul _ hu _ it,?_⟩;rw[rl (W.lt _ _ (hT.lt u hu) (hT.lt _ it)) (W.lt _ _ lt' (lt hx)),W.assoc _ _ _ (hT.lt u hu) (hT.lt _ it) (W.lt _ _ lt' (lt hx)),<-W.assoc _ _ _ (hT.lt _ it) lt' (lt hx),W.inv_mul lt',W.a7 _ (lt hx)]
  ·rintro⟨u,hu,rfl⟩;refine⟨G.times u t,hT.mul _ hu _ ht,?_⟩;rw[rl (hT.lt u hu) (W.lt _ _ lt' (lt hx)),W.assoc _ _ _ (hT.lt u hu) lt' (lt hx)]
 have memC:∀i∈cQ G S G.all,∀t∈T,rep G S (G.times t i)∈(cQ G S G.all).filter (R i):=fun i hi t ht=>by
  have l:=W.lt _ _ (hT.lt t ht) (lt hi);exact List.mem_filter.mpr ⟨bc.mpr ⟨aL.mpr (dB W hS l),jk W hS l⟩,(memR _ _).mpr ⟨t,ht,rfl⟩⟩
 have cl:∀i∈cQ G S G.all,((cQ G S G.all).filter (R i)).length∣p^k:=fun i hi=>by
  have li:=lt hi;have:=gQ (fun t=>rep G S (G.times t i)) (T.filter fun t=>decide (rep G S (G.times t i)=i)).length ((cQ G S G.all).filter (R i)) T (ndX.filter _) (fun t ht=>memC i hi t ht) (fun j hj=>by
   obtain⟨t0,ht0,rfl⟩:=(memR _ _).mp (List.mem_filter.mp hj).2;have l0:=hT.lt t0 ht0;have nd1:((T.filter fun t=>decide (rep G S (G.times t i)=i)).map (G.times t0)).Nodup:=bY (nT.filter _) _ fun a ha b hb e=>W.ja (hT.lt a (List.mem_filter.mp ha).1) (hT.lt b (List.mem_filter.mp hb).1) l0 e;rw[<-length_map (G.times t0) (as:=T.filter fun t=>decide (rep G S (G.times t i)=i))];refine fU (nT.filter _) nd1 fun t=>?_;simp only[mem_filter,mem_map,decide_eq_true_eq];constructor
   ·rintro⟨ht,e⟩;have i0:=hT.inv W ht0;refine⟨G.times (G.inverse t0) t,⟨hT.mul _ i0 _ ht,?_⟩,?_⟩
    ·rw[W.assoc _ _ _ (hT.lt _ i0) (hT.lt t ht) li,<-rl (hT.lt _ i0) (W.lt _ _ (hT.lt t ht) li),e,rl (hT.lt _ i0) (W.lt _ _ l0 li),<-W.assoc _ _ _ (hT.lt _ i0) l0 li,W.inv_mul l0,W.a7 _ li,(bc.mp hi).2]
    ·rw[<-W.assoc _ _ _ l0 (hT.lt _ i0) (hT.lt t ht),W.cy l0,W.a7 _ (hT.lt t ht)]
   ·rintro⟨u,⟨hu,e⟩,rfl⟩;refine⟨hT.mul _ ht0 _ hu,?_⟩;rw[W.assoc _ _ _ l0 (hT.lt u hu) li,<-rl l0 (W.lt _ _ (hT.lt u hu) li),e])
  rw[hTl]at this;exact⟨_,this⟩
 have cm:=jY p R (cQ G S G.all).length (cQ G S G.all) (le_refl _) rf tr (fun i hi=>P.dvd_pow k (cl i hi));rw[cm];congr 2;refine filter_congr fun i hi=>?_;refine Bool.eq_iff_iff.mpr ?_;rw[beq_iff_eq,decide_eq_true_eq];constructor
 ·intro h t ht;have h1:=memC i hi t ht;have h2:i∈(cQ G S G.all).filter (R i):=List.mem_filter.mpr ⟨hi,rf i hi⟩
  match e:(cQ G S G.all).filter (R i)with
  |[]=>rw[e]at h2;cases h2
  |[a]=>rw[e]at h1 h2;simp at h1 h2;rw[h1,<-h2]
  |a::b::r=>rw[e]at h;simp at h
 ·intro h;refine i8 ndX hi (rf i hi) fun j _ hR=>?_;obtain⟨t,ht,rfl⟩:=(memR i j).mp hR;exact h t ht
structure Kc(G:Group)(p:Nat)(S:DW):Prop where
 set:isSet G S=true
 sub:Sub G S
 pow:∃k,S.length=p^k
 top:¬p∣(cQ G S G.all).length
theorem sub_le(hS:Sub G S)(nS:S.Nodup):S.length<=G.size:=by
 have:=sub_len nS (l:=G.all) fun x hx=>aL.mpr (hS.lt x hx);rwa [fm]at this
theorem sj(W:WF G)(hs:isSet G S=true)(hS:Sub G S):((cQ G S G.all).filter fun i=>decide (∀t∈S,rep G S (G.times t i)=i))=cQ G S (stay G S):=by
 have q:=aB.mp hs;refine cB ((List.pairwise_lt_range.filter _).filter _) (j4.filter _) fun i=>?_;simp only[mem_filter,decide_eq_true_eq,bc,aL];constructor
 ·rintro⟨⟨hi,e⟩,h⟩;refine⟨?_,e⟩;have hN:=eM W hs;have ii:G.inverse i∈stay G S:=(cT W hs).mpr ⟨W.aV hi,fun t ht=>by
   have h1:=h t ht;rw[<-e]at h1;have lt:=q.2 t ht;have h2:=(aY W hS (W.lt _ _ lt (dB W hS hi)) (dB W hS hi)).mp (by rw[h1,e,e]);rw[e]at h2;have h3:=(m8 W hS hi (W.lt _ _ lt hi)).mp (h2.symm W hS (W.lt _ _ lt hi));unfold Group.turned;rw[W.inv_inv hi,W.assoc _ _ _ (W.aV hi) lt hi];exact h3⟩
  have:=hN.inv W ii;rwa [W.inv_inv hi]at this
 ·rintro⟨hi,e⟩;have hi':=(cT W hs).mp hi;have ii:=(cT W hs).mp ((eM W hs).inv W hi);refine⟨⟨hi'.1,e⟩,fun t ht=>?_⟩;have lt:=q.2 t ht;have h3:=ii.2 t ht;unfold Group.turned at h3;rw[W.inv_inv hi'.1,W.assoc _ _ _ (W.aV hi'.1) lt hi'.1]at h3;have h4:=(m8 W hS hi'.1 (W.lt _ _ lt hi'.1)).mpr h3;rw[<-(aY W hS hi'.1 (W.lt _ _ lt hi'.1)).mpr h4];exact e
theorem oj(W:WF G){p:Nat}(P:Pr p):∀(f k:Nat)(s:DW),isSet G s=true->Sub G s->s.length=p^k->k+f=6->Kc G p (widerFrom G p f s)
 |0,k,s,hs,hS,hl,hk=>by
  have h1:=sub_le hS (aR (aB.mp hs).1)
  have h2:2^6<=p^6:=Nat.pow_le_pow_left P.two 6
  have e:k=6:=by omega
  subst e
  rw[<-hl]at h2
  have:=W.le
  omega
 |f+1,k,s,hs,hS,hl,hk=>by
  have q:=aB.mp hs
  unfold widerFrom
  split
  ·next x e=>
   have h1:=List.find?_some e
   have hx:=List.mem_of_find?_eq_some e
   simp only[and_eq_true,not_eq_true',contains_iff_mem]at h1
   have lx:=(eM W hs).lt x hx
   have hn:x∉s:=by have:=h1.1;simpa using this
   have hp:powerOf G x p∈s:=by rw[<-qO W lx];exact h1.2
   have hu:∀y,y∈setOf G (fun(i:Nat)=>s.contains i||i==x)↔y∈s\/y=x:=fun y=>by
    rw[cW,or_eq_true,contains_iff_mem,beq_iff_eq]
    constructor
    ·rintro⟨_,h⟩;exact h
    ·intro h
     refine⟨?_,h⟩
     rcases h with h|h
     ·exact q.2 y h
     ·subst h;exact lx
   obtain⟨A,B,_⟩:=om W hs hS P hx hn hp hu
   refine oj W P f (k+1) _ (iE W fun y hy=>?_) A (by rw[B,hl,pow_succ,mul_comm]) (by omega)
   exact(cW.mp hy).1
  ·next e=>
   refine⟨hs,hS,⟨k,hl⟩,fun hd=>?_⟩
   have am:=qi W hS hS (aR q.1) P hl
   rw[sj W hs hS,mod_eq_zero_of_dvd hd]at am
   obtain⟨x,hx,hn,hp⟩:=CJ W hs hS P (dvd_of_mod_eq_zero am.symm)
   have:=List.find?_eq_none.mp e x hx
   apply this
   have lx:=(eM W hs).lt x hx
   simp[hn,qO W lx,hp]
theorem qz(W:WF G){p k:Nat}(P:Pr p)(Y:Kc G p S)(hT:Sub G T)(nT:T.Nodup)(hl:T.length=p^k):∃j,j<G.size/\∀t∈T,t∈turnedSet G S j:=by
 have am:=qi W Y.sub hT nT P hl;have ne:(cQ G S G.all).filter (fun i=>decide (∀t∈T,rep G S (G.times t i)=i))≠[]:=fun e=>by
  rw[e]at am;exact Y.top (dvd_of_mod_eq_zero (by simpa using am))
 obtain⟨i,hi⟩:=List.exists_mem_of_ne_nil _ ne;simp only[mem_filter,decide_eq_true_eq,bc,aL]at hi;obtain⟨⟨li,e⟩,h⟩:=hi;refine⟨i,li,fun t ht=>(bF W Y.sub.lt li).mpr ?_⟩;have lt:=hT.lt t ht;have h1:rep G S i=rep G S (G.times t i):=by rw[h t ht,e]
 have h3:=(m8 W Y.sub li (W.lt _ _ lt li)).mp ((aY W Y.sub li (W.lt _ _ lt li)).mp h1);refine⟨_,h3,?_⟩;have ii:=W.aV li;unfold Group.turned;rw[<-W.assoc _ _ _ li ii (W.lt _ _ lt li),W.cy li,W.a7 _ (W.lt _ _ lt li),W.assoc _ _ _ lt li ii,W.cy li,W.bS _ lt]
theorem ee(W:WF G)(hs:isSet G S=true){j:Nat}(hj:j<G.size):(turnedSet G S j).length=S.length:=by
 have q:=aB.mp hs;have nd:(S.map fun x=>G.turned x j).Nodup:=bY (aR q.1) _ fun a ha b hb e=>W.iU (q.2 a ha) (q.2 b hb) hj e;rw[fU (aR (bq j)) nd fun x=>?_,length_map];rw[bF W q.2 hj];simp[mem_map]
theorem iN(W:WF G)(hS:Sub G S){j:Nat}(hj:j<G.size):Sub G (turnedSet G S j):=by
 refine⟨fun x hx=>(cW.mp hx).1,(bF W hS.lt hj).mpr ⟨0,hS.one,W.gX hj⟩,fun x hx y hy=>?_⟩;obtain⟨a,ha,rfl⟩:=(bF W hS.lt hj).mp hx;obtain⟨b,hb,rfl⟩:=(bF W hS.lt hj).mp hy;exact(bF W hS.lt hj).mpr ⟨_,hS.mul a ha b hb,W.dX (hS.lt a ha) (hS.lt b hb) hj⟩
theorem iO(j:Nat):isSet G (turnedSet G S j)=true:=aB.mpr ⟨bq j,fun _ hx=>(cW.mp hx).1⟩
def num(s:DW):Nat:=s.foldl (fun(n i:Nat)=>n+2^i) 0
theorem gU{s t:DW}:belowNumber s t=true↔num s<num t:=by simp[belowNumber,num]
theorem lZ:∀(l:L4)(a:DW),let r:=l.foldl (fun(a b:DW)=>if belowNumber b a=true then b else a) a
  (r=a\/r∈l)/\num r<=num a/\∀b∈l,num r<=num b
 |[],a=>by simp
 |b::l,a=>by
  simp only[foldl_cons]
  have h:=lZ l (if belowNumber b a=true then b else a)
  simp only at h
  obtain⟨h1,h2,h3⟩:=h
  by_cases q:belowNumber b a=true
  ·rw[if_pos q]at *
   have:=gU.mp q
   refine⟨.inr ?_,by omega,fun c hc=>?_⟩
   ·rcases h1 with h1|h1
    ·rw[h1];exact mem_cons_self
    ·exact mem_cons_of_mem _ h1
   ·rcases Nf hc with z|z
    ·subst z;exact h2
    ·exact h3 c z
  ·rw[if_neg q]at *
   have:¬num b<num a:=fun z=>q (gU.mpr z)
   refine⟨?_,h2,fun c hc=>?_⟩
   ·rcases h1 with h1|h1
    ·exact .inl h1
    ·exact .inr (mem_cons_of_mem _ h1)
   ·rcases Nf hc with z|z
    ·subst z;omega
    ·exact h3 c z
theorem mE:∀(s:DW)(n:Nat),s.foldl (fun(n i:Nat)=>n+2^i) n=n+num s
 |[],n=>by simp[num]
 |a::s,n=>by
  unfold num
  simp only[foldl_cons]
  rw[mE s (n+2^a),mE s (0+2^a)];omega
theorem f9(a:Nat)(s:DW):num (a::s)=2^a+num s:=by
 show s.foldl _ (0+2^a)=_;rw[mE];omega
theorem mB:∀{s:DW}{a:Nat},(∀x∈s,a<x)->∃c,num s=2^(a+1)*c
 |[],a,_=>⟨0,rfl⟩
 |b::s,a,h=>by
  obtain⟨c,e⟩:=mB (s:=s) (a:=a) fun x hx=>h x (mem_cons_of_mem _ hx)
  have hb:=h b mem_cons_self
  refine⟨2^(b-(a+1))+c,?_⟩
  rw[f9,e,Nat.mul_add,<-pow_add,show a+1+(b-(a+1))=b by omega]
theorem vi:∀{s t:DW},s.Pairwise (·<·)->t.Pairwise (·<·)->num s=num t->s=t
 |[],[],_,_,_=>rfl
 |[],b::t,_,_,e=>by
  rw[f9]at e
  have:=two_pow_pos b
  rw[show num []=0 from rfl]at e;omega
 |a::s,[],_,_,e=>by
  rw[f9]at e
  have:=two_pow_pos a
  rw[show num []=0 from rfl]at e;omega
 |a::s,b::t,hs,ht,e=>by
  have hs':=List.pairwise_cons.mp hs
  have ht':=List.pairwise_cons.mp ht
  obtain⟨c,ec⟩:=mB hs'.1
  obtain⟨d,ed⟩:=mB ht'.1
  have key:∀{a b c d:Nat},a<b->2^a+2^(a+1)*c=2^b+2^(b+1)*d->False:=by
   intro a b c d hab e
   have h1:2^b=2^(a+1)*2^(b-(a+1)):=by rw[<-pow_add,show a+1+(b-(a+1))=b by omega]
   have h2:2^(b+1)=2^(a+1)*2^(b-a):=by rw[<-pow_add,show a+1+(b-a)=b+1 by omega]
   rw[h1,h2,mul_assoc,<-Nat.mul_add]at e
   have h3:=congrArg (·%2^(a+1)) e
   simp only[Nat.add_mul_mod_self_left,Nat.mul_mod_right]at h3
   have h4:2^a<2^(a+1):=Nat.pow_lt_pow_right (by omega) (by omega)
   rw[mod_eq_of_lt h4]at h3
   have:=two_pow_pos a
   omega
  rw[f9,f9]at e
  have hab:a=b:=by
   rcases lt_trichotomy a b with h|h|h
   ·rw[ec,ed]at e;exact(key h e).elim
   ·exact h
   ·rw[ec,ed]at e;exact(key h e.symm).elim
  subst hab
  rw[vi hs'.2 ht'.2 (by omega)]
theorem lX(W:WF G){p:Nat}(P:Pr p):Kc G p (prime G p)/\∀T,isSet G T=true->Sub G T->T.length=(prime G p).length->num (prime G p)<=num T:=by
 have z:isSet G [0]=true:=aB.mpr ⟨by simp,by intro i hi;simp at hi;subst hi;exact W.pos⟩;have z':Sub G [0]:=⟨by intro i hi;simp at hi;subst hi;exact W.pos,by simp,by intro x hx y hy;simp at hx hy;subst hx;subst hy;rw[W.a7 0 W.pos];simp⟩;have Y:=oj W P 6 0 [0] z z' (by simp) (by omega);generalize hS:widerFrom G p 6 [0]=S at Y;have h:=lZ (G.all.map (turnedSet G S)) S;simp only at h;have e:prime G p=(G.all.map (turnedSet G S)).foldl (fun(a b:DW)=>if belowNumber b a=true then b else a) S:=by
  rw[<-hS];rfl
 rw[<-e]at h;obtain⟨h1,h2,h3⟩:=h;obtain⟨k,hk⟩:=Y.pow;have len:(prime G p).length=S.length:=by
  rcases h1 with q|q
  ·rw[q]
  ·obtain⟨j,hj,q⟩:=Ng q;rw[<-q];exact ee W Y.set (aL.mp hj)
 have st:isSet G (prime G p)=true:=by
  rcases h1 with q|q
  ·rw[q];exact Y.set
  ·obtain⟨j,hj,q⟩:=Ng q;rw[<-q];exact iO j
 have sb:Sub G (prime G p):=by
  rcases h1 with q|q
  ·rw[q];exact Y.sub
  ·obtain⟨j,hj,q⟩:=Ng q;rw[<-q];exact iN W Y.sub (aL.mp hj)
 have lag:∀{A:DW},isSet G A=true->Sub G A->G.size=(cQ G A G.all).length*A.length:=fun hA sA=>by
  have:=eW W sA (aR (aB.mp hA).1) (jF W) nj (fun x hx=>aL.mpr (sA.lt x hx));rwa [fm]at this
 refine⟨⟨st,sb,⟨k,by rw[len,hk]⟩,?_⟩,fun T hT sT hl=>?_⟩
 ·have l1:=lag Y.set Y.sub;have l2:=lag st sb;rw[len,l1]at l2;have:=Nat.eq_of_mul_eq_mul_right (length_pos_of_mem Y.sub.one) l2;rw[<-this];exact Y.top
 ·obtain⟨j,hj,hsub⟩:=qz W P Y sT (aR (aB.mp hT).1) (by rw[hl,len,hk]);have:T=turnedSet G S j:=by
   refine cB (aB.mp hT).1 (bq j) fun x=>⟨hsub x,?_⟩;exact jh (aR (aB.mp hT).1) hsub (by rw[ee W Y.set hj,hl,len];omega) x
  rw[this];exact h3 _ (List.mem_map.mpr ⟨j,aL.mpr hj,rfl⟩)
theorem tR(W:WF G){p:Nat}(P:Pr p){R:DW}(hR:isSet G R=true)(sR:Sub G R)(hl:R.length=(prime G p).length)(hm:∀T,isSet G T=true->Sub G T->T.length=R.length->num R<=num T):R=prime G p:=by
 obtain⟨Y,h⟩:=lX W P;refine vi (aB.mp hR).1 (aB.mp Y.set).1 (Nat.le_antisymm (hm _ Y.set Y.sub hl.symm) (h _ hR sR hl))
end
section
variable{mul:DW->DW->DW}{one:DW}{P:DW->Prop}{gens:L4}
theorem pL(l:Met):(nm l).length=l.length:=by simp[nm]
theorem vC(O:Op mul one P)(hg:∀g∈gens,P g){U:L4}(hU:∀x,P x->x∈U){most:Nat}(hm:U.length<=most):∀(f k:Nat)(l:Met),dU mul one gens l->k<=l.length->most<k+f->(growFrom mul gens most f k l).isSome=true
 |0,k,l,G,hk,hf=>by
  have h1:=sub_len G.nd (l:=U) fun x hx=>hU x (iH O hg G x hx)
  rw[pL]at h1;omega
 |f+1,k,l,G,hk,hf=>by
  unfold growFrom
  split
  ·rfl
  ·next x e=>
   have W:=G.word x (mem_of_getElem? e)
   have F:=gM (mul:=mul) (one:=one) (gens:=gens) (x:=x) gens.zipIdx l G W.1 W.2 (fun g hg=>by
    have:=List.mem_zipIdx hg;simp at this;rw[getElem?_eq_getElem (by omega)];simp[this.2])
   simp only at F ⊢
   obtain⟨A,⟨rr,B⟩,_⟩:=F
   have h1:=sub_len A.nd (l:=U) fun x hx=>hU x (iH O hg A x hx)
   rw[pL]at h1
   have hk':k<l.length:=(Nd e).1
   rw[if_neg (Nat.not_lt.mpr (le_trans h1 hm))]
   refine vC O hg hU hm f (k+1) _ A ?_ (by omega)
   rw[B,length_append];omega
theorem B9(O:Op mul one P)(hg:∀g∈gens,P g){U:L4}(hU:∀x,P x->x∈U)(hm:U.length<=60):∃G,made mul one gens=some G:=by
 have h:=vC O hg hU (most:=MOST) hm (MOST+2) 0 [(one,[])] e6 (zero_le _) (show 60<0+(60+2)by decide);obtain⟨l,e⟩:=Option.isSome_iff_exists.mp h;exact⟨cb mul gens l,by rw[k8,e];rfl⟩
end
section
variable{G H:Group}
theorem jP(W:WF G){s:DW}(N:Norm G s):∃K,over G s=some K:=by
 rw[k7 W];refine B9 (vg W N) (fe W) (U:=G.all.map fun i=>[rep G s i]) ?_ (by rw[length_map,fm];exact W.le);rintro x ⟨i,hi,rfl⟩;exact List.mem_map.mpr ⟨i,aL.mpr hi,rfl⟩
theorem jH(W:WF G){i:Nat}(hi:i<G.size):∃w,G.words[i]?=some w/\Vg02.leads G G.gens w=i/\∀k∈w,k<G.gens.length:=by
 have h:i<G.words.length:=by rw[W.mw];exact hi
 exact⟨_,getElem?_eq_getElem h,W.word i _ (getElem?_eq_getElem h)⟩
end
def rowAt(n:Nat)(l:DW)(i:Nat):DW:=(l.drop (i*n)).take n
theorem iu{n:Nat}:∀{r:L4},(∀x∈r,x.length=n)->r.flatten.length=r.length*n
 |[],_=>by simp
 |a::r,h=>by
  rw[flatten_cons,length_append,h a mem_cons_self,iu fun x hx=>h x (mem_cons_of_mem _ hx),length_cons,add_mul];omega
theorem si{n:Nat}:∀{r:L4}{i:Nat}{x:DW},(∀x∈r,x.length=n)->r[i]?=some x->rowAt n r.flatten i=x
 |[],_,_,_,h=>by simp at h
 |a::r,0,x,hl,h=>by
  have e:a=x:=Nc h
  subst e
  have la:=hl a mem_cons_self
  simp[rowAt,flatten_cons,<-la]
 |a::r,i+1,x,hl,h=>by
  have la:=hl a mem_cons_self
  have ih:=si (r:=r) (i:=i) (fun x hx=>hl x (mem_cons_of_mem _ hx)) (by simpa using h)
  unfold rowAt at ih ⊢
  rw[flatten_cons,show(i+1)*n=a.length+i*n by rw[la,add_mul];omega,List.drop_append,drop_eq_nil_of_le (by omega),nil_append,show a.length+i*n-a.length=i*n by omega,ih]
theorem vQ{n:Nat}(hn:0<n):∀(t f:Nat)(l:DW),l.length=t*n->t<=f->cut n f l=some ((range t).map (rowAt n l))
 |0,f,l,h,_=>by
  have:l=[]:=List.eq_nil_of_length_eq_zero (by simpa using h)
  subst this;cases f<;>simp[cut]
 |t+1,0,l,h,hf=>by omega
 |t+1,f+1,l,h,hf=>by
  have hl:n<=l.length:=by rw[h,add_mul];omega
  cases l with
  |nil=>simp at hl;omega
  |cons a l'=>
   unfold cut
   rw[if_neg (by omega),vQ hn t f ((a::l').drop n) (by rw[length_drop,h,add_mul];omega) (by omega)]
   simp only[Option.map_some,Option.some.injEq]
   rw[List.range_succ_eq_map,map_cons,map_map]
   have e0:rowAt n (a::l') 0=(a::l').take n:=by simp[rowAt]
   rw[e0]
   refine congrArg _ (map_congr_left fun i _=>?_)
   simp only[rowAt,Function.comp,List.drop_drop]
   rw[show n+i*n=(i+1)*n by rw[add_mul];omega]
def turnsOf(n:Nat)(l:DW):Nat:=(l.length+n-1)/n
theorem qr{n t:Nat}(hn:0<n){l:DW}(h:l.length=t*n):turnsOf n l=t:=by
 unfold turnsOf;rw[h,show t*n+n-1=(n-1)+n*t by rw[mul_comm];omega,Nat.add_mul_div_left _ _ hn,Nat.div_eq_of_lt (by omega)];omega
theorem ji{n:Nat}(hn:0<n){l:DW}{r:List Shuffle}(h:shuffles n l=some r):l.length=r.length*n/\r.length<=4/\(∀i x,r[i]?=some x->rowAt n l i=x)/\∀x∈r,isShuffle n x=true:=by
 unfold shuffles at h;split at h
 ·cases h
 ·next r' e=>
  split at h
  ·next hc=>
   cases h;obtain⟨h1,h2⟩:=su _ _ _ e;refine⟨by rw[<-h1,iu h2],hc.1,fun i x hi=>by rw[<-h1];exact si h2 hi,fun x hx=>List.all_eq_true.mp hc.2 x hx⟩
  ·cases h
theorem nL{n:Nat}(hn:0<n){l:DW}(h:4*n<l.length):shuffles n l=none:=by
 cases e:shuffles n l with
 |none=>rfl
 |some r=>
  obtain⟨h1,h2,_⟩:=ji hn e;have:=mul_le_mul_right n h2;omega
theorem pz{n i:Nat}(hn:0<n){l:DW}(hi:i<turnsOf n l)(h:isShuffle n (rowAt n l i)=false):shuffles n l=none:=by
 cases e:shuffles n l with
 |none=>rfl
 |some r=>
  obtain⟨h1,h2,h3,h4⟩:=ji hn e;rw[qr hn h1]at hi;have:=h4 _ (getElem_mem hi);rw[<-h3 i _ (getElem?_eq_getElem hi),h]at this;cases this
theorem nM{n:Nat}(hn:0<n){l:DW}(hl:l.length<=4*n)(h:∀i,i<turnsOf n l->isShuffle n (rowAt n l i)=true):shuffles n l=some ((range (turnsOf n l)).map (rowAt n l)):=by
 have hr:∀i,i<turnsOf n l->(rowAt n l i).length=n:=fun i hi=>(fG.mp (h i hi)).len;have hlen:l.length=turnsOf n l*n:=by
  have hd:=div_add_mod (l.length+n-1) n;have hm:=mod_lt (l.length+n-1) hn;have e:turnsOf n l=(l.length+n-1)/n:=rfl;rw[<-e]at hd;rw[mul_comm]at hd;by_cases ht:turnsOf n l=0
  ·rw[ht]at hd ⊢;omega
  ·have:=hr (turnsOf n l-1) (by omega);unfold rowAt at this;rw[length_take,length_drop]at this;have e2:turnsOf n l*n=(turnsOf n l-1)*n+n:=by
    conv=>lhs;rw[show turnsOf n l=(turnsOf n l-1)+1 by omega,add_mul,one_mul]
   omega
 have ht:turnsOf n l<=4:=by
  apply byContradiction;intro q;have:=mul_le_mul_right n (show 5<=turnsOf n l by omega);omega
 unfold shuffles;rw[vQ hn (turnsOf n l) (GENS+1) l hlen (show _<=5 by omega)];simp only;rw[if_pos];refine⟨by rw[length_map,length_range];exact ht,List.all_eq_true.mpr fun x hx=>?_⟩;obtain⟨i,hi,rfl⟩:=Ng hx;exact h i (by simpa using hi)
theorem lO{n:Nat}{r:DW}{ns:List Int}(hp:ns.Perm (r.map fun(x:Nat)=>(x:Int)))(hs:ns.Pairwise (·<=·)):decide (ns=(range n).map fun(x:Nat)=>(x:Int))=isShuffle n r:=by
 refine Bool.eq_iff_iff.mpr ?_;rw[decide_eq_true_iff,fG];constructor
 ·intro e;refine⟨?_,fun i hi=>?_⟩
  ·have:=hp.length_eq;rw[e]at this;simpa using this.symm
  ·have:(i:Int)∈ns:=by rw[e];exact List.mem_map.mpr ⟨i,by simpa using hi,rfl⟩
   obtain⟨x,hx,ex⟩:=Ng (hp.mem_iff.mp this);have:x=i:=by omega
   subst this;exact hx
 ·intro S;have nd:ns.Nodup:=hp.nodup_iff.mpr (bY S.nd _ fun a _ b _ e=>by omega);have hpos:∀z∈ns,∃k:Nat,z=k/\k<n:=fun z hz=>by
   obtain⟨x,hx,rfl⟩:=Ng (hp.mem_iff.mp hz);exact⟨x,rfl,S.lt x hx⟩
  have e1:ns=(ns.map toNat).map fun(x:Nat)=>(x:Int):=by
   rw[map_map]
   conv=>lhs;rw[<-map_id ns]
   refine map_congr_left fun z hz=>?_;obtain⟨k,rfl,_⟩:=hpos z hz;simp
  have lt:(ns.map toNat).Pairwise (·<·):=by
   refine List.pairwise_map.mpr ?_;refine List.Pairwise.imp_of_mem ?_ (hs.and nd);rintro a b ha hb ⟨h1,h2⟩;obtain⟨x,rfl,_⟩:=hpos a ha;obtain⟨y,rfl,_⟩:=hpos b hb;have h1':(x:Int)<=y:=h1;have h2':(x:Int)≠y:=h2;simp;omega
  rw[e1];refine congrArg _ (cB lt List.pairwise_lt_range fun k=>?_);constructor
  ·intro hk;obtain⟨z,hz,rfl⟩:=Ng hk;obtain⟨k',rfl,hk'⟩:=hpos z hz;simpa using hk'
  ·intro hk;have hk':k<n:=by simpa using hk
   refine List.mem_map.mpr ⟨k,hp.mem_iff.mpr (List.mem_map.mpr ⟨k,S.has k hk',rfl⟩),by simp⟩
abbrev ii(l:DW):List Int:=l.map fun(x:Nat)=>(x:Int)
theorem iC{ns:List Int}{l m:DW}(hp:ns.Perm (ii l))(hs:ns.Pairwise (·<=·))(nd:l.Nodup)(hm:m.Pairwise (·<·))(h:∀x,x∈l↔x∈m):ns=ii m:=by
 have ndn:ns.Nodup:=hp.nodup_iff.mpr (bY nd _ fun a _ b _ e=>by omega);have hpos:∀z∈ns,∃k:Nat,z=k/\k∈l:=fun z hz=>by
  obtain⟨x,hx,rfl⟩:=Ng (hp.mem_iff.mp hz);exact⟨x,rfl,hx⟩
 have e1:ns=ii (ns.map toNat):=by
  show ns=(ns.map toNat).map fun(x:Nat)=>(x:Int);rw[map_map]
  conv=>lhs;rw[<-map_id ns]
  refine map_congr_left fun z hz=>?_;obtain⟨k,rfl,_⟩:=hpos z hz;simp
 have lt:(ns.map toNat).Pairwise (·<·):=by
  refine List.pairwise_map.mpr ?_;refine List.Pairwise.imp_of_mem ?_ (hs.and ndn);rintro a b ha hb ⟨h1,h2⟩;obtain⟨x,rfl,_⟩:=hpos a ha;obtain⟨y,rfl,_⟩:=hpos b hb;have h1':(x:Int)<=y:=h1;have h2':(x:Int)≠y:=h2;simp;omega
 rw[e1];refine congrArg _ (cB lt hm fun k=>?_);rw[<-h];constructor
 ·intro hk;obtain⟨z,hz,rfl⟩:=Ng hk;obtain⟨k',rfl,hk'⟩:=hpos z hz;simpa using hk'
 ·intro hk;exact List.mem_map.mpr ⟨k,hp.mem_iff.mpr (List.mem_map.mpr ⟨k,hk,rfl⟩),by simp⟩
theorem aI{α:Type}{l:List α}{i:Nat}{x:α}(h:l[i]?=some x):l.take (i+1)=l.take i++[x]:=by rw[take_add_one,h];rfl
theorem nF(G:Group)(g:DW)(y x:Nat)(l:DW):br G (g++[y]) x l=if(br G g x l).contains (G.times x y)=true then br G g x l else br G g x l++[G.times x y]:=by
 simp[br,foldl_append]
theorem oO{G:Group}{s:DW}{t x:Nat}(hx:s[t]?=some x)(h:G.size<=x\/∃y∈s.take t,x<=y):isSet G s=false:=by
 apply Bool.eq_false_iff.mpr;intro q;obtain⟨h1,h2⟩:=aB.mp q;rcases h with h|⟨y,hy,h⟩
 ·have:=h2 x (mem_of_getElem? hx);omega
 ·have e:s=s.take t++s.drop t:=(take_append_drop t s).symm;rw[e]at h1;have hd:x∈s.drop t:=by
   have:(s.drop t)[0]?=some x:=by rw[List.getElem?_drop];simpa using hx
   exact mem_of_getElem? this
  have:=(List.pairwise_append.mp h1).2.2 y hy x hd;omega
theorem ph{G:Group}(W:WF G){g l:DW}(hg:∀y∈g,y<G.size)(S:uD G g l):l.length<=G.size:=by
 have:=sub_len S.nd (l:=range G.size) fun x hx=>by simp[(S.reach x hx).lt W hg]
 simpa using this
theorem wo{G:Group}(W:WF G){g l:DW}(hg:∀y∈g,y<G.size)(S:uD G g l)(C:∀(j:Nat)x,j<l.length->l[j]?=some x->∀y∈g,G.times x y∈l):∀x,x∈l↔x∈least G g:=fun x=>by
 rw[cx W hg]
 refine⟨S.reach x,fun h=>h.least (S:=fun x=>x∈l) (mem_of_getElem? S.first) fun z y hz hy=>?_⟩
 obtain⟨j,hj⟩:=getElem?_of_mem hz
 exact C j z (Nd hj).1 hj y hy
def dz(mul:DW->DW->DW)(gens:L4)(x:DW×DW)(t:Nat)(l:Met):Met:=(gens.zipIdx.take t).foldl (fun(m:Met)(g:DW×Nat)=>meets m (mul x.1 g.1) (x.2++[g.2])) l
section
variable{mul:DW->DW->DW}{one:DW}{gens:L4}
theorem zip_get{t:Nat}{g:DW}(h:gens[t]?=some g):gens.zipIdx[t]?=some (g,t):=by
 rw[List.getElem?_zipIdx,h];simp
theorem ui{x:DW×DW}{t:Nat}{g:DW}(h:gens[t]?=some g)(l:Met):dz mul gens x (t+1) l=meets (dz mul gens x t l) (mul x.1 g) (x.2++[t]):=by
 unfold dz;rw[aI (zip_get h),foldl_append];rfl
theorem uI{g:DW×Nat}(h:g∈gens.zipIdx):gens[g.2]?=some g.1:=by
 obtain⟨i,hi,e⟩:=getElem_of_mem h;rw[List.getElem_zipIdx]at e;subst e;simp at hi ⊢
theorem mY{x:DW×DW}{l:Met}(t:Nat)(G:dU mul one gens l)(hx:x∈l):dU mul one gens (dz mul gens x t l)/\∃r,dz mul gens x t l=l++r:=by
 have h:=G.word x hx;have:=gM (mul:=mul) (one:=one) (gens:=gens) (x:=x) (gens.zipIdx.take t) l G h.1 h.2 (fun g hg=>uI (mem_of_mem_take hg));exact⟨this.1,this.2.1⟩
theorem r6(x:DW×DW):∀(gs:List (DW×Nat))(l:Met),∃r,gs.foldl (fun(m:Met)(g:DW×Nat)=>meets m (mul x.1 g.1) (x.2++[g.2])) l=l++r
 |[],l=>⟨[],by simp⟩
 |g::gs,l=>by
  obtain⟨r0,e0⟩:=jS (l:=l) (x:=mul x.1 g.1) (w:=x.2++[g.2])
  obtain⟨r,e⟩:=r6 x gs (meets l (mul x.1 g.1) (x.2++[g.2]))
  exact⟨r0++r,by rw[foldl_cons,e,e0,append_assoc]⟩
theorem uj{x:DW×DW}{l:Met}(t:Nat):(dz mul gens x t l).length<=(dz mul gens x gens.length l).length:=by
 unfold dz;have e:gens.zipIdx.take gens.length=gens.zipIdx:=take_of_length_le (by simp);rw[e]
 conv=>rhs;rw[<-take_append_drop t gens.zipIdx,foldl_append]
 obtain⟨r,e2⟩:=r6 (mul:=mul) x (gens.zipIdx.drop t) ((gens.zipIdx.take t).foldl (fun(m:Met)(g:DW×Nat)=>meets m (mul x.1 g.1) (x.2++[g.2])) l);rw[e2,length_append];omega
theorem oP{most f k:Nat}{l:Met}{x:DW×DW}(h:l[k]?=some x):growFrom mul gens most (f+1) k l=if most<(dz mul gens x gens.length l).length then none else growFrom mul gens most f (k+1) (dz mul gens x gens.length l):=by
 have e:gens.zipIdx.take gens.length=gens.zipIdx:=take_of_length_le (by simp);unfold dz;rw[e]
 conv=>lhs;unfold growFrom
 rw[h]
theorem rY{most f k:Nat}{l:Met}(h:l.length<=k):growFrom mul gens most (f+1) k l=some l:=by
 unfold growFrom;rw[getElem?_eq_none h]
theorem wM{l:Met}{x w:DW}(h:x∉nm l):meets l x w=l++[(x,w)]:=by
 unfold meets;rw[if_neg fun q=>h (lE.mp q)]
theorem wL{l:Met}{x w:DW}(h:x∈nm l):meets l x w=l:=by
 unfold meets;rw[if_pos (lE.mpr h)]
def Short(l:Met):Prop:=∀p∈l,p.2.length<l.length
theorem rH{l:Met}{y w:DW}{t:Nat}(h:Short l)(hw:w.length<l.length):Short (meets l y (w++[t]))/\l.length<=(meets l y (w++[t])).length:=by
 unfold meets;split
 ·exact⟨h,le_refl _⟩
 ·refine⟨fun p hp=>?_,by simp⟩;rw[length_append];rcases Nj hp with q|q
  ·have:=h p q;simp;omega
  ·simp at q;subst q;simp;omega
theorem mX{x:DW×DW}:∀(gs:List (DW×Nat))(l:Met),Short l->x.2.length<l.length->Short (gs.foldl (fun(m:Met)(g:DW×Nat)=>meets m (mul x.1 g.1) (x.2++[g.2])) l)
 |[],l,h,_=>h
 |g::gs,l,h,hx=>by
  obtain⟨h1,h2⟩:=rH (y:=mul x.1 g.1) (t:=g.2) h hx
  exact mX gs _ h1 (lt_of_lt_of_le hx h2)
theorem sf{x:DW×DW}{l:Met}(t:Nat)(h:Short l)(hx:x∈l):Short (dz mul gens x t l):=mX _ l h (h x hx)
theorem mV(l:Met):(cb mul gens l).gens=gens.map (nm l).idxOf:=rfl
theorem Al(l:Met):(cb mul gens l).size=(nm l).length:=rfl
theorem Cg(l:Met):((cb mul gens l).all.map fun i=>(cb mul gens l).all.map fun j=>(cb mul gens l).times i j)=(nm l).map fun a=>(nm l).map fun b=>(nm l).idxOf (mul a b):=by
 unfold Group.all;rw[Al];refine ext_getElem (by simp) fun i h1 h2=>?_;simp only[getElem_map,List.getElem_range];refine ext_getElem (by simp) fun j h3 h4=>?_;simp only[getElem_map,List.getElem_range];exact iG (getElem?_eq_getElem (by simpa using h2)) (getElem?_eq_getElem (by simpa using h4))
theorem ka{Pd:DW->Prop}(O:Op mul one Pd)(hg:∀g∈gens,Pd g){l:Met}(h:growFrom mul gens MOST (MOST+2) 0 [(one,[])]=some l):WF (cb mul gens l)/\dU mul one gens l/\(∀x∈nm l,∀y∈nm l,mul x y∈nm l)/\(∀x∈nm l,Pd x)/\(∀g∈gens,g∈nm l)/\l.length<=60:=by
 have q:=jV (MOST+2) 0 _ l (e6 (mul:=mul) (one:=one) (gens:=gens)) (fun j x hj=>by omega) (show 1<=60 by decide) h;refine⟨Ak O hg q.1 q.2.1 q.2.2,q.1,fun x hx y hy=>ng O hg q.1 q.2.1 hx hy,iH O hg q.1,fun g hg'=>?_,q.2.2⟩;have h0:(nm l)[0]?=some one:=by unfold nm;rw[getElem?_map,q.1.first];rfl
 have l0:0<l.length:=(Nd q.1.first).1;have:=q.2.1 0 one l0 h0 g hg';rwa [O.a7 g (hg g hg')]at this
end
variable{G H:Group}
theorem wC(W:WF G)(V:WF H){l:Met}(R:dU (dD G H) (pr H 0 0) ((G.gens.map fun i=>pr H i 0)++H.gens.map fun j=>pr H 0 j) l)(C:jf (dD G H) ((G.gens.map fun i=>pr H i 0)++H.gens.map fun j=>pr H 0 j) l l.length):∀x y,x<G.size->y<H.size->pr H x y∈nm l:=by
 have step:∀a,a∈nm l->∀g∈(G.gens.map fun i=>pr H i 0)++H.gens.map fun j=>pr H 0 j,dD G H a g∈nm l:=fun a ha g hg=>by
  obtain⟨j,hj,e⟩:=getElem_of_mem ha;exact C j a (by simpa[nm]using hj) (by rw[getElem?_eq_getElem hj,e]) g hg
 have h0:pr H 0 0∈nm l:=by
  have:=R.first;exact List.mem_map.mpr ⟨_,mem_of_getElem? this,rfl⟩
 have left:∀w:DW,(∀k∈w,k<G.gens.length)->∀x,x<G.size->pr H x 0∈nm l->pr H (w.foldl (fun(x k:Nat)=>G.times x (G.gens.getD k 0)) x) 0∈nm l:=by
  intro w
  induction w with
  |nil=>intro _ x _ h;exact h
  |cons k w ih=>
   intro hk x hx h;have hkl:=hk k mem_cons_self;have hm:G.gens.getD k 0∈G.gens:=by rw[getD_eq_getElem?_getD,getElem?_eq_getElem hkl];exact getElem_mem hkl
   have lg:=W.dJ _ hm;refine ih (fun k' h'=>hk k' (mem_cons_of_mem _ h')) _ (W.lt _ _ hx lg) ?_;have:=step _ h (pr H (G.gens.getD k 0) 0) (List.mem_append.mpr (.inl (List.mem_map.mpr ⟨_,hm,rfl⟩)));rwa [bQ V.pos V.pos,V.a7 0 V.pos]at this
 have right:∀w:DW,(∀k∈w,k<H.gens.length)->∀x y,x<G.size->y<H.size->pr H x y∈nm l->pr H x (w.foldl (fun(x k:Nat)=>H.times x (H.gens.getD k 0)) y)∈nm l:=by
  intro w
  induction w with
  |nil=>intro _ x y _ _ h;exact h
  |cons k w ih=>
   intro hk x y hx hy h;have hkl:=hk k mem_cons_self;have hm:H.gens.getD k 0∈H.gens:=by rw[getD_eq_getElem?_getD,getElem?_eq_getElem hkl];exact getElem_mem hkl
   have lg:=V.dJ _ hm;refine ih (fun k' h'=>hk k' (mem_cons_of_mem _ h')) _ _ hx (V.lt _ _ hy lg) ?_;have:=step _ h (pr H 0 (H.gens.getD k 0)) (List.mem_append.mpr (.inr (List.mem_map.mpr ⟨_,hm,rfl⟩)));rwa [bQ hy lg,W.bS x hx]at this
 intro x y hx hy;obtain⟨w,_,e,hw⟩:=jH W hx;obtain⟨w',_,e',hw'⟩:=jH V hy;have h1:=left w hw 0 W.pos h0;have e1:w.foldl (fun(x k:Nat)=>G.times x (G.gens.getD k 0)) 0=x:=e;rw[e1]at h1;have h2:=right w' hw' x 0 hx V.pos h1;have e2:w'.foldl (fun(x k:Nat)=>H.times x (H.gens.getD k 0)) 0=y:=e';rwa [e2]at h2
theorem wB(W:WF G)(V:WF H)(h:60<G.size*H.size):made (dD G H) (pr H 0 0) ((G.gens.map fun i=>pr H i 0)++H.gens.map fun j=>pr H 0 j)=none:=by
 cases e:made (dD G H) (pr H 0 0) ((G.gens.map fun i=>pr H i 0)++H.gens.map fun j=>pr H 0 j)with
 |none=>rfl
 |some K=>
  obtain⟨_,l,_,R,C,hl⟩:=oK (vc W V) (jm W V) e;have all:=wC W V R C;have nd:((range (G.size*H.size)).map fun n=>([n]:DW)).Nodup:=bY nodup_range _ fun x _ y _ e=>by simpa using e
  have sub:=sub_len nd (l:=nm l) fun x hx=>by
   obtain⟨n,hn,rfl⟩:=Ng hx;have hn':n<G.size*H.size:=by simpa using hn
   have:=all (n/H.size) (n%H.size) ((Nat.div_lt_iff_lt_mul V.pos).mpr hn') (mod_lt _ V.pos);unfold pr at this;rwa [mul_comm,div_add_mod]at this
  rw[pL]at sub;simp at sub;omega
theorem me(W:WF G)(V:WF H)(h:G.gens.length+H.gens.length<=4):pairs G H=made (dD G H) (pr H 0 0) ((G.gens.map fun i=>pr H i 0)++H.gens.map fun j=>pr H 0 j):=by
 rw[zd];by_cases hb:60<G.size*H.size
 ·rw[if_pos (.inr hb),wB W V hb]
 ·rw[if_neg];rintro(q|q)
  ·have:4<G.gens.length+H.gens.length:=q;omega
  ·exact hb q
section
variable{G:Group}
structure Top(p n m:Nat):Prop where
 ex:∃k,m=p^k
 dvd:m∣n
 top:¬m*p∣n
structure iB(G:Group)(m t:Nat)(S:DW):Prop where
 set:isSet G S=true
 sub:Sub G S
 dvd:S.length∣m
 no:∀i,i<t->i∉S->¬(least G (S++[i])).length∣m
theorem kQ{S:DW}{i:Nat}(hs:isSet G S=true)(hi:i<G.size):∀y∈S++[i],y<G.size:=fun y hy=>by
 rcases Nj hy with q|q
 ·exact(aB.mp hs).2 y q
 ·rw[List.mem_singleton.mp q];exact hi
theorem pW(W:WF G)(m:Nat):iB G m 0 [0]:=by
 refine⟨aB.mpr ⟨by simp,by simpa using W.pos⟩,⟨by simpa using W.pos,by simp,by simp[W.a7 0 W.pos]⟩,Nat.one_dvd _,fun i hi=>by omega⟩
theorem ue(W:WF G){m t:Nat}{S:DW}(g:iB G m t S)(ht:t<G.size)(h:(least G (S++[t])).length∣m):iB G m (t+1) (least G (S++[t])):=by
 have hl:=kQ g.set ht;have sub:∀y∈S,y∈least G (S++[t]):=fun y hy=>cG W hl y (mem_append_left _ hy);have st:isSet G (least G (S++[t]))=true:=iE W hl;refine⟨st,bZ W hl,h,fun i hi hn hd=>?_⟩;by_cases e:i=t
 ·subst e;exact hn (cG W hl i (by simp))
 ·have li:i<G.size:=by omega
  have hn':i∉S:=fun q=>hn (sub i q);refine g.no i (by omega) hn' ?_;have h1:=kQ g.set li;have h2:=kQ st li;have inc:∀y∈least G (S++[i]),y∈least G (least G (S++[t])++[i]):=iF W h1 (bZ W h2) fun y hy=>by
   rcases Nj hy with q|q
   ·exact cG W h2 y (mem_append_left _ (sub y q))
   ·exact cG W h2 y (mem_append_right _ q)
  have L:=eW W (bZ W h1) (aR (bp _)) (bZ W h2) (aR (bp _)) inc;exact dvd_trans ⟨_,by rw[L,mul_comm]⟩ hd
theorem xf(W:WF G){m t:Nat}{S:DW}(g:iB G m t S)(h:¬(least G (S++[t])).length∣m):iB G m (t+1) S:=by
 refine⟨g.set,g.sub,g.dvd,fun i hi hn=>?_⟩;by_cases e:i=t
 ·subst e;exact h
 ·exact g.no i (by omega) hn
theorem nR{p:Nat}(P:Pr p){d k:Nat}(h:d∣p^k):∃j,j<=k/\d=p^j:=by
 induction k generalizing d with
 |zero=>exact⟨0,le_refl _,Nat.eq_one_of_dvd_one (by simpa using h)⟩
 |succ k ih=>
  by_cases hp:p∣d
  ·obtain⟨c,rfl⟩:=hp;have h2:c∣p^k:=by
    rw[pow_succ,mul_comm (p^k) p]at h;exact Nat.dvd_of_mul_dvd_mul_left (by have:=P.two;omega) h
   obtain⟨j,hj,e⟩:=ih h2;exact⟨j+1,by omega,by rw[e,pow_succ,mul_comm]⟩
  ·rcases P.dvd_pow (k+1) h with q|q
   ·exact⟨0,zero_le _,by simpa using q⟩
   ·exact absurd q hp
theorem uf(W:WF G){p m:Nat}(P:Pr p)(T:Top p G.size m){S:DW}(g:iB G m G.size S):Kc G p S/\S.length=m:=by
 obtain⟨k,hk⟩:=T.ex;obtain⟨j,hj,hl⟩:=nR P (by rw[<-hk];exact g.dvd);have nS:=aR (aB.mp g.set).1;have L:=eW W g.sub nS (jF W) nj (fun x hx=>aL.mpr (g.sub.lt x hx));rw[fm]at L;have top:¬p∣(cQ G S G.all).length:=fun hd=>by
  have am:=qi W g.sub g.sub nS P hl;rw[sj W g.set g.sub,mod_eq_zero_of_dvd hd]at am;obtain⟨x,hx,hn,hp⟩:=CJ W g.set g.sub P (dvd_of_mod_eq_zero am.symm);have lx:=(eM W g.set).lt x hx;obtain⟨_,B,_⟩:=om W g.set g.sub P hx hn hp (u:=S++[x]) (by intro y;simp);refine g.no x lx hn ?_;rw[B,hl];have hjk:j<k:=by
   apply byContradiction;intro q;have e:j=k:=by omega
   subst e;obtain⟨c,hc⟩:=hd;exact T.top ⟨c,by rw[L,hc,hl,hk];rw[mul_comm (p*c),mul_assoc]⟩
  rw[hk,mul_comm,<-pow_succ];exact pow_dvd_pow p hjk
 refine⟨⟨g.set,g.sub,⟨j,hl⟩,top⟩,?_⟩;have e:j=k:=by
  apply byContradiction;intro q;have hjk:j+1<=k:=by omega
  have h1:p^(j+1)∣G.size:=dvd_trans (pow_dvd_pow p hjk) (by rw[<-hk];exact T.dvd);rw[L,hl,pow_succ,mul_comm _ (p^j)]at h1;exact top (Nat.dvd_of_mul_dvd_mul_left (Nat.pow_pos (by have:=P.two;omega)) h1)
 rw[hl,e,hk]
def jt:DW->DW->Bool
 |[],[]=>false
 |[],_::_=>true
 |_::_,[]=>false
 |x::a,y::b=>if x=y then jt a b else decide (x<y)
def vl:DW->Nat
 |[]=>0
 |x::r=>2^x+vl r
theorem CK:∀{a:DW}{n:Nat},a.Pairwise (·>·)->(∀x∈a,x<n)->vl a<2^n
 |[],n,_,_=>two_pow_pos n
 |x::a,n,h,hn=>by
  obtain⟨h1,h2⟩:=List.pairwise_cons.mp h
  have:=CK h2 (n:=x) h1
  have hx:x<n:=hn x mem_cons_self
  have:2^(x+1)<=2^n:=Nat.pow_le_pow_right (by decide) hx
  rw[pow_succ]at this
  show 2^x+vl a<2^n
  omega
theorem rN:∀{a b:DW},a.Pairwise (·>·)->b.Pairwise (·>·)->a=b\/(jt a b=true/\vl a<vl b)\/(jt b a=true/\vl b<vl a)
 |[],[],_,_=>.inl rfl
 |[],y::b,_,_=>.inr (.inl ⟨rfl,by show 0<2^y+vl b;have:=two_pow_pos y;omega⟩)
 |x::a,[],_,_=>.inr (.inr ⟨rfl,by show 0<2^x+vl a;have:=two_pow_pos x;omega⟩)
 |x::a,y::b,ha,hb=>by
  obtain⟨a1,a2⟩:=List.pairwise_cons.mp ha
  obtain⟨b1,b2⟩:=List.pairwise_cons.mp hb
  have key:∀{x y:Nat}{a b:DW},a.Pairwise (·>·)->(∀z∈a,x>z)->x<y->2^x+vl a<2^y+vl b:=fun{x y a b}h h' hxy=>by
   have:=CK h (n:=x) h'
   have:2^(x+1)<=2^y:=Nat.pow_le_pow_right (by decide) hxy
   rw[pow_succ]at this
   omega
  by_cases e:x=y
  ·subst e
   rcases rN a2 b2 with q|⟨q1,q2⟩|⟨q1,q2⟩
   ·exact .inl (by rw[q])
   ·exact .inr (.inl ⟨by simp[jt,q1],by show 2^x+vl a<2^x+vl b;omega⟩)
   ·exact .inr (.inr ⟨by simp[jt,q1],by show 2^x+vl b<2^x+vl a;omega⟩)
  ·by_cases l:x<y
   ·exact .inr (.inl ⟨by simp[jt,e,l],key a2 a1 l⟩)
   ·exact .inr (.inr ⟨by have:¬y=x:=fun q=>e q.symm;simp[jt,this];omega,key b2 b1 (by omega)⟩)
theorem ou:∀(a b:DW),vl (a++b)=vl a+vl b
 |[],b=>by simp[vl]
 |x::a,b=>by show 2^x+vl (a++b)=2^x+vl a+vl b;rw[ou a b];omega
theorem lJ:∀s:DW,vl s.reverse=num s
 |[]=>rfl
 |x::s=>by rw[List.reverse_cons,ou,lJ s,f9];show _+(2^x+0)=_;omega
theorem nU{s t:DW}(hs:s.Pairwise (·<·))(ht:t.Pairwise (·<·))(h:jt t.reverse s.reverse=false):num s<=num t:=by
 have rv:∀{l:DW},l.Pairwise (·<·)->l.reverse.Pairwise (·>·):=fun h=>List.pairwise_reverse.mpr h;rcases rN (rv ht) (rv hs)with q|⟨q,_⟩|⟨_,q⟩
 ·have:=congrArg vl q;rw[lJ,lJ]at this;omega
 ·rw[q]at h;cases h
 ·rw[lJ,lJ]at q;omega
theorem pX(W:WF G){p m:Nat}(P:Pr p)(T:Top p G.size m){S:DW}(g:iB G m G.size S){j:Nat}(hj:j<G.size)(hm:∀i,i<G.size->jt (turnedSet G S i).reverse (turnedSet G S j).reverse=false):turnedSet G S j=prime G p:=by
 obtain⟨Y,hl⟩:=uf W P T g;obtain⟨Y2,_⟩:=lX W P;have tl:=ee W g.set hj;have ex:∀R,isSet G R=true->Sub G R->(∃k,R.length=p^k)->R.length=S.length->∃i,i<G.size/\R=turnedSet G S i:=fun R hR sR⟨k,hk⟩e=>by
  obtain⟨i,hi,h⟩:=qz W P Y sR (aR (aB.mp hR).1) hk;refine⟨i,hi,cB (aB.mp hR).1 (bq i) fun x=>⟨h x,?_⟩⟩;exact jh (aR (aB.mp hR).1) h (by rw[ee W g.set hi,e];exact le_refl _) x
 have pl:(prime G p).length=S.length:=by
  have hd:∀R,Kc G p R->∃k,R.length=p^k/\p^k∣G.size/\¬p^(k+1)∣G.size:=fun R Z=>by
   obtain⟨k,hk⟩:=Z.pow;have L:=eW W Z.sub (aR (aB.mp Z.set).1) (jF W) nj (fun x hx=>aL.mpr (Z.sub.lt x hx));rw[fm,hk]at L;refine⟨k,hk,⟨_,by rw[L,mul_comm]⟩,fun h=>Z.top ?_⟩;rw[L,pow_succ,mul_comm _ (p^k)]at h;exact Nat.dvd_of_mul_dvd_mul_left (Nat.pow_pos (by have:=P.two;omega)) h
  obtain⟨a,ha,a1,a2⟩:=hd _ Y;obtain⟨b,hb,b1,b2⟩:=hd _ Y2;have:a=b:=by
   rcases lt_trichotomy a b with q|q|q
   ·exact absurd (dvd_trans (pow_dvd_pow p q) b1) a2
   ·exact q
   ·exact absurd (dvd_trans (pow_dvd_pow p q) a1) b2
  rw[ha,hb,this]
 refine tR W P (iO j) (iN W g.sub hj) (by rw[tl,pl]) fun R hR sR e=>?_;obtain⟨k,hk⟩:=Y.pow;obtain⟨i,hi,rfl⟩:=ex R hR sR ⟨k,by rw[e,tl,hk]⟩ (by rw[e,tl]);exact nU (bq j) (bq i) (hm i hi)
end
section
variable{G H:Group}{a b s:DW}
def eD(G:Group)(a b:DW):DW:=a.flatMap fun i=>b.map (mixedOf G i)
theorem cX{x:Nat}:x∈eD G a b↔∃i∈a,∃j∈b,mixedOf G i j=x:=by simp[eD]
theorem zH:mixed G a b=least G (eD G a b):=rfl
theorem eT(W:WF G){i j:Nat}(hi:i<G.size)(hj:j<G.size):mixedOf G i j<G.size:=W.lt _ _ (W.lt _ _ (W.aV hi) (W.aV hj)) (W.lt _ _ hi hj)
theorem jq(W:WF G)(ha:∀x∈a,x<G.size)(hb:∀x∈b,x<G.size):∀x∈eD G a b,x<G.size:=fun x hx=>by
 obtain⟨i,hi,j,hj,rfl⟩:=cX.mp hx
 exact eT W (ha i hi) (hb j hj)
theorem lM(W:WF G){i j:Nat}(hi:i<G.size)(hj:j<G.size):G.turned (G.inverse i) j=G.inverse (G.turned i j):=by
 refine W.gh (W.dY hi hj) (W.dY (W.aV hi) hj) ?_;rw[<-W.dX hi (W.aV hi) hj,W.cy hi,W.gX hj]
theorem pb(W:WF G){i j k:Nat}(hi:i<G.size)(hj:j<G.size)(hk:k<G.size):G.turned (mixedOf G i j) k=mixedOf G (G.turned i k) (G.turned j k):=by
 unfold mixedOf;rw[W.dX (W.lt _ _ (W.aV hi) (W.aV hj)) (W.lt _ _ hi hj) hk,W.dX (W.aV hi) (W.aV hj) hk,W.dX hi hj hk,lM W hi hk,lM W hj hk]
theorem gG(W:WF G)(A:Norm G a)(B:Norm G b):Norm G (mixed G a b):=by
 have ml:=jq W A.sub.lt B.sub.lt;refine⟨bZ W ml,fun j hj i hi=>?_⟩;have e:least G (eD G a b)=leastNormal G (eD G a b):=by
  rw[eV];refine ig W ml fun x=>?_;rw[dy];constructor
  ·intro hx;exact⟨x,hx,0,W.pos,W.di (ml x hx)⟩
  ·rintro⟨y,hy,k,hk,rfl⟩;obtain⟨p,hp,q,hq,rfl⟩:=cX.mp hy;rw[pb W (A.sub.lt p hp) (B.sub.lt q hq) hk];exact cX.mpr ⟨_,A.Kn k hk p hp,_,B.Kn k hk q hq,rfl⟩
 rw[zH,e]at hi ⊢;exact eU W ml j hj i hi
theorem rB(W:WF G)(A:Norm G a)(hb:∀x∈b,x<G.size):∀x∈mixed G a b,x∈a:=by
 refine iF W (jq W A.sub.lt hb) A.sub fun x hx=>?_;obtain⟨i,hi,j,hj,rfl⟩:=cX.mp hx;have li:=A.sub.lt i hi;have lj:=hb j hj;have ii:=W.aV li;have ij:=W.aV lj;have t:=A.Kn (G.inverse j) ij i hi;unfold Group.turned at t;rw[W.inv_inv lj,W.assoc _ _ _ ij li lj]at t;unfold mixedOf;rw[W.assoc _ _ _ ii ij (W.lt _ _ li lj)];exact A.sub.mul _ (A.sub.inv W hi) _ t
theorem gp(W:WF G):Norm G G.all:=⟨jF W,fun j hj i hi=>aL.mpr (W.dY (aL.mp hi) hj)⟩
def cJ(G:Group)(lower:Bool)(s:DW):DW:=if lower=true then mixed G s G.all else mixed G s s
theorem iZ(W:WF G){lower:Bool}(A:Norm G s):Norm G (cJ G lower s):=by
 unfold cJ;split
 ·exact gG W A (gp W)
 ·exact gG W A A
theorem zF(W:WF G){lower:Bool}(A:Norm G s):∀x∈cJ G lower s,x∈s:=by
 unfold cJ;split
 ·exact rB W A fun x hx=>aL.mp hx
 ·exact rB W A A.sub.lt
theorem jn{lower:Bool}:(cJ G lower s).Pairwise (·<·):=by unfold cJ;split<;>exact bp _
theorem wI(W:WF G){lower:Bool}(A:Norm G s)(hs:s.Pairwise (·<·)):(cJ G lower s).length∣s.length:=by
 have L:=eW W (iZ W (lower:=lower) A).sub (aR jn) A.sub (aR hs) (zF W A);exact⟨_,by rw[L,mul_comm]⟩
theorem zw(A:Norm G s):0<s.length:=length_pos_of_mem A.sub.one
theorem tI{lower:Bool}{f:Nat}(h:(cJ G lower s).length=s.length):seriesFrom G lower (f+1) s=[s.length]:=by
 unfold seriesFrom;exact if_pos h
theorem qF{lower:Bool}{f:Nat}(h:(cJ G lower s).length≠s.length):seriesFrom G lower (f+1) s=s.length::seriesFrom G lower f (cJ G lower s):=by
 conv=>lhs;unfold seriesFrom
 exact if_neg h
theorem half{m n:Nat}(h:m∣n)(hl:m<n):2*m<=n:=by
 obtain⟨c,rfl⟩:=h;have:2<=c:=by
  apply byContradiction;intro q;have:c=0\/c=1:=by omega
  rcases this with rfl|rfl<;>simp at hl
 calc 2*m=m*2:=mul_comm _ _
  _<=m*c:=Nat.mul_le_mul_left _ this
def Ab(G:Group):Prop:=∀i j,i<G.size->j<G.size->G.times i j=G.times j i
theorem CF(W:WF G)(A:Ab G)(S:Sub G s):Norm G s:=by
 refine⟨S,fun j hj i hi=>?_⟩;have li:=S.lt i hi;unfold Group.turned;rw[A j i hj li,W.assoc _ _ _ li hj (W.aV hj),W.cy hj,W.bS i li];exact hi
theorem mh(W:WF G)(N:Norm G s)(h:over G s=some H):WF H/\(∀x∈H.names,∃i,i<G.size/\x=[rep G s i])/\∀i j,i<H.size->j<H.size->H.times i j=H.names.idxOf (m9 G s (H.names.getD i []) (H.names.getD j [])):=by
 rw[k7 W]at h;obtain⟨V,l,rfl,R,C,hl⟩:=oK (vg W N) (fe W) h;refine⟨V,iH (vg W N) (fe W) R,fun i j hi hj=>?_⟩;have hi':i<(nm l).length:=hi;have hj':j<(nm l).length:=hj;have e:∀k(hk:k<(nm l).length),(nm l).getD k []=(nm l)[k]:=fun k hk=>by rw[getD_eq_getElem?_getD,getElem?_eq_getElem hk];rfl
 rw[iG (getElem?_eq_getElem hi') (getElem?_eq_getElem hj')];show _=(nm l).idxOf (m9 G s ((nm l).getD i []) ((nm l).getD j []));rw[e i hi',e j hj']
theorem u9(W:WF G)(N:Norm G s)(hc:∀i j,i<G.size->j<G.size->Co G s (G.times i j) (G.times j i))(h:over G s=some H):Ab H:=by
 obtain⟨V,hn,ht⟩:=mh W N h;intro i j hi hj;have gm:∀k,k<H.size->H.names.getD k []∈H.names:=fun k hk=>by
  have:k<H.names.length:=by rw[V.pK];exact hk
  rw[getD_eq_getElem?_getD,getElem?_eq_getElem this];exact getElem_mem this
 obtain⟨x,hx,e1⟩:=hn _ (gm i hi);obtain⟨y,hy,e2⟩:=hn _ (gm j hj);rw[ht i j hi hj,ht j i hj hi,e1,e2,cH W N hx hy,cH W N hy hx,(aY W N.sub (W.lt _ _ hx hy) (W.lt _ _ hy hx)).mpr (hc x y hx hy)]
theorem wD(W:WF G)(N:Norm G s)(hs:s.Pairwise (·<·))(h:over G s=some H):H.size*s.length<=G.size:=by
 obtain⟨V,hn,_⟩:=mh W N h;have L:=eW W N.sub (aR hs) (jF W) nj (fun x hx=>aL.mpr (N.sub.lt x hx));rw[fm]at L;have:=sub_len V.nd (l:=(cQ G s G.all).map fun r=>[r]) fun x hx=>by
  obtain⟨i,hi,rfl⟩:=hn x hx;exact List.mem_map.mpr ⟨rep G s i,bc.mpr ⟨aL.mpr (dB W N.sub hi),jk W N.sub hi⟩,rfl⟩
 rw[length_map,V.pK]at this;rw[L];exact mul_le_mul_right _ this
theorem zI(W:WF G){i j:Nat}(hi:i<G.size)(hj:j<G.size):Co G (mixed G G.all G.all) (G.times i j) (G.times j i):=by
 have N:=gG W (gp W) (gp W);refine(m8 W N.sub (W.lt _ _ hi hj) (W.lt _ _ hj hi)).mpr ?_;have:G.times (G.inverse (G.times i j)) (G.times j i)=mixedOf G j i:=by unfold mixedOf;rw[W.inv_mul_rev hi hj]
 rw[this];exact cG W (jq W (fun x hx=>aL.mp hx) (fun x hx=>aL.mp hx)) _ (cX.mpr ⟨j,aL.mpr hj,i,aL.mpr hi,rfl⟩)
def bj(G:Group):Nat:=G.all.foldl (fun(n i:Nat)=>max n (G.order i)) 1
theorem fold_max(f:Nat->Nat):∀(l:DW)(a:Nat),a<=l.foldl (fun n i=>max n (f i)) a/\(∀i∈l,f i<=l.foldl (fun n i=>max n (f i)) a)/\(l.foldl (fun n i=>max n (f i)) a=a\/∃i∈l,l.foldl (fun n i=>max n (f i)) a=f i)
 |[],a=>⟨le_refl _,by simp,.inl rfl⟩
 |x::l,a=>by
  obtain⟨h1,h2,h3⟩:=fold_max f l (max a (f x))
  simp only[foldl_cons]
  refine⟨le_trans (Nat.le_max_left _ _) h1,fun i hi=>?_,?_⟩
  ·rcases Nf hi with rfl|q
   ·exact le_trans (Nat.le_max_right _ _) h1
   ·exact h2 i q
  ·rcases h3 with q|⟨i,hi,q⟩
   ·by_cases e:a<=f x
    ·exact .inr ⟨x,mem_cons_self,by rw[q,Nat.max_eq_right e]⟩
    ·exact .inl (by rw[q,Nat.max_eq_left (by omega)])
   ·exact .inr ⟨i,mem_cons_of_mem _ hi,q⟩
theorem fB(W:WF G):(∃i,i<G.size/\G.order i=bj G)/\∀i,i<G.size->G.order i<=bj G:=by
 obtain⟨h1,h2,h3⟩:=fold_max G.order G.all 1;refine⟨?_,fun i hi=>h2 i (aL.mpr hi)⟩;rcases h3 with q|⟨i,hi,q⟩
 ·have o:=(W.cS W.pos).1;have:=h2 0 (aL.mpr W.pos);have e:bj G=1:=q;refine⟨0,W.pos,?_⟩;have e2:G.all.foldl (fun(n i:Nat)=>max n (G.order i)) 1=1:=q;rw[e2]at this;omega
 ·exact⟨i,aL.mp hi,q.symm⟩
theorem wF(W:WF G){i:Nat}(hi:i<G.size)(h:i≠0):2<=G.order i:=by
 obtain⟨h1,_,h3,_⟩:=W.cS hi;apply byContradiction;intro q;have e:G.order i=1:=by omega
 rw[e]at h3;have:powerOf G i 1=i:=by simp[powerOf,W.a7 i hi]
 rw[this]at h3;exact h h3
theorem wU(W:WF G){x:Nat}(hx:x<G.size)(h:x≠0):2<=(least G [x]).length:=by
 have hl:∀y∈([x]:DW),y<G.size:=by simpa using hx
 have:=sub_len (m:=[0,x]) (l:=least G [x]) (by simp;exact fun e=>h e.symm) fun y hy=>by
  rcases Nf hy with q|q
  ·rw[q];exact(bZ W hl).one
  ·rw[List.mem_singleton.mp q];exact cG W hl x (by simp)
 simpa using this
theorem tH{f:Nat}{x:Nat}(h1:¬G.size<=1)(hx:(G.all.find? fun(i:Nat)=>G.order i==bj G)=some x)(ho:over G (least G [x])=some H):shapeFrom (f+1) G=shapeFrom f H++[bj G]:=by
 conv=>lhs;unfold shapeFrom
 rw[if_neg h1];have hx':(G.all.find? fun(i:Nat)=>G.order i==G.all.foldl (fun(n i:Nat)=>max n (G.order i)) 1)=some x:=hx;simp only[hx',Option.getD_some,ho];rfl
theorem wu{f:Nat}(h1:G.size<=1):shapeFrom f G=[]:=by
 cases f with
 |zero=>rfl
 |succ f=>unfold shapeFrom;rw[if_pos h1]
end
section
variable{G H:Group}
theorem e9(n:Nat):∀k,rowsOf n (k+1)=(rowsOf n k).flatMap fun r=>(range n).map fun x=>r++[x]
 |0=>by simp[rowsOf,List.flatMap_singleton',List.map_eq_flatMap]
 |k+1=>by
  have ih:=e9 n k
  have e1:rowsOf n (k+2)=(range n).flatMap fun x=>(rowsOf n (k+1)).map fun r=>x::r:=rfl
  have e2:rowsOf n (k+1)=(range n).flatMap fun x=>(rowsOf n k).map fun r=>x::r:=rfl
  conv=>lhs;rw[e1]
  conv=>rhs;rw[e2]
  rw[List.flatMap_assoc]
  congr 1
  funext x
  rw[ih,List.map_flatMap,List.flatMap_map]
  congr 1
  funext r
  rw[map_map]
  rfl
theorem gD(n:Nat):∀k,(rowsOf n k).length=n^k
 |0=>rfl
 |k+1=>by
  rw[e9]
  have:∀l:L4,(l.flatMap fun r=>(range n).map fun x=>r++[x]).length=l.length*n:=fun l=>by
   induction l with
   |nil=>simp
   |cons a l ih=>simp only[flatMap_cons,length_append,length_map,length_range,ih,length_cons];rw[add_mul,one_mul];omega
  rw[this,gD n k,pow_succ]
theorem gH{n:Nat}:∀{k:Nat}{r:DW},r∈rowsOf n k->r.length=k/\∀x∈r,x<n
 |0,r,h=>by simp[rowsOf]at h;subst h;simp
 |k+1,r,h=>by
  rw[e9]at h
  obtain⟨q,hq,h2⟩:=List.mem_flatMap.mp h
  obtain⟨x,hx,rfl⟩:=Ng h2
  obtain⟨h3,h4⟩:=gH hq
  refine⟨by simp[h3],fun y hy=>?_⟩
  rcases Nj hy with q|q
  ·exact h4 y q
  ·rw[List.mem_singleton.mp q];simpa using hx
def Pre(G:Group):Prop:=∀i,0<i->i<G.size->∃i' k,i'<i/\k<G.gens.length/\G.times i' (G.gens.getD k 0)=i
theorem vD(W:WF G){k:Nat}(hk:k<G.gens.length):G.gens.getD k 0<G.size:=by
 rw[getD_eq_getElem?_getD,getElem?_eq_getElem hk];exact W.dJ _ (getElem_mem hk)
theorem zK(W:WF G){g m:DW}(hl:g.length=G.gens.length)(len:m.length=G.size)(h0:m.getD 0 0=0)(hc:∀i,i<G.size->∀k,k<G.gens.length->m.getD (G.times i (G.gens.getD k 0)) 0=H.times (m.getD i 0) (g.getD k 0)):mapBy G H g=some m:=by
 have go:∀w:DW,(∀k∈w,k<G.gens.length)->∀x,x<G.size->w.foldl (fun(x k:Nat)=>H.times x (g.getD k 0)) (m.getD x 0)=m.getD (w.foldl (fun(x k:Nat)=>G.times x (G.gens.getD k 0)) x) 0:=by
  intro w
  induction w with
  |nil=>intro _ x _;rfl
  |cons k w ih=>
   intro hk x hx;have hkl:=hk k mem_cons_self;simp only[foldl_cons];rw[<-hc x hx k hkl];exact ih (fun k' h'=>hk k' (mem_cons_of_mem _ h')) _ (W.lt _ _ hx (vD W hkl))
 have e:G.words.map (leads H g)=m:=by
  refine ext_getElem (by rw[length_map,W.mw,len]) fun i h1 h2=>?_;have hi:i<G.size:=by rw[<-len];exact h2
  obtain⟨w,hw,e1,hk⟩:=jH W hi;have hw':G.words[i]'(by rw[W.mw];exact hi)=w:=(Nd hw).2;rw[getElem_map,hw'];have:=go w hk 0 W.pos;rw[h0]at this;have e2:w.foldl (fun(x k:Nat)=>G.times x (G.gens.getD k 0)) 0=i:=e1;rw[e2,getD_eq_getElem?_getD,getElem?_eq_getElem h2]at this;exact this
 unfold mapBy;simp only[e];refine if_pos (List.all_eq_true.mpr fun i hi=>List.all_eq_true.mpr fun x hx=>?_);obtain⟨k,hk,e3⟩:=getElem_of_mem hx;have hk1:k<G.gens.length:=by have:=hk;simp at this;omega
 have hk2:k<g.length:=by omega
 rw[List.getElem_zip]at e3;subst e3;have:=hc i (aL.mp hi) k hk1;rw[getD_eq_getElem?_getD (l:=G.gens),getElem?_eq_getElem hk1,getD_eq_getElem?_getD (l:=g),getElem?_eq_getElem hk2]at this;exact beq_iff_eq.mpr this
theorem eJ(W:WF G){g m:DW}(hl:g.length=G.gens.length)(h:mapBy G H g=some m):m.length=G.size/\m.getD 0 0=0/\∀i,i<G.size->∀k,k<G.gens.length->m.getD (G.times i (G.gens.getD k 0)) 0=H.times (m.getD i 0) (g.getD k 0):=by
 unfold mapBy at h;simp only at h;split at h
 ·next q=>
  have em:=Nc h;rw[em]at q;refine⟨by rw[<-em,length_map,W.mw],?_,fun i hi k hk=>?_⟩
  ·rw[<-em,getD_eq_getElem?_getD,getElem?_map,W.w0];rfl
  ·have hk2:k<g.length:=by omega
   have q1:=List.all_eq_true.mp (List.all_eq_true.mp q i (aL.mpr hi)) (G.gens[k],g[k]) (by
    have hz:k<(G.gens.zip g).length:=by simp;omega
    have:(G.gens.zip g)[k]'hz=(G.gens[k],g[k]):=List.getElem_zip;rw[<-this];exact getElem_mem hz)
   have:=beq_iff_eq.mp q1;rw[getD_eq_getElem?_getD (l:=G.gens),getElem?_eq_getElem hk,getD_eq_getElem?_getD (l:=g),getElem?_eq_getElem hk2];exact this
 ·cases h
structure Walk(G H:Group)(g:DW)(n t:Nat)(r:List (Option Nat)):Prop where
 len:r.length=G.size
 zero:r[0]?=some (some 0)
 lt:∀(x v:Nat),r[x]?=some (some v)->v<H.size
 done:∀(i k:Nat),i<G.size->k<G.gens.length->(i<n\/(i=n/\k<t))->∃v,r[i]?=some (some v)/\r[G.times i (G.gens.getD k 0)]?=some (some (H.times v (g.getD k 0)))
 map:∀m,mapBy G H g=some m->∀(x v:Nat),r[x]?=some (some v)->v=m.getD x 0
theorem sU(W:WF G)(V:WF H){g:DW}(hl:g.length=G.gens.length):Walk G H g 0 0 ((replicate G.size none).set 0 (some 0)):=by
 have hp:=W.pos;have at_:∀(x v:Nat),((replicate G.size (none:Option Nat)).set 0 (some 0))[x]?=some (some v)->x=0/\v=0:=fun x v h=>by
  by_cases e:x=0
  ·subst e;rw[getElem?_set_self (by simpa using hp)]at h;exact⟨rfl,(Nc (Nc h)).symm⟩
  ·rw[getElem?_set_ne (fun q=>e q.symm),List.getElem?_replicate]at h;split at h<;>cases h
 refine⟨by simp,getElem?_set_self (by simpa using hp),fun x v h=>?_,fun i k _ _ h=>by omega,fun m hm x v h=>?_⟩
 ·rw[(at_ x v h).2];exact V.pos
 ·obtain⟨e1,e2⟩:=at_ x v h;rw[e1,e2];exact(eJ W hl hm).2.1.symm
theorem sW(W:WF G){g:DW}(P:Pre G){n t:Nat}{r:List (Option Nat)}(w:Walk G H g n t r)(hn:n<G.size):∃v,r[n]?=some (some v):=by
 by_cases h0:n=0
 ·subst h0;exact⟨0,w.zero⟩
 ·obtain⟨i',k,hi,hk,e⟩:=P n (by omega) hn;obtain⟨v,_,h2⟩:=w.done i' k (by omega) hk (.inl hi);rw[e]at h2;exact⟨_,h2⟩
theorem xA(W:WF G)(V:WF H){g:DW}(hl:g.length=G.gens.length)(hg:∀x∈g,x<H.size){n t v:Nat}{r:List (Option Nat)}(w:Walk G H g n t r)(hn:n<G.size)(ht:t<G.gens.length)(hv:r[n]?=some (some v))(h:r[G.times n (G.gens.getD t 0)]?=some none):Walk G H g n (t+1) (r.set (G.times n (G.gens.getD t 0)) (some (H.times v (g.getD t 0)))):=by
 have hx:=W.lt _ _ hn (vD W ht);have lg:g.getD t 0<H.size:=by rw[getD_eq_getElem?_getD,getElem?_eq_getElem (by omega)];exact hg _ (getElem_mem _)
 have old:∀(x u:Nat),r[x]?=some (some u)->(r.set (G.times n (G.gens.getD t 0)) (some (H.times v (g.getD t 0))))[x]?=some (some u):=fun x u q=>by
  rw[getElem?_set_ne]
  ·exact q
  ·rintro rfl;rw[h]at q;cases q
 have new:(r.set (G.times n (G.gens.getD t 0)) (some (H.times v (g.getD t 0))))[G.times n (G.gens.getD t 0)]?=some (some (H.times v (g.getD t 0))):=getElem?_set_self (by rw[w.len];exact hx);refine⟨by rw[length_set];exact w.len,old _ _ w.zero,fun x u q=>?_,fun i k hi hk q=>?_,fun m hm x u q=>?_⟩
 ·by_cases e:G.times n (G.gens.getD t 0)=x
  ·subst e;rw[new]at q;cases q;exact V.lt _ _ (w.lt _ _ hv) lg
  ·rw[getElem?_set_ne e]at q;exact w.lt x u q
 ·by_cases e:i=n/\k=t
  ·obtain⟨rfl,rfl⟩:=e;exact⟨v,old _ _ hv,new⟩
  ·obtain⟨u,h1,h2⟩:=w.done i k hi hk (by omega);exact⟨u,old _ _ h1,old _ _ h2⟩
 ·by_cases e:G.times n (G.gens.getD t 0)=x
  ·subst e;rw[new]at q;cases q;rw[(eJ W hl hm).2.2 n hn t ht,w.map m hm n v hv]
  ·rw[getElem?_set_ne e]at q;exact w.map m hm x u q
theorem xy{g:DW}{n t v u:Nat}{r:List (Option Nat)}(w:Walk G H g n t r)(hv:r[n]?=some (some v))(h:r[G.times n (G.gens.getD t 0)]?=some (some u))(e:u=H.times v (g.getD t 0)):Walk G H g n (t+1) r:=by
 refine⟨w.len,w.zero,w.lt,fun i k hi hk q=>?_,w.map⟩;by_cases c:i=n/\k=t
 ·obtain⟨rfl,rfl⟩:=c;exact⟨v,hv,by rw[h,e]⟩
 ·exact w.done i k hi hk (by omega)
theorem xC(W:WF G){g:DW}(hl:g.length=G.gens.length){n t v u:Nat}{r:List (Option Nat)}(w:Walk G H g n t r)(hn:n<G.size)(ht:t<G.gens.length)(hv:r[n]?=some (some v))(h:r[G.times n (G.gens.getD t 0)]?=some (some u))(e:u≠H.times v (g.getD t 0)):mapBy G H g=none:=by
 cases q:mapBy G H g with
 |none=>rfl
 |some m=>
  refine absurd ?_ e;rw[w.map m q _ u h,w.map m q n v hv];exact(eJ W hl q).2.2 n hn t ht
theorem vZ{g:DW}{n:Nat}{r:List (Option Nat)}(w:Walk G H g n G.gens.length r):Walk G H g (n+1) 0 r:=⟨w.len,w.zero,w.lt,fun i k hi hk q=>w.done i k hi hk (by omega),w.map⟩
theorem xB(W:WF G){g:DW}(hl:g.length=G.gens.length)(P:Pre G){r:List (Option Nat)}(w:Walk G H g G.size 0 r):∃m,mapBy G H g=some m/\r=m.map some:=by
 have all:∀n:Nat,n<G.size->∃v,r[n]?=some (some v):=fun n hn=>by
  by_cases h0:n=0
  ·subst h0;exact⟨0,w.zero⟩
  ·obtain⟨i',k,hi,hk,e⟩:=P n (by omega) hn;obtain⟨v,_,h2⟩:=w.done i' k (by omega) hk (.inl (by omega));rw[e]at h2;exact⟨_,h2⟩
 let m:DW:=r.map fun o=>o.getD 0
 have er:r=m.map some:=by
  refine ext_getElem (by simp[m]) fun i h1 h2=>?_;obtain⟨v,hv⟩:=all i (by rw[<-w.len];exact h1);have:r[i]=some v:=(Nd hv).2;simp[m,this]
 have gd:∀(x v:Nat),r[x]?=some (some v)->m.getD x 0=v:=fun x v h=>by
  show(r.map fun o=>o.getD 0).getD x 0=v;rw[getD_eq_getElem?_getD,getElem?_map,h];rfl
 refine⟨m,zK W hl (by simp[m,w.len]) (gd _ _ w.zero) (fun i hi k hk=>?_),er⟩;obtain⟨v,h1,h2⟩:=w.done i k hi hk (.inl hi);rw[gd _ _ h1,gd _ _ h2]
end
section
variable{mul:DW->DW->DW}{one:DW}{gens:L4}
def xr(mul:DW->DW->DW)(gens:L4)(l:Met):Prop:=∀(i:Nat)(x:DW),0<i->(nm l)[i]?=some x->∃(i':Nat)(y:DW)(k:Nat)(g:DW),i'<i/\(nm l)[i']?=some y/\gens[k]?=some g/\x=mul y g
theorem zz(l r:Met):nm (l++r)=nm l++nm r:=by simp[nm]
theorem t5{l:Met}{y g w:DW}{n k:Nat}(h:xr mul gens l)(hn:(nm l)[n]?=some y)(hg:gens[k]?=some g):xr mul gens (meets l (mul y g) w):=by
 unfold meets;split
 ·exact h
 ·intro i x hi hx;rw[zz]at hx ⊢;have hnl:n<(nm l).length:=(Nd hn).1;by_cases hil:i<(nm l).length
  ·rw[getElem?_append_left hil]at hx;obtain⟨i',y',k',g',h1,h2,h3,h4⟩:=h i x hi hx;exact⟨i',y',k',g',h1,by rw[getElem?_append_left (by omega)];exact h2,h3,h4⟩
  ·rw[getElem?_append_right (by omega)]at hx;have e:i-(nm l).length=0:=by
    have:=(Nd hx).1;simp[nm]at this ⊢;omega
   rw[e]at hx;have ex:x=mul y g:=by simp[nm]at hx;exact hx.symm
   exact⟨n,y,k,g,by omega,by rw[getElem?_append_left hnl];exact hn,hg,ex⟩
theorem oS{x:DW×DW}:∀(gs:List (DW×Nat))(l:Met),xr mul gens l->(∃n:Nat,(nm l)[n]?=some x.1)->(∀g∈gs,gens[g.2]?=some g.1)->xr mul gens (gs.foldl (fun(m:Met)(g:DW×Nat)=>meets m (mul x.1 g.1) (x.2++[g.2])) l)
 |[],l,h,_,_=>h
 |g::gs,l,h,⟨n,hn⟩,hg=>by
  obtain⟨r,er⟩:=jS (l:=l) (x:=mul x.1 g.1) (w:=x.2++[g.2])
  refine oS gs _ (t5 h hn (hg g mem_cons_self)) ⟨n,?_⟩ fun g' h'=>hg g' (mem_cons_of_mem _ h')
  show(nm (meets l (mul x.1 g.1) (x.2++[g.2])))[n]?=some x.1
  rw[er,zz,getElem?_append_left (Nd hn).1];exact hn
theorem oQ{most:Nat}:∀(f k:Nat)(l r:Met),xr mul gens l->growFrom mul gens most f k l=some r->xr mul gens r
 |0,k,l,r,_,h=>by simp[growFrom]at h
 |f+1,k,l,r,hp,h=>by
  by_cases hk:k<l.length
  ·have hx:l[k]?=some l[k]:=getElem?_eq_getElem hk
   rw[oP hx]at h
   split at h
   ·cases h
   ·refine oQ f (k+1) _ r ?_ h
    refine oS _ l hp ⟨k,by unfold nm;rw[getElem?_map,hx];rfl⟩ fun g hg=>uI (mem_of_mem_take hg)
  ·rw[rY (by omega)]at h
   cases h;exact hp
theorem Am{Pd:DW->Prop}(O:Op mul one Pd)(hg:∀g∈gens,Pd g){l:Met}(h:growFrom mul gens MOST (MOST+2) 0 [(one,[])]=some l):Pre (cb mul gens l):=by
 have p:=oQ (mul:=mul) (gens:=gens) _ _ _ _ (fun i x hi hx=>by
  have:=(Nd hx).1;simp[nm]at this;omega) h
 obtain⟨_,R,_,_,cg,_⟩:=ka O hg h;intro i hi hil;have hil':i<(nm l).length:=hil;obtain⟨i',y,k,g,h1,h2,h3,h4⟩:=p i _ hi (getElem?_eq_getElem hil');have hk:k<gens.length:=(Nd h3).1;refine⟨i',k,h1,by rw[mV,length_map];exact hk,?_⟩;have e1:(cb mul gens l).gens.getD k 0=(nm l).idxOf g:=by rw[mV,getD_eq_getElem?_getD,getElem?_map,h3];rfl
 have mg:=cg g (mem_of_getElem? h3);rw[e1,iG h2 (iI mg),<-h4];exact dI R.nd (getElem?_eq_getElem hil')
end
section
theorem jz:∀(n:Nat)(l:DW),l.length<=n->l.eraseDups.Nodup
 |_,[],_=>by simp
 |0,a::l,h=>by simp at h
 |n+1,a::l,h=>by
  rw[List.eraseDups_cons]
  refine List.nodup_cons.mpr ⟨fun q=>?_,jz n _ (le_trans (length_filter_le _ _) (by simpa using h))⟩
  have:=List.mem_eraseDups.mp q
  simp at this
theorem qc{l u:DW}(nu:u.Nodup)(h:∀x,x∈u↔x∈l):u.length=l.eraseDups.length:=
 fU nu (jz _ l (le_refl _)) fun x=>by rw[h,List.mem_eraseDups]
theorem ni:∀a:DW,before a a=false
 |[]=>rfl
 |x::a=>by simp[before,ni a]
theorem jc:∀{a b:DW},a.length=b.length->before a b=false->before b a=false->a=b
 |[],[],_,_,_=>rfl
 |[],_::_,h,_,_=>by simp at h
 |_::_,[],h,_,_=>by simp at h
 |x::a,y::b,h,h1,h2=>by
  simp only[before,Bool.or_eq_false_iff,decide_eq_false_iff_not,Bool.and_eq_false_iff]at h1 h2
  have e:x=y:=by omega
  subst e
  have q1:before a b=false:=by rcases h1.2 with q|q;simp at q;exact q
  have q2:before b a=false:=by rcases h2.2 with q|q;simp at q;exact q
  rw[jc (by simpa using h) q1 q2]
theorem iA:∀{a b c:DW},a.length=b.length->c.length=b.length->before a b=true->before c b=false->before c a=false
 |[],[],_,_,_,h,_=>by simp[before]at h
 |x::a,y::b,z::c,h1,h2,h3,h4=>by
  simp only[before,or_eq_true,decide_eq_true_eq,and_eq_true,beq_iff_eq,Bool.or_eq_false_iff,decide_eq_false_iff_not,Bool.and_eq_false_iff]at h3 h4 ⊢
  rcases h3 with q|⟨q1,q2⟩
  ·refine⟨by omega,.inl ?_⟩
   have:=h4.1
   simp;omega
  ·subst q1
   refine⟨h4.1,?_⟩
   rcases h4.2 with q|q
   ·exact .inl q
   ·exact .inr (iA (by simpa using h1) (by simpa using h2) q2 q)
def pick(a:Option DW)(m:DW):Option DW:=match a with
 |none=>some m
 |some b=>if before m b=true then some m else a
theorem jO{n:Nat}:∀(l:L4)(a:DW),a.length=n->(∀m∈l,m.length=n)->∃r,l.foldl pick (some a)=some r/\(r=a\/r∈l)/\r.length=n/\before a r=false/\∀m∈l,before m r=false
 |[],a,ha,_=>⟨a,rfl,.inl rfl,ha,ni a,by simp⟩
 |b::l,a,ha,hl=>by
  have hb:=hl b mem_cons_self
  have hl':∀m∈l,m.length=n:=fun m hm=>hl m (mem_cons_of_mem _ hm)
  rw[foldl_cons]
  by_cases q:before b a=true
  ·obtain⟨r,h1,h2,h3,h4,h5⟩:=jO l b hb hl'
   refine⟨r,by simp only[pick,if_pos q];exact h1,?_,h3,?_,fun m hm=>?_⟩
   ·rcases h2 with z|z
    ·exact .inr (by rw[z];exact mem_cons_self)
    ·exact .inr (mem_cons_of_mem _ z)
   ·cases c:before a r with
    |false=>rfl
    |true=>
     have s1:=iA (a:=a) (b:=r) (c:=b) (by omega) (by omega) c h4
     rw[s1]at q;cases q
   ·rcases Nf hm with z|z
    ·rw[z];exact h4
    ·exact h5 m z
  ·obtain⟨r,h1,h2,h3,h4,h5⟩:=jO l a ha hl'
   refine⟨r,by simp only[pick,if_neg q];exact h1,?_,h3,h4,fun m hm=>?_⟩
   ·rcases h2 with z|z
    ·exact .inl z
    ·exact .inr (mem_cons_of_mem _ z)
   ·rcases Nf hm with z|z
    ·rw[z]
     have qf:before b a=false:=by simpa using q
     cases c:before b r with
     |false=>rfl
     |true=>
      have s1:=iA (a:=b) (b:=r) (c:=a) (by omega) (by omega) c h4
      have e:=jc (a:=b) (b:=a) (by omega) qf s1
      subst e
      rw[h4]at c;cases c
    ·exact h5 m z
theorem xg{n:Nat}{l:L4}(hl:∀m∈l,m.length=n){r:DW}(hr:r∈l)(hm:∀m∈l,before m r=false):l.foldl pick none=some r:=by
 cases l with
 |nil=>cases hr
 |cons a l=>
  rw[foldl_cons];obtain⟨q,h1,h2,h3,h4,h5⟩:=jO l a (hl a mem_cons_self) fun m hm'=>hl m (mem_cons_of_mem _ hm');have e:pick none a=some a:=rfl;rw[e,h1];have mq:q∈a::l:=by
   rcases h2 with z|z
   ·rw[z];exact mem_cons_self
   ·exact mem_cons_of_mem _ z
  have b1:=hm q mq;have b2:before r q=false:=by
   rcases Nf hr with z|z
   ·rw[z];exact h4
   ·exact h5 r z
  rw[jc (by rw[h3,hl r hr]) b1 b2]
theorem Bc{G H:Group}(h:G.size=H.size):same G H=((maps G H).filter fun(m:DW)=>m.eraseDups.length==G.size).foldl pick none:=by
 unfold same;rw[if_neg (by omega)];rfl
end
end Mg
end
open Mg (turnsOf rowAt Pre oO aI uD br ph iC bp ii turns cW fP sub_len dy dA ig Met dz mY k8 aR Norm rep dB k7 fY fX me ff cJ gp fm iZ jt bZ bj fB jP iE Ab u9 gD gH iL)
set_option hygiene false in
local macro_rules|`(tactic|exists $t)=>`(tactic|refine $t (fun vs H Q E h=>?_) (fun cdv A outer s H vs Q E hr h=>?_))
namespace Pg
open PySem PySem.Spec PyProof.Rows L2
theorem tx:1<=sizeLine:=by decide
open PySem.W (Codec)
abbrev Ex:Stmt:=top 34
abbrev yE:Stmt:=top 35
abbrev Bq:Stmt:=top 36
abbrev EH:Stmt:=top 37
abbrev iv(l:DW):List V:=l.map fun(n:Nat)=>V.int n
structure Tx(mg:GmT):Prop where
 pD:mg "range"=none
 tup:mg "tuple"=none
 lst:mg "list"=none
 II:mg "sorted"=none
 len:mg "len"=none
theorem jB:bootBuiltins "tuple"=some (.type "tuple"):=by decide +kernel
theorem lC:bootBuiltins "list"=some (.type "list"):=by decide +kernel
theorem jC:bootBuiltins "range"=some (.type "range"):=by decide +kernel
theorem gn:bootBuiltins "sorted"=some (.builtin "sorted"):=by decide +kernel
section
variable{P:Program}{w:World}{K:Frag}{mg:GmT}{base:Heap}
def xM:Sp:=fun vs H Q _=>∃n:Nat,vs=[.int n]/\n<=100/\∀(H':Hp)(p:Addr),H p=none->H' p=some (.tup (iv (range n)))->aj H H'->Q (.ref p) H'
theorem IM:aq ["n"] ["n"] (af Ex):=.m
theorem FR{f:Addr}{fd:FuncData}(F:bW K "unmoved" "unmoved" Ex f fd)(T:Tx mg):aG P w K mg base bA 1 f fd ["n"] xM:=by
 exists F.ok IM
 ·obtain⟨n,rfl,_⟩:=h;rfl
 ·obtain⟨n,rfl,hn,k⟩:=h;refine⟨_,ah (ak (bO (sC rfl) rfl T.tup jB (aa (bO fj rfl T.pD jC (aa (pv 0) ab)) ab))),?_⟩;refine⟨_,rfl,_,rfl,fun p hp=>⟨p,n,rfl,ae,by omega,fun l hl=>?_⟩⟩;have h1:H l=none:=(aj.upd hp).free hl;exact k _ l h1 ae ((aj.upd hp).trans (aj.upd hl))
def yf:Sp:=fun vs H Q _=>∃(a b:Addr)(x y:DW),vs=[.ref a,.ref b]/\H a=some (.tup (iv x))/\H b=some (.tup (iv y))/\x.length<=100/\(∀z∈x,z<y.length) /\
 ∀(H':Hp)(p:Addr),H p=none->H' p=some (.tup (iv (Vg01.followed x y)))->aj H H'->Q (.ref p) H'
theorem yx:aq ["first","second","x"] ["first","second"] (af yE):=.m
theorem c8{x:DW}{i:Nat}{v:V}(h:(iv x)[i]?=some v):∃n,x[i]?=some n/\v=V.int n:=by
 rw[getElem?_map]at h;cases e:x[i]? with
 |none=>rw[e]at h;cases h
 |some n=>rw[e]at h;exact⟨n,rfl,(Nc h).symm⟩
theorem il{x:DW}{i n:Nat}(h:x[i]?=some n):(iv x)[i]?=some (V.int n):=by rw[getElem?_map,h];rfl
theorem zt{f:Addr}{fd:FuncData}(F:bW K "first_then" "first_then" yE f fd)(T:Tx mg):aG P w K mg base bA 1 f fd ["first","second"] yf:=by
 exists F.ok yx
 ·obtain⟨a,b,x,y,rfl,_⟩:=h;rfl
 ·obtain⟨a,b,x,y,rfl,ha,hb,hl,hlt,k⟩:=h;refine⟨_,ah (ak (bO fH rfl T.tup jB (aa (dm (own:=[("x",2)]) rfl yx.nd (FH (pv 0)) (bf (N:=["first","second","x"]) (sc:=af yE) (by decide +kernel))
   (fun _ _ _ _ _=>aJ (i:=2) yx.nd rfl (Or.inl rfl)) (fun _ _ _ _ _=>bV) (fun _ _ _ _ _=>bN (r:=Jy K) i5 (pv 1) (pv 2) (fun _ _=>rfl))) ab))),?_⟩
  refine⟨_,rfl,a,rfl,⟨_,gr.of ha⟩,fun D hD=>?_⟩;have hfl:(Vg01.followed x y).length=x.length:=by simp[Vg01.followed]
  refine HD (xs:=iv x) (gu H D fun i=>(iv (Vg01.followed x y)).take i) (gu.start hD rfl) (fun i H' _ p=>p.1.IK (gr.of ha)) (fun i v H' hi p=>?_) (fun H' p=>?_)
  ·obtain⟨n,hn,rfl⟩:=c8 hi;have hny:n<y.length:=hlt n (mem_of_getElem? hn);refine⟨rfl,_,rfl,_,rfl,b,_,_,_,rfl,rfl,gr.of (p.1 _ _ hb),b9 (il (getElem?_eq_getElem hny)),?_⟩;refine p.push hD (aj.refl _) ?_ (fQ (il ?_))
   ·rw[length_take,length_map];rw[sizeLine_eq];omega
   ·rw[Vg01.followed,getElem?_map,hn];simp[getD_eq_getElem?_getD,getElem?_eq_getElem hny]
  ·have e:=p.done (by rw[length_map,length_map,hfl];exact le_refl _);refine⟨D,_,rfl,.inl ⟨aH.of e,fun l hl=>?_⟩⟩;exact k _ l (p.1.free hl) ae (p.1.trans (aj.upd hl))
theorem gN{H:Hp}:∀ns:List Int,iS K H (ns.map V.int) (ns.map PyData.int)
 |[]=>.nil
 |n::r=>.cons (.int n) (gN r)
theorem bH(l:DW):iv l=(l.map fun(n:Nat)=>(n:Int)).map V.int:=by rw[map_map];rfl
theorem mZ:∀a b:List Int,PyData.eqvAll (a.map PyData.int) (b.map PyData.int)=decide (a=b)
 |[],[]=>by simp[PyData.eqvAll]
 |[],_::_=>by simp[PyData.eqvAll]
 |_::_,[]=>by simp[PyData.eqvAll]
 |x::a,y::b=>by
  have ih:=mZ a b
  simp only[map_cons,PyData.eqvAll,ih,PyData.eqv]
  by_cases h1:x=y<;>by_cases h2:a=b<;>simp[h1,h2]
theorem i9:∀a:List Int,PyData.depthAll (a.map PyData.int)=0
 |[]=>rfl
 |x::a=>by simp[PyData.depthAll,PyData.depth,i9 a]
theorem lay_ints:∀a:List Int,PyData.canLayAll0 (a.map PyData.int)=true
 |[]=>rfl
 |x::a=>by simp[PyData.canLayAll0,PyData.canLay0,lay_ints a]
theorem shaped_ints(a:List Int):SeqAt.shaped (.list (a.map PyData.int))=true:=by
 unfold SeqAt.shaped;simp[PyData.canLay0,PyData.depth,i9,lay_ints]
theorem sk(a b:List Int):PyData.eqv (.list (a.map PyData.int)) (.list (b.map PyData.int))=decide (a=b):=by
 rw[<-mZ];simp[PyData.eqv]
def yd(K:Frag):Sp:=fun vs H Q _=>∃(a:Addr)(r:DW)(n:Nat),vs=[.ref a,.int n]/\aH K H a (iv r)/\r.length<64/\n<=100/\∀H':Hp,aj H H'->Q (.bl (Vg01.isShuffle n r)) H'
theorem IY:aq ["row","n"] ["row","n"] (af Bq):=.m
theorem yR(n:Nat):cR n=iv (range n):=rfl
theorem zr{f:Addr}{fd:FuncData}(F:bW K "is_shuffle" "is_shuffle" Bq f fd)(T:Tx mg):aG P w K mg base bA 1 f fd ["row","n"] (yd K):=by
 exists F.ok IY
 ·obtain⟨a,r,n,rfl,_⟩:=h;rfl
 ·obtain⟨a,r,n,rfl,ha,hl,hn,k⟩:=h;refine⟨_,ah (ak (cV (pH hr.units) (aS jX rfl T.II gn (aa (pv 0) ab))
   (bO (jb rfl) rfl T.lst lC (aa (bO fj rfl T.pD jC (aa (pv 1) ab)) ab)) (aW _))),?_⟩
  have ha':=ha;rw[bH]at ha';refine⟨_,rfl,a,_,rfl,ha',by simpa using hl,fun ns p hp hs hpn=>?_⟩;refine⟨_,rfl,_,rfl,fun q hq=>⟨q,n,rfl,ae,by omega,fun l hl'=>?_⟩⟩;have s1:aj H (upd H p (.lst (ns.map V.int))):=aj.upd hpn;have s2:=aj.upd (o:=.qm 0 n) hq;have s3:=aj.upd (o:=.lst (cR n)) hl';have e1:=s3 _ _ (s2 _ _ (ae (H:=H) (a:=p) (o:=.lst (ns.map V.int))));refine⟨.list (ns.map PyData.int),.list (((range n).map fun(x:Nat)=>(x:Int)).map PyData.int),.lst (aH.of e1) (gN _),.lst (aH.of (by rw[ae,yR,bH])) (gN _),shaped_ints _,shaped_ints _,?_⟩;rw[sk,Mg.lO hp hs];exact k _ ((s1.trans s2).trans s3)
theorem BF{l:DW}{n:Nat}(hn:0<n)(hn':n<=6)(hl:l.length<=100):Mm 0 (l.length:Nat) (n:Nat) (turnsOf n l):=by
 have e:Builtin.Range.rangeSize 0 (l.length:Nat) (n:Nat)=(turnsOf n l:Nat):=by
  unfold Builtin.Range.rangeSize turnsOf;rw[if_pos (by omega)];by_cases h:0<l.length
  ·rw[if_pos (by omega),show l.length+n-1=(l.length-1)+n by omega,Nat.add_div_right _ hn];have:((l.length:Int)-0-1)=((l.length-1:Nat):Int):=by omega
   rw[this];simp
  ·rw[if_neg (by omega)];have:l.length+n-1<n:=by omega
   rw[Nat.div_eq_of_lt this];rfl
 have b:turnsOf n l<=l.length+n-1:=Nat.div_le_self _ _;refine⟨by omega,by omega,?_,e⟩;unfold Builtin.Range.small;rw[e];simp only[Builtin.Range.rangeFitsLong,and_eq_true,or_eq_true,decide_eq_true_eq,beq_iff_eq];refine⟨by omega,.inr ?_⟩;rw[if_pos (by omega)];simp only[and_eq_true,decide_eq_true_eq];omega
def parts(n:Nat)(l:DW):Option L4:=if n=0\/6<n then none else Vg01.shuffles n l
abbrev a9(H:Hp)(ts:List Addr)(r:L4):Prop:=Paired (fun t x=>H t=some (.tup (iv x))) ts r
theorem a9.same{H H':Hp}{ts:List Addr}{r:L4}(h:a9 H ts r)(s:aj H H'):a9 H' ts r:=Paired.js h fun _ _ e=>s _ _ e
theorem a9.snoc{H:Hp}:∀{ts:List Addr}{r:L4}{t:Addr}{x:DW},a9 H ts r->H t=some (.tup (iv x))->a9 H (ts++[t]) (r++[x])
 |_,_,_,_,.nil,e=>.cons e .nil
 |_,_,_,_,.cons a b,e=>.cons a (a9.snoc b e)
def xY(K:Frag):Sp:=fun vs H Q _=>∃(n:Nat)(a:Addr)(l:DW),vs=[.int n,.ref a]/\aH K H a (iv l)/\l.length<=60 /\
 (parts n l=none->∀H':Hp,aj H H'->Q .cu H') /\
 ∀r,parts n l=some r->∀(H':Hp)(p:Addr)(ts:List Addr),aj H H'->H p=none->H' p=some (.lst (ts.map V.ref))->a9 H' ts r->Q (.ref p) H'
structure LZ(mg:GmT):Prop where
 mp:∃t,mg "MOST_PLACES"=some (.int 6 t)
 Mh:∃t,mg "MOST_GENERATORS"=some (.int 4 t)
theorem C3:aq ["n","numbers","shuffles","start","row"] ["n","numbers"] (af EH):=.m
theorem vP(xs:List V)(a b:Nat):uu xs (some (a:Int)) (some (b:Int))=(xs.drop a).take (b-a):=by
 have e:∀d k:Nat,HT.qH xs.length d (some (k:Int))=min k xs.length:=fun d k=>by
  unfold HT.qH;simp only;rw[if_neg (by omega)];omega
 unfold uu;rw[e,e];by_cases h:a<=xs.length
 ·rw[min_eq_left h];by_cases h2:b<=xs.length
  ·rw[min_eq_left h2]
  ·rw[Nat.min_eq_right (by omega),take_of_length_le (by rw[length_drop];omega),take_of_length_le (by rw[length_drop];omega)]
 ·rw[drop_eq_nil_of_le (by omega),drop_eq_nil_of_le (by omega)];simp
theorem Cw(n:Nat)(l:DW)(i:Nat):uu (iv l) (some (0+(i:Int)*(n:Int))) (some (0+(i:Int)*(n:Int)+(n:Int)))=iv (rowAt n l i):=by
 have e1:(0+(i:Int)*(n:Int))=((i*n:Nat):Int):=by push_cast;omega
 have e2:((i*n:Nat):Int)+(n:Int)=((i*n+n:Nat):Int):=by push_cast;rfl
 rw[e1,e2,vP,show i*n+n-i*n=n by omega];unfold rowAt iv;rw[map_take,map_drop]
theorem Gd{f fi:Addr}{fd fdi:FuncData}(F:bW K "parted" "parted" EH f fd)(T:Tx mg)(T2:LZ mg)(FI:bW K "is_shuffle" "is_shuffle" Bq fi fdi)(mi:mg "is_shuffle"=some (.ref fi))(bi:Binds K fdi ["row","n"] []):
  aG P w K mg base bA 2 f fd ["n","numbers"] (xY K):=by
 obtain⟨t1,m1⟩:=T2.mp;obtain⟨t2,m2⟩:=T2.Mh;have GI:aG P w K mg base bA 1 fi fdi ["row","n"] (yd K):=zr FI T;exists F.ok C3
 ·obtain⟨n,a,l,rfl,_⟩:=h;rfl
 ·obtain⟨n,a,l,rfl,ha,hl,k0,k1⟩:=h;have nd:=C3.nd;refine⟨_,ag (bL (PW.pt (yW (aX qY (pv 0) az (aW _)) (tN (aX oG (pv 0) (cN (v:=.int 6) rfl m1 ⟨_,rfl⟩) (aW _))))) (ah (ak c7)) aZ)
   (ag (bL (aX oG (aS aM rfl T.len PySem.boot_len (aa (pv 1) ab)) (cI pG (pv 0) (cN (v:=.int 4) rfl m2 ⟨_,rfl⟩)) (aW _)) (ah (ak c7)) aZ)
   (ag (aC (i:=2) nd rfl (Or.inl rfl) (aT ab))
   (ag (cM PassesOwn.never rfl (wA rfl T.pD (aa az (aa (aS aM rfl T.len PySem.boot_len (aa (pv 1) ab)) (aa (pv 0) ab)))) (aJ (i:=3) nd rfl (Or.inl rfl))
    (ag (aC (i:=4) nd rfl (Or.inl rfl) (qS uW (pv 1) (kZ (pv 3)) (kZ (cI tW (pv 3) (pv 0)))))
    (ag (bL (fE (df (aw GI hr rfl mi FI.kp bi .nil au (aa (pv 4) (aa (pv 0) ab))))) (ah (ak c7)) aZ)
    (ah (dC (fb plainAttrs_list PySem.F.slot_list_append PySem.F.type_list_append dw (pv 2) (aa (bO fH rfl T.tup jB (aa (pv 4) ab)) ab)))))))
   (ah (ak (pv 2)))))),?_⟩
  refine⟨_,rfl,_,_,rfl,rfl,_,rfl,?_⟩;refine c9 (fun c=>?_) (fun c=>?_)
  ·have c':=of_decide_eq_true c;exact k0 (by unfold parts;rw[if_pos (.inl (by omega))]) H (aj.refl H)
  have c0:0<n:=by
   have:=of_decide_eq_false (Bool.eq_false_iff.mpr c);omega
  refine⟨_,rfl,_,_,rfl,rfl,_,rfl,?_⟩;by_cases c6:6<n
  ·rw[decide_eq_true (show(6:Int)<n by omega)];exact k0 (by unfold parts;rw[if_pos (.inr c6)]) H (aj.refl H)
  rw[decide_eq_false (show¬(6:Int)<n by omega)];have hp:parts n l=Vg01.shuffles n l:=by unfold parts;rw[if_neg (by omega)]
  refine⟨_,rfl,a,_,rfl,.inl ha,_,rfl,_,_,rfl,rfl,.inl ⟨by omega,by omega⟩,_,_,rfl,rfl,_,rfl,?_⟩;rw[length_map];refine c9 (fun c=>?_) (fun c=>?_)
  ·have c':=of_decide_eq_true c;exact k0 (by rw[hp];exact Mg.nL c0 (by omega)) H (aj.refl H)
  have c4:l.length<=4*n:=by
   have:=of_decide_eq_false (Bool.eq_false_iff.mpr c);omega
  refine⟨zero_le _,fun q hq=>?_⟩;have s0:aj H (upd H q (.lst [])):=aj.upd hq;have hln:(iv l).length=l.length:=by simp
  refine⟨_,rfl,a,_,rfl,.inl (s0.seq ha),_,rfl,0,(l.length:Nat),(n:Nat),turnsOf n l,by rw[hln],BF c0 (by omega) (by omega),?_⟩;refine uh (fun i σ H'=>∃v3 v4:Option V,∃ts:List Addr,σ=[some (.int n),some (.ref a),some (.ref q),v3,v4]/\aj H H'/\H' q=some (.lst (ts.map V.ref)) /\
   a9 H' ts ((range i).map (rowAt n l))/\∀j,j<i->Vg01.isShuffle n (rowAt n l j)=true) ⟨_,_,[],rfl,s0,ae,.nil,fun j hj=>by omega⟩ ?_ ?_
  ·rintro i σ H' hi ⟨v3,v4,ts,rfl,s1,hq1,ht,hg⟩;refine⟨_,rfl,_,rfl,_,rfl,_,rfl,_,rfl,_,_,rfl,rfl,_,rfl,a,_,rfl,s1.seq ha,fun p hpn=>?_⟩;rw[Cw];have s2:aj H' (upd H' p (.lst (iv (rowAt n l i)))):=aj.upd hpn;have hrl:(rowAt n l i).length<=n:=by unfold rowAt;rw[length_take];omega
   refine⟨_,rfl,_,rfl,p,_,_,rfl,aH.of ae,by omega,by omega,fun H3 s3=>?_⟩;refine⟨_,rfl,?_⟩;cases hb:Vg01.isShuffle n (rowAt n l i)with
   |false=>
    exact k0 (by rw[hp];exact Mg.pz c0 hi hb) H3 ((s1.trans s2).trans s3)
   |true=>
    have e3:=s3 _ _ (ae (H:=H') (a:=p) (o:=.lst (iv (rowAt n l i))));have hq3:=s3 _ _ (s2 _ _ hq1);refine⟨_,rfl,.inl ⟨rfl,_,aH.of hq3⟩,_,rfl,p,_,rfl,.inl ⟨aH.of e3,fun t htn=>?_⟩⟩;have s4:aj H3 (upd H3 t (.tup (iv (rowAt n l i)))):=aj.upd htn;refine⟨q,_,_,rfl,rfl,s4 _ _ hq3,?_,?_⟩
    ·have:=ht.length;rw[length_map,length_range]at this;have b:turnsOf n l<=l.length+n-1:=Nat.div_le_self _ _;rw[length_map,sizeLine_eq];omega
    ·have sF:aj H (upd H3 t (.tup (iv (rowAt n l i)))):=((s1.trans s2).trans s3).trans s4;refine⟨_,_,ts++[t],rfl,aj.over hq sF,by rw[ae,map_append];rfl,?_,fun j hj=>?_⟩
     ·rw[range_succ,map_append];have ne:∀(b:Addr)(x:DW),upd H3 t (.tup (iv (rowAt n l i))) b=some (.tup (iv x))->upd (upd H3 t (.tup (iv (rowAt n l i)))) q (.lst (ts.map V.ref++[V.ref t])) b=some (.tup (iv x)):=fun b x e=>by
       rw[ao (bw e (s4 _ _ hq3) (by intro z;cases z))];exact e
      refine a9.snoc (Paired.js (ht.same ((s2.trans s3).trans s4)) fun b x e=>ne b x e) (ne t _ ae)
     ·by_cases hji:j=i
      ·subst hji;exact hb
      ·exact hg j (by omega)
  ·rintro σ H' ⟨v3,v4,ts,rfl,s1,hq1,ht,hg⟩;refine⟨_,rfl,?_⟩;exact k1 _ (by rw[hp];exact Mg.nM c0 c4 hg) H' q ts s1 hq hq1 ht
end
open Vg01 (Group)
abbrev tK:Stmt:=top 10
abbrev yC:Stmt:=inClass tK 1
abbrev tJ:Stmt:=inClass tK 2
abbrev EU:Stmt:=inClass tK 3
abbrev yB:Stmt:=inClass tK 4
abbrev EJ:Stmt:=inClass tK 5
abbrev EG:Stmt:=inClass tK 6
abbrev aQ(H:Hp)(ts:List Addr)(r:L4):Prop:=Paired (fun t x=>H t=some (.lst (iv x))) ts r
theorem aQ.same{H H':Hp}{ts:List Addr}{r:L4}(h:aQ H ts r)(s:aj H H'):aQ H' ts r:=Paired.js h fun _ _ e=>s _ _ e
def tabOf(G:Group):L4:=G.all.map fun i=>G.all.map fun j=>G.times i j
structure GF(H:Hp)(fs:List (Str×V))(G:Group):Prop where
 names:∃l ts,fs.lookup ("names":Str)=some (.ref l)/\H l=some (.lst (ts.map V.ref))/\a9 H ts G.names
 words:∃l ts,fs.lookup ("words":Str)=some (.ref l)/\H l=some (.lst (ts.map V.ref))/\aQ H ts G.words
 table:∃l ts,fs.lookup ("table":Str)=some (.ref l)/\H l=some (.lst (ts.map V.ref))/\aQ H ts (tabOf G)
 gens:∃l,fs.lookup ("generators":Str)=some (.ref l)/\H l=some (.lst (iv G.gens))
 Lz:∃l,fs.lookup ("inverses":Str)=some (.ref l)/\H l=some (.lst (iv (G.all.map G.inverse)))
 fK:∀m∈(["size","times","inverse","turned","order","power"]:List Str),fs.lookup m=none
structure dQ(C:Addr)(H:Hp)(a:Addr)(G:Group):Prop where
 wf:Mg.WF G
 qo:G.gens.length<=4/\Pre G
 at_:∃dx fs,H a=some (.ins C dx fs)/\GF H fs G
theorem GF.same{H H':Hp}{fs:List (Str×V)}{G:Group}(h:GF H fs G)(s:aj H H'):GF H' fs G:=by
 obtain⟨⟨l1,t1,a1,b1,c1⟩,⟨l2,t2,a2,b2,c2⟩,⟨l3,t3,a3,b3,c3⟩,⟨l5,a5,b5⟩,⟨l4,a4,b4⟩,n⟩:=h;exact⟨⟨l1,t1,a1,s _ _ b1,c1.same s⟩,⟨l2,t2,a2,s _ _ b2,c2.same s⟩,⟨l3,t3,a3,s _ _ b3,c3.same s⟩,⟨l5,a5,s _ _ b5⟩,⟨l4,a4,s _ _ b4⟩,n⟩
theorem dQ.same{C:Addr}{H H':Hp}{a:Addr}{G:Group}(h:dQ C H a G)(s:aj H H'):dQ C H' a G:=by
 obtain⟨w,u,dx,fs,e,f⟩:=h;exact⟨w,u,dx,fs,s _ _ e,f.same s⟩
theorem dt{α β:Type}{F:α->β->Prop}:∀{l:List α}{m:List β},Paired F l m->∀{i:Nat}{y:β},m[i]?=some y->∃x,l[i]?=some x/\F x y
 |_,_,.nil,_,_,h=>by simp at h
 |_,_,.cons r t,0,y,h=>by simp at h;subst h;exact⟨_,rfl,r⟩
 |_,_,.cons r t,i+1,y,h=>by
  obtain⟨x,h1,h2⟩:=dt t (i:=i) (y:=y) (by simpa using h)
  exact⟨x,by simpa using h1,h2⟩
theorem xH{G:Group}{i:Nat}(hi:i<G.size):(tabOf G)[i]?=some (G.all.map fun j=>G.times i j):=by
 unfold tabOf Group.all;rw[getElem?_map,getElem?_range hi];rfl
theorem g9{G:Group}(f:Nat->Nat){j:Nat}(hj:j<G.size):(G.all.map f)[j]?=some (f j):=by
 unfold Group.all;rw[getElem?_map,getElem?_range hj];rfl
structure TG(K:Frag)(C:Addr):Prop where
 cl:xu K C
 nN:dP K C "names"
 nW:dP K C "words"
 nT:dP K C "table"
 nI:dP K C "inverses"
 nG:dP K C "generators"
section
variable{P:Program}{w:World}{K:Frag}{mg:GmT}{base:Heap}{C:Addr}
def cC(C:Addr):Sp:=fun vs H Q _=>∃(a:Addr)(G:Group),vs=[.ref a]/\dQ C H a G/\Q (.int G.size) H
theorem Eu:aq ["self"] ["self"] (af yC):=.m
theorem B2{f:Addr}{fd:FuncData}(F:bW K "size" "Group.size" yC f fd)(T:Tx mg)(TC:TG K C):aG P w K mg base bA 1 f fd ["self"] (cC C):=by
 exists F.ok Eu
 ·obtain⟨a,G,rfl,_⟩:=h;rfl
 ·obtain⟨a,G,rfl,⟨W,_,dx,fs,ha,hf⟩,k⟩:=h;obtain⟨l,ts,e1,e2,e3⟩:=hf.names;refine⟨_,ah (ak (aS aM rfl T.len PySem.boot_len (aa (cj (pv 0) rfl) ab))),?_⟩;refine⟨_,rfl,a,C,dx,_,_,rfl,ha,TC.cl,TC.nN,e1,l,_,rfl,.inl (aH.of e2),?_⟩;rw[length_map,e3.length,W.pK];exact k
def cK(C:Addr):Sp:=fun vs H Q _=>∃(a:Addr)(G:Group)(i j:Nat),vs=[.ref a,.int i,.int j]/\dQ C H a G/\i<G.size/\j<G.size/\Q (.int (G.times i j)) H
theorem Bb:aq ["self","i","j"] ["self","i","j"] (af tJ):=.m
theorem zq{f:Addr}{fd:FuncData}(F:bW K "times" "Group.times" tJ f fd)(TC:TG K C):aG P w K mg base bA 1 f fd ["self","i","j"] (cK C):=by
 exists F.ok Bb
 ·obtain⟨a,G,i,j,rfl,_⟩:=h;rfl
 ·obtain⟨a,G,i,j,rfl,⟨W,_,dx,fs,ha,hf⟩,hi,hj,k⟩:=h;obtain⟨l,ts,e1,e2,e3⟩:=hf.table;obtain⟨t,ht,hrow⟩:=dt e3 (xH hi);refine⟨_,ah (ak (bN bb (bN bb (cj (pv 0) rfl) (pv 1) (fun _ _=>rfl)) (pv 2) (fun _ _=>rfl))),?_⟩;refine⟨_,rfl,a,C,dx,_,_,rfl,ha,TC.cl,TC.nT,e1,_,rfl,l,_,_,_,rfl,rfl,aH.of e2,b9 (by rw[getElem?_map,ht];rfl),_,rfl,t,_,_,_,rfl,rfl,aH.of hrow,b9 (il (g9 _ hj)),?_⟩;exact k
def qE(C:Addr):Sp:=fun vs H Q _=>∃(a:Addr)(G:Group)(i:Nat),vs=[.ref a,.int i]/\dQ C H a G/\i<G.size/\Q (.int (G.inverse i)) H
theorem IZ:aq ["self","i"] ["self","i"] (af EU):=.m
theorem Gx{f:Addr}{fd:FuncData}(F:bW K "inverse" "Group.inverse" EU f fd)(TC:TG K C):aG P w K mg base bA 1 f fd ["self","i"] (qE C):=by
 exists F.ok IZ
 ·obtain⟨a,G,i,rfl,_⟩:=h;rfl
 ·obtain⟨a,G,i,rfl,⟨W,_,dx,fs,ha,hf⟩,hi,k⟩:=h;obtain⟨l,e1,e2⟩:=hf.Lz;refine⟨_,ah (ak (bN bb (cj (pv 0) rfl) (pv 1) (fun _ _=>rfl))),?_⟩;refine⟨_,rfl,a,C,dx,_,_,rfl,ha,TC.cl,TC.nI,e1,_,rfl,l,_,_,_,rfl,rfl,aH.of e2,b9 (il (g9 _ hi)),?_⟩;exact k
end
def aK(P:Program)(w:World)(K:Frag)(mg:GmT)(base:Heap)(C:Addr)(m:Str)(k:Nat)(ps:List Str)(sp:Sp):Prop:=
 ∃f fd,Meth K C m f/\aG P w K mg base bA k f fd ps sp/\Binds K fd ps []
def ay(P:Program)(w:World)(K:Frag)(mg:GmT)(base:Heap)(x:Str)(k:Nat)(ps:List Str)(sp:Sp):Prop:=
 ∃f fd,mg x=some (.ref f)/\PySem.W.keepIn K (.ref f)=true/\aG P w K mg base bA k f fd ps sp/\Binds K fd ps []
section
variable{P:Program}{w:World}{K:Frag}{mg:GmT}{base:Heap}{C:Addr}
def pj(C:Addr):Sp:=fun vs H Q _=>∃(a:Addr)(G:Group)(i j:Nat),vs=[.ref a,.int i,.int j]/\dQ C H a G/\i<G.size/\j<G.size/\Q (.int (G.turned i j)) H
theorem Et:aq ["self","i","j"] ["self","i","j"] (af yB):=.m
theorem BZ{f:Addr}{fd:FuncData}(F:bW K "turned" "Group.turned" yB f fd)(TC:TG K C)(MT:aK P w K mg base C "times" 1 ["self","i","j"] (cK C))(MI:aK P w K mg base C "inverse" 1 ["self","i"] (qE C)):
  aG P w K mg base bA 2 f fd ["self","i","j"] (pj C):=by
 obtain⟨ft,fdt,mt,Gt,bt⟩:=MT;obtain⟨fi,fdi,mi,Gi,bi⟩:=MI;exists F.ok Et
 ·obtain⟨a,G,i,j,rfl,_⟩:=h;rfl
 ·obtain⟨a,G,i,j,rfl,hG,hi,hj,k⟩:=h;obtain⟨W,_,dx,fs,ha,hf⟩:=id hG;have n1:=hf.fK "times" (by simp);have n2:=hf.fK "inverse" (by simp);refine⟨_,ah (ak (ba (pv 0) TC.cl mt Gt hr bt .nil au (aa (ba (pv 0) TC.cl mt Gt hr bt .nil au (aa (pv 2) (aa (pv 1) ab)))
   (aa (ba (pv 0) TC.cl mi Gi hr bi .nil au (aa (pv 2) ab)) ab)))),?_⟩
  refine⟨_,rfl,a,dx,_,rfl,ha,n1,_,rfl,a,dx,_,rfl,ha,n1,_,rfl,_,rfl,a,G,j,i,rfl,hG,hj,hi,_,rfl,a,dx,_,rfl,ha,n2,_,rfl,a,G,j,rfl,hG,hj,?_⟩;exact⟨a,G,_,_,rfl,hG,W.lt _ _ hj hi,W.aV hj,k⟩
def qB(C:Addr):Sp:=fun vs H Q _=>∃(a:Addr)(G:Group)(i:Nat),vs=[.ref a,.int i]/\dQ C H a G/\i<G.size/\Q (.int (G.order i)) H
theorem C5:aq ["self","i","k","reached"] ["self","i"] (af EJ):=.m
theorem Gg{f:Addr}{fd:FuncData}(F:bW K "order" "Group.order" EJ f fd)(TC:TG K C)(MT:aK P w K mg base C "times" 1 ["self","i","j"] (cK C)):
  aG P w K mg base bA 2 f fd ["self","i"] (qB C):=by
 obtain⟨ft,fdt,mt,Gt,bt⟩:=MT;exists F.ok C5
 ·obtain⟨a,G,i,rfl,_⟩:=h;rfl
 ·obtain⟨a,G,i,rfl,hG,hi,k⟩:=h;obtain⟨W,_,dx,fs,ha,hf⟩:=id hG;have n1:=hf.fK "times" (by simp);have nd:=C5.nd;refine⟨_,ag (aC (i:=2) nd rfl (Or.inl rfl) az) (ag (aC (i:=3) nd rfl (Or.inl rfl) (pv 1))
   (ag (eO PassesOwn.never (aX qX (pv 3) az (aW _)) (ag (aC (i:=3) nd rfl (Or.inl rfl) (ba (pv 0) TC.cl mt Gt hr bt .nil au (aa (pv 3) (aa (pv 1) ab))))
    (ah (lW (i:=2) nd rfl (Or.inl rfl) az ud)))) (ah (ak (pv 2))))),?_⟩
  have O:=W.cS hi;refine⟨_,rfl,?_⟩;refine⟨fun m σ H'=>H'=H/\∃n:Nat,0<n/\n+m=G.order i/\σ=[some (.ref a),some (.int i),some (.int n),some (.int (Vg01.powerOf G i n))],
   ⟨G.order i-1,rfl,1,by omega,by omega,by simp[Vg01.powerOf,W.a7 i hi];rfl⟩,?_⟩
  rintro m σ H' ⟨rfl,n,hn,hm,rfl⟩;have lp:=W.c5 hi n;refine⟨_,rfl,rfl,_,rfl,?_⟩;by_cases hz:Vg01.powerOf G i n=0
  ·have e:n=G.order i:=by
    apply byContradiction;intro q;exact O.2.2.2 n hn (by omega) hz
   rw[hz,e];exact⟨_,rfl,k⟩
  ·have:decide (V.int (Vg01.powerOf G i n)=V.int 0)=false:=decide_eq_false (by intro q;injection q with q;omega);rw[this];have hlt:n<G.order i:=by
    apply byContradiction;intro q;have:n=G.order i:=by omega
    rw[this]at hz;exact hz O.2.2.1
   refine⟨fun σ' H''=>H''=H'/\σ'=[some (.ref a),some (.int i),some (.int (n+1:Nat)),some (.int (Vg01.powerOf G i (n+1)))],?_,?_⟩
   ·rintro σ' H'' ⟨rfl,rfl⟩;exact⟨m-1,by omega,rfl,n+1,by omega,by omega,rfl⟩
   ·refine⟨_,rfl,a,dx,_,rfl,ha,n1,_,rfl,_,rfl,a,G,_,_,rfl,hG,lp,hi,?_⟩;exact⟨_,rfl,_,_,rfl,rfl,rfl,rfl⟩
def xX(C:Addr):Sp:=fun vs H Q _=>∃(a:Addr)(G:Group)(i n:Nat),vs=[.ref a,.int i,.int n]/\dQ C H a G/\i<G.size/\Q (.int (G.power i n)) H
theorem C2:aq ["self","i","n","reached","step"] ["self","i","n"] (af EG):=.m
theorem Gb{f:Addr}{fd:FuncData}(F:bW K "power" "Group.power" EG f fd)(T:Tx mg)(TC:TG K C)(MT:aK P w K mg base C "times" 1 ["self","i","j"] (cK C))(MO:aK P w K mg base C "order" 2 ["self","i"] (qB C)):
  aG P w K mg base bA 3 f fd ["self","i","n"] (xX C):=by
 obtain⟨ft,fdt,mt,Gt,bt⟩:=MT;obtain⟨fo,fdo,mo,Go,bo⟩:=MO;exists F.ok C2
 ·obtain⟨a,G,i,n,rfl,_⟩:=h;rfl
 ·obtain⟨a,G,i,n,rfl,hG,hi,k⟩:=h;obtain⟨W,_,dx,fs,ha,hf⟩:=id hG;have n1:=hf.fK "times" (by simp);have n2:=hf.fK "order" (by simp);have nd:=C2.nd;refine⟨_,ag (aC (i:=3) nd rfl (Or.inl rfl) az)
   (ag (cM PassesOwn.never rfl (cw rfl T.pD (aa (cI jQ (pv 2) (ba (pv 0) TC.cl mo Go hr bo .nil au (aa (pv 1) ab))) ab)) (aJ (i:=4) nd rfl (Or.inl rfl))
    (ah (aC (i:=3) nd rfl (Or.inl rfl) (ba (pv 0) TC.cl mt Gt (hr.mono (by decide)) bt .nil au (aa (pv 3) (aa (pv 1) ab))))))
   (ah (ak (pv 3)))),?_⟩
  have O:=W.cS hi;have hle:G.order i<=60:=le_trans O.2.1 W.le;have hmod:((n:Int)%(G.order i:Int))=((n%G.order i:Nat):Int):=by simp
  have hlt:n%G.order i<G.order i:=mod_lt _ O.1;refine⟨_,rfl,_,rfl,a,dx,_,rfl,ha,n2,_,rfl,a,G,i,rfl,hG,hi,_,_,rfl,rfl,by omega,_,rfl,by rw[hmod];omega,by rw[hmod];omega,?_⟩;rw[hmod,toNat_natCast];refine gj (fun t σ H'=>H'=H/\∃v:Option V,σ=[some (.ref a),some (.int i),some (.int n),some (.int (Vg01.powerOf G i t)),v]) ⟨rfl,none,rfl⟩ ?_ ?_
  ·rintro t σ H' ht ⟨rfl,v,rfl⟩;exact⟨_,rfl,a,dx,_,rfl,ha,n1,_,rfl,_,rfl,a,G,_,_,rfl,hG,W.c5 hi t,hi,rfl,_,rfl⟩
  ·rintro σ H' ⟨rfl,v,rfl⟩;exact⟨_,rfl,k⟩
end
abbrev EB:Stmt:=top 14
abbrev EN:Stmt:=top 15
abbrev E3:Stmt:=top 17
abbrev EO:Stmt:=top 18
abbrev ET:Stmt:=top 19
abbrev ES:Stmt:=top 20
abbrev Bu:Stmt:=top 21
abbrev Bv:Stmt:=top 22
def kn(l:DW):List (Key×V):=l.map fun(n:Nat)=>(Sum.inl (n:Int),V.bl true)
theorem ua:∀(l:DW)(x:Nat),(fA (kn l) (Sum.inl (x:Int))).isSome=l.contains x
 |[],x=>rfl
 |a::l,x=>by
  have ih:=ua l x
  show(fA ((Sum.inl (a:Int),V.bl true)::kn l) (Sum.inl (x:Int))).isSome=_
  by_cases e:a=x
  ·subst e;rw[g0 rfl];simp
  ·rw[fN (by intro q;injection q with q;omega),ih]
   have:¬x=a:=fun q=>e q.symm
   simp[this]
theorem Cb{l:DW}{x:Nat}(h:x∉l):fA (kn l) (Sum.inl (x:Int))=none:=by
 have:=ua l x;have h':l.contains x=false:=by simpa using h
 rw[h']at this;exact Option.isNone_iff_eq_none.mp (by simpa using this)
theorem zZ{l:DW}{x:Nat}(h:x∉l):putK (kn l) (Sum.inl (x:Int)) (V.bl true)=kn (l++[x]):=by
 rw[qM _ (Cb h)];simp[kn]
theorem ub(l:DW):(kn l).length=l.length:=by simp[kn]
section
variable{P:Program}{w:World}{K:Frag}{mg:GmT}{base:Heap}{C:Addr}
def xR(K:Frag)(C:Addr):Sp:=fun vs H Q _=>∃(a r:Addr)(G:Group)(l:DW),vs=[.ref a,.ref r]/\dQ C H a G/\aH K H r (iv l)/\Q (.bl (Vg02.isSet G l)) H
theorem CV:aq ["group","row","before","i"] ["group","row"] (af EB):=.m
theorem F2{f:Addr}{fd:FuncData}(F:bW K "is_set" "is_set" EB f fd)(TC:TG K C)(MS:aK P w K mg base C "size" 1 ["self"] (cC C)):aG P w K mg base bA 2 f fd ["group","row"] (xR K C):=by
 obtain⟨fz,fdz,mz,Gz,bz⟩:=MS;exists F.ok CV
 ·obtain⟨a,r,G,l,rfl,_⟩:=h;rfl
 ·obtain⟨a,r,G,l,rfl,hG,hl,k⟩:=h;obtain⟨W,_,dx,fs,ha,hf⟩:=id hG;have n1:=hf.fK "size" (by simp);have nd:=CV.nd;refine⟨_,ag (aC (i:=2) nd rfl (Or.inl rfl) (fW dW az))
   (ag (cM PassesOwn.never rfl (bM (pv 1)) (aJ (i:=3) nd rfl (Or.inl rfl))
    (ag (bL (PW.pt (yW (aX JD (pv 3) (pv 2) (aW _)) (tN (aX ve (pv 3) (aU (pv 0) TC.cl mz Gz hr bz .nil au) (aW _))))) (ah (ak gR)) aZ)
    (ah (aC (i:=2) nd rfl (Or.inl rfl) (pv 3)))))
   (ah (ak gR))),?_⟩
  refine⟨_,rfl,_,rfl,r,rfl,⟨_,hl⟩,?_⟩;refine dM (K:=K) (a:=r) (xs:=iv l) (fun t σ H'=>H'=H/\∃(b:Int)(v:Option V),σ=[some (.ref a),some (.ref r),some (.int b),v]/\(l.take t).Pairwise (·<·)/\(∀x∈l.take t,x<G.size/\(x:Int)<=b)/\(b=-1\/∃y∈l.take t,b=(y:Int)))
   ⟨rfl,-1,none,rfl,by simp,by simp,.inl rfl⟩ (fun t σ H' _⟨e,_⟩=>by rw[e];exact hl) ?_ ?_
  ·rintro t x σ H' hx ⟨rfl,b,v,rfl,p1,p2,p3⟩;obtain⟨n,hn,rfl⟩:=c8 hx;refine⟨_,rfl,_,rfl,_,_,rfl,rfl,_,rfl,?_⟩;refine c9 (fun c=>?_) (fun c=>?_)
   ·have c':=of_decide_eq_true c;have:Vg02.isSet G l=false:=oO hn (.inr (by
     rcases p3 with q|⟨y,hy,q⟩
     ·omega
     ·exact⟨y,hy,by omega⟩))
    rw[this]at k;exact k
   have c1:b<(n:Int):=by have:=of_decide_eq_false (Bool.eq_false_iff.mpr c);omega
   refine⟨_,rfl,_,rfl,a,dx,_,rfl,ha,n1,a,G,rfl,hG,_,_,rfl,rfl,_,rfl,?_⟩;refine c9 (fun c2=>?_) (fun c2=>?_)
   ·have c':=of_decide_eq_true c2;have:Vg02.isSet G l=false:=oO hn (.inl (by omega));rw[this]at k;exact k
   have c3:n<G.size:=by have:=of_decide_eq_false (Bool.eq_false_iff.mpr c2);omega
   have et:=aI hn;refine⟨_,rfl,rfl,n,_,rfl,?_,?_,.inr ⟨n,?_,rfl⟩⟩
   ·rw[et];refine List.pairwise_append.mpr ⟨p1,by simp,fun x hz y hy=>?_⟩;have hy':y=n:=by simpa using hy
    have:=(p2 x hz).2;omega
   ·rw[et];intro x hx;rcases Nj hx with q|q
    ·have:=p2 x q;exact⟨this.1,by omega⟩
    ·simp at q;subst q;exact⟨c3,by omega⟩
   ·rw[et];simp
  ·rintro σ H' ⟨rfl,b,v,rfl,p1,p2,p3⟩;rw[length_map,take_length]at p1 p2;have:Vg02.isSet G l=true:=Mg.aB.mpr ⟨p1,fun i hi=>(p2 i hi).1⟩;rw[this]at k;exact k
def j5(K:Frag)(C:Addr):Sp:=fun vs H Q _=>∃(a r:Addr)(G:Group)(l:DW),vs=[.ref a,.ref r]/\dQ C H a G/\aH K H r (iv l)/\(∀x∈l,x<G.size) /\
 ∀(H':Hp)(p:Addr),aj H H'->H p=none->H' p=some (.lst (iv (Vg02.least G l)))->Q (.ref p) H'
theorem C8:aq ["group","members","found","known","at","i","reached"] ["group","members"] (af EN):=.m
theorem Gm{f:Addr}{fd:FuncData}(F:bW K "least_subgroup" "least_subgroup" EN f fd)(T:Tx mg)(TC:TG K C)(MT:aK P w K mg base C "times" 1 ["self","i","j"] (cK C)):aG P w K mg base bA 2 f fd ["group","members"] (j5 K C):=by
 obtain⟨ft,fdt,mt,Gt,bt⟩:=MT;exists F.ok C8
 ·obtain⟨a,r,G,l,rfl,_⟩:=h;rfl
 ·obtain⟨a,r,G,g,rfl,hG,hl,hg,k⟩:=h;obtain⟨W,_,dx,fs,ha,hf⟩:=id hG;have n1:=hf.fK "times" (by simp);have nd:=C8.nd;have hu:=rT hr;refine⟨_,ag (aC (i:=2) nd rfl (Or.inl rfl) (aT (aa az ab)))
   (ag (aC (i:=3) nd rfl (Or.inl rfl) (BU (yZ az gR BN) rfl rfl (by simp) (by decide)))
   (ag (aC (i:=4) nd rfl (Or.inl rfl) az)
   (ag (eO PassesOwn.never (aX qY (pv 4) (aS aM rfl T.len PySem.boot_len (aa (pv 2) ab)) (aW _))
    (ag (cM PassesOwn.never rfl (bM (pv 1)) (aJ (i:=5) nd rfl (Or.inl rfl))
     (ag (aC (i:=6) nd rfl (Or.inl rfl) (ba (pv 0) TC.cl mt Gt hr bt .nil au (aa (bN bb (pv 2) (pv 4) (fun _ _=>rfl)) (aa (pv 5) ab))))
     (ah (bL (tO (oF hu (pv 6) (pv 3))) (ag (kY hu (pv 3) (pv 6) gR rfl)
      (ah (dC (fb plainAttrs_list PySem.F.slot_list_append PySem.F.type_list_append dw (pv 2) (aa (pv 6) ab))))) aZ))))
    (ah (lW (i:=4) nd rfl (Or.inl rfl) az ud))))
   (ah (ak (aS jX rfl T.II gn (aa (pv 2) ab))))))),?_⟩
  refine⟨tx,fun q hq=>?_⟩;refine fun d hd=>⟨ae,[(Sum.inl 0,V.bl true)],rfl,(by show 1<=15;decide),?_⟩;have hdq:H d=none:=(aj.upd hq).free hd;have nqd:q≠d:=ax (ae (H:=H) (a:=q) (o:=.lst [V.int 0])) hd;have sS:aj H (upd (upd (upd H q (.lst [V.int 0])) d (.dK [])) d (.dK (jR [] [(Sum.inl 0,V.bl true)]))):=aj.over hdq (aj.over hdq (aj.upd hq));have sp:∀(t:Nat)(x:Nat)(l:DW),uD G g l->x∈l->uD G g (br G (g.take t) x l)/\(∃r,br G (g.take t) x l=l++r)/\∀y∈g.take t,G.times x y∈br G (g.take t) x l:=fun t x l S hx=>
   Mg.fC (S.reach x hx) (g.take t) l (fun y hy=>mem_of_mem_take hy) S
  refine⟨fun m σ H'=>aj H H'/\∃(l:DW)(n:Nat)(v5 v6:Option V),σ=[some (.ref a),some (.ref r),some (.ref q),some (.ref d),some (.int n),v5,v6]/\uD G g l /\
   (∀(j x:Nat),j<n->l[j]?=some x->∀y∈g,G.times x y∈l)/\n<=l.length/\m+n=G.size/\H' q=some (.lst (iv l))/\H' d=some (.dK (kn l)),
   ⟨G.size,sS,[0],0,none,none,rfl,Mg.lN G g,fun j x hj=>by omega,by simp,rfl,by rw[ao nqd,ao nqd];exact ae,ae⟩,?_⟩
  rintro m σ H' ⟨s1,l,n,v5,v6,rfl,S,cl,hnl,hm,hq1,hd1⟩;have hll:l.length<=G.size:=ph W hg S;have hG1:=hG.same s1;refine⟨_,rfl,_,rfl,q,_,rfl,.inl (aH.of hq1),_,_,rfl,rfl,_,rfl,?_⟩;rw[length_map];refine c9 (fun c=>?_) (fun c=>?_)
  ·have hn:n<l.length:=by have:=of_decide_eq_true c;omega
   have hx:l[n]?=some l[n]:=getElem?_eq_getElem hn;have mx:l[n]∈l:=getElem_mem hn;refine⟨fun σ' H''=>aj H H''/\∃(l':DW)(v5 v6:Option V),σ'=[some (.ref a),some (.ref r),some (.ref q),some (.ref d),some (.int (n+1:Nat)),v5,v6]/\uD G g l' /\
    (∀(j x:Nat),j<n+1->l'[j]?=some x->∀y∈g,G.times x y∈l')/\n+1<=l'.length/\H'' q=some (.lst (iv l'))/\H'' d=some (.dK (kn l')),?_,?_⟩
   ·rintro σ' H'' ⟨s2,l',v5,v6,rfl,S',cl',hn',hq',hd'⟩;exact⟨m-1,by omega,s2,l',n+1,v5,v6,rfl,S',cl',hn',by have:=ph W hg S';omega,hq',hd'⟩
   ·refine⟨_,rfl,r,rfl,⟨_,s1.seq hl⟩,?_⟩;refine dM (K:=K) (a:=r) (xs:=iv g) (fun t σ H''=>aj H H''/\∃(v5 v6:Option V),σ=[some (.ref a),some (.ref r),some (.ref q),some (.ref d),some (.int n),v5,v6] /\
     H'' q=some (.lst (iv (br G (g.take t) l[n] l)))/\H'' d=some (.dK (kn (br G (g.take t) l[n] l)))) ⟨s1,v5,v6,rfl,hq1,hd1⟩ (fun t σ H'' _⟨s2,_⟩=>s2.seq hl) ?_ ?_
    ·rintro t v σ H'' ht ⟨s2,w5,w6,rfl,hq2,hd2⟩;obtain⟨y,hy,rfl⟩:=c8 ht;have my:=mem_of_getElem? hy;obtain⟨S2,⟨r2,e2⟩,_⟩:=sp t l[n] l S mx;have hG2:=hG.same s2;obtain⟨_,_,_,_,ha2,_⟩:=id hG2;have hxn:(br G (g.take t) l[n] l)[n]?=some l[n]:=by rw[e2,getElem?_append_left hn];exact hx
     have eS:=aI hy;have eN:=Mg.nF G (g.take t) y l[n] l;refine⟨_,rfl,a,dx,_,rfl,s2 _ _ ha,n1,_,rfl,_,rfl,q,_,_,_,rfl,rfl,aH.of hq2,b9 (il hxn),_,rfl,a,G,_,_,rfl,hG2,(S.reach _ mx).lt W hg,hg y my,?_⟩;refine⟨_,rfl,_,rfl,d,_,rfl,j3.k (k:=Sum.inl ((G.times l[n] y:Nat):Int)) hd2,_,rfl,?_⟩;rw[ua];cases hc:(br G (g.take t) l[n] l).contains (G.times l[n] y)with
     |true=>
      rw[hc,if_pos rfl]at eN;exact⟨s2,_,_,rfl,by rw[eS,eN];exact hq2,by rw[eS,eN];exact hd2⟩
     |false=>
      rw[hc,if_neg Ni]at eN;have hni:G.times l[n] y∉br G (g.take t) l[n] l:=by simpa using hc
      have hsl:=ph W hg S2;have hle:=W.le;refine⟨_,rfl,_,rfl,d,_,rfl,oh.k (k:=Sum.inl ((G.times l[n] y:Nat):Int)) hd2 (by rw[ub,sizeLine_eq];omega),?_⟩;rw[zZ hni];refine⟨_,rfl,.inl ⟨rfl,_,aH.of (by rw[ao nqd];exact hq2)⟩,_,rfl,q,_,_,rfl,rfl,by rw[ao nqd];exact hq2,by rw[length_map,sizeLine_eq];omega,?_⟩;refine⟨aj.over hq (aj.over hdq s2),_,_,rfl,?_,?_⟩
      ·rw[eS,eN,ae];simp[iv]
      ·rw[eS,eN,ao nqd.symm,ae]
    ·rintro σ H'' ⟨s2,w5,w6,rfl,hq2,hd2⟩;rw[length_map,take_length]at hq2 hd2;obtain⟨S2,⟨r2,e2⟩,c2⟩:=sp g.length l[n] l S mx;rw[take_length]at S2 e2 c2;refine⟨_,rfl,_,_,rfl,rfl,s2,_,w5,w6,rfl,S2,fun j x hj hjx y hy=>?_,by rw[e2,length_append];omega,hq2,hd2⟩;by_cases hjn:j=n
     ·subst hjn;have:x=l[j]:=by rw[e2,getElem?_append_left hn,hx]at hjx;exact(Nc hjx).symm
      subst this;exact c2 y hy
     ·have:l[j]?=some x:=by rw[e2,getElem?_append_left (by omega)]at hjx;exact hjx
      have h3:=cl j x (by omega) this y hy;rw[e2];exact List.mem_append.mpr (.inl h3)
  ·have hn:n=l.length:=by have:=of_decide_eq_false (Bool.eq_false_iff.mpr c);omega
   have hle:=W.le;have hq1':=hq1;rw[bH]at hq1';refine⟨_,rfl,q,_,rfl,aH.of hq1',by rw[length_map];omega,fun ns p hp hs hpn=>?_⟩;have hm':=Mg.wo W hg S (fun j x hj=>cl j x (by omega));have en:=iC hp hs S.nd (bp g) hm';refine k _ p (s1.trans (aj.upd hpn)) (s1.free hpn) ?_;rw[ae,en,bH]
end
def sJ(l:DW)(x:Nat):DW:=if l.contains x=true then l else l++[x]
theorem vT{l:DW}{x:Nat}(h:l.Nodup):(sJ l x).Nodup:=by
 unfold sJ;split
 ·exact h
 ·next q=>
  have hx:x∉l:=by simpa using q
  exact List.nodup_append.mpr ⟨h,by simp,by intro a ha b hb;simp at hb;subst hb;intro e;subst e;exact hx ha⟩
theorem sI{l:DW}{x y:Nat}:y∈sJ l x↔y∈l\/y=x:=by
 unfold sJ;split
 ·next q=>
  have hx:x∈l:=by simpa using q
  exact⟨.inl,fun h=>h.elim id fun e=>e▸hx⟩
 ·simp
theorem wV:∀{l:DW}{x:Nat},x∈l->putK (kn l) (Sum.inl (x:Int)) (V.bl true)=kn l:=fun{l x}h=>by
 unfold putK
 have:((kn l).any fun kv=>decide (kv.1=(Sum.inl (x:Int):Key)))=true:=List.any_eq_true.mpr ⟨(Sum.inl (x:Int),V.bl true),List.mem_map.mpr ⟨x,h,rfl⟩,by simp⟩
 rw[if_pos this]
 unfold kn
 rw[map_map]
 refine map_congr_left fun y _=>?_
 simp only[Function.comp]
 split
 ·rfl
 ·rfl
theorem z0(l:DW)(x:Nat):putK (kn l) (Sum.inl (x:Int)) (V.bl true)=kn (sJ l x):=by
 unfold sJ;split
 ·next q=>exact wV (by simpa using q)
 ·next q=>exact zZ (by simpa using q)
theorem vw(l:DW):(kn l).map (·.1)=(ii l).map Sum.inl:=by simp[kn,ii]
def tu(G:Group)(s:DW):DW:=Vg02.setOf G (turns G s).contains
section
variable{P:Program}{w:World}{K:Frag}{mg:GmT}{base:Heap}{C:Addr}
theorem mK{G:Group}(W:Mg.WF G){s:DW}(hs:∀x∈s,x<G.size)(x:Nat):x∈tu G s↔x∈turns G s:=by
 unfold tu;rw[cW,contains_iff_mem];exact⟨fun h=>h.2,fun h=>⟨fP W hs x h,h⟩⟩
def uU(K:Frag)(C:Addr):Sp:=fun vs H Q _=>∃(a r:Addr)(G:Group)(l:DW),vs=[.ref a,.ref r]/\dQ C H a G/\aH K H r (iv l)/\(∀x∈l,x<G.size) /\
 ∀(H':Hp)(p:Addr),aj H H'->H p=none->H' p=some (.lst (iv (tu G l)))->Q (.ref p) H'
theorem Dj:aq ["group","members","found","i","j"] ["group","members"] (af E3):=.m
theorem GU{f:Addr}{fd:FuncData}(F:bW K "all_turned" "all_turned" E3 f fd)(T:Tx mg)(TC:TG K C)(MS:aK P w K mg base C "size" 1 ["self"] (cC C))(MU:aK P w K mg base C "turned" 2 ["self","i","j"] (pj C)):
  aG P w K mg base bA 3 f fd ["group","members"] (uU K C):=by
 obtain⟨fz,fdz,mz,Gz,bz⟩:=MS;obtain⟨fu,fdu,mu,Gu,bu⟩:=MU;exists F.ok Dj
 ·obtain⟨a,r,G,l,rfl,_⟩:=h;rfl
 ·obtain⟨a,r,G,g,rfl,hG,hl,hg,k⟩:=h;obtain⟨W,_,dx,fs,ha,hf⟩:=id hG;have n1:=hf.fK "size" (by simp);have n2:=hf.fK "turned" (by simp);have nd:=Dj.nd;have hu:=rT hr;have hr1:bR 1 _:=hr.mono (by decide);refine⟨_,ag (aC (i:=2) nd rfl (Or.inl rfl) qT)
   (ag (cM PassesOwn.never rfl (bM (pv 1)) (aJ (i:=3) nd rfl (Or.inl rfl))
    (ah (cM PassesOwn.never rfl (cw rfl T.pD (aa (aU (pv 0) TC.cl mz Gz hr1 bz .nil au) ab)) (aJ (i:=4) nd rfl (Or.inl rfl))
     (ah (kY hu (pv 2) (ba (pv 0) TC.cl mu Gu hr bu .nil au (aa (pv 3) (aa (pv 4) ab))) gR rfl)))))
   (ah (ak (aS (m7 rfl) rfl T.II gn (aa (pv 2) ab))))),?_⟩
  have hle:=W.le;intro d hd;refine⟨_,rfl,r,rfl,⟨_,(aj.upd hd).seq hl⟩,?_⟩;have lenB:∀l:DW,l.Nodup->(∀x∈l,x<G.size)->l.length<=60:=fun l h1 h2=>by
   have:=sub_len h1 (l:=range G.size) fun x hx=>by simp[h2 x hx]
   simp at this;omega
  refine dM (K:=K) (a:=r) (xs:=iv g) (fun t σ H'=>aj H H'/\∃(l:DW)(v3 v4:Option V),σ=[some (.ref a),some (.ref r),some (.ref d),v3,v4]/\H' d=some (.dK (kn l))/\l.Nodup/\∀x,x∈l↔x∈turns G (g.take t))
   ⟨aj.upd hd,[],none,none,rfl,ae,by simp,by simp[turns]⟩ (fun t σ H' _⟨s2,_⟩=>s2.seq hl) ?_ ?_
  ·rintro t v σ H' ht ⟨s1,l,v3,v4,rfl,hd1,ndl,hml⟩;obtain⟨i,hi,rfl⟩:=c8 ht;have li:=hg i (mem_of_getElem? hi);have hG1:=hG.same s1;refine⟨_,rfl,a,dx,_,rfl,s1 _ _ ha,n1,a,G,rfl,hG1,_,rfl,by omega,by omega,?_⟩;rw[toNat_natCast];refine gj (fun u σ H'=>aj H H'/\∃(l:DW)(v4:Option V),σ=[some (.ref a),some (.ref r),some (.ref d),some (.int i),v4]/\H' d=some (.dK (kn l))/\l.Nodup/\∀x,x∈l↔x∈turns G (g.take t)\/∃j,j<u/\G.turned i j=x)
    ⟨s1,l,v4,rfl,hd1,ndl,fun x=>by rw[hml];simp⟩ ?_ ?_
   ·rintro u σ H2 hu2 ⟨s2,l,v4,rfl,hd2,ndl,hml⟩;have ll:∀x∈l,x<G.size:=fun x hx=>by
     rcases(hml x).mp hx with q|⟨j,hj,rfl⟩
     ·exact fP W (fun y hy=>hg y (mem_of_mem_take hy)) x q
     ·exact W.dY li (by omega)
    have hb:=lenB l ndl ll;refine⟨_,rfl,_,rfl,a,dx,_,rfl,s2 _ _ ha,n2,_,rfl,_,rfl,a,G,i,u,by simp,hG.same s2,li,hu2,?_⟩;refine⟨d,_,rfl,oh.k (k:=Sum.inl ((G.turned i u:Nat):Int)) hd2 (by rw[ub,sizeLine_eq];omega),?_⟩;rw[z0];refine⟨aj.over hd s2,_,_,rfl,ae,vT ndl,fun x=>?_⟩;rw[sI,hml,or_assoc];refine or_congr_right ?_;constructor
    ·rintro(⟨j,hj,q⟩|q)
     ·exact⟨j,by omega,q⟩
     ·exact⟨u,by omega,q.symm⟩
    ·rintro⟨j,hj,q⟩;by_cases e:j=u
     ·subst e;exact .inr q.symm
     ·exact .inl ⟨j,by omega,q⟩
   ·rintro σ H2 ⟨s2,l,v4,rfl,hd2,ndl,hml⟩;refine⟨s2,l,_,_,rfl,hd2,ndl,fun x=>?_⟩;rw[hml,aI hi];simp only[dy,mem_append,mem_singleton];constructor
    ·rintro(⟨y,hy,q⟩|⟨j,hj,q⟩)
     ·exact⟨y,.inl hy,q⟩
     ·exact⟨i,.inr rfl,j,hj,q⟩
    ·rintro⟨y,hy|rfl,j,hj,q⟩
     ·exact .inl ⟨y,hy,j,hj,q⟩
     ·exact .inr ⟨j,hj,q⟩
  ·rintro σ H2 ⟨s2,l,v3,v4,rfl,hd2,ndl,hml⟩;rw[length_map,take_length]at hml;refine⟨_,rfl,d,_,ii l,rfl,hd2,vw l,fun ns p hp hs hpn=>?_⟩;have en:=iC hp hs ndl (dA _) fun x=>by rw[hml];exact(mK W hg x).symm
   refine k _ p (s2.trans (aj.upd hpn)) (s2.free hpn) ?_;rw[ae,en,<-bH];rfl
end
theorem uA:bootBuiltins "all"=some (.builtin "all"):=by decide +kernel
theorem Ah{a b:DW}:ii a=ii b↔a=b:=by
 constructor
 ·intro h;have:=congrArg (List.map toNat) h;simpa[ii,Function.comp_def]using this
 ·intro h;rw[h]
section
variable{P:Program}{w:World}{K:Frag}{mg:GmT}{base:Heap}{C:Addr}
def qD(K:Frag)(C:Addr):Sp:=fun vs H Q _=>∃(a r:Addr)(G:Group)(l:DW),vs=[.ref a,.ref r]/\dQ C H a G/\aH K H r (iv l)/\(∀x∈l,x<G.size) /\
 ∀(H':Hp)(p:Addr),aj H H'->H p=none->H' p=some (.lst (iv (Vg02.leastNormal G l)))->Q (.ref p) H'
theorem IV:aq ["group","members"] ["group","members"] (af EO):=.m
theorem Gp{f:Addr}{fd:FuncData}(F:bW K "least_normal" "least_normal" EO f fd)(DL:ay P w K mg base "least_subgroup" 2 ["group","members"] (j5 K C))(DA:ay P w K mg base "all_turned" 3 ["group","members"] (uU K C)):
  aG P w K mg base bA 4 f fd ["group","members"] (qD K C):=by
 obtain⟨f1,fd1,m1,k1,G1,b1⟩:=DL;obtain⟨f2,fd2,m2,k2,G2,b2⟩:=DA;exists F.ok IV
 ·obtain⟨a,r,G,l,rfl,_⟩:=h;rfl
 ·obtain⟨a,r,G,g,rfl,hG,hl,hg,k⟩:=h;have W:=hG.wf;refine⟨_,ah (ak (aw G1 (hr.mono (by decide)) rfl m1 k1 b1 .nil au (aa (pv 0) (aa (aw G2 hr rfl m2 k2 b2 .nil au (aa (pv 0) (aa (pv 1) ab))) ab)))),?_⟩;refine⟨_,rfl,_,rfl,_,rfl,a,r,G,g,rfl,hG,hl,hg,fun H1 p s1 hpn hp=>?_⟩;have hts:∀x∈tu G g,x<G.size:=fun x hx=>(Mg.cW.mp hx).1;refine⟨a,p,G,tu G g,rfl,hG.same s1,aH.of hp,hts,fun H2 q s2 hqn hq=>?_⟩;refine k H2 q (s1.trans s2) (s1.free hqn) ?_;rw[hq,Mg.eV,ig W hts (mK W hg)]
def uT(K:Frag)(C:Addr):Sp:=fun vs H Q _=>∃(a r:Addr)(G:Group)(l:DW),vs=[.ref a,.ref r]/\dQ C H a G/\aH K H r (iv l)/\Vg02.isSet G l=true/\∀H':Hp,aj H H'->Q (.bl (Vg02.isGroup G l)) H'
def uS(K:Frag)(C:Addr):Sp:=fun vs H Q _=>∃(a r:Addr)(G:Group)(l:DW),vs=[.ref a,.ref r]/\dQ C H a G/\aH K H r (iv l)/\Vg02.isSet G l=true/\∀H':Hp,aj H H'->Q (.bl (Vg02.isNormal G l)) H'
theorem IX:aq ["group","members"] ["group","members"] (af ET):=.m
theorem IW:aq ["group","members"] ["group","members"] (af ES):=.m
theorem p0{H:Hp}{p r:Addr}{x y:DW}{Q:VK}(hp:H p=some (.lst (iv x)))(hr:aH K H r (iv y))(q:Q (.bl (decide (x=y))) H):Fz K (.ref p) (.ref r) H Q:=by
 rw[bH]at hp hr;refine⟨_,_,.lst (aH.of hp) (gN _),.lst hr (gN _),shaped_ints _,shaped_ints _,?_⟩;rw[sk];have:decide (ii x=ii y)=decide (x=y):=by rw[decide_eq_decide];exact Ah
 rw[show(x.map fun(n:Nat)=>(n:Int))=ii x from rfl,show(y.map fun(n:Nat)=>(n:Int))=ii y from rfl,this];exact q
theorem Gw{f:Addr}{fd:FuncData}(F:bW K "is_subgroup" "is_subgroup" ET f fd)(DL:ay P w K mg base "least_subgroup" 2 ["group","members"] (j5 K C)):aG P w K mg base bA 3 f fd ["group","members"] (uT K C):=by
 obtain⟨f1,fd1,m1,k1,G1,b1⟩:=DL;exists F.ok IX
 ·obtain⟨a,r,G,l,rfl,_⟩:=h;rfl
 ·obtain⟨a,r,G,g,rfl,hG,hl,hs,k⟩:=h;have W:=hG.wf;refine⟨_,ah (ak (cV (pH hr.units) (aw G1 hr rfl m1 k1 b1 .nil au (aa (pv 0) (aa (pv 1) ab))) (pv 1) (aW _))),?_⟩;refine⟨_,rfl,_,rfl,a,r,G,g,rfl,hG,hl,(Mg.aB.mp hs).2,fun H1 p s1 hpn hp=>⟨_,rfl,p0 hp (s1.seq hl) ?_⟩⟩;have:decide (Vg02.least G g=g)=Vg02.isGroup G g:=Bool.eq_iff_iff.mpr (by rw[decide_eq_true_iff];exact Mg.pT W hs);rw[this];exact k H1 s1
theorem Gv{f:Addr}{fd:FuncData}(F:bW K "is_normal" "is_normal" ES f fd)(DL:ay P w K mg base "least_normal" 4 ["group","members"] (qD K C)):aG P w K mg base bA 5 f fd ["group","members"] (uS K C):=by
 obtain⟨f1,fd1,m1,k1,G1,b1⟩:=DL;exists F.ok IW
 ·obtain⟨a,r,G,l,rfl,_⟩:=h;rfl
 ·obtain⟨a,r,G,g,rfl,hG,hl,hs,k⟩:=h;have W:=hG.wf;refine⟨_,ah (ak (cV (pH hr.units) (aw G1 hr rfl m1 k1 b1 .nil au (aa (pv 0) (aa (pv 1) ab))) (pv 1) (aW _))),?_⟩;refine⟨_,rfl,_,rfl,a,r,G,g,rfl,hG,hl,(Mg.aB.mp hs).2,fun H1 p s1 hpn hp=>⟨_,rfl,p0 hp (s1.seq hl) ?_⟩⟩;have:decide (Vg02.leastNormal G g=g)=Vg02.isNormal G g:=Bool.eq_iff_iff.mpr (by rw[decide_eq_true_iff];exact Mg.i4 W hs);rw[this];exact k H1 s1
def AE(G:Group)(l:DW)(i:Nat):Bool:=l.all fun j=>G.times i j==G.times j i
def ym(K:Frag)(C:Addr):Sp:=fun vs H Q _=>∃(a r:Addr)(G:Group)(i:Nat)(l:DW),vs=[.ref a,.int i,.ref r]/\dQ C H a G/\aH K H r (iv l)/\i<G.size/\l.length<=100/\(∀x∈l,x<G.size)/\∀H':Hp,aj H H'->Q (.bl (AE G l i)) H'
theorem yz:aq ["group","i","members","j"] ["group","i","members"] (af Bu):=.m
theorem GN{f:Addr}{fd:FuncData}(F:bW K "commutes" "commutes" Bu f fd)(ma:mg "all"=none)(TC:TG K C)(MT:aK P w K mg base C "times" 1 ["self","i","j"] (cK C)):aG P w K mg base bA 2 f fd ["group","i","members"] (ym K C):=by
 obtain⟨ft,fdt,mt,Gt,bt⟩:=MT;exists F.ok yz
 ·obtain⟨a,r,G,i,l,rfl,_⟩:=h;rfl
 ·obtain⟨a,r,G,i,g,rfl,hG,hl,hi,hgl,hg,k⟩:=h;obtain⟨W,_,dx,fs,ha,hf⟩:=id hG;have n1:=hf.fK "times" (by simp);refine⟨_,ah (ak (aS (uv rfl) rfl ma uA (aa (dm (own:=[("j",3)]) rfl yz.nd (bM (pv 2)) (bf (N:=["group","i","members","j"]) (sc:=af Bu) (by decide +kernel))
   (fun _ _ _ _ _=>aJ (i:=3) yz.nd rfl (Or.inl rfl)) (fun _ _ _ _ _=>bV)
   (fun _ _ _ _ _=>cV fZ (ba (pv 0) TC.cl mt Gt hr bt .nil au (aa (pv 1) (aa (pv 3) ab))) (ba (pv 0) TC.cl mt Gt hr bt .nil au (aa (pv 3) (aa (pv 1) ab))) (aW _))) ab))),?_⟩
  refine⟨_,rfl,r,rfl,⟨_,hl⟩,fun D hD=>?_⟩;refine dH (K:=K) (xs:=iv g) (gu H D fun t=>(g.map fun j=>V.bl (G.times i j==G.times j i)).take t) (gu.start hD rfl) (fun t H' _ p=>p.1.seq hl) (fun t v H' hv p=>?_) (fun H' p=>?_)
  ·obtain⟨j,hj,rfl⟩:=c8 hv;have lj:=hg j (mem_of_getElem? hj);have hG1:=hG.same p.1;have ha1:=p.1 _ _ ha;refine⟨rfl,_,rfl,a,dx,_,rfl,ha1,n1,_,rfl,_,rfl,a,G,i,j,rfl,hG1,hi,lj,_,rfl,a,dx,_,rfl,ha1,n1,_,rfl,_,rfl,a,G,j,i,rfl,hG1,lj,hi,rfl,?_⟩;refine p.push hD (aj.refl _) ?_ (fQ ?_)
   ·rw[length_take,length_map,sizeLine_eq];omega
   ·rw[getElem?_map,hj];simp only[Option.map_some,Option.some.injEq,V.bl.injEq];refine Bool.eq_iff_iff.mpr ?_;rw[beq_iff_eq,decide_eq_true_iff];constructor
    ·intro e;rw[e]
    ·intro e;injection e with e;omega
  ·have e:=p.done (by simp);refine⟨D,g.map fun j=>(G.times i j==G.times j i),rfl,aH.of (by rw[e,map_map];rfl),?_⟩;have:(g.map fun j=>(G.times i j==G.times j i)).all id=AE G g i:=by simp[AE,all_map,Function.comp_def]
   rw[this];exact k H' p.1
def yo(K:Frag)(C:Addr):Sp:=fun vs H Q _=>∃(a r:Addr)(G:Group)(l:DW),vs=[.ref a,.ref r]/\dQ C H a G/\aH K H r (iv l)/\l.length<=100/\(∀x∈l,x<G.size) /\
 ∀(H':Hp)(p:Addr),aj H H'->H p=none->H' p=some (.lst (iv (central G l)))->Q (.ref p) H'
theorem yA:aq ["group","members","i"] ["group","members"] (af Bv):=.m
theorem uz(G:Group)(l:DW):central G l=(range G.size).filter (AE G l):=by
 unfold central Vg02.setOf Group.all AE;refine filter_congr fun j _=>?_;congr 1;funext i;exact Bool.eq_iff_iff.mpr (by rw[beq_iff_eq,beq_iff_eq];exact eq_comm)
theorem GO{f:Addr}{fd:FuncData}(F:bW K "commuting" "commuting" Bv f fd)(T:Tx mg)(TC:TG K C)(MS:aK P w K mg base C "size" 1 ["self"] (cC C))(DC:ay P w K mg base "commutes" 2 ["group","i","members"] (ym K C)):aG P w K mg base bA 3 f fd ["group","members"] (yo K C):=by
 obtain⟨fz,fdz,mz,Gz,bz⟩:=MS;obtain⟨f1,fd1,m1,k1,G1,b1⟩:=DC;exists F.ok yA
 ·obtain⟨a,r,G,l,rfl,_⟩:=h;rfl
 ·obtain⟨a,r,G,g,rfl,hG,hl,hgl,hg,k⟩:=h;obtain⟨W,_,dx,fs,ha,hf⟩:=id hG;have n1:=hf.fK "size" (by simp);have hle:=W.le;refine⟨_,ah (ak (dm (own:=[("i",2)]) rfl yA.nd (cw rfl T.pD (aa (aU (pv 0) TC.cl mz Gz (hr.mono (by decide)) bz .nil au) ab)) (bf (N:=["group","members","i"]) (sc:=af Bv) (by decide +kernel))
   (fun _ _ _ _ _=>aJ (i:=2) yA.nd rfl (Or.inl rfl)) (fun _ _ _ _ _=>pE (df (aw G1 hr rfl m1 k1 b1 .nil au (aa (pv 0) (aa (pv 2) (aa (pv 1) ab)))))) (fun _ _ _ _ _=>pv 2))),?_⟩
  refine⟨_,rfl,a,dx,_,rfl,ha,n1,a,G,rfl,hG,_,rfl,by omega,by omega,fun D hD=>?_⟩;rw[toNat_natCast];refine dG (gu H D fun t=>iv ((range t).filter (AE G g))) (gu.start hD rfl) (fun t H' ht p=>?_) (fun H' p=>?_)
  ·refine⟨rfl,_,rfl,_,rfl,_,rfl,a,r,G,t,g,by simp,hG.same p.1,p.1.seq hl,ht,hgl,hg,fun H2 s2=>⟨_,rfl,?_⟩⟩;have e1:(range (t+1)).filter (AE G g)=(range t).filter (AE G g)++(if AE G g t=true then[t] else[]):=by
    rw[range_succ,filter_append,filter_cons,List.filter_nil]
   cases hc:AE G g t with
   |true=>
    rw[hc,if_pos rfl]at e1;refine⟨_,rfl,p.push hD s2 ?_ (by rw[e1];simp[iv])⟩;rw[length_map,sizeLine_eq];have:=length_filter_le (AE G g) (range t);rw[length_range]at this;omega
   |false=>
    rw[hc,if_neg Ni,append_nil]at e1;exact p.skip s2 (by rw[e1])
  ·refine k H' D p.1 hD ?_;rw[uz];exact p.2
end
abbrev Bj:Stmt:=top 49
abbrev Ld:Stmt:=inClass Bj 0
abbrev Le:Stmt:=inClass Bj 1
abbrev Lc:Stmt:=inClass Bj 2
abbrev Lb:Stmt:=inClass Bj 3
abbrev E1:Stmt:=top 50
def eY(a:Addr)(H H':Hp):Prop:=∀b o,H b=some o->b≠a->H' b=some o
theorem eY.trans{a:Addr}{H H1 H2:Hp}(x:eY a H H1)(y:eY a H1 H2):eY a H H2:=fun b o e n=>y b o (x b o e n) n
theorem eY.of{a:Addr}{H H':Hp}(s:aj H H'):eY a H H':=fun b o e _=>s b o e
theorem eY.upd{a:Addr}{H:Hp}{o:HO}:eY a H (upd H a o):=fun b u e n=>by rw[ao n];exact e
theorem eY.seq{K:Frag}{a l:Addr}{H H':Hp}{xs:List V}{C dx:Addr}{fs:List (Str×V)}(s:eY a H H')(ha:H a=some (.ins C dx fs))(h:aH K H l xs):aH K H' l xs:=by
 rcases h with(h|⟨o,h⟩)|h
 ·exact .inl (.inl (s _ _ h (bw h ha (by intro z;cases z))))
 ·exact .inl (.inr ⟨o,s _ _ h (bw h ha (by intro z;cases z))⟩)
 ·exact .inr h
def rf(l:Addr)(n:Nat):List (Str×V):=bU "at" (.int n) (bU "numbers" (.ref l) [])
theorem tL(l:Addr)(n:Nat):(rf l n).lookup ("numbers":Str)=some (.ref l):=by
 unfold rf;rw[aE,if_neg (by decide +kernel),aE,if_pos rfl]
theorem oA(l:Addr)(n:Nat):(rf l n).lookup ("at":Str)=some (.int n):=by
 unfold rf;rw[aE,if_pos rfl]
theorem qK(l:Addr)(n:Nat){m:Str}(h1:¬m="at")(h2:¬m="numbers"):(rf l n).lookup m=none:=by
 unfold rf;rw[aE,if_neg h1,aE,if_neg h2];rfl
theorem yM(l:Addr)(n m:Nat):bU "at" (.int m) (rf l n)=rf l m:=by
 have e:∀k:Nat,rf l k=[(("numbers":Str),V.ref l),(("at":Str),V.int k)]:=fun k=>by
  unfold rf;show(if("numbers":Str)="at" then _ else _)=_;rw[if_neg (by decide +kernel)];rfl
 rw[e,e];show(if("numbers":Str)="at" then _ else _)=_;rw[if_neg (by decide +kernel)];show _::(if("at":Str)="at" then _ else _)=_;rw[if_pos rfl]
def AN(C:Addr)(H:Hp)(a l:Addr)(n:Nat):Prop:=∃dx,H a=some (.ins C dx (rf l n))
structure TR(K:Frag)(C:Addr):Prop where
 cl:xu K C
 nN:dP K C "numbers"
 nA:dP K C "at"
section
variable{P:Program}{w:World}{K:Frag}{mg:GmT}{base:Heap}{C:Addr}
def Ep(C:Addr):Sp:=fun vs H Q _=>∃(a dx l:Addr),vs=[.ref a,.ref l]/\H a=some (.ins C dx [])/\∀H':Hp,AN C H' a l 0->eY a H H'->Q .cu H'
theorem K9:aq ["self","numbers"] ["self","numbers"] (af Ld):=.m
theorem JH{f:Addr}{fd:FuncData}(F:bW K "__init__" "Reader.__init__" Ld f fd)(TC:TR K C):aG P w K mg base bA 1 f fd ["self","numbers"] (Ep C):=by
 exists F.ok K9
 ·obtain⟨a,dx,l,rfl,_⟩:=h;rfl
 ·obtain⟨a,dx,l,rfl,ha,k⟩:=h;refine⟨_,ag (iV (pv 0) (pv 1) rfl) (ah (iV (pv 0) az rfl)),?_⟩;refine⟨_,rfl,_,rfl,a,C,dx,[],rfl,ha,TC.cl,TC.nN,(by show 0<1000;decide),_,rfl,a,C,dx,_,rfl,ae,TC.cl,TC.nA,(by show 1<1000;decide),?_⟩;refine k _ ⟨dx,ae⟩ ?_;exact eY.upd.trans eY.upd
def Er(K:Frag)(C:Addr):Sp:=fun vs H Q _=>∃(a l:Addr)(n:Nat)(ns:List V),vs=[.ref a]/\AN C H a l n/\aH K H l ns/\Q (.bl (decide (ns.length<=n))) H
theorem La:aq ["self"] ["self"] (af Le):=.m
theorem JI{f:Addr}{fd:FuncData}(F:bW K "ended" "Reader.ended" Le f fd)(T:Tx mg)(TC:TR K C):aG P w K mg base bA 1 f fd ["self"] (Er K C):=by
 exists F.ok La
 ·obtain⟨a,l,n,ns,rfl,_⟩:=h;rfl
 ·obtain⟨a,l,n,ns,rfl,⟨dx,ha⟩,hl,k⟩:=h;refine⟨_,ah (ak (cV ve (cj (pv 0) rfl) (aS aM rfl T.len PySem.boot_len (aa (cj (pv 0) rfl) ab)) (aW _))),?_⟩;refine⟨_,rfl,a,C,dx,_,_,rfl,ha,TC.cl,TC.nA,oA _ _,_,rfl,a,C,dx,_,_,rfl,ha,TC.cl,TC.nN,tL _ _,l,_,rfl,.inl hl,_,_,rfl,rfl,?_⟩;have:decide (((ns.length:Nat):Int)<=(n:Int))=decide (ns.length<=n):=by rw[decide_eq_decide];omega
  show Q (V.bl (decide (((ns.length:Nat):Int)<=(n:Int)))) H;rw[this];exact k
def xT(K:Frag)(C:Addr):Sp:=fun vs H Q _=>∃(a l:Addr)(n:Nat)(ns:List V)(z:V),vs=[.ref a]/\AN C H a l n/\aH K H l ns/\ns[n]?=some z/\∀H':Hp,AN C H' a l (n+1)->eY a H H'->Q z H'
theorem K8:aq ["self"] ["self"] (af Lc):=.m
theorem JG{f:Addr}{fd:FuncData}(F:bW K "take_number" "Reader.take_number" Lc f fd)(TC:TR K C):aG P w K mg base bA 1 f fd ["self"] (xT K C):=by
 exists F.ok K8
 ·obtain⟨a,l,n,ns,z,rfl,_⟩:=h;rfl
 ·obtain⟨a,l,n,ns,z,rfl,⟨dx,ha⟩,hl,hz,k⟩:=h;refine⟨_,ag (oB (pv 0) az Af) (ah (ak (bN bb (cj (pv 0) rfl) (cI zj (cj (pv 0) rfl) az) (fun _ _=>rfl)))),?_⟩;refine⟨_,rfl,a,C,dx,_,_,rfl,ha,TC.cl,TC.nA,oA _ _,?_⟩;have hl':aH K (upd H a (.ins C dx (rf l (n+1)))) l ns:=eY.upd.seq ha hl;refine⟨_,_,rfl,rfl,dx,_,ha,(by show 2<1000;decide),?_⟩;rw[show((n:Int)+1)=((n+1:Nat):Int)by push_cast;rfl,yM];refine⟨_,rfl,a,C,dx,_,_,rfl,ae,TC.cl,TC.nN,tL _ _,_,rfl,a,C,dx,_,_,rfl,ae,TC.cl,TC.nA,oA _ _,_,_,rfl,rfl,l,_,_,_,rfl,rfl,hl',at_of (j:=n) (by push_cast;omega) hz,?_⟩;exact k _ ⟨dx,ae⟩ eY.upd
def Eo(K:Frag)(C:Addr):Sp:=fun vs H Q _=>∃(a l:Addr)(n m:Nat)(ns:List V),vs=[.ref a]/\AN C H a l n/\aH K H l ns/\ns[n]?=some (.int m) /\
 ∀(H':Hp)(p:Addr),AN C H' a l (n+1+m)->eY a H H'->H p=none->H' p=some (.lst ((ns.drop (n+1)).take m))->Q (.ref p) H'
theorem IP:aq ["self","length"] ["self"] (af Lb):=.m
theorem eY.free{a:Addr}{H H':Hp}{p:Addr}{o:HO}(s:eY a H H')(ha:H' a=some o)(h:H' p=none):H p=none:=by
 cases q:H p with
 |none=>rfl
 |some u=>
  have:=s p u q (fun e=>by subst e;rw[ha]at h;cases h);rw[this]at h;cases h
theorem JF{f:Addr}{fd:FuncData}(F:bW K "take_row" "Reader.take_row" Lb f fd)(TC:TR K C)(MN:aK P w K mg base C "take_number" 1 ["self"] (xT K C)):aG P w K mg base bA 2 f fd ["self"] (Eo K C):=by
 obtain⟨fn,fdn,mn,Gn,bn⟩:=MN;exists F.ok IP
 ·obtain⟨a,l,n,m,ns,rfl,_⟩:=h;rfl
 ·obtain⟨a,l,n,m,ns,rfl,hR,hl,hz,k⟩:=h;obtain⟨dx,ha⟩:=id hR;refine⟨_,ag (aC (i:=1) IP.nd rfl (Or.inl rfl) (aU (pv 0) TC.cl mn Gn hr bn .nil au)) (ag (oB (pv 0) (pv 1) Af)
   (ah (ak (qS uW (cj (pv 0) rfl) (kZ (cI zj (cj (pv 0) rfl) (pv 1))) (kZ (cj (pv 0) rfl)))))),?_⟩
  refine⟨_,rfl,a,dx,_,rfl,ha,qK _ _ (by decide +kernel) (by decide +kernel),a,l,n,ns,_,rfl,hR,hl,hz,fun H1 hR1 b1=>?_⟩;obtain⟨d1,ha1⟩:=hR1;have hl1:=b1.seq ha hl;refine⟨_,rfl,a,C,d1,_,_,rfl,ha1,TC.cl,TC.nA,oA _ _,_,rfl,_,_,rfl,rfl,d1,_,ha1,(by show 2<1000;decide),?_⟩;rw[show(((n+1:Nat):Int)+(m:Int))=((n+1+m:Nat):Int)by push_cast;rfl,yM];have hl2:aH K (upd H1 a (.ins C d1 (rf l (n+1+m)))) l ns:=eY.upd.seq ha1 hl1;refine⟨_,rfl,a,C,d1,_,_,rfl,ae,TC.cl,TC.nN,tL _ _,_,rfl,a,C,d1,_,_,rfl,ae,TC.cl,TC.nA,oA _ _,_,rfl,_,_,rfl,rfl,_,rfl,_,rfl,a,C,d1,_,_,rfl,ae,TC.cl,TC.nA,oA _ _,_,rfl,l,_,rfl,hl2,fun p hp=>?_⟩;have e1:((n+1+m:Nat):Int)-(m:Int)=((n+1:Nat):Int):=by push_cast;omega
  rw[e1,vP,show n+1+m-(n+1)=m by omega];have hb:eY a H (upd H1 a (.ins C d1 (rf l (n+1+m)))):=b1.trans eY.upd;have hap:a≠p:=ax (ae (H:=H1) (a:=a) (o:=.ins C d1 (rf l (n+1+m)))) hp;exact k _ p ⟨d1,by rw[ao hap];exact ae⟩ (hb.trans (eY.of (aj.upd hp))) (hb.free ae hp) ae
def fS(K:Frag):Sp:=fun vs H Q _=>∃(a:Addr)(xs:List V),vs=[.ref a]/\(aH K H a xs\/gr K H a xs)/\xs.length<=10000001 /\
 ∀(H':Hp)(p:Addr),aj H H'->H p=none->H' p=some (.lst (.int (xs.length:Nat)::xs))->Q (.ref p) H'
theorem Jd:aq ["row"] ["row"] (af E1):=.m
theorem GL{f:Addr}{fd:FuncData}(F:bW K "counted" "counted" E1 f fd)(T:Tx mg):aG P w K mg base bA 1 f fd ["row"] (fS K):=by
 exists F.ok Jd
 ·obtain⟨a,xs,rfl,_⟩:=h;rfl
 ·obtain⟨a,xs,rfl,hx,hlen,k⟩:=h;refine⟨_,ah (ak (cI iY (aT (aa (aS aM rfl T.len PySem.boot_len (aa (pv 0) ab)) ab)) (bO qe rfl T.lst lC (aa (pv 0) ab)))),?_⟩;refine⟨_,rfl,a,_,rfl,hx,tx,fun q hq=>?_⟩;have s1:aj H (upd H q (.lst [V.int (xs.length:Nat)])):=aj.upd hq;refine⟨_,rfl,a,xs,rfl,hx.imp s1.seq s1.IK,fun p hp=>?_⟩;have s2:=aj.upd (o:=.lst xs) hp;refine⟨q,p,_,_,rfl,rfl,s2 _ _ ae,ae,?_,fun r hr'=>?_⟩
  ·show 1+xs.length<=sizeLine;rw[sizeLine_eq];omega
  ·exact k _ r ((s1.trans s2).trans (aj.upd hr')) (s1.free (s2.free hr')) ae
end
abbrev Ku:Stmt:=inClass tK 0
abbrev Br:Stmt:=top 11
abbrev Bg:Stmt:=top 12
def kk(x:DW):List Key:=x.map fun(n:Nat)=>(Sum.inl (n:Int):Key)
theorem vz(x:DW):iv x=(kk x).map kV:=by unfold kk;rw[map_map];rfl
theorem uc:∀{x y:DW},kk x=kk y->x=y
 |[],[],_=>rfl
 |[],_::_,h=>by cases h
 |_::_,[],h=>by cases h
 |a::x,b::y,h=>by
  have h':(Sum.inl (a:Int):Key)::kk x=Sum.inl (b:Int)::kk y:=h
  injection h' with h1 h2
  injection h1 with h1
  have:a=b:=by omega
  rw[this,uc h2]
def wJ:Nat->L4->List (List Key×V)
 |_,[]=>[]
 |k,x::r=>(kk x,V.int (k:Nat))::wJ (k+1) r
abbrev nd(ns:L4):List (List Key×V):=wJ 0 ns
theorem vj:∀(k:Nat)(ns:L4),(wJ k ns).length=ns.length
 |_,[]=>rfl
 |k,x::r=>by show(wJ (k+1) r).length+1=_;rw[vj];rfl
theorem mI:∀(k:Nat){ns:L4}{x:DW},x∉ns->fA (wJ k ns) (kk x)=none
 |_,[],_,_=>rfl
 |k,y::r,x,h=>by
  have h1:¬kk y=kk x:=fun e=>h (by rw[uc e];exact mem_cons_self)
  show fA ((kk y,V.int (k:Nat))::wJ (k+1) r) (kk x)=none
  rw[fN h1]
  exact mI (k+1) fun q=>h (mem_cons_of_mem _ q)
theorem rh:∀(k:Nat){ns:L4}{x:DW},x∈ns->fA (wJ k ns) (kk x)=some (V.int ((k+ns.idxOf x:Nat):Int))
 |_,[],_,h=>by cases h
 |k,y::r,x,h=>by
  show fA ((kk y,V.int (k:Nat))::wJ (k+1) r) (kk x)=_
  by_cases e:y=x
  ·subst e;rw[g0 rfl];simp
  ·have h1:¬kk y=kk x:=fun q=>e (uc q)
   have h2:x∈r:=(Nf h).resolve_left fun q=>e q.symm
   rw[fN h1,rh (k+1) h2]
   have e2:(y==x)=false:=by simpa using e
   rw[List.idxOf_cons,e2]
   congr 2
   simp only[cond_false]
   omega
theorem rm:∀(k:Nat)(ns:L4)(x:DW),wJ k (ns++[x])=wJ k ns++[(kk x,V.int ((k+ns.length:Nat):Int))]
 |k,[],x=>rfl
 |k,y::r,x=>by
  show(kk y,V.int (k:Nat))::wJ (k+1) (r++[x])=(kk y,V.int (k:Nat))::(wJ (k+1) r++_)
  rw[rm (k+1) r x,length_cons,show k+1+r.length=k+(r.length+1)by omega]
theorem pM{ns:L4}{x:DW}(h:x∈ns):fA (nd ns) (kk x)=some (V.int (ns.idxOf x:Nat)):=by rw[rh 0 h,Nat.zero_add]
theorem Hz{ns:L4}{x:DW}(h:x∉ns):putK (nd ns) (kk x) (V.int (ns.length:Nat))=nd (ns++[x]):=by
 rw[qM _ (mI 0 h)];show _=wJ 0 (ns++[x]);rw[rm,Nat.zero_add]
section
variable{P:Program}{w:World}{K:Frag}{mg:GmT}{base:Heap}{C:Addr}
structure Parts(H:Hp)(ln lw lt lg:Addr)(G:Group):Prop where
 names:∃ts,H ln=some (.lst (ts.map V.ref))/\a9 H ts G.names
 words:∃ts,H lw=some (.lst (ts.map V.ref))/\aQ H ts G.words
 table:∃ts,H lt=some (.lst (ts.map V.ref))/\aQ H ts (tabOf G)
 gens:H lg=some (.lst (iv G.gens))
def Es(C:Addr):Sp:=fun vs H Q _=>∃(a dx ln lw lt lg:Addr)(G:Group),vs=[.ref a,.ref ln,.ref lw,.ref lt,.ref lg]/\H a=some (.ins C dx [])/\Parts H ln lw lt lg G/\Mg.WF G/\(G.gens.length<=4/\Pre G) /\
 ∀H':Hp,dQ C H' a G->eY a H H'->Q .cu H'
theorem I0:aq ["self","names","words","table","generators","row"] ["self","names","words","table","generators"] (af Ku):=.m
theorem eY.paired{a:Addr}{H H':Hp}{C dx:Addr}{fs:List (Str×V)}{ts:List Addr}{r:L4}(h:aQ H ts r)(b:eY a H H')(ha:H a=some (.ins C dx fs)):aQ H' ts r:=
 Paired.js h fun t x e=>b _ _ e (bw e ha (by intro z;cases z))
theorem eY.pairedT{a:Addr}{H H':Hp}{C dx:Addr}{fs:List (Str×V)}{ts:List Addr}{r:L4}(h:a9 H ts r)(b:eY a H H')(ha:H a=some (.ins C dx fs)):a9 H' ts r:=
 Paired.js h fun t x e=>b _ _ e (bw e ha (by intro z;cases z))
theorem Parts.but{a:Addr}{H H':Hp}{C dx:Addr}{fs:List (Str×V)}{ln lw lt lg:Addr}{G:Group}(h:Parts H ln lw lt lg G)(b:eY a H H')(ha:H a=some (.ins C dx fs)):Parts H' ln lw lt lg G:=by
 obtain⟨⟨t1,a1,b1⟩,⟨t2,a2,b2⟩,⟨t3,a3,b3⟩,a4⟩:=h;have n:∀l xs,H l=some (.lst xs)->H' l=some (.lst xs):=fun l xs e=>b _ _ e (bw e ha (by intro z;cases z));exact⟨⟨t1,n _ _ a1,eY.pairedT b1 b ha⟩,⟨t2,n _ _ a2,eY.paired b2 b ha⟩,⟨t3,n _ _ a3,eY.paired b3 b ha⟩,n _ _ a4⟩
theorem Parts.same{H H':Hp}{ln lw lt lg:Addr}{G:Group}(h:Parts H ln lw lt lg G)(b:aj H H'):Parts H' ln lw lt lg G:=by
 obtain⟨⟨t1,a1,b1⟩,⟨t2,a2,b2⟩,⟨t3,a3,b3⟩,a4⟩:=h;exact⟨⟨t1,b _ _ a1,b1.same b⟩,⟨t2,b _ _ a2,b2.same b⟩,⟨t3,b _ _ a3,b3.same b⟩,b _ _ a4⟩
def gf(ln lw lt lg li:Addr):List (Str×V):=bU "inverses" (.ref li) (bU "generators" (.ref lg) (bU "table" (.ref lt) (bU "words" (.ref lw) (bU "names" (.ref ln) []))))
theorem BC{G:Group}(W:Mg.WF G){i:Nat}(hi:i<G.size):(G.all.map fun j=>G.times i j)[G.inverse i]?=some 0/\∀m z,m<G.inverse i->(G.all.map fun j=>G.times i j)[m]?=some z->z≠0:=by
 have li:=W.aV hi;refine⟨by rw[g9 _ li,W.cy hi],fun m z hm hz e=>?_⟩;have lm:m<G.size:=by omega
 rw[g9 _ lm]at hz;have:G.times i m=0:=by rw[Nc hz,e]
 have:=W.gh hi lm this;omega
theorem JL{f:Addr}{fd:FuncData}(F:bW K "__init__" "Group.__init__" Ku f fd)(TC:TG K C):aG P w K mg base bA 1 f fd ["self","names","words","table","generators"] (Es C):=by
 exists F.ok I0
 ·obtain⟨a,dx,ln,lw,lt,lg,G,rfl,_⟩:=h;rfl
 ·obtain⟨a,dx,ln,lw,lt,lg,G,rfl,ha,hp,W,fw,k⟩:=h;have hnd:=I0.nd;refine⟨_,ag (iV (pv 0) (pv 1) rfl) (ag (iV (pv 0) (pv 2) rfl) (ag (iV (pv 0) (pv 3) rfl) (ag (iV (pv 0) (pv 4) rfl)
   (ah (iV (pv 0) (dm (own:=[("row",5)]) rfl hnd (bM (pv 3)) (bf (N:=["self","names","words","table","generators","row"]) (sc:=af Ku) (by decide +kernel))
    (fun _ _ _ _ _=>aJ (i:=5) hnd rfl (Or.inl rfl)) (fun _ _ _ _ _=>bV)
    (fun _ _ _ _ _=>FL (r:=yV K) K plainAttrs_list slot_list_index type_list_index rA (pv 5) (aa az ab))) rfl))))),?_⟩
  refine⟨_,rfl,_,rfl,a,C,dx,[],rfl,ha,TC.cl,TC.nN,(by show 0<1000;decide),_,rfl,_,rfl,a,C,dx,_,rfl,ae,TC.cl,TC.nW,(by show 1<1000;decide),
   _,rfl,_,rfl,a,C,dx,_,rfl,ae,TC.cl,TC.nT,(by show 2<1000;decide),_,rfl,_,rfl,a,C,dx,_,rfl,ae,TC.cl,TC.nG,(by show 3<1000;decide),?_⟩
  have b1:=((eY.upd (a:=a) (H:=H) (o:=.ins C dx (bU "names" (.ref ln) []))).trans (eY.upd (o:=.ins C dx (bU "words" (.ref lw) (bU "names" (.ref ln) []))))).trans ((eY.upd (o:=.ins C dx (bU "table" (.ref lt) (bU "words" (.ref lw) (bU "names" (.ref ln) []))))).trans
   (eY.upd (o:=.ins C dx (bU "generators" (.ref lg) (bU "table" (.ref lt) (bU "words" (.ref lw) (bU "names" (.ref ln) [])))))))
  have p1:=hp.but b1 ha;generalize eH:upd (upd (upd (upd H a (.ins C dx (bU "names" (.ref ln) []))) a (.ins C dx (bU "words" (.ref lw) (bU "names" (.ref ln) [])))) a (.ins C dx (bU "table" (.ref lt) (bU "words" (.ref lw) (bU "names" (.ref ln) []))))) a (.ins C dx (bU "generators" (.ref lg) (bU "table" (.ref lt) (bU "words" (.ref lw) (bU "names" (.ref ln) [])))))=H1 at b1 p1;have ha1:H1 a=some (.ins C dx (bU "generators" (.ref lg) (bU "table" (.ref lt) (bU "words" (.ref lw) (bU "names" (.ref ln) []))))):=by rw[<-eH];exact ae
  obtain⟨ts,et,rt⟩:=p1.table;have hle:=W.le;have tl:ts.length=G.size:=by rw[rt.length];simp[tabOf,Group.all]
  refine⟨_,rfl,lt,rfl,⟨_,aH.of et⟩,fun D hD=>?_⟩
  ·refine dH (K:=K) (xs:=ts.map V.ref) (gu H1 D fun t=>iv ((G.all.map G.inverse).take t)) (gu.start hD rfl) (fun t H' _ p=>p.1.seq (aH.of et)) (fun t v H' hv p=>?_) (fun H' p=>?_)
   ·rw[getElem?_map]at hv;have hlt:t<ts.length:=by
     apply byContradiction;intro q;rw[getElem?_eq_none (by omega)]at hv;cases hv
    rw[getElem?_eq_getElem hlt]at hv;obtain rfl:V.ref ts[t]=v:=Nc hv;have hts:t<G.size:=by omega
    obtain⟨x,hx,hrow⟩:=dt rt (xH hts);rw[getElem?_eq_getElem hlt]at hx;obtain rfl:ts[t]=x:=Nc hx;obtain⟨r1,r2⟩:=BC W hts;refine⟨rfl,_,rfl,.inl ⟨rfl,_,aH.of (p.1 _ _ hrow)⟩,ts[t],_,_,G.inverse t,V.int 0,rfl,rfl,aH.of (p.1 _ _ hrow),rfl,?_,il r1,by decide +kernel,fun m z hm hz=>?_,?_⟩
    ·rw[all_eq_true];intro y hy;obtain⟨n,_,rfl⟩:=Ng hy;rfl
    ·obtain⟨n,hn,rfl⟩:=c8 hz;have:=r2 m n hm hn;show decide ((n:Int)=0)=false;exact decide_eq_false (by omega)
    ·refine p.push hD (aj.refl _) ?_ ?_
     ·rw[length_map,length_take,sizeLine_eq];omega
     ·rw[aI (g9 _ hts)];simp[iv]
   ·rw[length_map,tl]at p;have e:H' D=some (.lst (iv (G.all.map G.inverse))):=by
     have:H' D=some (.lst (iv ((G.all.map G.inverse).take G.size))):=p.2;rw[take_of_length_le (by simp[Group.all])]at this;exact this
    refine⟨_,rfl,a,C,dx,_,rfl,p.1 _ _ ha1,TC.cl,TC.nI,(by show 4<1000;decide),?_⟩;have s1:=p.1;have haD:a≠D:=ax ha1 hD;have p2:Parts (upd H' a (.ins C dx (gf ln lw lt lg D))) ln lw lt lg G:=(p1.same s1).but eY.upd (s1 _ _ ha1);obtain⟨⟨t1,a1,c1⟩,⟨t2,a2,c2⟩,⟨t3,a3,c3⟩,a4⟩:=p2;refine k _ ⟨W,fw,dx,gf ln lw lt lg D,ae,⟨ln,t1,?_,a1,c1⟩,⟨lw,t2,?_,a2,c2⟩,⟨lt,t3,?_,a3,c3⟩,⟨lg,?_,a4⟩,⟨D,?_,by rw[ao haD.symm];exact e⟩,fun m hm=>?_⟩ ?_
    ·unfold gf;rw[aE,if_neg (by decide +kernel),aE,if_neg (by decide +kernel),aE,if_neg (by decide +kernel),aE,if_neg (by decide +kernel),aE,if_pos rfl]
    ·unfold gf;rw[aE,if_neg (by decide +kernel),aE,if_neg (by decide +kernel),aE,if_neg (by decide +kernel),aE,if_pos rfl]
    ·unfold gf;rw[aE,if_neg (by decide +kernel),aE,if_neg (by decide +kernel),aE,if_pos rfl]
    ·unfold gf;rw[aE,if_neg (by decide +kernel),aE,if_pos rfl]
    ·unfold gf;rw[aE,if_pos rfl]
    ·have:∀m∈(["size","times","inverse","turned","order","power"]:List Str),¬m=("inverses":Str)/\¬m=("generators":Str)/\¬m=("table":Str)/\¬m=("words":Str)/\¬m=("names":Str):=by decide +kernel
     obtain⟨q1,q2,q3,q4,q5⟩:=this m hm;unfold gf;rw[aE,if_neg q1,aE,if_neg q2,aE,if_neg q3,aE,if_neg q4,aE,if_neg q5];rfl
    ·exact(b1.trans (eY.of s1)).trans eY.upd
end
structure MulOk(P:Program)(w:World)(K:Frag)(mg:GmT)(base:Heap)(H:Hp)(fp:Addr)(mul:DW->DW->DW)(Pd:DW->Prop):Prop where
 ex:∃fd ps sp,aG P w K mg base bA 2 fp fd ps sp/\Binds K fd ps [] /\
  ∀(H1:Hp)(b c:Addr)(x y:DW)(Q1:VK),aj H H1->H1 b=some (.tup (iv x))->H1 c=some (.tup (iv y))->Pd x->Pd y ->
   (∀(H2:Hp)(p:Addr),aj H1 H2->H1 p=none->H2 p=some (.tup (iv (mul x y)))->Q1 (.ref p) H2)->sp [.ref b,.ref c] H1 Q1 E0
 fk:∀H1,aj H H1->AW K H1 fp
theorem MulOk.same{P:Program}{w:World}{K:Frag}{mg:GmT}{base:Heap}{H H':Hp}{fp:Addr}{mul:DW->DW->DW}{Pd:DW->Prop}(M:MulOk P w K mg base H fp mul Pd)(s:aj H H'):MulOk P w K mg base H' fp mul Pd:=by
 obtain⟨⟨fd,ps,sp,F,B,k⟩,fk⟩:=M;exact⟨⟨fd,ps,sp,F,B,fun H1 b c x y Q1 s1=>k H1 b c x y Q1 (s.trans s1)⟩,fun H1 s1=>fk H1 (s.trans s1)⟩
structure LY(mg:GmT):Prop where
 en:mg "enumerate"=none
 most:∃t,mg "MOST_IN_A_GROUP"=some (.int 60 t)
theorem ku{H:Hp}{ts:List Addr}{r:L4}{i:Nat}{v:V}(h:a9 H ts r)(hv:(ts.map V.ref)[i]?=some v):∃t x,ts[i]?=some t/\v=V.ref t/\r[i]?=some x/\H t=some (.tup (iv x)):=by
 rw[getElem?_map]at hv;cases e:ts[i]? with
 |none=>rw[e]at hv;cases hv
 |some t=>
  rw[e]at hv;obtain⟨x,hx,h2⟩:=bP h e;exact⟨t,x,rfl,(Nc hv).symm,hx,h2⟩
theorem BA{H:Hp}{ts:List Addr}{r:L4}{i:Nat}{v:V}(h:aQ H ts r)(hv:(ts.map V.ref)[i]?=some v):∃t x,ts[i]?=some t/\v=V.ref t/\r[i]?=some x/\H t=some (.lst (iv x)):=by
 rw[getElem?_map]at hv;cases e:ts[i]? with
 |none=>rw[e]at hv;cases hv
 |some t=>
  rw[e]at hv;obtain⟨x,hx,h2⟩:=bP h e;exact⟨t,x,rfl,(Nc hv).symm,hx,h2⟩
theorem aQ.snoc{H:Hp}:∀{ts:List Addr}{r:L4}{t:Addr}{x:DW},aQ H ts r->H t=some (.lst (iv x))->aQ H (ts++[t]) (r++[x])
 |_,_,_,_,.nil,e=>.cons e .nil
 |_,_,_,_,.cons a b,e=>.cons a (aQ.snoc b e)
theorem Paired.mapM{α β:Type}{F G:α->β->Prop}:∀{l:List α}{m:List β},Paired F l m->(∀a b,a∈l->F a b->G a b)->Paired G l m
 |_,_,.nil,_=>.nil
 |_,_,.cons r t,f=>.cons (f _ _ mem_cons_self r) (Paired.mapM t fun a b m=>f a b (mem_cons_of_mem _ m))
theorem BI{H:Hp}{ts:List Addr}{q b:Addr}{x:DW}(hq:H q=some (.lst (ts.map V.ref)))(hb:b∈ts)(e:H b=some (.lst (iv x))):b≠q:=fun z=>by
 subst z
 rw[e]at hq
 have e1:iv x=ts.map V.ref:=by injection hq with q;injection q
 cases ts with
 |nil=>cases hb
 |cons t ts=>
  cases x with
  |nil=>cases e1
  |cons n x=>injection e1 with e1 _;cases e1
theorem aQ.put{H:Hp}{ts:List Addr}{r:L4}{q:Addr}(h:aQ H ts r)(hq:H q=some (.lst (ts.map V.ref)))(o:HO):aQ (upd H q o) ts r:=
 Paired.mapM h fun b x m e=>by rw[ao (BI hq m e)];exact e
section
variable{P:Program}{w:World}{K:Frag}{mg:GmT}{base:Heap}{C:Addr}
def kz(mul:DW->DW->DW)(ns:L4):L4:=ns.map fun a=>ns.map fun b=>ns.idxOf (mul a b)
def xO(P:Program)(w:World)(K:Frag)(mg:GmT)(base:Heap):Sp:=fun vs H Q _=>∃(ln d fp:Addr)(ns:L4)(ts:List Addr)(mul:DW->DW->DW)(Pd:DW->Prop),vs=[.ref ln,.ref d,.ref fp] /\
 H ln=some (.lst (ts.map V.ref))/\a9 H ts ns/\H d=some (.dT (nd ns))/\MulOk P w K mg base H fp mul Pd/\(∀x∈ns,Pd x)/\(∀x∈ns,∀y∈ns,mul x y∈ns)/\ns.length<=60 /\
 ∀(H':Hp)(p:Addr)(rs:List Addr),aj H H'->H p=none->H' p=some (.lst (rs.map V.ref))->aQ H' rs (kz mul ns)->Q (.ref p) H'
theorem CS:aq ["names","numbers","product","table","first","second"] ["names","numbers","product"] (af Bg):=.m
theorem FY{f:Addr}{fd:FuncData}(F:bW K "table_of" "table_of" Bg f fd):aG P w K mg base bA 3 f fd ["names","numbers","product"] (xO P w K mg base):=by
 exists F.ok CS
 ·obtain⟨ln,d,fp,ns,ts,mul,Pd,rfl,_⟩:=h;rfl
 ·obtain⟨ln,d,fp,ns,ts,mul,Pd,rfl,hln,hts,hd,M,hP,hm,hl,k⟩:=h;have hnd:=CS.nd;have hu:=rT hr;have tl:ts.length=ns.length:=hts.length;refine⟨_,ag (aC (i:=3) hnd rfl (Or.inl rfl) (aT ab))
   (ag (cM PassesOwn.never rfl (bM (pv 0)) (aJ (i:=4) hnd rfl (Or.inr rfl))
    (ah (dC (fb plainAttrs_list PySem.F.slot_list_append PySem.F.type_list_append dw (pv 3) (aa
     (dm (own:=[("second",5)]) rfl hnd (bM (pv 0)) (bf (N:=["names","numbers","product","table","first","second"]) (sc:=af Bg) (by decide +kernel))
      (fun _ _ _ _ _=>aJ (i:=5) hnd rfl (Or.inl rfl)) (fun _ _ _ _ _=>bV)
      (fun _ _ _ _ _=>u6 hu (pv 1) (oE P w K mg base (pv 2) hr au (aa (pv 4) (aa (pv 5) ab))) (fun _ _=>rfl))) ab)))))
   (ah (ak (pv 3)))),?_⟩
  refine⟨zero_le _,fun q hq=>?_⟩;have s0:aj H (upd H q (.lst [])):=aj.upd hq;refine⟨_,rfl,ln,rfl,⟨_,aH.of (s0 _ _ hln)⟩,?_⟩;refine dM (K:=K) (a:=ln) (xs:=ts.map V.ref) (fun i σ H'=>∃(v4 v5:Option V)(rs:List Addr),σ=[some (.ref ln),some (.ref d),some (.ref fp),some (.ref q),v4,v5]/\aj H H'/\H' q=some (.lst (rs.map V.ref))/\aQ H' rs ((kz mul ns).take i))
   ⟨none,none,[],rfl,s0,ae,.nil⟩ (fun i σ H' _⟨_,_,_,_,s1,_⟩=>aH.of (s1 _ _ hln)) ?_ ?_
  ·rintro i v σ H' hi ⟨v4,v5,rs,rfl,s1,hq1,hr1⟩;obtain⟨t,x,ht,rfl,hx,hxt⟩:=ku hts hi;have mx:=mem_of_getElem? hx;refine⟨_,rfl,.inl ⟨rfl,_,aH.of hq1⟩,_,rfl,ln,rfl,⟨_,aH.of (s1 _ _ hln)⟩,fun D hD=>?_⟩;refine dH (K:=K) (xs:=ts.map V.ref) (gu H' D fun j=>iv ((ns.map fun b=>ns.idxOf (mul x b)).take j)) (gu.start hD rfl) (fun j H2 _ p=>p.1.seq (aH.of (s1 _ _ hln))) (fun j v H2 hj p=>?_) (fun H2 p=>?_)
   ·obtain⟨u,y,hu',rfl,hy,hyu⟩:=ku hts hj;have my:=mem_of_getElem? hy;have s2:=s1.trans p.1;obtain⟨fd1,ps1,sp1,F1,B1,k1⟩:=M.ex;refine⟨rfl,_,rfl,_,rfl,fp,fd1,ps1,sp1,rfl,F1,B1,M.fk _ s2,_,rfl,_,rfl,M.fk _ s2,k1 H2 t u x y _ s2 (s2 _ _ hxt) (s2 _ _ hyu) (hP x mx) (hP y my) fun H3 p3 s3 hp3 hv3=>?_⟩;have s3':=s2.trans s3;have hv3':=hv3;rw[vz]at hv3';have g:=j3.t (k:=kk (mul x y)) (s3' _ _ hd) hv3';rw[pM (hm x mx y my)]at g;refine⟨d,_,rfl,g,?_⟩
    ·refine p.push hD s3 ?_ ?_
     ·rw[length_map,length_take,length_map,sizeLine_eq];omega
     ·rw[aI (x:=ns.idxOf (mul x y)) (by rw[getElem?_map,hy];rfl)];simp[iv]
   ·have e:H2 D=some (.lst (iv (ns.map fun b=>ns.idxOf (mul x b)))):=by
     have:H2 D=some (.lst (iv ((ns.map fun b=>ns.idxOf (mul x b)).take (ts.map V.ref).length))):=p.2;rw[take_of_length_le (by simp[tl])]at this;exact this
    have hi':i<ns.length:=(Nd hx).1;refine⟨q,_,_,rfl,rfl,p.1 _ _ hq1,?_,?_⟩
    ·have l1:=hr1.length;rw[length_take]at l1;rw[length_map,sizeLine_eq];omega
    ·refine⟨_,_,rs++[D],rfl,aj.over hq (s1.trans p.1),by rw[ae,map_append];rfl,?_⟩;rw[aI (x:=ns.map fun b=>ns.idxOf (mul x b)) (by unfold kz;rw[getElem?_map,hx];rfl)];have hqD:q≠D:=ax hq1 hD;have up:∀(b:Addr)(z:DW),H2 b=some (.lst (iv z))->b≠q->upd H2 q (.lst (rs.map V.ref++[V.ref D])) b=some (.lst (iv z)):=fun b z e hb=>by rw[ao hb];exact e
     exact aQ.snoc ((hr1.same p.1).put (p.1 _ _ hq1) _) (up D _ e hqD.symm)
  ·rintro σ H' ⟨v4,v5,rs,rfl,s1,hq1,hr1⟩;rw[length_map,take_of_length_le (by unfold kz;rw[length_map];omega)]at hr1;exact⟨_,rfl,k H' q rs s1 hq hq1 hr1⟩
def oy(P:Program)(w:World)(K:Frag)(mg:GmT)(C:Addr)(base:Heap):Sp:=fun vs H Q _=>∃(a gl fp:Addr)(one:DW)(gens:L4)(gt:List Addr)(mul:DW->DW->DW)(Pd:DW->Prop),
 vs=[.ref a,.ref gl,.ref fp]/\H a=some (.tup (iv one))/\H gl=some (.lst (gt.map V.ref))/\a9 H gt gens/\Mg.Op mul one Pd/\(∀g∈gens,Pd g)/\gens.length<=4/\MulOk P w K mg base H fp mul Pd /\
 (Vg01.made mul one gens=none->∀H':Hp,aj H H'->Q .cu H') /\
 ∀G,Vg01.made mul one gens=some G->∀(H':Hp)(p:Addr),aj H H'->H p=none->dQ C H' p G->Q (.ref p) H'
abbrev JW:List Str:=["one","generators","product","names","words","numbers","at","number","generator","reached","name"]
theorem Df:aq JW ["one","generators","product"] (af Br):=.m
structure sQ(H:Hp)(qn qw d:Addr)(ns wl dn:L4):Prop where
 nm:∃ts,H qn=some (.lst (ts.map V.ref))/\a9 H ts ns
 wd:∃ws,H qw=some (.lst (ws.map V.ref))/\aQ H ws wl
 nb:H d=some (.dT (nd dn))
theorem sQ.same{H H':Hp}{qn qw d:Addr}{ns wl dn:L4}(G:sQ H qn qw d ns wl dn)(s:aj H H'):sQ H' qn qw d ns wl dn:=by
 obtain⟨⟨ts,a1,b1⟩,⟨ws,a2,b2⟩,a3⟩:=G;exact⟨⟨ts,s _ _ a1,b1.same s⟩,⟨ws,s _ _ a2,b2.same s⟩,s _ _ a3⟩
theorem a9.put{H:Hp}{ts:List Addr}{r:L4}{q:Addr}{o u:HO}(h:a9 H ts r)(hq:H q=some o)(ho:∀xs,o≠.tup xs):a9 (upd H q u) ts r:=
 Paired.js h fun b x e=>by rw[ao (bw e hq (fun z=>ho _ z.symm))];exact e
theorem aQ.put2{H:Hp}{ts:List Addr}{r:L4}{q:Addr}{o u:HO}(h:aQ H ts r)(hq:H q=some o)(ho:∀x:DW,o≠.lst (iv x)):aQ (upd H q u) ts r:=
 Paired.js h fun b x e=>by rw[ao (bw e hq (fun z=>ho _ z.symm))];exact e
theorem eI{ts:List Addr}(h:ts≠[])(x:DW):HO.lst (ts.map V.ref)≠.lst (iv x):=fun e=>by
 injection e with e
 cases ts with
 |nil=>exact h rfl
 |cons t ts=>
  cases x with
  |nil=>cases e
  |cons n x=>injection e with e _;cases e
theorem fF{α β:Type}{l:List α}{m:List β}(h:l.length=m.length)(hm:m≠[]):l≠[]:=fun e=>by
 subst e
 cases m with
 |nil=>exact hm rfl
 |cons a m=>simp at h
theorem sQ.putD{H:Hp}{qn qw d:Addr}{ns wl dn:L4}(G:sQ H qn qw d ns wl dn)(dn':L4):sQ (upd H d (.dT (nd dn'))) qn qw d ns wl dn':=by
 obtain⟨⟨ts,a1,b1⟩,⟨ws,a2,b2⟩,a3⟩:=G;exact⟨⟨ts,by rw[ao (bw a1 a3 (by intro z;cases z))];exact a1,b1.put a3 (by intro xs z;cases z)⟩,⟨ws,by rw[ao (bw a2 a3 (by intro z;cases z))];exact a2,b2.put2 a3 (by intro xs z;cases z)⟩,ae⟩
theorem sQ.sJ{H:Hp}{qn qw d p:Addr}{ns wl dn:L4}{x:DW}(G:sQ H qn qw d ns wl dn)(hx:H p=some (.tup (iv x)))(ne:qn≠qw)(h0:ns≠[]):
  ∃ts:List Addr,H qn=some (.lst (ts.map V.ref))/\ts.length=ns.length/\sQ (upd H qn (.lst (ts.map V.ref++[V.ref p]))) qn qw d (ns++[x]) wl dn:=by
 obtain⟨⟨ts,a1,b1⟩,⟨ws,a2,b2⟩,a3⟩:=G;have ht:ts≠[]:=fF b1.length h0;refine⟨ts,a1,b1.length,⟨ts++[p],by rw[ae,map_append];rfl,a9.snoc (b1.put a1 (by intro xs z;cases z)) ?_⟩,⟨ws,by rw[ao ne.symm];exact a2,b2.put2 a1 (eI ht)⟩,?_⟩
 ·rw[ao (bw hx a1 (by intro z;cases z))];exact hx
 ·rw[ao (bw a3 a1 (by intro z;cases z))];exact a3
theorem sQ.addW{H:Hp}{qn qw d r:Addr}{ns wl dn:L4}{x:DW}(G:sQ H qn qw d ns wl dn)(hx:H r=some (.lst (iv x)))(ne:qn≠qw)(h0:wl≠[]):
  ∃ws:List Addr,H qw=some (.lst (ws.map V.ref))/\ws.length=wl.length/\sQ (upd H qw (.lst (ws.map V.ref++[V.ref r]))) qn qw d ns (wl++[x]) dn:=by
 obtain⟨⟨ts,a1,b1⟩,⟨ws,a2,b2⟩,a3⟩:=G;have ht:ws≠[]:=fF b2.length h0;refine⟨ws,a2,b2.length,⟨ts,by rw[ao ne];exact a1,b1.put a2 (by intro xs z;cases z)⟩,⟨ws++[r],by rw[ae,map_append];rfl,aQ.snoc (b2.put a2 _) ?_⟩,?_⟩
 ·rw[ao (bw hx a2 (fun z=>eI ht _ z.symm))];exact hx
 ·rw[ao (bw a3 a2 (by intro z;cases z))];exact a3
def Wd(l:Met):L4:=l.map fun x=>x.2
theorem Ig(l:Met):(Wd l).length=l.length:=by simp[Wd]
theorem pU(x:DW)(n:Nat):iv (x++[n])=iv x++[V.int (n:Nat)]:=by simp[iv]
theorem GA{f fT fI:Addr}{fd fdT fdI:FuncData}(F:bW K "generated" "generated" Br f fd)(T:Tx mg)(T3:LY mg)(M:Mk K C fI)(GI:aG P w K mg base bA 1 fI fdI ["self","names","words","table","generators"] (Es C))(bI:Binds K fdI ["self","names","words","table","generators"] [])(mC:mg "Group"=some (.ref C))(DT:ay P w K mg base "table_of" 3 ["names","numbers","product"] (xO P w K mg base)):aG P w K mg base bA 4 f fd ["one","generators","product"] (oy P w K mg C base):=by
 obtain⟨fT,fdT,mT,kT,GT,bT⟩:=DT;obtain⟨tm,m60⟩:=T3.most;exists F.ok Df
 ·obtain⟨a,gl,fp,one,gens,gt,mul,Pd,rfl,_⟩:=h;rfl
 ·obtain⟨a,gl,fp,one,gens,gt,mul,Pd,rfl,ha,hgl,hgt,O,hg,hg4,MO,k0,k1⟩:=h;have hnd:=Df.nd;have hu:=rT hr;have gtl:gt.length=gens.length:=hgt.length;refine⟨_,ag (aC (i:=3) hnd rfl (Or.inl rfl) (aT (aa (pv 0) ab)))
   (ag (aC (i:=4) hnd rfl (Or.inl rfl) (aT (aa (aT ab) ab)))
   (ag (aC (i:=5) hnd rfl (Or.inr rfl) (y6 hu (pv 0) az))
   (ag (aC (i:=6) hnd rfl (Or.inl rfl) az)
   (ag (eO PassesOwn.never (aX qY (pv 6) (aS aM rfl T.len PySem.boot_len (aa (pv 3) ab)) (aW _))
    (ag (cM PassesOwn.never rfl (BP rfl T3.en (aa (pv 1) ab)) (pF rfl (eh (aJ (i:=7) hnd rfl (Or.inl rfl)) (eh (aJ (i:=8) hnd rfl (Or.inl rfl)) k6)))
     (ag (aC (i:=9) hnd rfl (Or.inl rfl) (oE P w K mg base (k:=2) (pv 2) (hr.mono (by decide)) au (aa (bN bb (pv 3) (pv 6) (fun _ _=>rfl)) (aa (pv 8) ab))))
     (ah (bL (tO (oF hu (pv 9) (pv 5)))
      (ag (bL (aX fZ (aS aM rfl T.len PySem.boot_len (aa (pv 3) ab)) (cN (v:=.int 60) rfl m60 ⟨_,rfl⟩) (aW _)) (ah (ak c7)) aZ)
      (ag (kY hu (pv 5) (pv 9) (aS aM rfl T.len PySem.boot_len (aa (pv 3) ab)) rfl)
      (ag (dC (fb plainAttrs_list PySem.F.slot_list_append PySem.F.type_list_append dw (pv 3) (aa (pv 9) ab)))
      (ah (dC (fb plainAttrs_list PySem.F.slot_list_append PySem.F.type_list_append dw (pv 4) (aa (cI iY (bN bb (pv 4) (pv 6) (fun _ _=>rfl)) (aT (aa (pv 7) ab))) ab))))))) aZ))))
    (ah (lW (i:=6) hnd rfl (Or.inl rfl) az ud))))
   (ah (ak (u4 M GI (hr.mono (by decide)) rfl mC bI .nil au (aa (pv 3) (aa (pv 4) (aa (aw GT hr rfl mT kT bT .nil au (aa (pv 3) (aa (pv 5) (aa (pv 2) ab))))
    (aa (dm (own:=[("name",10)]) rfl hnd (bM (pv 1)) (bf (N:=JW) (sc:=af Br) (by decide +kernel))
     (fun _ _ _ _ _=>aJ (i:=10) hnd rfl (Or.inl rfl)) (fun _ _ _ _ _=>bV) (fun _ _ _ _ _=>u6 hu (pv 5) (pv 10) (fun _ _=>rfl))) ab))))))))))),?_⟩
  refine⟨_,rfl,tx,fun qn hqn=>?_⟩;have s1:aj H (upd H qn (.lst [V.ref a])):=aj.upd hqn;refine⟨zero_le _,fun e0 he0=>⟨tx,fun qw hqw=>?_⟩⟩;have s2:aj (upd H qn (.lst [V.ref a])) (upd (upd H qn (.lst [V.ref a])) e0 (.lst [])):=aj.upd he0;have s3:=aj.upd (o:=.lst [V.ref e0]) hqw;generalize eH3:upd (upd (upd H qn (.lst [V.ref a])) e0 (.lst [])) qw (.lst [V.ref e0])=H3 at s3;have s13:aj H H3:=(s1.trans s2).trans s3;have hqn3:H3 qn=some (.lst [V.ref a]):=s3 _ _ (s2 _ _ ae);have he3:H3 e0=some (.lst (iv [])):=s3 _ _ ae;have hqw3:H3 qw=some (.lst [V.ref e0]):=by rw[<-eH3];exact ae
  have nqw:H qw=none:=(s1.trans s2).free hqw;have nqnw:qn≠qw:=ax (s2 _ _ (ae (H:=H) (a:=qn) (o:=.lst [V.ref a]))) hqw;intro d hd;have ha3:=s13 _ _ ha;have sd1:aj H3 (upd H3 d (.dT [])):=aj.upd hd;have ha4:=sd1 _ _ ha3;rw[vz]at ha4;refine⟨_,rfl,a,kk one,rfl,ae,ha4,?_⟩;have nd0:H d=none:=s13.free hd;have s4:aj H3 (upd (upd H3 d (.dT [])) d (.dT [(kk one,V.int 0)])):=aj.over hd sd1;have hd4:upd (upd H3 d (.dT [])) d (.dT [(kk one,V.int 0)]) d=some (.dT (nd (Mg.nm [(one,[])]))):=ae;generalize upd (upd H3 d (.dT [])) d (.dT [(kk one,V.int 0)])=H4 at s4 hd4;have s14:aj H H4:=s13.trans s4;have G0:sQ H4 qn qw d (Mg.nm [(one,[])]) (Wd [(one,[])]) (Mg.nm [(one,[])]):=
   ⟨⟨[a],s4 _ _ hqn3,.cons (s14 _ _ ha) .nil⟩,⟨[e0],s4 _ _ hqw3,.cons (s4 _ _ he3) .nil⟩,hd4⟩
  have nmL:∀l:Met,(Mg.nm l).length=l.length:=Mg.pL;refine⟨fun m σ H'=>aj H H'/\∃(l:Met)(n:Nat)(v7 v8 v9:Option V),σ=[some (.ref a),some (.ref gl),some (.ref fp),some (.ref qn),some (.ref qw),some (.ref d),some (.int n),v7,v8,v9,none]/\Mg.dU mul one gens l/\Mg.Short l /\
   Vg01.growFrom mul gens 60 (62-n) n l=Vg01.growFrom mul gens 60 62 0 [(one,[])]/\n<=l.length/\l.length<=60/\m+n=61/\sQ H' qn qw d (Mg.nm l) (Wd l) (Mg.nm l),
   ⟨61,s14,[(one,[])],0,none,none,none,rfl,Mg.e6,by intro p hp;simp at hp;subst hp;simp,rfl,by simp,by simp,rfl,G0⟩,?_⟩
  rintro m σ H' ⟨s5,l,n,v7,v8,v9,rfl,GR,SH,eg,hnl,hl60,hm,GS⟩;obtain⟨ts,hts1,hts2⟩:=GS.nm;have tsl:ts.length=l.length:=by rw[hts2.length,nmL]
  refine⟨_,rfl,_,rfl,qn,_,rfl,.inl (aH.of hts1),_,_,rfl,rfl,_,rfl,?_⟩;rw[length_map,tsl];refine c9 (fun c=>?_) (fun c=>?_)
  ·have hn:n<l.length:=by have:=of_decide_eq_true c;omega
   have hx:l[n]?=some l[n]:=getElem?_eq_getElem hn;have mx:l[n]∈l:=getElem_mem hn;have g61:62-n=(61-n)+1:=by omega
   have gst:=Mg.oP (mul:=mul) (gens:=gens) (most:=60) (f:=61-n) hx;rw[<-g61,eg]at gst;refine⟨fun σ' H''=>aj H H''/\∃(l':Met)(v7 v8 v9:Option V),σ'=[some (.ref a),some (.ref gl),some (.ref fp),some (.ref qn),some (.ref qw),some (.ref d),some (.int (n+1:Nat)),v7,v8,v9,none]/\l'=dz mul gens l[n] gens.length l/\l'.length<=60 /\
    sQ H'' qn qw d (Mg.nm l') (Wd l') (Mg.nm l'),?_,?_⟩
   ·rintro σ' H'' ⟨s6,l',w7,w8,w9,rfl,el,hl',GS'⟩;obtain⟨GR',r,er⟩:=mY (mul:=mul) (one:=one) (gens:=gens) gens.length GR mx;rw[<-el]at GR' er gst;rw[if_neg (by omega)]at gst;refine⟨m-1,by omega,s6,l',n+1,w7,w8,w9,rfl,GR',by rw[el];exact Mg.sf _ SH mx,?_,by rw[er,length_append];omega,hl',by omega,GS'⟩;rw[gst,show 62-(n+1)=61-n by omega]
   ·
    refine⟨_,rfl,gl,_,rfl,aH.of (s5 _ _ hgl),?_⟩;refine pZ (n:=gens.length) (fun t σ H''=>aj H H''/\∃(v7 v8 v9:Option V),σ=[some (.ref a),some (.ref gl),some (.ref fp),some (.ref qn),some (.ref qw),some (.ref d),some (.int n),v7,v8,v9,none] /\
     (dz mul gens l[n] t l).length<=60/\sQ H'' qn qw d (Mg.nm (dz mul gens l[n] t l)) (Wd (dz mul gens l[n] t l)) (Mg.nm (dz mul gens l[n] t l))) ⟨s5,v7,v8,v9,rfl,hl60,GS⟩ ?_ ?_ ?_ ?_
    ·rintro t σ H'' ht ⟨s6,_⟩;exact⟨gt.map V.ref,V.ref gt[t],aH.of (s6 _ _ hgl),by rw[getElem?_map,getElem?_eq_getElem (by omega)];rfl⟩
    ·rintro t v σ H'' H7 ht ⟨s6,w7,w8,w9,rfl,hl6,G6⟩ ⟨T1,x1,rfl,hT1,rfl,hx1⟩;have hgv:=hx1 _ (aH.of (s6 _ _ hgl));obtain⟨gA,g,hgA,rfl,hgg,hgH⟩:=ku hgt hgv;have mg':=mem_of_getElem? hgg;have s7:aj H'' (upd H'' T1 (.tup [V.int (t:Nat),V.ref gA])):=aj.upd hT1;generalize eH7:upd H'' T1 (.tup [V.int (t:Nat),V.ref gA])=H7 at s7;have hT7:H7 T1=some (.tup [V.int (t:Nat),V.ref gA]):=by rw[<-eH7];exact ae
     have s67:=s6.trans s7;have G7:=G6.same s7;obtain⟨GRt,r,er⟩:=mY (mul:=mul) (one:=one) (gens:=gens) t GR mx;have eS:=Mg.ui (mul:=mul) (gens:=gens) (x:=l[n]) hgg l;have mono1:=Mg.uj (mul:=mul) (gens:=gens) (x:=l[n]) (l:=l) (t+1);generalize eLt:dz mul gens l[n] t l=lt at hl6 G7 GRt er eS;have hxt:lt[n]?=some l[n]:=by rw[er,getElem?_append_left hn];exact hx
     have hxN:(Mg.nm lt)[n]?=some l[n].1:=by unfold Mg.nm;rw[getElem?_map,hxt];rfl
     have hxW:(Wd lt)[n]?=some l[n].2:=by unfold Wd;rw[getElem?_map,hxt];rfl
     obtain⟨ts7,q7,r7⟩:=G7.nm;have l7:ts7.length=lt.length:=by rw[r7.length,nmL]
     obtain⟨xa,hxa,hxa2⟩:=dt r7 hxN;have Px:Pd l[n].1:=Mg.iH O hg GR _ (by unfold Mg.nm;exact List.mem_map.mpr ⟨l[n],mx,rfl⟩);obtain⟨fd1,ps1,sp1,F1,B1,k1'⟩:=MO.ex;refine⟨T1,_,rfl,gr.of hT7,rfl,_,_,rfl,_,_,rfl,rfl,?_⟩;refine⟨_,rfl,fp,fd1,ps1,sp1,rfl,F1,B1,MO.fk _ s67,_,rfl,_,rfl,qn,_,_,_,rfl,rfl,aH.of q7,b9 (by rw[getElem?_map,hxa];rfl),_,rfl,MO.fk _ s67,
      k1' H7 xa gA l[n].1 g _ s67 hxa2 (s67 _ _ hgH) Px (hg g mg') fun H8 p8 s8 hp8 hv8=>?_⟩
     have s68:=s67.trans s8;have G8:=G7.same s8;have hv8':=hv8;rw[vz]at hv8';refine⟨_,rfl,_,rfl,d,_,rfl,j3.t (k:=kk (mul l[n].1 g)) G8.nb hv8',_,rfl,?_⟩;by_cases hin:mul l[n].1 g∈Mg.nm lt
     ·rw[pM hin];have e2:dz mul gens l[n] (t+1) l=lt:=by rw[eS,Mg.wL hin]
      refine⟨s68,_,_,_,rfl,?_,?_⟩
      ·rw[e2];exact hl6
      ·rw[e2];exact G8
     ·rw[mI 0 hin];have e2:dz mul gens l[n] (t+1) l=lt++[(mul l[n].1 g,l[n].2++[t])]:=by rw[eS,Mg.wM hin]
      have ns0:Mg.nm lt≠[]:=fun e=>by rw[e]at hxN;cases hxN
      obtain⟨ts8,q8,r8⟩:=G8.nm;have l8:ts8.length=lt.length:=by rw[r8.length,nmL]
      refine⟨_,rfl,qn,_,rfl,.inl (aH.of q8),rfl,_,rfl,?_⟩;rw[length_map,l8];by_cases h60:lt.length=60
      ·rw[decide_eq_true (show V.int ((lt.length:Nat):Int)=V.int 60 by rw[h60];rfl)];rw[e2,length_append,h60]at mono1;have:Vg01.made mul one gens=none:=by
        rw[k8];rw[if_pos (by simp at mono1;omega)]at gst;have gst':Vg01.growFrom mul gens Vg01.MOST (Vg01.MOST+2) 0 [(one,[])]=none:=gst;rw[gst'];rfl
       exact k0 this H8 s68
      ·have hq60:decide (V.int ((lt.length:Nat):Int)=V.int 60)=false:=decide_eq_false (by intro q;injection q with q;omega);rw[hq60];have hdl:(nd (Mg.nm lt)).length<sizeLine:=by rw[vj,nmL,sizeLine_eq];omega
       refine⟨_,rfl,qn,_,rfl,.inl (aH.of q8),_,rfl,_,rfl,d,_,rfl,oh.t (k:=kk (mul l[n].1 g)) G8.nb hv8' hdl,?_⟩;rw[length_map,l8,<-nmL lt,Hz hin];have G9:=G8.putD (Mg.nm lt++[mul l[n].1 g]);have s9:aj H (upd H8 d (.dT (nd (Mg.nm lt++[mul l[n].1 g])))):=aj.over nd0 s68;have hp9:upd H8 d (.dT (nd (Mg.nm lt++[mul l[n].1 g]))) p8=some (.tup (iv (mul l[n].1 g))):=by rw[ao (bw hv8 G8.nb (by intro z;cases z))];exact hv8
       generalize upd H8 d (.dT (nd (Mg.nm lt++[mul l[n].1 g])))=H9 at G9 s9 hp9;obtain⟨ts9,q9,r9,G10⟩:=G9.sJ hp9 nqnw ns0;refine⟨_,rfl,.inl ⟨rfl,_,aH.of q9⟩,_,rfl,qn,_,_,rfl,rfl,q9,by rw[length_map,r9,nmL,sizeLine_eq];omega,?_⟩;have s10:aj H (upd H9 qn (.lst (ts9.map V.ref++[V.ref p8]))):=aj.over hqn s9;generalize upd H9 qn (.lst (ts9.map V.ref++[V.ref p8]))=H10 at G10 s10;obtain⟨ws,qs,rs⟩:=G10.wd;obtain⟨wa,hwa,hwa2⟩:=dt rs hxW;refine⟨_,rfl,.inl ⟨rfl,_,aH.of qs⟩,_,rfl,_,rfl,qw,_,_,_,rfl,rfl,aH.of qs,b9 (by rw[getElem?_map,hwa];rfl),_,rfl,tx,fun e1 he1=>?_⟩;have s11:aj H10 (upd H10 e1 (.lst [V.int (t:Nat)])):=aj.upd he1;refine⟨wa,e1,_,_,rfl,rfl,s11 _ _ hwa2,ae,?_,fun r1 hr1=>?_⟩
       ·have:=SH _ mx;rw[length_map,sizeLine_eq];simp;omega
       have s12:=aj.upd (o:=.lst (iv l[n].2++[V.int (t:Nat)])) hr1;generalize eH12:upd (upd H10 e1 (.lst [V.int (t:Nat)])) r1 (.lst (iv l[n].2++[V.int (t:Nat)]))=H12 at s12;have hr12:H12 r1=some (.lst (iv (l[n].2++[t]))):=by rw[<-eH12,ae,pU]
       have G12:=(G10.same s11).same s12;have s1012:=(s10.trans s11).trans s12;obtain⟨ws12,q12,l12,G13⟩:=G12.addW hr12 nqnw (fF (m:=Mg.nm lt) (by simp[Mg.nm,Wd]) ns0);refine⟨qw,_,_,rfl,rfl,q12,by rw[length_map,l12,Ig,sizeLine_eq];omega,?_⟩;refine⟨aj.over nqw s1012,_,_,_,rfl,?_,?_⟩
       ·rw[e2,length_append];simp;omega
       ·rw[e2];have e3:Mg.nm (lt++[(mul l[n].1 g,l[n].2++[t])])=Mg.nm lt++[mul l[n].1 g]:=by simp[Mg.nm]
        have e4:Wd (lt++[(mul l[n].1 g,l[n].2++[t])])=Wd lt++[l[n].2++[t]]:=by simp[Wd]
        rw[e3,e4];exact G13
    ·rintro σ H'' ⟨s6,_⟩;exact⟨gt.map V.ref,aH.of (s6 _ _ hgl),by rw[length_map];omega⟩
    ·rintro σ H'' ⟨s6,w7,w8,w9,rfl,hl6,G6⟩;exact⟨_,rfl,_,_,rfl,rfl,s6,_,w7,w8,w9,rfl,rfl,hl6,G6⟩
  ·have hn:n=l.length:=by have:=of_decide_eq_false (Bool.eq_false_iff.mpr c);omega
   have eg':Vg01.growFrom mul gens Vg01.MOST (Vg01.MOST+2) 0 [(one,[])]=some l:=by
    show Vg01.growFrom mul gens 60 62 0 [(one,[])]=some l;rw[<-eg,show 62-n=(61-n)+1 by omega];exact Mg.rY (by omega)
   obtain⟨WF,_,cm,cP,cg,_⟩:=Mg.ka O hg eg';have em:Vg01.made mul one gens=some (Mg.cb mul gens l):=by rw[k8,eg'];rfl
   refine⟨_,rfl,_,rfl,_,rfl,_,rfl,_,rfl,qn,d,fp,Mg.nm l,ts,mul,Pd,rfl,hts1,hts2,GS.nb,MO.same s5,cP,cm,by rw[nmL];exact hl60,fun H6 p6 rs s6 hp6 hv6 hr6=>?_⟩;have s56:=s5.trans s6;have G6:=GS.same s6;refine⟨_,rfl,gl,rfl,⟨_,aH.of (s56 _ _ hgl)⟩,fun D hD=>?_⟩;refine dH (K:=K) (xs:=gt.map V.ref) (gu H6 D fun j=>iv ((gens.map (Mg.nm l).idxOf).take j)) (gu.start hD rfl) (fun j H2 _ p=>p.1.seq (aH.of (s56 _ _ hgl))) (fun j v H2 hj p=>?_) (fun H2 p=>?_)
   ·obtain⟨gA,g,hgA,rfl,hgg,hgH⟩:=ku hgt hj;have mg':=mem_of_getElem? hgg;have hgH2:=(s56.trans p.1) _ _ hgH;rw[vz]at hgH2;have gg:=j3.t (k:=kk g) (p.1 _ _ G6.nb) hgH2;rw[pM (cg g mg')]at gg;refine⟨rfl,_,rfl,_,rfl,d,_,rfl,gg,?_⟩;refine p.push hD (aj.refl _) ?_ ?_
    ·rw[length_map,length_take,length_map,sizeLine_eq];omega
    ·rw[aI (x:=(Mg.nm l).idxOf g) (by rw[getElem?_map,hgg];rfl)];simp[iv]
   ·have e:H2 D=some (.lst (iv (gens.map (Mg.nm l).idxOf))):=by
     have:H2 D=some (.lst (iv ((gens.map (Mg.nm l).idxOf).take (gt.map V.ref).length))):=p.2;rw[take_of_length_le (by simp[gtl])]at this;exact this
    have s2':=p.1;have G7:=G6.same s2';intro x dx nx ndx nex;have sX:aj H2 (upd (upd H2 dx (.own x)) x (.ins C dx [])):=(aj.upd ndx).trans (aj.upd (by rw[ao nex.symm];exact nx));refine⟨x,dx,qn,qw,p6,D,Mg.cb mul gens l,rfl,ae,?_,WF,?_,fun H8 hG8 b8=>⟨rfl,?_⟩⟩
    ·obtain⟨⟨t1,a1,b1⟩,⟨t2,a2,b2⟩,a3⟩:=G7.same sX;refine⟨⟨t1,a1,b1⟩,⟨t2,a2,b2⟩,⟨rs,sX _ _ (s2' _ _ hv6),?_⟩,sX _ _ e⟩;have ht:=(hr6.same s2').same sX;unfold tabOf;rw[Mg.Cg];exact ht
    ·exact⟨by rw[Mg.mV,length_map];exact hg4,Mg.Am O hg eg'⟩
    ·have nxH:H x=none:=(s56.trans s2').free nx;refine k1 _ em H8 x (fun b o e=>?_) nxH hG8;exact b8 b o (sX _ _ ((s56.trans s2') b o e)) (ax e nxH)
end
abbrev Bf:Stmt:=top 16
abbrev Bp:Stmt:=top 23
abbrev EK:Stmt:=top 24
abbrev EL:Stmt:=top 25
abbrev Bo:Stmt:=top 26
abbrev Bn:Stmt:=top 27
theorem AI:bootBuiltins "min"=some (.builtin "min"):=by decide +kernel
theorem Ia:bootBuiltins "max"=some (.builtin "max"):=by decide +kernel
structure xq(mg:GmT):Prop where
 mn:mg "min"=none
 mx:mg "max"=none
 al:mg "all"=none
 st:mg "set"=none
 rv:mg "reversed"=none
 zp:mg "zip"=none
section
variable{P:Program}{w:World}{K:Frag}{mg:GmT}{base:Heap}{C:Addr}
theorem HJ(l:DW)(f:Nat->Nat):iv (l.map f)=(ii (l.map f)).map V.int:=bH _
def uO(K:Frag)(C:Addr):Sp:=fun vs H Q _=>∃(a r:Addr)(G:Group)(l:DW)(j:Nat),vs=[.ref a,.ref r,.int j]/\dQ C H a G/\aH K H r (iv l)/\Vg02.isSet G l=true/\j<G.size /\
 ∀(H':Hp)(p:Addr),aj H H'->H p=none->H' p=some (.lst (iv (Vg02.turnedSet G l j)))->Q (.ref p) H'
theorem CQ:aq ["group","members","j","i"] ["group","members","j"] (af Bf):=.m
theorem gC{G:Group}(W:Mg.WF G){l:DW}(h:Vg02.isSet G l=true):l.length<=60:=by
 obtain⟨h1,h2⟩:=Mg.aB.mp h;have:=sub_len (aR h1) (l:=range G.size) fun x hx=>by simp[h2 x hx]
 have:=W.le;simp at *;omega
theorem FX{f:Addr}{fd:FuncData}(F:bW K "turned_by" "turned_by" Bf f fd)(T:Tx mg)(TC:TG K C)(MU:aK P w K mg base C "turned" 2 ["self","i","j"] (pj C)):
  aG P w K mg base bA 3 f fd ["group","members","j"] (uO K C):=by
 obtain⟨fu,fdu,mu,Gu,bu⟩:=MU;exists F.ok CQ
 ·obtain⟨a,r,G,l,j,rfl,_⟩:=h;rfl
 ·obtain⟨a,r,G,g,j,rfl,hG,hl,hs,hj,k⟩:=h;obtain⟨W,_,dx,fs,ha,hf⟩:=id hG;have n2:=hf.fK "turned" (by simp);have nd:=CQ.nd;obtain⟨hs1,hs2⟩:=Mg.aB.mp hs;have gl:=gC W hs;refine⟨_,ah (ak (aS jX rfl T.II gn (aa (dm (own:=[("i",3)]) rfl nd (bM (pv 1)) (bf (N:=["group","members","j","i"]) (sc:=af Bf) (by decide +kernel))
   (fun _ _ _ _ _=>aJ (i:=3) nd rfl (Or.inl rfl)) (fun _ _ _ _ _=>bV) (fun _ _ _ _ _=>ba (pv 0) TC.cl mu Gu hr bu .nil au (aa (pv 3) (aa (pv 2) ab)))) ab))),?_⟩
  refine⟨_,rfl,r,rfl,⟨_,hl⟩,fun D hD=>?_⟩;refine dH (K:=K) (xs:=iv g) (gu H D fun t=>iv ((g.map fun i=>G.turned i j).take t)) (gu.start hD rfl) (fun t H' _ p=>p.1.seq hl) (fun t v H' hv p=>?_) (fun H' p=>?_)
  ·obtain⟨i,hi,rfl⟩:=c8 hv;have li:=hs2 i (mem_of_getElem? hi);refine⟨rfl,_,rfl,a,dx,_,rfl,p.1 _ _ ha,n2,_,rfl,_,rfl,a,G,i,j,rfl,hG.same p.1,li,hj,?_⟩;refine p.push hD (aj.refl _) ?_ ?_
   ·rw[length_map,length_take,length_map,sizeLine_eq];omega
   ·rw[aI (x:=G.turned i j) (by rw[getElem?_map,hi];rfl)];simp[iv]
  ·have e:H' D=some (.lst (iv (g.map fun i=>G.turned i j))):=by
    have:H' D=some (.lst (iv ((g.map fun i=>G.turned i j).take (iv g).length))):=p.2;rw[take_of_length_le (by simp)]at this;exact this
   rw[HJ]at e;refine⟨D,_,rfl,aH.of e,by simp[ii];omega,fun ns q hp hsn hq=>?_⟩;have ndm:(g.map fun i=>G.turned i j).Nodup:=Mg.bY (aR hs1) _ fun x hx y hy e=>W.iU (hs2 x hx) (hs2 y hy) hj e;have en:=iC hp hsn ndm (Mg.bq (G:=G) (S:=g) j) fun x=>by
    rw[Mg.bF W hs2 hj];simp
   refine k _ q (p.1.trans (aj.upd hq)) (p.1.free hq) ?_;rw[ae,en,<-bH]
def yc(K:Frag)(C:Addr):Sp:=fun vs H Q _=>∃(a r:Addr)(G:Group)(l:DW),vs=[.ref a,.ref r]/\dQ C H a G/\aH K H r (iv l)/\Vg02.isSet G l=true /\
 ∀(H':Hp)(p:Addr),aj H H'->H p=none->H' p=some (.lst (iv (Vg02.stay G l)))->Q (.ref p) H'
theorem Dd:aq ["group","members","j"] ["group","members"] (af Bp):=.m
theorem Gs{f:Addr}{fd:FuncData}(F:bW K "keeping" "keeping" Bp f fd)(T:Tx mg)(TC:TG K C)(MS:aK P w K mg base C "size" 1 ["self"] (cC C))(DT:ay P w K mg base "turned_by" 3 ["group","members","j"] (uO K C)):
  aG P w K mg base bA 4 f fd ["group","members"] (yc K C):=by
 obtain⟨fz,fdz,mz,Gz,bz⟩:=MS;obtain⟨f1,fd1,m1,k1,G1,b1⟩:=DT;exists F.ok Dd
 ·obtain⟨a,r,G,l,rfl,_⟩:=h;rfl
 ·obtain⟨a,r,G,g,rfl,hG,hl,hs,k⟩:=h;obtain⟨W,_,dx,fs,ha,hf⟩:=id hG;have n1:=hf.fK "size" (by simp);have nd:=Dd.nd;have hle:=W.le
  let pr:Nat->Bool:=fun j=>Vg02.turnedSet G g j==g
  refine⟨_,ah (ak (dm (own:=[("j",2)]) rfl nd (cw rfl T.pD (aa (aU (pv 0) TC.cl mz Gz (hr.mono (by decide)) bz .nil au) ab)) (bf (N:=["group","members","j"]) (sc:=af Bp) (by decide +kernel))
   (fun _ _ _ _ _=>aJ (i:=2) nd rfl (Or.inl rfl)) (fun _ _ _ _ _=>pE (aX (r:=Fz K) (pH hr.units) (aw G1 hr rfl m1 k1 b1 .nil au (aa (pv 0) (aa (pv 1) (aa (pv 2) ab)))) (pv 1) (aW _))) (fun _ _ _ _ _=>pv 2))),?_⟩
  refine⟨_,rfl,a,dx,_,rfl,ha,n1,a,G,rfl,hG,_,rfl,by omega,by omega,fun D hD=>?_⟩;rw[toNat_natCast];refine dG (gu H D fun t=>iv ((range t).filter pr)) (gu.start hD rfl) (fun t H' ht p=>?_) (fun H' p=>?_)
  ·refine⟨rfl,_,rfl,_,rfl,_,rfl,a,r,G,g,t,by simp,hG.same p.1,p.1.seq hl,hs,ht,fun H2 q2 s2 hq2 hv2=>⟨_,rfl,p0 hv2 ((p.1.trans s2).seq hl) ⟨_,rfl,?_⟩⟩⟩;have e1:(range (t+1)).filter pr=(range t).filter pr++(if pr t=true then[t] else[]):=by
    rw[range_succ,filter_append,filter_cons,List.filter_nil]
   have e0:decide (Vg02.turnedSet G g t=g)=pr t:=by show _=(_==_);exact Bool.eq_iff_iff.mpr (by simp)
   rw[e0];cases hc:pr t with
   |true=>
    rw[hc,if_pos rfl]at e1;refine⟨_,rfl,p.push hD s2 ?_ (by rw[e1];simp[iv])⟩;rw[length_map,sizeLine_eq];have:=length_filter_le pr (range t);rw[length_range]at this;omega
   |false=>
    rw[hc,if_neg Ni,append_nil]at e1;exact p.skip s2 (by rw[e1])
  ·exact k H' D p.1 hD p.2
def ya(C:Addr):Sp:=fun vs H Q _=>∃(a:Addr)(G:Group)(i j:Nat),vs=[.ref a,.int i,.int j]/\dQ C H a G/\i<G.size/\j<G.size/\Q (.int (Vg02.mixedOf G i j)) H
theorem IU:aq ["group","i","j"] ["group","i","j"] (af EK):=.m
theorem Gh{f:Addr}{fd:FuncData}(F:bW K "mixed_pair" "mixed_pair" EK f fd)(TC:TG K C)(MT:aK P w K mg base C "times" 1 ["self","i","j"] (cK C))(MI:aK P w K mg base C "inverse" 1 ["self","i"] (qE C)):
  aG P w K mg base bA 2 f fd ["group","i","j"] (ya C):=by
 obtain⟨ft,fdt,mt,Gt,bt⟩:=MT;obtain⟨fi,fdi,mi,Gi,bi⟩:=MI;exists F.ok IU
 ·obtain⟨a,G,i,j,rfl,_⟩:=h;rfl
 ·obtain⟨a,G,i,j,rfl,hG,hi,hj,k⟩:=h;obtain⟨W,_,dx,fs,ha,hf⟩:=id hG;have n1:=hf.fK "times" (by simp);have n2:=hf.fK "inverse" (by simp);refine⟨_,ah (ak (ba (pv 0) TC.cl mt Gt hr bt .nil au (aa (ba (pv 0) TC.cl mt Gt hr bt .nil au (aa (ba (pv 0) TC.cl mi Gi hr bi .nil au (aa (pv 1) ab)) (aa (ba (pv 0) TC.cl mi Gi hr bi .nil au (aa (pv 2) ab)) ab)))
   (aa (ba (pv 0) TC.cl mt Gt hr bt .nil au (aa (pv 1) (aa (pv 2) ab))) ab)))),?_⟩
  refine⟨_,rfl,a,dx,_,rfl,ha,n1,_,rfl,a,dx,_,rfl,ha,n1,_,rfl,a,dx,_,rfl,ha,n2,_,rfl,a,G,i,rfl,hG,hi,_,rfl,a,dx,_,rfl,ha,n2,_,rfl,a,G,j,rfl,hG,hj,a,G,_,_,rfl,hG,W.aV hi,W.aV hj,
   _,rfl,a,dx,_,rfl,ha,n1,_,rfl,_,rfl,a,G,i,j,rfl,hG,hi,hj,a,G,_,_,rfl,hG,W.lt _ _ (W.aV hi) (W.aV hj),W.lt _ _ hi hj,k⟩
def qC(K:Frag)(C:Addr):Sp:=fun vs H Q _=>∃(a r q:Addr)(G:Group)(l m:DW),vs=[.ref a,.ref r,.ref q]/\dQ C H a G/\aH K H r (iv l)/\aH K H q (iv m)/\(∀x∈l,x<G.size)/\(∀x∈m,x<G.size) /\
 ∀(H':Hp)(p:Addr),aj H H'->H p=none->H' p=some (.lst (iv (Vg02.mixed G l m)))->Q (.ref p) H'
theorem C6:aq ["group","members","others","found","i","j"] ["group","members","others"] (af EL):=.m
def eD(G:Group)(l m:DW):DW:=l.flatMap fun i=>m.map (Vg02.mixedOf G i)
theorem cX{G:Group}{l m:DW}{x:Nat}:x∈eD G l m↔∃i∈l,∃j∈m,Vg02.mixedOf G i j=x:=by simp[eD]
theorem eT{G:Group}(W:Mg.WF G){i j:Nat}(hi:i<G.size)(hj:j<G.size):Vg02.mixedOf G i j<G.size:=W.lt _ _ (W.lt _ _ (W.aV hi) (W.aV hj)) (W.lt _ _ hi hj)
theorem Gj{f:Addr}{fd:FuncData}(F:bW K "mixed_of" "mixed_of" EL f fd)(T:Tx mg)(DP:ay P w K mg base "mixed_pair" 2 ["group","i","j"] (ya C))(DL:ay P w K mg base "least_subgroup" 2 ["group","members"] (j5 K C)):
  aG P w K mg base bA 3 f fd ["group","members","others"] (qC K C):=by
 obtain⟨f1,fd1,m1,k1,G1,b1⟩:=DP;obtain⟨f2,fd2,m2,k2,G2,b2⟩:=DL;exists F.ok C6
 ·obtain⟨a,r,q,G,l,m,rfl,_⟩:=h;rfl
 ·obtain⟨a,r,o,G,g,m,rfl,hG,hl,ho,hg,hm,k⟩:=h;have W:=hG.wf;have nd:=C6.nd;have hu:=rT hr;refine⟨_,ag (aC (i:=3) nd rfl (Or.inl rfl) qT)
   (ag (cM PassesOwn.never rfl (bM (pv 1)) (aJ (i:=4) nd rfl (Or.inl rfl))
    (ah (cM PassesOwn.never rfl (bM (pv 2)) (aJ (i:=5) nd rfl (Or.inl rfl))
     (ah (kY hu (pv 3) (aw G1 hr rfl m1 k1 b1 .nil au (aa (pv 0) (aa (pv 4) (aa (pv 5) ab)))) gR rfl)))))
   (ah (ak (aw G2 hr rfl m2 k2 b2 .nil au (aa (pv 0) (aa (aS (m7 rfl) rfl T.II gn (aa (pv 3) ab)) ab)))))),?_⟩
  have hle:=W.le;intro d hd;refine⟨_,rfl,r,rfl,⟨_,(aj.upd hd).seq hl⟩,?_⟩;have lenB:∀l:DW,l.Nodup->(∀x∈l,x<G.size)->l.length<=60:=fun l h1 h2=>by
   have:=sub_len h1 (l:=range G.size) fun x hx=>by simp[h2 x hx]
   simp at this;omega
  refine dM (K:=K) (a:=r) (xs:=iv g) (fun t σ H'=>aj H H'/\∃(l:DW)(v3 v4:Option V),σ=[some (.ref a),some (.ref r),some (.ref o),some (.ref d),v3,v4]/\H' d=some (.dK (kn l))/\l.Nodup/\∀x,x∈l↔x∈eD G (g.take t) m)
   ⟨aj.upd hd,[],none,none,rfl,ae,by simp,by simp[eD]⟩ (fun t σ H' _⟨s2,_⟩=>s2.seq hl) ?_ ?_
  ·rintro t v σ H' ht ⟨s1,l,v3,v4,rfl,hd1,ndl,hml⟩;obtain⟨i,hi,rfl⟩:=c8 ht;have li:=hg i (mem_of_getElem? hi);refine⟨_,rfl,o,rfl,⟨_,s1.seq ho⟩,?_⟩;refine dM (K:=K) (a:=o) (xs:=iv m) (fun u σ H'=>aj H H'/\∃(l:DW)(v4:Option V),σ=[some (.ref a),some (.ref r),some (.ref o),some (.ref d),some (.int i),v4]/\H' d=some (.dK (kn l))/\l.Nodup/\∀x,x∈l↔x∈eD G (g.take t) m\/∃j∈m.take u,Vg02.mixedOf G i j=x)
    ⟨s1,l,v4,rfl,hd1,ndl,fun x=>by rw[hml];simp⟩ (fun t σ H' _⟨s2,_⟩=>s2.seq ho) ?_ ?_
   ·rintro u v2 σ H2 hu2 ⟨s2,l,v4,rfl,hd2,ndl,hml⟩;obtain⟨j,hj,rfl⟩:=c8 hu2;have lj:=hm j (mem_of_getElem? hj);have ll:∀x∈l,x<G.size:=fun x hx=>by
     rcases(hml x).mp hx with q|⟨j,hj,rfl⟩
     ·obtain⟨i',hi',j',hj',rfl⟩:=cX.mp q;exact eT W (hg i' (mem_of_mem_take hi')) (hm j' hj')
     ·exact eT W li (hm j (mem_of_mem_take hj))
    have hb:=lenB l ndl ll;refine⟨_,rfl,_,rfl,_,rfl,_,rfl,a,G,i,j,rfl,hG.same s2,li,lj,?_⟩;refine⟨d,_,rfl,oh.k (k:=Sum.inl ((Vg02.mixedOf G i j:Nat):Int)) hd2 (by rw[ub,sizeLine_eq];omega),?_⟩;rw[z0];refine⟨aj.over hd s2,_,_,rfl,ae,vT ndl,fun x=>?_⟩;rw[sI,hml,or_assoc,aI hj];refine or_congr_right ?_;simp only[mem_append,mem_singleton];constructor
    ·rintro(⟨j',hj',q⟩|q)
     ·exact⟨j',.inl hj',q⟩
     ·exact⟨j,.inr rfl,q.symm⟩
    ·rintro⟨j',hj'|rfl,q⟩
     ·exact .inl ⟨j',hj',q⟩
     ·exact .inr q.symm
   ·rintro σ H2 ⟨s2,l,v4,rfl,hd2,ndl,hml⟩;rw[length_map,take_length]at hml;refine⟨s2,l,_,_,rfl,hd2,ndl,fun x=>?_⟩;rw[hml,aI hi];simp only[cX,mem_append,mem_singleton];constructor
    ·rintro(⟨y,hy,q⟩|⟨j,hj,q⟩)
     ·exact⟨y,.inl hy,q⟩
     ·exact⟨i,.inr rfl,j,hj,q⟩
    ·rintro⟨y,hy|rfl,j,hj,q⟩
     ·exact .inl ⟨y,hy,j,hj,q⟩
     ·exact .inr ⟨j,hj,q⟩
  ·rintro σ H2 ⟨s2,l,v3,v4,rfl,hd2,ndl,hml⟩;rw[length_map,take_length]at hml;have mlt:∀x∈eD G g m,x<G.size:=fun x hx=>by
    obtain⟨i,hi,j,hj,rfl⟩:=cX.mp hx;exact eT W (hg i hi) (hm j hj)
   let ss:=Vg02.setOf G (eD G g m).contains
   have hss:∀x,x∈ss↔x∈eD G g m:=fun x=>by
    show x∈Vg02.setOf G _↔_;rw[cW,contains_iff_mem];exact⟨fun h=>h.2,fun h=>⟨mlt x h,h⟩⟩
   refine⟨_,rfl,_,rfl,d,_,ii l,rfl,hd2,vw l,fun ns p hp hs hpn=>?_⟩;have en:=iC hp hs ndl (dA (G:=G) (eD G g m).contains) fun x=>by rw[hml];exact(hss x).symm
   have s3:=s2.trans (aj.upd (o:=.lst (ns.map V.int)) hpn);refine⟨a,p,G,ss,rfl,hG.same s3,aH.of (by rw[ae,en,<-bH]),fun x hx=>mlt x ((hss x).mp hx),fun H3 q s4 hqn hq=>?_⟩;refine k H3 q (s3.trans s4) (s3.free hqn) ?_;rw[hq,ig W (fun x hx=>mlt x ((hss x).mp hx)) hss];rfl
end
abbrev Lv:Scope:={ kind:=.function,names:=[(".0",.local),("i",.cell),("min",.globalImplicit),("group",.cell),("subgroup",.cell)],isGenerator:=false,isCoroutine:=false }
theorem rE{T:DW}{l:DW}{i:Nat}(h:∀x,x∈T↔x=i\/x∈l){m:Int}(hm:m∈ii T)(hl:∀y,y∈ii T->m<=y):m=((l.foldl min i:Nat):Int):=by
 obtain⟨n,hn,rfl⟩:=Ng hm;have f:=Mg.gL l i;have m1:l.foldl min i∈T:=by
  rw[h];exact f.2.2.imp id id
 have h1:(n:Int)<=(l.foldl min i:Nat):=hl _ (List.mem_map.mpr ⟨_,m1,rfl⟩);have h2:l.foldl min i<=n:=by
  rcases(h n).mp hn with q|q
  ·rw[q];exact f.1
  ·exact f.2.1 n q
 omega
theorem lU{f:Nat->Nat}{n t:Nat}(h:t<n):((range n).map f)[t]?=some (f t):=by
 rw[getElem?_map,getElem?_range h];rfl
section
variable{P:Program}{w:World}{K:Frag}{mg:GmT}{base:Heap}{C:Addr}
def yb(C:Addr):Sp:=fun vs H Q _=>∃(a:Addr)(G:Group),vs=[.ref a]/\dQ C H a G/\∀(H':Hp)(p:Addr),aj H H'->H p=none->H' p=some (.lst (iv (classes G)))->Q (.ref p) H'
theorem Dc:aq ["group","i"] ["group"] (af Bo):=.m
theorem Gr{f:Addr}{fd:FuncData}(F:bW K "least_in_classes" "least_in_classes" Bo f fd)(T:Tx mg)(T4:xq mg)(TC:TG K C)(MS:aK P w K mg base C "size" 1 ["self"] (cC C))(DA:ay P w K mg base "all_turned" 3 ["group","members"] (uU K C)):
  aG P w K mg base bA 4 f fd ["group"] (yb C):=by
 obtain⟨fz,fdz,mz,Gz,bz⟩:=MS;obtain⟨f1,fd1,m1,k1,G1,b1⟩:=DA;exists F.ok Dc
 ·obtain⟨a,G,rfl,_⟩:=h;rfl
 ·obtain⟨a,G,rfl,hG,k⟩:=h;obtain⟨W,_,dx,fs,ha,hf⟩:=id hG;have n1:=hf.fK "size" (by simp);have nd:=Dc.nd;have hle:=W.le;refine⟨_,ah (ak (dm (own:=[("i",1)]) rfl nd (cw rfl T.pD (aa (aU (pv 0) TC.cl mz Gz (hr.mono (by decide)) bz .nil au) ab)) (bf (N:=["group","i"]) (sc:=af Bo) (by decide +kernel))
   (fun _ _ _ _ _=>aJ (i:=1) nd rfl (Or.inl rfl)) (fun _ _ _ _ _=>bV)
   (fun _ _ _ _ _=>aS (r:=Fx K) (AB rfl) rfl T4.mn AI (aa (aw G1 hr rfl m1 k1 b1 .nil au (aa (pv 0) (aa (aT (aa (pv 1) ab)) ab))) ab)))),?_⟩
  refine⟨_,rfl,a,dx,_,rfl,ha,n1,a,G,rfl,hG,_,rfl,by omega,by omega,fun D hD=>?_⟩;rw[toNat_natCast];refine dG (gu H D fun t=>iv ((classes G).take t)) (gu.start hD rfl) (fun t H' ht p=>?_) (fun H' p=>?_)
  ·refine⟨rfl,_,rfl,_,rfl,tx,fun q hq=>?_⟩;have s1:=p.1.trans (aj.upd (o:=.lst [V.int (0+(t:Int))]) hq);refine⟨a,q,G,[t],rfl,hG.same s1,aH.of (by rw[ae];simp[iv]),by simpa using ht,fun H2 q2 s2 hq2 hv2=>?_⟩;rw[bH]at hv2;have hT:∀x,x∈tu G [t]↔x=t\/x∈G.all.map (G.turned t):=fun x=>by
    rw[mK W (by simpa using ht),dy];simp only[mem_singleton,mem_map,Mg.aL];constructor
    ·rintro⟨i,rfl,j,hj,e⟩;exact .inr ⟨j,hj,e⟩
    ·rintro(rfl|⟨j,hj,e⟩)
     ·exact⟨_,rfl,0,W.pos,W.di ht⟩
     ·exact⟨t,rfl,j,hj,e⟩
   refine⟨q2,_,rfl,aH.of hv2,?_,fun m hm hl=>?_⟩
   ·have:t∈tu G [t]:=(hT t).mpr (.inl rfl);have:=length_pos_of_mem this;simpa using this
   ·rw[rE hT hm hl];refine p.push hD ((aj.upd hq).trans s2) ?_ ?_
    ·rw[length_map,length_take,sizeLine_eq];have:(classes G).length=G.size:=by simp[classes,Group.all]
     omega
    ·rw[aI (x:=(G.all.map (G.turned t)).foldl min t) (by unfold classes;exact lU ht)];simp[iv]
  ·have e:H' D=some (.lst (iv (classes G))):=by
    have:H' D=some (.lst (iv ((classes G).take G.size))):=p.2;rw[take_of_length_le (by simp[classes,Group.all])]at this;exact this
   exact k H' D p.1 hD e
def uR(K:Frag)(C:Addr):Sp:=fun vs H Q _=>∃(a r:Addr)(G:Group)(l:DW),vs=[.ref a,.ref r]/\dQ C H a G/\aH K H r (iv l)/\Mg.Sub G l/\l.length<=60/\∀(H':Hp)(p:Addr),aj H H'->H p=none->H' p=some (.lst (iv (Vg02.cosets G l)))->Q (.ref p) H'
theorem C9:aq ["group","subgroup","i","x"] ["group","subgroup"] (af Bn):=.m
theorem Gq{f:Addr}{fd:FuncData}(F:bW K "least_in_cosets" "least_in_cosets" Bn f fd)(T:Tx mg)(T4:xq mg)(TC:TG K C)(MS:aK P w K mg base C "size" 1 ["self"] (cC C))(MT:aK P w K mg base C "times" 1 ["self","i","j"] (cK C)):
  aG P w K mg base bA 2 f fd ["group","subgroup"] (uR K C):=by
 obtain⟨fz,fdz,mz,Gz,bz⟩:=MS;obtain⟨ft,fdt,mt,Gt,bt⟩:=MT;exists F.ok C9
 ·obtain⟨a,r,G,l,rfl,_⟩:=h;rfl
 ·obtain⟨a,r,G,g,rfl,hG,hl,hS,hgl,k⟩:=h;obtain⟨W,_,dx,fs,ha,hf⟩:=id hG;have n1:=hf.fK "size" (by simp);have n2:=hf.fK "times" (by simp);have nd:=C9.nd;have hle:=W.le;refine⟨_,ah (ak (dm (own:=[("i",2)]) rfl nd (cw rfl T.pD (aa (aU (pv 0) TC.cl mz Gz hr bz .nil au) ab)) (bf (N:=["group","subgroup","i","x"]) (sc:=af Bn) (by decide +kernel))
   (fun _ _ _ _ _=>aJ (i:=2) nd rfl (Or.inr rfl)) (fun _ _ _ _ _=>bV)
   (fun _ _ _ _ _=>aS (r:=Fx K) (AB rfl) rfl T4.mn AI (aa (dm (own:=[("x",3)]) (wi:=DI K (Ed 1)) rfl nd (bM (pv 1)) (bf (N:=["group","subgroup","i","x"]) (sc:=Lv) (by decide +kernel))
    (fun _ _ _ _ _=>aJ (i:=3) nd rfl (Or.inl rfl)) (fun _ _ _ _ _=>bV) (fun _ _ _ _ _=>ba (pv 0) TC.cl mt Gt hr bt .nil au (aa (pv 2) (aa (pv 3) ab)))) ab)))),?_⟩
  refine⟨_,rfl,a,dx,_,rfl,ha,n1,a,G,rfl,hG,_,rfl,by omega,by omega,fun D hD=>?_⟩;rw[toNat_natCast];refine dG (gu H D fun t=>iv ((Vg02.cosets G g).take t)) (gu.start hD rfl) (fun t H' ht p=>?_) (fun H' p=>?_)
  ·refine⟨rfl,_,rfl,r,rfl,⟨_,p.1.seq hl⟩,fun D2 hD2=>?_⟩;refine dH (K:=K) (xs:=iv g) (gu H' D2 fun u=>iv ((g.map (G.times t)).take u)) (gu.start hD2 rfl) (fun u H2 _ p2=>(p.1.trans p2.1).seq hl) (fun u v H2 hv p2=>?_) (fun H2 p2=>?_)
   ·obtain⟨x,hx,rfl⟩:=c8 hv;have lx:=hS.lt x (mem_of_getElem? hx);have s2:=p.1.trans p2.1;refine⟨rfl,_,rfl,a,dx,_,rfl,s2 _ _ ha,n2,_,rfl,_,rfl,a,G,t,x,by simp,hG.same s2,ht,lx,?_⟩;refine p2.push hD2 (aj.refl _) ?_ ?_
    ·rw[length_map,length_take,length_map,sizeLine_eq];omega
    ·rw[aI (x:=G.times t x) (by rw[getElem?_map,hx];rfl)];simp[iv]
   ·have e:H2 D2=some (.lst (iv (g.map (G.times t)))):=by
     have:H2 D2=some (.lst (iv ((g.map (G.times t)).take (iv g).length))):=p2.2;rw[take_of_length_le (by simp)]at this;exact this
    rw[bH]at e;have hT:∀x,x∈g.map (G.times t)↔x=t\/x∈g.map (G.times t):=fun x=>by
     refine⟨.inr,fun h=>h.elim (fun e=>?_) id⟩;rw[e];exact List.mem_map.mpr ⟨0,hS.one,W.bS t ht⟩
    refine⟨D2,_,rfl,aH.of e,?_,fun m hm hl=>?_⟩
    ·have:=length_pos_of_mem hS.one;simpa using this
    ·rw[rE hT hm hl];refine p.push hD p2.1 ?_ ?_
     ·rw[length_map,length_take,sizeLine_eq];have:(Vg02.cosets G g).length=G.size:=by simp[Vg02.cosets,Group.all]
      omega
     ·rw[aI (x:=(g.map (G.times t)).foldl min t) (by unfold Vg02.cosets;exact lU ht)];simp[iv]
  ·have e:H' D=some (.lst (iv (Vg02.cosets G g))):=by
    have:H' D=some (.lst (iv ((Vg02.cosets G g).take G.size))):=p.2;rw[take_of_length_le (by simp[Vg02.cosets,Group.all])]at this;exact this
   exact k H' D p.1 hD e
end
abbrev yD:Stmt:=top 29
abbrev wx:Stmt:=top 30
abbrev uX:Stmt:=(bh yD).getD 1 (.Pass ⟨0,0,0,0⟩)
abbrev uY:Stmt:=(bh wx).getD 1 (.Pass ⟨0,0,0,0⟩)
def Az(s:Stmt):Pos:=match s with
 |.FunctionDef _ _ _ _ _ _ _ _ _ p=>p
 |_=>⟨0,0,0,0⟩
structure Kp(H H':Hp):Prop where
 keep:∀b o,H b=some o->(∀ps,o≠.eL ps)->H' b=some o
 tab:∀b ps,H b=some (.eL ps)->∃ps',H' b=some (.eL ps')
theorem Kp.of{H H':Hp}(s:aj H H'):Kp H H':=⟨fun b o e _=>s b o e,fun b ps e=>⟨ps,s _ _ e⟩⟩
theorem Kp.trans{H H1 H2:Hp}(a:Kp H H1)(b:Kp H1 H2):Kp H H2:=⟨fun c o e n=>b.keep c o (a.keep c o e n) n,fun c ps e=>let⟨ps',e'⟩:=a.tab c ps e;b.tab c ps' e'⟩
theorem Kp.free{H H':Hp}(s:Kp H H'){l:Addr}(h:H' l=none):H l=none:=by
 cases q:H l with
 |none=>rfl
 |some o=>
  by_cases t:∃ps,o=.eL ps
  ·obtain⟨ps,rfl⟩:=t;obtain⟨ps',e⟩:=s.tab _ _ q;rw[e]at h;cases h
  ·rw[s.keep l o q fun ps e=>t ⟨ps,e⟩]at h;cases h
theorem Kp.lst{H H':Hp}(s:Kp H H'){a:Addr}{xs:List V}(e:H a=some (.lst xs)):H' a=some (.lst xs):=s.keep _ _ e (by intro ps z;cases z)
theorem Kp.tup{H H':Hp}(s:Kp H H'){a:Addr}{xs:List V}(e:H a=some (.tup xs)):H' a=some (.tup xs):=s.keep _ _ e (by intro ps z;cases z)
theorem Kp.rows{H H':Hp}{ts:List Addr}{r:L4}(s:Kp H H')(h:aQ H ts r):aQ H' ts r:=Paired.js h fun _ _ e=>s.lst e
theorem Kp.kh{H H':Hp}{ts:List Addr}{r:L4}(s:Kp H H')(h:a9 H ts r):a9 H' ts r:=Paired.js h fun _ _ e=>s.tup e
theorem Kp.gf{H H':Hp}{fs:List (Str×V)}{G:Group}(s:Kp H H')(h:GF H fs G):GF H' fs G:=by
 obtain⟨⟨l1,t1,a1,b1,c1⟩,⟨l2,t2,a2,b2,c2⟩,⟨l3,t3,a3,b3,c3⟩,⟨l5,a5,b5⟩,⟨l4,a4,b4⟩,n⟩:=h;exact⟨⟨l1,t1,a1,s.lst b1,s.kh c1⟩,⟨l2,t2,a2,s.lst b2,s.rows c2⟩,⟨l3,t3,a3,s.lst b3,s.rows c3⟩,⟨l5,a5,s.lst b5⟩,⟨l4,a4,s.lst b4⟩,n⟩
theorem Kp.g{C:Addr}{H H':Hp}{a:Addr}{G:Group}(s:Kp H H')(h:dQ C H a G):dQ C H' a G:=by
 obtain⟨w,u,dx,fs,e,f⟩:=h;exact⟨w,u,dx,fs,s.keep _ _ e (by intro ps z;cases z),s.gf f⟩
abbrev qQ:Str:=("quotient":Str)++".<locals>."++"product"
abbrev qP:Str:=("paired":Str)++".<locals>."++"product"
structure Tb(pq pp:Addr)(H:Hp):Prop where
 q:km H pq (Az uX) qQ
 p:km H pp (Az uY) qP
theorem iJ{H H':Hp}{c:Addr}{q:Str}(h:ko H c q)(k:∀o,H c=some (nv c o)->H' c=some (nv c o)):ko H' c q:=by
 obtain⟨oc,vs,t,e,r⟩:=h;exact⟨oc,vs,t,k _ e,r⟩
theorem kM{H H':Hp}{P:Addr}{pos:Pos}{q:Str}(h:km H P pos q)(kp:∀b o,H b=some o->b=P\/(∀ps,o≠.eL ps)->H' b=some o):km H' P pos q:=by
 rcases h with e|⟨c,e,r⟩
 ·exact .inl (kp _ _ e (.inl rfl))
 ·exact .inr ⟨c,kp _ _ e (.inl rfl),iJ r fun o q=>kp _ _ q (.inr (by intro ps z;cases z))⟩
theorem Tb.same{pq pp:Addr}{H H':Hp}(t:Tb pq pp H)(s:aj H H'):Tb pq pp H':=⟨kM t.q fun b o e _=>s b o e,kM t.p fun b o e _=>s b o e⟩
theorem k9{α:Type}:∀{l:List (Str×α)}{x:Str}{c:α},l.lookup x=some c->(x,c)∈l
 |(y,d)::l,x,c,h=>by
  rw[lookup_cons]at h
  split at h
  ·next e=>cases h;rw[eq_of_beq e];exact mem_cons_self
  ·exact mem_cons_of_mem _ (k9 h)
theorem sx{l:List (Str×Addr)}(h:l.Pairwise fun p q=>p.2≠q.2):∀x y c,l.lookup x=some c->l.lookup y=some c->x=y:=fun x y c h1 h2=>by
 have go:∀l:List (Str×Addr),(l.Pairwise fun p q=>p.2≠q.2)->(x,c)∈l->(y,c)∈l->x=y:=by
  intro l
  induction l with
  |nil=>intro _ h;cases h
  |cons p l ih=>
   intro nd m1 m2;obtain⟨n1,n2⟩:=List.pairwise_cons.mp nd;rcases Nf m1 with q1|q1<;>rcases Nf m2 with q2|q2
   ·rw[<-q1]at q2;cases q2;rfl
   ·exact absurd (show p.2=(y,c).2 by rw[<-q1]) (n1 _ q2)
   ·exact absurd (show p.2=(x,c).2 by rw[<-q2]) (n1 _ q1)
   ·exact ih n2 q1 q2
 exact go l h (k9 h1) (k9 h2)
theorem HY{x y:Str}{a b:Addr}(h:x≠y):([(x,a),(y,b)]:List (Str×Addr)).Pairwise fun p q=>p.1≠q.1:=by simp[h]
theorem oW{l:List (Str×Addr)}{fr:List Str}(h:∀p∈l,p.1∈fr):∀x c,l.lookup x=some c->x∈fr:=fun x c e=>h _ (k9 e)
section
variable{P:Program}{w:World}{K:Frag}{mg:GmT}{base:Heap}{C:Addr}
def K6(C:Addr)(fp:Addr)(o:Obj)(c:Addr)(la ga:Addr)(G:Group)(s:DW):Sp:=fun vs H Q _=>(H fp=some (nv fp o)/\ko H c qQ)/\∃(b d:Addr)(x y:Nat),vs=[.ref b,.ref d]/\H b=some (.tup [.int x])/\H d=some (.tup [.int y])/\x<G.size/\y<G.size /\
 dQ C H ga G/\H la=some (.lst (iv (Vg02.cosets G s)))/\∀(H':Hp)(p:Addr),aj H H'->H p=none->H' p=some (.tup [.int ((Vg02.cosets G s).getD (G.times x y) 0:Nat)])->Q (.ref p) H'
theorem LM:ql ["first","second","least","group"] ["first","second"] ["least","group"] [] (af uX):=⟨rfl,rfl,rfl,by decide +kernel,rfl,by decide +kernel,by decide +kernel,by decide +kernel,by decide +kernel⟩
theorem AD{G:Group}{s:DW}{i:Nat}(hi:i<G.size):(Vg02.cosets G s)[i]?=some ((Vg02.cosets G s).getD i 0):=by
 have:i<(Vg02.cosets G s).length:=by simpa[Vg02.cosets,Group.all]using hi
 rw[getD_eq_getElem?_getD,getElem?_eq_getElem this];rfl
theorem JJ{fp c la ga:Addr}{clos:List (Str×Addr)}{doc pm ct:Value}{G:Group}{s:DW}(TC:TG K C)(MT:aK P w K mg base C "times" 1 ["self","i","j"] (cK C))(ci:nk base clos ["least","group"] [.ref la,.ref ga])(inj:∀x y c,clos.lookup x=some c->clos.lookup y=some c->x=y)(only:∀x c,clos.lookup x=some c->x∈(["least","group"]:List Str)):
  aG P w K mg base bA 2 fp (fnX "product" qQ (bD uX) (bh uX) (af uX) clos .none .none doc pm none (.ref c) ct) ["first","second"]
   (K6 C fp (iR "product" qQ (bD uX) (bh uX) (af uX) clos doc pm c ct) c la ga G s):=by
 obtain⟨ft,fdt,mt,Gt,bt⟩:=MT;refine DK LM ci inj only (fun vs H Q E h=>?_) (fun vs H Q E h=>h.1) (fun A outer st H vs Q E hr h=>?_)
 ·obtain⟨_,b,d,x,y,rfl,_⟩:=h;rfl
 ·obtain⟨_,b,d,x,y,rfl,hb,hd,hx,hy,hG,hla,k⟩:=h;obtain⟨W,_,dx,fs,ha,hf⟩:=id hG;have n1:=hf.fK "times" (by simp);refine⟨_,ah (ak (iX (aa (bN bb (pv 2) (ba (pv 3) TC.cl mt Gt hr bt .nil au (aa (bN i5 (pv 0) az (fun _ _=>rfl)) (aa (bN i5 (pv 1) az (fun _ _=>rfl)) ab))) (fun _ _=>rfl)) ab))),?_⟩;refine⟨_,rfl,_,rfl,ga,dx,_,rfl,ha,n1,_,rfl,b,_,_,_,rfl,rfl,gr.of hb,rfl,_,rfl,d,_,_,_,rfl,rfl,gr.of hd,rfl,ga,G,x,y,rfl,hG,hx,hy,la,_,_,_,rfl,rfl,aH.of hla,b9 (il (AD (W.lt _ _ hx hy))),tx,fun p hp=>?_⟩;exact k _ p (aj.upd hp) hp ae
def uP(K:Frag)(C pq pp:Addr):Sp:=fun vs H Q _=>∃(a r:Addr)(G G':Group)(s:DW),vs=[.ref a,.ref r]/\dQ C H a G/\aH K H r (iv s)/\Norm G s/\s.length<=60/\Tb pq pp H/\Vg02.over G s=some G' /\
 ∀(H':Hp)(p:Addr),Kp H H'->Tb pq pp H'->H p=none->dQ C H' p G'->Q (.ref p) H'
abbrev Jz:List Str:=["group","normal_one","least","product","i"]
theorem CY:aq Jz ["group","normal_one"] (af yD):=.m
theorem yO{G:Group}(W:Mg.WF G){s:DW}(S:Mg.Sub G s):rep G s 0=0:=by
 have:=(Mg.cD W S W.pos).2 0 (Mg.Co.refl W S W.pos);omega
theorem F4{f fg:Addr}{fd fdg:FuncData}{pq pp:Addr}(F:bW K "quotient" "quotient" yD f fd)(hpq:pq≠pp)(TB:Tab mg base fd.code pq)(TC:TG K C)(DC:ay P w K mg base "least_in_cosets" 2 ["group","subgroup"] (uR K C))(GG:∀base',(∀b o,base.get? b=some o->base'.get? b=some o)->aG P w K mg base' bA 4 fg fdg ["one","generators","product"] (oy P w K mg C base'))(mG:mg "generated"=some (.ref fg))(kG:PySem.W.keepIn K (.ref fg)=true)(bG:Binds K fdg ["one","generators","product"] [])(MT:∀base',(∀b o,base.get? b=some o->base'.get? b=some o)->aK P w K mg base' C "times" 1 ["self","i","j"] (cK C)):
  aG P w K mg base bA 5 f fd ["group","normal_one"] (uP K C pq pp):=by
 obtain⟨f1,fd1,m1,k1,G1,b1⟩:=DC;refine F.Mc CY (fun vs H Q E h=>?_) (fun A outer s H vs Q E hr h=>?_)
 ·obtain⟨a,r,G,G',l,rfl,_⟩:=h;rfl
 ·obtain⟨a,r,G,G',l,rfl,hG,hl,NM,hll,tb,ho,k⟩:=h;obtain⟨W,qo,dx,fs,ha,hf⟩:=id hG;have nd:=CY.nd;refine⟨_,ag (aC (i:=2) nd rfl (Or.inr rfl) (aw G1 (hr.mono (by decide)) rfl m1 k1 b1 .nil au (aa (pv 0) (aa (pv 1) ab))))
   (ag (yX (name:="product") (qual:=qQ) (P:=pq) (i:=3) nd rfl (Or.inl rfl) rfl TB rfl rfl rfl rfl rfl (Or.inl rfl))
   (ah (ak (qV GG hr rfl mG kG bG au (fun _ _ _=>rfl) (HY (x:="least") (y:="group") (by decide +kernel)) (aa (iX (aa az ab))
    (aa (dm (own:=[("i",4)]) rfl nd (bM (cj (pv 0) rfl)) (bf (N:=Jz) (sc:=af yD) (by decide +kernel))
     (fun _ _ _ _ _=>aJ (i:=4) nd rfl (Or.inl rfl)) (fun _ _ _ _ _=>bV) (fun _ _ _ _ _=>iX (aa (bN (r:=Fy K) bb (pv 2) (pv 4) (fun _ _=>rfl)) ab)))
    (aa (pv 3) ab))))))),?_⟩
  refine⟨_,rfl,_,rfl,a,r,G,l,rfl,hG,hl,NM.sub,hll,fun H1 la s1 hla hv1=>?_⟩;have tb1:=tb.same s1;refine⟨tb1.q,fun H2 fp c doc ct old nf hfo hcod htab=>?_⟩;have kp2:Kp H1 H2:=⟨fun b o e n=>old b o e (fun z=>by
   rw[z]at e;rcases tb1.q with q|⟨_,q,_⟩
   ·rw[e]at q;exact n _ (Nc q)
   ·rw[e]at q;exact n _ (Nc q)),fun b ps e=>by
    by_cases hb:b=pq
    ·subst hb;rcases htab with q|⟨_,q,_⟩
     ·exact⟨_,q⟩
     ·exact⟨_,q⟩
    ·exact⟨ps,old b _ e hb⟩⟩
  have tb2:Tb pq pp H2:=⟨htab,kM tb1.p fun b o e h=>by
   refine old b o e fun z=>?_;rcases h with h|h
   ·exact hpq (z.symm.trans h)
   ·rw[z]at e;rcases tb1.q with q|⟨_,q,_⟩
    ·rw[e]at q;exact h _ (Nc q)
    ·rw[e]at q;exact h _ (Nc q)⟩
  have kp02:Kp H H2:=(Kp.of s1).trans kp2;have hG2:=kp02.g hG;have hla2:H2 la=some (.lst (iv (Vg02.cosets G l))):=kp2.lst hv1;obtain⟨lg,eg1,eg2⟩:=hf.gens;refine⟨tx,fun t0 ht0=>?_⟩;have s3:aj H2 (upd H2 t0 (.tup [V.int 0])):=aj.upd ht0;have ht3:upd H2 t0 (.tup [V.int 0]) t0=some (.tup [V.int 0]):=ae;generalize upd H2 t0 (.tup [V.int 0])=H3 at s3 ht3;have ha3:=s3 _ _ (kp02.keep _ _ ha (by intro ps z;cases z));have hlg3:=s3 _ _ (kp02.lst eg2);have qo:=qo.1;refine⟨_,rfl,a,C,dx,_,_,rfl,ha3,TC.cl,TC.nG,eg1,lg,rfl,⟨_,aH.of hlg3⟩,fun D hD=>?_⟩;refine dH (K:=K) (xs:=iv G.gens) (fun t H'=>aj H3 H'/\∃gt:List Addr,H' D=some (.lst (gt.map V.ref))/\a9 H' gt ((G.gens.take t).map fun i=>[rep G l i])) ⟨aj.upd hD,[],ae,.nil⟩ (fun t H' _ p=>aH.of (p.1 _ _ hlg3)) (fun t v H' hv p=>?_) (fun H' p=>?_)
  ·obtain⟨i,hi,rfl⟩:=c8 hv;have mi:=mem_of_getElem? hi;have li:=W.dJ i mi;obtain⟨s4,gt,hD4,hgt4⟩:=p;refine⟨rfl,_,rfl,_,rfl,la,_,_,_,rfl,rfl,aH.of (s4 _ _ (s3 _ _ hla2)),b9 (il (AD li)),tx,fun q hq=>?_⟩;have lgt:gt.length<=4:=by rw[hgt4.length,length_map,length_take];omega
   have s5:aj H' (upd H' q (.tup [V.int ((Vg02.cosets G l).getD i 0:Nat)])):=aj.upd hq;refine⟨_,s5 _ _ hD4,by rw[length_map,sizeLine_eq];omega,aj.over hD (s4.trans s5),gt++[q],by rw[ae,map_append];rfl,?_⟩;rw[aI hi,map_append];refine a9.snoc ((hgt4.same s5).put (s5 _ _ hD4) (by intro xs z;cases z)) ?_;rw[ao (ax hD4 hq).symm,ae,Mg.gO G l li];rfl
  ·obtain⟨s4,gt,hD4,hgt4⟩:=p;rw[length_map,take_length]at hgt4;refine⟨_,rfl,fun base' up ci=>?_⟩;have sall:=s3.trans s4;have one0:([0]:DW)=[rep G l 0]:=by rw[yO W NM.sub]
   obtain⟨clos,pm,hfo',ecl⟩:∃clos pm,H2 fp=some (nv fp (iR "product" qQ (bD uX) (bh uX) (af uX) clos doc pm c ct))/\clos=([(("least":Str),(s.heap.objs.size+1+1:Addr)),(("group":Str),(s.heap.objs.size+1:Addr))]:List (Str×Addr)):=⟨_,_,hfo,rfl⟩;have ci':nk base' clos ["least","group"] [.ref la,.ref a]:=by
    refine⟨rfl,fun i x v h1 h2=>?_⟩;rw[ecl]
    match i,h1,h2 with
    |0,h1,h2=>
     cases h1;cases h2;obtain⟨c1,u,q1,q2,q3⟩:=ci 2 "least" (.ref la) rfl rfl rfl;exact⟨c1,u,q1,q2,q3⟩
    |1,h1,h2=>
     cases h1;cases h2;obtain⟨c1,u,q1,q2,q3⟩:=ci 0 "group" (.ref a) rfl rfl rfl;exact⟨c1,u,q1,q2,q3⟩
    |i+2,h1,h2=>cases h1
   have FN:=JJ (P:=P) (w:=w) (K:=K) (mg:=mg) (base:=base') (fp:=fp) (c:=c) (la:=la) (ga:=a) (clos:=clos) (doc:=doc) (pm:=pm) (ct:=ct) (G:=G) (s:=l) TC (MT base' up) ci' (sx (by rw[ecl];simp)) (oW (by rw[ecl];simp));have fk:∀H5,aj H' H5->H5 fp=some (nv fp (iR "product" qQ (bD uX) (bh uX) (af uX) clos doc pm c ct)):=fun H5 s5=>s5 _ _ (sall _ _ hfo');have cod:∀H5,aj H' H5->ko H5 c qQ:=fun H5 s5=>iJ hcod fun o e=>s5 _ _ (sall _ _ e);have kpA:Kp H H':=kp02.trans (Kp.of sall);refine⟨t0,D,fp,[0],_,gt,Mg.m9 G l,_,rfl,s4 _ _ ht3,hD4,hgt4,by rw[one0];exact Mg.vg W NM,Mg.fe W,by rw[length_map];exact qo,⟨⟨_,_,_,FN,?_,?_⟩,?_⟩,?_,?_⟩
   ·exact .all fun us hl=>match us,hl with|[_,_],_=>rfl
   ·rintro H5 b d x y Q1 s5 hb hd ⟨i,li,rfl⟩ ⟨j,lj,rfl⟩ k5;refine⟨⟨fk H5 s5,cod H5 s5⟩,b,d,rep G l i,rep G l j,rfl,hb,hd,dB W NM.sub li,dB W NM.sub lj,(kpA.trans (Kp.of s5)).g hG,s5 _ _ (sall _ _ hla2),fun H6 p6 s6 hp6 hv6=>?_⟩;exact k5 H6 p6 s6 hp6 hv6
   ·exact fun H5 s5=>.inr ⟨_,_,_,_,fk H5 s5⟩
   ·intro hn;rw[k7 W,<-one0]at ho;rw[hn]at ho;cases ho
   ·intro G2 hm H6 p6 s6 hp6 hg6;rw[k7 W,<-one0]at ho;rw[ho]at hm;cases hm;exact k H6 p6 (kpA.trans (Kp.of s6)) ((tb2.same sall).same s6) (kpA.free hp6) hg6
def K7(C:Addr)(fp:Addr)(o:Obj)(c:Addr)(ga oa:Addr)(G V:Group):Sp:=fun vs H Q _=>(H fp=some (nv fp o)/\ko H c qP)/\∃(b d:Addr)(x y z u:Nat),vs=[.ref b,.ref d]/\H b=some (.tup [.int (x*V.size+y:Nat)])/\H d=some (.tup [.int (z*V.size+u:Nat)])/\x<G.size/\y<V.size/\z<G.size/\u<V.size /\
 dQ C H ga G/\dQ C H oa V/\∀(H':Hp)(p:Addr),aj H H'->H p=none->H' p=some (.tup [.int (G.times x z*V.size+V.times y u:Nat)])->Q (.ref p) H'
abbrev MY:List Str:=["first","second","group","width","other","left","right"]
theorem J6:ql MY ["first","second"] ["group","width","other"] ["left","right"] (af uY):=⟨rfl,rfl,rfl,by decide +kernel,rfl,by decide +kernel,by decide +kernel,by decide +kernel,by decide +kernel⟩
theorem JK{fp c ga oa:Addr}{clos:List (Str×Addr)}{doc pm ct:Value}{G V:Group}(TC:TG K C)(MT:aK P w K mg base C "times" 1 ["self","i","j"] (cK C))(ci:nk base clos ["group","width","other"] [.ref ga,.int (V.size:Nat),.ref oa])(inj:∀x y c,clos.lookup x=some c->clos.lookup y=some c->x=y)(only:∀x c,clos.lookup x=some c->x∈(["group","width","other"]:List Str)):
  aG P w K mg base bA 2 fp (fnX "product" qP (bD uY) (bh uY) (af uY) clos .none .none doc pm none (.ref c) ct) ["first","second"]
   (K7 C fp (iR "product" qP (bD uY) (bh uY) (af uY) clos doc pm c ct) c ga oa G V):=by
 obtain⟨ft,fdt,mt,Gt,bt⟩:=MT;refine DK J6 ci inj only (fun vs H Q E h=>?_) (fun vs H Q E h=>h.1) (fun A outer st H vs Q E hr h=>?_)
 ·obtain⟨_,b,d,x,y,z,u,rfl,_⟩:=h;rfl
 ·obtain⟨_,b,d,x,y,z,u,rfl,hb,hd,hx,hy,hz,hu,hG,hV,k⟩:=h;obtain⟨W,_,dx,fs,ha,hf⟩:=id hG;obtain⟨W2,_,dx2,fs2,ha2,hf2⟩:=id hV;have n1:=hf.fK "times" (by simp);have n2:=hf2.fK "times" (by simp);have nd:=J6.nd;have hp:=W2.pos;have hle:=W.le;have hle2:=W2.le;refine⟨_,ag (aC (i:=5) nd rfl (Or.inl rfl) (ba (pv 2) TC.cl mt Gt hr bt .nil au (aa (cI vf (bN i5 (pv 0) az (fun _ _=>rfl)) (pv 3)) (aa (cI vf (bN i5 (pv 1) az (fun _ _=>rfl)) (pv 3)) ab))))
   (ag (aC (i:=6) nd rfl (Or.inl rfl) (ba (pv 4) TC.cl mt Gt hr bt .nil au (aa (cI jQ (bN i5 (pv 0) az (fun _ _=>rfl)) (pv 3)) (aa (cI jQ (bN i5 (pv 1) az (fun _ _=>rfl)) (pv 3)) ab))))
   (ah (ak (iX (aa (cI tW (cI pG (pv 5) (pv 3)) (pv 6)) ab))))),?_⟩
  have d1:((x*V.size+y:Nat):Int)/((V.size:Nat):Int)=(x:Nat):=by rw[<-Int.natCast_ediv,fY hy]
  have d2:((z*V.size+u:Nat):Int)/((V.size:Nat):Int)=(z:Nat):=by rw[<-Int.natCast_ediv,fY hu]
  have e1:((x*V.size+y:Nat):Int)%((V.size:Nat):Int)=(y:Nat):=by rw[<-Int.natCast_emod,fX hy]
  have e2:((z*V.size+u:Nat):Int)%((V.size:Nat):Int)=(u:Nat):=by rw[<-Int.natCast_emod,fX hu]
  refine⟨_,rfl,ga,dx,_,rfl,ha,n1,_,rfl,b,_,_,_,rfl,rfl,gr.of hb,rfl,_,rfl,_,_,rfl,rfl,⟨by omega,by omega⟩,_,rfl,d,_,_,_,rfl,rfl,gr.of hd,rfl,_,rfl,_,_,rfl,rfl,⟨by omega,by omega⟩,ga,G,x,z,by show[_,L2.V.int (_/_),L2.V.int (_/_)]=_;rw[d1,d2],hG,hx,hz,?_⟩;refine⟨_,rfl,oa,dx2,_,rfl,ha2,n2,_,rfl,b,_,_,_,rfl,rfl,gr.of hb,rfl,_,rfl,_,_,rfl,rfl,by omega,_,rfl,d,_,_,_,rfl,rfl,gr.of hd,rfl,_,rfl,_,_,rfl,rfl,by omega,oa,V,y,u,by show[_,L2.V.int (_%_),L2.V.int (_%_)]=_;rw[e1,e2],hV,hy,hu,?_⟩;have l1:=W.lt _ _ hx hz;refine⟨_,rfl,_,rfl,_,_,rfl,rfl,.inl ⟨by omega,by omega⟩,_,rfl,_,_,rfl,rfl,tx,fun p hp=>?_⟩;exact k _ p (aj.upd hp) hp (by rw[ae];simp)
def xZ(C pq pp:Addr):Sp:=fun vs H Q _=>∃(a b:Addr)(G V:Group),vs=[.ref a,.ref b]/\dQ C H a G/\dQ C H b V/\G.gens.length+V.gens.length<=4/\Tb pq pp H /\
 (Vg02.pairs G V=none->∀H':Hp,Kp H H'->Tb pq pp H'->Q .cu H') /\
 ∀G',Vg02.pairs G V=some G'->∀(H':Hp)(p:Addr),Kp H H'->Tb pq pp H'->H p=none->dQ C H' p G'->Q (.ref p) H'
abbrev FQ:List Str:=["group","other","width","product","generators","i","j"]
theorem C4:aq FQ ["group","other"] (af wx):=.m
theorem HX{x y z:Str}{a b c:Addr}(h:x≠y)(h2:x≠z)(h3:y≠z):([(x,a),(y,b),(z,c)]:List (Str×Addr)).Pairwise fun p q=>p.1≠q.1:=by simp[h,h2,h3]
theorem Ge{f fg:Addr}{fd fdg:FuncData}{pq pp:Addr}(F:bW K "paired" "paired" wx f fd)(hpq:pq≠pp)(TB:Tab mg base fd.code pp)(TC:TG K C)(MS:aK P w K mg base C "size" 1 ["self"] (cC C))(GG:∀base',(∀b o,base.get? b=some o->base'.get? b=some o)->aG P w K mg base' bA 4 fg fdg ["one","generators","product"] (oy P w K mg C base'))(mG:mg "generated"=some (.ref fg))(kG:PySem.W.keepIn K (.ref fg)=true)(bG:Binds K fdg ["one","generators","product"] [])(MT:∀base',(∀b o,base.get? b=some o->base'.get? b=some o)->aK P w K mg base' C "times" 1 ["self","i","j"] (cK C)):
  aG P w K mg base bA 5 f fd ["group","other"] (xZ C pq pp):=by
 obtain⟨fz,fdz,mz,Gz,bz⟩:=MS;refine F.Mc C4 (fun vs H Q E h=>?_) (fun A outer s H vs Q E hr h=>?_)
 ·obtain⟨a,b,G,V,rfl,_⟩:=h;rfl
 ·obtain⟨a,b,G,V,rfl,hG,hV,h4,tb,k0,k1⟩:=h;obtain⟨W,qo,dx,fs,ha,hf⟩:=id hG;obtain⟨W2,few2,dx2,fs2,ha2,hf2⟩:=id hV;have qo:=qo.1;have few2:=few2.1;have nz:=hf2.fK "size" (by simp);have nd:=C4.nd;have hle:=W.le;have hle2:=W2.le;refine⟨_,ag (aC (i:=2) nd rfl (Or.inr rfl) (aU (pv 1) TC.cl mz Gz (hr.mono (by decide)) bz .nil au))
   (ag (yX (name:="product") (qual:=qP) (P:=pp) (i:=3) nd rfl (Or.inl rfl) rfl TB rfl rfl rfl rfl rfl (Or.inl rfl))
   (ag (aC (i:=4) nd rfl (Or.inl rfl) (cI iY (dm (own:=[("i",5)]) rfl nd (bM (cj (pv 0) rfl)) (bf (N:=FQ) (sc:=af wx) (by decide +kernel))
     (fun _ _ _ _ _=>aJ (i:=5) nd rfl (Or.inl rfl)) (fun _ _ _ _ _=>bV) (fun _ _ _ _ _=>iX (aa (cI pG (pv 5) (pv 2)) ab)))
     (dm (own:=[("j",6)]) rfl nd (bM (cj (pv 1) rfl)) (bf (N:=FQ) (sc:=af wx) (by decide +kernel))
     (fun _ _ _ _ _=>aJ (i:=6) nd rfl (Or.inl rfl)) (fun _ _ _ _ _=>bV) (fun _ _ _ _ _=>iX (aa (pv 6) ab)))))
   (ah (ak (qV GG hr rfl mG kG bG au (fun _ _ _=>rfl) (HX (x:="width") (y:="other") (z:="group") (by decide +kernel) (by decide +kernel) (by decide +kernel)) (aa (iX (aa az ab)) (aa (pv 4) (aa (pv 3) ab)))))))),?_⟩
  refine⟨_,rfl,b,dx2,_,rfl,ha2,nz,b,V,rfl,hV,?_⟩;refine⟨tb.p,fun H2 fp c doc ct old nf hfo hcod htab=>?_⟩;have kp2:Kp H H2:=⟨fun b o e n=>old b o e (fun z=>by
   rw[z]at e;rcases tb.p with q|⟨_,q,_⟩
   ·rw[e]at q;exact n _ (Nc q)
   ·rw[e]at q;exact n _ (Nc q)),fun b ps e=>by
    by_cases hb:b=pp
    ·subst hb;rcases htab with q|⟨_,q,_⟩
     ·exact⟨_,q⟩
     ·exact⟨_,q⟩
    ·exact⟨ps,old b _ e hb⟩⟩
  have tb2:Tb pq pp H2:=⟨kM tb.q fun b o e h=>by
   refine old b o e fun z=>?_;rcases h with h|h
   ·exact hpq (h.symm.trans z)
   ·rw[z]at e;rcases tb.p with q|⟨_,q,_⟩
    ·rw[e]at q;exact h _ (Nc q)
    ·rw[e]at q;exact h _ (Nc q),htab⟩
  have hG2:=kp2.g hG;have hV2:=kp2.g hV;obtain⟨lg,eg1,eg2⟩:=hf.gens;obtain⟨lh,eh1,eh2⟩:=hf2.gens;have ha':=kp2.keep _ _ ha (by intro ps z;cases z);have ha2':=kp2.keep _ _ ha2 (by intro ps z;cases z);have hlg:=kp2.lst eg2;have hlh:=kp2.lst eh2;refine⟨_,rfl,a,C,dx,_,_,rfl,ha',TC.cl,TC.nG,eg1,lg,rfl,⟨_,aH.of hlg⟩,fun D hD=>?_⟩;refine dH (K:=K) (xs:=iv G.gens) (fun t H'=>aj H2 H'/\∃gt:List Addr,H' D=some (.lst (gt.map L2.V.ref))/\a9 H' gt ((G.gens.take t).map fun i=>Mg.pr V i 0)) ⟨aj.upd hD,[],ae,.nil⟩ (fun t H' _ p=>aH.of (p.1 _ _ hlg)) (fun t v H' hv p=>?_) (fun H' p=>?_)
  ·obtain⟨i,hi,rfl⟩:=c8 hv;have mi:=mem_of_getElem? hi;have li:=W.dJ i mi;obtain⟨s4,gt,hD4,hgt4⟩:=p;refine⟨rfl,_,rfl,_,rfl,_,_,rfl,rfl,.inl ⟨by omega,by omega⟩,tx,fun q hq=>?_⟩;have lgt:gt.length<=4:=by rw[hgt4.length,length_map,length_take];omega
   have s5:aj H' (upd H' q (.tup [L2.V.int ((i:Int)*(V.size:Nat))])):=aj.upd hq;refine⟨_,s5 _ _ hD4,by rw[length_map,sizeLine_eq];omega,aj.over hD (s4.trans s5),gt++[q],by rw[ae,map_append];rfl,?_⟩;rw[aI hi,map_append];refine a9.snoc ((hgt4.same s5).put (s5 _ _ hD4) (by intro xs z;cases z)) ?_;rw[ao (ax hD4 hq).symm,ae];simp[Mg.pr,iv]
  obtain⟨s4,gt,hD4,hgt4⟩:=p;rw[length_map,take_length]at hgt4;refine⟨_,rfl,b,C,dx2,_,_,rfl,s4 _ _ ha2',TC.cl,TC.nG,eh1,lh,rfl,⟨_,aH.of (s4 _ _ hlh)⟩,fun D2 hD2=>?_⟩;refine dH (K:=K) (xs:=iv V.gens) (fun t H6=>aj H' H6/\∃gt:List Addr,H6 D2=some (.lst (gt.map L2.V.ref))/\a9 H6 gt ((V.gens.take t).map fun j=>Mg.pr V 0 j)) ⟨aj.upd hD2,[],ae,.nil⟩ (fun t H6 _ p=>aH.of (p.1 _ _ (s4 _ _ hlh))) (fun t v H6 hv p=>?_) (fun H6 p=>?_)
  ·obtain⟨i,hi,rfl⟩:=c8 hv;have mi:=mem_of_getElem? hi;have li:=W2.dJ i mi;obtain⟨s6,gt6,hD6,hgt6⟩:=p;refine⟨rfl,_,rfl,tx,fun q hq=>?_⟩;have lgt:gt6.length<=4:=by rw[hgt6.length,length_map,length_take];omega
   have s7:aj H6 (upd H6 q (.tup [L2.V.int (i:Nat)])):=aj.upd hq;refine⟨_,s7 _ _ hD6,by rw[length_map,sizeLine_eq];omega,aj.over hD2 (s6.trans s7),gt6++[q],by rw[ae,map_append];rfl,?_⟩;rw[aI hi,map_append];refine a9.snoc ((hgt6.same s7).put (s7 _ _ hD6) (by intro xs z;cases z)) ?_;rw[ao (ax hD6 hq).symm,ae];simp[Mg.pr,iv]
  obtain⟨s6,gt6,hD6,hgt6⟩:=p;rw[length_map,take_length]at hgt6;have l1:gt.length=G.gens.length:=by rw[hgt4.length,length_map]
  have l2:gt6.length=V.gens.length:=by rw[hgt6.length,length_map]
  refine⟨D,D2,_,_,rfl,rfl,s6 _ _ hD4,hD6,by rw[length_map,length_map,sizeLine_eq];omega,fun D3 hD3=>?_⟩;have s8:=aj.upd (o:=.lst (gt.map L2.V.ref++gt6.map L2.V.ref)) hD3;have hD8:upd H6 D3 (.lst (gt.map L2.V.ref++gt6.map L2.V.ref)) D3=some (.lst ((gt++gt6).map L2.V.ref)):=by rw[ae,map_append]
  generalize upd H6 D3 (.lst (gt.map L2.V.ref++gt6.map L2.V.ref))=H8 at s8 hD8;have tA:∀{ts1 ts2:List Addr}{r1 r2:L4},a9 H8 ts1 r1->a9 H8 ts2 r2->a9 H8 (ts1++ts2) (r1++r2):=fun{ts1 ts2 r1 r2}h1 h2=>by
   induction h1 with
   |nil=>exact h2
   |cons r _ ih=>exact .cons r ih
  have hgt8:=tA ((hgt4.same s6).same s8) (hgt6.same s8);refine⟨tx,fun t0 ht0=>?_⟩;have s9:aj H8 (upd H8 t0 (.tup [L2.V.int 0])):=aj.upd ht0;have ht9:upd H8 t0 (.tup [L2.V.int 0]) t0=some (.tup (iv (Mg.pr V 0 0))):=by rw[ae];simp[Mg.pr,iv]
  generalize upd H8 t0 (.tup [L2.V.int 0])=H9 at s9 ht9;have sall:=((s4.trans s6).trans s8).trans s9;refine⟨_,rfl,_,rfl,fun base' up ci=>?_⟩;obtain⟨clos,pm,hfo',ecl⟩:∃clos pm,H2 fp=some (nv fp (iR "product" qP (bD uY) (bh uY) (af uY) clos doc pm c ct))/\clos=([(("width":Str),(s.heap.objs.size+1+1+1:Addr)),(("other":Str),(s.heap.objs.size+1+1:Addr)),(("group":Str),(s.heap.objs.size+1:Addr))]:List (Str×Addr)):=⟨_,_,hfo,rfl⟩;have ci':nk base' clos ["group","width","other"] [.ref a,.int (V.size:Nat),.ref b]:=by
   refine⟨rfl,fun i x v h1 h2=>?_⟩;rw[ecl]
   match i,h1,h2 with
   |0,h1,h2=>
    cases h1;cases h2;obtain⟨c1,u,q1,q2,q3⟩:=ci 0 "group" (.ref a) rfl rfl rfl;exact⟨c1,u,q1,q2,q3⟩
   |1,h1,h2=>
    cases h1;cases h2;obtain⟨c1,u,q1,q2,q3⟩:=ci 2 "width" (.int (V.size:Nat)) rfl rfl rfl;exact⟨c1,u,q1,q2,q3⟩
   |2,h1,h2=>
    cases h1;cases h2;obtain⟨c1,u,q1,q2,q3⟩:=ci 1 "other" (.ref b) rfl rfl rfl;exact⟨c1,u,q1,q2,q3⟩
   |i+3,h1,h2=>cases h1
  have FN:=JK (P:=P) (w:=w) (K:=K) (mg:=mg) (base:=base') (fp:=fp) (c:=c) (ga:=a) (oa:=b) (clos:=clos) (doc:=doc) (pm:=pm) (ct:=ct) (G:=G) (V:=V) TC (MT base' up) ci' (sx (by rw[ecl];simp;omega)) (oW (by rw[ecl];simp));have fk:∀H5,aj H9 H5->H5 fp=some (nv fp (iR "product" qP (bD uY) (bh uY) (af uY) clos doc pm c ct)):=fun H5 s5=>s5 _ _ (sall _ _ hfo');have cod:∀H5,aj H9 H5->ko H5 c qP:=fun H5 s5=>iJ hcod fun o e=>s5 _ _ (sall _ _ e);have kpA:Kp H H9:=kp2.trans (Kp.of sall);refine⟨t0,D3,fp,Mg.pr V 0 0,_,gt++gt6,Mg.dD G V,_,rfl,ht9,s9 _ _ hD8,hgt8.same s9,Mg.vc W W2,Mg.jm W W2,by rw[length_append,length_map,length_map];exact h4,⟨⟨_,_,_,FN,?_,?_⟩,?_⟩,?_,?_⟩
  ·exact .all fun us hl=>match us,hl with|[_,_],_=>rfl
  ·rintro H5 b' d x y Q1 s5 hb hd ⟨x1,y1,lx1,ly1,rfl⟩ ⟨x2,y2,lx2,ly2,rfl⟩ k5;refine⟨⟨fk H5 s5,cod H5 s5⟩,b',d,x1,y1,x2,y2,rfl,hb,hd,lx1,ly1,lx2,ly2,(kpA.trans (Kp.of s5)).g hG,(kpA.trans (Kp.of s5)).g hV,fun H6 p6 s6 hp6 hv6=>?_⟩;refine k5 H6 p6 s6 hp6 ?_;rw[Mg.bQ ly1 ly2];exact hv6
  ·exact fun H5 s5=>.inr ⟨_,_,_,_,fk H5 s5⟩
  ·intro hn H7 s7;exact k0 (by rw[me W W2 h4];exact hn) H7 (kpA.trans (Kp.of s7)) ((tb2.same sall).same s7)
  ·intro G2 hm H7 p7 s7 hp7 hg7;exact k1 G2 (by rw[me W W2 h4];exact hm) H7 p7 (kpA.trans (Kp.of s7)) ((tb2.same sall).same s7) (kpA.free hp7) hg7
end
abbrev Bi:Stmt:=top 31
abbrev EC:Stmt:=top 39
abbrev Bl:Stmt:=top 40
abbrev EV:Stmt:=top 41
abbrev EY:Stmt:=top 42
abbrev Bk:Stmt:=top 43
abbrev Bh:Stmt:=top 44
section
variable{P:Program}{w:World}{K:Frag}{mg:GmT}{base:Heap}{C:Addr}
def xW:Sp:=fun vs H Q _=>∃p:Nat,vs=[.int p]/\p<60/\∀H':Hp,aj H H'->Q (.bl (Vg02.isPrime p)) H'
theorem C1:aq ["p","divisor"] ["p"] (af Bl):=.m
theorem yY{p:Nat}(h:1<p):(((range (p-2)).map fun t=>decide (¬p%(t+2)=0)).all id)=Vg02.isPrime p:=by
 refine Bool.eq_iff_iff.mpr ?_;rw[ff];simp only[all_eq_true,mem_map,mem_range,id_eq,forall_exists_index,and_imp,forall_apply_eq_imp_iff₂,decide_eq_true_eq];have key:Mg.Pr p↔(2<=p/\∀d,2<=d->d<p->¬p%d=0):=by
  rw[<-ff];unfold Vg02.isPrime;simp only[and_eq_true,decide_eq_true_eq,all_eq_true,mem_range,or_eq_true,bne_iff_ne,ne_eq];constructor
  ·rintro⟨h1,h2⟩;exact⟨h1,fun d hd hl=>(h2 d hl).resolve_left (by omega)⟩
  ·rintro⟨h1,h2⟩;exact⟨h1,fun d hl=>by by_cases q:d<2;exact .inl q;exact .inr (h2 d (by omega) hl)⟩
 rw[key];constructor
 ·intro q;exact⟨h,fun d hd hl=>by have:=q (d-2) (by omega);rwa [show d-2+2=d by omega]at this⟩
 ·rintro⟨_,q⟩ t ht;exact q (t+2) (by omega) (by omega)
theorem Ga{f:Addr}{fd:FuncData}(F:bW K "is_prime" "is_prime" Bl f fd)(T:Tx mg)(T4:xq mg):aG P w K mg base bA 1 f fd ["p"] xW:=by
 exists F.ok C1
 ·obtain⟨p,rfl,_⟩:=h;rfl
 ·obtain⟨p,rfl,hp,k⟩:=h;have nd:=C1.nd;refine⟨_,ah (ak (FO (cV oG (pv 0) az (aW _)) (y4 (aS (uv rfl) rfl T4.al uA (aa (dm (own:=[("divisor",1)]) rfl nd (oC rfl T.pD (aa az (aa (pv 0) ab))) (bf (N:=["p","divisor"]) (sc:=af Bl) (by decide +kernel))
   (fun _ _ _ _ _=>aJ (i:=1) nd rfl (Or.inl rfl)) (fun _ _ _ _ _=>bV) (fun _ _ _ _ _=>cV qX (cI jQ (pv 0) (pv 1)) az (aW _))) ab))))),?_⟩
  refine⟨_,rfl,_,_,rfl,rfl,_,rfl,?_⟩;refine c9 (fun c=>?_) (fun c=>?_)
  ·have h1:1<p:=by have:=of_decide_eq_true c;omega
   refine⟨_,rfl,_,_,rfl,⟨by omega,by omega,by omega,by omega⟩,fun D hD=>?_⟩;have en:((p:Int)-2).toNat=p-2:=by omega
   rw[en];refine dG (gu H D fun t=>((range (p-2)).map fun t=>V.bl (decide (¬p%(t+2)=0))).take t) (gu.start hD rfl) (fun t H' ht q=>?_) (fun H' q=>?_)
   ·refine⟨rfl,_,rfl,_,rfl,_,_,rfl,rfl,by omega,rfl,?_⟩;refine q.push hD (aj.refl _) (by rw[length_take,length_map,length_range,sizeLine_eq];omega) (fQ ?_);rw[getElem?_map,getElem?_range ht];have e1:((p:Int)%(2+(t:Int)))=((p%(t+2):Nat):Int):=by rw[show(2+(t:Int))=((t+2:Nat):Int)by push_cast;omega];simp
    show some (V.bl _)=some (V.bl (!decide (V.int _=V.int 0)));rw[e1];congr 2;refine Bool.eq_iff_iff.mpr ?_;simp only[decide_eq_true_eq,not_eq_true',decide_eq_false_iff_not];constructor
    ·intro z e;injection e with e;omega
    ·intro z e;exact z (by rw[e];rfl)
   ·have e:=q.done (by simp);refine⟨D,(range (p-2)).map fun t=>decide (¬p%(t+2)=0),rfl,aH.of (by rw[e,map_map];rfl),?_⟩;rw[yY h1];exact k H' q.1
  ·have h1:¬1<p:=by have:=of_decide_eq_false (Bool.eq_false_iff.mpr c);omega
   have:Vg02.isPrime p=false:=by
    cases q:Vg02.isPrime p with
    |false=>rfl
    |true=>exact absurd (Mg.ff.mp q).two (by omega)
   rw[<-this];exact k H (aj.refl H)
def ye:Sp:=fun vs H Q _=>∃p n:Nat,vs=[.int p,.int n]/\2<=p/\p<60/\0<n/\n<=60/\∀m,Mg.Top p n m->Q (.int m) H
theorem De:aq ["p","number","found"] ["p","number"] (af EV):=.m
theorem Gy{f:Addr}{fd:FuncData}(F:bW K "greatest_power" "greatest_power" EV f fd):aG P w K mg base bA 1 f fd ["p","number"] ye:=by
 exists F.ok De
 ·obtain⟨p,n,rfl,_⟩:=h;rfl
 ·obtain⟨p,n,rfl,hp,hp6,hn,hn6,k⟩:=h;have nd:=De.nd;refine⟨_,ag (aC (i:=2) nd rfl (Or.inl rfl) az)
   (ag (eO PassesOwn.never (aX fZ (cI jQ (pv 1) (cI pG (pv 2) (pv 0))) az (aW _)) (ah (lW (i:=2) nd rfl (Or.inl rfl) (pv 0) Ae)))
   (ah (ak (pv 2)))),?_⟩
  refine⟨fun m σ H'=>H'=H/\∃d:Nat,σ=[some (.int p),some (.int n),some (.int d)]/\(∃k,d=p^k)/\d∣n/\m+d=61,⟨60,rfl,1,rfl,⟨0,rfl⟩,Nat.one_dvd _,rfl⟩,?_⟩;rintro m σ H' ⟨rfl,d,rfl,⟨e,he⟩,hd,hm⟩;have dn:d<=n:=le_of_dvd hn hd;have d0:0<d:=Nat.pos_of_dvd_of_pos hd hn;have dp:0<d*p:=Nat.mul_pos d0 (by omega);have em:((n:Int)%((d:Int)*(p:Int)))=((n%(d*p):Nat):Int):=by rw[show((d:Int)*(p:Int))=((d*p:Nat):Int)by push_cast;rfl];simp
  refine⟨_,rfl,_,rfl,_,rfl,_,_,rfl,rfl,.inl ⟨by omega,by omega⟩,_,_,rfl,rfl,?_,rfl,_,rfl,?_⟩
  ·show(0:Int)<(d:Int)*(p:Int);rw[show((d:Int)*(p:Int))=((d*p:Nat):Int)by push_cast;rfl];omega
  ·show(if decide (V.int ((n:Int)%((d:Int)*(p:Int)))=V.int 0)=true then _ else _);rw[em];by_cases hz:n%(d*p)=0
   ·rw[hz];have hd2:d*p∣n:=dvd_of_mod_eq_zero hz;have le2:=le_of_dvd hn hd2;have lt2:d<d*p:=by have:d*2<=d*p:=Nat.mul_le_mul_left _ hp;omega
    refine⟨fun σ' H''=>H''=H'/\σ'=[some (.int p),some (.int n),some (.int ((d*p:Nat):Int))],?_,?_⟩
    ·rintro σ' H'' ⟨rfl,rfl⟩;exact⟨61-d*p,by omega,rfl,d*p,rfl,⟨e+1,by rw[he,pow_succ]⟩,hd2,by omega⟩
    ·exact⟨_,rfl,_,rfl,_,_,rfl,rfl,.inl ⟨by omega,by omega⟩,rfl,by push_cast;rfl⟩
   ·have:decide (V.int ((n%(d*p):Nat):Int)=V.int 0)=false:=decide_eq_false (by intro q;injection q with q;omega);rw[this];exact⟨_,rfl,k d ⟨⟨e,he⟩,hd,fun q=>hz (mod_eq_zero_of_dvd q)⟩⟩
def yj(K:Frag):Sp:=fun vs H Q _=>∃(a:Addr)(xs:List V),vs=[.ref a]/\aH K H a xs/\∀(H':Hp)(p:Addr),aj H H'->H p=none->H' p=some (.lst xs.reverse)->Q (.ref p) H'
theorem Jc:aq ["members"] ["members"] (af EY):=.m
theorem GJ{f:Addr}{fd:FuncData}(F:bW K "falling" "falling" EY f fd)(T:Tx mg)(T4:xq mg):aG P w K mg base bA 1 f fd ["members"] (yj K):=by
 exists F.ok Jc
 ·obtain⟨a,xs,rfl,_⟩:=h;rfl
 ·obtain⟨a,xs,rfl,ha,k⟩:=h;refine⟨_,ah (ak (tU rfl rfl T.lst rfl T4.rv (pv 0))),?_⟩;exact⟨_,rfl,a,xs,rfl,ha,fun p hp=>k _ p (aj.upd hp) hp ae⟩
def xP(C:Addr):Sp:=fun vs H Q _=>∃(a:Addr)(G:Group),vs=[.ref a]/\dQ C H a G/\∀H':Hp,aj H H'->Q (.bl (isSimple G)) H'
theorem CT:aq ["group","i"] ["group"] (af Bh):=.m
theorem wt{G:Group}(W:Mg.WF G)(h:G.size≠1):(((range (G.size-1)).map fun t=>decide ((Vg02.leastNormal G [t+1]).length=G.size)).all id)=isSimple G:=by
 refine Bool.eq_iff_iff.mpr ?_;unfold isSimple;simp only[all_eq_true,mem_map,mem_range,id_eq,forall_exists_index,and_imp,forall_apply_eq_imp_iff₂,decide_eq_true_eq,and_eq_true,bne_iff_ne,ne_eq,or_eq_true,beq_iff_eq];constructor
 ·intro q;exact⟨h,fun i hi=>by
   by_cases e:i=0
   ·exact .inl e
   ·have li:=Mg.aL.mp hi;have:=q (i-1) (by omega);rw[show i-1+1=i by omega]at this;exact .inr this⟩
 ·rintro⟨_,q⟩ t ht;exact(q (t+1) (Mg.aL.mpr (by omega))).resolve_left (by omega)
theorem FZ{f:Addr}{fd:FuncData}(F:bW K "is_simple" "is_simple" Bh f fd)(T:Tx mg)(T4:xq mg)(TC:TG K C)(MS:aK P w K mg base C "size" 1 ["self"] (cC C))(DL:ay P w K mg base "least_normal" 4 ["group","members"] (qD K C)):
  aG P w K mg base bA 5 f fd ["group"] (xP C):=by
 obtain⟨fz,fdz,mz,Gz,bz⟩:=MS;obtain⟨f1,fd1,m1,k1,G1,b1⟩:=DL;exists F.ok CT
 ·obtain⟨a,G,rfl,_⟩:=h;rfl
 ·obtain⟨a,G,rfl,hG,k⟩:=h;obtain⟨W,_,dx,fs,ha,hf⟩:=id hG;have n1:=hf.fK "size" (by simp);have nd:=CT.nd;have hle:=W.le;have hp:=W.pos;have hr1:bR 1 _:=hr.mono (by decide);refine⟨_,ag (bL (aX fZ (aU (pv 0) TC.cl mz Gz hr1 bz .nil au) az (aW _)) (ah (ak gR)) aZ)
   (ah (ak (aS (uv rfl) rfl T4.al uA (aa (dm (own:=[("i",1)]) rfl nd (oC rfl T.pD (aa az (aa (aU (pv 0) TC.cl mz Gz hr1 bz .nil au) ab))) (bf (N:=["group","i"]) (sc:=af Bh) (by decide +kernel))
   (fun _ _ _ _ _=>aJ (i:=1) nd rfl (Or.inl rfl)) (fun _ _ _ _ _=>bV)
   (fun _ _ _ _ _=>cV fZ (aS (r:=fun xs H Q=>∃p ys,xs=[.ref p]/\(aH K H p ys\/gr K H p ys)/\Q (.int ys.length) H) aM rfl T.len PySem.boot_len (aa (aw G1 hr rfl m1 k1 b1 .nil au (aa (pv 0) (aa (aT (aa (pv 1) ab)) ab))) ab)) (aU (pv 0) TC.cl mz Gz hr1 bz .nil au) (aW _))) ab)))),?_⟩
  refine⟨_,rfl,a,dx,_,rfl,ha,n1,a,G,rfl,hG,rfl,_,rfl,?_⟩;by_cases h1:G.size=1
  ·rw[decide_eq_true (show V.int ((G.size:Nat):Int)=V.int 1 by rw[h1];rfl)];have:isSimple G=false:=by unfold isSimple;rw[h1];rfl
   rw[this]at k;exact k H (aj.refl H)
  ·rw[decide_eq_false (show¬V.int ((G.size:Nat):Int)=V.int 1 by intro q;injection q with q;omega)];refine⟨_,rfl,a,dx,_,rfl,ha,n1,a,G,rfl,hG,_,_,rfl,⟨by omega,by omega,by omega,by omega⟩,fun D hD=>?_⟩;have en:(((G.size:Nat):Int)-1).toNat=G.size-1:=by omega
   rw[en];refine dG (gu H D fun t=>((range (G.size-1)).map fun t=>V.bl (decide ((Vg02.leastNormal G [t+1]).length=G.size))).take t) (gu.start hD rfl) (fun t H' ht q=>?_) (fun H' q=>?_)
   ·refine⟨rfl,_,rfl,_,rfl,tx,fun e he=>?_⟩;have s1:=q.1.trans (aj.upd (o:=.lst [V.int (1+(t:Int))]) he);refine⟨a,e,G,[t+1],rfl,hG.same s1,aH.of (by rw[ae];simp[iv];omega),by simp;omega,fun H2 p2 s2 hp2 hv2=>?_⟩;have s3:=s1.trans s2;refine⟨p2,_,rfl,.inl (aH.of hv2),_,rfl,a,dx,_,rfl,s3 _ _ ha,n1,a,G,rfl,hG.same s3,rfl,?_⟩;rw[length_map];refine q.push hD ((aj.upd he).trans s2) (by rw[length_take,length_map,length_range,sizeLine_eq];omega) (fQ ?_);rw[getElem?_map,getElem?_range ht];show some (V.bl _)=some (V.bl (decide (V.int _=V.int _)));congr 2;rw[decide_eq_decide];constructor
    ·intro z;rw[z]
    ·intro z;injection z with z;omega
   ·have e:=q.done (by simp);refine⟨D,(range (G.size-1)).map fun t=>decide ((Vg02.leastNormal G [t+1]).length=G.size),rfl,aH.of (by rw[e,map_map];rfl),?_⟩;rw[wt W h1];exact k H' q.1
end
theorem AK{α:Type}(xs:List α)(x:α):CB (xs++[x]) (-1)=some x:=by
 unfold CB Aa;rw[if_neg (by decide),if_pos (by simp;omega)];simp only[length_append,length_cons,length_nil,Option.bind_some];rw[show((-1:Int)+((xs.length+(0+1):Nat):Int)).toNat=xs.length by omega];simp
section
variable{P:Program}{w:World}{K:Frag}{mg:GmT}{base:Heap}{C:Addr}
def xS(C:Addr):Sp:=fun vs H Q _=>∃(a:Addr)(G:Group)(lower:Bool),vs=[.ref a,.bl lower]/\dQ C H a G/\∀(H':Hp)(p:Addr)(ts:List Addr)(rows:L4),aj H H'->H p=none->H' p=some (.lst (ts.map V.ref))->aQ H' ts rows->rows.map length=series G lower->rows.length<=60->Q (.ref p) H'
abbrev Lg:List Str:=["group","lower","whole","row","following"]
theorem CW:aq Lg ["group","lower"] (af EC):=.m
theorem F3{f:Addr}{fd:FuncData}(F:bW K "row_of_mixed" "row_of_mixed" EC f fd)(T:Tx mg)(TC:TG K C)(MS:aK P w K mg base C "size" 1 ["self"] (cC C))(DM:ay P w K mg base "mixed_of" 3 ["group","members","others"] (qC K C)):
  aG P w K mg base bA 4 f fd ["group","lower"] (xS C):=by
 obtain⟨fz,fdz,mz,Gz,bz⟩:=MS;obtain⟨f1,fd1,m1,k1,G1,b1⟩:=DM;exists F.ok CW
 ·obtain⟨a,G,l,rfl,_⟩:=h;rfl
 ·obtain⟨a,G,lower,rfl,hG,k⟩:=h;obtain⟨W,_,dx,fs,ha,hf⟩:=id hG;have n1:=hf.fK "size" (by simp);have nd:=CW.nd;have hle:=W.le;have hp:=W.pos;refine⟨_,ag (aC (i:=2) nd rfl (Or.inl rfl) (bO (jb rfl) rfl T.lst lC (aa (bO fj rfl T.pD jC (aa (aU (pv 0) TC.cl mz Gz (hr.mono (by decide)) bz .nil au) ab)) ab)))
   (ag (aC (i:=3) nd rfl (Or.inl rfl) (aT (aa (pv 2) ab)))
   (ag (aC (i:=4) nd rfl (Or.inl rfl) (aw G1 hr rfl m1 k1 b1 .nil au (aa (pv 0) (aa (pv 2) (aa (pv 2) ab)))))
   (ag (eO PassesOwn.never (aX qY (aS aM rfl T.len PySem.boot_len (aa (pv 4) ab)) (aS aM rfl T.len PySem.boot_len (aa (bN bb (pv 3) (fW dW az) (fun _ _=>rfl)) ab)) (aW _))
    (ag (dC (fb plainAttrs_list PySem.F.slot_list_append PySem.F.type_list_append dw (pv 3) (aa (pv 4) ab)))
    (ah (aC (i:=4) nd rfl (Or.inl rfl) (aw G1 hr rfl m1 k1 b1 .nil au (aa (pv 0) (aa (pv 4) (aa (hJ (df (pv 1)) (pv 2) (pv 4)) ab))))))))
   (ah (ak (pv 3)))))),?_⟩
  refine⟨_,rfl,a,dx,_,rfl,ha,n1,a,G,rfl,hG,_,rfl,fun q0 hq0=>⟨q0,G.size,rfl,ae,by omega,fun wl hwl=>?_⟩⟩;have s1:aj H (upd H q0 (.qm 0 (G.size:Nat))):=aj.upd hq0;have s2:=aj.upd (o:=.lst (cR G.size)) hwl;have hw2:upd (upd H q0 (.qm 0 (G.size:Nat))) wl (.lst (cR G.size)) wl=some (.lst (iv G.all)):=ae;generalize upd (upd H q0 (.qm 0 (G.size:Nat))) wl (.lst (cR G.size))=H2 at s2 hw2;have s12:=s1.trans s2;refine⟨_,rfl,tx,fun q hq=>?_⟩;have s3:aj H2 (upd H2 q (.lst [V.ref wl])):=aj.upd hq;have hq3:upd H2 q (.lst [V.ref wl]) q=some (.lst [V.ref wl]):=ae;generalize upd H2 q (.lst [V.ref wl])=H3 at s3 hq3;have s13:=s12.trans s3;have nq:H q=none:=s12.free hq;have al:∀x∈G.all,x<G.size:=fun x hx=>Mg.aL.mp hx;refine⟨_,rfl,_,rfl,_,rfl,a,wl,wl,G,G.all,G.all,rfl,hG.same s13,aH.of (s3 _ _ hw2),aH.of (s3 _ _ hw2),al,al,fun H4 f0 s4 hf0 hv4=>?_⟩;have n0:Vg02.mixed G G.all G.all=cJ G lower G.all:=by unfold cJ;split<;>rfl
  rw[n0]at hv4;have s14:=s13.trans s4;refine⟨fun m σ H'=>∃(S:DW)(rs:L4)(ts:List Addr)(sa fa:Addr)(fu:Nat),σ=[some (.ref a),some (.bl lower),some (.ref wl),some (.ref q),some (.ref fa)]/\aj H H'/\H' wl=some (.lst (iv G.all))/\H' q=some (.lst ((ts++[sa]).map V.ref))/\aQ H' (ts++[sa]) (rs++[S])/\H' fa=some (.lst (iv (cJ G lower S))) /\
   Norm G S/\S.Pairwise (·<·)/\m=S.length/\series G lower=rs.map length++Vg02.seriesFrom G lower fu S/\fu<=6/\S.length*2^(6-fu)<=60/\rs.length+fu=6,
   ⟨G.size,G.all,[],[],wl,f0,6,rfl,s14,s4 _ _ (s3 _ _ hw2),s4 _ _ hq3,.cons (s4 _ _ (s3 _ _ hw2)) .nil,hv4,gp W,List.pairwise_lt_range,by rw[fm],rfl,le_refl _,by rw[fm];simpa using hle,rfl⟩,?_⟩
  rintro m σ H' ⟨S,rs,ts,sa,fa,fu,rfl,s5,hw5,hq5,hr5,hf5,NS,pS,rfl,es,hfu,hb,hlen⟩;have pos:=Mg.zw NS;have dv:=Mg.wI W (lower:=lower) NS pS;have fu1:0<fu:=by
   apply byContradiction;intro z;have:fu=0:=by omega
   subst this;have:S.length*64<=60:=by simpa using hb
   omega
  have ltS:S.length<=60:=le_trans (Nat.le_mul_of_pos_right _ (two_pow_pos _)) hb;have hsa:H' sa=some (.lst (iv S)):=by
   have l1:(ts++[sa])[ts.length]?=some sa:=by simp
   obtain⟨y,hy,h2⟩:=bP hr5 l1;have lr:ts.length=rs.length:=by have:=hr5.length;simp at this;exact this
   rw[lr]at hy;have:y=S:=by simp at hy;exact hy.symm
   rw[this]at h2;exact h2
  have hq5':=hq5;rw[map_append]at hq5';refine⟨_,rfl,fa,_,rfl,.inl (aH.of hf5),_,rfl,_,rfl,q,_,_,_,rfl,rfl,aH.of hq5',AK _ _,sa,_,rfl,.inl (aH.of hsa),_,_,rfl,rfl,_,rfl,?_⟩;rw[length_map,length_map];refine c9 (fun c=>?_) (fun c=>?_)
  ·have hlt:(cJ G lower S).length<S.length:=by have:=of_decide_eq_true c;omega
   have hh:=Mg.half dv hlt;have lts:ts.length<=6:=by have:=hr5.length;simp at this;omega
   refine⟨fun σ' H''=>∃(fa':Addr),σ'=[some (.ref a),some (.bl lower),some (.ref wl),some (.ref q),some (.ref fa')]/\aj H H''/\H'' wl=some (.lst (iv G.all))/\H'' q=some (.lst ((ts++[sa]++[fa]).map V.ref))/\aQ H'' (ts++[sa]++[fa]) (rs++[S]++[cJ G lower S])/\H'' fa'=some (.lst (iv (cJ G lower (cJ G lower S)))),?_,?_⟩
   ·rintro σ' H'' ⟨fa',rfl,s6,hw6,hq6,hr6,hf6⟩;refine⟨(cJ G lower S).length,hlt,cJ G lower S,rs++[S],ts++[sa],fa,fa',fu-1,rfl,s6,hw6,hq6,hr6,hf6,iZ W NS,Mg.jn,rfl,?_,by omega,?_,by simp;omega⟩
    ·rw[es,show fu=(fu-1)+1 by omega,Mg.qF (by omega)];simp
    ·rw[show 6-(fu-1)=(6-fu)+1 by omega,pow_succ,mul_comm (2^(6-fu)) 2,<-mul_assoc,mul_comm _ 2];exact le_trans (mul_le_mul_right _ hh) hb
   ·refine⟨_,rfl,.inl ⟨rfl,_,aH.of hq5⟩,_,rfl,q,_,_,rfl,rfl,hq5,by rw[length_map,sizeLine_eq];simp;omega,?_⟩;have s6:aj H (upd H' q (.lst ((ts++[sa]).map V.ref++[V.ref fa]))):=aj.over nq s5;have hqf:fa≠q:=fun z=>by
     rw[z,hq5]at hf5;exact eI (ts:=ts++[sa]) (by simp) _ (Nc hf5)
    have hqw:wl≠q:=fun z=>by
     rw[z,hq5]at hw5;exact eI (ts:=ts++[sa]) (by simp) _ (Nc hw5)
    have hf6:upd H' q (.lst ((ts++[sa]).map V.ref++[V.ref fa])) fa=some (.lst (iv (cJ G lower S))):=by rw[ao hqf];exact hf5
    have hw6:upd H' q (.lst ((ts++[sa]).map V.ref++[V.ref fa])) wl=some (.lst (iv G.all)):=by rw[ao hqw];exact hw5
    have hq6:upd H' q (.lst ((ts++[sa]).map V.ref++[V.ref fa])) q=some (.lst ((ts++[sa]++[fa]).map V.ref)):=by rw[ae,map_append (l₁:=ts++[sa])];rfl
    have hr6:aQ (upd H' q (.lst ((ts++[sa]).map V.ref++[V.ref fa]))) (ts++[sa]++[fa]) (rs++[S]++[cJ G lower S]):=aQ.snoc (hr5.put hq5 _) hf6;generalize upd H' q (.lst ((ts++[sa]).map V.ref++[V.ref fa]))=H6 at s6 hf6 hw6 hq6 hr6;have nl:∀x∈cJ G lower S,x<G.size:=(iZ W NS).sub.lt;refine⟨_,rfl,_,rfl,_,rfl,_,rfl,?_⟩;cases lower with
    |true=>
     refine⟨_,rfl,a,fa,wl,G,cJ G true S,G.all,rfl,hG.same s6,aH.of hf6,aH.of hw6,nl,al,fun H7 p7 s7 hp7 hv7=>?_⟩;exact⟨p7,rfl,s6.trans s7,s7 _ _ hw6,s7 _ _ hq6,hr6.same s7,hv7⟩
    |false=>
     refine⟨_,rfl,a,fa,fa,G,cJ G false S,cJ G false S,rfl,hG.same s6,aH.of hf6,aH.of hf6,nl,nl,fun H7 p7 s7 hp7 hv7=>?_⟩;exact⟨p7,rfl,s6.trans s7,s7 _ _ hw6,s7 _ _ hq6,hr6.same s7,hv7⟩
  ·have hge:(cJ G lower S).length=S.length:=by
    have h1:=of_decide_eq_false (Bool.eq_false_iff.mpr c);have h2:=le_of_dvd pos dv;omega
   refine⟨_,rfl,k H' q (ts++[sa]) (rs++[S]) s5 nq hq5 hr5 ?_ (by simp;omega)⟩;rw[es,show fu=(fu-1)+1 by omega,Mg.tI hge];simp
theorem i3:∀a b:DW,HT.lexLt (ii a) (ii b)=jt a b
 |[],[]=>rfl
 |[],_::_=>rfl
 |_::_,[]=>rfl
 |x::a,y::b=>by
  show HT.lexLt ((x:Int)::ii a) ((y:Int)::ii b)=_
  rw[HT.gI,i3 a b]
  by_cases e:x=y
  ·rw[if_pos (by omega)];simp[jt,e]
  ·rw[if_neg (by omega)]
   show _=(if x=y then _ else decide (x<y))
   rw[if_neg e,decide_eq_decide];omega
def xV(C:Addr):Sp:=fun vs H Q _=>∃(a:Addr)(G:Group)(p:Nat),vs=[.ref a,.int p]/\dQ C H a G/\Vg02.isPrime p=true/\p<60/\∀(H':Hp)(q:Addr),aj H H'->H' q=some (.lst (iv (Vg02.prime G p)))->Q (.ref q) H'
abbrev JA:List Str:=["group","p","most","found","i","reached","j"]
theorem CZ:aq JA ["group","p"] (af Bk):=.m
theorem F8{f:Addr}{fd:FuncData}(F:bW K "prime_subgroup" "prime_subgroup" Bk f fd)(T:Tx mg)(T4:xq mg)(TC:TG K C)(MS:aK P w K mg base C "size" 1 ["self"] (cC C))(DG:ay P w K mg base "greatest_power" 1 ["p","number"] ye)(DL:ay P w K mg base "least_subgroup" 2 ["group","members"] (j5 K C))(DT:ay P w K mg base "turned_by" 3 ["group","members","j"] (uO K C))(DF:ay P w K mg base "falling" 1 ["members"] (yj K)):
  aG P w K mg base bA 4 f fd ["group","p"] (xV C):=by
 obtain⟨fz,fdz,mz,Gz,bz⟩:=MS;obtain⟨f1,fd1,m1,k1,G1,b1⟩:=DG;obtain⟨f2,fd2,m2,k2,G2,b2⟩:=DL;obtain⟨f3,fd3,m3,k3,G3,b3⟩:=DT;obtain⟨f4,fd4,m4,k4,G4,b4⟩:=DF;exists F.ok CZ
 ·obtain⟨a,G,p,rfl,_⟩:=h;rfl
 ·obtain⟨a,G,p,rfl,hG,hpr,hp6,k⟩:=h;obtain⟨W,_,dx,fs,ha,hf⟩:=id hG;have PR:=Mg.ff.mp hpr;have n1:=hf.fK "size" (by simp);have nd:=CZ.nd;have hle:=W.le;have hpos:=W.pos;have hr1:bR 1 _:=hr.mono (by decide);refine⟨_,ag (aC (i:=2) nd rfl (Or.inl rfl) (aw G1 hr1 rfl m1 k1 b1 .nil au (aa (pv 1) (aa (aU (pv 0) TC.cl mz Gz hr1 bz .nil au) ab))))
   (ag (aC (i:=3) nd rfl (Or.inr rfl) (aT (aa az ab)))
   (ag (cM PassesOwn.never rfl (cw rfl T.pD (aa (aU (pv 0) TC.cl mz Gz hr1 bz .nil au) ab)) (aJ (i:=4) nd rfl (Or.inl rfl))
    (ag (aC (i:=5) nd rfl (Or.inl rfl) (aw G2 (hr.mono (by decide)) rfl m2 k2 b2 .nil au (aa (pv 0) (aa (cI iY (pv 3) (aT (aa (pv 4) ab))) ab))))
    (ah (bL (aX fZ (cI jQ (pv 2) (aS aM rfl T.len PySem.boot_len (aa (pv 5) ab))) az (aW _)) (ah (aC (i:=3) nd rfl (Or.inr rfl) (pv 5))) aZ))))
   (ah (ak (BR rfl hr rfl T4.mn (aa (dm (own:=[("j",6)]) rfl nd (cw rfl T.pD (aa (aU (pv 0) TC.cl mz Gz hr1 bz .nil au) ab)) (bf (N:=JA) (sc:=af Bk) (by decide +kernel))
    (fun _ _ _ _ _=>aJ (i:=6) nd rfl (Or.inl rfl)) (fun _ _ _ _ _=>bV) (fun _ _ _ _ _=>aw G3 hr rfl m3 k3 b3 .nil au (aa (pv 0) (aa (pv 3) (aa (pv 6) ab))))) ab) (BO (cN (v:=.ref f4) rfl m4 rfl) FD)))))),?_⟩
  refine⟨_,rfl,_,rfl,a,dx,_,rfl,ha,n1,a,G,rfl,hG,p,G.size,rfl,PR.two,hp6,hpos,hle,fun m hT=>?_⟩;have hm0:0<m:=Nat.pos_of_dvd_of_pos hT.dvd hpos;refine⟨tx,fun q0 hq0=>?_⟩;have s1:aj H (upd H q0 (.lst [V.int 0])):=aj.upd hq0;have hq1:upd H q0 (.lst [V.int 0]) q0=some (.lst (iv [0])):=ae;generalize upd H q0 (.lst [V.int 0])=H1 at s1 hq1;refine⟨_,rfl,a,dx,_,rfl,s1 _ _ ha,n1,a,G,rfl,hG.same s1,_,rfl,by omega,by omega,?_⟩;rw[toNat_natCast];refine gj (fun t σ H'=>∃(S:DW)(fa:Addr)(v4 v5:Option V),σ=[some (.ref a),some (.int p),some (.int m),some (.ref fa),v4,v5,none]/\aj H H'/\H' fa=some (.lst (iv S))/\Mg.iB G m t S) ⟨[0],q0,none,none,rfl,s1,hq1,Mg.pW W m⟩ ?_ ?_
  ·rintro t σ H' ht ⟨S,fa,v4,v5,rfl,s2,hfa,g⟩;have ls:=gC W g.set;refine⟨_,rfl,_,rfl,_,rfl,tx,fun e he=>?_⟩;have s3:aj H' (upd H' e (.lst [V.int (0+(t:Int))])):=aj.upd he;refine⟨fa,e,_,_,rfl,rfl,s3 _ _ hfa,ae,by rw[length_map,sizeLine_eq];simp;omega,fun r hr'=>?_⟩;have s4:=aj.upd (o:=.lst (iv S++[V.int (0+(t:Int))])) hr';have hr4:upd (upd H' e (.lst [V.int (0+(t:Int))])) r (.lst (iv S++[V.int (0+(t:Int))])) r=some (.lst (iv (S++[t]))):=by rw[ae,pU];simp
   generalize upd (upd H' e (.lst [V.int (0+(t:Int))])) r (.lst (iv S++[V.int (0+(t:Int))]))=H4 at s4 hr4;have s24:=(s2.trans s3).trans s4;have hl:=Mg.kQ g.set ht;refine⟨a,r,G,S++[t],rfl,hG.same s24,aH.of hr4,hl,fun H5 p5 s5 hp5 hv5=>?_⟩;have s25:=s24.trans s5;have lpos:0<(Vg02.least G (S++[t])).length:=length_pos_of_mem (bZ W hl).one;have em:((m:Int)%(((Vg02.least G (S++[t])).length:Nat):Int))=((m%(Vg02.least G (S++[t])).length:Nat):Int):=by simp
   refine⟨_,rfl,_,rfl,p5,_,rfl,.inl (aH.of hv5),_,_,rfl,rfl,by rw[length_map];omega,rfl,_,rfl,?_⟩;rw[length_map];show(if decide (V.int ((m:Int)%(((Vg02.least G (S++[t])).length:Nat):Int))=V.int 0)=true then _ else _);rw[em];by_cases hz:m%(Vg02.least G (S++[t])).length=0
   ·rw[hz];exact⟨_,rfl,_,p5,_,_,rfl,s25,hv5,Mg.ue W g ht (dvd_of_mod_eq_zero hz)⟩
   ·have:decide (V.int ((m%(Vg02.least G (S++[t])).length:Nat):Int)=V.int 0)=false:=decide_eq_false (by intro z;injection z with z;omega);rw[this];exact⟨S,fa,_,_,rfl,s25,(s3.trans (s4.trans s5)) _ _ hfa,Mg.xf W g (fun z=>hz (mod_eq_zero_of_dvd z))⟩
  ·rintro σ H' ⟨S,fa,v4,v5,rfl,s2,hfa,g⟩;refine⟨_,rfl,a,dx,_,rfl,s2 _ _ ha,n1,a,G,rfl,hG.same s2,_,rfl,by omega,by omega,fun D hD=>?_⟩;rw[toNat_natCast];refine dG (fun t H''=>aj H' H''/\∃ts:List Addr,H'' D=some (.lst (ts.map V.ref))/\aQ H'' ts ((range t).map fun j=>Vg02.turnedSet G S j)) ⟨aj.upd hD,[],ae,.nil⟩ (fun t H'' ht p=>?_) (fun H'' p=>?_)
   ·obtain⟨s3,ts,hD3,hr3⟩:=p;have lts:ts.length=t:=by rw[hr3.length];simp
    refine⟨rfl,_,rfl,_,rfl,_,rfl,a,fa,G,S,t,by simp,(hG.same s2).same s3,aH.of (s3 _ _ hfa),g.set,ht,fun H4 p4 s4 hp4 hv4=>?_⟩;refine⟨_,s4 _ _ hD3,by rw[length_map,sizeLine_eq];omega,aj.over hD (s3.trans s4),ts++[p4],by rw[ae,map_append];rfl,?_⟩;rw[range_succ,map_append];have hDp:p4≠D:=fun z=>by rw[z]at hp4;rw[hD3]at hp4;cases hp4
    exact aQ.snoc ((hr3.same s4).put (s4 _ _ hD3) _) (by rw[ao hDp];exact hv4)
   ·obtain⟨s3,ts,hD3,hr3⟩:=p;have lts:ts.length=G.size:=by rw[hr3.length];simp
    have rl:((range G.size).map fun j=>ii (Vg02.turnedSet G S j).reverse).length=ts.length:=by simp[lts]
    have row:∀(i:Nat)(t:Addr),ts[i]?=some t->i<G.size/\H'' t=some (.lst (iv (Vg02.turnedSet G S i))):=fun i t ht=>by
     have li:i<G.size:=by have:=(Nd ht).1;omega
     obtain⟨y,hy,h2⟩:=bP hr3 ht;rw[getElem?_map,getElem?_range li]at hy;obtain rfl:=Nc hy;exact⟨li,h2⟩
    refine⟨D,f4,fd4,_,_,ts,(range G.size).map fun j=>ii (Vg02.turnedSet G S j).reverse,rfl,rfl,G4.mono (by decide),b4,rl,hD3,by omega,fun i t r ht hr' H4 s4=>?_,fun i t r H4 ht hr' best s4=>?_⟩
    ·obtain⟨li,ht2⟩:=row i t ht;rw[getElem?_map,getElem?_range li]at hr';obtain rfl:=Nc hr';refine⟨t,_,rfl,aH.of (s4 _ _ ht2),fun H5 p5 s5 hp5 hv5=>⟨p5,rfl,s5,?_⟩⟩;rw[hv5,<-List.map_reverse];show some (HO.lst (iv (Vg02.turnedSet G S i).reverse))=_;rw[bH]
    ·obtain⟨li,ht2⟩:=row i t ht;rw[getElem?_map,getElem?_range li]at hr';obtain rfl:=Nc hr';refine k H4 t ((s2.trans s3).trans s4) ?_;rw[s4 _ _ ht2];rw[Mg.pX W PR hT g li fun i' hi'=>?_];have:=best i' _ (by rw[getElem?_map,getElem?_range hi'];rfl);rw[i3]at this;exact this
def n9(C q:Addr)(H:Hp)(a:Addr)(G:Group):Prop:=∃H0:Hp,H0 q=none/\aj H0 H/\dQ C H0 a G
theorem n9.at_{C q:Addr}{H:Hp}{a:Addr}{G:Group}(h:n9 C q H a G):dQ C H a G:=let⟨_,_,s,g⟩:=h;g.same s
theorem n9.same{C q:Addr}{H H':Hp}{a:Addr}{G:Group}(h:n9 C q H a G)(s:aj H H'):n9 C q H' a G:=let⟨H0,n,s0,g⟩:=h;⟨H0,n,s0.trans s,g⟩
theorem n9.put{C q:Addr}{H:Hp}{a:Addr}{G:Group}(h:n9 C q H a G)(o:HO):n9 C q (upd H q o) a G:=let⟨H0,n,s0,g⟩:=h;⟨H0,n,fun b u e=>by rw[ao (ax e n)];exact s0 b u e,g⟩
theorem Kp.over{H H':Hp}{q:Addr}{o:HO}(h:H q=none)(s:Kp H H'):Kp H (upd H' q o):=
 ⟨fun b u e n=>by rw[ao (ax e h)];exact s.keep b u e n,fun b ps e=>by rw[ao (ax e h)];exact s.tab b ps e⟩
theorem qy{H:Hp}{P q:Addr}{pos:Pos}{qu:Str}{o u:HO}(h:km H P pos qu)(hq:H q=some o)(h1:∀ps,o≠.eL ps)(h2:∀φ,o≠.ext φ):km (upd H q u) P pos qu:=by
 rcases h with e|⟨c,e,r⟩
 ·exact .inl (by rw[ao (bw e hq (fun z=>h1 _ z.symm))];exact e)
 ·refine .inr ⟨c,by rw[ao (bw e hq (fun z=>h1 _ z.symm))];exact e,iJ r fun o' q'=>?_⟩;rw[ao (bw q' hq (fun z=>h2 _ z.symm))];exact q'
theorem Tb.put{pq pp q:Addr}{H:Hp}{o u:HO}(t:Tb pq pp H)(hq:H q=some o)(h1:∀ps,o≠.eL ps)(h2:∀φ,o≠.ext φ):Tb pq pp (upd H q u):=⟨qy t.q hq h1 h2,qy t.p hq h1 h2⟩
def only(q:Addr):Addr->Bool:=fun b=>decide (b=q)
theorem BY{H:Hp}{q:Addr}{xs:List V}(hq:H q=some (.lst xs)):Kb (only q) H:=by
 refine⟨fun b ys e=>decide_eq_false (bw e hq (by intro z;cases z)),fun b x o hx hi e=>?_,fun b ps e=>decide_eq_false (bw e hq (by intro z;cases z)),fun b h=>?_⟩
 ·have h1:b≠q:=bw e hq (by intro z;cases z);have h2:x≠q:=bw hx hq (by intro z;rw[z]at hi;cases hi);unfold only;rw[decide_eq_false h1,decide_eq_false h2]
 ·rw[of_decide_eq_true h,hq];simp
def xQ(C pq pp:Addr):Sp:=fun vs H Q _=>∃(a:Addr)(G:Group),vs=[.ref a]/\dQ C H a G/\Tb pq pp H/\∀(H':Hp)(q:Addr),Kp H H'->Tb pq pp H'->H q=none->H' q=some (.lst (iv (shape G)))->Q (.ref q) H'
abbrev IJ:List Str:=["group","whole","rest","shape","orders","greatest","i"]
theorem CU:aq IJ ["group"] (af Bi):=.m
theorem Aq{G:Group}(p:Nat->Bool){x:Nat}(hx:x<G.size)(h1:p x=true)(h2:∀j,j<x->p j=false):G.all.find? p=some x:=by
 unfold Group.all;rw[List.find?_range_eq_some];refine⟨h1,by simpa using hx,fun j hj=>by simp[h2 j hj]⟩
theorem zJ{G:Group}(W:Mg.WF G){m:Int}(hm:m∈ii (G.all.map G.order))(hl:∀y,y∈ii (G.all.map G.order)->y<=m):m=(bj G:Nat):=by
 obtain⟨⟨i,hi,e⟩,h⟩:=fB W;obtain⟨o,ho,rfl⟩:=Ng hm;obtain⟨j,hj,rfl⟩:=Ng ho;have h1:=h j (Mg.aL.mp hj);have h2:=hl ((G.order i:Nat):Int) (List.mem_map.mpr ⟨_,List.mem_map.mpr ⟨i,Mg.aL.mpr hi,rfl⟩,rfl⟩);omega
theorem F0{f:Addr}{fd:FuncData}{pq pp:Addr}(F:bW K "shape_of" "shape_of" Bi f fd)(T:Tx mg)(T4:xq mg)(TC:TG K C)(MS:aK P w K mg base C "size" 1 ["self"] (cC C))(MO:aK P w K mg base C "order" 2 ["self","i"] (qB C))(DM:ay P w K mg base "mixed_of" 3 ["group","members","others"] (qC K C))(DL:ay P w K mg base "least_subgroup" 2 ["group","members"] (j5 K C))(DQ:ay P w K mg base "quotient" 5 ["group","normal_one"] (uP K C pq pp)):
  aG P w K mg base bA 6 f fd ["group"] (xQ C pq pp):=by
 obtain⟨fz,fdz,mz,Gz,bz⟩:=MS;obtain⟨fo,fdo,mo,Go,bo⟩:=MO;obtain⟨f1,fd1,m1,k1,G1,b1⟩:=DM;obtain⟨f2,fd2,m2,k2,G2,b2⟩:=DL;obtain⟨f3,fd3,m3,k3,G3,b3⟩:=DQ;exists F.ok CU
 ·obtain⟨a,G,rfl,_⟩:=h;rfl
 ·obtain⟨a,G,rfl,hG,tb,k⟩:=h;obtain⟨W,_,dx,fs,ha,hf⟩:=id hG;have n1:=hf.fK "size" (by simp);have nd:=CU.nd;have hle:=W.le;have hr1:bR 1 _:=hr.mono (by decide);have hr2:bR 2 _:=hr.mono (by decide);refine⟨_,ag (aC (i:=1) nd rfl (Or.inl rfl) (bO (jb rfl) rfl T.lst lC (aa (bO fj rfl T.pD jC (aa (aU (pv 0) TC.cl mz Gz hr1 bz .nil au) ab)) ab)))
   (ag (aC (i:=2) nd rfl (Or.inr rfl) (aw G3 hr rfl m3 k3 b3 .nil au (aa (pv 0) (aa (aw G1 (hr.mono (by decide)) rfl m1 k1 b1 .nil au (aa (pv 0) (aa (pv 1) (aa (pv 1) ab)))) ab))))
   (ag (aC (i:=3) nd rfl (Or.inl rfl) (aT ab))
   (ag (eO PassesOwn.never (aX oG (aU (pv 2) TC.cl mz Gz hr1 bz .nil au) az (aW _))
    (ag (qN (i:=4) (own:=[("i",6)]) rfl nd rfl rfl (A7 rfl rfl rfl rfl) (cw rfl T.pD (aa (aU (pv 2) TC.cl mz Gz hr1 bz .nil au) ab)) (bf (N:=IJ) (sc:=af Bi) (by decide +kernel))
     (fun _ _ _ _ _=>aJ (i:=6) nd rfl (Or.inl rfl)) (fun _ _ _ _ _=>bV) (fun _ _ _ _ _=>ba (pv 2) TC.cl mo Go hr2 bo .nil au (aa (pv 6) ab)))
    (ag (aC (i:=5) nd rfl (Or.inl rfl) (aS (HW rfl) rfl T4.mx Ia (aa (pv 4) ab)))
    (ag (dC (fb plainAttrs_list PySem.F.slot_list_insert PySem.F.type_list_insert tZ (pv 3) (aa az (aa (pv 5) ab))))
    (ah (aC (i:=2) nd rfl (Or.inr rfl) (qU G3 hr rfl m3 k3 b3 (aa (pv 2) (aa (aw G2 hr2 rfl m2 k2 b2 .nil au (aa (pv 2) (aa (aT (aa (fb plainAttrs_list slot_list_index type_list_index rA (pv 4) (aa (pv 5) ab)) ab)) ab))) ab)))))))))
   (ah (ak (pv 3)))))),?_⟩
  refine⟨_,rfl,a,dx,_,rfl,ha,n1,a,G,rfl,hG,_,rfl,fun q0 hq0=>⟨q0,G.size,rfl,ae,by omega,fun wl hwl=>?_⟩⟩;have s1:aj H (upd H q0 (.qm 0 (G.size:Nat))):=aj.upd hq0;have s2:=aj.upd (o:=.lst (cR G.size)) hwl;have hw2:upd (upd H q0 (.qm 0 (G.size:Nat))) wl (.lst (cR G.size)) wl=some (.lst (iv G.all)):=ae;generalize upd (upd H q0 (.qm 0 (G.size:Nat))) wl (.lst (cR G.size))=H2 at s2 hw2;have s12:=s1.trans s2;have al:∀x∈G.all,x<G.size:=fun x hx=>Mg.aL.mp hx;have N0:=Mg.gG W (gp W) (gp W);obtain⟨R0,hR0⟩:=jP W N0;refine⟨_,rfl,_,rfl,_,rfl,_,rfl,a,wl,wl,G,G.all,G.all,rfl,hG.same s12,aH.of hw2,aH.of hw2,al,al,fun H3 p3 s3 hp3 hv3=>?_⟩;have s13:=s12.trans s3;have l0:(Vg02.mixed G G.all G.all).length<=60:=gC W (iE W (Mg.jq W al al));refine⟨a,p3,G,R0,_,rfl,hG.same s13,aH.of hv3,N0,l0,tb.same s13,hR0,fun H4 ra kp4 tb4 hra hg4=>?_⟩;have kp04:Kp H H4:=(Kp.of s13).trans kp4;refine⟨zero_le _,fun q hq=>?_⟩;have s5:aj H4 (upd H4 q (.lst [])):=aj.upd hq;have nq:H q=none:=kp04.free hq;have Ab0:Ab R0:=u9 W N0 (fun i j hi hj=>Mg.zI W hi hj) hR0;have sz0:R0.size<=60:=hg4.wf.le;refine⟨fun m σ H'=>∃(R:Group)(ra:Addr)(acc:DW)(fu:Nat)(v4 v5:Option V),σ=[some (.ref a),some (.ref wl),some (.ref ra),some (.ref q),v4,v5,none]/\Kp H H'/\Tb pq pp H'/\n9 C q H' ra R/\H' q=some (.lst (iv acc))/\Ab R/\shape G=Vg02.shapeFrom fu R++acc/\fu<=6/\R.size*2^(6-fu)<=60/\m=R.size/\acc.length+fu=6,
   ⟨R0.size,R0,ra,[],6,none,none,rfl,kp04.trans (Kp.of s5),tb4.same s5,⟨H4,hq,s5,hg4⟩,ae,Ab0,by unfold shape;rw[hR0];simp,le_refl _,by simpa using sz0,rfl,rfl⟩,?_⟩
  rintro m σ H' ⟨R,ra,acc,fu,v4,v5,rfl,kp5,tb5,hR,hq5,AbR,es,hfu,hb,rfl,hacc⟩;obtain⟨WR,_,dR,fR,haR,hfR⟩:=id hR.at_;have r1:=hfR.fK "size" (by simp);have r2:=hfR.fK "order" (by simp);have leR:=WR.le;have posR:=WR.pos;have fu1:0<fu:=by
   apply byContradiction;intro z;have:fu=0:=by omega
   subst this;have:R.size*64<=60:=by simpa using hb
   omega
  refine⟨_,rfl,ra,dR,_,rfl,haR,r1,ra,R,rfl,hR.at_,_,_,rfl,rfl,_,rfl,?_⟩;refine c9 (fun c=>?_) (fun c=>?_)
  ·have big:1<R.size:=by have:=of_decide_eq_true c;omega
   refine⟨fun σ' H''=>∃(R':Group)(ra':Addr)(v4 v5:Option V),σ'=[some (.ref a),some (.ref wl),some (.ref ra'),some (.ref q),v4,v5,none]/\Kp H H''/\Tb pq pp H''/\n9 C q H'' ra' R'/\H'' q=some (.lst (iv (bj R::acc)))/\Ab R'/\Vg02.shapeFrom fu R=Vg02.shapeFrom (fu-1) R'++[bj R]/\2*R'.size<=R.size,?_,?_⟩
   ·rintro σ' H'' ⟨R',ra',w4,w5,rfl,kp6,tb6,hR6,hq6,Ab6,es6,hs6⟩;refine⟨R'.size,by have:=hR6.at_.wf.pos;omega,R',ra',bj R::acc,fu-1,w4,w5,rfl,kp6,tb6,hR6,hq6,Ab6,?_,by omega,?_,rfl,by simp;omega⟩
    ·rw[es,es6];simp
    ·rw[show 6-(fu-1)=(6-fu)+1 by omega,pow_succ,mul_comm (2^(6-fu)) 2,<-mul_assoc,mul_comm _ 2];exact le_trans (mul_le_mul_right _ hs6) hb
   refine⟨_,rfl,ra,dR,_,rfl,haR,r1,ra,R,rfl,hR.at_,_,rfl,by omega,by omega,fun D hD=>?_⟩;rw[toNat_natCast];refine dG (gu H' D fun t=>iv ((R.all.map R.order).take t)) (gu.start hD rfl) (fun t H6 ht p=>?_) (fun H6 p=>?_)
   ·refine⟨rfl,_,rfl,ra,dR,_,rfl,p.1 _ _ haR,r2,_,rfl,ra,R,t,by simp,(hR.same p.1).at_,ht,?_⟩;refine p.push hD (aj.refl _) ?_ ?_
    ·rw[length_map,length_take,sizeLine_eq];omega
    ·rw[aI (x:=R.order t) (g9 _ ht)];simp[iv]
   ·have e:H6 D=some (.lst (iv (R.all.map R.order))):=by
     have:H6 D=some (.lst (iv ((R.all.map R.order).take R.size))):=p.2;rw[take_of_length_le (by simp[Group.all])]at this;exact this
    have s6:=p.1;have e':=e;rw[bH]at e';refine⟨_,rfl,D,_,rfl,aH.of e',by simp[Group.all];omega,fun m hm hl=>?_⟩;rw[zJ WR hm hl];have hq6:=s6 _ _ hq5;refine⟨_,rfl,.inl ⟨rfl,_,aH.of hq6⟩,_,rfl,q,_,_,rfl,rfl,hq6,by rw[length_map,sizeLine_eq];omega,?_⟩;have nD:D≠q:=fun z=>by rw[z]at hD;rw[hD]at hq5;cases hq5
    have h7:upd H6 q (.lst (V.int (bj R:Nat)::iv acc)) q=some (.lst (iv (bj R::acc))):=ae;have D7:upd H6 q (.lst (V.int (bj R:Nat)::iv acc)) D=some (.lst (iv (R.all.map R.order))):=by rw[ao nD];exact e
    have R7:=(hR.same s6).put (.lst (V.int (bj R:Nat)::iv acc));have kp7:Kp H (upd H6 q (.lst (V.int (bj R:Nat)::iv acc))):=Kp.over nq (kp5.trans (Kp.of s6));have tb7:Tb pq pp (upd H6 q (.lst (V.int (bj R:Nat)::iv acc))):=(tb5.same s6).put hq6 (by intro ps z;cases z) (by intro φ z;cases z);generalize upd H6 q (.lst (V.int (bj R:Nat)::iv acc))=H7 at h7 D7 R7 kp7 tb7;obtain⟨⟨x0,hx0,ex0⟩,_⟩:=fB WR;obtain⟨x,hx,ex,hno⟩:∃x,x<R.size/\R.order x=bj R/\∀j,j<x->R.order j≠bj R:=by
     have fx:(R.all.find? fun i=>R.order i==bj R).isSome=true:=List.find?_isSome.mpr ⟨x0,Mg.aL.mpr hx0,by simp[ex0]⟩;obtain⟨x,hx⟩:=Option.isSome_iff_exists.mp fx;unfold Group.all at hx;rw[List.find?_range_eq_some]at hx;exact⟨x,by simpa using hx.2.1,by simpa using hx.1,fun j hj=>by simpa using hx.2.2 j hj⟩
    have xl:∀y∈([x]:DW),y<R.size:=by simpa using hx
    have NX:=Mg.CF WR AbR (bZ WR xl);obtain⟨R',hR'⟩:=jP WR NX;have x0':x≠0:=fun z=>by
     subst z;have o1:R.order 0=1:=by
      have:=WR.tV WR.pos (k:=1) (by omega) (by simp[Vg01.powerOf,WR.a7 0 WR.pos]) (by omega);exact this
     have:=(fB WR).2 1 big;have:=Mg.wF WR big (by omega);omega
    refine⟨_,rfl,_,rfl,_,rfl,.inl ⟨rfl,_,aH.of D7⟩,_,rfl,D,_,_,x,V.int (bj R:Nat),rfl,rfl,aH.of D7,rfl,?_,il ?_,by simp[Ck],fun j z hj hz=>?_,?_⟩
    ·rw[all_eq_true];intro y hy;obtain⟨n,_,rfl⟩:=Ng hy;rfl
    ·rw[g9 _ hx,ex]
    ·obtain⟨n,hn,rfl⟩:=c8 hz;rw[g9 _ (by omega)]at hn;have:=hno j hj;have hn':=Nc hn;show decide ((n:Int)=((bj R:Nat):Int))=false;exact decide_eq_false (by omega)
    refine⟨tx,fun e8 he8=>?_⟩;have s8:aj H7 (upd H7 e8 (.lst [V.int (x:Nat)])):=aj.upd he8;have h8:upd H7 e8 (.lst [V.int (x:Nat)]) e8=some (.lst (iv [x])):=ae;generalize upd H7 e8 (.lst [V.int (x:Nat)])=H8 at s8 h8;refine⟨ra,e8,R,[x],rfl,(R7.same s8).at_,aH.of h8,xl,fun H9 p9 s9 hp9 hv9=>?_⟩;have s79:=s8.trans s9;have hq9:=s79 _ _ h7;have R9:=R7.same s79;have z9:=BY hq9;have outz:∀{b:Addr}{o:HO},H9 b=some o->b≠q->bx (only q) H9 b=some o:=fun{b o}eb hb=>by rw[a0 (decide_eq_false hb)];exact eb
    obtain⟨Hs,hsq,hss,hsg⟩:=id R9;have sm:aj Hs (bx (only q) H9):=fun b o eb=>outz (hss b o eb) (ax eb hsq);have pq9:p9≠q:=fun z=>by rw[z]at hp9;rw[s8 _ _ h7]at hp9;cases hp9
    have tb9:=tb7.same s79;have tbm:Tb pq pp (bx (only q) H9):=by
     have kq:∀b o,H9 b=some o->(∃ps,o=.eL ps)\/(∃φ,o=.ext φ)->bx (only q) H9 b=some o:=fun b o eb ho=>outz eb (bw eb hq9 (by rcases ho with⟨ps,rfl⟩|⟨φ,rfl⟩<;>(intro z;cases z)));have th:∀{P':Addr}{pos:Pos}{qu:Str},km H9 P' pos qu->km (bx (only q) H9) P' pos qu:=fun{P' pos qu}h=>by
      rcases h with e|⟨c,e,r⟩
      ·exact .inl (kq _ _ e (.inl ⟨_,rfl⟩))
      ·exact .inr ⟨c,kq _ _ e (.inl ⟨_,rfl⟩),iJ r fun o q'=>kq _ _ q' (.inr ⟨_,rfl⟩)⟩
     exact⟨th tb9.q,th tb9.p⟩
    have l9:(Vg02.least R [x]).length<=60:=gC WR (iE WR xl);refine⟨only q,z9,ra,p9,R,R',_,rfl,hsg.same sm,aH.of (outz hv9 pq9),NX,l9,tbm,hR',fun H10 r10 kp10 tb10 hr10 hg10 side=>?_⟩;have q10:H10 q=none:=side q (by simp[only]) (by rw[hq9];simp);have sp10:aj H10 (dj (only q) H9 H10):=fun b o eb=>by rw[cE (decide_eq_false (ax eb q10))];exact eb
    have kpm:Kp H9 (dj (only q) H9 H10):=by
     refine⟨fun b o eb n=>?_,fun b ps eb=>?_⟩
     ·by_cases hb:b=q
      ·rw[fV (decide_eq_true hb)];exact eb
      ·exact sp10 _ _ (kp10.keep b o (outz eb hb) n)
     ·have hb:b≠q:=bw eb hq9 (by intro z;cases z);obtain⟨ps',e10⟩:=kp10.tab b ps (outz eb hb);exact⟨ps',sp10 _ _ e10⟩
    refine⟨R',r10,_,_,rfl,(kp7.trans (Kp.of s79)).trans kpm,tb10.same sp10,⟨H10,q10,sp10,hg10⟩,by rw[fV (decide_eq_true rfl)];exact hq9,?_,?_,?_⟩
    ·exact u9 WR NX (fun i j hi hj=>by rw[AbR i j hi hj];exact Mg.Co.refl WR NX.sub (WR.lt _ _ hj hi)) hR'
    ·conv=>lhs;rw[show fu=(fu-1)+1 by omega]
     exact Mg.tH (by omega) (Aq _ hx (by simp[ex]) fun j hj=>by simp[hno j hj]) hR'
    ·have:=Mg.wD WR NX (bp _) hR';have l2:=Mg.wU WR hx x0';have:R'.size*2<=R'.size*(Vg02.least R [x]).length:=Nat.mul_le_mul_left _ l2;omega
  ·have small:R.size<=1:=by have:=of_decide_eq_false (Bool.eq_false_iff.mpr c);omega
   refine⟨_,rfl,k H' q kp5 tb5 nq ?_⟩;rw[hq5,es,Mg.wu small];simp
end
abbrev Ey:Stmt:=top 2
abbrev Bw:Stmt:=top 3
abbrev EZ:Stmt:=top 4
abbrev Fl:Stmt:=top 5
abbrev Bs:Stmt:=top 6
structure Mj(mg:GmT):Prop where
 mc:∃t,mg "MOST_CHOICES"=some (.int 4096 t)
section
variable{P:Program}{w:World}{K:Frag}{mg:GmT}{base:Heap}{C:Addr}
def uN(C:Addr):Sp:=fun vs H Q _=>∃(a b:Addr)(G V:Group),vs=[.ref a,.ref b]/\dQ C H a G/\dQ C H b V/\Q (.bl (tooMany G V)) H
abbrev KO:List Str:=["group","other","count","generator"]
theorem CO:aq KO ["group","other"] (af Ey):=.m
theorem FU{f:Addr}{fd:FuncData}(F:bW K "too_many_choices" "too_many_choices" Ey f fd)(T5:Mj mg)(TC:TG K C)(MS:aK P w K mg base C "size" 1 ["self"] (cC C)):
  aG P w K mg base bA 2 f fd ["group","other"] (uN C):=by
 obtain⟨fz,fdz,mz,Gz,bz⟩:=MS;obtain⟨tm,m4⟩:=T5.mc;exists F.ok CO
 ·obtain⟨a,b,G,V,rfl,_⟩:=h;rfl
 ·obtain⟨a,b,G,V,rfl,hG,hV,k⟩:=h;obtain⟨W,qo,dx,fs,ha,hf⟩:=id hG;obtain⟨W2,few2,dx2,fs2,ha2,hf2⟩:=id hV;have nz:=hf2.fK "size" (by simp);have nd:=CO.nd;have hle:=W2.le;have h4:=qo.1;obtain⟨lg,eg1,eg2⟩:=hf.gens;refine⟨_,ag (aC (i:=2) nd rfl (Or.inl rfl) az)
   (ag (cM PassesOwn.never rfl (bM (cj (pv 0) rfl)) (aJ (i:=3) nd rfl (Or.inl rfl))
    (ah (lW (i:=2) nd rfl (Or.inl rfl) (aU (pv 1) TC.cl mz Gz (hr.mono (by decide)) bz .nil au) Ae)))
   (ah (ak (cV oG (pv 2) (cN (v:=.int 4096) rfl m4 ⟨tm,rfl⟩) (aW _))))),?_⟩
  refine⟨_,rfl,a,C,dx,_,_,rfl,ha,TC.cl,TC.nG,eg1,lg,rfl,⟨_,aH.of eg2⟩,?_⟩;refine dM (K:=K) (xs:=iv G.gens) (fun t σ H'=>∃v3,σ=[some (.ref a),some (.ref b),some (.int (V.size^t:Nat)),v3]/\H'=H) ⟨none,rfl,rfl⟩ (fun t σ H' _ p=>by obtain⟨_,_,rfl⟩:=p;exact aH.of eg2) (fun t v σ H' hv p=>?_) (fun σ H' p=>?_)
  ·obtain⟨v3,rfl,rfl⟩:=p;have lt:t<G.gens.length:=by have:=(Nd hv).1;simpa using this
   have:V.size^t<=60^4:=le_trans (Nat.pow_le_pow_left hle t) (Nat.pow_le_pow_right (by decide) (by omega));refine⟨_,rfl,_,rfl,b,dx2,_,rfl,ha2,nz,b,V,rfl,hV,_,_,rfl,rfl,.inl ⟨by omega,by omega⟩,some v,?_,rfl⟩;rw[pow_succ];simp
  ·obtain⟨v3,rfl,rfl⟩:=p;refine⟨_,rfl,_,_,rfl,rfl,?_⟩;have:tooMany G V=decide ((4096:Int)<((V.size^(iv G.gens).length:Nat):Int)):=by
    unfold tooMany TRIED;rw[decide_eq_decide,length_map];exact Int.ofNat_lt.symm
   rw[this]at k;exact k
def yp:Sp:=fun vs H Q _=>∃(n k:Nat),vs=[.int n,.int k]/\0<n/\n<=60/\k<=4/\n^k<=4096/\∀(H':Hp)(p:Addr)(ts:List Addr),aj H H'->H p=none->(∀b∈ts,H b=none)->H' p=some (.lst (ts.map V.ref))->aQ H' ts (Vg02.rowsOf n k)->Q (.ref p) H'
abbrev J7:List Str:=["size","length","rows","step","longer","row","number"]
theorem Di:aq J7 ["size","length"] (af Bw):=.m
theorem aQ.app{H:Hp}:∀{ts us:List Addr}{r q:L4},aQ H ts r->aQ H us q->aQ H (ts++us) (r++q)
 |_,_,_,_,.nil,e=>e
 |_,_,_,_,.cons a b,e=>.cons a (aQ.app b e)
theorem iu{α β:Type}(n:Nat){f:α->List β}(h:∀r,(f r).length=n):∀l:List α,(l.flatMap f).length=l.length*n
 |[]=>by simp
 |r::l=>by rw[flatMap_cons,length_append,h,iu n h l,length_cons,succ_mul,add_comm]
theorem GP{f:Addr}{fd:FuncData}(F:bW K "choices" "choices" Bw f fd)(T:Tx mg):aG P w K mg base bA 1 f fd ["size","length"] yp:=by
 exists F.ok Di
 ·obtain⟨n,k,rfl,_⟩:=h;rfl
 ·obtain⟨n,k,rfl,hn,h60,h4,hb,kk⟩:=h;have nd:=Di.nd;have pw:∀t,t<=k->n^t<=4096:=fun t ht=>le_trans (Nat.pow_le_pow_right hn ht) hb;refine⟨_,ag (aC (i:=2) nd rfl (Or.inl rfl) (aT (aa (aT ab) ab)))
   (ag (cM PassesOwn.never rfl (cw rfl T.pD (aa (pv 1) ab)) (aJ (i:=3) nd rfl (Or.inl rfl))
    (ag (aC (i:=4) nd rfl (Or.inl rfl) (aT ab))
    (ag (cM PassesOwn.never rfl (bM (pv 2)) (aJ (i:=5) nd rfl (Or.inr rfl))
     (ah (dC (fb plainAttrs_list PySem.F.slot_list_extend PySem.F.type_list_extend oI (pv 4) (aa (dm (own:=[("number",6)]) rfl nd (cw rfl T.pD (aa (pv 0) ab)) (bf (N:=J7) (sc:=af Bw) (by decide +kernel))
      (fun _ _ _ _ _=>aJ (i:=6) nd rfl (Or.inl rfl)) (fun _ _ _ _ _=>bV) (fun _ _ _ _ _=>cI iY (pv 5) (aT (aa (pv 6) ab)))) ab)))))
    (ah (aC (i:=2) nd rfl (Or.inl rfl) (pv 4))))))
   (ah (ak (pv 2)))),?_⟩
  refine⟨(by show 0<=sizeLine;decide),fun q0 hq0=>⟨tx,fun q1 hq1=>?_⟩⟩;have s1:aj H (upd H q0 (.lst [])):=aj.upd hq0;have s2:=aj.upd (o:=.lst [V.ref q0]) hq1;have e0:upd (upd H q0 (.lst [])) q1 (.lst [V.ref q0]) q0=some (.lst (iv [])):=s2 _ _ ae;have e1:upd (upd H q0 (.lst [])) q1 (.lst [V.ref q0]) q1=some (.lst ([q0].map V.ref)):=ae;have s12:=s1.trans s2;generalize upd (upd H q0 (.lst [])) q1 (.lst [V.ref q0])=H2 at s12 e0 e1;refine⟨_,rfl,_,rfl,by omega,by omega,?_⟩;rw[toNat_natCast];refine gj (fun t σ H'=>∃(ra:Addr)(ts:List Addr)(v3 v4 v5:Option V),σ=[some (.int n),some (.int k),some (.ref ra),v3,v4,v5,none]/\aj H H'/\H' ra=some (.lst (ts.map V.ref))/\aQ H' ts (Vg02.rowsOf n t)/\H ra=none/\∀b∈ts,H b=none) ⟨q1,[q0],none,none,none,rfl,s12,e1,.cons e0 .nil,s1.free hq1,fun b m=>by rw[List.mem_singleton.mp m];exact hq0⟩ ?_ ?_
  ·rintro t σ H' ht ⟨ra,ts,v3,v4,v5,rfl,s3,hra,hts,fra,fts⟩;refine⟨(by show 0<=sizeLine;decide),fun lo hlo=>?_⟩;have s4:aj H' (upd H' lo (.lst [])):=aj.upd hlo;refine⟨_,rfl,ra,rfl,⟨_,aH.of (s4 _ _ hra)⟩,?_⟩;have ltl:(Vg02.rowsOf n t).length*n<=4096:=by
    have:=pw (t+1) ht;rw[gD,<-pow_succ];exact this
   refine dM (K:=K) (xs:=ts.map V.ref) (fun i σ H''=>∃(us:List Addr)(v5:Option V),σ=[some (.int n),some (.int k),some (.ref ra),some (.int (0+(t:Int))),some (.ref lo),v5,none]/\aj H' H''/\H'' lo=some (.lst (us.map V.ref))/\aQ H'' us (((Vg02.rowsOf n t).take i).flatMap fun r=>(range n).map fun x=>r++[x])/\∀b∈us,H b=none) ⟨[],v5,rfl,s4,ae,.nil,by intro b m;cases m⟩ (fun i σ H'' _ p=>by obtain⟨_,_,_,s5,_⟩:=p;exact aH.of (s5 _ _ hra)) (fun i v σ H'' hv p=>?_) (fun σ H'' p=>?_)
   ·obtain⟨us,v5',rfl,s5,hlo5,hus,fus⟩:=p;rw[getElem?_map]at hv;cases etr:ts[i]? with
    |none=>rw[etr]at hv;cases hv
    |some tr=>
     rw[etr]at hv;obtain rfl:=Nc hv;obtain⟨r,hr',htr⟩:=bP hts etr;have htr5:=s5 _ _ htr;have lr:r.length=t:=(gH (mem_of_getElem? hr')).1;have li:i<(Vg02.rowsOf n t).length:=(Nd hr').1;have lus:us.length=i*n:=by
      rw[hus.length,iu n (fun r=>by simp),length_take];rw[min_eq_left (le_of_lt li)]
     have tk:(Vg02.rowsOf n t).take (i+1)=(Vg02.rowsOf n t).take i++[r]:=by rw[take_add_one,hr'];rfl
     refine⟨_,rfl,.inl ⟨rfl,_,aH.of hlo5⟩,_,rfl,_,rfl,by omega,by omega,fun D hD=>?_⟩;rw[toNat_natCast];refine dG (fun j H3=>aj H'' H3/\∃vs:List Addr,H3 D=some (.lst (vs.map V.ref))/\aQ H3 vs ((range j).map fun x=>r++[x])/\∀b∈vs,H'' b=none) ⟨aj.upd hD,[],ae,.nil,by intro b m;cases m⟩ (fun j H3 hj p=>?_) (fun H3 p=>?_)
     ·obtain⟨s6,vs,hD6,hvs,fr⟩:=p;have lvs:vs.length=j:=by rw[hvs.length];simp
      refine⟨rfl,_,rfl,_,rfl,tx,fun e he=>?_⟩;have s7:aj H3 (upd H3 e (.lst [V.int (0+(j:Int))])):=aj.upd he;refine⟨tr,e,_,_,rfl,rfl,s7 _ _ (s6 _ _ htr5),ae,by rw[length_map,sizeLine_eq];simp;omega,fun p hp=>?_⟩;have s8:=aj.upd (o:=.lst (iv r++[V.int (0+(j:Int))])) hp;have s78:=s7.trans s8;have hp8:upd (upd H3 e (.lst [V.int (0+(j:Int))])) p (.lst (iv r++[V.int (0+(j:Int))])) p=some (.lst (iv (r++[j]))):=by rw[ae,pU];simp
      have np:p≠D:=fun z=>by rw[z]at hp;rw[s7 _ _ hD6]at hp;cases hp
      generalize upd (upd H3 e (.lst [V.int (0+(j:Int))])) p (.lst (iv r++[V.int (0+(j:Int))]))=H4 at s78 hp8;refine⟨_,s78 _ _ hD6,by rw[length_map,sizeLine_eq];omega,aj.over hD (s6.trans s78),vs++[p],by rw[ae,map_append];rfl,?_⟩;rw[range_succ,map_append];refine⟨aQ.snoc ((hvs.same s78).put (s78 _ _ hD6) _) (by rw[ao np];exact hp8),fun b m=>?_⟩;rcases Nj m with m|m
      ·exact fr b m
      ·rw[List.mem_singleton.mp m];exact(s6.trans s7).free hp
     ·obtain⟨s6,vs,hD6,hvs,fr⟩:=p;have lvs:vs.length=n:=by rw[hvs.length];simp
      have hb2:i*n+n<=4096:=le_trans (by rw[<-succ_mul];exact mul_le_mul_right _ li) ltl;refine⟨lo,D,_,_,rfl,rfl,s6 _ _ hlo5,hD6,by rw[length_map,length_map,sizeLine_eq];omega,us++vs,_,rfl,aj.over hlo (s5.trans s6),by rw[ae,map_append],?_⟩;have nz:vs≠[]:=fun z=>by rw[z]at lvs;simp at lvs;omega
      rw[tk,List.flatMap_append,List.flatMap_singleton];have hDlo:D≠lo:=fun z=>by rw[z,hlo5]at hD;cases hD
      refine⟨?_,fun b m=>by
       rcases Nj m with m|m
       ·exact fus b m
       ·exact(s3.trans s5).free (fr b m)⟩
      refine aQ.app ((hus.same s6).put (s6 _ _ hlo5) _) (Paired.mapM hvs fun b x m e=>?_);have hbl:b≠lo:=fun z=>by
       have:=fr b m;rw[z,hlo5]at this;cases this
      rw[ao hbl];exact e
   ·obtain⟨us,v5',rfl,s5,hlo5,hus,fus⟩:=p;rw[length_map,hts.length,take_length,<-Mg.e9]at hus;exact⟨_,rfl,lo,us,_,_,_,rfl,s3.trans s5,hlo5,hus,s3.free hlo,fus⟩
  ·rintro σ H' ⟨ra,ts,v3,v4,v5,rfl,s3,hra,hts,fra,fts⟩;exact⟨_,rfl,kk H' ra ts s3 fra fts hra hts⟩
end
def ov:Option Nat->V
 |none=>.cu
 |some n=>.int (n:Nat)
theorem ze(r:List (Option Nat))(i:Nat)(o:Option Nat):(r.map ov).set i (ov o)=(r.set i o).map ov:=by rw[List.map_set]
theorem zf{r:List (Option Nat)}{i:Nat}{o:Option Nat}(h:r[i]?=some o):(r.map ov)[i]?=some (ov o):=by rw[getElem?_map,h];rfl
theorem BV(m:DW):(m.map some).map ov=iv m:=by rw[map_map];rfl
theorem BH(n:Nat):(replicate n [V.cu]).flatten=(replicate n (none:Option Nat)).map ov:=by
 rw[List.map_replicate]
 induction n with
 |zero=>rfl
 |succ n ih=>rw[replicate_succ,flatten_cons,ih];rfl
theorem getD_at{l:DW}{i n:Nat}(h:l[i]?=some n):l.getD i 0=n:=by rw[getD_eq_getElem?_getD,h];rfl
section
variable{P:Program}{w:World}{K:Frag}{mg:GmT}{base:Heap}{C:Addr}
def yk(C:Addr):Sp:=fun vs H Q _=>∃(a b im:Addr)(G V:Group)(g:DW),vs=[.ref a,.ref b,.ref im]/\dQ C H a G/\dQ C H b V/\H im=some (.lst (iv g))/\g.length=G.gens.length/\(∀x∈g,x<V.size) /\
 (Vg02.mapBy G V g=none->∀H':Hp,aj H H'->Q .cu H')/\∀m,Vg02.mapBy G V g=some m->∀(H':Hp)(p:Addr),aj H H'->H p=none->H' p=some (.lst (iv m))->Q (.ref p) H'
abbrev LH:List Str:=["group","other","images","row","i","generator","image","reached","wanted"]
theorem Dh:aq LH ["group","other","images"] (af EZ):=.m
theorem GK{f:Addr}{fd:FuncData}(F:bW K "extended" "extended" EZ f fd)(T:Tx mg)(T4:xq mg)(TC:TG K C)(MS:aK P w K mg base C "size" 1 ["self"] (cC C))(MT:aK P w K mg base C "times" 1 ["self","i","j"] (cK C)):
  aG P w K mg base bA 2 f fd ["group","other","images"] (yk C):=by
 obtain⟨fz,fdz,mz,Gz,bz⟩:=MS;obtain⟨ft,fdt,mt,Gt,bt⟩:=MT;exists F.ok Dh
 ·obtain⟨a,b,im,G,V,g,rfl,_⟩:=h;rfl
 ·obtain⟨a,b,im,G,V,g,rfl,hG,hV,him,hl,hg,k0,k1⟩:=h;obtain⟨W,qo,dx,fs,ha,hf⟩:=id hG;obtain⟨W2,few2,dx2,fs2,ha2,hf2⟩:=id hV;have n1:=hf.fK "size" (by simp);have n2:=hf.fK "times" (by simp);have n3:=hf2.fK "times" (by simp);have nd:=Dh.nd;have hle:=W.le;have hp:=W.pos;have hr1:bR 1 _:=hr.mono (by decide);obtain⟨lg,eg1,eg2⟩:=hf.gens;refine⟨_,ag (aC (i:=3) nd rfl (Or.inl rfl) (cI zl (aT (aa c7 ab)) (aU (pv 0) TC.cl mz Gz hr1 bz .nil au)))
   (ag (tQ az (tT (pv 3) az set_list))
   (ag (cM PassesOwn.never rfl (cw rfl T.pD (aa (aU (pv 0) TC.cl mz Gz hr1 bz .nil au) ab)) (aJ (i:=4) nd rfl (Or.inl rfl))
    (ah (cM PassesOwn.never rfl (FE rfl T4.zp (aa (cj (pv 0) rfl) (aa (pv 2) ab))) (pF rfl (eh (aJ (i:=5) nd rfl (Or.inl rfl)) (eh (aJ (i:=6) nd rfl (Or.inl rfl)) k6)))
     (ag (aC (i:=7) nd rfl (Or.inl rfl) (ba (pv 0) TC.cl mt Gt hr1 bt .nil au (aa (pv 4) (aa (pv 5) ab))))
     (ag (aC (i:=8) nd rfl (Or.inl rfl) (ba (pv 1) TC.cl mt Gt hr1 bt .nil au (aa (bN bb (pv 3) (pv 4) (fun _ _=>rfl)) (aa (pv 6) ab))))
     (ah (bL (aX mj (bN bb (pv 3) (pv 7) (fun _ _=>rfl)) c7 (aW _)) (ah (tQ (pv 8) (tT (pv 3) (pv 7) set_list)))
      (ah (bL (aX qX (bN bb (pv 3) (pv 7) (fun _ _=>rfl)) (pv 8) (aW _)) (ah (ak c7)) aZ)))))))))
   (ah (ak (pv 3))))),?_⟩
  refine⟨tx,fun q0 hq0=>?_⟩;have s0:aj H (upd H q0 (.lst [L2.V.cu])):=aj.upd hq0;refine⟨_,rfl,a,dx,_,rfl,s0 _ _ ha,n1,a,G,rfl,hG.same s0,q0,_,_,rfl,rfl,ae,by omega,by omega,by rw[sizeLine_eq];simp;omega,fun q hq=>?_⟩;have nq:H q=none:=s0.free hq;have s1:=aj.upd (o:=.lst (replicate ((G.size:Nat):Int).toNat [L2.V.cu]).flatten) hq;have e1:upd (upd H q0 (.lst [L2.V.cu])) q (.lst (replicate ((G.size:Nat):Int).toNat [L2.V.cu]).flatten) q=some (.lst ((replicate G.size (none:Option Nat)).map ov)):=by
   rw[ae,toNat_natCast,BH]
  have s01:=s0.trans s1;generalize upd (upd H q0 (.lst [L2.V.cu])) q (.lst (replicate ((G.size:Nat):Int).toNat [L2.V.cu]).flatten)=H1 at s01 e1;refine⟨_,rfl,q,_,_,0,rfl,rfl,e1,(by unfold Aa;rw[if_pos (by decide),if_pos (by simp;omega)];rfl),?_⟩;have s2:aj H (upd H1 q (.lst (((replicate G.size (none:Option Nat)).map ov).set 0 (L2.V.int 0)))):=aj.over nq s01;have e2:upd H1 q (.lst (((replicate G.size (none:Option Nat)).map ov).set 0 (L2.V.int 0))) q=some (.lst (((replicate G.size (none:Option Nat)).set 0 (some 0)).map ov)):=by
   rw[ae,<-ze];rfl
  generalize upd H1 q (.lst (((replicate G.size (none:Option Nat)).map ov).set 0 (L2.V.int 0)))=H2 at s2 e2;refine⟨_,rfl,a,dx,_,rfl,s2 _ _ ha,n1,a,G,rfl,hG.same s2,_,rfl,by omega,by omega,?_⟩;rw[toNat_natCast];refine gj (fun t σ H'=>∃(r:List (Option Nat))(v4 v5 v6 v7 v8:Option L2.V),σ=[some (.ref a),some (.ref b),some (.ref im),some (.ref q),v4,v5,v6,v7,v8]/\aj H H'/\H' q=some (.lst (r.map ov))/\Mg.Walk G V g t 0 r) ⟨_,none,none,none,none,none,rfl,s2,e2,Mg.sU W W2 hl⟩ ?_ ?_
  ·rintro t σ H' ht ⟨r,v4,v5,v6,v7,v8,rfl,s3,hq3,wk⟩;refine⟨_,rfl,a,C,dx,_,_,rfl,s3 _ _ ha,TC.cl,TC.nG,eg1,_,rfl,lg,im,_,_,rfl,aH.of (s3 _ _ eg2),aH.of (s3 _ _ him),?_⟩;refine pZ (n:=G.gens.length) (fun j σ H''=>∃(r:List (Option Nat))(v5 v6 v7 v8:Option L2.V),σ=[some (.ref a),some (.ref b),some (.ref im),some (.ref q),some (.int (t:Nat)),v5,v6,v7,v8]/\aj H H''/\H'' q=some (.lst (r.map ov))/\Mg.Walk G V g t j r) ⟨r,v5,v6,v7,v8,by simp,s3,hq3,wk⟩ ?_ ?_ ?_ ?_
   ·rintro j σ H'' hj ⟨r,_,_,_,_,_,s4,_⟩;exact⟨_,_,_,_,aH.of (s4 _ _ eg2),aH.of (s4 _ _ him),il (getElem?_eq_getElem hj),il (getElem?_eq_getElem (by omega))⟩
   ·rintro j v σ H'' H5 hj ⟨r,w5,w6,w7,w8,rfl,s4,hq4,wk⟩ ⟨T0,x,y,rfl,hT0,rfl,hx,hy⟩;obtain⟨xn,hxn,rfl⟩:=c8 (hx _ (aH.of (s4 _ _ eg2)));obtain⟨yn,hyn,rfl⟩:=c8 (hy _ (aH.of (s4 _ _ him)));have gx:=getD_at hxn;have gy:=getD_at hyn;have lx:=W.dJ xn (mem_of_getElem? hxn);have ly:=hg yn (mem_of_getElem? hyn);have s5:=aj.upd (o:=.tup [L2.V.int xn,L2.V.int yn]) hT0;have s45:=s4.trans s5;have hq5:=s5 _ _ hq4;have hT5:upd H'' T0 (.tup [L2.V.int xn,L2.V.int yn]) T0=some (.tup [L2.V.int xn,L2.V.int yn]):=ae;generalize upd H'' T0 (.tup [L2.V.int xn,L2.V.int yn])=H6 at s45 hq5 hT5;obtain⟨vt,hvt⟩:=Mg.sW W qo.2 wk ht;have lv:=wk.lt _ _ hvt;have lR:=W.lt _ _ ht lx;refine⟨T0,_,rfl,gr.of hT5,rfl,_,_,rfl,_,_,rfl,rfl,?_⟩;refine⟨_,rfl,a,dx,_,rfl,s45 _ _ ha,n2,_,rfl,_,rfl,a,G,t,xn,rfl,hG.same s45,ht,lx,?_⟩;refine⟨_,rfl,b,dx2,_,rfl,s45 _ _ ha2,n3,_,rfl,_,rfl,q,_,_,_,rfl,rfl,aH.of hq5,b9 (zf hvt),_,rfl,b,V,vt,yn,rfl,hV.same s45,lv,ly,?_⟩;have rl:G.times t xn<r.length:=by rw[wk.len];exact lR
    obtain⟨o,ho⟩:∃o,r[G.times t xn]?=some o:=⟨_,getElem?_eq_getElem rl⟩;refine⟨_,rfl,_,rfl,q,_,_,_,rfl,rfl,aH.of hq5,b9 (zf ho),rfl,_,rfl,?_⟩;cases o with
    |none=>
     refine⟨_,rfl,_,rfl,_,rfl,q,_,_,G.times t xn,rfl,rfl,hq5,(by unfold Aa;rw[if_pos (by omega),if_pos (by simp;omega)];simp),?_⟩;refine⟨r.set (G.times t xn) (some (V.times vt yn)),_,_,_,_,rfl,aj.over nq s45,by rw[ae,<-ze];rfl,?_⟩;have:=Mg.xA W W2 hl hg wk ht hj hvt (by rw[gx];exact ho);rw[gx,gy]at this;exact this
    |some u=>
     refine⟨_,rfl,_,rfl,q,_,_,_,rfl,rfl,aH.of hq5,b9 (zf ho),_,rfl,rfl,_,rfl,?_⟩;have hu:r[G.times t (G.gens.getD j 0)]?=some (some u):=by rw[gx];exact ho
     refine c9 (fun c=>?_) (fun c=>?_)
     ·have e:u≠V.times vt yn:=fun z=>by rw[z]at c;simp[ov]at c
      exact k0 (Mg.xC W hl wk ht hj hvt hu (by rw[gy];exact e)) _ s45
     ·have e:u=V.times vt yn:=by
       simp[ov]at c;exact Int.ofNat.inj c
      exact⟨r,_,_,_,_,rfl,s45,hq5,Mg.xy wk hvt hu (by rw[gy];exact e)⟩
   ·rintro σ H'' ⟨r,_,_,_,_,_,s4,_⟩;exact⟨_,_,aH.of (s4 _ _ eg2),aH.of (s4 _ _ him),.inl (by simp)⟩
   ·rintro σ H'' ⟨r,w5,w6,w7,w8,rfl,s4,hq4,wk⟩;exact⟨r,_,_,_,_,_,rfl,s4,hq4,Mg.vZ wk⟩
  ·rintro σ H' ⟨r,v4,v5,v6,v7,v8,rfl,s3,hq3,wk⟩;obtain⟨m,hm,rfl⟩:=Mg.xB W hl qo.2 wk;rw[BV]at hq3;exact⟨_,rfl,k1 m hm H' q s3 nq hq3⟩
end
theorem yS(l:DW){i:Nat}(hi:i<=l.length):(range i).map (fun j=>(ii l).getD j 0)=ii (l.take i):=by
 refine ext_getElem (by simp[ii];omega) fun j h1 h2=>?_;have:j<i:=by simpa using h1
 simp[ii,List.getElem_take];rw[getElem?_eq_getElem (by omega)];rfl
theorem DB(l:DW):∀i,i<=l.length->∃u:DW,u.Nodup/\(∀x,x∈u↔x∈l.take i)/\u.length=(firstMet (fun j=>(ii l).getD j 0) i).length
 |0,_=>⟨[],by simp,by simp,rfl⟩
 |i+1,h=>by
  obtain⟨u,nu,mu,lu⟩:=DB l i (by omega)
  have hx:l[i]?=some l[i]:=getElem?_eq_getElem (by omega)
  have ev:(ii l).getD i 0=((l[i]:Nat):Int):=by simp[ii,hx]
  have tk:l.take (i+1)=l.take i++[l[i]]:=by rw[take_add_one,hx];rfl
  have an:(firstMet (fun j=>(ii l).getD j 0) i).any (·==((l[i]:Nat):Int))=decide (l[i]∈l.take i):=by
   rw[firstMet_any,yS l (by omega),Bool.eq_iff_iff,List.any_eq_true,decide_eq_true_eq]
   constructor
   ·rintro⟨y,hy,e⟩
    obtain⟨z,hz,rfl⟩:=Ng hy
    have:z=l[i]:=Int.ofNat.inj (by simpa using e)
    rw[<-this];exact hz
   ·intro m
    exact⟨_,List.mem_map.mpr ⟨_,m,rfl⟩,by simp⟩
  rw[firstMet_succ,ev,step_length,an]
  by_cases c:l[i]∈l.take i
  ·refine⟨u,nu,fun x=>?_,by rw[if_pos (by simpa using c)];exact lu⟩
   rw[mu,tk,mem_append,mem_singleton]
   exact⟨.inl,fun z=>z.elim id fun z=>by rw[z];exact c⟩
  ·refine⟨u++[l[i]],?_,fun x=>?_,by rw[if_neg (by simpa using c),length_append,lu];rfl⟩
   ·rw[List.nodup_append]
    refine⟨nu,by simp,fun x hx y hy=>?_⟩
    rw[List.mem_singleton.mp hy]
    rintro rfl
    exact c ((mu _).mp hx)
   ·rw[tk,mem_append,mem_append,mu]
theorem vn(l:DW):(firstMet (fun j=>(ii l).getD j 0) l.length).length=l.eraseDups.length:=by
 obtain⟨u,nu,mu,lu⟩:=DB l l.length (le_refl _);rw[take_length]at mu;rw[<-lu];exact Mg.qc nu mu
theorem kd:∀{a b:DW},a.length=b.length->Vg02.before a b=jt a b
 |[],[],_=>rfl
 |[],_::_,h=>by simp at h
 |_::_,[],h=>by simp at h
 |x::a,y::b,h=>by
  have ih:=kd (a:=a) (b:=b) (by simpa using h)
  by_cases e:x=y
  ·simp[Vg02.before,jt,e,ih]
  ·simp[Vg02.before,jt,e]
section
variable{P:Program}{w:World}{K:Frag}{mg:GmT}{base:Heap}{C:Addr}
theorem AH:bootBuiltins "set"=some (.type "set"):=by decide +kernel
def yU(K:Frag):List V->Hp->VK->Prop:=fun xs H Q=>∃(a:Addr)(ns:List Int),xs=[.ref a]/\aH K H a (ns.map V.int)/\ns.length<1000/\∀p,H p=none->Q (.ref p) (upd H p (.set (fun k=>(firstMet (fun i=>ns.getD i 0) ns.length).any (·==k)) (firstMet (fun i=>ns.getD i 0) ns.length).length))
def uV(C:Addr):Sp:=fun vs H Q _=>∃(a b:Addr)(G U:Group),vs=[.ref a,.ref b]/\dQ C H a G/\dQ C H b U/\tooMany G U=false/\∀(H':Hp)(p:Addr)(ts:List Addr),aj H H'->H' p=some (.lst (ts.map V.ref))->aQ H' ts (Vg02.maps G U)->ts.length<=4096->Q (.ref p) H'
abbrev LR:List Str:=["group","other","found","images","row"]
theorem Dr:aq LR ["group","other"] (af Fl):=.m
theorem Hn{f:Addr}{fd:FuncData}(F:bW K "all_maps" "all_maps" Fl f fd)(T:Tx mg)(TC:TG K C)(MS:aK P w K mg base C "size" 1 ["self"] (cC C))(DC:ay P w K mg base "choices" 1 ["size","length"] yp)(DE:ay P w K mg base "extended" 2 ["group","other","images"] (yk C)):
  aG P w K mg base bA 3 f fd ["group","other"] (uV C):=by
 obtain⟨fz,fdz,mz,Gz,bz⟩:=MS;obtain⟨f1,fd1,m1,k1,G1,b1⟩:=DC;obtain⟨f2,fd2,m2,k2,G2,b2⟩:=DE;exists F.ok Dr
 ·obtain⟨a,b,G,U,rfl,_⟩:=h;rfl
 ·obtain⟨a,b,G,U,rfl,hG,hU,few4,k⟩:=h;obtain⟨W,qo,dx,fs,ha,hf⟩:=id hG;obtain⟨W2,few2,dx2,fs2,ha2,hf2⟩:=id hU;have nz:=hf2.fK "size" (by simp);have nd:=Dr.nd;have hle:=W2.le;have hp:=W2.pos;have hr1:bR 1 _:=hr.mono (by decide);obtain⟨lg,eg1,eg2⟩:=hf.gens;have h4096:U.size^G.gens.length<=4096:=by
   have:=of_decide_eq_false few4;unfold TRIED at this;omega
  refine⟨_,ag (aC (i:=2) nd rfl (Or.inl rfl) (aT ab))
   (ag (cM PassesOwn.never rfl (bM (aw G1 hr1 rfl m1 k1 b1 .nil au (aa (aU (pv 1) TC.cl mz Gz hr1 bz .nil au) (aa (aS aM rfl T.len PySem.boot_len (aa (cj (pv 0) rfl) ab)) ab)))) (aJ (i:=3) nd rfl (Or.inl rfl))
    (ag (aC (i:=4) nd rfl (Or.inl rfl) (aw G2 (hr.mono (by decide)) rfl m2 k2 b2 .nil au (aa (pv 0) (aa (pv 1) (aa (pv 3) ab)))))
    (ah (bL (aX vd (pv 4) c7 (aW _)) (ah (dC (fb plainAttrs_list PySem.F.slot_list_append PySem.F.type_list_append dw (pv 2) (aa (pv 4) ab)))) aZ))))
   (ah (ak (pv 2)))),?_⟩
  refine⟨(by show 0<=sizeLine;decide),fun q hq=>?_⟩;have s1:aj H (upd H q (.lst [])):=aj.upd hq;have e1:upd H q (.lst []) q=some (.lst (([]:List Addr).map V.ref)):=ae;generalize upd H q (.lst [])=H1 at s1 e1;refine⟨_,rfl,b,dx2,_,rfl,s1 _ _ ha2,nz,b,U,rfl,hU.same s1,_,rfl,a,C,dx,_,_,rfl,s1 _ _ ha,TC.cl,TC.nG,eg1,lg,_,rfl,.inl (aH.of (s1 _ _ eg2)),U.size,G.gens.length,by rw[length_map]<;>rfl,hp,hle,qo.1,h4096,fun H2 ra ts s2 fra fts hra hts=>?_⟩;refine⟨ra,rfl,⟨_,aH.of hra⟩,?_⟩;have nqa:ra≠q:=fun z=>by rw[z,e1]at fra;cases fra
  have nqt:∀b∈ts,b≠q:=fun b m z=>by have:=fts b m;rw[z,e1]at this;cases this
  have lts:ts.length<=4096:=by rw[hts.length,gD];exact h4096
  refine dM (K:=K) (xs:=ts.map V.ref) (fun i σ H'=>∃(us:List Addr)(v3 v4:Option V),σ=[some (.ref a),some (.ref b),some (.ref q),v3,v4]/\aj H H'/\H' ra=some (.lst (ts.map V.ref))/\aQ H' ts (Vg02.rowsOf U.size G.gens.length)/\H' q=some (.lst (us.map V.ref))/\aQ H' us (((Vg02.rowsOf U.size G.gens.length).take i).filterMap (Vg02.mapBy G U)))
   ⟨[],none,none,rfl,s1.trans s2,hra,hts,s2 _ _ e1,.nil⟩ (fun i σ H' _ p=>by obtain⟨_,_,_,_,_,h,_⟩:=p;exact aH.of h) (fun i v σ H' hv p=>?_) (fun σ H' p=>?_)
  ·obtain⟨us,v3,v4,rfl,s3,hra3,hts3,hq3,hus⟩:=p;rw[getElem?_map]at hv;cases etr:ts[i]? with
   |none=>rw[etr]at hv;cases hv
   |some tr=>
    rw[etr]at hv;obtain rfl:=Nc hv;obtain⟨g,hg,htr⟩:=bP hts3 etr;obtain⟨lg',lt'⟩:=gH (mem_of_getElem? hg);have tk:(Vg02.rowsOf U.size G.gens.length).take (i+1)=(Vg02.rowsOf U.size G.gens.length).take i++[g]:=by rw[take_add_one,hg];rfl
    have lus:us.length<=4095:=by
     have li:=(Nd etr).1;rw[hus.length];have:=List.length_filterMap_le (Vg02.mapBy G U) ((Vg02.rowsOf U.size G.gens.length).take i);rw[length_take]at this;omega
    refine⟨_,rfl,_,rfl,_,rfl,a,b,tr,G,U,g,rfl,hG.same s3,hU.same s3,htr,lg',lt',fun en H4 s4=>?_,fun m em H4 p s4 hp4 hv4=>?_⟩
    ·refine⟨_,rfl,rfl,_,rfl,?_⟩;refine⟨us,_,_,rfl,s3.trans s4,s4 _ _ hra3,hts3.same s4,s4 _ _ hq3,?_⟩;rw[tk,List.filterMap_append];have:[g].filterMap (Vg02.mapBy G U)=[]:=by simp[en]
     rw[this,append_nil];exact hus.same s4
    ·refine⟨_,rfl,rfl,_,rfl,?_⟩;have nqp:p≠q:=fun z=>by rw[z,hq3]at hp4;cases hp4
     refine⟨_,rfl,.inl ⟨rfl,_,aH.of (s4 _ _ hq3)⟩,_,rfl,q,_,_,rfl,rfl,s4 _ _ hq3,by rw[length_map,sizeLine_eq];omega,?_⟩;refine⟨us++[p],_,_,rfl,aj.over hq (s3.trans s4),by rw[ao nqa];exact s4 _ _ hra3,Paired.mapM (hts3.same s4) fun b x mm e=>by rw[ao (nqt b mm)];exact e,by rw[ae,map_append];rfl,?_⟩;rw[tk,List.filterMap_append];have:[g].filterMap (Vg02.mapBy G U)=[m]:=by simp[em]
     rw[this];exact aQ.snoc ((hus.same s4).put (s4 _ _ hq3) _) (by rw[ao nqp];exact hv4)
  ·obtain⟨us,v3,v4,rfl,s3,hra3,hts3,hq3,hus⟩:=p;rw[length_map,hts.length,take_length]at hus;have lus:us.length<=4096:=by
    rw[hus.length];exact le_trans (List.length_filterMap_le _ _) (by rw[gD];exact h4096)
   exact⟨_,rfl,k H' q us s3 hq3 hus lus⟩
def yg(C:Addr):Sp:=fun vs H Q _=>∃(a b:Addr)(G U:Group),vs=[.ref a,.ref b]/\dQ C H a G/\dQ C H b U/\tooMany G U=false/\(Vg02.same G U=none->∀H':Hp,aj H H'->Q .cu H')/\∀m,Vg02.same G U=some m->∀(H':Hp)(p:Addr),aj H H'->H' p=some (.lst (iv m))->m.length<=60->Q (.ref p) H'
abbrev JZ:List Str:=["group","other","row"]
theorem Dg:aq JZ ["group","other"] (af Bs):=.m
theorem rK{G U:Group}(W:Mg.WF G){m:DW}(h:m∈Vg02.maps G U):m.length=G.size:=by
 obtain⟨g,hg,e⟩:=List.mem_filterMap.mp h;exact(Mg.eJ W (gH hg).1 e).1
theorem GC{f:Addr}{fd:FuncData}(F:bW K "first_same" "first_same" Bs f fd)(T:Tx mg)(T4:xq mg)(TC:TG K C)(MS:aK P w K mg base C "size" 1 ["self"] (cC C))(DA:ay P w K mg base "all_maps" 3 ["group","other"] (uV C)):
  aG P w K mg base bA 4 f fd ["group","other"] (yg C):=by
 obtain⟨fz,fdz,mz,Gz,bz⟩:=MS;obtain⟨f1,fd1,m1,k1,G1,b1⟩:=DA;exists F.ok Dg
 ·obtain⟨a,b,G,U,rfl,_⟩:=h;rfl
 ·obtain⟨a,b,G,U,rfl,hG,hU,few4,kN,kS⟩:=h;obtain⟨W,qo,dx,fs,ha,hf⟩:=id hG;obtain⟨W2,few2,dx2,fs2,ha2,hf2⟩:=id hU;have nz:=hf2.fK "size" (by simp);have n1:=hf.fK "size" (by simp);have nd:=Dg.nd;have hle:=W.le;have hr1:bR 1 _:=hr.mono (by decide);refine⟨_,ag (bL (aX qX (aU (pv 0) TC.cl mz Gz hr1 bz .nil au) (aU (pv 1) TC.cl mz Gz hr1 bz .nil au) (aW _)) (ah (ak c7)) aZ)
   (ah (ak (BS rfl hr1 rfl T4.mn (aa (dm (own:=[("row",2)]) rfl nd (bM (aw G1 (hr.mono (by decide)) rfl m1 k1 b1 .nil au (aa (pv 0) (aa (pv 1) ab)))) (bf (N:=JZ) (sc:=af Bs) (by decide +kernel))
    (fun _ _ _ _ _=>aJ (i:=2) nd rfl (Or.inl rfl)) (fun _ _ _ _ _=>pE (aX fZ (aS kb rfl T.len PySem.boot_len (aa (bO (r:=yU K) (oX rfl) rfl T4.st AH (aa (pv 2) ab)) ab)) (aU (pv 0) TC.cl mz Gz hr1 bz .nil au) (aW _))) (fun _ _ _ _ _=>pv 2)) ab)))),?_⟩
  refine⟨_,rfl,a,dx,_,rfl,ha,n1,a,G,rfl,hG,_,rfl,b,dx2,_,rfl,ha2,nz,b,U,rfl,hU,rfl,_,rfl,?_⟩;refine c9 (fun c=>?_) (fun c=>?_)
  ·have e:G.size≠U.size:=fun z=>by rw[z]at c;simp at c
   refine kN ?_ _ fun _ _ e=>e;unfold Vg02.same;rw[if_pos e]
  ·have e:G.size=U.size:=by
    have:V.int (G.size:Nat)=V.int (U.size:Nat):=by simpa using c
    injection this with this;exact Int.ofNat.inj this
   have SE:=Mg.Bc e;refine⟨_,rfl,_,rfl,a,b,G,U,rfl,hG,hU,few4,fun H1 q ts s1 hq hts l4=>⟨q,rfl,⟨_,aH.of hq⟩,fun D hD=>?_⟩⟩;refine dH (K:=K) (xs:=ts.map V.ref) (fun i H3=>aj H1 H3/\∃vs:List Addr,H3 D=some (.lst (vs.map V.ref))/\aQ H3 vs (((Vg02.maps G U).take i).filter fun(m:DW)=>m.eraseDups.length==G.size)) ⟨aj.upd hD,[],ae,.nil⟩ (fun i H3 _ p=>aH.of (p.1 _ _ hq)) (fun i v H3 hv p=>?_) (fun H3 p=>?_)
   ·obtain⟨s2,vs,hD2,hvs⟩:=p;rw[getElem?_map]at hv;cases etr:ts[i]? with
    |none=>rw[etr]at hv;cases hv
    |some tr=>
     rw[etr]at hv;obtain rfl:=Nc hv;obtain⟨m,hm,htr⟩:=bP hts etr;have htr2:=s2 _ _ htr;have lm:=rK W (mem_of_getElem? hm);have tk:(Vg02.maps G U).take (i+1)=(Vg02.maps G U).take i++[m]:=by rw[take_add_one,hm];rfl
     have li:=(Nd etr).1;have lvs:vs.length<=i:=by
      rw[hvs.length];exact le_trans (length_filter_le _ _) (by rw[length_take];omega)
     rw[bH]at htr2;refine⟨rfl,_,rfl,tr,ii m,rfl,aH.of htr2,by simp[ii];omega,fun p hp=>?_⟩;have s3:=aj.upd (o:=.set (fun k=>(firstMet (fun i=>(ii m).getD i 0) (ii m).length).any (·==k)) (firstMet (fun i=>(ii m).getD i 0) (ii m).length).length) hp;have e3:upd H3 p (.set (fun k=>(firstMet (fun i=>(ii m).getD i 0) (ii m).length).any (·==k)) (firstMet (fun i=>(ii m).getD i 0) (ii m).length).length) p=some (.set (fun k=>(firstMet (fun i=>(ii m).getD i 0) (ii m).length).any (·==k)) m.eraseDups.length):=by
      rw[ae,show(ii m).length=m.length by simp[ii],vn]
     generalize upd H3 p (.set (fun k=>(firstMet (fun i=>(ii m).getD i 0) (ii m).length).any (·==k)) (firstMet (fun i=>(ii m).getD i 0) (ii m).length).length)=H4 at s3 e3;have s23:=s2.trans s3;have np:p≠D:=fun z=>by rw[z,hD2]at hp;cases hp
     refine⟨p,_,_,rfl,e3,_,rfl,a,dx,_,rfl,(s1.trans s23) _ _ ha,n1,a,G,rfl,hG.same (s1.trans s23),rfl,_,rfl,?_⟩;refine c9 (fun c=>?_) (fun c=>?_)
     ·have ec:(m.eraseDups.length==G.size)=true:=by
       have:V.int (m.eraseDups.length:Nat)=V.int (G.size:Nat):=by simpa using c
       injection this with this;simpa using Int.ofNat.inj this
      refine⟨_,rfl,_,s3 _ _ hD2,by rw[length_map,sizeLine_eq];omega,aj.over hD s23,vs++[tr],by rw[ae,map_append];rfl,?_⟩;rw[tk,filter_append];have:([m].filter fun(m:DW)=>m.eraseDups.length==G.size)=[m]:=by rw[filter_cons,if_pos ec];rfl
      rw[this];have nD:tr≠D:=fun z=>by rw[z,hD]at htr;cases htr
      exact aQ.snoc ((hvs.same s3).put (s3 _ _ hD2) _) (by rw[ao nD];exact s23 _ _ htr)
     ·have ec:¬(m.eraseDups.length==G.size)=true:=fun z=>c (by
       have:m.eraseDups.length=G.size:=by simpa using z
       rw[this];simp)
      refine⟨s23,vs,s3 _ _ hD2,?_⟩;rw[tk,filter_append];have:([m].filter fun(m:DW)=>m.eraseDups.length==G.size)=[]:=by rw[filter_cons,if_neg ec];rfl
      rw[this,append_nil];exact hvs.same s3
   ·obtain⟨s2,vs,hD2,hvs⟩:=p;rw[length_map,hts.length,take_length]at hvs;generalize hL:((Vg02.maps G U).filter fun(m:DW)=>m.eraseDups.length==G.size)=L at SE hvs;have ln:∀m∈L,m.length=G.size:=fun m hm=>by rw[<-hL]at hm;exact rK W (List.mem_filter.mp hm).1
    refine⟨D,vs,L.map ii,rfl,by rw[length_map,hvs.length],hD2,fun i t r ht hr'=>?_,fun en=>?_,fun i t r H4 ht hr' best s4=>?_⟩
    ·obtain⟨m,hm,h2⟩:=bP hvs ht;rw[getElem?_map,hm]at hr';obtain rfl:=Nc hr';rw[h2,bH]
    ·have:L=[]:=by
      have:=hvs.length;rw[en]at this;exact List.length_eq_zero_iff.mp this.symm
     exact kN (by rw[SE,this];rfl) _ (s1.trans s2)
    ·obtain⟨m,hm,h2⟩:=bP hvs ht;rw[getElem?_map,hm]at hr';obtain rfl:=Nc hr';have mm:=mem_of_getElem? hm;have lm:=ln m mm;refine kS m ?_ H4 t ((s1.trans s2).trans s4) (s4 _ _ h2) (by omega);rw[SE];refine Mg.xg ln mm fun m' hm'=>?_;obtain⟨j,hj⟩:=getElem?_of_mem hm';have:=best j (ii m') (by rw[getElem?_map,hj];rfl);rw[i3]at this;rw[kd (by rw[ln m' hm',lm])];exact this
end
abbrev EE:Stmt:=top 51
abbrev E5:Stmt:=top 52
abbrev Fg:Stmt:=top 53
abbrev Fh:Stmt:=top 54
abbrev E2:Stmt:=top 55
abbrev E4:Stmt:=top 56
abbrev Fo:Stmt:=top 57
abbrev Fc:Stmt:=top 58
abbrev Fe:Stmt:=top 59
inductive Arg
 |num (n:Nat)
 |row (l:DW)
 |cb (G:Group)
def kr(K:Frag)(C:Addr)(H:Hp)(v:V):Arg->Prop
 |.num n=>v=.int n
 |.row l=>∃r,v=.ref r/\aH K H r (iv l)
 |.cb G=>∃a,v=.ref a/\dQ C H a G
def rp(r:Reply):List Int:=r.ret::r.nums.map fun(n:Nat)=>(n:Int)
open Vg03 (says lists)in
def Ask:Nat->List Arg->List Int->Prop
 |2,as,r=>∃G,as=[.cb G]/\r=rp (says (G.size:Nat))
 |3,as,r=>∃G i,as=[.cb G,.num i]/\i<G.size/\r=rp (lists (G.names.getD i []))
 |4,as,r=>∃G a,as=[.cb G,.row a]/\r=rp (if G.names.contains a=true then says (G.names.idxOf a:Nat)else says (-2))
 |5,as,r=>∃G i,as=[.cb G,.num i]/\i<G.size/\r=rp (lists (G.words.getD i []))
 |6,as,r=>∃G i j,as=[.cb G,.num i,.num j]/\i<G.size/\j<G.size/\r=rp (says (G.times i j:Nat))
 |7,as,r=>∃G i,as=[.cb G,.num i]/\i<G.size/\r=rp (says (G.inverse i:Nat))
 |8,as,r=>∃G i n,as=[.cb G,.num i,.num n]/\i<G.size/\r=rp (says (G.power i n:Nat))
 |9,as,r=>∃G i,as=[.cb G,.num i]/\i<G.size/\r=rp (says (G.order i:Nat))
 |10,as,r=>∃G s,as=[.cb G,.row s]/\Vg02.isSet G s=true/\r=rp (lists (Vg02.least G s))
 |11,as,r=>∃G s,as=[.cb G,.row s]/\Vg02.isSet G s=true/\r=rp (says (if Vg02.isGroup G s=false then 0 else if Vg02.isNormal G s=true then 2 else 1))
 |12,as,r=>∃G s,as=[.cb G,.row s]/\Vg02.isSet G s=true/\r=rp (lists (Vg02.leastNormal G s))
 |13,as,r=>∃G s,as=[.cb G,.row s]/\Vg02.isSet G s=true/\r=rp (lists (central G s))
 |14,as,r=>∃G s,as=[.cb G,.row s]/\Vg02.isSet G s=true/\r=rp (lists (Vg02.stay G s))
 |15,as,r=>∃G s t,as=[.cb G,.row s,.row t]/\Vg02.isSet G s=true/\Vg02.isSet G t=true/\r=rp (lists (Vg02.mixed G s t))
 |16,as,r=>∃G,as=[.cb G]/\r=rp ⟨(different (classes G):Nat),classes G⟩
 |17,as,r=>∃G s,as=[.cb G,.row s]/\Vg02.isSet G s=true/\r=rp (if Vg02.isGroup G s=true then⟨(different (Vg02.cosets G s):Nat),Vg02.cosets G s⟩else says (-2))
 |18,as,r=>∃G h,as=[.cb G,.num h]/\r=rp (lists (series G (h != 0)))
 |19,as,r=>∃G p,as=[.cb G,.num p]/\r=rp (if Vg01.MOST<=p then says (-2)else if Vg02.isPrime p=true then lists (Vg02.prime G p)else says (-2))
 |20,as,r=>∃G,as=[.cb G]/\r=rp (lists (shape G))
 |21,as,r=>∃G,as=[.cb G]/\r=rp (says (if isSimple G=true then 1 else 0))
 |24,as,r=>∃G U,as=[.cb G,.cb U]/\r=rp (if tooMany G U=true then says (-6)else match Vg02.same G U with|some m=>⟨1,m⟩|none=>says 0)
 |25,as,r=>∃G U,as=[.cb G,.cb U]/\r=rp (if tooMany G U=true then says (-6)else says ((Vg02.maps G U).length:Nat))
 |_,_,_=>False
def Rp(pq pp:Addr)(H:Hp)(r:List Int)(Q:VK):Prop:=∀(H':Hp)(p:Addr),Kp H H'->Tb pq pp H'->H' p=some (.lst (r.map V.int))->Q (.ref p) H'
def kO(K:Frag)(C pq pp:Addr)(c:Nat):Sp:=fun vs H Q _=>∃as r,Paired (kr K C H) vs as/\Ask c as r/\Tb pq pp H/\r.length<=10000000/\Rp pq pp H r Q
theorem Rp.same{pq pp:Addr}{H H':Hp}{r:List Int}{Q:VK}{p:Addr}(k:Rp pq pp H r Q)(tb:Tb pq pp H)(s:aj H H')(e:H' p=some (.lst (r.map V.int))):Q (.ref p) H':=k H' p (Kp.of s) (tb.same s) e
theorem Rp.new{pq pp:Addr}{H:Hp}{r:List Int}{Q:VK}{p:Addr}{xs:List V}(k:Rp pq pp H r Q)(tb:Tb pq pp H)(hp:H p=none)(e:xs=r.map V.int):Q (.ref p) (upd H p (.lst xs)):=k.same tb (aj.upd hp) (by rw[ae,e])
section
variable{α β:Type}{R:α->β->Prop}{vs:List α}{x y z:β}
theorem JC(h:Paired R vs [x]):∃v,vs=[v]/\R v x:=by
 cases h with
 |cons a b=>cases b;exact⟨_,rfl,a⟩
theorem sO(h:Paired R vs [x,y]):∃v u,vs=[v,u]/\R v x/\R u y:=by
 cases h with
 |cons a b=>
  obtain⟨_,rfl,c⟩:=JC b;exact⟨_,_,rfl,a,c⟩
theorem Il(h:Paired R vs [x,y,z]):∃v u t,vs=[v,u,t]/\R v x/\R u y/\R t z:=by
 cases h with
 |cons a b=>
  obtain⟨_,_,rfl,c,d⟩:=sO b;exact⟨_,_,_,rfl,a,c,d⟩
end
theorem de(x:DW):V.int ((iv x).length:Nat)::iv x=(rp (Vg03.lists x)).map V.int:=by
 unfold rp Vg03.lists;rw[map_cons,length_map,bH]
theorem bE(x:DW)(h:(rp (Vg03.lists x)).length<=10000000):(iv x).length<=10000001:=by
 unfold rp Vg03.lists at h;simp at h ⊢;omega
theorem jj(n:Nat):[V.int (n:Nat)]=(rp (Vg03.says (n:Nat))).map V.int:=rfl
section
variable{P:Program}{w:World}{K:Frag}{mg:GmT}{base:Heap}{C pq pp:Addr}
def uQ:Sp:=fun vs H Q _=>∃(a:Addr)(l:DW),vs=[.ref a]/\H a=some (.lst (iv l))/\l.length<1000/\∀(H':Hp)(p:Addr),aj H H'->H p=none->H' p=some (.lst (.int (different l:Nat)::iv l))->Q (.ref p) H'
theorem IS:aq ["least"] ["least"] (af EE):=.m
theorem F7{f:Addr}{fd:FuncData}(F:bW K "parts" "parts" EE f fd)(T:Tx mg)(T4:xq mg):aG P w K mg base bA 1 f fd ["least"] uQ:=by
 exists F.ok IS
 ·obtain⟨a,l,rfl,_⟩:=h;rfl
 ·obtain⟨a,l,rfl,hl,hlen,k⟩:=h;refine⟨_,ah (ak (cI iY (aT (aa (aS kb rfl T.len PySem.boot_len (aa (bO (r:=yU K) (oX rfl) rfl T4.st AH (aa (pv 0) ab)) ab)) ab)) (pv 0))),?_⟩;have hl2:=hl;rw[bH]at hl2;refine⟨_,rfl,a,ii l,rfl,aH.of hl2,by simp[ii];omega,fun p hp=>?_⟩;have s3:=aj.upd (o:=.set (fun k=>(firstMet (fun i=>(ii l).getD i 0) (ii l).length).any (·==k)) (firstMet (fun i=>(ii l).getD i 0) (ii l).length).length) hp;have e3:upd H p (.set (fun k=>(firstMet (fun i=>(ii l).getD i 0) (ii l).length).any (·==k)) (firstMet (fun i=>(ii l).getD i 0) (ii l).length).length) p=some (.set (fun k=>(firstMet (fun i=>(ii l).getD i 0) (ii l).length).any (·==k)) l.eraseDups.length):=by
   rw[ae,show(ii l).length=l.length by simp[ii],vn]
  generalize upd H p (.set (fun k=>(firstMet (fun i=>(ii l).getD i 0) (ii l).length).any (·==k)) (firstMet (fun i=>(ii l).getD i 0) (ii l).length).length)=H1 at s3 e3;refine⟨p,_,_,rfl,e3,tx,fun q hq=>?_⟩;have s4:=aj.upd (o:=.lst [V.int (l.eraseDups.length:Nat)]) hq;refine⟨_,rfl,q,a,_,_,rfl,rfl,ae,(s3.trans s4) _ _ hl,?_,fun r hr'=>?_⟩
  ·rw[sizeLine_eq];simp;omega
  ·exact k _ r ((s3.trans s4).trans (aj.upd hr')) (s3.free (s4.free hr')) ae
theorem Jg:aq ["group"] ["group"] (af E5):=.m
theorem GW{f:Addr}{fd:FuncData}(F:bW K "size" "size" E5 f fd)(TC:TG K C)(MS:aK P w K mg base C "size" 1 ["self"] (cC C)):aG P w K mg base bA 8 f fd ["group"] (kO K C pq pp 2):=by
 obtain⟨fz,fdz,mz,Gz,bz⟩:=MS;exists F.ok Jg
 ·obtain⟨as,r,pr,⟨G,rfl,rfl⟩,_⟩:=h;exact pr.length
 ·obtain⟨as,r,pr,⟨G,rfl,rfl⟩,tb,hl,k⟩:=h;obtain⟨_,rfl,a,rfl,hG⟩:=JC pr;obtain⟨W,_,dx,fs,ha,hf⟩:=id hG;have n1:=hf.fK "size" (by simp);refine⟨_,ah (ak (aT (aa (aU (pv 0) TC.cl mz Gz (hr.mono (by decide)) bz .nil au) ab))),?_⟩;refine⟨_,rfl,a,dx,_,rfl,ha,n1,a,G,rfl,hG,tx,fun q hq=>k.new tb hq (jj _)⟩
theorem pY{α:Type}{l:List α}{i:Nat}{d:α}(h:i<l.length):l[i]?=some (l.getD i d):=by
 rw[getD_eq_getElem?_getD,getElem?_eq_getElem h];rfl
theorem Jo:aq ["group","i"] ["group","i"] (af Fg):=.m
theorem Hj{f:Addr}{fd:FuncData}(F:bW K "name" "name" Fg f fd)(TC:TG K C)(DC:ay P w K mg base "counted" 1 ["row"] (fS K)):aG P w K mg base bA 8 f fd ["group","i"] (kO K C pq pp 3):=by
 obtain⟨f1,fd1,m1,k1,G1,b1⟩:=DC;exists F.ok Jo
 ·obtain⟨as,r,pr,⟨G,i,rfl,_⟩,_⟩:=h;exact pr.length
 ·obtain⟨as,r,pr,⟨G,i,rfl,hi,rfl⟩,tb,hl,k⟩:=h;obtain⟨_,_,rfl,⟨a,rfl,hG⟩,rfl⟩:=sO pr;obtain⟨W,_,dx,fs,ha,hf⟩:=id hG;obtain⟨l,ts,e1,e2,e3⟩:=hf.names;obtain⟨t,ht,hrow⟩:=dt e3 (pY (d:=[]) (by rw[W.pK];exact hi));refine⟨_,ah (ak (aw G1 (hr.mono (by decide)) rfl m1 k1 b1 .nil au (aa (bN bb (cj (pv 0) rfl) (pv 1) (fun _ _=>rfl)) ab))),?_⟩;refine⟨_,rfl,a,C,dx,_,_,rfl,ha,TC.cl,TC.nN,e1,_,rfl,l,_,_,_,rfl,rfl,aH.of e2,b9 (by rw[getElem?_map,ht];rfl),t,_,rfl,.inr (gr.of hrow),bE _ hl,fun H1 p s1 _ hp=>k.same tb s1 (by rw[hp,de])⟩
theorem Je:aq ["group","i"] ["group","i"] (af E2):=.m
theorem GQ{f:Addr}{fd:FuncData}(F:bW K "word" "word" E2 f fd)(TC:TG K C)(DC:ay P w K mg base "counted" 1 ["row"] (fS K)):aG P w K mg base bA 8 f fd ["group","i"] (kO K C pq pp 5):=by
 obtain⟨f1,fd1,m1,k1,G1,b1⟩:=DC;exists F.ok Je
 ·obtain⟨as,r,pr,⟨G,i,rfl,_⟩,_⟩:=h;exact pr.length
 ·obtain⟨as,r,pr,⟨G,i,rfl,hi,rfl⟩,tb,hl,k⟩:=h;obtain⟨_,_,rfl,⟨a,rfl,hG⟩,rfl⟩:=sO pr;obtain⟨W,_,dx,fs,ha,hf⟩:=id hG;obtain⟨l,ts,e1,e2,e3⟩:=hf.words;obtain⟨t,ht,hrow⟩:=dt e3 (pY (d:=[]) (by rw[W.mw];exact hi));refine⟨_,ah (ak (aw G1 (hr.mono (by decide)) rfl m1 k1 b1 .nil au (aa (bN bb (cj (pv 0) rfl) (pv 1) (fun _ _=>rfl)) ab))),?_⟩;refine⟨_,rfl,a,C,dx,_,_,rfl,ha,TC.cl,TC.nW,e1,_,rfl,l,_,_,_,rfl,rfl,aH.of e2,b9 (by rw[getElem?_map,ht];rfl),t,_,rfl,.inl (aH.of hrow),bE _ hl,fun H1 p s1 _ hp=>k.same tb s1 (by rw[hp,de])⟩
theorem Jf:aq ["group","i","j"] ["group","i","j"] (af E4):=.m
theorem GV{f:Addr}{fd:FuncData}(F:bW K "times" "times" E4 f fd)(TC:TG K C)(MT:aK P w K mg base C "times" 1 ["self","i","j"] (cK C)):aG P w K mg base bA 8 f fd ["group","i","j"] (kO K C pq pp 6):=by
 obtain⟨ft,fdt,mt,Gt,bt⟩:=MT;exists F.ok Jf
 ·obtain⟨as,r,pr,⟨G,i,j,rfl,_⟩,_⟩:=h;exact pr.length
 ·obtain⟨as,r,pr,⟨G,i,j,rfl,hi,hj,rfl⟩,tb,hl,k⟩:=h;obtain⟨_,_,_,rfl,⟨a,rfl,hG⟩,rfl,rfl⟩:=Il pr;obtain⟨W,_,dx,fs,ha,hf⟩:=id hG;have n1:=hf.fK "times" (by simp);refine⟨_,ah (ak (aT (aa (ba (pv 0) TC.cl mt Gt (hr.mono (by decide)) bt .nil au (aa (pv 1) (aa (pv 2) ab))) ab))),?_⟩;refine⟨_,rfl,a,dx,_,rfl,ha,n1,_,rfl,_,rfl,a,G,i,j,rfl,hG,hi,hj,tx,fun q hq=>k.new tb hq (jj _)⟩
theorem Js:aq ["group","i"] ["group","i"] (af Fo):=.m
theorem Hq{f:Addr}{fd:FuncData}(F:bW K "inverse" "inverse" Fo f fd)(TC:TG K C)(MT:aK P w K mg base C "inverse" 1 ["self","i"] (qE C)):aG P w K mg base bA 8 f fd ["group","i"] (kO K C pq pp 7):=by
 obtain⟨ft,fdt,mt,Gt,bt⟩:=MT;exists F.ok Js
 ·obtain⟨as,r,pr,⟨G,i,rfl,_⟩,_⟩:=h;exact pr.length
 ·obtain⟨as,r,pr,⟨G,i,rfl,hi,rfl⟩,tb,hl,k⟩:=h;obtain⟨_,_,rfl,⟨a,rfl,hG⟩,rfl⟩:=sO pr;obtain⟨W,_,dx,fs,ha,hf⟩:=id hG;have n1:=hf.fK "inverse" (by simp);refine⟨_,ah (ak (aT (aa (ba (pv 0) TC.cl mt Gt (hr.mono (by decide)) bt .nil au (aa (pv 1) ab)) ab))),?_⟩;refine⟨_,rfl,a,dx,_,rfl,ha,n1,_,rfl,a,G,i,rfl,hG,hi,tx,fun q hq=>k.new tb hq (jj _)⟩
theorem Jm:aq ["group","i"] ["group","i"] (af Fe):=.m
theorem Hg{f:Addr}{fd:FuncData}(F:bW K "order" "order" Fe f fd)(TC:TG K C)(MT:aK P w K mg base C "order" 2 ["self","i"] (qB C)):aG P w K mg base bA 8 f fd ["group","i"] (kO K C pq pp 9):=by
 obtain⟨ft,fdt,mt,Gt,bt⟩:=MT;exists F.ok Jm
 ·obtain⟨as,r,pr,⟨G,i,rfl,_⟩,_⟩:=h;exact pr.length
 ·obtain⟨as,r,pr,⟨G,i,rfl,hi,rfl⟩,tb,hl,k⟩:=h;obtain⟨_,_,rfl,⟨a,rfl,hG⟩,rfl⟩:=sO pr;obtain⟨W,_,dx,fs,ha,hf⟩:=id hG;have n1:=hf.fK "order" (by simp);refine⟨_,ah (ak (aT (aa (ba (pv 0) TC.cl mt Gt (hr.mono (by decide)) bt .nil au (aa (pv 1) ab)) ab))),?_⟩;refine⟨_,rfl,a,dx,_,rfl,ha,n1,_,rfl,a,G,i,rfl,hG,hi,tx,fun q hq=>k.new tb hq (jj _)⟩
theorem Jk:aq ["group","i","n"] ["group","i","n"] (af Fc):=.m
theorem He{f:Addr}{fd:FuncData}(F:bW K "power" "power" Fc f fd)(TC:TG K C)(MT:aK P w K mg base C "power" 3 ["self","i","n"] (xX C)):aG P w K mg base bA 8 f fd ["group","i","n"] (kO K C pq pp 8):=by
 obtain⟨ft,fdt,mt,Gt,bt⟩:=MT;exists F.ok Jk
 ·obtain⟨as,r,pr,⟨G,i,j,rfl,_⟩,_⟩:=h;exact pr.length
 ·obtain⟨as,r,pr,⟨G,i,j,rfl,hi,rfl⟩,tb,hl,k⟩:=h;obtain⟨_,_,_,rfl,⟨a,rfl,hG⟩,rfl,rfl⟩:=Il pr;obtain⟨W,_,dx,fs,ha,hf⟩:=id hG;have n1:=hf.fK "power" (by simp);refine⟨_,ah (ak (aT (aa (ba (pv 0) TC.cl mt Gt (hr.mono (by decide)) bt .nil au (aa (pv 1) (aa (pv 2) ab))) ab))),?_⟩;refine⟨_,rfl,a,dx,_,rfl,ha,n1,_,rfl,_,rfl,a,G,i,j,rfl,hG,hi,tx,fun q hq=>k.new tb hq (jj _)⟩
def tD(x:DW):PyData:=.tuple ((ii x).map PyData.int)
theorem vJ{H:Hp}:∀{ts:List Addr}{r:L4},a9 H ts r->iS K H (ts.map V.ref) (r.map tD)
 |_,_,.nil=>.nil
 |_,_,.cons a b=>.cons (.tup (gr.of (by rw[a,bH]<;>rfl)) (gN _)) (vJ b)
theorem um(x y:DW):PyData.eqv (tD x) (tD y)=decide (x=y):=by
 show PyData.eqvAll ((ii x).map PyData.int) ((ii y).map PyData.int)=_;rw[mZ,decide_eq_decide];exact Ah
theorem sr(x:DW):(tD x).depth=1:=by
 unfold tD;generalize ii x=a;simp only[PyData.depth,i9]
theorem zY(x:DW):(tD x).canLay0=true:=by
 unfold tD;generalize ii x=a;simp only[PyData.canLay0,lay_ints]
theorem oz(x:DW):SeqAt.shaped (tD x)=true:=by
 unfold SeqAt.shaped;rw[zY,sr];rfl
theorem oU:∀r:L4,PyData.depthAll (r.map tD)<=1
 |[]=>by simp[PyData.depthAll]
 |x::r=>by
  have:=oU r
  simp only[map_cons,PyData.depthAll,sr];omega
theorem vq:∀r:L4,PyData.canLayAll0 (r.map tD)=true
 |[]=>by simp only[map_nil,PyData.canLayAll0]
 |x::r=>by
  have:=vq r
  simp only[map_cons,PyData.canLayAll0,zY,this,Bool.and_self]
theorem lP(r:L4):SeqAt.shaped (.list (r.map tD))=true:=by
 unfold SeqAt.shaped;have:=oU r;rw[and_eq_true];refine⟨by simp only[PyData.canLay0,vq],decide_eq_true ?_⟩;simp only[PyData.depth];omega
theorem _root_.L2.bR.Ms{k:Nat}{A:Around}(r:bR k A):A.units+66<cLine:=by have:=r.un;omega
theorem _root_.L2.bR.Mt{k:Nat}{A:Around}(r:bR k A):A.units+65<cLine:=by have:=r.un;omega
theorem AM(x:DW):∀r:L4,((r.map tD).any fun e=>PyData.eqv e (tD x))=r.contains x
 |[]=>rfl
 |y::r=>by
  rw[map_cons,any_cons,AM x r,um,List.contains_cons]
  congr 1
  exact Bool.eq_iff_iff.mpr (by rw[decide_eq_true_iff,beq_iff_eq];exact eq_comm)
theorem Dq:aq ["group","a","wanted"] ["group","a"] (af Fh):=.m
theorem Hk{f:Addr}{fd:FuncData}(F:bW K "number" "number" Fh f fd)(T:Tx mg)(TC:TG K C):aG P w K mg base bA 8 f fd ["group","a"] (kO K C pq pp 4):=by
 exists F.ok Dq
 ·obtain⟨as,r,pr,⟨G,a,rfl,_⟩,_⟩:=h;exact pr.length
 ·obtain⟨as,r,pr,⟨G,x,rfl,rfl⟩,tb,hl,k⟩:=h;obtain⟨_,_,rfl,⟨a,rfl,hG⟩,b,rfl,hx⟩:=sO pr;obtain⟨W,_,dx,fs,ha,hf⟩:=id hG;obtain⟨l,ts,e1,e2,e3⟩:=hf.names;have nd:=Dq.nd;have u5:=hr.un;refine⟨_,ag (aC (i:=2) nd rfl (Or.inl rfl) (bO fH rfl T.tup jB (aa (pv 1) ab)))
   (ag (bL (aX (wG hr.Mt) (pv 2) (cj (pv 0) rfl) rfl) (ah (ak (aT (aa (fW dW az) ab)))) aZ)
   (ah (ak (aT (aa (fb plainAttrs_list slot_list_index type_list_index (wK hr.Ms) (cj (pv 0) rfl) (aa (pv 2) ab)) ab))))),?_⟩
  refine⟨_,rfl,b,_,rfl,.inl ⟨hx,fun t ht=>?_⟩⟩;have s1:=aj.upd (o:=.tup (iv x)) ht;have e4:upd H t (.tup (iv x)) t=some (.tup (iv x)):=ae;generalize upd H t (.tup (iv x))=H1 at s1 e4;have hd:Dp K H1 (.ref t) (tD x):=.tup (gr.of (by rw[e4,bH]<;>rfl)) (gN _);have hD:iS K H1 (ts.map V.ref) (G.names.map tD):=vJ (e3.same s1);refine⟨_,rfl,_,rfl,a,C,dx,_,_,rfl,s1 _ _ ha,TC.cl,TC.nN,e1,tD x,_,hd,.lst (aH.of (s1 _ _ e2)) hD,oz x,lP _,_,rfl,?_⟩;rw[AM];refine c9 (fun c=>?_) (fun c=>?_)
  ·have c:¬G.names.contains x=true:=by simpa using c
   refine⟨_,rfl,tx,fun q hq=>?_⟩;rw[if_neg c]at k;exact k.same tb (s1.trans (aj.upd hq)) (by rw[ae];rfl)
  ·have c:G.names.contains x=true:=by simpa using c
   have cm:x∈G.names:=by simpa using c
   rw[if_pos c]at k;refine⟨_,rfl,a,C,dx,_,_,rfl,s1 _ _ ha,TC.cl,TC.nN,e1,.inl ⟨rfl,_,aH.of (s1 _ _ e2)⟩,_,rfl,l,_,_,tD x,_,G.names.idxOf x,tD x,rfl,rfl,aH.of (s1 _ _ e2),hD,hd,oz x,lP _,?_,?_,fun m e' hm he'=>?_,tx,fun q hq=>?_⟩
   ·rw[getElem?_map,Mg.iI cm];rfl
   ·rw[um];simp
   ·rw[getElem?_map]at he';cases ex:G.names[m]? with
    |none=>rw[ex]at he';cases he'
    |some y=>
     rw[ex]at he';obtain rfl:=Nc he';rw[um,decide_eq_false_iff_not];rintro rfl;have:=Mg.dI W.nd ex;omega
   ·exact k.same tb (s1.trans (aj.upd hq)) (by rw[ae];rfl)
end
abbrev Fj:Stmt:=top 60
abbrev Fn:Stmt:=top 61
abbrev Ff:Stmt:=top 62
abbrev Ft:Stmt:=top 63
abbrev E6:Stmt:=top 64
abbrev Fi:Stmt:=top 65
abbrev Fs:Stmt:=top 66
abbrev Fq:Stmt:=top 67
section
variable{P:Program}{w:World}{K:Frag}{mg:GmT}{base:Heap}{C pq pp:Addr}
theorem Jq:aq ["group","s"] ["group","s"] (af Fj):=.m
theorem Hm{f:Addr}{fd:FuncData}(F:bW K "made" "made" Fj f fd)(DC:ay P w K mg base "counted" 1 ["row"] (fS K))(DL:ay P w K mg base "least_subgroup" 2 ["group","members"] (j5 K C)):aG P w K mg base bA 8 f fd ["group","s"] (kO K C pq pp 10):=by
 obtain⟨f1,fd1,m1,k1,G1,b1⟩:=DC;obtain⟨f2,fd2,m2,k2,G2,b2⟩:=DL;exists F.ok Jq
 ·obtain⟨as,r,pr,⟨G,i,rfl,_⟩,_⟩:=h;exact pr.length
 ·obtain⟨as,r,pr,⟨G,x,rfl,hs,rfl⟩,tb,hl,k⟩:=h;obtain⟨_,_,rfl,⟨a,rfl,hG⟩,b,rfl,hx⟩:=sO pr;refine⟨_,ah (ak (aw G1 (hr.mono (by decide)) rfl m1 k1 b1 .nil au (aa (aw G2 (hr.mono (by decide)) rfl m2 k2 b2 .nil au (aa (pv 0) (aa (pv 1) ab))) ab))),?_⟩;refine⟨_,rfl,_,rfl,a,b,G,x,rfl,hG,hx,(Mg.aB.mp hs).2,fun H1 p s1 _ hp=>⟨p,_,rfl,.inl (aH.of hp),bE _ hl,fun H2 q s2 _ hq=>k.same tb (s1.trans s2) (by rw[hq,de])⟩⟩
theorem Jn:aq ["group","s"] ["group","s"] (af Ff):=.m
theorem Hi{f:Addr}{fd:FuncData}(F:bW K "normal" "normal" Ff f fd)(DC:ay P w K mg base "counted" 1 ["row"] (fS K))(DL:ay P w K mg base "least_normal" 4 ["group","members"] (qD K C)):aG P w K mg base bA 8 f fd ["group","s"] (kO K C pq pp 12):=by
 obtain⟨f1,fd1,m1,k1,G1,b1⟩:=DC;obtain⟨f2,fd2,m2,k2,G2,b2⟩:=DL;exists F.ok Jn
 ·obtain⟨as,r,pr,⟨G,i,rfl,_⟩,_⟩:=h;exact pr.length
 ·obtain⟨as,r,pr,⟨G,x,rfl,hs,rfl⟩,tb,hl,k⟩:=h;obtain⟨_,_,rfl,⟨a,rfl,hG⟩,b,rfl,hx⟩:=sO pr;refine⟨_,ah (ak (aw G1 (hr.mono (by decide)) rfl m1 k1 b1 .nil au (aa (aw G2 (hr.mono (by decide)) rfl m2 k2 b2 .nil au (aa (pv 0) (aa (pv 1) ab))) ab))),?_⟩;refine⟨_,rfl,_,rfl,a,b,G,x,rfl,hG,hx,(Mg.aB.mp hs).2,fun H1 p s1 _ hp=>⟨p,_,rfl,.inl (aH.of hp),bE _ hl,fun H2 q s2 _ hq=>k.same tb (s1.trans s2) (by rw[hq,de])⟩⟩
theorem Jv:aq ["group","s"] ["group","s"] (af Ft):=.m
theorem Hv{f:Addr}{fd:FuncData}(F:bW K "central" "central" Ft f fd)(DC:ay P w K mg base "counted" 1 ["row"] (fS K))(DL:ay P w K mg base "commuting" 3 ["group","members"] (yo K C)):aG P w K mg base bA 8 f fd ["group","s"] (kO K C pq pp 13):=by
 obtain⟨f1,fd1,m1,k1,G1,b1⟩:=DC;obtain⟨f2,fd2,m2,k2,G2,b2⟩:=DL;exists F.ok Jv
 ·obtain⟨as,r,pr,⟨G,i,rfl,_⟩,_⟩:=h;exact pr.length
 ·obtain⟨as,r,pr,⟨G,x,rfl,hs,rfl⟩,tb,hl,k⟩:=h;obtain⟨_,_,rfl,⟨a,rfl,hG⟩,b,rfl,hx⟩:=sO pr;have sl:=gC hG.wf hs;refine⟨_,ah (ak (aw G1 (hr.mono (by decide)) rfl m1 k1 b1 .nil au (aa (aw G2 (hr.mono (by decide)) rfl m2 k2 b2 .nil au (aa (pv 0) (aa (pv 1) ab))) ab))),?_⟩;refine⟨_,rfl,_,rfl,a,b,G,x,rfl,hG,hx,by omega,(Mg.aB.mp hs).2,fun H1 p s1 _ hp=>⟨p,_,rfl,.inl (aH.of hp),bE _ hl,fun H2 q s2 _ hq=>k.same tb (s1.trans s2) (by rw[hq,de])⟩⟩
theorem Jh:aq ["group","s"] ["group","s"] (af E6):=.m
theorem GX{f:Addr}{fd:FuncData}(F:bW K "stay" "stay" E6 f fd)(DC:ay P w K mg base "counted" 1 ["row"] (fS K))(DL:ay P w K mg base "keeping" 4 ["group","members"] (yc K C)):aG P w K mg base bA 8 f fd ["group","s"] (kO K C pq pp 14):=by
 obtain⟨f1,fd1,m1,k1,G1,b1⟩:=DC;obtain⟨f2,fd2,m2,k2,G2,b2⟩:=DL;exists F.ok Jh
 ·obtain⟨as,r,pr,⟨G,i,rfl,_⟩,_⟩:=h;exact pr.length
 ·obtain⟨as,r,pr,⟨G,x,rfl,hs,rfl⟩,tb,hl,k⟩:=h;obtain⟨_,_,rfl,⟨a,rfl,hG⟩,b,rfl,hx⟩:=sO pr;refine⟨_,ah (ak (aw G1 (hr.mono (by decide)) rfl m1 k1 b1 .nil au (aa (aw G2 (hr.mono (by decide)) rfl m2 k2 b2 .nil au (aa (pv 0) (aa (pv 1) ab))) ab))),?_⟩;refine⟨_,rfl,_,rfl,a,b,G,x,rfl,hG,hx,hs,fun H1 p s1 _ hp=>⟨p,_,rfl,.inl (aH.of hp),bE _ hl,fun H2 q s2 _ hq=>k.same tb (s1.trans s2) (by rw[hq,de])⟩⟩
theorem Jp:aq ["group","s","t"] ["group","s","t"] (af Fi):=.m
theorem Hl{f:Addr}{fd:FuncData}(F:bW K "mixed" "mixed" Fi f fd)(DC:ay P w K mg base "counted" 1 ["row"] (fS K))(DL:ay P w K mg base "mixed_of" 3 ["group","members","others"] (qC K C)):aG P w K mg base bA 8 f fd ["group","s","t"] (kO K C pq pp 15):=by
 obtain⟨f1,fd1,m1,k1,G1,b1⟩:=DC;obtain⟨f2,fd2,m2,k2,G2,b2⟩:=DL;exists F.ok Jp
 ·obtain⟨as,r,pr,⟨G,i,j,rfl,_⟩,_⟩:=h;exact pr.length
 ·obtain⟨as,r,pr,⟨G,x,y,rfl,hs,ht,rfl⟩,tb,hl,k⟩:=h;obtain⟨_,_,_,rfl,⟨a,rfl,hG⟩,⟨b,rfl,hx⟩,c,rfl,hy⟩:=Il pr;refine⟨_,ah (ak (aw G1 (hr.mono (by decide)) rfl m1 k1 b1 .nil au (aa (aw G2 (hr.mono (by decide)) rfl m2 k2 b2 .nil au (aa (pv 0) (aa (pv 1) (aa (pv 2) ab)))) ab))),?_⟩;refine⟨_,rfl,_,rfl,_,rfl,a,b,c,G,x,y,rfl,hG,hx,hy,(Mg.aB.mp hs).2,(Mg.aB.mp ht).2,fun H1 p s1 _ hp=>⟨p,_,rfl,.inl (aH.of hp),bE _ hl,fun H2 q s2 _ hq=>k.same tb (s1.trans s2) (by rw[hq,de])⟩⟩
theorem Jr:aq ["group","s"] ["group","s"] (af Fn):=.m
theorem Ho{f:Addr}{fd:FuncData}(F:bW K "kind" "kind" Fn f fd)(D1:ay P w K mg base "is_subgroup" 3 ["group","members"] (uT K C))(D2:ay P w K mg base "is_normal" 5 ["group","members"] (uS K C)):aG P w K mg base bA 8 f fd ["group","s"] (kO K C pq pp 11):=by
 obtain⟨f1,fd1,m1,k1,G1,b1⟩:=D1;obtain⟨f2,fd2,m2,k2,G2,b2⟩:=D2;exists F.ok Jr
 ·obtain⟨as,r,pr,⟨G,i,rfl,_⟩,_⟩:=h;exact pr.length
 ·obtain⟨as,r,pr,⟨G,x,rfl,hs,rfl⟩,tb,hl,k⟩:=h;obtain⟨_,_,rfl,⟨a,rfl,hG⟩,b,rfl,hx⟩:=sO pr;refine⟨_,ag (bL (fE (df (aw G1 (hr.mono (by decide)) rfl m1 k1 b1 .nil au (aa (pv 0) (aa (pv 1) ab))))) (ah (ak (aT (aa az ab)))) aZ)
   (ag (bL (fE (df (aw G2 (hr.mono (by decide)) rfl m2 k2 b2 .nil au (aa (pv 0) (aa (pv 1) ab))))) (ah (ak (aT (aa az ab)))) aZ)
   (ah (ak (aT (aa az ab))))),?_⟩
  refine⟨_,rfl,_,rfl,a,b,G,x,rfl,hG,hx,hs,fun H1 s1=>⟨_,rfl,?_⟩⟩;refine c9 (fun c=>?_) (fun c=>?_)
  ·have c:Vg02.isGroup G x=false:=by simpa using c
   rw[if_pos c]at k;exact⟨tx,fun q hq=>k.same tb (s1.trans (aj.upd hq)) (by rw[ae];rfl)⟩
  ·have c:¬Vg02.isGroup G x=false:=by simpa using c
   rw[if_neg c]at k;refine⟨_,rfl,_,rfl,a,b,G,x,rfl,hG.same s1,s1.seq hx,hs,fun H2 s2=>⟨_,rfl,?_⟩⟩;refine c9 (fun d=>?_) (fun d=>?_)
   ·have d:¬Vg02.isNormal G x=true:=by simpa using d
    rw[if_neg d]at k;exact⟨tx,fun q hq=>k.same tb ((s1.trans s2).trans (aj.upd hq)) (by rw[ae];rfl)⟩
   ·have d:Vg02.isNormal G x=true:=by simpa using d
    rw[if_pos d]at k;exact⟨tx,fun q hq=>k.same tb ((s1.trans s2).trans (aj.upd hq)) (by rw[ae];rfl)⟩
theorem lS(n:Nat)(l:DW):V.int (n:Nat)::iv l=(rp ⟨(n:Nat),l⟩).map V.int:=by
 unfold rp;rw[map_cons,bH]
theorem Ju:aq ["group"] ["group"] (af Fs):=.m
theorem Hu{f:Addr}{fd:FuncData}(F:bW K "classes" "classes" Fs f fd)(DC:ay P w K mg base "parts" 1 ["least"] uQ)(DL:ay P w K mg base "least_in_classes" 4 ["group"] (yb C)):aG P w K mg base bA 8 f fd ["group"] (kO K C pq pp 16):=by
 obtain⟨f1,fd1,m1,k1,G1,b1⟩:=DC;obtain⟨f2,fd2,m2,k2,G2,b2⟩:=DL;exists F.ok Ju
 ·obtain⟨as,r,pr,⟨G,rfl,_⟩,_⟩:=h;exact pr.length
 ·obtain⟨as,r,pr,⟨G,rfl,rfl⟩,tb,hl,k⟩:=h;obtain⟨_,rfl,a,rfl,hG⟩:=JC pr;have hle:=hG.wf.le;refine⟨_,ah (ak (aw G1 (hr.mono (by decide)) rfl m1 k1 b1 .nil au (aa (aw G2 (hr.mono (by decide)) rfl m2 k2 b2 .nil au (aa (pv 0) ab)) ab))),?_⟩;refine⟨_,rfl,a,G,rfl,hG,fun H1 p s1 _ hp=>⟨p,_,rfl,hp,?_,fun H2 q s2 _ hq=>k.same tb (s1.trans s2) (by rw[hq,lS])⟩⟩;simp[classes,Group.all];omega
theorem Jt:aq ["group","s"] ["group","s"] (af Fq):=.m
theorem Ht{f:Addr}{fd:FuncData}(F:bW K "cosets" "cosets" Fq f fd)(D1:ay P w K mg base "is_subgroup" 3 ["group","members"] (uT K C))(DC:ay P w K mg base "parts" 1 ["least"] uQ)(DL:ay P w K mg base "least_in_cosets" 2 ["group","subgroup"] (uR K C)):
  aG P w K mg base bA 8 f fd ["group","s"] (kO K C pq pp 17):=by
 obtain⟨f0,fd0,m0,k0,G0,b0⟩:=D1;obtain⟨f1,fd1,m1,k1,G1,b1⟩:=DC;obtain⟨f2,fd2,m2,k2,G2,b2⟩:=DL;exists F.ok Jt
 ·obtain⟨as,r,pr,⟨G,i,rfl,_⟩,_⟩:=h;exact pr.length
 ·obtain⟨as,r,pr,⟨G,x,rfl,hs,rfl⟩,tb,hl,k⟩:=h;obtain⟨_,_,rfl,⟨a,rfl,hG⟩,b,rfl,hx⟩:=sO pr;have hle:=hG.wf.le;have sl:=gC hG.wf hs;refine⟨_,ag (bL (fE (df (aw G0 (hr.mono (by decide)) rfl m0 k0 b0 .nil au (aa (pv 0) (aa (pv 1) ab))))) (ah (ak (aT (aa (fW dW az) ab)))) aZ)
   (ah (ak (aw G1 (hr.mono (by decide)) rfl m1 k1 b1 .nil au (aa (aw G2 (hr.mono (by decide)) rfl m2 k2 b2 .nil au (aa (pv 0) (aa (pv 1) ab))) ab)))),?_⟩
  refine⟨_,rfl,_,rfl,a,b,G,x,rfl,hG,hx,hs,fun H1 s1=>⟨_,rfl,?_⟩⟩;refine c9 (fun c=>?_) (fun c=>?_)
  ·have c:¬Vg02.isGroup G x=true:=by simpa using c
   rw[if_neg c]at k;exact⟨_,rfl,tx,fun q hq=>k.same tb (s1.trans (aj.upd hq)) (by rw[ae];rfl)⟩
  ·have c:Vg02.isGroup G x=true:=by simpa using c
   rw[if_pos c]at k;refine⟨_,rfl,_,rfl,a,b,G,x,rfl,hG.same s1,s1.seq hx,(Mg.iq hG.wf (Mg.aB.mp hs).2).mp c,sl,fun H2 p s2 _ hp=>⟨p,_,rfl,hp,?_,fun H3 q s3 _ hq=>k.same tb ((s1.trans s2).trans s3) (by rw[hq,lS])⟩⟩;simp[Vg02.cosets,Group.all];omega
end
abbrev Bx:Stmt:=top 68
abbrev Fd:Stmt:=top 69
abbrev E9:Stmt:=top 70
abbrev E8:Stmt:=top 71
abbrev Fb:Stmt:=top 72
abbrev yF:Stmt:=top 73
section
variable{P:Program}{w:World}{K:Frag}{mg:GmT}{base:Heap}{C pq pp:Addr}
theorem Dl:aq ["group","h","subgroup"] ["group","h"] (af Bx):=.m
theorem Hb{f:Addr}{fd:FuncData}(F:bW K "series" "series" Bx f fd)(T:Tx mg)(DC:ay P w K mg base "counted" 1 ["row"] (fS K))(DL:ay P w K mg base "row_of_mixed" 4 ["group","lower"] (xS C)):aG P w K mg base bA 8 f fd ["group","h"] (kO K C pq pp 18):=by
 obtain⟨f1,fd1,m1,k1,G1,b1⟩:=DC;obtain⟨f2,fd2,m2,k2,G2,b2⟩:=DL;exists F.ok Dl
 ·obtain⟨as,r,pr,⟨G,i,rfl,_⟩,_⟩:=h;exact pr.length
 ·obtain⟨as,r,pr,⟨G,n,rfl,rfl⟩,tb,hl,k⟩:=h;obtain⟨_,_,rfl,⟨a,rfl,hG⟩,rfl⟩:=sO pr;have nd:=Dl.nd;refine⟨_,ah (ak (aw G1 (hr.mono (by decide)) rfl m1 k1 b1 .nil au (aa
   (dm (own:=[("subgroup",2)]) rfl nd (bM (aw G2 (hr.mono (by decide)) rfl m2 k2 b2 .nil au (aa (pv 0) (aa (cV qX (pv 1) az (aW _)) ab)))) (bf (N:=["group","h","subgroup"]) (sc:=af Bx) (by decide +kernel))
    (fun _ _ _ _ _=>aJ (i:=2) nd rfl (Or.inl rfl)) (fun _ _ _ _ _=>bV) (fun _ _ _ _ _=>aS (r:=fun xs H Q=>∃p ys,xs=[.ref p]/\(aH K H p ys\/gr K H p ys)/\Q (.int ys.length) H) aM rfl T.len PySem.boot_len (aa (pv 2) ab))) ab))),?_⟩
  have el:(!decide (V.int (n:Nat)=V.int 0))=(n != 0):=by
   refine Bool.eq_iff_iff.mpr ?_;simp
  refine⟨_,rfl,_,rfl,rfl,a,G,_,rfl,hG,fun H1 q ts rows s1 _ hq hts er lr=>⟨q,rfl,⟨_,aH.of hq⟩,fun D hD=>?_⟩⟩;rw[el]at er;refine dH (K:=K) (xs:=ts.map V.ref) (gu H1 D fun t=>(iv (rows.map length)).take t) (gu.start hD rfl) (fun t H' _ p=>aH.of (p.1 _ _ hq)) (fun t v H' hv p=>?_) (fun H' p=>?_)
  ·obtain⟨tr,x,etr,rfl,hx,htr⟩:=BA hts hv;refine⟨rfl,_,rfl,tr,_,rfl,.inl (aH.of (p.1 _ _ htr)),?_⟩;refine p.push hD (aj.refl _) ?_ (fQ ?_)
   ·rw[length_take,sizeLine_eq];simp;omega
   ·rw[getElem?_map,getElem?_map,hx];simp
  ·have e:=p.done (by rw[length_map,length_map,length_map,hts.length];exact le_refl _);rw[er]at e;exact⟨D,_,rfl,.inl (aH.of e),bE _ hl,fun H2 p2 s2 _ hp2=>k.same tb ((s1.trans p.1).trans s2) (by rw[hp2,de])⟩
theorem Jl:aq ["group","p"] ["group","p"] (af Fd):=.m
theorem Hf{f:Addr}{fd:FuncData}(F:bW K "prime" "prime" Fd f fd)(T3:LY mg)(D1:ay P w K mg base "is_prime" 1 ["p"] xW)(DC:ay P w K mg base "counted" 1 ["row"] (fS K))(DL:ay P w K mg base "prime_subgroup" 4 ["group","p"] (xV C)):
  aG P w K mg base bA 8 f fd ["group","p"] (kO K C pq pp 19):=by
 obtain⟨f0,fd0,m0,k0,G0,b0⟩:=D1;obtain⟨f1,fd1,m1,k1,G1,b1⟩:=DC;obtain⟨f2,fd2,m2,k2,G2,b2⟩:=DL;obtain⟨tm,mm⟩:=T3.most;exists F.ok Jl
 ·obtain⟨as,r,pr,⟨G,i,rfl,_⟩,_⟩:=h;exact pr.length
 ·obtain⟨as,r,pr,⟨G,n,rfl,rfl⟩,tb,hl,k⟩:=h;obtain⟨_,_,rfl,⟨a,rfl,hG⟩,rfl⟩:=sO pr;refine⟨_,ag (bL (PW.pt (yW (aX ve (pv 1) (cN (v:=.int 60) rfl mm ⟨tm,rfl⟩) (aW _)) (tN (fE (df (aw G0 (hr.mono (by decide)) rfl m0 k0 b0 .nil au (aa (pv 1) ab)))))))
    (ah (ak (aT (aa (fW dW az) ab)))) aZ)
   (ah (ak (aw G1 (hr.mono (by decide)) rfl m1 k1 b1 .nil au (aa (aw G2 (hr.mono (by decide)) rfl m2 k2 b2 .nil au (aa (pv 0) (aa (pv 1) ab))) ab)))),?_⟩
  refine⟨_,rfl,_,_,rfl,rfl,_,rfl,?_⟩;refine c9 (fun c=>?_) (fun c=>?_)
  ·have c:Vg01.MOST<=n:=by
    have:(60:Int)<=(n:Int):=by simpa using c
    show 60<=n;omega
   rw[if_pos c]at k;exact⟨_,rfl,tx,fun q hq=>k.same tb (aj.upd hq) (by rw[ae];rfl)⟩
  ·have c:¬Vg01.MOST<=n:=by
    have:¬(60:Int)<=(n:Int):=by simpa using c
    show¬60<=n;omega
   rw[if_neg c]at k;have c60:n<60:=by
    have:¬60<=n:=c;omega
   refine⟨_,rfl,n,rfl,c60,fun H1 s1=>⟨_,rfl,?_⟩⟩;refine c9 (fun d=>?_) (fun d=>?_)
   ·have d:¬Vg02.isPrime n=true:=by simpa using d
    rw[if_neg d]at k;exact⟨_,rfl,tx,fun q hq=>k.same tb (s1.trans (aj.upd hq)) (by rw[ae];rfl)⟩
   ·have d:Vg02.isPrime n=true:=by simpa using d
    rw[if_pos d]at k;rw[if_neg c,if_pos d]at hl;refine⟨_,rfl,_,rfl,a,G,n,rfl,hG.same s1,d,c60,fun H2 p s2 hp=>⟨p,_,rfl,.inl (aH.of hp),bE _ hl,fun H3 q s3 _ hq=>k.same tb ((s1.trans s2).trans s3) (by rw[hq,de])⟩⟩
theorem Jj:aq ["group"] ["group"] (af E9):=.m
theorem Ha{f:Addr}{fd:FuncData}(F:bW K "shape" "shape" E9 f fd)(DC:ay P w K mg base "counted" 1 ["row"] (fS K))(DL:ay P w K mg base "shape_of" 6 ["group"] (xQ C pq pp)):aG P w K mg base bA 8 f fd ["group"] (kO K C pq pp 20):=by
 obtain⟨f1,fd1,m1,k1,G1,b1⟩:=DC;obtain⟨f2,fd2,m2,k2,G2,b2⟩:=DL;exists F.ok Jj
 ·obtain⟨as,r,pr,⟨G,rfl,_⟩,_⟩:=h;exact pr.length
 ·obtain⟨as,r,pr,⟨G,rfl,rfl⟩,tb,hl,k⟩:=h;obtain⟨_,rfl,a,rfl,hG⟩:=JC pr;refine⟨_,ah (ak (aw G1 (hr.mono (by decide)) rfl m1 k1 b1 .nil au (aa (aw G2 (hr.mono (by decide)) rfl m2 k2 b2 .nil au (aa (pv 0) ab)) ab))),?_⟩;refine⟨_,rfl,a,G,rfl,hG,tb,fun H1 p kp tb1 _ hp=>⟨p,_,rfl,.inl (aH.of hp),bE _ hl,fun H2 q s2 _ hq=>k H2 q (kp.trans (Kp.of s2)) (tb1.same s2) (by rw[hq,de])⟩⟩
theorem Ji:aq ["group"] ["group"] (af E8):=.m
theorem GZ{f:Addr}{fd:FuncData}(F:bW K "simple" "simple" E8 f fd)(DL:ay P w K mg base "is_simple" 5 ["group"] (xP C)):aG P w K mg base bA 8 f fd ["group"] (kO K C pq pp 21):=by
 obtain⟨f2,fd2,m2,k2,G2,b2⟩:=DL;exists F.ok Ji
 ·obtain⟨as,r,pr,⟨G,rfl,_⟩,_⟩:=h;exact pr.length
 ·obtain⟨as,r,pr,⟨G,rfl,rfl⟩,tb,hl,k⟩:=h;obtain⟨_,rfl,a,rfl,hG⟩:=JC pr;refine⟨_,ah (ak (aT (aa (hJ (df (aw G2 (hr.mono (by decide)) rfl m2 k2 b2 .nil au (aa (pv 0) ab))) az az) ab))),?_⟩;refine⟨_,rfl,a,G,rfl,hG,fun H1 s1=>⟨_,rfl,?_⟩⟩;refine c9 (fun c=>?_) (fun c=>?_)
  ·rw[if_pos c]at k;exact⟨tx,fun q hq=>k.same tb (s1.trans (aj.upd hq)) (by rw[ae];rfl)⟩
  ·rw[if_neg c]at k;exact⟨tx,fun q hq=>k.same tb (s1.trans (aj.upd hq)) (by rw[ae];rfl)⟩
theorem Dm:aq ["group","other","row"] ["group","other"] (af Fb):=.m
theorem Hc{f:Addr}{fd:FuncData}(F:bW K "same" "same" Fb f fd)(D1:ay P w K mg base "too_many_choices" 2 ["group","other"] (uN C))(D2:ay P w K mg base "first_same" 4 ["group","other"] (yg C)):aG P w K mg base bA 8 f fd ["group","other"] (kO K C pq pp 24):=by
 obtain⟨f1,fd1,m1,k1,G1,b1⟩:=D1;obtain⟨f2,fd2,m2,k2,G2,b2⟩:=D2;exists F.ok Dm
 ·obtain⟨as,r,pr,⟨G,U,rfl,_⟩,_⟩:=h;exact pr.length
 ·obtain⟨as,r,pr,⟨G,U,rfl,rfl⟩,tb,hl,k⟩:=h;obtain⟨_,_,rfl,⟨a,rfl,hG⟩,b,rfl,hU⟩:=sO pr;have nd:=Dm.nd;refine⟨_,ag (bL (df (aw G1 (hr.mono (by decide)) rfl m1 k1 b1 .nil au (aa (pv 0) (aa (pv 1) ab)))) (ah (ak (aT (aa (fW dW az) ab)))) aZ)
   (ag (aC (i:=2) nd rfl (Or.inl rfl) (aw G2 (hr.mono (by decide)) rfl m2 k2 b2 .nil au (aa (pv 0) (aa (pv 1) ab))))
   (ah (ak (hJ (aX mj (pv 2) c7 (aW _)) (aT (aa az ab)) (cI iY (aT (aa az ab)) (pv 2)))))),?_⟩
  refine⟨_,rfl,_,rfl,a,b,G,U,rfl,hG,hU,_,rfl,?_⟩;refine c9 (fun c=>?_) (fun c=>?_)
  ·rw[if_pos c]at k;exact⟨_,rfl,tx,fun q hq=>k.same tb (aj.upd hq) (by rw[ae];rfl)⟩
  ·rw[if_neg c]at k;refine⟨_,rfl,_,rfl,a,b,G,U,rfl,hG,hU,by simpa using c,fun en H1 s1=>?_,fun m em H1 p s1 hp lm=>?_⟩
   ·rw[en]at k;exact⟨_,rfl,rfl,_,rfl,tx,fun q hq=>k.same tb (s1.trans (aj.upd hq)) (by rw[ae];rfl)⟩
   ·rw[em]at k;refine⟨_,rfl,rfl,_,rfl,tx,fun q hq=>?_⟩;have s2:=aj.upd (o:=.lst [V.int 1]) hq;refine⟨_,rfl,q,p,_,_,rfl,rfl,ae,s2 _ _ hp,by rw[sizeLine_eq];simp;omega,fun t ht=>k.same tb ((s1.trans s2).trans (aj.upd ht)) ?_⟩;rw[ae];show some (HO.lst ([V.int 1]++iv m))=some (HO.lst ((rp ⟨((1:Nat):Int),m⟩).map V.int));rw[<-lS];rfl
theorem Ew:aq ["group","other"] ["group","other"] (af yF):=.m
theorem B3{f:Addr}{fd:FuncData}(F:bW K "maps" "maps" yF f fd)(T:Tx mg)(D1:ay P w K mg base "too_many_choices" 2 ["group","other"] (uN C))(D2:ay P w K mg base "all_maps" 3 ["group","other"] (uV C)):aG P w K mg base bA 8 f fd ["group","other"] (kO K C pq pp 25):=by
 obtain⟨f1,fd1,m1,k1,G1,b1⟩:=D1;obtain⟨f2,fd2,m2,k2,G2,b2⟩:=D2;exists F.ok Ew
 ·obtain⟨as,r,pr,⟨G,U,rfl,_⟩,_⟩:=h;exact pr.length
 ·obtain⟨as,r,pr,⟨G,U,rfl,rfl⟩,tb,hl,k⟩:=h;obtain⟨_,_,rfl,⟨a,rfl,hG⟩,b,rfl,hU⟩:=sO pr;refine⟨_,ag (bL (df (aw G1 (hr.mono (by decide)) rfl m1 k1 b1 .nil au (aa (pv 0) (aa (pv 1) ab)))) (ah (ak (aT (aa (fW dW az) ab)))) aZ)
   (ah (ak (aT (aa (aS aM rfl T.len PySem.boot_len (aa (aw G2 (hr.mono (by decide)) rfl m2 k2 b2 .nil au (aa (pv 0) (aa (pv 1) ab))) ab)) ab)))),?_⟩
  refine⟨_,rfl,_,rfl,a,b,G,U,rfl,hG,hU,_,rfl,?_⟩;refine c9 (fun c=>?_) (fun c=>?_)
  ·rw[if_pos c]at k;exact⟨_,rfl,tx,fun q hq=>k.same tb (aj.upd hq) (by rw[ae];rfl)⟩
  ·rw[if_neg c]at k;refine⟨_,rfl,_,rfl,a,b,G,U,rfl,hG,hU,by simpa using c,fun H1 p ts s1 hp hts _=>⟨p,_,rfl,.inl (aH.of hp),tx,fun q hq=>k.same tb (s1.trans (aj.upd hq)) ?_⟩⟩;rw[ae,length_map,hts.length];rfl
end
abbrev ED:Stmt:=top 76
abbrev EM:Stmt:=top 77
abbrev EI:Stmt:=top 78
abbrev EF:Stmt:=top 79
def j2(C:Addr)(H:Hp)(v:V):Option Group->Prop
 |none=>v=.cu
 |some G=>∃a,v=.ref a/\dQ C H a G
structure n6(C:Addr)(H:Hp)(pl:Addr)(st:Vg03.State):Prop where
 three:st.length=3
 at_:∃vs,H pl=some (.lst vs)/\Paired (j2 C H) vs st
structure Kx(pl:Addr)(H H':Hp):Prop where
 keep:∀b o,H b=some o->b≠pl->(∀ps,o≠.eL ps)->H' b=some o
 there:∀b o,H b=some o->∃o',H' b=some o'
theorem Kx.of{pl:Addr}{H H':Hp}(k:Kp H H'):Kx pl H H':=⟨fun b o e _ n=>k.keep b o e n,fun b o e=>by
 by_cases t:∃ps,o=.eL ps
 ·obtain⟨ps,rfl⟩:=t
  obtain⟨ps',e'⟩:=k.tab _ _ e
  exact⟨_,e'⟩
 ·exact⟨o,k.keep b o e fun ps z=>t ⟨ps,z⟩⟩⟩
theorem Kx.trans{pl:Addr}{H H1 H2:Hp}(a:Kx pl H H1)(b:Kx pl H1 H2):Kx pl H H2:=⟨fun c o e n t=>b.keep c o (a.keep c o e n t) n t,fun c o e=>let⟨o',e'⟩:=a.there c o e;b.there c o' e'⟩
theorem Kx.upd{pl:Addr}{H:Hp}{o:HO}(h:H pl≠none):Kx pl H (upd H pl o):=⟨fun b u e n _=>by rw[ao n];exact e,fun b u e=>by
 by_cases q:b=pl
 ·subst q;exact⟨_,ae⟩
 ·exact⟨u,by rw[ao q];exact e⟩⟩
theorem Paired.imp{α β:Type}{F G:α->β->Prop}{l:List α}{m:List β}(h:Paired F l m)(k:∀a b,F a b->G a b):Paired G l m:=Paired.js h k
theorem j2.kp{C:Addr}{H H':Hp}(k:Kp H H'){v:V}:∀{o:Option Group},j2 C H v o->j2 C H' v o
 |none,h=>h
 |some G,⟨a,e,h⟩=>⟨a,e,k.g h⟩
theorem n6.kp{C:Addr}{H H':Hp}{pl:Addr}{st:Vg03.State}(h:n6 C H pl st)(k:Kp H H'):n6 C H' pl st:=by
 obtain⟨t,vs,e,p⟩:=h;exact⟨t,vs,k.lst e,Paired.imp p fun _ _ q=>j2.kp k q⟩
theorem n6.same{C:Addr}{H H':Hp}{pl:Addr}{st:Vg03.State}(h:n6 C H pl st)(s:aj H H'):n6 C H' pl st:=h.kp (Kp.of s)
def Ij(H:Hp)(pl:Addr):Prop:=∃v vs,H pl=some (.lst (v::vs))/\(v=.cu\/∃b C dx fs,v=.ref b/\H b=some (.ins C dx fs))
theorem Ij.ints{H:Hp}{pl t:Addr}(h:Ij H pl){x:DW}(e:H t=some (.lst (iv x))):t≠pl:=fun z=>by
 obtain⟨v,vs,h1,h2⟩:=h
 rw[z,h1]at e
 have e:=HO.lst.inj (Nc e)
 cases x with
 |nil=>cases e
 |cons a x=>
  have e1:=(List.cons.inj e).1
  rcases h2 with q|⟨b,_,_,_,q,_⟩
  ·rw[q]at e1;cases e1
  ·rw[q]at e1;cases e1
theorem Ij.refs{H:Hp}{pl t:Addr}(h:Ij H pl){ts:List Addr}(e:H t=some (.lst (ts.map V.ref)))(no:∀b∈ts,∀C dx fs,H b≠some (.ins C dx fs)):t≠pl:=fun z=>by
 obtain⟨v,vs,h1,h2⟩:=h
 rw[z,h1]at e
 have e:=HO.lst.inj (Nc e)
 cases ts with
 |nil=>cases e
 |cons a x=>
  have e1:=(List.cons.inj e).1
  rcases h2 with q|⟨b,_,_,_,q,q2⟩
  ·rw[q]at e1;cases e1
  ·rw[q]at e1
   cases e1
   exact no _ mem_cons_self _ _ _ q2
theorem hW{α β:Type}{F:α->β->Prop}:∀{l:List α}{m:List β},Paired F l m->∀a∈l,∃b,F a b
 |_,_,.cons h t,a,hm=>by
  rcases Nf hm with q|q
  ·subst q;exact⟨_,h⟩
  ·exact hW t a q
theorem GF.put{H:Hp}{fs:List (Str×V)}{G:Group}{pl:Addr}{o:HO}(h:GF H fs G)(n:Ij H pl):GF (upd H pl o) fs G:=by
 obtain⟨⟨l1,t1,a1,b1,c1⟩,⟨l2,t2,a2,b2,c2⟩,⟨l3,t3,a3,b3,c3⟩,⟨l5,a5,b5⟩,⟨l4,a4,b4⟩,nm⟩:=h;have tp:a9 (upd H pl o) t1 G.names:=Paired.imp c1 fun t x e=>by
  obtain⟨v,vs,h1,_⟩:=n;rw[ao (bw e h1 (by intro z;cases z))];exact e
 have rw2:∀{ts:List Addr}{r:L4},aQ H ts r->aQ (upd H pl o) ts r:=fun h=>Paired.imp h fun t x e=>by rw[ao (n.ints e)];exact e
 have nr:∀{ts:List Addr}{r:L4},aQ H ts r->∀b∈ts,∀C dx fs,H b≠some (.ins C dx fs):=fun h b hb C dx fs z=>by
  obtain⟨x,e⟩:=hW h b hb;rw[e]at z;cases z
 have nt:∀b∈t1,∀C dx fs,H b≠some (.ins C dx fs):=fun b hb C dx fs z=>by
  obtain⟨x,e⟩:=hW c1 b hb;rw[e]at z;cases z
 exact⟨⟨l1,t1,a1,by rw[ao (n.refs b1 nt)];exact b1,tp⟩,⟨l2,t2,a2,by rw[ao (n.refs b2 (nr c2))];exact b2,rw2 c2⟩,⟨l3,t3,a3,by rw[ao (n.refs b3 (nr c3))];exact b3,rw2 c3⟩,⟨l5,a5,by rw[ao (n.ints b5)];exact b5⟩,⟨l4,a4,by rw[ao (n.ints b4)];exact b4⟩,nm⟩
theorem dQ.put{C:Addr}{H:Hp}{a:Addr}{G:Group}{pl:Addr}{o:HO}(h:dQ C H a G)(n:Ij H pl):dQ C (upd H pl o) a G:=by
 obtain⟨w,u,dx,fs,e,f⟩:=h;have np:a≠pl:=by
  obtain⟨v,vs,h1,_⟩:=n;exact bw e h1 (by intro z;cases z)
 exact⟨w,u,dx,fs,by rw[ao np];exact e,f.put n⟩
theorem qW{α β:Type}{F:α->β->Prop}:∀{l:List α}{m:List β},Paired F l m->0<m.length->∃v vs o os,l=v::vs/\m=o::os/\F v o
 |_,_,.cons h _,_=>⟨_,_,_,_,rfl,rfl,h⟩
theorem n6.MZ{C:Addr}{H:Hp}{pl:Addr}{st:Vg03.State}(h:n6 C H pl st):Ij H pl:=by
 obtain⟨t,vs,e,p⟩:=h;obtain⟨v,vs',o,os,rfl,rfl,a⟩:=qW p (by omega);refine⟨v,vs',e,?_⟩;cases o with
 |none=>exact .inl a
 |some G=>
  obtain⟨c,ec,W,_,dx,fs,q,_⟩:=a;exact .inr ⟨c,C,dx,fs,ec,q⟩
theorem mf{α β:Type}{F:α->β->Prop}:∀{l:List α}{m:List β},Paired F l m->∀(i:Nat){x:α}{y:β},F x y->Paired F (l.set i x) (m.set i y)
 |_,_,.nil,_,_,_,_=>.nil
 |_,_,.cons a b,0,_,_,h=>.cons h b
 |_,_,.cons a b,i+1,_,_,h=>.cons a (mf b i h)
section
variable{P:Program}{w:World}{K:Frag}{mg:GmT}{base:Heap}{C pq pp:Addr}
def DV(C pq pp pl:Addr)(H:Hp)(st:Vg03.State)(r:List Int)(Q:VK):Prop:=∀(H':Hp)(p:Addr),Kx pl H H'->Tb pq pp H'->n6 C H' pl st->H' p=some (.lst (r.map V.int))->Q (.ref p) H'
def qA(C pq pp:Addr):Sp:=fun vs H Q _=>∃(pl p:Addr)(d:Nat)(st:Vg03.State)(G:Group),vs=[.ref pl,.int d,.ref p]/\n6 C H pl st/\d<3/\dQ C H p G/\Tb pq pp H/\DV C pq pp pl H (st.set d (some G)) (rp (Vg03.says (G.size:Nat))) Q
theorem IQ:aq ["places","d","group"] ["places","d","group"] (af ED):=.m
theorem F5{f:Addr}{fd:FuncData}(F:bW K "put" "put" ED f fd)(TC:TG K C)(MS:aK P w K mg base C "size" 1 ["self"] (cC C)):aG P w K mg base bA 2 f fd ["places","d","group"] (qA C pq pp):=by
 obtain⟨fz,fdz,mz,Gz,bz⟩:=MS;exists F.ok IQ
 ·obtain⟨pl,p,d,st,G,rfl,_⟩:=h;rfl
 ·obtain⟨pl,p,d,st,G,rfl,hP,hd,hG,tb,k⟩:=h;obtain⟨t3,vs,ev,pv'⟩:=id hP;have lv:vs.length=3:=by rw[pv'.length,t3]
  refine⟨_,ag (tQ (pv 2) (tT (pv 0) (pv 1) set_list)) (ah (ak (aT (aa (aU (pv 2) TC.cl mz Gz (hr.mono (by decide)) bz .nil au) ab)))),?_⟩;refine⟨_,rfl,_,rfl,_,rfl,pl,_,_,d,rfl,rfl,ev,(by unfold Aa;rw[if_pos (by omega),if_pos (by omega)];simp),?_⟩;have n:=hP.MZ;have hG1:dQ C (upd H pl (.lst (vs.set d (.ref p)))) p G:=hG.put n;have tb1:Tb pq pp (upd H pl (.lst (vs.set d (.ref p)))):=tb.put ev (by intro ps z;cases z) (by intro φ z;cases z);have hP1:n6 C (upd H pl (.lst (vs.set d (.ref p)))) pl (st.set d (some G)):=by
   refine⟨by rw[length_set];exact t3,_,ae,mf (Paired.imp pv' fun v o q=>?_) d ⟨p,rfl,hG1⟩⟩;cases o with
   |none=>exact q
   |some U=>obtain⟨a,e,q⟩:=q;exact⟨a,e,q.put n⟩
  have kx1:Kx pl H (upd H pl (.lst (vs.set d (.ref p)))):=Kx.upd (by rw[ev];simp);generalize upd H pl (.lst (vs.set d (.ref p)))=H1 at hG1 tb1 hP1 kx1;obtain⟨W,_,dx,fs,ha,hf⟩:=id hG1;refine⟨_,rfl,p,dx,_,rfl,ha,hf.fK "size" (by simp),p,G,rfl,hG1,tx,fun q hq=>?_⟩;have s2:=aj.upd (o:=.lst [V.int (G.size:Nat)]) hq;exact k _ q (kx1.trans (Kx.of (Kp.of s2))) (tb1.same s2) (hP1.same s2) (by rw[ae];rfl)
open Vg03 (says)in
def AU:Nat->Vg03.State->List Arg->Vg03.State×Reply->Prop
 |1,st,as,y=>∃d n l,as=[.num d,.num n,.row l]/\d<3/\l.length<=60/\y=Vg03.step st (.make d n l)
 |22,st,as,y=>∃d G s,as=[.num d,.cb G,.row s]/\d<3/\Vg02.isSet G s=true/\y=if Vg02.isNormal G s=false then(st,says (-2))else Vg03.put st d (Vg02.over G s) (-3)
 |23,st,as,y=>∃d G U,as=[.num d,.cb G,.cb U]/\d<3/\y=Vg03.put st d (Vg02.pairs G U) (-3)
 |_,_,_,_=>False
def Kt(K:Frag)(C pq pp:Addr)(c:Nat):Sp:=fun vs H Q _=>∃pl us st as y,vs=.ref pl::us/\Paired (kr K C H) us as/\n6 C H pl st/\AU c st as y/\Tb pq pp H/\DV C pq pp pl H y.1 (rp y.2) Q
theorem DV.stay{pl p:Addr}{H H':Hp}{st:Vg03.State}{r:List Int}{Q:VK}(k:DV C pq pp pl H st r Q)(tb:Tb pq pp H)(hP:n6 C H pl st)(s:aj H H')(e:H' p=some (.lst (r.map V.int))):Q (.ref p) H':=k H' p (Kx.of (Kp.of s)) (tb.same s) (hP.same s) e
theorem DV.on{pl:Addr}{H H':Hp}{st:Vg03.State}{r:List Int}{Q:VK}(k:DV C pq pp pl H st r Q)(x:Kx pl H H'):DV C pq pp pl H' st r Q:=fun H2 p kx tb hP e=>k H2 p (x.trans kx) tb hP e
theorem wQ{st:Vg03.State}{d n:Nat}{l:DW}(h:parts n l=none):Vg03.step st (.make d n l)=(st,Vg03.says (-1)):=by
 show(if 3<=d\/n=0\/6<n then(st,Vg03.says (-1))else match Vg01.shuffles n l with
  |none=>(st,Vg03.says (-1))
  |some l=>Vg03.put st d (ofShuffles n l) (-3))=_
 by_cases c:3<=d\/n=0\/6<n
 ·rw[if_pos c]
 ·rw[if_neg c];unfold parts at h;rw[if_neg (fun z=>c (.inr z))]at h;rw[h]
theorem wO{st:Vg03.State}{d n:Nat}{l:DW}{r:L4}(hd:d<3)(h:parts n l=some r):Vg03.step st (.make d n l)=Vg03.put st d (ofShuffles n r) (-3):=by
 show(if 3<=d\/n=0\/6<n then(st,Vg03.says (-1))else match Vg01.shuffles n l with
  |none=>(st,Vg03.says (-1))
  |some l=>Vg03.put st d (ofShuffles n l) (-3))=_
 unfold parts at h;by_cases c:n=0\/6<n
 ·rw[if_pos c]at h;cases h
 ·rw[if_neg c]at h;rw[if_neg (fun z=>z.elim (by omega) c),h]
abbrev Lu:List Str:=["places","d","n","g","generators","group"]
theorem C7:aq Lu ["places","d","n","g"] (af EM):=.m
theorem Gk{f ft:Addr}{fd fdt:FuncData}(F:bW K "make" "make" EM f fd)(T:Tx mg)(D1:ay P w K mg base "parted" 2 ["n","numbers"] (xY K))(D2:ay P w K mg base "generated" 4 ["one","generators","product"] (oy P w K mg C base))(D3:ay P w K mg base "unmoved" 1 ["n"] xM)(D4:ay P w K mg base "put" 2 ["places","d","group"] (qA C pq pp))(FT:bW K "first_then" "first_then" yE ft fdt)(mt:mg "first_then"=some (.ref ft))(bt:Binds K fdt ["first","second"] []):aG P w K mg base bA 8 f fd ["places","d","n","g"] (Kt K C pq pp 1):=by
 obtain⟨f1,fd1,m1,k1,G1,b1⟩:=D1;obtain⟨f2,fd2,m2,k2,G2,b2⟩:=D2;obtain⟨f3,fd3,m3,k3,G3,b3⟩:=D3;obtain⟨f4,fd4,m4,k4,G4,b4⟩:=D4;have FF:aG P w K mg base bA 1 ft fdt ["first","second"] yf:=zt FT T;exists F.ok C7
 ·obtain⟨pl,us,st,as,y,rfl,pr,_,⟨d,n,l,rfl,_⟩,_⟩:=h;have:=pr.length;simp at this ⊢;omega
 ·obtain⟨pl,us,st,as,y,rfl,pr,hP,⟨d,n,l,rfl,hd,hl,rfl⟩,tb,k⟩:=h;obtain⟨_,_,_,rfl,rfl,rfl,g,rfl,hg⟩:=Il pr;have nd:=C7.nd;refine⟨_,ag (aC (i:=4) nd rfl (Or.inl rfl) (aw G1 (hr.mono (by decide)) rfl m1 k1 b1 .nil au (aa (pv 2) (aa (pv 3) ab))))
   (ag (bL (aX mj (pv 4) c7 (aW _)) (ah (ak (aT (aa (fW dW az) ab)))) aZ)
   (ag (aC (i:=5) nd rfl (Or.inl rfl) (aw G2 (hr.mono (by decide)) rfl m2 k2 b2 .nil au (aa (aw G3 (hr.mono (by decide)) rfl m3 k3 b3 .nil au (aa (pv 2) ab)) (aa (pv 4) (aa (cN (v:=.ref ft) rfl mt rfl) ab)))))
   (ag (bL (aX mj (pv 5) c7 (aW _)) (ah (ak (aT (aa (fW dW az) ab)))) aZ)
   (ah (ak (aw G4 (hr.mono (by decide)) rfl m4 k4 b4 .nil au (aa (pv 0) (aa (pv 1) (aa (pv 5) ab))))))))),?_⟩
  refine⟨_,rfl,_,rfl,n,g,l,rfl,hg,hl,fun en H1 s1=>?_,fun r er H1 p ts s1 fp hp hts=>?_⟩
  ·rw[wQ en]at k;exact⟨_,rfl,rfl,_,rfl,_,rfl,tx,fun q hq=>k.stay tb hP (s1.trans (aj.upd hq)) (by rw[ae];rfl)⟩
  ·rw[wO hd er]at k;have c:¬(n=0\/6<n):=fun z=>by unfold parts at er;rw[if_pos z]at er;cases er
   have er':Vg01.shuffles n l=some r:=by unfold parts at er;rw[if_neg c]at er;exact er
   obtain⟨l4,sh⟩:=Mg.nJ er';refine⟨_,rfl,rfl,_,rfl,_,rfl,n,rfl,by omega,fun H2 q fq hq s2=>?_⟩;have mo:MulOk P w K mg base H2 ft Vg01.followed (iL n):=by
    refine⟨⟨fdt,_,_,FF.mono (by decide),bt,fun H3 b c x y Q1 s3 hb hc hx hy k3=>?_⟩,fun H3 _=>.inl ?_⟩
    ·exact⟨b,c,x,y,rfl,hb,hc,by rw[hx.len];omega,fun z hz=>by rw[hy.len];exact hx.lt z hz,fun H4 p4 fp4 hp4 s4=>k3 H4 p4 s4 fp4 hp4⟩
    ·obtain⟨oc,od,kV,doc,pm,an,cdv,ct,osl,e1,e2,_⟩:=FT.ex;exact⟨oc,od,fdt,osl,e2⟩
   refine⟨_,rfl,q,p,ft,range n,r,ts,Vg01.followed,iL n,rfl,hq,s2 _ _ hp,hts.same s2,Mg.BW n,sh,l4,mo,fun en H3 s3=>?_,fun G eG H3 p3 s3 fp3 hG3=>?_⟩
   ·have en':ofShuffles n r=none:=en;rw[en']at k;exact⟨_,rfl,rfl,_,rfl,_,rfl,tx,fun q hq=>k.stay tb hP (((s1.trans s2).trans s3).trans (aj.upd hq)) (by rw[ae];rfl)⟩
   ·have eG':ofShuffles n r=some G:=eG;rw[eG']at k;have sA:=(s1.trans s2).trans s3;exact⟨_,rfl,rfl,_,rfl,_,rfl,_,rfl,_,rfl,pl,p3,d,st,G,rfl,hP.same sA,hd,hG3,tb.same sA,k.on (Kx.of (Kp.of sA))⟩
theorem IT:aq ["places","d","group","s"] ["places","d","group","s"] (af EI):=.m
theorem Gf{f:Addr}{fd:FuncData}(F:bW K "over" "over" EI f fd)(D1:ay P w K mg base "is_normal" 5 ["group","members"] (uS K C))(D2:ay P w K mg base "quotient" 5 ["group","normal_one"] (uP K C pq pp))(D4:ay P w K mg base "put" 2 ["places","d","group"] (qA C pq pp)):
  aG P w K mg base bA 8 f fd ["places","d","group","s"] (Kt K C pq pp 22):=by
 obtain⟨f1,fd1,m1,k1,G1,b1⟩:=D1;obtain⟨f2,fd2,m2,k2,G2,b2⟩:=D2;obtain⟨f4,fd4,m4,k4,G4,b4⟩:=D4;exists F.ok IT
 ·obtain⟨pl,us,st,as,y,rfl,pr,_,⟨d,n,l,rfl,_⟩,_⟩:=h;have:=pr.length;simp at this ⊢;omega
 ·obtain⟨pl,us,st,as,y,rfl,pr,hP,⟨d,G,x,rfl,hd,hs,rfl⟩,tb,k⟩:=h;obtain⟨_,_,_,rfl,rfl,⟨a,rfl,hG⟩,b,rfl,hx⟩:=Il pr;refine⟨_,ag (bL (fE (df (aw G1 (hr.mono (by decide)) rfl m1 k1 b1 .nil au (aa (pv 2) (aa (pv 3) ab))))) (ah (ak (aT (aa (fW dW az) ab)))) aZ)
   (ah (ak (aw G4 (hr.mono (by decide)) rfl m4 k4 b4 .nil au (aa (pv 0) (aa (pv 1) (aa (aw G2 (hr.mono (by decide)) rfl m2 k2 b2 .nil au (aa (pv 2) (aa (pv 3) ab))) ab)))))),?_⟩
  refine⟨_,rfl,_,rfl,a,b,G,x,rfl,hG,hx,hs,fun H1 s1=>⟨_,rfl,?_⟩⟩;refine c9 (fun c=>?_) (fun c=>?_)
  ·have c:Vg02.isNormal G x=false:=by simpa using c
   rw[if_pos c]at k;exact⟨_,rfl,tx,fun q hq=>k.stay tb hP (s1.trans (aj.upd hq)) (by rw[ae];rfl)⟩
  ·have c:Vg02.isNormal G x=true:=by simpa using c
   rw[if_neg (by rw[c];simp)]at k;have q:=(Mg.jv hG.wf (Mg.aB.mp hs).2).mp c;have NM:Norm G x:=⟨q.1,q.2⟩;obtain⟨G',eG⟩:=jP hG.wf NM;rw[eG]at k;refine⟨_,rfl,_,rfl,_,rfl,_,rfl,a,b,G,G',x,rfl,hG.same s1,s1.seq hx,NM,gC hG.wf hs,tb.same s1,eG,fun H2 p kp tb2 _ hp=>?_⟩;have kpA:=(Kp.of s1).trans kp;exact⟨pl,p,d,st,G',rfl,hP.kp kpA,hd,hp,tb2,k.on (Kx.of kpA)⟩
abbrev Lp:List Str:=["places","d","group","other","product"]
theorem C0:aq Lp ["places","d","group","other"] (af EF):=.m
theorem F9{f:Addr}{fd:FuncData}(F:bW K "pairs" "pairs" EF f fd)(T:Tx mg)(T2:LZ mg)(TC:TG K C)(D2:ay P w K mg base "paired" 5 ["group","other"] (xZ C pq pp))(D4:ay P w K mg base "put" 2 ["places","d","group"] (qA C pq pp)):
  aG P w K mg base bA 8 f fd ["places","d","group","other"] (Kt K C pq pp 23):=by
 obtain⟨f2,fd2,m2,k2,G2,b2⟩:=D2;obtain⟨f4,fd4,m4,k4,G4,b4⟩:=D4;obtain⟨tm,mm⟩:=T2.Mh;exists F.ok C0
 ·obtain⟨pl,us,st,as,y,rfl,pr,_,⟨d,n,l,rfl,_⟩,_⟩:=h;have:=pr.length;simp at this ⊢;omega
 ·obtain⟨pl,us,st,as,y,rfl,pr,hP,⟨d,G,U,rfl,hd,rfl⟩,tb,k⟩:=h;obtain⟨_,_,_,rfl,rfl,⟨a,rfl,hG⟩,b,rfl,hU⟩:=Il pr;have nd:=C0.nd;obtain⟨W,qo,dx,fs,ha,hf⟩:=id hG;obtain⟨W2,few2,dx2,fs2,ha2,hf2⟩:=id hU;obtain⟨lg,eg1,eg2⟩:=hf.gens;obtain⟨lh,eh1,eh2⟩:=hf2.gens;refine⟨_,ag (bL (aX oG (cI tW (aS aM rfl T.len PySem.boot_len (aa (cj (pv 2) rfl) ab)) (aS aM rfl T.len PySem.boot_len (aa (cj (pv 3) rfl) ab))) (cN (v:=.int 4) rfl mm ⟨tm,rfl⟩) (aW _))
    (ah (ak (aT (aa (fW dW az) ab)))) aZ)
   (ag (aC (i:=4) nd rfl (Or.inl rfl) (aw G2 (hr.mono (by decide)) rfl m2 k2 b2 .nil au (aa (pv 2) (aa (pv 3) ab))))
   (ag (bL (aX mj (pv 4) c7 (aW _)) (ah (ak (aT (aa (fW dW az) ab)))) aZ)
   (ah (ak (aw G4 (hr.mono (by decide)) rfl m4 k4 b4 .nil au (aa (pv 0) (aa (pv 1) (aa (pv 4) ab)))))))),?_⟩
  refine⟨_,rfl,a,C,dx,_,_,rfl,ha,TC.cl,TC.nG,eg1,lg,_,rfl,.inl (aH.of eg2),_,rfl,b,C,dx2,_,_,rfl,ha2,TC.cl,TC.nG,eh1,lh,_,rfl,.inl (aH.of eh2),_,_,rfl,rfl,_,_,rfl,rfl,_,rfl,?_⟩;refine c9 (fun c=>?_) (fun c=>?_)
  ·have c:Vg01.GENS<G.gens.length+U.gens.length:=by
    have:(4:Int)<((iv G.gens).length:Int)+((iv U.gens).length:Int):=by simpa using c
    rw[length_map,length_map]at this;show 4<_;omega
   have e:Vg02.pairs G U=none:=by unfold Vg02.pairs;rw[if_pos (.inl c)]
   rw[e]at k;exact⟨_,rfl,tx,fun q hq=>k.stay tb hP (aj.upd hq) (by rw[ae];rfl)⟩
  ·have c:G.gens.length+U.gens.length<=4:=by
    have:¬(4:Int)<((iv G.gens).length:Int)+((iv U.gens).length:Int):=by simpa using c
    rw[length_map,length_map]at this;omega
   refine⟨_,rfl,_,rfl,a,b,G,U,rfl,hG,hU,c,tb,fun en H1 kp tb1=>?_,fun G' eG H1 p kp tb1 _ hp=>?_⟩
   ·rw[en]at k;refine⟨_,rfl,rfl,_,rfl,_,rfl,tx,fun q hq=>?_⟩;have s2:=aj.upd (o:=.lst [V.int (-3)]) hq;exact k _ q (Kx.of (kp.trans (Kp.of s2))) (tb1.same s2) (hP.kp (kp.trans (Kp.of s2))) (by rw[ae];rfl)
   ·rw[eG]at k;exact⟨_,rfl,rfl,_,rfl,_,rfl,_,rfl,_,rfl,pl,p,d,st,G',rfl,hP.kp kp,hd,hp,tb1,k.on (Kx.of kp)⟩
end
abbrev E7:Stmt:=top 75
abbrev EW:Stmt:=top 81
abbrev EX:Stmt:=top 82
abbrev Fp:Stmt:=top 83
theorem CC{c:Nat}{as:List Arg}{r:List Int}(h:Ask c as r):as.length=1\/as.length=2\/as.length=3:=by
 unfold Ask at h;split at h
 ·obtain⟨_,rfl,_⟩:=h;exact .inl rfl
 ·obtain⟨_,_,rfl,_⟩:=h;exact .inr (.inl rfl)
 ·obtain⟨_,_,rfl,_⟩:=h;exact .inr (.inl rfl)
 ·obtain⟨_,_,rfl,_⟩:=h;exact .inr (.inl rfl)
 ·obtain⟨_,_,_,rfl,_⟩:=h;exact .inr (.inr rfl)
 ·obtain⟨_,_,rfl,_⟩:=h;exact .inr (.inl rfl)
 ·obtain⟨_,_,_,rfl,_⟩:=h;exact .inr (.inr rfl)
 ·obtain⟨_,_,rfl,_⟩:=h;exact .inr (.inl rfl)
 ·obtain⟨_,_,rfl,_⟩:=h;exact .inr (.inl rfl)
 ·obtain⟨_,_,rfl,_⟩:=h;exact .inr (.inl rfl)
 ·obtain⟨_,_,rfl,_⟩:=h;exact .inr (.inl rfl)
 ·obtain⟨_,_,rfl,_⟩:=h;exact .inr (.inl rfl)
 ·obtain⟨_,_,rfl,_⟩:=h;exact .inr (.inl rfl)
 ·obtain⟨_,_,_,rfl,_⟩:=h;exact .inr (.inr rfl)
 ·obtain⟨_,rfl,_⟩:=h;exact .inl rfl
 ·obtain⟨_,_,rfl,_⟩:=h;exact .inr (.inl rfl)
 ·obtain⟨_,_,rfl,_⟩:=h;exact .inr (.inl rfl)
 ·obtain⟨_,_,rfl,_⟩:=h;exact .inr (.inl rfl)
 ·obtain⟨_,rfl,_⟩:=h;exact .inl rfl
 ·obtain⟨_,rfl,_⟩:=h;exact .inl rfl
 ·obtain⟨_,_,rfl,_⟩:=h;exact .inr (.inl rfl)
 ·obtain⟨_,_,rfl,_⟩:=h;exact .inr (.inl rfl)
 ·exact h.elim
section
variable{P:Program}{w:World}{K:Frag}{mg:GmT}{base:Heap}{C pq pp:Addr}
def Km(P:Program)(w:World)(K:Frag)(mg:GmT)(base:Heap)(C pq pp:Addr):Prop:=∃aD kvs,mg "ASKING"=some (.ref aD)/\kg K aD kvs /\
 ∀c as r,Ask c as r->∃f ps,valueAt kvs (c:Int)=some (.ref f)/\FV P w K mg base 8 (.ref f) ps (kO K C pq pp c)
def yq(K:Frag)(C pq pp:Addr):Sp:=fun vs H Q _=>∃(c:Nat)(va:Addr)(us:List V)(as:List Arg)(r:List Int),vs=[.int c,.ref va]/\H va=some (.lst us)/\Paired (kr K C H) us as/\Ask c as r/\Tb pq pp H/\r.length<=10000000/\Rp pq pp H r Q
abbrev LO:List Str:=["call","values","asked"]
theorem Dk:aq LO ["call","values"] (af E7):=.m
theorem GY{f:Addr}{fd:FuncData}(F:bW K "ask" "ask" E7 f fd)(T:Tx mg)(AT:Km P w K mg base C pq pp):aG P w K mg base bA 9 f fd ["call","values"] (yq K C pq pp):=by
 obtain⟨aD,kvs,mD,M,AT⟩:=AT;exists F.ok Dk
 ·obtain⟨c,va,us,as,r,rfl,_⟩:=h;rfl
 ·obtain⟨c,va,us,as,r,rfl,hv,pr,ha,tb,hl,k⟩:=h;obtain⟨g,ps,e1,fv⟩:=AT c as r ha;have nd:=Dk.nd;have al:=CC ha;have lu:=pr.length;refine⟨_,ag (aC (i:=2) nd rfl (Or.inl rfl) (jl (cN (v:=.ref aD) rfl mD rfl) (pv 0) (fun _ _=>rfl)))
   (ag (bL (aX fZ (aS aM rfl T.len PySem.boot_len (aa (pv 1) ab)) az (aW _)) (ah (ak (md (pv 2) hr au (aa (bN bb (pv 1) az (fun _ _=>rfl)) ab)))) aZ)
   (ag (bL (aX fZ (aS aM rfl T.len PySem.boot_len (aa (pv 1) ab)) az (aW _)) (ah (ak (md (pv 2) hr au (aa (bN bb (pv 1) az (fun _ _=>rfl)) (aa (bN bb (pv 1) az (fun _ _=>rfl)) ab))))) aZ)
   (ah (ak (md (pv 2) hr au (aa (bN bb (pv 1) az (fun _ _=>rfl)) (aa (bN bb (pv 1) az (fun _ _=>rfl)) (aa (bN bb (pv 1) az (fun _ _=>rfl)) ab)))))))),?_⟩
  refine⟨_,rfl,aD,_,kvs,_,.ref g,rfl,rfl,M,e1,rfl,?_⟩;have go:kO K C pq pp c us H Q E0:=⟨as,r,pr,ha,tb,hl,k⟩;refine⟨_,rfl,va,_,rfl,.inl (aH.of hv),rfl,_,rfl,?_⟩;rcases al with al|al|al
  ·match us,lu.trans al,hv,go with
   |[v0],_,hv,go=>
    exact⟨_,rfl,ps,_,fv,_,rfl,va,_,_,_,rfl,rfl,aH.of hv,rfl,go⟩
  ·match us,lu.trans al,hv,go with
   |[v0,v1],_,hv,go=>
    exact⟨_,rfl,va,_,rfl,.inl (aH.of hv),rfl,_,rfl,_,rfl,ps,_,fv,_,rfl,va,_,_,_,rfl,rfl,aH.of hv,rfl,_,rfl,va,_,_,_,rfl,rfl,aH.of hv,rfl,go⟩
  ·match us,lu.trans al,hv,go with
   |[v0,v1,v2],_,hv,go=>
    exact⟨_,rfl,va,_,rfl,.inl (aH.of hv),rfl,_,rfl,_,rfl,ps,_,fv,_,rfl,va,_,_,_,rfl,rfl,aH.of hv,rfl,_,rfl,va,_,_,_,rfl,rfl,aH.of hv,rfl,_,rfl,va,_,_,_,rfl,rfl,aH.of hv,rfl,go⟩
abbrev sg(c:Nat):Str:=⟨#[c]⟩
theorem pA{a b:Nat}:sg a=sg b↔a=b:=by
 constructor
 ·intro h;injection h with h;injection h with h;injection h
 ·intro h;rw[h]
def yh(C:Addr):Sp:=fun vs H Q _=>∃(pl:Addr)(c n:Nat)(st:Vg03.State),vs=[.ref pl,.str (sg c),.int n]/\n6 C H pl st/\Q (.bl (decide (n<3)&&(c==100||(Vg03.slot st n).isSome))) H
theorem Ja:aq ["places","letter","k"] ["places","letter","k"] (af EW):=.m
theorem pk{C:Addr}{H:Hp}{vs:List V}{st:Vg03.State}(p:Paired (j2 C H) vs st){n:Nat}(h:n<st.length):∃v,vs[n]?=some v/\j2 C H v (Vg03.slot st n):=by
 have:st[n]?=some (Vg03.slot st n):=pY h;exact dt p this
theorem zi{C:Addr}{H:Hp}{v:V}:∀{o:Option Group},j2 C H v o->(!decide (v=V.cu))=o.isSome
 |none,h=>by cases h;rfl
 |some G,⟨a,h,_⟩=>by cases h;rfl
theorem GD{f:Addr}{fd:FuncData}(F:bW K "fits_places" "fits_places" EW f fd)(T:Tx mg):aG P w K mg base bA 1 f fd ["places","letter","k"] (yh C):=by
 exists F.ok Ja
 ·obtain⟨pl,c,n,st,rfl,_⟩:=h;rfl
 ·obtain⟨pl,c,n,st,rfl,hP,k⟩:=h;obtain⟨t3,vs,ev,pv'⟩:=hP;have lv:vs.length=3:=by rw[pv'.length,t3]
  refine⟨_,ag (bL (aX ve (pv 2) (aS aM rfl T.len PySem.boot_len (aa (pv 0) ab)) (aW _)) (ah (ak gR)) aZ)
   (ah (ak (JB (cV fZ (pv 1) l6 (aW _)) (y4 (cV vd (bN bb (pv 0) (pv 2) (fun _ _=>rfl)) c7 (aW _)))))),?_⟩
  refine⟨_,rfl,_,rfl,pl,_,rfl,.inl (aH.of ev),_,_,rfl,rfl,_,rfl,?_⟩;rw[lv];refine c9 (fun q=>?_) (fun q=>?_)
  ·have q:¬n<3:=by
    have:(3:Int)<=(n:Int):=by simpa using q
    omega
   rw[decide_eq_false q]at k;exact k
  ·have q:n<3:=by
    have:¬(3:Int)<=(n:Int):=by simpa using q
    omega
   rw[decide_eq_true q,Bool.true_and]at k;refine⟨_,rfl,rfl,_,rfl,?_⟩;have e1:decide (V.str (sg c)=V.str "d")=(c==100):=by
    refine Bool.eq_iff_iff.mpr ?_;rw[decide_eq_true_iff,beq_iff_eq];constructor
    ·intro h;injection h with h;exact pA.mp h
    ·intro h;rw[h];rfl
   rw[e1];refine c9 (fun d=>?_) (fun d=>?_)
   ·rw[d,Bool.true_or]at k;exact k
   ·have d:(c==100)=false:=by simpa using d
    rw[d,Bool.false_or]at k;obtain⟨v,e2,o⟩:=pk pv' (n:=n) (by omega);refine⟨_,rfl,_,rfl,pl,_,_,_,rfl,rfl,aH.of ev,b9 e2,rfl,?_⟩;show Q (V.bl (!decide (v=V.cu))) H;rw[zi o];exact k
def yi(K:Frag)(C:Addr):Sp:=fun vs H Q _=>∃(g v:V)(c:Nat),vs=[g,.str (sg c),v]/\(c=105->∃a G n,g=.ref a/\dQ C H a G/\v=.int (n:Nat)/\Q (.bl (decide (n<G.size))) H) /\
 (c=115->∃a G r l,g=.ref a/\dQ C H a G/\v=.ref r/\aH K H r (iv l)/\Q (.bl (Vg02.isSet G l)) H)/\(c≠105->c≠115->Q (.bl true) H)
theorem Jb:aq ["group","letter","value"] ["group","letter","value"] (af EX):=.m
theorem GH{f:Addr}{fd:FuncData}(F:bW K "fits_group" "fits_group" EX f fd)(TC:TG K C)(MS:aK P w K mg base C "size" 1 ["self"] (cC C))(D1:ay P w K mg base "is_set" 2 ["group","row"] (xR K C)):aG P w K mg base bA 3 f fd ["group","letter","value"] (yi K C):=by
 obtain⟨fz,fdz,mz,Gz,bz⟩:=MS;obtain⟨f1,fd1,m1,k1,G1,b1⟩:=D1;exists F.ok Jb
 ·obtain⟨g,v,c,rfl,_⟩:=h;rfl
 ·obtain⟨g,v,c,rfl,hi,hs,hn⟩:=h;refine⟨_,ag (bL (aX fZ (pv 1) l6 (aW _)) (ah (ak (cV qY (pv 2) (aU (pv 0) TC.cl mz Gz (hr.mono (by decide)) bz .nil au) (aW _)))) aZ)
   (ag (bL (aX fZ (pv 1) l6 (aW _)) (ah (ak (aw G1 (hr.mono (by decide)) rfl m1 k1 b1 .nil au (aa (pv 0) (aa (pv 2) ab))))) aZ)
   (ah (ak gR))),?_⟩
  refine⟨_,rfl,rfl,_,rfl,?_⟩;refine c9 (fun q=>?_) (fun q=>?_)
  ·have q:c=105:=by
    have:=of_decide_eq_true q;injection this with h;exact pA.mp h
   obtain⟨a,G,n,rfl,hG,rfl,k⟩:=hi q;obtain⟨W,_,dx,fs,ha,hf⟩:=id hG;refine⟨_,rfl,_,rfl,a,dx,_,rfl,ha,hf.fK "size" (by simp),a,G,rfl,hG,_,_,rfl,rfl,?_⟩;have:decide ((n:Int)<((G.size:Nat):Int))=decide (n<G.size):=by rw[decide_eq_decide];omega
   rw[<-this]at k;exact k
  ·have q:c≠105:=fun z=>by
    have:=of_decide_eq_false (by simpa using q);exact this (by rw[z];rfl)
   refine⟨_,rfl,rfl,_,rfl,?_⟩;refine c9 (fun d=>?_) (fun d=>?_)
   ·have d:c=115:=by
     have:=of_decide_eq_true d;injection this with h;exact pA.mp h
    obtain⟨a,G,r,l,rfl,hG,rfl,hx,k⟩:=hs d;exact⟨_,rfl,_,rfl,a,r,G,l,rfl,hG,hx,k⟩
   ·have d:c≠115:=fun z=>by
     have:=of_decide_eq_false (by simpa using d);exact this (by rw[z];rfl)
    exact hn q d
end
abbrev By:Stmt:=top 84
def a6(st:Vg03.State)(g:Option Group)(c:Nat)(a:Arg):Bool:=
 if c=100\/c=107 then(match a with|.num n=>decide (n<3)&&(c==100||(Vg03.slot st n).isSome)|_=>false)
 else if c=105 then(match g,a with|some G,.num n=>decide (n<G.size)|_,_=>false)
 else if c=115 then(match g,a with|some G,.row l=>Vg02.isSet G l|_,_=>false)
 else true
def rX(st:Vg03.State)(g:Option Group)(c:Nat)(a:Arg):Option Group:=if c=100\/c=107 then(match a with|.num n=>Vg03.slot st n|_=>none)else g
structure jd(g:Option Group)(c:Nat)(a:Arg):Prop where
 pl:c=100\/c=107->∃n,a=.num n
 el:c=105->∃G n,g=some G/\a=.num n
 se:c=115->∃G l,g=some G/\a=.row l
def Typed(st:Vg03.State):Option Group->List (Nat×Arg)->Prop
 |_,[]=>True
 |g,(c,a)::r=>jd g c a/\(a6 st g c a=true->Typed st (rX st g c a) r)
def dN(st:Vg03.State):Option Group->List (Nat×Arg)->Bool
 |_,[]=>true
 |g,(c,a)::r=>a6 st g c a&&dN st (rX st g c a) r
theorem HU{c:Nat}:decide (c∈(Str.ofString "dk").cps.toList)=decide (c=100\/c=107):=by
 have e:(Str.ofString "dk").cps.toList=[100,107]:=by decide +kernel
 rw[e,decide_eq_decide];simp
theorem kr.same{K:Frag}{C:Addr}{H H':Hp}{v:V}(s:aj H H'):∀{a:Arg},kr K C H v a->kr K C H' v a
 |.num n,h=>h
 |.row l,⟨r,e,h⟩=>⟨r,e,s.seq h⟩
 |.cb G,⟨a,e,h⟩=>⟨a,e,h.same s⟩
theorem j2.same{C:Addr}{H H':Hp}{v:V}(s:aj H H'){o:Option Group}(h:j2 C H v o):j2 C H' v o:=j2.kp (Kp.of s) h
theorem lG{α β:Type}:∀{l:List α}{m:List β}{i:Nat}{x:α}{y:β},l[i]?=some x->m[i]?=some y->(l.zip m).drop i=(x,y)::(l.zip m).drop (i+1)
 |[],_,_,_,_,h,_=>by simp at h
 |_::_,[],_,_,_,_,h=>by simp at h
 |a::l,b::m,0,x,y,h1,h2=>by simp at h1 h2;subst h1 h2;rfl
 |a::l,b::m,i+1,x,y,h1,h2=>by
  simp only[List.zip_cons_cons,List.drop_succ_cons]
  exact lG (by simpa using h1) (by simpa using h2)
section
variable{P:Program}{w:World}{K:Frag}{mg:GmT}{base:Heap}{C pq pp:Addr}
def yu(K:Frag)(C:Addr):Sp:=fun vs H Q _=>∃(pl gv:Addr)(x:Str)(st:Vg03.State)(us:List V)(as:List Arg),vs=[.ref pl,.str x,.ref gv]/\x.cps.all (·<128)=true/\n6 C H pl st/\H gv=some (.lst us)/\Paired (kr K C H) us as/\as.length=x.cps.size /\
 Typed st none (x.cps.toList.zip as)/\∀H':Hp,aj H H'->Q (.bl (dN st none (x.cps.toList.zip as))) H'
abbrev LU:List Str:=["places","form","given","group","letter","value"]
theorem Dt:aq LU ["places","form","given"] (af Fp):=.m
theorem Hr{f:Addr}{fd:FuncData}(F:bW K "all_fit" "all_fit" Fp f fd)(T4:xq mg)(D1:ay P w K mg base "fits_places" 1 ["places","letter","k"] (yh C))(D2:ay P w K mg base "fits_group" 3 ["group","letter","value"] (yi K C)):
  aG P w K mg base bA 4 f fd ["places","form","given"] (yu K C):=by
 obtain⟨f1,fd1,m1,k1,G1,b1⟩:=D1;obtain⟨f2,fd2,m2,k2,G2,b2⟩:=D2;exists F.ok Dt
 ·obtain⟨pl,gv,x,st,us,as,rfl,_⟩:=h;rfl
 ·obtain⟨pl,gv,x,st,us,as,rfl,hx,hP,hv,pr,hl,ty,k⟩:=h;have nd:=Dt.nd;refine⟨_,ag (aC (i:=3) nd rfl (Or.inl rfl) c7)
   (ag (cM PassesOwn.never rfl (u1 rfl T4.zp (aa (pv 1) (aa (pv 2) ab))) (pF rfl (eh (aJ (i:=4) nd rfl (Or.inl rfl)) (eh (aJ (i:=5) nd rfl (Or.inl rfl)) k6)))
    (ah (bL (aX mv (pv 4) l6 rfl)
     (ag (bL (fE (df (aw G1 (hr.mono (by decide)) rfl m1 k1 b1 .nil au (aa (pv 0) (aa (pv 4) (aa (pv 5) ab)))))) (ah (ak gR)) aZ)
      (ah (aC (i:=3) nd rfl (Or.inl rfl) (bN bb (pv 0) (pv 5) (fun _ _=>rfl)))))
     (ah (bL (fE (df (aw G2 (hr.mono (by decide)) rfl m2 k2 b2 .nil au (aa (pv 3) (aa (pv 4) (aa (pv 5) ab)))))) (ah (ak gR)) aZ)))))
   (ah (ak gR))),?_⟩
  refine⟨_,rfl,_,rfl,x,gv,us,rfl,hx,aH.of hv,?_⟩;refine pZ (n:=x.cps.size) (fun i σ H'=>∃(g:Option Group)(v3:V)(v4 v5:Option V),σ=[some (.ref pl),some (.str x),some (.ref gv),some v3,v4,v5]/\aj H H'/\j2 C H' v3 g/\Typed st g ((x.cps.toList.zip as).drop i)/\dN st none (x.cps.toList.zip as)=dN st g ((x.cps.toList.zip as).drop i))
   ⟨none,.cu,none,none,rfl,fun _ _ e=>e,rfl,ty,rfl⟩ ?_ ?_ ?_ ?_
  ·rintro i σ H' hi ⟨g,v3,v4,v5,rfl,s1,_⟩;have:i<us.length:=by rw[pr.length,hl];exact hi
   exact⟨hi,_,_,aH.of (s1 _ _ hv),getElem?_eq_getElem this⟩
  ·rintro i v σ H' H2 hi ⟨g,v3,v4,v5,rfl,s1,og,tg,eg⟩ ⟨T0,c,y,rfl,hT0,rfl,hc,hy⟩;have hy:=hy _ (aH.of (s1 _ _ hv));obtain⟨a,ha,av⟩:=bP pr hy;have hc':x.cps.toList[i]?=some c:=by rw[getElem?_toList];exact hc
   rw[lG hc' ha]at tg eg;obtain⟨t1,t2⟩:=tg;have eg:dN st none (x.cps.toList.zip as)=(a6 st g c a&&dN st (rX st g c a) ((x.cps.toList.zip as).drop (i+1))):=eg;have s2:=aj.upd (o:=.tup [V.str ⟨#[c]⟩,y]) hT0;have s12:=s1.trans s2;have hT5:upd H' T0 (.tup [V.str ⟨#[c]⟩,y]) T0=some (.tup [V.str ⟨#[c]⟩,y]):=ae;have og2:=og.same s2;generalize upd H' T0 (.tup [V.str ⟨#[c]⟩,y])=H3 at s12 hT5 og2;have av3:=av.same s12;have hP3:=hP.same s12;refine⟨T0,_,rfl,gr.of hT5,rfl,_,_,rfl,_,_,rfl,rfl,?_⟩;refine⟨_,rfl,c,_,rfl,rfl,_,rfl,?_⟩;rw[HU];refine c9 (fun q=>?_) (fun q=>?_)
   ·have q:=of_decide_eq_true q;obtain⟨n,rfl⟩:=t1.pl q;cases av3;refine⟨_,rfl,_,rfl,_,rfl,pl,c,n,st,rfl,hP3,_,rfl,?_⟩;have ef:a6 st g c (.num n)=(decide (n<3)&&(c==100||(Vg03.slot st n).isSome)):=by unfold a6;rw[if_pos q]
    have egp:rX st g c (.num n)=Vg03.slot st n:=by unfold rX;rw[if_pos q]
    rw[<-ef];refine c9 (fun d=>?_) (fun d=>?_)
    ·have d:a6 st g c (.num n)=false:=by simpa using d
     have:=k H3 s12;rw[eg,d,Bool.false_and]at this;exact this
    ·have d:a6 st g c (.num n)=true:=by simpa using d
     rw[d,Bool.true_and]at eg;have n3:n<3:=by
      rw[ef,and_eq_true]at d;exact of_decide_eq_true d.1
     obtain⟨t3,vs,ev,pv'⟩:=hP3;obtain⟨u,e2,o⟩:=pk pv' (n:=n) (by omega);refine⟨_,rfl,_,rfl,pl,_,_,_,rfl,rfl,aH.of ev,b9 e2,?_⟩;exact⟨_,u,_,_,rfl,s12,by rw[egp];exact o,t2 d,eg⟩
   ·have q:¬(c=100\/c=107):=by simpa using q
    have egp:rX st g c a=g:=by unfold rX;rw[if_neg q]
    refine⟨_,rfl,_,rfl,_,rfl,v3,y,c,rfl,fun h=>?_,fun h=>?_,fun h1 h2=>?_⟩
    ·obtain⟨G,n,rfl,rfl⟩:=t1.el h;obtain⟨ga,rfl,hG⟩:=og2;cases av3;have ef:a6 st (some G) c (.num n)=decide (n<G.size):=by unfold a6;rw[if_neg q,if_pos h]
     refine⟨ga,G,n,rfl,hG,rfl,_,rfl,?_⟩;rw[<-ef];refine c9 (fun d=>?_) (fun d=>?_)
     ·have d:a6 st (some G) c (.num n)=false:=by simpa using d
      have:=k H3 s12;rw[eg,d,Bool.false_and]at this;exact this
     ·have d:a6 st (some G) c (.num n)=true:=by simpa using d
      rw[d,Bool.true_and]at eg;exact⟨_,_,_,_,rfl,s12,by rw[egp];exact⟨ga,rfl,hG⟩,t2 d,eg⟩
    ·obtain⟨G,l,rfl,rfl⟩:=t1.se h;obtain⟨ga,rfl,hG⟩:=og2;obtain⟨r,rfl,hr'⟩:=av3;have ef:a6 st (some G) c (.row l)=Vg02.isSet G l:=by unfold a6;rw[if_neg q,if_neg (by omega),if_pos h]
     refine⟨ga,G,r,l,rfl,hG,rfl,hr',_,rfl,?_⟩;rw[<-ef];refine c9 (fun d=>?_) (fun d=>?_)
     ·have d:a6 st (some G) c (.row l)=false:=by simpa using d
      have:=k H3 s12;rw[eg,d,Bool.false_and]at this;exact this
     ·have d:a6 st (some G) c (.row l)=true:=by simpa using d
      rw[d,Bool.true_and]at eg;exact⟨_,_,_,_,rfl,s12,by rw[egp];exact⟨ga,rfl,hG⟩,t2 d,eg⟩
    ·have d:a6 st g c a=true:=by unfold a6;rw[if_neg q,if_neg h1,if_neg h2]
     rw[d,Bool.true_and]at eg;exact⟨_,rfl,⟨_,v3,_,_,rfl,s12,by rw[egp];exact og2,t2 d,eg⟩⟩
  ·rintro σ H' ⟨g,v3,v4,v5,rfl,s1,_⟩;exact⟨le_refl _,_,aH.of (s1 _ _ hv)⟩
  ·rintro σ H' ⟨g,v3,v4,v5,rfl,s1,og,tg,eg⟩;have e:(x.cps.toList.zip as).drop x.cps.size=[]:=drop_eq_nil_of_le (by rw[List.length_zip,hl,length_toList];omega);rw[e]at eg;have:=k H' s1;rw[eg]at this;exact this
end
def dS(st:Vg03.State)(p:Nat×Arg):Arg:=if p.1=107 then(match p.2 with|.num n=>(match Vg03.slot st n with|some G=>.cb G|none=>p.2)|_=>p.2)else p.2
theorem Ap{st:Vg03.State}:∀{L:List (Nat×Arg)}{g:Option Group},dN st g L=true->∀{i:Nat}{c:Nat}{a:Arg},L[i]?=some (c,a)->∃g',a6 st g' c a=true
 |[],_,_,_,_,_,h=>by simp at h
 |(c,a)::r,g,f,0,_,_,h=>by
  have e:=Nc h
  cases e
  exact⟨g,(Bool.and_eq_true_iff.mp f).1⟩
 |(c,a)::r,g,f,i+1,_,_,h=>Ap (Bool.and_eq_true_iff.mp f).2 (by simpa using h)
theorem J0{st:Vg03.State}{g:Option Group}{a:Arg}(h:a6 st g 107 a=true):∃n G,a=.num n/\n<3/\Vg03.slot st n=some G:=by
 unfold a6 at h;rw[if_pos (.inr rfl)]at h;cases a with
 |num n=>
  have h:(decide (n<3)&&((107:Nat)==100||(Vg03.slot st n).isSome))=true:=h;rw[and_eq_true]at h;have h2:(Vg03.slot st n).isSome=true:=h.2;obtain⟨G,e⟩:=Option.isSome_iff_exists.mp h2;exact⟨n,G,rfl,of_decide_eq_true h.1,e⟩
 |row l=>cases h
 |cb G=>cases h
end Pg
namespace L2
open PySem PySem.Spec PyProof.Rows
theorem BQ{X:Cx}{pos:Pos}(K:Frag){es:List Expr}{k:Nat}{t:DU}(n:Nat)(hc:X.calm=true)(h:Kg X es t)(hK:X.K=K:=by rfl)(hn:(assignEach es X.env).length=n:=by rfl)(hst:(assignEach es X.env).findIdx? (·.1)=none:=by rfl):PG X (.Tuple es k pos) (JX K n t):=by
 subst hK;exact pF hc h hn hst
end L2
namespace Pg
open PySem PySem.Spec PyProof.Rows L2
open Vg01 (Group)
def cA(c:Nat):Bool:=c==1||c==22||c==23
structure Due(c:Nat)(x:Str)(st:Vg03.State)(as:List Arg)(y:Vg03.State×Reply):Prop where
 len:as.length=x.cps.size
 ty:Typed st none (x.cps.toList.zip as)
 no:dN st none (x.cps.toList.zip as)=false->y=(st,Vg03.says (-1))
 put:dN st none (x.cps.toList.zip as)=true->cA c=true->AU c st ((x.cps.toList.zip as).map (dS st)) y
 ask:dN st none (x.cps.toList.zip as)=true->cA c=false->Ask c ((x.cps.toList.zip as).map (dS st)) (rp y.2)/\y.1=st
theorem fc{α β:Type}{F:α->β->Prop}:∀{l:List α}{m:List β}{x:α}{y:β},Paired F l m->F x y->Paired F (l++[x]) (m++[y])
 |_,_,_,_,.nil,h=>.cons h .nil
 |_,_,_,_,.cons a b,h=>.cons a (fc b h)
theorem BM{c:Nat}{st:Vg03.State}{as:List Arg}{y:Vg03.State×Reply}(h:AU c st as y):as.length=3:=by
 unfold AU at h;split at h
 ·obtain⟨_,_,_,rfl,_⟩:=h;rfl
 ·obtain⟨_,_,_,rfl,_⟩:=h;rfl
 ·obtain⟨_,_,_,rfl,_⟩:=h;rfl
 ·exact h.elim
def eE:Nat->Option Str
 |1=>some "dna"
 |2=>some "k"
 |3=>some "ki"
 |4=>some "ka"
 |5=>some "ki"
 |6=>some "kii"
 |7=>some "ki"
 |8=>some "kin"
 |9=>some "ki"
 |10=>some "ks"
 |11=>some "ks"
 |12=>some "ks"
 |13=>some "ks"
 |14=>some "ks"
 |15=>some "kss"
 |16=>some "k"
 |17=>some "ks"
 |18=>some "kn"
 |19=>some "kn"
 |20=>some "k"
 |21=>some "k"
 |22=>some "dks"
 |23=>some "dkk"
 |24=>some "kk"
 |25=>some "kk"
 |_=>none
section
variable{P:Program}{w:World}{K:Frag}{mg:GmT}{base:Heap}{C pq pp:Addr}
def AO(K:Frag)(mg:GmT):Prop:=∃aF kvs,mg "FORMS"=some (.ref aF)/\kg K aF kvs/\∀c x,eE c=some x->∃u,valueAt kvs (c:Int)=some u/\RelV (.str x) u
def Kd(P:Program)(w:World)(K:Frag)(mg:GmT)(base:Heap)(C pq pp:Addr):Prop:=∃aP kvs,mg "PUTTING"=some (.ref aP)/\kg K aP kvs/\(aP==sysModules)=false /\
 (∀c:Nat,cA c=true->∃f fd ps,valueAt kvs (c:Int)=some (.ref f)/\aG P w K mg base bA 8 f fd ps (Kt K C pq pp c)/\Binds K fd ps []/\∀H,AW K H f)/\∀c:Nat,cA c=false->valueAt kvs (c:Int)=none
def yr(K:Frag)(C pq pp:Addr):Sp:=fun vs H Q _=>∃(pl gv:Addr)(c:Nat)(x:Str)(st:Vg03.State)(us:List V)(as:List Arg)(y:Vg03.State×Reply),vs=[.ref pl,.int c,.ref gv]/\eE c=some x/\x.cps.all (·<128)=true/\x.cps.size<=3/\n6 C H pl st/\H gv=some (.lst us)/\Paired (kr K C H) us as/\Due c x st as y/\Tb pq pp H /\
 (rp y.2).length<=10000000/\DV C pq pp pl H y.1 (rp y.2) Q
abbrev Ka:List Str:=["places","call","given","form","values","letter","value"]
theorem Dn:aq Ka ["places","call","given"] (af By):=.m
theorem Hh{f:Addr}{fd:FuncData}(F:bW K "answer" "answer" By f fd)(T4:xq mg)(FT:AO K mg)(PT:Kd P w K mg base C pq pp)(D1:ay P w K mg base "all_fit" 4 ["places","form","given"] (yu K C))(D2:ay P w K mg base "ask" 9 ["call","values"] (yq K C pq pp)):
  aG P w K mg base bA 10 f fd ["places","call","given"] (yr K C pq pp):=by
 obtain⟨aF,kf,mF,MF,hF⟩:=FT;obtain⟨aP,kp,mP,MP,nS,hPt,hPn⟩:=PT;obtain⟨f1,fd1,m1,k1,G1,b1⟩:=D1;obtain⟨f2,fd2,m2,k2,G2,b2⟩:=D2;exists F.ok Dn
 ·obtain⟨pl,gv,c,x,st,us,as,y,rfl,_⟩:=h;rfl
 ·obtain⟨pl,gv,c,x,st,us,as,y,rfl,hx,asc,x3,hP,hv,pr,due,tb,hl,k⟩:=h;obtain⟨u,hu,ru⟩:=hF c x hx;have nd:=Dn.nd;refine⟨_,ag (aC (i:=3) nd rfl (Or.inl rfl) (jl (cN (v:=.ref aF) rfl mF rfl) (pv 1) (fun _ _=>rfl)))
   (ag (bL (fE (df (aw G1 (hr.mono (by decide)) rfl m1 k1 b1 .nil au (aa (pv 0) (aa (pv 3) (aa (pv 2) ab)))))) (ah (ak (aT (aa (fW dW az) ab)))) aZ)
   (ag (qN (i:=4) (own:=[("letter",5),("value",6)]) rfl nd rfl rfl rfl (u1 rfl T4.zp (aa (pv 3) (aa (pv 2) ab))) (bf (N:=Ka) (sc:=af By) (by decide +kernel))
    (fun _ _ _ _ _=>BQ K 2 rfl (eh (aJ (i:=5) nd rfl (Or.inl rfl)) (eh (aJ (i:=6) nd rfl (Or.inl rfl)) k6))) (fun _ _ _ _ _=>bV)
    (fun _ _ _ _ _=>hJ (aX fZ (pv 5) l6 (aW _)) (bN (r:=Fy K) bb (pv 0) (pv 6) (fun _ _=>rfl)) (pv 6)))
   (ag (bL (tO (FP (pv 1) (cN (v:=.ref aP) rfl mP rfl)))
    (ah (ak (y9 (k:=8) (jl (cN (v:=.ref aP) rfl mP rfl) (pv 1) (fun _ _=>rfl)) (hr.mono (by decide)) au (aa (pv 0) (aa (bN bb (pv 4) az (fun _ _=>rfl)) (aa (bN bb (pv 4) az (fun _ _=>rfl)) (aa (bN bb (pv 4) az (fun _ _=>rfl)) ab))))))) aZ)
   (ah (ak (aw G2 hr rfl m2 k2 b2 .nil au (aa (pv 1) (aa (pv 4) ab)))))))),?_⟩
  refine⟨_,rfl,aF,_,kf,u,.str x,rfl,rfl,MF,hu,ru,?_⟩;refine⟨_,rfl,_,rfl,_,rfl,pl,gv,x,st,us,as,rfl,asc,hP,hv,pr,due.len,due.ty,fun H1 s1=>⟨_,rfl,?_⟩⟩;refine c9 (fun q=>?_) (fun q=>?_)
  ·have q:dN st none (x.cps.toList.zip as)=false:=by simpa using q
   have:=due.no q;subst this;exact⟨_,rfl,tx,fun p hp=>k.stay tb hP (s1.trans (aj.upd hp)) (by rw[ae];rfl)⟩
  ·have q:dN st none (x.cps.toList.zip as)=true:=by simpa using q
   have lz:(x.cps.toList.zip as).length=x.cps.size:=by rw[List.length_zip,due.len,length_toList];omega
   refine⟨_,rfl,_,rfl,x,gv,us,rfl,asc,aH.of (s1 _ _ hv),fun D hD=>?_⟩;have hP1:=hP.same s1;obtain⟨t3,ps,ev,pv'⟩:=id hP1;refine JP (n:=x.cps.size) (fun i H'=>aj H1 H'/\∃vs,H' D=some (.lst vs)/\Paired (kr K C H1) vs (((x.cps.toList.zip as).take i).map (dS st))) ⟨aj.upd hD,[],ae,.nil⟩ (fun i H' hi p=>?_) (fun i v H' H2 hi p yl=>?_) (fun H' p=>?_) (fun H' p=>?_)
   ·have:i<us.length:=by rw[pr.length,due.len];exact hi
    exact⟨hi,_,_,aH.of (p.1 _ _ (s1 _ _ hv)),getElem?_eq_getElem this⟩
   ·obtain⟨s2,vs,hDv,pvs⟩:=p;obtain⟨T0,d,yv,rfl,hT0,rfl,hc,hy⟩:=yl;have hy:=hy _ (aH.of (s2 _ _ (s1 _ _ hv)));obtain⟨a,ha,av⟩:=bP pr hy;have hc':x.cps.toList[i]?=some d:=by rw[getElem?_toList];exact hc
    have hz:(x.cps.toList.zip as)[i]?=some (d,a):=by
     have:=lG hc' ha;have h0:=congrArg (fun l=>l[0]?) this;simpa using h0
    have tk:((x.cps.toList.zip as).take (i+1)).map (dS st)=((x.cps.toList.zip as).take i).map (dS st)++[dS st (d,a)]:=by rw[aI hz,map_append];rfl
    have s3:=aj.upd (o:=.tup [V.str ⟨#[d]⟩,yv]) hT0;have hT5:upd H' T0 (.tup [V.str ⟨#[d]⟩,yv]) T0=some (.tup [V.str ⟨#[d]⟩,yv]):=ae;generalize upd H' T0 (.tup [V.str ⟨#[d]⟩,yv])=H3 at s3 hT5;have s23:=s2.trans s3;have lvs:vs.length<=3:=by rw[pvs.length,length_map,length_take];omega
    have fin:∀v,kr K C H1 v (dS st (d,a))->∃acc,H3 D=some (.lst acc)/\acc.length<sizeLine/\aj H1 (upd H3 D (.lst (acc++[v])))/\∃vs,upd H3 D (.lst (acc++[v])) D=some (.lst vs)/\Paired (kr K C H1) vs (((x.cps.toList.zip as).take (i+1)).map (dS st)):=fun v hv'=>by
     refine⟨vs,s3 _ _ hDv,by rw[sizeLine_eq];omega,aj.over hD s23,vs++[v],ae,?_⟩;rw[tk];exact fc pvs hv'
    refine⟨T0,_,rfl,gr.of hT5,rfl,_,_,rfl,_,_,rfl,rfl,?_⟩;refine⟨rfl,_,rfl,rfl,_,rfl,?_⟩;refine c9 (fun c=>?_) (fun c=>?_)
    ·have c:d=107:=by
      have:=of_decide_eq_true c;injection this with h;exact pA.mp h
     subst c;obtain⟨g',fg⟩:=Ap q hz;obtain⟨n,G,rfl,n3,es⟩:=J0 fg;cases av;obtain⟨u',e2,o⟩:=pk pv' (n:=n) (by omega);refine⟨_,rfl,_,rfl,pl,_,_,_,rfl,rfl,aH.of (s23 _ _ ev),b9 e2,fin u' ?_⟩;rw[es]at o;have:dS st (107,.num n)=.cb G:=by
      show(match Vg03.slot st n with|some G=>Arg.cb G|none=>.num n)=_;rw[es]
     rw[this];exact o
    ·have c:d≠107:=fun z=>by
      have:=of_decide_eq_false (by simpa using c);exact this (by rw[z];rfl)
     refine⟨_,rfl,fin yv ?_⟩;have:dS st (d,a)=a:=by unfold dS;rw[if_neg c]
     rw[this];exact av.same s1
   ·exact⟨le_refl _,_,aH.of (p.1 _ _ (s1 _ _ hv))⟩
   ·obtain⟨s2,vs,hDv,pvs⟩:=p;rw[take_of_length_le (by rw[lz];exact le_refl _)]at pvs;have s12:=s1.trans s2;have pv2:=Paired.imp pvs fun _ _ h=>h.same s2;refine⟨_,rfl,aP,_,kp,rfl,rfl,MP,nS,_,rfl,?_⟩;cases ip:cA c with
    |true=>
     obtain⟨g,fdg,ps',e1,FG,BG,fk⟩:=hPt c ip;rw[e1];have du:=due.put q ip;have l3:((x.cps.toList.zip as).map (dS st)).length=3:=BM du;have lv3:vs.length=3:=by rw[pvs.length,l3]
     match vs,lv3,hDv,pv2 with
     |[v0,v1,v2],_,hDv,pv2=>
      refine⟨_,rfl,aP,_,kp,_,.ref g,rfl,rfl,MP,e1,rfl,g,fdg,ps',_,rfl,FG,BG,fk _,_,rfl,_,rfl,D,_,_,_,rfl,rfl,aH.of hDv,rfl,_,rfl,D,_,_,_,rfl,rfl,aH.of hDv,rfl,_,rfl,D,_,_,_,rfl,rfl,aH.of hDv,rfl,fk _,?_⟩;exact⟨pl,_,st,_,y,rfl,pv2,hP.same s12,du,tb.same s12,k.on (Kx.of (Kp.of s12))⟩
    |false=>
     rw[hPn c ip];obtain⟨du,ey⟩:=due.ask q ip;refine⟨_,rfl,_,rfl,c,D,vs,_,_,rfl,hDv,pv2,du,tb.same s12,hl,fun H3 p kp3 tb3 e3=>?_⟩;have kA:=(Kp.of s12).trans kp3;exact k H3 p (Kx.of kA) tb3 (by rw[ey];exact hP.kp kA) e3
end
abbrev Ez:Stmt:=top 85
def Rd:DW->List Arg->List Int->List Int->Prop
 |[],[],l,t=>l=t
 |c::cs,.num n::as,l,t=>¬(c=97\/c=115)/\∃r,l=(n:Int)::r/\Rd cs as r t
 |c::cs,.row s::as,l,t=>(c=97\/c=115)/\∃r,l=(s.length:Int)::(ii s++r)/\Rd cs as r t
 |_,_,_,_=>False
theorem Rd.len:∀{cs:DW}{as:List Arg}{l t:List Int},Rd cs as l t->as.length=cs.length
 |[],[],_,_,_=>rfl
 |c::cs,.num n::as,l,t,⟨_,r,_,h⟩=>by rw[length_cons,length_cons,Rd.len h]
 |c::cs,.row s::as,l,t,⟨_,r,_,h⟩=>by rw[length_cons,length_cons,Rd.len h]
theorem Ic{c:Nat}:decide (c∈(Str.ofString "as").cps.toList)=decide (c=97\/c=115):=by
 have e:(Str.ofString "as").cps.toList=[97,115]:=by decide +kernel
 rw[e,decide_eq_decide];simp
def uG(H0 H:Hp)(D:Addr)(v:V):Arg->Prop
 |.num n=>v=.int n
 |.row l=>∃r,v=.ref r/\r≠D/\H0 r=none/\H r=some (.lst (iv l))
 |.cb _=>False
theorem uG.kept{H0 H H':Hp}{D:Addr}{v:V}(k:∀b xs,b≠D->H b=some (.lst xs)->H' b=some (.lst xs)):∀{a:Arg},uG H0 H D v a->uG H0 H' D v a
 |.num n,h=>h
 |.row l,⟨r,e,n,f,h⟩=>⟨r,e,n,f,k _ _ n h⟩
 |.cb G,h=>h.elim
structure LX(mg:GmT):Prop where
 rows:∃t,mg "ROWS"=some (.str "as" t)
 three:∃t,mg "PLACES"=some (.int 3 t)
section
variable{P:Program}{w:World}{K:Frag}{mg:GmT}{base:Heap}{C R:Addr}
def xN(K:Frag)(R:Addr):Sp:=fun vs H Q _=>∃(a l:Addr)(x:Str)(n:Nat)(cl:List Int)(as:List Arg)(t:List Int),vs=[.ref a,.str x]/\AN R H a l n/\aH K H l (cl.map V.int)/\x.cps.size<=3/\Rd x.cps.toList as (cl.drop n) t /\
 ∀(H':Hp)(D:Addr)(us:List V)(m:Nat),AN R H' a l m->eY a H H'->H D=none->H' D=some (.lst us)->Paired (uG H H' D) us as->cl.drop m=t->Q (.ref D) H'
abbrev KP:List Str:=["reader","form","given","letter"]
theorem CP:aq KP ["reader","form"] (af Ez):=.m
theorem drop_cons{α:Type}{l:List α}{n:Nat}{x:α}{r:List α}(h:l.drop n=x::r):l[n]?=some x/\l.drop (n+1)=r:=by
 constructor
 ·have:=congrArg (fun q=>q[0]?) h;simpa using this
 ·have:=congrArg List.tail h;simpa using this
theorem FW{f:Addr}{fd:FuncData}(F:bW K "take_given" "take_given" Ez f fd)(T6:LX mg)(TC:TR K R)(M1:aK P w K mg base R "take_number" 1 ["self"] (xT K R))(M2:aK P w K mg base R "take_row" 2 ["self"] (Eo K R)):
  aG P w K mg base bA 3 f fd ["reader","form"] (xN K R):=by
 obtain⟨f1,fd1,m1,G1,b1⟩:=M1;obtain⟨f2,fd2,m2,G2,b2⟩:=M2;obtain⟨tr,mr⟩:=T6.rows;exists F.ok CP
 ·obtain⟨a,l,x,n,cl,as,t,rfl,_⟩:=h;rfl
 ·obtain⟨a,l,x,n,cl,as,t,rfl,hR,hS,x3,rd,k⟩:=h;have nd:=CP.nd;refine⟨_,ag (aC (i:=2) nd rfl (Or.inl rfl) (aT ab))
   (ag (cM PassesOwn.never rfl (FJ (pv 1)) (aJ (i:=3) nd rfl (Or.inl rfl))
    (ah (dC (fb plainAttrs_list PySem.F.slot_list_append PySem.F.type_list_append dw (pv 2) (aa
     (hJ (aX mv (pv 3) (cN (v:=.str "as") rfl mr ⟨tr,rfl⟩) rfl) (aU (pv 0) TC.cl m2 G2 (hr.mono (by decide)) b2 .nil au) (aU (pv 0) TC.cl m1 G1 (hr.mono (by decide)) b1 .nil au)) ab)))))
   (ah (ak (pv 2)))),?_⟩
  refine⟨(by show 0<=sizeLine;decide),fun D hD=>?_⟩;have s1:aj H (upd H D (.lst [])):=aj.upd hD;have e1:upd H D (.lst []) D=some (.lst []):=ae;obtain⟨dx,ha⟩:=id hR;generalize upd H D (.lst [])=H1 at s1 e1;have la:as.length=x.cps.size:=by
   have:=rd.len;simpa using this
  refine⟨_,rfl,x,rfl,?_⟩;refine pZ (n:=x.cps.size) (fun i σ H'=>∃(v3:Option V)(us:List V)(m:Nat),σ=[some (.ref a),some (.str x),some (.ref D),v3]/\AN R H' a l m/\eY a H H'/\H' D=some (.lst us)/\Paired (uG H H' D) us (as.take i)/\Rd (x.cps.toList.drop i) (as.drop i) (cl.drop m) t)
   ⟨none,[],n,rfl,⟨dx,s1 _ _ ha⟩,eY.of s1,e1,.nil,by simpa using rd⟩ ?_ ?_ ?_ ?_
  ·rintro i σ H' hi _;exact hi
  ·rintro i v σ H' H2 hi ⟨v3,us,m,rfl,hR1,bt,hD1,gv,rd1⟩ ⟨rfl,c,hc,rfl⟩;obtain⟨d1,ha1⟩:=id hR1;have hS1:=bt.seq ha hS;have hc':x.cps.toList.drop i=c::x.cps.toList.drop (i+1):=by
    have:i<x.cps.toList.length:=by rw[length_toList];exact hi
    rw[drop_eq_getElem_cons this];congr 1;have e2:x.cps.toList[i]?=some c:=by rw[getElem?_toList];exact hc
    rw[getElem?_eq_getElem this]at e2;exact Nc e2
   have hia:i<as.length:=by omega
   have ea:as.drop i=as[i]::as.drop (i+1):=drop_eq_getElem_cons hia;have eg:as[i]?=some as[i]:=getElem?_eq_getElem hia;have tk:as.take (i+1)=as.take i++[as[i]]:=aI eg;have lus:us.length<=3:=by rw[gv.length,length_take];omega
   have nDa:D≠a:=bw hD1 ha1 (by intro z;cases z);rw[hc',ea]at rd1;have no1:=qK l m (m:="take_row") (by decide +kernel) (by decide +kernel);have no2:=qK l m (m:="take_number") (by decide +kernel) (by decide +kernel);generalize as[i]=ai at rd1 tk;refine⟨_,rfl,.inl ⟨rfl,_,aH.of hD1⟩,_,rfl,c,_,rfl,rfl,_,rfl,?_⟩;rw[Ic];cases ai with
   |num z=>
    obtain⟨nr,r,er,rd2⟩:=rd1;obtain⟨g1,g2⟩:=drop_cons er;rw[decide_eq_false nr];refine⟨_,rfl,a,d1,_,rfl,ha1,no2,a,l,m,_,_,rfl,hR1,hS1,by rw[getElem?_map,g1];rfl,fun H3 hR3 b3=>?_⟩;obtain⟨d3,ha3⟩:=id hR3;have hD3:=b3 _ _ hD1 nDa;refine⟨D,_,_,rfl,rfl,hD3,by rw[sizeLine_eq];omega,?_⟩;refine⟨_,us++[.int z],m+1,rfl,⟨d3,by rw[ao nDa.symm];exact ha3⟩,fun b o e nb=>by rw[ao (ax e hD)];exact b3 _ _ (bt _ _ e nb) nb,ae,?_,by rw[g2];exact rd2⟩
    ·rw[tk];refine fc (Paired.imp gv fun v a h=>h.kept fun b xs nb e=>?_) rfl;rw[ao nb];exact b3 _ _ e (bw e ha1 (by intro z;cases z))
   |row z=>
    obtain⟨nr,r,er,rd2⟩:=rd1;obtain⟨g1,g2⟩:=drop_cons er;rw[decide_eq_true nr];have em:((cl.map V.int).drop (m+1)).take z.length=iv z:=by
     rw[<-map_drop,g2,bH,<-map_take];congr 1;show(ii z++r).take z.length=ii z;rw[List.take_append_of_le_length (by simp[ii]),take_of_length_le (by simp[ii])]
    have ed:cl.drop (m+1+z.length)=r:=by
     rw[<-List.drop_drop,g2,List.drop_append_of_le_length (by simp[ii]),List.drop_of_length_le (by simp[ii])];rfl
    refine⟨_,rfl,a,d1,_,rfl,ha1,no1,a,l,m,z.length,_,rfl,hR1,hS1,by rw[getElem?_map,g1];rfl,fun H3 p hR3 b3 fp hp=>?_⟩;rw[em]at hp;obtain⟨d3,ha3⟩:=id hR3;have hD3:=b3 _ _ hD1 nDa;have npD:p≠D:=fun z=>by rw[z,hD1]at fp;cases fp
    refine⟨D,_,_,rfl,rfl,hD3,by rw[sizeLine_eq];omega,?_⟩;refine⟨_,us++[.ref p],m+1+z.length,rfl,⟨d3,by rw[ao nDa.symm];exact ha3⟩,fun b o e nb=>by rw[ao (ax e hD)];exact b3 _ _ (bt _ _ e nb) nb,ae,?_,by rw[ed];exact rd2⟩
    ·rw[tk];refine fc (Paired.imp gv fun v a h=>h.kept fun b xs nb e=>?_) ⟨p,rfl,npD,bt.free ha1 fp,by rw[ao npD];exact hp⟩;rw[ao nb];exact b3 _ _ e (bw e ha1 (by intro z;cases z))
   |cb G=>exact rd1.elim
  ·rintro σ H' _;exact le_refl _
  ·rintro σ H' ⟨v3,us,m,rfl,hR1,bt,hD1,gv,rd1⟩;rw[take_of_length_le (by omega)]at gv;rw[List.drop_of_length_le (by rw[length_toList];exact le_refl _),List.drop_of_length_le (by omega)]at rd1;exact⟨_,rfl,k H' D us m hR1 bt hD hD1 gv rd1⟩
end
abbrev Fm:Stmt:=top 86
inductive Runs:Nat->Vg03.State->List Int->List Int->Prop
 |nil (st:Vg03.State):Runs 0 st [] []
 |cons {k:Nat} {st:Vg03.State} {c:Nat} {x:Str} {as:List Arg} {r t:List Int} {y:Vg03.State×Reply} {out:List Int}:eE c=some x->Rd x.cps.toList as r t->Due c x st as y->Runs k y.1 t out->Runs (k+1) st ((c:Int)::r) (((rp y.2).length:Int)::(rp y.2++out))
theorem Ci{c:Nat}{x:Str}(h:eE c=some x):x.cps.all (·<128)=true/\x.cps.size<=3:=by
 unfold eE at h;split at h<;>first|(cases h;done)|(obtain rfl:=Nc h;decide +kernel)
section
variable{P:Program}{w:World}{K:Frag}{mg:GmT}{base:Heap}{C R pq pp:Addr}
def yt(K:Frag)(pq pp:Addr):Sp:=fun vs H Q _=>∃(a:Addr)(cl out:List Int)(k:Nat),vs=[.ref a]/\aH K H a (cl.map V.int)/\Tb pq pp H/\Runs k Vg03.start cl out/\out.length<=10000000/\∀(H':Hp)(p:Addr),H' p=some (.lst (out.map V.int))->Q (.ref p) H'
abbrev LS:List Str:=["calls","places","reader","told","call","given"]
theorem Ds:aq LS ["calls"] (af Fm):=.m
theorem n6.but{a pl:Addr}{H H':Hp}{st:Vg03.State}{dx l:Addr}{n:Nat}(h:n6 C H pl st)(b:eY a H H')(hRC:C≠R)(ha:H a=some (.ins R dx (rf l n))):n6 C H' pl st:=by
 have kl:∀c xs,H c=some (.lst xs)->H' c=some (.lst xs):=fun c xs e=>b _ _ e (bw e ha (by intro z;cases z));have kt:∀c xs,H c=some (.tup xs)->H' c=some (.tup xs):=fun c xs e=>b _ _ e (bw e ha (by intro z;cases z));obtain⟨t,vs,e,p⟩:=h;refine⟨t,vs,kl _ _ e,Paired.imp p fun v o q=>?_⟩;cases o with
 |none=>exact q
 |some G=>
  obtain⟨g,ev,W,qo,dg,fs,hg,hf⟩:=q;obtain⟨⟨l1,t1,a1,b1,c1⟩,⟨l2,t2,a2,b2,c2⟩,⟨l3,t3,a3,b3,c3⟩,⟨l5,a5,b5⟩,⟨l4,a4,b4⟩,nm⟩:=hf;refine⟨g,ev,W,qo,dg,fs,b _ _ hg (fun z=>by rw[z,ha]at hg;cases hg;exact hRC rfl),?_⟩;exact⟨⟨l1,t1,a1,kl _ _ b1,Paired.imp c1 fun _ _ e=>kt _ _ e⟩,⟨l2,t2,a2,kl _ _ b2,Paired.imp c2 fun _ _ e=>kl _ _ e⟩,⟨l3,t3,a3,kl _ _ b3,Paired.imp c3 fun _ _ e=>kl _ _ e⟩,⟨l5,a5,kl _ _ b5⟩,⟨l4,a4,kl _ _ b4⟩,nm⟩
theorem Tb.but{a:Addr}{H H':Hp}{dx l:Addr}{n:Nat}(t:Tb pq pp H)(b:eY a H H')(ha:H a=some (.ins R dx (rf l n))):Tb pq pp H':=by
 have go:∀{P:Addr}{pos:Pos}{q:Str},km H P pos q->km H' P pos q:=fun{P pos q}x=>by
  rcases x with e|⟨c,e,r⟩
  ·exact .inl (b _ _ e (bw e ha (by intro z;cases z)))
  ·exact .inr ⟨c,b _ _ e (bw e ha (by intro z;cases z)),iJ r fun o q=>b _ _ q (bw q ha (by intro z;cases z))⟩
 exact⟨go t.q,go t.p⟩
abbrev cZ(tl:Addr):Addr->Bool:=fun b=>b==tl
theorem f7{tl b:Addr}(h:b≠tl):cZ tl b=false:=by simpa using h
theorem dF{tl b:Addr}{H:Hp}(h:b≠tl):bx (cZ tl) H b=H b:=a0 (f7 h)
theorem mJ{Z:Addr->Bool}{A B:Hp}(s:aj A B):aj (bx Z A) (bx Z B):=fun b o e=>by
 cases q:Z b with
 |true=>rw[cF q]at e;cases e
 |false=>rw[a0 q]at e ⊢;exact s _ _ e
theorem iD{Z:Addr->Bool}{a:Addr}{A B:Hp}(s:eY a A B):eY a (bx Z A) (bx Z B):=fun b o e n=>by
 cases q:Z b with
 |true=>rw[cF q]at e;cases e
 |false=>rw[a0 q]at e ⊢;exact s _ _ e n
theorem t4{Z:Addr->Bool}{A B:Hp}(h:∀b,Z b=true->B b=none):bx Z (dj Z A B)=B:=by
 funext b;cases q:Z b with
 |true=>rw[cF q,h b q]
 |false=>rw[a0 q,cE q]
theorem oJ{tl:Addr}{A:Hp}{o:HO}:bx (cZ tl) (upd A tl o)=bx (cZ tl) A:=by
 funext b;by_cases q:b=tl
 ·subst q;rw[cF (by simp),cF (by simp)]
 ·rw[dF q,dF q,ao q]
theorem zm{tl:Addr}{H:Hp}{xs:List V}(e:H tl=some (.lst xs)):Kb (cZ tl) H where
 tup:=fun b ys h=>f7 fun z=>by rw[z,e]at h;cases h
 own:=fun b x o h1 h2 h3=>by
  rw[f7 (fun z=>by rw[z,e]at h3;cases h3),f7 (fun z=>by rw[z,e]at h1;cases h1;cases h2)]
 eL:=fun b ps h=>f7 fun z=>by rw[z,e]at h;cases h
 at_:=fun b h=>by
  have:b=tl:=by simpa using h
  rw[this,e];simp
theorem uG.arg{C:Addr}{H0 H:Hp}{D tl:Addr}{v:V}(ht:H0 tl≠none):∀{a:Arg},uG H0 H D v a->kr K C (bx (cZ tl) H) v a
 |.num n,h=>h
 |.row l,⟨r,e,_,f,h⟩=>⟨r,e,aH.of (by rw[dF (fun z=>ht (by rw[<-z];exact f))];exact h)⟩
 |.cb G,h=>h.elim
theorem qG{H H':Hp}{a:Addr}{xs:List V}(k:∀b o,H b=some o->(∀ps,o≠.eL ps)->H' b=some o)(h:aH K H a xs):aH K H' a xs:=by
 rcases h with(h|⟨o,h⟩)|h
 ·exact .inl (.inl (k _ _ h (by intro ps z;cases z)))
 ·exact .inl (.inr ⟨o,k _ _ h (by intro ps z;cases z)⟩)
 ·exact .inr h
theorem ok_all{f fI:Addr}{fd fdI:FuncData}(F:bW K "answers" "answers" Fm f fd)(T6:LX mg)(TR':TR K R)(hRC:C≠R)(M:Mk K R fI)(GI:aG P w K mg base bA 1 fI fdI ["self","numbers"] (Ep R))(bI:Binds K fdI ["self","numbers"] [])(mR:mg "Reader"=some (.ref R))(M1:aK P w K mg base R "take_number" 1 ["self"] (xT K R))(ME:aK P w K mg base R "ended" 1 ["self"] (Er K R))(FT:AO K mg)(DT:ay P w K mg base "take_given" 3 ["reader","form"] (xN K R))(DA:ay P w K mg base "answer" 10 ["places","call","given"] (yr K C pq pp))(DC:ay P w K mg base "counted" 1 ["row"] (fS K)):
  aG P w K mg base bA 11 f fd ["calls"] (yt K pq pp):=by
 obtain⟨aF,kf,mF,MF,hF⟩:=FT;obtain⟨f1,fd1,m1,G1,b1⟩:=M1;obtain⟨f2,fd2,m2,G2,b2⟩:=ME;obtain⟨f3,fd3,m3,k3,G3,b3⟩:=DT;obtain⟨f4,fd4,m4,k4,G4,b4⟩:=DA;obtain⟨f5,fd5,m5,k5,G5,b5⟩:=DC;obtain⟨tp,mp⟩:=T6.three;exists F.ok Ds
 ·obtain⟨a,cl,out,k,rfl,_⟩:=h;rfl
 ·obtain⟨a,cl,out,kk,rfl,hS,tb,runs,hout,k⟩:=h;have nd:=Ds.nd;refine⟨_,ag (aC (i:=1) nd rfl (Or.inl rfl) (cI zl (aT (aa c7 ab)) (cN (v:=.int 3) rfl mp ⟨tp,rfl⟩)))
   (ag (aC (i:=2) nd rfl (Or.inl rfl) (u4 M GI (hr.mono (by decide)) rfl mR bI .nil au (aa (pv 0) ab)))
   (ag (aC (i:=3) nd rfl (Or.inl rfl) (aT ab))
   (ag (eO PassesOwn.never (fE (df (aU (pv 2) TR'.cl m2 G2 (hr.mono (by decide)) b2 .nil au)))
    (ag (aC (i:=4) nd rfl (Or.inl rfl) (aU (pv 2) TR'.cl m1 G1 (hr.mono (by decide)) b1 .nil au))
    (ag (aC (i:=5) nd rfl (Or.inl rfl) (aw G3 (hr.mono (by decide)) rfl m3 k3 b3 .nil au (aa (pv 2) (aa (jl (cN (v:=.ref aF) rfl mF rfl) (pv 4) (fun _ _=>rfl)) ab))))
    (ah (dC (fb plainAttrs_list PySem.F.slot_list_extend PySem.F.type_list_extend oI (pv 3) (aa
     (aw G5 (hr.mono (by decide)) rfl m5 k5 b5 .nil au (aa (qU G4 hr rfl m4 k4 b4 (aa (pv 1) (aa (pv 4) (aa (pv 5) ab)))) ab)) ab)))))))
   (ah (ak (pv 3)))))),?_⟩
  refine⟨tx,fun q0 hq0=>?_⟩;have s0:aj H (upd H q0 (.lst [V.cu])):=aj.upd hq0;refine⟨q0,_,_,rfl,rfl,ae,by decide,by decide,by decide,fun pl hpl=>?_⟩;have s1:=s0.trans (aj.upd (o:=.lst (replicate (3:Int).toNat [V.cu]).flatten) hpl);have e1:upd (upd H q0 (.lst [V.cu])) pl (.lst (replicate (3:Int).toNat [V.cu]).flatten) pl=some (.lst [V.cu,V.cu,V.cu]):=ae;generalize upd (upd H q0 (.lst [V.cu])) pl (.lst (replicate (3:Int).toNat [V.cu]).flatten)=H1 at s1 e1;refine⟨_,rfl,fun rd dx nr ndx nex=>⟨rd,dx,a,rfl,ae,fun H2 hR2 bt2=>⟨rfl,?_⟩⟩⟩;have s2:aj H1 H2:=aj.made nr ndx bt2;have frd:H rd=none:=s1.free nr;have fpl:H pl=none:=s0.free hpl;have npr:pl≠rd:=ax e1 nr;refine⟨(by show 0<=sizeLine;decide),fun tl htl=>?_⟩;have s3:aj H2 (upd H2 tl (.lst [])):=aj.upd htl;have e3:upd H2 tl (.lst []) tl=some (.lst (([]:List Int).map V.int)):=ae;have s12:=s1.trans s2;have ftl:H tl=none:=s12.free htl;have npt:tl≠pl:=fun z=>by rw[z,s2 _ _ e1]at htl;cases htl
  obtain⟨dr,hrd2⟩:=hR2;have hrd3:=s3 _ _ hrd2;have hpl3:=s3 _ _ (s2 _ _ e1);have s13:=s12.trans s3;generalize upd H2 tl (.lst [])=H3 at s3 e3 hrd3 hpl3 s13;have nrt:rd≠tl:=fun z=>by rw[<-z,hrd2]at htl;cases htl
  refine⟨fun m σ H'=>∃(n:Nat)(st:Vg03.State)(tol rest:List Int)(v4 v5:Option V),σ=[some (.ref a),some (.ref pl),some (.ref rd),some (.ref tl),v4,v5]/\(∀b o,H b=some o->(∀ps,o≠.eL ps)->H' b=some o)/\n6 C (bx (cZ tl) H') pl st/\AN R H' rd a n/\H' tl=some (.lst (tol.map V.int))/\Tb pq pp (bx (cZ tl) H')/\Runs m st (cl.drop n) rest/\tol++rest=out,
   ⟨kk,0,Vg03.start,[],out,none,none,rfl,fun b o e _=>s13 _ _ e,⟨rfl,_,by rw[dF npt.symm];exact hpl3,.cons rfl (.cons rfl (.cons rfl .nil))⟩,⟨dr,hrd3⟩,e3,tb.same fun b o e=>by rw[dF (ax e ftl)];exact s13 _ _ e,runs,rfl⟩,?_⟩
  rintro m σ H' ⟨n,st,tol,rest,v4,v5,rfl,kp,hP,hR,htl',tb',rn,eo⟩;obtain⟨d1,hr1⟩:=id hR;have hr1':bx (cZ tl) H' rd=some (.ins R d1 (rf a n)):=by rw[dF nrt];exact hr1
  have hS':=qG kp hS;refine⟨_,rfl,rd,d1,_,rfl,hr1,qK _ _ (by decide +kernel) (by decide +kernel),rd,a,n,_,rfl,hR,hS',_,rfl,?_⟩;rw[length_map];generalize hcl:cl.drop n=l' at rn;cases rn with
  |nil=>
   rw[decide_eq_true (List.drop_eq_nil_iff.mp hcl)];rw[append_nil]at eo;exact⟨_,rfl,k H' tl (by rw[htl',eo])⟩
  |@cons k' _ c x as r t y out' hx rdx due rn'=>
   obtain⟨g1,g2⟩:=drop_cons hcl;have hn:n<cl.length:=(Nd g1).1;rw[decide_eq_false (by omega)];obtain⟨asc,x3⟩:=Ci hx;obtain⟨u,hu,ru⟩:=hF c x hx;have lo:tol.length+((rp y.2).length+1)<=out.length:=by rw[<-eo];simp
   refine⟨fun σ' H''=>∃(n:Nat)(v4 v5:Option V),σ'=[some (.ref a),some (.ref pl),some (.ref rd),some (.ref tl),v4,v5]/\(∀b o,H b=some o->(∀ps,o≠.eL ps)->H'' b=some o)/\n6 C (bx (cZ tl) H'') pl y.1/\AN R H'' rd a n/\H'' tl=some (.lst ((tol++(((rp y.2).length:Int)::rp y.2)).map V.int))/\Tb pq pp (bx (cZ tl) H'')/\cl.drop n=t,?_,?_⟩
   ·rintro σ' H'' ⟨n',w4,w5,rfl,kp',hP',hR',ht',tb'',ec⟩;exact⟨k',lt_succ_self _,n',y.1,_,out',w4,w5,rfl,kp',hP',hR',ht',tb'',by rw[ec];exact rn',by rw[append_assoc];exact eo⟩
   ·refine⟨_,rfl,rd,d1,_,rfl,hr1,qK _ _ (by decide +kernel) (by decide +kernel),rd,a,n,_,.int (c:Nat),rfl,hR,hS',by rw[getElem?_map,g1];rfl,fun H4 hR4 b4'=>?_⟩;obtain⟨d4,hr4⟩:=id hR4;have hr4':bx (cZ tl) H4 rd=some (.ins R d4 (rf a (n+1))):=by rw[dF nrt];exact hr4
    have kp4:∀b o,H b=some o->(∀ps,o≠.eL ps)->H4 b=some o:=fun b o e q=>b4' _ _ (kp b o e q) (ax e frd);have hP4:=hP.but (iD b4') hRC hr1';have tb4:=tb'.but (iD b4') hr1';have ht4:=b4' _ _ htl' nrt.symm;refine⟨_,rfl,_,rfl,aF,_,kf,u,.str x,rfl,rfl,MF,hu,ru,rd,a,x,n+1,cl,as,t,rfl,hR4,qG kp4 hS,x3,by rw[g2];exact rdx,fun H5 D us m' hR5 b5' fD hD5 pus em=>?_⟩;obtain⟨d5,hr5⟩:=id hR5;have kp5:∀b o,H b=some o->(∀ps,o≠.eL ps)->H5 b=some o:=fun b o e q=>b5' _ _ (kp4 b o e q) (ax e frd);have hP5:=hP4.but (iD b5') hRC hr4';have tb5:=tb4.but (iD b5') hr4';have ht5:=b5' _ _ ht4 nrt.symm;have nD:D≠tl:=fun z=>by rw[z,ht4]at fD;cases fD
    refine⟨_,rfl,.inl ⟨rfl,_,aH.of ht5⟩,_,rfl,_,rfl,_,rfl,cZ tl,zm ht5,pl,D,c,x,st,us,as,y,rfl,hx,asc,x3,hP5,by rw[dF nD];exact hD5,Paired.imp pus fun _ _ h=>h.arg (by rw[ht4];simp),due,tb5,by omega,fun H6 q kx tb6 hP6 hq hz=>?_⟩;have hz':∀b,cZ tl b=true->H6 b=none:=fun b hb=>hz b hb (by
     have:b=tl:=by simpa using hb
     rw[this,ht5];simp)
    have nq:q≠tl:=fun z=>by rw[z,hz' tl (by simp)]at hq;cases hq
    have mp6:bx (cZ tl) (dj (cZ tl) H5 H6)=H6:=t4 hz';have p6:∀b,b≠tl->dj (cZ tl) H5 H6 b=H6 b:=fun b nb=>cE (f7 nb);have pt6:dj (cZ tl) H5 H6 tl=H5 tl:=fV (by simp);have old6:∀b o,H5 b=some o->b≠tl->b≠pl->(∀ps,o≠.eL ps)->dj (cZ tl) H5 H6 b=some o:=fun b o e n1 n2 n3=>by
     rw[p6 b n1];exact kx.keep b o (by rw[dF n1];exact e) n2 n3
    have hr6:=old6 _ _ hr5 nrt npr.symm (by intro ps z;cases z);have kp6:∀b o,H b=some o->(∀ps,o≠.eL ps)->dj (cZ tl) H5 H6 b=some o:=fun b o e q=>old6 b o (kp5 b o e q) (ax e ftl) (ax e fpl) q;have hq6:dj (cZ tl) H5 H6 q=some (.lst ((rp y.2).map V.int)):=by rw[p6 q nq];exact hq
    rw[<-mp6]at hP6 tb6;generalize dj (cZ tl) H5 H6=H7 at hP6 tb6 hr6 kp6 hq6 pt6;rw[ht5]at pt6;refine⟨q,_,rfl,.inl (aH.of hq6),by rw[length_map];omega,fun H8 p s8 fp hp=>?_⟩;have ht8:=s8 _ _ pt6;have hr8:=s8 _ _ hr6;have hP8:=hP6.same (mJ s8);have tb8:=tb6.same (mJ s8);refine⟨tl,p,_,_,rfl,rfl,ht8,hp,by rw[sizeLine_eq];simp;omega,?_⟩;refine⟨m',_,_,rfl,fun b o e q=>by rw[ao (ax e ftl)];exact s8 _ _ (kp6 b o e q),by rw[oJ];exact hP8,⟨d5,by rw[ao nrt];exact hr8⟩,?_,by rw[oJ];exact tb8,em⟩;rw[ae,map_append,map_cons,length_map]
end
open Vg03 (says slot)
theorem zR:(Str.ofString "k").cps.toList=[107]:=by decide +kernel
theorem rL:(Str.ofString "ki").cps.toList=[107,105]:=by decide +kernel
theorem zN:(Str.ofString "kn").cps.toList=[107,110]:=by decide +kernel
theorem zO:(Str.ofString "kk").cps.toList=[107,107]:=by decide +kernel
theorem DD:(Str.ofString "ka").cps.toList=[107,97]:=by decide +kernel
theorem mL:(Str.ofString "ks").cps.toList=[107,115]:=by decide +kernel
theorem zQ:(Str.ofString "kii").cps.toList=[107,105,105]:=by decide +kernel
theorem zP:(Str.ofString "kin").cps.toList=[107,105,110]:=by decide +kernel
theorem zM:(Str.ofString "kss").cps.toList=[107,115,115]:=by decide +kernel
theorem zS:(Str.ofString "dna").cps.toList=[100,110,97]:=by decide +kernel
theorem zT:(Str.ofString "dks").cps.toList=[100,107,115]:=by decide +kernel
theorem zU:(Str.ofString "dkk").cps.toList=[100,107,107]:=by decide +kernel
section
variable{st:Vg03.State}{g:Option Group}{k l d i j n:Nat}{G U:Group}{a s t:DW}{c:Nat}{y:Vg03.State×Reply}
theorem A9(h3:st.length=3)(h:slot st k=some G):k<3:=by
 apply byContradiction;intro q;unfold slot at h;rw[getD_eq_getElem?_getD,getElem?_eq_none (by omega)]at h;cases h
theorem jy(h:slot st k=none):a6 st g 107 (.num k)=false:=by
 show(decide (k<3)&&((107:Nat)==100||(slot st k).isSome))=false;rw[h];simp
theorem jW(h3:st.length=3)(h:slot st k=some G):a6 st g 107 (.num k)=true:=by
 show(decide (k<3)&&((107:Nat)==100||(slot st k).isSome))=true;rw[h,decide_eq_true (A9 h3 h)];rfl
theorem LG:a6 st g 100 (.num d)=decide (d<3):=by
 show(decide (d<3)&&((100:Nat)==100||(slot st d).isSome))=_;simp
theorem KD:a6 st (some G) 105 (.num i)=decide (i<G.size):=rfl
theorem KC:a6 st (some G) 115 (.row s)=Vg02.isSet G s:=rfl
theorem M9:rX st g 107 (.num k)=slot st k:=rfl
theorem wb(h:slot st k=some G):dS st (107,.num k)=.cb G:=by
 show(match slot st k with|some G=>Arg.cb G|none=>.num k)=_;rw[h]
theorem Mw:jd g 107 (.num k):=⟨fun _=>⟨k,rfl⟩,fun h=>by omega,fun h=>by omega⟩
theorem My:jd g 100 (.num d):=⟨fun _=>⟨d,rfl⟩,fun h=>by omega,fun h=>by omega⟩
theorem Mv:jd g 110 (.num n):=⟨fun h=>by omega,fun h=>by omega,fun h=>by omega⟩
theorem Mz:jd g 97 (.row a):=⟨fun h=>by omega,fun h=>by omega,fun h=>by omega⟩
theorem Mx:jd (some G) 105 (.num i):=⟨fun h=>by omega,fun _=>⟨G,i,rfl,rfl⟩,fun h=>by omega⟩
theorem Mu:jd (some G) 115 (.row s):=⟨fun h=>by omega,fun h=>by omega,fun _=>⟨G,s,rfl,rfl⟩⟩
theorem HI(h:a6 st g 107 (.num k)=true):∃G,slot st k=some G:=by
 cases e:slot st k with
 |none=>rw[jy e]at h;cases h
 |some G=>exact⟨G,rfl⟩
theorem jL{r:List (Nat×Arg)}(h:∀G,slot st k=some G->Typed st (some G) r):Typed st g ((107,.num k)::r):=by
 refine⟨Mw,fun f=>?_⟩;obtain⟨G,e⟩:=HI f;rw[M9,e];exact h G e
theorem Eb{r:List (Nat×Arg)}(h:Typed st (slot st d) r):Typed st g ((100,.num d)::r):=⟨My,fun _=>h⟩
theorem Ea{r:List (Nat×Arg)}(h:Typed st g r):Typed st g ((110,.num n)::r):=⟨Mv,fun _=>h⟩
theorem Iu{r:List (Nat×Arg)}(h:Typed st g r):Typed st g ((97,.row a)::r):=⟨Mz,fun _=>h⟩
theorem A4{r:List (Nat×Arg)}(h:Typed st (some G) r):Typed st (some G) ((105,.num i)::r):=⟨Mx,fun _=>h⟩
theorem AZ{r:List (Nat×Arg)}(h:Typed st (some G) r):Typed st (some G) ((115,.row s)::r):=⟨Mu,fun _=>h⟩
theorem eC{x:Str}{as:List Arg}{ls:DW}(e:x.cps.toList=ls)(hl:as.length=ls.length)(ty:Typed st none (ls.zip as))(h:(dN st none (ls.zip as)=false/\y=(st,says (-1)))\/(dN st none (ls.zip as)=true/\((cA c=true/\AU c st ((ls.zip as).map (dS st)) y)\/(cA c=false/\Ask c ((ls.zip as).map (dS st)) (rp y.2)/\y.1=st)))):Due c x st as y:=by
 subst e;refine⟨by rw[hl,length_toList],ty,fun f=>?_,fun f q=>?_,fun f q=>?_⟩
 ·rcases h with⟨_,h⟩|⟨h,_⟩
  ·exact h
  ·rw[h]at f;cases f
 ·rcases h with⟨h,_⟩|⟨_,⟨_,h⟩|⟨h,_⟩⟩
  ·rw[h]at f;cases f
  ·exact h
  ·rw[h]at q;cases q
 ·rcases h with⟨h,_⟩|⟨_,⟨h,_⟩|⟨_,h⟩⟩
  ·rw[h]at f;cases f
  ·rw[h]at q;cases q
  ·exact h
theorem J3(h3:st.length=3)(hc:cA c=false)(h0:slot st k=none->y=(st,says (-1)))(h1:∀G,slot st k=some G->Ask c [.cb G] (rp y.2)/\y.1=st):Due c "k" st [.num k] y:=by
 refine eC zR rfl (jL fun _ _=>trivial) ?_;show(a6 st none 107 (.num k)&&true)=false/\_\/(a6 st none 107 (.num k)&&true)=true/\_;cases e:slot st k with
 |none=>rw[jy e];exact .inl ⟨rfl,h0 e⟩
 |some G=>
  rw[jW h3 e];refine .inr ⟨rfl,.inr ⟨hc,?_⟩⟩;show Ask c [dS st (107,.num k)] _/\_;rw[wb e];exact h1 G e
theorem HQ(h3:st.length=3)(hc:cA c=false)(h0:slot st k=none->y=(st,says (-1)))(h1:∀G,slot st k=some G->Ask c [.cb G,.num n] (rp y.2)/\y.1=st):Due c "kn" st [.num k,.num n] y:=by
 refine eC zN rfl (jL fun _ _=>Ea trivial) ?_;show(a6 st none 107 (.num k)&&true)=false/\_\/(a6 st none 107 (.num k)&&true)=true/\_;cases e:slot st k with
 |none=>rw[jy e];exact .inl ⟨rfl,h0 e⟩
 |some G=>
  rw[jW h3 e];refine .inr ⟨rfl,.inr ⟨hc,?_⟩⟩;show Ask c [dS st (107,.num k),.num n] _/\_;rw[wb e];exact h1 G e
theorem HS(h3:st.length=3)(hc:cA c=false)(h0:slot st k=none->y=(st,says (-1)))(h1:∀G,slot st k=some G->Ask c [.cb G,.row a] (rp y.2)/\y.1=st):Due c "ka" st [.num k,.row a] y:=by
 refine eC DD rfl (jL fun _ _=>Iu trivial) ?_;show(a6 st none 107 (.num k)&&true)=false/\_\/(a6 st none 107 (.num k)&&true)=true/\_;cases e:slot st k with
 |none=>rw[jy e];exact .inl ⟨rfl,h0 e⟩
 |some G=>
  rw[jW h3 e];refine .inr ⟨rfl,.inr ⟨hc,?_⟩⟩;show Ask c [dS st (107,.num k),.row a] _/\_;rw[wb e];exact h1 G e
theorem HR(h3:st.length=3)(hc:cA c=false)(h0:slot st k=none->y=(st,says (-1)))(h2:∀G,slot st k=some G->¬i<G.size->y=(st,says (-1)))(h1:∀G,slot st k=some G->i<G.size->Ask c [.cb G,.num i] (rp y.2)/\y.1=st):Due c "ki" st [.num k,.num i] y:=by
 refine eC rL rfl (jL fun _ _=>A4 trivial) ?_;show(a6 st none 107 (.num k)&&(a6 st (slot st k) 105 (.num i)&&true))=false/\_\/(a6 st none 107 (.num k)&&(a6 st (slot st k) 105 (.num i)&&true))=true/\_;cases e:slot st k with
 |none=>rw[jy e];exact .inl ⟨rfl,h0 e⟩
 |some G=>
  rw[jW h3 e,KD];by_cases q:i<G.size
  ·rw[decide_eq_true q];refine .inr ⟨rfl,.inr ⟨hc,?_⟩⟩;show Ask c [dS st (107,.num k),.num i] _/\_;rw[wb e];exact h1 G e q
  ·rw[decide_eq_false q];exact .inl ⟨rfl,h2 G e q⟩
theorem Cn(h3:st.length=3)(hc:cA c=false)(h0:slot st k=none->y=(st,says (-1)))(h2:∀G,slot st k=some G->¬i<G.size->y=(st,says (-1)))(h1:∀G,slot st k=some G->i<G.size->Ask c [.cb G,.num i,.num n] (rp y.2)/\y.1=st):Due c "kin" st [.num k,.num i,.num n] y:=by
 refine eC zP rfl (jL fun _ _=>A4 (Ea trivial)) ?_;show(a6 st none 107 (.num k)&&(a6 st (slot st k) 105 (.num i)&&true))=false/\_\/(a6 st none 107 (.num k)&&(a6 st (slot st k) 105 (.num i)&&true))=true/\_;cases e:slot st k with
 |none=>rw[jy e];exact .inl ⟨rfl,h0 e⟩
 |some G=>
  rw[jW h3 e,KD];by_cases q:i<G.size
  ·rw[decide_eq_true q];refine .inr ⟨rfl,.inr ⟨hc,?_⟩⟩;show Ask c [dS st (107,.num k),.num i,.num n] _/\_;rw[wb e];exact h1 G e q
  ·rw[decide_eq_false q];exact .inl ⟨rfl,h2 G e q⟩
theorem Cp(h3:st.length=3)(hc:cA c=false)(h0:slot st k=none->y=(st,says (-1)))(h2:∀G,slot st k=some G->¬(i<G.size/\j<G.size)->y=(st,says (-1)))(h1:∀G,slot st k=some G->i<G.size->j<G.size->Ask c [.cb G,.num i,.num j] (rp y.2)/\y.1=st):Due c "kii" st [.num k,.num i,.num j] y:=by
 refine eC zQ rfl (jL fun _ _=>A4 (A4 trivial)) ?_;show(a6 st none 107 (.num k)&&(a6 st (slot st k) 105 (.num i)&&(a6 st (slot st k) 105 (.num j)&&true)))=false/\_\/(a6 st none 107 (.num k)&&(a6 st (slot st k) 105 (.num i)&&(a6 st (slot st k) 105 (.num j)&&true)))=true/\_;cases e:slot st k with
 |none=>rw[jy e];exact .inl ⟨rfl,h0 e⟩
 |some G=>
  rw[jW h3 e,KD,KD];by_cases q:i<G.size
  ·by_cases q':j<G.size
   ·rw[decide_eq_true q,decide_eq_true q'];refine .inr ⟨rfl,.inr ⟨hc,?_⟩⟩;show Ask c [dS st (107,.num k),.num i,.num j] _/\_;rw[wb e];exact h1 G e q q'
   ·rw[decide_eq_false q',decide_eq_true q];exact .inl ⟨rfl,h2 G e fun z=>q' z.2⟩
  ·rw[decide_eq_false q];exact .inl ⟨rfl,h2 G e fun z=>q z.1⟩
theorem HP(h3:st.length=3)(hc:cA c=false)(h0:slot st k=none->y=(st,says (-1)))(h2:∀G,slot st k=some G->¬Vg02.isSet G s=true->y=(st,says (-1)))(h1:∀G,slot st k=some G->Vg02.isSet G s=true->Ask c [.cb G,.row s] (rp y.2)/\y.1=st):Due c "ks" st [.num k,.row s] y:=by
 refine eC mL rfl (jL fun _ _=>AZ trivial) ?_;show(a6 st none 107 (.num k)&&(a6 st (slot st k) 115 (.row s)&&true))=false/\_\/(a6 st none 107 (.num k)&&(a6 st (slot st k) 115 (.row s)&&true))=true/\_;cases e:slot st k with
 |none=>rw[jy e];exact .inl ⟨rfl,h0 e⟩
 |some G=>
  rw[jW h3 e,KC];by_cases q:Vg02.isSet G s=true
  ·rw[q];refine .inr ⟨rfl,.inr ⟨hc,?_⟩⟩;show Ask c [dS st (107,.num k),.row s] _/\_;rw[wb e];exact h1 G e q
  ·have q':Vg02.isSet G s=false:=by simpa using q
   rw[q'];exact .inl ⟨rfl,h2 G e q⟩
theorem Cm(h3:st.length=3)(hc:cA c=false)(h0:slot st k=none->y=(st,says (-1)))(h2:∀G,slot st k=some G->¬(Vg02.isSet G s=true/\Vg02.isSet G t=true)->y=(st,says (-1)))(h1:∀G,slot st k=some G->Vg02.isSet G s=true->Vg02.isSet G t=true->Ask c [.cb G,.row s,.row t] (rp y.2)/\y.1=st):
  Due c "kss" st [.num k,.row s,.row t] y:=by
 refine eC zM rfl (jL fun _ _=>AZ (AZ trivial)) ?_;show(a6 st none 107 (.num k)&&(a6 st (slot st k) 115 (.row s)&&(a6 st (slot st k) 115 (.row t)&&true)))=false/\_\/(a6 st none 107 (.num k)&&(a6 st (slot st k) 115 (.row s)&&(a6 st (slot st k) 115 (.row t)&&true)))=true/\_;cases e:slot st k with
 |none=>rw[jy e];exact .inl ⟨rfl,h0 e⟩
 |some G=>
  rw[jW h3 e,KC,KC];by_cases q:Vg02.isSet G s=true
  ·by_cases q2:Vg02.isSet G t=true
   ·rw[q,q2];refine .inr ⟨rfl,.inr ⟨hc,?_⟩⟩;show Ask c [dS st (107,.num k),.row s,.row t] _/\_;rw[wb e];exact h1 G e q q2
   ·have q':Vg02.isSet G t=false:=by simpa using q2
    rw[q',q];exact .inl ⟨rfl,h2 G e fun z=>q2 z.2⟩
  ·have q':Vg02.isSet G s=false:=by simpa using q
   rw[q'];exact .inl ⟨rfl,h2 G e fun z=>q z.1⟩
theorem Av(h3:st.length=3)(hc:cA c=false)(h0:slot st k=none->y=(st,says (-1)))(h2:∀G,slot st k=some G->slot st l=none->y=(st,says (-1)))(h1:∀G U,slot st k=some G->slot st l=some U->Ask c [.cb G,.cb U] (rp y.2)/\y.1=st):Due c "kk" st [.num k,.num l] y:=by
 refine eC zO rfl (jL fun _ _=>jL fun _ _=>trivial) ?_;show(a6 st none 107 (.num k)&&(a6 st (slot st k) 107 (.num l)&&true))=false/\_\/(a6 st none 107 (.num k)&&(a6 st (slot st k) 107 (.num l)&&true))=true/\_;cases e:slot st k with
 |none=>rw[jy e];exact .inl ⟨rfl,h0 e⟩
 |some G=>
  rw[jW h3 e];cases e2:slot st l with
  |none=>rw[jy e2];exact .inl ⟨rfl,h2 G e e2⟩
  |some U=>
   rw[jW h3 e2];refine .inr ⟨rfl,.inr ⟨hc,?_⟩⟩;show Ask c [dS st (107,.num k),dS st (107,.num l)] _/\_;rw[wb e,wb e2];exact h1 G U e e2
theorem Cq(hc:cA c=true)(h0:¬d<3->y=(st,says (-1)))(h1:d<3->AU c st [.num d,.num n,.row a] y):Due c "dna" st [.num d,.num n,.row a] y:=by
 refine eC zS rfl (Eb (Ea (Iu trivial))) ?_;show(a6 st none 100 (.num d)&&true)=false/\_\/(a6 st none 100 (.num d)&&true)=true/\_;rw[LG];by_cases q:d<3
 ·rw[decide_eq_true q];exact .inr ⟨rfl,.inl ⟨hc,h1 q⟩⟩
 ·rw[decide_eq_false q];exact .inl ⟨rfl,h0 q⟩
theorem Cr(h3:st.length=3)(hc:cA c=true)(h0:¬d<3->y=(st,says (-1)))(h2:slot st k=none->y=(st,says (-1)))(h4:∀G,slot st k=some G->¬Vg02.isSet G s=true->y=(st,says (-1)))(h1:∀G,d<3->slot st k=some G->Vg02.isSet G s=true->AU c st [.num d,.cb G,.row s] y):
  Due c "dks" st [.num d,.num k,.row s] y:=by
 refine eC zT rfl (Eb (jL fun _ _=>AZ trivial)) ?_;show(a6 st none 100 (.num d)&&(a6 st (slot st d) 107 (.num k)&&(a6 st (slot st k) 115 (.row s)&&true)))=false/\_\/(a6 st none 100 (.num d)&&(a6 st (slot st d) 107 (.num k)&&(a6 st (slot st k) 115 (.row s)&&true)))=true/\_;rw[LG];by_cases q:d<3
 ·rw[decide_eq_true q];cases e:slot st k with
  |none=>rw[jy e];exact .inl ⟨rfl,h2 e⟩
  |some G=>
   rw[jW h3 e,KC];by_cases r:Vg02.isSet G s=true
   ·rw[r];refine .inr ⟨rfl,.inl ⟨hc,?_⟩⟩;show AU c st [.num d,dS st (107,.num k),.row s] y;rw[wb e];exact h1 G q e r
   ·have r':Vg02.isSet G s=false:=by simpa using r
    rw[r'];exact .inl ⟨rfl,h4 G e r⟩
 ·rw[decide_eq_false q];exact .inl ⟨rfl,h0 q⟩
theorem Cs(h3:st.length=3)(hc:cA c=true)(h0:¬d<3->y=(st,says (-1)))(h2:slot st k=none->y=(st,says (-1)))(h4:slot st l=none->y=(st,says (-1)))(h1:∀G U,d<3->slot st k=some G->slot st l=some U->AU c st [.num d,.cb G,.cb U] y):
  Due c "dkk" st [.num d,.num k,.num l] y:=by
 refine eC zU rfl (Eb (jL fun _ _=>jL fun _ _=>trivial)) ?_;show(a6 st none 100 (.num d)&&(a6 st (slot st d) 107 (.num k)&&(a6 st (slot st k) 107 (.num l)&&true)))=false/\_\/(a6 st none 100 (.num d)&&(a6 st (slot st d) 107 (.num k)&&(a6 st (slot st k) 107 (.num l)&&true)))=true/\_;rw[LG];by_cases q:d<3
 ·rw[decide_eq_true q];cases e:slot st k with
  |none=>rw[jy e];exact .inl ⟨rfl,h2 e⟩
  |some G=>
   rw[jW h3 e];cases e2:slot st l with
   |none=>rw[jy e2];exact .inl ⟨rfl,h4 e2⟩
   |some U=>
    rw[jW h3 e2];refine .inr ⟨rfl,.inl ⟨hc,?_⟩⟩;show AU c st [.num d,dS st (107,.num k),dS st (107,.num l)] y;rw[wb e,wb e2];exact h1 G U q e e2
 ·rw[decide_eq_false q];exact .inl ⟨rfl,h0 q⟩
end
open Vg03 (says slot ofGroup ofElement ofSet)
section
variable{st:Vg03.State}{k l d i j n:Nat}{a s t:DW}{c:Nat}{f:Group->Reply}
theorem gF(h:slot st k=none):ofGroup st k f=(st,says (-1)):=by unfold ofGroup;rw[h]
theorem dE{G:Group}(h:slot st k=some G):ofGroup st k f=(st,f G):=by unfold ofGroup;rw[h]
theorem pJ(h:slot st k=none):ofElement st k i f=(st,says (-1)):=gF h
theorem tX{G:Group}(h:slot st k=some G)(q:¬i<G.size):ofElement st k i f=(st,says (-1)):=by unfold ofElement;rw[dE h,if_neg q]
theorem vh{G:Group}(h:slot st k=some G)(q:i<G.size):ofElement st k i f=(st,f G):=by unfold ofElement;rw[dE h,if_pos q]
theorem vb(h:slot st k=none):ofSet st k s f=(st,says (-1)):=gF h
theorem zg{G:Group}(h:slot st k=some G)(q:¬Vg02.isSet G s=true):ofSet st k s f=(st,says (-1)):=by unfold ofSet;rw[dE h,if_neg q]
theorem zh{G:Group}(h:slot st k=some G)(q:Vg02.isSet G s=true):ofSet st k s f=(st,f G):=by unfold ofSet;rw[dE h,if_pos q]
theorem Ct(h3:st.length=3)(hc:cA c=false)(h:∀G,Ask c [.cb G] (rp (f G))):Due c "k" st [.num k] (ofGroup st k f):=
 J3 h3 hc gF fun G e=>by rw[dE e];exact⟨h G,rfl⟩
theorem DO(h3:st.length=3)(hc:cA c=false)(h:∀G,Ask c [.cb G,.num n] (rp (f G))):Due c "kn" st [.num k,.num n] (ofGroup st k f):=
 HQ h3 hc gF fun G e=>by rw[dE e];exact⟨h G,rfl⟩
theorem J4(h3:st.length=3)(hc:cA c=false)(h:∀G,Ask c [.cb G,.row a] (rp (f G))):Due c "ka" st [.num k,.row a] (ofGroup st k f):=
 HS h3 hc gF fun G e=>by rw[dE e];exact⟨h G,rfl⟩
theorem vO(h3:st.length=3)(hc:cA c=false)(h:∀G,i<G.size->Ask c [.cb G,.num i] (rp (f G))):Due c "ki" st [.num k,.num i] (ofElement st k i f):=
 HR h3 hc pJ (fun G e q=>tX e q) fun G e q=>by rw[vh e q];exact⟨h G q,rfl⟩
theorem HV(h3:st.length=3)(hc:cA c=false)(h:∀G,i<G.size->Ask c [.cb G,.num i,.num n] (rp (f G))):Due c "kin" st [.num k,.num i,.num n] (ofElement st k i f):=
 Cn h3 hc pJ (fun G e q=>tX e q) fun G e q=>by rw[vh e q];exact⟨h G q,rfl⟩
theorem oT(h3:st.length=3)(hc:cA c=false)(h:∀G,Vg02.isSet G s=true->Ask c [.cb G,.row s] (rp (f G))):Due c "ks" st [.num k,.row s] (ofSet st k s f):=
 HP h3 hc vb (fun G e q=>zg e q) fun G e q=>by rw[zh e q];exact⟨h G q,rfl⟩
theorem d1(hl:a.length<=60):Due 1 "dna" st [.num d,.num n,.row a] (Vg03.step st (.make d n a)):=by
 refine Cq rfl (fun q=>?_) fun q=>⟨d,n,a,rfl,q,hl,rfl⟩;show(if 3<=d\/n=0\/6<n then(st,says (-1))else _)=_;rw[if_pos (.inl (by omega))]
theorem d6(h3:st.length=3):Due 6 "kii" st [.num k,.num i,.num j] (Vg03.step st (.times k i j)):=by
 refine Cp h3 rfl pJ (fun G e q=>?_) fun G e q r=>?_
 ·by_cases q1:i<G.size
  ·show ofElement st k i (fun(G:Group)=>if j<G.size then says (G.times i j:Nat)else says (-1))=_;rw[vh e q1];show(st,if j<G.size then says (G.times i j:Nat)else says (-1))=_;rw[if_neg (fun z=>q ⟨q1,z⟩)]
  ·exact tX e q1
 ·have e2:Vg03.step st (.times k i j)=(st,says (G.times i j:Nat)):=by
   show ofElement st k i (fun(G:Group)=>if j<G.size then says (G.times i j:Nat)else says (-1))=_;rw[vh e q];show(st,if j<G.size then says (G.times i j:Nat)else says (-1))=_;rw[if_pos r]
  rw[e2];exact⟨⟨G,i,j,rfl,q,r,rfl⟩,rfl⟩
theorem LL(h3:st.length=3):Due 15 "kss" st [.num k,.row s,.row t] (Vg03.step st (.mixed k s t)):=by
 refine Cm h3 rfl vb (fun G e q=>?_) fun G e q r=>?_
 ·by_cases q1:Vg02.isSet G s=true
  ·show ofSet st k s (fun(G:Group)=>if Vg02.isSet G t=true then Vg03.lists (Vg02.mixed G s t)else says (-1))=_;rw[zh e q1];show(st,if Vg02.isSet G t=true then Vg03.lists (Vg02.mixed G s t)else says (-1))=_;rw[if_neg (fun z=>q ⟨q1,z⟩)]
  ·exact zg e q1
 ·have e2:Vg03.step st (.mixed k s t)=(st,Vg03.lists (Vg02.mixed G s t)):=by
   show ofSet st k s (fun(G:Group)=>if Vg02.isSet G t=true then Vg03.lists (Vg02.mixed G s t)else says (-1))=_;rw[zh e q];show(st,if Vg02.isSet G t=true then Vg03.lists (Vg02.mixed G s t)else says (-1))=_;rw[if_pos r]
  rw[e2];exact⟨⟨G,s,t,rfl,q,r,rfl⟩,rfl⟩
theorem LK(h3:st.length=3):Due 22 "dks" st [.num d,.num k,.row s] (Vg03.step st (.over d k s)):=by
 have e0:Vg03.step st (.over d k s)=match slot st k with
  |none=>(st,says (-1))
  |some G=>if 3<=d\/Vg02.isSet G s=false then(st,says (-1))else if Vg02.isNormal G s=false then(st,says (-2))else Vg03.put st d (Vg02.over G s) (-3):=rfl
 refine Cr h3 rfl (fun q=>?_) (fun e=>?_) (fun G e q=>?_) fun G q e r=>⟨d,G,s,rfl,q,r,?_⟩
 ·rw[e0];cases e:slot st k with
  |none=>rfl
  |some G=>
   show(if 3<=d\/_ then _ else _)=_;rw[if_pos (.inl (by omega))]
 ·rw[e0,e]
 ·rw[e0,e];show(if 3<=d\/_ then _ else _)=_;rw[if_pos (.inr (by simpa using q))]
 ·rw[e0,e];show(if 3<=d\/_ then _ else _)=_;rw[if_neg (by rw[r];simp;omega)]
theorem LJ(h3:st.length=3):Due 23 "dkk" st [.num d,.num k,.num l] (Vg03.step st (.pairs d k l)):=by
 have e0:Vg03.step st (.pairs d k l)=match slot st k,slot st l with
  |some G,some H=>if 3<=d then(st,says (-1))else Vg03.put st d (Vg02.pairs G H) (-3)
  |_,_=>(st,says (-1)):=rfl
 refine Cs h3 rfl (fun q=>?_) (fun e=>?_) (fun e=>?_) fun G U q e r=>⟨d,G,U,rfl,q,?_⟩
 ·rw[e0];cases e:slot st k with
  |none=>rfl
  |some G=>
   cases e2:slot st l with
   |none=>rfl
   |some U=>
    show(if 3<=d then _ else _)=_;rw[if_pos (by omega)]
 ·rw[e0,e]
 ·rw[e0,e];cases slot st k<;>rfl
 ·rw[e0,e,r];show(if 3<=d then _ else _)=_;rw[if_neg (by omega)]
theorem KI(h3:st.length=3):Due 24 "kk" st [.num k,.num l] (Vg03.step st (.same k l)):=by
 have e0:Vg03.step st (.same k l)=ofGroup st k fun(G:Group)=>match slot st l with
  |none=>says (-1)
  |some H=>if tooMany G H=true then says (-6)else match Vg02.same G H with
   |some m=>⟨1,m⟩
   |none=>says 0:=rfl
 refine Av h3 rfl gF (fun G e q=>?_) fun G U e q=>?_
 ·rw[e0,dE e,q]
 ·rw[e0,dE e,q];exact⟨⟨G,U,rfl,rfl⟩,rfl⟩
theorem KH(h3:st.length=3):Due 25 "kk" st [.num k,.num l] (Vg03.step st (.maps k l)):=by
 have e0:Vg03.step st (.maps k l)=ofGroup st k fun(G:Group)=>match slot st l with
  |none=>says (-1)
  |some H=>if tooMany G H=true then says (-6)else says ((Vg02.maps G H).length:Nat):=rfl
 refine Av h3 rfl gF (fun G e q=>?_) fun G U e q=>?_
 ·rw[e0,dE e,q]
 ·rw[e0,dE e,q];exact⟨⟨G,U,rfl,rfl⟩,rfl⟩
theorem ck:(ofGroup st k f).1=st:=by
 unfold ofGroup;cases slot st k<;>rfl
theorem lV{x:Option Group}{z:Int}(h3:st.length=3):(Vg03.put st d x z).1.length=3:=by
 cases x with
 |none=>exact h3
 |some G=>
  show(st.set d (some G)).length=3;rw[length_set];exact h3
theorem l1(h3:st.length=3):(Vg03.step st (.make d n a)).1.length=3:=by
 show(if 3<=d\/n=0\/6<n then(st,says (-1))else match Vg01.shuffles n a with
  |none=>(st,says (-1))
  |some l=>Vg03.put st d (ofShuffles n l) (-3)).1.length=3
 split
 ·exact h3
 ·split
  ·exact h3
  ·exact lV h3
theorem M7(h3:st.length=3):(Vg03.step st (.over d k s)).1.length=3:=by
 show(match slot st k with
  |none=>(st,says (-1))
  |some G=>if 3<=d\/Vg02.isSet G s=false then(st,says (-1))else if Vg02.isNormal G s=false then(st,says (-2))else Vg03.put st d (Vg02.over G s) (-3)).1.length=3
 split
 ·exact h3
 ·split
  ·exact h3
  ·split
   ·exact h3
   ·exact lV h3
theorem M6(h3:st.length=3):(Vg03.step st (.pairs d k l)).1.length=3:=by
 show(match slot st k,slot st l with
  |some G,some H=>if 3<=d then(st,says (-1))else Vg03.put st d (Vg02.pairs G H) (-3)
  |_,_=>(st,says (-1))).1.length=3
 split
 ·split
  ·exact h3
  ·exact lV h3
 ·exact h3
end
theorem yK{l x s:List Int}(h:PyFlat.row l=some (x,s)):l=(x.length:Int)::(x++s):=by
 cases l with
 |nil=>cases h
 |cons n r=>
  have h:(if 0<=n/\n.toNat<=r.length then some (r.take n.toNat,r.drop n.toNat)else none)=some (x,s):=h;by_cases c:0<=n/\n.toNat<=r.length
  ·rw[if_pos c]at h;obtain⟨rfl,rfl⟩:=Nh (Nc h);rw[take_append_drop,length_take,min_eq_left c.2];congr 1;omega
  ·rw[if_neg c]at h;cases h
theorem jN{l t:List Int}{xs:List (List Int)}(h:PyFlat.rows 0 l=some (xs,t)):xs=[]/\l=t:=by
 obtain⟨rfl,rfl⟩:=Nh (Nc h);exact⟨rfl,rfl⟩
theorem Fu{k:Nat}{l t:List Int}{xs:List (List Int)}(h:PyFlat.rows (k+1) l=some (xs,t)):∃x ys s,xs=x::ys/\l=(x.length:Int)::(x++s)/\PyFlat.rows k s=some (ys,t):=by
 unfold PyFlat.rows at h;split at h
 ·cases h
 ·next x s e=>
  split at h
  ·cases h
  ·next ys u e2=>
   obtain⟨rfl,rfl⟩:=Nh (Nc h);exact⟨x,ys,s,rfl,yK e,e2⟩
theorem tY{r:List Int}(h:¬r.length<1):∃z q,r=z::q/\r.take 1=[z]/\r.drop 1=q:=by
 match r,h with
 |z::q,_=>exact⟨z,q,rfl,rfl,rfl⟩
theorem zu{r:List Int}(h:¬r.length<2):∃z w q,r=z::w::q/\r.take 2=[z,w]/\r.drop 2=q:=by
 match r,h with
 |z::w::q,_=>exact⟨z,w,q,rfl,rfl,rfl⟩
 |[z],h=>exact absurd (by simp) h
 |[],h=>exact absurd (by simp) h
theorem Hx{r:List Int}(h:¬r.length<3):∃z w v q,r=z::w::v::q/\r.take 3=[z,w,v]/\r.drop 3=q:=by
 match r,h with
 |z::w::v::q,_=>exact⟨z,w,v,q,rfl,rfl,rfl⟩
 |[z,w],h=>exact absurd (by simp) h
 |[z],h=>exact absurd (by simp) h
 |[],h=>exact absurd (by simp) h
theorem eR{z:Int}(h:0<=z):∃n:Nat,z=n:=⟨z.toNat,by omega⟩
theorem DH:∀{x:List Int},(∀z∈x,0<=z)->∃s:DW,x=ii s
 |[],_=>⟨[],rfl⟩
 |z::x,h=>by
  obtain⟨n,rfl⟩:=eR (h z mem_cons_self)
  obtain⟨s,rfl⟩:=DH (x:=x) fun w hw=>h w (mem_cons_of_mem _ hw)
  exact⟨n::s,rfl⟩
theorem Ag(s:DW):(ii s).length=s.length:=by simp[ii]
theorem eQ(n:Nat):nat? (n:Int)=some n:=by
 unfold nat?;rw[if_pos (by omega)];rfl
theorem jo:∀s:DW,nats? (ii s)=some s
 |[]=>rfl
 |n::s=>by
  have:=jo s
  unfold nats? at this ⊢
  show(List.mapM nat? ((n:Int)::ii s))=_
  rw[List.mapM_cons,eQ,this];rfl
theorem gw{hi z:Int}(h:PyInside.within 0 hi z=true):0<=z:=by
 unfold PyInside.within at h;rw[and_eq_true]at h;exact of_decide_eq_true h.1
abbrev MX:Int:=4294967295
theorem qa{z:Int}(h:PyInside.each [(0,MX)] [z]=true):0<=z:=gw (Bool.and_eq_true_iff.mp h).1
theorem uq{z w:Int}(h:PyInside.each [(0,MX),(0,MX)] [z,w]=true):0<=z/\0<=w:=⟨gw (Bool.and_eq_true_iff.mp h).1,qa (Bool.and_eq_true_iff.mp h).2⟩
theorem HM{z w v:Int}(h:PyInside.each [(0,MX),(0,MX),(0,MX)] [z,w,v]=true):0<=z/\0<=w/\0<=v:=⟨gw (Bool.and_eq_true_iff.mp h).1,uq (Bool.and_eq_true_iff.mp h).2⟩
theorem Ca{x:List Int}{b:List (Int×Int×Nat×Nat)}{xs:List (List Int)}(h:PyInside.lists ((0,255,0,60)::b) (x::xs)=true):(x.length<=60/\∀z∈x,0<=z)/\PyInside.lists b xs=true:=by
 have h:(decide (0<=x.length)&&decide (x.length<=60)&&x.all (PyInside.within 0 255)&&PyInside.lists b xs)=true:=h;rw[and_eq_true,and_eq_true,and_eq_true]at h;exact⟨⟨of_decide_eq_true h.1.1.2,fun z hz=>gw (List.all_eq_true.mp h.1.2 z hz)⟩,h.2⟩
theorem inside{p:Int}{zs:List Int}{xs:List (List Int)}{bs:List (Int×Int)}{ls:List (Int×Int×Nat×Nat)}(h:PyInside.call PyWqbaaz.bound ((p::zs)::xs)=true)(e:PyWqbaaz.bound p=(bs,ls)):PyInside.each bs zs=true/\PyInside.lists ls xs=true:=by
 have h:(PyInside.each (PyWqbaaz.bound p).1 zs&&PyInside.lists (PyWqbaaz.bound p).2 xs)=true:=h;rw[e,and_eq_true]at h;exact h
theorem ot{st:Vg03.State}{c:VeilNeutral.Call}{x:Call}(h:callOf c=some x):VeilNeutral.step st c=((Vg03.step st x).1,rp (Vg03.step st x).2):=by
 unfold VeilNeutral.step;rw[h];rfl
theorem yw{p:Int}{q:Nat×Nat}(h:PyWqbaaz.shape p=some q):p=1\/p=2\/p=3\/p=4\/p=5\/p=6\/p=7\/p=8\/p=9\/p=10\/p=11\/p=12\/p=13\/p=14\/p=15\/p=16\/p=17\/p=18\/p=19\/p=20\/p=21\/p=22\/p=23\/p=24\/p=25:=by
 apply byContradiction;intro z;simp only[not_or]at z;obtain⟨z1,z2,z3,z4,z5,z6,z7,z8,z9,z10,z11,z12,z13,z14,z15,z16,z17,z18,z19,z20,z21,z22,z23,z24,z25⟩:=z;unfold PyWqbaaz.shape at h;rw[if_neg z1,if_neg z2,if_neg z3,if_neg z4,if_neg z5,if_neg z6,if_neg z7,if_neg z8,if_neg z9,if_neg z10,if_neg z11,if_neg z12,if_neg z13,if_neg z14,if_neg z15,if_neg z16,if_neg z17,if_neg z18,if_neg z19,if_neg z20,if_neg z21,if_neg z22,if_neg z23,if_neg z24,if_neg z25]at h;cases h
def One(st:Vg03.State)(p:Int)(r t:List Int)(c:List (List Int)):Prop:=∃(cn:Nat)(x:Str)(as:List Arg)(y:Vg03.State×Reply),p=(cn:Int)/\eE cn=some x/\Rd x.cps.toList as r t/\Due cn x st as y/\VeilNeutral.step st c=(y.1,rp y.2)/\y.1.length=3/\PyWqbaaz.whole c=c
section
variable{st:Vg03.State}{c:Nat}{x:Str}{r t:List Int}{xs:List (List Int)}
def uH(st:Vg03.State)(c:Nat)(x:Str)(as:List Arg)(cl:Call):Prop:=Due c x st as (Vg03.step st cl)/\(Vg03.step st cl).1.length=3
theorem bC{as:List Arg}{cl:Call}(h3:st.length=3)(d:Due c x st as (Vg03.step st cl))(e:(Vg03.step st cl).1=st):uH st c x as cl:=⟨d,by rw[e];exact h3⟩
abbrev AS(n:Nat):Prop:=¬(n=97\/n=115)
abbrev Ky(n:Nat):Prop:=n=97\/n=115
theorem Kv{l1:Nat}(cl:Nat->Call)(hx:eE c=some x)(hb:PyWqbaaz.bound c=([(0,MX)],[]))(ls:x.cps.toList=[l1])(n1:AS l1)(ec:∀a:Nat,callOf [[(c:Int),(a:Int)]]=some (cl a))(hw:∀a:Nat,PyWqbaaz.whole [[(c:Int),(a:Int)]]=[[(c:Int),(a:Int)]])(fi:∀a,uH st c x [.num a] (cl a))(hl:¬r.length<1)(hr:PyFlat.rows 0 (r.drop 1)=some (xs,t))(hi:PyInside.call PyWqbaaz.bound (((c:Int)::r.take 1)::xs)=true):One st c r t (((c:Int)::r.take 1)::xs):=by
 obtain⟨z,q,rfl,e1,e2⟩:=tY hl;rw[e1]at hi ⊢;rw[e2]at hr;obtain⟨hb1,hb2⟩:=inside hi hb;obtain⟨a,rfl⟩:=eR (qa hb1);obtain⟨rfl,rfl⟩:=jN hr;refine⟨c,x,[.num a],_,rfl,hx,?_,(fi a).1,ot (ec a),(fi a).2,hw a⟩;rw[ls];exact⟨n1,_,rfl,rfl⟩
theorem Dx{l1 l2:Nat}(cl:Nat->Nat->Call)(hx:eE c=some x)(hb:PyWqbaaz.bound c=([(0,MX),(0,MX)],[]))(ls:x.cps.toList=[l1,l2])(n1:AS l1)(n2:AS l2)(ec:∀a b:Nat,callOf [[(c:Int),(a:Int),(b:Int)]]=some (cl a b))(hw:∀a b:Nat,PyWqbaaz.whole [[(c:Int),(a:Int),(b:Int)]]=[[(c:Int),(a:Int),(b:Int)]])(fi:∀a b,uH st c x [.num a,.num b] (cl a b))(hl:¬r.length<2)(hr:PyFlat.rows 0 (r.drop 2)=some (xs,t))(hi:PyInside.call PyWqbaaz.bound (((c:Int)::r.take 2)::xs)=true):One st c r t (((c:Int)::r.take 2)::xs):=by
 obtain⟨z,w,q,rfl,e1,e2⟩:=zu hl;rw[e1]at hi ⊢;rw[e2]at hr;obtain⟨hb1,hb2⟩:=inside hi hb;obtain⟨p1,p2⟩:=uq hb1;obtain⟨a,rfl⟩:=eR p1;obtain⟨b,rfl⟩:=eR p2;obtain⟨rfl,rfl⟩:=jN hr;refine⟨c,x,[.num a,.num b],_,rfl,hx,?_,(fi a b).1,ot (ec a b),(fi a b).2,hw a b⟩;rw[ls];exact⟨n1,_,rfl,n2,_,rfl,rfl⟩
theorem Lr{l1 l2 l3:Nat}(cl:Nat->Nat->Nat->Call)(hx:eE c=some x)(hb:PyWqbaaz.bound c=([(0,MX),(0,MX),(0,MX)],[]))(ls:x.cps.toList=[l1,l2,l3])(n1:AS l1)(n2:AS l2)(n3:AS l3)(ec:∀a b d:Nat,callOf [[(c:Int),(a:Int),(b:Int),(d:Int)]]=some (cl a b d))(hw:∀a b d:Nat,PyWqbaaz.whole [[(c:Int),(a:Int),(b:Int),(d:Int)]]=[[(c:Int),(a:Int),(b:Int),(d:Int)]])(fi:∀a b d,uH st c x [.num a,.num b,.num d] (cl a b d))(hl:¬r.length<3)(hr:PyFlat.rows 0 (r.drop 3)=some (xs,t))(hi:PyInside.call PyWqbaaz.bound (((c:Int)::r.take 3)::xs)=true):One st c r t (((c:Int)::r.take 3)::xs):=by
 obtain⟨z,w,v,q,rfl,e1,e2⟩:=Hx hl;rw[e1]at hi ⊢;rw[e2]at hr;obtain⟨hb1,hb2⟩:=inside hi hb;obtain⟨p1,p2,p3⟩:=HM hb1;obtain⟨a,rfl⟩:=eR p1;obtain⟨b,rfl⟩:=eR p2;obtain⟨d,rfl⟩:=eR p3;obtain⟨rfl,rfl⟩:=jN hr;refine⟨c,x,[.num a,.num b,.num d],_,rfl,hx,?_,(fi a b d).1,ot (ec a b d),(fi a b d).2,hw a b d⟩;rw[ls];exact⟨n1,_,rfl,n2,_,rfl,n3,_,rfl,rfl⟩
theorem BD{k:Nat}{b:List (Int×Int×Nat×Nat)}{q:List Int}(hr:PyFlat.rows (k+1) q=some (xs,t))(hi:PyInside.lists ((0,255,0,60)::b) xs=true):∃(s:DW)(ys:List (List Int))(u:List Int),xs=ii s::ys/\s.length<=60/\q=(s.length:Int)::(ii s++u)/\PyFlat.rows k u=some (ys,t)/\PyInside.lists b ys=true:=by
 obtain⟨x1,ys,s1,rfl,rfl,hr1⟩:=Fu hr;obtain⟨⟨ln,po⟩,hb3⟩:=Ca hi;obtain⟨s,rfl⟩:=DH po;rw[Ag]at ln;exact⟨s,ys,s1,rfl,ln,by rw[Ag],hr1,hb3⟩
theorem Hw{l1 l2:Nat}(cl:Nat->DW->Call)(hx:eE c=some x)(hb:PyWqbaaz.bound c=([(0,MX)],[(0,255,0,60)]))(ls:x.cps.toList=[l1,l2])(n1:AS l1)(n2:Ky l2)(ec:∀(a:Nat)(s:DW),callOf [[(c:Int),(a:Int)],ii s]=some (cl a s))(hw:∀(a:Nat)(s:DW),PyWqbaaz.whole [[(c:Int),(a:Int)],ii s]=[[(c:Int),(a:Int)],ii s])(fi:∀a s,s.length<=60->uH st c x [.num a,.row s] (cl a s))(hl:¬r.length<1)(hr:PyFlat.rows 1 (r.drop 1)=some (xs,t))(hi:PyInside.call PyWqbaaz.bound (((c:Int)::r.take 1)::xs)=true):One st c r t (((c:Int)::r.take 1)::xs):=by
 obtain⟨z,q,rfl,e1,e2⟩:=tY hl;rw[e1]at hi ⊢;rw[e2]at hr;obtain⟨hb1,hb2⟩:=inside hi hb;obtain⟨a,rfl⟩:=eR (qa hb1);obtain⟨s,ys,u,rfl,ln,rfl,hr1,_⟩:=BD hr hb2;obtain⟨rfl,rfl⟩:=jN hr1;refine⟨c,x,[.num a,.row s],_,rfl,hx,?_,(fi a s ln).1,ot (ec a s),(fi a s ln).2,hw a s⟩;rw[ls];exact⟨n1,_,rfl,n2,_,rfl,rfl⟩
theorem Me{l1 l2 l3:Nat}(cl:Nat->Nat->DW->Call)(hx:eE c=some x)(hb:PyWqbaaz.bound c=([(0,MX),(0,MX)],[(0,255,0,60)]))(ls:x.cps.toList=[l1,l2,l3])(n1:AS l1)(n2:AS l2)(n3:Ky l3)(ec:∀(a b:Nat)(s:DW),callOf [[(c:Int),(a:Int),(b:Int)],ii s]=some (cl a b s))(hw:∀(a b:Nat)(s:DW),PyWqbaaz.whole [[(c:Int),(a:Int),(b:Int)],ii s]=[[(c:Int),(a:Int),(b:Int)],ii s])(fi:∀a b s,s.length<=60->uH st c x [.num a,.num b,.row s] (cl a b s))(hl:¬r.length<2)(hr:PyFlat.rows 1 (r.drop 2)=some (xs,t))(hi:PyInside.call PyWqbaaz.bound (((c:Int)::r.take 2)::xs)=true):One st c r t (((c:Int)::r.take 2)::xs):=by
 obtain⟨z,w,q,rfl,e1,e2⟩:=zu hl;rw[e1]at hi ⊢;rw[e2]at hr;obtain⟨hb1,hb2⟩:=inside hi hb;obtain⟨p1,p2⟩:=uq hb1;obtain⟨a,rfl⟩:=eR p1;obtain⟨b,rfl⟩:=eR p2;obtain⟨s,ys,u,rfl,ln,rfl,hr1,_⟩:=BD hr hb2;obtain⟨rfl,rfl⟩:=jN hr1;refine⟨c,x,[.num a,.num b,.row s],_,rfl,hx,?_,(fi a b s ln).1,ot (ec a b s),(fi a b s ln).2,hw a b s⟩;rw[ls];exact⟨n1,_,rfl,n2,_,rfl,n3,_,rfl,rfl⟩
theorem M0{l1 l2 l3:Nat}(cl:Nat->DW->DW->Call)(hx:eE c=some x)(hb:PyWqbaaz.bound c=([(0,MX)],[(0,255,0,60),(0,255,0,60)]))(ls:x.cps.toList=[l1,l2,l3])(n1:AS l1)(n2:Ky l2)(n3:Ky l3)(ec:∀(a:Nat)(s u:DW),callOf [[(c:Int),(a:Int)],ii s,ii u]=some (cl a s u))(hw:∀(a:Nat)(s u:DW),PyWqbaaz.whole [[(c:Int),(a:Int)],ii s,ii u]=[[(c:Int),(a:Int)],ii s,ii u])(fi:∀a s u,uH st c x [.num a,.row s,.row u] (cl a s u))(hl:¬r.length<1)(hr:PyFlat.rows 2 (r.drop 1)=some (xs,t))(hi:PyInside.call PyWqbaaz.bound (((c:Int)::r.take 1)::xs)=true):One st c r t (((c:Int)::r.take 1)::xs):=by
 obtain⟨z,q,rfl,e1,e2⟩:=tY hl;rw[e1]at hi ⊢;rw[e2]at hr;obtain⟨hb1,hb2⟩:=inside hi hb;obtain⟨a,rfl⟩:=eR (qa hb1);obtain⟨s,ys,u,rfl,ln,rfl,hr1,hb3⟩:=BD hr hb2;obtain⟨s2,ys2,u2,rfl,ln2,rfl,hr2,_⟩:=BD hr1 hb3;obtain⟨rfl,rfl⟩:=jN hr2;refine⟨c,x,[.num a,.row s,.row s2],_,rfl,hx,?_,(fi a s s2).1,ot (ec a s s2),(fi a s s2).2,hw a s s2⟩;rw[ls];exact⟨n1,_,rfl,n2,_,rfl,n3,_,rfl,rfl⟩
theorem m1{f:Nat->Call}(a:Nat):(nat? (a:Int)).map f=some (f a):=by rw[eQ];rfl
theorem m2{f:Nat->Nat->Call}(a b:Nat):(match nat? (a:Int),nat? (b:Int)with|some x,some y=>some (f x y)|_,_=>none)=some (f a b):=by rw[eQ,eQ]
theorem m3{f:Nat->Nat->Nat->Call}(a b d:Nat):(match nat? (a:Int),nat? (b:Int),nat? (d:Int)with|some x,some y,some z=>some (f x y z)|_,_,_=>none)=some (f a b d):=by rw[eQ,eQ,eQ]
theorem m4{f:Nat->DW->Call}(a:Nat)(s:DW):(match nat? (a:Int),nats? (ii s)with|some x,some y=>some (f x y)|_,_=>none)=some (f a s):=by rw[eQ,jo]
theorem m5{f:Nat->Nat->DW->Call}(a b:Nat)(s:DW):(match nat? (a:Int),nat? (b:Int),nats? (ii s)with|some x,some y,some z=>some (f x y z)|_,_,_=>none)=some (f a b s):=by rw[eQ,eQ,jo]
theorem m6{f:Nat->DW->DW->Call}(a:Nat)(s u:DW):(match nat? (a:Int),nats? (ii s),nats? (ii u)with|some x,some y,some z=>some (f x y z)|_,_,_=>none)=some (f a s u):=by rw[eQ,jo,jo]
end
theorem one{st:Vg03.State}{p:Int}{r t:List Int}{c:List (List Int)}(h3:st.length=3)(h:PyFlat.call PyWqbaaz.shape (p::r)=some (c,t))(hb:PyInside.call PyWqbaaz.bound c=true):One st p r t c:=by
 have h:(match PyWqbaaz.shape p with
  |none=>none
  |some (n,k)=>if r.length<n then none else match PyFlat.rows k (r.drop n)with
   |none=>none
   |some (xs,t)=>some ((p::r.take n)::xs,t))=some (c,t):=h
 split at h
 ·cases h
 ·next n k hs=>
  split at h
  ·cases h
  ·next hl=>
   split at h
   ·cases h
   ·next xs u hr=>
    obtain⟨rfl,rfl⟩:=Nh (Nc h);rcases yw hs with rfl|rfl|rfl|rfl|rfl|rfl|rfl|rfl|rfl|rfl|rfl|rfl|rfl|rfl|rfl|rfl|rfl|rfl|rfl|rfl|rfl|rfl|rfl|rfl|rfl
    ·have e:PyWqbaaz.shape 1=some (2,1):=rfl;rw[e]at hs;obtain⟨rfl,rfl⟩:=Nh (Nc hs);exact Me (c:=1) Vg03.Call.make rfl rfl zS (by omega) (by omega) (.inl rfl) m5 (fun _ _ _=>rfl) (fun _ _ _ ln=>⟨d1 ln,l1 h3⟩) hl hr hb
    ·have e:PyWqbaaz.shape 2=some (1,0):=rfl;rw[e]at hs;obtain⟨rfl,rfl⟩:=Nh (Nc hs);exact Kv (c:=2) Vg03.Call.size rfl rfl zR (by omega) m1 (fun _=>rfl) (fun _=>bC h3 (Ct h3 rfl fun G=>⟨G,rfl,rfl⟩) ck) hl hr hb
    ·have e:PyWqbaaz.shape 3=some (2,0):=rfl;rw[e]at hs;obtain⟨rfl,rfl⟩:=Nh (Nc hs);exact Dx (c:=3) Vg03.Call.name rfl rfl rL (by omega) (by omega) m2 (fun _ _=>rfl) (fun _ _=>bC h3 (vO h3 rfl fun G q=>⟨G,_,rfl,q,rfl⟩) ck) hl hr hb
    ·have e:PyWqbaaz.shape 4=some (1,1):=rfl;rw[e]at hs;obtain⟨rfl,rfl⟩:=Nh (Nc hs);exact Hw (c:=4) Vg03.Call.number rfl rfl DD (by omega) (.inl rfl) m4 (fun _ _=>rfl) (fun _ _ ln=>bC h3 (J4 h3 rfl fun G=>⟨G,_,rfl,rfl⟩) ck) hl hr hb
    ·have e:PyWqbaaz.shape 5=some (2,0):=rfl;rw[e]at hs;obtain⟨rfl,rfl⟩:=Nh (Nc hs);exact Dx (c:=5) Vg03.Call.word rfl rfl rL (by omega) (by omega) m2 (fun _ _=>rfl) (fun _ _=>bC h3 (vO h3 rfl fun G q=>⟨G,_,rfl,q,rfl⟩) ck) hl hr hb
    ·have e:PyWqbaaz.shape 6=some (3,0):=rfl;rw[e]at hs;obtain⟨rfl,rfl⟩:=Nh (Nc hs);exact Lr (c:=6) Vg03.Call.times rfl rfl zQ (by omega) (by omega) (by omega) m3 (fun _ _ _=>rfl) (fun _ _ _=>bC h3 (d6 h3) ck) hl hr hb
    ·have e:PyWqbaaz.shape 7=some (2,0):=rfl;rw[e]at hs;obtain⟨rfl,rfl⟩:=Nh (Nc hs);exact Dx (c:=7) Vg03.Call.inverse rfl rfl rL (by omega) (by omega) m2 (fun _ _=>rfl) (fun _ _=>bC h3 (vO h3 rfl fun G q=>⟨G,_,rfl,q,rfl⟩) ck) hl hr hb
    ·have e:PyWqbaaz.shape 8=some (3,0):=rfl;rw[e]at hs;obtain⟨rfl,rfl⟩:=Nh (Nc hs);exact Lr (c:=8) Vg03.Call.power rfl rfl zP (by omega) (by omega) (by omega) m3 (fun _ _ _=>rfl) (fun _ _ _=>bC h3 (HV h3 rfl fun G q=>⟨G,_,_,rfl,q,rfl⟩) ck) hl hr hb
    ·have e:PyWqbaaz.shape 9=some (2,0):=rfl;rw[e]at hs;obtain⟨rfl,rfl⟩:=Nh (Nc hs);exact Dx (c:=9) Vg03.Call.order rfl rfl rL (by omega) (by omega) m2 (fun _ _=>rfl) (fun _ _=>bC h3 (vO h3 rfl fun G q=>⟨G,_,rfl,q,rfl⟩) ck) hl hr hb
    ·have e:PyWqbaaz.shape 10=some (1,1):=rfl;rw[e]at hs;obtain⟨rfl,rfl⟩:=Nh (Nc hs);exact Hw (c:=10) Vg03.Call.made rfl rfl mL (by omega) (.inr rfl) m4 (fun _ _=>rfl) (fun _ _ ln=>bC h3 (oT h3 rfl fun G q=>⟨G,_,rfl,q,rfl⟩) ck) hl hr hb
    ·have e:PyWqbaaz.shape 11=some (1,1):=rfl;rw[e]at hs;obtain⟨rfl,rfl⟩:=Nh (Nc hs);exact Hw (c:=11) Vg03.Call.kind rfl rfl mL (by omega) (.inr rfl) m4 (fun _ _=>rfl) (fun _ _ ln=>bC h3 (oT h3 rfl fun G q=>⟨G,_,rfl,q,rfl⟩) ck) hl hr hb
    ·have e:PyWqbaaz.shape 12=some (1,1):=rfl;rw[e]at hs;obtain⟨rfl,rfl⟩:=Nh (Nc hs);exact Hw (c:=12) Vg03.Call.normal rfl rfl mL (by omega) (.inr rfl) m4 (fun _ _=>rfl) (fun _ _ ln=>bC h3 (oT h3 rfl fun G q=>⟨G,_,rfl,q,rfl⟩) ck) hl hr hb
    ·have e:PyWqbaaz.shape 13=some (1,1):=rfl;rw[e]at hs;obtain⟨rfl,rfl⟩:=Nh (Nc hs);exact Hw (c:=13) Vg03.Call.central rfl rfl mL (by omega) (.inr rfl) m4 (fun _ _=>rfl) (fun _ _ ln=>bC h3 (oT h3 rfl fun G q=>⟨G,_,rfl,q,rfl⟩) ck) hl hr hb
    ·have e:PyWqbaaz.shape 14=some (1,1):=rfl;rw[e]at hs;obtain⟨rfl,rfl⟩:=Nh (Nc hs);exact Hw (c:=14) Vg03.Call.stay rfl rfl mL (by omega) (.inr rfl) m4 (fun _ _=>rfl) (fun _ _ ln=>bC h3 (oT h3 rfl fun G q=>⟨G,_,rfl,q,rfl⟩) ck) hl hr hb
    ·have e:PyWqbaaz.shape 15=some (1,2):=rfl;rw[e]at hs;obtain⟨rfl,rfl⟩:=Nh (Nc hs);exact M0 (c:=15) Vg03.Call.mixed rfl rfl zM (by omega) (.inr rfl) (.inr rfl) m6 (fun _ _ _=>rfl) (fun _ _ _=>bC h3 (LL h3) ck) hl hr hb
    ·have e:PyWqbaaz.shape 16=some (1,0):=rfl;rw[e]at hs;obtain⟨rfl,rfl⟩:=Nh (Nc hs);exact Kv (c:=16) Vg03.Call.classes rfl rfl zR (by omega) m1 (fun _=>rfl) (fun _=>bC h3 (Ct h3 rfl fun G=>⟨G,rfl,rfl⟩) ck) hl hr hb
    ·have e:PyWqbaaz.shape 17=some (1,1):=rfl;rw[e]at hs;obtain⟨rfl,rfl⟩:=Nh (Nc hs);exact Hw (c:=17) Vg03.Call.cosets rfl rfl mL (by omega) (.inr rfl) m4 (fun _ _=>rfl) (fun _ _ ln=>bC h3 (oT h3 rfl fun G q=>⟨G,_,rfl,q,rfl⟩) ck) hl hr hb
    ·have e:PyWqbaaz.shape 18=some (2,0):=rfl;rw[e]at hs;obtain⟨rfl,rfl⟩:=Nh (Nc hs);exact Dx (c:=18) Vg03.Call.series rfl rfl zN (by omega) (by omega) m2 (fun _ _=>rfl) (fun _ _=>bC h3 (DO h3 rfl fun G=>⟨G,_,rfl,rfl⟩) ck) hl hr hb
    ·have e:PyWqbaaz.shape 19=some (2,0):=rfl;rw[e]at hs;obtain⟨rfl,rfl⟩:=Nh (Nc hs);exact Dx (c:=19) Vg03.Call.prime rfl rfl zN (by omega) (by omega) m2 (fun _ _=>rfl) (fun _ _=>bC h3 (DO h3 rfl fun G=>⟨G,_,rfl,rfl⟩) ck) hl hr hb
    ·have e:PyWqbaaz.shape 20=some (1,0):=rfl;rw[e]at hs;obtain⟨rfl,rfl⟩:=Nh (Nc hs);exact Kv (c:=20) Vg03.Call.shape rfl rfl zR (by omega) m1 (fun _=>rfl) (fun _=>bC h3 (Ct h3 rfl fun G=>⟨G,rfl,rfl⟩) ck) hl hr hb
    ·have e:PyWqbaaz.shape 21=some (1,0):=rfl;rw[e]at hs;obtain⟨rfl,rfl⟩:=Nh (Nc hs);exact Kv (c:=21) Vg03.Call.simple rfl rfl zR (by omega) m1 (fun _=>rfl) (fun _=>bC h3 (Ct h3 rfl fun G=>⟨G,rfl,rfl⟩) ck) hl hr hb
    ·have e:PyWqbaaz.shape 22=some (2,1):=rfl;rw[e]at hs;obtain⟨rfl,rfl⟩:=Nh (Nc hs);exact Me (c:=22) Vg03.Call.over rfl rfl zT (by omega) (by omega) (.inr rfl) m5 (fun _ _ _=>rfl) (fun _ _ _ ln=>⟨LK h3,M7 h3⟩) hl hr hb
    ·have e:PyWqbaaz.shape 23=some (3,0):=rfl;rw[e]at hs;obtain⟨rfl,rfl⟩:=Nh (Nc hs);exact Lr (c:=23) Vg03.Call.pairs rfl rfl zU (by omega) (by omega) (by omega) m3 (fun _ _ _=>rfl) (fun _ _ _=>⟨LJ h3,M6 h3⟩) hl hr hb
    ·have e:PyWqbaaz.shape 24=some (2,0):=rfl;rw[e]at hs;obtain⟨rfl,rfl⟩:=Nh (Nc hs);exact Dx (c:=24) Vg03.Call.same rfl rfl zO (by omega) (by omega) m2 (fun _ _=>rfl) (fun _ _=>bC h3 (KI h3) ck) hl hr hb
    ·have e:PyWqbaaz.shape 25=some (2,0):=rfl;rw[e]at hs;obtain⟨rfl,rfl⟩:=Nh (Nc hs);exact Dx (c:=25) Vg03.Call.maps rfl rfl zO (by omega) (by omega) m2 (fun _ _=>rfl) (fun _ _=>bC h3 (KH h3) ck) hl hr hb
theorem uZ:∀(f:Nat){st:Vg03.State}{l:List Int}{raw:List (List (List Int))},st.length=3->PyFlat.calls PyWqbaaz.shape f l=some raw->PyInside.calls PyWqbaaz.bound raw=true->Runs raw.length st l (PyFlat.told (PyFlat.played VeilNeutral.step st (raw.map PyWqbaaz.whole)))
 |f,st,[],raw,_,h,_=>by
  have:raw=[]:=by cases f<;>exact(Nc h).symm
  subst this
  exact .nil st
 |0,st,p::r,raw,_,h,_=>by cases h
 |f+1,st,p::r,raw,h3,h,hb=>by
  have h:(match PyFlat.call PyWqbaaz.shape (p::r)with
   |none=>none
   |some (c,t)=>match PyFlat.calls PyWqbaaz.shape f t with
    |none=>none
    |some cs=>some (c::cs))=some raw:=h
  split at h
  ·cases h
  ·next c t hc=>
   split at h
   ·cases h
   ·next cs hcs=>
    obtain rfl:=Nc h
    have hb2:(PyInside.call PyWqbaaz.bound c&&PyInside.calls PyWqbaaz.bound cs)=true:=hb
    rw[and_eq_true]at hb2
    obtain⟨cn,x,as,y,rfl,hx,rd,due,e,l3,ew⟩:=one h3 hc hb2.1
    have:=uZ f l3 hcs hb2.2
    have go:=Runs.cons hx rd due this
    have e2:PyFlat.told (PyFlat.played VeilNeutral.step st ((c::cs).map PyWqbaaz.whole))=((rp y.2).length:Int)::(rp y.2++PyFlat.told (PyFlat.played VeilNeutral.step y.1 (cs.map PyWqbaaz.whole))):=by
     show PyFlat.told ((VeilNeutral.step st (PyWqbaaz.whole c)).2::PyFlat.played VeilNeutral.step (VeilNeutral.step st (PyWqbaaz.whole c)).1 (cs.map PyWqbaaz.whole))=_
     rw[ew,e];rfl
    rw[e2];exact go
theorem uC{l:List Int}(h:answers_asked l=true):∃k,Runs k Vg03.start l (answers l)/\(answers l).length<=10000000:=by
 unfold answers_asked at h;split at h
 ·cases h
 ·next raw hr=>
  rw[and_eq_true,and_eq_true,and_eq_true]at h;obtain⟨⟨⟨_,hb⟩,_⟩,hs⟩:=h;have e:answers l=PyFlat.told (PyFlat.played VeilNeutral.step VeilNeutral.start (raw.map PyWqbaaz.whole)):=by
   unfold answers calls;rw[hr]
  refine⟨raw.length,?_,of_decide_eq_true hs⟩;rw[e];exact uZ _ rfl hr hb
end Pg
namespace L2
open PySem PySem.Spec PyProof.Rows
open PySem.W (WData Codec OpenSpec Well WellAll ReadsW ReadsAllW TabsAt)
def Bm(mg:GmT)(base:Heap):Prop:=∃bm ob,mg "__builtins__"=some (.ref bm)/\bm≠builtinsNs/\base.get? bm=some ob/\ob.cls=.type "module"/\ob.dict=some builtinsNs/\ob.data=.plain
def da(ts:List Addr)(H:Hp):Hp:=fun b=>if b∈ts then some (.eL #[])else H b
theorem lH{ts:List Addr}{H:Hp}{b:Addr}(h:b∈ts):da ts H b=some (.eL #[]):=by unfold da;rw[if_pos h]
theorem jI{ts:List Addr}{H:Hp}{b:Addr}(h:b∉ts):da ts H b=H b:=by unfold da;rw[if_neg h]
theorem tG{P:Program}{w:World}{K:Frag}{mg mb:GmT}{k:Nat}{fa:Addr}{fd:FuncData}{p:Str}{sp:Sp}{s₁:Shared}{vals:List Value}{ns:List Int}{R:WRecords}{cl:Str->Option Addr}{d0:WData}{tabs:List (Addr×Addr)}(KX:K.In s₁.heap)(hns:s₁.heap.Ns mainGlobals mg)(hb:s₁.heap.Ns builtinsNs mb)(hbb:∀x:Str,x≠"__name__"->mb x=bootBuiltins x)(hlim:s₁.heap.NoLimit)(hg:s₁.gens=#[])(hbm:Bm mg s₁.heap)(hT:TabsAt tabs s₁.heap)(hkT:∀q∈tabs,K.lookup q.2=none)(hwl:WellAll w.params s₁.heap vals [.list (ns.map WData.int)])(hwt:∀d∈([.list (ns.map WData.int)]:List WData),d.weight<=1048576)(hr:bR k callerA)(F:∀base:Heap,K.In base->base.Ns mainGlobals mg->Bm mg base->aG P w K mg base bA k fa fd [p] sp)(hbind:∀(s:Shared)(us:List Value),us.length=1->BindsTo s fd ⟨us,[]⟩ ([p].zip us))(hsp:∀(H:Hp)(x:Addr),(∀q∈tabs,H q.2=some (.eL #[]))->aH K H x (ns.map V.int)->sp [.ref x] H (fun v H'=>Dw K H' v d0) E0):
  codeAny (model P w) callerA (.call (.ref fa) ⟨vals,[]⟩) (fun r s'=>∃u as,r=.ok (.ret u)/\ReadsW R cl s'.heap u d0 as/\OldK s₁.heap s'.heap/\s'.os=s₁.os/\AllBare s'.gens) s₁:=by
 have hpl:lY [.list (ns.map WData.int)]=true:=by
  show(lY (ns.map WData.int)&&true)=true;rw[qR (fun _=>rfl)];rfl
 obtain⟨A,ho,ar⟩:=jE _ vals hwl hpl hwt;have hS:=qb KX ar _ vals hwl hpl ho;have hV:=fM ho;generalize hvv:vals.map toV=vv at hS hV;have tabObj_at:∀b,b∈tabs.map (·.2)->s₁.heap.get? b=some { cls:=.none,data:=.fields #[] }:=fun b hb=>by
  obtain⟨q,hq,rfl⟩:=Ng hb;exact(hT q hq).2
 have dis:∀b u,cU K s₁.heap A b=some u->b∉tabs.map (·.2):=fun b u q hb=>by
  have e1:=tabObj_at b hb;obtain⟨_,vs,_,_,⟨e,_⟩|⟨e,_⟩⟩:=jD ar q
  ·rw[e1]at e;cases e
  ·rw[e1]at e;cases e
 have sm:aj (cU K s₁.heap A) (da (tabs.map (·.2)) (cU K s₁.heap A)):=fun b u q=>by rw[jI (dis b u q)];exact q
 have cases_:∀b u,da (tabs.map (·.2)) (cU K s₁.heap A) b=some u->(b∈tabs.map (·.2)/\u=.eL #[])\/(b∉tabs.map (·.2)/\cU K s₁.heap A b=some u):=fun b u q=>by
  by_cases hb:b∈tabs.map (·.2)
  ·rw[lH hb]at q;exact .inl ⟨hb,(Nc q).symm⟩
  ·rw[jI hb]at q;exact .inr ⟨hb,q⟩
 have hO:DX (cU K s₁.heap A):=xp ar;have a8:gq P w (da (tabs.map (·.2)) (cU K s₁.heap A)) s₁.heap:=fun b u q=>by
  rcases cases_ b u q with⟨hb,rfl⟩|⟨hb,q⟩
  ·exact tabObj_at b hb
  ·exact(CD ar b u q).stay (fun b2 v _ q=>q) (fun b2 q=>sm _ _ q) fun b2 xs q=>sm _ _ q
 have hK:∀b u,da (tabs.map (·.2)) (cU K s₁.heap A) b=some u->K.lookup b=none:=fun b u q=>by
  rcases cases_ b u q with⟨hb,rfl⟩|⟨hb,q⟩
  ·obtain⟨t,ht,rfl⟩:=Ng hb;exact hkT t ht
  ·exact(jD ar q).1
 have noA:∀{b:Addr}{o:Obj},s₁.heap.get? b=some o->(∀vs n,o.data≠.seq vs n)->(∀vs,o.data≠.fields vs)->da (tabs.map (·.2)) (cU K s₁.heap A) b=none:=fun{b o}e n1 n2=>by
  cases q:da (tabs.map (·.2)) (cU K s₁.heap A) b with
  |none=>rfl
  |some u=>
   rcases cases_ b u q with⟨hb,rfl⟩|⟨hb,q⟩
   ·have e1:=tabObj_at b hb;rw[e1]at e;cases e;exact absurd rfl (n2 _)
   ·obtain⟨_,vs,_,_,⟨e2,_⟩|⟨e2,_⟩⟩:=jD ar q
    ·rw[e2]at e;cases e;exact absurd rfl (n1 _ _)
    ·rw[e2]at e;cases e;exact absurd rfl (n1 _ _)
 have tbAt:∀q∈tabs,da (tabs.map (·.2)) (cU K s₁.heap A) q.2=some (.eL #[]):=fun q hq=>lH (List.mem_map.mpr ⟨q,hq,rfl⟩);have base_of:∀{b:Addr}{o:Obj},s₁.heap.get? b=some o->da (tabs.map (·.2)) (cU K s₁.heap A) b=none->(nV s₁.heap (da (tabs.map (·.2)) (cU K s₁.heap A))).get? b=some o:=fun e n=>Aj e n;have nsK:∀{b:Addr}{m:GmT},s₁.heap.Ns b m->(nV s₁.heap (da (tabs.map (·.2)) (cU K s₁.heap A))).Ns b m:=fun{b m}⟨o,es,ep,e,d,r⟩=>⟨o,es,ep,base_of e (noA e (by intro vs n z;rw[d]at z;cases z) (by intro vs z;rw[d]at z;cases z)),d,r⟩;have nK:∀b o,K.lookup b=some o->da (tabs.map (·.2)) (cU K s₁.heap A) b=none:=fun b o e=>by
  cases q:da (tabs.map (·.2)) (cU K s₁.heap A) b with
  |none=>rfl
  |some u=>
   rw[hK b u q]at e;cases e
 have hKb:K.In (nV s₁.heap (da (tabs.map (·.2)) (cU K s₁.heap A))):=fun b o e=>base_of (KX b o e) (nK b o e);have hM:Mod K mg (nV s₁.heap (da (tabs.map (·.2)) (cU K s₁.heap A))):=⟨hKb,nsK hns,⟨mb,nsK hb,hbb⟩,let⟨mc,h1,h2⟩:=hlim;⟨mc,nsK h1,h2⟩⟩;have hBm:Bm mg (nV s₁.heap (da (tabs.map (·.2)) (cU K s₁.heap A))):=by
  obtain⟨bm,ob,b1,b2,b3,b4,b5,b6⟩:=hbm;exact⟨bm,ob,b1,b2,base_of b3 (noA b3 (by intro vs n z;rw[b6]at z;cases z) (by intro vs z;rw[b6]at z;cases z)),b4,b5,b6⟩
 have e0:je P w K mg (nV s₁.heap (da (tabs.map (·.2)) (cU K s₁.heap A))) callerA [] s₁ (da (tabs.map (·.2)) (cU K s₁.heap A)):=⟨rfl,hM,fun b o e=>B4 e,le_of_eq (xb _ _),trivial,fun b hb=>absurd (show b∈([]:List Addr)from hb) (by simp),a8,.of_eq hg⟩;have hl:vals.length=1:=eZ hwl;cases hS with
 |cons h1 h2=>
  cases h2;cases h1 with
  |@lst a xs _ hs ha=>
   have ei:=vA ns _ ha;subst ei;refine codeAny_mono ((F _ hKb (nsK hns) hBm).run callerA [] s₁ _ ⟨vals,[]⟩ vals [.ref a] _ _ hr e0 (hbind s₁ vals hl) hV (hsp _ a tbAt (sm.seq hs))) fun r s' x=>?_;cases r with
   |error e=>exact x.elim
   |ok fl=>
    cases fl with
    |next=>exact False.elim x
    |brk=>exact False.elim x
    |cont=>exact False.elim x
    |ret u=>
     obtain⟨v,H',os,bare,un,hok',r',q⟩:=x;have kept:∀b o,b∉tabs.map (·.2)->s₁.heap.get? b=some o->s'.heap.get? b=some o:=fun b o nb e=>by
      cases q2:cU K s₁.heap A b with
      |none=>exact un.keep b o e (by rw[jI nb];exact q2) (by intro z;exact absurd (show b∈([]:List Addr)from z) (by simp)) (by simp)
      |some u2=>
       rcases hO b with z|⟨ob,u3,z⟩
       ·rw[q2]at z;cases z
       ·have z1:=sm _ _ z;have z2:=un.nX b ob _ z1;obtain⟨e1,_⟩:=a8 b _ z1;obtain⟨e2,_⟩:=hok' b _ z2;rw[e]at e1;cases e1;exact e2
     have grown:∀b,b∈tabs.map (·.2)->∃ps,s'.heap.get? b=some { cls:=.none,data:=.fields ps }:=fun b hb=>by
      obtain⟨more,e⟩:=un.nE b #[] (lH hb);exact⟨_,hok' b _ e⟩
     have KX':K.In s'.heap:=fun b o e=>kept b o (fun hb=>by
      obtain⟨t,ht,rfl⟩:=Ng hb;rw[hkT t ht]at e;cases e) (KX b o e)
     obtain⟨as,hrd⟩:=Dw.reads (R:=R) (cl:=cl) hok' KX' d0 v u q r';refine⟨u,as,rfl,hrd,⟨fun b o e=>?_,fun b o e=>?_⟩,os,bare⟩
     ·by_cases hb:b∈tabs.map (·.2)
      ·obtain⟨ps,hP⟩:=grown b hb;have e1:=tabObj_at b hb;rw[e]at e1;obtain rfl:=Nc e1;obtain⟨t,ht,rfl⟩:=Ng hb;exact .inr (.inl ⟨((hT t ht).1.tab (hT t ht).2).isCodeTable,rfl,#[],ps,rfl,by rw[Array.empty_append];exact hP⟩)
      ·exact .inl (kept b o hb e)
     ·by_cases hb:b∈tabs.map (·.2)
      ·obtain⟨ps,hP⟩:=grown b hb;exact⟨_,hP⟩
      ·exact⟨o,kept b o hb e⟩
theorem sV{r:OpenSpec}{k:Nat}{q:Program}{loose:List Str}{XP:(GmT)->Heap->Prop}{YP:World->Heap->Prop}{d:DefRec}{K:Params->Frag}{p:Str}{sp:Frag->Addr->Addr->Sp}(hwell:r.wellSaid=true)(hr:bR k callerA)(hY:∀(w:World)(h:Heap),YP w h->(K w.params).In h)(F:∀(w:World)(mg mb:GmT)(ls:List Str)(mean:ExcName->Option Value)(fa:Addr)(h:Heap),(K w.params).In h->Top q ls mean mg mb h->mg d.name=some (.ref fa) ->
   ∃(fd:FuncData)(pq pp cq cp:Addr),(∀(s:Shared)(us:List Value),us.length=1->BindsTo s fd ⟨us,[]⟩ ([p].zip us))/\TabsAt [(cq,pq),(cp,pp)] h/\(K w.params).lookup pq=none/\(K w.params).lookup pp=none /\
    ∀base:Heap,(K w.params).In base->base.Ns mainGlobals mg->Bm mg base->aG r.prog w (K w.params) mg base bA k fa fd [p] (sp (K w.params) pq pp))(hsp:∀(a:Codec.denoteAll r.args),Codec.withinAll r.args a=true->Codec.app r.args r.asked a=true->∃ns:List Int,Codec.encAll r.args a=[.list (ns.map WData.int)]/\∀(K:Frag)(pq pp:Addr)(H:Hp)(x:Addr),H pq=some (.eL #[])->H pp=some (.eL #[])->aH K H x (ns.map V.int) ->
   sp K pq pp [.ref x] H (fun v H'=>Dw K H' v (r.ret.enc (Codec.app r.args r.f a))) E0):
  WalkOS q loose XP YP r d [] (fun f vs=>PySem.call f vs):=by
 intro w nO s₁ mg mb G Y fa o pm cd doc dV kV ho hd hcd hD hmg hg args vals as hpre hlay hrd hwl hlo
 obtain⟨a,e1,e2⟩:=PySem.W.os_pre_some hpre
 obtain⟨e3,hwi⟩:=Codec.encAll_of_decAll r.args args a e1
 subst e3
 have KX:=hY w _ Y
 obtain⟨ns,en,hs⟩:=hsp a hwi e2
 obtain⟨fd,pq,pp,cq,cp,hb,hT,k1,k2,hF⟩:=F w mg mb _ _ fa _ KX G.T hmg
 rw[en]at hwl hlay
 refine PySem.W.enter_call (codeAny_mono (tG (R:=[]) (cl:=classAt nO.heap) (d0:=r.ret.enc (Codec.app r.args r.f a)) (tabs:=[(cq,pq),(cp,pp)]) KX G.T.g G.T.b G.T.builtins G.T.nolimit hg G.T.bmain hT (fun t ht=>?_) hwl (mM hlay) hr hF hb
  (fun H x ht hx=>hs _ pq pp H x (ht (cq,pq) (by simp)) (ht (cp,pp) (by simp)) hx)) fun r' s' hq=>?_)
 ·simp only[mem_cons,not_mem_nil,or_false]at ht
  rcases ht with rfl|rfl
  ·exact k1
  ·exact k2
 ·obtain⟨u,as',rfl,h1,h2,h3,h4⟩:=hq
  exact⟨.inl ⟨u,_,as',rfl,fun _=>rfl,h1,(OpenSpec.post_iff hwell hwi _ _).mpr rfl,fun z=>noConfusion (show false=true from z)⟩,h2,h3,h4⟩
end L2
namespace Pg
open PySem PySem.Spec PyProof.Rows L2
open PySem.W (nsIn findIn isFn codeIn keepIn fnOf codeHdIn tabIn)
open Vg01 (Group)
structure cO(K:Frag)(x:Str)(st:Stmt):Prop where
 ex:∃(f:Addr)(oc:Value)(od:Option Addr)(kV dc pm:Value)(an:Option Addr)(cd ct:Value)(sl:Array (Option Value)),nsIn K mainGlobals x=some (some (.ref f))/\K.lookup f=some ⟨oc,od,.func (fnOf x x (bD st) (bh st) (af st) .none kV dc pm an cd ct),sl⟩/\codeIn K cd x=true/\keepIn K (.ref f)=true
structure sL(K:Frag)(C:Addr)(x q:Str)(st:Stmt):Prop where
 ex:∃(f:Addr)(oc:Value)(od:Option Addr)(kV dc pm:Value)(an:Option Addr)(cd ct:Value)(sl:Array (Option Value)),findIn K (.ref C) x=some (some (.ref f))/\isFn K (.ref f)=true/\K.lookup f=some ⟨oc,od,.func (fnOf x q (bD st) (bh st) (af st) .none kV dc pm an cd ct),sl⟩/\codeIn K cd q=true/\keepIn K (.ref f)=true
structure Ii(K:Frag)(x:Str)(st:Stmt)(c P:Addr):Prop where
 ex:∃(f:Addr)(oc:Value)(od:Option Addr)(kV dc pm:Value)(an:Option Addr)(ct:Value)(sl:Array (Option Value))(o1:Value)(o2:Option Addr)(vs:Array Value)(o4:Array (Option Value)),nsIn K mainGlobals x=some (some (.ref f))/\K.lookup f=some ⟨oc,od,.func (fnOf x x (bD st) (bh st) (af st) .none kV dc pm an (.ref c) ct),sl⟩/\codeIn K (.ref c) x=true/\keepIn K (.ref f)=true /\
  K.lookup c=some ⟨o1,o2,.fields vs,o4⟩/\vs[11]?=some (.ref P)
 hd:codeHdIn K c P=true
 no:K.lookup P=none
structure Mq(K:Frag)(x:Str)(C:Addr):Prop where
 nm:nsIn K mainGlobals x=some (some (.ref C))
 pg:plainGet K C Str.empty=true
 hd:hasDictIn K C=true
 po:plainOver K C=true
 sa:findIn K (.ref C) "__setattr__"=some (some (.builtin "object.__setattr__"))
 Mf:makesIn K C=true
 kc:keepIn K (.ref C)=true
def kvsOf(es:Array DictEntry):List (Int×Value):=es.toList.map fun e=>((match e.key with|.int k _=>k|_=>0),e.val)
def intKeys(es:Array DictEntry):Bool:=es.toList.all fun e=>match e.key with|.int k _=>decide (e.hash=hashInt k)|_=>false
structure DS(K:Frag)(x:Str)(a:Addr)(es:Array DictEntry):Prop where
 nm:nsIn K mainGlobals x=some (some (.ref a))
 at_:∃ep,K.lookup a=some ⟨.type "dict",none,.dict es ep,#[]⟩
 ks:intKeys es=true
 nd:((kvsOf es).map (·.1)).Nodup
theorem vB:∀{l:List DictEntry},(l.all fun e=>match e.key with|.int k _=>decide (e.hash=hashInt k)|_=>false)=true->sM l (l.map fun e=>((match e.key with|.int k _=>k|_=>0),e.val))
 |[],_=>.nil
 |e::l,h=>by
  rw[all_cons,and_eq_true]at h
  refine .cons ?_ (vB h.2)
  have h1:=h.1
  show e.hash=hashInt (match e.key with|.int k _=>k|_=>0)/\(∃t,e.key=.int (match e.key with|.int k _=>k|_=>0) t)/\e.val=e.val
  generalize e.key=ky at h1
  cases ky with
  |int k t=>exact⟨of_decide_eq_true h1,⟨t,rfl⟩,rfl⟩
  |_=>cases h1
theorem DS.dict{K:Frag}{x:Str}{a:Addr}{es:Array DictEntry}(t:DS K x a es):kg K a (kvsOf es):=by
 obtain⟨ep,e⟩:=t.at_;exact⟨⟨es,ep,e,vB t.ks⟩,t.nd⟩
theorem cO.of{K:Frag}{x:Str}{st:Stmt}{f:Addr}{oc:Value}{od:Option Addr}{kV dc pm:Value}{an:Option Addr}{cd ct:Value}{sl:Array (Option Value)}(a:nsIn K mainGlobals x=some (some (.ref f)))(l:K.lookup f=some ⟨oc,od,.func (fnOf x x (bD st) (bh st) (af st) .none kV dc pm an cd ct),sl⟩)(c:codeIn K cd x=true)(k:keepIn K (.ref f)=true):cO K x st:=
 ⟨⟨f,oc,od,kV,dc,pm,an,cd,ct,sl,a,l,c,k⟩⟩
theorem sL.of{K:Frag}{C:Addr}{x q:Str}{st:Stmt}{f:Addr}{oc:Value}{od:Option Addr}{kV dc pm:Value}{an:Option Addr}{cd ct:Value}{sl:Array (Option Value)}(a:findIn K (.ref C) x=some (some (.ref f)))(i:isFn K (.ref f)=true)(l:K.lookup f=some ⟨oc,od,.func (fnOf x q (bD st) (bh st) (af st) .none kV dc pm an cd ct),sl⟩)(c:codeIn K cd q=true)(k:keepIn K (.ref f)=true):sL K C x q st:=
 ⟨⟨f,oc,od,kV,dc,pm,an,cd,ct,sl,a,i,l,c,k⟩⟩
theorem Ii.of{K:Frag}{x:Str}{st:Stmt}{f c P:Addr}{oc:Value}{od:Option Addr}{kV dc pm:Value}{an:Option Addr}{ct:Value}{sl:Array (Option Value)}{o1:Value}{o2:Option Addr}{vs:Array Value}{o4:Array (Option Value)}(a:nsIn K mainGlobals x=some (some (.ref f)))(l:K.lookup f=some ⟨oc,od,.func (fnOf x x (bD st) (bh st) (af st) .none kV dc pm an (.ref c) ct),sl⟩)(cc:codeIn K (.ref c) x=true)(k:keepIn K (.ref f)=true)(lc:K.lookup c=some ⟨o1,o2,.fields vs,o4⟩)(hv:vs[11]?=some (.ref P))(hd:codeHdIn K c P=true)(no:K.lookup P=none):Ii K x st c P:=
 ⟨⟨f,oc,od,kV,dc,pm,an,ct,sl,o1,o2,vs,o4,a,l,cc,k,lc,hv⟩,hd,no⟩
theorem DS.of{K:Frag}{x:Str}{a:Addr}{es:Array DictEntry}{ep:Nat}(nm:nsIn K mainGlobals x=some (some (.ref a)))(at_:K.lookup a=some ⟨.type "dict",none,.dict es ep,#[]⟩)(ks:intKeys es=true)(nd:((kvsOf es).map (·.1)).Nodup):DS K x a es:=⟨nm,⟨ep,at_⟩,ks,nd⟩
section
variable{K:Frag}{h:Heap}{mg:GmT}{x:Str}{st:Stmt}{C:Addr}
theorem cO.get(D:cO K x st)(X:K.In h)(G:h.Ns mainGlobals mg):∃f fd,bW K x x st f fd/\mg x=some (.ref f)/\nsIn K mainGlobals x=some (some (.ref f)):=by
 obtain⟨f,oc,od,kV,dc,pm,an,cd,ct,sl,a,l,c,k⟩:=D.ex;exact⟨f,_,ug l c k,mg_of X G a,a⟩
theorem sL.get{q:Str}(D:sL K C x q st):∃f fd,bW K x q st f fd/\Meth K C x f:=by
 obtain⟨f,oc,od,kV,dc,pm,an,cd,ct,sl,a,i,l,c,k⟩:=D.ex;exact⟨f,_,ug l c k,⟨a,i,k⟩⟩
theorem Ii.get{c P:Addr}(D:Ii K x st c P)(X:K.In h)(G:h.Ns mainGlobals mg):∃f fd,bW K x x st f fd/\mg x=some (.ref f)/\fd.code=.ref c/\tabIn K x=some (c,P):=by
 obtain⟨f,oc,od,kV,dc,pm,an,ct,sl,o1,o2,vs,o4,a,l,cc,k,lc,hv⟩:=D.ex;refine⟨f,_,ug l cc k,mg_of X G a,rfl,?_⟩;unfold tabIn;rw[a];show(match K.lookup f with
  |some ⟨_,_,.func fd,_⟩=>(match fd.code with
   |.ref c=>(match K.lookup c with
    |some ⟨_,_,.fields vs,_⟩=>(match (vs[11]?:Option Value)with
     |some (.ref P)=>some (c,P)
     |_=>none)
    |_=>none)
   |_=>none)
  |_=>none)=_
 rw[l];show(match K.lookup c with
    |some ⟨_,_,.fields vs,_⟩=>(match (vs[11]?:Option Value)with
     |some (.ref P)=>some (c,P)
     |_=>none)
    |_=>none)=_
 rw[lc];show(match (vs[11]?:Option Value)with
     |some (.ref P)=>some (c,P)
     |_=>none)=_
 rw[hv]
theorem _root_.L2.bW.Na{q:Str}{f:Addr}{fd:FuncData}(F:bW K x q st f fd)(H:Hp):AW K H f:=by
 obtain⟨oc,od,kV,doc,pm,an,cdv,ct,osl,e1,e2,_⟩:=F.ex;exact .inl ⟨oc,od,fd,osl,e2⟩
theorem xE{kvs:List (Int×Value)}{c:Int}{f:Addr}(e:nsIn K mainGlobals x=some (valueAt kvs c))(a:nsIn K mainGlobals x=some (some (.ref f))):valueAt kvs c=some (.ref f):=Nc (e.symm.trans a)
end
section
variable{P:Program}{w:World}{K:Frag}{h base:Heap}{mg:GmT}{x q:Str}{st:Stmt}{ps:List Str}{k:Nat}{sp:Sp}
abbrev Bd(x q:Str)(st:Stmt)(ps:List Str):Prop:=∀(kV dc pm:Value)(an:Option Addr)(cd ct:Value)(us:List Value),us.length=ps.length->bindArgs (fnOf x q (bD st) (bh st) (af st) .none kV dc pm an cd ct) ⟨us,[]⟩=pure (ps.zip us)
abbrev Be(x q:Str)(st:Stmt)(ps:List Str)(us:List Value):Prop:=∀(kV dc pm:Value)(an:Option Addr)(cd ct:Value),bindArgs (fnOf x q (bD st) (bh st) (af st) .none kV dc pm an cd ct) ⟨us,[]⟩=pure (ps.zip us)
theorem sH{a:Str}(h:∀u,Be x q st [a] [u]):Bd x q st [a]:=fun kV dc pm an cd ct us hl=>match us,hl with|[u],_=>h u kV dc pm an cd ct
theorem fL{a b:Str}(h:∀u v,Be x q st [a,b] [u,v]):Bd x q st [a,b]:=fun kV dc pm an cd ct us hl=>match us,hl with|[u,v],_=>h u v kV dc pm an cd ct
theorem qp{a b c:Str}(h:∀u v w,Be x q st [a,b,c] [u,v,w]):Bd x q st [a,b,c]:=fun kV dc pm an cd ct us hl=>match us,hl with|[u,v,w],_=>h u v w kV dc pm an cd ct
theorem LN{a b c d:Str}(h:∀u v w z,Be x q st [a,b,c,d] [u,v,w,z]):Bd x q st [a,b,c,d]:=fun kV dc pm an cd ct us hl=>match us,hl with|[u,v,w,z],_=>h u v w z kV dc pm an cd ct
theorem dO(d:cO K x st)(X:K.In h)(G:h.Ns mainGlobals mg)(hb:Bd x x st ps)(ok:∀f fd,bW K x x st f fd->aG P w K mg base bA k f fd ps sp):ay P w K mg base x k ps sp:=by
 obtain⟨f,fd,F,g,_⟩:=d.get X G;exact⟨f,fd,g,F.kp,ok f fd F,F.binds hb⟩
theorem aO{kvs:List (Int×Value)}{c:Int}(d:cO K x st)(X:K.In h)(G:h.Ns mainGlobals mg)(e:nsIn K mainGlobals x=some (valueAt kvs c))(hb:Bd x x st ps)(ok:∀f fd,bW K x x st f fd->aG P w K mg base bA k f fd ps sp):∃f ps,valueAt kvs c=some (.ref f)/\FV P w K mg base k (.ref f) ps sp:=by
 obtain⟨f,fd,F,g,i⟩:=d.get X G;exact⟨f,ps,xE e i,⟨f,fd,rfl,ok f fd F,F.kp,F.binds hb⟩⟩
theorem pO{kvs:List (Int×Value)}{c:Int}(d:cO K x st)(X:K.In h)(G:h.Ns mainGlobals mg)(e:nsIn K mainGlobals x=some (valueAt kvs c))(hb:Bd x x st ps)(ok:∀f fd,bW K x x st f fd->aG P w K mg base bA k f fd ps sp):∃f fd ps,valueAt kvs c=some (.ref f)/\aG P w K mg base bA k f fd ps sp/\Binds K fd ps []/\∀H,AW K H f:=by
 obtain⟨f,fd,F,g,i⟩:=d.get X G;exact⟨f,fd,ps,xE e i,ok f fd F,F.binds hb,bW.Na F⟩
theorem mO{C:Addr}(d:sL K C x q st)(hb:Bd x q st ps)(ok:∀f fd,bW K x q st f fd->aG P w K mg base bA k f fd ps sp):aK P w K mg base C x k ps sp:=by
 obtain⟨f,fd,F,M⟩:=d.get;exact⟨f,fd,M,ok f fd F,F.binds hb⟩
end
def vF(kvs:List (Int×Value)):Bool:=(range 26).all fun c=>match eE c,valueAt kvs (c:Int)with
 |some x,some (.str y _)=>decide (x=y)
 |none,_=>true
 |_,_=>false
theorem Cj{c:Nat}{x:Str}(h:eE c=some x):c<26:=by
 unfold eE at h;split at h<;>first|omega|cases h
theorem Ao{kvs:List (Int×Value)}(h:vF kvs=true){c:Nat}{x:Str}(e:eE c=some x):∃u,valueAt kvs (c:Int)=some u/\RelV (.str x) u:=by
 have h1:=List.all_eq_true.mp h c (List.mem_range.mpr (Cj e));rw[e]at h1;cases q:valueAt kvs (c:Int)with
 |none=>rw[q]at h1;cases h1
 |some u=>
  rw[q]at h1;cases u with
  |str y t=>
   have h2:x=y:=of_decide_eq_true h1;subst h2;exact⟨_,rfl,t,rfl⟩
  |_=>cases h1
theorem wy{kvs:List (Int×Value)}(h:kvs.map (·.1)=[1,22,23]){c:Nat}(hc:cA c=false):valueAt kvs (c:Int)=none:=by
 unfold valueAt;have:kvs.find? (fun kv=>kv.1=(c:Int))=none:=by
  rw[List.find?_eq_none];intro kv hm e;have hk:kv.1∈kvs.map (·.1):=List.mem_map.mpr ⟨kv,hm,rfl⟩;rw[h]at hk;have e:=of_decide_eq_true e;unfold cA at hc;simp only[Bool.or_eq_false_iff,beq_eq_false_iff_ne]at hc;simp only[mem_cons,not_mem_nil,or_false]at hk;omega
 rw[this];rfl
theorem rQ{c:Nat}(h:cA c=true):c=1\/c=22\/c=23:=by
 unfold cA at h;simp only[or_eq_true,beq_iff_eq]at h;omega
theorem xo{c:Nat}{as:List Arg}{r:List Int}(h:Ask c as r):c=2\/c=3\/c=4\/c=5\/c=6\/c=7\/c=8\/c=9\/c=10\/c=11\/c=12\/c=13\/c=14\/c=15\/c=16\/c=17\/c=18\/c=19\/c=20\/c=21\/c=24\/c=25:=by
 unfold Ask at h;split at h<;>first|exact h.elim|simp
set_option maxHeartbeats 8000000 in
theorem all_mk {P Pv:Program} {w:World} {K:Frag} {h:Heap} {mg mb:GmT} {ls:List Str} {mean:ExcName->Option Value} {fa C R cq pq cp pp aA aF aP:Addr} {eA eF eP:Array DictEntry} (X:K.In h) (TT:Top Pv ls mean mg mb h) (hfa:mg "answers"=some (.ref fa))
  (cg:Mq K "Group" C) (cr:Mq K "Reader" R) (hRC:C≠R)
  (n_range:nsIn K mainGlobals "range"=some none)
  (n_tuple:nsIn K mainGlobals "tuple"=some none)
  (n_list:nsIn K mainGlobals "list"=some none)
  (n_sorted:nsIn K mainGlobals "sorted"=some none)
  (n_len:nsIn K mainGlobals "len"=some none)
  (n_enumerate:nsIn K mainGlobals "enumerate"=some none)
  (n_min:nsIn K mainGlobals "min"=some none)
  (n_max:nsIn K mainGlobals "max"=some none)
  (n_all:nsIn K mainGlobals "all"=some none)
  (n_set:nsIn K mainGlobals "set"=some none)
  (n_reversed:nsIn K mainGlobals "reversed"=some none)
  (n_zip:nsIn K mainGlobals "zip"=some none)
  {t_mp:Tok} (k_mp:nsIn K mainGlobals "MOST_PLACES"=some (some (.int 6 t_mp)))
  {t_mgn:Tok} (k_mgn:nsIn K mainGlobals "MOST_GENERATORS"=some (some (.int 4 t_mgn)))
  {t_mst:Tok} (k_mst:nsIn K mainGlobals "MOST_IN_A_GROUP"=some (some (.int 60 t_mst)))
  {t_mch:Tok} (k_mch:nsIn K mainGlobals "MOST_CHOICES"=some (some (.int 4096 t_mch)))
  {t_rws:Tok} (k_rws:nsIn K mainGlobals "ROWS"=some (some (.str "as" t_rws)))
  {t_plc:Tok} (k_plc:nsIn K mainGlobals "PLACES"=some (some (.int 3 t_plc)))
  (a_names:findIn K (.ref C) "names"=some none)
  (a_words:findIn K (.ref C) "words"=some none)
  (a_table:findIn K (.ref C) "table"=some none)
  (a_inverses:findIn K (.ref C) "inverses"=some none)
  (a_generators:findIn K (.ref C) "generators"=some none)
  (a_numbers:findIn K (.ref R) "numbers"=some none)
  (a_at:findIn K (.ref R) "at"=some none)
  (m70:sL K C "__init__" "Group.__init__" Ku)
  (m71:sL K C "size" "Group.size" yC)
  (m72:sL K C "times" "Group.times" tJ)
  (m73:sL K C "inverse" "Group.inverse" EU)
  (m74:sL K C "turned" "Group.turned" yB)
  (m75:sL K C "order" "Group.order" EJ)
  (m76:sL K C "power" "Group.power" EG)
  (m77:sL K R "__init__" "Reader.__init__" Ld)
  (m78:sL K R "ended" "Reader.ended" Le)
  (m79:sL K R "take_number" "Reader.take_number" Lc)
  (m80:sL K R "take_row" "Reader.take_row" Lb)
  (d1:cO K "too_many_choices" Ey)
  (d2:cO K "choices" Bw)
  (d3:cO K "extended" EZ)
  (d4:cO K "all_maps" Fl)
  (d5:cO K "first_same" Bs)
  (d6:cO K "generated" Br)
  (d7:cO K "table_of" Bg)
  (d8:cO K "is_set" EB)
  (d9:cO K "least_subgroup" EN)
  (d10:cO K "turned_by" Bf)
  (d11:cO K "all_turned" E3)
  (d12:cO K "least_normal" EO)
  (d13:cO K "is_subgroup" ET)
  (d14:cO K "is_normal" ES)
  (LL:cO K "commutes" Bu)
  (d16:cO K "commuting" Bv)
  (d17:cO K "keeping" Bp)
  (d18:cO K "mixed_pair" EK)
  (d19:cO K "mixed_of" EL)
  (d20:cO K "least_in_classes" Bo)
  (d21:cO K "least_in_cosets" Bn)
  (LK:cO K "shape_of" Bi)
  (LJ:cO K "unmoved" Ex)
  (KI:cO K "first_then" yE)
  (KH:cO K "is_shuffle" Bq)
  (d26:cO K "parted" EH)
  (d27:cO K "row_of_mixed" EC)
  (d28:cO K "is_prime" Bl)
  (d29:cO K "greatest_power" EV)
  (d30:cO K "falling" EY)
  (d31:cO K "prime_subgroup" Bk)
  (d32:cO K "is_simple" Bh)
  (d33:cO K "counted" E1)
  (d34:cO K "parts" EE)
  (d35:cO K "size" E5)
  (d36:cO K "name" Fg)
  (d37:cO K "number" Fh)
  (d38:cO K "word" E2)
  (d39:cO K "times" E4)
  (d40:cO K "inverse" Fo)
  (d41:cO K "power" Fc)
  (d42:cO K "order" Fe)
  (d43:cO K "made" Fj)
  (d44:cO K "kind" Fn)
  (d45:cO K "normal" Ff)
  (d46:cO K "central" Ft)
  (d47:cO K "stay" E6)
  (d48:cO K "mixed" Fi)
  (d49:cO K "classes" Fs)
  (d50:cO K "cosets" Fq)
  (d51:cO K "series" Bx)
  (d52:cO K "prime" Fd)
  (d53:cO K "shape" E9)
  (d54:cO K "simple" E8)
  (d55:cO K "same" Fb)
  (d56:cO K "maps" yF)
  (d57:cO K "ask" E7)
  (d58:cO K "put" ED)
  (d59:cO K "make" EM)
  (d60:cO K "over" EI)
  (d61:cO K "pairs" EF)
  (d62:cO K "fits_places" EW)
  (d63:cO K "fits_group" EX)
  (d64:cO K "all_fit" Fp)
  (d65:cO K "answer" By)
  (d66:cO K "take_given" Ez)
  (d67:cO K "answers" Fm)
  (q_quo:Ii K "quotient" yD cq pq) (q_pai:Ii K "paired" wx cp pp) (hpq:pq≠pp)
  (r_quo:∃d,(recsOf Pv).find? (fun e=>e.name==("quotient":Str))=some d) (r_pai:∃d,(recsOf Pv).find? (fun e=>e.name==("paired":Str))=some d)
  (tA:DS K "ASKING" aA eA) (tF:DS K "FORMS" aF eF) (tP:DS K "PUTTING" aP eP) (fok:vF (kvsOf eF)=true) (pok:(kvsOf eP).map (·.1)=[1,22,23]) (nsm:(aP==sysModules)=false)
  (e_2:nsIn K mainGlobals "size"=some (valueAt (kvsOf eA) 2))
  (e_3:nsIn K mainGlobals "name"=some (valueAt (kvsOf eA) 3))
  (e_4:nsIn K mainGlobals "number"=some (valueAt (kvsOf eA) 4))
  (e_5:nsIn K mainGlobals "word"=some (valueAt (kvsOf eA) 5))
  (e_6:nsIn K mainGlobals "times"=some (valueAt (kvsOf eA) 6))
  (e_7:nsIn K mainGlobals "inverse"=some (valueAt (kvsOf eA) 7))
  (e_8:nsIn K mainGlobals "power"=some (valueAt (kvsOf eA) 8))
  (e_9:nsIn K mainGlobals "order"=some (valueAt (kvsOf eA) 9))
  (e_10:nsIn K mainGlobals "made"=some (valueAt (kvsOf eA) 10))
  (e_11:nsIn K mainGlobals "kind"=some (valueAt (kvsOf eA) 11))
  (e_12:nsIn K mainGlobals "normal"=some (valueAt (kvsOf eA) 12))
  (e_13:nsIn K mainGlobals "central"=some (valueAt (kvsOf eA) 13))
  (e_14:nsIn K mainGlobals "stay"=some (valueAt (kvsOf eA) 14))
  (e_15:nsIn K mainGlobals "mixed"=some (valueAt (kvsOf eA) 15))
  (e_16:nsIn K mainGlobals "classes"=some (valueAt (kvsOf eA) 16))
  (e_17:nsIn K mainGlobals "cosets"=some (valueAt (kvsOf eA) 17))
  (e_18:nsIn K mainGlobals "series"=some (valueAt (kvsOf eA) 18))
  (e_19:nsIn K mainGlobals "prime"=some (valueAt (kvsOf eA) 19))
  (e_20:nsIn K mainGlobals "shape"=some (valueAt (kvsOf eA) 20))
  (e_21:nsIn K mainGlobals "simple"=some (valueAt (kvsOf eA) 21))
  (e_24:nsIn K mainGlobals "same"=some (valueAt (kvsOf eA) 24))
  (e_25:nsIn K mainGlobals "maps"=some (valueAt (kvsOf eA) 25))
  (e_1:nsIn K mainGlobals "make"=some (valueAt (kvsOf eP) 1))
  (e_22:nsIn K mainGlobals "over"=some (valueAt (kvsOf eP) 22))
  (e_23:nsIn K mainGlobals "pairs"=some (valueAt (kvsOf eP) 23))
  : ∃(fd:FuncData)(pq' pp' cq' cp':Addr),(∀(s:Shared)(us:List Value),us.length=1->BindsTo s fd ⟨us,[]⟩ (([("calls":Str)]).zip us))/\PySem.W.TabsAt [(cq',pq'),(cp',pp')] h/\K.lookup pq'=none/\K.lookup pp'=none /\
    ∀base:Heap,K.In base->base.Ns mainGlobals mg->Bm mg base->aG P w K mg base bA 11 fa fd ["calls"] (yt K pq' pp'):=by
 have G:=TT.g
 have no:=fun{x:Str}(e:nsIn K mainGlobals x=some none)=>PySem.W.mg_none_of X G e
 have T:Tx mg:=⟨no n_range,no n_tuple,no n_list,no n_sorted,no n_len⟩
 have T2:LZ mg:=⟨⟨_,mg_of X G k_mp⟩,⟨_,mg_of X G k_mgn⟩⟩
 have T3:LY mg:=⟨no n_enumerate,⟨_,mg_of X G k_mst⟩⟩
 have T4:xq mg:=⟨no n_min,no n_max,no n_all,no n_set,no n_reversed,no n_zip⟩
 have T5:Mj mg:=⟨⟨_,mg_of X G k_mch⟩⟩
 have T6:LX mg:=⟨⟨_,mg_of X G k_rws⟩,⟨_,mg_of X G k_plc⟩⟩
 have TC:TG K C:=⟨⟨cg.pg,cg.hd,cg.po,cg.sa⟩,a_names,a_words,a_table,a_inverses,a_generators⟩
 have TR':TR K R:=⟨⟨cr.pg,cr.hd,cr.po,cr.sa⟩,a_numbers,a_at⟩
 have mC:=mg_of X G cg.nm
 have mR:=mg_of X G cr.nm
 obtain⟨f70,fd70,F70,M70⟩:=m70.get
 have b70:=F70.binds (ps:=["self","names","words","table","generators"]) fun _ _ _ _ _ _ us hl=>match us,hl with|[_,_,_,_,_],_=>rfl
 obtain⟨f77,fd77,F77,M77⟩:=m77.get
 have b77:=F77.binds (ps:=["self","numbers"]) fun _ _ _ _ _ _ us hl=>match us,hl with|[_,_],_=>rfl
 obtain⟨f6,fd6,F6,g6,i6⟩:=d6.get X G
 have b6:=F6.binds (ps:=["one","generators","product"]) (qp fun _ _ _ _ _ _ _ _ _=>rfl)
 obtain⟨f24,fd24,F24,g24,i24⟩:=KI.get X G
 have b24:=F24.binds (ps:=["first","second"]) (fL fun _ _ _ _ _ _ _ _=>rfl)
 obtain⟨f25,fd25,F25,g25,i25⟩:=KH.get X G
 have b25:=F25.binds (ps:=["row","n"]) (fL fun _ _ _ _ _ _ _ _=>rfl)
 obtain⟨f67,fd67,F67,g67,i67⟩:=d67.get X G
 have b67:=F67.binds (ps:=["calls"]) (sH fun _ _ _ _ _ _ _=>rfl)
 obtain⟨f68,fd68,F68,g68,c68,t68⟩:=q_quo.get X G
 have b68:=F68.binds (ps:=["group","normal_one"]) (fL fun _ _ _ _ _ _ _ _=>rfl)
 obtain⟨f69,fd69,F69,g69,c69,t69⟩:=q_pai.get X G
 have b69:=F69.binds (ps:=["group","other"]) (fL fun _ _ _ _ _ _ _ _=>rfl)
 have N71:∀base,aK P w K mg base C "size" 1 ["self"] (cC C):=fun base=>mO m71 (sH fun _ _ _ _ _ _ _=>rfl) fun _ _ F=>B2 F T TC
 have N72:∀base,aK P w K mg base C "times" 1 ["self","i","j"] (cK C):=fun base=>mO m72 (qp fun _ _ _ _ _ _ _ _ _=>rfl) fun _ _ F=>zq F TC
 have N73:∀base,aK P w K mg base C "inverse" 1 ["self","i"] (qE C):=fun base=>mO m73 (fL fun _ _ _ _ _ _ _ _=>rfl) fun _ _ F=>Gx F TC
 have N74:∀base,aK P w K mg base C "turned" 2 ["self","i","j"] (pj C):=fun base=>mO m74 (qp fun _ _ _ _ _ _ _ _ _=>rfl) fun _ _ F=>BZ F TC (N72 base) (N73 base)
 have N75:∀base,aK P w K mg base C "order" 2 ["self","i"] (qB C):=fun base=>mO m75 (fL fun _ _ _ _ _ _ _ _=>rfl) fun _ _ F=>Gg F TC (N72 base)
 have N76:∀base,aK P w K mg base C "power" 3 ["self","i","n"] (xX C):=fun base=>mO m76 (qp fun _ _ _ _ _ _ _ _ _=>rfl) fun _ _ F=>Gb F T TC (N72 base) (N75 base)
 have N78:∀base,aK P w K mg base R "ended" 1 ["self"] (Er K R):=fun base=>mO m78 (sH fun _ _ _ _ _ _ _=>rfl) fun _ _ F=>JI F T TR'
 have N79:∀base,aK P w K mg base R "take_number" 1 ["self"] (xT K R):=fun base=>mO m79 (sH fun _ _ _ _ _ _ _=>rfl) fun _ _ F=>JG F TR'
 have N80:∀base,aK P w K mg base R "take_row" 2 ["self"] (Eo K R):=fun base=>mO m80 (sH fun _ _ _ _ _ _ _=>rfl) fun _ _ F=>JF F TR' (N79 base)
 have D23:∀base,ay P w K mg base "unmoved" 1 ["n"] (xM):=fun base=>dO LJ X G (sH fun _ _ _ _ _ _ _=>rfl) fun _ _ F=>FR F T
 have D24:∀base,ay P w K mg base "first_then" 1 ["first","second"] (yf):=fun base=>dO KI X G (fL fun _ _ _ _ _ _ _ _=>rfl) fun _ _ F=>zt F T
 have D25:∀base,ay P w K mg base "is_shuffle" 1 ["row","n"] (yd K):=fun base=>dO KH X G (fL fun _ _ _ _ _ _ _ _=>rfl) fun _ _ F=>zr F T
 have D26:∀base,ay P w K mg base "parted" 2 ["n","numbers"] (xY K):=fun base=>dO d26 X G (fL fun _ _ _ _ _ _ _ _=>rfl) fun _ _ F=>Gd F T T2 F25 g25 b25
 have D8:∀base,ay P w K mg base "is_set" 2 ["group","row"] (xR K C):=fun base=>dO d8 X G (fL fun _ _ _ _ _ _ _ _=>rfl) fun _ _ F=>F2 F TC (N71 base)
 have D9:∀base,ay P w K mg base "least_subgroup" 2 ["group","members"] (j5 K C):=fun base=>dO d9 X G (fL fun _ _ _ _ _ _ _ _=>rfl) fun _ _ F=>Gm F T TC (N72 base)
 have D11:∀base,ay P w K mg base "all_turned" 3 ["group","members"] (uU K C):=fun base=>dO d11 X G (fL fun _ _ _ _ _ _ _ _=>rfl) fun _ _ F=>GU F T TC (N71 base) (N74 base)
 have D12:∀base,ay P w K mg base "least_normal" 4 ["group","members"] (qD K C):=fun base=>dO d12 X G (fL fun _ _ _ _ _ _ _ _=>rfl) fun _ _ F=>Gp F (D9 base) (D11 base)
 have D13:∀base,ay P w K mg base "is_subgroup" 3 ["group","members"] (uT K C):=fun base=>dO d13 X G (fL fun _ _ _ _ _ _ _ _=>rfl) fun _ _ F=>Gw F (D9 base)
 have D14:∀base,ay P w K mg base "is_normal" 5 ["group","members"] (uS K C):=fun base=>dO d14 X G (fL fun _ _ _ _ _ _ _ _=>rfl) fun _ _ F=>Gv F (D12 base)
 have D15:∀base,ay P w K mg base "commutes" 2 ["group","i","members"] (ym K C):=fun base=>dO LL X G (qp fun _ _ _ _ _ _ _ _ _=>rfl) fun _ _ F=>GN F T4.al TC (N72 base)
 have D16:∀base,ay P w K mg base "commuting" 3 ["group","members"] (yo K C):=fun base=>dO d16 X G (fL fun _ _ _ _ _ _ _ _=>rfl) fun _ _ F=>GO F T TC (N71 base) (D15 base)
 have D33:∀base,ay P w K mg base "counted" 1 ["row"] (fS K):=fun base=>dO d33 X G (sH fun _ _ _ _ _ _ _=>rfl) fun _ _ F=>GL F T
 have D7:∀base,ay P w K mg base "table_of" 3 ["names","numbers","product"] (xO P w K mg base):=fun base=>dO d7 X G (qp fun _ _ _ _ _ _ _ _ _=>rfl) fun _ _ F=>FY F
 have D10:∀base,ay P w K mg base "turned_by" 3 ["group","members","j"] (uO K C):=fun base=>dO d10 X G (qp fun _ _ _ _ _ _ _ _ _=>rfl) fun _ _ F=>FX F T TC (N74 base)
 have D17:∀base,ay P w K mg base "keeping" 4 ["group","members"] (yc K C):=fun base=>dO d17 X G (fL fun _ _ _ _ _ _ _ _=>rfl) fun _ _ F=>Gs F T TC (N71 base) (D10 base)
 have D18:∀base,ay P w K mg base "mixed_pair" 2 ["group","i","j"] (ya C):=fun base=>dO d18 X G (qp fun _ _ _ _ _ _ _ _ _=>rfl) fun _ _ F=>Gh F TC (N72 base) (N73 base)
 have D19:∀base,ay P w K mg base "mixed_of" 3 ["group","members","others"] (qC K C):=fun base=>dO d19 X G (qp fun _ _ _ _ _ _ _ _ _=>rfl) fun _ _ F=>Gj F T (D18 base) (D9 base)
 have D20:∀base,ay P w K mg base "least_in_classes" 4 ["group"] (yb C):=fun base=>dO d20 X G (sH fun _ _ _ _ _ _ _=>rfl) fun _ _ F=>Gr F T T4 TC (N71 base) (D11 base)
 have D21:∀base,ay P w K mg base "least_in_cosets" 2 ["group","subgroup"] (uR K C):=fun base=>dO d21 X G (fL fun _ _ _ _ _ _ _ _=>rfl) fun _ _ F=>Gq F T T4 TC (N71 base) (N72 base)
 have D28:∀base,ay P w K mg base "is_prime" 1 ["p"] (xW):=fun base=>dO d28 X G (sH fun _ _ _ _ _ _ _=>rfl) fun _ _ F=>Ga F T T4
 have D29:∀base,ay P w K mg base "greatest_power" 1 ["p","number"] (ye):=fun base=>dO d29 X G (fL fun _ _ _ _ _ _ _ _=>rfl) fun _ _ F=>Gy F
 have D30:∀base,ay P w K mg base "falling" 1 ["members"] (yj K):=fun base=>dO d30 X G (sH fun _ _ _ _ _ _ _=>rfl) fun _ _ F=>GJ F T T4
 have D32:∀base,ay P w K mg base "is_simple" 5 ["group"] (xP C):=fun base=>dO d32 X G (sH fun _ _ _ _ _ _ _=>rfl) fun _ _ F=>FZ F T T4 TC (N71 base) (D12 base)
 have D27:∀base,ay P w K mg base "row_of_mixed" 4 ["group","lower"] (xS C):=fun base=>dO d27 X G (fL fun _ _ _ _ _ _ _ _=>rfl) fun _ _ F=>F3 F T TC (N71 base) (D19 base)
 have D31:∀base,ay P w K mg base "prime_subgroup" 4 ["group","p"] (xV C):=fun base=>dO d31 X G (fL fun _ _ _ _ _ _ _ _=>rfl) fun _ _ F=>F8 F T T4 TC (N71 base) (D29 base) (D9 base) (D10 base) (D30 base)
 have D1:∀base,ay P w K mg base "too_many_choices" 2 ["group","other"] (uN C):=fun base=>dO d1 X G (fL fun _ _ _ _ _ _ _ _=>rfl) fun _ _ F=>FU F T5 TC (N71 base)
 have D2:∀base,ay P w K mg base "choices" 1 ["size","length"] (yp):=fun base=>dO d2 X G (fL fun _ _ _ _ _ _ _ _=>rfl) fun _ _ F=>GP F T
 have D3:∀base,ay P w K mg base "extended" 2 ["group","other","images"] (yk C):=fun base=>dO d3 X G (qp fun _ _ _ _ _ _ _ _ _=>rfl) fun _ _ F=>GK F T T4 TC (N71 base) (N72 base)
 have D4:∀base,ay P w K mg base "all_maps" 3 ["group","other"] (uV C):=fun base=>dO d4 X G (fL fun _ _ _ _ _ _ _ _=>rfl) fun _ _ F=>Hn F T TC (N71 base) (D2 base) (D3 base)
 have D5:∀base,ay P w K mg base "first_same" 4 ["group","other"] (yg C):=fun base=>dO d5 X G (fL fun _ _ _ _ _ _ _ _=>rfl) fun _ _ F=>GC F T T4 TC (N71 base) (D4 base)
 have D34:∀base,ay P w K mg base "parts" 1 ["least"] (uQ):=fun base=>dO d34 X G (sH fun _ _ _ _ _ _ _=>rfl) fun _ _ F=>F7 F T T4
 have D58:∀base,ay P w K mg base "put" 2 ["places","d","group"] (qA C pq pp):=fun base=>dO d58 X G (qp fun _ _ _ _ _ _ _ _ _=>rfl) fun _ _ F=>F5 F TC (N71 base)
 have D62:∀base,ay P w K mg base "fits_places" 1 ["places","letter","k"] (yh C):=fun base=>dO d62 X G (qp fun _ _ _ _ _ _ _ _ _=>rfl) fun _ _ F=>GD F T
 have D63:∀base,ay P w K mg base "fits_group" 3 ["group","letter","value"] (yi K C):=fun base=>dO d63 X G (qp fun _ _ _ _ _ _ _ _ _=>rfl) fun _ _ F=>GH F TC (N71 base) (D8 base)
 have D64:∀base,ay P w K mg base "all_fit" 4 ["places","form","given"] (yu K C):=fun base=>dO d64 X G (qp fun _ _ _ _ _ _ _ _ _=>rfl) fun _ _ F=>Hr F T4 (D62 base) (D63 base)
 have D66:∀base,ay P w K mg base "take_given" 3 ["reader","form"] (xN K R):=fun base=>dO d66 X G (fL fun _ _ _ _ _ _ _ _=>rfl) fun _ _ F=>FW F T6 TR' (N79 base) (N80 base)
 have GI:∀base,aG P w K mg base bA 1 f70 fd70 ["self","names","words","table","generators"] (Es C):=fun base=>JL F70 TC
 have RI:∀base,aG P w K mg base bA 1 f77 fd77 ["self","numbers"] (Ep R):=fun base=>JH F77 TR'
 have MkG:Mk K C f70:=⟨cg.Mf,M70.at_,M70.fn,cg.kc⟩
 have MkR:Mk K R f77:=⟨cr.Mf,M77.at_,M77.fn,cr.kc⟩
 have GG:∀base,aG P w K mg base bA 4 f6 fd6 ["one","generators","product"] (oy P w K mg C base):=fun base=>GA (fT:=f6) (fdT:=fd6) F6 T T3 MkG (GI base) b70 mC (D7 base)
 obtain⟨dq,hdq⟩:=r_quo
 obtain⟨dp,hdp⟩:=r_pai
 have tq:=tab_of TT X hdq t68
 have tp:=tab_of TT X hdp t69
 have ea:f67=fa:=by
  have:=g67.symm.trans hfa
  cases this;rfl
 subst ea
 refine⟨fd67,pq,pp,cq,cp,fun s us hu=>?_,List.forall_mem_cons.mpr ⟨tq,List.forall_mem_cons.mpr ⟨tp,fun _ h=>nomatch h⟩⟩,q_quo.no,q_pai.no,fun base KB GB BB=>?_⟩
 ·obtain⟨oc,od,kV,doc,pm,an,cdv,ct,osl,rfl,_,_⟩:=F67.ex
  exact match us,hu with|[_],_=>.of_eq rfl
 ·have TBq:Tab mg base fd68.code pq:=⟨⟨cq,c68,codeHd_of_K KB q_quo.hd⟩,BB⟩
  have TBp:Tab mg base fd69.code pp:=⟨⟨cp,c69,codeHd_of_K KB q_pai.hd⟩,BB⟩
  have D68:ay P w K mg base "quotient" 5 ["group","normal_one"] (uP K C pq pp):=⟨_,_,g68,F68.kp,F4 F68 hpq TBq TC (D21 base) (fun b _=>GG b) g6 F6.kp b6 (fun b _=>N72 b),b68⟩
  have D69:ay P w K mg base "paired" 5 ["group","other"] (xZ C pq pp):=⟨_,_,g69,F69.kp,Ge F69 hpq TBp TC (N71 base) (fun b _=>GG b) g6 F6.kp b6 (fun b _=>N72 b),b69⟩
  have D22:ay P w K mg base "shape_of" 6 ["group"] (xQ C pq pp):=dO LK X G (sH fun _ _ _ _ _ _ _=>rfl) fun _ _ F=>F0 F T T4 TC (N71 base) (N75 base) (D19 base) (D9 base) D68
  have D6:ay P w K mg base "generated" 4 ["one","generators","product"] (oy P w K mg C base):=⟨_,_,g6,F6.kp,GG base,b6⟩
  have AT:Km P w K mg base C pq pp:=by
   refine⟨aA,_,mg_of X G tA.nm,tA.dict,fun c as r ha=>?_⟩
   rcases xo ha with rfl|rfl|rfl|rfl|rfl|rfl|rfl|rfl|rfl|rfl|rfl|rfl|rfl|rfl|rfl|rfl|rfl|rfl|rfl|rfl|rfl|rfl
   ·exact aO (ps:=["group"]) d35 X G e_2 (sH fun _ _ _ _ _ _ _=>rfl) fun _ _ F=>GW F TC (N71 base)
   ·exact aO (ps:=["group","i"]) d36 X G e_3 (fL fun _ _ _ _ _ _ _ _=>rfl) fun _ _ F=>Hj F TC (D33 base)
   ·exact aO (ps:=["group","a"]) d37 X G e_4 (fL fun _ _ _ _ _ _ _ _=>rfl) fun _ _ F=>Hk F T TC
   ·exact aO (ps:=["group","i"]) d38 X G e_5 (fL fun _ _ _ _ _ _ _ _=>rfl) fun _ _ F=>GQ F TC (D33 base)
   ·exact aO (ps:=["group","i","j"]) d39 X G e_6 (qp fun _ _ _ _ _ _ _ _ _=>rfl) fun _ _ F=>GV F TC (N72 base)
   ·exact aO (ps:=["group","i"]) d40 X G e_7 (fL fun _ _ _ _ _ _ _ _=>rfl) fun _ _ F=>Hq F TC (N73 base)
   ·exact aO (ps:=["group","i","n"]) d41 X G e_8 (qp fun _ _ _ _ _ _ _ _ _=>rfl) fun _ _ F=>He F TC (N76 base)
   ·exact aO (ps:=["group","i"]) d42 X G e_9 (fL fun _ _ _ _ _ _ _ _=>rfl) fun _ _ F=>Hg F TC (N75 base)
   ·exact aO (ps:=["group","s"]) d43 X G e_10 (fL fun _ _ _ _ _ _ _ _=>rfl) fun _ _ F=>Hm F (D33 base) (D9 base)
   ·exact aO (ps:=["group","s"]) d44 X G e_11 (fL fun _ _ _ _ _ _ _ _=>rfl) fun _ _ F=>Ho F (D13 base) (D14 base)
   ·exact aO (ps:=["group","s"]) d45 X G e_12 (fL fun _ _ _ _ _ _ _ _=>rfl) fun _ _ F=>Hi F (D33 base) (D12 base)
   ·exact aO (ps:=["group","s"]) d46 X G e_13 (fL fun _ _ _ _ _ _ _ _=>rfl) fun _ _ F=>Hv F (D33 base) (D16 base)
   ·exact aO (ps:=["group","s"]) d47 X G e_14 (fL fun _ _ _ _ _ _ _ _=>rfl) fun _ _ F=>GX F (D33 base) (D17 base)
   ·exact aO (ps:=["group","s","t"]) d48 X G e_15 (qp fun _ _ _ _ _ _ _ _ _=>rfl) fun _ _ F=>Hl F (D33 base) (D19 base)
   ·exact aO (ps:=["group"]) d49 X G e_16 (sH fun _ _ _ _ _ _ _=>rfl) fun _ _ F=>Hu F (D34 base) (D20 base)
   ·exact aO (ps:=["group","s"]) d50 X G e_17 (fL fun _ _ _ _ _ _ _ _=>rfl) fun _ _ F=>Ht F (D13 base) (D34 base) (D21 base)
   ·exact aO (ps:=["group","h"]) d51 X G e_18 (fL fun _ _ _ _ _ _ _ _=>rfl) fun _ _ F=>Hb F T (D33 base) (D27 base)
   ·exact aO (ps:=["group","p"]) d52 X G e_19 (fL fun _ _ _ _ _ _ _ _=>rfl) fun _ _ F=>Hf F T3 (D28 base) (D33 base) (D31 base)
   ·exact aO (ps:=["group"]) d53 X G e_20 (sH fun _ _ _ _ _ _ _=>rfl) fun _ _ F=>Ha F (D33 base) D22
   ·exact aO (ps:=["group"]) d54 X G e_21 (sH fun _ _ _ _ _ _ _=>rfl) fun _ _ F=>GZ F (D32 base)
   ·exact aO (ps:=["group","other"]) d55 X G e_24 (fL fun _ _ _ _ _ _ _ _=>rfl) fun _ _ F=>Hc F (D1 base) (D5 base)
   ·exact aO (ps:=["group","other"]) d56 X G e_25 (fL fun _ _ _ _ _ _ _ _=>rfl) fun _ _ F=>B3 F T (D1 base) (D4 base)
  have D57:ay P w K mg base "ask" 9 ["call","values"] (yq K C pq pp):=dO d57 X G (fL fun _ _ _ _ _ _ _ _=>rfl) fun _ _ F=>GY F T AT
  have PT:Kd P w K mg base C pq pp:=by
   refine⟨aP,_,mg_of X G tP.nm,tP.dict,nsm,fun c hc=>?_,fun c hc=>wy pok hc⟩
   rcases rQ hc with rfl|rfl|rfl
   ·exact pO (ps:=["places","d","n","g"]) d59 X G e_1 (LN fun _ _ _ _ _ _ _ _ _ _=>rfl) fun _ _ F=>Gk F T (D26 base) D6 (D23 base) (D58 base) F24 g24 b24
   ·exact pO (ps:=["places","d","group","s"]) d60 X G e_22 (LN fun _ _ _ _ _ _ _ _ _ _=>rfl) fun _ _ F=>Gf F (D14 base) D68 (D58 base)
   ·exact pO (ps:=["places","d","group","other"]) d61 X G e_23 (LN fun _ _ _ _ _ _ _ _ _ _=>rfl) fun _ _ F=>F9 F T T2 TC D69 (D58 base)
  have FT:AO K mg:=⟨aF,_,mg_of X G tF.nm,tF.dict,fun c x e=>Ao fok e⟩
  have D65:ay P w K mg base "answer" 10 ["places","call","given"] (yr K C pq pp):=dO d65 X G (qp fun _ _ _ _ _ _ _ _ _=>rfl) fun _ _ F=>Hh F T4 FT PT (D64 base) D57
  exact ok_all F67 T6 TR' hRC MkR (RI base) b77 mR (N79 base) (N78 base) FT (D66 base) D65 (D33 base)
end Pg
open PySem PySem.W PyProof.Rows
set_option maxRecDepth 100000 in
set_option maxHeartbeats 0 in
theorem PySem.Challenge.cw_shufflegroups_s01_answers_holds : PySem.Challenge.rw_shufflegroups_s01_answers.Holds := by
 w_on
 refine holds_os (Xt:=fun s=>xlAt Hd.kV [] s&&recOk [] s) (XP:=XL Hd.kV []) (YP:=Hook.says Hd.AR) Hd.M5 (Hook.of Hd.AR) (Hook.keeps Hd.AR) (fun s e=>xl_of s (Bool.and_eq_true_iff.mp e).1) XL.keeps (by rfl) (by rfl) (by rfl) (fun s e=>recFacts_of (Bool.and_eq_true_iff.mp e).2) os_shapes (by decide +kernel) (by decide +kernel) ⟨rfl,rfl,rfl,rfl,rfl,by decide +kernel⟩ ⟨[.list []],by decide +kernel,by decide +kernel⟩ ?hc
 delta Hd.AR;k_fillS
 refine L2.sV (r:=PySem.Challenge.rw_shufflegroups_s01_answers) (k:=11) (p:="calls") (sp:=Pg.yt) (by decide +kernel) ⟨rfl,by decide,by decide⟩ (fun w h Y=>kIn_of Y) ?F ?S
 case F=>
  intro w mg mb ls mean fa h KX TT hmg;refine' Pg.all_mk KX TT hmg ?x1 ?x2 ?x3 ?x4 ?x5 ?x6 ?x7 ?x8 ?x9 ?x10 ?x11 ?x12 ?x13 ?x14 ?x15 ?x16 ?x17 ?x18 ?x19 ?x20 ?x21 ?x22 ?x23 ?x24 ?x25 ?x26 ?x27 ?x28 ?x29 ?x30 ?x31 ?x32 ?x33 ?x34 ?x35 ?x36 ?x37 ?x38 ?x39 ?x40 ?x41 ?x42 ?x43 ?x44 ?x45 ?x46 ?x47 ?x48 ?x49 ?x50 ?x51 ?x52 ?x53 ?x54 ?x55 ?x56 ?x57 ?x58 ?x59 ?x60 ?x61 ?x62 ?x63 ?x64 ?x65 ?x66 ?x67 ?x68 ?x69 ?x70 ?x71 ?x72 ?x73 ?x74 ?x75 ?x76 ?x77 ?x78 ?x79 ?x80 ?x81 ?x82 ?x83 ?x84 ?x85 ?x86 ?x87 ?x88 ?x89 ?x90 ?x91 ?x92 ?x93 ?x94 ?x95 ?x96 ?x97 ?x98 ?x99 ?x100 ?x101 ?x102 ?x103 ?x104 ?x105 ?x106 ?x107 ?x108 ?x109 ?x110 ?x111 ?x112 ?x113 ?x114 ?x115 ?x116 ?x117 ?x118 ?x119 ?x120 ?x121 ?x122 ?x123 ?x124 ?x125 ?x126 ?x127 ?x128 ?x129 ?x130 ?x131 ?x132 ?x133 ?x134 ?x135 ?x136 ?x137 ?x138 ?x139 ?x140 ?x141 ?x142
  case x1|x2=>refine'⟨?a,?b,?c,?d,?e,?f,?g⟩;(case a|b|c|d|e|f|g=>k_is)
  case x3=>decide
  case x4|x5|x6|x7|x8|x9|x10|x11|x12|x13|x14|x15|x16|x17|x18|x19|x20|x21|x22|x23|x24|x25|x26|x27|x28=>k_is
  case x29|x30|x31|x32|x33|x34|x35|x36|x37|x38|x39=>refine' Pg.sL.of ?a ?b ?c ?d ?e;(case a|b|c|d|e=>k_is)
  case x40|x41|x42|x43|x44|x45|x46|x47|x48|x49|x50|x51|x52|x53|x54|x55|x56|x57|x58|x59|x60|x61|x62|x63|x64|x65|x66|x67|x68|x69|x70|x71|x72|x73|x74|x75|x76|x77|x78|x79|x80|x81|x82|x83|x84|x85|x86|x87|x88|x89|x90|x91|x92|x93|x94|x95|x96|x97|x98|x99|x100|x101|x102|x103|x104|x105|x106=>refine' Pg.cO.of ?a ?b ?c ?d;(case a|b|c|d=>k_is)
  case x107|x108=>refine' Pg.Ii.of ?a ?b ?c ?d ?e ?f ?g ?h;(case a|b|c|d|e=>k_is);(case f=>rfl);(case g|h=>kernel_rfl)
  case x109=>decide
  case x110|x111=>exact⟨_,rfl⟩
  case x112|x113|x114=>refine' Pg.DS.of ?a ?b ?c ?d;(case a|b=>k_is);(case c|d=>decide +kernel)
  case x115|x116|x117=>decide +kernel
  case x118|x119|x120|x121|x122|x123|x124|x125|x126|x127|x128|x129|x130|x131|x132|x133|x134|x135|x136|x137|x138|x139|x140|x141|x142=>k_is
 case S=>
  intro a hwi hask;refine⟨a.1,rfl,fun K pq pp H x h1 h2 hs=>?_⟩;obtain⟨k,rn,hl⟩:=Pg.uC (l:=a.1) hask;exact⟨x,a.1,answers a.1,k,rfl,hs,⟨.inl h1,.inl h2⟩,rn,hl,fun H' p hp=>.lst (L2.aH.of hp) (L2.vH _)⟩
