import PyProof.Rows.All
import Wide.All
import OpenK.AllK
import Wide.FinOn
import PyProof.EqAt
import PyProof.EqKinds
import PyProof.TupleCall
import KE.BitLaws
import Open.SpecLaws
import KE.OsHead
import KE.OsGo
import KE.KTupSum
import PySem.Challenge.RW_carpetworks_s01_answers
import Kh353Spec
import PyProof.Rows.SortShellAny
import KE.KLam
import PyProof.FactsAll.int_6
import PyProof.AutoIntG2
import PyProof.ZipIter
import KE.KDictList
import PyKh353
import KE.KNestM
set_option Elab.async false
set_option linter.all false
set_option maxRecDepth 100000
set_option compiler.extract_closed false
set_option maxHeartbeats 2000000
section
open Lean in
local macro_rules|`(#print $s:str)=>do
 let c:=`PySem.Challenge
 let t:=`hd0
 return mkNullNode (<-(["rw","pw","nm"].map (fun k=>c.str (k++"_carpetworks_s01_answers"))++(s.getString.splitOn++(List.range 990).map (s!"o_{·}")).map t.str).toArray.mapM fun n=>`(theorem $(mkIdent (.str `PySem.W.Fast s!"tw{n.hash}")) :True:=trivial))
#print "tree_409 sts_567 sts_356 tree_195 sts_736 tree_735 tree_566 sts_254 sts_490 heap_8 tree_964 view_1 sts_654 tree_286 sts_617 sts_812 sts_60 sts_967 tree_862 heap_1 sts_287 tree_309 tree_144 tree_355 tree_928 sts_196 tree_253 env_3 sts_410 tree_809 sts_783 tree_332 sts_863 tree_989 tree_651 sts_145 tree_616 heap_990 tree_59 sts_310 sts_929 tree_489 sts_333 sts_11 tree_9 tree_780"
open Lean in
local macro_rules|`(tactic|refine $t)=>do
 unless (t.raw.find? fun s=>s.isOfKind ``Parser.Term.syntheticHole&&s[1].getId==`hc).isSome do Macro.throwUnsupported
 `(tactic|(refine' $t;rotate_right;exact $(mkIdent `q) trivial))
open PySem PySem.W PyProof.Rows in
set_option maxHeartbeats 0 in
noncomputable def hd0:PSigma fun Q:Prop=>(True->Q)->PySem.Challenge.rw_carpetworks_s01_answers.Holds:=by
 constructor
 .intro q;w_on;k_headS;(case hw=>exact⟨[.list [.int 46]],by decide+kernel,by decide+kernel⟩)
end
abbrev b0:=PySem.W.Frag
abbrev cq:=PySem.Shared
abbrev c5:=PySem.FuncData
abbrev dn:=PySem.Program
abbrev dr:=PySem.Addr
abbrev ee:=PySem.Value
abbrev eu:=PySem.Around
abbrev fx:=PySem.World
abbrev gp:=PySem.Str->Option ee
abbrev hA:=List Int
abbrev ko:=List Nat
abbrev ky:=List PySem.Str
abbrev kA:=List ee
abbrev kB:=List (dr×PySem.Obj)
abbrev k0:=List (PySem.Str×dr)
abbrev mu:=List dr
abbrev ng:=Option Int
open Kh352 (firsts narrow okRoom okDoor DOORS widths)
open Kh351 (gap orders ofOrder givings fitsRoll ROLLS isOrder ofRoll subset bits)
open Kh353 (Work needOf cutting stripsBy stripsOf allStrips STRIPS bestTurn Frac does asksDyes nums costOf centimetre ROOMS withRoom asksRoom total finer Call okPattern)
open Kh350 (Vec isZero dyeAt priceAt shows axes by1 good by2 by3 frac tellMix okColour vec DYES)
abbrev aaN:=@Array.length_toList
abbrev aaO:=@Bool.and_eq_true
abbrev aaP:=@Bool.and_false
abbrev aaQ:=@Bool.and_true
abbrev aaR:=@Bool.eq_iff_iff
abbrev aaS:=@Bool.false_eq_true
abbrev aaT:=@Bool.false_ne_true
abbrev aaU:=@Bool.not_eq_true'
abbrev aaV:=@Bool.not_true
abbrev aaW:=@Bool.or_eq_true
abbrev aaX:=@PySem.Calls.callWith_builtin
abbrev aaY:=@PySem.Calls.spliced_cons
abbrev aaZ:=@PySem.Calls.spliced_nil
abbrev aa0:=@PySem.F.args_list_extend_2
abbrev aa1:=@PySem.F.entry_list_extend
abbrev aa2:=@PySem.F.plain_max_loop
abbrev aa3:=@PySem.F.slot_list_extend
abbrev aa4:=@PySem.F.slot_zip_next
abbrev aa5:=@PySem.Heap.IsList.push
abbrev aa6:=@PySem.Heap.get?_push_of_some
abbrev aa7:=@PySem.Heap.get?_push_size
abbrev aa8:=@PySem.Heap.get?_update_other
abbrev aa9:=@PySem.Heap.get?_update_self
abbrev aa_:=@PySem.Heap.lt_size
abbrev aba:=@PySem.Heap.size_push
abbrev abb:=@Int.emod_lt_of_pos
abbrev abc:=@Int.emod_nonneg
abbrev abd:=@Int.eq_ofNat_of_zero_le
abbrev abe:=@Int.le_antisymm
abbrev abf:=@Int.le_of_lt
abbrev abg:=@Int.le_refl
abbrev abh:=@Int.le_trans
abbrev abi:=@Int.lt_of_le_of_lt
abbrev abj:=@Int.mul_lt_mul_of_pos_right
abbrev abk:=@Int.mul_nonneg
abbrev abl:=@Int.mul_pos
abbrev abm:=@Int.ofNat.inj
abbrev abn:=@Int.ofNat_le
abbrev abo:=@Int.one_mul
abbrev abp:=@Int.toNat_natCast
abbrev abq:=@Int.toNat_of_nonneg
abbrev abr:=@List.Pairwise.filter
abbrev abt:=@List.Perm.refl
abbrev abu:=@List.all_cons
abbrev abv:=@List.all_eq_true
abbrev abw:=@List.all_map
abbrev abx:=@List.all_nil
abbrev aby:=@List.any_cons
abbrev abz:=@List.append_assoc
abbrev abA:=@List.append_nil
abbrev abB:=@List.concat_eq_append
abbrev abC:=@List.cons_ne_nil
abbrev abD:=@List.dropLast_concat_getLast
abbrev abE:=@List.drop_zero
abbrev abF:=@List.eq_nil_of_length_eq_zero
abbrev abG:=@List.eq_nil_or_concat
abbrev abH:=@List.ext_getElem?
abbrev abI:=@List.filterMap_cons
abbrev abJ:=@List.filter_congr
abbrev abK:=@List.filter_cons
abbrev abL:=@List.filter_eq_self
abbrev abM:=@List.filter_map
abbrev abN:=@List.find?_cons
abbrev abO:=@List.findSome?_cons
abbrev abP:=@List.flatMap_cons
abbrev abQ:=@List.flatMap_map
abbrev abR:=@List.foldl_append
abbrev abS:=@List.foldl_cons
abbrev abT:=@List.getD_cons_zero
abbrev abU:=@List.getD_eq_getElem?_getD
abbrev abV:=@List.getElem?_append_left
abbrev abW:=@List.getElem?_append_right
abbrev abX:=@List.getElem?_eq_getElem
abbrev abY:=@List.getElem?_eq_none
abbrev abZ:=@List.getElem?_eq_some_iff
abbrev ab0:=@List.getElem?_map
abbrev ab1:=@List.getElem?_set_ne
abbrev ab2:=@List.getElem?_set_self
abbrev ab3:=@List.getElem?_zipIdx
abbrev ab4:=@List.getElem?_zip_eq_some
abbrev ab5:=@List.getElem_mem
abbrev ab6:=@List.idxOf_lt_length_of_mem
abbrev ab7:=@List.length_append
abbrev ab8:=@List.length_cons
abbrev ab9:=@List.length_eraseIdx_le
abbrev ab_:=@List.length_filter_le
abbrev aca:=@List.length_map
abbrev acb:=@List.length_nil
abbrev acd:=@List.length_range
abbrev ace:=@List.length_reverse
abbrev acf:=@List.length_set
abbrev acg:=@List.length_singleton
abbrev ach:=@List.length_take
abbrev aci:=@List.length_zip
abbrev acj:=@List.lookup_cons
abbrev ack:=@List.map_append
abbrev acm:=@List.map_congr_left
abbrev acn:=@List.map_cons
abbrev aco:=@List.map_map
abbrev acp:=@List.map_nil
abbrev acq:=@List.mem_append
abbrev acr:=@List.mem_append_left
abbrev acs:=@List.mem_append_right
abbrev acu:=@List.mem_cons
abbrev acv:=@List.mem_cons_of_mem
abbrev acw:=@List.mem_cons_self
abbrev acx:=@List.mem_filter
abbrev acy:=@List.mem_flatMap
abbrev acz:=@List.mem_iff_getElem?
abbrev acA:=@List.mem_map
abbrev acB:=@List.mem_of_getElem?
abbrev acC:=@List.mem_of_mem_eraseIdx
abbrev acD:=@List.mem_of_mem_take
abbrev acE:=@List.mem_range
abbrev acF:=@List.mem_singleton
abbrev acG:=@List.mem_zipIdx_iff_getElem?
abbrev acH:=@List.mergeSort_perm
abbrev acI:=@List.nil_append
abbrev acJ:=@List.nodup_cons
abbrev acK:=@List.nodup_nil
abbrev acL:=@List.nodup_range
abbrev acM:=@List.not_mem_nil
abbrev acN:=@List.of_mem_zip
abbrev acO:=@List.pairwise_cons
abbrev acP:=@List.pairwise_lt_range
abbrev acQ:=@List.pairwise_map
abbrev acR:=@List.pairwise_singleton
abbrev acS:=@List.perm_ext_iff_of_nodup
abbrev acT:=@List.perm_nil
abbrev acU:=@List.range_succ
abbrev acV:=@List.range_succ_eq_map
abbrev acW:=@List.replicate_succ
abbrev acX:=@List.set_set
abbrev acY:=@List.size_toArray
abbrev acZ:=@List.sum_cons
abbrev ac0:=@List.take_append_drop
abbrev ac1:=@List.take_length
abbrev ac2:=@List.take_of_length_le
abbrev ac3:=@List.take_succ
abbrev ac4:=@List.zip_cons_cons
abbrev ac5:=@Nat.eq_of_testBit_eq
abbrev ac6:=@Nat.le_add_right
abbrev ac7:=@Nat.le_of_eq
abbrev ac8:=@Nat.le_of_lt
abbrev ac9:=@Nat.le_of_succ_le
abbrev ac_:=@Nat.le_refl
abbrev ada:=@Nat.le_succ
abbrev adb:=@Nat.le_trans
abbrev ade:=@Nat.lt_irrefl
abbrev adf:=@Nat.lt_of_le_of_lt
abbrev adg:=@Nat.lt_of_lt_of_le
abbrev adh:=@Nat.lt_or_ge
abbrev adi:=@Nat.lt_succ_of_lt
abbrev adj:=@Nat.lt_succ_self
abbrev adk:=@Nat.lt_trans
abbrev adl:=@Nat.min_eq_left
abbrev adm:=@Nat.mul_div_mul_right
abbrev adn:=@Nat.mul_le_mul_right
abbrev ado:=@Nat.ne_of_gt
abbrev adp:=@Nat.ne_of_lt
abbrev adq:=@Nat.not_lt_zero
abbrev ads:=@Nat.pow_le_pow_right
abbrev adt:=@Nat.sub_self
abbrev adu:=@Nat.succ_mul
abbrev adv:=@Nat.testBit_lt_two_pow
abbrev adw:=@Nat.testBit_or
abbrev adx:=@Nat.two_pow_pos
abbrev ady:=@Nat.zero_add
abbrev adz:=@Nat.zero_le
abbrev adA:=@Nat.zero_testBit
abbrev adB:=@Option.isSome_iff_exists
abbrev adC:=@Option.map_some
abbrev adD:=@Option.some.inj
abbrev adE:=@Option.toList_some
abbrev adF:=@PySem.PassesOwn.never
abbrev adG:=@PyProof.Rows.callWith_type1
abbrev adH:=@PySem.F.slot_list_append
abbrev adI:=@PySem.F.slot_list_extend
abbrev adJ:=@PySem.F.slot_list_pop
abbrev adK:=@PySem.F.type_list_append
abbrev adL:=@PySem.F.type_list_extend
abbrev adM:=@PySem.F.type_list_pop
abbrev adN:=@PySem.W.callWith_K
abbrev adO:=@PySem.W.length_le_weightAllW
abbrev adP:=@PySem.W.mg_none_of
abbrev adQ:=@PySem.W.mg_of
abbrev adR:=@PySem.W.plainGet_of
abbrev adS:=@PySem.mem_of_lookup
abbrev adT:=@beq_iff_eq
abbrev adU:=@PySem.call_meets
abbrev adV:=@PySem.codeAny_mono
abbrev adW:=@congrArg
abbrev adX:=@decide_eq_false
abbrev adY:=@decide_eq_false_iff_not
abbrev adZ:=@decide_eq_true
abbrev ad0:=@decide_eq_true_eq
abbrev ad1:=@if_false
abbrev ad2:=@if_neg
abbrev ad3:=@if_pos
abbrev ad4:=@if_true
abbrev ad5:=@PySem.intItems_at
abbrev ad6:=@not_false_eq_true
abbrev ad7:=@not_or
abbrev ad8:=@PySem.numAt_eq
abbrev ad9:=@PySem.nums_intItems
abbrev ad_:=@of_decide_eq_false
abbrev aea:=@of_decide_eq_true
abbrev aeb:=@or_false
abbrev aec:=@PySem.plainId_quiet
abbrev aed:=@PySem.pushCells_keeps
abbrev aee:=@PySem.typeIs_int
abbrev aef:=@PyProof.Rows.v_count
abbrev aeg:=@PyProof.Rows.v_start
abbrev aeh:=@PySem.wpAny_Call_Name_kw
abbrev aei:=@PySem.wpAny_bind
abbrev aej:=@PySem.wpAny_call
abbrev aek:=@PySem.wpAny_execs_nil
abbrev ael:=@PySem.wpAny_field
abbrev aem:=@PySem.wpAny_holding
abbrev aen:=@PySem.wpAny_letGo
abbrev aeo:=@PySem.wpAny_loadPart'
abbrev aep:=@PySem.wpAny_mono
abbrev aeq:=@PySem.wpAny_nextOf_list_item
abbrev aer:=@PySem.wpAny_onRaise
abbrev aes:=@PySem.wpAny_passesOwn
abbrev aet:=@PySem.wpAny_pure
abbrev aeu:=@PySem.wpAny_pyIter_list
abbrev aev:=@PySem.wpAny_pyIter_zip
abbrev aew:=@PySem.wpAny_pyNext_list_end
abbrev aex:=@PySem.wpAny_seqItems
abbrev aey:=@PySem.wpAny_setField_rec
abbrev aez:=@PySem.wpAny_standAt
abbrev aeA:=@PySem.wpAny_truthy_bool
abbrev aeB:=@PySem.wpAny_tryCatch
abbrev aeC:=@PySem.wpAny_updateSeq
open Lean in
local macro_rules|`($m:declModifiers def $i $s:optDeclSig $v)=>do
 if m.raw.getArgs.any (·.getNumArgs>0) then Macro.throwUnsupported
 return(<-if "BH keyH fG RelV yu KV kV upd iJ rk Rd Mut trk MC Tx Vis viB Loc Look EP TP AP SP PE PT PW PA PS Eo cc tC Gl PC tIsN Ya tB tAnd tOr tNot Ye tIf dh mO absV Rn rC wt Rm tRetN Ph PG PGs PSet i5 aad E2 WM aac tp FH xH PIE PI Itl Itt Itr Tc Z7 Yr Yq qe F_ xG UnR jB il tUn rI EH rU CPow UO scal rEq rNe Rl nP bY jF FX fV bO LK FI CE CR s_ Yb Ez Binds Passes PK rd je CU lexLt Am PO NP NO SlR tSl HH Qb OI OL IxR MtR gF L6 Sf Py xl Yw eqU tyV Za Rq MtM zE F2 rPop Zx VW rRep Zw Zy L7 Zz VV VU relS cP wipe PTs Y7 Y8 blkC Lw putK UM NoSl Yf Ro RgC Ite Td Itz Z6 inClass nZ e_ aO aE toV QO sS WC qD Lc dD nB DW vR OK Tab NT qa Kp af dQ ag XN jA gE g6 RE RT A0 AC RA fz AL RS IW RI upTo numbered Tg CK eE cut RO Se Sg JN Es Jh kI tLR Lh Yi top cross dot PZ gI iT sgn gw iU gH o7 jt EX oP BR mX oZ pick k8 lg MK cx gx vy eM rQ qM rE eY cR gO aZ iS bM tD eG zJ iV eS gN k_ keyLt Cz cz cn eK nM bg ba nS wY du cU aM eX eA p_ eB EnL yV fL qR cA i3 kG qW vH gOf qF OR SX kb Gives bw bT l7 jX cO pF Cx.in1 XQ XS UC rGtI rGtT QN Jf Je NQ Y9 RNew iQ Mt ie lL sD uz dw Itz3 Yp RTri Si lh mf Yd uc aP yy f6 fk jJ sV x8 da pG iH dF k9 kg sortI kh sN RV H_ col dG oO aW zG zF Sj wL cb wK F5 uO told vF tL me firstOf rO Ay pj aX Aw rowsOf Ax Rk mS YJ f7 xT uN F6 NH pD tN kW F4 tV uP xS xC Jg RLen tM F3 II At YI YH sE xD xE La xc c_ cV gZ kr mM fE jg mN sy vT vW l_ gD ki gC jh iF jf HM eD Fj Nu del Vz Ys HAt nG vY sA HZ SpHS SpH flat m_split counts tabs KD kvsOf tKIn tKGet Y_ dg CS F7 CL SpCall vt BJ yP BK fH SpT oA lW Run sT m7 m8 b_ TiOk hX OIs LI yx xo oM Ie Yk yI natOf Et qY i6 AOk Raw ET tLam N8 Yc l3 JK BE Yl qQ isI NS seqN Od NV TV entsN W4 t0".splitOn.contains i.raw[0].getId.toString then`(noncomputable def $i $s:optDeclSig $v) else`(theorem $i $(⟨mkNode ``Parser.Command.declSig #[s.raw[0],s.raw[1][0]]⟩):declSig $v)).raw.rewriteBottomUp (·.setInfo (.synthetic 0 0))
def xa1 {a:Sort u}{p:a->Prop}{g:Prop}(k:∀x,p x->g):(∃x,p x)->g:=fun⟨x,h⟩=>k x h
def xa2 {a:Sort u}{b:Sort v}{p:a->b->Prop}{g:Prop}(k:∀x y,p x y->g):(∃x y,p x y)->g:=xa1 fun x=>xa1 (k x)
def xa3 {a:Sort u}{b:Sort v}{c:Sort w}{p:a->b->c->Prop}{g:Prop}(k:∀x y z,p x y z->g):(∃x y z,p x y z)->g:=xa1 fun x=>xa2 (k x)
def xa4 {a:Sort u}{b:Sort v}{c:Sort w}{d:Sort r}{p:a->b->c->d->Prop}{g:Prop}(k:∀x y z m,p x y z m->g):(∃x y z m,p x y z m)->g:=xa1 fun x=>xa3 (k x)
def xa5 {a:Sort u}{b:Sort v}{c:Sort w}{d:Sort r}{e:Sort s}{p:a->b->c->d->e->Prop}{g:Prop}(k:∀x y z m n,p x y z m n->g):(∃x y z m n,p x y z m n)->g:=xa1 fun x=>xa4 (k x)
def xa6 {a:Sort u}{b:Sort v}{c:Sort w}{d:Sort r}{e:Sort s}{f:Sort t}{p:a->b->c->d->e->f->Prop}{g:Prop}(k:∀x y z m n o,p x y z m n o->g):(∃x y z m n o,p x y z m n o)->g:=xa1 fun x=>xa5 (k x)
def xi2 {a:Sort u}{b:Sort v}{p:a->b->Prop}(x:a)(y:b)(h:p x y):∃x y,p x y:=⟨x,y,h⟩
def xi3 {a:Sort u}{b:Sort v}{c:Sort w}{p:a->b->c->Prop}(x:a)(y:b)(z:c)(h:p x y z):∃x y z,p x y z:=⟨x,y,z,h⟩
def xi4 {a:Sort u}{b:Sort v}{c:Sort w}{d:Sort r}{p:a->b->c->d->Prop}(x:a)(y:b)(z:c)(m:d)(h:p x y z m):∃x y z m,p x y z m:=⟨x,y,z,m,h⟩
def xi5 {a:Sort u}{b:Sort v}{c:Sort w}{d:Sort r}{e:Sort s}{p:a->b->c->d->e->Prop}(x:a)(y:b)(z:c)(m:d)(n:e)(h:p x y z m n):∃x y z m n,p x y z m n:=⟨x,y,z,m,n,h⟩
def xb2 {a b g:Prop}(k:a->b->g):a/\b->g:=fun h=>k h.1 h.2
def xb3 {a b c g:Prop}(k:a->b->c->g):a/\b/\c->g:=xb2 fun x=>xb2 (k x)
def xb4 {a b c d g:Prop}(k:a->b->c->d->g):a/\b/\c/\d->g:=xb2 fun x=>xb3 (k x)
def xb5 {a b c d e g:Prop}(k:a->b->c->d->e->g):a/\b/\c/\d/\e->g:=xb2 fun x=>xb4 (k x)
def xb6 {a b c d e f g:Prop}(k:a->b->c->d->e->f->g):a/\b/\c/\d/\e/\f->g:=xb2 fun x=>xb5 (k x)
def xb7 {a b c d e f h g:Prop}(k:a->b->c->d->e->f->h->g):a/\b/\c/\d/\e/\f/\h->g:=xb2 fun x=>xb6 (k x)
def xb8 {a b c d e f h i g:Prop}(k:a->b->c->d->e->f->h->i->g):a/\b/\c/\d/\e/\f/\h/\i->g:=xb2 fun x=>xb7 (k x)
def xb9 {a b c d e f h i j g:Prop}(k:a->b->c->d->e->f->h->i->j->g):a/\b/\c/\d/\e/\f/\h/\i/\j->g:=xb2 fun x=>xb8 (k x)
def xb10 {a b c d e f h i j l g:Prop}(k:a->b->c->d->e->f->h->i->j->l->g):a/\b/\c/\d/\e/\f/\h/\i/\j/\l->g:=xb2 fun x=>xb9 (k x)
def xb11 {a b c d e f h i j l m g:Prop}(k:a->b->c->d->e->f->h->i->j->l->m->g):a/\b/\c/\d/\e/\f/\h/\i/\j/\l/\m->g:=xb2 fun x=>xb10 (k x)
def xb12 {a b c d e f h i j l m n g:Prop}(k:a->b->c->d->e->f->h->i->j->l->m->n->g):a/\b/\c/\d/\e/\f/\h/\i/\j/\l/\m/\n->g:=xb2 fun x=>xb11 (k x)
def hb0 {t:Type}{P:List t->Prop}(h:P []):∀u,u.length=0->P u|[],_=>h
def hb1 {t:Type}{P:List t->Prop}(h:∀a,P [a]):∀u,u.length=1->P u|[a],_=>h a
def hb2 {t:Type}{P:List t->Prop}(h:∀a b,P [a,b]):∀u,u.length=2->P u|[a,b],_=>h a b
def hb3 {t:Type}{P:List t->Prop}(h:∀a b c,P [a,b,c]):∀u,u.length=3->P u|[a,b,c],_=>h a b c
def hb4 {t:Type}{P:List t->Prop}(h:∀a b c d,P [a,b,c,d]):∀u,u.length=4->P u|[a,b,c,d],_=>h a b c d
def hb5 {t:Type}{P:List t->Prop}(h:∀a b c d e,P [a,b,c,d,e]):∀u,u.length=5->P u|[a,b,c,d,e],_=>h a b c d e
def hx1 {t:Type}:∀{u:List t},u.length=1->∃a,u=[a]|[a],_=>⟨a,rfl⟩
def hx2 {t:Type}:∀{u:List t},u.length=2->∃a b,u=[a,b]|[a,b],_=>⟨a,b,rfl⟩
def hx3 {t:Type}:∀{u:List t},u.length=3->∃a b c,u=[a,b,c]|[a,b,c],_=>⟨a,b,c,rfl⟩
def hx4 {t:Type}:∀{u:List t},u.length=4->∃a b c d,u=[a,b,c,d]|[a,b,c,d],_=>⟨a,b,c,d,rfl⟩
open Lean Parser.Tactic in
local macro_rules
|`(tactic|obtain $p:rcasesPatMed:=$h)=>do
 let m:=p.raw[0]
 let a:=m[0][1].getSepArgs
 let k:=a.size
 unless m.getNumArgs==1&&m[0].isOfKind ``rcasesPat.tuple&&k>1 do Macro.throwUnsupported
 let mut x:Array Term:=#[]
 let mut c:Array (TSyntax `tactic):=#[]
 for q in a do
  let r:=q[0][0]
  unless q[1].getNumArgs==0&&r.getNumArgs==1 do Macro.throwUnsupported
  if r[0].isOfKind ``rcasesPat.one&&r[0][0].getId != `rfl then x:=x.push ⟨r[0][0]⟩
  else if r[0].isOfKind ``rcasesPat.ignore then x:=x.push (<-`(_))
  else
   let y:=mkIdent (.mkSimple s!"z{x.size}z")
   x:=x.push y
   c:=c.push (<-`(tactic|obtain $(⟨q[0]⟩):rcasesPatMed:=$y))
 let mut s:=#[]
 for m in [:min k 7] do
  if k<13+m then
   let z:=x.drop m
   let f:=mkIdent (.mkSimple s!"xa{m}")
   let g:=mkIdent (.mkSimple s!"xb{k-m}")
   s:=s.push (<-if m==0 then`(tacticSeq|refine $g fun $z*=> ?_) else if k-m==1 then`(tacticSeq|refine $f fun $x*=> ?_) else`(tacticSeq|refine $f fun $(x.take m)* t=> ?_;revert t;refine $g fun $z*=> ?_))
 let b<-if h.raw.isIdent then`(tactic|first|revert $(⟨h⟩):ident|refine (?_:_->_) $h) else`(tactic|refine (?_:_->_) $h)
 let a<-`(tactic|first $[|$s]*)
 `(tactic|first|($[$(#[b,a]++c)];*)|rcases $h:term with $p)
|`(tactic|rintro $a*)=>do
 let t (p:Syntax):=p[0].isOfKind ``rcasesPat.tuple
 unless a.any (t ·) do Macro.throwUnsupported
 let mut o:=#[]
 for p in a do o:=o++(<-if t p then do pure #[<-`(tactic|intro z),<-`(tactic|obtain $(⟨mkNode ``rcasesPatMed #[mkNullNode #[p.raw[0]]]⟩):rcasesPatMed:=z)] else do pure #[<-`(tactic|rintro $p)])
 `(tactic|($[$o];*))
local macro_rules|`(tactic|walk_at"o")=>`(tactic|first|exact Or.inl rfl|exact Or.inr rfl)
local macro_rules|`(tactic|walk_at"s")=>`(tactic|exact⟨rfl,rfl,rfl,by decide+kernel,rfl,by decide+kernel,by decide+kernel⟩)
noncomputable section
section
namespace L2
open PySem PySem.Spec PyProof.Rows
abbrev Key:=Sum Int Str
def BH:Key->ee->Bool
 | .inl k,v=>Value.isInt k v
 | .inr x,v=>Value.isStrOf x v
def keyH (w:fx):Key->Int
 | .inl k=>hashInt k
 | .inr x=>hashStr w x
def fm:∀{k:Key} {v:ee},BH k v=true->(∃i t,k=Sum.inl i/\v=Value.int i t)\/(∃x t,k=Sum.inr x/\v=Value.str x t)
 | .inl i,v,h=>by
  obtain _:=Value.isInt_shape h
  simp[*]
 | .inr x,v,h=>by
  obtain⟨t,e⟩:=Value.isStrOf_shape h
  simp[*]
def Qa (i:Int)(t:Tok):BH (.inl i) (.int i t)=true:=by simp[BH,Value.isInt]
def P_ (x:Str)(t:Tok):BH (.inr x) (.str x t)=true:=by simp[BH,Value.isStrOf]
def Z2 (a b:Int):decide ((Sum.inl a:Key)=Sum.inl b)=(a==b):=by
 lia
def ZZ (a b:Str):decide ((Sum.inr a:Key)=Sum.inr b)=decide (a=b):=by
 simp
def Z1 (a:Int)(b:Str):decide ((Sum.inl a:Key)=Sum.inr b)=false:=adX (fun q=>nomatch q)
def Z0 (a:Str)(b:Int):decide ((Sum.inr a:Key)=Sum.inl b)=false:=adX (fun q=>nomatch q)
def fG (prog:dn)(w:fx):PySem.KeyKind prog w Key where
 is:=BH
 hash:=keyH w
 inj:=fun v a b ha hb=>by
  rcases fm ha with⟨i,t,rfl,rfl⟩|⟨x,t,rfl,rfl⟩
  .rcases fm hb with⟨j,u,rfl,e⟩|⟨y,u,rfl,e⟩
   .injection e with e1 _;rw[e1]
   .exact nomatch e
  .rcases fm hb with⟨j,u,rfl,e⟩|⟨y,u,rfl,e⟩
   .exact nomatch e
   .injection e with e1 _;rw[e1]
 byValue:=fun k v h=>by
  rcases fm h with⟨i,t,rfl,rfl⟩|⟨x,t,rfl,rfl⟩<;>rfl
 pyHash:=fun hv h=>by
  rcases fm hv with⟨i,t,rfl,rfl⟩|⟨x,t,rfl,rfl⟩
  .exact wpAny_pyHash_int h
  .exact wpAny_pyHash_str h
 eqBool:=fun hu hv h=>by
  rcases fm hu with⟨i,t,rfl,rfl⟩|⟨x,t,rfl,rfl⟩
  .rcases fm hv with⟨j,u,rfl,rfl⟩|⟨y,u,rfl,rfl⟩
   .rw[Z2] at h;exact wpAny_eqBool_int h
   .rw[Z1] at h;exact SeqAt.EqAt.int_str i t y u _ _ _ _ h
  .rcases fm hv with⟨j,u,rfl,rfl⟩|⟨y,u,rfl,rfl⟩
   .rw[Z0] at h;exact SeqAt.EqAt.str_int x t j u _ _ _ _ h
   .rw[ZZ] at h;exact wpAny_eqBool_str h
 «strs»:=fun k x t v h=>by
  rcases fm h with⟨i,u,rfl,e⟩|⟨y,u,rfl,e⟩
  .exact nomatch e
  .injection e with e1 _
   subst e1;cases v<;>rfl
def mW (prog:dn)(w:fx)(i:Int)(t:Tok):(fG prog w).is (.inl i) (.int i t)=true:=Qa i t
def JL (prog:dn)(w:fx)(x:Str)(t:Tok):(fG prog w).is (.inr x) (.str x t)=true:=P_ x t
end L2
namespace L2
open PySem PySem.Spec PyProof.Rows
inductive V where
 |iB|bl (b:Bool)|int (i:Int)|str (x:Str)|KY (b:Array UInt8)|flt (b:UInt64)|ref (a:dr)|ty (n:String)
 deriving DecidableEq
def RelV:V->ee->Prop
 | .iB,u=>u=Value.none
 | .bl b,u=>u=Value.bool b
 | .int i,u=>∃t,u=Value.int i t
 | .str x,u=>∃t,u=Value.str x t
 | .KY b,u=>∃t,u=Value.bytes b t
 | .flt b,u=>∃t,u=Value.float b t
 | .ref a,u=>u=Value.ref a
 | .ty n,u=>u=Value.type n
abbrev Vals:List V->kA->Prop:=Paired RelV
def Vals.length (r:Vals xs us):xs.length=us.length:=Paired.length r
def Vals.get:∀{xs:List V} {us:kA} {i:Nat} {x:V},Vals xs us->xs[i]?=some x-> ∃u,us[i]?=some u/\RelV x u
 |_,_,_,_,.nil,e=>by simp at e
 |_,_,0,_,.cons r _,e=>by simp_all
 |_,_,i+1,x,.cons _ t,e=>by
  obtain _:=Vals.get t (by exact e)
  simp[*]
def Vals.set (r:RelV x u):∀{xs:List V} {us:kA} (i:Nat),Vals xs us->Vals (xs.set i x) (us.set i u)
 |_,_,_,.nil=>.nil
 |_,_,0,.cons _ t=>.cons r t
 |_,_,i+1,.cons q t=>.cons q (Vals.set r i t)
def Vals.append:∀{xs ys:List V} {us J:kA},Vals xs us->Vals ys J->Vals (xs++ys) (us++J)
 |_,_,_,_,.nil,s=>s
 |_,_,_,_,.cons r t,s=>.cons r (Vals.append t s)
def Vals.take:∀{xs:List V} {us:kA} (n:Nat),Vals xs us->Vals (xs.take n) (us.take n)
 |_,_,0,_=>.nil
 |_,_,_+1,.nil=>.nil
 |_,_,n+1,.cons r t=>.cons r (Vals.take n t)
def Vals.drop:∀{xs:List V} {us:kA} (n:Nat),Vals xs us->Vals (xs.drop n) (us.drop n)
 |_,_,0,r=>r
 |_,_,_+1,.nil=>.nil
 |_,_,n+1,.cons _ t=>Vals.drop n t
def yu:Option V->Option ee->Prop
 |some v,some u=>RelV v u
 |none,none=>True
 |_,_=>False
def KV {κ:Type}:List (κ×V)->List (κ×ee)->Prop:=Paired fun(p:κ×V) (q:κ×ee)=>p.1=q.1/\RelV p.2 q.2
def kV:Key->V
 | .inl i=>.int i
 | .inr x=>.str x
inductive HO where
  |lst (xs:List V)
  |tup (xs:List V)
  |dK (kvs:List (Key×V))|dT (kvs:List (List Key×V))
  |set (S:Int->Bool) (n:Nat)
  |ins (C dx:dr) (fs:List (Str×V))
  |own (x:dr)
  |xd (fs:List (Str×V))
  |met (f x:dr)
  |rng (lo hi:Int)
  |G_ (o:Obj) (u:HO)
  |xI (ps:Array ee)
  |ext (φ:Heap->Prop)
abbrev Hp:=dr->Option HO
def upd (H:Hp)(a:dr)(o:HO):Hp:=fun b=>if b=a then some o else H b
def ah:upd H a o a=some o:=by unfold upd;rw[ad3 rfl]
def ax (h:b≠a):upd H a o b=H b:=by unfold upd;rw[ad2 h]
def NK:upd (upd H a o) a u=upd H a u:=by
 funext b;delta upd;split<;>rfl
def ne_of {H:Hp}(h:H a=some o)(h':H b=some u)(d:o≠u):a≠b:=by
 lia
def aS {H:Hp}(h:H a=some o)(h':H b=none):a≠b:=by
 lia
section
variable (P:dn)(w:fx)
def iJ (H:Hp)(h:Heap)(a:dr):HO->Prop
 | .lst xs=>xs.length<=sizeLine/\ ∃(its:kA) (n:Nat),Vals xs its/\h.get? a=some {cls:=.type "list",data:=.seq its.toArray n}
 | .tup xs=>xs.length<=sizeLine/\ ∃its:kA,Vals xs its/\IsTup h a its.toArray
 | .dK kvs=>kvs.length<=sizeLine/\(a==sysModules)=false/\ ∃vs,KV kvs vs/\h.DictOf (fG P w) a vs
 | .dT kvs=>kvs.length<=sizeLine/\(a==sysModules)=false/\ ∃xs:List (List Key×dr×ee),
   Paired (fun(p:List Key×V) (q:List Key×dr×ee)=>p.1=q.1/\H q.2.1=some (.tup (p.1.map kV))/\RelV p.2 q.2.2) kvs xs/\
   ∃o es ep,h.get? a=some o/\o.ExactDict/\o.data=.dict es ep/\es.toList=xs.map (entryOfKey (tupleKind (fG P w)))/\(xs.map (·.1)).Nodup
 | .set S n=>h.SetOf (intKind P w) a S n
 | .ins C dx fs=>H dx=some (.own a)/\fs.length<=1000/\dx≠a/\h.get? a=some (PySem.W.instObj C dx)/\
   ∃mA,h.Ns1 dx mA/\(∀f,yu (fs.lookup f) (mA f))/\PySem.Within mA (fs.map (·.1))
 | .own _=>∃o,h.get? a=some o
 | .xd fs=>∃mA,h.Ns1 a mA/\ ∀f,yu (fs.lookup f) (mA f)
 | .rng lo hi=>∃t u v,h.get? a=some {cls:=.type "range",data:=.fields #[.int lo t,.int hi u,.int 1 v]}
 | .G_ o u=>h.get? a=some o/\iJ H h a u
 | .xI ps=>h.get? a=some {cls:=.none,data:=.fields ps}
 | .met f x=>h.get? a=some (PySem.W.methodObj (.ref f) (.ref x))
 | .ext φ=>φ h/\(∃o,h.get? a=some o)/\ ∀h1 h2:Heap,φ h1->(∀o,h1.get? a=some o->h2.get? a=some o)->φ h2
def rk (H:Hp)(h:Heap):Prop:=∀a o,H a=some o->iJ P w H h a o
end
section
variable {P:dn}{w:fx}{H H':Hp}{h h':Heap}{a:dr}{o:HO}
def iJ.lt (x:iJ P w H h a o):a < h.objs.size:=by
 cases o with
 |lst xs=>obtain⟨_,_,_,_,e⟩:=x;exact aa_ e
 |tup xs=>obtain⟨_,_,_,p⟩:=x;exact p.lt
 |dK kvs=>obtain⟨_,_,_,_,o,_,_,e,_⟩:=x;exact aa_ e
 |dT kvs=>obtain⟨_,_,_,_,o,_,_,e,_⟩:=x;exact aa_ e
 |set S n=>obtain⟨o,_,_,_,e,_⟩:=x;exact aa_ e
 |ins C dx fs=>obtain⟨_,_,_,e,_⟩:=x;exact aa_ e
 |own y=>obtain⟨_,e⟩:=x;exact aa_ e
 |xd fs=>obtain⟨_,⟨_,_,_,e,_⟩,_⟩:=x;exact aa_ e
 |rng lo hi=>obtain⟨_,_,_,e⟩:=x;exact aa_ e
 |G_ ob u=>obtain⟨e,_⟩:=x;exact aa_ e
 |xI ps=>exact aa_ (x)
 |met f y=>exact aa_ (x)
 |ext J=>obtain⟨_,⟨_,e⟩,_⟩:=x;exact aa_ e
def Paired.SV:∀{L:List O} {J:List M},Paired F L J->(∀a b,F a b->G a b)->Paired G L J
 |_,_,.nil,_=>.nil
 |_,_,.cons r t,f=>.cons (f _ _ r) (Paired.SV t f)
def iJ.kJ (x:iJ P w H h a o)(k:∀b u,(b=a\/H b=some (.own a))->h.get? b=some u->h'.get? b=some u)
  (O:∀b,H b=some (.own a)->H' b=some (.own a)) (M:∀b xs,H b=some (.tup xs)->H' b=some (.tup xs)):iJ P w H' h' a o:=by
 induction o with
 |lst xs=>obtain⟨z,its,n,r,e⟩:=x;exact⟨z,its,n,r,k _ _ (.inl rfl) e⟩
 |tup xs=>obtain⟨z,its,r,ob,e,c⟩:=x;exact⟨z,its,r,ob,k _ _ (.inl rfl) e,c⟩
 |dK kvs=>obtain⟨z,y,vs,r,ob,es,ep,e,c⟩:=x;exact⟨z,y,vs,r,ob,es,ep,k _ _ (.inl rfl) e,c⟩
 |dT kvs=>
  obtain⟨z,y,xs,r,ob,es,ep,e,c⟩:=x;exact⟨z,y,xs,Paired.SV r fun p q z=>⟨z.1,M _ _ z.2.1,z.2.2⟩,ob,es,ep,k _ _ (.inl rfl) e,c⟩
 |set S n=>obtain⟨ob,es,ep,t,e,c⟩:=x;exact xi4 ob es ep t ⟨k _ _ (.inl rfl) e,c⟩
 |ins C dx fs=>
  obtain⟨d,z,ne,e,mA,⟨J,es,ep,U,c⟩,r⟩:=x;exact⟨O _ d,z,ne,k _ _ (.inl rfl) e,mA,xi3 J es ep ⟨k _ _ (.inr d) U,c⟩,r⟩
 |own y=>obtain⟨ob,e⟩:=x;exact⟨ob,k _ _ (.inl rfl) e⟩
 |xd fs=>obtain⟨mA,⟨J,es,ep,e,c⟩,r⟩:=x;exact⟨mA,⟨J,es,ep,k _ _ (.inl rfl) e,c⟩,r⟩
 |rng lo hi=>obtain⟨t,u,v,e⟩:=x;exact xi3 t u v (k _ _ (.inl rfl) e)
 |G_ ob u L=>obtain⟨e,q⟩:=x;exact⟨k _ _ (.inl rfl) e,L q⟩
 |xI ps=>
  have e:=x;exact k a _ (.inl rfl) e
 |met f y=>
  have e:=x;exact k a _ (.inl rfl) e
 |ext Y=>obtain⟨p,⟨o,e⟩,st⟩:=x;exact⟨st _ _ p fun o q=>k _ _ (.inl rfl) q,⟨o,k _ _ (.inl rfl) e⟩,st⟩
def rk.lt (x:rk P w H h)(e:H a=some o):a < h.objs.size:=(x a o e).lt
def rk.fresh (x:rk P w H h)(e:h.objs.size<=a):H a=none:=by
 cases q:H a with
 |none=>rfl
 |_ u=>exact absurd (adg (x.lt q) e) (ade _)
def rk.kept (x:rk P w H h)(k:∀b u,h.get? b=some u->h'.get? b=some u):rk P w H h':=fun a o e=>
 (x a o e).kJ (fun b u _ q=>k b u q) (fun _ q=>q) fun _ _ q=>q
def rk.laid (x:rk P w H h)(k:∀b u,h.get? b=some u->h'.get? b=some u)(O:h.objs.size<=a)(J:iJ P w (upd H a o) h' a o):rk P w (upd H a o) h':=fun b u e=>by
 have L:=x.fresh O
 by_cases M:b=a
 .subst M;rw[ah] at e;cases e;exact J
 .rw[ax M] at e;exact(x b u e).kJ (fun c v _ q=>k c v q) (fun c q=>by rw[ax (aS q L)];exact q) fun c xs q=>by rw[ax (aS q L)];exact q
end
def Rd (H:Hp)(a:dr)(u:HO):Prop:=H a=some u\/ ∃o,H a=some (.G_ o u)
def Rd.ok (r:Rd H a u)(x:rk P w H h):iJ P w H h a u:=by
 rcases r with r|⟨o,r⟩
 .exact x a u r
 .obtain⟨_,q⟩:=x a _ r;exact q
def Mut:Option HO->Prop
 |some (.lst _)=>True
 |some (.dK _)=>True
 |some (.dT _)=>True
 |some (.set _ _)=>True
 |some (.ins _ _ _)=>True
 |some (.ext _)=>True
 |_=>False
section
variable {P:dn}{w:fx}{H:Hp}{h h':Heap}{x e:dr}{o':HO}
def rk.write (ok:rk P w H h)(M:Mut (H x))(he:e=x\/H e=some (.own x))(k:∀b u,b≠e->h.get? b=some u->h'.get? b=some u)(U:∃u,h'.get? e=some u)
  (O:iJ P w (upd H x o') h' x o'):rk P w (upd H x o') h':=fun b u q=>by
 have L:∀c y,H c=some (.own y)->c≠x:=fun c y r z=>by subst z;rw[r] at M;exact M
 have J:∀c xs,H c=some (.tup xs)->c≠x:=fun c xs r z=>by subst z;rw[r] at M;exact M
 by_cases Z:b=x
 .subst Z;rw[ah] at q;cases q;exact O
 .rw[ax Z] at q
  by_cases hbe:b=e
  .have Y:H b=some (.own x):=by
    lia
   rw[q] at Y;cases Y;obtain⟨v,hv⟩:=U;exact⟨v,by lia⟩
  .refine (ok b u q).kJ (fun c v hc r=>k c v ?_ r) (fun c r=>by rw[ax (L c b r)];exact r) fun c xs r=>by rw[ax (J c xs r)];exact r
   grind
end
structure Un (fs ex:mu)(H H':Hp)(h h':Heap):Prop where
 keep:∀b o,h.get? b=some o->H b=none->b∉fs->b∉ex->h'.get? b=some o
 slot:∀b o,h.get? b=some o->H b=none->b∈fs->b∉ex-> ∃sl,h'.get? b=some {o with slots:=sl}
 free:∀b o,h.get? b=some o->H b=none->b∉ex->H' b=none
 there:∀b o,h.get? b=some o->b∉ex-> ∃o',h'.get? b=some o'
 IC:∀b xs,H b=some (.tup xs)->H' b=some (.tup xs)
 GZ:∀b o u,H b=some (.G_ o u)->H' b=some (.G_ o u)
 IF:∀b ps,H b=some (.xI ps)-> ∃more,H' b=some (.xI (ps++more))
section
variable {fs fs' ex ex':mu}{H H1 H2:Hp}{h h1 h2 h':Heap}{a x e:dr}{o:HO}
def Un.any (u:Un fs ex H H1 h h1)(q:h.get? b=some ob)(n:H b=none)(J:b∉ex):∃M,h1.get? b=some {ob with slots:=M}:=by
 by_cases L:b∈fs
 .exact u.slot b ob q n L J
 .exact⟨ob.slots,u.keep b ob q n L J⟩
def Un.kept (k:∀b u,h.get? b=some u->h'.get? b=some u):Un fs ex H H h h':=
 ⟨fun b ob q _ _ _=>k b ob q,fun b ob q _ _ _=>⟨ob.slots,k b ob q⟩,fun _ _ _ n _=>n,fun b ob q _=>⟨ob,k b ob q⟩,fun _ _ q=>q,fun _ _ _ q=>q,fun _ ps q=>⟨#[],by rw[q];rfl⟩⟩
def Un.refl:Un fs ex H H h h:=Un.kept fun _ _ q=>q
def Un.laid (k:∀b u,h.get? b=some u->h'.get? b=some u)(L:h.objs.size<=a)(J:H a=none):Un fs ex H (upd H a o) h h' where
 keep:=fun b u q _ _ _=>k b u q
 slot:=fun b u q _ _ _=>⟨u.slots,k b u q⟩
 free:=fun b u q n _=>by rw[ax (adp (adg (aa_ q) L))];exact n
 there:=fun b u q _=>⟨u,k b u q⟩
 IC:=fun b xs q=>by rw[ax (aS q J)];exact q
 GZ:=fun b u xs q=>by rw[ax (aS q J)];exact q
 IF:=fun b ps q=>⟨#[],by rw[ax (aS q J),q];rfl⟩
def Un.write (L:Mut (H x))(Y:e=x\/H e=some (.own x))(k:∀b u,b≠e->h.get? b=some u->h'.get? b=some u)(U:∃u,h'.get? e=some u):Un fs ex H (upd H x o) h h':=by
 have O:∀b,H b=none->b≠x:=fun b n z=>by subst z;rw[n] at L;exact L
 have M:∀b,H b=none->b≠e:=fun b n z=>by
  lia
 have J:∀b u,H b=some u-> ¬Mut (some u)->b≠x:=fun b u q nm z=>by lia
 refine⟨fun b u q n _ _=>k b u (M b n) q,fun b u q n _ _=>⟨u.slots,k b u (M b n) q⟩,fun b u q n _=>by rw[ax (O b n)];exact n,fun b u q _=> ?_,
  fun b xs q=>by rw[ax (J b _ q fun z=>z)];exact q,fun b u xs q=>by rw[ax (J b _ q fun z=>z)];exact q,fun b ps q=>⟨#[],by rw[ax (J b _ q fun z=>z),q];rfl⟩⟩
 grind
end
def trk (h:Heap)(H:Hp):mu:=(List.range h.objs.size).filter fun a=>(H a).isSome
def MC (h:Heap)(H:Hp):Heap:=PySem.W.hideAll h (trk h H)
def Qg (h:Heap)(H:Hp):(MC h H).objs.size=h.objs.size:=PySem.W.hideAll_size _ _
def Te (e:h.get? b=some o)(n:H b=none):(MC h H).get? b=some o:=
 PySem.W.hideAll_get _ e fun J=>by
  have q:=(acx.mp J).2
  grind
def Wj (e:(MC h H).get? b=some o):h.get? b=some o/\H b=none:=by
 have J:=PySem.W.of_hideAll _ e;refine⟨J, ?_⟩;cases q:H b with
 |none=>rfl
 |_ x=>
  have L:b∈trk h H:=acx.mpr ⟨acE.mpr (aa_ J),by simp[q]⟩;have z:(MC h H).get? b=none:=PySem.W.hideAll_none _ L
  lia
end L2
namespace L2
open PySem PySem.Spec PyProof.Rows
structure Mod (K:b0)(mg:gp)(base:Heap):Prop where
 kin:K.In base
 glob:base.Ns mainGlobals mg
 blt:∃mb,base.Ns builtinsNs mb/\ ∀x:Str,x≠"__name__"->mb x=bootBuiltins x
 nolimit:base.NoLimit
structure Cx where
 prog:dn
 w:fx
 K:b0
 mg:gp
 base:Heap
 A:eu
 N:ky
 Dj:cq
 H_0:Hp
 env:Env
 outer:List Env
 stack:List Env
 ex:mu
 fn:Str->Bool
 calm:Bool
 pn:kB
 xe:ee->cq->Prop
def Tx (l:List Env):mu:=l.filterMap (·.frame)
abbrev Cx.fs (X:Cx):mu:=Tx X.outer
def Vis (sc:Scope)(x:Str):Prop:=sc.names.lookup x=some .local\/sc.names.lookup x=some .cell\/sc.names.lookup x=some .free
def viB (sc:Scope)(x:Str):Bool:=match sc.names.lookup x with
 |some .local|some .cell|some .free=>true
 |_=>false
def viV (h:true=viB s x):Vis s x:=by
 delta viB at h;delta Vis;split at h<;>simp_all
def Loc (sc:Scope)(x:Str):Prop:=sc.names.lookup x=some .local\/sc.names.lookup x=some .cell
def Look (env:Env)(h:Heap)(m:gp)(x:Str)(u:ee):Prop:=
 (env.kindOf x=some .local/\m x=some u)\/((env.kindOf x=some .cell\/env.kindOf x=some .free)/\ ∃c,env.cells.lookup x=some c/\h.IsCell c (some u))
structure Cx.Ok (X:Cx):Prop where
 mod:Mod X.K X.mg X.base
 kind:X.env.scope.kind=.function
 glob:X.env.globals=mainGlobals
 blt:X.env.builtins=builtinsNs
 above:X.Dj.heap.objs.size<=X.env.locals
 inj:∀x y c,X.env.cells.lookup x=some c->X.env.cells.lookup y=some c->x=y
 has:∀x,(X.env.kindOf x=some .cell\/X.env.kindOf x=some .free)-> ∃c,X.env.cells.lookup x=some c
 cab:∀x c,X.fn x=true->X.env.cells.lookup x=some c->X.Dj.heap.objs.size<=c
 hd:X.calm=true->X.A.handled=none
 frames:X.A.frames=some X.stack
 stk:X.stack=X.outer\/(X.stack=X.env::X.outer/\X.env.frame=some X.env.locals)
 exf:∀b∈X.ex,b≠X.env.locals/\ ∀x c,X.env.cells.lookup x=some c->c≠b
 bs:∀b o,X.base.get? b=some o->X.Dj.heap.get? b=some o/\X.H_0 b=none
 QG:X.base.objs.size<=X.Dj.heap.objs.size
 Ml:∀b o,X.base.get? b=some o->b∉X.ex
 MP:∀b∈X.ex,b∉X.fs
 xk:X.Dj.heap.FunFrames X.base X.outer
 WN:∀b∈X.fs,X.H_0 b=none
structure Inv (X:Cx)(nj:kB)(σ:List (Option V))(H:Hp)(s:cq):Prop where
 ok:X.Ok
 os:s.os=X.Dj.os
 bare:AllBare s.gens
 base:Un X.fs X.ex X.H_0 H X.Dj.heap s.heap
 loc:∃m,s.heap.Ns X.env.locals m/\ ∀(i:Nat) (x:Str) (v:V),X.N[i]?=some x->σ[i]?=some (some v)->Vis X.env.scope x-> ∃u,RelV v u/\Look X.env s.heap m x u
 cell:∀x c,X.env.cells.lookup x=some c-> ∃v,s.heap.IsCell c v
 free:H X.env.locals=none
 pH:∀x c,X.env.cells.lookup x=some c->H c=none
 pin:∀p∈X.pn++nj,s.heap.get? p.1=some p.2/\H p.1=none/\p.1≠X.env.locals/\p.1∉X.fs/\ ∀v,p.2.data≠.cell v
 cK:rk X.prog X.w H s.heap
 len:σ.length=X.N.length
section
variable {X:Cx}{nj:kB}{σ:List (Option V)}{H H':Hp}{s:cq}{h':Heap}
def Cx.Ok.nofr (ok:X.Ok)(e:X.base.get? b=some o):b∉X.fs:=fun J=>by
 have:=(ok.xk.mem J).1
 grind
def Inv.bs (I:Inv X nj σ H s):∀b o,X.base.get? b=some o->s.heap.get? b=some o/\H b=none:=fun b o e=>
 ⟨I.base.keep b o (I.ok.bs b o e).1 (I.ok.bs b o e).2 (I.ok.nofr e) (I.ok.Ml b o e),I.base.free b o (I.ok.bs b o e).1 (I.ok.bs b o e).2 (I.ok.Ml b o e)⟩
def Inv.bk (I:Inv X nj σ H s):∀b o,X.base.get? b=some o->s.heap.get? b=some o:=fun b o e=>(I.bs b o e).1
def Inv.mod (I:Inv X nj σ H s):Mod X.K X.mg X.base:=I.ok.mod
def Inv.DX (I:Inv X nj σ H s):X.K.In s.heap:=I.ok.mod.kin.keeps I.bk
def Inv.nolimit (I:Inv X nj σ H s):s.heap.NoLimit:=I.ok.mod.nolimit.keeps I.bk
def Inv.lt (I:Inv X nj σ H s):X.env.locals < s.heap.objs.size:=let⟨_,J,_⟩:=I.loc;J.lt
def Inv.sz (I:Inv X nj σ H s):X.Dj.heap.objs.size<=s.heap.objs.size:=adb I.ok.above (ac8 I.lt)
def Inv.nofs (I:Inv X nj σ H s)(h:s.heap.objs.size<=a):a∉X.fs:=fun L=>by
 obtain⟨_,o,J,_⟩:=I.ok.xk.mem L;exact absurd (adg (aa_ J) (adb I.sz h)) (ade _)
def Inv.cne (I:Inv X nj σ H s):∀x c,X.env.cells.lookup x=some c->c≠X.env.locals:=fun x c e z=>by
 obtain⟨v,o,M,hd⟩:=I.cell x c e;obtain⟨m,⟨o',es,ep,J,L,_⟩,_⟩:=I.loc
 lia
def Inv.xk (I:Inv X nj σ H s):s.heap.FunFrames X.base X.outer:=by
 have all:∀l,(∀b∈Tx l,b∈X.fs)->X.Dj.heap.FunFrames X.base l->s.heap.FunFrames X.base l:=by
  intro l
  induction l with
  |nil=>intro _ _;trivial
  |_ env r Y=>
   intro O hl;obtain⟨hk,⟨L,o,U,hn,ho,hd⟩,Z⟩:=hl;have M:=O L (by delta Tx;simp[*]);obtain⟨sl,e⟩:=I.base.slot L o ho (I.ok.WN L M) M fun z=>I.ok.MP L z M
   exact⟨hk,⟨L,_,U,hn,e,hd⟩,Y (fun b J=>O b (by delta Tx;rw[abI,U];exact acv _ J)) Z⟩
 exact all _ (fun _ J=>J) I.ok.xk
def Inv.stack (I:Inv X nj σ H s):s.heap.FunFrames X.base X.stack:=by
 rcases I.ok.stk with e|⟨e,L⟩
 .rw[e];exact I.xk
 .rw[e];obtain⟨m,J,_⟩:=I.loc;refine .cons (by rw[I.ok.kind];decide) L J ?_ I.xk;exact Heap.get?_none_of_le (adb I.ok.QG I.ok.above)
def Inv.LL (I:Inv X nj σ H s):∀b∈Tx X.stack,b∈X.env.locals::X.fs:=fun b J=>by
 rcases I.ok.stk with e|⟨e,L⟩
 .grind
 .rw[e] at J;delta Tx at J;rw[abI,L] at J;exact J
def Inv.FJ (I:Inv X nj σ H s):∀b∈Tx X.stack,H b=none:=fun b J=>by
 rcases acu.mp (I.LL b J) with e|J
 .rw[e];exact I.free
 .obtain⟨_,o,L,_⟩:=I.ok.xk.mem J;exact I.base.free b o L (I.ok.WN b J) fun z=>I.ok.MP b z J
def Inv.step {ch:mu}(I:Inv X nj σ H s)
  (O:∀b∈ch,(b∈X.ex\/X.Dj.heap.objs.size<=b)/\b≠X.env.locals/\(∀x c,X.env.cells.lookup x=some c->c≠b)/\ ∀p∈X.pn++nj,p.1≠b)
  (keep:∀b o,b≠X.env.locals->b∉X.fs->b∉ch->s.heap.get? b=some o->H b=none->h'.get? b=some o)
  (slot:∀b o,b≠X.env.locals->b∈X.fs->b∉ch->s.heap.get? b=some o->H b=none-> ∃sl,h'.get? b=some {o with slots:=sl}) (free:∀b o,b∉ch->s.heap.get? b=some o->H b=none->H' b=none)
  (there:∀b o,b∉ch->s.heap.get? b=some o-> ∃o',h'.get? b=some o')
  (IC:∀b xs,H b=some (.tup xs)->H' b=some (.tup xs)) (GZ:∀b o u,H b=some (.G_ o u)->H' b=some (.G_ o u)) (IF:∀b ps,H b=some (.xI ps)-> ∃more,H' b=some (.xI (ps++more)))
  (ns:∀m,s.heap.Ns X.env.locals m->h'.Ns X.env.locals m) (cK:rk X.prog X.w H' h') (hg:AllBare g'):
  Inv X nj σ H' {s with heap:=h',gens:=g',drawn:=d',toks:=t'}:=by
 have neL:∀b o,X.Dj.heap.get? b=some o->b≠_:=fun b o e=>adp (adg (aa_ e) I.ok.above)
 have M:∀b o,X.Dj.heap.get? b=some o->b∉_->b∉ch:=fun b o e J Y=>by
  rcases(O b Y).1 with z|z
  .exact J z
  .exact absurd (adg (aa_ e) z) (ade _)
 have L:∀x c,X.env.cells.lookup x=some c-> ∀v,s.heap.IsCell c v->h'.IsCell c v:=by
  rintro x c e v ⟨o,Z,hd⟩
  have nch:=fun z=>(O c z).2.2.1 x c e rfl
  by_cases hc:c∈X.fs
  .obtain⟨sl,q⟩:=slot c o (I.cne x c e) hc nch Z (I.pH x c e);exact⟨_,q,hd⟩
  .exact⟨o,keep c o (I.cne x c e) hc nch Z (I.pH x c e),hd⟩
 refine⟨I.ok,I.os,hg,⟨fun b o e n Y J=> ?_,fun b o e n Y J=> ?_,fun b o e n J=> ?_,fun b o e J=> ?_,fun b xs e=>IC b xs (I.base.IC b xs e),fun b o xs e=>GZ b o xs (I.base.GZ b o xs e),fun b ps e=> ?_⟩, ?_,fun x c e=> ?_, ?_,fun x c e=> ?_,fun p hp=> ?_,cK,I.len⟩
 .exact keep b o (neL b o e) Y (M b o e J) (I.base.keep b o e n Y J) (I.base.free b o e n J)
 .obtain⟨sl,U⟩:=I.base.slot b o e n Y J;obtain⟨sl',e2⟩:=slot b _ (neL b o e) Y (M b o e J) U (I.base.free b o e n J);exact⟨sl',e2⟩
 .obtain⟨o',U⟩:=I.base.there b o e J;exact free b o' (M b o e J) U (I.base.free b o e n J)
 .obtain⟨o',U⟩:=I.base.there b o e J;exact there b o' (M b o e J) U
 .obtain⟨m1,U⟩:=I.base.IF b ps e
  grind
 .obtain⟨m,hn,hl⟩:=I.loc;refine⟨m,ns m hn,fun i x v U e2 e3=> ?_⟩;obtain⟨u,r,l⟩:=hl i x v U e2 e3;refine⟨u,r, ?_⟩
  rcases l with l|⟨k,c,e,z⟩
  .exact .inl l
  .exact .inr ⟨k,c,e,L x c e _ z⟩
 .obtain⟨v,z⟩:=I.cell x c e;exact⟨v,L x c e v z⟩
 .obtain⟨m,⟨o,_,_,Z,_⟩,_⟩:=I.loc;exact free _ o (fun z=>(O _ z).2.1 rfl) Z I.free
 .obtain⟨v,o,Z,hd⟩:=I.cell x c e;exact free c o (fun z=>(O c z).2.2.1 x c e rfl) Z (I.pH x c e)
 .obtain⟨e,n,ne,nf,d⟩:=I.pin p hp
  grind
def Inv.un (I:Inv X nj σ H s)(u:Un X.fs [] H H' s.heap h')(cK:rk X.prog X.w H' h'):Inv X nj σ H' {s with heap:=h',toks:=t'}:=by
 obtain⟨m,⟨o,es,ep,U,r⟩,_⟩:=id I.loc;obtain⟨sl,hL⟩:=u.any U I.free (by simp);exact I.step (ch:=[]) (fun _ z=>nomatch z) (fun b o _ L _ e n=>u.keep b o e n L (by simp)) (fun b o _ L _ e n=>u.slot b o e n L (by simp)) (fun b o _ e n=>u.free b o e n (by simp)) (fun b o _ e=>u.there b o e (by simp)) u.IC u.GZ u.IF (fun m' Z=>by
  obtain⟨o',M,O,J,Y⟩:=Z;rw[U] at J;cases J;exact xi3 _ M O ⟨hL,Y⟩) cK I.bare
def Inv.call (I:Inv X nj σ H s)(u:Un (Tx X.stack) ch H H' s.heap h')(cK:rk X.prog X.w H' h')(hg:AllBare g')
  (L:∀b∈ch,(b∈X.ex\/X.Dj.heap.objs.size<=b)/\b≠X.env.locals/\(∀x c,X.env.cells.lookup x=some c->c≠b)/\ ∀p∈X.pn++nj,p.1≠b):
  Inv X nj σ H' {s with heap:=h',gens:=g',drawn:=d',toks:=t'}:=by
 obtain⟨m,⟨o,es,ep,Y,r⟩,_⟩:=id I.loc;obtain⟨sl,M⟩:=u.any Y I.free fun z=>(L _ z).2.1 rfl
 exact I.step L (fun b o M hb hc e n=>u.keep b o e n (fun z=>(acu.mp (I.LL b z)).elim M hb) hc) (fun b o _ _ hc e n=>u.any e n hc) (fun b o hc e n=>u.free b o e n hc) (fun b o hc e=>u.there b o e hc) u.IC u.GZ u.IF (fun m' hm=>by
  obtain⟨o',O,U,J,Z⟩:=hm;rw[Y] at J;cases J;exact xi3 _ O U ⟨M,Z⟩) cK hg
def Inv.turned (I:Inv X nj σ H s)(k:∀b o,b≠it->s.heap.get? b=some o->h'.get? b=some o)(O:H it=none)(M:it≠X.env.locals)
  (h1:it∈X.ex\/X.Dj.heap.objs.size<=it) (h2:∀x c,X.env.cells.lookup x=some c->c≠it) (Y:∀p∈X.pn++nj,p.1≠it):Inv X nj σ H {s with heap:=h',toks:=t'}:=by
 refine I.step (ch:=[it]) (fun b U=> ?_) (fun b o _ _ hc e _=>k b o (fun z=>hc (by simp[z])) e) (fun b o _ _ hc e _=>⟨o.slots,k b o (fun z=>hc (by simp[z])) e⟩) (fun _ _ _ _ n=>n)
  (fun b o hc e=>⟨o,k b o (fun z=>hc (by simp[z])) e⟩) (fun _ _ e=>e) (fun _ _ _ e=>e) (fun b ps e=>⟨#[],by rw[e];rfl⟩) (fun m L=> ?_) (fun b u e=> ?_) I.bare
 .grind
 .obtain⟨o,es,ep,J,r⟩:=L;exact⟨o,es,ep,k _ o (Ne.symm M) J,r⟩
 .refine (I.cK b u e).kJ (fun c v hc q=>k c v ?_ q) (fun _ q=>q) fun _ _ q=>q
  lia
def Inv.tok (I:Inv X nj σ H s)(t:Nat):Inv X nj σ H {s with toks:=t}:=I.un Un.refl I.cK
def Inv.kept (I:Inv X nj σ H s)(k:∀b u,s.heap.get? b=some u->h'.get? b=some u):Inv X nj σ H {s with heap:=h',toks:=t'}:=I.un (Un.kept k) (I.cK.kept k)
def Inv.laid (I:Inv X nj σ H s)(k:∀b u,s.heap.get? b=some u->h'.get? b=some u)(L:s.heap.objs.size<=a)(J:iJ X.prog X.w (upd H a o) h' a o):
  Inv X nj σ (upd H a o) {s with heap:=h',toks:=t'}:=I.un (Un.laid k L (I.cK.fresh L)) (I.cK.laid k L J)
def Inv.write (I:Inv X nj σ H s)(M:Mut (H x))(O:e=x\/H e=some (.own x))(k:∀b u,b≠e->s.heap.get? b=some u->h'.get? b=some u)(J:∃u,h'.get? e=some u)
  (L:iJ X.prog X.w (upd H x o) h' x o):Inv X nj σ (upd H x o) {s with heap:=h',toks:=t'}:=I.un (Un.write M O k J) (I.cK.write M O k J L)
def Inv.weak (I:Inv X nj σ H s)(M:σ'.length=σ.length)(w:∀(i:Nat) v,σ'[i]?=some (some v)->σ[i]?=some (some v)):Inv X nj σ' H s:=
 ⟨I.ok,I.os,I.bare,I.base,let⟨m,L,J⟩:=I.loc;⟨m,L,fun i x v Y U O=>J i x v Y (w i v U) O⟩,I.cell,I.free,I.pH,I.pin,I.cK,M.trans I.len⟩
def Inv.F9 (I:Inv X nj σ H s)(h:∀p∈J,s.heap.get? p.1=some p.2/\H p.1=none/\p.1≠X.env.locals/\p.1∉X.fs/\ ∀v,p.2.data≠.cell v):Inv X J σ H s:=
 ⟨I.ok,I.os,I.bare,I.base,I.loc,I.cell,I.free,I.pH,fun p L=>(acq.mp L).elim (fun z=>I.pin p (acr _ z)) (h p),I.cK,I.len⟩
def Be {N:ky}(J:N.Nodup){i j:Nat}(a:N[i]?=some x)(b:N[j]?=some x):i=j:=by
 obtain⟨h1,M⟩:=abZ.mp a;obtain⟨h2,L⟩:=abZ.mp b;exact(List.getElem_inj J).mp (M.trans L.symm)
def EB (I:Inv X nj σ H s)(hN:X.N.Nodup)(hi:X.N[i]?=some x)(U:Loc X.env.scope x)(r:RelV v u)
  (h:∀s',Inv X nj (σ.set i (some v)) H s'->(∃a,Heap.SameBut a s.heap s'.heap/\(a=X.env.locals\/X.env.cells.lookup x=some a))->Q () s') (hf:X.fn x=true\/X.env.scope.names.lookup x=some .local:=by first|exact .inl rfl|exact .inr rfl|assumption):wpAny M A (storeName X.env x u) Q E s:=by
 obtain⟨m,hn,hl⟩:=id I.loc;have hcls:(X.env.scope.kind==.class||(X.env.scope.kind==.module&&X.env.locals != X.env.globals))=false:=by rw[I.ok.kind];rfl
 have hiσ:i < σ.length:=by rw[I.len];exact(abZ.mp hi).1
 have cne:=I.cne;have L:∀{a:dr} {h':Heap},(∃o,s.heap.get? a=some o/\H a=none)->Heap.SameBut a _ h'->rk _ X.w H h':=fun {a h'} ha J b ob e=>by
  obtain⟨_,_,Y⟩:=ha;refine(I.cK b ob e).kJ (fun c w' hc q=>(J.2 c ?_).trans q) (fun _ q=>q) fun _ _ q=>q
  rintro rfl
  rcases hc with rfl|hc
  .rw[Y] at e;contradiction
  .rw[Y] at hc;contradiction
 rcases U with hk|hk
 .refine wpAny_storeName_local hk hn (fun h' hn' J=> ?_) hcls;obtain⟨oL,_,_,hoL,_⟩:=id hn;refine h _ ⟨I.ok,I.os,I.bare,⟨fun b o e n hb U=> ?_,fun b o e n hb U=> ?_,I.base.free,fun b o e U=> ?_,I.base.IC,I.base.GZ,I.base.IF⟩,⟨_,hn',fun j y v' O Z e3=> ?_⟩,fun y c e=> ?_,I.free,I.pH,fun p hp=> ?_,L ⟨oL,hoL,I.free⟩ J,by simpa using I.len⟩ ⟨_,J,.inl rfl⟩
  .exact (J.2 b (adp (adg (aa_ e) I.ok.above))).trans (I.base.keep b o e n hb U)
  .obtain⟨sl,O⟩:=I.base.slot b o e n hb U;exact⟨sl,(J.2 b (adp (adg (aa_ e) I.ok.above))).trans O⟩
  .obtain⟨o',O⟩:=I.base.there b o e U;exact⟨o',(J.2 b (adp (adg (aa_ e) I.ok.above))).trans O⟩
  .by_cases hj:j=i
   .subst hj;rw[hi] at O;injection O with O;subst O;rw[ab2 hiσ] at Z;cases Z;exact⟨u,r,.inl ⟨hk,by simp⟩⟩
   .rw[ab1 (Ne.symm hj)] at Z;obtain⟨u',r',q⟩:=hl j y v' O Z e3;refine⟨u',r', ?_⟩
    rcases q with⟨k,e⟩|⟨k,c,e,z⟩
    .refine .inl ⟨k, ?_⟩;have:y≠x:=fun e=>hj (Be hN O (e ▸ hi))
     lia
    .exact .inr ⟨k,c,e,z.sameBut J (cne y c e)⟩
  .obtain⟨w',z⟩:=I.cell y c e;exact⟨w',z.sameBut J (cne y c e)⟩
  .obtain⟨e,n,ne,nf,d⟩:=I.pin p hp;exact⟨(J.2 p.1 ne).trans e,n,ne,nf,d⟩
 .have hfn:X.fn x=true:=by
   rcases hf with z|z
   .exact z
   .rw[z] at hk;contradiction
  obtain⟨c,hc⟩:=I.ok.has x (.inl hk);obtain⟨w',z⟩:=I.cell x c hc;refine wpAny_storeName_cell I.ok.kind hk hc z (fun h' hc' J=> ?_);obtain⟨oc,hoc,hocd⟩:=id z;refine h {s with heap:=h'} ⟨I.ok,I.os,I.bare,⟨fun b o e n hb U=> ?_,fun b o e n hb U=> ?_,I.base.free,fun b o e U=> ?_,I.base.IC,I.base.GZ,I.base.IF⟩,⟨m,hn.sameBut J (Ne.symm (cne x c hc)),fun j y v' O Z e3=> ?_⟩,fun y c' e=> ?_,I.free,I.pH,fun p hp=> ?_,L ⟨oc,hoc,I.pH x c hc⟩ J,by simpa using I.len⟩ ⟨c,J,.inr hc⟩
  .exact (J.2 b (adp (adg (aa_ e) (I.ok.cab x c hfn hc)))).trans (I.base.keep b o e n hb U)
  .obtain⟨sl,O⟩:=I.base.slot b o e n hb U;exact⟨sl,(J.2 b (adp (adg (aa_ e) (I.ok.cab x c hfn hc)))).trans O⟩
  .obtain⟨o',O⟩:=I.base.there b o e U;exact⟨o',(J.2 b (adp (adg (aa_ e) (I.ok.cab x c hfn hc)))).trans O⟩
  .by_cases hj:j=i
   .subst hj;rw[hi] at O;injection O with O;subst O;rw[ab2 hiσ] at Z;cases Z;exact⟨u,r,.inr ⟨.inl hk,c,hc,hc'⟩⟩
   .rw[ab1 (Ne.symm hj)] at Z;obtain⟨u',r',q⟩:=hl j y v' O Z e3;refine⟨u',r', ?_⟩
    rcases q with q|⟨k,c',e,z'⟩
    .exact .inl q
    .refine .inr ⟨k,c',e,z'.sameBut J ?_⟩;rintro rfl;exact hj (Be hN O (I.ok.inj _ _ _ e hc ▸ hi))
  .by_cases hcc:c'=c
   .subst hcc;exact⟨_,hc'⟩
   .obtain⟨w2,z2⟩:=I.cell y c' e;exact⟨w2,z2.sameBut J hcc⟩
  .obtain⟨e,n,ne,nf,d⟩:=I.pin p hp;refine⟨(J.2 p.1 ?_).trans e,n,ne,nf,d⟩;intro q;rw[q,hoc] at e;have q':=adD e
   simp_all
def IG (I:Inv X nj σ H s)(O:X.N.Nodup)(hi:X.N[i]?=some x)(J:Loc X.env.scope x)(r:RelV v u)
  (h:∀s',Inv X nj (σ.set i (some v)) H s'->Q () s') (L:X.fn x=true\/X.env.scope.names.lookup x=some .local:=by first|exact .inl rfl|exact .inr rfl|assumption):wpAny M A (storeName X.env x u) Q E s:=
 EB I O hi J r (fun s' U _=>h s' U) L
def Inv.call' (I:Inv X nj σ H s)(L:s'.os=s.os)(u:Un (Tx X.stack) ch H H' s.heap s'.heap)(cK:rk X.prog X.w H' s'.heap)(M:AllBare s'.gens)
  (J:∀b∈ch,(b∈X.ex\/X.Dj.heap.objs.size<=b)/\b≠X.env.locals/\(∀x c,X.env.cells.lookup x=some c->c≠b)/\ ∀p∈X.pn++nj,p.1≠b):Inv X nj σ H' s':=by
 obtain⟨h',O,U,t',o'⟩:=s';have e:=L;subst e;exact I.call u cK M J
end
abbrev XK:=ee->Option dr->Hp->Prop
abbrev St:=List (Option V)
abbrev VK:=V->Hp->Prop
abbrev TE:=St->Hp->VK->Prop
abbrev TT:=St->Hp->(Bool->Hp->Prop)->Prop
abbrev TA:=St->Hp->(List V->Hp->Prop)->Prop
structure Ends where
 nx:St->Hp->Prop
 rt:VK
 bk:St->Hp->Prop:=fun _ _=>False
 ct:St->Hp->Prop:=fun _ _=>False
abbrev TS:=Ends->St->Hp->Prop
def EP (X:Cx)(nj:kB)(σ:St)(Q:VK)(u:ee)(s':cq):Prop:=∃v H',Inv X nj σ H' s'/\RelV v u/\Q v H'
def TP (X:Cx)(nj:kB)(σ:St)(Q:Bool->Hp->Prop)(b:Bool)(s':cq):Prop:=∃H',Inv X nj σ H' s'/\Q b H'
def AP (X:Cx)(nj:kB)(σ:St)(Q:List V->Hp->Prop)(us:kA)(s':cq):Prop:=∃vs H',Inv X nj σ H' s'/\Vals vs us/\Q vs H'
def SP (X:Cx)(nj:kB)(D:Ends)(f:Flow)(s':cq):Prop:=
 match f with
 | .next=>∃σ' H',Inv X nj σ' H' s'/\D.nx σ' H'
 | .brk=>∃σ' H',Inv X nj σ' H' s'/\D.bk σ' H'
 | .cont=>∃σ' H',Inv X nj σ' H' s'/\D.ct σ' H'
 | .ret u=>∃v σ' H',Inv X nj σ' H' s'/\RelV v u/\D.rt v H'
def PE (X:Cx)(e:Expr)(t:TE):Prop:=
 ∀(nj:kB) (s:cq) (σ:St) (H:Hp) (Q:VK),Inv X nj σ H s->t σ H Q->wpAny (model X.prog X.w) X.A (eval e X.env) (EP X nj σ Q) X.xe s
def PT (X:Cx)(e:Expr)(t:TT):Prop:=
 ∀(nj:kB) (s:cq) (σ:St) (H:Hp) (Q:Bool->Hp->Prop),Inv X nj σ H s->t σ H Q->wpAny (model X.prog X.w) X.A (isTrue e X.env (eval e X.env)) (TP X nj σ Q) X.xe s
def PW (X:Cx)(e:Expr)(t:TT):Prop:=
 ∀(whole:Sem ee) (nj:kB) (s:cq) (σ:St) (H:Hp) (Q:Bool->Hp->Prop),Inv X nj σ H s->t σ H Q->wpAny (model X.prog X.w) X.A (isTrue e X.env whole) (TP X nj σ Q) X.xe s
def PW.pt (h:PW X e t):PT X e t:=h _
def PA (X:Cx)(es:List Expr)(t:TA):Prop:=
 ∀(pos:Pos) (nj:kB) (s:cq) (σ:St) (H:Hp) (Q:List V->Hp->Prop),Inv X nj σ H s->t σ H Q->wpAny (model X.prog X.w) X.A (spliced (backTo pos (starEach es X.env))) (AP X nj σ Q) X.xe s
def PS (X:Cx)(st:Stmt)(t:TS):Prop:=
 ∀(nj:kB) (s:cq) (σ:St) (H:Hp) (D:Ends),Inv X nj σ H s->t D σ H->wpAny (model X.prog X.w) X.A (exec st X.env) (SP X nj D) X.xe s
def Eo (X:Cx)(st:List Stmt)(t:TS):Prop:=
 ∀(nj:kB) (s:cq) (σ:St) (H:Hp) (D:Ends),Inv X nj σ H s->t D σ H->wpAny (model X.prog X.w) X.A (execs st X.env) (SP X nj D) X.xe s
def gk (h:wpAny M A t Q E s)(J:∀a s,Q a s->Q' a s):wpAny M A t Q' E s:=aep h J fun _ _ x=>x
end L2
namespace L2
open PySem PySem.Spec PyProof.Rows
section
variable {X:Cx}
def cc (i:Nat):TE:=fun σ H Q=>∃v,σ[i]?=some (some v)/\Q v H
def tC (v:V):TE:=fun _ H Q=>Q v H
def ZJ (hN:X.N[i]?=some x)(O:Vis X.env.scope x)(hd:(x==("__debug__":Str))=false:=by decide)(M:(x==("__classdict__":Str))=false:=by decide):PE X (.Name x pos) (cc i):=by
 intro _ s σ H Q I h;obtain⟨v,e,h⟩:=h;obtain⟨m,U,Z⟩:=I.loc;obtain⟨u,r,l⟩:=Z i x v hN e O;have fin:EP X _ σ Q u s:=⟨v,H,I,r,h⟩
 rcases l with⟨L,Y⟩|⟨L,c,hc,J⟩
 .exact wpAny_Name (wpAny_loadName_local I.ok.kind L U Y fin) hd
 .rcases L with L|L
  .exact wpAny_Name (wpAny_loadName_cell I.ok.kind L hc J fin) hd
  .exact wpAny_Name (wpAny_loadName_free I.ok.kind L hc J fin M) hd
def ai:PE X (.Constant (.int i) j pos) (tC (.int i)):=fun _ _ _ H _ I h=>wpAny_Constant_int ⟨.int i,H,I.tok _,⟨_,rfl⟩,h⟩
def Jl:PE X (.Constant (.bool b) j pos) (tC (.bl b)):=fun _ _ _ H _ I h=>Constant_bool ⟨.bl b,H,I,rfl,h⟩
def ke:PE X (.Constant .none j pos) (tC .iB):=fun _ _ _ H _ I h=>Constant_none ⟨.iB,H,I,rfl,h⟩
def Gl (X:Cx)(x:Str):Prop:=X.env.kindOf x=some .globalImplicit
def uY (I:Inv X nj σ H s)(L:Gl X x)(J:X.mg x=some u)(h:Q u s)
  (hd:(x==("__debug__":Str))=false:=by decide):wpAny (model X.prog X.w) X.A (eval (.Name x pos) X.env) Q E s:=
 Calls.Name_function_global I.ok.kind L (Calls.loadGlobal_global (by rw[I.ok.glob];exact I.mod.glob.keeps I.bk) J h) hd
def lX (I:Inv X nj σ H s)(O:Gl X x)(M:X.mg x=none)(J:bootBuiltins x=some u)(h:Q u s)
  (L:x≠"__name__":=by decide) (hd:(x==("__debug__":Str))=false:=by decide):wpAny (model X.prog X.w) X.A (eval (.Name x pos) X.env) Q E s:=by
 obtain⟨U,h1,h2⟩:=I.mod.blt;exact Calls.Name_function_global I.ok.kind O (Calls.loadGlobal_builtin (by rw[I.ok.glob];exact I.mod.glob.keeps I.bk) M (by rw[I.ok.blt];exact h1.keeps I.bk) ((h2 x L).trans J) h) hd
def Gd (L:Gl X x)(J:X.mg x=some u)(r:RelV v u)(hd:(x==("__debug__":Str))=false:=by decide):PE X (.Name x pos) (tC v):=
 fun _ _ _ H _ I h=>uY I L J ⟨v,H,I,r,h⟩ hd
variable {a b:Expr}{ta tb:TE}{pos:Pos}
def PC (X:Cx)(op:CmpOp)(a b:Expr)(t:TE):Prop:=
 ∀(nj:kB) (s:cq) (σ:St) (H:Hp) (Q:VK),Inv X nj σ H s->t σ H Q->
  wpAny (model X.prog X.w) X.A (eval a X.env) (fun v s₁=>wpAny (model X.prog X.w) X.A (eval b X.env) (fun u s₂=>wpAny (model X.prog X.w) X.A (compareOp op v u) (EP X nj σ Q) X.xe s₂) X.xe s₁) X.xe s
def SI (b:Expr)(h:op≠.In)(h2:op≠.NotIn):behindInMarks op b=false:=by
 have L:(op==CmpOp.In)=false:=by lia
 have J:(op==CmpOp.NotIn)=false:=by lia
 cases b<;>simp[behindInMarks,L,J]
def tIsN (ta:TE):TE:=fun σ H Q=>ta σ H fun x H1=>Q (.bl (decide (x=.iB))) H1
def Ya (ta:TE):TE:=fun σ H Q=>ta σ H fun x H1=>Q (.bl (!decide (x=.iB))) H1
def RelV.JH (r:RelV x v):(v==Value.none)=decide (x=.iB):=by
 cases x with
 |iB=>subst r;rfl
 |bl _=>subst r;rfl
 |int _=>obtain⟨t,rfl⟩:=r;rfl
 |str _=>obtain⟨t,rfl⟩:=r;rfl
 |KY _=>obtain⟨t,rfl⟩:=r;rfl
 |flt _=>obtain⟨t,rfl⟩:=r;rfl
 |ref _=>subst r;rfl
 |ty _=>subst r;rfl
def gv (M:PE X a ta):PC X .Is a (.Constant .none j pos') (tIsN ta):=by
 intro _ s σ H Q I h;refine gk (M _ s σ H _ I h) fun v U z0=> ?_;obtain⟨x,H1,O,J,L⟩:=z0
 exact Constant_none (is_none_gen ⟨.bl _,H1,O,by rw[J.JH];rfl,L⟩)
def N0 (M:PE X a ta):PC X .IsNot a (.Constant .none j pos') (Ya ta):=by
 intro _ s σ H Q I h;refine gk (M _ s σ H _ I h) fun v U z0=> ?_;obtain⟨x,H1,O,J,L⟩:=z0
 exact Constant_none (isnot_none_gen ⟨.bl _,H1,O,by rw[J.JH];rfl,L⟩)
def tB (t:TE):TT:=fun σ H Q=>t σ H fun x H1=>∃c,x=.bl c/\Q c H1
def ej (h:PC X op a b t)(h1:behindInMarks op b=false:=by first|exact SI _ (by decide) (by decide)|rfl):PT X (.Compare a [op] [b] pos) (tB t):=by
 intro _ s σ H Q I hw;refine wpAny_isTrue_Compare1 (gk (h _ s σ H _ I hw) fun v Y h1=>gk h1 fun u U h2=>gk h2 fun c O ⟨x,H1,M,J,L⟩=> ?_) h1;obtain⟨d,rfl,q⟩:=L;subst J;exact aeA ⟨H1,M,q⟩
def de (h:PE X e t)(O:∀J,isTrue e X.env J=(do let v <- J;standAt e.pos;holding [v] (truthy v)):=by intro _;rfl):PT X e (tB t):=by
 intro _ s σ H Q I hw;refine isTrue_plain (gk (h _ s σ H _ I hw) fun v Y ⟨x,H1,U,L,M⟩=> ?_) (O _);obtain⟨d,rfl,q⟩:=M;subst L;exact aeA ⟨H1,U,q⟩
variable {tA tB':TT}{rest:List Expr}
def tAnd (t u:TT):TT:=fun σ H Q=>t σ H fun c H1=>if c=true then u σ H1 Q else Q false H1
def tOr (t u:TT):TT:=fun σ H Q=>t σ H fun c H1=>if c=true then Q true H1 else u σ H1 Q
def tNot (t:TT):TT:=fun σ H Q=>t σ H fun c H1=>Q (!c) H1
def wM (J:PT X a tA):PW X (.BoolOp .And [a] pos) tA:=by
 intro wh _ s σ H Q I h;refine isTrue_and (gk (J _ s σ H Q I h) fun c L e=> ?_);cases c with
 |true=>exact isTrue_and_nil e
 |_=>exact e
def qr (J:PT X a tA):PW X (.BoolOp .Or [a] pos) tA:=by
 intro wh _ s σ H Q I h;refine isTrue_or (gk (J _ s σ H Q I h) fun c L e=> ?_);cases c with
 |false=>exact isTrue_or_nil e
 |_=>exact e
def Az (O:PT X a tA)(M:PW X (.BoolOp .And (b::rest) pos) tB'):PW X (.BoolOp .And (a::b::rest) pos) (tAnd tA tB'):=by
 intro wh _ s σ H Q I h;refine isTrue_and (gk (O _ s σ H _ I h) fun c J ⟨H1,U,L⟩=> ?_);cases c with
 |true=>exact M wh _ J σ H1 Q U L
 |_=>assumption
def tO (O:PT X a tA)(M:PW X (.BoolOp .Or (b::rest) pos) tB'):PW X (.BoolOp .Or (a::b::rest) pos) (tOr tA tB'):=by
 intro wh _ s σ H Q I h;refine isTrue_or (gk (O _ s σ H _ I h) fun c J ⟨H1,U,L⟩=> ?_);cases c with
 |true=>assumption
 |_=>exact M wh _ J σ H1 Q U L
def fJ (J:PT X a tA):PT X (.UnaryOp .Not a pos) (tNot tA):=by
 intro _ s σ H Q I h;exact isTrue_not (J _ s σ H _ I h)
def Ye (ta tb:TE):TE:=fun σ H Q=>ta σ H fun x H1=>∃c,x=.bl c/\if c=true then tb σ H1 Q else Q (.bl false) H1
def Gb (h:PE X a t):PE X (.BoolOp op [a] pos) t:=fun _ s σ H Q I hw=>BoolOp_one (h _ s σ H Q I hw)
def AI (Y:PE X a ta)(U:PE X (.BoolOp .And (b::rest) pos) tb):PE X (.BoolOp .And (a::b::rest) pos) (Ye ta tb):=by
 intro _ s σ H Q I h;refine BoolOp_and (gk (Y _ s σ H _ I h) fun v M z0=> ?_);obtain⟨x,H1,L,O,J⟩:=z0;obtain⟨c,rfl,J⟩:=J;subst O;refine aeA ?_;cases c with
 |true=>exact U _ M σ H1 Q L J
 |_=>exact⟨.bl false,H1,L,rfl,J⟩
def tIf (t:TT)(ta tb:TE):TE:=fun σ H Q=>t σ H fun c H1=>if c=true then ta σ H1 Q else tb σ H1 Q
def gL (hc:PT X c tA)(U:PE X a ta)(O:PE X b tb):PE X (.IfExp c a b pos) (tIf tA ta tb):=by
 intro _ s σ H Q I h;refine wpAny_IfExp (gk (hc _ s σ H _ I h) fun d J z0=> ?_);obtain⟨H1,M,L⟩:=z0;cases d with
 |true=>exact U _ J σ H1 Q M L
 |_=>exact O _ J σ H1 Q M L
end
end L2
namespace L2
open PySem PySem.Spec PyProof.Rows
def dh (K:b0)(H:Hp)(a:dr)(xs:List V):Prop:=
 Rd H a (.lst xs)\/
  ∃(o:Obj) (its:Array ee) (n:Nat),K.lookup a=some o/\o.cls=.type "list"/\o.dict=none/\o.data=.seq its n/\its.size<=sizeLine/\Vals xs its.toList
def mO (K:b0)(H:Hp)(a:dr)(xs:List V):Prop:=
 Rd H a (.tup xs)\/
  ∃(o:Obj) (its:Array ee) (n:Nat),K.lookup a=some o/\o.cls=.type "tuple"/\o.data=.seq its n/\its.size<=sizeLine/\Vals xs its.toList
def absV:ee->Option V
 | .none=>some .iB
 | .bool b=>some (.bl b)
 | .int i _=>some (.int i)
 | .str x _=>some (.str x)
 | .bytes b _=>some (.KY b)
 | .float b _=>some (.flt b)
 | .ref a=>some (.ref a)
 | .type n=>some (.ty n)
 |_=>none
def RelV.abs (r:RelV x u):absV u=some x:=by
 cases x with
 |iB=>subst r;rfl
 |bl _=>subst r;rfl
 |int _=>obtain⟨t,rfl⟩:=r;rfl
 |str _=>obtain⟨t,rfl⟩:=r;rfl
 |KY _=>obtain⟨t,rfl⟩:=r;rfl
 |flt _=>obtain⟨t,rfl⟩:=r;rfl
 |ref _=>subst r;rfl
 |ty _=>subst r;rfl
def RelV.inj (r:RelV x u)(q:RelV y u):x=y:=adD (r.abs.symm.trans q.abs)
def Vals.inj:∀{xs ys:List V} {us:kA},Vals xs us->Vals ys us->xs=ys
 |_,_,_,.nil,.nil=>rfl
 |_,_,_,.cons r t,.cons J t'=>by rw[r.inj J,Vals.inj t t']
section
variable {X:Cx}{nj:kB}{σ:St}{H:Hp}{s:cq}{a:dr}{xs ys:List V}
def dh.of {K:b0}(h:H a=some (.lst xs)):dh K H a xs:=.inl (.inl h)
def mO.of {K:b0}(h:H a=some (.tup xs)):mO K H a xs:=.inl (.inl h)
def Inv.list (I:Inv X nj σ H s)(h:dh X.K H a xs):∃its:kA,Vals xs its/\PlainL s.heap a its.toArray/\xs.length<=sizeLine:=by
 rcases h with h|⟨o,its,n,J,hc,hd,M,L,r⟩
 .obtain⟨z,its,n,r,e⟩:=h.ok I.cK;exact⟨its,r,⟨_,n,e,rfl,rfl,rfl⟩,z⟩
 .refine⟨its.toList,r,⟨o,n,I.DX a o J,hc,hd,by omega⟩, ?_⟩;have e:=r.length
  simp[*]
def Inv.tuple (I:Inv X nj σ H s)(h:mO X.K H a xs):∃its:kA,Vals xs its/\IsTup s.heap a its.toArray/\xs.length<=sizeLine:=by
 rcases h with h|⟨o,its,n,J,hc,M,L,r⟩
 .obtain⟨z,its,r,p⟩:=h.ok I.cK
  grind
 .refine⟨its.toList,r,⟨o,I.DX a o J,hc,n,by omega⟩, ?_⟩;have e:=r.length
  simp[*]
def Inv.oQ (I:Inv X nj σ H s)(h:dh X.K H a xs)(h':dh X.K H a ys):xs=ys:=by
 obtain⟨its,r,⟨o,n,e,_,_,d⟩,_⟩:=I.list h;obtain⟨J,O,⟨o',Y,L,_,_,M⟩,_⟩:=I.list h';rw[e] at L;cases L;rw[d] at M;injection M with U _
 have:=by exact adW Array.toList U
 subst this;exact r.inj O
def Inv.Pe (I:Inv X nj σ H s)(h:mO X.K H a xs)(h':mO X.K H a ys):xs=ys:=by
 obtain⟨its,r,⟨o,e,_,n,d⟩,_⟩:=I.tuple h;obtain⟨J,O,⟨o',L,_,Y,M⟩,_⟩:=I.tuple h';rw[e] at L;cases L;rw[d] at M;injection M with U _
 have:=by exact adW Array.toList U
 subst this;exact r.inj O
end
abbrev Cx.C8 (X:Cx)(E:ee->cq->Prop):Cx:={X with xe:=E}
abbrev Cx.PY (X:Cx):Cx:=X.C8 fun _ _=>False
def Cx.Ok.C8 {X:Cx}(ok:X.Ok)(E:ee->cq->Prop):(X.C8 E).Ok:=
 ⟨ok.mod,ok.kind,ok.glob,ok.blt,ok.above,ok.inj,ok.has,ok.cab,ok.hd,ok.frames,ok.stk,ok.exf,ok.bs,ok.QG,ok.Ml,ok.MP,ok.xk,ok.WN⟩
def Cx.Ok.sZ {X:Cx}(ok:(X.C8 E).Ok):X.Ok:=
 ⟨ok.mod,ok.kind,ok.glob,ok.blt,ok.above,ok.inj,ok.has,ok.cab,ok.hd,ok.frames,ok.stk,ok.exf,ok.bs,ok.QG,ok.Ml,ok.MP,ok.xk,ok.WN⟩
section
variable {X:Cx}{nj:kB}{σ:St}{H:Hp}{s:cq}{E:ee->cq->Prop}
def Inv.C8 (I:Inv X nj σ H s)(E:ee->cq->Prop):Inv (X.C8 E) nj σ H s:=⟨I.ok.C8 E,I.os,I.bare,I.base,I.loc,I.cell,I.free,I.pH,I.pin,I.cK,I.len⟩
def Inv.sZ (I:Inv (X.C8 E) nj σ H s):Inv X nj σ H s:=⟨I.ok.sZ,I.os,I.bare,I.base,I.loc,I.cell,I.free,I.pH,I.pin,I.cK,I.len⟩
def SP.sZ (h:SP (X.C8 E) nj D f s'):SP X nj D f s':=by
 cases f with
 |next=>obtain⟨J,H',I,q⟩:=h;exact⟨J,H',I.sZ,q⟩
 |brk=>obtain⟨J,H',I,q⟩:=h;exact⟨J,H',I.sZ,q⟩
 |cont=>obtain⟨J,H',I,q⟩:=h;exact⟨J,H',I.sZ,q⟩
 |ret u=>obtain⟨v,J,H',I,r,q⟩:=h;exact⟨v,J,H',I.sZ,r,q⟩
def Eo.PY {st:List Stmt}(h:Eo X.PY st t):Eo X st t:=fun _ s σ H D I hw=>
 aep (h _ s σ H D (I.C8 _) hw) (fun _ _ q=>q.sZ) fun _ _ z=>False.elim z
end
section
variable {X:Cx}{st:Stmt}{rest:List Stmt}{t u:TS}{e:Expr}{te:TE}{pos:Pos}
def Rn:TS:=fun D σ H=>D.nx σ H
def rC (t u:TS):TS:=fun D σ H=>t {D with nx:=u D} σ H
def aD:Eo X [] Rn:=fun _ _ σ H _ I h=>aek ⟨σ,H,I,h⟩
def aa (h1:PS X st t)(h2:Eo X rest u):Eo X (st::rest) (rC t u):=by
 intro _ s σ H D I h;refine wpAny_execs_cons (gk (h1 _ s σ H {D with nx:=u D} I h) fun f L q=> ?_);cases f with
 |next=>
  obtain⟨J,H',M,q⟩:=q;exact h2 _ L J H' D M q
 |ret v=>exact q
 |brk=>exact q
 |_=>exact q
def ae (h1:PS X st t):Eo X [st] t:=by
 intro _ s σ H D I h;refine wpAny_execs_cons (gk (h1 _ s σ H D I h) fun f J q=> ?_);cases f with
 |next=>exact aek q
 |ret v=>exact q
 |brk=>exact q
 |_=>exact q
def Inv.quiet (I:Inv X nj σ H s):interactive X.env=false:=by simp[interactive,I.ok.kind]
def wt (te:TE):TS:=fun D σ H=>te σ H fun _ H1=>D.nx σ H1
def bS (M:PE X e te)(L:pure false=swapsWith e none pos.line X.env:=by rfl):PS X (.Expr e pos) (wt te):=by
 intro _ s σ H D I h;exact wpAny_Expr_any (gk (M _ s σ H _ I h) fun v U ⟨x,H1,O,Y,J⟩=>⟨σ,H1,O,J⟩) I.quiet L.symm
def Rm (te:TE):TS:=fun D σ H=>te σ H D.rt
def aj (M:PE X e te):PS X (.Return (some e) pos) (Rm te):=by
 intro _ s σ H D I h;exact wpAny_Return_some (gk (M _ s σ H _ I h) fun v U ⟨x,H1,O,J,L⟩=>⟨x,σ,H1,O,J,L⟩)
def tRetN:TS:=fun D _ H=>D.rt .iB H
def V1:PS X (.Return none pos) tRetN:=fun _ _ σ H _ I h=>wpAny_Return_none ⟨.iB,σ,H,I,rfl,h⟩
def Ph (c:TT)(t u:TS):TS:=fun D σ H=>c σ H fun b H1=>if b=true then t D σ H1 else u D σ H1
def a_ (hc:PT X c tc)(U:Eo X a t)(O:Eo X b u):PS X (.If c a b pos) (Ph tc t u):=by
 intro _ s σ H D I h;refine wpAny_If (gk (hc _ s σ H _ I h) fun d J z0=> ?_);obtain⟨H1,M,L⟩:=z0;cases d with
 |true=>exact U _ J σ H1 D M L
 |_=>exact O _ J σ H1 D M L
end
abbrev TG:=V->St->Hp->(St->Hp->Prop)->Prop
abbrev TGs:=List V->St->Hp->(St->Hp->Prop)->Prop
def PG (X:Cx)(target:Expr)(t:TG):Prop:=
 ∀(nj:kB) (s:cq) (σ:St) (H:Hp) (v:V) (u:ee) (Q:St->Hp->Prop),Inv X nj σ H s->RelV v u->t v σ H Q->
  wpAny (model X.prog X.w) X.A (assign target X.env u) (fun _ s'=>∃σ' H',Inv X nj σ' H' s'/\Q σ' H') X.xe s
def PGs (X:Cx)(ts:List Expr)(t:TGs):Prop:=
 ∀(nj:kB) (s:cq) (σ:St) (H:Hp) (vs:List V) (us:kA) (Q:St->Hp->Prop),Inv X nj σ H s->Vals vs us->t vs σ H Q->
  wpAny (model X.prog X.w) X.A (assignInOrder ((assignEach ts X.env).map (·.2)) us) (fun _ s'=>∃σ' H',Inv X nj σ' H' s'/\Q σ' H') X.xe s
abbrev TSet:=V->V->V->Hp->(Hp->Prop)->Prop
def PSet (X:Cx)(t:TSet):Prop:=
 ∀(nj:kB) (s:cq) (σ:St) (H:Hp) (o i v:V) (ov iv u:ee) (Q:Hp->Prop),Inv X nj σ H s->RelV o ov->RelV i iv->RelV v u->t o i v H Q->
  wpAny (model X.prog X.w) X.A (setItem ov iv u) (fun _ s'=>∃H',Inv X nj σ H' s'/\Q H') X.xe s
section
variable {X:Cx}{pos:Pos}
def i5 (i:Nat):TG:=fun v σ H Q=>Q (σ.set i (some v)) H
def V7 (M:X.N.Nodup)(hi:X.N[i]?=some x)(J:Loc X.env.scope x)(L:X.fn x=true\/X.env.scope.names.lookup x=some .local:=by first|exact .inl rfl|exact .inr rfl|assumption):PG X (.Name x pos) (i5 i):=by
 intro _ s σ H v u Q I r h;exact wpAny_assign_Name (IG I M hi J r (fun s' O=>⟨_,H,O,h⟩) L)
def aad:TGs:=fun vs σ H Q=>vs=[]/\Q σ H
def E2 (t:TG)(u:TGs):TGs:=fun vs σ H Q=>∃v r,vs=v::r/\t v σ H fun σ' H'=>u r σ' H' Q
def kX:PGs X [] aad:=by
 intro _ s σ H vs us Q I r h;obtain⟨e,h⟩:=h;subst e;cases r;exact assignInOrder_nil ⟨σ,H,I,h⟩
def cF (h1:PG X e t)(h2:PGs X es u)
  (U:(assignEach (e::es) X.env).map (·.2)=assign e X.env::(assignEach es X.env).map (·.2):=by rfl):PGs X (e::es) (E2 t u):=by
 intro _ s σ H vs us Q I r h;obtain⟨v,vr,Y,h⟩:=h;subst Y;cases r with
 |cons r M=>
  rw[U];refine assignInOrder_cons (gk (h1 _ s σ H _ _ _ I r h) fun _ L z0=> ?_);obtain⟨J,H1,Z,O⟩:=z0;exact h2 _ L J H1 _ _ Q Z M O
def WM (K:b0)(n:Nat)(t:TGs):TG:=fun v σ H Q=>∃a xs,v=.ref a/\mO K H a xs/\xs.length=n/\t xs σ H Q
def ZI (hc:X.calm=true)(h:PGs X es t)
  (Y:(assignEach es X.env).length=n:=by rfl) (J:(assignEach es X.env).findIdx? (·.1)=none:=by rfl):PG X (.Tuple es k pos) (WM X.K n t):=by
 intro _ s σ H v u Q I r hw;obtain⟨a,xs,e1,U,Z,hw⟩:=hw;subst e1;subst r;obtain⟨its,L,O,hz⟩:=I.tuple U;refine assign_Tuple_tuple (I.ok.hd hc) O (by simp[Y,<- Z,L.length]) J fun h' M=> ?_
 have I1:Inv X _ σ H {s with heap:=h'}:=I.kept fun b o e=>M b o (adp (aa_ e)) e
 exact h _ _ σ H xs _ Q I1 (by omega) hw
def aac (to ti:TE)(t:TSet):TG:=fun v σ H Q=>to σ H fun o H1=>ti σ H1 fun i H2=>t o i v H2 fun H3=>Q σ H3
def AG (ho:PE X o to)(hi:PE X i ti)(hs:PSet X t)
  (ha:∀v,assign (.Subscript o i pos) X.env v=(do
   let J <- holding [v] (eval o X.env)
   let L <- holding [v,J] (eval i X.env)
   standAt pos
   holding [v,J,L] (setItem J L v)
   release [v,J,L] []):=by intro _;rfl):PG X (.Subscript o i pos) (aac to ti t):=by
 intro _ s σ H v u Q I r h;refine aei (aem (gk (ho _ s σ H _ I h) fun J O z0=> ?_));obtain⟨x,H1,I1,U,q1⟩:=z0;refine aei (aem (gk (hi _ O σ H1 _ I1 q1) fun L M z0=> ?_));obtain⟨y,H2,I2,r2,Z⟩:=z0;refine aei (aez (aei (aem (gk (hs _ M σ H2 x y v J L u _ I2 U r2 r Z) fun _ s3 ⟨H3,I3,Y⟩=> ?_))));exact wpAny_release ⟨σ,H3,I3,Y⟩
def tp (te:TE)(g:TG):TS:=fun D σ H=>te σ H fun x H1=>g x σ H1 D.nx
def AB (Y:PE X e te)(U:PG X tg g)(O:swapsWithSole [tg] e pos.line X.env=pure false:=by rfl)(hw:swappedStores [tg] e X.env=pure none:=by rfl)
  (h1:(assignEach [tg] X.env).map (·.2)=[assign tg X.env]:=by rfl):PS X (.Assign [tg] e pos) (tp te g):=by
 intro _ s σ H D I h;refine wpAny_Assign_stores (gk (Y _ s σ H _ I h) fun v J ⟨x,H1,Z,L,M⟩=> ?_) O hw;rw[h1];exact gk (U _ J σ H1 x v _ Z L M) fun _ s2 q=>q
def ZD (Z:X.N.Nodup)(hi:X.N[i]?=some x)(M:Loc X.env.scope x)(Y:PE X e te)(O:swapsWith e (some (.Name x pos')) pos.line X.env=pure false:=by rfl)(U:X.fn x=true\/X.env.scope.names.lookup x=some .local:=by first|exact .inl rfl|exact .inr rfl|assumption):
  PS X (.Assign [.Name x pos'] e pos) (tp te (i5 i)):=by
 intro _ s σ H D I h;refine wpAny_Assign_Name (gk (Y _ s σ H _ I h) fun v s1 ⟨y,H1,I1,J,L⟩=> ?_) O;exact IG I1 Z hi M J (fun s2 I2=>⟨_,H1,I2,L⟩) U
end
section
variable {X:Cx}{pos:Pos}
def FH (c:TT)(tb:TS):TS:=fun D σ H=>∃W:Nat->St->Hp->Prop,(∃m,W m σ H)/\ ∀m σ H,W m σ H->
 c σ H fun b H1=>if b=true then ∃N:St->Hp->Prop,(∀σ' H',N σ' H'-> ∃m',m' < m/\W m' σ' H')/\tb {D with nx:=N,ct:=N,bk:=D.nx} σ H1 else D.nx σ H1
def AA (Y:PassesOwn (model X.prog X.w) X.A X.env X.xe)(hc:PT X c tc)(hb:Eo X body tb):PS X (.While c body [] pos) (FH tc tb):=by
 intro _ s σ H D I h;obtain⟨W,⟨m0,w0⟩,turn⟩:=h;refine wpAny_While (codeAny_whileLoop (fun n s'=>∃L H',Inv X _ L H' s'/\W n L H') ?_ m0 ⟨σ,H,I,w0⟩);rintro n s1 ⟨J,H1,I1,w1⟩;refine aes Y (gk (hc _ s1 J H1 _ I1 (turn n J H1 w1)) fun b s2 z0=> ?_);obtain⟨H2,Z,O⟩:=z0;cases b with
 |true=>
  obtain⟨N,hN,O⟩:=O;refine aes Y (gk (hb _ s2 J H2 _ Z O) fun f s3 M=> ?_);cases f with
  |next=>
   obtain⟨U,H3,I3,n3⟩:=M
   grind
  |cont=>
   obtain⟨U,H3,I3,n3⟩:=M
   grind
  |brk=>exact M
  |ret v=>exact M
 |_=>
  exact aek ⟨J,H2,Z,O⟩
end
structure It where
 go:Nat->Hp->Prop
 yld:Nat->Hp->V->Hp->Prop
 stop:Nat->Hp->Prop
def xH (X:Cx)(nj:kB)(H:Hp)(b:dr):Prop:=
 H b=none/\b≠X.env.locals/\b∉X.fs/\(b∈X.ex\/X.Dj.heap.objs.size<=b)/\(∀x c,X.env.cells.lookup x=some c->c≠b)/\ ∀p∈X.pn++nj,p.1≠b
def Inv.Hb (I:Inv X nj σ H s)(J:s.heap.objs.size<=b)(M:H' b=none):xH X nj H' b:=by
 refine⟨M,ado (adg I.lt J),I.nofs J,.inr (adb I.sz J),fun x c e z=> ?_,fun p L z=> ?_⟩
 .obtain⟨v,q⟩:=I.cell x c e;exact absurd (adg q.lt (by simp[*])) (ade _)
 .exact absurd (adg (aa_ (I.pin p L).1) (by simp[*])) (ade _)
structure Turn (P:dn)(w:fx)(K:b0)(tg:Expr)(J:It)(fp:mu)(it:dr)(tn:Nat->Heap->Prop):Prop where
 mem:it∈fp
 obj:∀i h,tn i h-> ∀b∈fp,∃o,h.get? b=some o/\ ∀v,o.data≠.cell v
 keep:∀i h h',tn i h->(∀b∈fp,∀o,h.get? b=some o->h'.get? b=some o)->tn i h'
 item:∀(X:Cx),X.prog=P->X.w=w->X.K=K->X.calm=true-> ∀(i:Nat) (nj:kB) (s:cq) (σ:St) (H:Hp) (E:ee->cq->Prop),Inv X nj σ H s->(∀b∈fp,xH X nj H b)->tn i s.heap->J.go i H->
  wpAny (model P w) X.A (pyNext (.ref it)) (fun r s1=>∃u,r=some u/\
   wpAny (model P w) X.A (letOwnedTupleGo tg (.ref it) u) (fun _ s2=>∃x H',Inv X nj σ H' s2/\RelV x u/\J.yld i H x H'/\tn (i+1) s2.heap/\ ∀b∈fp,H' b=none) E s1) E s
 done:∀(X:Cx),X.prog=P->X.w=w->X.K=K->X.calm=true-> ∀(i:Nat) (nj:kB) (s:cq) (σ:St) (H:Hp) (E:ee->cq->Prop),Inv X nj σ H s->(∀b∈fp,xH X nj H b)->tn i s.heap->J.stop i H->
  wpAny (model P w) X.A (pyNext (.ref it)) (fun r s1=>r=none/\Inv X nj σ H s1) E s
 self:∀(A:eu) (i:Nat) (s:cq) (Q:ee->cq->Prop) (E:ee->cq->Prop),tn i s.heap->Q (.ref it) s->wpAny (model P w) A (pyIter (.ref it)) Q E s
abbrev TI:=St->Hp->(It->Hp->Prop)->Prop
def PIE (X:Cx)(nj:kB)(σ:St)(tg:Expr)(R:It->Hp->Prop)(itv:ee)(s2:cq):Prop:=
 ∃(it:dr) (fp:mu) (tn:Nat->Heap->Prop) (J:It) (H':Hp),itv=.ref it/\Inv X nj σ H' s2/\Turn X.prog X.w X.K tg J fp it tn/\tn 0 s2.heap/\(∀b∈fp,xH X nj H' b)/\R J H'
def PI (X:Cx)(tg iter:Expr)(wi:TI):Prop:=
 ∀(nj:kB) (s:cq) (σ:St) (H:Hp) (R:It->Hp->Prop),Inv X nj σ H s->wi σ H R->
  wpAny (model X.prog X.w) X.A (eval iter X.env) (fun v s1=>wpAny (model X.prog X.w) X.A (pyIter v) (PIE X nj σ tg R) X.xe s1) X.xe s
def Tu (L:s.heap.get? it=some o)(hc:o.cls=.type n)(hd:o.data=.fields vs)
  (O:["enumerate","zip","dict_itemiterator","dict_reverseitemiterator","odict_iterator","itertools.zip_longest","itertools.pairwise"].contains n=false) (J:Q () s):wpAny M A (letOwnedTupleGo tg (.ref it) u) Q E s:=by
 cases tg<;>first
  |exact aet J
  |(cases u<;>first
    |exact aet J
    |(refine aei (wpAny_load L ?_);rw[hc,hd];show wpAny M A (if _=true then _ else _) Q E s;rw[ad2 (by lia)];exact aet J))
def Itl (K:b0)(a:dr):It:=
 ⟨fun i H=>∃xs x,dh K H a xs/\xs[i]?=some x,fun i H x H'=>H'=H/\ ∀xs,dh K H a xs->xs[i]?=some x,fun i H=>∃xs,dh K H a xs/\xs.length<=i⟩
def Itt (K:b0)(a:dr):It:=
 ⟨fun i H=>∃xs x,mO K H a xs/\xs[i]?=some x,fun i H x H'=>H'=H/\ ∀xs,mO K H a xs->xs[i]?=some x,fun i H=>∃xs,mO K H a xs/\xs.length<=i⟩
def Itr (lo:Int)(n:Nat):It:=⟨fun i _=>i < n,fun i H x H'=>H'=H/\x=.int (lo+i),fun i _=>n<=i⟩
def Pc {P:dn}{w:fx}{K:b0}{tg:Expr}(a it:dr):Turn P w K tg (Itl K a) [it] it (fun i h=>h.IsListIter it a i) where
 mem:=by simp
 obj:=fun i h st b J=>by
  have e:=by simpa using J
  subst e;obtain⟨o,e,c,d⟩:=st
  simp[*]
 keep:=fun i h h' st k=>st.at fun o e=>k it (by simp) o e
 item:=by
  intro X hP hw hK hc i _ s σ H E I O st Z;subst hP hw hK;obtain⟨xs,x,M,Y⟩:=Z;obtain⟨its,U,p,hz⟩:=I.list M;obtain⟨u,hu,ru⟩:=U.get Y;obtain⟨f0,f1,f2,f3,f4,f5⟩:=O it (by simp);refine wpAny_pyNext_list_item st p.isList (by simpa using hu) fun h' L sb=> ?_
  have I1:Inv X _ σ H {s with heap:=h'}:=I.turned (fun b o J e=>(sb.2 b J).trans e) f0 f1 f3 f4 f5;obtain⟨o,e,c,d⟩:=id L;exact⟨u,rfl,Tu e c d (by rfl) ⟨x,H,I1,ru,⟨rfl,fun ys hy=>by rw[I.oQ hy M];exact Y⟩,L,fun b J=>(O b J).1⟩⟩
 done:=by
  intro X hP hw hK hc i nj s σ H E I O st Z;subst hP hw hK;obtain⟨xs,M,Y⟩:=Z;obtain⟨its,U,p,hz⟩:=I.list M;obtain⟨f0,f1,f2,f3,f4,f5⟩:=O it (by simp);have hl:=U.length;exact aew (I.ok.hd hc) st p.isList (by simp;lia) fun h' eb=>⟨rfl,I.turned (fun b o J e=>eb b o J e) f0 f1 f3 f4 f5⟩
 self:=fun _ _ _ _ _ st h=>wpAny_pyIter_listiter st h
def LG {P:dn}{w:fx}{K:b0}{tg:Expr}(a it:dr):Turn P w K tg (Itt K a) [it] it (fun i h=>h.IsTupleIter it a i) where
 mem:=by simp
 obj:=fun i h st b J=>by
  have e:=by simpa using J
  subst e;obtain⟨o,e,c,d⟩:=st
  simp[*]
 keep:=fun i h h' st k=>st.at fun o e=>k it (by simp) o e
 item:=by
  intro X hP hw hK hc i _ s σ H E I O st Z;subst hP hw hK;obtain⟨xs,x,M,Y⟩:=Z;obtain⟨its,U,p,hz⟩:=I.tuple M;obtain⟨u,hu,ru⟩:=U.get Y;obtain⟨f0,f1,f2,f3,f4,f5⟩:=O it (by simp);refine wpAny_pyNext_tuple_item st (p) (by simpa using hu) fun h' L sb=> ?_
  have I1:Inv X _ σ H {s with heap:=h'}:=I.turned (fun b o J e=>(sb.2 b J).trans e) f0 f1 f3 f4 f5;obtain⟨o,e,c,d⟩:=id L;exact⟨u,rfl,Tu e c d (by rfl) ⟨x,H,I1,ru,⟨rfl,fun ys hy=>by rw[I.Pe hy M];exact Y⟩,L,fun b J=>(O b J).1⟩⟩
 done:=by
  intro X hP hw hK hc i nj s σ H E I O st Z;subst hP hw hK;obtain⟨xs,M,Y⟩:=Z;obtain⟨its,U,p,hz⟩:=I.tuple M;obtain⟨f0,f1,f2,f3,f4,f5⟩:=O it (by simp);have hl:=U.length;exact wpAny_pyNext_tuple_end (I.ok.hd hc) st (p) (by simp_all) fun h' eb=>⟨rfl,I.turned (fun b o J e=>eb b o J e) f0 f1 f3 f4 f5⟩
 self:=fun _ _ _ _ _ st h=>wpAny_pyIter_tupleiter st h
def LH {P:dn}{w:fx}{K:b0}{tg:Expr}(it:dr)(lo:Int)(n:Nat):Turn P w K tg (Itr lo n) [it] it (fun i h=>IsRangeIter h it (lo+(i:Nat)*1) ((n:Int) - (i:Nat)) 1) where
 mem:=by simp
 obj:=fun i h st b L=>by
  simp_all
 keep:=fun i h h' st k=>k it (by simp) _ st
 item:=by
  intro X U hw Y hc i _ s σ H E I M st O;subst U hw Y;obtain⟨f0,f1,f2,f3,f4,Z⟩:=M it (by simp);have W:=Walks.range (prog:=X.prog) (w:=X.w) (I.ok.hd hc) it lo 1 n;refine W.item i s _ _ O st fun v h' tk hv J kk=> ?_
  obtain⟨t,rfl⟩:=hv;have I1:Inv X _ σ H {s with heap:=h',toks:=tk}:=I.turned (fun b o L e=>kk b o (by simp[*]) e) f0 f1 f3 f4 Z;refine⟨_,rfl,Tu J rfl rfl (by rfl) ⟨.int _,H,I1,⟨t, ?_⟩,⟨rfl,rfl⟩,J,fun b L=>(M b L).1⟩⟩
  simp
 done:=by
  intro X U hw Y hc i nj s σ H E I M st O;subst U hw Y;obtain⟨f0,f1,f2,f3,f4,Z⟩:=M it (by simp);exact wpAny_pyNext_range_end (I.ok.hd hc) st (by have:n<=i:=O;lia) fun h' eb=>⟨rfl,I.turned (fun b o L e=>eb b o L e) f0 f1 f3 f4 Z⟩
 self:=fun _ _ _ _ _ st h=>wpAny_pyIter_rangeiter st h
end L2
namespace L2
open PySem PySem.Spec PyProof.Rows
section
variable {X:Cx}{tg:Expr}
def Tc (K:b0)(tl:TE):TI:=fun σ H R=>tl σ H fun x H1=>∃a,x=.ref a/\(∃xs,dh K H1 a xs)/\R (Itl K a) H1
def Z7 (K:b0)(tl:TE):TI:=fun σ H R=>tl σ H fun x H1=>∃a,x=.ref a/\(∃xs,mO K H1 a xs)/\R (Itt K a) H1
def V5 (Y:PE X l tl):PI X tg l (Tc X.K tl):=by
 intro _ s σ H R I h;refine gk (Y _ s σ H _ I h) fun v L z0=> ?_;obtain⟨x,H1,J,M,O⟩:=z0
 obtain⟨a,e,⟨xs,U⟩,q⟩:=O;subst e;subst M;obtain⟨its,rv,p,hz⟩:=J.list U;refine aeu p.isList ?_;refine xi5 L.heap.objs.size [L.heap.objs.size] _ _ H1 ⟨rfl,J.kept fun b o e=>aa6 _ e,Pc a _,⟨_,aa7 _ rfl,rfl,rfl⟩,fun b Z=> ?_,q⟩;have e:=by simpa using Z
 subst e;exact J.Hb (ac_ _) (J.cK.fresh (ac_ _))
def ZG (Y:PE X l tl):PI X tg l (Z7 X.K tl):=by
 intro _ s σ H R I h;refine gk (Y _ s σ H _ I h) fun v L z0=> ?_;obtain⟨x,H1,J,M,O⟩:=z0
 obtain⟨a,e,⟨xs,U⟩,q⟩:=O;subst e;subst M;obtain⟨its,rv,p,hz⟩:=J.tuple U;refine wpAny_pyIter_tuple (p) ?_;refine xi5 L.heap.objs.size [L.heap.objs.size] _ _ H1 ⟨rfl,J.kept fun b o e=>aa6 _ e,LG a _,⟨_,aa7 _ rfl,rfl,rfl⟩,fun b Z=> ?_,q⟩;have e:=by simpa using Z
 subst e;exact J.Hb (ac_ _) (J.cK.fresh (ac_ _))
def Jd {lo hi:Int}(I:Inv X nj σ H s)(h1: -(2^62)<=lo)(h2:lo < 2^62)(O: -(2^62)<=hi)(M:hi < 2^62)
  (q:R (Itr lo (hi - lo).toNat) H):wpAny (model X.prog X.w) X.A (pyIter (.ref s.heap.objs.size)) (PIE X nj σ tg R) E {s with heap:=s.heap.push {cls:=.type "range",data:=.fields #[.int lo t,.int hi u,.int 1 v]},toks:=tk}:=by
 refine wpAny_pyIter_range (IsRange.new ..) (small_one h1 h2 O M) ?_;have J:Inv X _ σ H {s with heap:=s.heap.push {cls:=.type "range",data:=.fields #[.int lo t,.int hi u,.int 1 v]},toks:=tk}:=I.kept fun b o e=>aa6 _ e
 refine xi5 ((s.heap.push {cls:=.type "range",data:=.fields #[.int lo t,.int hi u,.int 1 v]}).objs.size) [(s.heap.push {cls:=.type "range",data:=.fields #[.int lo t,.int hi u,.int 1 v]}).objs.size] _ _ H ⟨rfl,
  J.kept fun b o e=>aa6 _ e,LH _ lo (hi - lo).toNat, ?_,fun b L=> ?_,q⟩
 .have Y:lo+((0:Nat):Int)*1=lo:=by simp
  have U:(((hi - lo).toNat:Nat):Int) - ((0:Nat):Int)=Builtin.Range.rangeSize lo hi 1:=by rw[rangeSize_one];split<;>grind
  rw[Y,U];exact aa7 _ rfl
 .have e:b=(s.heap.push {cls:=.type "range",data:=.fields #[.int lo t,.int hi u,.int 1 v]}).objs.size:=by simp_all
  subst e;exact J.Hb (ac_ _) (J.cK.fresh (ac_ _))
def Yr (ta:TA):TI:=fun σ H R=>ta σ H fun vs H1=>∃j:Int,vs=[.int j]/\ -(2^62)<=j/\j < 2^62/\R (Itr 0 j.toNat) H1
def Yq (ta:TA):TI:=fun σ H R=>ta σ H fun vs H1=>∃i j:Int,vs=[.int i,.int j]/\(-(2^62)<=i/\i < 2^62/\ -(2^62)<=j/\j < 2^62)/\R (Itr i (j - i).toNat) H1
def oq (Z:Gl X "range")(Y:X.mg "range"=none)(ha:PA X [a] ta)(U:starEach [a] X.env=[(false,eval a X.env)]:=by rfl):PI X tg (.Call (.Name "range" p) [a] [] pos) (Yr ta):=by
 intro _ s σ H R I h;refine Call_ (lX I Z Y boot_range (adG (gk (ha pos _ s σ H _ I h) fun us s1 ⟨vs,H1,I1,M,J⟩=> ?_) U rfl));obtain⟨j,e,J,O,q⟩:=J;subst e;cases M with
 |cons r L=>
  cases L;obtain⟨t,rfl⟩:=r;exact call_range_1 (Jd I1 (by lia) (by lia) J O (by lia))
def uR (hg:Gl X "range")(hm:X.mg "range"=none)(ha:PA X [a,b] ta)(hs:starEach [a,b] X.env=[(false,eval a X.env),(false,eval b X.env)]:=by rfl)(M:starEach [b] X.env=[(false,eval b X.env)]:=by rfl):
  PI X tg (.Call (.Name "range" p) [a,b] [] pos) (Yq ta):=by
 intro _ s σ H R I h;refine Call_ (lX I hg hm boot_range (adG (gk (ha pos _ s σ H _ I h) fun us s1 ⟨vs,H1,I1,O,L⟩=> ?_) (by lia) (by rw[M];rfl)));obtain⟨i,j,e,⟨L,q2,Z,Y⟩,q⟩:=L;subst e;cases O with
 |cons r J=>
  cases J with
  |cons U J=>
   cases J;obtain⟨t,rfl⟩:=r;obtain⟨t',rfl⟩:=U;exact call_range_2 (Jd I1 L q2 Z Y q)
def qe (wi:TI)(g:TG)(tb:TS):TS:=fun D σ H=>wi σ H fun J H1=>∃W:Nat->Nat->St->Hp->Prop,(∃m,W 0 m σ H1)/\ ∀i m σ H,W i m σ H->
 (J.stop i H/\D.nx σ H)\/(J.go i H/\ ∃N:St->Hp->Prop,(∀σ' H',N σ' H'-> ∃m',m' < m/\W (i+1) m' σ' H')/\ ∀x H',J.yld i H x H'->g x σ H' fun σ2 H2=>tb {D with nx:=N,ct:=N,bk:=D.nx} σ2 H2)
def F_ (fp:mu)(h:Heap):kB:=fp.filterMap fun b=>(h.get? b).map fun o=>(b,o)
def vM (J:b∈fp)(e:h.get? b=some o):(b,o)∈F_ fp h:=List.mem_filterMap.mpr ⟨b,J,by rw[e];rfl⟩
def PX (J:p∈F_ fp h):p.1∈fp/\h.get? p.1=some p.2:=by
 obtain⟨b,L,e⟩:=List.mem_filterMap.mp J;cases q:h.get? b with
 |none=>rw[q] at e;contradiction
 |_ o=>
  grind
def Inv.pinned (I:Inv X nj σ H s)(L:∀b∈fp,xH X nj H b)(O:∀b∈fp,∃o,s.heap.get? b=some o/\ ∀v,o.data≠.cell v):Inv X (nj++F_ fp s.heap) σ H s:=
 I.F9 fun p J=>(acq.mp J).elim (fun z=>I.pin p (acs _ z)) fun z=>by
  obtain⟨M,e⟩:=PX z;obtain⟨f0,Y,U,_⟩:=L p.1 M
  grind
def Inv.mQ (I:Inv X (nj++pl) σ H s):Inv X nj σ H s:=I.F9 fun p J=>I.pin p (acs _ (acr _ J))
def ek (hp:PassesOwn (model X.prog X.w) X.A X.env X.xe)(hc:X.calm=true)(hi:PI X tg iter wi)(hg:PG X tg g)(Y:Eo X body tb)
  (hs:∀x,foldedSetIterable iter X.env x=pure x:=by intro _;rfl):PS X (.For tg iter body [] pos) (qe wi g tb):=by
 intro nj s σ H D I h;refine wpAny_For (gk (hi _ s σ H _ I h) fun v s1 h1=>gk h1 fun itv s2 h2=> ?_) hs;obtain⟨it,fp,tn,J,H2,e,I2,T,st2,f2,W,⟨m0,w0⟩,turn⟩:=h2;subst e;have U:∀{H':Hp},(∀b∈fp,H' b=none)-> ∀b∈fp,xH X _ H' b:=fun hn b Y=>⟨hn b Y,(f2 b Y).2⟩
 refine codeAny_forLoop_any (fun n s'=>∃i O H',Inv X _ O H' s'/\tn i s'.heap/\(∀b∈fp,H' b=none)/\W i n O H') ?_ m0 ⟨0,σ,H2,I2,st2,fun b Y=>(f2 b Y).1,w0⟩;rintro n s3 ⟨i,M,H3,I3,st3,fr3,w3⟩
 rcases turn i n M H3 w3 with⟨stop,qn⟩|⟨go,N,hN,step⟩
 .refine aes hp (gk (T.done X rfl rfl rfl hc i _ s3 M H3 _ I3 (U fr3) st3 stop) fun r s4 z0=> ?_);obtain⟨hr,I4⟩:=z0;subst hr;exact aek ⟨M,H3,I4,qn⟩
 .refine aes hp (gk (T.item X rfl rfl rfl hc i _ s3 M H3 _ I3 (U fr3) st3 go) fun r s4 z0=> ?_);obtain⟨u,hr,h4⟩:=z0;subst hr;refine aes hp (gk h4 fun _ s5 z0=> ?_);obtain⟨x,H5,I5,r5,y5,st5,fr5⟩:=z0;have I5':=I5.pinned (U fr5) (T.obj _ _ st5);refine aes hp (gk (hg _ s5 M H5 x u _ I5' r5 (step x H5 y5)) fun _ s6 z0=> ?_);obtain⟨σ6,H6,I6,q6⟩:=z0;refine aes hp (gk (Y _ s6 σ6 H6 _ I6 q6) fun f s7 q7=> ?_);have again:∀{L:St} {H7:Hp},Inv X _ L H7 s7->N L H7-> ∃m,m < n/\ ∃i O H',Inv X nj O H' s7/\tn i _/\(∀b∈fp,H' b=none)/\W i m O H':=fun {L H7} Z n7=>by
   obtain⟨m',hm,w7⟩:=hN L H7 n7;refine⟨m',hm,i+1,L,H7,Z.mQ,T.keep _ _ _ st5 fun b Y o e=>(Z.pin _ (acs _ (acs _ (vM Y e)))).1,fun b Y=> ?_,w7⟩;obtain⟨o,e,d⟩:=T.obj _ _ st5 b Y;exact(Z.pin _ (acs _ (acs _ (vM Y e)))).2.1
  cases f with
  |next=>obtain⟨L,H7,Z,n7⟩:=q7;exact again Z n7
  |cont=>obtain⟨L,H7,Z,n7⟩:=q7;exact again Z n7
  |brk=>obtain⟨L,H7,Z,q7⟩:=q7;exact⟨L,H7,Z.mQ,q7⟩
  |ret v=>obtain⟨x7,L,H7,Z,r7,q7⟩:=q7;exact⟨x7,L,H7,Z.mQ,r7,q7⟩
end
end L2
namespace L2
open PySem PySem.Spec PyProof.Rows
abbrev R2:=V->V->Hp->VK->Prop
def xG (X:Cx)(f:ee->ee->Sem ee)(r:R2):Prop:=
 ∀(nj:kB) (s:cq) (σ:St) (H:Hp) (x y:V) (v u:ee) (Q:VK),Inv X nj σ H s->RelV x v->RelV y u->r x y H Q->
  wpAny (model X.prog X.w) X.A (f v u) (EP X nj σ Q) X.xe s
def UnR (X:Cx)(f:ee->Sem ee)(r:V->Hp->VK->Prop):Prop:=
 ∀(nj:kB) (s:cq) (σ:St) (H:Hp) (x:V) (v:ee) (Q:VK),Inv X nj σ H s->RelV x v->r x H Q->
  wpAny (model X.prog X.w) X.A (f v) (EP X nj σ Q) X.xe s
def jB (X:Cx)(f:ee)(r:List V->Hp->VK->Prop):Prop:=
 ∀(nj:kB) (s:cq) (σ:St) (H:Hp) (xs:List V) (us:kA) (Q:VK),Inv X nj σ H s->Vals xs us->r xs H Q->
  wpAny (model X.prog X.w) X.A (call f us) (EP X nj σ Q) X.xe s
def il (r:R2)(ta tb:TE):TE:=fun σ H Q=>ta σ H fun x H1=>tb σ H1 fun y H2=>r x y H2 Q
def tUn (r:V->Hp->VK->Prop)(ta:TE):TE:=fun σ H Q=>ta σ H fun x H1=>r x H1 Q
def rI (C:Int->Int->Prop)(g:Int->Int->V):R2:=fun x y H Q=>∃i j,x=.int i/\y=.int j/\C i j/\Q (g i j) H
def EH (g:Int->Int->V):R2:=fun x y H Q=>∃i j,x=.int i/\y=.int j/\Q (g i j) H
def rU (g:Int->V):V->Hp->VK->Prop:=fun x H Q=>∃i,x=.int i/\Q (g i) H
section
variable {X:Cx}{a b c:Expr}{ta tb tc:TE}{pos:Pos}
def binT (Z:PE X a ta)(Y:PE X b tb){R:V->V->Hp->Prop}(I:Inv X nj σ H s)
  (h:ta σ H fun x H1=>tb σ H1 fun y H2=>R x y H2) {f:ee->ee->Sem ee}
  (hf:∀v u M x y H2,Inv X nj σ H2 M->RelV x v->RelV y u->R x y H2->wpAny (model X.prog X.w) X.A (f v u) Q X.xe M):
  wpAny (model X.prog X.w) X.A (eval a X.env) (fun v L=>wpAny (model X.prog X.w) X.A (eval b X.env) (fun u J=>wpAny (model X.prog X.w) X.A (f v u) Q X.xe J) X.xe L) X.xe s:=by
 refine gk (Z _ s σ H _ I h) fun v O z0=> ?_;obtain⟨x,H1,I1,r1,U⟩:=z0
 refine gk (Y _ O σ H1 _ I1 U) fun u M z0=> ?_;obtain⟨y,H2,I2,r2,q2⟩:=z0
 grind
def bc (O:xG X (binaryOp op) r)(Y:PE X a ta)(U:PE X b tb):PE X (.BinOp a op b pos) (il r ta tb):=by
 intro _ s σ H Q I h;exact wpAny_BinOp (binT Y U I h fun v u J x y H2 Z M L q=>O _ J σ H2 x y v u Q Z M L q)
def wQ (O:UnR X (unaryOp op) r)(U:PE X a ta):PE X (.UnaryOp op a pos) (tUn r ta):=by
 intro _ s σ H Q I h;exact UnaryOp_ (gk (U _ s σ H _ I h) fun v J ⟨x,H1,Y,L,M⟩=>O _ J σ H1 x v Q Y L M)
def opI {g:Int->Int->Int}
  (rule:∀(i j:Int) (t u:Tok) (s:cq) (Q:ee->cq->Prop) (E:ee->cq->Prop),C i j->Q (.int (g i j) s.toks) {s with toks:=s.toks+1}->wpAny (model X.prog X.w) X.A (f (.int i t) (.int j u)) Q E s):
  xG X f (rI C fun i j=>.int (g i j)):=by
 intro _ s σ H x y v u Q I L J h;obtain⟨i,j,rfl,rfl,hc,q⟩:=h;obtain⟨t,rfl⟩:=L;obtain⟨t',rfl⟩:=J;exact rule i j t t' s _ _ hc ⟨.int _,H,I.tok _,⟨_,rfl⟩,q⟩
def We {g:Int->Int->Int}
  (rule:∀(i j:Int) (t u:Tok) (s:cq) (Q:ee->cq->Prop) (E:ee->cq->Prop),Q (.int (g i j) s.toks) {s with toks:=s.toks+1}->wpAny (model X.prog X.w) X.A (f (.int i t) (.int j u)) Q E s):
  xG X f (EH fun i j=>.int (g i j)):=by
 intro _ s σ H x y v u Q I L J h;obtain⟨i,j,rfl,rfl,q⟩:=h;obtain⟨t,rfl⟩:=L;obtain⟨t',rfl⟩:=J;exact rule i j t t' s _ _ ⟨.int _,H,I.tok _,⟨_,rfl⟩,q⟩
def Wf {g:Int->Int->Bool}
  (rule:∀(i j:Int) (t u:Tok) (s:cq) (Q:ee->cq->Prop) (E:ee->cq->Prop),Q (.bool (g i j)) s->wpAny (model X.prog X.w) X.A (f (.int i t) (.int j u)) Q E s):
  xG X f (EH fun i j=>.bl (g i j)):=by
 intro _ s σ H x y v u Q I L J h;obtain⟨i,j,rfl,rfl,q⟩:=h;obtain⟨t,rfl⟩:=L;obtain⟨t',rfl⟩:=J;exact rule i j t t' s _ _ ⟨.bl _,H,I,rfl,q⟩
def CPow (i j:Int):Prop:=0<=j/\j<=1000000/\i.natAbs < 2^64
def UO (i j:Int):Prop:=(-(2^64) < i/\i < 2^64)\/(-(2^64) < j/\j < 2^64)
def UO.ok (h:UO i j):IntMulOk i j:=by
 rcases h with⟨h1,h2⟩|⟨h1,h2⟩
 .exact .of_left (intBits_le_64 h1 h2)
 .exact .of_right (intBits_le_64 h1 h2)
def kZ:xG X (binaryOp .Add) (EH fun i j=>.int (i+j)):=We fun _ _ _ _ _ _ _ q=>add_int q
def qt:xG X (binaryOp .Sub) (EH fun i j=>.int (i - j)):=We fun _ _ _ _ _ _ _ q=>sub_int q
def fK:xG X (binaryOp .Mult) (rI UO fun i j=>.int (i*j)):=opI fun _ _ _ _ _ _ _ hc q=>mul_int q hc.ok
def xU:xG X (binaryOp .Mod) (rI (fun _ j=>0 < j) fun i j=>.int (i%j)):=opI fun i j _ _ _ _ _ hc q=>by
 exact mod_int' (by lia) (by grind)
def Gf:xG X (binaryOp .LShift) (rI CPow fun i j=>.int (i*2^j.toNat)):=opI fun _ _ _ _ _ _ _ hc q=>lshift_int_small hc.1 hc.2.1 hc.2.2 q
def ZN:xG X (binaryOp .RShift) (rI (fun _ j=>0<=j) fun i j=>.int (i / 2^j.toNat)):=opI fun i j _ _ _ _ _ hc q=>
 rshift_int hc (by grind)
def Sw:xG X (binaryOp .BitAnd) (EH fun i j=>.int (Builtin.bitAnd i j)):=We fun _ _ _ _ _ _ _ q=>and_int q
def op_or:xG X (binaryOp .BitOr) (EH fun i j=>.int (Builtin.bitOr i j)):=We fun _ _ _ _ _ _ _ q=>or_int q
def unI {g:Int->Int}
  (rule:∀(i:Int) (t:Tok) (s:cq) (Q:ee->cq->Prop) (E:ee->cq->Prop),Q (.int (g i) s.toks) {s with toks:=s.toks+1}->wpAny (model X.prog X.w) X.A (f (.int i t)) Q E s):
  UnR X f (rU fun i=>.int (g i)):=by
 intro _ s σ H x v Q I J h;obtain⟨i,rfl,q⟩:=h;obtain⟨t,rfl⟩:=J;exact rule i t s _ _ ⟨.int _,H,I.tok _,⟨_,rfl⟩,q⟩
def rB:UnR X (unaryOp .USub) (rU fun i=>.int (-i)):=unI fun _ _ _ _ _ q=>neg_int q
end
def scal:V->V->Bool
 | .iB,.iB=>true| .iB,.int _=>true| .int _,.iB=>true| .iB,.bl _=>true| .bl _,.iB=>true| .iB,.str _=>true| .str _,.iB=>true
 | .int _,.int _=>true| .bl _,.bl _=>true| .str _,.str _=>true| .KY _,.KY _=>true
 | .int _,.str _=>true| .str _,.int _=>true| .bl _,.str _=>true| .str _,.bl _=>true
 |_,_=>false
def rEq:R2:=fun x y H Q=>scal x y=true/\Q (.bl (decide (x=y))) H
def rNe:R2:=fun x y H Q=>scal x y=true/\Q (.bl (!decide (x=y))) H
def Ox:decide (V.int i=V.int j)=(i==j):=by
 lia
def T6:decide (V.bl i=V.bl j)=(i==j):=by
 lia
def Ow:decide (V.str i=V.str j)=(i==j):=by
 lia
def Oy:decide (V.KY i=V.KY j)=(i.toList==j.toList):=by
 rw[aaR];cases i;cases j;simp
section
variable {X:Cx}{a b c:Expr}{ta tb tc:TE}{pos:Pos}
def df (I:Inv X nj σ H s)(q:Q (.bl k) H)(e:k=k'):EP X nj σ Q (.bool k') s:=by
 subst e;exact⟨.bl k,H,I,rfl,q⟩
def mV:xG X (compareOp .Eq) rEq:=by
 intro nj s σ H x y v u Q I M J h;obtain⟨L,q⟩:=h;cases x with
 |iB=>
  cases M;cases y with
  |iB=>subst J;exact PySem.EqNone.eq_none_none (df I q (by simp))
  |bl j=>subst J;exact PySem.EqNone.eq_none_bool (df I q (by simp))
  |int j=>obtain⟨t',rfl⟩:=J;exact PySem.EqNone.eq_none_int (df I q (by simp))
  |str j=>obtain⟨t',rfl⟩:=J;exact PySem.EqNone.eq_none_str (df I q (by simp))
  |_=>exact absurd (L) aaT
 |bl i=>
  subst M;cases y with
  |iB=>subst J;exact PySem.EqNone.eq_bool_none (df I q (by simp))
  |bl j=>subst J;exact eq_bool (df I q T6)
  |str j=>obtain⟨t',rfl⟩:=J;exact PySem.EqMixed.eq_bool_str (df I q (by simp))
  |_=>exact absurd (show false=true from L) aaT
 |int i=>
  obtain⟨t,rfl⟩:=M;cases y with
  |iB=>subst J;exact PySem.EqNone.eq_int_none (df I q (by simp))
  |int j=>obtain⟨t',rfl⟩:=J;exact eq_int (df I q Ox)
  |str j=>obtain⟨t',rfl⟩:=J;exact PySem.EqMixed.eq_int_str (df I q (by rfl))
  |_=>exact absurd (show false=true from L) aaT
 |str i=>
  obtain⟨t,rfl⟩:=M;cases y with
  |iB=>subst J;exact PySem.EqNone.eq_str_none (df I q (by rfl))
  |bl j=>subst J;exact PySem.EqMixed.eq_str_bool (df I q (by rfl))
  |int j=>obtain⟨t',rfl⟩:=J;exact PySem.EqMixed.eq_str_int (df I q (by rfl))
  |str j=>obtain⟨t',rfl⟩:=J;exact eq_str (df I q Ow)
  |_=>exact absurd (show false=true from L) aaT
 |KY i=>
  obtain⟨t,rfl⟩:=M;cases y with
  |KY j=>obtain⟨t',rfl⟩:=J;exact PySem.W.eq_bytes (df I q Oy)
  |_=>exact absurd (show false=true from L) aaT
 |_=>contradiction<;>exact absurd (show false=true from L) aaT
def Jo:xG X (compareOp .NotEq) rNe:=by
 intro nj s σ H x y v u Q I M J h;obtain⟨L,q⟩:=h;cases x with
 |iB=>
  cases M;cases y with
  |iB=>subst J;exact PySem.EqNone.ne_none_none (df I q (by simp))
  |bl j=>subst J;exact PySem.EqNone.ne_none_bool (df I q (by simp))
  |int j=>obtain⟨t',rfl⟩:=J;exact PySem.EqNone.ne_none_int (df I q (by simp))
  |str j=>obtain⟨t',rfl⟩:=J;exact PySem.EqNone.ne_none_str (df I q (by simp))
  |_=>exact absurd (L) aaT
 |bl i=>
  subst M;cases y with
  |iB=>subst J;exact PySem.EqNone.ne_bool_none (df I q (by simp))
  |bl j=>subst J;exact ne_bool (df I q (adW not T6))
  |str j=>obtain⟨t',rfl⟩:=J;exact PySem.EqMixed.ne_bool_str (df I q (by simp))
  |_=>exact absurd (show false=true from L) aaT
 |int i=>
  obtain⟨t,rfl⟩:=M;cases y with
  |iB=>subst J;exact PySem.EqNone.ne_int_none (df I q (by simp))
  |int j=>obtain⟨t',rfl⟩:=J;exact ne_int (df I q (adW not Ox))
  |str j=>obtain⟨t',rfl⟩:=J;exact PySem.EqMixed.ne_int_str (df I q (by rfl))
  |_=>exact absurd (show false=true from L) aaT
 |str i=>
  obtain⟨t,rfl⟩:=M;cases y with
  |iB=>subst J;exact PySem.EqNone.ne_str_none (df I q (by rfl))
  |bl j=>subst J;exact PySem.EqMixed.ne_str_bool (df I q (by rfl))
  |int j=>obtain⟨t',rfl⟩:=J;exact PySem.EqMixed.ne_str_int (df I q (by rfl))
  |str j=>obtain⟨t',rfl⟩:=J;exact ne_str (df I q (adW not Ow))
  |_=>exact absurd (show false=true from L) aaT
 |KY i=>
  obtain⟨t,rfl⟩:=M;cases y with
  |KY j=>obtain⟨t',rfl⟩:=J;exact PySem.W.ne_bytes (df I q (adW not Oy))
  |_=>exact absurd (show false=true from L) aaT
 |_=>contradiction<;>exact absurd (show false=true from L) aaT
def AM:xG X (compareOp .Lt) (EH fun i j=>.bl (decide (i < j))):=Wf fun _ _ _ _ _ _ _ q=>lt_int q
def yH:xG X (compareOp .LtE) (EH fun i j=>.bl (decide (i<=j))):=Wf fun _ _ _ _ _ _ _ q=>le_int q
def wR:xG X (compareOp .Gt) (EH fun i j=>.bl (decide (j < i))):=Wf fun _ _ _ _ _ _ _ q=>gt_int q
def iG:xG X (compareOp .GtE) (EH fun i j=>.bl (decide (j<=i))):=Wf fun _ _ _ _ _ _ _ q=>ge_int q
def SH (b:Expr)(h:op≠.In:=by decide)(h2:op≠.NotIn:=by decide):behindInMarks op b=false:=by
 have L:(op==CmpOp.In)=false:=by grind
 have J:(op==CmpOp.NotIn)=false:=by grind
 cases b<;>simp[behindInMarks,L,J]
def Wb (O:xG X (compareOp op) r)(Z:PE X a ta)(Y:PE X b tb)(U:behindInMarks op b=false):PE X (.Compare a [op] [b] pos) (il r ta tb):=by
 intro _ s σ H Q I h;exact wpAny_Compare1 (binT Z Y I h fun v u J x y H2 I2 M L q=>O _ J σ H2 x y v u Q I2 M L q) U
def Rl (t:TE):TT:=fun σ H Q=>t σ H fun x H'=>∃k,x=.bl k/\Q k H'
def V0 (ho:xG X (compareOp op) r)(ha:PE X a ta)(hb:PE X b tb)(hm:behindInMarks op b=false):PT X (.Compare a [op] [b] pos) (Rl (il r ta tb)):=by
 intro _ s σ H Q I h;refine wpAny_isTrue_Compare1 (gk (ha _ s σ H _ I h) fun v L ⟨x,H1,I1,O,Z⟩=>gk (hb _ L σ H1 _ I1 Z) fun u J ⟨y,H2,I2,r2,Y⟩=>
  gk (ho _ J σ H2 x y v u _ I2 O r2 Y) fun c s3 ⟨z,H3,I3,M,k,e,U⟩=> ?_) hm
 subst e;subst M;exact aeA ⟨H3,I3,U⟩
def GJ:(sizeLine:Nat) < 2^63:=by decide
def vals1 (r:Vals [x] us):∃u,us=[u]/\RelV x u:=by
 cases r with
 |cons J r2=>cases r2;simp[*]
def vals2 (r:Vals [x,y] us):∃u J,us=[u,J]/\RelV x u/\RelV y J:=by
 cases r with
 |cons O r2=>
  cases r2 with
  |cons M L=>cases L;exact⟨_,_,rfl,O,M⟩
def QE (hc:X.calm=true):jB X (.builtin "min") (fun xs H Q=>∃i j,xs=[.int i,.int j]/\Q (.int (if j < i then j else i)) H):=by
 intro _ s σ H xs us Q I r h;obtain⟨i,j,rfl,q⟩:=h;obtain⟨u,L,rfl,⟨t,rfl⟩,⟨t',rfl⟩⟩:=vals2 r;refine min_two_ints (I.ok.hd hc) fun h' tk k=>⟨_,H,I.kept k, ?_,q⟩
 by_cases J:j < i
 .rw[ad3 J,ad3 J];exact⟨_,rfl⟩
 .rw[ad2 J,ad2 J];exact⟨_,rfl⟩
end
end L2
namespace L2
open PySem PySem.Spec PyProof.Rows
structure Nv (h:Heap)(x dx C:dr)(mA:gp):Prop where
 obj:h.get? x=some (PySem.W.instObj C dx)
 ns:h.Ns1 dx mA
 ne:dx≠x
def P9 {h:Heap}(n:h.Ns1 dx mA):∃L,h.get? dx=some L/\ ∀name,PySem.W.lookIn name L=some (mA name):=by
 obtain⟨o,es,ep,O,hd,Y,_,U⟩:=n;refine⟨o,O,fun name=> ?_⟩;have e:=U name;unfold nsFind findBy at e;rw[<- Array.find?_toList] at e;delta PySem.W.lookIn;rw[hd];dsimp only;split
 .grind
 .rename_i q;have a:es.toList.any (·.refKey)=false:=by
   rw[List.any_eq_false];intro y M;obtain⟨z,t,J⟩:=Y y (Array.mem_toList_iff.mp M);simp[DictEntry.refKey,J]
  grind
def Nv.look (I:Nv h x dx C mA):∃J,PySem.W.InstAt h x (PySem.W.instObj C dx) C (some J)/\ ∀name,PySem.W.lookIn name J=some (mA name):=
 let⟨J,L,M⟩:=P9 I.ns
 ⟨J,⟨I.obj,rfl,rfl,L⟩,M⟩
section
variable {prog:dn}{w:fx}{A:eu}{E:ee->cq->Prop}{s:cq}{K:b0}{x dx C f:dr}{mA:gp}{name:Str}{v:ee}
def get_map (X:K.In s.heap)(I:Nv s.heap x dx C mA)(M:PySem.W.plainGet K C name=true)(hh:PySem.W.hasDictIn K C=true)
  (O:PySem.W.findIn K (.ref C) name=some none) (Y:mA name=some v) (L:PySem.W.handedIn v=true) (h:Q v {s with toks:=s.toks+1}):
  wpAny (model prog w) A (getAttr (.ref x) name expr) Q E s:=by
 obtain⟨U,J,Z⟩:=I.look;exact PySem.W.get_value X J (adR M).1 (PySem.W.findObj_own hh O rfl (by simp[*])) L h
def Tv (X:K.In s.heap)(I:Nv s.heap x dx C mA)(L:PySem.W.plainGet K C name=true)
  (Z:PySem.W.findIn K (.ref C) name=some (some (.ref f))) (U:PySem.W.isFn K (.ref f)=true) (O:mA name=none) (h:Q (.ref f,[.ref x]) s):
  wpAny (model prog w) A (getMethod (.ref x) name pl) Q E s:=by
 obtain⟨M,J,Y⟩:=I.look;exact PySem.W.method_fn X J (adR L).1 (adR L).2 Z (adT.mp U) (by show(PySem.W.lookIn _ M).map _=some false;rw[Y,O];rfl) h
def VE (X:K.In s.heap)(I:Nv s.heap x dx C mA)
  (hs:PySem.W.findIn K (.ref C) "__setattr__"=some (some (.builtin "object.__setattr__"))) (hp:PySem.W.plainOver K C=true) (ht:PySem.W.takerIn K C name=some none) (hh:PySem.W.hasDictIn K C=true)
  (hw:PySem.Within mA ns) (hsz:ns.length<=sizeLine)
  (h:∀h',Nv h' x dx C (fun y=>if y=name then some v else mA y)->Heap.SameBut dx s.heap h'->Q () {s with heap:=h',toks:=s.toks+2}):
  wpAny (model prog w) A (setAttr (.ref x) name v) Q E s:=by
 obtain⟨od,J,hl⟩:=I.look;refine PySem.W.set_plain X J hs (PySem.W.osa_open X J hp ht fun b=> ?_);obtain⟨cd,hc,Y⟩:=PySem.W.any_some hh;have hx:=I.obj;refine aei (aet (aei (aei (wpAny_loadPart hx (aei (PySem.W.Looks.here (PySem.W.looks_clsIn X hc) ?_))))));rw[Y];refine aet (aei (aet (aei ?_)));refine wpAny_nsSet1 I.ns fun h' M L=> ?_
 obtain⟨oD,esD,epD,O,U,Z⟩:=M.count (PySem.Within.cons _ v hw);refine aei (wpAny_lookBehind O (by rw[U];exact pastItsLine_dict (adb Z (by simp[*]))) ?_);exact aet (h _ ⟨(L.2 _ (Ne.symm I.ne)).trans I.obj,M,I.ne⟩ L)
def SW (X:K.In s.heap)(J:PySem.W.makesIn K C=true)
  (hi:PySem.W.findIn K (.ref C) "__init__"=some (some (.ref f))) (L:PySem.W.typeIn K (.ref f)=some (.type "function"))
  (h:codeAny (model prog w) (A.under (.builtin "type.__call__" ⟨.ref C::vs,kw⟩)) (.call (.ref f) ⟨.ref (s.heap.objs.size+1)::vs,kw⟩) (PySem.W.InitBack (s.heap.objs.size+1) R)
   {s with heap:=(s.heap.push PySem.W.emptyDict).push (PySem.W.instObj C s.heap.objs.size)}):
  codeAny (model prog w) A (.call (.ref C) ⟨vs,kw⟩) R s:=by
 exact PySem.W.make_core (PySem.W.makes_of X J) (PySem.W.looks_findIn X hi) (fun _=>PySem.W.bind_fn X _ L) (.inl rfl) h
end
def nP (f:Str)(v:V):List (Str×V)->List (Str×V)
 |[]=>[(f,v)]
 |(g,x)::r=>if g=f then(g,v)::r else(g,x)::nP f v r
def yM (f g:Str)(v:V):∀fs:List (Str×V),(nP f v fs).lookup g=if g=f then some v else fs.lookup g
 |[]=>by
  show List.lookup g [_]=_
  grind
 |(k,x)::r=>by
  have J:=yM f g v r;rw[show nP f v _=(if k=f then _::r else _::nP f v r) from rfl]
  grind
def ya (f:Str)(v:V):∀fs:List (Str×V),f∈(nP f v fs).map (·.1)/\ ∀g,g∈fs.map (·.1)->g∈(nP f v fs).map (·.1)
 |[]=>⟨by simp[nP],fun g h=>by simp at h⟩
 |(k,x)::r=>by
  obtain _:=ya f v r;rw[show nP f v _=(if k=f then _::r else _::nP f v r) from rfl]
  grind
def yO (f:Str)(v:V):∀fs:List (Str×V),(nP f v fs).length<=fs.length+1
 |[]=>by simp[nP]
 |(k,x)::r=>by
  have J:=yO f v r;rw[show nP f v _=(if k=f then _::r else _::nP f v r) from rfl]
  grind
def yu.some_of (r:yu (some v) o):∃u,o=some u/\RelV v u:=by
 cases o with
 |none=>exact(r).elim
 |_ u=>exact⟨u,rfl,r⟩
def yu.none_of (r:yu none o):o=none:=by
 cases o with
 |none=>rfl
 |_ u=>exact(r).elim
def Qh (r:RelV v u):PySem.W.handedIn u=true:=by
 cases v with
 |iB=>cases(r);rfl
 |bl b=>cases(r);rfl
 |int i=>obtain⟨t,e⟩:=(r);subst e;rfl
 |str x=>obtain⟨t,e⟩:=(r);subst e;rfl
 |KY b=>obtain⟨t,e⟩:=(r);subst e;rfl
 |flt b=>obtain⟨t,e⟩:=(r);subst e;rfl
 |ref a=>cases(r);rfl
 |ty n=>cases(r);rfl
section
variable {P:dn}{w:fx}{H H':Hp}{h h':Heap}{a C dx:dr}{fs fs':List (Str×V)}
def GL (cK:rk P w H h)(e:H a=some (.ins C dx fs)):∃mA,Nv h a dx C mA/\(∀f,yu (fs.lookup f) (mA f))/\PySem.Within mA (fs.map (·.1))/\fs.length<=1000/\H dx=some (.own a):=by
 obtain⟨d,z,ne,ob,mA,n,r,q⟩:=(cK a _ e)
 exact⟨mA,⟨ob,n,ne⟩,r,q,z,d⟩
end
structure uD (K:b0)(C:dr):Prop where
 pg:PySem.W.plainGet K C Str.empty=true
 hd:PySem.W.hasDictIn K C=true
 po:PySem.W.plainOver K C=true
 sa:PySem.W.findIn K (.ref C) "__setattr__"=some (some (.builtin "object.__setattr__"))
def uD.get {K:b0}(c:uD K C)(f:Str):PySem.W.plainGet K C f=true:=c.pg
def bY (K:b0)(C:dr)(f:Str):Prop:=PySem.W.findIn K (.ref C) f=some none
def bY.taker {K:b0}(n:bY K C f):PySem.W.takerIn K C f=some none:=by
 unfold PySem.W.takerIn;rw[show PySem.W.findIn K _ f=some _ from n];rfl
structure Meth (K:b0)(C:dr)(m:Str)(f:dr):Prop where
 at_:PySem.W.findIn K (.ref C) m=some (some (.ref f))
 fn:PySem.W.isFn K (.ref f)=true
 kp:PySem.W.keepIn K (.ref f)=true
section
variable {X:Cx}{nj:kB}{σ:St}{H:Hp}{s:cq}{a C dx:dr}{fs:List (Str×V)}{f:Str}{v:V}{A:eu}{E:ee->cq->Prop}
def ML (I:Inv X nj σ H s)(e:H a=some (.ins C dx fs))(c:uD X.K C)(n:bY X.K C f)(l:fs.lookup f=some v)
  (h:∀u s',Inv X nj σ H s'->RelV v u->Q u s'):wpAny (model X.prog X.w) A (getAttr (.ref a) f b) Q E s:=by
 obtain⟨mA,O,r,_,_,_⟩:=GL I.cK e;obtain⟨u,L,J⟩:=yu.some_of (by rw[<- l];exact r f);exact get_map I.DX O (c.get f) c.hd n L (Qh J) (h u _ (I.tok _) J)
def BU (I:Inv X nj σ H s)(e:H a=some (.ins C dx fs))(c:uD X.K C)(k:Meth X.K C m g)(l:fs.lookup m=none)
  (h:Q (.ref g,[.ref a]) s):wpAny (model X.prog X.w) A (getMethod (.ref a) m pl) Q E s:=by
 obtain⟨mA,O,r,_,_,_⟩:=GL I.cK e;have J:=yu.none_of (by rw[<- l];exact r m);exact Tv I.DX O (c.get m) k.at_ k.fn J h
def LN (I:Inv X nj σ H s)(e:H a=some (.ins C dx fs))(c:uD X.K C)(n:bY X.K C f)(hl:fs.length < 1000)(Y:RelV y u)
  (h:∀s',Inv X nj σ (upd H a (.ins C dx (nP f y fs))) s'->Q () s'):wpAny (model X.prog X.w) A (setAttr (.ref a) f u) Q E s:=by
 obtain⟨mA,O,r,L,_,M⟩:=GL I.cK e;have Z:(fs.map (·.1)).length<=sizeLine:=by rw[aca,sizeLine_eq];lia
 refine VE I.DX O c.sa c.po n.taker c.hd L Z fun h' J U=>h _ ?_
 have hd:∃o,h'.get? dx=some o:=let⟨o,_,_,e',_⟩:=J.ns;⟨o,e'⟩;refine I.write (by rw[e];exact True.intro) (.inr M) (fun b q hb z=>(U.2 b hb).trans z) hd ?_;refine⟨by rw[ax O.ne];exact M, ?_,O.ne,J.obj,_,J.ns,fun g=> ?_,fun g hg=> ?_⟩
 .have:=yO f y fs;lia
 .show yu _ _
  rw[yM]
  by_cases q:g=f
  .rw[ad3 q,ad3 q];exact Y
  .grind
 .by_cases q:g=f
  .rw[q];exact(ya f y fs).1
  .refine (ya f y fs).2 g (L g fun z=>hg ?_)
   lia
def Inv.made (I:Inv X nj σ H s):Inv X nj σ (upd (upd H s.heap.objs.size (.own (s.heap.objs.size+1))) (s.heap.objs.size+1) (.ins C s.heap.objs.size []))
  {s with heap:=(s.heap.push PySem.W.emptyDict).push (PySem.W.instObj C s.heap.objs.size)}:=by
 have J:(s.heap.push _).get? _=some PySem.W.emptyDict:=aa7 _ rfl;have U:=by
  have:=aa7 (s.heap.push PySem.W.emptyDict) (o:=PySem.W.instObj C s.heap.objs.size) rfl
  rwa [aba] at this
 have O:(s.heap.push _).Ns _ _:=⟨PySem.W.emptyDict,#[],_,J,rfl,(fun e M=>absurd M (by simp)),fun _=>rfl⟩
 have Y:=I.laid (o:=.own (s.heap.objs.size+1)) (t':=s.toks) (fun b u q=>aa6 _ q) (ac_ _) ⟨_,J⟩;refine Y.laid (fun b u q=>aa6 _ q) (ac7 (aba _ _)) ?_;have ne:s.heap.objs.size≠_+1:=adp (adj _);refine⟨by rw[ax ne,ah],adz _,ne,U,fun _=>none,(Heap.Ns1.of_empty O).at fun o q=>aa6 _ q,fun _=>True.intro,fun y L=>absurd rfl L⟩
def XD (L:attributeBase e f env (eval e env)=eval e env)
  (h:wpAny (model prog w) A (eval e env) (fun o J=>wpAny (model prog w) A (getAttr o f true) Q E J) E s):wpAny (model prog w) A (eval (.Attribute e f pos) env) Q E s:=
 Attribute_any_ h (by rw[arm_eval_Attribute,L])
end
def jF (K:b0)(ta:TE)(f:Str):TE:=fun σ H Q=>ta σ H fun x H1=>∃a C dx fs v,x=.ref a/\H1 a=some (.ins C dx fs)/\uD K C/\bY K C f/\fs.lookup f=some v/\Q v H1
def FX (K:b0)(ta tv:TE)(f:Str):TS:=fun D σ H=>tv σ H fun y H1=>ta σ H1 fun x H2=>∃a C dx fs,x=.ref a/\H2 a=some (.ins C dx fs)/\uD K C/\bY K C f/\fs.length < 1000/\
 D.nx σ (upd H2 a (.ins C dx (nP f y fs)))
section
variable {X:Cx}{o e value:Expr}{f:Str}{pos pos' tpos:Pos}{ta tv:TE}
def ZL (M:PE X e ta)(O:attributeBase e f X.env (eval e X.env)=eval e X.env):PE X (.Attribute e f pos) (jF X.K ta f):=by
 intro _ s σ H Q I h;refine XD O (gk (M _ s σ H _ I h) fun u s1 z0=> ?_);obtain⟨x,H1,Y,J,a,C,dx,fs,v,ex,ea,c,n,l,q⟩:=z0;subst ex;obtain rfl:u=Value.ref a:=J;exact ML Y ea c n l fun Z s2 U L=>⟨v,H1,U,L,q⟩
def ZE (ha:PE X o ta)(Y:PE X value tv)(Z:swapsWith value (some (.Attribute o f pos')) pos.line X.env=pure false):PS X (.Assign [.Attribute o f pos'] value pos) (FX X.K ta tv f):=by
 intro _ s σ H D I h;refine plainObj_wpAny_Assign_Attribute (gk (Y _ s σ H _ I h) fun u J ⟨y,H1,I1,L,q⟩=>gk (ha _ J σ H1 _ I1 q) fun U s2 ⟨x,H2,I2,M,a,C,dx,fs,ex,ea,c,n,l,O⟩=> ?_) Z;subst ex;obtain rfl:U=Value.ref a:=M;exact LN I2 ea c n l L fun s3 I3=>⟨σ,_,I3,O⟩
end
section
variable {X:Cx}{nj:kB}{σ:St}{H:Hp}{s:cq}{A:eu}{E:ee->cq->Prop}{Q:ee->cq->Prop}{c:ee}{b:Bool}
end
end L2
namespace L2
open PySem PySem.Spec PyProof.Rows
structure fM (k:Nat)(A:eu):Prop where
 hd:A.handled=none
 dp:A.depth+3*k+5 < recursionLimit
 un:A.units+16*k+200 < cLine
def fM.mono (r:fM k A)(h:j<=k):fM j A:=⟨r.hd,by have:=r.dp;lia,by have:=r.un;lia⟩
def fM.deeper (r:fM (k+1) A)(env:Env):fM k (A.deeper env):=
 ⟨r.hd,by have:=r.dp;show _+1+3*k+5 < _;lia,by have:=r.un;show _+3+16*k+200 < _;lia⟩
def fM.in1 (r:fM (k+1) A):fM k A.in1:=
 ⟨r.hd,by have:=r.dp;show A.depth+3*k+5 < _;lia,by have:=r.un;show _+1+16*k+200 < _;lia⟩
def Mr {A:eu}:(A.under (.builtin "type.__call__" ⟨.ref C::us,kw⟩)).depth=A.depth+1:=by
 rfl
def Mq {A:eu}:(A.under (.builtin "type.__call__" ⟨.ref C::us,kw⟩)).units=A.units+1:=by
 rfl
def fM.make (r:fM (k+1) A)(C:dr)(us:kA)(J:List (Str×ee)):fM k (A.under (.builtin "type.__call__" ⟨.ref C::us,J⟩)):=
 ⟨r.hd,by have:=r.dp;rw[Mr];lia,by have:=r.un;rw[Mq];lia⟩
def fM.depth (r:fM k A):A.depth < recursionLimit:=by have:=r.dp;lia
def fM.units (r:fM k A):A.units+64 < cLine:=by have:=r.un;lia
def fV:TA:=fun _ H Q=>Q [] H
def bO (ta:TE)(tr:TA):TA:=fun σ H Q=>ta σ H fun x H1=>tr σ H1 fun xs H2=>Q (x::xs) H2
section
variable {X:Cx}{e:Expr}{es:List Expr}{te:TE}{t:TA}{pos:Pos}
def eU:PA X [] fV:=fun _ _ _ _ H Q I h=>aaZ ⟨[],H,I,.nil,h⟩
def gG (Z:PE X e te)(Y:PA X es t)(U:starEach (e::es) X.env=(false,eval e X.env)::starEach es X.env:=by rfl):PA X (e::es) (bO te t):=by
 intro pos _ s σ H Q I h;rw[U];refine aaY (gk (Z _ s σ H _ I h) fun u J z0=> ?_);obtain⟨x,H1,I1,L,O⟩:=z0;exact gk (Y pos _ J σ H1 _ I1 O) fun us s2 ⟨xs,H2,I2,r2,M⟩=>⟨x::xs,H2,I2,.cons L r2,M⟩
def LK (t:TA):TE:=fun σ H Q=>t σ H fun xs H1=>xs.length<=sizeLine/\ ∀p,H1 p=none->Q (.ref p) (upd H1 p (.tup xs))
def FI (t:TA):TE:=fun σ H Q=>t σ H fun xs H1=>xs.length<=sizeLine/\ ∀p,H1 p=none->Q (.ref p) (upd H1 p (.lst xs))
def oJ (h:PA X es t):PE X (.Tuple es x1 pos) (LK t):=by
 intro _ s σ H Q I M;refine wpAny_Tuple_spliced (gk (h pos _ s σ H _ I M) fun us L ⟨xs,H1,J,r,z,q⟩=>⟨by rw[<- r.length];exact z, ?_⟩);have O:=J.cK.fresh (ac_ _);refine⟨.ref L.heap.objs.size,upd H1 _ _,J.laid (fun b u e=>aa6 _ e) (ac_ _) ?_,rfl,q _ O⟩;exact⟨z,us,r,⟨_,aa7 _ rfl,rfl,_,rfl⟩⟩
def az (h:PA X es t):PE X (.List es pos) (FI t):=by
 intro _ s σ H Q I M;refine wpAny_List_spliced (gk (h pos _ s σ H _ I M) fun us L ⟨xs,H1,J,r,z,q⟩=>⟨by rw[<- r.length];exact z, ?_⟩);have O:=J.cK.fresh (ac_ _);refine⟨.ref L.heap.objs.size,upd H1 _ _,J.laid (fun b u e=>aa6 _ e) (ac_ _) ?_,rfl,q _ O⟩;exact⟨z,us,0,r,aa7 _ rfl⟩
end
abbrev Sp:=List V->Hp->VK->XK->Prop
abbrev CXT:=List Env->Hp->cq->XK->ee->cq->Prop
structure NB (P:dn)(w:fx)(K:b0)(mg:gp)(base:Heap)(A:eu)(outer:List Env)(s:cq)(H:Hp):Prop where
 frames:A.frames=some outer
 mod:Mod K mg base
 bs:∀b o,base.get? b=some o->s.heap.get? b=some o/\H b=none
 QG:base.objs.size<=s.heap.objs.size
 xk:s.heap.FunFrames base outer
 WN:∀b∈Tx outer,H b=none
 cK:rk P w H s.heap
 bare:AllBare s.gens
def CE (outer:List Env)(P:dn)(w:fx)(H:Hp)(s:cq)(Q:VK)(u:ee)(s':cq):Prop:=
 ∃v H',s'.os=s.os/\AllBare s'.gens/\Un (Tx outer) [] H H' s.heap s'.heap/\rk P w H' s'.heap/\RelV v u/\Q v H'
def CR (CX:CXT)(outer:List Env)(P:dn)(w:fx)(H:Hp)(s:cq)(Q:VK)(E:XK)(r:Result)(s':cq):Prop:=
 match r with
 | .ok (.ret u)=>CE outer P w H s Q u s'
 | .ok _=>False
 | .error e=>CX outer H s E e s'
structure fA (P:dn)(w:fx)(K:b0)(mg:gp)(base:Heap)(CX:CXT)(k:Nat)(f:dr)(fd:c5)(ps:ky)(sp:Sp):Prop where
 len:∀vs H Q E,sp vs H Q E->vs.length=ps.length
 run:∀(A:eu) (outer:List Env) (s:cq) (H:Hp) (args:Args) (us:kA) (vs:List V) (Q:VK) (E:XK),fM k A->NB P w K mg base A outer s H->BindsTo s fd args (ps.zip us)->Vals vs us->sp vs H Q E->
  codeAny (model P w) A (.call (.ref f) args) (CR CX outer P w H s Q E) s
def fA.mono {K:b0}(F:fA P w K mg base CX j f fd ps sp)(h:j<=k):
  fA P w K mg base CX k f fd ps sp:=⟨F.len,fun A _ s H _ us vs Q E J=>F.run A _ s H _ us vs Q E (J.mono h)⟩
def fA.imp {K:b0}(F:fA P w K mg base CX k f fd ps sp)
  (h:∀vs H Q E,sp' vs H Q E->sp vs H Q E):fA P w K mg base CX k f fd ps sp':=
 ⟨fun vs H Q E q=>F.len vs H Q E (h _ _ _ _ q),fun A _ s H _ us vs Q E M O U J L=>F.run A _ s H _ us vs Q E M O U J (h _ _ _ _ L)⟩
def NB.make {K:b0}(e:NB P w K mg base A outer s H)(C:dr)(us:kA)(J:List (Str×ee)):
  NB P w K mg base (A.under (.builtin "type.__call__" ⟨.ref C::us,J⟩)) outer s H:=⟨by first|exact _|(simpa [Around.under,Code.envs,Code.isFrame,pushEnvs] using e.frames),e.mod,e.bs,e.QG,e.xk,e.WN,e.cK,e.bare⟩
section
variable {X:Cx}{nj:kB}{σ:St}{H:Hp}{s s':cq}
def Inv.aav (I:Inv X nj σ H s):NB X.prog X.w X.K X.mg X.base X.A X.stack s H:=
 ⟨I.ok.frames,I.ok.mod,I.bs,adb I.ok.QG I.sz,I.stack,I.FJ,I.cK,I.bare⟩
def Inv.after (I:Inv X nj σ H s)(h:CE X.stack X.prog X.w H s Q u s'):EP X nj σ Q u s':=by
 obtain⟨v,H',os,bare,un,cK,r,q⟩:=h;obtain⟨hh,g,d,t,J⟩:=s';obtain rfl:J=s.os:=os;exact⟨v,H',I.call un cK bare (fun b z=>absurd z (by simp)),r,q⟩
end
def s_ (sp:Sp)(dvs:List V)(E:XK)(t:TA):TE:=fun σ H Q=>t σ H fun vs H1=>sp (vs++dvs) H1 Q E
def Yb (C:dr)(m:Str)(sp:Sp)(dvs:List V)(E:XK)(ta:TE)(t:TA):TE:=fun σ H Q=>ta σ H fun x H1=>∃a dx fs,x=.ref a/\H1 a=some (.ins C dx fs)/\fs.lookup m=none/\
 t σ H1 fun vs H2=>sp (x::(vs++dvs)) H2 Q E
def Ez (C:dr)(sp:Sp)(dvs:List V)(E:XK)(t:TA):TE:=fun σ H Q=>t σ H fun vs H1=>∀x dx,H1 x=none->H1 dx=none->dx≠x->
 sp (.ref x::(vs++dvs)) (upd (upd H1 dx (.own x)) x (.ins C dx [])) (fun v H2=>v=.iB/\Q (.ref x) H2) E
def Binds (K:b0)(fd:c5)(ps:ky)(ds:kA):Prop:=
 ∀(s:cq) (us:kA),K.In s.heap->(us++ds).length=ps.length->BindsTo s fd ⟨us,[]⟩ (ps.zip (us++ds))
def Binds.all {K:b0}(h:∀us:kA,us.length=ps.length->bindArgs fd ⟨us,[]⟩=pure (ps.zip us)):Binds K fd ps []:=fun s us _ J=>by
 rw[abA] at J ⊢;exact .of_eq (h us J)
def Passes (CX:CXT)(X:Cx)(E:XK):Prop:=∀(nj:kB) (σ:St) (H:Hp) (s:cq) (e:ee) (s':cq),Inv X nj σ H s->CX X.stack H s E e s'->X.xe e s'
section
variable {X:Cx}{CX:CXT}{k:Nat}{f C:dr}{fd:c5}{ps:ky}{sp:Sp}{dvs:List V}{ds:kA}{E:XK}{x m:Str}{p pos apos:Pos}{e o:Expr}{es:List Expr}{ta:TE}{t:TA}
def LY (F:fA X.prog X.w X.K X.mg X.base CX k f fd ps sp)(M:fM k X.A)(U:Binds X.K fd ps ds)(hd:Vals dvs ds)(L:Passes CX X E)
  (I:Inv X nj σ H s) (r:Vals vs us) (h:sp (vs++dvs) H Q E):wpAny (model X.prog X.w) X.A (call (.ref f) us) (EP X nj σ Q) X.xe s:=by
 have r2:=r.append hd;have O:(us++ds).length=ps.length:=by rw[<- r2.length];exact F.len _ _ _ _ h
 refine aej (adV (F.run X.A _ s H _ _ _ Q E M I.aav (U s us I.DX O) r2 h) fun r s' J=> ?_);cases r with
 |error e=>exact L _ σ H s e s' I J
 |ok Y=>
  cases Y with
  |ret u=>exact I.after J
  |next=>assumption
  |brk=>assumption
  |_=>assumption
def Wc (F:fA X.prog X.w X.K X.mg X.base CX k f fd ps sp)(U:fM k X.A)(hg:Gl X x)(Y:X.mg x=some (.ref f))(Z:PySem.W.keepIn X.K (.ref f)=true)(hb:Binds X.K fd ps ds)(hd:Vals dvs ds)(O:Passes CX X E)
  (ha:PA X (e::es) t) (L:(x==("__debug__":Str))=false:=by decide) (he:starEach (e::es) X.env=(false,eval e X.env)::starEach es X.env:=by rfl) (J:(backTo pos (starEach es X.env)).any (·.1)=false:=by rfl):
  PE X (.Call (.Name x p) (e::es) [] pos) (s_ sp dvs E t):=by
 intro _ s σ H Q I h;refine aeh (uY I hg Y ?_ L);refine adN I.ok.mod.kin Z (gk (ha pos _ s σ H _ I h) fun us s1 ⟨vs,H1,M,r,q⟩=>⟨M.DX, ?_⟩) he J;exact LY F U hb hd O M r q
def V8 (he:PE X o ta)(c:uD X.K C)(M:Meth X.K C m f)(F:fA X.prog X.w X.K X.mg X.base CX k f fd ps sp)(hr:fM k X.A)(hb:Binds X.K fd ps ds)(hd:Vals dvs ds)(hx:Passes CX X E)(ha:PA X (e::es) t)
  (J:starEach (e::es) X.env=(false,eval e X.env)::starEach es X.env:=by rfl) (L:(backTo pos (starEach es X.env)).any (·.1)=false:=by rfl)
  (ht:eval (.Call (.Attribute o m apos) (e::es) [] pos) X.env=(do
   let ov <- eval o X.env
   standAt apos.atName
   let(f,first) <- holding [ov] (getMethod ov m pl)
   callWith pos f first (backTo pos (starEach (e::es) X.env)) (backToKw pos (keywordEach [] X.env))):=by rfl):
  PE X (.Call (.Attribute o m apos) (e::es) [] pos) (Yb C m sp dvs E ta t):=by
 intro _ s σ H Q I h;refine PySem.W.methodCall_KW (gk (he _ s σ H _ I h) fun u Y ⟨x,H1,U,Z,a,dx,fs,ex,ea,l,q⟩=> ?_) ht;subst ex;obtain rfl:u=Value.ref a:=Z;refine BU U ea c M l ?_;refine adN I.ok.mod.kin M.kp (gk (ha pos _ Y σ H1 _ U q) fun us s2 ⟨vs,H2,O,r,q2⟩=>⟨O.DX, ?_⟩) J L;exact LY (vs:=.ref a::vs) F hr hb hd hx O (.cons rfl r) q2
structure Mk (K:b0)(C f:dr):Prop where
 makes:PySem.W.makesIn K C=true
 init:PySem.W.findIn K (.ref C) "__init__"=some (some (.ref f))
 fn:PySem.W.isFn K (.ref f)=true
 kp:PySem.W.keepIn K (.ref C)=true
def IY (M:Mk X.K C f)(F:fA X.prog X.w X.K X.mg X.base CX k f fd ps sp)(hr:fM (k+1) X.A)(hb:Binds X.K fd ps ds)(hd:Vals dvs ds)
  (Z:Passes CX X E) (I:Inv X nj σ H s) (r:Vals vs us)
  (h:∀x dx,H x=none->H dx=none->dx≠x->sp (.ref x::(vs++dvs)) (upd (upd H dx (.own x)) x (.ins C dx [])) (fun v H2=>v=.iB/\Q (.ref x) H2) E):
  wpAny (model X.prog X.w) X.A (call (.ref C) us) (EP X nj σ Q) X.xe s:=by
 have O:=h _ _ (I.cK.fresh (ada _)) (I.cK.fresh (ac_ _)) (adp (adj _));have L:=Inv.made (C:=C) I;have r2:Vals (V.ref (s.heap.objs.size+1)::_) _:=.cons rfl (r.append hd);have hl:=by
  have e:=r2.length;rw[F.len _ _ _ _ O] at e;exact e.symm
 refine aej (SW I.DX M.makes M.init (adT.mp M.fn) (adV (F.run _ _ _ _ _ _ _ _ E (hr.make C us [])
  (L.aav.make C us []) (hb _ _ L.DX hl) r2 O) fun r s' J=> ?_))
 cases r with
 |error e=>exact Z _ σ _ _ e s' L J
 |ok fl=>
  cases fl with
  |ret u=>
   obtain⟨v,H',I3,U,ev,Y⟩:=L.after J;subst ev;exact⟨U,⟨V.ref _,H',I3,rfl,Y⟩⟩
  |next=>assumption
  |brk=>assumption
  |_=>assumption
def Wa (M:Mk X.K C f)(F:fA X.prog X.w X.K X.mg X.base CX k f fd ps sp)(Y:fM (k+1) X.A)(hg:Gl X x)(Z:X.mg x=some (.ref C))(hb:Binds X.K fd ps ds)(hd:Vals dvs ds)(U:Passes CX X E)
  (ha:PA X (e::es) t) (L:(x==("__debug__":Str))=false:=by decide) (he:starEach (e::es) X.env=(false,eval e X.env)::starEach es X.env:=by rfl) (J:(backTo pos (starEach es X.env)).any (·.1)=false:=by rfl):
  PE X (.Call (.Name x p) (e::es) [] pos) (Ez C sp dvs E t):=by
 intro _ s σ H Q I h;refine aeh (uY I hg Z ?_ L);refine adN I.ok.mod.kin M.kp (gk (ha pos _ s σ H _ I h) fun us s1 ⟨vs,H1,O,r,q⟩=>⟨O.DX, ?_⟩) he J;exact IY M F Y hb hd U O r q
def Ss (M:Mk X.K C f)(F:fA X.prog X.w X.K X.mg X.base CX k f fd ps sp)(O:fM (k+1) X.A)(Y:Gl X x)(U:X.mg x=some (.ref C))(Z:Binds X.K fd ps ds)(hd:Vals dvs ds)(L:Passes CX X E)
  (J:(x==("__debug__":Str))=false:=by decide):PE X (.Call (.Name x p) [] [] pos) (Ez C sp dvs E fV):=by
 intro _ s σ H Q I h;refine aeh (uY I Y U ?_ J);exact PySem.W.callWith_K0 I.DX M.kp (IY M F O Z hd L I .nil h)
end
def PK (X:Cx)(kws:List Keyword)(t:TA):Prop:=
 ∀(pos:Pos) (nj:kB) (s:cq) (σ:St) (H:Hp) (Q:List V->Hp->Prop),Inv X nj σ H s->t σ H Q->wpAny (model X.prog X.w) X.A (evalAll ((backToKw pos (keywordEach kws X.env)).map (·.2))) (AP X nj σ Q) X.xe s
section
variable {X:Cx}{CX:CXT}{k:Nat}{f C:dr}{fd:c5}{ps ks:ky}{sp:Sp}{E:XK}{x m:Str}{p pos apos kpos:Pos}{e o:Expr}{es:List Expr}{kws:List Keyword}{te ta:TE}{t tk:TA}{nm:Option Str}
def Sq:PK X [] fV:=fun _ _ _ _ H Q I h=>wpAny_evalAll_nil ⟨[],H,I,.nil,h⟩
def F8 (Y:PE X e te)(U:PK X kws t):PK X (⟨nm,e,kpos⟩::kws) (bO te t):=by
 intro pos _ s σ H Q I h;refine wpAny_evalAll_cons (aei (gk (Y _ s σ H _ I h) fun u J ⟨x,H1,I1,L,O⟩=>aei (aez (aet ?_))));exact gk (U pos _ J σ H1 _ I1 O) fun us s2 ⟨xs,H2,Z,r2,M⟩=>⟨x::xs,H2,Z,.cons L r2,M⟩
variable {g:kA->kA->kA}{gV:List V->List V->List V}
end
structure dN (N P:ky)(sc:Scope):Prop where
 kind:sc.kind=.function
 co:sc.isCoroutine=false
 gen:sc.isGenerator=false
 nd:N.Nodup
 pre:N.take P.length=P
 par:∀x∈P,sc.names.lookup x=some .local\/sc.names.lookup x=some .cell
 ZT:∀y∈sc.names,y.2≠.free
def Fc {kindOf:Str->Option NameKind}:∀{binds:List (Str×ee)} {m:gp},(∀v,(x,v)∉binds)->bindL kindOf binds m x=m x
 |[],_,_=>rfl
 |_::r,m,h=>by
  unfold bindL;rw[Fc fun w hw=>h w (acv _ hw)];split
  .grind
  .rfl
def Fe {kindOf:Str->Option NameKind}:∀{binds:List (Str×ee)} {m:gp},(∀v,(x,v)∉binds)->bindC kindOf binds m x=m x
 |[],_,_=>rfl
 |_::r,m,h=>by
  unfold bindC;rw[Fe fun w hw=>h w (acv _ hw)];split
  .rfl
  .grind
def Fd {kindOf:Str->Option NameKind}:∀{P:ky} {vs:kA} {i:Nat} {m:gp},P.Nodup->P[i]?=some x->vs[i]?=some v->kindOf x=some .local->
  bindL kindOf (P.zip vs) m x=some v
 |[],_,_,_,_,h,_,_=>by simp at h
 |_::_,[],_,_,_,_,h,_=>by simp at h
 |p::P,w::vs,0,m,nd,h1,h2,J=>by
  simp at h1 h2;subst h1;subst h2
  show bindL _ (_::P.zip vs) m p=_
  unfold bindL;rw[Fc fun v L=>(acJ.mp nd).1 (acN L).1,ad3 J];simp
 |p::P,w::vs,i+1,m,nd,h1,h2,J=>by
  unfold bindL;exact Fd (acJ.mp nd).2 (by exact h1) (by simp_all) J
def Ff {kindOf:Str->Option NameKind}:∀{P:ky} {vs:kA} {i:Nat} {m:gp},P.Nodup->P[i]?=some x->vs[i]?=some v->kindOf x≠some .local->
  bindC kindOf (P.zip vs) m x=some v
 |[],_,_,_,_,h,_,_=>by simp at h
 |_::_,[],_,_,_,_,h,_=>by simp at h
 |p::P,w::vs,0,m,nd,h1,h2,J=>by
  simp at h1 h2;subst h1;subst h2
  show bindC _ (_::P.zip vs) m p=_
  unfold bindC;rw[Fe fun v L=>(acJ.mp nd).1 (acN L).1,ad2 J];simp
 |p::P,w::vs,i+1,m,nd,h1,h2,J=>by
  unfold bindC;exact Ff (acJ.mp nd).2 (by exact h1) (by simp_all) J
def rd (N:ky)(vs:List V):St:=vs.map some++List.replicate (N.length - vs.length) none
def je (CX:CXT)(P:dn)(w:fx)(K:b0)(mg:gp)(base:Heap)(N:ky)(qual:Str)(scope:Scope)(f:dr)(cd:ee)(A:eu)(outer:List Env)(s:cq)(H:Hp)(E:XK):Cx where
 prog:=P
 w:=w
 K:=K
 mg:=mg
 base:=base
 A:=A.deeper (envOfC qual scope s.heap.objs.size f cd)
 N:=N
 Dj:=s
 H_0:=H
 env:=envOfC qual scope s.heap.objs.size f cd
 outer:=outer
 stack:=envOfC qual scope s.heap.objs.size f cd::outer
 ex:=[]
 calm:=true
 fn:=fun _=>true
 pn:=[]
 xe:=fun e s'=>wpAny (model P w) (A.deeper (envOfC qual scope s.heap.objs.size f cd)) (leaving (envOfC qual scope s.heap.objs.size f cd) e) (fun _ s''=>CX outer H s E e s'') (fun e' s''=>CX outer H s E e' s'') s'
def Cq {J:Scope}(h:J.names.lookup x=some .cell):∃c,(cellsFrom n J.names []).lookup x=some c:=by
 have q:=PySem.W.cellsFrom_some _ n [] (.inl h);exact adB.mp q
def Qd {K:b0}
  (S:dN N ps scope) (hd:A.handled=none) (J:NB P w K mg base A outer s H) (hl:vs.length=ps.length) (r:Vals vs us)
  (x:InCallC s s.heap.objs.size (bindL (envOfC qual scope s.heap.objs.size f cd).kindOf (ps.zip us) fun _=>none) (cellsFrom (s.heap.objs.size+1) scope.names []) (bindC (envOfC qual scope s.heap.objs.size f cd).kindOf (ps.zip us) fun _=>none) s1):
  Inv (je CX P w K mg base N qual scope f cd A outer s H E) [] (rd N vs) H s1:=by
 have hpl:=by have:=adW List.length S.pre;rw[ach] at this;omega
 obtain⟨h1,tk,rfl,Z⟩:=x.done;have L:∀b:dr,b∉(je CX P w K mg base N qual scope f cd A outer s H E).ex:=fun b z=>absurd (show b∈([]:List _) from z) (by simp)
 refine⟨⟨J.mod,S.kind,rfl,rfl,ac_ _,fun y z c h1 h2=> ?_,fun y M=> ?_,fun y c _ h=> ?_,fun _=>hd,Around.frames_deeper J.frames,.inr ⟨rfl,rfl⟩,fun b z=>absurd z (L b),J.bs,J.QG,fun b _ _=>L b,fun b z=>absurd z (L b),J.xk,J.WN⟩,
  rfl,J.bare,Un.kept Z,⟨_,x.toInCall.ns,fun i y v h1 h2 h3=> ?_⟩,fun y c h=>⟨_,x.cell y c h⟩,J.cK.fresh (ac_ _),fun y c h=> ?_,fun p U=>absurd (show p∈([]:List _) from U) (by simp),J.cK.kept Z, ?_⟩
 .exact name_of_addr x.apart (adS h1) (adS h2)
 .have M:=M
  rcases M with M|M
  .exact Cq M
  .exact absurd rfl (S.ZT _ (adS M))
 .exact ac8 (x.above y c (adS h))
 .have hi:i < vs.length:=by
   unfold rd at h2
   grind
  have ha:vs[i]?=some v:=by
   unfold rd at h2;rw[abV (by grind),ab0] at h2;cases e:vs[i]? with
   |none=>rw[e] at h2;contradiction
   |_ a=>rw[e] at h2;cases h2;rfl
  obtain⟨u,Y,rv⟩:=r.get ha;have U:ps[i]?=some y:=by
   rw[<- S.pre,List.getElem?_take_of_lt (by lia)];exact h1
  have O:ps.Nodup:=by rw[<- S.pre];exact S.nd.sublist (List.take_sublist _ _)
  refine⟨u,rv, ?_⟩
  rcases S.par y (acB U) with k|k
  .exact .inl ⟨k,Fd O U Y k⟩
  .obtain⟨c,e⟩:=Cq k;refine .inr ⟨.inl k,c,e, ?_⟩;have q:=x.cell y c e;rw[Ff O U Y (by show scope.names.lookup y≠_;rw[k];decide)] at q;exact q
 .exact J.cK.fresh (ac8 (x.above y c (adS h)))
 .unfold rd
  show _=N.length
  rw[ab7,aca,List.length_replicate];grind
def Yv {K:b0}{dV kV doc pm L ct oc:ee}(lk:K.lookup f=some ⟨oc,od,.func (PySem.W.fnOf name qual params body scope dV kV doc pm an L ct),osl⟩)(hcd:PySem.W.codeIn K L qual=true)(S:dN N ps scope)
  (len:∀vs H Q E,sp vs H Q E->vs.length=ps.length)
  (U:∀(A:eu) (outer:List Env) (s:cq) (H:Hp) (vs:List V) (Q:VK) (E:XK),fM k (A.deeper (envOfC qual scope s.heap.objs.size f L))->sp vs H Q E->
   ∃t,Eo (je CX P w K mg base N qual scope f L A outer s H E) body t/\t {nx:=fun _ H'=>Q .iB H',rt:=Q} (rd N vs) H):
  fA P w K mg base CX (k+1) f (PySem.W.fnOf name qual params body scope dV kV doc pm an L ct) ps sp:=by
 refine⟨len,fun A outer s H _ us vs Q E hr e0 hb r Z=> ?_⟩;have hl:=len _ _ _ _ Z;have KX:=e0.mod.kin.keeps fun b o e=>(e0.bs b o e).1
 have lim:=e0.mod.nolimit.keeps fun b o e=>(e0.bs b o e).1
 have O:∀y∈ps.zip us,scope.names.lookup y.1=some .local\/(scope.names.lookup y.1=some .cell/\((cellsFrom (s.heap.objs.size+1) _ []).lookup y.1).isSome=true):=fun⟨n,v⟩ hy=>by
  rcases S.par n (acN hy).1 with q|q
  .exact .inl q
  .exact .inr ⟨q,PySem.W.cellsFrom_some _ _ _ (.inl q)⟩
 refine codeAny_call_function hr.depth (KX _ _ lk) rfl S.co S.gen rfl (PySem.W.codeRec_of KX hcd) (hb _ _ _ _ ?_);refine wpAny_newFunctionEnv_cells S.kind O fun env he s1 x=> ?_
 subst he;refine⟨lim.keeps x.toInCall.keep,codeAny_func ?_⟩;obtain⟨t,ht,hq⟩:=U A _ s H vs Q E (hr.deeper _) Z;have I:Inv (je CX P w K mg _ N _ _ f L A _ s H E) [] _ H s1:=Qd S hr.hd e0 hl r x;refine aep (ht [] s1 _ H _ I hq) (fun fl s' Y=> ?_) fun e s' Y=>Y
 have fin:∀{M:St} {H':Hp} {v:V} {u:ee},Inv (je CX P w K mg base N qual scope f L A _ s H E) [] M H' s'->RelV v u->Q v H'->CE outer P w H s Q u s':=
  fun {M H' v u} J rv q=>⟨v,H',J.os,J.bare,J.base,J.cK,rv,q⟩
 cases fl with
 |ret u=>
  obtain⟨v,M,H',J,rv,q⟩:=Y;exact fin J rv q
 |next=>
  obtain⟨M,H',J,q⟩:=Y;exact fin (v:=V.iB) J rfl q
 |brk=>
  obtain⟨_,_,_,q⟩:=Y
  simp_all
 |_=>
  obtain⟨_,_,_,q⟩:=Y
  simp_all
end L2
namespace L2
open PySem PySem.Spec PyProof.Rows
section
variable {X:Cx}{x:Str}{p pos:Pos}{e:Expr}{es:List Expr}{t:TA}{id T:String}{r:List V->Hp->VK->Prop}
def CU (r:List V->Hp->VK->Prop)(t:TA):TE:=fun σ H Q=>t σ H fun vs H1=>r vs H1 Q
def fD (hc:jB X (.builtin id) r)(hg:Gl X x)(hm:X.mg x=none)(Y:bootBuiltins x=some (.builtin id))(ha:PA X (e::es) t)(Z:x≠"__name__":=by decide)(L:(x==("__debug__":Str))=false:=by decide)
  (he:starEach (e::es) X.env=(false,eval e X.env)::starEach es X.env:=by rfl) (J:(backTo pos (starEach es X.env)).any (·.1)=false:=by rfl):PE X (.Call (.Name x p) (e::es) [] pos) (CU r t):=by
 intro _ s σ H Q I h;refine aeh (lX I hg hm Y ?_ Z L);exact PyProof.Rows.callWith_builtin1 (gk (ha pos _ s σ H _ I h) fun us M ⟨vs,H1,I1,O,U⟩=>hc _ M σ H1 vs us Q I1 O U) he J
def fw (hc:jB X (.type T) r)(hg:Gl X x)(hm:X.mg x=none)(Y:bootBuiltins x=some (.type T))(ha:PA X (e::es) t)(Z:x≠"__name__":=by decide)(L:(x==("__debug__":Str))=false:=by decide)
  (he:starEach (e::es) X.env=(false,eval e X.env)::starEach es X.env:=by rfl) (J:(backTo pos (starEach es X.env)).any (·.1)=false:=by rfl):PE X (.Call (.Name x p) (e::es) [] pos) (CU r t):=by
 intro _ s σ H Q I h;refine aeh (lX I hg hm Y ?_ Z L);exact adG (gk (ha pos _ s σ H _ I h) fun us M ⟨vs,H1,I1,O,U⟩=>hc _ M σ H1 vs us Q I1 O U) he J
end
end L2
namespace HT
open PySem PyProof.Rows
def lexLt:hA->hA->Bool
 |[],[]=>false
 |[],_::_=>true
 |_::_,[]=>false
 |x::xs,y::ys=>if x=y then lexLt xs ys else decide (x < y)
def BA (x y:Int)(xs ys:hA):lexLt (x::xs) (y::ys)=if x=y then lexLt xs ys else decide (x < y):=rfl
def vq:lexLt [] []=false:=rfl
def By (y:Int)(ys:hA):lexLt [] (y::ys)=true:=rfl
def Bz (x:Int)(xs:hA):lexLt (x::xs) []=false:=rfl
def TU (A:eu)(s:cq)(a:Int)(t:Tok)(c:Int)(u:Tok):∃e,SeqAt.EqAt A s (.int a t) (.int c u) e/\(e=true↔a=c):=
 ⟨_,SeqAt.EqAt.int_int a t c u,by simp⟩
section
open PySem.SeqAt
open PySem.AutoSeq1 (wpAny_loadPart')
open PySem.MeetsSeq PySem.MeetsSeq2 PySem.MeetsSeq3
end
section
variable {prog:dn}{w:fx}{A:eu}{E:ee->cq->Prop}{s:cq}
def Am (n d:Nat):ng->Nat
 |none=>d
 |some v=>if v < 0 then(v+(n:Int)).toNat else min v.toNat n
def IX (n d:Nat):Am n d none=d:=rfl
def zB (n d k:Nat):Am n d (some (k:Int))=min k n:=by
 rfl
end
end HT
namespace L2
open PySem PySem.Spec PyProof.Rows
abbrev TO:=St->Hp->(ng->Hp->Prop)->Prop
def PO (X:Cx)(e:Option Expr)(t:TO):Prop:=
 ∀(nj:kB) (s:cq) (σ:St) (H:Hp) (Q:ng->Hp->Prop),Inv X nj σ H s->t σ H Q->
  wpAny (model X.prog X.w) X.A (evalPart e X.env) (fun u s'=>∃o H',Inv X nj σ H' s'/\IsPart u o/\Q o H') X.xe s
def NP:TO:=fun _ H Q=>Q none H
def NO (t:TE):TO:=fun σ H Q=>t σ H fun x H1=>∃i,x=.int i/\Q (some i) H1
def intsAre_of:∀{us:kA},Vals (ns.map V.int) us->IntsAre us ns:=by
 induction ns with
 |nil=>intro us r;cases r;exact .nil
 |_ n ns L=>
  intro us r;cases r with
  |cons J r2=>
   obtain⟨t,e⟩:=J;subst e;exact .cons n t (L r2)
section
variable {X:Cx}{e:Expr}{te:TE}{lo hi:Option Expr}{tl th:TO}{pos p2:Pos}
def pB:PO X none NP:=by
 intro _ s σ H Q I h;exact aet ⟨none,H,I,.none,h⟩
def mz (h:PE X e te):PO X (some e) (NO te):=by
 intro _ s σ H Q I hw;refine gk (h _ s σ H _ I hw) fun u O z0=> ?_;obtain⟨x,H1,M,J,L⟩:=z0
 obtain⟨i,rfl,q⟩:=L;obtain⟨t,rfl⟩:=J;exact⟨some i,H1,M,.int i t,q⟩
def SlR (X:Cx)(r:V->ng->ng->Hp->VK->Prop):Prop:=
 ∀(nj:kB) (s:cq) (σ:St) (H:Hp) (x:V) (v vl vu:ee) (lo hi:ng) (sl:dr) (Q:VK),Inv X nj σ H s->RelV x v->s.heap.IsSliceOf sl vl vu .none->IsPart vl lo->IsPart vu hi->r x lo hi H Q->
  ∃T id,typeLookup (.type T) "__getitem__"=pure (some (.builtin id))/\s.TypeIs v T/\wpAny (model X.prog X.w) X.A (getItem v (.ref sl)) (EP X nj σ Q) X.xe s
def tSl (r:V->ng->ng->Hp->VK->Prop)(te:TE)(tl th:TO):TE:=fun σ H Q=>te σ H fun x H1=>tl σ H1 fun l H2=>th σ H2 fun u H3=>r x l u H3 Q
def kY (hr:SlR X r)(he:PE X e te)(hl:PO X lo tl)(hu:PO X hi th):PE X (.Subscript e (.Slice lo hi none p2) pos) (tSl r te tl th):=by
 intro _ s σ H Q I h;refine Subscript_ (gk (he _ s σ H _ I h) fun v Y z0=> ?_);obtain⟨x,H1,I1,Z,q1⟩:=z0;refine wpAny_Slice (gk (hl _ Y σ H1 _ I1 q1) fun M U ⟨l,H2,I2,pl,q2⟩=>gk (hu _ U σ H2 _ I2 q2) fun L J z0=> ?_);obtain⟨u,O,I3,pu,q3⟩:=z0;refine aet ?_;have I4:Inv X _ σ O {J with heap:=J.heap.push {cls:=.type "slice",data:=.fields #[M,L,.none]}}:=I3.kept fun b ob q=>aa6 _ q
 obtain⟨T,id,hT,ht,hg⟩:=hr _ {J with heap:=J.heap.push {cls:=.type "slice",data:=.fields #[M,L,.none]}} σ O x v M L l u _ Q I4 Z (Heap.IsSliceOf.new ..) pl pu q3;exact tail_any ht hT hg rfl
def HH (xs:List V)(lo hi:ng):List V:=(xs.drop (HT.Am xs.length 0 lo)).take (HT.Am xs.length xs.length hi - HT.Am xs.length 0 lo)
def KJ (xs:List V)(lo hi:ng):(HH xs lo hi).length<=xs.length:=by
 delta HH
 grind
end
end L2
namespace L2
open PySem PySem.Spec PyProof.Rows
def Qb (n:Nat)(i:Int):Option Nat:=if 0<=i then(if i < n then some i.toNat else none) else if -(n:Int)<=i then some (i+n).toNat else none
def OI {α:Type}(xs:List α)(i:Int):Option α:=(Qb xs.length i).bind fun j=>xs[j]?
def N9 (h:Qb n i=some j):seqIndex? i n=some j/\j < n/\ -(n:Int)<=i/\i < n:=by
 delta Qb at h
 by_cases J:0<=i
 .rw[ad3 J] at h
  by_cases h1:i < n
  .rw[ad3 h1] at h;have e:=adD h;exact⟨by rw[seqIndex_of J h1,e],by omega,by lia,h1⟩
  .grind
 .rw[ad2 J] at h
  by_cases h1: -n<=i
  .rw[ad3 h1] at h;have e:=adD h;exact⟨by rw[seqIndex_neg (by lia) h1,e],by omega,h1,by lia⟩
  .grind
def OH (h:OI xs i=some v):∃j,seqIndex? i xs.length=some j/\xs[j]?=some v/\j < xs.length/\ -(xs.length:Int)<=i/\i < xs.length:=by
 delta OI at h;cases e:Qb _ i with
 |none=>rw[e] at h;contradiction
 |_ j=>
  obtain _:=N9 e
  simp_all
def XE {xs:List α}{j:Nat}(h:xs[j]?=some v):OI xs (j:Int)=some v:=by
 have e:Qb xs.length j=some j:=by
  delta Qb
  grind
 delta OI;rw[e];exact h
def UG (xs:List α)(v:α):OI (xs++[v]) (-1)=some v:=by
 have e:Qb (xs++[v]).length (-1)=some xs.length:=by
  delta Qb
  grind
 delta OI
 grind
def OL (b:Expr):Prop:=∀o i,subscripted b false o i=operate [o,i] (getItem o i)
def IxR (X:Cx)(r:R2):Prop:=
 ∀(value slice:Expr) (nj:kB) (s:cq) (σ:St) (H:Hp) (x y:V) (v u:ee) (Q:VK),Inv X nj σ H s->RelV x v->RelV y u->r x y H Q->
  subscripted slice false v u=operate [v,u] (getItem v u)->wpAny (model X.prog X.w) X.A (subscriptTail value slice v u) (EP X nj σ Q) X.xe s
def MtR (X:Cx)(id:String)(r:V->List V->Hp->VK->Prop):Prop:=
 ∀(nj:kB) (s:cq) (σ:St) (H:Hp) (x:V) (xs:List V) (v:ee) (us:kA) (Q:VK),Inv X nj σ H s->RelV x v->Vals xs us->r x xs H Q->
  wpAny (model X.prog X.w) X.A (call (.builtin id) (v::us)) (EP X nj σ Q) X.xe s
section
variable {X:Cx}{a b:Expr}{ta tb:TE}{pos:Pos}
def pe_ix (U:IxR X r)(Z:PE X a ta)(Y:PE X b tb)(O:OL b):PE X (.Subscript a b pos) (il r ta tb):=by
 intro _ s σ H Q I h;exact Subscript_ (binT Z Y I h fun v u J x y H2 I2 M L q=>U a b _ J σ H2 x y v u Q I2 M L q (O _ _))
def gF (K:b0):R2:=fun x y H Q=>∃p xs i v,x=.ref p/\y=.int i/\dh K H p xs/\OI xs i=some v/\Q v H
def L6 (K:b0):R2:=fun x y H Q=>∃p xs i v,x=.ref p/\y=.int i/\mO K H p xs/\OI xs i=some v/\Q v H
def Ww:IxR X (gF X.K):=by
 intro _ _ _ s σ H x y v u Q I Y U h M;obtain⟨p,xs,i,z,rfl,rfl,Z,he,q⟩:=h;subst Y;obtain⟨t,rfl⟩:=U;obtain⟨its,r,L,hz⟩:=I.list Z;obtain⟨j,h1,h2,h3,h4,h5⟩:=OH he;obtain⟨w,ew,J⟩:=r.get h2;have hl:=r.length;have hn:=GJ;have fin:EP X _ σ Q w s:=⟨z,H,I,J,q⟩
 by_cases O:0<=i
 .have hj:=by
   rw[seqIndex_of O h5] at h1;exact adD h1
  exact item_listR L.isList O (by lia) (by simp[*]) fin M
 .have hj:(i+(its.toArray.size:Int)).toNat=j:=by
   rw[seqIndex_neg (by lia) h4] at h1
   simp_all
  exact subscriptTail_builtinR L.isList.typeIs slot_list_getitem.lookup
   (wpAny_getItem_list_neg L.isList (by lia) (by simp_all) (by lia) (by simp_all) ⟨rfl,fin⟩) M
def Z3:IxR X (L6 X.K):=by
 intro _ _ _ s σ H x y v u Q I O M h U;obtain⟨p,xs,i,z,rfl,rfl,Y,he,q⟩:=h;subst O;obtain⟨t,rfl⟩:=M;obtain⟨its,r,L,hz⟩:=I.tuple Y;obtain⟨j,h1,h2,h3,h4,h5⟩:=OH he;obtain⟨w,ew,J⟩:=r.get h2;have Z:=r.length;have hn:=GJ;have fin:EP X _ σ Q w s:=⟨z,H,I,J,q⟩
 exact subscriptTail_builtinR L.typeIs slot_tuple_getitem.lookup
  (getItem_tuple L (by lia) (by lia) (by rw[acY,<- Z];exact h1) (by simp[*]) ⟨rfl,fin⟩) U
def Mp (its:kA)(n j:Nat)(u:ee):Obj.mapSeq (·.setIfInBounds j u) {cls:=.type "list",data:=.seq its.toArray n}={cls:=.type "list",data:=.seq (its.set j u).toArray n}:=by
 simp[Obj.mapSeq]
def Inv.lst (I:Inv X nj σ H s)(h:H p=some (.lst xs)):
  ∃(its:kA) (n:Nat),Vals xs its/\s.heap.get? p=some {cls:=.type "list",data:=.seq its.toArray n}/\xs.length<=sizeLine:=by
 obtain⟨z,its,n,r,e⟩:=I.cK p _ h
 simp[*]
def Inv.ZW {its J:kA}(I:Inv X nj σ H s)(h:H p=some (.lst xs))
  (O:s.heap.get? p=some {cls:=.type "list",data:=.seq its.toArray n}) (L:f {cls:=.type "list",data:=.seq its.toArray n}={cls:=.type "list",data:=.seq J.toArray n'}) (r:Vals ys J) (M:ys.length<=sizeLine) (t:Nat):
  Inv X nj σ (upd H p (.lst ys)) {s with heap:=s.heap.update p f,toks:=t}:=by
 have e:(s.heap.update p f).get? p=some {cls:=.type "list",data:=.seq J.toArray n'}:=by
  rw[aa9 f O (by rw[L]<;>rfl),L]
 refine I.write (by rw[h];trivial) (.inl rfl) (fun b u U q=>(aa8 _ _ (Ne.symm U)).trans q) ⟨_,e⟩ ?_;exact⟨M,J,n',r,e⟩
def Sf:V->V->V->Hp->(Hp->Prop)->Prop:=fun o i v H Q=>∃p xs k j,o=.ref p/\i=.int k/\H p=some (.lst xs)/\Qb xs.length k=some j/\Q (upd H p (.lst (xs.set j v)))
def set_list:PSet X Sf:=by
 intro _ s σ H o i v ov iv u Q I ro U O h;obtain⟨p,xs,k,j,rfl,rfl,L,Z,q⟩:=h;subst ro;obtain⟨t,rfl⟩:=U;obtain⟨its,n,r,J,hz⟩:=I.lst L;obtain⟨h1,h2,h3,h4⟩:=N9 Z;have hl:=r.length;have hn:=GJ;have I':=
  I.ZW L J (Mp its n j u) (r.set O j) (by simp_all) s.toks
 by_cases M:0<=k
 .have Y:=by
   rw[seqIndex_of M h4] at h1;exact adD h1
  exact PySem.W.ki_setAt J M (by lia) (by simp_all) (by grind)
 .have Y:(k+(its.toArray.size:Int)).toNat=j:=by
   rw[seqIndex_neg (by lia) h3] at h1
   simp_all
  exact PySem.W.ki_setBack J (by lia) (by simp_all) (by lia) (by grind)
def FL (lo hi:ng)(n:Nat):(sliceBounds lo hi none n).1=((HT.Am n 0 lo:Nat):Int)/\(sliceBounds lo hi none n).2.1=((HT.Am n n hi:Nat):Int)/\(sliceBounds lo hi none n).2.2=1:=by
 refine⟨?_, ?_,rfl⟩
 .cases lo with
  |none=>rfl
  |_ i=>
   simp only[sliceBounds,HT.Am,Option.getD_none,show 1>0 by decide,ad4]
   grind
 .cases hi with
  |none=>rfl
  |_ i=>
   simp only[sliceBounds,HT.Am,Option.getD_none,show 1>0 by decide,ad4]
   lia
def C_ (its:kA)(lo hi:ng):slicePick its.toArray lo hi none=((its.drop (HT.Am its.length 0 lo)).take (HT.Am its.length its.length hi - HT.Am its.length 0 lo)).toArray:=by
 obtain⟨h1,h2,J⟩:=FL lo hi its.toArray.size;delta slicePick;rw[h1,h2,J];simp only[sliceRange_one,pick_run,acY]<;>rfl
def Py (K:b0):V->ng->ng->Hp->VK->Prop:=fun x lo hi H Q=>∃a xs,x=.ref a/\dh K H a xs/\ ∀p,H p=none->Q (.ref p) (upd H p (.lst (HH xs lo hi)))
def VB:SlR X (Py X.K):=by
 intro _ s σ H x v vl vu lo hi sl Q I M hs U O h;obtain⟨a,xs,rfl,Z,q⟩:=h;subst M;obtain⟨its,r,L,Y⟩:=I.list Z;have J:=r.length;refine⟨"list",_,slot_list_getitem.lookup,L.isList.typeIs, ?_⟩;refine wpAny_getItem_list_slice L.isList hs U O .none (by simp) ?_ (by simp_all);rw[C_,<- J];refine⟨.ref s.heap.objs.size,_,I.laid (fun b ob q=>aa6 _ q) (ac_ _) ?_,rfl,q _ (I.cK.fresh (ac_ _))⟩;exact⟨adb (KJ xs lo hi) Y,_,0,(r.drop _).take _,aa7 _ rfl⟩
def xl:V->Bool
 | .iB=>true
 | .bl _=>true
 | .int _=>true
 | .str _=>true
 |_=>false
def Yw:V->V->Bool
 | .iB,.iB=>true
 | .bl a,.bl b=>a==b
 | .bl a,.int b=>(if a then 1 else 0)==b
 | .int a,.bl b=>a==(if b then 1 else 0)
 | .int a,.int b=>a==b
 | .str a,.str b=>a==b
 |_,_=>false
def aau (L:RelV y u)(J:RelV x v)(O:xl y=true)(M:xl x=true):SeqAt.EqAt A s u v (Yw y x):=by
 cases y with
 |iB=>
  subst L;cases x with
  |iB=>subst J;exact SeqAt.EqAt.same _
  |bl b=>subst J;exact SeqAt.EqAt.none_bool b
  |int b=>obtain⟨t,rfl⟩:=J;exact SeqAt.EqAt.none_int b t
  |str b=>obtain⟨t,rfl⟩:=J;exact SeqAt.EqAt.none_str b t
  |_=>exact absurd (M) aaT
 |bl a=>
  subst L;cases x with
  |iB=>subst J;exact SeqAt.EqAt.bool_none a
  |bl b=>subst J;exact SeqAt.EqAt.bool_bool a b
  |int b=>obtain⟨t,rfl⟩:=J;exact SeqAt.EqAt.bool_int a b t
  |str b=>obtain⟨t,rfl⟩:=J;exact SeqAt.EqAt.bool_str a b t
  |_=>exact absurd (show false=true from M) aaT
 |int a=>
  obtain⟨t',rfl⟩:=L;cases x with
  |iB=>subst J;exact SeqAt.EqAt.int_none a t'
  |bl b=>subst J;exact SeqAt.EqAt.int_bool a t' b
  |int b=>obtain⟨t,rfl⟩:=J;exact SeqAt.EqAt.int_int a t' b t
  |str b=>obtain⟨t,rfl⟩:=J;exact SeqAt.EqAt.int_str a t' b t
  |_=>exact absurd (show false=true from M) aaT
 |str a=>
  obtain⟨t',rfl⟩:=L;cases x with
  |iB=>subst J;exact SeqAt.EqAt.str_none a t'
  |bl b=>subst J;exact SeqAt.EqAt.str_bool a t' b
  |int b=>obtain⟨t,rfl⟩:=J;exact SeqAt.EqAt.str_int a t' b t
  |str b=>obtain⟨t,rfl⟩:=J;exact SeqAt.EqAt.str_str a t' b t
  |_=>exact absurd (show false=true from M) aaT
 |_=>exact absurd (O) aaT
def eqU (x:V)(u:ee):Bool:=match u with
 | .none=>Yw .iB x
 | .bool b=>Yw (.bl b) x
 | .int i _=>Yw (.int i) x
 | .str z _=>Yw (.str z) x
 |_=>false
def MQ (r:RelV y u)(f:xl y=true):eqU x u=Yw y x:=by
 cases y with
 |iB=>subst r;rfl
 |bl b=>subst r;rfl
 |int i=>obtain⟨t,rfl⟩:=r;rfl
 |str z=>obtain⟨t,rfl⟩:=r;rfl
 |_=>exact absurd (f) aaT
def JM (L:RelV x v)(M:xl x=true):∀{xs:List V} {us:kA},Vals xs us->xs.all xl=true-> ∀u∈us,SeqAt.EqAt A s u v (eqU x u)
 |_,_,.nil,_=>fun u J=>by cases J
 |y::xs,u::us,.cons r t,f=>fun O J=>by
  rw[abu,aaO] at f
  rcases acu.mp J with rfl|J
  .rw[MQ r f.1];exact aau r L f.1 M
  .exact JM L M t f.2 O J
def HL:jB X (.builtin "len") (fun xs H Q=>∃p ys,xs=[.ref p]/\(dh X.K H p ys\/mO X.K H p ys)/\Q (.int ys.length) H):=by
 intro _ s σ H xs us Q I r h;obtain⟨p,ys,rfl,J,q⟩:=h;obtain⟨u,rfl,U⟩:=vals1 r;subst U;have Z:=GJ
 rcases J with J|J
 .obtain⟨its,L,M,Y⟩:=I.list J;have _:=L.length;exact Calls.call_len_list M.isList (by grind) ⟨.int ys.length,H,I.tok _,⟨s.toks+1,by grind⟩,q⟩
 .obtain⟨its,L,M,Y⟩:=I.tuple J;have O:=L.length;exact len_tuple M (by grind) ⟨.int ys.length,H,I.tok _,⟨s.toks+1,by grind⟩,q⟩
def HK:jB X (.type "list") (fun xs H Q=>∃p ys,xs=[.ref p]/\(dh X.K H p ys\/mO X.K H p ys)/\ ∀l,H l=none->Q (.ref l) (upd H l (.lst ys))):=by
 intro _ s σ H xs us Q I r h;obtain⟨p,ys,rfl,O,q⟩:=h;obtain⟨u,rfl,Z⟩:=vals1 r;subst Z;have fin:∀its,Vals ys its->_<=_-> ∀(h':Heap) L,_->
   h'.get? _=some {cls:=.type "list",dict:=none,data:=.seq _ L,slots:=#[]}->EP X _ σ Q _ {s with heap:=h'}:=fun its J M h' L kp e=>
  ⟨.ref s.heap.objs.size,_,I.laid kp (ac_ _) (show iJ _ X.w _ h' _ (.lst ys) from⟨M,its,L,J,e⟩),rfl,q _ (I.cK.fresh (ac_ _))⟩
 rcases O with O|O
 .obtain⟨its,J,U,M⟩:=I.list O;have _:=J.length;obtain⟨o,Y,hc,n,hd⟩:=U.isList;exact call_list_seq p (.inl rfl) Y hc hd (fun h' L kp e=>fin its J M h' L kp e) (by grind)
 .obtain⟨its,J,U,M⟩:=I.tuple O;have _:=J.length;obtain⟨o,Y,hc,n,hd⟩:=U;exact call_list_seq p (.inr rfl) Y hc hd (fun h' L kp e=>fin its J M h' L kp e) (by grind)
def El:jB X (.type "tuple") (fun xs H Q=>∃p ys,xs=[.ref p]/\((dh X.K H p ys/\ ∀l,H l=none->Q (.ref l) (upd H l (.tup ys)))\/(mO X.K H p ys/\Q (.ref p) H))):=by
 intro _ s σ H xs us Q I r h;obtain⟨p,ys,rfl,h⟩:=h;obtain⟨u,rfl,Y⟩:=vals1 r;subst Y
 rcases h with⟨M,q⟩|⟨M,q⟩
 .obtain⟨its,J,L,O⟩:=I.list M;have _:=J.length;refine call_tuple_list L.isList (fun h' kp=> ?_) (by grind);have U:Inv X _ σ H {s with heap:=h'}:=I.kept kp;have Z:Inv X _ σ (upd H _ (.tup ys)) {s with heap:=h'.push {cls:=.type "tuple",data:=.seq _}}:=
   U.laid (fun b o e=>aa6 _ e) (ac_ _) (⟨O,its,J,IsTup.new _ _⟩)
  exact⟨.ref h'.objs.size,_,Z,rfl,q _ (U.cK.fresh (ac_ _))⟩
 .obtain⟨its,J,L,O⟩:=I.tuple M;exact call_tuple_same L ⟨.ref p,H,I,rfl,q⟩
def tyV (K:b0)(T:String)(x:V)(H:Hp):Prop:=match x with
 | .str _=>T="str"
 | .int _=>T="int"
 | .ref p=>(T="list"/\ ∃xs,dh K H p xs)\/(T="tuple"/\ ∃o,K.lookup p=some o/\o.cls=.type "tuple"/\o.dict=none)\/
   (T="dict"/\((∃kvs,H p=some (.dK kvs))\/ ∃kvs,H p=some (.dT kvs)))\/(T="set"/\ ∃S n,H p=some (.set S n))
 |_=>False
def Ri (I:Inv X nj σ H s)(r:RelV x v)(ty:tyV X.K T x H):
  s.TypeIs v T/\ ∀a,v=.ref a-> ∃ob,s.heap.get? a=some ob/\ob.dict=none:=by
 cases x with
 |str z=>
  obtain⟨t,rfl⟩:=r;cases(ty);exact⟨typeIs_str s z t,fun _ e=>nomatch e⟩
 |int i=>
  obtain⟨t,rfl⟩:=r;cases(ty);exact⟨aee s i t,fun _ e=>nomatch e⟩
 |ref p=>
  subst r
  rcases ty with⟨rfl,xs,O⟩|⟨rfl,o,J,hc,hd⟩|⟨rfl,J⟩|⟨rfl,S,n,J⟩
  .obtain⟨its,_,M,_⟩:=I.list O;refine⟨M.isList.typeIs,fun a e=> ?_⟩;cases e;obtain⟨o,n,e,c,hd,_⟩:=M
   simp[*]
  .refine⟨⟨o,I.DX p o J,hc⟩,fun a e=> ?_⟩;cases e;exact⟨o,I.DX _ o J,hd⟩
  .have z:∃o,s.heap.get? p=some o/\o.ExactDict:=by
    rcases J with⟨kvs,J⟩|⟨kvs,J⟩
    .obtain⟨_,_,_,_,o,_,_,e,ex,_⟩:=I.cK p _ J
     grind
    .obtain⟨_,_,_,_,o,_,_,e,ex,_⟩:=I.cK p _ J
     grind
   obtain⟨o,e,ex⟩:=z;refine⟨⟨o,e,ex.1⟩,fun a L=> ?_⟩;cases L;exact⟨o,e,ex.2.1⟩
  .obtain⟨o,_,_,_,e,ex,_⟩:=I.cK p _ J;refine⟨⟨o,e,ex.1⟩,fun a L=> ?_⟩;cases L;exact⟨o,e,ex.2.1⟩
 |_=>exact False.elim ty
def Za (K:b0)(T:String)(r:V->List V->Hp->VK->Prop)(to:TE):TE:=fun σ H Q=>to σ H fun x H1=>tyV K T x H1/\r x [] H1 Q
def Rq (K:b0)(T:String)(r:V->List V->Hp->VK->Prop)(to:TE)(t:TA):TE:=fun σ H Q=>to σ H fun x H1=>tyV K T x H1/\t σ H1 fun xs H2=>r x xs H2 Q
variable {o e:Expr}{es:List Expr}{to:TE}{t:TA}{name:Str}{apos cpos:Pos}{T id:String}{r:V->List V->Hp->VK->Prop}
def ZM (pa:PlainAttrs T)(slot:Slot T name id)(M:typeOf (.builtin id)=pure (.type "method_descriptor"))(hm:MtR X id r)(ho:PE X o to)
  (L:attributeBase o name X.env (eval o X.env)=eval o X.env:=by rfl) (J:(apos.endLine==cpos.line)=true:=by rfl):PE X (.Call (.Attribute o name apos) [] [] cpos) (Za X.K T r to):=by
 intro _ s σ H Q I h;refine wpAny_Call_method0_late L J (gk (ho _ s σ H _ I h) fun v Y z0=> ?_);obtain⟨x,H1,U,O,ty,Z⟩:=z0;obtain⟨h1,h2⟩:=Ri U O ty;exact⟨T,id,pa,slot,M,h1,h2,aaX rfl (PySem.evalArgs_none (hm _ Y σ H1 x [] v [] Q U O .nil Z))⟩
def pe_bm (pa:PlainAttrs T)(slot:Slot T name id)(U:typeOf (.builtin id)=pure (.type "method_descriptor"))(hm:MtR X id r)(ho:PE X o to)(ha:PA X (e::es) t)
  (L:attributeBase o name X.env (eval o X.env)=eval o X.env:=by rfl)
  (M:((backTo cpos (starEach (e::es) X.env)).all (fun x=> !x.1)&&(backToKw cpos (keywordEach [] X.env)).all (fun x=>x.1.isSome)
   &&decide ((e::es).length+([]:List Keyword).length+(if([]:List Keyword).isEmpty then 0 else 1) < 30))=true:=by rfl)
  (J:(apos.endLine==cpos.line)=true:=by rfl) (hs:starEach (e::es) X.env=(false,eval e X.env)::starEach es X.env:=by rfl) (O:(backTo cpos (starEach es X.env)).any (·.1)=false:=by rfl):
  PE X (.Call (.Attribute o name apos) (e::es) [] cpos) (Rq X.K T r to t):=by
 intro _ s σ H Q I h;refine wpAny_Call_method_late L M J rfl (gk (ho _ s σ H _ I h) fun v s1 z0=> ?_);obtain⟨x,H1,I1,Y,ty,q1⟩:=z0;obtain⟨h1,h2⟩:=Ri I1 Y ty;refine⟨T,id,pa,slot,U,h1,h2, ?_⟩;have Z:=ha cpos _ s1 σ H1 _ I1 q1;rw[hs] at Z ⊢;refine aaX (by assumption) (Calls.evalArgs_plain ?_);exact gk Z fun us s2 ⟨vs,H2,I2,r2,q2⟩=>hm _ s2 σ H2 x vs v us Q I2 Y r2 q2
end
end L2
namespace L2
open PySem PySem.Spec PyProof.Rows
def MtM (X:Cx)(id:String)(r:V->List V->Hp->VK->Prop):Prop:=
 ∀(nj:kB) (s:cq) (σ:St) (H:Hp) (x:V) (xs:List V) (v:ee) (us:kA) (Q:VK),Inv X nj σ H s->RelV x v->Vals xs us->r x xs H Q->
  wpAny (model X.prog X.w) X.A (call (.builtin id) (v::us)) (EP X nj σ Q) X.xe s
def Vals.one:∀{x:V} {us:kA},Vals [x] us-> ∃u,us=[u]/\RelV x u
 |_,_,.cons r .nil=>⟨_,rfl,r⟩
def Vals.zero:∀{us:kA},Vals [] us->us=[]
 |_,.nil=>rfl
def Vals.dropLast (h:Vals xs us):Vals xs.dropLast us.dropLast:=by
 induction h with
 |nil=>exact .nil
 |_ r t J=>
  cases t with
  |nil=>exact .nil
  |_ q t'=>exact .cons r J
def Vals.eraseIdx:∀{xs:List V} {us:kA} (i:Nat),Vals xs us->Vals (xs.eraseIdx i) (us.eraseIdx i)
 |_,_,_,.nil=>.nil
 |_,_,0,.cons _ t=>t
 |_,_,i+1,.cons r t=>.cons r (Vals.eraseIdx i t)
def Vals.rep (h:Vals xs us):∀k:Nat,Vals (List.replicate k xs).flatten (List.replicate k us).flatten
 |0=>.nil
 |k+1=>by
  exact Vals.append h (Vals.rep h k)
def qO:∀(l:List J) (i:Nat),(l.eraseIdx i).length<=l.length
 |[],_=>ac_ _
 |_::_,0=>ada _
 |_::r,i+1=>Nat.succ_le_succ (qO r i)
def foldl_rep (its:kA):∀(k:Nat) (acc:kA),
  List.foldl (fun L J=>L++J) acc.toArray (List.replicate k its.toArray)=(acc++(List.replicate k its).flatten).toArray
 |0,acc=>by simp
 |k+1,acc=>by
  have e:acc.toArray++its.toArray=(acc++its).toArray:=by simp
  have M:(acc++its)++(List.replicate k its).flatten=acc++(List.replicate (k+1) its).flatten:=by
   grind
  rw[<- M,<- foldl_rep its k _,<- e,acW,abS]
section
variable {X:Cx}{nj:kB}{σ:St}{H:Hp}{s:cq}{l b:dr}{xs ys zs:List V}
def Inv.Mu {its J:kA}(I:Inv X nj σ H s)(Z:H l=some (.lst xs))
  (e:s.heap.get? l=some {cls:=.type "list",data:=.seq its.toArray n}) (U:f its.toArray=J.toArray) (M:Vals ys J) (L:ys.length<=sizeLine):
  Inv X nj σ (upd H l (.lst ys)) {s with heap:=s.heap.update l (Obj.mapSeq f),toks:=t'}:=by
 have q:=PySem.IsL.update e f;rw[U] at q;refine I.write (by rw[Z];exact trivial) (.inl rfl) (fun b' u Y O=>(aa8 _ _ (Ne.symm Y)).trans O) ⟨_,q⟩ ?_;exact⟨L,J,_,M,q⟩
def Inv.lnew (I:Inv X nj σ H s)(L:Vals ys its)(J:ys.length<=sizeLine):
  Inv X nj σ (upd H s.heap.objs.size (.lst ys)) {s with heap:=s.heap.push {cls:=.type "list",data:=.seq its.toArray},toks:=t'}:=
 I.laid (fun _ _ q=>aa6 _ q) (ac_ _) ⟨J,its,0,L,aa7 _ rfl⟩
def Inv.fresh (I:Inv X nj σ H s):H s.heap.objs.size=none:=I.cK.fresh (ac_ _)
def Inv.Bv (I:Inv X nj σ H s)(J:H l=some (.lst xs)):xs.length<=sizeLine/\ ∃(its:kA) (n:Nat),Vals xs its/\xs.length=its.length/\s.heap.get? l=some {cls:=.type "list",data:=.seq its.toArray n}:=by
 obtain⟨z,its,n,r,e⟩:=I.cK l _ J;exact⟨z,its,n,r,r.length,e⟩
def wZ (h:n<=sizeLine):Builtin.List.listTooLong n=false:=by
 exact adX (by lia)
end
section
variable {X:Cx}
def zE:V->List V->Hp->VK->Prop:=fun x vs H Q=>∃l xs y,x=.ref l/\vs=[y]/\H l=some (.lst xs)/\xs.length < sizeLine/\Q .iB (upd H l (.lst (xs++[y])))
def gM:MtM X "list.append" zE:=by
 intro _ s σ H x vs v us Q I L M h;obtain⟨l,xs,y,rfl,rfl,J,U,q⟩:=h;subst L;obtain⟨u,rfl,O⟩:=M.one;obtain⟨z,its,n,r,Y,e⟩:=I.Bv J;refine adU F.slot_list_append ⟨_,e,rfl⟩ F.entry_list_append (F.args_list_append_2 _ _) (PySem.list_append l _ n u (by simp_all)) ⟨e, ?_⟩;refine⟨.iB,_,I.Mu J e (by simp) (r.append (.cons O .nil)) ?_,rfl,q⟩
 grind
def F2:V->List V->Hp->VK->Prop:=fun x vs H Q=>∃l b xs zs,x=.ref l/\vs=[.ref b]/\H l=some (.lst xs)/\H b=some (.lst zs)/\xs.length+zs.length<=sizeLine/\Q .iB (upd H l (.lst (xs++zs)))
def fP:MtM X "list.extend" F2:=by
 intro _ s σ H x vs v us Q I U Y h;obtain⟨l,b,xs,zs,rfl,rfl,O,hB,hz,q⟩:=h;subst U;obtain⟨u,rfl,Z⟩:=Y.one;subst Z;obtain⟨z,its,n,r,hl,e⟩:=I.Bv O;obtain⟨z2,J,n2,r2,hl2,e2⟩:=I.Bv hB;have M:its.toArray.size+J.toArray.size<=sizeLine:=by simp_all
 have L:¬(!its.toArray.isEmpty&&Builtin.List.listTooLong (its.toArray.size+J.toArray.size))=true:=by
  rw[wZ M,aaP]
  simp
 refine adU aa3 ⟨_,e,rfl⟩ aa1 (aa0 _ _)
  (AutoSeq1.list_extend_list_list_0 l _ n b _ n2 L (by lia) (by lia)) ⟨e,e2, ?_⟩
 refine⟨.iB,_,I.Mu O e (by simp) (r.append r2) ?_,rfl,q⟩
 simp_all
def rPop:V->List V->Hp->VK->Prop:=fun x vs H Q=>∃l xs y,x=.ref l/\vs=[]/\H l=some (.lst xs)/\xs[xs.length - 1]?=some y/\Q y (upd H l (.lst xs.dropLast))
def SK:MtM X "list.pop" rPop:=by
 intro _ s σ H x vs v us Q I O U h;obtain⟨l,xs,y,rfl,rfl,M,Z,q⟩:=h;cases O;have L:=U.zero;subst L;obtain⟨z,its,n,r,hl,e⟩:=I.Bv M;obtain⟨u,hu,Y⟩:=r.get Z;have J:=by
  show its.toArray[its.length - 1]?=some u
  simp_all
 refine adU F.slot_list_pop ⟨_,e,rfl⟩ F.entry_list_pop (F.args_list_pop_1 _) (MeetsSeq.list_pop_last l _ n u J (by simp_all)) ⟨e, ?_⟩;refine⟨y,_,I.Mu M e ?_ r.dropLast ?_,Y,q⟩
 .grind
 .grind
def Zx:V->List V->Hp->VK->Prop:=fun x vs H Q=>∃l xs i k y,x=.ref l/\vs=[.int i]/\H l=some (.lst xs)/\ -(2^63)<=i/\i < 2^63/\seqIndex? i xs.length=some k/\xs[k]?=some y/\Q y (upd H l (.lst (xs.eraseIdx k)))
def SJ:MtM X "list.pop" Zx:=by
 intro _ s σ H x vs v us Q I M O h;obtain⟨l,xs,i,k,y,rfl,rfl,L,h1,h2,hk,Y,q⟩:=h;cases M;obtain⟨u,rfl,U⟩:=O.one;obtain⟨t,rfl⟩:=U;obtain⟨z,its,n,r,Z,e⟩:=I.Bv L;obtain⟨w,hw,J⟩:=r.get Y;refine adU F.slot_list_pop ⟨_,e,rfl⟩ F.entry_list_pop (F.args_list_pop_2 _ _)
  (MeetsSeq.list_pop_at l _ n i t k w (fitsIndex_both h1 h2) (by grind) (by grind) (by simp_all)) ⟨e, ?_⟩
 refine⟨y,_,I.Mu L e ?_ (r.eraseIdx k) ?_,J,q⟩
 .grind
 .grind
def VW:R2:=fun x y H Q=>∃l b xs zs,x=.ref l/\y=.ref b/\H l=some (.lst xs)/\H b=some (.lst zs)/\xs.length+zs.length<=sizeLine/\ ∀p,H p=none->Q (.ref p) (upd H p (.lst (xs++zs)))
def jD:xG X (binaryOp .Add) VW:=by
 intro _ s σ H x y v u Q I M L h;obtain⟨l,b,xs,zs,rfl,rfl,U,Y,hz,q⟩:=h;cases M;cases L;obtain⟨z,its,n,r,hl,e⟩:=I.Bv U;obtain⟨z2,J,n2,r2,O,Z⟩:=I.Bv Y;refine PySem.P.add_list e Z ?_ (by simp_all);have ea:its.toArray++J.toArray=(its++J).toArray:=by simp
 rw[ea];exact⟨.ref _,_,I.lnew (r.append r2) (by simp_all),rfl,q _ I.fresh⟩
def rRep:R2:=fun x y H Q=>∃l k xs,x=.ref l/\y=.int k/\H l=some (.lst xs)/\ -(2^63)<=k/\k < 2^63/\xs.length*k.toNat<=sizeLine/\
 ∀p,H p=none->Q (.ref p) (upd H p (.lst (List.replicate k.toNat xs).flatten))
def len_rep (xs:List α)(k:Nat):(List.replicate k xs).flatten.length=k*xs.length:=by
 induction k with
 |zero=>simp
 |_ k J=>rw[acW,List.flatten_cons,ab7,J,adu,Nat.add_comm]
def ZO:xG X (binaryOp .Mult) rRep:=by
 intro _ s σ H x y v u Q I rx ry h;obtain⟨l,k,xs,rfl,rfl,hH,h1,h2,hz,q⟩:=h;subst rx;obtain⟨t,rfl⟩:=ry;obtain⟨z,its,n,r,hl,e⟩:=I.Bv hH;have M:its.toArray.size*k.toNat<=sizeLine:=by simp_all
 have U:¬its.toArray.size*k.toNat>(2^63 - 1) / 8:=by
  have:sizeLine<=(2^63 - 1) / 8:=by decide
  lia
 have O:¬(!Builtin.List.listFitsIndex k)=true:=by
  rw[fitsIndex_both h1 h2]
  lia
 have J:¬Builtin.List.listTooLong (its.toArray.size*k.toNat)=true:=by
  rw[wZ M]
  simp
 have L:List.foldl (fun Z Y=>Z++Y) #[] (List.replicate (if its.toArray.isEmpty=true then 0 else k.toNat) its.toArray)=(List.replicate k.toNat its).flatten.toArray:=by
  have f0:∀m:Nat,List.foldl _ #[] _=(List.replicate m its).flatten.toArray:=fun m=>by
   have:=foldl_rep its m []
   exact this
  rw[f0];cases its with
  |nil=>simp
  |_ a r'=>rw[ad2 (by simp)]
 refine wpAny_binaryOp_repeat_ref (by rfl) ⟨_,e,rfl⟩ (fun s'=>aee s' k t) noFill_list_mul F.fills_int_mul F.slot_int_rmul repeat_list F.slot_int_index.lookup
  (adU F.slot_int_rmul (aee s k t) F.entry_int_rmul (F.args_int_rmul_2 _ _) (int___rmul___int_list k t l _ n)
   ⟨e,rfl,⟨_,e,rfl⟩,adU F.slot_list_mul ⟨_,e,rfl⟩ F.entry_list_mul (F.args_list_mul_2 _ _) (AutoListH.list___mul___list_int_3 l _ n k t O U J) ⟨e, ?_⟩⟩)
 rw[L];exact⟨.ref _,_,I.lnew (r.rep _) (by rw[len_rep,Nat.mul_comm];exact hz),rfl,q _ I.fresh⟩
end
section
variable {prog:dn}{w:fx}{A:eu}{E:ee->cq->Prop}{s:cq}
set_option maxRecDepth 100000 in
end
section
variable {X:Cx}
end
end L2
namespace L2
open PySem PySem.Spec PyProof.Rows
def Vals.ints:∀{ns:hA} {us:kA},Vals (ns.map V.int) us->IntsAre us ns
 |[],us,h=>by
  cases h;exact IntsAre.nil
 |n::ns,us,h=>by
  cases h with
  |cons r t=>
   obtain⟨k,rfl⟩:=r;exact IntsAre.cons n k (Vals.ints t)
def wm:∀{us:kA} {ns:hA},IntsAre us ns->Vals (ns.map V.int) us
 |_,_,.nil=>by exact Paired.nil
 |_,_,.cons n t h=>by exact Paired.cons (⟨t,rfl⟩) (wm h)
def Vals.bls:∀{bs:List Bool} {us:kA},Vals (bs.map V.bl) us->us=bs.map Value.bool
 |[],us,h=>by
  cases h;rfl
 |b::bs,us,h=>by
  cases h with
  |cons r t=>
   subst r;rw[Vals.bls t,acn]
def Vals.FY (r:Vals [V.ref a] us):us=[Value.ref a]:=by
 cases r with
 |cons r t=>
  cases t;subst r;rfl
section
variable {prog:dn}{w:fx}{A:eu}{E:ee->cq->Prop}{s:cq}{l:dr}{its:kA}{ns:hA}{Q:ee->cq->Prop}
def Vw (hh:A.handled=none)(L:s.heap.IsList l its.toArray)(hi:IntsAre its ns)
  (h:∀h' tk t',(∀b o,s.heap.get? b=some o->h'.get? b=some o)->Q (.int ns.sum t') {s with heap:=h',toks:=tk}):wpAny (model prog w) A (call (.builtin "sum") [.ref l]) Q E s:=by
 obtain⟨xs,e⟩:=hi.allInts.items;have J:numsOf (intItems xs).toList=ns:=by rw[<- e];exact hi.numsOf
 rw[ad9] at J;rw[e] at L;refine PySem.sum_intListG hh L fun h' tk t' M=> ?_
 have:=h h' tk t' M
 rw[preSum_eq,ac2 (by simp),J];exact this
def Wt (hh:A.handled=none)(U:s.heap.IsList l its.toArray)(hi:IntsAre its ns)(L:0 < ns.length)
  (h:∀h' tk M t',(∀b o,s.heap.get? b=some o->h'.get? b=some o)->M∈ns->(∀a,a∈ns->M<=a)->Q (.int M t') {s with heap:=h',toks:=tk}):wpAny (model prog w) A (call (.builtin "min") [.ref l]) Q E s:=by
 obtain⟨xs,e⟩:=hi.allInts.items;have O:numsOf (intItems xs).toList=ns:=by rw[<- e];exact hi.numsOf
 rw[ad9] at O;subst O;rw[e] at U;have J:=by simpa using L
 refine PySem.min_intList hh U J fun v h' tk Y Z=> ?_
 obtain⟨t,rfl⟩:=ad5 Y;obtain⟨h1,h2⟩:=argBest_lt (numAt xs) (xs.size - 1);refine h h' tk _ t Z ?_ fun a ha=> ?_
 .rw[ad8];exact PySem.getD_mem (by grind)
 .obtain⟨j,hj,rfl⟩:=mem_getD ha;rw[aca,aaN] at hj;rw[<- ad8];exact h2 j (by lia)
end
section
variable {X:Cx}
def Zw (K:b0):List V->Hp->VK->Prop:=fun vs H Q=>∃(a:dr) (ns:hA),vs=[V.ref a]/\dh K H a (ns.map V.int)/\Q (.int ns.sum) H
def Zy (K:b0):List V->Hp->VK->Prop:=fun vs H Q=>∃(a:dr) (ns:hA),vs=[V.ref a]/\dh K H a (ns.map V.int)/\0 < ns.length/\ ∀m,m∈ns->(∀y,y∈ns->m<=y)->Q (.int m) H
def aaH (hc:X.calm=true):jB X (.builtin "sum") (Zw X.K):=by
 intro _ s σ H vs us Q I r h;obtain⟨a,ns,rfl,L,q⟩:=h;obtain⟨its,J,M,_⟩:=I.list L;rw[Vals.FY r];exact Vw (I.ok.hd hc) M.isList J.ints fun h' tk t' O=>⟨.int _,H,I.kept O,⟨_,rfl⟩,q⟩
def aaI (hc:X.calm=true):jB X (.builtin "min") (Zy X.K):=by
 intro _ s σ H vs us Q I r h;obtain⟨a,ns,rfl,M,J,q⟩:=h;obtain⟨its,L,O,_⟩:=I.list M;rw[Vals.FY r];exact Wt (I.ok.hd hc) O.isList L.ints J fun h' tk m t' U h1 h2=>⟨.int _,H,I.kept U,⟨_,rfl⟩,q m h1 h2⟩
end
section
variable {X:Cx}
def L7 (K:b0):V->List V->Hp->VK->Prop:=fun x xs H Q=>∃(a:dr) (ys:List V) (y:V) (j:Nat) (z:V),x=V.ref a/\xs=[y]/\dh K H a ys/\xl y=true/\ys.all xl=true/\ys[j]?=some z/\Yw z y=true/\
 (∀(m:Nat) (z':V),m < j->ys[m]?=some z'->Yw z' y=false)/\Q (.int (j:Nat)) H
def Om {ys:List V}(f:ys.all xl=true){j:Nat}(h:ys[j]?=some z):xl z=true:=abv.mp f z (acB h)
def SM:MtR X "list.index" (L7 X.K):=by
 intro _ s σ H x xs v us Q I rx O h;obtain⟨a,ys,y,j,z,rfl,rfl,hs,fy,J,hz,Y,hno,q⟩:=h;subst rx;cases O with
 |cons ry rt=>
  rename_i uy ut;cases rt;obtain⟨its,M,⟨⟨cls,dd,data,sl⟩,n,ho,hc,hdn,hd⟩,hlen⟩:=I.list hs;subst hc hd;obtain⟨u,hu,ru⟩:=M.get hz;obtain⟨hjl,hje⟩:=abZ.mp hu;have hvl:=M.length;have hj:=by simpa using hjl
  have hsl:=sizeLine_eq;refine adU PySem.F.slot_list_index ⟨_,ho,rfl⟩ PySem.F.entry_list_index (PySem.F.args_list_index_2 _ _)
   (SeqAt.list_indexAt a _ n dd sl uy _ j hj (by lia) ?_ ?_) ⟨ho,fun u' hu'=>JM ry fy M J u' (by simp_all), ?_⟩
  .have e1:its.toArray[j]=u:=by exact hje
   rw[e1,MQ ru (Om J hz)];exact Y
  .intro m hm hmj;have Z:m < ys.length:=by lia
   have L:=abX Z;obtain⟨u2,hu2,U⟩:=M.get L;have e1:its.toArray[m]=u2:=by grind
   rw[e1,MQ U (Om J L)]
   grind
  .exact⟨.int j,H,I.tok _,⟨_,rfl⟩,q⟩
end
section
variable {X:Cx}
end
def S9 (M:s.heap.IsList l items)
  (h:∀J:cq,J={s with heap:=s.heap.push {cls:=.type "list_iterator",data:=.fields #[.ref l,.int 0 0]}}->
   (J.heap.IsListIter s.heap.objs.size l 0/\J.heap.IsList l items)->l≠s.heap.objs.size->Q (.ref s.heap.objs.size) J):wpAny (model prog w) A (pyIter (.ref l)) Q E s:=by
 have L:l < s.heap.objs.size:=by obtain⟨_,e,_⟩:=M;exact aa_ e
 exact aeu M (h _ rfl ⟨⟨_,aa7 _ rfl,rfl,rfl⟩,M.push _⟩ (adp L))
def ID {bs:List Bool}(e:its=bs.map Value.bool):
  TruthOf prog w A (fun i v=>its.toArray[i]?=some v) (fun i=>bs.getD i false):=fun i v s Q E M O=>by
 have J:=by simpa using M
 rw[e,ab0] at J;obtain⟨b,Y,rfl⟩:=Option.map_eq_some_iff.mp J;have U:bs.getD i false=b:=by simp[*]
 have L:Q (bs.getD i _) s:=O;rw[U] at L;exact aeA L
def all_range:∀bs:List Bool,(List.range bs.length).all (fun i=>bs.getD i false)=bs.all id
 |[]=>rfl
 |b::bs=>by
  rw[ab8,acV,abu,abw,abu,<- all_range bs];rfl
section
variable {X:Cx}
def Zz (K:b0):List V->Hp->VK->Prop:=fun vs H Q=>∃(a:dr) (bs:List Bool),vs=[V.ref a]/\dh K H a (bs.map V.bl)/\Q (.bl (bs.all id)) H
def aaJ (hc:X.calm=true):jB X (.builtin "all") (Zz X.K):=by
 intro _ s σ H vs us Q I r h;obtain⟨a,bs,rfl,Z,q⟩:=h;obtain⟨its,Y,hl,_⟩:=I.list Z;rw[Vals.FY r];have O:=Y.bls;refine call_all_walk (S9 hl.isList fun M e2 st L=> ?_);subst e2;refine xi5 _ _ _ _ _ (xi2 _ _ ⟨rfl,Walks.list (A:=X.A.in1) (I.ok.hd hc) _ a L its.toArray,st,ID O,fun h' tk hk=> ?_⟩);refine⟨.bl _,H,I.kept fun b o U=>hk b o (fun J=> ?_) (aa6 _ U), ?_,q⟩
 .rcases acu.mp J with e1|J
  .exact absurd (e1 ▸ aa_ U) (ade _)
  .cases J
 .show Value.bool _=Value.bool _
  rw[<- all_range,O,acY,aca]
end
mutual
inductive Dp (K:b0)(H:Hp):V->PyData->Prop
 |iB:Dp K H .iB .none
 |bl (b:Bool):Dp K H (.bl b) (.bool b)
 |int (i:Int):Dp K H (.int i) (.int i)
 |str (x:Str):Dp K H (.str x) (.str x)
 |lst {a:dr} {xs:List V} {ds:List PyData}:dh K H a xs->yX K H xs ds->Dp K H (.ref a) (.list ds)
 |tup {a:dr} {xs:List V} {ds:List PyData}:mO K H a xs->yX K H xs ds->Dp K H (.ref a) (.tuple ds)
inductive yX (K:b0)(H:Hp):List V->List PyData->Prop
 |nil:yX K H [] []
 |cons {v:V} {vs:List V} {d:PyData} {ds:List PyData}:Dp K H v d->yX K H vs ds->yX K H (v::vs) (d::ds)
end
section
variable {X:Cx}{nj:kB}{σ:St}{H:Hp}{s:cq}
mutual
theorem Dp.reads (I:Inv X nj σ H s):∀(d:PyData) (v:V) (u:ee),Dp X.K H v d->RelV v u-> ∃as,Reads s.heap u d as
 | .none,_,_,h,r=>by
  cases h;cases r;exact⟨_,Reads.none⟩
 | .bool b,_,_,h,r=>by
  cases h;cases r;exact⟨_,Reads.bool b⟩
 | .int i,_,_,h,r=>by
  cases h;obtain⟨t,rfl⟩:=r;exact⟨_,Reads.int i t⟩
 | .str x,_,_,h,r=>by
  cases h;obtain⟨t,rfl⟩:=r;exact⟨_,Reads.str x t⟩
 | .list ds,_,_,h,r=>by
  cases h with
  |lst L U=>
   cases r;obtain⟨its,J,⟨o,n,O,hc,_,hd⟩,_⟩:=I.list L;obtain⟨as,M⟩:=Dp.readsAll I ds _ its U J;exact⟨_,Reads.list O hc hd M⟩
 | .tuple ds,_,_,h,r=>by
  cases h with
  |tup L U=>
   cases r;obtain⟨its,J,⟨o,O,hc,n,hd⟩,_⟩:=I.tuple L;obtain⟨as,M⟩:=Dp.readsAll I ds _ its U J;exact⟨_,Reads.tuple O hc hd M⟩
 | .dict _,_,_,h,_=>by cases h
theorem Dp.readsAll (I:Inv X nj σ H s):∀(ds:List PyData) (vs:List V) (us:kA),yX X.K H vs ds->Vals vs us-> ∃as,ReadsAll s.heap us ds as
 |[],_,_,h,r=>by
  cases h;cases r;exact⟨_,ReadsAll.nil⟩
 |d::ds,_,_,h,r=>by
  cases h with
  |cons h1 h2=>
   cases r with
   |cons J r2=>
    obtain⟨as,M⟩:=Dp.reads I d _ _ h1 J;obtain⟨bs,L⟩:=Dp.readsAll I ds _ _ h2 r2;exact⟨_,ReadsAll.cons M L⟩
end
end
section
variable {X:Cx}
def VV (K:b0):R2:=fun x y H Q=>∃d e,Dp K H x d/\Dp K H y e/\SeqAt.shaped d=true/\SeqAt.shaped e=true/\Q (.bl (PyData.eqv d e)) H
def VU (K:b0):R2:=fun x y H Q=>∃d e,Dp K H x d/\Dp K H y e/\SeqAt.shaped d=true/\SeqAt.shaped e=true/\Q (.bl (!PyData.eqv d e)) H
def ZQ (Y:X.A.units+64 < cLine):xG X (compareOp .Eq) (VV X.K):=by
 intro nj s σ H x y v u Q I O M h;obtain⟨d,e,hd,Z,L,J,q⟩:=h;obtain⟨as,U⟩:=Dp.reads I d x v hd O;obtain⟨bs,r2⟩:=Dp.reads I e y u Z M;exact SeqAt.compareEq_shaped U r2 L J Y ⟨.bl _,H,I,rfl,q⟩
def ZP (Y:X.A.units+64 < cLine):xG X (compareOp .NotEq) (VU X.K):=by
 intro nj s σ H x y v u Q I O M h;obtain⟨d,e,hd,Z,L,J,q⟩:=h;obtain⟨as,U⟩:=Dp.reads I d x v hd O;obtain⟨bs,r2⟩:=Dp.reads I e y u Z M;exact SeqAt.compareNe_shaped U r2 L J Y ⟨.bl _,H,I,rfl,q⟩
end
end L2
namespace L2
open PySem PySem.Spec PyProof.Rows
abbrev UN (h:Heap)(c:dr)(v:Option ee):Prop:=h.IsCell c v
def relS (scope sc:Scope):Scope:=
 {scope with names:=scope.names.map fun(n,k)=>if(k==.free&&sc.kind==.function&&sc.names.lookup n==some .cell) then(n,.cell) else(n,k)}
def cP (cells:k0):List (Str×NameKind)->k0->k0
 |[],acc=>acc
 |(n,k)::r,acc=>if k==.free then cP cells r ((n,(cells.lookup n).getD 0)::acc) else cP cells r acc
def xw (env:Env)(f:Str×NameKind->k0->Sem (ForInStep k0))
  (L:∀n k c,f (n,k) c=if k==.free then(do let a <- cellOf env n;pure (.yield ((n,a)::c))) else pure (.yield c)):
  ∀(names:List (Str×NameKind)) (acc:k0),(∀y∈names,y.2=.free-> ∃c,env.cells.lookup y.1=some c)->forIn names acc f=pure (cP env.cells names acc)
 |[],acc,_=>by rfl
 |(n,k)::r,acc,h=>by
  rw[List.forIn_cons,L];have O:=fun acc=>xw env f L r acc fun y M=>h y (acv _ M)
  unfold cP
  by_cases J:(k==NameKind.free)=true
  .rw[ad3 J,ad3 J];obtain⟨c,hc⟩:=h _ acw (by lia);have e:cellOf env n=pure c:=by delta cellOf;rw[hc]
   simp[*]
  .grind
def vS (h:∀y∈scope.names,y.2=.free-> ∃c,env.cells.lookup y.1=some c):closureFor scope env=pure (cP env.cells scope.names []):=by
 dsimp only[closureFor];rw[xw env _ (fun n k c=>rfl) _ [] h];rfl
def mem_lookup:∀{l:List (Str×J)} {n:Str} {c:J},(n,c)∈l-> ∃L,l.lookup n=some L
 |(k,v)::r,n,c,h=>by
  rw[acj];cases M:n==k with
  |true=>exact⟨_,rfl⟩
  |_=>
   rcases acu.mp h with e|h
   .grind
   .exact mem_lookup h
def nr:∀{names:List (Str×NameKind)} {acc:k0} {n:Str} {c:dr},(n,c)∈cP cells names acc->(n,c)∈acc\/((n,.free)∈names/\c=(cells.lookup n).getD 0)
 |[],_,_,_,h=>.inl h
 |_::r,acc,n,c,h=>by
  unfold cP at h;split at h
  .rename_i J
   rcases nr h with h|_
   .grind
   .simp_all
  .rcases nr h with h|_
   .exact .inl h
   .simp_all
def uh:∀{names:List (Str×NameKind)} {acc:k0} {p:Str×dr},p∈acc->p∈cP cells names acc
 |[],_,_,h=>h
 |_::r,acc,p,h=>by
  unfold cP;split
  .exact uh (acv _ h)
  .exact uh h
def pW:∀{names:List (Str×NameKind)} {acc:k0} {n:Str},(n,.free)∈names->(n,(cells.lookup n).getD 0)∈cP cells names acc
 |_::r,acc,n,h=>by
  unfold cP
  rcases acu.mp h with e|h
  .cases e;exact uh acw
  .split
   .exact pW h
   .exact pW h
def qX:∀{names:List (Str×NameKind)} {h:Heap} {acc:k0} {x:Str} {c:dr},(x,c)∈cellsFrom h.objs.size names acc->
  (x,c)∈acc\/((x,.cell)∈names/\h.objs.size<=c/\UN (pushCells h names) c none)
 |[],_,_,_,_,h=>.inl h
 |_::r,h,acc,x,c,J=>by
  unfold cellsFrom at J;unfold pushCells;split at J
  .rename_i L;rw[ad3 L];have L:=by simpa using L
   rw[<- aba h {cls:=.type "cell",data:=.cell _}] at J
   rcases qX J with J|⟨h1,h2,M⟩
   .rcases acu.mp J with e|J
    .cases e;exact .inr ⟨L ▸ acw,ac_ _,_,aed r _ _ _ (aa7 _ rfl),rfl⟩
    .grind
   .rw[aba] at h2;exact .inr ⟨acv _ h1,ac9 h2,M⟩
  .rename_i L
   rcases qX J with J|_
   .grind
   .simp_all
def u5:∀{names:List (Str×NameKind)} {n:Nat} {acc:k0} {p:Str×dr},p∈acc->p∈cellsFrom n names acc
 |[],_,_,_,h=>h
 |_::r,n,acc,p,h=>by
  unfold cellsFrom;split
  .exact u5 (acv _ h)
  .exact u5 h
def yq:∀{names:List (Str×NameKind)} {n:Nat} {acc:k0} {x:Str},(x,.cell)∈names-> ∃c,(x,c)∈cellsFrom n names acc
 |_::r,n,acc,x,h=>by
  unfold cellsFrom
  rcases acu.mp h with e|h
  .cases e;exact⟨n,u5 acw⟩
  .split
   .exact yq h
   .exact yq h
def yp:∀{names:List (Str×NameKind)} {h:Heap} {acc:k0} {x y:Str} {c:dr},(∀p∈acc,p.2 < h.objs.size)->(∀x y c,(x,c)∈acc->(y,c)∈acc->x=y)->
  (x,c)∈cellsFrom h.objs.size names acc->(y,c)∈cellsFrom h.objs.size names acc->x=y
 |[],_,_,_,_,_,_,hi,h1,h2=>hi _ _ _ h1 h2
 |_::r,h,acc,x,y,c,L,hi,h1,h2=>by
  unfold cellsFrom at h1 h2;split at h1
  .rename_i J;rw[ad3 J] at h2;rw[<- aba h {cls:=.type "cell",data:=.cell none}] at h1 h2;refine yp (fun p M=> ?_) (fun x y c a b=> ?_) h1 h2
   .rw[aba]
    grind
   .grind
  .rename_i J;rw[ad2 J] at h2;exact yp L hi h1 h2
def JJ {code:ee}
  (h:Q (newEnv scope s.heap.objs.size globals (cellsFrom (s.heap.objs.size+1) scope.names closure) qual func code (some around) builtins)
   {s with heap:=pushCells (s.heap.push {cls:=.type "dict",data:=.dict #[]}) scope.names}):
  wpAny M A (newFunctionEnv scope globals closure [] qual func code (some around) builtins) Q E s:=by
 simp only[newFunctionEnv,Option.isSome_some,ad4];refine aei (wpAny_alloc ?_);refine aei (wpAny_layCells _ (fun n k c=>rfl) _ _ _ _ ?_);rw[show({s with heap:=s.heap.push {cls:=.type "dict",data:=.dict #[]}}:cq).heap.objs.size=s.heap.objs.size+1 from aba ..];exact aei (aet (aet h))
def tW {J:Scope}:∀{names:List (Str×NameKind)} {x:Str} {k:NameKind},
  (names.map fun(n,k)=>if(k==NameKind.free&&J.kind==.function&&J.names.lookup n==some .cell) then(n,NameKind.cell) else(n,k)).lookup x=some k->
  ∃L,names.lookup x=some L/\(k=L\/(L=.free/\k=.cell))
 |[],_,_,h=>by simp at h
 |(n,M)::r,x,k,h=>by
  have O:=@tW J r x k;cases U:x==n with
  |true=>
   grind
  |_=>
   grind
structure Li (N:ky)(sc scope:Scope)(own:List (Str×Nat)):Prop where
 kind:scope.kind=.function
 uniq:∀y∈scope.names,scope.names.lookup y.1=some y.2
 ix:∀p∈own,N[p.2]?=some p.1
 free:∀y∈scope.names,y.2=.free->sc.names.lookup y.1=some .cell\/sc.names.lookup y.1=some .free
 own:∀y∈scope.names,y.2=.local\/y.2=.cell->y.1∈own.map (·.1)\/y.1∉N
def wipe (σ:St):ko->St
 |[]=>σ
 |v::vs=>(wipe σ vs).set v none
def sW (σ:St):∀vs:ko,(wipe σ vs).length=σ.length
 |[]=>rfl
 |v::vs=>by unfold wipe;rw[acf,sW σ vs]
def xK:∀{vs:ko},(wipe σ vs)[i]?=some (some x)->σ[i]?=some (some x)/\i∉vs
 |[],h=>⟨h,by simp⟩
 |v::vs,h=>by
  unfold wipe at h
  by_cases hi:v=i
  .grind
  .rw[ab1 hi] at h;obtain _:=xK h
   grind
abbrev Cx.HW (X:Cx)(s:cq)(H:Hp)(scope:Scope)(cenv:Env)(fp:mu):Cx:={X with Dj:=s,H_0:=H,env:=cenv,outer:=X.stack,ex:=fp,fn:=fun x=>scope.names.lookup x==some .cell,pn:=[],xe:=fun _ _=>False}
section
variable {X:Cx}{nj:kB}{σ:St}{H:Hp}{s:cq}
def KZ (I:Inv X nj σ H s)(ok:Li X.N X.env.scope scope own)(hN:X.N.Nodup)(U:∀b∈fp,xH X nj H b/\b < s.heap.objs.size):
  Inv (X.HW s H scope (compEnvC scope (cellsFrom (s.heap.objs.size+1) scope.names (cP X.env.cells scope.names [])) s.heap.objs.size X.env) fp) [] (wipe σ (own.map (·.2))) H {s with heap:=pushCells (s.heap.push {cls:=.type "dict",data:=.dict #[]}) scope.names}:=by
 have hfree:∀y∈scope.names,y.2=.free-> ∃c,X.env.cells.lookup y.1=some c:=fun y hy e=>by
  rcases ok.free y hy e with k|k
  .exact I.ok.has _ (.inl k)
  .exact I.ok.has _ (.inr k)
 generalize L:compEnvC scope _ s.heap.objs.size X.env=J;have kp:∀b o,s.heap.get? b=some o->(pushCells (s.heap.push {cls:=.type "dict",data:=.dict #[]}) scope.names).get? b=some o:=fun b o e=>aed _ _ _ _ (aa6 _ e)
 have hL:J.locals=s.heap.objs.size:=by rw[<- L];rfl
 have M:J.cells=cellsFrom (s.heap.objs.size+1) scope.names (cP X.env.cells scope.names []):=by rw[<- L];rfl
 have hsc:J.scope=relS scope X.env.scope:=by rw[<- L];rfl
 rw[<- aba s.heap {cls:=.type "dict",data:=.dict #[]}] at M;have cm:∀{y c},(y,c)∈cP X.env.cells scope.names []->X.env.cells.lookup y=some c/\c < s.heap.objs.size:=fun {y c} O=>by
  rcases nr O with O|⟨h1,rfl⟩
  .cases O
  .obtain⟨c,hc⟩:=hfree _ h1 rfl;rw[hc];obtain⟨w,z⟩:=I.cell _ _ hc;exact⟨rfl,z.lt⟩
 have mem:∀{y c},J.cells.lookup y=some c->_\/(s.heap.objs.size+1<=c/\UN _ c none):=fun {y c} e=>by
  rw[M] at e
  rcases qX (adS e) with O|⟨_,h2,h3⟩
  .exact .inl (cm O)
  .rw[aba] at h2;exact .inr ⟨h2,h3⟩
 have look:∀{y},scope.names.lookup y=some .free-> ∃c,J.cells.lookup y=some c/\X.env.cells.lookup y=some c:=fun {y} hl=>by
  have hy:=adS hl;obtain⟨c',Y⟩:=mem_lookup (u5 (pW hy));rw[<- M] at Y;refine⟨c',Y, ?_⟩;rw[M] at Y
  rcases qX (adS Y) with O|⟨h1,_,_⟩
  .exact (cm O).1
  .have:=ok.uniq _ h1
   rw[hl] at this;cases this
 have Yk:(X.HW s H scope J fp).Ok:=by
  refine⟨I.ok.mod,by rw[hsc];exact ok.kind,by rw[<- L];exact I.ok.glob,by rw[<- L];exact I.ok.blt,by rw[hL];exact ac_ _,
   fun y z c e1 e2=> ?_,fun y hy=> ?_,fun y c z e=> ?_,I.ok.hd,I.ok.frames,.inl rfl,fun b hb=>⟨?_,fun y c e z=> ?_⟩,I.bs,adb I.ok.QG I.sz,fun b o e hb=> ?_,fun b hb z=> ?_,I.stack,I.FJ⟩
  .have e1:=e1;rw[M] at e1 e2;refine yp (fun p hp=> ?_) (fun y z c a b=>I.ok.inj y z c (cm a).1 (cm b).1) (adS e1) (adS e2);rw[aba];exact adi (cm hp).2
  .show ∃c,J.cells.lookup y=some c
   have key:∀k,J.kindOf y=some k->_-> ∃c,J.cells.lookup y=some c:=fun k hk hk'=>by
    delta Env.kindOf at hk;rw[hsc] at hk;obtain⟨k',e,r⟩:=tW hk;have:k'=.cell\/k'=.free:=by
     rcases r with rfl|⟨rfl,_⟩
     .exact hk'
     .exact .inr rfl
    rcases this with rfl|rfl
    .obtain⟨c,O⟩:=yq (adS e);obtain⟨c',Y⟩:=mem_lookup O;exact⟨c',by rw[M];exact Y⟩
    .obtain⟨c,h1,_⟩:=look e;exact⟨c,h1⟩
   rcases hy with hy|hy
   .exact key _ hy (.inl rfl)
   .exact key _ hy (.inr rfl)
  .have z:=z;have z:=by simpa using z
   rw[M] at e
   rcases qX (adS e) with O|⟨_,h2,_⟩
   .rcases nr O with O|⟨h1,_⟩
    .cases O
    .have q:=ok.uniq _ h1;rw[z] at q;nomatch q
   .rw[aba] at h2;exact ac9 h2
  .show b≠J.locals
   rw[hL];exact adp (U b hb).2
  .have e:=e
   rcases mem e with⟨h1,_⟩|⟨h1,_⟩
   .exact (U b hb).1.2.2.2.2.1 y c h1 z
   .have h2:s.heap.objs.size+1<=b:=by rw[<- z];exact h1
    exact absurd (adg (U b hb).2 (ac9 h2)) (ade _)
  .rcases (U b hb).1.2.2.2.1 with z|z
   .exact I.ok.Ml b o e z
   .exact absurd (adg (aa_ e) (adb I.ok.QG z)) (ade _)
  .rcases acu.mp (I.LL b z) with z|z
   .exact (U b hb).1.2.1 z
   .exact (U b hb).1.2.2.1 z
 refine⟨Yk,rfl,I.bare,Un.kept kp,⟨fun _=>none, ?_,fun i y av e1 e2 Z=> ?_⟩,fun y c e=> ?_, ?_,fun y c e=> ?_,fun p hp=> ?_,I.cK.kept kp,by rw[sW];exact I.len⟩
 .show Heap.Ns _ J.locals _
  rw[hL];exact Heap.Ns.keeps (Heap.Ns.new ..) fun b o e=>aed _ _ _ _ e
 .obtain⟨e2,hne⟩:=xK e2;have hfr:scope.names.lookup y=some .free/\(J.kindOf y=some .cell\/J.kindOf y=some .free):=by
   have key:∀k,J.scope.names.lookup y=some k->k=.local\/k=.cell\/k=.free->scope.names.lookup y=some .free/\(J.kindOf y=some .cell\/J.kindOf y=some .free):=fun k hk hk'=>by
    have hk0:=hk;rw[hsc] at hk;obtain⟨k',e,r⟩:=tW hk;have no:¬_:=fun hh=>by
     rcases ok.own _ (adS e) hh with Y|Y
     .obtain⟨p,hp,hpy⟩:=acA.mp Y;have Z:=ok.ix p hp;have:p.1=y:=hpy
      rw[this] at Z;exact hne (acA.mpr ⟨p,hp,Be hN Z e1⟩)
     .exact Y (acB e1)
    rcases r with rfl|⟨rfl,rfl⟩
    .rcases hk' with rfl|rfl|rfl
     .exact absurd (.inl rfl) no
     .exact absurd (.inr rfl) no
     .exact⟨e,.inr hk0⟩
    .exact⟨e,.inl hk0⟩
   rcases Z with Z|Z|Z
   .exact key _ Z (.inl rfl)
   .exact key _ Z (.inr (.inl rfl))
   .exact key _ Z (.inr (.inr rfl))
  obtain⟨m,hn,hl⟩:=I.loc;have hvis:Vis X.env.scope y:=(ok.free _ (adS hfr.1) rfl).elim (fun k=>.inr (.inl k)) (fun k=>.inr (.inr k));obtain⟨w,r,q⟩:=hl i y av e1 e2 hvis;refine⟨w,r,.inr ⟨hfr.2, ?_⟩⟩;obtain⟨c,h1,h2⟩:=look hfr.1
  rcases q with⟨k,_⟩|⟨_,c',Y,z⟩
  .have k:X.env.scope.names.lookup y=some .local:=k
   rcases ok.free _ (adS hfr.1) rfl with k'|k'<;>rw[show X.env.scope.names.lookup y=_ from k'] at k<;>contradiction
  .rw[h2] at Y;cases Y;exact⟨c,h1,z.keeps kp⟩
 .have e:=e
  rcases mem e with⟨h1,_⟩|⟨_,z⟩
  .obtain⟨w,z⟩:=I.cell y c h1;exact⟨w,z.keeps kp⟩
  .exact⟨_,z⟩
 .show H J.locals=none
  rw[hL];exact I.cK.fresh (ac_ _)
 .have e:=e
  rcases mem e with⟨h1,_⟩|⟨h1,_⟩
  .exact I.pH y c h1
  .exact I.cK.fresh (ac9 h1)
 .exact absurd (hp) (by simp)
def app_ok (I:Inv X nj σ H s)(M:H D=some (.lst xs))(Z:xs.length < sizeLine)(r:RelV y v)
  (h:∀s',Inv X nj σ (upd H D (.lst (xs++[y]))) s'->Q .none s'):wpAny (model X.prog X.w) X.A (call (.builtin "list.append") [.ref D,v]) Q E s:=by
 obtain⟨U,its,n,L,e⟩:=I.cK D _ M;have hl:=L.length;refine append_at e fun h' O J=> ?_
 refine h {s with heap:=h'} (I.write (by rw[M];trivial) (.inl rfl) (fun b u Y q=>(O.2 b Y).trans q) ⟨_,J⟩ ⟨by grind,its++[v],n+1,L.append (.cons r .nil), ?_⟩)
 simp[*]
def PTs (X:Cx)(ifs:List Expr)(t:TT):Prop:=
 ∀(nj:kB) (s:cq) (σ:St) (H:Hp) (Q:Bool->Hp->Prop),Inv X nj σ H s->t σ H Q->
  wpAny (model X.prog X.w) X.A (forIn ifs true fun c r=>if r=true then do let ok <- isTrue c X.env (eval c X.env);pure (ForInStep.yield ok) else pure (ForInStep.yield r)) (TP X nj σ Q) X.xe s
def Y7:TT:=fun _ H Q=>Q true H
def c6:PTs X [] Y7:=fun _ _ _ H _ I h=>wpAny_tests_nil ⟨H,I,h⟩
def pA (h:PT X c t):PTs X [c] t:=fun _ s σ H Q I hw=>wpAny_tests_one (h _ s σ H Q I hw)
end
def Pf (h:wpAny M A t Q (fun _ _=>False) s)(J:∀a s,Q a s->Q' a s):wpAny M A t Q' E s:=aep h J fun _ _ z=>False.elim z
def HI (I:Nat->cq->Prop)
  (turn:∀n s,I n s->wpAny (model prog w) A (pyNext it) (fun r M=>match r with
   |none=>R (.ok .next) M
   |some v=>wpAny (model prog w) A (letOwnedTupleGo target it v) (fun _ L=>wpAny (model prog w) A (assign target env v) (fun _ Y=>
     wpAny (model prog w) A (forIn ifs true fun c r=>if r=true then do let ok <- isTrue c env (eval c env);pure (ForInStep.yield ok) else pure (ForInStep.yield r)) (fun ok J=>
      if ok=true then wpAny (model prog w) A (eval elt env) (fun x U=>
       wpAny (model prog w) A (call (.builtin "list.append") [acc,x]) (fun _ O=>∃m,m < n/\I m O) (notedBy (model prog w) A env fun e s'=>R (.error e) s') U) (notedBy (model prog w) A env fun e s'=>R (.error e) s') J
      else ∃m,m < n/\I m J) (notedBy (model prog w) A env fun e s'=>R (.error e) s') Y) (notedBy (model prog w) A env fun e s'=>R (.error e) s') L) (notedBy (model prog w) A env fun e s'=>R (.error e) s') M) (notedBy (model prog w) A env fun e s'=>R (.error e) s') s)
  (n:Nat) (h:I n s):
  codeAny (model prog w) A (.compLoop (.ListComp elt [⟨target,iter,ifs,0⟩] scope pos) 0 it acc env) R s:=by
 refine codeAny_loop rfl I (fun n s hI=> ?_) n h;refine wpAny_noted ?_;refine aei (aez (aei (aep (turn n s hI) (fun r M h₁=> ?_) fun _ _ h'=>h')));cases r with
 |none=>exact aet h₁
 |_ v=>
  refine aei (aep h₁ (fun _ L h₁'=> ?_) fun _ _ h'=>h');refine aei (aep h₁' (fun _ Y h₂=>aei (aep h₂ (fun ok J Z=> ?_) fun _ _ h'=>h')) fun _ _ h'=>h');cases ok with
  |false=>exact aet ⟨rfl,Z⟩
  |_=>
   exact aei (aei (aep Z (fun x U h₄=>aei (aep h₄ (fun _ O h₅=>aet (aet ⟨rfl,h₅⟩)) fun _ _ h'=>h')) fun _ _ h'=>h'))
section
variable {X:Cx}
def Y8 (wi:TI)(g:TG)(tt:TT)(te:TE)(vs:ko):TE:=fun σ H Q=>wi σ H fun J H1=>∀D,H1 D=none-> ∃W:Nat->Nat->Hp->Prop,(∃m,W 0 m (upd H1 D (.lst [])))/\ ∀i m H,W i m H->
 (J.stop i H/\Q (.ref D) H)\/(J.go i H/\ ∃Nx:Hp->Prop,(∀H',Nx H'-> ∃m',m' < m/\W (i+1) m' H')/\ ∀x H',J.yld i H x H'->g x (wipe σ vs) H' fun σ2 H2=>wipe σ2 vs=wipe σ vs/\tt σ2 H2 fun b H3=>
  if b=true then te σ2 H3 fun y H4=>∃acc,H4 D=some (.lst acc)/\acc.length < sizeLine/\Nx (upd H4 D (.lst (acc++[y]))) else Nx H3)
def N6
  (hc:X.calm=true) (hN:X.N.Nodup) (I:Inv X nj σ H s) (hi:PI X tg iter wi) (ok:Li X.N X.env.scope scope own)
  (hg:∀(s:cq) (H:Hp) (C:dr) (cl:k0) (fp:mu),PG (X.HW s H scope (compEnvC scope cl C X.env) fp) tg g) (ht:∀(s:cq) (H:Hp) (C:dr) (cl:k0) (fp:mu),PTs (X.HW s H scope (compEnvC scope cl C X.env) fp) ifs tt)
  (he:∀(s:cq) (H:Hp) (C:dr) (cl:k0) (fp:mu),PE (X.HW s H scope (compEnvC scope cl C X.env) fp) elt te) (hs:∀x,foldedSetIterable iter X.env x=pure x)
  (h:Y8 wi g tt te (own.map (·.2)) σ H Q)
  (hRR:∀D C s' m H',Inv X nj σ H' s'->Q (.ref D) H'->s'.heap.Ns C m->xH X nj H' C->compPost (model X.prog X.w) X.A X.xe use Qf (.ref D) C (.ok .next) s'):
  wpAny (model X.prog X.w) X.A (comprehension (.ListComp elt [⟨tg,iter,ifs,0⟩] scope pos) scope X.env pos' (newList []) false (eval iter X.env) use) Qf X.xe s:=by
 have hfree:∀y∈scope.names,y.2=.free-> ∃c,X.env.cells.lookup y.1=some c:=fun y hy e=>by
  rcases ok.free y hy e with k|k
  .exact I.ok.has _ (.inl k)
  .exact I.ok.has _ (.inr k)
 refine wpAny_comprehension_free rfl hs (vS hfree) ok.kind (fun y hy e=>by rw[ok.uniq y hy,e])
  (gk (hi nj s σ H _ I h) fun xv s1 hx=>gk hx fun itv s2 h2=> ?_)
 obtain⟨it,fp,tn,J,H2,e,I2,T,st2,f2,q⟩:=h2;subst e;refine wpAny_newObj_type (JJ ?_) (by show 0<=sizeLine;decide);generalize hD:s2.heap.objs.size=D;have hDn:H2 D=none:=I2.cK.fresh (ac7 hD);obtain⟨W,⟨m0,w0⟩,turn⟩:=q D hDn;generalize hs3:({s2 with heap:=s2.heap.push {cls:=.type "list",data:=.seq ([]:kA).toArray}}:cq)=L;have I3:Inv X nj σ (upd H2 D (.lst [])) L:=by
  rw[<- hs3];refine I2.laid (fun b o e=>aa6 _ e) (ac7 hD) ⟨adz _,[],0,.nil, ?_⟩;rw[<- hD];exact aa7 _ rfl
 have h3:L.heap=s2.heap.push {cls:=.type "list",data:=.seq ([]:kA).toArray}:=by rw[<- hs3]
 have sz:∀b∈fp,b < s2.heap.objs.size:=fun b M=>by
  obtain⟨o,e,_⟩:=T.obj _ _ st2 b M;exact aa_ e
 have f3:∀b∈fp,xH X nj (upd H2 D (.lst [])) b/\b < L.heap.objs.size:=fun b M=>by
  have hlt:=sz b M;refine⟨⟨?_,(f2 b M).2⟩,by rw[h3,aba];exact adi hlt⟩;rw[ax (by rw[<- hD];exact adp hlt)];exact(f2 b M).1
 have st3:tn 0 L.heap:=T.keep _ _ _ st2 fun b _ o e=>by rw[h3];exact aa6 _ e
 have I4:=KZ I3 ok hN f3;have pg:=hg L (upd H2 D (.lst [])) L.heap.objs.size (cellsFrom (L.heap.objs.size+1) scope.names (cP X.env.cells scope.names [])) fp;have pt:=ht L (upd H2 D (.lst [])) L.heap.objs.size (cellsFrom (L.heap.objs.size+1) scope.names (cP X.env.cells scope.names [])) fp;have pe:=he L (upd H2 D (.lst [])) L.heap.objs.size (cellsFrom (L.heap.objs.size+1) scope.names (cP X.env.cells scope.names [])) fp
 show codeAny _ _ (.compStart (.ListComp elt [⟨tg,iter,ifs,0⟩] scope pos) 0 (.ref it) (.ref D) (compEnvC scope (cellsFrom (L.heap.objs.size+1) scope.names (cP X.env.cells scope.names [])) L.heap.objs.size X.env)) (compPost (model X.prog X.w) X.A X.xe use Qf (.ref D) L.heap.objs.size) {L with heap:=pushCells (L.heap.push {cls:=.type "dict",data:=.dict #[]}) scope.names}
 have nfp:∀b∈fp,(upd H2 D (.lst [])) b=none:=fun b M=>(f3 b M).1.1
 generalize hce:compEnvC scope (cellsFrom (L.heap.objs.size+1) scope.names (cP X.env.cells scope.names [])) L.heap.objs.size X.env=U at I4 pg pt pe ⊢;have cL:U.locals=L.heap.objs.size:=by subst hce;rfl
 generalize hH3:upd H2 D (.lst [])=Z at I3 I4 pg pt pe w0 nfp f3;generalize hs4:({L with heap:=pushCells (L.heap.push {cls:=.type "dict",data:=.dict #[]}) scope.names}:cq)=s4 at I4 ⊢;have st4:tn 0 s4.heap:=T.keep _ _ _ st3 fun b _ o e=>by rw[<- hs4];exact aed _ _ _ _ (aa6 _ e)
 have O:∀{σ':St} {H':Hp} {s':cq},Inv (X.HW L Z scope U fp) [] σ' H' s'->(∀b∈fp,H' b=none)-> ∀b∈fp,xH (X.HW L Z scope U fp) [] H' b:=fun {σ' H' s'} I' hn b M=>
  ⟨hn b M,(I'.ok.exf b M).1,I'.ok.MP b M,.inl M,fun x c e=>(I'.ok.exf b M).2 x c e,fun p hp=>absurd (show p∈([]:kB)++[] from hp) (by simp)⟩
 have loop:codeAny (model X.prog X.w) X.A (.compLoop (.ListComp elt [⟨tg,iter,ifs,0⟩] scope pos) 0 (.ref it) (.ref D) U) (compPost (model X.prog X.w) X.A X.xe use Qf (.ref D) L.heap.objs.size) s4:=by
  refine HI (fun n s'=>∃i H',Inv (X.HW L Z scope U fp) [] (wipe σ (own.map (·.2))) H' s'/\tn i s'.heap/\(∀b∈fp,H' b=none)/\W i n H') ?_ m0 ⟨0,Z,I4,st4,nfp,w0⟩;rintro n s5 ⟨i,H5,I5,st5,n5,w5⟩
  rcases turn i n H5 w5 with⟨stop,qq⟩|⟨go,Nx,hNx,step⟩
  .have td:=T.done (X.HW L Z scope U fp) rfl rfl rfl hc i [] s5 _ H5 (fun _ _=>False) I5 (O I5 n5) st5 stop;refine Pf td fun r s6 ⟨hr,I6⟩=> ?_
   subst hr;have I7:Inv X nj σ H5 s6:=I3.call' I6.os I6.base I6.cK I6.bare fun b M=>⟨(f3 b M).1.2.2.2.1,(f3 b M).1.2.1,(f3 b M).1.2.2.2.2.1,(f3 b M).1.2.2.2.2.2⟩
   have nC:H5 L.heap.objs.size=none:=by
    have z:H5 U.locals=none:=I6.free;rw[cL] at z;exact z
   obtain⟨m,hn,_⟩:=I6.loc;rw[cL] at hn;exact hRR D L.heap.objs.size s6 m H5 I7 qq hn (I3.Hb (ac_ _) nC)
  .have ti:=T.item (X.HW L Z scope U fp) rfl rfl rfl hc i [] s5 _ H5 (fun _ _=>False) I5 (O I5 n5) st5 go;refine Pf ti fun r s6 ⟨u,hr,h6⟩=> ?_
   subst hr;refine Pf h6 fun _ s7 z0=> ?_;obtain⟨x,H7,I7,r7,y7,st7,n7⟩:=z0
   have I7':=I7.pinned (O I7 n7) (T.obj _ _ st7);refine Pf (pg _ s7 _ H7 x u _ I7' r7 (step x H7 y7)) fun _ s8 z0=> ?_;obtain⟨Y,H8,I8,hw8,q8⟩:=z0
   refine Pf (pt _ s8 Y H8 _ I8 q8) fun b s9 z0=> ?_;obtain⟨H9,I9,q9⟩:=z0
   have fin:∀{s':cq} {H':Hp},Inv (X.HW L Z scope U fp) ([]++F_ fp s7.heap) Y H' s'->Nx H'-> ∃m,m < n/\ ∃i H',Inv (X.HW L Z scope U fp) [] (wipe σ (own.map (·.2))) H' s'/\tn i s'.heap/\(∀b∈fp,H' b=none)/\W i m H':=fun {s' H'} I' nx=>by
    obtain⟨m',hm,w'⟩:=hNx H' nx;have pin':∀b∈fp,∀o,s7.heap.get? b=some o->s'.heap.get? b=some o/\H' b=none:=fun b M o e=>
     let z:=I'.pin (b,o) (acs _ (acs _ (vM M e)))
     ⟨z.1,z.2.1⟩
    have hl:(wipe σ (own.map (·.2))).length=Y.length:=by rw[<- hw8,sW]
    refine⟨m',hm,i+1,H',(I'.mQ).weak hl (fun j v e=> ?_),T.keep _ _ _ st7 fun b M o e=>(pin' b M o e).1,fun b M=> ?_,w'⟩
    .rw[<- hw8] at e;exact(xK e).1
    .obtain⟨o,e,_⟩:=T.obj _ _ st7 b M;exact(pin' b M o e).2
   cases b with
   |false=>
    exact fin I9 q9
   |true=>
    refine Pf (pe _ s9 Y H9 _ I9 q9) fun z s10 ⟨yv,H10,I10,r10,acc,hD10,hz10,nx⟩=> ?_
    exact app_ok (X:=X.HW L Z scope U fp) I10 hD10 hz10 r10 fun s11 I11=>fin I11 nx
 exact codeAny_compStart_list loop (T.self X.A 0 _ _ _ st4 loop)
def gK (hc:X.calm=true)(hN:X.N.Nodup)(hi:PI X tg iter wi)(ok:Li X.N X.env.scope scope own)
  (U:∀(s:cq) (H:Hp) (C:dr) (cl:k0) (fp:mu),PG (X.HW s H scope (compEnvC scope cl C X.env) fp) tg g) (L:∀(s:cq) (H:Hp) (C:dr) (cl:k0) (fp:mu),PTs (X.HW s H scope (compEnvC scope cl C X.env) fp) ifs tt)
  (Y:∀(s:cq) (H:Hp) (C:dr) (cl:k0) (fp:mu),PE (X.HW s H scope (compEnvC scope cl C X.env) fp) elt te) (M:∀x,foldedSetIterable iter X.env x=pure x:=by intro _;rfl):
  PE X (.ListComp elt [⟨tg,iter,ifs,0⟩] scope pos) (Y8 wi g tt te (own.map (·.2))):=by
 intro _ s σ H Q I h;refine N6 hc hN I hi ok U L Y M h fun D C s' m H' I' q O f=>⟨m,O,fun h'' J=> ?_⟩
 obtain⟨f0,f1,f2,f3,f4,f5⟩:=f;exact⟨.ref D,H',I'.turned (fun b o Z e=>(J.2 b Z).trans e) f0 f1 f3 f4 f5,rfl,q⟩
def qK (hc:X.calm=true)(Y:X.N.Nodup)(hy:X.N[i]?=some y)(J:X.env.scope.names.lookup y=some .local)
  (O:swapsWith (.ListComp elt [⟨tg,iter,ifs,0⟩] scope pos) (some (.Name y py)) spos.line X.env=pure true) (hi:PI X tg iter wi) (ok:Li X.N X.env.scope scope own)
  (hg:∀(s:cq) (H:Hp) (C:dr) (cl:k0) (fp:mu),PG (X.HW s H scope (compEnvC scope cl C X.env) fp) tg g) (ht:∀(s:cq) (H:Hp) (C:dr) (cl:k0) (fp:mu),PTs (X.HW s H scope (compEnvC scope cl C X.env) fp) ifs tt)
  (he:∀(s:cq) (H:Hp) (C:dr) (cl:k0) (fp:mu),PE (X.HW s H scope (compEnvC scope cl C X.env) fp) elt te) (hs:∀x,foldedSetIterable iter X.env x=pure x:=by intro _;rfl):
  PS X (.Assign [.Name y py] (.ListComp elt [⟨tg,iter,ifs,0⟩] scope pos) spos) (tp (Y8 wi g tt te (own.map (·.2))) (i5 i)):=by
 intro _ s σ H D I h;rw[exec_Assign_Name_used _ _ _ _ O];refine aei (aez (aei ?_));refine aei (gk (N6 hc Y I hi ok hg ht he hs h fun L C s' m H' I' q hn f=> ?_) fun _ s' hq=>aet (aet hq));refine wpAny_assign_Name (EB (v:=V.ref L) I' Y hy (.inl J) rfl (fun s2 I2 ⟨a,Z,ha⟩=> ?_) (.inr J));obtain⟨f0,f1,f2,f3,f4,f5⟩:=f;have U:C≠a:=by
  grind
 refine⟨m,hn.sameBut Z U,fun h3 M=> ?_⟩;exact⟨_,H',I2.turned (fun b o hb e=>(M.2 b hb).trans e) f0 f1 f3 f4 f5,q⟩
def uI (O:env.scope.kind=.function)(L:env.scope.names.lookup y=some .local)(M:(py.line==pos.line)=true)
  (Y:(scope.names.any fun(n,k)=>n==y&&(k==.local||k==.cell))=false):swapsWith (.ListComp elt gs scope pos) (some (.Name y py)) l env=pure true:=by
 have J:env.kindOf y=some .local:=L;have U:env.blockKind=.function:=by delta Env.blockKind;rw[O];rfl
 delta swapsWith;simp only[U,J,Y,Expr.pos,M];rfl
end
def blkC (N:ky)(sc scope:Scope)(own:List (Str×Nat)):Bool:=
 (match scope.kind with| .function=>true|_=>false)&&(scope.names.all fun y=>decide (scope.names.lookup y.1=some y.2))&&(own.all fun p=>decide (N[p.2]?=some p.1))&&
  (scope.names.all fun y=>match y.2 with
   | .free=>(match sc.names.lookup y.1 with|some .cell=>true|some .free=>true|_=>false)
   | .local=>decide (y.1∈own.map (·.1))||decide (y.1∉N)
   | .cell=>decide (y.1∈own.map (·.1))||decide (y.1∉N)
   |_=>true)
def bC (h:blkC N sc scope own=true):Li N sc scope own:=by
 delta blkC at h;simp only[aaO,abv,ad0] at h;obtain⟨⟨⟨h1,h2⟩,L⟩,M⟩:=h;refine⟨?_,h2,L,fun y J e=> ?_,fun y J e=> ?_⟩
 .grind
 .grind
 .grind
end L2
namespace L2
open PySem PySem.Spec PyProof.Rows
section
variable {prog:dn}{w:fx}{A:eu}{R:Result->cq->Prop}{s:cq}{elt t0 i0 t1 i1:Expr}{ifs0 ifs1:List Expr}{scope:Scope}{pos:Pos}{it acc:ee}{env:Env}
end
section
variable {X:Cx}
end
end L2
namespace L2
open PySem PySem.Spec PyProof.Rows
section
variable {κ:Type}[DecidableEq κ]
def Lw (kvs:List (κ×V))(k:κ):Option V:=(kvs.find? fun kv=>decide (kv.1=k)).map (·.2)
def putK (kvs:List (κ×V))(k:κ)(v:V):List (κ×V):=
 if(kvs.any fun kv=>decide (kv.1=k))=true then kvs.map (fun kv=>if kv.1=k then(kv.1,v) else kv) else kvs++[(k,v)]
def Iv {k:κ}(e:p.1=k):Lw (p::r) k=some p.2:=by simp[Lw,abN,e]
def Iw {k:κ}(e:¬p.1=k):Lw (p::r) k=Lw r k:=by simp[Lw,abN,e]
def Iy (k:κ):∀kvs:List (κ×V),(kvs.any fun J=>decide (J.1=k))=(Lw kvs k).isSome
 |[]=>rfl
 |p::r=>by
  rw[aby]
  by_cases e:p.1=k
  .simp only[Iv e,adZ e,Bool.true_or,Option.isSome_some]
  .rw[Iw e,adX e,Bool.false_or];exact Iy k r
def yN (kvs:List (κ×V))(k:κ)(v:V):(putK kvs k v).length<=kvs.length+1:=by
 delta putK
 grind
def yu.Qc (r:yu o u):o.isSome=u.isSome:=by
 cases o with
 |none=>cases u with
  |none=>rfl
  |_ _=>exact(r).elim
 |_ _=>cases u with
  |none=>exact(r).elim
  |_ _=>rfl
def KV.any (r:KV kvs vs)(k:κ):(kvs.any fun J=>decide (J.1=k))=vs.any fun J=>decide (J.1=k):=by
 induction r with
 |nil=>rfl
 |_ h t L=>rw[aby,aby,L,h.1]
def KV.Zh (r:KV kvs vs)(k:κ)(M:RelV y u):
  KV (kvs.map fun J=>if J.1=k then(J.1,y) else J) (vs.map fun J=>if J.1=k then(J.1,u) else J):=by
 induction r with
 |nil=>exact .nil
 |@cons p q ps O h t L=>
  refine .cons ?_ L
  lia
def KV.put (r:KV kvs vs)(k:κ)(J:RelV y u):KV (putK kvs k y) (stored vs k u):=by
 delta putK stored;rw[r.any k]
 by_cases e:(vs.any fun L=>decide (L.1=k))=true
 .rw[ad3 e,ad3 e];exact r.Zh k J
 .rw[ad2 e,ad2 e];exact Paired.snoc r ⟨rfl,J⟩
def KV.length (r:KV kvs vs):kvs.length=vs.length:=Paired.length r
end
def Yo (r:RelV (kV k) u):(fG P w).is k u=true:=by
 cases k with
 |inl i=>obtain⟨t,e⟩:=(r);subst e;exact mW P w i t
 |inr x=>obtain⟨t,e⟩:=(r);subst e;exact JL P w x t
def EV:∀{ks:List Key} {us:kA},Vals (ks.map kV) us->ItemsAre (fG P w) ks us
 |[],_,r=>by cases r;exact .nil
 |k::ks,_,r=>by
  cases r with
  |cons h t=>exact .cons (Yo h) (EV t)
abbrev KT (H:Hp):List (List Key×V)->List (List Key×dr×ee)->Prop:=Paired fun p q=>p.1=q.1/\H q.2.1=some (.tup (p.1.map kV))/\RelV p.2 q.2.2
def KT.val (r:KT H kvs xs)(k:List Key):yu (Lw kvs k) ((atKey xs k).map (·.2)):=by
 induction r with
 |nil=>exact True.intro
 |@cons p q ps J h t M=>
  obtain⟨h1,_,h2⟩:=h
  by_cases e:p.1=k
  .have L:=h1.symm.trans e;have b:atKey (q::J) k=some q.2:=by simp[atKey,abN,L]
   rw[Iv e,b];exact h2
  .have L:¬q.1=k:=fun z=>e (h1.trans z)
   have b:atKey (q::J) k=atKey J k:=by simp[atKey,abN,L]
   rw[Iw e,b];exact M
def KT.Zh (r:KT H kvs xs)(k:List Key)(M:RelV y u):
  KT H (kvs.map fun J=>if J.1=k then(J.1,y) else J) (xs.map (putAt k u)):=by
 induction r with
 |nil=>exact .nil
 |@cons p q ps O h t L=>
  refine .cons ?_ L;delta putAt
  lia
def KT.put (r:KT H kvs xs)(k:List Key)(M:H b=some (.tup (k.map kV)))(J:RelV y u):
  KT H (putK kvs k y) (storedH xs k b u):=by
 have e:(kvs.any fun L=>decide (L.1=k))=(atKey xs k).isSome:=by
  rw[Iy,(r.val k).Qc,Option.isSome_map]
 delta putK storedH;rw[e]
 by_cases q:(atKey xs k).isSome=true
 .rw[ad3 q,ad3 q];exact r.Zh k J
 .rw[ad2 q,ad2 q];exact Paired.snoc r ⟨rfl,M,J⟩
def KT.keeps (r:KT H kvs xs)(J:∀b ys,H b=some (.tup ys)->H' b=some (.tup ys)):KT H' kvs xs:=
 Paired.SV r fun _ _ z=>⟨z.1,J _ _ z.2.1,z.2.2⟩
section
variable {P:dn}{w:fx}{H:Hp}{h:Heap}{a:dr}
def Yh (ok:rk P w H h)(e:Rd H a u):iJ P w H h a u:=e.ok ok
def dk_rd (ok:rk P w H h)(e:Rd H a (.dK kvs)):kvs.length<=sizeLine/\(a==sysModules)=false/\ ∃vs,KV kvs vs/\h.DictOf (fG P w) a vs:=
 show iJ P w H h a _ from Yh ok e
def Yy (ok:rk P w H h)(e:H a=some (.dK kvs)):kvs.length<=sizeLine/\(a==sysModules)=false/\ ∃vs,KV kvs vs/\h.DictOf (fG P w) a vs:=dk_rd ok (.inl e)
def S5 (ok:rk P w H h)(e:H a=some (.tup (ks.map kV))):(tupleKind (fG P w)).is h ks a:=by
 obtain⟨_,its,r,o,h1,h2,n,J⟩:=(ok a _ e)
 exact⟨o,its.toArray,n,h1,h2,J,by exact EV r⟩
def dt_rd (ok:rk P w H h)(e:Rd H a (.dT kvs)):kvs.length<=sizeLine/\(a==sysModules)=false/\
  ∃xs,KT H kvs xs/\h.DictOfH (tupleKind (fG P w)) a xs:=by
 obtain⟨z,y,xs,r,o,es,ep,h1,h2,O,M,L⟩:=(Yh ok e)
 refine⟨z,y,xs,r,o,es,ep,h1,h2,O,M,fun x J=> ?_,L⟩;have all:∀{l:List _} {m:List _},KT H l m-> ∀x∈m,(tupleKind (fG P w)).is h x.1 x.2.1:=by
  intro l m q
  induction q with
  |nil=>intro x J;exact nomatch J
  |@cons p q ps U Z t Y=>
   intro x J
   rcases acu.mp J with e|J
   .subst e;exact S5 ok (by lia)
   .grind
 grind
def dt_of (ok:rk P w H h)(e:H a=some (.dT kvs)):kvs.length<=sizeLine/\(a==sysModules)=false/\
  ∃xs,KT H kvs xs/\h.DictOfH (tupleKind (fG P w)) a xs:=dt_rd ok (.inl e)
end
def UM (H:Hp)(a:dr)(y v:V)(H':Hp):Prop:=
 (∃kvs k,H a=some (.dK kvs)/\y=kV k/\kvs.length < sizeLine/\H'=upd H a (.dK (putK kvs k v)))\/
 ∃kvs k b,H a=some (.dT kvs)/\y=.ref b/\H b=some (.tup (k.map kV))/\kvs.length < sizeLine/\H'=upd H a (.dT (putK kvs k v))
def UM.k {k:Key}(e:H a=some (.dK kvs))(J:kvs.length < sizeLine):UM H a (kV k) v (upd H a (.dK (putK kvs k v))):=.inl ⟨kvs,k,e,rfl,J,rfl⟩
section
variable {X:Cx}{nj:kB}{σ:St}{H:Hp}{s:cq}{a:dr}{y v:V}{u r:ee}{o:Option V}{A:eu}{E:ee->cq->Prop}
def Inv.big (I:Inv X nj σ H s):sysModules < s.heap.objs.size:=by
 have h:=(I.mod.glob.keeps I.bk).lt;exact adk (by decide) h
def Oz (I:Inv X nj σ H s)(L:Mut (H a))(M:Heap.SameBut a s.heap h')(O:∃q,h'.get? a=some q)(J:iJ X.prog X.w (upd H a ob) h' a ob):
  Inv X nj σ (upd H a ob) {s with heap:=h',toks:=t'}:=
 I.write L (.inl rfl) (fun b q U z=>(M.2 b U).trans z) O J
def aay (z:kvs.length<=sizeLine)(hd:(a==sysModules)=false)(J:KV kvs vs)(L:h'.DictOf (fG P w) a vs):
  iJ P w H' h' a (.dK kvs):=⟨z,hd,vs,J,L⟩
def Qv (hu:A.units+1 < cLine)(I:Inv X nj σ H s)(g:UM H a y v H')(ry:RelV y u)(rv:RelV v r)(h:∀s',Inv X nj σ H' s'->Q () s'):
  wpAny (model X.prog X.w) A (setItem (.ref a) u r) Q E s:=by
 rcases g with⟨kvs,k,e,Y,l,Z⟩|⟨kvs,k,b,e,Y,eb,l,Z⟩
 .subst Y Z;obtain⟨z,hd,vs,J,dd⟩:=Yy I.cK e;have hz:vs.length<=sizeLine:=by rw[<- J.length];exact z
  have U:(putK kvs k v).length<=sizeLine:=by have:=yN kvs k v;lia
  refine wpAny_setItem_pairs (Yo ry) dd fun h' L O=>h _ ?_
  have he:∃q,h'.get? a=some q:=let⟨q,_,_,M,_⟩:=L;⟨q,M⟩;exact Oz I (by rw[e];exact True.intro) O he (aay U hd (J.put k rv) L)
 .subst Y Z;cases(ry);obtain⟨z,hd,xs,J,dd⟩:=dt_of I.cK e;have hz:xs.length<=sizeLine:=by rw[<- Paired.length J];exact z
  have U:(putK kvs k v).length<=sizeLine:=by have:=yN kvs k v;lia
  refine wpAny_setItem_heap (tupleKind_room_in1 hu) (S5 I.cK eb) dd fun h' L O=>h _ ?_
  obtain⟨q,es,ep,M,h2,h3,h4,_,h5⟩:=L;refine Oz I (by rw[e];exact True.intro) O ⟨q,M⟩ ⟨U,hd,_,(J.put k eb rv).keeps fun c ys ec=> ?_,q,es,ep,M,h2,h3,h4,h5⟩;rw[ax (ne_of ec e (fun z=>nomatch z))];exact ec
end
section
variable {X:Cx}{nj:kB}{σ:St}{H:Hp}{s:cq}{a:dr}{kvs:List (Key×V)}{k:Key}{u:ee}{A:eu}{E:ee->cq->Prop}
end
def NoSl (i:Expr):Prop:=∀ov iv,subscripted i false ov iv=operate [ov,iv] (getItem ov iv)
def Vy {T id:String}
  (hl:typeLookup (.type T) "__getitem__"=pure (some (.builtin id))) (Z:NoSl slice)
  (h:wpAny (model prog w) A (eval value env) (fun o O=>wpAny (model prog w) A (eval slice env) (fun i J=>J.TypeIs o T/\wpAny (model prog w) A (getItem o i) Q E J) E O) E s):
  wpAny (model prog w) A (eval (.Subscript value slice pos) env) Q E s:=by
 refine Subscript_ (aep h (fun o O Y=>aep Y (fun i J L=> ?_) fun _ _ x=>x) fun _ _ x=>x);obtain⟨hT,L⟩:=L;refine aei ?_;refine aei (wpAny_specialOf hT hl ?_);have fin:wpAny (model prog w) A (subscripted slice false o i) (fun r M=>wpAny (model prog w) A (letTemporaryGo value o r>>=fun _=>pure r) Q E M) E J:=by
  rw[Z o i];exact wpAny_operating (aep L (fun r M U=>aei (wpAny_letTemporaryGo (aet U))) fun _ _ x=>x)
 first
  |exact aet (aei fin)
  |exact _ _
  |exact _ fin
def Yf (td ty tv:TE):TS:=fun D σ H=>tv σ H fun v H1=>td σ H1 fun x H2=>ty σ H2 fun y H3=>∃a H4,x=.ref a/\UM H3 a y v H4/\D.nx σ H4
section
variable {X:Cx}{o i e value:Expr}{pos pos' tpos:Pos}{td ty tv:TE}
def V2 (hu:X.A.units+1 < cLine)(ho:PE X o td)(hi:PE X i ty)(hv:PE X value tv)(hs:swapsWith value (some (.Subscript o i pos')) pos.line X.env=pure false):
  PS X (.Assign [.Subscript o i pos'] value pos) (Yf td ty tv):=by
 intro _ s σ H D I h;refine wpAny_Assign_Subscript (gk (hv _ s σ H _ I h) fun r L ⟨v,H1,I1,U,q1⟩=>gk (ho _ L σ H1 _ I1 q1) fun u J ⟨x,H2,I2,O,Z⟩=>gk (hi _ J σ H2 _ I2 Z) fun iv s3 ⟨y,H3,I3,M,a,H4,ex,g,Y⟩=> ?_) hs;subst ex;obtain rfl:u=Value.ref a:=O;exact Qv hu I3 g M U fun s4 I4=>⟨σ,H4,I4,Y⟩
end
def T2 (h:Heap)(J:sysModules < h.objs.size):iJ P w H (h.push {cls:=.type "dict",data:=.dict #[]}) h.objs.size (.dK []):=
 ⟨adz _,beq_eq_false_iff_ne.mpr (Ne.symm (adp J)),[],.nil,Heap.DictOf.new h⟩
def Ro:TE:=fun _ H Q=>∀p,H p=none->Q (.ref p) (upd H p (.dK []))
section
variable {X:Cx}{pos:Pos}
def Su:PE X (.Dict [] [] pos) Ro:=fun _ s σ H Q I h=>
 wpAny_Dict_empty ⟨.ref s.heap.objs.size,_,I.laid (fun _ _ q=>aa6 _ q) (ac_ _) (T2 _ I.big),rfl,h _ (I.cK.fresh (ac_ _))⟩
end
section
variable {X:Cx}{nj:kB}{σ:St}{H:Hp}{s:cq}{a:dr}{y d:V}{u r:ee}{o:Option V}{A:eu}{E:ee->cq->Prop}
end
section
variable {X:Cx}{o e f:Expr}{apos cpos:Pos}{td ty tx:TE}
end
section
variable {X:Cx}{nj:kB}{σ:St}{H:Hp}{s:cq}{a:dr}{kvs:List (Key×V)}{A:eu}{E:ee->cq->Prop}
end
section
variable {X:Cx}{nj:kB}{σ:St}{H:Hp}{s:cq}{a:dr}{y:V}{u:ee}{A:eu}{E:ee->cq->Prop}
end
end L2
namespace L2
open PySem PySem.Spec PyProof.Rows
section
variable {prog:dn}{w:fx}{A:eu}{E:ee->cq->Prop}
end
section
variable {X:Cx}
end
end L2
namespace L2
open PySem PySem.Spec PyProof.Rows
section
variable {X:Cx}{nj:kB}{σ:St}{H:Hp}{s:cq}{h':Heap}
def Inv.NL {ch:mu}(I:Inv X nj σ H s)(k:∀b o,b∉ch->s.heap.get? b=some o->h'.get? b=some o)(J:∀b∈ch,xH X nj H b):Inv X nj σ H {s with heap:=h',toks:=t'}:=by
 have M:∀b u,H b=some u->b∉ch:=fun b u e z=>by
  have q:=(J b z).1
  lia
 refine I.step (fun b L=>⟨(J b L).2.2.2.1,(J b L).2.1,(J b L).2.2.2.2.1,(J b L).2.2.2.2.2⟩) (fun b o _ _ hc e _=>k b o hc e) (fun b o _ _ hc e _=>⟨o.slots,k b o hc e⟩)
  (fun _ _ _ _ n=>n) (fun b o hc e=>⟨o,k b o hc e⟩) (fun _ _ e=>e) (fun _ _ _ e=>e) (fun b ps e=>⟨#[],by rw[e];rfl⟩) (fun m U=> ?_) (fun b u e=> ?_) I.bare
 .obtain⟨o,es,ep,O,r⟩:=U;exact⟨o,es,ep,k _ o (fun z=>(J _ z).2.1 rfl) O,r⟩
 .refine (I.cK b u e).kJ (fun c v hc q=>k c v ?_ q) (fun _ q=>q) fun _ _ q=>q
  grind
def Inv.xO {ch:mu}(I:Inv X nj σ H s)(k:∀b o,b∉ch->s.heap.get? b=some o->h'.get? b=some o)(L:∀b∈ch,xH X nj H b)(U:s.heap.objs.size<=T)
  (O:iJ X.prog X.w (upd H T ob) h' T ob):Inv X nj σ (upd H T ob) {s with heap:=h',toks:=t'}:=by
 have M:=I.cK.fresh U;have Y:∀b u,H b=some u->b∉ch:=fun b u e z=>by
  have q:=(L b z).1
  lia
 refine I.step (fun b J=>⟨(L b J).2.2.2.1,(L b J).2.1,(L b J).2.2.2.2.1,(L b J).2.2.2.2.2⟩) (fun b o _ _ hc e _=>k b o hc e) (fun b o _ _ hc e _=>⟨o.slots,k b o hc e⟩)
  (fun b o _ e n=> ?_) (fun b o hc e=>⟨o,k b o hc e⟩) (fun b xs e=> ?_) (fun b o u e=> ?_) (fun b ps e=>⟨#[], ?_⟩) (fun m hm=> ?_) (fun b u e=> ?_) I.bare
 .rw[ax (adp (adg (aa_ e) U))];exact n
 .rw[ax (aS e M)];exact e
 .rw[ax (aS e M)];exact e
 .rw[ax (aS e M),e];rfl
 .obtain⟨o,es,ep,Z,r⟩:=hm;exact⟨o,es,ep,k _ o (fun z=>(L _ z).2.1 rfl) Z,r⟩
 .by_cases J:b=T
  .subst J;rw[ah] at e;cases e;exact O
  .rw[ax J] at e;refine(I.cK b u e).kJ (fun c v hc q=>k c v ?_ q) (fun c q=>by rw[ax (aS q M)];exact q) fun c xs q=>by rw[ax (aS q M)];exact q
   grind
end
section
variable {X:Cx}
end
def RgC (i j c:Int)(n:Nat):Prop:=c≠0/\c.natAbs < 1073741824/\Builtin.Range.small i j c=true/\Builtin.Range.rangeSize i j c=n
section
variable {X:Cx}{tg:Expr}
end
section
variable {X:Cx}{tg:Expr}
end
section
variable {prog:dn}{w:fx}{A:eu}{E:ee->cq->Prop}{s:cq}
end
def R4 (h:BH k u=true):RelV (kV k) u:=by
 rcases fm h with⟨i,t,rfl,rfl⟩|⟨x,t,rfl,rfl⟩
 .exact⟨t,rfl⟩
 .exact⟨t,rfl⟩
section
variable {X:Cx}{nj:kB}{σ:St}{H:Hp}{s:cq}{d:dr}{o:Obj}
end
section
variable {P:dn}{w:fx}{K:b0}{tg:Expr}{d:dr}{o:Obj}{es:Array DictEntry}{ep:Nat}
end
section
variable {X:Cx}{tg e:Expr}{td:TE}{apos cpos:Pos}
end
def Ite (K:b0)(a:dr):It:=
 ⟨fun i H=>∃(xs:List V) (x:V),dh K H a xs/\xs[i]?=some x,fun i H v H'=>∃T x,v=.ref T/\H T=none/\H'=upd H T (.tup [.int (i:Nat),x])/\ ∀xs,dh K H a xs->xs[i]?=some x,fun i H=>∃xs:List V,dh K H a xs/\xs.length<=i⟩
def Pd {P:dn}{w:fx}{K:b0}{elts:List Expr}{kk:Nat}{tpos:Pos}(a e it:dr):
  Turn P w K (.Tuple elts kk tpos) (Ite K a) [e,it] e (fun i h=>(∃J,IsEnum h e it ((i:Nat):Int) J)/\h.IsListIter it a i/\e≠it) where
 mem:=by simp
 obj:=fun i h st b M=>by
  obtain⟨⟨J,U⟩,⟨o,ho,hc,hd⟩,_⟩:=st;have e':=by simpa using M
  rcases e' with z|z
  .rw[z];simp[*]
  .rw[z];simp[*]
 keep:=fun i h h' st k=>let⟨⟨J,U⟩,hi,L⟩:=st;⟨⟨J,k e (by simp) _ U⟩,hi.at fun o q=>k it (by simp) o q,L⟩
 item:=by
  intro X hP hw hK hc i nj s σ H E I hf st hg;subst hP hw hK;obtain⟨⟨J,U⟩,O,L⟩:=st;obtain⟨xs,x,hq,hx⟩:=hg;obtain⟨its,rv,p,hz⟩:=I.list hq;obtain⟨u,hu,ru⟩:=rv.get hx;have Z:=aa_ U;have hil:it < s.heap.objs.size:=by obtain⟨_,q,_⟩:=O;exact aa_ q
  refine wpAny_pyNext_enum_item U O p.isList (by simpa using hu) L fun h' ho Y hT hsz hk=> ?_
  refine⟨_,rfl,wpAny_letOwnedTupleGo_enum ho fun h'' he' sb=> ?_⟩;have hT2:=(sb.2 _ (ado Z)).trans hT;have new:iJ X.prog X.w (upd H s.heap.objs.size (.tup [.int i,x])) h'' _ (.tup [.int i,x]):=
   ⟨by show 2<=sizeLine;decide,[.int i s.toks,u],.cons ⟨_,rfl⟩ (.cons ru .nil),⟨_,hT2,rfl,_,rfl⟩⟩
  have I1:Inv X _ σ _ {s with heap:=h'',toks:=s.toks+1}:=
   I.xO (fun b ob M q=>(sb.2 b (fun z=>M (by simp[z]))).trans (hk b ob (fun z=>M (by simp[z])) (fun z=>M (by simp[z])) q)) hf (ac_ _) new
  refine⟨.ref s.heap.objs.size,_,I1,rfl,⟨_,x,rfl,I.cK.fresh (ac_ _),rfl,fun ys hy=>by rw[I.oQ hy hq];exact hx⟩,⟨⟨u, ?_⟩,Y.at fun o q=>(sb.2 it (Ne.symm L)).trans q,L⟩,fun b M=> ?_⟩
  .have e1:=by omega
   exact he'
  .have hb':b < s.heap.objs.size:=by
    have e':=by simpa using M
    rcases e' with z|z
    .rw[z];exact Z
    .rw[z];exact hil
   rw[ax (adp hb')];exact(hf b M).1
 done:=by
  intro X hP hw hK hc i nj s σ H E I hf st hg;subst hP hw hK;obtain⟨⟨J,U⟩,O,L⟩:=st;obtain⟨xs,hq,hx⟩:=hg;obtain⟨its,rv,p,hz⟩:=I.list hq;obtain⟨f0,f1,f2,f3,f4,f5⟩:=hf it (by simp);have hl:=rv.length;exact wpAny_pyNext_enum_end (I.ok.hd hc) U O p.isList (by simp;lia) fun h' eb=>⟨rfl,I.turned (fun b o M q=>eb b o M q) f0 f1 f3 f4 f5⟩
 self:=fun A i s Q E st h=>let⟨⟨_,U⟩,_⟩:=st;wpAny_pyIter_enum U h
def Td (K:b0)(ta:TA):TI:=fun σ H R=>ta σ H fun vs H1=>∃a xs,vs=[.ref a]/\dh K H1 a xs/\R (Ite K a) H1
def V6 (hg:Gl X "enumerate")(hm:X.mg "enumerate"=none)(ha:PA X [e] ta)(hs:starEach [e] X.env=[(false,eval e X.env)]:=by rfl):
  PI X (.Tuple elts kk tpos) (.Call (.Name "enumerate" p) [e] [] pos) (Td X.K ta):=by
 intro _ s σ H R I h;refine Call_ (lX I hg hm boot_enumerate (adG (gk (ha pos _ s σ H _ I h) fun us J ⟨vs,H1,M,Z,q1⟩=> ?_) hs rfl));obtain⟨a,xs,ex,hq,q⟩:=q1;subst ex;cases Z with
 |cons r Y=>
  cases Y;subst r;obtain⟨its,rv,p',hz⟩:=M.list hq;refine call_enumerate_list p'.isList fun h' U O hsz hk=>wpAny_pyIter_enum U ?_
  have I2:Inv X _ σ H1 {J with heap:=h'}:=M.kept hk;refine xi5 (J.heap.objs.size+1) [J.heap.objs.size+1,J.heap.objs.size] _ _ H1 ⟨rfl,I2,Pd a _ J.heap.objs.size,⟨⟨.none,U⟩,O,Nat.succ_ne_self _⟩,fun b hb=> ?_,q⟩;have L:J.heap.objs.size<=b:=by
   grind
  exact M.Hb L (M.cK.fresh L)
def Fb:bootBuiltins "zip"=some (.type "zip"):=by decide+kernel
def Itz (K:b0)(a b:dr):It:=
 ⟨fun i H=>∃(xs ys:List V) (x y:V),dh K H a xs/\dh K H b ys/\xs[i]?=some x/\ys[i]?=some y,
  fun i H v H'=>∃T x y,v=.ref T/\H T=none/\H'=upd H T (.tup [x,y])/\(∀xs,dh K H a xs->xs[i]?=some x)/\ ∀ys,dh K H b ys->ys[i]?=some y,
  fun i H=>∃xs ys:List V,dh K H a xs/\dh K H b ys/\(xs.length<=i\/ys.length<=i)⟩
def Rj {P:dn}{w:fx}{K:b0}{elts:List Expr}{kk:Nat}{tpos:Pos}{a b z TI TO i1 i2:dr}(D:ZipApart z TI TO i1 i2 a b):
  Turn P w K (.Tuple elts kk tpos) (Itz K a b) [z,TI,TO,i1,i2] z (fun i h=>IsZip h z TI TO .none/\IsPair h TI (.ref i1) (.ref i2)/\(∃x y,IsPair h TO x y)/\h.IsListIter i1 a i/\h.IsListIter i2 b i) where
 mem:=by simp
 obj:=fun i h st c hc=>by
  obtain⟨hz,J,⟨x,y,M⟩,⟨o1,e1,_,d1⟩,⟨o2,e2,_,d2⟩⟩:=st;have e':=by simpa using hc
  rcases e' with q|q|q|q|q
  .rw[q];exact⟨_,hz,fun v q=>nomatch q⟩
  .rw[q];exact⟨_,J,fun v q=>nomatch q⟩
  .rw[q];exact⟨_,M,fun v q=>nomatch q⟩
  .rw[q];exact⟨o1,e1,fun v q=>by rw[d1] at q;contradiction⟩
  .rw[q];exact⟨o2,e2,fun v q=>by rw[d2] at q;contradiction⟩
 keep:=fun i h h' st k=>by
  obtain⟨hz,J,⟨x,y,M⟩,h1,h2⟩:=st;exact⟨k z (by simp) _ hz,k TI (by simp) _ J,xi2 x y (k TO (by simp) _ M),h1.at fun o q=>k i1 (by simp) o q,h2.at fun o q=>k i2 (by simp) o q⟩
 item:=by
  intro X hP hw hK hc i nj s σ H E I hf st hg;subst hP hw hK;obtain⟨hz,J,⟨x0,y0,M⟩,h1,h2⟩:=st;obtain⟨xs,ys,x,y,Y,U,hx,hy⟩:=hg;obtain⟨its,rv,p,_⟩:=I.list Y;obtain⟨Z,rv2,p2,_⟩:=I.list U;obtain⟨u,hu,ru⟩:=rv.get hx;obtain⟨u2,hu2,ru2⟩:=rv2.get hy;have hzl:=aa_ hz;refine wpAny_pyNext_zip_item D hz J M h1 h2 p.isList p2.isList (by simpa using hu) (by simpa using hu2) fun h' z' TO' h1' h2' hT hsz hk=> ?_
  refine⟨_,rfl,wpAny_letOwnedTupleGo_zip z' fun h'' z'' sb=> ?_⟩;have hT2:=(sb.2 _ (ado hzl)).trans hT;have new:iJ X.prog X.w (upd H s.heap.objs.size (.tup [x,y])) h'' s.heap.objs.size (.tup [x,y]):=
   ⟨by show 2<=sizeLine;decide,[u,u2],.cons ru (.cons ru2 .nil),⟨_,hT2,rfl,_,rfl⟩⟩
  have I1:Inv X nj σ _ {s with heap:=h''}:=
   I.xO (fun c o O q=>(sb.2 c (fun L=>O (by simp[L]))).trans (hk c o (fun L=>O (by simp[L])) (fun L=>O (by simp[L])) (fun L=>O (by simp[L])) (fun L=>O (by simp[L])) q)) hf (ac_ _) new
  refine xi2 (.ref s.heap.objs.size) _ ⟨I1,rfl,xi3 _ x y ⟨rfl,I.cK.fresh (ac_ _),rfl,fun l hl=>by rw[I.oQ hl Y];exact hx,fun l hl=>by rw[I.oQ hl U];exact hy⟩,⟨z'', ?_,xi2 u u2 (?_), ?_, ?_⟩,fun c hcm=> ?_⟩
  .exact (sb.2 _ D.TIz).trans (hk _ _ D.TIz D.TITO D.TIi1 D.TIi2 J)
  .exact (sb.2 _ D.TOz).trans TO'
  .exact h1'.at fun o q=>(sb.2 _ D.i1z).trans q
  .exact h2'.at fun o q=>(sb.2 _ D.i2z).trans q
  .have hlt:c < s.heap.objs.size:=by
    have e':=by simpa using hcm
    rcases e' with q|q|q|q|q
    .rw[q];exact hzl
    .rw[q];exact aa_ J
    .rw[q];exact aa_ M
    .rw[q];obtain⟨_,e1,_⟩:=h1;exact aa_ e1
    .rw[q];obtain⟨_,e2,_⟩:=h2;exact aa_ e2
   rw[ax (adp hlt)];exact(hf c hcm).1
 done:=by
  intro X hP hw hK hc i nj s σ H E I hf st hg;subst hP hw hK;obtain⟨hz,J,⟨x0,y0,M⟩,h1,h2⟩:=st;obtain⟨xs,ys,Y,U,hend⟩:=hg;obtain⟨its,rv,p,_⟩:=I.list Y;obtain⟨Z,rv2,p2,_⟩:=I.list U;have l1:=rv.length;have l2:=rv2.length;have he:its.toArray[i]?=none\/Z.toArray[i]?=none:=by
   rcases hend with q|q
   .exact .inl (by simp;lia)
   .exact .inr (by simp;lia)
  exact wpAny_pyNext_zip_end (I.ok.hd hc) D hz J M h1 h2 p.isList p2.isList he fun h' hk=>⟨rfl,I.NL (fun c o O q=>
   hk c o (fun L=>O (by grind)) (fun L=>O (by simp[L])) (fun L=>O (by simp[L])) (fun L=>O (by simp[L])) q) hf⟩
 self:=fun A i s Q E st h=>aev st.1 h
def Z6 (K:b0)(ta:TA):TI:=fun σ H R=>ta σ H fun vs H1=>∃a b xs ys,vs=[.ref a,.ref b]/\dh K H1 a xs/\dh K H1 b ys/\R (Itz K a b) H1
def ZF (hg:Gl X "zip")(hm:X.mg "zip"=none)(ha:PA X [e,e2] ta)
  (hs:starEach [e,e2] X.env=(false,eval e X.env)::starEach [e2] X.env:=by rfl) (Z:(backTo pos (starEach [e2] X.env)).any (·.1)=false:=by rfl):
  PI X (.Tuple elts kk tpos) (.Call (.Name "zip" p) [e,e2] [] pos) (Z6 X.K ta):=by
 intro _ s σ H R I h;refine Call_ (lX I hg hm Fb (adG (gk (ha pos _ s σ H _ I h) fun us J ⟨vs,H1,M,r1,q1⟩=> ?_) hs Z));obtain⟨a,b,xs,ys,ex,Y,U,q⟩:=q1;subst ex;cases r1 with
 |cons r O=>
  cases O with
  |cons r' O=>
   cases O;subst r;subst r';obtain⟨its,rv,p1,_⟩:=M.list Y;obtain⟨its2,rv2,p2,_⟩:=M.list U;have la:=p1.lt;have lb:=p2.lt;refine call_zip_2 p1.isList p2.isList fun h' hz hTI hTO h1 h2 hsz hk=>aev hz ?_
   have I2:Inv X _ σ H1 {J with heap:=h'}:=M.kept hk;refine xi5 (J.heap.objs.size+4) [J.heap.objs.size+4,J.heap.objs.size+2,J.heap.objs.size+3,J.heap.objs.size,J.heap.objs.size+1] _ _ H1 ⟨rfl,I2,Rj (PySem.W.ktu_apart _ a b la lb),⟨hz,hTI,xi2 _ _ hTO,h1,h2⟩,fun c hcm=> ?_,q⟩;have L:J.heap.objs.size<=c:=by
    grind
   exact M.Hb L (M.cK.fresh L)
end L2
namespace Bits
open PySem PyProof.Rows
def zh (m:Nat):∀n:Nat,(m^^^n)+2*(m&&&n)=m+n:=by
 induction m using Nat.strongRecOn with
 |_ m L=>
  intro n
  by_cases O:m=0
  .grind
  .have J:=L (m / 2) (by lia) (n / 2);rw[<- Nat.xor_div_two,<- Nat.and_div_two] at J;have M:=@Nat.xor_mod_two_eq_one m n;have a1:=@Nat.and_mod_two_eq_one m n;lia
end Bits
namespace TL
open PySem PySem.Builtin PySem.Builtin.Str PySem.StrLaws
end TL
namespace L2
open PySem PySem.Spec PyProof.Rows
section
variable {X:Cx}{nj:kB}{σ:St}{H:Hp}{s:cq}{Q:VK}
end
section
variable {X:Cx}
end
section
variable {X:Cx}{o e:Expr}{to te:TE}
end
end L2
namespace L2
open PySem PySem.Spec PyProof.Rows
section
variable {X:Cx}
end
end L2
namespace Att
open PySem PySem.W PySem.Calls PyProof.Rows
section
variable {prog:dn}{w:fx}{A:eu}{E:ee->cq->Prop}{s:cq}{K:Frag}
end
end Att
namespace L2
open PySem PySem.Spec PyProof.Rows
end L2
namespace L2
open PySem PySem.Spec PyProof.Rows
end L2
namespace L2
open PySem PySem.Spec PyProof.Rows
def inClass (s:Stmt)(j:Nat):Stmt:=match s with
 | .ClassDef _ _ _ body _ _ _ _ _ _ _=>body.getD j (.Pass ⟨0,0,0,0⟩)
 |_=>.Pass ⟨0,0,0,0⟩
def nZ (s:Stmt):Arguments:=match s with
 | .FunctionDef _ a _ _ _ _ _ _ _ _=>a
 |_=>{posonlyargs:=[],args:=[],vararg:=none,kwonlyargs:=[],kw_defaults:=[],kwarg:=none,defaults:=[]}
def e_ (s:Stmt):List Stmt:=match s with
 | .FunctionDef _ _ b _ _ _ _ _ _ _=>b
 |_=>[]
def aO (s:Stmt):Scope:=match s with
 | .FunctionDef _ _ _ _ _ _ sc _ _ _=>sc
 |_=>{kind:=.function,names:=[],isGenerator:=false,isCoroutine:=false}
abbrev sQ:CXT:=fun _ _ _ _ _ _=>False
abbrev E0:XK:=fun _ _ _=>False
def Jm:Passes sQ X E0:=fun _ _ _ _ _ _ _ h=>h.elim
structure yW (K:b0)(x qual:Str)(st:Stmt)(f:dr)(fd:c5):Prop where
 ex:∃(oc:ee) (od:Option dr) (kV doc pm:ee) (an:Option dr) (cdv ct:ee) (osl:Array (Option ee)),
  fd=PySem.W.fnOf x qual (nZ st) (e_ st) (aO st) .none kV doc pm an cdv ct/\K.lookup f=some ⟨oc,od,.func fd,osl⟩/\PySem.W.codeIn K cdv qual=true
 kp:PySem.W.keepIn K (.ref f)=true
section
variable {P:dn}{w:fx}{K:b0}{mg:gp}{base:Heap}
def yW.ok {st:Stmt}(F:yW K x qual st f fd)(S:dN N ps (aO st))(len:∀vs H Q E,sp vs H Q E->vs.length=ps.length)
  (L:∀(J:ee) (A:eu) (outer:List Env) (s:cq) (H:Hp) (vs:List V) (Q:VK) (E:XK),fM k (A.deeper (envOfC qual (aO st) s.heap.objs.size f J))->sp vs H Q E->
   ∃t,Eo (je sQ P w K mg base N qual (aO st) f J A outer s H E).PY (e_ st) t/\t {nx:=fun _ H'=>Q .iB H',rt:=Q} (rd N vs) H):fA P w K mg base sQ (k+1) f fd ps sp:=by
 obtain⟨oc,od,kV,doc,pm,an,J,ct,U,rfl,Y,O⟩:=F.ex;refine Yv Y O S len fun A _ s H vs Q E Z M=> ?_
 obtain⟨t,h,q⟩:=L J A _ s H vs Q E Z M;exact⟨t,h.PY,q⟩
def yW.binds {st:Stmt}(F:yW K x qual st f fd)
  (h:∀(kV doc L:ee) (M:Option dr) (J ct:ee) (us:kA),us.length=ps.length->bindArgs (PySem.W.fnOf x qual (nZ st) (e_ st) (aO st) .none kV doc L M J ct) ⟨us,[]⟩=pure (ps.zip us)):Binds K fd ps []:=by
 obtain⟨Z,Y,kV,doc,L,M,J,ct,O,rfl,lk,U⟩:=F.ex;exact .all (h kV doc L M J ct)
def aae {st:Stmt}{kV doc L J ct:ee}(l:K.lookup f=some ⟨oc,od,.func (PySem.W.fnOf x qual (nZ st) (e_ st) (aO st) .none kV doc L an J ct),osl⟩)
  (c:PySem.W.codeIn K J qual=true) (k:PySem.W.keepIn K (.ref f)=true):yW K x qual st f (PySem.W.fnOf x qual (nZ st) (e_ st) (aO st) .none kV doc L an J ct):=⟨xi5 oc od kV doc L (xi4 an J ct osl ⟨rfl,l,c⟩),k⟩
end
section
variable {X:Cx}
def pv (i:Nat){x:Str}{pos:Pos}(M:X.N[i]?=some x:=by rfl)(L:true=viB X.env.scope x:=by rfl)(hd:(x==("__debug__":Str))=false:=by decide)
  (J:(x==("__classdict__":Str))=false:=by decide):PE X (.Name x pos) (cc i):=ZJ M (viV L) hd J
end
def aE (H H':Hp):Prop:=∀b o,H b=some o->H' b=some o
def aE.refl (H:Hp):aE H H:=fun _ _ h=>h
def aE.trans (a:aE H H1)(b:aE H1 H2):aE H H2:=fun c o h=>b c o (a c o h)
def aE.free (e:aE H H')(h:H' l=Option.none):H l=Option.none:=by
 cases q:H l with
 |none=>rfl
 |_ o=>
  rw[e l o q] at h;contradiction
def aE.seq {K:b0}(e:aE H H')(h:dh K H a xs):dh K H' a xs:=by
 rcases h with(h|⟨o,h⟩)|h
 .exact .inl (.inl (e _ _ h))
 .exact .inl (.inr ⟨o,e _ _ h⟩)
 .exact .inr h
section
variable {κ:Type}[DecidableEq κ]
end
def at_of {j:Nat}(e:z=(j:Int))(h:xs[j]?=some v):OI xs z=some v:=by
 rw[e];exact XE h
end L2
section
end
section
end
end
section
section
namespace L2
open PySem PySem.Spec PyProof.Rows
open PySem.W (WData Codec OpenSpec Well WellAll ReadsW ReadsAllW)
mutual
inductive Dw (K:b0)(H:Hp):V->WData->Prop
 |iB:Dw K H .iB .none
 |bl (b:Bool):Dw K H (.bl b) (.bool b)
 |int (i:Int):Dw K H (.int i) (.int i)
 |str (x:Str):Dw K H (.str x) (.str x)
 |KY (b:Array UInt8):Dw K H (.KY b) (.bytes b.toList)
 |lst {a:dr} {xs:List V} {ds:List WData}:dh K H a xs->uC K H xs ds->Dw K H (.ref a) (.list ds)
 |tup {a:dr} {xs:List V} {ds:List WData}:mO K H a xs->uC K H xs ds->Dw K H (.ref a) (.tuple ds)
inductive uC (K:b0)(H:Hp):List V->List WData->Prop
 |nil:uC K H [] []
 |cons {v:V} {vs:List V} {d:WData} {ds:List WData}:Dw K H v d->uC K H vs ds->uC K H (v::vs) (d::ds)
end
def Ot {K:b0}:∀ns:hA,uC K H (ns.map V.int) (ns.map WData.int)
 |[]=>.nil
 |n::r=>.cons (.int n) (Ot r)
def Oc {K:b0}:∀(ns:hA) (xs:List V),uC K H xs (ns.map WData.int)->xs=ns.map V.int
 |[],xs,h=>by
  cases h;rfl
 |n::r,xs,h=>by
  cases h with
  |cons h1 h2=>
   cases h1;rw[Oc r _ h2]<;>rfl
section
variable {P:dn}{w:fx}{K:b0}{H:Hp}{h:Heap}{R:PySem.W.WRecords}{cl:Str->Option dr}
def Zc (cK:rk P w H h)(L:K.In h)(q:dh K H a xs):∃(its:kA) (o:Obj) (n:Nat),Vals xs its/\h.get? a=some o/\o.cls=.type "list"/\o.data=.seq its.toArray n:=by
 rcases q with q|⟨o,its,n,e,hc,_,hd,_,J⟩
 .obtain⟨_,its,n,J,e⟩:=(q.ok cK)
  simp[*]
 .exact⟨its.toList,o,n,J,L _ _ e,hc,by omega⟩
def Zb (cK:rk P w H h)(L:K.In h)(q:mO K H a xs):∃(its:kA) (o:Obj) (n:Nat),Vals xs its/\h.get? a=some o/\o.cls=.type "tuple"/\o.data=.seq its.toArray n:=by
 rcases q with q|⟨o,its,n,e,hc,hd,_,J⟩
 .obtain⟨_,its,J,o,e,hc,n,hd⟩:=(q.ok cK)
  simp[*]
 .exact⟨its.toList,o,n,J,L _ _ e,hc,by omega⟩
mutual
theorem Dw.reads (cK:rk P w H h)(J:K.In h):∀(d:WData) (v:V) (u:ee),Dw K H v d->RelV v u-> ∃as,ReadsW R cl h u d as
 | .none,_,_,x,r=>by
  cases x;cases r;exact⟨_,ReadsW.none⟩
 | .bool b,_,_,x,r=>by
  cases x;cases r;exact⟨_,ReadsW.bool b⟩
 | .int i,_,_,x,r=>by
  cases x;obtain⟨t,rfl⟩:=r;exact⟨_,ReadsW.int i t⟩
 | .str s,_,_,x,r=>by
  cases x;obtain⟨t,rfl⟩:=r;exact⟨_,ReadsW.str s t⟩
 | .bytes b,_,_,x,r=>by
  cases x;obtain⟨t,rfl⟩:=r;exact⟨_,ReadsW.bytes _ t⟩
 | .list ds,_,_,x,r=>by
  cases x with
  |lst M Y=>
   cases r;obtain⟨its,o,n,L,U,hc,hd⟩:=Zc cK J M;obtain⟨as,O⟩:=Dw.readsAll cK J ds _ its Y L;exact⟨_,ReadsW.list U hc hd O⟩
 | .tuple ds,_,_,x,r=>by
  cases x with
  |tup M Y=>
   cases r;obtain⟨its,o,n,L,U,hc,hd⟩:=Zb cK J M;obtain⟨as,O⟩:=Dw.readsAll cK J ds _ its Y L;exact⟨_,ReadsW.tuple U hc hd O⟩
 | .float _,_,_,x,_=>by cases x
 | .dict _,_,_,x,_=>by cases x
 | .bytearray _,_,_,x,_=>by cases x
 | .set _,_,_,x,_=>by cases x
 | .frozenset _,_,_,x,_=>by cases x
 | .obj _ _,_,_,x,_=>by cases x
theorem Dw.readsAll (cK:rk P w H h)(J:K.In h):∀(ds:List WData) (vs:List V) (us:kA),uC K H vs ds->Vals vs us-> ∃as,ReadsAllW R cl h us ds as
 |[],_,_,x,r=>by
  cases x;cases r;exact⟨_,ReadsAllW.nil⟩
 |d::ds,_,_,x,r=>by
  cases x with
  |cons h1 h2=>
   cases r with
   |cons L r2=>
    obtain⟨as,O⟩:=Dw.reads cK J d _ _ h1 L;obtain⟨bs,M⟩:=Dw.readsAll cK J ds _ _ h2 r2;exact⟨_,ReadsAllW.cons O M⟩
end
end
mutual
def PB:WData->Bool
 | .none=>true
 | .bool _=>true
 | .int _=>true
 | .str _=>true
 | .bytes _=>true
 | .list xs=>AE xs
 | .tuple xs=>AE xs
 |_=>false
def AE:List WData->Bool
 |[]=>true
 |x::r=>PB x&&AE r
end
def Jk {f:J->WData}(h:∀a,PB (f a)=true):∀l:List J,AE (l.map f)=true
 |[]=>rfl
 |x::r=>by
  show(PB _&&AE _)=true
  rw[h x,Jk h r]<;>rfl
def tP:∀(c:Codec) (a:c.denote),PB (c.enc a)=true
 | .unit,_=>rfl
 | .bool,_=>rfl
 | .int _ _,_=>rfl
 | .nat _ _,_=>rfl
 | .u8,_=>rfl
 | .bytes _ _,_=>rfl
 | .text _ _ _ _,_=>rfl
 | .list _ _ c,a=>Jk (fun x=>tP c x) a
 | .pair c d,a=>by
  show(PB (c.enc a.1)&&(PB (d.enc a.2)&&true))=true
  rw[tP c a.1,tP d a.2]<;>rfl
 | .triple c d e,a=>by
  show(PB (c.enc a.1)&&(PB (d.enc a.2.1)&&(PB (e.enc a.2.2)&&true)))=true
  rw[tP c a.1,tP d a.2.1,tP e a.2.2]<;>rfl
 | .option c,none=>rfl
 | .option c,some x=>tP c x
def EI:∀(J:List Codec) (a:Codec.denoteAll J),AE (Codec.encAll J a)=true
 |[],_=>rfl
 |c::J,a=>by
  show(PB _&&AE _)=true
  rw[tP c a.1,EI J a.2]<;>rfl
def vz:∀{xs:List WData} {d:WData},d∈xs->d.weight<=WData.weightAll xs
 |[],d,h=>absurd h (by simp)
 |x::r,d,h=>by
  show _<=_+1+WData.weightAll r
  rcases acu.mp h with e|m
  .grind
  .have z:=vz m;lia
def toV:ee->V
 | .none=>.iB
 | .bool b=>.bl b
 | .int i _=>.int i
 | .str x _=>.str x
 | .bytes b _=>.KY b
 | .ref a=>.ref a
 |_=>.iB
def QO (A:mu):ee->Prop
 | .none=>True
 | .bool _=>True
 | .int _ _=>True
 | .str _ _=>True
 | .bytes _ _=>True
 | .ref a=>a∈A
 |_=>False
def QO.mono (h:∀a∈A,a∈B):∀{u:ee},QO A u->QO B u:=fun {u} x=>by
 cases u with
 |ref a=>exact h a x
 |none=>trivial
 |bool b=>trivial
 |int i t=>trivial
 |str s t=>trivial
 |bytes b t=>trivial
 |_=>assumption
def R3 (x:QO A u):RelV (toV u) u:=by
 cases u with
 |ref a=>rfl
 |none=>rfl
 |bool b=>rfl
 |int i t=>exact⟨t,rfl⟩
 |str s t=>exact⟨t,rfl⟩
 |bytes b t=>exact⟨t,rfl⟩
 |_=>exact False.elim x
def qG:∀{vs:kA},(∀u∈vs,QO A u)->Vals (vs.map toV) vs
 |[],_=>.nil
 |u::r,h=>.cons (R3 (h u (acw ..))) (qG fun x J=>h x (acv _ J))
def sS (h:Heap)(A:mu)(a:dr):Prop:=∃vs:kA,vs.length<=sizeLine/\(∀u∈vs,QO A u)/\
 (h.get? a=some {cls:=.type "list",data:=.seq vs.toArray}\/h.get? a=some {cls:=.type "tuple",data:=.seq vs.toArray})
def sS.mono (k:∀a∈A,a∈B)(x:sS h A a):sS h B a:=by
 obtain⟨vs,h1,h2,L⟩:=x;exact⟨vs,h1,fun u J=>(h2 u J).mono k,L⟩
def o5:∀{vs:kA} {ds:List WData},WellAll P h vs ds->vs.length=ds.length
 |_,_,.nil=>rfl
 |_,_,.cons _ b=>by
  show _+1=_+1
  rw[o5 b]
def Eu (x:Well P h v (.list ds)):∃(a:dr) (vs:kA),v=.ref a/\h.get? a=some {cls:=.type "list",data:=.seq vs.toArray}/\WellAll P h vs ds:=by
 cases x with
 |list J _=>simp[*]
def zV (x:Well P h v (.tuple ds)):∃(a:dr) (vs:kA),v=.ref a/\h.get? a=some {cls:=.type "tuple",data:=.seq vs.toArray}/\WellAll P h vs ds:=by
 cases x with
 |tuple J _=>simp[*]
def Ew (x:WellAll P h us (d::ds)):∃(v:ee) (vs:kA),us=v::vs/\Well P h v d/\WellAll P h vs ds:=by
 cases x with
 |cons a b=>exact⟨_,_,rfl,a,b⟩
def N5 (h:n<=1048576):n<=sizeLine:=adb h (by decide)
section
variable {P:Params}{h:Heap}
mutual
theorem UH:∀(d:WData) (v:ee),Well P h v d->PB d=true->d.weight<=1048576-> ∃A:mu,QO A v/\ ∀a∈A,sS h A a
 | .none,_,x,_,_=>by
  cases x;exact⟨[],trivial,fun a m=>absurd m (by simp)⟩
 | .bool b,_,x,_,_=>by
  cases x;exact⟨[],trivial,fun a m=>absurd m (by simp)⟩
 | .int i,_,x,_,_=>by
  cases x;exact⟨[],trivial,fun a m=>absurd m (by simp)⟩
 | .str s,_,x,_,_=>by
  cases x;exact⟨[],trivial,fun a m=>absurd m (by simp)⟩
 | .bytes b,_,x,_,_=>by
  cases x;exact⟨[],trivial,fun a m=>absurd m (by simp)⟩
 | .list ds,_,x,p,z=>by
  obtain⟨a,vs,rfl,U,J⟩:=Eu x;have M:WData.weightAll ds<=1048576:=z;obtain⟨A,h1,h2⟩:=xB ds _ J p fun d hd=>adb (vz hd) M
  have k:∀b∈A,b∈a::A:=fun b L=>acv _ L
  refine⟨a::A,acw ..,fun b L=> ?_⟩
  rcases acu.mp L with e|m
  .rw[e];exact⟨vs,N5 (by rw[o5 J];exact adb (adO ds) M),fun u O=>(h1 u O).mono k,.inl U⟩
  .exact (h2 b m).mono k
 | .tuple ds,_,x,p,z=>by
  obtain⟨a,vs,rfl,U,J⟩:=zV x;have M:WData.weightAll ds<=1048576:=z;obtain⟨A,h1,h2⟩:=xB ds _ J p fun d hd=>adb (vz hd) M
  have k:∀b∈A,b∈a::A:=fun b L=>acv _ L
  refine⟨a::A,acw ..,fun b L=> ?_⟩
  rcases acu.mp L with e|m
  .rw[e];exact⟨vs,N5 (by rw[o5 J];exact adb (adO ds) M),fun u O=>(h1 u O).mono k,.inr U⟩
  .exact (h2 b m).mono k
 | .float _,_,_,p,_=>Bool.noConfusion (show false=true from p)
 | .dict _,_,_,p,_=>Bool.noConfusion (show false=true from p)
 | .bytearray _,_,_,p,_=>Bool.noConfusion (show false=true from p)
 | .set _,_,_,p,_=>Bool.noConfusion (show false=true from p)
 | .frozenset _,_,_,p,_=>Bool.noConfusion (show false=true from p)
 | .obj _ _,_,_,p,_=>Bool.noConfusion (show false=true from p)
theorem xB:∀(ds:List WData) (vs:kA),WellAll P h vs ds->AE ds=true->(∀d∈ds,d.weight<=1048576)-> ∃A:mu,(∀u∈vs,QO A u)/\ ∀a∈A,sS h A a
 |[],_,x,_,_=>by
  cases x;exact⟨[],fun u m=>absurd m (by simp),fun a m=>absurd m (by simp)⟩
 |d::ds,_,x,p,z=>by
  obtain⟨v,vs,rfl,U,O⟩:=Ew x;have q:=Bool.and_eq_true_iff.mp p;obtain⟨A,a1,a2⟩:=UH d v U q.1 (z d (acw ..));obtain⟨B,b1,b2⟩:=xB ds vs O q.2 fun e Z=>z e (acv _ Z)
  have M:∀b∈A,b∈A++B:=fun b J=>acq.mpr (.inl J)
  have L:∀b∈B,b∈A++B:=fun b J=>acq.mpr (.inr J)
  refine⟨A++B,fun u Y=> ?_,fun b J=> ?_⟩
  .rcases acu.mp Y with e|m
   .rw[e];exact a1.mono M
   .exact (b1 u m).mono L
  .rcases acq.mp J with m|m
   .exact (a2 b m).mono M
   .exact (b2 b m).mono L
end
end
def WC (o:Obj):Option HO:=match o.data with
 | .seq vs _=>if(o.cls==Value.type "list")=true then some (.G_ o (.lst (vs.toList.map toV))) else some (.G_ o (.tup (vs.toList.map toV)))
 |_=>none
def qD (K:b0)(h:Heap)(A:mu):Hp:=fun b=>if b∈A then(if(K.lookup b).isNone=true then(h.get? b).bind WC else none) else none
def Lc (H:Hp):Prop:=∀b,H b=none\/ ∃o u,H b=some (.G_ o u)
def J1 (vs:kA):WC {cls:=.type "list",data:=.seq vs.toArray}=some (.G_ {cls:=.type "list",data:=.seq vs.toArray} (.lst (vs.map toV))):=by
 rfl
def J0 (vs:kA):WC {cls:=.type "tuple",data:=.seq vs.toArray}=some (.G_ {cls:=.type "tuple",data:=.seq vs.toArray} (.tup (vs.map toV))):=by
 rfl
section
variable {P:dn}{w:fx}{K:b0}{h:Heap}{A:mu}
def zO (L:b∈A)(J:K.lookup b=none)(e:h.get? b=some o):qD K h A b=WC o:=by
 delta qD
 simp[*]
def Wk (q:qD K h A b=some u):b∈A/\K.lookup b=none:=by
 delta qD at q
 by_cases J:b∈A
 .rw[ad3 J] at q;cases L:K.lookup b with
  |none=>exact⟨J,rfl⟩
  |_ o=>
   simp_all
 .grind
def xA (O:∀a∈A,sS h A a)(q:qD K h A b=some u):K.lookup b=none/\ ∃vs:kA,vs.length<=sizeLine/\(∀u∈vs,QO A u)/\
  ((h.get? b=some {cls:=.type "list",data:=.seq vs.toArray}/\u=.G_ {cls:=.type "list",data:=.seq vs.toArray} (.lst (vs.map toV)))\/
  (h.get? b=some {cls:=.type "tuple",data:=.seq vs.toArray}/\u=.G_ {cls:=.type "tuple",data:=.seq vs.toArray} (.tup (vs.map toV)))):=by
 obtain⟨L,J⟩:=Wk q;obtain⟨vs,h1,h2,M⟩:=O b L;refine⟨J,vs,h1,h2, ?_⟩
 rcases M with e|e
 .rw[zO L J e,J1] at q
  simp_all
 .rw[zO L J e,J0] at q
  simp_all
def QK (J:∀a∈A,sS h A a):Lc (qD K h A):=fun b=>by
 cases q:qD K h A b with
 |none=>exact .inl rfl
 |_ u=>
  obtain⟨_,vs,_,_,_|_⟩:=xA J q
  .simp_all
  .simp_all
def XF (J:∀a∈A,sS h A a):rk P w (qD K h A) h:=fun b u q=>by
 obtain⟨_,vs,h1,h2,⟨e,rfl⟩|⟨e,rfl⟩⟩:=xA J q
 .exact⟨e,by grind,vs,_,qG h2,e⟩
 .exact⟨e,by grind,vs,qG h2,_,e,rfl,_,rfl⟩
def argL (Y:K.In h)(U:∀a∈A,sS h A a){vs:kA}(L:a∈A)(e:h.get? a=some {cls:=.type "list",data:=.seq vs.toArray}):(∀u∈vs,QO A u)/\dh K (qD K h A) a (vs.map toV):=by
 obtain⟨us,h1,h2,Z⟩:=U a L;have O:us=vs:=by
  lia
 subst O;refine⟨h2, ?_⟩;cases J:K.lookup a with
 |none=>exact .inl (.inr ⟨_,by rw[zO L J e,J1]⟩)
 |_ o=>
  have M:=Y a o J;rw[e] at M;obtain rfl:=adD M;exact .inr (xi3 _ us.toArray _ ⟨J,rfl,rfl,rfl,by exact h1,by exact qG h2⟩)
def argT (Y:K.In h)(U:∀a∈A,sS h A a){vs:kA}(L:a∈A)(e:h.get? a=some {cls:=.type "tuple",data:=.seq vs.toArray}):(∀u∈vs,QO A u)/\mO K (qD K h A) a (vs.map toV):=by
 obtain⟨us,h1,h2,Z⟩:=U a L;have O:us=vs:=by
  lia
 subst O;refine⟨h2, ?_⟩;cases J:K.lookup a with
 |none=>exact .inl (.inr ⟨_,by rw[zO L J e,J0]⟩)
 |_ o=>
  have M:=Y a o J;rw[e] at M;obtain rfl:=adD M;exact .inr (xi3 _ us.toArray _ ⟨J,rfl,rfl,by exact h1,by exact qG h2⟩)
mutual
theorem aax {Z:Params}(M:K.In h)(L:∀a∈A,sS h A a):∀(d:WData) (v:ee),Well Z h v d->PB d=true->QO A v->Dw K (qD K h A) (toV v) d
 | .none,_,x,_,_=>by
  cases x;exact .iB
 | .bool b,_,x,_,_=>by
  cases x;exact .bl b
 | .int i,_,x,_,_=>by
  cases x;exact .int i
 | .str s,_,x,_,_=>by
  cases x;exact .str s
 | .bytes b,_,x,_,_=>by
  cases x;have z:=Dw.KY (K:=K) (H:=qD K h A) b.toArray;exact z
 | .list ds,_,x,p,O=>by
  obtain⟨a,vs,rfl,Y,J⟩:=Eu x;obtain⟨h2,U⟩:=argL M L O Y;exact .lst U (Hg M L ds _ J p h2)
 | .tuple ds,_,x,p,O=>by
  obtain⟨a,vs,rfl,Y,J⟩:=zV x;obtain⟨h2,U⟩:=argT M L O Y;exact .tup U (Hg M L ds _ J p h2)
 | .float _,_,_,p,_=>Bool.noConfusion (show false=true from p)
 | .dict _,_,_,p,_=>Bool.noConfusion (show false=true from p)
 | .bytearray _,_,_,p,_=>Bool.noConfusion (show false=true from p)
 | .set _,_,_,p,_=>Bool.noConfusion (show false=true from p)
 | .frozenset _,_,_,p,_=>Bool.noConfusion (show false=true from p)
 | .obj _ _,_,_,p,_=>Bool.noConfusion (show false=true from p)
theorem Hg {Y:Params}(M:K.In h)(L:∀a∈A,sS h A a):∀(ds:List WData) (vs:kA),WellAll Y h vs ds->AE ds=true->(∀u∈vs,QO A u)->uC K (qD K h A) (vs.map toV) ds
 |[],_,x,_,_=>by
  cases x;exact .nil
 |d::ds,_,x,p,J=>by
  obtain⟨v,vs,rfl,U,O⟩:=Ew x;have q:PB d=true/\AE ds=true:=Bool.and_eq_true_iff.mp p;exact .cons (aax M L d v U q.1 (J _ (acw ..))) (Hg M L ds vs O q.2 fun u m=>J u (acv _ m))
end
end
def BD (h:WData.layableAll ds=true):∀d∈ds,d.weight<=1048576:=fun d hd=>
 (PySem.W.layableW_iff.mp (abv.mp h d hd)).2.2
def B4:∀(J:List Codec) (a:Codec.denoteAll J),(Codec.encAll J a).length=J.length
 |[],_=>rfl
 |c::J,a=>by
  show(Codec.encAll J a.2).length+1=J.length+1
  rw[B4 J a.2]
end L2
end
end
namespace L2
open PySem
def sr {H:Hp}:aE H H:=fun _ _ h=>h
def sl1:1<=sizeLine:=by decide
def sl2:2<=sizeLine:=by decide
def sl3:3<=sizeLine:=by decide
def sl4:4<=sizeLine:=by decide
def sl5:5<=sizeLine:=by decide
def sl7:7<=sizeLine:=by decide
end L2
namespace My
open PySem PySem.Spec PyProof.Rows L2
def dD:dr:=430
def nB:Nat×Nat:=(227,45)
def DW:Str:="best_first.<locals>.<lambda>"
def vR (c:dr):Heap->Prop:=fun h=>h.CodeRec (.ref c) DW
def OK (H:Hp)(ps:Array ee):Prop:=ps=#[]\/ ∃c,ps=#[rawInt nB.1,rawInt nB.2,.ref c]/\H c=some (.ext (vR c))
def Tab (H:Hp):Prop:=∃ps,H dD=some (.xI ps)/\OK H ps
def NT:HO->Prop
 | .xI _=>False
 | .ext _=>False
 |_=>True
def OK.same (t:OK H ps)(s:aE H H'):OK H' ps:=by
 rcases t with t|⟨c,e,h⟩
 .exact .inl t
 .exact .inr ⟨c,e,s _ _ h⟩
def Tab.same (t:Tab H)(s:aE H H'):Tab H':=let⟨ps,h,o⟩:=t;⟨ps,s _ _ h,o.same s⟩
def Tab.put (t:Tab H)(J:H p=some u)(n:NT u):Tab (upd H p o):=by
 obtain⟨ps,h,z⟩:=t;have h1:dD≠p:=fun e=>by
  rw[e,J] at h;cases h;exact n
 refine⟨ps,by rw[ax h1];exact h, ?_⟩
 rcases z with z|⟨c,e,hc⟩
 .exact .inl z
 .have h2:c≠p:=fun e=>by
   rw[e,J] at hc;cases hc;exact n
  exact .inr ⟨c,e,by rw[ax h2];exact hc⟩
def Tab.ne (t:Tab H)(J:H p=none):dD≠p:=fun e=>by
 obtain⟨ps,h,_⟩:=t
 lia
def Tab.ne2 (t:Tab H)(J:H p=some u)(n:NT u):dD≠p:=fun e=>by
 obtain⟨ps,h,_⟩:=t;rw[e,J] at h;cases h;exact n
def qa (H:Hp)(b:dr):HO->Prop
 | .xI _=>∃ps,H b=some (.xI ps)
 |o=>H b=some o
def qa.of (h:H b=some o):qa H b o:=by
 cases o<;>first|exact h|exact⟨_,h⟩
def qa.is (h:qa H b o)(n:NT o):H b=some o:=by
 cases o<;>first|exact h|exact n.elim
def qa.ne (h:qa H b o):H b≠none:=fun z=>by
 cases o<;>first|(obtain⟨_,h⟩:=h;rw[z] at h;contradiction)|(rw[show H b=_ from h] at z;contradiction)
def qa.then (h:qa H1 b o)(k:∀o,H1 b=some o->qa H2 b o):qa H2 b o:=by
 cases o<;>first|exact k _ h|(obtain⟨ps,h⟩:=h;exact(k _ h:qa _ _ _))
def Kp (H H':Hp):Prop:=∀b o,H b=some o->qa H' b o
def Yn (s:aE H H'):Kp H H':=fun b o h=>.of (s b o h)
def Kp.refl (H:Hp):Kp H H:=fun _ _ h=>.of h
def Kp.trans (a:Kp H H1)(b:Kp H1 H2):Kp H H2:=fun c o h=>by
 have h1:=a c o h;cases o<;>first|exact b c _ h1|(obtain⟨ps,h1⟩:=h1;exact(b c _ h1:qa _ _ _))
def Kp.free (a:Kp H H')(h:H' p=none):H p=none:=by
 cases q:H p with
 |none=>rfl
 |_ o=>exact absurd h (a p o q).ne
structure Sub (G H:Hp):Prop where
 at_:aE G H
 gt:G dD=none
 tab:Tab H
instance {G H:Hp}:CoeFun (Sub G H) (fun _=>∀b o,G b=some o->H b=some o):=⟨Sub.at_⟩
def Sub.free (s:Sub G H)(h:H p=none):G p=none:=s.at_.free h
def Sub.trans (s:Sub G H)(e:aE H H'):Sub G H':=⟨s.at_.trans e,s.gt,s.tab.same e⟩
def Sub.pre (s:Sub G' H)(e:aE G G'):Sub G H:=⟨e.trans s.at_,e.free s.gt,s.tab⟩
structure Ext (G H G' H':Hp):Prop where
 gg:aE G G'
 hh:Kp H H'
 gh:Sub G' H'
 fr:∀b,H b≠none->G b=none->G' b=none
def Ext.refl (s:Sub G H):Ext G H G H:=⟨aE.refl _,Kp.refl _,s,fun _ _ h=>h⟩
def Ext.trans (a:Ext G H G1 H1)(b:Ext G1 H1 G2 H2):Ext G H G2 H2:=
 ⟨a.gg.trans b.gg,a.hh.trans b.hh,b.gh,fun c h g=>b.fr c (fun z=>h (a.hh.free z)) (a.fr c h g)⟩
def bB (J:H p=none):aE H (upd H p o):=fun b u e=>by
 rw[ax (aS e J)];exact e
def Ext.laid (s:Sub G H)(J:H p=none):Ext G H (upd G p o) (upd H p o):=
 ⟨bB (s.free J),Yn (bB J),⟨fun b u e=>by
  by_cases h:b=p
  .subst h;rw[ah] at e ⊢;exact e
  .rw[ax h] at e ⊢;exact s.at_ b u e,by rw[ax (s.tab.ne J)];exact s.gt,s.tab.same (bB J)⟩,fun b L g=>by
  by_cases h:b=p
  .grind
  .rw[ax h];exact g⟩
def Ext.own (s:Sub G H)(J:H p=none):Ext G H G (upd H p o):=
 ⟨aE.refl _,Yn (bB J),s.trans (bB J),fun _ _ h=>h⟩
abbrev Rp (a:Type):=Hp->V->a->Prop
class aK {a:Type}(R:Rp a):Prop where
 mono:∀{G G':Hp} {v:V} {x:a},aE G G'->R G v x->R G' v x
def af:Rp Int:=fun _ v i=>v=.int i
def dQ:Rp Bool:=fun _ v b=>v=.bl b
instance:aK af:=⟨fun _ h=>h⟩
instance:aK dQ:=⟨fun _ h=>h⟩
def aE.tup {K:b0}(e:aE H H')(h:mO K H a xs):mO K H' a xs:=by
 rcases h with(h|⟨o,h⟩)|h
 .exact .inl (.inl (e _ _ h))
 .exact .inl (.inr ⟨o,e _ _ h⟩)
 .exact .inr h
def ag {a:Type}(R:Rp a):Rp (List a):=fun G v xs=>∃p vs,v=.ref p/\G p=some (.lst vs)/\Paired (R G) vs xs
def XN {a:Type}(K:b0)(R:Rp a):Rp (List a):=fun G v xs=>∃p vs,v=.ref p/\mO K G p vs/\Paired (R G) vs xs
def aq [aK R](s:aE G G')(h:Paired (R G) vs xs):Paired (R G') vs xs:=Paired.SV h fun _ _ z=>aK.mono s z
instance {a:Type}{R:Rp a}[aK R]:aK (ag R):=⟨fun s ⟨p,vs,e,h,q⟩=>⟨p,vs,e,s _ _ h,aq s q⟩⟩
instance {a:Type}{K:b0}{R:Rp a}[aK R]:aK (XN K R):=⟨fun s ⟨p,vs,e,h,q⟩=>⟨p,vs,e,aE.tup s h,aq s q⟩⟩
class NN {a:Type}(R:Rp a):Prop where
 nn:∀{G:Hp} {v:V} {x:a},R G v x->v≠.iB
instance:NN af:=⟨fun h z=>by rw[show _=_ from h] at z;cases z⟩
instance:NN dQ:=⟨fun h z=>by rw[show _=_ from h] at z;cases z⟩
instance {a:Type}{R:Rp a}:NN (ag R):=⟨fun⟨p,_,e,_⟩ z=>by rw[e] at z;cases z⟩
def jA {a:Type}(R:Rp a):Rp (Option a):=fun G v x=>match x with
 |none=>v=.iB
 |some y=>v≠.iB/\R G v y
instance {a:Type}{R:Rp a}[aK R]:aK (jA R):=⟨fun {G G' v x} s h=>by
 cases x with
 |none=>exact h
 |some y=>exact⟨h.1,aK.mono s h.2⟩⟩
def gE {a b:Type}(K:b0)(R:Rp a)(S:Rp b):Rp (a×b):=fun G v x=>∃p u w,v=.ref p/\mO K G p [u,w]/\R G u x.1/\S G w x.2
instance {a b:Type}{K:b0}{R:Rp a}{S:Rp b}[aK R][aK S]:aK (gE K R S):=⟨fun s ⟨p,u,w,e,h,q,r⟩=>⟨p,u,w,e,aE.tup s h,aK.mono s q,aK.mono s r⟩⟩
abbrev I3:=Int×Int×Int
def g6 (K:b0):Rp I3:=fun G v x=>∃p,v=.ref p/\mO K G p [.int x.1,.int x.2.1,.int x.2.2]
instance {K:b0}:aK (g6 K):=⟨fun s ⟨p,e,h⟩=>⟨p,e,aE.tup s h⟩⟩
instance {a b:Type}{K:b0}{R:Rp a}{S:Rp b}:NN (gE K R S):=⟨fun⟨p,_,_,e,_⟩ z=>by rw[e] at z;cases z⟩
instance {K:b0}:NN (g6 K):=⟨fun⟨p,e,_⟩ z=>by rw[e] at z;cases z⟩
def RE {a:Type}(te:TE)(σ:L2.St)(G H:Hp)(R:Rp a)(y:a):Prop:=∀G' H',Ext G H G' H'-> ∀Q:VK,(∀v G2 H2,Ext G' H' G2 H2->R G2 v y->Q v H2)->te σ H' Q
def RT (t:TT)(σ:L2.St)(G H:Hp)(c:Bool):Prop:=∀G' H',Ext G H G' H'-> ∀Q:Bool->Hp->Prop,(∀G2 H2,Ext G' H' G2 H2->Q c H2)->t σ H' Q
abbrev Ra (a:Type):=Hp->List V->a->Prop
class sP {a:Type}(A:Ra a):Prop where
 mono:∀{G G':Hp} {v:List V} {x:a},aE G G'->A G v x->A G' v x
def A0:Ra Unit:=fun _ vs _=>vs=[]
def AC {a b:Type}(R:Rp a)(A:Ra b):Ra (a×b):=fun G vs x=>∃v r,vs=v::r/\R G v x.1/\A G r x.2
instance:sP A0:=⟨fun _ h=>h⟩
instance {a b:Type}{R:Rp a}{A:Ra b}[aK R][sP A]:sP (AC R A):=⟨fun s ⟨v,r,e,h,q⟩=>⟨v,r,e,aK.mono s h,sP.mono s q⟩⟩
class Ar {a:Type}(A:Ra a)(n:outParam Nat):Prop where
 len:∀{G:Hp} {vs:List V} {x:a},A G vs x->vs.length=n
instance:Ar A0 0:=⟨fun h=>by rw[show _=_ from h];rfl⟩
instance {a b:Type}{R:Rp a}{A:Ra b}{n:Nat}[Ar A n]:Ar (AC R A) (n+1):=⟨fun⟨v,r,e,_,q⟩=>by rw[e,ab8,Ar.len (A:=A) q]⟩
def RA {a:Type}(t:TA)(σ:L2.St)(G H:Hp)(A:Ra a)(y:a):Prop:=∀G' H',Ext G H G' H'-> ∀Q:List V->Hp->Prop,(∀vs G2 H2,Ext G' H' G2 H2->A G2 vs y->Q vs H2)->t σ H' Q
section
variable {σ:L2.St}{G H:Hp}{K:b0}{a b:Type}
def RE.later (h:RE te σ G H R y)(e:Ext G H G' H'):RE te σ G' H' R y:=fun L H2 J=>h L H2 (e.trans J)
def RE.eq (h:RE te σ G H R x)(e:x=y):RE te σ G H R y:=e ▸ h
def RT.eq (h:RT te σ G H x)(e:x=y):RT te σ G H y:=e ▸ h
def ab (L:σ[i]?=some (some v))(h:R G0 v x)(s:aE G0 G)(J:aK R:=by infer_instance):RE (cc i) σ G H R x:=fun G' H' e Q q=>
 ⟨v,L,q v G' H' (Ext.refl e.gh) (aK.mono (s.trans e.gg) h)⟩
def ao:RE (tC (.int i)) σ G H af i:=fun G' H' e Q q=>q _ G' H' (Ext.refl e.gh) rfl
def NW:RE (tC (.bl c)) σ G H dQ c:=fun G' H' e Q q=>q _ G' H' (Ext.refl e.gh) rfl
def L5 (h:R G0 v x)(s:aE G0 G)(J:aK R:=by infer_instance):RE (tC v) σ G H R x:=fun G' H' e Q q=>q _ G' H' (Ext.refl e.gh) (aK.mono (s.trans e.gg) h)
def jW:RE (tC .iB) σ G H (jA R) none:=fun G' H' e Q q=>q _ G' H' (Ext.refl e.gh) rfl
def tI {f:Int->Int->a}(M:∀(G:Hp) i j,R G (g i j) (f i j))(h1:RE ta σ G H af i)(h2:RE tb σ G H af j):RE (il (EH g) ta tb) σ G H R (f i j):=fun G' H' e Q q=>
 h1 G' H' e _ fun v U H1 J L=>h2 U H1 (e.trans J) _ fun u Y H2 O r2=>⟨i,j,L,r2,q _ _ _ (J.trans O) (M _ _ _)⟩
def I_ {f:Int->Int->a}(M:∀(G:Hp) i j,R G (g i j) (f i j))(h1:RE ta σ G H af i)(h2:RE tb σ G H af j)(O:C i j):RE (il (rI C g) ta tb) σ G H R (f i j):=fun G' H' e Q q=>
 h1 G' H' e _ fun v Y H1 J L=>h2 Y H1 (e.trans J) _ fun u Z H2 U r2=>⟨i,j,L,r2,O,q _ _ _ (J.trans U) (M _ _ _)⟩
def re_un {f:Int->a}(L:∀(G:Hp) i,R G (g i) (f i))(h1:RE ta σ G H af i):RE (tUn (rU g) ta) σ G H R (f i):=fun G' H' e Q q=>
 h1 G' H' e _ fun v O H1 M J=>⟨i,J,q _ _ _ M (L _ _)⟩
def qp:RA fV σ G H A0 ():=fun G' H' e Q q=>q _ G' H' (Ext.refl e.gh) rfl
def bE (h1:RE te σ G H R x)(h2:RA t σ G H A y)(O:aK R:=by infer_instance):RA (bO te t) σ G H (AC R A) (x,y):=fun G' H' e Q q=>
 h1 G' H' e _ fun v U H1 L M=>h2 U H1 (e.trans L) _ fun vs Y H2 J r2=>q _ _ _ (L.trans J) ⟨v,vs,rfl,aK.mono J.gg M,r2⟩
def fz (n:Nat)(A:Ra a)(pre:a->Prop)(R:Rp b)(f:a->b):Sp:=fun vs H Q _=>vs.length=n/\ ∃G x,Sub G H/\A G vs x/\pre x/\ ∀v G' H',Ext G H G' H'->R G' v (f x)->Q v H'
def ak (h:RA t σ G H A x)(O:pre x)(M:Ar A n:=by infer_instance):RE (s_ (fz n A pre R f) [] E t) σ G H R (f x):=fun G' H' e Q q=>
 h G' H' e _ fun vs Y H1 L J=>by
  rw[abA];exact⟨Ar.len J,Y,x,L.gh,J,O,fun v Z H2 U r2=>q _ _ _ (L.trans U) r2⟩
def bZ (h:RE te σ G H dQ c):RT (tB te) σ G H c:=fun G' H' e Q q=>h G' H' e _ fun v M H1 L J=>⟨c,J,q _ _ L⟩
def fB (h:RT t σ G H c):RT (tNot t) σ G H (!c):=fun G' H' e Q q=>h G' H' e _ fun L H1 J=>q _ _ J
def vD (h1:RT t σ G H c)(h2:c=true->RT u σ G H d):RT (tAnd t u) σ G H (c&&d):=fun G' H' e Q q=>h1 G' H' e _ fun M H1 J=>by
 cases c with
 |true=>exact h2 rfl M H1 (e.trans J) _ fun O H2 L=>q _ _ (J.trans L)
 |_=>exact q _ _ J
def oE (h1:RT t σ G H c)(h2:c=false->RT u σ G H d):RT (tOr t u) σ G H (c||d):=fun G' H' e Q q=>h1 G' H' e _ fun M H1 J=>by
 cases c with
 |false=>exact h2 rfl M H1 (e.trans J) _ fun O H2 L=>q _ _ (J.trans L)
 |_=>exact q _ _ J
def Au (h1:RE ta σ G H dQ c)(h2:c=true->RE tb σ G H dQ d):RE (Ye ta tb) σ G H dQ (c&&d):=fun G' H' e Q q=>h1 G' H' e _ fun v O H1 J L=>⟨c,L,by
 cases c with
 |true=>exact h2 rfl O H1 (e.trans J) _ fun v U H2 M r2=>q _ _ _ (J.trans M) r2
 |_=>exact q _ _ _ J rfl⟩
def lQ (h:RT t σ G H c)(h1:c=true->RE ta σ G H R x)(h2:c=false->RE tb σ G H R y):RE (tIf t ta tb) σ G H R (if c then x else y):=fun G' H' e Q q=>h G' H' e _ fun M H1 J=>by
 cases c with
 |true=>exact h1 rfl M H1 (e.trans J) _ fun v O H2 L r2=>q _ _ _ (J.trans L) r2
 |_=>exact h2 rfl M H1 (e.trans J) _ fun v O H2 L r2=>q _ _ _ (J.trans L) r2
def bL (h:RE ta σ G H (jA R) x):RE (tIsN ta) σ G H dQ (x.isNone):=fun G' H' e Q q=>h G' H' e _ fun v M H1 L J=>q _ _ _ L (by
 cases x with
 |none=>rw[show v=.iB from J];rfl
 |_ y=>rw[adX J.1];rfl)
def Yg (h:RA t σ G H (AC af (AC af (AC af A0))) (x,y,z,())):RE (LK t) σ G H (g6 K) (x,y,z):=fun G' H' e Q q=>h G' H' e _ fun vs G1 H1 O ⟨v1,r1,M,h1,v2,r2,L,h2,v3,r3,J,Z,Y⟩=>by
 subst M L J;subst h1;subst h2;subst Z;subst Y;exact⟨(by show 3<=sizeLine;decide),fun p U=>q _ _ _ (O.trans (Ext.laid O.gh U)) ⟨p,rfl,mO.of ah⟩⟩
def FZ (h:RA t σ G H (AC R (AC S A0)) (x,y,()))(Z:aK R:=by infer_instance)(Y:aK S:=by infer_instance):RE (LK t) σ G H (gE K R S) (x,y):=fun G' H' e Q q=>h G' H' e _ fun vs G1 H1 U ⟨O,r1,L,h1,M,r2,J,h2,h4⟩=>by
 subst L J;subst h4;refine⟨(by show 2<=sizeLine;decide),fun p hp=> ?_⟩;have l:=Ext.laid (o:=.tup [O,M]) U.gh hp;exact q _ _ _ (U.trans l) (xi3 p O M ⟨rfl,mO.of ah,aK.mono l.gg h1,aK.mono l.gg h2⟩)
def Zq (h:RE ta σ G H (g6 K) x):RE (il (L6 K) ta (tC (.int 0))) σ G H af x.1:=fun G' H' e Q q=>h G' H' e _ fun v O H1 J ⟨p,M,L⟩=>xi4 p _ 0 _ ⟨M,rfl,aE.tup J.gh.at_ L,rfl,q _ _ _ J rfl⟩
def Zp (h:RE ta σ G H (g6 K) x):RE (il (L6 K) ta (tC (.int 1))) σ G H af x.2.1:=fun G' H' e Q q=>h G' H' e _ fun v O H1 J ⟨p,M,L⟩=>xi4 p _ 1 _ ⟨M,rfl,aE.tup J.gh.at_ L,rfl,q _ _ _ J rfl⟩
def Zo (h:RE ta σ G H (g6 K) x):RE (il (L6 K) ta (tC (.int 2))) σ G H af x.2.2:=fun G' H' e Q q=>h G' H' e _ fun v O H1 J ⟨p,M,L⟩=>xi4 p _ 2 _ ⟨M,rfl,aE.tup J.gh.at_ L,rfl,q _ _ _ J rfl⟩
def Zs (h:RE ta σ G H (gE K R S) x)(M:aK R:=by infer_instance):RE (il (L6 K) ta (tC (.int 0))) σ G H R x.1:=fun G' H' e Q q=>h G' H' e _ fun v U H1 J ⟨p,u,w,O,L,h1,h2⟩=>xi4 p _ 0 _ ⟨O,rfl,aE.tup J.gh.at_ L,rfl,q _ _ _ J h1⟩
def cw:∀{vs:List V} {xs:List a} {i:Nat} {x:a},Paired R vs xs->xs[i]?=some x-> ∃v,vs[i]?=some v/\R v x
 |_,_,_,_,.nil,e=>by simp at e
 |_,_,0,_,.cons r _,e=>by simp_all
 |_,_,i+1,x,.cons _ t,e=>by
  obtain _:=cw t (by exact e)
  simp[*]
def aw (h:Paired R vs xs):vs.length=xs.length:=Paired.length h
def aJ (h:RE ta σ G H (ag R) xs)(h2:RE tb σ G H af i)(h0:0<=i)(Y:xs[i.toNat]?=some y)(U:aK R:=by infer_instance):RE (il (gF K) ta tb) σ G H R y:=fun G' H' e Q q=>
 h G' H' e _ fun v G1 H1 M ⟨p,vs,Z,O,pr⟩=>h2 G1 H1 (e.trans M) _ fun u G2 H2 J r2=>by
  obtain⟨w,hw,L⟩:=cw pr Y;exact xi4 p vs i w ⟨Z,r2,dh.of ((J.gg.trans J.gh.at_) _ _ O),at_of (by lia) hw,q _ _ _ (M.trans J) (aK.mono J.gg L)⟩
def wH (h:RE ta σ G H (jA R) x):RE (Ya ta) σ G H dQ (!x.isNone):=fun G' H' e Q q=>h G' H' e _ fun v M H1 L J=>q _ _ _ L (by
 cases x with
 |none=>rw[show v=.iB from J];rfl
 |_ y=>rw[adX J.1];rfl)
def ph (h:RE te σ G H R y)(L:NN R:=by infer_instance):RE te σ G H (jA R) (some y):=fun G' H' e Q q=>h G' H' e _ fun v O H1 M J=>q _ _ _ M ⟨NN.nn J,J⟩
def R8 (L:∀G v,R G v y->S G v z)(h:RE te σ G H R y):RE te σ G H S z:=fun G' H' e Q q=>h G' H' e _ fun v O H1 M J=>q _ _ _ M (L _ _ J)
def wI:RE (FI fV) σ G H (ag R) []:=fun G' H' e Q q=>⟨adz _,fun p J=>q _ _ _ (Ext.laid e.gh J) ⟨p,[],rfl,ah,.nil⟩⟩
def AL (R:Rp a):Ra (List a):=fun G vs xs=>Paired (R G) vs xs
def bu:RA fV σ G H (AL R) []:=fun G' H' e Q q=>q _ G' H' (Ext.refl e.gh) .nil
def aI (h1:RE te σ G H R x)(h2:RA t σ G H (AL R) y)(O:aK R:=by infer_instance):RA (bO te t) σ G H (AL R) (x::y):=fun G' H' e Q q=>
 h1 G' H' e _ fun v U H1 L M=>h2 U H1 (e.trans L) _ fun vs Y H2 J r2=>q _ _ _ (L.trans J) (.cons (aK.mono J.gg M) r2)
def bG (h:RA t σ G H (AL R) xs)(U:xs.length<=sizeLine)(M:aK R:=by infer_instance):RE (FI t) σ G H (ag R) xs:=fun G' H' e Q q=>
 h G' H' e _ fun vs Y H1 L J=>⟨by rw[aw J];exact U,fun p O=>by
  have l:=Ext.laid (o:=.lst vs) L.gh O;exact q _ _ _ (L.trans l) ⟨p,vs,rfl,ah,aq l.gg J⟩⟩
def dc (h:RA ta σ G H (AC (ag R) A0) (xs,())):RE (CU (fun xs H Q=>∃p ys,xs=[.ref p]/\(dh K H p ys\/mO K H p ys)/\Q (.int ys.length) H) ta) σ G H af xs.length:=fun G' H' e Q q=>
 h G' H' e _ fun vs Z H1 J ⟨v,r,Y,⟨p,us,O,L,M⟩,U⟩=>by
  subst Y O;subst U;refine⟨p,us,rfl,.inl (dh.of (J.gh _ _ L)),q _ _ _ J ?_⟩
  show V.int _=V.int _
  rw[aw M]
def RS (t:TS)(σ:L2.St)(G H:Hp)(R:Rp a)(y:a):Prop:=∀G' H',Ext G H G' H'-> ∀D:Ends,(∀v G2 H2,Ext G' H' G2 H2->R G2 v y->D.rt v H2)->t D σ H'
def RS.eq (h:RS t σ G H R x)(e:x=y):RS t σ G H R y:=e ▸ h
def aB (h:RE te σ G H R y):RS (Rm te) σ G H R y:=fun G' H' e D q=>h G' H' e _ fun v M H1 L J=>q _ _ _ L J
def bQ (h:RE te σ G H R x)(O:∀v G' H',Ext G H G' H'->R G' v x->RS u (σ.set i (some v)) G' H' S y):RS (rC (tp te (i5 i)) u) σ G H S y:=fun G' H' e D q=>
 h G' H' e _ fun v L H1 J M=>O v L H1 (e.trans J) M L H1 (Ext.refl J.gh) D fun w Y H2 U r2=>q _ _ _ (J.trans U) r2
def bj (h:RT c σ G H d)(h1:d=true->RS t σ G H R x)(h2:d=false->RS u σ G H R y):RS (rC (Ph c t Rn) u) σ G H R (if d then x else y):=fun G' H' e D q=>h G' H' e _ fun M H1 J=>by
 cases d with
 |true=>exact h1 rfl M H1 (e.trans J) _ fun v O H2 L r2=>q _ _ _ (J.trans L) r2
 |_=>exact h2 rfl M H1 (e.trans J) D fun v O H2 L r2=>q _ _ _ (J.trans L) r2
end
section
variable {P:dn}{w:fx}{K:b0}{mg:gp}{base:Heap}{a b:Type}
def wN {st:Stmt}(F:yW K x qual st f fd)(S:dN N ps (aO st))(Z:n=ps.length)
  (L:∀(J:ee) (M:eu) (outer:List Env) (s:cq) (H:Hp) (E:XK),fM k (M.deeper (envOfC qual (aO st) s.heap.objs.size f J))->
   ∃t,Eo (je sQ P w K mg base N qual (aO st) f J M outer s H E).PY (e_ st) t/\ ∀(G:Hp) (vs:List V) (y:a),Sub G H->A G vs y->pre y->RS t (rd N vs) G H R (g y)):
  fA P w K mg base sQ (k+1) f fd ps (fz n A pre R g):=by
 refine F.ok S (fun vs H Q E h=>h.1.trans Z) fun J M _ s H vs Q E U h=> ?_
 obtain⟨t,h1,h2⟩:=L J M _ s H E U;obtain⟨_,G,y,O,ha,Y,q⟩:=h;exact⟨t,h1,h2 G vs y O ha Y G H (Ext.refl O) _ fun v G2 H2 e r=>q v G2 H2 e r⟩
end
structure Cal (P:dn)(w:fx)(K:b0)(mg:gp)(base:Heap)(k:Nat)(x:Str)(ps:ky)(sp:Sp):Prop where
 ex:∃f fd,fA P w K mg base sQ k f fd ps sp/\mg x=some (.ref f)/\PySem.W.keepIn K (.ref f)=true/\Binds K fd ps []
def pcall (C:Cal X.prog X.w X.K X.mg X.base k x ps sp)(O:fM k' X.A)(Y:k<=k')(Z:Gl X x)(ha:PA X (e::es) t)
  (M:(x==("__debug__":Str))=false:=by decide) (he:starEach (e::es) X.env=(false,eval e X.env)::starEach es X.env:=by rfl) (J:(backTo pos (starEach es X.env)).any (·.1)=false:=by rfl):
  PE X (.Call (.Name x p) (e::es) [] pos) (s_ sp [] E0 t):=by
 obtain⟨f,fd,F,U,L,hb⟩:=C.ex;exact Wc F (O.mono Y) Z U L hb .nil Jm ha M he J
def g8 (h:∃t,X.mg x=some (Value.int c t))(J:Gl X x)(hd:(x==("__debug__":Str))=false:=by decide):PE X (.Name x pos) (tC (.int c)):=by
 obtain⟨t,h⟩:=h;exact Gd J h ⟨t,rfl⟩ hd
def ZH (h:X.mg x=some (Value.ref c))(J:Gl X x)(hd:(x==("__debug__":Str))=false:=by decide):PE X (.Name x pos) (tC (.ref c)):=Gd J h rfl hd
section
variable {σ:L2.St}{G H:Hp}{K:b0}{a b:Type}
def dj (h:RE te σ G H dQ c):RT (Rl te) σ G H c:=fun G' H' e Q q=>h G' H' e _ fun v M H1 L J=>⟨c,J,q _ _ L⟩
def Yz:decide (V.int i=V.int j)=decide (i=j):=by
 simp
def lV (h1:RE ta σ G H af i)(h2:RE tb σ G H af j):RE (il rEq ta tb) σ G H dQ (decide (i=j)):=fun G' H' e Q q=>
 h1 G' H' e _ fun v O H1 J L=>h2 O H1 (e.trans J) _ fun u U H2 M r2=>by
  subst L;subst r2;exact⟨rfl,q _ _ _ (J.trans M) (adW _ Yz)⟩
def L0 (h1:RE ta σ G H af i)(h2:RE tb σ G H af j):RE (il rNe ta tb) σ G H dQ (!decide (i=j)):=fun G' H' e Q q=>
 h1 G' H' e _ fun v O H1 J L=>h2 O H1 (e.trans J) _ fun u U H2 M r2=>by
  subst L;subst r2;exact⟨rfl,q _ _ _ (J.trans M) (adW (fun z=>V.bl _) Yz)⟩
def aat (x y:I3):PyData.eqv (.tuple [.int x.1,.int x.2.1,.int x.2.2]) (.tuple [.int y.1,.int y.2.1,.int y.2.2])=decide (x=y):=by
 obtain⟨Y,U,O⟩:=x;obtain⟨M,L,J⟩:=y
 by_cases h1:Y=M<;>by_cases h2:U=L<;>by_cases Z:O=J<;>simp[PyData.eqv,PyData.eqvAll,h1,h2,Z]
def dp3 (s:Sub G H)(h:g6 K G v x):Dp K H v (.tuple [.int x.1,.int x.2.1,.int x.2.2]):=by
 obtain⟨p,rfl,h⟩:=h;exact .tup (aE.tup s.at_ h) (.cons (.int _) (.cons (.int _) (.cons (.int _) .nil)))
def Zu (h1:RE ta σ G H (g6 K) x)(h2:RE tb σ G H (g6 K) y):RE (il (VV K) ta tb) σ G H dQ (decide (x=y)):=fun G' H' e Q q=>
 h1 G' H' e _ fun v O H1 L M=>h2 O H1 (e.trans L) _ fun u U H2 J r2=>
  xi2 _ _ ⟨dp3 J.gh (aK.mono J.gg M),dp3 J.gh r2,rfl,rfl,q _ _ _ (L.trans J) (adW _ (aat x y))⟩
def Zl (h1:RE ta σ G H (g6 K) x)(h2:RE tb σ G H (g6 K) y):RE (il (VU K) ta tb) σ G H dQ (!decide (x=y)):=fun G' H' e Q q=>
 h1 G' H' e _ fun v O H1 L M=>h2 O H1 (e.trans L) _ fun u U H2 J r2=>
  xi2 _ _ ⟨dp3 J.gh (aK.mono J.gg M),dp3 J.gh r2,rfl,rfl,q _ _ _ (L.trans J) (adW (fun z=>V.bl _) (aat x y))⟩
end
section
variable {σ:L2.St}{G H:Hp}{K:b0}
def oF (h1:RE ta σ G H af i)(h2:RE tb σ G H af j):RE (il (EH fun i j=>.int (i+j)) ta tb) σ G H af (i+j):=tI (fun _ _ _=>rfl) h1 h2
def tH (h1:RE ta σ G H af i)(h2:RE tb σ G H af j):RE (il (EH fun i j=>.int (i - j)) ta tb) σ G H af (i - j):=tI (fun _ _ _=>rfl) h1 h2
def NX (h1:RE ta σ G H af i)(h2:RE tb σ G H af j):RE (il (EH fun i j=>.int (Builtin.bitAnd i j)) ta tb) σ G H af (Builtin.bitAnd i j):=tI (fun _ _ _=>rfl) h1 h2
def sJ (h1:RE ta σ G H af i)(h2:RE tb σ G H af j):RE (il (EH fun i j=>.bl (decide (i < j))) ta tb) σ G H dQ (decide (i < j)):=tI (f:=fun i j=>decide _) (fun _ _ _=>rfl) h1 h2
def Ja (h1:RE ta σ G H af i)(h2:RE tb σ G H af j):RE (il (EH fun i j=>.bl (decide (i<=j))) ta tb) σ G H dQ (decide (i<=j)):=tI (f:=fun i j=>decide _) (fun _ _ _=>rfl) h1 h2
def EG (h1:RE ta σ G H af i)(h2:RE tb σ G H af j):RE (il (EH fun i j=>.bl (decide (j < i))) ta tb) σ G H dQ (decide (j < i)):=tI (f:=fun i j=>decide (j < i)) (fun _ _ _=>rfl) h1 h2
def g7 (h1:RE ta σ G H af i)(h2:RE tb σ G H af j):RE (il (EH fun i j=>.bl (decide (j<=i))) ta tb) σ G H dQ (decide (j<=i)):=tI (f:=fun i j=>decide (j<=i)) (fun _ _ _=>rfl) h1 h2
def qo (h1:RE ta σ G H af i)(h2:RE tb σ G H af j)(J:UO i j):RE (il (rI UO fun i j=>.int (i*j)) ta tb) σ G H af (i*j):=I_ (fun _ _ _=>rfl) h1 h2 J
def vE (h1:RE ta σ G H af i)(h2:RE tb σ G H af j)(J:(fun _ j=>0 < j) i j):RE (il (rI (fun _ j=>0 < j) fun i j=>.int (i%j)) ta tb) σ G H af (i%j):=I_ (fun _ _ _=>rfl) h1 h2 J
def Aq (h1:RE ta σ G H af i)(h2:RE tb σ G H af j)(J:CPow i j):RE (il (rI CPow fun i j=>.int (i*2^j.toNat)) ta tb) σ G H af (i*2^j.toNat):=I_ (f:=fun i j=>i*2^j.toNat) (fun _ _ _=>rfl) h1 h2 J
def Zj (h1:RE ta σ G H af i)(h2:RE tb σ G H af j)(J:(fun _ j=>0<=j) i j):RE (il (rI (fun _ j=>0<=j) fun i j=>.int (i / 2^j.toNat)) ta tb) σ G H af (i / 2^j.toNat):=I_ (f:=fun i j=>i / 2^j.toNat) (fun _ _ _=>rfl) h1 h2 J
def xQ (h1:RE ta σ G H af i):RE (tUn (rU fun i=>.int (-i)) ta) σ G H af (-i):=re_un (fun _ _=>rfl) h1
end
def cQ {σ:L2.St}{G H:Hp}{i:Int}:RE (FI (bO (tC (.int i)) fV)) σ G H (ag af) [i]:=bG (aI ao bu) sl1
end My
namespace My
open PySem PySem.Spec PyProof.Rows L2
def Ext.put (e:Ext G H G' H')(J:H p=none)(h1:G' p=none)(h2:H' p=some u)(n:NT u:=by exact True.intro):Ext G H G' (upd H' p o):=
 ⟨e.gg,fun b v q=>(e.hh b v q).then fun o h=>.of (by rw[ax (aS q J)];exact h),⟨fun b u q=>by rw[ax (aS q h1)];exact e.gh.at_ b u q,e.gh.gt,e.gh.tab.put h2 n⟩,e.fr⟩
def Ext.freeze (e:Ext G H G' H')(M:H p=none)(h1:G' p=none)(h2:H' p=some o)(n:NT o:=by exact True.intro):Ext G H (upd G' p o) H':=
 ⟨e.gg.trans (bB h1),e.hh,⟨fun b u q=>by
  by_cases h:b=p
  .subst h;rw[ah] at q;rw[h2];exact q
  .rw[ax h] at q;exact e.gh.at_ b u q,by rw[ax (e.gh.tab.ne2 h2 n)];exact e.gh.gt,e.gh.tab⟩,fun b J g=>by
  have L:b≠p:=fun z=>J (by lia)
  rw[ax L];exact e.fr b J g⟩
def Ext.keeps (e:Ext G H G' H')(h:H p=some o)(g:G p=none):G' p=none:=e.fr p (by grind) g
def fZ:∀{vs:List V} {xs:List a} {i:Nat} {v:V} {x:a},Paired R vs xs->vs[i]?=some v->xs[i]?=some x->R v x
 |_,_,_,_,_,.nil,e,_=>by simp at e
 |_,_,0,_,_,.cons r _,e,J=>by simp_all
 |_,_,i+1,v,x,.cons _ t,e,J=>fZ t (by exact e) (by simp_all)
def IW {c:Type}(J:It)(G0:Hp)(R:Rp c)(zs:List c):Prop:=∀i G H,aE G0 G->Sub G H->
 (∀z,zs[i]?=some z->J.go i H/\ ∀x H',J.yld i H x H'-> ∃G',Ext G H G' H'/\R G' x z)/\(zs.length<=i->J.stop i H)
def RI {c:Type}(wi:TI)(σ:L2.St)(G H:Hp)(R:Rp c)(zs:List c):Prop:=∀G' H',Ext G H G' H'-> ∀Q:It->Hp->Prop,(∀J G2 H2,Ext G' H' G2 H2->IW J G2 R zs->Q J H2)->wi σ H' Q
section
variable {σ:L2.St}{G H:Hp}{K:b0}{a b c:Type}
def Wx [aK R](h:dh K G p vs)(J:Paired (R G) vs zs):IW (Itl K p) G R zs:=fun i Z H1 M L=>by
 have q:=(M.trans L.at_).seq h;refine⟨fun z O=> ?_,fun Y=>⟨vs,q,by rw[aw J];exact Y⟩⟩;obtain⟨v,U,_⟩:=cw J O;refine⟨⟨vs,v,q,U⟩,fun x H' y=> ?_⟩;obtain⟨e,y⟩:=y;subst e;exact⟨Z,Ext.refl L,aK.mono M (fZ J (y vs q) O)⟩
def bD (h:RE ta σ G H (ag R) xs)(M:aK R:=by infer_instance):RI (Tc K ta) σ G H R xs:=fun G' H' e Q q=>h G' H' e _ fun v Y H1 L ⟨p,vs,U,J,O⟩=>
 ⟨p,U,⟨vs,dh.of (L.gh _ _ J)⟩,q _ _ _ L (Wx (dh.of J) O)⟩
def Zg (h:RE ta σ G H (XN K R) xs)(mo0:aK R:=by infer_instance):RI (Z7 K ta) σ G H R xs:=fun G' H' e Q q=>h G' H' e _ fun v G1 H1 Z ⟨p,vs,ev,Y,L⟩=>
 ⟨p,ev,⟨vs,aE.tup Z.gh.at_ Y⟩,q _ _ _ Z fun i G2 H2 O M=>by
  have J:=aE.tup (O.trans M.at_) Y;refine⟨fun z U=> ?_,fun hl=>⟨vs,J,by rw[aw L];exact hl⟩⟩;obtain⟨v,hv,_⟩:=cw L U;refine⟨⟨vs,v,J,hv⟩,fun x H' y=> ?_⟩;obtain⟨e,y⟩:=y;subst e;exact⟨G2,Ext.refl M,aK.mono O (fZ L (y vs J) U)⟩⟩
def upTo (lo:Int)(n:Nat):hA:=(List.range n).map fun(k:Nat)=>lo+(k:Int)
def sY {lo:Int}(h:(upTo lo n)[i]?=some z):i < n/\z=lo+i:=by
 delta upTo at h
 grind
def cg (lo:Int)(n:Nat):(upTo lo n).length=n:=by simp[upTo]
def JU (lo:Int)(n:Nat):IW (Itr lo n) G af (upTo lo n):=fun i O H1 U M=>
 ⟨fun z J=>⟨(sY J).1,fun x H' y=>⟨O,by rw[y.1];exact Ext.refl M,by rw[y.2,(sY J).2];rfl⟩⟩,fun L=>by rw[cg] at L;exact L⟩
def oo (h:RA ta σ G H (AC af A0) (j,()))(h1: -(2^62)<=j)(h2:j < 2^62):RI (Yr ta) σ G H af (upTo 0 j.toNat):=fun G' H' e Q q=>h G' H' e _ fun vs U H1 M ⟨v,r,O,J,L⟩=>by
 subst O;subst J;subst L;exact⟨j,rfl,h1,h2,q _ _ _ M (JU 0 _)⟩
def uL (h:RA ta σ G H (AC af (AC af A0)) (i,j,()))(M: -(2^62)<=i/\i < 2^62/\ -(2^62)<=j/\j < 2^62):RI (Yq ta) σ G H af (upTo i (j - i).toNat):=fun G' H' e Q q=>h G' H' e _ fun vs G1 H1 Y ⟨v,r,Z,L,v2,r2,U,J,O⟩=>by
 subst Z U;subst L;subst J;subst O;exact⟨i,j,rfl,M,q _ _ _ Y (JU i _)⟩
def numbered (xs:List c):List (Int×c):=xs.zipIdx.map fun p=>((p.2:Int),p.1)
def cy {i:Nat}(h:(numbered xs)[i]?=some z):z.1=i/\xs[i]?=some z.2:=by
 delta numbered at h;rw[ab0,ab3] at h;cases q:xs[i]? with
 |none=>rw[q] at h;simp at h
 |_ x=>rw[q] at h;simp at h;subst h;exact⟨rfl,rfl⟩
def cN (xs:List c):(numbered xs).length=xs.length:=by simp[numbered]
def uM (h:RA ta σ G H (AC (ag R) A0) (xs,()))(mo0:aK R:=by infer_instance):RI (Td K ta) σ G H (gE K af R) (numbered xs):=fun G' H' e Q q=>h G' H' e _ fun us G1 H1 Z ⟨v,r,e0,⟨p,vs,ev,Y,L⟩,er⟩=>by
 subst e0 ev;subst er;refine⟨p,vs,rfl,dh.of (Z.gh _ _ Y),q _ _ _ Z fun i G2 H2 U O=> ?_⟩;have J:dh K H2 p vs:=dh.of ((U.trans O.at_) _ _ Y);refine⟨fun z hz=> ?_,fun hl=>⟨vs,J,by rw[aw L,<- cN];exact hl⟩⟩;obtain⟨z1,M⟩:=cy hz;obtain⟨v,hv,_⟩:=cw L M;refine⟨⟨vs,v,J,hv⟩,fun x H' y=> ?_⟩;obtain⟨T,x',rfl,hT,rfl,hx⟩:=y;have l:=Ext.laid (o:=.tup [.int i,x']) O hT;exact⟨_,l,T,_,_,rfl,mO.of ah,by show V.int _=V.int _;rw[z1],aK.mono (U.trans l.gg) (fZ L (hx vs J) M)⟩
def R0 (h:RA ta σ G H (AC (ag R) (AC (ag S) A0)) (xs,ys,()))(mo0:aK R:=by infer_instance)(mo1:aK S:=by infer_instance):RI (Z6 K ta) σ G H (gE K R S) (xs.zip ys):=fun G' H' e Q q=>h G' H' e _ fun us G1 H1 e1 ⟨v,r,e0,⟨p,vs,ev,hs,hp⟩,v2,r2,e2,⟨p2,J,ev2,O,M⟩,er⟩=>by
 subst e0 ev e2 ev2;subst er;refine xi4 p p2 vs J ⟨rfl,dh.of (e1.gh _ _ hs),dh.of (e1.gh _ _ O),q _ _ _ e1 fun i G2 H2 U Y=> ?_⟩;have Z:dh K H2 p vs:=dh.of ((U.trans Y.at_) _ _ hs);have L:dh K H2 p2 J:=dh.of ((U.trans Y.at_) _ _ O);refine⟨fun z hz=> ?_,fun hl=>⟨vs,J,Z,L,by
  have l1:vs.length=xs.length:=aw hp;have l2:J.length=ys.length:=aw M;rw[aci] at hl;lia⟩⟩
 obtain⟨z1,z2⟩:=ab4.mp hz;obtain⟨v,hv,_⟩:=cw hp z1;obtain⟨v2,hv2,_⟩:=cw M z2;refine⟨xi4 vs J v v2 ⟨Z,L,hv,hv2⟩,fun x H' y=> ?_⟩;obtain⟨T,x',y',rfl,hT,rfl,hx,hy⟩:=y;have l:=Ext.laid (o:=.tup [x',y']) Y hT;exact⟨_,l,T,_,_,rfl,mO.of ah,aK.mono (U.trans l.gg) (fZ hp (hx vs Z) z1),aK.mono (U.trans l.gg) (fZ M (hy J L) z2)⟩
def Tg (g:TG)(x:V)(σ:L2.St)(H:Hp)(σ2:L2.St):Prop:=∀Q:L2.St->Hp->Prop,Q σ2 H->g x σ H Q
def cE:Tg (i5 i) x σ H (σ.set i (some x)):=fun _ q=>q
def mi (h:mO K H p [u,w]):Tg (WM K 2 (E2 (i5 i) (E2 (i5 j) aad))) (.ref p) σ H ((σ.set i (some u)).set j (some w)):=fun _ q=>
 ⟨p,[u,w],rfl,h,rfl,u,[w],rfl,w,[],rfl,rfl,q⟩
def pK {zs:List c}(J:zs[i]?=some z):((zs.take (i+1)).filter p).map f=((zs.take i).filter p).map f++(if p z then[f z] else[]):=by
 have e:zs.take (i+1)=zs.take i++[z]:=by rw[ac3,J];rfl
 grind
def wJ (hw:RI wi σ G H Rz zs)(hl:zs.length < sizeLine)
  (hg:∀z∈zs,∀x G1 H1,Ext G H G1 H1->Rz G1 x z-> ∃L,Tg g x (wipe σ ws) H1 L/\wipe L ws=wipe σ ws/\RT tt L G1 H1 (p z)/\(p z=true->RE te L G1 H1 R (f z))) (mo0:aK R:=by infer_instance):
  RE (Y8 wi g tt te ws) σ G H (ag R) ((zs.filter p).map f):=fun G' H' e Q q=>hw G' H' e _ fun J G2 H2 e2 iw=>fun D hD=>by
 refine⟨fun i m H3=>m=zs.length - i/\i<=zs.length/\ ∃G3 vs,Ext G2 H2 G3 H3/\G3 D=none/\H3 D=some (.lst vs)/\Paired (R G3) vs (((zs.take i).filter p).map f),⟨zs.length,by rfl,adz _,G2,[],Ext.own e2.gh hD,e2.gh.free hD,ah,.nil⟩, ?_⟩;rintro i m H3 ⟨rfl,hi,G3,vs,e3,g3,h3,pr⟩;obtain⟨go,stop⟩:=iw i G3 H3 e3.gg e3.gh
 by_cases U:i < zs.length
 .have hz:zs[i]?=some zs[i]:=by simp
  obtain⟨go1,go2⟩:=go _ hz;refine .inr ⟨go1,fun Y=>∃Z vs,Ext G2 H2 Z Y/\Z D=none/\Y D=some _/\Paired _ vs _,by rintro Y ⟨Z,us,h⟩;exact ⟨_,by grind,rfl,U,Z,us,h⟩,fun x Y y=> ?_⟩;obtain⟨Z,O,r4⟩:=go2 x Y y;obtain⟨L,t1,t2,t3,t4⟩:=hg _ (ab5 U) x Z Y (((e.trans e2).trans e3).trans O) r4;have hvs:vs.length < sizeLine:=by
   have h5:=aw pr
   grind
  refine t1 _ ⟨t2,t3 Z Y (Ext.refl O.gh) _ fun G5 H5 M=> ?_⟩;have g5:=M.keeps (O.hh _ _ h3) (O.keeps h3 g3);have h5:=M.hh _ _ (O.hh _ _ h3)
  by_cases hp:p zs[i]=true
  .rw[ad3 hp];refine t4 hp G5 H5 M _ fun v G6 H6 e6 r6=>⟨vs,e6.hh _ _ h5,hvs,G6,vs++[v],((e3.trans O).trans (M.trans e6)).put hD (e6.keeps h5 g5) (e6.hh _ _ h5),e6.keeps h5 g5,ah, ?_⟩
   rw[pK hz,ad3 hp];exact Paired.snoc (aq ((O.gg.trans M.gg).trans e6.gg) pr) r6
  .rw[ad2 hp];refine⟨G5,vs,(e3.trans O).trans M,g5,h5, ?_⟩;rw[pK hz,ad2 hp,abA];exact aq (O.gg.trans M.gg) pr
 .have M:i=zs.length:=by lia
  subst M;rw[ac1] at pr;refine .inl ⟨stop (ac_ _),q _ _ _ ((e2.trans (e3.freeze hD g3 h3))) ⟨D,vs,rfl,ah,aq (bB g3) pr⟩⟩
def eT (hw:RI wi σ G H Rz zs)(U:zs.length < sizeLine)
  (Y:∀z∈zs,∀x L H1,Ext G H L H1->Rz L x z-> ∃J,Tg g x (wipe σ ws) H1 J/\wipe J ws=wipe σ ws/\RE te J L H1 R (f z)) (M:aK R:=by infer_instance):
  RE (Y8 wi g Y7 te ws) σ G H (ag R) (zs.map f):=
 RE.eq (wJ hw U fun z O x L H1 e r=>by
  obtain⟨J,h1,h2,Z⟩:=Y z O x L H1 e r;exact⟨J,h1,h2,fun G2 H2 e2 Q q=>q _ _ (Ext.refl e2.gh),fun _=>Z⟩) (by rw[abL.mpr (fun _ _=>rfl)])
def yi (s:Sub G H)(hw:RI wi σ G H Rz zs)
  (hs:∀U H2,Ext G H U H2-> ∃Pv:Nat->L2.St->Hp->Hp->Prop,Pv 0 σ U H2/\(∀i L G' H',Pv i L G' H'->aE U G'/\Sub G' H')/\
   (∀i z L G' H',zs[i]?=some z->Pv i L G' H'-> ∀x G3 H3,Ext G' H' G3 H3->Rz G3 x z->g x L H3 fun Z H4=>tb {D with nx:=fun σ5 O=>∃M,Pv (i+1) σ5 M O,ct:=fun σ5 O=>∃M,Pv (i+1) σ5 M O,bk:=D.nx} Z H4)/\
   ∀L G' H',Pv zs.length L G' H'->D.nx L H'):qe wi g tb D σ H:=hw G H (Ext.refl s) _ fun J U H2 e2 iw=>by
 obtain⟨Pv,p0,pS,pT,pE⟩:=hs U H2 e2;refine⟨fun i m L H'=>m=zs.length - i/\i<=zs.length/\ ∃G',Pv i L G' H',⟨zs.length,by rfl,adz _,U,p0⟩, ?_⟩;rintro i m L H' ⟨rfl,hi,G',p⟩;obtain⟨s1,s2⟩:=pS _ _ _ _ p;obtain⟨go,stop⟩:=iw i G' H' s1 s2
 by_cases Y:i < zs.length
 .have hz:zs[i]?=some zs[i]:=by simp
  obtain⟨go1,go2⟩:=go _ hz;refine .inr ⟨go1,fun σ5 O=>∃M,Pv _ σ5 M O,fun σ5 O ⟨M,h⟩=>⟨_,by grind,rfl,Y,M,h⟩,fun x H3 y=> ?_⟩
  grind
 .grind
end
end My
namespace My
open PySem PySem.Spec PyProof.Rows L2
section
variable {σ:L2.St}{G H:Hp}{K:b0}{a b c:Type}{D:Ends}
def cB (s:Sub G H)(h:RE te σ G H R x)(k:∀v G' H',Ext G H G' H'->R G' v x->u D (σ.set i (some v)) H'):rC (tp te (i5 i)) u D σ H:=h G H (Ext.refl s) _ k
def qd (s:Sub G H)(h:RE te σ G H R x)(k:∀v G' H',Ext G H G' H'->R G' v x->D.nx (σ.set i (some v)) H'):tp te (i5 i) D σ H:=h G H (Ext.refl s) _ k
def cf (s:Sub G H)(h:RE te σ G H R x)(k:∀v G' H',Ext G H G' H'->R G' v x->D.rt v H'):Rm te D σ H:=h G H (Ext.refl s) _ k
def u7 (s:Sub G H)(h:RT q σ G H d)(h1:d=true-> ∀G' H',Ext G H G' H'->t D σ H')(h2:d=false-> ∀G' H',Ext G H G' H'->u D σ H'):Ph q t u D σ H:=h G H (Ext.refl s) _ fun G' H' e=>by
 cases d with
 |true=>exact h1 rfl G' H' e
 |_=>exact h2 rfl G' H' e
def eR (s:Sub G H)(h:RT q σ G H d)(h1:d=true-> ∀G' H',Ext G H G' H'->t {D with nx:=u D} σ H')(h2:d=false-> ∀G' H',Ext G H G' H'->u D σ H'):rC (Ph q t Rn) u D σ H:=h G H (Ext.refl s) _ fun G' H' e=>by
 cases d with
 |true=>exact h1 rfl G' H' e
 |_=>exact h2 rfl G' H' e
def wj (k:∀p,H p=none->u D (σ.set i (some (.ref p))) (upd H p (.lst []))):rC (tp (FI fV) (i5 i)) u D σ H:=⟨adz _,k⟩
def FA (s:Sub G H)(h:RA t σ G H (AL R) xs)(L:xs.length<=sizeLine)(k:∀p vs G' H',Ext G H G' H'->Paired (R G') vs xs->H' p=none->u D (σ.set i (some (.ref p))) (upd H' p (.lst vs))):rC (tp (FI t) (i5 i)) u D σ H:=
 h G H (Ext.refl s) _ fun vs G' H' e r=>⟨by rw[aw r];exact L,fun p J=>k p vs G' H' e r J⟩
def kF (M:σ[j]?=some (some (.ref p)))(J:H p=some (.lst vs))(L:vs.length < sizeLine)(s:Sub G H)(h:RE te σ G H R x)
  (k:∀v G' H',Ext G H G' H'->R G' v x->D.nx σ (upd H' p (.lst (vs++[v])))):wt (Rq K "list" zE (cc j) (bO te fV)) D σ H:=
 ⟨_,M,.inl ⟨rfl,_,dh.of J⟩,h G H (Ext.refl s) _ fun v G' H' e r=>xi3 p vs v ⟨rfl,rfl,e.hh _ _ J,L,k v G' H' e r⟩⟩
def mP (M:σ[j]?=some (some (.ref p)))(J:H p=some (.lst vs))(L:vs.length+xs.length<=sizeLine)(s:Sub G H)(h:RE te σ G H (ag R) xs)
  (k:∀us G' H',Ext G H G' H'->Paired (R G') us xs->D.nx σ (upd H' p (.lst (vs++us)))):wt (Rq K "list" F2 (cc j) (bO te fV)) D σ H:=
 ⟨_,M,.inl ⟨rfl,_,dh.of J⟩,h G H (Ext.refl s) _ fun v G' H' e ⟨b,us,U,O,pr⟩=>xi4 p b vs us ⟨rfl,by rw[U],e.hh _ _ J,e.gh _ _ O,by rw[aw pr];exact L,k us G' H' e pr⟩⟩
def jK (step:S->c->S)(O:S)(J:Hp->Hp->S->L2.St->Hp->Hp->Prop)(s:Sub G H)(hw:RI wi σ G H Rz zs)
  (h0:∀M H2,Ext G H M H2->J M H2 O σ M H2) (hS:∀M H2 s L G' H',J M H2 s L G' H'->aE M G'/\Sub G' H')
  (hT:∀M H2,Ext G H M H2-> ∀i z s,zs[i]?=some z->s=(zs.take i).foldl step O-> ∀L G' H',J M H2 s L G' H'-> ∀x Y U,Ext G' H' Y U->Rz Y x z->g x L U fun Z H4=>
   tb {D with nx:=fun σ5 H5=>∃G5,J M H2 (step s z) σ5 G5 H5,ct:=fun σ5 H5=>∃G5,J M H2 (step s z) σ5 G5 H5,bk:=D.nx} Z H4)
  (hE:∀M H2,Ext G H M H2-> ∀L G' H',J M H2 (zs.foldl step O) L G' H'->D.nx L H'):qe wi g tb D σ H:=
 yi s hw fun M H2 e2=>by
  refine⟨fun i L G' H'=>J M H2 ((zs.take i).foldl _ O) L G' H',h0 M H2 e2,fun i L G' H' h=>hS _ _ _ _ _ _ h,fun i z L G' H' hz h x Y U e3 r3=> ?_,fun L G' H' h=>hE M H2 e2 L G' H' (by have h:J M H2 _ L G' H':=h;rw[ac1] at h;exact h)⟩;have et:(zs.take (i+1)).foldl step O=step ((zs.take i).foldl step O) z:=by
   rw[ac3,hz,adE,abR];rfl
  have:=hT M H2 e2 i z _ hz rfl L G' H' h x Y U e3 r3
  simp[*]
structure QW (p:dr)(G H G' H':Hp):Prop where
 gg:aE G G'
 hh:∀b o,b≠p->H b=some o->qa H' b o
 gh:Sub G' H'
 fr:∀b,H b≠none->G b=none->G' b=none
def Ext.exP (e:Ext G H G' H'):QW p G H G' H':=⟨e.gg,fun b o _ h=>e.hh b o h,e.gh,e.fr⟩
def QW.ext (J:Ext G0 H0 G H)(e:QW p G H G' H')(M:H0 p=none):Ext G0 H0 G' H':=
 ⟨J.gg.trans e.gg,fun b o q=>(J.hh b o q).then fun o=>e.hh b o (aS q M),e.gh,fun b L g=>e.fr b (fun z=>L (J.hh.free z)) (J.fr b L g)⟩
def QW.then (e:QW p G H G1 H1)(J:Ext G1 H1 G2 H2)(M:H p≠none->H1 p≠none):QW p G H G2 H2:=
 ⟨e.gg.trans J.gg,fun b o n q=>(e.hh b o n q).then fun o=>J.hh b o,J.gh,fun b L g=>J.fr b (by
  by_cases n:b=p
  .grind
  .cases q:H b with
   |none=>lia
   |_ o=>exact(e.hh b o n q).ne) (e.fr b L g)⟩
def QW.put (e:QW p G H G' H')(g:G' p=none)(J:H' p=some u)(n:NT u:=by exact True.intro):QW p G H G' (upd H' p o):=
 ⟨e.gg,fun b v n q=>(e.hh b v n q).then fun o h=>.of (by rw[ax n];exact h),⟨fun b u q=>by rw[ax (aS q g)];exact e.gh.at_ b u q,e.gh.gt,e.gh.tab.put J n⟩,e.fr⟩
structure Acc (p:dr)(R:Rp b)(Sh:L2.St->Prop)(G H G2:Hp)(acc:List b)(σ':L2.St)(G' H':Hp):Prop where
 sh:Sh σ'
 ex:QW p G H G' H'
 sm:aE G2 G'
 gn:G' p=none
 at_:∃vs,H' p=some (.lst vs)/\Paired (R G') vs acc
def Acc.grow [aK R](A:Acc p R Sh G H G2 acc σ' G' H')(e:Ext G' H' G5 H5)(sh:Sh σ5)(pr:Paired (R G5) vs acc'):Acc p R Sh G H G2 acc' σ5 G5 (upd H5 p (.lst vs)):=by
 obtain⟨us,h1,_⟩:=A.at_;have J:=e.keeps h1 A.gn;exact⟨sh,(A.ex.then e fun _=>by lia).put J (e.hh _ _ h1),A.sm.trans e.gg,J,vs,ah,pr⟩
def Acc.kJ [aK R](A:Acc p R Sh G H G2 acc σ' G' H')(e:Ext G' H' G5 H5)(sh:Sh σ5):Acc p R Sh G H G2 acc σ5 G5 H5:=by
 obtain⟨us,h1,pr⟩:=A.at_;exact⟨sh,A.ex.then e fun _=>(by lia),A.sm.trans e.gg,e.keeps h1 A.gn,us,e.hh _ _ h1,aq e.gg pr⟩
def Acc.join (A:Acc p R Sh G H G2 acc σ' G' H')(B:Acc p R Sh' G' H' G3 acc' σ5 G5 H5)(sh:Sh σ5):Acc p R Sh G H G2 acc' σ5 G5 H5:=by
 refine⟨sh,⟨A.ex.gg.trans B.ex.gg,fun b o n q=>(A.ex.hh b o n q).then fun o=>B.ex.hh b o n,B.ex.gh,fun b J g=> ?_⟩,A.sm.trans B.ex.gg,B.gn,B.at_⟩
 by_cases n:b=p
 .subst n;exact B.gn
 .refine B.ex.fr b ?_ (A.ex.fr b J g);cases q:H b with
  |none=>lia
  |_ o=>exact(A.ex.hh b o n q).ne
def Acc.done [aK R](A:Acc p R Sh G H G2 acc σ' G' H')(M:Ext G0 H0 G H)(J:H0 p=none):∃L,Ext G0 H0 L H'/\ag R L (.ref p) acc:=by
 obtain⟨vs,h1,pr⟩:=A.at_;exact⟨upd G' p _,(A.ex.ext M J).freeze J A.gn h1,p,vs,rfl,ah,aq (bB A.gn) pr⟩
def jY [aK R](step:List b->c->List b)(O:L2.St->Prop)(s:Sub G H)(g0:G p=none)(h0:H p=some (.lst vs0))(p0:Paired (R G) vs0 acc0)(sh:O σ)
  (hw:RI wi σ G H Rz zs)
  (hT:∀L i z acc,zs[i]?=some z->acc=(zs.take i).foldl step acc0-> ∀J G' H',Acc p R O G H L acc J G' H'-> ∀x,Rz G' x z->g x J H' fun U H4=>
   tb {D with nx:=fun σ5 Y=>∃Z,Acc p R O G H L (step acc z) σ5 Z Y,ct:=fun σ5 Y=>∃Z,Acc p R O G H L (step acc z) σ5 Z Y,bk:=D.nx} U H4)
  (hE:∀L J G' H',Acc p R O G H L (zs.foldl step acc0) J G' H'->D.nx J H'):qe wi g tb D σ H:=
 jK _ _ _ s hw (fun L H2 M=>⟨sh,M.exP,aE.refl _,M.keeps h0 g0,vs0,M.hh _ _ h0,aq M.gg p0⟩) (fun _ _ _ _ _ _ A=>⟨A.sm,A.ex.gh⟩)
  (fun L H2 M i z acc hz ha J G' H' A x G3 H3 e3 r3=>hT L i z acc hz ha J G3 H3 (A.kJ e3 A.sh) x r3) fun L H2 M J G' H' A=>hE L J G' H' A
end
section
variable {σ:L2.St}{G H:Hp}{K:b0}{a b c:Type}{D:Ends}
def CK (C:dr)(ns:ky)(A:Ra a):Rp a:=fun G v x=>∃p dx us,v=.ref p/\G p=some (.ins C dx (ns.zip us))/\us.length=ns.length/\A G us x
instance {C:dr}{ns:ky}{A:Ra a}[sP A]:aK (CK C ns A):=⟨fun s ⟨p,dx,us,e,h,l,q⟩=>⟨p,dx,us,e,s _ _ h,l,sP.mono s q⟩⟩
instance {C:dr}{ns:ky}{A:Ra a}:NN (CK C ns A):=⟨fun⟨p,_,_,e,_⟩ z=>by rw[e] at z;cases z⟩
def P8 {x y:Str}(h:(x==y)=false):List.lookup x ((y,v)::r)=List.lookup x r:=by grind
def fC (cl:uD K C)(L:bY K C f)(Z:∀G us,us.length=ns.length->A G us x-> ∃u,(ns.zip us).lookup f=some u/\R G u y)(h:RE ta σ G H (CK C ns A) x):RE (jF K ta f) σ G H R y:=fun G' H' e Q q=>
 h G' H' e _ fun v G1 H1 J ⟨p,dx,us,ev,U,Y,ha⟩=>by
  obtain⟨u,M,O⟩:=Z G1 us Y ha;exact xi5 p C dx _ u ⟨ev,J.gh _ _ U,cl,L,M,q _ _ _ J O⟩
def eE (C:dr)(ns:ky):Sp:=fun vs H Q _=>∃p dx us,vs=.ref p::us/\us.length=ns.length/\H p=some (.ins C dx [])/\Q .iB (upd H p (.ins C dx (ns.zip us)))
def jo (h:RA t σ G H A x)(O:n=ns.length:=by rfl)(Z:sP A:=by infer_instance)(Y:Ar A n:=by infer_instance):RE (Ez C (eE C ns) [] E t) σ G H (CK C ns A) x:=fun G' H' e Q q=>
 h G' H' e _ fun vs G1 H1 U L p dx hp hd hn=>by
  have l1:=Ext.laid (o:=.own p) U.gh hd;have J:(upd H1 dx (.own p)) p=none:=by rw[ax (fun z=>hn z.symm)];exact hp
  have M:=Ext.laid (o:=.ins C dx (ns.zip vs)) l1.gh J;refine xi3 p dx vs ⟨by simp,((Ar.len L).trans O),ah,rfl, ?_⟩;rw[NK];exact q _ _ _ ((U.trans l1).trans M) ⟨p,dx,vs,rfl,ah,((Ar.len L).trans O),sP.mono (l1.gg.trans M.gg) L⟩
class Flat (R:Rp a):Prop where
 flat:∀{G G':Hp} {v:V} {x:a},R G v x->R G' v x
instance:Flat af:=⟨fun h=>h⟩
instance:Flat dQ:=⟨fun h=>h⟩
def Ext.lift (e:Ext G H G' H')(h:H p=some o)(g:G p=none)(n:NT o):Ext (upd G p o) H (upd G' p o) H':=
 ⟨fun b u q=>by
  by_cases n:b=p
  .subst n;rw[ah] at q ⊢;exact q
  .rw[ax n] at q ⊢;exact e.gg b u q,e.hh,⟨fun b u q=>by
  by_cases m:b=p
  .subst m;rw[ah] at q;rw[(e.hh _ _ h).is n];exact q
  .rw[ax m] at q;exact e.gh.at_ b u q,by rw[ax (e.gh.tab.ne2 ((e.hh _ _ h).is n) n)];exact e.gh.gt,e.gh.tab⟩,fun b J q=>by
  by_cases n:b=p
  .subst n;rw[ah] at q;contradiction
  .rw[ax n] at q ⊢;exact e.fr b J q⟩
def zD [Flat R](h:H p=some o)(g:G p=none)(L:RE te σ (upd G p o) H R x)(n:NT o:=by exact True.intro):RE te σ G H R x:=fun G' H' e Q q=>
 L _ _ (e.lift h g n) _ fun v M H2 J r2=>q v G' H2 ⟨aE.refl _,J.hh,J.gh.pre ((bB (e.keeps h g)).trans J.gg),fun _ _ z=>z⟩ (Flat.flat r2)
def VI (h:H p=some o)(g:G p=none)(L:RT te σ (upd G p o) H x)(n:NT o:=by exact True.intro):RT te σ G H x:=fun G' H' e Q q=>
 L _ _ (e.lift h g n) _ fun M H2 J=>q G' H2 ⟨aE.refl _,J.hh,J.gh.pre ((bB (e.keeps h g)).trans J.gg),fun _ _ z=>z⟩
def vI (h:Paired R vs xs)(i j:Nat):Paired R ((vs.drop i).take j) ((xs.drop i).take j):=by
 induction h generalizing i j with
 |nil=>simp;exact .nil
 |_ r t J=>
  cases i with
  |zero=>
   cases j with
   |zero=>exact .nil
   |_ j=>exact .cons r (by have:=J 0 j;exact this)
  |_ i=>exact J i j
def cut (xs:List a)(lo hi:ng):List a:=(xs.drop (HT.Am xs.length 0 lo)).take (HT.Am xs.length xs.length hi - HT.Am xs.length 0 lo)
def RO (t:TO)(σ:L2.St)(G H:Hp)(o:ng):Prop:=∀G' H',Ext G H G' H'-> ∀Q:ng->Hp->Prop,(∀G2 H2,Ext G' H' G2 H2->Q o H2)->t σ H' Q
def pf:RO NP σ G H none:=fun G' H' e Q q=>q _ _ (Ext.refl e.gh)
def mv (h:RE te σ G H af i):RO (NO te) σ G H (some i):=fun G' H' e Q q=>h G' H' e _ fun v M H1 L J=>⟨i,J,q _ _ L⟩
def Ap {lo hi:ng}(h:RE te σ G H (ag R) xs)(h1:RO tl σ G H lo)(h2:RO th σ G H hi)(U:aK R:=by infer_instance):RE (tSl (Py K) te tl th) σ G H (ag R) (cut xs lo hi):=fun G' H' e Q q=>
 h G' H' e _ fun v G1 H1 L ⟨p,vs,ev,Y,pr⟩=>h1 G1 H1 (e.trans L) _ fun G2 H2 O=>h2 G2 H2 ((e.trans L).trans O) _ fun G3 H3 M=>by
  have J:=O.trans M;refine⟨p,vs,ev,dh.of (J.gh _ _ (J.gg _ _ Y)),fun l Z=> ?_⟩;have la:=Ext.laid (o:=.lst (HH vs lo hi)) M.gh Z;refine q _ _ _ ((L.trans J).trans la) ⟨l,_,rfl,ah, ?_⟩;refine aq (J.gg.trans la.gg) ?_;have hc:=vI pr (HT.Am xs.length 0 lo) (HT.Am xs.length xs.length hi - HT.Am xs.length 0 lo);delta HH cut;rw[aw pr];exact hc
def paired_ints:∀{vs:List V} {xs:hA},Paired (af G) vs xs->vs=xs.map V.int
 |_,_,.nil=>rfl
 |_,_,.cons r t=>by rw[acn,<- paired_ints t,show _=_ from r]
def AK:∀{vs:List V} {xs:List Bool},Paired (dQ G) vs xs->vs=xs.map V.bl
 |_,_,.nil=>rfl
 |_,_,.cons r t=>by rw[acn,<- AK t,show _=_ from r]
def NZ (h:RA ta σ G H (AC (ag af) A0) (xs,()))(k:∀p H Q,dh K H p (xs.map V.int)->Q y H->r [.ref p] H Q)(L:∀G,R G y z):RE (CU r ta) σ G H R z:=fun G' H' e Q q=>
 h G' H' e _ fun vs G1 H1 J ⟨v,Z,Y,⟨p,us,O,M,pr⟩,U⟩=>by
  subst Y O;subst U;exact k p H1 Q (dh.of (by rw[<- paired_ints pr];exact J.gh _ _ M)) (q _ _ _ J (L _))
def LZ (h:RA ta σ G H (AC (ag af) A0) (xs,())):RE (CU (Zw K) ta) σ G H af xs.sum:=NZ h (fun p H Q J q=>⟨p,xs,rfl,J,q⟩) fun _=>rfl
def F0 (h:RA ta σ G H (AC (ag af) A0) (xs,()))(J:m∈xs/\ ∀y,y∈xs->m<=y):RE (CU (Zy K) ta) σ G H af m:=NZ h (fun p H Q L q=>⟨p,xs,rfl,L,by grind,fun M h1 h2=>by
 have:=abe (h2 _ J.1) (J.2 _ h1)
 rw[this];exact q⟩) fun _=>rfl
def Sa (h:RA ta σ G H (AC (ag dQ) A0) (xs,())):RE (CU (Zz K) ta) σ G H dQ (xs.all id):=fun G' H' e Q q=>
 h G' H' e _ fun vs Z H1 J ⟨v,Y,U,⟨p,us,M,L,pr⟩,O⟩=>by
  subst U M;subst O;exact⟨p,xs,rfl,dh.of (by rw[<- AK pr];exact J.gh _ _ L),q _ _ _ J rfl⟩
def dR (h:Paired R vs xs)(h2:Paired R us ys):Paired R (vs++us) (xs++ys):=by
 induction h with
 |nil=>exact h2
 |_ r _ J=>exact .cons r J
def kQ (h:RE ta σ G H (ag R) xs)(h2:RE tb σ G H (ag R) ys)(U:xs.length+ys.length<=sizeLine)(mo0:aK R:=by infer_instance):RE (il VW ta tb) σ G H (ag R) (xs++ys):=fun G' H' e Q q=>
 h G' H' e _ fun v G1 H1 Z ⟨p,vs,ev,hp,pr⟩=>h2 G1 H1 (e.trans Z) _ fun u G2 H2 J ⟨p2,L,Y,O,M⟩=>by
  refine xi4 p p2 vs L ⟨ev,Y,J.gh _ _ (J.gg _ _ hp),J.gh _ _ O,by rw[aw pr,aw M];exact U,fun l U=> ?_⟩;have la:=Ext.laid (o:=.lst (vs++L)) J.gh U;refine q _ _ _ ((Z.trans J).trans la) ⟨l,_,rfl,ah, ?_⟩;exact dR (aq (J.gg.trans la.gg) pr) (aq la.gg M)
end
structure yY (P:dn)(w:fx)(K:b0)(mg:gp)(base:Heap)(k:Nat)(x:Str)(C:dr)(ps:ky)(sp:Sp):Prop where
 ex:∃f fd,Mk K C f/\fA P w K mg base sQ k f fd ps sp/\mg x=some (.ref C)/\Binds K fd ps []
def sL (M:yY X.prog X.w X.K X.mg X.base k x C ps sp)(O:fM k' X.A)(Y:k+1<=k')(Z:Gl X x)(ha:PA X (e::es) t)
  (L:(x==("__debug__":Str))=false:=by decide) (he:starEach (e::es) X.env=(false,eval e X.env)::starEach es X.env:=by rfl) (J:(backTo pos (starEach es X.env)).any (·.1)=false:=by rfl):
  PE X (.Call (.Name x p) (e::es) [] pos) (Ez C sp [] E0 t):=by
 obtain⟨f,fd,M,F,U,hb⟩:=M.ex;exact Wa M F (O.mono Y) Z U hb .nil Jm ha L he J
section
variable {a b c:Type}{n0 f:Str}{ns:ky}{R:Rp a}{A:Ra b}{x:a×b}
def oV:∀(G:Hp) (us:List V),us.length=(n0::ns).length->AC R A G us x-> ∃u,((n0::ns).zip us).lookup n0=some u/\R G u x.1:=by
 rintro G us _ ⟨v,r,e,h,_⟩
 simp[*]
def gQ {S:Rp c}(J:(f==n0)=false)(h:∀(G:Hp) (us:List V),us.length=ns.length->A G us x.2-> ∃u,(ns.zip us).lookup f=some u/\S G u y):∀(G:Hp) (us:List V),us.length=(n0::ns).length->AC R A G us x-> ∃u,((n0::ns).zip us).lookup f=some u/\S G u y:=by
 rintro G us L ⟨v,r,e,_,q⟩
 subst e;obtain⟨u,h1,h2⟩:=h G r (by simp_all) q;exact⟨u,(P8 J).trans h1,h2⟩
end
section
variable {a b c:Type}
def cC:∀(l:List c) (acc:List b),l.foldl (fun x z=>x++f z) acc=acc++l.flatMap f
 |[],acc=>by simp
 |z::l,acc=>by rw[abS,cC l,abP,abz]
def vP:∀(l:List c) (acc:List b),l.foldl (fun x z=>x++[f z]) acc=acc++l.map f
 |[],acc=>by simp
 |z::l,acc=>by rw[abS,vP l,acn,abz];rfl
def ir {f:c->List b}:∀(l:List c),(∀z∈l,(f z).length<=m)->(l.flatMap f).length<=l.length*m
 |[],_=>by simp
 |z::l,h=>by
  have h1:=h z (acw ..);have h2:=ir l fun y J=>h y (acv _ J)
  rw[abP,ab7,ab8,adu];lia
def Nl {vs:List V}(h:Paired R vs xs)(J:OI xs i=some y):∃v,OI vs i=some v/\R v y:=by
 delta OI at J ⊢;rw[aw h];cases q:Qb _ i with
 |none=>rw[q] at J;contradiction
 |_ j=>rw[q] at J;exact cw h J
end
section
variable {σ:L2.St}{G H:Hp}{K:b0}{a b c:Type}
def L4 (h:RE ta σ G H (ag R) xs)(h2:RE tb σ G H af i)(Y:OI xs i=some y)(U:aK R:=by infer_instance):RE (il (gF K) ta tb) σ G H R y:=fun G' H' e Q q=>
 h G' H' e _ fun v G1 H1 M ⟨p,vs,Z,O,pr⟩=>h2 G1 H1 (e.trans M) _ fun u G2 H2 J r2=>by
  obtain⟨w,hw,L⟩:=Nl pr Y;exact xi4 p vs i w ⟨Z,r2,dh.of ((J.gg.trans J.gh.at_) _ _ O),hw,q _ _ _ (M.trans J) (aK.mono J.gg L)⟩
def yt (h:xs≠[]):OI xs (-1)=some (xs.getLastD d):=by
 obtain⟨ys,y,rfl⟩:∃ys y,xs=ys++[y]:=⟨_,_,(abD h).symm⟩
 rw[UG];simp
end
def Ji:∀{fs:List (Str×V)} (ks:ky) (_:fs.map (·.1)=ks) (_:ks.contains f=false),nP f v fs=fs++[(f,v)]
 |[],_,_,_=>rfl
 |(g,x)::r,ks,e,h=>by
  subst e;rw[acn,List.contains_cons,Bool.or_eq_false_iff] at h;have J:¬g=f:=fun z=>by lia
  show(if g=f then _::r else _::nP f v r)=_
  rw[ad2 J,Ji _ rfl h.2];rfl
def Fz (J:S->L2.St->Hp->Hp->Prop)(s0:S)(h0:J s0 σ G H)(c:S->Bool)(O:S->Nat)(hc:∀s L G' H',J s L G' H'->Sub G' H'/\RT q L G' H' (c s))
  (hT:∀s L G' H',J s L G' H'->c s=true-> ∀U H2,Ext G' H' U H2->tb {D with nx:=fun σ5 Y=>∃M Z,J M σ5 Z Y/\O M < O s,ct:=fun σ5 Y=>∃M Z,J M σ5 Z Y/\O M < O s,bk:=D.nx} L H2)
  (hE:∀s L G' H',J s L G' H'->c s=false-> ∀U H2,Ext G' H' U H2->D.nx L H2):FH q tb D σ H:=by
 refine⟨fun m L H'=>∃s G',J s L G' H'/\m=O s,⟨_,s0,G,h0,rfl⟩, ?_⟩;rintro m L H' ⟨s,G',j,rfl⟩;obtain⟨sm,rt⟩:=hc s L G' H' j;refine rt G' H' (Ext.refl sm) _ fun U H2 e2=> ?_
 cases hcs:c s with
 |true=>
  grind
 |_=>
  grind
end My
namespace My
open PySem PySem.Spec PyProof.Rows L2
section
variable {prog:dn}{w:fx}{A:eu}{E:ee->cq->Prop}{s:cq}{l:dr}{its:kA}{ns:hA}{Q:ee->cq->Prop}
def Rr (hh:A.handled=none)(L:s.heap.IsTuple l its.toArray)(hi:IntsAre its ns)
  (h:∀h' tk t',(∀b o,s.heap.get? b=some o->h'.get? b=some o)->Q (.int ns.sum t') {s with heap:=h',toks:=tk}):wpAny (model prog w) A (call (.builtin "sum") [.ref l]) Q E s:=by
 obtain⟨xs,e⟩:=hi.allInts.items;have J:numsOf (intItems xs).toList=ns:=by rw[<- e];exact hi.numsOf
 rw[ad9] at J;rw[e] at L;refine PySem.W.ktm_sumG hh L fun h' tk t' M=> ?_
 have:=h h' tk t' M
 rw[preSum_eq,ac2 (by simp),J];exact this
def SS (hh:A.handled=none)(O:s.heap.IsTuple l its.toArray)(hi:IntsAre its ns)(J:0 < ns.length)
  (h:∀h' tk M t',(∀b o,s.heap.get? b=some o->h'.get? b=some o)->M∈ns->(∀a,a∈ns->a<=M)->Q (.int M t') {s with heap:=h',toks:=tk}):wpAny (model prog w) A (call (.builtin "max") [.ref l]) Q E s:=by
 obtain⟨xs,e⟩:=hi.allInts.items;have Y:numsOf (intItems xs).toList=ns:=by rw[<- e];exact hi.numsOf
 rw[ad9] at Y;subst Y;rw[e] at O;have hsz:=by simpa using J
 have L:(intItems xs).size=xs.size:=by simp[intItems]
 obtain⟨o,ho,hc,n,hd⟩:=id O;have U:=aa_ ho;have J:=adp U;refine call_max_walk (wpAny_pyIter_tuple O ?_);refine xi5 s.heap.objs.size _ _ _ _ (xi2 _ _ ⟨rfl,Walks.tuple (A:=A.in1) hh _ l J _,⟨⟨_,aa7 _ rfl,rfl,rfl⟩,O.at fun o e=>aa6 _ e⟩,fun b Z=> ?_,by lia,CmpOf.ints_gt _ (fun _ _=>ad5),fun v h' tk hP hk=> ?_⟩)
 .show b < (s.heap.push _).objs.size
  rw[aba]
  grind
 .rw[L] at hP;obtain⟨t,rfl⟩:=ad5 hP;obtain⟨h1,h2⟩:=argBest_gt _ _;refine h h' tk _ t (fun b o e=>hk b o (fun Z=>absurd (aa_ e) ((acF.mp Z) ▸ ade _)) (aa6 _ e)) ?_ fun a ha=> ?_
  .rw[ad8];exact PySem.getD_mem (by grind)
  .obtain⟨j,hj,rfl⟩:=mem_getD ha;rw[aca,aaN] at hj;rw[<- ad8];exact h2 j (by lia)
end
def bt_len:bootBuiltins "len"=some (.builtin "len"):=by decide+kernel
def HS:bootBuiltins "sum"=some (.builtin "sum"):=by rfl
def Cv:bootBuiltins "min"=some (.builtin "min"):=by rfl
def HU:bootBuiltins "max"=some (.builtin "max"):=by rfl
def bt_all:bootBuiltins "all"=some (.builtin "all"):=by decide+kernel
def p7:bootBuiltins "list"=some (.type "list"):=by rfl
def oX:bootBuiltins "tuple"=some (.type "tuple"):=by rfl
section
variable {X:Cx}
def Se (K:b0):List V->Hp->VK->Prop:=fun vs H Q=>∃(a:dr) (ns:hA),vs=[V.ref a]/\mO K H a (ns.map V.int)/\Q (.int ns.sum) H
def Sg (K:b0):List V->Hp->VK->Prop:=fun vs H Q=>∃(a:dr) (ns:hA),vs=[V.ref a]/\mO K H a (ns.map V.int)/\0 < ns.length/\ ∀m,m∈ns->(∀y,y∈ns->y<=m)->Q (.int m) H
def IsTup.Oa (x:IsTup h a xs):h.IsTuple a xs:=by
 obtain⟨o,J,hc,n,hd⟩:=x;exact⟨o,J,hc,n,hd⟩
def Xg (hc:X.calm=true):jB X (.builtin "sum") (Se X.K):=by
 intro _ s σ H vs us Q I r h;obtain⟨a,ns,rfl,L,q⟩:=h;obtain⟨its,J,M,_⟩:=I.tuple L;rw[Vals.FY r];exact Rr (I.ok.hd hc) (IsTup.Oa M) J.ints fun h' tk t' O=>⟨.int _,H,I.kept O,⟨_,rfl⟩,q⟩
def Xh (hc:X.calm=true):jB X (.builtin "max") (Sg X.K):=by
 intro _ s σ H vs us Q I r h;obtain⟨a,ns,rfl,M,J,q⟩:=h;obtain⟨its,L,O,_⟩:=I.tuple M;rw[Vals.FY r];exact SS (I.ok.hd hc) (IsTup.Oa O) L.ints J fun h' tk m t' U h1 h2=>⟨.int _,H,I.kept U,⟨_,rfl⟩,q m h1 h2⟩
end
section
variable {σ:L2.St}{G H:Hp}{K:b0}
def VL (h:RA ta σ G H (AC (g6 K) A0) (x,())):RE (CU (Se K) ta) σ G H af (x.1+x.2.1+x.2.2):=fun G' H' e Q q=>h G' H' e _ fun vs Y H1 J ⟨v,r,U,⟨p,M,L⟩,O⟩=>by
 subst U M;subst O;refine⟨p,[x.1,x.2.1,x.2.2],rfl,aE.tup J.gh.at_ L,q _ _ _ J ?_⟩
 congr 1
 grind
def JN (x:I3):Int:=max x.1 (max x.2.1 x.2.2)
def VP (h:RA ta σ G H (AC (g6 K) A0) (x,())):RE (CU (Sg K) ta) σ G H af (JN x):=fun G' H' e Q q=>h G' H' e _ fun vs Y H1 J ⟨v,r,U,⟨p,M,L⟩,O⟩=>by
 subst U M;subst O;refine⟨p,[x.1,x.2.1,x.2.2],rfl,aE.tup J.gh.at_ L,by simp,fun m h1 h2=>q _ _ _ J ?_⟩
 congr 1
 have a1:=h2 x.1 (by simp);have a2:=h2 x.2.1 (by simp);have a3:=h2 x.2.2 (by simp);delta JN
 grind
end
section
variable {X:Cx}
def dZ (K:b0)(h:X.K=K:=by rfl):IxR X (gF K):=by subst h;exact Ww
def BL (K:b0)(h:X.K=K:=by rfl):IxR X (L6 K):=by subst h;exact Z3
def VC (K:b0)(h:X.K=K:=by rfl):SlR X (Py K):=by subst h;exact VB
def eqD (K:b0)(J:X.A.units+64 < cLine)(h:X.K=K:=by rfl):xG X (compareOp .Eq) (VV K):=by subst h;exact ZQ J
def neD (K:b0)(J:X.A.units+64 < cLine)(h:X.K=K:=by rfl):xG X (compareOp .NotEq) (VU K):=by subst h;exact ZP J
def crLen (K:b0)(h:X.K=K:=by rfl):jB X (.builtin "len") (fun xs H Q=>∃p ys,xs=[.ref p]/\(dh K H p ys\/mO K H p ys)/\Q (.int ys.length) H):=by subst h;exact HL
def Ck (K:b0)(h:X.K=K:=by rfl):jB X (.type "list") (fun xs H Q=>∃p ys,xs=[.ref p]/\(dh K H p ys\/mO K H p ys)/\ ∀l,H l=none->Q (.ref l) (upd H l (.lst ys))):=by subst h;exact HK
def r_ (K:b0)(h:X.K=K:=by rfl):jB X (.type "tuple") (fun xs H Q=>∃p ys,xs=[.ref p]/\((dh K H p ys/\ ∀l,H l=none->Q (.ref l) (upd H l (.tup ys)))\/(mO K H p ys/\Q (.ref p) H))):=by subst h;exact El
def YA (K:b0)(hc:X.calm=true)(h:X.K=K:=by rfl):jB X (.builtin "sum") (Zw K):=by subst h;exact aaH hc
def OB (K:b0)(hc:X.calm=true)(h:X.K=K:=by rfl):jB X (.builtin "min") (Zy K):=by subst h;exact aaI hc
def crAll (K:b0)(hc:X.calm=true)(h:X.K=K:=by rfl):jB X (.builtin "all") (Zz K):=by subst h;exact aaJ hc
def Uj (K:b0)(hc:X.calm=true)(h:X.K=K:=by rfl):jB X (.builtin "sum") (Se K):=by subst h;exact Xg hc
def Uk (K:b0)(hc:X.calm=true)(h:X.K=K:=by rfl):jB X (.builtin "max") (Sg K):=by subst h;exact Xh hc
def aF (K:b0)(J:PE X e ta)(L:eval e X.env=attributeBase e f X.env (eval e X.env):=by rfl)(h:X.K=K:=by rfl):PE X (.Attribute e f pos) (jF K ta f):=by subst h;exact ZL J L.symm
def c9 (K:b0)(M:PE X o ta)(J:PE X value tv)(L:pure false=swapsWith value (some (.Attribute o f pos')) pos.line X.env:=by rfl)(h:X.K=K:=by rfl):PS X (.Assign [.Attribute o f pos'] value pos) (FX K ta tv f):=by subst h;exact ZE M J L.symm
def rP (K:b0)(J:PE X l tl)(h:X.K=K:=by rfl):PI X tg l (Tc K tl):=by subst h;exact V5 J
def piT (K:b0)(J:PE X l tl)(h:X.K=K:=by rfl):PI X tg l (Z7 K tl):=by subst h;exact ZG J
def piE (K:b0)(M:Gl X "enumerate")(L:X.mg "enumerate"=none)(O:PA X [e] ta)(J:starEach [e] X.env=[(false,eval e X.env)]:=by rfl)(h:X.K=K:=by rfl):PI X (.Tuple elts kk tpos) (.Call (.Name "enumerate" p) [e] [] pos) (Td K ta):=by subst h;exact V6 M L O J
def piZ (K:b0)(O:Gl X "zip")(M:X.mg "zip"=none)(U:PA X [e,e2] ta)
  (L:starEach [e,e2] X.env=(false,eval e X.env)::starEach [e2] X.env:=by rfl) (J:(backTo pos (starEach [e2] X.env)).any (·.1)=false:=by rfl) (h:X.K=K:=by rfl):PI X (.Tuple elts kk tpos) (.Call (.Name "zip" p) [e,e2] [] pos) (Z6 K ta):=by subst h;exact ZF O M U L J
def Sr (K:b0)(hc:X.calm=true)(hh:PGs X es t)
  (L:(assignEach es X.env).length=n:=by rfl) (J:(assignEach es X.env).findIdx? (·.1)=none:=by rfl) (h:X.K=K:=by rfl):PG X (.Tuple es k pos) (WM K n t):=by subst h;exact ZI hc hh L J
def lP (K:b0){id:String}(slot:Slot "list" name id)(U:typeOf (.builtin id)=pure (.type "method_descriptor"))(hm:MtR X id r)(Z:PE X o to)(ha:PA X (e::es) t)
  (M:attributeBase o name X.env (eval o X.env)=eval o X.env:=by rfl)
  (O:((backTo cpos (starEach (e::es) X.env)).all (fun x=> !x.1)&&(backToKw cpos (keywordEach [] X.env)).all (fun x=>x.1.isSome)
   &&decide ((e::es).length+([]:List Keyword).length+(if([]:List Keyword).isEmpty then 0 else 1) < 30))=true:=by rfl)
  (L:(apos.endLine==cpos.line)=true:=by rfl) (Y:starEach (e::es) X.env=(false,eval e X.env)::starEach es X.env:=by rfl) (J:(backTo cpos (starEach es X.env)).any (·.1)=false:=by rfl) (h:X.K=K:=by rfl):
  PE X (.Call (.Attribute o name apos) (e::es) [] cpos) (Rq K "list" r to t):=by subst h;exact pe_bm PySem.F.plainAttrs_list slot U hm Z ha M O L Y J
end
def Es (K:b0)(a:dr)(zs:List V):Prop:=∃(its:kA) (n:Nat),K.lookup a=some {cls:=.type "tuple",data:=.seq its.toArray n}/\Vals zs its/\zs.length<=sizeLine
def Jh (K:b0):V->List V->Hp->VK->Prop:=fun x vs H Q=>∃l b xs zs,x=.ref l/\vs=[.ref b]/\H l=some (.lst xs)/\Es K b zs/\xs.length+zs.length<=sizeLine/\Q .iB (upd H l (.lst (xs++zs)))
def P5 (K:b0)(hK:X.K=K:=by rfl):MtM X "list.extend" (Jh K):=by
 intro _ s σ H x vs v us Q I U Y h;subst hK;obtain⟨l,b,xs,zs,rfl,rfl,O,⟨J,n2,hB,r2,_⟩,hz,q⟩:=h;subst U;obtain⟨u,rfl,Z⟩:=Y.one;subst Z;obtain⟨z,its,n,r,hl,e⟩:=I.Bv O;have hl2:=r2.length;have e2:=I.DX _ _ hB;have M:its.toArray.size+J.toArray.size<=sizeLine:=by simp_all
 have L:¬(!its.toArray.isEmpty&&Builtin.List.listTooLong (its.toArray.size+J.toArray.size))=true:=by
  rw[wZ M,aaP];decide
 refine adU aa3 ⟨_,e,rfl⟩ aa1 (aa0 _ _)
  (AutoSeq1.list_extend_list_tuple_0 l _ n b _ n2 L (by lia) (by lia)) ⟨e,e2, ?_⟩
 refine⟨.iB,_,I.Mu O e (by simp) (r.append r2) ?_,rfl,q⟩
 simp_all
def O0 {K:b0}(M:σ[j]?=some (some (.ref p)))(J:H p=some (.lst vs))(O:Es K b us)(L:vs.length+us.length<=sizeLine)
  (k:D.nx σ (upd H p (.lst (vs++us)))):wt (Rq K "list" (Jh K) (cc j) (bO (tC (.ref b)) fV)) D σ H:=
 ⟨_,M,.inl ⟨rfl,_,dh.of J⟩,p,b,vs,us,rfl,rfl,J,O,L,k⟩
def Es.sq {K:b0}(h:Es K a zs):mO K G a zs:=by
 obtain⟨its,n,h1,h2,J⟩:=h;exact .inr (xi3 _ its.toArray n ⟨h1,rfl,rfl,by rw[acY,<- h2.length];trivial⟩)
def Es.tup {K:b0}{xs:List a}(h:Es K b zs)(q:Paired (R G) zs xs):XN K R G (.ref b) xs:=⟨b,zs,rfl,h.sq,q⟩
def kI (lo c:Int)(n:Nat):hA:=(List.range n).map fun(k:Nat)=>lo+(k:Int)*c
def tLR (ta:TA):TE:=fun σ H Q=>ta σ H fun vs H1=>∃(i j c:Int) (n:Nat),vs=[.int i,.int j,.int c]/\RgC i j c n/\n<=2^24/\ ∀l,H1 l=none->Q (.ref l) (upd H1 l (.lst ((kI i c n).map V.int)))
def BM:∀{n:Nat} {acc:Array ee},ItemsOf (fun k v=>∃t,v=.int (i+(k:Nat)*c) t) acc n->Vals ((kI i c n).map V.int) acc.toList:=by
 intro n acc h;obtain⟨h1,h2⟩:=h;have gen:∀l k,(∀j v,l[j]?=some v-> ∃t,v=Value.int (i+((k+j:Nat):Int)*c) t)->Vals (((List.range' k l.length).map fun(q:Nat)=>i+q*c).map V.int) l:=by
  intro l
  induction l with
  |nil=>intro k _;exact .nil
  |_ v l L=>
   intro k h;obtain⟨t,e⟩:=h 0 v rfl;refine .cons ⟨t,by omega⟩ (L _ fun j u J=> ?_);obtain _:=h (j+1) u (by assumption)
   grind
 have:=gen _ 0 fun j v J=>by
  have:=h2 j v (by rw[<- Array.getElem?_toList];exact J)
  simp[*]
 delta kI;rw[List.range_eq_range']
 simp_all
def AH (hc:X.calm=true)(hg:Gl X "list")(hm:X.mg "list"=none)(Z:Gl X "range")(Y:X.mg "range"=none)(ha:PA X [a,b,c] ta)
  (hs:starEach [a,b,c] X.env=(false,eval a X.env)::starEach [b,c] X.env:=by rfl) (U:(backTo pos2 (starEach [b,c] X.env)).any (·.1)=false:=by rfl)
  (O:starEach [.Call (.Name "range" p2) [a,b,c] [] pos2] X.env=[(false,eval (.Call (.Name "range" p2) [a,b,c] [] pos2) X.env)]:=by rfl):
  PE X (.Call (.Name "list" p) [.Call (.Name "range" p2) [a,b,c] [] pos2] [] pos) (tLR ta):=by
 intro nj s σ H Q I h;refine Call_ (lX I hg hm p7 (adG ?_ O rfl));refine aaY ?_;refine Call_ (lX I Z Y boot_range (adG (gk (ha _ _ s σ H _ I h) fun us s1 ⟨vs,H1,I1,r1,q1⟩=> ?_) hs U));obtain⟨i,j,k,n,e,⟨c0,c1,c2,c3⟩,hn,q⟩:=q1;subst e;cases r1 with
 |cons r J=>
  cases J with
  |cons r' J=>
   cases J with
   |cons M J=>
    cases J;obtain⟨t,rfl⟩:=r;obtain⟨t',rfl⟩:=r';obtain⟨L,rfl⟩:=M;refine call_range_3 c0 ?_ (.inl (PyProof.noPylong_small c1));refine aaZ ?_;have I2:Inv X _ σ H1 {s1 with heap:=s1.heap.push {cls:=.type "range",data:=.fields #[.int i t,.int j t',.int k L]}}:=I1.kept fun b o e=>aa6 _ e
    refine call_list_range (I1.ok.hd hc) (IsRange.new ..) c2 c3 hn fun h' tk acc c' hk hD hI=> ?_
    have hv:=BM hI;have hz:((kI i k n).map V.int).length<=sizeLine:=by
     rw[aca];delta kI;rw[aca,acd]
     assumption
    refine⟨.ref _,_,I2.laid (o:=.lst _) hk (ac_ _) ⟨hz,acc.toList,c',hv,by exact hD⟩,rfl,q _ (I2.cK.fresh (ac_ _))⟩
def re_lr (h:RA ta σ G H (AC af (AC af (AC af A0))) (i,j,c,()))(Z:RgC i j c n)(hn:n<=2^24):RE (tLR ta) σ G H (ag af) (kI i c n):=fun G' H' e Q q=>
 h G' H' e _ fun vs G1 H1 U ⟨v1,r1,O,h1,v2,r2,M,h2,v3,r3,L,h3,h4⟩=>by
  subst O M L;subst h1;subst h2;subst h3;subst h4;refine xi4 i j c n ⟨rfl,Z,hn,fun l hl=> ?_⟩;have la:=Ext.laid (o:=.lst ((kI i c n).map V.int)) U.gh hl;refine q _ _ _ (U.trans la) ⟨l,_,rfl,ah, ?_⟩;generalize kI i c n=Y
  induction Y with
  |nil=>exact .nil
  |_ x r J=>exact .cons rfl (by
    clear J la
    induction r with
    |nil=>exact .nil
    |_ y r J=>exact .cons rfl J)
def Lh (i j:Int):Prop:=0 < j/\j.natAbs.log2 < 9000
def Jp:xG X (binaryOp .FloorDiv) (rI Lh fun i j=>.int (i / j)):=opI fun i j _ _ _ _ _ hc q=>by
 have h1:=hc.1;exact floordiv_int (by lia) (by grind) (.inl (PyProof.noPylong_of_log2 hc.2))
def Jb (h1:RE ta σ G H af i)(h2:RE tb σ G H af j)(J:Lh i j):RE (il (rI Lh fun i j=>.int (i / j)) ta tb) σ G H af (i / j):=I_ (fun _ _ _=>rfl) h1 h2 J
def Yi:List V->Hp->VK->Prop:=fun xs H Q=>∃i j,xs=[.int i,.int j]/\Q (.int (if j < i then j else i)) H
def aaK (hc:X.calm=true):jB X (.builtin "min") Yi:=QE hc
def VM (h:RA ta σ G H (AC af (AC af A0)) (i,j,())):RE (CU Yi ta) σ G H af (if j < i then j else i):=fun G' H' e Q q=>
 h G' H' e _ fun vs G1 H1 U ⟨v,r,Y,L,Z,r2,O,J,M⟩=>by
  subst Y O;subst M;subst L;subst J;exact⟨i,j,rfl,q _ _ _ U rfl⟩
end My
namespace Cw
open PySem PySem.Spec PyProof.Rows L2 My
def top (i:Nat):Stmt:=PySem.Challenge.pw_carpetworks_s01_answers.main.body.getD i (.Pass ⟨0,0,0,0⟩)
structure jC where
 Lg:dr
 Lb:dr
 Em:dr
 sC:dr
 yr:dr
 uu:dr
 cRoom:dr
 uv:dr
 cj:dr
 gj:dr
 n_:dr
structure Txt (K:b0)(mg:gp)(t:jC):Prop where
 UE:mg "all"=none
 hU:mg "enumerate"=none
 UD:mg "len"=none
 oY:mg "list"=none
 Fh:mg "max"=none
 CF:mg "min"=none
 ig:mg "range"=none
 xy:mg "sorted"=none
 Fg:mg "sum"=none
 n9:mg "tuple"=none
 K4:mg "zip"=none
 Lg:mg "DARK"=some (.ref t.Lg)
 HQ:∀G,g6 K G (.ref t.Lg) (0,0,0)
 Lb:mg "PARTS"=some (.ref t.Lb)
 XB:∃us,Es K t.Lb us/\ ∀G:Hp,Paired (g6 K G) us [(1,0,0),(0,1,0),(0,0,1)]
 Ep:∃k,mg "MOST_IN_A_MIX"=some (Value.int (3) k)
 yo:uD K t.Em
 vp:bY K t.Em "members"
 xa:bY K t.Em "shares"
 yJ:bY K t.Em "whole"
 dY:∃k,mg "NONE_SUCH"=some (Value.int (-2) k)
 Ld:∃k,mg "NO_ROLLS"=some (Value.int (-6) k)
 bN:∃k,mg "NOT_AS_TOLD"=some (Value.int (-22) k)
 FULL:∃k,mg "FULL"=some (Value.int (-28) k)
 lN:∃k,mg "CANNOT"=some (Value.int (-33) k)
 QP:∃k,mg "NOT_BEGUN"=some (Value.int (-61) k)
 xu:uD K t.sC
 tU:bY K t.sC "length"
 vj:bY K t.sC "place"
 HJ:uD K t.yr
 yL:bY K t.yr "parts"
 yK:bY K t.yr "price"
 zM:uD K t.uu
 vi:bY K t.uu "colour"
 w4:bY K t.uu "grams"
 pV:uD K t.cRoom
 vk:bY K t.cRoom "across"
 w_:bY K t.cRoom "along"
 w9:bY K t.cRoom "doors"
 w8:bY K t.cRoom "sides"
 zN:uD K t.uv
 vm:bY K t.uv "length"
 vo:bY K t.uv "begins"
 aH:uD K t.cj
 mB:bY K t.cj "begun"
 el:bY K t.cj "repeat"
 hZ:bY K t.cj "drop"
 k5:bY K t.cj "wide"
 eW:bY K t.cj "dyes"
 d7:bY K t.cj "tints"
 bR:bY K t.cj "rooms"
 fj:bY K t.cj "rolls"
 Le:∃k,mg "MOST_STRIPS"=some (Value.int (6) k)
 Fl:∃k,mg "MOST_DYES"=some (Value.int (5) k)
 Nw:∃k,mg "MOST_TINTS"=some (Value.int (4) k)
 wc:∃k,mg "MOST_OF_A_DYE_PART"=some (Value.int (50) k)
 sU:∃k,mg "MOST_OF_A_COLOUR_PART"=some (Value.int (1000) k)
 CM:∃k,mg "MOST_PRICE"=some (Value.int (1000) k)
 CO:∃k,mg "MOST_GRAMS"=some (Value.int (1000) k)
 Lf:∃k,mg "MOST_REPEAT"=some (Value.int (60) k)
 yw:∃k,mg "MOST_WIDE"=some (Value.int (60) k)
 Nz:∃k,mg "MOST_ROLLS"=some (Value.int (3) k)
 CN:∃k,mg "MOST_OF_A_ROLL"=some (Value.int (10000) k)
 Ia:∃k,mg "MOST_CHANGES"=some (Value.int (10) k)
 br:uD K t.gj
 cY:bY K t.gj "now"
 cT:bY K t.gj "earlier"
 eL:bY K t.gj "later"
 ORDER:∃k,mg "ORDER"=some (Value.int (32) k)
 n_:mg "GIVEN_COUNTS"=some (.ref t.n_)
 Cu:∃us,Es K t.n_ us/\ ∀G:Hp,Paired (af G) us [3,4,1,2,4,1,2,2,1,3,3,1,0,1,1,1,2,1,3,3,3,3,0,0,0,1,1,1,3,1,0,0,0,1,0,0,0,0,0,4,1,1,1,1,0,0,0]
 Ny:∃k,mg "MOST_ROOMS"=some (Value.int (3) k)
 uB:∃k,mg "MOST_OF_A_ROOM"=some (Value.int (200) k)
 NA:∃k,mg "MOST_DOORS"=some (Value.int (5) k)
 YK:∃k,mg "BEGIN"=some (Value.int (0) k)
 BACK:∃k,mg "BACK"=some (Value.int (44) k)
 AGAIN:∃k,mg "AGAIN"=some (Value.int (45) k)
abbrev qE:=(I3)×(Int)×Unit
abbrev u9 (K:b0)(t:jC):Rp qE:=CK t.yr ["parts","price"] (AC (g6 K) (AC af A0))
def kU {K:b0}(T:Txt K mg t)(h:RE ta σ G H (u9 K t) x):RE (jF K ta "parts") σ G H (g6 K) x.1:=fC T.HJ T.yL oV h
def kT {K:b0}(T:Txt K mg t)(h:RE ta σ G H (u9 K t) x):RE (jF K ta "price") σ G H af x.2.1:=fC T.HJ T.yK (gQ rfl oV) h
abbrev nv:=(I3)×(Int)×Unit
abbrev sO (K:b0)(t:jC):Rp nv:=CK t.uu ["colour","grams"] (AC (g6 K) (AC af A0))
def iP {K:b0}(T:Txt K mg t)(h:RE ta σ G H (sO K t) x):RE (jF K ta "colour") σ G H (g6 K) x.1:=fC T.zM T.vi oV h
def mx {K:b0}(T:Txt K mg t)(h:RE ta σ G H (sO K t) x):RE (jF K ta "grams") σ G H af x.2.1:=fC T.zM T.w4 (gQ rfl oV) h
abbrev cu:=(Int)×(Int)×(List ((Int×Int)))×(List ((Int×Int)))×Unit
abbrev eF (K:b0)(t:jC):Rp cu:=CK t.cRoom ["across","along","doors","sides"] (AC af (AC af (AC (ag (gE K af af)) (AC (ag (gE K af af)) A0))))
def dm {K:b0}(T:Txt K mg t)(h:RE ta σ G H (eF K t) x):RE (jF K ta "across") σ G H af x.1:=fC T.pV T.vk oV h
def gu {K:b0}(T:Txt K mg t)(h:RE ta σ G H (eF K t) x):RE (jF K ta "along") σ G H af x.2.1:=fC T.pV T.w_ (gQ rfl oV) h
def iA {K:b0}(T:Txt K mg t)(h:RE ta σ G H (eF K t) x):RE (jF K ta "doors") σ G H (ag (gE K af af)) x.2.2.1:=fC T.pV T.w9 (gQ rfl (gQ rfl oV)) h
def iz {K:b0}(T:Txt K mg t)(h:RE ta σ G H (eF K t) x):RE (jF K ta "sides") σ G H (ag (gE K af af)) x.2.2.2.1:=fC T.pV T.w8 (gQ rfl (gQ rfl (gQ rfl oV))) h
abbrev ji:=(Int)×(Int)×Unit
abbrev qb (K:b0)(t:jC):Rp ji:=CK t.uv ["length","begins"] (AC af (AC af A0))
def kR {K:b0}(T:Txt K mg t)(h:RE ta σ G H (qb K t) x):RE (jF K ta "length") σ G H af x.1:=fC T.zN T.vm oV h
def kS {K:b0}(T:Txt K mg t)(h:RE ta σ G H (qb K t) x):RE (jF K ta "begins") σ G H af x.2.1:=fC T.zN T.vo (gQ rfl oV) h
abbrev rh:=(List (Int))×(List (Int))×(Int)×Unit
abbrev xF (K:b0)(t:jC):Rp rh:=CK t.Em ["members","shares","whole"] (AC (ag af) (AC (ag af) (AC af A0)))
def oG {K:b0}(T:Txt K mg t)(h:RE ta σ G H (xF K t) x):RE (jF K ta "members") σ G H (ag af) x.1:=fC T.yo T.vp oV h
def ve {K:b0}(T:Txt K mg t)(h:RE ta σ G H (xF K t) x):RE (jF K ta "shares") σ G H (ag af) x.2.1:=fC T.yo T.xa (gQ rfl oV) h
def jq {K:b0}(T:Txt K mg t)(h:RE ta σ G H (xF K t) x):RE (jF K ta "whole") σ G H af x.2.2.1:=fC T.yo T.yJ (gQ rfl (gQ rfl oV)) h
abbrev bH:=(Int)×(Int)×Unit
abbrev cZ (K:b0)(t:jC):Rp bH:=CK t.sC ["length","place"] (AC af (AC af A0))
def nA {K:b0}(T:Txt K mg t)(h:RE ta σ G H (cZ K t) x):RE (jF K ta "length") σ G H af x.1:=fC T.xu T.tU oV h
def tJ {K:b0}(T:Txt K mg t)(h:RE ta σ G H (cZ K t) x):RE (jF K ta "place") σ G H af x.2.1:=fC T.xu T.vj (gQ rfl oV) h
abbrev aC:=(Bool)×(Int)×(Int)×(Int)×(List (qE))×(List (nv))×(List (cu))×(List (ji))×Unit
abbrev aU (K:b0)(t:jC):Rp aC:=CK t.cj ["begun","repeat","drop","wide","dyes","tints","rooms","rolls"] (AC dQ (AC af (AC af (AC af (AC (ag (u9 K t)) (AC (ag (sO K t)) (AC (ag (eF K t)) (AC (ag (qb K t)) A0))))))))
def tK {K:b0}(T:Txt K mg t)(h:RE ta σ G H (aU K t) x):RE (jF K ta "begun") σ G H dQ x.1:=fC T.aH T.mB oV h
def bK {K:b0}(T:Txt K mg t)(h:RE ta σ G H (aU K t) x):RE (jF K ta "repeat") σ G H af x.2.1:=fC T.aH T.el (gQ rfl oV) h
def my {K:b0}(T:Txt K mg t)(h:RE ta σ G H (aU K t) x):RE (jF K ta "drop") σ G H af x.2.2.1:=fC T.aH T.hZ (gQ rfl (gQ rfl oV)) h
def d5 {K:b0}(T:Txt K mg t)(h:RE ta σ G H (aU K t) x):RE (jF K ta "wide") σ G H af x.2.2.2.1:=fC T.aH T.k5 (gQ rfl (gQ rfl (gQ rfl oV))) h
def ck {K:b0}(T:Txt K mg t)(h:RE ta σ G H (aU K t) x):RE (jF K ta "dyes") σ G H (ag (u9 K t)) x.2.2.2.2.1:=fC T.aH T.eW (gQ rfl (gQ rfl (gQ rfl (gQ rfl oV)))) h
def eh {K:b0}(T:Txt K mg t)(h:RE ta σ G H (aU K t) x):RE (jF K ta "tints") σ G H (ag (sO K t)) x.2.2.2.2.2.1:=fC T.aH T.d7 (gQ rfl (gQ rfl (gQ rfl (gQ rfl (gQ rfl oV))))) h
def aQ {K:b0}(T:Txt K mg t)(h:RE ta σ G H (aU K t) x):RE (jF K ta "rooms") σ G H (ag (eF K t)) x.2.2.2.2.2.2.1:=fC T.aH T.bR (gQ rfl (gQ rfl (gQ rfl (gQ rfl (gQ rfl (gQ rfl oV)))))) h
def ei {K:b0}(T:Txt K mg t)(h:RE ta σ G H (aU K t) x):RE (jF K ta "rolls") σ G H (ag (qb K t)) x.2.2.2.2.2.2.2.1:=fC T.aH T.fj (gQ rfl (gQ rfl (gQ rfl (gQ rfl (gQ (by decide+kernel) (gQ rfl (gQ rfl oV))))))) h
end Cw
namespace Cw
open PySem PySem.Spec PyProof.Rows L2 My
structure Df where
 nm:Str
 i:Nat
 ps:ky
 sp:b0->jC->Sp
abbrev bh (K:b0)(d:Df):=yW K d.nm d.nm (top d.i)
abbrev dP (N:ky)(d:Df):=dN N d.ps (aO (top d.i))
abbrev dO (P:dn)(w:fx)(K:b0)(mg:gp)(base:Heap)(t:jC)(k:Nat)(f:dr)(fd:c5)(d:Df):=fA P w K mg base sQ k f fd d.ps (d.sp K t)
abbrev aL (P:dn)(w:fx)(K:b0)(mg:gp)(base:Heap)(t:jC)(k:Nat)(d:Df):=Cal P w K mg base k d.nm d.ps (d.sp K t)
section
variable {X:Cx}
abbrev aN:=@pv X 0
abbrev bz:=@pv X 1
abbrev bP:=@pv X 2
abbrev dJ:=@pv X 3
abbrev lO:=@pv X 4
abbrev uQ:=@pv X 5
abbrev Pz:=@pv X 6
abbrev VY:=@pv X 7
def aG (h:PE X e t)(s:starEach [e] X.env=(false,eval e X.env)::starEach [] X.env:=by rfl):PA X [e] (bO t fV):=gG h eU s
def aY (h:PE X e t)(k:PE X f u)(s:starEach [e,f] X.env=(false,eval e X.env)::starEach [f] X.env:=by rfl)(r:starEach [f] X.env=(false,eval f X.env)::starEach [] X.env:=by rfl):PA X [e,f] (bO t (bO u fV)):=gG h (aG k r) s
def cD (h:PE X e t)(k:PE X f u)(l:PE X g v)(s:starEach [e,f,g] X.env=(false,eval e X.env)::starEach [f,g] X.env:=by rfl)(r:starEach [f,g] X.env=(false,eval f X.env)::starEach [g] X.env:=by rfl)(q:starEach [g] X.env=(false,eval g X.env)::starEach [] X.env:=by rfl):PA X [e,f,g] (bO t (bO u (bO v fV))):=gG h (aY k l r q) s
def iZ (i:Nat)(M:X.N.Nodup)(hi:X.N[i]?=some x:=by rfl)(J:Loc X.env.scope x:=by walk_at"o")(L:X.fn x=true\/X.env.scope.names.lookup x=some .local:=by walk_at"o"):PG X (.Name x pos) (i5 i):=V7 M hi J L
def dC (i:Nat)(U:X.N.Nodup)(O:PE X e te)(hi:X.N[i]?=some x:=by rfl)(J:Loc X.env.scope x:=by walk_at"o")(L:pure false=swapsWith e (some (.Name x pos')) pos.line X.env:=by rfl)(M:X.fn x=true\/X.env.scope.names.lookup x=some .local:=by walk_at"o"):PS X (.Assign [.Name x pos'] e pos) (tp te (i5 i)):=ZD U hi J O L.symm M
def bJ (C:Cal X.prog X.w X.K X.mg X.base k x ps sp)(M:fM k' X.A)(Z:PA X (e::es) t)(O:k<=k':=by decide)(U:Gl X x:=by rfl)(L:(x==("__debug__":Str))=false:=by decide)(Y:starEach (e::es) X.env=(false,eval e X.env)::starEach es X.env:=by rfl)(J:false=(backTo pos (starEach es X.env)).any (·.1):=by rfl):PE X (.Call (.Name x p) (e::es) [] pos) (s_ sp [] E0 t):=pcall C M O U Z L Y J.symm
def cW (L:IxR X r)(O:PE X a ta)(M:PE X b tb)(J:OL b:=by intro _ _;rfl):PE X (.Subscript a b pos) (il r ta tb):=pe_ix L O M J
def QV (J:xG X (compareOp op) r)(M:PE X a ta)(L:PE X b tb)(h:op≠.In:=by decide)(h2:op≠.NotIn:=by decide):PE X (.Compare a [op] [b] pos) (il r ta tb):=Wb J M L (SH _ h h2)
def ka (J:xG X (compareOp op) r)(M:PE X a ta)(L:PE X b tb)(h:op≠.In:=by decide)(h2:op≠.NotIn:=by decide):PT X (.Compare a [op] [b] pos) (Rl (il r ta tb)):=V0 J M L (SH _ h h2)
def nD {K:b0}(T:Txt K m t)(h:PE X e u)(J:X.mg=m:=by rfl)(L:Gl X "len":=by rfl)(s:starEach [e] X.env=(false,eval e X.env)::starEach [] X.env:=by rfl)(M:X.K=K:=by rfl):PE X (.Call (.Name "len" p) [e] [] pos) (CU (fun xs H Q=>∃p ys,xs=[.ref p]/\(dh K H p ys\/mO K H p ys)/\Q (.int ys.length) H) (bO u fV)):=fD (crLen K M) L (J ▸ T.UD) bt_len (aG h s) (by decide) (by rfl) s rfl
end
section
variable {σ:L2.St}{G H:Hp}
def aR (h:R G v x)(b:some (some v)=σ[i]?:=by rfl)(m:aK R:=by infer_instance):RE (cc i) σ G H R x:=ab b.symm h sr
def bp (h:RE e σ G H R x)(m:aK R:=by infer_instance):RA (bO e fV) σ G H (AC R A0) (x,()):=bE h qp
def bX (h:RE e σ G H R x)(k:RE f σ G H S y)(m:aK R:=by infer_instance)(n:aK S:=by infer_instance):RA (bO e (bO f fV)) σ G H (AC R (AC S A0)) (x,y,()):=bE h (bp k)
def fY (h:RE e σ G H R x)(k:RE f σ G H S y)(l:RE g σ G H U z)(m:aK R:=by infer_instance)(n:aK S:=by infer_instance)(o:aK U:=by infer_instance):RA (bO e (bO f (bO g fV))) σ G H (AC R (AC S (AC U A0))) (x,y,z,()):=bE h (bX k l)
end
section
variable {P:dn}{w:fx}{K:b0}{mg:gp}{base:Heap}{b:Type}{x q:Str}{st:Stmt}{f:dr}{fd:c5}{N ps:ky}{k:Nat}{R:Rp b}{a c d e:Type}{A:Rp a}{B:Rp c}{C:Rp d}{D:Rp e}
def QU (F:yW K x q st f fd)(S:dN N ps (aO st))(h:∀{J:ee} {L:eu} {o:List Env} {s:cq} {E:XK} (H:Hp),fM k (L.deeper (envOfC q (aO st) s.heap.objs.size f J))->
  ∃t,Eo (je sQ P w K mg base N q (aO st) f J L o s H E).PY (e_ st) t/\ ∀(G:Hp) x v,Sub G H->A G v x->pre (x,())->RS t (rd N [v]) G H R (g (x,()))) (M:1=ps.length:=by rfl):fA P w K mg base sQ (k+1) f fd ps (fz 1 (AC A A0) pre R g):=
 wN F S M fun _ _ _ _ H _ r=>let⟨t,p,z⟩:=h H r;⟨t,p,fun G _ (x,_) s ⟨v,_,i,j,l⟩ m=>by subst i;subst l;exact z G x v s j m⟩
def mT (F:yW K x q st f fd)(S:dN N ps (aO st))(h:∀{J:ee} {L:eu} {o:List Env} {s:cq} {E:XK} (H:Hp),fM k (L.deeper (envOfC q (aO st) s.heap.objs.size f J))->
  ∃t,Eo (je sQ P w K mg base N q (aO st) f J L o s H E).PY (e_ st) t/\ ∀(G:Hp) x y v u,Sub G H->A G v x->B G u y->pre (x,y,())->RS t (rd N [v,u]) G H R (g (x,y,()))) (U:2=ps.length:=by rfl):fA P w K mg base sQ (k+1) f fd ps (fz 2 (AC A (AC B A0)) pre R g):=
 wN F S U fun _ _ _ _ H _ r=>let⟨t,p,z⟩:=h H r;⟨t,p,fun G _ (x,y,_) s ⟨v,_,i,j,u,_,O,M,l⟩ m=>by subst i;subst O;subst l;exact z G x y v u s j M m⟩
def Jj (F:yW K x q st f fd)(S:dN N ps (aO st))(h:∀{J:ee} {L:eu} {o:List Env} {s:cq} {E:XK} (H:Hp),fM k (L.deeper (envOfC q (aO st) s.heap.objs.size f J))->
  ∃t,Eo (je sQ P w K mg base N q (aO st) f J L o s H E).PY (e_ st) t/\ ∀(G:Hp) x y z v u r,Sub G H->A G v x->B G u y->C G r z->pre (x,y,z,())->RS t (rd N [v,u,r]) G H R (g (x,y,z,()))) (Y:3=ps.length:=by rfl):fA P w K mg base sQ (k+1) f fd ps (fz 3 (AC A (AC B (AC C A0))) pre R g):=
 wN F S Y fun _ _ _ _ H _ r=>let⟨t,p,z⟩:=h H r;⟨t,p,fun G _ (x,y,a,_) s ⟨v,_,i,j,u,_,U,O,r,_,i3,M,l⟩ m=>by subst i;subst U;subst i3;subst l;exact z G x y a v u r s j O M m⟩
def po4 (F:yW K x q st f fd)(S:dN N ps (aO st))(h:∀{J:ee} {O:eu} {o:List Env} {s:cq} {E:XK} (H:Hp),fM k (O.deeper (envOfC q (aO st) s.heap.objs.size f J))->
  ∃t,Eo (je sQ P w K mg base N q (aO st) f J O o s H E).PY (e_ st) t/\ ∀(G:Hp) x y z L v u r M,Sub G H->A G v x->B G u y->C G r z->D G M L->pre (x,y,z,L,())->RS t (rd N [v,u,r,M]) G H R (g (x,y,z,L,()))) (hn:4=ps.length:=by rfl):fA P w K mg base sQ (k+1) f fd ps (fz 4 (AC A (AC B (AC C (AC D A0)))) pre R g):=
 wN F S hn fun _ _ _ _ H _ r=>let⟨t,p,z⟩:=h H r;⟨t,p,fun G _ (x,y,a,b,_) s ⟨v,_,i,j,u,_,i2,Z,r,_,i3,Y,q,_,i4,U,l⟩ m=>by subst i;subst i2;subst i3;subst i4;subst l;exact z G x y a b v u r q s j Z Y U m⟩
end
end Cw
end
open My L2
local macro_rules|`(tactic|walk_at"same")=>`(tactic|first|exact aE.refl _|exact Ext.gg (by assumption)|exact QW.gg (by assumption)|exact aE.trans (QW.gg (by assumption)) (by walk_at"same")|exact aE.trans (Ext.gg (by assumption)) (by walk_at"same"))
local macro_rules|`(tactic|walk_at"re")=>`(tactic|with_reducible first|exact ab rfl (by assumption) (by walk_at"same")|exact ao|exact L5 (by assumption) (by walk_at"same")|exact NW|exact jW|exact qp|exact bu|((first|apply oF|apply tH|apply qo|apply vE|apply re_fdiv|apply Aq|apply Zj|apply NX|apply xQ|apply sJ|apply Ja|apply EG|apply g7|apply lV|apply L0|apply Zu|apply Zl|apply bL|apply wH|apply Zq|apply Zp|apply Zo|apply Yg|apply dc|apply LZ|apply VL|apply VP|apply Sa|apply aJ|apply kQ|apply bG|apply ak|apply bE|apply aI|apply dj|apply bZ|apply fB|refine' vD ?_ (fun hc=> ?_)|refine' oE ?_ (fun hc=> ?_)|refine' Au ?_ (fun hc=> ?_)|refine' re_or ?_ (fun hc=> ?_)|refine' lQ ?_ (fun hc=> ?_) (fun hc=> ?_)|apply ph)<;>walk_at"re")|infer_instance|skip)
noncomputable section
namespace Cw
open PySem PySem.Spec PyProof.Rows L2 My
def cross (x y:I3):I3:=(x.2.1*y.2.2 - x.2.2*y.2.1,x.2.2*y.1 - x.1*y.2.2,x.1*y.2.1 - x.2.1*y.1)
def dot (x y:I3):Int:=x.1*y.1+x.2.1*y.2.1+x.2.2*y.2.2
def PZ (x:I3):I3:=(-x.1, -x.2.1, -x.2.2)
def gI (m:Int)(x:I3):Prop:=(-m<=x.1/\x.1<=m)/\(-m<=x.2.1/\x.2.1<=m)/\(-m<=x.2.2/\x.2.2<=m)
def rS (L: -a<=x/\x<=a)(J: -b<=y/\y<=b): -(a*b)<=x*y/\x*y<=a*b:=by
 have h:(x*y).natAbs<=a.natAbs*b.natAbs:=by
  rw[Int.natAbs_mul];exact Nat.mul_le_mul (by lia) (by lia)
 grind
def gI.mono (h:gI a x)(l:a<=b):gI b x:=by
 obtain⟨h1,h2,J⟩:=h;exact⟨by omega,by omega,by omega⟩
def gI.cross (h:gI a x)(h':gI b y)(hc:2*(a*b)<=c):gI c (cross x y):=by
 obtain⟨h1,h2,O⟩:=h;obtain⟨M,L,J⟩:=h';have:=rS h1 L;have:=rS h1 J;have:=rS h2 M;have:=rS h2 J;have:=rS O M;have:=rS O L
 exact⟨by show _<=_ - _/\_ - _<=_;omega,by show _<=_ - _/\_ - _<=_;omega,by show _<=_ - _/\_ - _<=_;omega⟩
def iT (one other colour:I3):Option hA:=if(decide (cross one other=(0,0,0))|| !decide (dot (cross one other) colour=0)) then none else some [dot (cross one other) (cross one other),dot (cross one other) (cross colour other),dot (cross one other) (cross one colour)]
def sgn (s:Int):Int:=if decide (0 < s) then 1 else -1
def gw (one other third colour:I3):Option hA:=if decide (dot one (cross other third)=0) then none else some [sgn (dot one (cross other third))*dot one (cross other third),sgn (dot one (cross other third))*dot colour (cross other third),sgn (dot one (cross other third))*dot one (cross colour third),sgn (dot one (cross other third))*dot one (cross other colour)]
def iU (dye colour:I3):Option hA:=if !decide (cross dye colour=(0,0,0)) then none else some [dye.1+dye.2.1+dye.2.2,colour.1+colour.2.1+colour.2.2]
def gH (chosen:List I3)(colour:I3):Option hA:=if decide ((chosen.length:Int)=0) then(if decide (colour=(0,0,0)) then some [1] else none) else if decide ((chosen.length:Int)=1) then iU (chosen.getD 0 (0,0,0)) colour else if decide ((chosen.length:Int)=2) then iT (chosen.getD 0 (0,0,0)) (chosen.getD 1 (0,0,0)) colour else gw (chosen.getD 0 (0,0,0)) (chosen.getD 1 (0,0,0)) (chosen.getD 2 (0,0,0)) colour
def o7 (row:hA):Int:=if decide (0 < (row.length:Int)) then row.getLastD 0+1 else 0
def jt (rows:List hA)(count:Int):List hA:=rows.flatMap fun row=>(upTo (o7 row) (count - o7 row).toNat).map fun n=>row++[n]
def IH (h:∀y∈row,0<=y/\y < 100):0<=o7 row/\o7 row<=100:=by
 delta o7;split
 .next hc=>
  have J:row.getLastD 0∈row:=by
   grind
  grind
 .omega
section
variable {P:dn}{w:fx}{K:b0}{mg:gp}{base:Heap}{t:jC}
abbrev jb:Df:=⟨"between",5,["one","other"],fun K _=>fz 2 (AC (g6 K) (AC (g6 K) A0)) (fun x=>gI 1000000000000 x.1) (g6 K) (fun x=>cross x.1 x.2.1)⟩
def LR:dP ["one","other"] jb:=by walk_at"s"
def Me (F:bh K jb f fd)(T:Txt K mg t):dO P w K mg base t 1 f fd jb:=by
 refine mT F LR fun H O=>⟨_,(ae (aj (oJ (cD (bc qt (bc fK (cW (BL K) aN ai) (cW (BL K) bz ai)) (bc fK (cW (BL K) aN ai) (cW (BL K) bz ai))) (bc qt (bc fK (cW (BL K) aN ai) (cW (BL K) bz ai)) (bc fK (cW (BL K) aN ai) (cW (BL K) bz ai))) (bc qt (bc fK (cW (BL K) aN ai) (cW (BL K) bz ai)) (bc fK (cW (BL K) aN ai) (cW (BL K) bz ai))))))),fun G one L U NI M Yt Og J=> ?_⟩
 try dsimp only at J
 apply RS.eq
 .apply aB
  walk_at"re"
  all_goals exact .inl (by have:=J.1;have:=J.2.1;have:=J.2.2;omega)
 .rfl
abbrev m_:Df:=⟨"looks",6,["light","parts"],fun K _=>fz 2 (AC (g6 K) (AC (g6 K) A0)) (fun x=>gI 1000000000000 x.1) af (fun x=>dot x.1 x.2.1)⟩
def RL:dP ["light","parts"] m_:=by walk_at"s"
def SA (F:bh K m_ f fd)(T:Txt K mg t):dO P w K mg base t 1 f fd m_:=by
 refine mT F RL fun H O=>⟨_,(ae (aj (bc kZ (bc kZ (bc fK (cW (BL K) aN ai) (cW (BL K) bz ai)) (bc fK (cW (BL K) aN ai) (cW (BL K) bz ai))) (bc fK (cW (BL K) aN ai) (cW (BL K) bz ai))))),fun G L parts NJ FC M Oi Of J=> ?_⟩
 try dsimp only at J
 apply RS.eq
 .apply aB
  walk_at"re"
  all_goals exact .inl (by have:=J.1;have:=J.2.1;have:=J.2.2;omega)
 .rfl
abbrev iu:Df:=⟨"turned_about",7,["light"],fun K _=>fz 1 (AC (g6 K) A0) (fun _=>True) (g6 K) (fun x=>PZ x.1)⟩
def y6:dP ["light"] iu:=⟨rfl,rfl,rfl,by decide,rfl,by decide+kernel,by decide+kernel⟩
def y_ (F:bh K iu f fd)(T:Txt K mg t):dO P w K mg base t 1 f fd iu:=by
 refine QU F y6 fun H M=>⟨_,(ae (aj (oJ (cD (wQ rB (cW (BL K) aN ai)) (wQ rB (cW (BL K) aN ai)) (wQ rB (cW (BL K) aN ai)))))),fun G J NJ L Oi O=> ?_⟩
 apply RS.eq
 .apply aB
  walk_at"re"
 .rfl
abbrev lA:Df:=⟨"share_two",9,["one","other","colour"],fun K _=>fz 3 (AC (g6 K) (AC (g6 K) (AC (g6 K) A0))) (fun x=>gI 1000 x.1/\gI 1000 x.2.1/\gI 1000 x.2.2.1) (jA (ag af)) (fun x=>iT x.1 x.2.1 x.2.2.1)⟩
def wC:dP ["one","other","colour","normal"] lA:=by walk_at"s"
def Gr (F:bh K lA f fd)(T:Txt K mg t)(U:aL P w K mg base t 1 m_)(Z:aL P w K mg base t 1 jb):dO P w K mg base t 2 f fd lA:=by
 refine Jj F wC fun H L=>⟨_,(aa (dC 3 wC.nd (bJ Z L (aY aN bz))) (aa (a_ (PW.pt (tO (ka (eqD K L.units) dJ (ZH T.Lg rfl)) (qr (ka Jo (bJ U L (aY dJ bP)) ai)))) (ae (aj ke)) aD) (ae (aj (az (cD (bJ U L (aY dJ dJ)) (bJ U L (aY dJ (bJ Z L (aY bP bz)))) (bJ U L (aY dJ (bJ Z L (aY aN bP)))))))))),fun G one Y J X8 NI fU hs Yt Og f9 hp=> ?_⟩
 try dsimp only at hp
 have hd:=T.HQ G;obtain⟨p1,p2,p3⟩:=hp;have q1:=p1.cross p2 (c:=1000000000000) (by decide);have q0:gI 1000000000000 one:=p1.mono (by decide);have q3:gI 1000000000000 J:=p3.mono (by decide);apply RS.eq
 .apply bQ
  .walk_at"re"
   all_goals exact q0
  .intro M G1 H1 e1 O;apply bj
   .walk_at"re"
    all_goals assumption
   .intro _;apply aB
    walk_at"re"
   .intro _;apply aB
    .walk_at"re"
     all_goals first|exact q1|exact q0|exact q3|exact sl3
 .rfl
abbrev i9:Df:=⟨"share_three",10,["one","other","third","colour"],fun K _=>fz 4 (AC (g6 K) (AC (g6 K) (AC (g6 K) (AC (g6 K) A0)))) (fun x=>gI 1000 x.1/\gI 1000 x.2.1/\gI 1000 x.2.2.1/\gI 1000 x.2.2.2.1) (jA (ag af)) (fun x=>gw x.1 x.2.1 x.2.2.1 x.2.2.2.1)⟩
def oC:dP ["one","other","third","colour","space","sign"] i9:=by walk_at"s"
def AV (F:bh K i9 f fd)(T:Txt K mg t)(fg:aL P w K mg base t 1 m_)(cX:aL P w K mg base t 1 jb):dO P w K mg base t 2 f fd i9:=by
 refine po4 F oC fun H L=>⟨_,(aa (dC 4 oC.nd (bJ fg L (aY aN (bJ cX L (aY bz bP))))) (aa (a_ (ka mV lO ai) (ae (aj ke)) aD) (aa (dC 5 oC.nd (gL (ka wR lO ai) ai (wQ rB ai))) (ae (aj (az (gG (bc fK uQ lO) (cD (bc fK uQ (bJ fg L (aY dJ (bJ cX L (aY bz bP))))) (bc fK uQ (bJ fg L (aY aN (bJ cX L (aY dJ bP))))) (bc fK uQ (bJ fg L (aY aN (bJ cX L (aY bz dJ))))))))))))),fun G one M third J X8 NI O fU hs Yt Og Y f9 hp=> ?_⟩
 try dsimp only at hp
 obtain⟨p1,p2,p3,p4⟩:=hp;have q0:gI 1000000000000 one:=p1.mono (by decide);have q2:gI 1000000000000 M:=p2.mono (by decide);have q4:gI 1000000000000 J:=p4.mono (by decide);apply RS.eq
 .apply bQ
  .walk_at"re"
   all_goals first|exact q0|exact q2
  .intro U G1 H1 e1 Z;apply bj
   .walk_at"re"
   .intro _;apply aB
    walk_at"re"
   .intro _;apply bQ
    .walk_at"re"
    .intro v_sign G2 H2 e2 h_sign;apply aB
     .walk_at"re"
      all_goals first|exact q0|exact q2|exact q4|exact sl4|exact Or.inl (by split<;>decide)
 .rfl
abbrev jN:Df:=⟨"one_longer",12,["rows","count"],fun _ _=>fz 2 (AC (ag (ag af)) (AC af A0)) (fun x=>x.1.length<=100/\(∀r∈x.1,r.length<=3/\ ∀y∈r,0<=y/\y < 100)/\0<=x.2.1/\x.2.1<=100) (ag (ag af)) (fun x=>jt x.1 x.2.1)⟩
def jH:dP ["rows","count","longer","row","start","number"] jN:=by walk_at"s"
def DF (F:bh K jN f fd)(T:Txt K mg t):dO P w K mg base t 1 f fd jN:=by
 refine mT F jH fun H hr=>⟨_,(aa (dC 2 jH.nd (az eU)) (aa (ek adF rfl (rP K aN) (iZ 3 jH.nd) (aa (dC 4 jH.nd (gL (ka wR (nD T dJ) ai) (bc kZ (cW (dZ K) dJ (wQ rB ai)) ai) ai)) (ae (ek adF rfl (uR rfl T.ig (aY lO bz)) (iZ 5 jH.nd) (ae (bS (lP K adH adK gM bP (aG (bc jD dJ (az (aG uQ))))))))))) (ae (aj bP)))),fun G rows O Z aef hs MF GX M=> ?_⟩
 try dsimp only at M
 obtain⟨p1,p2,p3,p4⟩:=M;intro G0 H0 U D kD;refine wj fun p M=> ?_
 have g0:G0 p=none:=U.gh.free M;have sm:Sub G0 (upd H0 p (.lst [])):=U.gh.trans (bB M);have WH:ag (ag af) G0 Z rows:=aK.mono U.gg MF
 show qe _ _ _ _ _ _
 refine jY (R:=ag af) (fun acc row=>acc++(upTo (o7 row) (O - o7 row).toNat).map fun n=>row++[n])
  (fun J=>∃t3 t4 L,J=[some Z,some aef,some (.ref p),t3,t4,L]) sm g0 ah .nil (xi3 _ _ _ rfl) (bD (aR WH)) ?_ ?_
 .rintro G2 i row acc hz ha J G' H' A Rb Th;obtain⟨t3,t4,L,rfl⟩:=A.sh;have hm:row∈rows:=acB hz;obtain⟨q1,q2⟩:=p2 row hm;refine cB A.ex.gh (R:=af) (x:=o7 row) ?_ ?_
  .refine lQ (x:=row.getLastD 0+1) (y:=0) ?_ (fun hc=> ?_) (fun hc=>ao)
   .walk_at"re"
   .refine oF (L4 (aR Th) (xQ ao) (yt ?_)) ao;intro z;rw[z] at hc;exact absurd hc (by decide)
  .intro aeg G3 H3 e3 uZ;have Y:=A.kJ e3 (σ5:=[some Z,some aef,some (.ref p),some Rb,some aeg,L]) (xi3 _ _ _ rfl);have hb:=IH (row:=row) fun y hy=>q2 y hy
   obtain⟨vs,h1,h2⟩:=Y.at_;have hacc:acc.length<=100*101:=by
    rw[ha,cC];refine adb (ir (m:=101) _ fun z hz=> ?_) ?_
    .have hb:=IH (row:=z) fun y hy=>(p2 z (acD hz)).2 y hy
     rw[aca,cg];lia
    .rw[ach];exact adn _ (by lia)
   show qe _ _ _ _ _ _
   refine jY (R:=ag af) (fun acc n=>acc++[row++[n]]) (fun J=>∃L,J=[some Z,some aef,some (.ref p),some Rb,some aeg,L]) Y.ex.gh Y.gn h1 h2 ⟨_,rfl⟩ (uL (bX (aR uZ) (ab rfl GX (U.gg.trans Y.ex.gg))) ⟨by lia,by omega,by lia,by lia⟩) ?_ ?_
   .rintro G4 j n acc2 hn ha2 σ2 G5 H5 B Rf J5;obtain⟨L,rfl⟩:=B.sh;obtain⟨vs5,k1,k2⟩:=B.at_;refine kF (R:=ag af) (x:=row++[n]) rfl k1 ?_ B.ex.gh ?_ ?_
    .rw[aw k2,ha2,vP,ab7,aca,ach,cg];exact adf (show _<=20000 by omega) (by decide)
    .have bx:=B.ex
     walk_at"re"
     .exact sl1
     .show row.length+1<=sizeLine;exact adb (by lia) (show 100<=sizeLine by decide)
    .intro v G6 H6 e6 r6;exact⟨G6,B.grow e6 ⟨_,rfl⟩ (Paired.snoc (aq e6.gg k2) r6)⟩
   .rintro G4 σ2 G5 H5 B;obtain⟨L,rfl⟩:=B.sh;refine⟨G5, ?_⟩;rw[<- vP];exact Y.join B (xi3 _ _ _ rfl)
 .rintro G2 J G' H' A;obtain⟨t3,t4,L,rfl⟩:=A.sh;obtain⟨G5,e5,r5⟩:=A.done (Ext.own U.gh M) M;rw[cC] at r5;exact⟨_,rfl,kD _ G5 H' e5 r5⟩
abbrev lB:Df:=⟨"share_one",8,["dye","colour"],fun K _=>fz 2 (AC (g6 K) (AC (g6 K) A0)) (fun x=>gI 1000 x.1/\gI 1000 x.2.1) (jA (ag af)) (fun x=>iU x.1 x.2.1)⟩
def FP:dP ["dye","colour"] lB:=by walk_at"s"
def Gs (F:bh K lB f fd)(T:Txt K mg t)(cX:aL P w K mg base t 1 jb):dO P w K mg base t 2 f fd lB:=by
 refine mT F FP fun H U=>⟨_,(aa (a_ (ka (neD K U.units) (bJ cX U (aY aN bz)) (ZH T.Lg rfl)) (ae (aj ke)) aD) (ae (aj (az (aY (fD (Uj K rfl) rfl T.Fg HS (aG aN)) (fD (Uj K rfl) rfl T.Fg HS (aG bz))))))),fun G O J L fU hs M f9 hp=> ?_⟩
 have hd:=T.HQ G;obtain⟨Z,p2⟩:=hp;have Y:gI 1000000000000 O:=Z.mono (by decide);apply RS.eq
 .apply bj
  .walk_at"re"
   all_goals exact Y
  .intro _;apply aB
   walk_at"re"
  .intro _;apply aB
   walk_at"re"
   all_goals exact sl2
 .rfl
abbrev ue:Df:=⟨"share",11,["chosen","colour"],fun K _=>fz 2 (AC (ag (g6 K)) (AC (g6 K) A0)) (fun x=>x.1.length<=3/\(∀y∈x.1,gI 1000 y)/\gI 1000 x.2.1) (jA (ag af)) (fun x=>gH x.1 x.2.1)⟩
def RK:dP ["chosen","colour"] ue:=by walk_at"s"
def Sy (F:bh K ue f fd)(T:Txt K mg t)(qA:aL P w K mg base t 2 i9)(uo:aL P w K mg base t 2 lA)(Z:aL P w K mg base t 2 lB):dO P w K mg base t 3 f fd ue:=by
 refine mT F RK fun H O=>⟨_,(aa (a_ (ka mV (nD T aN) ai) (ae (aj (gL (ka (eqD K O.units) bz (ZH T.Lg rfl)) (az (aG ai)) ke))) aD) (aa (a_ (ka mV (nD T aN) ai) (ae (aj (bJ Z O (aY (cW (dZ K) aN ai) bz)))) aD) (aa (a_ (ka mV (nD T aN) ai) (ae (aj (bJ uo O (cD (cW (dZ K) aN ai) (cW (dZ K) aN ai) bz)))) aD) (ae (aj (bJ qA O (gG (cW (dZ K) aN ai) (cD (cW (dZ K) aN ai) (cW (dZ K) aN ai) bz)))))))),fun G J L IA fU hs M Y hp=> ?_⟩
 have hd:g6 K G (.ref t.Lg) (0,0,0):=T.HQ G;obtain⟨p1,p2,U⟩:=hp;have gt:∀k:Nat,k < J.length->J[k]?=some (J.getD k (0,0,0))/\gI 1000 (J.getD k (0,0,0)):=fun k hk=>by
  have e:J[k]?=some (J.getD k (0,0,0)):=by rw[abU,abX hk];rfl
  exact⟨e,p2 _ (acB e)⟩
 refine bj (by walk_at"re") (fun hc=>aB ?_) fun hc=>bj (by walk_at"re") (fun h1=>aB ?_) fun h1=>bj (by walk_at"re") (fun h2=>aB ?_) fun h2=>aB ?_
 .walk_at"re"
  all_goals exact sl1
 all_goals simp only[ad0,adY] at*
 .refine ak (x:=(J.getD 0 (0,0,0),L,())) (bX (aJ (aR M) ao (by decide) (gt 0 (by omega)).1) (aR Y)) ⟨(gt 0 (by omega)).2,U⟩
 .refine ak (x:=(J.getD 0 (0,0,0),J.getD 1 (0,0,0),L,())) (fY (aJ (aR M) ao (by decide) (gt 0 (by omega)).1) (aJ (aR M) ao (by decide) (gt 1 (by omega)).1) (aR Y)) ⟨(gt 0 (by omega)).2,(gt 1 (by omega)).2,U⟩
 .refine ak (x:=(J.getD 0 (0,0,0),J.getD 1 (0,0,0),J.getD 2 (0,0,0),L,())) (bE (aJ (aR M) ao (by decide) (gt 0 (by omega)).1) (fY (aJ (aR M) ao (by decide) (gt 1 (by omega)).1) (aJ (aR M) ao (by decide) (gt 2 (by omega)).1) (aR Y))) ⟨(gt 0 (by omega)).2,(gt 1 (by omega)).2,(gt 2 (by omega)).2,U⟩
end
end Cw
namespace Cw
open PySem PySem.Spec PyProof.Rows L2 My
abbrev GS:=List hA×List hA
def EX (count:Int)(s:GS)(_:Int):GS:=(jt s.1 count,s.2++jt s.1 count)
def oP (count:Int):List hA:=((upTo 0 3).foldl (EX count) ([[]],[[]])).2
def BR (rows:List hA):Bool:=decide (rows.length<=100)&&rows.all fun r=>decide (r.length<=3)&&r.all fun y=>decide (0<=y)&&decide (y < 100)
def EY (J:Int)(O:0<=J)(M:J<=5)(i:Nat)(hi:i<=3):BR (((upTo 0 3).take i).foldl (EX J) ([[]],[[]])).1=true/\(((upTo 0 3).take i).foldl (EX J) ([[]],[[]])).2.length<=100:=by
 have hc:J=0\/J=1\/J=2\/J=3\/J=4\/J=5:=by lia
 have L:i=0\/i=1\/i=2\/i=3:=by lia
 rcases hc with rfl|rfl|rfl|rfl|rfl|rfl<;>rcases L with rfl|rfl|rfl|rfl<;>decide+kernel
def Ts {J:Int}(h:BR rows=true)(M:0<=J)(L:J<=5):rows.length<=100/\(∀r∈rows,r.length<=3/\ ∀y∈r,0<=y/\y < 100)/\0<=J/\J<=100:=by
 delta BR at h
 grind
section
variable {P:dn}{w:fx}{K:b0}{mg:gp}{base:Heap}{t:jC}
abbrev qU:Df:=⟨"groups",13,["count"],fun _ _=>fz 1 (AC af A0) (fun x=>0<=x.1/\x.1<=5) (ag (ag af)) (fun x=>oP x.1)⟩
def qI:dP ["count","rows","found","size"] qU:=by walk_at"s"
def PU (F:bh K qU f fd)(T:Txt K mg t)(si:aL P w K mg base t 1 jN):dO P w K mg base t 2 f fd qU:=by
 refine QU F qI fun H hr=>⟨_,(aa (dC 1 qI.nd (az (aG (az eU)))) (aa (dC 2 qI.nd (az (aG (az eU)))) (aa (ek adF rfl (oq rfl T.ig (aG (g8 T.Ep rfl))) (iZ 3 qI.nd) (aa (dC 1 qI.nd (bJ si hr (aY bz aN))) (ae (bS (lP K adI adL fP bP (aG bz)))))) (ae (aj bP))))),fun G J aef hs GX Y=> ?_⟩
 try dsimp only at Y
 obtain⟨p1,p2⟩:=Y;intro G0 H0 e0 D kD;refine cB e0.gh (R:=ag (ag af)) (x:=[[]]) (bG (aI wI bu) sl1) fun xN G1 H1 e1 MF=> ?_
 refine FA e1.gh (R:=ag af) (xs:=[[]]) (aI wI bu) sl1 fun p M G2 H2 Z r2 Y=> ?_
 have g0:G2 p=none:=Z.gh.free Y;have WG:=aK.mono Z.gg MF;have e02:Ext G0 H0 G2 (upd H2 p (.lst M)):=(e1.trans Z).trans (Ext.own Z.gh Y);have hp0:H0 p=none:=(e1.trans Z).hh.free Y
 show qe _ _ _ _ _ _
 refine jK (EX J) ([[]],[[]]) (fun G3 _ st L G' H'=>∃v,ag (ag af) G' v st.1/\Acc p (ag af) (fun L=>∃t3,L=[some aef,some v,some (.ref p),t3]) G2 (upd H2 p (.lst M)) G3 st.2 L G' H')
  e02.gh (oo (bp ao) (by decide) (by decide)) ?_ ?_ ?_ ?_
 .intro G3 H3 U;exact⟨xN,aK.mono U.gg WG,⟨⟨_,rfl⟩,U.exP,aE.refl _,U.keeps ah g0,M,U.hh _ _ ah,aq U.gg r2⟩⟩
 .rintro G3 H3 st L G' H' ⟨v,_,A⟩;exact⟨A.sm,A.ex.gh⟩
 .rintro G3 H3 U i z st hz O L G' H' ⟨v,hv,A⟩ x G4 H4 e4 r4;obtain⟨t3,rfl⟩:=A.sh;have hi:=(sY hz).1;have ok:=EY J p1 p2 i (by have:=hi;simp at this;lia);rw[show(3:Int).toNat=3 from rfl] at O;rw[<- O] at ok;have ok2:=EY J p1 p2 (i+1) (by have:=hi;simp at this;lia);rw[ac3,show(upTo 0 3)[i]?=some z from hz,adE,abR,<- O] at ok2;have A4:=A.kJ e4 (σ5:=[some aef,some v,some (.ref p),some x]) ⟨_,rfl⟩;have hs4:aE G2 G4:=A4.ex.gg;refine cB e4.gh (R:=ag (ag af)) (x:=jt st.1 J) ?_ fun v2 G5 H5 e5 h5=> ?_
  .refine ak (bX (ab rfl hv e4.gg) (ab rfl GX ((e0.gg.trans (e1.gg.trans Z.gg)).trans hs4))) (Ts ok.1 p1 p2)
  .have A5:=A4.kJ e5 (σ5:=[some aef,some v,some (.ref p),some x]) ⟨_,rfl⟩;obtain⟨vs,k1,k2⟩:=A5.at_;refine mP rfl k1 ?_ e5.gh (aR h5) fun us G6 H6 e6 r6=> ?_
   .rw[aw k2];have:=ok2.2
    have e7:(EX J st z).2.length=st.2.length+(jt st.1 J).length:=by show(st.2++jt st.1 J).length=_;rw[ab7]
    have e8:([z].foldl (EX J) st).2.length<=100:=this;exact adb (show _<=100 by rw[<- e7];exact e8) (show 100<=sizeLine by decide)
   .have A6:=A5.grow e6 (σ5:=[some aef,some v,some (.ref p),some x]) ⟨_,rfl⟩ (dR (aq e6.gg k2) r6);exact⟨G6,v2,aK.mono e6.gg h5,⟨⟨_,rfl⟩,A6.ex,A6.sm,A6.gn,A6.at_⟩⟩
 .rintro G3 H3 U L G' H' ⟨v,hv,A⟩;obtain⟨t3,rfl⟩:=A.sh;obtain⟨G5,e5,r5⟩:=A.done e02 hp0;exact⟨_,rfl,kD _ G5 H' e5 r5⟩
end
end Cw
namespace Cw
open PySem PySem.Spec PyProof.Rows L2 My
def mX (light:I3)(dyes:List I3)(colour:I3):Bool:=decide (0 < dot light colour)&&(dyes.map fun d=>decide (dot light d<=0)).all id
def oZ:hA->Int
 |[]=>0
 |[x]=>x
 |x::y::r=>min x (oZ (y::r))
def gP:∀{l:hA},l≠[]->oZ l∈l/\ ∀y∈l,oZ l<=y
 |[],h=>absurd rfl h
 |[x],_=>⟨acF.mpr rfl,fun y J=>by rw[acF.mp J];exact abg _⟩
 |x::y::r,_=>by
  obtain _:=gP (l:=y::r) (by simp);have e:oZ (x::y::r)=min x _:=rfl
  grind
def pick (dyes:List I3)(ms:hA):List I3:=ms.map fun n=>dyes.getD n.toNat (0,0,0)
def k8 (dyes:List I3)(colour:I3)(ms:hA):List rh:=match gH (pick dyes ms) colour with
 |none=>[]
 |some l=>if 0<=oZ l then[(ms,cut l (some 1) none,l.headD 0,())] else[]
def lg (dyes:List I3)(colour:I3):List rh:=(oP dyes.length).flatMap (k8 dyes colour)
def IL (h:gH c x=some l):l≠[]:=by
 delta gH iU iT gw at h
 lia
def MK (n:Nat):Bool:=(oP n).all fun ms=>decide (ms.length<=3)&&ms.all fun y=>decide (0<=y)&&decide (y < n)
def ye (n:Nat)(h:n<=5):MK n=true/\(oP n).length<=100:=by
 have hc:n=0\/n=1\/n=2\/n=3\/n=4\/n=5:=by lia
 rcases hc with rfl|rfl|rfl|rfl|rfl|rfl<;>decide+kernel
section
variable {P:dn}{w:fx}{K:b0}{mg:gp}{base:Heap}{t:jC}
abbrev lI:Df:=⟨"does_show",19,["light","dyes","colour"],fun K _=>fz 3 (AC (g6 K) (AC (ag (g6 K)) (AC (g6 K) A0))) (fun x=>gI 1000000000000 x.1/\x.2.1.length<=5) dQ (fun x=>mX x.1 x.2.1 x.2.2.1)⟩
def rN:dP ["light","dyes","colour","dye"] lI:=by walk_at"s"
def GD (F:bh K lI f fd)(T:Txt K mg t)(U:aL P w K mg base t 1 m_):dO P w K mg base t 2 f fd lI:=by
 refine Jj F rN fun H O=>⟨_,(ae (aj (AI (QV wR (bJ U O (aY aN bP)) ai) (Gb (fD (crAll K rfl) rfl T.UE bt_all (aG (gK (own:=[("dye",3)]) rfl rN.nd (rP K bz) (bC (by rfl)) (fun _ _ _ _ _=>(iZ 3 rN.nd)) (fun _ _ _ _ _=>c6) (fun _ _ _ _ _=>(QV yH (bJ U O (aY aN dJ)) ai))))))))),fun G L dyes J NJ iE fU hs Oi h7 f9 Y=> ?_⟩
 obtain⟨M,p2⟩:=Y;refine aB (Au ?_ fun _=>Sa (bp (eT (Rz:=g6 K) (bD ?_) (adf p2 (by decide)) fun d hd x G1 H1 e1 Z=>⟨_,cE,rfl, ?_⟩)))
 .apply RE.eq
  .walk_at"re"
   exact M
  .rfl
 .walk_at"re"
 .apply RE.eq
  .walk_at"re"
   exact M
  .rfl
abbrev qS:Df:=⟨"mixes",14,["dyes","colour"],fun K t=>fz 2 (AC (ag (g6 K)) (AC (g6 K) A0)) (fun x=>x.1.length<=5/\(∀y∈x.1,gI 1000 y)/\gI 1000 x.2.1) (ag (xF K t)) (fun x=>lg x.1 x.2.1)⟩
def qH:dP ["dyes","colour","found","members","shares","number"] qS:=by walk_at"s"
def Sz (F:bh K qS f fd)(T:Txt K mg t)(m_Mix:yY P w K mg base 1 "Mix" t.Em ["self","members","shares","whole"] (eE t.Em ["members","shares","whole"]))(Cs:aL P w K mg base t 2 qU)(HN:aL P w K mg base t 3 ue):dO P w K mg base t 4 f fd qS:=by
 refine mT F qH fun H hr=>⟨_,(aa (dC 2 qH.nd (az eU)) (aa (ek adF rfl (rP K (bJ Cs hr (aG (nD T aN)))) (iZ 3 qH.nd) (aa (dC 4 qH.nd (bJ HN hr (aY (gK (own:=[("number",5)]) rfl qH.nd (rP K dJ) (bC (by rfl)) (fun _ _ _ _ _=>(iZ 5 qH.nd)) (fun _ _ _ _ _=>c6) (fun _ _ _ _ _=>(cW (dZ K) aN uQ))) bz))) (ae (a_ (PW.pt (Az (ej (N0 lO)) (wM (ka iG (fD (OB K rfl) rfl T.CF Cv (aG lO)) ai)))) (ae (bS (lP K adH adK gM bP (aG (sL m_Mix hr (by decide) rfl (cD dJ (kY (VC K) lO (mz ai) pB) (cW (dZ K) lO ai))))))) aD)))) (ae (aj bP)))),fun G dyes J iE fU hs h7 f9 U=> ?_⟩
 try dsimp only at U
 try dsimp only[je,rd]
 obtain⟨p1,p2,p3⟩:=U;obtain⟨gg,gl⟩:=ye dyes.length p1;intro G0 H0 e0 D kD;refine wj fun p U=> ?_
 have g0:G0 p=none:=e0.gh.free U;have sm:Sub G0 (upd H0 p (.lst [])):=e0.gh.trans (bB U)
 show qe _ _ _ _ _ _
 refine jY (R:=xF K t) (zs:=oP dyes.length) (Rz:=ag af) (fun acc L=>acc++k8 dyes J L)
  (fun σ'=>∃t3 t4 t5,σ'=[some iE,some fU,some (.ref p),t3,t4,t5]) sm g0 ah .nil (xi3 _ _ _ rfl) (bD ?_) ?_ ?_
 .refine ak (x:=((dyes.length:Int),())) (bp (dc (bp (ab rfl h7 e0.gg)))) ⟨by lia,by show(dyes.length:Int)<=5;lia⟩
 .rintro G2 i L acc hz ha σ' G' H' A Vr Z;obtain⟨t3,t4,t5,rfl⟩:=A.sh;have hm:L∈oP dyes.length:=acB hz;have O:L.length<=3/\ ∀y∈L,0<=y/\y < dyes.length:=by
   have:=abv.mp gg L hm
   simp only[aaO,abv,ad0] at this;exact this
  have sG:aE G G':=e0.gg.trans A.ex.gg;refine cB A.ex.gh (R:=jA (ag af)) (x:=gH (pick dyes L) J) ?_ ?_
  .refine ak (bX (eT (bD (aR Z)) (adf O.1 (by decide)) fun n hn x G1 H1 e1 r1=>⟨_,cE,rfl, ?_⟩) (ab rfl f9 sG)) ⟨?_, ?_,p3⟩
   .refine aJ (ab rfl h7 (sG.trans e1.gg)) (aR r1) (O.2 n hn).1 ?_;have hb:=O.2 n hn;rw[abU,abX (by omega)];rfl
   .show (pick dyes L).length<=3
    delta pick;rw[aca];exact O.1
   .intro y hy;obtain⟨n,hn,rfl⟩:=acA.mp hy;have hb:=O.2 n hn;refine p2 _ ?_;rw[abU,abX (show n.toNat < dyes.length by omega)];exact ab5 _
  .intro Q_ G3 H3 e3 Tf;have A3:=A.kJ e3 (σ5:=[some iE,some fU,some (.ref p),some Vr,some Q_,t5]) (xi3 _ _ _ rfl);obtain⟨vs,k1,k2⟩:=A3.at_;have hacc:acc.length<=100:=by
    rw[ha,cC,acI];refine adb (ir (m:=1) _ fun z hz=> ?_) ?_
    .unfold k8;split
     .exact adz _
     .split<;>simp
    .rw[ach];lia
   cases M:gH (pick dyes L) J with
   |none=>
    rw[M] at Tf;refine u7 e3.gh (d:=false) (RT.eq (vD (d:=false) (bZ (wH (aR Tf))) fun h=>by contradiction) rfl) (fun h=>by contradiction) fun _ G4 H4 Y=> ?_
    refine⟨G4, ?_⟩;have:=A3.kJ Y (σ5:=[some iE,some fU,some (.ref p),some Vr,some Q_,t5]) (xi3 _ _ _ rfl)
    rw[show acc++k8 dyes J L=acc by delta k8;rw[M];exact abA _];exact this
   |some l=>
    rw[M] at Tf;have Ic:ag af G3 Q_ l:=Tf.2;have hne:=IL M;have hsp:=gP hne;refine u7 e3.gh (RT.eq (vD (bZ (wH (aR Tf))) fun h=>dj (g7 (F0 (bp (aR Ic)) hsp) ao)) rfl) (fun h G4 H4 Y=> ?_) (fun h G4 H4 Y=> ?_)
    .have A4:=A3.kJ Y (σ5:=[some iE,some fU,some (.ref p),some Vr,some Q_,t5]) ⟨_,_,_,rfl⟩;obtain⟨vs4,k3,k4⟩:=A4.at_;have U:=aea h;refine kF (R:=xF K t) (x:=(L,cut l (some 1) none,l.headD 0,())) rfl k3 ?_ Y.gh ?_ ?_
     .rw[aw k4];exact adf hacc (by decide)
     .refine jo (fY (ab rfl Z (e3.gg.trans Y.gg)) (Ap (ab rfl Ic Y.gg) (mv ao) pf) (aJ (ab rfl Ic Y.gg) ao (by decide) ?_));cases l with
      |nil=>exact absurd rfl hne
      |cons y r=>rfl
     .intro v G5 H5 e5 r5;refine⟨G5, ?_⟩;rw[show acc++k8 dyes J L=acc++[(L,cut l (some 1) none,l.headD 0,())] by delta k8;rw[M];simp only;rw[ad3 U]];exact A4.grow e5 (xi3 _ _ _ rfl) (Paired.snoc (aq e5.gg k4) r5)
    .refine⟨G4, ?_⟩;have:=A3.kJ Y (σ5:=[some iE,some fU,some (.ref p),some Vr,some Q_,t5]) ⟨_,_,_,rfl⟩
     rw[show acc++k8 dyes J L=acc by delta k8;rw[M];simp only;rw[ad2 (ad_ h)];exact abA _];exact this
 .rintro G2 σ' G' H' A;obtain⟨t3,t4,t5,rfl⟩:=A.sh;obtain⟨G5,e5,r5⟩:=A.done (Ext.own e0.gh U) U;rw[cC] at r5;exact⟨_,rfl,kD _ G5 H' e5 r5⟩
end
end Cw
namespace Cw
open PySem PySem.Spec PyProof.Rows L2 My
def cx (dyes:List I3)(colour:I3):Bool:=decide (0 < ((lg dyes colour).length:Int))
def gx (m:rh)(prices:hA):Int:=((m.1.zip m.2.1).map fun p=>prices.getD p.1.toNat 0*p.2).sum
structure UJ (n:Nat)(m:rh):Prop where
 l1:m.1.length<=3
 ix:∀y∈m.1,0<=y/\y < (n:Int)
 wh: -1000000000000000<=m.2.2.1/\m.2.2.1<=1000000000000000
def B8 (h:gI a x)(h':gI b y): -(3*(a*b))<=dot x y/\dot x y<=3*(a*b):=by
 obtain⟨h1,h2,O⟩:=h;obtain⟨M,L,J⟩:=h';have:=rS h1 M;have:=rS h2 L;have:=rS O J
 delta dot;lia
def tw (s x m:Int)(h: -m<=x/\x<=m): -m<=sgn s*x/\sgn s*x<=m:=by
 delta sgn
 lia
def RB (h:gH c x=some l)(hc:∀y∈c,gI 1000 y)(J:gI 1000 x):∀y∈l, -1000000000000000<=y/\y<=1000000000000000:=by
 have g:∀k,gI 1000 (c.getD k (0,0,0)):=fun k=>by
  rw[abU];cases q:c[k]? with
  |none=>exact⟨by decide,by decide,by decide⟩
  |_ y=>exact hc y (acB q)
 have c3:∀{u v:I3},gI 1000 u->gI 1000 v->gI 2000000 _:=fun a b=>a.cross b (by decide)
 have O:∀{u v:I3},gI 2000000 u->gI 2000000 v-> -1000000000000000<=dot u v/\dot u v<=1000000000000000:=fun a b=>by have:=B8 a b;omega
 have L:∀{u v:I3},gI 1000 u->gI 2000000 v-> -1000000000000000<=dot u v/\dot u v<=1000000000000000:=fun a b=>by have:=B8 a b;omega
 delta gH iU iT gw at h;intro y M
 repeat' split at h
 all_goals first|cases h|skip
 all_goals simp only[acu,acM,aeb] at M
 .omega
 .have U:=g 0;obtain⟨a1,a2,a3⟩:=U;obtain⟨b1,Z,Y⟩:=J;lia
 .rcases M with rfl|rfl|rfl
  .simp_all
  .exact O (c3 (g 0) (g 1)) (c3 J (g 1))
  .exact O (c3 (g 0) (g 1)) (c3 (g 0) J)
 .rcases M with rfl|rfl|rfl|rfl
  .exact tw _ _ _ (L (g 0) (c3 (g 1) (g 2)))
  .exact tw _ _ _ (L J (c3 (g 1) (g 2)))
  .exact tw _ _ _ (L (g 0) (c3 J (g 2)))
  .exact tw _ _ _ (L (g 0) (c3 (g 1) J))
def V3 (h:∀y∈dyes,gI 1000 y):∀y∈pick dyes L,gI 1000 y:=fun y J=>by
 obtain⟨n,_,rfl⟩:=acA.mp J;rw[abU];cases q:dyes[n.toNat]? with
 |none=>exact⟨by decide,by decide,by decide⟩
 |_ y=>exact h y (acB q)
def Bu (h1:dyes.length<=5)(h2:∀y∈dyes,gI 1000 y)(h3:gI 1000 J):∀m∈lg dyes J,UJ dyes.length m:=fun m L=>by
 obtain⟨U,M,L⟩:=acy.mp L;have gg:=(ye _ h1).1;have O:=by
  have:=abv.mp gg U M
  simp only[aaO,abv,ad0] at this;exact this
 unfold k8 at L;split at L
 .cases L
 .next l Y=>
  split at L
  .obtain rfl:=acF.mp L;refine⟨O.1,O.2, ?_⟩;have Z:=RB Y (V3 h2) h3;cases l with
   |nil=>simp
   |_ y r=>simp[*]
  .cases L
def vy (prices:hA)(o:Option rh)(m:rh):Option rh:=match o with
 |none=>some m
 |some b=>if decide (gx m prices*b.2.2.1 < gx b prices*m.2.2.1) then some m else some b
def eM (dyes:List I3)(prices:hA)(colour:I3):Option rh:=(lg dyes colour).foldl (vy prices) none
def u0:∀(l:List rh) (o:Option rh) (b:rh),l.foldl (vy prices) o=some b->b∈l\/o=some b
 |[],o,b,h=>.inr h
 |m::l,o,b,h=>by
  rcases u0 l _ b h with q|q
  .simp_all
  .unfold vy at q
   grind
def rQ:List I3:=[(1,0,0),(0,1,0),(0,0,1)]
def qM (dyes:List I3):List I3:=(dyes.flatMap fun o=>dyes.map fun p=>cross o p)++(dyes.flatMap fun o=>rQ.map fun p=>cross o p)++rQ
def rE (dyes:List I3)(colour l:I3):Option I3:=if mX l dyes colour then some l else if mX (PZ l) dyes colour then some (PZ l) else none
def eY (dyes:List I3)(colour:I3):Option I3:=(qM dyes).findSome? (rE dyes colour)
section
variable {P:dn}{w:fx}{K:b0}{mg:gp}{base:Heap}{t:jC}
abbrev hJ:Df:=⟨"can_make",15,["dyes","colour"],fun K _=>fz 2 (AC (ag (g6 K)) (AC (g6 K) A0)) (fun x=>x.1.length<=5/\(∀y∈x.1,gI 1000 y)/\gI 1000 x.2.1) dQ (fun x=>cx x.1 x.2.1)⟩
def IT:dP ["dyes","colour"] hJ:=by walk_at"s"
def JA (F:bh K hJ f fd)(T:Txt K mg t)(L:aL P w K mg base t 4 qS):dO P w K mg base t 5 f fd hJ:=by
 refine mT F IT fun H M=>⟨_,(ae (aj (QV wR (nD T (bJ L M (aY aN bz))) ai))),fun G dyes J U _ Y Z _ O=> ?_⟩
 apply RS.eq
 .apply aB
  walk_at"re"
  exact O
 .rfl
abbrev gz:Df:=⟨"share_cost",16,["mix","prices"],fun K t=>fz 2 (AC (xF K t) (AC (ag af) A0)) (fun x=>x.1.1.length<=3/\(∀y∈x.1.1,0<=y/\y < (x.2.1.length:Int))/\ ∀y∈x.2.1,0<=y/\y<=1000) af (fun x=>gx x.1 x.2.1)⟩
def ml:dP ["mix","prices","number","amount"] gz:=by walk_at"s"
def Dz (F:bh K gz f fd)(T:Txt K mg t):dO P w K mg base t 1 f fd gz:=by
 refine mT F ml fun H hr=>⟨_,(ae (aj (fD (YA K rfl) rfl T.Fg HS (aG (gK (own:=[("number",2),("amount",3)]) rfl ml.nd (piZ K rfl T.K4 (aY (aF K aN) (aF K aN))) (bC (by rfl)) (fun _ _ _ _ _=>(Sr K (n:=2) rfl (cF (iZ 2 ml.nd) (cF (iZ 3 ml.nd) kX)))) (fun _ _ _ _ _=>c6) (fun _ _ _ _ _=>(bc fK (cW (dZ K) bz bP) dJ))))))),fun G mix J L sX hs Yu t9 O=> ?_⟩
 try dsimp only at O
 try dsimp only[je,rd]
 obtain⟨p1,p2,Z⟩:=O;refine aB (LZ (bp (eT (R0 (bX (oG T (aR Yu)) (ve T (aR Yu)))) ?_ fun z hz x G1 H1 e1 Y=> ?_)))
 .rw[aci];exact adf (show _<=3 by lia) (by decide)
 .obtain⟨p,u,w',rfl,M,hu,hw⟩:=Y;have hm:=(acN hz).1;have hb:=p2 _ hm;have U:J[z.1.toNat]?=some (J.getD z.1.toNat 0):=by rw[abU,abX (by omega)];rfl
  refine⟨_,mi (aE.tup e1.gh.at_ M),rfl,qo (aJ (by walk_at"re") (aR hu) hb.1 U) (aR hw) (.inl ?_)⟩;have:=Z _ (acB U)
  omega
abbrev kn:Df:=⟨"cheapest",17,["dyes","prices","colour"],fun K t=>fz 3 (AC (ag (g6 K)) (AC (ag af) (AC (g6 K) A0))) (fun x=>x.1.length<=5/\(∀y∈x.1,gI 1000 y)/\gI 1000 x.2.2.1/\x.2.1.length=x.1.length/\ ∀y∈x.2.1,0<=y/\y<=1000) (jA (xF K t)) (fun x=>eM x.1 x.2.1 x.2.2.1)⟩
def pd:dP ["dyes","prices","colour","best","mix"] kn:=by walk_at"s"
def Jz (F:bh K kn f fd)(T:Txt K mg t)(u6:aL P w K mg base t 4 qS)(d_:aL P w K mg base t 1 gz):dO P w K mg base t 5 f fd kn:=by
 refine Jj F pd fun H hr=>⟨_,(aa (dC 3 pd.nd ke) (aa (ek adF rfl (rP K (bJ u6 hr (aY aN bP))) (iZ 4 pd.nd) (ae (a_ (PW.pt (tO (ej (gv dJ)) (qr (ka AM (bc fK (bJ d_ hr (aY lO bz)) (aF K dJ)) (bc fK (bJ d_ hr (aY dJ bz)) (aF K lO)))))) (ae (dC 3 pd.nd lO)) aD))) (ae (aj dJ)))),fun G dyes J L iE sX fU hs h7 t9 f9 hp=> ?_⟩
 try dsimp only at hp
 obtain⟨p1,p2,p3,p4,p5⟩:=hp;have mok:=Bu p1 p2 p3;have Z:∀m:rh,UJ dyes.length m->m.1.length<=3/\(∀y∈m.1,0<=y/\y < (J.length:Int))/\ ∀y∈J,0<=y/\y<=1000:=fun m h=>⟨h.l1,by rw[p4];exact h.ix,p5⟩
 intro G0 H0 e0 D kD;refine cB e0.gh (R:=jA (xF K t)) jW fun LA G1 H1 e1 MI=> ?_
 show qe _ _ _ _ _ _
 refine jK (vy J) none (fun G2 _ st O G' H'=>∃v t4,O=[some iE,some sX,some fU,some v,t4]/\jA (xF K t) G' v st/\Ext G0 H0 G' H'/\aE G2 G')
  (zs:=lg dyes L) e1.gh (bD (ak (bX (ab rfl h7 (e0.gg.trans e1.gg)) (ab rfl f9 (e0.gg.trans e1.gg))) ⟨p1,p2,p3⟩)) ?_ ?_ ?_ ?_
 .intro G2 H2 e2;exact⟨LA,none,rfl,aK.mono e2.gg MI,e1.trans e2,aE.refl _⟩
 .rintro G2 H2 st O G' H' ⟨v,t4,rfl,hv,ex,sm⟩;exact⟨sm,ex.gh⟩
 .rintro G2 H2 e2 i m st hz hst O G' H' ⟨v,t4,rfl,hv,ex,sm⟩ x G3 H3 e3 hm;have mm:m∈lg dyes L:=acB hz;have om:=mok m mm;have Y:=ex.trans e3;have s3:aE G G3:=e0.gg.trans Y.gg;have U:=aK.mono e3.gg hv;cases st with
  |none=>
   refine u7 e3.gh (RT.eq (oE (d:=false) (bZ (bL (aR U))) fun h=>by cases h) rfl) (fun _ G4 H4 M=> ?_) (fun h=>by contradiction);refine qd M.gh (ab rfl hm M.gg) fun v5 G5 H5 e5 h5=> ?_
   exact xi3 G5 v5 _ ⟨rfl,⟨NN.nn h5,h5⟩,Y.trans (M.trans e5),sm.trans (e3.gg.trans (M.gg.trans e5.gg))⟩
  |some b=>
   have hb:=U.2;have bm:b∈lg dyes L:=by
    rcases u0 _ _ _ hst.symm with q|q
    .exact acD q
    .cases q
   have ob:=mok b bm;refine u7 e3.gh (d:=decide (gx m J*b.2.2.1 < gx b J*m.2.2.1)) (RT.eq (oE (bZ (bL (aR U))) fun h=>dj (sJ ?_ ?_)) rfl) (fun h G4 H4 M=> ?_) (fun h G4 H4 M=> ?_)
   .exact qo (ak (bX (aR hm) (ab rfl t9 s3)) (Z m om)) (jq T (aR hb)) (.inr (by have:=ob.wh;omega))
   .exact qo (ak (bX (aR hb) (ab rfl t9 s3)) (Z b ob)) (jq T (aR hm)) (.inr (by have:=om.wh;omega))
   .refine qd M.gh (ab rfl hm M.gg) fun v5 G5 H5 e5 h5=> ?_
    refine xi3 G5 v5 _ ⟨rfl, ?_,Y.trans (M.trans e5),sm.trans (e3.gg.trans (M.gg.trans e5.gg))⟩;rw[show vy J (some b) m=some m by delta vy;simp only;rw[ad3 h]];exact⟨NN.nn h5,h5⟩
   .refine⟨G4,v,_,rfl, ?_,Y.trans M,sm.trans (e3.gg.trans M.gg)⟩;rw[show vy J (some b) m=some b by delta vy;simp only;rw[ad2 (by rw[h];decide)]];exact aK.mono M.gg U
 .rintro G2 H2 e2 O G' H' ⟨v,t4,rfl,hv,ex,sm⟩;exact⟨_,rfl,kD _ G' H' ex hv⟩
end
end Cw
namespace Cw
open PySem PySem.Spec PyProof.Rows L2 My
def find_here:∀{zs:List a} {i:Nat} {z:a} {y:b},zs[i]?=some z->f z=some y->(∀k,k < i-> ∀u,zs[k]?=some u->f u=none)->zs.findSome? f=some y
 |[],_,_,_,h,_,_=>by simp at h
 |x::r,0,z,y,h,L,_=>by
  simp_all
 |x::r,i+1,z,y,h,L,J=>by
  rw[abO,J 0 (by lia) x rfl];exact find_here (by exact h) L fun k O u M=>J (k+1) (by lia) u (by trivial)
def find_none {f:a->Option b}{zs:List a}(L:∀k,k < zs.length-> ∀u,zs[k]?=some u->f u=none):zs.findSome? f=none:=by
 rw[List.findSome?_eq_none_iff];intro x J;obtain _:=acz.mp J
 grind
def Jn:∀y∈rQ,gI 1000 y:=by
 intro y J;delta rQ at J;simp only[acu,acM,aeb] at J
 rcases J with rfl|rfl|rfl<;>exact⟨by decide,by decide,by decide⟩
def ER (h:∀y∈dyes,gI 1000 y):∀y∈qM dyes,gI 1000000000000 y:=by
 intro y J
 rcases acq.mp J with J|J
 .rcases acq.mp J with J|J
  .obtain⟨o,M,J⟩:=acy.mp J;obtain⟨p,L,rfl⟩:=acA.mp J;exact(h o M).cross (h p L) (by decide)
  .obtain⟨o,M,J⟩:=acy.mp J;obtain⟨p,L,rfl⟩:=acA.mp J;exact(h o M).cross (Jn p L) (by decide)
 .exact (Jn y J).mono (by decide)
def gI.neg (h:gI m x):gI m (PZ x):=by
 obtain⟨h1,h2,J⟩:=h;exact⟨by show _<= -_/\ -_<=_;lia,by show _<= -_/\ -_<=_;lia,by show _<= -_/\ -_<=_;lia⟩
section
variable {P:dn}{w:fx}{K:b0}{mg:gp}{base:Heap}{t:jC}
abbrev qT:Df:=⟨"lights",18,["dyes"],fun K _=>fz 1 (AC (ag (g6 K)) A0) (fun x=>x.1.length<=5/\ ∀y∈x.1,gI 1000 y) (ag (g6 K)) (fun x=>qM x.1)⟩
def kl:dP ["dyes","found","one","other","part"] qT:=by walk_at"s"
def PM (F:bh K qT f fd)(T:Txt K mg t)(cX:aL P w K mg base t 1 jb):dO P w K mg base t 2 f fd qT:=by
 refine QU F kl fun H hr=>⟨_,(aa (dC 1 kl.nd (az eU)) (aa (ek adF rfl (rP K aN) (iZ 2 kl.nd) (ae (bS (lP K adI adL fP bz (aG (gK (own:=[("other",3)]) rfl kl.nd (rP K aN) (bC (by rfl)) (fun _ _ _ _ _=>(iZ 3 kl.nd)) (fun _ _ _ _ _=>c6) (fun _ _ _ _ _=>(bJ cX hr (aY bP dJ))))))))) (aa (ek adF rfl (rP K aN) (iZ 2 kl.nd) (ae (bS (lP K adI adL fP bz (aG (gK (own:=[("part",4)]) rfl kl.nd (piT K (ZH T.Lb rfl)) (bC (by rfl)) (fun _ _ _ _ _=>(iZ 4 kl.nd)) (fun _ _ _ _ _=>c6) (fun _ _ _ _ _=>(bJ cX hr (aY bP lO))))))))) (aa (bS (lP K adI adL (P5 K) bz (aG (ZH T.Lb rfl)))) (ae (aj bz)))))),fun G dyes iE hs h7 U=> ?_⟩
 try dsimp only at U
 try dsimp only[je,rd]
 obtain⟨p1,p2⟩:=U;obtain⟨us,kp,kq⟩:=T.XB;have hus:us.length=3:=aw (kq G);intro G0 H0 e0 D kD;refine wj fun p U=> ?_
 have g0:G0 p=none:=e0.gh.free U;have sm:Sub G0 (upd H0 p (.lst [])):=e0.gh.trans (bB U);have bnd:∀(f:I3->List I3) (l:List I3) (i:Nat),(∀z∈l,(f z).length<=5)->l.length<=5-> ∀acc:List I3,acc=(l.take i).foldl (fun x z=>x++f z) []->acc.length<=25:=fun f l i hf hl acc ha=>by
  rw[ha,cC,acI];refine adb (ir (m:=5) _ fun z hz=>hf z (acD hz)) ?_;rw[ach];exact adb (adn 5 (show _<=5 by lia)) (by decide)
 show qe _ _ _ _ _ _
 refine jY (R:=g6 K) (zs:=dyes) (Rz:=g6 K) (fun acc o=>acc++dyes.map fun q=>cross o q)
  (fun J=>∃O M L,J=[some iE,some (.ref p),O,M,L]) sm g0 ah .nil (xi3 _ _ _ rfl) (bD (ab rfl h7 e0.gg)) ?_ ?_
 .rintro G2 i o acc hz ha J G' H' A v_o Y;obtain⟨O,M,L,rfl⟩:=A.sh;obtain⟨vs,k1,k2⟩:=A.at_;have po:=p2 o (acB hz);have sG:aE G G':=e0.gg.trans A.ex.gg;have hacc:=bnd (fun o=>dyes.map fun q=>cross o q) dyes i (fun z _=>by rw[aca];exact p1) p1 acc ha;refine mP (R:=g6 K) (xs:=dyes.map fun q=>cross o q) rfl k1 ?_ A.ex.gh (eT (Rz:=g6 K) (zs:=dyes) (bD (ab rfl h7 sG)) (adf p1 (by decide)) fun q hq x G1 H1 e1 r1=>⟨_,cE,rfl, ?_⟩) fun ws G5 H5 Z r5=> ?_
  .rw[aw k2,aca];exact adb (show _<=30 by lia) (by decide)
  .exact ak (bX (ab rfl Y e1.gg) (aR r1)) (po.mono (by decide))
  .exact⟨G5,A.grow Z (xi3 _ _ _ rfl) (dR (aq Z.gg k2) r5)⟩
 .rintro G2 J G' H' A;obtain⟨O,M,L,rfl⟩:=A.sh;obtain⟨vs,k1,k2⟩:=A.at_;have hl1:(dyes.foldl (fun acc o=>acc++dyes.map fun q=>cross o q) []).length<=25:=bnd (fun o=>dyes.map fun q=>cross o q) dyes dyes.length (fun z _=>by rw[aca];exact p1) p1 _ (by rw[ac1]);generalize hL:dyes.foldl (fun acc o=>acc++dyes.map fun q=>cross o q) []=L1 at A k2 hl1;dsimp only
  show qe _ _ _ _ _ _
  refine jY (R:=g6 K) (zs:=dyes) (Rz:=g6 K) (fun acc o=>acc++rQ.map fun q=>cross o q)
   (fun J=>∃O M L,J=[some iE,some (.ref p),O,M,L]) A.ex.gh A.gn k1 k2 (xi3 _ _ _ rfl) (bD (ab rfl h7 (e0.gg.trans A.ex.gg))) ?_ ?_
  .rintro G3 i o acc hz ha σ2 G4 H4 B v_o Y;obtain⟨O,M,L,rfl⟩:=B.sh;obtain⟨vs4,k3,k4⟩:=B.at_;have po:=p2 o (acB hz);have hacc:acc.length<=50:=by
    rw[ha,cC,ab7];have:=ir (f:=fun o=>rQ.map fun q=>cross o q) (m:=3) (dyes.take i) fun z _=>by rw[aca];decide
    have h6:(dyes.take i).length<=5:=by rw[ach];lia
    lia
   refine mP (R:=g6 K) (xs:=rQ.map fun q=>cross o q) rfl k3 ?_ B.ex.gh (eT (Rz:=g6 K) (zs:=rQ) (Zg (L5 (kp.tup (kq G4)) sr)) (by decide) fun q hq x G1 H1 e1 r1=>⟨_,cE,rfl, ?_⟩) fun ws G5 H5 Z r5=> ?_
   .rw[aw k4,aca];exact adb (show acc.length+3<=60 by lia) (by decide)
   .exact ak (x:=(o,q,())) (bX (ab rfl Y e1.gg) (aR r1)) (po.mono (by decide))
   .exact⟨G5,B.grow Z (xi3 _ _ _ rfl) (dR (aq Z.gg k4) r5)⟩
  .rintro G3 σ2 G4 H4 B;obtain⟨O,M,L,rfl⟩:=B.sh;have C:=A.join B ⟨_,_,_,rfl⟩;obtain⟨vs4,k3,k4⟩:=C.at_;refine O0 rfl k3 kp ?_ ?_
   .rw[aw k4,hus,cC,ab7];have:=ir (f:=fun o=>rQ.map fun q=>cross o q) (m:=3) dyes fun z _=>by rw[aca];decide
    exact adb (show _<=100 by lia) (by decide)
   .have C2:=C.grow (Ext.refl C.ex.gh) (σ5:=[some iE,some (.ref p),O,M,L]) (xi3 _ _ _ rfl) (dR k4 (kq G4));obtain⟨G5,Z,r5⟩:=C2.done (Ext.own e0.gh U) U;refine⟨_,rfl,kD _ G5 _ Z ?_⟩;rw[<- hL,cC,cC,acI] at r5;exact r5
abbrev jO:Df:=⟨"light_told",20,["dyes","colour"],fun K _=>fz 2 (AC (ag (g6 K)) (AC (g6 K) A0)) (fun x=>x.1.length<=5/\ ∀y∈x.1,gI 1000 y) (jA (g6 K)) (fun x=>eY x.1 x.2.1)⟩
def vd:dP ["dyes","colour","light"] jO:=by walk_at"s"
def DG (F:bh K jO f fd)(T:Txt K mg t)(Cr:aL P w K mg base t 2 qT)(pZ:aL P w K mg base t 2 lI)(lJ:aL P w K mg base t 1 iu):dO P w K mg base t 3 f fd jO:=by
 refine mT F vd fun H Z=>⟨_,(aa (ek adF rfl (rP K (bJ Cr Z (aG aN))) (iZ 2 vd.nd) (aa (a_ (de (bJ pZ Z (cD bP aN bz))) (ae (aj bP)) aD) (ae (a_ (de (bJ pZ Z (cD (bJ lJ Z (aG bP)) aN bz))) (ae (aj (bJ lJ Z (aG bP)))) aD)))) (ae (aj ke))),fun G dyes J iE fU hs h7 f9 hp=> ?_⟩
 obtain⟨p1,p2⟩:=hp;have lin:=ER p2;intro G0 H0 e0 D kD;refine yi e0.gh (bD (ak (bp (ab rfl h7 e0.gg)) ⟨p1,p2⟩)) fun G2 H2 e2=>⟨fun i O G' H'=>(∃t2,O=[some iE,some fU,t2])/\Ext G0 H0 G' H'/\aE G2 G'/\ ∀k,k < i-> ∀u,(qM dyes)[k]?=some u->rE dyes J u=none,⟨⟨_,rfl⟩,e2,aE.refl _,fun k hk=>absurd hk (adq _)⟩, ?_, ?_, ?_⟩
 .rintro i O G' H' ⟨_,ex,sm,_⟩;exact⟨sm,ex.gh⟩
 .rintro i l O G' H' hz ⟨⟨t2,rfl⟩,ex,sm,hn⟩ x G3 H3 e3 Ic;have U:=ex.trans e3;have s3:aE G G3:=e0.gg.trans U.gg;have hl:=lin l (acB hz);refine eR e3.gh (bZ (ak (fY (aR Ic) (ab rfl h7 s3) (ab rfl f9 s3)) ⟨hl,p1⟩)) (fun h G4 H4 L=> ?_) (fun h G4 H4 L=> ?_)
  .refine cf L.gh (ph (ab rfl Ic L.gg)) fun v Y H5 M r5=>kD v Y H5 ((U.trans L).trans M) ?_
   have:eY dyes J=some l:=find_here hz (by delta rE;rw[ad3 h]) hn
   rw[this];exact r5
  .have s4:aE G G4:=s3.trans L.gg;refine u7 L.gh (bZ (ak (fY (ak (bp (ab rfl Ic L.gg)) trivial) (ab rfl h7 s4) (ab rfl f9 s4)) ⟨hl.neg,p1⟩)) (fun h' Y H5 M=> ?_) (fun h' Y H5 M=> ?_)
   .refine cf M.gh (ph (ak (bp (ab rfl Ic (L.gg.trans M.gg))) trivial)) fun v G6 H6 e6 r6=>kD v G6 H6 (((U.trans L).trans M).trans e6) ?_
    have:eY dyes J=some (PZ l):=find_here hz (by delta rE;rw[ad2 (by rw[h];decide),ad3 h']) hn
    rw[this];exact r6
   .refine⟨Y,⟨_,rfl⟩,(U.trans L).trans M,sm.trans (e3.gg.trans (L.gg.trans M.gg)),fun k hk u hu=> ?_⟩
    by_cases hki:k < i
    .exact hn k hki u hu
    .have e:k=i:=by lia
     subst e;rw[hz] at hu;cases hu;delta rE;rw[ad2 (by rw[h];decide),ad2 (by rw[h'];decide)]
 .rintro O G' H' ⟨⟨t2,rfl⟩,ex,sm,hn⟩;have:eY dyes J=none:=find_none hn
  dsimp only;refine cf ex.gh (R:=jA (g6 K)) jW fun v Y H5 M r5=>kD v Y H5 (ex.trans M) ?_
  rw[this];exact r5
end
end Cw
namespace PySem
section
variable {prog:dn}{w:fx}{A:eu}{R:Result->cq->Prop}{I:dr}{fp wr:mu}{n:Nat}{P:Nat->ee->Prop}{St:Nat->Heap->Prop}{d:ee}
end
section
variable {prog:dn}{w:fx}{A:eu}{E:ee->cq->Prop}{s:cq}{d:ee}
end
end PySem
namespace My
open PySem PySem.Spec PyProof.Rows L2
end My
namespace Cw
open PySem PySem.Spec PyProof.Rows L2 My
def cR (u l:Int):hA:=[u / (Int.gcd u l:Int),l / (Int.gcd u l:Int)]
def Tw (h:0<=c)(h2:0 < r):Int.gcd r (c%r)=Int.gcd c r:=by
 obtain⟨a,rfl⟩:=abd h;obtain⟨b,rfl⟩:=abd (abf h2)
 show Nat.gcd b (a%b)=Nat.gcd a b
 rw[Nat.gcd_comm b _,<- Nat.gcd_rec,Nat.gcd_comm]
def gO (c n:Int):Bool:=decide (Builtin.bitAnd (c / 2^n.toNat) 1=1)
def aZ (rd:Int)(s:bH)(rep:Int):Int:=rd+(s.2.1 - rd)%rep+s.1
def iS (r:cu):cu:=(r.2.1,r.1,r.2.2.2.1,r.2.2.1,())
def bM (rooms:List cu)(chosen:Int):List cu:=(numbered rooms).map fun p=>if gO chosen p.1 then iS p.2 else p.2
def tD (first across wide:Int):Nat:=(Builtin.Range.rangeSize first across wide).toNat
def eG (r:cu)(first wide:Int):hA:=kI first wide (tD first r.1 wide)
def zJ (s:Int)(d:Int×Int):Bool:=decide (d.1 < s)&&decide (s < d.2)
def iV (r:cu)(first wide:Int):Bool:=(eG r first wide).all fun s=>r.2.2.1.all fun d=> !zJ s d
def eS (r:cu)(wide:Int):hA:=(upTo 1 (wide+1 - 1).toNat).filter fun f=>iV r f wide
def gN (r:cu)(first wide:Int):Int:=((eG r first wide).length:Int)+1
def k_ (r:cu)(first wide:Int):Int:=if decide (((eG r first wide).length:Int)=0) then r.1 else(if r.1 - (eG r first wide).getLastD 0 < first then r.1 - (eG r first wide).getLastD 0 else first)
def keyLt (r:cu)(wide a b:Int):Bool:=HT.lexLt [-(gN r a wide),k_ r a wide,a] [-(gN r b wide),k_ r b wide,b]
def Cz (r:cu)(wide:Int)(o:ng)(x:Int):ng:=match o with
 |none=>some x
 |some y=>if keyLt r wide y x then some x else some y
def cz (r:cu)(wide:Int):ng:=(eS r wide).foldl (Cz r wide) none
def cn (r:cu)(wide:Int):ng:=(cz r wide).map fun f=>gN r f wide
structure dM (r:cu):Prop where
 ac:1<=r.1/\r.1<=200
 al:1<=r.2.1/\r.2.1<=200
 nd:r.2.2.1.length<=5
 ns:r.2.2.2.1.length<=5
def R1 (L:1<=f/\f<=60)(M:1<=a/\a<=200)(hw:1<=w/\w<=60):RgC f a w (tD f a w)/\tD f a w<=200:=by
 have J:(Builtin.Range.rangeSize f a w)=if f < a then(a - f - 1) / w+1 else 0:=by
  delta Builtin.Range.rangeSize;lia
 have hd:f < a->0<=(a - f - 1) / w/\(a - f - 1) / w<=198:=fun h=>by
  refine⟨Int.ediv_nonneg (by omega) (by grind), ?_⟩;have:=Int.ediv_le_self (a:=a - f - 1) w (by omega)
  lia
 refine⟨⟨by omega,by grind, ?_,by delta tD;grind⟩,by delta tD;omega⟩;delta Builtin.Range.small;simp only[Builtin.Range.rangeFitsLong,aaO,aaW,ad0,adT,show w>0 by omega,ad4];omega
section
variable {P:dn}{w:fx}{K:b0}{mg:gp}{base:Heap}{t:jC}
abbrev l0:Df:=⟨"lowest",67,["upper","lower"],fun _ _=>fz 2 (AC af (AC af A0)) (fun x=>0<=x.1/\0 < x.2.1/\x.2.1 < 2^2000) (ag af) (fun x=>cR x.1 x.2.1)⟩
def og:dP ["upper","lower","common","rest","further"] l0:=by walk_at"s"
def PL (F:bh K l0 f fd)(T:Txt K mg t):dO P w K mg base t 1 f fd l0:=by
 refine mT F og fun H Y=>⟨_,(aa (dC 2 og.nd aN) (aa (dC 3 og.nd bz) (aa (AA adF (ka Jo dJ ai) (aa (dC 4 og.nd (bc xU bP dJ)) (aa (dC 2 og.nd dJ) (ae (dC 3 og.nd lO))))) (ae (aj (az (aY (bc Jp aN bP) (bc Jp bz bP)))))))),fun G L J Vo Vs hs Oe Oh hp=> ?_⟩
 try dsimp only at hp
 obtain⟨p1,p2,p3⟩:=hp;intro G0 H0 e0 D kD;refine cB e0.gh (ab rfl Oe e0.gg) fun Lj G1 H1 e1 vx=>cB e1.gh (ab rfl Oh (e0.gg.trans e1.gg)) fun Rc G2 H2 e2 Lk=> ?_
 have e02:=e1.trans e2;refine Fz (fun st O G' H'=>∃v w t4,O=[some Vo,some Vs,some v,some w,t4]/\af G' v st.1/\af G' w st.2/\Ext G0 H0 G' H'/\0<=st.1/\0<=st.2/\Int.gcd st.1 st.2=Int.gcd L J) (L,J) (xi3 Lj Rc none ⟨rfl,vx,Lk,e02,p1,abf p2,rfl⟩) (fun st=> !decide (st.2=0)) (fun st=>st.2.toNat) ?_ ?_ ?_
 .rintro st O G' H' ⟨v,w',t4,rfl,Z,hw,ex,_⟩;exact⟨ex.gh,dj (L0 (aR hw) ao)⟩
 .rintro⟨c,r⟩ O G' H' ⟨v,w',t4,rfl,Z,hw,ex,q1,q2,q3⟩ hc G3 H3 M;have Y:0 < r:=by
   have:¬r=0:=by lia
   lia
  refine cB M.gh (vE (ab rfl Z M.gg) (ab rfl hw M.gg) Y) fun X9 G4 H4 e4 vw=>cB e4.gh (ab rfl hw (M.gg.trans e4.gg)) fun v5 G5 H5 e5 h5=>qd e5.gh (ab rfl vw e5.gg) fun v6 G6 H6 e6 h6=> ?_
  exact xi2 (r,c%r) G6 ⟨xi3 v5 v6 _ ⟨rfl,h5,h6,((ex.trans M).trans e4).trans (e5.trans e6),abf Y,abc _ (by lia),(Tw q1 Y).trans q3⟩,by
   have:=abb c Y
   lia⟩
 .rintro⟨c,r⟩ O G' H' ⟨v,w',t4,rfl,Z,hw,ex,q1,q2,q3⟩ hc G3 H3 M;have Y:r=0:=by lia
  subst Y;have hg:c=(Int.gcd L J:Int):=by
   rw[<- q3,Int.gcd_zero_right];lia
  have hpos:0 < Int.gcd L J:=Int.gcd_pos_of_ne_zero_right _ (by lia);have hle:(Int.gcd L J:Int)<=J:=by
   have:=Int.le_of_dvd p2 (Int.gcd_dvd_right L J)
   exact this
  have U:Lh L (Int.gcd L J:Int)/\Lh J (Int.gcd L J:Int):=by
   have hb:(Int.gcd L J:Int).natAbs < 2^2000:=by lia
   have:((Int.gcd L J:Int).natAbs).log2 < 9000:=adk ((Nat.log2_lt (by lia)).mpr hb) (by decide)
   exact⟨⟨by omega,this⟩,⟨by omega,this⟩⟩
  have sG:aE G G3:=e0.gg.trans (ex.gg.trans M.gg);dsimp only;rw[hg] at Z;refine cf M.gh (bG (aI (Jb (ab rfl Oe sG) (ab rfl Z M.gg) U.1) (aI (Jb (ab rfl Oh sG) (ab rfl Z M.gg) U.2) bu)) sl2) fun v5 G5 H5 e5 r5=>kD v5 G5 H5 ((ex.trans M).trans e5) r5
abbrev gS:Df:=⟨"within",28,["number","least","most"],fun _ _=>fz 3 (AC af (AC af (AC af A0))) (fun _=>True) dQ (fun x=>decide (x.2.1<=x.1)&&decide (x.1<=x.2.2.1))⟩
def Po:dP ["number","least","most"] gS:=by walk_at"s"
def PH (F:bh K gS f fd)(T:Txt K mg t):dO P w K mg base t 1 f fd gS:=by
 refine Jj F Po fun H L=>⟨_,(ae (aj (AI (QV yH bz aN) (Gb (QV yH aN bP))))),fun G _ _ _ _ _ _ J _ _ _ M=> ?_⟩
 apply RS.eq
 .apply aB
  walk_at"re"
 .rfl
abbrev l6:Df:=⟨"in_set",30,["chosen","number"],fun _ _=>fz 2 (AC af (AC af A0)) (fun x=>0<=x.2.1) dQ (fun x=>gO x.1 x.2.1)⟩
def Pr:dP ["chosen","number"] l6:=by walk_at"s"
def PQ (F:bh K l6 f fd)(T:Txt K mg t):dO P w K mg base t 1 f fd l6:=by
 refine mT F Pr fun H M=>⟨_,(ae (aj (QV mV (bc Sw (bc ZN aN bz) ai) ai))),fun G _ _ _ _ L _ _ J=> ?_⟩
 apply RS.eq
 .apply aB
  walk_at"re"
  exact J
 .rfl
abbrev ja:Df:=⟨"cut_end",37,["start","strip","repeat"],fun K t=>fz 3 (AC af (AC (cZ K t) (AC af A0))) (fun x=>0 < x.2.2.1) af (fun x=>aZ x.1 x.2.1 x.2.2.1)⟩
def LP:dP ["start","strip","repeat"] ja:=by walk_at"s"
def Mc (F:bh K ja f fd)(T:Txt K mg t):dO P w K mg base t 1 f fd ja:=by
 refine Jj F LP fun H M=>⟨_,(ae (aj (bc kZ (bc kZ aN (bc xU (bc qt (aF K bz) aN) bP)) (aF K bz)))),fun G _ _ _ _ _ _ L _ _ _ J=> ?_⟩
 exact aB (oF (oF (by walk_at"re") (vE (tH (tJ T (by walk_at"re")) (by walk_at"re")) (by walk_at"re") J)) (nA T (by walk_at"re")))
abbrev ow:Df:=⟨"turned",54,["room"],fun K t=>fz 1 (AC (eF K t) A0) (fun _=>True) (eF K t) (fun x=>iS x.1)⟩
def Pp:dP ["room"] ow:=⟨rfl,rfl,rfl,by decide,rfl,by decide+kernel,by decide+kernel⟩
def PJ (F:bh K ow f fd)(T:Txt K mg t)(J:yY P w K mg base 1 "Room" t.cRoom ["self","across","along","doors","sides"] (eE t.cRoom ["across","along","doors","sides"])):dO P w K mg base t 3 f fd ow:=by
 refine QU F Pp fun H O=>⟨_,(ae (aj (sL J O (by decide) rfl (gG (aF K aN) (cD (aF K aN) (aF K aN) (aF K aN)))))),fun G _ M Y U Z=> ?_⟩
 have L:=ab (σ:=[some M]) (i:=0) (H:=H) rfl U sr;exact aB (jo (bE (gu T L) (fY (dm T L) (iz T L) (iA T L))))
abbrev fR:Df:=⟨"turned_rooms",55,["rooms","chosen"],fun K t=>fz 2 (AC (ag (eF K t)) (AC af A0)) (fun x=>x.1.length<=3) (ag (eF K t)) (fun x=>bM x.1 x.2.1)⟩
def jU:dP ["rooms","chosen","number","room"] fR:=by walk_at"s"
def y9 (F:bh K fR f fd)(T:Txt K mg t)(Z:aL P w K mg base t 1 l6)(Y:aL P w K mg base t 3 ow):dO P w K mg base t 4 f fd fR:=by
 refine mT F jU fun H O=>⟨_,(ae (aj (gK (own:=[("number",2),("room",3)]) rfl jU.nd (piE K rfl T.hU (aG aN)) (bC (by rfl)) (fun _ _ _ _ _=>(Sr K (n:=2) rfl (cF (iZ 2 jU.nd) (cF (iZ 3 jU.nd) kX)))) (fun _ _ _ _ _=>c6) (fun _ _ _ _ _=>(gL (de (bJ Z O (aY bz bP))) (bJ Y O (aG dJ)) dJ))))),fun G rooms J mh IA hs xi mZ hp=> ?_⟩
 refine aB (eT (uM (by walk_at"re")) (by rw[cN];exact adf hp (by decide)) fun z hz x G1 H1 e1 U=> ?_);obtain⟨p,u,w',rfl,M,hu,hw⟩:=U;obtain⟨k,hk⟩:=acz.mp hz;have L:0<=z.1:=by rw[(cy hk).1];lia
 refine⟨_,mi (aE.tup e1.gh.at_ M),rfl,lQ (bZ (ak (bX (by walk_at"re") (aR hu)) L)) (fun _=>ak (bp (aR hw)) trivial) (fun _=>ab rfl hw sr)⟩
abbrev g_:Df:=⟨"seams_of",56,["room","first","wide"],fun K t=>fz 3 (AC (eF K t) (AC af (AC af A0))) (fun x=>dM x.1/\(1<=x.2.1/\x.2.1<=60)/\(1<=x.2.2.1/\x.2.2.1<=60)) (ag af) (fun x=>eG x.1 x.2.1 x.2.2.1)⟩
def IQ:dP ["room","first","wide"] g_:=by walk_at"s"
def Jv (F:bh K g_ f fd)(T:Txt K mg t):dO P w K mg base t 1 f fd g_:=by
 refine Jj F IQ fun H J=>⟨_,(ae (aj (AH rfl rfl T.oY rfl T.ig (cD bz (aF K aN) bP)))),fun G _ first _ _ _ _ U _ _ _ O=> ?_⟩
 obtain⟨M,p2,L⟩:=O;have J:=R1 p2 M.ac L;exact aB (re_lr (fY (by walk_at"re") (dm T (by walk_at"re")) (by walk_at"re")) J.1 (adb J.2 (by decide)))
end
end Cw
namespace Cw
open PySem PySem.Spec PyProof.Rows L2 My
def K7 {f:a->Bool}{zs:List a}(h:∀k,k < zs.length-> ∀u,zs[k]?=some u->f u=true):zs.all f=true:=by
 rw[abv];intro x J;obtain _:=acz.mp J
 grind
def N2 {f:a->Bool}{zs:List a}(J:z∈zs)(h:f z=false):zs.all f=false:=by
 grind
def ip {lo:Int}(h:z∈upTo lo n):lo<=z/\z < lo+n:=by
 obtain⟨k,J⟩:=acz.mp h;obtain _:=sY J;lia
def EE (r:cu)(f w:Int):(eG r f w).length=tD f r.1 w:=by unfold eG kI;simp
section
variable {P:dn}{w:fx}{K:b0}{mg:gp}{base:Heap}{t:jC}
abbrev nc:Df:=⟨"is_clear",57,["room","first","wide"],fun K t=>fz 3 (AC (eF K t) (AC af (AC af A0))) (fun x=>dM x.1/\(1<=x.2.1/\x.2.1<=60)/\(1<=x.2.2.1/\x.2.2.1<=60)) dQ (fun x=>iV x.1 x.2.1 x.2.2.1)⟩
def o_:dP ["room","first","wide","seam","low","high"] nc:=by walk_at"s"
def Jw (F:bh K nc f fd)(T:Txt K mg t)(eQ:aL P w K mg base t 1 g_):dO P w K mg base t 2 f fd nc:=by
 refine Jj F o_ fun H hr=>⟨_,(aa (ek adF rfl (rP K (bJ eQ hr (cD aN bz bP))) (iZ 3 o_.nd) (ae (ek adF rfl (rP K (aF K aN)) (Sr K rfl (cF (iZ 4 o_.nd) (cF (iZ 5 o_.nd) kX))) (ae (a_ (PW.pt (Az (ka AM lO dJ) (wM (ka AM dJ uQ)))) (ae (aj Jl)) aD))))) (ae (aj Jl))),fun G room first wide lR FD z0 hs dS Oj tZ hp=> ?_⟩
 try dsimp only at hp
 obtain⟨p1,p2,p3⟩:=hp;intro G0 H0 e0 D kD;refine yi e0.gh (bD (ak (fY (ab rfl dS e0.gg) (ab rfl Oj e0.gg) (ab rfl tZ e0.gg)) ⟨p1,p2,p3⟩)) fun G2 H2 e2=>⟨fun i J G' H'=>(∃t3 U O,J=[some lR,some FD,some z0,t3,U,O])/\Ext G0 H0 G' H'/\aE G2 G'/\ ∀k,k < i-> ∀u,(eG room first wide)[k]?=some u->(room.2.2.1.all fun d=> !zJ u d)=true,⟨⟨_,_,_,rfl⟩,e2,aE.refl _,fun k hk=>absurd hk (adq _)⟩, ?_, ?_, ?_⟩
 .rintro i J G' H' ⟨_,ex,sm,_⟩;exact⟨sm,ex.gh⟩
 .rintro i s0 J G' H' hz ⟨⟨t3,U,O,rfl⟩,ex,sm,hn⟩ vB G3 H3 e3 iY;have Z:=ex.trans e3;have hs0:s0∈eG room first wide:=acB hz;refine yi e3.gh (bD (iA T (ab rfl dS (e0.gg.trans Z.gg)))) fun G4 H4 e4=>⟨fun j J G' H'=>(∃U O,J=[some lR,some FD,some z0,some vB,U,O])/\Ext G3 H3 G' H'/\aE G4 G'/\ ∀k,k < j-> ∀u,room.2.2.1[k]?=some u->(!zJ s0 u)=true,⟨xi2 _ _ rfl,e4,aE.refl _,fun k hk=>absurd hk (adq _)⟩, ?_, ?_, ?_⟩
  .rintro j J G' H' ⟨_,ex,sm,_⟩;exact⟨sm,ex.gh⟩
  .rintro j d J G' H' hd ⟨⟨U,O,rfl⟩,M,sm4,Y⟩ x G5 H5 e5 r5;obtain⟨p,u,w',rfl,hs1,hu,hw⟩:=r5;have L:=M.trans e5;refine mi (aE.tup e5.gh.at_ hs1) _ ?_;refine u7 e5.gh (d:=zJ s0 d) (vD (dj (sJ (aR hu) (ab rfl iY L.gg))) fun _=>dj (sJ (ab rfl iY L.gg) (aR hw))) (fun h G6 H6 e6=> ?_) (fun h G6 H6 e6=> ?_)
   .refine cf e6.gh (NW) fun v G7 H7 e7 r7=>kD v G7 H7 ((Z.trans L).trans (e6.trans e7)) ?_
    have:iV room first wide=false:=N2 hs0 (N2 (acB hd) (by rw[h];rfl))
    rw[this];exact r7
   .refine⟨G6,xi2 _ _ rfl,L.trans e6,sm4.trans (e5.gg.trans e6.gg),fun k hk v hv=> ?_⟩
    by_cases hkj:k < j
    .exact Y k hkj v hv
    .have e:k=j:=by omega
     subst e;rw[hd] at hv;cases hv;rw[h];rfl
  .rintro J G' H' ⟨⟨U,O,rfl⟩,M,sm4,Y⟩;refine⟨G',xi3 _ _ _ rfl,Z.trans M,sm.trans (e3.gg.trans M.gg),fun k hk u hu=> ?_⟩
   by_cases hki:k < i
   .exact hn k hki u hu
   .have e:k=i:=by omega
    subst e;rw[hz] at hu;injection hu with hu;subst hu;exact K7 Y
 .rintro J G' H' ⟨⟨t3,U,O,rfl⟩,ex,sm,hn⟩;dsimp only;refine cf ex.gh (NW) fun v G5 H5 e5 r5=>kD v G5 H5 (ex.trans e5) ?_
  have:iV room first wide=true:=K7 hn
  rw[this];exact r5
abbrev eO:Df:=⟨"clear_firsts",58,["room","wide"],fun K t=>fz 2 (AC (eF K t) (AC af A0)) (fun x=>dM x.1/\(1<=x.2.1/\x.2.1<=60)) (ag af) (fun x=>eS x.1 x.2.1)⟩
def ny:dP ["room","wide","first"] eO:=by walk_at"s"
def zf (F:bh K eO f fd)(T:Txt K mg t)(U:aL P w K mg base t 2 nc):dO P w K mg base t 3 f fd eO:=by
 refine mT F ny fun H hr=>⟨_,(ae (aj (gK (own:=[("first",2)]) rfl ny.nd (uR rfl T.ig (aY ai (bc kZ bz ai))) (bC (by rfl)) (fun _ _ _ _ _=>(iZ 2 ny.nd)) (fun _ _ _ _ _=>(pA (de (bJ U hr (cD aN bP bz))))) (fun _ _ _ _ _=>bP)))),fun G room wide lR z0 hs dS tZ O=> ?_⟩
 try dsimp only at O
 obtain⟨Y,p2⟩:=O;have J:(upTo 1 (wide+1 - 1).toNat).length < sizeLine:=by rw[cg];exact adf (show _<=60 by simp[*]) (by decide)
 have L:∀f∈upTo 1 (wide+1 - 1).toNat,1<=f/\f<=60:=fun f hf=>by have:=ip hf;grind
 refine aB (RE.eq (wJ (p:=fun f=>iV room f wide) (uL (by walk_at"re") ⟨by lia,by lia,by lia,by lia⟩) J fun z Z x G1 H1 e1 M=>⟨_,cE,rfl, ?_,fun _=>ab rfl M sr⟩) (by delta eS;simp));exact bZ (ak (fY (by walk_at"re") (aR M) (by walk_at"re")) ⟨Y,L z Z,p2⟩)
abbrev eC:Df:=⟨"strip_count",59,["room","first","wide"],fun K t=>fz 3 (AC (eF K t) (AC af (AC af A0))) (fun x=>dM x.1/\(1<=x.2.1/\x.2.1<=60)/\(1<=x.2.2.1/\x.2.2.1<=60)) af (fun x=>gN x.1 x.2.1 x.2.2.1)⟩
def Ae:dP ["room","first","wide"] eC:=by walk_at"s"
def AS (F:bh K eC f fd)(T:Txt K mg t)(M:aL P w K mg base t 1 g_):dO P w K mg base t 2 f fd eC:=by
 refine Jj F Ae fun H J=>⟨_,(ae (aj (bc kZ (nD T (bJ M J (cD aN bz bP))) ai))),fun G room first wide _ _ _ O _ _ _ L=> ?_⟩
 refine RS.eq (aB (oF (dc (bp (ak (by walk_at"re") L))) ao)) rfl
abbrev ib:Df:=⟨"narrowest",60,["room","first","wide"],fun K t=>fz 3 (AC (eF K t) (AC af (AC af A0))) (fun x=>dM x.1/\(1<=x.2.1/\x.2.1<=60)/\(1<=x.2.2.1/\x.2.2.1<=60)) af (fun x=>k_ x.1 x.2.1 x.2.2.1)⟩
def wD:dP ["room","first","wide","seams"] ib:=by walk_at"s"
def Gw (F:bh K ib f fd)(T:Txt K mg t)(U:aL P w K mg base t 1 g_):dO P w K mg base t 2 f fd ib:=by
 refine Jj F wD fun H M=>⟨_,(aa (dC 3 wD.nd (bJ U M (cD aN bz bP))) (aa (a_ (ka mV (nD T dJ) ai) (ae (aj (aF K aN))) aD) (ae (aj (fD (aaK rfl) rfl T.CF Cv (aY bz (bc qt (aF K aN) (cW (dZ K) dJ (wQ rB ai))))))))),fun G room first wide lR FD Y hs dS Oj Z O=> ?_⟩
 refine RS.eq (bQ (ak (by walk_at"re") O) fun J G1 H1 e1 WE=>bj (by walk_at"re") (fun _=>aB (dm T (by walk_at"re"))) (fun h=>aB (VM (bX (by walk_at"re") (tH (dm T (by walk_at"re")) (L4 (aR WE) (xQ ao) (yt ?_))))))) rfl;intro L;rw[L] at h;exact absurd h (by decide)
abbrev jG (K:b0)(t:jC):Sp:=fz 2 (AC (eF K t) (AC af A0)) (fun x=>dM x.1/\(1<=x.2.1/\x.2.1<=60)) (jA af) (fun x=>cz x.1 x.2.1)
end
end Cw
namespace Cw
open PySem PySem.Spec PyProof.Rows L2 My
def eK (r:cu)(n drop rep:Int):List bH:=(upTo 0 n.toNat).map fun k=>(r.2.1,k*drop%rep,())
def nM (wide drop rep:Int)(o:Option (List bH))(r:cu):Option (List bH):=match o with
 |none=>none
 |some l=>match cn r wide with
  |none=>none
  |some n=>some (l++eK r n drop rep)
def bg (rooms:List cu)(wide drop rep:Int):Option (List bH):=match rooms.foldl (nM wide drop rep) (some []) with
 |none=>none
 |some l=>if decide ((l.length:Int)<=6) then some l else none
def wa:∀l:List cu,l.foldl (nM wide drop rep) none=none
 |[]=>rfl
 |_::l=>wa l
def UA:∀(l:hA) (o:ng) (f:Int),l.foldl (Cz r wide) o=some f->f∈l\/o=some f
 |[],o,f,h=>.inr h
 |x::l,o,f,h=>by
  rcases UA l _ f h with h|h
  .simp_all
  .unfold Cz at h
   grind
def OG (h:cz r wide=some f):f∈eS r wide:=by
 rcases UA _ _ _ h with h|h
 .exact h
 .cases h
def xn (hw:1<=wide/\wide<=60)(h:cz r wide=some f):1<=f/\f<=60:=by
 have:=ip (acx.mp (OG h)).1
 grind
def EA (J:dM r)(hw:1<=wide/\wide<=60)(L:1<=f/\f<=60):1<=gN r f wide/\gN r f wide<=201:=by
 delta gN;have:=(R1 L J.ac hw).2
 rw[EE];lia
def KL (J:dM r)(hw:1<=wide/\wide<=60)(h:cn r wide=some n):1<=n/\n<=201:=by
 delta cn at h;cases e:cz r _ with
 |none=>rw[e] at h;contradiction
 |_ f=>
  rw[e] at h;cases h;exact EA J hw (xn hw e)
def ba (r:cu)(wide drop rep:Int):Option (List bH):=(cn r wide).map fun n=>eK r n drop rep
structure uE (c:aC):Prop where
 rep:1<=c.2.1/\c.2.1<=60
 drop:0<=c.2.2.1/\c.2.2.1 < c.2.1
 wide:1<=c.2.2.2.1/\c.2.2.2.1<=60
section
variable {P:dn}{w:fx}{K:b0}{mg:gp}{base:Heap}{t:jC}
abbrev gU:Df:=⟨"room_strips",62,["room","carpet"],fun K t=>fz 2 (AC (eF K t) (AC (aU K t) A0)) (fun x=>dM x.1/\uE x.2.1) (jA (ag (cZ K t))) (fun x=>ba x.1 x.2.1.2.2.2.1 x.2.1.2.2.1 x.2.1.2.1)⟩
def iM:dP ["room","carpet","first","count","number"] gU:=by walk_at"s"
def AX (F:bh K gU f fd)(T:Txt K mg t)(L:yY P w K mg base 1 "Strip" t.sC ["self","length","place"] (eE t.sC ["length","place"]))(d9:aL P w K mg base t 2 eC)(jy:Cal P w K mg base 5 "best_first" ["room","wide"] (jG K t)):dO P w K mg base t 6 f fd gU:=by
 refine mT F iM fun H hr=>⟨_,(aa (dC 2 iM.nd (bJ jy hr (aY aN (aF K bz)))) (aa (a_ (ej (gv bP)) (ae (aj ke)) aD) (aa (dC 3 iM.nd (bJ d9 hr (cD aN bP (aF K bz)))) (ae (aj (gK (own:=[("number",4)]) rfl iM.nd (oq rfl T.ig (aG dJ)) (bC (by rfl)) (fun _ _ _ _ _=>(iZ 4 iM.nd)) (fun _ _ _ _ _=>c6) (fun _ _ _ _ _=>(sL L hr (by decide) rfl (aY (aF K aN) (bc xU (bc fK lO (aF K bz)) (aF K bz))))))))))),fun G room J lR gJ hs dS oU hp=> ?_⟩
 try dsimp only at hp
 obtain⟨Z,p3⟩:=hp;obtain⟨c1,c2,c3⟩:=p3;generalize O:J.2.2.2.1=wide at c3 ⊢;generalize hdr:J.2.2.1=drop at c2 ⊢;generalize hrp:J.2.1=rep at c1 c2 ⊢;refine bQ (ak (bX (aR dS) (RE.eq (d5 T (aR oU)) O)) ⟨Z,c3⟩) fun X9 G1 H1 e1 M=> ?_
 cases Y:cz room wide with
 |none=>
  rw[Y] at M;refine RS.eq (bj (y:=none) (d:=true) (RT.eq (bZ (bL (aR M))) rfl) (fun _=>aB jW) (fun h=>by nomatch h)) ?_;delta ba cn;rw[Y];rfl
 |some f=>
  rw[Y] at M;have MG:af G1 X9 f:=M.2;have fb:=xn c3 Y;have nb:=EA Z c3 fb;refine RS.eq (x:=if false then none else some (eK room (gN room f wide) drop rep)) (bj (RT.eq (bZ (bL (aR M))) rfl) (fun h=>by contradiction) (fun _=>bQ (R:=af) (ak (fY (ab rfl dS e1.gg) (aR MG) (RE.eq (d5 T (ab rfl oU e1.gg)) O)) ⟨Z,fb,c3⟩) fun O1 G2 H2 e2 wd=>aB (ph (eT (oo (bp (aR wd)) (by grind) (by grind)) ?_ fun k hk x G6 H6 e6 r6=>⟨_,cE,rfl, ?_⟩)))) ?_
  .rw[cg];exact adf (show _<=300 by grind) (by decide)
  .have hk2:=ip hk;have s6:aE G G6:=(e1.gg.trans e2.gg).trans e6.gg;have U:aU K t G6 gJ J:=aK.mono s6 oU;refine jo (bX (gu T (ab rfl dS s6)) (vE (qo (aR r6) (RE.eq (my T (aR U)) hdr) (.inl (by grind))) (RE.eq (bK T (aR U)) hrp) (by show 0 < rep;lia)))
  .show some _=ba room wide drop rep
   delta ba cn;rw[Y];rfl
abbrev cp:Df:=⟨"all_strips",63,["rooms","carpet"],fun K t=>fz 2 (AC (ag (eF K t)) (AC (aU K t) A0)) (fun x=>x.1.length<=3/\(∀r∈x.1,dM r)/\uE x.2.1) (jA (ag (cZ K t))) (fun x=>bg x.1 x.2.1.2.2.2.1 x.2.1.2.2.1 x.2.1.2.1)⟩
def mr:dP ["rooms","carpet","strips","room","more"] cp:=by walk_at"s"
def DM (F:bh K cp f fd)(T:Txt K mg t)(iD:aL P w K mg base t 6 gU):dO P w K mg base t 7 f fd cp:=by
 refine mT F mr fun H hr=>⟨_,(aa (dC 2 mr.nd (az eU)) (aa (ek adF rfl (rP K aN) (iZ 3 mr.nd) (aa (dC 4 mr.nd (bJ iD hr (aY dJ bz))) (aa (a_ (ej (gv lO)) (ae (aj ke)) aD) (ae (bS (lP K adI adL fP bP (aG lO))))))) (ae (aj (gL (ka yH (nD T bP) (g8 T.Le rfl)) bP ke))))),fun G rooms J Y U hs xi oU M=> ?_⟩
 try dsimp only at M
 obtain⟨p1,p2,p3⟩:=M;have cok:=p3;obtain⟨c1,c2,c3⟩:=p3;generalize hwd:J.2.2.2.1=wide at c3 ⊢;generalize hdr:J.2.2.1=drop at c2 ⊢;generalize hrp:J.2.1=rep at c1 c2 ⊢;intro G0 H0 e0 D kD;refine wj fun p M=> ?_
 have g0:G0 p=none:=e0.gh.free M;have sm0:Sub G0 (upd H0 p (.lst [])):=e0.gh.trans (bB M)
 show qe _ _ _ _ _ _
 refine yi (Rz:=eF K t) (zs:=rooms) sm0 (bD (ab rfl xi e0.gg)) fun G2 H2 e2=>⟨fun i L G' H'=>∃acc,(rooms.take i).foldl (nM wide drop rep) (some [])=some acc/\acc.length<=i*201/\Acc p (cZ K t) (fun L=>∃t3 t4,L=[some Y,some U,some (.ref p),t3,t4]) G0 (upd H0 p (.lst [])) G2 acc L G' H',
  ⟨[],rfl,adz _,⟨xi2 _ _ rfl,e2.exP,aE.refl _,e2.keeps ah g0,[],e2.hh _ _ ah,.nil⟩⟩, ?_, ?_, ?_⟩
 .rintro i L G' H' ⟨_,_,_,A⟩;exact⟨A.sm,A.ex.gh⟩
 .rintro i r L G' H' hz ⟨acc,hf,hl,A⟩ Rc G3 H3 e3 Lk;obtain⟨t3,t4,rfl⟩:=A.sh;have hr:dM r:=p2 r (acB hz);have hi:i < 3:=adg (abZ.mp hz).1 p1;have A3:=A.kJ e3 (σ5:=[some Y,some U,some (.ref p),some Rc,t4]) (xi2 _ _ rfl);have s3:aE G G3:=e0.gg.trans A3.ex.gg;have hcar:aU K t G3 U J:=aK.mono s3 oU;refine cB e3.gh (x:=ba r wide drop rep) (RE.eq (ak (bX (aR Lk) (aR hcar)) ⟨hr,cok⟩) ?_) fun O1 G4 H4 e4 wd=> ?_
  .show ba r J.2.2.2.1 J.2.2.1 J.2.1=_
   rw[hwd,hdr,hrp]
  have A4:=A3.kJ e4 (σ5:=[some Y,some U,some (.ref p),some Rc,some O1]) (xi2 _ _ rfl);have ft:∀o,nM wide drop rep (some acc) r=o->(rooms.take (i+1)).foldl (nM wide drop rep) (some [])=o:=fun o ho=>by
   rw[ac3,hz,adE,abR,hf];exact ho
  cases hn:cn r wide with
  |none=>
   rw[show ba r wide drop rep=none by delta ba;rw[hn];rfl] at wd;refine eR e4.gh (d:=true) (RT.eq (bZ (bL (aR wd))) rfl) (fun _ G5 H5 O=> ?_) (fun h=>by contradiction);refine cf O.gh (R:=jA (ag (cZ K t))) jW fun v G6 H6 Z r6=>kD v G6 H6 ?_ ?_
   .have A5:=(A4.kJ O (σ5:=[some Y,some U,some (.ref p),some Rc,some O1]) ⟨_,_,rfl⟩).kJ Z (σ5:=[some Y,some U,some (.ref p),some Rc,some O1]) ⟨_,_,rfl⟩;exact A5.ex.ext (Ext.own e0.gh M) M
   .have:bg rooms wide drop rep=none:=by
     delta bg;have e1:rooms.foldl (nM wide drop rep) (some [])=none:=by
      rw[<- ac0 (i+1) rooms,abR,ft none (by delta nM;rw[hn]),wa]
     rw[e1]
    rw[this];exact r6
  |some n=>
   rw[show ba r wide drop rep=some (eK r n drop rep) by delta ba;rw[hn];rfl] at wd;have h_n2:ag (cZ K t) G4 O1 (eK r n drop rep):=wd.2;have nb:=KL hr c3 hn;refine eR e4.gh (d:=false) (RT.eq (bZ (bL (aR wd))) rfl) (fun h=>by nomatch h) (fun _ G5 H5 O=> ?_);have A5:=A4.kJ O (σ5:=[some Y,some U,some (.ref p),some Rc,some O1]) (xi2 _ _ rfl);obtain⟨vs,k1,k2⟩:=A5.at_;refine mP (R:=cZ K t) rfl k1 ?_ O.gh (ab rfl h_n2 O.gg) fun us G6 H6 Z r6=> ?_
   .rw[aw k2];delta eK;rw[aca,cg];exact adb (show _<=1000 by grind) (by decide)
   .refine⟨G6,acc++eK r n drop rep,ft _ (by delta nM;rw[hn]), ?_,A5.grow Z (xi2 _ _ rfl) (dR (aq Z.gg k2) r6)⟩;rw[ab7];delta eK;rw[aca,cg,adu];grind
 .rintro L G' H' ⟨acc,hf,hl,A⟩;obtain⟨t3,t4,rfl⟩:=A.sh;obtain⟨G5,O,r5⟩:=A.done (Ext.own e0.gh M) M;rw[ac1] at hf;dsimp only;have he:bg rooms wide drop rep=if decide ((acc.length:Int)<=6) then some acc else none:=by
   delta bg;rw[hf]
  refine cf O.gh (lQ (dj (Ja (dc (bp (aR r5))) ao)) (fun _=>ph (aR r5)) (fun _=>jW)) fun v G6 H6 Z r6=>kD v G6 H6 (O.trans Z) ?_
  rw[he];exact r6
end
end Cw
namespace Cw
open PySem PySem.Spec PyProof.Rows L2 My
def nS (nt:List bH)(rep:Int)(ends:hA)(ch:Int):hA:=(numbered nt).flatMap fun p=>if gO ch p.1 then[aZ (ends.getD (ch - 1*2^p.1.toNat).toNat 0) p.2 rep] else[]
def wY (nt:List bH)(rep:Int)(ends:hA)(ch:Int):hA:=ends++[oZ (nS nt rep ends ch)]
def du (nt:List bH)(rep rd:Int):hA:=(upTo 1 ((1:Int)*2^((nt.length:Int)).toNat - 1).toNat).foldl (wY nt rep) [rd]
def cU (nt:List bH)(rep rd:Int):Int:=(du nt rep rd).getLastD 0
def aM (nt:List bH)(rep:Int):Int:=cU nt rep 0
def eX (nt:List bH)(rep:Int):Int:=nt.foldl (fun e s=>aZ e s rep) 0
def eA (part whole:Int):Bool:= !decide (part=0)&&decide (whole%part=0)
def Qe (hc:0<=c)(h:gO c n=true):1*2^n.toNat<=c:=by
 have h1:=aea h;rw[abo];apply Int.not_lt.mp;intro J;rw[Int.ediv_eq_zero_of_lt hc J] at h1;exact absurd h1 (by decide)
def Rw:((List.range 7).all fun n=>(upTo 1 (2^n - 1)).all fun ch=>(upTo 0 n).any fun k=>gO ch k)=true:=by rfl
def VA (J:n<=6)(h:ch∈upTo 1 (2^n - 1)):∃k∈upTo 0 n,gO ch k=true:=by
 have h1:=abv.mp Rw n (acE.mpr (by lia))
 simp_all
def uT:∀(l:hA) (acc:hA),(l.foldl (wY nt rep) acc).length=acc.length+l.length
 |[],acc=>by rfl
 |x::l,acc=>by
  rw[abS,uT l];delta wY
  grind
def AD (n:Nat):(1*(2:Int)^n - 1).toNat=2^n - 1:=by
 lia
def oH (h:n<=6):2^n<=64:=adb (ads (by decide) h) (by decide)
def L9 {n:Nat}(h:n<=6):1<=(1:Int)*2^((n:Int)).toNat/\(1:Int)*2^((n:Int)).toNat<=64:=by
 have h2:=oH h
 grind
def J9 (L:nt.length<=6)(h:ch∈upTo 1 (2^nt.length - 1)):nS nt rep ends ch≠[]:=by
 obtain⟨k,U,J⟩:=VA L h;have O:=ip U;have M:(k,nt[k.toNat])∈numbered nt:=by
  exact acA.mpr ⟨(nt[k.toNat],k.toNat),(acG.mpr (by simp)),by grind⟩
 have:aZ _ nt[k.toNat] rep∈nS _ rep ends ch:=acy.mpr ⟨_,M,by rw[ad3 J];exact acF.mpr rfl⟩
 grind
section
variable {P:dn}{w:fx}{K:b0}{mg:gp}{base:Heap}{t:jC}
abbrev km:Df:=⟨"set_ends",39,["strips","repeat","start"],fun K t=>fz 3 (AC (ag (cZ K t)) (AC af (AC af A0))) (fun x=>x.1.length<=6/\0 < x.2.1) (ag af) (fun x=>du x.1 x.2.1 x.2.2.1)⟩
def kj:dP ["strips","repeat","start","ends","chosen","found","number","strip"] km:=by walk_at"s"
def Jt (F:bh K km f fd)(T:Txt K mg t)(lK:aL P w K mg base t 1 l6)(fT:aL P w K mg base t 1 ja):dO P w K mg base t 2 f fd km:=by
 refine Jj F kj fun H hr=>⟨_,(aa (dC 3 kj.nd (az (aG bP))) (aa (ek adF rfl (uR rfl T.ig (aY ai (bc Gf ai (nD T aN)))) (iZ 4 kj.nd) (aa (dC 5 kj.nd (az eU)) (aa (ek adF rfl (piE K rfl T.hU (aG aN)) (Sr K (n:=2) rfl (cF (iZ 6 kj.nd) (cF (iZ 7 kj.nd) kX))) (ae (a_ (de (bJ lK hr (aY lO Pz))) (ae (bS (lP K adH adK gM uQ (aG (bJ fT hr (cD (cW (dZ K) dJ (bc qt lO (bc Gf ai Pz))) VY bz)))))) aD))) (ae (bS (lP K adH adK gM dJ (aG (fD (OB K rfl) rfl T.CF Cv (aG uQ))))))))) (ae (aj dJ)))),fun G nt J rd eg dB aeg hs dz fQ uZ hp=> ?_⟩
 try dsimp only at hp
 try dsimp only[je,rd]
 obtain⟨p1,p2⟩:=hp;intro G0 H0 e0 D kD;refine FA e0.gh (R:=af) (xs:=[rd]) (aI (ab rfl uZ e0.gg) bu) sl1 fun p vs0 G1 H1 e1 r1 hp=> ?_
 have g1:G1 p=none:=e1.gh.free hp;have e01:Ext G0 H0 G1 (upd H1 p (.lst vs0)):=e1.trans (Ext.own e1.gh hp);have hp0:H0 p=none:=e1.hh.free hp;have h64:=oH p1
 show qe _ _ _ _ _ _
 refine jY (R:=af) (Rz:=af) (wY nt J)
  (fun M=>∃t3 t4 U O,M=[some eg,some dB,some aeg,some (.ref p),t3,t4,U,O]) e01.gh g1 ah r1 (xi4 _ _ _ _ rfl) (uL (bX ao (Aq ao (dc (bp (ab rfl dz (e0.gg.trans e1.gg)))) ⟨by omega,by omega,by decide⟩)) ?_) ?_ ?_
 .have hb:=L9 p1;omega
 .rintro G2 i ch acc hz ha M G' H' A yZ zp;obtain⟨t3,t4,U,O,rfl⟩:=A.sh;obtain⟨vs,k1,k2⟩:=A.at_;have hch:ch∈upTo 1 (2^nt.length - 1):=by
   have:=acB hz
   rw[AD] at this;exact this
  have hacc:(acc.length:Int)=ch:=by
   have hi:=(abZ.mp hz).1;rw[ha,uT,ach,((sY hz).2)];simp only[ab8,acb];omega
  have hlen:=ip hch;have sG:aE G G':=(e0.gg.trans e1.gg).trans A.ex.gg;refine wj fun q hq=> ?_
  have Z:p≠q:=aS k1 hq;have gq:G' q=none:=A.ex.gh.free hq;have smq:Sub G' (upd H' q (.lst [])):=A.ex.gh.trans (bB hq)
  show qe _ _ _ _ _ _
  refine jY (R:=af) (fun fo z=>fo++if gO ch z.1 then[aZ (acc.getD (ch - 1*2^z.1.toNat).toNat 0) z.2 J] else[])
   (fun M=>∃U O,M=[some eg,some dB,some aeg,some (.ref p),some yZ,some (.ref q),U,O]) smq gq ah .nil (xi2 _ _ rfl) (uM (bp (ab rfl dz sG))) ?_ ?_
  .rintro G3 j z fo Y hfo σ2 G4 H4 B x r4;obtain⟨U,O,rfl⟩:=B.sh;obtain⟨ws,b1,b2⟩:=B.at_;obtain⟨a4,u,w',rfl,hs4,hu,hw⟩:=r4;have hz0:0<=z.1:=by rw[(cy Y).1];omega
   have hz6:z.1<=6:=by
    have:=(abZ.mp Y).1
    rw[cN] at this;rw[(cy Y).1];omega
   have hfl:fo.length<=6:=by
    rw[hfo,cC];refine adb (ir (m:=1) _ fun y _=>by split<;>simp) ?_;rw[ach,cN];lia
   have s4:aE G' G4:=B.ex.gg;have hp4:H4 p=some (.lst vs):=B.ex.hh p (.lst vs) Z (by rw[ax Z];exact k1);have gp4:G4 p=none:=B.ex.fr p (by rw[ax Z,k1];simp) A.gn;refine mi (aE.tup B.ex.gh.at_ hs4) _ ?_;refine u7 B.ex.gh (d:=gO ch z.1) (bZ (ak (bX (ab rfl zp s4) (aR hu)) hz0)) (fun h G5 H5 L=> ?_) (fun h G5 H5 L=> ?_)
   .have B5:=B.kJ L (σ5:=[some eg,some dB,some aeg,some (.ref p),some yZ,some (.ref q),some u,some w']) (xi2 _ _ rfl);obtain⟨ws5,b3,b4⟩:=B5.at_;have gp5:=L.keeps hp4 gp4;have up:=bB (o:=.lst vs) gp5;have hle:=Qe (by lia) h;refine kF (R:=af) (x:=aZ (acc.getD (ch - 1*2^z.1.toNat).toNat 0) z.2 J) rfl b3 ?_ L.gh ?_ ?_
    .rw[aw b4];exact adf hfl (by decide)
    .refine zD (L.hh _ _ hp4) gp5 ?_;have hends:ag af (upd G5 p (.lst vs)) (.ref p) acc:=⟨p,vs,rfl,ah,aq ((s4.trans L.gg).trans up) k2⟩
     have hpos:(0:Int) < 2^z.1.toNat:=Int.pow_pos (by decide);refine ak (x:=(acc.getD (ch - 1*2^z.1.toNat).toNat 0,z.2,J,())) (fY (aJ (ab (i:=3) (v:=.ref p) rfl hends sr) (tH (ab (i:=4) (v:=yZ) rfl zp (s4.trans (L.gg.trans up))) (Aq ao (ab (i:=6) (v:=u) rfl hu (L.gg.trans up)) ⟨hz0,by lia,by decide⟩)) (by lia) ?_) (ab (i:=7) (v:=w') rfl hw (L.gg.trans up)) (ab (i:=1) (v:=dB) rfl fQ ((sG.trans s4).trans (L.gg.trans up)))) p2;rw[abU,abX (by rw[abo] at*;lia)];rfl
    .intro v G6 H6 e6 r6;refine⟨G6, ?_⟩;rw[ad3 h];exact B5.grow e6 (xi2 _ _ rfl) (Paired.snoc (aq e6.gg b4) r6)
   .refine⟨G5, ?_⟩;rw[ad2 (by rw[h];decide),abA];exact B.kJ L ⟨_,_,rfl⟩
  .rintro G3 σ2 G4 H4 B;obtain⟨U,O,rfl⟩:=B.sh;obtain⟨ws,b1,b2⟩:=B.at_;rw[cC] at b2;have e4:Ext G' H' G4 H4:=B.ex.ext (Ext.own A.ex.gh hq) hq;have A4:=A.kJ e4 (σ5:=[some eg,some dB,some aeg,some (.ref p),some yZ,some (.ref q),U,O]) (xi4 _ _ _ _ rfl);obtain⟨vs4,k3,k4⟩:=A4.at_;dsimp only;refine kF (R:=af) (x:=oZ (nS nt J acc ch)) rfl k3 ?_ e4.gh ?_ ?_
   .rw[aw k4];exact adf (show _<=100 by omega) (by decide)
   .refine zD b1 B.gn (F0 (bp (ab (i:=5) (v:=.ref q) rfl (show ag af (upd G4 q (.lst ws)) (.ref q) (nS nt J acc ch) from⟨q,ws,rfl,ah,aq (bB B.gn) b2⟩) sr)) (gP (J9 (rep:=J) (ends:=acc) p1 hch)))
   .intro v G6 H6 e6 r6;exact⟨G6,A4.grow e6 (xi4 _ _ _ _ rfl) (Paired.snoc (aq e6.gg k4) r6)⟩
 .rintro G2 M G' H' A;obtain⟨t3,t4,U,O,rfl⟩:=A.sh;obtain⟨G5,L,r5⟩:=A.done e01 hp0;exact⟨_,rfl,kD _ G5 H' L r5⟩
def jl {rep rd:Int}:(du nt rep rd).length=2^nt.length:=by
 delta du;rw[uT,cg]
 grind
def yA {rep rd:Int}:du nt rep rd≠[]:=by
 have:=jl (nt:=nt) (rep:=rep) (rd:=rd)
 grind
abbrev jv:Df:=⟨"least_end",40,["strips","repeat","start"],fun K t=>fz 3 (AC (ag (cZ K t)) (AC af (AC af A0))) (fun x=>x.1.length<=6/\0 < x.2.1) af (fun x=>cU x.1 x.2.1 x.2.2.1)⟩
def FQ:dP ["strips","repeat","start"] jv:=by walk_at"s"
def Gy (F:bh K jv f fd)(T:Txt K mg t)(L:aL P w K mg base t 2 km):dO P w K mg base t 3 f fd jv:=by
 exact Jj F FQ fun H M=>⟨_,(ae (aj (cW (dZ K) (bJ L M (cD aN bz bP)) (wQ rB ai)))),fun G nt J rd _ _ aeg Y _ _ U O=>(RS.eq (aB (L4 (ak (by walk_at"re") O) (xQ ao) (yt yA))) rfl)⟩
abbrev fu:Df:=⟨"least_need",41,["strips","repeat"],fun K t=>fz 2 (AC (ag (cZ K t)) (AC af A0)) (fun x=>x.1.length<=6/\0 < x.2.1) af (fun x=>aM x.1 x.2.1)⟩
def Dg:dP ["strips","repeat"] fu:=by walk_at"s"
def DH (F:bh K fu f fd)(T:Txt K mg t)(J:aL P w K mg base t 3 jv):dO P w K mg base t 4 f fd fu:=by
 exact mT F Dg fun H L=>⟨_,(ae (aj (bJ J L (cD aN bz ai)))),fun G _ _ _ _ O _ _ M=>(RS.eq (aB (ak (fY (by walk_at"re") (by walk_at"re") ao) M)) rfl)⟩
abbrev jw:Df:=⟨"goes_into",29,["part","whole"],fun _ _=>fz 2 (AC af (AC af A0)) (fun x=>0<=x.1) dQ (fun x=>eA x.1 x.2.1)⟩
def FT:dP ["part","whole"] jw:=by walk_at"s"
def GA (F:bh K jw f fd)(T:Txt K mg t):dO P w K mg base t 1 f fd jw:=by
 refine mT F FT fun H L=>⟨_,(ae (aj (AI (QV Jo aN ai) (Gb (QV mV (bc xU bz aN) ai))))),fun G _ _ _ _ J _ _ M=> ?_⟩
 refine RS.eq (aB (Au (by walk_at"re") fun hc=>lV (vE (by walk_at"re") (by walk_at"re") ?_) ao)) rfl
 lia
abbrev jM:Df:=⟨"order_need",38,["strips","repeat"],fun K t=>fz 2 (AC (ag (cZ K t)) (AC af A0)) (fun x=>0 < x.2.1) af (fun x=>eX x.1 x.2.1)⟩
def mn:dP ["strips","repeat","end","strip"] jM:=by walk_at"s"
def DE (F:bh K jM f fd)(T:Txt K mg t)(fT:aL P w K mg base t 1 ja):dO P w K mg base t 2 f fd jM:=by
 refine mT F mn fun H hr=>⟨_,(aa (dC 2 mn.nd ai) (aa (ek adF rfl (rP K aN) (iZ 3 mn.nd) (ae (dC 2 mn.nd (bJ fT hr (cD bP dJ bz))))) (ae (aj bP)))),fun G nt J eg dB hs dz fQ hp=> ?_⟩
 intro G0 H0 e0 D kD;refine cB e0.gh ao fun Rg G1 H1 e1 Tq=> ?_
 refine jK (fun e s=>aZ e s J) 0 (fun M _ st L G' H'=>∃v O,L=[some eg,some dB,some v,O]/\af G' v st/\Ext G0 H0 G' H'/\aE M G') e1.gh (bD (by walk_at"re")) ?_ ?_ ?_ ?_
 .intro M H2 U;exact⟨Rg,none,rfl,aK.mono U.gg Tq,e1.trans U,aE.refl _⟩
 .rintro M H2 st L G' H' ⟨v,O,rfl,Y,ex,sm⟩;exact⟨sm,ex.gh⟩
 .rintro M H2 U i s st hz hst L G' H' ⟨v,O,rfl,Y,ex,sm⟩ vB G3 H3 Z iY;exact qd Z.gh (ak (by walk_at"re") hp) fun v8 G8 H8 e8 h8=>xi3 G8 v8 _ ⟨rfl,h8,(ex.trans Z).trans e8,sm.trans (Z.gg.trans e8.gg)⟩
 .rintro M H2 U L G' H' ⟨v,O,rfl,Y,ex,sm⟩;exact⟨_,rfl,kD _ G' H' ex Y⟩
abbrev iC:Df:=⟨"strip_rows",64,["strips"],fun K t=>fz 1 (AC (ag (cZ K t)) A0) (fun x=>x.1.length<=1000) (ag af) (fun x=>((x.1.length:Int)::x.1.flatMap fun s=>[s.1,s.2.1]))⟩
def qk:dP ["strips","told","strip"] iC:=by walk_at"s"
def Dy (F:bh K iC f fd)(T:Txt K mg t):dO P w K mg base t 1 f fd iC:=by
 refine QU F qk fun H hr=>⟨_,(aa (dC 1 qk.nd (az (aG (nD T aN)))) (aa (ek adF rfl (rP K aN) (iZ 2 qk.nd) (ae (bS (lP K adI adL fP bz (aG (az (aY (aF K bP) (aF K bP)))))))) (ae (aj bz)))),fun G nt eg hs dz hp=> ?_⟩
 try dsimp only at hp
 intro G0 H0 e0 D kD;refine FA e0.gh (aI (by walk_at"re") bu) sl1 fun p O G1 H1 L r1 Y=> ?_
 have g1:G1 p=none:=L.gh.free Y;have M:Ext G0 H0 G1 (upd H1 p (.lst O)):=L.trans (Ext.own L.gh Y);have Z:H0 p=none:=L.hh.free Y;refine jY (fun acc s=>acc++[s.1,s.2.1]) (fun J=>∃U,J=[some eg,some (.ref p),U]) M.gh g1 ah r1 ⟨_,rfl⟩ (bD (ab rfl dz (e0.gg.trans L.gg))) ?_ ?_
 .rintro G2 i s acc hz ha J G' H' A vB iY;obtain⟨U,rfl⟩:=A.sh;obtain⟨vs,k1,k2⟩:=A.at_;refine mP rfl k1 ?_ A.ex.gh (bG (aI (nA T (aR iY)) (aI (tJ T (aR iY)) bu)) sl2) fun us G6 H6 e6 r6=> ?_
  .rw[aw k2,ha,cC];have h2:=ir (m:=2) (f:=fun s:bH=>[s.1,s.2.1]) (nt.take i) fun z _=>ac_ _
   rw[ach] at h2;rw[ab7];simp only[ab8,acb];exact adb (show _<=3000 by lia) (by decide)
  .exact⟨G6,A.grow e6 ⟨_,rfl⟩ (dR (aq e6.gg k2) r6)⟩
 .rintro G2 J G' H' A;obtain⟨U,rfl⟩:=A.sh;obtain⟨G5,e5,r5⟩:=A.done M Z;rw[cC] at r5;exact⟨_,rfl,kD _ G5 H' e5 r5⟩
end
end Cw
namespace Cw
open PySem PySem.Spec PyProof.Rows L2 My
def p_ (rooms:List cu)(wide drop rep:Int)(o:Option (Int×Int))(ch:Int):Option (Int×Int):=match bg (bM rooms ch) wide drop rep with
 |none=>o
 |some l=>match o with
  |none=>some (aM l rep,ch)
  |some b=>if decide (aM l rep < b.1) then some (aM l rep,ch) else some b
def eB (rooms:List cu)(wide drop rep:Int):Option (Int×Int):=(upTo 0 ((1:Int)*2^((rooms.length:Int)).toNat).toNat).foldl (p_ rooms wide drop rep) none
def Pa (h:∀r∈rooms,dM r)(ch:Int):∀r∈bM rooms ch,dM r:=by
 intro r M;obtain⟨z,L,e⟩:=acA.mp M;obtain⟨k,O⟩:=acz.mp L;have J:=h z.2 (acB (cy O).2);split at e
 .rw[<- e];exact⟨J.al,J.ac,J.ns,J.nd⟩
 .grind
def LF (rooms:List cu)(ch:Int):(bM rooms ch).length=rooms.length:=by
 unfold bM;rw[aca,cN]
def lM (h:bg rooms wide drop rep=some l):l.length<=6:=by
 delta bg at h
 grind
section
variable {P:dn}{w:fx}{K:b0}{mg:gp}{base:Heap}{t:jC}
abbrev iy:Df:=⟨"best_turning",65,["rooms","carpet"],fun K t=>fz 2 (AC (ag (eF K t)) (AC (aU K t) A0)) (fun x=>x.1.length<=3/\(∀r∈x.1,dM r)/\uE x.2.1) (jA (gE K af af)) (fun x=>eB x.1 x.2.1.2.2.2.1 x.2.1.2.2.1 x.2.1.2.1)⟩
def fO:dP ["rooms","carpet","best","chosen","strips","need"] iy:=by walk_at"s"
def zg (F:bh K iy f fd)(T:Txt K mg t)(c8:aL P w K mg base t 4 fu)(aT:aL P w K mg base t 7 cp)(gY:aL P w K mg base t 4 fR):dO P w K mg base t 8 f fd iy:=by
 refine mT F fO fun H hr=>⟨_,(aa (dC 2 fO.nd ke) (aa (ek adF rfl (oq rfl T.ig (aG (bc Gf ai (nD T aN)))) (iZ 3 fO.nd) (aa (dC 4 fO.nd (bJ aT hr (aY (bJ gY hr (aY aN dJ)) bz))) (ae (a_ (ej (N0 lO)) (aa (dC 5 fO.nd (bJ c8 hr (aY lO (aF K bz)))) (ae (a_ (PW.pt (tO (ej (gv bP)) (qr (ka AM uQ (cW (BL K) bP ai))))) (ae (dC 2 fO.nd (oJ (aY uQ dJ)))) aD))) aD)))) (ae (aj bP)))),fun G rooms J mh gJ hs xi oU hp=> ?_⟩
 try dsimp only at hp
 try dsimp only[je,rd]
 obtain⟨p1,p2,p3⟩:=hp;have c1:=p3.rep;generalize hwd:J.2.2.2.1=wide;generalize hdr:J.2.2.1=drop;generalize hrp:J.2.1=rep at c1;intro G0 H0 e0 D kD;refine cB e0.gh (R:=jA (gE K af af)) (x:=none) jW fun LA G1 H1 e1 MI=> ?_
 show qe _ _ _ _ _ _
 refine jK (p_ rooms wide drop rep) none (fun G2 _ st M G' H'=>∃v t3 t4 t5,M=[some mh,some gJ,some v,t3,t4,t5]/\jA (gE K af af) G' v st/\Ext G0 H0 G' H'/\aE G2 G')
  (zs:=upTo 0 ((1:Int)*2^((rooms.length:Int)).toNat).toNat) (Rz:=af) e1.gh (oo (bp (Aq ao (dc (bp (ab rfl xi (e0.gg.trans e1.gg)))) ⟨by omega,by omega,by decide⟩)) ?_ ?_) ?_ ?_ ?_ ?_
 .have:=L9 (n:=rooms.length) (by omega);omega
 .have:=L9 (n:=rooms.length) (by omega);omega
 .intro G2 H2 e2;exact xi4 LA none none none ⟨rfl,aK.mono e2.gg MI,e1.trans e2,aE.refl _⟩
 .rintro G2 H2 st M G' H' ⟨v,t3,t4,t5,rfl,hv,ex,sm⟩;exact⟨sm,ex.gh⟩
 .rintro G2 H2 e2 i ch st hz hst M G' H' ⟨v,t3,t4,t5,rfl,hv,ex,sm⟩ yZ G3 H3 e3 zp;have ex3:=ex.trans e3;have s3:aE G G3:=e0.gg.trans ex3.gg;have hv3:=aK.mono e3.gg hv;have hcar:aU K t G3 gJ J:=aK.mono s3 oU;refine cB e3.gh (R:=jA (ag (cZ K t))) (x:=bg (bM rooms ch) wide drop rep) ?_ fun vB G4 H4 e4 iY=> ?_
  .refine RE.eq (ak (bX (ak (bX (ab rfl xi s3) (aR zp)) p1) (aR hcar)) ⟨by show(bM rooms ch).length<=3;rw[LF];exact p1,Pa p2 ch,p3⟩) ?_
   show bg (bM rooms ch) J.2.2.2.1 J.2.2.1 J.2.1=_
   rw[hwd,hdr,hrp]
  cases hs:bg (bM rooms ch) wide drop rep with
  |none=>
   rw[hs] at iY;refine u7 e4.gh (d:=false) (RT.eq (bZ (wH (aR iY))) rfl) (fun h=>by contradiction) (fun _ G5 H5 U=> ?_);refine xi5 G5 v _ _ _ ⟨rfl, ?_,(ex3.trans e4).trans U,sm.trans (e3.gg.trans (e4.gg.trans U.gg))⟩;rw[show p_ rooms wide drop rep st ch=st by delta p_;rw[hs]];exact aK.mono (e4.gg.trans U.gg) hv3
  |some l=>
   rw[hs] at iY;have Ic:ag (cZ K t) G4 vB l:=iY.2;refine u7 e4.gh (d:=true) (RT.eq (bZ (wH (aR iY))) rfl) (fun _ G5 H5 U=> ?_) (fun h=>by contradiction);refine cB U.gh (R:=af) (ak (bX (ab rfl Ic U.gg) (RE.eq (bK T (ab rfl hcar (e4.gg.trans U.gg))) hrp)) ⟨lM hs,by show 0 < rep;lia⟩) fun O1 G6 H6 e6 wd=> ?_
   have ex6:=((ex3.trans e4).trans U).trans e6;have s36:aE G3 G6:=e4.gg.trans (U.gg.trans e6.gg);have sm6:=sm.trans (e3.gg.trans s36);have O:=aK.mono s36 hv3;have Z:∀Y H7,Ext G6 H6 Y H7->RE (LK (bO (cc 5) (bO (cc 3) fV))) [some mh,some gJ,some v,some yZ,some vB,some O1] Y H7 (gE K af af) (aM l rep,ch):=fun Y H7 L=>
    FZ (bX (ab rfl wd L.gg) (ab rfl zp (s36.trans L.gg)))
   cases st with
   |none=>
    refine u7 e6.gh (d:=true) (RT.eq (oE (d:=false) (bZ (bL (aR O))) fun h=>by contradiction) rfl) (fun _ Y H7 L=> ?_) (fun h=>by contradiction);refine qd L.gh (Z Y H7 L) fun v8 G8 H8 e8 h8=> ?_
    refine xi5 G8 v8 _ _ _ ⟨rfl, ?_,ex6.trans (L.trans e8),sm6.trans (L.gg.trans e8.gg)⟩;rw[show p_ rooms wide drop rep none ch=some (aM l rep,ch) by delta p_;rw[hs]];exact⟨NN.nn h8,h8⟩
   |some b=>
    have hb:=O.2;refine u7 e6.gh (d:=decide (aM l rep < b.1)) (RT.eq (oE (bZ (bL (aR O))) fun h=>dj (sJ (aR wd) (Zs (aR hb)))) rfl) (fun h Y H7 L=> ?_) (fun h Y H7 L=> ?_)
    .refine qd L.gh (Z Y H7 L) fun v8 G8 H8 e8 h8=> ?_
     refine xi5 G8 v8 _ _ _ ⟨rfl, ?_,ex6.trans (L.trans e8),sm6.trans (L.gg.trans e8.gg)⟩;rw[show p_ rooms wide drop rep (some b) ch=some (aM l rep,ch) by delta p_;rw[hs];simp only;rw[ad3 h]];exact⟨NN.nn h8,h8⟩
    .refine xi5 Y v _ _ _ ⟨rfl, ?_,ex6.trans L,sm6.trans L.gg⟩;rw[show p_ rooms wide drop rep (some b) ch=some b by delta p_;rw[hs];simp only;rw[ad2 (by rw[h];decide)]];exact aK.mono L.gg O
 .rintro G2 H2 e2 M G' H' ⟨v,t3,t4,t5,rfl,hv,ex,sm⟩;exact⟨_,rfl,kD _ G' H' ex hv⟩
end
end Cw
namespace Cw
open My
def xp (n:Nat):∀m,n<=m->(List.range m).filter (fun k=>decide (k < n))=List.range n
 |0,h=>by
  simp_all
 |m+1,h=>by
  rw[acU,List.filter_append]
  by_cases e:n=m+1
  .subst e;rw[abL.mpr (fun k J=>adZ (by grind))];rw[abK,ad3 (by simp),List.filter_nil,<- acU]
  .rw[xp n m (by lia),abK,ad2 (by lia),List.filter_nil,abA]
def RH (hw:1<=w)(J:o < x):o+k*w < x↔k < (x - o - 1) / w+1:=by
 rw[Nat.lt_succ_iff,Nat.le_div_iff_mul_le (by lia)];omega
def Pn {o w x:Nat}(hw:1<=w):tD o x w=if o < x then(x - o - 1) / w+1 else 0:=by
 delta tD PySem.Builtin.Range.rangeSize
 grind
def rF (hw:1<=w)(J:1<=o):(Kh352.seams w x o).map Int.ofNat=kI (o:Int) (w:Int) (tD o x w):=by
 delta Kh352.seams kI;rw[abM];have key:(List.range (x / w+1)).filter ((fun p=>decide (p < x)) ∘ fun k=>o+k*w)=List.range (tD o x w):=by
  rw[Pn hw]
  by_cases h:o < x
  .rw[ad3 h];rw[<- xp ((x - o - 1) / w+1) (x / w+1) (by
    have:=Nat.div_le_div_right (c:=w) (show x - o - 1<=x by grind)
    lia)]
   refine abJ fun k _=> ?_
   exact decide_eq_decide.mpr (RH hw h)
  .rw[ad2 h];refine List.filter_eq_nil_iff.mpr fun k _=> ?_
   lia
 simp[*]
def Nc {o w x:Nat}(hw:1<=w)(J:1<=o)(r:cu)(h1:r.1=(x:Int))(h2:r.2.2.1=d.map fun e=>((e.1:Int),(e.2:Int))):iV r (o:Int) (w:Int)=Kh352.clear d w x o:=by
 delta iV eG Kh352.clear;rw[h1,h2,<- rF hw J,abw];refine adW _ (funext fun p=> ?_)
 show(List.map _ d).all _=_
 rw[abw];refine adW _ (funext fun e=> ?_)
 show(!(decide _&&decide _))=_
 grind
def o6 {o w x:Nat}(hw:1<=w)(J:1<=o)(r:cu)(h1:r.1=(x:Int)):((eG r (o:Int) (w:Int)).length:Int)+1=((Kh352.strips w x o:Nat):Int):=by
 delta eG Kh352.strips;rw[h1,<- rF hw J,aca];rfl
def LB (w:Nat):upTo 1 ((w:Int)+1 - 1).toNat=((List.range (w+1)).filter fun o=>decide (1<=o)).map Int.ofNat:=by
 have e:((w:Int)+1 - 1).toNat=w:=by lia
 rw[e];have f:(List.range (w+1)).filter (fun o=>decide (1<=o))=(List.range w).map (· +1):=by
  rw[acV,abK,ad2 (by decide),abL.mpr]
  simp
 rw[f,aco];refine acm fun k _=> ?_
 lia
def pJ {w x:Nat}(hw:1<=w)(r:cu)(h1:r.1=(x:Int))(h2:r.2.2.1=d.map fun e=>((e.1:Int),(e.2:Int))):eS r (w:Int)=(firsts d w x).map Int.ofNat:=by
 delta eS firsts;rw[LB,abM,List.filter_filter]
 congr 1
 refine abJ fun o J=> ?_
 by_cases h:1<=o
 .show (iV r o w&&decide _)=_
  rw[Nc hw h r h1 h2,Bool.and_comm]
 .grind
def RG (h:p∈Kh352.seams w x o):p < x/\o<=p:=by
 obtain _:=acx.mp h
 grind
def LO (h:Kh352.seams w x o=[]):x<=o:=by
 apply Nat.le_of_not_lt;intro J;have:o∈Kh352.seams w x o:=acx.mpr ⟨acA.mpr ⟨0,acE.mpr (Nat.succ_pos _),by simp⟩,adZ J⟩
 grind
def tT {o w x:Nat}(hw:1<=w)(L:1<=o)(r:cu)(h1:r.1=(x:Int)):k_ r (o:Int) (w:Int)=((narrow w x o:Nat):Int):=by
 have es:eG r o w=(Kh352.seams w x o).map Int.ofNat:=by
  delta eG;rw[h1,<- rF hw L]
 delta k_ narrow Kh352.last;cases J:Kh352.seams w x o with
 |nil=>
  have:=LO J
  simp[*]
 |_ a l=>
  have M:(a::l).getLastD 0∈Kh352.seams w x o:=by
   grind
  have:=RG M
  grind
def S3 {k o w x:Nat}(hw:1<=w)(L:1<=k)(J:1<=o)(M:k < o)(r:cu)(h1:r.1=(x:Int)):keyLt r (w:Int) (k:Int) (o:Int)=decide (Kh352.strips w x o < Kh352.strips w x k\/(Kh352.strips w x o=Kh352.strips w x k/\narrow w x k<=narrow w x o)):=by
 delta keyLt;have U:gN r k w=_:=o6 hw L r h1;have O:gN r o w=_:=o6 hw J r h1;rw[U,O,tT hw L r h1,tT hw J r h1];simp only[HT.BA,HT.vq]
 lia
def OF {w x:Nat}(hw:1<=w)(r:cu)(h1:r.1=(x:Int)):∀(l:ko) (b:Option Nat),l.Pairwise (· < ·)->(∀o∈l,1<=o)->(∀k,b=some k->1<=k/\ ∀o∈l,k < o)->
  (l.map Int.ofNat).foldl (Cz r (w:Int)) (b.map Int.ofNat)=(l.foldl (fun b o=>match b with
  |none=>some o
  |some k=>if Kh352.strips w x o < Kh352.strips w x k\/(Kh352.strips w x o=Kh352.strips w x k/\narrow w x k<=narrow w x o) then some o else some k) b).map Int.ofNat
 |[],b,_,_,_=>rfl
 |o::l,b,hs,h2,h3=>by
  obtain⟨J,L⟩:=acO.mp hs;have M:=h2 o (acw ..);rw[acn,abS,abS];have O:=fun b'=>OF hw r h1 l b' L (fun y hy=>h2 y (acv _ hy))
  cases b with
  |none=>exact O (some o) fun k hk=>by cases hk;exact⟨M,J⟩
  |_ k=>
   obtain⟨Z,Y⟩:=h3 k rfl;have e:Cz r w (Option.map Int.ofNat (some k)) (Int.ofNat o)=(if Kh352.strips w x o < Kh352.strips w x k\/(Kh352.strips w x o=Kh352.strips w x k/\narrow w x k<=narrow w x o) then some o else some k).map Int.ofNat:=by
    show(if keyLt r w k o then some _ else some _)=_
    rw[S3 hw Z M (Y o (acw ..)) r h1]
    grind
   rw[e];refine O _ fun j U=> ?_
   split at U
   .cases U;exact⟨M,J⟩
   .simp_all
def vQ (h:o∈firsts d w x):1<=o:=by
 have:=(acx.mp h).2
 lia
def nJ {w x:Nat}(hw:1<=w)(r:cu)(h1:r.1=(x:Int))(h2:r.2.2.1=d.map fun e=>((e.1:Int),(e.2:Int))):cz r (w:Int)=(Kh352.best d w x).map Int.ofNat:=by
 delta cz Kh352.best;rw[pJ hw r h1 h2];exact OF hw r h1 _ none (abr _ acP) (fun o J=>vQ J) fun k L=>by cases L
def K1 (hw:1<=w)(h:Kh352.best d w x=some k):k∈firsts d w x:=by
 have J:=nJ hw (x,0,d.map fun e=>_,[],()) rfl rfl;rw[h] at J;have L:=OG J;rw[pJ hw _ rfl rfl] at L
 grind
def Nb {w x:Nat}(hw:1<=w)(r:cu)(h1:r.1=(x:Int))(h2:r.2.2.1=d.map fun e=>((e.1:Int),(e.2:Int))):cn r (w:Int)=((Kh352.best d w x).map (Kh352.strips w x)).map Int.ofNat:=by
 delta cn;rw[nJ hw r h1 h2];cases J:Kh352.best d w x with
 |none=>rfl
 |_ k=>exact adW _ (o6 hw (vQ (K1 hw J)) r h1)
end Cw
namespace Cw
open My L2
def vO (c k:Nat):gO (c:Int) (k:Int)=c.testBit k:=by
 delta gO;rw[PyProof.Rows.bitAnd_m1,abp,Nat.testBit_eq_decide_div_mod_eq]
 lia
def Vx (h:c.testBit k=true):c - 2^k=c^^^2^k:=by
 have h1:c&&&2^k=2^k:=by
  refine ac5 fun i=> ?_
  grind
 have h2:=Bits.zh c (2^k);omega
def tq (h:c.testBit k=true)(x:Nat):(c - 2^k).testBit x=(c.testBit x&& !decide (x=k)):=by
 rw[Vx h,Nat.testBit_xor,Nat.testBit_two_pow]
 lia
def bit_le (h:c.testBit k=true):2^k<=c:=Nat.ge_two_pow_of_testBit h
abbrev eV:bH:=(0,0,())
def EnL (rep:Int)(s:List bH):Int->ko->Int
 |p,[]=>p
 |p,i::o=>EnL rep s (aZ p (s.getD i eV) rep) o
def NC (rep:Int)(s:List bH)(k:Nat):∀(o:ko) (p:Int),EnL rep s p (o++[k])=aZ (EnL rep s p o) (s.getD k eV) rep
 |[],p=>rfl
 |i::o,p=>NC rep s k o _
def KH (L:0 < rep)(s:bH)(h:p<=q):aZ p s rep<=aZ q s rep:=by
 delta aZ;have a1:=abb (s.2.1 - p) L;have Y:=abc (s.2.1 - q) (show rep≠0 by lia);have ea:=Int.emod_add_mul_ediv (s.2.1 - p) rep;have U:=Int.emod_add_mul_ediv (s.2.1 - q) rep;generalize _ / rep=k at*;generalize _ / rep=j at*;apply Int.not_lt.mp;intro M;have J:rep*k < rep*j:=by lia
 have O:=Int.lt_of_mul_lt_mul_left J (by omega);have h2:rep*(k+1)<=rep*j:=Int.mul_le_mul_of_nonneg_left (by lia) (by omega)
 lia
structure Ord (n ch:Nat)(o:ko):Prop where
 nd:o.Nodup
 mem:∀x,x∈o↔(x < n/\ch.testBit x=true)
def Ord.snoc (M:k < n)(J:ch.testBit k=true)(h:Ord n (ch - 2^k) o):Ord n ch (o++[k]):=by
 have L:k∉o:=fun m=>by
  have:=((h.mem k).mp m).2
  rw[tq J] at this;simp at this
 refine⟨?_,fun x=> ?_⟩
 .rw[List.nodup_append];refine⟨h.nd,by simp,fun a O b J e=> ?_⟩
  simp_all
 .rw[acq,h.mem x,tq J,acF]
  grind
def Ord.pre (h:Ord n ch (o++[k])):k < n/\ch.testBit k=true/\Ord n (ch - 2^k) o:=by
 have J:=(h.mem k).mp (acs _ (acF.mpr rfl));have nd:=h.nd;rw[List.nodup_append] at nd;refine⟨J.1,J.2,nd.1,fun x=> ?_⟩;rw[tq J.2];have L:=h.mem x
 grind
def yV (rep:Int)(s:List bH)(p:Int)(ch:Nat)(e:Int):Prop:=(∀o,Ord s.length ch o->e<=EnL rep s p o)/\ ∃o,Ord s.length ch o/\e=EnL rep s p o
def Mw (rep:Int)(s:List bH)(p:Int):yV rep s p 0 p:=by
 refine⟨fun o J=> ?_,[],⟨by simp,fun x=>by simp⟩,rfl⟩;cases o with
 |nil=>exact abg _
 |_ x o=>
  have:=(J.mem x).mp (acw ..)
  simp at this
def yh {ch:Nat}:y∈nS s rep ends (ch:Int)↔ ∃k,k < s.length/\ch.testBit k=true/\y=aZ (ends.getD (ch - 2^k) 0) (s.getD k eV) rep:=by
 delta nS;rw[acy];have cast:∀k,ch.testBit k=true->((ch:Int) - 1*2^((k:Int)).toNat).toNat=ch - 2^k:=fun k J=>by
  grind
 constructor
 .rintro⟨z,O,M⟩;obtain⟨k,L⟩:=acz.mp O;obtain⟨h1,h2⟩:=cy L;rw[h1,vO] at M;split at M
  .next J=>
   refine⟨k,(abZ.mp h2).1,J, ?_⟩
   simp_all
  .cases M
 .rintro⟨k,L,J,rfl⟩;refine⟨_,acA.mpr ⟨(s[k],k),acG.mpr (by simp),rfl⟩, ?_⟩;rw[vO,ad3 J,cast k J,acF,abU (l:=s),abX L];rfl
def Mx (hr:0 < rep)(h0:0 < ch)(hlt:ch < 2^s.length)(hl:ch<=ends.length)(ih:∀c,c < ch->yV rep s p c (ends.getD c 0)):yV rep s p ch (oZ (nS s rep ends (ch:Int))):=by
 have J:∀k,ch.testBit k=true->ch - 2^k < ch:=fun k hb=>by
  grind
 obtain⟨U,M⟩:=Nat.exists_testBit_of_ne_zero (show ch≠0 by lia);have L:U < s.length:=by
  apply Nat.lt_of_not_le;intro hge;have:=bit_le M
  have:=ads (show 0 < 2 by decide) hge
  lia
 have Z:nS s rep ends ch≠[]:=by
  have:=yh (rep:=rep) (ends:=ends).mpr ⟨U,L,M,rfl⟩
  grind
 obtain⟨m1,m2⟩:=gP Z;refine⟨fun o O=> ?_, ?_⟩
 .have Y:o≠[]:=by
   have:=(O.mem U).mpr ⟨L,M⟩
   grind
  obtain⟨o',k,rfl⟩:∃o' k,o=o'++[k]:=⟨_,_,(abD Y).symm⟩
  obtain⟨a,b,c⟩:=O.pre;rw[NC];refine abh (m2 _ (yh.mpr ⟨k,a,b,rfl⟩)) (KH hr _ ((ih _ (J k b)).1 o' c))
 .obtain⟨k,a,b,e⟩:=yh.mp m1;obtain⟨o,O,eo⟩:=(ih _ (J k b)).2;exact⟨o++[k],O.snoc a b,by rw[NC,e,eo]⟩
def Oo (J:0 < rep):∀i,i<=2^s.length - 1->((upTo 1 i).foldl (wY s rep) [p]).length=i+1/\ ∀c,c<=i->yV rep s p c (((upTo 1 i).foldl (wY s rep) [p]).getD c 0)
 |0,_=>⟨rfl,fun c hc=>by
  have:c=0:=by lia
  subst this;exact Mw rep s p⟩
 |i+1,h=>by
  obtain⟨h1,h2⟩:=Oo (s:=s) J i (by lia);have e:upTo 1 (i+1)=upTo 1 i++[((i+1:Nat):Int)]:=by
   delta upTo;rw[acU,ack]
   grind
  rw[e,abR];generalize (upTo 1 i).foldl _ [p]=acc at h1 h2
  show(acc++[oZ _]).length=_/\ ∀c,c<=i+1->yV rep s p c ((acc++[oZ _]).getD c 0)
  refine⟨by simp[*],fun c hc=> ?_⟩
  by_cases L:c<=i
  .grind
  .have M:c=i+1:=by lia
   subst M;rw[abU,abW (by lia),h1];simp only[adt,List.getElem?_cons_zero,Option.getD_some];exact Mx J (by lia) (by omega) (by lia) fun c hc=>h2 c (by lia)
def o8 (J:0 < rep)(hc:c < 2^s.length):yV rep s p c ((du s rep p).getD c 0):=by
 obtain⟨h1,h2⟩:=Oo J _ (ac_ _);delta du;rw[abp,AD];exact h2 c (by omega)
def tX (J:0 < rep):yV rep s p (2^s.length - 1) (cU s rep p):=by
 have L:0 < 2^s.length:=adx _;have:=o8 (s:=s) (p:=p) J (c:=2^s.length - 1) (by omega)
 have h1:=jl (nt:=s) (rep:=rep) (rd:=p);delta cU
 grind
def vN (J:0 < rep):yV rep s 0 (2^s.length - 1) (aM s rep):=tX J
end Cw
namespace Cw
open My L2
def fL (s:Kh351.Strip):bH:=((s.long:Int),(s.begins:Int),())
def J8 {r b p f:Nat}(J:0 < r)(h:p%r=f%r):((b:Int) - (p:Int))%(r:Int)=((gap r f (b%r):Nat):Int):=by
 delta gap;have h1:p%r < r:=Nat.mod_lt _ J;have e:(b - p)=(((b%r+r - p%r:Nat)):Int)+r*((b / r:Nat) - (p / r:Nat) - 1):=by
  have L:=Nat.mod_add_div b r;have ep:=Nat.mod_add_div p r
  lia
 simp[*]
def WL (J:0 < r)(h:p%r=f%r):(p+gap r f (b%r))%r=b%r:=by
 have h2:(((p+gap r f (b%r):Nat):Int)%r)=((b%r:Nat):Int):=by
  rw[Int.natCast_add,<- (J8 (b:=b) J h),Int.add_comm,Int.emod_add_emod]
  simp
 lia
def rW (l:List Kh351.Strip)(i:Nat):(l.map fL).getD i eV=fL (l.getD i ⟨0,0⟩):=by
 rw[abU,abU,ab0];cases l[i]?<;>rfl
def CP (J:0 < r)(l:List Kh351.Strip):∀(o:ko) (p f:Nat),p%r=f%r->EnL (r:Int) (l.map fL) (p:Int) o=((p+Kh351.need r f (o.map fun i=>l.getD i ⟨0,0⟩):Nat):Int)
 |[],p,f,_=>by rfl
 |i::o,p,f,h=>by
  show EnL r _ _ o=_
  rw[rW];generalize L:l.getD i _=s;have e:aZ p (fL s) r=((p+gap r f (s.begins%r)+s.long:Nat):Int):=by
   delta aZ fL;rw[J8 J h];rfl
  rw[e];have M:(p+gap r f (s.begins%r)+s.long)%r=((s.begins+s.long)%r)%r:=by
   rw[Nat.mod_mod,Nat.add_mod,WL J h,<- Nat.add_mod]
  rw[CP J l o _ _ M,acn,L]
  show _=((p+(gap r f _+_+Kh351.need r _ _):Nat):Int)
  lia
def wO {i:Nat}(h:l.Nodup)(hi:i∈l):(i::l.filter fun j=>j != i).Perm l:=by
 grind
def mU:∀(n:Nat) (l:ko),l.Nodup->l.length=n-> ∀o,o∈orders l n↔o.Perm l
 |0,l,_,U,o=>by
  unfold orders
  simp_all
 |n+1,l,hd,U,o=>by
  unfold orders;rw[acy];have J:∀i,i∈l->(l.filter fun j=>j != i).length=n:=fun i hi=>by
   have:=(wO hd hi).length_eq
   simp_all
  constructor
  .rintro⟨i,hi,O⟩;obtain⟨o',L,rfl⟩:=acA.mp O;have:=(mU n _ (hd.filter _) (J i hi) o').mp L
   grind
  .intro M;cases o with
   |nil=>
    simp_all
   |_ i o'=>
    have hi:=M.mem_iff.mp (acw ..);refine⟨i,hi,acA.mpr ⟨o',(mU n _ (hd.filter _) (J i hi) o').mpr ?_,rfl⟩⟩
    grind
def AF {a:Type}:∀(l:List (a×Nat)) (b:a×Nat),let r:=l.foldl (fun b x=>if x.2 < b.2 then x else b) b
  (r∈l\/r=b)/\(∀x∈l,r.2<=x.2)/\r.2<=b.2
 |[],b=>⟨.inr rfl,fun x h=>(by contradiction),ac_ _⟩
 |x::l,b=>by
  obtain _:=AF l _;simp;generalize l.foldl _ _=r at*
  grind
def tR:Ord n (2^n - 1) o↔o.Perm (List.range n):=by
 constructor
 .intro h;refine(acS h.nd acL).mpr fun x=> ?_
  rw[h.mem];simp
 .intro h;refine⟨h.nodup_iff.mpr acL,fun x=> ?_⟩
  grind
def uU (g:Work)(l:List Kh351.Strip)(hr:0 < g.repeat_):aM (l.map fL) (g.repeat_:Int)=((needOf g l:Nat):Int):=by
 obtain⟨h1,o,Y,he⟩:=vN (rep:=(g.repeat_:Int)) (by lia);rw[aca] at h1 Y;have Z:∀o,EnL _ _ 0 o=((Kh351.need _ 0 (ofOrder (cutting g l) o):Nat):Int):=fun o=>by
  have:=CP hr l o 0 0 rfl
  rwa [ady] at this
 delta needOf Kh351.best;obtain⟨L,U,m3⟩:=AF _ _;generalize List.foldl _ _ _=r at L U m3 ⊢;have J:∀o,o∈Kh351.all _↔o.Perm (List.range l.length):=fun o=>mU _ _ acL rfl o
 refine abe ?_ ?_
 .have O:∃o:ko,o.Perm (List.range l.length)/\r.2=Kh351.need g.repeat_ 0 (ofOrder (cutting g l) o):=by
   rcases L with L|L
   .obtain⟨q,M,e⟩:=acA.mp L;exact⟨q,(J q).mp M,by rw[<- e];rfl⟩
   .exact⟨_,abt _,by rw[L];rfl⟩
  obtain⟨q,M,e⟩:=O;rw[e,<- Z];exact h1 q (tR.mpr M)
 .rw[he,Z];have:=U _ (acA.mpr ⟨o,(J o).mpr (tR.mp Y),rfl⟩)
  exact abn.mpr this
end Cw
namespace Cw
open My L2
def qR (e:Nat×Nat):Int×Int:=((e.1:Int),(e.2:Int))
def cA (r:Kh352.Abs):cu:=((r.across:Int),(r.along:Int),r.doors.map qR,r.sides.map qR,())
def sI (g:Work)(r:Kh352.Abs)(n:Nat):eK (cA r) (n:Int) (g.drop:Int) (g.repeat_:Int)=(stripsBy g r n).map fL:=by
 delta eK stripsBy upTo;rw[abp,aco,aco];refine acm fun k _=> ?_
 show(((r.along:Nat):Int),_*_%_,())=(_,_,())
 simp
def Cm {g:Work}(hw:1<=g.wide)(h:r.wide=g.wide):cn (cA r) (g.wide:Int)=((Kh353.first r).map (Kh352.strips r.wide r.across)).map Int.ofNat:=by
 delta Kh353.first;rw[h];exact Nb hw _ rfl rfl
def Nm (hw:1<=g.wide)(h:r.wide=g.wide)(o:Option (List Kh351.Strip)):nM (g.wide:Int) (g.drop:Int) (g.repeat_:Int) (o.map (List.map fL)) (cA r)=(match o,stripsOf g r with
  |some l,some k=>some (l++k)
  |_,_=>none:Option (List Kh351.Strip)).map (List.map fL):=by
 delta nM stripsOf;cases o with
 |none=>rfl
 |_ l=>
  rw[Cm hw h];cases Kh353.first r with
  |none=>rfl
  |_ q=>
   show some (l.map _++eK _ ((Kh352.strips _ _ q:Nat):Int) _ _)=some _
   rw[sI,ack]
def E3 (hw:1<=g.wide):∀(rs:List Kh352.Abs),(∀r∈rs,r.wide=g.wide)-> ∀o:Option (List Kh351.Strip),(rs.map cA).foldl (nM (g.wide:Int) (g.drop:Int) (g.repeat_:Int)) (o.map (List.map fL))=(rs.foldl (fun o r=>match o,stripsOf g r with
  |some l,some k=>some (l++k)
  |_,_=>none) o).map (List.map fL)
 |[],_,o=>rfl
 |r::rs,h,o=>by
  rw[acn,abS,abS,Nm hw (h r (acw ..))];exact E3 hw rs (fun q J=>h q (acv _ J)) _
def K8 (hw:1<=g.wide)(h:∀r∈g.rooms,r.wide=g.wide):bg (g.rooms.map cA) (g.wide:Int) (g.drop:Int) (g.repeat_:Int)=(allStrips g).map (List.map fL):=by
 have J:=E3 hw _ h (some []);delta bg allStrips;rw[show(some []:Option _)=(some ([]:List _)).map (List.map _) from rfl,J];generalize List.foldl _ _ _=o;cases o with
 |none=>rfl
 |_ l=>
  simp only[adC,Option.bind_some,aca]
  by_cases L:l.length<=6
  .rw[ad3 (by lia),ad2 (by delta STRIPS;lia)];rfl
  .rw[ad2 (by lia),ad3 (by delta STRIPS;lia)];rfl
def yz (g:Work)(m:Nat):bM (g.rooms.map cA) (m:Int)=(Kh353.turned g m).rooms.map cA:=by
 delta bM My.numbered Kh353.turned;rw[aco,aco,List.zipIdx_map,aco];refine acm fun x _=> ?_
 obtain⟨r,k⟩:=x
 show(if gO m k then iS _ else cA r)=cA (if m.testBit k then _ else r)
 rw[vO];split<;>rfl
def IB (h:∀r∈g.rooms,r.wide=g.wide)(m:Nat):∀r∈(Kh353.turned g m).rooms,r.wide=(Kh353.turned g m).wide:=by
 intro r L;obtain⟨x,J,rfl⟩:=acA.mp L;have M:=by
  have:=acG.mp J
  exact acB this
 have e:=h _ M;split
 .exact e
 .exact e
def Nh (hw:1<=g.wide)(J:0 < g.repeat_)(h:∀r∈g.rooms,r.wide=g.wide)(o:Option (Nat×Nat))(m:Nat):
  p_ (g.rooms.map cA) (g.wide:Int) (g.drop:Int) (g.repeat_:Int) (o.map fun x=>((x.2:Int),(x.1:Int))) (m:Int)=(match Kh353.need (Kh353.turned g m),o with
   |some n,none=>some (m,n)
   |some n,some x=>if n < x.2 then some (m,n) else some x
   |none,o=>o:Option (Nat×Nat)).map fun x=>((x.2:Int),(x.1:Int)):=by
 delta p_ Kh353.need;rw[yz,show(g.wide:Int)=((Kh353.turned g m).wide:Int) from rfl,show(g.drop:Int)=((Kh353.turned g m).drop:Int) from rfl,show(g.repeat_:Int)=((Kh353.turned g m).repeat_:Int) from rfl,K8 (g:=Kh353.turned g m) hw (IB h m)];cases allStrips _ with
 |none=>rfl
 |_ l=>
  simp only[adC];rw[uU (Kh353.turned g m) l J];cases o with
  |none=>rfl
  |_ x=>
   grind
def BV (hw:1<=g.wide)(J:0 < g.repeat_)(h:∀r∈g.rooms,r.wide=g.wide):∀(l:ko) (o:Option (Nat×Nat)),
  (l.map Int.ofNat).foldl (p_ (g.rooms.map cA) (g.wide:Int) (g.drop:Int) (g.repeat_:Int)) (o.map fun x=>((x.2:Int),(x.1:Int)))=(l.foldl (fun o m=>match Kh353.need (Kh353.turned g m),o with
   |some n,none=>some (m,n)
   |some n,some x=>if n < x.2 then some (m,n) else some x
   |none,o=>o) o).map fun x=>((x.2:Int),(x.1:Int))
 |[],o=>rfl
 |m::l,o=>by
  show List.foldl _ (p_ _ _ _ _ _ m) _=_
  rw[Nh hw J h];exact BV hw J h l _
def CA (hw:1<=g.wide)(J:0 < g.repeat_)(h:∀r∈g.rooms,r.wide=g.wide):eB (g.rooms.map cA) (g.wide:Int) (g.drop:Int) (g.repeat_:Int)=(bestTurn g).map fun x=>((x.2:Int),(x.1:Int)):=by
 refine Eq.trans ?_ (BV hw J h _ _);delta eB;have e:upTo 0 ((1:Int)*2^(((g.rooms.map cA).length:Int)).toNat).toNat=(List.range (2^g.rooms.length)).map Int.ofNat:=by
  rw[aca,abp,abo];refine acm fun k _=> ?_
  simp
 rw[e];rfl
end Cw
namespace Cw
open My L2
open PySem (Paired)
def i3 (v:Vec):I3:=(v.x,v.y,v.z)
def MB (h:i3 u=i3 v):u=v:=by
 cases u;obtain⟨rfl,rfl,rfl⟩:=h;rfl
def oR (u v:Vec):i3 (Kh350.cross u v)=cross (i3 u) (i3 v):=rfl
def qv (u v:Vec):dot (i3 u) (i3 v)=Kh350.dot u v:=rfl
def Z8 (u:Vec):i3 (Kh350.neg u)=PZ (i3 u):=rfl
def zI (u:Vec):decide (i3 u=(0,0,0))=isZero u:=by
 delta isZero;rw[aaR,ad0,adT];constructor
 .intro h;exact MB h
 .intro h;rw[h];rfl
def kG (a:Kh350.Abs):List I3:=a.dyes.map fun d=>i3 d.v
def qW (a:Kh350.Abs):hA:=a.dyes.map fun d=>(d.price:Int)
def rq (a:Kh350.Abs)(i:Nat):(kG a).getD i (0,0,0)=i3 (dyeAt a i):=by
 delta kG dyeAt;rw[abU,ab0];cases a.dyes[i]?<;>rfl
def KN (a:Kh350.Abs)(i:Nat):(qW a).getD i 0=priceAt a i:=by
 unfold qW priceAt
 simp
def Ac (a:Kh350.Abs)(t v:Vec):mX (i3 v) (kG a) (i3 t)=shows a t v:=by
 delta mX shows kG;rw[Bool.and_comm,aco,abw];rfl
def BY (p:a->Bool)(J:a->a):∀l:List a,(l.flatMap fun v=>[v,J v]).find? p=l.findSome? fun v=>if p v then some v else if p (J v) then some (J v) else none
 |[]=>rfl
 |v::l=>by
  rw[abP,abO,<- BY p J l]
  show List.find? p (v::J v::_)=_
  rw[abN,abN];cases p v with
  |true=>rfl
  |_=>
   cases p _ with
   |true=>rfl
   |_=>rfl
def JO (a:Kh350.Abs):qM (kG a)=(let d:=a.dyes.map Kh350.Dye.v;(d.flatMap fun x=>d.map fun y=>Kh350.cross x y)++(d.flatMap fun x=>axes.map fun y=>Kh350.cross x y)++axes).map i3:=by
 delta qM kG;simp only[ack,List.map_flatMap,abQ,aco];rfl
def Hd (f:a->b)(g:b->Option c)(l:List a):(l.map f).findSome? g=l.findSome? fun x=>g (f x):=by
 induction l with
 |nil=>rfl
 |_ x l J=>rw[acn,abO,abO,J]
def Hc (f:b->c)(g:a->Option b)(l:List a):(l.findSome? g).map f=l.findSome? fun x=>(g x).map f:=by
 induction l with
 |nil=>rfl
 |_ x l J=>
  rw[abO,abO];cases g x with
  |none=>exact J
  |_ y=>rfl
def Mv (a:Kh350.Abs)(t:Vec):eY (kG a) (i3 t)=(Kh350.light a t).map i3:=by
 delta eY Kh350.light Kh350.candidates;rw[JO];rw[BY,Hd,Hc]
 congr 1
 funext v
 delta rE;rw[Ac,<- Z8,Ac];cases shows a t v with
 |true=>rfl
 |_=>
  cases shows a t _ with
  |true=>rfl
  |_=>rfl
structure MR (m:rh)(M:Kh350.Mix):Prop where
 mem:m.1=M.parts.map fun p=>(p.1:Int)
 wh:0 < m.2.2.1
 bl:0 < M.below
 sh:Paired (fun(s:Int) (p:Nat×Int)=>s*M.below=p.2*m.2.2.1/\0<=s) m.2.1 M.parts
def g9 (h:l≠[]):0<=oZ l↔ ∀y∈l,0<=y:=by
 obtain _:=gP h
 grind
def vH (x:I3):Prop:=0<=x.1/\0<=x.2.1/\0<=x.2.2
def mix0 (a:Kh350.Abs)(t:Vec):Paired MR (k8 (kG a) (i3 t) []) (if isZero t then[⟨[],1⟩] else[]):=by
 delta k8 gH pick;simp only[acp,acb,Int.ofNat_zero];rw[ad3 (by rfl),zI];cases isZero t with
 |true=>
  exact .cons ⟨rfl,by decide,by decide,.nil⟩ .nil
 |_=>exact .nil
def PF (h:cross d t=(0,0,0)):(t.1+t.2.1+t.2.2)*dot d d=dot d t*(d.1+d.2.1+d.2.2):=by
 dsimp only[cross,dot,Prod.mk.injEq] at*
 grind
def mix1 (a:Kh350.Abs)(t:Vec)(i:Nat)(h1:vH (i3 (dyeAt a i)))(h2:0 < (i3 (dyeAt a i)).1+(i3 (dyeAt a i)).2.1+(i3 (dyeAt a i)).2.2)(h3:vH (i3 t)):Paired MR (k8 (kG a) (i3 t) [(i:Int)]) (by1 a t i).toList:=by
 delta k8 gH pick by1;simp only[acn,acp,ab8,acb,abp];rw[ad2 (by decide),ad3 (by rfl)];simp only[abT];rw[rq];delta iU;rw[<- oR,zI];generalize hd:dyeAt a i=d at*;cases L:isZero _ with
 |false=>exact .nil
 |_=>
  simp only[aaV,aaS,ad1,ad4];have hc:cross (i3 d) (i3 t)=(0,0,0):=by
   rw[<- zI] at L;exact aea L
  have Z:=PF hc;obtain⟨a1,a2,a3⟩:=h1;obtain⟨b1,b2,b3⟩:=h3;have J:0 < Kh350.dot d d:=by
   rw[<- qv];delta dot;have Y:=abk a1 a1;have U:=abk a2 a2;have O:=abk a3 a3;have:0 < (i3 d).1\/0 < (i3 d).2.1\/0 < (i3 d).2.2:=by omega
   rcases this with h|h|h
   .have:=abl h h;omega
   .have:=abl h h;omega
   .have:=abl h h;omega
  have p2:0<=Kh350.dot d t:=by
   rw[<- qv];delta dot;have Y:=abk a1 b1;have U:=abk a2 b2;have O:=abk a3 b3;lia
  have hr:Kh350.right ⟨[(i,Kh350.dot d t)],Kh350.dot d d⟩=⟨[(i,Kh350.dot d t)],Kh350.dot d d⟩:=by
   delta Kh350.right
   lia
  rw[hr,ad3 ((g9 (by simp)).mpr fun y M=>by
   simp only[acu,acM,aeb] at M
   rcases M with rfl|rfl<;>lia),ad3 (by
   delta good;simp only[abu,abx,aaQ,aaO,ad0];exact⟨J,p2⟩)]
  refine .cons ⟨rfl,h2,J, ?_⟩ .nil;refine .cons ⟨?_,by omega⟩ .nil;exact Z
end Cw
namespace Cw
open My L2
open PySem (Paired)
def aaG (x:Int)(r:hA):cut (x::r) (some 1) none=r:=by
 show List.take ((x::r).length - 1) r=r
 simp_all
def Rt (x:Int):0<=x*x:=by
 by_cases h:0<=x
 .exact abk h h
 .have:=abk (show 0<= -x by omega) (show 0<= -x by omega)
  lia
def FK {x:Int}(h:x*x=0):x=0:=by
 rcases Int.mul_eq_zero.mp h with h|h<;>exact h
def sq_pos (h:isZero n=false):0 < Kh350.dot n n:=by
 have q1:=Rt n.x;have q2:=Rt n.y;have q3:=Rt n.z;delta Kh350.dot;apply Int.not_le.mp;intro Z;have M:n.x*n.x=0:=by omega
 have L:n.y*n.y=0:=by omega
 have J:n.z*n.z=0:=by omega
 have Y:=FK M;have U:=FK L;have O:=FK J;obtain⟨x,y,z⟩:=n;subst Y U O;exact absurd h (by decide)
def mix2 (a:Kh350.Abs)(t:Vec)(i j:Nat):Paired MR (k8 (kG a) (i3 t) [(i:Int),(j:Int)]) (by2 a t i j).toList:=by
 delta k8 gH pick by2;simp only[acn,acp,ab8,acb,abp];rw[ad2 (by decide),ad2 (by decide),ad3 (by rfl)];simp only[abT,List.getD_cons_succ];rw[rq,rq];delta iT;rw[<- oR,zI,qv];generalize dyeAt a i=d;generalize dyeAt a j=e;generalize hn:Kh350.cross d e=n;cases U:isZero n with
 |true=>exact .nil
 |_=>
  by_cases J:Kh350.dot n t=0
  .have O:=sq_pos U;rw[ad2 (by lia),ad2 (by lia)];have Y:Kh350.right ⟨[(i,Kh350.dot n (Kh350.cross t e)),(j,Kh350.dot n (Kh350.cross d t))],Kh350.dot n n⟩=⟨[(i,Kh350.dot n (Kh350.cross t e)),(j,Kh350.dot n (Kh350.cross d t))],Kh350.dot n n⟩:=by
    delta Kh350.right
    lia
   rw[Y,<- oR,<- oR,qv,qv,qv];generalize Kh350.dot n (Kh350.cross t e)=p;generalize Kh350.dot n (Kh350.cross d t)=q
   by_cases L:0<=p/\0<=q
   .simp only;rw[ad3 ((g9 (by simp)).mpr fun y M=>by
     simp only[acu,acM,aeb] at M
     rcases M with rfl|rfl|rfl<;>lia),ad3 (by
     delta good;simp only[abu,abx,aaQ,aaO,ad0];lia),aaG]
    exact .cons ⟨rfl,O,O,.cons ⟨rfl,L.1⟩ (.cons ⟨rfl,L.2⟩ .nil)⟩ .nil
   .simp only;rw[ad2 (fun Z=>L (by
     have:=(g9 (by simp)).mp Z
     simp[*])),ad2 (by
     delta good;simp only[abu,abx,aaQ,aaO,ad0];lia)]
    exact .nil
  .rw[ad3 (by lia),ad3 (by simp[J])];exact .nil
def mix3 (a:Kh350.Abs)(t:Vec)(i j k:Nat):Paired MR (k8 (kG a) (i3 t) [(i:Int),(j:Int),(k:Int)]) (by3 a t i j k).toList:=by
 delta k8 gH pick by3;simp only[acn,acp,ab8,acb,abp];rw[ad2 (by decide),ad2 (by decide),ad2 (by decide)];simp only[abT,List.getD_cons_succ];rw[rq,rq,rq];delta gw Kh350.det;rw[<- oR,qv,qv,<- oR,qv,<- oR,qv];generalize dyeAt a i=d;generalize dyeAt a j=e;generalize dyeAt a k=f;generalize Kh350.dot d _=s;generalize Kh350.dot t _=p;generalize Kh350.dot d _=q;generalize Kh350.dot d _=r
 by_cases M:s=0
 .rw[ad3 (by lia),ad3 M];exact .nil
 .rw[ad2 (by lia),ad2 M];have O:(sgn s=1/\0 < s)\/(sgn s= -1/\s < 0):=by
   delta sgn
   by_cases h:0 < s
   .rw[ad3 (adZ h)];exact .inl ⟨rfl,h⟩
   .rw[ad2 (by rw[ad0];exact h)];exact .inr ⟨rfl,by lia⟩
  rcases O with⟨Z,h1⟩|⟨Z,h1⟩
  .rw[Z];simp only[abo];have U:Kh350.right ⟨[(i,p),(j,q),(k,r)],s⟩=⟨[(i,p),(j,q),(k,r)],s⟩:=by
    delta Kh350.right;rw[ad2 (by show ¬s < 0;lia)]
   rw[U]
   by_cases J:0<=p/\0<=q/\0<=r
   .rw[ad3 ((g9 (by simp)).mpr fun y L=>by
     simp only[acu,acM,aeb] at L
     rcases L with rfl|rfl|rfl|rfl<;>lia),ad3 (by
     delta good;simp only[abu,abx,aaQ,aaO,ad0];exact⟨h1,J.1,J.2.1,J.2.2⟩),aaG]
    exact .cons ⟨rfl,h1,h1,.cons ⟨rfl,J.1⟩ (.cons ⟨rfl,J.2.1⟩ (.cons ⟨rfl,J.2.2⟩ .nil))⟩ .nil
   .rw[ad2 (fun Y=>J (by
     have:=(g9 (by simp)).mp Y
     simp[*])),ad2 (by
     delta good;simp only[abu,abx,aaQ,aaO,ad0];lia)]
    exact .nil
  .rw[Z];simp only[Int.neg_mul,abo];have U:Kh350.right ⟨[(i,p),(j,q),(k,r)],s⟩=⟨[(i, -p),(j, -q),(k, -r)], -s⟩:=by
    delta Kh350.right;rw[ad3 (h1)];rfl
   rw[U]
   by_cases J:0<= -p/\0<= -q/\0<= -r
   .rw[ad3 ((g9 (by simp)).mpr fun y L=>by
     simp only[acu,acM,aeb] at L
     rcases L with rfl|rfl|rfl|rfl<;>lia),ad3 (by
     delta good;simp only[abu,abx,aaQ,aaO,ad0];exact⟨by omega,J.1,J.2.1,J.2.2⟩),aaG]
    exact .cons ⟨rfl,by show 0 < -s;omega,by show 0 < -s;omega,.cons ⟨rfl,J.1⟩ (.cons ⟨rfl,J.2.1⟩ (.cons ⟨rfl,J.2.2⟩ .nil))⟩ .nil
   .rw[ad2 (fun Y=>J (by
     have:=(g9 (by simp)).mp Y
     simp_all)),ad2 (by
     delta good;simp only[abu,abx,aaQ,aaO,ad0];exact fun h=>J ⟨h.2.1,h.2.2.1,h.2.2.2⟩)]
    exact .nil
def gOf (n:Nat):List hA:=let r:=List.range n
 [[]]++r.map (fun(i:Nat)=>[(i:Int)])++(r.flatMap fun i=>(r.filter fun j=>decide (i < j)).map fun(j:Nat)=>[(i:Int),(j:Int)])++r.flatMap fun i=>(r.filter fun j=>decide (i < j)).flatMap fun j=>(r.filter fun k=>decide (j < k)).map fun(k:Nat)=>[(i:Int),(j:Int),(k:Int)]
def Qi {n:Nat}(h:n<=5):oP n=gOf n:=by
 have hc:n=0\/n=1\/n=2\/n=3\/n=4\/n=5:=by lia
 rcases hc with rfl|rfl|rfl|rfl|rfl|rfl<;>decide+kernel
def pC (h1:Paired R u x)(h2:Paired R v y):Paired R (u++v) (x++y):=by
 induction h1 with
 |nil=>exact h2
 |_ r _ J=>exact .cons r J
def iR:∀{l:List a},(∀x∈l,Paired R (f x) (g x))->Paired R (l.flatMap f) (l.flatMap g)
 |[],_=>.nil
 |x::l,h=>by
  have h1:=h x (acw ..);exact pC h1 (iR fun y J=>h y (acv _ J))
def B0 (f:a->Option b)(l:List a):l.filterMap f=l.flatMap fun x=>(f x).toList:=by
 induction l with
 |nil=>rfl
 |_ x l J=>
  rw[abP,<- J];cases h:f x with
  |none=>rw[List.filterMap_cons_none h];rfl
  |_ y=>rw[List.filterMap_cons_some h];rfl
def qF (a:Kh350.Abs):Prop:=a.dyes.length<=5/\ ∀d∈a.dyes,(0<=d.v.x/\d.v.x<=50)/\(0<=d.v.y/\d.v.y<=50)/\(0<=d.v.z/\d.v.z<=50)/\0 < d.v.x+d.v.y+d.v.z/\d.price<=1000
def Bt (h:qF a)(U:vH (i3 t)):Paired MR (lg (kG a) (i3 t)) (Kh350.mixes a t):=by
 have Y:(kG a).length=a.dyes.length:=by delta kG;rw[aca]
 delta lg Kh350.mixes;rw[Y,Qi h.1];delta gOf;simp only[List.flatMap_append,abP,List.flatMap_nil,abA,abQ,List.flatMap_assoc,B0];refine pC (pC (pC (mix0 a t) (iR fun i hi=> ?_)) (iR fun i hi=>iR fun j Z=>mix2 a t i j)) (iR fun i hi=>iR fun j Z=>iR fun k hk=>mix3 a t i j k);have hd:dyeAt a i=(a.dyes[i]'(acE.mp hi)).v:=by
  delta dyeAt
  grind
 obtain⟨O,M,L,J,_⟩:=h.2 _ (ab5 _);exact mix1 a t i (by rw[hd];exact⟨O.1,M.1,L.1⟩) (by rw[hd];exact J) U
end Cw
namespace Cw
open My L2
open PySem (Paired)
def Tz (J:0 < l)(hd:0 < d)(h:u*d=n*l):u / Nat.gcd u l=n / Nat.gcd n d/\l / Nat.gcd u l=d / Nat.gcd n d:=by
 have O:=Nat.gcd_mul_right u d l;have M:=Nat.gcd_mul_right n l d;have L:Nat.gcd u l*d=Nat.gcd n d*l:=by grind
 constructor
 .rw[<- adm u _ hd,h,L,adm _ _ J]
 .rw[<- adm l _ hd,Nat.mul_comm l d,L,adm _ _ J]
def iW (J:0<=u)(L:0 < l)(hd:0 < d)(h:u*d=n*l):cR u l=frac n d:=by
 have M:0<=n:=by
  apply Int.not_lt.mp;intro O;have h1:=abk J (abf hd);have h2:=abl (show 0 < -n by lia) L
  lia
 obtain⟨u,rfl⟩:=abd J;obtain⟨l,rfl⟩:=abd (abf L);obtain⟨n,rfl⟩:=abd M;obtain⟨d,rfl⟩:=abd (abf hd);have h':=by
  have:=by exact h
  exact Int.ofNat_inj.mp this
 obtain _:=Tz (by lia) (by lia) h';delta cR frac;have Y:Int.gcd n d=Nat.gcd n d:=rfl;have U:Int.gcd u l=Nat.gcd u l:=rfl;have _:0 < Nat.gcd n d:=Nat.gcd_pos_of_pos_right _ (by lia)
 grind
def KO:∀{sh:hA} {ps:List (Nat×Int)},Paired (fun(s:Int) (p:Nat×Int)=>s*B=p.2*W/\0<=s) sh ps->
  (((ps.map fun p=>(p.1:Int)).zip sh).map fun p=>(qW a).getD p.1.toNat 0*p.2).sum*B=(ps.map fun p=>p.2*priceAt a p.1).sum*W
 |_,_,.nil=>by simp
 |_,_,.cons (b:=p) r t=>by
  have J:=KO (a:=a) t;simp only[acn,ac4,acZ,abp];rw[KN,Int.add_mul,J,Int.add_mul]
  grind
def u4 (h:MR m M):gx m (qW a)*M.below=Kh350.cost a M*m.2.2.1:=by
 delta gx Kh350.cost;rw[h.mem];exact KO h.sh
def Sn (a:Kh350.Abs)(i:Nat):0<=priceAt a i:=by
 delta priceAt;cases a.dyes[i]? with
 |none=>simp
 |_ d=>simp
def yT:∀{sh:hA} {ps:List (Nat×Int)},Paired (fun(s:Int) (p:Nat×Int)=>s*B=p.2*W/\0<=s) sh ps->
  0<=(((ps.map fun p=>(p.1:Int)).zip sh).map fun p=>(qW a).getD p.1.toNat 0*p.2).sum
 |_,_,.nil=>by simp
 |_,_,.cons (b:=p) r t=>by
  have J:=yT (a:=a) t;simp only[acn,ac4,acZ,abp];rw[KN];have:=abk (Sn a p.1) r.2
  lia
def zK (h:MR m M):0<=gx m (qW a):=by
 unfold gx;rw[h.mem];exact yT h.sh
def S0 {c C w b Y Z J L:Int}(hw:0 < w)(hb:0 < b)(M:0 < J)(U:0 < L)(h:c*b=C*w)(h':Y*L=Z*J):c*J < Y*w↔C*L < Z*b:=by
 have bb:=abl hb U;have ww:=abl hw M;have e1:(c*J)*(b*L)=(C*L)*(w*J):=by
  grind
 have e2:(Y*w)*(b*L)=(Z*b)*(w*J):=by
  grind
 constructor
 .intro O;have:=abj O bb
  simp_all
 .intro O;have:=abj O ww
  rw[<- e1,<- e2] at this;exact Int.lt_of_mul_lt_mul_right this (abf bb)
def OR:Option rh->Option Kh350.Mix->Prop
 |none,none=>True
 |some m,some M=>MR m M
 |_,_=>False
def BW:∀{U:List rh} {Y:List Kh350.Mix},Paired MR U Y-> ∀{o:Option rh} {O:Option Kh350.Mix},OR o O->OR (U.foldl (vy (qW a)) o) (Y.foldl (fun o m=>match o with
  |none=>some m
  |some k=>if Kh350.cost a m*k.below < Kh350.cost a k*m.below then some m else some k) O)
 |_,_,.nil,_,_,h=>h
 |_,_,.cons (b:=M) r t,o,O,h=>by
  refine BW t ?_;cases o with
  |none=>
   cases O with
   |none=>exact r
   |_ K=>exact h.elim
  |_ k=>
   cases O with
   |none=>exact h.elim
   |_ K=>
    have L:=h;have J:=S0 r.wh r.bl L.wh L.bl (u4 (a:=a) r) (u4 (a:=a) L);delta vy;simp only
    by_cases hc:Kh350.cost a M*K.below < Kh350.cost a K*M.below
    .rw[ad3 (adZ (J.mpr hc)),ad3 hc];exact r
    .grind
def BB (h:qF a)(J:vH (i3 t)):OR (eM (kG a) (qW a) (i3 t)) (Kh350.least a t):=BW (Bt h J) trivial
def oN (h:qF a)(J:vH (i3 t)):cx (kG a) (i3 t)=Kh350.makes a t:=by
 have L:=Paired.length (Bt h J);delta cx Kh350.makes;rw[L];cases(Kh350.mixes a t).length with
 |zero=>rfl
 |_ n=>rw[adZ (by lia)];rfl
def SX (m:rh)(prices:hA):hA:=[(m.1.length:Int)]++cR (gx m prices) m.2.2.1++(m.1.zip m.2.1).flatMap fun p=>p.1::cR p.2 m.2.2.1
def IE (L:0 < B)(J:0 < W):∀{sh:hA} {ps:List (Nat×Int)},Paired (fun(s:Int) (p:Nat×Int)=>s*B=p.2*W/\0<=s) sh ps->
  ((ps.map fun p=>(p.1:Int)).zip sh).flatMap (fun p=>p.1::cR p.2 W)=ps.flatMap fun p=>(p.1:Int)::frac p.2 B
 |_,_,.nil=>rfl
 |_,_,.cons r t=>by
  have M:=IE L J t;rw[acn,ac4,abP,abP,M,iW r.2 J L r.1]
def Pg (h:MR m M):SX m (qW a)=(tellMix a M).ret::(tellMix a M).out:=by
 delta SX tellMix;rw[iW (zK h) h.wh h.bl (u4 h),h.mem,IE h.bl h.wh h.sh,aca];rfl
end Cw
namespace Cw
open My L2
open PySem (Paired)
def kb (w x k o:Nat):Prop:=Kh352.strips w x k < Kh352.strips w x o\/(Kh352.strips w x k=Kh352.strips w x o/\(narrow w x o < narrow w x k\/(narrow w x o=narrow w x k/\o<=k)))
def Wl (w x k:Nat):kb w x k k:=.inr ⟨rfl,.inr ⟨rfl,ac_ _⟩⟩
def JG (h1:kb w x a b)(h2:kb w x b c):kb w x a c:=by
 delta kb at*;lia
def v_ (w x:Nat):∀(l:ko) (k:Nat),l.Pairwise (· < ·)->(∀o∈l,k < o)-> ∃r,l.foldl (fun b o=>match b with
  |none=>some o
  |some k=>if Kh352.strips w x o < Kh352.strips w x k\/(Kh352.strips w x o=Kh352.strips w x k/\narrow w x k<=narrow w x o) then some o else some k) (some k)=some r/\(r=k\/r∈l)/\kb w x r k/\ ∀o∈l,kb w x r o
 |[],k,_,_=>⟨k,rfl,.inl rfl,Wl _ _ _,fun o h=>by cases h⟩
 |o::l,k,Y,Z=>by
  obtain⟨h1,h2⟩:=acO.mp Y;have M:=Z o (acw ..);rw[abS];simp only
  by_cases hc:Kh352.strips w x o < Kh352.strips w x k\/(Kh352.strips w x o=Kh352.strips w x k/\narrow w x k<=narrow w x o)
  .rw[ad3 hc];obtain⟨r,e,m,L,O⟩:=v_ w x l o h2 h1;have ok:kb w x o k:=by delta kb;lia
   refine⟨r,e,.inr ?_,JG L ok,fun q J=> ?_⟩
   .grind
   .grind
  .rw[ad2 hc];obtain⟨r,e,m,L,O⟩:=v_ w x l k h2 fun q J=>adk M (h1 q J)
   have U:kb w x k o:=by delta kb;grind
   refine⟨r,e, ?_,L,fun q J=> ?_⟩
   .grind
   .rcases acu.mp J with rfl|J
    .exact JG L U
    .grind
def D6 (d:List (Nat×Nat))(w x:Nat):(firsts d w x).Pairwise (· < ·):=abr _ acP
def QH {d:List (Nat×Nat)}{w x:Nat}:match Kh352.best d w x with
  |none=>firsts d w x=[]
  |some k=>k∈firsts d w x/\ ∀o∈firsts d w x,kb w x k o:=by
 have J:=D6 d w x;cases L:firsts d w x with
 |nil=>
  have M:Kh352.best d w x=none:=by
   delta Kh352.best
   simp[*]
  rw[M]
 |_ k l=>
  rw[L] at J;obtain⟨h1,h2⟩:=acO.mp J;obtain⟨r,e,m,U,O⟩:=v_ w x l k h2 h1;have M:Kh352.best d w x=some r:=by
   delta Kh352.best;rw[L];exact e
  simp_all
def vG {a:Type}:∀(l:List (a×Nat)) (b:a×Nat),let r:=l.foldl (fun b x=>if x.2 < b.2 then x else b) b
  (r=b/\ ∀x∈l,b.2<=x.2)\/ ∃pre J,l=pre++r::J/\(∀x∈pre,r.2 < x.2)/\r.2 < b.2/\ ∀x∈J,r.2<=x.2
 |[],b=>.inl ⟨rfl,fun x h=>by cases h⟩
 |x::l,b=>by
  simp only[abS]
  by_cases hc:x.2 < b.2
  .rw[ad3 hc];have L:=vG l x;generalize l.foldl _ x=r at*
   rcases L with⟨rfl,h⟩|_
   .exact .inr ⟨[],l,rfl,(fun y h=>by cases h),hc,h⟩
   .grind
  .rw[ad2 hc];have L:=vG l b;generalize l.foldl _ b=r at*
   grind
inductive nO:ko->ko->Prop
 |now {x y:Nat} {a b:ko}:x < y->nO (x::a) (y::b)
 |later {x:Nat} {a b:ko}:nO a b->nO (x::a) (x::b)
def uA:∀{a b:ko},nO a b-> ¬nO b a
 |_,_,.now h,h'=>by
  cases h' with
  |now h2=>lia
  |_ _=>lia
 |_,_,.later h,h'=>by
  cases h' with
  |now h2=>lia
  |_ h2=>exact uA h h2
def vf:∀(n:Nat) (l:ko),l.Pairwise (· < ·)->(orders l n).Pairwise nO
 |0,l,_=>acR _ _
 |n+1,l,L=>by
  unfold orders;rw[List.pairwise_flatMap];refine⟨fun i hi=> ?_, ?_⟩
  .rw[acQ];exact(vf n _ (L.filter _)).imp fun h=>.later h
  .refine L.imp fun {i j} J a O b M=> ?_
   obtain⟨Y,_,rfl⟩:=acA.mp O;obtain⟨U,_,rfl⟩:=acA.mp M;exact .now J
end Cw
namespace Cw
open My L2
open PySem (Paired)
def wz:∀{l o:ko},l.Pairwise (· < ·)->o.Perm l->o=l\/nO l o
 |[],o,_,h=>.inl (acT.mp h)
 |x::l,[],_,h=>by simp_all
 |x::l,y::o,L,h=>by
  obtain⟨h1,h2⟩:=acO.mp L;have J:=h.mem_iff.mp (acw ..)
  rcases acu.mp J with rfl|J
  .rcases wz h2 (List.Perm.cons_inv h) with e|e
   .simp_all
   .exact .inr (.later e)
  .exact .inr (.now (h1 y J))
structure Ib (a:Kh351.Abs)(f n:Nat)(b:ko×Nat):Prop where
 perm:b.1.Perm (List.range n)
 val:b.2=Kh351.need a.repeat_ f (ofOrder a b.1)
 least:∀o:ko,o.Perm (List.range n)->b.2<=Kh351.need a.repeat_ f (ofOrder a o)
 first:∀o:ko,o.Perm (List.range n)->Kh351.need a.repeat_ f (ofOrder a o)=b.2->o=b.1\/nO b.1 o
def Nk (a:Kh351.Abs)(f n:Nat):Ib a f n (Kh351.best a f (List.range n)):=by
 have U:∀o,o∈Kh351.all _↔o.Perm (List.range n):=fun o=>mU _ _ acL rfl o
 have Y:(Kh351.all (List.range n)).Pairwise _:=vf _ _ acP;delta Kh351.best;have J:=vG ((Kh351.all (List.range n)).map fun o=>(o,Kh351.need a.repeat_ f (ofOrder a o))) (List.range n,Kh351.need a.repeat_ f (ofOrder a (List.range n)));generalize List.foldl _ _ _=r at J ⊢;have Z:((Kh351.all (List.range n)).map fun o=>(o,Kh351.need a.repeat_ f (ofOrder a o))).Pairwise fun u v=>nO u.1 v.1:=by
  grind
 rcases J with⟨rfl,h⟩|⟨pre,O,e,h1,h2,h3⟩
 .refine⟨abt _,rfl,fun o M=> ?_,fun o M _=>wz acP M⟩
  simp_all
 .have hr:r∈(Kh351.all (List.range n)).map fun o=>(o,Kh351.need a.repeat_ f (ofOrder a o)):=by rw[e];simp
  obtain⟨q,hq,eq⟩:=acA.mp hr;have v1:r.1=q:=by rw[<- eq]
  have v2:r.2=Kh351.need a.repeat_ f (ofOrder a r.1):=by rw[v1,<- eq]
  have L:∀o:ko,o.Perm _->_∈pre\/_=r\/_∈_:=fun o M=>by
   have:(o,Kh351.need a.repeat_ f (ofOrder a o))∈pre++r::O:=by
    rw[<- e];exact acA.mpr ⟨o,(U o).mpr M,rfl⟩
   rcases acq.mp this with m|m
   .exact .inl m
   .exact .inr (acu.mp m)
  refine⟨by simp_all,v2,fun o M=> ?_,fun o M hv=> ?_⟩
  .grind
  .rcases L o M with m|m|m
   .grind
   .grind
   .rw[e,List.pairwise_append] at Z;have:=(acO.mp Z.2.1).1 _ m
    exact .inr this
def CC (h1:Ib a f n b)(h2:Ib a f n c):b=c:=by
 have e:=Nat.le_antisymm (by have:=h1.least c.1 h2.perm;rw[<- h2.val] at this;exact this) (by have:=h2.least b.1 h1.perm;rw[<- h1.val] at this;exact this);have L:b.1=c.1:=by
  rcases h1.first c.1 h2.perm (by rw[<- h2.val,e]) with q|q
  .exact q.symm
  .rcases h2.first b.1 h1.perm (by rw[<- h1.val,e]) with J|J
   .exact J
   .exact absurd J (uA q)
 cases b
 grind
def m6:∀(n k:Nat) (w:ko),w∈givings n k↔(w.length=n/\ ∀x∈w,x < k)
 |0,k,w=>by
  unfold givings
  simp_all
 |n+1,k,w=>by
  unfold givings;rw[acy];constructor
  .rintro⟨j,O,hw⟩;obtain⟨J,L,rfl⟩:=acA.mp hw;obtain _:=(m6 n k J).mp L
   simp_all
  .rintro⟨h1,h2⟩;cases w with
   |nil=>simp at h1
   |_ j J=>exact⟨j,acE.mpr (h2 j (acw ..)),acA.mpr ⟨J,(m6 n k J).mpr ⟨by simp_all,fun x M=>h2 x (acv _ M)⟩,rfl⟩⟩
def t_:∀(n k:Nat),(givings n k).Pairwise nO
 |0,k=>acR _ _
 |n+1,k=>by
  unfold givings;rw[List.pairwise_flatMap];refine⟨fun i hi=> ?_, ?_⟩
  .rw[acQ];exact(t_ n k).imp fun h=>.later h
  .refine (acP).imp fun {i j} J a M b L=> ?_
   obtain⟨U,_,rfl⟩:=acA.mp M;obtain⟨O,_,rfl⟩:=acA.mp L;exact .now J
def BZ:∀{l:List a},l.Pairwise R-> ∀{x:a},l.find? p=some x->x∈l/\p x=true/\ ∀y∈l,p y=true->y=x\/R x y
 |[],_,x,h=>by contradiction
 |z::l,L,x,h=>by
  obtain⟨h1,h2⟩:=acO.mp L;rw[abN] at h;cases J:p z with
  |true=>
   grind
  |_=>
   rw[J] at h;obtain _:=BZ h2 h
   grind
def Gives (a:Kh351.Abs)(w:ko):Prop:=(w.length=a.strips.length/\ ∀x∈w,x < a.rolls.length)/\(List.range a.rolls.length).all (fitsRoll a w)=true
def yk (a:Kh351.Abs):match Kh351.fits a with
  |none=>∀w,¬Gives a w
  |some w=>Gives a w/\ ∀v,Gives a v->v=w\/nO w v:=by
 cases L:Kh351.fits a with
 |none=>
  intro w hw;have:=List.find?_eq_none.mp L w ((m6 _ _ w).mpr hw.1)
  exact this hw.2
 |_ w=>
  obtain⟨U,O,M⟩:=BZ (t_ _ _) L;exact⟨⟨(m6 _ _ w).mp U,O⟩,fun v J=>M v ((m6 _ _ v).mpr J.1) J.2⟩
end Cw
namespace Cw
open My L2
open PySem (Paired)
def xZ {bt:Nat->Nat}{p:Nat->Bool}:∀(l:ko) (b:Nat),l.Pairwise (· < ·)->(∀m∈l,b < m)->p b=true->
  let r:=l.foldl (fun b m=>if bt b < bt m/\p m=true then m else b) b
  p r=true/\(r=b\/r∈l)/\(bt b<=bt r/\(bt b=bt r->r=b))/\ ∀m∈l,p m=true->bt m<=bt r/\(bt m=bt r->r<=m)
 |[],b,_,_,L=>⟨L,.inl rfl,⟨ac_ _,fun _=>rfl⟩,fun m h=>by cases h⟩
 |x::l,b,O,U,L=>by
  obtain⟨h1,h2⟩:=acO.mp O;have J:=U x (acw ..);simp only[abS]
  by_cases hc:bt b < bt x/\p x=true
  .rw[ad3 hc];obtain _:=xZ l x h2 h1 hc.2;generalize l.foldl _ x=r at*
   grind
  .rw[ad2 hc];obtain⟨q1,q2,Z,Y⟩:=xZ l b h2 (fun m M=>adk J (h1 m M)) L;generalize l.foldl _ b=r at*
   grind
structure Is (f:Frac)(n d:Int):Prop where
 d0:0 < d
 n0:0<=n
 eq:Kh353.told f=frac n d
def Bw (x:Frac):Kh353.told (Kh353.low x)=frac x.n x.d:=by
 delta Kh353.low frac Kh353.told
 lia
def yg (L:0<=n)(hd:0 < d)(J:0 < d')(h:n*d'=n'*d):frac n d=frac n' d':=by
 rw[<- iW L hd hd rfl];exact iW L hd J h
def Is.same (h:Is f n d)(J:0 < d')(L:0<=n')(e:n*d'=n'*d):Is f n' d':=⟨J,L,h.eq.trans (yg h.n0 h.d0 J e)⟩
def Is.parts (h:Is f n d):0 < f.d/\0<=f.n/\f.n*d=n*f.d:=by
 have L:=h.eq;obtain⟨n,rfl⟩:=abd h.n0;obtain⟨d,rfl⟩:=abd (abf h.d0);have hd:0 < d:=by have:=h.d0;lia
 have U:0 < Nat.gcd n d:=Nat.gcd_pos_of_pos_right _ hd;have J:Int.gcd n d=Nat.gcd n d:=rfl;delta Kh353.told frac at L;have M:=Nat.div_mul_cancel (Nat.gcd_dvd_left n d);have O:=Nat.div_mul_cancel (Nat.gcd_dvd_right n d);rw[<- M,<- O,Int.natCast_mul,Int.natCast_mul]
 grind
def Is.add (h1:Is f n d)(h2:Is k m e):Is (Kh353.add f k) (n*e+m*d) (d*e):=by
 obtain⟨a1,a2,a3⟩:=h1.parts;obtain⟨J,L,Y⟩:=h2.parts;have U:=abk h1.n0 (abf h2.d0);have p2:=abk h2.n0 (abf h1.d0);have O:=abk a2 (abf J);have M:=abk L (abf a1);refine⟨abl h1.d0 h2.d0,by lia, ?_⟩;delta Kh353.add;rw[Bw];refine yg (by lia) (abl a1 J) (abl h1.d0 h2.d0) ?_
 grind
def Is.times (h:Is f n d)(hc:0<=c):Is (Kh353.times c f) (c*n) d:=by
 obtain⟨a1,a2,a3⟩:=h.parts;refine⟨h.d0,abk hc h.n0, ?_⟩;delta Kh353.times;rw[Bw];refine yg (abk hc a2) a1 h.d0 ?_
 grind
def Is.told (h:Is f n d):Kh353.told f=cR n d:=by
 rw[h.eq,iW h.n0 h.d0 h.d0 rfl]
def Is.zero:Is ⟨0,1⟩ 0 1:=⟨by decide,by decide,by decide⟩
def Xj (h:MR m M):Is (Kh353.low ⟨Kh350.cost a M,M.below⟩) (gx m (qW a)) m.2.2.1:=by
 refine⟨h.wh,zK h, ?_⟩;rw[Bw];exact(iW (zK h) h.wh h.bl (u4 h)).symm.trans (iW (zK h) h.wh h.wh rfl)
end Cw
namespace Cw
open PySem PySem.Spec PyProof.Rows L2 My
def bw (dyes:List qE):List I3:=dyes.map fun d=>d.1
def bT (dyes:List qE):hA:=dyes.map fun d=>d.2.1
structure XO (parts:List I3)(prices:hA)(colour:I3):Prop where
 fine:∀m,eM parts prices colour=some m->(0 < m.2.2.1/\m.2.2.1<=1000000000000000)/\0<=gx m prices/\gx m prices<=1000000000000000
def l7 (parts:List I3)(prices:hA)(o:Option (Int×Int))(t:nv):Option (Int×Int):=match o with
 |none=>none
 |some f=>match eM parts prices t.1 with
  |none=>none
  |some m=>some (f.1*m.2.2.1+t.2.1*gx m prices*f.2,f.2*m.2.2.1)
def jX (dyes:List qE)(tints:List nv):Option (Int×Int):=tints.foldl (l7 (bw dyes) (bT dyes)) (some (0,1))
def cO (dyes:List qE)(tints:List nv):Option hA:=(jX dyes tints).map fun f=>cR f.1 f.2
def OC:∀l:List nv,l.foldl (l7 parts prices) none=none
 |[]=>rfl
 |_::l=>OC l
structure NF (dyes:List qE):Prop where
 len:dyes.length<=5
 parts:∀d∈dyes,gI 1000 d.1
 price:∀d∈dyes,0<=d.2.1/\d.2.1<=1000
structure zP (dyes:List qE)(tints:List nv):Prop where
 len:tints.length<=4
 col:∀t∈tints,gI 1000 t.1
 grams:∀t∈tints,0<=t.2.1/\t.2.1<=1000
 mix:∀t∈tints,XO (bw dyes) (bT dyes) t.1
def Ur (h:zP dyes tints):∀i,i<=tints.length-> ∀f,(tints.take i).foldl (l7 (bw dyes) (bT dyes)) (some (0,1))=some f->0<=f.1/\0 < f.2/\f.2<=1000000000000000^i
 |0,_,f,e=>by grind
 |i+1,hi,f,e=>by
  have J:=hi;have M:=ab5 J;rw[ac3,abX J,abR] at e;cases L:(tints.take i).foldl (l7 _ _) _ with
  |none=>rw[L] at e;contradiction
  |_ g=>
   rw[L] at e;obtain⟨g1,Z,O⟩:=Ur h i (by lia) g L;have e:l7 _ _ (some g) tints[i]=some f:=e;delta l7 at e;cases hc:eM _ _ tints[i].1 with
   |none=>rw[hc] at e;contradiction
   |_ m=>
    rw[hc] at e;injection e with e;subst e;obtain⟨⟨Y,U⟩,c1,c2⟩:=(h.mix _ M).fine m hc;exact⟨Int.add_nonneg (abk g1 (by omega)) (abk (abk ((h.grams _ M).1) c1) (by omega)),abl Z Y,(Int.mul_le_mul O U (by omega) (abh (by omega) O))⟩
def Uy {x:Int}(hi:i<=4)(h:x<=1000000000000000^i):x < 2^250:=by
 have:i=0\/i=1\/i=2\/i=3\/i=4:=by lia
 lia
def Uz:(2:Int)^250 < 2^2000:=by
 omega
section
variable {P:dn}{w:fx}{K:b0}{mg:gp}{base:Heap}{t:jC}
abbrev dU:Df:=⟨"centimetre_cost",69,["dyes","tints"],fun K t=>fz 2 (AC (ag (u9 K t)) (AC (ag (sO K t)) A0)) (fun x=>NF x.1/\zP x.1 x.2.1) (jA (ag af)) (fun x=>cO x.1 x.2.1)⟩
def bF:dP ["dyes","tints","parts","dye","prices","upper","lower","tint","mix"] dU:=by walk_at"s"
def vK (F:bh K dU f fd)(T:Txt K mg t)(jS:aL P w K mg base t 1 l0)(d_:aL P w K mg base t 1 gz)(ma:aL P w K mg base t 5 kn):dO P w K mg base t 6 f fd dU:=by
 refine mT F bF fun H hr=>⟨_,(aa (qK (i:=2) (own:=[("dye",3)]) rfl bF.nd rfl rfl (uI rfl rfl rfl rfl) (rP K aN) (bC (by rfl)) (fun _ _ _ _ _=>(iZ 3 bF.nd)) (fun _ _ _ _ _=>c6) (fun _ _ _ _ _=>(aF K dJ))) (aa (qK (i:=4) (own:=[("dye",3)]) rfl bF.nd rfl rfl (uI rfl rfl rfl rfl) (rP K aN) (bC (by rfl)) (fun _ _ _ _ _=>(iZ 3 bF.nd)) (fun _ _ _ _ _=>c6) (fun _ _ _ _ _=>(aF K dJ))) (aa (dC 5 bF.nd ai) (aa (dC 6 bF.nd ai) (aa (ek adF rfl (rP K bz) (iZ 7 bF.nd) (aa (dC 8 bF.nd (bJ ma hr (cD bP lO (aF K VY)))) (aa (a_ (ej (gv (pv 8))) (ae (aj ke)) aD) (aa (dC 5 bF.nd (bc kZ (bc fK uQ (aF K (pv 8))) (bc fK (bc fK (aF K VY) (bJ d_ hr (aY (pv 8) lO))) Pz))) (ae (dC 6 bF.nd (bc fK Pz (aF K (pv 8))))))))) (ae (aj (bJ jS hr (aY uQ Pz))))))))),fun G dyes J iE Vp hs h7 WD hp=> ?_⟩
 try dsimp only at hp
 try dsimp only[je,rd]
 obtain⟨p1,p2⟩:=hp;intro G0 H0 e0 D kD;have dl:dyes.length < sizeLine:=adf p1.len (by decide);refine cB e0.gh (R:=ag (g6 K)) (x:=bw dyes) (eT (Rz:=u9 K t) (zs:=dyes) (bD (ab rfl h7 e0.gg)) dl fun z hz x G6 H6 e6 r6=>⟨_,cE,rfl,kU T (ab rfl r6 sr)⟩) fun FC G1 H1 e1 Of=> ?_
 refine cB e1.gh (R:=ag af) (x:=bT dyes) (eT (Rz:=u9 K t) (zs:=dyes) (bD (ab rfl h7 (e0.gg.trans e1.gg))) dl fun z hz x G6 H6 e6 r6=>⟨_,cE,rfl,kT T (ab rfl r6 sr)⟩) fun sX G2 H2 e2 t9=> ?_
 refine cB e2.gh (R:=af) (x:=0) ao fun v_u G3 H3 e3 h_u=>cB e3.gh (R:=af) (x:=1) ao fun v_l G4 H4 e4 Ic=> ?_
 have e04:=((e1.trans e2).trans e3).trans e4;have Z:∀y∈bw dyes,gI 1000 y:=fun y hy=>by
  obtain⟨d,hd,rfl⟩:=acA.mp hy;exact p1.parts d hd
 have M:∀y∈bT dyes,0<=y/\y<=1000:=fun y hy=>by
  obtain⟨d,hd,rfl⟩:=acA.mp hy;exact p1.price d hd
 have l1:(bw dyes).length=dyes.length:=aca ..;have l2:(bT dyes).length=dyes.length:=aca ..
 show qe _ _ _ _ _ _
 refine yi (Rz:=sO K t) (zs:=J) e4.gh (bD (ab rfl WD (e0.gg.trans e04.gg))) fun G5 H5 e5=>⟨fun i Y G' H'=>∃u l a b c,(J.take i).foldl (l7 (bw dyes) (bT dyes)) (some (0,1))=some (u,l)/\Y=[some iE,some Vp,some FC,a,some sX,some (.int u),some (.int l),b,c]/\Ext G0 H0 G' H'/\aE G5 G'/\aE G4 G'/\i<=J.length,xi5 0 1 none none none ⟨rfl,by rw[show v_u=.int 0 from h_u,show v_l=.int 1 from Ic];rfl,e04.trans e5,aE.refl _,e5.gg,adz _⟩, ?_, ?_, ?_⟩
 .rintro i Y G' H' ⟨u,l,a,b,c,_,_,ex,sm,_⟩;exact⟨sm,ex.gh⟩
 .rintro i L Y G' H' hz ⟨u,l,a,b,c,hf,rfl,ex,sm,s4,hi⟩ v_t G6 H6 e6 h_t;have hm:L∈J:=acB hz;have hlt:i < J.length:=(abZ.mp hz).1;have ex6:=ex.trans e6;have s6:aE G4 G6:=s4.trans e6.gg;have hpa:ag (g6 K) G6 FC (bw dyes):=aK.mono ((e2.gg.trans (e3.gg.trans e4.gg)).trans s6) Of;have hpr:ag af G6 sX (bT dyes):=aK.mono ((e3.gg.trans e4.gg).trans s6) t9;have ft:∀o,l7 (bw dyes) (bT dyes) (some (u,l)) L=o->(J.take (i+1)).foldl (l7 (bw dyes) (bT dyes)) (some (0,1))=o:=fun o ho=>by
   rw[ac3,hz,adE,abR,hf];exact ho
  refine cB e6.gh (R:=jA (xF K t)) (ak (fY (aR hpa) (aR hpr) (iP T (aR h_t))) ⟨by show(bw dyes).length<=5;rw[l1];exact p1.len,Z,p2.col L hm,by show(bT dyes).length=(bw dyes).length;rw[l1,l2],M⟩) fun Y0 G7 H7 e7 Tn=> ?_
  cases hc:eM (bw dyes) (bT dyes) L.1 with
  |none=>
   rw[hc] at Tn;refine eR e7.gh (d:=true) (RT.eq (bZ (bL (aR Tn))) rfl) (fun _ G8 H8 U=> ?_) (fun h=>by nomatch h);refine cf U.gh (R:=jA (ag af)) jW fun v G9 H9 e9 r9=>kD v G9 H9 (((ex6.trans e7).trans U).trans e9) ?_
   have:cO dyes J=none:=by
    delta cO jX;rw[<- ac0 (i+1) J,abR,ft none (by delta l7;rw[hc]),OC];rfl
   rw[this];exact r9
  |some m=>
   rw[hc] at Tn;have D5:xF K t G7 Y0 m:=Tn.2;obtain⟨⟨w1,w2⟩,c1,c2⟩:=(p2.mix L hm).fine m hc;have mo:=Bu (by rw[l1];exact p1.len) Z (p2.col L hm) m (by
    rcases u0 _ _ _ hc with q|q
    .exact q
    .cases q)
   have gr:=p2.grams L hm;refine eR e7.gh (d:=false) (RT.eq (bZ (bL (aR Tn))) rfl) (fun h=>by contradiction) (fun _ G8 H8 U=> ?_);have hu:af G8 (.int u) u:=rfl;have hl:af G8 (.int l) l:=rfl;refine cB U.gh (R:=af) (x:=u*m.2.2.1+L.2.1*gx m (bT dyes)*l) (oF (qo (aR hu) (jq T (ab rfl D5 U.gg)) (.inr (by omega))) (qo (qo (mx T (ab rfl h_t (e7.gg.trans U.gg))) (ak (bX (ab rfl D5 U.gg) (ab rfl hpr (e7.gg.trans U.gg))) ⟨mo.l1,fun y hy=>by have:=mo.ix y hy;rw[l1] at this;show 0<=y/\y < ((bT dyes).length:Int);rw[l2];exact this,M⟩) (.inl (by omega))) (aR hl) (.inl ?_))) fun v_u2 G9 H9 e9 h_u2=> ?_
   .have h1:L.2.1*gx m (bT dyes)<=1000*1000000000000000:=Int.mul_le_mul gr.2 c2 c1 (by decide);have h2:0<=L.2.1*gx m (bT dyes):=abk gr.1 c1;omega
   .have hl9:af G9 (.int l) l:=rfl;refine qd e9.gh (R:=af) (x:=l*m.2.2.1) (qo (aR hl9) (jq T (ab rfl D5 (U.gg.trans e9.gg))) (.inr (by omega))) fun v_l2 G10 H10 e10 WJ=> ?_
    have O:=e7.trans (U.trans (e9.trans e10));refine xi5 G10 (u*m.2.2.1+L.2.1*gx m (bT dyes)*l) (l*m.2.2.1) a (some v_t) ⟨some Y0,ft _ (by delta l7;rw[hc]), ?_,ex6.trans O,sm.trans (e6.gg.trans O.gg),s6.trans O.gg,hlt⟩;rw[show v_u2=.int _ from h_u2,show v_l2=.int _ from WJ];rfl
 .rintro Y G' H' ⟨u,l,a,b,c,hf,rfl,ex,sm,s4,hi⟩;obtain⟨b1,b2,b3⟩:=Ur p2 _ hi (u,l) hf;rw[ac1] at hf;dsimp only;have hu:af G' (.int u) u:=rfl;have hl:af G' (.int l) l:=rfl;refine cf ex.gh (R:=jA (ag af)) (ph (ak (x:=(u,l,())) (bX (aR hu) (aR hl)) ⟨b1,b2, ?_⟩)) fun v G9 H9 e9 r9=>kD v G9 H9 (ex.trans e9) ?_
  .exact Int.lt_trans (Uy p2.len b3) Uz
  .have:cO dyes J=some (cR u l):=by
    delta cO jX;rw[hf];rfl
   rw[this];exact r9
def pF (rooms:List cu)(wide drop rep:Int)(dyes:List qE)(tints:List nv):Option hA:=match bg rooms wide drop rep,cO dyes tints with
 |some l,some c=>some (cR (aM l rep*c.getD 0 0) (c.getD 1 0))
 |_,_=>none
structure XM (st:aC):Prop where
 rooms:st.2.2.2.2.2.2.1.length<=3
 room:∀r∈st.2.2.2.2.2.2.1,dM r
 xx:uE st
abbrev gy:Df:=⟨"total_cost",70,["state","dyes"],fun K t=>fz 2 (AC (aU K t) (AC (ag (u9 K t)) A0)) (fun x=>XM x.1/\NF x.2.1/\zP x.2.1 x.1.2.2.2.2.2.1/\ ∀l,bg x.1.2.2.2.2.2.2.1 x.1.2.2.2.1 x.1.2.2.1 x.1.2.1=some l->0<=aM l x.1.2.1/\aM l x.1.2.1 < 2^60) (jA (ag af)) (fun x=>pF x.1.2.2.2.2.2.2.1 x.1.2.2.2.1 x.1.2.2.1 x.1.2.1 x.2.1 x.1.2.2.2.2.2.1)⟩
def qf:dP ["state","dyes","strips","cost"] gy:=by walk_at"s"
def Dk (F:bh K gy f fd)(T:Txt K mg t)(jS:aL P w K mg base t 1 l0)(c8:aL P w K mg base t 4 fu)(eJ:aL P w K mg base t 6 dU)(aT:aL P w K mg base t 7 cp):dO P w K mg base t 8 f fd gy:=by
 refine mT F qf fun H Y=>⟨_,(aa (dC 2 qf.nd (bJ aT Y (aY (aF K aN) aN))) (aa (dC 3 qf.nd (bJ eJ Y (aY bz (aF K aN)))) (aa (a_ (PW.pt (tO (ej (gv bP)) (qr (ej (gv dJ))))) (ae (aj ke)) aD) (ae (aj (bJ jS Y (aY (bc fK (bJ c8 Y (aY bP (aF K aN))) (cW (dZ K) dJ ai)) (cW (dZ K) dJ ai)))))))),fun G J dyes bA iE L au h7 hp=> ?_⟩
 try dsimp only at hp
 try dsimp only[je,rd]
 obtain⟨p1,p2,p3,p4⟩:=hp;obtain⟨q1,q2,q3⟩:=p1;refine bQ (ak (bX (aQ T (aR au)) (aR au)) ⟨q1,q2,q3⟩) fun vB G1 H1 e1 iY=> ?_
 refine bQ (ak (bX (ab rfl h7 e1.gg) (eh T (ab rfl au e1.gg))) ⟨p2,p3⟩) fun Lj G2 H2 e2 O=> ?_
 have M:=aK.mono e2.gg iY;cases L:bg J.2.2.2.2.2.2.1 J.2.2.2.1 J.2.2.1 J.2.1 with
 |none=>
  rw[L] at M;refine RS.eq (x:=if true then none else none) (bj (d:=true) (RT.eq (oE (d:=true) (bZ (bL (aR M))) fun h=>by cases h) rfl) (fun _=>aB jW) (fun h=>by cases h)) ?_;delta pF;rw[L];rfl
 |some l=>
  rw[L] at M;cases hc:cO dyes J.2.2.2.2.2.1 with
  |none=>
   rw[hc] at O;refine RS.eq (y:=pF J.2.2.2.2.2.2.1 J.2.2.2.1 J.2.2.1 J.2.1 dyes J.2.2.2.2.2.1) (x:=if true then none else none) (bj (d:=true) (RT.eq (oE (bZ (bL (aR M))) fun _=>bZ (bL (aR O))) rfl) (fun _=>aB jW) (fun h=>by nomatch h)) ?_;delta pF;rw[L,hc];rfl
  |some c=>
   rw[hc] at O;have hl2:ag (cZ K t) G2 vB l:=M.2;have U:ag af G2 Lj c:=O.2;have nb:=p4 l L;have hcl:∃f,jX dyes J.2.2.2.2.2.1=some f/\c=cR f.1 f.2/\0<=f.1/\0 < f.2/\f.2 < 2^250:=by
    delta cO at hc;cases hf:jX dyes J.2.2.2.2.2.1 with
    |none=>rw[hf] at hc;contradiction
    |some f=>
     rw[hf] at hc;cases hc;have:=Ur p3 _ (ac_ _) f (by rw[ac1];exact hf)
     exact⟨f,rfl,rfl,this.1,this.2.1,Uy p3.len this.2.2⟩
   obtain⟨f,_,Z,f1,f2,f3⟩:=hcl;have c0:c.getD 0 0=f.1 / (Int.gcd f.1 f.2:Int):=by rw[Z];rfl
   have c1:c.getD 1 0=f.2 / (Int.gcd f.1 f.2:Int):=by rw[Z];rfl
   have b1:0<=c.getD 0 0:=by rw[c0];exact Int.ediv_nonneg f1 (by omega)
   have b2:0 < c.getD 1 0:=by
    rw[c1];exact Int.ediv_pos_of_pos_of_dvd f2 (by omega) (Int.gcd_dvd_right ..)
   have b3:c.getD 1 0 < 2^2000:=by
    rw[c1];exact abi (Int.ediv_le_self _ (by lia)) (Int.lt_trans f3 Uz)
   refine RS.eq (x:=if false then none else some (cR (aM l J.2.1*c.getD 0 0) (c.getD 1 0))) (bj (d:=false) (RT.eq (oE (bZ (bL (aR M))) fun _=>bZ (bL (aR O))) rfl) (fun h=>by contradiction) (fun _=>aB (ph (ak (x:=(aM l J.2.1*c.getD 0 0,c.getD 1 0,())) (bX (qo (ak (x:=(l,J.2.1,())) (bX (aR hl2) (bK T (ab rfl au (e1.gg.trans e2.gg)))) ⟨lM L,by have:=q3.rep;show 0 < J.2.1;lia⟩) (aJ (aR U) ao (by decide) (by rw[Z];rfl)) (.inl (by omega))) (aJ (aR U) ao (by decide) (by rw[Z];rfl))) ⟨abk nb.1 b1,b2,b3⟩)))) ?_;delta pF;rw[L,hc];rfl
end
end Cw
namespace L2
open PySem PySem.Spec PyProof.Rows
def Cx.in1 (X:Cx):Cx:={X with A:=X.A.in1,xe:=fun _ _=>False}
def Cx.Ok.in1 {X:Cx}(o:X.Ok):X.in1.Ok:=⟨o.mod,o.kind,o.glob,o.blt,o.above,o.inj,o.has,o.cab,o.hd,o.frames,o.stk,o.exf,o.bs,o.QG,o.Ml,o.MP,o.xk,o.WN⟩
def Cx.Ok.Wd {X:Cx}(o:X.in1.Ok):X.Ok:=⟨o.mod,o.kind,o.glob,o.blt,o.above,o.inj,o.has,o.cab,o.hd,o.frames,o.stk,o.exf,o.bs,o.QG,o.Ml,o.MP,o.xk,o.WN⟩
def Inv.in1 (I:Inv X nj σ H s):Inv X.in1 nj σ H s:=⟨I.ok.in1,I.os,I.bare,I.base,I.loc,I.cell,I.free,I.pH,I.pin,I.cK,I.len⟩
def Inv.Wd (I:Inv X.in1 nj σ H s):Inv X nj σ H s:=⟨I.ok.Wd,I.os,I.bare,I.base,I.loc,I.cell,I.free,I.pH,I.pin,I.cK,I.len⟩
def XQ (X:Cx)(pn:kB)(σ:St)(kv:ee)(r:V->Hp->VK->Prop):Prop:=
 ∀(nj:kB) (s:cq) (H:Hp) (x:V) (u:ee) (Q:VK),(∀p∈pn,p∈nj)->Inv X nj σ H s->RelV x u->r x H Q->wpAny (model X.prog X.w) X.A (call kv [u]) (EP X nj σ Q) (fun _ _=>False) s
def XS (X:Cx)(r:V->V->Hp->(Bool->Prop)->Prop):Prop:=
 ∀(nj:kB) (s:cq) (σ:St) (H:Hp) (x y:V) (u v:ee) (Q:Bool->Prop),Inv X nj σ H s->RelV x u->RelV y v->r x y H Q->
  wpAny (model X.prog X.w) X.A (richCompare .Gt u v) (fun a s'=>∃b,a=.bool b/\Inv X nj σ H s'/\(∀c o,s.heap.get? c=some o->s'.heap.get? c=some o)/\Q b) (fun _ _=>False) s
abbrev kwD (d:Option ee):List (Str×ee):=d.toList.map fun v=>("default",v)
def UC (b:Option (V×V))(vs:Array ee):Prop:=match b with
 |none=>vs=#[]
 |some (x,k)=>∃u w,vs=#[u,w]/\RelV x u/\RelV k w
section
variable {X:Cx}{nj pn:kB}{σ:St}{a:dr}{q:dr}{r:V->Hp->VK->Prop}{r2:V->V->Hp->(Bool->Prop)->Prop}{xs:List V}{d:Option ee}{R:Result->cq->Prop}{it S:dr}
def P7 (Y:X.calm=true)(hk:XQ X.in1 pn σ (.ref q) r)(hc:XS X.in1 r2)(W:Nat->Option (V×V)->Hp->Prop)(hne:it≠S)
  (hpn:∀p∈pn,p.1≠it/\p.1≠S)
  (hW:∀i b H,W i b H->dh X.K H a xs/\ ∀x,xs[i]?=some x->r x H fun k H'=>match b with
   |none=>W (i+1) (some (x,k)) H'
   |some (bx,bk)=>r2 k bk H' fun g=>W (i+1) (if g then some (x,k) else some (bx,bk)) H')
  (hE:∀b H v s,W xs.length b H->(match b with|none=>d=some v\/(d=none/\False)|some (x,_)=>RelV x v)->Inv X (nj++pn) σ H s->R (.ok (.ret v)) s)
  (hD:∀H,W xs.length none H->d.isSome=true):
  ∀(m i:Nat) (b:Option (V×V)) (H:Hp) (s:cq) (vs:Array ee) (n:Nat),xs.length - i=m->i<=xs.length->Inv X (nj++pn) σ H s->(xH X (nj++pn) H it/\xH X (nj++pn) H S)->s.heap.IsListIter it a i->
   s.heap.get? S=some {cls:=.type "list",dict:=none,data:=.seq vs n,slots:=#[]}->UC b vs->W i b H->codeAny (model X.prog X.w) X.A (.builtin "max.loop" ⟨[.ref it,.ref q,.ref S],kwD d⟩) R s:=by
 have nm:(toString "max"++toString ".loop":String)="max.loop":=by decide
 intro m
 induction m with
 |zero=>
  intro i b H s vs n hm hi I hf hit hS L w;have hin:i=xs.length:=by omega
  subst hin;obtain⟨hsq,_⟩:=hW _ _ _ w;obtain⟨its,rv,p,hz⟩:=I.list hsq;obtain⟨⟨f0,f1,f2,f3,f4,f5⟩,⟨g0,g1,g2,g3,g4,g5⟩⟩:=hf;refine codeAny_builtin F.entry_max_loop ?_;rw[Around.under_plainId aa2 _];refine aei (aex hS rfl ?_);have hl:=rv.length;cases b with
  |none=>
   have L:vs=#[]:=L;subst L;refine aei (aeB (aew (I.ok.hd Y) hit p.isList (by simp;omega) fun h' eb=> ?_));have I1:Inv X (nj++pn) σ H {s with heap:=h'}:=I.turned (fun b o L e=>eb b o L e) f0 f1 f3 f4 f5;have hd:=hD H w;cases d with
   |none=>nomatch hd
   |some dv=>exact aei (wpAny_rule (aet (hE none H dv _ w (.inl rfl) I1)))
  |some y=>
   obtain⟨x,k⟩:=y;obtain⟨u,w',rfl,ru,rw'⟩:=L;refine aei (aeB (aew (I.ok.hd Y) hit p.isList (by simp;omega) fun h' eb=> ?_));have I1:Inv X (nj++pn) σ H {s with heap:=h'}:=I.turned (fun b o L e=>eb b o L e) f0 f1 f3 f4 f5;have hS':=eb S _ (Ne.symm hne) hS;refine aei ?_;refine aeC hS' rfl (aei (aen (aet ?_)));exact hE (some (x,k)) H u _ w ru (I1.turned (fun b o L e=>(aa8 _ _ (Ne.symm L)).trans e) g0 g1 g3 g4 g5)
 |succ m ih=>
  intro i b H s vs n hm hi I hf hit hS L w;have hlt:i < xs.length:=by omega
  obtain⟨hsq,hstep⟩:=hW _ _ _ w;obtain⟨its,rv,p,hz⟩:=I.list hsq;have hx:xs[i]?=some xs[i]:=by simp[hlt]
  obtain⟨u,hu,ru⟩:=rv.get hx;have step:=hstep _ hx;obtain⟨fI,fS⟩:=hf;obtain⟨f0,f1,f2,f3,f4,f5⟩:=id fI;obtain⟨g0,g1,g2,g3,g4,g5⟩:=id fS;refine codeAny_builtin F.entry_max_loop ?_;rw[Around.under_plainId aa2 _]
  show wpAny _ X.A.in1 (seqItems? (.ref S)>>=_) _ _ s;refine aei (aex hS rfl ?_)
  refine aei (aeB (wpAny_pyNext_list_item hit p.isList (by simpa using hu) fun h' st' sb=> ?_));have I1:Inv X (nj++pn) σ H {s with heap:=h'}:=I.turned (fun b o L e=>(sb.2 b L).trans e) f0 f1 f3 f4 f5;have hS1:h'.get? S=_:=(sb.2 S (Ne.symm hne)).trans hS;obtain⟨oI,eI,cI,dI⟩:=id st';have I2:Inv X (nj++pn++[(it,oI),(S,{cls:=.type "list",dict:=none,data:=.seq vs n,slots:=#[]})]) σ H {s with heap:=h'}:=I1.F9 fun y O=>by
   rcases acq.mp O with O|O
   .exact I1.pin y (acs _ O)
   .rcases acu.mp O with rfl|O
    .exact⟨eI,f0,f1,f2,fun v z=>by rw[dI] at z;contradiction⟩
    .rw[acF.mp O];exact⟨hS1,g0,g1,g2,fun v z=>by cases z⟩
  have subP:∀y∈pn,y∈nj++pn++[(it,oI),(S,{cls:=.type "list",dict:=none,data:=.seq vs n,slots:=#[]})]:=fun y hy=>acr _ (acs _ hy)
  have key:=hk _ _ H _ u _ subP I2.in1 ru step;have fin:∀(b':Option (V×V)) (M:Hp) (Z:cq) (vs':Array ee) (n':Nat),Inv X (nj++pn) σ M Z->M it=none->M S=none->Z.heap.get? it=some oI->Z.heap.get? S=some {cls:=.type "list",dict:=none,data:=.seq vs' n',slots:=#[]}->UC b' vs'->W (i+1) b' M->
    codeAny (model X.prog X.w) X.A (.builtin "max.loop" ⟨[.ref it,.ref q,.ref S],kwD d⟩) R Z:=fun b' M Z vs' n' J j1 j2 j3 j4 j5 j6=>
   ih (i+1) b' M Z vs' n' (by omega) hlt J ⟨⟨j1,f1,f2,f3,f4,f5⟩,⟨j2,g1,g2,g3,g4,g5⟩⟩ ⟨oI,j3,cI,dI⟩ j4 j5 j6
  cases b with
  |none=>
   have L:vs=#[]:=L;subst L;refine aei (aeB (aem (aep key (fun kv Z O=> ?_) (fun _ _ z=>z.elim))));obtain⟨k,M,I3,r3,q3⟩:=O;have J3:=I3.Wd;have pI:=J3.pin (it,oI) (acs _ (acs _ (.head _)));have U:=J3.pin (S,{cls:=.type "list",dict:=none,data:=.seq #[] n,slots:=#[]}) (acs _ (acs _ (.tail _ (.head _))));have J4:Inv X (nj++pn) σ M Z:=J3.mQ;refine aei ?_;refine aeC U.1 rfl ?_;rw[nm];refine aet ⟨aec aa2 _,fin (some (xs[i],k)) M _ #[u,kv] _ (J4.turned (fun b o L e=>(aa8 _ _ (Ne.symm L)).trans e) U.2.1 g1 g3 g4 g5) pI.2.1 U.2.1 ((aa8 _ _ hne.symm).trans pI.1) (aa9 _ U.1 rfl) ⟨u,kv,rfl,ru,r3⟩ q3⟩
  |some y=>
   obtain⟨bx,bk⟩:=y;obtain⟨ub,uk,rfl,rub,ruk⟩:=L;refine aei (aeB (aem (aep key (fun kv Z O=> ?_) (fun _ _ z=>z.elim))));obtain⟨k,M,I3,r3,q3⟩:=O;refine aei (aeB (aem (aei (aep (hc _ Z σ M k bk kv uk _ I3 r3 ruk q3) (fun ans s4 O=> ?_) (fun _ _ z=>z.elim)))));obtain⟨g,rfl,I4,_,q4⟩:=O;have J3:=I4.Wd;have pI:=J3.pin (it,oI) (acs _ (acs _ (.head _)));have U:=J3.pin (S,{cls:=.type "list",dict:=none,data:=.seq #[ub,uk] n,slots:=#[]}) (acs _ (acs _ (.tail _ (.head _))));have J4:Inv X (nj++pn) σ M s4:=J3.mQ;refine aei (aem (aeA ?_));refine aei (aen (aet ?_));cases g with
   |true=>
    dsimp only[ad4];refine aei ?_;refine aeC U.1 rfl (aei (aen ?_));rw[nm];refine aet ⟨aec aa2 _,fin (some (xs[i],k)) M _ #[u,kv] _ (J4.turned (fun b o L e=>(aa8 _ _ (Ne.symm L)).trans e) U.2.1 g1 g3 g4 g5) pI.2.1 U.2.1 ((aa8 _ _ hne.symm).trans pI.1) (aa9 _ U.1 rfl) ⟨u,kv,rfl,ru,r3⟩ q4⟩
   |false=>
    dsimp only[aaS,ad1];refine aei (aen ?_);rw[nm];exact aet ⟨aec aa2 _,fin (some (bx,bk)) M s4 #[ub,uk] n J4 pI.2.1 U.2.1 pI.1 U.1 ⟨ub,uk,rfl,rub,ruk⟩ q4⟩
def QJ (a v:ee)(d:Option ee):argsOk "max" ⟨[a],("key",v)::kwD d⟩:=by
 cases d with
 |none=>rfl
 |_ d=>kernel_rfl
def EL (L:X.calm=true)(hk:XQ X.in1 pn σ (.ref q) r)(hc:XS X.in1 r2)(W:Nat->Option (V×V)->Hp->Prop)(M:Inv X (nj++pn) σ H0 s)(Y:dh X.K H0 a xs)(w0:W 0 none H0)
  (hW:∀i b H,W i b H->dh X.K H a xs/\ ∀x,xs[i]?=some x->r x H fun k H'=>match b with
   |none=>W (i+1) (some (x,k)) H'
   |some (bx,bk)=>r2 k bk H' fun g=>W (i+1) (if g then some (x,k) else some (bx,bk)) H')
  (hd:match dV,d with|none,none=>True|some x,some v=>RelV x v|_,_=>False)
  (hE:∀b H,W xs.length b H->match b,dV with|some (x,_),_=>Q x H|none,some x=>Q x H|none,none=>False):
  wpAny (model X.prog X.w) X.A (call (.builtin "max") [.ref a] (("key",.ref q)::kwD d)) (EP X nj σ Q) E s:=by
 have nm:(toString "max"++toString ".loop":String)="max.loop":=by rfl
 refine aej (codeAny_call_builtin F.plain_max F.entry_max ?_);have go:wpAny (model X.prog X.w) X.A.in1 (Builtin.«max» ⟨[.ref a],("key",.ref q)::kwD d⟩) (fun fin s'=>match fin with
   | .done f=>(match(Except.ok f:Result) with| .ok (.ret v)=>EP X nj σ Q v s'| .ok _=>False| .error e=>E e s')
   | .again c'=>c'.quiet=true/\codeAny (model X.prog X.w) X.A c' (fun r s'=>match r with| .ok (.ret v)=>EP X nj σ Q v s'| .ok _=>False| .error e=>E e s') s') E s:=by
  have eb:Builtin.Builtins.bindParams "max" ["key","default"] 0 ⟨[],("key",.ref q)::kwD d⟩=pure [some (.ref q),d]:=by cases d<;>rfl
  refine aei (wpAny_of_eq eb ?_);refine aei (aet ?_);obtain⟨its,rv,p,hz⟩:=M.list Y;refine aei (aeu p.isList ?_);have I1:Inv X _ σ H0 {s with heap:=s.heap.push {cls:=.type "list_iterator",data:=.fields #[.ref a,.int 0 0]}}:=M.kept fun b o e=>aa6 _ e
  refine aei (wpAny_newObj_type ?_);have J:(s.heap.push {cls:=.type "list_iterator",data:=.fields #[.ref a,.int 0 0]}).objs.size=s.heap.objs.size+1:=aba ..;have I2:Inv X _ σ H0 {s with heap:=(s.heap.push {cls:=.type "list_iterator",data:=.fields #[.ref a,.int 0 0]}).push {cls:=.type "list",data:=.seq #[]}}:=I1.kept fun b o e=>aa6 _ e
  refine aet ⟨aec aa2 _, ?_⟩;refine P7 L hk hc W (by rw[J];exact adp (adj _)) (fun y hy=> ?_) hW (fun b H v s' w O I=> ?_) (fun H w=> ?_) _ 0 none H0 _ #[] 0 rfl (adz _) I2 ⟨?_, ?_⟩ ?_ ?_ rfl w0
  .have:=aa_ (M.pin y (acs _ (acs _ hy))).1
   rw[J];exact⟨adp this,adp (adi this)⟩
  .have e:=hE b H w;cases b with
   |none=>
    cases dV with
    |none=>exact e.elim
    |some x=>
     rcases O with O|O
     .subst O;exact⟨x,H,I.mQ,hd,e⟩
     .exact O.2.elim
   |some y=>
    obtain⟨x,k⟩:=y;exact⟨x,H,I.mQ,O,e⟩
  .have e:=hE none H w;cases dV with
   |none=>exact e.elim
   |some x=>
    cases d with
    |none=>exact hd.elim
    |some v=>rfl
  .exact M.Hb (ac_ _) (M.cK.fresh (ac_ _))
  .exact M.Hb (by rw[J];exact ada _) (M.cK.fresh (by rw[J];exact ada _))
  .exact⟨_,aa6 _ (aa7 _ rfl),rfl,rfl⟩
  .exact aa7 _ rfl
 simp only[checkBuiltinCall,F.kind_max];have ha:=QJ (.ref a) (.ref q) d;cases U:Manifest.signature? "max" with
 |none=>exact aet go
 |some sig=>
  have Z:=by simpa only[argsOk,U] using ha
  simp only[Z];exact aet go
end
end L2
namespace HT
open PySem PyProof.Rows
def Jc (A:eu)(s:cq)(a:Int)(t:Tok)(c:Int)(u:Tok)(prog:dn)(w:fx)(E:ee->cq->Prop)(Q:ee->cq->Prop)(h:Q (.bool (decide (c < a))) s):
  wpAny (model prog w) A (richCompare .Gt (.int a t) (.int c u)) Q E s:=
 (PyProof.Rows.gt_int h:wpAny _ A _ Q E s)
section
open PySem.SeqAt
open PySem.AutoSeq1 (wpAny_loadPart')
open PySem.MeetsSeq PySem.MeetsSeq2 PySem.MeetsSeq3
def C9 (l b:dr)(L J:Array ee)(n n2:Nat)(dd dd2:Option dr)(sl sl2:Array (Option ee))(ns ms:hA)(hi:IntsAre L.toList ns)(hj:IntsAre J.toList ms):
  Meets (Builtin.«tuple.__gt__» ⟨[.ref l,.ref b],[]⟩)
   (fun _ R s=>s.heap.get? l=some {cls:=.type "tuple",dict:=dd,data:=.seq L n,slots:=sl}/\s.heap.get? b=some {cls:=.type "tuple",dict:=dd2,data:=.seq J n2,slots:=sl2}/\
    R (.ok (.ret (.bool (lexLt ms ns)))) s):=
 .of_wp fun prog w A R s h=>by
  obtain⟨hp,g,d,tk,os⟩:=s;obtain⟨hl,hb,h⟩:=h;have f2:=AutoSeq1.sub_tuple_tuple;have z1:L.size=ns.length:=by rw[<- hi.length];simp
  have z2:J.size=ms.length:=by rw[<- hj.length];simp
  wp_walk using aeo hl,aeo hb,wpAny_forIn_list _ (fun rest b s'=>b.1=none/\s'=⟨hp,g,d,tk,os⟩/\ ∃(vs ws:kA) (O U:hA),rest=vs.zip ws/\
   IntsAre vs O/\IntsAre ws U/\O.length+J.size=U.length+L.size/\R (.ok (.ret (.bool (lexLt U O)))) ⟨hp,g,d,tk,os⟩) _
  case turn=>
   rintro⟨y,x⟩ rest b s' ⟨hb',rfl,vs,ws,O,U,Y,hvi,Z,M,hR⟩;cases hvi with
   |nil=>rw[List.zip_nil_left] at Y;cases Y
   |cons a t hvi'=>
    cases Z with
    |nil=>rw[List.zip_nil_right] at Y;nomatch Y
    |cons c u hwi'=>
     rw[ac4] at Y;injection Y with hyx hrest
     injection hyx with hy hx
     subst hy hx;rw[BA] at hR;simp only[ab8] at M;obtain⟨e,he,hiff⟩:=TU A.in1 ⟨hp,g,d,tk,os⟩ a t c u;refine aei (he prog w _ _ ?_);cases e with
     |true=>
      rw[ad3 (hiff.mp rfl).symm] at hR
      wp_walk
      exact⟨rfl,rfl,_,_,_,_,hrest,hvi',hwi',by omega,hR⟩
     |false=>
      rw[ad2 (fun q=>absurd (hiff.mpr q.symm) aaT)] at hR;have hri:=Jc A.in1 ⟨hp,g,d,tk,os⟩ a t c u prog w
      wp_walk using hri
      exact⟨_,rfl,by simpa using hR⟩
  case fin=>
   rintro⟨b1,b2⟩ s' ⟨hb',rfl,vs,ws,O,U,Y,hvi,Z,M,hR⟩;simp only at hb';subst hb';have hv:lexLt U O=decide (J.size < L.size):=by
    cases hvi with
    |nil=>
     cases Z with
     |nil=>
      simp only[acb] at M;rw[vq];exact(adX (by omega)).symm
     |cons c u hw=>
      simp only[acb,ab8] at M;rw[Bz];exact(adX (by omega)).symm
    |cons a t hv=>
     cases Z with
     |nil=>
      simp only[acb,ab8] at M;rw[By];exact(adZ (by omega)).symm
     |cons c u hw=>
      rw[ac4] at Y;contradiction
   rw[hv] at hR
   wp_walk
   exact⟨_,rfl,by simpa [Builtin.Tuple.tupleCompareSizes] using hR⟩
  case h=>
   exact⟨rfl,rfl,L.toList,J.toList,ns,ms,rfl,hi,hj,by omega,h⟩
end
def MJ (hl:IsTup s.heap l items)(hb:IsTup s.heap b items2)(hi:IntsAre items.toList ns)(hj:IntsAre items2.toList ms)
  (hu:A.units < cLine) (h:Q (.bool (lexLt ms ns)) s):wpAny (model prog w) A (richCompare .Gt (.ref l) (.ref b)) Q E s:=by
 obtain⟨⟨cls,dd,data,Z⟩,U,hc,n,hd⟩:=id hl;obtain⟨⟨Y,O,data2,sl2⟩,J,M,n2,L⟩:=id hb;subst hc hd M L;exact richCompare_meets_room ⟨_,U,rfl⟩ ⟨_,J,rfl⟩ PySem.F.slot_tuple_gt PySem.F.entry_tuple_gt (PySem.F.args_tuple_gt_2 _ _) (C9 l b _ _ n n2 dd O Z sl2 ns ms hi hj)
  ⟨U,J,show Value.bool _≠_/\Q _ s from⟨(fun x=>nomatch x),h⟩⟩ hu
end HT
namespace L2
open PySem PySem.Spec PyProof.Rows
def rGtI:V->V->Hp->(Bool->Prop)->Prop:=fun x y _ Q=>∃i j,x=.int i/\y=.int j/\Q (decide (j < i))
def Um:XS X rGtI:=by
 intro nj s σ H x y u v Q I L J ⟨i,j,ex,M,q⟩;subst ex M;obtain⟨t,rfl⟩:=L;obtain⟨t',rfl⟩:=J;exact HT.Jc _ _ _ _ _ _ _ _ _ _ ⟨_,rfl,I,fun _ _ e=>e,q⟩
def rGtT (K:b0):V->V->Hp->(Bool->Prop)->Prop:=fun x y H Q=>∃a b ns ms,x=.ref a/\y=.ref b/\mO K H a (ns.map V.int)/\mO K H b (ms.map V.int)/\Q (HT.lexLt ms ns)
def Ul (Z:X.A.units < cLine):XS X (rGtT X.K):=by
 intro _ s σ H x y u v Q I M L ⟨a,b,ns,ms,ex,ey,ha,hb,q⟩;subst ex ey;subst M;subst L;obtain⟨its,O,U,_⟩:=I.tuple ha;obtain⟨J,r2,p2,_⟩:=I.tuple hb;have i1:=intsAre_of O;have Y:=intsAre_of r2;exact HT.MJ U p2 i1 Y Z ⟨_,rfl,I,fun _ _ e=>e,q⟩
def S7 {X:Cx}(F:fA X.prog X.w X.K X.mg X.base sQ k f fd ps sp)(M:fM k X.A.in1)(O:Binds X.K fd ps []):XQ X.in1 [] σ (.ref f) (fun x H Q=>sp [x] H Q E0):=by
 intro _ s H x u Q _ I L h;refine aej (adV (F.run _ _ s H _ [u] [x] Q E0 M I.aav (by have:=O s [u] I.DX (F.len _ _ _ _ h ▸ rfl);exact this) (.cons L .nil) h) fun r s' J=> ?_);cases r with
 |error e=>exact J.elim
 |ok U=>
  cases U with
  |ret u=>exact I.after J
  |next=>assumption
  |brk=>assumption
  |_=>assumption
end L2
namespace My
open PySem PySem.Spec PyProof.Rows L2
def QN (K:b0):Rp hA:=fun G v ns=>∃a,v=.ref a/\dh K G a (ns.map V.int)
instance {K:b0}:aK (QN K):=⟨fun s ⟨a,e,h⟩=>⟨a,e,s.seq h⟩⟩
section
variable {σ:L2.St}{G H:Hp}{K:b0}{a:Type}
def R7 (h:RE ta σ G H (QN K) ns)(h2:RE tb σ G H af i)(Z:0<=i)(Y:ns[i.toNat]?=some y):RE (il (gF K) ta tb) σ G H af y:=fun G' H' e Q q=>
 h G' H' e _ fun v U H1 L ⟨p,O,M⟩=>h2 U H1 (e.trans L) _ fun u G2 H2 J r2=>
  xi4 p _ i (.int y) ⟨O,r2,(J.gg.trans J.gh.at_).seq M,at_of (j:=i.toNat) (by lia) (by simp[*]),q _ _ _ (L.trans J) rfl⟩
def VQ (h:RE te σ G H (QN K) ns):RE (CU (fun xs H Q=>∃p ys,xs=[.ref p]/\(dh K H p ys\/mO K H p ys)/\Q (.int ys.length) H) (bO te fV)) σ G H af ns.length:=fun G' H' e Q q=>
 h G' H' e _ fun v O H1 J ⟨p,M,L⟩=>⟨p,_,by rw[M],.inl (J.gh.at_.seq L),q _ _ _ J (by show V.int _=V.int _;rw[aca])⟩
def Xf (ns:hA)(lo hi:ng):HH (ns.map V.int) lo hi=(cut ns lo hi).map V.int:=by
 delta HH cut
 simp
def dq (G:Hp):∀l:hA,Paired (af G) (l.map V.int) l
 |[]=>.nil
 |_::l=>.cons rfl (dq G l)
def Zi {lo hi:ng}(h:RE te σ G H (QN K) ns)(h1:RO tl σ G H lo)(h2:RO th σ G H hi):RE (tSl (Py K) te tl th) σ G H (ag af) (cut ns lo hi):=fun G' H' e Q q=>
 h G' H' e _ fun v G1 H1 L ⟨p,Z,U⟩=>h1 G1 H1 (e.trans L) _ fun G2 H2 O=>h2 G2 H2 ((e.trans L).trans O) _ fun G3 H3 M=>by
  have J:=O.trans M;refine⟨p,_,Z,(J.gg.trans J.gh.at_).seq U,fun l Y=> ?_⟩;have la:=Ext.laid (o:=.lst (HH (ns.map V.int) lo hi)) M.gh Y;refine q _ _ _ ((L.trans J).trans la) ⟨l,_,rfl,ah, ?_⟩;rw[Xf];exact dq _ _
def R6 (h:RE ta σ G H (XN K R) xs)(h2:RE tb σ G H af i)(h0:0<=i)(Y:xs[i.toNat]?=some y)(U:aK R:=by infer_instance):RE (il (L6 K) ta tb) σ G H R y:=fun G' H' e Q q=>
 h G' H' e _ fun v G1 H1 M ⟨p,vs,Z,O,pr⟩=>h2 G1 H1 (e.trans M) _ fun u G2 H2 J r2=>by
  obtain⟨w,hw,L⟩:=cw pr Y;exact xi4 p vs i w ⟨Z,r2,aE.tup (J.gg.trans J.gh.at_) O,at_of (by lia) hw,q _ _ _ (M.trans J) (aK.mono J.gg L)⟩
end
end My
namespace My
open PySem PySem.Spec PyProof.Rows L2
def Jf:V->List V->Hp->VK->Prop:=fun x vs H Q=>∃(l:dr) (ns:hA) (k:Int) (j:Nat),x=.ref l/\vs=[.int k]/\H l=some (.lst (ns.map V.int))/\ns[j]?=some k/\(∀m y,m < j->ns[m]?=some y->y≠k)/\Q .iB (upd H l (.lst ((ns.eraseIdx j).map V.int)))
def lY (f:a->b):∀(l:List a) (i:Nat),(l.eraseIdx i).map f=(l.map f).eraseIdx i
 |[],_=>rfl
 |_::_,0=>rfl
 |x::l,i+1=>by
  show f x::(l.eraseIdx i).map f=f x::(l.map f).eraseIdx i
  rw[lY f l i]
def P2:MtM X "list.remove" Jf:=by
 intro _ s σ H x vs v us Q I Y Z h;obtain⟨l,ns,k,j,rfl,rfl,U,hj,hno,q⟩:=h;subst Y;obtain⟨u,rfl,J⟩:=Z.one;obtain⟨t,rfl⟩:=J;obtain⟨z,its,n,r,hl,e⟩:=I.Bv U;have _:its.length=ns.length:=by rw[<- hl,aca]
 have hjl:=(abZ.mp hj).1;have at_:∀m (O:m < its.length),∃t',its[m]=.int _ t':=fun m O=>by
  have hm2:m < ns.length:=by lia
  have:(ns.map V.int)[m]?=some (.int (ns.getD m 0)):=by
   simp[*]
  obtain⟨u,hu,J⟩:=r.get this;obtain⟨t',rfl⟩:=J;exact⟨t',(abZ.mp hu).2⟩
 let eq:ee->_:=fun u=>match u with
  | .int a _=>a==k
  |_=>false
 refine adU F.slot_list_remove ⟨_,e,rfl⟩ F.entry_list_remove (F.args_list_remove_2 _ _)
  (MeetsSeq.list_remove l _ n _ eq (fun y hy=> ?_) j (by simp[*]) ?_ ?_ (by simp_all)) ⟨e, ?_⟩
 .obtain⟨m,O⟩:=acz.mp (by simpa using hy);obtain⟨L,M⟩:=abZ.mp O;obtain⟨t',e'⟩:=at_ m L;rw[<- M,e'];exact MeetsSeq.EqGives.int _ _ _ _
 .grind
 .grind
 .refine⟨.iB,_,I.Mu U e ?_ (by rw[lY];exact r.eraseIdx j) ?_,rfl,q⟩
  .grind
  .rw[aca];have:=qO ns j
   lia
def Je (K:b0):List V->Hp->VK->Prop:=fun vs H Q=>∃(a:dr) (ns:hA),vs=[V.ref a]/\dh K H a (ns.map V.int)/\ ∀(ns':hA) (p:dr),ns'.Perm ns->ns'.Pairwise (·<=·)->H p=none->Q (.ref p) (upd H p (.lst (ns'.map V.int)))
def E9 (K:b0)(h:X.K=K:=by rfl):jB X (.builtin "sorted") (Je K):=by
 subst h;intro _ s σ H vs us Q I r h;obtain⟨a,ns,rfl,Z,q⟩:=h;obtain⟨its,U,hl,Y⟩:=I.list Z;rw[Vals.FY r];have hi:=U.ints;refine PyProof.Rows.sorted_intsAny hl.isList hi (by rw[<- U.length];exact Y) fun J L h1 h2 h3=> ?_
 obtain⟨ep,O⟩:=PyProof.Rows.sortedAll_at _ its J;have M:(L.map V.int).length<=sizeLine:=by rw[aca,h2.length_eq,<- aca];exact Y
 exact⟨.ref _,upd H _ (.lst _),I.laid (fun _ _=>PyProof.Rows.sortedAll_old) (ada _) ⟨M,J.toList,ep,wm h1,O⟩,rfl,q L _ h2 h3 (I.cK.fresh (ada _))⟩
def E_:bootBuiltins "sorted"=some (.builtin "sorted"):=by rfl
def NQ (to:TE):TE:=fun σ H Q=>to σ H fun x H1=>∃n,x=.int n/\Q (.int (Builtin.Int.intBits n:Nat)) H1
def PD (U:PE X o to)(L:attributeBase o "bit_length" X.env (eval o X.env)=eval o X.env:=by rfl)(J:(apos.endLine==pos.line)=true:=by rfl):PE X (.Call (.Attribute o "bit_length" apos) [] [] pos) (NQ to):=by
 intro nj s σ H Q I h;refine PySem.Call_method0 L J (gk (U nj s σ H _ I h) fun v Z z0=> ?_);obtain⟨x,H1,Y,O,M⟩:=z0;obtain⟨n,rfl,M⟩:=M;obtain⟨t,rfl⟩:=O;exact⟨"int",_,F.plainAttrs_int,F.slot_int_bit_length,F.type_int_bit_length,aee _ _ _,(fun _ e=>nomatch e),aaX rfl (PySem.evalArgs_none (call_gives F.slot_int_bit_length (aee _ _ _) F.entry_int_bit_length (F.args_int_bit_length_1 _) (AutoIntG2.int_bit_length_int_0 _ _) ⟨.int _,H1,Y.tok _,⟨_,rfl⟩,M⟩))⟩
def Y9 (ta:TA):TE:=fun σ H Q=>ta σ H fun vs H1=>∃j:Int,vs=[.int j]/\0<=j/\j<=1000/\ ∀l,H1 l=none->Q (.ref l) (upd H1 l (.lst ((upTo 0 j.toNat).map V.int)))
def Sd (h:0<=j)(h2:j<=1000):Builtin.Range.small 0 j 1=true/\Builtin.Range.rangeSize 0 j 1=(j.toNat:Nat):=by
 have J:(Builtin.Range.rangeSize 0 j 1)=if 0 < j then(j - 0 - 1) / 1+1 else 0:=by
  rfl
 delta Builtin.Range.small;dsimp only[Builtin.Range.rangeFitsLong,aaO,aaW,ad0,adT,show(1:Int)>0 by lia,ad4];grind
def tQ (hc:X.calm=true)(hg:Gl X "list")(hm:X.mg "list"=none)(O:Gl X "range")(M:X.mg "range"=none)(ha:PA X [a] ta)
  (hs:starEach [a] X.env=[(false,eval a X.env)]:=by rfl)
  (L:starEach [.Call (.Name "range" p2) [a] [] pos2] X.env=[(false,eval (.Call (.Name "range" p2) [a] [] pos2) X.env)]:=by rfl):
  PE X (.Call (.Name "list" p) [.Call (.Name "range" p2) [a] [] pos2] [] pos) (Y9 ta):=by
 intro _ s σ H Q I h;refine Call_ (lX I hg hm p7 (adG ?_ L rfl));refine aaY ?_;refine Call_ (lX I O M boot_range (adG (gk (ha _ _ s σ H _ I h) fun us J ⟨vs,H1,Z,r1,q1⟩=> ?_) hs rfl));obtain⟨j,e,h0,h1,q⟩:=q1;subst e;cases r1 with
 |cons r rr=>
  cases rr;obtain⟨t,rfl⟩:=r;refine call_range_1 ?_;refine aaZ ?_;have Y:Inv X _ σ H1 {J with heap:=J.heap.push {cls:=.type "range",data:=.fields #[.int 0 J.toks,.int j t,.int 1 (J.toks+1)]},toks:=J.toks+1+1}:=Z.kept fun b o e=>aa6 _ e
  obtain⟨c2,c3⟩:=Sd h0 h1;refine call_list_range (Z.ok.hd hc) (IsRange.new ..) c2 c3 (by omega) fun h' tk acc c' hk hD hI=> ?_
  have U:=BM hI;have es:kI 0 1 j.toNat=upTo 0 j.toNat:=by
   refine acm fun k _=>by lia
  rw[es] at U;have hz:((upTo 0 j.toNat).map V.int).length<=sizeLine:=by
   rw[aca,cg];exact adb (show _<=1000 by omega) (by decide)
  refine⟨.ref _,_,Y.laid (o:=.lst _) hk (ac_ _) ⟨hz,acc.toList,c',U,by exact hD⟩,rfl,q _ (Y.cK.fresh (ac_ _))⟩
def Wn (K:b0)(h:X.K=K:=by rfl):MtR X "list.index" (L7 K):=by subst h;exact SM
section
variable {σ:L2.St}{G H:Hp}{K:b0}{D:Ends}
def Vm (s:Sub G H)(h:RA t σ G H (AC af A0) (j,()))(M:0<=j)(h1:j<=1000)(k:∀p G' H',Ext G H G' H'->H' p=none->u D (σ.set i (some (.ref p))) (upd H' p (.lst ((upTo 0 j.toNat).map V.int)))):rC (tp (Y9 t) (i5 i)) u D σ H:=
 h G H (Ext.refl s) _ fun vs G' H' e ⟨v,r,O,J,U⟩=>by
  subst O;subst J;subst U;exact⟨j,rfl,M,h1,fun p L=>k p G' H' e L⟩
def Zm (h:RA ta σ G H (AC af A0) (j,()))(O:0<=j)(h1:j<=1000):RE (Y9 ta) σ G H (ag af) (upTo 0 j.toNat):=fun G' H' e Q q=>
 h G' H' e _ fun vs Z H1 J ⟨v,r,U,L,Y⟩=>by
  subst U;subst L;subst Y;exact⟨j,rfl,O,h1,fun p M=>q _ _ _ (J.trans (Ext.laid J.gh M)) ⟨p,_,rfl,ah,dq _ _⟩⟩
def Px (h:RE ta σ G H af n):RE (NQ ta) σ G H af ((Builtin.Int.intBits n:Nat):Int):=fun G' H' e Q q=>h G' H' e _ fun v M H1 L J=>⟨n,J,q _ _ _ L rfl⟩
def OX {ns:hA}(O:σ[j]?=some (some (.ref p)))(L:H p=some (.lst (ns.map V.int)))(s:Sub G H)(h:RE te σ G H af k)(hi:ns[i]?=some k)(J:∀m y,m < i->ns[m]?=some y->y≠k)
  (M:∀G' H',Ext G H G' H'->D.nx σ (upd H' p (.lst ((ns.eraseIdx i).map V.int)))):wt (Rq K "list" Jf (cc j) (bO te fV)) D σ H:=
 ⟨_,O,.inl ⟨rfl,_,dh.of L⟩,h G H (Ext.refl s) _ fun v G' H' e r=>xi4 p ns k i ⟨rfl,by rw[show v=.int k from r],e.hh _ _ L,hi,J,M G' H' e⟩⟩
def Pw {j:Nat}(h1:RE ta σ G H (ag af) xs)(h2:RE tb σ G H af y)(hj:xs[j]?=some y)(Z:∀m z,m < j->xs[m]?=some z->z≠y):RE (Rq K "list" (L7 K) ta (bO tb fV)) σ G H af (j:Int):=fun G' H' e Q q=>
 h1 G' H' e _ fun v G1 H1 O ⟨p,us,ev,Y,pr⟩=>by
  subst ev;have L:=paired_ints pr;subst L;refine⟨.inl ⟨rfl,_,dh.of (O.gh.at_ _ _ Y)⟩,h2 G1 H1 (e.trans O) _ fun u G2 H2 M r2=> ?_⟩;have e3:=r2;subst e3;refine xi5 p (xs.map V.int) (.int y) j (.int y) ⟨rfl,rfl,dh.of (M.gh.at_ _ _ (M.gg _ _ Y)),rfl, ?_, ?_, ?_, ?_,q _ _ _ (O.trans M) rfl⟩
  .rw[abw,abv];intro z _;rfl
  .grind
  .show (y==y)=true
   simp
  .intro m z' hm J;rw[ab0] at J;cases U:xs[m]? with
   |none=>rw[U] at J;contradiction
   |_ z=>
    rw[U] at J;injection J with J;subst J
    show(z==y)=false
    grind
def Ao (h:RA ta σ G H (AC (ag af) A0) (xs,()))(O:∀zs:hA,zs.Perm xs->zs.Pairwise (·<=·)->zs=ys):RE (CU (Je K) ta) σ G H (ag af) ys:=fun G' H' e Q q=>
 h G' H' e _ fun vs G1 H1 M ⟨v,rr,e0,⟨p,us,Z,U,pr⟩,er⟩=>by
  subst e0 Z;subst er;have L:=paired_ints pr;subst L;refine⟨p,xs,rfl,dh.of (M.gh.at_ _ _ U),fun J l h1 h2 Y=> ?_⟩;have:=O J h1 h2
  subst this;exact q _ _ _ (M.trans (Ext.laid M.gh Y)) ⟨l,_,rfl,ah,dq _ _⟩
def RNew {a:Type}(H0:Hp)(R:Rp a):Rp a:=fun G v x=>R G v x/\ ∃p,v=.ref p/\H0 p=none
variable {b c:Type}
def Zn (hw:RI wi σ G H Rz zs)(hl:zs.length < sizeLine)
  (hg:∀z∈zs,∀x G1 H1,Ext G H G1 H1->Rz G1 x z-> ∃L,Tg g x (wipe σ ws) H1 L/\wipe L ws=wipe σ ws/\RT tt L G1 H1 (p z)/\(p z=true->RE te L G1 H1 R (f z))) (mo0:aK R:=by infer_instance):
  RE (Y8 wi g tt te ws) σ G H (RNew H (ag R)) ((zs.filter p).map f):=fun G' H' e Q q=>hw G' H' e _ fun J G2 H2 e2 iw=>fun D hD=>by
 refine⟨fun i m H3=>m=zs.length - i/\i<=zs.length/\ ∃G3 vs,Ext G2 H2 G3 H3/\G3 D=none/\H3 D=some (.lst vs)/\Paired (R G3) vs (((zs.take i).filter p).map f),⟨zs.length,by rfl,adz _,G2,[],Ext.own e2.gh hD,e2.gh.free hD,ah,.nil⟩, ?_⟩;rintro i m H3 ⟨rfl,hi,G3,vs,e3,g3,h3,pr⟩;obtain⟨go,stop⟩:=iw i G3 H3 e3.gg e3.gh
 by_cases U:i < zs.length
 .have hz:zs[i]?=some zs[i]:=by simp
  obtain⟨go1,go2⟩:=go _ hz;refine .inr ⟨go1,fun Y=>∃Z vs,Ext G2 H2 Z Y/\Z D=none/\Y D=some _/\Paired _ vs _,by rintro Y ⟨Z,us,h⟩;exact ⟨_,by grind,rfl,U,Z,us,h⟩,fun x Y y=> ?_⟩;obtain⟨Z,O,r4⟩:=go2 x Y y;obtain⟨L,t1,t2,t3,t4⟩:=hg _ (ab5 U) x Z Y (((e.trans e2).trans e3).trans O) r4;have hvs:vs.length < sizeLine:=by
   have h5:=aw pr
   grind
  refine t1 _ ⟨t2,t3 Z Y (Ext.refl O.gh) _ fun G5 H5 M=> ?_⟩;have g5:=M.keeps (O.hh _ _ h3) (O.keeps h3 g3);have h5:=M.hh _ _ (O.hh _ _ h3)
  by_cases hp:p zs[i]=true
  .rw[ad3 hp];refine t4 hp G5 H5 M _ fun v G6 H6 e6 r6=>⟨vs,e6.hh _ _ h5,hvs,G6,vs++[v],((e3.trans O).trans (M.trans e6)).put hD (e6.keeps h5 g5) (e6.hh _ _ h5),e6.keeps h5 g5,ah, ?_⟩
   rw[pK hz,ad3 hp];exact Paired.snoc (aq ((O.gg.trans M.gg).trans e6.gg) pr) r6
  .rw[ad2 hp];refine⟨G5,vs,(e3.trans O).trans M,g5,h5, ?_⟩;rw[pK hz,ad2 hp,abA];exact aq (O.gg.trans M.gg) pr
 .have M:i=zs.length:=by lia
  subst M;rw[ac1] at pr;refine .inl ⟨stop (ac_ _),q _ _ _ ((e2.trans (e3.freeze hD g3 h3))) ⟨⟨D,vs,rfl,ah,aq (bB g3) pr⟩,D,rfl,(e.trans e2).hh.free hD⟩⟩
def VS (hw:RI wi σ G H Rz zs)(U:zs.length < sizeLine)
  (Y:∀z∈zs,∀x L H1,Ext G H L H1->Rz L x z-> ∃J,Tg g x (wipe σ ws) H1 J/\wipe J ws=wipe σ ws/\RE te J L H1 R (f z)) (M:aK R:=by infer_instance):
  RE (Y8 wi g Y7 te ws) σ G H (RNew H (ag R)) (zs.map f):=
 RE.eq (Zn hw U fun z O x L H1 e r=>by
  obtain⟨J,h1,h2,Z⟩:=Y z O x L H1 e r;exact⟨J,h1,h2,fun G2 H2 e2 Q q=>q _ _ (Ext.refl e2.gh),fun _=>Z⟩) (by rw[abL.mpr (fun _ _=>rfl)])
def R_ (h:H p=some o)(g:G p=none)(O:RE te σ (upd G p o) H (RNew H (ag af)) xs)(n:NT o:=by exact True.intro):RE te σ G H (ag af) xs:=fun G' H' e Q q=>
 O _ _ (e.lift h g n) _ fun v G2 H2 M ⟨⟨a,vs,ev,ha,pr⟩,a',ev',U⟩=>by
  have Y:=e.keeps h g;refine q v (fun b=>if b=p then none else G2 b) H2 ⟨fun b u J=> ?_,M.hh,⟨fun b u J=> ?_, ?_,M.gh.tab⟩,fun b J Z=> ?_⟩ ⟨a,vs,ev, ?_, ?_⟩
  .have L:b≠p:=fun z=>by rw[z,Y] at J;contradiction
   rw[ad2 L];exact M.gg b u (by rw[ax L];exact J)
  .have J:=J;split at J
   .cases J
   .exact M.gh.at_ b u J
  .show _=none
   split
   .rfl
   .exact M.gh.gt
  .show _=none
   split
   .rfl
   .next L=>exact M.fr b J (by rw[ax L];exact Z)
  .grind
  .assumption
end
end My
namespace Cw
open PySem PySem.Spec PyProof.Rows L2 My
abbrev UX:bH:=(0,0,())
def iQ (nt:List bH)(is:hA):List bH:=is.map fun i=>nt.getD i.toNat UX
def Mt (nt:List bH)(rep:Int)(left:hA)(number rd:Int):Int:=cU (iQ nt (left.filter fun o=> !decide (o=number))) rep (aZ rd (nt.getD number.toNat UX) rep)
structure BO where
 order:hA
 left:hA
 fin:Int
def ie (nt:List bH)(rep:Int)(st:BO):hA:=st.left.map fun n=>Mt nt rep st.left n st.fin
def lL (nt:List bH)(rep:Int)(st:BO):Int:=st.left.getD ((ie nt rep st).idxOf (oZ (ie nt rep st))) 0
def sD (nt:List bH)(rep:Int)(st:BO):BO:=⟨st.order++[lL nt rep st],st.left.erase (lL nt rep st),aZ st.fin (nt.getD (lL nt rep st).toNat UX) rep⟩
def uz (nt:List bH)(rep:Int):Nat->BO->BO
 |0,st=>st
 |n+1,st=>uz nt rep n (sD nt rep st)
def dw (nt:List bH)(rep:Int):hA:=(uz nt rep nt.length ⟨[],upTo 0 nt.length,0⟩).order
def Ni {st:BO}(h:st.left≠[]):∃j,st.left[j]?=some (lL nt rep st)/\(ie nt rep st)[j]?=some (oZ (ie nt rep st))/\j=(ie nt rep st).idxOf (oZ (ie nt rep st)):=by
 have J:ie nt rep st≠[]:=by delta ie;simp_all
 have L:=(gP J).1;have _:=by
  have:(ie nt rep st).length=st.left.length:=by delta ie;rw[aca]
  omega
 refine⟨_, ?_, ?_,rfl⟩
 .unfold lL
  grind
 .grind
def HV {st:BO}(h:st.left≠[]):(sD nt rep st).left.length+1=st.left.length:=by
 obtain⟨j,h1,_⟩:=Ni h
 show(st.left.erase _).length+1=_
 rw[List.length_erase_of_mem (acB h1)]
 grind
def yS {xs:hA}(J:m < xs.idxOf y)(L:xs[m]?=some z):z≠y:=fun e=>by
 have:=List.not_of_lt_findIdx J
 grind
section
variable {P:dn}{w:fx}{K:b0}{mg:gp}{base:Heap}{t:jC}
abbrev gX:Df:=⟨"end_with_next",42,["strips","repeat","left","number","start"],fun K t=>fz 5 (AC (ag (cZ K t)) (AC af (AC (ag af) (AC af (AC af A0))))) (fun x=>x.1.length<=6/\0 < x.2.1/\x.2.2.1.length<=6/\(∀i∈x.2.2.1,0<=i/\i < x.1.length)/\0<=x.2.2.2.1/\x.2.2.2.1 < x.1.length) af (fun x=>Mt x.1 x.2.1 x.2.2.1 x.2.2.2.1 x.2.2.2.2.1)⟩
def lS:dP ["strips","repeat","left","number","start","others","other"] gX:=by walk_at"s"
def xX (F:bh K gX f fd)(T:Txt K mg t)(kz:aL P w K mg base t 3 jv)(fT:aL P w K mg base t 1 ja):dO P w K mg base t 4 f fd gX:=by
 refine wN F lS rfl fun cdv A' outer s H E hr=>⟨_,(aa (qK (i:=5) (own:=[("other",6)]) rfl lS.nd rfl rfl (uI rfl rfl rfl rfl) (rP K bP) (bC (by rfl)) (fun _ _ _ _ _=>(iZ 6 lS.nd)) (fun _ _ _ _ _=>(pA (ka Jo Pz dJ))) (fun _ _ _ _ _=>(cW (dZ K) aN Pz))) (ae (aj (bJ kz hr (cD uQ bz (bJ fT hr (cD lO (cW (dZ K) aN dJ) bz))))))), ?_⟩
 rintro G vs ⟨nt,L,left,U,rd,u⟩ hs ⟨eg,r0,rfl,dz,dB,r1,rfl,fQ,O,r2,rfl,GW,Rf,r3,rfl,J5,aeg,r4,rfl,uZ,rfl⟩ hp;obtain⟨p1,p2,p3,Y,p5,p6⟩:=hp;have at_:∀i:Int,0<=i->i < nt.length->nt[i.toNat]?=some (nt.getD i.toNat UX):=fun i h0 h1=>by
  rw[abU,abX (by lia)];rfl
 refine RS.eq (bQ (wJ (bD (aR GW)) (adf p3 (by decide)) fun z Z x G1 H1 M r1=>⟨_,cE,rfl,dj (by walk_at"re"),fun _=>aJ (ab rfl dz M.gg) (by walk_at"re") (Y z Z).1 (at_ z (Y z Z).1 (Y z Z).2)⟩) fun J G1 H1 M Tj=>aB (ak (fY (aR Tj) (by walk_at"re") (ak (fY (ab rfl uZ M.gg) (aJ (ab rfl dz M.gg) (ab rfl J5 M.gg) p5 (at_ _ p5 p6)) (by walk_at"re")) p2)) ⟨?_,p2⟩)) rfl
 show(iQ _ _).length<=6
 delta iQ;rw[aca];exact adb (ab_ _ _) p3
abbrev jQ:Df:=⟨"best_order",43,["strips","repeat"],fun K t=>fz 2 (AC (ag (cZ K t)) (AC af A0)) (fun x=>x.1.length<=6/\0 < x.2.1) (ag af) (fun x=>dw x.1 x.2.1)⟩
def fi:dP ["strips","repeat","order","left","end","ends","number","chosen"] jQ:=by walk_at"s"
def DJ (F:bh K jQ f fd)(T:Txt K mg t)(fT:aL P w K mg base t 1 ja)(nH:aL P w K mg base t 4 gX):dO P w K mg base t 5 f fd jQ:=by
 refine mT F fi fun H hr=>⟨_,(aa (dC 2 fi.nd (az eU)) (aa (dC 3 fi.nd (tQ rfl rfl T.oY rfl T.ig (aG (nD T aN)))) (aa (dC 4 fi.nd ai) (aa (AA adF (ka wR (nD T dJ) ai) (aa (qK (i:=5) (own:=[("number",6)]) rfl fi.nd rfl rfl (uI rfl rfl rfl rfl) (rP K dJ) (bC (by rfl)) (fun _ _ _ _ _=>(iZ 6 fi.nd)) (fun _ _ _ _ _=>c6) (fun _ _ _ _ _=>(bJ nH hr (gG aN (gG bz (cD dJ Pz lO)))))) (aa (dC 7 fi.nd (cW (dZ K) dJ (lP K PySem.F.slot_list_index PySem.F.type_list_index (Wn K) uQ (aG (fD (OB K rfl) rfl T.CF Cv (aG uQ)))))) (aa (dC 4 fi.nd (bJ fT hr (cD lO (cW (dZ K) aN VY) bz))) (aa (bS (lP K adH adK gM bP (aG VY))) (ae (bS (lP K PySem.F.slot_list_remove PySem.F.type_list_remove P2 dJ (aG VY))))))))) (ae (aj bP)))))),fun G nt J eg dB hs dz fQ hp=> ?_⟩
 try dsimp only at hp
 try dsimp only[je,rd]
 obtain⟨p1,p2⟩:=hp;have at_:∀i:Int,0<=i->i < nt.length->nt[i.toNat]?=some (nt.getD i.toNat UX):=fun i h0 h1=>by
  rw[abU,abX (by omega)];rfl
 intro G0 H0 e0 D kD;refine wj fun po hpo=> ?_
 have e1:=Ext.own (o:=.lst []) e0.gh hpo;refine Vm e1.gh (bp (dc (bp (ab rfl dz e0.gg)))) (by omega) (by omega) fun L G2 H2 e2 hpl=> ?_
 have ho2:H2 po=some (.lst []):=e2.hh _ _ ah;have npl:po≠L:=aS ho2 hpl;have e3:=(e1.trans e2).trans (Ext.own (o:=.lst ((upTo 0 (nt.length:Int).toNat).map V.int)) e2.gh hpl);have hpl0:H0 L=none:=(e1.trans e2).hh.free hpl;have gpo:G2 po=none:=e2.keeps ah (e0.gh.free hpo);refine cB e3.gh (R:=af) (x:=0) ao fun Rg G4 H4 e4 Tq=> ?_
 show FH _ _ _ _ _
 refine Fz (S:=BO) (G:=G4) (D:=_) (fun st σ' G' H'=>∃v t5 t6 t7,σ'=[some eg,some dB,some (.ref po),some (.ref L),some v,t5,t6,t7]/\v=.int st.fin/\Ext G0 H0 G' H'/\H' po=some (.lst (st.order.map V.int))/\H' L=some (.lst (st.left.map V.int))/\G' po=none/\G' L=none/\st.left.length<=6/\st.order.length+st.left.length<=6/\(∀i∈st.left,0<=i/\i < nt.length)/\(uz nt J st.left.length st).order=dw nt J)
  ⟨[],upTo 0 (nt.length:Int).toNat,0⟩ ?_ (fun st=>decide (0 < (st.left.length:Int))) (fun st=>st.left.length) ?_ ?_ ?_
 .have hx1:H4 po=some (.lst []):=e4.hh po (.lst []) (by rw[ax npl];exact ho2);have hx2:H4 L=some (.lst ((upTo 0 (nt.length:Int).toNat).map V.int)):=e4.hh L (.lst ((upTo 0 (nt.length:Int).toNat).map V.int)) ah;refine xi4 Rg none none none ⟨rfl,Tq,e3.trans e4,hx1,hx2,e4.keeps (by rw[ax npl];exact ho2) gpo,e4.keeps ah (e2.gh.free hpl), ?_, ?_,fun i hi=> ?_, ?_⟩
  .show (upTo 0 _).length<=6
   rw[cg];omega
  .show 0+(upTo 0 _).length<=6
   rw[cg];omega
  .have:=ip hi;lia
  .show (uz nt J (upTo 0 _).length _).order=_
   rw[cg];rfl
 .rintro st σ' G' H' ⟨v,t5,t6,t7,rfl,hv,ex,ho,hl,go,gl,q1,q2,q3,q4⟩;exact⟨ex.gh,RT.eq (VI hl gl (dj (EG (dc (bp (ab (i:=3) (v:=.ref L) rfl (show ag af (upd G' L (.lst (st.left.map V.int))) (.ref L) st.left from⟨L,_,rfl,ah,dq _ _⟩) sr))) ao))) rfl⟩
 .rintro st σ' G' H' ⟨v,t5,t6,t7,rfl,hv,ex,ho,hl,go,gl,q1,q2,q3,q4⟩ hc G5 H5 e5;have M:st.left≠[]:=by
   intro z;rw[z] at hc;exact absurd hc (by decide)
  have ex5:=ex.trans e5;have ho5:=e5.hh _ _ ho;have O:H5 L=some (.lst (st.left.map V.int)):=e5.hh _ _ hl;have gl5:=e5.keeps hl gl;have go5:=e5.keeps ho go;have s5:aE G G5:=e0.gg.trans ex5.gg;have up:=bB (o:=.lst (st.left.map V.int)) gl5;have GW:ag af (upd G5 L (.lst (st.left.map V.int))) (.ref L) st.left:=⟨L,_,rfl,ah,dq _ _⟩
  refine cB e5.gh (R:=ag af) (x:=ie nt J st) (R_ O gl5 (VS (Rz:=af) (zs:=st.left) (R:=af) (bD (ab (i:=3) (v:=.ref L) rfl GW sr)) (adf q1 (by decide)) fun z hz x G6 H6 e6 r6=>⟨_,cE,rfl, ?_⟩)) fun v_ends G6 H6 e6 Tp=> ?_
  .have s6:aE G G6:=(s5.trans up).trans e6.gg;have h_v:af G6 v st.fin:=hv;exact ak (x:=(nt,J,st.left,z,st.fin,())) (bE (ab rfl dz s6) (bE (ab rfl fQ s6) (fY (ab (i:=3) (v:=.ref L) rfl GW e6.gg) (aR r6) (ab (i:=4) (v:=v) rfl h_v sr)))) ⟨p1,p2,q1,q3,(q3 z hz).1,(q3 z hz).2⟩
  obtain⟨j,j1,j2,j3⟩:=Ni (nt:=nt) (rep:=J) M;have hpk:=q3 _ (acB j1);have hne2:ie nt J st≠[]:=by delta ie;simpa using M
  have ex6:=ex5.trans e6;have hl6:H6 L=some (.lst (st.left.map V.int)):=e6.hh _ _ O;have gl6:=e6.keeps O gl5;have up6:=bB (o:=.lst (st.left.map V.int)) gl6;refine cB e6.gh (R:=af) (zD hl6 gl6 (aJ (xs:=st.left) (i:=(j:Int)) (ab (i:=3) (v:=.ref L) rfl (show ag af (upd G6 L (.lst (st.left.map V.int))) (.ref L) st.left from⟨L,_,rfl,ah,dq _ _⟩) sr) (Pw (ab (i:=5) rfl Tp up6) (F0 (bp (ab (i:=5) rfl Tp up6)) (gP hne2)) j2 (fun m z hm hz=>yS (by rw[<- j3];exact hm) hz)) (by lia) (by rw[abp];exact j1))) fun yZ G7 H7 e7 zp=> ?_
  have ex7:=ex6.trans e7;have s7:aE G G7:=e0.gg.trans ex7.gg;have h_v:af G7 v st.fin:=hv;refine cB e7.gh (R:=af) (ak (fY (ab (i:=4) (v:=v) rfl h_v sr) (aJ (ab rfl dz s7) (ab (i:=7) (v:=yZ) rfl zp sr) hpk.1 (at_ _ hpk.1 hpk.2)) (ab rfl fQ s7)) p2) fun v_e G8 H8 e8 Tr=> ?_
  have Y:=e6.trans (e7.trans e8);have ho8:H8 po=some (.lst (st.order.map V.int)):=Y.hh _ _ ho5;have hl8:H8 L=some (.lst (st.left.map V.int)):=Y.hh _ _ O;have go8:=Y.keeps ho5 go5;have gl8:=Y.keeps O gl5;have ex8:=ex5.trans Y;refine kF (R:=af) rfl ho8 ?_ e8.gh (ab (i:=7) (v:=yZ) rfl zp e8.gg) fun v9 G9 H9 e9 h9=> ?_
  .rw[aca];exact adf (show _<=6 by lia) (by decide)
  have ex9:=ex8.trans e9;have ho9:=e9.hh _ _ ho8;have hl9:H9 L=some (.lst (st.left.map V.int)):=e9.hh _ _ hl8;have go9:=e9.keeps ho8 go8;have gl9:=e9.keeps hl8 gl8;have e10:=ex9.put (o:=.lst (st.order.map V.int++[v9])) hpo go9 ho9;have U:(upd H9 po (.lst (st.order.map V.int++[v9]))) L=some (.lst (st.left.map V.int)):=by rw[ax npl.symm];exact hl9
  dsimp only;refine OX rfl U e10.gh (ab (i:=7) (v:=yZ) rfl zp (e8.gg.trans e9.gg)) ?_ (fun m y hm hy=>yS hm hy) fun G11 H11 Z=> ?_
  .have hm:lL nt J st∈st.left:=acB j1;have hlt:=ab6 hm;rw[abX hlt,List.getElem_idxOf hlt]
  have hl11:=Z.hh _ _ U;have gl11:=Z.keeps U gl9;have ho11:=Z.hh _ _ (ah (H:=H9) (a:=po));have go11:=Z.keeps ah go9;refine xi2 (sD nt J st) G11 ⟨xi4 v_e _ _ _ ⟨rfl,Tr,(e10.trans Z).put hpl0 gl11 hl11, ?_, ?_,go11,gl11, ?_, ?_,fun i hi=>q3 i (List.mem_of_mem_erase hi), ?_⟩, ?_⟩
  .rw[ax npl];have:v9=.int (lL nt J st):=h9
   rw[this] at ho11
   show _=some (HO.lst ((st.order++[lL nt J st]).map V.int))
   rw[ack];exact ho11
  .rw[ah]
   show some (HO.lst ((st.left.eraseIdx (st.left.idxOf (lL nt J st))).map V.int))=some (HO.lst ((st.left.erase (lL nt J st)).map V.int))
   rw[List.erase_eq_eraseIdx_of_idxOf rfl]
  .have:=HV (nt:=nt) (rep:=J) M;lia
  .have:=HV (nt:=nt) (rep:=J) M
   show(st.order++[_]).length+_<=6
   rw[ab7,acg];lia
  .have hb:=HV (nt:=nt) (rep:=J) M;rw[<- q4,<- hb];rfl
  .have hb:=HV (nt:=nt) (rep:=J) M
   show(sD nt J st).left.length < st.left.length
   lia
 .rintro st σ' G' H' ⟨v,t5,t6,t7,rfl,hv,ex,ho,hl,go,gl,q1,q2,q3,q4⟩ hc G5 H5 e5;have hz:st.left.length=0:=by
   have:=ad_ hc
   lia
  rw[hz] at q4;have ho5:=e5.hh _ _ ho;have go5:=e5.keeps ho go;dsimp only;refine⟨_,rfl,kD _ _ _ ((ex.trans e5).freeze hpo go5 ho5) ⟨po,_,rfl,ah, ?_⟩⟩
  show Paired _ _ (dw nt J)
  rw[<- q4];exact dq _ _
end
end Cw
namespace My
open PySem PySem.Spec PyProof.Rows L2
abbrev CW (h:Heap)(T:dr)(a b c:ee):Prop:=h.get? T=some {cls:=.type "tuple",data:=.seq #[a,b,c]}
structure CT (z TI TO i j k l m n:dr):Prop where
 own:[z,TI,TO,i,j,k].Nodup
 l:l∉[z,TO,i,j,k]
 m:m∉[z,TO,i,j,k]
 n:n∉[z,TO,i,j,k]
section
variable {prog:dn}{w:fx}{A:eu}{E:ee->cq->Prop}{s:cq}
def FE (J:CW s.heap T a b c)
  (h:∀h',h'.get? T=some {cls:=.type "tuple",data:=.seq ((#[a,b,c]:Array ee).setIfInBounds k x)}->Heap.SameBut T s.heap h'->Q () {s with heap:=h'}):
  wpAny (model prog w) A (updateSeq T (·.setIfInBounds k x)) Q E s:=by
 refine aeC J rfl (h _ ?_ (Heap.SameBut.update ..));rw[aa9 _ J rfl];simp[Obj.mapSeq]
variable {z TI TO i j k l m n:dr}{p:Nat}{xs ys zs:Array ee}{x y v a b c:ee}
def next3 {Q:ee->cq->Prop}(D:CT z TI TO i j k l m n)(hz:IsZip s.heap z TI TO .none)(hTI:CW s.heap TI (.ref i) (.ref j) (.ref k))(hTO:CW s.heap TO a b c)
  (h1:s.heap.IsListIter i l p) (h2:s.heap.IsListIter j m p) (h3:s.heap.IsListIter k n p) (g1:s.heap.IsList l xs) (g2:s.heap.IsList m ys) (g3:s.heap.IsList n zs) (hx:xs[p]?=some x) (hy:ys[p]?=some y) (hv:zs[p]?=some v)
  (hQ:∀h',IsZip h' z TI TO (rawInt s.heap.objs.size)->CW h' TO x y v->h'.IsListIter i l (p+1)->h'.IsListIter j m (p+1)->h'.IsListIter k n (p+1)->CW h' s.heap.objs.size x y v->h'.objs.size=s.heap.objs.size+1->
   (∀c o,c∉[z,TO,i,j,k]->s.heap.get? c=some o->h'.get? c=some o)->Q (.ref s.heap.objs.size) {s with heap:=h'}):
  wpAny (model prog w) A (Builtin.«zip.__next__» ⟨[.ref z],[]⟩) (fun fin s'=>∃v,fin=.done (.ret v)/\Q v s') E s:=by
 obtain⟨D0,D1,D2,D3⟩:=D;simp only[acJ,acu,acM,aeb,ad7,acK,and_true,ad6] at D0 D1 D2 D3;obtain⟨⟨zTI,M,zi,zj,zk⟩,⟨tt,ti,tj,tk⟩,⟨oi,oj,ok⟩,⟨ij,ik⟩,jk⟩:=D0;obtain⟨l1,l2,l3,l4,l5⟩:=D1;obtain⟨m1,m2,m3,m4,m5⟩:=D2;obtain⟨n1,n2,n3,n4,n5⟩:=D3
 show wpAny _ _ (field (.ref z) 2>>=_) _ _ _;refine aei (ael hz rfl rfl ?_)
 show wpAny _ _ (field (.ref z) 3>>=_) _ _ _;refine aei (ael hz rfl rfl (aei (aex hTI rfl ?_)))
 show wpAny _ _ (Builtin.SmallTypes.ownedTupleIsFree (.ref z)>>=_) _ _ _;refine aei ?_;delta Builtin.SmallTypes.ownedTupleIsFree
 refine aei (ael hz rfl rfl (aet ?_));dsimp only[ad4];refine aei (wpAny_rule (aei (ael hz rfl rfl (aei (aey hz (by simp) fun q1 z1 L=> ?_)))));have z1:IsZip q1 z TI TO .ellipsis:=z1;refine aei ?_;simp only[List.zipIdx_cons,List.zipIdx_nil,List.forIn_cons,List.forIn_nil];refine aei (aei (aer ?_));show wpAny _ _ (Builtin.SmallTypes.nextOf (.ref i)>>=_) _ _ _
 refine aei (aeq (h1.extBut L.extBut (Ne.symm zi)) (g1.extBut L.extBut l1) hx fun q2 i2 U=>aet ?_);have t2:CW q2 TO a b c:=U.extBut _ _ oi (L.extBut _ _ (Ne.symm M) hTO);refine aei (aex t2 rfl (aei (FE t2 fun q3 t3 O=>aei (aen (aet ?_)))));have t3:CW q3 TO x b c:=t3;refine aei (aei (aer ?_));show wpAny _ _ (Builtin.SmallTypes.nextOf (.ref j)>>=_) _ _ _
 refine aei (aeq (((h2.extBut L.extBut (Ne.symm zj)).extBut U.extBut (Ne.symm ij)).extBut O.extBut (Ne.symm oj)) (((g2.extBut L.extBut m1).extBut U.extBut m3).extBut O.extBut m2) hy fun q4 j4 Z=>aet ?_);have t4:CW q4 TO x b c:=Z.extBut _ _ oj t3;refine aei (aex t4 rfl (aei (FE t4 fun q5 t5 Y=>aei (aen (aet ?_)))));have t5:CW q5 TO x y c:=t5;refine aei (aei (aer ?_));show wpAny _ _ (Builtin.SmallTypes.nextOf (.ref k)>>=_) _ _ _
 refine aei (aeq (((((h3.extBut L.extBut (Ne.symm zk)).extBut U.extBut (Ne.symm ik)).extBut O.extBut (Ne.symm ok)).extBut Z.extBut (Ne.symm jk)).extBut Y.extBut (Ne.symm ok)) (((((g3.extBut L.extBut n1).extBut U.extBut n3).extBut O.extBut n2).extBut Z.extBut n4).extBut Y.extBut n2) hv fun q6 k6 b6=>aet ?_);have t6:CW q6 TO x y c:=b6.extBut _ _ ok t5;refine aei (aex t6 rfl (aei (FE t6 fun J t7 b7=>aei (aen (aet (aet ?_))))));have t7:CW J TO x y v:=t7;refine aei (aex t7 rfl (aei (wpAny_newTuple ?_)));have sz:J.objs.size=s.heap.objs.size:=by rw[b7.1,b6.1,Y.1,Z.1,O.1,U.1,L.1]
 have kp:∀c o,c∉[TO,i,j,k]->q1.get? c=some o->J.get? c=some o:=fun c o hc e=>by
  simp only[acu,acM,aeb,ad7] at hc;exact b7.extBut _ _ hc.1 (b6.extBut _ _ hc.2.2.2 (Y.extBut _ _ hc.1 (Z.extBut _ _ hc.2.2.1 (O.extBut _ _ hc.1 (U.extBut _ _ hc.2.1 e)))))
 have z7:IsZip J z TI TO .ellipsis:=kp z _ (by simp[M,zi,zj,zk]) z1;have i7:J.IsListIter i l (p+1):=((((i2.extBut O.extBut (Ne.symm oi)).extBut Z.extBut ij).extBut Y.extBut (Ne.symm oi)).extBut b6.extBut ik).extBut b7.extBut (Ne.symm oi);have j7:J.IsListIter j m (p+1):=((j4.extBut Y.extBut (Ne.symm oj)).extBut b6.extBut jk).extBut b7.extBut (Ne.symm oj);have k7:J.IsListIter k n (p+1):=k6.extBut b7.extBut (Ne.symm ok);have zlt:z < J.objs.size:=aa_ z7;refine aei ?_;delta Builtin.SmallTypes.ownedTupleHandOut;have z8:IsZip (J.push {cls:=.type "tuple",data:=.seq #[x,y,v]}) z TI TO .ellipsis:=aa6 _ z7;refine aei (aey z8 (by simp) fun r1 y1 c1=> ?_);have y1:IsZip r1 z TI TO (rawInt J.objs.size):=y1;refine aey y1 (by simp) fun r2 y2 c2=> ?_
 have y2:IsZip r2 z TI TO (rawInt J.objs.size):=y2;have up:∀c o,c≠z->J.get? c=some o->r2.get? c=some o:=fun c o hc e=>c2.extBut _ _ hc (c1.extBut _ _ hc (aa6 _ e))
 have T8:CW r2 J.objs.size x y v:=c2.extBut _ _ (ado zlt) (c1.extBut _ _ (ado zlt) (aa7 _ rfl));have S8:r2.objs.size=J.objs.size+1:=by rw[c2.1,c1.1,aba]
 rw[sz] at y2 T8 S8;refine aet ⟨_,rfl, ?_⟩;show Q (.ref J.objs.size) _;rw[sz]
 refine hQ r2 y2 (up _ _ (Ne.symm M) t7) (i7.at fun o e=>up _ o (Ne.symm zi) e) (j7.at fun o e=>up _ o (Ne.symm zj) e) (k7.at fun o e=>up _ o (Ne.symm zk) e) T8 S8 fun c o hc e=> ?_
 simp only[acu,acM,aeb,ad7] at hc;exact up c o hc.1 (kp c o (by simp[hc]) (L.extBut _ _ hc.1 e))
def end3 (hh:A.handled=none)(D:CT z TI TO i j k l m n)(L:IsZip s.heap z TI TO .none)(O:CW s.heap TI (.ref i) (.ref j) (.ref k))
  (h1:s.heap.IsListIter i l p) (g1:s.heap.IsList l xs) (hx:xs[p]?=none)
  (hE:∀h' e,(∀c o,c∉[z,TO,i,j,k]->s.heap.get? c=some o->h'.get? c=some o)->(∃o,h'.get? e=some o/\o.cls=.type "StopIteration")->E (.ref e) {s with heap:=h'}):
  wpAny (model prog w) A (Builtin.«zip.__next__» ⟨[.ref z],[]⟩) Q E s:=by
 obtain⟨D0,D1,D2,D3⟩:=D;simp only[acJ,acu,acM,aeb,ad7,acK,and_true,ad6] at D0 D1 D2 D3;obtain⟨⟨zTI,zTO,Y,zj,zk⟩,_⟩:=D0;obtain⟨l1,l2,l3,l4,l5⟩:=D1
 show wpAny _ _ (field _ 2>>=_) _ _ _;refine aei (ael L rfl rfl ?_)
 refine aei (ael L rfl rfl (aei (aex O rfl ?_)));refine aei ?_;refine aei (ael L rfl rfl (aet ?_));refine aei (wpAny_rule (aei (ael L rfl rfl (aei (aey L (by simp) fun q1 z1 U=> ?_)))));refine aei ?_;refine aei (aei (aer ?_));refine aei (wpAny_nextOf_list_end hh (h1.extBut U.extBut (Ne.symm Y)) (g1.extBut U.extBut l1) hx fun q2 e b2 he=> ?_);obtain⟨oe,J,M⟩:=he;have Z:=b2 _ _ Y z1;have ez:e≠z:=fun x=>by rw[x,Z] at J;injection J with J;subst J;simp at M
 refine aey Z (by simp) fun q3 _ b3=>hE q3 e (fun c o hc x=> ?_) ⟨oe,b3.extBut _ _ ez J,M⟩
 simp only[acu,acM,aeb,ad7] at hc;exact b3.extBut _ _ hc.1 (b2 _ _ hc.2.2.1 (U.extBut _ _ hc.1 x))
def VX (D:CT z TI TO i j k l m n)(M:IsZip s.heap z TI TO .none)(L:CW s.heap TI (.ref i) (.ref j) (.ref k))(J:CW s.heap TO a b c)
  (h1:s.heap.IsListIter i l p) (h2:s.heap.IsListIter j m p) (h3:s.heap.IsListIter k n p) (g1:s.heap.IsList l xs) (g2:s.heap.IsList m ys) (g3:s.heap.IsList n zs) (U:xs[p]?=some x) (O:ys[p]?=some y) (Y:zs[p]?=some v)
  (Z:∀h',IsZip h' z TI TO (rawInt s.heap.objs.size)->CW h' TO x y v->h'.IsListIter i l (p+1)->h'.IsListIter j m (p+1)->h'.IsListIter k n (p+1)->CW h' s.heap.objs.size x y v->h'.objs.size=s.heap.objs.size+1->
   (∀c o,c∉[z,TO,i,j,k]->s.heap.get? c=some o->h'.get? c=some o)->Q (some (.ref s.heap.objs.size)) {s with heap:=h'}):
  wpAny (model prog w) A (pyNext (.ref z)) Q E s:=by
 have ty:s.TypeIs (.ref z) "zip":=⟨_,M,rfl⟩
 exact aei (wpAny_attempt (wpAny_callSpecial?_slot ty aa4 (wpAny_call_entry aa4 ty F.entry_zip_next (next3 D M L J h1 h2 h3 g1 g2 g3 U O Y fun h' a1 a2 a3 a4 a5 a6 a7 a8=>aet (Z h' a1 a2 a3 a4 a5 a6 a7 a8)) (F.args_zip_next_1 _))))
def ZA (hh:A.handled=none)(D:CT z TI TO i j k l m n)(L:IsZip s.heap z TI TO .none)(J:CW s.heap TI (.ref i) (.ref j) (.ref k))
  (h1:s.heap.IsListIter i l p) (g1:s.heap.IsList l xs) (M:xs[p]?=none) (Z:∀h',(∀c o,c∉[z,TO,i,j,k]->s.heap.get? c=some o->h'.get? c=some o)->Q none {s with heap:=h'}):wpAny (model prog w) A (pyNext (.ref z)) Q E s:=by
 have ty:s.TypeIs (.ref z) "zip":=⟨_,L,rfl⟩
 refine aei (wpAny_attempt (wpAny_callSpecial?_slot ty aa4 (wpAny_call_entry aa4 ty F.entry_zip_next (end3 hh D L J h1 g1 M fun h' e U Y=> ?_) (F.args_zip_next_1 _))));obtain⟨o,O,hc⟩:=Y;exact aei (wpAny_isInstance ⟨o,O,hc⟩ isSubtype_stop (aet (Z _ U)))
def z5 (a b c:ee):checkTypeCall "zip" ⟨[a,b,c],[]⟩=pure ():=by kernel_rfl
def DN (a b c:ee):checkBuiltinCall "zip.__new__" ⟨[.type "zip",a,b,c],[]⟩=pure ():=by kernel_rfl
def wb (a b c d:ee):argsOk "object.__init__" ⟨[a,b,c,d],[]⟩:=by
 kernel_rfl
abbrev sM (l:dr):Obj:={cls:=.type "list_iterator",data:=.fields #[.ref l,.int 0 0]}
abbrev z3a (h:Heap)(l m n:dr):Heap:=((h.push (sM l)).push (sM m)).push (sM n)
abbrev z3b (h:Heap)(l m n:dr):Heap:=(z3a h l m n).push {cls:=.type "tuple",data:=.seq #[.ref h.objs.size,.ref (h.push (sM l)).objs.size,.ref ((h.push (sM l)).push (sM m)).objs.size]}
abbrev z3c (h:Heap)(l m n:dr):Heap:=(z3b h l m n).push {cls:=.type "tuple",data:=.seq #[.none,.none,.none]}
abbrev z3d (h:Heap)(l m n:dr):Heap:=(z3c h l m n).push {cls:=.type "zip",data:=.fields #[.none,.bool false,.bool false,.ref (z3a h l m n).objs.size,.ref (z3b h l m n).objs.size]}
def QX (l m n:dr)(xs ys zs:Array ee):Meets (Builtin.«zip.__new__» ⟨[.type "zip",.ref l,.ref m,.ref n],[]⟩) (fun _ R s=>s.heap.IsList l xs/\s.heap.IsList m ys/\s.heap.IsList n zs/\
   R (.ok (.ret (.ref (z3c s.heap l m n).objs.size))) {s with heap:=z3d s.heap l m n}):=
 .of_wp fun prog w A R s h=>by
  obtain⟨J,g,d,tk,os⟩:=s;obtain⟨Z,Y,U,h⟩:=h;have sb:=sub_zip;have O:Heap.IsList (Shared.heap ⟨J,g,d,tk,os⟩) l xs:=Z;have M:Heap.IsList (Shared.heap ⟨J.push (sM l),g,d,tk,os⟩) m ys:=aa5 Y _;have L:Heap.IsList (Shared.heap ⟨(J.push (sM l)).push (sM m),g,d,tk,os⟩) n zs:=aa5 (aa5 U _) _
  wp_walk using aeu O,aeu M,aeu L
  exact⟨_,rfl,h⟩
def QD (g1:s.heap.IsList l xs)(g2:s.heap.IsList m ys)(g3:s.heap.IsList n zs)
  (h:∀h',IsZip h' (s.heap.objs.size+5) (s.heap.objs.size+3) (s.heap.objs.size+4) .none->CW h' (s.heap.objs.size+3) (.ref s.heap.objs.size) (.ref (s.heap.objs.size+1)) (.ref (s.heap.objs.size+2))->
   CW h' (s.heap.objs.size+4) .none .none .none->h'.IsListIter s.heap.objs.size l 0->h'.IsListIter (s.heap.objs.size+1) m 0->h'.IsListIter (s.heap.objs.size+2) n 0->
   (∀c o,s.heap.get? c=some o->h'.get? c=some o)->Q (.ref (s.heap.objs.size+5)) {s with heap:=h'}):
  wpAny (model prog w) A (call (.type "zip") [.ref l,.ref m,.ref n]) Q E s:=by
 refine callType_new F.called_zip (by rfl) (z5 _ _ _) (DN _ _ _) (fun obj=>wb obj _ _ _) F.entry_zip_new (QX l m n xs ys zs) ⟨g1,g2,g3, ?_⟩;have U:(s.heap.push (sM l)).objs.size=s.heap.objs.size+1:=aba ..;have O:((s.heap.push (sM l)).push (sM m)).objs.size=s.heap.objs.size+2:=by rw[aba,U]
 have M:(z3a s.heap l m n).objs.size=s.heap.objs.size+3:=by rw[aba,O]
 have L:(z3b s.heap l m n).objs.size=s.heap.objs.size+4:=by rw[aba,M]
 have Z:(z3c s.heap l m n).objs.size=s.heap.objs.size+5:=by rw[aba,L]
 have Y:(z3d s.heap l m n).get? (z3c s.heap l m n).objs.size=some _:=aa7 _ rfl;have e4:(z3d s.heap l m n).get? (z3b s.heap l m n).objs.size=some _:=aa6 _ (aa7 _ rfl);have e3:(z3d s.heap l m n).get? (z3a s.heap l m n).objs.size=some _:=aa6 _ (aa6 _ (aa7 _ rfl));have J:∀b o,(z3a s.heap l m n).get? b=some o->(z3d s.heap l m n).get? b=some o:=fun b o e=>aa6 _ (aa6 _ (aa6 _ e))
 have e2:=J _ _ (aa7 _ rfl);have e1:=J _ _ (aa6 _ (aa7 _ rfl));have e0:=J _ _ (aa6 _ (aa6 _ (aa7 _ rfl)));rw[M,L,Z] at Y;rw[U,O,M] at e3;rw[L] at e4;rw[O] at e2;rw[U] at e1;rw[Z];exact⟨⟨_,Y,rfl⟩,h _ Y e3 e4 ⟨_,e0,rfl,rfl⟩ ⟨_,e1,rfl,rfl⟩ ⟨_,e2,rfl,rfl⟩ fun c o x=>J c o (aa6 _ (aa6 _ (aa6 _ x)))⟩
end
def Itz3 (K:b0)(a b c:dr):It:=
 ⟨fun i H=>∃(xs ys zs:List V) (x y z:V),dh K H a xs/\dh K H b ys/\dh K H c zs/\xs[i]?=some x/\ys[i]?=some y/\zs[i]?=some z,
  fun i H v H'=>∃T x y z,v=.ref T/\H T=none/\H'=upd H T (.tup [x,y,z])/\(∀xs,dh K H a xs->xs[i]?=some x)/\(∀ys,dh K H b ys->ys[i]?=some y)/\ ∀zs,dh K H c zs->zs[i]?=some z,
  fun i H=>∃xs:List V,dh K H a xs/\xs.length<=i⟩
def Pb {P:dn}{w:fx}{K:b0}{elts:List Expr}{kk:Nat}{tpos:Pos}{a b c z TI TO i1 Y i3:dr}(D:CT z TI TO i1 Y i3 a b c):
  Turn P w K (.Tuple elts kk tpos) (Itz3 K a b c) [z,TI,TO,i1,Y,i3] z (fun i h=>IsZip h z TI TO .none/\CW h TI (.ref i1) (.ref Y) (.ref i3)/\(∃x y v,CW h TO x y v)/\h.IsListIter i1 a i/\h.IsListIter Y b i/\h.IsListIter i3 c i) where
 mem:=by simp
 obj:=fun i h st q hq=>by
  obtain⟨M,J,⟨x,y,v,L⟩,⟨o1,e1,_,d1⟩,⟨o2,e2,_,d2⟩,⟨o3,e3,_,d3⟩⟩:=st;simp only[acu,acM,aeb] at hq
  rcases hq with rfl|rfl|rfl|rfl|rfl|rfl
  .exact⟨_,M,fun v q=>nomatch q⟩
  .exact⟨_,J,fun v q=>nomatch q⟩
  .exact⟨_,L,fun v q=>nomatch q⟩
  .exact⟨o1,e1,fun v q=>by rw[d1] at q;contradiction⟩
  .exact⟨o2,e2,fun v q=>by rw[d2] at q;contradiction⟩
  .exact⟨o3,e3,fun v q=>by rw[d3] at q;contradiction⟩
 keep:=fun i h h' st k=>by
  obtain⟨M,J,⟨x,y,v,L⟩,h1,h2,h3⟩:=st;exact⟨k z (by simp) _ M,k TI (by simp) _ J,xi3 x y v (k TO (by simp) _ L),h1.at fun o q=>k i1 (by simp) o q,h2.at fun o q=>k Y (by simp) o q,h3.at fun o q=>k i3 (by simp) o q⟩
 item:=by
  intro X hP hw hK hc i nj s σ H E I hf st hg;subst hP hw hK;obtain⟨M,J,⟨x0,y0,v0,L⟩,h1,h2,h3⟩:=st;obtain⟨xs,ys,zs,x,y,v,qx,qy,qz,hx,hy,hv⟩:=hg;obtain⟨U,r1,p1,_⟩:=I.list qx;obtain⟨its2,r2,p2,_⟩:=I.list qy;obtain⟨its3,r3,p3,_⟩:=I.list qz;obtain⟨u1,hu1,ru1⟩:=r1.get hx;obtain⟨u2,hu2,ru2⟩:=r2.get hy;obtain⟨u3,hu3,ru3⟩:=r3.get hv;have Z:z < s.heap.objs.size:=aa_ M;have nd:=D.own;simp only[acJ,acu,acM,aeb,ad7,acK,and_true,ad6] at nd;refine VX D M J L h1 h2 h3 p1.isList p2.isList p3.isList (by simpa using hu1) (by simpa using hu2) (by simpa using hu3) fun h' z' TO' h1' h2' h3' hT hsz hk=> ?_
  refine⟨_,rfl,wpAny_letOwnedTupleGo_zip z' fun h'' z'' O=> ?_⟩;have hT2:=(O.2 _ (ado Z)).trans hT;have new:iJ X.prog X.w (upd H s.heap.objs.size (.tup [x,y,v])) h'' s.heap.objs.size (.tup [x,y,v]):=⟨by show 3<=sizeLine;decide,[u1,u2,u3],.cons ru1 (.cons ru2 (.cons ru3 .nil)),⟨_,hT2,rfl,_,rfl⟩⟩
  have I1:Inv X nj σ _ {s with heap:=h''}:=
   I.xO (fun q o hb e=>(O.2 q (fun w=>hb (by simp[w]))).trans (hk q o (fun w=>hb (by simp only[acu,acM,aeb] at w ⊢;rcases w with w|w|w|w|w<;>simp[w])) e)) hf (ac_ _) new
  refine xi2 (.ref s.heap.objs.size) _ ⟨I1,rfl,xi4 _ x y v ⟨rfl,I.cK.fresh (ac_ _),rfl,fun l hl=>by rw[I.oQ hl qx];exact hx,fun l hl=>by rw[I.oQ hl qy];exact hy,fun l hl=>by rw[I.oQ hl qz];exact hv⟩,⟨z'', ?_,xi3 u1 u2 u3 (?_), ?_, ?_, ?_⟩,fun q hq=> ?_⟩
  .exact (O.2 _ (Ne.symm nd.1.1)).trans (hk _ _ (by simp[nd,Ne.symm nd.1.1]) J)
  .exact (O.2 _ (Ne.symm nd.1.2.1)).trans TO'
  .exact h1'.at fun o q=>(O.2 _ (Ne.symm nd.1.2.2.1)).trans q
  .exact h2'.at fun o q=>(O.2 _ (Ne.symm nd.1.2.2.2.1)).trans q
  .exact h3'.at fun o q=>(O.2 _ (Ne.symm nd.1.2.2.2.2)).trans q
  .have hlt:q < s.heap.objs.size:=by
    have hq':=hq;simp only[acu,acM,aeb] at hq'
    rcases hq' with rfl|rfl|rfl|rfl|rfl|rfl
    .exact Z
    .exact aa_ J
    .exact aa_ L
    .obtain⟨_,e1,_⟩:=h1;exact aa_ e1
    .obtain⟨_,e2,_⟩:=h2;exact aa_ e2
    .obtain⟨_,e3,_⟩:=h3;exact aa_ e3
   rw[ax (adp hlt)];exact(hf q hq).1
 done:=by
  intro X hP hw hK hc i nj s σ H E I hf st hg;subst hP hw hK;obtain⟨M,J,_,h1,h2,h3⟩:=st;obtain⟨xs,qx,hend⟩:=hg;obtain⟨U,r1,p1,_⟩:=I.list qx;have l1:=r1.length;exact ZA (I.ok.hd hc) D M J h1 p1.isList (by simp;lia) fun h' hk=>⟨rfl,I.NL (fun q o hb e=>
   hk q o (fun w=>hb (by simp only[acu,acM,aeb] at w ⊢;rcases w with w|w|w|w|w<;>simp[w])) e) hf⟩
 self:=fun A i s Q E st h=>aev st.1 h
def Yp (K:b0)(ta:TA):TI:=fun σ H R=>ta σ H fun vs H1=>∃a b c xs ys zs,vs=[.ref a,.ref b,.ref c]/\dh K H1 a xs/\dh K H1 b ys/\dh K H1 c zs/\R (Itz3 K a b c) H1
def piZ3 (K:b0)(hg:Gl X "zip")(hm:X.mg "zip"=none)(ha:PA X [e,e2,e3] ta)
  (hs:starEach [e,e2,e3] X.env=(false,eval e X.env)::starEach [e2,e3] X.env:=by rfl) (Y:(backTo pos (starEach [e2,e3] X.env)).any (·.1)=false:=by rfl) (hK:X.K=K:=by rfl):
  PI X (.Tuple elts kk tpos) (.Call (.Name "zip" p) [e,e2,e3] [] pos) (Yp K ta):=by
 subst hK;intro nj s σ H R I h;refine Call_ (lX I hg hm Fb (adG (gk (ha pos _ s σ H _ I h) fun us J ⟨vs,H1,M,r1,q1⟩=> ?_) hs Y));obtain⟨a,b,c,xs,ys,zs,ex,qx,qy,qz,q⟩:=q1;subst ex;cases r1 with
 |cons ra O=>
  cases O with
  |cons rb O=>
   cases O with
   |cons rc O=>
    cases O;subst ra;subst rb;subst rc;obtain⟨its1,r1,p1,_⟩:=M.list qx;obtain⟨its2,r2,p2,_⟩:=M.list qy;obtain⟨its3,r3,p3,_⟩:=M.list qz;have la:=p1.lt;have lb:=p2.lt;have lc:=p3.lt;refine QD p1.isList p2.isList p3.isList fun h' hz hTI Z h1 h2 h3 hk=>aev hz ?_
    have I2:Inv X _ σ H1 {J with heap:=h'}:=M.kept hk;have L:∀q:dr,q < _->q∉[J.heap.objs.size+5,J.heap.objs.size+4,J.heap.objs.size,J.heap.objs.size+1,J.heap.objs.size+2]:=fun q hq hm=>by
     have ne:∀k:Nat,q≠J.heap.objs.size+k:=fun k e=>absurd (e ▸ hq) (Nat.not_lt.mpr (ac6 _ _))
     simp_all
    refine xi5 (J.heap.objs.size+5) [J.heap.objs.size+5,J.heap.objs.size+3,J.heap.objs.size+4,J.heap.objs.size,J.heap.objs.size+1,J.heap.objs.size+2] _ _ H1 ⟨rfl,I2,Pb ⟨by simp,L a la,L b lb,L c lc⟩,⟨hz,hTI,xi3 _ _ _ Z,h1,h2,h3⟩,fun q hq=> ?_,q⟩;have U:J.heap.objs.size<=q:=by
     grind
    exact M.Hb U (M.cK.fresh U)
section
variable {σ:L2.St}{G H:Hp}{K:b0}{a b c:Type}
def RTri (K:b0)(R:Rp a)(S:Rp b)(U:Rp c):Rp (a×b×c):=fun G v x=>∃p u w y,v=.ref p/\mO K G p [u,w,y]/\R G u x.1/\S G w x.2.1/\U G y x.2.2
def Y5 (h:mO K H p [u,w,y]):Tg (WM K 3 (E2 (i5 i) (E2 (i5 j) (E2 (i5 k) aad)))) (.ref p) σ H (((σ.set i (some u)).set j (some w)).set k (some y)):=fun _ q=>
 ⟨p,[u,w,y],rfl,h,rfl,u,[w,y],rfl,w,[y],rfl,y,[],rfl,rfl,q⟩
def VJ (h:RA ta σ G H (AC (ag R) (AC (ag S) (AC (ag U) A0))) (xs,ys,zs,()))(l1:xs.length<=ys.length)(l2:xs.length<=zs.length)(mo0:aK R:=by infer_instance)(mo1:aK S:=by infer_instance)(mo2:aK U:=by infer_instance):
  RI (Yp K ta) σ G H (RTri K R S U) (xs.zip (ys.zip zs)):=fun G' H' e Q q=>h G' H' e _ fun us G1 H1 e1 ⟨v,r,e0,⟨p,vs,ev,hs,hp⟩,v2,r2,e2,⟨p2,L,ev2,hs2,hp2⟩,v3,r3,e3,⟨p3,J,ev3,Z,hp3⟩,er⟩=>by
 subst e0 ev e2 ev2 e3 ev3;subst er;refine xi5 p p2 p3 vs L ⟨J,rfl,dh.of (e1.gh.at_ _ _ hs),dh.of (e1.gh.at_ _ _ hs2),dh.of (e1.gh.at_ _ _ Z),q _ _ _ e1 fun i G2 H2 M s2=> ?_⟩;have qq:dh K H2 p vs:=dh.of ((M.trans s2.at_) _ _ hs);have Y:dh K H2 p2 L:=dh.of ((M.trans s2.at_) _ _ hs2);have O:dh K H2 p3 J:=dh.of ((M.trans s2.at_) _ _ Z);refine⟨fun z hz=> ?_,fun hl=>⟨vs,qq,by
  have k1:vs.length=xs.length:=aw hp;rw[aci,aci] at hl;lia⟩⟩
 obtain⟨z1,z23⟩:=ab4.mp hz;obtain⟨z2,z3⟩:=ab4.mp z23;obtain⟨u1,hu1,_⟩:=cw hp z1;obtain⟨u2,hu2,_⟩:=cw hp2 z2;obtain⟨u3,hu3,_⟩:=cw hp3 z3;refine⟨xi5 vs L J u1 u2 ⟨u3,qq,Y,O,hu1,hu2,hu3⟩,fun x H' y=> ?_⟩;obtain⟨T,x',y',w',rfl,hT,rfl,hx,hy,hw⟩:=y;have l:=Ext.laid (o:=.tup [x',y',w']) s2 hT;exact⟨_,l,T,_,_,_,rfl,mO.of ah,aK.mono (M.trans l.gg) (fZ hp (hx vs qq) z1),aK.mono (M.trans l.gg) (fZ hp2 (hy L Y) z2),aK.mono (M.trans l.gg) (fZ hp3 (hw J O) z3)⟩
end
end My
namespace L2
open PySem
def fM.Y2 (r:fM k A):A.units+1 < cLine:=by have:=r.un;lia
end L2
namespace My
open PySem PySem.Spec PyProof.Rows L2
def Si:List V->Hp->VK->Prop:=fun xs H Q=>∃(a:dr) (kvs:List (Key×V)),xs=[.ref a]/\H a=some (.dK kvs)/\ ∀l,H l=none->Q (.ref l) (upd H l (.lst (kvs.map fun p=>kV p.1)))
def Xi (hc:X.calm=true):jB X (.type "list") Si:=by
 intro _ s σ H xs us Q I r h;obtain⟨a,kvs,rfl,hd,q⟩:=h;rw[Vals.FY r];obtain⟨hz,hs,vs,J,hD⟩:=Yy I.cK hd;obtain⟨ep,Y⟩:=hD.dictAt;have O:=Paired.length J;refine PySem.W.kdl_call (PySem.W.kdl_dict hs) (I.ok.hd hc) Y (by lia) fun h' tk acc c U Z hI=> ?_
 have M:=by
  obtain⟨i1,i2⟩:=hI;have gen:∀ks L l,KV ks L->l.length=L.length->(∀(j:Nat) v,l[j]?=some v-> ∃k x,L[j]?=some (k,x)/\(fG X.prog X.w).is k v=true)->Vals (ks.map fun p=>kV p.1) l:=by
   intro ks
   induction ks with
   |nil=>
    intro L l J O _;cases J;cases l with
    |nil=>exact .nil
    |_ _ _=>simp at O
   |_ p ks ih=>
    intro L l J O M;cases J with
    |cons r t=>
     rename_i b bs;cases l with
     |nil=>simp at O
     |_ u l=>
      obtain⟨k,x,e1,e2⟩:=M 0 u rfl;cases e1;refine .cons ?_ (ih bs l t (by simp_all) fun j v hj=>by exact M (j+1) v (by trivial));have U:=r.1
      show RelV (kV p.1) u
      rw[U];exact R4 (e2)
  exact gen kvs vs _ J (by exact i1) fun j v hj=>i2 j v (by simp_all)
 exact⟨.ref _,_,I.laid (o:=.lst _) U (ac_ _) ⟨by simp_all,acc.toList,c,M,by exact Z⟩,rfl,q _ (I.cK.fresh (ac_ _))⟩
def lh (ks:hA):HO:=.dK (ks.map fun k=>(Sum.inl k,V.bl true))
def mf (ks:hA)(k:Int):hA:=if k∈ks then ks else ks++[k]
def Sk (k:Int):∀ks:hA,putK (ks.map fun k=>((Sum.inl k:Key),V.bl true)) (Sum.inl k) (V.bl true)=(mf ks k).map fun k=>((Sum.inl k:Key),V.bl true):=by
 intro ks;delta putK mf
 by_cases h:k∈ks
 .simp_all
 .grind
def XG (ks:hA)(k:Int):(mf ks k).length<=ks.length+1:=by
 delta mf
 grind
section
variable {σ:L2.St}{G H:Hp}{K:b0}{D:Ends}
def Zv (h1:RE ta σ G H af i)(h2:RE tb σ G H af j):RE (il (EH fun i j=>.int (Builtin.bitOr i j)) ta tb) σ G H af (Builtin.bitOr i j):=tI (fun _ _ _=>rfl) h1 h2
def YW (k:∀p,H p=none->u D (σ.set i (some (.ref p))) (upd H p (lh []))):rC (tp Ro (i5 i)) u D σ H:=fun p J=>k p J
def YX (M:σ[j]?=some (some (.ref p)))(L:H p=some (lh ks))(O:ks.length < sizeLine)(s:Sub G H)(h:RE ti σ G H af k)
  (q:∀G' H',Ext G H G' H'->D.nx σ (upd H' p (lh (mf ks k)))):Yf (cc j) ti (tC (.bl true)) D σ H:=
 ⟨_,M,h G H (Ext.refl s) _ fun v G' H' e r=>⟨p,upd H' p _,rfl,by
  have J:=r;rw[J];have:=UM.k (k:=Sum.inl k) (v:=V.bl true) (e.hh _ _ L) (by simp[*])
  rw[Sk] at this;exact this,q G' H' e⟩⟩
def YV (M:σ[j]?=some (some (.ref p)))(J:H p=some (lh ks))(q:∀l,H l=none->D.rt (.ref l) (upd H l (.lst (ks.map V.int)))):Rm (CU Si (bO (cc j) fV)) D σ H:=
 ⟨_,M,p,_,rfl,J,fun l L=>by
  have:=q l L
  rw[aco];exact this⟩
end
def Yd (K:b0)(sp:Sp)(ta:TA):TE:=fun σ H Q=>ta σ H fun vs H1=>∃a xs,vs=[.ref a]/\dh K H1 a xs/\
 ∃W:Nat->Option (V×V)->Hp->Prop,W 0 none H1/\(∀i b H,W i b H->dh K H a xs/\ ∀x,xs[i]?=some x->sp [x] H (fun k H'=>match b with
  |none=>W (i+1) (some (x,k)) H'
  |some (bx,bk)=>rGtI k bk H' fun g=>W (i+1) (if g then some (x,k) else some (bx,bk)) H') E0)/\
 ∀b H,W xs.length b H->match b with|some (x,_)=>Q x H|none=>False
def V_ (K:b0)(J:X.calm=true)(hg:Gl X "max")(hm:X.mg "max"=none)(ha:PA X [e] ta)(C:Cal X.prog X.w X.K X.mg X.base k f ps sp)(hr:fM k' X.A)(hk:k+1<=k')(O:Gl X f)
  (U:(f==("__debug__":Str))=false:=by decide) (Y:starEach [e] X.env=[(false,eval e X.env)]:=by rfl) (hK:X.K=K:=by rfl):
  PE X (.Call (.Name "max" p) [e] [⟨some "key",.Name f np,kp⟩] pos) (Yd K sp ta):=by
 subst hK;obtain⟨Z,fd,F,M,hkp,hb⟩:=C.ex;intro _ s σ H Q I h;refine aeh (lX I hg hm HU ?_);refine PyProof.Rows.callWith_kw (gk (ha pos _ s σ H _ I h) fun us s1 ⟨vs,H1,I1,r1,a,xs,e1,L,W,w0,wS,wE⟩=> ?_) (by rw[Y];rfl) (by rw[Y];rfl);refine gk (F8 (Gd (v:=.ref Z) O M rfl U) Sq pos _ s1 σ H1 (fun zs H2=>zs=[.ref Z]/\H2=H1) I1 ⟨rfl,rfl⟩) fun ws s2 z0=> ?_;obtain⟨zs,H2,I2,rz,ez,eH⟩:=z0
 subst e1 ez eH;rw[Vals.FY r1];cases rz with
 |cons ra rb=>
  cases rb;subst ra;refine EL (d:=none) (dV:=none) J (S7 F ((hr.mono hk).in1) hb) Um W (by simp[*]) L w0 wS trivial (fun b H w=> ?_);have:=wE b H w
  cases b with
  |none=>exact this
  |_ y=>exact this
section
variable {σ:L2.St}{G H:Hp}{K:b0}
def uc (sz:Int->Int)(o:ng)(x:Int):ng:=match o with
 |none=>some x
 |some y=>if decide (sz y < sz x) then some x else some y
def VO (h:RA ta σ G H (AC (ag af) A0) (xs,()))(hp:∀x∈xs,pre (x,()))(hm:xs.foldl (uc fun x=>sz (x,())) none=some m):
  RE (Yd K (fz 1 (AC af A0) pre af sz) ta) σ G H af m:=fun G' H' e Q q=>h G' H' e _ fun vs G1 H1 e1 ⟨v,rr,e0,⟨p,us,ev,O,pr⟩,er⟩=>by
 subst e0 ev;subst er;have hus:=paired_ints pr;subst hus;refine⟨p,xs.map V.int,rfl,dh.of (e1.gh.at_ _ _ O),fun i b H3=>∃Z,Ext G1 H1 Z H3/\i<=xs.length/\match(xs.take i).foldl (uc fun x=>sz (x,())) none,b with
  |none,none=>True
  |some y,some (Y,bk)=>Y=.int y/\bk=.int (sz (y,()))
  |_,_=>False,⟨G1,Ext.refl e1.gh,adz _,trivial⟩, ?_, ?_⟩
 .rintro i b H3 ⟨Z,M,hi,J⟩;have hp3:=M.gg _ _ O;refine⟨dh.of (M.gh.at_ _ _ hp3),fun x hx=> ?_⟩;have L:=by
   have:=(abZ.mp hx).1
   rw[aca] at this;exact this
  rw[ab0,abX L] at hx;injection hx with hx;subst hx;have et:(xs.take (i+1)).foldl (uc fun x=>sz (x,())) none=uc (fun x=>sz (x,())) ((xs.take i).foldl (uc fun x=>sz (x,())) none) xs[i]:=by
   rw[ac3,abX L,adE,abR];rfl
  refine⟨rfl,Z,(xs[i],()),M.gh,⟨_,_,rfl,rfl,rfl⟩,hp _ (ab5 L),fun k G4 H4 e4 r4=> ?_⟩;cases b with
  |none=>
   refine⟨G4,M.trans e4,L, ?_⟩;rw[et];generalize (xs.take i).foldl _ _=o at J;cases o with
   |none=>exact⟨rfl,r4⟩
   |_ y=>exact J.elim
  |_ w=>
   obtain⟨Y,bk⟩:=w;generalize hf:(xs.take i).foldl _ _=o at J et;cases o with
   |none=>exact J.elim
   |_ y=>
    obtain⟨hbx,U⟩:=J;refine⟨sz _,sz _,r4,U, ?_⟩;refine⟨G4,M.trans e4,L, ?_⟩;rw[et]
    show match(if decide _ then some xs[i] else some y),(if decide _ then some _ else some (Y,bk)) with
     |none,none=>True
     |some y,some (Y,bk)=>Y=.int y/\bk=.int _
     |_,_=>False
    cases decide (sz _ < sz _) with
    |true=>exact⟨rfl,r4⟩
    |_=>exact⟨hbx,U⟩
 .rintro b H3 ⟨Z,M,_,J⟩;rw[aca,ac1,hm] at J;cases b with
  |none=>exact J.elim
  |_ w=>
   exact q _ Z H3 (e1.trans M) J.1
end
def TC (n:Nat):(List.replicate n [V.int 0]).flatten=List.replicate n (V.int 0):=by
 induction n with
 |zero=>rfl
 |_ n J=>rw[acW,List.flatten_cons,J];rfl
def AJ:∀n:Nat,Paired (af G) (List.replicate n (V.int 0)) (List.replicate n 0)
 |0=>.nil
 |n+1=>.cons rfl (AJ n)
def N_ (h:0<=k)(h2:k.toNat < n):Qb n k=some k.toNat:=by
 delta Qb
 simp_all
def kf:∀{vs:List V} {xs:List a} {v:V} {x:a},Paired R vs xs->R v x-> ∀j,Paired R (vs.set j v) (xs.set j x)
 |_,_,_,_,.nil,_,_=>.nil
 |_,_,_,_,.cons _ t,r,0=>.cons r t
 |_,_,_,_,.cons q t,r,j+1=>.cons q (kf t r j)
section
variable {σ:L2.St}{G H:Hp}{K:b0}{D:Ends}{a:Type}
def Q6 (s:Sub G H)(h:RE tb σ G H af n)(Z:0<=n)(h1:n<=3)(k:∀p G' H',Ext G H G' H'->H' p=none->u D (σ.set i (some (.ref p))) (upd H' p (.lst (List.replicate n.toNat (V.int 0))))):
  rC (tp (il rRep (FI (bO (tC (.int 0)) fV)) tb) (i5 i)) u D σ H:=by
 refine⟨by decide,fun l U=> ?_⟩;have J:=Ext.laid (o:=.lst [V.int 0]) s U;refine(h.later J) _ _ (Ext.refl J.gh) _ fun v Y H2 L r2=> ?_
 have M:=r2;subst M;refine xi3 l n [V.int 0] ⟨rfl,rfl,L.hh _ _ ah,by lia,by lia, ?_,fun p O=> ?_⟩
 .show 1*_<=sizeLine
  exact adb (show _<=3 by lia) (by decide)
 .rw[TC];exact k p Y H2 (J.trans L) O
def YU (s:Sub G H)(Z:σ[j]?=some (some (.ref p)))(Y:H p=some (.lst vs))(h:RE te σ G H R x)(h2:∀G' H',Ext G H G' H'->RE ti σ G' H' af k)(hi:Qb vs.length k=some i)
  (q:∀v G' H',Ext G H G' H'->R G' v x->D.nx σ (upd H' p (.lst (vs.set i v)))) (U:aK R:=by infer_instance):tp te (aac (cc j) ti Sf) D σ H:=
 h G H (Ext.refl s) _ fun v M H1 J O=>⟨_,Z,h2 M H1 J M H1 (Ext.refl J.gh) _ fun u G2 H2 L r2=>xi4 p vs k i ⟨rfl,r2,(J.trans L).hh _ _ Y,hi,q v G2 H2 (J.trans L) (aK.mono L.gg O)⟩⟩
end
end My
namespace Cw
open PySem PySem.Spec PyProof.Rows L2 My
def aP (nt:List bH)(rep:Int)(roll:ji):hA:=(du nt rep roll.2.1).map fun e=>e - roll.2.1
def yy (sets:hA)(z:Int×Int):hA:=sets.set z.2.toNat (sets.getD z.2.toNat 0+1*2^z.1.toNat)
def f6 (way:hA)(n:Int):hA:=(numbered way).foldl yy (List.replicate n.toNat 0)
def fk (way:hA)(sd:List ji)(ri:List hA):hA:=(sd.zip (ri.zip (f6 way sd.length))).map fun z=>z.1.1 - z.2.1.getD z.2.2.toNat 0
def jJ (ways:List hA)(n:Int):List hA:=ways.flatMap fun w=>(upTo 0 n.toNat).map fun r=>w++[r]
def sV (sd:List ji)(ri:List hA)(ways:List hA):List hA:=(jJ ways sd.length).filter fun w=>decide (0<=oZ (fk w sd ri))
def x8 (nt:List bH)(rep:Int)(sd:List ji):List hA:=nt.foldl (fun ways _=>sV sd (sd.map (aP nt rep)) ways) [[]]
def da (nt:List bH)(rep:Int)(sd:List ji):Option hA:=(x8 nt rep sd).head?
def pG (way:hA)(nt:List bH)(rep:Int)(sd:List ji):hA:=fk way sd (sd.map (aP nt rep))
def iH (length ch:Int)(g:hA)(z:Int×Int):hA:=if decide (Builtin.bitAnd ch z.1=0)&&decide (z.2<=length) then mf g (Builtin.bitOr ch z.1) else g
def dF (sets ri:hA)(length:Int):hA:=sets.foldl (fun g ch=>(numbered ri).foldl (iH length ch) g) []
def k9 (nt:List bH)(rep:Int)(sd:List ji):hA:=sd.foldl (fun sets roll=>dF sets (aP nt rep roll) roll.1) [0]
def kg (c:Int):Int:=(((upTo 0 (Builtin.Int.intBits c)).filter fun n=>gO c n).length:Int)
def Nj (h:0<=c)(h2:c < 64):Builtin.Int.intBits c<=6:=by
 obtain _:=abd h;have:∀m:Nat,m < 64->Builtin.Int.intBits m<=6:=by decide+kernel
 grind
def sortI (l:hA):hA:=l.mergeSort fun a b=>decide (a<=b)
def kh (nt:List bH)(rep:Int)(sd:List ji):Int:=(((sortI (k9 nt rep sd)).foldl (uc kg) none).getD 0)
def tu (h1:zs.Perm l)(h2:zs.Pairwise (·<=·)):zs=sortI l:=by
 have J:=by
  have:=List.pairwise_mergeSort (le:=fun a b:Int=>decide (a<=b)) (fun a b c h1 h2=>adZ (abh (aea h1) (aea h2))) (fun a b=>by simp;lia) l
  exact this.imp fun h=>aea h
 have L:zs.Perm (sortI l):=h1.trans (acH l _).symm;exact List.Perm.eq_of_pairwise (fun a b _ _ h1 h2=>abe h1 h2) h2 J L
def zY {n:Nat}:∀(l:List (Int×Int)) (J:hA) (i:Nat),(∀j z,l[j]?=some z->z.1=((i+j:Nat):Int)/\0<=z.2/\z.2 < (n:Int))->J.length=n->(∀x∈J,0<=x/\x < 2^i)->(l.foldl yy J).length=n/\ ∀x∈l.foldl yy J,0<=x/\x < 2^(i+l.length)
 |[],J,i,_,h1,h2=>⟨h1,h2⟩
 |z::l,J,i,h,h1,h2=>by
  obtain _:=h 0 z rfl;have M:z.1.toNat=i:=by lia
  have:=zY l (yy _ z) (i+1) (fun j y Y=>by
   have:=h (j+1) y (by trivial)
   refine⟨by lia,this.2⟩) (by delta yy;rw[acf];exact h1) (fun x L=> ?_)
  .refine⟨this.1,fun x L=> ?_⟩
   grind
  .have _:(0:Int) < 2^i:=Int.pow_pos (by decide)
   rcases List.mem_or_eq_of_mem_set L with L|L
   .grind
   .have U:z.2.toNat < J.length:=by omega
    have O:J.getD z.2.toNat 0∈J:=by simp[*]
    have:=h2 _ O
    rw[L,M];omega
def J6 (O:0<=n)(hw:∀r∈J,0<=r/\r < n):(f6 J n).length=n.toNat/\ ∀x∈f6 J n,0<=x/\x < 2^J.length:=by
 have:=zY (n:=n.toNat) _ (List.replicate n.toNat 0) 0 (fun j z L=>by
  obtain⟨h1,h2⟩:=cy L;have:=hw z.2 (acB h2)
  grind) (by simp) (fun x M=>by simp_all)
 rwa [cN,ady] at this
def iO:(aP nt rep roll).length=2^nt.length:=by
 unfold aP;rw[aca,jl]
def sN (n:Int)(w:hA):Prop:=∀r∈w,0<=r/\r < n
def EO (h:∀w∈ways,w.length=k/\sN n w):∀w∈jJ ways n,w.length=k+1/\sN n w:=by
 intro w hw;obtain⟨v,L,hw⟩:=acy.mp hw;obtain⟨r,M,rfl⟩:=acA.mp hw;obtain⟨h1,h2⟩:=h v L;have:=ip M
 refine⟨by simp[*],fun x J=> ?_⟩
 rcases acq.mp J with J|J
 .exact h2 x J
 .grind
def Bx (J:n<=3):(jJ ways n).length<=ways.length*3:=by
 refine ir _ fun w _=> ?_
 rw[aca,cg];lia
section
variable {P:dn}{w:fx}{K:b0}{mg:gp}{base:Heap}{t:jC}
abbrev gA:Df:=⟨"roll_needs",98,["strips","repeat","roll"],fun K t=>fz 3 (AC (ag (cZ K t)) (AC af (AC (qb K t) A0))) (fun x=>x.1.length<=6/\0 < x.2.1) (ag af) (fun x=>aP x.1 x.2.1 x.2.2.1)⟩
def ql:dP ["strips","repeat","roll","end"] gA:=by walk_at"s"
def DB (F:bh K gA f fd)(T:Txt K mg t)(U:aL P w K mg base t 2 km):dO P w K mg base t 3 f fd gA:=by
 refine Jj F ql fun H Y=>⟨_,(ae (aj (gK (own:=[("end",3)]) rfl ql.nd (rP K (bJ U Y (cD aN bz (aF K bP)))) (bC (by rfl)) (fun _ _ _ _ _=>(iZ 3 ql.nd)) (fun _ _ _ _ _=>c6) (fun _ _ _ _ _=>(bc qt dJ (aF K bP)))))),fun G nt J M eg dB L hs dz fQ Z_ Z=> ?_⟩
 obtain⟨O,p2⟩:=Z;refine RS.eq (aB (eT (bD (ak (fY (by walk_at"re") (by walk_at"re") (kS T (aR Z_))) ⟨O,p2⟩)) ?_ fun z hz x G1 H1 e1 r1=>⟨_,cE,rfl,tH (by walk_at"re") (kS T (by walk_at"re"))⟩)) rfl;rw[jl];exact adf (oH O) (by decide)
abbrev jP:Df:=⟨"given_sets",99,["way","roll_count"],fun _ _=>fz 2 (AC (ag af) (AC af A0)) (fun x=>x.1.length<=6/\sN x.2.1 x.1/\0<=x.2.1/\x.2.1<=3) (ag af) (fun x=>f6 x.1 x.2.1)⟩
def mq:dP ["way","roll_count","sets","strip","roll"] jP:=by walk_at"s"
def DI (F:bh K jP f fd)(T:Txt K mg t):dO P w K mg base t 1 f fd jP:=by
 refine mT F mq fun H hr=>⟨_,(aa (dC 2 mq.nd (bc ZO (az (aG ai)) bz)) (aa (ek adF rfl (piE K rfl T.hU (aG aN)) (Sr K (n:=2) rfl (cF (iZ 3 mq.nd) (cF (iZ 4 mq.nd) kX))) (ae (AB (bc kZ (cW (dZ K) bP lO) (bc Gf ai dJ)) (AG bP lO set_list)))) (ae (aj bP)))),fun G way J Q9 rA hs J2 rT hp=> ?_⟩
 try dsimp only at hp
 obtain⟨p1,p2,p3,p4⟩:=hp;intro G0 H0 e0 D kD;refine Q6 e0.gh (ab rfl rT e0.gg) p3 p4 fun p G1 H1 Y hq=> ?_
 have g1:G1 p=none:=Y.gh.free hq;have Z:=Y.trans (Ext.own (o:=.lst (List.replicate J.toNat (V.int 0))) Y.gh hq);have hp0:H0 p=none:=Y.hh.free hq
 show qe _ _ _ _ _ _
 refine jY yy (fun L=>∃t3 t4,L=[some Q9,some rA,some (.ref p),t3,t4]) Z.gh g1 ah (AJ _) (xi2 _ _ rfl) (uM (bp (ab rfl J2 (e0.gg.trans Y.gg)))) ?_ ?_
 .rintro G2 i z acc hz ha L G' H' A x hx;obtain⟨t3,t4,rfl⟩:=A.sh;obtain⟨vs,k1,k2⟩:=A.at_;obtain⟨a4,u,w',rfl,hs4,hu,hw⟩:=hx;obtain⟨n1,n2⟩:=cy hz;have hi:i < way.length:=(abZ.mp n2).1;have M:=p2 z.2 (acB n2);have hal:acc.length=J.toNat:=by
   rw[ha];exact(zY _ _ 0 (fun j y hy=>by
    rw[List.getElem?_take] at hy;split at hy
    case isFalse=>nomatch hy
    obtain⟨h1,h2⟩:=cy hy;have:=p2 y.2 (acB h2)
    exact⟨by rw[h1];lia,this.1,by lia⟩) (by simp) (fun x hx=>by rw[(List.mem_replicate.mp hx).2];decide)).1
  have O:z.2.toNat < acc.length:=by lia
  refine mi (aE.tup A.ex.gh.at_ hs4) _ ?_;have sG:=A.ex.gg;have up:=bB (o:=.lst vs) A.gn;have U:ag af (upd G' p (.lst vs)) (.ref p) acc:=⟨p,vs,rfl,ah,aq up k2⟩
  refine YU (x:=acc.getD z.2.toNat 0+1*2^z.1.toNat) (i:=z.2.toNat) A.ex.gh rfl k1 (zD k1 A.gn (oF (aJ (ab (i:=2) rfl U sr) (ab (i:=4) (v:=w') rfl hw up) M.1 ?_) (Aq ao (ab (i:=3) (v:=u) rfl hu up) ⟨?_, ?_,by decide⟩))) (fun G5 H5 e5=>ab (i:=4) (v:=w') rfl hw e5.gg) ?_ fun v G6 H6 e6 r6=>⟨G6, ?_⟩
  .rw[abU,abX O];rfl
  .rw[n1];lia
  .rw[n1];lia
  .rw[aw k2];exact N_ M.1 O
  .exact A.grow e6 (xi2 _ _ rfl) (kf (aq e6.gg k2) r6 _)
 .rintro G2 L G' H' A;obtain⟨t3,t4,rfl⟩:=A.sh;obtain⟨G5,e5,r5⟩:=A.done Z hp0;exact⟨_,rfl,kD _ G5 H' e5 r5⟩
abbrev ju:Df:=⟨"left_over",100,["way","rolls","needs"],fun K t=>fz 3 (AC (ag af) (AC (ag (qb K t)) (AC (ag (ag af)) A0))) (fun x=>x.1.length<=6/\sN x.2.1.length x.1/\x.2.1.length<=3/\x.2.2.1.length=x.2.1.length/\ ∀nd∈x.2.2.1,2^x.1.length<=nd.length) (ag af) (fun x=>fk x.1 x.2.1 x.2.2.1)⟩
def jn:dP ["way","rolls","needs","sets","roll","need","chosen"] ju:=by walk_at"s"
def Gx (F:bh K ju f fd)(T:Txt K mg t)(sk:aL P w K mg base t 1 jP):dO P w K mg base t 2 f fd ju:=by
 refine Jj F jn fun H hr=>⟨_,(aa (dC 3 jn.nd (bJ sk hr (aY aN (nD T bz)))) (ae (aj (gK (own:=[("roll",4),("need",5),("chosen",6)]) rfl jn.nd (piZ3 K rfl T.K4 (cD bz bP dJ)) (bC (by rfl)) (fun _ _ _ _ _=>(Sr K (n:=3) rfl (cF (iZ 4 jn.nd) (cF (iZ 5 jn.nd) (cF (iZ 6 jn.nd) kX))))) (fun _ _ _ _ _=>c6) (fun _ _ _ _ _=>(bc qt (aF K lO) (cW (dZ K) uQ Pz))))))),fun G J sd ri Q9 wo uH hs J2 U xj Y=> ?_⟩
 try dsimp only at Y
 obtain⟨p1,p2,p3,p4,p5⟩:=Y;obtain⟨gl,gb⟩:=J6 (by omega) p2;refine RS.eq (bQ (R:=ag af) (x:=f6 J sd.length) (ak (bX (aR J2) (dc (bp (aR U)))) ⟨p1,p2,(by show(0:Int)<=sd.length;omega),(by show(sd.length:Int)<=3;lia)⟩) fun Ly G1 H1 Z ME=>aB (eT (R:=af) (VJ (fY (ab rfl U Z.gg) (ab rfl xj Z.gg) (aR ME)) (by lia) (by lia)) ?_ fun z hz x G2 H2 e2 r2=> ?_)) rfl
 .rw[aci];exact adf (show _<=3 by lia) (by decide)
 .obtain⟨a,u,w',y,rfl,M,hu,hw,hy⟩:=r2;obtain⟨i,hi⟩:=acz.mp hz;obtain⟨z1,L⟩:=ab4.mp hi;obtain⟨z2,z3⟩:=ab4.mp L;have b1:=p5 _ (acB z2);have b2:=gb _ (acB z3);refine⟨_,Y5 (aE.tup e2.gh.at_ M),rfl,tH (kR T (aR hu)) (aJ (aR hw) (aR hy) b2.1 ?_)⟩;have O:z.2.2.toNat < z.2.1.length:=by
   have:((2^J.length:Nat):Int)=(2:Int)^J.length:=by simp
   omega
  rw[abU,abX O];rfl
abbrev i_:Df:=⟨"longer_ways",101,["ways","roll_count"],fun _ _=>fz 2 (AC (ag (ag af)) (AC af A0)) (fun x=>x.1.length<=1000/\(∀w∈x.1,w.length<=6)/\0<=x.2.1/\x.2.1<=3) (ag (ag af)) (fun x=>jJ x.1 x.2.1)⟩
def iN:dP ["ways","roll_count","longer","way","roll"] i_:=by walk_at"s"
def Bb (F:bh K i_ f fd)(T:Txt K mg t):dO P w K mg base t 1 f fd i_:=by
 refine mT F iN fun H hr=>⟨_,(aa (dC 2 iN.nd (az eU)) (aa (ek adF rfl (rP K aN) (iZ 3 iN.nd) (ae (bS (lP K adI adL fP bP (aG (gK (own:=[("roll",4)]) rfl iN.nd (oq rfl T.ig (aG bz)) (bC (by rfl)) (fun _ _ _ _ _=>(iZ 4 iN.nd)) (fun _ _ _ _ _=>c6) (fun _ _ _ _ _=>(bc jD dJ (az (aG lO)))))))))) (ae (aj bP)))),fun G ways J Lx rA hs MD rT hp=> ?_⟩
 try dsimp only at hp
 obtain⟨p1,p2,p3,p4⟩:=hp;intro G0 H0 M D kD;refine wj fun p O=> ?_
 have g0:G0 p=none:=M.gh.free O;have sm:Sub G0 (upd H0 p (.lst [])):=M.gh.trans (bB O);refine jY (R:=ag af) (fun acc w=>acc++(upTo 0 J.toNat).map fun r=>w++[r]) (fun L=>∃Z Y,L=[some Lx,some rA,some (.ref p),Z,Y]) sm g0 ah .nil (xi2 _ _ rfl) (bD (ab rfl MD M.gg)) ?_ ?_
 .rintro G2 i w acc hz ha L G' H' A v_w Z9;obtain⟨Z,Y,rfl⟩:=A.sh;obtain⟨vs,k1,k2⟩:=A.at_;have hw6:=p2 w (acB hz);refine mP (R:=ag af) (xs:=(upTo 0 J.toNat).map fun r=>w++[r]) rfl k1 ?_ A.ex.gh (eT (oo (bp (ab rfl rT (M.gg.trans A.ex.gg))) (by lia) (by lia)) ?_ fun z hz x G6 H6 U r6=>⟨_,cE,rfl, ?_⟩) fun us G6 H6 U r6=> ?_
  .rw[aw k2,ha,cC,acI,aca,cg];have:=ir (m:=3) (f:=fun w:List Int=>(upTo 0 J.toNat).map fun r=>w++[r]) (ways.take i) fun z _=>by rw[aca,cg];lia
   rw[ach] at this;exact adb (show _<=4000 by omega) (by decide)
  .rw[cg];exact adf (show _<=3 by lia) (by decide)
  .exact kQ (ab rfl Z9 U.gg) (bG (aI (aR r6) bu) sl1) (adb (show w.length+1<=7 by lia) (by decide))
  .exact⟨G6,A.grow U (xi2 _ _ rfl) (dR (aq U.gg k2) r6)⟩
 .rintro G2 L G' H' A;obtain⟨Z,Y,rfl⟩:=A.sh;obtain⟨G5,e5,r5⟩:=A.done (Ext.own M.gh O) O;rw[cC] at r5;exact⟨_,rfl,kD _ G5 H' e5 r5⟩
def Q2 (J:sd.length<=3)(h:∀w∈ways,w.length=k/\sN sd.length w)(L:ways.length<=3^k):(∀w∈sV sd ri ways,w.length=k+1/\sN sd.length w)/\(sV sd ri ways).length<=3^(k+1):=by
 refine⟨fun w hw=>EO h w (acx.mp hw).1,adb (ab_ _ _) (adb (Bx (by lia)) ?_)⟩;lia
def Fy (J:sd.length<=3):∀(l:List bH) (ways:List hA) (k:Nat),(∀w∈ways,w.length=k/\sN sd.length w)->ways.length<=3^k->(∀w∈l.foldl (fun ways _=>sV sd ri ways) ways,w.length=k+l.length/\sN sd.length w)/\(l.foldl (fun ways _=>sV sd ri ways) ways).length<=3^(k+l.length)
 |[],ways,k,h1,h2=>⟨h1,h2⟩
 |_::l,ways,k,h1,h2=>by
  obtain⟨a,b⟩:=Q2 J h1 h2;have:=Fy (ri:=ri) J l _ _ a b
  rwa [ab8,show k+_=k+1+l.length by lia]
def JP (hw:sN sd.length way)(J:ri.length=sd.length):(fk way sd ri).length=sd.length:=by
 delta fk;rw[aca,aci,aci,(J6 (by lia) hw).1];lia
abbrev lH:Df:=⟨"first_way",102,["strips","repeat","rolls"],fun K t=>fz 3 (AC (ag (cZ K t)) (AC af (AC (ag (qb K t)) A0))) (fun x=>x.1.length<=6/\0 < x.2.1/\0 < x.2.2.1.length/\x.2.2.1.length<=3) (jA (ag af)) (fun x=>da x.1 x.2.1 x.2.2.1)⟩
def fW:dP ["strips","repeat","rolls","needs","roll","ways","strip","way"] lH:=by walk_at"s"
def GB (F:bh K lH f fd)(T:Txt K mg t)(kx:aL P w K mg base t 2 ju)(qB:aL P w K mg base t 1 i_)(ff:aL P w K mg base t 3 gA):dO P w K mg base t 4 f fd lH:=by
 refine Jj F fW fun H Y=>⟨_,(aa (dC 3 fW.nd (gK (own:=[("roll",4)]) rfl fW.nd (rP K bP) (bC (by rfl)) (fun _ _ _ _ _=>(iZ 4 fW.nd)) (fun _ _ _ _ _=>c6) (fun _ _ _ _ _=>(bJ ff Y (cD aN bz lO))))) (aa (dC 5 fW.nd (az (aG (az eU)))) (aa (ek adF rfl (rP K aN) (iZ 6 fW.nd) (ae (qK (i:=5) (own:=[("way",7)]) rfl fW.nd rfl rfl (uI rfl rfl rfl rfl) (rP K (bJ qB Y (aY uQ (nD T bP)))) (bC (by rfl)) (fun _ _ _ _ _=>(iZ 7 fW.nd)) (fun _ _ _ _ _=>(pA (ka iG (fD (OB K rfl) rfl T.CF Cv (aG (bJ kx Y (cD VY bP dJ)))) ai))) (fun _ _ _ _ _=>VY)))) (ae (aj (gL (ka wR (nD T uQ) ai) (cW (dZ K) uQ ai) ke)))))),fun G nt J sd eg dB wo hs dz fQ nQ hp=> ?_⟩
 try dsimp only at hp
 try dsimp only[je,rd]
 obtain⟨p1,p2,p3,p4⟩:=hp;have nl:(sd.map (aP nt J)).length=sd.length:=aca ..;have nn:∀nd∈sd.map (aP nt J),nd.length=2^nt.length:=fun nd h=>by
  obtain⟨r,_,rfl⟩:=acA.mp h;exact iO
 intro G0 H0 U D kD;refine cB U.gh (eT (zs:=sd) (bD (ab rfl nQ U.gg)) (adf p4 (by decide)) fun z hz x G6 H6 e6 r6=>⟨_,cE,rfl,ak (bE (ab rfl dz (U.gg.trans e6.gg)) (bE (ab rfl fQ (U.gg.trans e6.gg)) (bE (ab rfl r6 sr) qp))) ⟨p1,p2⟩⟩) fun uH G1 H1 e1 xj=> ?_
 refine cB e1.gh (R:=ag (ag af)) (x:=[[]]) (bG (aI wI bu) sl1) fun Lx G2 H2 e2 MD=> ?_
 have e02:=e1.trans e2
 show qe _ _ _ _ _ _
 refine jK (fun ways _=>sV sd (sd.map (aP nt J)) ways) [[]] (fun G3 _ st L G' H'=>∃v a b c,L=[some eg,some dB,some wo,some uH,a,some v,b,c]/\ag (ag af) G' v st/\Ext G0 H0 G' H'/\aE G3 G'/\aE G1 G')
  (zs:=nt) e2.gh (bD (ab rfl dz (U.gg.trans e02.gg))) ?_ ?_ ?_ ?_
 .intro G3 H3 e3;exact xi4 Lx none none none ⟨rfl,aK.mono e3.gg MD,e02.trans e3,aE.refl _,e2.gg.trans e3.gg⟩
 .rintro G3 H3 st L G' H' ⟨v,a,b,c,rfl,M,ex,sm,_⟩;exact⟨sm,ex.gh⟩
 .rintro G3 H3 e3 i s st hz hst L G' H' ⟨v,a,b,c,rfl,M,ex,sm,s1⟩ vB G4 H4 O iY;have hi:i < nt.length:=(abZ.mp hz).1;obtain⟨w1,w2⟩:=Fy (sd:=sd) p4 (nt.take i) [[]] 0 (fun w hw=>by rw[acF.mp hw];exact⟨rfl,fun r Y=>by cases Y⟩) (by decide);rw[<- hst,ach,ady,adl (by omega)] at w1 w2;have h5:(3:Nat)^i<=3^5:=ads (by decide) (by omega);have ex4:=ex.trans O;have s4:aE G G4:=U.gg.trans ex4.gg;have hv4:=aK.mono O.gg M;have Z:ag (ag af) G4 uH (sd.map (aP nt J)):=aK.mono (s1.trans O.gg) xj;have lo:=EO w1;have ll:=Bx (ways:=st) (n:=(sd.length:Int)) (by omega);refine qd O.gh (x:=sV sd (sd.map (aP nt J)) st) (RE.eq (wJ (p:=fun w=>decide (0<=oZ (fk w sd (sd.map (aP nt J))))) (bD (ak (bX (aR hv4) (dc (bp (ab rfl nQ s4)))) ⟨?_, ?_, ?_, ?_⟩)) ?_ fun w hw x G6 H6 e6 r6=>⟨_,cE,rfl, ?_,fun _=>ab rfl r6 sr⟩) (by delta sV;simp)) fun v8 G8 H8 e8 h8=> ?_
  .show st.length<=1000;exact adb w2 (adb h5 (by decide))
  .intro w hw;rw[(w1 w hw).1];omega
  .show (0:Int)<=sd.length;omega
  .show (sd.length:Int)<=3;lia
  .exact adf ll (adf (adn 3 (adb w2 h5)) (by decide))
  .obtain⟨o1,o2⟩:=lo w hw;have hne:fk w sd (sd.map (aP nt J))≠[]:=fun z=>by
    have:=JP o2 nl
    rw[z] at this;simp at this;lia
   refine dj (g7 (F0 (bp (ak (fY (aR r6) (ab rfl nQ (s4.trans e6.gg)) (ab rfl Z e6.gg)) ⟨?_,o2,p4,nl,fun nd hnd=> ?_⟩)) (gP hne)) ao)
   .show w.length<=6;lia
   .rw[nn nd hnd,o1];exact ads (by decide) (by lia)
  .exact xi5 G8 v8 _ _ _ ⟨rfl,h8,ex4.trans e8,sm.trans (O.gg.trans e8.gg),s1.trans (O.gg.trans e8.gg)⟩
 .rintro G3 H3 e3 L G' H' ⟨v,a,b,c,rfl,M,ex,sm,s1⟩;dsimp only;have M:ag (ag af) G' v (x8 nt J sd):=M;refine cf ex.gh (RE.eq (lQ (x:=some ((x8 nt J sd).headD [])) (y:=none) (dj (EG (dc (bp (ab (i:=5) (v:=v) rfl M sr))) ao)) (fun hc=>ph (aJ (ab (i:=5) (v:=v) rfl M sr) ao (by decide) ?_)) fun _=>jW) ?_) fun v8 G8 H8 e8 h8=>kD v8 G8 H8 (ex.trans e8) h8
  .cases hm:x8 nt J sd with
   |nil=>rw[hm] at hc;exact absurd hc (by decide)
   |cons x l=>rfl
  .unfold da;cases hm:x8 nt J sd with
   |nil=>rfl
   |cons x l=>
    rw[ad3 (by rw[ab8];exact adZ (by lia))];rfl
abbrev m9:Df:=⟨"spare_of",103,["way","strips","repeat","rolls"],fun K t=>fz 4 (AC (ag af) (AC (ag (cZ K t)) (AC af (AC (ag (qb K t)) A0)))) (fun x=>x.1.length<=6/\x.1.length<=x.2.1.length/\sN x.2.2.2.1.length x.1/\x.2.1.length<=6/\0 < x.2.2.1/\x.2.2.2.1.length<=3) (ag af) (fun x=>pG x.1 x.2.1 x.2.2.1 x.2.2.2.1)⟩
def tF:dP ["way","strips","repeat","rolls","roll"] m9:=by walk_at"s"
def Jr (F:bh K m9 f fd)(T:Txt K mg t)(kx:aL P w K mg base t 2 ju)(ff:aL P w K mg base t 3 gA):dO P w K mg base t 4 f fd m9:=by
 refine po4 F tF fun H O=>⟨_,(ae (aj (bJ kx O (cD aN dJ (gK (own:=[("roll",4)]) rfl tF.nd (rP K dJ) (bC (by rfl)) (fun _ _ _ _ _=>(iZ 4 tF.nd)) (fun _ _ _ _ _=>c6) (fun _ _ _ _ _=>(bJ ff O (cD bz bP lO)))))))),fun G U nt J sd Q9 eg dB wo hs J2 dz fQ nQ hp=> ?_⟩
 obtain⟨p0,p1,p2,Z,Y,M⟩:=hp;refine RS.eq (aB (ak (fY (aR J2) (by walk_at"re") (eT (bD (by walk_at"re")) (adf M (by decide)) fun z hz x G6 H6 e6 r6=>⟨_,cE,rfl,ak (bE (by walk_at"re") (bE (by walk_at"re") (bE (by walk_at"re") qp))) ⟨Z,Y⟩⟩)) ⟨p0,p2,M,aca ..,fun nd L=> ?_⟩)) rfl;obtain⟨r,_,rfl⟩:=acA.mp L;rw[iO];exact ads (by decide) p1
def x9 (length ch:Int):∀(l:List (Int×Int)) (g:hA),(l.foldl (iH length ch) g).length<=g.length+l.length
 |[],g=>ac_ _
 |z::l,g=>by
  rw[abS,ab8];have h1:=x9 length ch l (iH length ch g z);have h2:(iH length ch g z).length<=g.length+1:=by
   delta iH;split
   .exact XG _ _
   .omega
  lia
def x_ (length:Int)(ri:hA):∀(l:hA) (g:hA),(l.foldl (fun g ch=>(numbered ri).foldl (iH length ch) g) g).length<=g.length+l.length*ri.length
 |[],g=>by simp
 |ch::l,g=>by
  rw[abS,ab8,adu];have h1:=x_ length ri l ((numbered ri).foldl (iH length ch) g);have h2:=x9 length ch (numbered ri) g;rw[cN] at h2;lia
def Q3:(dF sets ri length).length<=sets.length*ri.length:=by
 have:=x_ length ri sets []
 rwa [acb,ady] at this
abbrev lj:Df:=⟨"with_roll",104,["sets","needs","length"],fun _ _=>fz 3 (AC (ag af) (AC (ag af) (AC af A0))) (fun x=>x.1.length<=4096/\x.2.1.length<=64) (ag af) (fun x=>dF x.1 x.2.1 x.2.2.1)⟩
def kK:dP ["sets","needs","length","grown","chosen","more","need"] lj:=by walk_at"s"
def Gg (F:bh K lj f fd)(T:Txt K mg t):dO P w K mg base t 1 f fd lj:=by
 refine Jj F kK fun H hr=>⟨_,(aa (dC 3 kK.nd Su) (aa (ek adF rfl (rP K aN) (iZ 4 kK.nd) (ae (ek adF rfl (piE K rfl T.hU (aG bz)) (Sr K rfl (cF (iZ 5 kK.nd) (cF (iZ 6 kK.nd) kX))) (ae (a_ (PW.pt (Az (ka mV (bc Sw lO uQ) ai) (wM (ka yH Pz bP)))) (ae (V2 hr.Y2 dJ (bc op_or lO uQ) Jl rfl)) aD))))) (ae (aj (fw (Xi rfl) rfl T.oY p7 (aG dJ)))))),fun G Y ri length Ly uH Iz hs ME xj To hp=> ?_⟩
 try dsimp only at hp
 try dsimp only[je,rd]
 obtain⟨p1,p2⟩:=hp;intro G0 H0 e0 D kD;refine YW fun p hq=> ?_
 have g0:G0 p=none:=e0.gh.free hq;have e1:=Ext.own (o:=lh []) e0.gh hq
 show qe _ _ _ _ _ _
 refine jK (fun g ch=>(numbered ri).foldl (iH length ch) g) [] (fun G2 _ st L G' H'=>∃a b c,L=[some Ly,some uH,some Iz,some (.ref p),a,b,c]/\H' p=some (lh st)/\G' p=none/\Ext G0 H0 G' H'/\aE G2 G') e1.gh (bD (ab rfl ME e0.gg)) ?_ ?_ ?_ ?_
 .intro G2 H2 e2;exact xi3 none none none ⟨rfl,e2.hh p (lh []) ah,e2.keeps ah g0,e1.trans e2,aE.refl _⟩
 .rintro G2 H2 st L G' H' ⟨a,b,c,rfl,J,Z,ex,sm⟩;exact⟨sm,ex.gh⟩
 .rintro G2 H2 e2 i ch st hz hst L G' H' ⟨a,b,c,rfl,J,Z,ex,sm⟩ yZ G3 H3 e3 zp;have ex3:=ex.trans e3;have hp3:H3 p=some (lh st):=e3.hh p (lh st) J;have hi:i < Y.length:=(abZ.mp hz).1;have hsl:st.length<=i*64:=by
   rw[hst];have:=x_ length ri (Y.take i) []
   rw[acb,ady,ach,adl (by lia)] at this;exact adb this (Nat.mul_le_mul_left _ p2)
  show qe _ _ _ _ _ _
  refine jK (iH length ch) st (fun G4 _ g L G' H'=>∃b c,L=[some Ly,some uH,some Iz,some (.ref p),some yZ,b,c]/\H' p=some (lh g)/\G' p=none/\Ext G0 H0 G' H'/\aE G4 G'/\aE G3 G') e3.gh (uM (bp (ab rfl xj (e0.gg.trans ex3.gg)))) ?_ ?_ ?_ ?_
  .intro G4 H4 e4;exact xi2 _ _ ⟨rfl,e4.hh p (lh st) hp3,e4.keeps hp3 (e3.keeps J Z),ex3.trans e4,aE.refl _,e4.gg⟩
  .rintro G4 H4 g L G' H' ⟨b,c,rfl,J,Z,ex,sm,_⟩;exact⟨sm,ex.gh⟩
  .rintro G4 H4 e4 j z g hzj hg L G' H' ⟨b,c,rfl,J,Z,ex',sm',s3⟩ x G5 H5 U r5;obtain⟨a5,u,w',rfl,hs5,hu,hw⟩:=r5;have ex5:=ex'.trans U;have O:H5 p=some (lh g):=U.hh p (lh g) J;have gp5:=U.keeps J Z;have hgl:g.length < sizeLine:=by
    have:=x9 length ch ((numbered ri).take j) st
    rw[<- hg,ach,cN] at this;exact adf (show _<=4096*64+64 by lia) (by decide)
   refine mi (aE.tup U.gh.at_ hs5) _ ?_;refine u7 U.gh (vD (dj (lV (NX (ab rfl zp (s3.trans U.gg)) (aR hu)) ao)) fun _=>dj (Ja (aR hw) (ab rfl To (e0.gg.trans ex5.gg)))) (fun h G6 H6 M=> ?_) (fun h G6 H6 M=> ?_)
   .refine YX rfl (M.hh p (lh g) O) hgl M.gh (Zv (ab rfl zp (s3.trans (U.gg.trans M.gg))) (ab rfl hu M.gg)) fun G7 H7 e7=> ?_
    have hp7:H7 p=some (lh g):=e7.hh p (lh g) (M.hh p (lh g) O);have gp7:=e7.keeps (M.hh p (lh g) O) (M.keeps O gp5);refine xi3 G7 _ _ ⟨rfl, ?_,gp7,((ex5.trans M).trans e7).put hq gp7 hp7,sm'.trans (U.gg.trans (M.gg.trans e7.gg)),s3.trans (U.gg.trans (M.gg.trans e7.gg))⟩;rw[ah,show iH length ch g z=mf g (Builtin.bitOr ch z.1) by delta iH;rw[ad3 h]]
   .refine xi3 G6 _ _ ⟨rfl, ?_,M.keeps O gp5,ex5.trans M,sm'.trans (U.gg.trans M.gg),s3.trans (U.gg.trans M.gg)⟩;rw[show iH length ch g z=g by delta iH;rw[ad2 (by rw[h];decide)]];exact M.hh p (lh g) O
  .rintro G4 H4 e4 L G' H' ⟨b,c,rfl,J,Z,ex',sm',s3⟩;exact xi4 G' _ _ _ ⟨rfl,J,Z,ex',sm.trans (e3.gg.trans s3)⟩
 .rintro G2 H2 e2 L G' H' ⟨a,b,c,rfl,J,Z,ex,sm⟩;dsimp only;refine YV rfl J fun l hl=>kD _ _ _ (ex.trans (Ext.laid ex.gh hl)) ⟨l,_,rfl,ah,dq _ _⟩
def IP (M:nt.length<=6):∀(l:List ji) (J:hA) (k:Nat),J.length<=64^k->(l.foldl (fun J L=>dF J (aP nt rep L) L.1) J).length<=64^(k+l.length)
 |[],J,k,h=>h
 |r::l,J,k,h=>by
  have:=IP (rep:=rep) M l (dF J (aP _ rep r) r.1) _ (adb Q3 (by
   rw[Nat.pow_succ,iO];exact Nat.mul_le_mul h (oH M)))
  grind
abbrev gT:Df:=⟨"sets_that_fit",105,["strips","repeat","rolls"],fun K t=>fz 3 (AC (ag (cZ K t)) (AC af (AC (ag (qb K t)) A0))) (fun x=>x.1.length<=6/\0 < x.2.1/\x.2.2.1.length<=3) (ag af) (fun x=>k9 x.1 x.2.1 x.2.2.1)⟩
def jm:dP ["strips","repeat","rolls","sets","roll"] gT:=by walk_at"s"
def xV (F:bh K gT f fd)(T:Txt K mg t)(ui:aL P w K mg base t 1 lj)(ff:aL P w K mg base t 3 gA):dO P w K mg base t 4 f fd gT:=by
 refine Jj F jm fun H hr=>⟨_,(aa (dC 3 jm.nd (az (aG ai))) (aa (ek adF rfl (rP K bP) (iZ 4 jm.nd) (ae (dC 3 jm.nd (bJ ui hr (cD dJ (bJ ff hr (cD aN bz lO)) (aF K lO)))))) (ae (aj dJ)))),fun G nt J sd eg dB wo hs dz fQ nQ hp=> ?_⟩
 try dsimp only at hp
 obtain⟨p1,p2,p3⟩:=hp;intro G0 H0 e0 D kD;refine cB e0.gh cQ fun vB G1 H1 e1 iY=> ?_
 refine jK (fun O M=>dF O (aP nt J M) M.1) [0] (fun Y _ st L G' H'=>∃v a,L=[some eg,some dB,some wo,some v,a]/\ag af G' v st/\Ext G0 H0 G' H'/\aE Y G') e1.gh (bD (by walk_at"re")) ?_ ?_ ?_ ?_
 .intro Y H2 e2;exact⟨vB,none,rfl,aK.mono e2.gg iY,e1.trans e2,aE.refl _⟩
 .rintro Y H2 st L G' H' ⟨v,a,rfl,Z,ex,sm⟩;exact⟨sm,ex.gh⟩
 .rintro Y H2 e2 i r st hz hst L G' H' ⟨v,a,rfl,Z,ex,sm⟩ Rc G3 H3 e3 Lk;have hi:i < sd.length:=(abZ.mp hz).1;have hl:=IP (rep:=J) p1 (sd.take i) [0] 0 (by decide);rw[<- hst,ach,ady,adl (by lia)] at hl;have h5:(64:Nat)^i<=64^2:=ads (by decide) (by lia);have U:=ex.trans e3;have s3:aE G G3:=e0.gg.trans U.gg;refine qd e3.gh (ak (fY (aR (aK.mono e3.gg Z)) (ak (fY (ab rfl dz s3) (ab rfl fQ s3) (aR Lk)) ⟨p1,p2⟩) (kR T (aR Lk))) ⟨?_, ?_⟩) fun v8 G8 H8 e8 h8=>xi3 G8 v8 _ ⟨rfl,h8,U.trans e8,sm.trans (e3.gg.trans e8.gg)⟩
  .exact adb hl (adb h5 (by decide))
  .show (aP nt J r).length<=64
   rw[iO];exact oH p1
 .rintro Y H2 e2 L G' H' ⟨v,a,rfl,Z,ex,sm⟩;exact⟨_,rfl,kD _ G' H' ex Z⟩
abbrev lZ:Df:=⟨"size_of",106,["chosen"],fun _ _=>fz 1 (AC af A0) (fun x=>0<=x.1/\x.1 < 64) af (fun x=>kg x.1)⟩
def vC:dP ["chosen","number"] lZ:=by walk_at"s"
def Mb (F:bh K lZ f fd)(T:Txt K mg t)(U:aL P w K mg base t 1 l6):dO P w K mg base t 2 f fd lZ:=by
 refine QU F vC fun H Z=>⟨_,(ae (aj (nD T (gK (own:=[("number",1)]) rfl vC.nd (oq rfl T.ig (aG (PD aN))) (bC (by rfl)) (fun _ _ _ _ _=>(iZ 1 vC.nd)) (fun _ _ _ _ _=>(pA (de (bJ U Z (aY aN bz))))) (fun _ _ _ _ _=>bz))))),fun G J IA hs mZ M=> ?_⟩
 dsimp only at M;obtain⟨O,p2⟩:=M;have hb:=Nj O p2;refine RS.eq (aB (dc (bp (wJ (p:=fun n=>gO J n) (oo (bp (Px (by walk_at"re"))) (by lia) (by lia)) ?_ fun z Y x G1 H1 e1 L=>⟨_,cE,rfl, ?_,fun _=>ab rfl L sr⟩)))) ?_
 .rw[cg];exact adf (show _<=6 by assumption) (by decide)
 .have:=ip Y
  exact bZ (ak (bX (by walk_at"re") (aR L)) this.1)
 .show _=kg J
  delta kg;simp
def yj (sz:Int->Int):∀(l:hA) (o:ng),l≠[]\/o.isSome=true-> ∃m,l.foldl (uc sz) o=some m
 |[],o,h=>by
  rcases h with h|h
  .simp_all
  .exact adB.mp h
 |x::l,o,_=>by
  refine yj sz l _ (.inr ?_);delta uc
  grind
abbrev gW:Df:=⟨"most_that_fit",107,["strips","repeat","rolls"],fun K t=>fz 3 (AC (ag (cZ K t)) (AC af (AC (ag (qb K t)) A0))) (fun x=>x.1.length<=6/\0 < x.2.1/\x.2.2.1.length<=3/\k9 x.1 x.2.1 x.2.2.1≠[]/\ ∀y∈k9 x.1 x.2.1 x.2.2.1,0<=y/\y < 64) af (fun x=>kh x.1 x.2.1 x.2.2.1)⟩
def xP:dP ["strips","repeat","rolls"] gW:=by walk_at"s"
def xW (F:bh K gW f fd)(T:Txt K mg t)(nE:aL P w K mg base t 4 gT)(oy:aL P w K mg base t 2 lZ):dO P w K mg base t 5 f fd gW:=by
 refine Jj F xP fun H M=>⟨_,(ae (aj (V_ K rfl rfl T.Fh (aG (fD (E9 K) rfl T.xy E_ (aG (bJ nE M (cD aN bz bP))))) oy M (by decide) rfl))),fun G nt J sd _ _ _ hs _ _ nQ hp=> ?_⟩
 obtain⟨p1,p2,Z,Y,U⟩:=hp;have L:(sortI _).Perm (k9 nt J sd):=acH _ _;obtain⟨m,O⟩:=yj kg (sortI _) none (.inl fun z=>Y (by rw[z] at L;exact List.nil_perm.mp L));refine RS.eq (aB (VO (bp (Ao (bp (ak (by walk_at"re") ⟨p1,p2,Z⟩)) fun zs h1 h2=>tu h1 h2)) (fun x hx=>U x (L.mem_iff.mp hx)) O)) ?_;delta kh;rw[O];rfl
end
end Cw
namespace Cw
open PySem PySem.Spec PyProof.Rows L2 My
def RV:Rp V:=fun _ v x=>v=x
instance:aK RV:=⟨fun _ h=>h⟩
def yG (G:Hp):∀us:List V,Paired (RV G) us us
 |[]=>.nil
 |_::r=>.cons rfl (yG G r)
def EJ:∀{vs us:List V},Paired (RV G) vs us->vs=us
 |_,_,.nil=>rfl
 |_,_,.cons r t=>by rw[show _=_ from r,EJ t]
def jr:∀{vs:List V} {xs:List a},Paired R vs xs-> ∀i,Paired R (vs.eraseIdx i) (xs.eraseIdx i)
 |_,_,.nil,_=>.nil
 |_,_,.cons _ t,0=>t
 |_,_,.cons r t,i+1=>.cons r (jr t i)
def Ug (xs:List a)(n:Nat):cut xs none (some (n:Int))=xs.take n:=by
 delta cut;rw[HT.IX,HT.zB,abE,Nat.sub_zero]
 simp
def KI (xs:List a)(n:Nat):cut xs (some (n:Int)) none=xs.drop n:=by
 delta cut;rw[HT.IX,HT.zB]
 by_cases h:n<=xs.length
 .rw[adl h,ac2 (by simp)]
 .rw[Nat.min_eq_right (by omega),List.drop_length,List.drop_of_length_le (by omega)];simp
def OA (xs:List a)(n:Nat):cut xs none (some (n:Int))++cut xs (some ((n:Int)+1)) none=xs.eraseIdx n:=by
 rw[show n+1=((n+1:Nat):Int) by rfl,Ug,KI,List.eraseIdx_eq_take_drop_succ]
section
variable {σ:L2.St}{G H:Hp}{K:b0}
def lU (h:RA ta σ G H (AC (ag af) A0) ([x,y,z],())):RE (CU (fun xs H Q=>∃p ys,xs=[.ref p]/\((dh K H p ys/\ ∀l,H l=none->Q (.ref l) (upd H l (.tup ys)))\/(mO K H p ys/\Q (.ref p) H))) ta) σ G H (g6 K) (x,y,z):=fun G' H' e Q q=>
 h G' H' e _ fun vs G1 H1 L ⟨v,rr,Z,⟨p,us,U,M,pr⟩,Y⟩=>by
  subst Z U;subst Y;have J:=paired_ints pr;subst J;exact⟨p,_,rfl,.inl ⟨dh.of (L.gh.at_ _ _ M),fun l O=>q _ _ _ (L.trans (Ext.laid L.gh O)) ⟨l,rfl,mO.of ah⟩⟩⟩
def As (h:RA ta σ G H (AC (g6 K) A0) (x,())):RE (CU (fun xs H Q=>∃p ys,xs=[.ref p]/\(dh K H p ys\/mO K H p ys)/\ ∀l,H l=none->Q (.ref l) (upd H l (.lst ys))) ta) σ G H (ag af) [x.1,x.2.1,x.2.2]:=fun G' H' e Q q=>
 h G' H' e _ fun vs G1 H1 J ⟨v,Z,Y,⟨p,O,L⟩,U⟩=>by
  subst Y O;subst U;exact⟨p,_,rfl,.inr (aE.tup J.gh.at_ L),fun l M=>q _ _ _ (J.trans (Ext.laid J.gh M)) ⟨l,_,rfl,ah,.cons rfl (.cons rfl (.cons rfl .nil))⟩⟩
def R5 (h:RA ta σ G H (AC (gE K af af) A0) (x,())):RE (CU (fun xs H Q=>∃p ys,xs=[.ref p]/\(dh K H p ys\/mO K H p ys)/\ ∀l,H l=none->Q (.ref l) (upd H l (.lst ys))) ta) σ G H (ag af) [x.1,x.2]:=fun G' H' e Q q=>
 h G' H' e _ fun vs G1 H1 J ⟨v,rr,Z,⟨p,u,w',U,M,L,hw⟩,Y⟩=>by
  subst Z U;subst Y;exact⟨p,_,rfl,.inr (aE.tup J.gh.at_ M),fun l O=>q _ _ _ (J.trans (Ext.laid J.gh O)) ⟨l,_,rfl,ah,.cons L (.cons hw .nil)⟩⟩
end
section
variable {P:dn}{w:fx}{K:b0}{mg:gp}{base:Heap}{t:jC}
abbrev jd:Df:=⟨"all_but",33,["row","number"],fun _ _=>fz 2 (AC (ag RV) (AC af A0)) (fun x=>x.1.length<=1000/\0<=x.2.1) (ag RV) (fun x=>x.1.eraseIdx x.2.1.toNat)⟩
def LS:dP ["row","number"] jd:=by walk_at"s"
def Mg (F:bh K jd f fd)(T:Txt K mg t):dO P w K mg base t 1 f fd jd:=by
 refine mT F LS fun H O=>⟨_,(ae (aj (bc jD (kY (VC K) aN pB (mz bz)) (kY (VC K) aN (mz (bc kZ bz ai)) pB)))),fun G row _ _ _ M _ _ L=> ?_⟩
 obtain⟨J,p2⟩:=L;obtain⟨n,rfl⟩:=abd p2;refine RS.eq (aB (kQ (Ap (by walk_at"re") pf (mv (by walk_at"re"))) (Ap (by walk_at"re") (mv (by walk_at"re")) pf) ?_)) (OA row n);have:=adW List.length (OA row n)
 rw[ab7] at this;rw[this];have h2:=qO row n;exact adb h2 (adb J (by decide))
abbrev eN:Df:=⟨"counted",34,["row"],fun _ _=>fz 1 (AC (ag af) A0) (fun x=>x.1.length<=1000) (ag af) (fun x=>(x.1.length:Int)::x.1)⟩
def LQ:dP ["row"] eN:=⟨rfl,rfl,rfl,by decide,rfl,by decide+kernel,by decide+kernel⟩
def Md (F:bh K eN f fd)(T:Txt K mg t):dO P w K mg base t 1 f fd eN:=by
 refine QU F LQ fun H M=>⟨_,(ae (aj (bc jD (az (aG (nD T aN))) aN))),fun G row Rb L Th J=> ?_⟩
 try dsimp only at J
 refine RS.eq (aB (kQ (bG (aI (by walk_at"re") bu) (show 1<=_ by decide)) (aR Th) ?_)) rfl
 show 1+_<=sizeLine
 exact adb (show _<=1001 by lia) (by decide)
def xR {xs:List a}{n:Nat}(h1:RE ta σ G H (ag R) xs)(h2:RE tb σ G H af (n:Int))(hl:xs.length<=1000)(mo0:aK R:=by infer_instance):RE (s_ (jd.sp K t) [] E (bO ta (bO tb fV))) σ G H (ag R) (xs.eraseIdx n):=fun G' H' e Q q=>
 h1 G' H' e _ fun v G1 H1 Y ⟨p,us,ev,hp,pr⟩=>h2 G1 H1 (e.trans Y) _ fun u G2 H2 J r2=>by
  refine⟨rfl,G2,(us,n,()),J.gh,⟨v,[u],rfl,⟨p,us,ev,J.gg _ _ hp,yG _ _⟩,u,[],rfl,r2,rfl⟩,⟨by rw[aw pr];exact hl,by simp⟩,fun Z G3 H3 U r3=> ?_⟩;obtain⟨p3,us3,O,M,L⟩:=r3;have e4:=EJ L;subst e4;refine q Z G3 H3 ((Y.trans J).trans U) ⟨p3,_,O,M, ?_⟩;exact aq (J.gg.trans U.gg) (jr pr n)
end
end Cw
namespace Cw
open PySem PySem.Spec PyProof.Rows L2 My
def H_ (m:Int)(x:I3):Prop:=(0<=x.1/\x.1<=m)/\(0<=x.2.1/\x.2.1<=m)/\(0<=x.2.2/\x.2.2<=m)
def H_.S_ (h:H_ m x)(J:m<=k):gI k x:=by
 obtain⟨h1,h2,L⟩:=h;exact⟨by omega,by omega,by omega⟩
structure OP (d:qE):Prop where
 p:H_ 50 d.1
 nz:0 < d.1.1+d.1.2.1+d.1.2.2
 pr:0<=d.2.1/\d.2.1<=1000
structure UI (t:nv):Prop where
 c:H_ 1000 t.1
 g:1<=t.2.1/\t.2.1<=1000
structure RollOk (rep:Int)(r:ji):Prop where
 l:1<=r.1/\r.1<=10000
 b:0<=r.2.1/\r.2.1 < rep
structure qc (dyes:List qE):Prop where
 len:dyes.length<=5
 ok:∀d∈dyes,OP d
structure OM (m:rh)(prices:hA):Prop where
 wh:0 < m.2.2.1/\m.2.2.1<=2000000000
 sh:∀a∈m.2.1,0<=a/\a<=2000000000
 cost:0<=gx m prices/\gx m prices<=1000000000000000
def LM (h:gH c x=some l)(hc:∀y∈c,gI 50 y)(J:gI 1000 x):∀y∈l, -2000000000<=y/\y<=2000000000:=by
 have g:∀k,gI 50 (c.getD k (0,0,0)):=fun k=>by
  rw[abU];cases q:c[k]? with
  |none=>exact⟨by decide,by decide,by decide⟩
  |_ y=>exact hc y (acB q)
 have c3:∀{u v:I3},gI 50 u->gI 50 v->gI 5000 _:=fun a b=>a.cross b (by decide)
 have c4:∀{u v:I3},gI 1000 u->gI 50 v->gI 100000 _:=fun a b=>a.cross b (by decide)
 have Y:∀{u v:I3},gI 50 u->gI 1000 v->gI 100000 (cross u v):=fun a b=>a.cross b (by decide)
 have M:∀{u v:I3},gI 5000 u->gI 100000 v-> -2000000000<=dot u v/\dot u v<=2000000000:=fun a b=>by have:=B8 a b;omega
 have U:∀{u v:I3},gI 1000 u->gI 5000 v-> -2000000000<=dot u v/\dot u v<=2000000000:=fun a b=>by have:=B8 a b;omega
 have O:∀{u v:I3},gI 50 u->gI 100000 v-> -2000000000<=dot u v/\dot u v<=2000000000:=fun a b=>by have:=B8 a b;omega
 delta gH iU iT gw at h;intro y L
 repeat' split at h
 all_goals first|cases h|skip
 all_goals simp only[acu,acM,aeb] at L
 .omega
 .have Z:=g 0;obtain⟨a1,a2,a3⟩:=Z;obtain⟨b1,b2,b3⟩:=J;omega
 .rcases L with rfl|rfl|rfl
  .exact M (c3 (g 0) (g 1)) ((c3 (g 0) (g 1)).mono (by decide))
  .exact M (c3 (g 0) (g 1)) (c4 J (g 1))
  .exact M (c3 (g 0) (g 1)) (Y (g 0) J)
 .rcases L with rfl|rfl|rfl|rfl
  .exact tw _ _ _ (U ((g 0).mono (by decide)) (c3 (g 1) (g 2)))
  .exact tw _ _ _ (U J (c3 (g 1) (g 2)))
  .exact tw _ _ _ (O (g 0) (c4 J (g 2)))
  .exact tw _ _ _ (O (g 0) (Y (g 1) J))
def sq0 (x:Int):0<=x*x:=by
 rcases Int.le_total 0 x with h|h
 .exact abk h h
 .exact Int.mul_nonneg_of_nonpos_of_nonpos h h
def W6 (h:¬n=(0,0,0)):0 < dot n n:=by
 obtain⟨a,b,c⟩:=n;delta dot;have h1:=sq0 a;have h2:=sq0 b;have O:=sq0 c;simp only;apply Int.lt_of_not_ge;intro z;have M:a*a=0:=by omega
 have L:b*b=0:=by omega
 have hc:c*c=0:=by omega
 have e:∀x:Int,x*x=0->x=0:=fun x J=>by rcases Int.mul_eq_zero.mp J with h|h<;>exact h
 grind
def VD (h:¬s=0):0 < sgn s*s:=by
 delta sgn
 lia
def Pl (h:gH c x=some l)(hc:∀y∈c,0 < y.1+y.2.1+y.2.2)(L:c.length<=3):0 < l.headD 0:=by
 delta gH iU iT gw at h
 repeat' split at h
 all_goals first|cases h|skip
 .decide
 .grind
 .next J=>
  simp only[aaW,ad0,ad7] at J;exact W6 J.1
 .next J=>
  simp only[ad0] at J;exact VD J
def sum_in:∀(l:hA),(∀x∈l,0<=x/\x<=2000000000000)->l.length<=n->0<=l.sum/\l.sum<=n*2000000000000
 |[],_,_=>⟨by decide,by grind⟩
 |x::l,h,M=>by
  obtain _:=sum_in l (fun y J=>h y (acv _ J)) (ac_ _);have L:=h x (acw ..)
  grind
def SQ (h:qc dyes)(hc:H_ 1000 colour)(hm:m∈lg (bw dyes) colour):OM m (bT dyes):=by
 have l1:(bw _).length=dyes.length:=aca ..;have pin:∀y∈bw dyes,H_ 50 y/\0 < y.1+y.2.1+y.2.2:=fun y L=>by
  obtain⟨d,hd,rfl⟩:=acA.mp L;exact⟨(h.ok d hd).p,(h.ok d hd).nz⟩
 have U:∀k,0<=(bT _).getD k 0/\(bT _).getD k 0<=1000:=fun k=>by
  rw[abU];cases q:(bT _)[k]? with
  |none=>simp
  |_ y=>
   obtain⟨d,hd,rfl⟩:=acA.mp (acB q);exact(h.ok d hd).pr
 obtain⟨ms,hms,J⟩:=acy.mp hm;have gg:=(ye (bw _).length (by rw[l1];exact h.len)).1;have hb:=by
  have:=abv.mp gg ms hms
  simp only[aaO,abv,ad0] at this;exact this
 have pk:∀y∈pick (bw dyes) ms,H_ 50 y/\0 < y.1+y.2.1+y.2.2:=fun y L=>by
  obtain⟨n,hn,rfl⟩:=acA.mp L;have:=hb.2 n hn
  refine pin _ ?_;rw[abU,abX _];exact ab5 (by omega)
 unfold k8 at J;split at J
 .cases J
 .next l hl=>
  split at J
  .next Y=>
   have hne:=IL hl;have Z:=LM hl (fun y L=>(pk y L).1.S_ (by decide)) (hc.S_ (by decide));have M:=Pl hl (fun y L=>(pk y L).2) (by delta pick;rw[aca];exact hb.1);have hge:=fun y L=>abh Y ((gP hne).2 y L)
   obtain rfl:=acF.mp J;have O:∀a∈cut l (some 1) none,0<=a/\a<=2000000000:=fun a ha=>by
    have:=by exact List.mem_of_mem_drop (acD ha)
    simp[*]
   have hw:l.headD 0∈l:=by
    cases l with
    |nil=>lia
    |_ y r=>exact acw ..
   refine⟨⟨M,(Z _ hw).2⟩,O, ?_⟩;have:=sum_in (n:=3) ((ms.zip (cut l (some 1) none)).map fun p=>(bT dyes).getD p.1.toNat 0*p.2) (fun x hx=> ?_) ?_
   .refine⟨this.1,abh this.2 (by decide)⟩
   .obtain⟨p,hp,rfl⟩:=acA.mp hx;have h1:=U p.1.toNat;have h2:=O p.2 (acN hp).2;refine⟨abk h1.1 h2.1, ?_⟩;have:=Int.mul_le_mul h1.2 h2.2 h2.1 (by decide)
    lia
   .rw[aca,aci];grind
  .cases J
def Co (h:qc dyes)(hc:H_ 1000 colour)(M:eM (bw dyes) (bT dyes) colour=some m):OM m (bT dyes)/\UJ dyes.length m:=by
 have J:m∈lg (bw dyes) colour:=by
  rcases u0 _ _ _ M with q|q
  .exact q
  .cases q
 refine⟨SQ h hc J, ?_⟩;have l1:(bw _).length=dyes.length:=aca ..;rw[<- l1];refine Bu (by rw[l1];exact h.len) (fun y L=> ?_) (hc.S_ (by decide)) m J;obtain⟨d,hd,rfl⟩:=acA.mp L;exact(h.ok d hd).p.S_ (by decide)
def qc.in_ (h:qc dyes):NF dyes:=⟨h.len,fun d hd=>(h.ok d hd).p.S_ (by decide),fun d hd=>(h.ok d hd).pr⟩
def wq (h:qc dyes)(U:J.length<=4)(M:∀t∈J,UI t):zP dyes J:=
 ⟨U,fun t L=>(M t L).c.S_ (by decide),fun t L=>by have:=(M t L).g;lia,fun t L=>⟨fun m O=>by
  obtain⟨g,_⟩:=Co h (M t L).c O;exact⟨⟨g.wh.1,by have:=g.wh.2;lia⟩,g.cost⟩⟩⟩
structure jT (st:aC):Prop where
 xx:uE st
 rl:st.2.2.2.2.2.2.1.length<=3
 rm:∀r∈st.2.2.2.2.2.2.1,dM r
 dy:qc st.2.2.2.2.1
 tl:st.2.2.2.2.2.1.length<=4
 ti:∀t∈st.2.2.2.2.2.1,UI t
 ol:st.2.2.2.2.2.2.2.1.length<=3
 ro:∀r∈st.2.2.2.2.2.2.2.1,RollOk st.2.1 r
end Cw
namespace Cw
open PySem PySem.Spec PyProof.Rows L2 My
abbrev aV (st:aC):List qE:=st.2.2.2.2.1
abbrev cM (st:aC):List nv:=st.2.2.2.2.2.1
abbrev aA (st:aC):List cu:=st.2.2.2.2.2.2.1
abbrev bV (st:aC):List ji:=st.2.2.2.2.2.2.2.1
def col (g:hA):I3:=(g.getD 0 0,g.getD 1 0,g.getD 2 0)
def dG (c:I3):Bool:=decide (JN c<=1000)
def oO (p:I3)(cost:Int):Bool:= !decide (p=(0,0,0))&&(decide (JN p<=50)&&decide (cost<=1000))
def aW (n:Nat)(g:hA):Prop:=g.length=n/\ ∀x∈g,0<=x/\x<=4294967295
def BS (h:aW 3 g):g=[(col g).1,(col g).2.1,(col g).2.2]/\0<=(col g).1/\0<=(col g).2.1/\0<=(col g).2.2:=by
 obtain⟨h1,h2⟩:=h
 obtain⟨a,b,c,rfl⟩:=hx3 h1;exact⟨rfl,(h2 a (by simp)).1,(h2 b (by simp)).1,(h2 c (by simp)).1⟩
def yn (h:aW 3 g)(hc:dG (col g)=true):H_ 1000 (col g):=by
 obtain _:=BS h;have:=aea hc
 unfold JN at this;exact⟨by omega,by omega,by omega⟩
def zG (st:aC)(g:hA):hA:=if !dG (col g) then[-22] else if cx (bw (aV st)) (col g) then[1] else[0]
def zF (st:aC)(g:hA):hA:=if !dG (col g) then[-22] else match eY (bw (aV st)) (col g) with
 |none=>[-33]
 |some l=>[0]++[l.1,l.2.1,l.2.2]++[dot l (col g)]
def Sj (m:rh)(prices:hA):hA:=[(m.1.length:Int)]++cR (gx m prices) m.2.2.1++(m.1.zip m.2.1).flatMap fun p=>p.1::cR p.2 m.2.2.1
def wL (st:aC)(g:hA):hA:=if !dG (col g) then[-22] else match eM (bw (aV st)) (bT (aV st)) (col g) with
 |none=>[-33]
 |some m=>Sj m (bT (aV st))
def cb (l:hA):hA:=(l.length:Int)::l
def wK (st:aC)(g:hA):hA:=if !dG (col g) then[-22] else if !cx (bw (aV st)) (col g) then[-33] else cb ((upTo 0 (bw (aV st)).length).filter fun n=> !cx ((bw (aV st)).eraseIdx n.toNat) (col g))
def F5 (st:aC):hA:=cb (((numbered (bw (aV st))).filter fun z=>cx ((bw (aV st)).eraseIdx z.1.toNat) z.2).map fun z=>z.1)
def uO (st:aC):hA:=cb (((numbered (cM st)).filter fun z=> !cx (bw (aV st)) z.2.1).map fun z=>z.1)
def told (o:Option hA):hA:=match o with
 |none=>[-33]
 |some c=>[0]++c
def vF (st:aC)(g:hA):hA:=if decide ((aV st).length<=g.getD 0 0) then[-2] else match(aV st)[(g.getD 0 0).toNat]? with
 |none=>[]
 |some d=>[d.2.1]++[d.1.1,d.1.2.1,d.1.2.2]
def tL (st:aC)(g:hA):hA:=if decide ((cM st).length<=g.getD 0 0) then[-2] else match(cM st)[(g.getD 0 0).toNat]? with
 |none=>[]
 |some d=>[d.2.1]++[d.1.1,d.1.2.1,d.1.2.2]
def oa {st:aC}(h:jT st):(bw (aV st)).length<=5/\ ∀y∈bw (aV st),gI 1000 y:=by
 refine⟨by delta bw;rw[aca];exact h.dy.len,fun y J=> ?_⟩;obtain⟨d,hd,rfl⟩:=acA.mp J;exact(h.dy.ok d hd).p.S_ (by decide)
def SY (h:∀y∈dyes,gI 1000 y)(L:eY dyes c=some l):gI 1000000000000 l:=by
 obtain⟨y,J,e⟩:=List.exists_of_findSome?_eq_some L;have:=ER h y J
 unfold rE at e;split at e
 .grind
 .split at e
  .cases e;exact this.neg
  .cases e
def B3 {p:a->Prop}{l:List a}(h:∀x∈l,p x)(i:Nat):∀x∈l.eraseIdx i,p x:=fun x J=>h x (acC J)
section
variable {P:dn}{w:fx}{K:b0}{mg:gp}{base:Heap}{t:jC}
abbrev ox:Df:=⟨"is_dye",78,["parts","cost"],fun K _=>fz 2 (AC (g6 K) (AC af A0)) (fun _=>True) dQ (fun x=>oO x.1 x.2.1)⟩
def Pq:dP ["parts","cost"] ox:=by walk_at"s"
def PN (F:bh K ox f fd)(T:Txt K mg t):dO P w K mg base t 1 f fd ox:=by
 refine mT F Pq fun H J=>⟨_,(ae (aj (AI (QV (neD K J.units) aN (ZH T.Lg rfl)) (AI (QV yH (fD (Uk K rfl) rfl T.Fh HU (aG aN)) (g8 T.wc rfl)) (Gb (QV yH bz (g8 T.CM rfl))))))),fun G parts cost _ O L _ MH M=> ?_⟩
 have hd:=T.HQ G;exact RS.eq (aB (Au (by walk_at"re") fun _=>Au (by walk_at"re") fun _=>Ja (by walk_at"re") ao)) rfl
abbrev eZ:Df:=⟨"is_colour",79,["colour"],fun K _=>fz 1 (AC (g6 K) A0) (fun _=>True) dQ (fun x=>dG x.1)⟩
def FR:dP ["colour"] eZ:=⟨rfl,rfl,rfl,by decide,rfl,by decide+kernel,by decide+kernel⟩
def Gz (F:bh K eZ f fd)(T:Txt K mg t):dO P w K mg base t 1 f fd eZ:=by
 exact QU F FR fun H L=>⟨_,(ae (aj (QV yH (fD (Uk K rfl) rfl T.Fh HU (aG aN)) (g8 T.sU rfl)))),fun G _ _ J _ M=>(RS.eq (aB (Ja (by walk_at"re") ao)) rfl)⟩
abbrev d8:Df:=⟨"dye_parts",80,["state"],fun K t=>fz 1 (AC (aU K t) A0) (fun x=>(aV x.1).length<=1000) (ag (g6 K)) (fun x=>bw (aV x.1))⟩
def rM:dP ["state","dye"] d8:=by walk_at"s"
def GC (F:bh K d8 f fd)(T:Txt K mg t):dO P w K mg base t 1 f fd d8:=by
 exact QU F rM fun H U=>⟨_,(ae (aj (gK (own:=[("dye",1)]) rfl rM.nd (rP K (aF K aN)) (bC (by rfl)) (fun _ _ _ _ _=>(iZ 1 rM.nd)) (fun _ _ _ _ _=>c6) (fun _ _ _ _ _=>(aF K bz))))),fun G _ _ O _ J=>(RS.eq (aB (eT (bD (ck T (by walk_at"re"))) (adf J (by decide)) fun z M x G6 Z Y L=>⟨_,cE,rfl,kU T (by walk_at"re")⟩)) rfl)⟩
abbrev mI:Df:=⟨"tell_makes",87,["state","given"],fun K t=>fz 2 (AC (aU K t) (AC (ag af) A0)) (fun x=>jT x.1/\aW 3 x.2.1) (ag af) (fun x=>zG x.1 x.2.1)⟩
def vc:dP ["state","given","colour"] mI:=by walk_at"s"
def Dt (F:bh K mI f fd)(T:Txt K mg t)(Z:aL P w K mg base t 5 hJ)(bW:aL P w K mg base t 1 d8)(cH:aL P w K mg base t 1 eZ):dO P w K mg base t 6 f fd mI:=by
 refine mT F vc fun H L=>⟨_,(aa (dC 2 vc.nd (fw (r_ K) rfl T.n9 oX (aG bz))) (aa (a_ (fJ (de (bJ cH L (aG bP)))) (ae (aj (az (aG (g8 T.bN rfl))))) aD) (ae (aj (gL (de (bJ Z L (aY (bJ bW L (aG aN)) bP))) (az (aG ai)) (az (aG ai))))))),fun G J se bA bI hs au ay U=> ?_⟩
 try dsimp only at U
 obtain⟨O,p2⟩:=U;obtain⟨Y,g1,g2,g3⟩:=BS p2;obtain⟨d1,d2⟩:=oa O;have dl:(aV J).length<=1000:=adb O.dy.len (by decide);rw[Y] at ay;refine bQ (lU (by walk_at"re")) fun Lj G1 H1 e1 M=> ?_
 refine RS.eq (bj (fB (bZ (ak (bp (aR M)) trivial))) (fun _=>aB (cQ (i:= -22))) (fun hc=> ?_)) rfl;exact aB (lQ (bZ (ak (x:=(bw (aV J),col se,())) (bX (ak (bp (by walk_at"re")) dl) (aR M)) ⟨d1,d2,(yn p2 (by grind)).S_ (by decide)⟩)) (fun _=>bG (by walk_at"re") sl1) (fun _=>bG (aI ao bu) sl1))
abbrev mF:Df:=⟨"tell_shows",89,["state","given"],fun K t=>fz 2 (AC (aU K t) (AC (ag af) A0)) (fun x=>jT x.1/\aW 3 x.2.1) (ag af) (fun x=>zF x.1 x.2.1)⟩
def qh:dP ["state","given","colour","light"] mF:=by walk_at"s"
def Dq (F:bh K mF f fd)(T:Txt K mg t)(fg:aL P w K mg base t 1 m_)(sj:aL P w K mg base t 3 jO)(bW:aL P w K mg base t 1 d8)(cH:aL P w K mg base t 1 eZ):dO P w K mg base t 4 f fd mF:=by
 refine mT F qh fun H L=>⟨_,(aa (dC 2 qh.nd (fw (r_ K) rfl T.n9 oX (aG bz))) (aa (a_ (fJ (de (bJ cH L (aG bP)))) (ae (aj (az (aG (g8 T.bN rfl))))) aD) (aa (dC 3 qh.nd (bJ sj L (aY (bJ bW L (aG aN)) bP))) (aa (a_ (ej (gv dJ)) (ae (aj (az (aG (g8 T.lN rfl))))) aD) (ae (aj (bc jD (bc jD (az (aG ai)) (fw (Ck K) rfl T.oY p7 (aG dJ))) (az (aG (bJ fg L (aY dJ bP))))))))))),fun G J se bA bI hs au ay hp=> ?_⟩
 try dsimp only at hp
 obtain⟨Z,p2⟩:=hp;obtain⟨ge,g1,g2,g3⟩:=BS p2;obtain⟨d1,d2⟩:=oa Z;have dl:(aV J).length<=1000:=adb Z.dy.len (by decide);rw[ge] at ay;refine bQ (R:=g6 K) (x:=col se) (lU (bp (aR ay))) fun Lj G1 H1 e1 M=> ?_
 refine RS.eq (bj (fB (bZ (ak (bp (aR M)) trivial))) (fun _=>aB (cQ (i:= -22))) (fun hc=> ?_)) rfl;refine bQ (ak (bX (ak (bp (ab rfl au e1.gg)) dl) (aR M)) ⟨d1,d2⟩) fun O G2 H2 e2 Ic=> ?_
 cases U:eY (bw (aV J)) (col se) with
 |none=>
  rw[U] at Ic;exact RS.eq (bj (y:=[]) (d:=true) (RT.eq (bZ (bL (aR Ic))) rfl) (fun _=>aB (cQ (i:= -33))) (fun h=>by contradiction)) rfl
 |some l=>
  rw[U] at Ic;have WJ:g6 K G2 O l:=Ic.2;have Y:gI 1000000000000 l:=SY d2 U;exact RS.eq (bj (x:=[]) (d:=false) (RT.eq (bZ (bL (aR Ic))) rfl) (fun h=>by contradiction) (fun _=>aB (kQ (kQ cQ (As (bp (aR WJ))) sl4) (bG (aI (ak (bX (aR WJ) (ab rfl M e2.gg)) Y) bu) sl1) sl5))) rfl
abbrev lu:Df:=⟨"tell_needed",90,["state","given"],fun K t=>fz 2 (AC (aU K t) (AC (ag af) A0)) (fun x=>jT x.1/\aW 3 x.2.1) (ag af) (fun x=>wK x.1 x.2.1)⟩
def iK:dP ["state","given","colour","dyes","number"] lu:=by walk_at"s"
def AQ (F:bh K lu f fd)(T:Txt K mg t)(bU:aL P w K mg base t 1 eN)(dW:aL P w K mg base t 5 hJ)(jz:aL P w K mg base t 1 jd)(bW:aL P w K mg base t 1 d8)(cH:aL P w K mg base t 1 eZ):dO P w K mg base t 6 f fd lu:=by
 refine mT F iK fun H O=>⟨_,(aa (dC 2 iK.nd (fw (r_ K) rfl T.n9 oX (aG bz))) (aa (a_ (fJ (de (bJ cH O (aG bP)))) (ae (aj (az (aG (g8 T.bN rfl))))) aD) (aa (dC 3 iK.nd (bJ bW O (aG aN))) (aa (a_ (fJ (de (bJ dW O (aY dJ bP)))) (ae (aj (az (aG (g8 T.lN rfl))))) aD) (ae (aj (bJ bU O (aG (gK (own:=[("number",4)]) rfl iK.nd (oq rfl T.ig (aG (nD T dJ))) (bC (by rfl)) (fun _ _ _ _ _=>(iZ 4 iK.nd)) (fun _ _ _ _ _=>(pA (fJ (de (bJ dW O (aY (bJ jz O (aY dJ lO)) bP)))))) (fun _ _ _ _ _=>lO)))))))))),fun G J se bA bI hs au ay hp=> ?_⟩
 try dsimp only at hp
 obtain⟨p1,p2⟩:=hp;obtain⟨ge,g1,g2,g3⟩:=BS p2;obtain⟨d1,d2⟩:=oa p1;have dl:(aV J).length<=1000:=adb p1.dy.len (by decide);rw[ge] at ay;refine bQ (R:=g6 K) (x:=col se) (lU (bp (aR ay))) fun Lj G1 H1 e1 Z=> ?_
 refine RS.eq (bj (fB (bZ (ak (bp (aR Z)) trivial))) (fun _=>aB (cQ (i:= -22))) (fun hc=> ?_)) rfl;have M:=(yn p2 (by lia)).S_ (show(1000:Int)<=1000 by decide);refine bQ (R:=ag (g6 K)) (x:=bw (aV J)) (ak (x:=(J,())) (bp (ab rfl au e1.gg)) dl) fun X_ G2 H2 e2 Y=> ?_
 refine bj (fB (bZ (ak (x:=(bw (aV J),col se,())) (bX (aR Y) (ab rfl Z e2.gg)) ⟨d1,d2,M⟩))) (fun _=>aB (cQ (i:= -33))) (fun hc2=> ?_);generalize hL:((upTo 0 (bw (aV J)).length).filter fun n=> !cx ((bw (aV J)).eraseIdx n.toNat) (col se))=L;have U:L.length<=1000:=by
  rw[<- hL];refine adb (ab_ _ _) ?_;rw[cg];lia
 refine aB (ak (x:=(L,())) (bp (RE.eq (wJ (Rz:=af) (R:=af) (p:=fun n=> !cx ((bw (aV J)).eraseIdx n.toNat) (col se)) (f:=fun n=>n) (oo (bp (dc (bp (aR Y)))) (by lia) (by omega)) ?_ fun z hz x G6 H6 e6 r6=>⟨_,cE,rfl, ?_,fun _=>ab rfl r6 sr⟩) ?_)) U)
 .rw[cg];exact adf (show _<=5 by assumption) (by decide)
 .have hz2:=ip hz;obtain⟨n,rfl⟩:=abd hz2.1;exact fB (bZ (ak (x:=((bw (aV J)).eraseIdx n,col se,())) (bX (xR (K:=K) (t:=t) (ab rfl Y e6.gg) (aR r6) (by lia)) (ab rfl Z (e2.gg.trans e6.gg))) ⟨adb (qO _ _) d1,B3 d2 n,M⟩))
 .rw[abp,List.map_id'];exact hL
abbrev nW:Df:=⟨"tell_idle",91,["state","given"],fun K t=>fz 2 (AC (aU K t) (AC (ag af) A0)) (fun x=>jT x.1/\aW 0 x.2.1) (ag af) (fun x=>F5 x.1)⟩
def kM:dP ["state","given","dyes","number","parts"] nW:=by walk_at"s"
def Gn (F:bh K nW f fd)(T:Txt K mg t)(bU:aL P w K mg base t 1 eN)(dW:aL P w K mg base t 5 hJ)(jz:aL P w K mg base t 1 jd)(bW:aL P w K mg base t 1 d8):dO P w K mg base t 6 f fd nW:=by
 refine mT F kM fun H L=>⟨_,(aa (dC 2 kM.nd (bJ bW L (aG aN))) (ae (aj (bJ bU L (aG (gK (own:=[("number",3),("parts",4)]) rfl kM.nd (piE K rfl T.hU (aG bP)) (bC (by rfl)) (fun _ _ _ _ _=>(Sr K (n:=2) rfl (cF (iZ 3 kM.nd) (cF (iZ 4 kM.nd) kX)))) (fun _ _ _ _ _=>(pA (de (bJ dW L (aY (bJ jz L (aY bP dJ)) lO))))) (fun _ _ _ _ _=>dJ))))))),fun G J se bA bI hs au ay Z=> ?_⟩
 try dsimp only at Z
 obtain⟨U,p2⟩:=Z;obtain⟨d1,d2⟩:=oa U;have dl:(aV J).length<=1000:=adb U.dy.len (by decide);refine bQ (x:=bw (aV J)) (ak (bp (aR au)) dl) fun X_ G2 H2 e2 we=> ?_
 refine RS.eq (aB (ak (bp (wJ (uM (bp (aR we))) ?_ fun z hz x G6 H6 e6 r6=> ?_)) ?_)) rfl
 .rw[cN];exact adf d1 (by decide)
 .obtain⟨a,u,w',rfl,O,Y,hw⟩:=r6;obtain⟨k,hk⟩:=acz.mp hz;obtain⟨n1,n2⟩:=cy hk;refine⟨_,mi (aE.tup e6.gh.at_ O),rfl,bZ (ak (x:=((bw (aV J)).eraseIdx z.1.toNat,z.2,())) (bX ?_ (aR hw)) ⟨adb (qO _ _) d1,B3 d2 _,d2 _ (acB n2)⟩),fun _=>ab rfl Y sr⟩;have M:af G6 u ((z.1.toNat:Nat):Int):=by rw[abq (by rw[n1];lia)];exact Y
  exact xR (K:=K) (t:=t) (by walk_at"re") (aR M) (by lia)
 .show (List.map _ _).length<=1000
  rw[aca];refine adb (ab_ _ _) ?_;rw[cN];lia
abbrev j0:Df:=⟨"tell_lacking",92,["state","given"],fun K t=>fz 2 (AC (aU K t) (AC (ag af) A0)) (fun x=>jT x.1/\aW 0 x.2.1) (ag af) (fun x=>uO x.1)⟩
def iq:dP ["state","given","dyes","number","tint"] j0:=by walk_at"s"
def zb (F:bh K j0 f fd)(T:Txt K mg t)(bU:aL P w K mg base t 1 eN)(dW:aL P w K mg base t 5 hJ)(bW:aL P w K mg base t 1 d8):dO P w K mg base t 6 f fd j0:=by
 refine mT F iq fun H O=>⟨_,(aa (dC 2 iq.nd (bJ bW O (aG aN))) (ae (aj (bJ bU O (aG (gK (own:=[("number",3),("tint",4)]) rfl iq.nd (piE K rfl T.hU (aG (aF K aN))) (bC (by rfl)) (fun _ _ _ _ _=>(Sr K (n:=2) rfl (cF (iZ 3 iq.nd) (cF (iZ 4 iq.nd) kX)))) (fun _ _ _ _ _=>(pA (fJ (de (bJ dW O (aY bP (aF K lO))))))) (fun _ _ _ _ _=>dJ))))))),fun G J se bA bI hs au ay hp=> ?_⟩
 obtain⟨L,p2⟩:=hp;obtain⟨d1,d2⟩:=oa L;have dl:(aV J).length<=1000:=adb L.dy.len (by decide);refine bQ (ak (bp (aR au)) dl) fun X_ G2 H2 e2 we=> ?_
 refine RS.eq (aB (ak (bp (wJ (R:=af) (uM (bp (eh T (by walk_at"re")))) ?_ fun z Z x G6 H6 e6 U=> ?_)) ?_)) rfl
 .rw[cN];exact adf L.tl (by decide)
 .obtain⟨a,u,w',rfl,M,hu,hw⟩:=U;obtain⟨k,hk⟩:=acz.mp Z;obtain⟨n1,Y⟩:=cy hk;exact⟨_,mi (aE.tup e6.gh.at_ M),rfl,fB (bZ (ak (x:=(bw (aV J),z.2.1,())) (bX (by walk_at"re") (iP T (aR hw))) ⟨d1,d2,(L.ti _ (acB Y)).c.S_ (by decide)⟩)),fun _=>ab rfl hu sr⟩
 .show (List.map _ _).length<=1000
  rw[aca];refine adb (ab_ _ _) ?_;rw[cN];exact adb L.tl (by decide)
abbrev ia:Df:=⟨"tell_centimetre",93,["state","given"],fun K t=>fz 2 (AC (aU K t) (AC (ag af) A0)) (fun x=>jT x.1/\aW 0 x.2.1) (ag af) (fun x=>told (cO (aV x.1) (cM x.1)))⟩
def oB:dP ["state","given","cost"] ia:=by walk_at"s"
def vJ (F:bh K ia f fd)(T:Txt K mg t)(eJ:aL P w K mg base t 6 dU):dO P w K mg base t 7 f fd ia:=by
 refine mT F oB fun H Z=>⟨_,(aa (dC 2 oB.nd (bJ eJ Z (aY (aF K aN) (aF K aN)))) (ae (aj (gL (ej (gv bP)) (az (aG (g8 T.lN rfl))) (bc jD (az (aG ai)) bP))))),fun G J se bA bI hs Y ay hp=> ?_⟩
 obtain⟨M,p2⟩:=hp;refine bQ (ak (bX (ck T (aR Y)) (eh T (aR Y))) ⟨M.dy.in_,wq M.dy M.tl M.ti⟩) fun Lj G2 H2 e2 L=> ?_
 cases hc:cO (aV J) (cM J) with
 |none=>
  rw[hc] at L;exact RS.eq (x:=if true then[-33] else[]) (aB (lQ (RT.eq (bZ (bL (aR L))) rfl) (fun _=>bG (by walk_at"re") sl1) (fun h=>by cases h))) rfl
 |some c=>
  rw[hc] at L;have O:ag af G2 Lj c:=L.2;have hl:c.length=2:=by
   delta cO at hc;cases U:jX (aV J) (cM J) with
   |none=>rw[U] at hc;contradiction
   |some f=>rw[U] at hc;cases hc;rfl
  exact RS.eq (x:=if false then[] else[0]++c) (aB (lQ (RT.eq (bZ (bL (aR L))) rfl) (fun h=>by cases h) (fun _=>kQ (bG (by walk_at"re") sl1) (aR O) (by rw[hl];decide)))) rfl
abbrev lG:Df:=⟨"look_at_dye",94,["state","given"],fun K t=>fz 2 (AC (aU K t) (AC (ag af) A0)) (fun x=>jT x.1/\aW 1 x.2.1) (ag af) (fun x=>vF x.1 x.2.1)⟩
def tG:dP ["state","given","dye"] lG:=by walk_at"s"
def Ba (F:bh K lG f fd)(T:Txt K mg t):dO P w K mg base t 1 f fd lG:=by
 refine mT F tG fun H hr=>⟨_,(aa (a_ (ka iG (cW (dZ K) bz ai) (nD T (aF K aN))) (ae (aj (az (aG (g8 T.dY rfl))))) aD) (aa (dC 2 tG.nd (cW (dZ K) (aF K aN) (cW (dZ K) bz ai))) (ae (aj (bc jD (az (aG (aF K bP))) (fw (Ck K) rfl T.oY p7 (aG (aF K bP)))))))),fun G J se bA bI hs Y U Z=> ?_⟩
 obtain⟨p1,p2⟩:=Z;have L:se[0]?=some (se.getD 0 0):=by rw[abU,abX (by rw[p2.1];decide)];rfl
 have hn:=p2.2 _ (acB L);refine RS.eq (x:=if decide (((aV J).length:Int)<=se.getD 0 0) then[-2] else _) (bj (dj (g7 (aJ (aR U) ao (by decide) L) (dc (bp (ck T (aR Y)))))) (fun _=>aB (bG (by walk_at"re") sl1)) (fun hc=> ?_)) rfl;have M:(se.getD 0 0).toNat < (aV J).length:=by
  have:=ad_ hc
  omega
 have hd:=abX M;rw[hd];exact bQ (aJ (ck T (aR Y)) (aJ (aR U) ao (by decide) L) hn.1 hd) fun X_ G2 H2 e2 O=>RS.eq (aB (kQ (bG (aI (kT T (aR O)) bu) sl1) (As (bp (kU T (aR O)))) sl4)) rfl
abbrev j9:Df:=⟨"look_at_tint",95,["state","given"],fun K t=>fz 2 (AC (aU K t) (AC (ag af) A0)) (fun x=>jT x.1/\aW 1 x.2.1) (ag af) (fun x=>tL x.1 x.2.1)⟩
def sH:dP ["state","given","tint"] j9:=by walk_at"s"
def zd (F:bh K j9 f fd)(T:Txt K mg t):dO P w K mg base t 1 f fd j9:=by
 refine mT F sH fun H hr=>⟨_,(aa (a_ (ka iG (cW (dZ K) bz ai) (nD T (aF K aN))) (ae (aj (az (aG (g8 T.dY rfl))))) aD) (aa (dC 2 sH.nd (cW (dZ K) (aF K aN) (cW (dZ K) bz ai))) (ae (aj (bc jD (az (aG (aF K bP))) (fw (Ck K) rfl T.oY p7 (aG (aF K bP)))))))),fun G J se bA bI hs Y U Z=> ?_⟩
 obtain⟨p1,p2⟩:=Z;have L:se[0]?=some (se.getD 0 0):=by rw[abU,abX (by rw[p2.1];decide)];rfl
 have hn:=p2.2 _ (acB L);refine RS.eq (x:=if decide (((cM J).length:Int)<=se.getD 0 0) then[-2] else _) (bj (dj (g7 (aJ (aR U) ao (by decide) L) (dc (bp (eh T (aR Y)))))) (fun _=>aB (bG (aI (ao) bu) sl1)) (fun hc=> ?_)) rfl;have M:(se.getD 0 0).toNat < (cM J).length:=by
  have:=ad_ hc
  omega
 have hd:=abX M;rw[hd];refine bQ (aJ (eh T (aR Y)) (aJ (aR U) ao (by decide) L) hn.1 hd) fun X_ G2 H2 e2 O=> ?_
 exact RS.eq (aB (kQ (bG (aI (mx T (aR O)) bu) sl1) (As (bp (iP T (aR O)))) sl4)) rfl
end
end Cw
namespace Cw
open PySem PySem.Spec PyProof.Rows L2 My
def me (st:aC)(g:hA)(f:cu->hA):hA:=if decide (((aA st).length:Int)<=g.getD 0 0) then[-2] else match(aA st)[(g.getD 0 0).toNat]? with
 |none=>[]
 |some r=>f r
abbrev di (st:aC):Int:=st.2.2.2.1
abbrev jI (st:aC):Int:=st.2.2.1
abbrev dE (st:aC):Int:=st.2.1
def firstOf (st:aC)(r:cu):hA:=match cz r (di st) with
 |none=>[-33]
 |some f=>[f,gN r f (di st),k_ r f (di st)]
def rO (st:aC)(g:hA):hA:=me st g (firstOf st)
def Ay (st:aC)(g:hA):hA:=me st g fun r=>cb (eS r (di st))
def pj (st:aC)(g:hA):hA:=me st g fun r=>match cz r (di st) with
 |none=>[-33]
 |some f=>cb (eG r f (di st))
def aX (x lo hi:Int):Bool:=decide (lo<=x)&&decide (x<=hi)
def Aw (st:aC)(g:hA):hA:=me st g fun r=>if decide (g.getD 1 0=0)|| !aX (g.getD 2 0) (g.getD 1 0) 60 then[-22] else cb ((upTo (g.getD 1 0) (g.getD 2 0+1 - g.getD 1 0).toNat).filter fun w=>decide (0 < ((eS r w).length:Int)))
def rowsOf (o:Option (List bH)):hA:=match o with
 |none=>[-33]
 |some l=>(l.length:Int)::l.flatMap fun s=>[s.1,s.2.1]
def Ax (st:aC)(g:hA):hA:=me st g fun r=>rowsOf (ba r (di st) (jI st) (dE st))
def Rk (o:Option (Int×Int)):hA:=match o with
 |none=>[-33]
 |some b=>[b.1,b.2]
def mS (st:aC):hA:=Rk (eB (aA st) (di st) (jI st) (dE st))
def bf (h:aW n g)(hi:i < n):g[((i:Nat):Int).toNat]?=some (g.getD i 0)/\0<=g.getD i 0/\g.getD i 0<=4294967295:=by
 have e:g[i]?=some (g.getD i 0):=by rw[abU,abX (by rw[h.1];exact hi)];rfl
 exact⟨e,h.2 _ (acB e)⟩
def MM (r:cu)(w:Int):(eS r w).length<=w.toNat:=by
 refine adb (ab_ _ _) ?_;rw[cg];lia
section
variable {P:dn}{w:fx}{K:b0}{mg:gp}{base:Heap}{t:jC}
abbrev jL:Df:=⟨"tell_first",156,["state","given"],fun K t=>fz 2 (AC (aU K t) (AC (ag af) A0)) (fun x=>jT x.1/\aW 1 x.2.1) (ag af) (fun x=>rO x.1 x.2.1)⟩
def qi:dP ["state","given","room","first"] jL:=by walk_at"s"
def Dv (F:bh K jL f fd)(T:Txt K mg t)(ku:aL P w K mg base t 2 ib)(d9:aL P w K mg base t 2 eC)(jy:Cal P w K mg base 5 "best_first" ["room","wide"] (jG K t)):dO P w K mg base t 6 f fd jL:=by
 refine mT F qi fun H Z=>⟨_,(aa (a_ (ka iG (cW (dZ K) bz ai) (nD T (aF K aN))) (ae (aj (az (aG (g8 T.dY rfl))))) aD) (aa (dC 2 qi.nd (cW (dZ K) (aF K aN) (cW (dZ K) bz ai))) (aa (dC 3 qi.nd (bJ jy Z (aY bP (aF K aN)))) (aa (a_ (ej (gv dJ)) (ae (aj (az (aG (g8 T.lN rfl))))) aD) (ae (aj (az (cD dJ (bJ d9 Z (cD bP dJ (aF K aN))) (bJ ku Z (cD bP dJ (aF K aN))))))))))),fun G J se bA bI hs U ay hp=> ?_⟩
 try dsimp only at hp
 try dsimp only[je,rd]
 obtain⟨p1,p2⟩:=hp;obtain⟨O,hn,hn2⟩:=bf p2 (i:=0) (by decide);have hw:=p1.xx.wide;refine RS.eq (x:=if decide (((aA J).length:Int)<=se.getD 0 0) then[-2] else _) (bj (dj (g7 (aJ (aR ay) ao (by decide) O) (dc (bp (aQ T (aR U)))))) (fun _=>aB (cQ (i:= -2))) (fun hc=> ?_)) rfl;have M:(se.getD 0 0).toNat < (aA J).length:=by
  have:=ad_ hc
  omega
 have hd:=abX M;have cK:dM (aA J)[(se.getD 0 0).toNat]:=p1.rm _ (ab5 M);rw[hd];have oT:∀{σ:L2.St} {G1 H1:Hp},aE G G1->σ[0]?=some (some bA)->σ[1]?=some (some bI)->RE (il (gF K) (jF K (cc 0) "rooms") (il (gF K) (cc 1) (tC (.int 0)))) σ G1 H1 (eF K t) (aA J)[(se.getD 0 0).toNat]:=fun s1 a b=>aJ (aQ T (ab a U s1)) (aJ (ab b ay s1) ao (by decide) O) hn hd
 generalize (aA J)[(se.getD 0 0).toNat]=r at cK oT;refine bQ (x:=r) (oT sr rfl rfl) fun lR G2 H2 e2 dS=> ?_
 refine bQ (ak (bX (aR dS) (d5 T (ab rfl U e2.gg))) ⟨cK,hw⟩) fun X9 G3 H3 e3 L=> ?_
 show RS _ _ _ _ _ (firstOf J r)
 delta firstOf;cases hb:cz r (di J) with
 |none=>
  rw[hb] at L;exact RS.eq (x:=if true then[-33] else[]) (bj (d:=true) (RT.eq (bZ (bL (aR L))) rfl) (fun _=>aB (cQ (i:= -33))) (fun h=>by contradiction)) rfl
 |some f=>
  rw[hb] at L;have MG:af G3 X9 f:=L.2;have fb:=xn hw hb;have ar:∀{G4 H4:Hp},aE G3 G4->RA (bO (cc 2) (bO (cc 3) (bO (jF K (cc 0) "wide") fV))) [some bA,some bI,some lR,some X9] G4 H4 (AC (eF K t) (AC af (AC af A0))) (r,f,di J,()):=fun Y=>bE (ab rfl dS (e3.gg.trans Y)) (bX (ab rfl MG Y) (d5 T (ab rfl U ((e2.gg.trans e3.gg).trans Y))))
  exact RS.eq (x:=if false then[] else[f,gN r f (di J),k_ r f (di J)]) (bj (RT.eq (bZ (bL (aR L))) rfl) (fun h=>by contradiction) (fun _=>aB (bG (aI (aR MG) (aI (ak (ar sr) ⟨cK,fb,hw⟩) (aI (ak (x:=(r,f,di J,())) (ar sr) ⟨cK,fb,hw⟩) bu))) sl3))) rfl
abbrev ly:Df:=⟨"tell_firsts",157,["state","given"],fun K t=>fz 2 (AC (aU K t) (AC (ag af) A0)) (fun x=>jT x.1/\aW 1 x.2.1) (ag af) (fun x=>Ay x.1 x.2.1)⟩
def Ad:dP ["state","given"] ly:=by walk_at"s"
def AR (F:bh K ly f fd)(T:Txt K mg t)(bU:aL P w K mg base t 1 eN)(dA:aL P w K mg base t 3 eO):dO P w K mg base t 4 f fd ly:=by
 refine mT F Ad fun H hr=>⟨_,(aa (a_ (ka iG (cW (dZ K) bz ai) (nD T (aF K aN))) (ae (aj (az (aG (g8 T.dY rfl))))) aD) (ae (aj (bJ bU hr (aG (bJ dA hr (aY (cW (dZ K) (aF K aN) (cW (dZ K) bz ai)) (aF K aN)))))))),fun G J se bA bI hs O ay hp=> ?_⟩
 try dsimp only at hp
 obtain⟨Y,p2⟩:=hp;rcases bf p2 (i:=0) (by decide) with⟨M,hn,hn2⟩;have hw:=Y.xx.wide;refine RS.eq (x:=if decide (((aA J).length:Int)<=se.getD 0 0) then[-2] else _) (bj (dj (g7 (aJ (aR ay) ao (by decide) M) (dc (bp (aQ T (aR O)))))) (fun _=>aB (bG (by walk_at"re") sl1)) (fun hc=> ?_)) rfl;have L:(se.getD 0 0).toNat < (aA J).length:=by
  have:=ad_ hc
  omega
 have hd:=abX L;have cK:dM (aA J)[(se.getD 0 0).toNat]:=Y.rm _ (ab5 L);rw[hd];have Z:∀{σ:L2.St} {G1 H1:Hp},aE G G1->σ[0]?=some (some bA)->σ[1]?=some (some bI)->RE (il (gF K) (jF K (cc 0) "rooms") (il (gF K) (cc 1) (tC (.int 0)))) σ G1 H1 (eF K t) (aA J)[(se.getD 0 0).toNat]:=fun U a b=>aJ (aQ T (ab a O U)) (aJ (ab b ay U) ao (by decide) M) hn hd
 generalize (aA J)[(se.getD 0 0).toNat]=r at cK Z;refine aB (ak (bp (ak (bX (Z sr rfl rfl) (d5 T (aR O))) ⟨cK,hw⟩)) ?_);have:=MM r (di J)
 show(eS r (di J)).length<=1000
 have:di J<=60:=hw.2
 grind
abbrev lq:Df:=⟨"tell_widths",159,["state","given"],fun K t=>fz 2 (AC (aU K t) (AC (ag af) A0)) (fun x=>jT x.1/\aW 3 x.2.1) (ag af) (fun x=>Aw x.1 x.2.1)⟩
def kL:dP ["state","given","room","wide"] lq:=by walk_at"s"
def AN (F:bh K lq f fd)(T:Txt K mg t)(bU:aL P w K mg base t 1 eN)(dA:aL P w K mg base t 3 eO)(cG:aL P w K mg base t 1 gS):dO P w K mg base t 4 f fd lq:=by
 refine mT F kL fun H hr=>⟨_,(aa (a_ (ka iG (cW (dZ K) bz ai) (nD T (aF K aN))) (ae (aj (az (aG (g8 T.dY rfl))))) aD) (aa (a_ (PW.pt (tO (ka mV (cW (dZ K) bz ai) ai) (qr (fJ (de (bJ cG hr (cD (cW (dZ K) bz ai) (cW (dZ K) bz ai) (g8 T.yw rfl)))))))) (ae (aj (az (aG (g8 T.bN rfl))))) aD) (aa (dC 2 kL.nd (cW (dZ K) (aF K aN) (cW (dZ K) bz ai))) (ae (aj (bJ bU hr (aG (gK (own:=[("wide",3)]) rfl kL.nd (uR rfl T.ig (aY (cW (dZ K) bz ai) (bc kZ (cW (dZ K) bz ai) ai))) (bC (by rfl)) (fun _ _ _ _ _=>(iZ 3 kL.nd)) (fun _ _ _ _ _=>(pA (ka wR (nD T (bJ dA hr (aY bP dJ))) ai))) (fun _ _ _ _ _=>dJ))))))))),fun G J se bA bI hs au ay hp=> ?_⟩
 try dsimp only at hp
 obtain⟨p1,p2⟩:=hp;obtain⟨Z,hn,hn2⟩:=bf p2 (i:=0) (by decide);have hw:=p1.xx.wide;obtain⟨hg1,_⟩:=bf p2 (i:=1) (by decide);obtain⟨hg2,_⟩:=bf p2 (i:=2) (by decide);refine RS.eq (x:=if decide (((aA J).length:Int)<=se.getD 0 0) then[-2] else _) (bj (dj (g7 (aJ (aR ay) ao (by decide) Z) (dc (bp (aQ T (aR au)))))) (fun _=>aB (cQ (i:= -2))) (fun hc=> ?_)) rfl;have U:(se.getD 0 0).toNat < (aA J).length:=by
  have:=ad_ hc
  omega
 have hd:(aA J)[(se.getD 0 0).toNat]?=some (aA J)[(se.getD 0 0).toNat]:=abX U;have cK:dM (aA J)[(se.getD 0 0).toNat]:=p1.rm _ (ab5 U);rw[hd];have oT:∀{σ:L2.St} {M H1:Hp},aE G M->σ[0]?=some (some bA)->σ[1]?=some (some bI)->RE (il (gF K) (jF K (cc 0) "rooms") (il (gF K) (cc 1) (tC (.int 0)))) σ M H1 (eF K t) (aA J)[(se.getD 0 0).toNat]:=fun O a b=>aJ (aQ T (ab a au O)) (aJ (ab b ay O) ao (by decide) Z) hn hd
 generalize (aA J)[(se.getD 0 0).toNat]=r at cK oT;have g1:∀{σ:L2.St} {M H1:Hp},aE G M->σ[1]?=some (some bI)->RE (il (gF K) (cc 1) (tC (.int 1))) σ M H1 af (se.getD 1 0):=fun O b=>aJ (ab b ay O) ao (by decide) hg1
 have g2:∀{σ:L2.St} {M H1:Hp},aE G M->σ[1]?=some (some bI)->RE (il (gF K) (cc 1) (tC (.int 2))) σ M H1 af (se.getD 2 0):=fun O b=>aJ (ab b ay O) ao (by decide) hg2
 refine bj (oE (dj (lV (g1 sr rfl) ao)) fun _=>fB (bZ (ak (fY (g2 sr rfl) (g1 sr rfl) ao) trivial))) (fun _=>aB (cQ (i:= -22))) (fun hc2=> ?_);have hb:1<=se.getD 1 0/\se.getD 1 0<=se.getD 2 0/\se.getD 2 0<=60:=by
  unfold aX at hc2;simp only[Bool.or_eq_false_iff,Bool.not_eq_false',aaO,ad0,adY] at hc2;omega
 refine bQ (R:=eF K t) (x:=r) (oT sr rfl rfl) fun lR G2 H2 e2 dS=> ?_
 generalize hL:((upTo (se.getD 1 0) (se.getD 2 0+1 - se.getD 1 0).toNat).filter fun w=>decide (0 < ((eS r w).length:Int)))=L;have Y:L.length<=1000:=by
  rw[<- hL];refine adb (ab_ _ _) ?_;rw[cg];omega
 refine aB (ak (x:=(L,())) (bp (RE.eq (wJ (Rz:=af) (R:=af) (p:=fun w=>decide (0 < ((eS r w).length:Int))) (f:=fun n=>n) (uL (bX (g1 e2.gg rfl) (oF (g2 e2.gg rfl) ao)) ⟨by omega,by omega,by omega,by omega⟩) ?_ fun z hz x G6 H6 e6 r6=>⟨_,cE,rfl, ?_,fun _=>ab rfl r6 sr⟩) ?_)) Y)
 .rw[cg];exact adf (show _<=60 by omega) (by decide)
 .have hz2:=ip hz;exact dj (EG (dc (bp (ak (x:=(r,z,())) (bX (ab rfl dS e6.gg) (aR r6)) ⟨cK,(by show 1<=z;omega),(by show z<=60;grind)⟩))) ao)
 .rw[List.map_id'];exact hL
abbrev lr:Df:=⟨"tell_strips",160,["state","given"],fun K t=>fz 2 (AC (aU K t) (AC (ag af) A0)) (fun x=>jT x.1/\aW 1 x.2.1) (ag af) (fun x=>Ax x.1 x.2.1)⟩
def tE:dP ["state","given","strips"] lr:=by walk_at"s"
def AO (F:bh K lr f fd)(T:Txt K mg t)(jx:aL P w K mg base t 1 iC)(iD:aL P w K mg base t 6 gU):dO P w K mg base t 7 f fd lr:=by
 refine mT F tE fun H hr=>⟨_,(aa (a_ (ka iG (cW (dZ K) bz ai) (nD T (aF K aN))) (ae (aj (az (aG (g8 T.dY rfl))))) aD) (aa (dC 2 tE.nd (bJ iD hr (aY (cW (dZ K) (aF K aN) (cW (dZ K) bz ai)) aN))) (ae (aj (gL (ej (gv bP)) (az (aG (g8 T.lN rfl))) (bJ jx hr (aG bP))))))),fun G J se bA bI hs au ay hp=> ?_⟩
 try dsimp only at hp
 obtain⟨p1,p2⟩:=hp;obtain⟨Z,M,hn2⟩:=bf p2 (i:=0) (by decide);refine RS.eq (x:=if decide (((aA J).length:Int)<=se.getD 0 0) then[-2] else _) (bj (dj (g7 (aJ (aR ay) ao (by decide) Z) (dc (bp (aQ T (aR au)))))) (fun _=>aB (cQ (i:= -2))) (fun hc=> ?_)) rfl;have O:(se.getD 0 0).toNat < (aA J).length:=by
  have:=ad_ hc
  omega
 have hd:=abX O;have cK:dM (aA J)[(se.getD 0 0).toNat]:=p1.rm _ (ab5 O);rw[hd];have oT:∀{σ:L2.St} {G1 H1:Hp},aE G G1->σ[0]?=some (some bA)->σ[1]?=some (some bI)->RE (il (gF K) (jF K (cc 0) "rooms") (il (gF K) (cc 1) (tC (.int 0)))) σ G1 H1 (eF K t) (aA J)[(se.getD 0 0).toNat]:=fun s1 a b=>aJ (aQ T (ab a au s1)) (aJ (ab b ay s1) ao (by decide) Z) M hd
 generalize (aA J)[(se.getD 0 0).toNat]=r at cK oT;refine bQ (ak (bX (oT sr rfl rfl) (aR au)) ⟨cK,p1.xx⟩) fun vB G3 H3 e3 L=> ?_
 show RS _ _ _ _ _ (rowsOf (ba r (di J) (jI J) (dE J)))
 have U:∀l,ba r (di J) (jI J) (dE J)=some l->l.length<=1000:=fun l Y=>by
  delta ba at Y;cases M:cn r (di J) with
  |none=>rw[M] at Y;contradiction
  |some n=>
   rw[M] at Y;cases Y;have:=KL cK p1.xx.wide M
   delta eK;rw[aca,cg];grind
 cases hb:ba r (di J) (jI J) (dE J) with
 |none=>
  rw[hb] at L;exact RS.eq (x:=if true then[-33] else[]) (aB (lQ (RT.eq (bZ (bL (aR L))) rfl) (fun _=>bG (aI (ao (i:= -33)) bu) sl1) (fun h=>by cases h))) rfl
 |some l=>
  rw[hb] at L;have mY:ag (cZ K t) G3 vB l:=L.2;exact RS.eq (x:=if false then[] else((l.length:Int)::l.flatMap fun s=>[s.1,s.2.1])) (aB (lQ (RT.eq (bZ (bL (aR L))) rfl) (fun h=>by cases h) (fun _=>ak (bp (aR mY)) (U l hb)))) rfl
abbrev f_:Df:=⟨"tell_best_turn",154,["state","given"],fun K t=>fz 2 (AC (aU K t) (AC (ag af) A0)) (fun x=>jT x.1) (ag af) (fun x=>mS x.1)⟩
def o9:dP ["state","given","best"] f_:=by walk_at"s"
def wU (F:bh K f_ f fd)(T:Txt K mg t)(Y:aL P w K mg base t 8 iy):dO P w K mg base t 9 f fd f_:=by
 refine mT F o9 fun H Z=>⟨_,(aa (dC 2 o9.nd (bJ Y Z (aY (aF K aN) aN))) (ae (aj (gL (ej (gv bP)) (az (aG (g8 T.lN rfl))) (fw (Ck K) rfl T.oY p7 (aG bP)))))),fun G J se bA bI hs U ay M=> ?_⟩
 refine bQ (ak (bX (aQ T (aR U)) (aR U)) ⟨M.rl,M.rm,M.xx⟩) fun vB G3 H3 e3 L=> ?_
 show RS _ _ _ _ _ (Rk _)
 cases O:eB (aA J) (di J) (jI J) (dE J) with
 |none=>
  rw[O] at L;exact RS.eq (x:=if true then[-33] else[]) (aB (lQ (RT.eq (bZ (bL (aR L))) rfl) (fun _=>bG (by walk_at"re") sl1) (fun h=>by cases h))) rfl
 |some b=>
  rw[O] at L;have mY:=L.2;exact RS.eq (x:=if false then[] else[b.1,b.2]) (aB (lQ (RT.eq (bZ (bL (aR L))) rfl) (fun h=>by cases h) (fun _=>R5 (by walk_at"re")))) rfl
abbrev mG:Df:=⟨"tell_seams",158,["state","given"],fun K t=>fz 2 (AC (aU K t) (AC (ag af) A0)) (fun x=>jT x.1/\aW 1 x.2.1) (ag af) (fun x=>pj x.1 x.2.1)⟩
def vb:dP ["state","given","first"] mG:=by walk_at"s"
def Dr (F:bh K mG f fd)(T:Txt K mg t)(bU:aL P w K mg base t 1 eN)(eQ:aL P w K mg base t 1 g_)(sf:aL P w K mg base t 6 jL):dO P w K mg base t 7 f fd mG:=by
 refine mT F vb fun H Z=>⟨_,(aa (dC 2 vb.nd (bJ sf Z (aY aN bz))) (aa (a_ (ka AM (cW (dZ K) bP ai) ai) (ae (aj bP)) aD) (ae (aj (bJ bU Z (aG (bJ eQ Z (cD (cW (dZ K) (aF K aN) (cW (dZ K) bz ai)) (cW (dZ K) bP ai) (aF K aN))))))))),fun G J se bA bI hs au ay hp=> ?_⟩
 try dsimp only at hp
 try dsimp only[je,rd]
 obtain⟨Y,p2⟩:=hp;obtain⟨hg0,hn,hn2⟩:=bf p2 (i:=0) (by decide);have hw:=Y.xx.wide;refine bQ (ak (bX (aR au) (aR ay)) ⟨Y,p2⟩) fun X9 G1 H1 e1 L=> ?_
 show RS _ _ _ _ _ (pj J se)
 by_cases hc:((aA J).length:Int)<=se.getD 0 0
 .have e3:rO J se=[-2]:=by delta rO me;rw[ad3 (adZ hc)]
  have e2:pj J se=[-2]:=by delta pj me;rw[ad3 (adZ hc)]
  rw[e2];rw[e3] at L;exact RS.eq (x:=if true then[-2] else[]) (bj (RT.eq (dj (sJ (aJ (aR L) ao (by decide) rfl) ao)) rfl) (fun _=>aB (aR L)) (fun h=>by nomatch h)) rfl
 .have M:(se.getD 0 0).toNat < (aA J).length:=by omega
  have hd:=abX M;have cK:dM (aA J)[(se.getD 0 0).toNat]:=Y.rm _ (ab5 M);have q1:rO J se=firstOf J (aA J)[(se.getD 0 0).toNat]:=by delta rO me;rw[ad2 (fun z=>hc (aea z)),hd]
  have U:pj J se=(match cz (aA J)[(se.getD 0 0).toNat] (di J) with|none=>[-33]|some f=>cb (eG (aA J)[(se.getD 0 0).toNat] f (di J))):=by delta pj me;rw[ad2 (fun z=>hc (aea z)),hd]
  cases O:cz (aA J)[(se.getD 0 0).toNat] (di J) with
  |none=>
   rw[O] at U;rw[U];rw[q1.trans (show firstOf J (aA J)[(se.getD 0 0).toNat]=[-33] by delta firstOf;rw[O])] at L;exact RS.eq (x:=if true then[-33] else[]) (bj (d:=true) (RT.eq (dj (sJ (aJ (aR L) ao (by decide) rfl) ao)) rfl) (fun _=>aB (aR L)) (fun h=>by nomatch h)) rfl
  |some f=>
   rw[O] at U;rw[U];have fb:=xn hw O;have e3:=q1.trans (by delta firstOf;rw[O]);rw[e3] at L;have hl:(eG (aA J)[(se.getD 0 0).toNat] f (di J)).length<=1000:=by
    rw[EE];exact adb (R1 fb cK.ac hw).2 (by decide)
   refine RS.eq (x:=if false then[] else cb (eG (aA J)[(se.getD 0 0).toNat] f (di J))) (bj (RT.eq (dj (sJ (aJ (y:=f) (aR L) ao (by decide) rfl) ao)) (adX (by lia))) (fun h=>by cases h) (fun _=>aB (ak (bp (ak (fY (aJ (aQ T (ab rfl au e1.gg)) (aJ (ab rfl ay e1.gg) ao (by decide) hg0) hn hd) (aJ (aR L) ao (by decide) rfl) (d5 T (ab rfl au e1.gg))) ⟨cK,fb,hw⟩)) hl))) rfl
end
end Cw
namespace My
open PySem PySem.Spec PyProof.Rows L2
section
variable {K:b0}{a:Type}{σ:L2.St}{G H:Hp}
def YJ (K:b0)(A:Ra a):Rp a:=fun G v x=>∃p vs,v=.ref p/\mO K G p vs/\A G vs x
instance {A:Ra a}[sP A]:aK (YJ K A):=⟨fun s ⟨p,vs,e,h,q⟩=>⟨p,vs,e,aE.tup s h,sP.mono s q⟩⟩
def IZ (h:RA ta σ G H A x)(Y:sP A:=by infer_instance)(M:Ar A n:=by infer_instance)(U:n<=sizeLine:=by decide):RE (LK ta) σ G H (YJ K A) x:=fun G' H' e Q q=>
 h G' H' e _ fun vs Z H1 L J=>⟨by rw[Ar.len J];exact U,fun p O=>by
  have l:=Ext.laid (o:=.tup vs) L.gh O;exact q _ _ _ (L.trans l) ⟨p,vs,rfl,mO.of ah,sP.mono l.gg J⟩⟩
end
class Dat (K:b0){a:Type}[DecidableEq a](R:Rp a)(d:outParam (a->PyData))(n:outParam Nat):Prop where
 dp:∀{G H:Hp} {v:V} {x:a},aE G H->R G v x->Dp K H v (d x)
 YB:∀x,(d x).canLay0=true
 dep:∀x,(d x).depth<=n
 eqv:∀x y,PyData.eqv (d x) (d y)=decide (x=y)
class XR (K:b0){a:Type}[DecidableEq a](A:Ra a)(d:outParam (a->List PyData))(n:outParam Nat):Prop where
 dp:∀{G H:Hp} {v:List V} {x:a},aE G H->A G v x->yX K H v (d x)
 YB:∀x,PyData.canLayAll0 (d x)=true
 dep:∀x,PyData.depthAll (d x)<=n
 eqv:∀x y,PyData.eqvAll (d x) (d y)=decide (x=y)
section
variable {K:b0}{a b:Type}[DecidableEq a][DecidableEq b]
instance:Dat K af PyData.int 0:=⟨fun _ h=>by rw[show _=_ from h];exact .int _,fun _=>rfl,fun _=>ac_ _,fun x y=>by
 by_cases h:x=y<;>simp[PyData.eqv,h]⟩
instance:XR K A0 (fun _=>[]) 0:=⟨fun _ h=>by rw[show _=_ from h];exact .nil,fun _=>rfl,fun _=>ac_ _,fun x y=>by simp[PyData.eqvAll]⟩
instance {R:Rp a}{d:a->PyData}{n:Nat}{A:Ra b}{e:b->List PyData}{m:Nat}[h:Dat K R d n][h2:XR K A e m]:XR K (AC R A) (fun x=>d x.1::e x.2) (max n m):=⟨fun s ⟨v,r,ev,hv,hr⟩=>by
  rw[ev];exact .cons (h.dp s hv) (h2.dp s hr),fun x=>by
  simp only[PyData.canLayAll0,h.YB,h2.YB,Bool.and_self],fun x=>by
  have h3:=h.dep x.1;have h4:=h2.dep x.2;simp only[PyData.depthAll];omega,fun x y=>by
  simp only[PyData.eqvAll,h.eqv,h2.eqv];obtain⟨x1,x2⟩:=x;obtain⟨y1,y2⟩:=y
  by_cases e1:x1=y1<;>by_cases e2:x2=y2<;>simp[e1,e2]⟩
instance {A:Ra a}{e:a->List PyData}{m:Nat}[h:XR K A e m]:Dat K (YJ K A) (fun x=>.tuple (e x)) (m+1):=⟨fun s ⟨p,vs,ev,hv,hr⟩=>by
  rw[ev];exact .tup (aE.tup s hv) (h.dp s hr),fun x=>by simp only[PyData.canLay0,h.YB],fun x=>by
  have:=h.dep x
  simp only[PyData.depth];omega,fun x y=>by simp only[PyData.eqv,h.eqv]⟩
def Kf:∀{vs:List V} {xs:List a},Paired (fun v x=>Dp K H v (d x)) vs xs->yX K H vs (xs.map d)
 |_,_,.nil=>.nil
 |_,_,.cons r t=>.cons r (Kf t)
instance {R:Rp a}{d:a->PyData}{n:Nat}[h:Dat K R d n]:Dat K (ag R) (fun x=>.list (x.map d)) (n+1):=⟨fun s ⟨p,vs,ev,hv,hr⟩=>by
  rw[ev];exact .lst (dh.of (s _ _ hv)) (Kf (Paired.SV hr fun _ _ z=>h.dp s z)),fun x=>by
  simp only[PyData.canLay0]
  induction x with
  |nil=>rfl
  |cons y r ih=>simp only[acn,PyData.canLayAll0,h.YB,ih,Bool.and_self],fun x=>by
  have:PyData.depthAll (x.map d)<=n:=by
   induction x with
   |nil=>exact adz _
   |cons y r ih=>
    have:=h.dep y
    simp only[acn,PyData.depthAll];omega
  simp only[PyData.depth];omega,fun x=>by
  simp only[PyData.eqv]
  induction x with
  |nil=>intro y;cases y<;>simp[PyData.eqvAll]
  |cons z r ih=>
   intro y;cases y with
   |nil=>simp[PyData.eqvAll]
   |cons u t=>
    simp only[acn,PyData.eqvAll,h.eqv,ih]
    by_cases e1:z=u<;>by_cases e2:r=t<;>simp[e1,e2]⟩
instance:Dat K (g6 K) (fun x=>.tuple [.int x.1,.int x.2.1,.int x.2.2]) 1:=⟨fun s ⟨p,ev,h⟩=>by
  rw[ev];exact .tup (aE.tup s h) (.cons (.int _) (.cons (.int _) (.cons (.int _) .nil))),fun x=>rfl,fun x=>ac_ _,aat⟩
instance {R:Rp a}{d:a->PyData}{n:Nat}{S:Rp b}{e:b->PyData}{m:Nat}[h:Dat K R d n][h2:Dat K S e m]:Dat K (gE K R S) (fun x=>.tuple [d x.1,e x.2]) (max n m+1):=⟨fun s ⟨p,u,w,ev,hp,hu,hw⟩=>by
  rw[ev];exact .tup (aE.tup s hp) (.cons (h.dp s hu) (.cons (h2.dp s hw) .nil)),fun x=>by simp only[PyData.canLay0,PyData.canLayAll0,h.YB,h2.YB,Bool.and_self],fun x=>by
  have h3:=h.dep x.1;have h4:=h2.dep x.2;simp only[PyData.depth,PyData.depthAll];omega,fun x y=>by
  simp only[PyData.eqv,PyData.eqvAll,h.eqv,h2.eqv];obtain⟨x1,x2⟩:=x;obtain⟨y1,y2⟩:=y
  by_cases e1:x1=y1<;>by_cases e2:x2=y2<;>simp[e1,e2]⟩
variable {σ:L2.St}{G H:Hp}
def uJ (h:Dat K R d n)(J:n<=64)(x:a):SeqAt.shaped (d x)=true:=by
 delta SeqAt.shaped;rw[h.YB,adZ (adb (h.dep x) J)];rfl
def Zt {x y:a}(h1:RE ta σ G H R x)(h2:RE tb σ G H R y)(hd:Dat K R d n:=by infer_instance)(Y:aK R:=by infer_instance)(L:n<=64:=by decide):RE (il (VV K) ta tb) σ G H dQ (decide (x=y)):=fun G' H' e Q q=>
 h1 G' H' e _ fun v U H1 M O=>h2 U H1 (e.trans M) _ fun u Z H2 J r2=>
  ⟨_,_,hd.dp (J.gg.trans J.gh.at_) O,hd.dp J.gh.at_ r2,uJ hd L x,uJ hd L y,q _ _ _ (M.trans J) (adW _ (hd.eqv x y))⟩
def Zk {x y:a}(h1:RE ta σ G H R x)(h2:RE tb σ G H R y)(hd:Dat K R d n:=by infer_instance)(Y:aK R:=by infer_instance)(L:n<=64:=by decide):RE (il (VU K) ta tb) σ G H dQ (!decide (x=y)):=fun G' H' e Q q=>
 h1 G' H' e _ fun v U H1 M O=>h2 U H1 (e.trans M) _ fun u Z H2 J r2=>
  ⟨_,_,hd.dp (J.gg.trans J.gh.at_) O,hd.dp J.gh.at_ r2,uJ hd L x,uJ hd L y,q _ _ _ (M.trans J) (adW (fun z=>V.bl _) (hd.eqv x y))⟩
end
end My
namespace Cw
open PySem PySem.Spec PyProof.Rows L2 My
def f7 (st:aC):Option (List bH):=bg (aA st) (di st) (jI st) (dE st)
def xT (st:aC):hA:=match f7 st with
 |none=>[-33]
 |some l=>[aM l (dE st)]++dw l (dE st)
def uN (st:aC)(g:hA):hA:=match f7 st with
 |none=>[-33]
 |some l=>if !decide (sortI g=upTo 0 l.length) then[-22] else[eX (iQ l g) (dE st),eX (iQ l g) (dE st) - (l.map fun s=>s.1).sum]
def F6 (st:aC)(g:hA):hA:=if !eA (g.getD 0 0) (dE st) then[-22] else match f7 st with
 |none=>[-33]
 |some l=>[aM l (g.getD 0 0)]
def NH (o:Option hA):hA:=match o with
 |none=>[-33]
 |some w=>cb w
def pD (st:aC):Option hA:=match f7 st with
 |none=>none
 |some l=>da l (dE st) (bV st)
def tN (st:aC):hA:=if decide (((bV st).length:Int)=0) then[-6] else NH (pD st)
def kW (st:aC):hA:=if decide (((bV st).length:Int)=0) then[-6] else match f7 st with
 |none=>[-33]
 |some l=>match da l (dE st) (bV st) with
  |none=>[-33]
  |some w=>cb (pG w l (dE st) (bV st))
def F4 (st:aC):hA:=if decide (((bV st).length:Int)=0) then[-6] else match f7 st with
 |none=>[-33]
 |some l=>[kg (kh l (dE st) (bV st)),kh l (dE st) (bV st)]
def tV (st:aC)(dyes:List qE):Option hA:=pF (aA st) (di st) (jI st) (dE st) dyes (cM st)
def uP (st:aC)(g:hA):hA:=if !oO (col g) (g.getD 3 0) then[-22] else if decide (5<=((aV st).length:Int)) then[-28] else told (tV st (aV st++[(col g,g.getD 3 0,())]))
def xS (st:aC)(g:hA):hA:=if decide (((aV st).length:Int)<=g.getD 0 0) then[-2] else told (tV st ((aV st).eraseIdx (g.getD 0 0).toNat))
def aaD (L:1<=rep/\rep<=60)(J:0<=s.1/\s.1<=200):p<=aZ p s rep/\aZ p s rep<=p+260:=by
 delta aZ;have h1:=abc (s.2.1 - p) (show rep≠0 by omega);have h2:=abb (s.2.1 - p) (show 0 < rep by omega);omega
def xC (l:List bH):Prop:=l.length<=6/\ ∀s∈l,0<=s.1/\s.1<=200
def An (M:dM r)(h:ba r wide drop rep=some l):∀s∈l,0<=s.1/\s.1<=200:=by
 delta ba at h;cases J:cn r _ with
 |none=>rw[J] at h;contradiction
 |_ n=>
  rw[J] at h;cases h;intro s L;obtain⟨k,_,rfl⟩:=acA.mp L;have:=M.al
  lia
def K6:∀(rs:List cu) (acc l:List bH),(∀r∈rs,dM r)->(∀s∈acc,0<=s.1/\s.1<=200)->rs.foldl (nM wide drop rep) (some acc)=some l-> ∀s∈l,0<=s.1/\s.1<=200
 |[],acc,l,_,h2,J=>by grind
 |r::rs,acc,l,h1,h2,J=>by
  rw[abS] at J;cases M:cn r _ with
  |none=>
   rw[show nM _ _ rep _ r=none by delta nM;rw[M],wa] at J;nomatch J
  |_ n=>
   rw[show nM _ _ rep _ r=some _ by delta nM;rw[M]] at J;refine K6 rs _ l (fun x O=>h1 x (acv _ O)) (fun s L=> ?_) J
   rcases acq.mp L with L|L
   .grind
   .exact An (h1 r (acw ..)) (by delta ba;rw[M];rfl) s L
def Np {st:aC}(h:jT st)(J:f7 st=some l):xC l:=by
 refine⟨lM J, ?_⟩;delta f7 bg at J;split at J
 .cases J
 .next O L=>
  split at J
  .cases J;exact K6 _ _ _ h.rm (fun s M=>by cases M) L
  .cases J
def JI {rep rd:Int}(hr:1<=rep/\rep<=60)(O:xC l):∀(n:Nat),n<=2^l.length - 1-> ∀x∈(upTo 1 n).foldl (wY l rep) [rd],rd<=x/\x<=rd+260*((n:Int)+1)
 |0,_,x,J=>by
  have:=acF.mp J
  lia
 |n+1,hn,x,J=>by
  have Z:=JI (rd:=rd) hr O n (by lia);have e:upTo 1 (n+1)=upTo 1 n++[((n+1:Nat):Int)]:=by
   delta My.upTo;rw[acU]
   grind
  rw[e,abR] at J;have Y:((upTo 1 n).foldl (wY l rep) [rd]).length=n+1:=by rw[uT,cg];simp;lia
  generalize (upTo 1 n).foldl _ [rd]=acc at Z Y J
  rcases acq.mp J with J|J
  .grind
  .have M:=J9 (rep:=rep) (ends:=acc) (ch:=((n+1:Nat):Int)) O.1 (by
    exact acA.mpr ⟨n,acE.mpr (by assumption),by lia⟩)
   have hm:=(gP M).1;rw[<- acF.mp J] at hm;obtain⟨z,hz,L⟩:=acy.mp hm;obtain⟨k,hk⟩:=acz.mp hz;obtain⟨n1,n2⟩:=cy hk;split at L
   .have L:=acF.mp L;have hp2:(0:Int) < 2^z.1.toNat:=Int.pow_pos (by decide);have hlt:(((n+1:Nat):Int) - 1*2^z.1.toNat).toNat < acc.length:=by lia
    have U:acc.getD (((n+1:Nat):Int) - 1*2^z.1.toNat).toNat 0∈acc:=by
     simp_all
    have h1:=Z _ U;have h2:=aaD (p:=acc.getD (((n+1:Nat):Int) - 1*2^z.1.toNat).toNat 0) hr (O.2 _ (acB n2));grind
   .cases L
def Cy (l:List bH)(rep:Int):∀(n:Nat) (st:BO),(uz l rep n st).order.length=st.order.length+n
 |0,st=>rfl
 |n+1,st=>by
  show(uz l rep n _).order.length=_
  rw[Cy l rep n]
  show(st.order++[_]).length+n=_
  grind
def CB:(dw l rep).length=l.length:=by
 unfold dw;rw[Cy]
 simp
def Wm {rep rd:Int}(M:1<=rep/\rep<=60)(L:xC l):∀x∈du l rep rd,rd<=x/\x<=rd+260*64:=by
 intro x J;have O:=oH L.1;delta du at J;rw[AD] at J;have:=JI M L _ (ac_ _) x J
 grind
def BC {rep rd:Int}(J:1<=rep/\rep<=60)(L:xC l):rd<=cU l rep rd/\cU l rep rd<=rd+260*64:=by
 refine Wm J L _ ?_;delta cU;obtain _:∃ys y,du l rep _=ys++[y]:=⟨_,_,(abD (yA (nt:=l) (rep:=rep) (rd:=rd))).symm⟩
 grind
section
variable {P:dn}{w:fx}{K:b0}{mg:gp}{base:Heap}{t:jC}
abbrev pL:Df:=⟨"tell_all",109,["state","given"],fun K t=>fz 2 (AC (aU K t) (AC (ag af) A0)) (fun x=>jT x.1/\aW 0 x.2.1) (ag af) (fun x=>rowsOf (f7 x.1))⟩
def yB:dP ["state","given","strips"] pL:=by walk_at"s"
def Jq (F:bh K pL f fd)(T:Txt K mg t)(jx:aL P w K mg base t 1 iC)(aT:aL P w K mg base t 7 cp):dO P w K mg base t 8 f fd pL:=by
 refine mT F yB fun H U=>⟨_,(aa (dC 2 yB.nd (bJ aT U (aY (aF K aN) aN))) (aa (a_ (ej (gv bP)) (ae (aj (az (aG (g8 T.lN rfl))))) aD) (ae (aj (bJ jx U (aG bP)))))),fun G J se bA bI hs Y ay hp=> ?_⟩
 obtain⟨M,p2⟩:=hp;refine bQ (x:=f7 J) (ak (x:=(aA J,J,())) (bX (aQ T (aR Y)) (aR Y)) ⟨M.rl,M.rm,M.xx⟩) fun Z G3 H3 e3 L=> ?_
 cases O:f7 J with
 |none=>
  rw[O] at L;exact RS.eq (x:=if true then[-33] else[]) (bj (RT.eq (bZ (bL (aR L))) rfl) (fun _=>aB (bG (by walk_at"re") sl1)) (fun h=>by cases h)) rfl
 |some l=>
  rw[O] at L;have mY:ag (cZ K t) G3 Z l:=L.2;exact RS.eq (x:=if false then[] else _) (bj (RT.eq (bZ (bL (aR L))) rfl) (fun h=>by cases h) (fun _=>aB (ak (bp (aR mY)) (adb (lM O) (by decide))))) rfl
abbrev nU:Df:=⟨"tell_need",110,["state","given"],fun K t=>fz 2 (AC (aU K t) (AC (ag af) A0)) (fun x=>jT x.1/\aW 0 x.2.1) (ag af) (fun x=>xT x.1)⟩
def wB:dP ["state","given","strips"] nU:=by walk_at"s"
def Gk (F:bh K nU f fd)(T:Txt K mg t)(c8:aL P w K mg base t 4 fu)(sv:aL P w K mg base t 5 jQ)(aT:aL P w K mg base t 7 cp):dO P w K mg base t 8 f fd nU:=by
 refine mT F wB fun H U=>⟨_,(aa (dC 2 wB.nd (bJ aT U (aY (aF K aN) aN))) (aa (a_ (ej (gv bP)) (ae (aj (az (aG (g8 T.lN rfl))))) aD) (ae (aj (bc jD (az (aG (bJ c8 U (aY bP (aF K aN))))) (bJ sv U (aY bP (aF K aN)))))))),fun G J se bA bI hs Z ay hp=> ?_⟩
 try dsimp only at hp
 obtain⟨O,p2⟩:=hp;have U:=O.xx.rep;refine bQ (x:=f7 J) (ak (x:=(aA J,J,())) (bX (aQ T (aR Z)) (aR Z)) ⟨O.rl,O.rm,O.xx⟩) fun vB G3 H3 e3 L=> ?_
 delta xT;cases Y:f7 J with
 |none=>
  rw[Y] at L;exact RS.eq (y:=[-33]) (x:=if true then[-33] else[]) (bj (d:=true) (RT.eq (bZ (bL (aR L))) rfl) (fun _=>aB (bG (by walk_at"re") sl1)) (fun h=>by cases h)) rfl
 |some l=>
  rw[Y] at L;have mY:ag (cZ K t) G3 vB l:=L.2;have M:=lM Y;refine RS.eq (x:=if false then[] else[aM l (dE J)]++dw l (dE J)) (bj (d:=false) (RT.eq (bZ (bL (aR L))) rfl) (fun h=>by cases h) (fun _=>aB (kQ (bG (aI (ak (x:=(l,dE J,())) (bX (aR mY) (bK T (by walk_at"re"))) ⟨M,by show 0 < J.2.1;omega⟩) bu) sl1) (ak (bX (aR mY) (bK T (ab rfl Z e3.gg))) ⟨M,by show 0 < J.2.1;omega⟩) ?_))) rfl
  show 1+(dw l (dE J)).length<=sizeLine
  rw[CB];exact adb (show _<=7 by lia) (by decide)
abbrev mK:Df:=⟨"tell_finer",112,["state","given"],fun K t=>fz 2 (AC (aU K t) (AC (ag af) A0)) (fun x=>jT x.1/\aW 1 x.2.1) (ag af) (fun x=>F6 x.1 x.2.1)⟩
def qj:dP ["state","given","repeat","strips"] mK:=by walk_at"s"
def Dx (F:bh K mK f fd)(T:Txt K mg t)(c8:aL P w K mg base t 4 fu)(aT:aL P w K mg base t 7 cp)(kC:aL P w K mg base t 1 jw):dO P w K mg base t 8 f fd mK:=by
 refine mT F qj fun H U=>⟨_,(aa (dC 2 qj.nd (cW (dZ K) bz ai)) (aa (a_ (fJ (de (bJ kC U (aY bP (aF K aN))))) (ae (aj (az (aG (g8 T.bN rfl))))) aD) (aa (dC 3 qj.nd (bJ aT U (aY (aF K aN) aN))) (aa (a_ (ej (gv dJ)) (ae (aj (az (aG (g8 T.lN rfl))))) aD) (ae (aj (az (aG (bJ c8 U (aY dJ bP)))))))))),fun G J se bA bI hs au ay hp=> ?_⟩
 try dsimp only at hp
 obtain⟨O,p2⟩:=hp;obtain⟨Y,hn,hn2⟩:=bf p2 (i:=0) (by decide);refine bQ (R:=af) (aJ (aR ay) ao (by decide) Y) fun Rc G1 H1 e1 Lk=> ?_
 refine RS.eq (bj (fB (bZ (ak (bX (aR Lk) (bK T (ab rfl au e1.gg))) hn))) (fun _=>aB (cQ (i:= -22))) (fun hc=> ?_)) rfl;have M:0 < se.getD 0 0:=by
  have:eA (se.getD 0 0) (dE J)=true:=by lia
  delta eA at this;simp only[aaO,aaU,adY] at this;lia
 refine bQ (x:=f7 J) (ak (x:=(aA J,J,())) (bX (aQ T (ab rfl au e1.gg)) (ab rfl au e1.gg)) ⟨O.rl,O.rm,O.xx⟩) fun vB G3 H3 e3 L=> ?_
 cases Z:f7 J with
 |none=>
  rw[Z] at L;exact RS.eq (y:=[-33]) (x:=if true then[-33] else[]) (bj (d:=true) (RT.eq (bZ (bL (aR L))) rfl) (fun _=>aB (cQ (i:= -33))) (fun h=>by cases h)) rfl
 |some l=>
  rw[Z] at L;have mY:ag (cZ K t) G3 vB l:=L.2;exact RS.eq (x:=if false then[] else[aM l (se.getD 0 0)]) (bj (d:=false) (RT.eq (bZ (bL (aR L))) rfl) (fun h=>by cases h) (fun _=>aB (bG (aI (ak (x:=(l,se.getD 0 0,())) (bX (aR mY) (ab rfl Lk e3.gg)) ⟨lM Z,M⟩) bu) sl1))) rfl
end
def xm (J:sd.length<=3)(h:da l rep sd=some wy):wy.length=l.length/\sN sd.length wy:=by
 have h1:=(Fy J l [[]] 0 (fun w hw=>by rw[acF.mp hw];exact⟨rfl,fun r J=>by cases J⟩) (by decide)).1 wy (by
  exact List.mem_of_head? h)
 lia
def Q4 {st:aC}(p:jT st)(h:pD st=some wy):wy.length<=6/\sN (bV st).length wy:=by
 delta pD at h;cases J:f7 st with
 |none=>rw[J] at h;contradiction
 |_ l=>
  rw[J] at h;have:=xm p.ol h
  rw[this.1];exact⟨lM J,this.2⟩
def Vl {st:aC}(h:pD st=some wy):∃l,f7 st=some l/\da l (dE st) (bV st)=some wy:=by
 delta pD at h;cases J:f7 st with
 |none=>rw[J] at h;contradiction
 |_ l=>simp_all
def or_in (L:0<=a/\a < 64)(J:0<=b/\b < 64):0<=Builtin.bitOr a b/\Builtin.bitOr a b < 64:=by
 have h:∀i:Fin 64,∀j:Fin 64,0<=Builtin.bitOr ((i:Nat):Int) ((j:Nat):Int)/\Builtin.bitOr ((i:Nat):Int) ((j:Nat):Int) < 64:=by decide+kernel
 have:=h ⟨a.toNat,by lia⟩ ⟨b.toNat,by lia⟩
 simp only[abq L.1,abq J.1] at this;exact this
def Nq (h:x∈mf ks k):x∈ks\/x=k:=by
 delta mf at h
 grind
def Fi:mf ks k≠[]:=by
 delta mf;split
 .grind
 .simp
def JR (hc:0<=ch/\ch < 64):∀(l:List (Int×Int)) (g:hA),(∀z∈l,0<=z.1/\z.1 < 64)->(∀x∈g,0<=x/\x < 64)-> ∀x∈l.foldl (iH length ch) g,0<=x/\x < 64
 |[],g,_,h=>h
 |z::l,g,L,h=>by
  refine JR hc l _ (fun y M=>L y (acv _ M)) fun x J=> ?_
  unfold iH at J;split at J
  .rcases Nq J with J|J
   .exact h x J
   .rw[J];exact or_in hc (L z (acw ..))
  .exact h x J
def BG:∀(l:List (Int×Int)) (g:hA),g≠[]->l.foldl (iH length ch) g≠[]
 |[],g,h=>h
 |z::l,g,h=>by
  refine BG l _ ?_;delta iH;split
  .exact Fi
  .exact h
def Ir {ri:hA}(O:ri.length<=64):∀(l g:hA),(∀z∈l,0<=z/\z < 64)->(∀x∈g,0<=x/\x < 64)-> ∀x∈l.foldl (fun g ch=>(numbered ri).foldl (iH length ch) g) g,0<=x/\x < 64
 |[],g,_,h=>h
 |z::l,g,L,h=>by
  refine Ir O l _ (fun y J=>L y (acv _ J)) (JR (L z (acw ..)) _ _ (fun y J=> ?_) h);obtain⟨k,M⟩:=acz.mp J;have h1:=(cy M).1;have h2:=by
   have:=(abZ.mp M).1
   rwa [cN] at this
  lia
def Iq {ri:hA}:∀(l g:hA),g≠[]->l.foldl (fun g ch=>(numbered ri).foldl (iH length ch) g) g≠[]
 |[],g,h=>h
 |z::l,g,h=>by
  exact Iq l _ (BG _ _ h)
def Vk (h:J≠[])(M:∀z∈J,0<=z/\z < 64)(O:x<=length):dF J (x::r) length≠[]:=by
 obtain⟨c,t,rfl⟩:∃c t,J=c::t:=by
  cases J with
  |nil=>lia
  |_ c t=>lia
 delta dF;rw[abS];refine Iq _ _ ?_;have L:numbered (x::r)=(0,x)::(numbered (x::r)).tail:=by
  rfl
 rw[L,abS];refine BG _ _ ?_;have U:=by
  have hh:∀i:Fin 64,Builtin.bitAnd i 0=0:=by decide+kernel
  have hc:=M c (acw ..);have:=hh ⟨c.toNat,by lia⟩
  simp only[abq hc.1] at this;exact this
 delta iH;rw[ad3 (by simp[*])];exact Fi
def Mn:∃r,aP l rep roll=0::r:=by
 have h:∀n,∃r,(upTo 1 n).foldl _ [roll.2.1]=roll.2.1::r:=fun n=>by
  have:∀(zs acc:hA),∃r,zs.foldl (wY l rep) (roll.2.1::acc)=roll.2.1::r:=fun zs=>by
   induction zs with
   |nil=>intro acc;exact⟨acc,rfl⟩
   |_ z zs J=>intro acc;exact J _
  exact this _ []
 delta aP du;obtain⟨r,L⟩:=h (1*(2:Int)^((l.length:Int)).toNat - 1).toNat
 simp_all
def NR (O:l.length<=6):∀(sd:List ji) (J:hA),(∀r∈sd,0<=r.1)->J≠[]->(∀z∈J,0<=z/\z < 64)->(sd.foldl (fun J L=>dF J (aP l rep L) L.1) J)≠[]/\ ∀z∈sd.foldl (fun J L=>dF J (aP l rep L) L.1) J,0<=z/\z < 64
 |[],J,_,h1,h2=>⟨h1,h2⟩
 |r::sd,J,U,h1,h2=>by
  rw[abS];refine NR O _ _ (fun x M=>U x (acv _ M)) ?_ ?_
  .obtain⟨t,Y⟩:=Mn;rw[Y];exact Vk h1 h2 (U r (acw ..))
  .exact Ir (by rw[iO];exact oH O) _ _ h2 (fun x M=>by cases M)
def EM {st:aC}(p:jT st)(L:l.length<=6):k9 l (dE st) (bV st)≠[]/\ ∀y∈k9 l (dE st) (bV st),0<=y/\y < 64:=
 NR L _ _ (fun r J=>by have:=(p.ro r J).l;lia) (by simp) (fun z M=>by simp_all)
def J_ (sz:Int->Int):∀(l:hA) (o:ng) (m:Int),l.foldl (uc sz) o=some m->m∈l\/o=some m
 |[],o,m,h=>.inr h
 |x::l,o,m,h=>by
  rcases J_ sz l _ m h with h|h
  .simp_all
  .unfold uc at h;cases o with
   |none=>simp_all
   |_ y=>
    grind
def Wo {st:aC}(p:jT st)(M:l.length<=6):0<=kh l (dE st) (bV st)/\kh l (dE st) (bV st) < 64:=by
 obtain⟨h1,h2⟩:=EM p M;have L:(sortI _).Perm (k9 l (dE st) (bV st)):=acH ..;obtain⟨m,J⟩:=yj _ (sortI _) _ (.inl fun z=>h1 (by rw[z] at L;simp_all));delta kh;rw[J]
 rcases J_ _ _ _ _ J with h|h
 .grind
 .cases h
def Zr (h:RE te σ G H (jA R) o)(e:o=some x):RE te σ G H R x:=by
 subst e;exact R8 (fun _ _ z=>z.2) h
def FG {st:aC}(h:tV st d=some c):c.length=2:=by
 delta tV pF at h;split at h
 .cases h;rfl
 .cases h
def aaF {g:hA}(h:g.length=4):cut g none (some ((3:Nat):Int))=[g.getD 0 0,g.getD 1 0,g.getD 2 0]:=by
 obtain⟨a,b,c,d,rfl⟩:=hx4 h;rfl
def aaw (M:0<=g.getD 0 0)(h1:0<=g.getD 1 0)(h2:0<=g.getD 2 0)(L:0<=g.getD 3 0)(h:oO (col g) (g.getD 3 0)=true):OP (col g,g.getD 3 0,()):=by
 delta oO at h;simp at h;obtain⟨z,m,c⟩:=h;have J:(col g).1<=50/\(col g).2.1<=50/\(col g).2.2<=50:=by
  unfold JN at m;grind
 refine⟨⟨⟨M,J.1⟩,⟨h1,J.2.1⟩,⟨h2,J.2.2⟩⟩, ?_,⟨L,c⟩⟩
 show 0 < g.getD 0 0+g.getD 1 0+g.getD 2 0
 refine Int.lt_of_not_ge fun hh=>z ?_
 delta col
 grind
section
variable {P:dn}{w:fx}{K:b0}{mg:gp}{base:Heap}{t:jC}
abbrev lx:Df:=⟨"tell_fits",113,["state","given"],fun K t=>fz 2 (AC (aU K t) (AC (ag af) A0)) (fun x=>jT x.1/\aW 0 x.2.1) (ag af) (fun x=>tN x.1)⟩
def rJ:dP ["state","given","strips","way"] lx:=by walk_at"s"
def Gp (F:bh K lx f fd)(T:Txt K mg t)(bU:aL P w K mg base t 1 eN)(ur:aL P w K mg base t 4 lH)(aT:aL P w K mg base t 7 cp):dO P w K mg base t 8 f fd lx:=by
 refine mT F rJ fun H Z=>⟨_,(aa (a_ (ka mV (nD T (aF K aN)) ai) (ae (aj (az (aG (g8 T.Ld rfl))))) aD) (aa (dC 2 rJ.nd (bJ aT Z (aY (aF K aN) aN))) (aa (dC 3 rJ.nd (gL (ej (gv bP)) ke (bJ ur Z (cD bP (aF K aN) (aF K aN))))) (ae (aj (gL (ej (gv dJ)) (az (aG (g8 T.lN rfl))) (bJ bU Z (aG dJ)))))))),fun G J se bA bI hs U ay hp=> ?_⟩
 try dsimp only at hp
 obtain⟨L,p2⟩:=hp;have Z:=L.xx.rep;refine RS.eq (x:=if decide (((bV J).length:Int)=0) then[-6] else NH (pD J)) (bj (dj (lV (dc (bp (ei T (aR U)))) ao)) (fun _=>aB (cQ (i:= -6))) (fun hc=> ?_)) rfl;have hrl:0 < (bV J).length:=by have:=ad_ hc;lia
 refine bQ (x:=f7 J) (ak (x:=(aA J,J,())) (bX (aQ T (aR U)) (aR U)) ⟨L.rl,L.rm,L.xx⟩) fun vB G3 H3 e3 M=> ?_
 refine bQ (R:=jA (ag af)) (x:=pD J) ?_ fun v_w G4 H4 e4 Y=> ?_
 .unfold pD;cases hb:f7 J with
  |none=>
   rw[hb] at M;exact RE.eq (y:=none) (x:=if true then none else none) (lQ (c:=true) (RT.eq (bZ (bL (aR M))) rfl) (fun _=>jW) (fun h=>by cases h)) rfl
  |some l=>
   rw[hb] at M;have mY:ag (cZ K t) G3 vB l:=M.2;exact RE.eq (x:=if false then none else da l (dE J) (bV J)) (lQ (c:=false) (RT.eq (bZ (bL (aR M))) rfl) (fun h=>by cases h) (fun _=>ak (x:=(l,dE J,bV J,())) (fY (aR mY) (bK T (ab rfl U e3.gg)) (ei T (ab rfl U e3.gg))) ⟨lM hb,(by show 0 < J.2.1;lia),hrl,L.ol⟩)) rfl
 .cases hw:pD J with
  |none=>
   rw[hw] at Y;exact RS.eq (x:=if true then[-33] else[]) (aB (lQ (c:=true) (RT.eq (bZ (bL (aR Y))) rfl) (fun _=>bG (aI (ao (i:= -33)) bu) sl1) (fun h=>by cases h))) rfl
  |some wy=>
   rw[hw] at Y;have O:ag af G4 v_w wy:=Y.2;exact RS.eq (x:=if false then[] else cb wy) (aB (lQ (c:=false) (RT.eq (bZ (bL (aR Y))) rfl) (fun h=>by cases h) (fun _=>ak (bp (aR O)) (by show wy.length<=1000;have:=(Q4 L hw).1;lia)))) rfl
abbrev mE:Df:=⟨"tell_spare",114,["state","given"],fun K t=>fz 2 (AC (aU K t) (AC (ag af) A0)) (fun x=>jT x.1/\aW 0 x.2.1) (ag af) (fun x=>kW x.1)⟩
def va:dP ["state","given","fits"] mE:=by walk_at"s"
def Dn (F:bh K mE f fd)(T:Txt K mg t)(bU:aL P w K mg base t 1 eN)(vU:aL P w K mg base t 4 m9)(aT:aL P w K mg base t 7 cp)(uj:aL P w K mg base t 8 lx):dO P w K mg base t 9 f fd mE:=by
 refine mT F va fun H U=>⟨_,(aa (dC 2 va.nd (bJ uj U (aY aN bz))) (aa (a_ (ka AM (cW (dZ K) bP ai) ai) (ae (aj bP)) aD) (ae (aj (bJ bU U (aG (bJ vU U (gG (kY (VC K) bP (mz ai) pB) (cD (bJ aT U (aY (aF K aN) aN)) (aF K aN) (aF K aN)))))))))),fun G J se bA bI hs au ay hp=> ?_⟩
 try dsimp only at hp
 try dsimp only[je,rd]
 obtain⟨M,p2⟩:=hp;have U:=M.xx.rep;refine bQ (ak (bX (aR au) (aR ay)) ⟨M,p2⟩) fun X9 G1 H1 e1 O=> ?_
 show RS _ _ _ _ _ (kW J)
 by_cases Z:((bV J).length:Int)=0
 .have e2:tN J=[-6]:=by delta tN;rw[ad3 (adZ Z)]
  have e3:kW J=[-6]:=by delta kW;rw[ad3 (adZ Z)]
  rw[e3];rw[e2] at O;exact RS.eq (x:=if true then[-6] else[]) (bj (RT.eq (dj (sJ (aJ (aR O) ao (by decide) rfl) ao)) rfl) (fun _=>aB (aR O)) (fun h=>by nomatch h)) rfl
 .have e2:tN J=NH (pD J):=by delta tN;rw[ad2 (fun z=>Z (aea z))]
  cases hw:pD J with
  |none=>
   have e3:kW J=[-33]:=by
    delta kW;rw[ad2 (fun z=>Z (aea z))];delta pD at hw;cases Y:f7 J with
    |none=>rfl
    |some l=>rw[Y] at hw;dsimp only at hw ⊢;rw[hw]
   rw[e3];rw[e2,hw] at O;exact RS.eq (x:=if true then[-33] else[]) (bj (d:=true) (RT.eq (dj (sJ (aJ (aR O) ao (by decide) rfl) ao)) rfl) (fun _=>aB (aR O)) (fun h=>by nomatch h)) rfl
  |some L=>
   obtain⟨l,Y,hf⟩:=Vl hw;obtain⟨w1,w2⟩:=Q4 M hw;have e3:kW J=cb (pG L l (dE J) (bV J)):=by
    delta kW;rw[ad2 (fun z=>Z (aea z)),Y];dsimp only;rw[hf]
   rw[e3];rw[e2,hw] at O;have MG:ag af G1 X9 ((L.length:Int)::L):=O;have hc:cut ((L.length:Int)::L) (some ((1:Nat):Int)) none=L:=by rw[KI];rfl
   have hsl:(pG L l (dE J) (bV J)).length<=1000:=by
    delta pG;rw[JP w2 (by rw[aca])];have:=M.ol
    exact adb this (by decide)
   exact RS.eq (x:=if false then[] else cb (pG L l (dE J) (bV J))) (bj (RT.eq (dj (sJ (aJ (aR MG) ao (by decide) rfl) ao)) (adX (by lia))) (fun h=>by cases h) (fun _=>aB (ak (bp (ak (bE (RE.eq (Ap (aR MG) (mv (ao)) pf) hc) (fY (Zr (ak (bX (aQ T (ab rfl au e1.gg)) (ab rfl au e1.gg)) ⟨M.rl,M.rm,M.xx⟩) Y) (bK T (ab rfl au e1.gg)) (ei T (ab rfl au e1.gg)))) ⟨w1,(by show L.length<=l.length;rw[(xm M.ol hf).1];exact ac_ _),w2,(lM Y),(by show 0 < J.2.1;lia),M.ol⟩)) hsl))) rfl
abbrev nV:Df:=⟨"tell_most",115,["state","given"],fun K t=>fz 2 (AC (aU K t) (AC (ag af) A0)) (fun x=>jT x.1/\aW 0 x.2.1) (ag af) (fun x=>F4 x.1)⟩
def rH:dP ["state","given","strips","chosen"] nV:=by walk_at"s"
def Gm (F:bh K nV f fd)(T:Txt K mg t)(oy:aL P w K mg base t 2 lZ)(nF:aL P w K mg base t 5 gW)(aT:aL P w K mg base t 7 cp):dO P w K mg base t 8 f fd nV:=by
 refine mT F rH fun H Y=>⟨_,(aa (a_ (ka mV (nD T (aF K aN)) ai) (ae (aj (az (aG (g8 T.Ld rfl))))) aD) (aa (dC 2 rH.nd (bJ aT Y (aY (aF K aN) aN))) (aa (a_ (ej (gv bP)) (ae (aj (az (aG (g8 T.lN rfl))))) aD) (aa (dC 3 rH.nd (bJ nF Y (cD bP (aF K aN) (aF K aN)))) (ae (aj (az (aY (bJ oy Y (aG dJ)) dJ)))))))),fun G J se bA bI hs U ay hp=> ?_⟩
 try dsimp only at hp
 obtain⟨L,p2⟩:=hp;have Y:=L.xx.rep;refine RS.eq (bj (dj (lV (dc (bp (ei T (aR U)))) ao)) (fun _=>aB (cQ (i:= -6))) (fun hc=> ?_)) rfl;refine bQ (x:=f7 J) (ak (x:=(aA J,J,())) (bX (aQ T (aR U)) (aR U)) ⟨L.rl,L.rm,L.xx⟩) fun vB G3 H3 e3 O=> ?_
 cases Z:f7 J with
 |none=>
  rw[Z] at O;exact RS.eq (y:=[-33]) (x:=if true then[-33] else[]) (bj (d:=true) (RT.eq (bZ (bL (aR O))) rfl) (fun _=>aB (cQ (i:= -33))) (fun h=>by cases h)) rfl
 |some l=>
  rw[Z] at O;have mY:ag (cZ K t) G3 vB l:=O.2;have M:=lM Z;obtain⟨k1,k2⟩:=EM L M;refine RS.eq (x:=if false then[] else[kg (kh l (dE J) (bV J)),kh l (dE J) (bV J)]) (bj (d:=false) (RT.eq (bZ (bL (aR O))) rfl) (fun h=>by cases h) (fun _=> ?_)) rfl;refine bQ (R:=af) (ak (fY (aR mY) (bK T (ab rfl U e3.gg)) (ei T (ab rfl U e3.gg))) ⟨M,(by show 0 < J.2.1;lia),L.ol,k1,k2⟩) fun Lj G4 H4 e4 vx=> ?_
  exact aB (bG (aI (ak (x:=(kh l (dE J) (bV J),())) (bp (aR vx)) (Wo L M)) (aI (aR vx) bu)) sl2)
abbrev mH:Df:=⟨"tell_order",111,["state","given"],fun K t=>fz 2 (AC (aU K t) (AC (ag af) A0)) (fun x=>jT x.1/\x.2.1.length<=1000/\ ∀y∈x.2.1,0<=y) (ag af) (fun x=>uN x.1 x.2.1)⟩
def gm:dP ["state","given","strips","need","number","strip"] mH:=by walk_at"s"
def Ds (F:bh K mH f fd)(T:Txt K mg t)(sg:aL P w K mg base t 2 jM)(aT:aL P w K mg base t 7 cp):dO P w K mg base t 8 f fd mH:=by
 refine mT F gm fun H Y=>⟨_,(aa (dC 2 gm.nd (bJ aT Y (aY (aF K aN) aN))) (aa (a_ (ej (gv bP)) (ae (aj (az (aG (g8 T.lN rfl))))) aD) (aa (a_ (ka (neD K Y.units) (fD (E9 K) rfl T.xy E_ (aG bz)) (tQ rfl rfl T.oY rfl T.ig (aG (nD T bP)))) (ae (aj (az (aG (g8 T.bN rfl))))) aD) (aa (dC 3 gm.nd (bJ sg Y (aY (gK (own:=[("number",4)]) rfl gm.nd (rP K bz) (bC (by rfl)) (fun _ _ _ _ _=>(iZ 4 gm.nd)) (fun _ _ _ _ _=>c6) (fun _ _ _ _ _=>(cW (dZ K) bP lO))) (aF K aN)))) (ae (aj (az (aY dJ (bc qt dJ (fD (YA K rfl) rfl T.Fg HS (aG (gK (own:=[("strip",5)]) rfl gm.nd (rP K bP) (bC (by rfl)) (fun _ _ _ _ _=>(iZ 5 gm.nd)) (fun _ _ _ _ _=>c6) (fun _ _ _ _ _=>(aF K uQ)))))))))))))),fun G J se bA bI hs au ay hp=> ?_⟩
 try dsimp only at hp
 obtain⟨U,p2,p3⟩:=hp;have Y:=U.xx.rep;refine bQ (x:=f7 J) (ak (x:=(aA J,J,())) (bX (aQ T (aR au)) (aR au)) ⟨U.rl,U.rm,U.xx⟩) fun vB G3 H3 e3 M=> ?_
 delta uN;cases hb:f7 J with
 |none=>
  rw[hb] at M;exact RS.eq (y:=[-33]) (x:=if true then[-33] else[]) (bj (d:=true) (RT.eq (bZ (bL (aR M))) rfl) (fun _=>aB (cQ (i:= -33))) (fun h=>by nomatch h)) rfl
 |some l=>
  rw[hb] at M;have mY:ag (cZ K t) G3 vB l:=M.2;have O:=lM hb;refine RS.eq (x:=if false then[] else if !decide (sortI se=upTo 0 l.length) then[-22] else[eX (iQ l se) (dE J),eX (iQ l se) (dE J) - (l.map fun s=>s.1).sum]) (bj (d:=false) (RT.eq (bZ (bL (aR M))) rfl) (fun h=>by cases h) (fun _=> ?_)) rfl;refine bj (dj (Zk (K:=K) (R:=ag af) (Ao (bp (ab rfl ay e3.gg)) (fun zs z1 z2=>tu z1 z2)) (Zm (bp (dc (bp (aR mY)))) (by lia) (by lia)))) (fun _=>aB (cQ (i:= -22))) (fun hc=> ?_);have hs:sortI se=upTo 0 l.length:=by simpa using hc
  have hin:∀i∈se,0<=i/\i < l.length:=fun i hi=>by
   have h1:i∈sortI se:=(acH ..).mem_iff.mpr hi;rw[hs] at h1;have:=ip h1
   grind
  have L:(iQ l se).length<=6:=by
   delta iQ;rw[aca,<- (acH se _).length_eq]
   show(sortI se).length<=6
   rw[hs,cg];exact O
  have hgl:se.length<=6:=by
   delta iQ at L;rw[aca] at L;exact L
  refine bQ (R:=af) (ak (bX (eT (R:=cZ K t) (f:=fun i=>l.getD i.toNat UX) (bD (ab rfl ay e3.gg)) ?_ fun z hz x G5 H5 e5 Z=>⟨_,cE,rfl, ?_⟩) (bK T (ab rfl au e3.gg))) (by show 0 < J.2.1;lia)) fun O1 G4 H4 e4 wd=> ?_
  .exact adf hgl (by decide)
  .have hz2:=hin z hz;refine aJ (ab rfl mY e5.gg) (aR Z) hz2.1 ?_;rw[abU,abX (by omega)];rfl
  .refine aB (bG (aI (aR wd) (aI (tH (aR wd) (LZ (bp (eT (R:=af) (bD (ab rfl mY e4.gg)) ?_ fun z hz x G5 H5 e5 Z=>⟨_,cE,rfl,nA T (ab rfl Z sr)⟩)))) bu)) sl2);exact adf O (by decide)
abbrev h_:Df:=⟨"told_cost",116,["cost"],fun _ _=>fz 1 (AC (jA (ag af)) A0) (fun x=>∀c,x.1=some c->c.length=2) (ag af) (fun x=>told x.1)⟩
def FN:dP ["cost"] h_:=⟨rfl,rfl,rfl,by simp,rfl,by decide+kernel,by decide+kernel⟩
def Gj (F:bh K h_ f fd)(T:Txt K mg t):dO P w K mg base t 1 f fd h_:=by
 refine QU F FN fun H M=>⟨_,(ae (aj (gL (ej (gv aN)) (az (aG (g8 T.lN rfl))) (bc jD (az (aG ai)) aN)))),fun G cost O L MH J=> ?_⟩
 cases cost with
 |none=>exact RS.eq (x:=if true then[-33] else[]) (aB (lQ (RT.eq (bZ (bL (by walk_at"re"))) rfl) (fun _=>bG (by walk_at"re") (by decide)) (fun h=>by nomatch h))) rfl
 |some c=>
  refine RS.eq (x:=if false then[] else[0]++c) (aB (lQ (RT.eq (bZ (bL (aR MH))) rfl) (fun h=>by cases h) (fun _=>kQ (bG (by walk_at"re") (by decide)) (aR MH.2) ?_))) rfl;rw[J c rfl];decide
abbrev mC:Df:=⟨"tell_total",117,["state","given"],fun K t=>fz 2 (AC (aU K t) (AC (ag af) A0)) (fun x=>jT x.1/\aW 0 x.2.1) (ag af) (fun x=>told (tV x.1 (aV x.1)))⟩
def Dc:dP ["state","given"] mC:=by walk_at"s"
def Dl (F:bh K mC f fd)(T:Txt K mg t)(Y:aL P w K mg base t 1 h_)(Z:aL P w K mg base t 8 gy):dO P w K mg base t 9 f fd mC:=by
 refine mT F Dc fun H M=>⟨_,(ae (aj (bJ Y M (aG (bJ Z M (aY aN (aF K aN))))))),fun G _ _ _ _ hs _ _ O=> ?_⟩
 obtain⟨J,p2⟩:=O;have L:∀l,bg _ _ _ _=some l->0<=aM l _/\aM l _ < 2^60:=fun l U=>by
  have:=BC (rd:=0) J.xx.rep (Np J U)
  exact⟨this.1,abi this.2 (by decide)⟩
 exact aB (ak (bp (ak (bX (by walk_at"re") (ck T (by walk_at"re"))) ⟨⟨J.rl,J.rm,J.xx⟩,J.dy.in_,wq J.dy J.tl J.ti,L⟩)) (fun c hc=>FG hc))
abbrev jZ:Df:=⟨"tell_without",119,["state","given"],fun K t=>fz 2 (AC (aU K t) (AC (ag af) A0)) (fun x=>jT x.1/\aW 1 x.2.1) (ag af) (fun x=>xS x.1 x.2.1)⟩
def y8:dP ["state","given"] jZ:=by walk_at"s"
def za (F:bh K jZ f fd)(T:Txt K mg t)(gf:aL P w K mg base t 1 h_)(fc:aL P w K mg base t 8 gy)(jz:aL P w K mg base t 1 jd):dO P w K mg base t 9 f fd jZ:=by
 refine mT F y8 fun H U=>⟨_,(aa (a_ (ka iG (cW (dZ K) bz ai) (nD T (aF K aN))) (ae (aj (az (aG (g8 T.dY rfl))))) aD) (ae (aj (bJ gf U (aG (bJ fc U (aY aN (bJ jz U (aY (aF K aN) (cW (dZ K) bz ai)))))))))),fun G J se bA bI hs Y Z hp=> ?_⟩
 obtain⟨L,p2⟩:=hp;obtain⟨O,hn,hn2⟩:=bf p2 (i:=0) (by decide);have M:∀l,bg (aA J) (di J) (jI J) (dE J)=some l->0<=aM l (dE J)/\aM l (dE J) < 2^60:=fun l hl=>by
  have:=BC (rd:=0) L.xx.rep (Np L hl)
  exact⟨this.1,abi this.2 (by decide)⟩
 have hd:qc ((aV J).eraseIdx (se.getD 0 0).toNat):=⟨adb (ab9 ..) L.dy.len,B3 L.dy.ok _⟩
 exact RS.eq (bj (dj (g7 (aJ (aR Z) ao (by decide) O) (dc (bp (ck T (aR Y)))))) (fun _=>aB (bG (aI (ao) bu) sl1)) (fun hc=>aB (ak (bp (ak (bX (aR Y) (xR (K:=K) (t:=t) (ck T (aR Y)) (RE.eq (aJ (aR Z) ao (by decide) O) (abq hn).symm) (adb L.dy.len (by decide)))) ⟨⟨L.rl,L.rm,L.xx⟩,hd.in_,wq hd L.tl L.ti,M⟩)) (fun c hc=>FG hc)))) rfl
abbrev j8:Df:=⟨"tell_cheaper",118,["state","given"],fun K t=>fz 2 (AC (aU K t) (AC (ag af) A0)) (fun x=>jT x.1/\aW 4 x.2.1) (ag af) (fun x=>uP x.1 x.2.1)⟩
def sF:dP ["state","given","parts"] j8:=by walk_at"s"
def zc (F:bh K j8 f fd)(T:Txt K mg t)(M:yY P w K mg base 1 "Dye" t.yr ["self","parts","price"] (eE t.yr ["parts","price"]))(gf:aL P w K mg base t 1 h_)(fc:aL P w K mg base t 8 gy)(q_:aL P w K mg base t 1 ox):dO P w K mg base t 9 f fd j8:=by
 refine mT F sF fun H Y=>⟨_,(aa (dC 2 sF.nd (fw (r_ K) rfl T.n9 oX (aG (kY (VC K) bz pB (mz ai))))) (aa (a_ (fJ (de (bJ q_ Y (aY bP (cW (dZ K) bz ai))))) (ae (aj (az (aG (g8 T.bN rfl))))) aD) (aa (a_ (ka iG (nD T (aF K aN)) (g8 T.Fl rfl)) (ae (aj (az (aG (g8 T.FULL rfl))))) aD) (ae (aj (bJ gf Y (aG (bJ fc Y (aY aN (bc jD (aF K aN) (az (aG (sL M Y (by decide) rfl (aY bP (cW (dZ K) bz ai))))))))))))))),fun G J se bA bI hs au ay hp=> ?_⟩
 try dsimp only[je,rd]
 obtain⟨L,p2⟩:=hp;obtain⟨hg0,hn0,_⟩:=bf p2 (i:=0) (by decide);obtain⟨hg1,hn1,_⟩:=bf p2 (i:=1) (by decide);obtain⟨hg2,hn2,_⟩:=bf p2 (i:=2) (by decide);obtain⟨hg3,Z,_⟩:=bf p2 (i:=3) (by decide);have O:∀l,bg (aA J) (di J) (jI J) (dE J)=some l->0<=aM l (dE J)/\aM l (dE J) < 2^60:=fun l hl=>by
  have:=BC (rd:=0) L.xx.rep (Np L hl)
  exact⟨this.1,abi this.2 (by decide)⟩
 refine bQ (R:=g6 K) (lU (bp (RE.eq (Ap (aR ay) pf (mv (ao))) (aaF p2.1)))) fun YZ G1 H1 U Ti=> ?_
 have g3:∀{σ:L2.St} {G1 H1:Hp},aE G G1->σ[1]?=some (some bI)->RE (il (gF K) (cc 1) (tC (.int 3))) σ G1 H1 af (se.getD 3 0):=fun s1 b=>aJ (ab b ay s1) ao (by decide) hg3
 refine bj (fB (bZ (ak (bX (aR Ti) (g3 U.gg rfl)) trivial))) (fun _=>aB (cQ (i:= -22))) (fun hc=> ?_);refine bj (dj (g7 (dc (bp (ck T (ab rfl au U.gg)))) ao)) (fun _=>aB (cQ (i:= -28))) (fun hc2=> ?_);have hl5:(aV J).length < 5:=by have:=ad_ hc2;omega
 have hdy:OP (col se,se.getD 3 0,()):=aaw hn0 hn1 hn2 Z (by lia);have hd:qc (aV J++[(col se,se.getD 3 0,())]):=⟨by rw[ab7];show(aV J).length+1<=5;omega,fun d hd=>by
  rcases acq.mp hd with h|h
  .exact L.dy.ok d h
  .rw[acF.mp h];exact hdy⟩
 refine aB (ak (bp (ak (bX (ab rfl au U.gg) (kQ (ck T (ab rfl au U.gg)) (bG (aI (jo (bX (aR Ti) (g3 U.gg rfl))) bu) sl1) ?_)) ⟨⟨L.rl,L.rm,L.xx⟩,hd.in_,wq hd L.tl L.ti,O⟩)) (fun c hc=>FG hc));exact adb (show(aV J).length+1<=5 by omega) (by decide)
end
end Cw
namespace My
open PySem PyProof.Rows PySem.AutoSeq1
def W3 (l:dr)(L:Array ee)(n:Nat)(b:dr)(J:Array ee)(U:Nat)(d2:Option dr)(O:Array (Option ee))(hs0:¬(!L.isEmpty&&Builtin.List.listTooLong (L.size+J.size))=true)(Z:L.size<=sizeLine)(Y:L.size+J.size<=sizeLine+1):
  Meets (Builtin.«list.extend» ⟨[.ref l,.ref b],[]⟩) (fun _ R s=>s.heap.get? l=some {cls:=.type "list",dict:=none,data:=.seq L n,slots:=#[]}/\s.heap.get? b=some {cls:=.type "tuple",dict:=d2,data:=.seq J U,slots:=O}/\R (.ok (.ret Value.none)) {s with heap:=s.heap.update l (Obj.mapSeq fun x=>x++J),toks:=s.toks}):=
 .of_wp fun prog w A R s h=>by
  obtain⟨M,hb,h⟩:=h;have f1:=idx_int
  wp_walk using(aeC M rfl),aeo M,aeo hb
  exact⟨_,rfl,h⟩
end My
namespace My
open PySem PySem.Spec PyProof.Rows L2
def Jg (K:b0):V->List V->Hp->VK->Prop:=fun x vs H Q=>∃l b xs zs,x=.ref l/\vs=[.ref b]/\H l=some (.lst xs)/\mO K H b zs/\xs.length+zs.length<=sizeLine/\Q .iB (upd H l (.lst (xs++zs)))
def P4 (K:b0)(hK:X.K=K:=by rfl):MtM X "list.extend" (Jg K):=by
 intro _ s σ H x vs v us Q I Y Z h;subst hK;obtain⟨l,b,xs,zs,rfl,rfl,O,hB,hz,q⟩:=h;subst Y;obtain⟨u,rfl,ru⟩:=Z.one;subst ru;obtain⟨z,its,n,r,hl,e⟩:=I.Bv O;obtain⟨J,r2,⟨o2,e2,c2,n2,d2⟩,z2⟩:=I.tuple hB;obtain⟨cl,dd,dt,U⟩:=o2;subst c2 d2;have hl2:=r2.length;have M:its.toArray.size+J.toArray.size<=sizeLine:=by simp_all
 have L:¬(!its.toArray.isEmpty&&Builtin.List.listTooLong (its.toArray.size+J.toArray.size))=true:=by
  rw[wZ M,aaP];decide
 refine adU aa3 ⟨_,e,rfl⟩ aa1 (aa0 _ _)
  (My.W3 l _ n b _ n2 dd U L (by lia) (by lia)) ⟨e,e2, ?_⟩
 refine⟨.iB,_,I.Mu O e (by simp) (r.append r2) ?_,rfl,q⟩
 simp_all
section
variable {σ:L2.St}{G H:Hp}{K:b0}{a b c:Type}{D:Ends}
def OZ (M:σ[j]?=some (some (.ref p)))(J:H p=some (.lst vs))(L:vs.length+2<=sizeLine)(s:Sub G H)(h:RE te σ G H (gE K R R) (x,y))
  (k:∀us G' H',Ext G H G' H'->Paired (R G') us [x,y]->D.nx σ (upd H' p (.lst (vs++us)))):wt (Rq K "list" (Jg K) (cc j) (bO te fV)) D σ H:=
 ⟨_,M,.inl ⟨rfl,_,dh.of J⟩,h G H (Ext.refl s) _ fun v G' H' e ⟨b,u,w,U,O,h1,h2⟩=>xi4 p b vs [u,w] ⟨rfl,by rw[U],e.hh _ _ J,aE.tup e.gh.at_ O,L,k _ G' H' e (.cons h1 (.cons h2 .nil))⟩⟩
def Q7 (s:Sub G H)(h1:RE ta σ G H (ag R) xs)(h2:RE tb σ G H (ag R) ys)(U:xs.length+ys.length<=sizeLine)(k:∀p vs G' H',Ext G H G' H'->Paired (R G') vs (xs++ys)->H' p=none->u D (σ.set i (some (.ref p))) (upd H' p (.lst vs)))(mo0:aK R:=by infer_instance):rC (tp (il VW ta tb) (i5 i)) u D σ H:=
 h1 G H (Ext.refl s) _ fun v G1 H1 Z ⟨p,vs,ev,hp,pr⟩=>h2 G1 H1 Z _ fun u G2 H2 L ⟨p2,M,Y,O,J⟩=>
  xi4 p p2 vs M ⟨ev,Y,L.gh _ _ (L.gg _ _ hp),L.gh _ _ O,by rw[aw pr,aw J];exact U,fun l U=>k l _ G2 H2 (Z.trans L) (dR (aq L.gg pr) J) U⟩
def RLen:Rp Int:=fun G v n=>∃p vs,v=.ref p/\G p=some (.lst vs)/\(vs.length:Int)=n
instance:aK RLen:=⟨fun s ⟨p,vs,e,h,q⟩=>⟨p,vs,e,s _ _ h,q⟩⟩
def wG (h:RE te σ G H (ag R) xs):RE te σ G H RLen (xs.length:Int):=R8 (by rintro _ _ ⟨p,vs,e,h,q⟩;exact ⟨p,vs,e,h,by rw[aw q]⟩) h
def VR (h:RA ta σ G H (AC RLen A0) (n,())):RE (CU (fun xs H Q=>∃p ys,xs=[.ref p]/\(dh K H p ys\/mO K H p ys)/\Q (.int ys.length) H) ta) σ G H af n:=fun G' H' e Q q=>
 h G' H' e _ fun vs Z H1 J ⟨v,r,Y,⟨p,us,O,L,M⟩,U⟩=>by
  subst Y O;subst U;refine⟨p,us,rfl,.inl (dh.of (J.gh _ _ L)),q _ _ _ J ?_⟩
  show V.int _=V.int _
  rw[M]
end
end My
namespace Cw
open PySem PySem.Spec PyProof.Rows L2 My
def tM (st:aC)(g:hA):hA:=me st g fun r=>[r.1,r.2.1,(r.2.2.1.length:Int),(r.2.2.2.1.length:Int)]++(r.2.2.1++r.2.2.2.1).flatMap fun d=>[d.1,d.2]
def F3 (st:aC):hA:=[dE st,jI st,di st]++[((aV st).length:Int),((cM st).length:Int),((aA st).length:Int),((bV st).length:Int)]
section
variable {P:dn}{w:fx}{K:b0}{mg:gp}{base:Heap}{t:jC}
abbrev mD:Df:=⟨"tell_state",132,["state","given"],fun K t=>fz 2 (AC (aU K t) (AC (ag af) A0)) (fun _=>True) (ag af) (fun x=>F3 x.1)⟩
def mj:dP ["state","given","rows","row"] mD:=by walk_at"s"
def Dm (F:bh K mD f fd)(T:Txt K mg t):dO P w K mg base t 1 f fd mD:=by
 refine mT F mj fun H Z=>⟨_,(aa (dC 2 mj.nd (az (gG (aF K aN) (cD (aF K aN) (aF K aN) (aF K aN))))) (ae (aj (bc jD (az (cD (aF K aN) (aF K aN) (aF K aN))) (gK (own:=[("row",3)]) rfl mj.nd (rP K bP) (bC (by rfl)) (fun _ _ _ _ _=>(iZ 3 mj.nd)) (fun _ _ _ _ _=>c6) (fun _ _ _ _ _=>(nD T dJ))))))),fun G L se bA bI Y J ay hp=> ?_⟩
 refine bQ (bG (aI (wG (ck T (aR J))) (aI (wG (eh T (aR J))) (aI (wG (aQ T (aR J))) (aI (wG (ei T (aR J))) bu)))) sl4) fun Rc G1 H1 M Lk=> ?_
 refine RS.eq (aB (kQ (bG (aI (bK T (ab rfl J M.gg)) (aI (my T (ab rfl J M.gg)) (aI (d5 T (ab rfl J M.gg)) bu))) sl3) (eT (bD (aR Lk)) (show 4 < sizeLine by decide) fun z U x G6 H6 e6 O=>⟨_,cE,rfl,VR (by walk_at"re")⟩) sl7)) rfl
abbrev j_:Df:=⟨"look_at_room",161,["state","given"],fun K t=>fz 2 (AC (aU K t) (AC (ag af) A0)) (fun x=>jT x.1/\aW 1 x.2.1) (ag af) (fun x=>tM x.1 x.2.1)⟩
def jV:dP ["state","given","room","told","span"] j_:=by walk_at"s"
def ze (F:bh K j_ f fd)(T:Txt K mg t):dO P w K mg base t 1 f fd j_:=by
 refine mT F jV fun H hr=>⟨_,(aa (a_ (ka iG (cW (dZ K) bz ai) (nD T (aF K aN))) (ae (aj (az (aG (g8 T.dY rfl))))) aD) (aa (dC 2 jV.nd (cW (dZ K) (aF K aN) (cW (dZ K) bz ai))) (aa (dC 3 jV.nd (az (gG (aF K bP) (cD (aF K bP) (nD T (aF K bP)) (nD T (aF K bP)))))) (aa (ek adF rfl (rP K (bc jD (aF K bP) (aF K bP))) (iZ 4 jV.nd) (ae (bS (lP K adI adL (P4 K) dJ (aG lO))))) (ae (aj dJ)))))),fun G J se bA bI hs au ay hp=> ?_⟩
 try dsimp only at hp
 obtain⟨p1,p2⟩:=hp;obtain⟨Y,hn,hn2⟩:=bf p2 (i:=0) (by decide);refine RS.eq (x:=if decide (((aA J).length:Int)<=se.getD 0 0) then[-2] else(match(aA J)[(se.getD 0 0).toNat]? with|none=>[]|some r=>[r.1,r.2.1,(r.2.2.1.length:Int),(r.2.2.2.1.length:Int)]++(r.2.2.1++r.2.2.2.1).flatMap fun d=>[d.1,d.2])) (bj (dj (g7 (aJ (aR ay) ao (by decide) Y) (dc (bp (aQ T (aR au)))))) (fun _=>aB (cQ (i:= -2))) (fun hc=> ?_)) rfl;have U:(se.getD 0 0).toNat < (aA J).length:=by
  have:=ad_ hc
  omega
 have hd:(aA J)[(se.getD 0 0).toNat]?=some (aA J)[(se.getD 0 0).toNat]:=abX U;have cK:dM (aA J)[(se.getD 0 0).toNat]:=p1.rm _ (ab5 U);rw[hd];refine bQ (R:=eF K t) (aJ (aQ T (aR au)) (aJ (aR ay) ao (by decide) Y) hn hd) fun lR G9 H9 e9 M=> ?_
 generalize (aA J)[(se.getD 0 0).toNat]=r at cK M;have hl:(r.2.2.1++r.2.2.2.1).length<=10:=by
  have:=cK.nd
  have:=cK.ns
  rw[ab7];lia
 intro G0 H0 O D kD;refine FA O.gh (R:=af) (aI (dm T (ab rfl M O.gg)) (aI (gu T (ab rfl M O.gg)) (aI (dc (bp (iA T (ab rfl M O.gg)))) (aI (dc (bp (iz T (ab rfl M O.gg)))) bu)))) sl4 fun p vs0 G1 H1 Z r1 hq=> ?_
 have g1:G1 p=none:=Z.gh.free hq;have e01:Ext G0 H0 G1 (upd H1 p (.lst vs0)):=Z.trans (Ext.own Z.gh hq);have hp0:H0 p=none:=Z.hh.free hq;have s1:aE G9 G1:=O.gg.trans Z.gg;refine jY (R:=af) (fun acc (d:Int×Int)=>acc++[d.1,d.2]) (fun L=>∃t2,L=[some bA,some bI,some lR,some (.ref p),t2]) e01.gh g1 ah r1 ⟨_,rfl⟩ (bD (kQ (iA T (ab rfl M s1)) (iz T (ab rfl M s1)) ?_)) ?_ ?_
 .rw[ab7] at hl;exact adb hl (by decide)
 .rintro G2 i s acc hz ha L G' H' A vB iY;obtain⟨t2,rfl⟩:=A.sh;obtain⟨vs,k1,k2⟩:=A.at_;refine OZ (R:=af) (x:=s.1) (y:=s.2) rfl k1 ?_ A.ex.gh (aR iY) fun us G6 H6 e6 r6=> ?_
  .rw[aw k2,ha,cC];have h2:=ir (m:=2) (f:=fun d:Int×Int=>[d.1,d.2]) ((r.2.2.1++r.2.2.2.1).take i) fun z _=>ac_ _
   rw[ach] at h2;rw[ab7];simp only[ab8,acb];exact adb (show _<=3000 by omega) (by decide)
  .exact⟨G6,A.grow e6 ⟨_,rfl⟩ (dR (aq e6.gg k2) r6)⟩
 .rintro G2 L G' H' A;obtain⟨t2,rfl⟩:=A.sh;obtain⟨G5,e5,r5⟩:=A.done e01 hp0;rw[cC] at r5;exact⟨_,rfl,kD _ G5 H' e5 r5⟩
abbrev mJ:Df:=⟨"tell_least",88,["state","given"],fun K t=>fz 2 (AC (aU K t) (AC (ag af) A0)) (fun x=>jT x.1/\aW 3 x.2.1) (ag af) (fun x=>wL x.1 x.2.1)⟩
def fh:dP ["state","given","colour","prices","dye","mix","answer","number","amount"] mJ:=by walk_at"s"
def Du (F:bh K mJ f fd)(T:Txt K mg t)(jS:aL P w K mg base t 1 l0)(d_:aL P w K mg base t 1 gz)(ma:aL P w K mg base t 5 kn)(bW:aL P w K mg base t 1 d8)(cH:aL P w K mg base t 1 eZ):dO P w K mg base t 6 f fd mJ:=by
 refine mT F fh fun H hr=>⟨_,(aa (dC 2 fh.nd (fw (r_ K) rfl T.n9 oX (aG bz))) (aa (a_ (fJ (de (bJ cH hr (aG bP)))) (ae (aj (az (aG (g8 T.bN rfl))))) aD) (aa (qK (i:=3) (own:=[("dye",4)]) rfl fh.nd rfl rfl (uI rfl rfl rfl rfl) (rP K (aF K aN)) (bC (by rfl)) (fun _ _ _ _ _=>(iZ 4 fh.nd)) (fun _ _ _ _ _=>c6) (fun _ _ _ _ _=>(aF K lO))) (aa (dC 5 fh.nd (bJ ma hr (cD (bJ bW hr (aG aN)) dJ bP))) (aa (a_ (ej (gv uQ)) (ae (aj (az (aG (g8 T.lN rfl))))) aD) (aa (dC 6 fh.nd (bc jD (az (aG (nD T (aF K uQ)))) (bJ jS hr (aY (bJ d_ hr (aY uQ dJ)) (aF K uQ))))) (aa (ek adF rfl (piZ K rfl T.K4 (aY (aF K uQ) (aF K uQ))) (Sr K (n:=2) rfl (cF (iZ 7 fh.nd) (cF (iZ 8 fh.nd) kX))) (aa (bS (lP K adH adK gM Pz (aG VY))) (ae (bS (lP K adI adL fP Pz (aG (bJ jS hr (aY (pv 8) (aF K uQ))))))))) (ae (aj Pz))))))))),fun G J se bA bI hs au ay hp=> ?_⟩
 try dsimp only at hp
 try dsimp only[je,rd]
 obtain⟨p1,p2⟩:=hp;obtain⟨ge,g1,g2,g3⟩:=BS p2;obtain⟨d1,d2⟩:=oa p1;have dl:(aV J).length<=1000:=adb p1.dy.len (by decide);rw[ge] at ay;refine bQ (R:=g6 K) (x:=col se) (lU (bp (aR ay))) fun Lj G1 H1 e1 vx=> ?_
 refine RS.eq (y:=wL J se) (bj (d:= !dG (col se)) (fB (bZ (ak (x:=(col se,())) (bp (aR vx)) trivial))) (fun _=>aB (cQ (i:= -22))) (fun hc=> ?_)) rfl;have M:=yn p2 (by simpa using hc);have Z:(bT (aV J)).length=(bw (aV J)).length/\ ∀y∈bT (aV J),0<=y/\y<=1000:=⟨by delta bT bw;rw[aca,aca],fun y hy=>by
  obtain⟨d,hd,rfl⟩:=acA.mp hy;exact(p1.dy.ok d hd).pr⟩
 refine bQ (R:=ag af) (x:=bT (aV J)) (eT (Rz:=u9 K t) (zs:=aV J) (f:=fun d:qE=>d.2.1) (bD (ck T (ab rfl au e1.gg))) (adf dl (by decide)) fun z hz x G6 H6 e6 Y=>⟨_,cE,rfl,kT T (ab rfl Y sr)⟩) fun YY G2 H2 e2 O=> ?_
 refine bQ (R:=jA (xF K t)) (ak (fY (ak (x:=(J,())) (bp (ab rfl au (e1.gg.trans e2.gg))) dl) (aR O) (ab rfl vx e2.gg)) ⟨d1,d2,M.S_ (by decide),Z⟩) fun Y0 G3 H3 e3 Tn=> ?_
 cases hm:eM (bw (aV J)) (bT (aV J)) (col se) with
 |none=>
  rw[hm] at Tn;exact RS.eq (y:=[-33]) (x:=if true then[-33] else[]) (bj (d:=true) (RT.eq (bZ (bL (aR Tn))) rfl) (fun _=>aB (cQ (i:= -33))) (fun h=>by nomatch h)) rfl
 |some m=>
  rw[hm] at Tn;obtain⟨L,mo⟩:=Co p1.dy M hm;have D5:xF K t G3 Y0 m:=Tn.2;have hw:0 < m.2.2.1/\m.2.2.1 < 2^2000:=⟨L.wh.1,abi L.wh.2 (by decide+kernel)⟩
  refine RS.eq (x:=if false then[] else Sj m (bT (aV J))) (bj (d:=false) (RT.eq (bZ (bL (aR Tn))) rfl) (fun h=>by contradiction) (fun _=> ?_)) rfl;intro G0 H0 e0 D kD;refine Q7 e0.gh (R:=af) (xs:=[(m.1.length:Int)]) (bG (aI (dc (bp (oG T (ab rfl D5 e0.gg)))) bu) sl1) (ak (bX (ak (bX (ab rfl D5 e0.gg) (ab rfl O (e3.gg.trans e0.gg))) ⟨mo.l1,fun y hy=>by have:=mo.ix y hy;rw[Z.1];delta bw;rw[aca];exact this,Z.2⟩) (jq T (ab rfl D5 e0.gg))) ⟨L.cost.1,hw⟩) sl3 fun p vs0 G4 H4 e4 r4 hq=> ?_
  have g4:G4 p=none:=e4.gh.free hq;have e04:Ext G0 H0 G4 (upd H4 p (.lst vs0)):=e4.trans (Ext.own e4.gh hq);have hp0:H0 p=none:=e4.hh.free hq;have s4:aE G3 G4:=e0.gg.trans e4.gg
  show qe _ _ _ _ _ _
  refine jY (R:=af) (zs:=m.1.zip m.2.1) (Rz:=gE K af af) (fun acc (d:Int×Int)=>acc++(d.1::cR d.2 m.2.2.1)) (fun U=>∃t4 t7 t8,U=[some bA,some bI,some Lj,some YY,t4,some Y0,some (.ref p),t7,t8]) e04.gh g4 ah r4 (xi3 _ _ _ rfl) (R0 (bX (oG T (ab rfl D5 s4)) (ve T (ab rfl D5 s4)))) ?_ ?_
  .rintro G5 i s acc hz ha U G' H' A vB ⟨q,u1,u2,rfl,hq1,hu1,hu2⟩;obtain⟨t4,t7,t8,rfl⟩:=A.sh;obtain⟨vs,k1,k2⟩:=A.at_;have hsh:=L.sh s.2 (acN (acB (a:=s) (by rw[hz]))).2;have hlen:acc.length<=100:=by
    rw[ha,cC];have h2:=ir (m:=3) (f:=fun d:Int×Int=>d.1::cR d.2 m.2.2.1) ((m.1.zip m.2.1).take i) fun z _=>ac_ _
    rw[ach,aci] at h2;have:=mo.l1
    rw[ab7]
    show 1+2+_<=100
    omega
   have hv:vs.length<=100:=by rw[aw k2];exact hlen
   refine mi (aE.tup A.ex.gh.at_ hq1) _ ?_;refine kF (R:=af) (x:=s.1) rfl k1 (adf hv (by decide)) A.ex.gh (aR hu1) fun v6 G6 H6 e6 Y=> ?_
   have A6:=A.grow e6 (σ5:=[some bA,some bI,some Lj,some YY,t4,some Y0,some (.ref p),some u1,some u2]) (xi3 _ _ _ rfl) (vs:=vs++[v6]) (acc':=acc++[s.1]) (Paired.snoc (aq e6.gg k2) Y);refine mP (R:=af) (xs:=cR s.2 m.2.2.1) rfl ah ?_ A6.ex.gh (ak (x:=(s.2,m.2.2.1,())) (bX (ab rfl hu2 e6.gg) (jq T (ab rfl D5 (s4.trans A6.ex.gg)))) ⟨hsh.1,hw⟩) fun us G7 H7 e7 r7=> ?_
   .rw[ab7];exact adb (show _<=200 by show vs.length+1+2<=200;lia) (by decide)
   .refine⟨G7, ?_⟩;have A7:=A6.grow e7 (σ5:=[some bA,some bI,some Lj,some YY,t4,some Y0,some (.ref p),some u1,some u2]) (xi3 _ _ _ rfl) (vs:=vs++[v6]++us) (dR (aq e7.gg (Paired.snoc (aq e6.gg k2) Y)) r7);rw[abz acc] at A7;exact A7
  .rintro G5 U G' H' A;obtain⟨t4,t7,t8,rfl⟩:=A.sh;obtain⟨G6,e6,Y⟩:=A.done e04 hp0;rw[cC] at Y;exact⟨_,rfl,kD _ G6 H' e6 Y⟩
end
end Cw
namespace My
open PySem PySem.Spec PyProof.Rows L2 Cw
section
variable {a b c:Type}{K:b0}{σ:L2.St}{H0 G0 G H G' H':Hp}{D:Ends}
structure Cell (R:Rp a)(H0 G H:Hp)(p:dr)(xs:List a):Prop where
 f0:H0 p=none
 gn:G p=none
 at_:∃us,H p=some (.lst us)/\Paired (R G) us xs
def Cell.later (c:Cell R H0 G H p xs)(e:Ext G H G' H')(J:aK R:=by infer_instance):Cell R H0 G' H' p xs:=by
 obtain⟨us,h,q⟩:=c.at_;exact⟨c.f0,e.keeps h c.gn,us,(e.hh _ _ h).is trivial,aq e.gg q⟩
def Cell.fF (c:Cell R H0 G H p xs)(n:p≠q):Cell R H0 G (upd H q o) p xs:=by
 obtain⟨us,h,r⟩:=c.at_;exact⟨c.f0,c.gn,us,by rw[ax n];exact h,r⟩
def Cell.now (c:Cell R H0 G H p xs)(r:Paired (R G) us ys):Cell R H0 G (upd H p (.lst us)) p ys:=⟨c.f0,c.gn,us,ah,r⟩
def Cell.mono (c:Cell R H0 G H p xs)(s:aE G G')(g:G' p=none)(J:aK R:=by infer_instance):Cell R H0 G' H p xs:=by
 obtain⟨us,h,q⟩:=c.at_;exact⟨c.f0,g,us,h,aq s q⟩
def Cell.ne (c:Cell R H0 G H p xs)(h:H q=some (.ins C dx fs)):p≠q:=fun e=>by
 obtain _:=c.at_
 lia
def Sub.put (s:Sub G H)(g:G p=none)(h:H p=some u)(n:NT u:=by exact True.intro):Sub G (upd H p o):=⟨fun b v q=>by rw[ax (aS q g)];exact s.at_ b v q,s.gt,s.tab.put h n⟩
def kP (h:RE te σ G H RV v)(L:∀G',aE G G'->R G' v x):RE te σ G H R x:=fun M H1 e Q q=>h M H1 e _ fun u O H2 J r=>q _ _ _ J (by rw[show u=v from r];exact L _ (e.gg.trans J.gg))
def a0 (L:σ[i]?=some (some (.ref p)))(O:H p=some (.ins C dx fs))(cl:uD K C)(J:bY K C f)(M:fs.lookup f=some u):RE (jF K (cc i) f) σ G H RV u:=fun U H1 e Q q=>
 ⟨.ref p,L,p,C,dx,fs,u,rfl,(e.hh _ _ O).is trivial,cl,J,M,q _ _ _ (Ext.refl e.gh) rfl⟩
def zC (J:σ[i]?=some (some v)):RE (cc i) σ G H RV v:=fun L H1 e Q q=>⟨v,J,q _ _ _ (Ext.refl e.gh) rfl⟩
def mw (h:RA ta σ G H (AC RV A0) (.ref q,()))(M:H q=some (.lst us)):RE (CU (fun xs H Q=>∃p ys,xs=[.ref p]/\(dh K H p ys\/mO K H p ys)/\Q (.int ys.length) H) ta) σ G H af us.length:=fun Y H1 e Q k=>
 h Y H1 e _ fun vs Z H2 J ⟨v,r,U,L,O⟩=>by
  subst U;subst L;subst O;exact⟨q,us,rfl,.inl (dh.of (((e.trans J).hh _ _ M).is trivial)),k _ _ _ J rfl⟩
def F1 (h:RE ta σ G H RV (.ref q))(h2:RE tb σ G H af i)(U:H q=some (.lst us))(h0:0<=i)(O:us[i.toNat]?=some u):RE (il (gF K) ta tb) σ G H RV u:=fun Z H1 e Q k=>
 h Z H1 e _ fun v Y H2 J r2=>h2 Y H2 (e.trans J) _ fun w G3 H3 L M=>
  xi4 q us i u ⟨r2,M,dh.of ((((e.trans J).trans L).hh _ _ U).is trivial),at_of (by lia) O,k _ _ _ (J.trans L) rfl⟩
def w_fld (s:Sub G H)(h:RE tv σ G H R x)(hi:σ[i]?=some (some (.ref p)))(L:H p=some (.ins C dx fs))(cl:uD K C)(J:bY K C f)(M:fs.length < 1000)(k:∀v G' H',Ext G H G' H'->R G' v x->u D σ (upd H' p (.ins C dx (nP f v fs)))):rC (FX K (cc i) tv f) u D σ H:=
 h G H (Ext.refl s) _ fun v O H1 e r=>⟨.ref p,hi,p,C,dx,fs,rfl,(e.hh _ _ L).is trivial,cl,J,M,k v O H1 e r⟩
def Q8 (s:Sub G H)(h:RE tv σ G H R x)(hi:σ[i]?=some (some (.ref p)))(L:H p=some (.ins C dx fs))(cl:uD K C)(J:bY K C f)(M:fs.length < 1000)(k:∀v G' H',Ext G H G' H'->R G' v x->D.nx σ (upd H' p (.ins C dx (nP f v fs)))):FX K (cc i) tv f D σ H:=
 h G H (Ext.refl s) _ fun v O H1 e r=>⟨.ref p,hi,p,C,dx,fs,rfl,(e.hh _ _ L).is trivial,cl,J,M,k v O H1 e r⟩
def rp (hi:σ[i]?=some (some (.ref p)))(L:H p=some (.ins C dx fs))(cl:uD K C)(M:bY K C f)(O:fs.length < 1000)(k:∀l,H l=none->u D σ (upd (upd H l (.lst [])) p (.ins C dx (nP f (.ref l) fs)))):rC (FX K (cc i) (FI fV) f) u D σ H:=
 ⟨adz _,fun l J=>⟨.ref p,hi,p,C,dx,fs,rfl,by rw[ax (aS L J)];simp[*]⟩⟩
def zy (hi:σ[i]?=some (some (.ref p)))(L:H p=some (.ins C dx fs))(cl:uD K C)(M:bY K C f)(O:fs.length < 1000)(k:∀l,H l=none->D.nx σ (upd (upd H l (.lst [])) p (.ins C dx (nP f (.ref l) fs)))):FX K (cc i) (FI fV) f D σ H:=
 ⟨adz _,fun l J=>⟨.ref p,hi,p,C,dx,fs,rfl,by rw[ax (aS L J)];simp[*]⟩⟩
def zW (s:Sub G H)(h:RE te σ G H R x)(U:RE to σ G H RV (.ref q))(hi:RE ti σ G H af i)(O:H q=some (.lst us))(Z:0<=i)(Y:i.toNat < us.length)
  (k:∀v G' H',Ext G H G' H'->R G' v x->u D σ (upd H' q (.lst (us.set i.toNat v)))) (mo:aK R:=by infer_instance):rC (tp te (aac to ti Sf)) u D σ H:=
 h G H (Ext.refl s) _ fun v G1 H1 e r=>U G1 H1 e _ fun o G2 H2 J r2=>hi G2 H2 (e.trans J) _ fun j G3 H3 L M=>
  xi4 q us i i.toNat ⟨r2,M,(((e.trans J).trans L).hh _ _ O).is trivial,N_ Z Y,k v G3 H3 ((e.trans J).trans L) (aK.mono (J.trans L).gg r)⟩
def uF (Y:RE to σ G H RV (.ref q))(U:H q=some (.lst vs))(O:vs.length+xs.length<=sizeLine)(s:Sub G H)(h:RE te σ G H (ag R) xs)
  (k:∀us G' H',Ext G H G' H'->Paired (R G') us xs->D.nx σ (upd H' q (.lst (vs++us)))):wt (Rq K "list" F2 to (bO te fV)) D σ H:=
 Y G H (Ext.refl s) _ fun o G1 H1 L M=>by
  subst M;have J:=(L.hh _ _ U).is trivial;exact⟨.inl ⟨rfl,_,dh.of J⟩,h G1 H1 L _ fun v G' H' e ⟨b,us,ev,Z,pr⟩=>xi4 q b vs us ⟨rfl,by rw[ev],(e.hh _ _ J).is trivial,e.gh _ _ Z,by rw[aw pr];exact O,k us G' H' (L.trans e) pr⟩⟩
end
end My
namespace Cw
open PySem PySem.Spec PyProof.Rows L2 My
def II (b:V)(r d w:Int)(a1 a2 a3 a4:dr):List (Str×V):=[("begun",b),("repeat",.int r),("drop",.int d),("wide",.int w),("dyes",.ref a1),("tints",.ref a2),("rooms",.ref a3),("rolls",.ref a4)]
section
variable {b:V}{r d w:Int}{a1 a2 a3 a4:dr}
def uW:(II b r d w a1 a2 a3 a4).lookup ("repeat":Str)=some (.int r):=rfl
def N4:(II b r d w a1 a2 a3 a4).lookup ("drop":Str)=some (.int d):=rfl
def Wu:(II b r d w a1 a2 a3 a4).lookup ("wide":Str)=some (.int w):=rfl
def uX:(II b r d w a1 a2 a3 a4).lookup ("dyes":Str)=some (.ref a1):=rfl
def qN:(II b r d w a1 a2 a3 a4).lookup ("tints":Str)=some (.ref a2):=rfl
def iX:(II b r d w a1 a2 a3 a4).lookup ("rooms":Str)=some (.ref a3):=rfl
def xf:(II b r d w a1 a2 a3 a4).lookup ("rolls":Str)=some (.ref a4):=rfl
structure sR (K:b0)(t:jC)(G0 H0 G H:Hp)(p dx a1 a2 a3 a4:dr)(st:aC):Prop where
 ex:Ext G0 H0 G H
 f0:H0 p=none
 gn:G p=none
 ob:H p=some (.ins t.cj dx (II (.bl st.1) st.2.1 st.2.2.1 st.2.2.2.1 a1 a2 a3 a4))
 c1:Cell (u9 K t) H0 G H a1 st.2.2.2.2.1
 c2:Cell (sO K t) H0 G H a2 st.2.2.2.2.2.1
 c3:Cell (eF K t) H0 G H a3 st.2.2.2.2.2.2.1
 c4:Cell (qb K t) H0 G H a4 st.2.2.2.2.2.2.2.1
 ne:a1≠a2/\a1≠a3/\a1≠a4/\a2≠a3/\a2≠a4/\a3≠a4
def At (K:b0)(t:jC)(G0 H0 G H:Hp)(v:V)(st:aC):Prop:=∃p dx a1 a2 a3 a4,v=.ref p/\sR K t G0 H0 G H p dx a1 a2 a3 a4 st
variable {K:b0}{t:jC}{G0 H0 G H G' H':Hp}{p dx:dr}{st:aC}
def sR.later (A:sR K t G0 H0 G H p dx a1 a2 a3 a4 st)(e:Ext G H G' H'):sR K t G0 H0 G' H' p dx a1 a2 a3 a4 st:=
 ⟨A.ex.trans e,A.f0,e.keeps A.ob A.gn,(e.hh _ _ A.ob).is trivial,A.c1.later e,A.c2.later e,A.c3.later e,A.c4.later e,A.ne⟩
abbrev zX (st:aC)(x:List qE):aC:=(st.1,st.2.1,st.2.2.1,st.2.2.2.1,x,st.2.2.2.2.2)
abbrev vA (st:aC)(x:List nv):aC:=(st.1,st.2.1,st.2.2.1,st.2.2.2.1,st.2.2.2.2.1,x,st.2.2.2.2.2.2)
abbrev dH (st:aC)(x:List cu):aC:=(st.1,st.2.1,st.2.2.1,st.2.2.2.1,st.2.2.2.2.1,st.2.2.2.2.2.1,x,st.2.2.2.2.2.2.2)
abbrev xM (st:aC)(x:List ji):aC:=(st.1,st.2.1,st.2.2.1,st.2.2.2.1,st.2.2.2.2.1,st.2.2.2.2.2.1,st.2.2.2.2.2.2.1,x,())
def sR.L8 (A:sR K t G0 H0 G H p dx a1 a2 a3 a4 st)(r:Paired (u9 K t G) us x):sR K t G0 H0 G (upd H a1 (.lst us)) p dx a1 a2 a3 a4 (zX st x):=by
 obtain⟨O,M,L,n4,Z,Y⟩:=A.ne;obtain⟨J,U,_⟩:=A.c1.at_;exact⟨A.ex.put A.c1.f0 A.c1.gn U,A.f0,A.gn,by rw[ax (Ne.symm (A.c1.ne A.ob))];exact A.ob,A.c1.now r,A.c2.fF O.symm,A.c3.fF M.symm,A.c4.fF L.symm,A.ne⟩
def sR.put2 (A:sR K t G0 H0 G H p dx a1 a2 a3 a4 st)(r:Paired (sO K t G) us x):sR K t G0 H0 G (upd H a2 (.lst us)) p dx a1 a2 a3 a4 (vA st x):=by
 obtain⟨O,n2,Z,M,L,Y⟩:=A.ne;obtain⟨J,U,_⟩:=A.c2.at_;exact⟨A.ex.put A.c2.f0 A.c2.gn U,A.f0,A.gn,by rw[ax (Ne.symm (A.c2.ne A.ob))];exact A.ob,A.c1.fF O,A.c2.now r,A.c3.fF M.symm,A.c4.fF L.symm,A.ne⟩
def sR.put3 (A:sR K t G0 H0 G H p dx a1 a2 a3 a4 st)(r:Paired (eF K t G) us x):sR K t G0 H0 G (upd H a3 (.lst us)) p dx a1 a2 a3 a4 (dH st x):=by
 obtain⟨n1,O,Z,M,Y,L⟩:=A.ne;obtain⟨J,U,_⟩:=A.c3.at_;exact⟨A.ex.put A.c3.f0 A.c3.gn U,A.f0,A.gn,by rw[ax (Ne.symm (A.c3.ne A.ob))];exact A.ob,A.c1.fF O,A.c2.fF M,A.c3.now r,A.c4.fF L.symm,A.ne⟩
def sR.ZC (A:sR K t G0 H0 G H p dx a1 a2 a3 a4 st)(r:Paired (qb K t G) us x):sR K t G0 H0 G (upd H a4 (.lst us)) p dx a1 a2 a3 a4 (xM st x):=by
 obtain⟨n1,Z,O,Y,M,L⟩:=A.ne;obtain⟨J,U,_⟩:=A.c4.at_;exact⟨A.ex.put A.c4.f0 A.c4.gn U,A.f0,A.gn,by rw[ax (Ne.symm (A.c4.ne A.ob))];exact A.ob,A.c1.fF O,A.c2.fF M,A.c3.fF L,A.c4.now r,A.ne⟩
def sR.VZ {b:Bool}(A:sR K t G0 H0 G H p dx a1 a2 a3 a4 st):sR K t G0 H0 G (upd H p (.ins t.cj dx (II (.bl b) r d w a1 a2 a3 a4))) p dx a1 a2 a3 a4 (b,r,d,w,st.2.2.2.2):=
 ⟨A.ex.put A.f0 A.gn A.ob,A.f0,A.gn,ah,A.c1.fF (A.c1.ne A.ob),A.c2.fF (A.c2.ne A.ob),A.c3.fF (A.c3.ne A.ob),A.c4.fF (A.c4.ne A.ob),A.ne⟩
def pX (c:Cell R H0 G H q xs)(e:Ext G0 H0 G H)(J:aK R:=by infer_instance):∃us,H q=some (.lst us)/\Ext G0 H0 (upd G q (.lst us)) H/\aE G (upd G q (.lst us))/\ag R (upd G q (.lst us)) (.ref q) xs:=by
 obtain⟨us,h,r⟩:=c.at_;exact⟨us,h,e.freeze c.f0 c.gn h,bB c.gn,q,us,rfl,ah,aq (bB c.gn) r⟩
def sR.freeze (A:sR K t G0 H0 G H p dx a1 a2 a3 a4 st):∃G',Ext G0 H0 G' H/\aE G G'/\aU K t G' (.ref p) st:=by
 obtain⟨n1,n2,n3,n4,n5,n6⟩:=A.ne;obtain⟨us1,h1,e1,U,r1⟩:=pX A.c1 A.ex;have c2:=A.c2.mono U (by rw[ax n1.symm];exact A.c2.gn);obtain⟨us2,h2,e2,O,r2⟩:=pX c2 e1;have c3:=A.c3.mono (U.trans O) (by rw[ax n4.symm,ax n2.symm];exact A.c3.gn);obtain⟨Z,h3,e3,M,r3⟩:=pX c3 e2;have c4:=A.c4.mono ((U.trans O).trans M) (by rw[ax n6.symm,ax n5.symm,ax n3.symm];exact A.c4.gn);obtain⟨Y,h4,e4,L,r4⟩:=pX c4 e3;have g5:(upd (upd (upd (upd G a1 (.lst us1)) a2 (.lst us2)) a3 (.lst Z)) a4 (.lst Y)) p=none:=by
  rw[ax (Ne.symm (A.c4.ne A.ob)),ax (Ne.symm (A.c3.ne A.ob)),ax (Ne.symm (A.c2.ne A.ob)),ax (Ne.symm (A.c1.ne A.ob))];exact A.gn
 have J:=bB (o:=.ins t.cj dx (II (.bl st.1) st.2.1 st.2.2.1 st.2.2.2.1 a1 a2 a3 a4)) g5;refine⟨_,e4.freeze A.f0 g5 A.ob,(((U.trans O).trans M).trans L).trans J,p,dx,[.bl st.1,.int st.2.1,.int st.2.2.1,.int st.2.2.2.1,.ref a1,.ref a2,.ref a3,.ref a4],rfl,ah,rfl, ?_⟩;exact⟨_,_,rfl,rfl,_,_,rfl,rfl,_,_,rfl,rfl,_,_,rfl,rfl,_,_,rfl,aK.mono (((O.trans M).trans L).trans J) r1,_,_,rfl,aK.mono ((M.trans L).trans J) r2,_,_,rfl,aK.mono (L.trans J) r3,_,_,rfl,aK.mono J r4,rfl⟩
end
end Cw
namespace My
open PySem PySem.Spec PyProof.Rows L2
def Kc (e:Ext G H G' H')(h:H q=some u)(g:G q=none)(n:NT u:=by exact True.intro):Ext G (upd H q o) G' (upd H' q o):=
 ⟨e.gg,fun b v z=>by
  by_cases m:b=q
  .subst m;rw[ah] at z;cases z;exact .of ah
  .rw[ax m] at z;exact(e.hh b v z).then fun o h=>.of (by rw[ax m];exact h),e.gh.put (e.keeps h g) ((e.hh _ _ h).is n) n,fun b J z=>e.fr b (fun w=>J (by
  have m:b≠q:=fun z=>by lia
  rw[ax m];exact w)) z⟩
end My
namespace Cw
open PySem PySem.Spec PyProof.Rows L2 My
structure CMt (P:dn)(w:fx)(K:b0)(mg:gp)(base:Heap)(k:Nat)(C:dr)(m:Str)(ps:ky)(sp:Sp):Prop where
 ex:∃f fd,uD K C/\Meth K C m f/\fA P w K mg base sQ k f fd ps sp/\Binds K fd ps []
def So (M:CMt X.prog X.w X.K X.mg X.base k C m ps sp)(U:fM k' X.A)(Z:k<=k')(he:PE X o ta)(ha:PA X (e::es) t)
  (J:starEach (e::es) X.env=(false,eval e X.env)::starEach es X.env:=by rfl) (L:(backTo pos (starEach es X.env)).any (·.1)=false:=by rfl)
  (O:eval (.Call (.Attribute o m apos) (e::es) [] pos) X.env=(do
   let ov <- eval o X.env
   standAt apos.atName
   let(g,h1) <- holding [ov] (getMethod ov m pl)
   callWith pos g h1 (backTo pos (starEach (e::es) X.env)) (backToKw pos (keywordEach [] X.env))):=by rfl):PE X (.Call (.Attribute o m apos) (e::es) [] pos) (Yb C m sp [] E0 ta t):=by
 obtain⟨f,fd,c,Y,F,hb⟩:=M.ex;exact V8 he c Y F (U.mono Z) hb .nil Jm ha J L O
def L_ (M:yY X.prog X.w X.K X.mg X.base k x C ps sp)(L:fM k' X.A)(U:k+1<=k')(Y:Gl X x)
  (J:(x==("__debug__":Str))=false:=by decide):PE X (.Call (.Name x p) [] [] pos) (Ez C sp [] E0 fV):=by
 obtain⟨f,fd,M,F,O,Z⟩:=M.ex;exact Ss M F (L.mono U) Y O Z .nil Jm J
def YI:Sp:=fun vs H Q _=>∃G q us m x,vs=[.ref q,.int m,x]/\Sub G H/\G q=none/\H q=some (.lst us)/\us.length<=1000/\(m<=us.length-> ∀v G' H',Ext G H G' H'->ag af G' v [-28]->Q v H')/\((us.length:Int) < m-> ∀v G' H',Ext G (upd H q (.lst (us++[x]))) G' H'->ag af G' v [(us.length:Int)]->Q v H')
def YH:Sp:=fun vs H Q _=>∃G q us n,vs=[.ref q,.int n]/\Sub G H/\G q=none/\H q=some (.lst us)/\0<=n/\n < 2^63/\((us.length:Int)<=n-> ∀v G' H',Ext G H G' H'->ag af G' v [-2]->Q v H')/\(n < us.length-> ∀v G' H',Ext G (upd H q (.lst (us.eraseIdx n.toNat))) G' H'->ag af G' v [(us.length:Int) - 1]->Q v H')
def sE (t:jC)(H H':Hp)(p dx:dr)(b:V)(r d w:Int):Prop:=∃a1 a2 a3 a4,H' p=some (.ins t.cj dx (II b r d w a1 a2 a3 a4))/\(H a1=none/\H a2=none/\H a3=none/\H a4=none)/\(a1≠a2/\a1≠a3/\a1≠a4/\a2≠a3/\a2≠a4/\a3≠a4)/\(H' a1=some (.lst [])/\H' a2=some (.lst [])/\H' a3=some (.lst [])/\H' a4=some (.lst []))/\ ∀c o,c≠p->H c=some o->H' c=some o
def xD (t:jC):Sp:=fun vs H Q _=>∃p dx b fs r d w,vs=[.ref p,.int r,.int d,.int w]/\H p=some (.ins t.cj dx fs)/\(fs=[(("begun":Str),b)]\/ ∃r' d' w' a1 a2 a3 a4,fs=II b r' d' w' a1 a2 a3 a4)/\ ∀H',sE t H H' p dx b r d w->Q .iB H'
def xE (t:jC):Sp:=fun vs H Q _=>∃p dx,vs=[.ref p]/\H p=some (.ins t.cj dx [])/\ ∀H',sE t H H' p dx (.bl false) 1 0 1->Q .iB H'
section
variable {P:dn}{w:fx}{K:b0}{mg:gp}{base:Heap}{t:jC}
abbrev ic:Df:=⟨"add_one",31,["row","most","new"],fun _ _=>YI⟩
def LU:dP ["row","most","new"] ic:=by walk_at"s"
def Mh (F:bh K ic f fd)(T:Txt K mg t):dO P w K mg base t 1 f fd ic:=by
 refine F.ok LU (fun vs H Q E h=> ?_) (fun cdv A' outer s H vs Q E hr h=> ?_)
 .obtain⟨_,_,_,_,_,rfl,_⟩:=h;rfl
 .refine⟨_,(aa (a_ (ka iG (nD T aN) bz) (ae (aj (az (aG (g8 T.FULL rfl))))) aD) (aa (bS (lP K adH adK gM aN (aG bP))) (ae (aj (az (aG (bc qt (nD T aN) ai))))))), ?_⟩;obtain⟨G,q,us,m,x,rfl,sm,Z,L,hz,k1,k2⟩:=h;have Y:∀{G:Hp} {ys:List V} {H1:Hp},H1 q=some (.lst ys)->RE (CU (fun xs H Q=>∃p ys,xs=[.ref p]/\(dh K H p ys\/mO K H p ys)/\Q (.int ys.length) H) (bO (cc 0) fV)) [some (V.ref q),some (V.int m),some x] G H1 af (ys.length:Int):=fun h=>mw (bp (zC rfl)) h
  refine eR sm (dj (g7 (Y L) (ab rfl rfl sr))) (fun hc G1 H1 J=> ?_) (fun hc G1 H1 J=> ?_)
  .exact cf J.gh cQ fun v U H2 O r2=>k1 (aea hc) v U H2 (J.trans O) r2
  .have M:(us.length:Int) < m:=by have:=ad_ hc;lia
   have g1:=J.keeps L Z;refine kF rfl ((J.hh _ _ L).is trivial) (adf hz (by decide)) J.gh (zC rfl) fun v U H2 O r2=> ?_
   cases r2;have eP:Ext G (upd H q (.lst (us++[x]))) U (upd H2 q (.lst (us++[x]))):=Kc (J.trans O) L Z;refine cf eP.gh (bG (aI (tH (Y ah) ao) bu) sl1) fun v G3 H3 e3 r3=>k2 M v G3 H3 (eP.trans e3) ?_
   have e9:((us++[x]).length:Int) - 1=(us.length:Int):=by rw[ab7];show((us.length+1:Nat):Int) - 1=_;lia
   rwa [e9] at r3
abbrev fq:Df:=⟨"remove_one",32,["row","number"],fun _ _=>YH⟩
def Dd:dP ["row","number"] fq:=by walk_at"s"
def DC (F:bh K fq f fd)(T:Txt K mg t):dO P w K mg base t 1 f fd fq:=by
 refine F.ok Dd (fun vs H Q E h=> ?_) (fun cdv A' outer s H vs Q E hr h=> ?_)
 .obtain⟨_,_,_,_,rfl,_⟩:=h;rfl
 .refine⟨_,(aa (a_ (ka iG bz (nD T aN)) (ae (aj (az (aG (g8 T.dY rfl))))) aD) (aa (bS (lP K adJ adM SJ aN (aG bz))) (ae (aj (az (aG (nD T aN))))))), ?_⟩;obtain⟨G,q,us,n,rfl,sm,gq,L,h0,h63,k1,k2⟩:=h;have U:∀{G:Hp} {ys:List V} {H1:Hp},H1 q=some (.lst ys)->RE (CU (fun xs H Q=>∃p ys,xs=[.ref p]/\(dh K H p ys\/mO K H p ys)/\Q (.int ys.length) H) (bO (cc 0) fV)) [some (V.ref q),some (V.int n)] G H1 af (ys.length:Int):=fun h=>mw (bp (zC rfl)) h
  refine eR sm (dj (g7 (ab rfl rfl sr) (U L))) (fun hc Z H1 J=> ?_) (fun hc Z H1 J=> ?_)
  .exact cf J.gh cQ fun v G2 H2 e2 r2=>k1 (aea hc) v G2 H2 (J.trans e2) r2
  .have M:n < us.length:=by have:=ad_ hc;lia
   have h1:=(J.hh _ _ L).is trivial;have O:seqIndex? n us.length=some n.toNat:=by
    have h9:¬n < 0:=by lia
    simp[seqIndex?,h9];lia
   obtain⟨y,hy⟩:∃y,us[n.toNat]?=some y:=⟨_,abX (by omega)⟩
   have Y:Ext G (upd H q (.lst (us.eraseIdx n.toNat))) Z (upd H1 q (.lst (us.eraseIdx n.toNat))):=Kc J L gq;refine⟨_,rfl,.inl ⟨rfl,_,dh.of h1⟩,_,rfl, ?_⟩;refine xi5 q us n n.toNat y ⟨rfl,rfl,h1,by lia,by omega,O,hy, ?_⟩;refine cf Y.gh (bG (aI (U ah) bu) sl1) fun v G3 H3 e3 r3=>k2 M v G3 H3 (Y.trans e3) ?_
   have e9:((us.eraseIdx n.toNat).length:Int)=(us.length:Int) - 1:=by
    rw[List.length_eraseIdx_of_lt (by omega)];lia
   rwa [e9] at r3
end
def grown (J:H p=some u)(L:H l=none):l≠p/\(upd (upd H l (.lst [])) p o) p=some o/\(upd (upd H l (.lst [])) p o) l=some (.lst [])/\ ∀c,c≠p->c≠l->(upd (upd H l (.lst [])) p o) c=H c:=by
 have n:l≠p:=fun z=>by lia
 exact⟨n,ah,by rw[ax n,ah],fun c h1 h2=>by rw[ax h1,ax h2]⟩
def rD (h3:H3 p=some u)(hk:∀c,c≠p->H3 c=H c)(n1:H3 l1=none)(n2:(upd (upd H3 l1 (.lst [])) p o1) l2=none)(n3:(upd (upd (upd (upd H3 l1 (.lst [])) p o1) l2 (.lst [])) p o2) l3=none)(U:(upd (upd (upd (upd (upd (upd H3 l1 (.lst [])) p o1) l2 (.lst [])) p o2) l3 (.lst [])) p o3) l4=none)
  (e:o4=.ins t.cj dx (II b r d w l1 l2 l3 l4)):sE t H (upd (upd (upd (upd (upd (upd (upd (upd H3 l1 (.lst [])) p o1) l2 (.lst [])) p o2) l3 (.lst [])) p o3) l4 (.lst [])) p o4) p dx b r d w:=by
 obtain⟨m1,p1,q1,k1⟩:=grown h3 n1;generalize upd _ p o1=H4 at*;obtain⟨m2,p2,q2,k2⟩:=grown p1 n2;generalize upd _ p o2=H5 at*;obtain⟨m3,p3,q3,k3⟩:=grown p2 n3;generalize upd _ p o3=H6 at*;obtain⟨m4,p4,q4,k4⟩:=grown p3 U;have J:∀{A:Hp} {x y:dr} {us:List V},A x=some (.lst us)->A y=none->x≠y:=fun h1 h2 z=>by rw[z,h2] at h1;contradiction
 have O:=J q1 n2;have q12:H5 l1=some (.lst []):=by rw[k2 l1 m1 O];exact q1
 have n13:=J q12 n3;have M:=J q2 n3;have Z:H6 l1=some (.lst []):=by grind
 have Y:H6 l2=some (.lst []):=by rw[k3 l2 m2 M];exact q2
 have n24:=J Y U;have L:=J q3 U;subst e;refine xi4 l1 l2 l3 l4 ⟨p4,⟨?_, ?_, ?_, ?_⟩,⟨O,n13,(J Z U),M,n24,L⟩,⟨?_, ?_, ?_,q4⟩,fun c o hc h=> ?_⟩
 .rw[<- hk l1 m1];exact n1
 .grind
 .grind
 .grind
 .grind
 .grind
 .rw[k4 l3 m3 L];exact q3
 .grind
section
variable {P:dn}{w:fx}{K:b0}{mg:gp}{base:Heap}{t:jC}
abbrev FU:Stmt:=inClass (top 49) 1
def RJ:dN ["self","repeat","drop","wide"] ["self","repeat","drop","wide"] (aO FU):=by walk_at"s"
abbrev Ru (K:b0)(t:jC):Sp:=xD t
def Sx (F:yW K "start" "State.start" FU f fd)(T:Txt K mg t):fA P w K mg base sQ 1 f fd ["self","repeat","drop","wide"] (Ru K t):=by
 refine F.ok RJ (fun vs H Q E h=> ?_) (fun cdv A' outer s H vs Q E hr h=> ?_)
 .obtain⟨_,_,_,_,_,_,_,rfl,_⟩:=h;rfl
 .refine⟨_,(aa (c9 K aN bz) (aa (c9 K aN bP) (aa (c9 K aN dJ) (aa (c9 K aN (az eU)) (aa (c9 K aN (az eU)) (aa (c9 K aN (az eU)) (ae (c9 K aN (az eU))))))))), ?_⟩;obtain⟨p,dx,b,fs,r,d,w0,rfl,U,hf,k⟩:=h
  rcases hf with rfl|⟨r',d',w',a1,a2,a3,a4,rfl⟩
  .exact⟨_,rfl,_,rfl,p,t.cj,dx,_,rfl,U,T.aH,T.el,(show 1 < 1000 by decide),(⟨_,rfl,_,rfl,p,t.cj,dx,_,rfl,ah,T.aH,T.hZ,(show 2 < 1000 by decide),⟨_,rfl,_,rfl,p,t.cj,dx,_,rfl,ah,T.aH,T.k5,(show 3 < 1000 by decide),(rp rfl ah T.aH T.eW (show 4 < 1000 by decide) fun l1 O=>rp rfl ah T.aH T.d7 (show 5 < 1000 by decide) fun Z M=>rp rfl ah T.aH T.bR (show 6 < 1000 by decide) fun l3 L=>zy rfl ah T.aH T.fj (show 7 < 1000 by decide) fun Y J=>k _ (rD ah (fun c hc=>by rw[ax hc,ax hc,ax hc]) O M L J rfl))⟩⟩)⟩
  .exact⟨_,rfl,_,rfl,p,t.cj,dx,_,rfl,U,T.aH,T.el,(show 8 < 1000 by decide),(⟨_,rfl,_,rfl,p,t.cj,dx,_,rfl,ah,T.aH,T.hZ,(show 8 < 1000 by decide),⟨_,rfl,_,rfl,p,t.cj,dx,_,rfl,ah,T.aH,T.k5,(show 8 < 1000 by decide),(rp rfl ah T.aH T.eW (show 8 < 1000 by decide) fun l1 O=>rp rfl ah T.aH T.d7 (show 8 < 1000 by decide) fun Z M=>rp rfl ah T.aH T.bR (show 8 < 1000 by decide) fun l3 L=>zy rfl ah T.aH T.fj (show 8 < 1000 by decide) fun Y J=>k _ (rD ah (fun c hc=>by rw[ax hc,ax hc,ax hc]) O M L J rfl))⟩⟩)⟩
abbrev FV:Stmt:=inClass (top 49) 0
def RM:dN ["self"] ["self"] (aO FV):=⟨rfl,rfl,rfl,by decide,rfl,by decide+kernel,by decide+kernel⟩
abbrev Rv (K:b0)(t:jC):Sp:=xE t
def SD (F:yW K "__init__" "State.__init__" FV f fd)(T:Txt K mg t)(J:CMt P w K mg base 1 t.cj "start" ["self","repeat","drop","wide"] (xD t)):fA P w K mg base sQ 2 f fd ["self"] (Rv K t):=by
 refine F.ok RM (fun vs H Q E h=> ?_) (fun cdv A' _ s H vs Q E Y h=> ?_)
 .obtain⟨_,_,rfl,_⟩:=h;rfl
 .refine⟨_,(aa (c9 K aN Jl) (ae (bS (So J Y (by decide) aN (cD ai ai ai))))), ?_⟩;obtain⟨p,dx,rfl,Z,k⟩:=h;refine⟨_,rfl,p,t.cj,dx,_,rfl,Z,T.aH,T.mB,(by decide), ?_⟩;refine⟨_,rfl,p,dx,_,rfl,ah,rfl, ?_⟩;refine xi5 p dx (.bl false) _ 1 ⟨0,1,rfl,ah,.inl rfl,fun H' S=>k H' ?_⟩;obtain⟨a1,a2,a3,a4,U,⟨f1,f2,f3,f4⟩,O,M,L⟩:=S;have fr:∀{c:dr} {o:HO},(upd H p o) c=none->H c=none:=fun {c o} h=>by
   by_cases z:c=p
   .rw[z,ah] at h;contradiction
   .rw[ax z] at h;exact h
  exact xi4 a1 a2 a3 a4 ⟨U,⟨fr f1,fr f2,fr f3,fr f4⟩,O,M,fun c o hc h=>L c o hc (by rw[ax hc];exact h)⟩
end
def Tab.but (t:Tab H)(J:H p=some u)(n:NT u)(k:∀c o,c≠p->H c=some o->H' c=some o):Tab H':=by
 obtain⟨ps,h,z⟩:=t;have h1:dD≠p:=fun e=>by
  rw[e,J] at h;cases h;exact n
 refine⟨ps,k _ _ h1 h, ?_⟩
 rcases z with z|⟨c,e,hc⟩
 .exact .inl z
 .have h2:c≠p:=fun e=>by
   rw[e,J] at hc;cases hc;exact n
  exact .inr ⟨c,e,k _ _ h2 hc⟩
def sE.ext (S:sE t H2 H3 p dx v r d w)(e:Ext G0 H0 G H2)(f0:H0 p=none)(gn:G p=none)(J:H2 p=some u)(n:NT u):Ext G0 H0 G H3:=by
 obtain⟨_,_,_,_,_,_,_,_,k⟩:=S;exact⟨e.gg,fun b o q=>(e.hh b o q).then fun o h=>.of (k b o (aS q f0) h),⟨fun b o q=>k b o (aS q gn) (e.gh.at_ b o q),e.gh.gt,Tab.but e.gh.tab J n k⟩,e.fr⟩
def sR.rD {K:b0}(S:sE t H2 H3 p dx (.bl b) r d w)(e:Ext G0 H0 G H2)(f0:H0 p=none)(gn:G p=none)(Z:H2 p=some u)(n:NT u):∃a1 a2 a3 a4,sR K t G0 H0 G H3 p dx a1 a2 a3 a4 (b,r,d,w,[],[],[],[],()):=by
 have ex:=sE.ext S e f0 gn Z n;obtain⟨a1,a2,a3,a4,Y,⟨O,M,L,J⟩,U,⟨h1,h2,h3,h4⟩,s5⟩:=S;have fr:∀{c:dr},H2 c=none->H0 c=none:=fun h=>e.hh.free h
 exact xi4 a1 a2 a3 a4 ⟨ex,f0,gn,Y,⟨fr O,e.gh.free O,[],h1,.nil⟩,⟨fr M,e.gh.free M,[],h2,.nil⟩,⟨fr L,e.gh.free L,[],h3,.nil⟩,⟨fr J,e.gh.free J,[],h4,.nil⟩,U⟩
structure Short (st:aC):Prop where
 d:(aV st).length<=1000
 t:(cM st).length<=1000
 r:(aA st).length<=1000
 o:(bV st).length<=1000
def La (K:b0)(t:jC):Sp:=fun vs H Q _=>∃G v st,vs=[v]/\Sub G H/\aU K t G v st/\Short st/\ ∀v' G' H',At K t G H G' H' v' st->aE G G'->Q v' H'
abbrev RCon (K:b0):Rp (hA×List qE×List nv×List cu×List ji×Unit):=YJ K (AC (ag af) (AC (ag (YJ K (AC (g6 K) (AC af A0)))) (AC (ag (YJ K (AC (g6 K) (AC af A0)))) (AC (ag (YJ K (AC af (AC af (AC (ag (gE K af af)) (AC (ag (gE K af af)) A0)))))) (AC (ag (YJ K (AC af (AC af A0)))) A0)))))
def xc (st:aC):hA×List qE×List nv×List cu×List ji×Unit:=([dE st,jI st,di st],aV st,cM st,aA st,bV st,())
section
variable {P:dn}{w:fx}{K:b0}{mg:gp}{base:Heap}{t:jC}
abbrev qV:Df:=⟨"copied",50,["state"],fun K t=>La K t⟩
def EF:dP ["state","other"] qV:=by walk_at"s"
def PV (F:bh K qV f fd)(T:Txt K mg t)(L:yY P w K mg base 2 "State" t.cj ["self"] (xE t))(J:CMt P w K mg base 1 t.cj "start" ["self","repeat","drop","wide"] (xD t)):dO P w K mg base t 4 f fd qV:=by
 refine F.ok EF (fun vs H Q E h=> ?_) (fun cdv A' outer s H vs Q E hr h=> ?_)
 .obtain⟨_,_,_,rfl,_⟩:=h;rfl
 .refine⟨_,(aa (dC 1 EF.nd (L_ L hr (by decide) rfl)) (aa (c9 K bz (aF K aN)) (aa (bS (So J hr (by decide) bz (cD (aF K aN) (aF K aN) (aF K aN)))) (aa (bS (lP K adI adL fP (aF K bz) (aG (aF K aN)))) (aa (bS (lP K adI adL fP (aF K bz) (aG (aF K aN)))) (aa (bS (lP K adI adL fP (aF K bz) (aG (aF K aN)))) (aa (bS (lP K adI adL fP (aF K bz) (aG (aF K aN)))) (ae (aj bz))))))))), ?_⟩;obtain⟨G,bA,st,rfl,sm,O,sh,k⟩:=h;intro p dx hp hd hn;have e1:Ext G H G (upd H dx (.own p)):=Ext.own sm hd;have hp1:(upd H dx (.own p)) p=none:=by rw[ax (fun z=>hn z.symm)];exact hp
  have U:Ext G H G (upd (upd H dx (.own p)) p (.ins t.cj dx [])):=e1.trans (Ext.own e1.gh hp1);refine xi2 p dx ⟨rfl,ah,fun H1 S1=>⟨rfl, ?_⟩⟩;obtain⟨a1,a2,a3,a4,A1⟩:=sR.rD (K:=K) S1 U hp (sm.free hp) ah trivial;refine w_fld (R:=dQ) (x:=st.1) A1.ex.gh (tK T (aR O)) rfl A1.ob T.aH T.mB (show 8 < 1000 by decide) fun v2 G2 H2 U r2=> ?_
  subst r2;have A2:=(A1.later U).VZ (b:=st.1) (r:=1) (d:=0) (w:=1);have M:aU K t G2 bA st:=aK.mono U.gg O;refine⟨_,rfl,p,dx,_,rfl,ah,rfl, ?_⟩;refine(bE (bK T (aR M)) (bX (my T (aR M)) (d5 T (aR M))):RA _ _ G2 _ (AC af (AC af (AC af A0))) (st.2.1,st.2.2.1,st.2.2.2.1,())) G2 _ (Ext.refl A2.ex.gh) _ fun vs G3 H3 e3 z0=> ?_;obtain⟨v1,r1,q1,z1,v2,r2,q2,z2,v3,r3,q3,z3,z4⟩:=z0
  subst q1 q2 q3;subst z1;subst z2;subst z3;subst z4;have Y:=A2.later e3;refine xi5 p dx (.bl st.1) _ st.2.1 ⟨st.2.2.1,st.2.2.2.1,rfl,Y.ob,.inr (xi5 _ _ _ _ _ ⟨_,_,rfl⟩),fun H4 S4=> ?_⟩;obtain⟨a1,a2,a3,a4,A4⟩:=sR.rD (K:=K) S4 Y.ex Y.f0 Y.gn Y.ob trivial;have s4:aE G G3:=U.gg.trans e3.gg;obtain⟨us1,hz4,y1⟩:=A4.c1.at_;cases y1;refine uF (a0 rfl A4.ob T.aH T.eW uX) hz4 ?_ A4.ex.gh (ck T (ab rfl O s4)) fun us G5 H5 e5 r5=> ?_
  .exact adb (show 0+_<=1000 by rw[ady];exact sh.d) (by decide)
  have A5:=(A4.later e5).L8 r5;have s5:=s4.trans e5.gg;obtain⟨us2,hz5,y2⟩:=A5.c2.at_;cases y2;refine uF (a0 rfl A5.ob T.aH T.d7 qN) hz5 ?_ A5.ex.gh (eh T (ab rfl O s5)) fun us G6 H6 e6 r6=> ?_
  .exact adb (show 0+_<=1000 by rw[ady];exact sh.t) (by decide)
  have A6:=(A5.later e6).put2 r6;have s6:=s5.trans e6.gg;obtain⟨us3,hz6,y3⟩:=A6.c3.at_;cases y3;refine uF (a0 rfl A6.ob T.aH T.bR iX) hz6 ?_ A6.ex.gh (aQ T (ab rfl O s6)) fun us G7 H7 e7 r7=> ?_
  .exact adb (show 0+_<=1000 by rw[ady];exact sh.r) (by decide)
  have Z:=(A6.later e7).put3 r7;have s7:=s6.trans e7.gg;obtain⟨us4,hz7,y4⟩:=Z.c4.at_;cases y4;refine uF (a0 rfl Z.ob T.aH T.fj xf) hz7 ?_ Z.ex.gh (ei T (ab rfl O s7)) fun us G8 H8 e8 r8=> ?_
  .exact adb (show 0+_<=1000 by rw[ady];exact sh.o) (by decide)
  exact⟨_,rfl,k _ _ _ (xi5 p dx a1 a2 a3 ⟨a4,rfl,((Z.later e8).ZC r8)⟩) (s7.trans e8.gg)⟩
abbrev ni:Df:=⟨"contents",51,["state"],fun K t=>fz 1 (AC (aU K t) A0) (fun x=>Short x.1) (RCon K) (fun x=>xc x.1)⟩
def fX:dP ["state","dye","tint","room","roll"] ni:=by walk_at"s"
def Jy (F:bh K ni f fd)(T:Txt K mg t):dO P w K mg base t 1 f fd ni:=by
 refine QU F fX fun H hr=>⟨_,(ae (aj (oJ (gG (az (cD (aF K aN) (aF K aN) (aF K aN))) (gG (gK (own:=[("dye",1)]) rfl fX.nd (rP K (aF K aN)) (bC (by rfl)) (fun _ _ _ _ _=>(iZ 1 fX.nd)) (fun _ _ _ _ _=>c6) (fun _ _ _ _ _=>(oJ (aY (aF K bz) (aF K bz))))) (cD (gK (own:=[("tint",2)]) rfl fX.nd (rP K (aF K aN)) (bC (by rfl)) (fun _ _ _ _ _=>(iZ 2 fX.nd)) (fun _ _ _ _ _=>c6) (fun _ _ _ _ _=>(oJ (aY (aF K bP) (aF K bP))))) (gK (own:=[("room",3)]) rfl fX.nd (rP K (aF K aN)) (bC (by rfl)) (fun _ _ _ _ _=>(iZ 3 fX.nd)) (fun _ _ _ _ _=>c6) (fun _ _ _ _ _=>(oJ (gG (aF K dJ) (cD (aF K dJ) (aF K dJ) (aF K dJ)))))) (gK (own:=[("roll",4)]) rfl fX.nd (rP K (aF K aN)) (bC (by rfl)) (fun _ _ _ _ _=>(iZ 4 fX.nd)) (fun _ _ _ _ _=>c6) (fun _ _ _ _ _=>(oJ (aY (aF K lO) (aF K lO))))))))))),fun G O bA hs L M=> ?_⟩
 refine RS.eq (aB (IZ (bE (bG (aI (bK T (aR L)) (aI (my T (aR L)) (aI (d5 T (aR L)) bu))) sl3) (bE (eT (Rz:=u9 K t) (bD (ck T (aR L))) (adf M.d (by decide)) fun z U x G6 Z Y J=>⟨_,cE,rfl,IZ (bE (kU T (ab rfl J sr)) (bE (kT T (ab rfl J sr)) qp))⟩) (fY (eT (bD (eh T (aR L))) (adf M.t (by decide)) fun z U x G6 Z Y J=>⟨_,cE,rfl,IZ (bE (iP T (ab rfl J sr)) (bE (mx T (ab rfl J sr)) qp))⟩) (eT (bD (aQ T (aR L))) (adf M.r (by decide)) fun z U x G6 Z Y J=>⟨_,cE,rfl,IZ (bE (dm T (ab rfl J sr)) (bE (gu T (ab rfl J sr)) (bE (iA T (ab rfl J sr)) (bE (iz T (ab rfl J sr)) qp))))⟩) (eT (f:=fun z=>z) (bD (ei T (aR L))) (adf M.o (by decide)) fun z U x G6 Z Y J=>⟨_,cE,rfl,IZ (bE (kR T (ab rfl J sr)) (bE (kS T (ab rfl J sr)) qp))⟩)))))) ?_;simp only[List.map_id'];rfl
end
end Cw
namespace Cw
open PySem PySem.Spec PyProof.Rows L2 My
abbrev C2:=aC×hA
def c_ {a:Type}(most:Int)(xs:List a)(x:a):List a×hA:=if decide (most<=(xs.length:Int)) then(xs,[-28]) else(xs++[x],[(xs.length:Int)])
def cV {a:Type}(xs:List a)(n:Int):List a×hA:=if decide ((xs.length:Int)<=n) then(xs,[-2]) else(xs.eraseIdx n.toNat,[(xs.length:Int) - 1])
def gZ (st:aC)(g:hA):C2:=if !oO (col g) (g.getD 3 0) then(st,[-22]) else(zX st (c_ 5 (aV st) (col g,g.getD 3 0,())).1,(c_ 5 (aV st) (col g,g.getD 3 0,())).2)
def kr (st:aC)(g:hA):C2:=(zX st (cV (aV st) (g.getD 0 0)).1,(cV (aV st) (g.getD 0 0)).2)
def mM (st:aC)(g:hA):C2:=if decide (((aV st).length:Int)<=g.getD 0 0) then(st,[-2]) else if decide (1000 < g.getD 1 0) then(st,[-22]) else match(aV st)[(g.getD 0 0).toNat]? with
 |none=>(st,[])
 |some d=>(zX st ((aV st).set (g.getD 0 0).toNat (d.1,g.getD 1 0,())),[d.2.1])
def fE (st:aC)(g:hA):C2:=if !dG (col g)|| !aX (g.getD 3 0) 1 1000 then(st,[-22]) else(vA st (c_ 4 (cM st) (col g,g.getD 3 0,())).1,(c_ 4 (cM st) (col g,g.getD 3 0,())).2)
def jg (st:aC)(g:hA):C2:=(vA st (cV (cM st) (g.getD 0 0)).1,(cV (cM st) (g.getD 0 0)).2)
def mN (st:aC)(g:hA):C2:=if decide (((cM st).length:Int)<=g.getD 0 0) then(st,[-2]) else if !aX (g.getD 1 0) 1 1000 then(st,[-22]) else match(cM st)[(g.getD 0 0).toNat]? with
 |none=>(st,[])
 |some d=>(vA st ((cM st).set (g.getD 0 0).toNat (d.1,g.getD 1 0,())),[d.2.1])
def sy (st:aC)(g:hA):C2:=if !aX (g.getD 0 0) 1 60||(decide (g.getD 0 0<=g.getD 1 0)|| !aX (g.getD 2 0) 1 60) then(st,[-22]) else((true,g.getD 0 0,g.getD 1 0,g.getD 2 0,[],[],[],[],()),[0])
def vT (st:aC)(g:hA):C2:=if !aX (g.getD 0 0) 1 60 then(st,[-22]) else((st.1,st.2.1,st.2.2.1,g.getD 0 0,st.2.2.2.2),[di st])
def vW (st:aC)(g:hA):C2:=if decide (dE st<=g.getD 0 0) then(st,[-22]) else((st.1,st.2.1,g.getD 0 0,st.2.2.2),[jI st])
def l_ (st:aC)(g:hA):C2:=if !eA (g.getD 0 0) (dE st) then(st,[-22]) else((st.1,g.getD 0 0,jI st%g.getD 0 0,di st,aV st,cM st,aA st,(bV st).map (fun r=>(r.1,r.2.1%g.getD 0 0,())),()),[dE st])
def gD (st:aC)(g:hA):C2:=if !aX (g.getD 0 0) 1 10000||decide (dE st<=g.getD 1 0) then(st,[-22]) else(xM st (c_ 3 (bV st) (g.getD 0 0,g.getD 1 0,())).1,(c_ 3 (bV st) (g.getD 0 0,g.getD 1 0,())).2)
def ki (st:aC)(g:hA):C2:=(xM st (cV (bV st) (g.getD 0 0)).1,(cV (bV st) (g.getD 0 0)).2)
def gC (st:aC)(g:hA):C2:=if !aX (g.getD 0 0) 1 200|| !aX (g.getD 1 0) 1 200 then(st,[-22]) else(dH st (c_ 3 (aA st) (g.getD 0 0,g.getD 1 0,[],[],())).1,(c_ 3 (aA st) (g.getD 0 0,g.getD 1 0,[],[],())).2)
def jh (st:aC)(g:hA):C2:=(dH st (cV (aA st) (g.getD 0 0)).1,(cV (aA st) (g.getD 0 0)).2)
def iF (st:aC)(g:hA):C2:=if decide (((aA st).length:Int)<=g.getD 0 0) then(st,[-2]) else match(aA st)[(g.getD 0 0).toNat]? with
 |none=>(st,[])
 |some r=>if decide (g.getD 2 0<=g.getD 1 0)||decide (r.1 < g.getD 2 0) then(st,[-22]) else(dH st ((aA st).set (g.getD 0 0).toNat (r.1,r.2.1,(c_ 5 r.2.2.1 (g.getD 1 0,g.getD 2 0)).1,r.2.2.2.1,())),(c_ 5 r.2.2.1 (g.getD 1 0,g.getD 2 0)).2)
def jf (st:aC)(g:hA):C2:=if decide (((aA st).length:Int)<=g.getD 0 0) then(st,[-2]) else match(aA st)[(g.getD 0 0).toNat]? with
 |none=>(st,[])
 |some r=>(dH st ((aA st).set (g.getD 0 0).toNat (iS r)),[r.2.1])
def HM (st:aC)(g:hA):C2:=((jf (iF (jf st g).1 g).1 g).1,(iF (jf st g).1 g).2)
def eD (st:aC)(g:hA):C2:=match eB (aA st) (di st) (jI st) (dE st) with
 |none=>(st,[-33])
 |some b=>if decide (0<=b.1) then(dH st (bM (aA st) b.2),[b.1,b.2]) else(st,[b.1,b.2])
def Fj (K:b0)(t:jC)(pre:aC->hA->Prop)(f:aC->hA->C2):Sp:=fun vs H Q _=>∃vst vg G0 H0 G st g,vs=[vst,vg]/\At K t G0 H0 G H vst st/\ag af G vg g/\pre st g/\ ∀v G' H',At K t G0 H0 G' H' vst (f st g).1->aE G G'->ag af G' v (f st g).2->Q v H'
def Nu (K:b0)(t:jC)(pre:aC->hA->Prop)(f:aC->hA->C2):Sp:=fun vs H Q _=>∃vst vg G0 H0 G st g,vs=[vst,vg]/\At K t G0 H0 G H vst st/\ag af G vg g/\pre st g/\ ∀v G' H',Ext G0 H0 G' H'->aE G G'->aU K t G' vst (f st g).1->ag af G' v (f st g).2->Q v H'
def Nu.ofC {K:b0}:∀vs H Q E,Nu K t pre f vs H Q E->Fj K t pre f vs H Q E:=fun vs H Q E ⟨J,M,G0,H0,G,st,g,e,A,U,O,k⟩=>
 xi5 J M G0 H0 G ⟨st,g,e,A,U,O,by
  rintro v G' H' ⟨p,dx,a1,a2,a3,a4,Y,A'⟩ s r
  obtain⟨G2,Z,L,r2⟩:=A'.freeze;subst Y;exact k v G2 H' Z (s.trans L) r2 (aK.mono L r)⟩
def Nu.ofP {K:b0}(Z:∀st g,pre' st g->pre (st,g,())):∀vs H Q E,Nu K t pre' (fun st g=>(st,f (st,g,()))) vs H Q E->fz 2 (AC (aU K t) (AC (ag af) A0)) pre (ag af) f vs H Q E:=by
 rintro vs H Q E ⟨U,vg,G0,H0,G,st,g,e,⟨p,dx,a1,a2,a3,a4,ev,A⟩,hg,J,k⟩
 subst e ev;obtain⟨G2,O,M,r2⟩:=A.freeze;exact⟨rfl,G2,_,O.gh,⟨_,_,rfl,r2,_,_,rfl,aK.mono M hg,rfl⟩,Z st g J,fun v G' H' L Y=>k v G' H' (O.trans L) (M.trans L.gg) (aK.mono L.gg r2) Y⟩
section
variable {P:dn}{w:fx}{K:b0}{mg:gp}{base:Heap}{t:jC}
def jE {st:Stmt}(F:yW K x qual st f fd)(S:dN N ["state","given"] (aO st))
  (L:∀(J:ee) (Y:eu) (outer:List Env) (s:cq) (H:Hp) (E:XK),fM k (Y.deeper (envOfC qual (aO st) s.heap.objs.size f J))->
   ∃U,Eo (je sQ P w K mg base N qual (aO st) f J Y outer s H E).PY (e_ st) U/\ ∀(G0 H0 G:Hp) (p dx a1 a2 a3 a4:dr) (O:V) (M:aC) (g:hA),sR K t G0 H0 G H p dx a1 a2 a3 a4 M->ag af G O g->pre M g-> ∀D:Ends,(∀v G' H',At K t G0 H0 G' H' (.ref p) (fn M g).1->aE G G'->ag af G' v (fn M g).2->D.rt v H')->U D (rd N [.ref p,O]) H):
  fA P w K mg base sQ (k+1) f fd ["state","given"] (Fj K t pre fn):=by
 refine F.ok S (fun vs H Q E h=> ?_) fun J Y _ s H vs Q E hr h=> ?_
 .obtain⟨_,_,_,_,_,_,_,rfl,_⟩:=h;rfl
 .obtain⟨U,h1,h2⟩:=L J Y _ s H E hr;obtain⟨Z,O,G0,H0,G,M,g,rfl,⟨p,dx,a1,a2,a3,a4,rfl,A⟩,hg,hp,q⟩:=h;exact⟨U,h1,h2 G0 H0 G p dx a1 a2 a3 a4 O M g A hg hp _ q⟩
def Uq {st:Stmt}(F:yW K x qual st f fd)(S:dN N ["state","given"] (aO st))
  (L:∀(J:ee) (Y:eu) (outer:List Env) (s:cq) (H:Hp) (E:XK),fM k (Y.deeper (envOfC qual (aO st) s.heap.objs.size f J))->
   ∃U,Eo (je sQ P w K mg base N qual (aO st) f J Y outer s H E).PY (e_ st) U/\ ∀(G0 H0 G:Hp) (p dx a1 a2 a3 a4:dr) (O:V) (M:aC) (g:hA),sR K t G0 H0 G H p dx a1 a2 a3 a4 M->ag af G O g->pre M g-> ∀D:Ends,(∀v G' H',Ext G0 H0 G' H'->aE G G'->aU K t G' (.ref p) (fn M g).1->ag af G' v (fn M g).2->D.rt v H')->U D (rd N [.ref p,O]) H):
  fA P w K mg base sQ (k+1) f fd ["state","given"] (Nu K t pre fn):=by
 refine F.ok S (fun vs H Q E h=> ?_) fun J Y _ s H vs Q E hr h=> ?_
 .obtain⟨_,_,_,_,_,_,_,rfl,_⟩:=h;rfl
 .obtain⟨U,h1,h2⟩:=L J Y _ s H E hr;obtain⟨Z,O,G0,H0,G,M,g,rfl,⟨p,dx,a1,a2,a3,a4,rfl,A⟩,hg,hp,q⟩:=h;exact⟨U,h1,h2 G0 H0 G p dx a1 a2 a3 a4 O M g A hg hp _ q⟩
end
section
variable {a:Type}{K:b0}{t:jC}{σ:L2.St}{G H:Hp}
def Ke (s:Sub G H)(hl:RE tl σ G H RV (.ref q))(hm:RE tm σ G H af m)(hx:RE tx σ G H R x)(O:H q=some (.lst us))(gq:G q=none)(hz:us.length<=1000)
  (k1:m<=us.length-> ∀v G' H',Ext G H G' H'->ag af G' v [-28]->Q v H')
  (k2:(us.length:Int) < m-> ∀v u J H1 G' H',Ext G H J H1->R J u x->Ext J (upd H1 q (.lst (us++[u]))) G' H'->ag af G' v [(us.length:Int)]->Q v H') (mo:aK R:=by infer_instance):s_ YI [] E (bO tl (bO tm (bO tx fV))) σ H Q:=
 (bE hl (bX hm hx):RA _ σ G H _ _) G H (Ext.refl s) _ fun vs J H1 L ⟨v1,r1,q1,z1,v2,r2,q2,Z,M,r3,q3,Y,U⟩=>by
  subst q1 q2 q3;subst z1;subst Z;subst U;exact xi5 J q us m M ⟨rfl,L.gh,L.keeps O gq,(L.hh _ _ O).is trivial,hz,fun hc v G' H' e r=>k1 hc v G' H' (L.trans e) r,fun hc v G' H' e r=>k2 hc v M J H1 G' H' L Y e r⟩
def Oq (s:Sub G H)(hl:RE tl σ G H RV (.ref q))(hm:RE tm σ G H af n)(M:H q=some (.lst us))(gq:G q=none)(h0:0<=n)(h1:n < 2^63)
  (k1:(us.length:Int)<=n-> ∀v G' H',Ext G H G' H'->ag af G' v [-2]->Q v H')
  (k2:n < us.length-> ∀v L H1 G' H',Ext G H L H1->Ext L (upd H1 q (.lst (us.eraseIdx n.toNat))) G' H'->ag af G' v [(us.length:Int) - 1]->Q v H'):s_ YH [] E (bO tl (bO tm fV)) σ H Q:=
 (bE hl (bp hm):RA _ σ G H _ _) G H (Ext.refl s) _ fun vs L H1 J ⟨v1,r1,q1,Y,v2,r2,Z,U,O⟩=>by
  subst q1 Z;subst Y;subst U;subst O;exact xi4 L q us n ⟨rfl,J.gh,J.keeps M gq,(J.hh _ _ M).is trivial,h0,h1,fun hc v G' H' e r=>k1 hc v G' H' (J.trans e) r,fun hc v G' H' e r=>k2 hc v L H1 G' H' J e r⟩
def TZ {st:aC}(hi:σ[i]?=some (some (.ref p)))(L:σ[j]?=some (some vg))(A:sR K t G0 H0 G H p dx a1 a2 a3 a4 st)(M:ag af G vg g)(J:pre st g)
  (k:∀v G' H',At K t G0 H0 G' H' (.ref p) (fn st g).1->aE G G'->ag af G' v (fn st g).2->Q v H'):s_ (Fj K t pre fn) [] E (bO (cc i) (bO (cc j) fV)) σ H Q:=
 ⟨_,hi,_,L,.ref p,vg,G0,H0,G,st,g,rfl,xi5 p dx a1 a2 a3 ⟨a4,rfl,A⟩,M,J,k⟩
end
section
variable {P:dn}{w:fx}{K:b0}{mg:gp}{base:Heap}{t:jC}
abbrev rZ:Df:=⟨"add_dye",81,["state","given"],fun K t=>Fj K t (fun st g=>jT st/\aW 4 g) gZ⟩
def Aj:dP ["state","given","parts"] rZ:=by walk_at"s"
def Mi (F:bh K rZ f fd)(T:Txt K mg t)(U:yY P w K mg base 1 "Dye" t.yr ["self","parts","price"] (eE t.yr ["parts","price"]))(dX:aL P w K mg base t 1 ic)(q_:aL P w K mg base t 1 ox):dO P w K mg base t 3 f fd rZ:=by
 refine jE F Aj fun cdv A' outer s H E hr=>⟨_,(aa (dC 2 Aj.nd (fw (r_ K) rfl T.n9 oX (aG (kY (VC K) bz pB (mz ai))))) (aa (a_ (fJ (de (bJ q_ hr (aY bP (cW (dZ K) bz ai))))) (ae (aj (az (aG (g8 T.bN rfl))))) aD) (ae (aj (bJ dX hr (cD (aF K aN) (g8 T.Fl rfl) (sL U hr (by decide) rfl (aY bP (cW (dZ K) bz ai))))))))), ?_⟩
 intro G0 H0 G p dx a1 a2 a3 a4 vg st g A ay hp D k;obtain⟨p1,p2⟩:=hp;obtain⟨hg3,hn3,hm3⟩:=bf p2 (i:=3) (by decide);have g3:∀{σ:L2.St} {G1 H1:Hp},aE G G1->σ[1]?=some (some vg)->RE (il (gF K) (cc 1) (tC (.int 3))) σ G1 H1 af (g.getD 3 0):=fun s1 b=>aJ (ab b ay s1) ao (by decide) hg3
 refine cB A.ex.gh (x:=col g) (lU (bp (RE.eq (Ap (aR ay) pf (mv (ao))) (aaF p2.1)))) fun YZ G1 H1 M Ti=> ?_
 refine eR M.gh (fB (bZ (ak (bX (aR Ti) (g3 M.gg rfl)) trivial))) (fun hc G9 H9 L=> ?_) (fun hc G9 H9 L=> ?_)
 .rw[show gZ st g=(st,[-22]) from by delta gZ;rw[ad3 hc]] at k;exact cf (M.trans L).gh cQ fun v G2 H2 O r2=>k v G2 H2 ⟨p,dx,a1,a2,a3,a4,rfl,A.later ((M.trans L).trans O)⟩ (((M.trans L).trans O).gg) r2
 have Y:=A.later (M.trans L);obtain⟨us,hq,pr⟩:=Y.c1.at_;have Z:(us.length:Int)=((aV st).length:Int):=by rw[aw pr]
 refine Ke (m:=5) Y.ex.gh (a0 rfl Y.ob T.aH T.eW uX) ao (jo (bX (ab rfl Ti L.gg) (g3 (M.gg.trans L.gg) rfl))) hq Y.c1.gn ?_ (fun J v G2 H2 O r2=> ?_) (fun J v u G8 H8 G2 H2 e8 r8 O r2=> ?_)
 .have h9:us.length=(aV st).length:=aw pr;rw[h9];exact adb p1.dy.len (by decide)
 .rw[Z] at J;rw[show gZ st g=(st,[-28]) from by delta gZ c_;rw[ad2 (by rw[hc];decide),ad3 (adZ J)]] at k;exact k v G2 H2 (xi5 p dx a1 a2 a3 ⟨a4,rfl,Y.later O⟩) ((M.gg.trans L.gg).trans O.gg) r2
 .rw[Z] at r2 J;rw[show gZ st g=(zX st (aV st++[(col g,g.getD 3 0,())]),[((aV st).length:Int)]) from by delta gZ c_;rw[ad2 (by rw[hc];decide),ad2 (fun z=>absurd (aea z) (by lia))]] at k;exact k v G2 H2 (xi5 p dx a1 a2 a3 ⟨a4,rfl,((Y.later e8).L8 (Paired.snoc (aq e8.gg pr) r8)).later O⟩) ((M.gg.trans L.gg).trans (e8.gg.trans O.gg)) r2
abbrev mL:Df:=⟨"remove_dye",82,["state","given"],fun K t=>Fj K t (fun st g=>jT st/\aW 1 g) kr⟩
def De:dP ["state","given"] mL:=by walk_at"s"
def DD (F:bh K mL f fd)(T:Txt K mg t)(c7:aL P w K mg base t 1 fq):dO P w K mg base t 2 f fd mL:=by
 refine jE F De fun cdv A' outer s H E hr=>⟨_,(ae (aj (bJ c7 hr (aY (aF K aN) (cW (dZ K) bz ai))))), ?_⟩
 intro G0 H0 G p dx a1 a2 a3 a4 vg st g A ay hp D k;obtain⟨p1,p2⟩:=hp;obtain⟨U,O,hm0⟩:=bf p2 (i:=0) (by decide);have g0:∀{σ:L2.St} {G1 H1:Hp},aE G G1->σ[1]?=some _->RE (il (gF K) _ _) σ G1 H1 af _:=fun s1 b=>aJ (ab b ay s1) ao (by decide) U
 obtain⟨us,hq,pr⟩:=A.c1.at_;have L:(us.length:Int)=((aV st).length:Int):=by rw[aw pr]
 refine Oq A.ex.gh (a0 rfl A.ob T.aH T.eW uX) (g0 sr rfl) hq A.c1.gn O (by lia) (fun J v Z H2 M r2=> ?_) (fun J v G8 H8 Z H2 Y M r2=> ?_)
 .rw[L] at J;rw[show kr st g=_ from by delta kr cV;rw[ad3 (adZ J)]] at k;exact k v Z H2 (xi5 p dx a1 a2 a3 ⟨a4,rfl,A.later M⟩) M.gg r2
 .rw[L] at r2 J;rw[show kr st g=_ from by delta kr cV;rw[ad2 (fun z=>absurd (aea z) (by lia))]] at k;exact k v Z H2 (xi5 p dx a1 a2 a3 ⟨a4,rfl,((A.later Y).L8 (jr (aq Y.gg pr) (g.getD 0 0).toNat)).later M⟩) (Y.gg.trans M.gg) r2
abbrev nX:Df:=⟨"set_price",83,["state","given"],fun K t=>Fj K t (fun st g=>jT st/\aW 2 g) mM⟩
def rK:dP ["state","given","number","dye"] nX:=by walk_at"s"
def Gu (F:bh K nX f fd)(T:Txt K mg t)(U:yY P w K mg base 1 "Dye" t.yr ["self","parts","price"] (eE t.yr ["parts","price"])):dO P w K mg base t 3 f fd nX:=by
 refine jE F rK fun cdv A' outer s H E hr=>⟨_,(aa (dC 2 rK.nd (cW (dZ K) bz ai)) (aa (a_ (ka iG bP (nD T (aF K aN))) (ae (aj (az (aG (g8 T.dY rfl))))) aD) (aa (a_ (ka wR (cW (dZ K) bz ai) (g8 T.CM rfl)) (ae (aj (az (aG (g8 T.bN rfl))))) aD) (aa (dC 3 rK.nd (cW (dZ K) (aF K aN) bP)) (aa (AB (sL U hr (by decide) rfl (aY (aF K dJ) (cW (dZ K) bz ai))) (AG (aF K aN) bP set_list)) (ae (aj (az (aG (aF K dJ)))))))))), ?_⟩
 intro G0 H0 G p dx a1 a2 a3 a4 vg st g A ay hp D k;obtain⟨p1,p2⟩:=hp;obtain⟨hg0,hn0,hm0⟩:=bf p2 (i:=0) (by decide);have g0:∀{σ:L2.St} {Z H1:Hp},aE G Z->σ[1]?=some (some vg)->RE (il (gF K) (cc 1) (tC (.int 0))) σ Z H1 af (g.getD 0 0):=fun s1 b=>aJ (ab b ay s1) ao (by decide) hg0
 obtain⟨hg1,hn1,hm1⟩:=bf p2 (i:=1) (by decide);have g1:∀{σ:L2.St} {Z H1:Hp},aE G Z->σ[1]?=some (some vg)->RE (il (gF K) (cc 1) (tC (.int 1))) σ Z H1 af (g.getD 1 0):=fun s1 b=>aJ (ab b ay s1) ao (by decide) hg1
 refine cB A.ex.gh (R:=af) (g0 sr rfl) fun O1 Z H1 L wd=> ?_
 have A1:=A.later L;obtain⟨us,hq,pr⟩:=A1.c1.at_;have hul:(us.length:Int)=((aV st).length:Int):=by rw[aw pr]
 refine eR A1.ex.gh (dj (RE.eq (g7 (aR wd) (mw (bp (a0 rfl A1.ob T.aH T.eW uX)) hq)) (by rw[hul]))) (fun hc G9 H9 J=> ?_) (fun hc G9 H9 J=> ?_)
 .rw[show mM st g=(st,[-2]) from by delta mM;rw[ad3 hc]] at k;exact cf (L.trans J).gh (x:=[-2]) cQ fun v G2 H2 O r2=>k v G2 H2 ⟨p,dx,a1,a2,a3,a4,rfl,A.later ((L.trans J).trans O)⟩ (((L.trans J).trans O).gg) r2
 have A9:=A1.later J;refine eR A9.ex.gh (dj (EG (g1 (L.gg.trans J.gg) rfl) ao)) (fun Y G8 H8 M=> ?_) (fun Y G8 H8 M=> ?_)
 .rw[show mM st g=(st,[-22]) from by delta mM;rw[ad2 (by rw[hc];decide),ad3 Y]] at k;exact cf ((L.trans J).trans M).gh (x:=[-22]) cQ fun v G2 H2 O r2=>k v G2 H2 ⟨p,dx,a1,a2,a3,a4,rfl,A.later (((L.trans J).trans M).trans O)⟩ ((((L.trans J).trans M).trans O).gg) r2
 have A8:=A9.later M;have s8:aE G G8:=(L.gg.trans J.gg).trans M.gg;have hlt:(g.getD 0 0).toNat < (aV st).length:=by
  have:=ad_ hc
  omega
 have hd:(aV st)[(g.getD 0 0).toNat]?=some (aV st)[(g.getD 0 0).toNat]:=abX hlt;rw[show mM st g=_ from by delta mM;rw[ad2 (by rw[hc];decide),ad2 (by rw[Y];decide),hd]] at k;generalize (aV st)[(g.getD 0 0).toNat]=d at hd k;obtain⟨us8,hq8,pr8⟩:=A8.c1.at_;obtain⟨u,hu,ru⟩:=cw pr8 hd;refine cB A8.ex.gh (R:=u9 K t) (x:=d) (kP (F1 (a0 rfl A8.ob T.aH T.eW uX) (ab rfl wd (J.gg.trans M.gg)) hq8 hn0 hu) fun G' s'=>aK.mono s' ru) fun X_ G7 H7 e7 we=> ?_
 have A7:=A8.later e7;obtain⟨us7,hq7,pr7⟩:=A7.c1.at_;have hl7:us7.length=(aV st).length:=aw pr7;refine zW A7.ex.gh (R:=u9 K t) (jo (bX (kU T (aR we)) (g1 (s8.trans e7.gg) rfl))) (a0 rfl A7.ob T.aH T.eW uX) (ab rfl wd ((J.gg.trans M.gg).trans e7.gg)) hq7 hn0 (by lia) fun v_e G6 H6 e6 Tr=> ?_
 have A6:=(A7.later e6).L8 (kf (aq e6.gg pr7) Tr (g.getD 0 0).toNat);exact cf A6.ex.gh (x:=[d.2.1]) (bG (aI (kT T (ab rfl we e6.gg)) bu) sl1) fun v G2 H2 O r2=>k v G2 H2 ⟨p,dx,a1,a2,a3,a4,rfl,A6.later O⟩ (((s8.trans e7.gg).trans e6.gg).trans O.gg) r2
abbrev pO:Df:=⟨"add_tint",84,["state","given"],fun K t=>Fj K t (fun st g=>jT st/\aW 4 g) fE⟩
def yE:dP ["state","given","colour"] pO:=by walk_at"s"
def JB (F:bh K pO f fd)(T:Txt K mg t)(J:yY P w K mg base 1 "Tint" t.uu ["self","colour","grams"] (eE t.uu ["colour","grams"]))(dX:aL P w K mg base t 1 ic)(cG:aL P w K mg base t 1 gS)(cH:aL P w K mg base t 1 eZ):dO P w K mg base t 3 f fd pO:=by
 refine jE F yE fun cdv A' outer s H E hr=>⟨_,(aa (dC 2 yE.nd (fw (r_ K) rfl T.n9 oX (aG (kY (VC K) bz pB (mz ai))))) (aa (a_ (PW.pt (tO (fJ (de (bJ cH hr (aG bP)))) (qr (fJ (de (bJ cG hr (cD (cW (dZ K) bz ai) ai (g8 T.CO rfl)))))))) (ae (aj (az (aG (g8 T.bN rfl))))) aD) (ae (aj (bJ dX hr (cD (aF K aN) (g8 T.Nw rfl) (sL J hr (by decide) rfl (aY bP (cW (dZ K) bz ai))))))))), ?_⟩
 intro G0 H0 G p dx a1 a2 a3 a4 vg st g A ay hp D k;obtain⟨p1,p2⟩:=hp;obtain⟨hg3,hn3,hm3⟩:=bf p2 (i:=3) (by decide);have g3:∀{σ:L2.St} {G1 H1:Hp},aE G G1->σ[1]?=some (some vg)->RE (il (gF K) (cc 1) (tC (.int 3))) σ G1 H1 af (g.getD 3 0):=fun s1 b=>aJ (ab b ay s1) ao (by decide) hg3
 refine cB A.ex.gh (R:=g6 K) (x:=col g) (lU (bp (RE.eq (Ap (aR ay) pf (mv (ao))) (aaF p2.1)))) fun YZ G1 H1 O Ti=> ?_
 refine eR O.gh (d:= !dG (col g)|| !aX (g.getD 3 0) 1 1000) (oE (fB (bZ (ak (x:=(col g,())) (bp (aR Ti)) trivial))) fun _=>fB (bZ (ak (fY (g3 O.gg rfl) ao ao) trivial))) (fun hc G9 H9 M=> ?_) (fun hc G9 H9 M=> ?_)
 .rw[show fE st g=(st,[-22]) from by delta fE;rw[ad3 hc]] at k;exact cf (O.trans M).gh (x:=[-22]) cQ fun v G2 H2 U r2=>k v G2 H2 ⟨p,dx,a1,a2,a3,a4,rfl,A.later ((O.trans M).trans U)⟩ (((O.trans M).trans U).gg) r2
 have Y:=A.later (O.trans M);obtain⟨us,hq,pr⟩:=Y.c2.at_;have Z:(us.length:Int)=((cM st).length:Int):=by rw[aw pr]
 refine Ke (m:=4) Y.ex.gh (a0 rfl Y.ob T.aH T.d7 qN) ao (jo (bX (ab rfl Ti M.gg) (g3 (O.gg.trans M.gg) rfl))) hq Y.c2.gn ?_ (fun L v G2 H2 U r2=> ?_) (fun L v u G8 H8 G2 H2 e8 r8 U r2=> ?_)
 .have h9:us.length=(cM st).length:=aw pr;rw[h9];exact adb p1.tl (by decide)
 .rw[Z] at L;rw[show fE st g=(st,[-28]) from by delta fE c_;rw[ad2 (by rw[hc];decide),ad3 (adZ L)]] at k;exact k v G2 H2 (xi5 p dx a1 a2 a3 ⟨a4,rfl,Y.later U⟩) ((O.gg.trans M.gg).trans U.gg) r2
 .have A8:=(Y.later e8).put2 (Paired.snoc (aq e8.gg pr) r8);rw[Z] at r2 L;rw[show fE st g=(vA st (cM st++[(col g,g.getD 3 0,())]),[((cM st).length:Int)]) from by delta fE c_;rw[ad2 (by rw[hc];decide),ad2 (fun z=>absurd (aea z) (by lia))]] at k;exact k v G2 H2 (xi5 p dx a1 a2 a3 ⟨a4,rfl,A8.later U⟩) ((O.gg.trans M.gg).trans (e8.gg.trans U.gg)) r2
abbrev lD:Df:=⟨"remove_tint",85,["state","given"],fun K t=>Fj K t (fun st g=>jT st/\aW 1 g) jg⟩
def Af:dP ["state","given"] lD:=by walk_at"s"
def AY (F:bh K lD f fd)(T:Txt K mg t)(c7:aL P w K mg base t 1 fq):dO P w K mg base t 2 f fd lD:=by
 refine jE F Af fun cdv A' _ s H E hr=>⟨_,(ae (aj (bJ c7 hr (aY (aF K aN) (cW (dZ K) bz ai))))), ?_⟩
 intro G0 H0 G p dx a1 a2 a3 a4 vg st g A ay hp D k;obtain⟨p1,p2⟩:=hp;obtain⟨U,O,hm0⟩:=bf p2 (i:=0) (by decide);have g0:∀{σ:L2.St} {G1 H1:Hp},aE G G1->σ[1]?=some _->RE (il (gF K) _ _) σ G1 H1 _ _:=fun s1 b=>aJ (ab b ay s1) ao (by decide) U
 obtain⟨us,hq,pr⟩:=A.c2.at_;have L:(us.length:Int)=((cM st).length:Int):=by rw[aw pr]
 refine Oq A.ex.gh (a0 rfl A.ob T.aH T.d7 qN) (g0 sr rfl) hq A.c2.gn O (by lia) (fun J v Z H2 M r2=> ?_) (fun J v G8 H8 Z H2 Y M r2=> ?_)
 .rw[L] at J;rw[show jg st g=_ from by delta jg cV;rw[ad3 (adZ J)]] at k;exact k v Z H2 (xi5 p dx a1 a2 a3 ⟨a4,rfl,A.later M⟩) M.gg r2
 .rw[L] at r2 J;rw[show jg st g=_ from by delta jg cV;rw[ad2 (fun z=>absurd (aea z) (by lia))]] at k;exact k v Z H2 (xi5 p dx a1 a2 a3 ⟨a4,rfl,((A.later Y).put2 (jr (aq Y.gg pr) (g.getD 0 0).toNat)).later M⟩) (Y.gg.trans M.gg) r2
abbrev nY:Df:=⟨"set_grams",86,["state","given"],fun K t=>Fj K t (fun st g=>jT st/\aW 2 g) mN⟩
def rL:dP ["state","given","number","tint"] nY:=by walk_at"s"
def Gv (F:bh K nY f fd)(T:Txt K mg t)(L:yY P w K mg base 1 "Tint" t.uu ["self","colour","grams"] (eE t.uu ["colour","grams"]))(cG:aL P w K mg base t 1 gS):dO P w K mg base t 3 f fd nY:=by
 refine jE F rL fun cdv A' outer s H E hr=>⟨_,(aa (dC 2 rL.nd (cW (dZ K) bz ai)) (aa (a_ (ka iG bP (nD T (aF K aN))) (ae (aj (az (aG (g8 T.dY rfl))))) aD) (aa (a_ (fJ (de (bJ cG hr (cD (cW (dZ K) bz ai) ai (g8 T.CO rfl))))) (ae (aj (az (aG (g8 T.bN rfl))))) aD) (aa (dC 3 rL.nd (cW (dZ K) (aF K aN) bP)) (aa (AB (sL L hr (by decide) rfl (aY (aF K dJ) (cW (dZ K) bz ai))) (AG (aF K aN) bP set_list)) (ae (aj (az (aG (aF K dJ)))))))))), ?_⟩
 intro G0 H0 G p dx a1 a2 a3 a4 vg st g A ay hp D k;obtain⟨p1,p2⟩:=hp;obtain⟨hg0,hn0,hm0⟩:=bf p2 (i:=0) (by decide);have g0:∀{σ:L2.St} {Z H1:Hp},aE G Z->σ[1]?=some (some vg)->RE (il (gF K) (cc 1) (tC (.int 0))) σ Z H1 af (g.getD 0 0):=fun s1 b=>aJ (ab b ay s1) ao (by decide) hg0
 obtain⟨hg1,hn1,hm1⟩:=bf p2 (i:=1) (by decide);have g1:∀{σ:L2.St} {Z H1:Hp},aE G Z->σ[1]?=some (some vg)->RE (il (gF K) (cc 1) (tC (.int 1))) σ Z H1 af (g.getD 1 0):=fun s1 b=>aJ (ab b ay s1) ao (by decide) hg1
 refine cB A.ex.gh (R:=af) (x:=g.getD 0 0) (g0 sr rfl) fun O1 Z H1 M wd=> ?_
 have A1:=A.later M;obtain⟨us,hq,pr⟩:=A1.c2.at_;have hul:(us.length:Int)=((cM st).length:Int):=by rw[aw pr]
 refine eR A1.ex.gh (dj (RE.eq (g7 (aR wd) (mw (bp (a0 rfl A1.ob T.aH T.d7 qN)) hq)) (by rw[hul]))) (fun hc G9 H9 J=> ?_) (fun hc G9 H9 J=> ?_)
 .rw[show mN st g=(st,[-2]) from by delta mN;rw[ad3 hc]] at k;exact cf (M.trans J).gh (R:=ag af) (x:=[-2]) cQ fun v G2 H2 U r2=>k v G2 H2 ⟨p,dx,a1,a2,a3,a4,rfl,A.later ((M.trans J).trans U)⟩ (((M.trans J).trans U).gg) r2
 have A9:=A1.later J;refine eR A9.ex.gh (d:= !aX (g.getD 1 0) 1 1000) (fB (bZ (ak (fY (g1 (M.gg.trans J.gg) rfl) ao ao) trivial))) (fun Y G8 H8 O=> ?_) (fun Y G8 H8 O=> ?_)
 .rw[show mN st g=(st,[-22]) from by delta mN;rw[ad2 (by rw[hc];decide),ad3 Y]] at k;exact cf ((M.trans J).trans O).gh (R:=ag af) (x:=[-22]) cQ fun v G2 H2 U r2=>k v G2 H2 ⟨p,dx,a1,a2,a3,a4,rfl,A.later (((M.trans J).trans O).trans U)⟩ ((((M.trans J).trans O).trans U).gg) r2
 have A8:=A9.later O;have s8:aE G G8:=(M.gg.trans J.gg).trans O.gg;have hlt:(g.getD 0 0).toNat < (cM st).length:=by
  have:=ad_ hc
  omega
 have hd:(cM st)[(g.getD 0 0).toNat]?=some (cM st)[(g.getD 0 0).toNat]:=abX hlt;rw[show mN st g=_ from by delta mN;rw[ad2 (by rw[hc];decide),ad2 (by rw[Y];decide),hd]] at k;generalize (cM st)[(g.getD 0 0).toNat]=d at hd k;obtain⟨us8,hq8,pr8⟩:=A8.c2.at_;obtain⟨u,hu,ru⟩:=cw pr8 hd;refine cB A8.ex.gh (R:=sO K t) (x:=d) (kP (F1 (a0 rfl A8.ob T.aH T.d7 qN) (ab rfl wd (J.gg.trans O.gg)) hq8 hn0 hu) fun G' s'=>aK.mono s' ru) fun X_ G7 H7 e7 we=> ?_
 have A7:=A8.later e7;obtain⟨us7,hq7,pr7⟩:=A7.c2.at_;have hl7:us7.length=(cM st).length:=aw pr7;refine zW A7.ex.gh (R:=sO K t) (jo (bX (iP T (aR we)) (g1 (s8.trans e7.gg) rfl))) (a0 rfl A7.ob T.aH T.d7 qN) (ab rfl wd ((J.gg.trans O.gg).trans e7.gg)) hq7 hn0 (by lia) fun v_e G6 H6 e6 Tr=> ?_
 have A6:=(A7.later e6).put2 (kf (aq e6.gg pr7) Tr (g.getD 0 0).toNat);exact cf A6.ex.gh (R:=ag af) (x:=[d.2.1]) (bG (aI (mx T (ab rfl we e6.gg)) bu) sl1) fun v G2 H2 U r2=>k v G2 H2 ⟨p,dx,a1,a2,a3,a4,rfl,A6.later U⟩ (((s8.trans e7.gg).trans e6.gg).trans U.gg) r2
end
end Cw
namespace Cw
open PySem PySem.Spec PyProof.Rows L2 My
section
variable {P:dn}{w:fx}{K:b0}{mg:gp}{base:Heap}{t:jC}
abbrev pR:Df:=⟨"add_roll",130,["state","given"],fun K t=>Fj K t (fun st g=>jT st/\aW 2 g) gD⟩
def IV:dP ["state","given"] pR:=by walk_at"s"
def JE (F:bh K pR f fd)(T:Txt K mg t)(J:yY P w K mg base 1 "Roll" t.uv ["self","length","begins"] (eE t.uv ["length","begins"]))(dX:aL P w K mg base t 1 ic)(cG:aL P w K mg base t 1 gS):dO P w K mg base t 3 f fd pR:=by
 refine jE F IV fun cdv A' outer s H E hr=>⟨_,(aa (a_ (PW.pt (tO (fJ (de (bJ cG hr (cD (cW (dZ K) bz ai) ai (g8 T.CN rfl))))) (qr (ka iG (cW (dZ K) bz ai) (aF K aN))))) (ae (aj (az (aG (g8 T.bN rfl))))) aD) (ae (aj (bJ dX hr (cD (aF K aN) (g8 T.Nz rfl) (sL J hr (by decide) rfl (aY (cW (dZ K) bz ai) (cW (dZ K) bz ai)))))))), ?_⟩
 intro G0 H0 G p dx a1 a2 a3 a4 vg st g A ay hp D k;obtain⟨p1,p2⟩:=hp;obtain⟨hg0,hn0,hm0⟩:=bf p2 (i:=0) (by decide);have g0:∀{σ:L2.St} {G1 H1:Hp},aE G G1->σ[1]?=some (some vg)->RE (il (gF K) (cc 1) (tC (.int 0))) σ G1 H1 af (g.getD 0 0):=fun s1 b=>aJ (ab b ay s1) ao (by decide) hg0
 obtain⟨hg1,hn1,hm1⟩:=bf p2 (i:=1) (by decide);have g1:∀{σ:L2.St} {G1 H1:Hp},aE G G1->σ[1]?=some (some vg)->RE (il (gF K) (cc 1) (tC (.int 1))) σ G1 H1 af (g.getD 1 0):=fun s1 b=>aJ (ab b ay s1) ao (by decide) hg1
 refine eR A.ex.gh (d:= !aX (g.getD 0 0) 1 10000||decide (dE st<=g.getD 1 0)) (oE (fB (bZ (ak (fY (g0 sr rfl) ao ao) trivial))) fun _=>dj (g7 (g1 sr rfl) (kP (a0 rfl A.ob T.aH T.el uW) fun _ _=>rfl))) (fun hc G9 H9 M=> ?_) (fun hc G9 H9 M=> ?_)
 .rw[show gD st g=(st,[-22]) from by delta gD;rw[ad3 hc]] at k;exact cf (M).gh (x:=[-22]) cQ fun v Z H2 O r2=>k v Z H2 ⟨p,dx,a1,a2,a3,a4,rfl,A.later ((M).trans O)⟩ (((M).trans O).gg) r2
 have U:=A.later M;obtain⟨us,hq,pr⟩:=U.c4.at_;have Y:(us.length:Int)=((bV st).length:Int):=by rw[aw pr]
 refine Ke (m:=3) U.ex.gh (a0 rfl U.ob T.aH T.fj xf) ao (jo (bX (g0 M.gg rfl) (g1 M.gg rfl))) hq U.c4.gn ?_ (fun L v Z H2 O r2=> ?_) (fun L v u G8 H8 Z H2 e8 r8 O r2=> ?_)
 .have h9:us.length=(bV st).length:=aw pr;rw[h9];exact adb p1.ol (by decide)
 .rw[Y] at L;rw[show gD st g=(st,[-28]) from by delta gD c_;rw[ad2 (by rw[hc];decide),ad3 (adZ L)]] at k;exact k v Z H2 (xi5 p dx a1 a2 a3 ⟨a4,rfl,U.later O⟩) (M.gg.trans O.gg) r2
 .have A8:=(U.later e8).ZC (Paired.snoc (aq e8.gg pr) r8);rw[Y] at r2 L;rw[show gD st g=(xM st (bV st++[(g.getD 0 0,g.getD 1 0,())]),[((bV st).length:Int)]) from by delta gD c_;rw[ad2 (by rw[hc];decide),ad2 (fun z=>absurd (aea z) (by lia))]] at k;exact k v Z H2 (xi5 p dx a1 a2 a3 ⟨a4,rfl,A8.later O⟩) (M.gg.trans (e8.gg.trans O.gg)) r2
abbrev lF:Df:=⟨"remove_roll",131,["state","given"],fun K t=>Fj K t (fun st g=>jT st/\aW 1 g) ki⟩
def Ah:dP ["state","given"] lF:=by walk_at"s"
def A_ (F:bh K lF f fd)(T:Txt K mg t)(c7:aL P w K mg base t 1 fq):dO P w K mg base t 2 f fd lF:=by
 refine jE F Ah fun cdv A' _ s H E hr=>⟨_,(ae (aj (bJ c7 hr (aY (aF K aN) (cW (dZ K) bz ai))))), ?_⟩
 intro G0 H0 G p dx a1 a2 a3 a4 vg st g A ay hp D k;obtain⟨p1,p2⟩:=hp;obtain⟨U,O,hm0⟩:=bf p2 (i:=0) (by decide);have g0:∀{σ:L2.St} {G1 H1:Hp},aE G G1->σ[1]?=some _->RE (il (gF K) _ _) σ G1 H1 _ _:=fun s1 b=>aJ (ab b ay s1) ao (by decide) U
 obtain⟨us,hq,pr⟩:=A.c4.at_;have L:(us.length:Int)=((bV st).length:Int):=by rw[aw pr]
 refine Oq A.ex.gh (a0 rfl A.ob T.aH T.fj xf) (g0 sr rfl) hq A.c4.gn O (by lia) (fun J v Z H2 M r2=> ?_) (fun J v G8 H8 Z H2 Y M r2=> ?_)
 .rw[L] at J;rw[show ki st g=_ from by delta ki cV;rw[ad3 (adZ J)]] at k;exact k v Z H2 (xi5 p dx a1 a2 a3 ⟨a4,rfl,A.later M⟩) M.gg r2
 .have A8:=(A.later Y).ZC (jr (aq Y.gg pr) (g.getD 0 0).toNat);rw[L] at r2 J;rw[show ki st g=_ from by delta ki cV;rw[ad2 (fun z=>absurd (aea z) (by lia))]] at k;exact k v Z H2 (xi5 p dx a1 a2 a3 ⟨a4,rfl,A8.later M⟩) (Y.gg.trans M.gg) r2
abbrev pQ:Df:=⟨"add_room",149,["state","given"],fun K t=>Fj K t (fun st g=>jT st/\aW 2 g) gC⟩
def IU:dP ["state","given"] pQ:=by walk_at"s"
def JD (F:bh K pQ f fd)(T:Txt K mg t)(J:yY P w K mg base 1 "Room" t.cRoom ["self","across","along","doors","sides"] (eE t.cRoom ["across","along","doors","sides"]))(dX:aL P w K mg base t 1 ic)(cG:aL P w K mg base t 1 gS):dO P w K mg base t 3 f fd pQ:=by
 refine jE F IU fun cdv A' outer s H E hr=>⟨_,(aa (a_ (PW.pt (tO (fJ (de (bJ cG hr (cD (cW (dZ K) bz ai) ai (g8 T.uB rfl))))) (qr (fJ (de (bJ cG hr (cD (cW (dZ K) bz ai) ai (g8 T.uB rfl)))))))) (ae (aj (az (aG (g8 T.bN rfl))))) aD) (ae (aj (bJ dX hr (cD (aF K aN) (g8 T.Ny rfl) (sL J hr (by decide) rfl (gG (cW (dZ K) bz ai) (cD (cW (dZ K) bz ai) (az eU) (az eU))))))))), ?_⟩
 intro G0 H0 G p dx a1 a2 a3 a4 vg st g A ay hp D k;obtain⟨p1,p2⟩:=hp;obtain⟨hg0,hn0,hm0⟩:=bf p2 (i:=0) (by decide);have g0:∀{σ:L2.St} {G1 H1:Hp},aE G G1->σ[1]?=some (some vg)->RE (il (gF K) (cc 1) (tC (.int 0))) σ G1 H1 af (g.getD 0 0):=fun s1 b=>aJ (ab b ay s1) ao (by decide) hg0
 obtain⟨hg1,hn1,hm1⟩:=bf p2 (i:=1) (by decide);have g1:∀{σ:L2.St} {G1 H1:Hp},aE G G1->σ[1]?=some (some vg)->RE (il (gF K) (cc 1) (tC (.int 1))) σ G1 H1 af (g.getD 1 0):=fun s1 b=>aJ (ab b ay s1) ao (by decide) hg1
 refine eR A.ex.gh (d:= !aX (g.getD 0 0) 1 200|| !aX (g.getD 1 0) 1 200) (oE (fB (bZ (ak (fY (g0 sr rfl) ao ao) trivial))) fun _=>fB (bZ (ak (fY (g1 sr rfl) ao ao) trivial))) (fun hc G9 H9 M=> ?_) (fun hc G9 H9 M=> ?_)
 .rw[show gC st g=(st,[-22]) from by delta gC;rw[ad3 hc]] at k;exact cf (M).gh (R:=ag af) (x:=[-22]) cQ fun v Z H2 O r2=>k v Z H2 ⟨p,dx,a1,a2,a3,a4,rfl,A.later ((M).trans O)⟩ (((M).trans O).gg) r2
 have U:=A.later M;obtain⟨us,hq,pr⟩:=U.c3.at_;have Y:(us.length:Int)=((aA st).length:Int):=by rw[aw pr]
 refine Ke (R:=eF K t) (m:=3) U.ex.gh (a0 rfl U.ob T.aH T.bR iX) ao (jo (bE (g0 M.gg rfl) (fY (g1 M.gg rfl) wI wI))) hq U.c3.gn ?_ (fun L v Z H2 O r2=> ?_) (fun L v u G8 H8 Z H2 e8 r8 O r2=> ?_)
 .have h9:us.length=(aA st).length:=aw pr;rw[h9];exact adb p1.rl (by decide)
 .rw[Y] at L;rw[show gC st g=(st,[-28]) from by delta gC c_;rw[ad2 (by rw[hc];decide),ad3 (adZ L)]] at k;exact k v Z H2 (xi5 p dx a1 a2 a3 ⟨a4,rfl,U.later O⟩) (M.gg.trans O.gg) r2
 .have A8:=(U.later e8).put3 (Paired.snoc (aq e8.gg pr) r8);rw[Y] at r2 L;rw[show gC st g=(dH st (aA st++[(g.getD 0 0,g.getD 1 0,[],[],())]),[((aA st).length:Int)]) from by delta gC c_;rw[ad2 (by rw[hc];decide),ad2 (fun z=>absurd (aea z) (by lia))]] at k;exact k v Z H2 (xi5 p dx a1 a2 a3 ⟨a4,rfl,A8.later O⟩) (M.gg.trans (e8.gg.trans O.gg)) r2
abbrev lE:Df:=⟨"remove_room",150,["state","given"],fun K t=>Fj K t (fun st g=>jT st/\aW 1 g) jh⟩
def Ag:dP ["state","given"] lE:=by walk_at"s"
def AZ (F:bh K lE f fd)(T:Txt K mg t)(c7:aL P w K mg base t 1 fq):dO P w K mg base t 2 f fd lE:=by
 refine jE F Ag fun cdv A' _ s H E hr=>⟨_,(ae (aj (bJ c7 hr (aY (aF K aN) (cW (dZ K) bz ai))))), ?_⟩
 intro G0 H0 G p dx a1 a2 a3 a4 vg st g A ay hp D k;obtain⟨p1,p2⟩:=hp;obtain⟨U,O,hm0⟩:=bf p2 (i:=0) (by decide);have g0:∀{σ:L2.St} {G1 H1:Hp},aE G G1->σ[1]?=some _->RE (il (gF K) _ _) σ G1 H1 _ _:=fun s1 b=>aJ (ab b ay s1) ao (by decide) U
 obtain⟨us,hq,pr⟩:=A.c3.at_;have L:(us.length:Int)=((aA st).length:Int):=by rw[aw pr]
 refine Oq A.ex.gh (a0 rfl A.ob T.aH T.bR iX) (g0 sr rfl) hq A.c3.gn O (by lia) (fun J v Z H2 M r2=> ?_) (fun J v G8 H8 Z H2 Y M r2=> ?_)
 .rw[L] at J;rw[show jh st g=_ from by delta jh cV;rw[ad3 (adZ J)]] at k;exact k v Z H2 (xi5 p dx a1 a2 a3 ⟨a4,rfl,A.later M⟩) M.gg r2
 .have A8:=(A.later Y).put3 (jr (aq Y.gg pr) (g.getD 0 0).toNat);rw[L] at r2 J;rw[show jh st g=_ from by delta jh cV;rw[ad2 (fun z=>absurd (aea z) (by lia))]] at k;exact k v Z H2 (xi5 p dx a1 a2 a3 ⟨a4,rfl,A8.later M⟩) (Y.gg.trans M.gg) r2
abbrev xq:Df:=⟨"begin",126,["state","given"],fun K t=>Fj K t (fun st g=>jT st/\aW 3 g) sy⟩
def RP:dP ["state","given"] xq:=by walk_at"s"
def SF (F:bh K xq f fd)(T:Txt K mg t)(cG:aL P w K mg base t 1 gS)(J:CMt P w K mg base 1 t.cj "start" ["self","repeat","drop","wide"] (xD t)):dO P w K mg base t 2 f fd xq:=by
 refine jE F RP fun cdv A' outer s H E hr=>⟨_,(aa (a_ (PW.pt (tO (fJ (de (bJ cG hr (cD (cW (dZ K) bz ai) ai (g8 T.Lf rfl))))) (tO (ka iG (cW (dZ K) bz ai) (cW (dZ K) bz ai)) (qr (fJ (de (bJ cG hr (cD (cW (dZ K) bz ai) ai (g8 T.yw rfl))))))))) (ae (aj (az (aG (g8 T.bN rfl))))) aD) (aa (bS (So J hr (by decide) aN (cD (cW (dZ K) bz ai) (cW (dZ K) bz ai) (cW (dZ K) bz ai)))) (aa (c9 K aN Jl) (ae (aj (az (aG ai))))))), ?_⟩
 intro G0 H0 G p dx a1 a2 a3 a4 Z st g A ay hp D k;obtain⟨p1,p2⟩:=hp;obtain⟨hg0,hn0,hm0⟩:=bf p2 (i:=0) (by decide);have g0:∀{σ:L2.St} {M H1:Hp},aE G M->σ[1]?=some (some Z)->RE (il (gF K) (cc 1) (tC (.int 0))) σ M H1 af (g.getD 0 0):=fun O b=>aJ (ab b ay O) ao (by decide) hg0
 obtain⟨hg1,hn1,hm1⟩:=bf p2 (i:=1) (by decide);have g1:∀{σ:L2.St} {M H1:Hp},aE G M->σ[1]?=some (some Z)->RE (il (gF K) (cc 1) (tC (.int 1))) σ M H1 af (g.getD 1 0):=fun O b=>aJ (ab b ay O) ao (by decide) hg1
 obtain⟨hg2,hn2,hm2⟩:=bf p2 (i:=2) (by decide);have g2:∀{σ:L2.St} {M H1:Hp},aE G M->σ[1]?=some (some Z)->RE (il (gF K) (cc 1) (tC (.int 2))) σ M H1 af (g.getD 2 0):=fun O b=>aJ (ab b ay O) ao (by decide) hg2
 refine eR A.ex.gh (d:= !aX (g.getD 0 0) 1 60||(decide (g.getD 0 0<=g.getD 1 0)|| !aX (g.getD 2 0) 1 60)) (oE (fB (bZ (ak (fY (g0 sr rfl) ao ao) trivial))) fun _=>oE (dj (g7 (g1 sr rfl) (g0 sr rfl))) fun _=>fB (bZ (ak (fY (g2 sr rfl) ao ao) trivial))) (fun hc G9 H9 L=> ?_) (fun hc G9 H9 L=> ?_)
 .rw[show sy st g=(st,[-22]) from by delta sy;rw[ad3 hc]] at k;exact cf (L).gh (x:=[-22]) cQ fun v G2 H2 U r2=>k v G2 H2 ⟨p,dx,a1,a2,a3,a4,rfl,A.later ((L).trans U)⟩ (((L).trans U).gg) r2
 have A9:=A.later L;rw[show sy st g=((true,g.getD 0 0,g.getD 1 0,g.getD 2 0,[],[],[],[],()),[0]) from by delta sy;rw[ad2 (by rw[hc];decide)]] at k;refine⟨_,rfl,p,dx,_,rfl,A9.ob,rfl, ?_⟩;refine(bE (g0 L.gg rfl) (bX (g1 L.gg rfl) (g2 L.gg rfl)):RA _ _ G9 _ (AC af (AC af (AC af A0))) (g.getD 0 0,g.getD 1 0,g.getD 2 0,())) G9 _ (Ext.refl A9.ex.gh) _ fun vs G3 H3 e3 z0=> ?_;obtain⟨v1,r1,q1,z1,v2,r2,q2,z2,v3,r3,q3,z3,z4⟩:=z0
 subst q1 q2 q3;subst z1;subst z2;subst z3;subst z4;have Y:=A9.later e3;refine xi5 p dx (.bl st.1) _ (g.getD 0 0) (xi2 (g.getD 1 0) (g.getD 2 0) ⟨rfl,Y.ob,.inr (xi5 _ _ _ _ _ ⟨_,_,rfl⟩),fun H4 S4=> ?_⟩);obtain⟨b1,b2,b3,b4,A4⟩:=sR.rD (K:=K) S4 Y.ex Y.f0 Y.gn Y.ob trivial;refine w_fld (R:=dQ) (x:=true) A4.ex.gh NW rfl A4.ob T.aH T.mB (show 8 < 1000 by decide) fun v5 G5 H5 e5 r5=> ?_
 subst r5;have A5:=(A4.later e5).VZ (b:=true) (r:=g.getD 0 0) (d:=g.getD 1 0) (w:=g.getD 2 0);exact cf A5.ex.gh (x:=[0]) cQ fun v G2 H2 U r2=>k v G2 H2 ⟨p,dx,b1,b2,b3,b4,rfl,A5.later U⟩ (((L.gg.trans e3.gg).trans e5.gg).trans U.gg) r2
abbrev pM:Df:=⟨"set_wide",127,["state","given"],fun K t=>Fj K t (fun st g=>jT st/\aW 1 g) vT⟩
def yC:dP ["state","given","before"] pM:=by walk_at"s"
def Js (F:bh K pM f fd)(T:Txt K mg t)(cG:aL P w K mg base t 1 gS):dO P w K mg base t 2 f fd pM:=by
 refine jE F yC fun cdv A' outer s H E hr=>⟨_,(aa (a_ (fJ (de (bJ cG hr (cD (cW (dZ K) bz ai) ai (g8 T.yw rfl))))) (ae (aj (az (aG (g8 T.bN rfl))))) aD) (aa (dC 2 yC.nd (aF K aN)) (aa (c9 K aN (cW (dZ K) bz ai)) (ae (aj (az (aG bP))))))), ?_⟩
 intro G0 H0 G p dx a1 a2 a3 a4 vg st g A ay hp D k;obtain⟨p1,p2⟩:=hp;obtain⟨M,hn0,hm0⟩:=bf p2 (i:=0) (by decide);have g0:∀{σ:L2.St} {Y H1:Hp},aE G Y->σ[1]?=some (some vg)->RE (il (gF K) (cc 1) (tC (.int 0))) σ Y H1 af (g.getD 0 0):=fun s1 b=>aJ (ab b ay s1) ao (by decide) M
 refine eR A.ex.gh (d:= !aX (g.getD 0 0) 1 60) (fB (bZ (ak (fY (g0 sr rfl) ao ao) trivial))) (fun hc G9 H9 J=> ?_) (fun hc G9 H9 J=> ?_)
 .rw[show vT st g=(st,[-22]) from by delta vT;rw[ad3 hc]] at k;exact cf (J).gh cQ fun v U H2 L r2=>k v U H2 ⟨p,dx,a1,a2,a3,a4,rfl,A.later ((J).trans L)⟩ (((J).trans L).gg) r2
 have Z:=A.later J;rw[show vT st g=((st.1,st.2.1,st.2.2.1,g.getD 0 0,st.2.2.2.2),[di st]) from by delta vT;rw[ad2 (by rw[hc];decide)]] at k;refine cB Z.ex.gh (R:=af) (kP (a0 rfl Z.ob T.aH T.k5 Wu) fun _ _=>rfl) fun v_b Y H1 O Ol=> ?_
 have A1:=Z.later O;refine w_fld (R:=af) A1.ex.gh (g0 (J.gg.trans O.gg) rfl) rfl A1.ob T.aH T.k5 (show 8 < 1000 by decide) fun v5 G5 H5 e5 r5=> ?_
 subst r5;have A5:=(A1.later e5).VZ (b:=st.1) (r:=st.2.1) (d:=st.2.2.1) (w:=g.getD 0 0);exact cf A5.ex.gh (bG (aI (by walk_at"re") bu) sl1) fun v U H2 L r2=>k v U H2 ⟨p,dx,a1,a2,a3,a4,rfl,A5.later L⟩ (((J.gg.trans O.gg).trans e5.gg).trans L.gg) r2
abbrev pN:Df:=⟨"set_drop",128,["state","given"],fun K t=>Fj K t (fun st g=>jT st/\aW 1 g) vW⟩
def yD:dP ["state","given","before"] pN:=by walk_at"s"
def Ju (F:bh K pN f fd)(T:Txt K mg t):dO P w K mg base t 2 f fd pN:=by
 refine jE F yD fun cdv A' outer s H E hr=>⟨_,(aa (a_ (ka iG (cW (dZ K) bz ai) (aF K aN)) (ae (aj (az (aG (g8 T.bN rfl))))) aD) (aa (dC 2 yD.nd (aF K aN)) (aa (c9 K aN (cW (dZ K) bz ai)) (ae (aj (az (aG bP))))))), ?_⟩
 intro G0 H0 G p dx a1 a2 a3 a4 vg st g A ay hp D k;obtain⟨p1,p2⟩:=hp;obtain⟨M,hn0,hm0⟩:=bf p2 (i:=0) (by decide);have g0:∀{σ:L2.St} {Z H1:Hp},aE G Z->σ[1]?=some (some vg)->RE (il (gF K) (cc 1) (tC (.int 0))) σ Z H1 af (g.getD 0 0):=fun s1 b=>aJ (ab b ay s1) ao (by decide) M
 refine eR A.ex.gh (dj (g7 (g0 sr rfl) (kP (a0 rfl A.ob T.aH T.el uW) fun _ _=>rfl))) (fun hc G9 H9 J=> ?_) (fun hc G9 H9 J=> ?_)
 .rw[show vW st g=(st,[-22]) from by delta vW;rw[ad3 hc]] at k;exact cf (J).gh cQ fun v Y H2 L r2=>k v Y H2 ⟨p,dx,a1,a2,a3,a4,rfl,A.later ((J).trans L)⟩ (((J).trans L).gg) r2
 have A9:=A.later J;rw[show vW st g=((st.1,st.2.1,g.getD 0 0,st.2.2.2.1,st.2.2.2.2),[jI st]) from by delta vW;rw[ad2 (by rw[hc];decide)]] at k;refine cB A9.ex.gh (kP (a0 rfl A9.ob T.aH T.hZ N4) fun _ _=>rfl) fun v_b Z H1 U Ol=> ?_
 have A1:=A9.later U;refine w_fld A1.ex.gh (g0 (J.gg.trans U.gg) rfl) rfl A1.ob T.aH T.hZ (show 8 < 1000 by decide) fun v5 G5 H5 O r5=> ?_
 subst r5;have A5:=(A1.later O).VZ (b:=st.1) (r:=st.2.1) (d:=g.getD 0 0) (w:=st.2.2.2.1);exact cf A5.ex.gh (bG (aI (ab rfl Ol O.gg) bu) sl1) fun v Y H2 L r2=>k v Y H2 ⟨p,dx,a1,a2,a3,a4,rfl,A5.later L⟩ (((J.gg.trans U.gg).trans O.gg).trans L.gg) r2
end
end Cw
namespace Cw
open PySem PySem.Spec PyProof.Rows L2 My
def del (G:Hp)(p:dr):Hp:=fun b=>if b=p then none else G b
def B9:del G p p=none:=ad3 rfl
def B_ (h:b≠p):del G p b=G b:=ad2 h
def aaB (h:del G p b=some o):b≠p/\G b=some o:=by
 by_cases z:b=p
 .rw[z,B9] at h;contradiction
 .rw[B_ z] at h;exact⟨z,h⟩
def Ext.undo (e:Ext (upd G p o) H G2 H2)(g:G p=none):Ext G H (del G2 p) H2:=
 ⟨fun b u L=>by
  have J:b≠p:=fun z=>by lia
  rw[B_ J];exact e.gg b u (by rw[ax J];exact L),e.hh,⟨fun b u L=>e.gh.at_ b u (aaB L).2,by
  by_cases z:dD=p
  .rw[z];exact B9
  .rw[B_ z];exact e.gh.gt,e.gh.tab⟩,fun b L M=>by
  by_cases z:b=p
  .rw[z];exact B9
  .rw[B_ z];exact e.fr b L (by rw[ax z];exact M)⟩
def R9 (h:H p=some (.ins C dx fs))(g:G p=none)(M:RE te σ (upd G p (.ins C dx fs)) H (ag af) xs):RE te σ G H (ag af) xs:=fun G' H' e Q q=>
 M _ _ (e.lift h g trivial) _ fun v Z H2 L ⟨a,vs,Y,O,pr⟩=>by
  have U:=L.gg _ _ ah;have J:a≠p:=fun z=>by lia
  exact q v _ H2 (Ext.undo L (e.keeps h g)) ⟨a,vs,Y,by rw[B_ J];exact O,pr⟩
def OY {K:b0}{xs:List a}(s:Sub G H)(h:RA ta σ G H (AC (ag R) A0) (xs,()))(k:∀p vs G' H',Ext G H G' H'->Paired (R G') vs xs->H' p=none->u D (σ.set i (some (.ref p))) (upd H' p (.lst vs))):rC (tp (CU (fun xs H Q=>∃p ys,xs=[.ref p]/\(dh K H p ys\/mO K H p ys)/\ ∀l,H l=none->Q (.ref l) (upd H l (.lst ys))) ta) (i5 i)) u D σ H:=
 h G H (Ext.refl s) _ fun vs G1 H1 J ⟨v,r,Z,⟨p,us,U,L,M⟩,Y⟩=>by
  subst Z U;subst Y;exact xi2 p us ⟨rfl,.inl (dh.of (J.gh _ _ L)),fun l O=>k l us G1 H1 J M O⟩
section
variable {K:b0}{t:jC}{G0 H0 G H G' H':Hp}{p dx a1 a2 a3 a4 q:dr}{st:aC}
def sR.G_ (A:sR K t G0 H0 G H p dx a1 a2 a3 a4 st)(Y:H0 q=none)(g:G q=none)(h:H q=some (.lst us))(U:a1≠q)(O:a2≠q)(M:a3≠q)(L:a4≠q):sR K t G0 H0 (upd G q (.lst us)) H p dx a1 a2 a3 a4 st:=by
 have J:p≠q:=fun z=>by rw[<- z,A.ob] at h;cases h
 have s:=bB (o:=.lst us) g;exact⟨A.ex.freeze Y g h,A.f0,by rw[ax J];exact A.gn,A.ob,A.c1.mono s (by rw[ax U];exact A.c1.gn),A.c2.mono s (by rw[ax O];exact A.c2.gn),A.c3.mono s (by rw[ax M];exact A.c3.gn),A.c4.mono s (by rw[ax L];exact A.c4.gn),A.ne⟩
def sR.asideL (A:sR K t G0 H0 G H p dx a1 a2 a3 a4 st)(Y:H0 q=none)(g:G q=none)(h:H q=some (.lst us))(U:a1≠q)(O:a2≠q)(M:a3≠q)(L:a4≠q):sR K t G0 H0 G (upd H q (.lst vs)) p dx a1 a2 a3 a4 st:=by
 have J:p≠q:=fun z=>by rw[<- z,A.ob] at h;cases h
 exact⟨A.ex.put Y g h,A.f0,A.gn,by rw[ax J];exact A.ob,A.c1.fF U,A.c2.fF O,A.c3.fF M,A.c4.fF L,A.ne⟩
structure UQ (K:b0)(t:jC)(G0 H0 G H:Hp)(p dx a1 a2 a3 a4:dr)(st:aC):Prop where
 ex:Ext G0 H0 G H
 f0:H0 p=none
 gn:G p=none
 ob:H p=some (.ins t.cj dx (II (.bl st.1) st.2.1 st.2.2.1 st.2.2.2.1 a1 a2 a3 a4))
 c1:ag (u9 K t) G (.ref a1) st.2.2.2.2.1
 c2:ag (sO K t) G (.ref a2) st.2.2.2.2.2.1
 c3:ag (eF K t) G (.ref a3) st.2.2.2.2.2.2.1
 c4:ag (qb K t) G (.ref a4) st.2.2.2.2.2.2.2.1
def UQ.later (A:UQ K t G0 H0 G H p dx a1 a2 a3 a4 st)(e:Ext G H G' H'):UQ K t G0 H0 G' H' p dx a1 a2 a3 a4 st:=
 ⟨A.ex.trans e,A.f0,e.keeps A.ob A.gn,(e.hh _ _ A.ob).is trivial,aK.mono e.gg A.c1,aK.mono e.gg A.c2,aK.mono e.gg A.c3,aK.mono e.gg A.c4⟩
def UQ.rs (A:UQ K t G0 H0 G H p dx a1 a2 a3 a4 st):aU K t (upd G p (.ins t.cj dx (II (.bl st.1) st.2.1 st.2.2.1 st.2.2.2.1 a1 a2 a3 a4))) (.ref p) st:=by
 have J:=bB (o:=.ins t.cj dx (II (.bl st.1) st.2.1 st.2.2.1 st.2.2.2.1 a1 a2 a3 a4)) A.gn;exact⟨p,dx,[.bl st.1,.int st.2.1,.int st.2.2.1,.int st.2.2.2.1,.ref a1,.ref a2,.ref a3,.ref a4],rfl,ah,rfl,⟨_,_,rfl,rfl,_,_,rfl,rfl,_,_,rfl,rfl,_,_,rfl,rfl,_,_,rfl,aK.mono J A.c1,_,_,rfl,aK.mono J A.c2,_,_,rfl,aK.mono J A.c3,_,_,rfl,aK.mono J A.c4,rfl⟩⟩
def UQ.freeze (A:UQ K t G0 H0 G H p dx a1 a2 a3 a4 st):∃G',Ext G0 H0 G' H/\aE G G'/\aU K t G' (.ref p) st:=
 ⟨_,A.ex.freeze A.f0 A.gn A.ob,bB A.gn,A.rs⟩
def UQ.put (A:UQ K t G0 H0 G H p dx a1 a2 a3 a4 st)(h1:ag (u9 K t) G (.ref b1) dy)(h2:ag (sO K t) G (.ref b2) ti)(L:ag (eF K t) G (.ref b3) ro)(J:ag (qb K t) G (.ref b4) rl):UQ K t G0 H0 G (upd H p (.ins t.cj dx (II (.bl b) r d w b1 b2 b3 b4))) p dx b1 b2 b3 b4 (b,r,d,w,dy,ti,ro,rl,()):=
 ⟨A.ex.put A.f0 A.gn A.ob,A.f0,A.gn,ah,h1,h2,L,J⟩
def sR.toO (A:sR K t G0 H0 G H p dx a1 a2 a3 a4 st):∃G',aE G G'/\UQ K t G0 H0 G' H p dx a1 a2 a3 a4 st:=by
 obtain⟨n1,n2,n3,n4,n5,n6⟩:=A.ne;obtain⟨us1,h1,e1,O,r1⟩:=pX A.c1 A.ex;have c2:=A.c2.mono O (by rw[ax n1.symm];exact A.c2.gn);obtain⟨Z,h2,e2,M,r2⟩:=pX c2 e1;have c3:=A.c3.mono (O.trans M) (by rw[ax n4.symm,ax n2.symm];exact A.c3.gn);obtain⟨Y,h3,e3,L,r3⟩:=pX c3 e2;have c4:=A.c4.mono ((O.trans M).trans L) (by rw[ax n6.symm,ax n5.symm,ax n3.symm];exact A.c4.gn);obtain⟨U,h4,e4,J,r4⟩:=pX c4 e3;have g5:(upd (upd (upd (upd G a1 (.lst us1)) a2 (.lst Z)) a3 (.lst Y)) a4 (.lst U)) p=none:=by
  rw[ax (Ne.symm (A.c4.ne A.ob)),ax (Ne.symm (A.c3.ne A.ob)),ax (Ne.symm (A.c2.ne A.ob)),ax (Ne.symm (A.c1.ne A.ob))];exact A.gn
 exact⟨_,((O.trans M).trans L).trans J,e4,A.f0,g5,A.ob,aK.mono ((M.trans L).trans J) r1,aK.mono (L.trans J) r2,aK.mono J r3,r4⟩
end
def EC {st:aC}(h:jT st)(h1:rs.length<=3)(h2:∀r∈rs,dM r):jT (dH st rs):=⟨⟨h.xx.rep,h.xx.drop,h.xx.wide⟩,h1,h2,h.dy,h.tl,h.ti,h.ol,h.ro⟩
def mem_set {l:List a}(h:y∈l.set i x):y∈l\/y=x:=List.mem_or_eq_of_mem_set h
def QL {xs:List a}(h:xs.length<=m):(c_ (m:Int) xs x).1.length<=m:=by
 delta c_
 grind
def LD (h:dM r):dM (iS r):=⟨h.al,h.ac,h.ns,h.nd⟩
def IK {st:aC}(h:jT st):jT (jf st g).1:=by
 delta jf;split
 .exact h
 .split
  .exact h
  .rename_i r L;refine EC h (by rw[acf];exact h.rl) fun x J=> ?_
   rcases mem_set J with J|rfl
   .exact h.rm x J
   .exact LD (h.rm r (acB L))
def Rx {st:aC}(h:jT st):jT (iF st g).1:=by
 delta iF;split
 .exact h
 .split
  .exact h
  .rename_i r L;split
   .exact h
   .refine EC h (by rw[acf];exact h.rl) fun x J=> ?_
    rcases mem_set J with J|rfl
    .exact h.rm x J
    .have z:=h.rm r (acB L);exact⟨z.ac,z.al,QL z.nd,z.ns⟩
section
variable {P:dn}{w:fx}{K:b0}{mg:gp}{base:Heap}{t:jC}
abbrev lp:Df:=⟨"turn_room",153,["state","given"],fun K t=>Fj K t (fun st g=>jT st/\ ∃n,aW (n+1) g) jf⟩
def rG:dP ["state","given","number","room"] lp:=by walk_at"s"
def Gh (F:bh K lp f fd)(T:Txt K mg t)(qZ:aL P w K mg base t 3 ow):dO P w K mg base t 4 f fd lp:=by
 refine jE F rG fun cdv A' outer s H E hr=>⟨_,(aa (dC 2 rG.nd (cW (dZ K) bz ai)) (aa (a_ (ka iG bP (nD T (aF K aN))) (ae (aj (az (aG (g8 T.dY rfl))))) aD) (aa (dC 3 rG.nd (cW (dZ K) (aF K aN) bP)) (aa (AB (bJ qZ hr (aG dJ)) (AG (aF K aN) bP set_list)) (ae (aj (az (aG (aF K dJ))))))))), ?_⟩
 intro G0 H0 G p dx a1 a2 a3 a4 vg st g A ay hp D k;obtain⟨p1,_,p2⟩:=hp;obtain⟨hg0,M,hm0⟩:=bf p2 (Nat.succ_pos _);have g0:∀{σ:L2.St} {Z H1:Hp},aE G Z->σ[1]?=some (some vg)->RE (il (gF K) (cc 1) (tC (.int 0))) σ Z H1 af (g.getD 0 0):=fun s1 b=>aJ (ab b ay s1) ao (by decide) hg0
 refine cB A.ex.gh (g0 sr rfl) fun O1 Z H1 U wd=> ?_
 have A1:=A.later U;obtain⟨us,hq,pr⟩:=A1.c3.at_;have hul:(us.length:Int)=((aA st).length:Int):=by rw[aw pr]
 refine eR A1.ex.gh (dj (RE.eq (g7 (aR wd) (mw (bp (a0 rfl A1.ob T.aH T.bR iX)) hq)) (by rw[hul]))) (fun hc G9 H9 J=> ?_) (fun hc G9 H9 J=> ?_)
 .rw[show jf st g=(st,[-2]) from by delta jf;rw[ad3 hc]] at k;exact cf (U.trans J).gh cQ fun v G2 H2 O r2=>k v G2 H2 ⟨p,dx,a1,a2,a3,a4,rfl,A.later ((U.trans J).trans O)⟩ (((U.trans J).trans O).gg) r2
 have A8:=A1.later J;have s8:aE G G9:=U.gg.trans J.gg;have hlt:(g.getD 0 0).toNat < (aA st).length:=by
  have:=ad_ hc
  omega
 have hd:=abX hlt;have hk:jf st g=(dH st ((aA st).set (g.getD 0 0).toNat (iS (aA st)[(g.getD 0 0).toNat])),[((aA st)[(g.getD 0 0).toNat]).2.1]):=by delta jf;rw[ad2 (by rw[hc];decide),hd]
 obtain⟨us8,hq8,pr8⟩:=A8.c3.at_;obtain⟨u,hu,ru⟩:=cw pr8 hd;refine cB A8.ex.gh (kP (F1 (a0 rfl A8.ob T.aH T.bR iX) (ab rfl wd J.gg) hq8 M hu) fun G' s'=>aK.mono s' ru) fun X_ G7 H7 e7 we=> ?_
 have A7:=A8.later e7;have s7:aE G G7:=s8.trans e7.gg;have sn:aE Z G7:=J.gg.trans e7.gg;rw[hk] at k;obtain⟨us7,hq7,L⟩:=A7.c3.at_;have hl7:us7.length=(aA st).length:=aw L;refine zW A7.ex.gh (ak (bp (aR we)) trivial) (a0 rfl A7.ob T.aH T.bR iX) (ab rfl wd sn) hq7 M (by lia) fun v_e G6 H6 Y Tr=> ?_
 have A6:=(A7.later Y).put3 (kf (aq Y.gg L) Tr (g.getD 0 0).toNat);exact cf A6.ex.gh (bG (aI (gu T (ab rfl we Y.gg)) bu) sl1) fun v G2 H2 O r2=>k v G2 H2 ⟨p,dx,a1,a2,a3,a4,rfl,A6.later O⟩ ((s7.trans Y.gg).trans O.gg) r2
abbrev nk:Df:=⟨"add_door",151,["state","given"],fun K t=>Fj K t (fun st g=>jT st/\aW 3 g) iF⟩
def mR:dP ["state","given","number","room","doors","answer"] nk:=by walk_at"s"
def JF (F:bh K nk f fd)(T:Txt K mg t)(m_Room:yY P w K mg base 1 "Room" t.cRoom ["self","across","along","doors","sides"] (eE t.cRoom ["across","along","doors","sides"]))(dX:aL P w K mg base t 1 ic):dO P w K mg base t 3 f fd nk:=by
 refine jE F mR fun cdv A' outer s H E hr=>⟨_,(aa (dC 2 mR.nd (cW (dZ K) bz ai)) (aa (a_ (ka iG bP (nD T (aF K aN))) (ae (aj (az (aG (g8 T.dY rfl))))) aD) (aa (dC 3 mR.nd (cW (dZ K) (aF K aN) bP)) (aa (a_ (PW.pt (tO (ka iG (cW (dZ K) bz ai) (cW (dZ K) bz ai)) (qr (ka wR (cW (dZ K) bz ai) (aF K dJ))))) (ae (aj (az (aG (g8 T.bN rfl))))) aD) (aa (dC 4 mR.nd (fw (Ck K) rfl T.oY p7 (aG (aF K dJ)))) (aa (dC 5 mR.nd (bJ dX hr (cD lO (g8 T.NA rfl) (oJ (aY (cW (dZ K) bz ai) (cW (dZ K) bz ai)))))) (aa (AB (sL m_Room hr (by decide) rfl (gG (aF K dJ) (cD (aF K dJ) lO (aF K dJ)))) (AG (aF K aN) bP set_list)) (ae (aj uQ))))))))), ?_⟩
 intro G0 H0 G p dx a1 a2 a3 a4 vg st g A ay hp D k;dsimp only[je,rd];obtain⟨p1,p2⟩:=hp;obtain⟨hg0,hn0,hm0⟩:=bf p2 (i:=0) (by decide);have g0:∀{σ:L2.St} {G1 H1:Hp},aE G G1->σ[1]?=some (some vg)->RE (il (gF K) (cc 1) (tC (.int 0))) σ G1 H1 af (g.getD 0 0):=fun s1 b=>aJ (ab b ay s1) ao (by decide) hg0
 obtain⟨hg1,hn1,hm1⟩:=bf p2 (i:=1) (by decide);have g1:∀{σ:L2.St} {G1 H1:Hp},aE G G1->σ[1]?=some (some vg)->RE (il (gF K) (cc 1) (tC (.int 1))) σ G1 H1 af (g.getD 1 0):=fun s1 b=>aJ (ab b ay s1) ao (by decide) hg1
 obtain⟨hg2,hn2,hm2⟩:=bf p2 (i:=2) (by decide);have g2:∀{σ:L2.St} {G1 H1:Hp},aE G G1->σ[1]?=some (some vg)->RE (il (gF K) (cc 1) (tC (.int 2))) σ G1 H1 af (g.getD 2 0):=fun s1 b=>aJ (ab b ay s1) ao (by decide) hg2
 refine cB A.ex.gh (R:=af) (x:=g.getD 0 0) (g0 sr rfl) fun O1 G1 H1 e1 wd=> ?_
 have A1:=A.later e1;obtain⟨us,hq,pr⟩:=A1.c3.at_;have hul:(us.length:Int)=((aA st).length:Int):=by rw[aw pr]
 refine eR A1.ex.gh (dj (RE.eq (g7 (aR wd) (mw (bp (a0 rfl A1.ob T.aH T.bR iX)) hq)) (by rw[hul]))) (fun hc G9 H9 U=> ?_) (fun hc G9 H9 U=> ?_)
 .rw[show iF st g=(st,[-2]) from by delta iF;rw[ad3 hc]] at k;exact cf (e1.trans U).gh (R:=ag af) (x:=[-2]) cQ fun v L H2 M r2=>k v L H2 ⟨p,dx,a1,a2,a3,a4,rfl,A.later ((e1.trans U).trans M)⟩ (((e1.trans U).trans M).gg) r2
 have A8:=A1.later U;have s8:aE G G9:=e1.gg.trans U.gg;have hlt:(g.getD 0 0).toNat < (aA st).length:=by
  have:=ad_ hc
  omega
 have hd:(aA st)[(g.getD 0 0).toNat]?=some (aA st)[(g.getD 0 0).toNat]:=abX hlt;have hk:iF st g=(if decide (g.getD 2 0<=g.getD 1 0)||decide (((aA st)[(g.getD 0 0).toNat]).1 < g.getD 2 0) then(st,[-22]) else(dH st ((aA st).set (g.getD 0 0).toNat (((aA st)[(g.getD 0 0).toNat]).1,((aA st)[(g.getD 0 0).toNat]).2.1,(c_ 5 ((aA st)[(g.getD 0 0).toNat]).2.2.1 (g.getD 1 0,g.getD 2 0)).1,((aA st)[(g.getD 0 0).toNat]).2.2.2.1,())),(c_ 5 ((aA st)[(g.getD 0 0).toNat]).2.2.1 (g.getD 1 0,g.getD 2 0)).2)):=by delta iF;rw[ad2 (by rw[hc];decide),hd]
 generalize (aA st)[(g.getD 0 0).toNat]=d at hd hk;obtain⟨us8,hq8,pr8⟩:=A8.c3.at_;obtain⟨u,hu,ru⟩:=cw pr8 hd;refine cB A8.ex.gh (R:=eF K t) (x:=d) (kP (F1 (a0 rfl A8.ob T.aH T.bR iX) (ab rfl wd U.gg) hq8 hn0 hu) fun G' s'=>aK.mono s' ru) fun X_ G7 H7 e7 we=> ?_
 have A7:=A8.later e7;have s7:aE G G7:=s8.trans e7.gg;have sn:aE G1 G7:=U.gg.trans e7.gg;refine eR A7.ex.gh (oE (dj (g7 (g1 s7 rfl) (g2 s7 rfl))) fun _=>dj (EG (g2 s7 rfl) (dm T (aR we)))) (fun hc2 G6 H6 e6=> ?_) (fun hc2 G6 H6 e6=> ?_)
 .rw[hk,ad3 hc2] at k;exact cf e6.gh (R:=ag af) (x:=[-22]) cQ fun v L H2 M r2=>k v L H2 ⟨p,dx,a1,a2,a3,a4,rfl,(A7.later e6).later M⟩ ((s7.trans e6.gg).trans M.gg) r2
 rw[hk,ad2 (by rw[hc2];decide)] at k;have hdl:d.2.2.1.length<=5:=(p1.rm d (acB hd)).nd;refine OY e6.gh (R:=gE K af af) (xs:=d.2.2.1) (bp (iA T (ab rfl we e6.gg))) fun q J G5 H5 e5 r5 O=> ?_
 have A5:=(A7.later e6).later e5;have m1:a1≠q:=let⟨_,z,_⟩:=A5.c1.at_;aS z O;have m2:a2≠q:=let⟨_,z,_⟩:=A5.c2.at_;aS z O;have m3:a3≠q:=let⟨_,z,_⟩:=A5.c3.at_;aS z O;have m4:a4≠q:=let⟨_,z,_⟩:=A5.c4.at_;aS z O;have h0q:H0 q=none:=A5.ex.hh.free O;have g5q:G5 q=none:=e5.gh.free O;have eo:=Ext.own (o:=.lst J) e5.gh O;have s65:aE G7 G5:=e6.gg.trans e5.gg;have hu5:J.length=d.2.2.1.length:=aw r5;refine Ke (R:=gE K af af) (m:=5) (q:=q) (us:=J) eo.gh (zC rfl) ao (FZ (bX (g1 (s7.trans s65) rfl) (g2 (s7.trans s65) rfl))) ah g5q (by lia) (fun hc9 v L H2 M r2=> ?_) (fun hc9 v u G8 H8 L H2 e8 r8 M r2=> ?_)
 .rw[show c_ 5 d.2.2.1 (g.getD 1 0,g.getD 2 0)=(d.2.2.1,[-28]) from by delta c_;rw[ad3 (adZ (by lia))]] at k;have A2:=(A5.later eo).later M;have h2q:H2 q=some (.lst J):=(M.hh _ _ ah).is trivial;have g2q:L q=none:=M.keeps ah g5q;have pq:=aq M.gg r5;have s72:aE G7 L:=s65.trans M.gg;have e3:=aE.refl (upd L q (.lst J));have A3:=A2.G_ h0q g2q h2q m1 m2 m3 m4;have s3:aE L (upd L q (.lst J)):=bB g2q;have hdr:ag (gE K af af) (upd L q (.lst J)) (.ref q) d.2.2.1:=⟨q,_,rfl,ah,aq s3 pq⟩
  have Y:aE G7 (upd L q (.lst J)):=s72.trans s3;obtain⟨us3,hq3,Z⟩:=A3.c3.at_;have hl3:us3.length=(aA st).length:=aw Z;refine zW A3.ex.gh (R:=eF K t) (jo (bE (dm T (ab rfl we Y)) (fY (gu T (ab rfl we Y)) (aR hdr) (iz T (ab rfl we Y))))) (a0 rfl A3.ob T.aH T.bR iX) (ab rfl wd (sn.trans Y)) hq3 hn0 (by lia) fun v_e G4 H4 e4 Tr=> ?_
  have A4:=(A3.later e4).put3 (kf (aq e4.gg Z) Tr (g.getD 0 0).toNat);exact cf A4.ex.gh (R:=ag af) (x:=[-28]) (ab rfl r2 (s3.trans e4.gg)) fun v G9 H9 U r9=>k v G9 H9 ⟨p,dx,a1,a2,a3,a4,rfl,A4.later U⟩ (((s7.trans Y).trans e4.gg).trans U.gg) r9
 .rw[show c_ 5 d.2.2.1 (g.getD 1 0,g.getD 2 0)=(d.2.2.1++[(g.getD 1 0,g.getD 2 0)],[(d.2.2.1.length:Int)]) from by delta c_;rw[ad2 (fun z=>absurd (aea z) (by lia))]] at k;rw[hu5] at r2;have h8q:H8 q=some (.lst J):=(e8.hh _ _ ah).is trivial;have g8q:G8 q=none:=e8.keeps ah g5q;have A2:=(((A5.later eo).later e8).asideL (vs:=J++[u]) h0q g8q h8q m1 m2 m3 m4).later M;have h2q:H2 q=some (.lst (J++[u])):=(M.hh _ _ ah).is trivial;have g2q:L q=none:=M.keeps ah g8q;have pq:=Paired.snoc (aq (e8.gg.trans M.gg) r5) (aK.mono M.gg r8);have s72:aE G7 L:=s65.trans (e8.gg.trans M.gg);have e3:=aE.refl (upd L q (.lst (J++[u])));have A3:=A2.G_ h0q g2q h2q m1 m2 m3 m4;have s3:aE L (upd L q (.lst (J++[u]))):=bB g2q;have hdr:ag (gE K af af) (upd L q (.lst (J++[u]))) (.ref q) (d.2.2.1++[(g.getD 1 0,g.getD 2 0)]):=xi2 q _ ⟨rfl,ah,aq s3 pq⟩
  have Y:aE G7 (upd L q (.lst (J++[u]))):=s72.trans s3;obtain⟨us3,hq3,Z⟩:=A3.c3.at_;have hl3:us3.length=(aA st).length:=aw Z;refine zW A3.ex.gh (R:=eF K t) (jo (bE (dm T (ab rfl we Y)) (fY (gu T (ab rfl we Y)) (aR hdr) (iz T (ab rfl we Y))))) (a0 rfl A3.ob T.aH T.bR iX) (ab rfl wd (sn.trans Y)) hq3 hn0 (by lia) fun v_e G4 H4 e4 Tr=> ?_
  have A4:=(A3.later e4).put3 (kf (aq e4.gg Z) Tr (g.getD 0 0).toNat);exact cf A4.ex.gh (R:=ag af) (ab rfl r2 (s3.trans e4.gg)) fun v G9 H9 U r9=>k v G9 H9 ⟨p,dx,a1,a2,a3,a4,rfl,A4.later U⟩ (((s7.trans Y).trans e4.gg).trans U.gg) r9
abbrev pP:Df:=⟨"add_side",152,["state","given"],fun K t=>Fj K t (fun st g=>jT st/\aW 3 g) HM⟩
def yF:dP ["state","given","answer"] pP:=by walk_at"s"
def JC (F:bh K pP f fd)(T:Txt K mg t)(pY:aL P w K mg base t 4 lp)(vZ:aL P w K mg base t 3 nk):dO P w K mg base t 5 f fd pP:=by
 refine jE F yF fun cdv A' outer s H E M=>⟨_,(aa (bS (bJ pY M (aY aN bz))) (aa (dC 2 yF.nd (bJ vZ M (aY aN bz))) (aa (bS (bJ pY M (aY aN bz))) (ae (aj bP))))), ?_⟩
 intro G0 H0 G p dx a1 a2 a3 a4 vg st g A Z hp D k;dsimp only[je,rd];obtain⟨L,p2⟩:=hp;refine TZ rfl rfl A Z ⟨L,2,p2⟩ fun v1 G1 H1 z0 J r1=> ?_;obtain⟨q1,d1,b1,b2,b3,b4,Y,A1⟩:=z0
 cases Y;refine TZ rfl rfl A1 (aK.mono J Z) ⟨IK L,p2⟩ fun v2 G2 H2 z0 s2 r2=> ?_;obtain⟨q2,d2,x1,x2,x3,x4,U,A2⟩:=z0
 cases U;refine TZ rfl rfl A2 (aK.mono (J.trans s2) Z) ⟨Rx (IK L),2,p2⟩ fun v3 G3 H3 z0 s3 r3=> ?_;obtain⟨q3,d3,y1,y2,y3,y4,O,A3⟩:=z0
 cases O;exact cf A3.ex.gh (ab rfl r2 s3) fun v G4 H4 e4 r4=>k v G4 H4 ⟨_,_,_,_,_,_,rfl,A3.later e4⟩ (((J.trans s2).trans s3).trans e4.gg) r4
abbrev nT:Df:=⟨"turn_best",155,["state","given"],fun K t=>Nu K t (fun st g=>jT st/\aW 0 g) eD⟩
def wA:dP ["state","given","best"] nT:=by walk_at"s"
def Gi (F:bh K nT f fd)(T:Txt K mg t)(gY:aL P w K mg base t 4 fR)(l8:aL P w K mg base t 9 f_):dO P w K mg base t 10 f fd nT:=by
 refine Uq F wA fun cdv A' outer s H E hr=>⟨_,(aa (dC 2 wA.nd (bJ l8 hr (aY aN bz))) (aa (a_ (ka iG (cW (dZ K) bP ai) ai) (ae (c9 K aN (bJ gY hr (aY (aF K aN) (cW (dZ K) bP ai))))) aD) (ae (aj bP)))), ?_⟩
 intro G0 H0 G p dx a1 a2 a3 a4 vg st g A ay hp D k;obtain⟨p1,p2⟩:=hp;obtain⟨G1,s1,O⟩:=A.toO;refine cB O.ex.gh (R9 O.ob O.gn (ak (bX (aR O.rs) (ab rfl ay (s1.trans (bB O.gn)))) p1)) fun v_b G2 H2 e2 Ol=> ?_
 have O2:=O.later e2;unfold mS at Ol;cases Z:eB (aA st) (di st) (jI st) (dE st) with
 |none=>
  rw[Z] at Ol;rw[show eD st g=(st,[-33]) from by delta eD;rw[Z]] at k;refine eR O2.ex.gh (dj (g7 (aJ (aR Ol) ao (by decide) rfl) ao)) (fun hc=>absurd hc (by decide)) (fun hc G3 H3 J=> ?_);refine cf J.gh (ab rfl Ol J.gg) fun v G4 H4 L Y=> ?_
  obtain⟨G5,x5,M,U⟩:=((O2.later J).later L).freeze;exact k v G5 H4 x5 ((((s1.trans e2.gg).trans J.gg).trans L.gg).trans M) U (aK.mono M Y)
 |some b=>
  rw[Z] at Ol;refine eR O2.ex.gh (dj (g7 (aJ (aR Ol) ao (by decide) rfl) ao)) (fun hc G3 H3 J=> ?_) (fun hc G3 H3 J=> ?_)
  .rw[show eD st g=(dH st (bM (aA st) b.2),[b.1,b.2]) from by delta eD;rw[Z];exact ad3 hc] at k;have O3:=O2.later J;refine Q8 O3.ex.gh (ak (bX (kP (a0 rfl O3.ob T.aH T.bR iX) fun G' s'=>aK.mono s' O3.c3) (aJ (ab rfl Ol J.gg) ao (by decide) rfl)) p1.rl) rfl O3.ob T.aH T.bR (show 8 < 1000 by decide) fun v5 G5 H5 e5 U=> ?_
   have O5:=O3.later e5;obtain⟨q5,us5,ev5,hq5,pr5⟩:=U;subst ev5;have O6:=O5.put (b:=st.1) (r:=st.2.1) (d:=st.2.2.1) (w:=st.2.2.2.1) O5.c1 O5.c2 ⟨q5,us5,rfl,hq5,pr5⟩ O5.c4;refine cf O6.ex.gh (ab rfl Ol (J.gg.trans e5.gg)) fun v G4 H4 L Y=> ?_
   obtain⟨G7,x7,s7,r7⟩:=(O6.later L).freeze;exact k v G7 H4 x7 (((((s1.trans e2.gg).trans J.gg).trans e5.gg).trans L.gg).trans s7) r7 (aK.mono s7 Y)
  .rw[show eD st g=(st,[b.1,b.2]) from by delta eD;rw[Z];exact ad2 (by rw[hc];decide)] at k;refine cf J.gh (ab rfl Ol J.gg) fun v G4 H4 L Y=> ?_
   obtain⟨G5,x5,M,U⟩:=((O2.later J).later L).freeze;exact k v G5 H4 x5 ((((s1.trans e2.gg).trans J.gg).trans L.gg).trans M) U (aK.mono M Y)
abbrev lC:Df:=⟨"set_pattern",129,["state","given"],fun K t=>Nu K t (fun st g=>jT st/\aW 1 g) l_⟩
def iL:dP ["state","given","repeat","before","roll"] lC:=by walk_at"s"
def AW (F:bh K lC f fd)(T:Txt K mg t)(J:yY P w K mg base 1 "Roll" t.uv ["self","length","begins"] (eE t.uv ["length","begins"]))(kC:aL P w K mg base t 1 jw):dO P w K mg base t 3 f fd lC:=by
 refine Uq F iL fun cdv A' outer s H E hr=>⟨_,(aa (dC 2 iL.nd (cW (dZ K) bz ai)) (aa (a_ (fJ (de (bJ kC hr (aY bP (aF K aN))))) (ae (aj (az (aG (g8 T.bN rfl))))) aD) (aa (dC 3 iL.nd (aF K aN)) (aa (c9 K aN bP) (aa (c9 K aN (bc xU (aF K aN) bP)) (aa (c9 K aN (gK (own:=[("roll",4)]) rfl iL.nd (rP K (aF K aN)) (bC (by rfl)) (fun _ _ _ _ _=>(iZ 4 iL.nd)) (fun _ _ _ _ _=>c6) (fun _ _ _ _ _=>(sL J hr (by decide) rfl (aY (aF K lO) (bc xU (aF K lO) bP)))))) (ae (aj (az (aG dJ)))))))))), ?_⟩
 intro G0 H0 G p dx a1 a2 a3 a4 vg st g A ay hp D k;dsimp only[je,rd];obtain⟨p1,p2⟩:=hp;obtain⟨hg0,hn0,hm0⟩:=bf p2 (i:=0) (by decide);have g0:∀{σ:L2.St} {G1 H1:Hp},aE G G1->σ[1]?=some (some vg)->RE (il (gF K) (cc 1) (tC (.int 0))) σ G1 H1 af (g.getD 0 0):=fun s1 b=>aJ (ab b ay s1) ao (by decide) hg0
 obtain⟨G1,s1,O⟩:=A.toO;refine cB O.ex.gh (R:=af) (g0 s1 rfl) fun Rc G2 H2 e2 Lk=> ?_
 have O2:=O.later e2;refine eR O2.ex.gh (fB (bZ (ak (bX (aR Lk) (kP (a0 rfl O2.ob T.aH T.el uW) fun _ _=>rfl)) hn0))) (fun hc G3 H3 U=> ?_) (fun hc G3 H3 U=> ?_)
 .rw[show l_ st g=(st,[-22]) from by delta l_;rw[ad3 hc]] at k;refine cf U.gh (x:=[-22]) cQ fun v G4 H4 e4 r4=> ?_
  obtain⟨G5,x5,s5,r5⟩:=((O2.later U).later e4).freeze;exact k v G5 H4 x5 ((((s1.trans e2.gg).trans U.gg).trans e4.gg).trans s5) r5 (aK.mono s5 r4)
 have L:0 < g.getD 0 0:=by
  have:eA (g.getD 0 0) (dE st)=true:=by lia
  delta eA at this;simp only[aaO,aaU,adY] at this;lia
 rw[show l_ st g=((st.1,g.getD 0 0,jI st%g.getD 0 0,di st,aV st,cM st,aA st,(bV st).map (fun r=>(r.1,r.2.1%g.getD 0 0,())),()),[dE st]) from by delta l_;rw[ad2 (by rw[hc];decide)]] at k;have O3:=O2.later U;refine cB O3.ex.gh (R:=af) (x:=dE st) (kP (a0 rfl O3.ob T.aH T.el uW) fun _ _=>rfl) fun v_b G4 H4 e4 Ol=> ?_
 have O4:=O3.later e4;have M:=U.gg.trans e4.gg;refine w_fld (R:=af) O4.ex.gh (ab rfl Lk M) rfl O4.ob T.aH T.el (show 8 < 1000 by decide) fun v5 G5 H5 e5 r5=> ?_
 subst r5;have O5:=O4.later e5;have O6:=O5.put (b:=st.1) (r:=g.getD 0 0) (d:=st.2.2.1) (w:=st.2.2.2.1) O5.c1 O5.c2 O5.c3 O5.c4;refine w_fld (R:=af) O6.ex.gh (vE (kP (a0 rfl O6.ob T.aH T.hZ N4) fun _ _=>rfl) (ab rfl Lk (M.trans e5.gg)) L) rfl O6.ob T.aH T.hZ (show 8 < 1000 by decide) fun v7 G7 H7 e7 r7=> ?_
 subst r7;have O7:=O6.later e7;have O8:=O7.put (b:=st.1) (r:=g.getD 0 0) (d:=jI st%g.getD 0 0) (w:=st.2.2.2.1) O7.c1 O7.c2 O7.c3 O7.c4;have Y:=(M.trans e5.gg).trans e7.gg;have hrl:(bV st).length < sizeLine:=adf p1.ol (by decide);refine w_fld O8.ex.gh (eT (bD (kP (a0 rfl O8.ob T.aH T.fj xf) fun G' s'=>aK.mono s' O8.c4)) hrl fun z hz x G9 H9 e9 r9=>⟨_,cE,rfl,jo (bE (kR T (ab rfl r9 sr)) (bE (vE (kS T (ab rfl r9 sr)) (ab rfl Lk (Y.trans e9.gg)) L) qp))⟩) rfl O8.ob T.aH T.fj (show 8 < 1000 by decide) fun v9 G9 H9 e9 r9=> ?_
 have O9:=O8.later e9;obtain⟨q5,us5,ev5,hq5,pr5⟩:=r9;subst ev5;have O10:=O9.put (b:=st.1) (r:=g.getD 0 0) (d:=jI st%g.getD 0 0) (w:=st.2.2.2.1) O9.c1 O9.c2 O9.c3 ⟨q5,us5,rfl,hq5,pr5⟩;refine cf O10.ex.gh (bG (aI (ab rfl Ol ((e5.gg.trans e7.gg).trans e9.gg)) bu) sl1) fun v G11 H11 e11 r11=> ?_
 obtain⟨G12,x12,Z,r12⟩:=(O10.later e11).freeze;exact k v G12 H11 x12 (((((s1.trans e2.gg).trans Y).trans e9.gg).trans e11.gg).trans Z) r12 (aK.mono Z r11)
end
end Cw
namespace Cw
open PySem PySem.Spec PyProof.Rows L2 My
section
variable {a:Type}{K:b0}{t:jC}{σ:L2.St}{G0 H0 G H G' H':Hp}{D:Ends}
def Yj (K:b0){id:String}(slot:Slot "list" name id)(M:typeOf (.builtin id)=pure (.type "method_descriptor"))(U:MtR X id r)(O:PE X o to)
  (L:attributeBase o name X.env (eval o X.env)=eval o X.env:=by rfl) (J:(apos.endLine==cpos.line)=true:=by rfl) (h:X.K=K:=by rfl):PE X (.Call (.Attribute o name apos) [] [] cpos) (Za K "list" r to):=by subst h;exact ZM PySem.F.plainAttrs_list slot M U O L J
def VT (h:RE ta σ G H RV (.ref q))(Z:H q=some (.lst us))(pr:Paired (R G) us xs)(h2:RE tb σ G H (ag R) ys)(M:xs.length+ys.length<=sizeLine)(mo:aK R:=by infer_instance):RE (il VW ta tb) σ G H (ag R) (xs++ys):=fun G' H' e Q k=>
 h G' H' e _ fun v G1 H1 O Y=>h2 G1 H1 (e.trans O) _ fun w G2 H2 L ⟨b,zs,ev,hb,U⟩=>by
  have J:=(e.trans O).trans L;refine xi4 q b us zs ⟨Y,ev,(J.hh _ _ Z).is trivial,L.gh _ _ hb,by rw[aw pr,aw U];exact M,fun l M=> ?_⟩;have la:=Ext.laid (o:=.lst (us++zs)) L.gh M;exact k _ _ _ ((O.trans L).trans la) ⟨l,_,rfl,ah,aq la.gg (dR (aq J.gg pr) U)⟩
def Vn {lo hi:ng}(s:Sub G H)(h:RE te σ G H (ag R) xs)(h1:RO tl σ G H lo)(h2:RO th σ G H hi)(U:σ[i]?=some (some (.ref p)))(hp:H p=some (.ins C dx fs))(cl:uD K C)(Z:bY K C f)(hl:fs.length < 1000)
  (k:∀l vs G' H',Ext G H G' H'->Paired (R G') vs (cut xs lo hi)->H' l=none->u D σ (upd (upd H' l (.lst vs)) p (.ins C dx (nP f (.ref l) fs)))) (mo:aK R:=by infer_instance):rC (FX K (cc i) (tSl (Py K) te tl th) f) u D σ H:=
 h G H (Ext.refl s) _ fun v G1 H1 O ⟨b,vs,ev,hb,pr⟩=>h1 G1 H1 O _ fun G2 H2 Y=>h2 G2 H2 (O.trans Y) _ fun G3 H3 e3=>by
  have J:=Y.trans e3;have L:=((O.trans J).hh _ _ hp).is trivial;refine xi2 b vs ⟨ev,dh.of (J.gh _ _ (J.gg _ _ hb)),fun l M=>⟨.ref p,U,p,C,dx,fs,rfl,by rw[ax (aS L M)];exact L,cl,Z,hl,k l _ G3 H3 (O.trans J) ?_ M⟩⟩;refine aq J.gg ?_;delta HH cut;rw[aw pr];exact(vI pr _ _)
def Ex (Y:RE to σ G H RV (.ref q))(U:H q=some (.lst us))(O:us.length < sizeLine)(s:Sub G H)(h:RE te σ G H R x)
  (k:∀u G' H',Ext G H G' H'->R G' u x->D.nx σ (upd H' q (.lst (us++[u])))):wt (Rq K "list" zE to (bO te fV)) D σ H:=
 Y G H (Ext.refl s) _ fun o Z H1 L M=>by
  subst M;have J:=(L.hh _ _ U).is trivial;exact⟨.inl ⟨rfl,_,dh.of J⟩,h Z H1 L _ fun v G' H' e r=>xi3 q us v ⟨rfl,rfl,(e.hh _ _ J).is trivial,O,k v G' H' (L.trans e) r⟩⟩
def Iu (s:Sub G H)(ho:RE to σ G H RV (.ref q))(Y:H q=some (.lst us))(U:us[us.length - 1]?=some y)(hi:σ[i]?=some (some (.ref p)))(Z:H p=some (.ins C dx fs))(cl:uD K C)(O:bY K C f)(hl:fs.length < 1000)
  (k:∀G' H',Ext G H G' H'->u D σ (upd (upd H' q (.lst us.dropLast)) p (.ins C dx (nP f y fs)))):rC (FX K (cc i) (Za K "list" rPop to) f) u D σ H:=
 ho G H (Ext.refl s) _ fun o G1 H1 L M=>by
  subst M;have J:=(L.hh _ _ Y).is trivial;have n:p≠q:=fun z=>by lia
  exact⟨.inl ⟨rfl,_,dh.of J⟩,q,us,y,rfl,rfl,J,U,.ref p,hi,p,C,dx,fs,rfl,by rw[ax n];exact((L.hh _ _ Z).is trivial),cl,O,hl,k G1 H1 L⟩
def EK {vs:List V}(h:Paired R vs xs):Paired R vs.dropLast xs.dropLast:=by
 rw[List.dropLast_eq_take,List.dropLast_eq_take,<- aw h];exact(vI h 0 _)
def Vz:aC:=(false,1,0,1,[],[],[],[],())
def Pu:RE (Ez t.cj (xE t) [] E fV) σ G H (aU K t) Vz:=fun G' H' e Q q=>by
 intro p dx L hd U;have M:Ext G' H' G' (upd H' dx (.own p)):=Ext.own e.gh hd;have J:(upd H' dx (.own p)) p=none:=by rw[ax (fun z=>U z.symm)];exact L
 have Y:Ext G' H' G' (upd _ p (.ins t.cj dx [])):=M.trans (Ext.own M.gh J);refine⟨p,dx,rfl,ah,fun H1 Z=>⟨rfl, ?_⟩⟩;obtain⟨a1,a2,a3,a4,A1⟩:=sR.rD Z Y L (e.gh.free L) ah trivial;obtain⟨G2,O,s2,r2⟩:=A1.freeze;exact q _ G2 H1 O r2
abbrev jj:=aC×List aC×List aC
def Ys (v:V)(a1 a2:dr):List (Str×V):=[("now",v),("earlier",.ref a1),("later",.ref a2)]
def yd:(Ys v a1 a2).lookup ("now":Str)=some v:=rfl
def oS:(Ys v a1 a2).lookup ("earlier":Str)=some (.ref a1):=rfl
def xg:(Ys v a1 a2).lookup ("later":Str)=some (.ref a2):=rfl
structure kE (K:b0)(t:jC)(G0 H0 G H:Hp)(p dx a1 a2:dr)(v0:V)(h:jj):Prop where
 ex:Ext G0 H0 G H
 f0:H0 p=none
 gn:G p=none
 ob:H p=some (.ins t.gj dx (Ys v0 a1 a2))
 nw:aU K t G v0 h.1
 c1:Cell (aU K t) H0 G H a1 h.2.1
 c2:Cell (aU K t) H0 G H a2 h.2.2
 ne:a1≠a2
def HAt (K:b0)(t:jC)(G0 H0 G H:Hp)(v:V)(h:jj):Prop:=∃p dx a1 a2 v0,v=.ref p/\kE K t G0 H0 G H p dx a1 a2 v0 h
variable {p dx a1 a2 l q:dr}{v0 v:V}{h:jj}
def kE.later (A:kE K t G0 H0 G H p dx a1 a2 v0 h)(e:Ext G H G' H'):kE K t G0 H0 G' H' p dx a1 a2 v0 h:=
 ⟨A.ex.trans e,A.f0,e.keeps A.ob A.gn,(e.hh _ _ A.ob).is trivial,aK.mono e.gg A.nw,A.c1.later e,A.c2.later e,A.ne⟩
def kE.putN {st:aC}(A:kE K t G0 H0 G H p dx a1 a2 v0 h)(r:aU K t G v st):kE K t G0 H0 G (upd H p (.ins t.gj dx (Ys v a1 a2))) p dx a1 a2 v (st,h.2):=
 ⟨A.ex.put A.f0 A.gn A.ob,A.f0,A.gn,ah,r,A.c1.fF (A.c1.ne A.ob),A.c2.fF (A.c2.ne A.ob),A.ne⟩
def kE.L8 (A:kE K t G0 H0 G H p dx a1 a2 v0 h)(r:Paired (aU K t G) us x):kE K t G0 H0 G (upd H a1 (.lst us)) p dx a1 a2 v0 (h.1,x,h.2.2):=by
 obtain⟨J,L,_⟩:=A.c1.at_;exact⟨A.ex.put A.c1.f0 A.c1.gn L,A.f0,A.gn,by rw[ax (Ne.symm (A.c1.ne A.ob))];exact A.ob,A.nw,A.c1.now r,A.c2.fF A.ne.symm,A.ne⟩
def kE.put2 (A:kE K t G0 H0 G H p dx a1 a2 v0 h)(r:Paired (aU K t G) us x):kE K t G0 H0 G (upd H a2 (.lst us)) p dx a1 a2 v0 (h.1,h.2.1,x):=by
 obtain⟨J,L,_⟩:=A.c2.at_;exact⟨A.ex.put A.c2.f0 A.c2.gn L,A.f0,A.gn,by rw[ax (Ne.symm (A.c2.ne A.ob))];exact A.ob,A.nw,A.c1.fF A.ne,A.c2.now r,A.ne⟩
def kE.fF (A:kE K t G0 H0 G H p dx a1 a2 v0 h)(U:H0 q=none)(g:G q=none)(J:H q=some (.lst us))(O:a1≠q)(M:a2≠q):kE K t G0 H0 G (upd H q (.lst vs)) p dx a1 a2 v0 h:=by
 have L:p≠q:=fun z=>by rw[<- z,A.ob] at J;nomatch J
 exact⟨A.ex.put U g J,A.f0,A.gn,by rw[ax L];exact A.ob,A.nw,A.c1.fF O,A.c2.fF M,A.ne⟩
def kE.new1 (A:kE K t G0 H0 G H p dx a1 a2 v0 h)(n:H l=none)(r:Paired (aU K t G) us x):kE K t G0 H0 G (upd (upd H l (.lst us)) p (.ins t.gj dx (Ys v0 l a2))) p dx l a2 v0 (h.1,x,h.2.2):=by
 have J:=A.later (Ext.own (o:=.lst us) A.ex.gh n);obtain⟨L,h2,_⟩:=A.c2.at_;exact⟨J.ex.put A.f0 A.gn J.ob,A.f0,A.gn,ah,A.nw,⟨A.ex.hh.free n,A.ex.gh.free n,us,by rw[ax ((aS A.ob n).symm),ah],r⟩,J.c2.fF (J.c2.ne J.ob),((aS h2 n).symm)⟩
def kE.new2 (A:kE K t G0 H0 G H p dx a1 a2 v0 h)(n:H l=none)(r:Paired (aU K t G) us x):kE K t G0 H0 G (upd (upd H l (.lst us)) p (.ins t.gj dx (Ys v0 a1 l))) p dx a1 l v0 (h.1,h.2.1,x):=by
 have J:=A.later (Ext.own (o:=.lst us) A.ex.gh n);obtain⟨L,h1,_⟩:=A.c1.at_;exact⟨J.ex.put A.f0 A.gn J.ob,A.f0,A.gn,ah,A.nw,J.c1.fF (J.c1.ne J.ob),⟨A.ex.hh.free n,A.ex.gh.free n,us,by rw[ax ((aS A.ob n).symm),ah],r⟩,(aS h1 n)⟩
def kE.hold (A:kE K t G0 H0 G H p dx a1 a2 v0 h)(g:G q=none)(L:H q=some (.lst us))(U:a1≠q)(O:a2≠q):kE K t G0 (upd H0 q (.lst us)) G H p dx a1 a2 v0 h:=by
 have M:p≠q:=fun z=>by rw[<- z,A.ob] at L;nomatch L
 refine⟨⟨A.ex.gg,fun b o J=> ?_,A.ex.gh,fun b J Y=> ?_⟩,by rw[ax M];exact A.f0,A.gn,A.ob,A.nw,⟨by rw[ax U];exact A.c1.f0,A.c1.gn,A.c1.at_⟩,⟨by rw[ax O];exact A.c2.f0,A.c2.gn,A.c2.at_⟩,A.ne⟩
 .by_cases m:b=q
  .subst m;rw[ah] at J;cases J;exact .of L
  .rw[ax m] at J;exact A.ex.hh b o J
 .by_cases m:b=q
  .grind
  .rw[ax m] at J;exact A.ex.fr b J Y
def kE.loose (A:kE K t G0 (upd H0 q (.lst us)) G H p dx a1 a2 v0 h)(n0:H0 q=none)(M:G0 q=none):kE K t G0 H0 G H p dx a1 a2 v0 h/\H q=some (.lst us)/\G q=none/\a1≠q/\a2≠q:=by
 have fr:∀{c:dr},(upd H0 q (.lst us)) c=none->H0 c=none/\c≠q:=fun {c} z=>by
  by_cases m:c=q
  .rw[m,ah] at z;contradiction
  .rw[ax m] at z;exact⟨z,m⟩
 refine⟨⟨⟨A.ex.gg,fun b o J=>A.ex.hh b o ?_,A.ex.gh,fun b J L=>A.ex.fr b ?_ L⟩,(fr A.f0).1,A.gn,A.ob,A.nw,⟨(fr A.c1.f0).1,A.c1.gn,A.c1.at_⟩,⟨(fr A.c2.f0).1,A.c2.gn,A.c2.at_⟩,A.ne⟩,(A.ex.hh q _ ah).is trivial,A.ex.fr q (by lia) M,(fr A.c1.f0).2,(fr A.c2.f0).2⟩
 .rw[ax (aS J n0)];exact J
 .grind
def hinit (x:Ext G0 H0 G H)(f0:H0 p=none)(gn:G p=none)(Z:H p=some u)(nu:NT u)(r:aU K t G v Vz)(M:H l1=none)(L:(upd (upd H l1 (.lst [])) p o1) l2=none)(O:NT o1)(e:o2=.ins t.gj dx (Ys v l1 l2)):kE K t G0 H0 G (upd (upd (upd (upd H l1 (.lst [])) p o1) l2 (.lst [])) p o2) p dx l1 l2 v (Vz,[],[]):=by
 have x1:Ext G0 H0 G (upd H l1 (.lst [])):=x.trans (Ext.own x.gh M);obtain⟨m1,Y,q1,k1⟩:=grown Z M;have J:Ext G0 H0 G (upd _ p o1):=x1.put f0 gn (by rw[ax m1.symm];exact Z) nu;generalize upd _ p o1=H2 at*;have x3:Ext G0 H0 G (upd H2 l2 (.lst [])):=J.trans (Ext.own J.gh L);obtain⟨m2,p2,q2,k2⟩:=grown (o:=o2) Y L;have x4:Ext G0 H0 G (upd _ p o2):=x3.put f0 gn (by rw[ax m2.symm];exact Y) O;have U:l1≠l2:=fun z=>by lia
 exact⟨x4,f0,gn,by rw[p2,e],r,⟨x.hh.free M,x.gh.free M,[],by grind,.nil⟩,⟨J.hh.free L,J.gh.free L,[],q2,.nil⟩,U⟩
end
structure rk (h:jj):Prop where
 now:jT h.1
 ea:∀s∈h.2.1,jT s
 la:∀s∈h.2.2,jT s
 len:h.2.1.length+h.2.2.length<=10
def jT.short {st:aC}(h:jT st):Short st:=⟨adb h.dy.len (by decide),adb h.tl (by decide),adb h.rl (by decide),adb h.ol (by decide)⟩
set_option synthInstance.maxSize 100000
set_option synthInstance.maxHeartbeats 2000000
abbrev Er:=hA×List qE×List nv×List cu×List ji×Unit
instance aaL:DecidableEq Er:=inferInstance
def nG (h:jj)(st:aC):jj:=if @decide ((xc st:Er)=xc h.1) (aaL _ _) then h else(st,cut (h.2.1++[h.1]) (some (-10)) none,[])
def vY (h:jj):jj×hA:=match h.2.1[h.2.1.length - 1]? with
 |none=>(h,[-2])
 |some s=>((s,h.2.1.dropLast,h.2.2++[h.1]),[(h.2.1.dropLast.length:Int)])
def sA (h:jj):jj×hA:=match h.2.2[h.2.2.length - 1]? with
 |none=>(h,[-2])
 |some s=>((s,h.2.1++[h.1],h.2.2.dropLast),[(h.2.2.dropLast.length:Int)])
def HZ (K:b0)(t:jC):Sp:=fun vs H Q _=>∃G0 H0 G p dx,vs=[.ref p]/\Ext G0 H0 G H/\H0 p=none/\G p=none/\H p=some (.ins t.gj dx [])/\ ∀G' H',HAt K t G0 H0 G' H' (.ref p) (Vz,[],[])->aE G G'->Q .iB H'
def SpHS (K:b0)(t:jC)(f:jj->aC->jj):Sp:=fun vs H Q _=>∃G0 H0 G vh vst h st,vs=[vh,vst]/\HAt K t G0 H0 G H vh h/\aU K t G vst st/\rk h/\jT st/\ ∀G' H',HAt K t G0 H0 G' H' vh (f h st)->aE G G'->Q .iB H'
def SpH (K:b0)(t:jC)(f:jj->jj×hA):Sp:=fun vs H Q _=>∃G0 H0 G vh h,vs=[vh]/\HAt K t G0 H0 G H vh h/\rk h/\ ∀v G' H',HAt K t G0 H0 G' H' vh (f h).1->aE G G'->ag af G' v (f h).2->Q v H'
section
variable {P:dn}{w:fx}{K:b0}{mg:gp}{base:Heap}{t:jC}
abbrev Al:Stmt:=inClass (top 136) 0
def Pt:dN ["self"] ["self"] (aO Al):=⟨rfl,rfl,rfl,by decide,rfl,by decide+kernel,by decide+kernel⟩
abbrev Pk (K:b0)(t:jC):Sp:=HZ K t
def PR (F:yW K "__init__" "History.__init__" Al f fd)(T:Txt K mg t)(J:yY P w K mg base 2 "State" t.cj ["self"] (xE t)):fA P w K mg base sQ 4 f fd ["self"] (Pk K t):=by
 refine F.ok Pt (fun vs H Q E h=> ?_) (fun cdv A' _ s H vs Q E hr h=> ?_)
 .obtain⟨_,_,_,_,_,rfl,_⟩:=h;rfl
 .refine⟨_,(aa (c9 K aN (L_ J hr (by decide) rfl)) (aa (c9 K aN (az eU)) (ae (c9 K aN (az eU))))), ?_⟩;obtain⟨G0,H0,G,p,dx,rfl,e,f0,gn,M,k⟩:=h;refine w_fld (R:=aU K t) e.gh Pu rfl M T.br T.cY (by decide) fun O Y H1 L r1=> ?_
  have U:=L.keeps M gn;have Z:Ext G0 H0 Y (upd H1 p (.ins t.gj dx (nP "now" O []))):=(e.trans L).put f0 U ((L.hh _ _ M).is trivial);exact rp rfl ah T.br T.cT (show 1 < 1000 by decide) fun l1 n1=>zy rfl ah T.br T.eL (show 2 < 1000 by decide) fun l2 n2=>k Y _ ⟨p,dx,l1,l2,O,rfl,hinit Z f0 U ah trivial r1 n1 n2 trivial rfl⟩ L.gg
abbrev jR:Df:=⟨"begin_anew",137,["history","state"],fun K t=>SpHS K t (fun _ st=>(st,[],[]))⟩
def Di:dP ["history","state"] jR:=by walk_at"s"
def DL (F:bh K jR f fd)(T:Txt K mg t):dO P w K mg base t 1 f fd jR:=by
 refine F.ok Di (fun vs H Q E h=> ?_) (fun cdv A' _ s H vs Q E hr h=> ?_)
 .obtain⟨_,_,_,_,_,_,_,rfl,_⟩:=h;rfl
 .refine⟨_,(aa (c9 K aN bz) (aa (c9 K aN (az eU)) (ae (c9 K aN (az eU))))), ?_⟩;obtain⟨G0,H0,G,vh,bA,hh,st,rfl,⟨p,dx,a1,a2,v0,rfl,A⟩,au,ho,so,k⟩:=h;refine w_fld A.ex.gh (by walk_at"re") rfl A.ob T.br T.cY (show 3 < 1000 by decide) fun O G1 H1 J U=> ?_
  have M:=(A.later J).putN U;refine rp rfl M.ob T.br T.cT (show 3 < 1000 by decide) fun l1 Z=> ?_
  have L:=M.new1 Z .nil;exact zy rfl L.ob T.br T.eL (show 3 < 1000 by decide) fun l2 Y=>k G1 _ ⟨p,dx,l1,l2,O,rfl,L.new2 Y .nil⟩ J.gg
abbrev uf:Df:=⟨"go_on",138,["history","state"],fun K t=>SpHS K t nG⟩
def RN:dP ["history","state"] uf:=by walk_at"s"
def SE (F:bh K uf f fd)(T:Txt K mg t)(Y:aL P w K mg base t 1 ni):dO P w K mg base t 2 f fd uf:=by
 refine F.ok RN (fun vs H Q E h=> ?_) (fun cdv A' outer s H vs Q E M h=> ?_)
 .obtain⟨_,_,_,_,_,_,_,rfl,_⟩:=h;rfl
 .refine⟨_,(aa (a_ (ka (eqD K M.units) (bJ Y M (aG bz)) (bJ Y M (aG (aF K aN)))) (ae V1) aD) (aa (c9 K aN (kY (VC K) (bc jD (aF K aN) (az (aG (aF K aN)))) (mz (wQ rB (g8 T.Ia rfl))) pB)) (aa (c9 K aN (az eU)) (ae (c9 K aN bz))))), ?_⟩;obtain⟨G0,H0,G,vh,bA,hh,st,rfl,⟨p,dx,a1,a2,v0,rfl,A⟩,au,Z,so,k⟩:=h;refine eR A.ex.gh (dj (Zt (ak (by walk_at"re") so.short) (ak (bp (kP (a0 rfl A.ob T.br T.cY yd) fun G' s'=>aK.mono s' A.nw)) Z.now.short))) (fun hc G1 H1 L=> ?_) (fun hc G1 H1 L=> ?_)
  .have hk:=k G1 H1;rw[show nG hh st=hh from by delta nG;rw[ad3 hc]] at hk;exact hk (xi5 p dx a1 a2 v0 ⟨rfl,A.later L⟩) L.gg
  .rw[show nG hh st=(st,cut (hh.2.1++[hh.1]) (some (-10)) none,[]) from by delta nG;rw[ad2 (by rw[hc];decide)]] at k;have J:=A.later L;obtain⟨us,hq,pr⟩:=J.c1.at_;have O:hh.2.1.length+1<=sizeLine:=adb (Nat.succ_le_succ (adb (ac6 _ _) Z.len)) (by decide);refine Vn J.ex.gh (VT (a0 rfl J.ob T.br T.cT oS) hq pr (bG (aI (kP (a0 rfl J.ob T.br T.cY yd) fun G' s'=>aK.mono s' J.nw) bu) sl1) O) (mv (xQ (ao))) pf rfl J.ob T.br T.cT (show 3 < 1000 by decide) fun l1 vs G2 H2 e2 r2 n2=> ?_
   have A2:=(J.later e2).new1 n2 r2;refine rp rfl A2.ob T.br T.eL (show 3 < 1000 by decide) fun l2 n3=> ?_
   have U:=A2.new2 n3 .nil;exact Q8 U.ex.gh (by walk_at"re") rfl U.ob T.br T.cY (show 3 < 1000 by decide) fun v4 G4 H4 e4 r4=>k G4 _ ⟨p,dx,l1,l2,v4,rfl,(U.later e4).putN r4⟩ ((L.gg.trans e2.gg).trans e4.gg)
abbrev lz:Df:=⟨"take_back",139,["history"],fun K t=>SpH K t vY⟩
def FO:dP ["history"] lz:=⟨rfl,rfl,rfl,by decide,rfl,by decide+kernel,by decide+kernel⟩
def Gq (F:bh K lz f fd)(T:Txt K mg t):dO P w K mg base t 1 f fd lz:=by
 refine F.ok FO (fun vs H Q E h=> ?_) (fun cdv A' outer s H vs Q E hr h=> ?_)
 .obtain⟨_,_,_,_,_,rfl,_⟩:=h;rfl
 .refine⟨_,(aa (a_ (ka mV (nD T (aF K aN)) ai) (ae (aj (az (aG (g8 T.dY rfl))))) aD) (aa (bS (lP K adH adK gM (aF K aN) (aG (aF K aN)))) (aa (c9 K aN (Yj K adJ adM SK (aF K aN))) (ae (aj (az (aG (nD T (aF K aN))))))))), ?_⟩;obtain⟨G0,H0,G,vh,hh,rfl,⟨p,dx,a1,a2,v0,rfl,A⟩,ho,k⟩:=h;obtain⟨us,hq,pr⟩:=A.c1.at_;have hul:(us.length:Int)=(hh.2.1.length:Int):=by rw[aw pr]
  refine eR A.ex.gh (dj (lV (mw (bp (a0 rfl A.ob T.br T.cT oS)) hq) ao)) (fun hc G1 H1 L=> ?_) (fun hc G1 H1 L=> ?_)
  .have h0:hh.2.1=[]:=abF (by have:=aea hc;lia);rw[show vY hh=(hh,[-2]) from by delta vY;rw[h0];rfl] at k;exact cf L.gh cQ fun v G2 H2 J r2=>k v G2 H2 ⟨p,dx,a1,a2,v0,rfl,A.later (L.trans J)⟩ (L.trans J).gg r2
  .have hne:0 < hh.2.1.length:=by have:=ad_ hc;lia
   have hs:hh.2.1[hh.2.1.length - 1]?=some hh.2.1[hh.2.1.length - 1]:=abX (by omega);rw[show vY hh=_ from by delta vY;rw[hs]] at k;have M:=A.later L;obtain⟨ws,hw,pw⟩:=M.c2.at_;have hwl:ws.length < sizeLine:=by
    rw[aw pw];exact adf (adb (Nat.le_add_left _ _) ho.len) (by decide)
   refine Ex (a0 rfl M.ob T.br T.eL xg) hw hwl M.ex.gh (kP (a0 rfl M.ob T.br T.cY yd) fun G' s'=>aK.mono s' M.nw) fun u G2 H2 J r2=> ?_
   have O:=(M.later J).put2 (Paired.snoc (aq J.gg pw) r2);obtain⟨xs,hx,Z⟩:=O.c1.at_;have hxl:xs.length=hh.2.1.length:=aw Z;obtain⟨y,hy,ry⟩:=cw Z hs;rw[<- hxl] at hy;refine Iu O.ex.gh (a0 rfl O.ob T.br T.cT oS) hx hy rfl O.ob T.br T.cY (show 3 < 1000 by decide) fun G3 H3 U=> ?_
   have Y:=((O.later U).L8 (aq U.gg (EK Z))).putN (aK.mono U.gg ry);obtain⟨zs,hz,pz⟩:=Y.c1.at_;have hzl:(zs.length:Int)=(hh.2.1.dropLast.length:Int):=by rw[aw pz]
   refine cf Y.ex.gh (bG (aI (RE.eq (mw (bp (a0 rfl Y.ob T.br T.cT oS)) hz) hzl) bu) sl1) fun v G4 H4 e4 r4=>k v G4 H4 ⟨p,dx,a1,a2,y,rfl,Y.later e4⟩ (((L.gg.trans J.gg).trans U.gg).trans e4.gg) r4
abbrev nh:Df:=⟨"do_again",140,["history"],fun K t=>SpH K t sA⟩
def IS:dP ["history"] nh:=⟨rfl,rfl,rfl,by decide,rfl,by decide+kernel,by decide+kernel⟩
def Jx (F:bh K nh f fd)(T:Txt K mg t):dO P w K mg base t 1 f fd nh:=by
 refine F.ok IS (fun vs H Q E h=> ?_) (fun cdv A' outer s H vs Q E hr h=> ?_)
 .obtain⟨_,_,_,_,_,rfl,_⟩:=h;rfl
 .refine⟨_,(aa (a_ (ka mV (nD T (aF K aN)) ai) (ae (aj (az (aG (g8 T.dY rfl))))) aD) (aa (bS (lP K adH adK gM (aF K aN) (aG (aF K aN)))) (aa (c9 K aN (Yj K adJ adM SK (aF K aN))) (ae (aj (az (aG (nD T (aF K aN))))))))), ?_⟩;obtain⟨G0,H0,G,vh,hh,rfl,⟨p,dx,a1,a2,v0,rfl,A⟩,ho,k⟩:=h;obtain⟨us,hq,pr⟩:=A.c2.at_;have hul:(us.length:Int)=(hh.2.2.length:Int):=by rw[aw pr]
  refine eR A.ex.gh (dj (lV (mw (bp (a0 rfl A.ob T.br T.eL xg)) hq) ao)) (fun hc G1 H1 L=> ?_) (fun hc G1 H1 L=> ?_)
  .have h0:hh.2.2=[]:=abF (by have:=aea hc;lia);rw[show sA hh=(hh,[-2]) from by delta sA;rw[h0];rfl] at k;exact cf L.gh cQ fun v G2 H2 J r2=>k v G2 H2 ⟨p,dx,a1,a2,v0,rfl,A.later (L.trans J)⟩ (L.trans J).gg r2
  .have hne:0 < hh.2.2.length:=by have:=ad_ hc;lia
   have hs:hh.2.2[hh.2.2.length - 1]?=some hh.2.2[hh.2.2.length - 1]:=abX (by omega);rw[show sA hh=_ from by delta sA;rw[hs]] at k;have M:=A.later L;obtain⟨ws,hw,pw⟩:=M.c1.at_;have hwl:ws.length < sizeLine:=by
    rw[aw pw];exact adf (adb (ac6 _ _) ho.len) (by decide)
   refine Ex (a0 rfl M.ob T.br T.cT oS) hw hwl M.ex.gh (kP (a0 rfl M.ob T.br T.cY yd) fun G' s'=>aK.mono s' M.nw) fun u G2 H2 J r2=> ?_
   have O:=(M.later J).L8 (Paired.snoc (aq J.gg pw) r2);obtain⟨xs,hx,Z⟩:=O.c2.at_;have hxl:xs.length=hh.2.2.length:=aw Z;obtain⟨y,hy,ry⟩:=cw Z hs;rw[<- hxl] at hy;refine Iu O.ex.gh (a0 rfl O.ob T.br T.eL xg) hx hy rfl O.ob T.br T.cY (show 3 < 1000 by decide) fun G3 H3 U=> ?_
   have Y:=((O.later U).put2 (aq U.gg (EK Z))).putN (aK.mono U.gg ry);obtain⟨zs,hz,pz⟩:=Y.c2.at_;have hzl:(zs.length:Int)=(hh.2.2.dropLast.length:Int):=by rw[aw pz]
   refine cf Y.ex.gh (bG (aI (RE.eq (mw (bp (a0 rfl Y.ob T.br T.eL xg)) hz) hzl) bu) sl1) fun v G4 H4 e4 r4=>k v G4 H4 ⟨p,dx,a1,a2,y,rfl,Y.later e4⟩ (((L.gg.trans J.gg).trans U.gg).trans e4.gg) r4
end
end Cw
namespace Cw
open PySem PySem.Spec PyProof.Rows L2 My
def flat (c:List hA):Int×hA:=match c with
 |(p::xs)::rows=>(p,xs++rows.flatten)
 |_=>(0,[])
def m_split (ns:hA):List (Int×hA):=match PyFlat.calls PyKh353.shape ns.length ns with
 |some cs=>cs.map flat
 |none=>[]
def counts:hA:=[3,4,1,2,4,1,2,2,1,3,3,1,0,1,1,1,2,1,3,3,3,3,0,0,0,1,1,1,3,1,0,0,0,1,0,0,0,0,0,4,1,1,1,1,0,0,0]
def IM:∀k:Fin 47,PyKh353.shape (k.val:Int)=(if k.val=32 then some (0,1) else some ((counts.getD k.val 0).toNat,0)):=by decide+kernel
def QC:∀k:Fin 47,0<=counts.getD k.val 0:=by decide+kernel
def ED (h:¬(0<=p/\p<=46)):PyKh353.shape p=none:=by
 delta PyKh353.shape
 repeat rw[ad2 (by lia)]
structure Cut (p:Int)(r:hA)(c:List hA)(t:hA):Prop where
 rg:0<=p/\p<=46
 ord:p=32-> ∃m r',r=m::r'/\0<=m/\m.toNat<=r'.length/\flat c=(p,r'.take m.toNat)/\t=r'.drop m.toNat
 els:p≠32->(counts.getD p.toNat 0).toNat<=r.length/\flat c=(p,r.take (counts.getD p.toNat 0).toNat)/\t=r.drop (counts.getD p.toNat 0).toNat
def aaC (h:PyFlat.call PyKh353.shape (p::r)=some (c,t)):Cut p r c t:=by
 by_cases M:0<=p/\p<=46
 .have J:=IM ⟨p.toNat,by lia⟩;dsimp only at J;rw[abq M.1] at J;delta PyFlat.call at h
  by_cases L:p=32
  .rw[ad3 (by omega)] at J;simp only[J] at h;refine⟨M,fun _=> ?_,fun z=>absurd L z⟩;simp only[PyFlat.rows,abE,List.take_zero] at h;cases r with
   |nil=>simp[PyFlat.row] at h
   |_ m U=>
    by_cases O:0<=m/\m.toNat<=U.length
    .simp only[PyFlat.row,ad3 O] at h;cases h;exact⟨m,U,rfl,O.1,O.2,by simp[flat],rfl⟩
    .simp only[PyFlat.row] at h
     grind
  .rw[ad2 (by omega)] at J;simp only[J] at h;refine⟨M,fun z=>absurd z L,fun _=> ?_⟩
   by_cases Y:r.length < (counts.getD p.toNat 0).toNat
   .grind
   .rw[ad2 Y] at h;cases h;exact⟨by lia,by simp[flat],rfl⟩
 .unfold PyFlat.call at h;simp only[ED M] at h;nomatch h
def Nf (h:PyFlat.calls PyKh353.shape f (p::r)=some cs):∃M c t J,PyFlat.calls PyKh353.shape M t=some J/\cs=c::J/\Cut p r c t:=by
 cases f with
 |zero=>cases h
 |_ f=>
  unfold PyFlat.calls at h;split at h
  .cases h
  .next c t hc=>
   split at h
   .cases h
   .next J L=>
    cases h;exact xi4 f c t J ⟨L,rfl,aaC hc⟩
def Xe {a b:Nat}(h1:a<=b)(h2:b<=ns.length):cut ns (some (a:Int)) (some (b:Int))=(ns.drop a).take (b - a):=by
 delta cut;have L:min a ns.length=a:=by lia
 have J:min b ns.length=b:=by lia
 rw[HT.zB,HT.zB,L,J]
def Ou {ns:hA}(h:ns.drop k=p::r):ns[k]?=some p/\ns.drop (k+1)=r/\k < ns.length/\ns.length=k+1+r.length:=by
 have J:=adW List.length h;rw[List.length_drop,ab8] at J;have e:(ns.drop k)[0]?=some p:=by rw[h];rfl
 refine⟨by grind, ?_,by grind,by lia⟩;rw[<- List.drop_drop,h];rfl
section
variable {P:dn}{w:fx}{K:b0}{mg:gp}{base:Heap}{t:jC}
abbrev i8:Df:=⟨"split_calls",144,["calls"],fun K _=>fz 1 (AC (QN K) A0) (fun x=>x.1.length<=1200/\ ∃cs,PyFlat.calls PyKh353.shape x.1.length x.1=some cs) (ag (gE K af (ag af))) (fun x=>m_split x.1)⟩
def dk:dP ["calls","found","place","number","start","count"] i8:=by walk_at"s"
def AU (F:bh K i8 f fd)(T:Txt K mg t):dO P w K mg base t 1 f fd i8:=by
 refine QU F dk fun H hr=>⟨_,(aa (dC 1 dk.nd (az eU)) (aa (dC 2 dk.nd ai) (aa (AA adF (ka AM bP (nD T aN)) (aa (dC 3 dk.nd (cW (dZ K) aN bP)) (aa (dC 4 dk.nd (bc kZ bP ai)) (aa (dC 5 dk.nd (cW (BL K) (ZH T.n_ rfl) dJ)) (aa (a_ (ka mV dJ (g8 T.ORDER rfl)) (aa (dC 5 dk.nd (cW (dZ K) aN lO)) (ae (dC 4 dk.nd (bc kZ lO ai)))) aD) (aa (dC 2 dk.nd (bc kZ lO uQ)) (ae (bS (lP K adH adK gM bz (aG (oJ (aY dJ (kY (VC K) aN (mz lO) (mz bP)))))))))))))) (ae (aj bz))))),fun G calls kH hs rV hp=> ?_⟩
 try dsimp only at hp
 try dsimp only[je,rd]
 obtain⟨p1,all,hall⟩:=hp;have hsp:m_split calls=all.map flat:=by delta m_split;rw[hall]
 obtain⟨us,kp,kq⟩:=T.Cu;intro G0 H0 e0 D kD;refine wj fun p hp=> ?_
 have g0:G0 p=none:=e0.gh.free hp;have e1:Ext G0 H0 G0 (upd H0 p (.lst [])):=Ext.own e0.gh hp;refine cB e1.gh (R:=af) (x:=0) ao fun Vq G2 H2 e2 WI=> ?_
 show FH _ _ _ _ _
 refine Fz (S:=Nat×List (Int×hA)) (G:=G2) (fun st J G' H'=>(∃v,af G' v (st.1:Int)/\Acc p (gE K af (ag af)) (fun J=>∃t3 Z Y,J=[some kH,some (.ref p),some v,t3,Z,Y]) G0 (upd H0 p (.lst [])) G0 st.2 J G' H')/\st.1<=calls.length/\st.2.length<=st.1/\ ∃f cs,PyFlat.calls PyKh353.shape f (calls.drop st.1)=some cs/\st.2++cs.map flat=all.map flat)
  (0,[]) ⟨⟨Vq,WI,⟨xi3 _ _ _ rfl,e2.exP,e2.gg,e2.keeps ah g0,[],e2.hh _ _ ah,.nil⟩⟩,adz _,adz _,_,all,hall,rfl⟩ (fun st=>decide ((st.1:Int) < (calls.length:Int))) (fun st=>calls.length - st.1) ?_ ?_ ?_
 .rintro st J G' H' ⟨⟨v,hv,A⟩,_⟩;obtain⟨t3,Z,Y,rfl⟩:=A.sh;exact⟨A.ex.gh,dj (sJ (aR hv) (VQ (ab rfl rV (e0.gg.trans A.ex.gg))))⟩
 .rintro⟨k,fo⟩ J G' H' ⟨⟨v,hv,A⟩,hk,hfo,f,cs,O,U⟩ hc G3 H3 e3;obtain⟨t3,Z,Y,rfl⟩:=A.sh;have hk2:k < calls.length:=by have:=aea hc;simp only at this;omega
  obtain⟨q,r,hqr⟩:∃q r,calls.drop k=q::r:=by
   cases hd:calls.drop k with
   |nil=>have:=adW List.length hd;rw[List.length_drop,acb] at this;omega
   |cons q r=>exact xi2 q r rfl
  simp only at O U hfo hv;rw[hqr] at O;obtain⟨f',c,t',cs',hcs',rfl,M⟩:=Nf O;obtain⟨d1,d2,d3,d4⟩:=Ou hqr;have sG:aE G G':=e0.gg.trans A.ex.gg;have s3:=sG.trans e3.gg;have A3:=A.kJ e3 (σ5:=[some kH,some (.ref p),some v,t3,Z,Y]) (xi3 _ _ _ rfl);refine cB e3.gh (R:=af) (x:=q) (R7 (ab rfl rV s3) (ab rfl hv e3.gg) (Int.natCast_nonneg k) (by rw[abp];exact d1)) fun v_q G4 H4 e4 h_q=> ?_
  refine cB e4.gh (R:=af) (oF (ab rfl hv (e3.gg.trans e4.gg)) ao) fun vB G5 H5 e5 iY=> ?_
  refine cB e5.gh (R:=af) (x:=counts.getD q.toNat 0) (R6 (L5 (kp.tup (kq G5)) sr) (ab rfl h_q e5.gg) M.rg.1 ?_) fun Lj G6 H6 e6 vx=> ?_
  .have:q.toNat < counts.length:=by show q.toNat < 47;have:=M.rg;omega
   show counts[q.toNat]?=_
   rw[abU,abX this];rfl
  have e46:=(e4.trans e5).trans e6;have s6:=s3.trans e46.gg;have fin:∀(Lz O_:V) (G7 H7:Hp) (a b:Nat),Ext G6 H6 G7 H7->af G7 Lz (a:Int)->af G7 O_ (b:Int)->k < a->a+b<=calls.length->flat c=(q,(calls.drop a).take b)->t'=calls.drop (a+b)->
    rC (tp (il (EH fun i j=>.int (i+j)) (cc 4) (cc 5)) (i5 2)) (wt (Rq K "list" zE (cc 1) (bO (LK (bO (cc 3) (bO (tSl (Py K) (cc 0) (NO (cc 4)) (NO (cc 2))) fV))) fV)))
     {D with nx:=fun σ5 H5=>∃(s5:Nat×List (Int×hA)) (G5:Hp),((∃v,af G5 v (s5.1:Int)/\Acc p (gE K af (ag af)) (fun J=>∃t3 Z Y,J=[some kH,some (.ref p),some v,t3,Z,Y]) G0 (upd H0 p (.lst [])) G0 s5.2 σ5 G5 H5)/\s5.1<=calls.length/\s5.2.length<=s5.1/\ ∃f cs,PyFlat.calls PyKh353.shape f (calls.drop s5.1)=some cs/\s5.2++cs.map flat=all.map flat)/\calls.length - s5.1 < calls.length - k,bk:=Rm (cc 1) D} [some kH,some (.ref p),some v,some v_q,some Lz,some O_] H7:=by
   intro Lz O_ G7 H7 a b e7 ha hb hka hab L ht';have e37:=e46.trans e7;refine cB e7.gh (R:=af) (oF (aR ha) (aR hb)) fun YZ G8 H8 e8 Ti=> ?_
   have A8:=(A3.kJ e37 (σ5:=[some kH,some (.ref p),some v,t3,Z,Y]) ⟨_,_,_,rfl⟩).kJ e8 (σ5:=[some kH,some (.ref p),some v,t3,Z,Y]) ⟨_,_,_,rfl⟩;obtain⟨vs,k1,k2⟩:=A8.at_;have s8:aE G G8:=(s3.trans e37.gg).trans e8.gg;refine kF (R:=gE K af (ag af)) (x:=(q,(calls.drop a).take b)) rfl k1 ?_ e8.gh ?_ ?_
   .rw[aw k2];exact adf (show fo.length<=1200 by omega) (by decide)
   .refine FZ (bX (ab (i:=3) (v:=v_q) rfl h_q ((e5.gg.trans e6.gg).trans (e7.gg.trans e8.gg))) (RE.eq (Zi (ab (i:=0) (v:=kH) rfl rV s8) (mv (ab (i:=4) (v:=Lz) rfl ha e8.gg)) (mv (ab (i:=2) (v:=YZ) rfl Ti sr))) ?_));rw[show(a:Int)+(b:Int)=((a+b:Nat):Int) by omega,Xe (by omega) hab,Nat.add_sub_cancel_left]
   .intro x G9 H9 e9 r9;have A9:=A8.grow e9 (σ5:=[some kH,some (.ref p),some v,t3,Z,Y]) (xi3 _ _ _ rfl) (Paired.snoc (aq e9.gg k2) r9);refine xi2 (a+b,fo++[(q,(calls.drop a).take b)]) G9 ⟨⟨⟨YZ, ?_,⟨xi3 _ _ _ rfl,A9.ex,A9.sm,A9.gn,A9.at_⟩⟩,hab, ?_,f',cs',by rw[<- ht'];exact hcs', ?_⟩,by simp only;omega⟩
    .show YZ=V.int ((a+b:Nat):Int)
     rw[show YZ=V.int ((a:Int)+(b:Int)) from Ti]
     congr 1
    .rw[ab7,acg];simp only;omega
    .rw[<- U,acn,L,abz];rfl
  by_cases h32:q=32
  .obtain⟨m,r',er,hm0,hml,L,ht'⟩:=M.ord h32;have d2':calls.drop (k+1)=m::r':=d2.trans er;obtain⟨f1,f2,f3,f4⟩:=Ou d2';refine u7 e6.gh (D:=_) (dj (lV (ab rfl h_q (e5.gg.trans e6.gg)) ao)) (fun _ G7 H7 e7=> ?_) (fun h=>absurd h32 (ad_ h));refine cB e7.gh (R:=af) (x:=m) (R7 (ab rfl rV (s6.trans e7.gg)) (ab rfl iY (e6.gg.trans e7.gg)) (by omega) (by rw[show((k:Int)+1).toNat=k+1 by lia];exact f1)) fun O_ G8 H8 e8 aaa=> ?_
   refine qd e8.gh (R:=af) (oF (ab rfl iY ((e6.gg.trans e7.gg).trans e8.gg)) ao) fun Lz G9 H9 e9 mY=> ?_
   refine fin Lz O_ G9 H9 (k+2) m.toNat ((e7.trans e8).trans e9) ?_ ?_ (by lia) (by lia) ?_ ?_
   .rw[show Lz=_ from mY];show V.int _=V.int _;congr 1
   .rw[show O_=_ from aaa];show V.int _=V.int _;congr 1;lia
   .rw[L,f2]
   .rw[ht',<- f2,List.drop_drop]
  .obtain⟨hl,L,ht'⟩:=M.els h32;refine u7 e6.gh (D:=_) (d:=decide (q=32)) (dj (lV (ab rfl h_q (e5.gg.trans e6.gg)) ao)) (fun h=>absurd (aea h) h32) (fun _ G7 H7 e7=> ?_);have hcn:0<=counts.getD q.toNat 0:=QC ⟨q.toNat,by have:=M.rg;omega⟩;refine fin vB Lj G7 H7 (k+1) (counts.getD q.toNat 0).toNat e7 ?_ ?_ (by lia) (by lia) ?_ ?_
   .rw[show vB=_ from iY];rfl
   .rw[show Lj=_ from vx];show V.int _=V.int _;congr 1;lia
   .rw[L,d2]
   .rw[ht',<- d2,List.drop_drop]
 .rintro⟨k,fo⟩ J G' H' ⟨⟨v,hv,A⟩,hk,hfo,f,cs,O,U⟩ hc G3 H3 e3;obtain⟨t3,Z,Y,rfl⟩:=A.sh;have hk2:k=calls.length:=by have:=ad_ hc;simp only at this hk;lia
  simp only at O U;rw[hk2,List.drop_length] at O;have ecs:cs=[]:=by
   cases f<;>(simp[PyFlat.calls] at O;exact O)
  rw[ecs,acp,abA] at U;have A3:=A.kJ e3 (σ5:=[some kH,some (.ref p),some v,t3,Z,Y]) (xi3 _ _ _ rfl);obtain⟨G5,e5,r5⟩:=A3.done e1 hp;refine⟨_,rfl,kD _ G5 H3 e5 ?_⟩;rw[hsp,<- U];exact r5
end
end Cw
namespace My
open PySem PySem.Spec PyProof.Rows L2
def tabs (es:List DictEntry)(fs:List (Int×dr)):Prop:=Paired (fun(e:DictEntry) (p:Int×dr)=>e.hash=hashInt p.1/\(∃t,e.key=.int p.1 t)/\e.val=.ref p.2) es fs
def KD (K:b0)(a:dr)(fs:List (Int×dr)):Prop:=(a==sysModules)=false/\(fs.map (·.1)).Nodup/\ ∃(es:List DictEntry) (ep:Nat),K.lookup a=some {cls:=.type "dict",data:=.dict es.toArray ep}/\tabs es fs
def kvsOf (fs:List (Int×dr)):List (Key×ee):=fs.map fun p=>(Sum.inl p.1,Value.ref p.2)
section
variable {P:dn}{w:fx}{K:b0}{a:dr}{fs:List (Int×dr)}{h:Heap}
def z9:∀{es:List DictEntry} {fs:List (Int×dr)},tabs es fs->Pairs (fG P w) es (kvsOf fs)
 |_,_,.nil=>.nil
 |_,_,.cons ⟨_,⟨t,L⟩,J⟩ r=>.cons (by rw[L];exact mW P w _ t) J (z9 r)
def Ey:∀{es:List DictEntry} {fs:List (Int×dr)},tabs es fs-> ∀e∈es,∃k,(fG P w).is k e.key=true/\e.hash=(fG P w).hash k
 |_,_,.nil,e,J=>by cases J
 |_,_,.cons ⟨L,⟨t,M⟩,O⟩ r,e,J=>by
  rcases acu.mp J with rfl|J
  .exact⟨Sum.inl _,by rw[M];exact mW P w _ t,L⟩
  .exact Ey r e J
def KD.dictOf (d:KD K a fs)(X:K.In h):h.DictOf (fG P w) a (kvsOf fs):=by
 obtain⟨_,nd,es,ep,J,tb⟩:=d;refine xi3 _ es.toArray ep ⟨X a _ J,⟨rfl,rfl,rfl⟩,rfl,fun e L=>Ey tb e (by simp_all),z9 tb, ?_⟩;delta kvsOf
 grind
def zZ (i:Int):∀fs:List (Int×dr),valueAt (kvsOf fs) (Sum.inl i)=(fs.lookup i).map Value.ref
 |[]=>rfl
 |_::r=>by
  have J:=zZ i r;unfold valueAt kvsOf at*
  grind
end
section
variable {X:Cx}{a:dr}{fs:List (Int×dr)}{i:Expr}{x:Str}{p pos:Pos}{ty:TE}
def tKIn (fs:List (Int×dr))(ty:TE):TE:=fun σ H Q=>ty σ H fun y H1=>∃n,y=.int n/\Q (.bl (fs.lookup n).isSome) H1
def Ma (d:KD X.K a fs)(hi:PE X i ty)(M:X.mg x=some (.ref a))(O:Gl X x)(hd:(x==("__debug__":Str))=false:=by decide):PC X .In i (.Name x p) (tKIn fs ty):=by
 intro _ s σ H Q I h;refine gk (hi _ s σ H _ I h) fun Z Y z0=> ?_;obtain⟨y,H1,J,L,n,U,q⟩:=z0
 subst U;obtain⟨t,rfl⟩:=L;refine uY J O M ?_ hd;refine wpAny_in_of (mW _ X.w n t) d.1 (d.dictOf J.DX).mapOf ?_;rw[zZ];exact⟨.bl (fs.lookup n).isSome,H1,J.tok _,by show _=Value.bool _;rw[Option.isSome_map],q⟩
def tKGet (fs:List (Int×dr))(ty:TE):TE:=fun σ H Q=>ty σ H fun y H1=>∃n f,y=.int n/\fs.lookup n=some f/\Q (.ref f) H1
def zH (d:KD X.K a fs)(hi:PE X i ty)(U:X.mg x=some (.ref a))(Y:Gl X x)(O:NoSl i)(hd:(x==("__debug__":Str))=false:=by decide):PE X (.Subscript (.Name x p) i pos) (tKGet fs ty):=by
 intro _ s σ H Q I h;refine Vy PySem.F.slot_dict_getitem.lookup O (uY I Y U ?_ hd);refine gk (hi _ s σ H _ I h) fun iv s1 z0=> ?_;obtain⟨y,H1,L,M,n,f,ey,Z,q⟩:=z0
 subst ey;obtain⟨t,rfl⟩:=M;have J:=d.dictOf (P:=X.prog) (w:=X.w) L.DX;exact⟨J.typeIs,wpAny_getItem_of (mW _ X.w n t) J.mapOf (by rw[zZ,Z];rfl) ⟨.ref f,H1,L.tok _,rfl,q⟩⟩
structure Ll (P:dn)(w:fx)(K:b0)(mg:gp)(base:Heap)(k:Nat)(f:dr)(ps:ky)(sp:Sp):Prop where
 ex:∃fd,fA P w K mg base sQ k f fd ps sp/\PySem.W.keepIn K (.ref f)=true/\Binds K fd ps []
def Y_ (C:dr->Sp->Prop)(tf:TE)(t:TA):TE:=fun σ H Q=>tf σ H fun fv H1=>∃f sp,fv=.ref f/\C f sp/\t σ H1 fun vs H2=>sp vs H2 Q E0
def Ge (hC:∀f sp,C f sp->Ll X.prog X.w X.K X.mg X.base k f ps sp)(hf:PE X fe tf)(Y:fM k' X.A)(Z:k<=k')(ha:PA X (e::es) t)
  (he:eval (.Call fe (e::es) [] pos) X.env=(do callWith pos (<- eval fe X.env) [] (backTo pos (starEach (e::es) X.env)) (backToKw pos (keywordEach [] X.env))):=by rfl)
  (J:starEach (e::es) X.env=(false,eval e X.env)::starEach es X.env:=by rfl) (L:(backTo pos (starEach es X.env)).any (·.1)=false:=by rfl):PE X (.Call fe (e::es) [] pos) (Y_ C tf t):=by
 intro _ s σ H Q I h;refine Call_ (gk (hf _ s σ H _ I h) fun fv O ⟨y,H1,I1,U,f,sp,ey,hc,q⟩=> ?_) he;subst ey;obtain rfl:fv=Value.ref f:=U;obtain⟨fd,F,kp,hb⟩:=(hC f sp hc).ex;refine adN I.ok.mod.kin kp (gk (ha pos _ O σ H1 _ I1 q) fun us s2 ⟨vs,H2,M,r,q2⟩=>⟨M.DX, ?_⟩) J L;exact LY F (Y.mono Z) hb .nil Jm M r (by simp[*])
end
end My
namespace Cw
open PySem PySem.Spec PyProof.Rows L2 My
def dg (n:Int)(st:aC)(g:hA):C2:=match n.toNat with
 |0=>sy st g
 |1=>gZ st g
 |2=>kr st g
 |3=>mM st g
 |4=>fE st g
 |5=>jg st g
 |6=>mN st g
 |7=>gC st g
 |8=>jh st g
 |9=>iF st g
 |10=>HM st g
 |11=>jf st g
 |12=>eD st g
 |13=>vT st g
 |14=>vW st g
 |15=>l_ st g
 |16=>gD st g
 |17=>ki st g
 |18=>(st,zG st g)
 |19=>(st,wL st g)
 |20=>(st,zF st g)
 |21=>(st,wK st g)
 |22=>(st,F5 st)
 |23=>(st,uO st)
 |24=>(st,told (cO (aV st) (cM st)))
 |25=>(st,rO st g)
 |26=>(st,Ay st g)
 |27=>(st,pj st g)
 |28=>(st,Aw st g)
 |29=>(st,Ax st g)
 |30=>(st,rowsOf (f7 st))
 |31=>(st,xT st)
 |32=>(st,uN st g)
 |33=>(st,F6 st g)
 |34=>(st,mS st)
 |35=>(st,tN st)
 |36=>(st,kW st)
 |37=>(st,F4 st)
 |38=>(st,told (tV st (aV st)))
 |39=>(st,uP st g)
 |40=>(st,xS st g)
 |41=>(st,tM st g)
 |42=>(st,vF st g)
 |43=>(st,tL st g)
 |_=>(st,F3 st)
def CS (n:Int)(g:hA):Prop:=(n=32->g.length<=8/\ ∀y∈g,0<=y/\y<=4294967295)/\(n≠32->aW (counts.getD n.toNat 0).toNat g)
def F7 (n:Int)(st:aC)(g:hA):Prop:=jT st/\CS n g
def CL (K:b0)(t:jC)(fs:List (Int×dr))(f:dr)(sp:Sp):Prop:=∃n,fs.lookup n=some f/\sp=Nu K t (F7 n) (dg n)
def SpCall (K:b0)(t:jC):Sp:=fun vs H Q _=>∃vst n vg G0 H0 G st g,vs=[vst,.int n,vg]/\At K t G0 H0 G H vst st/\ag af G vg g/\F7 n st g/\(0<=n/\n<=46/\n≠44/\n≠45)/\ ∀v G' H',Ext G0 H0 G' H'->aE G G'->aU K t G' vst (dg n st g).1->ag af G' v (dg n st g).2->Q v H'
def vt:hA:=[0,13,14,15,16,17,46]
def BJ:hA:=[1,2,3,4,5,6,18,19,20,21,22,23,24,42,43]
def yP:hA:=[7,8,9,10,11,12,25,26,27,28,29,34,41]
def BK:hA:=[30,31,32,33,35,36,37,38,39,40]
def S2:∀k:Fin 47,k.val≠44->k.val≠45->(k.val:Int)∉vt->(k.val:Int)∉BJ->(k.val:Int)∉yP->(k.val:Int)∈BK:=by decide+kernel
def EN {fs:List (Int×dr)}:n∈fs.map (·.1)-> ∃f,fs.lookup n=some f:=by
 induction fs with
 |nil=>intro h;cases h
 |_ p r J=>
  rw[acj]
  by_cases e:n=p.1
  .simp_all
  .grind
def L3 (h:RE te σ G H af n):RE (tKIn fs te) σ G H dQ (fs.lookup n).isSome:=fun L H1 e Q q=>h L H1 e _ fun v M H2 J r=>⟨n,r,q _ _ _ J rfl⟩
structure TurnOk (h:jj)(n:Int)(g:hA):Prop where
 cK:rk h
 rg:0<=n/\n<=46
 giv:CS n g
 ne:(h.1.1=true\/n=0)->n≠44->n≠45->(dg n h.1 g).2≠[]
 Zd:(h.1.1=true\/n=0)->n≠44->n≠45->jT (dg n h.1 g).1
def fH (h:jj)(n:Int)(g:hA):jj×hA:=
 if !h.1.1&& !decide (n=0) then(h,[-61]) else if decide (n=44) then vY h else if decide (n=45) then sA h
 else if decide (0<=(dg n h.1 g).2.getD 0 0)&&decide (n=0) then(((dg n h.1 g).1,[],[]),(dg n h.1 g).2)
 else if decide (0<=(dg n h.1 g).2.getD 0 0) then(nG h (dg n h.1 g).1,(dg n h.1 g).2) else(h,(dg n h.1 g).2)
def SpT (K:b0)(t:jC):Sp:=fun vs H Q _=>∃G0 H0 G vh vg hh n g,vs=[vh,.int n,vg]/\HAt K t G0 H0 G H vh hh/\ag af G vg g/\TurnOk hh n g/\ ∀v G' H',HAt K t G0 H0 G' H' vh (fH hh n g).1->aE G G'->ag af G' v (fH hh n g).2->Q v H'
def w_ifE (s:Sub G H)(h:RT q σ G H d)(h1:d=true-> ∀G' H',Ext G H G' H'->t {D with nx:=u D} σ H')(h2:d=false-> ∀G' H',Ext G H G' H'->e {D with nx:=u D} σ H'):rC (Ph q t e) u D σ H:=u7 s h h1 h2
def TY {K:b0}{st:aC}(h:RE te σ G H (aU K t) st)(s:Sub G H)(sh:Short st)(k:∀M L H2 G' H',Ext G H L H2->At K t L H2 G' H' M st->aE L G'->Q M H'):s_ (La K t) [] E (bO te fV) σ H Q:=
 (bE h qp:RA _ σ G H _ _) G H (Ext.refl s) _ fun vs U H4 O ⟨v1,r1,q1,Z,Y⟩=>by
  subst q1;subst Y;exact xi3 U v1 st ⟨rfl,O.gh,Z,sh,fun v5 G5 H5 J s5=>k v5 U H4 G5 H5 O J s5⟩
def oA (s:jj×hA)(z:Int×hA):jj×hA:=((fH s.1 z.1 z.2).1,s.2++((fH s.1 z.1 z.2).2.length:Int)::(fH s.1 z.1 z.2).2)
def lW (ns:hA):hA:=((m_split ns).foldl oA ((Vz,[],[]),[])).2
def Run:jj->List (Int×hA)->Prop
 |_,[]=>True
 |h,z::r=>TurnOk h z.1 z.2/\Run (fH h z.1 z.2).1 r
def RW:∀{zs:List (Int×hA)} {h:jj} {l:hA} {i:Nat} {z:Int×hA},Run h zs->zs[i]?=some z->TurnOk ((zs.take i).foldl oA (h,l)).1 z.1 z.2
 |[],_,_,_,_,_,e=>by simp at e
 |y::r,h,l,0,z,J,e=>by
  simp at e;subst e;exact J.1
 |y::r,h,l,i+1,z,J,e=>by
  exact RW (zs:=r) J.2 e
def z6:∀(zs:List (Int×hA)) (s:jj×hA),s.2.length<=(zs.foldl oA s).2.length
 |[],_=>ac_ _
 |y::r,s=>adb (by
   show _<=(s.2++_).length
   rw[ab7];lia) (z6 r _)
def Vt {zs:List (Int×hA)}(e:zs[i]?=some z):(oA ((zs.take i).foldl oA s) z).2.length<=(zs.foldl oA s).2.length:=by
 have J:(zs.take (i+1)).foldl oA s=oA ((zs.take i).foldl oA s) z:=by
  rw[ac3,e,abR];rfl
 have h:=z6 (zs.drop (i+1)) ((zs.take (i+1)).foldl oA s)
 rwa [<- abR,ac0,J] at h
section
variable {P:dn}{w:fx}{K:b0}{mg:gp}{base:Heap}{t:jC}
def nL (C:Ll P w K mg base k f ["state","given"] (Fj K t pre fn))(O:∀st g,F7 n st g->pre st g:=by exact fun _ _ h=>⟨h.1,h.2.2 (by decide)⟩)(U:k<=10:=by decide)(e:dg n=fn:=by rfl):Ll P w K mg base 10 f ["state","given"] (Nu K t (F7 n) (dg n)):=by
 obtain⟨fd,F,kp,Z⟩:=C.ex;subst e;exact⟨fd,fA.imp (fA.mono F U) (fun vs H Q E h=>Nu.ofC vs H Q E (let⟨J,L,G0,H0,G,st,g,e,A,Y,M,k⟩:=h;(xi5 J L G0 H0 G ⟨st,g,e,A,Y,O st g M,k⟩))),kp,Z⟩
def Yx (C:Ll P w K mg base k f ["state","given"] (Nu K t pre fn))(O:∀st g,F7 n st g->pre st g:=by exact fun _ _ h=>⟨h.1,h.2.2 (by decide)⟩)(U:k<=10:=by decide)(e:dg n=fn:=by rfl):Ll P w K mg base 10 f ["state","given"] (Nu K t (F7 n) (dg n)):=by
 obtain⟨fd,F,kp,Z⟩:=C.ex;subst e;exact⟨fd,fA.imp (fA.mono F U) (fun vs H Q E ⟨J,L,G0,H0,G,st,g,e,A,Y,M,k⟩=>xi5 J L G0 H0 G ⟨st,g,e,A,Y,O st g M,k⟩),kp,Z⟩
def gR (C:Ll P w K mg base k f ["state","given"] (fz 2 (AC (aU K t) (AC (ag af) A0)) pre (ag af) fn))(J:∀st g,F7 n st g->pre (st,g,()):=by exact fun _ _ h=>⟨h.1,h.2.2 (by decide)⟩)(L:k<=10:=by decide)(e:dg n=fun st g=>(st,fn (st,g,())):=by rfl):Ll P w K mg base 10 f ["state","given"] (Nu K t (F7 n) (dg n)):=by
 obtain⟨fd,F,kp,M⟩:=C.ex;rw[e];exact⟨fd,fA.imp (fA.mono F L) (Nu.ofP J),kp,M⟩
abbrev jc:Df:=⟨"answer_call",167,["state","number","given"],fun K t=>SpCall K t⟩
def Ai:dP ["state","number","given"] jc:=by walk_at"s"
def Bc (F:bh K jc f fd)(T:Txt K mg t)(L:KD K aCARPET_CALLS fsCARPET_CALLS)(J:mg "CARPET_CALLS"=some (.ref aCARPET_CALLS))(hCARPET_CALLS:∀f sp,CL K t fsCARPET_CALLS f sp->Ll P w K mg base 10 f ["state","given"] sp)(Z:fsCARPET_CALLS.map (·.1)=vt)(Y:KD K aDYE_CALLS fsDYE_CALLS)(U:mg "DYE_CALLS"=some (.ref aDYE_CALLS))(hDYE_CALLS:∀f sp,CL K t fsDYE_CALLS f sp->Ll P w K mg base 10 f ["state","given"] sp)(kDYE_CALLS_:fsDYE_CALLS.map (·.1)=BJ)(O:KD K aROOM_CALLS fsROOM_CALLS)(M:mg "ROOM_CALLS"=some (.ref aROOM_CALLS))(hROOM_CALLS:∀f sp,CL K t fsROOM_CALLS f sp->Ll P w K mg base 10 f ["state","given"] sp)(kROOM_CALLS_:fsROOM_CALLS.map (·.1)=yP)(dALL_CALLS:KD K aALL_CALLS fsALL_CALLS)(gALL_CALLS:mg "ALL_CALLS"=some (.ref aALL_CALLS))(hALL_CALLS:∀f sp,CL K t fsALL_CALLS f sp->Ll P w K mg base 10 f ["state","given"] sp)(kALL_CALLS_:fsALL_CALLS.map (·.1)=BK):dO P w K mg base t 11 f fd jc:=by
 refine F.ok Ai (fun vs H Q E h=> ?_) (fun cdv A' outer s H vs Q E hr h=> ?_)
 .obtain⟨_,_,_,_,_,_,_,_,rfl,_⟩:=h;rfl
 .refine⟨_,(aa (a_ (ej (Ma L bz J rfl)) (ae (aj (Ge hCARPET_CALLS (zH L bz J rfl (fun _ _=>rfl)) hr (by decide) (aY aN bP)))) aD) (aa (a_ (ej (Ma Y bz U rfl)) (ae (aj (Ge hDYE_CALLS (zH Y bz U rfl (fun _ _=>rfl)) hr (by decide) (aY aN bP)))) aD) (aa (a_ (ej (Ma O bz M rfl)) (ae (aj (Ge hROOM_CALLS (zH O bz M rfl (fun _ _=>rfl)) hr (by decide) (aY aN bP)))) aD) (ae (aj (Ge hALL_CALLS (zH dALL_CALLS bz gALL_CALLS rfl (fun _ _=>rfl)) hr (by decide) (aY aN bP))))))), ?_⟩;obtain⟨vst,n,vg,G0,H0,G,st,g,rfl,⟨p,dx,a1,a2,a3,a4,rfl,A⟩,hg,pn,⟨n0,n46,n44,n45⟩,k⟩:=h;refine eR A.ex.gh (bZ (L3 (ab rfl rfl sr))) (fun hc0 G1 H1 e1=> ?_) (fun hc0 G1 H1 e1=> ?_)
  .obtain⟨fa,hf⟩:=adB.mp hc0;exact⟨_,rfl,n,fa,rfl,hf,fa,_,rfl,⟨n,hf,rfl⟩,_,rfl,_,rfl,.ref p,vg,G0,H0,_,st,g,rfl,xi5 p dx a1 a2 a3 ⟨a4,rfl,(A.later e1)⟩,aK.mono e1.gg hg,pn,fun v G' H' e' s'=>k v G' H' e' (e1.gg.trans s')⟩
  have B1:=A.later e1;refine eR B1.ex.gh (bZ (L3 (ab rfl rfl sr))) (fun hc1 G2 H2 e2=> ?_) (fun hc1 G2 H2 e2=> ?_)
  .obtain⟨fa,hf⟩:=adB.mp hc1;exact⟨_,rfl,n,fa,rfl,hf,fa,_,rfl,⟨n,hf,rfl⟩,_,rfl,_,rfl,.ref p,vg,G0,H0,_,st,g,rfl,xi5 p dx a1 a2 a3 ⟨a4,rfl,(B1.later e2)⟩,aK.mono (e1.gg.trans e2.gg) hg,pn,fun v G' H' e' s'=>k v G' H' e' ((e1.gg.trans e2.gg).trans s')⟩
  have B2:=B1.later e2;refine eR B2.ex.gh (bZ (L3 (ab rfl rfl sr))) (fun hc2 G3 H3 e3=> ?_) (fun hc2 G3 H3 e3=> ?_)
  .obtain⟨fa,hf⟩:=adB.mp hc2;exact⟨_,rfl,n,fa,rfl,hf,fa,_,rfl,⟨n,hf,rfl⟩,_,rfl,_,rfl,.ref p,vg,G0,H0,_,st,g,rfl,xi5 p dx a1 a2 a3 ⟨a4,rfl,(B2.later e3)⟩,aK.mono ((e1.gg.trans e2.gg).trans e3.gg) hg,pn,fun v G' H' e' s'=>k v G' H' e' (((e1.gg.trans e2.gg).trans e3.gg).trans s')⟩
  have hno:∀{fs:List (Int×dr)} {ks:hA},(fs.lookup n).isSome=false->fs.map (·.1)=ks->n∉ks:=fun h e z=>by
   obtain⟨f,hf⟩:=EN (by rw[e];exact z);rw[hf] at h;contradiction
  have hk:=S2 ⟨n.toNat,by lia⟩ (by show n.toNat≠44;lia) (by show n.toNat≠45;lia);simp only[abq n0] at hk;obtain⟨fa,hf⟩:=EN (by rw[kALL_CALLS_];exact(hk (hno hc0 Z) (hno hc1 kDYE_CALLS_) (hno hc2 kROOM_CALLS_)));have s3:=(e1.gg.trans e2.gg).trans e3.gg;exact⟨_,rfl,n,fa,rfl,hf,fa,_,rfl,⟨n,hf,rfl⟩,_,rfl,_,rfl,.ref p,vg,G0,H0,_,st,g,rfl,xi5 p dx a1 a2 a3 ⟨a4,rfl,(B2.later e3)⟩,aK.mono s3 hg,pn,fun v G' H' e' s'=>k v G' H' e' (s3.trans s')⟩
abbrev gc:Df:=⟨"answer_in_turn",168,["history","number","given"],fun K t=>SpT K t⟩
def kN:dP ["history","number","given","state","answer"] gc:=by walk_at"s"
def wV (F:bh K gc f fd)(T:Txt K mg t)(sx:aL P w K mg base t 1 jR)(HP:aL P w K mg base t 2 uf)(qC:aL P w K mg base t 11 jc)(Ct:aL P w K mg base t 4 qV)(vX:aL P w K mg base t 1 nh)(um:aL P w K mg base t 1 lz):dO P w K mg base t 12 f fd gc:=by
 refine F.ok kN (fun vs H Q E h=> ?_) (fun cdv A' outer s H vs Q E O h=> ?_)
 .obtain⟨_,_,_,_,_,_,_,_,rfl,_⟩:=h;rfl
 .refine⟨_,(aa (a_ (PW.pt (Az (fJ (de (aF K (aF K aN)))) (wM (ka Jo bz (g8 T.YK rfl))))) (ae (aj (az (aG (g8 T.QP rfl))))) aD) (aa (a_ (ka mV bz (g8 T.BACK rfl)) (ae (aj (bJ um O (aG aN)))) aD) (aa (a_ (ka mV bz (g8 T.AGAIN rfl)) (ae (aj (bJ vX O (aG aN)))) aD) (aa (dC 3 kN.nd (bJ Ct O (aG (aF K aN)))) (aa (dC 4 kN.nd (bJ qC O (cD dJ bz bP))) (aa (a_ (PW.pt (Az (ka iG (cW (dZ K) lO ai) ai) (wM (ka mV bz (g8 T.YK rfl))))) (ae (bS (bJ sx O (aY aN dJ)))) (ae (a_ (ka iG (cW (dZ K) lO ai) ai) (ae (bS (bJ HP O (aY aN dJ)))) aD))) (ae (aj lO)))))))), ?_⟩;obtain⟨G0,H0,G,vh,vg,hh,n,g,rfl,⟨p,dx,a1,a2,v0,rfl,A⟩,hg,tk,k⟩:=h;dsimp only[je,rd];have vn:∀{σ:L2.St} {G1 H1:Hp},σ[1]?=some (some (.int n))->RE (cc 1) σ G1 H1 af n:=fun b=>ab b rfl sr
  refine eR A.ex.gh (vD (fB (bZ (tK T (kP (a0 rfl A.ob T.br T.cY yd) fun G' s'=>aK.mono s' A.nw)))) fun _=>dj (L0 (vn rfl) ao)) (fun M G1 H1 e1=> ?_) (fun M G1 H1 e1=> ?_)
  .rw[show fH hh n g=(hh,[-61]) from by delta fH;rw[ad3 M]] at k;exact cf e1.gh cQ fun v G2 H2 Z r2=>k v G2 H2 ⟨p,dx,a1,a2,v0,rfl,A.later (e1.trans Z)⟩ (e1.trans Z).gg r2
  have f0:¬(!hh.1.1&& !decide (n=0))=true:=by rw[M];decide
  have A1:=A.later e1;refine eR A1.ex.gh (dj (lV (vn rfl) ao)) (fun Y G2 H2 Z=> ?_) (fun Y G2 H2 Z=> ?_)
  .rw[show fH hh n g=vY hh from by delta fH;rw[ad2 f0,ad3 Y]] at k;exact⟨_,rfl,G0,H0,G2,.ref p,hh,rfl,xi5 p dx a1 a2 v0 ⟨rfl,A1.later Z⟩,tk.cK,fun v G' H' a s r=>k v G' H' a ((e1.gg.trans Z.gg).trans s) r⟩
  have f1:¬decide (n=44)=true:=by rw[Y];decide
  have A2:=A1.later Z;refine eR A2.ex.gh (dj (lV (vn rfl) ao)) (fun U G3 H3 e3=> ?_) (fun U G3 H3 e3=> ?_)
  .rw[show fH hh n g=sA hh from by delta fH;rw[ad2 f0,ad2 f1,ad3 U]] at k;exact⟨_,rfl,G0,H0,G3,.ref p,hh,rfl,xi5 p dx a1 a2 v0 ⟨rfl,A2.later e3⟩,tk.cK,fun v G' H' a s r=>k v G' H' a (((e1.gg.trans Z.gg).trans e3.gg).trans s) r⟩
  have f2:¬decide (n=45)=true:=by rw[U];decide
  have A3:=A2.later e3;have s3:aE G G3:=(e1.gg.trans Z.gg).trans e3.gg;have n44:n≠44:=ad_ Y;have n45:n≠45:=ad_ U;have hbg:hh.1.1=true\/n=0:=by
   cases q:hh.1.1 with
   |true=>exact .inl rfl
   |false=>
    rw[q] at M;exact .inr (by simpa using M)
  have hne:=tk.ne hbg n44 n45;have L:=tk.Zd hbg n44 n45;have hts:fH hh n g=if decide (0<=(dg n hh.1 g).2.getD 0 0)&&decide (n=0) then(((dg n hh.1 g).1,[],[]),(dg n hh.1 g).2) else if decide (0<=(dg n hh.1 g).2.getD 0 0) then(nG hh (dg n hh.1 g).1,(dg n hh.1 g).2) else(hh,(dg n hh.1 g).2):=by
   delta fH;rw[ad2 f0,ad2 f1,ad2 f2]
  rw[hts] at k;generalize hcc:dg n hh.1 g=r at k hne L;refine TY (kP (a0 rfl A3.ob T.br T.cY yd) fun G' s'=>aK.mono s' A3.nw) A3.ex.gh tk.cK.now.short fun v5 G4 H4 G5 H5 e4 at5 s5=> ?_
  have A4:=A3.later e4;have s05:aE G G5:=(s3.trans e4.gg).trans s5;refine⟨_,rfl,_,rfl,_,rfl,v5,n,vg,G4,H4,G5,hh.1,g,rfl,at5,aK.mono s05 hg,⟨tk.cK.now,tk.giv⟩,⟨tk.rg.1,tk.rg.2,n44,n45⟩,fun v6 G6 H6 x6 s6 rs6 r6=> ?_⟩;rw[hcc] at rs6 r6;have A6:=A4.later x6;have s06:aE G G6:=s05.trans s6;obtain⟨y,ys,O⟩:∃y ys,r.2=y::ys:=by
   cases O:r.2 with
   |nil=>exact absurd O hne
   |cons y ys=>exact xi2 y ys rfl
  have hy:∀{σ:L2.St} {G1 H1:Hp},σ[4]?=some (some v6)->aE G6 G1->RE (il (gF K) (cc 4) (tC (.int 0))) σ G1 H1 af (r.2.getD 0 0):=fun b s=>aJ (ab b r6 s) ao (by decide) (by rw[O];rfl)
  delta i5;dsimp only;refine w_ifE A6.ex.gh (vD (dj (g7 (hy rfl sr) ao)) fun _=>dj (lV (vn rfl) ao)) (fun hc3 G7 H7 J=> ?_) (fun hc3 G7 H7 J=> ?_)
  .rw[ad3 hc3] at k;have A7:=A6.later J;refine⟨_,rfl,_,rfl,G0,H0,G7,.ref p,v5,hh,r.1,rfl,xi5 p dx a1 a2 v0 ⟨rfl,A7⟩,aK.mono J.gg rs6,tk.cK,L,fun G8 H8 a8 s8=> ?_⟩;obtain⟨p8,dx8,b1,b2,w0,ev,A8⟩:=a8;exact cf A8.ex.gh (ab rfl r6 (J.gg.trans s8)) fun v G9 H9 e9 r9=>k v G9 H9 ⟨p8,dx8,b1,b2,w0,ev,A8.later e9⟩ (((s06.trans J.gg).trans s8).trans e9.gg) r9
  rw[ad2 (by rw[hc3];decide)] at k;have A7:=A6.later J
  show Ph _ _ _ _ _ _
  refine u7 A7.ex.gh (dj (g7 (hy rfl J.gg) ao)) (fun hc4 G8 H8 e8=> ?_) (fun hc4 G8 H8 e8=> ?_)
  .rw[ad3 hc4] at k;have A8:=A7.later e8;refine⟨_,rfl,_,rfl,G0,H0,G8,.ref p,v5,hh,r.1,rfl,xi5 p dx a1 a2 v0 ⟨rfl,A8⟩,aK.mono (J.gg.trans e8.gg) rs6,tk.cK,L,fun G9 H9 a9 s9=> ?_⟩;obtain⟨p9,dx9,b1,b2,w0,ev,A9⟩:=a9;exact cf A9.ex.gh (ab rfl r6 ((J.gg.trans e8.gg).trans s9)) fun v Ga Ha ea ra=>k v Ga Ha ⟨p9,dx9,b1,b2,w0,ev,A9.later ea⟩ ((((s06.trans J.gg).trans e8.gg).trans s9).trans ea.gg) ra
  .rw[ad2 (by rw[hc4];decide)] at k;have A8:=A7.later e8;exact cf A8.ex.gh (ab rfl r6 (J.gg.trans e8.gg)) fun v Ga Ha ea ra=>k v Ga Ha ⟨p,dx,a1,a2,v0,rfl,A8.later ea⟩ (((s06.trans J.gg).trans e8.gg).trans ea.gg) ra
abbrev preA (x:hA×Unit):Prop:=(x.1.length<=1200/\ ∃cs,PyFlat.calls PyKh353.shape x.1.length x.1=some cs)/\Run (Vz,[],[]) (m_split x.1)/\(lW x.1).length<=sizeLine
abbrev gB:Df:=⟨"answers",169,["calls"],fun K _=>fz 1 (AC (QN K) A0) preA (ag af) (fun x=>lW x.1)⟩
def lT:dP ["calls","history","told","number","given","answer"] gB:=by walk_at"s"
def Mf (F:bh K gB f fd)(T:Txt K mg t)(qw:aL P w K mg base t 1 i8)(md:aL P w K mg base t 12 gc)(J:yY P w K mg base 4 "History" t.gj ["self"] (HZ K t)):dO P w K mg base t 13 f fd gB:=by
 refine F.ok lT (fun vs H Q E h=> ?_) (fun cdv A' outer s H vs Q E hr h=> ?_)
 .exact h.1
 .refine⟨_,(aa (dC 1 lT.nd (L_ J hr (by decide) rfl)) (aa (dC 2 lT.nd (az eU)) (aa (ek adF rfl (rP K (bJ qw hr (aG aN))) (Sr K (n:=2) rfl (cF (iZ 3 lT.nd) (cF (iZ 4 lT.nd) kX))) (aa (dC 5 lT.nd (bJ md hr (cD bz dJ lO))) (aa (bS (lP K adH adK gM bP (aG (nD T uQ)))) (ae (bS (lP K adI adL fP bP (aG uQ))))))) (ae (aj bP))))), ?_⟩;obtain⟨_,G,⟨ns,u⟩,sm,⟨kH,r0,rfl,rV,rfl⟩,⟨pc,prn,pl⟩,k⟩:=h;dsimp only[je,rd];dsimp only at rV pc prn pl k;intro p dx hp hd hn;have e1:Ext G H G (upd H dx (.own p)):=Ext.own sm hd;have hp1:(upd H dx (.own p)) p=none:=by rw[ax (fun z=>hn z.symm)];exact hp
  have e2:Ext G H G (upd (upd H dx (.own p)) p (.ins t.gj dx [])):=e1.trans (Ext.own e1.gh hp1);refine xi5 G H G p dx ⟨rfl,e2,hp,sm.free hp,ah,fun G1 H1 hA1 s1=>⟨rfl, ?_⟩⟩;obtain⟨p',dx',a1,a2,v0,ev,A1⟩:=hA1;injection ev with ev;subst ev;refine wj fun q hq=> ?_
  have A2:=A1.later (Ext.own (o:=.lst []) A1.ex.gh hq);have q0:H q=none:=A1.ex.hh.free hq;have qg:G q=none:=sm.free q0;have m1:a1≠q:=let⟨_,z,_⟩:=A1.c1.at_;aS z hq;have m2:a2≠q:=let⟨_,z,_⟩:=A1.c2.at_;aS z hq;refine jK oA ((Vz,[],[]),[]) (fun G2 _ s O G' H'=>∃a b c d1 b1 b2 w0 vs,O=[some kH,some (.ref p),some (.ref q),a,b,c]/\kE K t G H G' H' p d1 b1 b2 w0 s.1/\H' q=some (.lst vs)/\G' q=none/\b1≠q/\b2≠q/\Paired (af G') vs s.2/\aE G2 G')
   (zs:=m_split ns) A2.ex.gh (bD (ak (bp (ab rfl rV A2.ex.gg)) pc)) ?_ ?_ ?_ ?_
  .intro G3 H3 M;exact xi5 none none none dx' a1 (xi3 a2 v0 [] ⟨rfl,A2.later M,(M.hh _ _ ah).is trivial,M.keeps ah (A1.ex.gh.free hq),m1,m2,.nil,aE.refl _⟩)
  .rintro G2 H2 s O G' H' ⟨_,_,_,d1,b1,b2,w0,vs,rfl,B,_,_,_,_,_,s2⟩;exact⟨s2,B.ex.gh⟩
  .rintro G2 H2 e22 i z s hz hst O G' H' ⟨ta,tb,tc,d1,b1,b2,w0,vs,rfl,B,U,Y,n1,n2,pr,s2⟩ x G3 H3 M ⟨px,ux,wx,evx,hsx,hux,hwx⟩;subst evx;subst hux;refine mi (aE.tup M.gh.at_ hsx) _ ?_;have tk:TurnOk s.1 z.1 z.2:=by rw[hst];exact RW prn hz
   have Z:(oA s z).2.length<=sizeLine:=by rw[hst];exact adb (Vt hz) pl
   refine⟨_,rfl,_,rfl,_,rfl,G,_,G3,.ref p,wx,s.1,z.1,z.2,rfl,xi5 p d1 b1 b2 w0 ⟨rfl,((B.later M).hold (M.keeps U Y) ((M.hh _ _ U).is trivial) n1 n2)⟩,hwx,tk,fun v6 G6 H6 a6 s6 r6=> ?_⟩;obtain⟨p6,d6,c1,c2,w6,ev6,B6'⟩:=a6;injection ev6 with ev6;subst ev6;obtain⟨B6,L,gq6,k1,k2⟩:=B6'.loose q0 qg;have hvl:vs.length=s.2.length:=aw pr;delta oA at Z;rw[ab7,ab8] at Z;refine kF (R:=af) rfl L (by rw[hvl];lia) B6.ex.gh (dc (bp (aR r6))) fun v7 G7 H7 e7 r7=> ?_
   have B7:=(B6.later e7).fF (vs:=vs++[v7]) q0 (e7.keeps L gq6) ((e7.hh _ _ L).is trivial) k1 k2;refine mP (R:=af) rfl ah (by rw[ab7,hvl];show s.2.length+1+_<=_;lia) B7.ex.gh (ab rfl r6 e7.gg) fun us8 G8 H8 e8 r8=> ?_
   refine xi5 G8 _ _ _ d6 (xi4 c1 c2 w6 _ ⟨rfl,((B7.later e8).fF (vs:=(vs++[v7])++us8) q0 (e8.keeps ah (e7.keeps L gq6)) ((e8.hh _ _ ah).is trivial) k1 k2),ah,e8.keeps ah (e7.keeps L gq6),k1,k2, ?_,((((s2.trans M.gg).trans s6).trans e7.gg).trans e8.gg)⟩);rw[abz];exact dR (aq (e7.gg.trans e8.gg) (aq (M.gg.trans s6) pr)) (.cons r7 r8)
  .rintro G2 H2 e22 O G' H' ⟨ta,tb,tc,d1,b1,b2,w0,vs,rfl,B,U,Y,n1,n2,pr,s2⟩;exact⟨_,rfl,(k _ (upd G' q (.lst vs)) H' (B.ex.freeze q0 Y U) ⟨q,vs,rfl,ah,aq (bB Y) pr⟩)⟩
end
end Cw
namespace Cw
open My L2
open PySem (Paired)
def sT (d:Kh350.Dye):qE:=(i3 d.v,(d.price:Int),())
def m7 (t:Kh353.Tint):nv:=(i3 t.v,(t.grams:Int),())
def m8 (r:Nat×Nat):ji:=((r.1:Int),(r.2:Int),())
def b_ (g:Work):aC:=(true,(g.repeat_:Int),(g.drop:Int),(g.wide:Int),g.dyes.dyes.map sT,g.tints.map m7,g.rooms.map cA,g.rolls.map m8,())
structure En (wide:Nat)(r:Kh352.Abs):Prop where
 w:r.wide=wide
 u:r.undo=[]
 ac:1<=r.across/\r.across<=200
 al:1<=r.along/\r.along<=200
 nd:r.doors.length<=5
 ns:r.sides.length<=5
def TiOk (t:Kh353.Tint):Prop:=(0<=t.v.x/\t.v.x<=1000)/\(0<=t.v.y/\t.v.y<=1000)/\(0<=t.v.z/\t.v.z<=1000)/\1<=t.grams/\t.grams<=1000
structure iI (g:Work):Prop where
 rep:1<=g.repeat_/\g.repeat_<=60
 drop:g.drop < g.repeat_
 wide:1<=g.wide/\g.wide<=60
 dy:qF g.dyes
 li:g.dyes.lights=[]
 un:g.dyes.undo=[]
 tl:g.tints.length<=4
 ti:∀t∈g.tints,TiOk t
 rl:g.rooms.length<=3
 rm:∀r∈g.rooms,En g.wide r
 ol:g.rolls.length<=3
 ro:∀r∈g.rolls,1<=r.1/\r.1<=10000/\r.2 < g.repeat_
def W5 (h:(0<=d.v.x/\d.v.x<=50)/\(0<=d.v.y/\d.v.y<=50)/\(0<=d.v.z/\d.v.z<=50)/\0 < d.v.x+d.v.y+d.v.z/\d.price<=1000):OP (sT d):=by
 obtain⟨h1,h2,L,J,M⟩:=h;exact⟨⟨h1,h2,L⟩,J,by show 0<=(d.price:Int);lia,by show(d.price:Int)<=1000;lia⟩
def RY (h:En w r):dM (cA r):=by
 obtain⟨_,_,h1,h2,L,J⟩:=h;refine⟨?_, ?_, ?_, ?_⟩
 .show 1<=(r.across:Int)/\(r.across:Int)<=200;lia
 .show 1<=(r.along:Int)/\(r.along:Int)<=200;lia
 .show (r.doors.map _).length<=5;rw[aca];exact L
 .show (r.sides.map _).length<=5;rw[aca];exact J
def iI.Zd (W:iI g):jT (b_ g):=by
 refine⟨⟨?_, ?_, ?_⟩, ?_, ?_,⟨?_, ?_⟩, ?_, ?_, ?_, ?_⟩
 .have:=W.rep;show 1<=(g.repeat_:Int)/\(g.repeat_:Int)<=60;lia
 .have:=W.drop;show 0<=(g.drop:Int)/\(g.drop:Int) < (g.repeat_:Int);lia
 .have:=W.wide;show 1<=(g.wide:Int)/\(g.wide:Int)<=60;lia
 .show (g.rooms.map _).length<=3;rw[aca];exact W.rl
 .intro r L;obtain⟨x,J,rfl⟩:=acA.mp (L);exact RY (W.rm x J)
 .show (g.dyes.dyes.map _).length<=5;rw[aca];exact W.dy.1
 .intro d hd;obtain⟨x,J,rfl⟩:=acA.mp (hd);exact W5 (W.dy.2 x J)
 .show (g.tints.map _).length<=4;rw[aca];exact W.tl
 .intro t M;obtain⟨x,J,rfl⟩:=acA.mp (M);obtain⟨h1,h2,O,Y,U⟩:=W.ti x J;exact⟨⟨h1,h2,O⟩,by show 1<=(x.grams:Int);lia,by show(x.grams:Int)<=1000;lia⟩
 .show (g.rolls.map _).length<=3;rw[aca];exact W.ol
 .intro r L;obtain⟨x,J,rfl⟩:=acA.mp (L);obtain _:=W.ro x J;exact⟨⟨by show 1<=(x.1:Int);lia,by show(x.1:Int)<=10000;lia⟩,by show 0<=(x.2:Int);lia,by show(x.2:Int) < (g.repeat_:Int);lia⟩
def hX (a:Kh353.Ans):hA:=a.ret::a.out
structure cJ (r:C2)(x:Work×Kh353.Ans):Prop where
 eq:r=(b_ x.1,hX x.2)
 ok:iI x.1
def cS (W:iI g)(h:x.1=g)(e:q=hX x.2):cJ (b_ g,q) x:=by
 subst h;exact⟨by rw[e],W⟩
def uS (g:Work):bw (aV (b_ g))=kG g.dyes:=by
 show(g.dyes.dyes.map _).map _=g.dyes.dyes.map fun d=>i3 d.v
 rw[aco];rfl
def Sm (g:Work):bT (aV (b_ g))=qW g.dyes:=by
 show(g.dyes.dyes.map _).map _=g.dyes.dyes.map fun d=>_
 rw[aco];rfl
def oh (h:g.dyes.undo=[]):({g with dyes:={g.dyes with undo:=[]}}:Work)=g:=by
 obtain⟨⟨d,l,u⟩,t,r,J,w,rs,ro⟩:=g;subst h;rfl
def vv (x y z:Nat):dG ((x:Int),(y:Int),(z:Int))=okColour x y z:=by
 delta dG JN okColour
 grind
def BN (x y z p:Nat):oO ((x:Int),(y:Int),(z:Int)) (p:Int)= !decide (50 < x\/50 < y\/50 < z\/x+y+z=0\/1000 < p):=by
 delta oO JN
 grind
def uG (x y z:Nat):vH (i3 (vec x y z)):=⟨by show(0:Int)<=x;lia,by show(0:Int)<=y;lia,by show(0:Int)<=z;lia⟩
def oz (f:a->b)(m:Nat)(xs:List a)(x:a):c_ (m:Int) (xs.map f) (f x)=if m<=xs.length then(xs.map f,[-28]) else((xs++[x]).map f,[(xs.length:Int)]):=by
 delta c_
 simp
def lY (f:a->b):∀(xs:List a) (n:Nat),(xs.map f).eraseIdx n=(xs.eraseIdx n).map f
 |[],_=>rfl
 |_::_,0=>rfl
 |x::r,n+1=>by
  show f x::(r.map f).eraseIdx n=f x::(r.eraseIdx n).map f
  rw[lY f r n]
def pU (f:a->b)(n:Nat)(xs:List a):cV (xs.map f) (n:Int)=if xs.length<=n then(xs.map f,[-2]) else((xs.eraseIdx n).map f,[((xs.length - 1:Nat):Int)]):=by
 delta cV;rw[aca]
 by_cases h:xs.length<=n
 .grind
 .rw[ad2 h,ad2 (fun z=>absurd (aea z) (by lia)),abp]
  congr 1
  .exact lY f xs n
  .grind
section
variable {g:Work}
def f_dye (W:iI g)(x y z p:Nat):cJ (gZ (b_ g) [(x:Int),(y:Int),(z:Int),(p:Int)]) (does g (.dye x y z p)):=by
 have O:col [x,y,z,p]=((x:Int),(y:Int),(z:Int)):=rfl;have ep:[(x:Int),y,z,p].getD 3 0=p:=rfl
 show cJ _ (asksDyes g _)
 delta asksDyes Kh350.doing gZ;rw[O,ep,BN]
 by_cases h:50 < x\/50 < y\/50 < z\/x+y+z=0\/1000 < p
 .simp only[ad3 h,adZ h];exact cS W (oh W.un) rfl
 .simp only[ad2 h,adX h,Bool.not_false,aaV];have ea:=oz sT 5 g.dyes.dyes ⟨vec x y z,p⟩;have M:sT ⟨vec x y z,p⟩=(((x:Int),(y:Int),(z:Int)),_,()):=rfl;rw[M] at ea
  show cJ (if _=true then _ else(zX _ (c_ 5 (g.dyes.dyes.map _) _).1,(c_ 5 (g.dyes.dyes.map _) _).2)) _
  rw[ad2 (by decide),show(5)=((5:Nat):Int) from rfl,ea]
  by_cases L:DYES<=g.dyes.dyes.length
  .have J:5<=_:=L;simp only[ad3 L,ad3 J];exact cS W (oh W.un) rfl
  .have J:¬5<=_:=L;simp only[ad2 L,ad2 J];refine⟨rfl,⟨W.rep,W.drop,W.wide,⟨?_, ?_⟩,W.li,rfl,W.tl,W.ti,W.rl,W.rm,W.ol,W.ro⟩⟩
   .show (g.dyes.dyes++[_]).length<=5
    grind
   .intro d hd
    rcases acq.mp (hd) with hd|hd
    .exact W.dy.2 d hd
    .rw[acF.mp hd];refine⟨?_, ?_, ?_, ?_, ?_⟩
     .show 0<=(x:Int)/\(x:Int)<=50;omega
     .show 0<=(y:Int)/\(y:Int)<=50;omega
     .show 0<=(z:Int)/\(z:Int)<=50;omega
     .show 0 < x+y+(z:Int);omega
     .show p<=1000;omega
def WO (W:iI g)(i:Nat):cJ (kr (b_ g) [(i:Int)]) (does g (.undye i)):=by
 show cJ _ (asksDyes g _)
 delta asksDyes Kh350.doing kr
 show cJ (zX _ (cV (g.dyes.dyes.map _) i).1,(cV (g.dyes.dyes.map _) i).2) _
 rw[pU]
 by_cases h:g.dyes.dyes.length<=i
 .simp only[ad3 h];exact cS W (oh W.un) rfl
 .simp only[ad2 h];refine⟨rfl,⟨W.rep,W.drop,W.wide,⟨?_, ?_⟩,W.li,rfl,W.tl,W.ti,W.rl,W.rm,W.ol,W.ro⟩⟩
  .exact adb (ab9 _ _) W.dy.1
  .exact fun d hd=>W.dy.2 d (acC hd)
def get_map (f:a->b)(xs:List a)(i:Nat):(xs.map f)[i]?=(xs[i]?).map f:=ab0
def WV (W:iI g)(i p:Nat):cJ (mM (b_ g) [(i:Int),(p:Int)]) (does g (.price i p)):=by
 show cJ _ (asksDyes g _)
 delta asksDyes Kh350.doing mM
 show cJ (if decide (((g.dyes.dyes.map _).length:Int)<=i) then _ else if decide (1000 < (p:Int)) then _ else match(g.dyes.dyes.map sT)[(i:Int).toNat]? with|none=>_|some d=>_) _
 rw[aca,abp,get_map]
 by_cases h:g.dyes.dyes.length<=i
 .rw[ad3 (adZ (by lia))];have e:=abY h;simp only[e];exact cS W (oh W.un) rfl
 .rw[ad2 (fun z=>absurd (aea z) (by omega))];have e:g.dyes.dyes[i]?=some g.dyes.dyes[i]:=abX _;simp only[e,adC];generalize g.dyes.dyes[i]=d at e
  by_cases h2:1000 < p
  .rw[ad3 (adZ (by lia)),ad3 h2];exact cS W (oh W.un) rfl
  .rw[ad2 (fun z=>absurd (aea z) (by omega)),ad2 h2];refine⟨?_,⟨W.rep,W.drop,W.wide,⟨?_, ?_⟩,W.li,rfl,W.tl,W.ti,W.rl,W.rm,W.ol,W.ro⟩⟩
   .show _=_
    have M:(g.dyes.dyes.set i {d with price:=p}).map sT=(g.dyes.dyes.map sT).set i (i3 d.v,p,()):=by rw[List.map_set];rfl
    show _=(((true,_,_,_,(g.dyes.dyes.set i {d with price:=p}).map sT,_):aC),_)
    rw[M];rfl
   .show (g.dyes.dyes.set i _).length<=5
    rw[acf];exact W.dy.1
   .intro y J
    rcases mem_set (J) with J|rfl
    .exact W.dy.2 y J
    .obtain⟨h1,L,U,O,_⟩:=W.dy.2 d (acB e)
     simp_all
end
end Cw
namespace Cw
open My L2
open PySem (Paired)
def Rh (n:Nat):upTo 0 n=(List.range n).map Int.ofNat:=by
 refine acm fun k _=> ?_
 simp
def tS (xs:List c)(d:c):numbered xs=(List.range xs.length).map fun i:Nat=>((i:Int),xs.getD i d):=by
 delta numbered;refine abH fun i=> ?_
 grind
def wk (a:Kh350.Abs)(i:Nat):kG (Kh350.without a i)=(kG a).eraseIdx i:=(lY _ _ _).symm
def rY (h:qF a)(i:Nat):qF (Kh350.without a i):=
 ⟨adb (ab9 _ _) h.1,fun d hd=>h.2 d (acC hd)⟩
section
variable {g:Work}
def aah (W:iI g)(x y z n:Nat):cJ (fE (b_ g) [(x:Int),(y:Int),(z:Int),(n:Int)]) (does g (.tint x y z n)):=by
 have Y:col [x,y,z,n]=((x:Int),(y:Int),(z:Int)):=rfl;have ep:[(x:Int),y,z,n].getD 3 0=n:=rfl;delta does fE;rw[Y,ep,vv];have O:aX n 1 1000=decide (¬(n < 1\/1000 < n)):=by
  delta aX;rw[aaR];simp only[aaO,ad0];omega
 rw[O]
 by_cases h:okColour x y z=false\/n < 1\/1000 < n
 .simp only[ad3 h];have M:(!okColour x y z|| !decide (¬(n < 1\/1000 < n)))=true:=by
   rcases h with h|h
   .rw[h];rfl
   .rw[adX (fun z=>z h)];simp
  rw[ad3 M];exact cS W rfl rfl
 .simp only[ad2 h];have h1:okColour x y z=true:=by
   cases q:okColour x y z with
   |true=>rfl
   |_=>simp_all
  have h2:¬_:=fun z=>h (.inr z)
  have M:¬(!okColour x y z|| !decide (¬(n < 1\/1000 < n)))=true:=by rw[h1,adZ h2];decide
  rw[ad2 M];have ea:=oz m7 4 g.tints ⟨vec x y z,n⟩;have U:m7 ⟨vec x y z,n⟩=(((x:Int),(y:Int),(z:Int)),_,()):=rfl;rw[U] at ea
  show cJ (vA _ (c_ ((4:Nat):Int) (g.tints.map _) _).1,(c_ ((4:Nat):Int) (g.tints.map _) _).2) _
  rw[ea]
  by_cases L:Kh353.TINTS<=g.tints.length
  .have J:4<=_:=L;simp only[ad3 L,ad3 J];exact cS W rfl rfl
  .have J:¬4<=_:=L;simp only[ad2 L,ad2 J];refine⟨rfl,⟨W.rep,W.drop,W.wide,W.dy,W.li,W.un, ?_, ?_,W.rl,W.rm,W.ol,W.ro⟩⟩
   .show (g.tints++[_]).length<=4
    rw[ab7]
    show _+1<=4
    lia
   .intro d hd
    rcases acq.mp (hd) with hd|hd
    .exact W.ti d hd
    .rw[acF.mp hd];delta okColour at h1;simp only[aaO,ad0] at h1;refine⟨?_, ?_, ?_, ?_, ?_⟩
     .show 0<=(x:Int)/\(x:Int)<=1000;lia
     .show 0<=(y:Int)/\(y:Int)<=1000;lia
     .show 0<=(z:Int)/\(z:Int)<=1000;lia
     .show 1<=n;omega
     .show n<=1000;omega
def TH (W:iI g)(i:Nat):cJ (jg (b_ g) [(i:Int)]) (does g (.untint i)):=by
 delta does jg
 show cJ (vA _ (cV (g.tints.map _) i).1,(cV (g.tints.map _) i).2) _
 rw[pU]
 by_cases h:g.tints.length<=i
 .simp only[ad3 h];exact cS W rfl rfl
 .simp only[ad2 h];exact⟨rfl,⟨W.rep,W.drop,W.wide,W.dy,W.li,W.un,adb (ab9 _ _) W.tl,fun d hd=>W.ti d (acC hd),W.rl,W.rm,W.ol,W.ro⟩⟩
def WZ (W:iI g)(i n:Nat):cJ (mN (b_ g) [(i:Int),(n:Int)]) (does g (.grams i n)):=by
 delta does mN
 show cJ (if decide (((g.tints.map _).length:Int)<=i) then _ else if !aX n 1 1000 then _ else match(g.tints.map m7)[(i:Int).toNat]? with|none=>_|some d=>_) _
 rw[aca,abp,get_map];have O:aX n 1 1000=decide (¬(n < 1\/1000 < n)):=by
  delta aX;rw[aaR];simp only[aaO,ad0];omega
 rw[O]
 by_cases h:g.tints.length<=i
 .rw[ad3 (adZ (by lia))];have e:=abY h;simp only[e];exact cS W rfl rfl
 .rw[ad2 (fun z=>absurd (aea z) (by omega))];have e:g.tints[i]?=some g.tints[i]:=abX _;simp only[e,adC];generalize g.tints[i]=d at e
  by_cases h2:n < 1\/1000 < n
  .rw[ad3 (by lia),ad3 h2];exact cS W rfl rfl
  .rw[ad2 (by lia),ad2 h2];refine⟨?_,⟨W.rep,W.drop,W.wide,W.dy,W.li,W.un, ?_, ?_,W.rl,W.rm,W.ol,W.ro⟩⟩
   .have U:(g.tints.set i {d with grams:=n}).map m7=(g.tints.map m7).set i (i3 d.v,n,()):=by rw[List.map_set];rfl
    show _=(((true,_,_,_,_,(g.tints.set i {d with grams:=n}).map m7,_):aC),_)
    rw[U];rfl
   .show (g.tints.set i _).length<=4
    rw[acf];exact W.tl
   .intro y J
    rcases mem_set (J) with J|rfl
    .exact W.ti y J
    .obtain⟨h1,L,M,Y,_⟩:=W.ti d (acB e);exact⟨h1,L,M,by show 1<=n;lia,by show n<=1000;lia⟩
def Qt (W:iI g)(h:Kh350.doing g.dyes c=(g.dyes,A))(e:q=A.ret::A.out):cJ (b_ g,q) (asksDyes g c):=by
 refine cS W ?_ ?_
 .show ({g with dyes:={(Kh350.doing _ c).1 with undo:=[]}}:Work)=g
  rw[h];exact oh W.un
 .show q=(Kh350.doing _ c).2.ret::(Kh350.doing _ c).2.out
  lia
def Xl (x y z:Nat):col [(x:Int),(y:Int),(z:Int)]=i3 (vec x y z):=rfl
def zL (x y z:Nat):dG (i3 (vec x y z))=okColour x y z:=vv x y z
def WX (W:iI g)(x y z:Nat):cJ (b_ g,zG (b_ g) [(x:Int),(y:Int),(z:Int)]) (does g (.makes x y z)):=by
 refine Qt W rfl ?_;delta zG;rw[Xl,zL,uS,oN W.dy (uG x y z)];cases h:okColour x y z with
 |false=>rfl
 |_=>cases J:Kh350.makes _ _<;>rfl
def WY (W:iI g)(x y z:Nat):cJ (b_ g,wL (b_ g) [(x:Int),(y:Int),(z:Int)]) (does g (.least x y z)):=by
 refine Qt W rfl ?_;delta wL;rw[Xl,zL,uS,Sm];have J:=BB W.dy (uG x y z);cases h:okColour x y z with
 |false=>rfl
 |_=>
  cases h1:eM _ _ _ with
  |none=>
   cases h2:Kh350.least _ _ with
   |none=>rfl
   |_ M=>rw[h1,h2] at J;exact J.elim
  |_ m=>
   cases h2:Kh350.least _ _ with
   |none=>rw[h1,h2] at J;exact J.elim
   |_ M=>
    rw[h1,h2] at J;exact Pg J
def WT (W:iI g)(x y z:Nat):cJ (b_ g,zF (b_ g) [(x:Int),(y:Int),(z:Int)]) (does g (.shows x y z)):=by
 refine Qt W rfl ?_;delta zF;rw[Xl,zL,uS,Mv];cases h:okColour x y z with
 |false=>rfl
 |_=>
  cases h1:Kh350.light _ _ with
  |none=>rfl
  |_ v=>rfl
def gd (l:ko):cb (l.map Int.ofNat)=(l.length:Int)::nums l:=by
 unfold cb;rw[aca];rfl
def P0 (W:iI g)(J:vH (i3 t)):((upTo 0 (kG g.dyes).length).filter fun n=> !cx ((kG g.dyes).eraseIdx n.toNat) (i3 t))=(Kh350.needed g.dyes t).map Int.ofNat:=by
 rw[Rh,abM,show(kG _).length=g.dyes.dyes.length from aca _]
 congr 1
 refine abJ fun i _=> ?_
 show(!cx _ _)=_
 rw[show(Int.ofNat i).toNat=i from rfl,<- wk,oN (rY W.dy i) J]
def TQ (W:iI g)(x y z:Nat):cJ (b_ g,wK (b_ g) [(x:Int),(y:Int),(z:Int)]) (does g (.needed x y z)):=by
 refine Qt W rfl ?_;delta wK;rw[Xl,zL,uS,oN W.dy (uG x y z),P0 W (uG x y z),gd];cases h:okColour x y z with
 |false=>rfl
 |_=>cases J:Kh350.makes _ _<;>rfl
def Wy (W:iI g):(((numbered (kG g.dyes)).filter fun z=>cx ((kG g.dyes).eraseIdx z.1.toNat) z.2).map fun z=>z.1)=(Kh350.idle g.dyes).map Int.ofNat:=by
 rw[tS _ _,abM,aco,show(kG _).length=g.dyes.dyes.length from aca _]
 congr 1
 refine abJ fun i hi=> ?_
 show cx _ ((kG _).getD i _)=_
 rw[abp,rq,<- wk];refine oN (rY W.dy i) ?_;have hi:=acE.mp hi;delta dyeAt;rw[abX hi];obtain⟨h1,h2,J,_⟩:=W.dy.2 _ (ab5 hi);exact⟨h1.1,h2.1,J.1⟩
def aao (W:iI g):cJ (b_ g,F5 (b_ g)) (does g .idle):=by
 refine Qt W rfl ?_;delta F5;rw[uS,Wy W,gd];rfl
def Qo (W:iI g):cJ (b_ g,uO (b_ g)) (does g .lacking):=by
 refine cS W rfl ?_;delta uO;rw[uS]
 show cb (((numbered (g.tints.map _)).filter fun z=> !cx _ _).map fun z=>z.1)=_
 rw[tS _ _,abM,aco,aca]
 show cb (List.map Int.ofNat _)=_
 rw[gd];have e:(List.range g.tints.length).filter ((fun z:Int×_=> !cx (kG g.dyes) z.2.1) ∘ fun i:Nat=>(i,(g.tints.map m7).getD i (m7 ⟨⟨0,0,0⟩,0⟩)))=(List.range g.tints.length).filter fun i=>match g.tints[i]? with
   |some t=> !Kh350.makes g.dyes t.v
   |none=>false:=by
  refine abJ fun i hi=> ?_
  have hi:=acE.mp hi
  show(!cx _ ((g.tints.map m7).getD i _).1)=_
  rw[abU,ab0,abX hi];obtain⟨h1,h2,J,_⟩:=W.ti _ (ab5 hi)
  show(!cx _ (i3 (g.tints[i]).v))=_
  rw[oN W.dy ⟨h1.1,h2.1,J.1⟩]
 rw[e];rfl
def OIs:Option (Int×Int)->Option Frac->Prop
 |none,none=>True
 |some f,some F=>Is F f.1 f.2
 |_,_=>False
def Cp (h:qF a):∀(l:List Kh353.Tint),(∀t∈l,TiOk t)-> ∀{o:Option (Int×Int)} {O:Option Frac},OIs o O->OIs ((l.map m7).foldl (l7 (kG a) (qW a)) o) (l.foldl (fun o t=>match o,costOf a t.v with
  |some x,some c=>some (Kh353.add x (Kh353.times t.grams c))
  |_,_=>none) O)
 |[],_,_,_,r=>r
 |t::l,Y,o,O,r=>by
  rw[acn,abS,abS];refine Cp h l (fun x Z=>Y x (acv _ Z)) ?_;obtain⟨h1,h2,h3,_⟩:=Y t acw;have J:=BB h ⟨h1.1,h2.1,h3.1⟩;cases o with
  |none=>
   cases O with
   |none=>exact True.intro
   |_ F=>exact r.elim
  |_ f=>
   cases O with
   |none=>exact r.elim
   |_ F=>
    delta l7 costOf
    show OIs (match eM _ _ (i3 t.v) with|none=>_|some m=>some _) _
    cases U:eM _ _ _ with
    |none=>
     cases L:Kh350.least a t.v with
     |none=>exact True.intro
     |_ M=>rw[U,L] at J;exact J.elim
    |_ m=>
     cases L:Kh350.least a t.v with
     |none=>rw[U,L] at J;exact J.elim
     |_ M=>
      rw[U,L] at J;exact r.add ((Xj J).times (by lia))
def KR (W:iI g)(h:qF a):OIs (jX (a.dyes.map sT) (g.tints.map m7)) (centimetre {g with dyes:=a}):=by
 delta jX centimetre;have L:bw (a.dyes.map sT)=kG a:=by
  show(a.dyes.map _).map _=a.dyes.map fun d=>i3 d.v
  rw[aco];rfl
 have J:bT (a.dyes.map sT)=qW a:=by
  show(a.dyes.map _).map _=a.dyes.map fun d=>_
  rw[aco];rfl
 rw[L,J];exact Cp h _ W.ti Is.zero
def Hf (W:iI g):cJ (b_ g,told (cO (aV (b_ g)) (cM (b_ g)))) (does g .centimetre):=by
 refine cS W rfl ?_;have h:=KR W W.dy
 show told ((jX (g.dyes.dyes.map _) (g.tints.map _)).map _)=hX (match centimetre g with|none=>Kh353.say _|some c=>_)
 cases L:jX _ _ with
 |none=>
  cases J:centimetre g with
  |none=>rfl
  |_ F=>rw[L,J] at h;exact h.elim
 |_ f=>
  cases J:centimetre g with
  |none=>rw[L,J] at h;exact h.elim
  |_ F=>
   rw[L,J] at h
   show [0]++cR f.1 f.2=0::Kh353.told F
   rw[Is.told h];rfl
def Qn (W:iI g)(i:Nat):cJ (b_ g,vF (b_ g) [(i:Int)]) (does g (.lookDye i)):=by
 refine Qt W rfl ?_
 show(if decide (((g.dyes.dyes.map _).length:Int)<=i) then[-2] else match(g.dyes.dyes.map sT)[(i:Int).toNat]? with|none=>[]|some d=>_)=_
 rw[aca,abp,get_map]
 by_cases h:g.dyes.dyes.length<=i
 .rw[ad3 (adZ (by lia)),abY h];rfl
 .rw[ad2 (fun z=>absurd (aea z) (by omega)),abX (by omega)];rfl
def MN (W:iI g)(i:Nat):cJ (b_ g,tL (b_ g) [(i:Int)]) (does g (.lookTint i)):=by
 refine cS W rfl ?_
 show(if decide (((g.tints.map _).length:Int)<=i) then[-2] else match(g.tints.map m7)[(i:Int).toNat]? with|none=>[]|some d=>_)=hX (match g.tints[i]? with|none=>Kh353.say _|some t=>_)
 rw[aca,abp,get_map]
 by_cases h:g.tints.length<=i
 .rw[ad3 (adZ (by lia)),abY h];rfl
 .rw[ad2 (fun z=>absurd (aea z) (by omega)),abX (by omega)];rfl
end
end Cw
namespace Cw
open My L2
open PySem (Paired)
def RD {l:List a}(h:l[i]?=some x):l.set i x=l:=by
 refine abH fun j=> ?_
 grind
def Ak (h:g.rooms[i]?=some r)(u:r.undo=[]):({g with rooms:=g.rooms.set i {r with undo:=[]}}:Work)=g:=by
 have e:({r with undo:=[]}:Kh352.Abs)=r:=by
  obtain⟨a,b,c,d,s,un⟩:=r;subst u;rfl
 rw[e,RD h]
section
variable {g:Work}
def aaj (W:iI g)(x y:Nat):cJ (gC (b_ g) [(x:Int),(y:Int)]) (does g (.room x y)):=by
 have O:does g (.room x y)=if okRoom 1 x y=false then _ else if _<=_ then _ else _:=rfl
 rw[O]
 show cJ (if !aX x 1 200|| !aX y 1 200 then _ else(dH _ (c_ ((3:Nat):Int) (g.rooms.map _) (cA (Kh352.begun g.wide x y))).1,(c_ ((3:Nat):Int) (g.rooms.map _) (cA (Kh352.begun g.wide x y))).2)) _
 rw[oz];have M:(!aX x 1 200|| !aX y 1 200)= !okRoom 1 x y:=by
  delta aX okRoom
  grind
 rw[M];cases h:okRoom 1 x y with
 |false=>
  exact cS W rfl rfl
 |_=>
  by_cases L:3<=g.rooms.length
  .rw[ad3 L,ad3 (show ROOMS<=_ from L)];exact cS W rfl rfl
  .rw[ad2 L,ad2 (show ¬ROOMS<=_ from L)];refine⟨rfl,⟨W.rep,W.drop,W.wide,W.dy,W.li,W.un,W.tl,W.ti, ?_, ?_,W.ol,W.ro⟩⟩
   .grind
   .intro r J
    rcases acq.mp (J) with J|J
    .exact W.rm r J
    .rw[acF.mp J];delta okRoom at h;simp only[aaO,ad0] at h;exact⟨rfl,rfl,by show 1<=x/\x<=200;omega,by show 1<=y/\y<=200;omega,adz _,adz _⟩
def TJ (W:iI g)(i:Nat):cJ (jh (b_ g) [(i:Int)]) (does g (.unroom i)):=by
 delta does jh
 show cJ (dH _ (cV (g.rooms.map _) i).1,(cV (g.rooms.map _) i).2) _
 rw[pU]
 by_cases h:g.rooms.length<=i
 .simp only[ad3 h];exact cS W rfl rfl
 .simp only[ad2 h];exact⟨rfl,⟨W.rep,W.drop,W.wide,W.dy,W.li,W.un,W.tl,W.ti,adb (ab9 _ _) W.rl,fun d hd=>W.rm d (acC hd),W.ol,W.ro⟩⟩
def NM (h:((aA st).length:Int)<=gi.getD 0 0):jf st gi=(st,[-2]):=by
 delta jf
 simp_all
def Ov (h:((aA st).length:Int)<=gi.getD 0 0):iF st gi=(st,[-2]):=by
 unfold iF
 simp_all
def zA {i:Nat}(e:gi.getD 0 0=(i:Int))(h:(aA st)[i]?=some r):jf st gi=(dH st ((aA st).set i (iS r)),[r.2.1]):=by
 delta jf
 grind
def Hh {i:Nat}(e:gi.getD 0 0=(i:Int))(h:(aA st)[i]?=some r):iF st gi=if decide (gi.getD 2 0<=gi.getD 1 0)||decide (r.1 < gi.getD 2 0) then(st,[-22]) else(dH st ((aA st).set i (r.1,r.2.1,(c_ 5 r.2.2.1 (gi.getD 1 0,gi.getD 2 0)).1,r.2.2.2.1,())),(c_ 5 r.2.2.1 (gi.getD 1 0,gi.getD 2 0)).2):=by
 have hi:i < (aA st).length:=by
  grind
 delta iF;rw[e,ad2 (fun z=>absurd (aea z) (by lia)),abp,h]
def qJ (W:iI g)(h:g.rooms[i]?=some r)(ok:En g.wide r->En g.wide L):iI {g with rooms:=g.rooms.set i L}:=by
 refine⟨W.rep,W.drop,W.wide,W.dy,W.li,W.un,W.tl,W.ti, ?_, ?_,W.ol,W.ro⟩
 .show (g.rooms.set i _).length<=3
  rw[acf];exact W.rl
 .intro y J
  rcases mem_set (J) with J|rfl
  .exact W.rm y J
  .exact ok (W.rm r (acB h))
def uK (e:cA J=x):dH (b_ g) ((g.rooms.map cA).set i x)=b_ {g with rooms:=g.rooms.set i J}:=by
 rw[<- e,<- List.map_set];rfl
def GY {i:Nat}(h:g.rooms[i]?=some r):(aA (b_ g))[i]?=some (cA r):=by
 show(g.rooms.map _)[i]?=_
 simp[*]
def GF {i:Nat}(h:g.rooms[i]?=none):((aA (b_ g)).length:Int)<=(i:Int):=by
 show((g.rooms.map _).length:Int)<=_
 simp_all
def aag (W:iI g)(i:Nat):cJ (jf (b_ g) [(i:Int)]) (does g (.turn i)):=by
 show cJ _ (withRoom g i .turn)
 delta withRoom;cases h:g.rooms[i]? with
 |none=>rw[NM (GF h)];exact cS W rfl rfl
 |_ r=>
  rw[zA rfl (GY h)];refine⟨?_,qJ W h fun z=>⟨z.w,rfl,z.al,z.ac,z.ns,z.nd⟩⟩
  show(dH _ ((g.rooms.map _).set i (cA {r with across:=r.along,along:=r.across,doors:=r.sides,sides:=r.doors,undo:=[]})),[_])=_
  rw[uK rfl];rfl
def E7 (r x f t:Nat):(decide ((t:Int)<=(f:Int))||decide ((x:Int) < (t:Int)))= !okDoor x f t:=by
 delta okDoor
 grind
def aar (W:iI g)(i f t:Nat):cJ (iF (b_ g) [(i:Int),(f:Int),(t:Int)]) (does g (.door i f t)):=by
 show cJ _ (withRoom g i _)
 delta withRoom;cases h:g.rooms[i]? with
 |none=>rw[Ov (GF h)];exact cS W rfl rfl
 |_ r=>
  rw[Hh rfl (GY h)]
  show cJ (if decide (t<=(f:Int))||decide ((r.across:Int) < t) then _ else(dH _ ((g.rooms.map _).set i (_,_,(c_ ((5:Nat):Int) (r.doors.map _) (qR (f,t))).1,r.sides.map qR,())),(c_ ((5:Nat):Int) (r.doors.map qR) (qR (f,t))).2)) _
  rw[E7 0,oz];have L:Kh352.doing (some r) (.door f t)=if okDoor _ f t=false then _ else if _<=_ then _ else _:=rfl
  simp only[L];cases hd:okDoor _ f t with
  |false=>
   exact cS W (Ak h (W.rm r (acB h)).u) rfl
  |_=>
   by_cases J:5<=r.doors.length
   .rw[ad3 J,ad3 (show DOORS<=_ from J)];refine⟨?_, ?_⟩
    .show (dH _ ((g.rooms.map _).set i (cA {r with undo:=[]})),[-28])=_
     rw[uK rfl];rfl
    .exact qJ W h fun z=>⟨z.w,rfl,z.ac,z.al,z.nd,z.ns⟩
   .rw[ad2 J,ad2 (show ¬DOORS<=r.doors.length from J)];refine⟨?_, ?_⟩
    .show (dH (b_ g) ((g.rooms.map cA).set i (cA {r with doors:=r.doors++[_],undo:=[]})),[_])=_
     rw[uK rfl];rfl
    .refine qJ W h fun z=>⟨z.w,rfl,z.ac,z.al, ?_,z.ns⟩
     show(r.doors++[_]).length<=5
     grind
def RF {l:List a}(h:l[i]?=some x):(l.set i y)[i]?=some y:=by
 grind
def aai (W:iI g)(i f t:Nat):cJ (HM (b_ g) [(i:Int),(f:Int),(t:Int)]) (does g (.side i f t)):=by
 show cJ _ (withRoom g i _)
 delta withRoom HM;cases h:g.rooms[i]? with
 |none=>
  have O:jf _ [i,f,t]=_:=NM (GF h);have J:iF _ [i,f,t]=_:=Ov (GF h);rw[O];rw[J];rw[O];exact cS W rfl rfl
 |_ r=>
  have M:=GY h;rw[zA rfl M];have h1:_[i]?=some (iS (cA r)):=RF M;have U:Kh352.doing (some r) (.side f t)=if okDoor _ f t=false then _ else if _<=_ then _ else _:=rfl
  simp only[U];have hc:_= !okDoor r.along f t:=E7 0 _ _ _;cases hd:okDoor _ f t with
  |false=>
   have J:iF (dH (b_ g) ((aA (b_ g)).set i (iS (cA r)))) [i,f,t]=(dH (b_ g) ((aA (b_ g)).set i (iS (cA r))),[-22]):=by
    rw[Hh rfl h1];exact ad3 (by rw[hd] at hc;exact hc)
   rw[J,zA rfl h1,ad3 rfl];refine⟨?_,qJ W h fun z=>⟨z.w,rfl,z.ac,z.al,z.nd,z.ns⟩⟩
   show(dH _ (((g.rooms.map _).set i _).set i (cA {r with undo:=[]})),[-22])=_
   rw[acX,uK rfl];rfl
  |_=>
   have J:iF (dH (b_ g) ((aA (b_ g)).set i (iS (cA r)))) [i,f,(t:Int)]=(dH (b_ g) ((aA (b_ g)).set i ((r.along:Int),(r.across:Int),(c_ ((5:Nat):Int) (r.sides.map qR) (qR (f,t))).1,r.doors.map qR,())),(c_ ((5:Nat):Int) (r.sides.map qR) (qR (f,t))).2):=by
    rw[Hh rfl h1];refine(ad2 (by rw[hd] at hc;show ¬(decide (t<=(f:Int))||decide ((r.along:Int) < t))=true;rw[hc];decide)).trans ?_;rw[acX];rfl
   have h2:∀x:cu,_[i]?=some x:=fun x=>RF M
   rw[J,zA rfl (h2 _),oz,ad2 (show ¬_=false by decide)]
   by_cases L:5<=r.sides.length
   .rw[ad3 L,ad3 (show DOORS<=_ from L)];refine⟨?_,qJ W h fun z=>⟨z.w,rfl,z.ac,z.al,z.nd,z.ns⟩⟩
    show(dH (b_ g) (((g.rooms.map cA).set i _).set i (cA {r with undo:=[]})),[-28])=_
    rw[acX,uK rfl];rfl
   .rw[ad2 L,ad2 (show ¬DOORS<=r.sides.length from L)];refine⟨?_, ?_⟩
    .show (dH (b_ g) (((g.rooms.map cA).set i _).set i (cA {r with sides:=r.sides++[_],undo:=[]})),[_])=_
     rw[acX,uK rfl];rfl
    .refine qJ W h fun z=>⟨z.w,rfl,z.ac,z.al,z.nd, ?_⟩
     show(r.sides++[_]).length<=5
     rw[ab7]
     show _+1<=5
     lia
end
end Cw
namespace Cw
open My L2
open PySem (Paired)
section
variable {g:Work}
def iI.X7 (W:iI g):∀r∈g.rooms,r.wide=g.wide:=fun r J=>(W.rm r J).w
def yU (W:iI g):eB (aA (b_ g)) (di (b_ g)) (jI (b_ g)) (dE (b_ g))=(bestTurn g).map fun x=>((x.2:Int),(x.1:Int)):=CA W.wide.1 W.rep.1 W.X7
def LC (W:iI g)(m:Nat):iI (Kh353.turned g m):=by
 refine⟨W.rep,W.drop,W.wide,W.dy,W.li,W.un,W.tl,W.ti, ?_, ?_,W.ol,W.ro⟩
 .show (g.rooms.zipIdx.map _).length<=3
  rw[aca,List.length_zipIdx];exact W.rl
 .intro r L;obtain⟨x,J,rfl⟩:=acA.mp (L);have M:=by
   have:=List.mem_map_of_mem (f:=Prod.fst) J
   rwa [List.zipIdx_map_fst] at this
  have z:=W.rm x.1 M;split
  .exact⟨z.w,z.u,z.al,z.ac,z.ns,z.nd⟩
  .exact z
def Ql (W:iI g):cJ (eD (b_ g) []) (does g .setTurn):=by
 have J:does g .setTurn=(match bestTurn g with
  |none=>_
  |some x=>_):=rfl
 rw[J];delta eD;rw[yU W];cases h:bestTurn g with
 |none=>exact cS W rfl rfl
 |_ x=>
  refine⟨?_,LC W x.1⟩
  show(dH _ (bM (g.rooms.map _) _),_)=_
  rw[yz];rfl
def K5 (i:Nat)(rest:hA)(f:cu->hA):me (b_ g) ((i:Int)::rest) f=match g.rooms[i]? with
  |none=>[-2]
  |some r=>f (cA r):=by
 show(if decide (((g.rooms.map _).length:Int)<=i) then[-2] else match(g.rooms.map _)[(i:Int).toNat]? with|none=>[]|some r=>f r)=_
 grind
def roomQ (W:iI g){i:Nat}{rest:hA}(h:∀r,En g.wide r->f (cA r)=hX (F r)):cJ (b_ g,me (b_ g) ((i:Int)::rest) f) (asksRoom g i F):=by
 rw[K5];delta asksRoom;cases q:g.rooms[i]? with
 |none=>exact cS W rfl rfl
 |_ r=>exact cS W rfl (h r (W.rm r (acB q)))
def RZ (W:iI g){i:Nat}{rest:hA}{A:Kh352.Abs->Kh352.Ans}(h:∀r,En g.wide r->Kh352.doing (some r) c=(some r,A r)/\f (cA r)=(A r).ret::nums (A r).out):cJ (b_ g,me (b_ g) ((i:Int)::rest) f) (withRoom g i c):=by
 rw[K5];delta withRoom;cases q:g.rooms[i]? with
 |none=>exact cS W rfl rfl
 |_ r=>
  have z:=W.rm r (acB q);obtain⟨h1,h2⟩:=h r z;simp only[h1];exact cS W (Ak q z.u) h2
def UB (W:iI g)(z:En g.wide r):cz (cA r) (di (b_ g))=(Kh353.first r).map Int.ofNat:=by
 unfold Kh353.first;rw[z.w];exact nJ W.wide.1 _ rfl rfl
def E5 (W:iI g)(z:En g.wide r)(h:Kh353.first r=some o):1<=o:=by
 unfold Kh353.first at h;rw[z.w] at h;exact vQ (K1 W.wide.1 h)
def W0 (W:iI g)(i:Nat):cJ (b_ g,rO (b_ g) [(i:Int)]) (does g (.first i)):=by
 refine roomQ W fun r z=> ?_
 delta firstOf;rw[UB W z];cases h:Kh353.first r with
 |none=>rfl
 |_ o=>
  have J:=E5 W z h;have M:=o6 W.wide.1 J (cA r) rfl;have L:=tT W.wide.1 J (cA r) rfl
  show [(o:Int),((eG _ o (g.wide:Int)).length:Int)+1,k_ _ o (g.wide:Int)]=[_,((Kh352.strips _ _ o:Nat):Int),((narrow _ _ o:Nat):Int)]
  rw[M,L,z.w]
def TR (W:iI g)(i:Nat):cJ (b_ g,Ay (b_ g) [(i:Int)]) (does g (.firsts i)):=by
 refine RZ W fun r z=>⟨rfl, ?_⟩
 show cb (eS _ (g.wide:Int))=_
 rw[pJ W.wide.1 _ rfl rfl,gd,z.w];rfl
def WU (W:iI g)(i:Nat):cJ (b_ g,pj (b_ g) [(i:Int)]) (does g (.seams i)):=by
 refine roomQ W fun r z=> ?_
 rw[UB W z];cases h:Kh353.first r with
 |none=>rfl
 |_ o=>
  have J:=rF (x:=r.across) W.wide.1 (E5 W z h)
  show cb (kI o (g.wide:Int) (tD o (r.across:Int) (g.wide:Int)))=_::nums _
  rw[<- J,gd,z.w]
def Av (f:Nat):∀n,(List.range n).filter (fun w=>decide (f<=w))=(List.range (n - f)).map (fun k=>f+k)
 |0=>by simp
 |n+1=>by
  rw[acU,List.filter_append,Av f n]
  by_cases h:f<=n
  .rw[show n+1 - f=(n - f)+1 by grind,acU,ack];simp[h]
  .rw[show n+1 - f=0 by lia,show n - f=0 by grind];simp[h]
def OU {f t:Nat}(O:1<=f)(M:f<=t):((upTo (f:Int) ((t:Int)+1 - (f:Int)).toNat).filter fun w=>decide (0 < ((eS (cA r) w).length:Int)))=(widths r f t).map Int.ofNat:=by
 delta widths;have L:(List.range (t+1)).filter (fun w=>decide (f<=w)&&decide (1<=w))=(List.range (t+1 - f)).map (fun k=>f+k):=by
  rw[<- Av]
  grind
 have J:upTo f (t+1 - (f:Int)).toNat=((List.range (t+1 - f)).map (fun k=>f+k)).map Int.ofNat:=by
  rw[show(t+1 - (f:Int)).toNat=t+1 - f by simp,aco];rfl
 rw[L,J,abM]
 congr 1
 refine abJ fun w hw=> ?_
 obtain⟨k,_,rfl⟩:=acA.mp hw
 show decide (0 < ((eS _ ((f+k:Nat):Int)).length:Int))=_
 rw[pJ (by lia) _ rfl rfl,aca];have U:=@QH r.doors (f+k) r.across;cases q:Kh352.best _ _ _ with
 |none=>
  simp_all
 |some y=>
  grind
def TF (W:iI g)(i f t:Nat):cJ (b_ g,Aw (b_ g) [(i:Int),(f:Int),(t:Int)]) (does g (.widths i f t)):=by
 refine RZ W (A:=fun r=>if f < 1\/t < f\/60 < t then Kh352.say (-22) else Kh352.list (widths r f t)) fun r z=>⟨?_, ?_⟩
 .show (if f < 1\/t < f\/60 < t then _ else _)=_
  lia
 .show (if decide ((f:Int)=0)|| !aX t f 60 then[-22] else cb ((upTo f (t+1 - (f:Int)).toNat).filter fun w=>decide _))=_
  have hc:(decide ((f:Int)=0)|| !aX t f 60)=decide (f < 1\/t < f\/60 < t):=by
   delta aX
   grind
  rw[hc]
  by_cases h:f < 1\/t < f\/60 < t
  .rw[ad3 (adZ h),ad3 h];rfl
  .rw[ad2 (by grind),ad2 h,OU (by lia) (by grind),gd];rfl
def RX (l:List Kh351.Strip):rowsOf (some (l.map fL))=(l.length:Int)::nums (l.flatMap fun s=>[s.long,s.begins]):=by
 show _::(l.map _).flatMap _=_
 rw[aca]
 congr 1
 delta nums
 induction l with
 |nil=>rfl
 |_ s l J=>
  rw[acn,abP,abP,ack,J];rfl
def TN (W:iI g)(i:Nat):cJ (b_ g,Ax (b_ g) [(i:Int)]) (does g (.strips i)):=by
 refine roomQ W fun r z=> ?_
 have e:ba (cA r) (g.wide:Int) (g.drop:Int) (g.repeat_:Int)=(stripsOf g r).map (List.map fL):=by
  delta ba stripsOf;rw[Cm W.wide.1 z.w];cases Kh353.first r with
  |none=>rfl
  |_ o=>exact adW _ (sI g r _)
 show rowsOf (ba (cA r) (g.wide:Int) (g.drop:Int) (g.repeat_:Int))=_
 rw[e];cases h:stripsOf g r with
 |none=>rfl
 |_ l=>exact RX l
def MO (W:iI g):cJ (b_ g,mS (b_ g)) (does g .bestTurn):=by
 refine cS W rfl ?_;unfold mS;rw[yU W]
 show _=hX (match bestTurn g with|none=>Kh353.say _|some x=>_)
 cases bestTurn g with
 |none=>rfl
 |_ x=>rfl
def aan (W:iI g)(i:Nat):cJ (b_ g,tM (b_ g) [(i:Int)]) (does g (.look i)):=by
 refine roomQ W fun r z=> ?_
 show [_,_,((r.doors.map _).length:Int),((r.sides.map _).length:Int)]++(r.doors.map _++r.sides.map _).flatMap _=_::_::_::_::((r.doors++_).flatMap fun e=>[e.1,e.2]).map Int.ofNat
 rw[aca,aca,<- ack]
 show _::_::_::_::_=_
 congr 4
 generalize _++r.sides=l
 induction l with
 |nil=>rfl
 |_ s l J=>
  rw[acn,abP,abP,ack,<- J];rfl
end
end Cw
namespace Cw
open My L2
open PySem (Paired)
section
variable {g:Work}
def aaf (W:iI g)(w:Nat):cJ (vT (b_ g) [(w:Int)]) (does g (.wide w)):=by
 have U:does g (.wide w)=if w < 1\/60 < w then _ else _:=rfl
 rw[U]
 show cJ (if !aX w 1 60 then _ else _) _
 have M:(!aX w 1 60)=decide (w < 1\/60 < w):=by
  delta aX
  grind
 rw[M]
 by_cases h:w < 1\/60 < w
 .rw[ad3 (adZ h),ad3 h];exact cS W rfl rfl
 .rw[ad2 (by grind),ad2 h];refine⟨?_,⟨W.rep,W.drop,by grind,W.dy,W.li,W.un,W.tl,W.ti, ?_, ?_,W.ol,W.ro⟩⟩
  .have O:(g.rooms.map fun r=>({r with wide:=w}:Kh352.Abs)).map cA=g.rooms.map cA:=by rw[aco];rfl
   show _=(((true,_,_,_,_,_,(g.rooms.map fun r=>_).map cA,_):aC),_)
   rw[O];rfl
  .show (g.rooms.map _).length<=3
   rw[aca];exact W.rl
  .intro r L;obtain⟨x,J,rfl⟩:=acA.mp (L);have z:=W.rm x J;exact⟨rfl,z.u,z.ac,z.al,z.nd,z.ns⟩
def aaq (W:iI g)(d:Nat):cJ (vW (b_ g) [(d:Int)]) (does g (.drop d)):=by
 have J:does g (.drop d)=if _<=d then _ else _:=rfl
 rw[J]
 show cJ (if decide ((g.repeat_:Int)<=d) then _ else _) _
 by_cases h:g.repeat_<=d
 .rw[ad3 (adZ (by lia)),ad3 h];exact cS W rfl rfl
 .rw[ad2 (fun z=>absurd (aea z) (by lia)),ad2 h];exact⟨rfl,⟨W.rep,by simp_all,W.wide,W.dy,W.li,W.un,W.tl,W.ti,W.rl,W.rm,W.ol,W.ro⟩⟩
def Tt (r:Nat):(!eA (r:Int) (g.repeat_:Int))=decide (r < 1\/g.repeat_%r≠0):=by
 delta eA;rw[<- Int.natCast_emod,aaR];simp only[aaU,Bool.and_eq_false_iff,Bool.not_eq_false',adY,ad0];lia
def T3 (W:iI g)(h:¬(r < 1\/g.repeat_%r≠0)):1<=r/\r<=g.repeat_/\r∣g.repeat_:=by
 have h2:g.repeat_%r=0:=by lia
 have J:=Nat.dvd_of_mod_eq_zero h2;exact⟨by lia,Nat.le_of_dvd (by have:=W.rep;lia) J,J⟩
def Qm (W:iI g)(r:Nat):cJ (l_ (b_ g) [(r:Int)]) (does g (.pattern r)):=by
 have U:does g (.pattern r)=if r < 1\/_%r≠0 then _ else _:=rfl
 rw[U]
 show cJ (if !eA r (g.repeat_:Int) then _ else _) _
 rw[Tt]
 by_cases h:r < 1\/g.repeat_%r≠0
 .rw[ad3 (adZ h),ad3 h];exact cS W rfl rfl
 .rw[ad2 (by lia),ad2 h];obtain⟨h1,h2,_⟩:=T3 W h;refine⟨?_,⟨by show 1<=r/\r<=60;have:=W.rep;lia,Nat.mod_lt _ h1,W.wide,W.dy,W.li,W.un,W.tl,W.ti,W.rl,W.rm, ?_, ?_⟩⟩
  .show ((true,_,(g.drop:Int)%r,(g.wide:Int),g.dyes.dyes.map sT,g.tints.map m7,g.rooms.map cA,(g.rolls.map _).map _,()),[(g.repeat_:Int)])=((true,(r:Int),((g.drop%r:Nat):Int),(g.wide:Int),g.dyes.dyes.map sT,g.tints.map m7,g.rooms.map cA,(g.rolls.map fun x=>_).map m8,()),[(g.repeat_:Int)])
   have Y:(g.rolls.map m8).map (fun x=>((x.1,x.2.1%r,()):ji))=(g.rolls.map fun x=>(x.1,x.2%r)).map m8:=by
    rw[aco,aco];rfl
   simp[*]
  .show (g.rolls.map _).length<=3
   rw[aca];exact W.ol
  .intro y M;obtain⟨x,O,rfl⟩:=acA.mp (M);obtain⟨L,J,_⟩:=W.ro x O;exact⟨L,J,Nat.mod_lt _ h1⟩
def aak (W:iI g)(l c:Nat):cJ (gD (b_ g) [(l:Int),(c:Int)]) (does g (.roll l c)):=by
 have O:does g (.roll l c)=if l < 1\/10000 < l\/_<=c then _ else if _<=_ then _ else _:=rfl
 rw[O]
 show cJ (if !aX l 1 10000||decide ((g.repeat_:Int)<=c) then _ else(xM _ (c_ ((3:Nat):Int) (g.rolls.map _) (m8 (l,c))).1,(c_ ((3:Nat):Int) (g.rolls.map m8) (m8 (l,c))).2)) _
 rw[oz];have M:(!aX l 1 10000||decide ((g.repeat_:Int)<=c))=decide (l < 1\/10000 < l\/g.repeat_<=c):=by
  delta aX
  grind
 rw[M]
 by_cases h:l < 1\/10000 < l\/g.repeat_<=c
 .rw[ad3 (adZ h),ad3 h];exact cS W rfl rfl
 .rw[ad2 (by simp_all),ad2 h]
  by_cases L:3<=g.rolls.length
  .rw[ad3 L,ad3 (show ROLLS<=_ from L)];exact cS W rfl rfl
  .rw[ad2 L,ad2 (show ¬ROLLS<=_ from L)];refine⟨rfl,⟨W.rep,W.drop,W.wide,W.dy,W.li,W.un,W.tl,W.ti,W.rl,W.rm, ?_, ?_⟩⟩
   .grind
   .intro r J
    rcases acq.mp (J) with J|J
    .exact W.ro r J
    .grind
def TM (W:iI g)(i:Nat):cJ (ki (b_ g) [(i:Int)]) (does g (.unroll i)):=by
 have J:does g (.unroll i)=if _<=i then _ else _:=rfl
 rw[J]
 show cJ (xM _ (cV (g.rolls.map _) i).1,(cV (g.rolls.map _) i).2) _
 rw[pU]
 by_cases h:g.rolls.length<=i
 .simp only[ad3 h];exact cS W rfl rfl
 .simp only[ad2 h];exact⟨rfl,⟨W.rep,W.drop,W.wide,W.dy,W.li,W.un,W.tl,W.ti,W.rl,W.rm,adb (ab9 _ _) W.ol,fun d hd=>W.ro d (acC hd)⟩⟩
def WR (W:iI g):cJ (b_ g,F3 (b_ g)) (does g .state):=by
 refine cS W rfl ?_
 show [_,_,_]++[((g.dyes.dyes.map _).length:Int),((g.tints.map _).length:Int),((g.rooms.map _).length:Int),((g.rolls.map _).length:Int)]=_
 rw[aca,aca,aca,aca];rfl
def rf (W:iI g):f7 (b_ g)=(allStrips g).map (List.map fL):=K8 W.wide.1 W.X7
def f_all (W:iI g):cJ (b_ g,rowsOf (f7 (b_ g))) (does g .all):=by
 refine cS W rfl ?_;rw[rf W]
 show _=hX (match allStrips g with|none=>Kh353.say _|some l=>_)
 cases allStrips g with
 |none=>rfl
 |_ l=>exact RX l
def LI (o:Option Frac):Kh353.Ans:=match o with
 |none=>Kh353.say (-33)
 |some x=>⟨0,Kh353.told x⟩
def FF (W:iI g)(a:Kh350.Abs)(h:qF a):told (tV (b_ g) (a.dyes.map sT))=hX (LI (total {g with dyes:=a})):=by
 delta tV pF total;have e1:bg _ _ _ _=(allStrips g).map _:=rf W;have e2:Kh353.need {g with dyes:=a}=(allStrips g).map (needOf g):=rfl;rw[e1,e2];have hc:=KR W h
 show told (match(allStrips g).map (List.map fL),(jX _ (g.tints.map _)).map (fun f=>cR f.1 f.2) with|some l,some c=>some _|_,_=>_)=_
 cases allStrips g with
 |none=>rfl
 |_ l=>
  cases L:jX _ _ with
  |none=>
   cases J:centimetre {g with dyes:=a} with
   |none=>rfl
   |_ F=>rw[L,J] at hc;exact hc.elim
  |_ f=>
   cases J:centimetre {g with dyes:=a} with
   |none=>rw[L,J] at hc;exact hc.elim
   |_ F=>
    rw[L,J] at hc;have U:=hc.told;obtain⟨O,p2,M⟩:=hc.parts;have Z:=hc.same O p2 M.symm
    show [0]++cR (aM _ (g.repeat_:Int)*(cR f.1 f.2).getD 0 0) ((cR f.1 f.2).getD 1 0)=0::Kh353.told _
    rw[<- U,uU g l W.rep.1];have Y:0<=((needOf g l:Nat):Int):=Int.natCast_nonneg _;rw[(Z.times Y).told];rfl
def WQ (W:iI g):cJ (b_ g,told (tV (b_ g) (aV (b_ g)))) (does g .total):=by
 refine cS W rfl ?_;have e:=FF W _ W.dy;exact e
def Qp (W:iI g)(x y z p:Nat):cJ (b_ g,uP (b_ g) [(x:Int),(y:Int),(z:Int),(p:Int)]) (does g (.cheaper x y z p)):=by
 refine cS W rfl ?_;have L:col [x,y,z,p]=((x:Int),(y:Int),(z:Int)):=rfl;have ep:[(x:Int),y,z,p].getD 3 0=p:=rfl;delta uP;rw[L,ep,BN]
 show _=hX (if 50 < x\/50 < y\/50 < z\/x+y+z=0\/1000 < p then Kh353.say _ else if _<=_ then Kh353.say _ else LI _)
 by_cases h:50 < x\/50 < y\/50 < z\/x+y+z=0\/1000 < p
 .rw[ad3 h,adZ h];rfl
 .rw[ad2 h,adX h,ad2 (by decide)]
  show(if decide (5<=((g.dyes.dyes.map _).length:Int)) then[-28] else told (tV _ (g.dyes.dyes.map _++[sT ⟨vec x y z,p⟩])))=_
  rw[aca]
  by_cases J:5<=g.dyes.dyes.length
  .rw[ad3 (adZ (by lia)),ad3 (show DYES<=_ from J)];rfl
  .rw[ad2 (fun z=>absurd (aea z) (by lia)),ad2 (show ¬DYES<=g.dyes.dyes.length from J)];have hd:qF {g.dyes with dyes:=g.dyes.dyes++[⟨vec x y z,p⟩]}:=by
    refine⟨?_, ?_⟩
    .grind
    .intro d hd
     rcases acq.mp (hd) with hd|hd
     .exact W.dy.2 d hd
     .rw[acF.mp hd];refine⟨?_, ?_, ?_, ?_, ?_⟩
      .show 0<=(x:Int)/\(x:Int)<=50;omega
      .show 0<=(y:Int)/\(y:Int)<=50;omega
      .show 0<=(z:Int)/\(z:Int)<=50;omega
      .show 0 < x+y+(z:Int);omega
      .show p<=1000;omega
   have e:=FF W {g.dyes with dyes:=g.dyes.dyes++[_]} hd
   simp_all
def Qk (W:iI g)(i:Nat):cJ (b_ g,xS (b_ g) [(i:Int)]) (does g (.without i)):=by
 refine cS W rfl ?_
 show(if decide (((g.dyes.dyes.map _).length:Int)<=i) then[-2] else told (tV _ ((g.dyes.dyes.map _).eraseIdx (i:Int).toNat)))=hX (if _<=i then Kh353.say _ else LI _)
 rw[aca,abp,lY]
 by_cases h:g.dyes.dyes.length<=i
 .rw[ad3 (adZ (by lia)),ad3 h];rfl
 .rw[ad2 (fun z=>absurd (aea z) (by lia)),ad2 h];have e:=FF W _ (rY W.dy i);exact e
end
end Cw
namespace Cw
open My L2
open PySem (Paired)
section
variable {S:List bH}{rep:Int}
def yx (rep:Int)(S:List bH)(p:Int)(L:ko)(e:Int):Prop:=(∀o:ko,o.Perm L->e<=EnL rep S p o)/\ ∃o:ko,o.Perm L/\e=EnL rep S p o
def yx.uniq (h:yx rep S p L e)(h':yx rep S p L e'):e=e':=by
 obtain⟨h1,o,O,U⟩:=h;obtain⟨h2,o',J,M⟩:=h'
 grind
def V4 (L:ko)(hi:i < L.length):(iQ S (L.map Int.ofNat)).getD i eV=S.getD (L.getD i 0) eV:=by
 delta iQ
 simp[*]
def ND (L:ko):∀(o:ko) (p:Int),(∀i∈o,i < L.length)->EnL rep (iQ S (L.map Int.ofNat)) p o=EnL rep S p (o.map fun i=>L.getD i 0)
 |[],p,_=>rfl
 |i::o,p,h=>by
  show EnL rep _ _ o=EnL rep S _ (o.map fun i=>L.getD i 0)
  rw[V4 L (h i acw),ND L o _ fun j J=>h j (acv _ J)]
def map_range (L:ko):(List.range L.length).map (fun i=>L.getD i 0)=L:=by
 refine abH fun i=> ?_
 grind
def EW {L:ko}(nd:L.Nodup):L.map (fun x=>L.idxOf x)=List.range L.length:=by
 refine abH fun i=> ?_
 grind
def Mm (Y:0 < rep)(nd:L.Nodup)(p:Int):yx rep S p L (cU (iQ S (L.map Int.ofNat)) rep p):=by
 obtain⟨h1,o,M,he⟩:=tX Y;have Z:(iQ S (L.map Int.ofNat)).length=L.length:=by delta iQ;rw[aca,aca]
 rw[Z] at h1 M;refine⟨fun o' J=> ?_,o.map fun i=>L.getD i 0, ?_, ?_⟩
 .have hm:∀x∈o',x∈L:=fun x O=>J.mem_iff.mp O
  have e1:(o'.map fun x=>L.idxOf x).map (fun i=>L.getD i 0)=o':=by
   have:o'.map ((fun i=>L.getD i 0) ∘ fun x=>L.idxOf x)=o'.map id:=acm fun x O=>by
    grind
   simp_all
  have U:(o'.map fun x=>L.idxOf x).Perm (List.range L.length):=by
   rw[<- EW nd]
   grind
  have:=h1 _ (tR.mpr U)
  rw[ND L _ p fun i hi=>acE.mp (U.mem_iff.mp hi),e1] at this;exact this
 .have:=(tR.mp M).map fun i=>L.getD i 0
  rw[map_range] at this;exact this
 .rw[he,ND L _ p fun i hi=>acE.mp ((tR.mp M).mem_iff.mp hi)]
structure UP (rep:Int)(S:List bH)(p:Int)(L o:ko):Prop where
 perm:o.Perm L
 least:∀o':ko,o'.Perm L->EnL rep S p o<=EnL rep S p o'
 first:∀o':ko,o'.Perm L->EnL rep S p o'=EnL rep S p o->o'=o\/nO o o'
def UP.ZX (h:UP rep S p L o):yx rep S p L (EnL rep S p o):=⟨h.least,o,h.perm,rfl⟩
def Kd (L:ko)(k:Nat):(L.map Int.ofNat).erase (k:Int)=(L.erase k).map Int.ofNat:=by
 induction L with
 |nil=>rfl
 |_ x r J=>
  grind
def He (L:ko)(k:Nat):(L.map Int.ofNat).filter (fun o=> !decide (o=(k:Int)))=(L.filter fun x=>x != k).map Int.ofNat:=by
 rw[abM]
 congr 1
 refine abJ fun x _=> ?_
 lia
def OE (hr:0 < rep):∀(n:Nat) (L:ko) (ord:hA) (p:Int),L.length=n->L.Pairwise (· < ·)-> ∃o,UP rep S p L o/\(uz S rep n ⟨ord,L.map Int.ofNat,p⟩).order=ord++o.map Int.ofNat
 |0,L,ord,p,hl,_=>by
  have e:=abF hl;subst e;exact⟨[],⟨abt _,fun o' h=>by rw[acT.mp h];exact abg _,fun o' h _=>.inl (acT.mp h)⟩,(abA _).symm⟩
 |n+1,L,ord,p,hl,hs=>by
  have nd:L.Nodup:=hs.imp fun h=>adp h
  obtain⟨j,h1,h2,h3⟩:=Ni (st:=⟨ord,L.map Int.ofNat,p⟩) (by
   intro z;have:=adW List.length z
   rw[aca,hl] at this;contradiction)
  rw[ab0] at h1;cases M:L[j]? with
  |none=>rw[M] at h1;contradiction
  |some k=>
   rw[M] at h1;have Y:lL S rep ⟨ord,L.map Int.ofNat,p⟩=(k:Int):=(adD h1).symm;have hkm:k∈L:=acB M;have hjl:j < L.length:=by
    rcases adh j L.length with q|q
    .exact q
    .rw[abY q] at M;contradiction
   have Z:ie S rep ⟨ord,L.map Int.ofNat,p⟩=L.map fun m=>cU (iQ S ((L.filter fun x=>x != m).map Int.ofNat)) rep (aZ p (S.getD m eV) rep):=by
    show(L.map Int.ofNat).map (fun n=>Mt S rep (L.map Int.ofNat) n p)=_
    rw[aco];refine acm fun m _=> ?_
    show cU (iQ S ((L.map Int.ofNat).filter fun o=> !decide (o=(m:Int)))) rep (aZ p (S.getD ((m:Int)).toNat UX) rep)=_
    rw[He,abp]
   generalize hE:ie S rep ⟨ord,L.map Int.ofNat,p⟩=ends at h2 h3;have J:∀i m,L[i]?=some m->ends[i]?=some (cU (iQ S ((L.filter fun x=>x != m).map Int.ofNat)) rep (aZ p (S.getD m eV) rep)):=fun i m h=>by
    rw[<- hE,Z,ab0,h];rfl
   have lst:∀m,yx rep S (aZ p (S.getD m eV) rep) (L.filter fun x=>x != m) (cU (iQ S ((L.filter fun x=>x != m).map Int.ofNat)) rep (aZ p (S.getD m eV) rep)):=fun m=>Mm hr (nd.filter _) _
   have hmin:oZ ends=cU (iQ S ((L.filter fun x=>x != k).map Int.ofNat)) rep (aZ p (S.getD k eV) rep):=by
    have:=J j k M
    rw[h2] at this;exact adD this
   have hle:∀y∈ends,oZ ends<=y:=by
    intro y hy;exact(gP (List.ne_nil_of_mem hy)).2 y hy
   obtain⟨o,ob,oe⟩:=OE hr n (L.filter fun x=>x != k) (ord++[(k:Int)]) (aZ p (S.getD k eV) rep) (by
    have h:=(wO nd hkm).length_eq;rw[ab8,hl] at h;lia) (hs.filter _)
   refine⟨k::o, ?_, ?_⟩
   .have ev:oZ ends=EnL rep S p (k::o):=by
     rw[hmin];exact(lst k).uniq ob.ZX
    have split:∀o':ko,o'.Perm L-> ∃m r i,o'=m::r/\m∈L/\L[i]?=some m/\r.Perm (L.filter fun x=>x != m):=fun o' h'=>by
     cases o' with
     |nil=>have:=h'.length_eq;rw[hl] at this;contradiction
     |cons m r=>
      have hm:m∈L:=h'.mem_iff.mp acw;obtain⟨i,hi⟩:=List.getElem?_of_mem hm;exact⟨m,r,i,rfl,hm,hi,List.Perm.cons_inv (h'.trans (wO nd hm).symm)⟩
    refine⟨(List.Perm.cons k ob.perm).trans (wO nd hkm),fun o' h'=> ?_,fun o' h' he=> ?_⟩
    .obtain⟨m,r,i,rfl,hm,hi,hp⟩:=split o' h';rw[<- ev];refine abh (hle _ (acB (J i m hi))) ?_;exact(lst m).1 r hp
    .obtain⟨m,r,i,rfl,hm,hi,hp⟩:=split o' h';have hy:=(lst m).1 r hp;have hx:=hle _ (acB (J i m hi));have he':EnL rep S (aZ p (S.getD m eV) rep) r=oZ ends:=by rw[ev];exact he
     have U:ends[i]?=some (oZ ends):=by
      rw[J i m hi]
      congr 1
      lia
     have hji:j<=i:=by
      rcases adh i j with q|q
      .rw[h3] at q;have O:i < ends.length:=by
        rcases adh i ends.length with q|q
        .exact q
        .rw[abY q] at U;contradiction
       have:=List.not_of_lt_findIdx q
       rw[abX O] at U;rw[adD U] at this;simp at this
      .exact q
     rcases adh j i with q|q
     .right
      have O:i < L.length:=by
       rcases adh i L.length with q|q
       .exact q
       .rw[abY q] at hi;contradiction
      have:=(List.pairwise_iff_getElem.mp hs) j i hjl O q
      rw[abX hjl] at M;rw[abX O] at hi;rw[adD M,adD hi] at this;exact .now this
     .have eij:i=j:=by lia
      subst eij;rw[M] at hi;cases adD hi
      rcases ob.first r hp (by rw[he',ev];rfl) with e|e
      .exact .inl (by rw[e])
      .exact .inr (.later e)
   .show (uz S rep n (sD S rep ⟨ord,L.map Int.ofNat,p⟩)).order=_
    have es:sD S rep ⟨ord,L.map Int.ofNat,p⟩=⟨ord++[(k:Int)],(L.filter fun x=>x != k).map Int.ofNat,aZ p (S.getD k eV) rep⟩:=by
     delta sD;rw[Y,abp];rw[Kd,nd.erase_eq_filter]
    rw[es,oe,abz];rfl
def zw (g:Work)(l:List Kh351.Strip)(L:0 < g.repeat_):dw (l.map fL) (g.repeat_:Int)=((Kh351.best (cutting g l) 0 (List.range l.length)).1).map Int.ofNat:=by
 obtain⟨o,ob,U⟩:=OE (S:=l.map _) (rep:=(g.repeat_:Int)) (by lia) _ _ [] 0 acd acP;have J:∀o,EnL _ _ 0 o=((Kh351.need _ 0 _:Nat):Int):=fun o=>by
  have:=CP L l o 0 0 rfl
  rw[ady] at this;exact this
 have O:Ib (cutting g l) 0 l.length (o,Kh351.need g.repeat_ 0 (ofOrder (cutting g l) o)):=by
  refine⟨ob.perm,rfl,fun o' h'=> ?_,fun o' h' M=> ?_⟩
  .have:=ob.least o' h'
   rw[J,J] at this;exact abn.mp this
  .refine ob.first o' h' ?_;rw[J,J];exact adW _ M
 have e:=CC (Nk _ 0 _) O;delta dw;have Y:upTo 0 l.length=(List.range l.length).map Int.ofNat:=by
  refine acm fun k _=> ?_
  simp
 simp[*]
end
end Cw
namespace Cw
open My L2
open PySem (Paired)
section
variable {g:Work}
def Ui (W:iI g)(J:allStrips g=none->q=[-33])(h1:∀l,allStrips g=some l->q=(F (cutting g l)).ret::nums (F (cutting g l)).out):cJ (b_ g,q) (Kh353.cut g F):=by
 delta Kh353.cut;cases e:allStrips g with
 |none=>exact cS W rfl (J e)
 |_ l=>exact cS W rfl (h1 l e)
def aal (W:iI g):cJ (b_ g,xT (b_ g)) (does g .need):=by
 refine Ui W (F:=fun a=>(Kh351.doing _ .best).2) (fun h=> ?_) fun l h=> ?_
 .unfold xT;rw[rf W,h];rfl
 .unfold xT;rw[rf W,h]
  show [aM _ (g.repeat_:Int)]++dw _ (g.repeat_:Int)=_
  rw[uU g l W.rep.1,zw g l W.rep.1];rfl
def N1:∀(o:ko) (p:Int),(iQ S (o.map Int.ofNat)).foldl (fun e s=>aZ e s rep) p=EnL rep S p o
 |[],_=>rfl
 |i::o,p=>N1 o _
def N3 (r:Nat):∀(l:List Kh351.Strip) (f:Nat),(l.map Kh351.Strip.long).sum<=Kh351.need r f l
 |[],_=>ac_ _
 |s::l,f=>by
  have:=N3 r l ((s.begins+s.long)%r)
  show _+(l.map _).sum<=gap r f _+_+Kh351.need r _ l
  lia
def yQ:isOrder n o=true↔o.Perm (List.range n):=by
 delta isOrder;simp only[aaO,adT,abv,ad0];constructor
 .rintro⟨h1,h2,L⟩;refine(acS L acL).mpr fun x=> ?_
  rw[acE];refine⟨h2 x,fun J=> ?_⟩;apply Classical.byContradiction;intro M;have U:=acJ.mpr ⟨M,L⟩;have O:x::o⊆List.range n:=fun y Y=>by
   grind
  have:=List.Nodup.length_le_of_subset U O
  grind
 .intro h;exact⟨by rw[h.length_eq,acd],fun x J=>acE.mp (h.mem_iff.mp J),h.nodup_iff.mpr acL⟩
def IJ {o:ko}:sortI (o.map Int.ofNat)=upTo 0 n↔o.Perm (List.range n):=by
 rw[Rh];constructor
 .intro h;have h1:(sortI _).Perm (o.map Int.ofNat):=acH _ _;have h2:=h1.symm.map Int.toNat;have e:(Int.toNat ∘ Int.ofNat)=id:=funext fun x=>rfl
  simp_all
 .intro h;refine(tu (h.symm.map _) ?_).symm;rw[acQ];exact List.pairwise_lt_range.imp fun h=>abn.mpr (ac8 h)
def WW (W:iI g)(o:ko):cJ (b_ g,uN (b_ g) (o.map Int.ofNat)) (does g (.order o)):=by
 refine Ui W (F:=fun a=>(Kh351.doing _ _).2) (fun h=> ?_) fun l h=> ?_
 .unfold uN;rw[rf W,h];rfl
 .unfold uN;rw[rf W,h]
  show(if !decide _ then[-22] else[eX _ (g.repeat_:Int),eX _ (g.repeat_:Int) - ((l.map fL).map fun s=>s.1).sum])=_
  rw[aca];have Z:(Kh351.doing (some (cutting g l)) (.need o)).2=if isOrder l.length o=false then Kh351.say (-22) else⟨Kh351.need g.repeat_ 0 (ofOrder (cutting g l) o),[Kh351.need g.repeat_ 0 (ofOrder (cutting g l) o) - ((ofOrder (cutting g l) o).map Kh351.Strip.long).sum]⟩:=by
   show(if isOrder l.length o=false then _ else _:Option _×_).2=_
   split<;>rfl
  simp only[Z];cases L:isOrder _ o with
  |false=>
   have hn:¬sortI _=upTo 0 _:=fun z=>by rw[yQ.mpr (IJ.mp z)] at L;nomatch L
   rw[ad3 (by lia),ad3 rfl];rfl
  |_=>
   have M:=yQ.mp L;rw[ad2 (by rw[adZ (IJ.mpr M)];decide),ad2 (by nofun)];have Y:eX (iQ (l.map fL) (o.map Int.ofNat)) (g.repeat_:Int)=((Kh351.need g.repeat_ 0 (ofOrder (cutting g l) o):Nat):Int):=by
    delta eX;rw[N1];have:=CP W.rep.1 l o 0 0 rfl
    rw[ady] at this;exact this
   have es:((l.map fL).map fun s=>s.1).sum=(((ofOrder (cutting g l) o).map Kh351.Strip.long).sum:Nat):=by
    have h1:((ofOrder (cutting g l) o).map Kh351.Strip.long).Perm (l.map Kh351.Strip.long):=by
     refine List.Perm.map _ ?_;have h2:(o.map fun i=>l.getD i ⟨0,0⟩).Perm _:=M.map _;have U:((List.range l.length).map fun i=>l.getD i ⟨0,0⟩)=l:=by
      refine abH fun i=> ?_
      grind
     rw[U] at h2;exact h2
    rw[h1.sum_nat,aco];generalize l=l
    induction l with
    |nil=>rfl
    |_ s l O=>
     rw[acn,acn,acZ,acZ,O,Int.natCast_add];rfl
   have J:=N3 g.repeat_ (ofOrder (cutting g l) o) 0;rw[Y,es,<- Int.natCast_sub J];rfl
def OO (h:∀i p,aZ p (S.getD i eV) rep=aZ p (S'.getD i eV) rep):∀(o:ko) (p:Int),EnL rep S p o=EnL rep S' p o
 |[],_=>rfl
 |i::o,p=>by
  show EnL rep S _ o=EnL rep S' _ o
  rw[h,OO h o]
def JQ (J:0 < rep)(L:S.length=S'.length)(h:∀i p,aZ p (S.getD i eV) rep=aZ p (S'.getD i eV) rep):aM S rep=aM S' rep:=by
 obtain⟨a1,o,a2,a3⟩:=vN J;obtain⟨O,o',M,U⟩:=vN J;rw[L] at a1 a2;have:=O o a2
 have:=a1 o' M
 rw[OO h] at a3 this;lia
def xo (r:Nat)(s:Kh351.Strip):Kh351.Strip:=⟨s.long,s.begins%r⟩
def Ab (hd:r∣g.repeat_)(x:Kh352.Abs):stripsOf (finer g r) x=(stripsOf g x).map (List.map (xo r)):=by
 delta stripsOf;cases Kh353.first x with
 |none=>rfl
 |_ o=>
  show some _=some _
  congr 1
  delta stripsBy;rw[aco];refine acm fun i _=> ?_
  show(⟨x.along,i*(g.drop%r)%r⟩:Kh351.Strip)=⟨x.along,i*_%_%r⟩
  simp[*]
def zx (hd:r∣g.repeat_):allStrips (finer g r)=(allStrips g).map (List.map (xo r)):=by
 have M:∀(rs:List _) o,rs.foldl (fun o J=>match o,stripsOf (finer g r) J with
   |some l,some k=>some (l++k)
   |_,_=>none) (o.map (List.map (xo r)))=(rs.foldl (fun o J=>match o,stripsOf g J with
   |some l,some k=>some (l++k)
   |_,_=>none) o).map (List.map (xo r)):=by
  intro rs
  induction rs with
  |nil=>intro o;rfl
  |_ x rs L=>
   intro o;rw[abS,abS,<- L];rw[Ab hd];cases o with
   |none=>rfl
   |_ l=>
    cases stripsOf g x with
    |none=>rfl
    |_ k=>
     simp
 have key:∀(o O:Option _),O=o.map (List.map (xo r))->(O.bind fun l=>if STRIPS < l.length then none else some l)=(o.bind fun l=>if STRIPS < l.length then none else some l).map (List.map (xo r)):=by
  rintro o O rfl;cases o with
  |none=>rfl
  |_ l=>
   grind
 exact key _ _ (M _ (some []))
def W2 (W:iI g)(r:Nat):cJ (b_ g,F6 (b_ g) [(r:Int)]) (does g (.finer r)):=by
 have O:does g (.finer r)=if r < 1\/_%r≠0 then _ else _:=rfl
 rw[O]
 show cJ (b_ g,if !eA r (g.repeat_:Int) then[-22] else match f7 _ with|none=>[-33]|some l=>[aM l r]) _
 rw[Tt]
 by_cases h:r < 1\/g.repeat_%r≠0
 .rw[ad3 (adZ h),ad3 h];exact cS W rfl rfl
 .rw[ad2 (by lia),ad2 h];obtain⟨h1,h2,M⟩:=T3 W h;refine cS W rfl ?_;delta Kh353.need;rw[rf W,zx M];cases allStrips g with
  |none=>rfl
  |_ l=>
   have J:=uU (finer g r) (l.map (xo r)) h1
   show [aM _ r]=[((needOf _ _:Nat):Int)]
   rw[<- J]
   congr 1
   refine JQ (by grind) (by simp) fun i p=> ?_
   rw[rW,rW];have L:(l.map (xo r)).getD i ⟨0,0⟩=xo r (l.getD i ⟨0,0⟩):=by
    rw[abU,abU,ab0];cases l[i]? with
    |none=>show(⟨0,0⟩:Kh351.Strip)=⟨0,0%r⟩;rw[Nat.zero_mod]
    |_ s=>rfl
   rw[L];generalize l.getD i _=s
   show p+((s.begins:Int) - p)%r+(s.long:Int)=p+(((s.begins%r:Nat):Int) - p)%_+(s.long:Int)
   simp
end
end Cw
namespace Cw
open My L2
open PySem (Paired)
section
variable {a:Kh351.Abs}
abbrev CV (a:Kh351.Abs):List bH:=a.strips.map fL
def CD (f:Nat)(nd:L.Nodup):(∀o:ko,o.Perm L->(Kh351.best a f L).2<=Kh351.need a.repeat_ f (ofOrder a o))/\ ∃o:ko,o.Perm L/\(Kh351.best a f L).2=Kh351.need a.repeat_ f (ofOrder a o):=by
 have J:=fun o=>mU _ _ nd rfl o
 delta Kh351.best;obtain⟨M,O,Z⟩:=AF _ _;refine⟨fun o Y=>O (o,_) (acA.mpr ⟨o,(J o).mpr Y,rfl⟩), ?_⟩
 rcases M with M|M
 .obtain⟨q,U,e⟩:=acA.mp M;exact⟨q,(J q).mp U,by rw[<- e]⟩
 .grind
def oM (a:Kh351.Abs)(f c:Nat):Int:=(du (CV a) (a.repeat_:Int) (f:Int)).getD c 0 - (f:Int)
def qm (x:Nat×Nat)(hc:c < 2^a.strips.length):(aP (CV a) (a.repeat_:Int) (m8 x)).getD c 0=oM a x.2 c:=by
 delta aP oM;have J:=jl (nt:=CV a) (rep:=(a.repeat_:Int)) (rd:=(x.2:Int));rw[aca] at J
 show((du _ _ (x.2:Int)).map fun e=>e - _).getD c 0=_
 rw[abU,ab0,abU];rw[abX (by lia)];rfl
def Bg (O:0 < a.repeat_)(hc:c < 2^a.strips.length)(nd:L.Nodup)(Y:∀x,x∈L↔(x < a.strips.length/\c.testBit x=true)):oM a f c=((Kh351.best a f L).2:Int):=by
 obtain⟨h1,o,M,U⟩:=o8 (s:=CV a) (rep:=(a.repeat_:Int)) (by lia) (by rw[aca];exact hc);rw[aca] at h1 M;have en:∀o,EnL _ _ f o=((f+Kh351.need _ f (ofOrder a o):Nat):Int):=fun o=>CP O _ o f f rfl
 have J:∀o:ko,Ord _ c o↔o.Perm L:=fun o=>by
  constructor
  .intro h;exact(acS h.nd nd).mpr fun x=>by rw[h.mem,Y]
  .intro h;exact⟨h.nodup_iff.mpr nd,fun x=>by grind⟩
 obtain⟨b1,q,bq,be⟩:=CD (a:=a) f nd;delta oM;have h2:=b1 o ((J o).mp M);have Z:=h1 q ((J q).mpr bq);rw[en] at Z U;lia
def UL (J:0 < rep):∀(o:ko) {p q:Int},p<=q->EnL rep S p o<=EnL rep S q o
 |[],_,_,h=>h
 |i::o,_,_,h=>UL J o (KH J _ h)
def aaE (J:0 < rep)(i:Nat):p<=aZ p ((CV a).getD i eV) rep:=by
 rw[rW];have:=abc (((a.strips.getD i ⟨0,0⟩).begins:Int) - p) (show rep≠0 by lia)
 show p<=p+(((a.strips.getD i ⟨0,0⟩).begins:Int) - p)%rep+((a.strips.getD i _).long:Int)
 lia
def CQ (J:0 < rep)(q:Nat->Bool):∀(o:ko) (p:Int),EnL rep (CV a) p (o.filter q)<=EnL rep (CV a) p o
 |[],_=>abg _
 |i::o,p=>by
  rw[abK];split
  .exact CQ J q o _
  .exact abh (UL J _ (aaE J i)) (CQ J q o _)
def P1 (O:0 < a.repeat_)(hc:c < 2^a.strips.length)(hd:d < 2^a.strips.length)(h:∀x,d.testBit x=true->c.testBit x=true):oM a f d<=oM a f c:=by
 obtain⟨h1,o,L,U⟩:=o8 (s:=CV a) (rep:=(a.repeat_:Int)) (p:=f) (by lia) (by rw[aca];exact hc);obtain⟨M,_⟩:=o8 (s:=CV a) (rep:=(a.repeat_:Int)) (p:=f) (by lia) (by rw[aca];exact hd);have J:Ord (CV a).length d (o.filter fun x=>d.testBit x):=⟨L.nd.filter _,fun x=>by
  rw[acx,L.mem];constructor
  .grind
  .rintro _
   simp_all⟩
 have h2:=M _ J;have Y:=CQ (a:=a) (rep:=(a.repeat_:Int)) (by lia) (fun x=>d.testBit x) o f;delta oM;lia
def Ie:ko->Nat->Nat:=fun w j=>(w.zipIdx.map fun p=>if p.1=j then 2^p.2 else 0).sum
def KW (w:ko)(x j:Nat):Ie (w++[x]) j=Ie w j+if x=j then 2^w.length else 0:=by
 delta Ie
 grind
def Cn {P:ko->Prop}(J:P [])(h1:∀w x,P w->P (w++[x]))(w:ko):P w:=by
 have:∀n w,w.length=n->P w:=by
  intro n
  induction n with
  |zero=>intro w hw;rw[abF hw];exact J
  |_ n L=>
   intro w hw
   rcases abG w with rfl|_
   .cases hw
   .grind
 simp[*]
def uw (j:Nat)(w:ko):Ie w j < 2^w.length/\ ∀i,(Ie w j).testBit i=decide (w[i]?=some j):=by
 refine Cn (P:=fun w=>Ie w j < 2^_/\ ∀i,(Ie w j).testBit i=decide (w[i]?=some j)) ⟨by show 0 < 1;decide,fun i=> ?_⟩ (fun w x M=> ?_) w
 .show (0:Nat).testBit i=decide _
  simp
 .obtain⟨h1,h2⟩:=M;rw[KW,ab7,acg,Nat.pow_succ];refine⟨by lia,fun i=> ?_⟩;have hi:(w++[x])[i]?=if i < w.length then w[i]? else if i=w.length then some x else none:=by
   grind
  by_cases L:x=j
  .rw[ad3 L,Nat.add_comm]
   rcases Nat.lt_trichotomy i _ with J|J|J
   .rw[Nat.testBit_two_pow_add_gt J,h2,hi,ad3 J]
   .subst J;rw[Nat.testBit_two_pow_add_eq,adv h1,hi,ad2 (ade _),ad3 rfl,L];simp
   .have:(2^w.length+Ie w j) < 2^i:=by
     have:2^_<=2^i:=ads (by decide) J
     lia
    rw[adv this,hi,ad2 (by lia),ad2 (by lia)];rfl
  .rw[ad2 L,Nat.add_zero,h2,hi]
   grind
def HR (h:w.length<=n)(j:Nat):Ie w j < 2^n:=adg (uw j w).1 (ads (by decide) h)
def zq (k:Nat)(w:ko):(∀x∈w,x < k)->f6 (w.map Int.ofNat) (k:Int)=(List.range k).map fun j=>((Ie w j:Nat):Int):=by
 refine Cn (P:=fun w=>(∀x∈w,x < k)->f6 _ k=(List.range k).map fun j=>(Ie w j:Int)) (fun _=> ?_) (fun w x J h=> ?_) w
 .show (numbered _).foldl _ _=_
  show List.replicate ((k:Int)).toNat 0=_
  rw[abp];refine abH fun i=> ?_
  rw[ab0,List.getElem?_replicate]
  by_cases hi:i < k
  .rw[ad3 hi,List.getElem?_range hi];rfl
  .grind
 .have J:=J fun y L=>h y (acr _ L)
  have O:=h x (acs _ (acF.mpr rfl));unfold f6 at J ⊢;have M:numbered ((w++[x]).map Int.ofNat)=numbered (w.map Int.ofNat)++[((w.length:Int),(x:Int))]:=by
   delta numbered
   grind
  rw[M,abR,J]
  show yy _ _=_
  delta yy;simp only[abp];refine abH fun i=> ?_
  rw[List.getElem?_set,ab0,ab0,aca,acd]
  by_cases hi:i < k
  .rw[List.getElem?_range hi]
   show _=some (Ie _ i:Int)
   rw[KW]
   grind
  .grind
abbrev QT (a:Kh351.Abs):List ji:=a.rolls.map m8
abbrev nOf (a:Kh351.Abs):List hA:=(QT a).map (aP (CV a) (a.repeat_:Int))
def ES (J:w.length<=a.strips.length)(hw:∀x∈w,x < a.rolls.length):fk (w.map Int.ofNat) (QT a) (nOf a)=a.rolls.zipIdx.map fun p=>((p.1.1:Nat):Int) - oM a p.1.2 (Ie w p.2):=by
 delta fk;rw[aca,zq _ _ hw];refine abH fun i=> ?_
 rw[ab0,ab0,ab3]
 by_cases hi:i < a.rolls.length
 .have e:((QT a).zip ((nOf a).zip ((List.range a.rolls.length).map fun j=>(Ie w j:Int))))[i]?=some (m8 a.rolls[i],aP (CV a) (a.repeat_:Int) (m8 a.rolls[i]),(Ie w i:Int)):=by
   simp[*]
  rw[e,abX hi]
  show some (((a.rolls[i].1:Nat):Int) - (aP _ _ _).getD ((_:Int)).toNat 0)=some _
  rw[abp,qm _ (HR J i),ady]
 .grind
def Yk (a:Kh351.Abs)(w:ko):Bool:=decide (0<=oZ (fk (w.map Int.ofNat) (QT a) (nOf a)))
def wW (J:a.rolls≠[])(L:w.length<=a.strips.length)(hw:∀x∈w,x < a.rolls.length):Yk a w=true↔ ∀j x,a.rolls[j]?=some x->oM a x.2 (Ie w j)<=(x.1:Int):=by
 delta Yk;rw[ES L hw,ad0,g9 (by simp[*])];constructor
 .intro h j x M;have:=h _ (acA.mpr ⟨(x,j),acz.mpr ⟨j,by simp[*]⟩,rfl⟩)
  simp_all
 .grind
def rR:i∈ofRoll w j↔w[i]?=some j:=by
 delta ofRoll
 grind
def uV (J:0 < a.repeat_)(L:w.length<=a.strips.length)(f j:Nat):oM a f (Ie w j)=((Kh351.best a f (ofRoll w j)).2:Int):=by
 refine Bg J (HR L j) ?_ fun x=> ?_
 .unfold ofRoll;exact List.nodup_range.filter _
 .rw[rR,(uw j w).2,ad0]
  grind
def E1 (O:0 < a.repeat_)(M:a.rolls≠[]):Gives a w↔(w.length=a.strips.length/\ ∀x∈w,x < a.rolls.length)/\Yk a w=true:=by
 refine and_congr_right fun⟨h1,h2⟩=> ?_
 rw[wW M (ac7 h1) h2,abv];constructor
 .intro h j x L;have J:j < a.rolls.length:=by
   grind
  have:=h j (acE.mpr J)
  unfold fitsRoll at this;rw[L] at this;have:=aea this
  rw[uV O (ac7 h1)];lia
 .intro h j J;have J:=acE.mp J;delta fitsRoll;have L:=abX J;rw[L];refine adZ ?_;have:=h j _ L
  rw[uV O (ac7 h1)] at this;lia
def yI (a:Kh351.Abs):Nat->List ko
 |0=>[[]]
 |k+1=>((yI a k).flatMap fun w=>(List.range a.rolls.length).map fun r=>w++[r]).filter (Yk a)
def Lv (J:List ko):sV (QT a) (nOf a) (J.map (List.map Int.ofNat))=((J.flatMap fun w=>(List.range a.rolls.length).map fun r=>w++[r]).filter (Yk a)).map (List.map Int.ofNat):=by
 delta sV jJ;rw[aca,abp,Rh];have e:(J.map (List.map Int.ofNat)).flatMap (fun w=>((List.range a.rolls.length).map Int.ofNat).map fun r=>w++[r])=(J.flatMap fun w=>(List.range a.rolls.length).map fun r=>w++[r]).map (List.map Int.ofNat):=by
  rw[abQ,List.map_flatMap]
  congr 1
  funext w
  simp
 rw[e,abM];rfl
def Qj (l:List bH):∀k,l.foldl (fun ways _=>sV (QT a) (nOf a) ways) ((yI a k).map (List.map Int.ofNat))=(yI a (k+l.length)).map (List.map Int.ofNat):=by
 induction l with
 |nil=>intro k;rfl
 |_ x l J=>
  intro k;rw[abS,Lv];have:=J (k+1)
  rw[ab8,show k+_=k+1+l.length by lia];exact this
def OW:x8 (CV a) (a.repeat_:Int) (QT a)=(yI a a.strips.length).map (List.map Int.ofNat):=by
 have:=Qj (a:=a) (CV a) 0
 rw[aca,ady] at this;exact this
def qL:∀(k:Nat) (v:ko),v∈yI a k↔(v.length=k/\ ∀x∈v,x < a.rolls.length)/\ ∀i,1<=i->i<=k->Yk a (v.take i)=true
 |0,v=>by
  show v∈[[]]↔_
  grind
 |k+1,v=>by
  show v∈List.filter _ _↔_
  rw[acx,acy];constructor
  .rintro⟨⟨w,hw,L⟩,ok⟩;obtain _:=acA.mp L;obtain _:=(qL k w).mp hw
   grind
  .rintro⟨⟨h1,h2⟩,M⟩
   rcases abG v with rfl|⟨w,r,rfl⟩
   .cases h1
   .rw[abB] at*;have h1:=by simpa using h1
    refine⟨⟨w,(qL k w).mpr ⟨⟨h1,fun x J=>h2 x (acr _ J)⟩,fun i i1 O=> ?_⟩,acA.mpr ⟨r,acE.mpr (h2 r (acs _ (acF.mpr rfl))),rfl⟩⟩, ?_⟩
    .grind
    .have:=M (k+1) (by lia) (by lia)
     grind
def CG:∀{u v:ko},nO u v->u.length=v.length-> ∀(s t:ko),nO (u++s) (v++t)
 |_,_,.now h,_,_,_=>.now h
 |_,_,.later h,J,s,t=>.later (CG h (by simp_all) s t)
def CH:∀(u:ko) {x y:Nat},x < y->nO (u++[x]) (u++[y])
 |[],_,_,h=>.now h
 |_::u,_,_,h=>.later (CH u h)
def wX:∀k,(yI a k).Pairwise nO
 |0=>acR _ _
 |k+1=>by
  refine abr _ (List.pairwise_flatMap.mpr ⟨fun w _=> ?_, ?_⟩)
  .rw[acQ];exact List.pairwise_lt_range.imp fun h=>CH w h
  .have U:=wX k;refine List.Pairwise.imp_of_mem (fun {u v} O M h x L y J=> ?_) U;obtain⟨r,_,rfl⟩:=acA.mp L;obtain⟨s,_,rfl⟩:=acA.mp J;exact CG h (by rw[((qL k u).mp O).1.1,((qL k v).mp M).1.1]) _ _
def Mj (M:0 < a.repeat_)(J:a.rolls≠[])(v:ko):v∈yI a a.strips.length↔Gives a v:=by
 rw[qL,E1 M J];refine and_congr_right fun⟨h1,h2⟩=> ?_
 constructor
 .intro h
  rcases Nat.eq_zero_or_pos _ with z|z
  .have U:v=[]:=abF (by omega);subst U;refine(wW J (adz _) h2).mpr fun j x L=> ?_
   rw[uV M (adz _)];have:(Kh351.best a x.2 (ofRoll [] j)).2=0:=rfl
   lia
  .grind
 .intro h i _ hi;refine(wW J (by grind) fun x L=>h2 x (acD L)).mpr fun j x L=> ?_
  refine abh (P1 M (HR (ac7 h1) j) (HR (by grind) j) fun y O=> ?_) ((wW J (ac7 h1) h2).mp h j x L);rw[(uw j _).2,ad0] at O ⊢
  grind
def ud (Z:0 < a.repeat_)(J:a.rolls≠[]):da (CV a) (a.repeat_:Int) (QT a)=(Kh351.fits a).map (List.map Int.ofNat):=by
 delta da;rw[OW,List.head?_map]
 congr 1
 have M:=yk a;have L:=Mj Z J;have U:=wX (a:=a) a.strips.length;cases q:yI a _ with
 |nil=>
  cases e:Kh351.fits a with
  |none=>rfl
  |_ w=>
   simp_all
 |_ u _=>
  rw[q] at U L;have Y:=(L u).mp acw
  show some u=_
  cases e:Kh351.fits a with
  |none=>simp_all
  |_ w=>
   rw[e] at M
   congr 1
   rcases M.2 u Y with z|z
   .exact z
   .rcases acu.mp ((L w).mpr M.1) with O|O
    .grind
    .exact absurd ((acO.mp U).1 w O) (uA z)
end
end Cw
namespace Cw
open My L2
open PySem (Paired)
section
variable {g:Work}
def Bf:(decide (((bV (b_ g)).length:Int)=0))=decide (g.rolls=[]):=by
 show decide (((g.rolls.map _).length:Int)=0)=_
 cases h:g.rolls with
 |nil=>rfl
 |_ x r=>simp;lia
def aap (W:iI g):cJ (b_ g,tN (b_ g)) (does g .fits):=by
 have L:does g .fits=if _=[] then _ else Kh353.cut g fun a=>(Kh351.doing _ .fits).2:=rfl
 rw[L];delta tN;rw[Bf]
 by_cases h:g.rolls=[]
 .rw[ad3 (adZ h),ad3 h];exact cS W rfl rfl
 .rw[ad2 (by lia),ad2 h];refine Ui W (fun e=> ?_) fun l e=> ?_
  .unfold pD;rw[rf W,e];rfl
  .unfold pD;rw[rf W,e];have hw:=ud (a:=cutting g l) W.rep.1 h
   show NH (da _ (g.repeat_:Int) (g.rolls.map _))=_
   have hw:da (l.map _) (g.repeat_:Int) (g.rolls.map _)=_:=hw;rw[hw];have J:(Kh351.doing (some (cutting g l)) .fits).2=match Kh351.fits (cutting g l) with
     |none=>Kh351.say (-33)
     |some w=>Kh351.list w:=by
    show(if(cutting g l).rolls=[] then _ else _:Option _×_).2=_
    rw[ad2 (show ¬(cutting g l).rolls=[] from h)];cases Kh351.fits _<;>rfl
   rw[J];cases Kh351.fits (cutting g l) with
   |none=>rfl
   |_ w=>exact gd w
def WS (W:iI g):cJ (b_ g,kW (b_ g)) (does g .spare):=by
 have ed:does g .spare=if _=[] then _ else Kh353.cut g fun a=>(Kh351.doing _ .spare).2:=rfl
 rw[ed];delta kW;rw[Bf]
 by_cases h:g.rolls=[]
 .rw[ad3 (adZ h),ad3 h];exact cS W rfl rfl
 .rw[ad2 (by lia),ad2 h];refine Ui W (fun e=> ?_) fun l e=> ?_
  .rw[rf W,e];rfl
  .rw[rf W,e];have hw:=ud (a:=cutting g l) W.rep.1 h
   show(match da _ (g.repeat_:Int) (g.rolls.map _) with|none=>[-33]|some w=>cb (pG w _ (g.repeat_:Int) (g.rolls.map _)))=_
   have hw:da (l.map _) (g.repeat_:Int) (g.rolls.map _)=_:=hw;rw[hw];have O:(Kh351.doing (some (cutting g l)) .spare).2=match Kh351.fits (cutting g l) with
     |none=>Kh351.say (-33)
     |some w=>Kh351.list (g.rolls.zipIdx.map fun x=>x.1.1 - (Kh351.best (cutting g l) x.1.2 (ofRoll w x.2)).2):=by
    show(if(cutting g l).rolls=[] then _ else _:Option _×_).2=_
    rw[ad2 (show ¬(cutting g l).rolls=[] from h)];cases Kh351.fits _<;>rfl
   rw[O];have U:=yk (cutting g l);cases q:Kh351.fits (cutting g l) with
   |none=>rfl
   |_ w=>
    rw[q] at U;have J:=(E1 (a:=cutting g l) W.rep.1 h).mp U.1;have cK:=(wW h (ac7 J.1.1) J.1.2).mp J.2;have Y:=ES (ac7 J.1.1) J.1.2;have e1:pG (w.map Int.ofNat) (l.map fL) (g.repeat_:Int) (g.rolls.map m8)=(g.rolls.zipIdx.map fun x=>x.1.1 - (Kh351.best (cutting g l) x.1.2 (ofRoll w x.2)).2).map Int.ofNat:=by
     refine Y.trans ?_;rw[aco];refine acm fun p Z=> ?_
     obtain⟨i,hi⟩:=acz.mp Z;have L:g.rolls[p.2]?=some p.1:=by
      have hi:(g.rolls.zipIdx)[i]?=some p:=hi;rw[ab3] at hi;cases z:g.rolls[i]? with
      |none=>rw[z] at hi;contradiction
      |_ x=>
       grind
     have M:=cK p.2 p.1 L;rw[uV (a:=cutting g l) W.rep.1 (ac7 J.1.1)] at M ⊢
     lia
    show cb _=_
    rw[e1];exact gd _
end
def natOf (n:Nat)(p:Nat->Bool):Nat:=Ie ((List.range n).map fun i=>if p i then 1 else 0) 1
def js (n:Nat)(p:Nat->Bool)(i:Nat):(natOf n p).testBit i=(decide (i < n)&&p i):=by
 delta natOf;rw[(uw 1 _).2,ab0]
 grind
def Bh (n:Nat)(p:Nat->Bool):natOf n p < 2^n:=by
 have:=(uw 1 ((List.range n).map fun i=>if p i then 1 else 0)).1
 rw[aca,acd] at this;exact this
section
variable {a:Kh351.Abs}
abbrev oK (a:Kh351.Abs)(m:Nat)(h:Nat->Nat)(j:Nat):Nat:=natOf a.strips.length fun i=>m.testBit i&&decide (h i=j)
def Et (a:Kh351.Abs)(R:List (Nat×Nat))(m:Nat):Prop:=m < 2^a.strips.length/\ ∃h:Nat->Nat,(∀i,m.testBit i=true->h i < R.length)/\ ∀j x,R[j]?=some x->oM a x.2 (oK a m h j)<=(x.1:Int)
def HX (h:m < 2^n)(J:m.testBit i=true):i < n:=by
 rcases adh i n with q|q
 .exact q
 .rw[adv (adg h (ads (by decide) q))] at J;contradiction
def Kb:Et a [] m↔m=0:=by
 constructor
 .rintro⟨L,h,h1,_⟩;refine ac5 fun i=> ?_
  rw[adA];cases q:m.testBit i with
  |false=>rfl
  |_=>simp_all
 .rintro rfl;refine⟨adx _,fun _=>0,fun i hi=> ?_,fun j x J=> ?_⟩
  .grind
  .cases J
def E4:Et a (R++[x]) m↔ ∃c e,Et a R c/\e < 2^a.strips.length/\c&&&e=0/\m=c|||e/\oM a x.2 e<=(x.1:Int):=by
 constructor
 .rintro⟨O,h,h1,h2⟩;have Y:=h2 _ x (by rw[abW (ac_ _),adt];rfl);have hc:∀i,(natOf _ fun i=>m.testBit i&&decide (h i < R.length)).testBit i=(m.testBit i&&decide (h i < R.length)):=fun i=>by
   rw[js];cases q:m.testBit i with
   |false=>simp
   |_=>rw[adZ (HX O q)];rfl
  have L:∀i,(oK a m h R.length).testBit i=(m.testBit i&&decide (h i=R.length)):=fun i=>by
   rw[js];cases q:m.testBit i with
   |false=>simp
   |true=>rw[adZ (HX O q)];rfl
  refine⟨natOf _ fun i=>m.testBit i&&decide (h i < R.length),oK a m h R.length,⟨Bh _ _,h,fun i hi=> ?_,fun j y J=> ?_⟩,Bh _ _, ?_, ?_,Y⟩
  .rw[hc] at hi;simp only[aaO,ad0] at hi;exact hi.2
  .have hj:j < R.length:=by
    rcases adh j _ with q|q
    .exact q
    .rw[abY q] at J;nomatch J
   have:=h2 j y (by grind)
   have e:oK a (natOf a.strips.length fun i=>m.testBit i&&decide (h i < R.length)) h j=oK a m h j:=by
    refine ac5 fun i=> ?_
    rw[js,hc,js]
    by_cases z:h i=j
    .rw[adZ (show h i < _ by lia),aaQ]
    .rw[adX z,aaP,aaP,aaP,aaP]
   rw[e];exact this
  .refine ac5 fun i=> ?_
   rw[Nat.testBit_and,hc,L,adA]
   by_cases z:h i=R.length
   .rw[adX (by lia)];simp
   .rw[adX z];simp
  .refine ac5 fun i=> ?_
   rw[adw,hc,L];cases q:m.testBit i with
   |false=>rfl
   |_=>
    have:=h1 i q
    rw[ab7] at this;have this:h i < _+1:=this
    by_cases z:h i=R.length
    .rw[adZ z];simp
    .rw[adZ (by lia)];rfl
 .rintro⟨c,e,⟨O,h,h1,h2⟩,L,hd,rfl,Y⟩;have M:∀i,c.testBit i=true->e.testBit i=false:=fun i hi=>by
   have:=adW (fun z=>Nat.testBit z i) hd
   simp only[Nat.testBit_and,adA,hi,Bool.true_and] at this;exact this
  refine⟨Nat.or_lt_two_pow O L,fun i=>if e.testBit i=true then R.length else h i,fun i hi=> ?_,fun j y J=> ?_⟩
  .rw[ab7]
   show(if e.testBit i=true then _ else h i) < _+1
   by_cases q:e.testBit i=true
   .rw[ad3 q];lia
   .rw[ad2 q];rw[adw] at hi;have hc:c.testBit i=true:=by
     rw[aaW] at hi
     rcases hi with hi|hi
     .exact hi
     .simp_all
    have:=h1 i hc
    lia
  .rcases Nat.lt_trichotomy j _ with q|q|q
   .rw[abV q] at J;have Z:oK a (c|||e) (fun i=>if e.testBit i=true then R.length else h i) j=oK a c h j:=by
     refine ac5 fun i=> ?_
     rw[js,js,adw]
     by_cases z:e.testBit i=true
     .have hc:c.testBit i=false:=by
       cases w:c.testBit i with
       |false=>rfl
       |_=>rw[M i w] at z;contradiction
      have U:¬R.length=j:=by lia
      simp[z,hc,U]
     .have z:=by omega
      simp[z]
    rw[Z];exact h2 j y J
   .subst q;rw[abW (ac_ _),adt] at J;cases adD (J);have Z:oK a (c|||e) (fun i=>if e.testBit i=true then R.length else h i) R.length=e:=by
     refine ac5 fun i=> ?_
     rw[js,adw];dsimp only
     by_cases z:e.testBit i=true
     .simp[z,HX L z]
     .have z:e.testBit i=false:=by lia
      cases w:c.testBit i with
      |false=>simp[z]
      |_=>
       have:=h1 i w
       have U:¬h i=R.length:=by lia
       simp[z,U]
    rw[Z];exact Y
   .rw[abY (by grind)] at J;nomatch J
def OJ (x y:Nat):PySem.Builtin.bitAnd (x:Int) (y:Int)=((x&&&y:Nat):Int):=by
 rfl
def Sv (x y:Nat):PySem.Builtin.bitOr (x:Int) (y:Int)=((x|||y:Nat):Int):=by
 delta PySem.Builtin.bitOr PySem.Builtin.bitAnd PySem.Builtin.bitNot
 grind
def Nr:x∈mf ks k↔x∈ks\/x=k:=by
 delta mf
 grind
def EU:∀(l:List (Int×Int)) (g:hA) (x:Int),x∈l.foldl (iH length ch) g↔x∈g\/ ∃z∈l,PySem.Builtin.bitAnd ch z.1=0/\z.2<=length/\x=PySem.Builtin.bitOr ch z.1
 |[],g,x=>by simp
 |z::l,g,x=>by
  rw[abS,EU l];have e:x∈iH length ch g z↔x∈g\/(PySem.Builtin.bitAnd ch z.1=0/\z.2<=length/\x=PySem.Builtin.bitOr ch z.1):=by
   delta iH
   by_cases h1:PySem.Builtin.bitAnd ch z.1=0
   .by_cases h2:z.2<=length
    .rw[adZ h1,adZ h2,ad3 (by rfl),Nr]
     simp[*]
    .grind
   .grind
  grind
def Ip:∀(J:hA) (g:hA) (x:Int),x∈J.foldl (fun g ch=>(numbered ri).foldl (iH length ch) g) g↔x∈g\/ ∃ch∈J,∃z∈numbered ri,PySem.Builtin.bitAnd ch z.1=0/\z.2<=length/\x=PySem.Builtin.bitOr ch z.1
 |[],g,x=>by simp
 |c::r,g,x=>by
  rw[abS,Ip r,EU];simp only[acu,exists_eq_or_imp]
  lia
def xb:z∈numbered xs↔ ∃i:Nat,z.1=(i:Int)/\xs[i]?=some z.2:=by
 rw[acz];constructor
 .rintro⟨i,h⟩;obtain _:=cy h
  grind
 .rintro⟨i,h1,h2⟩;refine⟨i, ?_⟩;delta numbered
  grind
def RC (R:List (Nat×Nat)):∀x:Int,x∈k9 (CV a) (a.repeat_:Int) (R.map m8)↔ ∃m:Nat,x=(m:Int)/\Et a R m:=by
 have:∀n R,R.length=n-> ∀x:Int,x∈k9 (CV a) (a.repeat_:Int) (R.map m8)↔ ∃m:Nat,x=m/\Et a R m:=by
  intro n
  induction n with
  |zero=>
   intro R M x;rw[abF M]
   show x∈[0]↔_
   rw[acF];constructor
   .rintro rfl;exact⟨0,rfl,Kb.mpr rfl⟩
   .rintro⟨m,rfl,h⟩;rw[Kb.mp h];rfl
  |_ n J=>
   intro R M x
   rcases abG R with rfl|⟨Q,y,rfl⟩
   .cases M
   .rw[abB] at*;have hQ:=by simpa using M
    have J:=J Q hQ;unfold k9 at J ⊢;rw[ack,abR]
    show x∈dF _ _ _↔_
    delta dF;rw[Ip];have U:(aP (CV a) (a.repeat_:Int) (m8 y)).length=2^a.strips.length:=by
     delta aP;rw[aca,jl,aca]
    constructor
    .rintro (h|⟨ch,O,z,hz,Z,b2,rfl⟩)
     .cases h
     .obtain⟨c,rfl,hc⟩:=(J ch).mp O;obtain⟨e,Y,e2⟩:=xb.mp hz;have L:e < 2^a.strips.length:=by
       grind
      rw[Y,OJ] at Z;rw[Y,Sv];refine⟨c|||e,rfl,E4.mpr ⟨c,e,hc,L,by exact abm Z,rfl, ?_⟩⟩;have:=qm y L
      rw[abU,e2] at this;rw[<- this];exact b2
    .rintro⟨m,rfl,h⟩;obtain⟨c,e,hc,L,hd,rfl,hn⟩:=E4.mp h;refine .inr ⟨c,(J _).mpr ⟨c,rfl,hc⟩,(e,oM a y.2 e),xb.mpr ⟨e,rfl, ?_⟩, ?_,hn,(Sv c e).symm⟩
     .have:=qm y L
      simp_all
     .show PySem.Builtin.bitAnd c e=0
      rw[OJ,hd];rfl
 simp[*]
end
end Cw
namespace Cw
open My L2
open PySem (Paired)
section
variable {a:Kh351.Abs}
abbrev idxOf (a:Kh351.Abs)(m:Nat):ko:=(List.range a.strips.length).filter fun i=>m.testBit i
def Ta (m:Nat):(idxOf a m).Nodup:=List.nodup_range.filter _
def GN:i∈idxOf a m↔i < a.strips.length/\m.testBit i=true:=by simp
def rX (p:b->Bool)(f:b->c):∀l:List b,l.filterMap (fun i=>if p i=true then some (f i) else none)=(l.filter p).map f
 |[]=>rfl
 |x::l=>by
  rw[abI,abK];cases h:p x with
  |true=>rw[rX p f l];rfl
  |_=>simp only[aaS,ad1];rw[rX p f l]
def OQ (xs:List c)(d:c):xs.zipIdx=(List.range xs.length).map fun i:Nat=>(xs.getD i d,i):=by
 refine abH fun i=> ?_
 grind
def u_ (m:Nat):(subset a m).strips=(idxOf a m).map fun i=>a.strips.getD i ⟨0,0⟩:=by
 show a.strips.zipIdx.filterMap _=_
 rw[OQ _ _,List.filterMap_map];exact rX _ _ _
def Aa (m:Nat):(subset a m).strips.length=(idxOf a m).length:=by rw[u_,aca]
abbrev Vu (a:Kh351.Abs)(m:Nat)(k:Nat):Nat:=(idxOf a m).getD k 0
def LJ (h:k < (idxOf a m).length):Vu a m k=(idxOf a m)[k]:=by
 simp[*]
def wu (h:∀k∈o,k < (idxOf a m).length):ofOrder (subset a m) o=ofOrder a (o.map (Vu a m)):=by
 delta ofOrder;rw[aco];refine acm fun k J=> ?_
 have J:=h k J
 show(subset a m).strips.getD k _=a.strips.getD _ _
 rw[u_,abU,ab0,abX J,LJ J];rfl
def K3 (h:x∈idxOf a m):Vu a m ((idxOf a m).idxOf x)=x:=by
 grind
def BP (h:k < (idxOf a m).length):(idxOf a m).idxOf (Vu a m k)=k:=by
 rw[LJ h];exact(Ta m).idxOf_getElem k h
def SU {L:ko}(nd:L.Nodup)(h:∀k∈L,k < (idxOf a m).length):(L.map (Vu a m)).Nodup:=by
 refine acQ.mpr (List.Pairwise.imp_of_mem (fun {x y} O M J e=>J ?_) nd);rw[<- BP (h x O),<- BP (h y M),e]
def K0 (nd:L.Nodup)(h:∀k∈L,k < (idxOf a m).length):(Kh351.best (subset a m) f L).2=(Kh351.best a f (L.map (Vu a m))).2:=by
 obtain⟨Z,o,bo,Y⟩:=CD f nd;obtain⟨c1,q,U,ce⟩:=CD f (SU nd h);have e0:(subset a m).repeat_=a.repeat_:=rfl;rw[e0] at Z Y;refine Nat.le_antisymm ?_ ?_
 .have hq:∀x∈q,x∈idxOf a m:=fun x M=>by
   obtain⟨k,J,rfl⟩:=acA.mp (U.mem_iff.mp M)
   simp[*]
  have O:=by
   have:=U.map fun x=>(idxOf a m).idxOf x
   rw[aco] at this;have e:L.map ((fun x=>(idxOf a m).idxOf x) ∘ Vu a m)=L.map id:=acm fun k J=>BP (h k J)
   rw[e,List.map_id] at this;exact this
  have e:(q.map fun x=>(idxOf a m).idxOf x).map (Vu a m)=q:=by
   have:q.map (Vu a m ∘ fun x=>(idxOf a m).idxOf x)=q.map id:=acm fun x M=>K3 (hq x M)
   simp[*]
  have:=Z _ O
  rw[wu fun k J=>h k (O.mem_iff.mp J),e,<- ce] at this;exact this
 .rw[Y,wu fun k J=>h k (bo.mem_iff.mp J)]
  grind
def EZ (hr:0 < a.repeat_)(hm:m < 2^a.strips.length)(h:Nat->Nat):Gives (subset a m) ((idxOf a m).map h)↔(∀i,m.testBit i=true->h i < a.rolls.length)/\ ∀j x,a.rolls[j]?=some x->oM a x.2 (oK a m h j)<=(x.1:Int):=by
 have hn:∀j x,oM a x (oK a m h j)=((Kh351.best _ x _).2:Int):=fun j x=>by
  have Y:∀k∈ofRoll ((idxOf a m).map h) j,k < (idxOf a m).length:=fun k U=>by
   have:=rR.mp U
   grind
  have nd:(ofRoll ((idxOf a m).map h) j).Nodup:=by exact List.nodup_range.filter _
  rw[K0 nd Y];refine Bg hr (Bh _ _) (SU nd Y) fun i=> ?_
  rw[js,acA];constructor
  .rintro⟨k,U,rfl⟩;have J:=Y k U;have:=rR.mp U
   rw[ab0,abX J] at this;have L:=adD this;have hi:=GN.mp (ab5 J);rw[LJ J];refine⟨hi.1, ?_⟩;rw[adZ hi.1,hi.2,adZ L];rfl
  .rintro⟨h1,h2⟩;simp only[aaO,ad0] at h2;have hi:=GN.mpr ⟨h1,h2.2.1⟩;have O:=ab6 hi;refine⟨(idxOf a m).idxOf i,rR.mpr ?_,K3 hi⟩;rw[ab0,abX O,List.getElem_idxOf O]
   show some _=_
   rw[h2.2.2]
 delta Gives;have Z:(subset a m).rolls=a.rolls:=rfl;rw[Z,abv,Aa,aca];constructor
 .rintro⟨⟨_,h2⟩,h3⟩;refine⟨fun i hi=>h2 _ (acA.mpr ⟨i,GN.mpr ⟨HX hm hi,hi⟩,rfl⟩),fun j x M=> ?_⟩;have L:j < a.rolls.length:=by
   rcases adh j _ with q|q
   .exact q
   .rw[abY q] at M;contradiction
  have:=h3 j (acE.mpr L)
  unfold fitsRoll at this;rw[Z,M] at this;rw[hn]
  simp_all
 .rintro⟨h1,h2⟩;refine⟨⟨rfl,fun x M=> ?_⟩,fun j L=> ?_⟩
  .obtain⟨i,hi,rfl⟩:=acA.mp M
   simp_all
  .have L:=acE.mp L;delta fitsRoll
   simp_all
def BX (L:0 < a.repeat_)(J:m < 2^a.strips.length):(Kh351.fits (subset a m)).isSome=true↔Et a a.rolls m:=by
 have M:=yk (subset a m);constructor
 .intro h;cases q:Kh351.fits _ with
  |none=>rw[q] at h;contradiction
  |_ w=>
   rw[q] at M;have hw:=M.1;have O:w.length=(idxOf a m).length:=by rw[<- Aa];exact hw.1.1
   have e:(idxOf a m).map (fun i=>w.getD ((idxOf a m).idxOf i) 0)=w:=by
    have:(idxOf a m).map (fun i=>w.getD ((idxOf a m).idxOf i) 0)=((idxOf a m).map fun i=>(idxOf a m).idxOf i).map fun k=>w.getD k 0:=by simp
    rw[this,EW (Ta m),<- O,map_range]
   rw[<- e] at hw;exact⟨J,_,(EZ L J _).mp hw⟩
 .rintro⟨_,h,hh⟩;have hw:=(EZ L J h).mpr hh;cases q:Kh351.fits _ with
  |none=>simp_all
  |_ w=>rfl
def Ka (J:0 < a.repeat_):Et a a.rolls 0:=by
 refine⟨adx _,fun _=>0,fun i hi=> ?_,fun j x L=> ?_⟩
 .grind
 .have e:oK a 0 (fun _=>0) j=0:=ac5 fun i=>by rw[js,adA];simp
  rw[e,Bg J (adx _) acK fun y=>by simp];have:(Kh351.best a x.2 []).2=0:=rfl
  lia
def size_eq:∀(n:Fin 7) (c:Fin 64),c.val < 2^n.val->kg ((c.val:Nat):Int)=((bits c.val n.val:Nat):Int):=by decide+kernel
def yf:∀(l:hA) (y:Int),l.Pairwise (·<=·)->(∀c∈l,y<=c)-> ∃r,l.foldl (uc sz) (some y)=some r/\(r=y\/r∈l)/\(sz y<=sz r/\(sz y=sz r->r<=y))/\ ∀c∈l,sz c<=sz r/\(sz c=sz r->r<=c)
 |[],y,_,_=>⟨y,rfl,.inl rfl,⟨abg _,fun _=>abg _⟩,fun c h=>by cases h⟩
 |x::l,y,Y,O=>by
  obtain⟨U,J⟩:=acO.mp Y
  show ∃r,l.foldl _ (if decide _ then some x else some y)=some r/\_
  by_cases h:sz y < sz x
  .rw[ad3 (adZ h)];obtain⟨r,e,m,_,a1⟩:=yf l x J U;refine⟨r,e,.inr ?_,⟨by omega,fun z=>by omega⟩,fun c hc=> ?_⟩
   .grind
   .grind
  .rw[ad2 (by simp[*])];obtain⟨r,e,m,⟨M,L⟩,a1⟩:=yf l y J fun c hc=>O c (acv _ hc)
   refine⟨r,e, ?_,⟨M,L⟩,fun c hc=> ?_⟩
   .grind
   .grind
def P6 (Y:0 < a.repeat_)(hn:a.strips.length<=6):kh (CV a) (a.repeat_:Int) (QT a)=((Kh351.most a:Nat):Int)/\kg ((Kh351.most a:Nat):Int)=((bits (Kh351.most a) a.strips.length:Nat):Int):=by
 have h64:2^_<=64:=ads (by decide) hn;have O:∀c,c < 2^_->kg _=((bits c _:Nat):Int):=fun c hc=>size_eq ⟨a.strips.length,by lia⟩ ⟨c,by lia⟩ hc
 have hdoc:Kh351.most a < 2^a.strips.length/\Et a a.rolls (Kh351.most a)/\ ∀m,Et a a.rolls m->bits m a.strips.length<=bits (Kh351.most a) a.strips.length/\(bits m a.strips.length=bits (Kh351.most a) a.strips.length->Kh351.most a<=m):=by
  delta Kh351.most;obtain⟨k,hk⟩:∃k,2^a.strips.length=k+1:=⟨2^a.strips.length - 1,by have:=adx a.strips.length;lia⟩
  rw[hk,acV,abS,ad2 (fun z=>ade _ z.1)];have hp0:=(BX Y (adx _)).mpr (Ka Y);have Z:=xZ (bt:=fun m=>bits m a.strips.length) (p:=fun m=>(Kh351.fits _).isSome) ((List.range k).map _) 0 (by
   rw[acQ];exact List.pairwise_lt_range.imp fun h=>Nat.succ_lt_succ h) (fun m hm=>by
   obtain⟨x,_,rfl⟩:=acA.mp hm;lia) hp0
  generalize ((List.range k).map _).foldl _ 0=r at Z ⊢;obtain⟨p1,p2,⟨p3,p4⟩,p5⟩:=Z;have U:r < 2^a.strips.length:=by
   rcases p2 with rfl|p2
   .omega
   .obtain⟨x,hx,rfl⟩:=acA.mp p2;have:=acE.mp hx
    lia
  refine⟨by rw[<- hk];exact U,(BX Y U).mp p1,fun m hm=> ?_⟩;have hm1:=(BX Y hm.1).mpr hm;cases m with
  |zero=>lia
  |_ x=>exact p5 _ (acA.mpr ⟨x,acE.mpr (by have:=hm.1;lia),rfl⟩) hm1
 obtain⟨d1,d2,d3⟩:=hdoc;refine⟨?_,O _ d1⟩;have J:∀x:Int,x∈sortI _↔ ∃m:Nat,x=m/\Et a _ m:=fun x=>by
  have hp:(sortI _).Perm (k9 (CV a) (a.repeat_:Int) (QT a)):=acH _ _;rw[hp.mem_iff];exact RC _ x
 have L:(sortI (k9 (CV a) (a.repeat_:Int) (QT a))).Pairwise (·<=·):=by
  have:=List.pairwise_mergeSort (le:=fun a b:Int=>decide (a<=b)) (fun a b c h1 h2=>adZ (abh (aea h1) (aea h2))) (fun a b=>by simp;lia) (k9 (CV a) (a.repeat_:Int) (QT a))
  exact this.imp fun h=>aea h
 delta kh;have h0:=(J _).mpr ⟨0,rfl,Ka Y⟩;generalize sortI _=l at J L h0 ⊢;cases l with
 |nil=>cases h0
 |_ x l=>
  obtain⟨hx,hl⟩:=acO.mp L;obtain⟨r,e,m,⟨s1,s2⟩,a1⟩:=yf l x hl hx
  show((l.foldl _ (some x)).getD 0)=_
  rw[e]
  show r=_
  have hrm:r∈x::l:=by
   rcases m with rfl|m
   .simp_all
   .simp_all
  obtain⟨rn,rfl,M⟩:=(J r).mp hrm;have hall:∀c∈x::l,kg c<=kg _/\(kg c=kg _->_<=c):=fun c hc=>by
   rcases acu.mp hc with rfl|hc
   .exact⟨s1,s2⟩
   .exact a1 c hc
  have q1:=hall _ ((J _).mpr ⟨Kh351.most a,rfl,d2⟩);have q2:=d3 rn M;rw[O _ d1,O _ M.1] at q1;grind
end
def aam (W:iI g):cJ (b_ g,F4 (b_ g)) (does g .most):=by
 have O:does g .most=if _=[] then _ else Kh353.cut g fun a=>(Kh351.doing _ .most).2:=rfl
 rw[O];delta F4;rw[Bf]
 by_cases h:g.rolls=[]
 .rw[ad3 (adZ h),ad3 h];exact cS W rfl rfl
 .rw[ad2 (by lia),ad2 h];refine Ui W (fun e=> ?_) fun l e=> ?_
  .rw[rf W,e];rfl
  .rw[rf W,e];have M:l.length<=6:=by
    obtain⟨U,_,h2⟩:=Option.bind_eq_some_iff.mp e;split at h2
    .cases h2
    .rename_i L;cases h2;delta STRIPS at L;omega
   obtain⟨h1,h2⟩:=P6 (a:=cutting g l) W.rep.1 M;have h1:kh (l.map _) (g.repeat_:Int) (g.rolls.map _)=_:=h1
   show [kg (kh _ (g.repeat_:Int) (g.rolls.map _)),kh _ (g.repeat_:Int) (g.rolls.map _)]=_
   rw[h1,h2];have J:(Kh351.doing (some (cutting g l)) .most).2=⟨bits (Kh351.most (cutting g l)) (cutting g l).strips.length,[Kh351.most (cutting g l)]⟩:=by
    show(if(cutting g l).rolls=[] then _ else _:Option _×_).2=_
    rw[ad2 (show ¬(cutting g l).rolls=[] from h)]
   rw[J];rfl
end Cw
namespace Cw
open My L2
open PySem (Paired)
def qY (n:Int)(g:hA):Call:=match n.toNat with
 |0=>.begin_ (g.getD 0 0).toNat (g.getD 1 0).toNat (g.getD 2 0).toNat
 |1=>.dye (g.getD 0 0).toNat (g.getD 1 0).toNat (g.getD 2 0).toNat (g.getD 3 0).toNat
 |2=>.undye (g.getD 0 0).toNat
 |3=>.price (g.getD 0 0).toNat (g.getD 1 0).toNat
 |4=>.tint (g.getD 0 0).toNat (g.getD 1 0).toNat (g.getD 2 0).toNat (g.getD 3 0).toNat
 |5=>.untint (g.getD 0 0).toNat
 |6=>.grams (g.getD 0 0).toNat (g.getD 1 0).toNat
 |7=>.room (g.getD 0 0).toNat (g.getD 1 0).toNat
 |8=>.unroom (g.getD 0 0).toNat
 |9=>.door (g.getD 0 0).toNat (g.getD 1 0).toNat (g.getD 2 0).toNat
 |10=>.side (g.getD 0 0).toNat (g.getD 1 0).toNat (g.getD 2 0).toNat
 |11=>.turn (g.getD 0 0).toNat
 |12=>.setTurn
 |13=>.wide (g.getD 0 0).toNat
 |14=>.drop (g.getD 0 0).toNat
 |15=>.pattern (g.getD 0 0).toNat
 |16=>.roll (g.getD 0 0).toNat (g.getD 1 0).toNat
 |17=>.unroll (g.getD 0 0).toNat
 |18=>.makes (g.getD 0 0).toNat (g.getD 1 0).toNat (g.getD 2 0).toNat
 |19=>.least (g.getD 0 0).toNat (g.getD 1 0).toNat (g.getD 2 0).toNat
 |20=>.shows (g.getD 0 0).toNat (g.getD 1 0).toNat (g.getD 2 0).toNat
 |21=>.needed (g.getD 0 0).toNat (g.getD 1 0).toNat (g.getD 2 0).toNat
 |22=>.idle
 |23=>.lacking
 |24=>.centimetre
 |25=>.first (g.getD 0 0).toNat
 |26=>.firsts (g.getD 0 0).toNat
 |27=>.seams (g.getD 0 0).toNat
 |28=>.widths (g.getD 0 0).toNat (g.getD 1 0).toNat (g.getD 2 0).toNat
 |29=>.strips (g.getD 0 0).toNat
 |30=>.all
 |31=>.need
 |32=>.order (g.map Int.toNat)
 |33=>.finer (g.getD 0 0).toNat
 |34=>.bestTurn
 |35=>.fits
 |36=>.spare
 |37=>.most
 |38=>.total
 |39=>.cheaper (g.getD 0 0).toNat (g.getD 1 0).toNat (g.getD 2 0).toNat (g.getD 3 0).toNat
 |40=>.without (g.getD 0 0).toNat
 |41=>.look (g.getD 0 0).toNat
 |42=>.lookDye (g.getD 0 0).toNat
 |43=>.lookTint (g.getD 0 0).toNat
 |44=>.back
 |45=>.again
 |_=>.state
def qu (h:0<=x):∃n:Nat,x=(n:Int):=⟨x.toNat,by lia⟩
def zr (h:aW 0 g):g=[]:=abF h.1
def ua (h:aW 1 g):∃x:Nat,g=[(x:Int)]:=by
 obtain⟨h1,h2⟩:=h
 obtain⟨a,rfl⟩:=hx1 h1
 obtain _:=qu (h2 a (by simp)).1
 grind
def WK (h:aW 2 g):∃x y:Nat,g=[(x:Int),(y:Int)]:=by
 obtain⟨h1,h2⟩:=h
 obtain⟨a,b,rfl⟩:=hx2 h1
 obtain _:=qu (h2 a (by simp)).1;obtain _:=qu (h2 b (by simp)).1
 grind
def J7 (h:aW 3 g):∃x y z:Nat,g=[(x:Int),(y:Int),(z:Int)]:=by
 obtain⟨h1,h2⟩:=h
 obtain⟨a,b,c,rfl⟩:=hx3 h1
 obtain _:=qu (h2 a (by simp)).1;obtain _:=qu (h2 b (by simp)).1;obtain _:=qu (h2 c (by simp)).1
 grind
def aab (h:aW 4 g):∃x y z p:Nat,g=[(x:Int),(y:Int),(z:Int),(p:Int)]:=by
 obtain⟨h1,h2⟩:=h
 obtain⟨a,b,c,d,rfl⟩:=hx4 h1
 obtain _:=qu (h2 a (by simp)).1;obtain _:=qu (h2 b (by simp)).1;obtain _:=qu (h2 c (by simp)).1;obtain _:=qu (h2 d (by simp)).1
 grind
def givL (h:∀y∈g,0<=y/\y<=4294967295):∃o:ko,g=o.map Int.ofNat:=by
 refine⟨g.map Int.toNat, ?_⟩;have:g.map (Int.ofNat ∘ _)=g.map id:=acm fun x J=>by
  have:=(h x J).1
  show((x.toNat:Nat):Int)=x
  lia
 simp[*]
def oE {P:Int->Prop}{n k:Int}(a:P k)(h:k+1<=n->P n)(H:k<=n):P n:=(Int.lt_or_eq_of_le H).elim h fun e=>e▸a
def ot {P:Int->Prop}{n:Int}(J:0<=n)(h1:n<=46)(a0:P 0)(a1:P 1)(a2:P 2)(a3:P 3)(a4:P 4)(a5:P 5)(a6:P 6)(a7:P 7)(a8:P 8)(a9:P 9)(a10:P 10)(a11:P 11)(a12:P 12)(a13:P 13)(a14:P 14)(a15:P 15)(a16:P 16)(a17:P 17)(a18:P 18)(a19:P 19)(a20:P 20)(a21:P 21)(a22:P 22)(a23:P 23)(a24:P 24)(a25:P 25)(a26:P 26)(a27:P 27)(a28:P 28)(a29:P 29)(a30:P 30)(a31:P 31)(a32:P 32)(a33:P 33)(a34:P 34)(a35:P 35)(a36:P 36)(a37:P 37)(a38:P 38)(a39:P 39)(a40:P 40)(a41:P 41)(a42:P 42)(a43:P 43)(a44:P 44)(a45:P 45)(a46:P 46):P n:=by
 revert J;iterate 46 refine oE (by assumption) ?_
 exact fun h=>Int.le_antisymm h h1▸a46
def QF (W:iI g)(M:0<=n)(h1:n<=46)(hc:CS n gi)(n0:n≠0)(L:n≠44)(J:n≠45):cJ (dg n (b_ g) gi) (does g (qY n gi)):=by
 revert hc n0 L J;apply ot M h1<;>intro hc n0 L J
 .exact absurd rfl n0
 .obtain⟨x,y,z,p,rfl⟩:=aab (hc.2 (by decide));exact f_dye W x y z p
 .obtain⟨x,rfl⟩:=ua (hc.2 (by decide));exact WO W x
 .obtain⟨x,y,rfl⟩:=WK (hc.2 (by decide));exact WV W x y
 .obtain⟨x,y,z,p,rfl⟩:=aab (hc.2 (by decide));exact aah W x y z p
 .obtain⟨x,rfl⟩:=ua (hc.2 (by decide));exact TH W x
 .obtain⟨x,y,rfl⟩:=WK (hc.2 (by decide));exact WZ W x y
 .obtain⟨x,y,rfl⟩:=WK (hc.2 (by decide));exact aaj W x y
 .obtain⟨x,rfl⟩:=ua (hc.2 (by decide));exact TJ W x
 .obtain⟨x,y,z,rfl⟩:=J7 (hc.2 (by decide));exact aar W x y z
 .obtain⟨x,y,z,rfl⟩:=J7 (hc.2 (by decide));exact aai W x y z
 .obtain⟨x,rfl⟩:=ua (hc.2 (by decide));exact aag W x
 .obtain rfl:=zr (hc.2 (by decide));exact Ql W
 .obtain⟨x,rfl⟩:=ua (hc.2 (by decide));exact aaf W x
 .obtain⟨x,rfl⟩:=ua (hc.2 (by decide));exact aaq W x
 .obtain⟨x,rfl⟩:=ua (hc.2 (by decide));exact Qm W x
 .obtain⟨x,y,rfl⟩:=WK (hc.2 (by decide));exact aak W x y
 .obtain⟨x,rfl⟩:=ua (hc.2 (by decide));exact TM W x
 .obtain⟨x,y,z,rfl⟩:=J7 (hc.2 (by decide));exact WX W x y z
 .obtain⟨x,y,z,rfl⟩:=J7 (hc.2 (by decide));exact WY W x y z
 .obtain⟨x,y,z,rfl⟩:=J7 (hc.2 (by decide));exact WT W x y z
 .obtain⟨x,y,z,rfl⟩:=J7 (hc.2 (by decide));exact TQ W x y z
 .obtain rfl:=zr (hc.2 (by decide));exact aao W
 .obtain rfl:=zr (hc.2 (by decide));exact Qo W
 .obtain rfl:=zr (hc.2 (by decide));exact Hf W
 .obtain⟨x,rfl⟩:=ua (hc.2 (by decide));exact W0 W x
 .obtain⟨x,rfl⟩:=ua (hc.2 (by decide));exact TR W x
 .obtain⟨x,rfl⟩:=ua (hc.2 (by decide));exact WU W x
 .obtain⟨x,y,z,rfl⟩:=J7 (hc.2 (by decide));exact TF W x y z
 .obtain⟨x,rfl⟩:=ua (hc.2 (by decide));exact TN W x
 .obtain rfl:=zr (hc.2 (by decide));exact f_all W
 .obtain rfl:=zr (hc.2 (by decide));exact aal W
 .obtain⟨o,rfl⟩:=givL (hc.1 rfl).2;have e:qY 32 (o.map Int.ofNat)=.order o:=by
   show Call.order _=_
   rw[aco];have:o.map (Int.toNat ∘ Int.ofNat)=o.map id:=rfl
   rw[this,List.map_id]
  rw[e];exact WW W o
 .obtain⟨x,rfl⟩:=ua (hc.2 (by decide));exact W2 W x
 .obtain rfl:=zr (hc.2 (by decide));exact MO W
 .obtain rfl:=zr (hc.2 (by decide));exact aap W
 .obtain rfl:=zr (hc.2 (by decide));exact WS W
 .obtain rfl:=zr (hc.2 (by decide));exact aam W
 .obtain rfl:=zr (hc.2 (by decide));exact WQ W
 .obtain⟨x,y,z,p,rfl⟩:=aab (hc.2 (by decide));exact Qp W x y z p
 .obtain⟨x,rfl⟩:=ua (hc.2 (by decide));exact Qk W x
 .obtain⟨x,rfl⟩:=ua (hc.2 (by decide));exact aan W x
 .obtain⟨x,rfl⟩:=ua (hc.2 (by decide));exact Qn W x
 .obtain⟨x,rfl⟩:=ua (hc.2 (by decide));exact MN W x
 .exact absurd rfl L
 .exact absurd rfl J
 .obtain rfl:=zr (hc.2 (by decide));exact WR W
def XC (st:aC)(r d w:Nat):dg 0 st [(r:Int),(d:Int),(w:Int)]=if okPattern r d w=false then(st,[-22]) else(b_ (Kh353.begun r d w),[0]):=by
 show(if !aX r 1 60||(decide (r<=(d:Int))|| !aX w 1 60) then _ else _)=_
 have e:(!aX r 1 60||(decide ((r:Int)<=d)|| !aX w 1 60))= !okPattern r d w:=by
  delta aX okPattern
  grind
 rw[e];cases okPattern r d w<;>rfl
def K2 (h:okPattern r d w=true):iI (Kh353.begun r d w):=by
 delta okPattern at h;simp only[aaO,ad0] at h;refine⟨?_, ?_, ?_,⟨adz _,fun x J=>(by contradiction)⟩,rfl,rfl,adz _,fun x J=>(by cases J),adz _,fun x J=>(by cases J),adz _,fun x J=>(by cases J)⟩
 .show 1<=r/\r<=60;omega
 .show d < r;omega
 .show 1<=w/\w<=60;omega
def i6:Option Kh353.Abs->jj
 |none=>(Vz,[],[])
 |some a=>(b_ a.now,a.undo.reverse.map b_,a.redo.reverse.map b_)
def AOk:Option Kh353.Abs->Prop
 |none=>True
 |some a=>iI a.now/\(∀g∈a.undo,iI g)/\(∀g∈a.redo,iI g)/\a.undo.length+a.redo.length<=10
def sok0:jT Vz:=⟨⟨by decide,by decide,by decide⟩,by decide,fun r h=>(by cases h),⟨by decide,fun d h=>(by cases h)⟩,by decide,fun r h=>(by cases h),by decide,fun r h=>(by cases h)⟩
def xh:∀{s:Option Kh353.Abs},AOk s->rk (i6 s)
 |none,_=>⟨sok0,fun s h=>(by cases h),fun s h=>(by cases h),by decide⟩
 |some a,⟨h1,h2,M,O⟩=>by
  refine⟨h1.Zd,fun s L=> ?_,fun s L=> ?_, ?_⟩
  .obtain⟨x,J,rfl⟩:=acA.mp (L);exact(h2 x (List.mem_reverse.mp J)).Zd
  .obtain⟨x,J,rfl⟩:=acA.mp (L);exact(M x (List.mem_reverse.mp J)).Zd
  .show (a.undo.reverse.map b_).length+(a.redo.reverse.map b_).length<=10
   simp[*]
def map_inj {P:b->Prop}(L:∀x y,P x->P y->f x=f y->x=y):∀{l m:List b},(∀x∈l,P x)->(∀x∈m,P x)->l.map f=m.map f->l=m
 |[],[],_,_,_=>rfl
 |[],_::_,_,_,h=>by cases h
 |_::_,[],_,_,h=>by cases h
 |x::l,y::m,h1,h2,h=>by
  injection h with O M
  rw[L x y (h1 x acw) (h2 y acw) O,map_inj L (fun z J=>h1 z (acv _ J)) (fun z J=>h2 z (acv _ J)) M]
def T1 (h:sT x=sT y):x=y:=by
 obtain⟨v,p⟩:=x;obtain⟨u,q⟩:=y;have h1:i3 v=i3 u:=adW (fun z:qE=>z.1) h;have h2:p=(q:Int):=adW (fun z:qE=>z.2.1) h;rw[MB h1,abm h2]
def Qq (h:m7 x=m7 y):x=y:=by
 obtain⟨v,p⟩:=x;obtain⟨u,q⟩:=y;have h1:i3 v=i3 u:=adW (fun z:nv=>z.1) h;have h2:p=(q:Int):=adW (fun z:nv=>z.2.1) h;rw[MB h1,abm h2]
def Qs (h:m8 x=m8 y):x=y:=by
 obtain⟨v,p⟩:=x;obtain⟨u,q⟩:=y;have h1:v=(u:Int):=adW (fun z:ji=>z.1) h;have h2:p=(q:Int):=adW (fun z:ji=>z.2.1) h
 grind
def E6 (h:qR x=qR y):x=y:=by
 obtain⟨v,p⟩:=x;obtain⟨u,q⟩:=y;have h1:v=(u:Int):=adW (fun z:Int×Int=>z.1) h;have h2:p=(q:Int):=adW (fun z:Int×Int=>z.2) h
 grind
def Qr (L:En w x)(J:En w y)(h:cA x=cA y):x=y:=by
 have h1:=adW (fun z:cu=>z.1) h;have h2:=adW (fun z:cu=>z.2.1) h;have h3:=adW (fun z:cu=>z.2.2.1) h;have h4:=adW (fun z:cu=>z.2.2.2.1) h;have O:=map_inj (fun a b _ _ e=>E6 e) (fun _ _=>trivial) (fun _ _=>trivial) h3;have M:=map_inj (fun a b _ _ e=>E6 e) (fun _ _=>trivial) (fun _ _=>trivial) h4;have hw:=L.w.trans J.w.symm;have Z:=L.u.trans J.u.symm;have Y:=abm h1;have U:=abm h2;obtain⟨b1,b2,b3,b4,b5,b6⟩:=y;subst hw Z Y U O M;rfl
def Xk (M:iI x)(L:iI y):(xc (b_ x):Er)=xc (b_ y)↔x=y:=by
 constructor
 .intro h;have J:=adW (fun z:Er=>z.1) h;have h1:=adW (fun z:Er=>z.2.1) h;have h2:=adW (fun z:Er=>z.2.2.1) h;have h3:=adW (fun z:Er=>z.2.2.2.1) h;have h4:=adW (fun z:Er=>z.2.2.2.2.1) h;injection J with e1 J
  injection J with e2 J
  injection J with e3 _
  have d1:=abm e1;have d2:=abm e2;have O:=abm e3;have k1:=map_inj (fun a b _ _ e=>T1 e) (fun _ _=>trivial) (fun _ _=>trivial) h1;have Z:=map_inj (fun a b _ _ e=>Qq e) (fun _ _=>trivial) (fun _ _=>trivial) h2;have U:=map_inj (fun a b _ _ e=>Qs e) (fun _ _=>trivial) (fun _ _=>trivial) h4;have Y:=map_inj (fun a b p q e=>Qr p q e) M.rm (by rw[O];exact L.rm) h3;have hl:=M.li.trans L.li.symm;have hu:=M.un.trans L.un.symm;obtain⟨⟨b1,b2,b3⟩,b4,b5,b6,b7,b8,b9⟩:=y;subst d1 d2 O k1 Z Y U hl hu;rfl
 .grind
def Uh (xs:List aC):cut xs (some (-10)) none=xs.drop (xs.length - 10):=by
 delta cut;have L:HT.Am xs.length 0 (some (-10))=xs.length - 10:=by
  delta HT.Am
  lia
 have J:HT.Am xs.length xs.length none=xs.length:=by rfl
 rw[L,J,ac2 (by simp)]
def MT (h:∀r d w,c≠.begin_ r d w):Kh353.doing none c=(none,Kh353.say (-61)):=by
 cases c<;>first|rfl|lia
def MS (h:∀r d w,c≠.begin_ r d w)(h1:c≠.back)(h2:c≠.again):Kh353.doing (some a) c=if(does a.now c).2.ret < 0\/(does a.now c).1=a.now then(some a,(does a.now c).2) else(some ⟨(does a.now c).1,(a.now::a.undo).take Kh353.BACK,[]⟩,(does a.now c).2):=by
 cases c<;>first|rfl|lia
def KS (L:0<=n)(h1:n<=46)(J:n≠0):∀r d w,qY n gi≠.begin_ r d w:=by
 intro r d w
 revert J;apply ot L h1<;>first|exact fun J=>absurd rfl J|exact fun _=>nofun
def Ng (L:0<=n)(h1:n<=46)(J:n≠44):qY n gi≠.back:=by
 revert J;apply ot L h1<;>first|exact fun J=>absurd rfl J|exact fun _=>nofun
def KU (L:0<=n)(h1:n<=46)(J:n≠45):qY n gi≠.again:=by
 revert J;apply ot L h1<;>first|exact fun J=>absurd rfl J|exact fun _=>nofun
def wF:((x::l).reverse.map b_)=l.reverse.map b_++[b_ x]:=by
 simp
def N7:(l++[x])[(l++[x]).length - 1]?=some x:=by
 simp
def Pj (A:AOk s)(M:0<=n)(h1:n<=46)(hc:CS n gi):TurnOk (i6 s) n gi/\fH (i6 s) n gi=(i6 (Kh353.doing s (qY n gi)).1,hX (Kh353.doing s (qY n gi)).2)/\AOk (Kh353.doing s (qY n gi)).1:=by
 by_cases n0:n=0
 .subst n0;obtain⟨r,d,w,rfl⟩:=J7 (hc.2 (by decide));have O:Kh353.doing s (qY 0 [(r:Int),(d:Int),(w:Int)])=if okPattern r d w=false then(s,Kh353.say (-22)) else(some ⟨Kh353.begun r d w,[],[]⟩,Kh353.say 0):=by
   cases s<;>rfl
  have eb:=XC (i6 s).1 r d w;rw[O];cases hp:okPattern r d w with
  |false=>
   rw[hp,ad3 rfl] at eb;refine⟨⟨xh A,⟨M,h1⟩,hc,fun _ _ _=>by rw[eb];exact abC _ _,fun _ _ _=>by rw[eb];exact(xh A).now⟩, ?_,A⟩;delta fH;rw[eb];simp only[decide_true,aaV,aaP,aaS,ad1];rfl
  |true=>
   rw[hp,ad2 (by decide)] at eb;refine⟨⟨xh A,⟨M,h1⟩,hc,fun _ _ _=>by rw[eb];exact abC _ _,fun _ _ _=>by rw[eb];exact(K2 hp).Zd⟩, ?_,⟨K2 hp,fun g h=>(by cases h),fun g h=>(by cases h),adz _⟩⟩;delta fH;rw[eb];simp only[decide_true,aaV,aaP,aaS,ad1];rfl
 .have nb:=KS (gi:=gi) M h1 n0;cases s with
  |none=>
   have O:=MT nb;rw[O];refine⟨⟨xh A,⟨M,h1⟩,hc,fun h=> ?_,fun h=> ?_⟩, ?_,trivial⟩
   .rcases h with h|h
    .cases h
    .exact absurd h n0
   .rcases h with h|h
    .cases h
    .exact absurd h n0
   .unfold fH;rw[ad3 (by
     rw[adX n0];rfl)]
    rfl
  |some a=>
   obtain⟨a1,a2,a3,a4⟩:=A;have cK:=xh (s:=some a) ⟨a1,a2,a3,a4⟩;have f0:¬(!(i6 (some a)).1.1&& !decide (n=0))=true:=by
    show ¬(!true&&_)=true
    simp
   by_cases Y:n=44
   .subst Y;refine⟨⟨cK,⟨M,h1⟩,hc,fun _ h=>absurd rfl h,fun _ h=>absurd rfl h⟩, ?_⟩;have O:Kh353.doing (some a) (qY 44 gi)=(match a.undo with
      |g::l=>(some ⟨g,l,a.now::a.redo⟩,Kh353.say l.length)
      |[]=>(some a,Kh353.say (-2))):=rfl
    rw[O]
    show((match(a.undo.reverse.map b_)[(a.undo.reverse.map b_).length - 1]? with|none=>_|some s=>((s,(a.undo.reverse.map b_).dropLast,a.redo.reverse.map b_++[b_ a.now]),[((a.undo.reverse.map b_).dropLast.length:Int)]))=_)/\_
    cases hu:a.undo with
    |nil=>
     refine⟨?_,⟨a1,a2,a3,a4⟩⟩;rfl
    |cons x l=>
     rw[wF,N7,List.dropLast_concat];refine⟨?_,⟨a2 x (by rw[hu];exact acw),fun g J=>a2 g (by rw[hu];exact acv _ J),fun g J=> ?_, ?_⟩⟩
     .show ((b_ x,l.reverse.map b_,a.redo.reverse.map b_++[b_ a.now]),[((l.reverse.map b_).length:Int)])=((b_ x,l.reverse.map b_,(a.now::a.redo).reverse.map b_),[(l.length:Int)])
      rw[wF,aca,ace]
     .rcases acu.mp J with rfl|J
      .exact a1
      .exact a3 g J
     .rw[hu] at a4
      show l.length+(a.redo.length+1)<=10
      have a4:l.length+1+a.redo.length<=10:=a4;omega
   .by_cases U:n=45
    .subst U;refine⟨⟨cK,⟨M,h1⟩,hc,fun _ _ h=>absurd rfl h,fun _ _ h=>absurd rfl h⟩, ?_⟩;have O:Kh353.doing (some a) (qY 45 gi)=(match a.redo with
       |g::l=>(some ⟨g,(a.now::a.undo).take Kh353.BACK,l⟩,Kh353.say l.length)
       |[]=>(some a,Kh353.say (-2))):=rfl
     rw[O]
     show((match(a.redo.reverse.map b_)[(a.redo.reverse.map b_).length - 1]? with|none=>_|some s=>((s,a.undo.reverse.map b_++[b_ a.now],(a.redo.reverse.map b_).dropLast),[((a.redo.reverse.map b_).dropLast.length:Int)]))=_)/\_
     cases hu:a.redo with
     |nil=>
      refine⟨?_,⟨a1,a2,a3,a4⟩⟩;rfl
     |cons x l=>
      rw[hu] at a4;have a4:a.undo.length+(l.length+1)<=10:=a4;have ht:(a.now::a.undo).take Kh353.BACK=a.now::a.undo:=ac2 (by show a.undo.length+1<=10;omega);rw[wF,N7,List.dropLast_concat];refine⟨?_,⟨a3 x (by rw[hu];exact acw),fun g J=> ?_,fun g J=>a3 g (by rw[hu];exact acv _ J), ?_⟩⟩
      .show ((b_ x,a.undo.reverse.map b_++[b_ a.now],l.reverse.map b_),[((l.reverse.map b_).length:Int)])=((b_ x,((a.now::a.undo).take Kh353.BACK).reverse.map b_,l.reverse.map b_),[(l.length:Int)])
       rw[ht,wF,aca,ace]
      .have J:g∈(a.now::a.undo).take Kh353.BACK:=J;rw[ht] at J
       rcases acu.mp J with rfl|J
       .exact a1
       .exact a2 g J
      .show ((a.now::a.undo).take Kh353.BACK).length+l.length<=10
       rw[ht]
       show a.undo.length+1+l.length<=10
       omega
    .have F:=QF a1 M h1 hc n0 Y U;have O:=MS (a:=a) nb (Ng M h1 Y) (KU M h1 U);generalize does a.now (qY n gi)=r at F O;obtain⟨L,fok⟩:=F;have L:dg n (i6 (some a)).1 gi=(b_ r.1,hX r.2):=L;refine⟨⟨cK,⟨M,h1⟩,hc,fun _ _ _=>by rw[L];exact abC _ _,fun _ _ _=>by rw[L];exact fok.Zd⟩, ?_⟩;have et:fH (i6 (some a)) n gi=if decide (0<=r.2.ret) then(nG (i6 (some a)) (b_ r.1),hX r.2) else(i6 (some a),hX r.2):=by
      delta fH;rw[ad2 f0,ad2 (by rw[adX Y];decide),ad2 (by rw[adX U];decide),L,ad2 (by rw[adX n0];simp)];rfl
     rw[et,O]
     by_cases Z:r.2.ret < 0
     .have hd:(if r.2.ret < 0\/r.1=a.now then(some a,r.2) else(some ⟨r.1,(a.now::a.undo).take Kh353.BACK,[]⟩,r.2))=(some a,r.2):=ad3 (.inl Z);have hd2:(if decide (0<=r.2.ret)=true then(nG (i6 (some a)) (b_ r.1),hX r.2) else(i6 (some a),hX r.2))=(i6 (some a),hX r.2):=ad2 (by rw[adX (by lia)];decide);rw[hd,hd2];exact⟨rfl,a1,a2,a3,a4⟩
     .have hd2:(if decide (0<=r.2.ret)=true then(nG (i6 (some a)) (b_ r.1),hX r.2) else(i6 (some a),hX r.2))=(nG (i6 (some a)) (b_ r.1),hX r.2):=ad3 (adZ (by lia));rw[hd2];delta nG;have hci:=Xk fok a1
      by_cases he:r.1=a.now
      .have hd:(if r.2.ret < 0\/r.1=a.now then(some a,r.2) else(some ⟨r.1,(a.now::a.undo).take Kh353.BACK,[]⟩,r.2))=(some a,r.2):=ad3 (.inr he);rw[hd];refine⟨?_,a1,a2,a3,a4⟩;rw[ad3 (adZ (show(xc (b_ r.1):Er)=xc (i6 (some a)).1 from hci.mpr he))]
      .have hd:(if r.2.ret < 0\/r.1=a.now then(some a,r.2) else(some ⟨r.1,(a.now::a.undo).take Kh353.BACK,[]⟩,r.2))=(some ⟨r.1,(a.now::a.undo).take Kh353.BACK,[]⟩,r.2):=ad2 (fun z=>z.elim Z he);rw[hd,ad2 (by
        rw[adX (show ¬(xc (b_ r.1):Er)=xc (i6 (some a)).1 from fun z=>he (hci.mp z))];decide)]
       refine⟨?_,fok,fun g J=> ?_,fun g J=>(by cases J), ?_⟩
       .rw[Uh]
        show((b_ r.1,(a.undo.reverse.map b_++[b_ a.now]).drop ((a.undo.reverse.map b_++[b_ a.now]).length - 10),[]),hX r.2)=((b_ r.1,((a.now::a.undo).take Kh353.BACK).reverse.map b_,[]),hX r.2)
        rw[<- wF,List.reverse_take,List.map_drop,aca,ace];rfl
       .rcases acu.mp (acD (show g∈(a.now::a.undo).take Kh353.BACK from J)) with rfl|J
        .exact a1
        .exact a2 g J
       .show ((a.now::a.undo).take Kh353.BACK).length+0<=10
        rw[ach]
        show min 10 _+0<=10
        lia
def Ry:∀k:Fin 47,Kh353Neutral.sizes.getD k.val 0=(if k.val=32 then 1 else(counts.getD k.val 0).toNat+1)/\Kh353Neutral.behind.getD k.val []=(if k.val=32 then[8] else[]):=by decide+kernel
def Nn (h:Kh353Neutral.asked1 c=true):(0<=(flat c).1/\(flat c).1<=46)/\CS (flat c).1 (flat c).2/\Kh353Neutral.callOf1 c=qY (flat c).1 (flat c).2:=by
 cases c with
 |nil=>cases h
 |cons hd l=>
  have h:(Kh353Neutral.within (hd.headD (-1)) 0 46&&_)=true:=h;simp only[aaO] at h;obtain⟨h1,h2,h3,M,J⟩:=h;cases hd with
  |nil=>exact absurd h1 (by decide)
  |cons p xs=>
   have h1:Kh353Neutral.within p 0 46=true:=h1;delta Kh353Neutral.within at h1;simp only[aaO,ad0] at h1;have h2:((p::xs).length==Kh353Neutral.sizes.getD p.toNat 0)=true:=h2;have M:(l.length==(Kh353Neutral.behind.getD p.toNat []).length)=true:=M;have J:(((Kh353Neutral.behind.getD p.toNat []).zip l).all fun x=>Kh353Neutral.okRow x.1 x.2)=true:=J;obtain⟨s1,s2⟩:=Ry ⟨p.toNat,by lia⟩;dsimp only at s1 s2;rw[s1] at h2;rw[s2] at M J;have L:∀z:Int,Kh353Neutral.natural z 32=true->0<=z/\z<=4294967295:=fun z Y=>by
    delta Kh353Neutral.natural at Y;simp only[aaO,ad0] at Y;lia
   have Z:=fun z Y=>L z (abv.mp h3 z (acv _ Y))
   by_cases O:p=32
   .subst O;have hx:xs=[]:=abF (by simpa using h2);subst hx
    obtain⟨row,rfl⟩:=hx1 (eq_of_beq M)
    have J:(Kh353Neutral.okRow 8 row&&true)=true:=J;rw[aaQ] at J;delta Kh353Neutral.okRow at J;simp only[aaO,ad0] at J;have ef:flat [[32],row]=(32,row):=by
     show((32:Int),[]++[row].flatten)=_
     simp
    rw[ef];refine⟨show(0:Int)<=32/\(32:Int)<=46 by decide,⟨fun _=>⟨J.1,fun y hy=>L y (abv.mp J.2 y hy)⟩,fun z=>absurd rfl z⟩,rfl⟩
   .rw[ad2 (by lia)] at h2 M;have M:l=[]:=abF (by grind);subst M;have ef:flat [p::xs]=(p,xs):=by
     show(p,xs++([]:List hA).flatten)=_
     simp
    rw[ef];have U:=by
     have:=h2
     simpa using this
    refine⟨h1,⟨fun z=>absurd z O,fun _=>⟨U,Z⟩⟩, ?_⟩
    revert O;apply ot h1.1 h1.2<;>first|exact fun J=>absurd rfl J|exact fun _=>rfl
def Raw (c:List hA):Prop:=(∃p xs,0<=p/\p<=46/\p≠32/\c=[p::xs]/\xs.length=(counts.getD p.toNat 0).toNat)\/ ∃row,c=[[32],row]
def OV (h:Raw c):PyKh353.whole c=c:=by
 rcases h with⟨p,xs,M,h1,L,rfl,J⟩|⟨row,rfl⟩
 .revert J;revert xs;revert L;apply ot M h1<;>first|exact fun J=>absurd rfl J|exact fun _=>hb0 rfl|exact fun _=>hb1 fun _=>rfl|exact fun _=>hb2 fun _ _=>rfl|exact fun _=>hb3 fun _ _ _=>rfl|exact fun _=>hb4 fun _ _ _ _=>rfl
 .rfl
def Sb (h:PyFlat.call PyKh353.shape (p::r)=some (c,t)):Raw c:=by
 by_cases M:0<=p/\p<=46
 .have J:=IM ⟨p.toNat,by lia⟩;dsimp only at J;rw[abq M.1] at J;delta PyFlat.call at h
  by_cases L:p=32
  .rw[ad3 (by lia)] at J;simp only[J] at h;rw[ad2 (by lia)] at h;dsimp only[PyFlat.rows,abE,List.take_zero] at h;split at h
   .cases h
   .rename_i q;split at q
    .cases q
    .cases q;cases h;rw[L];exact .inr ⟨_,rfl⟩
  .rw[ad2 (by lia)] at J;simp only[J] at h
   by_cases O:r.length < (counts.getD p.toNat 0).toNat
   .grind
   .rw[ad2 O] at h;cases h;exact .inl ⟨p,_,M.1,M.2,L,rfl,by simp_all⟩
 .unfold PyFlat.call at h;simp only[ED M] at h;contradiction
def NY:∀{f:Nat} {l:hA} {J:List (List hA)},PyFlat.calls PyKh353.shape f l=some J-> ∀c∈J,Raw c
 |f,[],J,h,c,hc=>by
  cases f<;>(cases h;nomatch hc)
 |0,_::_,_,h,_,_=>by cases h
 |f+1,p::r,J,h,c,hc=>by
  unfold PyFlat.calls at h;split at h
  .cases h
  .rename_i U t M;split at h
   .cases h
   .rename_i O L;cases h
    rcases acu.mp hc with rfl|hc
    .exact Sb M
    .exact NY L c hc
def play (J:List (List hA)):∀(s:Option Kh353.Abs) (l:hA),AOk s->(∀c∈J,Kh353Neutral.asked1 c=true)->Run (i6 s) (J.map flat)/\((J.map flat).foldl oA (i6 s,l)).2=l++PyFlat.told (PyFlat.played Kh353Neutral.step s J):=by
 induction J with
 |nil=>intro s l _ _;exact⟨trivial,(abA _).symm⟩
 |_ c J L=>
  intro s l A h;obtain⟨U,Z,Y⟩:=Nn (h c acw);obtain⟨t1,O,M⟩:=Pj A U.1 U.2 Z;rw[<- Y] at O M;have L:=L (Kh353.doing s _).1 (l++((hX (Kh353.doing s (Kh353Neutral.callOf1 c)).2).length:Int)::hX (Kh353.doing s (Kh353Neutral.callOf1 c)).2) M fun x hx=>h x (acv _ hx)
  constructor
  .refine⟨t1, ?_⟩
   lia
  .rw[acn,abS];have e:oA (i6 s,l) (flat c)=(i6 (Kh353.doing s (Kh353Neutral.callOf1 c)).1,l++((hX (Kh353.doing s (Kh353Neutral.callOf1 c)).2).length:Int)::hX (Kh353.doing s (Kh353Neutral.callOf1 c)).2):=by
    show((fH _ (flat c).1 (flat c).2).1,l++_::(fH _ (flat c).1 (flat c).2).2)=_
    rw[O]
   rw[e,L.2,abz];rfl
def QI (h:PyKh353.answers_asked ns=true)(Z:ns.length<=1200):preA (ns,())/\lW ns=PyKh353.answers ns:=by
 delta PyKh353.answers_asked at h;cases hc:PyFlat.calls _ _ ns with
 |none=>rw[hc] at h;contradiction
 |_ J=>
  rw[hc] at h;simp only[aaO] at h;obtain⟨⟨_,ha⟩,U⟩:=h;unfold Kh353Neutral.asked at ha;have ew:J.map PyKh353.whole=J:=by
   have:=acm fun c Y=>OV (NY hc c Y)
   simp[*]
  have L:∀c∈J,Kh353Neutral.asked1 c=true:=by grind
  have M:m_split ns=J.map flat:=by delta m_split;rw[hc]
  obtain⟨O,p2⟩:=play J none [] trivial L;have ea:lW ns=PyKh353.answers ns:=by
   delta lW PyKh353.answers PyKh353.calls;rw[M,hc]
   show((J.map _).foldl _ (i6 none,[])).2=PyFlat.told _
   rw[p2,ew];rfl
  refine⟨⟨⟨Z,J,hc⟩, ?_, ?_⟩,ea⟩
  .show Run _ _
   rw[M];exact O
  .show (lW ns).length<=PySem.sizeLine
   rw[ea];exact adb (aea U) (by decide)
end Cw
namespace My
open PySem PySem.Spec PyProof.Rows L2
structure UK (K:b0)(mg:gp)(base:Heap)(cd:ee):Prop where
 code:∃c,cd=.ref c/\ ∀h,K.In h->PySem.W.CodeHd h c dD
 blt:base.BuiltinsAt mg dD
def ET (qual:Str)(params:Arguments)(body:Expr)(scope:Scope)(clos:k0)(pm:ee)(q c:dr):Heap->Prop:=fun h=>∃ctv,h.get? q=some (PySem.W.kla_obj "<lambda>" qual params body scope clos pm c ctv)
structure ON (φ:dr->dr->Heap->Prop)(H H':Hp)(q c:dr):Prop where
 keep:∀b o,b≠dD->H b=some o->H' b=some o
 tab:H' dD=some (.xI #[rawInt nB.1,rawInt nB.2,.ref c])
 code:H' c=some (.ext (vR c))
 fn:H' q=some (.ext (φ q c))
def tLam (φ:dr->dr->Heap->Prop):TE:=fun _ H Q=>Tab H/\ ∀q c H',ON φ H H' q c->Q (.ref q) H'
def KP:∀h1 h2:Heap,vR c h1->(∀o,h1.get? c=some o->h2.get? c=some o)->vR c h2:=by
 rintro h1 h2 ⟨J,o,vs,t,e,h,r⟩ k;cases e;exact xi4 c o vs t ⟨rfl,k o h,r⟩
def BF:∀h1 h2:Heap,ET qual params body scope clos pm q c h1->(∀o,h1.get? q=some o->h2.get? q=some o)->ET qual params body scope clos pm q c h2:=by
 rintro h1 h2 ⟨J,e⟩ k;exact⟨J,k _ e⟩
section
variable {X:Cx}{nj:kB}{σ:L2.St}{H H':Hp}{s:cq}{h':Heap}
def JV (I:Inv X nj σ H s)(Z:H dD=some (.xI ps))(k:∀b o,b≠dD->s.heap.get? b=some o->h'.get? b=some o)(U:h'.get? dD=some {cls:=.none,data:=.fields (ps++more)})
  (e1:H' dD=some (.xI (ps++more))) (L:∀b,b≠dD->b < s.heap.objs.size->H' b=H b) (new:∀b u,s.heap.objs.size<=b->H' b=some u->iJ X.prog X.w H' h' b u):
  Inv X nj σ H' {s with heap:=h',toks:=t'}:=by
 have M:∀b,H b=none->b≠_:=fun b n z=>by rw[z,Z] at n;contradiction
 have same:∀b u,b≠_->H b=some u->H' b=some u:=fun b u J e=>by
  rw[L b J (I.cK b u e).lt];exact e
 have O:∀b u,H b=some u->(∀ps,u≠.xI ps)->b≠_:=fun b u e n z=>by
  rw[z,Z] at e;cases e;exact n _ rfl
 refine I.un ⟨fun b o e n _ _=>k b o (M b n) e,fun b o e n _ _=>⟨o.slots,k b o (M b n) e⟩,fun b o e n _=>by rw[L b (M b n) (aa_ e)];exact n,fun b o e _=> ?_,fun b xs e=>same b _ (O b _ e (by simp)) e,fun b o u e=>same b _ (O b _ e (by simp)) e,fun b qs e=> ?_⟩ fun b u e=> ?_
 .by_cases J:b=dD
  .subst J;exact⟨_,U⟩
  .exact⟨o,k b o J e⟩
 .by_cases J:b=dD
  .subst J;rw[Z] at e;cases e;exact⟨more,e1⟩
  .simp_all
 .by_cases J:b=dD
  .subst J;rw[e1] at e;cases e;exact U
  .by_cases Y:b < s.heap.objs.size
   .rw[L b J Y] at e;refine(I.cK b u e).kJ (fun c v hc q=>k c v ?_ q) (fun c q=>same c _ (O c _ q (by simp)) q) fun c xs q=>same c _ (O c _ q (by simp)) q
    rcases hc with rfl|hc
    .exact J
    .exact O c _ hc (by simp)
   .simp_all
variable {params:Arguments}{body:Expr}{scope:Scope}{pos:Pos}
def ZK (F:UK X.K X.mg X.base X.env.code)(hq:X.env.qual++"<lambda>"=DW)(hdef:defaultsOf params X.env=([],[]))(hl:pos.line=nB.1)(hc:pos.col=nB.2)(hcl:∀y∈scope.names,y.2=.free-> ∃c,X.env.cells.lookup y.1=some c):
  PE X (.Lambda params body scope pos) (tLam (ET DW params body scope (cP X.env.cells scope.names []) ((X.mg "__name__").getD .none))):=by
 intro _ s σ H Q I h;obtain⟨⟨ps,hP,ok⟩,k⟩:=h;obtain⟨c0,L,hC⟩:=F.code;have M:=I.cK _ _ hP;have hns:=I.mod.glob.keeps I.bk;obtain⟨bm,ob,b1,b2,b3,b4,b5,b6⟩:=F.blt;have hB:s.heap.BuiltinsAt _ _:=⟨bm,ob,b1,b2,b3,b4,I.bk _ _ b5,b6⟩
 have hgP:mainGlobals≠_:=fun z=>by
  obtain⟨o,es,ep,e,d,_⟩:=hns;rw[z,M] at e;injection e with e;subst e;cases d
 have J:=aa_ M;refine PySem.W.kla_eval hdef ?_;rw[hq]
 rcases ok with ok|⟨c,ok,hcx⟩
 .subst ok;refine PySem.W.kla_makeFunction (vS hcl) I.ok.glob hns L (hC _ I.DX) M trivial rfl hgP hB fun U ctv h' tk hx hge hlt hrec htb=> ?_
  rw[hl,hc] at htb;have Y:=ac8 (adf hge hlt);have nq:=ado hlt;have nqt:=ado (adg J Y);have nct:=ado (adg J hge)
  let φ:=ET DW params body scope (cP X.env.cells scope.names []) ((X.mg "__name__").getD .none)
  let H':Hp:=upd (upd (upd H dD (.xI #[rawInt nB.1,rawInt nB.2,.ref U])) U (.ext (vR U))) h'.objs.size (.ext (φ h'.objs.size U))
  have t1:H' dD=some (.xI #[rawInt nB.1,rawInt nB.2,.ref U]):=by
   show upd _ _ _ _=_
   rw[ax nqt.symm,ax nct.symm,ah]
  have t2:H' U=some (.ext (vR U)):=by
   show upd _ _ _ _=_
   rw[ax nq.symm,ah]
  have t3:H' _=some _:=ah;have t4:∀b,b≠_->b≠U->b≠_->H' b=H b:=fun b x1 x2 x3=>by
   show upd _ _ _ _=_
   rw[ax x3,ax x2,ax x1]
  have Z:=fun b x1 x2=>t4 b x1 (adp (adg x2 hge)) (adp (adg x2 Y))
  refine⟨.ref h'.objs.size,H',JV I hP (fun b o O e=>aa6 _ (hx b o O e)) (aa6 _ htb) t1 Z (fun b u O e=> ?_),rfl,k _ U _ ⟨fun b o O e=>(Z b O (I.cK b o e).lt).trans e,t1,t2,t3⟩⟩
  by_cases z1:b=h'.objs.size
  .subst z1;rw[t3] at e;injection e with e;subst e;exact⟨⟨ctv,aa7 _ rfl⟩,⟨_,aa7 _ rfl⟩,BF⟩
  .by_cases z2:b=U
   .subst z2;rw[t2] at e;cases e;obtain⟨c1,o,vs,t,e1,e2,e3⟩:=hrec;cases e1;exact⟨xi4 b o vs t ⟨rfl,aa6 _ e2,e3⟩,⟨o,aa6 _ e2⟩,KP⟩
   .rw[t4 b (ado (adg J O)) z2 z1,I.cK.fresh O] at e;nomatch e
 .subst ok;refine PySem.W.kla_makeFunctionHit (cv:=.ref c) (vS hcl) I.ok.glob hns L (hC _ I.DX) M trivial (by simp[codeAmong,rawInt,hl,hc]) hB fun ctv h' tk hx Y=> ?_
  let φ:=ET DW params body scope (cP X.env.cells scope.names []) ((X.mg "__name__").getD .none)
  let H':Hp:=upd H h'.objs.size (.ext (φ h'.objs.size c))
  have t3:H' h'.objs.size=some _:=ah;have Z:∀b,b < _->H' b=H b:=fun b x2=>by
   show upd _ _ _ _=_
   rw[ax (adp (adg x2 Y))]
  refine⟨.ref h'.objs.size,H',JV (t':=tk) I hP (fun b o O e=>aa6 _ (hx b o e)) (by rw[Array.append_empty];exact aa6 _ (hx _ _ M)) (by simp[*]) (fun b _=>Z b) (fun b u O e=> ?_),rfl,k _ c _ ⟨fun b o O e=>(Z b (I.cK b o e).lt).trans e,(Z _ J).trans hP,(Z c (I.cK c _ hcx).lt).trans hcx,t3⟩⟩
  by_cases z1:b=h'.objs.size
  .subst z1;rw[t3] at e;cases e;exact⟨⟨ctv,aa7 _ rfl⟩,⟨_,aa7 _ rfl⟩,BF⟩
  .rw[show H' b=H b from ax z1,I.cK.fresh O] at e;nomatch e
def N8 (X:Cx)(N:ky)(env:Env)(s:cq)(H:Hp):Cx:=
 {prog:=X.prog,w:=X.w,K:=X.K,mg:=X.mg,base:=X.base,A:=X.A.deeper env,N:=N,Dj:=s,H_0:=H,env:=env,outer:=X.stack,stack:=env::X.stack,ex:=[],calm:=true,fn:=fun _=>false,pn:=[],xe:=fun _ _=>False}
abbrev Mz (scope:Scope)(L:dr)(clos:k0)(q c:dr):Env:=newEnv scope L mainGlobals clos (DW++".<locals>.") (some q) (.ref c) none builtinsNs
def Uo (h:(cP cells names []).lookup y=some c):(y,NameKind.free)∈names/\c=(cells.lookup y).getD 0:=by
 rcases nr (adS h) with h|h
 .cases h
 .exact h
def S6 (hcalm:X.calm=true)(hroom:X.A.depth < recursionLimit)(hco:scope.isCoroutine=false)(hgen:scope.isGenerator=false)(hk:scope.kind=.function)(O:∀y∈scope.names,y.2≠.cell)
  (hx1:scope.names.lookup x1=some .local) (hbind:∀(Y:k0) (pm ctv:ee) (c:dr) (u:ee),bindArgs (PySem.W.kla_fn "<lambda>" DW params body scope Y pm (.ref c) ctv) ⟨[u],[]⟩=pure [(x1,u)])
  (hfree:∀y∈X.N,Vis scope y->scope.names.lookup y=some .free) (hout:∀y,(y,NameKind.free)∈scope.names->X.env.kindOf y=some .cell) (Z:∀y,scope.names.lookup y=some .free->(y,NameKind.free)∈scope.names)
  (hbody:∀(env:Env) (s:cq) (H:Hp) (L c:dr) (Y:k0),env=Mz scope L Y q c->PE (N8 X (X.N++[x1]) env s H) body te):
  XQ X [] σ (.ref q) (fun x H Q=>(∃c,H q=some (.ext (ET DW params body scope (cP X.env.cells scope.names []) ((X.mg "__name__").getD .none) q c))/\H c=some (.ext (vR c)))/\te (σ++[some x]) H Q):=by
 intro _ s H x u Q _ I rx h;obtain⟨⟨c,hq,hc⟩,h⟩:=h;obtain⟨⟨ctv,ho⟩,_⟩:=I.cK q _ hq;obtain⟨hrec,_⟩:=I.cK c _ hc;refine aej (PySem.W.kla_callFunE hroom ho rfl hco hgen rfl hrec ?_);rw[hbind];refine aet (wpAny_newFunctionEnv O (fun y hy=>by rw[acF.mp hy];exact hx1) (fun h₁ hns hsb=>⟨I.nolimit.fresh _ hsb, ?_⟩) hk);have kp:=fun b o e=>hsb.extBut b o (adp (aa_ e)) (aa6 _ e)
 have look:∀y c,(cP _ _ []).lookup y=some c->X.env.cells.lookup y=some c:=fun y c e=>by
  obtain⟨e1,e2⟩:=Uo e;obtain⟨M,e3⟩:=I.ok.has y (.inl (hout y e1));rw[e2,e3];rfl
 have hasC:∀y,scope.names.lookup y=some .free-> ∃c,(cP X.env.cells _ []).lookup y=some c:=fun y e=>mem_lookup (pW (Z y e))
 have ndec:∀y,scope.names.lookup y≠some .cell:=fun y e=>O _ (adS e) rfl
 have J:Inv (N8 X (X.N++[x1]) (Mz scope s.heap.objs.size (cP X.env.cells scope.names []) q c) s H) [] (σ++[some x]) H {s with heap:=h₁,toks:=s.toks+1}:=by
  refine⟨⟨I.mod,hk,rfl,rfl,ac_ _,fun y z M e1 e2=>I.ok.inj y z M (look y M e1) (look z M e2),fun y hy=> ?_,fun y M e=>(by contradiction),fun _=>I.ok.hd hcalm,Around.frames_deeper I.ok.frames,.inr ⟨rfl,rfl⟩,fun b hb=>(nomatch hb),I.bs,adb I.ok.QG I.sz,fun b _ _ hb=>(nomatch hb),fun b hb=>(nomatch hb),I.stack,I.FJ⟩,
   rfl,I.bare,Un.kept kp,⟨_,hns,fun i y v h1 h2 h3=> ?_⟩,fun y M e=> ?_,I.cK.fresh (ac_ _),fun y M e=>I.pH y M (look y M e),fun p hp=>(nomatch hp),I.cK.kept kp, ?_⟩
  .rcases hy with hy|hy
   .exact absurd hy (ndec y)
   .exact hasC y hy
  .by_cases hi:i < X.N.length
   .have U:X.N[i]?=some y:=by rw[<- h1];exact(abV hi).symm
    have h2':σ[i]?=some (some v):=by rw[<- h2];exact(abV (by rw[I.len];exact hi)).symm
    have fr:=hfree y (acB U) h3;have kc:=hout y (Z y fr);obtain⟨m,hm,hl⟩:=I.loc;obtain⟨u',r',l'⟩:=hl i y v U h2' (.inr (.inl kc));refine⟨u',r',.inr ⟨.inr fr, ?_⟩⟩
    rcases l' with⟨z,_⟩|⟨_,M,e1,o,e2,e3⟩
    .rw[kc] at z;nomatch z
    .obtain⟨c2,e4⟩:=hasC y fr;have e5:=look y c2 e4;rw[e1] at e5;cases e5;exact⟨M,e4,o,kp _ _ e2,e3⟩
   .have hi2:i=X.N.length:=by
     have:=(abZ.mp h1).1
     rw[show(N8 X _ _ s H).N=X.N++[x1] from rfl,ab7,acg] at this;lia
    have U:(X.N++[x1])[i]?=some y:=h1;rw[hi2,abW (ac_ _),adt] at U;rw[hi2,abW (by rw[I.len];exact ac_ _),I.len,adt] at h2;injection U with U;subst U;cases h2;exact⟨u,rx,.inl ⟨hx1,by show List.lookup x1 [_]=some u;rw[acj,beq_self_eq_true]⟩⟩
  .obtain⟨v,o,e1,e2⟩:=I.cell y M (look y M e);exact⟨v,o,kp _ _ e1,e2⟩
  .show _=(X.N++[x1]).length
   rw[ab7,ab7,I.len];rfl
 refine PySem.W.kla_codeExpr (aep (hbody _ s H _ c _ rfl [] _ _ H Q J h) (fun v s' hs=> ?_) fun e s' hs=>hs.elim);obtain⟨v',H',J',r',q'⟩:=hs;exact I.after ⟨v',H',J'.os,J'.bare,J'.base,J'.cK,r',q'⟩
def Yc (K:b0)(ta:TA)(te:TE):TE:=fun σ H Q=>ta σ H fun vs H1=>∃a xs,vs=[.ref a]/\dh K H1 a xs/\Tab H1/\ ∀H2,(∀b o,b≠dD->H1 b=some o->H2 b=some o)->Tab H2->
 ∃W:Nat->Option (V×V)->Hp->Prop,W 0 none H2/\(∀i b H,W i b H->dh K H a xs/\(∀d φ,H2 d=some (.ext φ)->H d=some (.ext φ))/\ ∀x,xs[i]?=some x->te (σ++[some x]) H fun k H'=>match b with
  |none=>W (i+1) (some (x,k)) H'
  |some (bx,bk)=>rGtT K k bk H' fun g=>W (i+1) (if g then some (x,k) else some (bx,bk)) H')/\
 ∀b H,W xs.length b H->match b with|some (x,_)=>Q x H|none=>Q .iB H
def V9 (M:X.calm=true)(hg:Gl X "max")(hm:X.mg "max"=none)(ha:PA X [e] ta)(hu:X.A.units+64 < cLine)(O:X.A.depth < recursionLimit)
  (F:UK X.K X.mg X.base X.env.code) (hq:X.env.qual++"<lambda>"=DW) (hdef:defaultsOf params X.env=([],[])) (hl:lpos.line=nB.1) (hc:lpos.col=nB.2) (hcl:∀y∈scope.names,y.2=.free-> ∃c,X.env.cells.lookup y.1=some c)
  (hco:scope.isCoroutine=false) (hgen:scope.isGenerator=false) (hk:scope.kind=.function) (Y:∀y∈scope.names,y.2≠.cell)
  (hx1:scope.names.lookup x1=some .local) (hbind:∀(J:k0) (pm ctv:ee) (c:dr) (u:ee),bindArgs (PySem.W.kla_fn "<lambda>" DW params body scope J pm (.ref c) ctv) ⟨[u],[]⟩=pure [(x1,u)])
  (U:∀y∈X.N,Vis scope y->scope.names.lookup y=some .free) (hout:∀y,(y,NameKind.free)∈scope.names->X.env.kindOf y=some .cell) (huni:∀y,scope.names.lookup y=some .free->(y,NameKind.free)∈scope.names)
  (Z:∀(env:Env) (s:cq) (H:Hp) (L c q:dr) (J:k0),env=Mz scope L J q c->PE (N8 X.in1 (X.N++[x1]) env s H) body te)
  (hs:starEach [e] X.env=[(false,eval e X.env)]:=by rfl):
  PE X (.Call (.Name "max" p) [e] [⟨some "key",.Lambda params body scope lpos,kp⟩,⟨some "default",.Constant .none kk cpos,dp⟩] pos) (Yc X.K ta te):=by
 intro nj s σ H Q I h;refine aeh (lX I hg hm HU ?_);refine PyProof.Rows.callWith_kw (gk (ha pos _ s σ H _ I h) fun us s1 ⟨vs,H1,I1,r1,a,xs,e1,hsq,tab,k⟩=> ?_) (by rw[hs];rfl) (by rw[hs];rfl);refine gk (F8 (ZK F hq hdef hl hc hcl) (F8 ke Sq) pos _ s1 σ H1 (fun zs H2=>∃q c,zs=[.ref q,.iB]/\ON _ H1 H2 q c) I1 ⟨tab,fun q c H' m=>⟨q,c,rfl,m⟩⟩) fun ws s2 z0=> ?_;obtain⟨zs,H2,I2,rz,q,c,ez,m⟩:=z0
 subst e1 ez;obtain⟨W,w0,wS,wE⟩:=k H2 m.keep ⟨_,m.tab,.inr ⟨c,rfl,m.code⟩⟩;rw[Vals.FY r1];cases rz with
 |cons ra rb=>
  cases rb with
  |cons rb rc=>
   cases rc;subst ra;subst rb;have sq2:=(wS 0 _ H2 w0).1;refine EL (d:=some .none) (dV:=some .iB) M (S6 M O hco hgen hk Y hx1 hbind U hout huni (fun env s H L c J he=>Z env s H L c q _ he)) (Ul (by show _+1 < cLine;lia)) W (by simp[*]) sq2 w0 (fun i b H w=> ?_) rfl (fun b H w=> ?_)
   .obtain⟨h1,h2,h3⟩:=wS i b H w;exact⟨h1,fun x hx=>⟨⟨c,h2 _ _ m.fn,h2 _ _ m.code⟩,h3 x hx⟩⟩
   .have:=wE b H w
    cases b with
    |none=>exact this
    |_ y=>exact this
end
section
variable {σ:L2.St}{G H:Hp}{K:b0}
def l3 (x:I3):hA:=[x.1,x.2.1,x.2.2]
def JK (key:Int->I3)(o:ng)(x:Int):ng:=match o with
 |none=>some x
 |some y=>if HT.lexLt (l3 (key y)) (l3 (key x)) then some x else some y
def VN (h:RA ta σ G H (AC (ag af) A0) (xs,()))(O:∀x∈xs,∀G1 H1,Ext G H G1 H1->RE te (σ++[some (.int x)]) G1 H1 (g6 K) (key x)):
  RE (Yc K ta te) σ G H (jA af) (xs.foldl (JK key) none):=fun G' H' e Q q=>h G' H' e _ fun vs G1 H1 U ⟨v,rr,e0,⟨p,us,ev,hp,pr⟩,er⟩=>by
 subst e0 ev;subst er;have hus:=paired_ints pr;subst hus;refine⟨p,xs.map V.int,rfl,dh.of (U.gh.at_ _ _ hp),U.gh.tab,fun H2 k2 t2=> ?_⟩;have e2:Ext G1 H1 G1 H2:=by
  refine⟨aE.refl _,fun b o O=> ?_,⟨fun b o O=>k2 b o (fun z=> ?_) (U.gh.at_ b o O),U.gh.gt,t2⟩,fun _ _ z=>z⟩
  .by_cases z:b=dD
   .subst z;obtain⟨ps,h1,_⟩:=U.gh.tab;rw[h1] at O;cases O;obtain⟨ps2,h2,_⟩:=t2;exact⟨ps2,h2⟩
   .exact .of (k2 b o z O)
  .rw[z,U.gh.gt] at O;nomatch O
 refine⟨fun i b Z=>∃Y,Ext G1 H2 Y Z/\i<=xs.length/\match(xs.take i).foldl (JK key) none,b with
  |none,none=>True
  |some y,some (bx,bk)=>bx=.int y/\g6 K Y bk (key y)
  |_,_=>False,⟨G1,Ext.refl e2.gh,adz _,trivial⟩, ?_, ?_⟩
 .rintro i b Z ⟨Y,M,hi,J⟩;have hp3:=M.gg _ _ hp;refine⟨dh.of (M.gh.at_ _ _ hp3),fun d φ hd=>M.hh d _ hd,fun x hx=> ?_⟩;have L:=by
   have:=(abZ.mp hx).1
   rw[aca] at this;exact this
  rw[ab0,abX L] at hx;injection hx with hx;subst hx;have et:(xs.take (i+1)).foldl (JK key) none=JK key ((xs.take i).foldl (JK key) none) xs[i]:=by
   rw[ac3,abX L,adE,abR];rfl
  refine O xs[i] (ab5 L) Y Z (e.trans (U.trans (e2.trans M))) Y Z (Ext.refl M.gh) _ fun k G4 H4 e4 r4=> ?_
  cases b with
  |none=>
   refine⟨G4,M.trans e4,L, ?_⟩;rw[et];generalize (xs.take i).foldl _ _=o at J;cases o with
   |none=>exact⟨rfl,r4⟩
   |_ y=>exact J.elim
  |_ w=>
   obtain⟨bx,bk⟩:=w;generalize hf:(xs.take i).foldl _ _=o at J et;cases o with
   |none=>exact J.elim
   |_ y=>
    obtain⟨hbx,r3⟩:=J;have r3':=aK.mono e4.gg r3;obtain⟨pa,rfl,ha⟩:=id r4;obtain⟨pb,rfl,hb'⟩:=id r3';refine xi4 pa pb (l3 _) (l3 _) ⟨rfl,rfl,aE.tup e4.gh.at_ ha,aE.tup e4.gh.at_ hb', ?_⟩;refine⟨G4,M.trans e4,L, ?_⟩;rw[et]
    show match(if HT.lexLt _ _ then some xs[i] else some y),(if HT.lexLt _ _ then some _ else some (bx,V.ref pb)) with
     |none,none=>True
     |some y,some (bx,bk)=>bx=.int y/\g6 K G4 bk _
     |_,_=>False
    cases HT.lexLt _ _ with
    |true=>exact⟨rfl,r4⟩
    |_=>exact⟨hbx,r3'⟩
 .rintro b Z ⟨Y,M,_,J⟩;rw[aca,ac1] at J;generalize xs.foldl _ _=o at J q;cases b with
  |none=>
   cases o with
   |none=>exact q _ Y Z (U.trans (e2.trans M)) rfl
   |some y=>exact J.elim
  |some w=>
   cases o with
   |none=>exact J.elim
   |some y=>exact q _ Y Z (U.trans (e2.trans M)) ⟨(by rw[J.1];intro z;cases z),J.1⟩
end
def Sl {K:b0}{st:Stmt}{pre:a->Prop}(F:yW K x qual st f fd)(L:UK K mg base fd.code)(S:dN N ps (aO st))(hn:n=ps.length)
  (M:∀(J:ee) (O:eu) (outer:List Env) (s:cq) (H:Hp) (E:XK),UK K mg base J->fM k (O.deeper (envOfC qual (aO st) s.heap.objs.size f J))->
   ∃t,Eo (je sQ P w K mg base N qual (aO st) f J O outer s H E).PY (e_ st) t/\ ∀(G:Hp) (vs:List V) (y:a),Sub G H->A G vs y->pre y->RS t (rd N vs) G H R (g y)):
  fA P w K mg base sQ (k+1) f fd ps (fz n A pre R g):=by
 obtain⟨oc,od,kV,doc,pm,an,J,ct,Z,rfl,lk,U⟩:=F.ex;refine Yv lk U S (fun vs H Q E h=>h.1.trans hn) fun O _ s H vs Q E hr h=> ?_
 obtain⟨t,h1,h2⟩:=M J O _ s H E L hr;obtain⟨_,G,y,Y,ha,hp,q⟩:=h;exact⟨t,h1.PY,h2 G vs y Y ha hp G H (Ext.refl Y) _ fun v G2 H2 e r=>q v G2 H2 e r⟩
section
end
end My
namespace My
open PySem PySem.Spec PyProof.Rows L2
open PySem.W (WData Codec OpenSpec Well WellAll ReadsW ReadsAllW tabObj CodeHd)
def Us {K:b0}
  (KX:K.In s₁.heap) (hns:s₁.heap.Ns mainGlobals mg) (hb:s₁.heap.Ns builtinsNs mb) (hbb:∀x:Str,x≠"__name__"->mb x=bootBuiltins x) (hlim:s₁.heap.NoLimit) (hg:s₁.gens=#[]) (hT:s₁.heap.get? dD=some (tabObj #[])) (hTK:K.lookup dD=none) (hcd:isCodeTable s₁.heap dD) (hbl:s₁.heap.BuiltinsAt mg dD)
  (U:WellAll w.params s₁.heap vals ds) (hpl:AE ds=true) (hwt:∀d∈ds,d.weight<=1048576) (hr:fM k callerA)
  (F:∀base:Heap,K.In base->base.Ns mainGlobals mg->base.BuiltinsAt mg dD->fA P w K mg base CX k fa fd ps sp) (Y:∀(s:cq) (us:kA),us.length=ps.length->BindsTo s fd ⟨us,[]⟩ (ps.zip us)) (hlen:ds.length=ps.length)
  (hsp:∀(G:Hp) (xs:List V),Lc G->G dD=none->uC K G xs ds->sp xs (upd G dD (.xI #[])) (fun v H'=>Dw K H' v d0) fun _ _ _=>False)
  (hCX:∀H e s',CX [] H s₁ (fun _ _ _=>False) e s'->False):
  codeAny (model P w) callerA (.call (.ref fa) ⟨vals,[]⟩) (fun r s'=>∃u as,r=.ok (.ret u)/\ReadsW R cl s'.heap u d0 as/\OldK s₁.heap s'.heap/\s'.os=s₁.os/\AllBare s'.gens) s₁:=by
 obtain⟨A,ho,ar⟩:=xB ds vals U hpl hwt;have hO:Lc (qD K s₁.heap A):=QK ar;have hS:=Hg KX ar ds vals U hpl ho;have hV:=qG ho;have UX:∀{b:dr} {u:HO},qD K s₁.heap A b=some u-> ∃(vs:kA) (c:ee),s₁.heap.get? b=some {cls:=c,data:=.seq vs.toArray}:=fun {b u} q=>by
  obtain⟨_,vs,_,_,⟨Z,_⟩|⟨Z,_⟩⟩:=xA ar q
  .exact xi2 vs _ Z
  .exact xi2 vs _ Z
 have no:∀{b:dr} {o:Obj},s₁.heap.get? b=some o->(∀(vs:kA) n,o.data≠.seq vs.toArray n)->qD K s₁.heap A b=none:=fun {b o} e d=>by
  cases q:qD K s₁.heap A b with
  |none=>rfl
  |some u=>
   obtain⟨vs,c,Z⟩:=UX q;rw[Z] at e;cases e;exact absurd rfl (d vs _)
 have hGt:=no hT fun vs n z=>by cases z
 have O:∀b u,qD K s₁.heap A b=some u->iJ P w (upd (qD K s₁.heap A) dD (.xI #[])) s₁.heap b u:=fun b u q=>by
  have z:=XF (P:=P) (w:=w) ar b u q;obtain⟨_,vs,_,_,⟨_,e⟩|⟨_,e⟩⟩:=xA ar q
  .subst e;exact z
  .subst e;exact z
 have hKG:∀b u,qD K s₁.heap A b=some u->K.lookup b=none:=fun b u q=>(xA ar q).1
 generalize qD K s₁.heap A=G at hO hS UX no hGt O hKG;have cK:rk P w (upd G dD (.xI #[])) s₁.heap:=fun b u q=>by
  by_cases z:b=dD
  .rw[z,ah] at q;cases q;rw[z];exact hT
  .rw[ax z] at q;exact O b u q
 have hK:∀b u,(upd G dD (.xI #[])) b=some u->K.lookup b=none:=fun b u q=>by
  by_cases z:b=dD
  .rw[z];exact hTK
  .rw[ax z] at q;exact hKG b u q
 have noH:∀{b:dr} {o:Obj},s₁.heap.get? b=some o->_->(∀vs,o.data≠.fields vs)->(upd G dD (.xI #[])) b=none:=fun {b o} e d1 d2=>by
  have z:b≠dD:=fun z=>by
   rw[z,hT] at e;cases e;exact absurd rfl (d2 _)
  rw[ax z];exact no e d1
 have J:∀{b:dr} {o:Obj},s₁.heap.get? b=some o->(upd G dD (.xI #[])) b=none->(MC s₁.heap _).get? b=some o:=fun e n=>Te e n
 have M:∀{b:dr} {m:gp},s₁.heap.Ns b m->(MC s₁.heap _).Ns b m:=fun {b m} ⟨o,es,ep,e,d,r⟩=>⟨o,es,ep,J e (noH e (fun vs n z=>by rw[d] at z;contradiction) (fun vs z=>by rw[d] at z;cases z)),d,r⟩
 have nK:∀b o,K.lookup b=some o->(upd G dD (.xI #[])) b=none:=fun b o e=>by
  cases q:(upd G dD _) b with
  |none=>rfl
  |some u=>
   rw[hK b u q] at e;contradiction
 have hKb:=fun b o e=>J (KX b o e) (nK b o e)
 have hM:Mod K mg _:=⟨hKb,M hns,⟨mb,M hb,hbb⟩,let⟨mc,h1,h2⟩:=hlim;⟨mc,M h1,h2⟩⟩
 have hB:(MC s₁.heap (upd G dD (.xI #[]))).BuiltinsAt mg dD:=by
  obtain⟨bm,o,b1,b2,b3,b4,b5,b6,b7,b8⟩:=hbl;exact⟨bm,o,b1,b2,b3,b4,J b5 (noH b5 (fun vs n z=>by rw[b8] at z;cases z) (fun vs z=>by rw[b8] at z;cases z)),b6,b7,b8⟩
 have e0:NB P w K mg _ callerA [] s₁ _:=⟨rfl,hM,fun b o e=>Wj e,ac7 (Qg _ _),trivial,fun b hb=>absurd (show b∈([]:mu) from hb) (by simp),cK,.of_eq hg⟩
 have hl:vals.length=ps.length:=by rw[o5 U];exact hlen
 refine adV ((F _ hKb (M hns) hB).run callerA [] s₁ _ _ vals _ _ _ hr e0 (Y s₁ vals hl) hV (hsp G _ hO hGt hS)) fun r s' x=> ?_
 cases r with
 |error e=>exact(hCX _ e s' x).elim
 |ok fl=>
  cases fl with
  |next=>exact False.elim x
  |brk=>exact False.elim x
  |cont=>exact False.elim x
  |ret u=>
   obtain⟨v,H',os,bare,un,L,r',q⟩:=x;have kept:=fun b o nb e=>by
    cases q2:G b with
    |none=>exact un.keep b o e (by rw[ax nb];exact q2) (by intro z;exact absurd (show b∈([]:mu) from z) (by simp)) (by simp)
    |some u2=>
     rcases hO b with z|⟨ob,u3,z⟩
     .rw[q2] at z;contradiction
     .have z1:(upd G dD (.xI #[])) b=some (.G_ ob u3):=by rw[ax nb];exact z
      have z2:=un.GZ b ob _ z1;obtain⟨e1,_⟩:=cK b _ z1;obtain⟨Z,_⟩:=L b _ z2;rw[e] at e1;cases e1;exact Z
   obtain⟨more,tm⟩:=un.IF dD #[] ah;have tm2:=L dD _ tm;have KX':=fun b o e=>kept b o (fun z=>by rw[z,hTK] at e;contradiction) (KX b o e)
   obtain⟨as,hrd⟩:=Dw.reads L KX' d0 v u q r';refine⟨u,as,rfl,hrd,⟨fun b o e=> ?_,fun b o e=> ?_⟩,os,bare⟩
   .by_cases z:b=dD
    .rw[z,hT] at e;cases e;rw[z];exact .inr (.inl ⟨hcd,rfl,#[],more,rfl,tm2⟩)
    .exact .inl (kept b o z e)
   .by_cases z:b=dD
    .rw[z];exact⟨_,tm2⟩
    .exact⟨o,kept b o z e⟩
def Q5 {K:Params->b0}{sp:b0->Sp}
  (L:r.wellSaid=true) (hdf:d.params.defaults=[]) (Z:r.args.length=ps.length) (hr:fM k callerA)
  (hY:∀(w:fx) (h:Heap),YP w h->(K w.params).In h)
  (hTK:∀P:Params,(K P).lookup dD=none)
  (hTab:∀(w:fx) (h:Heap) (M:ExcName->Option ee) (mg mb:gp),Top q (PySem.W.looseW q loose) M mg mb h->(K w.params).In h->CodeHd h c dD/\h.get? dD=some (tabObj #[]))
  (F:∀(w:fx) (mg:gp) (fa:dr) (h:Heap),(K w.params).In h->h.Ns mainGlobals mg->mg d.name=some (.ref fa)->
   ∃fd:c5,(∀(s:cq) (us:kA),us.length=ps.length->BindsTo s fd ⟨us,[]⟩ (ps.zip us))/\
    ∀base:Heap,(K w.params).In base->base.Ns mainGlobals mg->base.BuiltinsAt mg dD->fA r.prog w (K w.params) mg base sQ k fa fd ps (sp (K w.params)))
  (hsp:∀(K:b0) (G:Hp) (xs:List V) (a:Codec.denoteAll r.args),Lc G->G dD=none->Codec.withinAll r.args a=true->Codec.app r.args r.asked a=true->uC K G xs (Codec.encAll r.args a)->
   sp K xs (upd G dD (.xI #[])) (fun v H'=>Dw K H' v (r.ret.enc (Codec.app r.args r.f a))) fun _ _ _=>False):
  PySem.W.WalkOS q loose XP YP r d [] (fun f vs=>PySem.call f vs):=by
 intro w Dj J mg mb G Y fa o pm cd doc dV kV ho hd hcd hD hmg hg _ _ as U hlay hrd hwl hlo;obtain⟨a,e1,e2⟩:=PySem.W.os_pre_some U;obtain⟨e3,O⟩:=Codec.encAll_of_decAll _ _ a e1;subst e3;have KX:=hY w _ Y;obtain⟨fd,hb,hF⟩:=F w mg fa _ KX G.T.g hmg;obtain⟨hh,ht⟩:=hTab w _ _ mg mb G.T KX;have hct:isCodeTable J.heap dD:=by
  obtain⟨o,vs,_,_,_,_,_,_,_,h1,h2,h3,h4,_⟩:=hh;exact⟨_,o,vs,h1,h2,h3,h4⟩
 have hbl:J.heap.BuiltinsAt mg dD:=by
  obtain⟨bm,ob,b1,b2,b3,b4,b5,b6⟩:=G.T.bmain;refine⟨bm,ob,b1,b2,fun z=> ?_,fun z=> ?_,b3,b4,b5,b6⟩
  .obtain⟨o,es,ep,e,dd,_⟩:=G.T.g
   lia
  .grind
 refine PySem.W.enter_call (adV (Us (R:=[]) (cl:=classAt Dj.heap) KX G.T.g G.T.b G.T.builtins G.T.nolimit hg ht (hTK _) hct hbl hwl (EI _ _) (BD hlay) hr hF hb (by rw[B4];exact Z)
  (fun H xs hO hGt hS=>hsp _ H xs a hO hGt O e2 hS) fun H e s' z=>z) fun r' s' hq=> ?_)
 obtain⟨u,as',rfl,h1,h2,h3,h4⟩:=hq;exact⟨.inl (xi3 u _ as' ⟨rfl,fun _=>rfl,h1,(OpenSpec.post_iff L O _ _).mpr rfl,fun z=>Bool.noConfusion (z)⟩),h2,h3,h4⟩
end My
namespace Cw
open PySem PySem.Spec PyProof.Rows L2 My
section
variable {P:dn}{w:fx}{K:b0}{mg:gp}{base:Heap}{t:jC}
abbrev kO:Stmt:=top 61
def Dh:dN ["room","wide"] ["room","wide"] (aO kO):=by walk_at"s"
def BE:Scope:=match e_ kO with
 |[.Return (some (.Call _ _ (⟨_,.Lambda _ _ sc _,_⟩::_) _)) _]=>sc
 |_=>{kind:=.function,names:=[],isGenerator:=false,isCoroutine:=false}
def Wv:∀y,(y,NameKind.free)∈BE.names->(aO kO).names.lookup y=some .cell:=by
 have h:∀p∈BE.names,p.2=NameKind.free->(aO kO).names.lookup p.1=some .cell:=by decide+kernel
 grind
def ZY:∀y∈(["room","wide"]:ky),BE.names.lookup y=some .free:=by decide+kernel
def DK (F:yW K "best_first" "best_first" kO f fd)(T:Txt K mg t)(L:UK K mg base fd.code)(dA:aL P w K mg base t 3 eO)(d9:aL P w K mg base t 2 eC)(ku:aL P w K mg base t 2 ib):fA P w K mg base sQ 5 f fd ["room","wide"] (jG K t):=by
 refine Sl F L Dh rfl fun cdv A' outer s H E L U=>⟨_,(ae (aj (V9 (te:=LK (bO (tUn (rU fun i=>.int (-i)) (s_ (eC.sp K t) [] E0 (bO (cc 0) (bO (cc 2) (bO (cc 1) fV))))) (bO (s_ (ib.sp K t) [] E0 (bO (cc 0) (bO (cc 2) (bO (cc 1) fV)))) (bO (cc 2) fV)))) rfl rfl T.Fh (aG (bJ dA U (aY aN bz))) U.units U.depth L rfl rfl rfl rfl ?cl rfl rfl rfl (by decide+kernel) rfl (fun _ _ _ _ _=>rfl) ?fr ?ou ?un (fun env s H L c q clos he=> ?bd)))), ?_⟩
 case cl=>
  refine fun y M hz=>Cq ?_
  revert y
  decide+kernel
 case fr=>exact fun y M _=>ZY y M
 case ou=>
  refine fun y M=>Wv y M
 case un=>exact fun y M=>adS M
 case bd=>
  subst he;exact oJ (cD (wQ rB (bJ d9 (U.in1.deeper _) (cD aN bP bz))) (bJ ku (U.in1.deeper _) (cD aN bP bz)) bP)
 rintro G vs ⟨room,wide,u⟩ hs ⟨lR,r0,rfl,dS,z0,r1,rfl,Y,rfl⟩ hp;dsimp only at dS Y hp;obtain⟨Z,p2⟩:=hp;refine RS.eq (aB (VN (xs:=eS room wide) (key:=fun x=>(-(gN room x wide),k_ room x wide,x)) (bp (ak (bX (aR dS) (aR Y)) ⟨Z,p2⟩)) fun x hx G1 H1 e1=> ?_)) rfl;have hx2:=ip (acx.mp hx).1;have O:1<=x/\x<=60:=by grind
 have J:af G1 (.int x) x:=rfl;refine Yg (fY (xQ (ak (fY (by walk_at"re") (aR J) (ab rfl Y e1.gg)) ⟨Z,O,p2⟩)) (ak (fY (ab rfl dS e1.gg) (aR J) (ab rfl Y e1.gg)) ⟨Z,O,p2⟩) (aR J))
end
end Cw
end
namespace Cw
open PySem PySem.Spec PyProof.Rows L2 My
open PySem.W (Frag nsIn findIn codeIn keepIn codeHdIn)
local macro_rules|`(tactic|walk_at"hb")=>`(tactic|first|exact fun _ _ _ _ _ _=>hb1 fun _=>rfl|exact fun _ _ _ _ _ _=>hb2 fun _ _=>rfl|exact fun _ _ _ _ _ _=>hb3 fun _ _ _=>rfl|exact fun _ _ _ _ _ _=>hb4 fun _ _ _ _=>rfl|exact fun _ _ _ _ _ _=>hb5 fun _ _ _ _ _=>rfl)
noncomputable section
def Yl (K:Frag)(f:dr):Obj:=(K.lookup f).getD default
def qQ (K:Frag)(f:dr):c5:=match(Yl K f).data with
 | .func fd=>fd
 |_=>default
abbrev nR (K:Frag)(x:Str)(a:dr):=nsIn K mainGlobals x=some (some (.ref a))
abbrev nN (K:Frag)(x:Str):=nsIn K mainGlobals x=some none
abbrev fN (K:Frag)(a:dr)(x:Str):=findIn K (.ref a) x=some none
structure rj (K:Frag)(x qual:Str)(st:Stmt)(f:dr):Prop where
 l:K.lookup f=some ⟨(Yl K f).cls,(Yl K f).dict,.func (PySem.W.fnOf x qual (nZ st) (e_ st) (aO st) .none (qQ K f).kwdefaults (qQ K f).doc (qQ K f).pyModule (qQ K f).annotations (qQ K f).code (qQ K f).closureTuple),(Yl K f).slots⟩
 c:codeIn K (qQ K f).code qual=true
 k:keepIn K (.ref f)=true
def rj.fn {K:Frag}{st:Stmt}(D:rj K x qual st f):yW K x qual st f (PySem.W.fnOf x qual (nZ st) (e_ st) (aO st) .none (qQ K f).kwdefaults (qQ K f).doc (qQ K f).pyModule (qQ K f).annotations (qQ K f).code (qQ K f).closureTuple):=aae D.l D.c D.k
structure DA (K:Frag)(d:Df)(f:dr):Prop extends rj K d.nm d.nm (top d.i) f where
 a:nR K d.nm f
def isI (o:Option (Option ee))(n:Int):Bool:=match o with
 |some (some (.int i _))=>decide (i=n)
 |_=>false
abbrev nI (K:Frag)(x:Str)(n:Int):=isI (nsIn K mainGlobals x) n=true
def int_mk {K:Frag}(X:K.In h)(G:h.Ns mainGlobals mg)(e:isI (nsIn K mainGlobals x) n=true):∃k,mg x=some (Value.int n k):=by
 delta isI at e;split at e
 .rename_i i t q;have:=aea e
  subst this;exact⟨t,adQ X G q⟩
 .cases e
def NS (K:Frag)(a:dr):kA:=match(Yl K a).data with
 | .seq its _=>its.toList
 |_=>[]
def seqN (K:Frag)(a:dr):Nat:=match(Yl K a).data with
 | .seq _ n=>n
 |_=>0
def Od:kA->hA->Bool
 |[],[]=>true
 | .int i _::r,n::ns=>decide (i=n)&&Od r ns
 |_,_=>false
def Ob:∀{vs:kA} {ns:hA},Od vs ns=true->Vals (ns.map V.int) vs
 |[],[],_=>.nil
 | .int i t::r,n::ns,h=>by
  unfold Od at h;rw[aaO] at h;have:=aea h.1
  subst this;exact .cons ⟨t,rfl⟩ (Ob h.2)
def NV:kA->mu->Bool
 |[],[]=>true
 | .ref a::r,n::ns=>(a==n)&&NV r ns
 |_,_=>false
def NU:∀{vs:kA} {ns:mu},NV vs ns=true->Vals (ns.map V.ref) vs
 |[],[],_=>.nil
 | .ref a::r,n::ns,h=>by
  unfold NV at h;rw[aaO] at h;have:a=n:=by lia
  subst this;exact .cons rfl (NU h.2)
structure Nt (K:Frag)(a:dr)(ns:hA):Prop where
 l:K.lookup a=some {cls:=.type "tuple",data:=.seq (NS K a).toArray (seqN K a)}
 v:Od (NS K a) ns=true
structure TupR (K:Frag)(a:dr)(ns:mu):Prop where
 l:K.lookup a=some {cls:=.type "tuple",data:=.seq (NS K a).toArray (seqN K a)}
 v:NV (NS K a) ns=true
def Nt.tup {K:Frag}(h:Nt K a ns)(J:ns.length<=1000):Es K a (ns.map V.int):=⟨_,_,h.l,Ob h.v,by rw[aca];exact adb J (by decide)⟩
def TupR.tup {K:Frag}(h:TupR K a ns)(J:ns.length<=1000):Es K a (ns.map V.ref):=⟨_,_,h.l,NU h.v,by rw[aca];exact adb J (by decide)⟩
def yR:∀ns:hA,Paired (af G) (ns.map V.int) ns
 |[]=>.nil
 |_::ns=>.cons rfl (yR ns)
def TV (K:Frag)(a:dr):List DictEntry:=match(Yl K a).data with
 | .dict es _=>es.toList
 |_=>[]
def entsN (K:Frag)(a:dr):Nat:=match(Yl K a).data with
 | .dict _ n=>n
 |_=>0
def W4:List DictEntry->List (Int×dr)->Bool
 |[],[]=>true
 |e::r,p::ps=>decide (e.hash=hashInt p.1)&&(match e.key with| .int i _=>decide (i=p.1)|_=>false)&&(match e.val with| .ref f=>(f==p.2)|_=>false)&&W4 r ps
 |_,_=>false
def TX:∀{es:List DictEntry} {ps:List (Int×dr)},W4 es ps=true->tabs es ps
 |[],[],_=>.nil
 |e::r,p::ps,h=>by
  unfold W4 at h;simp only[aaO] at h;obtain⟨⟨⟨h1,h2⟩,J⟩,L⟩:=h;refine .cons ⟨aea h1, ?_, ?_⟩ (TX L)
  .split at h2
   .rename_i i t q;have:=aea h2
    subst this;exact⟨t,q⟩
   .cases h2
  .split at J
   .rename_i f q;have:f=p.2:=by simp_all
    subst this;exact q
   .cases J
structure TabAt (K:Frag)(a:dr)(fs:List (Int×dr)):Prop where
 s:(a==sysModules)=false
 l:K.lookup a=some {cls:=.type "dict",data:=.dict (TV K a).toArray (entsN K a)}
 v:W4 (TV K a) fs=true
def TabAt.kd {K:Frag}(h:TabAt K a fs)(nd:(fs.map (·.1)).Nodup):KD K a fs:=⟨h.s,nd,_,_,h.l,TX h.v⟩
section
variable {P:dn}{w:fx}{K:Frag}{mg:gp}{base h:Heap}
structure Bd (P:dn)(w:fx)(K:Frag)(mg:gp)(base h:Heap):Prop where
 X:K.In h
 G:h.Ns mainGlobals mg
def mc (E:Bd P w K mg base h)(D:DA K d f)(o:∀{fd},bh K d f fd->dO P w K mg base t k f fd d)(L:∀(kV doc M:ee) (O:Option dr) (J ct:ee) (us:kA),us.length=d.ps.length->bindArgs (PySem.W.fnOf d.nm d.nm (nZ (top d.i)) (e_ (top d.i)) (aO (top d.i)) .none kV doc M O J ct) ⟨us,[]⟩=pure (d.ps.zip us):=by walk_at"hb"):Ll P w K mg base k f d.ps (d.sp K t)/\aL P w K mg base t k d:=⟨⟨_,o D.fn,D.k,D.fn.binds L⟩,f,_,o D.fn,adQ E.X E.G D.a,D.k,D.fn.binds L⟩
def ug {st:Stmt}(X:K.In h)(G:h.Ns mainGlobals mg)(a:nsIn K mainGlobals x=some (some (.ref C)))(M:Mk K C f)(D:rj K "__init__" qual st f)(o:∀fd,yW K "__init__" qual st f fd->fA P w K mg base sQ k f fd ps sp)(O:∀(kV doc L:ee) (U:Option dr) (J ct:ee) (us:kA),us.length=ps.length->bindArgs (PySem.W.fnOf "__init__" qual (nZ st) (e_ st) (aO st) .none kV doc L U J ct) ⟨us,[]⟩=pure (ps.zip us):=by walk_at"hb"):yY P w K mg base k x C ps sp:=⟨f,_,M,o _ D.fn,adQ X G a,D.fn.binds O⟩
end
section
variable {P:dn}{w:fx}{K:b0}{mg:gp}{base:Heap}{t:jC}
def upd_self (h:H a=some o):upd H a o=H:=by
 funext b
 delta upd;split
 .next e=>rw[e,h]
 .rfl
def ini_len {E:XK}(h:eE C ns vs H Q E):vs.length=ns.length+1:=by
 obtain⟨_,_,_,rfl,l,_⟩:=h;rw[ab8,l]
def fst1 (c:uD K C)(n:bY K C f)(k:D.nx σ (upd H p (.ins C dx (fs++[(f,v)]))))(a:σ[0]?=some (some (.ref p)):=by rfl)(b:σ[i]?=some (some v):=by rfl)(l:fs.length < 1000:=by simp)(m:(fs.map (·.1)).contains f=false:=by kernel_rfl):FX K (cc 0) (cc i) f D σ (upd H p (.ins C dx fs)):=
 ⟨v,b,.ref p,a,p,C,dx,fs,rfl,ah,c,n,l,by rw[NK,Ji _ rfl m];exact k⟩
abbrev RR:Stmt:=inClass (top 4) 0
def Ze:dN ["self","members","shares","whole"] ["self","members","shares","whole"] (aO RR):=by walk_at"s"
def ZR (F:yW K "__init__" "Mix.__init__" RR f fd)(T:Txt K mg t):fA P w K mg base sQ 1 f fd ["self","members","shares","whole"] (eE t.Em ["members","shares","whole"]):=F.ok Ze (fun _ _ _ _ h=>ini_len h) fun _ _ _ _ _ _ _ _ _ ⟨_,_,us,e,l,h,k⟩=>by
 subst e
 obtain⟨_,_,_,rfl⟩:=hx3 l;exact⟨_,(aa (c9 K aN bz) (aa (c9 K aN bP) (ae (c9 K aN dJ)))),by rw[<- upd_self h];exact fst1 T.yo T.vp (fst1 T.yo T.xa (fst1 T.yo T.yJ k))⟩
abbrev FW:Stmt:=inClass (top 36) 0
def RQ:dN ["self","length","place"] ["self","length","place"] (aO FW):=by walk_at"s"
def SG (F:yW K "__init__" "Strip.__init__" FW f fd)(T:Txt K mg t):fA P w K mg base sQ 1 f fd ["self","length","place"] (eE t.sC ["length","place"]):=F.ok RQ (fun _ _ _ _ h=>ini_len h) fun _ _ _ _ _ _ _ _ _ ⟨_,_,us,e,l,h,k⟩=>by
 subst e
 obtain⟨_,_,rfl⟩:=hx2 l;exact⟨_,(aa (c9 K aN bz) (ae (c9 K aN bP))),by rw[<- upd_self h];exact fst1 T.xu T.tU (fst1 T.xu T.vj k)⟩
abbrev RU:Stmt:=inClass (top 45) 0
def Zf:dN ["self","parts","price"] ["self","parts","price"] (aO RU):=by walk_at"s"
def ZS (F:yW K "__init__" "Dye.__init__" RU f fd)(T:Txt K mg t):fA P w K mg base sQ 1 f fd ["self","parts","price"] (eE t.yr ["parts","price"]):=F.ok Zf (fun _ _ _ _ h=>ini_len h) fun _ _ _ _ _ _ _ _ _ ⟨_,_,us,e,l,h,k⟩=>by
 subst e
 obtain⟨_,_,rfl⟩:=hx2 l;exact⟨_,(aa (c9 K aN bz) (ae (c9 K aN bP))),by rw[<- upd_self h];exact fst1 T.HJ T.yL (fst1 T.HJ T.yK k)⟩
abbrev LV:Stmt:=inClass (top 46) 0
def VF:dN ["self","colour","grams"] ["self","colour","grams"] (aO LV):=by walk_at"s"
def Wg (F:yW K "__init__" "Tint.__init__" LV f fd)(T:Txt K mg t):fA P w K mg base sQ 1 f fd ["self","colour","grams"] (eE t.uu ["colour","grams"]):=F.ok VF (fun _ _ _ _ h=>ini_len h) fun _ _ _ _ _ _ _ _ _ ⟨_,_,us,e,l,h,k⟩=>by
 subst e
 obtain⟨_,_,rfl⟩:=hx2 l;exact⟨_,(aa (c9 K aN bz) (ae (c9 K aN bP))),by rw[<- upd_self h];exact fst1 T.zM T.vi (fst1 T.zM T.w4 k)⟩
abbrev LW:Stmt:=inClass (top 47) 0
def VG:dN ["self","across","along","doors","sides"] ["self","across","along","doors","sides"] (aO LW):=by walk_at"s"
def Wh (F:yW K "__init__" "Room.__init__" LW f fd)(T:Txt K mg t):fA P w K mg base sQ 1 f fd ["self","across","along","doors","sides"] (eE t.cRoom ["across","along","doors","sides"]):=F.ok VG (fun _ _ _ _ h=>ini_len h) fun _ _ _ _ _ _ _ _ _ ⟨_,_,us,e,l,h,k⟩=>by
 subst e
 obtain⟨_,_,_,_,rfl⟩:=hx4 l;exact⟨_,(aa (c9 K aN bz) (aa (c9 K aN bP) (aa (c9 K aN dJ) (ae (c9 K aN lO))))),by rw[<- upd_self h];exact fst1 T.pV T.vk (fst1 T.pV T.w_ (fst1 T.pV T.w9 (fst1 T.pV T.w8 k)))⟩
abbrev LX:Stmt:=inClass (top 48) 0
def VH:dN ["self","length","begins"] ["self","length","begins"] (aO LX):=by walk_at"s"
def Wi (F:yW K "__init__" "Roll.__init__" LX f fd)(T:Txt K mg t):fA P w K mg base sQ 1 f fd ["self","length","begins"] (eE t.uv ["length","begins"]):=F.ok VH (fun _ _ _ _ h=>ini_len h) fun _ _ _ _ _ _ _ _ _ ⟨_,_,us,e,l,h,k⟩=>by
 subst e
 obtain⟨_,_,rfl⟩:=hx2 l;exact⟨_,(aa (c9 K aN bz) (ae (c9 K aN bP))),by rw[<- upd_self h];exact fst1 T.zN T.vm (fst1 T.zN T.vo k)⟩
end
structure Facts (K:Frag):Prop where
 Qy:DA K jb 47
 Xb:DA K m_ 54
 Cb:DA K iu 61
 Ks:DA K lB 68
 Kr:DA K lA 75
 Ec:DA K i9 82
 W_:DA K ue 89
 HA:DA K jN 96
 Ud:DA K qU 103
 Xa:DA K qS 108
 M6:DA K hJ 115
 Hv:DA K gz 120
 M5:DA K kn 127
 Ua:DA K qT 132
 KG:DA K lI 137
 HB:DA K jO 144
 T7:DA K gS 151
 Kz:DA K jw 158
 Uc:DA K l6 165
 QA:DA K ic 172
 Hx:DA K fq 179
 Qz:DA K jd 186
 Qx:DA K eN 193
 Qw:DA K ja 221
 Hz:DA K jM 228
 MY:DA K km 235
 Kx:DA K jv 242
 HC:DA K fu 249
 zv:DA K gX 254
 HE:DA K jQ 259
 Ue:DA K qV 378
 M4:DA K ni 383
 T9:DA K ow 390
 Ca:DA K fR 395
 M0:DA K g_ 402
 M1:DA K nc 409
 Ci:DA K eO 414
 Ea:DA K eC 421
 Kv:DA K ib 428
 n8:DA K ⟨"best_first",61,[],jG⟩ 435
 Ee:DA K gU 440
 HG:DA K cp 447
 Hu:DA K iC 454
 Cj:DA K iy 461
 T_:DA K l0 468
 xt:DA K dU 473
 Hi:DA K gy 480
 Ub:DA K ox 487
 Ky:DA K eZ 494
 KC:DA K d8 499
 QB:DA K rZ 506
 Hy:DA K mL 513
 Kt:DA K nX 520
 M7:DA K pO 527
 Ef:DA K lD 534
 Ku:DA K nY 541
 Hq:DA K mI 548
 Hr:DA K mJ 553
 Hm:DA K mF 560
 D9:DA K lu 565
 Kn:DA K nW 570
 Cd:DA K j0 575
 xr:DA K ia 582
 Ei:DA K lG 589
 Cf:DA K j9 596
 Hw:DA K gA 602
 HD:DA K jP 609
 Kw:DA K ju 614
 Ej:DA K i_ 619
 KA:DA K lH 624
 MW:DA K m9 629
 Kh:DA K lj 636
 zt:DA K gT 643
 Qu:DA K lZ 648
 zu:DA K gW 655
 MV:DA K pL 662
 Kl:DA K nU 669
 Ho:DA K mH 674
 Ht:DA K mK 681
 Ko:DA K lx 688
 Hl:DA K mE 695
 Km:DA K nV 702
 Kk:DA K h_ 709
 Hj:DA K mC 716
 Ce:DA K j8 723
 Cc:DA K jZ 730
 Xd:DA K xq 738
 MX:DA K pM 745
 MZ:DA K pN 752
 Ed:DA K lC 757
 M_:DA K pR 764
 Eh:DA K lF 771
 Hk:DA K mD 776
 HF:DA K jR 805
 Xc:DA K uf 812
 Kq:DA K lz 819
 M3:DA K nh 826
 Eb:DA K i8 834
 M9:DA K pQ 841
 Eg:DA K lE 848
 Na:DA K nk 855
 M8:DA K pP 862
 Ki:DA K lp 869
 yl:DA K f_ 876
 Kj:DA K nT 883
 Hs:DA K jL 890
 D_:DA K ly 897
 Hn:DA K mG 904
 D7:DA K lq 909
 D8:DA K lr 916
 Cg:DA K j_ 923
 Ek:DA K jc 931
 ym:DA K gc 938
 E8:DA K gB 945
 a_Mix:nR K "Mix" 36
 cl_Mix:uD K 36
 ZU:Mk K 36 33
 aaz:rj K "__init__" "Mix.__init__" RR 33
 XH:nR K "Strip" 210
 Up:uD K 210
 SN:Mk K 210 207
 T4:rj K "__init__" "Strip.__init__" FW 207
 a_Dye:nR K "Dye" 276
 cl_Dye:uD K 276
 ZV:Mk K 276 273
 aaA:rj K "__init__" "Dye.__init__" RU 273
 a_Tint:nR K "Tint" 297
 Xm:uD K 297
 Wq:Mk K 297 294
 W7:rj K "__init__" "Tint.__init__" LV 294
 a_Room:nR K "Room" 318
 Xn:uD K 318
 Wr:Mk K 318 315
 W8:rj K "__init__" "Room.__init__" LW 315
 a_Roll:nR K "Roll" 339
 Xo:uD K 339
 Ws:Mk K 339 336
 W9:rj K "__init__" "Roll.__init__" LX 336
 XI:nR K "State" 367
 KQ:uD K 367
 SO:Mk K 367 357
 T5:rj K "__init__" "State.__init__" FV 357
 QM:nR K "History" 794
 Nd:uD K 794
 Mo:Mk K 794 791
 MU:rj K "__init__" "History.__init__" Al 791
 SR:Meth K 367 "start" 364
 Kg:rj K "start" "State.start" FU 364
 UE:nN K "all"
 hU:nN K "enumerate"
 UD:nN K "len"
 oY:nN K "list"
 Fh:nN K "max"
 CF:nN K "min"
 ig:nN K "range"
 xy:nN K "sorted"
 Fg:nN K "sum"
 n9:nN K "tuple"
 K4:nN K "zip"
 zo:nI K "MOST_IN_A_MIX" 3
 Br:fN K 36 "members"
 DV:fN K 36 "shares"
 GG:fN K 36 "whole"
 JX:nI K "NONE_SUCH" (-2)
 MA:nI K "NO_ROLLS" (-6)
 DY:nI K "NOT_AS_TOLD" (-22)
 Z4:nI K "FULL" (-28)
 Tb:nI K "CANNOT" (-33)
 JW:nI K "NOT_BEGUN" (-61)
 zl:fN K 210 "length"
 Bj:fN K 210 "place"
 GI:fN K 276 "parts"
 GH:fN K 276 "price"
 Bi:fN K 297 "colour"
 DO:fN K 297 "grams"
 Bo:fN K 318 "across"
 DU:fN K 318 "along"
 DT:fN K 318 "doors"
 DS:fN K 318 "sides"
 Bp:fN K 339 "length"
 Bq:fN K 339 "begins"
 Bn:fN K 367 "begun"
 zm:fN K 367 "repeat"
 DR:fN K 367 "drop"
 DP:fN K 367 "wide"
 DQ:fN K 367 "dyes"
 Bk:fN K 367 "tints"
 Bl:fN K 367 "rooms"
 Bm:fN K 367 "rolls"
 DZ:nI K "MOST_STRIPS" 6
 JZ:nI K "MOST_DYES" 5
 GO:nI K "MOST_TINTS" 4
 tY:nI K "MOST_OF_A_DYE_PART" 50
 qP:nI K "MOST_OF_A_COLOUR_PART" 1000
 GR:nI K "MOST_PRICE" 1000
 GU:nI K "MOST_GRAMS" 1000
 D4:nI K "MOST_REPEAT" 60
 JY:nI K "MOST_WIDE" 60
 GQ:nI K "MOST_ROLLS" 3
 yc:nI K "MOST_OF_A_ROLL" 10000
 BQ:nI K "MOST_CHANGES" 10
 Bs:fN K 794 "now"
 vL:fN K 794 "earlier"
 xY:fN K 794 "later"
 Wz:nI K "ORDER" 32
 GP:nI K "MOST_ROOMS" 3
 yb:nI K "MOST_OF_A_ROOM" 200
 GV:nI K "MOST_DOORS" 5
 WA:nI K "BEGIN" 0
 Z5:nI K "BACK" 44
 WB:nI K "AGAIN" 45
 a_DARK:nR K "DARK" 15
 XJ:nR K "PARTS" 19
 CI:nR K "GIVEN_COUNTS" 827
 Y6:Nt K 15 [0,0,0]
 z_:Nt K 827 [3,4,1,2,4,1,2,2,1,3,3,1,0,1,1,1,2,1,3,3,3,3,0,0,0,1,1,1,3,1,0,0,0,1,0,0,0,0,0,4,1,1,1,1,0,0,0]
 Vv:TupR K 19 [16,17,18]
 t_P0:Nt K 16 [1,0,0]
 t_P1:Nt K 17 [0,1,0]
 t_P2:Nt K 18 [0,0,1]
 CJ:nR K "CARPET_CALLS" 777
 BI:TabAt K 777 [(0,738),(13,745),(14,752),(15,757),(16,764),(17,771),(46,776)]
 K9:nR K "DYE_CALLS" 597
 JS:TabAt K 597 [(1,506),(2,513),(3,520),(4,527),(5,534),(6,541),(18,548),(19,553),(20,560),(21,565),(22,570),(23,575),(24,582),(42,589),(43,596)]
 HY:nR K "ROOM_CALLS" 924
 GK:TabAt K 924 [(7,841),(8,848),(9,855),(10,862),(11,869),(12,883),(25,890),(26,897),(27,904),(28,909),(29,916),(34,876),(41,923)]
 K_:nR K "ALL_CALLS" 731
 JT:TabAt K 731 [(30,662),(31,669),(32,674),(33,681),(35,688),(36,695),(37,702),(38,716),(39,723),(40,730)]
 Xq:(qQ K 435).code=.ref 434
 Xp:codeHdIn K 434 430=true
def t0:jC:=⟨15,19,36,210,276,297,318,339,367,794,827⟩
def Y3 {K:Frag}(Z:Facts K)(X:K.In h)(G:h.Ns mainGlobals mg):Txt K mg t0:=by
 refine⟨adP X G Z.UE,adP X G Z.hU,adP X G Z.UD,adP X G Z.oY,adP X G Z.Fh,adP X G Z.CF,adP X G Z.ig,adP X G Z.xy,adP X G Z.Fg,adP X G Z.n9,adP X G Z.K4,adQ X G Z.a_DARK,fun G=>⟨_,rfl,(Z.Y6.tup (by decide)).sq⟩,adQ X G Z.XJ,⟨_,Z.Vv.tup (by decide),fun G=>.cons ⟨_,rfl,(Z.t_P0.tup (by decide)).sq⟩ (.cons ⟨_,rfl,(Z.t_P1.tup (by decide)).sq⟩ (.cons ⟨_,rfl,(Z.t_P2.tup (by decide)).sq⟩ .nil))⟩,int_mk X G Z.zo,Z.cl_Mix,Z.Br,Z.DV,Z.GG,int_mk X G Z.JX,int_mk X G Z.MA,int_mk X G Z.DY,int_mk X G Z.Z4,int_mk X G Z.Tb,int_mk X G Z.JW,Z.Up,Z.zl,Z.Bj,Z.cl_Dye,Z.GI,Z.GH,Z.Xm,Z.Bi,Z.DO,Z.Xn,Z.Bo,Z.DU,Z.DT,Z.DS,Z.Xo,Z.Bp,Z.Bq,Z.KQ,Z.Bn,Z.zm,Z.DR,Z.DP,Z.DQ,Z.Bk,Z.Bl,Z.Bm,int_mk X G Z.DZ,int_mk X G Z.JZ,int_mk X G Z.GO,int_mk X G Z.tY,int_mk X G Z.qP,int_mk X G Z.GR,int_mk X G Z.GU,int_mk X G Z.D4,int_mk X G Z.JY,int_mk X G Z.GQ,int_mk X G Z.yc,int_mk X G Z.BQ,Z.Nd,Z.Bs,Z.vL,Z.xY,int_mk X G Z.Wz,adQ X G Z.CI,⟨_,Z.z_.tup (by decide),fun G=>yR _⟩,int_mk X G Z.GP,int_mk X G Z.yb,int_mk X G Z.GV,int_mk X G Z.WA,int_mk X G Z.Z5,int_mk X G Z.WB⟩
def mayc_nil {K:Frag}{Q:dr->Sp->Prop}:∀f sp,CL K t [] f sp->Q f sp:=by rintro _ _ ⟨_,h,_⟩;contradiction
def mayc_cons {K:Frag}{Q:dr->Sp->Prop}(h:Q a (Nu K t (F7 n) (dg n)))(r:∀f sp,CL K t fs f sp->Q f sp):∀f sp,CL K t ((n,a)::fs) f sp->Q f sp:=by
 rintro f sp ⟨m,e,rfl⟩;rw[acj] at e;split at e
 .next q=>
  have:m=n:=by lia
  subst this;cases e;exact h
 .exact r f _ ⟨m,e,rfl⟩
def all_mk {P:dn}{w:fx}{K:Frag}{h:Heap}{mg:gp}{fa:dr}(Z:Facts K)(X:K.In h)(G:h.Ns mainGlobals mg)(hfa:mg "answers"=some (.ref fa)):
  ∃fd:c5,(∀(s:cq) (us:kA),us.length=(["calls"]:ky).length->BindsTo s fd ⟨us,[]⟩ ((["calls"]:ky).zip us))/\ ∀base:Heap,K.In base->base.Ns mainGlobals mg->base.BuiltinsAt mg dD->fA P w K mg base sQ 13 fa fd ["calls"] (gB.sp K t0):=by
 have e:=hfa.symm.trans (adQ X G Z.E8.a);cases e;have T:=Y3 Z X G;refine⟨PySem.W.fnOf "answers" "answers" (nZ (top gB.i)) (e_ (top gB.i)) (aO (top gB.i)) .none (qQ K 945).kwdefaults (qQ K 945).doc (qQ K 945).pyModule (qQ K 945).annotations (qQ K 945).code (qQ K 945).closureTuple,fun s=>hb1 fun _=>.of_eq rfl,fun base _ _ hBl=> ?_⟩;generalize q:PySem.W.fnOf _ _ _ _ _ _ _ _ _ _ _ _=z;have E:Bd P w K mg base h:=⟨X,G⟩
 obtain⟨US,qw⟩:=mc E Z.Eb (AU · T);obtain⟨Vh,sx⟩:=mc E Z.HF (DL · T);obtain⟨YR,su⟩:=mc E Z.M4 (Jy · T);obtain⟨y_go_on,HP⟩:=mc E Z.Xc (SE · T su);obtain⟨y_within,cG⟩:=mc E Z.T7 (PH · T);have J:CMt P w K mg base 1 t0.cj "start" ["self","repeat","drop","wide"] (xD t0):=⟨_,_,Z.KQ,Z.SR,Sx Z.Kg.fn T,Z.Kg.fn.binds (fun _ _ _ _ _ _=>hb4 fun _ _ _ _=>rfl)⟩
 obtain⟨Vi,sy⟩:=mc E Z.Xd (SF · T cG J);obtain⟨Ln,c_set_wide⟩:=mc E Z.MX (Js · T cG);obtain⟨Lo,c_set_drop⟩:=mc E Z.MZ (Ju · T);have m_Roll:yY P w K mg base 1 "Roll" t0.uv ["self","length","begins"] (eE t0.uv ["length","begins"]):=ug X G Z.a_Roll Z.Ws Z.W9 (fun fd F=>Wi F T);obtain⟨X3,kC⟩:=mc E Z.Kz (GA · T);obtain⟨C3,U2⟩:=mc E Z.Ed (AW · T m_Roll kC);obtain⟨y_add_one,dX⟩:=mc E Z.QA (Mh · T);obtain⟨Ls,gD⟩:=mc E Z.M_ (JE · T m_Roll dX cG);obtain⟨Va,c7⟩:=mc E Z.Hx (DC · T);obtain⟨C6,U5⟩:=mc E Z.Eh (A_ · T c7);obtain⟨Fn,Xs⟩:=mc E Z.Hk (Dm · T);have m_Dye:yY P w K mg base 1 "Dye" t0.yr ["self","parts","price"] (eE t0.yr ["parts","price"]):=ug X G Z.a_Dye Z.ZV Z.aaA (fun fd F=>ZS F T);obtain⟨y_is_dye,q_⟩:=mc E Z.Ub (PN · T);obtain⟨OT,gZ⟩:=mc E Z.QB (Mi · T m_Dye dX q_);obtain⟨Fx,XA⟩:=mc E Z.Hy (DD · T c7);obtain⟨Im,YF⟩:=mc E Z.Kt (Gu · T m_Dye);have m_Tint:yY P w K mg base 1 "Tint" t0.uu ["self","colour","grams"] (eE t0.uu ["colour","grams"]):=ug X G Z.a_Tint Z.Wq Z.W7 (fun fd F=>Wg F T);obtain⟨X2,cH⟩:=mc E Z.Ky (Gz · T);obtain⟨Lp,fE⟩:=mc E Z.M7 (JB · T m_Tint dX cG cH);obtain⟨C4,U3⟩:=mc E Z.Ef (AY · T c7);obtain⟨Io,YG⟩:=mc E Z.Ku (Gv · T m_Tint cG);have m_Mix:yY P w K mg base 1 "Mix" t0.Em ["self","members","shares","whole"] (eE t0.Em ["members","shares","whole"]):=ug X G Z.a_Mix Z.ZU Z.aaz (fun fd F=>ZR F T);obtain⟨Vc,si⟩:=mc E Z.HA (DF · T);obtain⟨y_groups,Cs⟩:=mc E Z.Ud (PU · T si);obtain⟨y_looks,fg⟩:=mc E Z.Xb (SA · T);obtain⟨y_between,cX⟩:=mc E Z.Qy (Me · T);obtain⟨UT,qA⟩:=mc E Z.Ec (AV · T fg cX);obtain⟨XX,uo⟩:=mc E Z.Kr (Gr · T fg cX);obtain⟨XY,uq⟩:=mc E Z.Ks (Gs · T cX);obtain⟨y_share,HN⟩:=mc E Z.W_ (Sy · T qA uo uq);obtain⟨y_mixes,u6⟩:=mc E Z.Xa (Sz · T m_Mix Cs HN);obtain⟨YT,dW⟩:=mc E Z.M6 (JA · T u6);obtain⟨X5,bW⟩:=mc E Z.KC (GC · T);obtain⟨Ft,Xx⟩:=mc E Z.Hq (Dt · T dW bW cH);obtain⟨y_lowest,jS⟩:=mc E Z.T_ (PL · T);obtain⟨U9,d_⟩:=mc E Z.Hv (Dz · T);obtain⟨YS,ma⟩:=mc E Z.M5 (Jz · T u6 d_);obtain⟨Fu,Xy⟩:=mc E Z.Hr (Du · T jS d_ ma bW cH);obtain⟨y_lights,Cr⟩:=mc E Z.Ua (PM · T cX);obtain⟨X6,pZ⟩:=mc E Z.KG (GD · T fg);obtain⟨QZ,lJ⟩:=mc E Z.Cb (y_ · T);obtain⟨Vd,sj⟩:=mc E Z.HB (DG · T Cr pZ lJ);obtain⟨Fp,Xu⟩:=mc E Z.Hm (Dq · T fg sj bW cH);obtain⟨y_counted,bU⟩:=mc E Z.Qx (Md · T);obtain⟨y_all_but,jz⟩:=mc E Z.Qz (Mg · T);obtain⟨C0,U0⟩:=mc E Z.D9 (AQ · T bU dW jz bW cH);obtain⟨Ik,YE⟩:=mc E Z.Kn (Gn · T bU dW jz bW);obtain⟨zR,Uu⟩:=mc E Z.Cd (zb · T bU dW bW);obtain⟨NG,eJ⟩:=mc E Z.xt (vK · T jS d_ ma);obtain⟨wg,OD⟩:=mc E Z.xr (vJ · T eJ);obtain⟨C7,U6⟩:=mc E Z.Ei (Ba · T);obtain⟨zT,Uw⟩:=mc E Z.Cf (zd · T);have M:yY P w K mg base 1 "Room" t0.cRoom ["self","across","along","doors","sides"] (eE t0.cRoom ["across","along","doors","sides"]):=ug X G Z.a_Room Z.Wr Z.W8 (fun fd F=>Wh F T);obtain⟨Lr,gC⟩:=mc E Z.M9 (JD · T M dX cG);obtain⟨C5,U4⟩:=mc E Z.Eg (AZ · T c7);obtain⟨Lu,vZ⟩:=mc E Z.Na (JF · T M dX);obtain⟨y_turned,qZ⟩:=mc E Z.T9 (PJ · T M);obtain⟨Ig,pY⟩:=mc E Z.Ki (Gh · T qZ);obtain⟨Lq,c_add_side⟩:=mc E Z.M8 (JC · T pY vZ);obtain⟨y_in_set,lK⟩:=mc E Z.Uc (PQ · T);obtain⟨QY,gY⟩:=mc E Z.Ca (y9 · T lK qZ);obtain⟨y_cut_end,fT⟩:=mc E Z.Qw (Mc · T);obtain⟨YM,l9⟩:=mc E Z.MY (Jt · T lK fT);obtain⟨X1,kz⟩:=mc E Z.Kx (Gy · T l9);obtain⟨Ve,c8⟩:=mc E Z.HC (DH · T kz);have m_Strip:yY P w K mg base 1 "Strip" t0.sC ["self","length","place"] (eE t0.sC ["length","place"]):=ug X G Z.XH Z.SN Z.T4 (fun fd F=>SG F T);obtain⟨YN,eQ⟩:=mc E Z.M0 (Jv · T);obtain⟨UR,d9⟩:=mc E Z.Ea (AS · T eQ);obtain⟨YO,vV⟩:=mc E Z.M1 (Jw · T eQ);obtain⟨Q0,dA⟩:=mc E Z.Ci (zf · T vV);obtain⟨XZ,ku⟩:=mc E Z.Kv (Gw · T eQ);have jy:Cal P w K mg base 5 "best_first" ["room","wide"] (jG K t0):=⟨_,_,DK Z.n8.fn T ⟨⟨434,Z.Xq,fun h X=>PySem.W.codeHd_of_K X Z.Xp⟩,hBl⟩ dA d9 ku,adQ X G Z.n8.a,Z.n8.k,Z.n8.fn.binds (fun _ _ _ _ _ _=>hb2 fun _ _=>rfl)⟩
 obtain⟨UU,iD⟩:=mc E Z.Ee (AX · T m_Strip d9 jy);obtain⟨Vj,aT⟩:=mc E Z.HG (DM · T iD);obtain⟨Q1,oW⟩:=mc E Z.Cj (zg · T c8 aT gY);obtain⟨xJ,l8⟩:=mc E Z.yl (wU · T oW);obtain⟨Ih,eD⟩:=mc E Z.Kj (Gi · T gY l8);obtain⟨Fv,sf⟩:=mc E Z.Hs (Dv · T ku d9 jy);obtain⟨C1,U1⟩:=mc E Z.D_ (AR · T bU dA);obtain⟨Fq,Xv⟩:=mc E Z.Hn (Dr · T bU eQ sf);obtain⟨CY,UY⟩:=mc E Z.D7 (AN · T bU dA cG);obtain⟨U8,jx⟩:=mc E Z.Hu (Dy · T);obtain⟨CZ,UZ⟩:=mc E Z.D8 (AO · T jx iD);obtain⟨zU,Ux⟩:=mc E Z.Cg (ze · T);obtain⟨Lm,c_tell_all⟩:=mc E Z.MV (Jq · T jx aT);obtain⟨QS,nH⟩:=mc E Z.zv (xX · T kz fT);obtain⟨Vg,sv⟩:=mc E Z.HE (DJ · T fT nH);obtain⟨Ii,YC⟩:=mc E Z.Kl (Gk · T c8 sv aT);obtain⟨Vb,sg⟩:=mc E Z.Hz (DE · T fT);obtain⟨Fs,Xw⟩:=mc E Z.Ho (Ds · T sg aT);obtain⟨Fw,Xz⟩:=mc E Z.Ht (Dx · T c8 aT kC);obtain⟨Vf,sk⟩:=mc E Z.HD (DI · T);obtain⟨X0,kx⟩:=mc E Z.Kw (Gx · T sk);obtain⟨UW,qB⟩:=mc E Z.Ej (Bb · T);obtain⟨U_,ff⟩:=mc E Z.Hw (DB · T l9);obtain⟨X4,ur⟩:=mc E Z.KA (GB · T kx qB ff);obtain⟨Il,uj⟩:=mc E Z.Ko (Gp · T bU ur aT);obtain⟨YL,vU⟩:=mc E Z.MW (Jr · T kx ff);obtain⟨Fo,Xt⟩:=mc E Z.Hl (Dn · T bU vU aT uj);obtain⟨y_size_of,oy⟩:=mc E Z.Qu (Mb · T lK);obtain⟨XT,ui⟩:=mc E Z.Kh (Gg · T);obtain⟨QQ,nE⟩:=mc E Z.zt (xV · T ui ff);obtain⟨QR,nF⟩:=mc E Z.zu (xW · T nE oy);obtain⟨Ij,YD⟩:=mc E Z.Km (Gm · T oy nF aT);obtain⟨XU,gf⟩:=mc E Z.Kk (Gj · T);obtain⟨U7,fc⟩:=mc E Z.Hi (Dk · T jS c8 eJ aT);obtain⟨Fm,Xr⟩:=mc E Z.Hj (Dl · T gf fc);obtain⟨zS,Uv⟩:=mc E Z.Ce (zc · T m_Dye gf fc q_);obtain⟨zQ,Ut⟩:=mc E Z.Cc (za · T gf fc jz);have L:∀f sp,CL K t0 [(0,738),(13,745),(14,752),(15,757),(16,764),(17,771),(46,776)] f sp->Ll P w K mg base 10 f ["state","given"] sp:=mayc_cons (nL Vi) (mayc_cons (nL Ln) (mayc_cons (nL Lo) (mayc_cons (Yx C3) (mayc_cons (nL Ls) (mayc_cons (nL C6) (mayc_cons (gR Fn (fun _ _ _=>trivial)) mayc_nil))))));have Y:∀f sp,CL K t0 [(1,506),(2,513),(3,520),(4,527),(5,534),(6,541),(18,548),(19,553),(20,560),(21,565),(22,570),(23,575),(24,582),(42,589),(43,596)] f sp->Ll P w K mg base 10 f ["state","given"] sp:=mayc_cons (nL OT) (mayc_cons (nL Fx) (mayc_cons (nL Im) (mayc_cons (nL Lp) (mayc_cons (nL C4) (mayc_cons (nL Io) (mayc_cons (gR Ft) (mayc_cons (gR Fu) (mayc_cons (gR Fp) (mayc_cons (gR C0) (mayc_cons (gR Ik) (mayc_cons (gR zR) (mayc_cons (gR wg) (mayc_cons (gR C7) (mayc_cons (gR zT) mayc_nil))))))))))))));have O:∀f sp,CL K t0 [(7,841),(8,848),(9,855),(10,862),(11,869),(12,883),(25,890),(26,897),(27,904),(28,909),(29,916),(34,876),(41,923)] f sp->Ll P w K mg base 10 f ["state","given"] sp:=mayc_cons (nL Lr) (mayc_cons (nL C5) (mayc_cons (nL Lu) (mayc_cons (nL Lq) (mayc_cons (nL Ig (fun _ _ h=>⟨h.1,0,h.2.2 (by decide)⟩)) (mayc_cons (Yx Ih) (mayc_cons (gR Fv) (mayc_cons (gR C1) (mayc_cons (gR Fq) (mayc_cons (gR CY) (mayc_cons (gR CZ) (mayc_cons (gR xJ (fun _ _ h=>h.1)) (mayc_cons (gR zU) mayc_nil))))))))))));have hALL_CALLS:∀f sp,CL K t0 [(30,662),(31,669),(32,674),(33,681),(35,688),(36,695),(37,702),(38,716),(39,723),(40,730)] f sp->Ll P w K mg base 10 f ["state","given"] sp:=mayc_cons (gR Lm) (mayc_cons (gR Ii) (mayc_cons (gR Fs (fun _ _ h=>⟨h.1,adb (h.2.1 rfl).1 (by decide),fun y hy=>((h.2.1 rfl).2 y hy).1⟩)) (mayc_cons (gR Fw) (mayc_cons (gR Il) (mayc_cons (gR Fo) (mayc_cons (gR Ij) (mayc_cons (gR Fm) (mayc_cons (gR zS) (mayc_cons (gR zQ) mayc_nil)))))))));obtain⟨_,qC⟩:=mc E Z.Ek (Bc · T (Z.BI.kd (by decide)) (adQ X G Z.CJ) L rfl (Z.JS.kd (by decide)) (adQ X G Z.K9) Y rfl (Z.GK.kd (by decide)) (adQ X G Z.HY) O rfl (Z.JT.kd (by decide)) (adQ X G Z.K_) hALL_CALLS rfl);have U:yY P w K mg base 2 "State" t0.cj ["self"] (xE t0):=ug X G Z.XI Z.SO Z.T5 (fun fd F=>SD F T J);obtain⟨y_copied,Ct⟩:=mc E Z.Ue (PV · T U J);obtain⟨YQ,vX⟩:=mc E Z.M3 (Jx · T);obtain⟨XW,um⟩:=mc E Z.Kq (Gq · T);obtain⟨OS,md⟩:=mc E Z.ym (wV · T sx HP qC Ct vX um);have m_History:yY P w K mg base 4 "History" t0.gj ["self"] (HZ K t0):=ug X G Z.QM Z.Mo Z.MU (fun fd F=>PR F T U);subst q;exact Mf Z.E8.fn T qw md m_History
def ask_mk {K:Frag}(Z:Lc G)(J:G dD=none)(M:∃a,v=.ref a/\dh K G a (ns.map V.int))(U:ns.length<=1200)(h:PyKh353.answers_asked ns=true):gB.sp K t0 [v] (upd G dD (.xI #[])) (fun v H'=>Dw K H' v (.list ((PyKh353.answers ns).map PySem.W.WData.int))) fun _ _ _=>False:=by
 obtain⟨O,Y⟩:=QI h U;refine⟨rfl,G,(ns,()),⟨bB J,J,#[],ah,.inl rfl⟩,⟨v,[],rfl,M,rfl⟩,O,fun u G' H' e r=> ?_⟩;obtain⟨p,vs,rfl,L,pr⟩:=r;have pr:Paired (af G') vs (lW ns):=pr;have:=paired_ints pr
 subst this;rw[Y] at L;exact .lst (dh.of (e.gh _ _ L)) (Ot _)
end
end Cw
open PySem PySem.W PyProof.Rows
set_option maxRecDepth 100000 in
set_option maxHeartbeats 0 in
theorem PySem.Challenge.cw_carpetworks_s01_answers_holds : PySem.Challenge.rw_carpetworks_s01_answers.Holds := by
 refine hd0.2 fun _=> ?_
 delta hd0
 with_reducible conv=>whnf
 refine My.Q5 (r:=PySem.Challenge.rw_carpetworks_s01_answers) (k:=13) (ps:=["calls"]) (sp:=fun K=>Cw.gB.sp K Cw.t0) (c:=434) (by decide+kernel) rfl rfl ⟨rfl,by decide,by decide⟩ (fun w h Y=>PySem.W.kIn_of Y) ?TK ?TB ?F ?S
 case TK=>
  intro P
  kernel_rfl
 case TB=>
  intro w h mean mg mb T X;exact PySem.W.tab_of (x:="best_first") T X rfl (by kernel_rfl)
 case F=>
  intro w mg fa h X G hmg;exact Cw.all_mk (K:=_) ((by constructor<;>first|kernel_rfl|(constructor<;>first|kernel_rfl|(constructor<;>kernel_rfl))):Cw.Facts _) X G hmg
 case S=>
  intro K G xs a hG hGt hwi hask hx;cases hx with
  |cons h1 h2=>
   cases h2;cases h1 with
   |lst hs ha=>
    have e:=L2.Oc a.1 _ ha;subst e;have q:((PySem.W.Codec.inLen 0 1200 a.1&&a.1.all (PySem.W.Codec.inInt 0 4294967295))&&true)=true:=hwi;rw[aaO,aaO] at q;exact Cw.ask_mk hG hGt ⟨_,rfl,hs⟩ (PySem.W.Codec.inNat_iff.mp q.1.1).2 hask
