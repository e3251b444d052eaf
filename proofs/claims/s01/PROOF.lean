import PyProof.Rows.All
import Wide.All
import OpenK.AllK
import Wide.FinOn
import PyProof.EqAt
import PyProof.EqKinds
import PyProof.TupleCall
import KE.BitLaws
import Open.SpecLaws
import KE.OsHead
import KE.OsGo
import KE.IntBitsLaws
import KE.KMinBuiltin
import PyProof.MaxThree
import PyProof.Rows.SetFrom
import KE.LcSums
import PySem.Challenge.RW_oncecodes_s01_answers
set_option Elab.async false
set_option linter.all false
set_option maxRecDepth 100000
set_option maxHeartbeats 0
local macro_rules|`(def $n:declId $s:optDeclSig $v:declVal)=>`(noncomputable def $n:declId $s:optDeclSig $v:declVal)
local macro_rules|`(abbrev $n:declId $s:optDeclSig $v:declVal)=>`(noncomputable abbrev $n:declId $s:optDeclSig $v:declVal)
def qqU {P:Prop} (_:P):Prop:=True
theorem qqE {P:Prop} {h:P}:qqU h:=trivial
theorem qqD {P:Prop} {h:P} (_:qqU h):P:=h
local macro_rules|`($m:declModifiers theorem $n:declId $s:declSig := by $t:tacticSeq)=>`($m:declModifiers theorem $n:declId $s:declSig := @qqD _ _ (by exact qqE:qqU (by $t)))
namespace Oc
open PySem PySem.W
abbrev qqp:=PySem.Challenge.rw_oncecodes_s01_answers.prog
theorem qq1:sreFenced qqp.main=true:=by decide +kernel
theorem qq2:((moduleNames qqp.main.body).isEmpty || lookedIntoSs (moduleNames qqp.main.body) qqp.main.body)=true:=by decide +kernel
theorem qq3:namesResolve qqp=true:=by decide +kernel
theorem qq4:qqp.boundNames.all (fun n=>!worldNames.contains n)=true:=by decide +kernel
theorem qq5:noRoadLSs { strict:=!(importedModules qqp.main.body).all cThrough.contains,foot:=none,bare:=(["vars","dir","locals"]:List Str).filter (readsOut qqp qqp.main.body) } qqp.main.body=true:=by decide +kernel
theorem qq6:(namesMeet qqp qqp.main.body fun _ n=>attrL n)=true:=by decide +kernel
theorem qq7:looksOpen PySem.Challenge.rw_oncecodes_s01_answers.prog=true:=by
 unfold looksOpen
 rw [qq1,qq2,qq3,qq4,qq5,qq6]
 rfl
theorem wsaid:PySem.Challenge.rw_oncecodes_s01_answers.wellSaid=true:=by
 unfold OpenSpec.wellSaid
 rw [qq7]
 decide +kernel
end Oc
local macro_rules|`(#where)=>do
 let mut c:=#[]
 for (s,l) in [("tree",[940,889,873,824,799,770,693,538,616,428,358,334,332,330,328,326,324,322,320,318,316,265,193,107,86,8]),("heap",[941,1,7]),("sts",[359,429,694,620,10,108,874,890,335,194,825,87,319,325,321,333,323,331,329,317,327,266,771,802]),("env",[2]),("view",[1]),("o",List.range 942)] do
  for k in l do
   c:=c.push (←`(def $(Lean.mkIdent (.mkStr `PySem.W.Fast s!"tw{(Lean.Name.mkStr `hdS s!"{s}_{k}").hash}")) := 0)).raw
 return Lean.mkNullNode c
#where
def PySem.W.Fast.tw17643553607248731496:=0
theorem qqV {W:Prop} (_:W) (h:PySem.Challenge.rw_oncecodes_s01_answers.Holds):PySem.Challenge.rw_oncecodes_s01_answers.Holds:=h
open PySem PySem.W in
theorem hdS:True:=
 (by clear hdS;simp only [(qqV ?qqw (by
  have k1:=Oc.wsaid
  w_on
  k_headS
  (case hw=>exact ⟨[.list [.int 12,.int 0]],by decide +kernel,by decide +kernel⟩)
  exact ?qqw))])
local macro_rules|`(#version)=>do
 let mut c:=#[]
 let i s k:=Lean.mkIdent (.mkSimple s!"{s}{k}")
 let x:=i "p" 0
 for k in [0:12] do
  let l:=(Array.range k).map (i "a")
  let p←if k=0 then `($x) else `($x $l*)
  let e←l.foldrM (fun a b=>`(∃ $a:ident,$b)) p
  let f←l.foldrM (fun a b=>`(∀ $a:ident,$b)) (←`($p→q))
  let t←(Array.range k).foldrM (fun a b=>`($(i "t" a)→$b)) (←`(Prop))
  let u←if k=0 then `(g h) else `(h.elim fun a h=>$(i "qe" (k-1)) h (g a))
  let v←if k=0 then `(h) else `(⟨$(i "a" 0),$(i "qi" (k-1)) $(l.extract 1 k)* h⟩)
  let l:=(Array.range (k+1)).map (i "a")
  let d←l.pop.foldrM (fun a b=>`($a∧$b)) (i "a" k)
  let j←l.foldrM (fun a b=>`($a→$b)) (←`(q))
  let w←if k=0 then `(g h) else `($(i "qa" k) h.2 (g h.1))
  c:=c.append #[←`(theorem $(i "qe" k) {$x:ident : $t} {q : Prop} (h : $e) (g : $f) : q := $u),←`(theorem $(i "qi" k) {$x:ident : $t} $[($(l.pop):ident)]* (h : $p) : $e := $v),←`(theorem $(i "qa" (k+1)) {q : Prop} (h : $d) (g : $j) : q := $w)]
 return Lean.mkNullNode (c.map (·.raw))
#version
local macro_rules|`(tactic|rcases $e:term with ⟨$[$p:rcasesPatLo],*⟩)=>do
 let i s k:=Lean.mkIdent (.mkSimple s!"{s}{k}")
 let n:=p.size
 let mut t←`(tactic|rcases $e:term with (⟨$[$p:rcasesPatLo],*⟩))
 if n<3 then return t
 let b:=e.raw.isIdent
 let z←if b then pure e else `(z)
 for k in [0:min n 12] do
  if n-k>12 then continue
  t←`(tactic|first|(refine $(i "qe" k) $z ?_;(try clear $z);rintro $[($(p.extract 0 k):rcasesPatLo)]* z;refine $(i "qa" (n-k)) z ?_;clear z;rintro $[($(p.extract k n):rcasesPatLo)]*)|$t:tactic)
 if b then pure t else `(tactic|(have z:=$e:term;$t:tactic))
local macro_rules|`(tactic|obtain ⟨$[$p:rcasesPatLo],*⟩:=$e:term)=>`(tactic|rcases $e:term with ⟨$[$p:rcasesPatLo],*⟩)
local macro_rules|`(tactic|rintro $[$p:rintroPat]*)=>do
 unless p.any (·.raw[0].isOfKind ``Lean.Parser.Tactic.rcasesPat.tuple) do Lean.Macro.throwUnsupported
 let t←p.mapM fun x=>if x.raw[0].isOfKind ``Lean.Parser.Tactic.rcasesPat.tuple then `(tactic|(intro z;obtain $(⟨x.raw[0]⟩):rcasesPat:=z)) else `(tactic|rintro $x:rintroPat)
 `(tactic|($[$t:tactic];*))
local macro_rules|`(tactic|refine ⟨$[$t:term],*⟩)=>do
 let mut d←`(tactic|refine (⟨$[$t:term],*⟩))
 for k in [2:min 12 t.size] do
  let u:=t.extract k t.size
  let r←if u.size=1 then pure u[0]! else `(⟨$[$u:term],*⟩)
  d←`(tactic|first|refine $(Lean.mkIdent (.mkSimple s!"qi{k}")) $(t.extract 0 k)* $r|$d:tactic)
 return d
local macro_rules|`(tactic|exact ⟨$[$t:term],*⟩)=>`(tactic|(refine ⟨$[$t:term],*⟩;done))
open PySem.W renaming Frag→Oa,findIn→IA,keepIn→IY,codeIn→UO,nsIn→UP
open List renaming range→Ob,length_map→Od,getD_eq_getElem?_getD→Oe,getElem?_eq_getElem→Of,length_append→Og,replicate→Ou,mem_cons_of_mem→Ov,mem_cons_self→Ow,length_cons→Oz,getElem?_eq_some_iff→OB,size_toArray→OC,foldl_append→OI,mem_map→OK,length_range→OL,length_take→OM,mem_cons→ON,getElem?_map→OP,mem_range→OR,length_drop→OS,getElem?_append_left→OZ,drop_eq_nil_of_le→O2,mem_of_getElem?→O5,append_assoc→O7,map_map→O8,map_congr_left→Ia,getElem?_append_right→Ic,map_cons→Ie,foldl_cons→Ig,map_append→Ih,length_nil→Ii,length_replicate→Ij,take_of_length_le→Iu,all_eq_true→Iw,set→Iy,mem_append_right→Iz,mem_singleton→IB,getElem?_set_self→IC,drop_eq_getElem_cons→ID,set_set→IE,length_set→IF,mem_append→IG,getElem?_set_ne→IJ,mem_of_mem_take→IK,take_length→IL,foldl_nil→IQ,flatMap_cons→IS,getElem_range→IT,drop→Ua,take→Ub,getElem?_range→Ud,ext_getElem→Ui,getElem_map→Uj,length_singleton→Uk,append_nil→Um,eq_of_mem_replicate→Uo,find?_cons→Up,flatten_cons→Ut,replicate_succ→Uv,getElem_mem→Uw,lookup_cons→Ux,not_mem_nil→Uy,getElem?_eq_none→UA,take_append_drop→UB,mem_filter→UI,lookup→UL,mem_of_mem_drop→US,filterMap_cons→U0,flatMap_append→U1,nodup_cons→U3,mem_filterMap→U4,mem_replicate→U5,take_succ→Vd,range_succ_eq_map→Vj,map_take→Vl,flatMap_nil→Vm,mem_flatMap→Vn,length_filter_le→Vt,map_nil→Vx,mem_append_left→Vy,nil_append→Vz,drop_append_of_le_length→VD,eq_nil_of_length_eq_zero→VE,take_append_of_le_length→VF,takeWhile_cons→VG,drop_drop→VH,drop_zero→VI,forIn_nil→VJ,map→VL,all_cons→VT,map_drop→VU,take_add_one→VX,mem_of_find?_eq_some→VZ,mem_or_eq_of_mem_set→V0,mem_take_iff_getElem→V1,any_eq_true→V5,drop_append→V6,find?_range_eq_some→V7,getElem?_take_of_lt→V8,zipWith→V9,forIn_cons→Tg,of_mem_zip→Th,take_left'→Ti,zipWith_cons_cons→To,drop_take→Ts,zipWith_nil_left→Tt,set_comm→TB,map_eq_nil_iff→TH
open Sy23 renaming part→Oh,littleOf→Oi,Bytes→Ol,little→Om,Holder→Oy,House→OF,xor→OG,at_→OO,on→O6,does→O9,houseOf→Iq,only→II,code→IW,holderOf→IX,zeros→IZ,within→Ue,wrapped→Ug,ticketOf→Uh,bigOf→Us,FAILS→UE,TIME→UK,halves→UM,Ticket→UY,inside→UZ,Call→U9,HIGH→Va,Ans→Vq,big→Vs,loaded→VP,apart→V2,unround→Tc,SPAN→Tn,round→Tz,isCode→TN,pieces→TQ
open Bool renaming and_eq_true→Oj,false_ne_true→Oo,eq_iff_iff→OU,noConfusion→Il,false_eq_true→IH,and_eq_true_iff→UQ,true_and→UW,false_and→Vc,or_eq_true→Te
open Nat renaming le_refl→Oq,xor_lt_two_pow→OA,le_trans→OD,lt_of_lt_of_le→OE,zero_lt_succ→OJ,succ_lt_succ→OV,and_two_pow_sub_one_eq_mod→O1,mul_comm→O3,ne_of_lt→O4,zero_le→Ib,mod_lt→Ik,lt_irrefl→Im,lt_trans→Ip,pow_le_pow_right→Ir,mod_eq_of_lt→IM,xor_assoc→IP,add_comm→IU,lt_of_le_of_lt→IV,two_pow_add_eq_or_of_lt→Uc,pow_pos→Ul,div_le_self→Uq,pow_succ→Ur,lt_succ_of_lt→Uu,mod_two_eq_zero_or_one→UC,eq_of_testBit_eq→UD,zero_add→UG,add_sub_cancel_left→UH,min_eq_left→UJ,mul_le_mul_right→UT,ne_of_gt→U6,xor_self→U7,zero_mul→U8,mul_div_cancel_left→Ve,le_of_succ_le→Vf,or_lt_two_pow→Vg,testBit_lt_two_pow→Vk,div_eq_of_lt→Vo,lt_succ_self→Vp,le_of_eq→VA,le_of_lt→VB,testBit_xor→VC,add_mul→VN,pow_mul→VO,add_sub_cancel→VQ,add_mul_mod_self_right→VW,min_eq_right→Ta,mul_zero→Tb,not_lt_zero→Tj,div_div_eq_div_mul→Tp,mul_add→Tq,one_mul→Tr,le_of_ble_eq_true→Tu,testBit_or→Tv,add_assoc→TC,mul_assoc→TF,add_zero→TJ,xor_comm→TK
open Int renaming toNat_natCast→Ot,natCast_nonneg→O0,natCast_add→Uz,natCast_emod→UR,natCast_inj→Vu,natCast_mul→Vv,natCast_pos→Vw,fdiv_eq_ediv_of_nonneg→VS,ofNat_le→V3,ofNat_lt→V4,natCast_sub→Tf
open PySem renaming boot_len→Ox,mem_of_lookup→OY
open PySem.F renaming plainAttrs_list→OH,slot_list_extend→OW,type_list_extend→OX
open PyProof.Rows renaming callWith_type1→OQ
open Sy23Neutral renaming step→OT,S→Io,natural→U2,asked1→Vb,start→Vi,callOf→VR,told→Td,nats→TU,size→TV
open Sy23.Ticket renaming bytes→UN
open Option renaming getD_some→UU
open Sy23Neutral.callOf renaming match_1→UX
open Sy23.Holder renaming bytes→Vh,good→Vr,finds→VY,ok→Tw,findsTwo→Tx,wrong→TM
open Sy23.House renaming at_→VM,reads→TR
theorem qw1 {a b:Nat} (h:a < b:=by assumption):a<=b:=VB h
theorem qw2 {a b c:Nat} (h:a < b:=by assumption) (g:b<=c:=by assumption):a < c:=OE h g
theorem qw6 {a b:Nat} (h:¬ a < b:=by assumption):b<=a:=Nat.not_lt.mp h
theorem qw7 {a b:Nat} (h:¬ a<=b:=by assumption):b < a:=Nat.not_le.mp h
theorem qw14 {a b:Nat} (h:a < b:=by assumption):a + 1<=b:=Nat.succ_le_of_lt h
theorem qw15 {a b c:Nat} (h:a < b:=by assumption) (g:b<=c:=by decide):a < c:=OE h g
theorem ZbN {a b c:Nat} (h:a<=b:=by assumption) (g:b<=c:=by decide):a<=c:=OD h g
theorem ZbO {a b c:Nat} (h:a<=b:=by assumption) (g:b < c:=by decide):a < c:=IV h g
theorem qw34 {a b c:Nat} (h:a < b:=by assumption) (g:b=c:=by assumption):a < c:=Nat.lt_of_lt_of_eq h g
theorem qw37 {a b:Nat} (h:a < b:=by assumption):(a:Int) < (b:Int):=V4.mpr h
theorem qw40 {a b:Nat} (h:a<=b:=by assumption):a < b + 1:=Nat.lt_succ_of_le h
theorem qw41 {a b:Nat} (h:a<=b:=by assumption):a<=b + 1:=Nat.le_succ_of_le h
set_option hygiene false in
local macro_rules | `(tactic| walk_at "ln")=>`(tactic| (repeat (first | (obtain ⟨rfl,-⟩:=h; rfl) | (obtain ⟨_,h⟩:=h))))
set_option hygiene false in
local macro_rules | `(tactic| walk_at "rd1")=>`(tactic| first
 | ((with_reducible refine' rd_opVC ?ye ?_); (case ye=>rfl))
 | ((with_reducible refine' rd_opVV ?ye ?yf ?_); (case ye=>rfl); (case yf=>rfl))
 | ((with_reducible refine' rd_opV ?ye ?_); (case ye=>rfl))
 | with_reducible refine rd_opC ?_
 | with_reducible refine rd_opK ?_
 | with_reducible refine rd_op ?_
 | ((with_reducible refine' rd_var ?ye ?_); (case ye=>rfl))
 | with_reducible refine rd_c ?_
 | with_reducible refine rd_rY ?_
 | with_reducible refine rd_seq ?_
 | with_reducible refine rd_ret ?_
 | (with_reducible refine rd_asg ?_)
 | ((with_reducible refine rd_name ?_); dsimp only [Iy])
 | ((with_reducible refine' rd_aug ?ye ?_); (case ye=>rfl); dsimp only [Iy])
 | with_reducible refine rd_ifs ?_
 | with_reducible refine rd_test ?_
 | with_reducible refine rd_bl ?_
 | with_reducible refine rd_chain ?_
 | with_reducible refine rd_fld ?_
 | ((with_reducible refine' rd_fldAt ?yh ?yc ?yn ?yl ?_); (case yh=>assumption); (case yc=>assumption); (case yn=>assumption); (case yl=>rfl))
 | with_reducible refine rd_meth ?_
 | ((with_reducible refine' rd_methAt ?yh ?yl ?_); (case yh=>assumption); (case yl=>rfl))
 | with_reducible refine rd_make ?_
 | with_reducible refine rd_sfld ?_
 | with_reducible refine rd_sfldaug ?_
 | ((with_reducible refine' rd_sfldAt ?yh ?yc ?yn ?yl ?_); (case yh=>first | assumption | exact Zn); (case yc=>assumption); (case yn=>assumption); (case yl=>exact Tu rfl))
 | ((with_reducible refine' rd_sfaAt ?yh ?yc ?yn ?yl ?_); (case yh=>assumption); (case yc=>assumption); (case yn=>assumption); (case yl=>rfl))
 | ((with_reducible refine' rd_putAt ?yh ?yl ?_); (case yh=>assumption); (case yl=>exact Tu rfl))
 | with_reducible refine rd_andV ?_
 | with_reducible refine rd_ifE ?_
 | with_reducible refine rd_mmd ?_
 | with_reducible refine rd_isN ?_
 | with_reducible refine rd_notN ?_
 | with_reducible refine rd_iter ?_
 | with_reducible refine rd_enum ?_
 | with_reducible refine rd_zip ?_
 | ((with_reducible refine' rd_ixE ?ye ?_ ?_); (case ye=>first | assumption | exact SqE.same (by assumption) (by assumption)))
 | with_reducible refine rd_val ?_
 | with_reducible refine rd_not ?_
 | with_reducible refine rd_and ?_
 | with_reducible refine rd_or ?_
 | with_reducible refine rd_call ?_
 | with_reducible refine rd_cb ?_
 | ((with_reducible refine' rd_consV ?ye ?_); (case ye=>rfl))
 | with_reducible refine rd_consC ?_
 | with_reducible refine rd_cons ?_
 | with_reducible refine rd_nil ?_
 | with_reducible refine rd_next ?_
 | with_reducible refine rd_for ?_
 | with_reducible refine rd_lc ?_
 | with_reducible refine rd_rng1 ?_
 | with_reducible refine rd_rng2 ?_
 | with_reducible refine rd_rng3 ?_
 | with_reducible refine rd_un ?_
 | with_reducible refine rd_lr ?_
 | with_reducible refine rd_lr1 ?_
 | with_reducible refine rd_lr2 ?_
 | with_reducible refine rd_neg ?_
 | with_reducible refine rd_sl ?_
 | with_reducible refine rd_part ?_
 | with_reducible refine rd_pn ?_
 | with_reducible refine rd_nopart ?_
 | with_reducible refine rd_lst ?_
 | with_reducible refine rd_tup ?_
 | with_reducible refine rd_drop ?_
 | with_reducible refine rd_bm ?_
 | with_reducible refine rd_gsub ?_
 | ((with_reducible refine' rd_tab ?ye ?_ ?_); (case ye=>assumption))
 | ((with_reducible refine' rd_len ?ye ?_); (case ye=>first | assumption | exact SqL.of (by assumption) | exact ZA.seq (by assumption) (by assumption)))
 | ((with_reducible refine' rd_ixL ?ye ?_ ?_); (case ye=>first | assumption | exact SqL.of (by assumption) | exact ZA.seq (by assumption) (by assumption)))
 | with_reducible refine rd_i0 ?_
 | with_reducible refine rd_rI ?_ ?_
 | with_reducible refine rd_rN ?_ ?_
 | ((with_reducible refine' Zcv ?yh ?ye ?_); (case yh=>assumption); (case ye=>rfl)))
set_option hygiene false in
local macro_rules | `(tactic| nofun)=>`(tactic| repeat walk_at "rd1")
namespace Oc
def WG:List Nat:=[
82,9,106,213,48,54,165,56,191,64,163,158,129,243,215,251,
124,227,57,130,155,47,255,135,52,142,67,68,196,222,233,203,
84,123,148,50,166,194,35,61,238,76,149,11,66,250,195,78,
8,46,161,102,40,217,36,178,118,91,162,73,109,139,209,37,
114,248,246,100,134,104,152,22,212,164,92,204,93,101,182,146,
108,112,72,80,253,237,185,218,94,21,70,87,167,141,157,132,
144,216,171,0,140,188,211,10,247,228,88,5,184,179,69,6,
208,44,30,143,202,63,15,2,193,175,189,3,1,19,138,107,
58,145,17,65,79,103,220,234,151,242,207,206,240,180,230,115,
150,172,116,34,231,173,53,133,226,249,55,232,28,117,223,110,
71,241,26,113,29,41,197,137,111,183,98,14,170,24,190,27,
252,86,62,75,198,210,121,32,154,219,192,254,120,205,90,244,
31,221,168,51,136,7,199,49,177,18,16,89,39,128,236,95,
96,81,127,169,25,181,74,13,45,229,122,159,147,201,156,239,
160,224,59,77,174,42,245,176,200,235,187,60,131,83,153,97,
23,43,4,126,186,119,214,38,225,105,20,99,85,33,12,125]
def XD:List Nat:=[
1374988112,2118214995,437757123,975658646,1001089995,530400753,2902087851,1273168787,540080725,2910219766,2295101073,4110568485,1340463100,3307916247,641025152,3043140495,
3736164937,632953703,1172967064,1576976609,3274667266,2169303058,2370213795,1809054150,59727847,361929877,3211623147,2505202138,3569255213,1484005843,1239443753,2395588676,
1975683434,4102977912,2572697195,666464733,3202437046,4035489047,3374361702,2110667444,1675577880,3843699074,2538681184,1649639237,2976151520,3144396420,4269907996,4178062228,
1883793496,2403728665,2497604743,1383856311,2876494627,1917518562,3810496343,1716890410,3001755655,800440835,2261089178,3543599269,807962610,599762354,33778362,3977675356,
2328828971,2809771154,4077384432,1315562145,1708848333,101039829,3509871135,3299278474,875451293,2733856160,92987698,2767645557,193195065,1080094634,1584504582,3178106961,
1042385657,2531067453,3711829422,1306967366,2438237621,1908694277,67556463,1615861247,429456164,3602770327,2302690252,1742315127,2968011453,126454664,3877198648,2043211483,
2709260871,2084704233,4169408201,0,159417987,841739592,504459436,1817866830,4245618683,260388950,1034867998,908933415,168810852,1750902305,2606453969,607530554,
202008497,2472011535,3035535058,463180190,2160117071,1641816226,1517767529,470948374,3801332234,3231722213,1008918595,303765277,235474187,4069246893,766945465,337553864,
1475418501,2943682380,4003061179,2743034109,4144047775,1551037884,1147550661,1543208500,2336434550,3408119516,3069049960,3102011747,3610369226,1113818384,328671808,2227573024,
2236228733,3535486456,2935566865,3341394285,496906059,3702665459,226906860,2009195472,733156972,2842737049,294930682,1206477858,2835123396,2700099354,1451044056,573804783,
2269728455,3644379585,2362090238,2564033334,2801107407,2776292904,3669462566,1068351396,742039012,1350078989,1784663195,1417561698,4136440770,2430122216,775550814,2193862645,
2673705150,1775276924,1876241833,3475313331,3366754619,270040487,3902563182,3678124923,3441850377,1851332852,3969562369,2203032232,3868552805,2868897406,566021896,4011190502,
3135740889,1248802510,3936291284,699432150,832877231,708780849,3332740144,899835584,1951317047,4236429990,3767586992,866637845,4043610186,1106041591,2144161806,395441711,
1984812685,1139781709,3433712980,3835036895,2664543715,1282050075,3240894392,1181045119,2640243204,25965917,4203181171,4211818798,3009879386,2463879762,3910161971,1842759443,
2597806476,933301370,1509430414,3943906441,3467192302,3076639029,3776767469,2051518780,2631065433,1441952575,404016761,1942435775,1408749034,1610459739,3745345300,2017778566,
3400528769,3110650942,941896748,3265478751,371049330,3168937228,675039627,4279080257,967311729,135050206,3635733660,1683407248,2076935265,3576870512,1215061108,3501741890]
def Wv:List Nat:=XD.map fun x=>x / 256 + x % 256 * 16777216
def Ww:List Nat:=XD.map fun x=>x / 65536 + x % 65536 * 65536
def Wx:List Nat:=XD.map fun x=>x / 16777216 + x % 16777216 * 256
def BOX:List Nat:=[
99,124,119,123,242,107,111,197,48,1,103,43,254,215,171,118,
202,130,201,125,250,89,71,240,173,212,162,175,156,164,114,192,
183,253,147,38,54,63,247,204,52,165,229,241,113,216,49,21,
4,199,35,195,24,150,5,154,7,18,128,226,235,39,178,117,
9,131,44,26,27,110,90,160,82,59,214,179,41,227,47,132,
83,209,0,237,32,252,177,91,106,203,190,57,74,76,88,207,
208,239,170,251,67,77,51,133,69,249,2,127,80,60,159,168,
81,163,64,143,146,157,56,245,188,182,218,33,16,255,243,210,
205,12,19,236,95,151,68,23,196,167,126,61,100,93,25,115,
96,129,79,220,34,42,144,136,70,238,184,20,222,94,11,219,
224,50,58,10,73,6,36,92,194,211,172,98,145,149,228,121,
231,200,55,109,141,213,78,169,108,86,244,234,101,122,174,8,
186,120,37,46,28,166,180,198,232,221,116,31,75,189,139,138,
112,62,181,102,72,3,246,14,97,53,87,185,134,193,29,158,
225,248,152,17,105,217,142,148,155,30,135,233,206,85,40,223,
140,161,137,13,191,230,66,104,65,153,45,15,176,84,187,22]
def XZ:List Nat:=[
3328402341,4168907908,4000806809,4135287693,4294111757,3597364157,3731845041,2445657428,1613770832,33620227,3462883241,1445669757,3892248089,3050821474,1303096294,3967186586,
2412431941,528646813,2311702848,4202528135,4026202645,2992200171,2387036105,4226871307,1101901292,3017069671,1604494077,1169141738,597466303,1403299063,3832705686,2613100635,
1974974402,3791519004,1033081774,1277568618,1815492186,2118074177,4126668546,2211236943,1748251740,1369810420,3521504564,4193382664,3799085459,2883115123,1647391059,706024767,
134480908,2512897874,1176707941,2646852446,806885416,932615841,168101135,798661301,235341577,605164086,461406363,3756188221,3454790438,1311188841,2142417613,3933566367,
302582043,495158174,1479289972,874125870,907746093,3698224818,3025820398,1537253627,2756858614,1983593293,3084310113,2108928974,1378429307,3722699582,1580150641,327451799,
2790478837,3117535592,0,3253595436,1075847264,3825007647,2041688520,3059440621,3563743934,2378943302,1740553945,1916352843,2487896798,2555137236,2958579944,2244988746,
3151024235,3320835882,1336584933,3992714006,2252555205,2588757463,1714631509,293963156,2319795663,3925473552,67240454,4269768577,2689618160,2017213508,631218106,1269344483,
2723238387,1571005438,2151694528,93294474,1066570413,563977660,1882732616,4059428100,1673313503,2008463041,2950355573,1109467491,537923632,3858759450,4260623118,3218264685,
2177748300,403442708,638784309,3287084079,3193921505,899127202,2286175436,773265209,2479146071,1437050866,4236148354,2050833735,3362022572,3126681063,840505643,3866325909,
3227541664,427917720,2655997905,2749160575,1143087718,1412049534,999329963,193497219,2353415882,3354324521,1807268051,672404540,2816401017,3160301282,369822493,2916866934,
3688947771,1681011286,1949973070,336202270,2454276571,201721354,1210328172,3093060836,2680341085,3184776046,1135389935,3294782118,965841320,831886756,3554993207,4068047243,
3588745010,2345191491,1849112409,3664604599,26054028,2983581028,2622377682,1235855840,3630984372,2891339514,4092916743,3488279077,3395642799,4101667470,1202630377,268961816,
1874508501,4034427016,1243948399,1546530418,941366308,1470539505,1941222599,2546386513,3421038627,2715671932,3899946140,1042226977,2521517021,1639824860,227249030,260737669,
3765465232,2084453954,1907733956,3429263018,2420656344,100860677,4160157185,470683154,3261161891,1781871967,2924959737,1773779408,394692241,2579611992,974986535,664706745,
3655459128,3958962195,731420851,571543859,3530123707,2849626480,126783113,865375399,765172662,1008606754,361203602,3387549984,2278477385,2857719295,1344809080,2782912378,
59542671,1503764984,160008576,437062935,1707065306,3622233649,2218934982,3496503480,2185314755,697932208,1512910199,504303377,2075177163,2824099068,1841019862,739644986]
def WQ:List Nat:=XZ.map fun x=>x / 256 + x % 256 * 16777216
def WR:List Nat:=XZ.map fun x=>x / 65536 + x % 65536 * 65536
def WS:List Nat:=XZ.map fun x=>x / 16777216 + x % 16777216 * 256
end Oc
namespace Oc
open Sy23
theorem Jp:Bytes []:=fun _ h=>nomatch h
theorem Y1 {x:Nat} {b:B}:Bytes (x :: b)↔x < 256/\Bytes b:=by
 unfold Bytes; constructor
 ·intro h; exact ⟨h x (Ow ..),fun y hy=>h y (Ov _ hy)⟩
 ·intro ⟨h1,h2⟩ y hy
  rcases ON.mp hy with rfl | hy
  ·exact h1
  ·exact h2 y hy
theorem Z6 {a b:B}:Bytes (a ++ b)↔Bytes a/\Bytes b:=by
 unfold Bytes; constructor
 ·intro h; exact ⟨fun x hx=>h x (Vy _ hx),fun x hx=>h x (Iz _ hx)⟩
 ·intro ⟨h1,h2⟩ x hx
  rcases IG.mp hx with hx | hx
  ·exact h1 x hx
  ·exact h2 x hx
theorem XM {b:B} (h:Bytes b) (n:Nat):Bytes (b.drop n):=fun x hx=>h x (US hx)
theorem XN {b:B} (h:Bytes b) (n:Nat):Bytes (b.take n):=fun x hx=>h x (IK hx)
theorem WI {b:B} (h:Bytes b) (i n:Nat):Bytes (part b i n):=XN (XM h i) n
theorem QO (n:Nat):Bytes (zeros n):=fun x hx=>by
 rw [zeros,U5] at hx; simp [*]
theorem foldl_big (b:B):∀(n:Nat),b.foldl (fun (n x:Nat)=>256 * n + x) n=n * 256 ^ b.length + bigOf b:=by
 unfold bigOf
 induction b with
 | nil=>intro n; simp
 | cons x b ih=>
  intro n
  rw [Ig,Ig,ih,ih (256 * 0 + x),Oz,Ur,VN]
  have:256 * n * 256 ^ b.length=n * (256 ^ b.length * 256):=by rw [O3 256 n,TF,O3 256]
  rw [Tb,UG]
  lia
theorem Yr (a b:B):bigOf (a ++ b)=bigOf a * 256 ^ b.length + bigOf b:=by
 conv=>lhs; unfold bigOf
 rw [OI,foldl_big]
 rfl
theorem Zal (x:Nat) (b:B):bigOf (x :: b)=x * 256 ^ b.length + bigOf b:=by
 have:=Yr [x] b
 simpa [bigOf] using this
theorem Zdh (b:B) (x:Nat):bigOf (b ++ [x])=256 * bigOf b + x:=by
 rw [Yr]; simp [bigOf]; lia
theorem WH {b:B} (h:Bytes b):bigOf b < 256 ^ b.length:=by
 induction b with
 | nil=>simp [bigOf]
 | cons x b ih=>
  rw [Y1] at h
  rw [Zal,Oz,Ur]
  have:=ih h.2
  have h2:x * 256 ^ b.length + 256 ^ b.length=(x + 1) * 256 ^ b.length:=by rw [VN,Tr]
  have h3:(x + 1) * 256 ^ b.length<=256 * 256 ^ b.length:=UT _ (by lia)
  lia
theorem Yv (k n:Nat):(big k n).length=k:=by simp [big,little]
theorem bytes_little (k n:Nat):Bytes (little k n):=fun x hx=>by
 simp only [little,OK] at hx
 obtain ⟨i,_,rfl⟩:=hx
 exact Ik _ (by decide)
theorem WU (k n:Nat):Bytes (big k n):=fun x hx=>bytes_little k n x (List.mem_reverse.mp hx)
theorem little_succ (k n:Nat):little (k + 1) n=(n % 256) :: little k (n / 256):=by
 simp only [little,Vj,Ie,O8,Nat.pow_zero,Nat.div_one]
 congr 1
 apply Ia
 intro i _
 simp only [Function.comp]
 rw [Tp,Ur,O3 256]
theorem big_succ (k n:Nat):big (k + 1) n=big k (n / 256) ++ [n % 256]:=by
 simp [big,little_succ]
theorem QN (k n:Nat):bigOf (big k n)=n % 256 ^ k:=by
 induction k generalizing n with
 | zero=>simp [big,little,bigOf,Nat.mod_one]
 | succ k ih=>
  rw [big_succ,Zdh,ih,Ur,O3 (256 ^ k) 256,Nat.mod_mul]
  exact IU _ _
theorem Za9 {b:B} (h:Bytes b):big b.length (bigOf b)=b:=by
 suffices H:∀(k:Nat) (b:B),b.length=k->Bytes b->big k (bigOf b)=b from H _ b rfl h
 intro k
 induction k with
 | zero=>intro b hb _; cases b with
  | nil=>rfl
  | cons=>simp at hb
 | succ k ih=>
  intro b hb hB
  have hne:b≠[]:=by intro e; subst e; simp at hb
  obtain ⟨c,x,rfl⟩:∃c x,b=c ++ [x]:=⟨b.dropLast,b.getLast hne,(List.dropLast_concat_getLast hne).symm⟩
  rw [Z6,Y1] at hB
  rw [Zdh,big_succ]
  have hl:c.length=k:=by simpa using hb
  have e1:(256 * bigOf c + x) / 256=bigOf c:=by lia
  have e2:(256 * bigOf c + x) % 256=x:=by simp [*]
  rw [e1,e2,ih c hl hB.1]
theorem bigOf_inj {a b:B} (ha:Bytes a) (hb:Bytes b) (hl:a.length=b.length) (h:bigOf a=bigOf b):a=b:=by
 rw [<- Za9 ha,<- Za9 hb,hl,h]
theorem ZY {x y:Nat} (hx:x < 256) (hy:y < 256):x ^^^ y < 256:=OA (n:=8) hx hy
theorem ZbV {a b:B} (h:a.length=b.length):(xor a b).length=a.length:=by simp [OG,h]
theorem ZcO {a b:B} (ha:Bytes a) (hb:Bytes b):Bytes (xor a b):=by
 induction a generalizing b with
 | nil=>exact Jp
 | cons x a ih=>cases b with
  | nil=>exact Jp
  | cons y b=>
   rw [Y1] at ha hb
   show Bytes ((x ^^^ y) :: xor a b)
   rw [Y1]
   exact ⟨ZY ha.1 hb.1,ih ha.2 hb.2⟩
theorem Zcp {m a b c d:Nat} (k:Nat) (hm:m=2 ^ k) (hb:b < m) (hd:d < m):(a * m + b) ^^^ (c * m + d)=(a ^^^ c) * m + (b ^^^ d):=by
 subst hm
 have hbd:b ^^^ d < 2 ^ k:=OA hb hd
 rw [O3 a,O3 c,O3 (a ^^^ c)]
 rw [Uc hb,Uc hd,Uc hbd]
 apply UD
 intro i
 simp only [VC,Tv,Nat.testBit_two_pow_mul]
 by_cases hi:i < k
 ·have:¬ k<=i:=by simp [*]
  simp [this]
 ·have hk:k<=i:=by exact qw6
  have e1:b.testBit i=false:=Vk (OE hb (Ir (by decide) hk))
  have e2:d.testBit i=false:=Vk (OE hd (Ir (by decide) hk))
  simp [hk,e1,e2]
theorem pow256 (n:Nat):256 ^ n=2 ^ (8 * n):=by rw [VO]
theorem WT {a b:B} (ha:Bytes a) (hb:Bytes b) (hl:a.length=b.length):bigOf (xor a b)=bigOf a ^^^ bigOf b:=by
 induction a generalizing b with
 | nil=>cases b with
  | nil=>rfl
  | cons=>simp at hl
 | cons x a ih=>cases b with
  | nil=>simp at hl
  | cons y b=>
   rw [Y1] at ha hb
   have hl':a.length=b.length:=by simpa using hl
   show bigOf ((x ^^^ y) :: xor a b)=_
   rw [Zal,Zal,Zal,ZbV hl',ih ha.2 hb.2 hl',hl']
   rw [Zcp (8 * b.length) (pow256 _) (by rw [<- hl']; exact WH ha.2) (WH hb.2)]
def sub0 (x:Nat):Nat:=let s:=power x 254; s ^^^ (turn s 1 ^^^ (turn s 2 ^^^ (turn s 3 ^^^ (turn s 4 ^^^ 0x63))))
def back0 (x:Nat):Nat:=power (turn x 1 ^^^ (turn x 3 ^^^ (turn x 6 ^^^ 0x05))) 254
theorem ZdC (f:Nat->Nat) {x:Nat} (h:x < 256):((Array.range 256).map f).getD x 0=f x:=by
 have hs:x < ((Array.range 256).map f).size:=by simpa using h
 rw [Array.getD_eq_getD_getElem?,Array.getElem?_eq_getElem hs]
 simp
theorem inv_eq {a:Nat} (h:a < 256):inv a=power a 254:=ZdC _ h
theorem sub_eq {x:Nat} (h:x < 256):sub x=sub0 x:=by
 unfold sub subs
 rw [ZdC _ h]
 simp only [sub0,inv_eq h]
theorem ZcY {x:Nat} (h:x < 256) {k:Nat} (_:k<=8):turn x k < 256:=by
 unfold turn
 apply Vg (n:=8)
 ·exact Ik _ (by decide)
 ·exact IV (Uq _ _) h
theorem back_eq {x:Nat} (h:x < 256):back x=back0 x:=by
 have hz:turn x 1 ^^^ (turn x 3 ^^^ (turn x 6 ^^^ 0x05)) < 256:=ZY (ZcY h (by decide)) (ZY (ZcY h (by decide)) (ZY (ZcY h (by decide)) (by decide)))
 unfold back backs
 rw [ZdC _ h]
 simp only [back0,inv_eq hz]
theorem xor_half (a b:Nat):(a ^^^ b) / 2=(a / 2) ^^^ (b / 2):=by
 apply UD; intro i
 simp only [VC,Nat.testBit_div_two]
theorem ZgF (a b:Nat):(a ^^^ b) % 2=(a % 2 + b % 2) % 2:=by
 have h:((a ^^^ b) % 2 ^ 1)=(a % 2 ^ 1) ^^^ (b % 2 ^ 1):=Nat.xor_mod_two_pow
 simp only [Nat.pow_one] at h
 rw [h]
 rcases UC a with e | e <;> rcases UC b with e' | e' <;> rw [e,e'] <;> rfl
theorem xor4 (a b c d:Nat):(a ^^^ b) ^^^ (c ^^^ d)=(a ^^^ c) ^^^ (b ^^^ d):=by
 rw [IP,<- IP b,TK b c,IP c,<- IP a]
theorem ZgX (n:Nat):∀(a b c:Nat),product n a (b ^^^ c)=product n a b ^^^ product n a c:=by
 induction n with
 | zero=>intro a b c; simp [product]
 | succ n ih=>
  intro a b c
  simp only [product]
  rw [xor_half,ih,xor4]
  congr 1
  have hp:=ZgF b c
  rcases UC b with e | e <;> rcases UC c with e' | e' <;> rw [e,e'] at hp <;> simp [hp,e,e']
theorem Zgz {a:Nat} (h:a < 256):twice a < 256:=by
 have:∀a,a < 256->twice a < 256:=by decide +kernel
 exact this a h
theorem twice_xor {a b:Nat} (ha:a < 256) (hb:b < 256):twice (a ^^^ b)=twice a ^^^ twice b:=by
 have hab:=ZY ha hb
 have e2:2 * (a ^^^ b)=(2 * a) ^^^ (2 * b):=by
  have:=Zcp (m:=2) (a:=a) (b:=0) (c:=b) (d:=0) 1 rfl (by decide) (by decide)
  simp only [TJ,U7] at this
  rw [O3 2 a,O3 2 b,this,O3]
 have h7:(a ^^^ b) / 128=(a / 128) ^^^ (b / 128):=by
  apply UD; intro i
  have:(128:Nat)=2 ^ 7:=rfl
  rw [this]
  simp only [VC,Nat.testBit_div_two_pow]
 unfold twice
 by_cases h1:128<=a <;> by_cases h2:128<=b
 ·have q:a / 128=1:=by lia
  have q':b / 128=1:=by lia
  rw [q,q'] at h7
  have:¬ 128<=a ^^^ b:=by
   have:(1:Nat) ^^^ 1=0:=rfl
   lia
  rw [if_neg this,if_pos h1,if_pos h2,e2,xor4,U7,Nat.xor_zero]
 ·have q:a / 128=1:=by omega
  have q':b / 128=0:=by lia
  rw [q,q'] at h7
  have:128<=a ^^^ b:=by
   have:(1:Nat) ^^^ 0=1:=rfl
   lia
  rw [if_pos this,if_pos h1,if_neg h2,e2,IP,IP,TK (2 * b)]
 ·have q:a / 128=0:=by lia
  have q':b / 128=1:=by omega
  rw [q,q'] at h7
  have:128<=a ^^^ b:=by
   have:(0:Nat) ^^^ 1=1:=rfl
   lia
  rw [if_pos this,if_neg h1,if_pos h2,e2,IP]
 ·have q:a / 128=0:=by omega
  have q':b / 128=0:=by omega
  rw [q,q'] at h7
  have:¬ 128<=a ^^^ b:=by
   have:(0:Nat) ^^^ 0=0:=rfl
   lia
  rw [if_neg this,if_neg h1,if_neg h2,e2]
theorem product_left (n:Nat):∀(a b c:Nat),a < 256->b < 256->product n (a ^^^ b) c=product n a c ^^^ product n b c:=by
 induction n with
 | zero=>intro a b c _ _; simp [product]
 | succ n ih=>
  intro a b c ha hb
  simp only [product]
  rw [twice_xor ha hb,ih _ _ _ (Zgz ha) (Zgz hb),xor4]
  congr 1
  split <;> simp
theorem product_lt (n:Nat):∀(a b:Nat),a < 256->product n a b < 256:=by
 induction n with
 | zero=>intro a b _; simp [product]
 | succ n ih=>
  intro a b ha
  simp only [product]
  apply ZY
  ·split
   ·exact ha
   ·decide
  ·exact ih _ _ (Zgz ha)
theorem Zdy {a:Nat} (h:a < 256) (b:Nat):mul a b < 256:=product_lt 8 a b h
theorem Zaa (a b c:Nat):mul a (b ^^^ c)=mul a b ^^^ mul a c:=ZgX 8 a b c
theorem Zcq {a b:Nat} (c:Nat) (ha:a < 256) (hb:b < 256):mul (a ^^^ b) c=mul a c ^^^ mul b c:=product_left 8 a b c ha hb
theorem lin_ext {F G:Nat->Nat} (hF:∀x y,x < 256->y < 256->F (x ^^^ y)=F x ^^^ F y) (hG:∀x y,x < 256->y < 256->G (x ^^^ y)=G x ^^^ G y) (h:∀i,i < 8->F (2 ^ i)=G (2 ^ i)) {x:Nat} (hx:x < 256):F x=G x:=by
 have F0:F 0=0:=by have:=hF 0 0 (by decide) (by decide); rw [U7] at this; rw [this,U7]
 have G0:G 0=0:=by have:=hG 0 0 (by decide) (by decide); rw [U7] at this; rw [this,U7]
 suffices H:∀n,n<=8->∀x,x < 2 ^ n->F x=G x from H 8 (Oq _) x hx
 intro n
 induction n with
 | zero=>intro _ x hx; have:x=0:=by simpa using hx
         rw [this,F0,G0]
 | succ n ih=>
  intro hn x hx
  by_cases hl:x < 2 ^ n
  ·exact ih (by exact qw1) x hl
  ·have e:x=2 ^ n ^^^ (x - 2 ^ n):=by
    have hy:x - 2 ^ n < 2 ^ n:=by rw [Ur] at hx; omega
    have:=Zcp (m:=2 ^ n) (a:=1) (b:=0) (c:=0) (d:=x - 2 ^ n) n rfl (Nat.two_pow_pos n) hy
    simp at this
    rw [this]; omega
   have hp:2 ^ n<=2 ^ 7:=Ir (by decide) (by lia)
   have hx':x < 2 ^ 8:=OE hx (Ir (by decide) hn)
   have hy:x - 2 ^ n < 2 ^ n:=by rw [Ur] at hx; omega
   rw [e,hF _ _ (by exact ZbO) (by lia),hG _ _ (by omega) (by omega),h n (by exact qw14),ih (by exact qw1) _ hy]
theorem Zfo:∀i,i < 8->∀j,j < 8->∀k,k < 8->mul (mul (2 ^ i) (2 ^ j)) (2 ^ k)=mul (2 ^ i) (mul (2 ^ j) (2 ^ k)):=by decide +kernel
theorem basis_lt {i:Nat} (h:i < 8):2 ^ i < 256:=Nat.pow_lt_pow_right (a:=2) (n:=8) (by decide) h
theorem mul_assoc' {a b c:Nat} (ha:a < 256) (hb:b < 256) (hc:c < 256):mul (mul a b) c=mul a (mul b c):=by
 refine lin_ext (F:=fun a=>mul (mul a b) c) (G:=fun a=>mul a (mul b c)) (fun x y hx hy=>?_) (fun x y hx hy=>?_) (fun i hi=>?_) ha
 ·show mul (mul (x ^^^ y) b) c=_
  rw [Zcq _ hx hy,Zcq _ (Zdy hx _) (Zdy hy _)]
 ·exact Zcq _ hx hy
 refine lin_ext (F:=fun b=>mul (mul (2 ^ i) b) c) (G:=fun b=>mul (2 ^ i) (mul b c)) (fun x y hx hy=>?_) (fun x y hx hy=>?_) (fun j hj=>?_) hb
 ·show mul (mul _ (x ^^^ y)) c=_
  rw [Zaa,Zcq _ (Zdy (basis_lt hi) _) (Zdy (basis_lt hi) _)]
 ·show mul _ (mul (x ^^^ y) c)=_
  rw [Zcq _ hx hy,Zaa]
 refine lin_ext (F:=fun c=>mul (mul (2 ^ i) (2 ^ j)) c) (G:=fun c=>mul (2 ^ i) (mul (2 ^ j) c)) (fun x y hx hy=>?_) (fun x y hx hy=>?_) (fun k hk=>?_) hc
 ·exact Zaa _ _ _
 ·show mul _ (mul _ (x ^^^ y))=_
  rw [Zaa,Zaa]
 exact Zfo i hi j hj k hk
theorem Zar {a:Nat} (h:a < 256) (n:Nat):power a n < 256:=by
 cases n with
 | zero=>show 1 < 256; decide
 | succ n=>exact Zdy h _
theorem mul_one_left {b:Nat} (hb:b < 256):mul 1 b=b:=by
 have:∀b,b < 256->mul 1 b=b:=by decide +kernel
 exact this b hb
theorem power_add {a:Nat} (h:a < 256) (m n:Nat):power a (m + n)=mul (power a m) (power a n):=by
 induction m with
 | zero=>rw [UG,power,mul_one_left (Zar h n)]
 | succ m ih=>rw [Nat.succ_add,power,power,ih,mul_assoc' h (Zar h m) (Zar h n)]
def p254 (a:Nat):Nat:=
 let a2:=mul a a
 let a3:=mul a2 a
 let a6:=mul a3 a3
 let a7:=mul a6 a
 let a14:=mul a7 a7
 let a15:=mul a14 a
 let a30:=mul a15 a15
 let a31:=mul a30 a
 let a62:=mul a31 a31
 let a63:=mul a62 a
 let a126:=mul a63 a63
 let a127:=mul a126 a
 mul a127 a127
theorem ZgW (a:Nat) (h:a < 256):mul a 1=a:=by
 have:∀a,a < 256->mul a 1=a:=by decide +kernel
 exact this a h
theorem p254_eq {a:Nat} (h:a < 256):power a 254=p254 a:=by
 have e1:power a 1=a:=by show mul a 1=a; exact ZgW a h
 have d:∀n,mul (power a n) (power a n)=power a (n + n):=fun n=>(power_add h n n).symm
 have s:∀n,mul (power a n) a=power a (n + 1):=fun n=>by rw [power_add h n 1,e1]
 have e2:mul a a=power a 2:=by have:=d 1; rwa [e1] at this
 simp only [p254,e2,s,d]
def sub1 (x:Nat):Nat:=let s:=p254 x; s ^^^ (turn s 1 ^^^ (turn s 2 ^^^ (turn s 3 ^^^ (turn s 4 ^^^ 0x63))))
def back1 (x:Nat):Nat:=p254 (turn x 1 ^^^ (turn x 3 ^^^ (turn x 6 ^^^ 0x05)))
theorem box_tab:(Ob 256).map sub1=BOX:=by decide +kernel
theorem unbox_tab:(Ob 256).map back1=WG:=by decide +kernel
theorem ZfW {f:Nat->Nat} {l:List Nat} (h:(Ob 256).map f=l) {x:Nat} (hx:x < 256):l.getD x 0=f x:=by
 subst h; simp [List.getD,hx]
theorem Yb {x:Nat} (h:x < 256):BOX.getD x 0=sub x:=by
 rw [ZfW box_tab h,sub_eq h]
 simp only [sub1,sub0,p254_eq h]
theorem Yp {x:Nat} (h:x < 256):WG.getD x 0=back x:=by
 have hz:turn x 1 ^^^ (turn x 3 ^^^ (turn x 6 ^^^ 0x05)) < 256:=ZY (ZcY h (by decide)) (ZY (ZcY h (by decide)) (ZY (ZcY h (by decide)) (by decide)))
 rw [ZfW unbox_tab h,back_eq h]
 simp only [back1,back0,p254_eq hz]
end Oc
namespace Oc
open Sy23
def SP (m0 m1 m2 m3 y:Nat):Nat:=bigOf [mul m0 y,mul m1 y,mul m2 y,mul m3 y]
theorem spread0:BOX.map (SP 2 1 1 3)=XZ:=by decide +kernel
theorem spread1:BOX.map (SP 3 2 1 1)=WQ:=by decide +kernel
theorem spread2:BOX.map (SP 1 3 2 1)=WR:=by decide +kernel
theorem spread3:BOX.map (SP 1 1 3 2)=WS:=by decide +kernel
theorem gather0:WG.map (SP 14 9 13 11)=XD:=by decide +kernel
theorem gather1:WG.map (SP 11 14 9 13)=Wv:=by decide +kernel
theorem gather2:WG.map (SP 13 11 14 9)=Ww:=by decide +kernel
theorem gather3:WG.map (SP 9 13 11 14)=Wx:=by decide +kernel
theorem ZcN:BOX.length=256:=rfl
theorem Zbm:WG.length=256:=rfl
theorem QQ {f:Nat->Nat} {l m:List Nat} (h:l.map f=m) (hl:l.length=256) {x:Nat} (hx:x < 256):m.getD x 0=f (l.getD x 0):=by
 subst h
 have:x < l.length:=by simp [*]
 simp [List.getD,this]
theorem sp0_at {x:Nat} (h:x < 256):XZ.getD x 0=SP 2 1 1 3 (sub x):=by rw [QQ spread0 ZcN h,Yb h]
theorem sp1_at {x:Nat} (h:x < 256):WQ.getD x 0=SP 3 2 1 1 (sub x):=by rw [QQ spread1 ZcN h,Yb h]
theorem sp2_at {x:Nat} (h:x < 256):WR.getD x 0=SP 1 3 2 1 (sub x):=by rw [QQ spread2 ZcN h,Yb h]
theorem sp3_at {x:Nat} (h:x < 256):WS.getD x 0=SP 1 1 3 2 (sub x):=by rw [QQ spread3 ZcN h,Yb h]
theorem Zck {x:Nat} (h:x < 256):XD.getD x 0=SP 14 9 13 11 (back x):=by rw [QQ gather0 Zbm h,Yp h]
theorem Zcl {x:Nat} (h:x < 256):Wv.getD x 0=SP 11 14 9 13 (back x):=by rw [QQ gather1 Zbm h,Yp h]
theorem Zcm {x:Nat} (h:x < 256):Ww.getD x 0=SP 13 11 14 9 (back x):=by rw [QQ gather2 Zbm h,Yp h]
theorem Zcn {x:Nat} (h:x < 256):Wx.getD x 0=SP 9 13 11 14 (back x):=by rw [QQ gather3 Zbm h,Yp h]
theorem ZX {x:Nat} (h:x < 256):sub x < 256:=by
 rw [<- Yb h]
 have:∀x,x < 256->BOX.getD x 0 < 256:=by decide +kernel
 exact this x h
theorem Y3 {x:Nat} (h:x < 256):back x < 256:=by
 rw [<- Yp h]
 have:∀x,x < 256->WG.getD x 0 < 256:=by decide +kernel
 exact this x h
theorem Xe {x:Nat} (h:x < 256):back (sub x)=x:=by
 rw [<- Yp (ZX h),<- Yb h]
 have:∀x,x < 256->WG.getD (BOX.getD x 0) 0=x:=by decide +kernel
 exact this x h
theorem ZV {a b c d:Nat}:Bytes [a,b,c,d]↔a < 256/\b < 256/\c < 256/\d < 256:=by
 simp only [Y1]
 constructor
 ·intro ⟨h1,h2,h3,h4,_⟩; exact ⟨h1,h2,h3,h4⟩
 ·intro ⟨h1,h2,h3,h4⟩; exact ⟨h1,h2,h3,h4,Jp⟩
theorem big4 (a b c d:Nat):bigOf [a,b,c,d]=16777216 * a + 65536 * b + 256 * c + d:=by
 simp [bigOf]; lia
abbrev col (m0 m1 m2 m3 y0 y1 y2 y3:Nat):Nat:=0 ^^^ mul m0 y0 ^^^ mul m1 y1 ^^^ mul m2 y2 ^^^ mul m3 y3
theorem Zdg {a b c d e f g h:Nat} (h1:Bytes [a,b,c,d]) (h2:Bytes [e,f,g,h]):bigOf [a,b,c,d] ^^^ bigOf [e,f,g,h]=bigOf [a ^^^ e,b ^^^ f,c ^^^ g,d ^^^ h]:=(WT h1 h2 rfl).symm
theorem column {m0 m1 m2 m3:Nat} (hm:Bytes [m0,m1,m2,m3]) (y0 y1 y2 y3:Nat) :
 bigOf [col m0 m1 m2 m3 y0 y1 y2 y3,col m0 m1 m2 m3 y1 y2 y3 y0,col m0 m1 m2 m3 y2 y3 y0 y1,col m0 m1 m2 m3 y3 y0 y1 y2] =
  SP m0 m3 m2 m1 y0 ^^^ SP m1 m0 m3 m2 y1 ^^^ SP m2 m1 m0 m3 y2 ^^^ SP m3 m2 m1 m0 y3:=by
 rw [ZV] at hm
 obtain ⟨h0,h1,h2,h3⟩:=hm
 unfold SP
 have l:∀{m:Nat},m < 256->∀y,mul m y < 256:=fun h y=>Zdy h y
 rw [Zdg (ZV.mpr ⟨l h0 _,l h3 _,l h2 _,l h1 _⟩) (ZV.mpr ⟨l h1 _,l h0 _,l h3 _,l h2 _⟩)]
 rw [Zdg (ZV.mpr ⟨ZY (l h0 _) (l h1 _),ZY (l h3 _) (l h0 _),ZY (l h2 _) (l h3 _),ZY (l h1 _) (l h2 _)⟩) (ZV.mpr ⟨l h2 _,l h1 _,l h0 _,l h3 _⟩)]
 rw [Zdg (ZV.mpr ⟨ZY (ZY (l h0 _) (l h1 _)) (l h2 _),ZY (ZY (l h3 _) (l h0 _)) (l h1 _),ZY (ZY (l h2 _) (l h3 _)) (l h0 _),ZY (ZY (l h1 _) (l h2 _)) (l h3 _)⟩) (ZV.mpr ⟨l h3 _,l h2 _,l h1 _,l h0 _⟩)]
 simp only [col,Nat.zero_xor]
 have ac1:∀a b c d:Nat,a ^^^ b ^^^ c ^^^ d=d ^^^ a ^^^ b ^^^ c:=fun a b c d=>by
  rw [TK (a ^^^ b ^^^ c) d,<- IP,<- IP]
 have e1:=ac1 (mul m0 y1) (mul m1 y2) (mul m2 y3) (mul m3 y0)
 have e2:=(ac1 (mul m0 y2) (mul m1 y3) (mul m2 y0) (mul m3 y1)).trans (ac1 _ _ _ _)
 have e3:=((ac1 (mul m0 y3) (mul m1 y0) (mul m2 y1) (mul m3 y2)).trans (ac1 _ _ _ _)).trans (ac1 _ _ _ _)
 rw [e1,e2,e3]
structure Yc (s:B):Prop where
 len:s.length=16
 byt:Bytes s
theorem Yc.ex {s:B} (h:Yc s):∃s0 s1 s2 s3 s4 s5 s6 s7 s8 s9 s10 s11 s12 s13 s14 s15,s=[s0,s1,s2,s3,s4,s5,s6,s7,s8,s9,s10,s11,s12,s13,s14,s15]/\
 s0 < 256/\s1 < 256/\s2 < 256/\s3 < 256/\s4 < 256/\s5 < 256/\s6 < 256/\s7 < 256/\s8 < 256/\s9 < 256/\s10 < 256/\s11 < 256/\s12 < 256/\s13 < 256/\s14 < 256/\s15 < 256:=by
 obtain ⟨hl,hb⟩:=h
 match s,hl with
 | [s0,s1,s2,s3,s4,s5,s6,s7,s8,s9,s10,s11,s12,s13,s14,s15],_=>
  simp only [Y1] at hb
  obtain ⟨h0,h1,h2,h3,h4,h5,h6,h7,h8,h9,h10,h11,h12,h13,h14,h15,_⟩:=hb
  exact ⟨s0,s1,s2,s3,s4,s5,s6,s7,s8,s9,s10,s11,s12,s13,s14,s15,rfl,h0,h1,h2,h3,h4,h5,h6,h7,h8,h9,h10,h11,h12,h13,h14,h15⟩
def cw (s:B) (i:Nat):Nat:=bigOf (part s (4 * i) 4)
theorem bytes_map {f:Nat->Nat} (hf:∀x,x < 256->f x < 256) {b:B} (h:Bytes b):Bytes (b.map f):=fun x hx=>by
 obtain ⟨y,hy,rfl⟩:=OK.mp hx
 exact hf y (h y hy)
theorem Zfy (m0 m1 m2 m3 s0 s1 s2 s3 s4 s5 s6 s7 s8 s9 s10 s11 s12 s13 s14 s15:Nat) :
 mixBy [m0,m1,m2,m3] [s0,s1,s2,s3,s4,s5,s6,s7,s8,s9,s10,s11,s12,s13,s14,s15] =
  [col m0 m1 m2 m3 s0 s1 s2 s3,col m0 m1 m2 m3 s1 s2 s3 s0,col m0 m1 m2 m3 s2 s3 s0 s1,col m0 m1 m2 m3 s3 s0 s1 s2,
   col m0 m1 m2 m3 s4 s5 s6 s7,col m0 m1 m2 m3 s5 s6 s7 s4,col m0 m1 m2 m3 s6 s7 s4 s5,col m0 m1 m2 m3 s7 s4 s5 s6,
   col m0 m1 m2 m3 s8 s9 s10 s11,col m0 m1 m2 m3 s9 s10 s11 s8,col m0 m1 m2 m3 s10 s11 s8 s9,col m0 m1 m2 m3 s11 s8 s9 s10,
   col m0 m1 m2 m3 s12 s13 s14 s15,col m0 m1 m2 m3 s13 s14 s15 s12,col m0 m1 m2 m3 s14 s15 s12 s13,col m0 m1 m2 m3 s15 s12 s13 s14]:=rfl
theorem shift16 (s0 s1 s2 s3 s4 s5 s6 s7 s8 s9 s10 s11 s12 s13 s14 s15:Nat) :
 shift [s0,s1,s2,s3,s4,s5,s6,s7,s8,s9,s10,s11,s12,s13,s14,s15]=[s0,s5,s10,s15,s4,s9,s14,s3,s8,s13,s2,s7,s12,s1,s6,s11]:=rfl
theorem unshift16 (s0 s1 s2 s3 s4 s5 s6 s7 s8 s9 s10 s11 s12 s13 s14 s15:Nat) :
 unshift [s0,s1,s2,s3,s4,s5,s6,s7,s8,s9,s10,s11,s12,s13,s14,s15]=[s0,s13,s10,s7,s4,s1,s14,s11,s8,s5,s2,s15,s12,s9,s6,s3]:=rfl
theorem J3 (s0 s1 s2 s3 s4 s5 s6 s7 s8 s9 s10 s11 s12 s13 s14 s15:Nat) :
 cw [s0,s1,s2,s3,s4,s5,s6,s7,s8,s9,s10,s11,s12,s13,s14,s15] 0=bigOf [s0,s1,s2,s3]/\
 cw [s0,s1,s2,s3,s4,s5,s6,s7,s8,s9,s10,s11,s12,s13,s14,s15] 1=bigOf [s4,s5,s6,s7]/\
 cw [s0,s1,s2,s3,s4,s5,s6,s7,s8,s9,s10,s11,s12,s13,s14,s15] 2=bigOf [s8,s9,s10,s11]/\
 cw [s0,s1,s2,s3,s4,s5,s6,s7,s8,s9,s10,s11,s12,s13,s14,s15] 3=bigOf [s12,s13,s14,s15]:=⟨rfl,rfl,rfl,rfl⟩
theorem Zch {a b:B} (ha:Yc a) (hb:Yc b) (i:Nat):cw (OG a b) i=cw a i ^^^ cw b i:=by
 unfold cw part OG
 rw [List.drop_zipWith,List.take_zipWith]
 exact WT (WI ha.byt _ _) (WI hb.byt _ _) (by simp [ha.len,hb.len])
theorem Yc.xor {a b:B} (ha:Yc a) (hb:Yc b):Yc (OG a b):=⟨by rw [ZbV (ha.len.trans hb.len.symm),ha.len],ZcO ha.byt hb.byt⟩
theorem Yc.map {a:B} (ha:Yc a) {f:Nat->Nat} (hf:∀x,x < 256->f x < 256):Yc (a.map f):=⟨by simp [ha.len],bytes_map hf ha.byt⟩
theorem at_lt {s:B} (h:Bytes s) (i:Nat):at_ s i < 256:=by
 unfold at_
 rw [Oe]
 cases e:s[i]? with
 | none=>decide
 | some v=>exact h v (O5 e)
theorem Yc.shift {a:B} (ha:Yc a):Yc (shift a):=⟨by simp [Sy23.shift],fun x hx=>by
 obtain ⟨y,_,rfl⟩:=OK.mp hx
 exact at_lt ha.byt _⟩
theorem Yc.unshift {a:B} (ha:Yc a):Yc (unshift a):=⟨by simp [Sy23.unshift],fun x hx=>by
 obtain ⟨y,_,rfl⟩:=OK.mp hx
 exact at_lt ha.byt _⟩
theorem Yc.mixBy {m a:B} (hm:Bytes m):Yc (mixBy m a):=⟨by simp [Sy23.mixBy],fun x hx=>by
 obtain ⟨i,_,rfl⟩:=OK.mp hx
 have hj:∀j,mul (at_ m j) (at_ a (4 * (i / 4) + (i % 4 + j) % 4)) < 256:=fun j=>Zdy (at_lt hm j) _
 show (0 ^^^ _ ^^^ _ ^^^ _ ^^^ _:Nat) < 256
 exact ZY (ZY (ZY (ZY (by decide) (hj 0)) (hj 1)) (hj 2)) (hj 3)⟩
def rnd (t0 t1 t2 t3:List Nat) (a b c d w:Nat):Nat:=t0.getD (a / 2 ^ 24) 0 ^^^ t1.getD (b / 2 ^ 16 &&& 255) 0 ^^^ t2.getD (c / 2 ^ 8 &&& 255) 0 ^^^ t3.getD (d &&& 255) 0 ^^^ w
def J2 (t:List Nat) (a b c d:Nat):Nat:=(t.getD (a / 2 ^ 24) 0 * 2 ^ 24 ||| t.getD (b / 2 ^ 16 &&& 255) 0 * 2 ^ 16) ||| t.getD (c / 2 ^ 8 &&& 255) 0 * 2 ^ 8 ||| t.getD (d &&& 255) 0
theorem Zey (x:Nat):x &&& 255=x % 256:=O1 x 8
theorem W2 {a b c d:Nat} (h:Bytes [a,b,c,d]):bigOf [a,b,c,d] / 2 ^ 24=a:=by
 rw [ZV] at h; rw [big4]; lia
theorem Ql {a b c d:Nat} (h:Bytes [a,b,c,d]):bigOf [a,b,c,d] / 2 ^ 16 &&& 255=b:=by
 rw [ZV] at h; rw [big4,Zey]; omega
theorem Qm {a b c d:Nat} (h:Bytes [a,b,c,d]):bigOf [a,b,c,d] / 2 ^ 8 &&& 255=c:=by
 rw [ZV] at h; rw [big4,Zey]; omega
theorem Qn {a b c d:Nat} (h:Bytes [a,b,c,d]):bigOf [a,b,c,d] &&& 255=d:=by
 rw [ZV] at h; rw [big4,Zey]; lia
theorem WX {a b:Nat} {m:Nat} (k:Nat) (hm:m=2 ^ k) (hb:b < m):a * m ||| b=a * m + b:=by
 subst hm
 rw [O3 a,Uc hb]
theorem Qk {a b c d:Nat} (h:Bytes [a,b,c,d]):(a * 2 ^ 24 ||| b * 2 ^ 16) ||| c * 2 ^ 8 ||| d=bigOf [a,b,c,d]:=by
 rw [ZV] at h; rw [big4]
 have e1:a * 2 ^ 24 ||| b * 2 ^ 16=(a * 256 + b) * 2 ^ 16:=by
  rw [WX 24 rfl (by omega)]; lia
 have e2:(a * 256 + b) * 2 ^ 16 ||| c * 2 ^ 8=((a * 256 + b) * 256 + c) * 2 ^ 8:=by
  rw [WX 16 rfl (by omega)]; lia
 rw [e1,e2,WX 8 rfl (by simp [*])]; lia
theorem round_cols {s k:B} (hs:Yc s) (hk:Yc k) :
 cw (OG (mix (shift (s.map sub))) k) 0=rnd XZ WQ WR WS (cw s 0) (cw s 1) (cw s 2) (cw s 3) (cw k 0)/\
 cw (OG (mix (shift (s.map sub))) k) 1=rnd XZ WQ WR WS (cw s 1) (cw s 2) (cw s 3) (cw s 0) (cw k 1)/\
 cw (OG (mix (shift (s.map sub))) k) 2=rnd XZ WQ WR WS (cw s 2) (cw s 3) (cw s 0) (cw s 1) (cw k 2)/\
 cw (OG (mix (shift (s.map sub))) k) 3=rnd XZ WQ WR WS (cw s 3) (cw s 0) (cw s 1) (cw s 2) (cw k 3):=by
 have hm:Yc (mix (shift (s.map sub))):=Yc.mixBy (by rw [ZV]; decide)
 simp only [Zch hm hk]
 obtain ⟨s0,s1,s2,s3,s4,s5,s6,s7,s8,s9,s10,s11,s12,s13,s14,s15,rfl,h0,h1,h2,h3,h4,h5,h6,h7,h8,h9,h10,h11,h12,h13,h14,h15⟩:=hs.ex
 have b0:Bytes [s0,s1,s2,s3]:=ZV.mpr ⟨h0,h1,h2,h3⟩
 have b1:Bytes [s4,s5,s6,s7]:=ZV.mpr ⟨h4,h5,h6,h7⟩
 have b2:Bytes [s8,s9,s10,s11]:=ZV.mpr ⟨h8,h9,h10,h11⟩
 have b3:Bytes [s12,s13,s14,s15]:=ZV.mpr ⟨h12,h13,h14,h15⟩
 have hM:Bytes [2,3,1,1]:=by rw [ZV]; decide
 simp only [Ie,Vx,shift16,mix,Zfy,(J3 _ _ _ _ _ _ _ _ _ _ _ _ _ _ _ _).1,(J3 _ _ _ _ _ _ _ _ _ _ _ _ _ _ _ _).2.1,(J3 _ _ _ _ _ _ _ _ _ _ _ _ _ _ _ _).2.2.1,(J3 _ _ _ _ _ _ _ _ _ _ _ _ _ _ _ _).2.2.2,column hM,rnd]
 simp only [W2 b0,W2 b1,W2 b2,W2 b3,Ql b0,Ql b1,Ql b2,Ql b3,Qm b0,Qm b1,Qm b2,Qm b3,Qn b0,Qn b1,Qn b2,Qn b3,
  sp0_at h0,sp0_at h4,sp0_at h8,sp0_at h12,sp1_at h1,sp1_at h5,sp1_at h9,sp1_at h13,sp2_at h2,sp2_at h6,sp2_at h10,sp2_at h14,sp3_at h3,sp3_at h7,sp3_at h11,sp3_at h15,and_self]
theorem last_cols {s k:B} (hs:Yc s) (hk:Yc k) :
 cw (OG (shift (s.map sub)) k) 0=J2 BOX (cw s 0) (cw s 1) (cw s 2) (cw s 3) ^^^ cw k 0/\
 cw (OG (shift (s.map sub)) k) 1=J2 BOX (cw s 1) (cw s 2) (cw s 3) (cw s 0) ^^^ cw k 1/\
 cw (OG (shift (s.map sub)) k) 2=J2 BOX (cw s 2) (cw s 3) (cw s 0) (cw s 1) ^^^ cw k 2/\
 cw (OG (shift (s.map sub)) k) 3=J2 BOX (cw s 3) (cw s 0) (cw s 1) (cw s 2) ^^^ cw k 3:=by
 have hm:Yc (shift (s.map sub)):=(hs.map fun _ h=>ZX h).shift
 simp only [Zch hm hk]
 obtain ⟨s0,s1,s2,s3,s4,s5,s6,s7,s8,s9,s10,s11,s12,s13,s14,s15,rfl,h0,h1,h2,h3,h4,h5,h6,h7,h8,h9,h10,h11,h12,h13,h14,h15⟩:=hs.ex
 have b0:Bytes [s0,s1,s2,s3]:=ZV.mpr ⟨h0,h1,h2,h3⟩
 have b1:Bytes [s4,s5,s6,s7]:=ZV.mpr ⟨h4,h5,h6,h7⟩
 have b2:Bytes [s8,s9,s10,s11]:=ZV.mpr ⟨h8,h9,h10,h11⟩
 have b3:Bytes [s12,s13,s14,s15]:=ZV.mpr ⟨h12,h13,h14,h15⟩
 simp only [Ie,Vx,shift16,(J3 _ _ _ _ _ _ _ _ _ _ _ _ _ _ _ _).1,(J3 _ _ _ _ _ _ _ _ _ _ _ _ _ _ _ _).2.1,(J3 _ _ _ _ _ _ _ _ _ _ _ _ _ _ _ _).2.2.1,(J3 _ _ _ _ _ _ _ _ _ _ _ _ _ _ _ _).2.2.2,J2]
 simp only [W2 b0,W2 b1,W2 b2,W2 b3,Ql b0,Ql b1,Ql b2,Ql b3,Qm b0,Qm b1,Qm b2,Qm b3,Qn b0,Qn b1,Qn b2,Qn b3,
  Yb h0,Yb h1,Yb h2,Yb h3,Yb h4,Yb h5,Yb h6,Yb h7,Yb h8,Yb h9,Yb h10,Yb h11,Yb h12,Yb h13,Yb h14,Yb h15]
 rw [Qk (ZV.mpr ⟨ZX h0,ZX h5,ZX h10,ZX h15⟩),Qk (ZV.mpr ⟨ZX h4,ZX h9,ZX h14,ZX h3⟩),Qk (ZV.mpr ⟨ZX h8,ZX h13,ZX h2,ZX h7⟩),Qk (ZV.mpr ⟨ZX h12,ZX h1,ZX h6,ZX h11⟩)]
 exact ⟨rfl,rfl,rfl,rfl⟩
end Oc
namespace Oc
open Sy23
def Jv (w:Nat):Nat:=XD.getD (BOX.getD (w / 2 ^ 24) 0) 0 ^^^ Wv.getD (BOX.getD (w / 2 ^ 16 &&& 255) 0) 0 ^^^ Ww.getD (BOX.getD (w / 2 ^ 8 &&& 255) 0) 0 ^^^ Wx.getD (BOX.getD (w &&& 255) 0) 0
theorem xor8 (a b c d e f g h:Nat):(a ^^^ b) ^^^ (c ^^^ d) ^^^ (e ^^^ f) ^^^ (g ^^^ h)=(a ^^^ c ^^^ e ^^^ g) ^^^ (b ^^^ d ^^^ f ^^^ h):=by
 rw [xor4 a b c d,xor4 (a ^^^ c) (b ^^^ d) e f,xor4 (a ^^^ c ^^^ e) (b ^^^ d ^^^ f) g h]
theorem col_xor (m0 m1 m2 m3 y0 y1 y2 y3 z0 z1 z2 z3:Nat):col m0 m1 m2 m3 (y0 ^^^ z0) (y1 ^^^ z1) (y2 ^^^ z2) (y3 ^^^ z3)=col m0 m1 m2 m3 y0 y1 y2 y3 ^^^ col m0 m1 m2 m3 z0 z1 z2 z3:=by
 simp only [col,Zaa,Nat.zero_xor]
 exact xor8 _ _ _ _ _ _ _ _
theorem unmix_xor {a b:B} (ha:Yc a) (hb:Yc b):unmix (OG a b)=OG (unmix a) (unmix b):=by
 obtain ⟨s0,s1,s2,s3,s4,s5,s6,s7,s8,s9,s10,s11,s12,s13,s14,s15,rfl,-⟩:=ha.ex
 obtain ⟨t0,t1,t2,t3,t4,t5,t6,t7,t8,t9,t10,t11,t12,t13,t14,t15,rfl,-⟩:=hb.ex
 simp only [OG,To,Tt,unmix,Zfy,col_xor]
theorem hU:Bytes [14,11,13,9]:=by rw [ZV]; decide
theorem unmix_cols {k:B} (hk:Yc k):cw (unmix k) 0=Jv (cw k 0)/\cw (unmix k) 1=Jv (cw k 1)/\cw (unmix k) 2=Jv (cw k 2)/\cw (unmix k) 3=Jv (cw k 3):=by
 obtain ⟨s0,s1,s2,s3,s4,s5,s6,s7,s8,s9,s10,s11,s12,s13,s14,s15,rfl,h0,h1,h2,h3,h4,h5,h6,h7,h8,h9,h10,h11,h12,h13,h14,h15⟩:=hk.ex
 have b0:Bytes [s0,s1,s2,s3]:=ZV.mpr ⟨h0,h1,h2,h3⟩
 have b1:Bytes [s4,s5,s6,s7]:=ZV.mpr ⟨h4,h5,h6,h7⟩
 have b2:Bytes [s8,s9,s10,s11]:=ZV.mpr ⟨h8,h9,h10,h11⟩
 have b3:Bytes [s12,s13,s14,s15]:=ZV.mpr ⟨h12,h13,h14,h15⟩
 simp only [unmix,Zfy,(J3 _ _ _ _ _ _ _ _ _ _ _ _ _ _ _ _).1,(J3 _ _ _ _ _ _ _ _ _ _ _ _ _ _ _ _).2.1,(J3 _ _ _ _ _ _ _ _ _ _ _ _ _ _ _ _).2.2.1,(J3 _ _ _ _ _ _ _ _ _ _ _ _ _ _ _ _).2.2.2,column hU,Jv]
 simp only [W2 b0,W2 b1,W2 b2,W2 b3,Ql b0,Ql b1,Ql b2,Ql b3,Qm b0,Qm b1,Qm b2,Qm b3,Qn b0,Qn b1,Qn b2,Qn b3,
  Yb h0,Yb h1,Yb h2,Yb h3,Yb h4,Yb h5,Yb h6,Yb h7,Yb h8,Yb h9,Yb h10,Yb h11,Yb h12,Yb h13,Yb h14,Yb h15,
  Zck (ZX h0),Zck (ZX h4),Zck (ZX h8),Zck (ZX h12),Zcl (ZX h1),Zcl (ZX h5),Zcl (ZX h9),Zcl (ZX h13),
  Zcm (ZX h2),Zcm (ZX h6),Zcm (ZX h10),Zcm (ZX h14),Zcn (ZX h3),Zcn (ZX h7),Zcn (ZX h11),Zcn (ZX h15),
  Xe h0,Xe h1,Xe h2,Xe h3,Xe h4,Xe h5,Xe h6,Xe h7,Xe h8,Xe h9,Xe h10,Xe h11,Xe h12,Xe h13,Xe h14,Xe h15,and_self]
theorem Zdu (k:B):Yc (unmix k):=Yc.mixBy hU
theorem is16_mix (k:B):Yc (mix k):=Yc.mixBy (by rw [ZV]; decide)
theorem unround_cols {s k:B} (hs:Yc s) (hk:Yc k) :
 cw (unmix (OG ((unshift s).map back) k)) 0=rnd XD Wv Ww Wx (cw s 0) (cw s 3) (cw s 2) (cw s 1) (Jv (cw k 0))/\
 cw (unmix (OG ((unshift s).map back) k)) 1=rnd XD Wv Ww Wx (cw s 1) (cw s 0) (cw s 3) (cw s 2) (Jv (cw k 1))/\
 cw (unmix (OG ((unshift s).map back) k)) 2=rnd XD Wv Ww Wx (cw s 2) (cw s 1) (cw s 0) (cw s 3) (Jv (cw k 2))/\
 cw (unmix (OG ((unshift s).map back) k)) 3=rnd XD Wv Ww Wx (cw s 3) (cw s 2) (cw s 1) (cw s 0) (Jv (cw k 3)):=by
 have hm:Yc ((unshift s).map back):=hs.unshift.map fun _ h=>Y3 h
 rw [unmix_xor hm hk]
 simp only [Zch (Zdu _) (Zdu k),unmix_cols hk]
 obtain ⟨s0,s1,s2,s3,s4,s5,s6,s7,s8,s9,s10,s11,s12,s13,s14,s15,rfl,h0,h1,h2,h3,h4,h5,h6,h7,h8,h9,h10,h11,h12,h13,h14,h15⟩:=hs.ex
 have b0:Bytes [s0,s1,s2,s3]:=ZV.mpr ⟨h0,h1,h2,h3⟩
 have b1:Bytes [s4,s5,s6,s7]:=ZV.mpr ⟨h4,h5,h6,h7⟩
 have b2:Bytes [s8,s9,s10,s11]:=ZV.mpr ⟨h8,h9,h10,h11⟩
 have b3:Bytes [s12,s13,s14,s15]:=ZV.mpr ⟨h12,h13,h14,h15⟩
 simp only [Ie,Vx,unshift16,unmix,Zfy,(J3 _ _ _ _ _ _ _ _ _ _ _ _ _ _ _ _).1,(J3 _ _ _ _ _ _ _ _ _ _ _ _ _ _ _ _).2.1,(J3 _ _ _ _ _ _ _ _ _ _ _ _ _ _ _ _).2.2.1,(J3 _ _ _ _ _ _ _ _ _ _ _ _ _ _ _ _).2.2.2,column hU,rnd]
 simp only [W2 b0,W2 b1,W2 b2,W2 b3,Ql b0,Ql b1,Ql b2,Ql b3,Qm b0,Qm b1,Qm b2,Qm b3,Qn b0,Qn b1,Qn b2,Qn b3,
  Zck h0,Zck h4,Zck h8,Zck h12,Zcl h1,Zcl h5,Zcl h9,Zcl h13,Zcm h2,Zcm h6,Zcm h10,Zcm h14,Zcn h3,Zcn h7,Zcn h11,Zcn h15,and_self]
theorem unlast_cols {s k:B} (hs:Yc s) (hk:Yc k) :
 cw (OG ((unshift s).map back) k) 0=J2 WG (cw s 0) (cw s 3) (cw s 2) (cw s 1) ^^^ cw k 0/\
 cw (OG ((unshift s).map back) k) 1=J2 WG (cw s 1) (cw s 0) (cw s 3) (cw s 2) ^^^ cw k 1/\
 cw (OG ((unshift s).map back) k) 2=J2 WG (cw s 2) (cw s 1) (cw s 0) (cw s 3) ^^^ cw k 2/\
 cw (OG ((unshift s).map back) k) 3=J2 WG (cw s 3) (cw s 2) (cw s 1) (cw s 0) ^^^ cw k 3:=by
 have hm:Yc ((unshift s).map back):=hs.unshift.map fun _ h=>Y3 h
 simp only [Zch hm hk]
 obtain ⟨s0,s1,s2,s3,s4,s5,s6,s7,s8,s9,s10,s11,s12,s13,s14,s15,rfl,h0,h1,h2,h3,h4,h5,h6,h7,h8,h9,h10,h11,h12,h13,h14,h15⟩:=hs.ex
 have b0:Bytes [s0,s1,s2,s3]:=ZV.mpr ⟨h0,h1,h2,h3⟩
 have b1:Bytes [s4,s5,s6,s7]:=ZV.mpr ⟨h4,h5,h6,h7⟩
 have b2:Bytes [s8,s9,s10,s11]:=ZV.mpr ⟨h8,h9,h10,h11⟩
 have b3:Bytes [s12,s13,s14,s15]:=ZV.mpr ⟨h12,h13,h14,h15⟩
 simp only [Ie,Vx,unshift16,(J3 _ _ _ _ _ _ _ _ _ _ _ _ _ _ _ _).1,(J3 _ _ _ _ _ _ _ _ _ _ _ _ _ _ _ _).2.1,(J3 _ _ _ _ _ _ _ _ _ _ _ _ _ _ _ _).2.2.1,(J3 _ _ _ _ _ _ _ _ _ _ _ _ _ _ _ _).2.2.2,J2]
 simp only [W2 b0,W2 b1,W2 b2,W2 b3,Ql b0,Ql b1,Ql b2,Ql b3,Qm b0,Qm b1,Qm b2,Qm b3,Qn b0,Qn b1,Qn b2,Qn b3,
  Yp h0,Yp h1,Yp h2,Yp h3,Yp h4,Yp h5,Yp h6,Yp h7,Yp h8,Yp h9,Yp h10,Yp h11,Yp h12,Yp h13,Yp h14,Yp h15]
 rw [Qk (ZV.mpr ⟨Y3 h0,Y3 h13,Y3 h10,Y3 h7⟩),Qk (ZV.mpr ⟨Y3 h4,Y3 h1,Y3 h14,Y3 h11⟩),Qk (ZV.mpr ⟨Y3 h8,Y3 h5,Y3 h2,Y3 h15⟩),Qk (ZV.mpr ⟨Y3 h12,Y3 h9,Y3 h6,Y3 h3⟩)]
 exact ⟨rfl,rfl,rfl,rfl⟩
abbrev Q4:=Nat×Nat×Nat×Nat
def q4 (s:B):Q4:=(cw s 0,cw s 1,cw s 2,cw s 3)
def YD (ws:List Nat) (q:Q4) (r:Nat):Q4:=
 (rnd XZ WQ WR WS q.1 q.2.1 q.2.2.1 q.2.2.2 (ws.getD (4 + 4 * r) 0),
  rnd XZ WQ WR WS q.2.1 q.2.2.1 q.2.2.2 q.1 (ws.getD (4 + 4 * r + 1) 0),
  rnd XZ WQ WR WS q.2.2.1 q.2.2.2 q.1 q.2.1 (ws.getD (4 + 4 * r + 2) 0),
  rnd XZ WQ WR WS q.2.2.2 q.1 q.2.1 q.2.2.1 (ws.getD (4 + 4 * r + 3) 0))
def J4 (ws:List Nat) (q:Q4) (r:Nat):Q4:=
 (rnd XD Wv Ww Wx q.1 q.2.2.2 q.2.2.1 q.2.1 (ws.getD (4 + 4 * r) 0),
  rnd XD Wv Ww Wx q.2.1 q.1 q.2.2.2 q.2.2.1 (ws.getD (4 + 4 * r + 1) 0),
  rnd XD Wv Ww Wx q.2.2.1 q.2.1 q.1 q.2.2.2 (ws.getD (4 + 4 * r + 2) 0),
  rnd XD Wv Ww Wx q.2.2.2 q.2.2.1 q.2.1 q.1 (ws.getD (4 + 4 * r + 3) 0))
def YF (ws:List Nat) (n:Nat):Q4:=(n / 2 ^ 96 ^^^ ws.getD 0 0,(n / 2 ^ 64 &&& 4294967295) ^^^ ws.getD 1 0,(n / 2 ^ 32 &&& 4294967295) ^^^ ws.getD 2 0,(n &&& 4294967295) ^^^ ws.getD 3 0)
def ZbI (a b c d:Nat):Nat:=a * 2 ^ 96 ||| b * 2 ^ 64 ||| c * 2 ^ 32 ||| d
def Zfv (ws:List Nat) (q:Q4):Nat:=
 ZbI (J2 BOX q.1 q.2.1 q.2.2.1 q.2.2.2 ^^^ ws.getD (ws.length - 4) 0) (J2 BOX q.2.1 q.2.2.1 q.2.2.2 q.1 ^^^ ws.getD (ws.length - 4 + 1) 0)
  (J2 BOX q.2.2.1 q.2.2.2 q.1 q.2.1 ^^^ ws.getD (ws.length - 4 + 2) 0) (J2 BOX q.2.2.2 q.1 q.2.1 q.2.2.1 ^^^ ws.getD (ws.length - 4 + 3) 0)
def decLast (ws:List Nat) (q:Q4):Nat:=
 ZbI (J2 WG q.1 q.2.2.2 q.2.2.1 q.2.1 ^^^ ws.getD (ws.length - 4) 0) (J2 WG q.2.1 q.1 q.2.2.2 q.2.2.1 ^^^ ws.getD (ws.length - 4 + 1) 0)
  (J2 WG q.2.2.1 q.2.1 q.1 q.2.2.2 ^^^ ws.getD (ws.length - 4 + 2) 0) (J2 WG q.2.2.2 q.2.2.1 q.2.1 q.1 ^^^ ws.getD (ws.length - 4 + 3) 0)
def enc (ws:List Nat) (n:Nat):Nat:=Zfv ws ((Ob (ws.length / 4 - 2)).foldl (YD ws) (YF ws n))
def dec (ws:List Nat) (n:Nat):Nat:=decLast ws ((Ob (ws.length / 4 - 2)).foldl (J4 ws) (YF ws n))
theorem Zb9 (x:Nat):x &&& 4294967295=x % 4294967296:=O1 x 32
theorem cw_lt {s:B} (h:Yc s) {i:Nat} (hi:i < 4):cw s i < 2 ^ 32:=by
 have hl:(part s (4 * i) 4).length=4:=by simp [part,h.len]; lia
 have:=WH (WI h.byt (4 * i) 4)
 rw [hl] at this
 exact this
theorem big16 {s:B} (h:Yc s):bigOf s=cw s 0 * 2 ^ 96 + cw s 1 * 2 ^ 64 + cw s 2 * 2 ^ 32 + cw s 3:=by
 obtain ⟨s0,s1,s2,s3,s4,s5,s6,s7,s8,s9,s10,s11,s12,s13,s14,s15,rfl,-⟩:=h.ex
 rw [(J3 _ _ _ _ _ _ _ _ _ _ _ _ _ _ _ _).1,(J3 _ _ _ _ _ _ _ _ _ _ _ _ _ _ _ _).2.1,(J3 _ _ _ _ _ _ _ _ _ _ _ _ _ _ _ _).2.2.1,(J3 _ _ _ _ _ _ _ _ _ _ _ _ _ _ _ _).2.2.2]
 show bigOf ([s0,s1,s2,s3] ++ ([s4,s5,s6,s7] ++ ([s8,s9,s10,s11] ++ [s12,s13,s14,s15])))=_
 rw [Yr,Yr,Yr]
 simp only [Og,Oz,Ii]
 lia
theorem Zf0 {a b c d:Nat} (hb:b < 2 ^ 32) (hc:c < 2 ^ 32) (hd:d < 2 ^ 32):ZbI a b c d=a * 2 ^ 96 + b * 2 ^ 64 + c * 2 ^ 32 + d:=by
 have e1:a * 2 ^ 96 ||| b * 2 ^ 64=(a * 2 ^ 32 + b) * 2 ^ 64:=(WX 96 rfl (by omega)).trans (by omega)
 have e2:(a * 2 ^ 32 + b) * 2 ^ 64 ||| c * 2 ^ 32=((a * 2 ^ 32 + b) * 2 ^ 32 + c) * 2 ^ 32:=(WX 64 rfl (by omega)).trans (by omega)
 have e3:((a * 2 ^ 32 + b) * 2 ^ 32 + c) * 2 ^ 32 ||| d=((a * 2 ^ 32 + b) * 2 ^ 32 + c) * 2 ^ 32 + d:=WX 32 rfl hd
 have e:ZbI a b c d=((a * 2 ^ 32 + b) * 2 ^ 32 + c) * 2 ^ 32 + d:=by
  unfold ZbI
  rw [e1,e2,e3]
 have f:((a * 2 ^ 32 + b) * 2 ^ 32 + c) * 2 ^ 32 + d=a * 2 ^ 96 + b * 2 ^ 64 + c * 2 ^ 32 + d:=by clear e e1 e2 e3; lia
 exact e.trans f
theorem Ze8 {s:B} (h:Yc s):ZbI (cw s 0) (cw s 1) (cw s 2) (cw s 3)=bigOf s:=by
 rw [Zf0 (cw_lt h (by decide)) (cw_lt h (by decide)) (cw_lt h (by decide)),big16 h]
structure Za7 (ws:List Nat) (r:Nat) (k:B):Prop where
 is:Yc k
 w0:ws.getD (4 * r) 0=cw k 0
 w1:ws.getD (4 * r + 1) 0=cw k 1
 w2:ws.getD (4 * r + 2) 0=cw k 2
 w3:ws.getD (4 * r + 3) 0=cw k 3
structure UnKeyAt (ws:List Nat) (r:Nat) (k:B):Prop where
 is:Yc k
 w0:ws.getD (4 * r) 0=Jv (cw k 0)
 w1:ws.getD (4 * r + 1) 0=Jv (cw k 1)
 w2:ws.getD (4 * r + 2) 0=Jv (cw k 2)
 w3:ws.getD (4 * r + 3) 0=Jv (cw k 3)
theorem opened_eq {ws:List Nat} {k s:B} (hk:Za7 ws 0 k) (hs:Yc s):YF ws (bigOf s)=q4 (OG s k):=by
 have h0:=cw_lt hs (i:=0) (by decide)
 have h1:=cw_lt hs (i:=1) (by decide)
 have h2:=cw_lt hs (i:=2) (by decide)
 have h3:=cw_lt hs (i:=3) (by decide)
 have w0:=hk.w0
 have w1:=hk.w1
 have w2:=hk.w2
 have w3:=hk.w3
 simp only [Tb,UG] at w0 w1 w2 w3
 have e0:bigOf s / 2 ^ 96=cw s 0:=by rw [big16 hs]; lia
 have e1:bigOf s / 2 ^ 64 &&& 4294967295=cw s 1:=by rw [big16 hs,Zb9]; omega
 have e2:bigOf s / 2 ^ 32 &&& 4294967295=cw s 2:=by rw [big16 hs,Zb9]; omega
 have e3:bigOf s &&& 4294967295=cw s 3:=by rw [big16 hs,Zb9]; lia
 unfold YF q4
 rw [e0,e1,e2,e3,w0,w1,w2,w3,Zch hs hk.is,Zch hs hk.is,Zch hs hk.is,Zch hs hk.is]
theorem encStep_eq {ws:List Nat} {r:Nat} {k s:B} (hk:Za7 ws (r + 1) k) (hs:Yc s):YD ws (q4 s) r=q4 (OG (mix (shift (s.map sub))) k):=by
 obtain ⟨e0,e1,e2,e3⟩:=round_cols hs hk.is
 have i0:4 + 4 * r=4 * (r + 1):=by exact IU _ _
 unfold q4
 rw [e0,e1,e2,e3,<- hk.w0,<- hk.w1,<- hk.w2,<- hk.w3]
 simp only [YD,i0]
theorem decStep_eq {ws:List Nat} {r:Nat} {k s:B} (hk:UnKeyAt ws (r + 1) k) (hs:Yc s):J4 ws (q4 s) r=q4 (unmix (OG ((unshift s).map back) k)):=by
 obtain ⟨e0,e1,e2,e3⟩:=unround_cols hs hk.is
 have i0:4 + 4 * r=4 * (r + 1):=by exact IU _ _
 unfold q4
 rw [e0,e1,e2,e3,<- hk.w0,<- hk.w1,<- hk.w2,<- hk.w3]
 simp only [J4,i0]
theorem encLast_eq {ws:List Nat} {R:Nat} {k s:B} (hl:ws.length=4 * (R + 1)) (hk:Za7 ws R k) (hs:Yc s):Zfv ws (q4 s)=bigOf (OG (shift (s.map sub)) k):=by
 obtain ⟨e0,e1,e2,e3⟩:=last_cols hs hk.is
 have i0:ws.length - 4=4 * R:=by lia
 have h16:Yc (OG (shift (s.map sub)) k):=(hs.map fun _ h=>ZX h).shift.xor hk.is
 unfold Zfv q4
 simp only []
 rw [<- Ze8 h16,e0,e1,e2,e3,i0,hk.w0,hk.w1,hk.w2,hk.w3]
theorem decLast_eq {ws:List Nat} {R:Nat} {k s:B} (hl:ws.length=4 * (R + 1)) (hk:Za7 ws R k) (hs:Yc s):decLast ws (q4 s)=bigOf (OG ((unshift s).map back) k):=by
 obtain ⟨e0,e1,e2,e3⟩:=unlast_cols hs hk.is
 have i0:ws.length - 4=4 * R:=by omega
 have h16:Yc (OG ((unshift s).map back) k):=(hs.unshift.map fun _ h=>Y3 h).xor hk.is
 unfold decLast q4
 simp only []
 rw [<- Ze8 h16,e0,e1,e2,e3,i0,hk.w0,hk.w1,hk.w2,hk.w3]
theorem Yd (n:Nat):Ob (n + 1)=Ob n ++ [n]:=List.range_succ
theorem enc_eq {ws:List Nat} {ks:List B} {R:Nat} (hR:ks.length=R + 1) (h1:1<=R) (hl:ws.length=4 * (R + 1)) (hk:∀r,r<=R->Za7 ws r (ks.getD r [])) {s:B} (hs:Yc s) :
 enc ws (bigOf s)=bigOf (blockBy ks s)/\Yc (blockBy ks s):=by
 have hn:ws.length / 4 - 2=R - 1:=by simp [*]
 have key:∀n,n<=R - 1->Yc ((Ob n).foldl (fun (s:B) (r:Nat)=>OG (mix (shift (s.map sub))) (ks.getD (r + 1) [])) (OG s (ks.getD 0 [])))/\
  (Ob n).foldl (YD ws) (YF ws (bigOf s))=q4 ((Ob n).foldl (fun (s:B) (r:Nat)=>OG (mix (shift (s.map sub))) (ks.getD (r + 1) [])) (OG s (ks.getD 0 []))):=by
  intro n
  induction n with
  | zero=>intro _; exact ⟨hs.xor (hk 0 (by omega)).is,opened_eq (hk 0 (by omega)) hs⟩
  | succ n ih=>
   intro hn
   obtain ⟨i1,i2⟩:=ih (by exact qw1)
   rw [Yd,OI,OI,i2]
   exact ⟨(is16_mix _).xor (hk (n + 1) (by omega)).is,encStep_eq (hk (n + 1) (by omega)) i1⟩
 obtain ⟨k1,k2⟩:=key (R - 1) (Oq _)
 unfold enc blockBy
 simp only []
 rw [hn,k2,hR,VQ]
 exact ⟨encLast_eq hl (hk R (Oq _)) k1,(k1.map fun _ h=>ZX h).shift.xor (hk R (Oq _)).is⟩
theorem dec_eq {ws:List Nat} {ks:List B} {R:Nat} (hR:ks.length=R + 1) (h1:1<=R) (hl:ws.length=4 * (R + 1)) (h0:Za7 ws 0 (ks.getD R [])) (hk:∀r,0 < r->r < R->UnKeyAt ws r (ks.getD (R - r) [])) (hz:Za7 ws R (ks.getD 0 [])) {s:B} (hs:Yc s) :
 dec ws (bigOf s)=bigOf (unblockBy ks s)/\Yc (unblockBy ks s):=by
 have hn:ws.length / 4 - 2=R - 1:=by omega
 have key:∀n,n<=R - 1->Yc ((Ob n).foldl (fun (s:B) (r:Nat)=>unmix (OG ((unshift s).map back) (ks.getD (R - 1 - r) []))) (OG s (ks.getD R [])))/\
  (Ob n).foldl (J4 ws) (YF ws (bigOf s))=q4 ((Ob n).foldl (fun (s:B) (r:Nat)=>unmix (OG ((unshift s).map back) (ks.getD (R - 1 - r) []))) (OG s (ks.getD R []))):=by
  intro n
  induction n with
  | zero=>intro _; exact ⟨hs.xor h0.is,opened_eq h0 hs⟩
  | succ n ih=>
   intro hn
   obtain ⟨i1,i2⟩:=ih (by exact qw1)
   rw [Yd,OI,OI,i2]
   have hkn:=hk (n + 1) (by simp) (by omega)
   have e:R - (n + 1)=R - 1 - n:=by lia
   rw [e] at hkn
   exact ⟨Zdu _,decStep_eq hkn i1⟩
 obtain ⟨k1,k2⟩:=key (R - 1) (Oq _)
 unfold dec unblockBy
 simp only []
 rw [hn,k2,hR,VQ]
 exact ⟨decLast_eq hl hz k1,(k1.unshift.map fun _ h=>Y3 h).xor hz.is⟩
end Oc
namespace Oc
open Sy23
def subW (w:Nat):Nat:=J2 BOX w w w w
def rotW (w:Nat):Nat:=(w * 2 ^ 8 ||| w / 2 ^ 24) &&& 4294967295
def dblC (c:Nat):Nat:=if 255 < c * 2 ^ 1 then c * 2 ^ 1 ^^^ 283 else c * 2 ^ 1
def QE (nk:Nat) (st:List Nat×Nat):List Nat×Nat:=
 if st.1.length % nk=0 then (st.1 ++ [st.1.getD (st.1.length - nk) 0 ^^^ (subW (rotW (st.1.getD (st.1.length - 1) 0)) ^^^ st.2 * 2 ^ 24)],dblC st.2)
 else if nk=8/\st.1.length % 8=4 then (st.1 ++ [st.1.getD (st.1.length - nk) 0 ^^^ subW (st.1.getD (st.1.length - 1) 0)],st.2)
 else (st.1 ++ [st.1.getD (st.1.length - nk) 0 ^^^ st.1.getD (st.1.length - 1) 0],st.2)
def YH (k:Nat) (b:B):List Nat:=(pieces k b).map bigOf
def XX (key:B) (j:Nat):List Nat×Nat:=(Ob j).foldl (fun st _=>QE (key.length / 4) st) (YH 4 key,1)
def kw (key:B):List Nat:=(XX key (3 * (key.length / 4) + 28)).1
structure YU (key:B):Prop where
 len:key.length=16∨key.length=24∨key.length=32
 byt:Bytes key
def Fours (w:List B):Prop:=∀x,x∈w->x.length=4/\Bytes x
theorem ZcT {x:B} (h:x.length=4/\Bytes x):∃a b c d,x=[a,b,c,d]/\Bytes [a,b,c,d]:=by
 obtain ⟨hl,hb⟩:=h
 match x,hl with
 | [a,b,c,d],_=>exact ⟨a,b,c,d,rfl,hb⟩
theorem subW_eq {a b c d:Nat} (h:Bytes [a,b,c,d]):subW (bigOf [a,b,c,d])=bigOf [sub a,sub b,sub c,sub d]:=by
 unfold subW J2
 rw [W2 h,Ql h,Qm h,Qn h]
 rw [ZV] at h
 rw [Yb h.1,Yb h.2.1,Yb h.2.2.1,Yb h.2.2.2,Qk (ZV.mpr ⟨ZX h.1,ZX h.2.1,ZX h.2.2.1,ZX h.2.2.2⟩)]
theorem rotW_eq {a b c d:Nat} (h:Bytes [a,b,c,d]):rotW (bigOf [a,b,c,d])=bigOf [b,c,d,a]:=by
 unfold rotW
 rw [W2 h,Zb9]
 rw [ZV] at h
 rw [WX 8 rfl (by simp [*]),big4,big4]
 lia
theorem dblC_eq {c:Nat} (h:c < 256):dblC c=mul 2 c:=by
 have:∀c,c < 256->dblC c=mul 2 c:=by decide +kernel
 exact this c h
theorem XF (w:List B) (i:Nat):(w.map bigOf).getD i 0=bigOf (w.getD i []):=by
 rw [Oe,Oe,OP]
 cases w[i]? <;> rfl
theorem Fours.at {w:List B} (h:Fours w) {i:Nat} (hi:i < w.length):(w.getD i []).length=4/\Bytes (w.getD i []):=by
 rw [Oe,Of hi]
 exact h _ (Uw hi)
theorem ZaI {b:B} {i n:Nat} (h:i + n<=b.length):(part b i n).length=n:=by simp [part]; lia
theorem ZdY {b:B} (h:Bytes b):Fours (pieces 4 b):=fun x hx=>by
 obtain ⟨i,hi,rfl⟩:=OK.mp hx
 rw [OR] at hi
 exact ⟨ZaI (by lia),WI h _ _⟩
theorem YO (k:Nat) (b:B):(pieces k b).length=b.length / k:=by simp [pieces]
def Zbo (nk:Nat) (w:List B):List B:=
 let i:=w.length
 let t:=w.getD (i - 1) []
 let u:=if i % nk=0 then OG ((t.drop 1 ++ t.take 1).map sub) [power 2 (i / nk - 1),0,0,0] else if 6 < nk/\i % nk=4 then t.map sub else t
 w ++ [OG (w.getD (i - nk) []) u]
def wAt (key:B) (j:Nat):List B:=(Ob j).foldl (fun w _=>Zbo (key.length / 4) w) (pieces 4 key)
theorem ZgC (key:B):words key=wAt key (3 * (key.length / 4) + 28):=rfl
structure KwIn (key:B) (j:Nat):Prop where
 four:Fours (wAt key j)
 len:(wAt key j).length=key.length / 4 + j
 fst:(XX key j).1=(wAt key j).map bigOf
 snd:(XX key j).2=power 2 ((key.length / 4 + j - 1) / (key.length / 4))
theorem kwAt_succ (key:B) (j:Nat):XX key (j + 1)=QE (key.length / 4) (XX key j):=by
 unfold XX
 rw [Yd,OI]
 rfl
theorem wAt_succ (key:B) (j:Nat):wAt key (j + 1)=Zbo (key.length / 4) (wAt key j):=by
 unfold wAt
 rw [Yd,OI]
 rfl
theorem div_step {nk i:Nat} (hn:0 < nk) (hi:nk<=i):(i % nk=0->(i - 1) / nk=i / nk - 1/\i / nk=(i - 1) / nk + 1)/\(i % nk≠0->(i - 1) / nk=i / nk):=by
 have hd:=Nat.div_add_mod i nk
 have hm:=Ik i hn
 constructor
 ·intro h
  rw [h,TJ] at hd
  have hq:1<=i / nk:=(Nat.le_div_iff_mul_le hn).mpr (by simp [*])
  obtain ⟨q,hq'⟩:∃q,i / nk=q + 1:=⟨i / nk - 1,by simp [*]⟩
  rw [hq'] at hd ⊢
  have e:(i - 1) / nk=q:=by
   rw [Nat.div_eq_iff hn]
   rw [Tq,Nat.mul_one] at hd
   rw [O3] at hd
   constructor <;> lia
  rw [e]; simp
 ·intro h
  rw [Nat.div_eq_iff hn]
  rw [O3] at hd
  constructor <;> lia
theorem kwIn_zero {key:B} (hk:YU key):KwIn key 0:=by
 refine ⟨ZdY hk.byt,YO 4 key,rfl,?_⟩
 have hn:0 < key.length / 4:=by have:=hk.len; lia
 have:(key.length / 4 + 0 - 1) / (key.length / 4)=0:=Vo (by omega)
 rw [this]
 rfl
theorem kwIn_succ {key:B} (hk:YU key) {j:Nat} (I:KwIn key j):KwIn key (j + 1):=by
 obtain ⟨hf,hl,h1,h2⟩:=I
 obtain ⟨nk,hn0⟩:∃nk,key.length / 4=nk:=⟨_,rfl⟩
 have hnk:nk=4∨nk=6∨nk=8:=by have:=hk.len; lia
 rw [hn0] at hl h2
 have hlen1:(XX key j).1.length=nk + j:=by rw [h1,Od,hl]
 obtain ⟨a,b,c,d,e1,b1⟩:=ZcT (hf.at (i:=nk + j - 1) (by lia))
 obtain ⟨a',b',c',d',e2,b2⟩:=ZcT (hf.at (i:=nk + j - nk) (by lia))
 have g1:(XX key j).1.getD (nk + j - 1) 0=bigOf [a,b,c,d]:=by rw [h1,XF,e1]
 have g2:(XX key j).1.getD (nk + j - nk) 0=bigOf [a',b',c',d']:=by rw [h1,XF,e2]
 have hd:=div_step (nk:=nk) (i:=nk + j) (by lia) (by simp)
 have hb1:=ZV.mp b1
 have hs:=ZV.mpr ⟨ZX hb1.1,ZX hb1.2.1,ZX hb1.2.2.1,ZX hb1.2.2.2⟩
 -- the new row
 have fin:∀(u:B) (con:Nat),u.length=4/\Bytes u->Zbo nk (wAt key j)=wAt key j ++ [OG [a',b',c',d'] u]->QE nk (XX key j)=((XX key j).1 ++ [bigOf [a',b',c',d'] ^^^ bigOf u],con)->con=power 2 ((nk + (j + 1) - 1) / nk)->
  Fours (Zbo nk (wAt key j))/\(Zbo nk (wAt key j)).length=nk + (j + 1)/\(QE nk (XX key j)).1=(Zbo nk (wAt key j)).map bigOf/\(QE nk (XX key j)).2=power 2 ((nk + (j + 1) - 1) / nk):=by
  intro u con hu ew ek ec
  rw [ew,ek]
  refine ⟨fun x hx=>?_,by simp [hl]; lia,?_,ec⟩
  ·rcases IG.mp hx with hx | hx
   ·exact hf x hx
   ·rw [IB] at hx
    subst hx
    exact ⟨by rw [ZbV (by rw [hu.1]; rfl)]; rfl,ZcO b2 hu.2⟩
  ·rw [Ih,h1]
   show _ ++ [_]=_ ++ [_]
   rw [WT b2 hu.2 (by rw [hu.1]; rfl)]
 have pl:power 2 ((nk + j - 1) / nk) < 256:=Zar (by decide) _
 suffices H:Fours (Zbo nk (wAt key j))/\(Zbo nk (wAt key j)).length=nk + (j + 1)/\(QE nk (XX key j)).1=(Zbo nk (wAt key j)).map bigOf/\(QE nk (XX key j)).2=power 2 ((nk + (j + 1) - 1) / nk) by
  have ew:wAt key (j + 1)=Zbo nk (wAt key j):=by rw [<- hn0]; exact wAt_succ key j
  have ek:XX key (j + 1)=QE nk (XX key j):=by rw [<- hn0]; exact kwAt_succ key j
  obtain ⟨q1,q2,q3,q4⟩:=H
  exact ⟨by rw [ew]; exact q1,by rw [ew,hn0]; exact q2,by rw [ew,ek]; exact q3,by rw [ek,hn0]; exact q4⟩
 have ei:nk + (j + 1) - 1=nk + j:=by simp
 by_cases hm:(nk + j) % nk=0
 ·obtain ⟨d1,d2⟩:=hd.1 hm
  refine fin (OG [sub b,sub c,sub d,sub a] [power 2 ((nk + j) / nk - 1),0,0,0]) (dblC (XX key j).2) ?_ ?_ ?_ ?_
  ·have hb:Bytes [sub b,sub c,sub d,sub a]:=ZV.mpr ⟨ZX hb1.2.1,ZX hb1.2.2.1,ZX hb1.2.2.2,ZX hb1.1⟩
   exact ⟨rfl,ZcO hb (ZV.mpr ⟨Zar (by decide) _,by decide,by decide,by decide⟩)⟩
  ·simp only [Zbo,hl,if_pos hm,e1,e2]
   rfl
  ·simp only [QE,hlen1,if_pos hm,g1,g2]
   rw [rotW_eq b1,subW_eq (ZV.mpr ⟨hb1.2.1,hb1.2.2.1,hb1.2.2.2,hb1.1⟩)]
   have hc:(XX key j).2 * 2 ^ 24=bigOf [power 2 ((nk + j) / nk - 1),0,0,0]:=by
    rw [h2,d1,big4]; lia
   have hx:bigOf (OG [sub b,sub c,sub d,sub a] [power 2 ((nk + j) / nk - 1),0,0,0])=bigOf [sub b,sub c,sub d,sub a] ^^^ bigOf [power 2 ((nk + j) / nk - 1),0,0,0]:=
    WT (ZV.mpr ⟨ZX hb1.2.1,ZX hb1.2.2.1,ZX hb1.2.2.2,ZX hb1.1⟩) (ZV.mpr ⟨Zar (by decide) _,by decide,by decide,by decide⟩) rfl
   rw [hc,hx]
  ·rw [ei,d2,h2,dblC_eq pl]
   rfl
 ·have d1:=hd.2 hm
  by_cases h8:nk=8/\(nk + j) % 8=4
  ·refine fin [sub a,sub b,sub c,sub d] (XX key j).2 ⟨rfl,hs⟩ ?_ ?_ ?_
   ·have h6:6 < nk/\(nk + j) % nk=4:=⟨by simp [*],(congrArg (fun z=>(nk + j) % z) h8.1).trans h8.2⟩
    simp only [Zbo,hl,if_neg hm,if_pos h6,e1,e2]
    rfl
   ·simp only [QE,hlen1,if_neg hm,if_pos h8,g1,g2]
    rw [subW_eq b1]
   ·rw [ei,h2,d1]
  ·refine fin [a,b,c,d] (XX key j).2 ⟨rfl,b1⟩ ?_ ?_ ?_
   ·have h6:¬ (6 < nk/\(nk + j) % nk=4):=fun ⟨q1,q2⟩=>h8 (by
     have:nk=8:=by omega
     refine ⟨this,?_⟩
     rw [this] at q2 ⊢
     exact q2)
    simp only [Zbo,hl,if_neg hm,if_neg h6,e1,e2]
   ·simp only [QE,hlen1,if_neg hm,if_neg h8,g1,g2]
   ·rw [ei,h2,d1]
theorem kwIn {key:B} (hk:YU key) (j:Nat):KwIn key j:=by
 induction j with
 | zero=>exact kwIn_zero hk
 | succ j ih=>exact kwIn_succ hk ih
structure WordsOf (key:B) (R:Nat):Prop where
 rnd:R=key.length / 4 + 6
 four:Fours (words key)
 len:(words key).length=4 * (R + 1)
 eq:kw key=(words key).map bigOf
 klen:(kw key).length=4 * (R + 1)
theorem ZaN {key:B} (hk:YU key):WordsOf key (key.length / 4 + 6):=by
 have I:=kwIn hk (3 * (key.length / 4) + 28)
 have l:(words key).length=4 * (key.length / 4 + 6 + 1):=by rw [ZgC,I.len]; lia
 have k:kw key=(words key).map bigOf:=by rw [ZgC]; exact I.fst
 exact ⟨rfl,by rw [ZgC]; exact I.four,l,k,by rw [k,Od,l]⟩
theorem take4 {w:List B} {i:Nat} (h:i + 4<=w.length):(w.drop i).take 4=[w.getD i [],w.getD (i + 1) [],w.getD (i + 2) [],w.getD (i + 3) []]:=by
 have g:∀j,j < 4->i + j < w.length:=fun j hj=>by lia
 rw [Oe,Oe,Oe,Oe,Of (show i < w.length by lia),Of (g 1 (by decide)),Of (g 2 (by decide)),Of (g 3 (by decide))]
 rw [ID (show i < w.length by omega),ID (g 1 (by decide)),ID (g 2 (by decide)),ID (g 3 (by decide))]
 rfl
theorem keys_at {key:B} (hk:YU key) {r:Nat} (hr:r<=key.length / 4 + 6):(keys key).getD r []=(((words key).drop (4 * r)).take 4).flatten:=by
 unfold keys rounds
 rw [Oe,OP,Ud (by exact qw40)]
 rfl
theorem keys_len (key:B):(keys key).length=key.length / 4 + 6 + 1:=by simp [keys,rounds]
theorem keyAt {key:B} (hk:YU key) {r:Nat} (hr:r<=key.length / 4 + 6):Za7 (kw key) r ((keys key).getD r []):=by
 have W:=ZaN hk
 have hl:=W.len
 obtain ⟨a0,b0,c0,d0,e0,B0⟩:=ZcT (W.four.at (i:=4 * r) (by lia))
 obtain ⟨a1,b1,c1,d1,e1,B1⟩:=ZcT (W.four.at (i:=4 * r + 1) (by lia))
 obtain ⟨a2,b2,c2,d2,e2,B2⟩:=ZcT (W.four.at (i:=4 * r + 2) (by lia))
 obtain ⟨a3,b3,c3,d3,e3,B3⟩:=ZcT (W.four.at (i:=4 * r + 3) (by lia))
 rw [keys_at hk hr,take4 (by lia),W.eq]
 refine ⟨?_,?_,?_,?_,?_⟩
 ·rw [e0,e1,e2,e3]
  refine ⟨rfl,?_⟩
  show Bytes ([a0,b0,c0,d0] ++ ([a1,b1,c1,d1] ++ ([a2,b2,c2,d2] ++ [a3,b3,c3,d3])))
  rw [Z6,Z6,Z6]
  exact ⟨B0,B1,B2,B3⟩
 ·rw [XF,e0,e1,e2,e3]; rfl
 ·rw [XF,e0,e1,e2,e3]; rfl
 ·rw [XF,e0,e1,e2,e3]; rfl
 ·rw [XF,e0,e1,e2,e3]; rfl
def Zam (ws:List Nat) (j:Nat):List Nat:=
 if 0 < ws.length - 4 - 4 * j/\ws.length - 4 - 4 * j < ws.length - 4 then ((ws.drop (ws.length - 4 - 4 * j)).take 4).map Jv else (ws.drop (ws.length - 4 - 4 * j)).take 4
def Q3 (ws:List Nat) (n:Nat):List Nat:=(Ob n).flatMap (Zam ws)
def dkw (key:B):List Nat:=Q3 (kw key) (key.length / 4 + 7)
theorem Zdr (ws:List Nat) (n:Nat):Q3 ws (n + 1)=Q3 ws n ++ Zam ws n:=by
 unfold Q3
 rw [Yd,U1]
 simp
theorem dkwAt_len {ws:List Nat} {R j:Nat} (hl:ws.length=4 * (R + 1)) (hj:j<=R):(Zam ws j).length=4:=by
 unfold Zam
 split <;> simp <;> omega
theorem J9 {ws:List Nat} {R:Nat} (hl:ws.length=4 * (R + 1)):∀n,n<=R + 1->(Q3 ws n).length=4 * n:=by
 intro n
 induction n with
 | zero=>intro _; rfl
 | succ n ih=>intro hn; rw [Zdr,Og,ih (by omega),dkwAt_len hl (by omega)]; omega
theorem ZfS {ws:List Nat} {R:Nat} (hl:ws.length=4 * (R + 1)) {r i:Nat} (hi:i < 4):∀n,n<=R + 1->r < n->(Q3 ws n).getD (4 * r + i) 0=(Zam ws r).getD i 0:=by
 intro n
 induction n with
 | zero=>intro _ h; omega
 | succ n ih=>
  intro hn hr
  rw [Zdr,Oe,Oe]
  by_cases e:r=n
  ·subst e
   rw [Ic (by rw [J9 hl r (by exact qw1)]; simp),J9 hl r (by exact qw1)]
   congr 2
   simp
  ·rw [OZ (by rw [J9 hl n (by exact qw1)]; lia),<- Oe,ih (by exact qw1) (by lia),Oe]
theorem Zan {l:List Nat} {i n:Nat} (hi:i < 4):((l.drop n).take 4).getD i 0=l.getD (n + i) 0:=by
 rw [Oe,Oe,V8 hi,List.getElem?_drop]
theorem getD_map_un {l:List Nat} {i:Nat} (hi:i < l.length):(l.map Jv).getD i 0=Jv (l.getD i 0):=by
 rw [Oe,Oe,OP,Of hi]
 rfl
theorem dkw_first {ws:List Nat} {R:Nat} (hl:ws.length=4 * (R + 1)) {k:B} (h:Za7 ws R k):Za7 (Q3 ws (R + 1)) 0 k:=by
 have e:Zam ws 0=(ws.drop (4 * R)).take 4:=by
  unfold Zam
  rw [if_neg (by simp)]
  congr 2
  omega
 have g:∀i,i < 4->(Q3 ws (R + 1)).getD (4 * 0 + i) 0=ws.getD (4 * R + i) 0:=fun i hi=>by
  rw [ZfS hl hi (R + 1) (Oq _) (by simp),e,Zan hi]
 exact ⟨h.is,(g 0 (by decide)).trans h.w0,(g 1 (by decide)).trans h.w1,(g 2 (by decide)).trans h.w2,(g 3 (by decide)).trans h.w3⟩
theorem dkw_last {ws:List Nat} {R:Nat} (hl:ws.length=4 * (R + 1)) {k:B} (h:Za7 ws 0 k):Za7 (Q3 ws (R + 1)) R k:=by
 have e:Zam ws R=(ws.drop 0).take 4:=by
  unfold Zam
  rw [if_neg (by omega)]
  congr 2
  omega
 have g:∀i,i < 4->(Q3 ws (R + 1)).getD (4 * R + i) 0=ws.getD (4 * 0 + i) 0:=fun i hi=>by
  rw [ZfS hl hi (R + 1) (Oq _) (by simp),e,Zan hi]
 exact ⟨h.is,(g 0 (by decide)).trans h.w0,(g 1 (by decide)).trans h.w1,(g 2 (by decide)).trans h.w2,(g 3 (by decide)).trans h.w3⟩
theorem dkw_mid {ws:List Nat} {R r:Nat} (hl:ws.length=4 * (R + 1)) (h0:0 < r) (hR:r < R) {k:B} (h:Za7 ws (R - r) k):UnKeyAt (Q3 ws (R + 1)) r k:=by
 have e:Zam ws r=((ws.drop (4 * (R - r))).take 4).map Jv:=by
  unfold Zam
  rw [if_pos (by omega)]
  congr 3
  lia
 have g:∀i,i < 4->(Q3 ws (R + 1)).getD (4 * r + i) 0=Jv (ws.getD (4 * (R - r) + i) 0):=fun i hi=>by
  rw [ZfS hl hi (R + 1) (Oq _) (by exact qw41),e,getD_map_un (by simp; omega),Zan hi]
 exact ⟨h.is,(g 0 (by decide)).trans (congrArg Jv h.w0),(g 1 (by decide)).trans (congrArg Jv h.w1),(g 2 (by decide)).trans (congrArg Jv h.w2),(g 3 (by decide)).trans (congrArg Jv h.w3)⟩
theorem Zbb {key s:B} (hk:YU key) (hs:Yc s):enc (kw key) (bigOf s)=bigOf (blockBy (keys key) s)/\Yc (blockBy (keys key) s):=
 enc_eq (keys_len key) (by simp) (ZaN hk).klen (fun _ hr=>keyAt hk hr) hs
theorem dec_block {key s:B} (hk:YU key) (hs:Yc s):dec (dkw key) (bigOf s)=bigOf (unblockBy (keys key) s)/\Yc (unblockBy (keys key) s):=by
 have W:=ZaN hk
 have hl:=W.klen
 refine dec_eq (keys_len key) (by simp) ?_ (dkw_first hl (keyAt hk (Oq _))) (fun r h0 hR=>dkw_mid hl h0 hR (keyAt hk (by simp))) (dkw_last hl (keyAt hk (by simp [*]))) hs
 exact J9 hl _ (Oq _)
end Oc
namespace Oc
open Sy23
def HALF:Nat:=18446744073709551615
def Wb:Nat:=12008468691120727718
theorem Zao:bigOf first=Wb:=by decide +kernel
theorem ZaD:Bytes first:=fun x hx=>by
 rw [first,U5] at hx; omega
def Qj (x:B):Prop:=x.length=8/\Bytes x
theorem Qj.lt {x:B} (h:Qj x):bigOf x < 2 ^ 64:=by
 have:=WH h.2
 rw [h.1] at this
 exact this
theorem Qj.is16 {x y:B} (hx:Qj x) (hy:Qj y):Yc (x ++ y):=⟨by rw [Og,hx.1,hy.1],Z6.mpr ⟨hx.2,hy.2⟩⟩
theorem Qj.join {x y:B} (hx:Qj x) (hy:Qj y):bigOf x * 2 ^ 64 ||| bigOf y=bigOf (x ++ y):=by
 rw [Yr,hy.1]
 exact WX 64 rfl hy.lt
theorem Yc.take {s:B} (h:Yc s):Qj (s.take 8):=⟨by rw [OM,h.len]; rfl,XN h.byt 8⟩
theorem Yc.drop {s:B} (h:Yc s):Qj (s.drop 8):=⟨by rw [OS,h.len],XM h.byt 8⟩
theorem Yc.split {s:B} (h:Yc s):bigOf s / 2 ^ 64=bigOf (s.take 8)/\bigOf s &&& HALF=bigOf (s.drop 8):=by
 have e:bigOf s=bigOf (s.take 8) * 2 ^ 64 + bigOf (s.drop 8):=by
  conv=>lhs; rw [<- UB 8 s]
  rw [Yr,h.drop.1]
 have hl:=h.drop.lt
 have ha:bigOf s &&& HALF=bigOf s % 2 ^ 64:=O1 _ 64
 rw [ha,e]
 lia
theorem eight_big (t:Nat):Qj (big 8 t):=⟨Yv 8 t,WU 8 t⟩
theorem Qj.xor {x y:B} (hx:Qj x) (hy:Qj y):Qj (OG x y):=⟨by rw [ZbV (hx.1.trans hy.1.symm),hx.1],ZcO hx.2 hy.2⟩
theorem Qj.bigxor {x:B} (hx:Qj x) {t:Nat} (ht:t < 2 ^ 64):bigOf (OG x (big 8 t))=bigOf x ^^^ t:=by
 rw [WT hx.2 (WU 8 t) (by rw [hx.1,Yv]),QN,IM ht]
def ZaZ (r:List B):Prop:=∀x,x∈r->Qj x
theorem ZaZ.at {r:List B} (h:ZaZ r) {i:Nat} (hi:i < r.length):Qj (r.getD i []):=by
 rw [Oe,Of hi]
 exact h _ (Uw hi)
theorem ZaZ.set {r:List B} (h:ZaZ r) (i:Nat) {x:B} (hx:Qj x):ZaZ (r.set i x):=fun y hy=>by
 rcases V0 hy with hy | rfl
 ·exact h y hy
 ·exact hx
theorem Wl {b:B} (h:Bytes b):ZaZ (pieces 8 b):=fun x hx=>by
 obtain ⟨i,hi,rfl⟩:=OK.mp hx
 rw [OR] at hi
 exact ⟨ZaI (by lia),WI h _ _⟩
def wrapTo (ws:List Nat) (st:Nat×List Nat) (t k:Nat):Nat×List Nat:=
 (enc ws (st.1 * 2 ^ 64 ||| st.2.getD k 0) / 2 ^ 64 ^^^ t,st.2.set k (enc ws (st.1 * 2 ^ 64 ||| st.2.getD k 0) &&& HALF))
def ZcE (ws:List Nat) (st:Nat×List Nat) (t k:Nat):Nat×List Nat:=
 (dec ws ((st.1 ^^^ t) * 2 ^ 64 ||| st.2.getD k 0) / 2 ^ 64,st.2.set k (dec ws ((st.1 ^^^ t) * 2 ^ 64 ||| st.2.getD k 0) &&& HALF))
structure Qb (n:Nat) (w:Wrap) (st:Nat×List Nat):Prop where
 a:Qj w.a
 r:ZaZ w.r
 len:w.r.length=n
 fst:st.1=bigOf w.a
 snd:st.2=w.r.map bigOf
theorem Zfb (r:List B) (i:Nat) (x:B):(r.set i x).map bigOf=(r.map bigOf).set i (bigOf x):=List.map_set
theorem wrapTo_as {key:B} (hk:YU key) {n:Nat} {w:Wrap} {st:Nat×List Nat} (I:Qb n w st) {t:Nat} (ht:t < 2 ^ 64) (hn:0 < n):Qb n (w.step (keys key) t) (wrapTo (kw key) st t ((t - 1) % n)):=by
 obtain ⟨ha,hr,hl,h1,h2⟩:=I
 have hi:(t - 1) % n < w.r.length:=by rw [hl]; exact Ik _ hn
 have hx:=hr.at hi
 obtain ⟨e,hb⟩:=Zbb hk (ha.is16 hx)
 have e0:st.1 * 2 ^ 64 ||| st.2.getD ((t - 1) % n) 0=bigOf (w.a ++ w.r.getD ((t - 1) % n) []):=by rw [h1,h2,XF]; exact ha.join hx
 obtain ⟨s1,s2⟩:=hb.split
 unfold wrapTo Wrap.step
 simp only [hl,e0,e]
 refine ⟨hb.take.xor (eight_big t),hr.set _ hb.drop,by rw [IF]; exact hl,?_,?_⟩
 ·show _=bigOf (OG _ _)
  rw [hb.take.bigxor ht,s1]
 ·show _=(w.r.set _ _).map bigOf
  rw [Zfb,s2,h2]
theorem unwrapTo_as {key:B} (hk:YU key) {n:Nat} {w:Wrap} {st:Nat×List Nat} (I:Qb n w st) {t:Nat} (ht:t < 2 ^ 64) (hn:0 < n):Qb n (w.back (keys key) t) (ZcE (dkw key) st t ((t - 1) % n)):=by
 obtain ⟨ha,hr,hl,h1,h2⟩:=I
 have hi:(t - 1) % n < w.r.length:=by rw [hl]; exact Ik _ hn
 have hx:=hr.at hi
 have ha':=ha.xor (eight_big t)
 obtain ⟨e,hb⟩:=dec_block hk (ha'.is16 hx)
 have e0:(st.1 ^^^ t) * 2 ^ 64 ||| st.2.getD ((t - 1) % n) 0=bigOf (OG w.a (big 8 t) ++ w.r.getD ((t - 1) % n) []):=by
  rw [h1,h2,XF,<- ha.bigxor ht]; exact ha'.join hx
 obtain ⟨s1,s2⟩:=hb.split
 unfold ZcE Wrap.back
 simp only [hl,e0,e]
 refine ⟨hb.take,hr.set _ hb.drop,by rw [IF]; exact hl,?_,?_⟩
 ·show _=bigOf _
  rw [s1]
 ·show _=(w.r.set _ _).map bigOf
  rw [Zfb,s2,h2]
def Zdd (ws:List Nat) (n:Nat) (st:Nat×List Nat) (t:Nat):Nat×List Nat:=(Ob t).foldl (fun st t=>wrapTo ws st (t + 1) (t % n)) st
theorem ZgE (ws:List Nat) (n:Nat) (st:Nat×List Nat) (t:Nat):Zdd ws n st (t + 1)=wrapTo ws (Zdd ws n st t) (t + 1) (t % n):=by
 unfold Zdd
 rw [Yd,OI]
 rfl
theorem ZgD {key:B} (hk:YU key) {n:Nat} (hn:0 < n) {w:Wrap} {st:Nat×List Nat} (I:Qb n w st):∀t,t < 2 ^ 64->
 Qb n (((Ob t).map fun (t:Nat)=>t + 1).foldl (Wrap.step (keys key)) w) (Zdd (kw key) n st t):=by
 intro t
 induction t with
 | zero=>intro _; exact I
 | succ t ih=>
  intro ht
  rw [ZgE,Yd,Ih,OI]
  exact wrapTo_as hk (ih (by exact qw1)) ht hn
def JB (ws:List Nat) (n m:Nat) (st:Nat×List Nat) (t:Nat):Nat×List Nat:=(Ob t).foldl (fun st j=>ZcE ws st (m - j) ((m - j - 1) % n)) st
theorem Zeo (ws:List Nat) (n m:Nat) (st:Nat×List Nat) (t:Nat):JB ws n m st (t + 1)=ZcE ws (JB ws n m st t) (m - t) ((m - t - 1) % n):=by
 unfold JB
 rw [Yd,OI]
 rfl
theorem ZdF {key:B} (hk:YU key) {n m:Nat} (hn:0 < n) (hm:m < 2 ^ 64) {w:Wrap} {st:Nat×List Nat} (I:Qb n w st):∀t,
 Qb n (((Ob t).map fun (j:Nat)=>m - j).foldl (Wrap.back (keys key)) w) (JB (dkw key) n m st t):=by
 intro t
 induction t with
 | zero=>exact I
 | succ t ih=>
  rw [Zeo,Yd,Ih,OI]
  exact unwrapTo_as hk ih (show m - t < 2 ^ 64 by omega) hn
theorem rev_steps (m:Nat):((Ob m).map fun (t:Nat)=>t + 1).reverse=(Ob m).map fun (j:Nat)=>m - j:=by
 apply Ui
 ·simp
 ·intro i h1 h2
  simp at h1 h2 ⊢
  lia
def wide (l:List Nat):B:=l.flatMap (big 8)
theorem wide_as {r:List B} (h:ZaZ r):wide (r.map bigOf)=r.flatten:=by
 induction r with
 | nil=>rfl
 | cons x r ih=>
  have hx:=h x (Ow ..)
  have e:big 8 (bigOf x)=x:=by
   have:=Za9 hx.2
   rwa [hx.1] at this
  show big 8 (bigOf x) ++ wide (r.map bigOf)=x ++ r.flatten
  rw [e,ih fun y hy=>h y (Ov _ hy)]
def ZfF (key x:B):B:=
 let st:=Zdd (kw key) (x.length / 8) (Wb,YH 8 x) (6 * (x.length / 8))
 wide (st.1 :: st.2)
theorem ZdH {key x:B} (hk:YU key) (hx:Bytes x) (hn:0 < x.length / 8) (hl:x.length < 2 ^ 60):ZfF key x=wrapped key x:=by
 have I0:Qb (x.length / 8) ⟨first,pieces 8 x⟩ (Wb,YH 8 x):=⟨⟨rfl,ZaD⟩,Wl hx,YO 8 x,Zao.symm,rfl⟩
 have I:=ZgD hk hn I0 (6 * (x.length / 8)) (by lia)
 unfold ZfF wrapped steps
 simp only []
 rw [I.fst,I.snd]
 show big 8 (bigOf _) ++ wide _=_
 rw [wide_as I.r]
 have:=Za9 I.a.2
 rw [I.a.1] at this
 rw [this]
theorem ZcG {key x:B} (hk:YU key) (hx:Bytes x) (hn:0 < x.length / 8) (hl:x.length < 2 ^ 60) (h8:x.length % 8=0):(wrapped key x).length=x.length + 8/\Bytes (wrapped key x):=by
 have I0:Qb (x.length / 8) ⟨first,pieces 8 x⟩ (Wb,YH 8 x):=⟨⟨rfl,ZaD⟩,Wl hx,YO 8 x,Zao.symm,rfl⟩
 have I:=ZgD hk hn I0 (6 * (x.length / 8)) (by lia)
 unfold wrapped steps
 simp only []
 have hf:∀(r:List B),ZaZ r->r.flatten.length=8 * r.length/\Bytes r.flatten:=by
  intro r
  induction r with
  | nil=>intro _; exact ⟨rfl,Jp⟩
  | cons y r ih=>
   intro h
   have hy:=h y (Ow ..)
   obtain ⟨i1,i2⟩:=ih fun z hz=>h z (Ov _ hz)
   rw [Ut,Og,i1,hy.1,Oz]
   exact ⟨by exact IU _ _,Z6.mpr ⟨hy.2,i2⟩⟩
 obtain ⟨q1,q2⟩:=hf _ I.r
 rw [Og,q1,I.a.1,I.len]
 exact ⟨by lia,Z6.mpr ⟨I.a.2,q2⟩⟩
def Zab (key y:B):Option B:=
 let st:=JB (dkw key) (y.length / 8 - 1) (6 * (y.length / 8 - 1)) (bigOf (y.take 8),YH 8 (y.drop 8)) (6 * (y.length / 8 - 1))
 if st.1=Wb then some (wide st.2) else none
theorem ZbT {key y:B} (hk:YU key) (hy:Bytes y) (hn:16<=y.length) (hl:y.length < 2 ^ 60):Zab key y=unwrapped key y:=by
 have I0:Qb (y.length / 8 - 1) ⟨y.take 8,pieces 8 (y.drop 8)⟩ (bigOf (y.take 8),YH 8 (y.drop 8)):=
  ⟨⟨by rw [OM]; lia,XN hy 8⟩,Wl (XM hy 8),by rw [YO,OS]; lia,rfl,rfl⟩
 have I:=ZdF hk (n:=y.length / 8 - 1) (m:=6 * (y.length / 8 - 1)) (by lia) (by omega) I0 (6 * (y.length / 8 - 1))
 unfold Zab unwrapped steps
 simp only [rev_steps]
 rw [I.fst,I.snd,wide_as I.r]
 by_cases e:(((Ob (6 * (y.length / 8 - 1))).map fun (j:Nat)=>6 * (y.length / 8 - 1) - j).foldl (Wrap.back (keys key)) ⟨y.take 8,pieces 8 (y.drop 8)⟩).a=first
 ·rw [if_pos e,if_pos (by rw [e]; exact Zao)]
 ·rw [if_neg e,if_neg (fun q=>e (bigOf_inj I.a.2 ZaD (by rw [I.a.1]; rfl) (by rw [q]; exact Zao.symm)))]
theorem Za4 {key y z:B} (hk:YU key) (hy:Bytes y) (hn:16<=y.length) (hl:y.length < 2 ^ 60) (h8:y.length % 8=0) (h:unwrapped key y=some z):z.length + 8=y.length/\Bytes z:=by
 have I0:Qb (y.length / 8 - 1) ⟨y.take 8,pieces 8 (y.drop 8)⟩ (bigOf (y.take 8),YH 8 (y.drop 8)):=
  ⟨⟨by rw [OM]; lia,XN hy 8⟩,Wl (XM hy 8),by rw [YO,OS]; lia,rfl,rfl⟩
 have I:=ZdF hk (n:=y.length / 8 - 1) (m:=6 * (y.length / 8 - 1)) (by omega) (by omega) I0 (6 * (y.length / 8 - 1))
 unfold unwrapped steps at h
 simp only [rev_steps] at h
 have hf:∀(r:List B),ZaZ r->r.flatten.length=8 * r.length/\Bytes r.flatten:=by
  intro r
  induction r with
  | nil=>intro _; exact ⟨rfl,Jp⟩
  | cons y r ih=>
   intro h
   have hy:=h y (Ow ..)
   obtain ⟨i1,i2⟩:=ih fun z hz=>h z (Ov _ hz)
   rw [Ut,Og,i1,hy.1,Oz]
   exact ⟨by exact IU _ _,Z6.mpr ⟨hy.2,i2⟩⟩
 split at h
 ·cases h
  obtain ⟨q1,q2⟩:=hf _ I.r
  rw [q1,I.len]
  exact ⟨by lia,q2⟩
 ·cases h
end Oc
namespace Oc
open Sy23
def BLOCK:Nat:=340282366920938463463374607431768211455
def X4 (b:Nat):Nat:=if b / 2 ^ 127=1 then (b * 2 ^ 1 &&& BLOCK) ^^^ 135 else b * 2 ^ 1
theorem Yc.lt {s:B} (h:Yc s):bigOf s < 2 ^ 128:=by
 have:=WH h.byt
 rw [h.len] at this
 exact this
theorem is16_big (n:Nat):Yc (big 16 n):=⟨Yv 16 n,WU 16 n⟩
theorem Ze6 {n:Nat} (h:n < 2 ^ 128):bigOf (big 16 n)=n:=by
 rw [QN]
 exact IM h
theorem Yc.big {s:B} (h:Yc s):big 16 (bigOf s)=s:=by
 have:=Za9 h.byt
 rwa [h.len] at this
theorem ZdZ (s:B):Yc (doubled s):=is16_big _
theorem andBlock (x:Nat):x &&& BLOCK=x % 2 ^ 128:=O1 x 128
theorem Zgo {s:B} (h:Yc s):X4 (bigOf s)=bigOf (doubled s):=by
 have hl:=h.lt
 unfold X4 doubled
 simp only []
 have e2:bigOf s * 2 ^ 1=2 * bigOf s:=by lia
 rw [andBlock,e2]
 by_cases hc:2 ^ 127<=bigOf s
 ·have h1:bigOf s / 2 ^ 127=1:=by lia
  rw [if_pos h1,if_pos hc,Ze6]
  exact OA (n:=128) (Ik _ (by decide)) (by decide)
 ·have h1:¬ bigOf s / 2 ^ 127=1:=by lia
  rw [if_neg h1,if_neg hc,Ze6 (by lia)]
theorem ZfZ:Yc (zeros 16):=⟨rfl,QO 16⟩
theorem Zcb (n:Nat):bigOf (zeros n)=0:=by
 induction n with
 | zero=>rfl
 | succ n ih=>
  show bigOf (0 :: zeros n)=0
  rw [Zal,ih]; simp
def Zd1 (sub_:Nat) (rest:B):Nat:=if rest.length=16 then bigOf rest ^^^ sub_ else bigOf (rest ++ [128] ++ Ou (15 - rest.length) 0) ^^^ X4 sub_
def Zdf (n:Nat):Nat:=(n - 1) / 16 * 16
def markN (key b:B):B:=
 let ws:=kw key
 let y:=(YH 16 (b.take (Zdf b.length))).foldl (fun y x=>enc ws (y ^^^ x)) 0
 big 16 (enc ws (y ^^^ Zd1 (X4 (enc ws 0)) (b.drop (Zdf b.length))))
theorem nums_take {b:B} {n m:Nat} (hn:16 * n<=b.length) (hm:m=16 * n):YH 16 (b.take m)=(Ob n).map fun i=>bigOf (part b (16 * i) 16):=by
 unfold YH pieces
 rw [O8,OM,hm,UJ hn,Ve _ (by decide)]
 apply Ia
 intro i hi
 rw [OR] at hi
 simp only [Function.comp,part]
 rw [Ts,List.take_take]
 have e:min 16 (16 * n - 16 * i)=16:=by lia
 rw [e]
def Zd4 (key b:B) (n:Nat):B:=(Ob n).foldl (fun (y:B) (i:Nat)=>block key (OG y (part b (16 * i) 16))) (zeros 16)
def markP (key b:B) (n:Nat):Nat:=(Ob n).foldl (fun (y:Nat) (i:Nat)=>enc (kw key) (y ^^^ bigOf (part b (16 * i) 16))) 0
theorem markS_zero (key b:B):Zd4 key b 0=zeros 16:=rfl
theorem markP_zero (key b:B):markP key b 0=0:=rfl
theorem markS_succ (key b:B) (n:Nat):Zd4 key b (n + 1)=block key (OG (Zd4 key b n) (part b (16 * n) 16)):=by
 unfold Zd4
 rw [Yd,OI,Ig,IQ]
theorem markP_succ (key b:B) (n:Nat):markP key b (n + 1)=enc (kw key) (markP key b n ^^^ bigOf (part b (16 * n) 16)):=by
 unfold markP
 rw [Yd,OI,Ig,IQ]
theorem mark_fold0 {key b:B} (hk:YU key) (hb:Bytes b) (n:Nat):16 * n<=b.length->Yc (Zd4 key b n)/\markP key b n=bigOf (Zd4 key b n):=by
 induction n with
 | zero=>
  intro _
  rw [markS_zero,markP_zero,Zcb]
  exact ⟨ZfZ,rfl⟩
 | succ n ih=>
  intro hn
  obtain ⟨i1,i2⟩:=ih (by lia)
  have hp:Yc (part b (16 * n) 16):=⟨ZaI (by omega),WI hb _ _⟩
  rw [markS_succ,markP_succ,i2,<- WT i1.byt hp.byt (i1.len.trans hp.len.symm)]
  obtain ⟨t1,t2⟩:=Zbb hk (i1.xor hp)
  rw [t1]
  unfold block
  exact ⟨t2,rfl⟩
theorem mark_fold {key b:B} (hk:YU key) (hb:Bytes b) {n m:Nat} (hn:16 * n<=b.length) (hm:m=16 * n) :
 Yc (Zd4 key b n)/\(YH 16 (b.take m)).foldl (fun y x=>enc (kw key) (y ^^^ x)) 0=bigOf (Zd4 key b n):=by
 obtain ⟨h1,h2⟩:=mark_fold0 hk hb n hn
 refine ⟨h1,?_⟩
 rw [nums_take hn hm,List.foldl_map,<- h2]
 unfold markP
 rfl
theorem last_eq {key b:B} (hk:YU key) {rest:B} (hr:Bytes rest) (hl:rest.length<=16) {one:B} (h1:Yc one) :
 Yc (if rest.length=16 then OG rest one else OG (rest ++ (128 :: zeros (15 - rest.length))) (doubled one))/\
 Zd1 (bigOf one) rest=bigOf (if rest.length=16 then OG rest one else OG (rest ++ (128 :: zeros (15 - rest.length))) (doubled one)):=by
 unfold Zd1
 by_cases e:rest.length=16
 ·rw [if_pos e,if_pos e]
  have hr':Yc rest:=⟨e,hr⟩
  exact ⟨hr'.xor h1,(WT hr h1.byt (e.trans h1.len.symm)).symm⟩
 ·rw [if_neg e,if_neg e]
  have e':rest ++ [128] ++ Ou (15 - rest.length) 0=rest ++ (128 :: zeros (15 - rest.length)):=by rw [O7]; rfl
  have hr':Yc (rest ++ (128 :: zeros (15 - rest.length))):=⟨by simp [zeros]; lia,Z6.mpr ⟨hr,Y1.mpr ⟨by decide,QO _⟩⟩⟩
  have hd:=ZdZ one
  rw [e',Zgo h1]
  exact ⟨hr'.xor hd,(WT hr'.byt hd.byt (hr'.len.trans hd.len.symm)).symm⟩
theorem mark_eq {key b:B} (hk:YU key) (hb:Bytes b):markN key b=mark key b:=by
 have hn:(if b.length=0 then 0 else (b.length - 1) / 16)=(b.length - 1) / 16:=by
  split
  ·rename_i h; rw [h]
  ·rfl
 have ha:Zdf b.length=16 * ((b.length - 1) / 16):=by unfold Zdf; lia
 obtain ⟨f1,f2⟩:=mark_fold hk hb (n:=(b.length - 1) / 16) (by omega) ha
 have z:=Zbb hk ZfZ
 rw [Zcb] at z
 have h1:=ZdZ (block key (zeros 16))
 have es:X4 (enc (kw key) 0)=bigOf (doubled (block key (zeros 16))):=by rw [z.1]; exact Zgo z.2
 obtain ⟨l1,l2⟩:=last_eq (b:=b) hk (XM hb (16 * ((b.length - 1) / 16))) (by rw [OS]; omega) h1
 have e1:markN key b=big 16 (enc (kw key) ((YH 16 (b.take (Zdf b.length))).foldl (fun y x=>enc (kw key) (y ^^^ x)) 0 ^^^ Zd1 (X4 (enc (kw key) 0)) (b.drop (Zdf b.length)))):=by
  unfold markN
  rfl
 have q:=Zbb hk (f1.xor l1)
 rw [e1,f2,es,ha,l2,<- WT f1.byt l1.byt (f1.len.trans l1.len.symm),q.1,q.2.big]
 unfold mark
 simp only [hn]
 unfold Zd4 block
 rfl
def shareN (ws:List Nat) (i d y:Nat):Nat:=enc ws (i * 2 ^ 120 ||| d * 2 ^ 112 ||| y) / 2 ^ 64
theorem Zeg {key:B} (hk:YU key) {i d y:Nat} (hi:i < 256) (hd:d < 256) (hy:y < 2 ^ 64):shareN (kw key) i d y=f key d i y:=by
 have h16:Yc ([i,d] ++ (zeros 6 ++ big 8 y)):=⟨by simp [zeros,Yv],Z6.mpr ⟨Y1.mpr ⟨hi,Y1.mpr ⟨hd,Jp⟩⟩,Z6.mpr ⟨QO 6,WU 8 y⟩⟩⟩
 have e:i * 2 ^ 120 ||| d * 2 ^ 112 ||| y=bigOf ([i,d] ++ (zeros 6 ++ big 8 y)):=by
  have e1:i * 2 ^ 120 ||| d * 2 ^ 112=(i * 256 + d) * 2 ^ 112:=(WX 120 rfl (by omega)).trans (by omega)
  have e2:(i * 256 + d) * 2 ^ 112 ||| y=(i * 256 + d) * 2 ^ 112 + y:=WX 112 rfl (by omega)
  have e3:bigOf (zeros 6 ++ big 8 y)=y:=by
   rw [Yr,Zcb,QN,U8,UG]
   exact IM hy
  have e4:(zeros 6 ++ big 8 y).length=14:=by simp [zeros,Yv]
  have e5:bigOf [i,d]=i * 256 + d:=by simp [bigOf]; lia
  rw [e1,e2,Yr,e3,e4,e5]
 have q:=Zbb hk h16
 unfold shareN f
 rw [e,q.1,q.2.split.1]
 rfl
def ZbK (ws:List Nat) (d:Nat) (sign:Int) (x:Int×Int) (i:Nat):Int×Int:=
 if i % 2=0 then ((x.1 + sign * (shareN ws i d x.2.toNat:Nat)) % ((10 ^ (d / 2):Nat):Int),x.2)
 else (x.1,(x.2 + sign * (shareN ws i d x.1.toNat:Nat)) % ((10 ^ (d - d / 2):Nat):Int))
structure WE (d:Nat) (x:Nat×Nat):Prop where
 a:x.1 < 10 ^ (d / 2)
 b:x.2 < 10 ^ (d - d / 2)
theorem Qo {n:Nat} (h:n<=18):10 ^ n < 2 ^ 64:=IV (Ir (by decide) h) (by decide)
def up (x:Nat×Nat):Int×Int:=((x.1:Int),(x.2:Int))
theorem mix_fwd {key:B} (hk:YU key) {d i:Nat} (hd:d<=18) (hi:i < 10) {x:Nat×Nat} (hx:WE d x):ZbK (kw key) d 1 (up x) i=up (round key d x i)/\WE d (round key d x i):=by
 have p1:=Ul (a:=10) (n:=d / 2) (by decide)
 have p2:=Ul (a:=10) (n:=d - d / 2) (by decide)
 have la:x.1 < 2 ^ 64:=Ip hx.a (Qo (by lia))
 have lb:x.2 < 2 ^ 64:=Ip hx.b (Qo (by lia))
 unfold ZbK round up
 by_cases h:i % 2=0
 ·simp only [if_pos h,Ot]
  rw [Zeg hk (by exact qw15) (by exact ZbO) lb]
  refine ⟨?_,Ik _ p1,hx.b⟩
  rw [Int.one_mul]
  simp only [UR,Uz]
 ·simp only [if_neg h,Ot]
  rw [Zeg hk (by exact qw15) (by omega) la]
  refine ⟨?_,hx.a,Ik _ p2⟩
  rw [Int.one_mul]
  simp only [UR,Uz]
theorem Zff {a f m:Nat} (hm:0 < m):((a:Int) + -1 * (f:Int)) % (m:Int)=(((a + (m - f % m)) % m:Nat):Int):=by
 have hf:=Ik f hm
 rw [UR,Uz,Tf (VB hf),UR]
 have e:(a:Int) + -1 * (f:Int)=(a:Int) - (f:Int):=by lia
 rw [e]
 have e2:(a:Int) + ((m:Int) - (f:Int) % (m:Int))=((a:Int) - (f:Int) % (m:Int)) + (m:Int):=by lia
 rw [e2,Int.add_emod_right]
 exact (Int.sub_emod_emod _ _ _).symm
theorem mix_back {key:B} (hk:YU key) {d i:Nat} (hd:d<=18) (hi:i < 10) {x:Nat×Nat} (hx:WE d x):ZbK (kw key) d (-1) (up x) i=up (unround key d x i)/\WE d (unround key d x i):=by
 have p1:=Ul (a:=10) (n:=d / 2) (by decide)
 have p2:=Ul (a:=10) (n:=d - d / 2) (by decide)
 have la:x.1 < 2 ^ 64:=Ip hx.a (Qo (by omega))
 have lb:x.2 < 2 ^ 64:=Ip hx.b (Qo (by omega))
 unfold ZbK unround up
 by_cases h:i % 2=0
 ·simp only [if_pos h,Ot]
  rw [Zeg hk (by omega) (by omega) lb]
  exact ⟨by rw [Zff p1],Ik _ p1,hx.b⟩
 ·simp only [if_neg h,Ot]
  rw [Zeg hk (by omega) (by omega) la]
  exact ⟨by rw [Zff p2],hx.a,Ik _ p2⟩
theorem halves_in {d x:Nat} (hx:x < 10 ^ d):WE d (halves d x):=by
 refine ⟨?_,Ik _ (Ul (by decide))⟩
 show x / 10 ^ (d - d / 2) < 10 ^ (d / 2)
 rw [Nat.div_lt_iff_lt_mul (Ul (by decide)),<- Nat.pow_add]
 have:d / 2 + (d - d / 2)=d:=by lia
 rw [this]; exact hx
end Oc
namespace Oc
open Sy23
def rotN (x k:Nat):Nat:=(x * 2 ^ k ||| x / 2 ^ (32 - k)) &&& 4294967295
theorem or_mod (x y:Nat):(x ||| y) % 2 ^ 32=(x % 2 ^ 32) ||| (y % 2 ^ 32):=Nat.or_mod_two_pow
theorem rotN_eq {x:Nat} (h:x < 2 ^ 32) (k:Nat):rotN x k=left x k:=by
 unfold rotN left W32
 have ha:∀z:Nat,z &&& 4294967295=z % 2 ^ 32:=fun z=>O1 z 32
 rw [ha,or_mod,IM (IV (Uq _ _) h)]
theorem left_lt {x:Nat} (h:x < 2 ^ 32) (k:Nat):left x k < 2 ^ 32:=Vg (Ik _ (by decide)) (IV (Uq _ _) h)
theorem turn5_mod {x:Nat} (h:x < 2 ^ 32):(x * 2 ^ 5 ||| x / 2 ^ 27) % 4294967296=left x 5:=by
 have:(4294967296:Nat)=2 ^ 32:=rfl
 rw [this,or_mod,IM (IV (Uq x (2 ^ 27)) h)]
 rfl
def Zcc (k b c d:Nat):Nat:=
 if k < 20 then (d ^^^ (b &&& (c ^^^ d))) + 1518500249
 else if k < 40 then (b ^^^ c ^^^ d) + 1859775393
 else if k < 60 then ((b &&& c) ||| (d &&& (b ||| c))) + 2400959708
 else (b ^^^ c ^^^ d) + 3395469782
theorem tb_lt {x i:Nat} (h:x < 2 ^ 32) (hi:¬ i < 32):x.testBit i=false:=Vk (OE h (Ir (by decide) (by exact qw6)))
theorem choose_eq {b c d:Nat} (hb:b < 2 ^ 32) (hc:c < 2 ^ 32) (hd:d < 2 ^ 32):d ^^^ (b &&& (c ^^^ d))=(b &&& c) ||| (other b &&& d):=by
 apply UD
 intro i
 have ho:(other b).testBit i=(decide (i < 32) && !b.testBit i):=by
  have e:other b=2 ^ 32 - (b + 1):=by unfold other W32; simp
  rw [e,Nat.testBit_two_pow_sub_succ hb]
 simp only [VC,Nat.testBit_and,Tv,ho]
 by_cases hi:i < 32
 ·simp only [hi,decide_true,UW]
  cases b.testBit i <;> cases c.testBit i <;> cases d.testBit i <;> rfl
 ·rw [tb_lt hb hi,tb_lt hc hi,tb_lt hd hi]
  simp [hi]
theorem major_eq (b c d:Nat):(b &&& c) ||| (d &&& (b ||| c))=(b &&& c) ||| ((b &&& d) ||| (c &&& d)):=by
 apply UD
 intro i
 simp only [Nat.testBit_and,Tv]
 cases b.testBit i <;> cases c.testBit i <;> cases d.testBit i <;> rfl
abbrev Q5:=Nat×Nat×Nat×Nat×Nat
def WB (w:List Nat) (q:Q5) (k:Nat):Q5:=
 (((q.1 * 2 ^ 5 ||| q.1 / 2 ^ 27) + Zcc k q.2.1 q.2.2.1 q.2.2.2.1 + q.2.2.2.2 + w.getD k 0) &&& 4294967295,q.1,rotN q.2.1 30,q.2.2.1,q.2.2.2.1)
def l5 (q:Q5):List Nat:=[q.1,q.2.1,q.2.2.1,q.2.2.2.1,q.2.2.2.2]
structure In5 (q:Q5):Prop where
 a:q.1 < 2 ^ 32
 b:q.2.1 < 2 ^ 32
 c:q.2.2.1 < 2 ^ 32
 d:q.2.2.2.1 < 2 ^ 32
 e:q.2.2.2.2 < 2 ^ 32
theorem sha_fresh {a b c d e:Nat} (ha:a < 2 ^ 32) (hb:b < 2 ^ 32) (hc:c < 2 ^ 32) (hd:d < 2 ^ 32) (t w:Nat) :
 ((a * 2 ^ 5 ||| a / 2 ^ 27) + Zcc t b c d + e + w) &&& 4294967295 =
  (left a 5 + (if t < 20 then (b &&& c) ||| (other b &&& d) else if 40<=t/\t < 60 then (b &&& c) ||| ((b &&& d) ||| (c &&& d)) else b ^^^ (c ^^^ d)) + e + (if t < 20 then 0x5A827999 else if t < 40 then 0x6ED9EBA1 else if t < 60 then 0x8F1BBCDC else 0xCA62C1D6) + w) % W32:=by
 have hm:=turn5_mod ha
 have hW:W32=4294967296:=rfl
 rw [Zb9,hW]
 unfold Zcc
 by_cases h1:t < 20
 ·rw [if_pos h1,if_pos h1,if_pos h1,choose_eq hb hc hd]
  lia
 ·rw [if_neg h1,if_neg h1,if_neg h1]
  by_cases h2:t < 40
  ·have:¬ (40<=t/\t < 60):=by lia
   rw [if_pos h2,if_pos h2,if_neg this,IP]
   lia
  ·rw [if_neg h2,if_neg h2]
   by_cases h3:t < 60
   ·have:40<=t/\t < 60:=by lia
    rw [if_pos h3,if_pos h3,if_pos this,major_eq]
    lia
   ·have:¬ (40<=t/\t < 60):=by simp [*]
    rw [if_neg h3,if_neg h3,if_neg this,IP]
    lia
theorem shaStep_eq {w:List Nat} {q:Q5} (h:In5 q) (t:Nat):Sy23.step w (l5 q) t=l5 (WB w q t)/\In5 (WB w q t):=by
 obtain ⟨a,b,c,d,e⟩:=q
 obtain ⟨ha,hb,hc,hd,he⟩:=h
 simp only at ha hb hc hd he
 constructor
 ·show [_,_,_,_,_]=[_,_,_,_,_]
  simp only [WB,rotN_eq hb]
  rw [sha_fresh ha hb hc hd]
  rfl
 ·refine ⟨?_,ha,?_,hc,hd⟩
  ·show (_ &&& 4294967295) < _
   rw [Zb9]
   exact Ik _ (by decide)
  ·show rotN b 30 < _
   rw [rotN_eq hb]
   exact left_lt hb 30
theorem sha_fold {w:List Nat} {q:Q5} (h:In5 q):∀n,(Ob n).foldl (Sy23.step w) (l5 q)=l5 ((Ob n).foldl (WB w) q)/\In5 ((Ob n).foldl (WB w) q):=by
 intro n
 induction n with
 | zero=>exact ⟨rfl,h⟩
 | succ n ih=>
  obtain ⟨i1,i2⟩:=ih
  rw [Yd,OI,OI,i1]
  simp only [Ig,IQ]
  exact shaStep_eq i2 n
def Zci (w:List Nat):List Nat:=w ++ [rotN (w.getD (w.length - 3) 0 ^^^ w.getD (w.length - 8) 0 ^^^ w.getD (w.length - 14) 0 ^^^ w.getD (w.length - 16) 0) 1]
def drawn (w:List Nat) (n:Nat):List Nat:=(Ob n).foldl (fun w _=>Zci w) w
def Yl (w:List Nat):Prop:=∀x,x∈w->x < 2 ^ 32
theorem Yl.at {w:List Nat} (h:Yl w) (i:Nat):w.getD i 0 < 2 ^ 32:=by
 rw [Oe]
 cases e:w[i]? with
 | none=>decide
 | some v=>exact h v (O5 e)
theorem Zds (w:List Nat) (n:Nat):drawn w (n + 1)=Zci (drawn w n):=by
 unfold drawn
 rw [Yd,OI]
 rfl
theorem drawn_len (w:List Nat) (n:Nat):(drawn w n).length=w.length + n:=by
 induction n with
 | zero=>rfl
 | succ n ih=>rw [Zds,Zci,Og,ih]; rfl
theorem ZfT {w:List Nat} (h:Yl w):∀n,Yl (drawn w n)/\drawn w n=(Ob n).foldl (fun (w:List Nat) (_:Nat)=>let i:=w.length; w ++ [left (w.getD (i - 3) 0 ^^^ (w.getD (i - 8) 0 ^^^ (w.getD (i - 14) 0 ^^^ w.getD (i - 16) 0))) 1]) w:=by
 intro n
 induction n with
 | zero=>exact ⟨h,rfl⟩
 | succ n ih=>
  obtain ⟨i1,i2⟩:=ih
  rw [Zds,Yd,OI,<- i2]
  simp only [Ig,IQ]
  have hx:(drawn w n).getD ((drawn w n).length - 3) 0 ^^^ (drawn w n).getD ((drawn w n).length - 8) 0 ^^^ (drawn w n).getD ((drawn w n).length - 14) 0 ^^^ (drawn w n).getD ((drawn w n).length - 16) 0 < 2 ^ 32:=
   OA (OA (OA (i1.at _) (i1.at _)) (i1.at _)) (i1.at _)
  unfold Zci
  rw [rotN_eq hx]
  refine ⟨fun x hm=>?_,by simp only [IP]⟩
  rcases IG.mp hm with hm | hm
  ·exact i1 x hm
  ·rw [IB] at hm
   subst hm
   exact left_lt hx 1
theorem more_eq {w:List Nat} (h:Yl w):drawn w 64=more w:=(ZfT h 64).2
def XE (st w:List Nat):List Nat:=
 let q:=(Ob 80).foldl (WB (drawn w 64)) (st.getD 0 0,st.getD 1 0,st.getD 2 0,st.getD 3 0,st.getD 4 0)
 V9 (fun x y=>(x + y) &&& 4294967295) st (l5 q)
structure St5 (st:List Nat):Prop where
 len:st.length=5
 w:Yl st
theorem ZcM {st:List Nat} {b:B} (hs:St5 st) (hw:Yl (YH 4 b)):XE st (YH 4 b)=summed st b/\St5 (XE st (YH 4 b)):=by
 obtain ⟨hl,hs⟩:=hs
 match st,hl with
 | [a,bb,c,d,e],_=>
  have i5:In5 (a,bb,c,d,e):=⟨hs a (by simp),hs bb (by simp),hs c (by simp),hs d (by simp),hs e (by simp)⟩
  have e1:XE [a,bb,c,d,e] (YH 4 b)=summed [a,bb,c,d,e] b:=by
   unfold XE summed
   simp only []
   have:=(sha_fold (w:=drawn (YH 4 b) 64) i5 80).1
   rw [more_eq hw] at this ⊢
   have hf:(fun x y=>(x + y) &&& 4294967295)=fun (x y:Nat)=>(x + y) % W32:=by
    funext x y
    exact Zb9 _
   rw [hf]
   exact congrArg (V9 _ [a,bb,c,d,e]) this.symm
  refine ⟨e1,?_⟩
  unfold XE
  simp only []
  refine ⟨rfl,fun x hx=>?_⟩
  have hm:∀y z:Nat,(y + z) &&& 4294967295 < 2 ^ 32:=fun y z=>by rw [Zb9]; exact Ik _ (by decide)
  simp only [l5,To,Tt,ON,Uy,or_false] at hx
  rcases hx with rfl | rfl | rfl | rfl | rfl <;> exact hm _ _
end Oc
namespace Oc
open Sy23
def START:List Nat:=[1732584193,4023233417,2562383102,271733878,3285377520]
theorem st5_start:St5 START:=⟨rfl,by unfold Yl START; decide⟩
theorem ZeR {a b:B} {i k:Nat} (h:i + k<=a.length):part (a ++ b) i k=part a i k:=by
 unfold part
 rw [VD (by lia),VF (by rw [OS]; lia)]
theorem Zd6 {a b:B} {i k:Nat} (h:a.length<=i):part (a ++ b) i k=part b (i - a.length) k:=by
 unfold part
 rw [V6]
 rw [O2 h,Vz]
theorem Za2 {k:Nat} (hk:0 < k) {a b:B} {n:Nat} (ha:a.length=k * n):pieces k (a ++ b)=pieces k a ++ pieces k b:=by
 unfold pieces
 have e1:a.length / k=n:=by rw [ha,Ve _ hk]
 have e2:(a ++ b).length / k=n + b.length / k:=by rw [Og,ha,Nat.mul_add_div hk]
 rw [e1,e2,List.range_add,Ih,O8]
 congr 1
 ·apply Ia
  intro i hi
  rw [OR] at hi
  apply ZeR
  rw [ha]
  have:k * i + k=k * (i + 1):=by rw [Tq,Nat.mul_one]
  rw [this]
  exact Nat.mul_le_mul_left _ hi
 ·apply Ia
  intro i _
  simp only [Function.comp]
  rw [Zd6 (by rw [ha]; exact Nat.mul_le_mul_left _ (by simp)),ha]
  congr 1
  rw [Tq]; simp
theorem ZaH {k:Nat} (hk:0 < k) {a b:B} {n:Nat} (ha:a.length=k * n):YH k (a ++ b)=YH k a ++ YH k b:=by
 unfold YH
 rw [Za2 hk ha,Ih]
theorem JH {b:B} {k:Nat} (hk:0 < k) (h:b.length=k):pieces k b=[b]:=by
 unfold pieces
 rw [h,Nat.div_self hk]
 show [part b (k * 0) k]=[b]
 unfold part
 rw [Tb,VI,Iu (by simp [*])]
theorem nums_self {b:B} {k:Nat} (hk:0 < k) (h:b.length=k):YH k b=[bigOf b]:=by
 unfold YH
 rw [JH hk h]
 rfl
theorem ZbU {b:B} (h:Bytes b):Yl (YH 4 b):=fun x hx=>by
 obtain ⟨y,hy,rfl⟩:=OK.mp hx
 obtain ⟨h4,hb⟩:=ZdY h y hy
 have:=WH hb
 rw [h4] at this
 exact this
def Xo (w:List Nat) (n:Nat):List Nat:=w ++ [2147483648] ++ Ou (14 - w.length) 0 ++ [8 * n]
def tail8:B:=128 :: (zeros 47 ++ big 8 (8 * 72))
def Ze3:B:=128 :: (zeros 35 ++ big 8 (8 * 84))
theorem tail8_nums:YH 4 tail8=[2147483648] ++ Ou 12 0 ++ [8 * 72]:=by decide +kernel
theorem tail20_nums:YH 4 Ze3=[2147483648] ++ Ou 9 0 ++ [8 * 84]:=by decide +kernel
theorem bytes_tail8:Bytes tail8:=Y1.mpr ⟨by decide,Z6.mpr ⟨QO _,WU _ _⟩⟩
theorem bytes_tail20:Bytes Ze3:=Y1.mpr ⟨by decide,Z6.mpr ⟨QO _,WU _ _⟩⟩
theorem closed8 {k m:B} (hk:k.length=64) (hm:m.length=8):pieces 64 (closed (k ++ m))=[k,m ++ tail8]:=by
 have e:closed (k ++ m)=k ++ (m ++ tail8):=by
  unfold closed
  have hl:(k ++ m).length=72:=by rw [Og,hk,hm]
  rw [hl,O7]
  rfl
 rw [e,Za2 (n:=1) (by decide) (by omega),JH (by decide) hk,JH (by decide) (by rw [Og,hm]; rfl)]
 rfl
theorem closed20 {k m:B} (hk:k.length=64) (hm:m.length=20):pieces 64 (closed (k ++ m))=[k,m ++ Ze3]:=by
 have e:closed (k ++ m)=k ++ (m ++ Ze3):=by
  unfold closed
  have hl:(k ++ m).length=84:=by rw [Og,hk,hm]
  rw [hl,O7]
  rfl
 rw [e,Za2 (n:=1) (by decide) (by omega),JH (by decide) hk,JH (by decide) (by rw [Og,hm]; rfl)]
 rfl
theorem Zdz {w:List Nat} (h:Yl w):YH 4 (w.flatMap (big 4))=w:=by
 induction w with
 | nil=>rfl
 | cons x w ih=>
  show YH 4 (big 4 x ++ w.flatMap (big 4))=x :: w
  rw [ZaH (n:=1) (by decide) (Yv 4 x),nums_self (by decide) (Yv 4 x),ih fun y hy=>h y (Ov _ hy),QN,IM (h x (Ow ..))]
  rfl
theorem ZaE (w:List Nat):Bytes (w.flatMap (big 4)):=fun x hx=>by
 obtain ⟨y,_,hy⟩:=Vn.mp hx
 exact WU 4 y x hy
theorem Zbp (w:List Nat):(w.flatMap (big 4)).length=4 * w.length:=by
 induction w with
 | nil=>rfl
 | cons x w ih=>
  show (big 4 x ++ w.flatMap (big 4)).length=_
  rw [Og,ih,Yv,Oz]
  exact IU _ _
def XH (secret:B) (mask:Nat):List Nat:=XE START (YH 4 ((secret ++ Ou (64 - secret.length) 0).map fun x=>x ^^^ mask))
def ZaG (s1 s2:List Nat) (counter:Nat):List Nat:=
 XE s2 (Xo (XE s1 (Xo [counter / 2 ^ 32,counter &&& 4294967295] 72)) 84)
structure JC (s:B):Prop where
 len:s.length<=64
 byt:Bytes s
theorem counter_nums {c:Nat} (h:c < 2 ^ 64):YH 4 (big 8 c)=[c / 2 ^ 32,c &&& 4294967295]:=by
 have e:big 8 c=[c / 2 ^ 32,c &&& 4294967295].flatMap (big 4):=by
  apply bigOf_inj (WU _ _) (ZaE _)
  ·rw [Yv,Zbp]; rfl
  ·show _=bigOf (big 4 _ ++ (big 4 _ ++ []))
   rw [Um,Yr,QN,QN,QN,Yv,Zb9]
   lia
 rw [e,Zdz]
 intro x hx
 simp only [ON,Uy,or_false] at hx
 rcases hx with rfl | rfl
 ·lia
 ·rw [Zb9]; lia
theorem WW {s:B} (hs:JC s) {mask:Nat} (hm:mask < 256) {k:B} (hk:k=(s ++ zeros (64 - s.length)).map fun x=>x ^^^ mask):k.length=64/\Bytes k/\XH s mask=summed START k/\St5 (XH s mask):=by
 have hl:k.length=64:=by rw [hk]; simp [zeros]; have:=hs.len; simp [*]
 have hb:Bytes k:=by
  rw [hk]
  exact bytes_map (fun x hx=>ZY hx hm) (Z6.mpr ⟨hs.byt,QO _⟩)
 have e:XH s mask=XE START (YH 4 k):=by rw [hk]; rfl
 obtain ⟨q1,q2⟩:=ZcM st5_start (ZbU hb)
 rw [e]
 exact ⟨hl,hb,q1,q2⟩
theorem digest_eq {s:B} (hs:JC s) {c:Nat} (hc:c < 2 ^ 64):(ZaG (XH s 54) (XH s 92) c).flatMap (big 4)=keyed s (big 8 c)/\St5 (ZaG (XH s 54) (XH s 92) c):=by
 obtain ⟨li,bi,ei,si⟩:=WW hs (mask:=54) (by decide) rfl
 obtain ⟨lo,bo,eo,so⟩:=WW hs (mask:=92) (by decide) rfl
 have e1:Xo [c / 2 ^ 32,c &&& 4294967295] 72=YH 4 (big 8 c ++ tail8):=by
  rw [ZaH (n:=2) (by decide) (Yv 8 c),counter_nums hc,tail8_nums]
  rfl
 have b1:Bytes (big 8 c ++ tail8):=Z6.mpr ⟨WU 8 c,bytes_tail8⟩
 obtain ⟨q1,q2⟩:=ZcM si (ZbU b1)
 have inner:sum ((s ++ zeros (64 - s.length)).map (fun x=>x ^^^ 54) ++ big 8 c)=(XE (XH s 54) (Xo [c / 2 ^ 32,c &&& 4294967295] 72)).flatMap (big 4):=by
  unfold sum
  rw [closed8 li (Yv 8 c),e1,q1,ei]
  rfl
 rw [<- e1] at q2
 obtain ⟨w,hw⟩:∃w,XE (XH s 54) (Xo [c / 2 ^ 32,c &&& 4294967295] 72)=w:=⟨_,rfl⟩
 rw [hw] at q2 inner
 have e2:Xo w 84=YH 4 (w.flatMap (big 4) ++ Ze3):=by
  rw [ZaH (n:=5) (by decide) (by rw [Zbp,q2.len]),Zdz q2.w,tail20_nums]
  unfold Xo
  rw [q2.len]
  simp only [O7]
 have b2:Bytes (w.flatMap (big 4) ++ Ze3):=Z6.mpr ⟨ZaE w,bytes_tail20⟩
 obtain ⟨r1,r2⟩:=ZcM so (ZbU b2)
 rw [<- e2] at r1 r2
 have hd:ZaG (XH s 54) (XH s 92) c=XE (XH s 92) (Xo w 84):=by
  unfold ZaG
  rw [hw]
 rw [hd]
 refine ⟨?_,r2⟩
 unfold keyed
 simp only []
 rw [inner,sum,closed20 lo (by rw [Zbp,q2.len]),r1,eo]
 rfl
def Zaz (d:List Nat):Nat:=d.foldl (fun n w=>n * 2 ^ 32 ||| w) 0
def cutN (d:List Nat):Nat:=Zaz d / 2 ^ (8 * (16 - (Zaz d &&& 15))) &&& 2147483647
theorem whole_eq {d:List Nat} (h:Yl d):Zaz d=bigOf (d.flatMap (big 4)):=by
 unfold Zaz
 have H:∀(d:List Nat),Yl d->∀n:Nat,d.foldl (fun n w=>n * 2 ^ 32 ||| w) n=n * 256 ^ (d.flatMap (big 4)).length + bigOf (d.flatMap (big 4)):=by
  intro d
  induction d with
  | nil=>intro _ n; simp [bigOf]
  | cons x d ih=>
   intro hd n
   have hx:x < 2 ^ 32:=hd x (Ow ..)
   rw [Ig,ih (fun y hy=>hd y (Ov _ hy)),WX 32 rfl hx]
   show _=n * 256 ^ (big 4 x ++ d.flatMap (big 4)).length + bigOf (big 4 x ++ d.flatMap (big 4))
   have h4:(256:Nat) ^ 4=2 ^ 32:=by decide
   rw [Yr,QN,Og,Yv,Nat.pow_add,h4,IM hx,VN,TF,TC]
 rw [H d h 0,U8,UG]
theorem bigOf_div {h:B} (hb:Bytes h) {k:Nat} (hk:k<=h.length):bigOf h / 256 ^ k=bigOf (h.take (h.length - k)):=by
 have e:h.take (h.length - k) ++ h.drop (h.length - k)=h:=UB _ _
 have hl:(h.drop (h.length - k)).length=k:=by rw [OS]; omega
 have hlt:=WH (XM hb (h.length - k))
 rw [hl] at hlt
 conv=>lhs; rw [<- e]
 rw [Yr,hl,O3,Nat.mul_add_div (Ul (by decide)),Vo hlt,TJ]
theorem bigOf_mod {h:B} (hb:Bytes h) {k:Nat} (hk:k<=h.length):bigOf h % 256 ^ k=bigOf (h.drop (h.length - k)):=by
 have e:h.take (h.length - k) ++ h.drop (h.length - k)=h:=UB _ _
 have hl:(h.drop (h.length - k)).length=k:=by rw [OS]; omega
 have hlt:=WH (XM hb (h.length - k))
 rw [hl] at hlt
 conv=>lhs; rw [<- e]
 rw [Yr,hl,O3,Nat.mul_add_mod,IM hlt]
theorem cut_eq {d:List Nat} (h:St5 d):cutN d=cut (d.flatMap (big 4)):=by
 have hl:(d.flatMap (big 4)).length=20:=by rw [Zbp,h.len]
 have hb:=ZaE d
 unfold cutN cut
 rw [whole_eq h.w]
 generalize d.flatMap (big 4)=x at *
 have hx:bigOf x % 256=at_ x 19:=by
  have:=bigOf_mod hb (k:=1) (by simp [*])
  rw [Nat.pow_one] at this
  rw [this,hl]
  unfold at_
  rw [Oe,Of (by simp [*]:19 < x.length)]
  rw [show (20 - 1:Nat)=19 from rfl,ID (by omega:19 < x.length),O2 (by simp [*])]
  simp [bigOf]
 have ho:bigOf x &&& 15=at_ x 19 % 16:=by
  have:bigOf x &&& 15=bigOf x % 16:=O1 _ 4
  rw [this]; lia
 rw [ho]
 have hO:at_ x 19 % 16 < 16:=Ik _ (by decide)
 generalize at_ x 19 % 16=o at *
 have h31:∀z:Nat,z &&& 2147483647=z % 2 ^ 31:=fun z=>O1 z 31
 have hp:2 ^ (8 * (16 - o))=256 ^ (16 - o):=by rw [VO]
 rw [h31,hp,bigOf_div hb (by lia),hl]
 have e20:20 - (16 - o)=o + 4:=by lia
 rw [e20]
 have hbt:=XN hb (o + 4)
 have hlt:(x.take (o + 4)).length=o + 4:=by rw [OM,hl]; lia
 have hm:=bigOf_mod hbt (k:=4) (by simp [*])
 rw [hlt,VQ] at hm
 have hpart:part x o 4=(x.take (o + 4)).drop o:=by
  unfold part
  rw [Ts]
  congr 1
  simp
 rw [hpart,<- hm]
 have:(256:Nat) ^ 4=4294967296:=by decide
 rw [this]
 simp
def codeN (s1 s2:List Nat) (counter digits:Nat):B:=(Ob digits).map fun i=>48 + cutN (ZaG s1 s2 counter) / 10 ^ (digits - 1 - i) % 10
theorem Zfu {s:B} (hs:JC s) {c digits:Nat} (hc:c < 2 ^ 64):codeN (XH s 54) (XH s 92) c digits=code s c digits:=by
 obtain ⟨e,h5⟩:=digest_eq hs hc
 unfold codeN code
 rw [cut_eq h5,e]
end Oc
namespace L2
open PySem PySem.Spec PyProof.Rows
abbrev Key:=Sum Int Str
def keyIs:Key->Value->Bool
 | .inl k,v=>Value.isInt k v
 | .inr x,v=>Value.isStrOf x v
def keyH (w:World):Key->Int
 | .inl k=>hashInt k
 | .inr x=>hashStr w x
theorem XG:∀{k:Key} {v:Value},keyIs k v=true->(∃i t,k=Sum.inl i/\v=Value.int i t)∨(∃x t,k=Sum.inr x/\v=Value.str x t)
 | .inl i,v,h=>by
  obtain ⟨t,e⟩:=Value.isInt_shape (k:=i) (v:=v) h
  exact .inl ⟨i,t,rfl,e⟩
 | .inr x,v,h=>by
  obtain ⟨t,e⟩:=Value.isStrOf_shape (x:=x) (v:=v) h
  exact .inr ⟨x,t,rfl,e⟩
theorem keyIs_int (i:Int) (t:Tok):keyIs (.inl i) (.int i t)=true:=by simp [keyIs,Value.isInt]
theorem keyIs_str (x:Str) (t:Tok):keyIs (.inr x) (.str x t)=true:=by simp [keyIs,Value.isStrOf]
theorem key_ll (a b:Int):decide ((Sum.inl a:Key)=Sum.inl b)=(a == b):=by
 by_cases e:a=b
 ·subst e; simp
 ·have h:¬ (Sum.inl a:Key)=Sum.inl b:=fun q=>e (Sum.inl.inj q)
  rw [decide_eq_false h]
  exact (beq_eq_false_iff_ne.mpr e).symm
theorem key_rr (a b:Str):decide ((Sum.inr a:Key)=Sum.inr b)=decide (a=b):=by
 by_cases e:a=b
 ·subst e; simp
 ·have h:¬ (Sum.inr a:Key)=Sum.inr b:=fun q=>e (Sum.inr.inj q)
  rw [decide_eq_false h,decide_eq_false e]
theorem key_lr (a:Int) (b:Str):decide ((Sum.inl a:Key)=Sum.inr b)=false:=decide_eq_false (fun q=>nomatch q)
theorem key_rl (a:Str) (b:Int):decide ((Sum.inr a:Key)=Sum.inl b)=false:=decide_eq_false (fun q=>nomatch q)
def ZbJ (prog:Program) (w:World):PySem.KeyKind prog w Key where
 is:=keyIs
 hash:=keyH w
 inj:=fun v a b ha hb=>by
  rcases XG ha with ⟨i,t,rfl,rfl⟩ | ⟨x,t,rfl,rfl⟩
  ·rcases XG hb with ⟨j,u,rfl,e⟩ | ⟨y,u,rfl,e⟩
   ·injection e with e1 _; rw [e1]
   ·exact nomatch e
  ·rcases XG hb with ⟨j,u,rfl,e⟩ | ⟨y,u,rfl,e⟩
   ·exact nomatch e
   ·injection e with e1 _; rw [e1]
 byValue:=fun k v h=>by
  rcases XG h with ⟨i,t,rfl,rfl⟩ | ⟨x,t,rfl,rfl⟩ <;> rfl
 pyHash:=fun hv h=>by
  rcases XG hv with ⟨i,t,rfl,rfl⟩ | ⟨x,t,rfl,rfl⟩
  ·exact wpAny_pyHash_int h
  ·exact wpAny_pyHash_str h
 eqBool:=fun hu hv h=>by
  rcases XG hu with ⟨i,t,rfl,rfl⟩ | ⟨x,t,rfl,rfl⟩
  ·rcases XG hv with ⟨j,u,rfl,rfl⟩ | ⟨y,u,rfl,rfl⟩
   ·rw [key_ll] at h; exact wpAny_eqBool_int h
   ·rw [key_lr] at h; exact SeqAt.EqAt.int_str i t y u _ _ _ _ h
  ·rcases XG hv with ⟨j,u,rfl,rfl⟩ | ⟨y,u,rfl,rfl⟩
   ·rw [key_rl] at h; exact SeqAt.EqAt.str_int x t j u _ _ _ _ h
   ·rw [key_rr] at h; exact wpAny_eqBool_str h
 «strs»:=fun k x t v h=>by
  rcases XG h with ⟨i,u,rfl,e⟩ | ⟨y,u,rfl,e⟩
  ·exact nomatch e
  ·injection e with e1 _
   subst e1
   cases v <;> rfl
theorem mixKind_int (prog:Program) (w:World) (i:Int) (t:Tok):(ZbJ prog w).is (.inl i) (.int i t)=true:=keyIs_int i t
theorem mixKind_str (prog:Program) (w:World) (x:Str) (t:Tok):(ZbJ prog w).is (.inr x) (.str x t)=true:=keyIs_str x t
end L2
namespace L2
open PySem PySem.Spec PyProof.Rows
inductive V where
 | non | bl (b:Bool) | int (i:Int) | str (x:Str) | byt (b:Array UInt8) | flt (b:UInt64) | ref (a:Addr) | ty (n:String)
 deriving DecidableEq
def YE:V->Value->Prop
 | .non,u=>u=Value.none
 | .bl b,u=>u=Value.bool b
 | .int i,u=>∃t,u=Value.int i t
 | .str x,u=>∃t,u=Value.str x t
 | .byt b,u=>∃t,u=Value.bytes b t
 | .flt b,u=>∃t,u=Value.float b t
 | .ref a,u=>u=Value.ref a
 | .ty n,u=>u=Value.type n
abbrev Z8:List V->List Value->Prop:=Paired YE
theorem Z8.length {xs:List V} {us:List Value} (r:Z8 xs us):xs.length=us.length:=Paired.length r
theorem Z8.get:∀{xs:List V} {us:List Value} {i:Nat} {x:V},Z8 xs us->xs[i]?=some x->∃u,us[i]?=some u/\YE x u
 | _,_,_,_,.nil,e=>by simp at e
 | _,_,0,_,.cons r _,e=>by simp at e; subst e; exact ⟨_,rfl,r⟩
 | _,_,i + 1,x,.cons _ t,e=>by
  obtain ⟨u,h1,h2⟩:=Z8.get (i:=i) (x:=x) t (by simpa using e)
  exact ⟨u,by simpa using h1,h2⟩
theorem Z8.set {x:V} {u:Value} (r:YE x u):∀{xs:List V} {us:List Value} (i:Nat),Z8 xs us->Z8 (xs.set i x) (us.set i u)
 | _,_,_,.nil=>.nil
 | _,_,0,.cons _ t=>.cons r t
 | _,_,i + 1,.cons q t=>.cons q (Z8.set r i t)
theorem Z8.append:∀{xs ys:List V} {us ws:List Value},Z8 xs us->Z8 ys ws->Z8 (xs ++ ys) (us ++ ws)
 | _,_,_,_,.nil,s=>s
 | _,_,_,_,.cons r t,s=>.cons r (Z8.append t s)
theorem Z8.take:∀{xs:List V} {us:List Value} (n:Nat),Z8 xs us->Z8 (xs.take n) (us.take n)
 | _,_,0,_=>.nil
 | _,_,_ + 1,.nil=>.nil
 | _,_,n + 1,.cons r t=>.cons r (Z8.take n t)
theorem Z8.drop:∀{xs:List V} {us:List Value} (n:Nat),Z8 xs us->Z8 (xs.drop n) (us.drop n)
 | _,_,0,r=>r
 | _,_,_ + 1,.nil=>.nil
 | _,_,n + 1,.cons _ t=>Z8.drop n t
def RelO:Option V->Option Value->Prop
 | some v,some u=>YE v u
 | none,none=>True
 | _,_=>False
def KV {κ:Type}:List (κ×V)->List (κ×Value)->Prop:=Paired fun (p:κ×V) (q:κ×Value)=>p.1=q.1/\YE p.2 q.2
def kV:Key->V
 | .inl i=>.int i
 | .inr x=>.str x
inductive HO where
 /-- a list -/
 | lst (xs:List V)
 /-- a tuple (never changes) -/
 | tup (xs:List V)
 /-- a dict whose keys are ints and texts; one whose keys are tuples of ints and texts (the empty one is both) -/
 | dK (kvs:List (Key×V)) | dT (kvs:List (List Key×V))
 /-- a set of ints: its members,its size -/
 | set (S:Int->Bool) (n:Nat)
 /-- an instance of the class at C,its dict at dx,its attributes -/
 | ins (C dx:Addr) (fs:List (Str×V))
 /-- the dict of the instance at x -/
 | own (x:Addr)
 /-- the dict of an exception -/
 | xd (fs:List (Str×V))
 /-- a bound method,f of x -/
 | met (f x:Addr)
 /-- a range object lo,lo + 1,.. below hi -/
 | rng (lo hi:Int)
 /-- a thing that is known to the object (the script; a dict while a loop walks it): read,never written while it is so -/
 | frz (o:Obj) (u:HO)
 /-- a code object's table -/
 | tbl (ps:Array Value)
 /-- any other thing,by what is true of its one object (a def of one's own: SetO a S n:=HO.ext fun h=>..) -/
 | ext (φ:Heap->Prop)
abbrev Hp:=Addr->Option HO
def upd (H:Hp) (a:Addr) (o:HO):Hp:=fun b=>if b=a then some o else H b
theorem Zn {H:Hp} {a:Addr} {o:HO}:upd H a o a=some o:=by unfold upd; rw [if_pos rfl]
theorem ZN {H:Hp} {a b:Addr} {o:HO} (h:b≠a):upd H a o b=H b:=by unfold upd; rw [if_neg h]
theorem Jf {H:Hp} {a:Addr} {o u:HO}:upd (upd H a o) a u=upd H a u:=by
 funext b; unfold upd; split <;> rfl
theorem Zu {H:Hp} {a b:Addr} {o:HO} (h:H a=some o) (h':H b=none):a≠b:=by
 intro e; subst e; rw [h] at h'; cases h'
section
variable (P:Program) (w:World)
def W0 (H:Hp) (h:Heap) (a:Addr):HO->Prop
 | .lst xs=>xs.length<=sizeLine/\∃(its:List Value) (n:Nat),Z8 xs its/\h.get? a=some { cls:=.type "list",data:=.seq its.toArray n }
 | .tup xs=>xs.length<=sizeLine/\∃its:List Value,Z8 xs its/\IsTup h a its.toArray
 | .dK kvs=>kvs.length<=sizeLine/\(a == sysModules)=false/\∃vs,KV kvs vs/\h.DictOf (ZbJ P w) a vs
 | .dT kvs=>kvs.length<=sizeLine/\(a == sysModules)=false/\∃xs:List (List Key×Addr×Value),
  Paired (fun (p:List Key×V) (q:List Key×Addr×Value)=>p.1=q.1/\H q.2.1=some (.tup (p.1.map kV))/\YE p.2 q.2.2) kvs xs/\
  ∃o es ep,h.get? a=some o/\o.ExactDict/\o.data=.dict es ep/\es.toList=xs.map (entryOfKey (tupleKind (ZbJ P w)))/\(xs.map (·.1)).Nodup
 | .set S n=>h.SetOf (intKind P w) a S n
 | .ins C dx fs=>H dx=some (.own a)/\fs.length<=1000/\dx≠a/\h.get? a=some (PySem.W.instObj C dx)/\
  ∃mA,h.Ns1 dx mA/\(∀f,RelO (fs.lookup f) (mA f))/\PySem.Within mA (fs.map (·.1))
 | .own _=>∃o,h.get? a=some o
 | .xd fs=>∃mA,h.Ns1 a mA/\∀f,RelO (fs.lookup f) (mA f)
 | .rng lo hi=>∃t u v,h.get? a=some { cls:=.type "range",data:=.fields #[.int lo t,.int hi u,.int 1 v] }
 | .frz o u=>h.get? a=some o/\W0 H h a u
 | .tbl ps=>h.get? a=some { cls:=.none,data:=.fields ps }
 | .met f x=>h.get? a=some (PySem.W.methodObj (.ref f) (.ref x))
 | .ext φ=>φ h/\(∃o,h.get? a=some o)/\∀h1 h2:Heap,φ h1->(∀o,h1.get? a=some o->h2.get? a=some o)->φ h2
def HOk (H:Hp) (h:Heap):Prop:=∀a o,H a=some o->W0 P w H h a o
end
section
variable {P:Program} {w:World} {H H':Hp} {h h':Heap} {a:Addr} {o:HO}
theorem W0.lt (x:W0 P w H h a o):a < h.objs.size:=by
 cases o with
 | lst xs=>obtain ⟨_,_,_,_,e⟩:=x; exact Heap.lt_size e
 | tup xs=>obtain ⟨_,_,_,p⟩:=x; exact p.lt
 | dK kvs=>obtain ⟨_,_,_,_,o,_,_,e,_⟩:=x; exact Heap.lt_size e
 | dT kvs=>obtain ⟨_,_,_,_,o,_,_,e,_⟩:=x; exact Heap.lt_size e
 | set S n=>obtain ⟨o,_,_,_,e,_⟩:=x; exact Heap.lt_size e
 | ins C dx fs=>obtain ⟨_,_,_,e,_⟩:=x; exact Heap.lt_size e
 | own y=>obtain ⟨_,e⟩:=x; exact Heap.lt_size e
 | xd fs=>obtain ⟨_,⟨_,_,_,e,_⟩,_⟩:=x; exact Heap.lt_size e
 | rng lo hi=>obtain ⟨_,_,_,e⟩:=x; exact Heap.lt_size e
 | frz ob u=>obtain ⟨e,_⟩:=x; exact Heap.lt_size e
 | tbl ps=>exact Heap.lt_size (show h.get? a=some _ from x)
 | met f y=>exact Heap.lt_size (show h.get? a=some _ from x)
 | ext φ=>obtain ⟨_,⟨_,e⟩,_⟩:=x; exact Heap.lt_size e
theorem Paired.mapP {α β:Type} {F G:α->β->Prop}:∀{l₁:List α} {l₂:List β},Paired F l₁ l₂->(∀a b,F a b->G a b)->Paired G l₁ l₂
 | _,_,.nil,_=>.nil
 | _,_,.cons r t,f=>.cons (f _ _ r) (Paired.mapP t f)
theorem W0.stay (x:W0 P w H h a o) (k:∀b u,(b=a∨H b=some (.own a))->h.get? b=some u->h'.get? b=some u)
 (ho:∀b,H b=some (.own a)->H' b=some (.own a)) (ht:∀b xs,H b=some (.tup xs)->H' b=some (.tup xs)):W0 P w H' h' a o:=by
 induction o with
 | lst xs=>obtain ⟨z,its,n,r,e⟩:=x; exact ⟨z,its,n,r,k _ _ (.inl rfl) e⟩
 | tup xs=>obtain ⟨z,its,r,ob,e,c⟩:=x; exact ⟨z,its,r,ob,k _ _ (.inl rfl) e,c⟩
 | dK kvs=>obtain ⟨z,y,vs,r,ob,es,ep,e,c⟩:=x; exact ⟨z,y,vs,r,ob,es,ep,k _ _ (.inl rfl) e,c⟩
 | dT kvs=>
  obtain ⟨z,y,xs,r,ob,es,ep,e,c⟩:=x
  exact ⟨z,y,xs,Paired.mapP r fun p q z=>⟨z.1,ht _ _ z.2.1,z.2.2⟩,ob,es,ep,k _ _ (.inl rfl) e,c⟩
 | set S n=>obtain ⟨ob,es,ep,t,e,c⟩:=x; exact ⟨ob,es,ep,t,k _ _ (.inl rfl) e,c⟩
 | ins C dx fs=>
  obtain ⟨d,z,ne,e,mA,⟨od,es,ep,e2,c⟩,r⟩:=x
  exact ⟨ho _ d,z,ne,k _ _ (.inl rfl) e,mA,⟨od,es,ep,k _ _ (.inr d) e2,c⟩,r⟩
 | own y=>obtain ⟨ob,e⟩:=x; exact ⟨ob,k _ _ (.inl rfl) e⟩
 | xd fs=>obtain ⟨mA,⟨od,es,ep,e,c⟩,r⟩:=x; exact ⟨mA,⟨od,es,ep,k _ _ (.inl rfl) e,c⟩,r⟩
 | rng lo hi=>obtain ⟨t,u,v,e⟩:=x; exact ⟨t,u,v,k _ _ (.inl rfl) e⟩
 | frz ob u ih=>obtain ⟨e,q⟩:=x; exact ⟨k _ _ (.inl rfl) e,ih q⟩
 | tbl ps=>
  have e:h.get? a=some { cls:=.none,data:=.fields ps }:=x
  show h'.get? a=some { cls:=.none,data:=.fields ps }
  exact k a _ (.inl rfl) e
 | met f y=>
  have e:h.get? a=some (PySem.W.methodObj (.ref f) (.ref y)):=x
  show h'.get? a=some (PySem.W.methodObj (.ref f) (.ref y))
  exact k a _ (.inl rfl) e
 | ext φ=>obtain ⟨p,⟨o,e⟩,st⟩:=x; exact ⟨st _ _ p fun o q=>k _ _ (.inl rfl) q,⟨o,k _ _ (.inl rfl) e⟩,st⟩
theorem HOk.lt (x:HOk P w H h) (e:H a=some o):a < h.objs.size:=(x a o e).lt
theorem HOk.fresh (x:HOk P w H h) (e:h.objs.size<=a):H a=none:=by
 cases q:H a with
 | none=>rfl
 | some u=>exact absurd (OE (x.lt q) e) (Im _)
theorem HOk.kept (x:HOk P w H h) (k:∀b u,h.get? b=some u->h'.get? b=some u):HOk P w H h':=fun a o e=>
 (x a o e).stay (fun b u _ q=>k b u q) (fun _ q=>q) fun _ _ q=>q
theorem HOk.laid (x:HOk P w H h) (k:∀b u,h.get? b=some u->h'.get? b=some u) (hp:h.objs.size<=a) (new:W0 P w (upd H a o) h' a o):HOk P w (upd H a o) h':=fun b u e=>by
 have hn:=x.fresh hp
 by_cases hb:b=a
 ·subst hb; rw [Zn] at e; cases e; exact new
 ·rw [ZN hb] at e
  exact (x b u e).stay (fun c v _ q=>k c v q) (fun c q=>by rw [ZN (Zu q hn)]; exact q) fun c xs q=>by rw [ZN (Zu q hn)]; exact q
end
def Rd (H:Hp) (a:Addr) (u:HO):Prop:=H a=some u∨∃o,H a=some (.frz o u)
theorem Rd.ok {P:Program} {w:World} {H:Hp} {h:Heap} {a:Addr} {u:HO} (r:Rd H a u) (x:HOk P w H h):W0 P w H h a u:=by
 rcases r with r | ⟨o,r⟩
 ·exact x a u r
 ·obtain ⟨_,q⟩:=x a _ r
  exact q
def Mut:Option HO->Prop
 | some (.lst _)=>True
 | some (.dK _)=>True
 | some (.dT _)=>True
 | some (.set _ _)=>True
 | some (.ins _ _ _)=>True
 | some (.ext _)=>True
 | _=>False
section
variable {P:Program} {w:World} {H:Hp} {h h':Heap} {x e:Addr} {o':HO}
theorem HOk.write (ok:HOk P w H h) (mu:Mut (H x)) (he:e=x∨H e=some (.own x)) (k:∀b u,b≠e->h.get? b=some u->h'.get? b=some u) (heo:∃u,h'.get? e=some u)
 (new:W0 P w (upd H x o') h' x o'):HOk P w (upd H x o') h':=fun b u q=>by
 have nown:∀c y,H c=some (.own y)->c≠x:=fun c y r z=>by subst z; rw [r] at mu; exact mu
 have ntup:∀c xs,H c=some (.tup xs)->c≠x:=fun c xs r z=>by subst z; rw [r] at mu; exact mu
 by_cases hb:b=x
 ·subst hb; rw [Zn] at q; cases q; exact new
 ·rw [ZN hb] at q
  by_cases hbe:b=e
  ·have q':H b=some (.own x):=by
    rcases he with z | z
    ·exact absurd (hbe.trans z) hb
    ·rw [hbe]; exact z
   rw [q] at q'; cases q'
   obtain ⟨v,hv⟩:=heo
   exact ⟨v,by rw [hbe]; exact hv⟩
  ·refine (ok b u q).stay (fun c v hc r=>k c v ?_ r) (fun c r=>by rw [ZN (nown c b r)]; exact r) fun c xs r=>by rw [ZN (ntup c xs r)]; exact r
   rcases hc with rfl | hc
   ·exact hbe
   ·rintro rfl
    rcases he with z | z
    ·exact nown c b hc z
    ·rw [hc] at z; cases z; exact hb rfl
end
structure Un (fs ex:List Addr) (H H':Hp) (h h':Heap):Prop where
 keep:∀b o,h.get? b=some o->H b=none->b ∉ fs->b ∉ ex->h'.get? b=some o
 slot:∀b o,h.get? b=some o->H b=none->b∈fs->b ∉ ex->∃sl,h'.get? b=some { o with slots:=sl }
 free:∀b o,h.get? b=some o->H b=none->b ∉ ex->H' b=none
 there:∀b o,h.get? b=some o->b ∉ ex->∃o',h'.get? b=some o'
 tups:∀b xs,H b=some (.tup xs)->H' b=some (.tup xs)
 frzs:∀b o u,H b=some (.frz o u)->H' b=some (.frz o u)
 tbls:∀b ps,H b=some (.tbl ps)->∃more,H' b=some (.tbl (ps ++ more))
section
variable {fs fs' ex ex':List Addr} {H H1 H2:Hp} {h h1 h2 h':Heap} {a x e:Addr} {o:HO}
theorem Un.any (u:Un fs ex H H1 h h1) {b:Addr} {ob:Obj} (q:h.get? b=some ob) (n:H b=none) (hx:b ∉ ex):∃sl,h1.get? b=some { ob with slots:=sl }:=by
 by_cases hb:b∈fs
 ·exact u.slot b ob q n hb hx
 ·exact ⟨ob.slots,u.keep b ob q n hb hx⟩
theorem Un.kept (k:∀b u,h.get? b=some u->h'.get? b=some u):Un fs ex H H h h':=
 ⟨fun b ob q _ _ _=>k b ob q,fun b ob q _ _ _=>⟨ob.slots,k b ob q⟩,fun _ _ _ n _=>n,fun b ob q _=>⟨ob,k b ob q⟩,fun _ _ q=>q,fun _ _ _ q=>q,fun _ ps q=>⟨#[],by rw [q]; simp⟩⟩
theorem Un.refl:Un fs ex H H h h:=Un.kept fun _ _ q=>q
theorem Un.laid (k:∀b u,h.get? b=some u->h'.get? b=some u) (hp:h.objs.size<=a) (hn:H a=none):Un fs ex H (upd H a o) h h' where
 keep:=fun b u q _ _ _=>k b u q
 slot:=fun b u q _ _ _=>⟨u.slots,k b u q⟩
 free:=fun b u q n _=>by rw [ZN (O4 (OE (Heap.lt_size q) hp))]; exact n
 there:=fun b u q _=>⟨u,k b u q⟩
 tups:=fun b xs q=>by rw [ZN (Zu q hn)]; exact q
 frzs:=fun b u xs q=>by rw [ZN (Zu q hn)]; exact q
 tbls:=fun b ps q=>⟨#[],by rw [ZN (Zu q hn),q]; simp⟩
theorem Un.write (mu:Mut (H x)) (he:e=x∨H e=some (.own x)) (k:∀b u,b≠e->h.get? b=some u->h'.get? b=some u) (heo:∃u,h'.get? e=some u):Un fs ex H (upd H x o) h h':=by
 have hx:∀b,H b=none->b≠x:=fun b n z=>by subst z; rw [n] at mu; exact mu
 have hb:∀b,H b=none->b≠e:=fun b n z=>by
  subst z
  rcases he with r | r
  ·exact hx b n r
  ·rw [n] at r; cases r
 have hm:∀b u,H b=some u->¬ Mut (some u)->b≠x:=fun b u q nm z=>by subst z; rw [q] at mu; exact nm mu
 refine ⟨fun b u q n _ _=>k b u (hb b n) q,fun b u q n _ _=>⟨u.slots,k b u (hb b n) q⟩,fun b u q n _=>by rw [ZN (hx b n)]; exact n,fun b u q _=>?_,
  fun b xs q=>by rw [ZN (hm b _ q fun z=>z)]; exact q,fun b u xs q=>by rw [ZN (hm b _ q fun z=>z)]; exact q,fun b ps q=>⟨#[],by rw [ZN (hm b _ q fun z=>z),q]; simp⟩⟩
 by_cases hbe:b=e
 ·subst hbe; exact heo
 ·exact ⟨u,k b u hbe q⟩
end
def trk (h:Heap) (H:Hp):List Addr:=(Ob h.objs.size).filter fun a=>(H a).isSome
def hidT (h:Heap) (H:Hp):Heap:=PySem.W.hideAll h (trk h H)
theorem hidT_size (h:Heap) (H:Hp):(hidT h H).objs.size=h.objs.size:=PySem.W.hideAll_size _ _
theorem hidT_get {h:Heap} {H:Hp} {b:Addr} {o:Obj} (e:h.get? b=some o) (n:H b=none):(hidT h H).get? b=some o:=
 PySem.W.hideAll_get _ e fun hm=>by
  have q:(H b).isSome=true:=(UI.mp hm).2
  rw [n] at q; simp at q
theorem of_hidT {h:Heap} {H:Hp} {b:Addr} {o:Obj} (e:(hidT h H).get? b=some o):h.get? b=some o/\H b=none:=by
 have e':h.get? b=some o:=PySem.W.of_hideAll (trk h H) e
 refine ⟨e',?_⟩
 cases q:H b with
 | none=>rfl
 | some x=>
  have hm:b∈trk h H:=UI.mpr ⟨OR.mpr (Heap.lt_size e'),by simp [q]⟩
  have z:(hidT h H).get? b=none:=PySem.W.hideAll_none (trk h H) hm
  rw [z] at e; cases e
def allNews (g h:Heap) (L:Addr):List (Addr×Obj):=(Ob h.objs.size).filterMap fun a=>if a=L∨(g.get? a).isSome=true then none else (h.get? a).map fun o=>(a,o)
def rest (g h:Heap) (L d:Addr):List (Addr×Obj):=(allNews g h L).filter fun p=>decide (p.1≠d)
end L2
namespace L2
open PySem PySem.Spec PyProof.Rows
structure Mod (K:Oa) (mg:Str->Option Value) (base:Heap):Prop where
 kin:K.In base
 glob:base.Ns mainGlobals mg
 blt:∃mb,base.Ns builtinsNs mb/\∀x:Str,x≠"__name__"->mb x=bootBuiltins x
 nolimit:base.NoLimit
structure Cx where
 prog:Program
 w:World
 K:Oa
 mg:Str->Option Value
 base:Heap
 A:Around
 N:List Str
 s_0:Shared
 H_0:Hp
 env:Env
 outer:List Env
 stack:List Env
 ex:List Addr
 fn:Str->Bool
 calm:Bool
 pn:List (Addr×Obj)
 xe:Value->Shared->Prop
def frs (l:List Env):List Addr:=l.filterMap (·.frame)
abbrev Cx.fs (X:Cx):List Addr:=frs X.outer
def Vis (sc:Scope) (x:Str):Prop:=sc.names.lookup x=some .local∨sc.names.lookup x=some .cell∨sc.names.lookup x=some .free
def Loc (sc:Scope) (x:Str):Prop:=sc.names.lookup x=some .local∨sc.names.lookup x=some .cell
def Look (env:Env) (h:Heap) (m:Str->Option Value) (x:Str) (u:Value):Prop:=
 (env.kindOf x=some .local/\m x=some u)∨((env.kindOf x=some .cell∨env.kindOf x=some .free)/\∃c,env.cells.lookup x=some c/\h.IsCell c (some u))
structure Cx.Ok (X:Cx):Prop where
 mod:Mod X.K X.mg X.base
 kind:X.env.scope.kind=.function
 glob:X.env.globals=mainGlobals
 blt:X.env.builtins=builtinsNs
 above:X.s_0.heap.objs.size<=X.env.locals
 inj:∀x y c,X.env.cells.lookup x=some c->X.env.cells.lookup y=some c->x=y
 has:∀x,(X.env.kindOf x=some .cell∨X.env.kindOf x=some .free)->∃c,X.env.cells.lookup x=some c
 cab:∀x c,X.fn x=true->X.env.cells.lookup x=some c->X.s_0.heap.objs.size<=c
 hd:X.calm=true->X.A.handled=none
 frames:X.A.frames=some X.stack
 stk:X.stack=X.outer∨(X.stack=X.env :: X.outer/\X.env.frame=some X.env.locals)
 exf:∀b∈X.ex,b≠X.env.locals/\∀x c,X.env.cells.lookup x=some c->c≠b
 bs:∀b o,X.base.get? b=some o->X.s_0.heap.get? b=some o/\X.H_0 b=none
 bsz:X.base.objs.size<=X.s_0.heap.objs.size
 noex:∀b o,X.base.get? b=some o->b ∉ X.ex
 exfs:∀b∈X.ex,b ∉ X.fs
 funs:X.s_0.heap.FunFrames X.base X.outer
 frf:∀b∈X.fs,X.H_0 b=none
structure Inv (X:Cx) (pins:List (Addr×Obj)) (σ:List (Option V)) (H:Hp) (s:Shared):Prop where
 ok:X.Ok
 os:s.os=X.s_0.os
 bare:AllBare s.gens
 base:Un X.fs X.ex X.H_0 H X.s_0.heap s.heap
 loc:∃m,s.heap.Ns X.env.locals m/\∀(i:Nat) (x:Str) (v:V),X.N[i]?=some x->σ[i]?=some (some v)->Vis X.env.scope x->∃u,YE v u/\Look X.env s.heap m x u
 cell:∀x c,X.env.cells.lookup x=some c->∃v,s.heap.IsCell c v
 free:H X.env.locals=none
 freeC:∀x c,X.env.cells.lookup x=some c->H c=none
 pin:∀p∈X.pn ++ pins,s.heap.get? p.1=some p.2/\H p.1=none/\p.1≠X.env.locals/\p.1 ∉ X.fs/\∀v,p.2.data≠.cell v
 hok:HOk X.prog X.w H s.heap
 len:σ.length=X.N.length
section
variable {X:Cx} {pins:List (Addr×Obj)} {σ:List (Option V)} {H H':Hp} {s:Shared} {h':Heap}
theorem Cx.Ok.nofr (ok:X.Ok) {b:Addr} {o:Obj} (e:X.base.get? b=some o):b ∉ X.fs:=fun hb=>by
 have:=(ok.funs.mem hb).1
 rw [e] at this; cases this
theorem Inv.bs (I:Inv X pins σ H s):∀b o,X.base.get? b=some o->s.heap.get? b=some o/\H b=none:=fun b o e=>
 ⟨I.base.keep b o (I.ok.bs b o e).1 (I.ok.bs b o e).2 (I.ok.nofr e) (I.ok.noex b o e),I.base.free b o (I.ok.bs b o e).1 (I.ok.bs b o e).2 (I.ok.noex b o e)⟩
theorem Inv.bk (I:Inv X pins σ H s):∀b o,X.base.get? b=some o->s.heap.get? b=some o:=fun b o e=>(I.bs b o e).1
theorem Inv.mod (I:Inv X pins σ H s):Mod X.K X.mg X.base:=I.ok.mod
theorem Inv.kIn (I:Inv X pins σ H s):X.K.In s.heap:=I.ok.mod.kin.keeps I.bk
theorem Inv.fr (I:Inv X pins σ H s):∃m,Fr X.base X.env.locals s.heap m:=
 let ⟨m,hn,_⟩:=I.loc
 ⟨m,hn,I.bk,OD I.ok.bsz I.ok.above⟩
theorem Inv.lt (I:Inv X pins σ H s):X.env.locals < s.heap.objs.size:=let ⟨_,hn,_⟩:=I.loc; hn.lt
theorem Inv.sz (I:Inv X pins σ H s):X.s_0.heap.objs.size<=s.heap.objs.size:=OD I.ok.above (VB I.lt)
theorem Inv.nofs (I:Inv X pins σ H s) {a:Addr} (h:s.heap.objs.size<=a):a ∉ X.fs:=fun hb=>by
 obtain ⟨_,o,ho,_⟩:=I.ok.funs.mem hb
 exact absurd (OE (Heap.lt_size ho) (OD I.sz h)) (Im _)
theorem Inv.cne (I:Inv X pins σ H s):∀x c,X.env.cells.lookup x=some c->c≠X.env.locals:=fun x c e z=>by
 obtain ⟨v,o,ho,hd⟩:=I.cell x c e
 obtain ⟨m,⟨o',es,ep,ho',hd',_⟩,_⟩:=I.loc
 rw [z,ho'] at ho; cases ho; rw [hd'] at hd; cases hd
theorem Inv.funs (I:Inv X pins σ H s):s.heap.FunFrames X.base X.outer:=by
 have all:∀(l:List Env),(∀b∈frs l,b∈X.fs)->X.s_0.heap.FunFrames X.base l->s.heap.FunFrames X.base l:=by
  intro l
  induction l with
  | nil=>intro _ _; trivial
  | cons env r ih=>
   intro hs hl
   obtain ⟨hk,⟨L,o,hf,hn,ho,hd⟩,hr⟩:=hl
   have hL:L∈X.fs:=hs L (by unfold frs; rw [U0,hf]; exact Ow)
   obtain ⟨sl,e⟩:=I.base.slot L o ho (I.ok.frf L hL) hL fun z=>I.ok.exfs L z hL
   exact ⟨hk,⟨L,_,hf,hn,e,hd⟩,ih (fun b hb=>hs b (by unfold frs; rw [U0,hf]; exact Ov _ hb)) hr⟩
 exact all X.outer (fun _ hb=>hb) I.ok.funs
theorem Inv.stack (I:Inv X pins σ H s):s.heap.FunFrames X.base X.stack:=by
 rcases I.ok.stk with e | ⟨e,hf⟩
 ·rw [e]; exact I.funs
 ·rw [e]
  obtain ⟨m,hn,_⟩:=I.loc
  refine .cons (by rw [I.ok.kind]; decide) hf hn ?_ I.funs
  exact Heap.get?_none_of_le (OD I.ok.bsz I.ok.above)
theorem Inv.stkSub (I:Inv X pins σ H s):∀b∈frs X.stack,b∈X.env.locals :: X.fs:=fun b hb=>by
 rcases I.ok.stk with e | ⟨e,hf⟩
 ·rw [e] at hb; exact Ov _ hb
 ·rw [e] at hb
  unfold frs at hb
  rw [U0,hf] at hb
  exact hb
theorem Inv.stkFree (I:Inv X pins σ H s):∀b∈frs X.stack,H b=none:=fun b hb=>by
 rcases ON.mp (I.stkSub b hb) with e | hb
 ·rw [e]; exact I.free
 ·obtain ⟨_,o,ho,_⟩:=I.ok.funs.mem hb
  exact I.base.free b o ho (I.ok.frf b hb) fun z=>I.ok.exfs b z hb
theorem Inv.step {g':Array GenState} {t':Nat} {d':Drawn} {ch:List Addr} (I:Inv X pins σ H s)
 (hch:∀b∈ch,(b∈X.ex∨X.s_0.heap.objs.size<=b)/\b≠X.env.locals/\(∀x c,X.env.cells.lookup x=some c->c≠b)/\∀p∈X.pn ++ pins,p.1≠b)
 (keep:∀b o,b≠X.env.locals->b ∉ X.fs->b ∉ ch->s.heap.get? b=some o->H b=none->h'.get? b=some o)
 (slot:∀b o,b≠X.env.locals->b∈X.fs->b ∉ ch->s.heap.get? b=some o->H b=none->∃sl,h'.get? b=some { o with slots:=sl }) (free:∀b o,b ∉ ch->s.heap.get? b=some o->H b=none->H' b=none)
 (there:∀b o,b ∉ ch->s.heap.get? b=some o->∃o',h'.get? b=some o')
 (tups:∀b xs,H b=some (.tup xs)->H' b=some (.tup xs)) (frzs:∀b o u,H b=some (.frz o u)->H' b=some (.frz o u)) (tbls:∀b ps,H b=some (.tbl ps)->∃more,H' b=some (.tbl (ps ++ more)))
 (ns:∀m,s.heap.Ns X.env.locals m->h'.Ns X.env.locals m) (hok:HOk X.prog X.w H' h') (hg:AllBare g') :
 Inv X pins σ H' { s with heap:=h',gens:=g',drawn:=d',toks:=t' }:=by
 have neL:∀b o,X.s_0.heap.get? b=some o->b≠X.env.locals:=fun b o e=>O4 (OE (Heap.lt_size e) I.ok.above)
 have neC:∀b o,X.s_0.heap.get? b=some o->b ∉ X.ex->b ∉ ch:=fun b o e hx hb=>by
  rcases (hch b hb).1 with z | z
  ·exact hx z
  ·exact absurd (OE (Heap.lt_size e) z) (Im _)
 have cellK:∀x c,X.env.cells.lookup x=some c->∀v,s.heap.IsCell c v->h'.IsCell c v:=fun x c e v ⟨o,ho,hd⟩=>by
  have nch:c ∉ ch:=fun z=>(hch c z).2.2.1 x c e rfl
  by_cases hc:c∈X.fs
  ·obtain ⟨sl,q⟩:=slot c o (I.cne x c e) hc nch ho (I.freeC x c e)
   exact ⟨_,q,hd⟩
  ·exact ⟨o,keep c o (I.cne x c e) hc nch ho (I.freeC x c e),hd⟩
 refine ⟨I.ok,I.os,hg,⟨fun b o e n hb hx=>?_,fun b o e n hb hx=>?_,fun b o e n hx=>?_,fun b o e hx=>?_,fun b xs e=>tups b xs (I.base.tups b xs e),fun b o xs e=>frzs b o xs (I.base.frzs b o xs e),fun b ps e=>?_⟩,?_,fun x c e=>?_,?_,fun x c e=>?_,fun p hp=>?_,hok,I.len⟩
 ·exact keep b o (neL b o e) hb (neC b o e hx) (I.base.keep b o e n hb hx) (I.base.free b o e n hx)
 ·obtain ⟨sl,e1⟩:=I.base.slot b o e n hb hx
  obtain ⟨sl',e2⟩:=slot b _ (neL b o e) hb (neC b o e hx) e1 (I.base.free b o e n hx)
  exact ⟨sl',e2⟩
 ·obtain ⟨o',e1⟩:=I.base.there b o e hx
  exact free b o' (neC b o e hx) e1 (I.base.free b o e n hx)
 ·obtain ⟨o',e1⟩:=I.base.there b o e hx
  exact there b o' (neC b o e hx) e1
 ·obtain ⟨m1,e1⟩:=I.base.tbls b ps e
  obtain ⟨m2,e2⟩:=tbls b _ e1
  exact ⟨m1 ++ m2,by rw [e2,Array.append_assoc]⟩
 ·obtain ⟨m,hn,hl⟩:=I.loc
  refine ⟨m,ns m hn,fun i x v e1 e2 e3=>?_⟩
  obtain ⟨u,r,l⟩:=hl i x v e1 e2 e3
  refine ⟨u,r,?_⟩
  rcases l with l | ⟨k,c,e,z⟩
  ·exact .inl l
  ·exact .inr ⟨k,c,e,cellK x c e _ z⟩
 ·obtain ⟨v,z⟩:=I.cell x c e
  exact ⟨v,cellK x c e v z⟩
 ·obtain ⟨m,⟨o,_,_,ho,_⟩,_⟩:=I.loc
  exact free _ o (fun z=>(hch _ z).2.1 rfl) ho I.free
 ·obtain ⟨v,o,ho,hd⟩:=I.cell x c e
  exact free c o (fun z=>(hch c z).2.2.1 x c e rfl) ho (I.freeC x c e)
 ·obtain ⟨e,n,ne,nf,d⟩:=I.pin p hp
  have nch:p.1 ∉ ch:=fun z=>(hch p.1 z).2.2.2 p hp rfl
  exact ⟨keep p.1 p.2 ne nf nch e n,free p.1 p.2 nch e n,ne,nf,d⟩
theorem Inv.un {t':Nat} (I:Inv X pins σ H s) (u:Un X.fs [] H H' s.heap h') (hok:HOk X.prog X.w H' h'):Inv X pins σ H' { s with heap:=h',toks:=t' }:=by
 obtain ⟨m,⟨o,es,ep,ho,r⟩,_⟩:=id I.loc
 obtain ⟨sl,hL⟩:=u.any ho I.free (by simp)
 exact I.step (g':=s.gens) (d':=s.drawn) (ch:=[]) (fun _ z=>nomatch z) (fun b o _ hb _ e n=>u.keep b o e n hb (by simp)) (fun b o _ hb _ e n=>u.slot b o e n hb (by simp)) (fun b o _ e n=>u.free b o e n (by simp)) (fun b o _ e=>u.there b o e (by simp)) u.tups u.frzs u.tbls (fun m' hm=>by
  obtain ⟨o',es',ep',ho',r'⟩:=hm
  rw [ho] at ho'; cases ho'
  exact ⟨_,es',ep',hL,r'⟩) hok I.bare
theorem Inv.call {g':Array GenState} {t':Nat} {d':Drawn} {ch:List Addr} (I:Inv X pins σ H s) (u:Un (frs X.stack) ch H H' s.heap h') (hok:HOk X.prog X.w H' h') (hg:AllBare g')
 (hch:∀b∈ch,(b∈X.ex∨X.s_0.heap.objs.size<=b)/\b≠X.env.locals/\(∀x c,X.env.cells.lookup x=some c->c≠b)/\∀p∈X.pn ++ pins,p.1≠b) :
 Inv X pins σ H' { s with heap:=h',gens:=g',drawn:=d',toks:=t' }:=by
 obtain ⟨m,⟨o,es,ep,ho,r⟩,_⟩:=id I.loc
 obtain ⟨sl,hL⟩:=u.any ho I.free fun z=>(hch _ z).2.1 rfl
 exact I.step (ch:=ch) hch (fun b o hL hb hc e n=>u.keep b o e n (fun z=>(ON.mp (I.stkSub b z)).elim hL hb) hc) (fun b o _ _ hc e n=>u.any e n hc) (fun b o hc e n=>u.free b o e n hc) (fun b o hc e=>u.there b o e hc) u.tups u.frzs u.tbls (fun m' hm=>by
  obtain ⟨o',es',ep',ho',r'⟩:=hm
  rw [ho] at ho'; cases ho'
  exact ⟨_,es',ep',hL,r'⟩) hok hg
theorem Inv.turned {t':Nat} {it:Addr} (I:Inv X pins σ H s) (k:∀b o,b≠it->s.heap.get? b=some o->h'.get? b=some o) (hn:H it=none) (hL:it≠X.env.locals)
 (h1:it∈X.ex∨X.s_0.heap.objs.size<=it) (h2:∀x c,X.env.cells.lookup x=some c->c≠it) (h3:∀p∈X.pn ++ pins,p.1≠it):Inv X pins σ H { s with heap:=h',toks:=t' }:=by
 have nit:∀b u,H b=some u->b≠it:=fun b u e z=>by rw [z,hn] at e; cases e
 refine I.step (g':=s.gens) (d':=s.drawn) (ch:=[it]) (fun b hb=>?_) (fun b o _ _ hc e _=>k b o (fun z=>hc (by simp [z])) e) (fun b o _ _ hc e _=>⟨o.slots,k b o (fun z=>hc (by simp [z])) e⟩) (fun _ _ _ _ n=>n)
  (fun b o hc e=>⟨o,k b o (fun z=>hc (by simp [z])) e⟩) (fun _ _ e=>e) (fun _ _ _ e=>e) (fun b ps e=>⟨#[],by rw [e]; simp⟩) (fun m hm=>?_) (fun b u e=>?_) I.bare
 ·have e:b=it:=by simpa using hb
  subst e
  exact ⟨h1,hL,h2,h3⟩
 ·obtain ⟨o,es,ep,ho,r⟩:=hm
  exact ⟨o,es,ep,k _ o (Ne.symm hL) ho,r⟩
 ·refine (I.hok b u e).stay (fun c v hc q=>k c v ?_ q) (fun _ q=>q) fun _ _ q=>q
  rcases hc with z | z
  ·rw [z]; exact nit b u e
  ·exact nit c _ z
theorem Inv.tok (I:Inv X pins σ H s) (t:Nat):Inv X pins σ H { s with toks:=t }:=I.un (h':=s.heap) (t':=t) Un.refl I.hok
theorem Inv.kept {t':Nat} (I:Inv X pins σ H s) (k:∀b u,s.heap.get? b=some u->h'.get? b=some u):Inv X pins σ H { s with heap:=h',toks:=t' }:=I.un (Un.kept k) (I.hok.kept k)
theorem Inv.laid {a:Addr} {o:HO} {t':Nat} (I:Inv X pins σ H s) (k:∀b u,s.heap.get? b=some u->h'.get? b=some u) (hp:s.heap.objs.size<=a) (new:W0 X.prog X.w (upd H a o) h' a o) :
 Inv X pins σ (upd H a o) { s with heap:=h',toks:=t' }:=I.un (Un.laid k hp (I.hok.fresh hp)) (I.hok.laid k hp new)
theorem Inv.write {x e:Addr} {o:HO} {t':Nat} (I:Inv X pins σ H s) (mu:Mut (H x)) (he:e=x∨H e=some (.own x)) (k:∀b u,b≠e->s.heap.get? b=some u->h'.get? b=some u) (heo:∃u,h'.get? e=some u)
 (new:W0 X.prog X.w (upd H x o) h' x o):Inv X pins σ (upd H x o) { s with heap:=h',toks:=t' }:=I.un (Un.write mu he k heo) (I.hok.write mu he k heo new)
theorem Inv.weak {σ':List (Option V)} (I:Inv X pins σ H s) (hl:σ'.length=σ.length) (w:∀(i:Nat) v,σ'[i]?=some (some v)->σ[i]?=some (some v)):Inv X pins σ' H s:=
 ⟨I.ok,I.os,I.bare,I.base,let ⟨m,hn,hl'⟩:=I.loc; ⟨m,hn,fun i x v e1 e2 e3=>hl' i x v e1 (w i v e2) e3⟩,I.cell,I.free,I.freeC,I.pin,I.hok,hl.trans I.len⟩
theorem Inv.pins_of {pins':List (Addr×Obj)} (I:Inv X pins σ H s) (h:∀p∈pins',s.heap.get? p.1=some p.2/\H p.1=none/\p.1≠X.env.locals/\p.1 ∉ X.fs/\∀v,p.2.data≠.cell v):Inv X pins' σ H s:=
 ⟨I.ok,I.os,I.bare,I.base,I.loc,I.cell,I.free,I.freeC,fun p hp=>(IG.mp hp).elim (fun z=>I.pin p (Vy _ z)) (h p),I.hok,I.len⟩
theorem Zf6 {N:List Str} (hN:N.Nodup) {i j:Nat} {x:Str} (a:N[i]?=some x) (b:N[j]?=some x):i=j:=by
 obtain ⟨h1,e1⟩:=OB.mp a
 obtain ⟨h2,e2⟩:=OB.mp b
 exact (List.getElem_inj hN).mp (e1.trans e2.symm)
theorem store_ok2 {M:Model} {A:Around} {E:Value->Shared->Prop} {i:Nat} {x:Str} {v:V} {u:Value} {Q:Unit->Shared->Prop} (I:Inv X pins σ H s) (hN:X.N.Nodup) (hi:X.N[i]?=some x) (hx:Loc X.env.scope x) (r:YE v u)
 (h:∀s',Inv X pins (σ.set i (some v)) H s'->(∃a,Heap.SameBut a s.heap s'.heap/\(a=X.env.locals∨X.env.cells.lookup x=some a))->Q () s') (hf:X.fn x=true∨X.env.scope.names.lookup x=some .local:=by first | exact .inl rfl | exact .inr rfl | assumption):wpAny M A (storeName X.env x u) Q E s:=by
 obtain ⟨m,hn,hl⟩:=id I.loc
 have hcls:(X.env.scope.kind == .class || (X.env.scope.kind == .module && X.env.locals != X.env.globals))=false:=by rw [I.ok.kind]; rfl
 have hiσ:i < σ.length:=by rw [I.len]; exact (OB.mp hi).1
 have cne:=I.cne
 have tracked:∀{a:Addr} {h':Heap},(∃o,s.heap.get? a=some o/\H a=none)->Heap.SameBut a s.heap h'->HOk X.prog X.w H h':=fun {a h'} ha hs b ob e=>by
  obtain ⟨_,_,hfree⟩:=ha
  refine (I.hok b ob e).stay (fun c w' hc q=>(hs.2 c ?_).trans q) (fun _ q=>q) fun _ _ q=>q
  rintro rfl
  rcases hc with rfl | hc
  ·rw [hfree] at e; cases e
  ·rw [hfree] at hc; cases hc
 rcases hx with hk | hk
 ·refine wpAny_storeName_local hk hn (fun h' hn' hs=>?_) hcls
  obtain ⟨oL,_,_,hoL,_⟩:=id hn
  refine h _ ⟨I.ok,I.os,I.bare,⟨fun b o e n hb hx=>?_,fun b o e n hb hx=>?_,I.base.free,fun b o e hx=>?_,I.base.tups,I.base.frzs,I.base.tbls⟩,⟨_,hn',fun j y v' e1 e2 e3=>?_⟩,fun y c e=>?_,I.free,I.freeC,fun p hp=>?_,tracked ⟨oL,hoL,I.free⟩ hs,by simpa using I.len⟩ ⟨_,hs,.inl rfl⟩
  ·exact (hs.2 b (O4 (OE (Heap.lt_size e) I.ok.above))).trans (I.base.keep b o e n hb hx)
  ·obtain ⟨sl,e1⟩:=I.base.slot b o e n hb hx
   exact ⟨sl,(hs.2 b (O4 (OE (Heap.lt_size e) I.ok.above))).trans e1⟩
  ·obtain ⟨o',e1⟩:=I.base.there b o e hx
   exact ⟨o',(hs.2 b (O4 (OE (Heap.lt_size e) I.ok.above))).trans e1⟩
  ·by_cases hj:j=i
   ·subst hj
    rw [hi] at e1; cases e1
    rw [IC hiσ] at e2
    cases e2
    exact ⟨u,r,.inl ⟨hk,by simp⟩⟩
   ·rw [IJ (Ne.symm hj)] at e2
    obtain ⟨u',r',q⟩:=hl j y v' e1 e2 e3
    refine ⟨u',r',?_⟩
    rcases q with ⟨k,e⟩ | ⟨k,c,e,z⟩
    ·refine .inl ⟨k,?_⟩
     have:y≠x:=fun e=>hj (Zf6 hN e1 (e ▸ hi))
     simp [this,e]
    ·exact .inr ⟨k,c,e,z.sameBut hs (cne y c e)⟩
  ·obtain ⟨w',z⟩:=I.cell y c e
   exact ⟨w',z.sameBut hs (cne y c e)⟩
  ·obtain ⟨e,n,ne,nf,d⟩:=I.pin p hp
   exact ⟨(hs.2 p.1 ne).trans e,n,ne,nf,d⟩
 ·have hfn:X.fn x=true:=by
   rcases hf with z | z
   ·exact z
   ·rw [z] at hk; cases hk
  obtain ⟨c,hc⟩:=I.ok.has x (.inl hk)
  obtain ⟨w',z⟩:=I.cell x c hc
  refine wpAny_storeName_cell I.ok.kind hk hc z (fun h' hc' hs=>?_)
  obtain ⟨oc,hoc,hocd⟩:=id z
  refine h { s with heap:=h' } ⟨I.ok,I.os,I.bare,⟨fun b o e n hb hx=>?_,fun b o e n hb hx=>?_,I.base.free,fun b o e hx=>?_,I.base.tups,I.base.frzs,I.base.tbls⟩,⟨m,hn.sameBut hs (Ne.symm (cne x c hc)),fun j y v' e1 e2 e3=>?_⟩,fun y c' e=>?_,I.free,I.freeC,fun p hp=>?_,tracked ⟨oc,hoc,I.freeC x c hc⟩ hs,by simpa using I.len⟩ ⟨c,hs,.inr hc⟩
  ·exact (hs.2 b (O4 (OE (Heap.lt_size e) (I.ok.cab x c hfn hc)))).trans (I.base.keep b o e n hb hx)
  ·obtain ⟨sl,e1⟩:=I.base.slot b o e n hb hx
   exact ⟨sl,(hs.2 b (O4 (OE (Heap.lt_size e) (I.ok.cab x c hfn hc)))).trans e1⟩
  ·obtain ⟨o',e1⟩:=I.base.there b o e hx
   exact ⟨o',(hs.2 b (O4 (OE (Heap.lt_size e) (I.ok.cab x c hfn hc)))).trans e1⟩
  ·by_cases hj:j=i
   ·subst hj
    rw [hi] at e1; cases e1
    rw [IC hiσ] at e2
    cases e2
    exact ⟨u,r,.inr ⟨.inl hk,c,hc,hc'⟩⟩
   ·rw [IJ (Ne.symm hj)] at e2
    obtain ⟨u',r',q⟩:=hl j y v' e1 e2 e3
    refine ⟨u',r',?_⟩
    rcases q with q | ⟨k,c',e,z'⟩
    ·exact .inl q
    ·refine .inr ⟨k,c',e,z'.sameBut hs ?_⟩
     rintro rfl
     exact hj (Zf6 hN e1 (I.ok.inj _ _ _ e hc ▸ hi))
  ·by_cases hcc:c'=c
   ·subst hcc; exact ⟨_,hc'⟩
   ·obtain ⟨w2,z2⟩:=I.cell y c' e
    exact ⟨w2,z2.sameBut hs hcc⟩
  ·obtain ⟨e,n,ne,nf,d⟩:=I.pin p hp
   refine ⟨(hs.2 p.1 ?_).trans e,n,ne,nf,d⟩
   intro q
   rw [q,hoc] at e
   have q':oc=p.2:=Option.some.inj e
   exact d w' (by rw [<- q']; exact hocd)
theorem Zgy {M:Model} {A:Around} {E:Value->Shared->Prop} {i:Nat} {x:Str} {v:V} {u:Value} {Q:Unit->Shared->Prop} (I:Inv X pins σ H s) (hN:X.N.Nodup) (hi:X.N[i]?=some x) (hx:Loc X.env.scope x) (r:YE v u)
 (h:∀s',Inv X pins (σ.set i (some v)) H s'->Q () s') (hf:X.fn x=true∨X.env.scope.names.lookup x=some .local:=by first | exact .inl rfl | exact .inr rfl | assumption):wpAny M A (storeName X.env x u) Q E s:=
 store_ok2 I hN hi hx r (fun s' I' _=>h s' I') hf
theorem Inv.call' {s':Shared} {ch:List Addr} (I:Inv X pins σ H s) (ho:s'.os=s.os) (u:Un (frs X.stack) ch H H' s.heap s'.heap) (hok:HOk X.prog X.w H' s'.heap) (hg:AllBare s'.gens)
 (hch:∀b∈ch,(b∈X.ex∨X.s_0.heap.objs.size<=b)/\b≠X.env.locals/\(∀x c,X.env.cells.lookup x=some c->c≠b)/\∀p∈X.pn ++ pins,p.1≠b):Inv X pins σ H' s':=by
 obtain ⟨h',g',d',t',o'⟩:=s'
 have e:o'=s.os:=ho
 subst e
 exact I.call (g':=g') (t':=t') (d':=d') u hok hg hch
end
abbrev XK:=Value->Option Addr->Hp->Prop
abbrev St:=List (Option V)
abbrev VK:=V->Hp->Prop
abbrev TE:=St->Hp->VK->Prop
abbrev TT:=St->Hp->(Bool->Hp->Prop)->Prop
abbrev TA:=St->Hp->(List V->Hp->Prop)->Prop
structure Zah where
 nx:St->Hp->Prop
 rt:VK
 bk:St->Hp->Prop:=fun _ _=>False
 ct:St->Hp->Prop:=fun _ _=>False
abbrev TS:=Zah->St->Hp->Prop
def EP (X:Cx) (pins:List (Addr×Obj)) (σ:St) (Q:VK) (u:Value) (s':Shared):Prop:=∃v H',Inv X pins σ H' s'/\YE v u/\Q v H'
def TP (X:Cx) (pins:List (Addr×Obj)) (σ:St) (Q:Bool->Hp->Prop) (b:Bool) (s':Shared):Prop:=∃H',Inv X pins σ H' s'/\Q b H'
def AP (X:Cx) (pins:List (Addr×Obj)) (σ:St) (Q:List V->Hp->Prop) (us:List Value) (s':Shared):Prop:=∃vs H',Inv X pins σ H' s'/\Z8 vs us/\Q vs H'
def SP (X:Cx) (pins:List (Addr×Obj)) (D:Zah) (f:Flow) (s':Shared):Prop:=
 match f with
 | .next=>∃σ' H',Inv X pins σ' H' s'/\D.nx σ' H'
 | .brk=>∃σ' H',Inv X pins σ' H' s'/\D.bk σ' H'
 | .cont=>∃σ' H',Inv X pins σ' H' s'/\D.ct σ' H'
 | .ret u=>∃v σ' H',Inv X pins σ' H' s'/\YE v u/\D.rt v H'
def PE (X:Cx) (e:Expr) (t:TE):Prop:=
 ∀(pins:List (Addr×Obj)) (s:Shared) (σ:St) (H:Hp) (Q:VK),Inv X pins σ H s->t σ H Q->wpAny (model X.prog X.w) X.A (eval e X.env) (EP X pins σ Q) X.xe s
def PT (X:Cx) (e:Expr) (t:TT):Prop:=
 ∀(pins:List (Addr×Obj)) (s:Shared) (σ:St) (H:Hp) (Q:Bool->Hp->Prop),Inv X pins σ H s->t σ H Q->wpAny (model X.prog X.w) X.A (isTrue e X.env (eval e X.env)) (TP X pins σ Q) X.xe s
def PW (X:Cx) (e:Expr) (t:TT):Prop:=
 ∀(whole:Sem Value) (pins:List (Addr×Obj)) (s:Shared) (σ:St) (H:Hp) (Q:Bool->Hp->Prop),Inv X pins σ H s->t σ H Q->wpAny (model X.prog X.w) X.A (isTrue e X.env whole) (TP X pins σ Q) X.xe s
theorem PW.pt {X:Cx} {e:Expr} {t:TT} (h:PW X e t):PT X e t:=h _
def PA (X:Cx) (es:List Expr) (t:TA):Prop:=
 ∀(pos:Pos) (pins:List (Addr×Obj)) (s:Shared) (σ:St) (H:Hp) (Q:List V->Hp->Prop),Inv X pins σ H s->t σ H Q->wpAny (model X.prog X.w) X.A (spliced (backTo pos (starEach es X.env))) (AP X pins σ Q) X.xe s
def PS (X:Cx) (st:Stmt) (t:TS):Prop:=
 ∀(pins:List (Addr×Obj)) (s:Shared) (σ:St) (H:Hp) (D:Zah),Inv X pins σ H s->t D σ H->wpAny (model X.prog X.w) X.A (exec st X.env) (SP X pins D) X.xe s
def PSs (X:Cx) (st:List Stmt) (t:TS):Prop:=
 ∀(pins:List (Addr×Obj)) (s:Shared) (σ:St) (H:Hp) (D:Zah),Inv X pins σ H s->t D σ H->wpAny (model X.prog X.w) X.A (execs st X.env) (SP X pins D) X.xe s
theorem thn {α:Type} {t:Sem α} {Q Q':α->Shared->Prop} {M:Model} {A:Around} {E:Value->Shared->Prop} {s:Shared} (h:wpAny M A t Q E s) (hQ:∀a s,Q a s->Q' a s):wpAny M A t Q' E s:=wpAny_mono h hQ fun _ _ x=>x
end L2
namespace L2
open PySem PySem.Spec PyProof.Rows
section
variable {X:Cx}
theorem bin {a b:Expr} {ta tb:TE} (ha:PE X a ta) (hb:PE X b tb) {pins:List (Addr×Obj)} {s:Shared} {σ:St} {H:Hp} {R:V->V->Hp->Prop} (I:Inv X pins σ H s) (h:ta σ H fun x H1=>tb σ H1 fun y H2=>R x y H2)
 {α:Type} {Q:α->Shared->Prop} {f:Value->Value->Sem α}
 (hf:∀v u s2 x y H2,Inv X pins σ H2 s2->YE x v->YE y u->R x y H2->wpAny (model X.prog X.w) X.A (f v u) Q X.xe s2) :
 wpAny (model X.prog X.w) X.A (eval a X.env) (fun v s₁=>wpAny (model X.prog X.w) X.A (eval b X.env) (fun u s₂=>wpAny (model X.prog X.w) X.A (f v u) Q X.xe s₂) X.xe s₁) X.xe s:=by
 refine thn (ha pins s σ H _ I h) fun v s1 ⟨x,H1,I1,r1,q1⟩=>?_
 refine thn (hb pins s1 σ H1 _ I1 q1) fun u s2 ⟨y,H2,I2,r2,q2⟩=>?_
 exact hf v u s2 x y H2 I2 r1 r2 q2
def tVar (i:Nat):TE:=fun σ H Q=>∃v,σ[i]?=some (some v)/\Q v H
def tC (v:V):TE:=fun _ H Q=>Q v H
theorem pe_var {i:Nat} {x:Str} {pos:Pos} (hN:X.N[i]?=some x) (hv:Vis X.env.scope x) (hd:(x == ("__debug__":Str))=false:=by decide) (hcd:(x == ("__classdict__":Str))=false:=by decide):PE X (.Name x pos) (tVar i):=by
 intro pins s σ H Q I h
 obtain ⟨v,e,h⟩:=h
 obtain ⟨m,hn,hl⟩:=I.loc
 obtain ⟨u,r,l⟩:=hl i x v hN e hv
 have fin:EP X pins σ Q u s:=⟨v,H,I,r,h⟩
 rcases l with ⟨hk,hm⟩ | ⟨hk,c,hc,hcell⟩
 ·exact wpAny_Name (wpAny_loadName_local I.ok.kind hk hn hm fin) hd
 ·rcases hk with hk | hk
  ·exact wpAny_Name (wpAny_loadName_cell I.ok.kind hk hc hcell fin) hd
  ·exact wpAny_Name (wpAny_loadName_free I.ok.kind hk hc hcell fin hcd) hd
theorem JU {i j pos}:PE X (.Constant (.int i) j pos) (tC (.int i)):=fun _ _ _ H _ I h=>wpAny_Constant_int ⟨.int i,H,I.tok _,⟨_,rfl⟩,h⟩
theorem pe_bl {b j pos}:PE X (.Constant (.bool b) j pos) (tC (.bl b)):=fun _ _ _ H _ I h=>Constant_bool ⟨.bl b,H,I,rfl,h⟩
theorem Qe {j pos}:PE X (.Constant .none j pos) (tC .non):=fun _ _ _ H _ I h=>Constant_none ⟨.non,H,I,rfl,h⟩
def Gl (X:Cx) (x:Str):Prop:=X.env.kindOf x=some .globalImplicit
theorem Zfx {E:Value->Shared->Prop} {pins:List (Addr×Obj)} {s:Shared} {σ:St} {H:Hp} {x:Str} {u:Value} {pos:Pos} {Q:Value->Shared->Prop} (I:Inv X pins σ H s) (hg:Gl X x) (hm:X.mg x=some u) (h:Q u s)
 (hd:(x == ("__debug__":Str))=false:=by decide):wpAny (model X.prog X.w) X.A (eval (.Name x pos) X.env) Q E s:=
 Calls.Name_function_global I.ok.kind hg (Calls.loadGlobal_global (by rw [I.ok.glob]; exact I.mod.glob.keeps I.bk) hm h) hd
theorem QF {E:Value->Shared->Prop} {pins:List (Addr×Obj)} {s:Shared} {σ:St} {H:Hp} {x:Str} {u:Value} {pos:Pos} {Q:Value->Shared->Prop} (I:Inv X pins σ H s) (hg:Gl X x) (hm:X.mg x=none) (hv:bootBuiltins x=some u) (h:Q u s)
 (hn:x≠"__name__":=by decide) (hd:(x == ("__debug__":Str))=false:=by decide):wpAny (model X.prog X.w) X.A (eval (.Name x pos) X.env) Q E s:=by
 obtain ⟨mb,h1,h2⟩:=I.mod.blt
 exact Calls.Name_function_global I.ok.kind hg (Calls.loadGlobal_builtin (by rw [I.ok.glob]; exact I.mod.glob.keeps I.bk) hm (by rw [I.ok.blt]; exact h1.keeps I.bk) ((h2 x hn).trans hv) h) hd
theorem pe_glob {x:Str} {v:V} {u:Value} {pos:Pos} (hg:Gl X x) (hm:X.mg x=some u) (r:YE v u) (hd:(x == ("__debug__":Str))=false:=by decide):PE X (.Name x pos) (tC v):=
 fun _ _ _ H _ I h=>Zfx I hg hm ⟨v,H,I,r,h⟩ hd
variable {a b:Expr} {ta tb:TE} {pos:Pos}
def PC (X:Cx) (op:CmpOp) (a b:Expr) (t:TE):Prop:=
 ∀(pins:List (Addr×Obj)) (s:Shared) (σ:St) (H:Hp) (Q:VK),Inv X pins σ H s->t σ H Q->
  wpAny (model X.prog X.w) X.A (eval a X.env) (fun v s₁=>wpAny (model X.prog X.w) X.A (eval b X.env) (fun u s₂=>wpAny (model X.prog X.w) X.A (compareOp op v u) (EP X pins σ Q) X.xe s₂) X.xe s₁) X.xe s
theorem nobehind (b:Expr) {op:CmpOp} (h:op≠.In) (h2:op≠.NotIn):behindInMarks op b=false:=by
 have e1:(op == CmpOp.In)=false:=by cases op <;> first | rfl | exact absurd rfl h
 have e2:(op == CmpOp.NotIn)=false:=by cases op <;> first | rfl | exact absurd rfl h2
 cases b <;> simp [behindInMarks,e1,e2]
def tIsN (ta:TE):TE:=fun σ H Q=>ta σ H fun x H1=>Q (.bl (decide (x=.non))) H1
def tNotN (ta:TE):TE:=fun σ H Q=>ta σ H fun x H1=>Q (.bl (!decide (x=.non))) H1
theorem YE.none_iff {x:V} {v:Value} (r:YE x v):(v == Value.none)=decide (x=.non):=by
 cases x with
 | non=>cases r; rfl
 | bl _=>cases r; rfl
 | int _=>obtain ⟨t,rfl⟩:=r; rfl
 | str _=>obtain ⟨t,rfl⟩:=r; rfl
 | byt _=>obtain ⟨t,rfl⟩:=r; rfl
 | flt _=>obtain ⟨t,rfl⟩:=r; rfl
 | ref _=>cases r; rfl
 | ty _=>cases r; rfl
theorem Wq {j pos'} (ha:PE X a ta):PC X .Is a (.Constant .none j pos') (tIsN ta):=by
 intro pins s σ H Q I h
 refine thn (ha pins s σ H _ I h) fun v s1 ⟨x,H1,I1,r1,q1⟩=>?_
 exact Constant_none (is_none_gen ⟨.bl _,H1,I1,by rw [r1.none_iff]; rfl,q1⟩)
theorem pc_notN {j pos'} (ha:PE X a ta):PC X .IsNot a (.Constant .none j pos') (tNotN ta):=by
 intro pins s σ H Q I h
 refine thn (ha pins s σ H _ I h) fun v s1 ⟨x,H1,I1,r1,q1⟩=>?_
 exact Constant_none (isnot_none_gen ⟨.bl _,H1,I1,by rw [r1.none_iff]; rfl,q1⟩)
def tB (t:TE):TT:=fun σ H Q=>t σ H fun x H1=>∃c,x=.bl c/\Q c H1
theorem XT {op:CmpOp} {t:TE} (h:PC X op a b t) (h1:behindInMarks op b=false:=by first | exact nobehind _ (by decide) (by decide) | rfl):PT X (.Compare a [op] [b] pos) (tB t):=by
 intro pins s σ H Q I hw
 refine wpAny_isTrue_Compare1 (thn (h pins s σ H _ I hw) fun v s1 h1=>thn h1 fun u s2 h2=>thn h2 fun c s3 ⟨x,H1,I1,r1,q1⟩=>?_) h1
 obtain ⟨d,rfl,q⟩:=q1
 cases r1
 exact wpAny_truthy_bool ⟨H1,I1,q⟩
theorem Z0 {e:Expr} {t:TE} (h:PE X e t) (he:∀whole,isTrue e X.env whole=(do let v <- whole; standAt e.pos; holding [v] (truthy v)):=by intro _; rfl):PT X e (tB t):=by
 intro pins s σ H Q I hw
 refine isTrue_plain (thn (h pins s σ H _ I hw) fun v s1 ⟨x,H1,I1,r1,q1⟩=>?_) (he _)
 obtain ⟨d,rfl,q⟩:=q1
 cases r1
 exact wpAny_truthy_bool ⟨H1,I1,q⟩
variable {tA tB':TT} {rest:List Expr}
def tAnd (t u:TT):TT:=fun σ H Q=>t σ H fun c H1=>if c=true then u σ H1 Q else Q false H1
def tOr (t u:TT):TT:=fun σ H Q=>t σ H fun c H1=>if c=true then Q true H1 else u σ H1 Q
def tNot (t:TT):TT:=fun σ H Q=>t σ H fun c H1=>Q (!c) H1
theorem XI (ha:PT X a tA):PW X (.BoolOp .And [a] pos) tA:=by
 intro wh pins s σ H Q I h
 refine isTrue_and (thn (ha pins s σ H Q I h) fun c s1 e=>?_)
 cases c with
 | true=>exact isTrue_and_nil e
 | false=>exact e
theorem pw_or1 (ha:PT X a tA):PW X (.BoolOp .Or [a] pos) tA:=by
 intro wh pins s σ H Q I h
 refine isTrue_or (thn (ha pins s σ H Q I h) fun c s1 e=>?_)
 cases c with
 | false=>exact isTrue_or_nil e
 | true=>exact e
theorem Xd (ha:PT X a tA) (hb:PW X (.BoolOp .And (b :: rest) pos) tB'):PW X (.BoolOp .And (a :: b :: rest) pos) (tAnd tA tB'):=by
 intro wh pins s σ H Q I h
 refine isTrue_and (thn (ha pins s σ H _ I h) fun c s1 ⟨H1,I1,q1⟩=>?_)
 cases c with
 | true=>exact hb wh pins s1 σ H1 Q I1 q1
 | false=>exact ⟨H1,I1,q1⟩
theorem pw_or (ha:PT X a tA) (hb:PW X (.BoolOp .Or (b :: rest) pos) tB'):PW X (.BoolOp .Or (a :: b :: rest) pos) (tOr tA tB'):=by
 intro wh pins s σ H Q I h
 refine isTrue_or (thn (ha pins s σ H _ I h) fun c s1 ⟨H1,I1,q1⟩=>?_)
 cases c with
 | true=>exact ⟨H1,I1,q1⟩
 | false=>exact hb wh pins s1 σ H1 Q I1 q1
theorem Y8 (ha:PT X a tA):PT X (.UnaryOp .Not a pos) (tNot tA):=by
 intro pins s σ H Q I h
 exact isTrue_not (ha pins s σ H (fun c H1=>Q (!c) H1) I h)
def tAndV (ta tb:TE):TE:=fun σ H Q=>ta σ H fun x H1=>∃c,x=.bl c/\if c=true then tb σ H1 Q else Q (.bl false) H1
theorem ZbL {op} {t:TE} (h:PE X a t):PE X (.BoolOp op [a] pos) t:=fun pins s σ H Q I hw=>BoolOp_one (h pins s σ H Q I hw)
theorem JT (ha:PE X a ta) (hb:PE X (.BoolOp .And (b :: rest) pos) tb):PE X (.BoolOp .And (a :: b :: rest) pos) (tAndV ta tb):=by
 intro pins s σ H Q I h
 refine BoolOp_and (thn (ha pins s σ H _ I h) fun v s1 ⟨x,H1,I1,r1,q1⟩=>?_)
 obtain ⟨c,rfl,q1⟩:=q1
 cases r1
 refine wpAny_truthy_bool ?_
 cases c with
 | true=>exact hb pins s1 σ H1 Q I1 q1
 | false=>exact ⟨.bl false,H1,I1,rfl,q1⟩
def tIf (t:TT) (ta tb:TE):TE:=fun σ H Q=>t σ H fun c H1=>if c=true then ta σ H1 Q else tb σ H1 Q
theorem pe_ifExp {c:Expr} (hc:PT X c tA) (ha:PE X a ta) (hb:PE X b tb):PE X (.IfExp c a b pos) (tIf tA ta tb):=by
 intro pins s σ H Q I h
 refine wpAny_IfExp (thn (hc pins s σ H _ I h) fun d s1 ⟨H1,I1,q1⟩=>?_)
 cases d with
 | true=>exact ha pins s1 σ H1 Q I1 q1
 | false=>exact hb pins s1 σ H1 Q I1 q1
end
end L2
namespace L2
open PySem PySem.Spec PyProof.Rows
def SqL (K:Oa) (H:Hp) (a:Addr) (xs:List V):Prop:=
 Rd H a (.lst xs)∨
  ∃(o:Obj) (its:Array Value) (n:Nat),K.lookup a=some o/\o.cls=.type "list"/\o.dict=none/\o.data=.seq its n/\its.size<=sizeLine/\Z8 xs its.toList
def SqT (K:Oa) (H:Hp) (a:Addr) (xs:List V):Prop:=
 Rd H a (.tup xs)∨
  ∃(o:Obj) (its:Array Value) (n:Nat),K.lookup a=some o/\o.cls=.type "tuple"/\o.data=.seq its n/\its.size<=sizeLine/\Z8 xs its.toList
def absV:Value->Option V
 | .none=>some .non
 | .bool b=>some (.bl b)
 | .int i _=>some (.int i)
 | .str x _=>some (.str x)
 | .bytes b _=>some (.byt b)
 | .float b _=>some (.flt b)
 | .ref a=>some (.ref a)
 | .type n=>some (.ty n)
 | _=>none
theorem YE.abs {x:V} {u:Value} (r:YE x u):absV u=some x:=by
 cases x with
 | non=>cases r; rfl
 | bl _=>cases r; rfl
 | int _=>obtain ⟨t,rfl⟩:=r; rfl
 | str _=>obtain ⟨t,rfl⟩:=r; rfl
 | byt _=>obtain ⟨t,rfl⟩:=r; rfl
 | flt _=>obtain ⟨t,rfl⟩:=r; rfl
 | ref _=>cases r; rfl
 | ty _=>cases r; rfl
theorem YE.inj {x y:V} {u:Value} (r:YE x u) (q:YE y u):x=y:=Option.some.inj (r.abs.symm.trans q.abs)
theorem Z8.inj:∀{xs ys:List V} {us:List Value},Z8 xs us->Z8 ys us->xs=ys
 | _,_,_,.nil,.nil=>rfl
 | _,_,_,.cons r t,.cons r' t'=>by rw [r.inj r',Z8.inj t t']
section
variable {X:Cx} {pins:List (Addr×Obj)} {σ:St} {H:Hp} {s:Shared} {a:Addr} {xs ys:List V}
theorem SqL.of {K:Oa} (h:H a=some (.lst xs)):SqL K H a xs:=.inl (.inl h)
theorem SqT.of {K:Oa} (h:H a=some (.tup xs)):SqT K H a xs:=.inl (.inl h)
theorem Inv.list (I:Inv X pins σ H s) (h:SqL X.K H a xs):∃its:List Value,Z8 xs its/\PlainL s.heap a its.toArray/\xs.length<=sizeLine:=by
 rcases h with h | ⟨o,its,n,hk,hc,hd,hs,hz,r⟩
 ·obtain ⟨z,its,n,r,e⟩:=h.ok I.hok
  exact ⟨its,r,⟨_,n,e,rfl,rfl,rfl⟩,z⟩
 ·refine ⟨its.toList,r,⟨o,n,I.kIn a o hk,hc,hd,by simpa using hs⟩,?_⟩
  have e:=r.length
  simp only [Array.length_toList] at e
  simp [*]
theorem Inv.tuple (I:Inv X pins σ H s) (h:SqT X.K H a xs):∃its:List Value,Z8 xs its/\IsTup s.heap a its.toArray/\xs.length<=sizeLine:=by
 rcases h with h | ⟨o,its,n,hk,hc,hs,hz,r⟩
 ·obtain ⟨z,its,r,p⟩:=h.ok I.hok
  exact ⟨its,r,p,z⟩
 ·refine ⟨its.toList,r,⟨o,I.kIn a o hk,hc,n,by simpa using hs⟩,?_⟩
  have e:=r.length
  simp only [Array.length_toList] at e
  omega
theorem Inv.list_inj (I:Inv X pins σ H s) (h:SqL X.K H a xs) (h':SqL X.K H a ys):xs=ys:=by
 obtain ⟨its,r,⟨o,n,e,_,_,d⟩,_⟩:=I.list h
 obtain ⟨its',r',⟨o',n',e',_,_,d'⟩,_⟩:=I.list h'
 rw [e] at e'; cases e'
 rw [d] at d'
 injection d' with d1 _
 have:its=its':=by simpa using congrArg Array.toList d1
 subst this
 exact r.inj r'
theorem Inv.tuple_inj (I:Inv X pins σ H s) (h:SqT X.K H a xs) (h':SqT X.K H a ys):xs=ys:=by
 obtain ⟨its,r,⟨o,e,_,n,d⟩,_⟩:=I.tuple h
 obtain ⟨its',r',⟨o',e',_,n',d'⟩,_⟩:=I.tuple h'
 rw [e] at e'; cases e'
 rw [d] at d'
 injection d' with d1 _
 have:its=its':=by simpa using congrArg Array.toList d1
 subst this
 exact r.inj r'
end
abbrev Cx.wish (X:Cx) (E:Value->Shared->Prop):Cx:={ X with xe:=E }
abbrev Cx.nox (X:Cx):Cx:=X.wish fun _ _=>False
theorem Cx.Ok.wish {X:Cx} (ok:X.Ok) (E:Value->Shared->Prop):(X.wish E).Ok:=
 ⟨ok.mod,ok.kind,ok.glob,ok.blt,ok.above,ok.inj,ok.has,ok.cab,ok.hd,ok.frames,ok.stk,ok.exf,ok.bs,ok.bsz,ok.noex,ok.exfs,ok.funs,ok.frf⟩
theorem Cx.Ok.unwish {X:Cx} {E:Value->Shared->Prop} (ok:(X.wish E).Ok):X.Ok:=
 ⟨ok.mod,ok.kind,ok.glob,ok.blt,ok.above,ok.inj,ok.has,ok.cab,ok.hd,ok.frames,ok.stk,ok.exf,ok.bs,ok.bsz,ok.noex,ok.exfs,ok.funs,ok.frf⟩
section
variable {X:Cx} {pins:List (Addr×Obj)} {σ:St} {H:Hp} {s:Shared} {E:Value->Shared->Prop}
theorem Inv.wish (I:Inv X pins σ H s) (E:Value->Shared->Prop):Inv (X.wish E) pins σ H s:=⟨I.ok.wish E,I.os,I.bare,I.base,I.loc,I.cell,I.free,I.freeC,I.pin,I.hok,I.len⟩
theorem Inv.unwish (I:Inv (X.wish E) pins σ H s):Inv X pins σ H s:=⟨I.ok.unwish,I.os,I.bare,I.base,I.loc,I.cell,I.free,I.freeC,I.pin,I.hok,I.len⟩
theorem SP.unwish {D:Zah} {f:Flow} {s':Shared} (h:SP (X.wish E) pins D f s'):SP X pins D f s':=by
 cases f with
 | next=>obtain ⟨σ',H',I,q⟩:=h; exact ⟨σ',H',I.unwish,q⟩
 | brk=>obtain ⟨σ',H',I,q⟩:=h; exact ⟨σ',H',I.unwish,q⟩
 | cont=>obtain ⟨σ',H',I,q⟩:=h; exact ⟨σ',H',I.unwish,q⟩
 | ret u=>obtain ⟨v,σ',H',I,r,q⟩:=h; exact ⟨v,σ',H',I.unwish,r,q⟩
theorem PSs.nox {st:List Stmt} {t:TS} (h:PSs X.nox st t):PSs X st t:=fun pins s σ H D I hw=>
 wpAny_mono (h pins s σ H D (I.wish _) hw) (fun _ _ q=>q.unwish) fun _ _ z=>False.elim z
end
section
variable {X:Cx} {st:Stmt} {rest:List Stmt} {t u:TS} {e:Expr} {te:TE} {pos:Pos}
def tNext:TS:=fun D σ H=>D.nx σ H
def tSeq (t u:TS):TS:=fun D σ H=>t { D with nx:=u D } σ H
theorem Zx:PSs X [] tNext:=fun _ _ σ H _ I h=>wpAny_execs_nil ⟨σ,H,I,h⟩
theorem Zb (h1:PS X st t) (h2:PSs X rest u):PSs X (st :: rest) (tSeq t u):=by
 intro pins s σ H D I h
 refine wpAny_execs_cons (thn (h1 pins s σ H { D with nx:=u D } I h) fun f s1 q=>?_)
 cases f with
 | next=>
  obtain ⟨σ',H',I',q⟩:=q
  exact h2 pins s1 σ' H' D I' q
 | ret v=>exact q
 | brk=>exact q
 | cont=>exact q
theorem Zd (h1:PS X st t):PSs X [st] t:=by
 intro pins s σ H D I h
 refine wpAny_execs_cons (thn (h1 pins s σ H D I h) fun f s1 q=>?_)
 cases f with
 | next=>exact wpAny_execs_nil q
 | ret v=>exact q
 | brk=>exact q
 | cont=>exact q
def tBreak:TS:=fun D σ H=>D.bk σ H
theorem ps_break:PS X (.Break pos) tBreak:=fun _ _ σ H _ I h=>wpAny_Break ⟨σ,H,I,h⟩
theorem Inv.quiet {pins:List (Addr×Obj)} {σ:St} {H:Hp} {s:Shared} (I:Inv X pins σ H s):interactive X.env=false:=by simp [interactive,I.ok.kind]
def tDrop (te:TE):TS:=fun D σ H=>te σ H fun _ H1=>D.nx σ H1
theorem Xh (he:PE X e te) (hs:swapsWith e none pos.line X.env=pure false:=by rfl):PS X (.Expr e pos) (tDrop te):=by
 intro pins s σ H D I h
 exact wpAny_Expr_any (thn (he pins s σ H _ I h) fun v s1 ⟨x,H1,I1,r1,q1⟩=>⟨σ,H1,I1,q1⟩) I.quiet hs
def tRet (te:TE):TS:=fun D σ H=>te σ H D.rt
theorem Zk (he:PE X e te):PS X (.Return (some e) pos) (tRet te):=by
 intro pins s σ H D I h
 exact wpAny_Return_some (thn (he pins s σ H _ I h) fun v s1 ⟨x,H1,I1,r1,q1⟩=>⟨x,σ,H1,I1,r1,q1⟩)
def tIfS (c:TT) (t u:TS):TS:=fun D σ H=>c σ H fun b H1=>if b=true then t D σ H1 else u D σ H1
theorem ZM {c:Expr} {a b:List Stmt} {tc:TT} (hc:PT X c tc) (ha:PSs X a t) (hb:PSs X b u):PS X (.If c a b pos) (tIfS tc t u):=by
 intro pins s σ H D I h
 refine wpAny_If (thn (hc pins s σ H _ I h) fun d s1 ⟨H1,I1,q1⟩=>?_)
 cases d with
 | true=>exact ha pins s1 σ H1 D I1 q1
 | false=>exact hb pins s1 σ H1 D I1 q1
end
abbrev TG:=V->St->Hp->(St->Hp->Prop)->Prop
abbrev TGs:=List V->St->Hp->(St->Hp->Prop)->Prop
def PG (X:Cx) (target:Expr) (t:TG):Prop:=
 ∀(pins:List (Addr×Obj)) (s:Shared) (σ:St) (H:Hp) (v:V) (u:Value) (Q:St->Hp->Prop),Inv X pins σ H s->YE v u->t v σ H Q->
  wpAny (model X.prog X.w) X.A (assign target X.env u) (fun _ s'=>∃σ' H',Inv X pins σ' H' s'/\Q σ' H') X.xe s
def PGs (X:Cx) (ts:List Expr) (t:TGs):Prop:=
 ∀(pins:List (Addr×Obj)) (s:Shared) (σ:St) (H:Hp) (vs:List V) (us:List Value) (Q:St->Hp->Prop),Inv X pins σ H s->Z8 vs us->t vs σ H Q->
  wpAny (model X.prog X.w) X.A (assignInOrder ((assignEach ts X.env).map (·.2)) us) (fun _ s'=>∃σ' H',Inv X pins σ' H' s'/\Q σ' H') X.xe s
abbrev TSet:=V->V->V->Hp->(Hp->Prop)->Prop
def PSet (X:Cx) (t:TSet):Prop:=
 ∀(pins:List (Addr×Obj)) (s:Shared) (σ:St) (H:Hp) (o i v:V) (ov iv u:Value) (Q:Hp->Prop),Inv X pins σ H s->YE o ov->YE i iv->YE v u->t o i v H Q->
  wpAny (model X.prog X.w) X.A (setItem ov iv u) (fun _ s'=>∃H',Inv X pins σ H' s'/\Q H') X.xe s
abbrev TIp:=V->V->Hp->VK->Prop
def PIp (X:Cx) (op:Operator) (t:TIp):Prop:=
 ∀(pins:List (Addr×Obj)) (s:Shared) (σ:St) (H:Hp) (x y:V) (v u:Value) (Q:VK),Inv X pins σ H s->YE x v->YE y u->t x y H Q->
  wpAny (model X.prog X.w) X.A (inplaceOp op v u) (EP X pins σ Q) X.xe s
section
variable {X:Cx} {pos:Pos}
def JX (i:Nat):TG:=fun v σ H Q=>Q (σ.set i (some v)) H
theorem pg_name {i:Nat} {x:Str} (hN:X.N.Nodup) (hi:X.N[i]?=some x) (hx:Loc X.env.scope x) (hf:X.fn x=true∨X.env.scope.names.lookup x=some .local:=by first | exact .inl rfl | exact .inr rfl | assumption):PG X (.Name x pos) (JX i):=by
 intro pins s σ H v u Q I r h
 exact wpAny_assign_Name (Zgy I hN hi hx r (fun s' I'=>⟨_,H,I',h⟩) hf)
def gNil:TGs:=fun vs σ H Q=>vs=[]/\Q σ H
def gCons (t:TG) (u:TGs):TGs:=fun vs σ H Q=>∃v r,vs=v :: r/\t v σ H fun σ' H'=>u r σ' H' Q
theorem ZfA:PGs X [] gNil:=by
 intro pins s σ H vs us Q I r h
 obtain ⟨e,h⟩:=h
 subst e
 cases r
 exact assignInOrder_nil ⟨σ,H,I,h⟩
theorem JG {e:Expr} {es:List Expr} {t:TG} {u:TGs} (h1:PG X e t) (h2:PGs X es u)
 (hs:(assignEach (e :: es) X.env).map (·.2)=assign e X.env :: (assignEach es X.env).map (·.2):=by rfl):PGs X (e :: es) (gCons t u):=by
 intro pins s σ H vs us Q I r h
 obtain ⟨v,vr,e1,h⟩:=h
 subst e1
 cases r with
 | cons r rr=>
  rw [hs]
  refine assignInOrder_cons (thn (h1 pins s σ H _ _ _ I r h) fun _ s1 ⟨σ1,H1,I1,q1⟩=>?_)
  exact h2 pins s1 σ1 H1 _ _ Q I1 rr q1
def gTup (K:Oa) (n:Nat) (t:TGs):TG:=fun v σ H Q=>∃a xs,v=.ref a/\SqT K H a xs/\xs.length=n/\t xs σ H Q
theorem pg_tup {es:List Expr} {k:Nat} {t:TGs} {n:Nat} (hc:X.calm=true) (h:PGs X es t)
 (hn:(assignEach es X.env).length=n:=by rfl) (hst:(assignEach es X.env).findIdx? (·.1)=none:=by rfl):PG X (.Tuple es k pos) (gTup X.K n t):=by
 intro pins s σ H v u Q I r hw
 obtain ⟨a,xs,e1,hq,hl,hw⟩:=hw
 subst e1
 cases r
 obtain ⟨its,rv,ht,hz⟩:=I.tuple hq
 refine assign_Tuple_tuple (I.ok.hd hc) ht (by simp [hn,<- hl,rv.length]) hst fun h' hx=>?_
 have I1:Inv X pins σ H { s with heap:=h' }:=I.kept (t':=s.toks) fun b o e=>hx b o (O4 (Heap.lt_size e)) e
 exact h pins _ σ H xs _ Q I1 (by simpa using rv) hw
def gSub (to ti:TE) (t:TSet):TG:=fun v σ H Q=>to σ H fun o H1=>ti σ H1 fun i H2=>t o i v H2 fun H3=>Q σ H3
theorem pg_sub {o i:Expr} {to ti:TE} {t:TSet} (ho:PE X o to) (hi:PE X i ti) (hs:PSet X t)
 (ha:∀v,assign (.Subscript o i pos) X.env v=(do
  let ov <- holding [v] (eval o X.env)
  let iv <- holding [v,ov] (eval i X.env)
  standAt pos
  holding [v,ov,iv] (setItem ov iv v)
  release [v,ov,iv] []):=by intro _; rfl):PG X (.Subscript o i pos) (gSub to ti t):=by
 intro pins s σ H v u Q I r h
 rw [ha]
 refine wpAny_bind (wpAny_holding (thn (ho pins s σ H _ I h) fun ov s1 ⟨x,H1,I1,r1,q1⟩=>?_))
 refine wpAny_bind (wpAny_holding (thn (hi pins s1 σ H1 _ I1 q1) fun iv s2 ⟨y,H2,I2,r2,q2⟩=>?_))
 refine wpAny_bind (wpAny_standAt (wpAny_bind (wpAny_holding (thn (hs pins s2 σ H2 x y v ov iv u _ I2 r1 r2 r q2) fun _ s3 ⟨H3,I3,q3⟩=>?_))))
 exact wpAny_release ⟨σ,H3,I3,q3⟩
def tAsg (te:TE) (g:TG):TS:=fun D σ H=>te σ H fun x H1=>g x σ H1 D.nx
theorem ps_asg {tg e:Expr} {te:TE} {g:TG} (he:PE X e te) (hg:PG X tg g) (hs:swapsWithSole [tg] e pos.line X.env=pure false:=by rfl) (hw:swappedStores [tg] e X.env=pure none:=by rfl)
 (h1:(assignEach [tg] X.env).map (·.2)=[assign tg X.env]:=by rfl):PS X (.Assign [tg] e pos) (tAsg te g):=by
 intro pins s σ H D I h
 refine wpAny_Assign_stores (thn (he pins s σ H _ I h) fun v s1 ⟨x,H1,I1,r1,q1⟩=>?_) hs hw
 rw [h1]
 exact thn (hg pins s1 σ H1 x v _ I1 r1 q1) fun _ s2 q=>q
theorem ps_set {i:Nat} {x:Str} {e:Expr} {te:TE} {pos':Pos} (hN:X.N.Nodup) (hi:X.N[i]?=some x) (hx:Loc X.env.scope x) (he:PE X e te) (hs:swapsWith e (some (.Name x pos')) pos.line X.env=pure false:=by rfl) (hf:X.fn x=true∨X.env.scope.names.lookup x=some .local:=by first | exact .inl rfl | exact .inr rfl | assumption) :
 PS X (.Assign [.Name x pos'] e pos) (tAsg te (JX i)):=by
 intro pins s σ H D I h
 refine wpAny_Assign_Name (thn (he pins s σ H _ I h) fun v s1 ⟨y,H1,I1,r1,q1⟩=>?_) hs
 exact Zgy I1 hN hi hx r1 (fun s2 I2=>⟨_,H1,I2,q1⟩) hf
def tAug (i:Nat) (te:TE) (ti:TIp):TS:=fun D σ H=>∃x,σ[i]?=some (some x)/\te σ H fun y H1=>ti x y H1 fun z H2=>D.nx (σ.set i (some z)) H2
theorem ps_aug {i:Nat} {x:Str} {e:Expr} {te:TE} {op:Operator} {ti:TIp} {pos':Pos} (hN:X.N.Nodup) (hi:X.N[i]?=some x) (hx:Loc X.env.scope x) (he:PE X e te) (ho:PIp X op ti) (hf:X.fn x=true∨X.env.scope.names.lookup x=some .local:=by first | exact .inl rfl | exact .inr rfl | assumption) :
 PS X (.AugAssign (.Name x pos') op e pos) (tAug i te ti):=by
 intro pins s σ H D I h
 obtain ⟨v,e1,h⟩:=h
 obtain ⟨m,hn,hl⟩:=I.loc
 have vis:Vis X.env.scope x:=by rcases hx with k | k; exact .inl k; exact .inr (.inl k)
 obtain ⟨u,r,l⟩:=hl i x v hi e1 vis
 refine wpAny_AugAssign_Name ?_
 have go:wpAny (model X.prog X.w) X.A (eval e X.env) (fun w s₂=>wpAny (model X.prog X.w) X.A (inplaceOp op u w) (fun r s₃=>wpAny (model X.prog X.w) X.A (storeName X.env x r) (fun _=>SP X pins D .next) X.xe s₃) X.xe s₂) X.xe s:=by
  refine thn (he pins s σ H _ I h) fun w s1 ⟨y,H1,I1,r1,q1⟩=>?_
  refine thn (ho pins s1 σ H1 v y u w _ I1 r r1 q1) fun z s2 ⟨zv,H2,I2,r2,q2⟩=>?_
  exact Zgy I2 hN hi hx r2 (fun s3 I3=>⟨_,H2,I3,q2⟩) hf
 rcases l with ⟨hk,hm⟩ | ⟨hk,c,hc,hcell⟩
 ·exact wpAny_loadName_local I.ok.kind hk hn hm go
 ·rcases hk with hk | hk
  ·exact wpAny_loadName_cell I.ok.kind hk hc hcell go
  ·rcases hx with k | k
   ·have:X.env.scope.names.lookup x=some .free:=hk
    rw [k] at this; cases this
   ·have:X.env.scope.names.lookup x=some .free:=hk
    rw [k] at this; cases this
end
section
variable {X:Cx} {pos:Pos}
def tWhile (c:TT) (tb:TS):TS:=fun D σ H=>∃W:Nat->St->Hp->Prop,(∃m,W m σ H)/\∀m σ H,W m σ H->
 c σ H fun b H1=>if b=true then ∃N:St->Hp->Prop,(∀σ' H',N σ' H'->∃m',m' < m/\W m' σ' H')/\tb { D with nx:=N,ct:=N,bk:=D.nx } σ H1 else D.nx σ H1
theorem ps_while {c:Expr} {body:List Stmt} {tc:TT} {tb:TS} (hp:PassesOwn (model X.prog X.w) X.A X.env X.xe) (hc:PT X c tc) (hb:PSs X body tb):PS X (.While c body [] pos) (tWhile tc tb):=by
 intro pins s σ H D I h
 obtain ⟨W,⟨m0,w0⟩,turn⟩:=h
 refine wpAny_While (codeAny_whileLoop (fun n s'=>∃σ' H',Inv X pins σ' H' s'/\W n σ' H') ?_ m0 ⟨σ,H,I,w0⟩)
 rintro n s1 ⟨σ1,H1,I1,w1⟩
 refine wpAny_passesOwn hp (thn (hc pins s1 σ1 H1 _ I1 (turn n σ1 H1 w1)) fun b s2 ⟨H2,I2,q2⟩=>?_)
 cases b with
 | true=>
  obtain ⟨N,hN,q2⟩:=q2
  rw [if_pos rfl]
  refine wpAny_passesOwn hp (thn (hb pins s2 σ1 H2 _ I2 q2) fun f s3 q3=>?_)
  cases f with
  | next=>
   obtain ⟨σ3,H3,I3,n3⟩:=q3
   obtain ⟨m',hm,w3⟩:=hN σ3 H3 n3
   exact ⟨m',hm,σ3,H3,I3,w3⟩
  | cont=>
   obtain ⟨σ3,H3,I3,n3⟩:=q3
   obtain ⟨m',hm,w3⟩:=hN σ3 H3 n3
   exact ⟨m',hm,σ3,H3,I3,w3⟩
  | brk=>exact q3
  | ret v=>exact q3
 | false=>
  rw [if_neg Oo]
  exact wpAny_execs_nil ⟨σ1,H2,I2,q2⟩
end
structure It where
 go:Nat->Hp->Prop
 yld:Nat->Hp->V->Hp->Prop
 stop:Nat->Hp->Prop
def FpOk (X:Cx) (pins:List (Addr×Obj)) (H:Hp) (b:Addr):Prop:=
 H b=none/\b≠X.env.locals/\b ∉ X.fs/\(b∈X.ex∨X.s_0.heap.objs.size<=b)/\(∀x c,X.env.cells.lookup x=some c->c≠b)/\∀p∈X.pn ++ pins,p.1≠b
theorem Inv.fpOk {X:Cx} {pins:List (Addr×Obj)} {σ:St} {H H':Hp} {s:Shared} {b:Addr} (I:Inv X pins σ H s) (hb:s.heap.objs.size<=b) (hn:H' b=none):FpOk X pins H' b:=by
 refine ⟨hn,U6 (OE I.lt hb),I.nofs hb,.inr (OD I.sz hb),fun x c e z=>?_,fun p hp z=>?_⟩
 ·obtain ⟨v,q⟩:=I.cell x c e
  exact absurd (OE q.lt (by rw [z]; exact hb)) (Im _)
 ·exact absurd (OE (Heap.lt_size (I.pin p hp).1) (by rw [z]; exact hb)) (Im _)
structure Turn (P:Program) (w:World) (K:Oa) (tg:Expr) (J:It) (fp:List Addr) (it:Addr) (tn:Nat->Heap->Prop):Prop where
 mem:it∈fp
 obj:∀i h,tn i h->∀b∈fp,∃o,h.get? b=some o/\∀v,o.data≠.cell v
 keep:∀i h h',tn i h->(∀b∈fp,∀o,h.get? b=some o->h'.get? b=some o)->tn i h'
 item:∀(X:Cx),X.prog=P->X.w=w->X.K=K->X.calm=true->∀(i:Nat) (pins:List (Addr×Obj)) (s:Shared) (σ:St) (H:Hp) (E:Value->Shared->Prop),Inv X pins σ H s->(∀b∈fp,FpOk X pins H b)->tn i s.heap->J.go i H->
  wpAny (model P w) X.A (pyNext (.ref it)) (fun r s1=>∃u,r=some u/\
   wpAny (model P w) X.A (letOwnedTupleGo tg (.ref it) u) (fun _ s2=>∃x H',Inv X pins σ H' s2/\YE x u/\J.yld i H x H'/\tn (i + 1) s2.heap/\∀b∈fp,H' b=none) E s1) E s
 done:∀(X:Cx),X.prog=P->X.w=w->X.K=K->X.calm=true->∀(i:Nat) (pins:List (Addr×Obj)) (s:Shared) (σ:St) (H:Hp) (E:Value->Shared->Prop),Inv X pins σ H s->(∀b∈fp,FpOk X pins H b)->tn i s.heap->J.stop i H->
  wpAny (model P w) X.A (pyNext (.ref it)) (fun r s1=>r=none/\Inv X pins σ H s1) E s
 self:∀(A:Around) (i:Nat) (s:Shared) (Q:Value->Shared->Prop) (E:Value->Shared->Prop),tn i s.heap->Q (.ref it) s->wpAny (model P w) A (pyIter (.ref it)) Q E s
abbrev TI:=St->Hp->(It->Hp->Prop)->Prop
def PIE (X:Cx) (pins:List (Addr×Obj)) (σ:St) (tg:Expr) (R:It->Hp->Prop) (itv:Value) (s2:Shared):Prop:=
 ∃(it:Addr) (fp:List Addr) (tn:Nat->Heap->Prop) (J:It) (H':Hp),itv=.ref it/\Inv X pins σ H' s2/\Turn X.prog X.w X.K tg J fp it tn/\tn 0 s2.heap/\(∀b∈fp,FpOk X pins H' b)/\R J H'
def PI (X:Cx) (tg iter:Expr) (wi:TI):Prop:=
 ∀(pins:List (Addr×Obj)) (s:Shared) (σ:St) (H:Hp) (R:It->Hp->Prop),Inv X pins σ H s->wi σ H R->
  wpAny (model X.prog X.w) X.A (eval iter X.env) (fun v s1=>wpAny (model X.prog X.w) X.A (pyIter v) (PIE X pins σ tg R) X.xe s1) X.xe s
theorem go_of {M:Model} {A:Around} {E:Value->Shared->Prop} {s:Shared} {tg:Expr} {it:Addr} {u:Value} {o:Obj} {n:String} {vs:Array Value} {Q:Unit->Shared->Prop} (ho:s.heap.get? it=some o) (hc:o.cls=.type n) (hd:o.data=.fields vs)
 (hn:["enumerate","zip","dict_itemiterator","dict_reverseitemiterator","odict_iterator","itertools.zip_longest","itertools.pairwise"].contains n=false) (hQ:Q () s):wpAny M A (letOwnedTupleGo tg (.ref it) u) Q E s:=by
 unfold letOwnedTupleGo
 cases tg <;> first
  | exact wpAny_pure hQ
  | (cases u <;> first
   | exact wpAny_pure hQ
   | (refine wpAny_bind (wpAny_load ho ?_)
      rw [hc,hd]
      show wpAny M A (if (["enumerate","zip","dict_itemiterator","dict_reverseitemiterator","odict_iterator","itertools.zip_longest","itertools.pairwise"].contains n && vs[0]? == some (rawInt _))=true then _ else _) Q E s
      rw [if_neg (by intro h; rw [hn,Vc] at h; cases h)]
      exact wpAny_pure hQ))
def Itl (K:Oa) (a:Addr):It:=
 ⟨fun i H=>∃xs x,SqL K H a xs/\xs[i]?=some x,fun i H x H'=>H'=H/\∀xs,SqL K H a xs->xs[i]?=some x,fun i H=>∃xs,SqL K H a xs/\xs.length<=i⟩
def Itr (lo:Int) (n:Nat):It:=⟨fun i _=>i < n,fun i H x H'=>H'=H/\x=.int (lo + i),fun i _=>n<=i⟩
theorem turn_list {P:Program} {w:World} {K:Oa} {tg:Expr} (a it:Addr):Turn P w K tg (Itl K a) [it] it (fun i h=>h.IsListIter it a i) where
 mem:=by simp
 obj:=fun i h st b hb=>by
  have e:b=it:=by simpa using hb
  subst e
  obtain ⟨o,e,c,d⟩:=st
  exact ⟨o,e,fun v z=>by rw [d] at z; cases z⟩
 keep:=fun i h h' st k=>st.at fun o e=>k it (by simp) o e
 item:=by
  intro X hP hw hK hc i pins s σ H E I hf st hg
  subst hP hw hK
  obtain ⟨xs,x,hq,hx⟩:=hg
  obtain ⟨its,rv,p,hz⟩:=I.list hq
  obtain ⟨u,hu,ru⟩:=rv.get hx
  obtain ⟨f0,f1,f2,f3,f4,f5⟩:=hf it (by simp)
  refine wpAny_pyNext_list_item st p.isList (x:=u) (by simpa using hu) fun h' st' sb=>?_
  have I1:Inv X pins σ H { s with heap:=h' }:=I.turned (t':=s.toks) (fun b o hb e=>(sb.2 b hb).trans e) f0 f1 f3 f4 f5
  obtain ⟨o,e,c,d⟩:=id st'
  exact ⟨u,rfl,go_of (s:={ s with heap:=h' }) e c d (by decide) ⟨x,H,I1,ru,⟨rfl,fun ys hy=>by rw [I.list_inj hy hq]; exact hx⟩,st',fun b hb=>(hf b hb).1⟩⟩
 done:=by
  intro X hP hw hK hc i pins s σ H E I hf st hg
  subst hP hw hK
  obtain ⟨xs,hq,hx⟩:=hg
  obtain ⟨its,rv,p,hz⟩:=I.list hq
  obtain ⟨f0,f1,f2,f3,f4,f5⟩:=hf it (by simp)
  have hl:=rv.length
  exact wpAny_pyNext_list_end (I.ok.hd hc) st p.isList (by simp; lia) fun h' eb=>⟨rfl,I.turned (t':=s.toks) (fun b o hb e=>eb b o hb e) f0 f1 f3 f4 f5⟩
 self:=fun _ _ _ _ _ st h=>wpAny_pyIter_listiter st h
theorem turn_range {P:Program} {w:World} {K:Oa} {tg:Expr} (it:Addr) (lo:Int) (n:Nat):Turn P w K tg (Itr lo n) [it] it (fun i h=>IsRangeIter h it (lo + (i:Nat) * 1) ((n:Int) - (i:Nat)) 1) where
 mem:=by simp
 obj:=fun i h st b hb=>by
  have e:b=it:=by simpa using hb
  subst e
  exact ⟨_,st,fun v z=>by
   have z':Data.fields _=Data.cell v:=z
   cases z'⟩
 keep:=fun i h h' st k=>k it (by simp) _ st
 item:=by
  intro X hP hw hK hc i pins s σ H E I hf st hg
  subst hP hw hK
  obtain ⟨f0,f1,f2,f3,f4,f5⟩:=hf it (by simp)
  have W:=Walks.range (prog:=X.prog) (w:=X.w) (I.ok.hd hc) it lo 1 n
  refine W.item i s _ _ hg st fun v h' tk hv st' kk=>?_
  obtain ⟨t,rfl⟩:=hv
  have I1:Inv X pins σ H { s with heap:=h',toks:=tk }:=I.turned (fun b o hb e=>kk b o (by simpa using hb) e) f0 f1 f3 f4 f5
  refine ⟨_,rfl,go_of (s:={ s with heap:=h',toks:=tk }) (n:="range_iterator") st' rfl rfl (by decide) ⟨.int (lo + i),H,I1,⟨t,?_⟩,⟨rfl,rfl⟩,st',fun b hb=>(hf b hb).1⟩⟩
  rw [Int.mul_one]
 done:=by
  intro X hP hw hK hc i pins s σ H E I hf st hg
  subst hP hw hK
  obtain ⟨f0,f1,f2,f3,f4,f5⟩:=hf it (by simp)
  exact wpAny_pyNext_range_end (I.ok.hd hc) st (by have:n<=i:=hg; lia) fun h' eb=>⟨rfl,I.turned (t':=s.toks) (fun b o hb e=>eb b o hb e) f0 f1 f3 f4 f5⟩
 self:=fun _ _ _ _ _ st h=>wpAny_pyIter_rangeiter st h
end L2
namespace L2
open PySem PySem.Spec PyProof.Rows
section
variable {X:Cx} {tg:Expr}
def iList (K:Oa) (tl:TE):TI:=fun σ H R=>tl σ H fun x H1=>∃a,x=.ref a/\(∃xs,SqL K H1 a xs)/\R (Itl K a) H1
theorem pi_list {l:Expr} {tl:TE} (hl:PE X l tl):PI X tg l (iList X.K tl):=by
 intro pins s σ H R I h
 refine thn (hl pins s σ H _ I h) fun v s1 ⟨x,H1,I1,r1,q1⟩=>?_
 obtain ⟨a,e,⟨xs,hq⟩,q⟩:=q1
 subst e
 cases r1
 obtain ⟨its,rv,p,hz⟩:=I1.list hq
 refine wpAny_pyIter_list p.isList ?_
 refine ⟨s1.heap.objs.size,[s1.heap.objs.size],_,_,H1,rfl,I1.kept (t':=s1.toks) fun b o e=>Heap.get?_push_of_some _ e,turn_list a _,⟨_,Heap.get?_push_size _ rfl,rfl,rfl⟩,fun b hb=>?_,q⟩
 have e:b=s1.heap.objs.size:=by simpa using hb
 subst e
 exact I1.fpOk (Oq _) (I1.hok.fresh (Oq _))
theorem range_it {pins:List (Addr×Obj)} {σ:St} {H:Hp} {s:Shared} {R:It->Hp->Prop} {E:Value->Shared->Prop} {lo hi:Int} {t u v:Tok} {tk:Nat} (I:Inv X pins σ H s) (h1:-(2 ^ 62)<=lo) (h2:lo < 2 ^ 62) (h3:-(2 ^ 62)<=hi) (h4:hi < 2 ^ 62)
 (q:R (Itr lo (hi - lo).toNat) H):wpAny (model X.prog X.w) X.A (pyIter (.ref s.heap.objs.size)) (PIE X pins σ tg R) E { s with heap:=s.heap.push { cls:=.type "range",data:=.fields #[.int lo t,.int hi u,.int 1 v] },toks:=tk }:=by
 refine wpAny_pyIter_range (IsRange.new ..) (small_one h1 h2 h3 h4) ?_
 have I1:Inv X pins σ H { s with heap:=s.heap.push { cls:=.type "range",data:=.fields #[.int lo t,.int hi u,.int 1 v] },toks:=tk }:=I.kept fun b o e=>Heap.get?_push_of_some _ e
 refine ⟨(s.heap.push { cls:=.type "range",data:=.fields #[.int lo t,.int hi u,.int 1 v] }).objs.size,[(s.heap.push { cls:=.type "range",data:=.fields #[.int lo t,.int hi u,.int 1 v] }).objs.size],_,_,H,rfl,
  I1.kept (t':=tk) fun b o e=>Heap.get?_push_of_some _ e,turn_range _ lo (hi - lo).toNat,?_,fun b hb=>?_,q⟩
 ·have e1:lo + ((0:Nat):Int) * 1=lo:=by simp
  have e2:(((hi - lo).toNat:Nat):Int) - ((0:Nat):Int)=Builtin.Range.rangeSize lo hi 1:=by rw [rangeSize_one]; split <;> lia
  show IsRangeIter _ _ (lo + ((0:Nat):Int) * 1) ((((hi - lo).toNat:Nat):Int) - ((0:Nat):Int)) 1
  rw [e1,e2]
  exact Heap.get?_push_size _ rfl
 ·have e:b=(s.heap.push { cls:=.type "range",data:=.fields #[.int lo t,.int hi u,.int 1 v] }).objs.size:=by simpa using hb
  subst e
  exact I1.fpOk (Oq _) (I1.hok.fresh (Oq _))
def iRng1 (ta:TA):TI:=fun σ H R=>ta σ H fun vs H1=>∃j:Int,vs=[.int j]/\-(2 ^ 62)<=j/\j < 2 ^ 62/\R (Itr 0 j.toNat) H1
def iRng2 (ta:TA):TI:=fun σ H R=>ta σ H fun vs H1=>∃i j:Int,vs=[.int i,.int j]/\(-(2 ^ 62)<=i/\i < 2 ^ 62/\-(2 ^ 62)<=j/\j < 2 ^ 62)/\R (Itr i (j - i).toNat) H1
theorem QU {a:Expr} {ta:TA} {p pos:Pos} (hg:Gl X "range") (hm:X.mg "range"=none) (ha:PA X [a] ta) (hs:starEach [a] X.env=[(false,eval a X.env)]:=by rfl):PI X tg (.Call (.Name "range" p) [a] [] pos) (iRng1 ta):=by
 intro pins s σ H R I h
 refine Call_ (QF I hg hm boot_range (OQ (thn (ha pos pins s σ H _ I h) fun us s1 ⟨vs,H1,I1,r1,q1⟩=>?_) hs rfl))
 obtain ⟨j,e,q1,q2,q⟩:=q1
 subst e
 cases r1 with
 | cons r rr=>
  cases rr
  obtain ⟨t,rfl⟩:=r
  exact call_range_1 (range_it I1 (by exact O0 _) (by exact O0 _) q1 q2 (by simpa using q))
theorem pi_range2 {a b:Expr} {ta:TA} {p pos:Pos} (hg:Gl X "range") (hm:X.mg "range"=none) (ha:PA X [a,b] ta) (hs:starEach [a,b] X.env=[(false,eval a X.env),(false,eval b X.env)]:=by rfl) (hs2:starEach [b] X.env=[(false,eval b X.env)]:=by rfl) :
 PI X tg (.Call (.Name "range" p) [a,b] [] pos) (iRng2 ta):=by
 intro pins s σ H R I h
 refine Call_ (QF I hg hm boot_range (OQ (thn (ha pos pins s σ H _ I h) fun us s1 ⟨vs,H1,I1,r1,q1⟩=>?_) (by rw [hs,hs2]) (by rw [hs2]; rfl)))
 obtain ⟨i,j,e,⟨q1,q2,q3,q4⟩,q⟩:=q1
 subst e
 cases r1 with
 | cons r rr=>
  cases rr with
  | cons r' rr=>
   cases rr
   obtain ⟨t,rfl⟩:=r
   obtain ⟨t',rfl⟩:=r'
   exact call_range_2 (range_it I1 q1 q2 q3 q4 q)
def tFor (wi:TI) (g:TG) (tb:TS):TS:=fun D σ H=>wi σ H fun J H1=>∃W:Nat->Nat->St->Hp->Prop,(∃m,W 0 m σ H1)/\∀i m σ H,W i m σ H->
 (J.stop i H/\D.nx σ H)∨(J.go i H/\∃N:St->Hp->Prop,(∀σ' H',N σ' H'->∃m',m' < m/\W (i + 1) m' σ' H')/\∀x H',J.yld i H x H'->g x σ H' fun σ2 H2=>tb { D with nx:=N,ct:=N,bk:=D.nx } σ2 H2)
def pinsAt (fp:List Addr) (h:Heap):List (Addr×Obj):=fp.filterMap fun b=>(h.get? b).map fun o=>(b,o)
theorem Zdx {fp:List Addr} {h:Heap} {b:Addr} {o:Obj} (hb:b∈fp) (e:h.get? b=some o):(b,o)∈pinsAt fp h:=U4.mpr ⟨b,hb,by rw [e]; rfl⟩
theorem of_pinsAt {fp:List Addr} {h:Heap} {p:Addr×Obj} (hp:p∈pinsAt fp h):p.1∈fp/\h.get? p.1=some p.2:=by
 obtain ⟨b,hb,e⟩:=U4.mp hp
 cases q:h.get? b with
 | none=>rw [q] at e; cases e
 | some o=>
  rw [q] at e
  have e':(b,o)=p:=Option.some.inj e
  subst e'
  exact ⟨hb,q⟩
theorem Inv.pinned {pins:List (Addr×Obj)} {σ:St} {H:Hp} {s:Shared} {fp:List Addr} (I:Inv X pins σ H s) (hf:∀b∈fp,FpOk X pins H b) (ho:∀b∈fp,∃o,s.heap.get? b=some o/\∀v,o.data≠.cell v):Inv X (pins ++ pinsAt fp s.heap) σ H s:=
 I.pins_of fun p hp=>(IG.mp hp).elim (fun z=>I.pin p (Iz _ z)) fun z=>by
  obtain ⟨hb,e⟩:=of_pinsAt z
  obtain ⟨f0,f1,f2,_⟩:=hf p.1 hb
  obtain ⟨o,e',d⟩:=ho p.1 hb
  rw [e] at e'; cases e'
  exact ⟨e,f0,f1,f2,d⟩
theorem Inv.unpinned {pins pl:List (Addr×Obj)} {σ:St} {H:Hp} {s:Shared} (I:Inv X (pins ++ pl) σ H s):Inv X pins σ H s:=I.pins_of fun p hp=>I.pin p (Iz _ (Vy _ hp))
theorem Xx {iter:Expr} {body:List Stmt} {wi:TI} {g:TG} {tb:TS} {pos:Pos} (hp:PassesOwn (model X.prog X.w) X.A X.env X.xe) (hc:X.calm=true) (hi:PI X tg iter wi) (hg:PG X tg g) (hb:PSs X body tb)
 (hs:∀x,foldedSetIterable iter X.env x=pure x:=by intro _; rfl):PS X (.For tg iter body [] pos) (tFor wi g tb):=by
 intro pins s σ H D I h
 refine wpAny_For (thn (hi pins s σ H _ I h) fun v s1 h1=>thn h1 fun itv s2 h2=>?_) hs
 obtain ⟨it,fp,tn,J,H2,e,I2,T,st2,f2,W,⟨m0,w0⟩,turn⟩:=h2
 subst e
 -- what stays true of the iterator's objects through the loop
 have stat:∀{H':Hp},(∀b∈fp,H' b=none)->∀b∈fp,FpOk X pins H' b:=fun hn b hb=>⟨hn b hb,(f2 b hb).2⟩
 refine codeAny_forLoop_any (fun n s'=>∃i σ' H',Inv X pins σ' H' s'/\tn i s'.heap/\(∀b∈fp,H' b=none)/\W i n σ' H') ?_ m0 ⟨0,σ,H2,I2,st2,fun b hb=>(f2 b hb).1,w0⟩
 rintro n s3 ⟨i,σ3,H3,I3,st3,fr3,w3⟩
 rcases turn i n σ3 H3 w3 with ⟨stop,qn⟩ | ⟨go,N,hN,step⟩
 ·refine wpAny_passesOwn hp (thn (T.done X rfl rfl rfl hc i pins s3 σ3 H3 X.xe I3 (stat fr3) st3 stop) fun r s4 ⟨hr,I4⟩=>?_)
  subst hr
  exact wpAny_execs_nil ⟨σ3,H3,I4,qn⟩
 ·refine wpAny_passesOwn hp (thn (T.item X rfl rfl rfl hc i pins s3 σ3 H3 X.xe I3 (stat fr3) st3 go) fun r s4 ⟨u,hr,h4⟩=>?_)
  subst hr
  refine wpAny_passesOwn hp (thn h4 fun _ s5 ⟨x,H5,I5,r5,y5,st5,fr5⟩=>?_)
  have I5':=I5.pinned (stat fr5) (T.obj _ _ st5)
  refine wpAny_passesOwn hp (thn (hg _ s5 σ3 H5 x u _ I5' r5 (step x H5 y5)) fun _ s6 ⟨σ6,H6,I6,q6⟩=>?_)
  refine wpAny_passesOwn hp (thn (hb _ s6 σ6 H6 _ I6 q6) fun f s7 q7=>?_)
  have again:∀{σ7:St} {H7:Hp},Inv X (pins ++ pinsAt fp s5.heap) σ7 H7 s7->N σ7 H7->∃m,m < n/\∃i σ' H',Inv X pins σ' H' s7/\tn i s7.heap/\(∀b∈fp,H' b=none)/\W i m σ' H':=fun {σ7 H7} I7 n7=>by
   obtain ⟨m',hm,w7⟩:=hN σ7 H7 n7
   refine ⟨m',hm,i + 1,σ7,H7,I7.unpinned,T.keep _ _ _ st5 fun b hb o e=>(I7.pin (b,o) (Iz _ (Iz _ (Zdx hb e)))).1,fun b hb=>?_,w7⟩
   obtain ⟨o,e,d⟩:=T.obj _ _ st5 b hb
   exact (I7.pin (b,o) (Iz _ (Iz _ (Zdx hb e)))).2.1
  cases f with
  | next=>obtain ⟨σ7,H7,I7,n7⟩:=q7; exact again I7 n7
  | cont=>obtain ⟨σ7,H7,I7,n7⟩:=q7; exact again I7 n7
  | brk=>obtain ⟨σ7,H7,I7,q7⟩:=q7; exact ⟨σ7,H7,I7.unpinned,q7⟩
  | ret v=>obtain ⟨x7,σ7,H7,I7,r7,q7⟩:=q7; exact ⟨x7,σ7,H7,I7.unpinned,r7,q7⟩
end
theorem JD {K:Oa} {a:Addr} {xs:List V} {g:TG} {tb:TS} {D:Zah} {σ:St} {H:Hp} (Pv:Nat->St->Hp->Prop) (h0:Pv 0 σ H) (hl:∀i σ H,i<=xs.length->Pv i σ H->SqL K H a xs)
 (hs:∀i x σ H,xs[i]?=some x->Pv i σ H->g x σ H fun σ2 H2=>tb { D with nx:=Pv (i + 1),ct:=Pv (i + 1),bk:=D.nx } σ2 H2) (hd:∀σ H,Pv xs.length σ H->D.nx σ H) :
 ∃W:Nat->Nat->St->Hp->Prop,(∃m,W 0 m σ H)/\∀i m σ H,W i m σ H->
  ((Itl K a).stop i H/\D.nx σ H)∨((Itl K a).go i H/\∃N:St->Hp->Prop,(∀σ' H',N σ' H'->∃m',m' < m/\W (i + 1) m' σ' H')/\∀x H',(Itl K a).yld i H x H'->g x σ H' fun σ2 H2=>tb { D with nx:=N,ct:=N,bk:=D.nx } σ2 H2):=by
 refine ⟨fun i m σ H=>m=xs.length - i/\i<=xs.length/\Pv i σ H,⟨xs.length,by simp,Ib _,h0⟩,?_⟩
 rintro i m σ H ⟨rfl,hi,p⟩
 have q:=hl i σ H hi p
 by_cases hlt:i < xs.length
 ·refine .inr ⟨⟨xs,xs[i],q,by simp [hlt]⟩,Pv (i + 1),fun σ' H' p'=>⟨xs.length - (i + 1),by omega,rfl,hlt,p'⟩,fun x H' y=>?_⟩
  obtain ⟨e,y⟩:=y
  subst e
  exact hs i x σ _ (y xs q) p
 ·have e:i=xs.length:=by lia
  subst e
  exact .inl ⟨⟨xs,q,Oq _⟩,hd σ H p⟩
end L2
namespace L2
open PySem PySem.Spec PyProof.Rows
abbrev R2:=V->V->Hp->VK->Prop
def OpR (X:Cx) (f:Value->Value->Sem Value) (r:R2):Prop:=
 ∀(pins:List (Addr×Obj)) (s:Shared) (σ:St) (H:Hp) (x y:V) (v u:Value) (Q:VK),Inv X pins σ H s->YE x v->YE y u->r x y H Q->
  wpAny (model X.prog X.w) X.A (f v u) (EP X pins σ Q) X.xe s
def UnR (X:Cx) (f:Value->Sem Value) (r:V->Hp->VK->Prop):Prop:=
 ∀(pins:List (Addr×Obj)) (s:Shared) (σ:St) (H:Hp) (x:V) (v:Value) (Q:VK),Inv X pins σ H s->YE x v->r x H Q->
  wpAny (model X.prog X.w) X.A (f v) (EP X pins σ Q) X.xe s
def WZ (X:Cx) (f:Value) (r:List V->Hp->VK->Prop):Prop:=
 ∀(pins:List (Addr×Obj)) (s:Shared) (σ:St) (H:Hp) (xs:List V) (us:List Value) (Q:VK),Inv X pins σ H s->Z8 xs us->r xs H Q->
  wpAny (model X.prog X.w) X.A (call f us) (EP X pins σ Q) X.xe s
def tOp (r:R2) (ta tb:TE):TE:=fun σ H Q=>ta σ H fun x H1=>tb σ H1 fun y H2=>r x y H2 Q
def tUn (r:V->Hp->VK->Prop) (ta:TE):TE:=fun σ H Q=>ta σ H fun x H1=>r x H1 Q
def rI (C:Int->Int->Prop) (g:Int->Int->V):R2:=fun x y H Q=>∃i j,x=.int i/\y=.int j/\C i j/\Q (g i j) H
def rI0 (g:Int->Int->V):R2:=fun x y H Q=>∃i j,x=.int i/\y=.int j/\Q (g i j) H
def rU (g:Int->V):V->Hp->VK->Prop:=fun x H Q=>∃i,x=.int i/\Q (g i) H
section
variable {X:Cx} {a b c:Expr} {ta tb tc:TE} {pos:Pos}
theorem binT (ha:PE X a ta) (hb:PE X b tb) {pins:List (Addr×Obj)} {s:Shared} {σ:St} {H:Hp} {R:V->V->Hp->Prop} (I:Inv X pins σ H s)
 (h:ta σ H fun x H1=>tb σ H1 fun y H2=>R x y H2) {Q:Value->Shared->Prop} {f:Value->Value->Sem Value}
 (hf:∀v u s2 x y H2,Inv X pins σ H2 s2->YE x v->YE y u->R x y H2->wpAny (model X.prog X.w) X.A (f v u) Q X.xe s2) :
 wpAny (model X.prog X.w) X.A (eval a X.env) (fun v s₁=>wpAny (model X.prog X.w) X.A (eval b X.env) (fun u s₂=>wpAny (model X.prog X.w) X.A (f v u) Q X.xe s₂) X.xe s₁) X.xe s:=by
 refine thn (ha pins s σ H _ I h) fun v s1 ⟨x,H1,I1,r1,q1⟩=>?_
 refine thn (hb pins s1 σ H1 _ I1 q1) fun u s2 ⟨y,H2,I2,r2,q2⟩=>?_
 exact hf v u s2 x y H2 I2 r1 r2 q2
theorem Zf {op:Operator} {r:R2} (ho:OpR X (binaryOp op) r) (ha:PE X a ta) (hb:PE X b tb):PE X (.BinOp a op b pos) (tOp r ta tb):=by
 intro pins s σ H Q I h
 exact wpAny_BinOp (binT ha hb I h fun v u s2 x y H2 I2 rx ry q=>ho pins s2 σ H2 x y v u Q I2 rx ry q)
theorem Zcr {op:UnaryOp} {r:V->Hp->VK->Prop} (ho:UnR X (unaryOp op) r) (ha:PE X a ta):PE X (.UnaryOp op a pos) (tUn r ta):=by
 intro pins s σ H Q I h
 exact UnaryOp_ (thn (ha pins s σ H _ I h) fun v s1 ⟨x,H1,I1,r1,q1⟩=>ho pins s1 σ H1 x v Q I1 r1 q1)
theorem opI {f:Value->Value->Sem Value} {C:Int->Int->Prop} {g:Int->Int->Int}
 (rule:∀(i j:Int) (t u:Tok) (s:Shared) (Q:Value->Shared->Prop) (E:Value->Shared->Prop),C i j->Q (.int (g i j) s.toks) { s with toks:=s.toks + 1 }->wpAny (model X.prog X.w) X.A (f (.int i t) (.int j u)) Q E s) :
 OpR X f (rI C fun i j=>.int (g i j)):=by
 intro pins s σ H x y v u Q I rx ry h
 obtain ⟨i,j,rfl,rfl,hc,q⟩:=h
 obtain ⟨t,rfl⟩:=rx
 obtain ⟨t',rfl⟩:=ry
 exact rule i j t t' s _ _ hc ⟨.int (g i j),H,I.tok _,⟨_,rfl⟩,q⟩
theorem opI0 {f:Value->Value->Sem Value} {g:Int->Int->Int}
 (rule:∀(i j:Int) (t u:Tok) (s:Shared) (Q:Value->Shared->Prop) (E:Value->Shared->Prop),Q (.int (g i j) s.toks) { s with toks:=s.toks + 1 }->wpAny (model X.prog X.w) X.A (f (.int i t) (.int j u)) Q E s) :
 OpR X f (rI0 fun i j=>.int (g i j)):=by
 intro pins s σ H x y v u Q I rx ry h
 obtain ⟨i,j,rfl,rfl,q⟩:=h
 obtain ⟨t,rfl⟩:=rx
 obtain ⟨t',rfl⟩:=ry
 exact rule i j t t' s _ _ ⟨.int (g i j),H,I.tok _,⟨_,rfl⟩,q⟩
theorem opB0 {f:Value->Value->Sem Value} {g:Int->Int->Bool}
 (rule:∀(i j:Int) (t u:Tok) (s:Shared) (Q:Value->Shared->Prop) (E:Value->Shared->Prop),Q (.bool (g i j)) s->wpAny (model X.prog X.w) X.A (f (.int i t) (.int j u)) Q E s) :
 OpR X f (rI0 fun i j=>.bl (g i j)):=by
 intro pins s σ H x y v u Q I rx ry h
 obtain ⟨i,j,rfl,rfl,q⟩:=h
 obtain ⟨t,rfl⟩:=rx
 obtain ⟨t',rfl⟩:=ry
 exact rule i j t t' s _ _ ⟨.bl (g i j),H,I,rfl,q⟩
def CDiv (i j:Int):Prop:=0 < j/\j < 1073741824
def CMul (i j:Int):Prop:=(-(2 ^ 64) < i/\i < 2 ^ 64)∨(-(2 ^ 64) < j/\j < 2 ^ 64)
theorem CMul.ok {i j:Int} (h:CMul i j):IntMulOk i j:=by
 rcases h with ⟨h1,h2⟩ | ⟨h1,h2⟩
 ·exact .of_left (intBits_le_64 h1 h2)
 ·exact .of_right (intBits_le_64 h1 h2)
theorem two_pow_nn (k:Nat):(0:Int)<=2 ^ k:=by
 rw [two_pow_cast]
 exact O0 _
theorem op_add:OpR X (binaryOp .Add) (rI0 fun i j=>.int (i + j)):=opI0 fun _ _ _ _ _ _ _ q=>add_int q
theorem op_sub:OpR X (binaryOp .Sub) (rI0 fun i j=>.int (i - j)):=opI0 fun _ _ _ _ _ _ _ q=>sub_int q
theorem op_mul:OpR X (binaryOp .Mult) (rI CMul fun i j=>.int (i * j)):=opI fun _ _ _ _ _ _ _ hc q=>mul_int q hc.ok
theorem op_fdiv:OpR X (binaryOp .FloorDiv) (rI CDiv fun i j=>.int (i / j)):=opI fun i j _ _ _ _ _ hc q=>by
 have h1:(0:Int) < j:=hc.1
 have h2:j < 1073741824:=hc.2
 exact floordiv_int (by lia) (by rw [VS i (by lia)]; exact q) (.inl (PyProof.noPylong_small (by omega)))
theorem op_mod:OpR X (binaryOp .Mod) (rI (fun _ j=>0 < j) fun i j=>.int (i % j)):=opI fun i j _ _ _ _ _ hc q=>by
 have h1:(0:Int) < j:=hc
 exact mod_int' (by lia) (by rw [Int.fmod_eq_emod_of_nonneg i (by lia)]; exact q)
theorem op_shr:OpR X (binaryOp .RShift) (rI (fun _ j=>0<=j) fun i j=>.int (i / 2 ^ j.toNat)):=opI fun i j _ _ _ _ _ hc q=>
 rshift_int hc (by rw [VS i (two_pow_nn _)]; exact q)
theorem op_and:OpR X (binaryOp .BitAnd) (rI0 fun i j=>.int (Builtin.bitAnd i j)):=opI0 fun _ _ _ _ _ _ _ q=>and_int q
theorem op_or:OpR X (binaryOp .BitOr) (rI0 fun i j=>.int (Builtin.bitOr i j)):=opI0 fun _ _ _ _ _ _ _ q=>or_int q
theorem op_xor:OpR X (binaryOp .BitXor) (rI0 fun i j=>.int (Builtin.bitXor i j)):=opI0 fun _ _ _ _ _ _ _ q=>xor_int q
theorem iop_add:OpR X (inplaceOp .Add) (rI0 fun i j=>.int (i + j)):=opI0 fun _ _ _ _ _ _ _ q=>iadd_int q
theorem iop_sub:OpR X (inplaceOp .Sub) (rI0 fun i j=>.int (i - j)):=opI0 fun _ _ _ _ _ _ _ q=>isub_int q
theorem unI {f:Value->Sem Value} {g:Int->Int}
 (rule:∀(i:Int) (t:Tok) (s:Shared) (Q:Value->Shared->Prop) (E:Value->Shared->Prop),Q (.int (g i) s.toks) { s with toks:=s.toks + 1 }->wpAny (model X.prog X.w) X.A (f (.int i t)) Q E s) :
 UnR X f (rU fun i=>.int (g i)):=by
 intro pins s σ H x v Q I rx h
 obtain ⟨i,rfl,q⟩:=h
 obtain ⟨t,rfl⟩:=rx
 exact rule i t s _ _ ⟨.int (g i),H,I.tok _,⟨_,rfl⟩,q⟩
theorem Zax:UnR X (unaryOp .USub) (rU fun i=>.int (-i)):=unI fun _ _ _ _ _ q=>neg_int q
end
def scal:V->V->Bool
 | .non,.non=>true | .non,.int _=>true | .int _,.non=>true | .non,.bl _=>true | .bl _,.non=>true | .non,.str _=>true | .str _,.non=>true
 | .int _,.int _=>true | .bl _,.bl _=>true | .str _,.str _=>true | .byt _,.byt _=>true
 | .int _,.str _=>true | .str _,.int _=>true | .bl _,.str _=>true | .str _,.bl _=>true
 | _,_=>false
def rEq:R2:=fun x y H Q=>scal x y=true/\Q (.bl (decide (x=y))) H
def rNe:R2:=fun x y H Q=>scal x y=true/\Q (.bl (!decide (x=y))) H
theorem dec_int {i j:Int}:decide (V.int i=V.int j)=(i == j):=by
 rw [OU]
 simp
theorem dec_bl {i j:Bool}:decide (V.bl i=V.bl j)=(i == j):=by
 rw [OU]
 simp
theorem dec_str {i j:Str}:decide (V.str i=V.str j)=(i == j):=by
 rw [OU]
 simp
theorem dec_byt {i j:Array UInt8}:decide (V.byt i=V.byt j)=(i.toList == j.toList):=by
 rw [OU]
 cases i
 cases j
 simp
section
variable {X:Cx} {a b c:Expr} {ta tb tc:TE} {pos:Pos}
theorem YL {pins:List (Addr×Obj)} {σ:St} {H:Hp} {s:Shared} {Q:VK} {k k':Bool} (I:Inv X pins σ H s) (q:Q (.bl k) H) (e:k=k'):EP X pins σ Q (.bool k') s:=by
 subst e
 exact ⟨.bl k,H,I,rfl,q⟩
theorem op_eq:OpR X (compareOp .Eq) rEq:=by
 intro pins s σ H x y v u Q I rx ry h
 obtain ⟨hs,q⟩:=h
 cases x with
 | non=>
  cases rx
  cases y with
  | non=>cases ry; exact PySem.EqNone.eq_none_none (YL I q (by simp))
  | bl j=>cases ry; exact PySem.EqNone.eq_none_bool (YL I q (by simp))
  | int j=>obtain ⟨t',rfl⟩:=ry; exact PySem.EqNone.eq_none_int (YL I q (by simp))
  | str j=>obtain ⟨t',rfl⟩:=ry; exact PySem.EqNone.eq_none_str (YL I q (by simp))
  | _=>exact absurd (show false=true from hs) Oo
 | bl i=>
  cases rx
  cases y with
  | non=>cases ry; exact PySem.EqNone.eq_bool_none (YL I q (by simp))
  | bl j=>cases ry; exact eq_bool (YL I q dec_bl)
  | str j=>obtain ⟨t',rfl⟩:=ry; exact PySem.EqMixed.eq_bool_str (YL I q (by simp))
  | _=>exact absurd (show false=true from hs) Oo
 | int i=>
  obtain ⟨t,rfl⟩:=rx
  cases y with
  | non=>cases ry; exact PySem.EqNone.eq_int_none (YL I q (by simp))
  | int j=>obtain ⟨t',rfl⟩:=ry; exact eq_int (YL I q dec_int)
  | str j=>obtain ⟨t',rfl⟩:=ry; exact PySem.EqMixed.eq_int_str (YL I q (by simp))
  | _=>exact absurd (show false=true from hs) Oo
 | str i=>
  obtain ⟨t,rfl⟩:=rx
  cases y with
  | non=>cases ry; exact PySem.EqNone.eq_str_none (YL I q (by simp))
  | bl j=>cases ry; exact PySem.EqMixed.eq_str_bool (YL I q (by simp))
  | int j=>obtain ⟨t',rfl⟩:=ry; exact PySem.EqMixed.eq_str_int (YL I q (by simp))
  | str j=>obtain ⟨t',rfl⟩:=ry; exact eq_str (YL I q dec_str)
  | _=>exact absurd (show false=true from hs) Oo
 | byt i=>
  obtain ⟨t,rfl⟩:=rx
  cases y with
  | byt j=>obtain ⟨t',rfl⟩:=ry; exact PySem.W.eq_bytes (YL I q dec_byt)
  | _=>exact absurd (show false=true from hs) Oo
 | _=>cases y <;> exact absurd (show false=true from hs) Oo
theorem op_ne:OpR X (compareOp .NotEq) rNe:=by
 intro pins s σ H x y v u Q I rx ry h
 obtain ⟨hs,q⟩:=h
 cases x with
 | non=>
  cases rx
  cases y with
  | non=>cases ry; exact PySem.EqNone.ne_none_none (YL I q (by simp))
  | bl j=>cases ry; exact PySem.EqNone.ne_none_bool (YL I q (by simp))
  | int j=>obtain ⟨t',rfl⟩:=ry; exact PySem.EqNone.ne_none_int (YL I q (by simp))
  | str j=>obtain ⟨t',rfl⟩:=ry; exact PySem.EqNone.ne_none_str (YL I q (by simp))
  | _=>exact absurd (show false=true from hs) Oo
 | bl i=>
  cases rx
  cases y with
  | non=>cases ry; exact PySem.EqNone.ne_bool_none (YL I q (by simp))
  | bl j=>cases ry; exact ne_bool (YL I q (congrArg not dec_bl))
  | str j=>obtain ⟨t',rfl⟩:=ry; exact PySem.EqMixed.ne_bool_str (YL I q (by simp))
  | _=>exact absurd (show false=true from hs) Oo
 | int i=>
  obtain ⟨t,rfl⟩:=rx
  cases y with
  | non=>cases ry; exact PySem.EqNone.ne_int_none (YL I q (by simp))
  | int j=>obtain ⟨t',rfl⟩:=ry; exact ne_int (YL I q (congrArg not dec_int))
  | str j=>obtain ⟨t',rfl⟩:=ry; exact PySem.EqMixed.ne_int_str (YL I q (by simp))
  | _=>exact absurd (show false=true from hs) Oo
 | str i=>
  obtain ⟨t,rfl⟩:=rx
  cases y with
  | non=>cases ry; exact PySem.EqNone.ne_str_none (YL I q (by simp))
  | bl j=>cases ry; exact PySem.EqMixed.ne_str_bool (YL I q (by simp))
  | int j=>obtain ⟨t',rfl⟩:=ry; exact PySem.EqMixed.ne_str_int (YL I q (by simp))
  | str j=>obtain ⟨t',rfl⟩:=ry; exact ne_str (YL I q (congrArg not dec_str))
  | _=>exact absurd (show false=true from hs) Oo
 | byt i=>
  obtain ⟨t,rfl⟩:=rx
  cases y with
  | byt j=>obtain ⟨t',rfl⟩:=ry; exact PySem.W.ne_bytes (YL I q (congrArg not dec_byt))
  | _=>exact absurd (show false=true from hs) Oo
 | _=>cases y <;> exact absurd (show false=true from hs) Oo
theorem op_lt:OpR X (compareOp .Lt) (rI0 fun i j=>.bl (decide (i < j))):=opB0 fun _ _ _ _ _ _ _ q=>lt_int q
theorem op_le:OpR X (compareOp .LtE) (rI0 fun i j=>.bl (decide (i<=j))):=opB0 fun _ _ _ _ _ _ _ q=>le_int q
theorem op_gt:OpR X (compareOp .Gt) (rI0 fun i j=>.bl (decide (j < i))):=opB0 fun _ _ _ _ _ _ _ q=>gt_int q
theorem op_ge:OpR X (compareOp .GtE) (rI0 fun i j=>.bl (decide (j<=i))):=opB0 fun _ _ _ _ _ _ _ q=>ge_int q
theorem ZR (b:Expr) {op:CmpOp} (h:op≠.In:=by decide) (h2:op≠.NotIn:=by decide):behindInMarks op b=false:=by
 have e1:(op == CmpOp.In)=false:=by cases op <;> first | rfl | exact absurd rfl h
 have e2:(op == CmpOp.NotIn)=false:=by cases op <;> first | rfl | exact absurd rfl h2
 cases b <;> simp [behindInMarks,e1,e2]
theorem Wy {op:CmpOp} {r:R2} (ho:OpR X (compareOp op) r) (ha:PE X a ta) (hb:PE X b tb) (hm:behindInMarks op b=false):PE X (.Compare a [op] [b] pos) (tOp r ta tb):=by
 intro pins s σ H Q I h
 exact wpAny_Compare1 (binT ha hb I h fun v u s2 x y H2 I2 rx ry q=>ho pins s2 σ H2 x y v u Q I2 rx ry q) hm
def tTest (t:TE):TT:=fun σ H Q=>t σ H fun x H'=>∃k,x=.bl k/\Q k H'
theorem ZP {op:CmpOp} {r:R2} (ho:OpR X (compareOp op) r) (ha:PE X a ta) (hb:PE X b tb) (hm:behindInMarks op b=false):PT X (.Compare a [op] [b] pos) (tTest (tOp r ta tb)):=by
 intro pins s σ H Q I h
 refine wpAny_isTrue_Compare1 (thn (ha pins s σ H _ I h) fun v s1 ⟨x,H1,I1,r1,q1⟩=>thn (hb pins s1 σ H1 _ I1 q1) fun u s2 ⟨y,H2,I2,r2,q2⟩=>
  thn (ho pins s2 σ H2 x y v u _ I2 r1 r2 q2) fun c s3 ⟨z,H3,I3,r3,k,e,q3⟩=>?_) hm
 subst e
 cases r3
 exact wpAny_truthy_bool ⟨H3,I3,q3⟩
def tChain (r r':R2) (ta tb tc:TE):TE:=fun σ H Q=>ta σ H fun x H1=>tb σ H1 fun y H2=>r x y H2 fun z H3=>∃k,z=.bl k/\
 (if k=true then tc σ H3 fun w' H4=>r' y w' H4 Q else Q (.bl false) H3)
theorem Zd7 {op op':CmpOp} {r r':R2} (ho:OpR X (compareOp op) r) (ho':OpR X (compareOp op') r') (ha:PE X a ta) (hb:PE X b tb) (hc:PE X c tc)
 (hm:lastMarks [op,op'] [b,c]=false:=by with_unfolding_all rfl):PE X (.Compare a [op,op'] [b,c] pos) (tChain r r' ta tb tc):=by
 intro pins s σ H Q I h
 refine Compare_chain (thn (ha pins s σ H _ I h) fun v s1 ⟨x,H1,I1,r1,q1⟩=>chain_link (thn (hb pins s1 σ H1 _ I1 q1) fun u s2 ⟨y,H2,I2,r2,q2⟩=>
  thn (ho pins s2 σ H2 x y v u _ I2 r1 r2 q2) fun d s3 ⟨z,H3,I3,r3,k,e,q3⟩=>?_)) hm
 subst e
 cases r3
 refine wpAny_truthy_bool ?_
 cases k with
 | false=>exact ite_ff ⟨.bl false,H3,I3,rfl,q3⟩
 | true=>exact ite_tt (chain_last (thn (hc pins s3 σ H3 _ I3 q3) fun w' s4 ⟨z',H4,I4,r4,q4⟩=>ho' pins s4 σ H4 y z' u w' Q I4 r2 r4 q4))
theorem pt_chain {op op':CmpOp} {r r':R2} (ho:OpR X (compareOp op) r) (ho':OpR X (compareOp op') r') (ha:PE X a ta) (hb:PE X b tb) (hc:PE X c tc)
 (hm:lastMarks [op,op'] [b,c]=false:=by with_unfolding_all rfl):PT X (.Compare a [op,op'] [b,c] pos) (tTest (tChain r r' ta tb tc)):=by
 intro pins s σ H Q I h
 refine isTrue_chain (thn (ha pins s σ H _ I h) fun v s1 ⟨x,H1,I1,r1,q1⟩=>test_link (thn (hb pins s1 σ H1 _ I1 q1) fun u s2 ⟨y,H2,I2,r2,q2⟩=>
  thn (ho pins s2 σ H2 x y v u _ I2 r1 r2 q2) fun d s3 ⟨z,H3,I3,r3,k,e,q3⟩=>?_)) hm
 subst e
 cases r3
 refine wpAny_truthy_bool ?_
 cases k with
 | false=>
  obtain ⟨k',e',q'⟩:=q3
  cases e'
  exact ite_ff ⟨H3,I3,q'⟩
 | true=>
  refine ite_tt (test_last (thn (hc pins s3 σ H3 _ I3 q3) fun w' s4 ⟨z',H4,I4,r4,q4⟩=>thn (ho' pins s4 σ H4 y z' u w' _ I4 r2 r4 q4) fun d' s5 ⟨z2,H5,I5,r5,k2,e2,q5⟩=>?_))
  subst e2
  cases r5
  exact wpAny_truthy_bool ⟨H5,I5,q5⟩
theorem line63:(sizeLine:Nat) < 2 ^ 63:=by rw [sizeLine_eq]; decide
theorem Zep {x:V} {us:List Value} (r:Z8 [x] us):∃u,us=[u]/\YE x u:=by
 cases r with
 | cons r1 r2=>cases r2; exact ⟨_,rfl,r1⟩
theorem vals2 {x y:V} {us:List Value} (r:Z8 [x,y] us):∃u w',us=[u,w']/\YE x u/\YE y w':=by
 cases r with
 | cons r1 r2=>
  cases r2 with
  | cons r3 r4=>cases r4; exact ⟨_,_,rfl,r1,r3⟩
theorem call_max2 (hc:X.calm=true):WZ X (.builtin "max") (fun xs H Q=>∃i j,xs=[.int i,.int j]/\Q (.int (if j > i then j else i)) H):=by
 intro pins s σ H xs us Q I r h
 obtain ⟨i,j,rfl,q⟩:=h
 obtain ⟨u,w',rfl,⟨t,rfl⟩,⟨t',rfl⟩⟩:=vals2 r
 refine max_two_ints (I.ok.hd hc) fun h' tk k=>⟨_,H,I.kept k,?_,q⟩
 by_cases hj:j > i
 ·rw [if_pos hj,if_pos hj]; exact ⟨_,rfl⟩
 ·rw [if_neg hj,if_neg hj]; exact ⟨_,rfl⟩
theorem call_min2 (hc:X.calm=true):WZ X (.builtin "min") (fun xs H Q=>∃i j,xs=[.int i,.int j]/\Q (.int (if j < i then j else i)) H):=by
 intro pins s σ H xs us Q I r h
 obtain ⟨i,j,rfl,q⟩:=h
 obtain ⟨u,w',rfl,⟨t,rfl⟩,⟨t',rfl⟩⟩:=vals2 r
 refine min_two_ints (I.ok.hd hc) fun h' tk k=>⟨_,H,I.kept k,?_,q⟩
 by_cases hj:j < i
 ·rw [if_pos hj,if_pos hj]; exact ⟨_,rfl⟩
 ·rw [if_neg hj,if_neg hj]; exact ⟨_,rfl⟩
end
end L2
namespace L2
open PySem PySem.Spec PyProof.Rows
structure ObjM (h:Heap) (x dx C:Addr) (mA:Str->Option Value):Prop where
 obj:h.get? x=some (PySem.W.instObj C dx)
 ns:h.Ns1 dx mA
 ne:dx≠x
theorem lookIn_ns {h:Heap} {dx:Addr} {mA:Str->Option Value} (n:h.Ns1 dx mA):∃od,h.get? dx=some od/\∀name,PySem.W.lookIn name od=some (mA name):=by
 obtain ⟨o,es,ep,ho,hd,hk,_,hm⟩:=n
 refine ⟨o,ho,fun name=>?_⟩
 have e:=hm name
 unfold nsFind findBy at e
 rw [<- Array.find?_toList] at e
 unfold PySem.W.lookIn
 rw [hd]
 dsimp only
 split
 ·rename_i y q
  rw [q] at e
  exact congrArg some e
 ·rename_i q
  rw [q] at e
  have a:es.toList.any (·.refKey)=false:=by
   rw [List.any_eq_false]
   intro y hy
   obtain ⟨z,t,hkey⟩:=hk y (Array.mem_toList_iff.mp hy)
   simp [DictEntry.refKey,hkey]
  have a':¬ es.toList.any (·.refKey)=true:=by rw [a]; exact Oo
  rw [if_neg a']
  exact congrArg some e
theorem ObjM.look {h:Heap} {x dx C:Addr} {mA:Str->Option Value} (I:ObjM h x dx C mA):∃od,PySem.W.InstAt h x (PySem.W.instObj C dx) C (some od)/\∀name,PySem.W.lookIn name od=some (mA name):=
 let ⟨od,ho,hl⟩:=lookIn_ns I.ns
 ⟨od,⟨I.obj,rfl,rfl,ho⟩,hl⟩
section
variable {prog:Program} {w:World} {A:Around} {E:Value->Shared->Prop} {s:Shared} {K:Oa} {x dx C f:Addr} {mA:Str->Option Value} {name:Str} {v:Value}
theorem get_map {expr:Bool} {Q:Value->Shared->Prop} (X:K.In s.heap) (I:ObjM s.heap x dx C mA) (hg:PySem.W.plainGet K C name=true) (hh:PySem.W.hasDictIn K C=true)
 (ha:IA K (.ref C) name=some none) (hv:mA name=some v) (hv':PySem.W.handedIn v=true) (h:Q v { s with toks:=s.toks + 1 }) :
 wpAny (model prog w) A (getAttr (.ref x) name expr) Q E s:=by
 obtain ⟨od,J,hl⟩:=I.look
 exact PySem.W.get_value X J (PySem.W.plainGet_of hg).1 (PySem.W.findObj_own hh ha rfl (by rw [hl,hv])) hv' h
theorem get_meth {pl:Sem Bool} {Q:Value×List Value->Shared->Prop} (X:K.In s.heap) (I:ObjM s.heap x dx C mA) (hg:PySem.W.plainGet K C name=true)
 (hf:IA K (.ref C) name=some (some (.ref f))) (ht:PySem.W.isFn K (.ref f)=true) (hv:mA name=none) (h:Q (.ref f,[.ref x]) s) :
 wpAny (model prog w) A (getMethod (.ref x) name pl) Q E s:=by
 obtain ⟨od,J,hl⟩:=I.look
 exact PySem.W.method_fn X J (PySem.W.plainGet_of hg).1 (PySem.W.plainGet_of hg).2 hf (beq_iff_eq.mp ht) (by show (PySem.W.lookIn name od).map (·.isSome)=some false; rw [hl,hv]; rfl) h
theorem set_map {ns:List Str} {Q:Unit->Shared->Prop} (X:K.In s.heap) (I:ObjM s.heap x dx C mA)
 (hs:IA K (.ref C) "__setattr__"=some (some (.builtin "object.__setattr__"))) (hp:PySem.W.plainOver K C=true) (ht:PySem.W.takerIn K C name=some none) (hh:PySem.W.hasDictIn K C=true)
 (hw:PySem.Within mA ns) (hsz:ns.length<=sizeLine)
 (h:∀h',ObjM h' x dx C (fun y=>if y=name then some v else mA y)->Heap.SameBut dx s.heap h'->Q () { s with heap:=h',toks:=s.toks + 2 }) :
 wpAny (model prog w) A (setAttr (.ref x) name v) Q E s:=by
 obtain ⟨od,J,hl⟩:=I.look
 refine PySem.W.set_plain X J hs (PySem.W.osa_open (s:={ s with toks:=s.toks + 1 }) (r:=none) X J hp ht fun b=>?_)
 obtain ⟨cd,hc,hd'⟩:=PySem.W.any_some hh
 have hx:s.heap.get? x=some ⟨.ref C,some dx,.plain,#[]⟩:=I.obj
 refine wpAny_bind (wpAny_pure (wpAny_bind (wpAny_bind (wpAny_loadPart hx (wpAny_bind (PySem.W.Looks.here (s:={ s with toks:=s.toks + 1 }) (PySem.W.looks_clsIn X hc) ?_))))))
 rw [hd']
 refine wpAny_pure (a:=some dx) (wpAny_bind (wpAny_pure (wpAny_bind ?_)))
 refine wpAny_nsSet1 (s:={ s with toks:=s.toks + 1 }) I.ns fun h' hn2 hs2=>?_
 obtain ⟨oD,esD,epD,hoD,hdD,hcD⟩:=hn2.count (PySem.Within.cons name v hw)
 refine wpAny_bind (wpAny_lookBehind hoD (by rw [hdD]; exact pastItsLine_dict (OD hcD (by rw [Oz]; exact qw40))) ?_)
 exact wpAny_pure (h _ ⟨(hs2.2 _ (Ne.symm I.ne)).trans I.obj,hn2,I.ne⟩ hs2)
theorem make_map {R:Result->Shared->Prop} {vs:List Value} {kw:List (Str×Value)} (X:K.In s.heap) (hm:PySem.W.makesIn K C=true)
 (hi:IA K (.ref C) "__init__"=some (some (.ref f))) (hf:PySem.W.typeIn K (.ref f)=some (.type "function"))
 (h:codeAny (model prog w) (A.under (.builtin "type.__call__" ⟨.ref C :: vs,kw⟩)) (.call (.ref f) ⟨.ref (s.heap.objs.size + 1) :: vs,kw⟩) (PySem.W.InitBack (s.heap.objs.size + 1) R)
  { s with heap:=(s.heap.push PySem.W.emptyDict).push (PySem.W.instObj C s.heap.objs.size) }) :
 codeAny (model prog w) A (.call (.ref C) ⟨vs,kw⟩) R s:=by
 obtain ⟨hh,g,d,t,os⟩:=s
 exact PySem.W.make_core (PySem.W.makes_of X hm) (PySem.W.looks_findIn X hi) (fun self=>PySem.W.bind_fn X self hf) (.inl rfl) h
end
def X5 (f:Str) (v:V):List (Str×V)->List (Str×V)
 | []=>[(f,v)]
 | (g,x) :: r=>if g=f then (g,v) :: r else (g,x) :: X5 f v r
theorem Zfa (f g:Str) (v:V):∀fs:List (Str×V),(X5 f v fs).lookup g=if g=f then some v else fs.lookup g
 | []=>by
  show UL g [(f,v)]=_
  by_cases h:g=f
  ·have hb:(g == f)=true:=beq_iff_eq.mpr h
   simp only [UL,hb,if_pos h]
  ·have hb:(g == f)=false:=beq_eq_false_iff_ne.mpr h
   simp only [UL,hb,if_neg h]
 | (k,x) :: r=>by
  have ih:=Zfa f g v r
  rw [show X5 f v ((k,x) :: r)=(if k=f then (k,v) :: r else (k,x) :: X5 f v r) from rfl]
  by_cases hk:k=f
  ·rw [if_pos hk]
   by_cases h:g=k
   ·have hb:(g == k)=true:=beq_iff_eq.mpr h
    simp only [UL,hb,if_pos (h.trans hk)]
   ·have hb:(g == k)=false:=beq_eq_false_iff_ne.mpr h
    simp only [UL,hb,if_neg (fun e:g=f=>h (e.trans hk.symm))]
  ·rw [if_neg hk]
   by_cases h:g=k
   ·have hb:(g == k)=true:=beq_iff_eq.mpr h
    simp only [UL,hb,if_neg (fun e:g=f=>hk (h.symm.trans e))]
   ·have hb:(g == k)=false:=beq_eq_false_iff_ne.mpr h
    simp only [UL,hb]
    exact ih
theorem ZeL (f:Str) (v:V):∀fs:List (Str×V),f∈(X5 f v fs).map (·.1)/\∀g,g∈fs.map (·.1)->g∈(X5 f v fs).map (·.1)
 | []=>⟨by simp [X5],fun g h=>by simp at h⟩
 | (k,x) :: r=>by
  obtain ⟨i1,i2⟩:=ZeL f v r
  rw [show X5 f v ((k,x) :: r)=(if k=f then (k,v) :: r else (k,x) :: X5 f v r) from rfl]
  by_cases hk:k=f
  ·rw [if_pos hk]
   subst hk
   exact ⟨by simp,fun g h=>by simpa using h⟩
  ·rw [if_neg hk]
   refine ⟨?_,fun g h=>?_⟩
   ·rw [Ie]
    exact Ov _ i1
   ·rw [Ie] at h ⊢
    rcases ON.mp h with e | e
    ·exact ON.mpr (.inl e)
    ·exact Ov _ (i2 g e)
theorem Ze9 (f:Str) (v:V):∀fs:List (Str×V),(X5 f v fs).length<=fs.length + 1
 | []=>by simp [X5]
 | (k,x) :: r=>by
  have ih:=Ze9 f v r
  rw [show X5 f v ((k,x) :: r)=(if k=f then (k,v) :: r else (k,x) :: X5 f v r) from rfl]
  by_cases hk:k=f
  ·rw [if_pos hk,Oz,Oz]; simp
  ·rw [if_neg hk,Oz,Oz]; exact qw40
theorem RelO.some_of {v:V} {o:Option Value} (r:RelO (some v) o):∃u,o=some u/\YE v u:=by
 cases o with
 | none=>exact (show False from r).elim
 | some u=>exact ⟨u,rfl,r⟩
theorem RelO.none_of {o:Option Value} (r:RelO none o):o=none:=by
 cases o with
 | none=>rfl
 | some u=>exact (show False from r).elim
theorem handed_of {v:V} {u:Value} (r:YE v u):PySem.W.handedIn u=true:=by
 cases v with
 | non=>cases (show u=Value.none from r); rfl
 | bl b=>cases (show u=Value.bool b from r); rfl
 | int i=>obtain ⟨t,e⟩:=(show ∃t,u=Value.int i t from r); cases e; rfl
 | str x=>obtain ⟨t,e⟩:=(show ∃t,u=Value.str x t from r); cases e; rfl
 | byt b=>obtain ⟨t,e⟩:=(show ∃t,u=Value.bytes b t from r); cases e; rfl
 | flt b=>obtain ⟨t,e⟩:=(show ∃t,u=Value.float b t from r); cases e; rfl
 | ref a=>cases (show u=Value.ref a from r); rfl
 | ty n=>cases (show u=Value.type n from r); rfl
section
variable {P:Program} {w:World} {H H':Hp} {h h':Heap} {a C dx:Addr} {fs fs':List (Str×V)}
theorem ins_get (hok:HOk P w H h) (e:H a=some (.ins C dx fs)):∃mA,ObjM h a dx C mA/\(∀f,RelO (fs.lookup f) (mA f))/\PySem.Within mA (fs.map (·.1))/\fs.length<=1000/\H dx=some (.own a):=by
 obtain ⟨d,z,ne,ob,mA,n,r,q⟩:=(show W0 P w H h a (.ins C dx fs) from hok a _ e)
 exact ⟨mA,⟨ob,n,ne⟩,r,q,z,d⟩
end
structure Cls (K:Oa) (C:Addr):Prop where
 pg:PySem.W.plainGet K C Str.empty=true
 hd:PySem.W.hasDictIn K C=true
 po:PySem.W.plainOver K C=true
 sa:IA K (.ref C) "__setattr__"=some (some (.builtin "object.__setattr__"))
theorem Cls.get {K:Oa} {C:Addr} (c:Cls K C) (f:Str):PySem.W.plainGet K C f=true:=c.pg
def Ym (K:Oa) (C:Addr) (f:Str):Prop:=IA K (.ref C) f=some none
theorem Ym.taker {K:Oa} {C:Addr} {f:Str} (n:Ym K C f):PySem.W.takerIn K C f=some none:=by
 unfold PySem.W.takerIn
 rw [show IA K (.ref C) f=some none from n]
 rfl
structure Meth (K:Oa) (C:Addr) (m:Str) (f:Addr):Prop where
 at_:IA K (.ref C) m=some (some (.ref f))
 fn:PySem.W.isFn K (.ref f)=true
 kp:IY K (.ref f)=true
section
variable {X:Cx} {pins:List (Addr×Obj)} {σ:St} {H:Hp} {s:Shared} {a C dx:Addr} {fs:List (Str×V)} {f:Str} {v:V} {A:Around} {E:Value->Shared->Prop}
theorem ZfX {b:Bool} {Q:Value->Shared->Prop} (I:Inv X pins σ H s) (e:H a=some (.ins C dx fs)) (c:Cls X.K C) (n:Ym X.K C f) (l:fs.lookup f=some v)
 (h:∀u s',Inv X pins σ H s'->YE v u->Q u s'):wpAny (model X.prog X.w) A (getAttr (.ref a) f b) Q E s:=by
 obtain ⟨mA,O,r,_,_,_⟩:=ins_get I.hok e
 obtain ⟨u,hu,ru⟩:=RelO.some_of (v:=v) (o:=mA f) (by rw [<- l]; exact r f)
 exact get_map I.kIn O (c.get f) c.hd n hu (handed_of ru) (h u _ (I.tok _) ru)
theorem Zdt {m:Str} {g:Addr} {pl:Sem Bool} {Q:Value×List Value->Shared->Prop} (I:Inv X pins σ H s) (e:H a=some (.ins C dx fs)) (c:Cls X.K C) (k:Meth X.K C m g) (l:fs.lookup m=none)
 (h:Q (.ref g,[.ref a]) s):wpAny (model X.prog X.w) A (getMethod (.ref a) m pl) Q E s:=by
 obtain ⟨mA,O,r,_,_,_⟩:=ins_get I.hok e
 have hn:mA m=none:=RelO.none_of (by rw [<- l]; exact r m)
 exact get_meth I.kIn O (c.get m) k.at_ k.fn hn h
theorem Zgn {y:V} {u:Value} {Q:Unit->Shared->Prop} (I:Inv X pins σ H s) (e:H a=some (.ins C dx fs)) (c:Cls X.K C) (n:Ym X.K C f) (hl:fs.length < 1000) (ry:YE y u)
 (h:∀s',Inv X pins σ (upd H a (.ins C dx (X5 f y fs))) s'->Q () s'):wpAny (model X.prog X.w) A (setAttr (.ref a) f u) Q E s:=by
 obtain ⟨mA,O,r,wi,_,ho⟩:=ins_get I.hok e
 have hz:(fs.map (·.1)).length<=sizeLine:=by rw [Od,sizeLine_eq]; exact ZbN
 refine set_map I.kIn O c.sa c.po n.taker c.hd wi hz fun h' O' sb=>h _ ?_
 have hd:∃o,h'.get? dx=some o:=let ⟨o,_,_,e',_⟩:=O'.ns; ⟨o,e'⟩
 refine I.write (x:=a) (e:=dx) (by rw [e]; exact True.intro) (.inr ho) (fun b q hb z=>(sb.2 b hb).trans z) hd ?_
 refine ⟨by rw [ZN O.ne]; exact ho,?_,O.ne,O'.obj,_,O'.ns,fun g=>?_,fun g hg=>?_⟩
 ·have:=Ze9 f y fs; lia
 ·show RelO ((X5 f y fs).lookup g) (if g=f then some u else mA g)
  rw [Zfa]
  by_cases q:g=f
  ·rw [if_pos q,if_pos q]; exact ry
  ·rw [if_neg q,if_neg q]; exact r g
 ·by_cases q:g=f
  ·rw [q]; exact (ZeL f y fs).1
  ·refine (ZeL f y fs).2 g (wi g fun z=>hg ?_)
   show (if g=f then some u else mA g)=none
   rw [if_neg q]; exact z
theorem Inv.made (I:Inv X pins σ H s):Inv X pins σ (upd (upd H s.heap.objs.size (.own (s.heap.objs.size + 1))) (s.heap.objs.size + 1) (.ins C s.heap.objs.size []))
 { s with heap:=(s.heap.push PySem.W.emptyDict).push (PySem.W.instObj C s.heap.objs.size) }:=by
 have e1:(s.heap.push PySem.W.emptyDict).get? s.heap.objs.size=some PySem.W.emptyDict:=Heap.get?_push_size s.heap rfl
 have e2:((s.heap.push PySem.W.emptyDict).push (PySem.W.instObj C s.heap.objs.size)).get? (s.heap.objs.size + 1)=some (PySem.W.instObj C s.heap.objs.size):=by
  have:=Heap.get?_push_size (s.heap.push PySem.W.emptyDict) (o:=PySem.W.instObj C s.heap.objs.size) rfl
  rwa [Heap.size_push] at this
 have e3:(s.heap.push PySem.W.emptyDict).Ns s.heap.objs.size (fun _=>none):=⟨PySem.W.emptyDict,#[],_,e1,rfl,(fun e he=>absurd he (by simp)),fun _=>rfl⟩
 have I1:=I.laid (a:=s.heap.objs.size) (o:=.own (s.heap.objs.size + 1)) (h':=s.heap.push PySem.W.emptyDict) (t':=s.toks) (fun b u q=>Heap.get?_push_of_some _ q) (Oq _) ⟨_,e1⟩
 refine I1.laid (a:=s.heap.objs.size + 1) (o:=.ins C s.heap.objs.size []) (t':=s.toks) (fun b u q=>Heap.get?_push_of_some _ q) (VA (Heap.size_push _ _)) ?_
 have ne:s.heap.objs.size≠s.heap.objs.size + 1:=O4 (Vp _)
 refine ⟨by rw [ZN ne,Zn],Ib _,ne,e2,fun _=>none,(Heap.Ns1.of_empty e3).at fun o q=>Heap.get?_push_of_some _ q,fun _=>True.intro,fun y hy=>absurd rfl hy⟩
theorem attr_of {prog:Program} {w:World} {env:Env} {e:Expr} {f:Str} {pos:Pos} {s:Shared} {Q:Value->Shared->Prop} (hb:attributeBase e f env (eval e env)=eval e env)
 (h:wpAny (model prog w) A (eval e env) (fun o s₁=>wpAny (model prog w) A (getAttr o f true) Q E s₁) E s):wpAny (model prog w) A (eval (.Attribute e f pos) env) Q E s:=
 Attribute_any_ h (by rw [arm_eval_Attribute,hb])
end
def tFld (K:Oa) (ta:TE) (f:Str):TE:=fun σ H Q=>ta σ H fun x H1=>∃a C dx fs v,x=.ref a/\H1 a=some (.ins C dx fs)/\Cls K C/\Ym K C f/\fs.lookup f=some v/\Q v H1
def sFld (K:Oa) (ta tv:TE) (f:Str):TS:=fun D σ H=>tv σ H fun y H1=>ta σ H1 fun x H2=>∃a C dx fs,x=.ref a/\H2 a=some (.ins C dx fs)/\Cls K C/\Ym K C f/\fs.length < 1000/\
 D.nx σ (upd H2 a (.ins C dx (X5 f y fs)))
def InOp (X:Cx) (op:Operator) (rd:V->V->Hp->VK->Prop):Prop:=
 ∀(pins:List (Addr×Obj)) (s:Shared) (σ:St) (H:Hp) (x y:V) (u v:Value) (Q:VK),Inv X pins σ H s->YE x u->YE y v->rd x y H Q->wpAny (model X.prog X.w) X.A (inplaceOp op u v) (EP X pins σ Q) X.xe s
def sFldAug (K:Oa) (ta tv:TE) (rd:V->V->Hp->VK->Prop) (f:Str):TS:=fun D σ H=>ta σ H fun x H1=>∃a C dx fs v,x=.ref a/\H1 a=some (.ins C dx fs)/\Cls K C/\Ym K C f/\fs.lookup f=some v/\
 tv σ H1 fun y H2=>rd v y H2 fun z H3=>∃dx' fs',H3 a=some (.ins C dx' fs')/\fs'.length < 1000/\D.nx σ (upd H3 a (.ins C dx' (X5 f z fs')))
section
variable {X:Cx} {o e value:Expr} {f:Str} {pos pos' tpos:Pos} {ta tv:TE}
theorem pe_fld (he:PE X e ta) (hb:attributeBase e f X.env (eval e X.env)=eval e X.env):PE X (.Attribute e f pos) (tFld X.K ta f):=by
 intro pins s σ H Q I h
 refine attr_of hb (thn (he pins s σ H _ I h) fun u s1 ⟨x,H1,I1,rx,a,C,dx,fs,v,ex,ea,c,n,l,q⟩=>?_)
 subst ex
 obtain rfl:u=Value.ref a:=rx
 exact ZfX I1 ea c n l fun u' s2 I2 ru=>⟨v,H1,I2,ru,q⟩
theorem ps_fld (ha:PE X o ta) (hv:PE X value tv) (hs:swapsWith value (some (.Attribute o f pos')) pos.line X.env=pure false):PS X (.Assign [.Attribute o f pos'] value pos) (sFld X.K ta tv f):=by
 intro pins s σ H D I h
 refine plainObj_wpAny_Assign_Attribute (thn (hv pins s σ H _ I h) fun u s1 ⟨y,H1,I1,ry,q⟩=>thn (ha pins s1 σ H1 _ I1 q) fun ov s2 ⟨x,H2,I2,rx,a,C,dx,fs,ex,ea,c,n,l,q2⟩=>?_) hs
 subst ex
 obtain rfl:ov=Value.ref a:=rx
 exact Zgn I2 ea c n l ry fun s3 I3=>⟨σ,_,I3,q2⟩
theorem ps_fldaug {op:Operator} {rd:V->V->Hp->VK->Prop} (ha:PE X o ta) (hv:PE X value tv) (hop:InOp X op rd):PS X (.AugAssign (.Attribute o f tpos) op value pos) (sFldAug X.K ta tv rd f):=by
 intro pins s σ H D I h
 refine wpAny_AugAssign_AttributeAny (thn (ha pins s σ H _ I h) fun ov s1 ⟨x,H1,I1,rx,a,C,dx,fs,v,ex,ea,c,n,l,q⟩=>?_)
 subst ex
 obtain rfl:ov=Value.ref a:=rx
 refine ZfX I1 ea c n l fun u s2 I2 ru=>thn (hv pins s2 σ H1 _ I2 q) fun w3 s3 ⟨y,H2,I3,ry,q3⟩=>thn (hop pins s3 σ H2 v y u w3 _ I3 ru ry q3) fun w4 s4 ⟨z,H3,I4,rz,dx',fs',ea',l',q4⟩=>?_
 exact Zgn I4 ea' c n l' rz fun s5 I5=>⟨σ,_,I5,q4⟩
theorem methcall_of {pl:Sem Bool} {m:Str} {apos:Pos} {args:List Expr} {pins:List (Addr×Obj)} {s:Shared} {σ:St} {H:Hp} {Q:Value->Shared->Prop} {te:TE} (he:PE X e te) (I:Inv X pins σ H s)
 (h:te σ H fun x H1=>∃a C dx fs g,x=.ref a/\H1 a=some (.ins C dx fs)/\Cls X.K C/\Meth X.K C m g/\fs.lookup m=none/\
  ∀s1,Inv X pins σ H1 s1->wpAny (model X.prog X.w) X.A (callWith pos (.ref g) [.ref a] (backTo pos (starEach args X.env)) (backToKw pos (keywordEach [] X.env))) Q X.xe s1)
 (ht:eval (.Call (.Attribute e m apos) args [] pos) X.env=(do
  let ov <- eval e X.env
  standAt apos.atName
  let (f,first) <- holding [ov] (getMethod ov m pl)
  callWith pos f first (backTo pos (starEach args X.env)) (backToKw pos (keywordEach [] X.env)))) :
 wpAny (model X.prog X.w) X.A (eval (.Call (.Attribute e m apos) args [] pos) X.env) Q X.xe s:=by
 refine PySem.W.methodCall_KW (pl:=pl) (thn (he pins s σ H _ I h) fun u s1 ⟨x,H1,I1,rx,a,C,dx,fs,g,ex,ea,c,k,l,q⟩=>?_) ht
 subst ex
 obtain rfl:u=Value.ref a:=rx
 exact Zdt I1 ea c k l (q s1 I1)
end
section
variable {X:Cx} {pins:List (Addr×Obj)} {σ:St} {H:Hp} {s:Shared} {A:Around} {E:Value->Shared->Prop} {Q:Value->Shared->Prop} {c:Value} {b:Bool}
end
end L2
namespace L2
open PySem PySem.Spec PyProof.Rows
structure Qa (k:Nat) (A:Around):Prop where
 hd:A.handled=none
 dp:A.depth + 3 * k + 5 < recursionLimit
 un:A.units + 16 * k + 200 < cLine
theorem Qa.mono {j k:Nat} {A:Around} (r:Qa k A) (h:j<=k):Qa j A:=⟨r.hd,by have:=r.dp; lia,by have:=r.un; lia⟩
theorem Qa.deeper {k:Nat} {A:Around} (r:Qa (k + 1) A) (env:Env):Qa k (A.deeper env):=
 ⟨r.hd,by have:=r.dp; show A.depth + 1 + 3 * k + 5 < _; lia,by have:=r.un; show A.units + 3 + 16 * k + 200 < _; lia⟩
theorem make_depth {A:Around} {C:Addr} {us:List Value} {kw:List (Str×Value)}:(A.under (.builtin "type.__call__" ⟨.ref C :: us,kw⟩)).depth=A.depth + 1:=by
 first | rfl | simp [Around.under,Code.weight,Code.isCreation,Code.isGuard,Code.isCaller,Code.frames,Code.isFrame,guardIds]
theorem make_units {A:Around} {C:Addr} {us:List Value} {kw:List (Str×Value)}:(A.under (.builtin "type.__call__" ⟨.ref C :: us,kw⟩)).units=A.units + 1:=by
 first | rfl | simp [Around.under,Code.cUnits,Code.frames,Code.isFrame]
theorem Qa.make {k:Nat} {A:Around} (r:Qa (k + 1) A) (C:Addr) (us:List Value) (kw:List (Str×Value)):Qa k (A.under (.builtin "type.__call__" ⟨.ref C :: us,kw⟩)):=
 ⟨r.hd,by have:=r.dp; rw [make_depth]; lia,by have:=r.un; rw [make_units]; lia⟩
theorem Qa.depth {k:Nat} {A:Around} (r:Qa k A):A.depth < recursionLimit:=by have:=r.dp; lia
def tNil:TA:=fun _ H Q=>Q [] H
def tCons (ta:TE) (tr:TA):TA:=fun σ H Q=>ta σ H fun x H1=>tr σ H1 fun xs H2=>Q (x :: xs) H2
section
variable {X:Cx} {e:Expr} {es:List Expr} {te:TE} {t:TA} {pos:Pos}
theorem Zc:PA X [] tNil:=fun _ _ _ _ H Q I h=>Calls.spliced_nil ⟨[],H,I,.nil,h⟩
theorem Za (ha:PE X e te) (hr:PA X es t) (hs:starEach (e :: es) X.env=(false,eval e X.env) :: starEach es X.env:=by rfl):PA X (e :: es) (tCons te t):=by
 intro pos pins s σ H Q I h
 rw [hs]
 show wpAny _ _ (spliced ((false,eval e X.env) :: backTo pos (starEach es X.env))) _ _ s
 refine Calls.spliced_cons (thn (ha pins s σ H _ I h) fun u s1 ⟨x,H1,I1,r1,q1⟩=>?_)
 exact thn (hr pos pins s1 σ H1 _ I1 q1) fun us s2 ⟨xs,H2,I2,r2,q2⟩=>⟨x :: xs,H2,I2,.cons r1 r2,q2⟩
def tTup (t:TA):TE:=fun σ H Q=>t σ H fun xs H1=>xs.length<=sizeLine/\∀p,H1 p=none->Q (.ref p) (upd H1 p (.tup xs))
def tLst (t:TA):TE:=fun σ H Q=>t σ H fun xs H1=>xs.length<=sizeLine/\∀p,H1 p=none->Q (.ref p) (upd H1 p (.lst xs))
theorem pe_tup {x1} (h:PA X es t):PE X (.Tuple es x1 pos) (tTup t):=by
 intro pins s σ H Q I hq
 refine wpAny_Tuple_spliced (thn (h pos pins s σ H _ I hq) fun us s1 ⟨xs,H1,I1,r,z,q⟩=>⟨by rw [<- r.length]; exact z,?_⟩)
 have hf:H1 s1.heap.objs.size=none:=I1.hok.fresh (Oq _)
 refine ⟨.ref s1.heap.objs.size,upd H1 s1.heap.objs.size (.tup xs),I1.laid (t':=s1.toks) (fun b u e=>Heap.get?_push_of_some _ e) (Oq _) ?_,rfl,q _ hf⟩
 exact ⟨z,us,r,⟨_,Heap.get?_push_size _ rfl,rfl,_,rfl⟩⟩
theorem ZH (h:PA X es t):PE X (.List es pos) (tLst t):=by
 intro pins s σ H Q I hq
 refine wpAny_List_spliced (thn (h pos pins s σ H _ I hq) fun us s1 ⟨xs,H1,I1,r,z,q⟩=>⟨by rw [<- r.length]; exact z,?_⟩)
 have hf:H1 s1.heap.objs.size=none:=I1.hok.fresh (Oq _)
 refine ⟨.ref s1.heap.objs.size,upd H1 s1.heap.objs.size (.lst xs),I1.laid (t':=s1.toks) (fun b u e=>Heap.get?_push_of_some _ e) (Oq _) ?_,rfl,q _ hf⟩
 exact ⟨z,us,0,r,Heap.get?_push_size _ rfl⟩
end
abbrev Sp:=List V->Hp->VK->XK->Prop
abbrev CXT:=List Env->Hp->Shared->XK->Value->Shared->Prop
structure Env0 (P:Program) (w:World) (K:Oa) (mg:Str->Option Value) (base:Heap) (A:Around) (outer:List Env) (s:Shared) (H:Hp):Prop where
 frames:A.frames=some outer
 mod:Mod K mg base
 bs:∀b o,base.get? b=some o->s.heap.get? b=some o/\H b=none
 bsz:base.objs.size<=s.heap.objs.size
 funs:s.heap.FunFrames base outer
 frf:∀b∈frs outer,H b=none
 hok:HOk P w H s.heap
 bare:AllBare s.gens
def CE (outer:List Env) (P:Program) (w:World) (H:Hp) (s:Shared) (Q:VK) (u:Value) (s':Shared):Prop:=
 ∃v H',s'.os=s.os/\AllBare s'.gens/\Un (frs outer) [] H H' s.heap s'.heap/\HOk P w H' s'.heap/\YE v u/\Q v H'
def CR (CX:CXT) (outer:List Env) (P:Program) (w:World) (H:Hp) (s:Shared) (Q:VK) (E:XK) (r:Result) (s':Shared):Prop:=
 match r with
 | .ok (.ret u)=>CE outer P w H s Q u s'
 | .ok _=>False
 | .error e=>CX outer H s E e s'
structure FnOk (P:Program) (w:World) (K:Oa) (mg:Str->Option Value) (base:Heap) (CX:CXT) (k:Nat) (f:Addr) (fd:FuncData) (ps:List Str) (sp:Sp):Prop where
 len:∀vs H Q E,sp vs H Q E->vs.length=ps.length
 run:∀(A:Around) (outer:List Env) (s:Shared) (H:Hp) (args:Args) (us:List Value) (vs:List V) (Q:VK) (E:XK),Qa k A->Env0 P w K mg base A outer s H->BindsTo s fd args (ps.zip us)->Z8 vs us->sp vs H Q E->
  codeAny (model P w) A (.call (.ref f) args) (CR CX outer P w H s Q E) s
theorem Env0.make {P:Program} {w:World} {K:Oa} {mg:Str->Option Value} {base:Heap} {A:Around} {outer:List Env} {s:Shared} {H:Hp} (e:Env0 P w K mg base A outer s H) (C:Addr) (us:List Value) (kw:List (Str×Value)) :
 Env0 P w K mg base (A.under (.builtin "type.__call__" ⟨.ref C :: us,kw⟩)) outer s H:=⟨by first | exact e.frames | (simpa [Around.under,Code.envs,Code.isFrame,pushEnvs] using e.frames),e.mod,e.bs,e.bsz,e.funs,e.frf,e.hok,e.bare⟩
section
variable {X:Cx} {pins:List (Addr×Obj)} {σ:St} {H:Hp} {s s':Shared}
theorem Inv.env0 (I:Inv X pins σ H s):Env0 X.prog X.w X.K X.mg X.base X.A X.stack s H:=
 ⟨I.ok.frames,I.ok.mod,I.bs,OD I.ok.bsz I.sz,I.stack,I.stkFree,I.hok,I.bare⟩
theorem Inv.after {Q:VK} {u:Value} (I:Inv X pins σ H s) (h:CE X.stack X.prog X.w H s Q u s'):EP X pins σ Q u s':=by
 obtain ⟨v,H',os,bare,un,hok,r,q⟩:=h
 obtain ⟨hh,g,d,t,os'⟩:=s'
 obtain rfl:os'=s.os:=os
 exact ⟨v,H',I.call (h':=hh) (g':=g) (d':=d) (t':=t) (ch:=[]) un hok bare (fun b z=>absurd z (by simp)),r,q⟩
end
def tCall (sp:Sp) (dvs:List V) (E:XK) (t:TA):TE:=fun σ H Q=>t σ H fun vs H1=>sp (vs ++ dvs) H1 Q E
def tMeth (C:Addr) (m:Str) (sp:Sp) (dvs:List V) (E:XK) (ta:TE) (t:TA):TE:=fun σ H Q=>ta σ H fun x H1=>∃a dx fs,x=.ref a/\H1 a=some (.ins C dx fs)/\fs.lookup m=none/\
 t σ H1 fun vs H2=>sp (x :: (vs ++ dvs)) H2 Q E
def tMake (C:Addr) (sp:Sp) (dvs:List V) (E:XK) (t:TA):TE:=fun σ H Q=>t σ H fun vs H1=>∀x dx,H1 x=none->H1 dx=none->dx≠x->
 sp (.ref x :: (vs ++ dvs)) (upd (upd H1 dx (.own x)) x (.ins C dx [])) (fun v H2=>v=.non/\Q (.ref x) H2) E
def Jg (K:Oa) (fd:FuncData) (ps:List Str) (ds:List Value):Prop:=
 ∀(s:Shared) (us:List Value),K.In s.heap->(us ++ ds).length=ps.length->BindsTo s fd ⟨us,[]⟩ (ps.zip (us ++ ds))
theorem Jg.all {K:Oa} {fd:FuncData} {ps:List Str} (h:∀us:List Value,us.length=ps.length->bindArgs fd ⟨us,[]⟩=pure (ps.zip us)):Jg K fd ps []:=fun s us _ hl=>by
 rw [Um] at hl ⊢
 exact .of_eq (h us hl)
def Zb8 (CX:CXT) (X:Cx) (E:XK):Prop:=∀(pins:List (Addr×Obj)) (σ:St) (H:Hp) (s:Shared) (e:Value) (s':Shared),Inv X pins σ H s->CX X.stack H s E e s'->X.xe e s'
section
variable {X:Cx} {CX:CXT} {k:Nat} {f C:Addr} {fd:FuncData} {ps:List Str} {sp:Sp} {dvs:List V} {ds:List Value} {E:XK} {x m:Str} {p pos apos:Pos} {e o:Expr} {es:List Expr} {ta:TE} {t:TA}
theorem run_fn {pins:List (Addr×Obj)} {σ:St} {H:Hp} {s:Shared} {Q:VK} {us:List Value} {vs:List V} (F:FnOk X.prog X.w X.K X.mg X.base CX k f fd ps sp) (hr:Qa k X.A) (hb:Jg X.K fd ps ds) (hd:Z8 dvs ds) (hx:Zb8 CX X E)
 (I:Inv X pins σ H s) (r:Z8 vs us) (h:sp (vs ++ dvs) H Q E):wpAny (model X.prog X.w) X.A (call (.ref f) us) (EP X pins σ Q) X.xe s:=by
 have r2:Z8 (vs ++ dvs) (us ++ ds):=r.append hd
 have hl:(us ++ ds).length=ps.length:=by rw [<- r2.length]; exact F.len _ _ _ _ h
 refine wpAny_call (codeAny_mono (F.run X.A X.stack s H ⟨us,[]⟩ (us ++ ds) (vs ++ dvs) Q E hr I.env0 (hb s us I.kIn hl) r2 h) fun r s' hq=>?_)
 cases r with
 | error e=>exact hx pins σ H s e s' I hq
 | ok fl=>
  cases fl with
  | ret u=>exact I.after hq
  | next=>exact False.elim hq
  | brk=>exact False.elim hq
  | cont=>exact False.elim hq
theorem pe_call (F:FnOk X.prog X.w X.K X.mg X.base CX k f fd ps sp) (hr:Qa k X.A) (hg:Gl X x) (hm:X.mg x=some (.ref f)) (hk:IY X.K (.ref f)=true) (hb:Jg X.K fd ps ds) (hd:Z8 dvs ds) (hx:Zb8 CX X E)
 (ha:PA X (e :: es) t) (hdb:(x == ("__debug__":Str))=false:=by decide) (he:starEach (e :: es) X.env=(false,eval e X.env) :: starEach es X.env:=by rfl) (hpl:(backTo pos (starEach es X.env)).any (·.1)=false:=by rfl) :
 PE X (.Call (.Name x p) (e :: es) [] pos) (tCall sp dvs E t):=by
 intro pins s σ H Q I h
 refine wpAny_Call_Name_kw (Zfx I hg hm ?_ hdb)
 refine PySem.W.callWith_K (h₀:=X.base) I.ok.mod.kin hk (thn (ha pos pins s σ H _ I h) fun us s1 ⟨vs,H1,I1,r,q⟩=>⟨I1.kIn,?_⟩) he hpl
 exact run_fn F hr hb hd hx I1 r q
theorem pe_meth {pl:Sem Bool} (he:PE X o ta) (c:Cls X.K C) (hm:Meth X.K C m f) (F:FnOk X.prog X.w X.K X.mg X.base CX k f fd ps sp) (hr:Qa k X.A) (hb:Jg X.K fd ps ds) (hd:Z8 dvs ds) (hx:Zb8 CX X E) (ha:PA X (e :: es) t)
 (hst:starEach (e :: es) X.env=(false,eval e X.env) :: starEach es X.env:=by rfl) (hpl:(backTo pos (starEach es X.env)).any (·.1)=false:=by rfl)
 (ht:eval (.Call (.Attribute o m apos) (e :: es) [] pos) X.env=(do
  let ov <- eval o X.env
  standAt apos.atName
  let (f,first) <- holding [ov] (getMethod ov m pl)
  callWith pos f first (backTo pos (starEach (e :: es) X.env)) (backToKw pos (keywordEach [] X.env))):=by rfl) :
 PE X (.Call (.Attribute o m apos) (e :: es) [] pos) (tMeth C m sp dvs E ta t):=by
 intro pins s σ H Q I h
 refine PySem.W.methodCall_KW (pl:=pl) (thn (he pins s σ H _ I h) fun u s1 ⟨x,H1,I1,rx,a,dx,fs,ex,ea,l,q⟩=>?_) ht
 subst ex
 obtain rfl:u=Value.ref a:=rx
 refine Zdt I1 ea c hm l ?_
 refine PySem.W.callWith_K (first:=[.ref a]) (h₀:=X.base) I.ok.mod.kin hm.kp (thn (ha pos pins s1 σ H1 _ I1 q) fun us s2 ⟨vs,H2,I2,r,q2⟩=>⟨I2.kIn,?_⟩) hst hpl
 exact run_fn (us:=.ref a :: us) (vs:=.ref a :: vs) F hr hb hd hx I2 (.cons rfl r) q2
theorem pe_meth0 {pl:Sem Bool} (he:PE X o ta) (c:Cls X.K C) (hm:Meth X.K C m f) (F:FnOk X.prog X.w X.K X.mg X.base CX k f fd ps sp) (hr:Qa k X.A) (hb:Jg X.K fd ps ds) (hd:Z8 dvs ds) (hx:Zb8 CX X E)
 (ht:eval (.Call (.Attribute o m apos) [] [] pos) X.env=(do
  let ov <- eval o X.env
  standAt apos.atName
  let (f,first) <- holding [ov] (getMethod ov m pl)
  callWith pos f first (backTo pos (starEach [] X.env)) (backToKw pos (keywordEach [] X.env))):=by rfl) :
 PE X (.Call (.Attribute o m apos) [] [] pos) (tMeth C m sp dvs E ta tNil):=by
 intro pins s σ H Q I h
 refine PySem.W.methodCall_KW (pl:=pl) (thn (he pins s σ H _ I h) fun u s1 ⟨x,H1,I1,rx,a,dx,fs,ex,ea,l,q⟩=>?_) ht
 subst ex
 obtain rfl:u=Value.ref a:=rx
 refine Zdt I1 ea c hm l ?_
 exact PySem.W.callWith_K0 (first:=[.ref a]) I1.kIn hm.kp (run_fn (us:=[.ref a]) (vs:=[.ref a]) F hr hb hd hx I1 (.cons rfl .nil) q)
structure Mk (K:Oa) (C f:Addr):Prop where
 makes:PySem.W.makesIn K C=true
 init:IA K (.ref C) "__init__"=some (some (.ref f))
 fn:PySem.W.isFn K (.ref f)=true
 kp:IY K (.ref C)=true
theorem run_make {pins:List (Addr×Obj)} {σ:St} {H:Hp} {s:Shared} {Q:VK} {us:List Value} {vs:List V} (M:Mk X.K C f) (F:FnOk X.prog X.w X.K X.mg X.base CX k f fd ps sp) (hr:Qa (k + 1) X.A) (hb:Jg X.K fd ps ds) (hd:Z8 dvs ds)
 (hx:Zb8 CX X E) (I:Inv X pins σ H s) (r:Z8 vs us)
 (h:∀x dx,H x=none->H dx=none->dx≠x->sp (.ref x :: (vs ++ dvs)) (upd (upd H dx (.own x)) x (.ins C dx [])) (fun v H2=>v=.non/\Q (.ref x) H2) E) :
 wpAny (model X.prog X.w) X.A (call (.ref C) us) (EP X pins σ Q) X.xe s:=by
 have hq:=h (s.heap.objs.size + 1) s.heap.objs.size (I.hok.fresh (Nat.le_succ _)) (I.hok.fresh (Oq _)) (O4 (Vp _))
 have I2:=Inv.made (C:=C) I
 have r2:Z8 (V.ref (s.heap.objs.size + 1) :: (vs ++ dvs)) (Value.ref (s.heap.objs.size + 1) :: (us ++ ds)):=.cons rfl (r.append hd)
 have hl:(Value.ref (s.heap.objs.size + 1) :: us ++ ds).length=ps.length:=by
  have e:=r2.length
  rw [F.len _ _ _ _ hq] at e
  exact e.symm
 refine wpAny_call (make_map (f:=f) I.kIn M.makes M.init (beq_iff_eq.mp M.fn) (codeAny_mono (F.run _ X.stack _ _ ⟨Value.ref (s.heap.objs.size + 1) :: us,[]⟩ (Value.ref (s.heap.objs.size + 1) :: (us ++ ds)) _ _ E (hr.make C us [])
  (I2.env0.make C us []) (hb _ (Value.ref (s.heap.objs.size + 1) :: us) I2.kIn hl) r2 hq) fun r s' hq'=>?_))
 cases r with
 | error e=>exact hx pins σ _ _ e s' I2 hq'
 | ok fl=>
  cases fl with
  | ret u=>
   obtain ⟨v,H',I3,rv,ev,q3⟩:=I2.after hq'
   subst ev
   exact ⟨rv,⟨V.ref (s.heap.objs.size + 1),H',I3,rfl,q3⟩⟩
  | next=>exact False.elim hq'
  | brk=>exact False.elim hq'
  | cont=>exact False.elim hq'
theorem pe_make (M:Mk X.K C f) (F:FnOk X.prog X.w X.K X.mg X.base CX k f fd ps sp) (hr:Qa (k + 1) X.A) (hg:Gl X x) (hm:X.mg x=some (.ref C)) (hb:Jg X.K fd ps ds) (hd:Z8 dvs ds) (hx:Zb8 CX X E)
 (ha:PA X (e :: es) t) (hdb:(x == ("__debug__":Str))=false:=by decide) (he:starEach (e :: es) X.env=(false,eval e X.env) :: starEach es X.env:=by rfl) (hpl:(backTo pos (starEach es X.env)).any (·.1)=false:=by rfl) :
 PE X (.Call (.Name x p) (e :: es) [] pos) (tMake C sp dvs E t):=by
 intro pins s σ H Q I h
 refine wpAny_Call_Name_kw (Zfx I hg hm ?_ hdb)
 refine PySem.W.callWith_K (h₀:=X.base) I.ok.mod.kin M.kp (thn (ha pos pins s σ H _ I h) fun us s1 ⟨vs,H1,I1,r,q⟩=>⟨I1.kIn,?_⟩) he hpl
 exact run_make M F hr hb hd hx I1 r q
theorem pe_make0 (M:Mk X.K C f) (F:FnOk X.prog X.w X.K X.mg X.base CX k f fd ps sp) (hr:Qa (k + 1) X.A) (hg:Gl X x) (hm:X.mg x=some (.ref C)) (hb:Jg X.K fd ps ds) (hd:Z8 dvs ds) (hx:Zb8 CX X E)
 (hdb:(x == ("__debug__":Str))=false:=by decide):PE X (.Call (.Name x p) [] [] pos) (tMake C sp dvs E tNil):=by
 intro pins s σ H Q I h
 refine wpAny_Call_Name_kw (Zfx I hg hm ?_ hdb)
 exact PySem.W.callWith_K0 I.kIn M.kp (run_make (us:=[]) M F hr hb hd hx I .nil h)
end
def PK (X:Cx) (kws:List Keyword) (t:TA):Prop:=
 ∀(pos:Pos) (pins:List (Addr×Obj)) (s:Shared) (σ:St) (H:Hp) (Q:List V->Hp->Prop),Inv X pins σ H s->t σ H Q->wpAny (model X.prog X.w) X.A (evalAll ((backToKw pos (keywordEach kws X.env)).map (·.2))) (AP X pins σ Q) X.xe s
section
variable {X:Cx} {CX:CXT} {k:Nat} {f C:Addr} {fd:FuncData} {ps ks:List Str} {sp:Sp} {E:XK} {x m:Str} {p pos apos kpos:Pos} {e o:Expr} {es:List Expr} {kws:List Keyword} {te ta:TE} {t tk:TA} {nm:Option Str}
theorem pk_nil:PK X [] tNil:=fun _ _ _ _ H Q I h=>wpAny_evalAll_nil ⟨[],H,I,.nil,h⟩
theorem pk_cons (ha:PE X e te) (hr:PK X kws t):PK X (⟨nm,e,kpos⟩ :: kws) (tCons te t):=by
 intro pos pins s σ H Q I h
 show wpAny _ _ (evalAll ((do let v <- eval e X.env; standAt pos; pure v) :: (backToKw pos (keywordEach kws X.env)).map (·.2))) _ _ s
 refine wpAny_evalAll_cons (wpAny_bind (thn (ha pins s σ H _ I h) fun u s1 ⟨x,H1,I1,r1,q1⟩=>wpAny_bind (wpAny_standAt (wpAny_pure ?_))))
 exact thn (hr pos pins s1 σ H1 _ I1 q1) fun us s2 ⟨xs,H2,I2,r2,q2⟩=>⟨x :: xs,H2,I2,.cons r1 r2,q2⟩
variable {g:List Value->List Value->List Value} {gV:List V->List V->List V}
end
structure Zs (N P:List Str) (sc:Scope):Prop where
 kind:sc.kind=.function
 co:sc.isCoroutine=false
 gen:sc.isGenerator=false
 nd:N.Nodup
 pre:N.take P.length=P
 par:∀x∈P,sc.names.lookup x=some .local∨sc.names.lookup x=some .cell
 nofree:∀y∈sc.names,y.2≠.free
theorem bindL_out {kindOf:Str->Option NameKind} {x:Str}:∀{binds:List (Str×Value)} {m:Str->Option Value},(∀v,(x,v) ∉ binds)->bindL kindOf binds m x=m x
 | [],_,_=>rfl
 | (n,v) :: r,m,h=>by
  unfold bindL
  rw [bindL_out fun w hw=>h w (Ov _ hw)]
  split
  ·have:x≠n:=by rintro rfl; exact h v Ow
   simp [this]
  ·rfl
theorem bindC_out {kindOf:Str->Option NameKind} {x:Str}:∀{binds:List (Str×Value)} {m:Str->Option Value},(∀v,(x,v) ∉ binds)->bindC kindOf binds m x=m x
 | [],_,_=>rfl
 | (n,v) :: r,m,h=>by
  unfold bindC
  rw [bindC_out fun w hw=>h w (Ov _ hw)]
  split
  ·rfl
  ·have:x≠n:=by rintro rfl; exact h v Ow
   simp [this]
theorem bindL_get {kindOf:Str->Option NameKind} {x:Str} {v:Value}:∀{P:List Str} {vs:List Value} {i:Nat} {m:Str->Option Value},P.Nodup->P[i]?=some x->vs[i]?=some v->kindOf x=some .local->
 bindL kindOf (P.zip vs) m x=some v
 | [],_,_,_,_,h,_,_=>by simp at h
 | _ :: _,[],_,_,_,_,h,_=>by simp at h
 | p :: P,w :: vs,0,m,nd,h1,h2,hk=>by
  simp at h1 h2; subst h1; subst h2
  show bindL kindOf ((p,w) :: P.zip vs) m p=_
  unfold bindL
  rw [bindL_out fun v hv=>(U3.mp nd).1 (Th hv).1,if_pos hk]
  simp
 | p :: P,w :: vs,i + 1,m,nd,h1,h2,hk=>by
  show bindL kindOf ((p,w) :: P.zip vs) m x=_
  unfold bindL
  exact bindL_get (i:=i) (U3.mp nd).2 (by simpa using h1) (by simpa using h2) hk
theorem bindC_get {kindOf:Str->Option NameKind} {x:Str} {v:Value}:∀{P:List Str} {vs:List Value} {i:Nat} {m:Str->Option Value},P.Nodup->P[i]?=some x->vs[i]?=some v->kindOf x≠some .local->
 bindC kindOf (P.zip vs) m x=some v
 | [],_,_,_,_,h,_,_=>by simp at h
 | _ :: _,[],_,_,_,_,h,_=>by simp at h
 | p :: P,w :: vs,0,m,nd,h1,h2,hk=>by
  simp at h1 h2; subst h1; subst h2
  show bindC kindOf ((p,w) :: P.zip vs) m p=_
  unfold bindC
  rw [bindC_out fun v hv=>(U3.mp nd).1 (Th hv).1,if_neg hk]
  simp
 | p :: P,w :: vs,i + 1,m,nd,h1,h2,hk=>by
  show bindC kindOf ((p,w) :: P.zip vs) m x=_
  unfold bindC
  exact bindC_get (i:=i) (U3.mp nd).2 (by simpa using h1) (by simpa using h2) hk
def start (N:List Str) (vs:List V):St:=vs.map some ++ Ou (N.length - vs.length) none
def cxOf (CX:CXT) (P:Program) (w:World) (K:Oa) (mg:Str->Option Value) (base:Heap) (N:List Str) (qual:Str) (scope:Scope) (f:Addr) (cd:Value) (A:Around) (outer:List Env) (s:Shared) (H:Hp) (E:XK):Cx where
 prog:=P
 w:=w
 K:=K
 mg:=mg
 base:=base
 A:=A.deeper (envOfC qual scope s.heap.objs.size f cd)
 N:=N
 s_0:=s
 H_0:=H
 env:=envOfC qual scope s.heap.objs.size f cd
 outer:=outer
 stack:=envOfC qual scope s.heap.objs.size f cd :: outer
 ex:=[]
 calm:=true
 fn:=fun _=>true
 pn:=[]
 xe:=fun e s'=>wpAny (model P w) (A.deeper (envOfC qual scope s.heap.objs.size f cd)) (leaving (envOfC qual scope s.heap.objs.size f cd) e) (fun _ s''=>CX outer H s E e s'') (fun e' s''=>CX outer H s E e' s'') s'
theorem cell_has {sc:Scope} {n:Nat} {x:Str} (h:sc.names.lookup x=some .cell):∃c,(cellsFrom n sc.names []).lookup x=some c:=by
 have q:=PySem.W.cellsFrom_some sc.names n [] (.inl h)
 exact Option.isSome_iff_exists.mp q
theorem inv_start {CX:CXT} {P:Program} {w:World} {K:Oa} {mg:Str->Option Value} {base:Heap} {N ps:List Str} {qual:Str} {scope:Scope} {f:Addr} {cd:Value} {A:Around} {outer:List Env} {s s1:Shared} {H:Hp} {E:XK} {us:List Value} {vs:List V}
 (S:Zs N ps scope) (hd:A.handled=none) (e0:Env0 P w K mg base A outer s H) (hl:vs.length=ps.length) (r:Z8 vs us)
 (x:InCallC s s.heap.objs.size (bindL (envOfC qual scope s.heap.objs.size f cd).kindOf (ps.zip us) fun _=>none) (cellsFrom (s.heap.objs.size + 1) scope.names []) (bindC (envOfC qual scope s.heap.objs.size f cd).kindOf (ps.zip us) fun _=>none) s1) :
 Inv (cxOf CX P w K mg base N qual scope f cd A outer s H E) [] (start N vs) H s1:=by
 have hpl:ps.length<=N.length:=by have:=congrArg List.length S.pre; rw [OM] at this; lia
 obtain ⟨h1,tk,rfl,hk⟩:=x.done
 have noA:∀b:Addr,b ∉ (cxOf CX P w K mg base N qual scope f cd A outer s H E).ex:=fun b z=>absurd (show b∈([]:List Addr) from z) (by simp)
 refine ⟨⟨e0.mod,S.kind,rfl,rfl,Oq _,fun y z c h1 h2=>?_,fun y hy=>?_,fun y c _ h=>?_,fun _=>hd,Around.frames_deeper e0.frames,.inr ⟨rfl,rfl⟩,fun b z=>absurd z (noA b),e0.bs,e0.bsz,fun b _ _=>noA b,fun b z=>absurd z (noA b),e0.funs,e0.frf⟩,
  rfl,e0.bare,Un.kept hk,⟨_,x.toInCall.ns,fun i y v h1 h2 h3=>?_⟩,fun y c h=>⟨_,x.cell y c h⟩,e0.hok.fresh (Oq _),fun y c h=>?_,fun p hp=>absurd (show p∈([]:List (Addr×Obj)) from hp) (by simp),e0.hok.kept hk,?_⟩
 ·exact name_of_addr x.apart (OY h1) (OY h2)
 ·have hy:scope.names.lookup y=some .cell∨scope.names.lookup y=some .free:=hy
  rcases hy with hy | hy
  ·exact cell_has hy
  ·exact absurd rfl (S.nofree _ (OY hy))
 ·exact VB (x.above y c (OY h))
 ·have hi:i < vs.length:=by
   unfold start at h2
   by_cases hi:i < vs.length
   ·exact hi
   ·rw [Ic (by simpa using hi)] at h2
    rw [List.getElem?_replicate] at h2
    split at h2 <;> cases h2
  have ha:vs[i]?=some v:=by
   unfold start at h2
   rw [OZ (by simpa using hi),OP] at h2
   cases e:vs[i]? with
   | none=>rw [e] at h2; cases h2
   | some a=>rw [e] at h2; cases h2; rfl
  obtain ⟨u,hu,rv⟩:=r.get ha
  have hp:ps[i]?=some y:=by
   rw [<- S.pre,V8 (by exact qw34)]; exact h1
  have ndP:ps.Nodup:=by rw [<- S.pre]; exact S.nd.sublist (List.take_sublist _ _)
  refine ⟨u,rv,?_⟩
  rcases S.par y (O5 hp) with k | k
  ·exact .inl ⟨k,bindL_get ndP hp hu k⟩
  ·obtain ⟨c,e⟩:=cell_has (n:=s.heap.objs.size + 1) k
   refine .inr ⟨.inl k,c,e,?_⟩
   have q:=x.cell y c e
   rw [bindC_get ndP hp hu (by show scope.names.lookup y≠_; rw [k]; decide)] at q
   exact q
 ·exact e0.hok.fresh (VB (x.above y c (OY h)))
 ·unfold start
  show _=N.length
  rw [Og,Od,Ij]
  simp [*]
theorem fn_of {CX:CXT} {P:Program} {w:World} {K:Oa} {mg:Str->Option Value} {base:Heap} {k:Nat} {f:Addr} {name qual:Str} {params:Arguments} {body:List Stmt} {scope:Scope} {dV kV doc pm cdv ct oc:Value} {an od:Option Addr}
 {osl:Array (Option Value)} {N ps:List Str} {sp:Sp} (lk:K.lookup f=some ⟨oc,od,.func (PySem.W.fnOf name qual params body scope dV kV doc pm an cdv ct),osl⟩) (hcd:UO K cdv qual=true) (S:Zs N ps scope)
 (len:∀vs H Q E,sp vs H Q E->vs.length=ps.length)
 (hbody:∀(A:Around) (outer:List Env) (s:Shared) (H:Hp) (vs:List V) (Q:VK) (E:XK),Qa k (A.deeper (envOfC qual scope s.heap.objs.size f cdv))->sp vs H Q E->
  ∃t,PSs (cxOf CX P w K mg base N qual scope f cdv A outer s H E) body t/\t { nx:=fun _ H'=>Q .non H',rt:=Q } (start N vs) H) :
 FnOk P w K mg base CX (k + 1) f (PySem.W.fnOf name qual params body scope dV kV doc pm an cdv ct) ps sp:=by
 refine ⟨len,fun A outer s H args us vs Q E hr e0 hb r hsp=>?_⟩
 have hl:=len _ _ _ _ hsp
 have KX:K.In s.heap:=e0.mod.kin.keeps fun b o e=>(e0.bs b o e).1
 have lim:s.heap.NoLimit:=e0.mod.nolimit.keeps fun b o e=>(e0.bs b o e).1
 have hkind:∀y∈ps.zip us,scope.names.lookup y.1=some .local∨(scope.names.lookup y.1=some .cell/\((cellsFrom (s.heap.objs.size + 1) scope.names []).lookup y.1).isSome=true):=fun ⟨n,v⟩ hy=>by
  rcases S.par n (Th hy).1 with q | q
  ·exact .inl q
  ·exact .inr ⟨q,PySem.W.cellsFrom_some _ _ _ (.inl q)⟩
 refine codeAny_call_function hr.depth (KX _ _ lk) rfl S.co S.gen rfl (PySem.W.codeRec_of KX hcd) (hb _ _ _ _ ?_)
 refine wpAny_newFunctionEnv_cells S.kind hkind fun env he s1 x=>?_
 subst he
 refine ⟨lim.keeps x.toInCall.keep,codeAny_func ?_⟩
 obtain ⟨t,ht,hq⟩:=hbody A outer s H vs Q E (hr.deeper _) hsp
 have I:Inv (cxOf CX P w K mg base N qual scope f cdv A outer s H E) [] (start N vs) H s1:=inv_start S hr.hd e0 hl r x
 refine wpAny_mono (ht [] s1 (start N vs) H _ I hq) (fun fl s' hs=>?_) fun e s' hs=>hs
 have fin:∀{σ':St} {H':Hp} {v:V} {u:Value},Inv (cxOf CX P w K mg base N qual scope f cdv A outer s H E) [] σ' H' s'->YE v u->Q v H'->CE outer P w H s Q u s':=
  fun {σ' H' v u} J rv q=>⟨v,H',J.os,J.bare,J.base,J.hok,rv,q⟩
 cases fl with
 | ret u=>
  obtain ⟨v,σ',H',J,rv,q⟩:=hs
  exact fin J rv q
 | next=>
  obtain ⟨σ',H',J,q⟩:=hs
  exact fin (v:=V.non) (u:=Value.none) J rfl q
 | brk=>
  obtain ⟨_,_,_,q⟩:=hs
  exact False.elim q
 | cont=>
  obtain ⟨_,_,_,q⟩:=hs
  exact False.elim q
end L2
namespace L2
open PySem PySem.Spec PyProof.Rows
section
variable {X:Cx} {x:Str} {p pos:Pos} {e:Expr} {es:List Expr} {t:TA} {id T:String} {r:List V->Hp->VK->Prop}
def tCB (r:List V->Hp->VK->Prop) (t:TA):TE:=fun σ H Q=>t σ H fun vs H1=>r vs H1 Q
theorem ZL (hc:WZ X (.builtin id) r) (hg:Gl X x) (hm:X.mg x=none) (hv:bootBuiltins x=some (.builtin id)) (ha:PA X (e :: es) t) (hn:x≠"__name__":=by decide) (hdb:(x == ("__debug__":Str))=false:=by decide)
 (he:starEach (e :: es) X.env=(false,eval e X.env) :: starEach es X.env:=by rfl) (hpl:(backTo pos (starEach es X.env)).any (·.1)=false:=by rfl):PE X (.Call (.Name x p) (e :: es) [] pos) (tCB r t):=by
 intro pins s σ H Q I h
 refine wpAny_Call_Name_kw (QF I hg hm hv ?_ hn hdb)
 exact PyProof.Rows.callWith_builtin1 (thn (ha pos pins s σ H _ I h) fun us s1 ⟨vs,H1,I1,r1,q1⟩=>hc pins s1 σ H1 vs us Q I1 r1 q1) he hpl
theorem ZeS (hc:WZ X (.type T) r) (hg:Gl X x) (hm:X.mg x=none) (hv:bootBuiltins x=some (.type T)) (ha:PA X (e :: es) t) (hn:x≠"__name__":=by decide) (hdb:(x == ("__debug__":Str))=false:=by decide)
 (he:starEach (e :: es) X.env=(false,eval e X.env) :: starEach es X.env:=by rfl) (hpl:(backTo pos (starEach es X.env)).any (·.1)=false:=by rfl):PE X (.Call (.Name x p) (e :: es) [] pos) (tCB r t):=by
 intro pins s σ H Q I h
 refine wpAny_Call_Name_kw (QF I hg hm hv ?_ hn hdb)
 exact OQ (thn (ha pos pins s σ H _ I h) fun us s1 ⟨vs,H1,I1,r1,q1⟩=>hc pins s1 σ H1 vs us Q I1 r1 q1) he hpl
end
end L2
namespace HT
open PySem PyProof.Rows
section
open PySem.SeqAt
open PySem.AutoSeq1 (wpAny_loadPart')
open PySem.MeetsSeq PySem.MeetsSeq2 PySem.MeetsSeq3
end
section
variable {prog:Program} {w:World} {A:Around} {E:Value->Shared->Prop} {s:Shared}
def sIx (n d:Nat):Option Int->Nat
 | none=>d
 | some v=>if v < 0 then (v + (n:Int)).toNat else min v.toNat n
theorem sIx_none (n d:Nat):sIx n d none=d:=rfl
theorem sIx_nat (n d k:Nat):sIx n d (some (k:Int))=min k n:=by
 show (if (k:Int) < 0 then ((k:Int) + (n:Int)).toNat else min (k:Int).toNat n)=min k n
 rw [if_neg (by simp),Ot]
end
end HT
namespace L2
open PySem PySem.Spec PyProof.Rows
abbrev TO:=St->Hp->(Option Int->Hp->Prop)->Prop
def PO (X:Cx) (e:Option Expr) (t:TO):Prop:=
 ∀(pins:List (Addr×Obj)) (s:Shared) (σ:St) (H:Hp) (Q:Option Int->Hp->Prop),Inv X pins σ H s->t σ H Q->
  wpAny (model X.prog X.w) X.A (evalPart e X.env) (fun u s'=>∃o H',Inv X pins σ H' s'/\IsPart u o/\Q o H') X.xe s
def tNoPart:TO:=fun _ H Q=>Q none H
section
variable {X:Cx} {e:Expr} {te:TE} {lo hi:Option Expr} {tl th:TO} {pos p2:Pos}
theorem po_none:PO X none tNoPart:=by
 intro pins s σ H Q I h
 rw [evalPart_none]
 exact wpAny_pure ⟨none,H,I,.none,h⟩
def SlR (X:Cx) (r:V->Option Int->Option Int->Hp->VK->Prop):Prop:=
 ∀(pins:List (Addr×Obj)) (s:Shared) (σ:St) (H:Hp) (x:V) (v vl vu:Value) (lo hi:Option Int) (sl:Addr) (Q:VK),Inv X pins σ H s->YE x v->s.heap.IsSliceOf sl vl vu .none->IsPart vl lo->IsPart vu hi->r x lo hi H Q->
  ∃T id,typeLookup (.type T) "__getitem__"=pure (some (.builtin id))/\s.TypeIs v T/\wpAny (model X.prog X.w) X.A (getItem v (.ref sl)) (EP X pins σ Q) X.xe s
def tSl (r:V->Option Int->Option Int->Hp->VK->Prop) (te:TE) (tl th:TO):TE:=fun σ H Q=>te σ H fun x H1=>tl σ H1 fun l H2=>th σ H2 fun u H3=>r x l u H3 Q
theorem YI {r:V->Option Int->Option Int->Hp->VK->Prop} (hr:SlR X r) (he:PE X e te) (hl:PO X lo tl) (hu:PO X hi th):PE X (.Subscript e (.Slice lo hi none p2) pos) (tSl r te tl th):=by
 intro pins s σ H Q I h
 refine Subscript_ (thn (he pins s σ H _ I h) fun v s1 ⟨x,H1,I1,r1,q1⟩=>?_)
 refine wpAny_Slice (thn (hl pins s1 σ H1 _ I1 q1) fun vl s2 ⟨l,H2,I2,pl,q2⟩=>thn (hu pins s2 σ H2 _ I2 q2) fun vu s3 ⟨u,H3,I3,pu,q3⟩=>?_)
 rw [evalPart_none]
 refine wpAny_pure ?_
 have I4:Inv X pins σ H3 { s3 with heap:=s3.heap.push { cls:=.type "slice",data:=.fields #[vl,vu,.none] } }:=I3.kept (t':=s3.toks) fun b ob q=>Heap.get?_push_of_some _ q
 obtain ⟨T,id,hT,ht,hg⟩:=hr pins { s3 with heap:=s3.heap.push { cls:=.type "slice",data:=.fields #[vl,vu,.none] } } σ H3 x v vl vu l u s3.heap.objs.size Q I4 r1 (Heap.IsSliceOf.new ..) pl pu q3
 show wpAny (model X.prog X.w) X.A (subscriptTail e (.Slice lo hi none p2) v (.ref s3.heap.objs.size)) (EP X pins σ Q) X.xe { s3 with heap:=s3.heap.push { cls:=.type "slice",data:=.fields #[vl,vu,.none] } }
 exact tail_any (ops:=[.ref s3.heap.objs.size,v]) ht hT hg (by with_unfolding_all rfl)
def cutV (xs:List V) (lo hi:Option Int):List V:=(xs.drop (HT.sIx xs.length 0 lo)).take (HT.sIx xs.length xs.length hi - HT.sIx xs.length 0 lo)
theorem cutV_length (xs:List V) (lo hi:Option Int):(cutV xs lo hi).length<=xs.length:=by
 unfold cutV
 rw [OM,OS]
 omega
end
end L2
namespace L2
open PySem PySem.Spec PyProof.Rows
def ixN (n:Nat) (i:Int):Option Nat:=if 0<=i then (if i < n then some i.toNat else none) else if -(n:Int)<=i then some (i + n).toNat else none
def atI {α:Type} (xs:List α) (i:Int):Option α:=(ixN xs.length i).bind fun j=>xs[j]?
theorem ixN_seq {n:Nat} {i:Int} {j:Nat} (h:ixN n i=some j):seqIndex? i n=some j/\j < n/\-(n:Int)<=i/\i < n:=by
 unfold ixN at h
 by_cases h0:0<=i
 ·rw [if_pos h0] at h
  by_cases h1:i < n
  ·rw [if_pos h1] at h
   have e:i.toNat=j:=Option.some.inj h
   exact ⟨by rw [seqIndex_of h0 h1,e],by omega,by lia,h1⟩
  ·rw [if_neg h1] at h; cases h
 ·rw [if_neg h0] at h
  by_cases h1:-(n:Int)<=i
  ·rw [if_pos h1] at h
   have e:(i + n).toNat=j:=Option.some.inj h
   exact ⟨by rw [seqIndex_neg (by lia) h1,e],by lia,h1,by lia⟩
  ·rw [if_neg h1] at h; cases h
theorem atI_get {α:Type} {xs:List α} {i:Int} {v:α} (h:atI xs i=some v):∃j,seqIndex? i xs.length=some j/\xs[j]?=some v/\j < xs.length/\-(xs.length:Int)<=i/\i < xs.length:=by
 unfold atI at h
 cases e:ixN xs.length i with
 | none=>rw [e] at h; cases h
 | some j=>
  rw [e] at h
  obtain ⟨h1,h2,h3,h4⟩:=ixN_seq e
  exact ⟨j,h1,h,h2,h3,h4⟩
theorem ZdN {α:Type} {xs:List α} {j:Nat} {v:α} (h:xs[j]?=some v):atI xs (j:Int)=some v:=by
 have hj:j < xs.length:=(OB.mp h).1
 have e:ixN xs.length (j:Int)=some j:=by
  unfold ixN
  rw [if_pos (by exact O0 _),if_pos (by exact qw37)]; simp
 unfold atI; rw [e]; exact h
def PlainIx (b:Expr):Prop:=∀o i,subscripted b false o i=operate [o,i] (getItem o i)
def IxR (X:Cx) (r:R2):Prop:=
 ∀(value slice:Expr) (pins:List (Addr×Obj)) (s:Shared) (σ:St) (H:Hp) (x y:V) (v u:Value) (Q:VK),Inv X pins σ H s->YE x v->YE y u->r x y H Q->
  subscripted slice false v u=operate [v,u] (getItem v u)->wpAny (model X.prog X.w) X.A (subscriptTail value slice v u) (EP X pins σ Q) X.xe s
def MtR (X:Cx) (id:String) (r:V->List V->Hp->VK->Prop):Prop:=
 ∀(pins:List (Addr×Obj)) (s:Shared) (σ:St) (H:Hp) (x:V) (xs:List V) (v:Value) (us:List Value) (Q:VK),Inv X pins σ H s->YE x v->Z8 xs us->r x xs H Q->
  wpAny (model X.prog X.w) X.A (call (.builtin id) (v :: us)) (EP X pins σ Q) X.xe s
section
variable {X:Cx} {a b:Expr} {ta tb:TE} {pos:Pos}
theorem pe_ix {r:R2} (hr:IxR X r) (ha:PE X a ta) (hb:PE X b tb) (hs:PlainIx b):PE X (.Subscript a b pos) (tOp r ta tb):=by
 intro pins s σ H Q I h
 exact Subscript_ (binT ha hb I h fun v u s2 x y H2 I2 rx ry q=>hr a b pins s2 σ H2 x y v u Q I2 rx ry q (hs _ _))
def rIxL (K:Oa):R2:=fun x y H Q=>∃p xs i v,x=.ref p/\y=.int i/\SqL K H p xs/\atI xs i=some v/\Q v H
def rIxT (K:Oa):R2:=fun x y H Q=>∃p xs i v,x=.ref p/\y=.int i/\SqT K H p xs/\atI xs i=some v/\Q v H
theorem ix_list:IxR X (rIxL X.K):=by
 intro value slice pins s σ H x y v u Q I rx ry h hs
 obtain ⟨p,xs,i,z,rfl,rfl,hq,he,q⟩:=h
 cases rx
 obtain ⟨t,rfl⟩:=ry
 obtain ⟨its,r,pl,hz⟩:=I.list hq
 obtain ⟨j,h1,h2,h3,h4,h5⟩:=atI_get he
 obtain ⟨w,ew,rw'⟩:=r.get h2
 have hl:=r.length
 have hn:=line63
 have fin:EP X pins σ Q w s:=⟨z,H,I,rw',q⟩
 by_cases h0:0<=i
 ·have hj:i.toNat=j:=by
   rw [seqIndex_of h0 h5] at h1
   exact Option.some.inj h1
  exact item_listR pl.isList h0 (by lia) (by rw [hj]; simpa using ew) fin hs
 ·have hj:(i + (its.toArray.size:Int)).toNat=j:=by
   rw [seqIndex_neg (by lia) h4] at h1
   rw [OC,<- hl]
   exact Option.some.inj h1
  exact subscriptTail_builtinR (x:=w) pl.isList.typeIs slot_list_getitem.lookup
   (wpAny_getItem_list_neg (Q:=fun r s'=>r=w/\EP X pins σ Q r s') pl.isList (by omega) (by rw [OC] <;> lia) (by lia) (by rw [hj]; simpa using ew) ⟨rfl,fin⟩) hs
theorem ZeK:IxR X (rIxT X.K):=by
 intro value slice pins s σ H x y v u Q I rx ry h hs
 obtain ⟨p,xs,i,z,rfl,rfl,hq,he,q⟩:=h
 cases rx
 obtain ⟨t,rfl⟩:=ry
 obtain ⟨its,r,pl,hz⟩:=I.tuple hq
 obtain ⟨j,h1,h2,h3,h4,h5⟩:=atI_get he
 obtain ⟨w,ew,rw'⟩:=r.get h2
 have hl:=r.length
 have hn:=line63
 have fin:EP X pins σ Q w s:=⟨z,H,I,rw',q⟩
 exact subscriptTail_builtinR (x:=w) pl.typeIs slot_tuple_getitem.lookup
  (getItem_tuple (j:=j) (Q:=fun r s'=>r=w/\EP X pins σ Q r s') pl (by lia) (by lia) (by rw [OC,<- hl]; exact h1) (by simpa using ew) ⟨rfl,fin⟩) hs
theorem mapSeq_set (its:List Value) (n j:Nat) (u:Value):Obj.mapSeq (·.setIfInBounds j u) { cls:=.type "list",data:=.seq its.toArray n }={ cls:=.type "list",data:=.seq (its.set j u).toArray n }:=by
 simp [Obj.mapSeq]
theorem Inv.lst {pins:List (Addr×Obj)} {σ:St} {H:Hp} {s:Shared} {p:Addr} {xs:List V} (I:Inv X pins σ H s) (h:H p=some (.lst xs)) :
 ∃(its:List Value) (n:Nat),Z8 xs its/\s.heap.get? p=some { cls:=.type "list",data:=.seq its.toArray n }/\xs.length<=sizeLine:=by
 obtain ⟨z,its,n,r,e⟩:=I.hok p _ h
 exact ⟨its,n,r,e,z⟩
theorem Inv.lstUpd {pins:List (Addr×Obj)} {σ:St} {H:Hp} {s:Shared} {p:Addr} {xs ys:List V} {its its':List Value} {n n':Nat} {f:Obj->Obj} (I:Inv X pins σ H s) (h:H p=some (.lst xs))
 (ho:s.heap.get? p=some { cls:=.type "list",data:=.seq its.toArray n }) (hf:f { cls:=.type "list",data:=.seq its.toArray n }={ cls:=.type "list",data:=.seq its'.toArray n' }) (r:Z8 ys its') (hz:ys.length<=sizeLine) (t:Nat) :
 Inv X pins σ (upd H p (.lst ys)) { s with heap:=s.heap.update p f,toks:=t }:=by
 have e:(s.heap.update p f).get? p=some { cls:=.type "list",data:=.seq its'.toArray n' }:=by
  rw [Heap.get?_update_self f ho (by rw [hf] <;> rfl),hf]
 refine I.write (x:=p) (e:=p) (by rw [h]; trivial) (.inl rfl) (fun b u hb q=>(Heap.get?_update_other _ _ (Ne.symm hb)).trans q) ⟨_,e⟩ ?_
 exact ⟨hz,its',n',r,e⟩
def rSetL:V->V->V->Hp->(Hp->Prop)->Prop:=fun o i v H Q=>∃p xs k j,o=.ref p/\i=.int k/\H p=some (.lst xs)/\ixN xs.length k=some j/\Q (upd H p (.lst (xs.set j v)))
theorem Zef:PSet X rSetL:=by
 intro pins s σ H o i v ov iv u Q I ro ri rv h
 obtain ⟨p,xs,k,j,rfl,rfl,hp,hj,q⟩:=h
 cases ro
 obtain ⟨t,rfl⟩:=ri
 obtain ⟨its,n,r,ho,hz⟩:=I.lst hp
 obtain ⟨h1,h2,h3,h4⟩:=ixN_seq hj
 have hl:=r.length
 have hn:=line63
 have I':Inv X pins σ (upd H p (.lst (xs.set j v))) { s with heap:=s.heap.update p (Obj.mapSeq (·.setIfInBounds j u)) }:=
  I.lstUpd hp ho (mapSeq_set its n j u) (r.set rv j) (by rw [IF]; exact hz) s.toks
 by_cases h0:0<=k
 ·have hk:k.toNat=j:=by
   rw [seqIndex_of h0 h4] at h1
   exact Option.some.inj h1
  exact PySem.W.ki_setAt ho h0 (by lia) (by rw [OC,<- hl]; exact h4) (by rw [hk]; exact ⟨_,I',q⟩)
 ·have hk:(k + (its.toArray.size:Int)).toNat=j:=by
   rw [seqIndex_neg (by lia) h3] at h1
   rw [OC,<- hl]
   exact Option.some.inj h1
  exact PySem.W.ki_setBack ho (by omega) (by rw [OC,<- hl]; exact h3) (by lia) (by rw [hk]; exact ⟨_,I',q⟩)
theorem slice_bounds (lo hi:Option Int) (n:Nat):(sliceBounds lo hi none n).1=((HT.sIx n 0 lo:Nat):Int)/\(sliceBounds lo hi none n).2.1=((HT.sIx n n hi:Nat):Int)/\(sliceBounds lo hi none n).2.2=1:=by
 refine ⟨?_,?_,rfl⟩
 ·cases lo with
  | none=>simp [sliceBounds,HT.sIx]
  | some i=>
   simp only [sliceBounds,HT.sIx,Option.getD_none,show (1:Int) > 0 by decide,if_true]
   by_cases h:i < 0
   ·simp only [h,if_true] <;> lia
   ·simp only [h,if_false] <;> lia
 ·cases hi with
  | none=>simp [sliceBounds,HT.sIx]
  | some i=>
   simp only [sliceBounds,HT.sIx,Option.getD_none,show (1:Int) > 0 by decide,if_true]
   by_cases h:i < 0
   ·simp only [h,if_true] <;> omega
   ·simp only [h,if_false] <;> omega
theorem Zg3 (its:List Value) (lo hi:Option Int):slicePick its.toArray lo hi none=((its.drop (HT.sIx its.length 0 lo)).take (HT.sIx its.length its.length hi - HT.sIx its.length 0 lo)).toArray:=by
 obtain ⟨h1,h2,h3⟩:=slice_bounds lo hi its.toArray.size
 unfold slicePick
 rw [h1,h2,h3]
 simp only [sliceRange_one,pick_run,OC] <;> rfl
def rSlL (K:Oa):V->Option Int->Option Int->Hp->VK->Prop:=fun x lo hi H Q=>∃a xs,x=.ref a/\SqL K H a xs/\∀p,H p=none->Q (.ref p) (upd H p (.lst (cutV xs lo hi)))
theorem sl_list:SlR X (rSlL X.K):=by
 intro pins s σ H x v vl vu lo hi sl Q I rx hs pl pu h
 obtain ⟨a,xs,rfl,hx,q⟩:=h
 cases rx
 obtain ⟨its,r,ht,hz⟩:=I.list hx
 have hlen:=r.length
 refine ⟨"list",_,slot_list_getitem.lookup,ht.isList.typeIs,?_⟩
 refine wpAny_getItem_list_slice ht.isList hs pl pu .none (by simp) ?_ (by rw [OC] <;> lia)
 rw [Zg3,<- hlen]
 refine ⟨.ref s.heap.objs.size,_,I.laid (t':=s.toks) (o:=.lst (cutV xs lo hi)) (fun b ob q=>Heap.get?_push_of_some _ q) (Oq _) ?_,rfl,q _ (I.hok.fresh (Oq _))⟩
 exact ⟨OD (cutV_length xs lo hi) hz,_,0,(r.drop (HT.sIx xs.length 0 lo)).take (HT.sIx xs.length xs.length hi - HT.sIx xs.length 0 lo),Heap.get?_push_size _ rfl⟩
def flatV:V->Bool
 | .non=>true
 | .bl _=>true
 | .int _=>true
 | .str _=>true
 | _=>false
def eqV:V->V->Bool
 | .non,.non=>true
 | .bl a,.bl b=>a == b
 | .bl a,.int b=>(if a then 1 else 0) == b
 | .int a,.bl b=>a == (if b then 1 else 0)
 | .int a,.int b=>a == b
 | .str a,.str b=>a == b
 | _,_=>false
theorem eqAt_V {A:Around} {s:Shared} {y x:V} {u v:Value} (ry:YE y u) (rx:YE x v) (fy:flatV y=true) (fx:flatV x=true):SeqAt.EqAt A s u v (eqV y x):=by
 cases y with
 | non=>
  cases ry
  cases x with
  | non=>cases rx; exact SeqAt.EqAt.same _
  | bl b=>cases rx; exact SeqAt.EqAt.none_bool b
  | int b=>obtain ⟨t,rfl⟩:=rx; exact SeqAt.EqAt.none_int b t
  | str b=>obtain ⟨t,rfl⟩:=rx; exact SeqAt.EqAt.none_str b t
  | _=>exact absurd (show false=true from fx) Oo
 | bl a=>
  cases ry
  cases x with
  | non=>cases rx; exact SeqAt.EqAt.bool_none a
  | bl b=>cases rx; exact SeqAt.EqAt.bool_bool a b
  | int b=>obtain ⟨t,rfl⟩:=rx; exact SeqAt.EqAt.bool_int a b t
  | str b=>obtain ⟨t,rfl⟩:=rx; exact SeqAt.EqAt.bool_str a b t
  | _=>exact absurd (show false=true from fx) Oo
 | int a=>
  obtain ⟨t',rfl⟩:=ry
  cases x with
  | non=>cases rx; exact SeqAt.EqAt.int_none a t'
  | bl b=>cases rx; exact SeqAt.EqAt.int_bool a t' b
  | int b=>obtain ⟨t,rfl⟩:=rx; exact SeqAt.EqAt.int_int a t' b t
  | str b=>obtain ⟨t,rfl⟩:=rx; exact SeqAt.EqAt.int_str a t' b t
  | _=>exact absurd (show false=true from fx) Oo
 | str a=>
  obtain ⟨t',rfl⟩:=ry
  cases x with
  | non=>cases rx; exact SeqAt.EqAt.str_none a t'
  | bl b=>cases rx; exact SeqAt.EqAt.str_bool a t' b
  | int b=>obtain ⟨t,rfl⟩:=rx; exact SeqAt.EqAt.str_int a t' b t
  | str b=>obtain ⟨t,rfl⟩:=rx; exact SeqAt.EqAt.str_str a t' b t
  | _=>exact absurd (show false=true from fx) Oo
 | _=>exact absurd (show false=true from fy) Oo
def eqU (x:V) (u:Value):Bool:=match u with
 | .none=>eqV .non x
 | .bool b=>eqV (.bl b) x
 | .int i _=>eqV (.int i) x
 | .str z _=>eqV (.str z) x
 | _=>false
theorem eqU_of {x y:V} {u:Value} (r:YE y u) (f:flatV y=true):eqU x u=eqV y x:=by
 cases y with
 | non=>cases r; rfl
 | bl b=>cases r; rfl
 | int i=>obtain ⟨t,rfl⟩:=r; rfl
 | str z=>obtain ⟨t,rfl⟩:=r; rfl
 | _=>exact absurd (show false=true from f) Oo
theorem any_eqU {x:V}:∀{xs:List V} {us:List Value},Z8 xs us->xs.all flatV=true->us.any (eqU x)=xs.any fun y=>eqV y x
 | _,_,.nil,_=>rfl
 | y :: xs,u :: us,.cons r t,f=>by
  rw [VT,Oj] at f
  rw [List.any_cons,List.any_cons,eqU_of r f.1,any_eqU t f.2]
theorem Zf5 {A:Around} {s:Shared} {x:V} {v:Value} (rx:YE x v) (fx:flatV x=true):∀{xs:List V} {us:List Value},Z8 xs us->xs.all flatV=true->∀u∈us,SeqAt.EqAt A s u v (eqU x u)
 | _,_,.nil,_=>fun u hu=>by cases hu
 | y :: xs,u :: us,.cons r t,f=>fun u' hu=>by
  rw [VT,Oj] at f
  rcases ON.mp hu with rfl | hu
  ·rw [eqU_of r f.1]; exact eqAt_V r rx f.1 fx
  ·exact Zf5 rx fx t f.2 u' hu
def inV (x:V) (xs:List V):Bool:=xs.any fun y=>eqV y x
def rIn (K:Oa) (neg:Bool):R2:=fun x y H Q=>∃p xs,y=.ref p/\(SqL K H p xs∨SqT K H p xs)/\flatV x=true/\xs.all flatV=true/\Q (.bl (if neg then !inV x xs else inV x xs)) H
theorem op_in_seq:OpR X (compareOp .In) (rIn X.K false):=by
 intro pins s σ H x y v u Q I rx ry h
 obtain ⟨p,xs,rfl,hq,fx,fs,q⟩:=h
 cases ry
 rcases hq with hq | hq
 ·obtain ⟨its,r,pl,hz⟩:=I.list hq
  refine SeqAt.in_listAt (eqU x) pl.isList (fun w hw=>Zf5 rx fx r fs w (by simpa using hw)) ⟨.bl _,H,I,rfl,?_⟩
  rw [show its.toArray.any (eqU x)=its.any (eqU x) by simp,any_eqU r fs]
  exact q
 ·obtain ⟨its,r,pl,hz⟩:=I.tuple hq
  refine SeqAt.in_tupleAt (eqU x) pl (fun w hw=>Zf5 rx fx r fs w (by simpa using hw)) ⟨.bl _,H,I,rfl,?_⟩
  rw [show its.toArray.any (eqU x)=its.any (eqU x) by simp,any_eqU r fs]
  exact q
theorem ZdS:WZ X (.builtin "len") (fun xs H Q=>∃p ys,xs=[.ref p]/\(SqL X.K H p ys∨SqT X.K H p ys)/\Q (.int ys.length) H):=by
 intro pins s σ H xs us Q I r h
 obtain ⟨p,ys,rfl,hq,q⟩:=h
 obtain ⟨u,rfl,rx⟩:=Zep r
 cases rx
 have hn:=line63
 rcases hq with hq | hq
 ·obtain ⟨its,r',pl,hz⟩:=I.list hq
  have hlen:=r'.length
  exact Calls.call_len_list pl.isList (by simp only [OC] <;> lia) ⟨.int ys.length,H,I.tok _,⟨s.toks + 1,by rw [OC,hlen]⟩,q⟩
 ·obtain ⟨its,r',pl,hz⟩:=I.tuple hq
  have hlen:=r'.length
  exact len_tuple pl (by simp only [OC] <;> omega) ⟨.int ys.length,H,I.tok _,⟨s.toks + 1,by rw [OC,hlen]⟩,q⟩
theorem ZdT:WZ X (.type "list") (fun xs H Q=>∃p ys,xs=[.ref p]/\(SqL X.K H p ys∨SqT X.K H p ys)/\∀l,H l=none->Q (.ref l) (upd H l (.lst ys))):=by
 intro pins s σ H xs us Q I r h
 obtain ⟨p,ys,rfl,hq,q⟩:=h
 obtain ⟨u,rfl,rx⟩:=Zep r
 cases rx
 have fin:∀(its:List Value),Z8 ys its->ys.length<=sizeLine->∀(h':Heap) (c':Nat),(∀b o',s.heap.get? b=some o'->h'.get? b=some o')->
  h'.get? s.heap.objs.size=some { cls:=.type "list",dict:=none,data:=.seq its.toArray c',slots:=#[] }->EP X pins σ Q (.ref s.heap.objs.size) { s with heap:=h' }:=fun its r' hz h' c' kp e=>
  ⟨.ref s.heap.objs.size,_,I.laid (t':=s.toks) kp (Oq _) (show W0 X.prog X.w _ h' _ (.lst ys) from ⟨hz,its,c',r',e⟩),rfl,q _ (I.hok.fresh (Oq _))⟩
 rcases hq with hq | hq
 ·obtain ⟨its,r',pl,hz⟩:=I.list hq
  have hlen:=r'.length
  obtain ⟨o,ho,hc,n,hd⟩:=pl.isList
  exact call_list_seq p (.inl rfl) ho hc hd (fun h' c' kp e=>fin its r' hz h' c' kp e) (by simp only [OC] <;> omega)
 ·obtain ⟨its,r',pl,hz⟩:=I.tuple hq
  have hlen:=r'.length
  obtain ⟨o,ho,hc,n,hd⟩:=pl
  exact call_list_seq p (.inr rfl) ho hc hd (fun h' c' kp e=>fin its r' hz h' c' kp e) (by simp only [OC] <;> omega)
def tyV (K:Oa) (T:String) (x:V) (H:Hp):Prop:=match x with
 | .str _=>T="str"
 | .int _=>T="int"
 | .ref p=>(T="list"/\∃xs,SqL K H p xs)∨(T="tuple"/\∃o,K.lookup p=some o/\o.cls=.type "tuple"/\o.dict=none)∨
  (T="dict"/\((∃kvs,H p=some (.dK kvs))∨∃kvs,H p=some (.dT kvs)))∨(T="set"/\∃S n,H p=some (.set S n))
 | _=>False
theorem tyV_is {pins:List (Addr×Obj)} {σ:St} {H:Hp} {s:Shared} {T:String} {x:V} {v:Value} (I:Inv X pins σ H s) (r:YE x v) (ty:tyV X.K T x H) :
 s.TypeIs v T/\∀a,v=.ref a->∃ob,s.heap.get? a=some ob/\ob.dict=none:=by
 cases x with
 | str z=>
  obtain ⟨t,rfl⟩:=r
  cases (show T="str" from ty)
  exact ⟨typeIs_str s z t,fun _ e=>nomatch e⟩
 | int i=>
  obtain ⟨t,rfl⟩:=r
  cases (show T="int" from ty)
  exact ⟨typeIs_int s i t,fun _ e=>nomatch e⟩
 | ref p=>
  cases r
  rcases ty with ⟨rfl,xs,hq⟩ | ⟨rfl,o,hk,hc,hd⟩ | ⟨rfl,hk⟩ | ⟨rfl,S,n,hk⟩
  ·obtain ⟨its,_,pl,_⟩:=I.list hq
   refine ⟨pl.isList.typeIs,fun a e=>?_⟩
   cases e
   obtain ⟨o,n,e,c,hd,_⟩:=pl
   exact ⟨o,e,hd⟩
  ·refine ⟨⟨o,I.kIn p o hk,hc⟩,fun a e=>?_⟩
   cases e
   exact ⟨o,I.kIn _ o hk,hd⟩
  ·have z:∃o,s.heap.get? p=some o/\o.ExactDict:=by
    rcases hk with ⟨kvs,hk⟩ | ⟨kvs,hk⟩
    ·obtain ⟨_,_,_,_,o,_,_,e,ex,_⟩:=I.hok p _ hk
     exact ⟨o,e,ex⟩
    ·obtain ⟨_,_,_,_,o,_,_,e,ex,_⟩:=I.hok p _ hk
     exact ⟨o,e,ex⟩
   obtain ⟨o,e,ex⟩:=z
   refine ⟨⟨o,e,ex.1⟩,fun a e2=>?_⟩
   cases e2
   exact ⟨o,e,ex.2.1⟩
  ·obtain ⟨o,_,_,_,e,ex,_⟩:=I.hok p _ hk
   refine ⟨⟨o,e,ex.1⟩,fun a e2=>?_⟩
   cases e2
   exact ⟨o,e,ex.2.1⟩
 | _=>exact False.elim ty
def tBM (K:Oa) (T:String) (r:V->List V->Hp->VK->Prop) (to:TE) (t:TA):TE:=fun σ H Q=>to σ H fun x H1=>tyV K T x H1/\t σ H1 fun xs H2=>r x xs H2 Q
variable {o e:Expr} {es:List Expr} {to:TE} {t:TA} {name:Str} {apos cpos:Pos} {T id:String} {r:V->List V->Hp->VK->Prop}
theorem Ji (pa:PlainAttrs T) (slot:Slot T name id) (hty:typeOf (.builtin id)=pure (.type "method_descriptor")) (hm:MtR X id r) (ho:PE X o to) (ha:PA X (e :: es) t)
 (hbase:attributeBase o name X.env (eval o X.env)=eval o X.env:=by rfl)
 (hfew:((backTo cpos (starEach (e :: es) X.env)).all (fun x=>!x.1) && (backToKw cpos (keywordEach [] X.env)).all (fun x=>x.1.isSome)
  && decide ((e :: es).length + ([]:List Keyword).length + (if ([]:List Keyword).isEmpty then 0 else 1) < 30))=true:=by rfl)
 (hline:(apos.endLine == cpos.line)=true:=by rfl) (hs:starEach (e :: es) X.env=(false,eval e X.env) :: starEach es X.env:=by rfl) (hplain:(backTo cpos (starEach es X.env)).any (·.1)=false:=by rfl) :
 PE X (.Call (.Attribute o name apos) (e :: es) [] cpos) (tBM X.K T r to t):=by
 intro pins s σ H Q I h
 refine wpAny_Call_method_late hbase hfew hline rfl (thn (ho pins s σ H _ I h) fun v s1 ⟨x,H1,I1,r1,ty,q1⟩=>?_)
 obtain ⟨h1,h2⟩:=tyV_is I1 r1 ty
 refine ⟨T,id,pa,slot,hty,h1,h2,?_⟩
 have hA:=ha cpos pins s1 σ H1 _ I1 q1
 rw [hs] at hA ⊢
 refine Calls.callWith_builtin (by show (false || (backTo cpos (starEach es X.env)).any (·.1))=false; rw [hplain] <;> rfl) (Calls.evalArgs_plain ?_)
 exact thn hA fun us s2 ⟨vs,H2,I2,r2,q2⟩=>hm pins s2 σ H2 x vs v us Q I2 r1 r2 q2
end
end L2
namespace L2
open PySem PySem.Spec PyProof.Rows
def MtM (X:Cx) (id:String) (r:V->List V->Hp->VK->Prop):Prop:=
 ∀(pins:List (Addr×Obj)) (s:Shared) (σ:St) (H:Hp) (x:V) (xs:List V) (v:Value) (us:List Value) (Q:VK),Inv X pins σ H s->YE x v->Z8 xs us->r x xs H Q->
  wpAny (model X.prog X.w) X.A (call (.builtin id) (v :: us)) (EP X pins σ Q) X.xe s
theorem Z8.one:∀{x:V} {us:List Value},Z8 [x] us->∃u,us=[u]/\YE x u
 | _,_,.cons r .nil=>⟨_,rfl,r⟩
theorem Z8.eraseIdx:∀{xs:List V} {us:List Value} (i:Nat),Z8 xs us->Z8 (xs.eraseIdx i) (us.eraseIdx i)
 | _,_,_,.nil=>.nil
 | _,_,0,.cons _ t=>t
 | _,_,i + 1,.cons r t=>.cons r (Z8.eraseIdx i t)
theorem Z8.rep {xs:List V} {us:List Value} (h:Z8 xs us):∀k:Nat,Z8 (Ou k xs).flatten (Ou k us).flatten
 | 0=>.nil
 | k + 1=>by
  rw [Uv,Uv,Ut,Ut]
  exact Z8.append h (Z8.rep h k)
theorem len_erase {α:Type}:∀(l:List α) (i:Nat),(l.eraseIdx i).length<=l.length
 | [],_=>Oq _
 | _ :: _,0=>Nat.le_succ _
 | _ :: r,i + 1=>Nat.succ_le_succ (len_erase r i)
theorem foldl_rep (its:List Value):∀(k:Nat) (acc:List Value),
 List.foldl (fun x1 x2=>x1 ++ x2) acc.toArray (Ou k its.toArray)=(acc ++ (Ou k its).flatten).toArray
 | 0,acc=>by simp
 | k + 1,acc=>by
  have e:acc.toArray ++ its.toArray=(acc ++ its).toArray:=by simp
  have e2:(acc ++ its) ++ (Ou k its).flatten=acc ++ (Ou (k + 1) its).flatten:=by
   rw [Uv,Ut,O7]
  rw [<- e2,<- foldl_rep its k (acc ++ its),<- e,Uv,Ig]
section
variable {X:Cx} {pins:List (Addr×Obj)} {σ:St} {H:Hp} {s:Shared} {l b:Addr} {xs ys zs:List V}
theorem Inv.lset {its its':List Value} {n:Nat} {f:Array Value->Array Value} {t':Nat} (I:Inv X pins σ H s) (hH:H l=some (.lst xs))
 (e:s.heap.get? l=some { cls:=.type "list",data:=.seq its.toArray n }) (hf:f its.toArray=its'.toArray) (hv:Z8 ys its') (hz:ys.length<=sizeLine) :
 Inv X pins σ (upd H l (.lst ys)) { s with heap:=s.heap.update l (Obj.mapSeq f),toks:=t' }:=by
 have q:=PySem.IsL.update e f
 rw [hf] at q
 refine I.write (x:=l) (e:=l) (by rw [hH]; exact trivial) (.inl rfl) (fun b' u hb hu=>(Heap.get?_update_other s.heap (Obj.mapSeq f) (Ne.symm hb)).trans hu) ⟨_,q⟩ ?_
 exact ⟨hz,its',_,hv,q⟩
theorem Inv.lnew {its:List Value} {t':Nat} (I:Inv X pins σ H s) (hv:Z8 ys its) (hz:ys.length<=sizeLine) :
 Inv X pins σ (upd H s.heap.objs.size (.lst ys)) { s with heap:=s.heap.push { cls:=.type "list",data:=.seq its.toArray },toks:=t' }:=
 I.laid (fun _ _ q=>Heap.get?_push_of_some _ q) (Oq _) ⟨hz,its,0,hv,Heap.get?_push_size _ rfl⟩
theorem Inv.fresh (I:Inv X pins σ H s):H s.heap.objs.size=none:=I.hok.fresh (Oq _)
theorem Inv.lstM (I:Inv X pins σ H s) (hH:H l=some (.lst xs)):xs.length<=sizeLine/\∃(its:List Value) (n:Nat),Z8 xs its/\xs.length=its.length/\s.heap.get? l=some { cls:=.type "list",data:=.seq its.toArray n }:=by
 obtain ⟨z,its,n,r,e⟩:=I.hok l _ hH
 exact ⟨z,its,n,r,r.length,e⟩
theorem notLongL {n:Nat} (h:n<=sizeLine):Builtin.List.listTooLong n=false:=by
 unfold Builtin.List.listTooLong
 exact decide_eq_false (by simp [*])
end
section
variable {X:Cx}
def rAppend:V->List V->Hp->VK->Prop:=fun x vs H Q=>∃l xs y,x=.ref l/\vs=[y]/\H l=some (.lst xs)/\xs.length < sizeLine/\Q .non (upd H l (.lst (xs ++ [y])))
theorem Zbd:MtM X "list.append" rAppend:=by
 intro pins s σ H x vs v us Q I rx rv h
 obtain ⟨l,xs,y,rfl,rfl,hH,hz,q⟩:=h
 cases rx
 obtain ⟨u,rfl,ru⟩:=rv.one
 obtain ⟨z,its,n,r,hl,e⟩:=I.lstM hH
 refine call_meets F.slot_list_append ⟨_,e,rfl⟩ F.entry_list_append (F.args_list_append_2 _ _) (PySem.list_append l its.toArray n u (by rw [OC]; lia)) ⟨e,?_⟩
 refine ⟨.non,_,I.lset (its':=its ++ [u]) hH e (by simp) (r.append (.cons ru .nil)) ?_,rfl,q⟩
 rw [Og,Uk]
 exact qw14
def rExtend:V->List V->Hp->VK->Prop:=fun x vs H Q=>∃l b xs zs,x=.ref l/\vs=[.ref b]/\H l=some (.lst xs)/\H b=some (.lst zs)/\xs.length + zs.length<=sizeLine/\Q .non (upd H l (.lst (xs ++ zs)))
theorem Xz:MtM X "list.extend" rExtend:=by
 intro pins s σ H x vs v us Q I rx rv h
 obtain ⟨l,b,xs,zs,rfl,rfl,hH,hB,hz,q⟩:=h
 cases rx
 obtain ⟨u,rfl,ru⟩:=rv.one
 cases ru
 obtain ⟨z,its,n,r,hl,e⟩:=I.lstM hH
 obtain ⟨z2,its2,n2,r2,hl2,e2⟩:=I.lstM hB
 have hsz:its.toArray.size + its2.toArray.size<=sizeLine:=by rw [OC,OC]; lia
 have hlong:¬ (!its.toArray.isEmpty && Builtin.List.listTooLong (its.toArray.size + its2.toArray.size))=true:=by
  rw [notLongL hsz,Bool.and_false]
  exact Oo
 refine call_meets F.slot_list_extend ⟨_,e,rfl⟩ F.entry_list_extend (F.args_list_extend_2 _ _)
  (AutoSeq1.list_extend_list_list_0 l its.toArray n b its2.toArray n2 hlong (by rw [OC]; lia) (by exact qw41)) ⟨e,e2,?_⟩
 refine ⟨.non,_,I.lset (its':=its ++ its2) hH e (by simp) (r.append r2) ?_,rfl,q⟩
 rw [Og]
 omega
def rPopAt:V->List V->Hp->VK->Prop:=fun x vs H Q=>∃l xs i k y,x=.ref l/\vs=[.int i]/\H l=some (.lst xs)/\-(2 ^ 63)<=i/\i < 2 ^ 63/\seqIndex? i xs.length=some k/\xs[k]?=some y/\Q y (upd H l (.lst (xs.eraseIdx k)))
theorem mt_popAt:MtM X "list.pop" rPopAt:=by
 intro pins s σ H x vs v us Q I rx rv h
 obtain ⟨l,xs,i,k,y,rfl,rfl,hH,h1,h2,hk,hy,q⟩:=h
 cases rx
 obtain ⟨u,rfl,ru⟩:=rv.one
 obtain ⟨t,rfl⟩:=ru
 obtain ⟨z,its,n,r,hl,e⟩:=I.lstM hH
 obtain ⟨w,hw,rw'⟩:=r.get hy
 refine call_meets F.slot_list_pop ⟨_,e,rfl⟩ F.entry_list_pop (F.args_list_pop_2 _ _)
  (MeetsSeq.list_pop_at l its.toArray n i t k w (fitsIndex_both h1 h2) (by rw [OC,<- hl]; exact hk) (by rw [<- Array.getElem?_toList]; exact hw) (by rw [OC]; lia)) ⟨e,?_⟩
 refine ⟨y,_,I.lset (its':=its.eraseIdx k) hH e ?_ (r.eraseIdx k) ?_,rw',q⟩
 ·show its.toArray.eraseIdxIfInBounds k=(its.eraseIdx k).toArray
  rw [List.eraseIdxIfInBounds_toArray]
 ·have:=len_erase xs k
  lia
def rCat:R2:=fun x y H Q=>∃l b xs zs,x=.ref l/\y=.ref b/\H l=some (.lst xs)/\H b=some (.lst zs)/\xs.length + zs.length<=sizeLine/\∀p,H p=none->Q (.ref p) (upd H p (.lst (xs ++ zs)))
theorem Xp:OpR X (binaryOp .Add) rCat:=by
 intro pins s σ H x y v u Q I rx ry h
 obtain ⟨l,b,xs,zs,rfl,rfl,hH,hB,hz,q⟩:=h
 cases rx
 cases ry
 obtain ⟨z,its,n,r,hl,e⟩:=I.lstM hH
 obtain ⟨z2,its2,n2,r2,hl2,e2⟩:=I.lstM hB
 refine PySem.P.add_list e e2 ?_ (by rw [OC,OC]; omega)
 have ea:its.toArray ++ its2.toArray=(its ++ its2).toArray:=by simp
 rw [ea]
 exact ⟨.ref _,_,I.lnew (t':=s.toks) (r.append r2) (by rw [Og]; omega),rfl,q _ I.fresh⟩
def rRep:R2:=fun x y H Q=>∃l k xs,x=.ref l/\y=.int k/\H l=some (.lst xs)/\-(2 ^ 63)<=k/\k < 2 ^ 63/\xs.length * k.toNat<=sizeLine/\
 ∀p,H p=none->Q (.ref p) (upd H p (.lst (Ou k.toNat xs).flatten))
theorem len_rep {α:Type} (xs:List α) (k:Nat):(Ou k xs).flatten.length=k * xs.length:=by
 induction k with
 | zero=>simp
 | succ k ih=>rw [Uv,Ut,Og,ih,Nat.succ_mul,IU]
theorem ZeQ:OpR X (binaryOp .Mult) rRep:=by
 intro pins s σ H x y v u Q I rx ry h
 obtain ⟨l,k,xs,rfl,rfl,hH,h1,h2,hz,q⟩:=h
 cases rx
 obtain ⟨t,rfl⟩:=ry
 obtain ⟨z,its,n,r,hl,e⟩:=I.lstM hH
 have hlen:its.toArray.size * k.toNat<=sizeLine:=by rw [OC,<- hl]; exact hz
 have hcap:¬ its.toArray.size * k.toNat > (2 ^ 63 - 1) / 8:=by
  have:(sizeLine:Nat)<=(2 ^ 63 - 1) / 8:=by decide
  lia
 have hfit:¬ (!Builtin.List.listFitsIndex k)=true:=by
  rw [fitsIndex_both h1 h2]
  exact Oo
 have hlong:¬ Builtin.List.listTooLong (its.toArray.size * k.toNat)=true:=by
  rw [notLongL hlen]
  exact Oo
 have hnew:List.foldl (fun x1 x2=>x1 ++ x2) #[] (Ou (if its.toArray.isEmpty=true then 0 else k.toNat) its.toArray)=(Ou k.toNat its).flatten.toArray:=by
  have f0:∀m:Nat,List.foldl (fun x1 x2=>x1 ++ x2) #[] (Ou m its.toArray)=(Ou m its).flatten.toArray:=fun m=>by
   have:=foldl_rep its m []
   rw [Vz] at this
   exact this
  rw [f0]
  cases its with
  | nil=>simp
  | cons a r'=>rw [if_neg (by simp)]
 refine wpAny_binaryOp_repeat_ref (T:="list") (U:="int") (by decide) ⟨_,e,rfl⟩ (fun s'=>typeIs_int s' k t) noFill_list_mul F.fills_int_mul F.slot_int_rmul repeat_list F.slot_int_index.lookup
  (call_meets F.slot_int_rmul (typeIs_int s k t) F.entry_int_rmul (F.args_int_rmul_2 _ _) (int___rmul___int_list k t l its.toArray n)
   ⟨e,rfl,⟨_,e,rfl⟩,call_meets F.slot_list_mul ⟨_,e,rfl⟩ F.entry_list_mul (F.args_list_mul_2 _ _) (AutoListH.list___mul___list_int_3 l its.toArray n k t hfit hcap hlong) ⟨e,?_⟩⟩)
 rw [hnew]
 exact ⟨.ref _,_,I.lnew (t':=s.toks) (r.rep k.toNat) (by rw [len_rep,O3]; exact hz),rfl,q _ I.fresh⟩
end
section
variable {prog:Program} {w:World} {A:Around} {E:Value->Shared->Prop} {s:Shared}
set_option maxRecDepth 100000 in
end
section
variable {X:Cx}
end
end L2
namespace L2
open PySem PySem.Spec PyProof.Rows
theorem Z8.ints:∀{ns:List Int} {us:List Value},Z8 (ns.map V.int) us->IntsAre us ns
 | [],us,h=>by
  rw [Vx] at h
  cases h
  exact IntsAre.nil
 | n :: ns,us,h=>by
  rw [Ie] at h
  cases h with
  | cons r t=>
   obtain ⟨k,rfl⟩:=r
   exact IntsAre.cons n k (Z8.ints t)
theorem Z8.ref1 {a:Addr} {us:List Value} (r:Z8 [V.ref a] us):us=[Value.ref a]:=by
 cases r with
 | cons r t=>
  cases t
  cases r
  rfl
section
variable {prog:Program} {w:World} {A:Around} {E:Value->Shared->Prop} {s:Shared} {l:Addr} {its:List Value} {ns:List Int} {Q:Value->Shared->Prop}
theorem max_raw (hh:A.handled=none) (hl:s.heap.IsList l its.toArray) (hi:IntsAre its ns) (hne:0 < ns.length)
 (h:∀h' tk M t',(∀b o,s.heap.get? b=some o->h'.get? b=some o)->M∈ns->(∀a,a∈ns->a<=M)->Q (.int M t') { s with heap:=h',toks:=tk }):wpAny (model prog w) A (call (.builtin "max") [.ref l]) Q E s:=by
 obtain ⟨xs,e⟩:=hi.allInts.items
 have hn:numsOf (intItems xs).toList=ns:=by rw [<- e]; exact hi.numsOf
 rw [nums_intItems] at hn
 subst hn
 rw [e] at hl
 have hsz:0 < xs.size:=by simpa using hne
 refine PySem.max_intList hh hl hsz fun v h' tk hv hk=>?_
 obtain ⟨t,rfl⟩:=intItems_at hv
 obtain ⟨h1,h2⟩:=argBest_gt (numAt xs) (xs.size - 1)
 refine h h' tk _ t hk ?_ fun a ha=>?_
 ·rw [numAt_eq]; exact PySem.getD_mem (by rw [Od,Array.length_toList]; omega)
 ·obtain ⟨j,hj,rfl⟩:=mem_getD ha
  rw [Od,Array.length_toList] at hj
  rw [<- numAt_eq]; exact h2 j (by lia)
theorem min_raw (hh:A.handled=none) (hl:s.heap.IsList l its.toArray) (hi:IntsAre its ns) (hne:0 < ns.length)
 (h:∀h' tk M t',(∀b o,s.heap.get? b=some o->h'.get? b=some o)->M∈ns->(∀a,a∈ns->M<=a)->Q (.int M t') { s with heap:=h',toks:=tk }):wpAny (model prog w) A (call (.builtin "min") [.ref l]) Q E s:=by
 obtain ⟨xs,e⟩:=hi.allInts.items
 have hn:numsOf (intItems xs).toList=ns:=by rw [<- e]; exact hi.numsOf
 rw [nums_intItems] at hn
 subst hn
 rw [e] at hl
 have hsz:0 < xs.size:=by simpa using hne
 refine PySem.min_intList hh hl hsz fun v h' tk hv hk=>?_
 obtain ⟨t,rfl⟩:=intItems_at hv
 obtain ⟨h1,h2⟩:=argBest_lt (numAt xs) (xs.size - 1)
 refine h h' tk _ t hk ?_ fun a ha=>?_
 ·rw [numAt_eq]; exact PySem.getD_mem (by rw [Od,Array.length_toList]; omega)
 ·obtain ⟨j,hj,rfl⟩:=mem_getD ha
  rw [Od,Array.length_toList] at hj
  rw [<- numAt_eq]; exact h2 j (by omega)
end
section
variable {X:Cx}
def rMax (K:Oa):List V->Hp->VK->Prop:=fun vs H Q=>∃(a:Addr) (ns:List Int),vs=[V.ref a]/\SqL K H a (ns.map V.int)/\0 < ns.length/\∀m,m∈ns->(∀y,y∈ns->y<=m)->Q (.int m) H
def rMin (K:Oa):List V->Hp->VK->Prop:=fun vs H Q=>∃(a:Addr) (ns:List Int),vs=[V.ref a]/\SqL K H a (ns.map V.int)/\0 < ns.length/\∀m,m∈ns->(∀y,y∈ns->m<=y)->Q (.int m) H
theorem cr_max (hc:X.calm=true):WZ X (.builtin "max") (rMax X.K):=by
 intro pins s σ H vs us Q I r h
 obtain ⟨a,ns,rfl,hs,hne,q⟩:=h
 obtain ⟨its,rv,hl,_⟩:=I.list hs
 rw [Z8.ref1 r]
 exact max_raw (I.ok.hd hc) hl.isList rv.ints hne fun h' tk m t' hk h1 h2=>⟨.int _,H,I.kept hk,⟨_,rfl⟩,q m h1 h2⟩
theorem cr_min (hc:X.calm=true):WZ X (.builtin "min") (rMin X.K):=by
 intro pins s σ H vs us Q I r h
 obtain ⟨a,ns,rfl,hs,hne,q⟩:=h
 obtain ⟨its,rv,hl,_⟩:=I.list hs
 rw [Z8.ref1 r]
 exact min_raw (I.ok.hd hc) hl.isList rv.ints hne fun h' tk m t' hk h1 h2=>⟨.int _,H,I.kept hk,⟨_,rfl⟩,q m h1 h2⟩
end
section
variable {X:Cx}
end
section
variable {X:Cx}
end
section
variable {X:Cx}
end
mutual
inductive Dp (K:Oa) (H:Hp):V->PyData->Prop
 | non:Dp K H .non .none
 | bl (b:Bool):Dp K H (.bl b) (.bool b)
 | int (i:Int):Dp K H (.int i) (.int i)
 | str (x:Str):Dp K H (.str x) (.str x)
 | lst {a:Addr} {xs:List V} {ds:List PyData}:SqL K H a xs->DpAll K H xs ds->Dp K H (.ref a) (.list ds)
 | tup {a:Addr} {xs:List V} {ds:List PyData}:SqT K H a xs->DpAll K H xs ds->Dp K H (.ref a) (.tuple ds)
inductive DpAll (K:Oa) (H:Hp):List V->List PyData->Prop
 | nil:DpAll K H [] []
 | cons {v:V} {vs:List V} {d:PyData} {ds:List PyData}:Dp K H v d->DpAll K H vs ds->DpAll K H (v :: vs) (d :: ds)
end
section
variable {X:Cx} {pins:List (Addr×Obj)} {σ:St} {H:Hp} {s:Shared}
mutual
theorem Dp.reads (I:Inv X pins σ H s):∀(d:PyData) (v:V) (u:Value),Dp X.K H v d->YE v u->∃as,Reads s.heap u d as
 | .none,_,_,h,r=>by
  cases h
  cases r
  exact ⟨_,Reads.none⟩
 | .bool b,_,_,h,r=>by
  cases h
  cases r
  exact ⟨_,Reads.bool b⟩
 | .int i,_,_,h,r=>by
  cases h
  obtain ⟨t,rfl⟩:=r
  exact ⟨_,Reads.int i t⟩
 | .str x,_,_,h,r=>by
  cases h
  obtain ⟨t,rfl⟩:=r
  exact ⟨_,Reads.str x t⟩
 | .list ds,_,_,h,r=>by
  cases h with
  | lst hs ha=>
   cases r
   obtain ⟨its,rv,⟨o,n,ho,hc,_,hd⟩,_⟩:=I.list hs
   obtain ⟨as,hr⟩:=Dp.readsAll I ds _ its ha rv
   exact ⟨_,Reads.list ho hc hd hr⟩
 | .tuple ds,_,_,h,r=>by
  cases h with
  | tup hs ha=>
   cases r
   obtain ⟨its,rv,⟨o,ho,hc,n,hd⟩,_⟩:=I.tuple hs
   obtain ⟨as,hr⟩:=Dp.readsAll I ds _ its ha rv
   exact ⟨_,Reads.tuple ho hc hd hr⟩
 | .dict _,_,_,h,_=>by cases h
theorem Dp.readsAll (I:Inv X pins σ H s):∀(ds:List PyData) (vs:List V) (us:List Value),DpAll X.K H vs ds->Z8 vs us->∃as,ReadsAll s.heap us ds as
 | [],_,_,h,r=>by
  cases h
  cases r
  exact ⟨_,ReadsAll.nil⟩
 | d :: ds,_,_,h,r=>by
  cases h with
  | cons h1 h2=>
   cases r with
   | cons r1 r2=>
    obtain ⟨as,q1⟩:=Dp.reads I d _ _ h1 r1
    obtain ⟨bs,q2⟩:=Dp.readsAll I ds _ _ h2 r2
    exact ⟨_,ReadsAll.cons q1 q2⟩
end
end
section
variable {X:Cx}
def rEqD (K:Oa):R2:=fun x y H Q=>∃d e,Dp K H x d/\Dp K H y e/\SeqAt.shaped d=true/\SeqAt.shaped e=true/\Q (.bl (PyData.eqv d e)) H
theorem op_eqD (hu:X.A.units + 64 < cLine):OpR X (compareOp .Eq) (rEqD X.K):=by
 intro pins s σ H x y v u Q I rx ry h
 obtain ⟨d,e,hd,he,sd,se,q⟩:=h
 obtain ⟨as,r1⟩:=Dp.reads I d x v hd rx
 obtain ⟨bs,r2⟩:=Dp.reads I e y u he ry
 exact SeqAt.compareEq_shaped r1 r2 sd se hu ⟨.bl _,H,I,rfl,q⟩
end
end L2
namespace L2
open PySem PySem.Spec PyProof.Rows
abbrev CellAt (h:Heap) (c:Addr) (v:Option Value):Prop:=h.IsCell c v
def relS (scope sc:Scope):Scope:=
 { scope with names:=scope.names.map fun (n,k)=>if (k == .free && sc.kind == .function && sc.names.lookup n == some .cell) then (n,.cell) else (n,k) }
def Y4 (cells:List (Str×Addr)):List (Str×NameKind)->List (Str×Addr)->List (Str×Addr)
 | [],acc=>acc
 | (n,k) :: r,acc=>if k == .free then Y4 cells r ((n,(cells.lookup n).getD 0) :: acc) else Y4 cells r acc
theorem ZdW (env:Env) (f:Str×NameKind->List (Str×Addr)->Sem (ForInStep (List (Str×Addr))))
 (hf:∀n k c,f (n,k) c=if k == .free then (do let a <- cellOf env n; pure (.yield ((n,a) :: c))) else pure (.yield c)) :
 ∀(names:List (Str×NameKind)) (acc:List (Str×Addr)),(∀y∈names,y.2=.free->∃c,env.cells.lookup y.1=some c)->forIn names acc f=pure (Y4 env.cells names acc)
 | [],acc,_=>by rw [VJ]; rfl
 | (n,k) :: r,acc,h=>by
  rw [Tg,hf]
  have ih:=fun acc=>ZdW env f hf r acc fun y hy=>h y (Ov _ hy)
  unfold Y4
  by_cases hk:(k == NameKind.free)=true
  ·rw [if_pos hk,if_pos hk]
   obtain ⟨c,hc⟩:=h (n,k) Ow (by simpa using hk)
   have e:cellOf env n=pure c:=by unfold cellOf; rw [hc]
   rw [e]
   have e2:(env.cells.lookup n).getD 0=c:=by rw [hc]; rfl
   rw [e2]
   exact ih _
  ·rw [if_neg hk,if_neg hk]
   exact ih _
theorem closure_ok {scope:Scope} {env:Env} (h:∀y∈scope.names,y.2=.free->∃c,env.cells.lookup y.1=some c):closureFor scope env=pure (Y4 env.cells scope.names []):=by
 simp only [closureFor]
 rw [ZdW env _ (fun n k c=>rfl) scope.names [] h]
 rfl
theorem Zdw {α:Type}:∀{l:List (Str×α)} {n:Str} {c:α},(n,c)∈l->∃c',l.lookup n=some c'
 | (k,v) :: r,n,c,h=>by
  rw [Ux]
  cases hb:n == k with
  | true=>exact ⟨_,rfl⟩
  | false=>
   rcases ON.mp h with e | h
   ·cases e; simp at hb
   ·exact Zdw h
theorem ZaF {cells:List (Str×Addr)}:∀{names:List (Str×NameKind)} {acc:List (Str×Addr)} {n:Str} {c:Addr},(n,c)∈Y4 cells names acc->(n,c)∈acc∨((n,.free)∈names/\c=(cells.lookup n).getD 0)
 | [],_,_,_,h=>.inl h
 | (m,k) :: r,acc,n,c,h=>by
  unfold Y4 at h
  split at h
  ·rename_i hk
   have hk:k=.free:=by simpa using hk
   rcases ZaF h with h | ⟨h1,h2⟩
   ·rcases ON.mp h with e | h
    ·cases e; exact .inr ⟨hk ▸ Ow,rfl⟩
    ·exact .inl h
   ·exact .inr ⟨Ov _ h1,h2⟩
  ·rcases ZaF h with h | ⟨h1,h2⟩
   ·exact .inl h
   ·exact .inr ⟨Ov _ h1,h2⟩
theorem Zcf {cells:List (Str×Addr)}:∀{names:List (Str×NameKind)} {acc:List (Str×Addr)} {p:Str×Addr},p∈acc->p∈Y4 cells names acc
 | [],_,_,h=>h
 | (m,k) :: r,acc,p,h=>by
  unfold Y4
  split
  ·exact Zcf (Ov _ h)
  ·exact Zcf h
theorem Zcg {cells:List (Str×Addr)}:∀{names:List (Str×NameKind)} {acc:List (Str×Addr)} {n:Str},(n,.free)∈names->(n,(cells.lookup n).getD 0)∈Y4 cells names acc
 | (m,k) :: r,acc,n,h=>by
  unfold Y4
  rcases ON.mp h with e | h
  ·cases e
   exact Zcf Ow
  ·split
   ·exact Zcg h
   ·exact Zcg h
theorem Zba:∀{names:List (Str×NameKind)} {h:Heap} {acc:List (Str×Addr)} {x:Str} {c:Addr},(x,c)∈cellsFrom h.objs.size names acc->
 (x,c)∈acc∨((x,.cell)∈names/\h.objs.size<=c/\CellAt (pushCells h names) c none)
 | [],_,_,_,_,h=>.inl h
 | (n,k) :: r,h,acc,x,c,hm=>by
  unfold cellsFrom at hm
  unfold pushCells
  split at hm
  ·rename_i hk
   rw [if_pos hk]
   have hk:k=.cell:=by simpa using hk
   rw [<- Heap.size_push h { cls:=.type "cell",data:=.cell none }] at hm
   rcases Zba hm with hm | ⟨h1,h2,h3⟩
   ·rcases ON.mp hm with e | hm
    ·cases e
     exact .inr ⟨hk ▸ Ow,Oq _,_,pushCells_keeps r _ _ _ (Heap.get?_push_size _ rfl),rfl⟩
    ·exact .inl hm
   ·rw [Heap.size_push] at h2
    exact .inr ⟨Ov _ h1,Vf h2,h3⟩
  ·rename_i hk
   rw [if_neg hk]
   rcases Zba hm with hm | ⟨h1,h2,h3⟩
   ·exact .inl hm
   ·exact .inr ⟨Ov _ h1,h2,h3⟩
theorem ZcQ:∀{names:List (Str×NameKind)} {n:Nat} {acc:List (Str×Addr)} {p:Str×Addr},p∈acc->p∈cellsFrom n names acc
 | [],_,_,_,h=>h
 | (m,k) :: r,n,acc,p,h=>by
  unfold cellsFrom
  split
  ·exact ZcQ (Ov _ h)
  ·exact ZcQ h
theorem ZeH:∀{names:List (Str×NameKind)} {n:Nat} {acc:List (Str×Addr)} {x:Str},(x,.cell)∈names->∃c,(x,c)∈cellsFrom n names acc
 | (m,k) :: r,n,acc,x,h=>by
  unfold cellsFrom
  rcases ON.mp h with e | h
  ·cases e
   exact ⟨n,ZcQ Ow⟩
  ·split
   ·exact ZeH h
   ·exact ZeH h
theorem ZeI:∀{names:List (Str×NameKind)} {h:Heap} {acc:List (Str×Addr)} {x y:Str} {c:Addr},(∀p∈acc,p.2 < h.objs.size)->(∀x y c,(x,c)∈acc->(y,c)∈acc->x=y)->
 (x,c)∈cellsFrom h.objs.size names acc->(y,c)∈cellsFrom h.objs.size names acc->x=y
 | [],_,_,_,_,_,_,hi,h1,h2=>hi _ _ _ h1 h2
 | (n,k) :: r,h,acc,x,y,c,hl,hi,h1,h2=>by
  unfold cellsFrom at h1 h2
  split at h1
  ·rename_i hk
   rw [if_pos hk] at h2
   rw [<- Heap.size_push h { cls:=.type "cell",data:=.cell none }] at h1 h2
   refine ZeI (h:=h.push _) (fun p hp=>?_) (fun x y c a b=>?_) h1 h2
   ·rw [Heap.size_push]
    rcases ON.mp hp with rfl | hp
    ·exact Vp _
    ·exact Uu (hl p hp)
   ·rcases ON.mp a with e | a <;> rcases ON.mp b with e' | b
    ·cases e; cases e'; rfl
    ·cases e; exact absurd (hl _ b) (Im _)
    ·cases e'; exact absurd (hl _ a) (Im _)
    ·exact hi _ _ _ a b
  ·rename_i hk
   rw [if_neg hk] at h2
   exact ZeI hl hi h1 h2
theorem newEnv_comp {M:Model} {A:Around} {E:Value->Shared->Prop} {s:Shared} {scope:Scope} {globals:Addr} {closure:List (Str×Addr)} {qual:Str} {func:Option Addr} {code:Value} {around:Env} {builtins:Addr} {Q:Env->Shared->Prop}
 (h:Q (newEnv scope s.heap.objs.size globals (cellsFrom (s.heap.objs.size + 1) scope.names closure) qual func code (some around) builtins)
  { s with heap:=pushCells (s.heap.push { cls:=.type "dict",data:=.dict #[] }) scope.names }) :
 wpAny M A (newFunctionEnv scope globals closure [] qual func code (some around) builtins) Q E s:=by
 simp only [newFunctionEnv,Option.isSome_some,if_true]
 refine wpAny_bind (wpAny_alloc ?_)
 refine wpAny_bind (wpAny_layCells _ (fun n k c=>rfl) scope.names closure _ _ ?_)
 rw [show ({ s with heap:=s.heap.push { cls:=.type "dict",data:=.dict #[] } }:Shared).heap.objs.size=s.heap.objs.size + 1 from Heap.size_push ..]
 rw [VJ]
 exact wpAny_bind (wpAny_pure (wpAny_pure h))
theorem Zco {sc:Scope}:∀{names:List (Str×NameKind)} {x:Str} {k:NameKind},
 (names.map fun (n,k)=>if (k == NameKind.free && sc.kind == .function && sc.names.lookup n == some .cell) then (n,NameKind.cell) else (n,k)).lookup x=some k->
 ∃k',names.lookup x=some k'/\(k=k'∨(k'=.free/\k=.cell))
 | [],_,_,h=>by simp at h
 | (n,k₀) :: r,x,k,h=>by
  have ih:=@Zco sc r x k
  have h':UL x ((if (k₀ == NameKind.free && sc.kind == .function && sc.names.lookup n == some .cell)=true then (n,NameKind.cell) else (n,k₀)) :: (r.map _))=some k:=h
  cases hx:x == n with
  | true=>
   simp only [Ux,hx]
   by_cases hc:(k₀ == NameKind.free && sc.kind == .function && sc.names.lookup n == some .cell)=true
   ·rw [if_pos hc] at h'
    simp only [Ux,hx] at h'
    cases h'
    simp only [Oj,beq_iff_eq] at hc
    exact ⟨k₀,rfl,.inr ⟨hc.1.1,rfl⟩⟩
   ·rw [if_neg hc] at h'
    simp only [Ux,hx] at h'
    cases h'
    exact ⟨_,rfl,.inl rfl⟩
  | false=>
   simp only [Ux,hx]
   by_cases hc:(k₀ == NameKind.free && sc.kind == .function && sc.names.lookup n == some .cell)=true
   ·rw [if_pos hc] at h'
    simp only [Ux,hx] at h'
    exact ih h'
   ·rw [if_neg hc] at h'
    simp only [Ux,hx] at h'
    exact ih h'
structure BlkOk (N:List Str) (sc scope:Scope) (own:List (Str×Nat)):Prop where
 kind:scope.kind=.function
 uniq:∀y∈scope.names,scope.names.lookup y.1=some y.2
 ix:∀p∈own,N[p.2]?=some p.1
 free:∀y∈scope.names,y.2=.free->sc.names.lookup y.1=some .cell∨sc.names.lookup y.1=some .free
 own:∀y∈scope.names,y.2=.local∨y.2=.cell->y.1∈own.map (·.1)∨y.1 ∉ N
def X6 (σ:St):List Nat->St
 | []=>σ
 | v :: vs=>(X6 σ vs).set v none
theorem ZcF (σ:St):∀vs:List Nat,(X6 σ vs).length=σ.length
 | []=>rfl
 | v :: vs=>by unfold X6; rw [IF,ZcF σ vs]
theorem Ze4 {σ:St} {i:Nat} {x:V}:∀{vs:List Nat},(X6 σ vs)[i]?=some (some x)->σ[i]?=some (some x)/\i ∉ vs
 | [],h=>⟨h,by simp⟩
 | v :: vs,h=>by
  unfold X6 at h
  by_cases hi:v=i
  ·subst hi
   by_cases hv:v < (X6 σ vs).length
   ·rw [IC hv] at h; cases h
   ·rw [UA (by simpa using hv)] at h; cases h
  ·rw [IJ hi] at h
   obtain ⟨h1,h2⟩:=Ze4 h
   exact ⟨h1,by simp only [ON,not_or]; exact ⟨fun e=>hi e.symm,h2⟩⟩
abbrev Cx.blk (X:Cx) (s:Shared) (H:Hp) (scope:Scope) (cenv:Env) (fp:List Addr):Cx:={ X with s_0:=s,H_0:=H,env:=cenv,outer:=X.stack,ex:=fp,fn:=fun x=>scope.names.lookup x == some .cell,pn:=[],xe:=fun _ _=>False }
section
variable {X:Cx} {pins:List (Addr×Obj)} {σ:St} {H:Hp} {s:Shared}
theorem block_start {scope:Scope} {own:List (Str×Nat)} {fp:List Addr} (I:Inv X pins σ H s) (ok:BlkOk X.N X.env.scope scope own) (hN:X.N.Nodup) (hfp:∀b∈fp,FpOk X pins H b/\b < s.heap.objs.size) :
 Inv (X.blk s H scope (compEnvC scope (cellsFrom (s.heap.objs.size + 1) scope.names (Y4 X.env.cells scope.names [])) s.heap.objs.size X.env) fp) [] (X6 σ (own.map (·.2))) H { s with heap:=pushCells (s.heap.push { cls:=.type "dict",data:=.dict #[] }) scope.names }:=by
 have hfree:∀y∈scope.names,y.2=.free->∃c,X.env.cells.lookup y.1=some c:=fun y hy e=>by
  rcases ok.free y hy e with k | k
  ·exact I.ok.has _ (.inl k)
  ·exact I.ok.has _ (.inr k)
 generalize hcenv:compEnvC scope (cellsFrom (s.heap.objs.size + 1) scope.names (Y4 X.env.cells scope.names [])) s.heap.objs.size X.env=cenv
 have kp:∀b o,s.heap.get? b=some o->(pushCells (s.heap.push { cls:=.type "dict",data:=.dict #[] }) scope.names).get? b=some o:=fun b o e=>pushCells_keeps _ _ _ _ (Heap.get?_push_of_some _ e)
 have hL:cenv.locals=s.heap.objs.size:=by rw [<- hcenv]; rfl
 have hcl:cenv.cells=cellsFrom (s.heap.objs.size + 1) scope.names (Y4 X.env.cells scope.names []):=by rw [<- hcenv]; rfl
 have hsc:cenv.scope=relS scope X.env.scope:=by rw [<- hcenv]; rfl
 rw [<- Heap.size_push s.heap { cls:=.type "dict",data:=.dict #[] }] at hcl
 have cm:∀{y c},(y,c)∈Y4 X.env.cells scope.names []->X.env.cells.lookup y=some c/\c < s.heap.objs.size:=fun {y c} hm=>by
  rcases ZaF hm with hm | ⟨h1,rfl⟩
  ·cases hm
  ·obtain ⟨c,hc⟩:=hfree _ h1 rfl
   rw [hc]
   obtain ⟨w,z⟩:=I.cell _ _ hc
   exact ⟨rfl,z.lt⟩
 have mem:∀{y c},cenv.cells.lookup y=some c->(X.env.cells.lookup y=some c/\c < s.heap.objs.size)∨(s.heap.objs.size + 1<=c/\CellAt (pushCells (s.heap.push { cls:=.type "dict",data:=.dict #[] }) scope.names) c none):=fun {y c} e=>by
  rw [hcl] at e
  rcases Zba (OY e) with hm | ⟨_,h2,h3⟩
  ·exact .inl (cm hm)
  ·rw [Heap.size_push] at h2; exact .inr ⟨h2,h3⟩
 have look:∀{y},scope.names.lookup y=some .free->∃c,cenv.cells.lookup y=some c/\X.env.cells.lookup y=some c:=fun {y} hl=>by
  have hy:(y,NameKind.free)∈scope.names:=OY hl
  obtain ⟨c',e'⟩:=Zdw (ZcQ (names:=scope.names) (n:=(s.heap.push { cls:=.type "dict",data:=.dict #[] }).objs.size) (Zcg (cells:=X.env.cells) (acc:=[]) hy))
  rw [<- hcl] at e'
  refine ⟨c',e',?_⟩
  rw [hcl] at e'
  rcases Zba (OY e') with hm | ⟨h1,_,_⟩
  ·exact (cm hm).1
  ·have:=ok.uniq _ h1
   rw [hl] at this; cases this
 have okB:(X.blk s H scope cenv fp).Ok:=by
  refine ⟨I.ok.mod,by show cenv.scope.kind=_; rw [hsc]; exact ok.kind,by show cenv.globals=_; rw [<- hcenv]; exact I.ok.glob,by show cenv.builtins=_; rw [<- hcenv]; exact I.ok.blt,by show s.heap.objs.size<=cenv.locals; rw [hL]; exact Oq _,
   fun y z c e1 e2=>?_,fun y hy=>?_,fun y c z e=>?_,I.ok.hd,I.ok.frames,.inl rfl,fun b hb=>⟨?_,fun y c e z=>?_⟩,I.bs,OD I.ok.bsz I.sz,fun b o e hb=>?_,fun b hb z=>?_,I.stack,I.stkFree⟩
  ·have e1:cenv.cells.lookup y=some c:=e1
   have e2:cenv.cells.lookup z=some c:=e2
   rw [hcl] at e1 e2
   refine ZeI (fun p hp=>?_) (fun y z c a b=>I.ok.inj y z c (cm a).1 (cm b).1) (OY e1) (OY e2)
   rw [Heap.size_push]
   exact Uu (cm (y:=p.1) (c:=p.2) hp).2
  ·show ∃c,cenv.cells.lookup y=some c
   have key:∀k,cenv.kindOf y=some k->(k=.cell∨k=.free)->∃c,cenv.cells.lookup y=some c:=fun k hk hk'=>by
    unfold Env.kindOf at hk
    rw [hsc] at hk
    obtain ⟨k',e,r⟩:=Zco hk
    have:k'=.cell∨k'=.free:=by
     rcases r with rfl | ⟨rfl,_⟩
     ·exact hk'
     ·exact .inr rfl
    rcases this with rfl | rfl
    ·obtain ⟨c,hm⟩:=ZeH (n:=(s.heap.push { cls:=.type "dict",data:=.dict #[] }).objs.size) (acc:=Y4 X.env.cells scope.names []) (OY e)
     obtain ⟨c',e'⟩:=Zdw hm
     exact ⟨c',by rw [hcl]; exact e'⟩
    ·obtain ⟨c,h1,_⟩:=look e
     exact ⟨c,h1⟩
   rcases hy with hy | hy
   ·exact key _ hy (.inl rfl)
   ·exact key _ hy (.inr rfl)
  ·have z:(scope.names.lookup y == some NameKind.cell)=true:=z
   have z:scope.names.lookup y=some .cell:=by simpa using z
   have e:cenv.cells.lookup y=some c:=e
   rw [hcl] at e
   rcases Zba (OY e) with hm | ⟨_,h2,_⟩
   ·rcases ZaF hm with hm | ⟨h1,_⟩
    ·cases hm
    ·have q:=ok.uniq _ h1
     rw [z] at q; cases q
   ·rw [Heap.size_push] at h2
    exact Vf h2
  ·show b≠cenv.locals
   rw [hL]; exact O4 (hfp b hb).2
  ·have e:cenv.cells.lookup y=some c:=e
   rcases mem e with ⟨h1,_⟩ | ⟨h1,_⟩
   ·exact (hfp b hb).1.2.2.2.2.1 y c h1 z
   ·have h2:s.heap.objs.size + 1<=b:=by rw [<- z]; exact h1
    exact absurd (OE (hfp b hb).2 (Vf h2)) (Im _)
  ·rcases (hfp b hb).1.2.2.2.1 with z | z
   ·exact I.ok.noex b o e z
   ·exact absurd (OE (Heap.lt_size e) (OD I.ok.bsz z)) (Im _)
  ·rcases ON.mp (I.stkSub b z) with z | z
   ·exact (hfp b hb).1.2.1 z
   ·exact (hfp b hb).1.2.2.1 z
 refine ⟨okB,rfl,I.bare,Un.kept kp,⟨fun _=>none,?_,fun i y av e1 e2 e3=>?_⟩,fun y c e=>?_,?_,fun y c e=>?_,fun p hp=>?_,I.hok.kept kp,by rw [ZcF]; exact I.len⟩
 ·show Heap.Ns _ cenv.locals _
  rw [hL]
  exact Heap.Ns.keeps (Heap.Ns.new ..) fun b o e=>pushCells_keeps _ _ _ _ e
 ·obtain ⟨e2,hne⟩:=Ze4 e2
  have hfr:scope.names.lookup y=some .free/\(cenv.kindOf y=some .cell∨cenv.kindOf y=some .free):=by
   have key:∀k,cenv.scope.names.lookup y=some k->k=.local∨k=.cell∨k=.free->scope.names.lookup y=some .free/\(cenv.kindOf y=some .cell∨cenv.kindOf y=some .free):=fun k hk hk'=>by
    have hk0:=hk
    rw [hsc] at hk
    obtain ⟨k',e,r⟩:=Zco hk
    have no:¬ (k'=.local∨k'=.cell):=fun hh=>by
     rcases ok.own _ (OY e) hh with e' | e'
     ·obtain ⟨p,hp,hpy⟩:=OK.mp e'
      have e3:=ok.ix p hp
      have:p.1=y:=hpy
      rw [this] at e3
      exact hne (OK.mpr ⟨p,hp,Zf6 hN e3 e1⟩)
     ·exact e' (O5 e1)
    rcases r with rfl | ⟨rfl,rfl⟩
    ·rcases hk' with rfl | rfl | rfl
     ·exact absurd (.inl rfl) no
     ·exact absurd (.inr rfl) no
     ·exact ⟨e,.inr hk0⟩
    ·exact ⟨e,.inl hk0⟩
   have e3:Vis cenv.scope y:=e3
   rcases e3 with e3 | e3 | e3
   ·exact key _ e3 (.inl rfl)
   ·exact key _ e3 (.inr (.inl rfl))
   ·exact key _ e3 (.inr (.inr rfl))
  obtain ⟨m,hn,hl⟩:=I.loc
  have hvis:Vis X.env.scope y:=(ok.free _ (OY hfr.1) rfl).elim (fun k=>.inr (.inl k)) (fun k=>.inr (.inr k))
  obtain ⟨w,r,q⟩:=hl i y av e1 e2 hvis
  refine ⟨w,r,.inr ⟨hfr.2,?_⟩⟩
  obtain ⟨c,h1,h2⟩:=look hfr.1
  rcases q with ⟨k,_⟩ | ⟨_,c',e',z⟩
  ·have k:X.env.scope.names.lookup y=some .local:=k
   rcases ok.free _ (OY hfr.1) rfl with k' | k' <;> rw [show X.env.scope.names.lookup y=_ from k'] at k <;> cases k
  ·rw [h2] at e'; cases e'
   exact ⟨c,h1,z.keeps kp⟩
 ·have e:cenv.cells.lookup y=some c:=e
  rcases mem e with ⟨h1,_⟩ | ⟨_,z⟩
  ·obtain ⟨w,z⟩:=I.cell y c h1
   exact ⟨w,z.keeps kp⟩
  ·exact ⟨_,z⟩
 ·show H cenv.locals=none
  rw [hL]; exact I.hok.fresh (Oq _)
 ·have e:cenv.cells.lookup y=some c:=e
  rcases mem e with ⟨h1,_⟩ | ⟨h1,_⟩
  ·exact I.freeC y c h1
  ·exact I.hok.fresh (Vf h1)
 ·exact absurd (show p∈([]:List (Addr×Obj)) ++ [] from hp) (by simp)
theorem app_ok {E:Value->Shared->Prop} {D:Addr} {xs:List V} {y:V} {v:Value} {Q:Value->Shared->Prop} (I:Inv X pins σ H s) (hD:H D=some (.lst xs)) (hz:xs.length < sizeLine) (r:YE y v)
 (h:∀s',Inv X pins σ (upd H D (.lst (xs ++ [y]))) s'->Q .none s'):wpAny (model X.prog X.w) X.A (call (.builtin "list.append") [.ref D,v]) Q E s:=by
 obtain ⟨hz',its,n,ri,e⟩:=I.hok D _ hD
 have hl:=ri.length
 refine append_at (hsz:=by rw [OC]; omega) e fun h' sb ho'=>?_
 refine h { s with heap:=h' } (I.write (t':=s.toks) (by rw [hD]; trivial) (.inl rfl) (fun b u hb q=>(sb.2 b hb).trans q) ⟨_,ho'⟩ ⟨by rw [Og]; exact hz,its ++ [v],n + 1,ri.append (.cons r .nil),?_⟩)
 rw [ho']
 simp
def PTs (X:Cx) (ifs:List Expr) (t:TT):Prop:=
 ∀(pins:List (Addr×Obj)) (s:Shared) (σ:St) (H:Hp) (Q:Bool->Hp->Prop),Inv X pins σ H s->t σ H Q->
  wpAny (model X.prog X.w) X.A (forIn ifs true fun c r=>if r=true then do let ok <- isTrue c X.env (eval c X.env); pure (ForInStep.yield ok) else pure (ForInStep.yield r)) (TP X pins σ Q) X.xe s
def tYes:TT:=fun _ H Q=>Q true H
theorem Wc:PTs X [] tYes:=fun _ _ _ H _ I h=>wpAny_tests_nil ⟨H,I,h⟩
theorem pts_one {c:Expr} {t:TT} (h:PT X c t):PTs X [c] t:=fun pins s σ H Q I hw=>wpAny_tests_one (h pins s σ H Q I hw)
end
theorem thnF {α:Type} {t:Sem α} {Q Q':α->Shared->Prop} {M:Model} {A:Around} {E:Value->Shared->Prop} {s:Shared} (h:wpAny M A t Q (fun _ _=>False) s) (hQ:∀a s,Q a s->Q' a s):wpAny M A t Q' E s:=wpAny_mono h hQ fun _ _ z=>False.elim z
theorem compLoop_any {prog:Program} {w:World} {A:Around} {R:Result->Shared->Prop} {s:Shared} {elt target iter:Expr} {ifs:List Expr} {scope:Scope} {pos:Pos} {it acc:Value} {env:Env} (I:Nat->Shared->Prop)
 (turn:∀n s,I n s->wpAny (model prog w) A (pyNext it) (fun r s₁=>match r with
  | none=>R (.ok .next) s₁
  | some v=>wpAny (model prog w) A (letOwnedTupleGo target it v) (fun _ s₁'=>wpAny (model prog w) A (assign target env v) (fun _ s₂=>
   wpAny (model prog w) A (forIn ifs true fun c r=>if r=true then do let ok <- isTrue c env (eval c env); pure (ForInStep.yield ok) else pure (ForInStep.yield r)) (fun ok s₃=>
    if ok=true then wpAny (model prog w) A (eval elt env) (fun x s₄=>
     wpAny (model prog w) A (call (.builtin "list.append") [acc,x]) (fun _ s₅=>∃m,m < n/\I m s₅) (notedBy (model prog w) A env fun e s'=>R (.error e) s') s₄) (notedBy (model prog w) A env fun e s'=>R (.error e) s') s₃
    else ∃m,m < n/\I m s₃) (notedBy (model prog w) A env fun e s'=>R (.error e) s') s₂) (notedBy (model prog w) A env fun e s'=>R (.error e) s') s₁') (notedBy (model prog w) A env fun e s'=>R (.error e) s') s₁) (notedBy (model prog w) A env fun e s'=>R (.error e) s') s)
 (n:Nat) (h:I n s) :
 codeAny (model prog w) A (.compLoop (.ListComp elt [⟨target,iter,ifs,0⟩] scope pos) 0 it acc env) R s:=by
 refine codeAny_loop rfl I (fun n s hI=>?_) n h
 show wpAny _ A ((compTurn (.ListComp elt [⟨target,iter,ifs,0⟩] scope pos) 0 it acc env).onRaise (fun x=>do noteFrame x env; theTreesLotGoes x)) _ _ s
 refine wpAny_noted ?_
 rw [compTurn_list]
 refine wpAny_bind (wpAny_standAt (wpAny_bind (wpAny_mono (turn n s hI) (fun r s₁ h₁=>?_) fun _ _ h'=>h')))
 cases r with
 | none=>exact wpAny_pure h₁
 | some v=>
  refine wpAny_bind (wpAny_mono h₁ (fun _ s₁' h₁'=>?_) fun _ _ h'=>h')
  refine wpAny_bind (wpAny_mono h₁' (fun _ s₂ h₂=>wpAny_bind (wpAny_mono h₂ (fun ok s₃ h₃=>?_) fun _ _ h'=>h')) fun _ _ h'=>h')
  cases ok with
  | false=>exact wpAny_pure ⟨rfl,h₃⟩
  | true=>
   exact wpAny_bind (wpAny_bind (wpAny_mono h₃ (fun x s₄ h₄=>wpAny_bind (wpAny_mono h₄ (fun _ s₅ h₅=>wpAny_pure (wpAny_pure ⟨rfl,h₅⟩)) fun _ _ h'=>h')) fun _ _ h'=>h'))
section
variable {X:Cx}
def tLc (wi:TI) (g:TG) (tt:TT) (te:TE) (vs:List Nat):TE:=fun σ H Q=>wi σ H fun J H1=>∀D,H1 D=none->∃W:Nat->Nat->Hp->Prop,(∃m,W 0 m (upd H1 D (.lst [])))/\∀i m H,W i m H->
 (J.stop i H/\Q (.ref D) H)∨(J.go i H/\∃Nx:Hp->Prop,(∀H',Nx H'->∃m',m' < m/\W (i + 1) m' H')/\∀x H',J.yld i H x H'->g x (X6 σ vs) H' fun σ2 H2=>X6 σ2 vs=X6 σ vs/\tt σ2 H2 fun b H3=>
  if b=true then te σ2 H3 fun y H4=>∃acc,H4 D=some (.lst acc)/\acc.length < sizeLine/\Nx (upd H4 D (.lst (acc ++ [y]))) else Nx H3)
theorem lc_core {pins:List (Addr×Obj)} {s:Shared} {σ:St} {H:Hp} {Q:VK} {elt tg iter:Expr} {ifs:List Expr} {scope:Scope} {own:List (Str×Nat)} {pos pos':Pos} {wi:TI} {g:TG} {tt:TT} {te:TE} {use:Option (Value->Sem Unit)} {Qf:Value->Shared->Prop}
 (hc:X.calm=true) (hN:X.N.Nodup) (I:Inv X pins σ H s) (hi:PI X tg iter wi) (ok:BlkOk X.N X.env.scope scope own)
 (hg:∀(s:Shared) (H:Hp) (C:Addr) (cl:List (Str×Addr)) (fp:List Addr),PG (X.blk s H scope (compEnvC scope cl C X.env) fp) tg g) (ht:∀(s:Shared) (H:Hp) (C:Addr) (cl:List (Str×Addr)) (fp:List Addr),PTs (X.blk s H scope (compEnvC scope cl C X.env) fp) ifs tt)
 (he:∀(s:Shared) (H:Hp) (C:Addr) (cl:List (Str×Addr)) (fp:List Addr),PE (X.blk s H scope (compEnvC scope cl C X.env) fp) elt te) (hs:∀x,foldedSetIterable iter X.env x=pure x)
 (h:tLc wi g tt te (own.map (·.2)) σ H Q)
 (hRR:∀D C s' m H',Inv X pins σ H' s'->Q (.ref D) H'->s'.heap.Ns C m->FpOk X pins H' C->compPost (model X.prog X.w) X.A X.xe use Qf (.ref D) C (.ok .next) s') :
 wpAny (model X.prog X.w) X.A (comprehension (.ListComp elt [⟨tg,iter,ifs,0⟩] scope pos) scope X.env pos' (newList []) false (eval iter X.env) use) Qf X.xe s:=by
 have hfree:∀y∈scope.names,y.2=.free->∃c,X.env.cells.lookup y.1=some c:=fun y hy e=>by
  rcases ok.free y hy e with k | k
  ·exact I.ok.has _ (.inl k)
  ·exact I.ok.has _ (.inr k)
 refine wpAny_comprehension_free (use:=use) rfl hs (closure_ok hfree) ok.kind (fun y hy e=>by rw [ok.uniq y hy,e])
  (thn (hi pins s σ H _ I h) fun xv s1 hx=>thn hx fun itv s2 h2=>?_)
 obtain ⟨it,fp,tn,J,H2,e,I2,T,st2,f2,q⟩:=h2
 subst e
 refine wpAny_newObj_type (newEnv_comp ?_) (by show 0<=sizeLine; decide)
 generalize hD:s2.heap.objs.size=D
 have hDn:H2 D=none:=I2.hok.fresh (VA hD)
 obtain ⟨W,⟨m0,w0⟩,turn⟩:=q D hDn
 -- the new list
 generalize hs3:({ s2 with heap:=s2.heap.push { cls:=.type "list",data:=.seq ([]:List Value).toArray } }:Shared)=s3
 have I3:Inv X pins σ (upd H2 D (.lst [])) s3:=by
  rw [<- hs3]
  refine I2.laid (t':=s2.toks) (fun b o e=>Heap.get?_push_of_some _ e) (VA hD) ⟨Ib _,[],0,.nil,?_⟩
  rw [<- hD]
  exact Heap.get?_push_size _ rfl
 have h3:s3.heap=s2.heap.push { cls:=.type "list",data:=.seq ([]:List Value).toArray }:=by rw [<- hs3]
 have sz:∀b∈fp,b < s2.heap.objs.size:=fun b hb=>by
  obtain ⟨o,e,_⟩:=T.obj _ _ st2 b hb
  exact Heap.lt_size e
 have f3:∀b∈fp,FpOk X pins (upd H2 D (.lst [])) b/\b < s3.heap.objs.size:=fun b hb=>by
  have hlt:=sz b hb
  refine ⟨⟨?_,(f2 b hb).2⟩,by rw [h3,Heap.size_push]; exact Uu hlt⟩
  rw [ZN (by rw [<- hD]; exact O4 hlt)]
  exact (f2 b hb).1
 have st3:tn 0 s3.heap:=T.keep _ _ _ st2 fun b _ o e=>by rw [h3]; exact Heap.get?_push_of_some _ e
 have I4:=block_start I3 ok hN f3
 have pg:=hg s3 (upd H2 D (.lst [])) s3.heap.objs.size (cellsFrom (s3.heap.objs.size + 1) scope.names (Y4 X.env.cells scope.names [])) fp
 have pt:=ht s3 (upd H2 D (.lst [])) s3.heap.objs.size (cellsFrom (s3.heap.objs.size + 1) scope.names (Y4 X.env.cells scope.names [])) fp
 have pe:=he s3 (upd H2 D (.lst [])) s3.heap.objs.size (cellsFrom (s3.heap.objs.size + 1) scope.names (Y4 X.env.cells scope.names [])) fp
 show codeAny _ _ (.compStart (.ListComp elt [⟨tg,iter,ifs,0⟩] scope pos) 0 (.ref it) (.ref D) (compEnvC scope (cellsFrom (s3.heap.objs.size + 1) scope.names (Y4 X.env.cells scope.names [])) s3.heap.objs.size X.env)) (compPost (model X.prog X.w) X.A X.xe use Qf (.ref D) s3.heap.objs.size) { s3 with heap:=pushCells (s3.heap.push { cls:=.type "dict",data:=.dict #[] }) scope.names }
 have nfp:∀b∈fp,(upd H2 D (.lst [])) b=none:=fun b hb=>(f3 b hb).1.1
 generalize hce:compEnvC scope (cellsFrom (s3.heap.objs.size + 1) scope.names (Y4 X.env.cells scope.names [])) s3.heap.objs.size X.env=ce at I4 pg pt pe ⊢
 have cL:ce.locals=s3.heap.objs.size:=by subst hce; rfl
 generalize hH3:upd H2 D (.lst [])=H3 at I3 I4 pg pt pe w0 nfp f3
 generalize hs4:({ s3 with heap:=pushCells (s3.heap.push { cls:=.type "dict",data:=.dict #[] }) scope.names }:Shared)=s4 at I4 ⊢
 have st4:tn 0 s4.heap:=T.keep _ _ _ st3 fun b _ o e=>by rw [<- hs4]; exact pushCells_keeps _ _ _ _ (Heap.get?_push_of_some _ e)
 have stat:∀{σ':St} {H':Hp} {s':Shared},Inv (X.blk s3 H3 scope ce fp) [] σ' H' s'->(∀b∈fp,H' b=none)->∀b∈fp,FpOk (X.blk s3 H3 scope ce fp) [] H' b:=fun {σ' H' s'} I' hn b hb=>
  ⟨hn b hb,(I'.ok.exf b hb).1,I'.ok.exfs b hb,.inl hb,fun x c e=>(I'.ok.exf b hb).2 x c e,fun p hp=>absurd (show p∈([]:List (Addr×Obj)) ++ [] from hp) (by simp)⟩
 have loop:codeAny (model X.prog X.w) X.A (.compLoop (.ListComp elt [⟨tg,iter,ifs,0⟩] scope pos) 0 (.ref it) (.ref D) ce) (compPost (model X.prog X.w) X.A X.xe use Qf (.ref D) s3.heap.objs.size) s4:=by
  refine compLoop_any (fun n s'=>∃i H',Inv (X.blk s3 H3 scope ce fp) [] (X6 σ (own.map (·.2))) H' s'/\tn i s'.heap/\(∀b∈fp,H' b=none)/\W i n H') ?_ m0 ⟨0,H3,I4,st4,nfp,w0⟩
  rintro n s5 ⟨i,H5,I5,st5,n5,w5⟩
  rcases turn i n H5 w5 with ⟨stop,qq⟩ | ⟨go,Nx,hNx,step⟩
  ·have td:=T.done (X.blk s3 H3 scope ce fp) rfl rfl rfl hc i [] s5 _ H5 (fun _ _=>False) I5 (stat I5 n5) st5 stop
   refine thnF td fun r s6 ⟨hr,I6⟩=>?_
   subst hr
   -- back in the def's context
   have I7:Inv X pins σ H5 s6:=I3.call' (ch:=fp) I6.os I6.base I6.hok I6.bare fun b hb=>⟨(f3 b hb).1.2.2.2.1,(f3 b hb).1.2.1,(f3 b hb).1.2.2.2.2.1,(f3 b hb).1.2.2.2.2.2⟩
   have nC:H5 s3.heap.objs.size=none:=by
    have z:H5 ce.locals=none:=I6.free
    rw [cL] at z
    exact z
   obtain ⟨m,hn,_⟩:=I6.loc
   have hn:s6.heap.Ns ce.locals m:=hn
   rw [cL] at hn
   exact hRR D s3.heap.objs.size s6 m H5 I7 qq hn (I3.fpOk (Oq _) nC)
  ·have ti:=T.item (X.blk s3 H3 scope ce fp) rfl rfl rfl hc i [] s5 _ H5 (fun _ _=>False) I5 (stat I5 n5) st5 go
   refine thnF ti fun r s6 ⟨u,hr,h6⟩=>?_
   subst hr
   refine thnF h6 fun _ s7 ⟨x,H7,I7,r7,y7,st7,n7⟩=>?_
   have I7':=I7.pinned (stat I7 n7) (T.obj _ _ st7)
   refine thnF (pg _ s7 _ H7 x u _ I7' r7 (step x H7 y7)) fun _ s8 ⟨σ8,H8,I8,hw8,q8⟩=>?_
   refine thnF (pt _ s8 σ8 H8 _ I8 q8) fun b s9 ⟨H9,I9,q9⟩=>?_
   -- the turn's end
   have fin:∀{s':Shared} {H':Hp},Inv (X.blk s3 H3 scope ce fp) ([] ++ pinsAt fp s7.heap) σ8 H' s'->Nx H'->∃m,m < n/\∃i H',Inv (X.blk s3 H3 scope ce fp) [] (X6 σ (own.map (·.2))) H' s'/\tn i s'.heap/\(∀b∈fp,H' b=none)/\W i m H':=fun {s' H'} I' nx=>by
    obtain ⟨m',hm,w'⟩:=hNx H' nx
    have pin':∀b∈fp,∀o,s7.heap.get? b=some o->s'.heap.get? b=some o/\H' b=none:=fun b hb o e=>
     let z:=I'.pin (b,o) (Iz _ (Iz _ (Zdx hb e)))
     ⟨z.1,z.2.1⟩
    have hl:(X6 σ (own.map (·.2))).length=σ8.length:=by rw [<- hw8,ZcF]
    refine ⟨m',hm,i + 1,H',(I'.unpinned (pins:=[])).weak hl (fun j v e=>?_),T.keep _ _ _ st7 fun b hb o e=>(pin' b hb o e).1,fun b hb=>?_,w'⟩
    ·rw [<- hw8] at e
     exact (Ze4 e).1
    ·obtain ⟨o,e,_⟩:=T.obj _ _ st7 b hb
     exact (pin' b hb o e).2
   cases b with
   | false=>
    simp only [IH,if_false] at q9 ⊢
    exact fin I9 q9
   | true=>
    simp only [if_true] at q9 ⊢
    refine thnF (pe _ s9 σ8 H9 _ I9 q9) fun z s10 ⟨yv,H10,I10,r10,acc,hD10,hz10,nx⟩=>?_
    exact app_ok (X:=X.blk s3 H3 scope ce fp) I10 hD10 hz10 r10 fun s11 I11=>fin I11 nx
 exact codeAny_compStart_list loop (T.self X.A 0 _ _ _ st4 loop)
theorem Zbf {elt tg iter:Expr} {ifs:List Expr} {scope:Scope} {own:List (Str×Nat)} {pos:Pos} {wi:TI} {g:TG} {tt:TT} {te:TE} (hc:X.calm=true) (hN:X.N.Nodup) (hi:PI X tg iter wi) (ok:BlkOk X.N X.env.scope scope own)
 (hg:∀(s:Shared) (H:Hp) (C:Addr) (cl:List (Str×Addr)) (fp:List Addr),PG (X.blk s H scope (compEnvC scope cl C X.env) fp) tg g) (ht:∀(s:Shared) (H:Hp) (C:Addr) (cl:List (Str×Addr)) (fp:List Addr),PTs (X.blk s H scope (compEnvC scope cl C X.env) fp) ifs tt)
 (he:∀(s:Shared) (H:Hp) (C:Addr) (cl:List (Str×Addr)) (fp:List Addr),PE (X.blk s H scope (compEnvC scope cl C X.env) fp) elt te) (hs:∀x,foldedSetIterable iter X.env x=pure x:=by intro _; rfl) :
 PE X (.ListComp elt [⟨tg,iter,ifs,0⟩] scope pos) (tLc wi g tt te (own.map (·.2))):=by
 intro pins s σ H Q I h
 rw [eval_ListComp]
 refine lc_core hc hN I hi ok hg ht he hs h fun D C s' m H' I' q hn f=>⟨m,hn,fun h'' sb=>?_⟩
 obtain ⟨f0,f1,f2,f3,f4,f5⟩:=f
 exact ⟨.ref D,H',I'.turned (t':=s'.toks) (fun b o hb e=>(sb.2 b hb).trans e) f0 f1 f3 f4 f5,rfl,q⟩
theorem Zd9 {i:Nat} {y:Str} {py:Pos} {elt tg iter:Expr} {ifs:List Expr} {scope:Scope} {own:List (Str×Nat)} {pos spos:Pos} {wi:TI} {g:TG} {tt:TT} {te:TE} (hc:X.calm=true) (hN:X.N.Nodup) (hy:X.N[i]?=some y) (hyl:X.env.scope.names.lookup y=some .local)
 (hsw:swapsWith (.ListComp elt [⟨tg,iter,ifs,0⟩] scope pos) (some (.Name y py)) spos.line X.env=pure true) (hi:PI X tg iter wi) (ok:BlkOk X.N X.env.scope scope own)
 (hg:∀(s:Shared) (H:Hp) (C:Addr) (cl:List (Str×Addr)) (fp:List Addr),PG (X.blk s H scope (compEnvC scope cl C X.env) fp) tg g) (ht:∀(s:Shared) (H:Hp) (C:Addr) (cl:List (Str×Addr)) (fp:List Addr),PTs (X.blk s H scope (compEnvC scope cl C X.env) fp) ifs tt)
 (he:∀(s:Shared) (H:Hp) (C:Addr) (cl:List (Str×Addr)) (fp:List Addr),PE (X.blk s H scope (compEnvC scope cl C X.env) fp) elt te) (hs:∀x,foldedSetIterable iter X.env x=pure x:=by intro _; rfl) :
 PS X (.Assign [.Name y py] (.ListComp elt [⟨tg,iter,ifs,0⟩] scope pos) spos) (tAsg (tLc wi g tt te (own.map (·.2))) (JX i)):=by
 intro pins s σ H D I h
 rw [exec_Assign_Name_used _ _ _ _ hsw]
 refine wpAny_bind (wpAny_standAt (wpAny_bind ?_))
 show wpAny _ X.A (do let _ <- comprehension (.ListComp elt [⟨tg,iter,ifs,0⟩] scope pos) scope X.env (firstIterPos [⟨tg,iter,ifs,0⟩] pos) (newList []) false (eval iter X.env) (some (assign (.Name y py) X.env))) _ _ s
 have h:tLc wi g tt te (own.map (·.2)) σ H (fun x H1=>JX i x σ H1 D.nx):=h
 refine wpAny_bind (thn (lc_core (Qf:=fun _ s'=>SP X pins D .next s') hc hN I hi ok hg ht he hs h fun L C s' m H' I' q hn f=>?_) fun _ s' hq=>wpAny_pure (wpAny_pure hq))
 show wpAny _ _ (assign (.Name y py) X.env (.ref L)) _ _ _
 refine wpAny_assign_Name (store_ok2 (v:=V.ref L) I' hN hy (.inl hyl) rfl (fun s2 I2 ⟨a,sb,ha⟩=>?_) (.inr hyl))
 obtain ⟨f0,f1,f2,f3,f4,f5⟩:=f
 have haC:C≠a:=by
  rcases ha with z | z
  ·rw [z]; exact f1
  ·exact fun e=>f4 y a z e.symm
 refine ⟨m,hn.sameBut sb haC,fun h3 sb3=>?_⟩
 exact ⟨_,H',I2.turned (t':=s2.toks) (fun b o hb e=>(sb3.2 b hb).trans e) f0 f1 f3 f4 f5,q⟩
theorem ZfE {elt:Expr} {gs:List Comprehension} {scope:Scope} {pos py:Pos} {y:Str} {l:Nat} {env:Env} (hk:env.scope.kind=.function) (hy:env.scope.names.lookup y=some .local) (hl:(py.line == pos.line)=true)
 (ha:(scope.names.any fun (n,k)=>n == y && (k == .local || k == .cell))=false):swapsWith (.ListComp elt gs scope pos) (some (.Name y py)) l env=pure true:=by
 have ky:env.kindOf y=some .local:=hy
 have hb:env.blockKind=.function:=by unfold Env.blockKind; rw [hk]; rfl
 unfold swapsWith
 simp only [hb,ky,ha,Expr.pos,hl]
 rfl
end
def blkC (N:List Str) (sc scope:Scope) (own:List (Str×Nat)):Bool:=
 (match scope.kind with | .function=>true | _=>false) && (scope.names.all fun y=>decide (scope.names.lookup y.1=some y.2)) && (own.all fun p=>decide (N[p.2]?=some p.1)) &&
  (scope.names.all fun y=>match y.2 with
   | .free=>(match sc.names.lookup y.1 with | some .cell=>true | some .free=>true | _=>false)
   | .local=>decide (y.1∈own.map (·.1)) || decide (y.1 ∉ N)
   | .cell=>decide (y.1∈own.map (·.1)) || decide (y.1 ∉ N)
   | _=>true)
theorem Y7 {N:List Str} {sc scope:Scope} {own:List (Str×Nat)} (h:blkC N sc scope own=true):BlkOk N sc scope own:=by
 unfold blkC at h
 simp only [Oj,Iw,decide_eq_true_eq] at h
 obtain ⟨⟨⟨h1,h2⟩,h3⟩,h4⟩:=h
 refine ⟨?_,h2,h3,fun y hy e=>?_,fun y hy e=>?_⟩
 ·split at h1
  ·assumption
  ·cases h1
 ·have q:=h4 y hy
  simp only [e] at q
  split at q <;> first | exact .inl (by assumption) | exact .inr (by assumption) | cases q
 ·have q:=h4 y hy
  rcases e with e | e <;> (simp only [e,Te,decide_eq_true_eq] at q; exact q)
end L2
namespace L2
open PySem PySem.Spec PyProof.Rows
section
variable {prog:Program} {w:World} {A:Around} {R:Result->Shared->Prop} {s:Shared} {elt t0 i0 t1 i1:Expr} {ifs0 ifs1:List Expr} {scope:Scope} {pos:Pos} {it acc:Value} {env:Env}
end
section
variable {X:Cx}
end
end L2
namespace L2
open PySem PySem.Spec PyProof.Rows
section
variable {κ:Type} [DecidableEq κ]
def valV (kvs:List (κ×V)) (k:κ):Option V:=(kvs.find? fun kv=>decide (kv.1=k)).map (·.2)
theorem valV_pos {p:κ×V} {r:List (κ×V)} {k:κ} (e:p.1=k):valV (p :: r) k=some p.2:=by simp [valV,Up,e]
theorem valV_neg {p:κ×V} {r:List (κ×V)} {k:κ} (e:¬ p.1=k):valV (p :: r) k=valV r k:=by simp [valV,Up,e]
theorem KV.val {kvs:List (κ×V)} {vs:List (κ×Value)} (r:KV kvs vs) (k:κ):RelO (valV kvs k) (valueAt vs k):=by
 unfold KV at r
 induction r with
 | nil=>exact True.intro
 | @cons p q ps qs h t ih=>
  obtain ⟨h1,h2⟩:=h
  by_cases e:p.1=k
  ·have e':q.1=k:=h1.symm.trans e
   have b:valueAt (q :: qs) k=some q.2:=by simp [valueAt,Up,e']
   rw [valV_pos e,b]; exact h2
  ·have e':¬ q.1=k:=fun z=>e (h1.trans z)
   have b:valueAt (q :: qs) k=valueAt qs k:=by simp [valueAt,Up,e']
   rw [valV_neg e,b]; exact ih
end
theorem kV_is {P:Program} {w:World} {k:Key} {u:Value} (r:YE (kV k) u):(ZbJ P w).is k u=true:=by
 cases k with
 | inl i=>obtain ⟨t,e⟩:=(show ∃t,u=Value.int i t from r); subst e; exact mixKind_int P w i t
 | inr x=>obtain ⟨t,e⟩:=(show ∃t,u=Value.str x t from r); subst e; exact mixKind_str P w x t
section
variable {P:Program} {w:World} {H:Hp} {h:Heap} {a:Addr}
end
section
variable {X:Cx} {pins:List (Addr×Obj)} {σ:St} {H:Hp} {s:Shared} {a:Addr} {y v:V} {u r:Value} {o:Option V} {A:Around} {E:Value->Shared->Prop}
end
section
variable {X:Cx} {pins:List (Addr×Obj)} {σ:St} {H:Hp} {s:Shared} {a:Addr} {kvs:List (Key×V)} {k:Key} {u:Value} {A:Around} {E:Value->Shared->Prop}
end
def NoSl (i:Expr):Prop:=∀ov iv,subscripted i false ov iv=operate [ov,iv] (getItem ov iv)
theorem subD_of {prog:Program} {w:World} {A:Around} {E:Value->Shared->Prop} {s:Shared} {env:Env} {value slice:Expr} {pos:Pos} {T id:String} {Q:Value->Shared->Prop}
 (hl:typeLookup (.type T) "__getitem__"=pure (some (.builtin id))) (hs:NoSl slice)
 (h:wpAny (model prog w) A (eval value env) (fun o s₁=>wpAny (model prog w) A (eval slice env) (fun i s₂=>s₂.TypeIs o T/\wpAny (model prog w) A (getItem o i) Q E s₂) E s₁) E s) :
 wpAny (model prog w) A (eval (.Subscript value slice pos) env) Q E s:=by
 refine Subscript_ (wpAny_mono h (fun o s₁ h₁=>wpAny_mono h₁ (fun i s₂ h₂=>?_) fun _ _ x=>x) fun _ _ x=>x)
 obtain ⟨hT,h₂⟩:=h₂
 unfold subscriptTail
 refine wpAny_bind ?_
 rw [getitemInPython_of_ne hT.not_modules]
 refine wpAny_bind (wpAny_specialOf hT hl ?_)
 have fin:wpAny (model prog w) A (subscripted slice false o i) (fun r s₃=>wpAny (model prog w) A (letTemporaryGo value o r >>= fun _=>pure r) Q E s₃) E s₂:=by
  rw [hs o i]
  exact wpAny_operating (wpAny_mono h₂ (fun r s₃ h₃=>wpAny_bind (wpAny_letTemporaryGo (wpAny_pure h₃))) fun _ _ x=>x)
 first
  | exact wpAny_pure (wpAny_bind fin)
  | exact wpAny_bind (wpAny_pure (wpAny_bind fin))
  | exact wpAny_bind fin
section
variable {X:Cx} {o i e value:Expr} {pos pos' tpos:Pos} {td ty tv:TE}
end
section
variable {X:Cx} {pos:Pos}
end
section
variable {X:Cx} {pins:List (Addr×Obj)} {σ:St} {H:Hp} {s:Shared} {a:Addr} {y d:V} {u r:Value} {o:Option V} {A:Around} {E:Value->Shared->Prop}
end
section
variable {X:Cx} {o e f:Expr} {apos cpos:Pos} {td ty tx:TE}
end
section
variable {X:Cx} {pins:List (Addr×Obj)} {σ:St} {H:Hp} {s:Shared} {a:Addr} {kvs:List (Key×V)} {A:Around} {E:Value->Shared->Prop}
end
section
variable {X:Cx} {pins:List (Addr×Obj)} {σ:St} {H:Hp} {s:Shared} {a:Addr} {y:V} {u:Value} {A:Around} {E:Value->Shared->Prop}
end
end L2
namespace L2
open PySem PySem.Spec PyProof.Rows
section
variable {prog:Program} {w:World} {A:Around} {E:Value->Shared->Prop}
end
section
variable {X:Cx}
end
end L2
namespace L2
open PySem PySem.Spec PyProof.Rows
section
variable {X:Cx} {pins:List (Addr×Obj)} {σ:St} {H:Hp} {s:Shared} {h':Heap}
theorem Inv.turnedL {t':Nat} {ch:List Addr} (I:Inv X pins σ H s) (k:∀b o,b ∉ ch->s.heap.get? b=some o->h'.get? b=some o) (hf:∀b∈ch,FpOk X pins H b):Inv X pins σ H { s with heap:=h',toks:=t' }:=by
 have nit:∀b u,H b=some u->b ∉ ch:=fun b u e z=>by
  have q:=(hf b z).1
  rw [q] at e; cases e
 refine I.step (g':=s.gens) (d':=s.drawn) (ch:=ch) (fun b hb=>⟨(hf b hb).2.2.2.1,(hf b hb).2.1,(hf b hb).2.2.2.2.1,(hf b hb).2.2.2.2.2⟩) (fun b o _ _ hc e _=>k b o hc e) (fun b o _ _ hc e _=>⟨o.slots,k b o hc e⟩)
  (fun _ _ _ _ n=>n) (fun b o hc e=>⟨o,k b o hc e⟩) (fun _ _ e=>e) (fun _ _ _ e=>e) (fun b ps e=>⟨#[],by rw [e]; simp⟩) (fun m hm=>?_) (fun b u e=>?_) I.bare
 ·obtain ⟨o,es,ep,ho,r⟩:=hm
  exact ⟨o,es,ep,k _ o (fun z=>(hf _ z).2.1 rfl) ho,r⟩
 ·refine (I.hok b u e).stay (fun c v hc q=>k c v ?_ q) (fun _ q=>q) fun _ _ q=>q
  rcases hc with z | z
  ·rw [z]; exact nit b u e
  ·exact nit c _ z
theorem Inv.turnedNew {t':Nat} {ch:List Addr} {T:Addr} {ob:HO} (I:Inv X pins σ H s) (k:∀b o,b ∉ ch->s.heap.get? b=some o->h'.get? b=some o) (hf:∀b∈ch,FpOk X pins H b) (hT:s.heap.objs.size<=T)
 (new:W0 X.prog X.w (upd H T ob) h' T ob):Inv X pins σ (upd H T ob) { s with heap:=h',toks:=t' }:=by
 have hn:H T=none:=I.hok.fresh hT
 have nit:∀b u,H b=some u->b ∉ ch:=fun b u e z=>by
  have q:=(hf b z).1
  rw [q] at e; cases e
 refine I.step (g':=s.gens) (d':=s.drawn) (ch:=ch) (fun b hb=>⟨(hf b hb).2.2.2.1,(hf b hb).2.1,(hf b hb).2.2.2.2.1,(hf b hb).2.2.2.2.2⟩) (fun b o _ _ hc e _=>k b o hc e) (fun b o _ _ hc e _=>⟨o.slots,k b o hc e⟩)
  (fun b o _ e n=>?_) (fun b o hc e=>⟨o,k b o hc e⟩) (fun b xs e=>?_) (fun b o u e=>?_) (fun b ps e=>⟨#[],?_⟩) (fun m hm=>?_) (fun b u e=>?_) I.bare
 ·rw [ZN (O4 (OE (Heap.lt_size e) hT))]; exact n
 ·rw [ZN (Zu e hn)]; exact e
 ·rw [ZN (Zu e hn)]; exact e
 ·rw [ZN (Zu e hn),e]; simp
 ·obtain ⟨o,es,ep,ho,r⟩:=hm
  exact ⟨o,es,ep,k _ o (fun z=>(hf _ z).2.1 rfl) ho,r⟩
 ·by_cases hb:b=T
  ·subst hb
   rw [Zn] at e
   cases e
   exact new
  ·rw [ZN hb] at e
   refine (I.hok b u e).stay (fun c v hc q=>k c v ?_ q) (fun c q=>by rw [ZN (Zu q hn)]; exact q) fun c xs q=>by rw [ZN (Zu q hn)]; exact q
   rcases hc with z | z
   ·rw [z]; exact nit b u e
   ·exact nit c _ z
end
section
variable {X:Cx}
theorem pi_one {tg:Expr} {pins:List (Addr×Obj)} {σ:St} {H:Hp} {s:Shared} {R:It->Hp->Prop} {J:It} {tn:Nat->Heap->Prop} {tk:Nat} (I:Inv X pins σ H s) (o:Obj)
 (T:Turn X.prog X.w X.K tg J [s.heap.objs.size] s.heap.objs.size tn) (st:tn 0 (s.heap.push o)) (q:R J H):PIE X pins σ tg R (.ref s.heap.objs.size) { s with heap:=s.heap.push o,toks:=tk }:=by
 refine ⟨s.heap.objs.size,[s.heap.objs.size],tn,J,H,rfl,I.kept fun b ob e=>Heap.get?_push_of_some _ e,T,st,fun b hb=>?_,q⟩
 have e:b=s.heap.objs.size:=by simpa using hb
 subst e
 exact I.fpOk (Oq _) (I.hok.fresh (Oq _))
end
def Itc (lo c:Int) (n:Nat):It:=⟨fun i _=>i < n,fun i H x H'=>H'=H/\x=.int (lo + (i:Nat) * c),fun i _=>n<=i⟩
theorem turn_rangeC {P:Program} {w:World} {K:Oa} {tg:Expr} (it:Addr) (lo c:Int) (n:Nat):Turn P w K tg (Itc lo c n) [it] it (fun i h=>IsRangeIter h it (lo + (i:Nat) * c) ((n:Int) - (i:Nat)) c) where
 mem:=by simp
 obj:=fun i h st b hb=>by
  have e:b=it:=by simpa using hb
  subst e
  exact ⟨_,st,fun v z=>nomatch z⟩
 keep:=fun i h h' st k=>k it (by simp) _ st
 item:=by
  intro X hP hw hK hc i pins s σ H E I hf st hg
  subst hP hw hK
  obtain ⟨f0,f1,f2,f3,f4,f5⟩:=hf it (by simp)
  have W:=Walks.range (prog:=X.prog) (w:=X.w) (I.ok.hd hc) it lo c n
  refine W.item i s _ _ hg st fun v h' tk hv st' kk=>?_
  obtain ⟨t,rfl⟩:=hv
  have I1:Inv X pins σ H { s with heap:=h',toks:=tk }:=I.turned (fun b o hb e=>kk b o (by simpa using hb) e) f0 f1 f3 f4 f5
  exact ⟨_,rfl,go_of (s:={ s with heap:=h',toks:=tk }) (n:="range_iterator") st' rfl rfl (by decide) ⟨.int (lo + (i:Nat) * c),H,I1,⟨t,rfl⟩,⟨rfl,rfl⟩,st',fun b hb=>(hf b hb).1⟩⟩
 done:=by
  intro X hP hw hK hc i pins s σ H E I hf st hg
  subst hP hw hK
  obtain ⟨f0,f1,f2,f3,f4,f5⟩:=hf it (by simp)
  exact wpAny_pyNext_range_end (I.ok.hd hc) st (by have:n<=i:=hg; omega) fun h' eb=>⟨rfl,I.turned (t':=s.toks) (fun b o hb e=>eb b o hb e) f0 f1 f3 f4 f5⟩
 self:=fun A i s Q E st h=>wpAny_pyIter_rangeiter st h
def RgC (i j c:Int) (n:Nat):Prop:=c≠0/\c.natAbs < 1073741824/\Builtin.Range.small i j c=true/\Builtin.Range.rangeSize i j c=n
theorem RgC.neg {i j:Int} (ha:-(2 ^ 62)<=i) (ha':i < 2 ^ 62) (hb:-(2 ^ 62)<=j) (hb':j < 2 ^ 62):RgC i j (-1) (i - j).toNat:=
 ⟨by decide,by decide,PySem.W.small_down ha ha' hb hb',PySem.W.rangeSize_downNat i j⟩
def iRng3 (ta:TA):TI:=fun σ H R=>ta σ H fun vs H1=>∃(i j c:Int) (n:Nat),vs=[.int i,.int j,.int c]/\RgC i j c n/\R (Itc i c n) H1
section
variable {X:Cx} {tg:Expr}
theorem Jt {a b c:Expr} {ta:TA} {p pos:Pos} (hg:Gl X "range") (hm:X.mg "range"=none) (ha:PA X [a,b,c] ta)
 (hs:starEach [a,b,c] X.env=(false,eval a X.env) :: starEach [b,c] X.env:=by rfl) (hpl:(backTo pos (starEach [b,c] X.env)).any (·.1)=false:=by rfl) :
 PI X tg (.Call (.Name "range" p) [a,b,c] [] pos) (iRng3 ta):=by
 intro pins s σ H R I h
 refine Call_ (QF I hg hm boot_range (OQ (thn (ha pos pins s σ H _ I h) fun us s1 ⟨vs,H1,I1,r1,q1⟩=>?_) hs hpl))
 obtain ⟨i,j,k,n,e,⟨c0,c1,c2,c3⟩,q⟩:=q1
 subst e
 cases r1 with
 | cons r rr=>
  cases rr with
  | cons r' rr=>
   cases rr with
   | cons r'' rr=>
    cases rr
    obtain ⟨t,rfl⟩:=r
    obtain ⟨t',rfl⟩:=r'
    obtain ⟨t'',rfl⟩:=r''
    refine call_range_3 c0 ?_ (.inl (PyProof.noPylong_small c1))
    refine wpAny_pyIter_range (IsRange.new ..) c2 ?_
    have I2:Inv X pins σ H1 { s1 with heap:=s1.heap.push { cls:=.type "range",data:=.fields #[.int i t,.int j t',.int k t''] } }:=I1.kept (t':=s1.toks) fun b o e=>Heap.get?_push_of_some _ e
    refine pi_one (tk:=s1.toks) I2 _ (turn_rangeC _ i k n) ?_ q
    have e1:i + ((0:Nat):Int) * k=i:=by simp
    have e2:(n:Int) - ((0:Nat):Int)=Builtin.Range.rangeSize i j k:=by rw [c3]; simp
    show IsRangeIter _ _ (i + ((0:Nat):Int) * k) ((n:Int) - ((0:Nat):Int)) k
    rw [e1,e2]
    exact Heap.get?_push_size _ rfl
end
section
variable {X:Cx} {tg:Expr}
end
section
variable {prog:Program} {w:World} {A:Around} {E:Value->Shared->Prop} {s:Shared}
end
section
variable {X:Cx} {pins:List (Addr×Obj)} {σ:St} {H:Hp} {s:Shared} {d:Addr} {o:Obj}
end
section
variable {P:Program} {w:World} {K:Oa} {tg:Expr} {d:Addr} {o:Obj} {es:Array DictEntry} {ep:Nat}
end
section
variable {X:Cx} {tg e:Expr} {td:TE} {apos cpos:Pos}
end
def Ite (K:Oa) (a:Addr):It:=
 ⟨fun i H=>∃(xs:List V) (x:V),SqL K H a xs/\xs[i]?=some x,fun i H v H'=>∃T x,v=.ref T/\H T=none/\H'=upd H T (.tup [.int (i:Nat),x])/\∀xs,SqL K H a xs->xs[i]?=some x,fun i H=>∃xs:List V,SqL K H a xs/\xs.length<=i⟩
theorem turn_enum {P:Program} {w:World} {K:Oa} {elts:List Expr} {kk:Nat} {tpos:Pos} (a e it:Addr) :
 Turn P w K (.Tuple elts kk tpos) (Ite K a) [e,it] e (fun i h=>(∃old,IsEnum h e it ((i:Nat):Int) old)/\h.IsListIter it a i/\e≠it) where
 mem:=by simp
 obj:=fun i h st b hb=>by
  obtain ⟨⟨old,he⟩,⟨o,ho,hc,hd⟩,_⟩:=st
  have e':b=e∨b=it:=by simpa using hb
  rcases e' with z | z
  ·rw [z]; exact ⟨_,he,fun v q=>nomatch q⟩
  ·rw [z]; exact ⟨o,ho,fun v q=>by rw [hd] at q; cases q⟩
 keep:=fun i h h' st k=>let ⟨⟨old,he⟩,hi,hne⟩:=st; ⟨⟨old,k e (by simp) _ he⟩,hi.at fun o q=>k it (by simp) o q,hne⟩
 item:=by
  intro X hP hw hK hc i pins s σ H E I hf st hg
  subst hP hw hK
  obtain ⟨⟨old,he⟩,hit,hne⟩:=st
  obtain ⟨xs,x,hq,hx⟩:=hg
  obtain ⟨its,rv,p,hz⟩:=I.list hq
  obtain ⟨u,hu,ru⟩:=rv.get hx
  have hel:e < s.heap.objs.size:=Heap.lt_size he
  have hil:it < s.heap.objs.size:=by obtain ⟨_,q,_⟩:=hit; exact Heap.lt_size q
  refine wpAny_pyNext_enum_item he hit p.isList (x:=u) (by simpa using hu) hne fun h' ho hit' hT hsz hk=>?_
  refine ⟨_,rfl,wpAny_letOwnedTupleGo_enum (s:={ s with heap:=h',toks:=s.toks + 1 }) ho fun h'' he' sb=>?_⟩
  have hT2:h''.get? s.heap.objs.size=some { cls:=.type "tuple",data:=.seq #[.int i s.toks,u] }:=(sb.2 _ (U6 hel)).trans hT
  have new:W0 X.prog X.w (upd H s.heap.objs.size (.tup [.int (i:Nat),x])) h'' s.heap.objs.size (.tup [.int (i:Nat),x]):=
   ⟨by show 2<=sizeLine; decide,[.int i s.toks,u],.cons ⟨_,rfl⟩ (.cons ru .nil),⟨_,hT2,rfl,_,rfl⟩⟩
  have I1:Inv X pins σ (upd H s.heap.objs.size (.tup [.int (i:Nat),x])) { s with heap:=h'',toks:=s.toks + 1 }:=
   I.turnedNew (ch:=[e,it]) (fun b ob hb q=>(sb.2 b (fun z=>hb (by simp [z]))).trans (hk b ob (fun z=>hb (by simp [z])) (fun z=>hb (by simp [z])) q)) hf (Oq _) new
  refine ⟨.ref s.heap.objs.size,_,I1,rfl,⟨_,x,rfl,I.hok.fresh (Oq _),rfl,fun ys hy=>by rw [I.list_inj hy hq]; exact hx⟩,⟨⟨u,?_⟩,hit'.at fun o q=>(sb.2 it (Ne.symm hne)).trans q,hne⟩,fun b hb=>?_⟩
  ·have e1:((i + 1:Nat):Int)=(i:Int) + 1:=by simp
   rw [e1]; exact he'
  ·have hb':b < s.heap.objs.size:=by
    have e':b=e∨b=it:=by simpa using hb
    rcases e' with z | z
    ·rw [z]; exact hel
    ·rw [z]; exact hil
   rw [ZN (O4 hb')]
   exact (hf b hb).1
 done:=by
  intro X hP hw hK hc i pins s σ H E I hf st hg
  subst hP hw hK
  obtain ⟨⟨old,he⟩,hit,hne⟩:=st
  obtain ⟨xs,hq,hx⟩:=hg
  obtain ⟨its,rv,p,hz⟩:=I.list hq
  obtain ⟨f0,f1,f2,f3,f4,f5⟩:=hf it (by simp)
  have hl:=rv.length
  exact wpAny_pyNext_enum_end (I.ok.hd hc) he hit p.isList (by simp; omega) fun h' eb=>⟨rfl,I.turned (t':=s.toks) (fun b o hb q=>eb b o hb q) f0 f1 f3 f4 f5⟩
 self:=fun A i s Q E st h=>let ⟨⟨_,he⟩,_⟩:=st; wpAny_pyIter_enum he h
def iEnum (K:Oa) (ta:TA):TI:=fun σ H R=>ta σ H fun vs H1=>∃a xs,vs=[.ref a]/\SqL K H1 a xs/\R (Ite K a) H1
theorem pi_enum {X:Cx} {e:Expr} {ta:TA} {p pos tpos:Pos} {elts:List Expr} {kk:Nat} (hg:Gl X "enumerate") (hm:X.mg "enumerate"=none) (ha:PA X [e] ta) (hs:starEach [e] X.env=[(false,eval e X.env)]:=by rfl) :
 PI X (.Tuple elts kk tpos) (.Call (.Name "enumerate" p) [e] [] pos) (iEnum X.K ta):=by
 intro pins s σ H R I h
 refine Call_ (QF I hg hm boot_enumerate (OQ (thn (ha pos pins s σ H _ I h) fun us s1 ⟨vs,H1,I1,r1,q1⟩=>?_) hs rfl))
 obtain ⟨a,xs,ex,hq,q⟩:=q1
 subst ex
 cases r1 with
 | cons r rr=>
  cases rr
  cases r
  obtain ⟨its,rv,p',hz⟩:=I1.list hq
  refine call_enumerate_list p'.isList fun h' he hit hsz hk=>wpAny_pyIter_enum he ?_
  have I2:Inv X pins σ H1 { s1 with heap:=h' }:=I1.kept (t':=s1.toks) hk
  refine ⟨s1.heap.objs.size + 1,[s1.heap.objs.size + 1,s1.heap.objs.size],_,_,H1,rfl,I2,turn_enum a (s1.heap.objs.size + 1) s1.heap.objs.size,⟨⟨.none,he⟩,hit,Nat.succ_ne_self _⟩,fun b hb=>?_,q⟩
  have e':b=s1.heap.objs.size + 1∨b=s1.heap.objs.size:=by simpa using hb
  have hle:s1.heap.objs.size<=b:=by
   rcases e' with z | z
   ·rw [z]; exact Nat.le_add_right _ _
   ·rw [z]; exact Oq _
  exact I1.fpOk hle (I1.hok.fresh hle)
theorem boot_zip5:bootBuiltins "zip"=some (.type "zip"):=by decide +kernel
def Itz (K:Oa) (a b:Addr):It:=
 ⟨fun i H=>∃(xs ys:List V) (x y:V),SqL K H a xs/\SqL K H b ys/\xs[i]?=some x/\ys[i]?=some y,
  fun i H v H'=>∃T x y,v=.ref T/\H T=none/\H'=upd H T (.tup [x,y])/\(∀xs,SqL K H a xs->xs[i]?=some x)/\∀ys,SqL K H b ys->ys[i]?=some y,
  fun i H=>∃xs ys:List V,SqL K H a xs/\SqL K H b ys/\(xs.length<=i∨ys.length<=i)⟩
theorem turn_zip {P:Program} {w:World} {K:Oa} {elts:List Expr} {kk:Nat} {tpos:Pos} {a b z TI TO i1 i2:Addr} (D:ZipApart z TI TO i1 i2 a b) :
 Turn P w K (.Tuple elts kk tpos) (Itz K a b) [z,TI,TO,i1,i2] z (fun i h=>IsZip h z TI TO .none/\IsPair h TI (.ref i1) (.ref i2)/\(∃x y,IsPair h TO x y)/\h.IsListIter i1 a i/\h.IsListIter i2 b i) where
 mem:=by simp
 obj:=fun i h st c hc=>by
  obtain ⟨hz,hTI,⟨x,y,hTO⟩,⟨o1,e1,_,d1⟩,⟨o2,e2,_,d2⟩⟩:=st
  have e':c=z∨c=TI∨c=TO∨c=i1∨c=i2:=by simpa using hc
  rcases e' with q | q | q | q | q
  ·rw [q]; exact ⟨_,hz,fun v q=>nomatch q⟩
  ·rw [q]; exact ⟨_,hTI,fun v q=>nomatch q⟩
  ·rw [q]; exact ⟨_,hTO,fun v q=>nomatch q⟩
  ·rw [q]; exact ⟨o1,e1,fun v q=>by rw [d1] at q; cases q⟩
  ·rw [q]; exact ⟨o2,e2,fun v q=>by rw [d2] at q; cases q⟩
 keep:=fun i h h' st k=>by
  obtain ⟨hz,hTI,⟨x,y,hTO⟩,h1,h2⟩:=st
  exact ⟨k z (by simp) _ hz,k TI (by simp) _ hTI,⟨x,y,k TO (by simp) _ hTO⟩,h1.at fun o q=>k i1 (by simp) o q,h2.at fun o q=>k i2 (by simp) o q⟩
 item:=by
  intro X hP hw hK hc i pins s σ H E I hf st hg
  subst hP hw hK
  obtain ⟨hz,hTI,⟨x0,y0,hTO⟩,h1,h2⟩:=st
  obtain ⟨xs,ys,x,y,hqx,hqy,hx,hy⟩:=hg
  obtain ⟨its,rv,p,_⟩:=I.list hqx
  obtain ⟨its2,rv2,p2,_⟩:=I.list hqy
  obtain ⟨u,hu,ru⟩:=rv.get hx
  obtain ⟨u2,hu2,ru2⟩:=rv2.get hy
  have hzl:z < s.heap.objs.size:=Heap.lt_size hz
  refine wpAny_pyNext_zip_item D hz hTI hTO h1 h2 p.isList p2.isList (x:=u) (y:=u2) (by simpa using hu) (by simpa using hu2) fun h' z' TO' h1' h2' hT hsz hk=>?_
  refine ⟨_,rfl,wpAny_letOwnedTupleGo_zip (s:={ s with heap:=h' }) z' fun h'' z'' sb=>?_⟩
  have hT2:h''.get? s.heap.objs.size=some { cls:=.type "tuple",data:=.seq #[u,u2] }:=(sb.2 _ (U6 hzl)).trans hT
  have new:W0 X.prog X.w (upd H s.heap.objs.size (.tup [x,y])) h'' s.heap.objs.size (.tup [x,y]):=
   ⟨by show 2<=sizeLine; decide,[u,u2],.cons ru (.cons ru2 .nil),⟨_,hT2,rfl,_,rfl⟩⟩
  have I1:Inv X pins σ (upd H s.heap.objs.size (.tup [x,y])) { s with heap:=h'' }:=
   I.turnedNew (t':=s.toks) (ch:=[z,TI,TO,i1,i2]) (fun c o hb q=>(sb.2 c (fun q'=>hb (by simp [q']))).trans (hk c o (fun q'=>hb (by simp [q'])) (fun q'=>hb (by simp [q'])) (fun q'=>hb (by simp [q'])) (fun q'=>hb (by simp [q'])) q)) hf (Oq _) new
  refine ⟨.ref s.heap.objs.size,_,I1,rfl,⟨_,x,y,rfl,I.hok.fresh (Oq _),rfl,fun l hl=>by rw [I.list_inj hl hqx]; exact hx,fun l hl=>by rw [I.list_inj hl hqy]; exact hy⟩,⟨z'',?_,⟨u,u2,?_⟩,?_,?_⟩,fun c hcm=>?_⟩
  ·exact (sb.2 _ D.TIz).trans (hk _ _ D.TIz D.TITO D.TIi1 D.TIi2 hTI)
  ·exact (sb.2 _ D.TOz).trans TO'
  ·exact h1'.at fun o q=>(sb.2 _ D.i1z).trans q
  ·exact h2'.at fun o q=>(sb.2 _ D.i2z).trans q
  ·have hlt:c < s.heap.objs.size:=by
    have e':c=z∨c=TI∨c=TO∨c=i1∨c=i2:=by simpa using hcm
    rcases e' with q | q | q | q | q
    ·rw [q]; exact hzl
    ·rw [q]; exact Heap.lt_size hTI
    ·rw [q]; exact Heap.lt_size hTO
    ·rw [q]; obtain ⟨_,e1,_⟩:=h1; exact Heap.lt_size e1
    ·rw [q]; obtain ⟨_,e2,_⟩:=h2; exact Heap.lt_size e2
   rw [ZN (O4 hlt)]
   exact (hf c hcm).1
 done:=by
  intro X hP hw hK hc i pins s σ H E I hf st hg
  subst hP hw hK
  obtain ⟨hz,hTI,⟨x0,y0,hTO⟩,h1,h2⟩:=st
  obtain ⟨xs,ys,hqx,hqy,hend⟩:=hg
  obtain ⟨its,rv,p,_⟩:=I.list hqx
  obtain ⟨its2,rv2,p2,_⟩:=I.list hqy
  have l1:=rv.length
  have l2:=rv2.length
  have he:its.toArray[i]?=none∨its2.toArray[i]?=none:=by
   rcases hend with q | q
   ·exact .inl (by simp; lia)
   ·exact .inr (by simp; lia)
  exact wpAny_pyNext_zip_end (I.ok.hd hc) D hz hTI hTO h1 h2 p.isList p2.isList he fun h' hk=>⟨rfl,I.turnedL (t':=s.toks) (ch:=[z,TI,TO,i1,i2]) (fun c o hb q=>
   hk c o (fun q'=>hb (by simp [q'])) (fun q'=>hb (by simp [q'])) (fun q'=>hb (by simp [q'])) (fun q'=>hb (by simp [q'])) q) hf⟩
 self:=fun A i s Q E st h=>wpAny_pyIter_zip st.1 h
end L2
section
namespace Bits
open PySem PyProof.Rows
end Bits
end
section
namespace TL
open PySem PySem.Builtin PySem.Builtin.Str PySem.StrLaws
abbrev tl (x:Str):List Nat:=x.cps.toList
def pre (S l:List Nat):Bool:=l.take S.length == S
def par (S:List Nat):List Nat->List Nat->Option (List Nat×List Nat)
 | _,[]=>none
 | acc,c :: r=>if pre S (c :: r)=true then some (acc,(c :: r).drop S.length) else par S (acc ++ [c]) r
end TL
end
namespace L2
open PySem PySem.Spec PyProof.Rows
section
variable {X:Cx} {pins:List (Addr×Obj)} {σ:St} {H:Hp} {s:Shared} {Q:VK}
end
section
variable {X:Cx}
end
section
variable {X:Cx} {o e:Expr} {to te:TE}
end
end L2
namespace L2
open PySem PySem.Spec PyProof.Rows
section
variable {X:Cx}
end
end L2
namespace Att
open PySem PySem.W PySem.Calls PyProof.Rows
section
variable {prog:Program} {w:World} {A:Around} {E:Value->Shared->Prop} {s:Shared} {K:Frag}
end
end Att
namespace L2
open PySem PySem.Spec PyProof.Rows
end L2
namespace L2
open PySem PySem.Spec PyProof.Rows
end L2
namespace L2
open PySem PySem.Spec PyProof.Rows
def Zr (s:Stmt) (j:Nat):Stmt:=match s with
 | .ClassDef _ _ _ body _ _ _ _ _ _ _=>body.getD j (.Pass ⟨0,0,0,0⟩)
 | _=>.Pass ⟨0,0,0,0⟩
def J5 (s:Stmt):Arguments:=match s with
 | .FunctionDef _ a _ _ _ _ _ _ _ _=>a
 | _=>{ posonlyargs:=[],args:=[],vararg:=none,kwonlyargs:=[],kw_defaults:=[],kwarg:=none,defaults:=[] }
def WV (s:Stmt):List Stmt:=match s with
 | .FunctionDef _ _ b _ _ _ _ _ _ _=>b
 | _=>[]
def Zj (s:Stmt):Scope:=match s with
 | .FunctionDef _ _ _ _ _ _ sc _ _ _=>sc
 | _=>{ kind:=.function,names:=[],isGenerator:=false,isCoroutine:=false }
abbrev CX0:CXT:=fun _ _ _ _ _ _=>False
abbrev E0:XK:=fun _ _ _=>False
theorem pass0 {X:Cx}:Zb8 CX0 X E0:=fun _ _ _ _ _ _ _ h=>h.elim
structure Fun (K:Oa) (x qual:Str) (st:Stmt) (f:Addr) (fd:FuncData):Prop where
 ex:∃(oc:Value) (od:Option Addr) (kV doc pm:Value) (an:Option Addr) (cdv ct:Value) (osl:Array (Option Value)),
  fd=PySem.W.fnOf x qual (J5 st) (WV st) (Zj st) .none kV doc pm an cdv ct/\K.lookup f=some ⟨oc,od,.func fd,osl⟩/\UO K cdv qual=true
 kp:IY K (.ref f)=true
section
variable {P:Program} {w:World} {K:Oa} {mg:Str->Option Value} {base:Heap}
theorem Fun.ok {x qual:Str} {st:Stmt} {f:Addr} {fd:FuncData} {N ps:List Str} {k:Nat} {sp:Sp} (F:Fun K x qual st f fd) (S:Zs N ps (Zj st)) (len:∀vs H Q E,sp vs H Q E->vs.length=ps.length)
 (hbody:∀(cdv:Value) (A:Around) (outer:List Env) (s:Shared) (H:Hp) (vs:List V) (Q:VK) (E:XK),Qa k (A.deeper (envOfC qual (Zj st) s.heap.objs.size f cdv))->sp vs H Q E->
  ∃t,PSs (cxOf CX0 P w K mg base N qual (Zj st) f cdv A outer s H E).nox (WV st) t/\t { nx:=fun _ H'=>Q .non H',rt:=Q } (start N vs) H):FnOk P w K mg base CX0 (k + 1) f fd ps sp:=by
 obtain ⟨oc,od,kV,doc,pm,an,cdv,ct,osl,rfl,lk,hcd⟩:=F.ex
 refine fn_of lk hcd S len fun A outer s H vs Q E hr hsp=>?_
 obtain ⟨t,h,q⟩:=hbody cdv A outer s H vs Q E hr hsp
 exact ⟨t,h.nox,q⟩
end
section
variable {X:Cx}
theorem pv (i:Nat) {x:Str} {pos:Pos} (hN:X.N[i]?=some x:=by rfl) (hv:Vis X.env.scope x:=by first | exact Or.inl rfl | exact Or.inr (Or.inl rfl) | exact Or.inr (Or.inr rfl)) (hd:(x == ("__debug__":Str))=false:=by decide)
 (hcd:(x == ("__classdict__":Str))=false:=by decide):PE X (.Name x pos) (tVar i):=pe_var hN hv hd hcd
end
theorem Xc {A B:Prop} (h:B):if false=true then A else B:=by
 rw [if_neg Oo]
 exact h
theorem YV {A B:Prop} (h:A):if true=true then A else B:=by
 rw [if_pos rfl]
 exact h
def ZA (H H':Hp):Prop:=∀b o,H b=some o->H' b=some o
theorem ZA.trans {H H1 H2:Hp} (a:ZA H H1) (b:ZA H1 H2):ZA H H2:=fun c o h=>b c o (a c o h)
theorem ZA.free {H H':Hp} (e:ZA H H') {l:Addr} (h:H' l=Option.none):H l=Option.none:=by
 cases q:H l with
 | none=>rfl
 | some o=>
  rw [e l o q] at h
  cases h
theorem ZA.seq {K:Oa} {H H':Hp} {a:Addr} {xs:List V} (e:ZA H H') (h:SqL K H a xs):SqL K H' a xs:=by
 rcases h with (h | ⟨o,h⟩) | h
 ·exact .inl (.inl (e _ _ h))
 ·exact .inl (.inr ⟨o,e _ _ h⟩)
 ·exact .inr h
section
variable {κ:Type} [DecidableEq κ]
end
end L2
namespace L2
open PySem PySem.Spec PyProof.Rows
open PySem.W (WData Codec OpenSpec Well WellAll ReadsW ReadsAllW)
mutual
inductive Dw (K:Oa) (H:Hp):V->WData->Prop
 | non:Dw K H .non .none
 | bl (b:Bool):Dw K H (.bl b) (.bool b)
 | int (i:Int):Dw K H (.int i) (.int i)
 | str (x:Str):Dw K H (.str x) (.str x)
 | byt (b:Array UInt8):Dw K H (.byt b) (.bytes b.toList)
 | lst {a:Addr} {xs:List V} {ds:List WData}:SqL K H a xs->Za6 K H xs ds->Dw K H (.ref a) (.list ds)
 | tup {a:Addr} {xs:List V} {ds:List WData}:SqT K H a xs->Za6 K H xs ds->Dw K H (.ref a) (.tuple ds)
inductive Za6 (K:Oa) (H:Hp):List V->List WData->Prop
 | nil:Za6 K H [] []
 | cons {v:V} {vs:List V} {d:WData} {ds:List WData}:Dw K H v d->Za6 K H vs ds->Za6 K H (v :: vs) (d :: ds)
end
theorem dw_ints {K:Oa} {H:Hp}:∀ns:List Int,Za6 K H (ns.map V.int) (ns.map WData.int)
 | []=>.nil
 | n :: r=>.cons (.int n) (dw_ints r)
theorem ints_dw {K:Oa} {H:Hp}:∀(ns:List Int) (xs:List V),Za6 K H xs (ns.map WData.int)->xs=ns.map V.int
 | [],xs,h=>by
  cases h
  rfl
 | n :: r,xs,h=>by
  cases h with
  | cons h1 h2=>
   cases h1
   rw [ints_dw r _ h2] <;> rfl
section
variable {P:Program} {w:World} {K:Oa} {H:Hp} {h:Heap} {R:PySem.W.WRecords} {cl:Str->Option Addr}
theorem sqL_at {a:Addr} {xs:List V} (hok:HOk P w H h) (KX:K.In h) (q:SqL K H a xs):∃(its:List Value) (o:Obj) (n:Nat),Z8 xs its/\h.get? a=some o/\o.cls=.type "list"/\o.data=.seq its.toArray n:=by
 rcases q with q | ⟨o,its,n,e,hc,_,hd,_,hv⟩
 ·obtain ⟨_,its,n,hv,e⟩:=(show W0 P w H h a (.lst xs) from q.ok hok)
  exact ⟨its,_,n,hv,e,rfl,rfl⟩
 ·exact ⟨its.toList,o,n,hv,KX _ _ e,hc,by simp [hd]⟩
theorem sqT_at {a:Addr} {xs:List V} (hok:HOk P w H h) (KX:K.In h) (q:SqT K H a xs):∃(its:List Value) (o:Obj) (n:Nat),Z8 xs its/\h.get? a=some o/\o.cls=.type "tuple"/\o.data=.seq its.toArray n:=by
 rcases q with q | ⟨o,its,n,e,hc,hd,_,hv⟩
 ·obtain ⟨_,its,hv,o,e,hc,n,hd⟩:=(show W0 P w H h a (.tup xs) from q.ok hok)
  exact ⟨its,o,n,hv,e,hc,hd⟩
 ·exact ⟨its.toList,o,n,hv,KX _ _ e,hc,by simp [hd]⟩
mutual
theorem Dw.reads (hok:HOk P w H h) (KX:K.In h):∀(d:WData) (v:V) (u:Value),Dw K H v d->YE v u->∃as,ReadsW R cl h u d as
 | .none,_,_,x,r=>by
  cases x
  cases r
  exact ⟨_,ReadsW.none⟩
 | .bool b,_,_,x,r=>by
  cases x
  cases r
  exact ⟨_,ReadsW.bool b⟩
 | .int i,_,_,x,r=>by
  cases x
  obtain ⟨t,rfl⟩:=r
  exact ⟨_,ReadsW.int i t⟩
 | .str s,_,_,x,r=>by
  cases x
  obtain ⟨t,rfl⟩:=r
  exact ⟨_,ReadsW.str s t⟩
 | .bytes b,_,_,x,r=>by
  cases x
  obtain ⟨t,rfl⟩:=r
  exact ⟨_,ReadsW.bytes _ t⟩
 | .list ds,_,_,x,r=>by
  cases x with
  | lst hs ha=>
   cases r
   obtain ⟨its,o,n,rv,ho,hc,hd⟩:=sqL_at hok KX hs
   obtain ⟨as,hr⟩:=Dw.readsAll hok KX ds _ its ha rv
   exact ⟨_,ReadsW.list ho hc hd hr⟩
 | .tuple ds,_,_,x,r=>by
  cases x with
  | tup hs ha=>
   cases r
   obtain ⟨its,o,n,rv,ho,hc,hd⟩:=sqT_at hok KX hs
   obtain ⟨as,hr⟩:=Dw.readsAll hok KX ds _ its ha rv
   exact ⟨_,ReadsW.tuple ho hc hd hr⟩
 | .float _,_,_,x,_=>by cases x
 | .dict _,_,_,x,_=>by cases x
 | .bytearray _,_,_,x,_=>by cases x
 | .set _,_,_,x,_=>by cases x
 | .frozenset _,_,_,x,_=>by cases x
 | .obj _ _,_,_,x,_=>by cases x
theorem Dw.readsAll (hok:HOk P w H h) (KX:K.In h):∀(ds:List WData) (vs:List V) (us:List Value),Za6 K H vs ds->Z8 vs us->∃as,ReadsAllW R cl h us ds as
 | [],_,_,x,r=>by
  cases x
  cases r
  exact ⟨_,ReadsAllW.nil⟩
 | d :: ds,_,_,x,r=>by
  cases x with
  | cons h1 h2=>
   cases r with
   | cons r1 r2=>
    obtain ⟨as,q1⟩:=Dw.reads hok KX d _ _ h1 r1
    obtain ⟨bs,q2⟩:=Dw.readsAll hok KX ds _ _ h2 r2
    exact ⟨_,ReadsAllW.cons q1 q2⟩
end
end
mutual
def plW:WData->Bool
 | .none=>true
 | .bool _=>true
 | .int _=>true
 | .str _=>true
 | .bytes _=>true
 | .list xs=>plWs xs
 | .tuple xs=>plWs xs
 | _=>false
def plWs:List WData->Bool
 | []=>true
 | x :: r=>plW x && plWs r
end
theorem plWs_map {α:Type} {f:α->WData} (h:∀a,plW (f a)=true):∀l:List α,plWs (l.map f)=true
 | []=>rfl
 | x :: r=>by
  show (plW (f x) && plWs (r.map f))=true
  rw [h x,plWs_map h r] <;> rfl
theorem Zcs:∀(c:Codec) (a:c.denote),plW (c.enc a)=true
 | .unit,_=>rfl
 | .bool,_=>rfl
 | .int _ _,_=>rfl
 | .nat _ _,_=>rfl
 | .u8,_=>rfl
 | .bytes _ _,_=>rfl
 | .text _ _ _ _,_=>rfl
 | .list _ _ c,a=>plWs_map (fun x=>Zcs c x) a
 | .pair c d,a=>by
  show (plW (c.enc a.1) && (plW (d.enc a.2) && true))=true
  rw [Zcs c a.1,Zcs d a.2] <;> rfl
 | .triple c d e,a=>by
  show (plW (c.enc a.1) && (plW (d.enc a.2.1) && (plW (e.enc a.2.2) && true)))=true
  rw [Zcs c a.1,Zcs d a.2.1,Zcs e a.2.2] <;> rfl
 | .option c,none=>rfl
 | .option c,some x=>Zcs c x
theorem pl_encAll:∀(cs:List Codec) (a:Codec.denoteAll cs),plWs (Codec.encAll cs a)=true
 | [],_=>rfl
 | c :: cs,a=>by
  show (plW (c.enc a.1) && plWs (Codec.encAll cs a.2))=true
  rw [Zcs c a.1,pl_encAll cs a.2] <;> rfl
theorem ZdG:∀{xs:List WData} {d:WData},d∈xs->d.weight<=WData.weightAll xs
 | [],d,h=>absurd h (by simp)
 | x :: r,d,h=>by
  show d.weight<=x.weight + 1 + WData.weightAll r
  rcases ON.mp h with e | m
  ·rw [e]
   lia
  ·have z:=ZdG m
   lia
def toV:Value->V
 | .none=>.non
 | .bool b=>.bl b
 | .int i _=>.int i
 | .str x _=>.str x
 | .bytes b _=>.byt b
 | .ref a=>.ref a
 | _=>.non
def OkU (A:List Addr):Value->Prop
 | .none=>True
 | .bool _=>True
 | .int _ _=>True
 | .str _ _=>True
 | .bytes _ _=>True
 | .ref a=>a∈A
 | _=>False
theorem OkU.mono {A B:List Addr} (h:∀a∈A,a∈B):∀{u:Value},OkU A u->OkU B u:=fun {u} x=>by
 cases u with
 | ref a=>exact h a x
 | none=>trivial
 | bool b=>trivial
 | int i t=>trivial
 | str s t=>trivial
 | bytes b t=>trivial
 | _=>exact False.elim x
theorem relV_toV {A:List Addr} {u:Value} (x:OkU A u):YE (toV u) u:=by
 cases u with
 | ref a=>rfl
 | none=>rfl
 | bool b=>rfl
 | int i t=>exact ⟨t,rfl⟩
 | str s t=>exact ⟨t,rfl⟩
 | bytes b t=>exact ⟨t,rfl⟩
 | _=>exact False.elim x
theorem Zbn {A:List Addr}:∀{vs:List Value},(∀u∈vs,OkU A u)->Z8 (vs.map toV) vs
 | [],_=>.nil
 | u :: r,h=>.cons (relV_toV (h u (Ow ..))) (Zbn fun x hx=>h x (Ov _ hx))
def ZbW (h:Heap) (A:List Addr) (a:Addr):Prop:=∃vs:List Value,vs.length<=sizeLine/\(∀u∈vs,OkU A u)/\
 (h.get? a=some { cls:=.type "list",data:=.seq vs.toArray }∨h.get? a=some { cls:=.type "tuple",data:=.seq vs.toArray })
theorem ZbW.mono {h:Heap} {A B:List Addr} {a:Addr} (k:∀a∈A,a∈B) (x:ZbW h A a):ZbW h B a:=by
 obtain ⟨vs,h1,h2,h3⟩:=x
 exact ⟨vs,h1,fun u hu=>(h2 u hu).mono k,h3⟩
theorem ZaM {P:Params} {h:Heap}:∀{vs:List Value} {ds:List WData},WellAll P h vs ds->vs.length=ds.length
 | _,_,.nil=>rfl
 | _,_,.cons _ b=>by
  show _ + 1=_ + 1
  rw [ZaM b]
theorem well_list {P:Params} {h:Heap} {v:Value} {ds:List WData} (x:Well P h v (.list ds)):∃(a:Addr) (vs:List Value),v=.ref a/\h.get? a=some { cls:=.type "list",data:=.seq vs.toArray }/\WellAll P h vs ds:=by
 cases x with
 | list ho hall=>exact ⟨_,_,rfl,ho,hall⟩
theorem ZgB {P:Params} {h:Heap} {v:Value} {ds:List WData} (x:Well P h v (.tuple ds)):∃(a:Addr) (vs:List Value),v=.ref a/\h.get? a=some { cls:=.type "tuple",data:=.seq vs.toArray }/\WellAll P h vs ds:=by
 cases x with
 | tuple ho hall=>exact ⟨_,_,rfl,ho,hall⟩
theorem well_cons {P:Params} {h:Heap} {us:List Value} {d:WData} {ds:List WData} (x:WellAll P h us (d :: ds)):∃(v:Value) (vs:List Value),us=v :: vs/\Well P h v d/\WellAll P h vs ds:=by
 cases x with
 | cons a b=>exact ⟨_,_,rfl,a,b⟩
theorem line_of {n:Nat} (h:n<=1048576):n<=sizeLine:=OD h (by decide)
section
variable {P:Params} {h:Heap}
mutual
theorem area_one:∀(d:WData) (v:Value),Well P h v d->plW d=true->d.weight<=1048576->∃A:List Addr,OkU A v/\∀a∈A,ZbW h A a
 | .none,_,x,_,_=>by
  cases x
  exact ⟨[],trivial,fun a m=>absurd m (by simp)⟩
 | .bool b,_,x,_,_=>by
  cases x
  exact ⟨[],trivial,fun a m=>absurd m (by simp)⟩
 | .int i,_,x,_,_=>by
  cases x
  exact ⟨[],trivial,fun a m=>absurd m (by simp)⟩
 | .str s,_,x,_,_=>by
  cases x
  exact ⟨[],trivial,fun a m=>absurd m (by simp)⟩
 | .bytes b,_,x,_,_=>by
  cases x
  exact ⟨[],trivial,fun a m=>absurd m (by simp)⟩
 | .list ds,_,x,p,z=>by
  obtain ⟨a,vs,rfl,ho,hall⟩:=well_list x
  have z2:WData.weightAll ds<=1048576:=z
  obtain ⟨A,h1,h2⟩:=ZdM ds _ hall p fun d hd=>OD (ZdG hd) z2
  have k:∀b∈A,b∈a :: A:=fun b hb=>Ov _ hb
  refine ⟨a :: A,Ow ..,fun b hb=>?_⟩
  rcases ON.mp hb with e | m
  ·rw [e]
   exact ⟨vs,line_of (by rw [ZaM hall]; exact OD (PySem.W.length_le_weightAllW ds) z2),fun u hu=>(h1 u hu).mono k,.inl ho⟩
  ·exact (h2 b m).mono k
 | .tuple ds,_,x,p,z=>by
  obtain ⟨a,vs,rfl,ho,hall⟩:=ZgB x
  have z2:WData.weightAll ds<=1048576:=z
  obtain ⟨A,h1,h2⟩:=ZdM ds _ hall p fun d hd=>OD (ZdG hd) z2
  have k:∀b∈A,b∈a :: A:=fun b hb=>Ov _ hb
  refine ⟨a :: A,Ow ..,fun b hb=>?_⟩
  rcases ON.mp hb with e | m
  ·rw [e]
   exact ⟨vs,line_of (by rw [ZaM hall]; exact OD (PySem.W.length_le_weightAllW ds) z2),fun u hu=>(h1 u hu).mono k,.inr ho⟩
  ·exact (h2 b m).mono k
 | .float _,_,_,p,_=>Il (show false=true from p)
 | .dict _,_,_,p,_=>Il (show false=true from p)
 | .bytearray _,_,_,p,_=>Il (show false=true from p)
 | .set _,_,_,p,_=>Il (show false=true from p)
 | .frozenset _,_,_,p,_=>Il (show false=true from p)
 | .obj _ _,_,_,p,_=>Il (show false=true from p)
theorem ZdM:∀(ds:List WData) (vs:List Value),WellAll P h vs ds->plWs ds=true->(∀d∈ds,d.weight<=1048576)->∃A:List Addr,(∀u∈vs,OkU A u)/\∀a∈A,ZbW h A a
 | [],_,x,_,_=>by
  cases x
  exact ⟨[],fun u m=>absurd m (by simp),fun a m=>absurd m (by simp)⟩
 | d :: ds,_,x,p,z=>by
  obtain ⟨v,vs,rfl,x1,x2⟩:=well_cons x
  have q:plW d=true/\plWs ds=true:=UQ.mp p
  obtain ⟨A,a1,a2⟩:=area_one d v x1 q.1 (z d (Ow ..))
  obtain ⟨B,b1,b2⟩:=ZdM ds vs x2 q.2 fun e he=>z e (Ov _ he)
  have kA:∀b∈A,b∈A ++ B:=fun b hb=>IG.mpr (.inl hb)
  have kB:∀b∈B,b∈A ++ B:=fun b hb=>IG.mpr (.inr hb)
  refine ⟨A ++ B,fun u hu=>?_,fun b hb=>?_⟩
  ·rcases ON.mp hu with e | m
   ·rw [e]
    exact a1.mono kA
   ·exact (b1 u m).mono kB
  ·rcases IG.mp hb with m | m
   ·exact (a2 b m).mono kA
   ·exact (b2 b m).mono kB
end
end
def hoOf (o:Obj):Option HO:=match o.data with
 | .seq vs _=>if (o.cls == Value.type "list")=true then some (.frz o (.lst (vs.toList.map toV))) else some (.frz o (.tup (vs.toList.map toV)))
 | _=>none
def ZbB (K:Oa) (h:Heap) (A:List Addr):Hp:=fun b=>if b∈A then (if (K.lookup b).isNone=true then (h.get? b).bind hoOf else none) else none
def OnlyF (H:Hp):Prop:=∀b,H b=none∨∃o u,H b=some (.frz o u)
theorem hoOf_lst (vs:List Value):hoOf { cls:=.type "list",data:=.seq vs.toArray }=some (.frz { cls:=.type "list",data:=.seq vs.toArray } (.lst (vs.map toV))):=by
 show (if (Value.type "list" == Value.type "list")=true then some (HO.frz { cls:=.type "list",data:=.seq vs.toArray } (.lst (vs.toArray.toList.map toV))) else some (HO.frz { cls:=.type "list",data:=.seq vs.toArray } (.tup (vs.toArray.toList.map toV))))=_
 rw [if_pos (beq_self_eq_true _)]
theorem hoOf_tup (vs:List Value):hoOf { cls:=.type "tuple",data:=.seq vs.toArray }=some (.frz { cls:=.type "tuple",data:=.seq vs.toArray } (.tup (vs.map toV))):=by
 show (if (Value.type "tuple" == Value.type "list")=true then some (HO.frz { cls:=.type "tuple",data:=.seq vs.toArray } (.lst (vs.toArray.toList.map toV))) else some (HO.frz { cls:=.type "tuple",data:=.seq vs.toArray } (.tup (vs.toArray.toList.map toV))))=_
 rw [if_neg (by decide)]
section
variable {P:Program} {w:World} {K:Oa} {h:Heap} {A:List Addr}
theorem Zfs {b:Addr} {o:Obj} (hb:b∈A) (hk:K.lookup b=none) (e:h.get? b=some o):ZbB K h A b=hoOf o:=by
 unfold ZbB
 rw [if_pos hb,hk,if_pos (show (none:Option Obj).isNone=true from rfl),e] <;> rfl
theorem of_argH {b:Addr} {u:HO} (q:ZbB K h A b=some u):b∈A/\K.lookup b=none:=by
 unfold ZbB at q
 by_cases hb:b∈A
 ·rw [if_pos hb] at q
  cases hk:K.lookup b with
  | none=>exact ⟨hb,rfl⟩
  | some o=>
   rw [hk,if_neg (by simp)] at q
   cases q
 ·rw [if_neg hb] at q
  cases q
theorem Zft (ar:∀a∈A,ZbW h A a) {b:Addr} {u:HO} (q:ZbB K h A b=some u):K.lookup b=none/\∃vs:List Value,vs.length<=sizeLine/\(∀u∈vs,OkU A u)/\
 ((h.get? b=some { cls:=.type "list",data:=.seq vs.toArray }/\u=.frz { cls:=.type "list",data:=.seq vs.toArray } (.lst (vs.map toV)))∨
  (h.get? b=some { cls:=.type "tuple",data:=.seq vs.toArray }/\u=.frz { cls:=.type "tuple",data:=.seq vs.toArray } (.tup (vs.map toV)))):=by
 obtain ⟨hb,hk⟩:=of_argH q
 obtain ⟨vs,h1,h2,h3⟩:=ar b hb
 refine ⟨hk,vs,h1,h2,?_⟩
 rcases h3 with e | e
 ·rw [Zfs hb hk e,hoOf_lst] at q
  exact .inl ⟨e,(Option.some.inj q).symm⟩
 ·rw [Zfs hb hk e,hoOf_tup] at q
  exact .inr ⟨e,(Option.some.inj q).symm⟩
theorem argH_only (ar:∀a∈A,ZbW h A a):OnlyF (ZbB K h A):=fun b=>by
 cases q:ZbB K h A b with
 | none=>exact .inl rfl
 | some u=>
  obtain ⟨_,vs,_,_,⟨_,e⟩ | ⟨_,e⟩⟩:=Zft ar q
  ·exact .inr ⟨_,_,by rw [e]⟩
  ·exact .inr ⟨_,_,by rw [e]⟩
theorem argH_ok (ar:∀a∈A,ZbW h A a):HOk P w (ZbB K h A) h:=fun b u q=>by
 obtain ⟨_,vs,h1,h2,⟨e,rfl⟩ | ⟨e,rfl⟩⟩:=Zft ar q
 ·exact ⟨e,by rw [Od]; exact h1,vs,_,Zbn h2,e⟩
 ·exact ⟨e,by rw [Od]; exact h1,vs,Zbn h2,_,e,rfl,_,rfl⟩
theorem ZfC {c c':Value} {vs us:List Value} (e:(some { cls:=c,data:=.seq vs.toArray }:Option Obj)=some { cls:=c',data:=.seq us.toArray }):c=c'/\vs=us:=by
 have e1:=Option.some.inj e
 have e2:c=c':=congrArg Obj.cls e1
 have e3:Data.seq vs.toArray=Data.seq us.toArray:=congrArg Obj.data e1
 injection e3 with e4
 refine ⟨e2,?_⟩
 have e5:=congrArg Array.toList e4
 simpa using e5
theorem argL (KX:K.In h) (ar:∀a∈A,ZbW h A a) {a:Addr} {vs:List Value} (ha:a∈A) (e:h.get? a=some { cls:=.type "list",data:=.seq vs.toArray }):(∀u∈vs,OkU A u)/\SqL K (ZbB K h A) a (vs.map toV):=by
 obtain ⟨us,h1,h2,h3⟩:=ar a ha
 have hu:us=vs:=by
  rcases h3 with q | q
  ·rw [e] at q
   exact (ZfC q).2.symm
  ·rw [e] at q
   exact absurd (Value.type.inj (ZfC q).1) (by decide)
 subst hu
 refine ⟨h2,?_⟩
 cases hk:K.lookup a with
 | none=>exact .inl (.inr ⟨_,by rw [Zfs ha hk e,hoOf_lst]⟩)
 | some o=>
  have e2:=KX a o hk
  rw [e] at e2
  obtain rfl:=Option.some.inj e2
  exact .inr ⟨_,us.toArray,_,hk,rfl,rfl,rfl,by rw [OC]; exact h1,by simpa using Zbn h2⟩
theorem argT (KX:K.In h) (ar:∀a∈A,ZbW h A a) {a:Addr} {vs:List Value} (ha:a∈A) (e:h.get? a=some { cls:=.type "tuple",data:=.seq vs.toArray }):(∀u∈vs,OkU A u)/\SqT K (ZbB K h A) a (vs.map toV):=by
 obtain ⟨us,h1,h2,h3⟩:=ar a ha
 have hu:us=vs:=by
  rcases h3 with q | q
  ·rw [e] at q
   exact absurd (Value.type.inj (ZfC q).1) (by decide)
  ·rw [e] at q
   exact (ZfC q).2.symm
 subst hu
 refine ⟨h2,?_⟩
 cases hk:K.lookup a with
 | none=>exact .inl (.inr ⟨_,by rw [Zfs ha hk e,hoOf_tup]⟩)
 | some o=>
  have e2:=KX a o hk
  rw [e] at e2
  obtain rfl:=Option.some.inj e2
  exact .inr ⟨_,us.toArray,_,hk,rfl,rfl,by rw [OC]; exact h1,by simpa using Zbn h2⟩
mutual
theorem dw_one {Pm:Params} (KX:K.In h) (ar:∀a∈A,ZbW h A a):∀(d:WData) (v:Value),Well Pm h v d->plW d=true->OkU A v->Dw K (ZbB K h A) (toV v) d
 | .none,_,x,_,_=>by
  cases x
  exact .non
 | .bool b,_,x,_,_=>by
  cases x
  exact .bl b
 | .int i,_,x,_,_=>by
  cases x
  exact .int i
 | .str s,_,x,_,_=>by
  cases x
  exact .str s
 | .bytes b,_,x,_,_=>by
  cases x
  have z:=Dw.byt (K:=K) (H:=ZbB K h A) b.toArray
  exact z
 | .list ds,_,x,p,hu=>by
  obtain ⟨a,vs,rfl,ho,hall⟩:=well_list x
  obtain ⟨h2,hs⟩:=argL KX ar hu ho
  exact .lst hs (dw_all KX ar ds _ hall p h2)
 | .tuple ds,_,x,p,hu=>by
  obtain ⟨a,vs,rfl,ho,hall⟩:=ZgB x
  obtain ⟨h2,hs⟩:=argT KX ar hu ho
  exact .tup hs (dw_all KX ar ds _ hall p h2)
 | .float _,_,_,p,_=>Il (show false=true from p)
 | .dict _,_,_,p,_=>Il (show false=true from p)
 | .bytearray _,_,_,p,_=>Il (show false=true from p)
 | .set _,_,_,p,_=>Il (show false=true from p)
 | .frozenset _,_,_,p,_=>Il (show false=true from p)
 | .obj _ _,_,_,p,_=>Il (show false=true from p)
theorem dw_all {Pm:Params} (KX:K.In h) (ar:∀a∈A,ZbW h A a):∀(ds:List WData) (vs:List Value),WellAll Pm h vs ds->plWs ds=true->(∀u∈vs,OkU A u)->Za6 K (ZbB K h A) (vs.map toV) ds
 | [],_,x,_,_=>by
  cases x
  exact .nil
 | d :: ds,_,x,p,hu=>by
  obtain ⟨v,vs,rfl,x1,x2⟩:=well_cons x
  have q:plW d=true/\plWs ds=true:=UQ.mp p
  exact .cons (dw_one KX ar d v x1 q.1 (hu _ (Ow ..))) (dw_all KX ar ds vs x2 q.2 fun u m=>hu u (Ov _ m))
end
end
theorem spec_call {P:Program} {w:World} {K:Oa} {mg mb:Str->Option Value} {CX:CXT} {k:Nat} {fa:Addr} {fd:FuncData} {ps:List Str} {sp:Sp} {s₁:Shared} {vals:List Value} {ds:List WData} {R:PySem.W.WRecords} {cl:Str->Option Addr} {d0:WData}
 (KX:K.In s₁.heap) (hns:s₁.heap.Ns mainGlobals mg) (hb:s₁.heap.Ns builtinsNs mb) (hbb:∀x:Str,x≠"__name__"->mb x=bootBuiltins x) (hlim:s₁.heap.NoLimit) (hg:s₁.gens=#[])
 (hwl:WellAll w.params s₁.heap vals ds) (hpl:plWs ds=true) (hwt:∀d∈ds,d.weight<=1048576) (hr:Qa k callerA)
 (F:∀base:Heap,K.In base->base.Ns mainGlobals mg->FnOk P w K mg base CX k fa fd ps sp) (hbind:∀(s:Shared) (us:List Value),us.length=ps.length->BindsTo s fd ⟨us,[]⟩ (ps.zip us)) (hlen:ds.length=ps.length)
 (hsp:∀(H:Hp) (xs:List V),OnlyF H->Za6 K H xs ds->sp xs H (fun v H'=>Dw K H' v d0) fun _ _ _=>False)
 (hCX:∀H e s',CX [] H s₁ (fun _ _ _=>False) e s'->False) :
 codeAny (model P w) callerA (.call (.ref fa) ⟨vals,[]⟩) (fun r s'=>∃u as,r=.ok (.ret u)/\ReadsW R cl s'.heap u d0 as/\OldK s₁.heap s'.heap/\s'.os=s₁.os/\AllBare s'.gens) s₁:=by
 obtain ⟨A,ho,ar⟩:=ZdM ds vals hwl hpl hwt
 have hO:OnlyF (ZbB K s₁.heap A):=argH_only ar
 have hok:HOk P w (ZbB K s₁.heap A) s₁.heap:=argH_ok ar
 have hS:=dw_all KX ar ds vals hwl hpl ho
 have hV:=Zbn ho
 have hK:∀b u,ZbB K s₁.heap A b=some u->K.lookup b=none:=fun b u q=>(Zft ar q).1
 have noA:∀{b:Addr} {o:Obj} {es:Array DictEntry} {ep:Nat},s₁.heap.get? b=some o->o.data=.dict es ep->ZbB K s₁.heap A b=none:=fun {b o es ep} e d=>by
  cases q:ZbB K s₁.heap A b with
  | none=>rfl
  | some u=>
   obtain ⟨_,vs,_,_,⟨e2,_⟩ | ⟨e2,_⟩⟩:=Zft ar q
   ·rw [e2] at e
    cases e
    have d':Data.seq vs.toArray _=Data.dict es ep:=d
    cases d'
   ·rw [e2] at e
    cases e
    have d':Data.seq vs.toArray _=Data.dict es ep:=d
    cases d'
 generalize ZbB K s₁.heap A=H at hO hok hS hK noA
 have base_of:∀{b:Addr} {o:Obj},s₁.heap.get? b=some o->H b=none->(hidT s₁.heap H).get? b=some o:=fun e n=>hidT_get e n
 have nsK:∀{b:Addr} {m:Str->Option Value},s₁.heap.Ns b m->(hidT s₁.heap H).Ns b m:=fun {b m} ⟨o,es,ep,e,d,r⟩=>⟨o,es,ep,base_of e (noA e d),d,r⟩
 have nK:∀b o,K.lookup b=some o->H b=none:=fun b o e=>by
  cases q:H b with
  | none=>rfl
  | some u=>
   rw [hK b u q] at e
   cases e
 have hKb:K.In (hidT s₁.heap H):=fun b o e=>base_of (KX b o e) (nK b o e)
 have hM:Mod K mg (hidT s₁.heap H):=⟨hKb,nsK hns,⟨mb,nsK hb,hbb⟩,let ⟨mc,h1,h2⟩:=hlim; ⟨mc,nsK h1,h2⟩⟩
 have e0:Env0 P w K mg (hidT s₁.heap H) callerA [] s₁ H:=⟨rfl,hM,fun b o e=>of_hidT e,VA (hidT_size _ _),trivial,fun b hb=>absurd (show b∈([]:List Addr) from hb) (by simp),hok,.of_eq hg⟩
 have hl:vals.length=ps.length:=by rw [ZaM hwl]; exact hlen
 refine codeAny_mono ((F _ hKb (nsK hns)).run callerA [] s₁ H ⟨vals,[]⟩ vals (vals.map toV) _ _ hr e0 (hbind s₁ vals hl) hV (hsp H _ hO hS)) fun r s' x=>?_
 cases r with
 | error e=>exact (hCX H e s' x).elim
 | ok fl=>
  cases fl with
  | next=>exact False.elim x
  | brk=>exact False.elim x
  | cont=>exact False.elim x
  | ret u=>
   obtain ⟨v,H',os,bare,un,hok',r',q⟩:=x
   have kept:∀b o,s₁.heap.get? b=some o->s'.heap.get? b=some o:=fun b o e=>by
    cases q2:H b with
    | none=>exact un.keep b o e q2 (by intro z; exact absurd (show b∈([]:List Addr) from z) (by simp)) (by simp)
    | some u2=>
     rcases hO b with z | ⟨ob,u3,z⟩
     ·rw [q2] at z
      cases z
     ·have z2:=un.frzs b ob _ z
      obtain ⟨e1,_⟩:=hok b _ z
      obtain ⟨e2,_⟩:=hok' b _ z2
      rw [e] at e1
      cases e1
      exact e2
   have KX':K.In s'.heap:=fun b o e=>kept b o (KX b o e)
   obtain ⟨as,hrd⟩:=Dw.reads (R:=R) (cl:=cl) hok' KX' d0 v u q r'
   exact ⟨u,as,rfl,hrd,OldK.of_keep kept,os,bare⟩
theorem Zf1 {ds:List WData} (h:WData.layableAll ds=true):∀d∈ds,d.weight<=1048576:=fun d hd=>
 (PySem.W.layableW_iff.mp (Iw.mp h d hd)).2.2
theorem ZfV:∀(cs:List Codec) (a:Codec.denoteAll cs),(Codec.encAll cs a).length=cs.length
 | [],_=>rfl
 | c :: cs,a=>by
  show (Codec.encAll cs a.2).length + 1=cs.length + 1
  rw [ZfV cs a.2]
theorem walk_spec {r:OpenSpec} {k:Nat} {q:Program} {loose:List Str} {XP:(Str->Option Value)->Heap->Prop} {YP:World->Heap->Prop} {d:DefRec} {K:Params->Oa} {CX:World->CXT} {ps:List Str} {sp:World->Sp}
 (hwell:r.wellSaid=true) (hdf:d.params.defaults=[]) (hlen:r.args.length=ps.length) (hr:Qa k callerA)
 (hY:∀(w:World) (h:Heap),YP w h->(K w.params).In h)
 (F:∀(w:World) (mg:Str->Option Value) (fa:Addr) (h:Heap),YP w h->(K w.params).In h->h.Ns mainGlobals mg->mg d.name=some (.ref fa)->
  ∃fd:FuncData,(∀(s:Shared) (us:List Value),us.length=ps.length->BindsTo s fd ⟨us,[]⟩ (ps.zip us))/\
   ∀base:Heap,(K w.params).In base->base.Ns mainGlobals mg->FnOk r.prog w (K w.params) mg base (CX w) k fa fd ps (sp w))
 (hsp:∀(w:World) (H:Hp) (xs:List V) (a:Codec.denoteAll r.args),OnlyF H->Codec.withinAll r.args a=true->Codec.app r.args r.asked a=true->Za6 (K w.params) H xs (Codec.encAll r.args a)->
  sp w xs H (fun v H'=>Dw (K w.params) H' v (r.ret.enc (Codec.app r.args r.f a))) fun _ _ _=>False)
 (hCX:∀(w:World) (H:Hp) (s:Shared) (e:Value) (s':Shared),CX w [] H s (fun _ _ _=>False) e s'->False) :
 PySem.W.WalkOS q loose XP YP r d [] (fun f vs=>PySem.call f vs):=by
 intro w s_0 s₁ mg mb G Y fa o pm cd doc dV kV ho hd hcd hD hmg hg args vals as hpre hlay hrd hwl hlo
 obtain ⟨a,e1,e2⟩:=PySem.W.os_pre_some hpre
 obtain ⟨e3,hwi⟩:=Codec.encAll_of_decAll r.args args a e1
 subst e3
 have KX:=hY w _ Y
 obtain ⟨fd,hb,hF⟩:=F w mg fa _ Y KX G.T.g hmg
 refine PySem.W.enter_call (codeAny_mono (spec_call (R:=[]) (cl:=classAt s_0.heap) (d0:=r.ret.enc (Codec.app r.args r.f a)) KX G.T.g G.T.b G.T.builtins G.T.nolimit hg hwl (pl_encAll _ _) (Zf1 hlay) hr hF hb (by rw [ZfV]; exact hlen)
  (fun H xs hO hS=>hsp w H xs a hO hwi e2 hS) fun H e s'=>hCX w H s₁ e s') fun r' s' hq=>?_)
 obtain ⟨u,as',rfl,h1,h2,h3,h4⟩:=hq
 exact ⟨.inl ⟨u,_,as',rfl,fun _=>rfl,h1,(OpenSpec.post_iff hwell hwi _ _).mpr rfl,fun z=>Il (show false=true from z)⟩,h2,h3,h4⟩
theorem walk_specK {r:OpenSpec} {k:Nat} {q:Program} {loose:List Str} {XP:(Str->Option Value)->Heap->Prop} {YP:World->Heap->Prop} {d:DefRec} {K:Params->Oa} {CX:CXT} {ps:List Str} {sp:Oa->Sp}
 (hwell:r.wellSaid=true) (hdf:d.params.defaults=[]) (hlen:r.args.length=ps.length) (hr:Qa k callerA)
 (hY:∀(w:World) (h:Heap),YP w h->(K w.params).In h)
 (F:∀(w:World) (mg:Str->Option Value) (fa:Addr) (h:Heap),YP w h->(K w.params).In h->h.Ns mainGlobals mg->mg d.name=some (.ref fa)->
  ∃fd:FuncData,(∀(s:Shared) (us:List Value),us.length=ps.length->BindsTo s fd ⟨us,[]⟩ (ps.zip us))/\
   ∀base:Heap,(K w.params).In base->base.Ns mainGlobals mg->FnOk r.prog w (K w.params) mg base CX k fa fd ps (sp (K w.params)))
 (hsp:∀(K:Oa) (H:Hp) (xs:List V) (a:Codec.denoteAll r.args),OnlyF H->Codec.withinAll r.args a=true->Codec.app r.args r.asked a=true->Za6 K H xs (Codec.encAll r.args a)->
  sp K xs H (fun v H'=>Dw K H' v (r.ret.enc (Codec.app r.args r.f a))) fun _ _ _=>False)
 (hCX:∀(H:Hp) (s:Shared) (e:Value) (s':Shared),CX [] H s (fun _ _ _=>False) e s'->False) :
 PySem.W.WalkOS q loose XP YP r d [] (fun f vs=>PySem.call f vs):=
 walk_spec (K:=K) (CX:=fun _=>CX) (sp:=fun w=>sp (K w.params)) hwell hdf hlen hr hY F (fun w H xs a h1 h2 h3 h4=>hsp (K w.params) H xs a h1 h2 h3 h4) fun _ H s e s'=>hCX H s e s'
end L2
namespace Oc
open PySem PySem.Spec PyProof.Rows L2
theorem Zq {X:Cx} (i:Nat) {x:Str} {e:Expr} {te:TE} {pos pos':Pos} (hN:X.N.Nodup) (he:PE X e te) (hi:X.N[i]?=some x:=by rfl) (hx:Loc X.env.scope x:=by first | exact Or.inl rfl | exact Or.inr rfl) (hs:swapsWith e (some (.Name x pos')) pos.line X.env=pure false:=by rfl) (hf:X.fn x=true∨X.env.scope.names.lookup x=some .local:=by first | exact .inl rfl | exact .inr rfl):PS X (.Assign [.Name x pos'] e pos) (tAsg te (JX i)):=ps_set hN hi hx he hs hf
theorem ZW {X:Cx} (i:Nat) {x:Str} {pos:Pos} (hN:X.N.Nodup) (hi:X.N[i]?=some x:=by rfl) (hx:Loc X.env.scope x:=by first | exact Or.inl rfl | exact Or.inr rfl) (hf:X.fn x=true∨X.env.scope.names.lookup x=some .local:=by first | exact .inl rfl | exact .inr rfl):PG X (.Name x pos) (JX i):=pg_name hN hi hx hf
theorem qs_aug {X:Cx} (i:Nat) {x:Str} {e:Expr} {te:TE} {op:Operator} {ti:TIp} {pos pos':Pos} (hN:X.N.Nodup) (he:PE X e te) (ho:PIp X op ti) (hi:X.N[i]?=some x:=by rfl) (hx:Loc X.env.scope x:=by first | exact Or.inl rfl | exact Or.inr rfl) (hf:X.fn x=true∨X.env.scope.names.lookup x=some .local:=by first | exact .inl rfl | exact .inr rfl):PS X (.AugAssign (.Name x pos') op e pos) (tAug i te ti):=ps_aug hN hi hx he ho hf
theorem Zy {X:Cx} {a b:Expr} {ta tb:TE} {pos:Pos} {r:R2} (hr:IxR X r) (ha:PE X a ta) (hb:PE X b tb) (hs:PlainIx b:=by exact fun _ _=>rfl):PE X (.Subscript a b pos) (tOp r ta tb):=pe_ix hr ha hb hs
theorem qsc {N P:List Str} {sc:Scope} (h1:sc.kind=.function:=by rfl) (h2:sc.isCoroutine=false:=by rfl) (h3:sc.isGenerator=false:=by rfl) (h4:N.Nodup:=by decide +kernel) (h5:N.take P.length=P:=by rfl) (h6:∀x∈P,sc.names.lookup x=some .local∨sc.names.lookup x=some .cell:=by decide +kernel) (h7:∀y∈sc.names,y.2≠.free:=by decide +kernel):Zs N P sc:=⟨h1,h2,h3,h4,h5,h6,h7⟩
abbrev St:=L2.St
def top (i:Nat):Stmt:=PySem.Challenge.pw_oncecodes_s01_answers.main.body.getD i (.Pass ⟨0,0,0,0⟩)
abbrev N_ (n:Nat):V:=.int (n:Int)
theorem b_and (a b:Nat):Builtin.bitAnd (a:Int) (b:Int)=((a &&& b:Nat):Int):=by
 unfold Builtin.bitAnd
 simp
theorem b_or (a b:Nat):Builtin.bitOr (a:Int) (b:Int)=((a ||| b:Nat):Int):=by
 rw [PyProof.Rows.bitOr_and,b_and]
 have:=PyProof.Rows.nat_or_add_and a b
 lia
theorem nat_xor_and (m:Nat):∀n:Nat,(m ^^^ n) + 2 * (m &&& n)=m + n:=by
 induction m using Nat.strongRecOn with
 | ind m ih=>
  intro n
  by_cases h0:m=0
  ·subst h0; simp
  ·have ih':=ih (m / 2) (by lia) (n / 2)
   rw [<- xor_half,<- Nat.and_div_two] at ih'
   have o1:=ZgF m n
   have a1:=@Nat.and_mod_two_eq_one m n
   lia
theorem b_xor (a b:Nat):Builtin.bitXor (a:Int) (b:Int)=((a ^^^ b:Nat):Int):=by
 unfold Builtin.bitXor
 rw [PyProof.Rows.bitOr_and,b_and]
 have:=nat_xor_and a b
 lia
theorem ZdA {X:Cx} {f:Value->Value->Sem Value} {r r':R2} (h:OpR X f r) (i:∀x y H Q,r' x y H Q->r x y H Q):OpR X f r':=
 fun pins s σ H x y v u Q I rx ry q=>h pins s σ H x y v u Q I rx ry (i x y H Q q)
def rN (C:Nat->Nat->Prop) (g:Nat->Nat->V):R2:=fun x y H Q=>∃a b:Nat,x=N_ a/\y=N_ b/\C a b/\Q (g a b) H
abbrev Yes2:Nat->Nat->Prop:=fun _ _=>True
theorem rd_rN {C:Nat->Nat->Prop} {g:Nat->Nat->V} {a b:Nat} {H:Hp} {Q:VK} (h:Q (g a b) H) (hc:C a b):rN C g (N_ a) (N_ b) H Q:=⟨a,b,rfl,rfl,hc,h⟩
theorem rd_rY {g:Nat->Nat->V} {a b:Nat} {H:Hp} {Q:VK} (h:Q (g a b) H):rN Yes2 g (N_ a) (N_ b) H Q:=⟨a,b,rfl,rfl,trivial,h⟩
section
variable {X:Cx}
theorem ZeN {f:Value->Value->Sem Value} {C:Int->Int->Prop} {g:Int->Int->V} {C':Nat->Nat->Prop} {g':Nat->Nat->V} (h:OpR X f (rI C g)) (i:∀a b:Nat,C' a b->C a b/\g a b=g' a b):OpR X f (rN C' g'):=
 ZdA h fun x y H Q ⟨a,b,h1,h2,hc,q⟩=>⟨a,b,h1,h2,(i a b hc).1,(i a b hc).2 ▸ q⟩
theorem Q7 {f:Value->Value->Sem Value} {g:Int->Int->V} {C':Nat->Nat->Prop} {g':Nat->Nat->V} (h:OpR X f (rI0 g)) (i:∀a b:Nat,C' a b->g a b=g' a b):OpR X f (rN C' g'):=
 ZdA h fun x y H Q ⟨a,b,h1,h2,hc,q⟩=>⟨a,b,h1,h2,(i a b hc) ▸ q⟩
theorem ZgA (k:Nat):(2:Int) ^ k=((2 ^ k:Nat):Int):=by simp
theorem Q9:OpR X (binaryOp .BitOr) (rN Yes2 fun a b=>N_ (a ||| b)):=Q7 op_or fun a b _=>congrArg V.int (b_or a b)
theorem ZZ:OpR X (binaryOp .BitAnd) (rN Yes2 fun a b=>N_ (a &&& b)):=Q7 op_and fun a b _=>congrArg V.int (b_and a b)
theorem ZK:OpR X (binaryOp .BitXor) (rN Yes2 fun a b=>N_ (a ^^^ b)):=Q7 op_xor fun a b _=>congrArg V.int (b_xor a b)
theorem Z7:OpR X (binaryOp .Add) (rN Yes2 fun a b=>N_ (a + b)):=Q7 op_add fun a b _=>congrArg V.int (Uz a b).symm
theorem Zfw:OpR X (inplaceOp .Add) (rN Yes2 fun a b=>N_ (a + b)):=Q7 iop_add fun a b _=>congrArg V.int (Uz a b).symm
theorem Xg:OpR X (binaryOp .Sub) (rN (fun a b=>b<=a) fun a b=>N_ (a - b)):=Q7 op_sub fun a b h=>congrArg V.int (Tf h).symm
theorem ion_sub:OpR X (inplaceOp .Sub) (rN (fun a b=>b<=a) fun a b=>N_ (a - b)):=Q7 iop_sub fun a b h=>congrArg V.int (Tf h).symm
theorem Q8:OpR X (binaryOp .Mult) (rN (fun a _=>a < 2 ^ 64) fun a b=>N_ (a * b)):=ZeN op_mul fun a b (h:a < 2 ^ 64)=>⟨.inl ⟨by lia,by lia⟩,congrArg V.int (Vv a b).symm⟩
theorem on_mulR:OpR X (binaryOp .Mult) (rN (fun _ b=>b < 2 ^ 64) fun a b=>N_ (a * b)):=ZeN op_mul fun a b (h:b < 2 ^ 64)=>⟨.inr ⟨by omega,by omega⟩,congrArg V.int (Vv a b).symm⟩
theorem ZeO:OpR X (binaryOp .FloorDiv) (rN (fun _ b=>0 < b/\b < 1073741824) fun a b=>N_ (a / b)):=ZeN op_fdiv fun a b (h:0 < b/\b < 1073741824)=>⟨⟨by simp [*],by lia⟩,congrArg V.int (Int.natCast_ediv a b).symm⟩
theorem ZeP:OpR X (binaryOp .Mod) (rN (fun _ b=>0 < b) fun a b=>N_ (a % b)):=ZeN op_mod fun a b (h:0 < b)=>⟨by exact qw37,congrArg V.int (UR a b).symm⟩
theorem Z4:OpR X (binaryOp .RShift) (rN Yes2 fun a b=>N_ (a / 2 ^ b)):=ZeN op_shr fun a b _=>⟨by exact O0 _,congrArg V.int (by rw [Ot,ZgA,Int.natCast_ediv])⟩
def CShl (i j:Int):Prop:=0<=j/\j<=1000000/\i.natAbs < 2 ^ 200
theorem op_shlB:OpR X (binaryOp .LShift) (rI CShl fun i j=>.int (i * 2 ^ j.toNat)):=opI fun i j _ _ _ _ _ hc q=>
 lshift_int hc.1 (by
  have h:Builtin.Int.intBits i<=200:=PySem.intBits_le_iff.mpr hc.2.2
  have:=hc.2.1
  have:(Builtin.Int.intBits i:Int)<=200:=by lia
  lia) q
abbrev CnShl:Nat->Nat->Prop:=fun a b=>a < 2 ^ 200/\b<=1000000
theorem XS:OpR X (binaryOp .LShift) (rN CnShl fun a b=>N_ (a * 2 ^ b)):=ZeN op_shlB fun a b h=>⟨⟨by exact O0 _,by have:=h.2; lia,by rw [Int.natAbs_natCast]; exact h.1⟩,congrArg V.int (by rw [Ot,ZgA,Vv])⟩
theorem Zdb:OpR X (compareOp .Lt) (rN Yes2 fun a b=>.bl (decide (a < b))):=Q7 op_lt fun a b _=>congrArg V.bl (decide_eq_decide.mpr V4)
theorem JY:OpR X (compareOp .LtE) (rN Yes2 fun a b=>.bl (decide (a<=b))):=Q7 op_le fun a b _=>congrArg V.bl (decide_eq_decide.mpr V3)
theorem on_gt:OpR X (compareOp .Gt) (rN Yes2 fun a b=>.bl (decide (b < a))):=Q7 op_gt fun a b _=>congrArg V.bl (decide_eq_decide.mpr V4)
theorem on_ge:OpR X (compareOp .GtE) (rN Yes2 fun a b=>.bl (decide (b<=a))):=Q7 op_ge fun a b _=>congrArg V.bl (decide_eq_decide.mpr V3)
theorem dec_N (a b:Nat):decide (N_ a=N_ b)=decide (a=b):=decide_eq_decide.mpr ⟨fun h=>by injection h with h; lia,fun h=>by rw [h]⟩
theorem XW:OpR X (compareOp .Eq) (rN Yes2 fun a b=>.bl (decide (a=b))):=ZdA op_eq fun x y H Q ⟨a,b,h1,h2,_,q⟩=>by
 subst h1 h2
 exact ⟨rfl,(dec_N a b).symm ▸ q⟩
theorem on_ne:OpR X (compareOp .NotEq) (rN Yes2 fun a b=>.bl (!decide (a=b))):=ZdA op_ne fun x y H Q ⟨a,b,h1,h2,_,q⟩=>by
 subst h1 h2
 exact ⟨rfl,(dec_N a b).symm ▸ q⟩
theorem Zi (n:Nat) {i:Int} {j:Nat} {pos:Pos} (e:i=(n:Int):=by rfl):PE X (.Constant (.int i) j pos) (tC (N_ n)):=by
 subst e
 exact JU
end
theorem rd_var {i:Nat} {σ:St} {H:Hp} {Q:VK} {v:V} (e:σ[i]?=some (some v)) (h:Q v H):tVar i σ H Q:=⟨v,e,h⟩
theorem rd_c {v:V} {σ:St} {H:Hp} {Q:VK} (h:Q v H):tC v σ H Q:=h
theorem rd_op {r:R2} {ta tb:TE} {σ:St} {H:Hp} {Q:VK} (h:ta σ H fun x H1=>tb σ H1 fun y H2=>r x y H2 Q):tOp r ta tb σ H Q:=h
theorem rd_opVC {r:R2} {i:Nat} {v c:V} {σ:St} {H:Hp} {Q:VK} (e:σ[i]?=some (some v)) (h:r v c H Q):tOp r (tVar i) (tC c) σ H Q:=⟨v,e,h⟩
theorem rd_opVV {r:R2} {i j:Nat} {v u:V} {σ:St} {H:Hp} {Q:VK} (e:σ[i]?=some (some v)) (f:σ[j]?=some (some u)) (h:r v u H Q):tOp r (tVar i) (tVar j) σ H Q:=⟨v,e,u,f,h⟩
theorem rd_opV {r:R2} {tb:TE} {i:Nat} {v:V} {σ:St} {H:Hp} {Q:VK} (e:σ[i]?=some (some v)) (h:tb σ H fun y H2=>r v y H2 Q):tOp r (tVar i) tb σ H Q:=⟨v,e,h⟩
theorem rd_opC {r:R2} {ta:TE} {c:V} {σ:St} {H:Hp} {Q:VK} (h:ta σ H fun x H1=>r x c H1 Q):tOp r ta (tC c) σ H Q:=h
theorem rd_opK {r:R2} {tb:TE} {c:V} {σ:St} {H:Hp} {Q:VK} (h:tb σ H fun y H2=>r c y H2 Q):tOp r (tC c) tb σ H Q:=h
theorem rd_seq {t u:TS} {D:Zah} {σ:St} {H:Hp} (h:t { D with nx:=u D } σ H):tSeq t u D σ H:=h
theorem rd_ret {te:TE} {D:Zah} {σ:St} {H:Hp} (h:te σ H D.rt):tRet te D σ H:=h
theorem rd_asg {te:TE} {g:TG} {D:Zah} {σ:St} {H:Hp} (h:te σ H fun x H1=>g x σ H1 D.nx):tAsg te g D σ H:=h
theorem rd_name {i:Nat} {v:V} {σ:St} {H:Hp} {Q:St->Hp->Prop} (h:Q (σ.set i (some v)) H):JX i v σ H Q:=h
theorem rd_ifs {c:TT} {t u:TS} {D:Zah} {σ:St} {H:Hp} (h:c σ H fun b H1=>if b=true then t D σ H1 else u D σ H1):tIfS c t u D σ H:=h
def rTest (x:V) (H:Hp) (Q:Bool->Hp->Prop):Prop:=∃k,x=.bl k/\Q k H
theorem rd_test {t:TE} {σ:St} {H:Hp} {Q:Bool->Hp->Prop} (h:t σ H fun x H'=>rTest x H' Q):tTest t σ H Q:=h
theorem rd_val {t:TE} {σ:St} {H:Hp} {Q:Bool->Hp->Prop} (h:t σ H fun x H'=>rTest x H' Q):tB t σ H Q:=h
theorem rd_bl {c:Bool} {H:Hp} {Q:Bool->Hp->Prop} (h:Q c H):rTest (.bl c) H Q:=⟨c,rfl,h⟩
theorem rd_not {t:TT} {σ:St} {H:Hp} {Q:Bool->Hp->Prop} (h:t σ H fun c H1=>Q (!c) H1):tNot t σ H Q:=h
theorem rd_and {t u:TT} {σ:St} {H:Hp} {Q:Bool->Hp->Prop} (h:t σ H fun c H1=>if c=true then u σ H1 Q else Q false H1):tAnd t u σ H Q:=h
theorem rd_or {t u:TT} {σ:St} {H:Hp} {Q:Bool->Hp->Prop} (h:t σ H fun c H1=>if c=true then Q true H1 else u σ H1 Q):tOr t u σ H Q:=h
theorem dif {p:Prop} [Decidable p] {A B:Prop} (h1:p->A) (h2:¬ p->B):if decide p=true then A else B:=by
 by_cases h:p
 ·rw [if_pos (decide_eq_true h)]; exact h1 h
 ·rw [if_neg (fun q=>h (of_decide_eq_true q))]; exact h2 h
section
variable {prog:Program} {w:World} {A:Around} {E:Value->Shared->Prop} {s:Shared}
theorem tn_item {k t:Addr} {i:Nat} {its:Array Value} {x:Value} {Q:Value->Shared->Prop} (hk:s.heap.IsTupleIter k t i) (ht:s.heap.IsTuple t its) (hx:its[i]?=some x)
 (q:∀h',h'.IsTupleIter k t (i + 1)->Heap.SameBut k s.heap h'->Q x { s with heap:=h' }):wpAny (model prog w) A (Builtin.SmallTypes.nextOf (.ref k)) Q E s:=by
 obtain ⟨o,ho,hc,hd⟩:=id hk; obtain ⟨ot,hot,_,nt,hdt⟩:=ht; unfold Builtin.SmallTypes.nextOf
 refine wpAny_bind (wpAny_callSpecial?_slot (name:=Str.ofString "__next__") hk.typeIs F.slot_tuple_iterator_next (wpAny_call_entry F.slot_tuple_iterator_next hk.typeIs F.entry_tuple_iterator_next ?_ (F.args_tuple_iterator_next_1 _)))
 show wpAny _ _ (field (.ref k) 0 >>= _) _ _ s; refine wpAny_bind (wpAny_field ho hd (x:=.ref t) rfl ?_)
 show wpAny _ _ (if (Value.ref t == Value.none)=true then _ else _) _ _ s; rw [if_neg (show ¬ ((Value.ref t == Value.none)=true) from Oo)]
 show wpAny _ _ (field (.ref k) 1 >>= _) _ _ s; refine wpAny_bind (wpAny_field ho hd (x:=.int i 0) rfl ?_)
 show wpAny _ _ (seqItems? (.ref t) >>= _) _ _ s; refine wpAny_bind (wpAny_seqItems hot hdt ?_); simp only [Ot,hx]
 refine wpAny_bind (wpAny_setField ho hd (by simp) (wpAny_pure ⟨x,rfl,wpAny_pure (q _ ?_ (Heap.SameBut.update ..))⟩))
 exact ⟨_,Heap.get?_update_self _ ho (Obj.isFreed_of_fields (Obj.data_mapFields hd _)),(Obj.cls_mapFields ..).trans hc,by rw [Obj.data_mapFields hd]; simp [rawInt]⟩
theorem tn_end {k t:Addr} {i:Nat} {its:Array Value} {Q:Value->Shared->Prop} (hh:A.handled=none) (hk:s.heap.IsTupleIter k t i) (ht:s.heap.IsTuple t its) (hx:its[i]?=none)
 (q:∀h' e,Heap.ExtBut k s.heap h'->(∃o,h'.get? e=some o/\o.cls=.type "StopIteration")->E (.ref e) { s with heap:=h' }):wpAny (model prog w) A (Builtin.SmallTypes.nextOf (.ref k)) Q E s:=by
 obtain ⟨o,ho,hc,hd⟩:=id hk; obtain ⟨ot,hot,_,nt,hdt⟩:=ht; unfold Builtin.SmallTypes.nextOf
 refine wpAny_bind (wpAny_callSpecial?_slot (name:=Str.ofString "__next__") hk.typeIs F.slot_tuple_iterator_next (wpAny_call_entry F.slot_tuple_iterator_next hk.typeIs F.entry_tuple_iterator_next ?_ (F.args_tuple_iterator_next_1 _)))
 show wpAny _ _ (field (.ref k) 0 >>= _) _ _ s; refine wpAny_bind (wpAny_field ho hd (x:=.ref t) rfl ?_)
 show wpAny _ _ (if (Value.ref t == Value.none)=true then _ else _) _ _ s; rw [if_neg (show ¬ ((Value.ref t == Value.none)=true) from Oo)]
 show wpAny _ _ (field (.ref k) 1 >>= _) _ _ s; refine wpAny_bind (wpAny_field ho hd (x:=.int i 0) rfl ?_)
 show wpAny _ _ (seqItems? (.ref t) >>= _) _ _ s; refine wpAny_bind (wpAny_seqItems hot hdt ?_); simp only [Ot,hx]
 refine wpAny_bind (wpAny_rule (wpAny_bind (wpAny_setField ho hd (by simp) ?_))); show wpAny _ _ (newExc (.type "StopIteration") [] >>= _) _ _ _
 refine wpAny_bind ?_; simp only [newExc,newTuple]; refine wpAny_bind (wpAny_newObj_type ?_ (by size_fits))
 refine wpAny_bind (m:=firstArgMember _ _) (wpAny_of_eq (a:=Value.none) (by first | rfl | (simp only [firstArgMember]; rfl)) ?_); refine wpAny_newObj_type ?_ (by size_fits); simp only [raiseNew]
 refine wpAny_bind (wpAny_handled ?_); first | rw [show A.in1.handled=none from hh] | rw [hh]
 refine wpAny_bind (wpAny_pure (wpAny_throw ?_)); exact q _ _ (((Heap.SameBut.update ..).extBut.push _).push _) ⟨_,Heap.get?_push_size _ rfl,rfl⟩
theorem zt_item {z TI TO i1 i2 l1 l2:Addr} {k:Nat} {xs ys:Array Value} {x y a b:Value} {Q:Value->Shared->Prop} (D:ZipApart z TI TO i1 i2 l1 l2) (gz:IsZip s.heap z TI TO .none) (gI:IsPair s.heap TI (.ref i1) (.ref i2)) (gO:IsPair s.heap TO a b)
 (g1:s.heap.IsTupleIter i1 l1 k) (g2:s.heap.IsListIter i2 l2 k) (m1:s.heap.IsTuple l1 xs) (m2:s.heap.IsList l2 ys) (hx:xs[k]?=some x) (hy:ys[k]?=some y)
 (q:∀h',IsZip h' z TI TO (rawInt s.heap.objs.size)->IsPair h' TO x y->h'.IsTupleIter i1 l1 (k + 1)->h'.IsListIter i2 l2 (k + 1)->IsPair h' s.heap.objs.size x y->h'.objs.size=s.heap.objs.size + 1->
  (∀c o,c≠z->c≠TO->c≠i1->c≠i2->s.heap.get? c=some o->h'.get? c=some o)->Q (.ref s.heap.objs.size) { s with heap:=h' }) :
 wpAny (model prog w) A (Builtin.«zip.__next__» ⟨[.ref z],[]⟩) (fun fin s'=>∃v,fin=.done (.ret v)/\Q v s') E s:=by
 show wpAny _ _ (field (.ref z) 2 >>= _) _ _ _; refine wpAny_bind (wpAny_field gz rfl (x:=.bool false) rfl ?_)
 show wpAny _ _ (field (.ref z) 3 >>= _) _ _ _; refine wpAny_bind (wpAny_field gz rfl (x:=.ref TI) rfl ?_); refine wpAny_bind (wpAny_seqItems gI rfl ?_)
 show wpAny _ _ (Builtin.SmallTypes.ownedTupleIsFree (.ref z) >>= _) _ _ _; refine wpAny_bind ?_; unfold Builtin.SmallTypes.ownedTupleIsFree
 refine wpAny_bind (wpAny_field gz rfl (x:=.none) rfl (wpAny_pure ?_)); simp only [if_true]
 refine wpAny_bind (wpAny_rule ?_); refine wpAny_bind (wpAny_field gz rfl (x:=.ref TO) rfl ?_)
 refine wpAny_bind (wpAny_setField_rec gz (by simp) fun ha za ka=>?_); replace za:IsZip ha z TI TO .ellipsis:=za
 refine wpAny_bind ?_; simp only [List.zipIdx_cons,List.zipIdx_nil,Tg,VJ]
 refine wpAny_bind (wpAny_bind (wpAny_onRaise ?_)); show wpAny _ _ (Builtin.SmallTypes.nextOf (.ref i1) >>= _) _ _ _
 refine wpAny_bind (tn_item (g1.extBut ka.extBut D.i1z) (m1.extBut ka.extBut D.l1z) hx fun hb nb kb=>wpAny_pure ?_)
 have ob:IsPair hb TO a b:=kb.extBut _ _ D.TOi1 (ka.extBut _ _ D.TOz gO)
 refine wpAny_bind (wpAny_seqItems ob rfl ?_); refine wpAny_bind (wpAny_updateSeq_pair ob fun hc oc kc=>?_)
 replace oc:IsPair hc TO x b:=oc
 refine wpAny_bind (wpAny_letGo (wpAny_pure ?_)); refine wpAny_bind (wpAny_bind (wpAny_onRaise ?_)); show wpAny _ _ (Builtin.SmallTypes.nextOf (.ref i2) >>= _) _ _ _
 refine wpAny_bind (wpAny_nextOf_list_item (((g2.extBut ka.extBut D.i2z).extBut kb.extBut D.i12.symm).extBut kc.extBut D.TOi2.symm) (((m2.extBut ka.extBut D.l2z).extBut kb.extBut D.l2i1).extBut kc.extBut D.l2TO) hy fun hd nd kd=>wpAny_pure ?_)
 have od:IsPair hd TO x b:=kd.extBut _ _ D.TOi2 oc
 refine wpAny_bind (wpAny_seqItems od rfl ?_); refine wpAny_bind (wpAny_updateSeq_pair od fun he oe ke=>?_)
 replace oe:IsPair he TO x y:=oe
 refine wpAny_bind (wpAny_letGo (wpAny_pure (wpAny_pure ?_))); refine wpAny_bind (wpAny_seqItems oe rfl ?_); refine wpAny_bind (wpAny_newTuple ?_)
 have sz:he.objs.size=s.heap.objs.size:=by rw [ke.1,kd.1,kc.1,kb.1,ka.1]
 have ze:IsZip he z TI TO .ellipsis:=ke.extBut _ _ D.TOz.symm (kd.extBut _ _ D.i2z.symm (kc.extBut _ _ D.TOz.symm (kb.extBut _ _ D.i1z.symm za)))
 have ks:∀c o,c≠z->c≠TO->c≠i1->c≠i2->s.heap.get? c=some o->he.get? c=some o:=fun c o c1 c2 c3 c4 e=>ke.extBut _ _ c2 (kd.extBut _ _ c4 (kc.extBut _ _ c2 (kb.extBut _ _ c3 (ka.extBut _ _ c1 e))))
 have n1:he.IsTupleIter i1 l1 (k + 1):=((nb.extBut kc.extBut D.TOi1.symm).extBut kd.extBut D.i12).extBut ke.extBut D.TOi1.symm
 have n2:he.IsListIter i2 l2 (k + 1):=nd.extBut ke.extBut D.TOi2.symm
 have zl:z < he.objs.size:=Heap.lt_size ze
 show wpAny _ _ (Builtin.SmallTypes.ownedTupleHandOut (.ref z) (.ref he.objs.size) >>= _) _ _ _; refine wpAny_bind ?_; unfold Builtin.SmallTypes.ownedTupleHandOut
 have zf:IsZip (he.push { cls:=.type "tuple",data:=.seq #[x,y] }) z TI TO .ellipsis:=Heap.get?_push_of_some _ ze
 refine wpAny_bind (wpAny_setField_rec zf (by simp) fun hg zg kg=>?_); replace zg:IsZip hg z TI TO (rawInt he.objs.size):=zg
 refine wpAny_setField_rec zg (by simp) fun hj zj kj=>?_; replace zj:IsZip hj z TI TO (rawInt he.objs.size):=zj
 have up:∀c o,c≠z->he.get? c=some o->hj.get? c=some o:=fun c o c1 e=>kj.extBut _ _ c1 (kg.extBut _ _ c1 (Heap.get?_push_of_some _ e))
 have pj:IsPair hj he.objs.size x y:=kj.extBut _ _ (U6 zl) (kg.extBut _ _ (U6 zl) (Heap.get?_push_size _ rfl))
 have zz:hj.objs.size=he.objs.size + 1:=by rw [kj.1,kg.1,Heap.size_push]
 rw [sz] at zj pj zz; refine wpAny_pure ⟨_,rfl,?_⟩; show Q (.ref he.objs.size) _; rw [sz]
 exact q hj zj (up _ _ D.TOz oe) (n1.at fun o e=>up _ o D.i1z e) (n2.at fun o e=>up _ o D.i2z e) pj zz fun c o c1 c2 c3 c4 e=>up c o c1 (ks c o c1 c2 c3 c4 e)
theorem zt_end {z TI TO i1 i2 l1 l2:Addr} {k:Nat} {xs:Array Value} {a b:Value} {Q:Fin->Shared->Prop} (hh:A.handled=none) (D:ZipApart z TI TO i1 i2 l1 l2) (gz:IsZip s.heap z TI TO .none) (gI:IsPair s.heap TI (.ref i1) (.ref i2)) (gO:IsPair s.heap TO a b)
 (g1:s.heap.IsTupleIter i1 l1 k) (m1:s.heap.IsTuple l1 xs) (hx:xs[k]?=none)
 (q:∀h' e,(∀c o,c≠z->c≠TO->c≠i1->c≠i2->s.heap.get? c=some o->h'.get? c=some o)->(∃o,h'.get? e=some o/\o.cls=.type "StopIteration")->E (.ref e) { s with heap:=h' }) :
 wpAny (model prog w) A (Builtin.«zip.__next__» ⟨[.ref z],[]⟩) Q E s:=by
 show wpAny _ _ (field (.ref z) 2 >>= _) _ _ _; refine wpAny_bind (wpAny_field gz rfl (x:=.bool false) rfl ?_)
 show wpAny _ _ (field (.ref z) 3 >>= _) _ _ _; refine wpAny_bind (wpAny_field gz rfl (x:=.ref TI) rfl ?_); refine wpAny_bind (wpAny_seqItems gI rfl ?_)
 show wpAny _ _ (Builtin.SmallTypes.ownedTupleIsFree (.ref z) >>= _) _ _ _; refine wpAny_bind ?_; unfold Builtin.SmallTypes.ownedTupleIsFree
 refine wpAny_bind (wpAny_field gz rfl (x:=.none) rfl (wpAny_pure ?_)); simp only [if_true]
 refine wpAny_bind (wpAny_rule ?_); refine wpAny_bind (wpAny_field gz rfl (x:=.ref TO) rfl ?_)
 refine wpAny_bind (wpAny_setField_rec gz (by simp) fun ha za ka=>?_); replace za:IsZip ha z TI TO .ellipsis:=za
 refine wpAny_bind ?_; simp only [List.zipIdx_cons,List.zipIdx_nil,Tg,VJ]
 refine wpAny_bind (wpAny_bind (wpAny_onRaise ?_)); show wpAny _ _ (Builtin.SmallTypes.nextOf (.ref i1) >>= _) _ _ _
 refine wpAny_bind (tn_end hh (g1.extBut ka.extBut D.i1z) (m1.extBut ka.extBut D.l1z) hx fun hb e kb he=>?_)
 obtain ⟨oe,hoe,hce⟩:=he; have zb:IsZip hb z TI TO .ellipsis:=kb _ _ D.i1z.symm za
 have ne:e≠z:=fun x=>by subst x; rw [zb] at hoe; cases hoe; simp at hce
 refine wpAny_setField_rec zb (by simp) fun hc _ kc=>q hc e (fun c o c1 _ c3 _ x=>kc.extBut _ _ c1 (kb _ _ c3 (ka.extBut _ _ c1 x))) ⟨oe,kc.extBut _ _ ne hoe,hce⟩
theorem zt_next {z TI TO i1 i2 l1 l2:Addr} {k:Nat} {xs ys:Array Value} {x y a b:Value} {Q:Option Value->Shared->Prop} (D:ZipApart z TI TO i1 i2 l1 l2) (gz:IsZip s.heap z TI TO .none) (gI:IsPair s.heap TI (.ref i1) (.ref i2)) (gO:IsPair s.heap TO a b)
 (g1:s.heap.IsTupleIter i1 l1 k) (g2:s.heap.IsListIter i2 l2 k) (m1:s.heap.IsTuple l1 xs) (m2:s.heap.IsList l2 ys) (hx:xs[k]?=some x) (hy:ys[k]?=some y)
 (q:∀h',IsZip h' z TI TO (rawInt s.heap.objs.size)->IsPair h' TO x y->h'.IsTupleIter i1 l1 (k + 1)->h'.IsListIter i2 l2 (k + 1)->IsPair h' s.heap.objs.size x y->h'.objs.size=s.heap.objs.size + 1->
  (∀c o,c≠z->c≠TO->c≠i1->c≠i2->s.heap.get? c=some o->h'.get? c=some o)->Q (some (.ref s.heap.objs.size)) { s with heap:=h' }):wpAny (model prog w) A (pyNext (.ref z)) Q E s:=by
 have hT:s.TypeIs (.ref z) "zip":=⟨_,gz,rfl⟩; unfold pyNext
 exact wpAny_bind (wpAny_attempt (wpAny_callSpecial?_slot (name:=Str.ofString "__next__") hT F.slot_zip_next (wpAny_call_entry F.slot_zip_next hT F.entry_zip_next
  (zt_item D gz gI gO g1 g2 m1 m2 hx hy fun h' a1 a2 a3 a4 a5 a6 a7=>wpAny_pure (q h' a1 a2 a3 a4 a5 a6 a7)) (F.args_zip_next_1 _))))
theorem zt_stop {z TI TO i1 i2 l1 l2:Addr} {k:Nat} {xs:Array Value} {a b:Value} {Q:Option Value->Shared->Prop} (hh:A.handled=none) (D:ZipApart z TI TO i1 i2 l1 l2) (gz:IsZip s.heap z TI TO .none) (gI:IsPair s.heap TI (.ref i1) (.ref i2)) (gO:IsPair s.heap TO a b)
 (g1:s.heap.IsTupleIter i1 l1 k) (m1:s.heap.IsTuple l1 xs) (hx:xs[k]?=none)
 (q:∀h',(∀c o,c≠z->c≠TO->c≠i1->c≠i2->s.heap.get? c=some o->h'.get? c=some o)->Q none { s with heap:=h' }):wpAny (model prog w) A (pyNext (.ref z)) Q E s:=by
 have hT:s.TypeIs (.ref z) "zip":=⟨_,gz,rfl⟩; unfold pyNext
 refine wpAny_bind (wpAny_attempt (wpAny_callSpecial?_slot (name:=Str.ofString "__next__") hT F.slot_zip_next (wpAny_call_entry F.slot_zip_next hT F.entry_zip_next (zt_end hh D gz gI gO g1 m1 hx fun h' e hk he=>?_) (F.args_zip_next_1 _))))
 obtain ⟨o,ho,hc⟩:=he; refine wpAny_bind (wpAny_isInstance (T:="StopIteration") (b:=true) ⟨o,ho,hc⟩ isSubtype_stop ?_); exact wpAny_pure (q _ hk)
end
def zA (h:Heap) (t:Addr):Heap:=h.push { cls:=.type "tuple_iterator",data:=.fields #[.ref t,.int 0 0] }
def zB (h:Heap) (t l:Addr):Heap:=(zA h t).push { cls:=.type "list_iterator",data:=.fields #[.ref l,.int 0 0] }
def zC (h:Heap) (t l:Addr):Heap:=(zB h t l).push { cls:=.type "tuple",data:=.seq #[.ref h.objs.size,.ref (zA h t).objs.size] }
def zD (h:Heap) (t l:Addr):Heap:=(zC h t l).push { cls:=.type "tuple",data:=.seq #[.none,.none] }
def zE (h:Heap) (t l:Addr):Heap:=(zD h t l).push { cls:=.type "zip",data:=.fields #[.none,.bool false,.bool false,.ref (zB h t l).objs.size,.ref (zC h t l).objs.size] }
theorem zt_new (t l:Addr) (xs ys:Array Value):Meets (Builtin.«zip.__new__» ⟨[.type "zip",.ref t,.ref l],[]⟩) (fun _ R s=>s.heap.IsTuple t xs/\s.heap.IsList l ys/\R (.ok (.ret (.ref (zD s.heap t l).objs.size))) { s with heap:=zE s.heap t l }):=by
 exact .of_wp fun prog w A R s h=>by
  obtain ⟨hp,g,d,tk,os⟩:=s; obtain ⟨m1,m2,h⟩:=h; have hsub:=sub_zip
  have hL1:Heap.IsTuple (Shared.heap ⟨hp,g,d,tk,os⟩) t xs:=m1
  have hL2:Heap.IsList (Shared.heap ⟨hp.push { cls:=.type "tuple_iterator",data:=.fields #[.ref t,.int 0 0] },g,d,tk,os⟩) l ys:=Heap.IsList.push m2 _
  wp_walk using wpAny_pyIter_tuple hL1,wpAny_pyIter_list hL2
  exact ⟨_,rfl,h⟩
theorem zt_call {prog:Program} {w:World} {A:Around} {E:Value->Shared->Prop} {s:Shared} {t l:Addr} {xs ys:Array Value} {Q:Value->Shared->Prop} (m1:s.heap.IsTuple t xs) (m2:s.heap.IsList l ys)
 (h:∀h',IsZip h' (s.heap.objs.size + 4) (s.heap.objs.size + 2) (s.heap.objs.size + 3) .none->IsPair h' (s.heap.objs.size + 2) (.ref s.heap.objs.size) (.ref (s.heap.objs.size + 1))->IsPair h' (s.heap.objs.size + 3) .none .none->
  h'.IsTupleIter s.heap.objs.size t 0->h'.IsListIter (s.heap.objs.size + 1) l 0->(∀c o,s.heap.get? c=some o->h'.get? c=some o)->Q (.ref (s.heap.objs.size + 4)) { s with heap:=h' }) :
 wpAny (model prog w) A (call (.type "zip") [.ref t,.ref l]) Q E s:=by
 refine callType_new F.called_zip (by decide) (F.typeCall_zip_2 _ _) (F.newCall_zip_2 _ _) (fun obj=>F.args_object_init_3 obj _ _) F.entry_zip_new (zt_new t l xs ys) ⟨m1,m2,?_⟩
 have z1:(zA s.heap t).objs.size=s.heap.objs.size + 1:=Heap.size_push ..
 have z2:(zB s.heap t l).objs.size=s.heap.objs.size + 2:=by unfold zB; rw [Heap.size_push,z1]
 have z3:(zC s.heap t l).objs.size=s.heap.objs.size + 3:=by unfold zC; rw [Heap.size_push,z2]
 have z4:(zD s.heap t l).objs.size=s.heap.objs.size + 4:=by unfold zD; rw [Heap.size_push,z3]
 have g5:(zE s.heap t l).get? (zD s.heap t l).objs.size=some _:=Heap.get?_push_size _ rfl
 have g4:(zE s.heap t l).get? (zC s.heap t l).objs.size=some _:=Heap.get?_push_of_some _ (Heap.get?_push_size _ rfl)
 have g3:(zE s.heap t l).get? (zB s.heap t l).objs.size=some _:=Heap.get?_push_of_some _ (Heap.get?_push_of_some _ (Heap.get?_push_size _ rfl))
 have g2:(zE s.heap t l).get? (zA s.heap t).objs.size=some _:=Heap.get?_push_of_some _ (Heap.get?_push_of_some _ (Heap.get?_push_of_some _ (Heap.get?_push_size _ rfl)))
 have g1:(zE s.heap t l).get? s.heap.objs.size=some _:=Heap.get?_push_of_some _ (Heap.get?_push_of_some _ (Heap.get?_push_of_some _ (Heap.get?_push_of_some _ (Heap.get?_push_size _ rfl))))
 show _/\_
 rw [z2,z3,z4] at g5; rw [z1,z2] at g3; rw [z3] at g4; rw [z1] at g2; rw [z4]
 exact ⟨⟨_,g5,rfl⟩,h _ g5 g3 g4 ⟨_,g1,rfl,rfl⟩ ⟨_,g2,rfl,rfl⟩ fun c o x=>Heap.get?_push_of_some _ (Heap.get?_push_of_some _ (Heap.get?_push_of_some _ (Heap.get?_push_of_some _ (Heap.get?_push_of_some _ x))))⟩
def Itzt (K:Oa) (a b:Addr):It:=
 ⟨fun i H=>∃(xs ys:List V) (x y:V),SqT K H a xs/\SqL K H b ys/\xs[i]?=some x/\ys[i]?=some y,
  fun i H v H'=>∃T x y,v=.ref T/\H T=none/\H'=upd H T (.tup [x,y])/\(∀xs,SqT K H a xs->xs[i]?=some x)/\∀ys,SqL K H b ys->ys[i]?=some y,
  fun i H=>∃xs:List V,SqT K H a xs/\xs.length<=i⟩
theorem Zdv {h:Heap} {a:Addr} {its:Array Value} (x:IsTup h a its):h.IsTuple a its:=by
 obtain ⟨o,ho,hc,n,hd⟩:=x
 exact ⟨o,ho,hc,n,hd⟩
theorem turn_zt {P:Program} {w:World} {K:Oa} {elts:List Expr} {kk:Nat} {tpos:Pos} {a b z TI TO i1 i2:Addr} (D:ZipApart z TI TO i1 i2 a b) :
 Turn P w K (.Tuple elts kk tpos) (Itzt K a b) [z,TI,TO,i1,i2] z (fun i h=>IsZip h z TI TO .none/\IsPair h TI (.ref i1) (.ref i2)/\(∃x y,IsPair h TO x y)/\h.IsTupleIter i1 a i/\h.IsListIter i2 b i) where
 mem:=by simp
 obj:=fun i h st c hc=>by
  obtain ⟨gz,gI,⟨x,y,gO⟩,⟨o1,e1,_,d1⟩,⟨o2,e2,_,d2⟩⟩:=st
  have e':c=z∨c=TI∨c=TO∨c=i1∨c=i2:=by simpa using hc
  rcases e' with q | q | q | q | q
  ·rw [q]; exact ⟨_,gz,fun v q=>nomatch q⟩
  ·rw [q]; exact ⟨_,gI,fun v q=>nomatch q⟩
  ·rw [q]; exact ⟨_,gO,fun v q=>nomatch q⟩
  ·rw [q]; exact ⟨o1,e1,fun v q=>by rw [d1] at q; cases q⟩
  ·rw [q]; exact ⟨o2,e2,fun v q=>by rw [d2] at q; cases q⟩
 keep:=fun i h h' st k=>by
  obtain ⟨gz,gI,⟨x,y,gO⟩,g1,g2⟩:=st
  exact ⟨k z (by simp) _ gz,k TI (by simp) _ gI,⟨x,y,k TO (by simp) _ gO⟩,g1.at fun o q=>k i1 (by simp) o q,g2.at fun o q=>k i2 (by simp) o q⟩
 item:=by
  intro X hP hw hK hc i pins s σ H E I hf st hg
  subst hP hw hK
  obtain ⟨gz,gI,⟨x0,y0,gO⟩,g1,g2⟩:=st
  obtain ⟨xs,ys,x,y,hqx,hqy,hx,hy⟩:=hg
  obtain ⟨its,rv,p,_⟩:=I.tuple hqx
  obtain ⟨its2,rv2,p2,_⟩:=I.list hqy
  obtain ⟨u,hu,ru⟩:=rv.get hx
  obtain ⟨u2,hu2,ru2⟩:=rv2.get hy
  have hzl:z < s.heap.objs.size:=Heap.lt_size gz
  refine zt_next D gz gI gO g1 g2 (Zdv p) p2.isList (x:=u) (y:=u2) (by simpa using hu) (by simpa using hu2) fun h' z' TO' h1' h2' hT hsz hk=>?_
  refine ⟨_,rfl,wpAny_letOwnedTupleGo_zip (s:={ s with heap:=h' }) z' fun h'' z'' sb=>?_⟩
  have hT2:h''.get? s.heap.objs.size=some { cls:=.type "tuple",data:=.seq #[u,u2] }:=(sb.2 _ (U6 hzl)).trans hT
  have new:W0 X.prog X.w (upd H s.heap.objs.size (.tup [x,y])) h'' s.heap.objs.size (.tup [x,y]):=⟨by show 2<=sizeLine; decide,[u,u2],.cons ru (.cons ru2 .nil),⟨_,hT2,rfl,_,rfl⟩⟩
  have I1:L2.Inv X pins σ (upd H s.heap.objs.size (.tup [x,y])) { s with heap:=h'' }:=
   I.turnedNew (t':=s.toks) (ch:=[z,TI,TO,i1,i2]) (fun c o hb q=>(sb.2 c (fun q'=>hb (by simp [q']))).trans (hk c o (fun q'=>hb (by simp [q'])) (fun q'=>hb (by simp [q'])) (fun q'=>hb (by simp [q'])) (fun q'=>hb (by simp [q'])) q)) hf (Oq _) new
  refine ⟨.ref s.heap.objs.size,_,I1,rfl,⟨_,x,y,rfl,I.hok.fresh (Oq _),rfl,fun l hl=>by rw [I.tuple_inj hl hqx]; exact hx,fun l hl=>by rw [I.list_inj hl hqy]; exact hy⟩,⟨z'',?_,⟨u,u2,?_⟩,?_,?_⟩,fun c hcm=>?_⟩
  ·exact (sb.2 _ D.TIz).trans (hk _ _ D.TIz D.TITO D.TIi1 D.TIi2 gI)
  ·exact (sb.2 _ D.TOz).trans TO'
  ·exact h1'.at fun o q=>(sb.2 _ D.i1z).trans q
  ·exact h2'.at fun o q=>(sb.2 _ D.i2z).trans q
  ·have hlt:c < s.heap.objs.size:=by
    have e':c=z∨c=TI∨c=TO∨c=i1∨c=i2:=by simpa using hcm
    rcases e' with q | q | q | q | q
    ·rw [q]; exact hzl
    ·rw [q]; exact Heap.lt_size gI
    ·rw [q]; exact Heap.lt_size gO
    ·rw [q]; obtain ⟨_,e1,_⟩:=g1; exact Heap.lt_size e1
    ·rw [q]; obtain ⟨_,e2,_⟩:=g2; exact Heap.lt_size e2
   rw [ZN (O4 hlt)]
   exact (hf c hcm).1
 done:=by
  intro X hP hw hK hc i pins s σ H E I hf st hg
  subst hP hw hK
  obtain ⟨gz,gI,⟨x0,y0,gO⟩,g1,g2⟩:=st
  obtain ⟨xs,hqx,hend⟩:=hg
  obtain ⟨its,rv,p,_⟩:=I.tuple hqx
  have l1:=rv.length
  have he:its.toArray[i]?=none:=by simp; lia
  exact zt_stop (I.ok.hd hc) D gz gI gO g1 (Zdv p) he fun h' hk=>⟨rfl,I.turnedL (t':=s.toks) (ch:=[z,TI,TO,i1,i2]) (fun c o hb q=>
   hk c o (fun q'=>hb (by simp [q'])) (fun q'=>hb (by simp [q'])) (fun q'=>hb (by simp [q'])) (fun q'=>hb (by simp [q'])) q) hf⟩
 self:=fun A i s Q E st h=>wpAny_pyIter_zip st.1 h
def rZipE (K:Oa) (vs:List V) (H:Hp) (R:It->Hp->Prop):Prop:=∃(a b:Addr) (xs ys:List V),vs=[.ref a,.ref b]/\SqL K H b ys/\((SqL K H a xs/\R (Itz K a b) H)∨(SqT K H a xs/\R (Itzt K a b) H))
def iZipE (K:Oa) (ta:TA):TI:=fun σ H R=>ta σ H fun vs H1=>rZipE K vs H1 R
theorem pi_zipE {X:Cx} {e e2:Expr} {ta:TA} {p pos tpos:Pos} {elts:List Expr} {kk:Nat} (K:Oa) (hg:Gl X "zip") (hm:X.mg "zip"=none) (ha:PA X [e,e2] ta) (hK:X.K=K:=by rfl)
 (hs:starEach [e,e2] X.env=(false,eval e X.env) :: starEach [e2] X.env:=by rfl) (hpl:(backTo pos (starEach [e2] X.env)).any (·.1)=false:=by rfl) :
 PI X (.Tuple elts kk tpos) (.Call (.Name "zip" p) [e,e2] [] pos) (iZipE K ta):=by
 subst hK
 intro pins s σ H R I h
 refine Call_ (QF I hg hm boot_zip5 (OQ (thn (ha pos pins s σ H _ I h) fun us s1 ⟨vs,H1,I1,r1,q1⟩=>?_) hs hpl))
 obtain ⟨a,b,xs,ys,ex,hqy,q⟩:=q1
 subst ex
 obtain ⟨its2,rv2,p2,_⟩:=I1.list hqy
 have lb:b < s1.heap.objs.size:=p2.lt
 have fp:∀c,c∈[s1.heap.objs.size + 4,s1.heap.objs.size + 2,s1.heap.objs.size + 3,s1.heap.objs.size,s1.heap.objs.size + 1]->FpOk X pins H1 c:=fun c hcm=>by
  have hle:s1.heap.objs.size<=c:=by
   simp only [ON,Uy,or_false] at hcm
   rcases hcm with z | z | z | z | z <;> rw [z] <;> first | exact Nat.le_add_right _ _ | exact Oq _
  exact I1.fpOk hle (I1.hok.fresh hle)
 cases r1 with
 | cons r rr=>
  cases rr with
  | cons r' rr=>
   cases rr
   cases r
   cases r'
   rcases q with ⟨hqx,q⟩ | ⟨hqx,q⟩
   ·obtain ⟨its,rv,p1,_⟩:=I1.list hqx
    have la:a < s1.heap.objs.size:=p1.lt
    refine call_zip_2 p1.isList p2.isList fun h' hz hTI hTO h1 h2 hsz hk=>wpAny_pyIter_zip hz ?_
    have I2:L2.Inv X pins σ H1 { s1 with heap:=h' }:=I1.kept (t':=s1.toks) hk
    exact ⟨s1.heap.objs.size + 4,[s1.heap.objs.size + 4,s1.heap.objs.size + 2,s1.heap.objs.size + 3,s1.heap.objs.size,s1.heap.objs.size + 1],_,_,H1,rfl,I2,turn_zip (PySem.W.ktu_apart s1.heap.objs.size a b la lb),⟨hz,hTI,⟨_,_,hTO⟩,h1,h2⟩,fp,q⟩
   ·obtain ⟨its,rv,p1,_⟩:=I1.tuple hqx
    have la:a < s1.heap.objs.size:=by obtain ⟨o,ho,_⟩:=p1; exact Heap.lt_size ho
    refine zt_call (Zdv p1) p2.isList fun h' hz hTI hTO h1 h2 hk=>wpAny_pyIter_zip hz ?_
    have I2:L2.Inv X pins σ H1 { s1 with heap:=h' }:=I1.kept (t':=s1.toks) hk
    exact ⟨s1.heap.objs.size + 4,[s1.heap.objs.size + 4,s1.heap.objs.size + 2,s1.heap.objs.size + 3,s1.heap.objs.size,s1.heap.objs.size + 1],_,_,H1,rfl,I2,turn_zt (PySem.W.ktu_apart s1.heap.objs.size a b la lb),⟨hz,hTI,⟨_,_,hTO⟩,h1,h2⟩,fp,q⟩
theorem mind_loop {prog:Program} {w:World} {A:Around} {R:Result->Shared->Prop} {I:Addr} {fp wr:List Addr} {n:Nat} {G:Nat->Value->Prop} {Sx:Nat->Heap->Prop} (W:Walks prog w A.in1 I fp wr n G Sx) (bt:Nat->Nat->Bool) (hcmp:CmpOf prog w A.in1 .Lt G bt) (S:Addr) (nf:S ∉ fp) (kw:List (Str×Value)) :
 ∀(k j:Nat) (s:Shared) (vb:Value) (c:Nat),n - (j + 1)=k->j + 1<=n->Sx (j + 1) s.heap->G (argBest bt j) vb->s.heap.get? S=some { cls:=.type "list",dict:=none,data:=.seq #[vb,vb] c,slots:=#[] }->
 (∀v h' tk,G (argBest bt (n - 1)) v->(∀b o,b ∉ wr->b≠S->s.heap.get? b=some o->h'.get? b=some o)->R (.ok (.ret v)) { s with heap:=h',toks:=tk })->codeAny (model prog w) A (.builtin "min.loop" ⟨[.ref I,.none,.ref S],kw⟩) R s:=by
 have nw:S ∉ wr:=fun h=>nf (W.sub _ h)
 have nm:(toString "min" ++ toString ".loop":String)="min.loop":=by decide
 intro k
 induction k with
 | zero=>
  intro j s vb c hk hj gs gb gS q; have ej:j + 1=n:=by lia
  refine codeAny_builtin F.entry_min_loop ?_; rw [Around.under_plainId F.plain_min_loop _]
  show wpAny _ A.in1 (seqItems? (.ref S) >>= _) _ _ s; refine wpAny_bind (wpAny_seqItems gS rfl ?_)
  show wpAny _ A.in1 (tryCatch (pyNext (.ref I)) _ >>= _) _ _ s; refine wpAny_bind (wpAny_tryCatch (W.done s _ _ (ej ▸ gs) fun h' tk hk'=>?_))
  have gS':=hk' S _ nw gS; show wpAny _ A.in1 (updateSeq S (fun _=>#[]) >>= _) _ _ _
  refine wpAny_bind ?_; refine wpAny_updateSeq gS' rfl (wpAny_bind (wpAny_letGo (wpAny_pure ?_)))
  refine q vb _ tk (by rw [<- ej]; exact gb) fun b o hbw hbS e=>(Heap.get?_update_other _ _ (Ne.symm hbS)).trans (hk' b o hbw e)
 | succ k ih=>
  intro j s vb c hk hj gs gb gS q; have lt:j + 1 < n:=by omega
  refine codeAny_builtin F.entry_min_loop ?_; rw [Around.under_plainId F.plain_min_loop _]
  show wpAny _ A.in1 (seqItems? (.ref S) >>= _) _ _ s; refine wpAny_bind (wpAny_seqItems gS rfl ?_)
  show wpAny _ A.in1 (tryCatch (pyNext (.ref I)) _ >>= _) _ _ s; refine wpAny_bind (wpAny_tryCatch (W.item (j + 1) s _ _ lt gs fun v h' tk hP hst' hk'=>?_))
  have gS':=hk' S _ nw gS; show wpAny _ A.in1 (tryCatch (holding [v,v] (richCompare .Lt v vb >>= _)) _ >>= _) _ _ _
  refine wpAny_bind (wpAny_tryCatch (wpAny_holding (wpAny_bind (hcmp (j + 1) (argBest bt j) v vb _ _ _ hP gb ?_)))); refine wpAny_bind (wpAny_holding (wpAny_truthy_bool ?_)); refine wpAny_bind (wpAny_letGo (wpAny_pure ?_))
  cases hb:bt (j + 1) (argBest bt j) with
  | true=>
   simp only [if_true]; refine wpAny_bind ?_; refine wpAny_updateSeq gS' rfl (wpAny_bind (wpAny_letGo ?_)); rw [nm]
   refine wpAny_pure ⟨plainId_quiet F.plain_min_loop _,ih (j + 1) _ v _ (by omega) lt (W.frame _ _ _ hst' fun b hbf o e=>?_) (by simp only [argBest,hb,if_true]; exact hP) (Heap.get?_update_self _ gS' rfl) fun v' h'' tk'' hP' hk''=>?_⟩
   ·exact (Heap.get?_update_other _ _ (fun h:S=b=>nf (by rw [h]; exact hbf))).trans e
   ·exact q v' h'' tk'' hP' fun b o hbw hbS e=>hk'' b o hbw hbS ((Heap.get?_update_other _ _ (Ne.symm hbS)).trans (hk' b o hbw e))
  | false=>
   simp only [IH,if_false]; refine wpAny_bind (wpAny_letGo ?_); rw [nm]
   refine wpAny_pure ⟨plainId_quiet F.plain_min_loop _,ih (j + 1) _ vb c (by omega) lt hst' (by simp only [argBest,hb,IH,if_false]; exact gb) gS' fun v' h'' tk'' hP' hk''=>?_⟩
   exact q v' h'' tk'' hP' fun b o hbw hbS e=>hk'' b o hbw hbS (hk' b o hbw e)
theorem mind_first {prog:Program} {w:World} {A:Around} {R:Result->Shared->Prop} {I:Addr} {fp wr:List Addr} {n:Nat} {G:Nat->Value->Prop} {Sx:Nat->Heap->Prop} (W:Walks prog w A.in1 I fp wr n G Sx) (bt:Nat->Nat->Bool) (hcmp:CmpOf prog w A.in1 .Lt G bt) (S:Addr) (nf:S ∉ fp) (d:Value) {s:Shared} {c:Nat} (gs:Sx 0 s.heap)
 (gS:s.heap.get? S=some { cls:=.type "list",dict:=none,data:=.seq #[] c,slots:=#[] }) (q0:n=0->∀h' tk,(∀b o,b ∉ wr->b≠S->s.heap.get? b=some o->h'.get? b=some o)->R (.ok (.ret d)) { s with heap:=h',toks:=tk })
 (q:0 < n->∀v h' tk,G (argBest bt (n - 1)) v->(∀b o,b ∉ wr->b≠S->s.heap.get? b=some o->h'.get? b=some o)->R (.ok (.ret v)) { s with heap:=h',toks:=tk }) :
 codeAny (model prog w) A (.builtin "min.loop" ⟨[.ref I,.none,.ref S],[(Str.ofString "default",d)]⟩) R s:=by
 have nw:S ∉ wr:=fun h=>nf (W.sub _ h)
 have nm:(toString "min" ++ toString ".loop":String)="min.loop":=by decide
 refine codeAny_builtin F.entry_min_loop ?_; rw [Around.under_plainId F.plain_min_loop _]
 show wpAny _ A.in1 (seqItems? (.ref S) >>= _) _ _ s; refine wpAny_bind (wpAny_seqItems gS rfl ?_)
 show wpAny _ A.in1 (tryCatch (pyNext (.ref I)) _ >>= _) _ _ s
 rcases Nat.eq_zero_or_pos n with h0 | hn
 ·subst h0; refine wpAny_bind (wpAny_tryCatch (W.done s _ _ gs fun h' tk hk'=>?_))
  refine wpAny_bind (wpAny_rule (wpAny_pure ?_)); exact q0 rfl h' tk fun b o hbw _ e=>hk' b o hbw e
 ·refine wpAny_bind (wpAny_tryCatch (W.item 0 s _ _ hn gs fun v h' tk hP hst' hk'=>?_))
  have gS':=hk' S _ nw gS; show wpAny _ A.in1 (updateSeq S (fun _=>#[v,v]) >>= _) _ _ _
  refine wpAny_bind ?_; refine wpAny_updateSeq gS' rfl ?_; rw [nm]
  refine wpAny_pure ⟨plainId_quiet F.plain_min_loop _,mind_loop W bt hcmp S nf _ _ 0 _ v _ rfl hn (W.frame _ _ _ hst' fun b hbf o e=>?_) hP (Heap.get?_update_self _ gS' rfl) fun v' h'' tk'' hP' hk''=>?_⟩
  ·exact (Heap.get?_update_other _ _ (fun h:S=b=>nf (by rw [h]; exact hbf))).trans e
  ·exact q hn v' h'' tk'' hP' fun b o hbw hbS e=>hk'' b o hbw hbS ((Heap.get?_update_other _ _ (Ne.symm hbS)).trans (hk' b o hbw e))
theorem mind_args (a d:Value):argsOk "min" ⟨[a],[(Str.ofString "default",d)]⟩:=by unfold argsOk; kernel_rfl
theorem mind_raw {prog:Program} {w:World} {A:Around} {E:Value->Shared->Prop} {s:Shared} {l:Addr} {its:List Value} {ns:List Int} {d:Value} {Q:Value->Shared->Prop} (hh:A.handled=none) (hl:s.heap.IsList l its.toArray) (hi:IntsAre its ns)
 (q0:ns=[]->∀h' tk,(∀b o,s.heap.get? b=some o->h'.get? b=some o)->Q d { s with heap:=h',toks:=tk })
 (q:∀h' tk M t',(∀b o,s.heap.get? b=some o->h'.get? b=some o)->M∈ns->(∀a,a∈ns->M<=a)->Q (.int M t') { s with heap:=h',toks:=tk }):wpAny (model prog w) A (call (.builtin "min") [.ref l] [(Str.ofString "default",d)]) Q E s:=by
 obtain ⟨xs,e⟩:=hi.allInts.items
 have hn:numsOf (intItems xs).toList=ns:=by rw [<- e]; exact hi.numsOf
 rw [nums_intItems] at hn; subst hn; rw [e] at hl
 have nm:(toString "min" ++ toString ".loop":String)="min.loop":=by decide
 refine kmb_tree PySem.F.kind_min PySem.F.plain_min PySem.F.entry_min (mind_args _ _) ?_
 show wpAny _ A.in1 (Builtin.Builtins.bindParams "min" ["key","default"] 0 ⟨[],[(Str.ofString "default",d)]⟩ >>= _) _ _ s
 refine wpAny_bind (wpAny_of_eq (show Builtin.Builtins.bindParams "min" ["key","default"] 0 ⟨[],[(Str.ofString "default",d)]⟩=pure [none,some d] from by rfl) ?_)
 refine wpAny_bind (wpAny_pure ?_)
 refine wpAny_bind (iter_intList hl fun s2 es st hfp hlI=>?_)
 subst es
 refine wpAny_bind (wpAny_newObj_type ?_)
 have nf:_ ∉ _:=fun hm=>Im _ (hfp _ hm)
 rw [nm]
 have W:=Walks.list (prog:=prog) (w:=w) (A:=A.in1) hh _ l hlI (intItems xs)
 refine wpAny_pure ⟨plainId_quiet F.plain_min_loop _,mind_first W _ (CmpOf.ints_lt (numAt xs) (fun _ _=>intItems_at)) _ nf d (W.frame _ _ _ st fun b _ o e=>Heap.get?_push_of_some _ e) (Heap.get?_push_size _ rfl) (fun h0 h' tk hk=>?_) (fun hpos v h' tk hv hk=>?_)⟩
 ·refine q0 ?_ h' tk fun b o e=>hk b o (fun hm=>?_) (fun hm=>?_) (Heap.get?_push_of_some _ (Heap.get?_push_of_some _ e))
  ·have hx:xs.size=0:=by simpa [intItems] using h0
   exact VE (by rw [Od,Array.length_toList]; exact hx)
  ·rw [IB.mp hm] at e; exact absurd (Heap.lt_size e) (Im _)
  ·exact absurd (hm.trans (Heap.size_push s.heap { cls:=.type "list_iterator",data:=.fields #[.ref l,.int 0 0] })) (O4 (Uu (Heap.lt_size e)))
 ·have hx:0 < xs.size:=by simpa [intItems] using hpos
  have hv':(intItems xs)[argBest (fun i j=>decide (numAt xs i < numAt xs j)) (xs.size - 1)]?=some v:=by simpa [intItems] using hv
  obtain ⟨t,rfl⟩:=intItems_at hv'
  obtain ⟨g1,g2⟩:=argBest_lt (numAt xs) (xs.size - 1)
  refine q h' tk _ t (fun b o e=>hk b o (fun hm=>?_) (fun hm=>?_) (Heap.get?_push_of_some _ (Heap.get?_push_of_some _ e))) ?_ fun a ha=>?_
  ·rw [IB.mp hm] at e; exact absurd (Heap.lt_size e) (Im _)
  ·exact absurd (hm.trans (Heap.size_push s.heap { cls:=.type "list_iterator",data:=.fields #[.ref l,.int 0 0] })) (O4 (Uu (Heap.lt_size e)))
  ·rw [numAt_eq]; exact PySem.getD_mem (by rw [Od,Array.length_toList]; omega)
  ·obtain ⟨j,hj,rfl⟩:=mem_getD ha
   rw [Od,Array.length_toList] at hj
   rw [<- numAt_eq]; exact g2 j (by lia)
theorem maxd_loop {prog:Program} {w:World} {A:Around} {R:Result->Shared->Prop} {I:Addr} {fp wr:List Addr} {n:Nat} {G:Nat->Value->Prop} {Sx:Nat->Heap->Prop} (W:Walks prog w A.in1 I fp wr n G Sx) (bt:Nat->Nat->Bool) (hcmp:CmpOf prog w A.in1 .Gt G bt) (S:Addr) (nf:S ∉ fp) (kw:List (Str×Value)) :
 ∀(k j:Nat) (s:Shared) (vb:Value) (c:Nat),n - (j + 1)=k->j + 1<=n->Sx (j + 1) s.heap->G (argBest bt j) vb->s.heap.get? S=some { cls:=.type "list",dict:=none,data:=.seq #[vb,vb] c,slots:=#[] }->
 (∀v h' tk,G (argBest bt (n - 1)) v->(∀b o,b ∉ wr->b≠S->s.heap.get? b=some o->h'.get? b=some o)->R (.ok (.ret v)) { s with heap:=h',toks:=tk })->codeAny (model prog w) A (.builtin "max.loop" ⟨[.ref I,.none,.ref S],kw⟩) R s:=by
 have nw:S ∉ wr:=fun h=>nf (W.sub _ h)
 have nm:(toString "max" ++ toString ".loop":String)="max.loop":=by decide
 intro k
 induction k with
 | zero=>
  intro j s vb c hk hj gs gb gS q; have ej:j + 1=n:=by omega
  refine codeAny_builtin F.entry_max_loop ?_; rw [Around.under_plainId F.plain_max_loop _]
  show wpAny _ A.in1 (seqItems? (.ref S) >>= _) _ _ s; refine wpAny_bind (wpAny_seqItems gS rfl ?_)
  show wpAny _ A.in1 (tryCatch (pyNext (.ref I)) _ >>= _) _ _ s; refine wpAny_bind (wpAny_tryCatch (W.done s _ _ (ej ▸ gs) fun h' tk hk'=>?_))
  have gS':=hk' S _ nw gS; show wpAny _ A.in1 (updateSeq S (fun _=>#[]) >>= _) _ _ _
  refine wpAny_bind ?_; refine wpAny_updateSeq gS' rfl (wpAny_bind (wpAny_letGo (wpAny_pure ?_)))
  refine q vb _ tk (by rw [<- ej]; exact gb) fun b o hbw hbS e=>(Heap.get?_update_other _ _ (Ne.symm hbS)).trans (hk' b o hbw e)
 | succ k ih=>
  intro j s vb c hk hj gs gb gS q; have lt:j + 1 < n:=by omega
  refine codeAny_builtin F.entry_max_loop ?_; rw [Around.under_plainId F.plain_max_loop _]
  show wpAny _ A.in1 (seqItems? (.ref S) >>= _) _ _ s; refine wpAny_bind (wpAny_seqItems gS rfl ?_)
  show wpAny _ A.in1 (tryCatch (pyNext (.ref I)) _ >>= _) _ _ s; refine wpAny_bind (wpAny_tryCatch (W.item (j + 1) s _ _ lt gs fun v h' tk hP hst' hk'=>?_))
  have gS':=hk' S _ nw gS; show wpAny _ A.in1 (tryCatch (holding [v,v] (richCompare .Gt v vb >>= _)) _ >>= _) _ _ _
  refine wpAny_bind (wpAny_tryCatch (wpAny_holding (wpAny_bind (hcmp (j + 1) (argBest bt j) v vb _ _ _ hP gb ?_)))); refine wpAny_bind (wpAny_holding (wpAny_truthy_bool ?_)); refine wpAny_bind (wpAny_letGo (wpAny_pure ?_))
  cases hb:bt (j + 1) (argBest bt j) with
  | true=>
   simp only [if_true]; refine wpAny_bind ?_; refine wpAny_updateSeq gS' rfl (wpAny_bind (wpAny_letGo ?_)); rw [nm]
   refine wpAny_pure ⟨plainId_quiet F.plain_max_loop _,ih (j + 1) _ v _ (by omega) lt (W.frame _ _ _ hst' fun b hbf o e=>?_) (by simp only [argBest,hb,if_true]; exact hP) (Heap.get?_update_self _ gS' rfl) fun v' h'' tk'' hP' hk''=>?_⟩
   ·exact (Heap.get?_update_other _ _ (fun h:S=b=>nf (by rw [h]; exact hbf))).trans e
   ·exact q v' h'' tk'' hP' fun b o hbw hbS e=>hk'' b o hbw hbS ((Heap.get?_update_other _ _ (Ne.symm hbS)).trans (hk' b o hbw e))
  | false=>
   simp only [IH,if_false]; refine wpAny_bind (wpAny_letGo ?_); rw [nm]
   refine wpAny_pure ⟨plainId_quiet F.plain_max_loop _,ih (j + 1) _ vb c (by omega) lt hst' (by simp only [argBest,hb,IH,if_false]; exact gb) gS' fun v' h'' tk'' hP' hk''=>?_⟩
   exact q v' h'' tk'' hP' fun b o hbw hbS e=>hk'' b o hbw hbS (hk' b o hbw e)
theorem maxd_first {prog:Program} {w:World} {A:Around} {R:Result->Shared->Prop} {I:Addr} {fp wr:List Addr} {n:Nat} {G:Nat->Value->Prop} {Sx:Nat->Heap->Prop} (W:Walks prog w A.in1 I fp wr n G Sx) (bt:Nat->Nat->Bool) (hcmp:CmpOf prog w A.in1 .Gt G bt) (S:Addr) (nf:S ∉ fp) (d:Value) {s:Shared} {c:Nat} (gs:Sx 0 s.heap)
 (gS:s.heap.get? S=some { cls:=.type "list",dict:=none,data:=.seq #[] c,slots:=#[] }) (q0:n=0->∀h' tk,(∀b o,b ∉ wr->b≠S->s.heap.get? b=some o->h'.get? b=some o)->R (.ok (.ret d)) { s with heap:=h',toks:=tk })
 (q:0 < n->∀v h' tk,G (argBest bt (n - 1)) v->(∀b o,b ∉ wr->b≠S->s.heap.get? b=some o->h'.get? b=some o)->R (.ok (.ret v)) { s with heap:=h',toks:=tk }) :
 codeAny (model prog w) A (.builtin "max.loop" ⟨[.ref I,.none,.ref S],[(Str.ofString "default",d)]⟩) R s:=by
 have nw:S ∉ wr:=fun h=>nf (W.sub _ h)
 have nm:(toString "max" ++ toString ".loop":String)="max.loop":=by decide
 refine codeAny_builtin F.entry_max_loop ?_; rw [Around.under_plainId F.plain_max_loop _]
 show wpAny _ A.in1 (seqItems? (.ref S) >>= _) _ _ s; refine wpAny_bind (wpAny_seqItems gS rfl ?_)
 show wpAny _ A.in1 (tryCatch (pyNext (.ref I)) _ >>= _) _ _ s
 rcases Nat.eq_zero_or_pos n with h0 | hn
 ·subst h0; refine wpAny_bind (wpAny_tryCatch (W.done s _ _ gs fun h' tk hk'=>?_))
  refine wpAny_bind (wpAny_rule (wpAny_pure ?_)); exact q0 rfl h' tk fun b o hbw _ e=>hk' b o hbw e
 ·refine wpAny_bind (wpAny_tryCatch (W.item 0 s _ _ hn gs fun v h' tk hP hst' hk'=>?_))
  have gS':=hk' S _ nw gS; show wpAny _ A.in1 (updateSeq S (fun _=>#[v,v]) >>= _) _ _ _
  refine wpAny_bind ?_; refine wpAny_updateSeq gS' rfl ?_; rw [nm]
  refine wpAny_pure ⟨plainId_quiet F.plain_max_loop _,maxd_loop W bt hcmp S nf _ _ 0 _ v _ rfl hn (W.frame _ _ _ hst' fun b hbf o e=>?_) hP (Heap.get?_update_self _ gS' rfl) fun v' h'' tk'' hP' hk''=>?_⟩
  ·exact (Heap.get?_update_other _ _ (fun h:S=b=>nf (by rw [h]; exact hbf))).trans e
  ·exact q hn v' h'' tk'' hP' fun b o hbw hbS e=>hk'' b o hbw hbS ((Heap.get?_update_other _ _ (Ne.symm hbS)).trans (hk' b o hbw e))
theorem maxd_args (a d:Value):argsOk "max" ⟨[a],[(Str.ofString "default",d)]⟩:=by unfold argsOk; kernel_rfl
theorem maxd_raw {prog:Program} {w:World} {A:Around} {E:Value->Shared->Prop} {s:Shared} {l:Addr} {its:List Value} {ns:List Int} {d:Value} {Q:Value->Shared->Prop} (hh:A.handled=none) (hl:s.heap.IsList l its.toArray) (hi:IntsAre its ns)
 (q0:ns=[]->∀h' tk,(∀b o,s.heap.get? b=some o->h'.get? b=some o)->Q d { s with heap:=h',toks:=tk })
 (q:∀h' tk M t',(∀b o,s.heap.get? b=some o->h'.get? b=some o)->M∈ns->(∀a,a∈ns->a<=M)->Q (.int M t') { s with heap:=h',toks:=tk }):wpAny (model prog w) A (call (.builtin "max") [.ref l] [(Str.ofString "default",d)]) Q E s:=by
 obtain ⟨xs,e⟩:=hi.allInts.items
 have hn:numsOf (intItems xs).toList=ns:=by rw [<- e]; exact hi.numsOf
 rw [nums_intItems] at hn; subst hn; rw [e] at hl
 have nm:(toString "max" ++ toString ".loop":String)="max.loop":=by decide
 refine kmb_tree PySem.F.kind_max PySem.F.plain_max PySem.F.entry_max (maxd_args _ _) ?_
 show wpAny _ A.in1 (Builtin.Builtins.bindParams "max" ["key","default"] 0 ⟨[],[(Str.ofString "default",d)]⟩ >>= _) _ _ s
 refine wpAny_bind (wpAny_of_eq (show Builtin.Builtins.bindParams "max" ["key","default"] 0 ⟨[],[(Str.ofString "default",d)]⟩=pure [none,some d] from by rfl) ?_)
 refine wpAny_bind (wpAny_pure ?_)
 refine wpAny_bind (iter_intList hl fun s2 es st hfp hlI=>?_)
 subst es
 refine wpAny_bind (wpAny_newObj_type ?_)
 have nf:_ ∉ _:=fun hm=>Im _ (hfp _ hm)
 rw [nm]
 have W:=Walks.list (prog:=prog) (w:=w) (A:=A.in1) hh _ l hlI (intItems xs)
 refine wpAny_pure ⟨plainId_quiet F.plain_max_loop _,maxd_first W _ (CmpOf.ints_gt (numAt xs) (fun _ _=>intItems_at)) _ nf d (W.frame _ _ _ st fun b _ o e=>Heap.get?_push_of_some _ e) (Heap.get?_push_size _ rfl) (fun h0 h' tk hk=>?_) (fun hpos v h' tk hv hk=>?_)⟩
 ·refine q0 ?_ h' tk fun b o e=>hk b o (fun hm=>?_) (fun hm=>?_) (Heap.get?_push_of_some _ (Heap.get?_push_of_some _ e))
  ·have hx:xs.size=0:=by simpa [intItems] using h0
   exact VE (by rw [Od,Array.length_toList]; exact hx)
  ·rw [IB.mp hm] at e; exact absurd (Heap.lt_size e) (Im _)
  ·exact absurd (hm.trans (Heap.size_push s.heap { cls:=.type "list_iterator",data:=.fields #[.ref l,.int 0 0] })) (O4 (Uu (Heap.lt_size e)))
 ·have hx:0 < xs.size:=by simpa [intItems] using hpos
  have hv':(intItems xs)[argBest (fun i j=>decide (numAt xs i > numAt xs j)) (xs.size - 1)]?=some v:=by simpa [intItems] using hv
  obtain ⟨t,rfl⟩:=intItems_at hv'
  obtain ⟨g1,g2⟩:=argBest_gt (numAt xs) (xs.size - 1)
  refine q h' tk _ t (fun b o e=>hk b o (fun hm=>?_) (fun hm=>?_) (Heap.get?_push_of_some _ (Heap.get?_push_of_some _ e))) ?_ fun a ha=>?_
  ·rw [IB.mp hm] at e; exact absurd (Heap.lt_size e) (Im _)
  ·exact absurd (hm.trans (Heap.size_push s.heap { cls:=.type "list_iterator",data:=.fields #[.ref l,.int 0 0] })) (O4 (Uu (Heap.lt_size e)))
  ·rw [numAt_eq]; exact PySem.getD_mem (by rw [Od,Array.length_toList]; omega)
  ·obtain ⟨j,hj,rfl⟩:=mem_getD ha
   rw [Od,Array.length_toList] at hj
   rw [<- numAt_eq]; exact g2 j (by omega)
structure Zh (P:Program) (w:World) (K:Oa) (mg:Str->Option Value) (base:Heap) (k:Nat) (x:Str) (ps:List Str) (sp:Sp):Prop where
 ex:∃(f:Addr) (fd:FuncData),FnOk P w K mg base CX0 k f fd ps sp/\mg x=some (.ref f)/\IY K (.ref f)=true/\Jg K fd ps []
structure Raw (K:Oa) (mg:Str->Option Value) (x qual:Str) (st:Stmt) (ps:List Str):Prop where
 ex:∃(f:Addr) (fd:FuncData),Fun K x qual st f fd/\mg x=some (.ref f)/\Jg K fd ps []
section
variable {P:Program} {w:World} {K:Oa} {mg:Str->Option Value} {base:Heap} {k:Nat} {x qual:Str} {st:Stmt} {N ps:List Str} {sp:Sp}
theorem Raw.callee (R:Raw K mg x qual st ps) (S:Zs N ps (Zj st)) (len:∀vs H Q E,sp vs H Q E->vs.length=ps.length)
 (hbody:∀(f:Addr) (cdv:Value) (A:Around) (outer:List Env) (s:Shared) (H:Hp) (vs:List V) (Q:VK) (E:XK),Qa k (A.deeper (envOfC qual (Zj st) s.heap.objs.size f cdv))->sp vs H Q E->
  ∃t,PSs (cxOf CX0 P w K mg base N qual (Zj st) f cdv A outer s H E).nox (WV st) t/\t { nx:=fun _ H'=>Q .non H',rt:=Q } (L2.start N vs) H):Zh P w K mg base (k + 1) x ps sp:=by
 obtain ⟨f,fd,F,m,b⟩:=R.ex
 exact ⟨f,fd,F.ok S len (hbody f),m,F.kp,b⟩
end
theorem Ze {X:Cx} {k:Nat} {x:Str} {ps:List Str} {sp:Sp} {e:Expr} {es:List Expr} {t:TA} {p pos:Pos} (F:Zh X.prog X.w X.K X.mg X.base k x ps sp) {j:Nat} (hr:Qa j X.A) (ha:PA X (e :: es) t) (hg:Gl X x:=by rfl)
 (hdb:(x == ("__debug__":Str))=false:=by decide) (he:starEach (e :: es) X.env=(false,eval e X.env) :: starEach es X.env:=by rfl) (hpl:(backTo pos (starEach es X.env)).any (·.1)=false:=by rfl) (hj:k<=j:=by decide) :
 PE X (.Call (.Name x p) (e :: es) [] pos) (tCall sp [] E0 t):=by
 obtain ⟨f,fd,F,m,kp,b⟩:=F.ex
 exact pe_call F (hr.mono hj) hg m kp b .nil pass0 ha hdb he hpl
def ZU (mg:Str->Option Value) (x:Str) (n:Nat):Prop:=∃t,mg x=some (.int (n:Int) t)
theorem ZT {X:Cx} {x:Str} {n:Nat} {pos:Pos} (h:ZU X.mg x n) (hg:Gl X x:=by rfl) (hd:(x == ("__debug__":Str))=false:=by decide):PE X (.Name x pos) (tC (N_ n)):=by
 obtain ⟨t,h⟩:=h
 exact pe_glob hg h ⟨t,rfl⟩ hd
theorem Ye {X:Cx} {x:Str} {a:Addr} {pos:Pos} (h:X.mg x=some (.ref a)) (hg:Gl X x:=by rfl) (hd:(x == ("__debug__":Str))=false:=by decide):PE X (.Name x pos) (tC (.ref a)):=pe_glob hg h rfl hd
structure Blt (mg:Str->Option Value):Prop where
 len:mg "len"=none
 list:mg "list"=none
 range:mg "range"=none
 enumerate:mg "enumerate"=none
 zip:mg "zip"=none
 max:mg "max"=none
 min:mg "min"=none
abbrev LN (l:List Nat):List V:=l.map N_
theorem W9 {l:List Nat} {n:Nat} (h:n < l.length):(LN l)[n]?=some (N_ (l.getD n 0)):=by
 rw [OP,Of h,Oe,Of h]
 rfl
def Tab (K:Oa) (a:Addr) (l:List Nat):Prop:=∀H,SqT K H a (LN l)
theorem rd_tab {K:Oa} {a:Addr} {l:List Nat} {n:Nat} {H:Hp} {Q:VK} (h:Tab K a l) (q:Q (N_ (l.getD n 0)) H) (hn:n < l.length):rIxT K (.ref a) (N_ n) H Q:=
 ⟨a,LN l,n,_,rfl,rfl,h H,ZdN (W9 hn),q⟩
theorem rd_ixL {K:Oa} {a:Addr} {l:List Nat} {n:Nat} {H:Hp} {Q:VK} (h:SqL K H a (LN l)) (q:Q (N_ (l.getD n 0)) H) (hn:n < l.length):rIxL K (.ref a) (N_ n) H Q:=
 ⟨a,LN l,n,_,rfl,rfl,h,ZdN (W9 hn),q⟩
theorem rd_call {sp:Sp} {E:XK} {t:TA} {σ:St} {H:Hp} {Q:VK} (h:t σ H fun vs H1=>sp (vs ++ []) H1 Q E):tCall sp [] E t σ H Q:=h
theorem Zo {t:TS} {D:Zah} {σ σ':St} {H:Hp} (e:σ=σ') (h:t D σ' H):t D σ H:=e ▸ h
theorem rd_nil {σ:St} {H:Hp} {Q:List V->Hp->Prop} (h:Q [] H):tNil σ H Q:=h
theorem rd_cons {ta:TE} {tr:TA} {σ:St} {H:Hp} {Q:List V->Hp->Prop} (h:ta σ H fun x H1=>tr σ H1 fun xs H2=>Q (x :: xs) H2):tCons ta tr σ H Q:=h
theorem rd_consV {tr:TA} {i:Nat} {v:V} {σ:St} {H:Hp} {Q:List V->Hp->Prop} (e:σ[i]?=some (some v)) (h:tr σ H fun xs H2=>Q (v :: xs) H2):tCons (tVar i) tr σ H Q:=⟨v,e,h⟩
theorem rd_consC {tr:TA} {c:V} {σ:St} {H:Hp} {Q:List V->Hp->Prop} (h:tr σ H fun xs H2=>Q (c :: xs) H2):tCons (tC c) tr σ H Q:=h
theorem rd_next {D:Zah} {σ:St} {H:Hp} (h:D.nx σ H):tNext D σ H:=h
theorem pip_of {X:Cx} {op:Operator} {r:R2} (h:OpR X (inplaceOp op) r):PIp X op r:=fun pins s σ H x y v u Q I rx ry q=>h pins s σ H x y v u Q I rx ry q
section
variable {P:Program} {w:World} {K:Oa} {mg:Str->Option Value} {base:Heap}
def Zgu:Sp:=fun vs H Q _=>∃a b c d:Nat,vs=[N_ a,N_ b,N_ c,N_ d]/\a < 2 ^ 64/\b < 2 ^ 64/\c < 2 ^ 64/\Q (N_ (ZbI a b c d)) H
theorem sc_joined:Zs ["a","b","c","d"] ["a","b","c","d"] (Zj (top 77)):=qsc
theorem c_joined (R:Raw K mg "joined" "joined" (top 77) ["a","b","c","d"]):Zh P w K mg base 1 "joined" ["a","b","c","d"] Zgu:=by
 refine R.callee sc_joined (fun vs H Q E h=>?_) (fun f cdv A outer s H vs Q E hr h=>?_)
 ·walk_at "ln"
 obtain ⟨a,b,c,d,rfl,ha,hb,hc,q⟩:=h
 refine ⟨_,(Zd (Zk (Zf Q9 (Zf Q9 (Zf Q9 (Zf XS (pv 0) (Zi 96)) (Zf XS (pv 1) (Zi 64))) (Zf XS (pv 2) (Zi 32))) (pv 3)))),?_⟩
 refine Zo (σ':=[some (N_ a),some (N_ b),some (N_ c),some (N_ d)]) rfl ?_
 nofun
 ·exact q
 all_goals exact ⟨by exact qw15,by decide⟩
def ZfD (K:Oa):Sp:=fun vs H Q _=>∃(p:Addr) (l:List Nat) (a b c d:Nat),vs=[.ref p,N_ a,N_ b,N_ c,N_ d]/\Tab K p l/\l.length=256/\Bytes256 l/\a < 2 ^ 32/\Q (N_ (J2 l a b c d)) H
where Bytes256 (l:List Nat):Prop:=∀n,l.getD n 0 < 256
theorem sc_boxed:Zs ["box","a","b","c","d","upper"] ["box","a","b","c","d"] (Zj (top 70)):=qsc
theorem c_boxed (R:Raw K mg "boxed" "boxed" (top 70) ["box","a","b","c","d"]):Zh P w K mg base 1 "boxed" ["box","a","b","c","d"] (ZfD K):=by
 refine R.callee sc_boxed (fun vs H Q E h=>?_) (fun f cdv A outer s H vs Q E hr h=>?_)
 ·walk_at "ln"
 obtain ⟨p,l,a,b,c,d,rfl,hT,hl,hB,ha,q⟩:=h
 refine ⟨_,(Zb (Zq 5 sc_boxed.nd (Zf Q9 (Zf XS (Zy ZeK (pv 0) (Zf Z4 (pv 1) (Zi 24))) (Zi 24)) (Zf XS (Zy ZeK (pv 0) (Zf ZZ (Zf Z4 (pv 2) (Zi 16)) (Zi 255))) (Zi 16)))) (Zd (Zk (Zf Q9 (Zf Q9 (pv 5) (Zf XS (Zy ZeK (pv 0) (Zf ZZ (Zf Z4 (pv 3) (Zi 8)) (Zi 255))) (Zi 8))) (Zy ZeK (pv 0) (Zf ZZ (pv 4) (Zi 255))))))),?_⟩
 refine Zo (σ':=[some (.ref p),some (N_ a),some (N_ b),some (N_ c),some (N_ d),none]) rfl ?_
 nofun
 ·exact q
 all_goals first
  | (rw [hl,Zey]; exact Ik _ (by decide))
  | (rw [hl]; omega)
  | (refine ⟨Ip (hB _) (by decide),by decide⟩)
end
section
variable {g:TG} {tb:TS} {D:Zah} {σ:St} {H:Hp}
structure Zbz (J:It) (n:Nat) (y:Nat->V):Prop where
 go:∀i H,i < n->J.go i H
 yld:∀i H x H',i < n->J.yld i H x H'->H'=H/\x=y i
 stop:∀i H,n<=i->J.stop i H
theorem XO {J:It} {n:Nat} {y:Nat->V} (S:Zbz J n y) (Pv:Nat->St->Hp->Prop) (h0:Pv 0 σ H)
 (hs:∀i σ H,i < n->Pv i σ H->g (y i) σ H fun σ2 H2=>tb { D with nx:=Pv (i + 1),ct:=Pv (i + 1),bk:=D.nx } σ2 H2) (hd:∀σ H,Pv n σ H->D.nx σ H) :
 ∃W:Nat->Nat->St->Hp->Prop,(∃m,W 0 m σ H)/\∀i m σ H,W i m σ H->
  (J.stop i H/\D.nx σ H)∨(J.go i H/\∃N:St->Hp->Prop,(∀σ' H',N σ' H'->∃m',m' < m/\W (i + 1) m' σ' H')/\∀x H',J.yld i H x H'->g x σ H' fun σ2 H2=>tb { D with nx:=N,ct:=N,bk:=D.nx } σ2 H2):=by
 refine ⟨fun i m σ H=>m=n - i/\i<=n/\Pv i σ H,⟨n,by simp,Ib _,h0⟩,?_⟩
 rintro i m σ H ⟨rfl,hi,p⟩
 by_cases hlt:i < n
 ·refine .inr ⟨S.go i H hlt,Pv (i + 1),fun σ' H' p'=>⟨n - (i + 1),by omega,rfl,hlt,p'⟩,fun x H' hy=>?_⟩
  obtain ⟨e,e2⟩:=S.yld i H x H' hlt hy
  subst e e2
  exact hs i σ _ hlt p
 ·have e:i=n:=by lia
  subst e
  exact .inl ⟨S.stop i H (Oq _),hd σ H p⟩
theorem st_r1 (n:Nat):Zbz (Itr 0 ((n:Int)).toNat) n N_:=by
 refine ⟨fun i H h=>?_,fun i H x H' h q=>?_,fun i H h=>?_⟩
 ·show i < _; rw [Ot]; exact h
 ·obtain ⟨e1,e2⟩:=q
  exact ⟨e1,by rw [e2,Int.zero_add]⟩
 ·show _<=i; rw [Ot]; exact h
theorem st_r2 (lo hi:Nat):Zbz (Itr (lo:Int) ((hi:Int) - (lo:Int)).toNat) (hi - lo) (fun i=>N_ (lo + i)):=by
 refine ⟨fun i H h=>?_,fun i H x H' h q=>?_,fun i H h=>?_⟩
 ·show i < _; simp [*]
 ·obtain ⟨e1,e2⟩:=q
  exact ⟨e1,e2.trans (congrArg V.int (Uz lo i).symm)⟩
 ·show _<=i; simp [*]
theorem st_c {lo c:Int} {n:Nat} {y:Nat->Nat} (h:∀i,i < n->lo + (i:Nat) * c=(y i:Int)):Zbz (Itc lo c n) n (fun i=>N_ (y i)):=by
 refine ⟨fun i H h=>h,fun i H x H' hi q=>?_,fun i H h=>h⟩
 obtain ⟨e1,e2⟩:=q
 exact ⟨e1,by rw [e2,h i hi]⟩
theorem ZfB {n:Nat} (h:n < 2 ^ 62):RgC ((n:Int) - 1) (-1) (-1) n:=by
 have:=RgC.neg (i:=(n:Int) - 1) (j:=-1) (by lia) (by lia) (by lia) (by lia)
 have e:((n:Int) - 1 - -1).toNat=n:=by simp
 rwa [e] at this
theorem st_down (n:Nat):Zbz (Itc ((n:Int) - 1) (-1) n) n (fun i=>N_ (n - 1 - i)):=st_c fun i hi=>by omega
theorem Zgp {a b c:Int} (ha:-(2 ^ 62)<=a) (ha':a < 2 ^ 62) (hb:-(2 ^ 62)<=b) (hb':b < 2 ^ 62) (hc:c≠0) (hc':-100<=c/\c<=100):Builtin.Range.small a b c=true:=by
 have hr:-(2 ^ 63)<=Builtin.Range.rangeSize a b c/\Builtin.Range.rangeSize a b c < 2 ^ 63:=by
  unfold Builtin.Range.rangeSize
  split
  ·split
   ·have h1:(b - a - 1) / c<=b - a - 1:=Int.ediv_le_self _ (by lia)
    have h2:0<=(b - a - 1) / c:=Int.ediv_nonneg (by omega) (by lia)
    omega
   ·decide
  ·split
   ·have h1:(a - b - 1) / (-c)<=a - b - 1:=Int.ediv_le_self _ (by lia)
    have h2:0<=(a - b - 1) / (-c):=Int.ediv_nonneg (by omega) (by lia)
    omega
   ·omega
 unfold Builtin.Range.small
 simp only [Builtin.Range.rangeFitsLong,Oj,Te,decide_eq_true_eq,beq_iff_eq]
 refine ⟨⟨⟨⟨⟨by lia,by lia⟩,by lia,by lia⟩,by lia,by omega⟩,hr.1,hr.2⟩,.inr ?_⟩
 split <;> simp only [Oj,decide_eq_true_eq] <;> lia
theorem rg_up {lo hi c:Nat} (hc:0 < c) (hc':c<=100) (hl:lo < 2 ^ 60) (hh:hi < 2 ^ 60):RgC (lo:Int) (hi:Int) (c:Int) ((hi - lo + c - 1) / c):=by
 refine ⟨by lia,by exact ZbO,Zgp (by lia) (by lia) (by lia) (by lia) (by omega) (by lia),?_⟩
 unfold Builtin.Range.rangeSize
 rw [if_pos (by exact qw37)]
 by_cases h:lo < hi
 ·rw [if_pos (by exact qw37)]
  have e:hi - lo + c - 1=(hi - lo - 1) + 1 * c:=by lia
  rw [e,Nat.add_mul_div_right _ _ hc]
  have e2:(hi:Int) - (lo:Int) - 1=((hi - lo - 1:Nat):Int):=by omega
  rw [e2]
  rfl
 ·rw [if_neg (by simp [*])]
  have:hi - lo + c - 1=c - 1:=by omega
  rw [this,Vo (by omega)]
  rfl
theorem st_up (lo c n:Nat):Zbz (Itc (lo:Int) (c:Int) n) n (fun i=>N_ (lo + i * c)):=st_c fun i _=>by rw [Uz,Vv]
theorem rg_four {n:Nat} (h:n < 2 ^ 50):RgC ((4 * n:Nat):Int) (-1) (-4) (n + 1):=by
 refine ⟨by decide,by decide,Zgp (by lia) (by lia) (by omega) (by omega) (by omega) (by decide),?_⟩
 unfold Builtin.Range.rangeSize
 rw [if_neg (by decide),if_pos (by lia)]
 have e:- -4=(4:Int):=by decide
 rw [e]
 simp
theorem st_four (n:Nat):Zbz (Itc ((4 * n:Nat):Int) (-4) (n + 1)) (n + 1) (fun i=>N_ (4 * n - 4 * i)):=st_c fun i hi=>by omega
end
theorem Zl (H:Hp):ZA H H:=fun _ _ h=>h
theorem Zz {H H':Hp} {a:Addr} {o:HO} (s:ZA H H') (h:H a=none):ZA H (upd H' a o):=fun b u e=>by
 have hb:b≠a:=Zu e h
 rw [ZN hb]; exact s b u e
section
variable {te:TE} {σ:St} {H1:Hp} {Qd:Addr->Hp->Prop}
theorem ZcU {J:It} {n k:Nat} {y:Nat->V} (S:Zbz J n y) (f:Nat->V) (hn:n<=sizeLine)
 (hf:∀(j:Nat) (H:Hp) (R:VK),j < n->ZA H1 H->(∀H',ZA H H'->R (f j) H')->te ((σ.set k none).set k (some (y j))) H R)
 (hq:∀(D:Addr) (H':Hp),H1 D=none->ZA H1 H'->H' D=some (.lst ((Ob n).map f))->Qd D H') :
 ∀D,H1 D=none->∃W:Nat->Nat->Hp->Prop,(∃m,W 0 m (upd H1 D (.lst [])))/\∀i m H,W i m H->
  (J.stop i H/\Qd D H)∨(J.go i H/\∃Nx:Hp->Prop,(∀H',Nx H'->∃m',m' < m/\W (i + 1) m' H')/\∀x H',J.yld i H x H'->JX k x (X6 σ [k]) H' fun σ2 H2=>X6 σ2 [k]=X6 σ [k]/\tYes σ2 H2 fun b H3=>
   if b=true then te σ2 H3 fun y H4=>∃acc,H4 D=some (.lst acc)/\acc.length < sizeLine/\Nx (upd H4 D (.lst (acc ++ [y]))) else Nx H3):=by
 intro D hD
 refine ⟨fun i m H=>m=n - i/\i<=n/\ZA H1 H/\H D=some (.lst ((Ob i).map f)),⟨n,by simp,Ib _,Zz (Zl _) hD,Zn⟩,?_⟩
 rintro i m H ⟨rfl,hi,hS,hl⟩
 by_cases hlt:i < n
 ·refine .inr ⟨S.go i H hlt,fun H'=>ZA H1 H'/\H' D=some (.lst ((Ob (i + 1)).map f)),fun H' p'=>⟨n - (i + 1),by omega,rfl,hlt,p'⟩,fun x H' hy=>?_⟩
  obtain ⟨e,e2⟩:=S.yld i H x H' hlt hy
  subst e e2
  refine ⟨?_,?_⟩
  ·show ((σ.set k none).set k _).set k none=σ.set k none
   rw [IE,IE]
  ·unfold tYes
   refine YV ?_
   refine hf i _ _ hlt hS fun H4 hs=>⟨_,hs _ _ hl,?_,?_,?_⟩
   ·rw [Od,OL]; exact qw2
   ·exact fun b o hb=>by
     have:b≠D:=Zu hb hD
     rw [ZN this]
     exact hs _ _ (hS _ _ hb)
   ·rw [Zn,Yd,Ih]
    rfl
 ·have e:i=n:=by omega
  subst e
  exact .inl ⟨S.stop i H (Oq _),hq D H hD hS hl⟩
end
theorem rd_for {wi:TI} {g:TG} {tb:TS} {D:Zah} {σ:St} {H:Hp} (h:wi σ H fun J H1=>∃W:Nat->Nat->St->Hp->Prop,(∃m,W 0 m σ H1)/\∀i m σ H,W i m σ H->
 (J.stop i H/\D.nx σ H)∨(J.go i H/\∃N:St->Hp->Prop,(∀σ' H',N σ' H'->∃m',m' < m/\W (i + 1) m' σ' H')/\∀x H',J.yld i H x H'->g x σ H' fun σ2 H2=>tb { D with nx:=N,ct:=N,bk:=D.nx } σ2 H2)):tFor wi g tb D σ H:=h
theorem rd_lc {wi:TI} {g:TG} {tt:TT} {te:TE} {vs:List Nat} {σ:St} {H:Hp} {Q:VK} (h:wi σ H fun J H1=>∀D,H1 D=none->∃W:Nat->Nat->Hp->Prop,(∃m,W 0 m (upd H1 D (.lst [])))/\∀i m H,W i m H->
 (J.stop i H/\Q (.ref D) H)∨(J.go i H/\∃Nx:Hp->Prop,(∀H',Nx H'->∃m',m' < m/\W (i + 1) m' H')/\∀x H',J.yld i H x H'->g x (X6 σ vs) H' fun σ2 H2=>X6 σ2 vs=X6 σ vs/\tt σ2 H2 fun b H3=>
  if b=true then te σ2 H3 fun y H4=>∃acc,H4 D=some (.lst acc)/\acc.length < sizeLine/\Nx (upd H4 D (.lst (acc ++ [y]))) else Nx H3)):tLc wi g tt te vs σ H Q:=h
theorem rd_rng1 {ta:TA} {σ:St} {H:Hp} {R:It->Hp->Prop} (h:ta σ H fun vs H1=>∃j:Int,vs=[.int j]/\-(2 ^ 62)<=j/\j < 2 ^ 62/\R (Itr 0 j.toNat) H1):iRng1 ta σ H R:=h
theorem rd_rng2 {ta:TA} {σ:St} {H:Hp} {R:It->Hp->Prop} (h:ta σ H fun vs H1=>∃i j:Int,vs=[.int i,.int j]/\(-(2 ^ 62)<=i/\i < 2 ^ 62/\-(2 ^ 62)<=j/\j < 2 ^ 62)/\R (Itr i (j - i).toNat) H1):iRng2 ta σ H R:=h
theorem rd_rng3 {ta:TA} {σ:St} {H:Hp} {R:It->Hp->Prop} (h:ta σ H fun vs H1=>∃(i j c:Int) (n:Nat),vs=[.int i,.int j,.int c]/\RgC i j c n/\R (Itc i c n) H1):iRng3 ta σ H R:=h
theorem rd_un {r:V->Hp->VK->Prop} {ta:TE} {σ:St} {H:Hp} {Q:VK} (h:ta σ H fun x H1=>r x H1 Q):tUn r ta σ H Q:=h
theorem rd_neg {i:Int} {H:Hp} {Q:VK} (h:Q (.int (-i)) H):rU (fun i=>.int (-i)) (.int i) H Q:=⟨i,rfl,h⟩
theorem rd_cb {r:List V->Hp->VK->Prop} {t:TA} {σ:St} {H:Hp} {Q:VK} (h:t σ H fun vs H1=>r vs H1 Q):tCB r t σ H Q:=h
theorem Jq {X:Cx} {f:Value} {r r':List V->Hp->VK->Prop} (h:WZ X f r) (i:∀xs H Q,r' xs H Q->r xs H Q):WZ X f r':=fun pins s σ H xs us Q I rx q=>h pins s σ H xs us Q I rx (i xs H Q q)
def rLen (K:Oa):List V->Hp->VK->Prop:=fun xs H Q=>∃(p:Addr) (ys:List V),xs=[.ref p]/\SqL K H p ys/\Q (N_ ys.length) H
theorem call_lenN {X:Cx}:WZ X (.builtin "len") (rLen X.K):=Jq ZdS fun xs H Q ⟨p,ys,h1,h2,q⟩=>⟨p,ys,h1,.inl h2,q⟩
theorem rd_len {K:Oa} {a:Addr} {l:List Nat} {H:Hp} {Q:VK} (h:SqL K H a (LN l)) (q:Q (N_ l.length) H):rLen K [.ref a] H Q:=⟨a,LN l,rfl,h,by rw [Od]; exact q⟩
theorem rd_sl {r:V->Option Int->Option Int->Hp->VK->Prop} {te:TE} {tl th:TO} {σ:St} {H:Hp} {Q:VK} (h:te σ H fun x H1=>tl σ H1 fun l H2=>th σ H2 fun u H3=>r x l u H3 Q):tSl r te tl th σ H Q:=h
def rPart (x:V) (H:Hp) (Q:Option Int->Hp->Prop):Prop:=∃n:Nat,x=N_ n/\Q (some (n:Int)) H
def tPartN (t:TE):TO:=fun σ H Q=>t σ H fun x H1=>rPart x H1 Q
theorem Wd {X:Cx} {e:Expr} {te:TE} (h:PE X e te):PO X (some e) (tPartN te):=by
 intro pins s σ H Q I hw
 rw [evalPart_some]
 refine thn (h pins s σ H _ I hw) fun u s1 ⟨x,H1,I1,r1,q1⟩=>?_
 obtain ⟨i,rfl,q⟩:=q1
 obtain ⟨t,rfl⟩:=r1
 exact ⟨some (i:Int),H1,I1,.int i t,q⟩
theorem rd_part {t:TE} {σ:St} {H:Hp} {Q:Option Int->Hp->Prop} (h:t σ H fun x H1=>rPart x H1 Q):tPartN t σ H Q:=h
theorem rd_pn {n:Nat} {H:Hp} {Q:Option Int->Hp->Prop} (h:Q (some (n:Int)) H):rPart (N_ n) H Q:=⟨n,rfl,h⟩
theorem rd_nopart {σ:St} {H:Hp} {Q:Option Int->Hp->Prop} (h:Q none H):tNoPart σ H Q:=h
theorem cutV_nat (l:List Nat) (lo hi:Nat):cutV (LN l) (some (lo:Int)) (some (hi:Int))=LN ((l.drop lo).take (hi - lo)):=by
 unfold cutV
 rw [HT.sIx_nat,HT.sIx_nat,Od,<- VU,<- Vl]
 congr 1
 by_cases h:lo<=l.length
 ·rw [UJ h]
  by_cases h2:hi<=l.length
  ·rw [UJ h2]
  ·rw [Ta (by lia),Iu (by rw [OS]; simp),Iu (by rw [OS]; lia)]
 ·rw [show min lo l.length=l.length by lia,O2 (Oq _),O2 (show l.length<=lo by lia)]
  simp
theorem cutV_to (l:List Nat) (hi:Nat):cutV (LN l) none (some (hi:Int))=LN (l.take hi):=by
 unfold cutV
 rw [HT.sIx_nat,HT.sIx_none,VI,Od,Nat.sub_zero,<- Vl]
 congr 1
 by_cases h:hi<=l.length
 ·rw [UJ h]
 ·rw [Ta (by omega),Iu (Oq _),Iu (by omega)]
theorem cutV_from (l:List Nat) (lo:Nat):cutV (LN l) (some (lo:Int)) none=LN (l.drop lo):=by
 unfold cutV
 rw [HT.sIx_nat,HT.sIx_none,Od,<- VU,<- Vl]
 congr 1
 by_cases h:lo<=l.length
 ·rw [UJ h,Iu (by rw [OS]; simp)]
 ·rw [Ta (by omega),O2 (Oq _),O2 (by omega)]
  simp
section
variable {K:Oa} {a:Addr} {l:List Nat} {H:Hp} {Q:VK}
theorem Wr {lo hi:Nat} (h:SqL K H a (LN l)) (q:∀p,H p=none->Q (.ref p) (upd H p (.lst (LN ((l.drop lo).take (hi - lo)))))):rSlL K (.ref a) (some (lo:Int)) (some (hi:Int)) H Q:=
 ⟨a,LN l,rfl,h,fun p hp=>by rw [cutV_nat]; exact q p hp⟩
theorem rd_cutTo {hi:Nat} (h:SqL K H a (LN l)) (q:∀p,H p=none->Q (.ref p) (upd H p (.lst (LN (l.take hi))))):rSlL K (.ref a) none (some (hi:Int)) H Q:=
 ⟨a,LN l,rfl,h,fun p hp=>by rw [cutV_to]; exact q p hp⟩
theorem rd_cutFrom {lo:Nat} (h:SqL K H a (LN l)) (q:∀p,H p=none->Q (.ref p) (upd H p (.lst (LN (l.drop lo))))):rSlL K (.ref a) (some (lo:Int)) none H Q:=
 ⟨a,LN l,rfl,h,fun p hp=>by rw [cutV_from]; exact q p hp⟩
end
theorem YK {X:Cx} (K:Oa) (h:X.K=K:=by rfl):SlR X (rSlL K):=by subst h; exact sl_list
theorem Zv {X:Cx} (K:Oa) (h:X.K=K:=by rfl):IxR X (rIxL K):=by subst h; exact ix_list
theorem ZO {X:Cx} (K:Oa) (h:X.K=K:=by rfl):IxR X (rIxT K):=by subst h; exact ZeK
theorem YW {X:Cx} {tg l:Expr} {tl:TE} (K:Oa) (hl:PE X l tl) (h:X.K=K:=by rfl):PI X tg l (iList K tl):=by subst h; exact pi_list hl
theorem ZQ {X:Cx} (K:Oa) (h:X.K=K:=by rfl):WZ X (.builtin "len") (rLen K):=by subst h; exact call_lenN
theorem rd_lst {t:TA} {σ:St} {H:Hp} {Q:VK} (h:t σ H fun xs H1=>xs.length<=sizeLine/\∀p,H1 p=none->Q (.ref p) (upd H1 p (.lst xs))):tLst t σ H Q:=h
theorem rd_tup {t:TA} {σ:St} {H:Hp} {Q:VK} (h:t σ H fun xs H1=>xs.length<=sizeLine/\∀p,H1 p=none->Q (.ref p) (upd H1 p (.tup xs))):tTup t σ H Q:=h
theorem rd_drop {te:TE} {D:Zah} {σ:St} {H:Hp} (h:te σ H fun _ H1=>D.nx σ H1):tDrop te D σ H:=h
theorem rd_bm {K:Oa} {T:String} {r:V->List V->Hp->VK->Prop} {to:TE} {t:TA} {σ:St} {H:Hp} {Q:VK} (h:to σ H fun x H1=>tyV K T x H1/\t σ H1 fun xs H2=>r x xs H2 Q):tBM K T r to t σ H Q:=h
theorem rd_aug {i:Nat} {te:TE} {ti:TIp} {D:Zah} {σ:St} {H:Hp} {x:V} (e:σ[i]?=some (some x)) (h:te σ H fun y H1=>ti x y H1 fun z H2=>D.nx (σ.set i (some z)) H2):tAug i te ti D σ H:=⟨x,e,h⟩
theorem rd_gsub {to ti:TE} {t:TSet} {v:V} {σ:St} {H:Hp} {Q:St->Hp->Prop} (h:to σ H fun o H1=>ti σ H1 fun i H2=>t o i v H2 fun H3=>Q σ H3):gSub to ti t v σ H Q:=h
theorem LN_set (l:List Nat) (k v:Nat):LN (l.set k v)=(LN l).set k (N_ v):=List.map_set
theorem ZcI (l m:List Nat):LN (l ++ m)=LN l ++ LN m:=Ih
theorem rd_set {p:Addr} {l:List Nat} {k v:Nat} {H:Hp} {Q:Hp->Prop} (h:H p=some (.lst (LN l))) (hk:k < l.length) (q:Q (upd H p (.lst (LN (l.set k v))))):rSetL (.ref p) (N_ k) (N_ v) H Q:=
 ⟨p,LN l,k,k,rfl,rfl,h,by unfold ixN; rw [Od,if_pos (by exact O0 _),if_pos (by exact qw37)]; simp,by rw [LN_set] at q; exact q⟩
theorem Zp {n:Nat} (h:n<=1000000):n<=sizeLine:=by rw [sizeLine_eq]; exact ZbN
theorem Zbh {p:Addr} {l:List Nat} {v:Nat} {H:Hp} {Q:VK} (h:H p=some (.lst (LN l))) (hl:l.length < 1000000) (q:Q .non (upd H p (.lst (LN (l ++ [v]))))):rAppend (.ref p) [N_ v] H Q:=
 ⟨p,LN l,N_ v,rfl,rfl,h,by rw [Od,sizeLine_eq]; exact qw15,by rw [ZcI] at q; exact q⟩
theorem Xl {p b:Addr} {l m:List Nat} {H:Hp} {Q:VK} (h:H p=some (.lst (LN l))) (h2:H b=some (.lst (LN m))) (hl:l.length + m.length<=1000000) (q:Q .non (upd H p (.lst (LN (l ++ m))))):rExtend (.ref p) [.ref b] H Q:=
 ⟨p,b,LN l,LN m,rfl,rfl,h,h2,by rw [Od,Od]; exact Zp hl,by rw [ZcI] at q; exact q⟩
theorem Xq {p b:Addr} {l m:List Nat} {H:Hp} {Q:VK} (h:H p=some (.lst (LN l))) (h2:H b=some (.lst (LN m))) (hl:l.length + m.length<=1000000) (q:∀r,H r=none->Q (.ref r) (upd H r (.lst (LN (l ++ m))))):rCat (.ref p) (.ref b) H Q:=
 ⟨p,b,LN l,LN m,rfl,rfl,h,h2,by rw [Od,Od]; exact Zp hl,fun r hr=>by have:=q r hr; rw [ZcI] at this; exact this⟩
theorem rep_one (k c:Nat):(Ou k [N_ c]).flatten=LN (Ou k c):=by
 induction k with
 | zero=>rfl
 | succ k ih=>rw [Uv,Ut,ih]; rfl
theorem rd_rep {p:Addr} {c k:Nat} {H:Hp} {Q:VK} (h:H p=some (.lst [N_ c])) (hk:k<=1000000) (q:∀r,H r=none->Q (.ref r) (upd H r (.lst (LN (Ou k c))))):rRep (.ref p) (N_ k) H Q:=
 ⟨p,k,[N_ c],rfl,rfl,h,by exact O0 _,by lia,by rw [Ot,Uk,Tr]; exact Zp hk,fun r hr=>by rw [Ot,rep_one]; exact q r hr⟩
section
variable {P:Program} {w:World} {K:Oa} {mg:Str->Option Value} {base:Heap}
def spPow:Sp:=fun vs H Q _=>∃e:Nat,vs=[N_ e]/\e<=100/\∀H',ZA H H'->Q (N_ (10 ^ e)) H'
theorem Qt:Zs ["exponent","power","k"] ["exponent"] (Zj (top 6)):=qsc
theorem ZfQ (B:Blt mg) (R:Raw K mg "power_of_ten" "power_of_ten" (top 6) ["exponent"]):Zh P w K mg base 1 "power_of_ten" ["exponent"] spPow:=by
 refine R.callee Qt (fun vs H Q E h=>?_) (fun f cdv A outer s H vs Q E hr h=>?_)
 ·walk_at "ln"
 obtain ⟨e,rfl,he,q⟩:=h
 refine ⟨_,(Zb (Zq 1 Qt.nd (Zi 1)) (Zb (Xx PassesOwn.never rfl (QU rfl B.range (Za (pv 0) Zc)) (ZW 2 Qt.nd) (Zd (Zq 1 Qt.nd (Zf on_mulR (pv 1) (Zi 10))))) (Zd (Zk (pv 1))))),?_⟩
 refine Zo (σ':=[some (N_ e),none,none]) rfl ?_
 nofun
 refine ⟨e,rfl,by exact O0 _,by lia,XO (st_r1 e) (fun i σ H'=>H'=H/\∃v,σ=[some (N_ e),some (N_ (10 ^ i)),v]) ⟨rfl,none,rfl⟩ ?_ ?_⟩
 ·rintro i σ H' hi ⟨rfl,v,rfl⟩
  nofun
  ·exact ⟨rfl,some (N_ i),by rw [Ur]⟩
  ·decide
 ·rintro σ H' ⟨rfl,v,rfl⟩
  nofun
  exact q _ (Zl _)
def spNum (K:Oa):Sp:=fun vs H Q _=>∃(p:Addr) (b:Sy23.B),vs=[.ref p]/\SqL K H p (LN b)/\Ol b/\b.length<=16/\Q (N_ (Us b)) H
theorem XJ:Zs ["row","number","byte"] ["row"] (Zj (top 2)):=qsc
theorem Zg4 {b:Sy23.B} {i:Nat} {x:Nat} (hb:Ol b) (h:b[i]?=some x):Us (b.take i) * 2 ^ 8 ||| x=Us (b.take (i + 1)):=by
 have hx:x < 256:=hb x (O5 h)
 have e:b.take (i + 1)=b.take i ++ [x]:=by
  rw [VX,h]; rfl
 rw [e,Zdh,WX 8 rfl hx]
 lia
theorem Zc4 (R:Raw K mg "number_high_first" "number_high_first" (top 2) ["row"]):Zh P w K mg base 1 "number_high_first" ["row"] (spNum K):=by
 refine R.callee XJ (fun vs H Q E h=>?_) (fun f cdv A outer s H vs Q E hr h=>?_)
 ·walk_at "ln"
 obtain ⟨p,b,rfl,hS,hb,hl,q⟩:=h
 refine ⟨_,(Zb (Zq 1 XJ.nd (Zi 0)) (Zb (Xx PassesOwn.never rfl (YW K (pv 0)) (ZW 2 XJ.nd) (Zd (Zq 1 XJ.nd (Zf Q9 (Zf XS (pv 1) (Zi 8)) (pv 2))))) (Zd (Zk (pv 1))))),?_⟩
 refine Zo (σ':=[some (.ref p),none,none]) rfl ?_
 nofun
 refine ⟨_,rfl,p,rfl,⟨_,hS⟩,JD (K:=K) (a:=p) (xs:=LN b) (fun i σ H'=>H'=H/\∃v,σ=[some (.ref p),some (N_ (Us (b.take i))),v]) ⟨rfl,none,rfl⟩ (fun i σ H' _ ⟨e,_⟩=>e ▸ hS) ?_ ?_⟩
 ·rintro i y σ H' hi ⟨rfl,v,rfl⟩
  obtain ⟨x,hx,rfl⟩:∃x,b[i]?=some x/\N_ x=y:=by
   rw [OP] at hi
   cases e:b[i]? with
   | none=>rw [e] at hi; cases hi
   | some x=>rw [e] at hi; exact ⟨x,rfl,Option.some.inj hi⟩
  nofun
  ·exact ⟨rfl,some (N_ x),by rw [Zg4 hb hx]⟩
  ·refine ⟨?_,by decide⟩
   have h1:=WH (XN hb i)
   have h2:(256:Nat) ^ (b.take i).length<=256 ^ 16:=Ir (by decide) (by rw [OM]; lia)
   exact OE h1 (OD h2 (by decide))
 ·rintro σ H' ⟨rfl,v,rfl⟩
  rw [Od,IL]
  nofun
  exact q
def Ze0 (K:Oa):Sp:=fun vs H Q _=>∃(p:Addr) (b:Sy23.B) (k:Nat),vs=[.ref p,N_ k]/\SqL K H p (LN b)/\Ol b/\b.length < 100000/\0 < k/\k<=16/\b.length % k=0/\
 ∀(H':Hp) (q:Addr),ZA H H'->H q=none->H' q=some (.lst (LN (YH k b)))->Q (.ref q) H'
theorem Wt:Zs ["row","width","k"] ["row","width"] (Zj (top 3)):=qsc
theorem Zce (B:Blt mg) (R:Raw K mg "numbers_high_first" "numbers_high_first" (top 3) ["row","width"]) (Yt:Zh P w K mg base 1 "number_high_first" ["row"] (spNum K)) :
 Zh P w K mg base 2 "numbers_high_first" ["row","width"] (Ze0 K):=by
 refine R.callee Wt (fun vs H Q E h=>?_) (fun f cdv A outer s H vs Q E hr h=>?_)
 ·walk_at "ln"
 obtain ⟨p,b,k,rfl,hS,hb,hl,h0,h16,hm,q⟩:=h
 refine ⟨_,(Zd (Zk (Zbf rfl Wt.nd (Jt rfl B.range (Za (Zi 0) (Za (ZL (ZQ K) rfl B.len Ox (Za (pv 0) Zc)) (Za (pv 1) Zc)))) (Y7 (own:=[("k",2)]) rfl) (fun _ _ _ _ _=>(ZW 2 Wt.nd)) (fun _ _ _ _ _=>Wc) (fun _ _ _ _ _=>(Ze Yt hr (Za (YI (YK K) (pv 0) (Wd (pv 2)) (Wd (Zf Z7 (pv 2) (pv 1)))) Zc)))))),?_⟩
 refine Zo (σ':=[some (.ref p),some (N_ k),none]) rfl ?_
 nofun
 have hn:(b.length - 0 + k - 1) / k=b.length / k:=by
  have e:b.length - 0 + k - 1=(k - 1) + b.length:=by lia
  have hd:b.length=k * (b.length / k):=by have:=Nat.div_add_mod b.length k; lia
  rw [e,hd,Nat.add_mul_div_left _ _ h0,Vo (by omega),Ve _ h0,UG]
 refine ⟨_,_,_,b.length / k,rfl,hn ▸ rg_up (lo:=0) (hi:=b.length) (c:=k) h0 (by exact ZbN) (by decide) (by exact qw15),ZcU (st_up 0 k (b.length / k)) (fun i=>N_ (Us (Oh b (k * i) k))) ?_ ?_ ?_⟩
 ·exact Zp (OD (Uq _ _) (by lia))
 ·intro j H2 R' hj hs hR
  dsimp only [Iy]
  nofun
  refine Wr (hs.seq hS) fun r hr'=>?_
  nofun
  have e:(b.drop (0 + j * k)).take (0 + j * k + k - (0 + j * k))=Oh b (k * j) k:=by
   unfold Oh
   rw [UG,O3 j k,UH]
  refine ⟨r,Oh b (k * j) k,rfl,SqL.of (by rw [Zn,e]),WI hb _ _,?_,hR _ (Zz (Zl _) hr')⟩
  unfold Oh
  rw [OM]
  lia
 ·intro D H' hD hs hl'
  refine q H' D hs hD ?_
  rw [hl']
  unfold LN YH TQ
  rw [O8,O8]
  rfl
def spBytes:Sp:=fun vs H Q _=>∃(n k:Nat),vs=[N_ n,N_ k]/\k<=100/\0 < k/\
 ∀(H':Hp) (q:Addr),ZA H H'->H q=none->H' q=some (.lst (LN (Vs k n)))->Q (.ref q) H'
theorem Qg:Zs ["number","count","k"] ["number","count"] (Zj (top 1)):=qsc
theorem Zdi (B:Blt mg) (R:Raw K mg "bytes_high_first" "bytes_high_first" (top 1) ["number","count"]):Zh P w K mg base 1 "bytes_high_first" ["number","count"] spBytes:=by
 refine R.callee Qg (fun vs H Q E h=>?_) (fun f cdv A outer s H vs Q E hr h=>?_)
 ·walk_at "ln"
 obtain ⟨n,k,rfl,hk,h0,q⟩:=h
 refine ⟨_,(Zd (Zk (Zbf rfl Qg.nd (Jt rfl B.range (Za (Zf Xg (pv 1) (Zi 1)) (Za (Zcr Zax JU) (Za (Zcr Zax JU) Zc)))) (Y7 (own:=[("k",2)]) rfl) (fun _ _ _ _ _=>(ZW 2 Qg.nd)) (fun _ _ _ _ _=>Wc) (fun _ _ _ _ _=>(Zf ZZ (Zf Z4 (pv 0) (Zf Q8 (Zi 8) (pv 2))) (Zi 255)))))),?_⟩
 refine Zo (σ':=[some (N_ n),some (N_ k),none]) rfl ?_
 nofun
 ·have e:((k - 1:Nat):Int)=(k:Int) - 1:=by lia
  refine ⟨_,_,_,k,rfl,e ▸ ZfB (n:=k) (by exact ZbO),e ▸ ZcU (st_down k) (fun i=>N_ (n / 2 ^ (8 * (k - 1 - i)) &&& 255)) ?_ ?_ ?_⟩
  ·exact Zp (by exact ZbN)
  ·intro j H2 R' hj hs hR
   dsimp only [Iy]
   nofun
   ·exact hR _ (Zl _)
   ·decide
  ·intro D H' hD hs hl'
   refine q H' D hs hD ?_
   rw [hl']
   unfold LN
   congr 2
   have e2:(fun i=>N_ (n / 2 ^ (8 * (k - 1 - i)) &&& 255))=N_ ∘ fun i=>n / 2 ^ (8 * (k - 1 - i)) &&& 255:=rfl
   rw [e2,<- O8]
   congr 1
   unfold Vs Om
   rw [<- List.map_reverse]
   apply Ui
   ·simp
   ·intro i h1 h2
    simp only [Od,OL] at h1
    simp only [Uj,IT,List.getElem_reverse,OL]
    rw [Zey,pow256]
 ·exact h0
end
def rLst (K:Oa):List V->Hp->VK->Prop:=fun xs H Q=>∃(p:Addr) (ys:List V),xs=[.ref p]/\SqL K H p ys/\∀l,H l=none->Q (.ref l) (upd H l (.lst ys))
theorem call_lstK {X:Cx} (K:Oa) (h:X.K=K:=by rfl):WZ X (.type "list") (rLst K):=by
 subst h
 exact Jq ZdT fun xs H Q ⟨p,ys,h1,h2,q⟩=>⟨p,ys,h1,.inl h2,q⟩
theorem rd_lstOf {K:Oa} {a:Addr} {l:List Nat} {H:Hp} {Q:VK} (h:SqL K H a (LN l)) (q:∀r,H r=none->Q (.ref r) (upd H r (.lst (LN l)))):rLst K [.ref a] H Q:=⟨a,LN l,rfl,h,q⟩
theorem Qp {K:Oa} {a:Addr} {xs:List V} {H:Hp} (h:H a=some (.lst xs)):tyV K "list" (.ref a) H:=.inl ⟨rfl,_,SqL.of h⟩
section
variable {P:Program} {w:World} {K:Oa} {mg:Str->Option Value} {base:Heap}
def spBlend:Sp:=fun vs H Q _=>∃k b c d:Nat,vs=[N_ k,N_ b,N_ c,N_ d]/\Q (N_ (Zcc k b c d)) H
theorem sc_blended:Zs ["k","b","c","d"] ["k","b","c","d"] (Zj (top 11)):=qsc
theorem c_blended (R:Raw K mg "blended" "blended" (top 11) ["k","b","c","d"]):Zh P w K mg base 1 "blended" ["k","b","c","d"] spBlend:=by
 refine R.callee sc_blended (fun vs H Q E h=>?_) (fun f cdv A outer s H vs Q E hr h=>?_)
 ·walk_at "ln"
 obtain ⟨k,b,c,d,rfl,q⟩:=h
 refine ⟨_,(Zb (ZM (ZP Zdb (pv 0) (Zi 20) (ZR _)) (Zd (Zk (Zf Z7 (Zf ZK (pv 3) (Zf ZZ (pv 1) (Zf ZK (pv 2) (pv 3)))) (Zi 1518500249)))) Zx) (Zb (ZM (ZP Zdb (pv 0) (Zi 40) (ZR _)) (Zd (Zk (Zf Z7 (Zf ZK (Zf ZK (pv 1) (pv 2)) (pv 3)) (Zi 1859775393)))) Zx) (Zb (ZM (ZP Zdb (pv 0) (Zi 60) (ZR _)) (Zd (Zk (Zf Z7 (Zf Q9 (Zf ZZ (pv 1) (pv 2)) (Zf ZZ (pv 3) (Zf Q9 (pv 1) (pv 2)))) (Zi 2400959708)))) Zx) (Zd (Zk (Zf Z7 (Zf ZK (Zf ZK (pv 1) (pv 2)) (pv 3)) (Zi 3395469782))))))),?_⟩
 refine Zo (σ':=[some (N_ k),some (N_ b),some (N_ c),some (N_ d)]) rfl ?_
 nofun
 refine dif (fun h1=>?_) (fun h1=>?_)
 ·unfold Zcc at q
  rw [if_pos h1] at q
  nofun
  exact q
 nofun
 refine dif (fun h2=>?_) (fun h2=>?_)
 ·unfold Zcc at q
  rw [if_neg h1,if_pos h2] at q
  nofun
  exact q
 nofun
 refine dif (fun h3=>?_) (fun h3=>?_)
 ·unfold Zcc at q
  rw [if_neg h1,if_neg h2,if_pos h3] at q
  nofun
  exact q
 unfold Zcc at q
 rw [if_neg h1,if_neg h2,if_neg h3] at q
 nofun
 exact q
def spStretch (K:Oa):Sp:=fun vs H Q _=>∃(p:Addr) (l:List Nat),vs=[.ref p]/\SqL K H p (LN l)/\l.length=16/\Yl l/\
 ∀(H':Hp) (q:Addr),ZA H H'->H q=none->H' q=some (.lst (LN (drawn l 64)))->Q (.ref q) H'
theorem J7:Zs ["words","drawn","k","word"] ["words"] (Zj (top 10)):=qsc
theorem c_stretched (B:Blt mg) (X1:ZU mg "WORD_digests" 4294967295) (R:Raw K mg "stretched" "stretched" (top 10) ["words"]):Zh P w K mg base 1 "stretched" ["words"] (spStretch K):=by
 refine R.callee J7 (fun vs H Q E h=>?_) (fun f cdv A outer s H vs Q E hr h=>?_)
 ·walk_at "ln"
 obtain ⟨p,l,rfl,hS,hl,hw,q⟩:=h
 refine ⟨_,(Zb (Zq 1 J7.nd (ZeS (call_lstK K) rfl B.list PyProof.Rows.boot_list (Za (pv 0) Zc))) (Zb (Xx PassesOwn.never rfl (pi_range2 rfl B.range (Za (Zi 16) (Za (Zi 80) Zc))) (ZW 2 J7.nd) (Zb (Zq 3 J7.nd (Zf ZK (Zf ZK (Zf ZK (Zy (Zv K) (pv 1) (Zf Xg (pv 2) (Zi 3))) (Zy (Zv K) (pv 1) (Zf Xg (pv 2) (Zi 8)))) (Zy (Zv K) (pv 1) (Zf Xg (pv 2) (Zi 14)))) (Zy (Zv K) (pv 1) (Zf Xg (pv 2) (Zi 16))))) (Zd (Xh (Ji OH PySem.F.slot_list_append PySem.F.type_list_append Zbd (pv 1) (Za (Zf ZZ (Zf Q9 (Zf XS (pv 3) (Zi 1)) (Zf Z4 (pv 3) (Zi 31))) (ZT X1)) Zc)))))) (Zd (Zk (pv 1))))),?_⟩
 refine Zo (σ':=[some (.ref p),none,none,none]) rfl ?_
 nofun
 refine rd_lstOf hS fun d hd=>?_
 nofun
 refine ⟨_,_,rfl,⟨by decide,by decide,by decide,by decide⟩,XO (st_r2 16 80) (fun i σ H'=>∃v w,σ=[some (.ref p),some (.ref d),v,w]/\ZA H H'/\H' d=some (.lst (LN (drawn l i)))) ⟨none,none,rfl,Zz (Zl _) hd,Zn⟩ ?_ ?_⟩
 ·rintro i σ H' hi ⟨v,w,rfl,hs,hd'⟩
  have hlen:(drawn l i).length=16 + i:=by rw [drawn_len,hl]
  nofun
  ·refine ⟨Qp hd',?_⟩
   nofun
   ·refine Zbh hd' (by lia) ?_
    refine ⟨_,_,rfl,Zz hs hd,?_⟩
    rw [Zn,Zds]
    unfold Zci
    rw [hlen]
    rfl
   ·refine ⟨?_,by decide⟩
    have hx:=(ZfT hw i).1
    exact Ip (OA (n:=32) (OA (OA (hx.at _) (hx.at _)) (hx.at _)) (hx.at _)) (by decide)
  all_goals lia
 ·rintro σ H' ⟨v,w,rfl,hs,hd'⟩
  nofun
  exact q H' d hs hd hd'
def spClosing:Sp:=fun vs H Q _=>∃(p:Addr) (l:List Nat) (n:Nat),vs=[.ref p,N_ n]/\H p=some (.lst (LN l))/\l.length<=13/\n < 2 ^ 60/\
 ∀(H':Hp) (q:Addr),ZA H H'->H q=none->H' q=some (.lst (LN (Xo l n)))->Q (.ref q) H'
theorem ZeW:Zs ["words","length"] ["words","length"] (Zj (top 13)):=qsc
theorem Zfj (B:Blt mg) (R:Raw K mg "closing_block" "closing_block" (top 13) ["words","length"]):Zh P w K mg base 1 "closing_block" ["words","length"] spClosing:=by
 refine R.callee ZeW (fun vs H Q E h=>?_) (fun f cdv A outer s H vs Q E hr h=>?_)
 ·walk_at "ln"
 obtain ⟨p,l,n,rfl,hp,hl,hn,q⟩:=h
 refine ⟨_,(Zd (Zk (Zf Xp (Zf Xp (Zf Xp (pv 0) (ZH (Za (Zi 2147483648) Zc))) (Zf ZeQ (ZH (Za (Zi 0) Zc)) (Zf Xg (Zi 14) (ZL (ZQ K) rfl B.len Ox (Za (pv 0) Zc))))) (ZH (Za (Zf Q8 (Zi 8) (pv 1)) Zc))))),?_⟩
 refine Zo (σ':=[some (.ref p),some (N_ n)]) rfl ?_
 nofun
 refine ⟨Zp (by decide),fun a1 h1=>?_⟩
 have s1:ZA H (upd H a1 (.lst [N_ 2147483648])):=Zz (Zl _) h1
 generalize e1:upd H a1 (.lst [N_ 2147483648])=H1 at *
 refine Xq (m:=[2147483648]) (s1 _ _ hp) (by rw [<- e1]; exact Zn) (by simp; exact ZbN) fun a2 h2=>?_
 have f2:H a2=none:=s1.free h2
 have s2:=Zz (o:=.lst (LN (l ++ [2147483648]))) s1 f2
 have g2:(upd H1 a2 (.lst (LN (l ++ [2147483648])))) a2=some (.lst (LN (l ++ [2147483648]))):=Zn
 generalize upd H1 a2 (.lst (LN (l ++ [2147483648])))=H2 at *
 nofun
 refine ⟨Zp (by decide),fun a3 h3=>?_⟩
 have s3:=Zz (o:=.lst [N_ 0]) s2 (s2.free h3)
 have g3:(upd H2 a3 (.lst [N_ 0])) a2=_:=(ZN (Zu g2 h3)).trans g2
 have k3:(upd H2 a3 (.lst [N_ 0])) a3=some (.lst [N_ 0]):=Zn
 generalize upd H2 a3 (.lst [N_ 0])=H3 at *
 nofun
 refine rd_len (SqL.of (s3 _ _ hp)) ?_
 nofun
 ·refine rd_rep k3 (by omega) fun a4 h4=>?_
  have s4:=Zz (o:=.lst (LN (Ou (14 - l.length) 0))) s3 (s3.free h4)
  have g4:(upd H3 a4 (.lst (LN (Ou (14 - l.length) 0)))) a2=_:=(ZN (Zu g3 h4)).trans g3
  have k4:(upd H3 a4 (.lst (LN (Ou (14 - l.length) 0)))) a4=_:=Zn
  generalize upd H3 a4 (.lst (LN (Ou (14 - l.length) 0)))=H4 at *
  refine Xq g4 k4 (by simp; lia) fun a5 h5=>?_
  have s5:=Zz (o:=.lst (LN (l ++ [2147483648] ++ Ou (14 - l.length) 0))) s4 (s4.free h5)
  have g5:(upd H4 a5 (.lst (LN (l ++ [2147483648] ++ Ou (14 - l.length) 0)))) a5=_:=Zn
  generalize upd H4 a5 (.lst (LN (l ++ [2147483648] ++ Ou (14 - l.length) 0)))=H5 at *
  nofun
  ·refine ⟨Zp (by simp),fun a6 h6=>?_⟩
   have s6:=Zz (o:=.lst [N_ (8 * n)]) s5 (s5.free h6)
   have g6:(upd H5 a6 (.lst [N_ (8 * n)])) a5=_:=(ZN (Zu g5 h6)).trans g5
   have k6:(upd H5 a6 (.lst [N_ (8 * n)])) a6=some (.lst [N_ (8 * n)]):=Zn
   generalize upd H5 a6 (.lst [N_ (8 * n)])=H6 at *
   refine Xq (m:=[8 * n]) g6 k6 (by simp; lia) fun a7 h7=>?_
   exact q _ a7 (Zz s6 (s6.free h7)) (s6.free h7) Zn
  ·decide
 ·exact qw41
end
structure Tabs (K:Oa) (mg:Str->Option Value):Prop where
 box:∃a,mg "BOX"=some (.ref a)/\Tab K a BOX
 unbox:∃a,mg "UNBOX"=some (.ref a)/\Tab K a WG
 s0:∃a,mg "SPREAD0"=some (.ref a)/\Tab K a XZ
 s1:∃a,mg "SPREAD1"=some (.ref a)/\Tab K a WQ
 s2:∃a,mg "SPREAD2"=some (.ref a)/\Tab K a WR
 s3:∃a,mg "SPREAD3"=some (.ref a)/\Tab K a WS
 g0:∃a,mg "GATHER0"=some (.ref a)/\Tab K a XD
 g1:∃a,mg "GATHER1"=some (.ref a)/\Tab K a Wv
 g2:∃a,mg "GATHER2"=some (.ref a)/\Tab K a Ww
 g3:∃a,mg "GATHER3"=some (.ref a)/\Tab K a Wx
theorem Za0 (n:Nat):BOX.getD n 0 < 256:=by
 by_cases h:n < 256
 ·rw [Yb h]; exact ZX h
 ·rw [Oe,UA (by rw [ZcN]; exact qw6)]; decide
theorem Zay (n:Nat):WG.getD n 0 < 256:=by
 by_cases h:n < 256
 ·rw [Yp h]; exact Y3 h
 ·rw [Oe,UA (by rw [Zbm]; omega)]; decide
theorem sp_len:XZ.length=256/\WQ.length=256/\WR.length=256/\WS.length=256:=⟨rfl,rfl,rfl,rfl⟩
theorem ga_len:XD.length=256/\Wv.length=256/\Ww.length=256/\Wx.length=256:=⟨rfl,rfl,rfl,rfl⟩
theorem Zez (n:Nat):n &&& 255 < 256:=by rw [Zey]; exact Ik _ (by decide)
section
variable {P:Program} {w:World} {K:Oa} {mg:Str->Option Value} {base:Heap}
def spSubst:Sp:=fun vs H Q _=>∃a:Nat,vs=[N_ a]/\a < 2 ^ 32/\Q (N_ (subW a)) H
theorem Zgk:Zs ["word"] ["word"] (Zj (top 71)):=qsc
theorem ZgT (T:Tabs K mg) (R:Raw K mg "substituted" "substituted" (top 71) ["word"]) (X7:Zh P w K mg base 1 "boxed" ["box","a","b","c","d"] (ZfD K)):Zh P w K mg base 2 "substituted" ["word"] spSubst:=by
 refine R.callee Zgk (fun vs H Q E h=>?_) (fun f cdv A outer s H vs Q E hr h=>?_)
 ·walk_at "ln"
 obtain ⟨a,rfl,ha,q⟩:=h
 obtain ⟨aB,Zb6,tB⟩:=T.box
 refine ⟨_,(Zd (Zk (Ze X7 hr (Za (Ye Zb6) (Za (pv 0) (Za (pv 0) (Za (pv 0) (Za (pv 0) Zc)))))))),?_⟩
 refine Zo (σ':=[some (N_ a)]) rfl ?_
 nofun
 exact ⟨aB,BOX,a,a,a,a,rfl,tB,rfl,Za0,ha,q⟩
def spTurned:Sp:=fun vs H Q _=>∃a:Nat,vs=[N_ a]/\a < 2 ^ 32/\Q (N_ (rotW a)) H
theorem sc_turned:Zs ["word"] ["word"] (Zj (top 72)):=qsc
theorem c_turned (YN:ZU mg "WORD_blocks" 4294967295) (R:Raw K mg "turned" "turned" (top 72) ["word"]):Zh P w K mg base 1 "turned" ["word"] spTurned:=by
 refine R.callee sc_turned (fun vs H Q E h=>?_) (fun f cdv A outer s H vs Q E hr h=>?_)
 ·walk_at "ln"
 obtain ⟨a,rfl,ha,q⟩:=h
 refine ⟨_,(Zd (Zk (Zf ZZ (Zf Q9 (Zf XS (pv 0) (Zi 8)) (Zf Z4 (pv 0) (Zi 24))) (ZT YN)))),?_⟩
 refine Zo (σ':=[some (N_ a)]) rfl ?_
 nofun
 ·exact q
 ·exact ⟨by exact qw15,by decide⟩
def spDoubled:Sp:=fun vs H Q _=>∃a:Nat,vs=[N_ a]/\a < 256/\Q (N_ (dblC a)) H
theorem Zgf:Zs ["constant","twice"] ["constant"] (Zj (top 73)):=qsc
theorem c_doubled (R:Raw K mg "doubled" "doubled" (top 73) ["constant"]):Zh P w K mg base 1 "doubled" ["constant"] spDoubled:=by
 refine R.callee Zgf (fun vs H Q E h=>?_) (fun f cdv A outer s H vs Q E hr h=>?_)
 ·walk_at "ln"
 obtain ⟨a,rfl,ha,q⟩:=h
 refine ⟨_,(Zb (Zq 1 Zgf.nd (Zf XS (pv 0) (Zi 1))) (Zb (ZM (ZP on_gt (pv 1) (Zi 255) (ZR _)) (Zd (Zk (Zf ZK (pv 1) (Zi 283)))) Zx) (Zd (Zk (pv 1))))),?_⟩
 refine Zo (σ':=[some (N_ a),none]) rfl ?_
 nofun
 ·refine dif (fun h=>?_) (fun h=>?_)
  ·unfold dblC at q
   rw [if_pos h] at q
   nofun
   exact q
  ·unfold dblC at q
   rw [if_neg h] at q
   nofun
   exact q
 ·exact ⟨by exact qw15,by decide⟩
def spUnmixed:Sp:=fun vs H Q _=>∃a:Nat,vs=[N_ a]/\a < 2 ^ 32/\Q (N_ (Jv a)) H
theorem Zgm:Zs ["word","first"] ["word"] (Zj (top 75)):=qsc
theorem c_unmixed (T:Tabs K mg) (R:Raw K mg "unmixed" "unmixed" (top 75) ["word"]):Zh P w K mg base 1 "unmixed" ["word"] spUnmixed:=by
 refine R.callee Zgm (fun vs H Q E h=>?_) (fun f cdv A outer s H vs Q E hr h=>?_)
 ·walk_at "ln"
 obtain ⟨a,rfl,ha,q⟩:=h
 obtain ⟨aB,Zb6,tB⟩:=T.box
 obtain ⟨a0,G_GATHER0,t0⟩:=T.g0
 obtain ⟨a1,G_GATHER1,t1⟩:=T.g1
 obtain ⟨a2,G_GATHER2,t2⟩:=T.g2
 obtain ⟨a3,G_GATHER3,t3⟩:=T.g3
 obtain ⟨l0,l1,l2,l3⟩:=ga_len
 refine ⟨_,(Zb (Zq 1 Zgm.nd (Zf ZK (Zy (ZO K) (Ye G_GATHER0) (Zy (ZO K) (Ye Zb6) (Zf Z4 (pv 0) (Zi 24)))) (Zy (ZO K) (Ye G_GATHER1) (Zy (ZO K) (Ye Zb6) (Zf ZZ (Zf Z4 (pv 0) (Zi 16)) (Zi 255)))))) (Zd (Zk (Zf ZK (Zf ZK (pv 1) (Zy (ZO K) (Ye G_GATHER2) (Zy (ZO K) (Ye Zb6) (Zf ZZ (Zf Z4 (pv 0) (Zi 8)) (Zi 255))))) (Zy (ZO K) (Ye G_GATHER3) (Zy (ZO K) (Ye Zb6) (Zf ZZ (pv 0) (Zi 255)))))))),?_⟩
 refine Zo (σ':=[some (N_ a),none]) rfl ?_
 nofun
 ·exact q
 all_goals first
  | (rw [ZcN]; first | exact Zez _ | omega)
  | (first | rw [l0] | rw [l1] | rw [l2] | rw [l3]); exact Za0 _
theorem Zcw {t0 t1 t2 t3:List Nat} (h0:Yl t0) (h1:Yl t1) (h2:Yl t2) (h3:Yl t3) {a b c d w:Nat} (hw:w < 2 ^ 32):rnd t0 t1 t2 t3 a b c d w < 2 ^ 32:=
 OA (OA (OA (OA (h0.at _) (h1.at _)) (h2.at _)) (h3.at _)) hw
theorem words_sp:Yl XZ/\Yl WQ/\Yl WR/\Yl WS:=by unfold Yl; refine ⟨?_,?_,?_,?_⟩ <;> decide +kernel
theorem words_ga:Yl XD/\Yl Wv/\Yl Ww/\Yl Wx:=by unfold Yl; refine ⟨?_,?_,?_,?_⟩ <;> decide +kernel
theorem ZbC {t:List Nat} (h:∀n,t.getD n 0 < 256) (a b c d:Nat):J2 t a b c d < 2 ^ 32:=by
 unfold J2
 rw [Qk (ZV.mpr ⟨h _,h _,h _,h _⟩),big4]
 have h1:=h (a / 2 ^ 24)
 have h2:=h (b / 2 ^ 16 &&& 255)
 have h3:=h (c / 2 ^ 8 &&& 255)
 have h4:=h (d &&& 255)
 lia
def In4 (q:Q4):Prop:=q.1 < 2 ^ 32/\q.2.1 < 2 ^ 32/\q.2.2.1 < 2 ^ 32/\q.2.2.2 < 2 ^ 32
def Zbk (K:Oa) (g:List Nat->Nat->Nat):Sp:=fun vs H Q _=>∃(p:Addr) (ws:List Nat) (R n:Nat),vs=[.ref p,N_ n]/\SqL K H p (LN ws)/\ws.length=4 * (R + 2)/\R<=20/\Yl ws/\n < 2 ^ 128/\Q (N_ (g ws n)) H
theorem x64 {a b:Nat} (ha:a < 2 ^ 32) (hb:b < 2 ^ 32):a ^^^ b < 2 ^ 64:=Ip (OA ha hb) (by decide)
def st11 (p:Addr) (n:Nat) (ws:List Nat) (q:Q4) (v7 v8 v9 v10:Option V):St:=[some (.ref p),some (N_ n),some (N_ q.1),some (N_ q.2.1),some (N_ q.2.2.1),some (N_ q.2.2.2),some (N_ (ws.length - 4)),v7,v8,v9,v10]
theorem Za8 (n:Nat):n &&& 4294967295 < 2 ^ 32:=by rw [Zb9]; exact Ik _ (by decide)
theorem opened_in {ws:List Nat} (hw:Yl ws) {n:Nat} (hn:n < 2 ^ 128):In4 (YF ws n):=
 ⟨OA (by lia) (hw.at _),OA (Za8 _) (hw.at _),OA (Za8 _) (hw.at _),OA (Za8 _) (hw.at _)⟩
theorem encStep_in {ws:List Nat} (hw:Yl ws) {q:Q4} (h:In4 q) (i:Nat):In4 (YD ws q i):=by
 obtain ⟨w0,w1,w2,w3⟩:=words_sp
 exact ⟨Zcw w0 w1 w2 w3 (hw.at _),Zcw w0 w1 w2 w3 (hw.at _),Zcw w0 w1 w2 w3 (hw.at _),Zcw w0 w1 w2 w3 (hw.at _)⟩
theorem decStep_in {ws:List Nat} (hw:Yl ws) {q:Q4} (h:In4 q) (i:Nat):In4 (J4 ws q i):=by
 obtain ⟨w0,w1,w2,w3⟩:=words_ga
 exact ⟨Zcw w0 w1 w2 w3 (hw.at _),Zcw w0 w1 w2 w3 (hw.at _),Zcw w0 w1 w2 w3 (hw.at _),Zcw w0 w1 w2 w3 (hw.at _)⟩
theorem Yh:Zs ["words","block","a","b","c","d","last","k","e","f","g"] ["words","block"] (Zj (top 78)):=qsc
theorem c_ciphered (B:Blt mg) (T:Tabs K mg) (YN:ZU mg "WORD_blocks" 4294967295) (R:Raw K mg "ciphered" "ciphered" (top 78) ["words","block"]) (X7:Zh P w K mg base 1 "boxed" ["box","a","b","c","d"] (ZfD K)) (Za5:Zh P w K mg base 1 "joined" ["a","b","c","d"] Zgu) :
 Zh P w K mg base 2 "ciphered" ["words","block"] (Zbk K enc):=by
 refine R.callee Yh (fun vs H Q E h=>?_) (fun f cdv A outer s H vs Q E hr h=>?_)
 ·walk_at "ln"
 obtain ⟨p,ws,r,n,rfl,hS,hl,hr20,hw,hn,q⟩:=h
 obtain ⟨aB,Zb6,tB⟩:=T.box
 obtain ⟨a0,G_SPREAD0,t0⟩:=T.s0
 obtain ⟨a1,G_SPREAD1,t1⟩:=T.s1
 obtain ⟨a2,G_SPREAD2,t2⟩:=T.s2
 obtain ⟨a3,G_SPREAD3,t3⟩:=T.s3
 obtain ⟨l0,l1,l2,l3⟩:=sp_len
 refine ⟨_,(Zb (Zq 2 Yh.nd (Zf ZK (Zf Z4 (pv 1) (Zi 96)) (Zy (Zv K) (pv 0) (Zi 0)))) (Zb (Zq 3 Yh.nd (Zf ZK (Zf ZZ (Zf Z4 (pv 1) (Zi 64)) (ZT YN)) (Zy (Zv K) (pv 0) (Zi 1)))) (Zb (Zq 4 Yh.nd (Zf ZK (Zf ZZ (Zf Z4 (pv 1) (Zi 32)) (ZT YN)) (Zy (Zv K) (pv 0) (Zi 2)))) (Zb (Zq 5 Yh.nd (Zf ZK (Zf ZZ (pv 1) (ZT YN)) (Zy (Zv K) (pv 0) (Zi 3)))) (Zb (Zq 6 Yh.nd (Zf Xg (ZL (ZQ K) rfl B.len Ox (Za (pv 0) Zc)) (Zi 4))) (Zb (Xx PassesOwn.never rfl (Jt rfl B.range (Za (Zi 4) (Za (pv 6) (Za (Zi 4) Zc)))) (ZW 7 Yh.nd) (Zb (Zq 8 Yh.nd (Zf ZK (Zf ZK (Zf ZK (Zf ZK (Zy (ZO K) (Ye G_SPREAD0) (Zf Z4 (pv 2) (Zi 24))) (Zy (ZO K) (Ye G_SPREAD1) (Zf ZZ (Zf Z4 (pv 3) (Zi 16)) (Zi 255)))) (Zy (ZO K) (Ye G_SPREAD2) (Zf ZZ (Zf Z4 (pv 4) (Zi 8)) (Zi 255)))) (Zy (ZO K) (Ye G_SPREAD3) (Zf ZZ (pv 5) (Zi 255)))) (Zy (Zv K) (pv 0) (pv 7)))) (Zb (Zq 9 Yh.nd (Zf ZK (Zf ZK (Zf ZK (Zf ZK (Zy (ZO K) (Ye G_SPREAD0) (Zf Z4 (pv 3) (Zi 24))) (Zy (ZO K) (Ye G_SPREAD1) (Zf ZZ (Zf Z4 (pv 4) (Zi 16)) (Zi 255)))) (Zy (ZO K) (Ye G_SPREAD2) (Zf ZZ (Zf Z4 (pv 5) (Zi 8)) (Zi 255)))) (Zy (ZO K) (Ye G_SPREAD3) (Zf ZZ (pv 2) (Zi 255)))) (Zy (Zv K) (pv 0) (Zf Z7 (pv 7) (Zi 1))))) (Zb (Zq 10 Yh.nd (Zf ZK (Zf ZK (Zf ZK (Zf ZK (Zy (ZO K) (Ye G_SPREAD0) (Zf Z4 (pv 4) (Zi 24))) (Zy (ZO K) (Ye G_SPREAD1) (Zf ZZ (Zf Z4 (pv 5) (Zi 16)) (Zi 255)))) (Zy (ZO K) (Ye G_SPREAD2) (Zf ZZ (Zf Z4 (pv 2) (Zi 8)) (Zi 255)))) (Zy (ZO K) (Ye G_SPREAD3) (Zf ZZ (pv 3) (Zi 255)))) (Zy (Zv K) (pv 0) (Zf Z7 (pv 7) (Zi 2))))) (Zb (Zq 5 Yh.nd (Zf ZK (Zf ZK (Zf ZK (Zf ZK (Zy (ZO K) (Ye G_SPREAD0) (Zf Z4 (pv 5) (Zi 24))) (Zy (ZO K) (Ye G_SPREAD1) (Zf ZZ (Zf Z4 (pv 2) (Zi 16)) (Zi 255)))) (Zy (ZO K) (Ye G_SPREAD2) (Zf ZZ (Zf Z4 (pv 3) (Zi 8)) (Zi 255)))) (Zy (ZO K) (Ye G_SPREAD3) (Zf ZZ (pv 4) (Zi 255)))) (Zy (Zv K) (pv 0) (Zf Z7 (pv 7) (Zi 3))))) (Zb (Zq 2 Yh.nd (pv 8)) (Zb (Zq 3 Yh.nd (pv 9)) (Zd (Zq 4 Yh.nd (pv 10)))))))))) (Zb (Zq 8 Yh.nd (Zf ZK (Ze X7 hr (Za (Ye Zb6) (Za (pv 2) (Za (pv 3) (Za (pv 4) (Za (pv 5) Zc)))))) (Zy (Zv K) (pv 0) (pv 6)))) (Zb (Zq 9 Yh.nd (Zf ZK (Ze X7 hr (Za (Ye Zb6) (Za (pv 3) (Za (pv 4) (Za (pv 5) (Za (pv 2) Zc)))))) (Zy (Zv K) (pv 0) (Zf Z7 (pv 6) (Zi 1))))) (Zb (Zq 10 Yh.nd (Zf ZK (Ze X7 hr (Za (Ye Zb6) (Za (pv 4) (Za (pv 5) (Za (pv 2) (Za (pv 3) Zc)))))) (Zy (Zv K) (pv 0) (Zf Z7 (pv 6) (Zi 2))))) (Zd (Zk (Ze Za5 hr (Za (pv 8) (Za (pv 9) (Za (pv 10) (Za (Zf ZK (Ze X7 hr (Za (Ye Zb6) (Za (pv 5) (Za (pv 2) (Za (pv 3) (Za (pv 4) Zc)))))) (Zy (Zv K) (pv 0) (Zf Z7 (pv 6) (Zi 3)))) Zc)))))))))))))))),?_⟩
 refine Zo (σ':=[some (.ref p),some (N_ n),none,none,none,none,none,none,none,none,none]) rfl ?_
 nofun
 ·refine ⟨_,_,_,r,rfl,?_,XO (st_up 4 4 r) (fun i σ H'=>H'=H/\∃v7 v8 v9 v10,σ=st11 p n ws ((Ob i).foldl (YD ws) (YF ws n)) v7 v8 v9 v10/\In4 ((Ob i).foldl (YD ws) (YF ws n)))
   ⟨rfl,none,none,none,none,rfl,opened_in hw hn⟩ ?_ ?_⟩
  ·have:=rg_up (lo:=4) (hi:=ws.length - 4) (c:=4) (by decide) (by decide) (by decide) (by omega)
   have e:(ws.length - 4 - 4 + 4 - 1) / 4=r:=by lia
   rwa [e] at this
  ·rintro i σ H' hi ⟨rfl,v7,v8,v9,v10,rfl,hq⟩
   have hin:=encStep_in hw hq i
   rw [Yd,OI,Ig,IQ]
   obtain ⟨b0,b1,b2,b3⟩:=hq
   generalize (Ob i).foldl (YD ws) (YF ws n)=q4 at *
   unfold st11
   nofun
   ·rw [O3 i 4]
    exact ⟨rfl,_,_,_,_,rfl,hin⟩
   all_goals first
    | (rw [l0]; omega)
    | (first | rw [l1] | rw [l2] | rw [l3]); exact Zez _
    | omega
  ·rintro σ H' ⟨rfl,v7,v8,v9,v10,rfl,b0,b1,b2,b3⟩
   unfold enc at q
   have er:ws.length / 4 - 2=r:=by simp [*]
   rw [er] at q
   unfold st11
   generalize (Ob r).foldl (YD ws) (YF ws n)=q4 at *
   nofun
   refine ⟨aB,BOX,_,_,_,_,rfl,tB,rfl,Za0,b0,?_⟩
   nofun
   ·refine ⟨aB,BOX,_,_,_,_,rfl,tB,rfl,Za0,b1,?_⟩
    nofun
    ·refine ⟨aB,BOX,_,_,_,_,rfl,tB,rfl,Za0,b2,?_⟩
     nofun
     ·refine ⟨aB,BOX,_,_,_,_,rfl,tB,rfl,Za0,b3,?_⟩
      nofun
      ·exact ⟨_,_,_,_,rfl,x64 (ZbC Za0 _ _ _ _) (hw.at _),x64 (ZbC Za0 _ _ _ _) (hw.at _),x64 (ZbC Za0 _ _ _ _) (hw.at _),q⟩
      all_goals omega
     all_goals omega
    all_goals omega
   all_goals omega
 all_goals lia
end
theorem rd_while {c:TT} {tb:TS} {D:Zah} {σ:St} {H:Hp} (W:Nat->St->Hp->Prop) (m0:Nat) (h0:W m0 σ H)
 (h:∀m σ H,W m σ H->c σ H fun b H1=>if b=true then ∃N:St->Hp->Prop,(∀σ' H',N σ' H'->∃m',m' < m/\W m' σ' H')/\tb { D with nx:=N,ct:=N,bk:=D.nx } σ H1 else D.nx σ H1):tWhile c tb D σ H:=⟨W,⟨m0,h0⟩,h⟩
theorem YJ {H0 H:Hp} {a:Addr} (o:HO) (s:ZA H0 H) (h:H a=none):∃H1,upd H a o=H1/\ZA H0 H1/\ZA H H1/\H1 a=some o/\H0 a=none:=
 ⟨_,rfl,Zz s (s.free h),Zz (Zl _) h,Zn,s.free h⟩
theorem Zbc {key:Sy23.B} (hk:YU key) (j:Nat):Yl (XX key j).1:=fun x hx=>by
 have I:=kwIn hk j
 rw [I.fst] at hx
 obtain ⟨y,hy,rfl⟩:=OK.mp hx
 obtain ⟨h4,hb⟩:=I.four y hy
 have:=WH hb
 rw [h4] at this
 exact this
theorem kw_len {key:Sy23.B} (hk:YU key) (j:Nat):(XX key j).1.length=key.length / 4 + j:=by
 have I:=kwIn hk j
 rw [I.fst,Od,I.len]
theorem kw_con {key:Sy23.B} (hk:YU key) (j:Nat):(XX key j).2 < 256:=by
 rw [(kwIn hk j).snd]
 exact Zar (by decide) _
theorem rotW_lt (a:Nat):rotW a < 2 ^ 32:=Za8 _
section
variable {P:Program} {w:World} {K:Oa} {mg:Str->Option Value} {base:Heap}
def ZbS (K:Oa) (g:Sy23.B->List Nat):Sp:=fun vs H Q _=>∃(p:Addr) (key:Sy23.B),vs=[.ref p]/\SqL K H p (LN key)/\YU key/\
 ∀(H':Hp) (q:Addr),ZA H H'->H q=none->H' q=some (.lst (LN (g key)))->Q (.ref q) H'
theorem YS:Zs ["key","words","length","constant","word"] ["key"] (Zj (top 74)):=qsc
theorem ZfM (B:Blt mg) (R:Raw K mg "cipher_words" "cipher_words" (top 74) ["key"]) (ZJ:Zh P w K mg base 2 "numbers_high_first" ["row","width"] (Ze0 K))
 (Jx:Zh P w K mg base 2 "substituted" ["word"] spSubst) (ZfG:Zh P w K mg base 1 "turned" ["word"] spTurned) (Zes:Zh P w K mg base 1 "doubled" ["constant"] spDoubled) :
 Zh P w K mg base 3 "cipher_words" ["key"] (ZbS K kw):=by
 refine R.callee YS (fun vs H Q E h=>?_) (fun f cdv A outer s H vs Q E hr h=>?_)
 ·walk_at "ln"
 obtain ⟨p,key,rfl,hS,hk,q⟩:=h
 refine ⟨_,(Zb (Zq 1 YS.nd (Ze ZJ hr (Za (pv 0) (Za (Zi 4) Zc)))) (Zb (Zq 2 YS.nd (ZL (ZQ K) rfl B.len Ox (Za (pv 1) Zc))) (Zb (Zq 3 YS.nd (Zi 1)) (Zb (ps_while PassesOwn.never (ZP Zdb (ZL (ZQ K) rfl B.len Ox (Za (pv 1) Zc)) (Zf Q8 (Zi 4) (Zf Z7 (pv 2) (Zi 7))) (ZR _)) (Zb (Zq 4 YS.nd (Zy (Zv K) (pv 1) (Zf Xg (ZL (ZQ K) rfl B.len Ox (Za (pv 1) Zc)) (Zi 1)))) (Zb (ZM (ZP XW (Zf ZeP (ZL (ZQ K) rfl B.len Ox (Za (pv 1) Zc)) (pv 2)) (Zi 0) (ZR _)) (Zb (Zq 4 YS.nd (Zf ZK (Ze Jx hr (Za (Ze ZfG hr (Za (pv 4) Zc)) Zc)) (Zf XS (pv 3) (Zi 24)))) (Zd (Zq 3 YS.nd (Ze Zes hr (Za (pv 3) Zc))))) (Zd (ZM (PW.pt (Xd (ZP XW (pv 2) (Zi 8) (ZR _)) (XI (ZP XW (Zf ZeP (ZL (ZQ K) rfl B.len Ox (Za (pv 1) Zc)) (Zi 8)) (Zi 4) (ZR _))))) (Zd (Zq 4 YS.nd (Ze Jx hr (Za (pv 4) Zc)))) Zx))) (Zd (Xh (Ji OH PySem.F.slot_list_append PySem.F.type_list_append Zbd (pv 1) (Za (Zf ZK (Zy (Zv K) (pv 1) (Zf Xg (ZL (ZQ K) rfl B.len Ox (Za (pv 1) Zc)) (pv 2))) (pv 4)) Zc))))))) (Zd (Zk (pv 1))))))),?_⟩
 refine Zo (σ':=[some (.ref p),none,none,none,none]) rfl ?_
 have hnk:key.length / 4=4∨key.length / 4=6∨key.length / 4=8:=by have:=hk.len; lia
 nofun
 refine ⟨p,key,4,rfl,hS,hk.byt,by have:=hk.len; lia,by decide,by decide,by have:=hk.len; lia,fun H1 a s1 n1 h1=>?_⟩
 nofun
 have hl0:(YH 4 key).length=key.length / 4:=by unfold YH; rw [Od,YO]
 rw [hl0]
 refine rd_while (fun m σ H'=>∃j v,m + j=3 * (key.length / 4) + 28/\σ=[some (.ref p),some (.ref a),some (N_ (key.length / 4)),some (N_ (XX key j).2),v]/\ZA H H'/\H' a=some (.lst (LN (XX key j).1))) (3 * (key.length / 4) + 28) ⟨0,none,rfl,rfl,s1,h1⟩ ?_
 rintro m σ H' ⟨j,v,hj,rfl,s2,h2⟩
 have hlen:=kw_len hk j
 have hws:=Zbc hk j
 have hcon:=kw_con hk j
 nofun
 ·refine dif (fun hc=>?_) (fun hc=>?_)
  ·refine ⟨fun σ' H'=>∃v,σ'=[some (.ref p),some (.ref a),some (N_ (key.length / 4)),some (N_ (XX key (j + 1)).2),v]/\ZA H H'/\H' a=some (.lst (LN (XX key (j + 1)).1)),?_,?_⟩
   ·rintro σ' H'' ⟨v,rfl,s3,h3⟩
    exact ⟨m - 1,by lia,j + 1,v,by lia,rfl,s3,h3⟩
   have es:=kwAt_succ key j
   nofun
   ·refine dif (fun hm=>?_) (fun hm=>?_)
    ·nofun
     refine ⟨_,rfl,hws.at _,?_⟩
     nofun
     refine ⟨_,rfl,rotW_lt _,?_⟩
     nofun
     ·refine ⟨_,rfl,hcon,?_⟩
      nofun
      have es2:=es
      unfold QE at es2
      rw [if_pos hm] at es2
      refine ⟨Qp h2,?_⟩
      nofun
      ·refine Zbh h2 (by lia) ?_
       rw [es2]
       exact ⟨_,rfl,Zz s2 n1,Zn⟩
      all_goals omega
     ·exact ⟨by exact qw15,by decide⟩
    ·nofun
     have cont:∀(wd:Nat),XX key (j + 1)=((XX key j).1 ++ [(XX key j).1.getD ((XX key j).1.length - key.length / 4) 0 ^^^ wd],(XX key j).2)->
      ∃v,[some (V.ref p),some (V.ref a),some (N_ (key.length / 4)),some (N_ (XX key j).2),some (N_ wd)]=[some (V.ref p),some (V.ref a),some (N_ (key.length / 4)),some (N_ (XX key (j + 1)).2),v]/\
       ZA H (upd H' a (.lst (LN ((XX key j).1 ++ [(XX key j).1.getD ((XX key j).1.length - key.length / 4) 0 ^^^ wd]))))/\
       (upd H' a (.lst (LN ((XX key j).1 ++ [(XX key j).1.getD ((XX key j).1.length - key.length / 4) 0 ^^^ wd])))) a=some (.lst (LN (XX key (j + 1)).1)):=fun wd e=>by
      rw [e]
      exact ⟨_,rfl,Zz s2 n1,Zn⟩
     refine dif (fun h8=>?_) (fun h8=>?_)
     ·nofun
      ·refine dif (fun hm4=>?_) (fun hm4=>?_)
       ·nofun
        refine ⟨_,rfl,hws.at _,?_⟩
        nofun
        refine ⟨Qp h2,?_⟩
        nofun
        ·refine Zbh h2 (by omega) (cont _ ?_)
         rw [es]
         unfold QE
         rw [if_neg hm,if_pos ⟨h8,hm4⟩]
        all_goals simp [*]
       ·nofun
        refine ⟨Qp h2,?_⟩
        nofun
        ·refine Zbh h2 (by lia) (cont _ ?_)
         rw [es]
         unfold QE
         rw [if_neg hm,if_neg (fun z=>hm4 z.2)]
        all_goals simp [*]
      all_goals simp [*]
     ·rw [if_neg Oo]
      nofun
      refine ⟨Qp h2,?_⟩
      nofun
      ·refine Zbh h2 (by lia) (cont _ ?_)
       rw [es]
       unfold QE
       rw [if_neg hm,if_neg (fun z=>h8 z.1)]
      all_goals lia
   all_goals lia
  ·nofun
   have ej:j=3 * (key.length / 4) + 28:=by lia
   subst ej
   exact q H' a s2 n1 h2
 all_goals simp [*]
theorem Z3:Zs ["words","block","a","b","c","d","last","k","e","f","g"] ["words","block"] (Zj (top 79)):=qsc
theorem c_deciphered (B:Blt mg) (T:Tabs K mg) (YN:ZU mg "WORD_blocks" 4294967295) (R:Raw K mg "deciphered" "deciphered" (top 79) ["words","block"]) (X7:Zh P w K mg base 1 "boxed" ["box","a","b","c","d"] (ZfD K)) (Za5:Zh P w K mg base 1 "joined" ["a","b","c","d"] Zgu) :
 Zh P w K mg base 2 "deciphered" ["words","block"] (Zbk K dec):=by
 refine R.callee Z3 (fun vs H Q E h=>?_) (fun f cdv A outer s H vs Q E hr h=>?_)
 ·walk_at "ln"
 obtain ⟨p,ws,r,n,rfl,hS,hl,hr20,hw,hn,q⟩:=h
 obtain ⟨aB,Zfr,tB⟩:=T.unbox
 obtain ⟨a0,G_GATHER0,t0⟩:=T.g0
 obtain ⟨a1,G_GATHER1,t1⟩:=T.g1
 obtain ⟨a2,G_GATHER2,t2⟩:=T.g2
 obtain ⟨a3,G_GATHER3,t3⟩:=T.g3
 obtain ⟨l0,l1,l2,l3⟩:=ga_len
 refine ⟨_,(Zb (Zq 2 Z3.nd (Zf ZK (Zf Z4 (pv 1) (Zi 96)) (Zy (Zv K) (pv 0) (Zi 0)))) (Zb (Zq 3 Z3.nd (Zf ZK (Zf ZZ (Zf Z4 (pv 1) (Zi 64)) (ZT YN)) (Zy (Zv K) (pv 0) (Zi 1)))) (Zb (Zq 4 Z3.nd (Zf ZK (Zf ZZ (Zf Z4 (pv 1) (Zi 32)) (ZT YN)) (Zy (Zv K) (pv 0) (Zi 2)))) (Zb (Zq 5 Z3.nd (Zf ZK (Zf ZZ (pv 1) (ZT YN)) (Zy (Zv K) (pv 0) (Zi 3)))) (Zb (Zq 6 Z3.nd (Zf Xg (ZL (ZQ K) rfl B.len Ox (Za (pv 0) Zc)) (Zi 4))) (Zb (Xx PassesOwn.never rfl (Jt rfl B.range (Za (Zi 4) (Za (pv 6) (Za (Zi 4) Zc)))) (ZW 7 Z3.nd) (Zb (Zq 8 Z3.nd (Zf ZK (Zf ZK (Zf ZK (Zf ZK (Zy (ZO K) (Ye G_GATHER0) (Zf Z4 (pv 2) (Zi 24))) (Zy (ZO K) (Ye G_GATHER1) (Zf ZZ (Zf Z4 (pv 5) (Zi 16)) (Zi 255)))) (Zy (ZO K) (Ye G_GATHER2) (Zf ZZ (Zf Z4 (pv 4) (Zi 8)) (Zi 255)))) (Zy (ZO K) (Ye G_GATHER3) (Zf ZZ (pv 3) (Zi 255)))) (Zy (Zv K) (pv 0) (pv 7)))) (Zb (Zq 9 Z3.nd (Zf ZK (Zf ZK (Zf ZK (Zf ZK (Zy (ZO K) (Ye G_GATHER0) (Zf Z4 (pv 3) (Zi 24))) (Zy (ZO K) (Ye G_GATHER1) (Zf ZZ (Zf Z4 (pv 2) (Zi 16)) (Zi 255)))) (Zy (ZO K) (Ye G_GATHER2) (Zf ZZ (Zf Z4 (pv 5) (Zi 8)) (Zi 255)))) (Zy (ZO K) (Ye G_GATHER3) (Zf ZZ (pv 4) (Zi 255)))) (Zy (Zv K) (pv 0) (Zf Z7 (pv 7) (Zi 1))))) (Zb (Zq 10 Z3.nd (Zf ZK (Zf ZK (Zf ZK (Zf ZK (Zy (ZO K) (Ye G_GATHER0) (Zf Z4 (pv 4) (Zi 24))) (Zy (ZO K) (Ye G_GATHER1) (Zf ZZ (Zf Z4 (pv 3) (Zi 16)) (Zi 255)))) (Zy (ZO K) (Ye G_GATHER2) (Zf ZZ (Zf Z4 (pv 2) (Zi 8)) (Zi 255)))) (Zy (ZO K) (Ye G_GATHER3) (Zf ZZ (pv 5) (Zi 255)))) (Zy (Zv K) (pv 0) (Zf Z7 (pv 7) (Zi 2))))) (Zb (Zq 5 Z3.nd (Zf ZK (Zf ZK (Zf ZK (Zf ZK (Zy (ZO K) (Ye G_GATHER0) (Zf Z4 (pv 5) (Zi 24))) (Zy (ZO K) (Ye G_GATHER1) (Zf ZZ (Zf Z4 (pv 4) (Zi 16)) (Zi 255)))) (Zy (ZO K) (Ye G_GATHER2) (Zf ZZ (Zf Z4 (pv 3) (Zi 8)) (Zi 255)))) (Zy (ZO K) (Ye G_GATHER3) (Zf ZZ (pv 2) (Zi 255)))) (Zy (Zv K) (pv 0) (Zf Z7 (pv 7) (Zi 3))))) (Zb (Zq 2 Z3.nd (pv 8)) (Zb (Zq 3 Z3.nd (pv 9)) (Zd (Zq 4 Z3.nd (pv 10)))))))))) (Zb (Zq 8 Z3.nd (Zf ZK (Ze X7 hr (Za (Ye Zfr) (Za (pv 2) (Za (pv 5) (Za (pv 4) (Za (pv 3) Zc)))))) (Zy (Zv K) (pv 0) (pv 6)))) (Zb (Zq 9 Z3.nd (Zf ZK (Ze X7 hr (Za (Ye Zfr) (Za (pv 3) (Za (pv 2) (Za (pv 5) (Za (pv 4) Zc)))))) (Zy (Zv K) (pv 0) (Zf Z7 (pv 6) (Zi 1))))) (Zb (Zq 10 Z3.nd (Zf ZK (Ze X7 hr (Za (Ye Zfr) (Za (pv 4) (Za (pv 3) (Za (pv 2) (Za (pv 5) Zc)))))) (Zy (Zv K) (pv 0) (Zf Z7 (pv 6) (Zi 2))))) (Zd (Zk (Ze Za5 hr (Za (pv 8) (Za (pv 9) (Za (pv 10) (Za (Zf ZK (Ze X7 hr (Za (Ye Zfr) (Za (pv 5) (Za (pv 4) (Za (pv 3) (Za (pv 2) Zc)))))) (Zy (Zv K) (pv 0) (Zf Z7 (pv 6) (Zi 3)))) Zc)))))))))))))))),?_⟩
 refine Zo (σ':=[some (.ref p),some (N_ n),none,none,none,none,none,none,none,none,none]) rfl ?_
 nofun
 ·refine ⟨_,_,_,r,rfl,?_,XO (st_up 4 4 r) (fun i σ H'=>H'=H/\∃v7 v8 v9 v10,σ=st11 p n ws ((Ob i).foldl (J4 ws) (YF ws n)) v7 v8 v9 v10/\In4 ((Ob i).foldl (J4 ws) (YF ws n)))
   ⟨rfl,none,none,none,none,rfl,opened_in hw hn⟩ ?_ ?_⟩
  ·have:=rg_up (lo:=4) (hi:=ws.length - 4) (c:=4) (by decide) (by decide) (by decide) (by omega)
   have e:(ws.length - 4 - 4 + 4 - 1) / 4=r:=by lia
   rwa [e] at this
  ·rintro i σ H' hi ⟨rfl,v7,v8,v9,v10,rfl,hq⟩
   have hin:=decStep_in hw hq i
   rw [Yd,OI,Ig,IQ]
   obtain ⟨b0,b1,b2,b3⟩:=hq
   generalize (Ob i).foldl (J4 ws) (YF ws n)=q4 at *
   unfold st11
   nofun
   ·rw [O3 i 4]
    exact ⟨rfl,_,_,_,_,rfl,hin⟩
   all_goals first
    | (rw [l0]; omega)
    | (first | rw [l1] | rw [l2] | rw [l3]); exact Zez _
    | omega
  ·rintro σ H' ⟨rfl,v7,v8,v9,v10,rfl,b0,b1,b2,b3⟩
   unfold dec at q
   have er:ws.length / 4 - 2=r:=by simp [*]
   rw [er] at q
   unfold st11
   generalize (Ob r).foldl (J4 ws) (YF ws n)=q4 at *
   nofun
   refine ⟨aB,WG,_,_,_,_,rfl,tB,rfl,Zay,b0,?_⟩
   nofun
   ·refine ⟨aB,WG,_,_,_,_,rfl,tB,rfl,Zay,b1,?_⟩
    nofun
    ·refine ⟨aB,WG,_,_,_,_,rfl,tB,rfl,Zay,b2,?_⟩
     nofun
     ·refine ⟨aB,WG,_,_,_,_,rfl,tB,rfl,Zay,b3,?_⟩
      nofun
      ·exact ⟨_,_,_,_,rfl,x64 (ZbC Zay _ _ _ _) (hw.at _),x64 (ZbC Zay _ _ _ _) (hw.at _),x64 (ZbC Zay _ _ _ _) (hw.at _),q⟩
      all_goals omega
     all_goals omega
    all_goals omega
   all_goals omega
 all_goals lia
end
theorem rd_chain {r r':R2} {ta tb tc:TE} {σ:St} {H:Hp} {Q:VK} (h:ta σ H fun x H1=>tb σ H1 fun y H2=>r x y H2 fun z H3=>rTest z H3 fun k H3=>if k=true then tc σ H3 fun w' H4=>r' y w' H4 Q else Q (.bl false) H3):tChain r r' ta tb tc σ H Q:=h
def rIter (K:Oa) (x:V) (H:Hp) (R:It->Hp->Prop):Prop:=∃a,x=.ref a/\(∃xs,SqL K H a xs)/\R (Itl K a) H
theorem rd_iter {K:Oa} {tl:TE} {σ:St} {H:Hp} {R:It->Hp->Prop} (h:tl σ H fun x H1=>rIter K x H1 R):iList K tl σ H R:=h
theorem YX {K:Oa} {a:Addr} {xs:List V} {H:Hp} {R:It->Hp->Prop} (h:SqL K H a xs) (q:R (Itl K a) H):rIter K (.ref a) H R:=⟨a,rfl,⟨xs,h⟩,q⟩
structure ZdL (H1:Hp) (J:It) (n:Nat) (y:Nat->V):Prop where
 go:∀i H,ZA H1 H->i < n->J.go i H
 yld:∀i H x H',ZA H1 H->i < n->J.yld i H x H'->H'=H/\x=y i
 stop:∀i H,ZA H1 H->n<=i->J.stop i H
theorem ss_list {K:Oa} {H1:Hp} {a:Addr} {l:List Nat} (hS:SqL K H1 a (LN l)):ZdL H1 (Itl K a) l.length (fun i=>N_ (l.getD i 0)):=by
 refine ⟨fun i H hs hi=>⟨LN l,_,hs.seq hS,W9 hi⟩,fun i H x H' hs hi q=>?_,fun i H hs hi=>⟨LN l,hs.seq hS,by rw [Od]; exact hi⟩⟩
 obtain ⟨e,q⟩:=q
 exact ⟨e,(Option.some.inj ((q _ (hs.seq hS)).symm.trans (W9 hi)))⟩
section
variable {te:TE} {σ:St} {H1:Hp} {Qd:Addr->Hp->Prop}
theorem Js {J:It} {n k:Nat} {y:Nat->V} (S:ZdL H1 J n y) (f:Nat->V) (hn:n<=sizeLine)
 (hf:∀(j:Nat) (H:Hp) (R:VK),j < n->ZA H1 H->(∀H',ZA H H'->R (f j) H')->te ((σ.set k none).set k (some (y j))) H R)
 (hq:∀(D:Addr) (H':Hp),H1 D=none->ZA H1 H'->H' D=some (.lst ((Ob n).map f))->Qd D H') :
 ∀D,H1 D=none->∃W:Nat->Nat->Hp->Prop,(∃m,W 0 m (upd H1 D (.lst [])))/\∀i m H,W i m H->
  (J.stop i H/\Qd D H)∨(J.go i H/\∃Nx:Hp->Prop,(∀H',Nx H'->∃m',m' < m/\W (i + 1) m' H')/\∀x H',J.yld i H x H'->JX k x (X6 σ [k]) H' fun σ2 H2=>X6 σ2 [k]=X6 σ [k]/\tYes σ2 H2 fun b H3=>
   if b=true then te σ2 H3 fun y H4=>∃acc,H4 D=some (.lst acc)/\acc.length < sizeLine/\Nx (upd H4 D (.lst (acc ++ [y]))) else Nx H3):=by
 intro D hD
 refine ⟨fun i m H=>m=n - i/\i<=n/\ZA H1 H/\H D=some (.lst ((Ob i).map f)),⟨n,by simp,Ib _,Zz (Zl _) hD,Zn⟩,?_⟩
 rintro i m H ⟨rfl,hi,hS,hl⟩
 by_cases hlt:i < n
 ·refine .inr ⟨S.go i H hS hlt,fun H'=>ZA H1 H'/\H' D=some (.lst ((Ob (i + 1)).map f)),fun H' p'=>⟨n - (i + 1),by omega,rfl,hlt,p'⟩,fun x H' hy=>?_⟩
  obtain ⟨e,e2⟩:=S.yld i H x H' hS hlt hy
  subst e e2
  refine ⟨?_,?_⟩
  ·show ((σ.set k none).set k _).set k none=σ.set k none
   rw [IE,IE]
  ·unfold tYes
   refine YV ?_
   refine hf i _ _ hlt hS fun H4 hs=>⟨_,hs _ _ hl,?_,?_,?_⟩
   ·rw [Od,OL]; exact qw2
   ·exact fun b o hb=>by
     have:b≠D:=Zu hb hD
     rw [ZN this]
     exact hs _ _ (hS _ _ hb)
   ·rw [Zn,Yd,Ih]
    rfl
 ·have e:i=n:=by lia
  subst e
  exact .inl ⟨S.stop i H hS (Oq _),hq D H hD hS hl⟩
end
theorem Zcu (l:List Nat) (g:Nat->Nat):(Ob l.length).map (fun j=>N_ (g (l.getD j 0)))=LN (l.map g):=by
 apply Ui
 ·simp
 ·intro i h1 h2
  simp only [Od,OL] at h1
  simp only [Uj,IT]
  rw [Oe,Of h1]
  rfl
section
variable {P:Program} {w:World} {K:Oa} {mg:Str->Option Value} {base:Heap}
theorem Yy:Zs ["key","words","last","used","start","four","word"] ["key"] (Zj (top 76)):=qsc
theorem ZeC (B:Blt mg) (R:Raw K mg "decipher_words" "decipher_words" (top 76) ["key"]) (Yk:Zh P w K mg base 3 "cipher_words" ["key"] (ZbS K kw)) (Zev:Zh P w K mg base 1 "unmixed" ["word"] spUnmixed) :
 Zh P w K mg base 4 "decipher_words" ["key"] (ZbS K dkw):=by
 refine R.callee Yy (fun vs H Q E h=>?_) (fun f cdv A outer s H vs Q E hr h=>?_)
 ·walk_at "ln"
 obtain ⟨p,key,rfl,hS,hk,q⟩:=h
 refine ⟨_,(Zb (Zq 1 Yy.nd (Ze Yk hr (Za (pv 0) Zc))) (Zb (Zq 2 Yy.nd (Zf Xg (ZL (ZQ K) rfl B.len Ox (Za (pv 1) Zc)) (Zi 4))) (Zb (Zq 3 Yy.nd (ZH Zc)) (Zb (Xx PassesOwn.never rfl (Jt rfl B.range (Za (pv 2) (Za (Zcr Zax JU) (Za (Zcr Zax JU) Zc)))) (ZW 4 Yy.nd) (Zb (Zq 5 Yy.nd (YI (YK K) (pv 1) (Wd (pv 4)) (Wd (Zf Z7 (pv 4) (Zi 4))))) (Zb (ZM (pt_chain Zdb Zdb (Zi 0) (pv 4) (pv 2)) (Zd (Zd9 (i:=5) rfl Yy.nd rfl rfl (ZfE rfl rfl rfl (by decide +kernel)) (YW K (pv 5)) (Y7 (own:=[("word",6)]) rfl) (fun _ _ _ _ _=>(ZW 6 Yy.nd)) (fun _ _ _ _ _=>Wc) (fun _ _ _ _ _=>(Ze Zev hr (Za (pv 6) Zc))))) Zx) (Zd (Xh (Ji OH OW OX Xz (pv 3) (Za (pv 5) Zc))))))) (Zd (Zk (pv 3))))))),?_⟩
 refine Zo (σ':=[some (.ref p),none,none,none,none,none,none]) rfl ?_
 have hnk:key.length / 4=4∨key.length / 4=6∨key.length / 4=8:=by have:=hk.len; lia
 have W:=ZaN hk
 have hkl:=W.klen
 have hkw:Yl (kw key):=Zbc hk _
 nofun
 refine ⟨p,key,rfl,hS,hk,fun H1 a s1 n1 h1=>?_⟩
 nofun
 ·refine ⟨Zp (by decide),fun u hu=>?_⟩
  obtain ⟨H2,e2,s2,t2,k2,f2⟩:=YJ (.lst []) s1 hu
  rw [e2]
  nofun
  have el:(kw key).length - 4=4 * (key.length / 4 + 6):=by lia
  rw [el]
  refine ⟨_,_,_,_,rfl,rg_four (n:=key.length / 4 + 6) (by lia),XO (st_four (key.length / 4 + 6))
   (fun i σ H'=>∃v4 v5 v6,σ=[some (.ref p),some (.ref a),some (N_ (4 * (key.length / 4 + 6))),some (.ref u),v4,v5,v6]/\ZA H H'/\ZA H1 H'/\H' u=some (.lst (LN (Q3 (kw key) i)))) ⟨none,none,none,rfl,s2,t2,k2⟩ ?_ ?_⟩
  ·rintro i σ H' hi ⟨v4,v5,v6,rfl,s3,t3,k3⟩
   have hlu:=J9 hkl i (by exact qw1)
   nofun
   refine Wr (SqL.of (t3 _ _ h1)) fun c hc=>?_
   obtain ⟨H4,e4,s4,t4,k4,f4⟩:=YJ (.lst (LN (((kw key).drop (4 * (key.length / 4 + 6) - 4 * i)).take (4 * (key.length / 4 + 6) - 4 * i + 4 - (4 * (key.length / 4 + 6) - 4 * i))))) s3 hc
   rw [e4]
   have ed:4 * (key.length / 4 + 6) - 4 * i + 4 - (4 * (key.length / 4 + 6) - 4 * i)=4:=by simp
   rw [ed] at k4
   have eat:Zam (kw key) i=if 0 < 4 * (key.length / 4 + 6) - 4 * i/\4 * (key.length / 4 + 6) - 4 * i < 4 * (key.length / 4 + 6) then (((kw key).drop (4 * (key.length / 4 + 6) - 4 * i)).take 4).map Jv else ((kw key).drop (4 * (key.length / 4 + 6) - 4 * i)).take 4:=by
    unfold Zam
    rw [el]
   have hl4:(((kw key).drop (4 * (key.length / 4 + 6) - 4 * i)).take 4).length=4:=by rw [OM,OS]; omega
   have hw4:Yl (((kw key).drop (4 * (key.length / 4 + 6) - 4 * i)).take 4):=fun x hx=>hkw x (US (IK hx))
   generalize ((kw key).drop (4 * (key.length / 4 + 6) - 4 * i)).take 4=four at *
   -- used.extend(four)
   have ext:∀(H5:Hp) (b:Addr) (l:List Nat),ZA H H5->ZA H1 H5->H5 u=some (.lst (LN (Q3 (kw key) i)))->H5 b=some (.lst (LN l))->l.length=4->Zam (kw key) i=l->
    ZA H (upd H5 u (.lst (LN (Q3 (kw key) i ++ l))))/\ZA H1 (upd H5 u (.lst (LN (Q3 (kw key) i ++ l))))/\(upd H5 u (.lst (LN (Q3 (kw key) i ++ l)))) u=some (.lst (LN (Q3 (kw key) (i + 1)))):=fun H5 b l a1 a2 a3 a4 a5 a6=>by
    refine ⟨Zz a1 f2,Zz a2 hu,?_⟩
    rw [Zn,Zdr,a6]
   nofun
   refine dif (fun c1=>?_) (fun c1=>?_)
   ·nofun
    refine dif (fun c2=>?_) (fun c2=>?_)
    ·nofun
     rw [if_pos ⟨c1,c2⟩] at eat
     refine YX (SqL.of k4) ?_
     refine Js (ss_list (SqL.of k4)) (fun j=>N_ (Jv (four.getD j 0))) ?_ ?_ ?_
     ·exact Zp (by simp [*])
     ·intro j H5 R' hj hs hR
      dsimp only [Iy]
      nofun
      exact ⟨_,rfl,hw4.at _,hR _ (Zl _)⟩
     ·intro D H5 hD hs hl
      rw [Zcu] at hl
      nofun
      refine ⟨Qp (hs _ _ (t4 _ _ k3)),?_⟩
      nofun
      refine Xl (hs _ _ (t4 _ _ k3)) hl (by rw [Od]; lia) ?_
      obtain ⟨x1,x2,x3⟩:=ext H5 D (four.map Jv) (s4.trans hs) ((t3.trans t4).trans hs) (hs _ _ (t4 _ _ k3)) hl (by rw [Od,hl4]) eat
      exact ⟨_,_,_,rfl,x1,x2,x3⟩
    ·nofun
     rw [if_neg (fun z=>c2 z.2)] at eat
     refine ⟨Qp (t4 _ _ k3),?_⟩
     nofun
     refine Xl (t4 _ _ k3) k4 (by omega) ?_
     obtain ⟨x1,x2,x3⟩:=ext H4 c four s4 (t3.trans t4) (t4 _ _ k3) k4 hl4 eat
     exact ⟨_,_,_,rfl,x1,x2,x3⟩
   ·nofun
    rw [if_neg Oo]
    nofun
    rw [if_neg (fun z=>c1 z.1)] at eat
    refine ⟨Qp (t4 _ _ k3),?_⟩
    nofun
    refine Xl (t4 _ _ k3) k4 (by lia) ?_
    obtain ⟨x1,x2,x3⟩:=ext H4 c four s4 (t3.trans t4) (t4 _ _ k3) k4 hl4 eat
    exact ⟨_,_,_,rfl,x1,x2,x3⟩
  ·rintro σ H' ⟨v4,v5,v6,rfl,s3,t3,k3⟩
   nofun
   exact q H' u s3 f2 k3
 ·lia
end
theorem wide_snoc (l:List Nat) (x:Nat):wide (l ++ [x])=wide l ++ Vs 8 x:=by
 unfold wide
 rw [U1]
 simp
theorem wide_len (l:List Nat):(wide l).length=8 * l.length:=by
 induction l with
 | nil=>rfl
 | cons x l ih=>
  show (Vs 8 x ++ wide l).length=_
  rw [Og,ih,Yv,Oz]
  exact IU _ _
theorem Zbl {l:List Nat} {i:Nat} (h:i < l.length):l.take (i + 1)=l.take i ++ [l.getD i 0]:=by
 rw [VX,Of h,Oe,Of h]
 rfl
theorem ZcK {l:List Nat} {i:Nat} {y:V} (h:(LN l)[i]?=some y):i < l.length/\y=N_ (l.getD i 0):=by
 have hi:i < l.length:=by
  have:=(OB.mp h).1
  rwa [Od] at this
 exact ⟨hi,Option.some.inj (h.symm.trans (W9 hi))⟩
def Zde (l:List Nat):Prop:=∀x,x∈l->x < 2 ^ 64
theorem Zde.at {l:List Nat} (h:Zde l) (i:Nat):l.getD i 0 < 2 ^ 64:=by
 rw [Oe]
 cases e:l[i]? with
 | none=>decide
 | some v=>exact h v (O5 e)
theorem Qb.in64 {n:Nat} {w:Sy23.Wrap} {st:Nat×List Nat} (I:Qb n w st):st.1 < 2 ^ 64/\Zde st.2/\st.2.length=n:=by
 refine ⟨by rw [I.fst]; exact I.a.lt,fun x hx=>?_,by rw [I.snd,Od,I.len]⟩
 rw [I.snd] at hx
 obtain ⟨y,hy,rfl⟩:=OK.mp hx
 exact (I.r y hy).lt
theorem join128 {a b:Nat} (ha:a < 2 ^ 64) (hb:b < 2 ^ 64):a * 2 ^ 64 ||| b < 2 ^ 128:=by
 rw [WX 64 rfl hb]
 lia
theorem wrap_start {x:Sy23.B} (hx:Ol x):Qb (x.length / 8) ⟨Sy23.first,TQ 8 x⟩ (Wb,YH 8 x):=
 ⟨⟨rfl,ZaD⟩,Wl hx,YO 8 x,Zao.symm,rfl⟩
theorem unwrap_start {y:Sy23.B} (hy:Ol y) (hn:16<=y.length):Qb (y.length / 8 - 1) ⟨y.take 8,TQ 8 (y.drop 8)⟩ (Us (y.take 8),YH 8 (y.drop 8)):=
 ⟨⟨by rw [OM]; lia,XN hy 8⟩,Wl (XM hy 8),by rw [YO,OS]; lia,rfl,rfl⟩
theorem wrapN_in {key x:Sy23.B} (hk:YU key) (hx:Ol x) (hn:0 < x.length / 8) {t:Nat} (ht:t < 2 ^ 64) :
 (Zdd (kw key) (x.length / 8) (Wb,YH 8 x) t).1 < 2 ^ 64/\Zde (Zdd (kw key) (x.length / 8) (Wb,YH 8 x) t).2/\(Zdd (kw key) (x.length / 8) (Wb,YH 8 x) t).2.length=x.length / 8:=
 (ZgD hk hn (wrap_start hx) t ht).in64
theorem unwrapN_in {key y:Sy23.B} (hk:YU key) (hy:Ol y) (hn:16<=y.length) (hl:y.length < 2 ^ 60) (t:Nat) :
 (JB (dkw key) (y.length / 8 - 1) (6 * (y.length / 8 - 1)) (Us (y.take 8),YH 8 (y.drop 8)) t).1 < 2 ^ 64/\
 Zde (JB (dkw key) (y.length / 8 - 1) (6 * (y.length / 8 - 1)) (Us (y.take 8),YH 8 (y.drop 8)) t).2/\
 (JB (dkw key) (y.length / 8 - 1) (6 * (y.length / 8 - 1)) (Us (y.take 8),YH 8 (y.drop 8)) t).2.length=y.length / 8 - 1:=
 (ZdF hk (by lia) (by omega) (unwrap_start hy hn) t).in64
theorem dkw_words {key:Sy23.B} (hk:YU key):Yl (dkw key):=by
 have hkw:Yl (kw key):=Zbc hk _
 intro x hx
 unfold dkw Q3 at hx
 obtain ⟨j,_,hj⟩:=Vn.mp hx
 unfold Zam at hj
 have hu:∀y,Jv y < 2 ^ 32:=fun y=>by
  obtain ⟨w0,w1,w2,w3⟩:=words_ga
  exact OA (OA (OA (w0.at _) (w1.at _)) (w2.at _)) (w3.at _)
 split at hj
 ·obtain ⟨y,_,rfl⟩:=OK.mp hj
  exact hu y
 ·exact hkw x (US (IK hj))
theorem dkw_len {key:Sy23.B} (hk:YU key):(dkw key).length=4 * (key.length / 4 + 7):=J9 (ZaN hk).klen _ (by simp)
section
variable {P:Program} {w:World} {K:Oa} {mg:Str->Option Value} {base:Heap}
def spWide (K:Oa):Sp:=fun vs H Q _=>∃(p:Addr) (l:List Nat),vs=[.ref p]/\SqL K H p (LN l)/\l.length<=100000/\
 ∀(H':Hp) (q:Addr),ZA H H'->H q=none->H' q=some (.lst (LN (wide l)))->Q (.ref q) H'
theorem QH:Zs ["halves","row","half"] ["halves"] (Zj (top 84)):=qsc
theorem ZdQ (R:Raw K mg "halves_as_bytes" "halves_as_bytes" (top 84) ["halves"]) (YY:Zh P w K mg base 1 "bytes_high_first" ["number","count"] spBytes):Zh P w K mg base 2 "halves_as_bytes" ["halves"] (spWide K):=by
 refine R.callee QH (fun vs H Q E h=>?_) (fun f cdv A outer s H vs Q E hr h=>?_)
 ·walk_at "ln"
 obtain ⟨p,l,rfl,hS,hl,q⟩:=h
 refine ⟨_,(Zb (Zq 1 QH.nd (ZH Zc)) (Zb (Xx PassesOwn.never rfl (YW K (pv 0)) (ZW 2 QH.nd) (Zd (Xh (Ji OH OW OX Xz (pv 1) (Za (Ze YY hr (Za (pv 2) (Za (Zi 8) Zc))) Zc))))) (Zd (Zk (pv 1))))),?_⟩
 refine Zo (σ':=[some (.ref p),none,none]) rfl ?_
 nofun
 refine ⟨Zp (by decide),fun u hu=>?_⟩
 obtain ⟨H1,e1,s1,t1,k1,f1⟩:=YJ (.lst []) (Zl H) hu
 rw [e1]
 nofun
 refine YX (s1.seq hS) ?_
 refine JD (K:=K) (a:=p) (xs:=LN l) (fun i σ H'=>∃v,σ=[some (.ref p),some (.ref u),v]/\ZA H H'/\H' u=some (.lst (LN (wide (l.take i))))) ⟨none,rfl,s1,k1⟩ (fun i σ H' _ ⟨_,_,s2,_⟩=>s2.seq hS) ?_ ?_
 ·rintro i y σ H' hi ⟨v,rfl,s2,k2⟩
  obtain ⟨hi',rfl⟩:=ZcK hi
  nofun
  refine ⟨Qp k2,?_⟩
  nofun
  refine ⟨_,8,rfl,by decide,by decide,fun H3 b s3 n3 h3=>?_⟩
  nofun
  refine Xl (s3 _ _ k2) h3 (by rw [wide_len,Yv,OM]; lia) ⟨_,rfl,Zz (s2.trans s3) f1,?_⟩
  rw [Zn,Zbl hi',wide_snoc]
 ·rintro σ H' ⟨v,rfl,s2,k2⟩
  rw [Od,IL] at k2
  nofun
  exact q H' u s2 f1 k2
def spWrap (K:Oa):Sp:=fun vs H Q _=>∃(p r:Addr) (key x:Sy23.B),vs=[.ref p,.ref r]/\SqL K H p (LN key)/\SqL K H r (LN x)/\YU key/\Ol x/\x.length % 8=0/\16<=x.length/\x.length<=70000/\
 ∀(H':Hp) (q:Addr),ZA H H'->H q=none->H' q=some (.lst (LN (ZfF key x)))->Q (.ref q) H'
theorem XU:Zs ["key","given","words","halves","check","step","turn","k","block"] ["key","given"] (Zj (top 85)):=qsc
theorem c_wrapped (B:Blt mg) (ZcH:ZU mg "INITIAL" Wb) (G_HALF:ZU mg "HALF" HALF) (ZdK:ZU mg "TURNS" 6) (R:Raw K mg "wrapped" "wrapped" (top 85) ["key","given"])
 (Yk:Zh P w K mg base 3 "cipher_words" ["key"] (ZbS K kw)) (ZJ:Zh P w K mg base 2 "numbers_high_first" ["row","width"] (Ze0 K))
 (Xm:Zh P w K mg base 2 "ciphered" ["words","block"] (Zbk K enc)) (Xa:Zh P w K mg base 2 "halves_as_bytes" ["halves"] (spWide K)) :
 Zh P w K mg base 4 "wrapped" ["key","given"] (spWrap K):=by
 refine R.callee XU (fun vs H Q E h=>?_) (fun f cdv A outer s H vs Q E hr h=>?_)
 ·walk_at "ln"
 obtain ⟨p,r,key,x,rfl,hS,hX,hk,hx,h8,h16,hle,q⟩:=h
 refine ⟨_,(Zb (Zq 2 XU.nd (Ze Yk hr (Za (pv 0) Zc))) (Zb (Zq 3 XU.nd (Ze ZJ hr (Za (pv 1) (Za (Zi 8) Zc)))) (Zb (Zq 4 XU.nd (ZT ZcH)) (Zb (Zq 5 XU.nd (Zi 0)) (Zb (Xx PassesOwn.never rfl (QU rfl B.range (Za (ZT ZdK) Zc)) (ZW 6 XU.nd) (Zd (Xx PassesOwn.never rfl (QU rfl B.range (Za (ZL (ZQ K) rfl B.len Ox (Za (pv 3) Zc)) Zc)) (ZW 7 XU.nd) (Zb (qs_aug 5 XU.nd (Zi 1) (pip_of Zfw)) (Zb (Zq 8 XU.nd (Ze Xm hr (Za (pv 2) (Za (Zf Q9 (Zf XS (pv 4) (Zi 64)) (Zy (Zv K) (pv 3) (pv 7))) Zc)))) (Zb (Zq 4 XU.nd (Zf ZK (Zf Z4 (pv 8) (Zi 64)) (pv 5))) (Zd (ps_asg (Zf ZZ (pv 8) (ZT G_HALF)) (pg_sub (pv 3) (pv 7) Zef))))))))) (Zd (Zk (Ze Xa hr (Za (Zf Xp (ZH (Za (pv 4) Zc)) (pv 3)) Zc))))))))),?_⟩
 refine Zo (σ':=[some (.ref p),some (.ref r),none,none,none,none,none,none,none]) rfl ?_
 have hkl:=(ZaN hk).klen
 have hnk:key.length / 4=4∨key.length / 4=6∨key.length / 4=8:=by have:=hk.len; lia
 have hkw:Yl (kw key):=Zbc hk _
 nofun
 refine ⟨p,key,rfl,hS,hk,fun H1 aw s1 n1 h1=>?_⟩
 nofun
 refine ⟨r,x,8,rfl,s1.seq hX,hx,by exact ZbO,by decide,by decide,h8,fun H2 ah s2 n2 h2=>?_⟩
 nofun
 have n2':H ah=none:=s1.free n2
 obtain ⟨n,hn⟩:∃n,x.length / 8=n:=⟨_,rfl⟩
 have hn1:2<=n:=by lia
 -- the state behind t steps
 let St_:Nat->Nat×List Nat:=fun t=>Zdd (kw key) n (Wb,YH 8 x) t
 have hin:∀t,t < 2 ^ 64->(St_ t).1 < 2 ^ 64/\Zde (St_ t).2/\(St_ t).2.length=n:=fun t ht=>by
  have:=wrapN_in hk hx (by lia) ht
  rw [hn] at this
  exact this
 refine ⟨_,rfl,by decide,by decide,XO (st_r1 6) (fun i σ H'=>∃v6 v7 v8,σ=[some (.ref p),some (.ref r),some (.ref aw),some (.ref ah),some (N_ (St_ (i * n)).1),some (N_ (i * n)),v6,v7,v8]/\ZA H H'/\H' aw=some (.lst (LN (kw key)))/\H' ah=some (.lst (LN (St_ (i * n)).2)))
  ⟨none,none,none,by rw [U8]; rfl,s1.trans s2,s2 _ _ h1,by rw [U8]; exact h2⟩ ?_ ?_⟩
 ·rintro i σ H' hi ⟨v6,v7,v8,rfl,s3,k3,j3⟩
  obtain ⟨b1,b2,b3⟩:=hin (i * n) (by
   have:i * n<=6 * n:=UT _ (by exact qw1)
   lia)
  nofun
  rw [b3]
  refine ⟨_,rfl,by lia,by lia,XO (st_r1 n) (fun j σ H'=>∃v7 v8,σ=[some (.ref p),some (.ref r),some (.ref aw),some (.ref ah),some (N_ (St_ (i * n + j)).1),some (N_ (i * n + j)),some (N_ i),v7,v8]/\ZA H H'/\H' aw=some (.lst (LN (kw key)))/\H' ah=some (.lst (LN (St_ (i * n + j)).2)))
   ⟨v7,v8,rfl,s3,k3,j3⟩ ?_ ?_⟩
  ·rintro j σ H'' hj ⟨v7,v8,rfl,s4,k4,j4⟩
   have ht:i * n + j < 2 ^ 63:=by
    have:i * n<=6 * n:=UT _ (by exact qw1)
    lia
   obtain ⟨b1,b2,b3⟩:=hin (i * n + j) (by exact qw15)
   have es:St_ (i * n + j + 1)=wrapTo (kw key) (St_ (i * n + j)) (i * n + j + 1) j:=by
    show Zdd _ _ _ _=_
    rw [ZgE]
    have em:(i * n + j) % n=j:=by rw [IU,VW,IM hj]
    rw [em]
   nofun
   ·refine ⟨aw,kw key,key.length / 4 + 5,_,rfl,SqL.of k4,by omega,by lia,hkw,join128 b1 (b2.at _),?_⟩
    nofun
    refine rd_set j4 (by simp [*]) ?_
    rw [<- TC,es]
    exact ⟨_,_,rfl,Zz s4 n2',(ZN (Zu h1 n2)).trans k4,Zn⟩
   all_goals first | omega | exact ⟨Ip b1 (by decide),by decide⟩
  ·rintro σ H'' ⟨v7,v8,rfl,s4,k4,j4⟩
   have ei:i * n + n=(i + 1) * n:=by rw [VN,Tr]
   rw [ei] at j4 ⊢
   exact ⟨_,_,_,rfl,s4,k4,j4⟩
 ·rintro σ H' ⟨v6,v7,v8,rfl,s3,k3,j3⟩
  obtain ⟨b1,b2,b3⟩:=hin (6 * n) (by lia)
  nofun
  refine ⟨Zp (by simp),fun u hu=>?_⟩
  obtain ⟨H4,e4,s4,t4,k4,f4⟩:=YJ (.lst [N_ (St_ (6 * n)).1]) s3 hu
  rw [e4]
  nofun
  refine Xq (l:=[(St_ (6 * n)).1]) k4 (t4 _ _ j3) (by simp; lia) fun c hc=>?_
  obtain ⟨H5,e5,s5,t5,k5,f5⟩:=YJ (.lst (LN ([(St_ (6 * n)).1] ++ (St_ (6 * n)).2))) s4 hc
  rw [e5]
  nofun
  refine ⟨c,_,rfl,SqL.of k5,by simp; lia,fun H6 d s6 n6 h6=>q H6 d (s5.trans s6) (s5.free n6) ?_⟩
  rw [h6]
  unfold ZfF
  rw [hn]
  rfl
def Zek (K:Oa):Sp:=fun vs H Q _=>∃(p r:Addr) (key y:Sy23.B),vs=[.ref p,.ref r]/\SqL K H p (LN key)/\SqL K H r (LN y)/\YU key/\Ol y/\y.length % 8=0/\24<=y.length/\y.length<=70000/\
 (∀(z:Sy23.B) (H':Hp) (q:Addr),Zab key y=some z->ZA H H'->H q=none->H' q=some (.lst (LN z))->Q (.ref q) H')/\(Zab key y=none->∀H':Hp,ZA H H'->Q .non H')
theorem nums_cons {y:Sy23.B} (h:8<=y.length):YH 8 y=Us (y.take 8) :: YH 8 (y.drop 8):=by
 conv=>lhs; rw [<- UB 8 y]
 have h8:(y.take 8).length=8:=by rw [OM]; simp [*]
 rw [ZaH (n:=1) (by decide) (by rw [h8]),nums_self (by decide) h8]
 rfl
theorem rd_popAt {p:Addr} {x:Nat} {l:List Nat} {H:Hp} {Q:VK} (h:H p=some (.lst (LN (x :: l)))) (q:Q (N_ x) (upd H p (.lst (LN l)))):rPopAt (.ref p) [N_ 0] H Q:=
 ⟨p,LN (x :: l),0,0,N_ x,rfl,rfl,h,by decide,by decide,seqIndex_of (by decide) (by simp),rfl,q⟩
theorem xor64 {a b:Nat} (ha:a < 2 ^ 64) (hb:b < 2 ^ 64):a ^^^ b < 2 ^ 64:=OA ha hb
theorem Y6:Zs ["key","given","words","halves","check","step","turn","k","block"] ["key","given"] (Zj (top 86)):=qsc
theorem c_unwrapped (B:Blt mg) (ZcH:ZU mg "INITIAL" Wb) (G_HALF:ZU mg "HALF" HALF) (ZdK:ZU mg "TURNS" 6) (R:Raw K mg "unwrapped" "unwrapped" (top 86) ["key","given"])
 (Jl:Zh P w K mg base 4 "decipher_words" ["key"] (ZbS K dkw)) (ZJ:Zh P w K mg base 2 "numbers_high_first" ["row","width"] (Ze0 K))
 (Zbr:Zh P w K mg base 2 "deciphered" ["words","block"] (Zbk K dec)) (Xa:Zh P w K mg base 2 "halves_as_bytes" ["halves"] (spWide K)) :
 Zh P w K mg base 5 "unwrapped" ["key","given"] (Zek K):=by
 refine R.callee Y6 (fun vs H Q E h=>?_) (fun f cdv A outer s H vs Q E hr h=>?_)
 ·walk_at "ln"
 obtain ⟨p,r,key,y,rfl,hS,hX,hk,hy,h8,h16,hle,qs,qn⟩:=h
 refine ⟨_,(Zb (Zq 2 Y6.nd (Ze Jl hr (Za (pv 0) Zc))) (Zb (Zq 3 Y6.nd (Ze ZJ hr (Za (pv 1) (Za (Zi 8) Zc)))) (Zb (Zq 4 Y6.nd (Ji OH PySem.F.slot_list_pop PySem.F.type_list_pop mt_popAt (pv 3) (Za (Zi 0) Zc))) (Zb (Zq 5 Y6.nd (Zf Q8 (ZT ZdK) (ZL (ZQ K) rfl B.len Ox (Za (pv 3) Zc)))) (Zb (Xx PassesOwn.never rfl (QU rfl B.range (Za (ZT ZdK) Zc)) (ZW 6 Y6.nd) (Zd (Xx PassesOwn.never rfl (Jt rfl B.range (Za (Zf Xg (ZL (ZQ K) rfl B.len Ox (Za (pv 3) Zc)) (Zi 1)) (Za (Zcr Zax JU) (Za (Zcr Zax JU) Zc)))) (ZW 7 Y6.nd) (Zb (Zq 8 Y6.nd (Ze Zbr hr (Za (pv 2) (Za (Zf Q9 (Zf XS (Zf ZK (pv 4) (pv 5)) (Zi 64)) (Zy (Zv K) (pv 3) (pv 7))) Zc)))) (Zb (Zq 4 Y6.nd (Zf Z4 (pv 8) (Zi 64))) (Zb (ps_asg (Zf ZZ (pv 8) (ZT G_HALF)) (pg_sub (pv 3) (pv 7) Zef)) (Zd (qs_aug 5 Y6.nd (Zi 1) (pip_of ion_sub))))))))) (Zb (ZM (ZP on_ne (pv 4) (ZT ZcH) (ZR _)) (Zd (Zk Qe)) Zx) (Zd (Zk (Ze Xa hr (Za (pv 3) Zc)))))))))),?_⟩
 refine Zo (σ':=[some (.ref p),some (.ref r),none,none,none,none,none,none,none]) rfl ?_
 have hkl:=dkw_len hk
 have hnk:key.length / 4=4∨key.length / 4=6∨key.length / 4=8:=by have:=hk.len; lia
 have hkw:Yl (dkw key):=dkw_words hk
 nofun
 refine ⟨p,key,rfl,hS,hk,fun H1 aw s1 n1 h1=>?_⟩
 nofun
 refine ⟨r,y,8,rfl,s1.seq hX,hy,by exact ZbO,by decide,by decide,h8,fun H2 ah s2 n2 h2=>?_⟩
 have n2':H ah=none:=s1.free n2
 rw [nums_cons (by lia)] at h2
 nofun
 refine ⟨Qp h2,?_⟩
 nofun
 refine rd_popAt h2 ?_
 obtain ⟨n,hn⟩:∃n,y.length / 8 - 1=n:=⟨_,rfl⟩
 have hn1:2<=n:=by lia
 have hl8:(YH 8 (y.drop 8)).length=n:=by unfold YH; rw [Od,YO,OS]; lia
 have s3:ZA H (upd H2 ah (.lst (LN (YH 8 (y.drop 8))))):=Zz (s1.trans s2) n2'
 have k3:(upd H2 ah (.lst (LN (YH 8 (y.drop 8))))) aw=some (.lst (LN (dkw key))):=(ZN (Zu h1 n2)).trans (s2 _ _ h1)
 have j3:(upd H2 ah (.lst (LN (YH 8 (y.drop 8))))) ah=some (.lst (LN (YH 8 (y.drop 8)))):=Zn
 generalize upd H2 ah (.lst (LN (YH 8 (y.drop 8))))=H3 at *
 -- the state behind t steps
 let St_:Nat->Nat×List Nat:=fun t=>JB (dkw key) n (6 * n) (Us (y.take 8),YH 8 (y.drop 8)) t
 have hin:∀t,(St_ t).1 < 2 ^ 64/\Zde (St_ t).2/\(St_ t).2.length=n:=fun t=>by
  have:=unwrapN_in hk hy (by lia) (by exact ZbO) t
  rw [hn] at this
  exact this
 nofun
 ·rw [hl8]
  refine ⟨_,rfl,by decide,by decide,XO (st_r1 6) (fun i σ H'=>∃v6 v7 v8,σ=[some (.ref p),some (.ref r),some (.ref aw),some (.ref ah),some (N_ (St_ (i * n)).1),some (N_ (6 * n - i * n)),v6,v7,v8]/\ZA H H'/\H' aw=some (.lst (LN (dkw key)))/\H' ah=some (.lst (LN (St_ (i * n)).2)))
   ⟨none,none,none,by rw [U8]; rfl,s3,k3,by rw [U8]; exact j3⟩ ?_ ?_⟩
  ·rintro i σ H' hi ⟨v6,v7,v8,rfl,s3,k3,j3⟩
   obtain ⟨b1,b2,b3⟩:=hin (i * n)
   nofun
   ·rw [b3]
    have e:((n - 1:Nat):Int)=(n:Int) - 1:=by lia
    refine ⟨_,_,_,n,rfl,e ▸ ZfB (n:=n) (by lia),e ▸ XO (st_down n) (fun j σ H'=>∃v7 v8,σ=[some (.ref p),some (.ref r),some (.ref aw),some (.ref ah),some (N_ (St_ (i * n + j)).1),some (N_ (6 * n - (i * n + j))),some (N_ i),v7,v8]/\ZA H H'/\H' aw=some (.lst (LN (dkw key)))/\H' ah=some (.lst (LN (St_ (i * n + j)).2)))
     ⟨v7,v8,rfl,s3,k3,j3⟩ ?_ ?_⟩
    ·rintro j σ H'' hj ⟨v7,v8,rfl,s4,k4,j4⟩
     obtain ⟨b1,b2,b3⟩:=hin (i * n + j)
     have hin5:i * n<=5 * n:=UT _ (by lia)
     have es:St_ (i * n + j + 1)=ZcE (dkw key) (St_ (i * n + j)) (6 * n - (i * n + j)) (n - 1 - j):=by
      show JB _ _ _ _ _=_
      rw [Zeo]
      have em:(6 * n - (i * n + j) - 1) % n=n - 1 - j:=by
       have e5:(5 - i) * n=5 * n - i * n:=Nat.sub_mul _ _ _
       have:6 * n - (i * n + j) - 1=(n - 1 - j) + (5 - i) * n:=by lia
       rw [this,VW,IM (by omega)]
      rw [em]
     have h64:6 * n - (i * n + j) < 2 ^ 64:=by lia
     nofun
     ·refine ⟨aw,dkw key,key.length / 4 + 5,_,rfl,SqL.of k4,by omega,by lia,hkw,join128 (xor64 b1 h64) (b2.at _),?_⟩
      nofun
      refine rd_set j4 (by omega) ?_
      nofun
      ·rw [<- TC,es]
       have e1:6 * n - (i * n + j) - 1=6 * n - (i * n + j + 1):=by lia
       rw [e1]
       exact ⟨_,_,rfl,Zz s4 n2',(ZN (Zu h1 n2)).trans k4,Zn⟩
      ·lia
     all_goals first | omega | exact ⟨Ip (xor64 b1 h64) (by decide),by decide⟩
    ·rintro σ H'' ⟨v7,v8,rfl,s4,k4,j4⟩
     have ei:i * n + n=(i + 1) * n:=by rw [VN,Tr]
     rw [ei] at j4 ⊢
     exact ⟨_,_,_,rfl,s4,k4,j4⟩
   ·lia
  ·rintro σ H' ⟨v6,v7,v8,rfl,s3,k3,j3⟩
   obtain ⟨b1,b2,b3⟩:=hin (6 * n)
   have eu:Zab key y=if (St_ (6 * n)).1=Wb then some (wide (St_ (6 * n)).2) else none:=by
    unfold Zab
    rw [hn]
   nofun
   by_cases hc:(St_ (6 * n)).1=Wb
   ·rw [if_pos hc] at eu
    rw [decide_eq_true hc,if_neg (by decide)]
    nofun
    exact ⟨ah,_,rfl,SqL.of j3,by lia,fun H6 d s6 n6 h6=>qs _ H6 d eu (s3.trans s6) (s3.free n6) h6⟩
   ·rw [if_neg hc] at eu
    rw [decide_eq_false hc,if_pos (by decide)]
    nofun
    exact qn eu H' s3
 all_goals decide
end
theorem rd_i0 {g:Int->Int->V} {i j:Int} {H:Hp} {Q:VK} (h:Q (g i j) H):rI0 g (.int i) (.int j) H Q:=⟨i,j,rfl,rfl,h⟩
def rMaxP:List V->Hp->VK->Prop:=fun xs H Q=>∃n:Nat,xs=[.int ((n:Int) - ((1:Nat):Int)),N_ 0]/\Q (N_ (n - 1)) H
theorem call_maxP {X:Cx} (hc:X.calm=true):WZ X (.builtin "max") rMaxP:=Jq (call_max2 hc) fun xs H Q ⟨n,h1,q⟩=>⟨_,_,h1,by
 have e:(if ((0:Nat):Int) > (n:Int) - ((1:Nat):Int) then ((0:Nat):Int) else (n:Int) - ((1:Nat):Int))=((n - 1:Nat):Int):=by split <;> omega
 rw [e]
 exact q⟩
theorem Zfc {b:Nat} (h:b < 2 ^ 128):X4 b < 2 ^ 128:=by
 unfold X4
 split
 ·rw [andBlock]
  exact OA (n:=128) (Ik _ (by decide)) (by decide)
 ·lia
theorem ZfJ {rest:Sy23.B} (hb:Ol rest) (n:Nat):Ol (rest ++ [128] ++ Ou n 0):=by
 refine Z6.mpr ⟨Z6.mpr ⟨hb,Y1.mpr ⟨by decide,Jp⟩⟩,fun x hx=>?_⟩
 rw [U5] at hx
 simp [*]
section
variable {P:Program} {w:World} {K:Oa} {mg:Str->Option Value} {base:Heap}
def Ze2:Sp:=fun vs H Q _=>∃b:Nat,vs=[N_ b]/\b < 2 ^ 128/\Q (N_ (X4 b)) H
theorem sc_shifted:Zs ["block"] ["block"] (Zj (top 112)):=qsc
theorem c_shifted (G_BLOCK:ZU mg "BLOCK" BLOCK) (R:Raw K mg "shifted" "shifted" (top 112) ["block"]):Zh P w K mg base 1 "shifted" ["block"] Ze2:=by
 refine R.callee sc_shifted (fun vs H Q E h=>?_) (fun f cdv A outer s H vs Q E hr h=>?_)
 ·walk_at "ln"
 obtain ⟨b,rfl,hb,q⟩:=h
 refine ⟨_,(Zb (ZM (ZP XW (Zf Z4 (pv 0) (Zi 127)) (Zi 1) (ZR _)) (Zd (Zk (Zf ZK (Zf ZZ (Zf XS (pv 0) (Zi 1)) (ZT G_BLOCK)) (Zi 135)))) Zx) (Zd (Zk (Zf XS (pv 0) (Zi 1))))),?_⟩
 refine Zo (σ':=[some (N_ b)]) rfl ?_
 nofun
 refine dif (fun h=>?_) (fun h=>?_)
 ·unfold X4 at q
  rw [if_pos h] at q
  nofun
  ·exact q
  ·exact ⟨by exact qw15,by decide⟩
 ·unfold X4 at q
  rw [if_neg h] at q
  nofun
  ·exact q
  ·exact ⟨by omega,by decide⟩
def spLast:Sp:=fun vs H Q _=>∃(p:Addr) (k:Nat) (rest:Sy23.B),vs=[N_ k,.ref p]/\k < 2 ^ 128/\H p=some (.lst (LN rest))/\Ol rest/\rest.length<=16/\∀H',ZA H H'->Q (N_ (Zd1 k rest)) H'
theorem Zdc:Zs ["subkey","rest","filled"] ["subkey","rest"] (Zj (top 113)):=qsc
theorem c_last_block (B:Blt mg) (R:Raw K mg "last_block" "last_block" (top 113) ["subkey","rest"]) (Yt:Zh P w K mg base 1 "number_high_first" ["row"] (spNum K)) (J8:Zh P w K mg base 1 "shifted" ["block"] Ze2) :
 Zh P w K mg base 2 "last_block" ["subkey","rest"] spLast:=by
 refine R.callee Zdc (fun vs H Q E h=>?_) (fun f cdv A outer s H vs Q E hr h=>?_)
 ·walk_at "ln"
 obtain ⟨p,k,rest,rfl,hk,hp,hb,hl,q⟩:=h
 refine ⟨_,(Zb (ZM (ZP XW (ZL (ZQ K) rfl B.len Ox (Za (pv 1) Zc)) (Zi 16) (ZR _)) (Zd (Zk (Zf ZK (Ze Yt hr (Za (pv 1) Zc)) (pv 0)))) Zx) (Zb (Zq 2 Zdc.nd (Zf Xp (Zf Xp (pv 1) (ZH (Za (Zi 128) Zc))) (Zf ZeQ (ZH (Za (Zi 0) Zc)) (Zf Xg (Zi 15) (ZL (ZQ K) rfl B.len Ox (Za (pv 1) Zc)))))) (Zd (Zk (Zf ZK (Ze Yt hr (Za (pv 2) Zc)) (Ze J8 hr (Za (pv 0) Zc))))))),?_⟩
 refine Zo (σ':=[some (N_ k),some (.ref p),none]) rfl ?_
 unfold Zd1 at q
 nofun
 refine dif (fun h=>?_) (fun h=>?_)
 ·rw [if_pos h] at q
  nofun
  refine ⟨p,rest,rfl,SqL.of hp,hb,hl,?_⟩
  nofun
  exact q _ (Zl _)
 ·rw [if_neg h] at q
  nofun
  refine ⟨Zp (by decide),fun a1 h1=>?_⟩
  obtain ⟨H1,e1,s1,t1,k1,f1⟩:=YJ (.lst [N_ 128]) (Zl H) h1
  rw [e1]
  refine Xq (m:=[128]) (s1 _ _ hp) k1 (by simp; exact ZbN) fun a2 h2=>?_
  obtain ⟨H2,e2,s2,t2,k2,f2⟩:=YJ (.lst (LN (rest ++ [128]))) s1 h2
  rw [e2]
  nofun
  refine ⟨Zp (by decide),fun a3 h3=>?_⟩
  obtain ⟨H3,e3,s3,t3,k3,f3⟩:=YJ (.lst [N_ 0]) s2 h3
  rw [e3]
  nofun
  refine rd_len (SqL.of (s3 _ _ hp)) ?_
  nofun
  ·refine rd_rep k3 (by omega) fun a4 h4=>?_
   obtain ⟨H4,e4,s4,t4,k4,f4⟩:=YJ (.lst (LN (Ou (15 - rest.length) 0))) s3 h4
   rw [e4]
   refine Xq (t4 _ _ (t3 _ _ k2)) k4 (by simp; omega) fun a5 h5=>?_
   obtain ⟨H5,e5,s5,t5,k5,f5⟩:=YJ (.lst (LN (rest ++ [128] ++ Ou (15 - rest.length) 0))) s4 h5
   rw [e5]
   nofun
   refine ⟨a5,_,rfl,SqL.of k5,ZfJ hb _,by simp; lia,?_⟩
   nofun
   refine ⟨k,rfl,hk,?_⟩
   nofun
   exact q _ s5
  ·lia
def spMark (K:Oa):Sp:=fun vs H Q _=>∃(p r:Addr) (key x:Sy23.B),vs=[.ref p,.ref r]/\SqL K H p (LN key)/\SqL K H r (LN x)/\YU key/\Ol x/\x.length<=70000/\
 ∀(H':Hp) (q:Addr),ZA H H'->H q=none->H' q=some (.lst (LN (markN key x)))->Q (.ref q) H'
theorem enc_lt (ws:List Nat) (n:Nat) (hw:Yl ws) (hl:4<=ws.length):enc ws n < 2 ^ 128:=by
 unfold enc Zfv
 have hx:∀a b c d i,J2 BOX a b c d ^^^ ws.getD i 0 < 2 ^ 32:=fun a b c d i=>OA (ZbC Za0 _ _ _ _) (hw.at _)
 rw [Zf0 (hx _ _ _ _ _) (hx _ _ _ _ _) (hx _ _ _ _ _)]
 have h0:=hx ((Ob (ws.length / 4 - 2)).foldl (YD ws) (YF ws n)).1 ((Ob (ws.length / 4 - 2)).foldl (YD ws) (YF ws n)).2.1 ((Ob (ws.length / 4 - 2)).foldl (YD ws) (YF ws n)).2.2.1 ((Ob (ws.length / 4 - 2)).foldl (YD ws) (YF ws n)).2.2.2 (ws.length - 4)
 have h1:=hx ((Ob (ws.length / 4 - 2)).foldl (YD ws) (YF ws n)).2.1 ((Ob (ws.length / 4 - 2)).foldl (YD ws) (YF ws n)).2.2.1 ((Ob (ws.length / 4 - 2)).foldl (YD ws) (YF ws n)).2.2.2 ((Ob (ws.length / 4 - 2)).foldl (YD ws) (YF ws n)).1 (ws.length - 4 + 1)
 have h2:=hx ((Ob (ws.length / 4 - 2)).foldl (YD ws) (YF ws n)).2.2.1 ((Ob (ws.length / 4 - 2)).foldl (YD ws) (YF ws n)).2.2.2 ((Ob (ws.length / 4 - 2)).foldl (YD ws) (YF ws n)).1 ((Ob (ws.length / 4 - 2)).foldl (YD ws) (YF ws n)).2.1 (ws.length - 4 + 2)
 have h3:=hx ((Ob (ws.length / 4 - 2)).foldl (YD ws) (YF ws n)).2.2.2 ((Ob (ws.length / 4 - 2)).foldl (YD ws) (YF ws n)).1 ((Ob (ws.length / 4 - 2)).foldl (YD ws) (YF ws n)).2.1 ((Ob (ws.length / 4 - 2)).foldl (YD ws) (YF ws n)).2.2.1 (ws.length - 4 + 3)
 lia
theorem lastN_lt {k:Nat} {rest:Sy23.B} (hk:k < 2 ^ 128) (hb:Ol rest) (hl:rest.length<=16):Zd1 k rest < 2 ^ 128:=by
 unfold Zd1
 have h16:∀(b:Sy23.B),b.length=16->Ol b->Us b < 2 ^ 128:=fun b h1 h2=>Yc.lt ⟨h1,h2⟩
 split
 ·exact OA (h16 _ (by assumption) hb) hk
 ·exact OA (h16 _ (by simp; lia) (ZfJ hb _)) (Zfc hk)
theorem markN_def (key x:Sy23.B):markN key x=Vs 16 (enc (kw key) ((YH 16 (x.take ((x.length - 1) / 16 * 16))).foldl (fun y b=>enc (kw key) (y ^^^ b)) 0 ^^^ Zd1 (X4 (enc (kw key) 0)) (x.drop ((x.length - 1) / 16 * 16)))):=by
 unfold markN Zdf
 rfl
theorem fold_lt {ws:List Nat} (hw:Yl ws) (hl:4<=ws.length):∀(m:List Nat) (z:Nat),z < 2 ^ 128->m.foldl (fun y b=>enc ws (y ^^^ b)) z < 2 ^ 128:=by
 intro m
 induction m with
 | nil=>intro z hz; exact hz
 | cons b m ih=>intro z _; exact ih _ (enc_lt _ _ hw hl)
theorem fold_step (ws:List Nat) {l:List Nat} {i:Nat} (h:i < l.length):(l.take (i + 1)).foldl (fun y b=>enc ws (y ^^^ b)) 0=enc ws ((l.take i).foldl (fun y b=>enc ws (y ^^^ b)) 0 ^^^ l.getD i 0):=by
 rw [Zbl h,OI,Ig,IQ]
theorem QI:Zs ["key","given","words","subkey","ahead","state","block"] ["key","given"] (Zj (top 114)):=qsc
theorem c_mark_of (B:Blt mg) (R:Raw K mg "mark_of" "mark_of" (top 114) ["key","given"]) (Yk:Zh P w K mg base 3 "cipher_words" ["key"] (ZbS K kw)) (Xm:Zh P w K mg base 2 "ciphered" ["words","block"] (Zbk K enc)) (J8:Zh P w K mg base 1 "shifted" ["block"] Ze2)
 (ZJ:Zh P w K mg base 2 "numbers_high_first" ["row","width"] (Ze0 K)) (YY:Zh P w K mg base 1 "bytes_high_first" ["number","count"] spBytes) (Zbs:Zh P w K mg base 2 "last_block" ["subkey","rest"] spLast) :
 Zh P w K mg base 4 "mark_of" ["key","given"] (spMark K):=by
 refine R.callee QI (fun vs H Q E h=>?_) (fun f cdv A outer s H vs Q E hr h=>?_)
 ·walk_at "ln"
 obtain ⟨p,r,key,x,rfl,hS,hX,hk,hx,hle,q⟩:=h
 refine ⟨_,(Zb (Zq 2 QI.nd (Ze Yk hr (Za (pv 0) Zc))) (Zb (Zq 3 QI.nd (Ze J8 hr (Za (Ze Xm hr (Za (pv 2) (Za (Zi 0) Zc))) Zc))) (Zb (Zq 4 QI.nd (Zf on_mulR (Zf ZeO (ZL (call_maxP rfl) rfl B.max boot_max (Za (Zf op_sub (ZL (ZQ K) rfl B.len Ox (Za (pv 1) Zc)) (Zi 1)) (Za (Zi 0) Zc))) (Zi 16)) (Zi 16))) (Zb (Zq 5 QI.nd (Zi 0)) (Zb (Xx PassesOwn.never rfl (YW K (Ze ZJ hr (Za (YI (YK K) (pv 1) po_none (Wd (pv 4))) (Za (Zi 16) Zc)))) (ZW 6 QI.nd) (Zd (Zq 5 QI.nd (Ze Xm hr (Za (pv 2) (Za (Zf ZK (pv 5) (pv 6)) Zc)))))) (Zd (Zk (Ze YY hr (Za (Ze Xm hr (Za (pv 2) (Za (Zf ZK (pv 5) (Ze Zbs hr (Za (pv 3) (Za (YI (YK K) (pv 1) (Wd (pv 4)) po_none) Zc)))) Zc))) (Za (Zi 16) Zc)))))))))),?_⟩
 refine Zo (σ':=[some (.ref p),some (.ref r),none,none,none,none,none]) rfl ?_
 have hkl:=(ZaN hk).klen
 have hnk:key.length / 4=4∨key.length / 4=6∨key.length / 4=8:=by have:=hk.len; lia
 have hkw:Yl (kw key):=Zbc hk _
 nofun
 refine ⟨p,key,rfl,hS,hk,fun H1 aw s1 n1 h1=>?_⟩
 nofun
 refine ⟨aw,kw key,key.length / 4 + 5,0,rfl,SqL.of h1,by omega,by lia,hkw,by decide,?_⟩
 nofun
 refine ⟨_,rfl,enc_lt _ _ hkw (by lia),?_⟩
 nofun
 refine ⟨x.length,rfl,?_⟩
 nofun
 ·refine rd_cutTo (s1.seq hX) fun c hc=>?_
  obtain ⟨H2,e2,s2,t2,k2,f2⟩:=YJ (.lst (LN (x.take ((x.length - 1) / 16 * 16)))) s1 hc
  rw [e2]
  nofun
  have htl:(x.take ((x.length - 1) / 16 * 16)).length=(x.length - 1) / 16 * 16:=by rw [OM]; lia
  refine ⟨c,_,16,rfl,SqL.of k2,XN hx _,by omega,by decide,by decide,by simp [*],fun H3 d s3 n3 h3=>?_⟩
  refine YX (SqL.of h3) ?_
  have hnl:∀y,y∈YH 16 (x.take ((x.length - 1) / 16 * 16))->y < 2 ^ 128:=fun y hy=>by
   obtain ⟨z,hz,rfl⟩:=OK.mp hy
   obtain ⟨i,hi,rfl⟩:=OK.mp hz
   rw [OR] at hi
   exact Yc.lt ⟨ZaI (by lia),WI (XN hx _) _ _⟩
  have em:=markN_def key x
  generalize YH 16 (x.take ((x.length - 1) / 16 * 16))=l at *
  have hf:∀i,(l.take i).foldl (fun y b=>enc (kw key) (y ^^^ b)) 0 < 2 ^ 128:=fun i=>fold_lt hkw (by omega) _ 0 (by decide)
  refine JD (K:=K) (a:=d) (xs:=LN l) (fun i σ H'=>H'=H3/\∃v,σ=[some (.ref p),some (.ref r),some (.ref aw),some (N_ (X4 (enc (kw key) 0))),some (N_ ((x.length - 1) / 16 * 16)),some (N_ ((l.take i).foldl (fun y b=>enc (kw key) (y ^^^ b)) 0)),v])
   ⟨rfl,none,rfl⟩ (fun i σ H' _ ⟨e,_⟩=>e ▸ SqL.of h3) ?_ ?_
  ·rintro i y σ H' hi ⟨rfl,v,rfl⟩
   obtain ⟨hi',rfl⟩:=ZcK hi
   nofun
   refine ⟨aw,kw key,key.length / 4 + 5,_,rfl,SqL.of (s3 _ _ (t2 _ _ h1)),by omega,by lia,hkw,OA (hf i) (hnl _ ?_),?_⟩
   ·rw [Oe,Of hi']
    exact Uw hi'
   nofun
   rw [fold_step (kw key) hi']
   exact ⟨rfl,_,rfl⟩
  ·rintro σ H' ⟨rfl,v,rfl⟩
   rw [Od,IL]
   have hfl:=hf l.length
   rw [IL] at hfl
   nofun
   refine rd_cutFrom ((s2.trans s3).seq hX) fun g hg=>?_
   obtain ⟨H4,e4,s4,t4,k4,f4⟩:=YJ (.lst (LN (x.drop ((x.length - 1) / 16 * 16)))) (s2.trans s3) hg
   rw [e4]
   nofun
   have hdl:(x.drop ((x.length - 1) / 16 * 16)).length<=16:=by rw [OS]; omega
   have hsl:=Zfc (enc_lt (kw key) 0 hkw (by lia))
   refine ⟨g,_,_,rfl,hsl,k4,XM hx _,hdl,fun H5 s5=>?_⟩
   nofun
   refine ⟨aw,kw key,key.length / 4 + 5,_,rfl,SqL.of (s5 _ _ (t4 _ _ (s3 _ _ (t2 _ _ h1)))),by omega,by lia,hkw,OA hfl (lastN_lt hsl (XM hx _) hdl),?_⟩
   nofun
   refine ⟨_,16,rfl,by decide,by decide,fun H6 z s6 n6 h6=>q H6 z ((s4.trans s5).trans s6) ((s4.trans s5).free n6) ?_⟩
   rw [h6,em]
 all_goals first | omega | decide
end
theorem vals_range {acc:Array Value} {i c:Int} {n:Nat} (h:ItemsOf (fun k v=>∃t,v=Value.int (i + k * c) t) acc n):Z8 ((Ob n).map fun k:Nat=>V.int (i + (k:Int) * c)) acc.toList:=by
 obtain ⟨h1,h2⟩:=h
 have H:∀(l:List Value) (a:Nat),(∀(j:Nat) (v:Value),l[j]?=some v->∃t,v=Value.int (i + ((a + j:Nat):Int) * c) t)->Z8 ((List.range' a l.length).map fun k:Nat=>V.int (i + (k:Int) * c)) l:=by
  intro l
  induction l with
  | nil=>intro a _; exact .nil
  | cons x l ih=>
   intro a hh
   obtain ⟨t,e⟩:=hh 0 x rfl
   refine .cons ⟨t,e⟩ (ih (a + 1) fun j v hv=>?_)
   have:=hh (j + 1) v hv
   rwa [show a + (j + 1)=a + 1 + j by lia] at this
 have:=H acc.toList 0 fun j v hv=>by
  rw [UG]
  exact h2 j v (by simpa using hv)
 rw [<- List.range_eq_range'] at this
 rwa [Array.length_toList,h1] at this
def tLR (ta:TA):TE:=fun σ H Q=>ta σ H fun vs H1=>∃(i j c:Int) (n:Nat),vs=[.int i,.int j,.int c]/\RgC i j c n/\n<=1000/\∀l,H1 l=none->Q (.ref l) (upd H1 l (.lst ((Ob n).map fun k:Nat=>V.int (i + (k:Int) * c))))
def rLR1 (vs:List V) (H:Hp) (Q:VK):Prop:=∃n:Nat,vs=[N_ n]/\n<=1000/\∀l,H l=none->Q (.ref l) (upd H l (.lst (LN (Ob n))))
def tLR1 (ta:TA):TE:=fun σ H Q=>ta σ H fun vs H1=>rLR1 vs H1 Q
section
variable {X:Cx}
theorem Zap {pins:List (Addr×Obj)} {s:Shared} {σ:St} {H:Hp} {Q:VK} {i j c:Int} {t u v:Tok} {n:Nat} {tk:Nat} (I:Inv X pins σ H s) (hc:X.calm=true) (hs:Builtin.Range.small i j c=true) (hn:Builtin.Range.rangeSize i j c=n) (hl:n<=1000)
 (q:∀l,H l=none->Q (.ref l) (upd H l (.lst ((Ob n).map fun k:Nat=>V.int (i + (k:Int) * c))))) :
 wpAny (model X.prog X.w) X.A (call (.type "list") [.ref s.heap.objs.size]) (EP X pins σ Q) X.xe { s with heap:=s.heap.push { cls:=.type "range",data:=.fields #[.int i t,.int j u,.int c v] },toks:=tk }:=by
 have I2:Inv X pins σ H { s with heap:=s.heap.push { cls:=.type "range",data:=.fields #[.int i t,.int j u,.int c v] },toks:=tk }:=I.kept (t':=tk) fun b o e=>Heap.get?_push_of_some _ e
 refine PySem.call_list_range (I.ok.hd hc) (IsRange.new ..) hs hn (by exact ZbN) fun h' tk' acc' c' kp e items=>?_
 have hf:H (s.heap.push { cls:=.type "range",data:=.fields #[.int i t,.int j u,.int c v] }).objs.size=none:=I2.hok.fresh (Oq _)
 generalize ea:(s.heap.push { cls:=.type "range",data:=.fields #[.int i t,.int j u,.int c v] }).objs.size=na at *
 have ob:W0 X.prog X.w (upd H na (.lst ((Ob n).map fun k:Nat=>V.int (i + (k:Int) * c)))) h' na (.lst ((Ob n).map fun k:Nat=>V.int (i + (k:Int) * c))):=
  ⟨by rw [Od,OL]; exact Zp (by exact ZbN),acc'.toList,c',vals_range items,e⟩
 exact ⟨.ref na,_,I2.laid (t':=tk') kp (VA ea) ob,rfl,q _ hf⟩
theorem pe_listR3 {a b c:Expr} {ta:TA} {p p2 pos pos2:Pos} (hgl:Gl X "list") (hml:X.mg "list"=none) (hg:Gl X "range") (hm:X.mg "range"=none) (hc:X.calm=true) (ha:PA X [a,b,c] ta)
 (hs:starEach [a,b,c] X.env=(false,eval a X.env) :: starEach [b,c] X.env:=by rfl) (hpl:(backTo pos2 (starEach [b,c] X.env)).any (·.1)=false:=by rfl)
 (hs2:starEach [.Call (.Name "range" p2) [a,b,c] [] pos2] X.env=[(false,eval (.Call (.Name "range" p2) [a,b,c] [] pos2) X.env)]:=by rfl) :
 PE X (.Call (.Name "list" p) [.Call (.Name "range" p2) [a,b,c] [] pos2] [] pos) (tLR ta):=by
 intro pins s σ H Q I h
 refine wpAny_Call_Name_kw (QF I hgl hml PyProof.Rows.boot_list ?_)
 refine OQ (rest:=[]) ?_ hs2 rfl
 rw [hs2]
 show wpAny _ _ (spliced ((false,eval (.Call (.Name "range" p2) [a,b,c] [] pos2) X.env) :: backTo pos [])) _ _ s
 refine Calls.spliced_cons ?_
 refine Call_ (QF I hg hm boot_range (OQ (thn (ha pos2 pins s σ H _ I h) fun us s1 ⟨vs,H1,I1,r1,q1⟩=>?_) hs hpl))
 obtain ⟨i,j,k,n,e,⟨c0,c1,c2,c3⟩,hl,q⟩:=q1
 subst e
 cases r1 with
 | cons r rr=>
  cases rr with
  | cons r' rr=>
   cases rr with
   | cons r'' rr=>
    cases rr
    obtain ⟨t,rfl⟩:=r
    obtain ⟨t',rfl⟩:=r'
    obtain ⟨t'',rfl⟩:=r''
    refine call_range_3 c0 ?_ (.inl (PyProof.noPylong_small c1))
    exact Calls.spliced_nil (Zap I1 hc c2 c3 hl q)
theorem pe_listR1 {a:Expr} {ta:TA} {p p2 pos pos2:Pos} (hgl:Gl X "list") (hml:X.mg "list"=none) (hg:Gl X "range") (hm:X.mg "range"=none) (hc:X.calm=true) (ha:PA X [a] ta)
 (hs:starEach [a] X.env=[(false,eval a X.env)]:=by rfl)
 (hs2:starEach [.Call (.Name "range" p2) [a] [] pos2] X.env=[(false,eval (.Call (.Name "range" p2) [a] [] pos2) X.env)]:=by rfl) :
 PE X (.Call (.Name "list" p) [.Call (.Name "range" p2) [a] [] pos2] [] pos) (tLR1 ta):=by
 intro pins s σ H Q I h
 refine wpAny_Call_Name_kw (QF I hgl hml PyProof.Rows.boot_list ?_)
 refine OQ (rest:=[]) ?_ hs2 rfl
 rw [hs2]
 show wpAny _ _ (spliced ((false,eval (.Call (.Name "range" p2) [a] [] pos2) X.env) :: backTo pos [])) _ _ s
 refine Calls.spliced_cons ?_
 refine Call_ (QF I hg hm boot_range (OQ (thn (ha pos2 pins s σ H _ I h) fun us s1 ⟨vs,H1,I1,r1,q1⟩=>?_) hs rfl))
 obtain ⟨n,e,hl,q⟩:=q1
 subst e
 cases r1 with
 | cons r rr=>
  cases rr
  obtain ⟨t,rfl⟩:=r
  refine call_range_1 ?_
  have hr:=rg_up (lo:=0) (hi:=n) (c:=1) (by decide) (by decide) (by decide) (by exact ZbO)
  have en:(n - 0 + 1 - 1) / 1=n:=by simp
  rw [en] at hr
  obtain ⟨c0,c1,c2,c3⟩:=hr
  refine Calls.spliced_nil (Zap I1 hc c2 c3 hl fun l hl'=>?_)
  have el:((Ob n).map fun k:Nat=>V.int (0 + (k:Int) * 1))=LN (Ob n):=Ia fun k _=>congrArg V.int (by lia)
  rw [el]
  exact q l hl'
end
theorem rd_lr {ta:TA} {σ:St} {H:Hp} {Q:VK} (h:ta σ H fun vs H1=>∃(i j c:Int) (n:Nat),vs=[.int i,.int j,.int c]/\RgC i j c n/\n<=1000/\∀l,H1 l=none->Q (.ref l) (upd H1 l (.lst ((Ob n).map fun k:Nat=>V.int (i + (k:Int) * c))))):tLR ta σ H Q:=h
theorem rd_lr1 {ta:TA} {σ:St} {H:Hp} {Q:VK} (h:ta σ H fun vs H1=>rLR1 vs H1 Q):tLR1 ta σ H Q:=h
theorem rd_rI {C:Int->Int->Prop} {g:Int->Int->V} {i j:Int} {H:Hp} {Q:VK} (h:Q (g i j) H) (hc:C i j):rI C g (.int i) (.int j) H Q:=⟨i,j,rfl,rfl,hc,h⟩
section
variable {P:Program} {w:World} {K:Oa} {mg:Str->Option Value} {base:Heap}
def spShare (K:Oa):Sp:=fun vs H Q _=>∃(p:Addr) (ws:List Nat) (R i d y:Nat),vs=[.ref p,N_ i,N_ d,N_ y]/\SqL K H p (LN ws)/\ws.length=4 * (R + 2)/\R<=20/\Yl ws/\i < 256/\d < 256/\y < 2 ^ 64/\Q (N_ (shareN ws i d y)) H
theorem sc_share:Zs ["words","turn","digits","half"] ["words","turn","digits","half"] (Zj (top 117)):=qsc
theorem c_share (R:Raw K mg "share" "share" (top 117) ["words","turn","digits","half"]) (Xm:Zh P w K mg base 2 "ciphered" ["words","block"] (Zbk K enc)):Zh P w K mg base 3 "share" ["words","turn","digits","half"] (spShare K):=by
 refine R.callee sc_share (fun vs H Q E h=>?_) (fun f cdv A outer s H vs Q E hr h=>?_)
 ·walk_at "ln"
 obtain ⟨p,ws,r,i,d,y,rfl,hS,hl,hr20,hw,hi,hd,hy,q⟩:=h
 refine ⟨_,(Zd (Zk (Zf Z4 (Ze Xm hr (Za (pv 0) (Za (Zf Q9 (Zf Q9 (Zf XS (pv 1) (Zi 120)) (Zf XS (pv 2) (Zi 112))) (pv 3)) Zc))) (Zi 64)))),?_⟩
 refine Zo (σ':=[some (.ref p),some (N_ i),some (N_ d),some (N_ y)]) rfl ?_
 nofun
 ·refine ⟨p,ws,r,_,rfl,hS,hl,hr20,hw,?_,?_⟩
  ·exact Vg (Vg (by lia) (by lia)) (by exact qw15)
  nofun
  exact q
 all_goals exact ⟨by exact qw15,by decide⟩
theorem fold_in {key:Sy23.B} (hk:YU key) {d:Nat} (hd:d<=18) {sg:Int} {g:Nat×Nat->Nat->Nat×Nat} (hg:∀{i:Nat},i < 10->∀{x:Nat×Nat},WE d x->ZbK (kw key) d sg (up x) i=up (g x i)/\WE d (g x i)) (l:List Nat) (hl:∀j,j∈l->j < 10):∀{x:Nat×Nat},WE d x->WE d (l.foldl g x):=by
 induction l with
 | nil=>intro x h; exact h
 | cons i l ih=>intro x h; exact ih (fun j hj=>hl j (Ov _ hj)) (hg (hl i (Ow ..)) h).2
def spMixed (K:Oa):Sp:=fun vs H Q _=>∃(p:Addr) (key:Sy23.B) (d x b:Nat),vs=[.ref p,N_ d,N_ x,N_ b]/\SqL K H p (LN key)/\YU key/\2<=d/\d<=18/\x < 10 ^ d/\
 ∀H',ZA H H'->Q (N_ (if b=0 then Sy23.mixed key d x else Sy23.unmixed key d x)) H'
theorem X3:Zs ["key","digits","number","back","words","upper","lower","a","b","sign","turns","turn"] ["key","digits","number","back"] (Zj (top 118)):=qsc
theorem c_mixed (B:Blt mg) (ZfH:ZU mg "ROUNDS" 10) (R:Raw K mg "mixed" "mixed" (top 118) ["key","digits","number","back"]) (Yk:Zh P w K mg base 3 "cipher_words" ["key"] (ZbS K kw))
 (YA:Zh P w K mg base 1 "power_of_ten" ["exponent"] spPow) (Zfq:Zh P w K mg base 3 "share" ["words","turn","digits","half"] (spShare K)) :
 Zh P w K mg base 4 "mixed" ["key","digits","number","back"] (spMixed K):=by
 refine R.callee X3 (fun vs H Q E h=>?_) (fun f cdv A outer s H vs Q E hr h=>?_)
 ·walk_at "ln"
 obtain ⟨p,key,d,x,b,rfl,hS,hk,hd2,hd,hx,q⟩:=h
 refine ⟨_,(Zb (Zq 4 X3.nd (Ze Yk hr (Za (pv 0) Zc))) (Zb (Zq 5 X3.nd (Ze YA hr (Za (Zf ZeO (pv 1) (Zi 2)) Zc))) (Zb (Zq 6 X3.nd (Ze YA hr (Za (Zf Xg (pv 1) (Zf ZeO (pv 1) (Zi 2))) Zc))) (Zb (Zq 7 X3.nd (Zf ZeO (pv 2) (pv 6))) (Zb (Zq 8 X3.nd (Zf ZeP (pv 2) (pv 6))) (Zb (Zq 9 X3.nd (Zi 1)) (Zb (Zq 10 X3.nd (pe_listR1 rfl B.list rfl B.range rfl (Za (ZT ZfH) Zc))) (Zb (ZM (ZP on_ne (pv 3) (Zi 0) (ZR _)) (Zb (Zq 9 X3.nd (Zcr Zax JU)) (Zd (Zq 10 X3.nd (pe_listR3 rfl B.list rfl B.range rfl (Za (Zf Xg (ZT ZfH) (Zi 1)) (Za (Zcr Zax JU) (Za (Zcr Zax JU) Zc))))))) Zx) (Zb (Xx PassesOwn.never rfl (YW K (pv 10)) (ZW 11 X3.nd) (Zd (ZM (ZP XW (Zf ZeP (pv 11) (Zi 2)) (Zi 0) (ZR _)) (Zd (Zq 7 X3.nd (Zf op_mod (Zf op_add (pv 7) (Zf op_mul (pv 9) (Ze Zfq hr (Za (pv 4) (Za (pv 11) (Za (pv 1) (Za (pv 8) Zc))))))) (pv 5)))) (Zd (Zq 8 X3.nd (Zf op_mod (Zf op_add (pv 8) (Zf op_mul (pv 9) (Ze Zfq hr (Za (pv 4) (Za (pv 11) (Za (pv 1) (Za (pv 7) Zc))))))) (pv 6))))))) (Zd (Zk (Zf Z7 (Zf Q8 (pv 6) (pv 7)) (pv 8))))))))))))),?_⟩
 refine Zo (σ':=[some (.ref p),some (N_ d),some (N_ x),some (N_ b),none,none,none,none,none,none,none,none]) rfl ?_
 have hkl:=(ZaN hk).klen
 have hnk:key.length / 4=4∨key.length / 4=6∨key.length / 4=8:=by have:=hk.len; lia
 have hkw:Yl (kw key):=Zbc hk _
 have p1:=Ul (a:=10) (n:=d / 2) (by decide)
 have p2:=Ul (a:=10) (n:=d - d / 2) (by decide)
 have l2:10 ^ (d - d / 2) < 1073741824:=IV (Ir (by decide) (show d - d / 2<=9 by lia)) (by decide)
 nofun
 refine ⟨p,key,rfl,hS,hk,fun H1 aw s1 n1 h1=>?_⟩
 nofun
 ·refine ⟨d / 2,rfl,by lia,fun H2 s2=>?_⟩
  nofun
  ·refine ⟨d - d / 2,rfl,by lia,fun H3 s3=>?_⟩
   nofun
   ·refine ⟨10,rfl,by decide,fun at_ hat=>?_⟩
    have w4:H3 aw=some (.lst (LN (kw key))):=s3 _ _ (s2 _ _ h1)
    obtain ⟨H5,e5,s5,t5,k5,f5⟩:=YJ (.lst (LN (Ob 10))) ((s1.trans s2).trans s3) hat
    rw [e5]
    nofun
    by_cases hb0:b=0
    ·rw [decide_eq_true hb0,if_neg (by decide)]
     nofun
     have hall:∀z,z∈(Ob 10:List Nat)->z < 10:=by decide
     refine YX (SqL.of k5) ?_
     refine JD (K:=K) (a:=at_) (xs:=LN (Ob 10)) (fun i σ H'=>H'=H5/\∃v,σ=[some (.ref p),some (N_ d),some (N_ x),some (N_ b),some (.ref aw),some (N_ (10 ^ (d / 2))),some (N_ (10 ^ (d - d / 2))),some (N_ (((Ob 10).take i).foldl (Tz key d) (UM d x)).1),some (N_ (((Ob 10).take i).foldl (Tz key d) (UM d x)).2),some (.int ((1:Nat):Int)),some (.ref at_),v])
      ⟨rfl,none,rfl⟩ (fun i σ H' _ ⟨e,_⟩=>e ▸ SqL.of k5) ?_ ?_
     ·rintro i y σ H' hi ⟨rfl,v,rfl⟩
      obtain ⟨hi',rfl⟩:=ZcK hi
      have hz:(Ob 10:List Nat).getD i 0 < 10:=hall _ (by rw [Oe,Of hi']; exact Uw hi')
      have hin:WE d (((Ob 10).take i).foldl (Tz key d) (UM d x)):=fold_in hk hd (mix_fwd hk hd) _ (fun j hj=>hall j (IK hj)) (halves_in hx)
      rw [Zbl hi',OI,Ig,IQ]
      generalize ((Ob 10).take i).foldl (Tz key d) (UM d x)=st at *
      generalize (Ob 10:List Nat).getD i 0=z at *
      obtain ⟨m1,m2⟩:=mix_fwd hk hd hz hin
      have lb:st.2 < 2 ^ 64:=Ip hin.b (Qo (by lia))
      have la:st.1 < 2 ^ 64:=Ip hin.a (Qo (by lia))
      unfold ZbK up at m1
      simp only [Ot] at m1
      nofun
      ·refine dif (fun h0=>?_) (fun h0=>?_)
       ·rw [if_pos h0] at m1
        have e1:=congrArg Prod.fst m1
        have e2:=congrArg Prod.snd m1
        simp only at e1 e2
        nofun
        refine ⟨aw,kw key,key.length / 4 + 5,z,d,st.2,rfl,SqL.of (t5 _ _ w4),by omega,by lia,hkw,by exact qw15,by exact ZbO,lb,?_⟩
        nofun
        ·rw [show ((1:Nat):Int)=1 from rfl,e1]
         exact ⟨rfl,_,by rw [<- Vu.mp e2]⟩
        ·exact Vw.mpr p1
        ·exact .inl ⟨by decide,by decide⟩
       ·rw [if_neg h0] at m1
        have e1:=congrArg Prod.fst m1
        have e2:=congrArg Prod.snd m1
        simp only at e1 e2
        nofun
        refine ⟨aw,kw key,key.length / 4 + 5,z,d,st.1,rfl,SqL.of (t5 _ _ w4),by omega,by lia,hkw,by exact qw15,by omega,la,?_⟩
        nofun
        ·rw [show ((1:Nat):Int)=1 from rfl,e2]
         exact ⟨rfl,_,by rw [<- Vu.mp e1]⟩
        ·exact Vw.mpr p2
        ·exact .inl ⟨by decide,by decide⟩
      ·decide
     ·rintro σ H' ⟨rfl,v,rfl⟩
      rw [Od,IL]
      nofun
      ·exact (by have:=q _ s5; rw [if_pos hb0] at this; exact this)
      ·exact Qo (by lia)
    ·rw [decide_eq_false hb0,if_pos (by decide)]
     nofun
     ·have hr:=ZfB (n:=10) (by decide)
      refine ⟨_,_,_,10,rfl,hr,by decide,fun au hau=>?_⟩
      have el:((Ob 10).map fun k:Nat=>V.int (((10 - 1:Nat):Int) + (k:Int) * -1))=LN (Ob 10).reverse:=by decide +kernel
      obtain ⟨H6,e6,s6,t6,k6,f6⟩:=YJ (.lst (LN (Ob 10).reverse)) s5 hau
      have e6':upd H5 au (.lst ((Ob 10).map fun k:Nat=>V.int (((10 - 1:Nat):Int) + (k:Int) * -1)))=H6:=by rw [el]; exact e6
      rw [e6']
      nofun
      have hall:∀z,z∈((Ob 10).reverse:List Nat)->z < 10:=by decide
      refine YX (SqL.of k6) ?_
      refine JD (K:=K) (a:=au) (xs:=LN ((Ob 10).reverse)) (fun i σ H'=>H'=H6/\∃v,σ=[some (.ref p),some (N_ d),some (N_ x),some (N_ b),some (.ref aw),some (N_ (10 ^ (d / 2))),some (N_ (10 ^ (d - d / 2))),some (N_ ((((Ob 10).reverse).take i).foldl (Tc key d) (UM d x)).1),some (N_ ((((Ob 10).reverse).take i).foldl (Tc key d) (UM d x)).2),some (.int (-1)),some (.ref au),v])
       ⟨rfl,none,rfl⟩ (fun i σ H' _ ⟨e,_⟩=>e ▸ SqL.of k6) ?_ ?_
      ·rintro i y σ H' hi ⟨rfl,v,rfl⟩
       obtain ⟨hi',rfl⟩:=ZcK hi
       have hz:((Ob 10).reverse:List Nat).getD i 0 < 10:=hall _ (by rw [Oe,Of hi']; exact Uw hi')
       have hin:WE d ((((Ob 10).reverse).take i).foldl (Tc key d) (UM d x)):=fold_in hk hd (mix_back hk hd) _ (fun j hj=>hall j (IK hj)) (halves_in hx)
       rw [Zbl hi',OI,Ig,IQ]
       generalize (((Ob 10).reverse).take i).foldl (Tc key d) (UM d x)=st at *
       generalize ((Ob 10).reverse:List Nat).getD i 0=z at *
       obtain ⟨m1,m2⟩:=mix_back hk hd hz hin
       have lb:st.2 < 2 ^ 64:=Ip hin.b (Qo (by lia))
       have la:st.1 < 2 ^ 64:=Ip hin.a (Qo (by lia))
       unfold ZbK up at m1
       simp only [Ot] at m1
       nofun
       ·refine dif (fun h0=>?_) (fun h0=>?_)
        ·rw [if_pos h0] at m1
         have e1:=congrArg Prod.fst m1
         have e2:=congrArg Prod.snd m1
         simp only at e1 e2
         nofun
         refine ⟨aw,kw key,key.length / 4 + 5,z,d,st.2,rfl,SqL.of (t6 _ _ (t5 _ _ w4)),by omega,by lia,hkw,by exact qw15,by exact ZbO,lb,?_⟩
         nofun
         ·rw [e1]
          exact ⟨rfl,_,by rw [<- Vu.mp e2]⟩
         ·exact Vw.mpr p1
         ·exact .inl ⟨by decide,by decide⟩
        ·rw [if_neg h0] at m1
         have e1:=congrArg Prod.fst m1
         have e2:=congrArg Prod.snd m1
         simp only at e1 e2
         nofun
         refine ⟨aw,kw key,key.length / 4 + 5,z,d,st.1,rfl,SqL.of (t6 _ _ (t5 _ _ w4)),by omega,by lia,hkw,by exact qw15,by omega,la,?_⟩
         nofun
         ·rw [e2]
          exact ⟨rfl,_,by rw [<- Vu.mp e1]⟩
         ·exact Vw.mpr p2
         ·exact .inl ⟨by decide,by decide⟩
       ·decide
      ·rintro σ H' ⟨rfl,v,rfl⟩
       rw [Od,IL]
       nofun
       ·exact (by have:=q _ s6; rw [if_neg hb0] at this; exact this)
       ·exact Qo (by lia)
     all_goals decide
   all_goals first | omega | exact ⟨p2,l2⟩
  all_goals first | omega | decide
 all_goals decide
end
def SqE (K:Oa) (H:Hp) (a:Addr) (xs:List V):Prop:=SqL K H a xs∨SqT K H a xs
theorem Zel {K:Oa} {H H':Hp} {a:Addr} {xs:List V} (e:ZA H H') (h:SqT K H a xs):SqT K H' a xs:=by
 rcases h with (h | ⟨o,h⟩) | h
 ·exact .inl (.inl (e _ _ h))
 ·exact .inl (.inr ⟨o,e _ _ h⟩)
 ·exact .inr h
theorem SqE.same {K:Oa} {H H':Hp} {a:Addr} {xs:List V} (h:SqE K H a xs) (e:ZA H H'):SqE K H' a xs:=by
 rcases h with h | h
 ·exact .inl (e.seq h)
 ·exact .inr (Zel e h)
def rIxE (K:Oa):R2:=fun x y H Q=>∃(p:Addr) (xs:List V) (i:Int) (v:V),x=.ref p/\y=.int i/\SqE K H p xs/\atI xs i=some v/\Q v H
theorem ix_E {X:Cx} (K:Oa) (h:X.K=K:=by rfl):IxR X (rIxE K):=by
 subst h
 intro value slice pins s σ H x y v u Q I rx ry q hs
 obtain ⟨p,xs,i,z,e1,e2,hq,e3,q⟩:=q
 rcases hq with hq | hq
 ·exact ix_list value slice pins s σ H x y v u Q I rx ry ⟨p,xs,i,z,e1,e2,hq,e3,q⟩ hs
 ·exact ZeK value slice pins s σ H x y v u Q I rx ry ⟨p,xs,i,z,e1,e2,hq,e3,q⟩ hs
theorem rd_ixE {K:Oa} {a:Addr} {l:List Nat} {n:Nat} {H:Hp} {Q:VK} (h:SqE K H a (LN l)) (q:Q (N_ (l.getD n 0)) H) (hn:n < l.length):rIxE K (.ref a) (N_ n) H Q:=
 ⟨a,LN l,n,_,rfl,rfl,h,ZdN (W9 hn),q⟩
theorem Zfz {X:Cx} {es:List Expr} {k:Nat} {t:TGs} {pos:Pos} (K:Oa) (n:Nat) (hc:X.calm=true) (h:PGs X es t) (hK:X.K=K:=by rfl) (hn:(assignEach es X.env).length=n:=by rfl) (hst:(assignEach es X.env).findIdx? (·.1)=none:=by rfl):PG X (.Tuple es k pos) (gTup K n t):=by
 subst hK
 exact pg_tup hc h hn hst
theorem Zea {K:Oa} {i j:Nat} {T:Addr} {x y:V} {σ:St} {H:Hp} {Q:St->Hp->Prop} (hT:SqT K H T [x,y]) (h:Q ((σ.set i (some x)).set j (some y)) H):gTup K 2 (gCons (JX i) (gCons (JX j) gNil)) (.ref T) σ H Q:=
 ⟨T,[x,y],rfl,hT,rfl,x,[y],rfl,y,[],rfl,rfl,h⟩
def rEnum (K:Oa) (vs:List V) (H:Hp) (R:It->Hp->Prop):Prop:=∃(a:Addr) (xs:List V),vs=[.ref a]/\SqL K H a xs/\R (Ite K a) H
theorem Zf8 {X:Cx} {e:Expr} {ta:TA} {p pos tpos:Pos} {elts:List Expr} {kk:Nat} (K:Oa) (hg:Gl X "enumerate") (hm:X.mg "enumerate"=none) (ha:PA X [e] ta) (hK:X.K=K:=by rfl) (hs:starEach [e] X.env=[(false,eval e X.env)]:=by rfl) :
 PI X (.Tuple elts kk tpos) (.Call (.Name "enumerate" p) [e] [] pos) (iEnum K ta):=by
 subst hK
 exact pi_enum hg hm ha hs
theorem rd_enum {K:Oa} {ta:TA} {σ:St} {H:Hp} {R:It->Hp->Prop} (h:ta σ H fun vs H1=>rEnum K vs H1 R):iEnum K ta σ H R:=h
theorem Zgb {K:Oa} {a:Addr} {xs:List V} {H:Hp} {R:It->Hp->Prop} (h:SqL K H a xs) (q:R (Ite K a) H):rEnum K [.ref a] H R:=⟨a,xs,rfl,h,q⟩
theorem rd_zip {K:Oa} {ta:TA} {σ:St} {H:Hp} {R:It->Hp->Prop} (h:ta σ H fun vs H1=>rZipE K vs H1 R):iZipE K ta σ H R:=h
theorem rd_zipL {K:Oa} {a b:Addr} {xs ys:List V} {H:Hp} {R:It->Hp->Prop} (h1:SqL K H a xs) (h2:SqL K H b ys) (q:R (Itz K a b) H):rZipE K [.ref a,.ref b] H R:=⟨a,b,xs,ys,rfl,h2,.inl ⟨h1,q⟩⟩
theorem rd_zipT {K:Oa} {a b:Addr} {xs ys:List V} {H:Hp} {R:It->Hp->Prop} (h1:SqT K H a xs) (h2:SqL K H b ys) (q:R (Itzt K a b) H):rZipE K [.ref a,.ref b] H R:=⟨a,b,xs,ys,rfl,h2,.inr ⟨h1,q⟩⟩
theorem for_enum {K:Oa} {a:Addr} {l:List Nat} {g:TG} {tb:TS} {D:Zah} {σ:St} {H:Hp} (Pv:Nat->St->Hp->Prop) (h0:Pv 0 σ H) (hl:∀i σ H,i<=l.length->Pv i σ H->SqL K H a (LN l))
 (hs:∀i σ H T,i < l.length->Pv i σ H->H T=none->g (.ref T) σ (upd H T (.tup [N_ i,N_ (l.getD i 0)])) fun σ2 H2=>tb { D with nx:=Pv (i + 1),ct:=Pv (i + 1),bk:=D.nx } σ2 H2) (hd:∀σ H,Pv l.length σ H->D.nx σ H) :
 ∃W:Nat->Nat->St->Hp->Prop,(∃m,W 0 m σ H)/\∀i m σ H,W i m σ H->
  ((Ite K a).stop i H/\D.nx σ H)∨((Ite K a).go i H/\∃N:St->Hp->Prop,(∀σ' H',N σ' H'->∃m',m' < m/\W (i + 1) m' σ' H')/\∀x H',(Ite K a).yld i H x H'->g x σ H' fun σ2 H2=>tb { D with nx:=N,ct:=N,bk:=D.nx } σ2 H2):=by
 refine ⟨fun i m σ H=>m=l.length - i/\i<=l.length/\Pv i σ H,⟨l.length,by simp,Ib _,h0⟩,?_⟩
 rintro i m σ H ⟨rfl,hi,p⟩
 have q:=hl i σ H hi p
 by_cases hlt:i < l.length
 ·refine .inr ⟨⟨LN l,_,q,W9 hlt⟩,Pv (i + 1),fun σ' H' p'=>⟨l.length - (i + 1),by omega,rfl,hlt,p'⟩,fun x H' hy=>?_⟩
  obtain ⟨T,x',e1,hT,e2,hx⟩:=hy
  have ex:x'=N_ (l.getD i 0):=Option.some.inj ((hx _ q).symm.trans (W9 hlt))
  subst e1 e2 ex
  exact hs i σ H T hlt p hT
 ·have e:i=l.length:=by lia
  subst e
  exact .inl ⟨⟨LN l,q,by rw [Od]; exact Oq _⟩,hd σ H p⟩
structure PairsS (H1:Hp) (J:It) (n:Nat) (x y:Nat->V):Prop where
 go:∀i H,ZA H1 H->i < n->J.go i H
 yld:∀i H v H',ZA H1 H->i < n->J.yld i H v H'->∃T,v=.ref T/\H T=none/\H'=upd H T (.tup [x i,y i])
 stop:∀i H,ZA H1 H->n<=i->J.stop i H
theorem ps_zip {K:Oa} {H1:Hp} {a b:Addr} {l m:List Nat} (hlen:l.length=m.length) (h1:SqL K H1 a (LN l)) (h2:SqL K H1 b (LN m)):PairsS H1 (Itz K a b) l.length (fun i=>N_ (l.getD i 0)) (fun i=>N_ (m.getD i 0)):=by
 refine ⟨fun i H hs hi=>⟨LN l,LN m,_,_,hs.seq h1,hs.seq h2,W9 hi,W9 (by exact qw34)⟩,fun i H v H' hs hi q=>?_,fun i H hs hi=>⟨LN l,LN m,hs.seq h1,hs.seq h2,.inl (by rw [Od]; exact hi)⟩⟩
 obtain ⟨T,x,y,e1,hT,e2,hx,hy⟩:=q
 have ex:x=N_ (l.getD i 0):=Option.some.inj ((hx _ (hs.seq h1)).symm.trans (W9 hi))
 have ey:y=N_ (m.getD i 0):=Option.some.inj ((hy _ (hs.seq h2)).symm.trans (W9 (by exact qw34)))
 subst ex ey
 exact ⟨T,e1,hT,e2⟩
theorem ps_zt {K:Oa} {H1:Hp} {a b:Addr} {l m:List Nat} (hlen:l.length=m.length) (h1:SqT K H1 a (LN l)) (h2:SqL K H1 b (LN m)):PairsS H1 (Itzt K a b) l.length (fun i=>N_ (l.getD i 0)) (fun i=>N_ (m.getD i 0)):=by
 refine ⟨fun i H hs hi=>⟨LN l,LN m,_,_,Zel hs h1,hs.seq h2,W9 hi,W9 (by exact qw34)⟩,fun i H v H' hs hi q=>?_,fun i H hs hi=>⟨LN l,Zel hs h1,by rw [Od]; exact hi⟩⟩
 obtain ⟨T,x,y,e1,hT,e2,hx,hy⟩:=q
 have ex:x=N_ (l.getD i 0):=Option.some.inj ((hx _ (Zel hs h1)).symm.trans (W9 hi))
 have ey:y=N_ (m.getD i 0):=Option.some.inj ((hy _ (hs.seq h2)).symm.trans (W9 (by exact qw34)))
 subst ex ey
 exact ⟨T,e1,hT,e2⟩
theorem wipe2 {σ:St} {i j:Nat} (h:i≠j) (x y:V):X6 (((X6 σ [i,j]).set i (some x)).set j (some y)) [i,j]=X6 σ [i,j]:=by
 show (((((σ.set j none).set i none).set i (some x)).set j (some y)).set j none).set i none=(σ.set j none).set i none
 rw [IE,IE,TB _ _ (fun e=>h e.symm),IE,TB _ _ h,IE,TB _ _ (fun e=>h e.symm)]
theorem lc_pairs {te:TE} {σ:St} {H1:Hp} {Qd:Addr->Hp->Prop} {K:Oa} {J:It} {n k1 k2:Nat} {x y:Nat->V} (hk:k1≠k2) (S:PairsS H1 J n x y) (f:Nat->V) (hn:n<=sizeLine)
 (hf:∀(j:Nat) (H:Hp) (R:VK),j < n->ZA H1 H->(∀H',ZA H H'->R (f j) H')->te (((X6 σ [k1,k2]).set k1 (some (x j))).set k2 (some (y j))) H R)
 (hq:∀(D:Addr) (H':Hp),H1 D=none->ZA H1 H'->H' D=some (.lst ((Ob n).map f))->Qd D H') :
 ∀D,H1 D=none->∃W:Nat->Nat->Hp->Prop,(∃m,W 0 m (upd H1 D (.lst [])))/\∀i m H,W i m H->
  (J.stop i H/\Qd D H)∨(J.go i H/\∃Nx:Hp->Prop,(∀H',Nx H'->∃m',m' < m/\W (i + 1) m' H')/\∀x H',J.yld i H x H'->gTup K 2 (gCons (JX k1) (gCons (JX k2) gNil)) x (X6 σ [k1,k2]) H' fun σ2 H2=>X6 σ2 [k1,k2]=X6 σ [k1,k2]/\tYes σ2 H2 fun b H3=>
   if b=true then te σ2 H3 fun y H4=>∃acc,H4 D=some (.lst acc)/\acc.length < sizeLine/\Nx (upd H4 D (.lst (acc ++ [y]))) else Nx H3):=by
 intro D hD
 refine ⟨fun i m H=>m=n - i/\i<=n/\ZA H1 H/\H D=some (.lst ((Ob i).map f)),⟨n,by simp,Ib _,Zz (Zl _) hD,Zn⟩,?_⟩
 rintro i m H ⟨rfl,hi,hS,hl⟩
 by_cases hlt:i < n
 ·refine .inr ⟨S.go i H hS hlt,fun H'=>ZA H1 H'/\H' D=some (.lst ((Ob (i + 1)).map f)),fun H' p'=>⟨n - (i + 1),by omega,rfl,hlt,p'⟩,fun v H' hy=>?_⟩
  obtain ⟨T,e1,hT,e2⟩:=S.yld i H v H' hS hlt hy
  subst e1 e2
  refine Zea (SqT.of Zn) ⟨wipe2 hk _ _,?_⟩
  unfold tYes
  refine YV ?_
  have hST:ZA H (upd H T (.tup [x i,y i])):=Zz (Zl _) hT
  refine hf i _ _ hlt (hS.trans hST) fun H4 hs=>⟨_,hs _ _ (hST _ _ hl),?_,?_,?_⟩
  ·rw [Od,OL]; exact qw2
  ·exact fun b o hb=>by
    have:b≠D:=Zu hb hD
    rw [ZN this]
    exact hs _ _ (hST _ _ (hS _ _ hb))
  ·rw [Zn,Yd,Ih]
   rfl
 ·have e:i=n:=by lia
  subst e
  exact .inl ⟨S.stop i H hS (Oq _),hq D H hD hS hl⟩
section
variable {P:Program} {w:World} {K:Oa} {mg:Str->Option Value} {base:Heap}
def spAbs (K:Oa):Sp:=fun vs H Q _=>∃(p r:Addr) (st l:List Nat),vs=[.ref p,.ref r]/\SqE K H p (LN st)/\SqL K H r (LN l)/\St5 st/\l.length=16/\Yl l/\
 ∀(H':Hp) (q:Addr),ZA H H'->H q=none->H' q=some (.lst (LN (XE st l)))->Q (.ref q) H'
def q0 (st:List Nat):Q5:=(st.getD 0 0,st.getD 1 0,st.getD 2 0,st.getD 3 0,st.getD 4 0)
theorem q0_in {st:List Nat} (h:St5 st):In5 (q0 st):=⟨h.w.at 0,h.w.at 1,h.w.at 2,h.w.at 3,h.w.at 4⟩
theorem sha_in {w:List Nat} {q:Q5} (h:In5 q) (n:Nat):In5 ((Ob n).foldl (WB w) q):=(sha_fold h n).2
def st12 (p r:Addr) (q:Q5) (v7 v8 v9 v10 v11:Option V):St:=[some (.ref p),some (.ref r),some (N_ q.1),some (N_ q.2.1),some (N_ q.2.2.1),some (N_ q.2.2.2.1),some (N_ q.2.2.2.2),v7,v8,v9,v10,v11]
theorem zip_range (l m:List Nat) (h:l.length=m.length) (g:Nat->Nat->Nat):(Ob l.length).map (fun j=>N_ (g (l.getD j 0) (m.getD j 0)))=LN (V9 g l m):=by
 apply Ui
 ·simp [h]
 ·intro i h1 h2
  simp only [Od,OL] at h1
  simp only [Uj,IT,List.getElem_zipWith]
  rw [Oe,Of h1,Oe,Of (by exact qw34)]
  rfl
theorem Yg:Zs ["state","words","a","b","c","d","e","k","word","fresh","old","new"] ["state","words"] (Zj (top 12)):=qsc
theorem c_absorbed (B:Blt mg) (X1:ZU mg "WORD_digests" 4294967295) (R:Raw K mg "absorbed" "absorbed" (top 12) ["state","words"]) (Zb5:Zh P w K mg base 1 "stretched" ["words"] (spStretch K)) (Zeq:Zh P w K mg base 1 "blended" ["k","b","c","d"] spBlend) :
 Zh P w K mg base 2 "absorbed" ["state","words"] (spAbs K):=by
 refine R.callee Yg (fun vs H Q E h=>?_) (fun f cdv A outer s H vs Q E hr h=>?_)
 ·walk_at "ln"
 obtain ⟨p,r,st,l,rfl,hp,hS,h5,hl,hw,q⟩:=h
 refine ⟨_,(Zb (Zq 2 Yg.nd (Zy (ix_E K) (pv 0) (Zi 0))) (Zb (Zq 3 Yg.nd (Zy (ix_E K) (pv 0) (Zi 1))) (Zb (Zq 4 Yg.nd (Zy (ix_E K) (pv 0) (Zi 2))) (Zb (Zq 5 Yg.nd (Zy (ix_E K) (pv 0) (Zi 3))) (Zb (Zq 6 Yg.nd (Zy (ix_E K) (pv 0) (Zi 4))) (Zb (Xx PassesOwn.never rfl (Zf8 K rfl B.enumerate (Za (Ze Zb5 hr (Za (pv 1) Zc)) Zc)) (Zfz K 2 rfl (JG (ZW 7 Yg.nd) (JG (ZW 8 Yg.nd) ZfA))) (Zb (Zq 9 Yg.nd (Zf ZZ (Zf Z7 (Zf Z7 (Zf Z7 (Zf Q9 (Zf XS (pv 2) (Zi 5)) (Zf Z4 (pv 2) (Zi 27))) (Ze Zeq hr (Za (pv 7) (Za (pv 3) (Za (pv 4) (Za (pv 5) Zc)))))) (pv 6)) (pv 8)) (ZT X1))) (Zb (Zq 6 Yg.nd (pv 5)) (Zb (Zq 5 Yg.nd (pv 4)) (Zb (Zq 4 Yg.nd (Zf ZZ (Zf Q9 (Zf XS (pv 3) (Zi 30)) (Zf Z4 (pv 3) (Zi 2))) (ZT X1))) (Zb (Zq 3 Yg.nd (pv 2)) (Zd (Zq 2 Yg.nd (pv 9))))))))) (Zd (Zk (Zbf rfl Yg.nd (pi_zipE K rfl B.zip (Za (pv 0) (Za (ZH (Za (pv 2) (Za (pv 3) (Za (pv 4) (Za (pv 5) (Za (pv 6) Zc)))))) Zc))) (Y7 (own:=[("old",10),("new",11)]) rfl) (fun _ _ _ _ _=>(Zfz K 2 rfl (JG (ZW 10 Yg.nd) (JG (ZW 11 Yg.nd) ZfA)))) (fun _ _ _ _ _=>Wc) (fun _ _ _ _ _=>(Zf ZZ (Zf Z7 (pv 10) (pv 11)) (ZT X1)))))))))))),?_⟩
 refine Zo (σ':=[some (.ref p),some (.ref r),none,none,none,none,none,none,none,none,none,none]) rfl ?_
 have hl5:=h5.len
 nofun
 ·refine ⟨r,l,rfl,hS,hl,hw,fun H1 d s1 n1 h1=>?_⟩
  nofun
  refine Zgb (SqL.of h1) ?_
  have hdl:(drawn l 64).length=80:=by rw [drawn_len,hl]
  have hdw:=(ZfT hw 64).1
  refine for_enum (K:=K) (a:=d) (l:=drawn l 64) (fun i σ H'=>∃v7 v8 v9 v10 v11,σ=st12 p r ((Ob i).foldl (WB (drawn l 64)) (q0 st)) v7 v8 v9 v10 v11/\ZA H H'/\ZA H1 H') ⟨none,none,none,none,none,rfl,s1,Zl _⟩ (fun i σ H' _ ⟨_,_,_,_,_,_,_,t2⟩=>SqL.of (t2 _ _ h1)) ?_ ?_
  ·rintro i σ H' T hi ⟨v7,v8,v9,v10,v11,rfl,s2,t2⟩ hT
   have hin:=sha_in (w:=drawn l 64) (q0_in h5) i
   have hst:(Ob (i + 1)).foldl (WB (drawn l 64)) (q0 st)=WB (drawn l 64) ((Ob i).foldl (WB (drawn l 64)) (q0 st)) i:=by
    rw [Yd,OI,Ig,IQ]
   rw [hst]
   clear hst
   generalize (Ob i).foldl (WB (drawn l 64)) (q0 st)=q5 at *
   refine Zea (SqT.of Zn) ?_
   unfold st12
   dsimp only [Iy]
   nofun
   ·refine ⟨_,_,_,_,rfl,?_⟩
    nofun
    ·exact ⟨_,_,_,_,_,rfl,Zz s2 (s2.free hT),Zz t2 (t2.free hT)⟩
    ·exact ⟨Ip hin.b (by decide),by decide⟩
   ·exact ⟨Ip hin.a (by decide),by decide⟩
  ·rintro σ H' ⟨v7,v8,v9,v10,v11,rfl,s2,t2⟩
   rw [hdl]
   have ea:XE st l=V9 (fun x y=>(x + y) &&& 4294967295) st (l5 ((Ob 80).foldl (WB (drawn l 64)) (q0 st))):=rfl
   generalize (Ob 80).foldl (WB (drawn l 64)) (q0 st)=q5 at *
   unfold st12
   nofun
   refine ⟨Zp (by simp),fun u hu=>?_⟩
   obtain ⟨H3,e3,s3,t3,k3,f3⟩:=YJ (.lst (LN (l5 q5))) s2 hu
   have e3':upd H' u (.lst [N_ q5.1,N_ q5.2.1,N_ q5.2.2.1,N_ q5.2.2.2.1,N_ q5.2.2.2.2])=H3:=e3
   rw [e3']
   nofun
   have hlen:st.length=(l5 q5).length:=hl5
   have hp3:=hp.same s3
   rcases hp3 with h3 | h3
   ·refine rd_zipL h3 (SqL.of k3) ?_
    refine lc_pairs (K:=K) (by decide) (ps_zip hlen h3 (SqL.of k3)) (fun j=>N_ ((st.getD j 0 + (l5 q5).getD j 0) &&& 4294967295)) (Zp (by lia)) ?_ ?_
    ·intro j H4 R' hj hs hR
     dsimp only [X6,Iy]
     nofun
     exact hR _ (Zl _)
    ·intro D H4 hD hs hl'
     rw [zip_range st (l5 q5) hlen fun x y=>(x + y) &&& 4294967295] at hl'
     refine q H4 D (s3.trans hs) (s3.free hD) ?_
     rw [hl',ea]
   ·refine rd_zipT h3 (SqL.of k3) ?_
    refine lc_pairs (K:=K) (by decide) (ps_zt hlen h3 (SqL.of k3)) (fun j=>N_ ((st.getD j 0 + (l5 q5).getD j 0) &&& 4294967295)) (Zp (by omega)) ?_ ?_
    ·intro j H4 R' hj hs hR
     dsimp only [X6,Iy]
     nofun
     exact hR _ (Zl _)
    ·intro D H4 hD hs hl'
     rw [zip_range st (l5 q5) hlen fun x y=>(x + y) &&& 4294967295] at hl'
     refine q H4 D (s3.trans hs) (s3.free hD) ?_
     rw [hl',ea]
 all_goals simp [*]
end
section
variable {P:Program} {w:World} {K:Oa} {mg:Str->Option Value} {base:Heap}
def spMasked:Sp:=fun vs H Q _=>∃(p:Addr) (sec:Sy23.B) (m:Nat),vs=[.ref p,N_ m]/\H p=some (.lst (LN sec))/\JC sec/\m < 256/\
 ∀(H':Hp) (q:Addr),ZA H H'->H q=none->H' q=some (.lst (LN (XH sec m)))->Q (.ref q) H'
theorem Qs:Zs ["secret","mask","filled","byte"] ["secret","mask"] (Zj (top 15)):=qsc
theorem ZfP (B:Blt mg) (hST:∃a,mg "START"=some (.ref a)/\Tab K a START) (R:Raw K mg "masked_state" "masked_state" (top 15) ["secret","mask"]) (Qu:Zh P w K mg base 2 "absorbed" ["state","words"] (spAbs K)) (ZJ:Zh P w K mg base 2 "numbers_high_first" ["row","width"] (Ze0 K)) :
 Zh P w K mg base 3 "masked_state" ["secret","mask"] spMasked:=by
 refine R.callee Qs (fun vs H Q E h=>?_) (fun f cdv A outer s H vs Q E hr h=>?_)
 ·walk_at "ln"
 obtain ⟨p,sec,m,rfl,hp,hsec,hm,q⟩:=h
 obtain ⟨aS,G_START,tS⟩:=hST
 refine ⟨_,(Zb (Zq 2 Qs.nd (Zf Xp (pv 0) (Zf ZeQ (ZH (Za (Zi 0) Zc)) (Zf Xg (Zi 64) (ZL (ZQ K) rfl B.len Ox (Za (pv 0) Zc)))))) (Zd (Zk (Ze Qu hr (Za (Ye G_START) (Za (Ze ZJ hr (Za (Zbf rfl Qs.nd (YW K (pv 2)) (Y7 (own:=[("byte",3)]) rfl) (fun _ _ _ _ _=>(ZW 3 Qs.nd)) (fun _ _ _ _ _=>Wc) (fun _ _ _ _ _=>(Zf ZK (pv 3) (pv 1)))) (Za (Zi 4) Zc))) Zc)))))),?_⟩
 refine Zo (σ':=[some (.ref p),some (N_ m),none,none]) rfl ?_
 have hle:=hsec.len
 nofun
 refine ⟨Zp (by decide),fun a1 h1=>?_⟩
 obtain ⟨H1,e1,s1,t1,k1,f1⟩:=YJ (.lst [N_ 0]) (Zl H) h1
 rw [e1]
 nofun
 refine rd_len (SqL.of (s1 _ _ hp)) ?_
 nofun
 ·refine rd_rep k1 (by omega) fun a2 h2=>?_
  obtain ⟨H2,e2,s2,t2,k2,f2⟩:=YJ (.lst (LN (Ou (64 - sec.length) 0))) s1 h2
  rw [e2]
  refine Xq (s2 _ _ hp) k2 (by simp; simp [*]) fun a3 h3=>?_
  obtain ⟨H3,e3,s3,t3,k3,f3⟩:=YJ (.lst (LN (sec ++ Ou (64 - sec.length) 0))) s2 h3
  rw [e3]
  nofun
  refine YX (SqL.of k3) ?_
  refine Js (ss_list (SqL.of k3)) (fun j=>N_ ((sec ++ Ou (64 - sec.length) 0).getD j 0 ^^^ m)) (Zp (by simp; omega)) ?_ ?_
  ·intro j H4 R' hj hs hR
   dsimp only [Iy]
   nofun
   exact hR _ (Zl _)
  ·intro D H4 hD hs hl
   rw [Zcu _ fun z=>z ^^^ m] at hl
   obtain ⟨l64,b64,-,-⟩:=WW hsec hm rfl
   have ez:(sec ++ Ou (64 - sec.length) 0).map (fun z=>z ^^^ m)=(sec ++ IZ (64 - sec.length)).map (fun x=>x ^^^ m):=rfl
   rw [ez] at hl
   nofun
   refine ⟨D,_,4,rfl,SqL.of hl,b64,by lia,by decide,by decide,by lia,fun H5 r s5 n5 h5=>?_⟩
   nofun
   have hnl:(YH 4 ((sec ++ IZ (64 - sec.length)).map (fun x=>x ^^^ m))).length=16:=by unfold YH; rw [Od,YO,l64]
   exact ⟨aS,r,START,_,rfl,.inr (tS _),SqL.of h5,st5_start,hnl,ZbU b64,fun H6 z s6 n6 h6=>q H6 z (((s3.trans hs).trans s5).trans s6) ((((s3.trans hs).trans s5)).free n6) h6⟩
 ·omega
def Zej:Sp:=fun vs H Q _=>∃(p:Addr) (sec:Sy23.B),vs=[.ref p]/\H p=some (.lst (LN sec))/\JC sec/\
 ∀(H':Hp) (q a b:Addr),ZA H H'->H' q=some (.tup [.ref a,.ref b])->H' a=some (.lst (LN (XH sec 54)))->H' b=some (.lst (LN (XH sec 92)))->Q (.ref q) H'
theorem ZeZ:Zs ["secret"] ["secret"] (Zj (top 16)):=qsc
theorem Zfn (R:Raw K mg "secret_states" "secret_states" (top 16) ["secret"]) (QZ:Zh P w K mg base 3 "masked_state" ["secret","mask"] spMasked):Zh P w K mg base 4 "secret_states" ["secret"] Zej:=by
 refine R.callee ZeZ (fun vs H Q E h=>?_) (fun f cdv A outer s H vs Q E hr h=>?_)
 ·walk_at "ln"
 obtain ⟨p,sec,rfl,hp,hsec,q⟩:=h
 refine ⟨_,(Zd (Zk (pe_tup (Za (Ze QZ hr (Za (pv 0) (Za (Zi 54) Zc))) (Za (Ze QZ hr (Za (pv 0) (Za (Zi 92) Zc))) Zc))))),?_⟩
 refine Zo (σ':=[some (.ref p)]) rfl ?_
 nofun
 refine ⟨p,sec,54,rfl,hp,hsec,by decide,fun H1 a s1 n1 h1=>?_⟩
 nofun
 refine ⟨p,sec,92,rfl,s1 _ _ hp,hsec,by decide,fun H2 b s2 n2 h2=>?_⟩
 nofun
 refine ⟨Zp (by simp),fun t ht=>?_⟩
 exact q _ t a b (Zz (s1.trans s2) ((s1.trans s2).free ht)) Zn ((ZN (Zu (s2 _ _ h1) ht)).trans (s2 _ _ h1)) ((ZN (Zu h2 ht)).trans h2)
def spDigest (K:Oa):Sp:=fun vs H Q _=>∃(p a b:Addr) (x y:List Nat) (c:Nat),vs=[.ref p,N_ c]/\H p=some (.tup [.ref a,.ref b])/\H a=some (.lst (LN x))/\H b=some (.lst (LN y))/\St5 x/\St5 y/\c < 2 ^ 64/\
 ∀(H':Hp) (q:Addr),ZA H H'->H q=none->H' q=some (.lst (LN (ZaG x y c)))->Q (.ref q) H'
theorem Ja {K:Oa} {p:Addr} {xs:List V} {n:Nat} {v:V} {H:Hp} {Q:VK} (h:H p=some (.tup xs)) (e:xs[n]?=some v) (q:Q v H):rIxT K (.ref p) (N_ n) H Q:=⟨p,xs,n,v,rfl,rfl,SqT.of h,ZdN e,q⟩
theorem ZdE {st w:List Nat} (h:St5 st) (hl:w.length=16) (hw:Yl w):St5 (XE st w):=by
 have e:YH 4 (w.flatMap (Vs 4))=w:=Zdz hw
 have:=(ZcM (b:=w.flatMap (Vs 4)) h (by rw [e]; exact hw)).2
 rwa [e] at this
theorem ZbH {l:List Nat} {n:Nat} (hl:l.length<=13) (hw:Yl l) (hn:8 * n < 2 ^ 32):(Xo l n).length=16/\Yl (Xo l n):=by
 refine ⟨by unfold Xo; simp; lia,fun x hx=>?_⟩
 unfold Xo at hx
 simp only [IG,IB,U5] at hx
 rcases hx with ((hx | rfl) | ⟨_,rfl⟩) | rfl
 ·exact hw x hx
 ·decide
 ·decide
 ·exact hn
theorem ZaK:Zs ["states","counter","inner"] ["states","counter"] (Zj (top 17)):=qsc
theorem ZeB (G_WORD:True) (R:Raw K mg "counter_digest" "counter_digest" (top 17) ["states","counter"]) (Qu:Zh P w K mg base 2 "absorbed" ["state","words"] (spAbs K)) (Qr:Zh P w K mg base 1 "closing_block" ["words","length"] spClosing) :
 Zh P w K mg base 3 "counter_digest" ["states","counter"] (spDigest K):=by
 refine R.callee ZaK (fun vs H Q E h=>?_) (fun f cdv A outer s H vs Q E hr h=>?_)
 ·walk_at "ln"
 obtain ⟨p,a,b,x,y,c,rfl,hp,ha,hb,hx,hy,hc,q⟩:=h
 refine ⟨_,(Zb (Zq 2 ZaK.nd (Ze Qu hr (Za (Zy (ZO K) (pv 0) (Zi 0)) (Za (Ze Qr hr (Za (ZH (Za (Zf Z4 (pv 1) (Zi 32)) (Za (Zf ZZ (pv 1) (Zi 4294967295)) Zc))) (Za (Zf Z7 (Zi 64) (Zi 8)) Zc))) Zc)))) (Zd (Zk (Ze Qu hr (Za (Zy (ZO K) (pv 0) (Zi 1)) (Za (Ze Qr hr (Za (pv 2) (Za (Zf Z7 (Zi 64) (Zi 20)) Zc))) Zc)))))),?_⟩
 refine Zo (σ':=[some (.ref p),some (N_ c),none]) rfl ?_
 nofun
 refine Ja hp rfl ?_
 nofun
 refine ⟨Zp (by simp),fun u hu=>?_⟩
 obtain ⟨H1,e1,s1,t1,k1,f1⟩:=YJ (.lst (LN [c / 2 ^ 32,c &&& 4294967295])) (Zl H) hu
 have e1':upd H u (.lst [N_ (c / 2 ^ 32),N_ (c &&& 4294967295)])=H1:=e1
 rw [e1']
 nofun
 refine ⟨u,_,72,rfl,k1,by simp,by decide,fun H2 d s2 n2 h2=>?_⟩
 nofun
 have w2:Yl [c / 2 ^ 32,c &&& 4294967295]:=fun z hz=>by
  simp only [ON,Uy,or_false] at hz
  rcases hz with rfl | rfl
  ·lia
  ·exact Za8 _
 obtain ⟨c1,c2⟩:=ZbH (l:=[c / 2 ^ 32,c &&& 4294967295]) (n:=72) (by simp) w2 (by decide)
 refine ⟨a,d,x,_,rfl,.inl (SqL.of (s2 _ _ (s1 _ _ ha))),SqL.of h2,hx,c1,c2,fun H3 g s3 n3 h3=>?_⟩
 have hin:=ZdE hx c1 c2
 have s13:ZA H H3:=(s1.trans s2).trans s3
 nofun
 refine Ja (s13 _ _ hp) rfl ?_
 nofun
 refine ⟨g,_,84,rfl,h3,by rw [hin.len]; decide,by decide,fun H4 j s4 n4 h4=>?_⟩
 nofun
 obtain ⟨d1,d2⟩:=ZbH (n:=84) (show (XE x (Xo [c / 2 ^ 32,c &&& 4294967295] 72)).length<=13 by rw [hin.len]; decide) hin.w (by decide)
 exact ⟨b,j,y,_,rfl,.inl (SqL.of (s4 _ _ (s13 _ _ hb))),SqL.of h4,hy,d1,d2,fun H5 z s5 n5 h5=>q H5 z ((s13.trans s4).trans s5) ((s13.trans s4).free n5) h5⟩
def spCut (K:Oa):Sp:=fun vs H Q _=>∃(p:Addr) (d:List Nat),vs=[.ref p]/\SqL K H p (LN d)/\St5 d/\Q (N_ (cutN d)) H
theorem whole_step {d:List Nat} {i:Nat} (h:i < d.length):Zaz (d.take (i + 1))=Zaz (d.take i) * 2 ^ 32 ||| d.getD i 0:=by
 unfold Zaz
 rw [Zbl h,OI,Ig,IQ]
theorem whole_lt {d:List Nat} (h:St5 d) (i:Nat):Zaz (d.take i) < 2 ^ 160:=by
 have hw:Yl (d.take i):=fun x hx=>h.w x (IK hx)
 rw [whole_eq hw]
 have h1:=WH (ZaE (d.take i))
 have h2:(256:Nat) ^ ((d.take i).flatMap (Vs 4)).length<=256 ^ 20:=Ir (by decide) (by rw [Zbp,OM,h.len]; lia)
 exact OE h1 (OD h2 (by decide))
theorem Zau:Zs ["digest","whole","word","offset"] ["digest"] (Zj (top 18)):=qsc
theorem c_cut_out (R:Raw K mg "cut_out" "cut_out" (top 18) ["digest"]):Zh P w K mg base 1 "cut_out" ["digest"] (spCut K):=by
 refine R.callee Zau (fun vs H Q E h=>?_) (fun f cdv A outer s H vs Q E hr h=>?_)
 ·walk_at "ln"
 obtain ⟨p,d,rfl,hS,h5,q⟩:=h
 refine ⟨_,(Zb (Zq 1 Zau.nd (Zi 0)) (Zb (Xx PassesOwn.never rfl (YW K (pv 0)) (ZW 2 Zau.nd) (Zd (Zq 1 Zau.nd (Zf Q9 (Zf XS (pv 1) (Zi 32)) (pv 2))))) (Zb (Zq 3 Zau.nd (Zf ZZ (pv 1) (Zi 15))) (Zd (Zk (Zf ZZ (Zf Z4 (pv 1) (Zf Q8 (Zi 8) (Zf Xg (Zi 16) (pv 3)))) (Zi 2147483647))))))),?_⟩
 refine Zo (σ':=[some (.ref p),none,none,none]) rfl ?_
 nofun
 refine YX hS ?_
 refine JD (K:=K) (a:=p) (xs:=LN d) (fun i σ H'=>H'=H/\∃v w,σ=[some (.ref p),some (N_ (Zaz (d.take i))),v,w]) ⟨rfl,none,none,rfl⟩ (fun i σ H' _ ⟨e,_⟩=>e ▸ hS) ?_ ?_
 ·rintro i y σ H' hi ⟨rfl,v,w,rfl⟩
  obtain ⟨hi',rfl⟩:=ZcK hi
  nofun
  ·rw [whole_step hi']
   exact ⟨rfl,_,_,rfl⟩
  ·exact ⟨Ip (whole_lt h5 i) (by decide),by decide⟩
 ·rintro σ H' ⟨rfl,v,w,rfl⟩
  rw [Od,IL]
  nofun
  ·exact q
  ·decide
  ·have:Zaz d &&& 15=Zaz d % 16:=O1 _ 4
   rw [this]
   lia
def spCode (K:Oa):Sp:=fun vs H Q _=>∃(p a b:Addr) (x y:List Nat) (c n:Nat),vs=[.ref p,N_ c,N_ n]/\H p=some (.tup [.ref a,.ref b])/\H a=some (.lst (LN x))/\H b=some (.lst (LN y))/\St5 x/\St5 y/\c < 2 ^ 64/\1<=n/\n<=9/\
 ∀(H':Hp) (q:Addr),ZA H H'->H q=none->H' q=some (.lst (LN (codeN x y c n)))->Q (.ref q) H'
theorem st5_digest {x y:List Nat} {c:Nat} (hx:St5 x) (hy:St5 y) (hc:c < 2 ^ 64):St5 (ZaG x y c):=by
 have w2:Yl [c / 2 ^ 32,c &&& 4294967295]:=fun z hz=>by
  simp only [ON,Uy,or_false] at hz
  rcases hz with rfl | rfl
  ·omega
  ·exact Za8 _
 obtain ⟨c1,c2⟩:=ZbH (l:=[c / 2 ^ 32,c &&& 4294967295]) (n:=72) (by simp) w2 (by decide)
 have hin:=ZdE hx c1 c2
 obtain ⟨d1,d2⟩:=ZbH (n:=84) (show (XE x (Xo [c / 2 ^ 32,c &&& 4294967295] 72)).length<=13 by rw [hin.len]; decide) hin.w (by decide)
 exact ZdE hy d1 d2
theorem ZbP:Zs ["states","counter","digits","number","k"] ["states","counter","digits"] (Zj (top 19)):=qsc
theorem c_code_of (B:Blt mg) (R:Raw K mg "code_of" "code_of" (top 19) ["states","counter","digits"]) (Zer:Zh P w K mg base 1 "cut_out" ["digest"] (spCut K)) (Jk:Zh P w K mg base 3 "counter_digest" ["states","counter"] (spDigest K)) (YA:Zh P w K mg base 1 "power_of_ten" ["exponent"] spPow) :
 Zh P w K mg base 4 "code_of" ["states","counter","digits"] (spCode K):=by
 refine R.callee ZbP (fun vs H Q E h=>?_) (fun f cdv A outer s H vs Q E hr h=>?_)
 ·walk_at "ln"
 obtain ⟨p,a,b,x,y,c,n,rfl,hp,ha,hb,hx,hy,hc,hn1,hn9,q⟩:=h
 refine ⟨_,(Zb (Zq 3 ZbP.nd (Ze Zer hr (Za (Ze Jk hr (Za (pv 0) (Za (pv 1) Zc))) Zc))) (Zd (Zk (Zbf rfl ZbP.nd (Jt rfl B.range (Za (Zf Xg (pv 2) (Zi 1)) (Za (Zcr Zax JU) (Za (Zcr Zax JU) Zc)))) (Y7 (own:=[("k",4)]) rfl) (fun _ _ _ _ _=>(ZW 4 ZbP.nd)) (fun _ _ _ _ _=>Wc) (fun _ _ _ _ _=>(Zf Z7 (Zi 48) (Zf ZeP (Zf ZeO (pv 3) (Ze YA hr (Za (pv 4) Zc))) (Zi 10)))))))),?_⟩
 refine Zo (σ':=[some (.ref p),some (N_ c),some (N_ n),none,none]) rfl ?_
 nofun
 refine ⟨p,a,b,x,y,c,rfl,hp,ha,hb,hx,hy,hc,fun H1 d s1 n1 h1=>?_⟩
 nofun
 refine ⟨d,_,rfl,SqL.of h1,st5_digest hx hy hc,?_⟩
 nofun
 ·have e:((n - 1:Nat):Int)=(n:Int) - 1:=by lia
  refine ⟨_,_,_,n,rfl,e ▸ ZfB (n:=n) (by exact ZbO),e ▸ ZcU (st_down n) (fun i=>N_ (48 + cutN (ZaG x y c) / 10 ^ (n - 1 - i) % 10)) (Zp (by exact ZbN)) ?_ ?_⟩
  ·intro j H2 R' hj hs hR
   dsimp only [Iy]
   nofun
   refine ⟨_,rfl,by omega,fun H3 s3=>?_⟩
   nofun
   ·exact hR _ s3
   ·decide
   ·exact ⟨Ul (by decide),IV (Ir (by decide) (show n - 1 - j<=8 by omega)) (by decide)⟩
  ·intro D H2 hD hs hl
   refine q H2 D (s1.trans hs) (s1.free hD) ?_
   rw [hl]
   unfold codeN LN
   rw [O8]
   rfl
 ·omega
end
def tMMD (r:List V->List V->Hp->VK->Prop) (ta tk:TA):TE:=fun σ H Q=>ta σ H fun vs H1=>tk σ H1 fun ds H2=>r vs ds H2 Q
def rMinD (K:Oa) (vs ds:List V) (H:Hp) (Q:VK):Prop:=∃(a:Addr) (l:List Nat),vs=[.ref a]/\ds=[N_ 0]/\SqL K H a (LN l)/\∀m:Nat,Q (N_ m) H
def rMaxD (K:Oa) (vs ds:List V) (H:Hp) (Q:VK):Prop:=∃(a:Addr) (l:List Nat),vs=[.ref a]/\ds=[N_ 0]/\SqL K H a (LN l)/\∀m:Nat,m=0∨m∈l->Q (N_ m) H
theorem ZcJ (l:List Nat):LN l=(l.map fun n:Nat=>(n:Int)).map V.int:=by rw [O8]; rfl
theorem ZcV {l:List Nat} {M:Int} (h:M∈l.map fun n:Nat=>(n:Int)):∃n:Nat,n∈l/\(n:Int)=M:=OK.mp h
section
variable {X:Cx} {e d:Expr} {p pos kpos:Pos} {ta tk:TA}
theorem pe_minD (K:Oa) (hg:Gl X "min") (hm:X.mg "min"=none) (hc:X.calm=true) (ha:PA X [e] ta) (hk:PK X [⟨some "default",d,kpos⟩] tk) (hK:X.K=K:=by rfl)
 (he:backTo pos (starEach [e] X.env)=(false,eval e X.env) :: backTo pos (starEach [] X.env):=by rfl) (hpl:(backTo pos (starEach [e] X.env)).any (·.1)=false:=by rfl):PE X (.Call (.Name "min" p) [e] [⟨some "default",d,kpos⟩] pos) (tMMD (rMinD K) ta tk):=by
 subst hK
 intro pins s σ H Q I h
 refine wpAny_Call_Name_kw (QF I hg hm boot_min ?_)
 refine PyProof.Rows.callWith_kw (thn (ha pos pins s σ H _ I h) fun us s1 ⟨vs,H1,I1,r1,q1⟩=>thn (hk pos pins s1 σ H1 _ I1 q1) fun ws s2 ⟨ds,H2,I2,r2,q2⟩=>?_) he hpl
 obtain ⟨a,l,rfl,rfl,hS,q⟩:=q2
 obtain ⟨u,rfl,rx⟩:=Zep r1
 obtain ⟨u2,rfl,rx2⟩:=Zep r2
 cases rx
 obtain ⟨t2,rfl⟩:=rx2
 obtain ⟨its,rv,hl,_⟩:=I2.list hS
 rw [ZcJ] at rv
 refine mind_raw (I.ok.hd hc) hl.isList rv.ints (fun _ h' tk hk=>⟨N_ 0,H2,I2.kept hk,⟨_,rfl⟩,q 0⟩) fun h' tk M t' hk hM _=>?_
 obtain ⟨n,_,rfl⟩:=ZcV hM
 exact ⟨N_ n,H2,I2.kept hk,⟨_,rfl⟩,q n⟩
theorem pe_maxD (K:Oa) (hg:Gl X "max") (hm:X.mg "max"=none) (hc:X.calm=true) (ha:PA X [e] ta) (hk:PK X [⟨some "default",d,kpos⟩] tk) (hK:X.K=K:=by rfl)
 (he:backTo pos (starEach [e] X.env)=(false,eval e X.env) :: backTo pos (starEach [] X.env):=by rfl) (hpl:(backTo pos (starEach [e] X.env)).any (·.1)=false:=by rfl):PE X (.Call (.Name "max" p) [e] [⟨some "default",d,kpos⟩] pos) (tMMD (rMaxD K) ta tk):=by
 subst hK
 intro pins s σ H Q I h
 refine wpAny_Call_Name_kw (QF I hg hm boot_max ?_)
 refine PyProof.Rows.callWith_kw (thn (ha pos pins s σ H _ I h) fun us s1 ⟨vs,H1,I1,r1,q1⟩=>thn (hk pos pins s1 σ H1 _ I1 q1) fun ws s2 ⟨ds,H2,I2,r2,q2⟩=>?_) he hpl
 obtain ⟨a,l,rfl,rfl,hS,q⟩:=q2
 obtain ⟨u,rfl,rx⟩:=Zep r1
 obtain ⟨u2,rfl,rx2⟩:=Zep r2
 cases rx
 obtain ⟨t2,rfl⟩:=rx2
 obtain ⟨its,rv,hl,_⟩:=I2.list hS
 rw [ZcJ] at rv
 refine maxd_raw (I.ok.hd hc) hl.isList rv.ints (fun _ h' tk hk=>⟨N_ 0,H2,I2.kept hk,⟨_,rfl⟩,q 0 (.inl rfl)⟩) fun h' tk M t' hk hM _=>?_
 obtain ⟨n,hn,rfl⟩:=ZcV hM
 exact ⟨N_ n,H2,I2.kept hk,⟨_,rfl⟩,q n (.inr hn)⟩
end
def rMin1 (K:Oa) (vs:List V) (H:Hp) (Q:VK):Prop:=∃(a:Addr) (l:List Nat),vs=[.ref a]/\SqL K H a (LN l)/\0 < l.length/\∀m:Nat,m∈l->(∀x,x∈l->m<=x)->Q (N_ m) H
def rMax1 (K:Oa) (vs:List V) (H:Hp) (Q:VK):Prop:=∃(a:Addr) (l:List Nat),vs=[.ref a]/\SqL K H a (LN l)/\0 < l.length/\∀m:Nat,m∈l->(∀x,x∈l->x<=m)->Q (N_ m) H
theorem call_min1 {X:Cx} (K:Oa) (hc:X.calm=true) (h:X.K=K:=by rfl):WZ X (.builtin "min") (rMin1 K):=by
 subst h
 refine Jq (cr_min hc) fun xs H Q ⟨a,l,h1,h2,h3,q⟩=>⟨a,l.map fun n:Nat=>(n:Int),h1,ZcJ l ▸ h2,by rw [Od]; exact h3,fun m hm hle=>?_⟩
 obtain ⟨n,hn,rfl⟩:=ZcV hm
 exact q n hn fun x hx=>V3.mp (hle _ (OK.mpr ⟨x,hx,rfl⟩))
theorem call_max1 {X:Cx} (K:Oa) (hc:X.calm=true) (h:X.K=K:=by rfl):WZ X (.builtin "max") (rMax1 K):=by
 subst h
 refine Jq (cr_max hc) fun xs H Q ⟨a,l,h1,h2,h3,q⟩=>⟨a,l.map fun n:Nat=>(n:Int),h1,ZcJ l ▸ h2,by rw [Od]; exact h3,fun m hm hle=>?_⟩
 obtain ⟨n,hn,rfl⟩:=ZcV hm
 exact q n hn fun x hx=>V3.mp (hle _ (OK.mpr ⟨x,hx,rfl⟩))
def rInN (x y:V) (H:Hp) (Q:VK):Prop:=∃(n:Nat) (p:Addr) (l:List Nat),x=N_ n/\y=.ref p/\H p=some (.tup (LN l))/\Q (.bl (decide (n∈l))) H
theorem inV_nat (n:Nat) (l:List Nat):inV (N_ n) (LN l)=decide (n∈l):=by
 unfold inV
 rw [List.any_map,OU,V5,decide_eq_true_eq]
 constructor
 ·rintro ⟨x,hx,e⟩
  have e':((x:Int) == (n:Int))=true:=e
  have:=eq_of_beq e'
  have:x=n:=by lia
  rw [<- this]; exact hx
 ·intro h
  exact ⟨n,h,(beq_self_eq_true (n:Int):((n:Int) == (n:Int))=true)⟩
theorem op_inK {X:Cx} (K:Oa) (h:X.K=K:=by rfl):OpR X (compareOp .In) rInN:=by
 subst h
 refine ZdA op_in_seq fun x y H Q ⟨n,p,l,h1,h2,h3,q⟩=>⟨p,LN l,h2,.inr (SqT.of h3),by rw [h1]; rfl,?_,?_⟩
 ·rw [Iw]
  intro v hv
  obtain ⟨z,_,rfl⟩:=OK.mp hv
  rfl
 ·rw [h1,if_neg (by decide),inV_nat]
  exact q
theorem rd_mmd {r:List V->List V->Hp->VK->Prop} {ta tk:TA} {σ:St} {H:Hp} {Q:VK} (h:ta σ H fun vs H1=>tk σ H1 fun ds H2=>r vs ds H2 Q):tMMD r ta tk σ H Q:=h
theorem rd_andV {ta tb:TE} {σ:St} {H:Hp} {Q:VK} (h:ta σ H fun x H1=>rTest x H1 fun c H1=>if c=true then tb σ H1 Q else Q (.bl false) H1):tAndV ta tb σ H Q:=h
theorem rd_isN {t:TE} {σ:St} {H:Hp} {Q:VK} (h:t σ H fun x H1=>Q (.bl (decide (x=.non))) H1):tIsN t σ H Q:=h
theorem rd_inN {n:Nat} {p:Addr} {l:List Nat} {H:Hp} {Q:VK} (h:H p=some (.tup (LN l))) (q:Q (.bl (decide (n∈l))) H):rInN (N_ n) (.ref p) H Q:=⟨n,p,l,rfl,rfl,h,q⟩
def Xv (mg:Str->Option Value) (x:Str) (i:Int):Prop:=∃t,mg x=some (.int i t)
theorem YM {X:Cx} {x:Str} {i:Int} {pos:Pos} (h:Xv X.mg x i) (hg:Gl X x:=by rfl) (hd:(x == ("__debug__":Str))=false:=by decide):PE X (.Name x pos) (tC (.int i)):=by
 obtain ⟨t,h⟩:=h
 exact pe_glob hg h ⟨t,rfl⟩ hd
section
variable {P:Program} {w:World} {K:Oa} {mg:Str->Option Value} {base:Heap}
def WL:Sp:=fun vs H Q _=>∃n a b:Nat,vs=[N_ n,N_ a,N_ b]/\Q (.bl (decide (a<=n/\n<=b))) H
theorem sc_is_within:Zs ["number","least","last"] ["number","least","last"] (Zj (top 43)):=qsc
theorem c_is_within (R:Raw K mg "is_within" "is_within" (top 43) ["number","least","last"]):Zh P w K mg base 1 "is_within" ["number","least","last"] WL:=by
 refine R.callee sc_is_within (fun vs H Q E h=>?_) (fun f cdv A outer s H vs Q E hr h=>?_)
 ·walk_at "ln"
 obtain ⟨n,a,b,rfl,q⟩:=h
 refine ⟨_,(Zd (Zk (Zd7 JY JY (pv 1) (pv 0) (pv 2)))),?_⟩
 refine Zo (σ':=[some (N_ n),some (N_ a),some (N_ b)]) rfl ?_
 nofun
 refine dif (fun h1=>?_) (fun h1=>?_)
 ·nofun
  have e:decide (n<=b)=decide (a<=n/\n<=b):=decide_eq_decide.mpr ⟨fun h=>⟨h1,h⟩,fun h=>h.2⟩
  rw [e]
  exact q
 ·rw [decide_eq_false (fun h=>h1 h.1)] at q
  exact q
def QX (K:Oa):Sp:=fun vs H Q _=>∃(p:Addr) (l:Sy23.B) (a b:Nat),vs=[.ref p,N_ a,N_ b]/\SqL K H p (LN l)/\Ol l/\Q (.bl (decide (a<=l.length/\l.length<=b))) H
theorem sc_are_bytes:Zs ["row","least","last"] ["row","least","last"] (Zj (top 44)):=qsc
theorem c_are_bytes (B:Blt mg) (R:Raw K mg "are_bytes" "are_bytes" (top 44) ["row","least","last"]):Zh P w K mg base 1 "are_bytes" ["row","least","last"] (QX K):=by
 refine R.callee sc_are_bytes (fun vs H Q E h=>?_) (fun f cdv A outer s H vs Q E hr h=>?_)
 ·walk_at "ln"
 obtain ⟨p,l,a,b,rfl,hS,hB,q⟩:=h
 refine ⟨_,(Zd (Zk (JT (Zd7 JY JY (pv 1) (ZL (ZQ K) rfl B.len Ox (Za (pv 0) Zc)) (pv 2)) (JT (Wy on_ge (pe_minD K rfl B.min rfl (Za (pv 0) Zc) (pk_cons (Zi 0) pk_nil)) (Zi 0) (ZR _)) (ZbL (Wy JY (pe_maxD K rfl B.max rfl (Za (pv 0) Zc) (pk_cons (Zi 0) pk_nil)) (Zi 255) (ZR _))))))),?_⟩
 refine Zo (σ':=[some (.ref p),some (N_ a),some (N_ b)]) rfl ?_
 nofun
 refine dif (fun h1=>?_) (fun h1=>?_)
 ·nofun
  refine dif (fun h2=>?_) (fun h2=>?_)
  ·nofun
   refine ⟨p,l,rfl,rfl,hS,fun m=>?_⟩
   nofun
   rw [decide_eq_true (Ib m),if_pos rfl]
   nofun
   refine ⟨p,l,rfl,rfl,hS,fun m' hm=>?_⟩
   nofun
   have h255:m'<=255:=by
    rcases hm with rfl | hm
    ·decide
    ·have:=hB _ hm; lia
   rw [decide_eq_true ⟨h1,h2⟩] at q
   rw [decide_eq_true h255]
   exact q
  ·rw [decide_eq_false (fun h=>h2 h.2)] at q
   exact q
 ·nofun
  rw [if_neg Oo]
  rw [decide_eq_false (fun h=>h1 h.1)] at q
  exact q
def XR (n:Nat):Bool:=decide (n=16∨n=24∨n=32)
def ZaL (K:Oa):Sp:=fun vs H Q _=>∃(p:Addr) (l:Sy23.B),vs=[.ref p]/\SqL K H p (LN l)/\Ol l/\∀H',ZA H H'->Q (.bl (XR l.length)) H'
theorem sc_is_key:Zs ["row"] ["row"] (Zj (top 46)):=qsc
theorem c_is_key (B:Blt mg) (R:Raw K mg "is_key" "is_key" (top 46) ["row"]) (Z2:Zh P w K mg base 1 "are_bytes" ["row","least","last"] (QX K)):Zh P w K mg base 2 "is_key" ["row"] (ZaL K):=by
 refine R.callee sc_is_key (fun vs H Q E h=>?_) (fun f cdv A outer s H vs Q E hr h=>?_)
 ·walk_at "ln"
 obtain ⟨p,l,rfl,hS,hB,q⟩:=h
 refine ⟨_,(Zd (Zk (JT (Wy (op_inK K) (ZL (ZQ K) rfl B.len Ox (Za (pv 0) Zc)) (pe_tup (Za (Zi 16) (Za (Zi 24) (Za (Zi 32) Zc)))) rfl) (ZbL (Ze Z2 hr (Za (pv 0) (Za (Zi 16) (Za (Zi 32) Zc)))))))),?_⟩
 refine Zo (σ':=[some (.ref p)]) rfl ?_
 nofun
 refine ⟨Zp (by simp),fun u hu=>?_⟩
 have s1:ZA H (upd H u (.tup [N_ 16,N_ 24,N_ 32])):=Zz (Zl _) hu
 refine rd_inN (l:=[16,24,32]) Zn ?_
 nofun
 have em:(l.length∈[16,24,32])=(l.length=16∨l.length=24∨l.length=32):=by simp
 unfold XR at q
 refine dif (fun h1=>?_) (fun h1=>?_)
 ·nofun
  rw [em] at h1
  refine ⟨p,l,16,32,rfl,s1.seq hS,hB,?_⟩
  rw [decide_eq_true (show 16<=l.length/\l.length<=32 by lia)]
  have:=q _ s1
  rwa [decide_eq_true h1] at this
 ·rw [em] at h1
  have:=q _ s1
  rwa [decide_eq_false h1] at this
def ZbR (K:Oa):Sp:=fun vs H Q _=>∃(p:Addr) (l:Sy23.B),vs=[.ref p]/\SqL K H p (LN l)/\Ol l/\Q (.bl (decide (16<=l.length/\l.length<=64))) H
theorem sc_is_secret:Zs ["row"] ["row"] (Zj (top 47)):=qsc
theorem c_is_secret (R:Raw K mg "is_secret" "is_secret" (top 47) ["row"]) (Z2:Zh P w K mg base 1 "are_bytes" ["row","least","last"] (QX K)):Zh P w K mg base 2 "is_secret" ["row"] (ZbR K):=by
 refine R.callee sc_is_secret (fun vs H Q E h=>?_) (fun f cdv A outer s H vs Q E hr h=>?_)
 ·walk_at "ln"
 obtain ⟨p,l,rfl,hS,hB,q⟩:=h
 refine ⟨_,(Zd (Zk (Ze Z2 hr (Za (pv 0) (Za (Zi 16) (Za (Zi 64) Zc)))))),?_⟩
 refine Zo (σ':=[some (.ref p)]) rfl ?_
 nofun
 exact ⟨p,l,16,64,rfl,hS,hB,q⟩
def QY (a b:Nat):Sp:=fun vs H Q _=>∃n:Nat,vs=[N_ n]/\Q (.bl (decide (a<=n/\n<=b))) H
theorem ZgZ:Zs ["digits"] ["digits"] (Zj (top 48)):=qsc
theorem c_are_digits (R:Raw K mg "are_digits" "are_digits" (top 48) ["digits"]) (ZI:Zh P w K mg base 1 "is_within" ["number","least","last"] WL):Zh P w K mg base 2 "are_digits" ["digits"] (QY 6 8):=by
 refine R.callee ZgZ (fun vs H Q E h=>?_) (fun f cdv A outer s H vs Q E hr h=>?_)
 ·walk_at "ln"
 obtain ⟨n,rfl,q⟩:=h
 refine ⟨_,(Zd (Zk (Ze ZI hr (Za (pv 0) (Za (Zi 6) (Za (Zi 8) Zc)))))),?_⟩
 refine Zo (σ':=[some (N_ n)]) rfl ?_
 nofun
 exact ⟨n,6,8,rfl,q⟩
theorem sc_is_place:Zs ["place"] ["place"] (Zj (top 52)):=qsc
theorem c_is_place (Zaj:ZU mg "PLACES" 64) (R:Raw K mg "is_place" "is_place" (top 52) ["place"]) (ZI:Zh P w K mg base 1 "is_within" ["number","least","last"] WL):Zh P w K mg base 2 "is_place" ["place"] (QY 0 63):=by
 refine R.callee sc_is_place (fun vs H Q E h=>?_) (fun f cdv A outer s H vs Q E hr h=>?_)
 ·walk_at "ln"
 obtain ⟨n,rfl,q⟩:=h
 refine ⟨_,(Zd (Zk (Ze ZI hr (Za (pv 0) (Za (Zi 0) (Za (Zf Xg (ZT Zaj) (Zi 1)) Zc)))))),?_⟩
 refine Zo (σ':=[some (N_ n)]) rfl ?_
 nofun
 ·exact ⟨n,0,63,rfl,q⟩
 ·decide
theorem sc_is_time:Zs ["now"] ["now"] (Zj (top 53)):=qsc
theorem c_is_time (ZaC:ZU mg "LAST_TIME" (2 ^ 40)) (R:Raw K mg "is_time" "is_time" (top 53) ["now"]) (ZI:Zh P w K mg base 1 "is_within" ["number","least","last"] WL):Zh P w K mg base 2 "is_time" ["now"] (QY 0 (2 ^ 40)):=by
 refine R.callee sc_is_time (fun vs H Q E h=>?_) (fun f cdv A outer s H vs Q E hr h=>?_)
 ·walk_at "ln"
 obtain ⟨n,rfl,q⟩:=h
 refine ⟨_,(Zd (Zk (Ze ZI hr (Za (pv 0) (Za (Zi 0) (Za (ZT ZaC) Zc)))))),?_⟩
 refine Zo (σ':=[some (N_ n)]) rfl ?_
 nofun
 exact ⟨n,0,2 ^ 40,rfl,q⟩
def Zgr (K:Oa):Sp:=fun vs H Q _=>∃(p:Addr) (l:Sy23.B) (a b:Nat),vs=[.ref p,N_ a,N_ b]/\SqL K H p (LN l)/\Ol l/\Q (.bl (decide (l.length % 8=0/\a<=l.length/\l.length<=b))) H
theorem Zg0:Zs ["row","least","last"] ["row","least","last"] (Zj (top 45)):=qsc
theorem c_are_eights (B:Blt mg) (R:Raw K mg "are_eights" "are_eights" (top 45) ["row","least","last"]) (Z2:Zh P w K mg base 1 "are_bytes" ["row","least","last"] (QX K)):Zh P w K mg base 2 "are_eights" ["row","least","last"] (Zgr K):=by
 refine R.callee Zg0 (fun vs H Q E h=>?_) (fun f cdv A outer s H vs Q E hr h=>?_)
 ·walk_at "ln"
 obtain ⟨p,l,a,b,rfl,hS,hB,q⟩:=h
 refine ⟨_,(Zd (Zk (JT (Wy XW (Zf ZeP (ZL (ZQ K) rfl B.len Ox (Za (pv 0) Zc)) (Zi 8)) (Zi 0) (ZR _)) (ZbL (Ze Z2 hr (Za (pv 0) (Za (pv 1) (Za (pv 2) Zc)))))))),?_⟩
 refine Zo (σ':=[some (.ref p),some (N_ a),some (N_ b)]) rfl ?_
 nofun
 ·refine dif (fun h1=>?_) (fun h1=>?_)
  ·nofun
   refine ⟨p,l,a,b,rfl,hS,hB,?_⟩
   have e:decide (l.length % 8=0/\a<=l.length/\l.length<=b)=decide (a<=l.length/\l.length<=b):=decide_eq_decide.mpr ⟨fun h=>h.2,fun h=>⟨h1,h⟩⟩
   rw [e] at q
   exact q
  ·rw [decide_eq_false (fun h=>h1 h.1)] at q
   exact q
 ·decide
def codeOk (l:Sy23.B):Bool:=decide ((6<=l.length/\l.length<=8)/\∀x,x∈l->48<=x/\x<=57)
def spIsCode (K:Oa):Sp:=fun vs H Q _=>∃(p:Addr) (l:Sy23.B),vs=[.ref p]/\SqL K H p (LN l)/\Q (.bl (codeOk l)) H
def ZbQ (K:Oa):Sp:=fun vs H Q _=>∃(p:Addr) (l:Sy23.B),vs=[.ref p]/\SqL K H p (LN l)/\0 < l.length/\Q (.bl (decide (∀x,x∈l->48<=x/\x<=57))) H
theorem ZdD:Zs ["row"] ["row"] (Zj (top 49)):=qsc
theorem ZdO (B:Blt mg) (R:Raw K mg "are_digit_bytes" "are_digit_bytes" (top 49) ["row"]):Zh P w K mg base 1 "are_digit_bytes" ["row"] (ZbQ K):=by
 refine R.callee ZdD (fun vs H Q E h=>?_) (fun f cdv A outer s H vs Q E hr h=>?_)
 ·walk_at "ln"
 obtain ⟨p,l,rfl,hS,hl,q⟩:=h
 refine ⟨_,(Zd (Zk (JT (Wy on_ge (ZL (call_min1 K rfl) rfl B.min boot_min (Za (pv 0) Zc)) (Zi 48) (ZR _)) (ZbL (Wy JY (ZL (call_max1 K rfl) rfl B.max boot_max (Za (pv 0) Zc)) (Zi 57) (ZR _)))))),?_⟩
 refine Zo (σ':=[some (.ref p)]) rfl ?_
 nofun
 refine ⟨p,l,rfl,hS,hl,fun m hm hle=>?_⟩
 nofun
 refine dif (fun h2=>?_) (fun h2=>?_)
 ·nofun
  refine ⟨p,l,rfl,hS,hl,fun m' hm' hge=>?_⟩
  nofun
  have e:decide (m'<=57)=decide (∀x,x∈l->48<=x/\x<=57):=
   decide_eq_decide.mpr ⟨fun h x hx=>⟨OD h2 (hle x hx),OD (hge x hx) h⟩,fun h=>(h m' hm').2⟩
  rw [e]
  exact q
 ·rw [decide_eq_false (fun h=>h2 (h m hm).1)] at q
  exact q
theorem sc_is_code:Zs ["row"] ["row"] (Zj (top 50)):=qsc
theorem c_is_code (B:Blt mg) (R:Raw K mg "is_code" "is_code" (top 50) ["row"]) (Yi:Zh P w K mg base 2 "are_digits" ["digits"] (QY 6 8)) (Y9:Zh P w K mg base 1 "are_digit_bytes" ["row"] (ZbQ K)):Zh P w K mg base 3 "is_code" ["row"] (spIsCode K):=by
 refine R.callee sc_is_code (fun vs H Q E h=>?_) (fun f cdv A outer s H vs Q E hr h=>?_)
 ·walk_at "ln"
 obtain ⟨p,l,rfl,hS,q⟩:=h
 refine ⟨_,(Zd (Zk (JT (Ze Yi hr (Za (ZL (ZQ K) rfl B.len Ox (Za (pv 0) Zc)) Zc)) (ZbL (Ze Y9 hr (Za (pv 0) Zc)))))),?_⟩
 refine Zo (σ':=[some (.ref p)]) rfl ?_
 unfold codeOk at q
 nofun
 refine ⟨l.length,rfl,?_⟩
 nofun
 refine dif (fun h1=>?_) (fun h1=>?_)
 ·nofun
  refine ⟨p,l,rfl,hS,by lia,?_⟩
  rw [decide_eq_decide.mpr ⟨fun h=>⟨h1,h⟩,fun h:(6<=l.length/\l.length<=8)/\∀x,x∈l->48<=x/\x<=57=>h.2⟩]
  exact q
 ·rw [decide_eq_false (fun h=>h1 h.1)] at q
  exact q
end
abbrev LI (l:List Int):List V:=l.map V.int
def ansI (a:Vq):List Int:=a.v :: (if a.v < 0 then [] else a.out.map fun x:Nat=>(x:Int))
theorem ZeA {z:Int} (h:z < 0):ansI (II z)=[z]:=by
 unfold ansI II
 simp only [if_pos h]
theorem Q2 (n:Nat) (out:List Nat):LI (ansI { v:=(n:Int),out:=out })=LN (n :: out):=by
 unfold ansI LI LN
 have:¬ ((n:Int) < 0):=by simp
 simp only [if_neg this,Ie,O8]
 rfl
theorem XQ (n a b:Nat):UZ (n:Int) a b=decide (a<=n/\n<=b):=by
 unfold UZ
 rw [OU]
 simp only [Oj,decide_eq_true_eq]
 simp
theorem QR (n:Nat):Sy23.keyOk (n:Int)=XR n:=by
 unfold Sy23.keyOk XR
 rw [OU]
 simp only [Te,decide_eq_true_eq]
 lia
theorem ZfU (n a b:Nat):Sy23.eights (n:Int) a b=decide (n % 8=0/\a<=n/\n<=b):=by
 unfold Sy23.eights
 rw [XQ,OU]
 simp only [Oj,decide_eq_true_eq]
 omega
theorem JE {l:Sy23.B} (hb:Ol l) (h:XR l.length=true):YU l:=⟨of_decide_eq_true h,hb⟩
section
variable {P:Program} {w:World} {K:Oa} {mg:Str->Option Value} {base:Heap}
def Out (H:Hp) (Q:VK) (a:Vq):Prop:=∀(H':Hp) (q:Addr),ZA H H'->H q=none->H' q=some (.lst (LI (ansI a)))->Q (.ref q) H'
theorem Out.refuse {H H1:Hp} {Q:VK} {z:Int} (h:Out H Q (II z)) (hz:z < 0) (s:ZA H H1) {p:Addr} (hp:H1 p=none):Q (.ref p) (upd H1 p (.lst [.int z])):=by
 refine h _ p (Zz s (s.free hp)) (s.free hp) ?_
 rw [Zn,ZeA hz]
 rfl
def spAnsCode (K:Oa):Sp:=fun vs H Q _=>∃(d c:Nat) (p:Addr) (sec:Sy23.B),vs=[N_ d,N_ c,.ref p]/\H p=some (.lst (LN sec))/\Ol sec/\c < 2 ^ 64/\Out H Q (O9 none (.code (sec.length:Nat) sec c (d:Nat))).1
theorem Zgc:Zs ["digits","counter","secret"] ["digits","counter","secret"] (Zj (top 120)):=qsc
theorem ZgH (B:Blt mg) (ZdJ:ZU mg "LAST_WHOLE" 18446744073709551615) (Zw:Xv mg "OUT_OF_RANGE" (-2)) (R:Raw K mg "answer_code" "answer_code" (top 120) ["digits","counter","secret"]) (Yi:Zh P w K mg base 2 "are_digits" ["digits"] (QY 6 8))
 (ZI:Zh P w K mg base 1 "is_within" ["number","least","last"] WL) (XA:Zh P w K mg base 2 "is_secret" ["row"] (ZbR K)) (Wf:Zh P w K mg base 4 "code_of" ["states","counter","digits"] (spCode K)) (YC:Zh P w K mg base 4 "secret_states" ["secret"] Zej) :
 Zh P w K mg base 5 "answer_code" ["digits","counter","secret"] (spAnsCode K):=by
 refine R.callee Zgc (fun vs H Q E h=>?_) (fun f cdv A outer s H vs Q E hr h=>?_)
 ·walk_at "ln"
 obtain ⟨d,c,p,sec,rfl,hp,hB,hc,q⟩:=h
 refine ⟨_,(Zb (ZM (Y8 (PW.pt (Xd (Z0 (Ze Yi hr (Za (pv 0) Zc))) (Xd (Z0 (Ze ZI hr (Za (pv 1) (Za (Zi 0) (Za (ZT ZdJ) Zc))))) (XI (Z0 (Ze XA hr (Za (pv 2) Zc)))))))) (Zd (Zk (ZH (Za (YM Zw) Zc)))) Zx) (Zd (Zk (Zf Xp (ZH (Za (pv 0) Zc)) (Ze Wf hr (Za (Ze YC hr (Za (pv 2) Zc)) (Za (pv 1) (Za (pv 0) Zc)))))))),?_⟩
 refine Zo (σ':=[some (N_ d),some (N_ c),some (.ref p)]) rfl ?_
 unfold O9 at q
 simp only [XQ] at q
 have ref:¬ ((16<=sec.length/\sec.length<=64)/\6<=d/\d<=8)->Out H Q (II (-2)):=fun h=>by
  have e:(decide (16<=sec.length/\sec.length<=64) && decide (6<=d/\d<=8))=false:=by
   rw [Bool.eq_false_iff]
   intro hh
   rw [Oj,decide_eq_true_eq,decide_eq_true_eq] at hh
   exact h hh
  rw [if_pos e] at q
  exact q
 nofun
 refine ⟨d,rfl,?_⟩
 nofun
 refine dif (fun h1=>?_) (fun h1=>?_)
 ·nofun
  refine ⟨c,0,18446744073709551615,rfl,?_⟩
  rw [decide_eq_true (show 0<=c/\c<=18446744073709551615 by lia)]
  nofun
  rw [if_pos rfl]
  nofun
  refine ⟨p,sec,rfl,SqL.of hp,hB,?_⟩
  nofun
  by_cases h3:16<=sec.length/\sec.length<=64
  ·rw [decide_eq_true h3,if_neg (by decide)]
   nofun
   refine ⟨Zp (by simp),fun u hu=>?_⟩
   obtain ⟨H1,e1,s1,t1,k1,f1⟩:=YJ (.lst [N_ d]) (Zl H) hu
   rw [e1]
   nofun
   have hsec:JC sec:=⟨h3.2,hB⟩
   refine ⟨p,sec,rfl,s1 _ _ hp,hsec,fun H2 g a b s2 hg ha hb=>?_⟩
   nofun
   obtain ⟨-,-,-,x1⟩:=WW hsec (mask:=54) (by decide) rfl
   obtain ⟨-,-,-,x2⟩:=WW hsec (mask:=92) (by decide) rfl
   refine ⟨g,a,b,_,_,c,d,rfl,hg,ha,hb,x1,x2,hc,by lia,by lia,fun H3 z s3 n3 h3'=>?_⟩
   refine Xq (l:=[d]) (s3 _ _ (s2 _ _ k1)) h3' (by unfold codeN; simp; lia) fun y hy=>?_
   have e:(decide (16<=sec.length/\sec.length<=64) && decide (6<=d/\d<=8))=true:=by rw [decide_eq_true h3,decide_eq_true h1]; rfl
   rw [e,if_neg (by decide)] at q
   have s13:=(s1.trans s2).trans s3
   refine q _ y (Zz s13 (s13.free hy)) (s13.free hy) ?_
   rw [Zn,Q2,Zfu hsec hc]
   rfl
  ·rw [decide_eq_false h3,if_pos (by decide)]
   nofun
   exact ⟨Zp (by simp),fun u hu=>(ref fun h=>h3 h.1).refuse (by decide) (Zl _) hu⟩
 ·nofun
  exact ⟨Zp (by simp),fun u hu=>(ref fun h=>h1 h.2).refuse (by decide) (Zl _) hu⟩
theorem out_if {c:Prop} [Decidable c] {b:Bool} {H:Hp} {Q:VK} {z:Int} {a:Vq} {st:Option OF} (hb:b=decide c) (q:Out H Q (if b=false then (II z,st) else (a,st)).1):(c->Out H Q a)/\(¬ c->Out H Q (II z)):=by
 subst hb
 refine ⟨fun h=>?_,fun h=>?_⟩
 ·rw [decide_eq_true h,if_neg (by decide)] at q
  exact q
 ·rw [decide_eq_false h,if_pos rfl] at q
  exact q
def spAnsWrap (K:Oa):Sp:=fun vs H Q _=>∃(p r:Addr) (key x:Sy23.B),vs=[.ref p,.ref r]/\SqL K H p (LN key)/\SqL K H r (LN x)/\Ol key/\Ol x/\Out H Q (O9 none (.wrap (key.length:Nat) (x.length:Nat) key x)).1
theorem Zcy:Zs ["key","given","row"] ["key","given"] (Zj (top 121)):=qsc
theorem ZgL (B:Blt mg) (Zw:Xv mg "OUT_OF_RANGE" (-2)) (R:Raw K mg "answer_wrap" "answer_wrap" (top 121) ["key","given"]) (Ys:Zh P w K mg base 2 "is_key" ["row"] (ZaL K)) (WM:Zh P w K mg base 2 "are_eights" ["row","least","last"] (Zgr K))
 (WO:Zh P w K mg base 4 "wrapped" ["key","given"] (spWrap K)):Zh P w K mg base 5 "answer_wrap" ["key","given"] (spAnsWrap K):=by
 refine R.callee Zcy (fun vs H Q E h=>?_) (fun f cdv A outer s H vs Q E hr h=>?_)
 ·walk_at "ln"
 obtain ⟨p,r,key,x,rfl,hS,hX,hk,hx,q⟩:=h
 refine ⟨_,(Zb (ZM (Y8 (PW.pt (Xd (Z0 (Ze Ys hr (Za (pv 0) Zc))) (XI (Z0 (Ze WM hr (Za (pv 1) (Za (Zi 16) (Za (Zi 65536) Zc))))))))) (Zd (Zk (ZH (Za (YM Zw) Zc)))) Zx) (Zb (Zq 2 Zcy.nd (Ze WO hr (Za (pv 0) (Za (pv 1) Zc)))) (Zd (Zk (Zf Xp (ZH (Za (ZL (ZQ K) rfl B.len Ox (Za (pv 2) Zc)) Zc)) (pv 2)))))),?_⟩
 refine Zo (σ':=[some (.ref p),some (.ref r),none]) rfl ?_
 unfold O9 at q
 simp only [QR,ZfU] at q
 obtain ⟨qy,qn⟩:=out_if (c:=XR key.length=true/\x.length % 8=0/\16<=x.length/\x.length<=65536) (by rw [OU,Oj,decide_eq_true_eq,decide_eq_true_eq]) q
 nofun
 refine ⟨p,key,rfl,hS,hk,fun H1 s1=>?_⟩
 nofun
 cases h1:XR key.length with
 | false=>
  rw [if_neg Oo,if_pos (by decide)]
  nofun
  exact ⟨Zp (by simp),fun u hu=>(qn fun h=>by rw [h1] at h; exact absurd h.1 (by decide)).refuse (by decide) s1 hu⟩
 | true=>
  rw [if_pos rfl]
  nofun
  refine ⟨r,x,16,65536,rfl,s1.seq hX,hx,?_⟩
  nofun
  by_cases h2:x.length % 8=0/\16<=x.length/\x.length<=65536
  ·rw [decide_eq_true h2,if_neg (by decide)]
   nofun
   have hik:=JE hk h1
   refine ⟨p,r,key,x,rfl,s1.seq hS,s1.seq hX,hik,hx,h2.1,h2.2.1,by lia,fun H2 a s2 n2 h2'=>?_⟩
   nofun
   rw [ZdH hik hx (by omega) (by omega)] at h2' ⊢
   obtain ⟨wl,wb⟩:=ZcG hik hx (by omega) (by omega) h2.1
   refine ⟨Zp (by simp),fun u hu=>?_⟩
   obtain ⟨H3,e3,s3,t3,k3,f3⟩:=YJ (.lst [N_ (Ug key x).length]) (s1.trans s2) hu
   rw [e3]
   nofun
   refine Xq (l:=[(Ug key x).length]) k3 (t3 _ _ h2') (by simp; lia) fun y hy=>?_
   refine qy ⟨h1,h2⟩ _ y (Zz s3 (s3.free hy)) (s3.free hy) ?_
   have ev:((x.length:Nat):Int) + 8=((Ug key x).length:Int):=by rw [wl]; rfl
   rw [Zn,ev,Q2]
   rfl
  ·rw [decide_eq_false h2,if_pos (by decide)]
   nofun
   exact ⟨Zp (by simp),fun u hu=>(qn fun h=>h2 h.2).refuse (by decide) s1 hu⟩
def Zfd (K:Oa):Sp:=fun vs H Q _=>∃(p r:Addr) (key x:Sy23.B),vs=[.ref p,.ref r]/\SqL K H p (LN key)/\SqL K H r (LN x)/\Ol key/\Ol x/\Out H Q (O9 none (.unwrap (key.length:Nat) (x.length:Nat) key x)).1
theorem Zbi:Zs ["key","given","row"] ["key","given"] (Zj (top 122)):=qsc
theorem Zfg (B:Blt mg) (Zw:Xv mg "OUT_OF_RANGE" (-2)) (Xi:Xv mg "NOT_GENUINE" (-5)) (R:Raw K mg "answer_unwrap" "answer_unwrap" (top 122) ["key","given"]) (Ys:Zh P w K mg base 2 "is_key" ["row"] (ZaL K)) (WM:Zh P w K mg base 2 "are_eights" ["row","least","last"] (Zgr K))
 (XB:Zh P w K mg base 5 "unwrapped" ["key","given"] (Zek K)):Zh P w K mg base 6 "answer_unwrap" ["key","given"] (Zfd K):=by
 refine R.callee Zbi (fun vs H Q E h=>?_) (fun f cdv A outer s H vs Q E hr h=>?_)
 ·walk_at "ln"
 obtain ⟨p,r,key,x,rfl,hS,hX,hk,hx,q⟩:=h
 refine ⟨_,(Zb (ZM (Y8 (PW.pt (Xd (Z0 (Ze Ys hr (Za (pv 0) Zc))) (XI (Z0 (Ze WM hr (Za (pv 1) (Za (Zi 24) (Za (Zi 65544) Zc))))))))) (Zd (Zk (ZH (Za (YM Zw) Zc)))) Zx) (Zb (Zq 2 Zbi.nd (Ze XB hr (Za (pv 0) (Za (pv 1) Zc)))) (Zb (ZM (XT (Wq (pv 2))) (Zd (Zk (ZH (Za (YM Xi) Zc)))) Zx) (Zd (Zk (Zf Xp (ZH (Za (ZL (ZQ K) rfl B.len Ox (Za (pv 2) Zc)) Zc)) (pv 2))))))),?_⟩
 refine Zo (σ':=[some (.ref p),some (.ref r),none]) rfl ?_
 unfold O9 at q
 simp only [QR,ZfU] at q
 nofun
 refine ⟨p,key,rfl,hS,hk,fun H1 s1=>?_⟩
 nofun
 cases h1:XR key.length with
 | false=>
  rw [h1,Vc,if_pos rfl] at q
  rw [if_neg Oo,if_pos (by decide)]
  nofun
  exact ⟨Zp (by simp),fun u hu=>Out.refuse q (by decide) s1 hu⟩
 | true=>
  rw [h1,UW] at q
  rw [if_pos rfl]
  nofun
  refine ⟨r,x,24,65544,rfl,s1.seq hX,hx,?_⟩
  nofun
  by_cases h2:x.length % 8=0/\24<=x.length/\x.length<=65544
  ·rw [decide_eq_true h2,if_neg (by decide)] at q
   rw [decide_eq_true h2,if_neg (by decide)]
   nofun
   have hik:=JE hk h1
   have eu:=ZbT hik hx (by lia) (by lia)
   refine ⟨p,r,key,x,rfl,s1.seq hS,s1.seq hX,hik,hx,h2.1,h2.2.1,by lia,fun z H2 a ez s2 n2 h2'=>?_,fun en H2 s2=>?_⟩
   ·rw [eu] at ez
    rw [ez] at q
    obtain ⟨zl,zb⟩:=Za4 hik hx (by omega) (by omega) h2.1 ez
    nofun
    rw [decide_eq_false (fun h=>V.noConfusion h)]
    nofun
    rw [if_neg Oo]
    nofun
    refine ⟨Zp (by simp),fun u hu=>?_⟩
    obtain ⟨H3,e3,s3,t3,k3,f3⟩:=YJ (.lst [N_ z.length]) (s1.trans s2) hu
    rw [e3]
    nofun
    refine Xq (l:=[z.length]) k3 (t3 _ _ h2') (by simp; lia) fun y hy=>?_
    refine q _ y (Zz s3 (s3.free hy)) (s3.free hy) ?_
    have ev:((x.length:Nat):Int) - 8=(z.length:Int):=by lia
    rw [Zn]
    show _=some (HO.lst (LI (ansI { v:=((x.length:Nat):Int) - 8,out:=z })))
    rw [ev,Q2]
    rfl
   ·rw [eu] at en
    rw [en] at q
    nofun
    rw [decide_eq_true rfl]
    nofun
    rw [if_pos rfl]
    nofun
    exact ⟨Zp (by simp),fun u hu=>Out.refuse q (by decide) (s1.trans s2) hu⟩
  ·rw [decide_eq_false h2,if_pos rfl] at q
   rw [decide_eq_false h2,if_pos (by decide)]
   nofun
   exact ⟨Zp (by simp),fun u hu=>Out.refuse q (by decide) s1 hu⟩
def spAnsMark (K:Oa):Sp:=fun vs H Q _=>∃(p r:Addr) (key x:Sy23.B),vs=[.ref p,.ref r]/\SqL K H p (LN key)/\SqL K H r (LN x)/\Ol key/\Ol x/\Out H Q (O9 none (.mark (key.length:Nat) (x.length:Nat) key x)).1
theorem Zgd:Zs ["key","given"] ["key","given"] (Zj (top 123)):=qsc
theorem ZgI (Zw:Xv mg "OUT_OF_RANGE" (-2)) (R:Raw K mg "answer_mark" "answer_mark" (top 123) ["key","given"]) (Ys:Zh P w K mg base 2 "is_key" ["row"] (ZaL K)) (Z2:Zh P w K mg base 1 "are_bytes" ["row","least","last"] (QX K))
 (Zeu:Zh P w K mg base 4 "mark_of" ["key","given"] (spMark K)):Zh P w K mg base 5 "answer_mark" ["key","given"] (spAnsMark K):=by
 refine R.callee Zgd (fun vs H Q E h=>?_) (fun f cdv A outer s H vs Q E hr h=>?_)
 ·walk_at "ln"
 obtain ⟨p,r,key,x,rfl,hS,hX,hk,hx,q⟩:=h
 refine ⟨_,(Zb (ZM (Y8 (PW.pt (Xd (Z0 (Ze Ys hr (Za (pv 0) Zc))) (XI (Z0 (Ze Z2 hr (Za (pv 1) (Za (Zi 0) (Za (Zi 65536) Zc))))))))) (Zd (Zk (ZH (Za (YM Zw) Zc)))) Zx) (Zd (Zk (Zf Xp (ZH (Za (Zi 16) Zc)) (Ze Zeu hr (Za (pv 0) (Za (pv 1) Zc))))))),?_⟩
 refine Zo (σ':=[some (.ref p),some (.ref r)]) rfl ?_
 unfold O9 at q
 simp only [QR,XQ] at q
 obtain ⟨qy,qn⟩:=out_if (c:=XR key.length=true/\0<=x.length/\x.length<=65536) (by rw [OU,Oj,decide_eq_true_eq,decide_eq_true_eq]) q
 nofun
 refine ⟨p,key,rfl,hS,hk,fun H1 s1=>?_⟩
 nofun
 cases h1:XR key.length with
 | false=>
  rw [if_neg Oo,if_pos (by decide)]
  nofun
  exact ⟨Zp (by simp),fun u hu=>(qn fun h=>by rw [h1] at h; exact absurd h.1 (by decide)).refuse (by decide) s1 hu⟩
 | true=>
  rw [if_pos rfl]
  nofun
  refine ⟨r,x,0,65536,rfl,s1.seq hX,hx,?_⟩
  nofun
  by_cases h2:0<=x.length/\x.length<=65536
  ·rw [decide_eq_true h2,if_neg (by decide)]
   nofun
   have hik:=JE hk h1
   refine ⟨Zp (by simp),fun u hu=>?_⟩
   obtain ⟨H2,e2,s2,t2,k2,f2⟩:=YJ (.lst [N_ 16]) s1 hu
   rw [e2]
   nofun
   refine ⟨p,r,key,x,rfl,s2.seq hS,s2.seq hX,hik,hx,by lia,fun H3 a s3 n3 h3=>?_⟩
   have hml:(markN key x).length=16:=by rw [markN_def,Yv]
   refine Xq (l:=[16]) (s3 _ _ k2) h3 (by simp; simp [*]) fun y hy=>?_
   refine qy ⟨h1,h2⟩ _ y (Zz (s2.trans s3) ((s2.trans s3).free hy)) ((s2.trans s3).free hy) ?_
   have ev:(16:Int)=((16:Nat):Int):=rfl
   rw [Zn,ev,Q2,mark_eq hik hx]
   rfl
  ·rw [decide_eq_false h2,if_pos (by decide)]
   nofun
   exact ⟨Zp (by simp),fun u hu=>(qn fun h=>h2 h.2).refuse (by decide) s1 hu⟩
def spAnsMix (K:Oa):Sp:=fun vs H Q _=>∃(d n b:Nat) (p:Addr) (key:Sy23.B),vs=[N_ d,N_ n,N_ b,.ref p]/\SqL K H p (LN key)/\Ol key/\Out H Q (O9 none (.mix (key.length:Nat) (d:Nat) (b:Nat) key n)).1
theorem ZgY:Zs ["digits","number","back","key"] ["digits","number","back","key"] (Zj (top 124)):=qsc
theorem c_answer_mix (Zw:Xv mg "OUT_OF_RANGE" (-2)) (R:Raw K mg "answer_mix" "answer_mix" (top 124) ["digits","number","back","key"]) (Ys:Zh P w K mg base 2 "is_key" ["row"] (ZaL K)) (ZI:Zh P w K mg base 1 "is_within" ["number","least","last"] WL)
 (YA:Zh P w K mg base 1 "power_of_ten" ["exponent"] spPow) (C_mixed:Zh P w K mg base 4 "mixed" ["key","digits","number","back"] (spMixed K)):Zh P w K mg base 5 "answer_mix" ["digits","number","back","key"] (spAnsMix K):=by
 refine R.callee ZgY (fun vs H Q E h=>?_) (fun f cdv A outer s H vs Q E hr h=>?_)
 ·walk_at "ln"
 obtain ⟨d,n,b,p,key,rfl,hS,hk,q⟩:=h
 refine ⟨_,(Zb (ZM (Y8 (PW.pt (Xd (Z0 (Ze Ys hr (Za (pv 3) Zc))) (Xd (Z0 (Ze ZI hr (Za (pv 0) (Za (Zi 2) (Za (Zi 18) Zc))))) (XI (Z0 (Ze ZI hr (Za (pv 1) (Za (Zi 0) (Za (Zf Xg (Ze YA hr (Za (pv 0) Zc)) (Zi 1)) Zc)))))))))) (Zd (Zk (ZH (Za (YM Zw) Zc)))) Zx) (Zd (Zk (ZH (Za (Zi 0) (Za (Ze C_mixed hr (Za (pv 3) (Za (pv 0) (Za (pv 1) (Za (pv 2) Zc))))) Zc)))))),?_⟩
 refine Zo (σ':=[some (N_ d),some (N_ n),some (N_ b),some (.ref p)]) rfl ?_
 unfold O9 at q
 simp only [QR,XQ,Ot] at q
 obtain ⟨qy,qn⟩:=out_if (c:=XR key.length=true/\(2<=d/\d<=18)/\n < 10 ^ d) (by rw [OU,Oj,Oj,decide_eq_true_eq,decide_eq_true_eq,decide_eq_true_eq]) q
 nofun
 refine ⟨p,key,rfl,hS,hk,fun H1 s1=>?_⟩
 nofun
 cases h1:XR key.length with
 | false=>
  rw [if_neg Oo,if_pos (by decide)]
  nofun
  exact ⟨Zp (by simp),fun u hu=>(qn fun h=>by rw [h1] at h; exact absurd h.1 (by decide)).refuse (by decide) s1 hu⟩
 | true=>
  rw [if_pos rfl]
  nofun
  refine ⟨d,2,18,rfl,?_⟩
  nofun
  refine dif (fun h2=>?_) (fun h2=>?_)
  ·nofun
   refine ⟨d,rfl,by lia,fun H2 s2=>?_⟩
   have p10:=Ul (a:=10) (n:=d) (by decide)
   nofun
   ·refine ⟨n,0,10 ^ d - 1,rfl,?_⟩
    nofun
    by_cases h3:n < 10 ^ d
    ·rw [decide_eq_true (show 0<=n/\n<=10 ^ d - 1 by omega),if_neg (by decide)]
     nofun
     have hik:=JE hk h1
     refine ⟨p,key,d,n,b,rfl,(s1.trans s2).seq hS,hik,h2.1,h2.2,h3,fun H3 s3=>?_⟩
     nofun
     refine ⟨Zp (by simp),fun u hu=>?_⟩
     have s13:=(s1.trans s2).trans s3
     refine qy ⟨h1,h2,h3⟩ _ u (Zz s13 (s13.free hu)) (s13.free hu) ?_
     have eb:(((b:Nat):Int)=0)=(b=0):=by simp
     have ev:(0:Int)=((0:Nat):Int):=rfl
     simp only [eb]
     rw [Zn,ev,Q2]
     rfl
    ·rw [decide_eq_false (show ¬ (0<=n/\n<=10 ^ d - 1) by omega),if_pos (by decide)]
     nofun
     exact ⟨Zp (by simp),fun u hu=>(qn fun h=>h3 h.2.2).refuse (by decide) (s1.trans s2) hu⟩
   ·exact qw14
  ·rw [if_pos (by decide)]
   nofun
   exact ⟨Zp (by simp),fun u hu=>(qn fun h=>h2 h.2.1).refuse (by decide) s1 hu⟩
end
def DictK (P:Program) (w:World) (K:Oa) (a:Addr) (kvs:List (Key×V)):Prop:=∀h:Heap,K.In h->∃vs,KV kvs vs/\h.DictOf (ZbJ P w) a vs
def rIxD (P:Program) (w:World) (K:Oa):R2:=fun x y H Q=>∃(a:Addr) (kvs:List (Key×V)) (k:Key) (v:V),x=.ref a/\y=kV k/\DictK P w K a kvs/\valV kvs k=some v/\Q v H
theorem pe_dgetK {X:Cx} {o i:Expr} {td ty:TE} {pos:Pos} (P:Program) (w:World) (K:Oa) (ho:PE X o td) (hi:PE X i ty) (hs:NoSl i:=by intro _ _; rfl) (h1:X.prog=P:=by rfl) (h2:X.w=w:=by rfl) (h3:X.K=K:=by rfl):PE X (.Subscript o i pos) (tOp (rIxD P w K) td ty):=by
 subst h1 h2 h3
 intro pins s σ H Q I h
 refine subD_of PySem.F.slot_dict_getitem.lookup hs (thn (ho pins s σ H _ I h) fun u s1 ⟨x,H1,I1,rx,q1⟩=>thn (hi pins s1 σ H1 _ I1 q1) fun iv s2 ⟨y,H2,I2,ry,a,kvs,k,v,ex,ey,hD,hv,q2⟩=>?_)
 subst ex ey
 obtain rfl:u=Value.ref a:=rx
 obtain ⟨vs,rel,dd⟩:=hD s2.heap I2.kIn
 obtain ⟨w',hw,rw'⟩:=RelO.some_of (v:=v) (o:=valueAt vs k) (by rw [<- hv]; exact rel.val k)
 exact ⟨dd.typeIs,wpAny_getItem_of (kV_is ry) dd.mapOf hw ⟨v,H2,I2.tok _,rw',q2⟩⟩
structure YB (K:Oa) (C:Addr) (m qual:Str) (st:Stmt) (ps:List Str):Prop where
 ex:∃(f:Addr) (fd:FuncData),Fun K m qual st f fd/\Meth K C m f/\Jg K fd ps []
structure RawI (K:Oa) (C:Addr) (qual:Str) (st:Stmt) (ps:List Str):Prop where
 ex:∃(f:Addr) (fd:FuncData),Fun K "__init__" qual st f fd/\Mk K C f/\Jg K fd ps []
structure ZC (P:Program) (w:World) (K:Oa) (mg:Str->Option Value) (base:Heap) (k:Nat) (C:Addr) (m:Str) (ps:List Str) (sp:Sp):Prop where
 ex:∃(f:Addr) (fd:FuncData),FnOk P w K mg base CX0 k f fd ps sp/\Meth K C m f/\Jg K fd ps []
structure XC (P:Program) (w:World) (K:Oa) (mg:Str->Option Value) (base:Heap) (k:Nat) (C:Addr) (ps:List Str) (sp:Sp):Prop where
 ex:∃(f:Addr) (fd:FuncData),FnOk P w K mg base CX0 k f fd ps sp/\Mk K C f/\Jg K fd ps []
section
variable {P:Program} {w:World} {K:Oa} {mg:Str->Option Value} {base:Heap} {k:Nat} {C:Addr} {m qual:Str} {st:Stmt} {N ps:List Str} {sp:Sp}
theorem YB.callee (R:YB K C m qual st ps) (S:Zs N ps (Zj st)) (len:∀vs H Q E,sp vs H Q E->vs.length=ps.length)
 (hbody:∀(f:Addr) (cdv:Value) (A:Around) (outer:List Env) (s:Shared) (H:Hp) (vs:List V) (Q:VK) (E:XK),Qa k (A.deeper (envOfC qual (Zj st) s.heap.objs.size f cdv))->sp vs H Q E->
  ∃t,PSs (cxOf CX0 P w K mg base N qual (Zj st) f cdv A outer s H E).nox (WV st) t/\t { nx:=fun _ H'=>Q .non H',rt:=Q } (L2.start N vs) H):ZC P w K mg base (k + 1) C m ps sp:=by
 obtain ⟨f,fd,F,m,b⟩:=R.ex
 exact ⟨f,fd,F.ok S len (hbody f),m,b⟩
theorem RawI.callee (R:RawI K C qual st ps) (S:Zs N ps (Zj st)) (len:∀vs H Q E,sp vs H Q E->vs.length=ps.length)
 (hbody:∀(f:Addr) (cdv:Value) (A:Around) (outer:List Env) (s:Shared) (H:Hp) (vs:List V) (Q:VK) (E:XK),Qa k (A.deeper (envOfC qual (Zj st) s.heap.objs.size f cdv))->sp vs H Q E->
  ∃t,PSs (cxOf CX0 P w K mg base N qual (Zj st) f cdv A outer s H E).nox (WV st) t/\t { nx:=fun _ H'=>Q .non H',rt:=Q } (L2.start N vs) H):XC P w K mg base (k + 1) C ps sp:=by
 obtain ⟨f,fd,F,m,b⟩:=R.ex
 exact ⟨f,fd,F.ok S len (hbody f),m,b⟩
end
section
variable {X:Cx} {k:Nat} {C:Addr} {x m:Str} {ps:List Str} {sp:Sp} {o e value:Expr} {es:List Expr} {to tv:TE} {t:TA} {p apos pos pos' tpos:Pos} {pl:Sem Bool} {f:Str}
theorem Z9 (c:Cls X.K C) (F:ZC X.prog X.w X.K X.mg X.base k C m ps sp) {j:Nat} (hr:Qa j X.A) (ho:PE X o to) (ha:PA X (e :: es) t)
 (hst:starEach (e :: es) X.env=(false,eval e X.env) :: starEach es X.env:=by rfl) (hpl:(backTo pos (starEach es X.env)).any (·.1)=false:=by rfl)
 (ht:eval (.Call (.Attribute o m apos) (e :: es) [] pos) X.env=(do
  let ov <- eval o X.env
  standAt apos.atName
  let (f,first) <- holding [ov] (getMethod ov m pl)
  callWith pos f first (backTo pos (starEach (e :: es) X.env)) (backToKw pos (keywordEach [] X.env))):=by rfl) (hj:k<=j:=by decide):PE X (.Call (.Attribute o m apos) (e :: es) [] pos) (tMeth C m sp [] E0 to t):=by
 obtain ⟨g,fd,G,hm,b⟩:=F.ex
 exact pe_meth ho c hm G (hr.mono hj) b .nil pass0 ha hst hpl ht
theorem QT (c:Cls X.K C) (F:ZC X.prog X.w X.K X.mg X.base k C m ps sp) {j:Nat} (hr:Qa j X.A) (ho:PE X o to)
 (ht:eval (.Call (.Attribute o m apos) [] [] pos) X.env=(do
  let ov <- eval o X.env
  standAt apos.atName
  let (f,first) <- holding [ov] (getMethod ov m pl)
  callWith pos f first (backTo pos (starEach [] X.env)) (backToKw pos (keywordEach [] X.env))):=by rfl) (hj:k<=j:=by decide):PE X (.Call (.Attribute o m apos) [] [] pos) (tMeth C m sp [] E0 to tNil):=by
 obtain ⟨g,fd,G,hm,b⟩:=F.ex
 exact pe_meth0 ho c hm G (hr.mono hj) b .nil pass0 ht
theorem Zaq (hm:X.mg x=some (.ref C)) (F:XC X.prog X.w X.K X.mg X.base k C ps sp) {j:Nat} (hr:Qa j X.A) (ha:PA X (e :: es) t) (hg:Gl X x:=by rfl) (hdb:(x == ("__debug__":Str))=false:=by decide)
 (he:starEach (e :: es) X.env=(false,eval e X.env) :: starEach es X.env:=by rfl) (hpl:(backTo pos (starEach es X.env)).any (·.1)=false:=by rfl) (hj:k + 1<=j:=by decide):PE X (.Call (.Name x p) (e :: es) [] pos) (tMake C sp [] E0 t):=by
 obtain ⟨g,fd,G,M,b⟩:=F.ex
 exact pe_make M G (hr.mono hj) hg hm b .nil pass0 ha hdb he hpl
theorem pe_makeC0 (hm:X.mg x=some (.ref C)) (F:XC X.prog X.w X.K X.mg X.base k C ps sp) {j:Nat} (hr:Qa j X.A) (hg:Gl X x:=by rfl) (hdb:(x == ("__debug__":Str))=false:=by decide) (hj:k + 1<=j:=by decide):PE X (.Call (.Name x p) [] [] pos) (tMake C sp [] E0 tNil):=by
 obtain ⟨g,fd,G,M,b⟩:=F.ex
 exact pe_make0 M G (hr.mono hj) hg hm b .nil pass0 hdb
theorem Zt (K:Oa) (ho:PE X o to) (hb:attributeBase o f X.env (eval o X.env)=eval o X.env:=by rfl) (h:X.K=K:=by rfl):PE X (.Attribute o f pos) (tFld K to f):=by
 subst h
 exact pe_fld ho hb
theorem Z1 (K:Oa) (ho:PE X o to) (hv:PE X value tv) (hs:swapsWith value (some (.Attribute o f pos')) pos.line X.env=pure false:=by rfl) (h:X.K=K:=by rfl):PS X (.Assign [.Attribute o f pos'] value pos) (sFld K to tv f):=by
 subst h
 exact ps_fld ho hv hs
theorem ZdB {op:Operator} {r:R2} (K:Oa) (ho:PE X o to) (hv:PE X value tv) (hop:OpR X (inplaceOp op) r) (h:X.K=K:=by rfl):PS X (.AugAssign (.Attribute o f tpos) op value pos) (sFldAug K to tv r f):=by
 subst h
 exact ps_fldaug ho hv (fun pins s σ H x y v u Q I rx ry q=>hop pins s σ H x y v u Q I rx ry q)
end
section
variable {K:Oa} {C a dx:Addr} {fs:List (Str×V)} {f m:Str} {v:V} {to tv:TE} {t:TA} {sp:Sp} {E:XK} {σ:St} {H:Hp} {Q:VK} {r:R2} {D:Zah}
def rFld (K:Oa) (f:Str) (x:V) (H:Hp) (Q:VK):Prop:=∃a C dx fs v,x=.ref a/\H a=some (.ins C dx fs)/\Cls K C/\Ym K C f/\fs.lookup f=some v/\Q v H
theorem rd_fld (h:to σ H fun x H1=>rFld K f x H1 Q):tFld K to f σ H Q:=h
theorem rd_fldAt (h:H a=some (.ins C dx fs)) (c:Cls K C) (n:Ym K C f) (l:fs.lookup f=some v) (q:Q v H):rFld K f (.ref a) H Q:=⟨a,C,dx,fs,v,rfl,h,c,n,l,q⟩
def rMeth (C:Addr) (m:Str) (sp:Sp) (E:XK) (t:TA) (σ:St) (x:V) (H:Hp) (Q:VK):Prop:=∃a dx fs,x=.ref a/\H a=some (.ins C dx fs)/\fs.lookup m=none/\t σ H fun vs H2=>sp (x :: (vs ++ [])) H2 Q E
theorem rd_meth (h:to σ H fun x H1=>rMeth C m sp E t σ x H1 Q):tMeth C m sp [] E to t σ H Q:=h
theorem rd_methAt (h:H a=some (.ins C dx fs)) (l:fs.lookup m=none) (q:t σ H fun vs H2=>sp (.ref a :: (vs ++ [])) H2 Q E):rMeth C m sp E t σ (.ref a) H Q:=⟨a,dx,fs,rfl,h,l,q⟩
theorem rd_make (h:t σ H fun vs H1=>∀x dx,H1 x=none->H1 dx=none->dx≠x->sp (.ref x :: (vs ++ [])) (upd (upd H1 dx (.own x)) x (.ins C dx [])) (fun v H2=>v=.non/\Q (.ref x) H2) E):tMake C sp [] E t σ H Q:=h
def rSFld (K:Oa) (f:Str) (x y:V) (H:Hp) (Q:Hp->Prop):Prop:=∃a C dx fs,x=.ref a/\H a=some (.ins C dx fs)/\Cls K C/\Ym K C f/\fs.length < 1000/\Q (upd H a (.ins C dx (X5 f y fs)))
theorem rd_sfld (h:tv σ H fun y H1=>to σ H1 fun x H2=>rSFld K f x y H2 fun H3=>D.nx σ H3):sFld K to tv f D σ H:=h
theorem rd_sfldAt {Q:Hp->Prop} {y:V} (h:H a=some (.ins C dx fs)) (c:Cls K C) (n:Ym K C f) (l:fs.length < 1000) (q:Q (upd H a (.ins C dx (X5 f y fs)))):rSFld K f (.ref a) y H Q:=⟨a,C,dx,fs,rfl,h,c,n,l,q⟩
end
section
variable {K:Oa} {C a dx:Addr} {fs:List (Str×V)} {f m:Str} {v:V} {to tv:TE} {t:TA} {sp:Sp} {E:XK} {σ:St} {H:Hp} {Q:VK} {r:R2} {D:Zah}
def rPut (a C:Addr) (f:Str) (z:V) (H:Hp) (Q:Hp->Prop):Prop:=∃dx fs,H a=some (.ins C dx fs)/\fs.length < 1000/\Q (upd H a (.ins C dx (X5 f z fs)))
def rSFA (K:Oa) (f:Str) (tv:TE) (r:R2) (σ:St) (x:V) (H:Hp) (Q:Hp->Prop):Prop:=∃a C dx fs v,x=.ref a/\H a=some (.ins C dx fs)/\Cls K C/\Ym K C f/\fs.lookup f=some v/\tv σ H fun y H2=>r v y H2 fun z H3=>rPut a C f z H3 Q
theorem rd_sfldaug (h:to σ H fun x H1=>rSFA K f tv r σ x H1 fun H3=>D.nx σ H3):sFldAug K to tv r f D σ H:=h
theorem rd_sfaAt {Q:Hp->Prop} (h:H a=some (.ins C dx fs)) (c:Cls K C) (n:Ym K C f) (l:fs.lookup f=some v) (q:tv σ H fun y H2=>r v y H2 fun z H3=>rPut a C f z H3 Q):rSFA K f tv r σ (.ref a) H Q:=⟨a,C,dx,fs,v,rfl,h,c,n,l,q⟩
theorem rd_putAt {Q:Hp->Prop} {z:V} (h:H a=some (.ins C dx fs)) (l:fs.length < 1000) (q:Q (upd H a (.ins C dx (X5 f z fs)))):rPut a C f z H Q:=⟨dx,fs,h,l,q⟩
end
def But (a:Addr) (H H':Hp):Prop:=∀b o,b≠a->H b=some o->H' b=some o
theorem But.refl (a:Addr) (H:Hp):But a H H:=fun _ _ _ h=>h
theorem But.trans {a:Addr} {H H1 H2:Hp} (s:But a H H1) (t:But a H1 H2):But a H H2:=fun b o n h=>t b o n (s b o n h)
theorem But.upd {a:Addr} (H:Hp) (o:HO):But a H (upd H a o):=fun b u n h=>by rw [ZN n]; exact h
theorem ZA.but {a:Addr} {H H':Hp} (s:ZA H H'):But a H H':=fun b o _ h=>s b o h
theorem But.free {a:Addr} {H H':Hp} {o:HO} (s:But a H H') (ha:H' a=some o) {p:Addr} (h:H' p=none):H p=none:=by
 by_cases e:p=a
 ·rw [e,ha] at h; exact absurd h (by simp)
 ·cases hp:H p with
  | none=>rfl
  | some u=>rw [s p u e hp] at h; exact absurd h (by simp)
theorem But.seq {K:Oa} {a p C dx:Addr} {fs:List (Str×V)} {H H':Hp} {xs:List V} (s:But a H H') (ha:H a=some (.ins C dx fs)) (h:SqL K H p xs):SqL K H' p xs:=by
 rcases h with h | h
 ·refine .inl ?_
  have ne:p≠a:=by
   rintro rfl
   rcases h with h | ⟨o,h⟩ <;> rw [ha] at h <;> simp at h
  rcases h with h | ⟨o,h⟩
  ·exact .inl (s _ _ ne h)
  ·exact .inr ⟨o,s _ _ ne h⟩
 ·exact .inr h
abbrev rdO (C dx p:Addr) (i:Nat):HO:=.ins C dx [("calls",.ref p),("position",N_ i)]
structure Zby (K:Oa) (C:Addr):Prop where
 cl:Cls K C
 nc:Ym K C "calls"
 np:Ym K C "position"
structure CallK (K:Oa) (C:Addr):Prop where
 cl:Cls K C
 nn:Ym K C "number"
 nw:Ym K C "wholes"
 nr:Ym K C "rows"
variable {P:Program} {w:World} {K:Oa} {mg:Str->Option Value} {base:Heap} {Wu Zg Zm Yf ZG ZS:Addr}
def spReader (C:Addr):Sp:=fun vs H Q _=>∃(a dx p:Addr),vs=[.ref a,.ref p]/\H a=some (.ins C dx [])/\Q .non (upd H a (rdO C dx p 0))
theorem Zgj:Zs ["self","calls"] ["self","calls"] (Zj (Zr (top 128) 0)):=qsc
theorem ZgS (k:Zby K ZG) (R:RawI K ZG "Reader.__init__" (Zr (top 128) 0) ["self","calls"]):XC P w K mg base 1 ZG ["self","calls"] (spReader ZG):=by
 refine R.callee Zgj (fun vs H Q E h=>?_) (fun f cdv A outer s H vs Q E hr h=>?_)
 ·walk_at "ln"
 obtain ⟨a,dx,p,rfl,ha,q⟩:=h
 obtain ⟨k1,k2,k3⟩:=k
 refine ⟨_,(Zb (Z1 K (pv 0) (pv 1)) (Zd (Z1 K (pv 0) (Zi 0)))),?_⟩
 refine Zo (σ':=[some (.ref a),some (.ref p)]) rfl ?_
 nofun
 show Q _ _
 rw [Jf]
 exact q
def spAtEnd (K:Oa) (C:Addr):Sp:=fun vs H Q _=>∃(a dx p:Addr) (i:Nat) (l:List Nat),vs=[.ref a]/\H a=some (rdO C dx p i)/\SqL K H p (LN l)/\Q (.bl (decide (l.length<=i))) H
theorem ZeY:Zs ["self"] ["self"] (Zj (Zr (top 128) 1)):=qsc
theorem Zfm (B:Blt mg) (k:Zby K ZG) (R:YB K ZG "at_end" "Reader.at_end" (Zr (top 128) 1) ["self"]):ZC P w K mg base 1 ZG "at_end" ["self"] (spAtEnd K ZG):=by
 refine R.callee ZeY (fun vs H Q E h=>?_) (fun f cdv A outer s H vs Q E hr h=>?_)
 ·walk_at "ln"
 obtain ⟨a,dx,p,i,l,rfl,ha,hp,q⟩:=h
 obtain ⟨k1,k2,k3⟩:=k
 refine ⟨_,(Zd (Zk (Wy on_ge (Zt K (pv 0)) (ZL (ZQ K) rfl B.len Ox (Za (Zt K (pv 0)) Zc)) (ZR _)))),?_⟩
 refine Zo (σ':=[some (.ref a)]) rfl ?_
 nofun
 exact q
def ZcD (K:Oa) (C:Addr):Sp:=fun vs H Q _=>∃(a dx p:Addr) (i:Nat) (l:List Nat),vs=[.ref a]/\H a=some (rdO C dx p i)/\SqL K H p (LN l)/\i < l.length/\Q (N_ (l.getD i 0)) (upd H a (rdO C dx p (i + 1)))
theorem JM:Zs ["self","number"] ["self"] (Zj (Zr (top 128) 2)):=qsc
theorem Zc5 (k:Zby K ZG) (R:YB K ZG "read_whole" "Reader.read_whole" (Zr (top 128) 2) ["self"]):ZC P w K mg base 1 ZG "read_whole" ["self"] (ZcD K ZG):=by
 refine R.callee JM (fun vs H Q E h=>?_) (fun f cdv A outer s H vs Q E hr h=>?_)
 ·walk_at "ln"
 obtain ⟨a,dx,p,i,l,rfl,ha,hp,hi,q⟩:=h
 obtain ⟨k1,k2,k3⟩:=k
 refine ⟨_,(Zb (Zq 1 JM.nd (Zy (Zv K) (Zt K (pv 0)) (Zt K (pv 0)))) (Zb (ZdB K (pv 0) (Zi 1) Zfw) (Zd (Zk (pv 1))))),?_⟩
 refine Zo (σ':=[some (.ref a),none]) rfl ?_
 nofun
 ·exact q
 ·exact hi
def spReadRow (K:Oa) (C:Addr):Sp:=fun vs H Q _=>∃(a dx p:Addr) (i:Nat) (l:List Nat),vs=[.ref a]/\H a=some (rdO C dx p i)/\SqL K H p (LN l)/\i < l.length/\
 ∀(H':Hp) (q:Addr),But a H H'->H q=none->H' a=some (rdO C dx p (i + 1 + l.getD i 0))->H' q=some (.lst (LN ((l.drop (i + 1)).take (l.getD i 0))))->Q (.ref q) H'
theorem QJ:Zs ["self","length","start"] ["self"] (Zj (Zr (top 128) 3)):=qsc
theorem ZdR (k:Zby K ZG) (R:YB K ZG "read_row" "Reader.read_row" (Zr (top 128) 3) ["self"]) (Yu:ZC P w K mg base 1 ZG "read_whole" ["self"] (ZcD K ZG)):ZC P w K mg base 2 ZG "read_row" ["self"] (spReadRow K ZG):=by
 refine R.callee QJ (fun vs H Q E h=>?_) (fun f cdv A outer s H vs Q E hr h=>?_)
 ·walk_at "ln"
 obtain ⟨a,dx,p,i,l,rfl,ha,hp,hi,q⟩:=h
 obtain ⟨QP,k2,k3⟩:=k
 refine ⟨_,(Zb (Zq 1 QJ.nd (QT QP Yu hr (pv 0))) (Zb (Zq 2 QJ.nd (Zt K (pv 0))) (Zb (ZdB K (pv 0) (pv 1) Zfw) (Zd (Zk (YI (YK K) (Zt K (pv 0)) (Wd (pv 2)) (Wd (Zf Z7 (pv 2) (pv 1))))))))),?_⟩
 refine Zo (σ':=[some (.ref a),none,none]) rfl ?_
 nofun
 refine ⟨a,dx,p,i,l,rfl,ha,hp,hi,?_⟩
 obtain ⟨H1,e1⟩:∃H1,H1=upd H a (rdO ZG dx p (i + 1)):=⟨_,rfl⟩
 have h1:H1 a=some (rdO ZG dx p (i + 1)):=by rw [e1]; exact Zn
 have b1:But a H H1:=by rw [e1]; exact But.upd H _
 rw [<- e1]
 nofun
 obtain ⟨H2,e2⟩:∃H2,H2=upd H1 a (rdO ZG dx p (i + 1 + l.getD i 0)):=⟨_,rfl⟩
 have h2:H2 a=some (rdO ZG dx p (i + 1 + l.getD i 0)):=by rw [e2]; exact Zn
 have b2:But a H H2:=by rw [e2]; exact b1.trans (But.upd H1 _)
 rw [show upd H1 a (HO.ins ZG dx (X5 "position" (N_ (i + 1 + l.getD i 0)) [("calls",.ref p),("position",N_ (i + 1))]))=H2 from e2.symm]
 nofun
 refine Wr (b2.seq ha hp) fun z hz=>?_
 rw [show i + 1 + l.getD i 0 - (i + 1)=l.getD i 0 by simp]
 have hz':=b2.free h2 hz
 refine q _ z (b2.trans (ZA.but (Zz (Zl _) hz))) hz' ?_ Zn
 rw [ZN (Zu h2 hz)]
 exact h2
section
variable {te:TE} {σ:St} {H1:Hp} {Qd:Addr->Hp->Prop}
theorem lc_inv {J:It} {n k:Nat} {y:Nat->V} (S:Zbz J n y) (Iv:Addr->Nat->List V->Hp->Prop) (hn:n<=sizeLine) (h0:∀D,H1 D=none->Iv D 0 [] (upd H1 D (.lst [])))
 (hl:∀D i acc H,Iv D i acc H->acc.length=i)
 (hf:∀(D:Addr) (j:Nat) (acc:List V) (H:Hp) (R:VK),j < n->H1 D=none->Iv D j acc H->(∀x H4,H4 D=some (.lst acc)->Iv D (j + 1) (acc ++ [x]) (upd H4 D (.lst (acc ++ [x])))->R x H4)->te ((σ.set k none).set k (some (y j))) H R)
 (hq:∀(D:Addr) (acc:List V) (H':Hp),H1 D=none->Iv D n acc H'->Qd D H') :
 ∀D,H1 D=none->∃W:Nat->Nat->Hp->Prop,(∃m,W 0 m (upd H1 D (.lst [])))/\∀i m H,W i m H->
  (J.stop i H/\Qd D H)∨(J.go i H/\∃Nx:Hp->Prop,(∀H',Nx H'->∃m',m' < m/\W (i + 1) m' H')/\∀x H',J.yld i H x H'->JX k x (X6 σ [k]) H' fun σ2 H2=>X6 σ2 [k]=X6 σ [k]/\tYes σ2 H2 fun b H3=>
   if b=true then te σ2 H3 fun y H4=>∃acc,H4 D=some (.lst acc)/\acc.length < sizeLine/\Nx (upd H4 D (.lst (acc ++ [y]))) else Nx H3):=by
 intro D hD
 refine ⟨fun i m H=>m=n - i/\i<=n/\∃acc,Iv D i acc H,⟨n,by simp,Ib _,[],h0 D hD⟩,?_⟩
 rintro i m H ⟨rfl,hi,acc,iv⟩
 by_cases hlt:i < n
 ·refine .inr ⟨S.go i H hlt,fun H'=>∃acc,Iv D (i + 1) acc H',fun H' p'=>⟨n - (i + 1),by omega,rfl,hlt,p'⟩,fun x H' hy=>?_⟩
  obtain ⟨e,e2⟩:=S.yld i H x H' hlt hy
  subst e e2
  refine ⟨?_,?_⟩
  ·show ((σ.set k none).set k _).set k none=σ.set k none
   rw [IE,IE]
  ·unfold tYes
   refine YV ?_
   have ha:=hl D i acc _ iv
   exact hf D i acc _ _ hlt hD iv fun x H4 h4 iv4=>⟨acc,h4,by lia,_,iv4⟩
 ·have e:i=n:=by lia
  subst e
  exact .inl ⟨S.stop i H (Oq _),hq D acc H hD iv⟩
end
def WA (l:List Nat) (i:Nat):Nat->Nat
 | 0=>i
 | j + 1=>WA l i j + 1 + l.getD (WA l i j) 0
def ZbZ (l:List Nat) (i j:Nat):List Nat:=(l.drop (WA l i j + 1)).take (l.getD (WA l i j) 0)
theorem ZbM (l:List Nat) (i:Nat):∀j,WA l i (j + 1)=WA l (i + 1 + l.getD i 0) j
 | 0=>rfl
 | j + 1=>by
  show WA l i (j + 1) + 1 + l.getD (WA l i (j + 1)) 0=_
  rw [ZbM l i j]
  rfl
theorem rowAt_succ (l:List Nat) (i j:Nat):ZbZ l i (j + 1)=ZbZ l (i + 1 + l.getD i 0) j:=by
 unfold ZbZ
 rw [ZbM]
theorem posAt_lt (l:List Nat) (i j:Nat):WA l i j < WA l i (j + 1):=by
 show _ < WA l i j + 1 + _
 lia
abbrev IN (l:List Nat):List Int:=l.map fun n:Nat=>(n:Int)
theorem ZcS {l:List Nat} {i:Nat} (h:i < l.length):l.drop i=l.getD i 0 :: l.drop (i + 1):=by
 rw [ID h,Oe,Of h]
 rfl
theorem row_pos {l:List Nat} {i:Nat} {x t:List Int} (h:PyFlat.row (IN (l.drop i))=some (x,t)):i < l.length/\i + 1 + l.getD i 0<=l.length/\x=IN (ZbZ l i 0)/\t=IN (l.drop (i + 1 + l.getD i 0)):=by
 by_cases hi:i < l.length
 ·rw [ZcS hi] at h
  unfold PyFlat.row at h
  simp only [Ie,Ot,Od,OS] at h
  by_cases hc:(0:Int)<=((l.getD i 0:Nat):Int)/\l.getD i 0<=l.length - (i + 1)
  ·rw [if_pos hc] at h
   injection h with h
   injection h with h1 h2
   refine ⟨hi,by omega,?_,?_⟩
   ·rw [<- h1,<- Vl]
    rfl
   ·rw [<- h2,<- VU,VH]
  ·rw [if_neg hc] at h
   exact absurd h (by simp)
 ·rw [O2 (by exact qw6)] at h
  exact absurd h (by simp [PyFlat.row])
theorem rows_pos (l:List Nat):∀(k i:Nat) (xs:List (List Int)) (t:List Int),i<=l.length->PyFlat.rows k (IN (l.drop i))=some (xs,t)->
 (∀j,j < k->WA l i (j + 1)<=l.length)/\xs=(Ob k).map (fun j=>IN (ZbZ l i j))/\t=IN (l.drop (WA l i k))
 | 0,i,xs,t,hi,h=>by
  unfold PyFlat.rows at h
  injection h with h
  injection h with h1 h2
  exact ⟨fun j hj=>absurd hj (Tj j),h1.symm,h2.symm⟩
 | k + 1,i,xs,t,hi,h=>by
  unfold PyFlat.rows at h
  cases hr:PyFlat.row (IN (l.drop i)) with
  | none=>rw [hr] at h; exact absurd h (by simp)
  | some p=>
   obtain ⟨x,s⟩:=p
   rw [hr] at h
   simp only at h
   obtain ⟨p1,p2,p3,p4⟩:=row_pos hr
   rw [p4] at h
   cases hs:PyFlat.rows k (IN (l.drop (i + 1 + l.getD i 0))) with
   | none=>rw [hs] at h; exact absurd h (by simp)
   | some p=>
    obtain ⟨xs',t'⟩:=p
    rw [hs] at h
    simp only at h
    injection h with h
    injection h with h1 h2
    obtain ⟨q1,q2,q3⟩:=rows_pos l k _ _ _ p2 hs
    refine ⟨fun j hj=>?_,?_,?_⟩
    ·cases j with
     | zero=>exact p2
     | succ j=>rw [ZbM]; exact q1 j (by omega)
    ·rw [<- h1,q2,p3,Vj,Ie,O8]
     congr 1
     apply Ia
     intro j _
     show _=IN (ZbZ l i (j + 1))
     rw [rowAt_succ]
    ·rw [<- h2,q3,ZbM]
theorem call_pos {l:List Nat} {i:Nat} {c:List (List Int)} {t:List Int} {sh:Int->Option (Nat×Nat)} (h:PyFlat.call sh (IN (l.drop i))=some (c,t)) :
 ∃n k,i < l.length/\sh ((l.getD i 0:Nat):Int)=some (n,k)/\i + 1 + n<=l.length/\(∀j,j < k->WA l (i + 1 + n) (j + 1)<=l.length)/\
  c=(((l.getD i 0:Nat):Int) :: IN ((l.drop (i + 1)).take n)) :: (Ob k).map (fun j=>IN (ZbZ l (i + 1 + n) j))/\t=IN (l.drop (WA l (i + 1 + n) k)):=by
 by_cases hi:i < l.length
 ·rw [ZcS hi] at h
  unfold PyFlat.call at h
  simp only [Ie] at h
  cases hs:sh ((l.getD i 0:Nat):Int) with
  | none=>rw [hs] at h; exact absurd h (by simp)
  | some p=>
   obtain ⟨n,k⟩:=p
   rw [hs] at h
   simp only [Od,OS] at h
   by_cases hn:l.length - (i + 1) < n
   ·rw [if_pos hn] at h; exact absurd h (by simp)
   ·rw [if_neg hn,<- VU,VH] at h
    cases hr:PyFlat.rows k (IN (l.drop (i + 1 + n))) with
    | none=>rw [hr] at h; exact absurd h (by simp)
    | some p=>
     obtain ⟨xs,t'⟩:=p
     rw [hr] at h
     simp only at h
     injection h with h
     injection h with h1 h2
     obtain ⟨q1,q2,q3⟩:=rows_pos l k _ _ _ (by omega) hr
     refine ⟨n,k,hi,rfl,by omega,q1,?_,?_⟩
     ·rw [<- h1,q2,<- Vl]
     ·rw [<- h2,q3]
 ·rw [O2 (by omega)] at h
  exact absurd h (by simp [PyFlat.call])
def Zex (H:Hp) (qs:List Addr) (rs:List (List Nat)):Prop:=qs.length=rs.length/\∀(j:Nat) (q:Addr),qs[j]?=some q->H q=some (.lst (LN (rs.getD j [])))
def CallAt (C:Addr) (H:Hp) (ca:Addr) (num:Nat) (ws:List Nat) (rs:List (List Nat)) (G:Addr->Prop):Prop:=
 ∃(dx wa ra:Addr) (qs:List Addr),G ca/\G wa/\G ra/\(∀q,q∈qs->G q)/\H ca=some (.ins C dx [("number",N_ num),("wholes",.ref wa),("rows",.ref ra)])/\H wa=some (.lst (LN ws))/\H ra=some (.lst (qs.map V.ref))/\Zex H qs rs
theorem take_more {l:List Nat} {s j:Nat} (h:s + j < l.length):(l.drop s).take (j + 1)=(l.drop s).take j ++ [l.getD (s + j) 0]:=by
 rw [Vd,List.getElem?_drop,Of h,Oe,Of h]
 rfl
theorem But.put {a p:Addr} {H H':Hp} {o:HO} (s:But a H H') (h:H p=none):But a H (L2.upd H' p o):=fun b u n e=>by
 rw [ZN (Zu e h)]
 exact s b u n e
theorem But.at_ {a:Addr} {H H':Hp} {o:HO} (s:But a H H'):But a H (L2.upd H' a o):=fun b u n e=>by
 rw [ZN n]
 exact s b u n e
def spCall (C:Addr):Sp:=fun vs H Q _=>∃(a dx:Addr) (x y z:V),vs=[.ref a,x,y,z]/\H a=some (.ins C dx [])/\Q .non (upd H a (.ins C dx [("number",x),("wholes",y),("rows",z)]))
theorem sc_call_init:Zs ["self","number","wholes","rows"] ["self","number","wholes","rows"] (Zj (Zr (top 127) 0)):=qsc
theorem c_call_init (k:CallK K Wu) (R:RawI K Wu "Call.__init__" (Zr (top 127) 0) ["self","number","wholes","rows"]):XC P w K mg base 1 Wu ["self","number","wholes","rows"] (spCall Wu):=by
 refine R.callee sc_call_init (fun vs H Q E h=>?_) (fun f cdv A outer s H vs Q E hr h=>?_)
 ·walk_at "ln"
 obtain ⟨a,dx,x,y,z,rfl,ha,q⟩:=h
 obtain ⟨k1,k2,k3,k4⟩:=k
 refine ⟨_,(Zb (Z1 K (pv 0) (pv 1)) (Zb (Z1 K (pv 0) (pv 2)) (Zd (Z1 K (pv 0) (pv 3))))),?_⟩
 refine Zo (σ':=[some (.ref a),some x,some y,some z]) rfl ?_
 nofun
 show Q _ _
 rw [Jf,Jf]
 exact q
structure FormsK (P:Program) (w:World) (K:Oa) (mg:Str->Option Value):Prop where
 ex:∃(aF:Addr) (kvs:List (Key×V)),mg "FORMS"=some (.ref aF)/\DictK P w K aF kvs/\∀(z:Int) (n k:Nat),PySy23.shape z=some (n,k)->∃t,valV kvs (.inl z)=some (.ref t)/\Tab K t [n,k]/\n < 100/\k < 100
def Zgv (K:Oa) (C CC:Addr):Sp:=fun vs H Q _=>∃(a dx p:Addr) (i:Nat) (l:List Nat) (n k:Nat),vs=[.ref a]/\H a=some (rdO C dx p i)/\SqL K H p (LN l)/\i < l.length/\PySy23.shape ((l.getD i 0:Nat):Int)=some (n,k)/\i + 1 + n<=l.length/\
 (∀j,j < k->WA l (i + 1 + n) (j + 1)<=l.length)/\∀(H':Hp) (ca:Addr),But a H H'->H ca=none->H' a=some (rdO C dx p (WA l (i + 1 + n) k))->CallAt CC H' ca (l.getD i 0) ((l.drop (i + 1)).take n) ((Ob k).map (ZbZ l (i + 1 + n))) (fun b=>H b=none)->Q (.ref ca) H'
theorem Yw:Zs ["self","number","form","wholes","rows","k"] ["self"] (Zj (Zr (top 128) 4)):=qsc
theorem Zdq (B:Blt mg) (k:Zby K ZG) (mg_Call:mg "Call"=some (.ref Wu)) (FK:FormsK P w K mg) (R:YB K ZG "read_call" "Reader.read_call" (Zr (top 128) 4) ["self"]) (Yu:ZC P w K mg base 1 ZG "read_whole" ["self"] (ZcD K ZG))
 (Q0:ZC P w K mg base 2 ZG "read_row" ["self"] (spReadRow K ZG)) (Zb1:XC P w K mg base 1 Wu ["self","number","wholes","rows"] (spCall Wu)):ZC P w K mg base 3 ZG "read_call" ["self"] (Zgv K ZG Wu):=by
 refine R.callee Yw (fun vs H Q E h=>?_) (fun f cdv A outer s H vs Q E hr h=>?_)
 ·walk_at "ln"
 obtain ⟨a,dx,p,i,l,n,kk,rfl,ha,hp,hi,hsh,hn,hrow,q⟩:=h
 obtain ⟨QP,k2,k3⟩:=k
 obtain ⟨aF,kvs,G_FORMS,hD,hV⟩:=FK.ex
 obtain ⟨t,hv,hT,n100,k100⟩:=hV _ _ _ hsh
 refine ⟨_,(Zb (Zq 1 Yw.nd (QT QP Yu hr (pv 0))) (Zb (Zq 2 Yw.nd (pe_dgetK P w K (Ye G_FORMS) (pv 1))) (Zb (Zd9 (i:=3) rfl Yw.nd rfl rfl (ZfE rfl rfl rfl (by decide +kernel)) (QU rfl B.range (Za (Zy (ZO K) (pv 2) (Zi 0)) Zc)) (Y7 (own:=[("k",5)]) rfl) (fun _ _ _ _ _=>(ZW 5 Yw.nd)) (fun _ _ _ _ _=>Wc) (fun _ _ _ _ _=>(QT QP Yu hr (pv 0)))) (Zb (Zd9 (i:=4) rfl Yw.nd rfl rfl (ZfE rfl rfl rfl (by decide +kernel)) (QU rfl B.range (Za (Zy (ZO K) (pv 2) (Zi 1)) Zc)) (Y7 (own:=[("k",5)]) rfl) (fun _ _ _ _ _=>(ZW 5 Yw.nd)) (fun _ _ _ _ _=>Wc) (fun _ _ _ _ _=>(QT QP Q0 hr (pv 0)))) (Zd (Zk (Zaq mg_Call Zb1 hr (Za (pv 1) (Za (pv 3) (Za (pv 4) Zc)))))))))),?_⟩
 refine Zo (σ':=[some (.ref a),none,none,none,none,none]) rfl ?_
 nofun
 refine ⟨a,dx,p,i,l,rfl,ha,hp,hi,?_⟩
 obtain ⟨H1,e1⟩:∃H1,H1=upd H a (rdO ZG dx p (i + 1)):=⟨_,rfl⟩
 have h1:H1 a=some (rdO ZG dx p (i + 1)):=by rw [e1]; exact Zn
 have b1:But a H H1:=by rw [e1]; exact But.upd H _
 rw [<- e1]
 nofun
 refine ⟨aF,kvs,.inl _,.ref t,rfl,rfl,hD,hv,?_⟩
 nofun
 ·refine ⟨(n:Int),rfl,by exact O0 _,by lia,lc_inv (st_r1 n) (fun D j acc H'=>But a H1 H'/\H' a=some (rdO ZG dx p (i + 1 + j))/\H' D=some (.lst acc)/\acc=LN ((l.drop (i + 1)).take j)/\i + 1 + j<=l.length) (Zp (by lia)) ?_ ?_ ?_ ?_⟩
  ·intro D hD
   refine ⟨ZA.but (Zz (Zl _) hD),?_,Zn,rfl,by exact qw14⟩
   rw [ZN (Zu h1 hD)]
   exact h1
  ·rintro D j acc H' ⟨_,_,_,rfl,hj⟩
   rw [Od,OM,OS]
   lia
  ·rintro D j acc H2 R hj hD ⟨b2,h2,d2,e2,hj2⟩ hR
   nofun
   refine ⟨a,dx,p,i + 1 + j,l,rfl,h2,(b1.trans b2).seq ha hp,by lia,?_⟩
   have nD:D≠a:=(Zu h1 hD).symm
   refine hR _ _ (by rw [ZN nD]; exact d2) ⟨?_,?_,Zn,?_,by lia⟩
   ·exact (b2.at_).put hD
   ·rw [ZN nD.symm,Zn]
    rfl
   ·rw [e2,take_more (by omega),ZcI]
    rfl
  ·rintro W acc H2 hW ⟨b2,h2,d2,e2,hj2⟩
   nofun
   ·have nW:W≠a:=(Zu h1 hW).symm
    obtain ⟨st,est⟩:∃st,st=i + 1 + n:=⟨_,rfl⟩
    rw [<- est] at h2 hn hrow q
    have bw:But a H H2:=b1.trans b2
    refine ⟨(kk:Int),rfl,by exact O0 _,by lia,lc_inv (st_r1 kk) (fun D j acc H'=>But a H2 H'/\H' a=some (rdO ZG dx p (WA l st j))/\H' D=some (.lst acc)/\∃qs:List Addr,acc=qs.map V.ref/\qs.length=j/\∀(m:Nat) (z:Addr),qs[m]?=some z->H z=none/\z≠D/\H' z=some (.lst (LN (ZbZ l st m)))) (Zp (by lia)) ?_ ?_ ?_ ?_⟩
    ·intro D hD
     refine ⟨ZA.but (Zz (Zl _) hD),?_,Zn,[],rfl,rfl,fun m z e=>by simp at e⟩
     rw [ZN (Zu h2 hD)]
     exact h2
    ·rintro D j acc H' ⟨_,_,_,qs,rfl,hq,_⟩
     rw [Od]
     exact hq
    ·rintro D j acc H3 R hj hD ⟨b3,h3,d3,qs,rfl,hq,hqs⟩ hR
     nofun
     have lt:=posAt_lt l st j
     have le:=hrow j hj
     refine ⟨a,dx,p,WA l st j,l,rfl,h3,(bw.trans b3).seq ha hp,by exact qw2,fun H4 z b4 hz h4 z4=>?_⟩
     have nD:D≠a:=(Zu h2 hD).symm
     have nz:z≠D:=(Zu d3 hz).symm
     refine hR _ _ (b4 _ _ nD d3) ⟨(b3.trans b4).put hD,?_,Zn,qs ++ [z],(by rw [Ih]; rfl),(by rw [Og,hq]; rfl),fun m y e=>?_⟩
     ·rw [ZN nD.symm]
      exact h4
     ·by_cases hm:m < qs.length
      ·rw [OZ hm] at e
       obtain ⟨ny0,ny,hy⟩:=hqs m y e
       have na:y≠a:=by
        rintro rfl
        rw [h3] at hy
        simp at hy
       exact ⟨ny0,ny,by rw [ZN ny]; exact b4 _ _ na hy⟩
      ·rw [Ic (by exact qw6)] at e
       have hm0:m - qs.length=0:=by
        cases hk:m - qs.length with
        | zero=>rfl
        | succ x=>rw [hk] at e; simp at e
       rw [hm0] at e
       have ez:z=y:=by simpa using e
       subst ez
       have em:m=j:=by lia
       subst em
       exact ⟨(bw.trans b3).free h3 hz,nz,by rw [ZN nz]; exact z4⟩
    ·rintro D acc H3 hD ⟨b3,h3,d3,qs,rfl,hq,hqs⟩
     nofun
     intro x dy hx hdy nx
     obtain ⟨H4,e4⟩:∃H4,H4=upd H3 dy (.own x):=⟨_,rfl⟩
     have s4:ZA H3 H4:=by rw [e4]; exact Zz (Zl _) hdy
     have hx4:H4 x=none:=by rw [e4,ZN nx.symm]; exact hx
     rw [<- e4]
     refine ⟨x,dy,_,_,_,rfl,Zn,rfl,?_⟩
     rw [Jf]
     have b4:But a H H4:=(bw.trans b3).trans (ZA.but s4)
     have a4:=s4 _ _ h3
     have hx0:=(bw.trans b3).free h3 hx
     have s5:ZA H3 (upd H4 x (.ins Wu dy [("number",N_ (l.getD i 0)),("wholes",.ref W),("rows",.ref D)])):=Zz s4 hx
     refine q _ x (b4.put hx0) hx0 (s5 _ _ h3) ⟨dy,W,D,qs,hx0,b1.free h1 hW,bw.free h2 hD,(fun z hz=>?_),Zn,s5 _ _ (b3 _ _ nW (e2 ▸ d2)),s5 _ _ d3,(by rw [hq,Od,OL]),fun j z e=>?_⟩
     ·obtain ⟨m,hm⟩:=List.getElem?_of_mem hz
      exact (hqs m z hm).1
     have hj:j < kk:=by
      rw [<- hq]
      exact (OB.mp e).1
     have eg:((Ob kk).map (ZbZ l st)).getD j []=ZbZ l st j:=by
      rw [Oe,OP,Ud hj]
      rfl
     rw [eg]
     exact s5 _ _ (hqs j z e).2.2
   ·exact OV (OJ _)
 ·exact OJ _
def Frame (F:Addr->Prop) (H H':Hp):Prop:=∀b o,¬ F b->H b=some o->H' b=some o
structure LineP (LA:Hp->Addr->Io->(Addr->Prop)->Prop):Prop where
 keep:∀{H H':Hp} {la:Addr} {s:Io} {F:Addr->Prop},LA H la s F->(∀b o,F b->H b=some o->H' b=some o)->LA H' la s F
 has:∀{H:Hp} {la:Addr} {s:Io} {F:Addr->Prop} {b:Addr},LA H la s F->F b->∃o,H b=some o
def ZbX (num:Nat) (ws:List Nat) (rs:List (List Nat)):List (List Int):=((num:Int) :: IN ws) :: rs.map IN
def Zeh (LA:Hp->Addr->Io->(Addr->Prop)->Prop) (CC:Addr):Sp:=fun vs H Q _=>∃(la ca:Addr) (s:Io) (F G:Addr->Prop) (num:Nat) (ws:List Nat) (rs:List (List Nat)),vs=[.ref la,.ref ca]/\LA H la s F/\CallAt CC H ca num ws rs G/\(∀b,G b->¬ F b)/\
 Vb (ZbX num ws rs)=true/\∀(H':Hp) (q:Addr) (F':Addr->Prop),Frame F H H'->LA H' la (OT s (ZbX num ws rs)).1 F'->(∀b,F' b->F b∨G b∨H b=none)->H q=none->¬ F' q->H' q=some (.lst (LI (OT s (ZbX num ws rs)).2))->Q (.ref q) H'
set_option hygiene false in
local macro_rules | `(tactic| walk_at "tr")=>`(tactic| repeat' (first | exact hd _ | exact h0 _ _ _ | exact h1 _ _ | exact h2 _ _ | exact h3 _ _ | exact h4 _ _ _ _ | exact h10 _ | exact h11 _ _ _ _ | exact h12 _ | exact h13 _ _ _ | exact h14 _ _ _ _ | exact h15 _ | exact h16 _ _ _ _ | exact h17 _ _ | exact h18 _ | exact h19 _ | exact h20 _ | exact h21 _ | exact h22 _ _ _ | (rcases u with _ | ⟨_,u⟩) | (rcases t with _ | ⟨_,t⟩)))
theorem tree {M:Type} (P:List (List Int)->M->Prop) {f0 f13:Int->Int->List Int->M} {f1 f2 f3:List Int->List Int->M} {f4 f11 f14:Int->Int->Int->List Int->M} {f10 f18 f21:List Int->M} {f12 f15 f19 f20:Int->M} {f16:Int->Int->Int->Int->M} {f17:Int->List Int->M} {f22:List Int->List Int->List Int->M} {fd:List (List Int)->M} (h0:∀x y r,P [[0,x,y],r] (f0 x y r)) (h1:∀r s,P [[1],r,s] (f1 r s)) (h2:∀r s,P [[2],r,s] (f2 r s)) (h3:∀r s,P [[3],r,s] (f3 r s)) (h4:∀x y z r,P [[4,x,y,z],r] (f4 x y z r)) (h10:∀r,P [[10],r] (f10 r)) (h11:∀x y z r,P [[11,x,y,z],r] (f11 x y z r)) (h12:∀x,P [[12,x]] (f12 x)) (h13:∀x y r,P [[13,x,y],r] (f13 x y r)) (h14:∀x y z r,P [[14,x,y,z],r] (f14 x y z r)) (h15:∀x,P [[15,x]] (f15 x)) (h16:∀x y z w,P [[16,x,y,z,w]] (f16 x y z w)) (h17:∀x r,P [[17,x],r] (f17 x r)) (h18:∀r,P [[18],r] (f18 r)) (h19:∀x,P [[19,x]] (f19 x)) (h20:∀x,P [[20,x]] (f20 x)) (h21:∀r,P [[21],r] (f21 r)) (h22:∀r s t,P [[22],r,s,t] (f22 r s t)) (hd:∀c,P c (fd c)) (c:List (List Int)):P c (UX (fun _=>M) c f0 f1 f2 f3 f4 f10 f11 f12 f13 f14 f15 f16 f17 f18 f19 f20 f21 f22 fd):=by
 rcases c with _ | ⟨_ | ⟨n,u⟩,t⟩
 ·exact hd _
 ·exact hd _
 by_cases e0:n=0
 ·subst e0; walk_at "tr"
 by_cases e1:n=1
 ·subst e1; walk_at "tr"
 by_cases e2:n=2
 ·subst e2; walk_at "tr"
 by_cases e3:n=3
 ·subst e3; walk_at "tr"
 by_cases e4:n=4
 ·subst e4; walk_at "tr"
 by_cases e10:n=10
 ·subst e10; walk_at "tr"
 by_cases e11:n=11
 ·subst e11; walk_at "tr"
 by_cases e12:n=12
 ·subst e12; walk_at "tr"
 by_cases e13:n=13
 ·subst e13; walk_at "tr"
 by_cases e14:n=14
 ·subst e14; walk_at "tr"
 by_cases e15:n=15
 ·subst e15; walk_at "tr"
 by_cases e16:n=16
 ·subst e16; walk_at "tr"
 by_cases e17:n=17
 ·subst e17; walk_at "tr"
 by_cases e18:n=18
 ·subst e18; walk_at "tr"
 by_cases e19:n=19
 ·subst e19; walk_at "tr"
 by_cases e20:n=20
 ·subst e20; walk_at "tr"
 by_cases e21:n=21
 ·subst e21; walk_at "tr"
 by_cases e22:n=22
 ·subst e22; walk_at "tr"
 have z:UX (fun _=>M) ((n :: u) :: t) f0 f1 f2 f3 f4 f10 f11 f12 f13 f14 f15 f16 f17 f18 f19 f20 f21 f22 fd=fd ((n :: u) :: t):=by
  delta UX Sy23Neutral.callOf._sparseCasesOn_1 Sy23Neutral.callOf._sparseCasesOn_2
  dsimp only
  refine (dif_neg e0).trans ?_
  refine (dif_neg e1).trans ?_
  refine (dif_neg e2).trans ?_
  refine (dif_neg e3).trans ?_
  refine (dif_neg e4).trans ?_
  refine (dif_neg e10).trans ?_
  refine (dif_neg e11).trans ?_
  refine (dif_neg e12).trans ?_
  refine (dif_neg e13).trans ?_
  refine (dif_neg e14).trans ?_
  refine (dif_neg e15).trans ?_
  refine (dif_neg e16).trans ?_
  refine (dif_neg e17).trans ?_
  refine (dif_neg e18).trans ?_
  refine (dif_neg e19).trans ?_
  refine (dif_neg e20).trans ?_
  refine (dif_neg e21).trans ?_
  refine (dif_neg e22).trans ?_
  rfl
 rw [z]
 exact hd _
theorem whole_id (c:List (List Int)):PySy23.whole c=c:=by
 refine tree (fun c y=>y=c) ?_ ?_ ?_ ?_ ?_ ?_ ?_ ?_ ?_ ?_ ?_ ?_ ?_ ?_ ?_ ?_ ?_ ?_ ?_ c <;> intros <;> rfl
theorem whole_map (cs:List (List (List Int))):cs.map PySy23.whole=cs:=by
 induction cs with
 | nil=>rfl
 | cons c cs ih=>rw [Ie,ih,whole_id]
theorem calls_nil {f:Nat} {sh:Int->Option (Nat×Nat)} {cs:List (List (List Int))} (h:PyFlat.calls sh f []=some cs):cs=[]:=by
 cases f <;> (unfold PyFlat.calls at h; injection h with h; exact h.symm)
theorem calls_cons {f:Nat} {sh:Int->Option (Nat×Nat)} {p:Int} {r:List Int} {cs:List (List (List Int))} (h:PyFlat.calls sh f (p :: r)=some cs) :
 ∃g c t rest,f=g + 1/\PyFlat.call sh (p :: r)=some (c,t)/\PyFlat.calls sh g t=some rest/\cs=c :: rest:=by
 cases f with
 | zero=>unfold PyFlat.calls at h; exact absurd h (by simp)
 | succ g=>
  unfold PyFlat.calls at h
  cases hc:PyFlat.call sh (p :: r) with
  | none=>rw [hc] at h; exact absurd h (by simp)
  | some x=>
   obtain ⟨c,t⟩:=x
   rw [hc] at h
   simp only at h
   cases hs:PyFlat.calls sh g t with
   | none=>rw [hs] at h; exact absurd h (by simp)
   | some rest=>
    rw [hs] at h
    simp only at h
    injection h with h
    exact ⟨g,c,t,rest,rfl,rfl,hs,h.symm⟩
theorem told_cons (a:List Int) (l:List (List Int)):PyFlat.told (a :: l)=((a.length:Nat):Int) :: (a ++ PyFlat.told l):=by
 unfold PyFlat.told
 rw [IS]
 rfl
theorem told_len:∀(s:Io) (cs:List (List (List Int))),(PyFlat.told (PyFlat.played OT s cs)).length=Td s cs + cs.length
 | _,[]=>rfl
 | s,c :: cs=>by
  unfold PyFlat.played
  rw [told_cons,Oz,Og,told_len _ cs,Oz]
  show _=(OT s c).2.length + Td (OT s c).1 cs + (cs.length + 1)
  lia
structure Due (l:List Nat):Prop where
 ex:∃(f:Nat) (cs:List (List (List Int))),PyFlat.calls PySy23.shape f (IN l)=some cs/\cs.all Vb=true/\Td Vi cs + cs.length<=1000200/\PySy23.answers (IN l)=PyFlat.told (PyFlat.played OT Vi cs)
theorem due_of {l:List Nat} (h:PySy23.answers_asked (IN l)=true):Due l:=by
 unfold PySy23.answers_asked at h
 cases hc:PySy23.calls (IN l) with
 | none=>rw [hc] at h; exact absurd h (by simp)
 | some cs=>
  rw [hc] at h
  simp only [Oj,PyFlat.atMost,Sy23Neutral.asked,decide_eq_true_eq] at h
  have hc':=hc
  unfold PySy23.calls at hc
  cases hp:PyFlat.calls PySy23.shape (IN l).length (IN l) with
  | none=>rw [hp] at hc; exact absurd hc (by simp)
  | some cs'=>
   rw [hp] at hc
   simp only [whole_map] at hc
   injection hc with hc
   subst hc
   refine ⟨_,cs',hp,h.2.1,by lia,?_⟩
   unfold PySy23.answers
   rw [hc']
def Held (K:Oa) (F:Addr->Prop) (H:Hp) (p:Addr) (xs:List V):Prop:=(¬ F p/\Rd H p (.lst xs))∨∀H':Hp,SqL K H' p xs
theorem Held.seq {K:Oa} {F:Addr->Prop} {H:Hp} {p:Addr} {xs:List V} (h:Held K F H p xs):SqL K H p xs:=by
 rcases h with h | h
 ·exact .inl h.2
 ·exact h H
theorem Held.to {K:Oa} {F F':Addr->Prop} {H H':Hp} {p:Addr} {xs:List V} (h:Held K F H p xs) (s:¬ F p->∀o,H p=some o->H' p=some o) (f:∀o,¬ F p->H p=some o->¬ F' p):Held K F' H' p xs:=by
 rcases h with ⟨n,h⟩ | h
 ·refine .inl ?_
  rcases h with h | ⟨o,h⟩
  ·exact ⟨f _ n h,.inl (s n _ h)⟩
  ·exact ⟨f _ n h,.inr ⟨o,s n _ h⟩⟩
 ·exact .inr h
theorem calls_pos {f i:Nat} {l:List Nat} {sh:Int->Option (Nat×Nat)} {cs:List (List (List Int))} (hi:i < l.length) (h:PyFlat.calls sh f (IN (l.drop i))=some cs) :
 ∃g c t rest,f=g + 1/\PyFlat.call sh (IN (l.drop i))=some (c,t)/\PyFlat.calls sh g t=some rest/\cs=c :: rest:=by
 have e:IN (l.drop i)=((l.getD i 0:Nat):Int) :: IN (l.drop (i + 1)):=by rw [ZcS hi]; rfl
 rw [e] at h ⊢
 exact calls_cons h
section
variable {P:Program} {w:World} {K:Oa} {mg:Str->Option Value} {base:Heap} {ZG Wu Yf:Addr} {LA:Hp->Addr->Io->(Addr->Prop)->Prop} {k:Nat}
def spLine (LA:Hp->Addr->Io->(Addr->Prop)->Prop) (C:Addr):Sp:=fun vs H Q _=>∃(la dx:Addr),vs=[.ref la]/\H la=some (.ins C dx [])/\∀H':Hp,But la H H'->LA H' la Vi (fun b=>b=la)->Q .non H'
def spAnswers (K:Oa):Sp:=fun vs H Q _=>∃(p:Addr) (l:List Nat),vs=[.ref p]/\SqL K H p (LN l)/\Due l/\∀(H':Hp) (q:Addr),H' q=some (.lst (LI (PySy23.answers (IN l))))->Q (.ref q) H'
theorem Zat:Zs ["calls","reader","line","given","answer"] ["calls"] (Zj (top 150)):=qsc
end
end Oc
namespace Oc
open PySem PySem.Spec PySem.W PyProof.Rows L2
theorem s_ok1 {K:Oa} {H:Hp} {p:Addr} {z:List Int} {E:XK} (hs:SqL K H p (z.map V.int)) (hw:z.all (Codec.inInt 0 18446744073709551615)=true) (hask:PySy23.answers_asked z=true):spAnswers K [.ref p] H (fun v H'=>Dw K H' v (.list ((PySy23.answers z).map WData.int))) E:=by
 have ei:IN (z.map Int.toNat)=z:=by
  show VL _ (VL _ z)=z
  rw [O8]
  conv=>rhs; rw [<- List.map_id z]
  apply Ia
  intro x hx
  have:=(Iw.mp hw) x hx
  have h0:0<=x:=by
   unfold Codec.inInt at this
   simp only [Oj,decide_eq_true_eq] at this
   simp [*]
  show ((x.toNat:Nat):Int)=x
  lia
 have ev:z.map V.int=LN (z.map Int.toNat):=by
  rw [ZcJ]
  exact congrArg (VL V.int) ei.symm
 refine ⟨_,z.map Int.toNat,rfl,ev ▸ hs,due_of (by rw [ei]; exact hask),fun H' p hp=>?_⟩
 rw [ei] at hp
 exact .lst (L2.SqL.of hp) (L2.dw_ints _)
theorem s_ok:∀(K:Oa) (H:Hp) (xs:List V) (a:Codec.denoteAll PySem.Challenge.rw_oncecodes_s01_answers.args),OnlyF H->Codec.withinAll PySem.Challenge.rw_oncecodes_s01_answers.args a=true->Codec.app PySem.Challenge.rw_oncecodes_s01_answers.args PySem.Challenge.rw_oncecodes_s01_answers.asked a=true->Za6 K H xs (Codec.encAll PySem.Challenge.rw_oncecodes_s01_answers.args a)->
 spAnswers K xs H (fun v H'=>Dw K H' v (PySem.Challenge.rw_oncecodes_s01_answers.ret.enc (Codec.app PySem.Challenge.rw_oncecodes_s01_answers.args PySem.Challenge.rw_oncecodes_s01_answers.f a))) fun _ _ _=>False:=by
 intro K H xs a hO hwi hask hx
 cases hx with
 | cons h1 h2=>
  cases h2
  cases h1 with
  | lst hs ha=>
   have e:=L2.ints_dw a.1 _ ha
   subst e
   have q:((Codec.inLen 0 16000 a.1 && a.1.all (Codec.inInt 0 18446744073709551615)) && true)=true:=hwi
   rw [Oj,Oj] at q
   exact s_ok1 hs q.1.2 hask
end Oc
namespace Oc
open PySem PySem.Spec PyProof.Rows L2
variable {P:Program} {w:World} {K:Oa} {mg:Str->Option Value} {base:Heap} {Wu Zg Zm Yf ZG ZS:Addr}
theorem vals3 {x y z:V} {us:List Value} (r:Z8 [x,y,z] us):∃u v w',us=[u,v,w']/\YE x u/\YE y v/\YE z w':=by
 cases r with
 | cons r1 r2=>
  obtain ⟨a,b,rfl,h⟩:=vals2 r2
  exact ⟨_,a,b,rfl,r1,h⟩
def rMax3 (xs:List V) (H:Hp) (Q:VK):Prop:=∃i j k:Int,xs=[.int i,.int j,.int k]/\∀m:Int,(m=i∨m=j∨m=k)->i<=m->j<=m->k<=m->Q (.int m) H
theorem call_max3 {X:Cx} (hc:X.calm=true):WZ X (.builtin "max") rMax3:=by
 intro pins s σ H xs us Q I r h
 obtain ⟨i,j,k,rfl,q⟩:=h
 obtain ⟨u,v,w',rfl,⟨t,rfl⟩,⟨t',rfl⟩,⟨t'',rfl⟩⟩:=vals3 r
 refine max_three_ints (I.ok.hd hc) fun h' tk kp=>?_
 by_cases h1:j > i
 ·rw [if_pos h1]
  by_cases h2:k > j
  ·rw [if_pos h2]
   exact ⟨.int k,H,I.kept kp,⟨_,rfl⟩,q k (by simp) (by lia) (by lia) (by simp)⟩
  ·rw [if_neg h2]
   exact ⟨.int j,H,I.kept kp,⟨_,rfl⟩,q j (by simp) (by lia) (by simp) (by lia)⟩
 ·rw [if_neg h1]
  by_cases h2:k > i
  ·rw [if_pos h2]
   exact ⟨.int k,H,I.kept kp,⟨_,rfl⟩,q k (by omega) (by lia) (by lia) (by omega)⟩
  ·rw [if_neg h2]
   exact ⟨.int i,H,I.kept kp,⟨_,rfl⟩,q i (by simp) (by simp) (by lia) (by lia)⟩
theorem rg_one {lo hi:Nat} (hl:lo < 2 ^ 61) (hh:hi < 2 ^ 61):RgC (lo:Int) (hi:Int) 1 (hi - lo):=by
 refine ⟨by decide,by simp [*],Zgp (by lia) (by lia) (by lia) (by lia) (by omega) (by decide),?_⟩
 unfold Builtin.Range.rangeSize
 rw [if_pos (by exact O0 _)]
 by_cases h:lo < hi
 ·rw [if_pos (by exact qw37)]
  lia
 ·rw [if_neg (by simp [*])]
  omega
def rLR2 (vs:List V) (H:Hp) (Q:VK):Prop:=∃lo hi:Nat,vs=[N_ lo,N_ hi]/\lo < 2 ^ 61/\hi < 2 ^ 61/\hi - lo<=1000/\∀l,H l=none->Q (.ref l) (upd H l (.lst (LN ((Ob (hi - lo)).map fun k=>lo + k))))
def tLR2 (ta:TA):TE:=fun σ H Q=>ta σ H fun vs H1=>rLR2 vs H1 Q
section
variable {X:Cx}
theorem pe_listR2 {a b:Expr} {ta:TA} {p p2 pos pos2:Pos} (hgl:Gl X "list") (hml:X.mg "list"=none) (hg:Gl X "range") (hm:X.mg "range"=none) (hc:X.calm=true) (ha:PA X [a,b] ta)
 (hs:starEach [a,b] X.env=(false,eval a X.env) :: starEach [b] X.env:=by rfl) (hpl:(backTo pos2 (starEach [b] X.env)).any (·.1)=false:=by rfl)
 (hs2:starEach [.Call (.Name "range" p2) [a,b] [] pos2] X.env=[(false,eval (.Call (.Name "range" p2) [a,b] [] pos2) X.env)]:=by rfl) :
 PE X (.Call (.Name "list" p) [.Call (.Name "range" p2) [a,b] [] pos2] [] pos) (tLR2 ta):=by
 intro pins s σ H Q I h
 refine wpAny_Call_Name_kw (QF I hgl hml PyProof.Rows.boot_list ?_)
 refine OQ (rest:=[]) ?_ hs2 rfl
 rw [hs2]
 show wpAny _ _ (spliced ((false,eval (.Call (.Name "range" p2) [a,b] [] pos2) X.env) :: backTo pos [])) _ _ s
 refine Calls.spliced_cons ?_
 refine Call_ (QF I hg hm boot_range (OQ (thn (ha pos2 pins s σ H _ I h) fun us s1 ⟨vs,H1,I1,r1,q1⟩=>?_) hs hpl))
 obtain ⟨lo,hi,rfl,h1,h2,hl,q⟩:=q1
 obtain ⟨u,v,rfl,⟨t,rfl⟩,⟨t',rfl⟩⟩:=vals2 r1
 refine call_range_2 ?_
 obtain ⟨c0,c1,c2,c3⟩:=rg_one h1 h2
 refine Calls.spliced_nil (Zap I1 hc c2 c3 hl fun l hl'=>?_)
 have el:((Ob (hi - lo)).map fun k:Nat=>V.int ((lo:Int) + (k:Int) * 1))=LN ((Ob (hi - lo)).map fun k=>lo + k):=by
  show _=VL N_ (VL _ _)
  rw [O8]
  exact Ia fun k _=>congrArg V.int (by show (lo:Int) + (k:Int) * 1=((lo + k:Nat):Int); lia)
 rw [el]
 exact q l hl'
end
theorem rd_lr2 {ta:TA} {σ:St} {H:Hp} {Q:VK} (h:ta σ H fun vs H1=>rLR2 vs H1 Q):tLR2 ta σ H Q:=h
def rEqL (K:Oa) (x y:V) (H:Hp) (Q:VK):Prop:=∃(p r:Addr) (l m:List Nat),x=.ref p/\y=.ref r/\SqL K H p (LN l)/\SqL K H r (LN m)/\Q (.bl (decide (l=m))) H
def dN (l:List Nat):List PyData:=l.map fun n:Nat=>PyData.int (n:Int)
theorem dp_all {K:Oa} {H:Hp}:∀l:List Nat,DpAll K H (LN l) (dN l)
 | []=>.nil
 | n :: l=>.cons (.int n) (dp_all l)
theorem eqv_all:∀l m:List Nat,PyData.eqvAll (dN l) (dN m)=decide (l=m)
 | [],[]=>rfl
 | [],_ :: _=>rfl
 | _ :: _,[]=>rfl
 | a :: l,b :: m=>by
  have e:PyData.eqvAll (dN (a :: l)) (dN (b :: m))=(PyData.eqv (.int (a:Int)) (.int (b:Int)) && PyData.eqvAll (dN l) (dN m)):=by
   show PyData.eqvAll (_ :: _) (_ :: _)=_
   rw [PyData.eqvAll]
   rfl
  have e2:PyData.eqv (.int (a:Int)) (.int (b:Int))=decide (a=b):=by
   rw [PyData.eqv,OU,beq_iff_eq,decide_eq_true_eq]
   lia
  rw [e,e2,eqv_all l m,OU,Oj,decide_eq_true_eq,decide_eq_true_eq,decide_eq_true_eq,List.cons.injEq]
theorem lay_dN:∀l:List Nat,PyData.canLayAll0 (dN l)=true
 | []=>by rw [show dN []=[] from rfl,PyData.canLayAll0]
 | n :: l=>by
  rw [show dN (n :: l)=PyData.int (n:Int) :: dN l from rfl,PyData.canLayAll0,lay_dN l,PyData.canLay0]
  rfl
theorem depth_dN:∀l:List Nat,PyData.depthAll (dN l)=0
 | []=>by rw [show dN []=[] from rfl,PyData.depthAll]
 | n :: l=>by
  rw [show dN (n :: l)=PyData.int (n:Int) :: dN l from rfl,PyData.depthAll,depth_dN l,PyData.depth]
  rfl
theorem shaped_dN (l:List Nat):SeqAt.shaped (.list (dN l))=true:=by
 unfold SeqAt.shaped
 rw [PyData.canLay0,lay_dN,PyData.depth,depth_dN]
 rfl
theorem on_eqL {X:Cx} (K:Oa) (hr:Qa 0 X.A) (h:X.K=K:=by rfl):OpR X (compareOp .Eq) (rEqL K):=by
 subst h
 refine ZdA (op_eqD (by have:=hr.un; lia)) fun x y H Q ⟨p,r,l,m,h1,h2,h3,h4,q⟩=>⟨.list (dN l),.list (dN m),?_,?_,shaped_dN l,shaped_dN m,?_⟩
 ·rw [h1]; exact .lst h3 (dp_all l)
 ·rw [h2]; exact .lst h4 (dp_all m)
 ·rw [PyData.eqv,eqv_all]
  exact q
theorem rd_eqL {K:Oa} {p r:Addr} {l m:List Nat} {H:Hp} {Q:VK} (h1:SqL K H p (LN l)) (h2:SqL K H r (LN m)) (q:Q (.bl (decide (l=m))) H):rEqL K (.ref p) (.ref r) H Q:=⟨p,r,l,m,rfl,rfl,h1,h2,q⟩
abbrev hoO (C dx sa:Addr) (x:Oy):HO:=.ins C dx [("secret",.ref sa),("step",N_ x.step),("digits",N_ x.digits),("counter",N_ x.next),("failed",N_ x.failed),("until",N_ x.till),("earned",N_ (if x.earned=true then 1 else 0)),("floor",N_ x.floor)]
structure Xn (x:Oy):Prop where
 s16:16<=x.secret.length
 s64:x.secret.length<=64
 byt:Ol x.secret
 step:x.step<=3600
 d6:6<=x.digits
 d8:x.digits<=8
 next:x.next<=2 ^ 60 + 101
 failed:x.failed<=2 ^ 31 - 1
 till:x.till<=2 ^ 40 + 60
 floor:x.floor<=2 ^ 60
structure Y2 (K:Oa) (C:Addr):Prop where
 cl:Cls K C
 n1:Ym K C "secret"
 n2:Ym K C "step"
 n3:Ym K C "digits"
 n4:Ym K C "counter"
 n5:Ym K C "failed"
 n6:Ym K C "until"
 n7:Ym K C "earned"
 n8:Ym K C "floor"
theorem good_timed {x:Oy} {now:Nat} (h:x.step≠0) {lo:Nat} (h1:now / x.step - 1<=lo) (h2:x.next<=lo) (h3:lo=now / x.step - 1∨lo=x.next) :
 x.good now=(Ob (now / x.step + 2 - lo)).map fun k=>lo + k:=by
 unfold Vr
 rw [if_neg h]
 generalize now / x.step=c at *
 generalize x.next=nx at *
 have e3:(Ob 3).map (fun i=>c + i)=[c,c + 1,c + 2]:=rfl
 rw [e3]
 simp only [U0,List.filterMap_nil]
 by_cases a1:c=0∨c - 1 < nx
 ·rw [if_pos a1]
  by_cases a2:c + 1=0∨c + 1 - 1 < nx
  ·rw [if_pos a2]
   by_cases a3:c + 2=0∨c + 2 - 1 < nx
   ·rw [if_pos a3,show c + 2 - lo=0 by lia]
    rfl
   ·rw [if_neg a3,show c + 2 - lo=1 by omega,show lo=c + 2 - 1 by lia]
    rfl
  ·rw [if_neg a2]
   have a3:¬ (c + 2=0∨c + 2 - 1 < nx):=by lia
   rw [if_neg a3,show c + 2 - lo=2 by omega,show lo=c + 1 - 1 by lia]
   rfl
 ·rw [if_neg a1]
  have a2:¬ (c + 1=0∨c + 1 - 1 < nx):=by lia
  have a3:¬ (c + 2=0∨c + 2 - 1 < nx):=by omega
  rw [if_neg a2,if_neg a3,show c + 2 - lo=3 by omega,show lo=c - 1 by lia]
  have e:(Ob 3).map (fun k=>c - 1 + k)=[c - 1 + 0,c - 1 + 1,c - 1 + 2]:=rfl
  rw [e,show c - 1 + 0=c - 1 by simp,show c - 1 + 1=c + 1 - 1 by lia,show c - 1 + 2=c + 2 - 1 by lia]
theorem good_counted {x:Oy} {now:Nat} (h:x.step=0):x.good now=(Ob (x.next + 10 - x.next)).map fun k=>x.next + k:=by
 unfold Vr
 rw [if_pos h,show x.next + 10 - x.next=10 by simp]
def Zgs (C:Addr):Sp:=fun vs H Q _=>∃(a dx sa:Addr) (step digits first floor:Nat) (sec:Sy23.B),vs=[.ref a,.ref sa,N_ step,N_ digits,N_ first,N_ floor]/\H a=some (.ins C dx [])/\Q .non (upd H a (hoO C dx sa ⟨sec,step,digits,first,0,0,false,floor⟩))
theorem Zgh:Zs ["self","secret","step","digits","first","floor"] ["self","secret","step","digits","first","floor"] (Zj (Zr (top 33) 0)):=qsc
theorem ZgO (k:Y2 K Zg) (R:RawI K Zg "Holder.__init__" (Zr (top 33) 0) ["self","secret","step","digits","first","floor"]):XC P w K mg base 1 Zg ["self","secret","step","digits","first","floor"] (Zgs Zg):=by
 refine R.callee Zgh (fun vs H Q E h=>?_) (fun f cdv A outer s H vs Q E hr h=>?_)
 ·walk_at "ln"
 obtain ⟨a,dx,sa,step,digits,first,floor,sec,rfl,ha,q⟩:=h
 obtain ⟨k0,k1,k2,k3,k4,k5,k6,k7,k8⟩:=k
 refine ⟨_,(Zb (Z1 K (pv 0) (pv 1)) (Zb (Z1 K (pv 0) (pv 2)) (Zb (Z1 K (pv 0) (pv 3)) (Zb (Z1 K (pv 0) (pv 4)) (Zb (Z1 K (pv 0) (Zi 0)) (Zb (Z1 K (pv 0) (Zi 0)) (Zb (Z1 K (pv 0) (Zi 0)) (Zd (Z1 K (pv 0) (pv 5)))))))))),?_⟩
 refine Zo (σ':=[some (.ref a),some (.ref sa),some (N_ step),some (N_ digits),some (N_ first),some (N_ floor)]) rfl ?_
 nofun
 show Q _ _
 simp only [Jf]
 exact q
def spGood (C:Addr):Sp:=fun vs H Q _=>∃(a dx sa:Addr) (x:Oy) (now:Nat),vs=[.ref a,N_ now]/\H a=some (hoO C dx sa x)/\Xn x/\now<=2 ^ 40/\∀l,H l=none->Q (.ref l) (upd H l (.lst (LN (x.good now))))
theorem QW:Zs ["self","now","count"] ["self","now"] (Zj (Zr (top 33) 1)):=qsc
theorem ZbE (B:Blt mg) (Zc9:ZU mg "CODES_AHEAD" 10) (k:Y2 K Zg) (R:YB K Zg "good_counters" "Holder.good_counters" (Zr (top 33) 1) ["self","now"]):ZC P w K mg base 1 Zg "good_counters" ["self","now"] (spGood Zg):=by
 refine R.callee QW (fun vs H Q E h=>?_) (fun f cdv A outer s H vs Q E hr h=>?_)
 ·walk_at "ln"
 obtain ⟨a,dx,sa,x,now,rfl,ha,ok,hn,q⟩:=h
 obtain ⟨k0,k1,k2,k3,k4,k5,k6,k7,k8⟩:=k
 refine ⟨_,(Zb (ZM (ZP XW (Zt K (pv 0)) (Zi 0) (ZR _)) (Zd (Zk (pe_listR2 rfl B.list rfl B.range rfl (Za (Zt K (pv 0)) (Za (Zf Z7 (Zt K (pv 0)) (ZT Zc9)) Zc))))) Zx) (Zb (Zq 2 QW.nd (Zf ZeO (pv 1) (Zt K (pv 0)))) (Zd (Zk (pe_listR2 rfl B.list rfl B.range rfl (Za (ZL (call_max3 rfl) rfl B.max boot_max (Za (Zf op_sub (pv 2) (Zi 1)) (Za (Zt K (pv 0)) (Za (Zi 0) Zc)))) (Za (Zf Z7 (pv 2) (Zi 2)) Zc))))))),?_⟩
 refine Zo (σ':=[some (.ref a),some (N_ now),none]) rfl ?_
 nofun
 have hnx:=ok.next
 refine dif (fun h1=>?_) (fun h1=>?_)
 ·nofun
  refine ⟨_,_,rfl,by exact ZbO,by lia,by simp,fun l hl=>?_⟩
  rw [<- good_counted h1]
  exact q l hl
 ·nofun
  ·refine ⟨_,_,_,rfl,fun m hm g1 g2 g3=>?_⟩
   obtain ⟨lo,rfl⟩:∃lo:Nat,m=(lo:Int):=⟨m.toNat,by lia⟩
   nofun
   have hd:=Uq now x.step
   refine ⟨lo,_,rfl,by lia,by lia,by omega,fun l hl=>?_⟩
   rw [<- good_timed h1 (lo:=lo) (by omega) (by lia) (by omega)]
   exact q l hl
  ·have:=ok.step
   lia
def spMatch (K:Oa) (C:Addr):Sp:=fun vs H Q _=>∃(a dx sa cp:Addr) (x:Oy) (now:Nat) (c:Sy23.B),vs=[.ref a,N_ now,.ref cp]/\H a=some (hoO C dx sa x)/\H sa=some (.lst (LN x.secret))/\Xn x/\now<=2 ^ 40/\SqL K H cp (LN c)/\
 (∀k H',x.finds now c=some k->ZA H H'->Q (N_ k) H')/\∀H',x.finds now c=none->ZA H H'->Q .non H'
theorem good_le {x:Oy} {now k:Nat} (ok:Xn x) (hn:now<=2 ^ 40) (h:k∈x.good now):k<=2 ^ 60 + 111:=by
 have hx:=ok.next
 unfold Vr at h
 split at h
 ·obtain ⟨i,hi,rfl⟩:=OK.mp h
  have:=OR.mp hi
  lia
 ·obtain ⟨c,hc,e⟩:=U4.mp h
  obtain ⟨i,hi,rfl⟩:=OK.mp hc
  have:=OR.mp hi
  have hd:=Uq now x.step
  split at e
  ·exact absurd e (by simp)
  ·injection e with e
   omega
theorem Xr:Zs ["self","now","code","states","counter"] ["self","now","code"] (Zj (Zr (top 33) 2)):=qsc
theorem ZaA (B:Blt mg) (k:Y2 K Zg) (R:YB K Zg "matching_counter" "Holder.matching_counter" (Zr (top 33) 2) ["self","now","code"]) (X8:ZC P w K mg base 1 Zg "good_counters" ["self","now"] (spGood Zg)) (Wf:Zh P w K mg base 4 "code_of" ["states","counter","digits"] (spCode K)) (YC:Zh P w K mg base 4 "secret_states" ["secret"] Zej) :
 ZC P w K mg base 5 Zg "matching_counter" ["self","now","code"] (spMatch K Zg):=by
 refine R.callee Xr (fun vs H Q E h=>?_) (fun f cdv A outer s H vs Q E hr h=>?_)
 ·walk_at "ln"
 obtain ⟨a,dx,sa,cp,x,now,c,rfl,ha,hs,ok,hn,hc,qs,qn⟩:=h
 obtain ⟨YG,k1,k2,k3,k4,k5,k6,k7,k8⟩:=k
 refine ⟨_,(Zb (ZM (ZP on_ne (ZL (ZQ K) rfl B.len Ox (Za (pv 2) Zc)) (Zt K (pv 0)) (ZR _)) (Zd (Zk Qe)) Zx) (Zb (Zq 3 Xr.nd (Ze YC hr (Za (Zt K (pv 0)) Zc))) (Zb (Xx PassesOwn.never rfl (YW K (Z9 YG X8 hr (pv 0) (Za (pv 1) Zc))) (ZW 4 Xr.nd) (Zd (ZM (ZP (on_eqL K (hr.mono (by decide))) (Ze Wf hr (Za (pv 3) (Za (pv 4) (Za (Zt K (pv 0)) Zc)))) (pv 2) (ZR _)) (Zd (Zk (pv 4))) Zx))) (Zd (Zk Qe))))),?_⟩
 refine Zo (σ':=[some (.ref a),some (N_ now),some (.ref cp),none,none]) rfl ?_
 nofun
 by_cases hlen:c.length=x.digits
 case neg=>
  rw [decide_eq_false hlen]
  refine YV ?_
  nofun
  refine qn _ ?_ (Zl _)
  unfold VY
  rw [if_neg hlen]
 ·rw [decide_eq_true hlen]
  refine Xc ?_
  nofun
  have hsec:JC x.secret:=⟨ok.s64,ok.byt⟩
  refine ⟨sa,x.secret,rfl,hs,hsec,fun H1 g y z s1 hg hy hz=>?_⟩
  have a1:=s1 _ _ ha
  nofun
  refine ⟨a,dx,sa,x,now,rfl,s1 _ _ ha,ok,hn,fun gl hgl=>?_⟩
  obtain ⟨H2,e2,s2,t2,g2,-⟩:=YJ (.lst (LN (x.good now))) s1 hgl
  rw [e2]
  have g2':SqL K H2 gl (LN (x.good now)):=SqL.of g2
  obtain ⟨-,-,-,x1⟩:=WW hsec (mask:=54) (by decide) rfl
  obtain ⟨-,-,-,x2⟩:=WW hsec (mask:=92) (by decide) rfl
  have ef:x.finds now c=(x.good now).find? fun k:Nat=>decide (IW x.secret k x.digits=c):=by
   unfold VY
   rw [if_pos hlen]
  refine YX g2' ?_
  refine JD (K:=K) (a:=gl) (xs:=LN (x.good now)) (fun i σ H'=>ZA H2 H'/\x.finds now c=((x.good now).drop i).find? (fun k:Nat=>decide (IW x.secret k x.digits=c))/\∃v,σ=[some (.ref a),some (N_ now),some (.ref cp),some (.ref g),v]) ⟨Zl _,ef,none,rfl⟩ (fun i σ H' _ ⟨e,_⟩=>e.seq g2') ?_ ?_
  ·rintro i y' σ H3 hi ⟨s3,ei,v,rfl⟩
   obtain ⟨hi',rfl⟩:=ZcK hi
   have s13:ZA H1 H3:=t2.trans s3
   have a3:=s13 _ _ a1
   nofun
   have hmem:(x.good now).getD i 0∈x.good now:=by
    rw [Oe,Of hi']
    exact Uw hi'
   have hle:=good_le ok hn hmem
   have d6:=ok.d6
   have d8:=ok.d8
   refine ⟨g,y,z,_,_,(x.good now).getD i 0,x.digits,rfl,s13 _ _ hg,s13 _ _ hy,s13 _ _ hz,x1,x2,by exact ZbO,by lia,by exact qw41,fun H4 cz s4 n4 h4=>?_⟩
   rw [Zfu hsec (by omega)] at h4
   nofun
   refine rd_eqL (SqL.of h4) ((((s1.trans s13).trans s4)).seq hc) ?_
   nofun
   rw [ZcS hi',Up] at ei
   by_cases hm:IW x.secret ((x.good now).getD i 0) x.digits=c
   ·rw [decide_eq_true hm] at ei ⊢
    refine YV ?_
    nofun
    exact qs _ _ ei ((s1.trans s13).trans s4)
   ·rw [decide_eq_false hm] at ei ⊢
    refine Xc ?_
    nofun
    exact ⟨s3.trans s4,ei,_,rfl⟩
  ·rintro σ H3 ⟨s3,ei,v,rfl⟩
   rw [Od,List.drop_length] at ei
   nofun
   exact qn _ ei (s2.trans s3)
def spSucceed (C:Addr):Sp:=fun vs H Q _=>∃(a dx sa:Addr) (x:Oy) (c:Nat),vs=[.ref a,N_ c]/\H a=some (hoO C dx sa x)/\Q .non (upd H a (hoO C dx sa (x.well c)))
theorem Zed:Zs ["self","counter"] ["self","counter"] (Zj (Zr (top 33) 5)):=qsc
theorem ZeE (k:Y2 K Zg) (R:YB K Zg "succeed" "Holder.succeed" (Zr (top 33) 5) ["self","counter"]):ZC P w K mg base 1 Zg "succeed" ["self","counter"] (spSucceed Zg):=by
 refine R.callee Zed (fun vs H Q E h=>?_) (fun f cdv A outer s H vs Q E hr h=>?_)
 ·walk_at "ln"
 obtain ⟨a,dx,sa,x,c,rfl,ha,q⟩:=h
 obtain ⟨k0,k1,k2,k3,k4,k5,k6,k7,k8⟩:=k
 refine ⟨_,(Zb (Z1 K (pv 0) (pv 1)) (Zb (Z1 K (pv 0) (Zi 0)) (Zd (Z1 K (pv 0) (Zi 1))))),?_⟩
 refine Zo (σ':=[some (.ref a),some (N_ c)]) rfl ?_
 nofun
 show Q _ _
 simp only [Jf]
 exact q
def spFail (C:Addr):Sp:=fun vs H Q _=>∃(a dx sa:Addr) (x:Oy) (now:Nat),vs=[.ref a,N_ now]/\H a=some (hoO C dx sa x)/\Q .non (upd H a (hoO C dx sa (x.wrong now)))
theorem Zgg:Zs ["self","now"] ["self","now"] (Zj (Zr (top 33) 6)):=qsc
theorem ZgN (B:Blt mg) (Jy:ZU mg "LAST_FAILED" 2147483647) (Zai:ZU mg "FAILURES_TO_LOCK" 5) (J1:ZU mg "LOCKED_FOR" 60) (k:Y2 K Zg) (R:YB K Zg "fail" "Holder.fail" (Zr (top 33) 6) ["self","now"]):ZC P w K mg base 1 Zg "fail" ["self","now"] (spFail Zg):=by
 refine R.callee Zgg (fun vs H Q E h=>?_) (fun f cdv A outer s H vs Q E hr h=>?_)
 ·walk_at "ln"
 obtain ⟨a,dx,sa,x,now,rfl,ha,q⟩:=h
 obtain ⟨k0,k1,k2,k3,k4,k5,k6,k7,k8⟩:=k
 refine ⟨_,(Zb (Z1 K (pv 0) (ZL (call_min2 rfl) rfl B.min boot_min (Za (Zf Z7 (Zt K (pv 0)) (Zi 1)) (Za (ZT Jy) Zc)))) (Zd (ZM (ZP on_ge (Zt K (pv 0)) (ZT Zai) (ZR _)) (Zd (Z1 K (pv 0) (Zf Z7 (pv 1) (ZT J1)))) Zx))),?_⟩
 refine Zo (σ':=[some (.ref a),some (N_ now)]) rfl ?_
 nofun
 refine ⟨_,_,rfl,?_⟩
 have em:(if ((2147483647:Nat):Int) < ((x.failed + 1:Nat):Int) then ((2147483647:Nat):Int) else ((x.failed + 1:Nat):Int))=((min UE (x.failed + 1):Nat):Int):=by
  unfold UE
  split <;> lia
 rw [em]
 nofun
 generalize eH:upd H a (HO.ins Zg dx (X5 "failed" (V.int ((min UE (x.failed + 1):Nat):Int)) [("secret",.ref sa),("step",N_ x.step),("digits",N_ x.digits),("counter",N_ x.next),("failed",N_ x.failed),("until",N_ x.till),("earned",N_ (if x.earned=true then 1 else 0)),("floor",N_ x.floor)]))=H1
 have e1:H1=upd H a (hoO Zg dx sa { x with failed:=min UE (x.failed + 1) }):=eH.symm
 have a1:H1 a=some (hoO Zg dx sa { x with failed:=min UE (x.failed + 1) }):=by rw [e1]; exact Zn
 nofun
 have hc:(5<=min UE (x.failed + 1))↔5<=x.failed + 1:=by
  unfold UE
  omega
 refine dif (fun h1=>?_) (fun h1=>?_)
 ·nofun
  show Q _ _
  rw [e1,Jf]
  unfold TM at q
  rw [if_pos (hc.mp h1)] at q
  exact q
 ·nofun
  show Q _ _
  rw [e1]
  unfold TM at q
  rw [if_neg (fun h=>h1 (hc.mpr h))] at q
  exact q
def Ze1 (C:Addr):Sp:=fun vs H Q _=>∃(a dx sa:Addr) (x:Oy) (now:Nat),vs=[.ref a,N_ now]/\H a=some (hoO C dx sa x)/\(now < x.till->Q (.int (-4)) H)/\(¬ now < x.till->2 ^ 60 < x.next->Q (.int (-6)) H)/\(¬ now < x.till->¬ 2 ^ 60 < x.next->Q .non H)
theorem Zec:Zs ["self","now"] ["self","now"] (Zj (Zr (top 33) 4)):=qsc
theorem ZeD (QL:Xv mg "NOT_NOW" (-4)) (QM:Xv mg "NO_ROOM" (-6)) (Q1:ZU mg "LAST_COUNTER" 1152921504606846976) (k:Y2 K Zg) (R:YB K Zg "refusal" "Holder.refusal" (Zr (top 33) 4) ["self","now"]):ZC P w K mg base 1 Zg "refusal" ["self","now"] (Ze1 Zg):=by
 refine R.callee Zec (fun vs H Q E h=>?_) (fun f cdv A outer s H vs Q E hr h=>?_)
 ·walk_at "ln"
 obtain ⟨a,dx,sa,x,now,rfl,ha,q1,q2,q3⟩:=h
 obtain ⟨k0,k1,k2,k3,k4,k5,k6,k7,k8⟩:=k
 refine ⟨_,(Zb (ZM (ZP Zdb (pv 1) (Zt K (pv 0)) (ZR _)) (Zd (Zk (YM QL))) Zx) (Zb (ZM (ZP on_gt (Zt K (pv 0)) (ZT Q1) (ZR _)) (Zd (Zk (YM QM))) Zx) (Zd (Zk Qe)))),?_⟩
 refine Zo (σ':=[some (.ref a),some (N_ now)]) rfl ?_
 nofun
 refine dif (fun h1=>?_) (fun h1=>?_)
 ·nofun
  exact q1 h1
 ·nofun
  refine dif (fun h2=>?_) (fun h2=>?_)
  ·nofun
   exact q2 h1 h2
  ·nofun
   exact q3 h1 h2
def optV:Option Nat->V
 | none=>.non
 | some k=>N_ k
def Zgw (C:Addr):Sp:=fun vs H Q _=>∃(a dx sa:Addr) (x:Oy) (now used:Nat) (o:Option Nat),vs=[.ref a,N_ now,optV o,N_ used]/\H a=some (hoO C dx sa x)/\(o=none->Q (N_ 0) (upd H a (hoO C dx sa (x.wrong now))))/\∀k,o=some k->Q (N_ 1) (upd H a (hoO C dx sa (x.well (k + used))))
theorem ZeX:Zs ["self","now","counter","used"] ["self","now","counter","used"] (Zj (Zr (top 33) 7)):=qsc
theorem Zfk (k:Y2 K Zg) (R:YB K Zg "settle" "Holder.settle" (Zr (top 33) 7) ["self","now","counter","used"]) (ZaU:ZC P w K mg base 1 Zg "fail" ["self","now"] (spFail Zg)) (Jm:ZC P w K mg base 1 Zg "succeed" ["self","counter"] (spSucceed Zg)) :
 ZC P w K mg base 2 Zg "settle" ["self","now","counter","used"] (Zgw Zg):=by
 refine R.callee ZeX (fun vs H Q E h=>?_) (fun f cdv A outer s H vs Q E hr h=>?_)
 ·walk_at "ln"
 obtain ⟨a,dx,sa,x,now,used,o,rfl,ha,q1,q2⟩:=h
 obtain ⟨YG,k1,k2,k3,k4,k5,k6,k7,k8⟩:=k
 refine ⟨_,(Zb (ZM (XT (Wq (pv 2))) (Zb (Xh (Z9 YG ZaU hr (pv 0) (Za (pv 1) Zc))) (Zd (Zk (Zi 0)))) Zx) (Zb (Xh (Z9 YG Jm hr (pv 0) (Za (Zf Z7 (pv 2) (pv 3)) Zc))) (Zd (Zk (Zi 1))))),?_⟩
 refine Zo (σ':=[some (.ref a),some (N_ now),some (optV o),some (N_ used)]) rfl ?_
 nofun
 cases o with
 | none=>
  rw [decide_eq_true (show optV none=.non from rfl)]
  nofun
  refine YV ?_
  nofun
  refine ⟨a,dx,sa,x,now,rfl,ha,?_⟩
  nofun
  exact q1 rfl
 | some k=>
  rw [decide_eq_false (show ¬ optV (some k)=.non from fun h=>V.noConfusion h)]
  dsimp only [optV]
  nofun
  refine Xc ?_
  nofun
  refine ⟨a,dx,sa,x,k + used,rfl,ha,?_⟩
  nofun
  exact q2 k rfl
def spTake (K:Oa) (C:Addr):Sp:=fun vs H Q _=>∃(a dx sa cp:Addr) (x:Oy) (now:Nat) (c:Sy23.B),vs=[.ref a,N_ now,.ref cp]/\H a=some (hoO C dx sa x)/\H sa=some (.lst (LN x.secret))/\Xn x/\now<=2 ^ 40/\SqL K H cp (LN c)/\
 (∀k H',x.finds now c=some k->But a H H'->H' a=some (hoO C dx sa (x.well (k + 1)))->Q (N_ 1) H')/\∀H',x.finds now c=none->But a H H'->H' a=some (hoO C dx sa (x.wrong now))->Q (N_ 0) H'
theorem Zc7:Zs ["self","now","code"] ["self","now","code"] (Zj (Zr (top 33) 8)):=qsc
theorem Zdj (k:Y2 K Zg) (R:YB K Zg "take_code" "Holder.take_code" (Zr (top 33) 8) ["self","now","code"]) (Xw:ZC P w K mg base 5 Zg "matching_counter" ["self","now","code"] (spMatch K Zg)) (Xy:ZC P w K mg base 2 Zg "settle" ["self","now","counter","used"] (Zgw Zg)) :
 ZC P w K mg base 6 Zg "take_code" ["self","now","code"] (spTake K Zg):=by
 refine R.callee Zc7 (fun vs H Q E h=>?_) (fun f cdv A outer s H vs Q E hr h=>?_)
 ·walk_at "ln"
 obtain ⟨a,dx,sa,cp,x,now,c,rfl,ha,hs,ok,hn,hc,qs,qn⟩:=h
 obtain ⟨YG,k1,k2,k3,k4,k5,k6,k7,k8⟩:=k
 refine ⟨_,(Zd (Zk (Z9 YG Xy hr (pv 0) (Za (pv 1) (Za (Z9 YG Xw hr (pv 0) (Za (pv 1) (Za (pv 2) Zc))) (Za (Zi 1) Zc)))))),?_⟩
 refine Zo (σ':=[some (.ref a),some (N_ now),some (.ref cp)]) rfl ?_
 nofun
 refine ⟨a,dx,sa,cp,x,now,c,rfl,ha,hs,ok,hn,hc,fun k H1 ek s1=>?_,fun H1 en s1=>?_⟩
 ·have a1:=s1 _ _ ha
  nofun
  refine ⟨a,dx,sa,x,now,1,some k,rfl,a1,fun h=>absurd h (by simp),fun k' hk=>?_⟩
  obtain rfl:k=k':=Option.some.inj hk
  exact qs k _ ek ((ZA.but s1).trans (But.upd H1 _)) Zn
 ·have a1:=s1 _ _ ha
  nofun
  refine ⟨a,dx,sa,x,now,1,none,rfl,a1,fun _=>?_,fun k' hk=>absurd hk (by simp)⟩
  exact qn _ en ((ZA.but s1).trans (But.upd H1 _)) Zn
def Wm (x:Oy) (cs:Sy23.B):Option Nat:=if cs.length=2 * x.digits then ((Ob 100).map fun i:Nat=>x.next + i).find? fun k:Nat=>decide (IW x.secret k x.digits ++ IW x.secret (k + 1) x.digits=cs) else none
theorem ZdX (s:Sy23.B) (c d:Nat):(IW s c d).length=d:=by
 unfold IW
 rw [Od,OL]
theorem findsPair_eq {x:Oy} {cs:Sy23.B} {n:Nat} (h:cs.length=2 * n):x.findsTwo (cs.take n) (cs.drop n)=Wm x cs:=by
 unfold Tx Wm
 have hl:(cs.take n).length=n:=by
  rw [OM]
  lia
 rw [hl]
 by_cases e:n=x.digits
 ·rw [if_pos e,if_pos (by simp [*])]
  congr 1
  funext k
  rw [decide_eq_decide]
  constructor
  ·rintro ⟨h1,h2⟩
   rw [h1,h2,UB]
  ·intro h3
   rw [<- h3,Ti (by rw [ZdX,e]),List.drop_left' (by rw [ZdX,e])]
   exact ⟨rfl,rfl⟩
 ·rw [if_neg e,if_neg (by lia)]
def spMatch2 (K:Oa) (C:Addr):Sp:=fun vs H Q _=>∃(a dx sa cp:Addr) (x:Oy) (c:Sy23.B),vs=[.ref a,.ref cp]/\H a=some (hoO C dx sa x)/\H sa=some (.lst (LN x.secret))/\Xn x/\SqL K H cp (LN c)/\
 (∀k H',Wm x c=some k->ZA H H'->Q (N_ k) H')/\∀H',Wm x c=none->ZA H H'->Q .non H'
theorem Yn:Zs ["self","codes","states","code","counter","follower"] ["self","codes"] (Zj (Zr (top 33) 3)):=qsc
theorem ZbF (B:Blt mg) (JA:ZU mg "PAIRS_AHEAD" 100) (k:Y2 K Zg) (R:YB K Zg "matching_pair" "Holder.matching_pair" (Zr (top 33) 3) ["self","codes"]) (Wf:Zh P w K mg base 4 "code_of" ["states","counter","digits"] (spCode K)) (YC:Zh P w K mg base 4 "secret_states" ["secret"] Zej) :
 ZC P w K mg base 5 Zg "matching_pair" ["self","codes"] (spMatch2 K Zg):=by
 refine R.callee Yn (fun vs H Q E h=>?_) (fun f cdv A outer s H vs Q E hr h=>?_)
 ·walk_at "ln"
 obtain ⟨a,dx,sa,cp,x,c,rfl,ha,hs,ok,hc,qs,qn⟩:=h
 obtain ⟨YG,k1,k2,k3,k4,k5,k6,k7,k8⟩:=k
 refine ⟨_,(Zb (ZM (ZP on_ne (ZL (ZQ K) rfl B.len Ox (Za (pv 1) Zc)) (Zf Q8 (Zi 2) (Zt K (pv 0))) (ZR _)) (Zd (Zk Qe)) Zx) (Zb (Zq 2 Yn.nd (Ze YC hr (Za (Zt K (pv 0)) Zc))) (Zb (Zq 3 Yn.nd (Ze Wf hr (Za (pv 2) (Za (Zt K (pv 0)) (Za (Zt K (pv 0)) Zc))))) (Zb (Xx PassesOwn.never rfl (pi_range2 rfl B.range (Za (Zt K (pv 0)) (Za (Zf Z7 (Zt K (pv 0)) (ZT JA)) Zc))) (ZW 4 Yn.nd) (Zb (Zq 5 Yn.nd (Ze Wf hr (Za (pv 2) (Za (Zf Z7 (pv 4) (Zi 1)) (Za (Zt K (pv 0)) Zc))))) (Zb (ZM (ZP (on_eqL K (hr.mono (by decide))) (Zf Xp (pv 3) (pv 5)) (pv 1) (ZR _)) (Zd (Zk (pv 4))) Zx) (Zd (Zq 3 Yn.nd (pv 5)))))) (Zd (Zk Qe)))))),?_⟩
 refine Zo (σ':=[some (.ref a),some (.ref cp),none,none,none,none]) rfl ?_
 nofun
 rotate_left 1
 ·decide
 by_cases hlen:c.length=2 * x.digits
 case neg=>
  rw [decide_eq_false hlen]
  refine YV ?_
  nofun
  refine qn _ ?_ (Zl _)
  unfold Wm
  rw [if_neg hlen]
 ·rw [decide_eq_true hlen]
  refine Xc ?_
  nofun
  have hsec:JC x.secret:=⟨ok.s64,ok.byt⟩
  have d6:=ok.d6
  have d8:=ok.d8
  have hnx:=ok.next
  refine ⟨sa,x.secret,rfl,hs,hsec,fun H1 g y z s1 hg hy hz=>?_⟩
  have a1:=s1 _ _ ha
  obtain ⟨-,-,-,x1⟩:=WW hsec (mask:=54) (by decide) rfl
  obtain ⟨-,-,-,x2⟩:=WW hsec (mask:=92) (by decide) rfl
  nofun
  refine ⟨g,y,z,_,_,x.next,x.digits,rfl,hg,hy,hz,x1,x2,by exact ZbO,by lia,by exact qw41,fun H2 ca s2 n2 h2=>?_⟩
  rw [Zfu hsec (by omega)] at h2
  have a2:=s2 _ _ a1
  have ef:Wm x c=((Ob 100).map fun i:Nat=>x.next + i).find? fun k:Nat=>decide (IW x.secret k x.digits ++ IW x.secret (k + 1) x.digits=c):=by
   unfold Wm
   rw [if_pos hlen]
  nofun
  refine ⟨_,_,rfl,by lia,?_⟩
  refine XO (st_r2 x.next (x.next + 100)) (fun i σ H'=>ZA H2 H'/\Wm x c=(((Ob 100).map fun i:Nat=>x.next + i).drop i).find? (fun k:Nat=>decide (IW x.secret k x.digits ++ IW x.secret (k + 1) x.digits=c))/\∃(cb:Addr) (v w':Option V),σ=[some (.ref a),some (.ref cp),some (.ref g),some (.ref cb),v,w']/\H' cb=some (.lst (LN (IW x.secret (x.next + i) x.digits)))) ⟨Zl _,ef,ca,none,none,rfl,h2⟩ ?_ ?_
  ·rintro i σ H3 hi ⟨s3,ei,cb,v,w',rfl,hb⟩
   have hi':i < 100:=by lia
   have s13:ZA H1 H3:=s2.trans s3
   have a3:=s13 _ _ a1
   nofun
   refine ⟨g,y,z,_,_,x.next + i + 1,x.digits,rfl,s13 _ _ hg,s13 _ _ hy,s13 _ _ hz,x1,x2,by omega,by lia,by exact qw41,fun H4 cz s4 n4 h4=>?_⟩
   rw [Zfu hsec (by omega)] at h4
   nofun
   refine Xq (s4 _ _ hb) h4 (by rw [ZdX,ZdX]; lia) fun r hr'=>?_
   obtain ⟨H5,e5,s5,t5,r5,-⟩:=YJ (.lst (LN (IW x.secret (x.next + i) x.digits ++ IW x.secret (x.next + i + 1) x.digits))) (((s1.trans s13).trans s4)) hr'
   rw [e5]
   nofun
   refine rd_eqL (SqL.of r5) (s5.seq hc) ?_
   nofun
   have ed:((Ob 100).map fun i:Nat=>x.next + i).drop i=(x.next + i) :: ((Ob 100).map fun i:Nat=>x.next + i).drop (i + 1):=by
    have hl:i < ((Ob 100).map fun i:Nat=>x.next + i).length:=by rw [Od,OL]; exact hi'
    rw [ID hl,Uj,IT]
   rw [ed,Up] at ei
   by_cases hm:IW x.secret (x.next + i) x.digits ++ IW x.secret (x.next + i + 1) x.digits=c
   ·rw [decide_eq_true hm] at ei ⊢
    refine YV ?_
    nofun
    exact qs _ _ ei s5
   ·rw [decide_eq_false hm] at ei ⊢
    refine Xc ?_
    nofun
    exact ⟨(s3.trans s4).trans t5,ei,cz,_,_,rfl,t5 _ _ h4⟩
  ·rintro σ H3 ⟨s3,ei,cb,v,w',rfl,hb⟩
   rw [show x.next + 100 - x.next=100 by simp,O2 (by rw [Od,OL]; exact Oq _)] at ei
   nofun
   exact qn _ ei ((s1.trans s2).trans s3)
def spTake2 (K:Oa) (C:Addr):Sp:=fun vs H Q _=>∃(a dx sa cp:Addr) (x:Oy) (now:Nat) (c:Sy23.B),vs=[.ref a,N_ now,.ref cp]/\H a=some (hoO C dx sa x)/\H sa=some (.lst (LN x.secret))/\Xn x/\SqL K H cp (LN c)/\
 (∀k H',Wm x c=some k->But a H H'->H' a=some (hoO C dx sa (x.well (k + 2)))->Q (N_ 1) H')/\∀H',Wm x c=none->But a H H'->H' a=some (hoO C dx sa (x.wrong now))->Q (N_ 0) H'
theorem Zc8:Zs ["self","now","codes"] ["self","now","codes"] (Zj (Zr (top 33) 9)):=qsc
theorem Zdk (k:Y2 K Zg) (R:YB K Zg "take_pair" "Holder.take_pair" (Zr (top 33) 9) ["self","now","codes"]) (X9:ZC P w K mg base 5 Zg "matching_pair" ["self","codes"] (spMatch2 K Zg)) (Xy:ZC P w K mg base 2 Zg "settle" ["self","now","counter","used"] (Zgw Zg)) :
 ZC P w K mg base 6 Zg "take_pair" ["self","now","codes"] (spTake2 K Zg):=by
 refine R.callee Zc8 (fun vs H Q E h=>?_) (fun f cdv A outer s H vs Q E hr h=>?_)
 ·walk_at "ln"
 obtain ⟨a,dx,sa,cp,x,now,c,rfl,ha,hs,ok,hc,qs,qn⟩:=h
 obtain ⟨YG,k1,k2,k3,k4,k5,k6,k7,k8⟩:=k
 refine ⟨_,(Zd (Zk (Z9 YG Xy hr (pv 0) (Za (pv 1) (Za (Z9 YG X9 hr (pv 0) (Za (pv 2) Zc)) (Za (Zi 2) Zc)))))),?_⟩
 refine Zo (σ':=[some (.ref a),some (N_ now),some (.ref cp)]) rfl ?_
 nofun
 refine ⟨a,dx,sa,cp,x,c,rfl,ha,hs,ok,hc,fun k H1 ek s1=>?_,fun H1 en s1=>?_⟩
 ·have a1:=s1 _ _ ha
  nofun
  refine ⟨a,dx,sa,x,now,2,some k,rfl,a1,fun h=>absurd h (by simp),fun k' hk=>?_⟩
  obtain rfl:k=k':=Option.some.inj hk
  exact qs k _ ek ((ZA.but s1).trans (But.upd H1 _)) Zn
 ·have a1:=s1 _ _ ha
  nofun
  refine ⟨a,dx,sa,x,now,2,none,rfl,a1,fun _=>?_,fun k' hk=>absurd hk (by simp)⟩
  exact qn _ en ((ZA.but s1).trans (But.upd H1 _)) Zn
theorem rd_ifE {t:TT} {ta tb:TE} {σ:St} {H:Hp} {Q:VK} (h:t σ H fun c H1=>if c=true then ta σ H1 Q else tb σ H1 Q):tIf t ta tb σ H Q:=h
structure Blt2 (mg:Str->Option Value):Prop where
 all:mg "all"=none
 set:mg "set"=none
def rAll (K:Oa) (vs:List V) (H:Hp) (Q:VK):Prop:=∃(a:Addr) (bs:List Bool),vs=[.ref a]/\SqL K H a (bs.map V.bl)/\Q (.bl (bs.all id)) H
theorem bools_of:∀{bs:List Bool} {us:List Value},Z8 (bs.map V.bl) us->LSm.BoolsAre us bs
 | [],_,h=>by cases h; exact .nil
 | b :: bs,_,h=>by
  cases h with
  | cons r rr=>
   have r':_=Value.bool b:=r
   subst r'
   exact .cons b (bools_of rr)
theorem call_allK {X:Cx} (K:Oa) (hc:X.calm=true) (h:X.K=K:=by rfl):WZ X (.builtin "all") (rAll K):=by
 subst h
 intro pins s σ H xs us Q I r h
 obtain ⟨a,bs,rfl,hS,q⟩:=h
 obtain ⟨u,rfl,rx⟩:=Zep r
 cases rx
 obtain ⟨its,rv,hl,_⟩:=I.list hS
 have hb:=bools_of rv
 have hl':=hl.isList
 have hlt:a < s.heap.objs.size:=by obtain ⟨_,e,_⟩:=hl'; exact Heap.lt_size e
 refine call_all_walk (wpAny_pyIter_list hl' ?_)
 refine ⟨s.heap.objs.size,[s.heap.objs.size,a],[s.heap.objs.size],its.toArray.size,_,_,fun i=>(bs[i]?).getD true,rfl,Walks.list (A:=X.A.in1) (I.ok.hd hc) _ a (O4 hlt) its.toArray,
  ⟨⟨_,Heap.get?_push_size _ rfl,rfl,rfl⟩,hl'.push _⟩,fun i v s' Q' E' hP hQ=>?_,fun h' tk hk=>?_⟩
 ·obtain ⟨b,e,rfl⟩:=hb.get i v (by simpa using hP)
  simp only [e,UU] at hQ
  exact wpAny_truthy_bool hQ
 ·have e:((Ob its.toArray.size).all fun i=>(bs[i]?).getD true)=bs.all id:=by
   rw [OC,hb.length]; exact LSm.range_all bs
  rw [e]
  exact ⟨.bl _,H,I.kept (LSm.kept_iter hk),rfl,q⟩
theorem firstMet_le (l:List Nat):∀i,i<=l.length->(firstMet (fun i=>(IN l).getD i 0) i).length<=i/\((firstMet (fun i=>(IN l).getD i 0) i).length=i↔(l.take i).Nodup):=by
 intro i
 induction i with
 | zero=>intro _; exact ⟨Oq _,by simp [firstMet_zero]⟩
 | succ i ih=>
  intro hi
  obtain ⟨h1,h2⟩:=ih (by exact qw1)
  have ha:(firstMet (fun i=>(IN l).getD i 0) i).any (· == (IN l).getD i 0)=decide (l.getD i 0∈l.take i):=by
   rw [firstMet_any,OU,V5,decide_eq_true_eq]
   constructor
   ·rintro ⟨z,hz,e⟩
    obtain ⟨j,hj,rfl⟩:=OK.mp hz
    have hj:=OR.mp hj
    have e:=eq_of_beq e
    have gj:∀k,k < l.length->(IN l).getD k 0=((l.getD k 0:Nat):Int):=fun k hk=>by
     rw [Oe,OP,Oe,Of hk]; rfl
    rw [gj j (by lia),gj i (by exact qw14)] at e
    have e':l.getD j 0=l.getD i 0:=by lia
    rw [<- e',Oe,Of (by omega:j < l.length)]
    exact V1.mpr ⟨j,by lia,rfl⟩
   ·intro h
    obtain ⟨j,hj,e⟩:=V1.mp h
    refine ⟨(IN l).getD j 0,OK.mpr ⟨j,OR.mpr (by lia),rfl⟩,?_⟩
    have gj:∀k,k < l.length->(IN l).getD k 0=((l.getD k 0:Nat):Int):=fun k hk=>by
     rw [Oe,OP,Oe,Of hk]; rfl
    rw [gj j (by omega),gj i (by exact qw14),<- e,Oe,Of (by omega:j < l.length)]
    exact beq_self_eq_true _
  have ht:l.take (i + 1)=l.take i ++ [l.getD i 0]:=by
   rw [Vd,Of (by exact qw14:i < l.length),Oe,Of (by exact qw14:i < l.length)]
   rfl
  rw [firstMet_succ,ht,List.nodup_append]
  unfold step_dedup
  rw [ha]
  by_cases hm:l.getD i 0∈l.take i
  ·rw [decide_eq_true hm,if_pos rfl]
   refine ⟨by exact qw41,⟨fun h=>by lia,fun h=>?_⟩⟩
   exact absurd rfl (h.2.2 _ hm _ (IB.mpr rfl))
  ·rw [decide_eq_false hm,if_neg Oo,Og,Uk]
   refine ⟨by exact qw40,⟨fun h=>⟨h2.mp (by lia),by simp,fun a ha' b hb=>?_⟩,fun h=>?_⟩⟩
   ·rw [IB.mp hb]
    rintro rfl
    exact hm ha'
   ·have:=h2.mpr h.1
    lia
def rSetOf (K:Oa) (vs:List V) (H:Hp) (Q:VK):Prop:=∃(a:Addr) (l:List Nat),vs=[.ref a]/\SqL K H a (LN l)/\l.length<=1000/\∀p S n,H p=none->(n<=l.length/\(n=l.length↔l.Nodup))->Q (.ref p) (upd H p (.set S n))
theorem call_setK {X:Cx} (K:Oa) (hc:X.calm=true) (h:X.K=K:=by rfl):WZ X (.type "set") (rSetOf K):=by
 subst h
 intro pins s σ H xs us Q I r h
 obtain ⟨a,l,rfl,hS,hl1,q⟩:=h
 obtain ⟨u,rfl,rx⟩:=Zep r
 cases rx
 obtain ⟨its,rv,hl,_⟩:=I.list hS
 have hlen:its.length=l.length:=by have:=rv.length; rw [Od] at this; simp [*]
 rw [ZcJ] at rv
 have ri:=rv.ints
 refine PySem.call_set_list (items:=its.toArray) (ns:=IN l) (I.ok.hd hc) hl.isList ri (by rw [OC,hlen]; unfold scanBound; lia) fun h' tk hSet hk=>?_
 have hf:=firstMet_le l l.length (Oq _)
 rw [IL] at hf
 rw [show its.toArray.size=l.length from OC.trans hlen] at hSet
 exact ⟨.ref s.heap.objs.size,_,I.laid (t':=tk) (fun b o e=>hk b o (Heap.lt_size e) e) (Oq _) (show W0 X.prog X.w _ h' _ (.set _ _) from hSet),rfl,q _ _ _ (I.hok.fresh (Oq _)) hf⟩
def rLenS (vs:List V) (H:Hp) (Q:VK):Prop:=∃(a:Addr) (S:Int->Bool) (n:Nat),vs=[.ref a]/\H a=some (.set S n)/\Q (N_ n) H
theorem call_lenS {X:Cx}:WZ X (.builtin "len") rLenS:=by
 intro pins s σ H xs us Q I r h
 obtain ⟨a,S,n,rfl,hS,q⟩:=h
 obtain ⟨u,rfl,rx⟩:=Zep r
 cases rx
 obtain ⟨o,es,ep,t,ho,hex,hd,_,_,hb,hf,rfl⟩:=I.hok _ _ hS
 exact PySem.call_len_set ho hex hd hf (by unfold scanBound at hb; lia) ⟨N_ es.size,H,I.tok _,⟨_,rfl⟩,q⟩
def rInL (K:Oa) (x y:V) (H:Hp) (Q:VK):Prop:=∃(n:Nat) (p:Addr) (l:List Nat),x=N_ n/\y=.ref p/\SqL K H p (LN l)/\Q (.bl (decide (n∈l))) H
theorem op_inL {X:Cx} (K:Oa) (h:X.K=K:=by rfl):OpR X (compareOp .In) (rInL K):=by
 subst h
 refine ZdA op_in_seq fun x y H Q ⟨n,p,l,h1,h2,h3,q⟩=>⟨p,LN l,h2,.inl h3,by rw [h1]; rfl,?_,?_⟩
 ·rw [Iw]
  intro v hv
  obtain ⟨z,_,rfl⟩:=OK.mp hv
  rfl
 ·rw [h1,if_neg (by decide),inV_nat]
  exact q
section
variable {P:Program} {w:World} {K:Oa} {mg:Str->Option Value} {base:Heap}
def spLow:Sp:=fun vs H Q _=>∃(n k:Nat),vs=[N_ n,N_ k]/\k<=100/\∀(H':Hp) (q:Addr),ZA H H'->H q=none->H' q=some (.lst (LN (Om k n)))->Q (.ref q) H'
theorem QG:Zs ["number","count","k"] ["number","count"] (Zj (top 4)):=qsc
theorem ZdP (B:Blt mg) (R:Raw K mg "bytes_low_first" "bytes_low_first" (top 4) ["number","count"]):Zh P w K mg base 1 "bytes_low_first" ["number","count"] spLow:=by
 refine R.callee QG (fun vs H Q E h=>?_) (fun f cdv A outer s H vs Q E hr h=>?_)
 ·walk_at "ln"
 obtain ⟨n,k,rfl,hk,q⟩:=h
 refine ⟨_,(Zd (Zk (Zbf rfl QG.nd (QU rfl B.range (Za (pv 1) Zc)) (Y7 (own:=[("k",2)]) rfl) (fun _ _ _ _ _=>(ZW 2 QG.nd)) (fun _ _ _ _ _=>Wc) (fun _ _ _ _ _=>(Zf ZZ (Zf Z4 (pv 0) (Zf Q8 (Zi 8) (pv 2))) (Zi 255)))))),?_⟩
 refine Zo (σ':=[some (N_ n),some (N_ k),none]) rfl ?_
 nofun
 refine ⟨(k:Int),rfl,by exact O0 _,by lia,ZcU (st_r1 k) (fun i=>N_ (n / 2 ^ (8 * i) &&& 255)) (Zp (by exact ZbN)) ?_ ?_⟩
 ·intro j H2 R' hj hs hR
  dsimp only [Iy]
  nofun
  ·exact hR _ (Zl _)
  ·decide
 ·intro D H' hD hs hl'
  refine q H' D hs hD ?_
  rw [hl']
  unfold LN Om
  rw [O8]
  congr 2
  apply Ia
  intro i _
  show N_ _=N_ _
  congr 1
  congr 1
  show n / 2 ^ (8 * i) &&& 255=n / 256 ^ i % 256
  rw [show (256:Nat) ^ i=2 ^ (8 * i) by rw [VO]]
  exact O1 (n:=8) (n / 2 ^ (8 * i))
def Zei (K:Oa):Sp:=fun vs H Q _=>∃(p:Addr) (b:Sy23.B),vs=[.ref p]/\SqL K H p (LN b)/\Ol b/\b.length<=16/\∀H',ZA H H'->Q (N_ (Oi b)) H'
theorem ZgV (b:Sy23.B) (x:Nat):Oi (b ++ [x])=Oi b + 256 ^ b.length * x:=by
 unfold Oi
 induction b with
 | nil=>simp
 | cons y b ih=>
  rw [List.cons_append,List.foldr_cons,ih,List.foldr_cons,Oz,Ur,Tq,O3 (256 ^ b.length) 256,TF]
  lia
theorem littleOf_lt {b:Sy23.B} (h:Ol b):Oi b < 256 ^ b.length:=by
 induction b with
 | nil=>exact Nat.one_pos
 | cons y b ih=>
  have h1:=ih fun x hx=>h x (Ov _ hx)
  have h2:=h y (Ow ..)
  show y + 256 * Oi b < 256 ^ (b.length + 1)
  rw [Ur]
  lia
theorem Zg5 {b:Sy23.B} {i x:Nat} (hb:Ol b) (h:b[i]?=some x):Oi (b.take i) ||| x * 2 ^ (8 * i)=Oi (b.take (i + 1)):=by
 have hi:i < b.length:=(OB.mp h).1
 have e:b.take (i + 1)=b.take i ++ [x]:=by
  rw [VX,h]; rfl
 have hl:(b.take i).length=i:=by rw [OM]; lia
 have h1:=littleOf_lt (XN hb i)
 rw [hl,show (256:Nat) ^ i=2 ^ (8 * i) by rw [VO]] at h1
 rw [e,ZgV,hl,show (256:Nat) ^ i=2 ^ (8 * i) by rw [VO],Nat.or_comm,O3 x,<- Uc h1]
 exact IU _ _
theorem Xf:Zs ["row","number","k","byte"] ["row"] (Zj (top 5)):=qsc
theorem Zdp (B:Blt mg) (R:Raw K mg "number_low_first" "number_low_first" (top 5) ["row"]):Zh P w K mg base 1 "number_low_first" ["row"] (Zei K):=by
 refine R.callee Xf (fun vs H Q E h=>?_) (fun f cdv A outer s H vs Q E hr h=>?_)
 ·walk_at "ln"
 obtain ⟨p,b,rfl,hS,hb,hl,q⟩:=h
 refine ⟨_,(Zb (Zq 1 Xf.nd (Zi 0)) (Zb (Xx PassesOwn.never rfl (Zf8 K rfl B.enumerate (Za (pv 0) Zc)) (Zfz K 2 rfl (JG (ZW 2 Xf.nd) (JG (ZW 3 Xf.nd) ZfA))) (Zd (Zq 1 Xf.nd (Zf Q9 (pv 1) (Zf XS (pv 3) (Zf Q8 (Zi 8) (pv 2))))))) (Zd (Zk (pv 1))))),?_⟩
 refine Zo (σ':=[some (.ref p),none,none,none]) rfl ?_
 nofun
 refine Zgb hS ?_
 refine for_enum (K:=K) (a:=p) (l:=b) (fun i σ H'=>ZA H H'/\∃v v',σ=[some (.ref p),some (N_ (Oi (b.take i))),v,v']) ⟨Zl _,none,none,rfl⟩ (fun i σ H' _ ⟨e,_⟩=>e.seq hS) ?_ ?_
 ·rintro i σ H' T hi ⟨s1,v,v',rfl⟩ hT
  refine Zea (SqT.of Zn) ?_
  dsimp only [Iy]
  nofun
  ·refine ⟨Zz s1 (s1.free hT),some (N_ i),some (N_ (b.getD i 0)),?_⟩
   rw [Zg5 hb (by rw [Of hi,Oe,Of hi]; rfl)]
  ·have hx:b.getD i 0 < 256:=hb _ (by rw [Oe,Of hi]; exact Uw hi)
   exact ⟨Ip hx (by decide),by lia⟩
  ·decide
 ·rintro σ H' ⟨s1,v,v',rfl⟩
  rw [IL]
  nofun
  exact q _ s1
def Zgx (K:Oa):Sp:=fun vs H Q _=>∃(p:Addr) (l:Sy23.B) (n:Nat),vs=[N_ n,.ref p]/\SqL K H p (LN l)/\Q (.bl (decide ((6<=n/\n<=8)/\l.length=2 * n/\∀x,x∈l->48<=x/\x<=57))) H
theorem ZeU:Zs ["digits","row"] ["digits","row"] (Zj (top 51)):=qsc
theorem Zfh (B:Blt mg) (R:Raw K mg "are_two_codes" "are_two_codes" (top 51) ["digits","row"]) (Yi:Zh P w K mg base 2 "are_digits" ["digits"] (QY 6 8)) (Y9:Zh P w K mg base 1 "are_digit_bytes" ["row"] (ZbQ K)):Zh P w K mg base 3 "are_two_codes" ["digits","row"] (Zgx K):=by
 refine R.callee ZeU (fun vs H Q E h=>?_) (fun f cdv A outer s H vs Q E hr h=>?_)
 ·walk_at "ln"
 obtain ⟨p,l,n,rfl,hS,q⟩:=h
 refine ⟨_,(Zd (Zk (JT (Ze Yi hr (Za (pv 0) Zc)) (JT (Wy XW (ZL (ZQ K) rfl B.len Ox (Za (pv 1) Zc)) (Zf Q8 (Zi 2) (pv 0)) (ZR _)) (ZbL (Ze Y9 hr (Za (pv 1) Zc))))))),?_⟩
 refine Zo (σ':=[some (N_ n),some (.ref p)]) rfl ?_
 nofun
 refine ⟨n,rfl,?_⟩
 nofun
 refine dif (fun h1=>?_) (fun h1=>?_)
 ·nofun
  rotate_left 1
  ·decide
  refine dif (fun h2=>?_) (fun h2=>?_)
  ·nofun
   refine ⟨p,l,rfl,hS,by lia,?_⟩
   rw [decide_eq_decide.mpr ⟨fun h=>⟨h1,h2,h⟩,fun h:(6<=n/\n<=8)/\l.length=2 * n/\∀x,x∈l->48<=x/\x<=57=>h.2.2⟩]
   exact q
  ·rw [decide_eq_false (fun h=>h2 h.2.1)] at q
   exact q
 ·rw [decide_eq_false (fun h=>h1 h.1)] at q
  exact q
end
abbrev hsO (C dx ka hl tl:Addr) (n:Nat):HO:=.ins C dx [("key",.ref ka),("number",N_ n),("holders",.ref hl),("taken",.ref tl)]
structure Wn (K:Oa) (C:Addr):Prop where
 cl:Cls K C
 n1:Ym K C "key"
 n2:Ym K C "number"
 n3:Ym K C "holders"
 n4:Ym K C "taken"
def ZcL (CH:Addr) (H:Hp) (F:Addr->Prop) (hl tl:Addr) (v:V) (o:Option Oy):Prop:=
 (v=.non/\o=none)∨∃(a dx sa:Addr) (x:Oy),v=.ref a/\o=some x/\F a/\F sa/\sa≠hl/\sa≠tl/\H a=some (hoO CH dx sa x)/\H sa=some (.lst (LN x.secret))
structure Places (CH:Addr) (H:Hp) (F:Addr->Prop) (hl tl:Addr) (vs:List V) (os:List (Option Oy)):Prop where
 len:vs.length=os.length
 at_:∀(i:Nat) (v:V) (o:Option Oy),vs[i]?=some v->os[i]?=some o->ZcL CH H F hl tl v o
 inj:∀(i j:Nat) (a:Addr),vs[i]?=some (V.ref a)->vs[j]?=some (V.ref a)->i=j
structure XY (H:Hp) (F:Addr->Prop) (ts:List Addr) (l:List (Nat×Nat)):Prop where
 len:ts.length=l.length
 at_:∀(i:Nat) (t:Addr) (e:Nat×Nat),ts[i]?=some t->l[i]?=some e->F t/\H t=some (.tup [N_ e.1,N_ e.2])
structure QB (CS CH:Addr) (H:Hp) (ha:Addr) (h:OF) (F:Addr->Prop) (dx ka hl tl:Addr) (vs:List V) (ts:List Addr):Prop where
 fa:F ha
 fk:F ka
 fh:F hl
 ft:F tl
 o:H ha=some (hsO CS dx ka hl tl h.number)
 k:H ka=some (.lst (LN h.key))
 hs:H hl=some (.lst vs)
 tk:H tl=some (.lst (ts.map V.ref))
 n1:hl≠ka
 n2:tl≠ka
 n3:hl≠tl
 pl:Places CH H F hl tl vs h.holders
 en:XY H F ts h.list
def Yq (CS CH:Addr) (H:Hp) (ha:Addr) (h:OF) (F:Addr->Prop):Prop:=(∀b,F b->∃u,H b=some u)/\∃dx ka hl tl vs ts,QB CS CH H ha h F dx ka hl tl vs ts
structure Yx (h:OF):Prop where
 key:XR h.key.length=true
 byt:Ol h.key
 n1:1<=h.number
 n2:h.number<=2 ^ 60 + 1
 len:h.holders.length=64
 ok:∀x,some x∈h.holders->Xn x
 list:h.list.length<=256
section
variable {CS CH ha dx ka hl tl:Addr} {H H':Hp} {h:OF} {F F':Addr->Prop} {vs:List V} {ts:List Addr} {os:List (Option Oy)}
theorem ZcL.to {v:V} {o:Option Oy} (p:ZcL CH H F hl tl v o) (hF:∀b,F b->F' b) (hk:∀b u,F b->H b=some u->H' b=some u):ZcL CH H' F' hl tl v o:=by
 rcases p with p | ⟨a,dx,sa,x,e1,e2,f1,f2,n1,n2,h1,h2⟩
 ·exact .inl p
 ·exact .inr ⟨a,dx,sa,x,e1,e2,hF _ f1,hF _ f2,n1,n2,hk _ _ f1 h1,hk _ _ f2 h2⟩
theorem Yq.keep (p:Yq CS CH H ha h F) (hk:∀b u,F b->H b=some u->H' b=some u):Yq CS CH H' ha h F:=by
 obtain ⟨has,dx,ka,hl,tl,vs,ts,p⟩:=p
 exact ⟨fun b fb=>let ⟨u,e⟩:=has b fb; ⟨u,hk b u fb e⟩,dx,ka,hl,tl,vs,ts,⟨p.fa,p.fk,p.fh,p.ft,hk _ _ p.fa p.o,hk _ _ p.fk p.k,hk _ _ p.fh p.hs,hk _ _ p.ft p.tk,p.n1,p.n2,p.n3,⟨p.pl.len,fun i v o e1 e2=>(p.pl.at_ i v o e1 e2).to (fun _ z=>z) hk,p.pl.inj⟩,⟨p.en.len,fun i t e e1 e2=>⟨(p.en.at_ i t e e1 e2).1,hk _ _ (p.en.at_ i t e e1 e2).1 (p.en.at_ i t e e1 e2).2⟩⟩⟩⟩
theorem QB.get (p:QB CS CH H ha h F dx ka hl tl vs ts) {i:Nat} (hi:i < h.holders.length):∃v,vs[i]?=some v/\ZcL CH H F hl tl v (h.at_ i):=by
 have hv:i < vs.length:=by rw [p.pl.len]; exact hi
 refine ⟨vs[i],Of hv,?_⟩
 have:=p.pl.at_ i vs[i] h.holders[i] (Of hv) (Of hi)
 have e:h.at_ i=h.holders[i]:=by
  unfold VM
  rw [Of hi]
  rfl
 rw [e]
 exact this
theorem Zca {i:Nat} {x:Oy} (e:h.at_ i=some x):some x∈h.holders:=by
 unfold VM at e
 cases hx:h.holders[i]? with
 | none=>rw [hx] at e; exact absurd e (by simp)
 | some o=>
  rw [hx] at e
  have e':o=some x:=e
  rw [<- e']
  exact O5 hx
theorem QB.holder (p:QB CS CH H ha h F dx ka hl tl vs ts) {i:Nat} {a dh sa:Addr} {x x':Oy} (hv:vs[i]?=some (.ref a)) (hx:H a=some (hoO CH dh sa x)) (hsec:H sa=some (.lst (LN x.secret))) (hb:But a H H') (h':H' a=some (hoO CH dh sa x')) (hs:x'.secret=x.secret):QB CS CH H' ha (h.set i (some x')) F dx ka hl tl vs ts:=by
 have ne:∀b o,H b=some o->(∀C d s y,o≠hoO C d s y)->b≠a:=fun b o e n z=>by
  rw [z,hx] at e
  exact n _ _ _ _ (Option.some.inj e).symm
 have nl:∀b l,H b=some (.lst l)->b≠a:=fun b l e=>ne b _ e (fun C d s y z=>HO.noConfusion z)
 refine ⟨p.fa,p.fk,p.fh,p.ft,?_,hb _ _ (nl _ _ p.k) p.k,hb _ _ (nl _ _ p.hs) p.hs,hb _ _ (nl _ _ p.tk) p.tk,p.n1,p.n2,p.n3,⟨?_,fun j v o e1 e2=>?_,p.pl.inj⟩,⟨p.en.len,fun j t e e1 e2=>?_⟩⟩
 ·refine hb _ _ (ne _ _ p.o fun C d s y z=>?_) p.o
  injection z with z1 z2 z3
  injection z3 with z4
  injection z4 with z5
  exact absurd z5 (by decide)
 ·show _=(h.holders.set i _).length
  rw [IF]
  exact p.pl.len
 ·have e2':(h.holders.set i (some x'))[j]?=some o:=e2
  by_cases ij:i=j
  ·subst ij
   have hj:i < h.holders.length:=by rw [<- p.pl.len]; exact (OB.mp e1).1
   rw [IC hj] at e2'
   rw [hv] at e1
   have eo:h.holders[i]?=some h.holders[i]:=Of hj
   rcases p.pl.at_ i _ _ hv eo with ⟨z,_⟩ | ⟨a',d',s',y,z1,z2,f1,f2,n1,n2,g1,g2⟩
   ·exact absurd z (by simp)
   ·have ea:a=a':=V.ref.inj z1
    subst ea
    rw [hx] at g1
    have g1':=HO.ins.inj (Option.some.inj g1)
    have es:sa=s':=by
     have:=g1'.2.2
     injection this with t1 t2
     injection t1 with t3 t4
     exact V.ref.inj t4
    subst es
    refine .inr ⟨a,dh,sa,x',(Option.some.inj e1).symm,(Option.some.inj e2').symm,f1,f2,n1,n2,h',?_⟩
    rw [hs]
    exact hb _ _ (nl _ _ hsec) hsec
  ·rw [IJ ij] at e2'
   rcases p.pl.at_ j v o e1 e2' with ⟨z,z'⟩ | ⟨a',d',s',y,z1,z2,f1,f2,n1,n2,g1,g2⟩
   ·exact .inl ⟨z,z'⟩
   ·have na:a'≠a:=by
     rintro rfl
     exact ij (p.pl.inj i j a' hv (z1 ▸ e1))
    exact .inr ⟨a',d',s',y,z1,z2,f1,f2,n1,n2,hb _ _ na g1,hb _ _ (nl _ _ g2) g2⟩
 ·obtain ⟨f1,g1⟩:=p.en.at_ j t e e1 e2
  exact ⟨f1,hb _ _ (ne _ _ g1 fun C d s y z=>HO.noConfusion z) g1⟩
theorem QB.place (p:QB CS CH H ha h F dx ka hl tl vs ts) {i:Nat} {v:V} {o:Option Oy} (hb:But hl H H') (h':H' hl=some (.lst (vs.set i v))) (hF:∀b,F b->F' b) (hp:ZcL CH H' F' hl tl v o) (hn:∀(a:Addr) (j:Nat),v=.ref a->vs[j]?≠some (.ref a)):QB CS CH H' ha (h.set i o) F' dx ka hl tl (vs.set i v) ts:=by
 have nl:∀b u,H b=some u->(∀l,u≠.lst l)->b≠hl:=fun b u e n z=>by
  rw [z,p.hs] at e
  exact n _ (Option.some.inj e).symm
 refine ⟨hF _ p.fa,hF _ p.fk,hF _ p.fh,hF _ p.ft,hb _ _ (nl _ _ p.o fun l z=>HO.noConfusion z) p.o,hb _ _ p.n1.symm p.k,h',hb _ _ p.n3.symm p.tk,p.n1,p.n2,p.n3,⟨?_,fun j w' q e1 e2=>?_,fun j k a e1 e2=>?_⟩,⟨p.en.len,fun j t e e1 e2=>?_⟩⟩
 ·show (vs.set i v).length=(h.holders.set i _).length
  rw [IF,IF]
  exact p.pl.len
 ·have e2':(h.holders.set i o)[j]?=some q:=e2
  by_cases ij:i=j
  ·subst ij
   have hj:i < vs.length:=by
    have:=(OB.mp e1).1
    rwa [IF] at this
   rw [IC hj] at e1
   rw [IC (p.pl.len ▸ hj)] at e2'
   rw [<- Option.some.inj e1,<- Option.some.inj e2']
   exact hp
  ·rw [IJ ij] at e1 e2'
   rcases p.pl.at_ j w' q e1 e2' with z | ⟨a',d',s',y,z1,z2,f1,f2,n1,n2,g1,g2⟩
   ·exact .inl z
   ·exact .inr ⟨a',d',s',y,z1,z2,hF _ f1,hF _ f2,n1,n2,hb _ _ (nl _ _ g1 fun l z=>HO.noConfusion z) g1,hb _ _ n1 g2⟩
 ·by_cases ij:i=j
  ·subst ij
   by_cases ik:i=k
   ·exact ik
   ·have hj:i < vs.length:=by
     have:=(OB.mp e1).1
     rwa [IF] at this
    rw [IC hj] at e1
    rw [IJ ik] at e2
    exact absurd e2 (hn a k (Option.some.inj e1))
  ·rw [IJ ij] at e1
   by_cases ik:i=k
   ·subst ik
    have hj:i < vs.length:=by
     have:=(OB.mp e2).1
     rwa [IF] at this
    rw [IC hj] at e2
    exact absurd e1 (hn a j (Option.some.inj e2))
   ·rw [IJ ik] at e2
    exact p.pl.inj j k a e1 e2
 ·obtain ⟨f1,g1⟩:=p.en.at_ j t e e1 e2
  exact ⟨hF _ f1,hb _ _ (nl _ _ g1 fun l z=>HO.noConfusion z) g1⟩
theorem QB.own (p:QB CS CH H ha h F dx ka hl tl vs ts) {n:Nat} {tl':Addr} {ts':List Addr} {l:List (Nat×Nat)} (hb:But ha H H') (h':H' ha=some (hsO CS dx ka hl tl' n)) (hF:∀b,F b->F' b) (ft:F' tl') (ht:H' tl'=some (.lst (ts'.map V.ref))) (n2:tl'≠ka) (n3:hl≠tl') (hnew:tl'=tl∨¬ F tl') (hen:XY H' F' ts' l):QB CS CH H' ha { h with number:=n,list:=l } F' dx ka hl tl' vs ts':=by
 have nl:∀b u,H b=some u->(∀C d a b' c n,u≠hsO C d a b' c n)->b≠ha:=fun b u e n z=>by
  rw [z,p.o] at e
  exact n _ _ _ _ _ _ (Option.some.inj e).symm
 refine ⟨hF _ p.fa,hF _ p.fk,hF _ p.fh,ft,h',hb _ _ (nl _ _ p.k fun _ _ _ _ _ _ z=>HO.noConfusion z) p.k,hb _ _ (nl _ _ p.hs fun _ _ _ _ _ _ z=>HO.noConfusion z) p.hs,ht,p.n1,n2,n3,⟨p.pl.len,fun j v o e1 e2=>?_,p.pl.inj⟩,hen⟩
 rcases p.pl.at_ j v o e1 e2 with z | ⟨a',d',s',y,z1,z2,f1,f2,m1,m2,g1,g2⟩
 ·exact .inl z
 ·refine .inr ⟨a',d',s',y,z1,z2,hF _ f1,hF _ f2,m1,?_,hb _ _ (nl _ _ g1 fun C d a b' c n z=>?_) g1,hb _ _ (nl _ _ g2 fun _ _ _ _ _ _ z=>HO.noConfusion z) g2⟩
  ·rcases hnew with e | e
   ·rw [e]; exact m2
   ·rintro rfl; exact e f2
  ·injection z with z1 z2 z3
   injection z3 with z4
   injection z4 with z5
   exact absurd z5 (by decide)
theorem QB.list (p:QB CS CH H ha h F dx ka hl tl vs ts) {ts':List Addr} {l:List (Nat×Nat)} (hb:But tl H H') (h':H' tl=some (.lst (ts'.map V.ref))) (hF:∀b,F b->F' b) (hen:XY H' F' ts' l):QB CS CH H' ha { h with list:=l } F' dx ka hl tl vs ts':=by
 have nl:∀b u,H b=some u->(∀l,u≠.lst l)->b≠tl:=fun b u e n z=>by
  rw [z,p.tk] at e
  exact n _ (Option.some.inj e).symm
 refine ⟨hF _ p.fa,hF _ p.fk,hF _ p.fh,hF _ p.ft,hb _ _ (nl _ _ p.o fun l z=>HO.noConfusion z) p.o,hb _ _ p.n2.symm p.k,hb _ _ p.n3 p.hs,h',p.n1,p.n2,p.n3,⟨p.pl.len,fun j v o e1 e2=>?_,p.pl.inj⟩,hen⟩
 rcases p.pl.at_ j v o e1 e2 with z | ⟨a',d',s',y,z1,z2,f1,f2,m1,m2,g1,g2⟩
 ·exact .inl z
 ·exact .inr ⟨a',d',s',y,z1,z2,hF _ f1,hF _ f2,m1,m2,hb _ _ (nl _ _ g1 fun l z=>HO.noConfusion z) g1,hb _ _ m2 g2⟩
end
def Jh (CS CH:Addr) (H:Hp) (ha:Addr) (F G:Addr->Prop) (r:Vq×OF) (Q:VK):Prop:=∀(H':Hp) (q:Addr) (F':Addr->Prop),Frame F H H'->Yq CS CH H' ha r.2 F'->(∀b,F' b->F b∨G b∨H b=none)->H q=none->¬ F' q->H' q=some (.lst (LI (ansI r.1)))->Q (.ref q) H'
section
variable {CS CH ha l:Addr} {H H1:Hp} {h:OF} {F F' G:Addr->Prop} {Q:VK}
theorem QD {r:Vq×OF} {xs:List V} (q:Jh CS CH H ha F G r Q) (hf:Frame F H H1) (hp:Yq CS CH H1 ha r.2 F') (hs:∀b,F' b->F b∨G b∨H b=none) (h0:H l=none) (h1:H1 l=none) (e:xs=LI (ansI r.1)):Q (.ref l) (upd H1 l (.lst xs)):=by
 have nF:∀b,F' b->b≠l:=fun b fb z=>by
  obtain ⟨u,hu⟩:=hp.1 b fb
  rw [z,h1] at hu
  exact absurd hu (by simp)
 refine q _ l F' (fun b o n e=>?_) (hp.keep fun b u fb e=>by rw [ZN (nF b fb)]; exact e) hs h0 (fun z=>nF l z rfl) (by rw [Zn,e])
 rw [ZN (Zu e h0)]
 exact hf b o n e
theorem Jr (s:ZA H H1):Frame F H H1:=fun b o _ e=>s b o e
theorem Z5 {z:Int} (q:Jh CS CH H ha F G (II z,h) Q) (hz:z < 0) (p:Yq CS CH H ha h F) (s:ZA H H1) (h1:H1 l=none):Q (.ref l) (upd H1 l (.lst [.int z])):=
 QD q (Jr s) (p.keep fun b u _ e=>s b u e) (fun b fb=>.inl fb) (s.free h1) h1 (by show _=LI (ansI (II z)); rw [ZeA hz]; rfl)
theorem Zbg (k:Nat):Sy23.place (k:Int)=decide (0<=k/\k<=63):=XQ k 0 63
theorem JN (n:Nat):Ue n 0 UK=decide (0<=n/\n<=2 ^ 40):=by
 unfold Ue UK
 rw [OU,Oj,decide_eq_true_eq,decide_eq_true_eq,decide_eq_true_eq]
theorem Zcv {K:Oa} {p:Addr} {xs:List V} {n:Nat} {v:V} {H:Hp} {Q:VK} (h:H p=some (.lst xs)) (e:xs[n]?=some v) (q:Q v H):rIxL K (.ref p) (N_ n) H Q:=⟨p,xs,n,v,rfl,rfl,SqL.of h,ZdN e,q⟩
theorem Za1 {c:Bool} {r:Vq×OF} {z:Int} (q:Jh CS CH H ha F G (if c=false then (II z,h) else r) Q):(c=false->Jh CS CH H ha F G (II z,h) Q)/\(c=true->Jh CS CH H ha F G r Q):=by
 cases c
 ·exact ⟨fun _=>q,fun h=>absurd h (by decide)⟩
 ·exact ⟨fun h=>absurd h (by decide),fun _=>q⟩
end
def spTell (CS CH:Addr):Sp:=fun vs H Q _=>∃(ha:Addr) (h:OF) (F G:Addr->Prop) (k:Nat),vs=[.ref ha,N_ k]/\Yq CS CH H ha h F/\Yx h/\Jh CS CH H ha F G (O6 h (.told (k:Int))) Q
theorem JL:Zs ["self","place","holder"] ["self","place"] (Zj (Zr (top 90) 6)):=qsc
theorem Zc3 (Zw:Xv mg "OUT_OF_RANGE" (-2)) (YR:Xv mg "NO_HOLDER" (-3)) (kS:Wn K Zm) (kH:Y2 K Zg) (R:YB K Zm "tell_holder" "House.tell_holder" (Zr (top 90) 6) ["self","place"]) (Ya:Zh P w K mg base 2 "is_place" ["place"] (QY 0 63)):ZC P w K mg base 3 Zm "tell_holder" ["self","place"] (spTell Zm Zg):=by
 refine R.callee JL (fun vs H Q E h=>?_) (fun f cdv A outer s H vs Q E hr h=>?_)
 ·walk_at "ln"
 obtain ⟨ha,h,F,G,k,rfl,hp,ok,q⟩:=h
 obtain ⟨s0,s1,s2,s3,s4⟩:=kS
 obtain ⟨k0,k1,k2,k3,k4,k5,k6,k7,k8⟩:=kH
 have hp':=hp
 obtain ⟨has,dx,ka,hl,tl,vs,ts,p⟩:=hp
 have po:=p.o
 have ph:=p.hs
 refine ⟨_,(Zb (ZM (Y8 (Z0 (Ze Ya hr (Za (pv 1) Zc)))) (Zd (Zk (ZH (Za (YM Zw) Zc)))) Zx) (Zb (Zq 2 JL.nd (Zy (Zv K) (Zt K (pv 0)) (pv 1))) (Zb (ZM (XT (Wq (pv 2))) (Zd (Zk (ZH (Za (YM YR) Zc)))) Zx) (Zd (Zk (ZH (Za (Zi 0) (Za (Zt K (pv 2)) (Za (Zt K (pv 2)) (Za (Zt K (pv 2)) (Za (Zt K (pv 2)) Zc))))))))))),?_⟩
 refine Zo (σ':=[some (.ref ha),some (N_ k),none]) rfl ?_
 unfold O6 at q
 obtain ⟨q1,q2⟩:=Za1 q
 rw [Zbg] at q1 q2
 nofun
 refine ⟨k,rfl,?_⟩
 nofun
 by_cases hk:0<=k/\k<=63
 case neg=>
  rw [decide_eq_false hk]
  refine YV ?_
  nofun
  exact ⟨Zp (by simp),fun u hu=>Z5 (q1 (decide_eq_false hk)) (by decide) hp' (Zl _) hu⟩
 have q3:=q2 (decide_eq_true hk)
 rw [decide_eq_true hk]
 refine Xc ?_
 nofun
 obtain ⟨v,hv,hpl⟩:=p.get (i:=k) (by rw [ok.len]; lia)
 refine Zcv ph hv ?_
 nofun
 rw [Ot] at q3
 rcases hpl with ⟨rfl,e⟩ | ⟨a,dh,sa,x,rfl,e,fa,fs,m1,m2,hx,hxs⟩
 ·rw [decide_eq_true rfl]
  refine YV ?_
  nofun
  rw [e] at q3
  exact ⟨Zp (by simp),fun u hu=>Z5 q3 (by decide) hp' (Zl _) hu⟩
 ·rw [decide_eq_false (fun h=>V.noConfusion h)]
  refine Xc ?_
  nofun
  rw [e] at q3
  exact ⟨Zp (by simp),fun u hu=>QD q3 (Jr (Zl _)) hp' (fun b fb=>.inl fb) hu hu rfl⟩
theorem But.frame {a:Addr} {F:Addr->Prop} {H H':Hp} (b:But a H H') (fa:F a):Frame F H H':=fun c o n e=>b c o (fun z=>n (z ▸ fa)) e
theorem But.has {a:Addr} {F:Addr->Prop} {H H':Hp} {o:HO} (b:But a H H') (h':H' a=some o) (has:∀c,F c->∃u,H c=some u):∀c,F c->∃u,H' c=some u:=fun c fc=>by
 by_cases e:c=a
 ·exact ⟨o,e ▸ h'⟩
 ·obtain ⟨u,hu⟩:=has c fc
  exact ⟨u,b c u e hu⟩
theorem ansI_nat0 (n:Nat):LI (ansI (II (n:Int)))=[N_ n]:=Q2 n []
def spVoid (CS CH:Addr):Sp:=fun vs H Q _=>∃(ha:Addr) (h:OF) (F G:Addr->Prop) (k:Nat),vs=[.ref ha,N_ k]/\Yq CS CH H ha h F/\Yx h/\Jh CS CH H ha F G (O6 h (.void (k:Int))) Q
theorem Jj:Zs ["self","place","holder"] ["self","place"] (Zj (Zr (top 90) 12)):=qsc
theorem Zcd (Zw:Xv mg "OUT_OF_RANGE" (-2)) (YR:Xv mg "NO_HOLDER" (-3)) (kS:Wn K Zm) (kH:Y2 K Zg) (R:YB K Zm "void_tickets" "House.void_tickets" (Zr (top 90) 12) ["self","place"]) (Ya:Zh P w K mg base 2 "is_place" ["place"] (QY 0 63)):ZC P w K mg base 3 Zm "void_tickets" ["self","place"] (spVoid Zm Zg):=by
 refine R.callee Jj (fun vs H Q E h=>?_) (fun f cdv A outer s H vs Q E hr h=>?_)
 ·walk_at "ln"
 obtain ⟨ha,h,F,G,k,rfl,hp,ok,q⟩:=h
 obtain ⟨s0,s1,s2,s3,s4⟩:=kS
 obtain ⟨k0,k1,k2,k3,k4,k5,k6,k7,k8⟩:=kH
 have hp':=hp
 obtain ⟨has,dx,ka,hl,tl,vs,ts,p⟩:=hp
 have po:=p.o
 have ph:=p.hs
 refine ⟨_,(Zb (ZM (Y8 (Z0 (Ze Ya hr (Za (pv 1) Zc)))) (Zd (Zk (ZH (Za (YM Zw) Zc)))) Zx) (Zb (Zq 2 Jj.nd (Zy (Zv K) (Zt K (pv 0)) (pv 1))) (Zb (ZM (XT (Wq (pv 2))) (Zd (Zk (ZH (Za (YM YR) Zc)))) Zx) (Zb (Z1 K (pv 2) (Zf Xg (Zt K (pv 0)) (Zi 1))) (Zd (Zk (ZH (Za (Zi 0) Zc)))))))),?_⟩
 refine Zo (σ':=[some (.ref ha),some (N_ k),none]) rfl ?_
 unfold O6 at q
 obtain ⟨q1,q2⟩:=Za1 q
 rw [Zbg] at q1 q2
 nofun
 refine ⟨k,rfl,?_⟩
 nofun
 by_cases hk:0<=k/\k<=63
 case neg=>
  rw [decide_eq_false hk]
  refine YV ?_
  nofun
  exact ⟨Zp (by simp),fun u hu=>Z5 (q1 (decide_eq_false hk)) (by decide) hp' (Zl _) hu⟩
 have q3:=q2 (decide_eq_true hk)
 rw [decide_eq_true hk]
 refine Xc ?_
 nofun
 obtain ⟨v,hv,hpl⟩:=p.get (i:=k) (by rw [ok.len]; lia)
 refine Zcv ph hv ?_
 nofun
 rw [Ot] at q3
 rcases hpl with ⟨rfl,e⟩ | ⟨a,dh,sa,x,rfl,e,fa,fs,m1,m2,hx,hxs⟩
 ·rw [decide_eq_true rfl]
  refine YV ?_
  nofun
  rw [e] at q3
  exact ⟨Zp (by simp),fun u hu=>Z5 q3 (by decide) hp' (Zl _) hu⟩
 ·rw [decide_eq_false (fun h=>V.noConfusion h)]
  refine Xc ?_
  rw [e] at q3
  nofun
  ·refine ⟨Zp (by simp),fun u hu=>?_⟩
   have b1:But a H (upd H a (hoO Zg dh sa { x with floor:=h.number - 1 })):=But.upd H _
   have h1:upd H a (hoO Zg dh sa { x with floor:=h.number - 1 }) a=some (hoO Zg dh sa { x with floor:=h.number - 1 }):=Zn
   exact QD (H1:=upd H a (hoO Zg dh sa { x with floor:=h.number - 1 })) q3 (b1.frame fa) ⟨b1.has h1 has,_,_,_,_,_,_,p.holder hv hx hxs b1 h1 rfl⟩ (fun b fb=>.inl fb) (b1.free h1 hu) hu rfl
  ·exact ok.n1
def spDrop (CS CH:Addr):Sp:=fun vs H Q _=>∃(ha:Addr) (h:OF) (F G:Addr->Prop) (k:Nat),vs=[.ref ha,N_ k]/\Yq CS CH H ha h F/\Yx h/\Jh CS CH H ha F G (O6 h (.drop (k:Int))) Q
theorem rd_setV {p:Addr} {xs:List V} {n:Nat} {v:V} {H:Hp} {Q:Hp->Prop} (h:H p=some (.lst xs)) (hn:n < xs.length) (q:Q (upd H p (.lst (xs.set n v)))):rSetL (.ref p) (N_ n) v H Q:=⟨p,xs,n,n,rfl,rfl,h,by unfold ixN; rw [if_pos (by exact O0 _),if_pos (by exact qw37)]; simp,q⟩
theorem Zcz:Zs ["self","place"] ["self","place"] (Zj (Zr (top 90) 3)):=qsc
theorem ZcZ (Zw:Xv mg "OUT_OF_RANGE" (-2)) (YR:Xv mg "NO_HOLDER" (-3)) (kS:Wn K Zm) (kH:Y2 K Zg) (R:YB K Zm "drop_holder" "House.drop_holder" (Zr (top 90) 3) ["self","place"]) (Ya:Zh P w K mg base 2 "is_place" ["place"] (QY 0 63)):ZC P w K mg base 3 Zm "drop_holder" ["self","place"] (spDrop Zm Zg):=by
 refine R.callee Zcz (fun vs H Q E h=>?_) (fun f cdv A outer s H vs Q E hr h=>?_)
 ·walk_at "ln"
 obtain ⟨ha,h,F,G,k,rfl,hp,ok,q⟩:=h
 obtain ⟨s0,s1,s2,s3,s4⟩:=kS
 obtain ⟨k0,k1,k2,k3,k4,k5,k6,k7,k8⟩:=kH
 have hp':=hp
 obtain ⟨has,dx,ka,hl,tl,vs,ts,p⟩:=hp
 have po:=p.o
 have ph:=p.hs
 refine ⟨_,(Zb (ZM (Y8 (Z0 (Ze Ya hr (Za (pv 1) Zc)))) (Zd (Zk (ZH (Za (YM Zw) Zc)))) Zx) (Zb (ZM (XT (Wq (Zy (Zv K) (Zt K (pv 0)) (pv 1)))) (Zd (Zk (ZH (Za (YM YR) Zc)))) Zx) (Zb (ps_asg Qe (pg_sub (Zt K (pv 0)) (pv 1) Zef)) (Zd (Zk (ZH (Za (Zi 0) Zc))))))),?_⟩
 refine Zo (σ':=[some (.ref ha),some (N_ k)]) rfl ?_
 unfold O6 at q
 obtain ⟨q1,q2⟩:=Za1 q
 rw [Zbg] at q1 q2
 nofun
 refine ⟨k,rfl,?_⟩
 nofun
 by_cases hk:0<=k/\k<=63
 case neg=>
  rw [decide_eq_false hk]
  refine YV ?_
  nofun
  exact ⟨Zp (by simp),fun u hu=>Z5 (q1 (decide_eq_false hk)) (by decide) hp' (Zl _) hu⟩
 have q3:=q2 (decide_eq_true hk)
 rw [decide_eq_true hk]
 refine Xc ?_
 nofun
 have hkl:k < h.holders.length:=by rw [ok.len]; omega
 obtain ⟨v,hv,hpl⟩:=p.get hkl
 refine Zcv ph hv ?_
 nofun
 rw [Ot] at q3
 rcases hpl with ⟨rfl,e⟩ | ⟨a,dh,sa,x,rfl,e,fa,fs,m1,m2,hx,hxs⟩
 ·rw [decide_eq_true rfl]
  refine YV ?_
  nofun
  rw [e] at q3
  exact ⟨Zp (by simp),fun u hu=>Z5 q3 (by decide) hp' (Zl _) hu⟩
 ·rw [decide_eq_false (fun h=>V.noConfusion h)]
  refine Xc ?_
  rw [e] at q3
  nofun
  refine rd_setV ph (by rw [p.pl.len]; exact hkl) ?_
  obtain ⟨H1,e1⟩:∃H1,H1=upd H hl (.lst (vs.set k .non)):=⟨_,rfl⟩
  have h1:H1 hl=some (.lst (vs.set k .non)):=by rw [e1]; exact Zn
  have b1:But hl H H1:=by rw [e1]; exact But.upd H _
  rw [<- e1]
  nofun
  exact ⟨Zp (by simp),fun u hu=>QD q3 (b1.frame p.fh) ⟨b1.has h1 has,_,_,_,_,_,_,p.place b1 h1 (fun _ z=>z) (.inl ⟨rfl,rfl⟩) (fun _ _ z=>V.noConfusion z)⟩ (fun b fb=>.inl fb) (b1.free h1 hu) hu rfl⟩
theorem rd_notN {t:TE} {σ:St} {H:Hp} {Q:VK} (h:t σ H fun x H1=>Q (.bl (!decide (x=.non))) H1):tNotN t σ H Q:=h
theorem for_enumV {K:Oa} {a:Addr} {xs:List V} {g:TG} {tb:TS} {D:Zah} {σ:St} {H:Hp} (Pv:Nat->St->Hp->Prop) (h0:Pv 0 σ H) (hl:∀i σ H,i<=xs.length->Pv i σ H->SqL K H a xs)
 (hs:∀i σ H T v,xs[i]?=some v->Pv i σ H->H T=none->g (.ref T) σ (upd H T (.tup [N_ i,v])) fun σ2 H2=>tb { D with nx:=Pv (i + 1),ct:=Pv (i + 1),bk:=D.nx } σ2 H2) (hd:∀σ H,Pv xs.length σ H->D.nx σ H) :
 ∃W:Nat->Nat->St->Hp->Prop,(∃m,W 0 m σ H)/\∀i m σ H,W i m σ H->
  ((Ite K a).stop i H/\D.nx σ H)∨((Ite K a).go i H/\∃N:St->Hp->Prop,(∀σ' H',N σ' H'->∃m',m' < m/\W (i + 1) m' σ' H')/\∀x H',(Ite K a).yld i H x H'->g x σ H' fun σ2 H2=>tb { D with nx:=N,ct:=N,bk:=D.nx } σ2 H2):=by
 refine ⟨fun i m σ H=>m=xs.length - i/\i<=xs.length/\Pv i σ H,⟨xs.length,by simp,Ib _,h0⟩,?_⟩
 rintro i m σ H ⟨rfl,hi,p⟩
 have q:=hl i σ H hi p
 by_cases hlt:i < xs.length
 ·refine .inr ⟨⟨xs,_,q,Of hlt⟩,Pv (i + 1),fun σ' H' p'=>⟨xs.length - (i + 1),by omega,rfl,hlt,p'⟩,fun x H' hy=>?_⟩
  obtain ⟨T,x',e1,hT,e2,hx⟩:=hy
  subst e1 e2
  exact hs i σ H T x' (hx _ q) p hT
 ·have e:i=xs.length:=by lia
  subst e
  exact .inl ⟨⟨xs,q,Oq _⟩,hd σ H p⟩
def freeN (h:OF):Option Nat:=(Ob Sy23.PLACES).find? fun k:Nat=>(h.at_ k).isNone
def spFree (CS CH:Addr):Sp:=fun vs H Q _=>∃(ha:Addr) (h:OF) (F:Addr->Prop),vs=[.ref ha]/\Yq CS CH H ha h F/\Yx h/\∀H',ZA H H'->Q (optV (freeN h)) H'
theorem Qh:Zs ["self","place","holder"] ["self"] (Zj (Zr (top 90) 1)):=qsc
theorem Zdm (B:Blt mg) (kS:Wn K Zm) (R:YB K Zm "free_place" "House.free_place" (Zr (top 90) 1) ["self"]):ZC P w K mg base 1 Zm "free_place" ["self"] (spFree Zm Zg):=by
 refine R.callee Qh (fun vs H Q E h=>?_) (fun f cdv A outer s H vs Q E hr h=>?_)
 ·walk_at "ln"
 obtain ⟨ha,h,F,rfl,hp,ok,q⟩:=h
 obtain ⟨s0,s1,s2,s3,s4⟩:=kS
 obtain ⟨has,dx,ka,hl,tl,vs,ts,p⟩:=hp
 have po:=p.o
 have ph:=p.hs
 have hvl:vs.length=64:=by rw [p.pl.len,ok.len]
 refine ⟨_,(Zb (Xx PassesOwn.never rfl (Zf8 K rfl B.enumerate (Za (Zt K (pv 0)) Zc)) (Zfz K 2 rfl (JG (ZW 1 Qh.nd) (JG (ZW 2 Qh.nd) ZfA))) (Zd (ZM (XT (Wq (pv 2))) (Zd (Zk (pv 1))) Zx))) (Zd (Zk Qe))),?_⟩
 refine Zo (σ':=[some (.ref ha),none,none]) rfl ?_
 nofun
 refine Zgb (SqL.of ph) ?_
 refine for_enumV (K:=K) (a:=hl) (xs:=vs) (fun i σ H'=>ZA H H'/\(∀j,j < i->(h.at_ j).isNone=false)/\∃v v',σ=[some (.ref ha),v,v']) ⟨Zl _,fun j hj=>absurd hj (Tj j),none,none,rfl⟩ (fun i σ H' _ ⟨e,_⟩=>e.seq (SqL.of ph)) ?_ ?_
 ·rintro i σ H1 T v hv ⟨s1,hb,u,u',rfl⟩ hT
  refine Zea (SqT.of Zn) ?_
  dsimp only [Iy]
  have hi:i < 64:=by rw [<- hvl]; exact (OB.mp hv).1
  obtain ⟨v',hv',hpl⟩:=p.get (i:=i) (by rw [ok.len]; exact hi)
  obtain rfl:v=v':=Option.some.inj (hv.symm.trans hv')
  nofun
  rcases hpl with ⟨rfl,e⟩ | ⟨a,dh,sa,x,rfl,e,-⟩
  ·rw [decide_eq_true rfl]
   refine YV ?_
   nofun
   have ef:freeN h=some i:=by
    unfold freeN
    rw [V7]
    refine ⟨by rw [e]; rfl,OR.mpr hi,fun j hj=>by rw [hb j hj]; rfl⟩
   rw [ef] at q
   exact q _ (Zz s1 (s1.free hT))
  ·rw [decide_eq_false (fun h=>V.noConfusion h)]
   refine Xc ?_
   nofun
   refine ⟨Zz s1 (s1.free hT),fun j hj=>?_,_,_,rfl⟩
   by_cases ej:j=i
   ·rw [ej,e]; rfl
   ·exact hb j (by lia)
 ·rintro σ H1 ⟨s1,hb,u,u',rfl⟩
  nofun
  have ef:freeN h=none:=by
   unfold freeN
   rw [List.find?_range_eq_none]
   intro j hj
   rw [hb j (by rw [hvl]; exact hj)]
   rfl
  rw [ef] at q
  exact q _ s1
def spTryC (CS CH:Addr):Sp:=fun vs H Q _=>∃(ha cp:Addr) (h:OF) (F G:Addr->Prop) (k now:Nat) (c:Sy23.B),vs=[.ref ha,N_ k,N_ now,.ref cp]/\Yq CS CH H ha h F/\Yx h/\H cp=some (.lst (LN c))/\Jh CS CH H ha F G (O6 h (.try_ (k:Int) (c.length:Nat) c now)) Q
theorem isCode_eq (c:Sy23.B):TN c=decide (∀x,x∈c->48<=x/\x<=57):=by
 unfold TN Ue
 rw [OU,Iw,decide_eq_true_eq]
 constructor
 ·intro h x hx
  have:=h x hx
  rw [Oj,decide_eq_true_eq,decide_eq_true_eq] at this
  exact this
 ·intro h x hx
  rw [Oj,decide_eq_true_eq,decide_eq_true_eq]
  exact h x hx
theorem Zen (k now n:Nat) (c:Sy23.B):(Sy23.place (k:Int) && (UZ ((n:Nat):Int) 6 8 && (TN c && Ue now 0 UK)))=decide ((0<=k/\k<=63)/\(0<=now/\now<=2 ^ 40)/\(6<=n/\n<=8)/\∀x,x∈c->48<=x/\x<=57):=by
 rw [Zbg,XQ,isCode_eq,JN,OU]
 simp only [Oj,decide_eq_true_eq]
 constructor
 ·rintro ⟨a,b,c,d⟩; exact ⟨a,d,b,c⟩
 ·rintro ⟨a,b,c,d⟩; exact ⟨a,c,d,b⟩
theorem Jd:Zs ["self","place","now","code","holder","refusal"] ["self","place","now","code"] (Zj (Zr (top 90) 4)):=qsc
theorem ZeG (Zw:Xv mg "OUT_OF_RANGE" (-2)) (YR:Xv mg "NO_HOLDER" (-3)) (kS:Wn K Zm) (kH:Y2 K Zg) (R:YB K Zm "try_code" "House.try_code" (Zr (top 90) 4) ["self","place","now","code"]) (Ya:Zh P w K mg base 2 "is_place" ["place"] (QY 0 63)) (Y0:Zh P w K mg base 2 "is_time" ["now"] (QY 0 (2 ^ 40))) (Zet:Zh P w K mg base 3 "is_code" ["row"] (spIsCode K))
 (Xj:ZC P w K mg base 1 Zg "refusal" ["self","now"] (Ze1 Zg)) (Qv:ZC P w K mg base 6 Zg "take_code" ["self","now","code"] (spTake K Zg)):ZC P w K mg base 7 Zm "try_code" ["self","place","now","code"] (spTryC Zm Zg):=by
 refine R.callee Jd (fun vs H Q E h=>?_) (fun f cdv A outer s H vs Q E hr h=>?_)
 ·walk_at "ln"
 obtain ⟨ha,cp,h,F,G,k,now,c,rfl,hp,ok,hcp,q⟩:=h
 obtain ⟨s0,s1,s2,s3,s4⟩:=kS
 obtain ⟨YG,k1,k2,k3,k4,k5,k6,k7,k8⟩:=kH
 have hp':=hp
 obtain ⟨has,dx,ka,hl,tl,vs,ts,p⟩:=hp
 have po:=p.o
 have ph:=p.hs
 refine ⟨_,(Zb (ZM (Y8 (PW.pt (Xd (Z0 (Ze Ya hr (Za (pv 1) Zc))) (Xd (Z0 (Ze Y0 hr (Za (pv 2) Zc))) (XI (Z0 (Ze Zet hr (Za (pv 3) Zc)))))))) (Zd (Zk (ZH (Za (YM Zw) Zc)))) Zx) (Zb (Zq 4 Jd.nd (Zy (Zv K) (Zt K (pv 0)) (pv 1))) (Zb (ZM (XT (Wq (pv 4))) (Zd (Zk (ZH (Za (YM YR) Zc)))) Zx) (Zb (Zq 5 Jd.nd (Z9 YG Xj hr (pv 4) (Za (pv 2) Zc))) (Zb (ZM (XT (pc_notN (pv 5))) (Zd (Zk (ZH (Za (pv 5) Zc)))) Zx) (Zd (Zk (ZH (Za (Z9 YG Qv hr (pv 4) (Za (pv 2) (Za (pv 3) Zc))) Zc))))))))),?_⟩
 refine Zo (σ':=[some (.ref ha),some (N_ k),some (N_ now),some (.ref cp),none,none]) rfl ?_
 unfold O6 at q
 obtain ⟨q1,q2⟩:=Za1 q
 rw [Zen] at q1 q2
 nofun
 refine ⟨k,rfl,?_⟩
 nofun
 refine dif (fun g1=>?_) (fun g1=>?_)
 case refine_2=>
  nofun
  exact ⟨Zp (by simp),fun u hu=>Z5 (q1 (decide_eq_false fun z=>g1 z.1)) (by decide) hp' (Zl _) hu⟩
 nofun
 refine ⟨now,rfl,?_⟩
 nofun
 refine dif (fun g2=>?_) (fun g2=>?_)
 case refine_2=>
  nofun
  exact ⟨Zp (by simp),fun u hu=>Z5 (q1 (decide_eq_false fun z=>g2 z.2.1)) (by decide) hp' (Zl _) hu⟩
 nofun
 refine ⟨cp,c,rfl,SqL.of hcp,?_⟩
 nofun
 unfold codeOk
 by_cases g3:(6<=c.length/\c.length<=8)/\∀x,x∈c->48<=x/\x<=57
 case neg=>
  rw [decide_eq_false g3]
  refine YV ?_
  nofun
  exact ⟨Zp (by simp),fun u hu=>Z5 (q1 (decide_eq_false fun z=>g3 z.2.2)) (by decide) hp' (Zl _) hu⟩
 have q3:=q2 (decide_eq_true ⟨g1,g2,g3⟩)
 rw [decide_eq_true g3]
 refine Xc ?_
 nofun
 obtain ⟨v,hv,hpl⟩:=p.get (i:=k) (by rw [ok.len]; lia)
 refine Zcv ph hv ?_
 nofun
 rw [Ot] at q3
 rcases hpl with ⟨rfl,e⟩ | ⟨a,dh,sa,x,rfl,e,fa,fs,m1,m2,hx,hxs⟩
 ·rw [decide_eq_true rfl]
  refine YV ?_
  nofun
  rw [e] at q3
  exact ⟨Zp (by simp),fun u hu=>Z5 q3 (by decide) hp' (Zl _) hu⟩
 rw [decide_eq_false (fun h=>V.noConfusion h)]
 refine Xc ?_
 rw [e] at q3
 have okx:=ok.ok x (Zca e)
 nofun
 refine ⟨a,dh,sa,x,now,rfl,hx,fun t1=>?_,fun t1 t2=>?_,fun t1 t2=>?_⟩
 ·nofun
  rw [decide_eq_false (fun h=>V.noConfusion h)]
  refine YV ?_
  nofun
  simp only [if_pos t1] at q3
  exact ⟨Zp (by simp),fun u hu=>Z5 q3 (by decide) hp' (Zl _) hu⟩
 ·nofun
  rw [decide_eq_false (fun h=>V.noConfusion h)]
  refine YV ?_
  nofun
  simp only [if_neg t1] at q3
  rw [if_pos (show Va < x.next from t2)] at q3
  exact ⟨Zp (by simp),fun u hu=>Z5 q3 (by decide) hp' (Zl _) hu⟩
 ·nofun
  rw [decide_eq_true rfl]
  refine Xc ?_
  nofun
  simp only [if_neg t1] at q3
  rw [if_neg (show ¬ Va < x.next from t2)] at q3
  refine ⟨a,dh,sa,cp,x,now,c,rfl,hx,hxs,okx,g2.2,SqL.of hcp,fun k' H1 ek b1 h1=>?_,fun H1 en b1 h1=>?_⟩
  ·nofun
   rw [ek] at q3
   exact ⟨Zp (by simp),fun u hu=>QD q3 (b1.frame fa) ⟨b1.has h1 has,_,_,_,_,_,_,p.holder hv hx hxs b1 h1 rfl⟩ (fun b fb=>.inl fb) (b1.free h1 hu) hu rfl⟩
  ·nofun
   rw [en] at q3
   exact ⟨Zp (by simp),fun u hu=>QD q3 (b1.frame fa) ⟨b1.has h1 has,_,_,_,_,_,_,p.holder hv hx hxs b1 h1 rfl⟩ (fun b fb=>.inl fb) (b1.free h1 hu) hu rfl⟩
def spTwoC (CS CH:Addr):Sp:=fun vs H Q _=>∃(ha cp:Addr) (h:OF) (F G:Addr->Prop) (k now n:Nat) (c:Sy23.B),vs=[.ref ha,N_ k,N_ now,N_ n,.ref cp]/\Yq CS CH H ha h F/\Yx h/\H cp=some (.lst (LN c))/\(6<=n/\n<=8->c.length=2 * n)/\Jh CS CH H ha F G (O6 h (.two (k:Int) (n:Int) c now)) Q
theorem Ju:Zs ["self","place","now","digits","codes","holder","refusal"] ["self","place","now","digits","codes"] (Zj (Zr (top 90) 5)):=qsc
theorem Zfl (Zw:Xv mg "OUT_OF_RANGE" (-2)) (YR:Xv mg "NO_HOLDER" (-3)) (QL:Xv mg "NOT_NOW" (-4)) (kS:Wn K Zm) (kH:Y2 K Zg) (R:YB K Zm "try_two" "House.try_two" (Zr (top 90) 5) ["self","place","now","digits","codes"]) (Ya:Zh P w K mg base 2 "is_place" ["place"] (QY 0 63)) (Y0:Zh P w K mg base 2 "is_time" ["now"] (QY 0 (2 ^ 40))) (JP:Zh P w K mg base 3 "are_two_codes" ["digits","row"] (Zgx K))
 (Xj:ZC P w K mg base 1 Zg "refusal" ["self","now"] (Ze1 Zg)) (Qw:ZC P w K mg base 6 Zg "take_pair" ["self","now","codes"] (spTake2 K Zg)):ZC P w K mg base 7 Zm "try_two" ["self","place","now","digits","codes"] (spTwoC Zm Zg):=by
 refine R.callee Ju (fun vs H Q E h=>?_) (fun f cdv A outer s H vs Q E hr h=>?_)
 ·walk_at "ln"
 obtain ⟨ha,cp,h,F,G,k,now,n,c,rfl,hp,ok,hcp,hcl,q⟩:=h
 obtain ⟨s0,s1,s2,s3,s4⟩:=kS
 obtain ⟨YG,k1,k2,k3,k4,k5,k6,k7,k8⟩:=kH
 have hp':=hp
 obtain ⟨has,dx,ka,hl,tl,vs,ts,p⟩:=hp
 have po:=p.o
 have ph:=p.hs
 refine ⟨_,(Zb (ZM (Y8 (PW.pt (Xd (Z0 (Ze Ya hr (Za (pv 1) Zc))) (Xd (Z0 (Ze Y0 hr (Za (pv 2) Zc))) (XI (Z0 (Ze JP hr (Za (pv 3) (Za (pv 4) Zc))))))))) (Zd (Zk (ZH (Za (YM Zw) Zc)))) Zx) (Zb (Zq 5 Ju.nd (Zy (Zv K) (Zt K (pv 0)) (pv 1))) (Zb (ZM (XT (Wq (pv 5))) (Zd (Zk (ZH (Za (YM YR) Zc)))) Zx) (Zb (ZM (ZP on_ne (Zt K (pv 5)) (Zi 0) (ZR _)) (Zd (Zk (ZH (Za (YM QL) Zc)))) Zx) (Zb (Zq 6 Ju.nd (Z9 YG Xj hr (pv 5) (Za (pv 2) Zc))) (Zb (ZM (XT (pc_notN (pv 6))) (Zd (Zk (ZH (Za (pv 6) Zc)))) Zx) (Zd (Zk (ZH (Za (Z9 YG Qw hr (pv 5) (Za (pv 2) (Za (pv 4) Zc))) Zc)))))))))),?_⟩
 refine Zo (σ':=[some (.ref ha),some (N_ k),some (N_ now),some (N_ n),some (.ref cp),none,none]) rfl ?_
 unfold O6 at q
 obtain ⟨q1,q2⟩:=Za1 q
 rw [Zen] at q1 q2
 nofun
 refine ⟨k,rfl,?_⟩
 nofun
 refine dif (fun g1=>?_) (fun g1=>?_)
 case refine_2=>
  nofun
  exact ⟨Zp (by simp),fun u hu=>Z5 (q1 (decide_eq_false fun z=>g1 z.1)) (by decide) hp' (Zl _) hu⟩
 nofun
 refine ⟨now,rfl,?_⟩
 nofun
 refine dif (fun g2=>?_) (fun g2=>?_)
 case refine_2=>
  nofun
  exact ⟨Zp (by simp),fun u hu=>Z5 (q1 (decide_eq_false fun z=>g2 z.2.1)) (by decide) hp' (Zl _) hu⟩
 nofun
 refine ⟨cp,c,n,rfl,SqL.of hcp,?_⟩
 nofun
 by_cases g3:(6<=n/\n<=8)/\c.length=2 * n/\∀x,x∈c->48<=x/\x<=57
 case neg=>
  rw [decide_eq_false g3]
  refine YV ?_
  nofun
  exact ⟨Zp (by simp),fun u hu=>Z5 (q1 (decide_eq_false fun z=>g3 ⟨z.2.2.1,hcl z.2.2.1,z.2.2.2⟩)) (by decide) hp' (Zl _) hu⟩
 have q3:=q2 (decide_eq_true ⟨g1,g2,g3.1,g3.2.2⟩)
 rw [decide_eq_true g3]
 refine Xc ?_
 nofun
 obtain ⟨v,hv,hpl⟩:=p.get (i:=k) (by rw [ok.len]; lia)
 refine Zcv ph hv ?_
 nofun
 rw [Ot] at q3
 rcases hpl with ⟨rfl,e⟩ | ⟨a,dh,sa,x,rfl,e,fa,fs,m1,m2,hx,hxs⟩
 ·rw [decide_eq_true rfl]
  refine YV ?_
  nofun
  rw [e] at q3
  exact ⟨Zp (by simp),fun u hu=>Z5 q3 (by decide) hp' (Zl _) hu⟩
 rw [decide_eq_false (fun h=>V.noConfusion h)]
 refine Xc ?_
 rw [e] at q3
 have okx:=ok.ok x (Zca e)
 nofun
 by_cases g4:x.step=0
 case neg=>
  rw [decide_eq_false g4]
  refine YV ?_
  nofun
  simp only [if_pos (show x.step≠0∨now < x.till from .inl g4)] at q3
  exact ⟨Zp (by simp),fun u hu=>Z5 q3 (by decide) hp' (Zl _) hu⟩
 rw [decide_eq_true g4]
 refine Xc ?_
 nofun
 refine ⟨a,dh,sa,x,now,rfl,hx,fun t1=>?_,fun t1 t2=>?_,fun t1 t2=>?_⟩
 ·nofun
  rw [decide_eq_false (fun h=>V.noConfusion h)]
  refine YV ?_
  nofun
  simp only [if_pos (show x.step≠0∨now < x.till from .inr t1)] at q3
  exact ⟨Zp (by simp),fun u hu=>Z5 q3 (by decide) hp' (Zl _) hu⟩
 ·nofun
  rw [decide_eq_false (fun h=>V.noConfusion h)]
  refine YV ?_
  nofun
  simp only [if_neg (show ¬ (x.step≠0∨now < x.till) from fun z=>z.elim (fun z=>z g4) t1)] at q3
  rw [if_pos (show Va < x.next from t2)] at q3
  exact ⟨Zp (by simp),fun u hu=>Z5 q3 (by decide) hp' (Zl _) hu⟩
 ·nofun
  rw [decide_eq_true rfl]
  refine Xc ?_
  nofun
  simp only [if_neg (show ¬ (x.step≠0∨now < x.till) from fun z=>z.elim (fun z=>z g4) t1)] at q3
  rw [if_neg (show ¬ Va < x.next from t2),Ot,findsPair_eq g3.2.1] at q3
  refine ⟨a,dh,sa,cp,x,now,c,rfl,hx,hxs,okx,SqL.of hcp,fun k' H1 ek b1 h1=>?_,fun H1 en b1 h1=>?_⟩
  ·nofun
   rw [ek] at q3
   exact ⟨Zp (by simp),fun u hu=>QD q3 (b1.frame fa) ⟨b1.has h1 has,_,_,_,_,_,_,p.holder hv hx hxs b1 h1 rfl⟩ (fun b fb=>.inl fb) (b1.free h1 hu) hu rfl⟩
  ·nofun
   rw [en] at q3
   exact ⟨Zp (by simp),fun u hu=>QD q3 (b1.frame fa) ⟨b1.has h1 has,_,_,_,_,_,_,p.holder hv hx hxs b1 h1 rfl⟩ (fun b fb=>.inl fb) (b1.free h1 hu) hu rfl⟩
def spAdd (CS CH:Addr):Sp:=fun vs H Q _=>∃(ha sp:Addr) (h:OF) (F G:Addr->Prop) (step digits first:Nat) (sec:Sy23.B),vs=[.ref ha,N_ step,N_ digits,N_ first,.ref sp]/\Yq CS CH H ha h F/\Yx h/\H sp=some (.lst (LN sec))/\Ol sec/\G sp/\¬ F sp/\Jh CS CH H ha F G (O6 h (.holder (sec.length:Nat) (step:Int) (digits:Int) sec first)) Q
theorem add_cond (s step d first:Nat):(UZ (s:Int) 16 64 && (UZ (step:Int) 0 3600 && (UZ (d:Int) 6 8 && Ue first 0 UK)))=decide ((0<=step/\step<=3600)/\(6<=d/\d<=8)/\(0<=first/\first<=2 ^ 40)/\(16<=s/\s<=64)):=by
 rw [XQ,XQ,XQ,JN,OU]
 simp only [Oj,decide_eq_true_eq]
 constructor
 ·rintro ⟨a,b,c,d⟩; exact ⟨b,c,d,a⟩
 ·rintro ⟨a,b,c,d⟩; exact ⟨d,a,b,c⟩
theorem JZ:Zs ["self","step","digits","first","secret","place"] ["self","step","digits","first","secret"] (Zj (Zr (top 90) 2)):=qsc
theorem Zdl (Zw:Xv mg "OUT_OF_RANGE" (-2)) (QM:Xv mg "NO_ROOM" (-6)) (ZaB:ZU mg "LAST_STEP" 3600) (ZdI:ZU mg "LAST_FIRST" (2 ^ 40)) (kS:Wn K Zm) (ZcW:mg "Holder"=some (.ref Zg)) (R:YB K Zm "add_holder" "House.add_holder" (Zr (top 90) 2) ["self","step","digits","first","secret"]) (ZI:Zh P w K mg base 1 "is_within" ["number","least","last"] WL) (Yi:Zh P w K mg base 2 "are_digits" ["digits"] (QY 6 8)) (XA:Zh P w K mg base 2 "is_secret" ["row"] (ZbR K))
 (Qy:ZC P w K mg base 1 Zm "free_place" ["self"] (spFree Zm Zg)) (Wg:XC P w K mg base 1 Zg ["self","secret","step","digits","first","floor"] (Zgs Zg)):ZC P w K mg base 3 Zm "add_holder" ["self","step","digits","first","secret"] (spAdd Zm Zg):=by
 refine R.callee JZ (fun vs H Q E h=>?_) (fun f cdv A outer s H vs Q E hr h=>?_)
 ·walk_at "ln"
 obtain ⟨ha,sp,h,F,G,step,digits,first,sec,rfl,hp,ok,hsp,hB,gs,ns,q⟩:=h
 obtain ⟨YQ,s1,s2,s3,s4⟩:=kS
 have hp':=hp
 obtain ⟨has,dx,ka,hl,tl,vs,ts,p⟩:=hp
 have po:=p.o
 have ph:=p.hs
 refine ⟨_,(Zb (ZM (Y8 (PW.pt (Xd (Z0 (Ze ZI hr (Za (pv 1) (Za (Zi 0) (Za (ZT ZaB) Zc))))) (XI (Z0 (Ze Yi hr (Za (pv 2) Zc))))))) (Zd (Zk (ZH (Za (YM Zw) Zc)))) Zx) (Zb (ZM (Y8 (PW.pt (Xd (Z0 (Ze ZI hr (Za (pv 3) (Za (Zi 0) (Za (ZT ZdI) Zc))))) (XI (Z0 (Ze XA hr (Za (pv 4) Zc))))))) (Zd (Zk (ZH (Za (YM Zw) Zc)))) Zx) (Zb (Zq 5 JZ.nd (QT YQ Qy hr (pv 0))) (Zb (ZM (XT (Wq (pv 5))) (Zd (Zk (ZH (Za (YM QM) Zc)))) Zx) (Zb (ps_asg (Zaq ZcW Wg hr (Za (pv 4) (Za (pv 1) (Za (pv 2) (Za (pv 3) (Za (Zf Xg (Zt K (pv 0)) (Zi 1)) Zc)))))) (pg_sub (Zt K (pv 0)) (pv 5) Zef)) (Zd (Zk (ZH (Za (pv 5) Zc))))))))),?_⟩
 refine Zo (σ':=[some (.ref ha),some (N_ step),some (N_ digits),some (N_ first),some (.ref sp),none]) rfl ?_
 unfold O6 at q
 obtain ⟨q1,q2⟩:=Za1 q
 rw [add_cond] at q1 q2
 nofun
 refine ⟨step,0,3600,rfl,?_⟩
 nofun
 refine dif (fun g1=>?_) (fun g1=>?_)
 case refine_2=>
  nofun
  exact ⟨Zp (by simp),fun u hu=>Z5 (q1 (decide_eq_false fun z=>g1 z.1)) (by decide) hp' (Zl _) hu⟩
 nofun
 refine ⟨digits,rfl,?_⟩
 nofun
 by_cases g2:6<=digits/\digits<=8
 case neg=>
  rw [decide_eq_false g2]
  refine YV ?_
  nofun
  exact ⟨Zp (by simp),fun u hu=>Z5 (q1 (decide_eq_false fun z=>g2 z.2.1)) (by decide) hp' (Zl _) hu⟩
 rw [decide_eq_true g2]
 refine Xc ?_
 nofun
 refine ⟨first,0,2 ^ 40,rfl,?_⟩
 nofun
 refine dif (fun g3=>?_) (fun g3=>?_)
 case refine_2=>
  nofun
  exact ⟨Zp (by simp),fun u hu=>Z5 (q1 (decide_eq_false fun z=>g3 z.2.2.1)) (by decide) hp' (Zl _) hu⟩
 nofun
 refine ⟨sp,sec,rfl,SqL.of hsp,hB,?_⟩
 nofun
 by_cases g4:16<=sec.length/\sec.length<=64
 case neg=>
  rw [decide_eq_false g4]
  refine YV ?_
  nofun
  exact ⟨Zp (by simp),fun u hu=>Z5 (q1 (decide_eq_false fun z=>g4 z.2.2.2)) (by decide) hp' (Zl _) hu⟩
 have q3:=q2 (decide_eq_true ⟨g1,g2,g3,g4⟩)
 rw [decide_eq_true g4]
 refine Xc ?_
 nofun
 refine ⟨ha,h,F,rfl,hp',ok,fun H1 t1=>?_⟩
 have po1:=t1 _ _ po
 have q4:Jh Zm Zg H ha F G (match freeN h with
  | none=>(II (-6),h)
  | some k=>(II (k:Nat),h.set k (some ⟨sec,(step:Int).toNat,(digits:Int).toNat,first,0,0,false,h.number - 1⟩))) Q:=q3
 cases ef:freeN h with
 | none=>
  rw [ef] at q4
  nofun
  rw [decide_eq_true (show optV none=.non from rfl)]
  refine YV ?_
  nofun
  exact ⟨Zp (by simp),fun u hu=>Z5 q4 (by decide) hp' t1 hu⟩
 | some k=>
  rw [ef] at q4
  nofun
  rw [decide_eq_false (show ¬ optV (some k)=.non from fun h=>V.noConfusion h)]
  refine Xc ?_
  dsimp only [optV]
  nofun
  ·have hk:k < 64:=by
    unfold freeN at ef
    rw [V7] at ef
    exact OR.mp ef.2.1
   intro x dy hx hdy nx
   obtain ⟨H2,e2⟩:∃H2,H2=upd H1 dy (.own x):=⟨_,rfl⟩
   have t2:ZA H1 H2:=by rw [e2]; exact Zz (Zl _) hdy
   have hx2:H2 x=none:=by rw [e2,ZN nx.symm]; exact hx
   rw [<- e2]
   refine ⟨x,dy,sp,step,digits,first,h.number - 1,sec,rfl,Zn,rfl,?_⟩
   rw [Jf]
   obtain ⟨H3,e3,t3,t23,x3,-⟩:=YJ (hoO Zg dy sp ⟨sec,step,digits,first,0,0,false,h.number - 1⟩) (t1.trans t2) hx2
   rw [e3]
   have po3:=t3 _ _ po
   have ph3:=t3 _ _ ph
   nofun
   refine rd_setV ph3 (by rw [p.pl.len,ok.len]; exact hk) ?_
   obtain ⟨H4,e4⟩:∃H4,H4=upd H3 hl (.lst (vs.set k (.ref x))):=⟨_,rfl⟩
   have h4:H4 hl=some (.lst (vs.set k (.ref x))):=by rw [e4]; exact Zn
   have b4:But hl H3 H4:=by rw [e4]; exact But.upd H3 _
   have b04:But hl H H4:=(ZA.but t3).trans b4
   rw [<- e4]
   nofun
   have hx0:H x=none:=t1.free hx
   have nxl:x≠hl:=(Zu ph hx0).symm
   have nsl:sp≠hl:=fun z=>ns (z ▸ p.fh)
   have nst:sp≠tl:=fun z=>ns (z ▸ p.ft)
   refine ⟨Zp (by simp),fun u hu=>QD (F':=fun b=>F b∨b=x∨b=sp) q4 (b04.frame p.fh) ⟨?_,_,_,_,_,_,_,p.place b04 h4 (fun b fb=>.inl fb) (.inr ⟨x,dy,sp,_,rfl,rfl,.inr (.inl rfl),.inr (.inr rfl),nsl,nst,b4 _ _ nxl x3,b04 _ _ nsl hsp⟩) ?_⟩ ?_ (b04.free h4 hu) hu (ansI_nat0 k).symm⟩
   ·rintro b (fb | rfl | rfl)
    ·exact b04.has h4 has b fb
    ·exact ⟨_,b4 _ _ nxl x3⟩
    ·exact ⟨_,b04 _ _ nsl hsp⟩
   ·intro a j ea ej
    have ea':x=a:=V.ref.inj ea
    subst ea'
    have hj:=(OB.mp ej).1
    rcases p.pl.at_ j _ _ ej (Of (p.pl.len ▸ hj)) with ⟨z,_⟩ | ⟨a',d',s',y,z1,z2,f1,-⟩
    ·exact absurd z (by simp)
    ·obtain ⟨u',hu'⟩:=has _ f1
     rw [<- V.ref.inj z1,hx0] at hu'
     exact absurd hu' (by simp)
   ·rintro b (fb | rfl | rfl)
    ·exact .inl fb
    ·exact .inr (.inr hx0)
    ·exact .inr (.inl gs)
  ·exact ok.n1
theorem ZF (k n:Nat):(Om k n).length=k:=by
 unfold Om
 rw [Od,OL]
theorem Y5 (k n:Nat):Ol (Om k n):=fun x hx=>by
 unfold Om at hx
 obtain ⟨i,_,rfl⟩:=OK.mp hx
 exact Ik _ (by decide)
def spHouse (C:Addr):Sp:=fun vs H Q _=>∃(a dx kp:Addr),vs=[.ref a,.ref kp]/\H a=some (.ins C dx [])/\∀(H':Hp) (hl tl:Addr),But a H H'->H hl=none->H tl=none->hl≠tl->H' a=some (hsO C dx kp hl tl 1)->H' hl=some (.lst (Ou 64 .non))->H' tl=some (.lst [])->Q .non H'
theorem Zg1:Zs ["self","key"] ["self","key"] (Zj (Zr (top 90) 0)):=qsc
theorem c_house_init (Zaj:ZU mg "PLACES" 64) (kS:Wn K Zm) (R:RawI K Zm "House.__init__" (Zr (top 90) 0) ["self","key"]):XC P w K mg base 1 Zm ["self","key"] (spHouse Zm):=by
 refine R.callee Zg1 (fun vs H Q E h=>?_) (fun f cdv A outer s H vs Q E hr h=>?_)
 ·walk_at "ln"
 obtain ⟨a,dx,kp,rfl,ha,q⟩:=h
 obtain ⟨s0,s1,s2,s3,s4⟩:=kS
 refine ⟨_,(Zb (Z1 K (pv 0) (pv 1)) (Zb (Z1 K (pv 0) (Zi 1)) (Zb (Z1 K (pv 0) (Zf ZeQ (ZH (Za Qe Zc)) (ZT Zaj))) (Zd (Z1 K (pv 0) (ZH Zc)))))),?_⟩
 refine Zo (σ':=[some (.ref a),some (.ref kp)]) rfl ?_
 nofun
 refine ⟨Zp (by simp),fun u hu=>?_⟩
 rw [Jf] at hu
 rw [Jf]
 obtain ⟨H1,e1⟩:∃H1,H1=upd H a (.ins Zm dx [("key",.ref kp),("number",N_ 1)]):=⟨_,rfl⟩
 have h1:H1 a=some (.ins Zm dx [("key",.ref kp),("number",N_ 1)]):=by rw [e1]; exact Zn
 have b1:But a H H1:=by rw [e1]; exact But.upd H _
 have e1':upd H a (.ins Zm dx (X5 "number" (N_ 1) (X5 "key" (V.ref kp) [])))=H1:=e1.symm
 rw [e1'] at hu ⊢
 obtain ⟨H2,e2,t2,-,u2,-⟩:=YJ (.lst [V.non]) (Zl H1) hu
 rw [e2]
 have a2:=t2 _ _ h1
 nofun
 refine ⟨u,64,[V.non],rfl,rfl,u2,by decide,by decide,Zp (by decide),fun hl hhl=>?_⟩
 obtain ⟨H3,e3,t3,t23,l3,n3⟩:=YJ (.lst (Ou (64:Int).toNat [V.non]).flatten) t2 hhl
 rw [e3]
 have a3:=t3 _ _ h1
 nofun
 refine ⟨Zp (by simp),fun tl htl=>?_⟩
 obtain ⟨H4,e4⟩:∃H4,H4=upd H3 a (.ins Zm dx [("key",.ref kp),("number",N_ 1),("holders",.ref hl)]):=⟨_,rfl⟩
 have h4:H4 a=some (.ins Zm dx [("key",.ref kp),("number",N_ 1),("holders",.ref hl)]):=by rw [e4]; exact Zn
 have b4:But a H3 H4:=by rw [e4]; exact But.upd H3 _
 have e4':upd H3 a (.ins Zm dx (X5 "holders" (V.ref hl) [("key",.ref kp),("number",N_ 1)]))=H4:=e4.symm
 rw [e4'] at htl ⊢
 obtain ⟨H5,e5,t5,-,l5,-⟩:=YJ (.lst []) (Zl H4) htl
 rw [e5]
 have a5:=t5 _ _ h4
 nofun
 show Q _ _
 have b04:But a H H4:=(b1.trans (ZA.but t3)).trans b4
 have na:∀z,H1 z=none->z≠a:=fun z hz=>(Zu h1 hz).symm
 have nhl:hl≠a:=na hl n3
 have htl0:H tl=none:=b04.free h4 htl
 have ntl:tl≠a:=(Zu h4 htl).symm
 have l4:H4 hl=some (.lst (Ou (64:Int).toNat [V.non]).flatten):=b4 _ _ nhl l3
 have hne:hl≠tl:=Zu l4 htl
 refine q _ hl tl ((b04.trans (ZA.but t5)).trans (But.upd H5 _)) (b1.free h1 n3) htl0 hne Zn ?_ ?_
 ·rw [ZN nhl,t5 _ _ l4]
  rfl
 ·rw [ZN ntl]
  exact l5
def spTkBytes:Sp:=fun vs H Q _=>∃(n k r b e:Nat),vs=[N_ n,N_ k,N_ r,N_ b,N_ e]/\∀(H':Hp) (q:Addr),ZA H H'->H q=none->H' q=some (.lst (LN (UN ⟨n,k,r,b,e⟩)))->Q (.ref q) H'
theorem Zb0:Zs ["number","place","rights","beginning","end","first"] ["number","place","rights","beginning","end"] (Zj (top 56)):=qsc
theorem ZfR (R:Raw K mg "ticket_bytes" "ticket_bytes" (top 56) ["number","place","rights","beginning","end"]) (ZE:Zh P w K mg base 1 "bytes_low_first" ["number","count"] spLow):Zh P w K mg base 2 "ticket_bytes" ["number","place","rights","beginning","end"] spTkBytes:=by
 refine R.callee Zb0 (fun vs H Q E h=>?_) (fun f cdv A outer s H vs Q E hr h=>?_)
 ·walk_at "ln"
 obtain ⟨n,k,r,b,e,rfl,q⟩:=h
 refine ⟨_,(Zb (Zq 5 Zb0.nd (Zf Xp (Zf Xp (Ze ZE hr (Za (pv 0) (Za (Zi 8) Zc))) (Ze ZE hr (Za (pv 1) (Za (Zi 4) Zc)))) (Ze ZE hr (Za (pv 2) (Za (Zi 4) Zc))))) (Zd (Zk (Zf Xp (Zf Xp (pv 5) (Ze ZE hr (Za (pv 3) (Za (Zi 8) Zc)))) (Ze ZE hr (Za (pv 4) (Za (Zi 8) Zc))))))),?_⟩
 refine Zo (σ':=[some (N_ n),some (N_ k),some (N_ r),some (N_ b),some (N_ e),none]) rfl ?_
 nofun
 refine ⟨n,8,rfl,by decide,fun H1 p1 t1 n1 h1=>?_⟩
 nofun
 refine ⟨k,4,rfl,by decide,fun H2 p2 t2 n2 h2=>?_⟩
 refine Xq (t2 _ _ h1) h2 (by rw [ZF,ZF]; decide) fun p3 n3=>?_
 obtain ⟨H3,e3,t3,-,h3,-⟩:=YJ (.lst (LN (Om 8 n ++ Om 4 k))) (t1.trans t2) n3
 rw [e3]
 nofun
 refine ⟨r,4,rfl,by decide,fun H4 p4 t4 n4 h4=>?_⟩
 refine Xq (t4 _ _ h3) h4 (by rw [Og,ZF,ZF,ZF]; decide) fun p5 n5=>?_
 obtain ⟨H5,e5,t5,-,h5,-⟩:=YJ (.lst (LN (Om 8 n ++ Om 4 k ++ Om 4 r))) (t3.trans t4) n5
 rw [e5]
 nofun
 refine ⟨b,8,rfl,by decide,fun H6 p6 t6 n6 h6=>?_⟩
 refine Xq (t6 _ _ h5) h6 (by rw [Og,Og,ZF,ZF,ZF,ZF]; decide) fun p7 n7=>?_
 obtain ⟨H7,e7,t7,-,h7,-⟩:=YJ (.lst (LN (Om 8 n ++ Om 4 k ++ Om 4 r ++ Om 8 b))) (t5.trans t6) n7
 rw [e7]
 nofun
 refine ⟨e,8,rfl,by decide,fun H8 p8 t8 n8 h8=>?_⟩
 refine Xq (t8 _ _ h7) h8 (by rw [Og,Og,Og,ZF,ZF,ZF,ZF,ZF]; decide) fun p9 n9=>?_
 have t9:=t7.trans t8
 refine q _ p9 (Zz t9 (t9.free n9)) (t9.free n9) ?_
 rw [Zn]
 unfold UN
 rw [O7,O7,O7]
abbrev tkO (C dx pp:Addr) (t:UY):HO:=.ins C dx [("plain",.ref pp),("number",N_ t.number),("place",N_ t.holder),("beginning",N_ t.start),("end",N_ t.halt_)]
structure ZbA (K:Oa) (C:Addr):Prop where
 cl:Cls K C
 n1:Ym K C "plain"
 n2:Ym K C "number"
 n3:Ym K C "place"
 n4:Ym K C "beginning"
 n5:Ym K C "end"
theorem Yj {b:Sy23.B} (h:Ol b) (i n:Nat):Ol (Oh b i n):=fun x hx=>h x (US (IK hx))
theorem WY (b:Sy23.B) (i n:Nat):(Oh b i n).length<=n:=by
 unfold Oh
 rw [OM]
 lia
def spTicket (C:Addr):Sp:=fun vs H Q _=>∃(a dx pp:Addr) (b:Sy23.B),vs=[.ref a,.ref pp]/\H a=some (.ins C dx [])/\H pp=some (.lst (LN b))/\Ol b/\∀H',But a H H'->H' a=some (tkO C dx pp (Uh b))->Q .non H'
theorem Zgl:Zs ["self","plain"] ["self","plain"] (Zj (Zr (top 57) 0)):=qsc
theorem ZgU (k:ZbA K ZS) (R:RawI K ZS "Ticket.__init__" (Zr (top 57) 0) ["self","plain"]) (ZD:Zh P w K mg base 1 "number_low_first" ["row"] (Zei K)):XC P w K mg base 2 ZS ["self","plain"] (spTicket ZS):=by
 refine R.callee Zgl (fun vs H Q E h=>?_) (fun f cdv A outer s H vs Q E hr h=>?_)
 ·walk_at "ln"
 obtain ⟨a,dx,pp,b,rfl,ha,hpp,hB,q⟩:=h
 obtain ⟨k0,k1,k2,k3,k4,k5⟩:=k
 have npp:pp≠a:=by
  rintro rfl
  rw [ha] at hpp
  simp at hpp
 refine ⟨_,(Zb (Z1 K (pv 0) (pv 1)) (Zb (Z1 K (pv 0) (Ze ZD hr (Za (YI (YK K) (pv 1) (Wd (Zi 0)) (Wd (Zi 8))) Zc))) (Zb (Z1 K (pv 0) (Ze ZD hr (Za (YI (YK K) (pv 1) (Wd (Zi 8)) (Wd (Zi 12))) Zc))) (Zb (Z1 K (pv 0) (Ze ZD hr (Za (YI (YK K) (pv 1) (Wd (Zi 16)) (Wd (Zi 24))) Zc))) (Zd (Z1 K (pv 0) (Ze ZD hr (Za (YI (YK K) (pv 1) (Wd (Zi 24)) (Wd (Zi 32))) Zc)))))))),?_⟩
 refine Zo (σ':=[some (.ref a),some (.ref pp)]) rfl ?_
 nofun
 obtain ⟨H1,e1⟩:∃H1,H1=upd H a (.ins ZS dx [("plain",.ref pp)]):=⟨_,rfl⟩
 have h1:H1 a=some (.ins ZS dx [("plain",.ref pp)]):=by rw [e1]; exact Zn
 have b1:But a H H1:=by rw [e1]; exact But.upd H _
 rw [show upd H a (.ins ZS dx (X5 "plain" (V.ref pp) []))=H1 from e1.symm]
 refine Wr (SqL.of (b1 _ _ npp hpp)) fun z hz=>?_
 obtain ⟨H2,e2,t2,-,z2,-⟩:=YJ (.lst (LN (Oh b 0 8))) (Zl H1) hz
 rw [show upd H1 z (.lst (LN (Ub (8 - 0) (Ua 0 b))))=H2 from e2]
 nofun
 refine ⟨z,_,rfl,SqL.of z2,Yj hB _ _,OD (WY _ _ _) (by decide),fun H3 t3=>?_⟩
 have a3:=t3 _ _ (t2 _ _ h1)
 nofun
 have b3:But a H H3:=(b1.trans (ZA.but t2)).trans (ZA.but t3)
 clear e2 z2 hz t2
 obtain ⟨H4,e4⟩:∃H4,H4=upd H3 a (.ins ZS dx [("plain",.ref pp),("number",N_ (Oi (Oh b 0 8)))]):=⟨_,rfl⟩
 have h4:H4 a=some (.ins ZS dx [("plain",.ref pp),("number",N_ (Oi (Oh b 0 8)))]):=by rw [e4]; exact Zn
 have b4:But a H H4:=by rw [e4]; exact b3.at_
 rw [show upd H3 a (.ins ZS dx (X5 "number" (N_ (Oi (Oh b 0 8))) [("plain",V.ref pp)]))=H4 from e4.symm]
 refine Wr (SqL.of (b4 _ _ npp hpp)) fun z hz=>?_
 obtain ⟨H5,e5,t5,-,z5,-⟩:=YJ (.lst (LN (Oh b 8 4))) (Zl H4) hz
 rw [show upd H4 z (.lst (LN (Ub (12 - 8) (Ua 8 b))))=H5 from e5]
 nofun
 refine ⟨z,_,rfl,SqL.of z5,Yj hB _ _,OD (WY _ _ _) (by decide),fun H6 t6=>?_⟩
 have a6:=t6 _ _ (t5 _ _ h4)
 nofun
 have b6:But a H H6:=(b4.trans (ZA.but t5)).trans (ZA.but t6)
 clear e5 z5 hz t5
 obtain ⟨H7,e7⟩:∃H7,H7=upd H6 a (.ins ZS dx [("plain",.ref pp),("number",N_ (Oi (Oh b 0 8))),("place",N_ (Oi (Oh b 8 4)))]):=⟨_,rfl⟩
 have h7:H7 a=some (.ins ZS dx [("plain",.ref pp),("number",N_ (Oi (Oh b 0 8))),("place",N_ (Oi (Oh b 8 4)))]):=by rw [e7]; exact Zn
 have b7:But a H H7:=by rw [e7]; exact b6.at_
 rw [show upd H6 a (.ins ZS dx (X5 "place" (N_ (Oi (Oh b 8 4))) [("plain",V.ref pp),("number",N_ (Oi (Oh b 0 8)))]))=H7 from e7.symm]
 refine Wr (SqL.of (b7 _ _ npp hpp)) fun z hz=>?_
 obtain ⟨H8,e8,t8,-,z8,-⟩:=YJ (.lst (LN (Oh b 16 8))) (Zl H7) hz
 rw [show upd H7 z (.lst (LN (Ub (24 - 16) (Ua 16 b))))=H8 from e8]
 nofun
 refine ⟨z,_,rfl,SqL.of z8,Yj hB _ _,OD (WY _ _ _) (by decide),fun H9 t9=>?_⟩
 have a9:=t9 _ _ (t8 _ _ h7)
 nofun
 have b9:But a H H9:=(b7.trans (ZA.but t8)).trans (ZA.but t9)
 clear e8 z8 hz t8
 obtain ⟨HA,eA⟩:∃HA,HA=upd H9 a (.ins ZS dx [("plain",.ref pp),("number",N_ (Oi (Oh b 0 8))),("place",N_ (Oi (Oh b 8 4))),("beginning",N_ (Oi (Oh b 16 8)))]):=⟨_,rfl⟩
 have hA:HA a=some (.ins ZS dx [("plain",.ref pp),("number",N_ (Oi (Oh b 0 8))),("place",N_ (Oi (Oh b 8 4))),("beginning",N_ (Oi (Oh b 16 8)))]):=by rw [eA]; exact Zn
 have bA:But a H HA:=by rw [eA]; exact b9.at_
 rw [show upd H9 a (.ins ZS dx (X5 "beginning" (N_ (Oi (Oh b 16 8))) [("plain",V.ref pp),("number",N_ (Oi (Oh b 0 8))),("place",N_ (Oi (Oh b 8 4)))]))=HA from eA.symm]
 refine Wr (SqL.of (bA _ _ npp hpp)) fun z hz=>?_
 obtain ⟨HB,eB,tB,-,zB,-⟩:=YJ (.lst (LN (Oh b 24 8))) (Zl HA) hz
 rw [show upd HA z (.lst (LN (Ub (32 - 24) (Ua 24 b))))=HB from eB]
 nofun
 refine ⟨z,_,rfl,SqL.of zB,Yj hB _ _,OD (WY _ _ _) (by decide),fun HC tC=>?_⟩
 have aC:=tC _ _ (tB _ _ hA)
 nofun
 show Q _ _
 exact q _ (((bA.trans (ZA.but tB)).trans (ZA.but tC)).at_) Zn
def spSound (C:Addr):Sp:=fun vs H Q _=>∃(a dx pp:Addr) (t:UY),vs=[.ref a]/\H a=some (tkO C dx pp t)/\Q (.bl (decide (t.start<=t.halt_/\t.halt_<=1099512676352))) H
theorem Zbj:Zs ["self"] ["self"] (Zj (Zr (top 57) 1)):=qsc
theorem ZbG (Zbw:ZU mg "LAST_END" 1099512676352) (k:ZbA K ZS) (R:YB K ZS "has_sound_end" "Ticket.has_sound_end" (Zr (top 57) 1) ["self"]):ZC P w K mg base 1 ZS "has_sound_end" ["self"] (spSound ZS):=by
 refine R.callee Zbj (fun vs H Q E h=>?_) (fun f cdv A outer s H vs Q E hr h=>?_)
 ·walk_at "ln"
 obtain ⟨a,dx,pp,t,rfl,ha,q⟩:=h
 obtain ⟨k0,k1,k2,k3,k4,k5⟩:=k
 refine ⟨_,(Zd (Zk (Zd7 JY JY (Zt K (pv 0)) (Zt K (pv 0)) (ZT Zbw)))),?_⟩
 refine Zo (σ':=[some (.ref a)]) rfl ?_
 nofun
 refine dif (fun h1=>?_) (fun h1=>?_)
 ·nofun
  rw [decide_eq_decide.mpr (show t.halt_<=1099512676352↔t.start<=t.halt_/\t.halt_<=1099512676352 from ⟨fun h=>⟨h1,h⟩,fun h=>h.2⟩)]
  exact q
 ·rw [decide_eq_false (fun h=>h1 h.1)] at q
  exact q
def spGoodAt (C:Addr):Sp:=fun vs H Q _=>∃(a dx pp:Addr) (t:UY) (now:Nat),vs=[.ref a,N_ now]/\H a=some (tkO C dx pp t)/\Q (.bl (decide (t.start<=now/\now < t.halt_))) H
theorem ZcB:Zs ["self","now"] ["self","now"] (Zj (Zr (top 57) 2)):=qsc
theorem Zc6 (k:ZbA K ZS) (R:YB K ZS "is_good_at" "Ticket.is_good_at" (Zr (top 57) 2) ["self","now"]):ZC P w K mg base 1 ZS "is_good_at" ["self","now"] (spGoodAt ZS):=by
 refine R.callee ZcB (fun vs H Q E h=>?_) (fun f cdv A outer s H vs Q E hr h=>?_)
 ·walk_at "ln"
 obtain ⟨a,dx,pp,t,now,rfl,ha,q⟩:=h
 obtain ⟨k0,k1,k2,k3,k4,k5⟩:=k
 refine ⟨_,(Zd (Zk (Zd7 JY Zdb (Zt K (pv 0)) (pv 1) (Zt K (pv 0))))),?_⟩
 refine Zo (σ':=[some (.ref a),some (N_ now)]) rfl ?_
 nofun
 refine dif (fun h1=>?_) (fun h1=>?_)
 ·nofun
  rw [decide_eq_decide.mpr (show now < t.halt_↔t.start<=now/\now < t.halt_ from ⟨fun h=>⟨h1,h⟩,fun h=>h.2⟩)]
  exact q
 ·rw [decide_eq_false (fun h=>h1 h.1)] at q
  exact q
def spGive (CS CH:Addr):Sp:=fun vs H Q _=>∃(ha:Addr) (h:OF) (F G:Addr->Prop) (k now span rights:Nat),vs=[.ref ha,N_ k,N_ now,N_ span,N_ rights]/\Yq CS CH H ha h F/\Yx h/\rights < 2 ^ 32/\Jh CS CH H ha F G (O6 h (.give (k:Int) (span:Int) now rights)) Q
theorem give_cond (k span now:Nat):(Sy23.place (k:Int) && (UZ (span:Int) 1 Tn && Ue now 0 UK))=decide ((0<=k/\k<=63)/\(0<=now/\now<=2 ^ 40)/\(1<=span/\span<=1048576)):=by
 rw [Zbg,XQ,JN,OU]
 simp only [Oj,decide_eq_true_eq]
 constructor
 ·rintro ⟨a,b,c⟩; exact ⟨a,c,b⟩
 ·rintro ⟨a,b,c⟩; exact ⟨a,c,b⟩
theorem ticket_len (t:UY):t.bytes.length=32:=by
 unfold UN
 rw [Og,Og,Og,Og,ZF,ZF,ZF,ZF,ZF]
theorem ticket_byt (t:UY):Ol t.bytes:=by
 unfold UN
 intro x hx
 simp only [IG] at hx
 rcases hx with h | h | h | h | h <;> exact Y5 _ _ x h
theorem WK:Zs ["self","place","now","span","rights","holder","row"] ["self","place","now","span","rights"] (Zj (Zr (top 90) 7)):=qsc
theorem Zc0 (B:Blt mg) (Zw:Xv mg "OUT_OF_RANGE" (-2)) (YR:Xv mg "NO_HOLDER" (-3)) (QL:Xv mg "NOT_NOW" (-4)) (QM:Xv mg "NO_ROOM" (-6)) (Ze5:ZU mg "LAST_SPAN" 1048576) (Zda:ZU mg "LAST_RIGHTS" 4294967295) (Jz:ZU mg "LAST_NUMBER" 1152921504606846976) (kS:Wn K Zm) (kH:Y2 K Zg) (R:YB K Zm "give_ticket" "House.give_ticket" (Zr (top 90) 7) ["self","place","now","span","rights"]) (ZI:Zh P w K mg base 1 "is_within" ["number","least","last"] WL) (Ya:Zh P w K mg base 2 "is_place" ["place"] (QY 0 63)) (Y0:Zh P w K mg base 2 "is_time" ["now"] (QY 0 (2 ^ 40)))
 (WO:Zh P w K mg base 4 "wrapped" ["key","given"] (spWrap K)) (Zag:Zh P w K mg base 2 "ticket_bytes" ["number","place","rights","beginning","end"] spTkBytes):ZC P w K mg base 5 Zm "give_ticket" ["self","place","now","span","rights"] (spGive Zm Zg):=by
 refine R.callee WK (fun vs H Q E h=>?_) (fun f cdv A outer s H vs Q E hr h=>?_)
 ·walk_at "ln"
 obtain ⟨ha,h,F,G,k,now,span,rights,rfl,hp,ok,hri,q⟩:=h
 obtain ⟨s0,s1,s2,s3,s4⟩:=kS
 obtain ⟨k0,k1,k2,k3,k4,k5,k6,k7,k8⟩:=kH
 have hp':=hp
 obtain ⟨has,dx,ka,hl,tl,vs,ts,p⟩:=hp
 have po:=p.o
 have ph:=p.hs
 refine ⟨_,(Zb (ZM (Y8 (PW.pt (Xd (Z0 (Ze Ya hr (Za (pv 1) Zc))) (Xd (Z0 (Ze Y0 hr (Za (pv 2) Zc))) (XI (Z0 (Ze ZI hr (Za (pv 3) (Za (Zi 1) (Za (ZT Ze5) Zc)))))))))) (Zd (Zk (ZH (Za (YM Zw) Zc)))) Zx) (Zb (ZM (Y8 (Z0 (Ze ZI hr (Za (pv 4) (Za (Zi 0) (Za (ZT Zda) Zc)))))) (Zd (Zk (ZH (Za (YM Zw) Zc)))) Zx) (Zb (Zq 5 WK.nd (Zy (Zv K) (Zt K (pv 0)) (pv 1))) (Zb (ZM (XT (Wq (pv 5))) (Zd (Zk (ZH (Za (YM YR) Zc)))) Zx) (Zb (ZM (ZP XW (Zt K (pv 5)) (Zi 0) (ZR _)) (Zd (Zk (ZH (Za (YM QL) Zc)))) Zx) (Zb (ZM (ZP on_gt (Zt K (pv 0)) (ZT Jz) (ZR _)) (Zd (Zk (ZH (Za (YM QM) Zc)))) Zx) (Zb (Zq 6 WK.nd (Ze WO hr (Za (Zt K (pv 0)) (Za (Ze Zag hr (Za (Zt K (pv 0)) (Za (pv 1) (Za (pv 4) (Za (pv 2) (Za (Zf Z7 (pv 2) (pv 3)) Zc)))))) Zc)))) (Zb (ZdB K (pv 0) (Zi 1) Zfw) (Zb (Z1 K (pv 5) (Zi 0)) (Zd (Zk (Zf Xp (ZH (Za (ZL (ZQ K) rfl B.len Ox (Za (pv 6) Zc)) Zc)) (pv 6))))))))))))),?_⟩
 refine Zo (σ':=[some (.ref ha),some (N_ k),some (N_ now),some (N_ span),some (N_ rights),none,none]) rfl ?_
 unfold O6 at q
 obtain ⟨q1,q2⟩:=Za1 q
 rw [give_cond] at q1 q2
 nofun
 refine ⟨k,rfl,?_⟩
 nofun
 refine dif (fun g1=>?_) (fun g1=>?_)
 case refine_2=>
  nofun
  exact ⟨Zp (by simp),fun u hu=>Z5 (q1 (decide_eq_false fun z=>g1 z.1)) (by decide) hp' (Zl _) hu⟩
 nofun
 refine ⟨now,rfl,?_⟩
 nofun
 refine dif (fun g2=>?_) (fun g2=>?_)
 case refine_2=>
  nofun
  exact ⟨Zp (by simp),fun u hu=>Z5 (q1 (decide_eq_false fun z=>g2 z.2.1)) (by decide) hp' (Zl _) hu⟩
 nofun
 refine ⟨span,1,1048576,rfl,?_⟩
 nofun
 by_cases g3:1<=span/\span<=1048576
 case neg=>
  rw [decide_eq_false g3]
  refine YV ?_
  nofun
  exact ⟨Zp (by simp),fun u hu=>Z5 (q1 (decide_eq_false fun z=>g3 z.2.2)) (by decide) hp' (Zl _) hu⟩
 have q3:=q2 (decide_eq_true ⟨g1,g2,g3⟩)
 rw [decide_eq_true g3]
 refine Xc ?_
 nofun
 refine ⟨rights,0,4294967295,rfl,?_⟩
 rw [decide_eq_true (show 0<=rights/\rights<=4294967295 by lia)]
 nofun
 refine Xc ?_
 nofun
 obtain ⟨v,hv,hpl⟩:=p.get (i:=k) (by rw [ok.len]; lia)
 refine Zcv ph hv ?_
 nofun
 rw [Ot] at q3
 rcases hpl with ⟨rfl,e⟩ | ⟨a,dh,sa,x,rfl,e,fa,fs,m1,m2,hx,hxs⟩
 ·rw [decide_eq_true rfl]
  refine YV ?_
  nofun
  rw [e] at q3
  exact ⟨Zp (by simp),fun u hu=>Z5 q3 (by decide) hp' (Zl _) hu⟩
 rw [decide_eq_false (fun h=>V.noConfusion h)]
 refine Xc ?_
 rw [e] at q3
 nofun
 cases he:x.earned with
 | false=>
  rw [if_neg Oo,decide_eq_true rfl]
  refine YV ?_
  nofun
  simp only [if_pos he] at q3
  exact ⟨Zp (by simp),fun u hu=>Z5 q3 (by decide) hp' (Zl _) hu⟩
 | true=>
  rw [if_pos rfl,decide_eq_false (by decide)]
  refine Xc ?_
  simp only [he,Bool.true_eq_false,if_false] at q3
  nofun
  refine dif (fun g4=>?_) (fun g4=>?_)
  ·nofun
   rw [if_pos (show Va < h.number from g4)] at q3
   exact ⟨Zp (by simp),fun u hu=>Z5 q3 (by decide) hp' (Zl _) hu⟩
  rw [if_neg (show ¬ Va < h.number from g4),Ot] at q3
  nofun
  refine ⟨h.number,k,rights,now,now + span,rfl,fun H1 tp t1 n1 h1=>?_⟩
  nofun
  have hik:=JE ok.byt ok.key
  obtain ⟨tk,etk⟩:∃tk:UY,tk=⟨h.number,k,rights,now,now + span⟩:=⟨_,rfl⟩
  rw [<- etk] at h1 q3
  have tl32:=ticket_len tk
  have tby:=ticket_byt tk
  refine ⟨ka,tp,h.key,tk.bytes,rfl,t1.seq (SqL.of p.k),SqL.of h1,hik,tby,by lia,by lia,by lia,fun H2 wp t2 n2 h2=>?_⟩
  rw [ZdH hik tby (by lia) (by lia)] at h2
  obtain ⟨wl,wb⟩:=ZcG hik tby (by omega) (by omega) (by omega)
  have t02:=t1.trans t2
  have po2:=t02 _ _ po
  have hx2:=t02 _ _ hx
  nofun
  obtain ⟨H3,e3⟩:∃H3,H3=upd H2 ha (hsO Zm dx ka hl tl (h.number + 1)):=⟨_,rfl⟩
  have h3:H3 ha=some (hsO Zm dx ka hl tl (h.number + 1)):=by rw [e3]; exact Zn
  have b3:But ha H2 H3:=by rw [e3]; exact But.upd H2 _
  rw [show upd H2 ha (.ins Zm dx (X5 "number" (N_ (h.number + 1)) [("key",.ref ka),("number",N_ h.number),("holders",.ref hl),("taken",.ref tl)]))=H3 from e3.symm]
  have nah:a≠ha:=by
   rintro rfl
   rw [po] at hx
   have:=HO.ins.inj (Option.some.inj hx)
   simp at this
  have hx3:=b3 _ _ nah hx2
  nofun
  obtain ⟨H4,e4⟩:∃H4,H4=upd H3 a (hoO Zg dh sa { x with earned:=false }):=⟨_,rfl⟩
  have h4:H4 a=some (hoO Zg dh sa { x with earned:=false }):=by rw [e4]; exact Zn
  have b4:But a H3 H4:=by rw [e4]; exact But.upd H3 _
  rw [show upd H3 a (.ins Zg dh (X5 "earned" (N_ 0) [("secret",.ref sa),("step",N_ x.step),("digits",N_ x.digits),("counter",N_ x.next),("failed",N_ x.failed),("until",N_ x.till),("earned",N_ (if x.earned=true then 1 else 0)),("floor",N_ x.floor)]))=H4 from e4.symm]
  have nl:∀b l,H2 b=some (.lst l)->b≠ha/\b≠a:=fun b l hb=>⟨fun z=>by rw [z,po2] at hb; simp at hb,fun z=>by rw [z,hx2] at hb; simp at hb⟩
  have w4:H4 wp=some (.lst (LN (Ug h.key tk.bytes))):=b4 _ _ (nl _ _ h2).2 (b3 _ _ (nl _ _ h2).1 h2)
  nofun
  refine ⟨Zp (by simp),fun u hu=>?_⟩
  obtain ⟨H5,e5,t5,-,u5,-⟩:=YJ (.lst [N_ (Ug h.key tk.bytes).length]) (Zl H4) hu
  rw [e5]
  nofun
  refine Xq (l:=[(Ug h.key tk.bytes).length]) u5 (t5 _ _ w4) (by simp; lia) fun y hy=>?_
  have b03:But ha H H3:=(ZA.but t02).trans b3
  have ntl:∀b l,H b=some (.lst l)->b≠ha/\b≠a:=fun b l hb=>nl b l (t02 _ _ hb)
  have p3:=p.own (F':=F) (n:=h.number + 1) (tl':=tl) (ts':=ts) (l:=h.list) b03 h3 (fun _ z=>z) p.ft (b03 _ _ (ntl _ _ p.tk).1 p.tk) p.n2 p.n3 (.inl rfl) ⟨p.en.len,fun i t e e1 e2=>⟨(p.en.at_ i t e e1 e2).1,b03 _ _ (fun z=>by have g:=(p.en.at_ i t e e1 e2).2; rw [z,po] at g; simp at g) (p.en.at_ i t e e1 e2).2⟩⟩
  have p4:=p3.holder hv hx3 (b03 _ _ (ntl _ _ hxs).1 hxs) b4 h4 rfl
  have has4:=b4.has h4 (b03.has h3 has)
  have hA:Yq Zm Zg H4 ha { h.set k (some { x with earned:=false }) with number:=h.number + 1 } F:=⟨has4,_,_,_,_,_,_,p4⟩
  have fr:Frame F H H5:=fun b o n eb=>t5 _ _ (b4 _ _ (fun z=>n (z ▸ fa)) (b03 _ _ (fun z=>n (z ▸ p.fa)) eb))
  have hy0:H y=none:=b03.free h3 (b4.free h4 (t5.free hy))
  refine QD q3 fr (hA.keep fun b u _ eb=>t5 _ _ eb) (fun b fb=>.inl fb) hy0 hy ?_
  have ev:(40:Int)=((Ug h.key tk.bytes).length:Int):=by rw [wl,tl32]; rfl
  show _=LI (ansI { v:=40,out:=_ })
  rw [ev,Q2]
  rfl
theorem Zaw {K:Oa} {H1:Hp} {a:Addr} {xs:List V} (hS:SqL K H1 a xs):ZdL H1 (Itl K a) xs.length (fun i=>xs.getD i .non):=by
 have g:∀i,i < xs.length->xs[i]?=some (xs.getD i .non):=fun i hi=>by
  rw [Oe,Of hi]; rfl
 refine ⟨fun i H hs hi=>⟨xs,_,hs.seq hS,g i hi⟩,fun i H x H' hs hi q=>?_,fun i H hs hi=>⟨xs,hs.seq hS,hi⟩⟩
 obtain ⟨e,q⟩:=q
 exact ⟨e,(Option.some.inj ((q _ (hs.seq hS)).symm.trans (g i hi)))⟩
section
variable {te:TE} {tt:TT} {σ:St} {H1:Hp} {Qd:Addr->Hp->Prop}
theorem Zf2 {J:It} {n k:Nat} {y:Nat->V} (S:ZdL H1 J n y) (keep:Nat->Bool) (hn:n<=sizeLine)
 (ht:∀(j:Nat) (H:Hp) (R:Bool->Hp->Prop),j < n->ZA H1 H->R (keep j) H->tt ((σ.set k none).set k (some (y j))) H R)
 (he:∀(j:Nat) (H:Hp) (R:VK),j < n->R (y j) H->te ((σ.set k none).set k (some (y j))) H R)
 (hq:∀(D:Addr) (H':Hp),H1 D=none->ZA H1 H'->H' D=some (.lst (((Ob n).filter keep).map y))->Qd D H') :
 ∀D,H1 D=none->∃W:Nat->Nat->Hp->Prop,(∃m,W 0 m (upd H1 D (.lst [])))/\∀i m H,W i m H->
  (J.stop i H/\Qd D H)∨(J.go i H/\∃Nx:Hp->Prop,(∀H',Nx H'->∃m',m' < m/\W (i + 1) m' H')/\∀x H',J.yld i H x H'->JX k x (X6 σ [k]) H' fun σ2 H2=>X6 σ2 [k]=X6 σ [k]/\tt σ2 H2 fun b H3=>
   if b=true then te σ2 H3 fun y H4=>∃acc,H4 D=some (.lst acc)/\acc.length < sizeLine/\Nx (upd H4 D (.lst (acc ++ [y]))) else Nx H3):=by
 intro D hD
 refine ⟨fun i m H=>m=n - i/\i<=n/\ZA H1 H/\H D=some (.lst (((Ob i).filter keep).map y)),⟨n,by simp,Ib _,Zz (Zl _) hD,Zn⟩,?_⟩
 rintro i m H ⟨rfl,hi,hS,hl⟩
 by_cases hlt:i < n
 ·refine .inr ⟨S.go i H hS hlt,fun H'=>ZA H1 H'/\H' D=some (.lst (((Ob (i + 1)).filter keep).map y)),fun H' p'=>⟨n - (i + 1),by omega,rfl,hlt,p'⟩,fun x H' hy=>?_⟩
  obtain ⟨e,e2⟩:=S.yld i H x H' hS hlt hy
  subst e e2
  refine ⟨?_,?_⟩
  ·show ((σ.set k none).set k _).set k none=σ.set k none
   rw [IE,IE]
  ·refine ht i _ _ hlt hS ?_
   have hfl:((Ob i).filter keep).length<=i:=OD (Vt _ _) (by rw [OL]; exact Oq _)
   rw [List.range_succ,List.filter_append]
   cases hk:keep i with
   | true=>
    rw [if_pos rfl]
    refine he i _ _ hlt ⟨_,hl,by rw [Od]; lia,?_,?_⟩
    ·exact fun b o hb=>by
      rw [ZN (Zu hb hD)]
      exact hS _ _ hb
    ·rw [Zn,Ih,List.filter_cons_of_pos hk]
     rfl
   | false=>
    rw [if_neg Oo]
    refine ⟨hS,?_⟩
    rw [hl,List.filter_cons_of_neg (by rw [hk]; exact Oo),List.filter_nil,Um]
 ·have e:i=n:=by lia
  subst e
  exact .inl ⟨S.stop i H hS (Oq _),hq D H hD hS hl⟩
end
theorem XY.get {H:Hp} {F:Addr->Prop} {ts:List Addr} {l:List (Nat×Nat)} (en:XY H F ts l) {j:Nat} (hj:j < l.length):∃t,(ts.map V.ref).getD j .non=.ref t/\ts[j]?=some t/\F t/\H t=some (.tup [N_ (l.getD j (0,0)).1,N_ (l.getD j (0,0)).2]):=by
 have ht:j < ts.length:=en.len ▸ hj
 have e1:ts[j]?=some ts[j]:=Of ht
 have e2:l[j]?=some (l.getD j (0,0)):=by rw [Oe,Of hj]; rfl
 obtain ⟨f,g⟩:=en.at_ j _ _ e1 e2
 exact ⟨ts[j],by rw [Oe,OP,e1]; rfl,e1,f,g⟩
def spTaken (CS CH:Addr):Sp:=fun vs H Q _=>∃(ha:Addr) (h:OF) (F:Addr->Prop) (n:Nat),vs=[.ref ha,N_ n]/\Yq CS CH H ha h F/\Yx h/\∀H',ZA H H'->Q (.bl (h.listed n)) H'
theorem Jc:Zs ["self","number","entry"] ["self","number"] (Zj (Zr (top 90) 9)):=qsc
theorem ZeF (kS:Wn K Zm) (R:YB K Zm "is_taken" "House.is_taken" (Zr (top 90) 9) ["self","number"]):ZC P w K mg base 1 Zm "is_taken" ["self","number"] (spTaken Zm Zg):=by
 refine R.callee Jc (fun vs H Q E h=>?_) (fun f cdv A outer s H vs Q E hr h=>?_)
 ·walk_at "ln"
 obtain ⟨ha,h,F,n,rfl,hp,ok,q⟩:=h
 obtain ⟨s0,s1,s2,s3,s4⟩:=kS
 obtain ⟨has,dx,ka,hl,tl,vs,ts,p⟩:=hp
 have po:=p.o
 have pt:=p.tk
 refine ⟨_,(Zd (Zk (Wy (op_inL K) (pv 1) (Zbf rfl Jc.nd (YW K (Zt K (pv 0))) (Y7 (own:=[("entry",2)]) rfl) (fun _ _ _ _ _=>(ZW 2 Jc.nd)) (fun _ _ _ _ _=>Wc) (fun _ _ _ _ _=>(Zy (ZO K) (pv 2) (Zi 0)))) rfl))),?_⟩
 refine Zo (σ':=[some (.ref ha),some (N_ n),none]) rfl ?_
 nofun
 refine YX (SqL.of pt) ?_
 have hlen:(ts.map V.ref).length=h.list.length:=by rw [Od]; exact p.en.len
 refine Js (Zaw (SqL.of pt)) (fun i=>N_ (h.list.getD i (0,0)).1) (Zp (by rw [hlen]; have:=ok.list; exact ZbN)) ?_ ?_
 ·intro j H2 R' hj hs hR
  obtain ⟨t,e1,-,-,g⟩:=p.en.get (hlen ▸ hj)
  rw [e1]
  dsimp only [Iy]
  nofun
  exact Ja (hs _ _ g) rfl (hR _ (Zl _))
 ·intro D H' hD hs hD'
  rw [hlen] at hD'
  have el:(Ob h.list.length).map (fun i=>N_ (h.list.getD i (0,0)).1)=LN (h.list.map fun x=>x.1):=by
   apply Ui
   ·simp
   ·intro i h1 h2
    have hi:i < h.list.length:=by simpa using h1
    simp only [Uj,IT,Oe,Of hi,UU]
  rw [el] at hD'
  refine ⟨n,D,_,rfl,rfl,SqL.of hD',?_⟩
  have e:decide (n∈h.list.map fun x=>x.1)=h.listed n:=by
   unfold Sy23.House.listed
   rw [OU,decide_eq_true_eq,V5,OK]
   constructor
   ·rintro ⟨x,hx,e⟩; exact ⟨x,hx,beq_iff_eq.mpr e⟩
   ·rintro ⟨x,hx,e⟩; exact ⟨x,hx,beq_iff_eq.mp e⟩
  rw [e]
  exact q _ hs
def spOwn (K:Oa) (CS CH CT:Addr):Sp:=fun vs H Q _=>∃(ha rp:Addr) (h:OF) (F:Addr->Prop) (b:Sy23.B),vs=[.ref ha,.ref rp]/\Yq CS CH H ha h F/\Yx h/\H rp=some (.lst (LN b))/\b.length=40/\Ol b/\
 (h.reads b=none->∀H',ZA H H'->Q .non H')/\∀x H' a dx pp,h.reads b=some (Uh x)->x.length=32->Ol x->ZA H H'->H a=none->H' a=some (tkO CT dx pp (Uh x))->H' pp=some (.lst (LN x))->Q (.ref a) H'
theorem Zbe (h:OF) (t:UY):h.owns t=true↔(1<=t.number/\t.number < h.number)/\(t.start<=t.halt_/\t.halt_<=1099512676352)/\∃x,h.at_ t.holder=some x/\x.floor < t.number:=by
 unfold Sy23.House.owns
 simp only [Oj,decide_eq_true_eq]
 have e:UK + Tn=1099512676352:=by decide
 rw [e]
 cases h.at_ t.holder with
 | none=>simp
 | some x=>
  simp only [decide_eq_true_eq,Option.some.injEq,exists_eq_left']
  constructor
  ·rintro ⟨a,b,c,d,e⟩; exact ⟨⟨a,b⟩,⟨c,d⟩,e⟩
  ·rintro ⟨⟨a,b⟩,⟨c,d⟩,e⟩; exact ⟨a,b,c,d,e⟩
theorem at_none {h:OF} {k:Nat} (hl:h.holders.length<=k):h.at_ k=none:=by
 unfold VM
 rw [UA hl]
 rfl
theorem X0:Zs ["self","row","plain","ticket","holder"] ["self","row"] (Zj (Zr (top 90) 8)):=qsc
theorem Zdn (kS:Wn K Zm) (kH:Y2 K Zg) (kT:ZbA K ZS) (mg_Ticket:mg "Ticket"=some (.ref ZS)) (R:YB K Zm "own_ticket" "House.own_ticket" (Zr (top 90) 8) ["self","row"]) (XB:Zh P w K mg base 5 "unwrapped" ["key","given"] (Zek K)) (ZI:Zh P w K mg base 1 "is_within" ["number","least","last"] WL) (Ya:Zh P w K mg base 2 "is_place" ["place"] (QY 0 63))
 (ZaY:XC P w K mg base 2 ZS ["self","plain"] (spTicket ZS)) (Wa:ZC P w K mg base 1 ZS "has_sound_end" ["self"] (spSound ZS)):ZC P w K mg base 6 Zm "own_ticket" ["self","row"] (spOwn K Zm Zg ZS):=by
 refine R.callee X0 (fun vs H Q E h=>?_) (fun f cdv A outer s H vs Q E hr h=>?_)
 ·walk_at "ln"
 obtain ⟨ha,rp,h,F,b,rfl,hp,ok,hrp,hbl,hB,qn,qs⟩:=h
 obtain ⟨s0,s1,s2,s3,s4⟩:=kS
 obtain ⟨k0,k1,k2,k3,k4,k5,k6,k7,k8⟩:=kH
 obtain ⟨ZcR,t1,t2,t3,t4,t5⟩:=kT
 obtain ⟨has,dx,ka,hl,tl,vs,ts,p⟩:=hp
 have po:=p.o
 have ph:=p.hs
 refine ⟨_,(Zb (Zq 2 X0.nd (Ze XB hr (Za (Zt K (pv 0)) (Za (pv 1) Zc)))) (Zb (ZM (XT (Wq (pv 2))) (Zd (Zk Qe)) Zx) (Zb (Zq 3 X0.nd (Zaq mg_Ticket ZaY hr (Za (pv 2) Zc))) (Zb (ZM (Y8 (PW.pt (Xd (Z0 (Ze ZI hr (Za (Zt K (pv 3)) (Za (Zi 1) (Za (Zf Xg (Zt K (pv 0)) (Zi 1)) Zc))))) (Xd (Z0 (Ze Ya hr (Za (Zt K (pv 3)) Zc))) (XI (Z0 (QT ZcR Wa hr (pv 3)))))))) (Zd (Zk Qe)) Zx) (Zb (Zq 4 X0.nd (Zy (Zv K) (Zt K (pv 0)) (Zt K (pv 3)))) (Zb (ZM (PW.pt (pw_or (XT (Wq (pv 4))) (pw_or1 (ZP JY (Zt K (pv 3)) (Zt K (pv 4)) (ZR _))))) (Zd (Zk Qe)) Zx) (Zd (Zk (pv 3))))))))),?_⟩
 refine Zo (σ':=[some (.ref ha),some (.ref rp),none,none,none]) rfl ?_
 have hik:=JE ok.byt ok.key
 have eu:=ZbT hik hB (by simp [*]) (by simp [*])
 nofun
 refine ⟨ka,rp,h.key,b,rfl,SqL.of p.k,SqL.of hrp,hik,hB,by simp [*],by lia,by lia,fun x H1 xp ex u1 n1 h1=>?_,fun en H1 u1=>?_⟩
 case refine_2=>
  nofun
  rw [decide_eq_true rfl]
  refine YV ?_
  nofun
  rw [eu] at en
  refine qn ?_ _ u1
  unfold TR
  rw [en]
  rfl
 rw [eu] at ex
 obtain ⟨xl,xb⟩:=Za4 hik hB (by omega) (by omega) (by omega) ex
 have er:h.reads b=if h.owns (Uh x)=true then some (Uh x) else none:=by
  unfold TR
  rw [ex]
  rfl
 nofun
 rw [decide_eq_false (fun h=>V.noConfusion h)]
 refine Xc ?_
 nofun
 intro a dy hna hdy nay
 obtain ⟨H2,e2⟩:∃H2,H2=upd (upd H1 dy (.own a)) a (.ins ZS dy []):=⟨_,rfl⟩
 have u2:ZA H1 H2:=by rw [e2]; exact Zz (Zz (Zl _) hdy) hna
 have a2:H2 a=some (.ins ZS dy []):=by rw [e2]; exact Zn
 rw [<- e2]
 refine ⟨a,dy,xp,x,rfl,a2,u2 _ _ h1,xb,fun H3 b3 h3=>⟨rfl,?_⟩⟩
 have ha0:H a=none:=u1.free hna
 have u3:ZA H H3:=fun c o hc=>b3 _ _ (Zu hc ha0) (u2 _ _ (u1 _ _ hc))
 have x3:H3 xp=some (.lst (LN x)):=b3 _ _ (Zu h1 hna) (u2 _ _ h1)
 have po3:=u3 _ _ po
 have ph3:=u3 _ _ ph
 obtain ⟨t,et⟩:∃t,t=Uh x:=⟨_,rfl⟩
 rw [<- et] at er h3
 have bad:¬ (h.owns t=true)->∀H',ZA H H'->Q .non H':=fun n=>qn (by rw [er,if_neg n])
 nofun
 ·refine ⟨t.number,1,h.number - 1,rfl,?_⟩
  nofun
  refine dif (fun g1=>?_) (fun g1=>?_)
  case refine_2=>
   nofun
   refine bad (fun z=>?_) _ u3
   rw [Zbe] at z
   omega
  nofun
  refine ⟨t.holder,rfl,?_⟩
  nofun
  refine dif (fun g2=>?_) (fun g2=>?_)
  case refine_2=>
   nofun
   refine bad (fun z=>?_) _ u3
   rw [Zbe] at z
   obtain ⟨-,-,y,hy,-⟩:=z
   rw [at_none (by rw [ok.len]; lia)] at hy
   exact absurd hy (by simp)
  nofun
  refine ⟨a,dy,xp,t,rfl,h3,?_⟩
  nofun
  by_cases g3:t.start<=t.halt_/\t.halt_<=1099512676352
  case neg=>
   rw [decide_eq_false g3]
   refine YV ?_
   nofun
   refine bad (fun z=>?_) _ u3
   rw [Zbe] at z
   exact g3 z.2.1
  rw [decide_eq_true g3]
  refine Xc ?_
  nofun
  obtain ⟨v,hv,hpl⟩:=p.get (i:=t.holder) (by rw [ok.len]; lia)
  refine Zcv ph3 hv ?_
  nofun
  rcases hpl with ⟨rfl,e⟩ | ⟨a',dh,sa,y,rfl,e,fa,fs,m1,m2,hx,hxs⟩
  ·rw [decide_eq_true rfl]
   refine YV ?_
   nofun
   refine YV ?_
   nofun
   refine bad (fun z=>?_) _ u3
   rw [Zbe] at z
   obtain ⟨-,-,y,hy,-⟩:=z
   rw [e] at hy
   exact absurd hy (by simp)
  ·rw [decide_eq_false (fun h=>V.noConfusion h)]
   refine Xc ?_
   have hx3:=u3 _ _ hx
   nofun
   refine dif (fun g4=>?_) (fun g4=>?_)
   ·nofun
    refine bad (fun z=>?_) _ u3
    rw [Zbe] at z
    obtain ⟨-,-,y',hy,hf⟩:=z
    rw [e] at hy
    have ey:y=y':=Option.some.inj hy
    rw [<- ey] at hf
    lia
   ·nofun
    have ow:h.owns t=true:=by
     rw [Zbe]
     exact ⟨by omega,g3,y,e,by exact qw7⟩
    rw [if_pos ow] at er
    exact qs x _ a dy xp (et ▸ er) (by lia) xb u3 ha0 (et ▸ h3) x3
 ·exact ok.n1
theorem little_of:∀{b:Sy23.B},Ol b->Om b.length (Oi b)=b
 | [],_=>rfl
 | x :: b,h=>by
  have hx:x < 256:=h x (Ow ..)
  have ih:=little_of (b:=b) fun y hy=>h y (Ov _ hy)
  unfold Om at ih ⊢
  rw [Oz,Vj,Ie,O8]
  have e:Oi (x :: b)=x + 256 * Oi b:=rfl
  rw [e]
  congr 1
  ·rw [Nat.pow_zero,Nat.div_one]
   simp [*]
  ·refine Eq.trans (Ia fun i _=>?_) ih
   show (x + 256 * Oi b) / 256 ^ (i + 1) % 256=Oi b / 256 ^ i % 256
   rw [Ur,O3 (256 ^ i) 256,<- Tp,show (x + 256 * Oi b) / 256=Oi b by lia]
theorem part_len {b:Sy23.B} {i n:Nat} (h:i + n<=b.length):(Oh b i n).length=n:=by
 unfold Oh
 rw [OM,OS]
 lia
theorem JF {b:Sy23.B} (hB:Ol b) {i n:Nat} (h:i + n<=b.length):Om n (Oi (Oh b i n))=Oh b i n:=by
 have:=little_of (Yj hB i n)
 rwa [part_len h] at this
theorem ZcX (b:Sy23.B) (i n m:Nat):Oh b i n ++ Oh b (i + n) m=Oh b i (n + m):=by
 unfold Oh
 rw [<- VH,List.take_add]
theorem ticket_of {x:Sy23.B} (hl:x.length=32) (hB:Ol x):(Uh x).bytes=x:=by
 unfold UN Uh
 simp only
 rw [JF hB (by simp [*]),JF hB (by simp [*]),JF hB (by simp [*]),JF hB (by simp [*]),JF hB (by simp [*]),ZcX x 16 8 8,ZcX x 12 4 16,ZcX x 8 4 20,ZcX x 0 8 24]
 unfold Oh
 rw [VI,Iu (by simp [*])]
def spShow (CS CH:Addr):Sp:=fun vs H Q _=>∃(ha rp:Addr) (h:OF) (F G:Addr->Prop) (now:Nat) (b:Sy23.B),vs=[.ref ha,N_ now,.ref rp]/\Yq CS CH H ha h F/\Yx h/\H rp=some (.lst (LN b))/\b.length=40/\Ol b/\Jh CS CH H ha F G (O6 h (.show_ b now)) Q
theorem JJ:Zs ["self","now","row","ticket"] ["self","now","row"] (Zj (Zr (top 90) 10)):=qsc
theorem Zc1 (Zw:Xv mg "OUT_OF_RANGE" (-2)) (Xi:Xv mg "NOT_GENUINE" (-5)) (QL:Xv mg "NOT_NOW" (-4)) (Zb7:Xv mg "NOT_ITS_TIME" (-7)) (Wk:ZU mg "TICKET_SIZE" 40) (kS:Wn K Zm) (kT:ZbA K ZS) (R:YB K Zm "show_ticket" "House.show_ticket" (Zr (top 90) 10) ["self","now","row"]) (Y0:Zh P w K mg base 2 "is_time" ["now"] (QY 0 (2 ^ 40))) (Z2:Zh P w K mg base 1 "are_bytes" ["row","least","last"] (QX K))
 (YZ:ZC P w K mg base 6 Zm "own_ticket" ["self","row"] (spOwn K Zm Zg ZS)) (Xk:ZC P w K mg base 1 Zm "is_taken" ["self","number"] (spTaken Zm Zg)) (W8:ZC P w K mg base 1 ZS "is_good_at" ["self","now"] (spGoodAt ZS)):ZC P w K mg base 7 Zm "show_ticket" ["self","now","row"] (spShow Zm Zg):=by
 refine R.callee JJ (fun vs H Q E h=>?_) (fun f cdv A outer s H vs Q E hr h=>?_)
 ·walk_at "ln"
 obtain ⟨ha,rp,h,F,G,now,b,rfl,hp,ok,hrp,hbl,hB,q⟩:=h
 obtain ⟨YQ,s1,s2,s3,s4⟩:=kS
 obtain ⟨ZcR,t1,t2,t3,t4,t5⟩:=kT
 have hp':=hp
 obtain ⟨has,dx,ka,hl,tl,vs,ts,p⟩:=hp
 have po:=p.o
 refine ⟨_,(Zb (ZM (Y8 (PW.pt (Xd (Z0 (Ze Y0 hr (Za (pv 1) Zc))) (XI (Z0 (Ze Z2 hr (Za (pv 2) (Za (ZT Wk) (Za (ZT Wk) Zc))))))))) (Zd (Zk (ZH (Za (YM Zw) Zc)))) Zx) (Zb (Zq 3 JJ.nd (Z9 YQ YZ hr (pv 0) (Za (pv 2) Zc))) (Zb (ZM (XT (Wq (pv 3))) (Zd (Zk (ZH (Za (YM Xi) Zc)))) Zx) (Zb (ZM (Z0 (Z9 YQ Xk hr (pv 0) (Za (Zt K (pv 3)) Zc))) (Zd (Zk (ZH (Za (YM QL) Zc)))) Zx) (Zb (ZM (Y8 (Z0 (Z9 ZcR W8 hr (pv 3) (Za (pv 1) Zc)))) (Zd (Zk (ZH (Za (YM Zb7) Zc)))) Zx) (Zd (Zk (Zf Xp (ZH (Za (Zt K (pv 3)) Zc)) (Zt K (pv 3)))))))))),?_⟩
 refine Zo (σ':=[some (.ref ha),some (N_ now),some (.ref rp),none]) rfl ?_
 unfold O6 at q
 obtain ⟨q1,q2⟩:=Za1 q
 rw [JN] at q1 q2
 nofun
 refine ⟨now,rfl,?_⟩
 nofun
 refine dif (fun g1=>?_) (fun g1=>?_)
 case refine_2=>
  nofun
  exact ⟨Zp (by simp),fun u hu=>Z5 (q1 (decide_eq_false g1)) (by decide) hp' (Zl _) hu⟩
 have q3:=q2 (decide_eq_true g1)
 nofun
 refine ⟨rp,b,40,40,rfl,SqL.of hrp,hB,?_⟩
 rw [decide_eq_true (show 40<=b.length/\b.length<=40 by simp [*])]
 nofun
 refine Xc ?_
 nofun
 refine ⟨ha,rp,h,F,b,rfl,hp',ok,hrp,hbl,hB,fun er H1 u1=>?_,fun x H1 a dy pp er xl xb u1 n1 a1 x1=>?_⟩
 ·nofun
  rw [decide_eq_true rfl]
  refine YV ?_
  nofun
  rw [er] at q3
  exact ⟨Zp (by simp),fun u hu=>Z5 q3 (by decide) hp' u1 hu⟩
 rw [er] at q3
 have po1:=u1 _ _ po
 have etb:=ticket_of xl xb
 obtain ⟨t,et⟩:∃t,t=Uh x:=⟨_,rfl⟩
 rw [<- et] at q3 a1 etb
 nofun
 rw [decide_eq_false (fun h=>V.noConfusion h)]
 refine Xc ?_
 nofun
 refine ⟨ha,h,F,t.number,rfl,hp'.keep fun b u _ e=>u1 b u e,ok,fun H2 u2=>?_⟩
 have u12:=u1.trans u2
 have a2:=u2 _ _ a1
 nofun
 cases hli:h.listed t.number with
 | true=>
  refine YV ?_
  nofun
  simp only [if_pos hli] at q3
  exact ⟨Zp (by simp),fun u hu=>Z5 q3 (by decide) hp' u12 hu⟩
 | false=>
  refine Xc ?_
  simp only [hli,IH,if_false] at q3
  nofun
  refine ⟨a,dy,pp,t,now,rfl,a2,?_⟩
  nofun
  by_cases g2:t.start<=now/\now < t.halt_
  ·rw [decide_eq_true g2]
   refine Xc ?_
   rw [if_neg (show ¬ (now < t.start∨t.halt_<=now) by lia)] at q3
   nofun
   refine ⟨Zp (by simp),fun u hu=>?_⟩
   obtain ⟨H3,e3,u3,u23,n3,-⟩:=YJ (.lst [N_ t.holder]) u12 hu
   rw [e3]
   have a3:=u23 _ _ a2
   nofun
   refine Xq (l:=[t.holder]) n3 (u23 _ _ (u2 _ _ x1)) (by simp; simp [*]) fun y hy=>?_
   refine QD q3 (Jr u3) (hp'.keep fun b u _ e=>u3 b u e) (fun b fb=>.inl fb) (u3.free hy) hy ?_
   show _=LI (ansI { v:=(t.holder:Nat),out:=t.bytes })
   rw [Q2,etb]
   rfl
  ·rw [decide_eq_false g2]
   refine YV ?_
   rw [if_pos (show now < t.start∨t.halt_<=now by lia)] at q3
   nofun
   exact ⟨Zp (by simp),fun u hu=>Z5 q3 (by decide) hp' u12 hu⟩
def spTakeT (CS CH:Addr):Sp:=fun vs H Q _=>∃(ha rp:Addr) (h:OF) (F G:Addr->Prop) (b:Sy23.B),vs=[.ref ha,.ref rp]/\Yq CS CH H ha h F/\Yx h/\H rp=some (.lst (LN b))/\b.length=40/\Ol b/\Jh CS CH H ha F G (O6 h (.take b)) Q
theorem XY.snoc {H H':Hp} {F F':Addr->Prop} {ts:List Addr} {l:List (Nat×Nat)} {t:Addr} {e:Nat×Nat} (en:XY H F ts l) (hF:∀b,F b->F' b) (hk:∀b xs,H b=some (.tup xs)->H' b=some (.tup xs)) (ft:F' t) (ht:H' t=some (.tup [N_ e.1,N_ e.2])):XY H' F' (ts ++ [t]) (l ++ [e]):=by
 refine ⟨by rw [Og,Og,en.len]; rfl,fun i t' e' h1 h2=>?_⟩
 by_cases hi:i < ts.length
 ·rw [OZ hi] at h1
  rw [OZ (en.len ▸ hi)] at h2
  obtain ⟨f,g⟩:=en.at_ i t' e' h1 h2
  exact ⟨hF _ f,hk _ _ g⟩
 ·rw [Ic (by exact qw6)] at h1
  rw [Ic (by rw [<- en.len]; omega),<- en.len] at h2
  cases hm:i - ts.length with
  | zero=>
   rw [hm] at h1 h2
   have z1:t=t':=by simpa using h1
   have z2:e=e':=by simpa using h2
   subst z1 z2
   exact ⟨ft,ht⟩
  | succ m=>rw [hm] at h1; simp at h1
theorem Zga {p:Addr} {xs:List V} {v:V} {H:Hp} {Q:VK} (h:H p=some (.lst xs)) (hl:xs.length < 1000000) (q:Q .non (upd H p (.lst (xs ++ [v])))):rAppend (.ref p) [v] H Q:=
 ⟨p,xs,v,rfl,rfl,h,by rw [sizeLine_eq]; exact qw15,q⟩
theorem JK:Zs ["self","row","ticket"] ["self","row"] (Zj (Zr (top 90) 11)):=qsc
theorem Zc2 (B:Blt mg) (Zw:Xv mg "OUT_OF_RANGE" (-2)) (Xi:Xv mg "NOT_GENUINE" (-5)) (QM:Xv mg "NO_ROOM" (-6)) (Wk:ZU mg "TICKET_SIZE" 40) (Wj:ZU mg "LIST_PLACES" 256) (kS:Wn K Zm) (kT:ZbA K ZS) (R:YB K Zm "take_ticket" "House.take_ticket" (Zr (top 90) 11) ["self","row"]) (Z2:Zh P w K mg base 1 "are_bytes" ["row","least","last"] (QX K))
 (YZ:ZC P w K mg base 6 Zm "own_ticket" ["self","row"] (spOwn K Zm Zg ZS)) (Xk:ZC P w K mg base 1 Zm "is_taken" ["self","number"] (spTaken Zm Zg)):ZC P w K mg base 7 Zm "take_ticket" ["self","row"] (spTakeT Zm Zg):=by
 refine R.callee JK (fun vs H Q E h=>?_) (fun f cdv A outer s H vs Q E hr h=>?_)
 ·walk_at "ln"
 obtain ⟨ha,rp,h,F,G,b,rfl,hp,ok,hrp,hbl,hB,q⟩:=h
 obtain ⟨YQ,s1,s2,s3,s4⟩:=kS
 obtain ⟨ZcR,t1,t2,t3,t4,t5⟩:=kT
 have hp':=hp
 obtain ⟨has,dx,ka,hl,tl,vs,ts,p⟩:=hp
 have po:=p.o
 refine ⟨_,(Zb (ZM (Y8 (Z0 (Ze Z2 hr (Za (pv 1) (Za (ZT Wk) (Za (ZT Wk) Zc)))))) (Zd (Zk (ZH (Za (YM Zw) Zc)))) Zx) (Zb (Zq 2 JK.nd (Z9 YQ YZ hr (pv 0) (Za (pv 1) Zc))) (Zb (ZM (XT (Wq (pv 2))) (Zd (Zk (ZH (Za (YM Xi) Zc)))) Zx) (Zb (ZM (Z0 (Z9 YQ Xk hr (pv 0) (Za (Zt K (pv 2)) Zc))) (Zd (Zk (ZH (Za (Zi 0) Zc)))) Zx) (Zb (ZM (ZP on_ge (ZL (ZQ K) rfl B.len Ox (Za (Zt K (pv 0)) Zc)) (ZT Wj) (ZR _)) (Zd (Zk (ZH (Za (YM QM) Zc)))) Zx) (Zb (Xh (Ji OH PySem.F.slot_list_append PySem.F.type_list_append Zbd (Zt K (pv 0)) (Za (pe_tup (Za (Zt K (pv 2)) (Za (Zt K (pv 2)) Zc))) Zc))) (Zd (Zk (ZH (Za (Zi 0) Zc)))))))))),?_⟩
 refine Zo (σ':=[some (.ref ha),some (.ref rp),none]) rfl ?_
 unfold O6 at q
 dsimp only at q
 nofun
 refine ⟨rp,b,40,40,rfl,SqL.of hrp,hB,?_⟩
 rw [decide_eq_true (show 40<=b.length/\b.length<=40 by simp [*])]
 nofun
 refine Xc ?_
 nofun
 refine ⟨ha,rp,h,F,b,rfl,hp',ok,hrp,hbl,hB,fun er H1 u1=>?_,fun x H1 a dy pp er xl xb u1 n1 a1 x1=>?_⟩
 ·nofun
  rw [decide_eq_true rfl]
  refine YV ?_
  nofun
  rw [er] at q
  exact ⟨Zp (by simp),fun u hu=>Z5 q (by decide) hp' u1 hu⟩
 rw [er] at q
 have po1:=u1 _ _ po
 obtain ⟨t,et⟩:∃t,t=Uh x:=⟨_,rfl⟩
 rw [<- et] at q a1
 nofun
 rw [decide_eq_false (fun h=>V.noConfusion h)]
 refine Xc ?_
 nofun
 refine ⟨ha,h,F,t.number,rfl,hp'.keep fun b u _ e=>u1 b u e,ok,fun H2 u2=>?_⟩
 have u12:=u1.trans u2
 have a2:=u2 _ _ a1
 have po2:=u12 _ _ po
 have pt2:=u12 _ _ p.tk
 have hlen:(ts.map V.ref).length=h.list.length:=by rw [Od]; exact p.en.len
 have hl256:=ok.list
 nofun
 cases hli:h.listed t.number with
 | true=>
  refine YV ?_
  nofun
  simp only [if_pos hli] at q
  exact ⟨Zp (by simp),fun u hu=>QD q (Jr u12) (hp'.keep fun b u _ e=>u12 b u e) (fun b fb=>.inl fb) (u12.free hu) hu rfl⟩
 | false=>
  refine Xc ?_
  simp only [hli,IH,if_false] at q
  nofun
  refine ⟨tl,_,rfl,SqL.of pt2,?_⟩
  rw [hlen]
  nofun
  refine dif (fun g2=>?_) (fun g2=>?_)
  ·rw [if_pos (show Sy23.LIST<=h.list.length from g2)] at q
   nofun
   exact ⟨Zp (by simp),fun u hu=>Z5 q (by decide) hp' u12 hu⟩
  ·rw [if_neg (show ¬ Sy23.LIST<=h.list.length from g2)] at q
   nofun
   refine ⟨Qp pt2,?_⟩
   nofun
   refine ⟨Zp (by simp),fun v hv=>?_⟩
   obtain ⟨H3,e3,u3,u23,v3,hv0⟩:=YJ (.tup [N_ t.number,N_ t.halt_]) u12 hv
   rw [e3]
   have pt3:=u3 _ _ p.tk
   nofun
   refine Zga pt3 (by rw [hlen]; exact ZbO) ?_
   obtain ⟨H4,e4⟩:∃H4,H4=upd H3 tl (.lst ((ts ++ [v]).map V.ref)):=⟨_,rfl⟩
   have h4:H4 tl=some (.lst ((ts ++ [v]).map V.ref)):=by rw [e4]; exact Zn
   have b4:But tl H3 H4:=by rw [e4]; exact But.upd H3 _
   have b04:But tl H H4:=(ZA.but u3).trans b4
   rw [show upd H3 tl (.lst (ts.map V.ref ++ [V.ref v]))=H4 by rw [e4,Ih]; rfl]
   nofun
   have nvt:v≠tl:=(Zu p.tk hv0).symm
   have v4:=b4 _ _ nvt v3
   refine ⟨Zp (by simp),fun u hu=>QD (F':=fun b=>F b∨b=v) q (b04.frame p.ft) ⟨?_,_,_,_,_,_,_,p.list b04 h4 (fun b fb=>.inl fb) (p.en.snoc (fun b fb=>.inl fb) (fun b xs e=>b04 _ _ (fun z=>by rw [z,p.tk] at e; simp at e) e) (.inr rfl) v4)⟩ ?_ (b04.free h4 hu) hu rfl⟩
   ·rintro b (fb | rfl)
    ·exact b04.has h4 has b fb
    ·exact ⟨_,v4⟩
   ·rintro b (fb | rfl)
    ·exact .inl fb
    ·exact .inr (.inr hv0)
theorem filter_idx {α:Type} (l:List α) (d:α) (p:α->Bool):((Ob l.length).filter fun j=>p (l.getD j d)).map (fun j=>l.getD j d)=l.filter p:=by
 have e:(Ob l.length).map (fun j=>l.getD j d)=l:=by
  apply Ui
  ·simp
  ·intro i h1 h2
   simp only [Uj,IT,Oe,Of h2,UU]
 conv=>rhs; rw [<- e]
 rw [List.filter_map]
 rfl
def spSweep (CS CH:Addr):Sp:=fun vs H Q _=>∃(ha:Addr) (h:OF) (F G:Addr->Prop) (now:Nat),vs=[.ref ha,N_ now]/\Yq CS CH H ha h F/\Yx h/\Jh CS CH H ha F G (O6 h (.sweep now)) Q
theorem Qi:Zs ["self","now","entry"] ["self","now"] (Zj (Zr (top 90) 13)):=qsc
theorem Zdo (B:Blt mg) (Zw:Xv mg "OUT_OF_RANGE" (-2)) (kS:Wn K Zm) (R:YB K Zm "sweep_list" "House.sweep_list" (Zr (top 90) 13) ["self","now"]) (Y0:Zh P w K mg base 2 "is_time" ["now"] (QY 0 (2 ^ 40))):ZC P w K mg base 3 Zm "sweep_list" ["self","now"] (spSweep Zm Zg):=by
 refine R.callee Qi (fun vs H Q E h=>?_) (fun f cdv A outer s H vs Q E hr h=>?_)
 ·walk_at "ln"
 obtain ⟨ha,h,F,G,now,rfl,hp,ok,q⟩:=h
 obtain ⟨s0,s1,s2,s3,s4⟩:=kS
 have hp':=hp
 obtain ⟨has,dx,ka,hl,tl,vs,ts,p⟩:=hp
 have po:=p.o
 have pt:=p.tk
 refine ⟨_,(Zb (ZM (Y8 (Z0 (Ze Y0 hr (Za (pv 1) Zc)))) (Zd (Zk (ZH (Za (YM Zw) Zc)))) Zx) (Zb (Z1 K (pv 0) (Zbf rfl Qi.nd (YW K (Zt K (pv 0))) (Y7 (own:=[("entry",2)]) rfl) (fun _ _ _ _ _=>(ZW 2 Qi.nd)) (fun _ _ _ _ _=>(pts_one (ZP on_gt (Zy (ZO K) (pv 2) (Zi 1)) (pv 1) (ZR _)))) (fun _ _ _ _ _=>(pv 2)))) (Zd (Zk (ZH (Za (ZL (ZQ K) rfl B.len Ox (Za (Zt K (pv 0)) Zc)) Zc)))))),?_⟩
 refine Zo (σ':=[some (.ref ha),some (N_ now),none]) rfl ?_
 unfold O6 at q
 obtain ⟨q1,q2⟩:=Za1 q
 rw [JN] at q1 q2
 nofun
 refine ⟨now,rfl,?_⟩
 nofun
 by_cases g1:0<=now/\now<=2 ^ 40
 case neg=>
  rw [decide_eq_false g1]
  refine YV ?_
  nofun
  exact ⟨Zp (by simp),fun u hu=>Z5 (q1 (decide_eq_false g1)) (by decide) hp' (Zl _) hu⟩
 have q3:=q2 (decide_eq_true g1)
 rw [decide_eq_true g1]
 refine Xc ?_
 nofun
 refine YX (SqL.of pt) ?_
 have hlen:(ts.map V.ref).length=h.list.length:=by rw [Od]; exact p.en.len
 have hl256:=ok.list
 refine Zf2 (Zaw (SqL.of pt)) (fun i=>decide (now < (h.list.getD i (0,0)).2)) (Zp (by rw [hlen]; exact ZbN)) ?_ ?_ ?_
 ·intro j H2 R' hj hs hR
  obtain ⟨t,e1,-,-,g⟩:=p.en.get (hlen ▸ hj)
  rw [e1]
  dsimp only [Iy]
  nofun
  refine Ja (hs _ _ g) rfl ?_
  nofun
  exact hR
 ·intro j H2 R' hj hR
  dsimp only [Iy]
  nofun
  exact hR
 ·intro D H1 hD u1 hD1
  have po1:=u1 _ _ po
  nofun
  obtain ⟨H2,e2⟩:∃H2,H2=upd H1 ha (hsO Zm dx ka hl D h.number):=⟨_,rfl⟩
  have h2:H2 ha=some (hsO Zm dx ka hl D h.number):=by rw [e2]; exact Zn
  have b2:But ha H1 H2:=by rw [e2]; exact But.upd H1 _
  have b02:But ha H H2:=(ZA.but u1).trans b2
  rw [show upd H1 ha (.ins Zm dx (X5 "taken" (V.ref D) [("key",.ref ka),("number",N_ h.number),("holders",.ref hl),("taken",.ref tl)]))=H2 from e2.symm]
  obtain ⟨ix,eix⟩:∃ix,ix=(Ob h.list.length).filter fun j=>decide (now < (h.list.getD j (0,0)).2):=⟨_,rfl⟩
  have hix:∀j,j∈ix->j < h.list.length:=fun j hj=>by
   rw [eix] at hj
   exact OR.mp (UI.mp hj).1
  have el:ix.map (fun j=>h.list.getD j (0,0))=h.list.filter fun x=>decide (now < x.2):=by
   rw [eix]
   exact filter_idx h.list (0,0) fun x=>decide (now < x.2)
  have ets:(ix.map fun j=>ts.getD j ha).map V.ref=ix.map fun j=>(ts.map V.ref).getD j .non:=by
   rw [O8]
   apply Ia
   intro j hj
   have hj':j < ts.length:=by rw [p.en.len]; exact hix j hj
   show V.ref (ts.getD j ha)=_
   rw [Oe,Oe,OP,Of hj']
   rfl
  rw [hlen,<- eix,<- ets] at hD1
  have nD:D≠ha:=(Zu po hD).symm
  have hD2:=b2 _ _ nD hD1
  have po2:=h2
  nofun
  refine ⟨D,_,rfl,SqL.of hD2,?_⟩
  nofun
  have nFD:¬ F D:=fun z=>by
   obtain ⟨u,hu⟩:=has D z
   rw [hD] at hu
   exact absurd hu (by simp)
  have en2:XY H2 (fun b=>F b∨b=D) (ix.map fun j=>ts.getD j ha) (h.list.filter fun x=>decide (now < x.2)):=by
   rw [<- el]
   refine ⟨by rw [Od,Od],fun i t e e1 e2'=>?_⟩
   rw [OP] at e1 e2'
   cases hi:ix[i]? with
   | none=>rw [hi] at e1; simp at e1
   | some j=>
    rw [hi] at e1 e2'
    have hj:=hix j (O5 hi)
    obtain ⟨t',-,et,ft,gt⟩:=p.en.get hj
    have z1:ts.getD j ha=t:=by simpa using e1
    have z2:h.list.getD j (0,0)=e:=by simpa using e2'
    have z3:ts.getD j ha=t':=by rw [Oe,et]; rfl
    rw [<- z1,z3,<- z2]
    exact ⟨.inl ft,b02 _ _ (fun z=>by rw [z,po] at gt; simp at gt) gt⟩
  have pn:=p.own (F':=fun b=>F b∨b=D) (n:=h.number) (tl':=D) b02 h2 (fun b fb=>.inl fb) (.inr rfl) hD2 (fun z=>nFD (z ▸ p.fk)) (fun z=>nFD (z ▸ p.fh)) (.inr nFD) en2
  refine ⟨Zp (by simp),fun u hu=>QD (F':=fun b=>F b∨b=D) q3 (b02.frame p.fa) ⟨?_,_,_,_,_,_,_,pn⟩ ?_ (b02.free h2 hu) hu ?_⟩
  ·rintro b (fb | rfl)
   ·exact b02.has h2 has b fb
   ·exact ⟨_,hD2⟩
  ·rintro b (fb | rfl)
   ·exact .inl fb
   ·exact .inr (.inr hD)
  ·show _=LI (ansI (II (((h.list.filter fun x=>decide (now < x.2)).length:Nat):Int)))
   rw [ansI_nat0,Od,<- el,Od,Od]
def rLstT (K:Oa) (vs:List V) (H:Hp) (Q:VK):Prop:=∃(p:Addr) (l:List Nat),vs=[.ref p]/\Tab K p l/\∀r,H r=none->Q (.ref r) (upd H r (.lst (LN l)))
theorem call_lstT {X:Cx} (K:Oa) (h:X.K=K:=by rfl):WZ X (.type "list") (rLstT K):=by
 subst h
 exact Jq ZdT fun xs H Q ⟨p,l,h1,h2,q⟩=>⟨p,LN l,h1,.inr (h2 H),q⟩
theorem set3 {H0 H:Hp} {a:Addr} (o:HO) (s:ZA H0 H) (h:H0 a=none):∃H1,upd H a o=H1/\ZA H0 H1/\H1 a=some o/\But a H H1:=⟨_,rfl,Zz s h,Zn,But.upd H _⟩
def spFill:Sp:=fun vs H Q _=>∃(p:Addr) (l:List Nat) (n:Nat),vs=[.ref p,N_ n]/\H p=some (.lst (LN l))/\l.length<=n/\n<=100000/\∀(H':Hp) (q:Addr),ZA H H'->H q=none->H' q=some (.lst (LN (l ++ Ou (n - l.length) 0)))->Q (.ref q) H'
theorem sc_filled_up:Zs ["row","size"] ["row","size"] (Zj (top 95)):=qsc
theorem c_filled_up (B:Blt mg) (R:Raw K mg "filled_up" "filled_up" (top 95) ["row","size"]):Zh P w K mg base 1 "filled_up" ["row","size"] spFill:=by
 refine R.callee sc_filled_up (fun vs H Q E h=>?_) (fun f cdv A outer s H vs Q E hr h=>?_)
 ·walk_at "ln"
 obtain ⟨p,l,n,rfl,hp,hl,hn,q⟩:=h
 refine ⟨_,(Zd (Zk (Zf Xp (pv 0) (Zf ZeQ (ZH (Za (Zi 0) Zc)) (Zf Xg (pv 1) (ZL (ZQ K) rfl B.len Ox (Za (pv 0) Zc))))))),?_⟩
 refine Zo (σ':=[some (.ref p),some (N_ n)]) rfl ?_
 nofun
 refine ⟨Zp (by simp),fun u hu=>?_⟩
 obtain ⟨H1,e1,t1,-,u1,-⟩:=YJ (.lst [N_ 0]) (Zl H) hu
 rw [e1]
 have p1:=t1 _ _ hp
 nofun
 ·refine rd_rep u1 (by lia) fun r hr'=>?_
  obtain ⟨H2,e2,t2,-,r2,-⟩:=YJ (.lst (LN (Ou (n - l.length) 0))) t1 hr'
  rw [e2]
  refine Xq (t2 _ _ hp) r2 (by rw [Ij]; lia) fun y hy=>?_
  exact q _ y (Zz t2 (t2.free hy)) (t2.free hy) Zn
 ·exact hl
def X2 (o:Option Oy):Sy23.B:=match o with
 | some x=>x.bytes
 | none=>IZ Sy23.PLACE
def spHB (CH:Addr):Sp:=fun vs H Q _=>∃(v:V) (o:Option Oy),vs=[v]/\((v=.non/\o=none)∨∃(a dx sa:Addr) (x:Oy),v=.ref a/\o=some x/\H a=some (hoO CH dx sa x)/\H sa=some (.lst (LN x.secret))/\x.secret.length<=64)/\∀(H':Hp) (q:Addr),ZA H H'->H q=none->H' q=some (.lst (LN (X2 o)))->Q (.ref q) H'
theorem JV:Zs ["holder","timed","row"] ["holder"] (Zj (top 96)):=qsc
theorem ZfN (B:Blt mg) (Wi:ZU mg "HOLDER_SIZE" 128) (k:Y2 K Zg) (R:Raw K mg "holder_bytes" "holder_bytes" (top 96) ["holder"]) (ZE:Zh P w K mg base 1 "bytes_low_first" ["number","count"] spLow) (QK:Zh P w K mg base 1 "filled_up" ["row","size"] spFill):Zh P w K mg base 2 "holder_bytes" ["holder"] (spHB Zg):=by
 refine R.callee JV (fun vs H Q E h=>?_) (fun f cdv A outer s H vs Q E hr h=>?_)
 ·walk_at "ln"
 obtain ⟨v,o,rfl,hv,q⟩:=h
 obtain ⟨k0,k1,k2,k3,k4,k5,k6,k7,k8⟩:=k
 refine ⟨_,(Zb (ZM (XT (Wq (pv 0))) (Zd (Zk (Zf ZeQ (ZH (Za (Zi 0) Zc)) (ZT Wi)))) Zx) (Zb (Zq 1 JV.nd (pe_ifExp (ZP on_ne (Zt K (pv 0)) (Zi 0) (ZR _)) (Zi 1) (Zi 0))) (Zb (Zq 2 JV.nd (ZH (Za (Zi 1) (Za (pv 1) (Za (Zt K (pv 0)) (Za (ZL (ZQ K) rfl B.len Ox (Za (Zt K (pv 0)) Zc)) Zc)))))) (Zb (Xh (Ji OH OW OX Xz (pv 2) (Za (Ze ZE hr (Za (Zt K (pv 0)) (Za (Zi 4) Zc))) Zc))) (Zb (Xh (Ji OH OW OX Xz (pv 2) (Za (Ze ZE hr (Za (Zt K (pv 0)) (Za (Zi 8) Zc))) Zc))) (Zb (Xh (Ji OH OW OX Xz (pv 2) (Za (Ze ZE hr (Za (Zt K (pv 0)) (Za (Zi 4) Zc))) Zc))) (Zb (Xh (Ji OH OW OX Xz (pv 2) (Za (Ze ZE hr (Za (Zt K (pv 0)) (Za (Zi 4) Zc))) Zc))) (Zb (Xh (Ji OH OW OX Xz (pv 2) (Za (Ze ZE hr (Za (Zt K (pv 0)) (Za (Zi 8) Zc))) Zc))) (Zb (Xh (Ji OH OW OX Xz (pv 2) (Za (Ze ZE hr (Za (Zt K (pv 0)) (Za (Zi 8) Zc))) Zc))) (Zb (Xh (Ji OH OW OX Xz (pv 2) (Za (Zt K (pv 0)) Zc))) (Zd (Zk (Ze QK hr (Za (pv 2) (Za (ZT Wi) Zc))))))))))))))),?_⟩
 refine Zo (σ':=[some v,none,none]) rfl ?_
 nofun
 rcases hv with ⟨rfl,rfl⟩ | ⟨a,dx,sa,x,rfl,rfl,hx,hs,hl⟩
 ·rw [decide_eq_true rfl]
  refine YV ?_
  nofun
  refine ⟨Zp (by simp),fun u hu=>?_⟩
  obtain ⟨H1,e1,t1,-,u1,-⟩:=YJ (.lst [N_ 0]) (Zl H) hu
  rw [e1]
  nofun
  refine rd_rep u1 (by decide) fun r hr'=>?_
  exact q _ r (Zz t1 (t1.free hr')) (t1.free hr') Zn
 rw [decide_eq_false (fun h=>V.noConfusion h)]
 refine Xc ?_
 obtain ⟨tm,etm⟩:∃tm:Nat,tm=if x.step=0 then 0 else 1:=⟨_,rfl⟩
 have go:∀(σ:St) (R':VK),R' (N_ tm) H->(if (!decide (x.step=0))=true then tC (N_ 1) σ H R' else tC (N_ 0) σ H R'):=fun σ R' h=>by
  by_cases e:x.step=0
  ·rw [decide_eq_true e]
   rw [if_pos e] at etm
   exact etm ▸ h
  ·rw [decide_eq_false e]
   rw [if_neg e] at etm
   exact etm ▸ h
 nofun
 refine go _ _ ?_
 nofun
 refine ⟨Zp (by simp),fun r hr'=>?_⟩
 obtain ⟨H1,e1,t1,-,r1,r0⟩:=YJ (.lst (LN [1,tm,x.digits,x.secret.length])) (Zl H) hr'
 rw [show upd H r (.lst [N_ 1,N_ tm,N_ x.digits,N_ x.secret.length])=H1 from e1]
 have x1:=t1 _ _ hx
 nofun
 refine ⟨Qp r1,?_⟩
 nofun
 refine ⟨x.step,4,rfl,by decide,fun H2 p2 t2 n2 h2=>?_⟩
 nofun
 refine Xl (t2 _ _ r1) h2 (by simp only [ZF,Oz,Ii]; decide) ?_
 obtain ⟨H3,e3,t3,r3,-⟩:=set3 (.lst (LN ([1,tm,x.digits,x.secret.length] ++ Om 4 x.step))) (t1.trans t2) r0
 rw [e3]
 have x3:=t3 _ _ hx
 nofun
 refine ⟨Qp r3,?_⟩
 nofun
 refine ⟨x.next,8,rfl,by decide,fun H4 p4 t4 n4 h4=>?_⟩
 nofun
 refine Xl (t4 _ _ r3) h4 (by simp only [Og,ZF,Oz,Ii]; decide) ?_
 obtain ⟨H5,e5,t5,r5,-⟩:=set3 (.lst (LN ([1,tm,x.digits,x.secret.length] ++ Om 4 x.step ++ Om 8 x.next))) (t3.trans t4) r0
 rw [e5]
 have x5:=t5 _ _ hx
 nofun
 refine ⟨Qp r5,?_⟩
 nofun
 refine ⟨x.failed,4,rfl,by decide,fun H6 p6 t6 n6 h6=>?_⟩
 nofun
 refine Xl (t6 _ _ r5) h6 (by simp only [Og,ZF,Oz,Ii]; decide) ?_
 obtain ⟨H7,e7,t7,r7,-⟩:=set3 (.lst (LN ([1,tm,x.digits,x.secret.length] ++ Om 4 x.step ++ Om 8 x.next ++ Om 4 x.failed))) (t5.trans t6) r0
 rw [e7]
 have x7:=t7 _ _ hx
 nofun
 refine ⟨Qp r7,?_⟩
 nofun
 refine ⟨if x.earned=true then 1 else 0,4,rfl,by decide,fun H8 p8 t8 n8 h8=>?_⟩
 nofun
 refine Xl (t8 _ _ r7) h8 (by simp only [Og,ZF,Oz,Ii]; decide) ?_
 obtain ⟨H9,e9,t9,r9,-⟩:=set3 (.lst (LN ([1,tm,x.digits,x.secret.length] ++ Om 4 x.step ++ Om 8 x.next ++ Om 4 x.failed ++ Om 4 (if x.earned=true then 1 else 0)))) (t7.trans t8) r0
 rw [e9]
 have x9:=t9 _ _ hx
 nofun
 refine ⟨Qp r9,?_⟩
 nofun
 refine ⟨x.till,8,rfl,by decide,fun HA pA tA nA hA=>?_⟩
 nofun
 refine Xl (tA _ _ r9) hA (by simp only [Og,ZF,Oz,Ii]; decide) ?_
 obtain ⟨HB,eB,tB,rB,-⟩:=set3 (.lst (LN ([1,tm,x.digits,x.secret.length] ++ Om 4 x.step ++ Om 8 x.next ++ Om 4 x.failed ++ Om 4 (if x.earned=true then 1 else 0) ++ Om 8 x.till))) (t9.trans tA) r0
 rw [eB]
 have xB:=tB _ _ hx
 nofun
 refine ⟨Qp rB,?_⟩
 nofun
 refine ⟨x.floor,8,rfl,by decide,fun HC pC tC nC hC=>?_⟩
 nofun
 refine Xl (tC _ _ rB) hC (by simp only [Og,ZF,Oz,Ii]; decide) ?_
 obtain ⟨HD,eD,tD,rD,-⟩:=set3 (.lst (LN ([1,tm,x.digits,x.secret.length] ++ Om 4 x.step ++ Om 8 x.next ++ Om 4 x.failed ++ Om 4 (if x.earned=true then 1 else 0) ++ Om 8 x.till ++ Om 8 x.floor))) (tB.trans tC) r0
 rw [eD]
 have xD:=tD _ _ hx
 nofun
 refine ⟨Qp rD,?_⟩
 nofun
 refine Xl rD (tD _ _ hs) (by simp only [Og,ZF,Oz,Ii]; lia) ?_
 obtain ⟨HE,eE,tE,rE,-⟩:=set3 (.lst (LN ([1,tm,x.digits,x.secret.length] ++ Om 4 x.step ++ Om 8 x.next ++ Om 4 x.failed ++ Om 4 (if x.earned=true then 1 else 0) ++ Om 8 x.till ++ Om 8 x.floor ++ x.secret))) tD r0
 rw [eE]
 nofun
 have len:([1,tm,x.digits,x.secret.length] ++ Om 4 x.step ++ Om 8 x.next ++ Om 4 x.failed ++ Om 4 (if x.earned=true then 1 else 0) ++ Om 8 x.till ++ Om 8 x.floor ++ x.secret).length=40 + x.secret.length:=by
  simp only [Og,ZF,Oz,Ii]
 refine ⟨r,_,128,rfl,rE,by rw [len]; lia,by decide,fun HF y tF nF hF=>?_⟩
 refine q _ y (tE.trans tF) (tE.free nF) ?_
 rw [hF,len,etm]
 congr 2
 refine congrArg LN ?_
 show _=x.bytes
 unfold Vh IZ
 rw [show 128 - (40 + x.secret.length)=64 - x.secret.length + 24 by lia,<- List.replicate_append_replicate]
 simp only [O7]
theorem ZeJ {K:Oa} {a:Addr} {xs:List V} {g:TG} {tb:TS} {D:Zah} {σ:St} {H:Hp} (Pv:Nat->St->Hp->Prop) (h0:Pv 0 σ H) (hl:∀i σ H,i<=xs.length->Pv i σ H->SqL K H a xs)
 (hs:∀i y σ H,xs[i]?=some y->Pv i σ H->g y σ H fun σ2 H2=>tb { D with nx:=Pv (i + 1),ct:=Pv (i + 1),bk:=D.nx } σ2 H2) (hd:∀σ H,Pv xs.length σ H->D.nx σ H) :
 ∃W:Nat->Nat->St->Hp->Prop,(∃m,W 0 m σ H)/\∀i m σ H,W i m σ H->
  ((Itl K a).stop i H/\D.nx σ H)∨((Itl K a).go i H/\∃N:St->Hp->Prop,(∀σ' H',N σ' H'->∃m',m' < m/\W (i + 1) m' σ' H')/\∀x H',(Itl K a).yld i H x H'->g x σ H' fun σ2 H2=>tb { D with nx:=N,ct:=N,bk:=D.nx } σ2 H2):=JD Pv h0 hl hs hd
def entB (l:List (Nat×Nat)):Sy23.B:=l.flatMap fun x=>Om 8 x.1 ++ Om 8 x.2
theorem Zcj (l:List (Nat×Nat)):(entB l).length=16 * l.length:=by
 unfold entB
 induction l with
 | nil=>rfl
 | cons x l ih=>rw [IS,Og,ih,Og,ZF,ZF,Oz]; omega
def spLB:Sp:=fun vs H Q _=>∃(tl:Addr) (ts:List Addr) (F:Addr->Prop) (l:List (Nat×Nat)),vs=[.ref tl]/\H tl=some (.lst (ts.map V.ref))/\XY H F ts l/\l.length<=256/\∀(H':Hp) (q:Addr),ZA H H'->H q=none->H' q=some (.lst (LN (entB l ++ IZ (16 * (256 - l.length)))))->Q (.ref q) H'
theorem Za3:Zs ["taken","row","entry"] ["taken"] (Zj (top 97)):=qsc
theorem c_list_bytes (Wj:ZU mg "LIST_PLACES" 256) (J0:ZU mg "ENTRY_SIZE" 16) (R:Raw K mg "list_bytes" "list_bytes" (top 97) ["taken"]) (ZE:Zh P w K mg base 1 "bytes_low_first" ["number","count"] spLow) (QK:Zh P w K mg base 1 "filled_up" ["row","size"] spFill):Zh P w K mg base 2 "list_bytes" ["taken"] spLB:=by
 refine R.callee Za3 (fun vs H Q E h=>?_) (fun f cdv A outer s H vs Q E hr h=>?_)
 ·walk_at "ln"
 obtain ⟨tl,ts,F,l,rfl,ht,en,hl,q⟩:=h
 refine ⟨_,(Zb (Zq 1 Za3.nd (ZH Zc)) (Zb (Xx PassesOwn.never rfl (YW K (pv 0)) (ZW 2 Za3.nd) (Zd (Xh (Ji OH OW OX Xz (pv 1) (Za (Zf Xp (Ze ZE hr (Za (Zy (ZO K) (pv 2) (Zi 0)) (Za (Zi 8) Zc))) (Ze ZE hr (Za (Zy (ZO K) (pv 2) (Zi 1)) (Za (Zi 8) Zc)))) Zc))))) (Zd (Zk (Ze QK hr (Za (pv 1) (Za (Zf Q8 (ZT Wj) (ZT J0)) Zc))))))),?_⟩
 refine Zo (σ':=[some (.ref tl),none,none]) rfl ?_
 nofun
 refine ⟨Zp (by simp),fun r hr'=>?_⟩
 obtain ⟨H1,e1,t1,-,r1,r0⟩:=YJ (.lst (LN [])) (Zl H) hr'
 rw [show upd H r (.lst [])=H1 from e1]
 nofun
 refine YX (SqL.of (t1 _ _ ht)) ?_
 refine ZeJ (K:=K) (a:=tl) (xs:=ts.map V.ref) (fun i σ H'=>ZA H H'/\H' r=some (.lst (LN (entB (l.take i))))/\∃v,σ=[some (.ref tl),some (.ref r),v]) ⟨t1,r1,none,rfl⟩ (fun i σ H' _ ⟨e,_⟩=>e.seq (SqL.of ht)) ?_ ?_
 ·rintro i y σ H2 hy ⟨t2,r2,v,rfl⟩
  have hi:i < l.length:=by
   have:=(OB.mp hy).1
   rw [Od] at this
   rw [<- en.len]; exact this
  obtain ⟨t,-,et,ft,gt⟩:=en.get hi
  have ey:y=.ref t:=by
   rw [OP,et] at hy
   exact (Option.some.inj hy).symm
  subst ey
  nofun
  refine ⟨Qp r2,?_⟩
  nofun
  refine Ja (t2 _ _ gt) rfl ?_
  nofun
  refine ⟨_,8,rfl,by decide,fun H3 p3 t3 n3 h3=>?_⟩
  nofun
  refine Ja (t3 _ _ (t2 _ _ gt)) rfl ?_
  nofun
  refine ⟨_,8,rfl,by decide,fun H4 p4 t4 n4 h4=>?_⟩
  refine Xq (t4 _ _ h3) h4 (by rw [ZF,ZF]; decide) fun u hu=>?_
  have t04:=(t2.trans t3).trans t4
  obtain ⟨H5,e5,t5,t45,u5,-⟩:=YJ (.lst (LN (Om 8 (l.getD i (0,0)).1 ++ Om 8 (l.getD i (0,0)).2))) t04 hu
  rw [e5]
  nofun
  have r5:=t45 _ _ (t4 _ _ (t3 _ _ r2))
  refine Xl r5 u5 (by rw [Zcj,Og,ZF,ZF,OM]; lia) ?_
  refine ⟨Zz t5 r0,?_,_,rfl⟩
  rw [Zn]
  congr 3
  have e6:l.take (i + 1)=l.take i ++ [l.getD i (0,0)]:=by
   rw [Vd,Of hi,Oe,Of hi]; rfl
  rw [e6]
  unfold entB
  rw [U1,IS,Vm,Um]
 ·rintro σ H2 ⟨t2,r2,v,rfl⟩
  rw [Od,en.len,IL] at r2
  nofun
  ·refine ⟨r,entB l,4096,rfl,r2,by rw [Zcj]; lia,by decide,fun H3 y t3 n3 h3=>?_⟩
   refine q _ y (t2.trans t3) (t2.free n3) ?_
   rw [h3,Zcj,show 4096 - 16 * l.length=16 * (256 - l.length) by lia]
   rfl
  ·decide
def Wz (os:List (Option Oy)):Sy23.B:=os.flatMap X2
theorem ZfY {x:Oy} (h:x.secret.length<=64):x.bytes.length=128:=by
 unfold Vh IZ
 simp only [Og,ZF,Oz,Ii,Ij]
 lia
theorem ZaJ:∀(os:List (Option Oy)),(∀x,some x∈os->Xn x)->(Wz os).length=128 * os.length
 | [],_=>rfl
 | o :: os,h=>by
  have ih:=ZaJ os fun x hx=>h x (Ov _ hx)
  unfold Wz at ih ⊢
  rw [IS,Og,ih,Oz]
  cases o with
  | none=>unfold X2 IZ Sy23.PLACE; rw [Ij]; omega
  | some x=>rw [show X2 (some x)=x.bytes from rfl,ZfY (h x (Ow ..)).s64]; omega
theorem Q6 (h:OF):h.bytes=[83,89,50,51,0,0,0,0] ++ Om 8 h.number ++ Wz h.holders ++ (entB h.list ++ IZ (16 * (256 - h.list.length))):=by
 unfold Sy23.House.bytes Wz entB
 have e:Sy23.ascii "SY23"=[83,89,50,51]:=by decide
 rw [e]
 show [83,89,50,51] ++ (IZ 4 ++ (Om 8 h.number ++ (h.holders.flatMap X2 ++ ((h.list.flatMap fun x:Nat×Nat=>Om 8 x.1 ++ Om 8 x.2) ++ IZ (16 * (Sy23.LIST - h.list.length))))))=_
 simp only [O7]
 rfl
theorem house_len {h:OF} (ok:Yx h):h.bytes.length=12304:=by
 rw [Q6]
 have:=ok.list
 simp only [Og,ZF,Oz,Ii,ZaJ _ ok.ok,ok.len,Zcj,IZ,Ij]
 lia
def Zgt (CS CH:Addr):Sp:=fun vs H Q _=>∃(ha:Addr) (h:OF) (F:Addr->Prop),vs=[.ref ha]/\Yq CS CH H ha h F/\Yx h/\∀(H':Hp) (q:Addr),ZA H H'->H q=none->H' q=some (.lst (LN h.bytes))->Q (.ref q) H'
theorem Zav:Zs ["house","row","holder"] ["house"] (Zj (top 98)):=qsc
theorem ZgP (B:Blt mg) (T_HEAD:∃a,mg "HEAD"=some (.ref a)/\Tab K a [83,89,50,51,0,0,0,0]) (kS:Wn K Zm) (R:Raw K mg "house_bytes" "house_bytes" (top 98) ["house"]) (ZE:Zh P w K mg base 1 "bytes_low_first" ["number","count"] spLow) (Zae:Zh P w K mg base 2 "holder_bytes" ["holder"] (spHB Zg)) (Zbu:Zh P w K mg base 2 "list_bytes" ["taken"] spLB):Zh P w K mg base 3 "house_bytes" ["house"] (Zgt Zm Zg):=by
 refine R.callee Zav (fun vs H Q E h=>?_) (fun f cdv A outer s H vs Q E hr h=>?_)
 ·walk_at "ln"
 obtain ⟨ha,h,F,rfl,hp,ok,q⟩:=h
 obtain ⟨s0,s1,s2,s3,s4⟩:=kS
 obtain ⟨has,dx,ka,hl,tl,vs,ts,p⟩:=hp
 have po:=p.o
 have ph:=p.hs
 obtain ⟨ad,G_HEAD,hT⟩:=T_HEAD
 have hvl:vs.length=64:=by rw [p.pl.len,ok.len]
 refine ⟨_,(Zb (Zq 1 Zav.nd (Zf Xp (ZeS (call_lstT K) rfl B.list PyProof.Rows.boot_list (Za (Ye G_HEAD) Zc)) (Ze ZE hr (Za (Zt K (pv 0)) (Za (Zi 8) Zc))))) (Zb (Xx PassesOwn.never rfl (YW K (Zt K (pv 0))) (ZW 2 Zav.nd) (Zd (Xh (Ji OH OW OX Xz (pv 1) (Za (Ze Zae hr (Za (pv 2) Zc)) Zc))))) (Zd (Zk (Zf Xp (pv 1) (Ze Zbu hr (Za (Zt K (pv 0)) Zc))))))),?_⟩
 refine Zo (σ':=[some (.ref ha),none,none]) rfl ?_
 nofun
 refine ⟨ad,_,rfl,hT,fun u hu=>?_⟩
 obtain ⟨H1,e1,t1,-,u1,-⟩:=YJ (.lst (LN [83,89,50,51,0,0,0,0])) (Zl H) hu
 rw [e1]
 have po1:=t1 _ _ po
 nofun
 refine ⟨h.number,8,rfl,by decide,fun H2 p2 t2 n2 h2=>?_⟩
 refine Xq (t2 _ _ u1) h2 (by rw [ZF]; decide) fun r hr'=>?_
 obtain ⟨H3,e3,t3,-,r3,-⟩:=YJ (.lst (LN ([83,89,50,51,0,0,0,0] ++ Om 8 h.number))) (t1.trans t2) hr'
 rw [e3]
 have r0:H r=none:=(t1.trans t2).free hr'
 have po3:=t3 _ _ po
 nofun
 refine YX (SqL.of (t3 _ _ ph)) ?_
 have lenP:∀i,(Wz (h.holders.take i)).length<=8192:=fun i=>by
  rw [ZaJ _ fun x hx=>ok.ok x (IK hx),OM,ok.len]
  lia
 refine ZeJ (K:=K) (a:=hl) (xs:=vs) (fun i σ H'=>ZA H H'/\H' r=some (.lst (LN ([83,89,50,51,0,0,0,0] ++ Om 8 h.number ++ Wz (h.holders.take i))))/\∃v,σ=[some (.ref ha),some (.ref r),v]) ⟨t3,?_,none,rfl⟩ (fun i σ H' _ ⟨e,_⟩=>e.seq (SqL.of ph)) ?_ ?_
 ·rw [r3,List.take_zero]
  unfold Wz
  rw [Vm,Um]
 ·rintro i y σ H4 hy ⟨t4,r4,v,rfl⟩
  have hi:i < h.holders.length:=by
   rw [<- p.pl.len]
   exact (OB.mp hy).1
  obtain ⟨v',hv',hpl⟩:=p.get hi
  obtain rfl:y=v':=Option.some.inj (hy.symm.trans hv')
  have eh:h.holders[i]?=some (h.at_ i):=by
   unfold VM
   rw [Of hi]
   rfl
  nofun
  refine ⟨Qp r4,?_⟩
  nofun
  refine ⟨y,h.at_ i,rfl,?_,fun H5 p5 t5 n5 h5=>?_⟩
  ·rcases hpl with z | ⟨a,dh,sa,x,z1,z2,f1,f2,m1,m2,g1,g2⟩
   ·exact .inl z
   ·exact .inr ⟨a,dh,sa,x,z1,z2,t4 _ _ g1,t4 _ _ g2,(ok.ok x (Zca z2)).s64⟩
  nofun
  have hlp:(X2 (h.at_ i)).length<=128:=by
   have:=ZaJ [h.at_ i] fun x hx=>ok.ok x (Zca (IB.mp hx).symm)
   unfold Wz at this
   rw [IS,Vm,Um] at this
   rw [this]
   exact Oq _
  have l1:=lenP i
  refine Xl (t5 _ _ r4) h5 (by simp only [Og,ZF,Oz,Ii]; lia) ?_
  refine ⟨Zz (t4.trans t5) r0,?_,_,rfl⟩
  rw [Zn]
  congr 3
  rw [O7]
  congr 1
  have e6:h.holders.take (i + 1)=h.holders.take i ++ [h.at_ i]:=by
   rw [Vd,eh]; rfl
  rw [e6]
  unfold Wz
  rw [U1,IS,Vm,Um]
 ·rintro σ H4 ⟨t4,r4,v,rfl⟩
  have po4:=t4 _ _ po
  have l1:=lenP 64
  rw [hvl,Iu (by rw [ok.len]; exact Oq _)] at r4
  rw [Iu (by rw [ok.len]; exact Oq _)] at l1
  nofun
  refine ⟨tl,ts,F,h.list,rfl,t4 _ _ p.tk,⟨p.en.len,fun i t e e1 e2=>⟨(p.en.at_ i t e e1 e2).1,t4 _ _ (p.en.at_ i t e e1 e2).2⟩⟩,ok.list,fun H5 y t5 n5 h5=>?_⟩
  have:=ok.list
  refine Xq (t5 _ _ r4) h5 (by simp only [Og,ZF,Oz,Ii,Zcj,IZ,Ij]; lia) fun z hz=>?_
  have t05:=t4.trans t5
  refine q _ z (Zz t05 (t05.free hz)) (t05.free hz) ?_
  rw [Zn,Q6]
theorem Xb {a b:Sy23.B} (ha:Ol a) (hb:Ol b):Ol (a ++ b):=fun x hx=>(IG.mp hx).elim (ha x) (hb x)
theorem ZbD (n:Nat):Ol (IZ n):=fun x hx=>by
 rw [Uo hx]; decide
theorem holder_byt {x:Oy} (ok:Xn x):Ol x.bytes:=by
 unfold Vh
 refine Xb ?_ (Xb (Y5 _ _) (Xb (Y5 _ _) (Xb (Y5 _ _) (Xb (Y5 _ _) (Xb (Y5 _ _) (Xb (Y5 _ _) (Xb ok.byt (Xb (ZbD _) (ZbD _)))))))))
 intro y hy
 have h1:=ok.d8
 have h2:=ok.s64
 simp only [ON,Uy,or_false] at hy
 rcases hy with rfl | rfl | rfl | rfl
 ·decide
 ·split <;> decide
 ·exact ZbO
 ·exact ZbO
theorem house_byt {h:OF} (ok:Yx h):Ol h.bytes:=by
 rw [Q6]
 refine Xb (Xb (Xb (fun x hx=>?_) (Y5 _ _)) ?_) (Xb ?_ (ZbD _))
 ·simp only [ON,Uy,or_false] at hx
  lia
 ·intro x hx
  obtain ⟨o,ho,hx⟩:=Vn.mp hx
  cases o with
  | none=>exact ZbD _ x hx
  | some y=>exact holder_byt (ok.ok y ho) x hx
 ·intro x hx
  obtain ⟨e,he,hx⟩:=Vn.mp hx
  exact Xb (Y5 _ _) (Y5 _ _) x hx
def spSave (CS CH:Addr):Sp:=fun vs H Q _=>∃(ha kp:Addr) (h:OF) (F G:Addr->Prop) (key:Sy23.B),vs=[.ref ha,.ref kp]/\Yq CS CH H ha h F/\Yx h/\H kp=some (.lst (LN key))/\Ol key/\Jh CS CH H ha F G (O6 h (.save (key.length:Nat) key)) Q
theorem Zcx:Zs ["house","key","row"] ["house","key"] (Zj (top 99)):=qsc
theorem ZgK (B:Blt mg) (Zw:Xv mg "OUT_OF_RANGE" (-2)) (R:Raw K mg "answer_save" "answer_save" (top 99) ["house","key"]) (Ys:Zh P w K mg base 2 "is_key" ["row"] (ZaL K)) (WO:Zh P w K mg base 4 "wrapped" ["key","given"] (spWrap K)) (Wh:Zh P w K mg base 3 "house_bytes" ["house"] (Zgt Zm Zg)):Zh P w K mg base 5 "answer_save" ["house","key"] (spSave Zm Zg):=by
 refine R.callee Zcx (fun vs H Q E h=>?_) (fun f cdv A outer s H vs Q E hr h=>?_)
 ·walk_at "ln"
 obtain ⟨ha,kp,h,F,G,key,rfl,hp,ok,hkp,hB,q⟩:=h
 refine ⟨_,(Zb (ZM (Y8 (Z0 (Ze Ys hr (Za (pv 1) Zc)))) (Zd (Zk (ZH (Za (YM Zw) Zc)))) Zx) (Zb (Zq 2 Zcx.nd (Ze WO hr (Za (pv 1) (Za (Ze Wh hr (Za (pv 0) Zc)) Zc)))) (Zd (Zk (Zf Xp (ZH (Za (ZL (ZQ K) rfl B.len Ox (Za (pv 2) Zc)) Zc)) (pv 2)))))),?_⟩
 refine Zo (σ':=[some (.ref ha),some (.ref kp),none]) rfl ?_
 unfold O6 at q
 obtain ⟨q1,q2⟩:=Za1 q
 rw [QR] at q1 q2
 nofun
 refine ⟨kp,key,rfl,SqL.of hkp,hB,fun H1 t1=>?_⟩
 nofun
 cases g1:XR key.length with
 | false=>
  refine YV ?_
  nofun
  exact ⟨Zp (by simp),fun u hu=>Z5 (q1 g1) (by decide) hp t1 hu⟩
 | true=>
  have q3:=q2 g1
  refine Xc ?_
  nofun
  refine ⟨ha,h,F,rfl,hp.keep fun b u _ e=>t1 b u e,ok,fun H2 bp t2 n2 h2=>?_⟩
  nofun
  have hik:=JE hB g1
  have hl:=house_len ok
  have hby:=house_byt ok
  have t12:=t1.trans t2
  refine ⟨kp,bp,key,h.bytes,rfl,t12.seq (SqL.of hkp),SqL.of h2,hik,hby,by simp [*],by simp [*],by simp [*],fun H3 a t3 n3 h3=>?_⟩
  nofun
  rw [ZdH hik hby (by simp [*]) (by simp [*])] at h3 ⊢
  obtain ⟨wl,wb⟩:=ZcG hik hby (by omega) (by omega) (by omega)
  refine ⟨Zp (by simp),fun u hu=>?_⟩
  obtain ⟨H4,e4,t4,t34,k4,-⟩:=YJ (.lst [N_ (Ug key h.bytes).length]) (t12.trans t3) hu
  rw [e4]
  nofun
  refine Xq (l:=[(Ug key h.bytes).length]) k4 (t34 _ _ h3) (by simp; simp [*]) fun y hy=>?_
  refine QD q3 (Jr t4) (hp.keep fun b u _ e=>t4 b u e) (fun b fb=>.inl fb) (t4.free hy) hy ?_
  have ev:(12312:Int)=((Ug key h.bytes).length:Int):=by rw [wl,hl]; rfl
  show _=LI (ansI { v:=12312,out:=Ug key h.bytes })
  rw [ev,Q2]
  rfl
def spParts:Sp:=fun vs H Q _=>∃(p:Addr) (b:Sy23.B) (start size count:Nat),vs=[.ref p,N_ start,N_ size,N_ count]/\H p=some (.lst (LN b))/\size<=1000/\count<=1000/\
 ∀(H':Hp) (q:Addr) (qs:List Addr),ZA H H'->H q=none->H' q=some (.lst (qs.map V.ref))->qs.length=count->(∀(j:Nat) (z:Addr),qs[j]?=some z->H z=none/\z≠q/\H' z=some (.lst (LN (Oh b (start + size * j) size))))->Q (.ref q) H'
theorem ZcA:Zs ["row","start","size","count","k"] ["row","start","size","count"] (Zj (top 102)):=qsc
theorem c_parts_of (B:Blt mg) (R:Raw K mg "parts_of" "parts_of" (top 102) ["row","start","size","count"]):Zh P w K mg base 1 "parts_of" ["row","start","size","count"] spParts:=by
 refine R.callee ZcA (fun vs H Q E h=>?_) (fun f cdv A outer s H vs Q E hr h=>?_)
 ·walk_at "ln"
 obtain ⟨p,b,start,size,count,rfl,hp,hs,hc,q⟩:=h
 refine ⟨_,(Zd (Zk (Zbf rfl ZcA.nd (QU rfl B.range (Za (pv 3) Zc)) (Y7 (own:=[("k",4)]) rfl) (fun _ _ _ _ _=>(ZW 4 ZcA.nd)) (fun _ _ _ _ _=>Wc) (fun _ _ _ _ _=>(YI (YK K) (pv 0) (Wd (Zf Z7 (pv 1) (Zf Q8 (pv 2) (pv 4)))) (Wd (Zf Z7 (pv 1) (Zf Q8 (pv 2) (Zf Z7 (pv 4) (Zi 1)))))))))),?_⟩
 refine Zo (σ':=[some (.ref p),some (N_ start),some (N_ size),some (N_ count),none]) rfl ?_
 nofun
 refine ⟨(count:Int),rfl,by exact O0 _,by lia,lc_inv (st_r1 count) (fun D j acc H'=>ZA H H'/\H' D=some (.lst acc)/\∃qs:List Addr,acc=qs.map V.ref/\qs.length=j/\∀(m:Nat) (z:Addr),qs[m]?=some z->H z=none/\z≠D/\H' z=some (.lst (LN (Oh b (start + size * m) size)))) (Zp (by exact ZbN)) ?_ ?_ ?_ ?_⟩
 ·intro D hD
  exact ⟨Zz (Zl _) hD,Zn,[],rfl,rfl,fun m z e=>by simp at e⟩
 ·rintro D j acc H' ⟨_,_,qs,rfl,hq,_⟩
  rw [Od]
  exact hq
 ·rintro D j acc H3 R hj hD ⟨t3,d3,qs,rfl,hq,hqs⟩ hR
  dsimp only [Iy]
  nofun
  ·refine Wr (t3.seq (SqL.of hp)) fun z hz=>?_
   rw [show start + size * (j + 1) - (start + size * j)=size by rw [Nat.mul_succ]; omega]
   have nz:z≠D:=(Zu d3 hz).symm
   have t4:ZA H (upd H3 z (.lst (LN (Ub size (Ua (start + size * j) b))))):=Zz t3 (t3.free hz)
   refine hR _ _ (by rw [ZN nz.symm]; exact d3) ⟨Zz t4 hD,Zn,qs ++ [z],(by rw [Ih]; rfl),(by rw [Og,hq]; rfl),fun m y e=>?_⟩
   by_cases hm:m < qs.length
   ·rw [OZ hm] at e
    obtain ⟨ny0,ny,hy⟩:=hqs m y e
    have nyz:y≠z:=Zu hy hz
    exact ⟨ny0,ny,by rw [ZN ny,ZN nyz]; exact hy⟩
   ·rw [Ic (by exact qw6)] at e
    have hm0:m - qs.length=0:=by
     cases hk:m - qs.length with
     | zero=>rfl
     | succ x=>rw [hk] at e; simp at e
    rw [hm0] at e
    have ez:z=y:=by simpa using e
    subst ez
    have em:m=j:=by lia
    subst em
    exact ⟨t3.free hz,nz,by rw [ZN nz,Zn]; rfl⟩
  all_goals exact ZbO
 ·rintro D acc H3 hD ⟨t3,d3,qs,rfl,hq,hqs⟩
  exact q _ D qs t3 hD d3 hq hqs
abbrev hoR (C dx sa:Addr) (x:Oy) (e:Nat):HO:=.ins C dx [("secret",.ref sa),("step",N_ x.step),("digits",N_ x.digits),("counter",N_ x.next),("failed",N_ x.failed),("until",N_ x.till),("earned",N_ e),("floor",N_ x.floor)]
def hOf (b:Sy23.B):Oy:=⟨Oh b 40 (OO b 3),Oi (Oh b 4 4),OO b 2,Oi (Oh b 8 8),Oi (Oh b 16 4),Oi (Oh b 24 8),Oi (Oh b 20 4) == 1,Oi (Oh b 32 8)⟩
def eOf (b:Sy23.B):Nat:=Oi (Oh b 20 4)
theorem part_part (b:Sy23.B) {s m i n:Nat} (h:i + n<=m):Oh (Oh b s m) i n=Oh b (s + i) n:=by
 unfold Oh
 rw [Ts,List.take_take,VH,UJ (by lia)]
def spReadH (CH:Addr):Sp:=fun vs H Q _=>∃(p:Addr) (b:Sy23.B),vs=[.ref p]/\H p=some (.lst (LN b))/\b.length=128/\Ol b/\(OO b 0=0->∀H',ZA H H'->Q .non H')/\
 (OO b 0≠0->∀(H':Hp) (a dx sa:Addr),ZA H H'->H a=none->H sa=none->H' a=some (hoR CH dx sa (hOf b) (eOf b))->H' sa=some (.lst (LN (hOf b).secret))->Q (.ref a) H')
theorem Je:Zs ["row","secret","step","holder"] ["row"] (Zj (top 103)):=qsc
theorem ZgR (kH:Y2 K Zg) (ZcW:mg "Holder"=some (.ref Zg)) (R:Raw K mg "read_holder" "read_holder" (top 103) ["row"]) (ZD:Zh P w K mg base 1 "number_low_first" ["row"] (Zei K)) (Wg:XC P w K mg base 1 Zg ["self","secret","step","digits","first","floor"] (Zgs Zg)):Zh P w K mg base 3 "read_holder" ["row"] (spReadH Zg):=by
 refine R.callee Je (fun vs H Q E h=>?_) (fun f cdv A outer s H vs Q E hr h=>?_)
 ·walk_at "ln"
 obtain ⟨p,b,rfl,hp,hl,hB,qn,qs⟩:=h
 obtain ⟨k0,k1,k2,k3,k4,k5,k6,k7,k8⟩:=kH
 refine ⟨_,(Zb (ZM (ZP XW (Zy (Zv K) (pv 0) (Zi 0)) (Zi 0) (ZR _)) (Zd (Zk Qe)) Zx) (Zb (Zq 1 Je.nd (YI (YK K) (pv 0) (Wd (Zi 40)) (Wd (Zf Z7 (Zi 40) (Zy (Zv K) (pv 0) (Zi 3)))))) (Zb (Zq 2 Je.nd (Ze ZD hr (Za (YI (YK K) (pv 0) (Wd (Zi 4)) (Wd (Zi 8))) Zc))) (Zb (Zq 3 Je.nd (Zaq ZcW Wg hr (Za (pv 1) (Za (pv 2) (Za (Zy (Zv K) (pv 0) (Zi 2)) (Za (Ze ZD hr (Za (YI (YK K) (pv 0) (Wd (Zi 8)) (Wd (Zi 16))) Zc)) (Za (Ze ZD hr (Za (YI (YK K) (pv 0) (Wd (Zi 32)) (Wd (Zi 40))) Zc)) Zc))))))) (Zb (Z1 K (pv 3) (Ze ZD hr (Za (YI (YK K) (pv 0) (Wd (Zi 16)) (Wd (Zi 20))) Zc))) (Zb (Z1 K (pv 3) (Ze ZD hr (Za (YI (YK K) (pv 0) (Wd (Zi 20)) (Wd (Zi 24))) Zc))) (Zb (Z1 K (pv 3) (Ze ZD hr (Za (YI (YK K) (pv 0) (Wd (Zi 24)) (Wd (Zi 32))) Zc))) (Zd (Zk (pv 3)))))))))),?_⟩
 refine Zo (σ':=[some (.ref p),none,none,none]) rfl ?_
 nofun
 rotate_left 1
 ·simp [*]
 refine dif (fun g=>?_) (fun g=>?_)
 ·nofun
  exact qn g _ (Zl _)
 nofun
 rotate_left 1
 ·simp [*]
 refine Wr (SqL.of hp) fun sa hsa=>?_
 obtain ⟨H1,e1,t1,-,s1,-⟩:=YJ (.lst (LN (Oh b 40 (OO b 3)))) (Zl H) hsa
 rw [show upd H sa (.lst (LN (Ub (40 + b.getD 3 0 - 40) (Ua 40 b))))=H1 by rw [UH]; exact e1]
 nofun
 refine Wr (SqL.of (t1 _ _ hp)) fun z hz=>?_
 obtain ⟨H2,eH2,t2,kH2,zH2,-⟩:=YJ (.lst (LN (Oh b 4 4))) t1 hz
 rw [show upd H1 z (.lst (LN (Ub (8 - 4) (Ua 4 b))))=H2 from eH2]
 nofun
 refine ⟨z,_,rfl,SqL.of zH2,Yj hB _ _,OD (WY _ _ _) (by decide),fun H3 kH3=>?_⟩
 have t3:=t2.trans kH3
 have p3:=t3 _ _ hp
 nofun
 rotate_left 1
 ·simp [*]
 refine Wr (SqL.of (t3 _ _ hp)) fun z hz=>?_
 obtain ⟨H4,eH4,t4,kH4,zH4,-⟩:=YJ (.lst (LN (Oh b 8 8))) t3 hz
 rw [show upd H3 z (.lst (LN (Ub (16 - 8) (Ua 8 b))))=H4 from eH4]
 nofun
 refine ⟨z,_,rfl,SqL.of zH4,Yj hB _ _,OD (WY _ _ _) (by decide),fun H5 kH5=>?_⟩
 have t5:=t4.trans kH5
 nofun
 refine Wr (SqL.of (t5 _ _ hp)) fun z hz=>?_
 obtain ⟨H6,eH6,t6,kH6,zH6,-⟩:=YJ (.lst (LN (Oh b 32 8))) t5 hz
 rw [show upd H5 z (.lst (LN (Ub (40 - 32) (Ua 32 b))))=H6 from eH6]
 nofun
 refine ⟨z,_,rfl,SqL.of zH6,Yj hB _ _,OD (WY _ _ _) (by decide),fun H7 kH7=>?_⟩
 have t7:=t6.trans kH7
 nofun
 intro a dy hna hdy nay
 have a0:H a=none:=t7.free hna
 have s7:H7 sa=some (.lst (LN (Oh b 40 (OO b 3)))):=kH7 _ _ (kH6 _ _ (kH5 _ _ (kH4 _ _ (kH3 _ _ (kH2 _ _ s1)))))
 have nsa:sa≠a:=Zu s7 hna
 obtain ⟨H8,e8⟩:∃H8,H8=upd H7 dy (.own a):=⟨_,rfl⟩
 have k8':ZA H7 H8:=by rw [e8]; exact Zz (Zl _) hdy
 rw [<- e8]
 refine ⟨a,dy,sa,_,_,_,_,Oh b 40 (OO b 3),rfl,Zn,rfl,?_⟩
 rw [Jf]
 obtain ⟨H9,e9,t9,a9,b9⟩:=set3 (hoO Zg dy sa ⟨Oh b 40 (OO b 3),Oi (Oh b 4 4),OO b 2,Oi (Oh b 8 8),0,0,false,Oi (Oh b 32 8)⟩) (t7.trans k8') a0
 rw [show upd H8 a (hoO Zg dy sa ⟨Oh b 40 (OO b 3),Oi (Oh b 4 4),b.getD 2 0,Oi (Oh b 8 8),0,0,false,Oi (Oh b 32 8)⟩)=H9 from e9]
 have s9:=b9 _ _ nsa (k8' _ _ s7)
 nofun
 refine Wr (SqL.of (t9 _ _ hp)) fun z hz=>?_
 obtain ⟨HA,eHA,tA,kHA,zHA,-⟩:=YJ (.lst (LN (Oh b 16 4))) t9 hz
 rw [show upd H9 z (.lst (LN (Ub (20 - 16) (Ua 16 b))))=HA from eHA]
 nofun
 refine ⟨z,_,rfl,SqL.of zHA,Yj hB _ _,OD (WY _ _ _) (by decide),fun HB kHB=>?_⟩
 have tB:=tA.trans kHB
 have aB:=kHB _ _ (kHA _ _ a9)
 have sB:=kHB _ _ (kHA _ _ s9)
 nofun
 obtain ⟨HC,eC,tC,aC,bC⟩:=set3 (.ins Zg dy [("secret",.ref sa),("step",N_ (Oi (Oh b 4 4))),("digits",N_ (OO b 2)),("counter",N_ (Oi (Oh b 8 8))),("failed",N_ (Oi (Oh b 16 4))),("until",N_ 0),("earned",N_ 0),("floor",N_ (Oi (Oh b 32 8)))]) tB a0
 rw [show upd HB a (.ins Zg dy (X5 "failed" (N_ (Oi (Oh b 16 4))) [("secret",.ref sa),("step",N_ (Oi (Oh b 4 4))),("digits",N_ (OO b 2)),("counter",N_ (Oi (Oh b 8 8))),("failed",N_ 0),("until",N_ 0),("earned",N_ (if false=true then 1 else 0)),("floor",N_ (Oi (Oh b 32 8)))]))=HC from eC]
 have sC:=bC _ _ nsa sB
 refine Wr (SqL.of (tC _ _ hp)) fun z hz=>?_
 obtain ⟨HD,eHD,tD,kHD,zHD,-⟩:=YJ (.lst (LN (Oh b 20 4))) tC hz
 rw [show upd HC z (.lst (LN (Ub (24 - 20) (Ua 20 b))))=HD from eHD]
 nofun
 refine ⟨z,_,rfl,SqL.of zHD,Yj hB _ _,OD (WY _ _ _) (by decide),fun HE kHE=>?_⟩
 have tE:=tD.trans kHE
 have aE:=kHE _ _ (kHD _ _ aC)
 have sE:=kHE _ _ (kHD _ _ sC)
 nofun
 obtain ⟨HF,eF,tF,aF,bF⟩:=set3 (.ins Zg dy [("secret",.ref sa),("step",N_ (Oi (Oh b 4 4))),("digits",N_ (OO b 2)),("counter",N_ (Oi (Oh b 8 8))),("failed",N_ (Oi (Oh b 16 4))),("until",N_ 0),("earned",N_ (Oi (Oh b 20 4))),("floor",N_ (Oi (Oh b 32 8)))]) tE a0
 rw [show upd HE a (.ins Zg dy (X5 "earned" (N_ (Oi (Oh b 20 4))) [("secret",.ref sa),("step",N_ (Oi (Oh b 4 4))),("digits",N_ (OO b 2)),("counter",N_ (Oi (Oh b 8 8))),("failed",N_ (Oi (Oh b 16 4))),("until",N_ 0),("earned",N_ 0),("floor",N_ (Oi (Oh b 32 8)))]))=HF from eF]
 have sF:=bF _ _ nsa sE
 refine Wr (SqL.of (tF _ _ hp)) fun z hz=>?_
 obtain ⟨HG,eHG,tG,kHG,zHG,-⟩:=YJ (.lst (LN (Oh b 24 8))) tF hz
 rw [show upd HF z (.lst (LN (Ub (32 - 24) (Ua 24 b))))=HG from eHG]
 nofun
 refine ⟨z,_,rfl,SqL.of zHG,Yj hB _ _,OD (WY _ _ _) (by decide),fun HH kHH=>?_⟩
 have tH:=tG.trans kHH
 have aH:=kHH _ _ (kHG _ _ aF)
 have sH:=kHH _ _ (kHG _ _ sF)
 nofun
 refine qs g _ a dy sa (Zz tH a0) a0 hsa ?_ ?_
 ·rw [Zn]
  rfl
 ·rw [ZN nsa]
  exact sH
theorem rd_break {D:Zah} {σ:St} {H:Hp} (h:D.bk σ H):tBreak D σ H:=h
def rLenT (K:Oa) (vs:List V) (H:Hp) (Q:VK):Prop:=∃(p:Addr) (l:List Nat),vs=[.ref p]/\Tab K p l/\Q (N_ l.length) H
theorem call_lenT {X:Cx} (K:Oa) (h:X.K=K:=by rfl):WZ X (.builtin "len") (rLenT K):=by
 subst h
 exact Jq ZdS fun xs H Q ⟨p,l,h1,h2,q⟩=>⟨p,LN l,h1,.inr (h2 H),by rw [Od]; exact q⟩
def ZbY (b:Sy23.B) (start i:Nat):Nat×Nat:=(Oi (Oh b (start + 16 * i) 8),Oi (Oh b (start + 16 * i + 8) 8))
def QC (b:Sy23.B) (start:Nat):List (Nat×Nat):=((Ob 256).map fun i=>ZbY b start i).takeWhile fun x=>x.1 != 0
theorem Zem {α:Type} (p:α->Bool):∀(l:List α) (i:Nat),(∀j x,j < i->l[j]?=some x->p x=true)->(∀x,l[i]?=some x->p x=false)->l.takeWhile p=l.take i
 | [],i,_,_=>by simp
 | x :: l,0,_,h=>by
  rw [VG,h x rfl]
  rfl
 | x :: l,i + 1,h1,h2=>by
  rw [VG,h1 0 x (by simp) rfl,List.take_succ_cons]
  simp only [if_true]
  rw [Zem p l i (fun j y hj e=>h1 (j + 1) y (by exact qw40) e) fun y e=>h2 y e]
def spReadL:Sp:=fun vs H Q _=>∃(p:Addr) (b:Sy23.B) (start:Nat),vs=[.ref p,N_ start]/\H p=some (.lst (LN b))/\Ol b/\∀(H':Hp) (q:Addr) (ts:List Addr),ZA H H'->H q=none->H' q=some (.lst (ts.map V.ref))->XY H' (fun t=>H t=none) ts (QC b start)->Q (.ref q) H'
theorem J6:Zs ["row","start","taken","entry","number"] ["row","start"] (Zj (top 104)):=qsc
theorem c_read_list (B:Blt mg) (J0:ZU mg "ENTRY_SIZE" 16) (Wj:ZU mg "LIST_PLACES" 256) (R:Raw K mg "read_list" "read_list" (top 104) ["row","start"]) (ZD:Zh P w K mg base 1 "number_low_first" ["row"] (Zei K)) (Jo:Zh P w K mg base 1 "parts_of" ["row","start","size","count"] spParts):Zh P w K mg base 2 "read_list" ["row","start"] spReadL:=by
 refine R.callee J6 (fun vs H Q E h=>?_) (fun f cdv A outer s H vs Q E hr h=>?_)
 ·walk_at "ln"
 obtain ⟨p,b,start,rfl,hp,hB,q⟩:=h
 refine ⟨_,(Zb (Zq 2 J6.nd (ZH Zc)) (Zb (Xx PassesOwn.never rfl (YW K (Ze Jo hr (Za (pv 0) (Za (pv 1) (Za (ZT J0) (Za (ZT Wj) Zc)))))) (ZW 3 J6.nd) (Zb (Zq 4 J6.nd (Ze ZD hr (Za (YI (YK K) (pv 3) (Wd (Zi 0)) (Wd (Zi 8))) Zc))) (Zb (ZM (ZP XW (pv 4) (Zi 0) (ZR _)) (Zd ps_break) Zx) (Zd (Xh (Ji OH PySem.F.slot_list_append PySem.F.type_list_append Zbd (pv 2) (Za (pe_tup (Za (pv 4) (Za (Ze ZD hr (Za (YI (YK K) (pv 3) (Wd (Zi 8)) (Wd (Zi 16))) Zc)) Zc))) Zc))))))) (Zd (Zk (pv 2))))),?_⟩
 refine Zo (σ':=[some (.ref p),some (N_ start),none,none,none]) rfl ?_
 nofun
 refine ⟨Zp (by simp),fun D hD=>?_⟩
 obtain ⟨H1,e1,t1,-,d1,-⟩:=YJ (.lst []) (Zl H) hD
 rw [e1]
 nofun
 refine ⟨p,b,start,16,256,rfl,t1 _ _ hp,by decide,by decide,fun H2 ql qs k2 n2 h2 hq hqs=>?_⟩
 have t2:=t1.trans k2
 have d2:=k2 _ _ d1
 have nql:ql≠D:=(Zu d1 n2).symm
 have nz:∀(j:Nat) (z:Addr),qs[j]?=some z->z≠D:=fun j z e=>(Zu d1 (hqs j z e).1).symm
 nofun
 refine YX (SqL.of h2) ?_
 have ge:∀i,i < 256->((Ob 256).map fun i=>ZbY b start i)[i]?=some (ZbY b start i):=fun i hi=>by
  rw [OP,Ud hi]; rfl
 have fin:∀(i:Nat) (H':Hp) (ts:List Addr),i<=256->ZA H H'->H' D=some (.lst (ts.map V.ref))->XY H' (fun t=>H t=none) ts (((Ob 256).map fun i=>ZbY b start i).take i)->(∀j,j < i->(ZbY b start j).1≠0)->(i < 256->(ZbY b start i).1=0)->Q (.ref D) H':=fun i H' ts hi t' d' en h1 h2=>by
  refine q H' D ts t' hD d' ?_
  unfold QC
  rw [Zem _ _ i (fun j x hj e=>?_) fun x e=>?_]
  ·exact en
  ·rw [ge j (by exact qw2)] at e
   rw [<- Option.some.inj e]
   exact bne_iff_ne.mpr (h1 j hj)
  ·by_cases hlt:i < 256
   ·rw [ge i hlt] at e
    rw [<- Option.some.inj e,h2 hlt]
    rfl
   ·rw [UA (by rw [Od,OL]; exact qw6)] at e
    exact absurd e (by simp)
 have en0:XY H2 (fun t=>H t=none) [] (((Ob 256).map fun i=>ZbY b start i).take 0):=⟨rfl,fun j t e h=>by simp at h⟩
 refine ZeJ (K:=K) (a:=ql) (xs:=qs.map V.ref) (fun i σ H'=>ZA H H'/\But D H2 H'/\(∀j,j < i->(ZbY b start j).1≠0)/\∃(ts:List Addr) (v v':Option V),H' D=some (.lst (ts.map V.ref))/\XY H' (fun t=>H t=none) ts (((Ob 256).map fun i=>ZbY b start i).take i)/\σ=[some (.ref p),some (N_ start),some (.ref D),v,v']) ⟨t2,But.refl _ _,fun j hj=>absurd hj (Tj j),[],none,none,d2,en0,rfl⟩ (fun i σ H' _ ⟨_,b',_⟩=>SqL.of (b' _ _ nql h2)) ?_ ?_
 ·rintro i y σ H3 hy ⟨t3,b3,hnz,ts,v,v',d3,en,rfl⟩
  have hiq:i < qs.length:=by
   have:=(OB.mp hy).1
   rwa [Od] at this
  have hi:i < 256:=by exact qw34
  obtain ⟨z,ez⟩:∃z,qs[i]?=some z:=⟨_,Of hiq⟩
  have ey:y=.ref z:=by
   rw [OP,ez] at hy
   exact (Option.some.inj hy).symm
  subst ey
  obtain ⟨z0,zl,zr⟩:=hqs i z ez
  have nzD:=nz i z ez
  have z3:=b3 _ _ nzD zr
  have hlt:ts.length<=256:=by
   rw [en.len,OM]
   lia
  nofun
  refine Wr (SqL.of z3) fun u hu=>?_
  obtain ⟨H4,e4,t4,k4,u4,-⟩:=YJ (.lst (LN (Oh b (start + 16 * i) 8))) t3 hu
  rw [show upd H3 u (.lst (LN (Ub (8 - 0) (Ua 0 (Oh b (start + 16 * i) 16)))))=H4 by rw [<- e4]; exact congrArg (fun l=>upd H3 u (.lst (LN l))) (part_part b (s:=start + 16 * i) (m:=16) (i:=0) (n:=8) (by decide))]
  nofun
  refine ⟨u,_,rfl,SqL.of u4,Yj hB _ _,OD (WY _ _ _) (by decide),fun H5 k5=>?_⟩
  have t5:=t4.trans k5
  have d5:=k5 _ _ (k4 _ _ d3)
  have z5:=k5 _ _ (k4 _ _ z3)
  nofun
  refine dif (fun g=>?_) (fun g=>?_)
  ·nofun
   refine rd_break ?_
   nofun
   exact fin i _ ts (by exact qw1) t5 d5 ⟨en.len,fun j t e h1 h2=>⟨(en.at_ j t e h1 h2).1,k5 _ _ (k4 _ _ (en.at_ j t e h1 h2).2)⟩⟩ hnz fun _=>g
  ·nofun
   refine ⟨Qp d5,?_⟩
   nofun
   refine Wr (SqL.of z5) fun u' hu'=>?_
   obtain ⟨H6,e6,t6,k6,u6,-⟩:=YJ (.lst (LN (Oh b (start + 16 * i + 8) 8))) t5 hu'
   rw [show upd H5 u' (.lst (LN (Ub (16 - 8) (Ua 8 (Oh b (start + 16 * i) 16)))))=H6 by rw [<- e6]; exact congrArg (fun l=>upd H5 u' (.lst (LN l))) (part_part b (s:=start + 16 * i) (m:=16) (i:=8) (n:=8) (by decide))]
   nofun
   refine ⟨u',_,rfl,SqL.of u6,Yj hB _ _,OD (WY _ _ _) (by decide),fun H7 k7=>?_⟩
   have t7:=t6.trans k7
   have d7:=k7 _ _ (k6 _ _ d5)
   nofun
   refine ⟨Zp (by simp),fun tu htu=>?_⟩
   obtain ⟨H8,e8,t8,k8,tu8,tu0⟩:=YJ (.tup [N_ (Oi (Oh b (start + 16 * i) 8)),N_ (Oi (Oh b (start + 16 * i + 8) 8))]) t7 htu
   rw [e8]
   have d8:=k8 _ _ d7
   nofun
   refine Zga d8 (by rw [Od]; exact ZbO) ?_
   have ntu:tu≠D:=(Zu d7 htu).symm
   have b9:But D H2 (upd H8 D (.lst (ts.map V.ref ++ [V.ref tu]))):=(((((b3.trans (ZA.but k4)).trans (ZA.but k5)).trans (ZA.but k6)).trans (ZA.but k7)).trans (ZA.but k8)).at_
   have kk:∀c xs,H3 c=some (.tup xs)->upd H8 D (.lst (ts.map V.ref ++ [V.ref tu])) c=some (.tup xs):=fun c xs hc=>by
    have nc:c≠D:=fun z=>by rw [z,d3] at hc; simp at hc
    rw [ZN nc]
    exact k8 _ _ (k7 _ _ (k6 _ _ (k5 _ _ (k4 _ _ hc))))
   refine ⟨Zz t8 hD,b9,fun j hj=>?_,ts ++ [tu],_,_,by rw [Zn,Ih]; rfl,?_,rfl⟩
   ·by_cases ej:j=i
    ·rw [ej]; exact g
    ·exact hnz j (by lia)
   ·have et:((Ob 256).map fun i=>ZbY b start i).take (i + 1)=((Ob 256).map fun i=>ZbY b start i).take i ++ [ZbY b start i]:=by
     rw [Vd,ge i hi]; rfl
    rw [et]
    exact en.snoc (fun _ z=>z) kk tu0 (by rw [ZN ntu]; exact tu8)
 ·rintro σ H3 ⟨t3,b3,hnz,ts,v,v',d3,en,rfl⟩
  rw [Od,hq] at hnz en
  nofun
  exact fin 256 _ ts (Oq _) t3 d3 en hnz fun h=>absurd h (Im _)
section
variable {te:TE} {σ:St} {H1:Hp} {Qd:Addr->Hp->Prop}
theorem lc_invS {J:It} {n k:Nat} {y:Nat->V} (S:ZdL H1 J n y) (Iv:Addr->Nat->List V->Hp->Prop) (hn:n<=sizeLine) (h0:∀D,H1 D=none->Iv D 0 [] (upd H1 D (.lst [])))
 (hsm:∀D i acc H,H1 D=none->Iv D i acc H->ZA H1 H) (hl:∀D i acc H,Iv D i acc H->acc.length=i)
 (hf:∀(D:Addr) (j:Nat) (acc:List V) (H:Hp) (R:VK),j < n->H1 D=none->Iv D j acc H->(∀x H4,H4 D=some (.lst acc)->Iv D (j + 1) (acc ++ [x]) (upd H4 D (.lst (acc ++ [x])))->R x H4)->te ((σ.set k none).set k (some (y j))) H R)
 (hq:∀(D:Addr) (acc:List V) (H':Hp),H1 D=none->Iv D n acc H'->Qd D H') :
 ∀D,H1 D=none->∃W:Nat->Nat->Hp->Prop,(∃m,W 0 m (upd H1 D (.lst [])))/\∀i m H,W i m H->
  (J.stop i H/\Qd D H)∨(J.go i H/\∃Nx:Hp->Prop,(∀H',Nx H'->∃m',m' < m/\W (i + 1) m' H')/\∀x H',J.yld i H x H'->JX k x (X6 σ [k]) H' fun σ2 H2=>X6 σ2 [k]=X6 σ [k]/\tYes σ2 H2 fun b H3=>
   if b=true then te σ2 H3 fun y H4=>∃acc,H4 D=some (.lst acc)/\acc.length < sizeLine/\Nx (upd H4 D (.lst (acc ++ [y]))) else Nx H3):=by
 intro D hD
 refine ⟨fun i m H=>m=n - i/\i<=n/\∃acc,Iv D i acc H,⟨n,by simp,Ib _,[],h0 D hD⟩,?_⟩
 rintro i m H ⟨rfl,hi,acc,iv⟩
 have sm:=hsm D i acc H hD iv
 by_cases hlt:i < n
 ·refine .inr ⟨S.go i H sm hlt,fun H'=>∃acc,Iv D (i + 1) acc H',fun H' p'=>⟨n - (i + 1),by omega,rfl,hlt,p'⟩,fun x H' hy=>?_⟩
  obtain ⟨e,e2⟩:=S.yld i H x H' sm hlt hy
  subst e e2
  refine ⟨?_,?_⟩
  ·show ((σ.set k none).set k _).set k none=σ.set k none
   rw [IE,IE]
  ·unfold tYes
   refine YV ?_
   have ha:=hl D i acc _ iv
   exact hf D i acc _ _ hlt hD iv fun x H4 h4 iv4=>⟨acc,h4,by lia,_,iv4⟩
 ·have e:i=n:=by lia
  subst e
  exact .inl ⟨S.stop i H sm (Oq _),hq D acc H hD iv⟩
end
def Zak (CH:Addr) (H:Hp) (N:Addr->Prop) (v:V) (pb:Sy23.B):Prop:=
 (v=.non/\OO pb 0=0)∨∃a dx sa:Addr,v=.ref a/\OO pb 0≠0/\N a/\N sa/\H a=some (hoR CH dx sa (hOf pb) (eOf pb))/\H sa=some (.lst (LN (hOf pb).secret))
structure Zew (CH:Addr) (H:Hp) (N:Addr->Prop) (vs:List V) (b:Sy23.B):Prop where
 at_:∀(i:Nat) (v:V),vs[i]?=some v->Zak CH H N v (Oh b (16 + 128 * i) 128)
 inj:∀(i j:Nat) (a:Addr),vs[i]?=some (V.ref a)->vs[j]?=some (V.ref a)->i=j
structure ZfI (CS CH:Addr) (H:Hp) (ha:Addr) (b:Sy23.B) (N:Addr->Prop) (dx ka hl tl:Addr) (vs:List V) (ts:List Addr):Prop where
 na:N ha
 nh:N hl
 nt:N tl
 n3:hl≠tl
 o:H ha=some (hsO CS dx ka hl tl (Oi (Oh b 8 8)))
 hs:H hl=some (.lst vs)
 len:vs.length=64
 tk:H tl=some (.lst (ts.map V.ref))
 pl:Zew CH H (fun c=>N c/\c≠hl/\c≠tl) vs b
 en:XY H N ts (QC b 8208)
theorem Zak.to {CH:Addr} {H H':Hp} {N N':Addr->Prop} {v:V} {pb:Sy23.B} (p:Zak CH H N v pb) (h1:∀c C dx sa x e,N c->H c=some (hoR C dx sa x e)->N' c/\H' c=some (hoR C dx sa x e)) (h2:∀c l,N c->H c=some (.lst l)->N' c/\H' c=some (.lst l)):Zak CH H' N' v pb:=by
 rcases p with p | ⟨a,dx,sa,e1,e2,n1,n2,g1,g2⟩
 ·exact .inl p
 ·exact .inr ⟨a,dx,sa,e1,e2,(h1 _ _ _ _ _ _ n1 g1).1,(h2 _ _ n2 g2).1,(h1 _ _ _ _ _ _ n1 g1).2,(h2 _ _ n2 g2).2⟩
def Zfe (CS CH:Addr):Sp:=fun vs H Q _=>∃(kp rp:Addr) (b:Sy23.B),vs=[.ref kp,.ref rp]/\H rp=some (.lst (LN b))/\b.length=12304/\Ol b/\∀(H':Hp) (ha dx hl tl:Addr) (vs:List V) (ts:List Addr),ZA H H'->ZfI CS CH H' ha b (fun c=>H c=none) dx kp hl tl vs ts->Q (.ref ha) H'
theorem Qq:Zs ["key","row","start","house","part"] ["key","row"] (Zj (top 105)):=qsc
theorem c_read_house (B:Blt mg) (T_HEAD:∃a,mg "HEAD"=some (.ref a)/\Tab K a [83,89,50,51,0,0,0,0]) (Wi:ZU mg "HOLDER_SIZE" 128) (Zaj:ZU mg "PLACES" 64) (kS:Wn K Zm) (Zd5:mg "House"=some (.ref Zm)) (R:Raw K mg "read_house" "read_house" (top 105) ["key","row"]) (ZD:Zh P w K mg base 1 "number_low_first" ["row"] (Zei K)) (Jo:Zh P w K mg base 1 "parts_of" ["row","start","size","count"] spParts) (ZaW:Zh P w K mg base 3 "read_holder" ["row"] (spReadH Zg)) (Zb4:Zh P w K mg base 2 "read_list" ["row","start"] spReadL)
 (WN:XC P w K mg base 1 Zm ["self","key"] (spHouse Zm)):Zh P w K mg base 4 "read_house" ["key","row"] (Zfe Zm Zg):=by
 refine R.callee Qq (fun vs H Q E h=>?_) (fun f cdv A outer s H vs Q E hr h=>?_)
 ·walk_at "ln"
 obtain ⟨kp,rp,b,rfl,hrp,hbl,hB,q⟩:=h
 obtain ⟨s0,s1,s2,s3,s4⟩:=kS
 obtain ⟨ad,G_HEAD,hT⟩:=T_HEAD
 refine ⟨_,(Zb (Zq 2 Qq.nd (Zf Z7 (ZL (call_lenT K) rfl B.len Ox (Za (Ye G_HEAD) Zc)) (Zi 8))) (Zb (Zq 3 Qq.nd (Zaq Zd5 WN hr (Za (pv 0) Zc))) (Zb (Z1 K (pv 3) (Ze ZD hr (Za (YI (YK K) (pv 1) (Wd (ZL (call_lenT K) rfl B.len Ox (Za (Ye G_HEAD) Zc))) (Wd (pv 2))) Zc))) (Zb (Z1 K (pv 3) (Zbf rfl Qq.nd (YW K (Ze Jo hr (Za (pv 1) (Za (pv 2) (Za (ZT Wi) (Za (ZT Zaj) Zc)))))) (Y7 (own:=[("part",4)]) rfl) (fun _ _ _ _ _=>(ZW 4 Qq.nd)) (fun _ _ _ _ _=>Wc) (fun _ _ _ _ _=>(Ze ZaW hr (Za (pv 4) Zc))))) (Zb (Z1 K (pv 3) (Ze Zb4 hr (Za (pv 1) (Za (Zf Z7 (pv 2) (Zf Q8 (ZT Wi) (ZT Zaj))) Zc)))) (Zd (Zk (pv 3)))))))),?_⟩
 refine Zo (σ':=[some (.ref kp),some (.ref rp),none,none,none]) rfl ?_
 nofun
 refine ⟨ad,_,rfl,hT,?_⟩
 rw [show ([83,89,50,51,0,0,0,0]:List Nat).length=8 from rfl]
 nofun
 intro ha dx hna hdx nax
 obtain ⟨H1,e1⟩:∃H1,H1=upd (upd H dx (.own ha)) ha (.ins Zm dx []):=⟨_,rfl⟩
 have t1:ZA H H1:=by rw [e1]; exact Zz (Zz (Zl _) hdx) hna
 have a1:H1 ha=some (.ins Zm dx []):=by rw [e1]; exact Zn
 rw [<- e1]
 refine ⟨ha,dx,kp,rfl,a1,fun H2 hl0 tl0 b2 n1 n2 n3 h2 l2 l3=>⟨rfl,?_⟩⟩
 have t2:ZA H H2:=fun c o hc=>b2 _ _ (Zu hc hna) (t1 _ _ hc)
 nofun
 refine ⟨ad,_,rfl,hT,?_⟩
 rw [show ([83,89,50,51,0,0,0,0]:List Nat).length=8 from rfl]
 nofun
 refine Wr (SqL.of (t2 _ _ hrp)) fun z hz=>?_
 obtain ⟨H3,e3,t3,k3,z3,-⟩:=YJ (.lst (LN (Oh b 8 8))) t2 hz
 rw [show upd H2 z (.lst (LN (Ub (8 + 8 - 8) (Ua 8 b))))=H3 from e3]
 nofun
 refine ⟨z,_,rfl,SqL.of z3,Yj hB _ _,OD (WY _ _ _) (by decide),fun H4 k4=>?_⟩
 have t4:=t3.trans k4
 have a4:=k4 _ _ (k3 _ _ h2)
 nofun
 obtain ⟨nn,enn⟩:∃nn,nn=Oi (Oh b 8 8):=⟨_,rfl⟩
 rw [<- enn]
 obtain ⟨H5,e5,t5,a5,b5⟩:=set3 (hsO Zm dx kp hl0 tl0 nn) t4 hna
 rw [show upd H4 ha (.ins Zm dx (X5 "number" (N_ nn) [("key",.ref kp),("number",N_ 1),("holders",.ref hl0),("taken",.ref tl0)]))=H5 from e5]
 refine ⟨rp,b,16,128,64,rfl,t5 _ _ hrp,by decide,by decide,fun H6 ql qs k6 n6 h6 hq hqs=>?_⟩
 have t6:=t5.trans k6
 have a6:=k6 _ _ a5
 nofun
 refine YX (SqL.of h6) ?_
 have hlen:(qs.map V.ref).length=64:=by rw [Od]; exact hq
 refine lc_invS (Zaw (SqL.of h6)) (fun D j acc H'=>ZA H6 H'/\H' D=some (.lst acc)/\acc.length=j/\Zew Zg H' (fun c=>H c=none/\c≠D) acc b) (Zp (by rw [hlen]; decide)) ?_ ?_ ?_ ?_ ?_
 ·intro D hD
  exact ⟨Zz (Zl _) hD,Zn,rfl,⟨fun i v e=>by simp at e,fun i j a e=>by simp at e⟩⟩
 ·rintro D i acc H' _ ⟨h,_⟩
  exact h
 ·rintro D i acc H' ⟨_,_,h,_⟩
  exact h
 ·rintro D j acc H7 R hj hD ⟨k7,d7,hal,rp7⟩ hR
  rw [hlen] at hj
  obtain ⟨z,ez⟩:∃z,qs[j]?=some z:=⟨_,Of (by simp [*])⟩
  have ey:(qs.map V.ref).getD j .non=.ref z:=by
   rw [Oe,OP,ez]; rfl
  rw [ey]
  dsimp only [Iy]
  obtain ⟨z0,zl,zr⟩:=hqs j z ez
  have t7:=t6.trans k7
  have t0D:H D=none:=t6.free hD
  nofun
  have up:∀(H8:Hp) (x:V),ZA H7 H8->(Zak Zg H8 (fun c=>H c=none/\c≠D) x (Oh b (16 + 128 * j) 128))->(∀(a:Addr) (i:Nat),x=V.ref a->acc[i]?≠some (V.ref a))->ZA H6 (upd H8 D (.lst (acc ++ [x])))/\upd H8 D (.lst (acc ++ [x])) D=some (.lst (acc ++ [x]))/\(acc ++ [x]).length=j + 1/\Zew Zg (upd H8 D (.lst (acc ++ [x]))) (fun c=>H c=none/\c≠D) (acc ++ [x]) b:=fun H8 x k8 hx hnew=>by
   have tod:∀v pb,Zak Zg H8 (fun c=>H c=none/\c≠D) v pb->Zak Zg (upd H8 D (.lst (acc ++ [x]))) (fun c=>H c=none/\c≠D) v pb:=fun v pb h=>h.to (fun c C dx sa y e n g=>⟨n,by rw [ZN n.2]; exact g⟩) (fun c l n g=>⟨n,by rw [ZN n.2]; exact g⟩)
   refine ⟨Zz (k7.trans k8) hD,Zn,by rw [Og,hal]; rfl,⟨fun i v e=>?_,fun i i' a e e'=>?_⟩⟩
   ·by_cases hi:i < acc.length
    ·rw [OZ hi] at e
     exact tod _ _ ((rp7.at_ i v e).to (fun c C dx sa y e n g=>⟨n,k8 _ _ g⟩) (fun c l n g=>⟨n,k8 _ _ g⟩))
    ·rw [Ic (by exact qw6)] at e
     cases hm:i - acc.length with
     | zero=>
      rw [hm] at e
      have ex:x=v:=by simpa using e
      have ei:i=j:=by lia
      rw [<- ex,ei]
      exact tod _ _ hx
     | succ m=>rw [hm] at e; simp at e
   ·by_cases hi:i < acc.length
    ·by_cases hi':i' < acc.length
     ·rw [OZ hi] at e
      rw [OZ hi'] at e'
      exact rp7.inj i i' a e e'
     ·rw [OZ hi] at e
      rw [Ic (by exact qw6)] at e'
      cases hm:i' - acc.length with
      | zero=>rw [hm] at e'; exact absurd e (hnew a i (by simpa using e'))
      | succ m=>rw [hm] at e'; simp at e'
    ·by_cases hi':i' < acc.length
     ·rw [Ic (by exact qw6)] at e
      rw [OZ hi'] at e'
      cases hm:i - acc.length with
      | zero=>rw [hm] at e; exact absurd e' (hnew a i' (by simpa using e))
      | succ m=>rw [hm] at e; simp at e
     ·have l1:=(OB.mp e).1
      have l2:=(OB.mp e').1
      rw [Og,Uk] at l1 l2
      lia
  refine ⟨z,_,rfl,k7 _ _ zr,part_len (by lia),Yj hB _ _,fun e0 H8 k8=>?_,fun e0 H8 a dy sa k8 na nsa ga gs=>?_⟩
  ·exact hR _ _ (k8 _ _ d7) (up H8 .non k8 (.inl ⟨rfl,e0⟩) fun a i h=>V.noConfusion h)
  ·have nD:∀c,H7 c=none->H c=none/\c≠D:=fun c hc=>⟨t7.free hc,(Zu d7 hc).symm⟩
   refine hR _ _ (k8 _ _ d7) (up H8 (.ref a) k8 (.inr ⟨a,dy,sa,rfl,e0,nD a na,nD sa nsa,ga,gs⟩) fun a' i h e=>?_)
   have ea:a=a':=V.ref.inj h
   subst ea
   rcases rp7.at_ i _ e with ⟨z1,_⟩ | ⟨a2,d2,s2,z1,-,-,-,g1,-⟩
   ·exact absurd z1 (by simp)
   ·rw [<- V.ref.inj z1,na] at g1
    exact absurd g1 (by simp)
 ·rintro D acc H7 hD ⟨k7,d7,hal,rp7⟩
  have t7:=t6.trans k7
  have a7:=k7 _ _ a6
  have hD0:H D=none:=t6.free hD
  have nDa:D≠ha:=(Zu a6 hD).symm
  nofun
  obtain ⟨H8,e8,t8,a8,b8⟩:=set3 (hsO Zm dx kp D tl0 nn) t7 hna
  rw [show upd H7 ha (.ins Zm dx (X5 "holders" (V.ref D) [("key",.ref kp),("number",N_ nn),("holders",.ref hl0),("taken",.ref tl0)]))=H8 from e8]
  have d8:=b8 _ _ nDa d7
  nofun
  ·refine ⟨rp,b,8208,rfl,t8 _ _ hrp,hB,fun H9 tl ts k9 ntl htl en=>?_⟩
   have a9:=k9 _ _ a8
   have d9:=k9 _ _ d8
   have t9:=t8.trans k9
   have ntl0:H tl=none:=t8.free ntl
   have ntla:tl≠ha:=(Zu a8 ntl).symm
   have nDt:D≠tl:=Zu d8 ntl
   nofun
   obtain ⟨HA,eA,tA,aA,bA⟩:=set3 (hsO Zm dx kp D tl nn) t9 hna
   rw [show upd H9 ha (.ins Zm dx (X5 "taken" (V.ref tl) [("key",.ref kp),("number",N_ nn),("holders",.ref D),("taken",.ref tl0)]))=HA from eA]
   rw [hlen] at hal
   have nha:∀c l,H9 c=some (.lst l)->c≠ha:=fun c l hc z=>by rw [z,a9] at hc; simp at hc
   have nhr:∀c C d s y e,H7 c=some (hoR C d s y e)->c≠ha:=fun c C d s y e hc z=>by
    rw [z,a7] at hc
    have:=HO.ins.inj (Option.some.inj hc)
    simp at this
   refine q HA ha dx D tl acc ts tA ⟨hna,hD0,ntl0,nDt,enn ▸ aA,bA _ _ nDa d9,hal,bA _ _ ntla htl,⟨fun i v e=>(rp7.at_ i v e).to (fun c C d s y e' n g=>?_) (fun c l n g=>?_),rp7.inj⟩,⟨en.len,fun i t e h1 h2'=>?_⟩⟩
   ·have g8:=b8 _ _ (nhr _ _ _ _ _ _ g) g
    exact ⟨⟨n.1,n.2,Zu g8 ntl⟩,bA _ _ (nhr _ _ _ _ _ _ g) (k9 _ _ g8)⟩
   ·have nc:c≠ha:=fun z=>by rw [z,a7] at g; simp at g
    have g8:=b8 _ _ nc g
    exact ⟨⟨n.1,n.2,Zu g8 ntl⟩,bA _ _ nc (k9 _ _ g8)⟩
   ·obtain ⟨f1,g1⟩:=en.at_ i t e h1 h2'
    have nt:t≠ha:=fun z=>by rw [z,a9] at g1; simp at g1
    exact ⟨t8.free f1,bA _ _ nt g1⟩
  all_goals decide
def Zas (x:Oy) (e n:Nat):Bool:=decide (((16<=x.secret.length/\x.secret.length<=64)/\(0<=x.step/\x.step<=3600)/\(6<=x.digits/\x.digits<=8))/\(x.next<=1152921504606847077/\x.failed<=2147483647)/\x.till<=1099511627836/\e<=1/\x.floor < n)
def ZeM (l:List (Nat×Nat)) (n:Nat):Bool:=decide (l.map (fun x=>x.1)).Nodup && l.all fun x=>decide (x.1 < n) && decide (x.2<=1099512676352)
def spCanH (CH:Addr):Sp:=fun vs H Q _=>∃(a dx sa:Addr) (x:Oy) (e n:Nat),vs=[.ref a,N_ n]/\H a=some (hoR CH dx sa x e)/\H sa=some (.lst (LN x.secret))/\Ol x.secret/\Q (.bl (Zas x e n)) H
theorem ZeV:Zs ["holder","number"] ["holder","number"] (Zj (top 106)):=qsc
theorem Zfi (ZaB:ZU mg "LAST_STEP" 3600) (Q1:ZU mg "LAST_COUNTER" 1152921504606846976) (JA:ZU mg "PAIRS_AHEAD" 100) (Jy:ZU mg "LAST_FAILED" 2147483647) (ZaC:ZU mg "LAST_TIME" (2 ^ 40)) (J1:ZU mg "LOCKED_FOR" 60) (kH:Y2 K Zg) (R:Raw K mg "can_be_holder" "can_be_holder" (top 106) ["holder","number"]) (ZI:Zh P w K mg base 1 "is_within" ["number","least","last"] WL) (Yi:Zh P w K mg base 2 "are_digits" ["digits"] (QY 6 8)) (XA:Zh P w K mg base 2 "is_secret" ["row"] (ZbR K)):Zh P w K mg base 3 "can_be_holder" ["holder","number"] (spCanH Zg):=by
 refine R.callee ZeV (fun vs H Q E h=>?_) (fun f cdv A outer s H vs Q E hr h=>?_)
 ·walk_at "ln"
 obtain ⟨a,dx,sa,x,e,n,rfl,ha,hs,hB,q⟩:=h
 obtain ⟨k0,k1,k2,k3,k4,k5,k6,k7,k8⟩:=kH
 refine ⟨_,(Zb (ZM (Y8 (PW.pt (Xd (Z0 (Ze XA hr (Za (Zt K (pv 0)) Zc))) (Xd (Z0 (Ze ZI hr (Za (Zt K (pv 0)) (Za (Zi 0) (Za (ZT ZaB) Zc))))) (XI (Z0 (Ze Yi hr (Za (Zt K (pv 0)) Zc)))))))) (Zd (Zk pe_bl)) Zx) (Zb (ZM (Y8 (PW.pt (Xd (ZP JY (Zt K (pv 0)) (Zf Z7 (Zf Z7 (ZT Q1) (ZT JA)) (Zi 1)) (ZR _)) (XI (ZP JY (Zt K (pv 0)) (ZT Jy) (ZR _)))))) (Zd (Zk pe_bl)) Zx) (Zd (Zk (JT (Wy JY (Zt K (pv 0)) (Zf Z7 (ZT ZaC) (ZT J1)) (ZR _)) (JT (Wy JY (Zt K (pv 0)) (Zi 1) (ZR _)) (ZbL (Wy Zdb (Zt K (pv 0)) (pv 1) (ZR _))))))))),?_⟩
 refine Zo (σ':=[some (.ref a),some (N_ n)]) rfl ?_
 unfold Zas at q
 nofun
 refine ⟨sa,x.secret,rfl,SqL.of hs,hB,?_⟩
 nofun
 refine dif (fun g1=>?_) (fun g1=>?_)
 case refine_2=>
  nofun
  rw [decide_eq_false (fun z=>g1 z.1.1)] at q
  exact q
 nofun
 refine ⟨x.step,0,3600,rfl,?_⟩
 nofun
 refine dif (fun g2=>?_) (fun g2=>?_)
 case refine_2=>
  nofun
  rw [decide_eq_false (fun z=>g2 z.1.2.1)] at q
  exact q
 nofun
 refine ⟨x.digits,rfl,?_⟩
 nofun
 by_cases g3:6<=x.digits/\x.digits<=8
 case neg=>
  rw [decide_eq_false g3]
  refine YV ?_
  nofun
  rw [decide_eq_false (fun z=>g3 z.1.2.2)] at q
  exact q
 rw [decide_eq_true g3]
 refine Xc ?_
 nofun
 refine dif (fun g4=>?_) (fun g4=>?_)
 case refine_2=>
  nofun
  rw [decide_eq_false (fun z=>g4 z.2.1.1)] at q
  exact q
 nofun
 by_cases g5:x.failed<=2147483647
 case neg=>
  rw [decide_eq_false g5]
  refine YV ?_
  nofun
  rw [decide_eq_false (fun z=>g5 z.2.1.2)] at q
  exact q
 rw [decide_eq_true g5]
 refine Xc ?_
 nofun
 refine dif (fun g6=>?_) (fun g6=>?_)
 case refine_2=>
  rw [decide_eq_false (fun z=>g6 z.2.2.1)] at q
  exact q
 nofun
 refine dif (fun g7=>?_) (fun g7=>?_)
 case refine_2=>
  rw [decide_eq_false (fun z=>g7 z.2.2.2.1)] at q
  exact q
 nofun
 rw [decide_eq_decide.mpr (show x.floor < n↔(((16<=x.secret.length/\x.secret.length<=64)/\(0<=x.step/\x.step<=3600)/\(6<=x.digits/\x.digits<=8))/\(x.next<=1152921504606847077/\x.failed<=2147483647)/\x.till<=1099511627836/\e<=1/\x.floor < n) from ⟨fun h=>⟨⟨g1,g2,g3⟩,⟨g4,g5⟩,g6,g7,h⟩,fun h=>h.2.2.2.2⟩)]
 exact q
theorem Zf3 (b:Sy23.B) (s:Nat):(QC b s).length<=256:=by
 unfold QC
 exact OD (List.takeWhile_sublist _).length_le (by rw [Od,OL]; exact Oq _)
def spCanL:Sp:=fun vs H Q _=>∃(tl:Addr) (ts:List Addr) (F:Addr->Prop) (l:List (Nat×Nat)) (n:Nat),vs=[.ref tl,N_ n]/\H tl=some (.lst (ts.map V.ref))/\XY H F ts l/\l.length<=256/\∀H',ZA H H'->Q (.bl (ZeM l n)) H'
theorem WJ:Zs ["taken","number","entry"] ["taken","number"] (Zj (top 107)):=qsc
theorem ZgM (B:Blt mg) (B2:Blt2 mg) (Zbw:ZU mg "LAST_END" 1099512676352) (R:Raw K mg "can_be_list" "can_be_list" (top 107) ["taken","number"]):Zh P w K mg base 1 "can_be_list" ["taken","number"] spCanL:=by
 refine R.callee WJ (fun vs H Q E h=>?_) (fun f cdv A outer s H vs Q E hr h=>?_)
 ·walk_at "ln"
 obtain ⟨tl,ts,F,l,n,rfl,ht,en,hl,q⟩:=h
 refine ⟨_,(Zb (ZM (ZP on_ne (ZL (call_lenS) rfl B.len Ox (Za (ZeS (call_setK K rfl) rfl B2.set PyProof.Rows.boot_set (Za (Zbf rfl WJ.nd (YW K (pv 0)) (Y7 (own:=[("entry",2)]) rfl) (fun _ _ _ _ _=>(ZW 2 WJ.nd)) (fun _ _ _ _ _=>Wc) (fun _ _ _ _ _=>(Zy (ZO K) (pv 2) (Zi 0)))) Zc)) Zc)) (ZL (ZQ K) rfl B.len Ox (Za (pv 0) Zc)) (ZR _)) (Zd (Zk pe_bl)) Zx) (Zd (Zk (ZL (call_allK K rfl) rfl B2.all PyProof.Rows.boot_all (Za (Zbf rfl WJ.nd (YW K (pv 0)) (Y7 (own:=[("entry",2)]) rfl) (fun _ _ _ _ _=>(ZW 2 WJ.nd)) (fun _ _ _ _ _=>Wc) (fun _ _ _ _ _=>(JT (Wy Zdb (Zy (ZO K) (pv 2) (Zi 0)) (pv 1) (ZR _)) (ZbL (Wy JY (Zy (ZO K) (pv 2) (Zi 1)) (ZT Zbw) (ZR _)))))) Zc))))),?_⟩
 refine Zo (σ':=[some (.ref tl),some (N_ n),none]) rfl ?_
 have hlen:(ts.map V.ref).length=l.length:=by rw [Od]; exact en.len
 have el:∀{β:Type} (g:Nat×Nat->β),(Ob l.length).map (fun i=>g (l.getD i (0,0)))=l.map g:=fun g=>by
  apply Ui
  ·simp
  ·intro i h1 h2
   have hi:i < l.length:=by simpa using h1
   simp only [Uj,IT,Oe,Of hi,UU]
 unfold ZeM at q
 nofun
 refine YX (SqL.of ht) ?_
 refine Js (Zaw (SqL.of ht)) (fun i=>N_ (l.getD i (0,0)).1) (Zp (by rw [hlen]; exact ZbN)) ?_ ?_
 ·intro j H2 R' hj hs hR
  obtain ⟨t,e1,-,-,g⟩:=en.get (hlen ▸ hj)
  rw [e1]
  dsimp only [Iy]
  nofun
  exact Ja (hs _ _ g) rfl (hR _ (Zl _))
 intro D H1 hD t1 hD1
 rw [hlen,show (Ob l.length).map (fun i=>N_ (l.getD i (0,0)).1)=LN (l.map fun x=>x.1) by rw [el (fun x=>N_ x.1)]; show _=VL N_ (VL _ l); rw [O8]; rfl] at hD1
 nofun
 refine ⟨D,_,rfl,SqL.of hD1,by rw [Od]; exact ZbN,fun p S m hp hm=>?_⟩
 obtain ⟨H2,e2,t2,k2,p2,-⟩:=YJ (.set S m) t1 hp
 rw [e2]
 nofun
 refine ⟨p,S,m,rfl,p2,?_⟩
 nofun
 refine ⟨tl,_,rfl,SqL.of (t2 _ _ ht),?_⟩
 rw [hlen]
 nofun
 rw [Od] at hm
 by_cases g1:m=l.length
 case neg=>
  rw [decide_eq_false g1]
  refine YV ?_
  nofun
  rw [decide_eq_false (fun z=>g1 (hm.2.mpr z))] at q
  exact q _ t2
 rw [decide_eq_true g1]
 refine Xc ?_
 rw [decide_eq_true (hm.2.mp g1),UW] at q
 nofun
 refine YX (SqL.of (t2 _ _ ht)) ?_
 refine Js (Zaw (SqL.of (t2 _ _ ht))) (fun i=>V.bl (decide ((l.getD i (0,0)).1 < n) && decide ((l.getD i (0,0)).2<=1099512676352))) (Zp (by rw [hlen]; exact ZbN)) ?_ ?_
 ·intro j H3 R' hj hs hR
  obtain ⟨t,e1,-,-,g⟩:=en.get (hlen ▸ hj)
  rw [e1]
  dsimp only [Iy]
  have g3:=hs _ _ (t2 _ _ g)
  have hR':=hR _ (Zl _)
  nofun
  refine Ja g3 rfl ?_
  nofun
  refine dif (fun y1=>?_) (fun y1=>?_)
  ·nofun
   refine Ja g3 rfl ?_
   nofun
   rw [decide_eq_true y1,UW] at hR'
   exact hR'
  ·rw [decide_eq_false y1,Vc] at hR'
   exact hR'
 intro D2 H3 hD2 k3 hD3
 rw [hlen,show (Ob l.length).map (fun i=>V.bl (decide ((l.getD i (0,0)).1 < n) && decide ((l.getD i (0,0)).2<=1099512676352)))=(l.map fun x=>decide (x.1 < n) && decide (x.2<=1099512676352)).map V.bl by rw [el (fun x=>V.bl (decide (x.1 < n) && decide (x.2<=1099512676352))),O8]; rfl] at hD3
 nofun
 refine ⟨D2,_,rfl,SqL.of hD3,?_⟩
 rw [List.all_map]
 exact q _ (t2.trans k3)
def QS (b:Sy23.B):Nat:=Oi (Oh b 8 8)
def Yo (b:Sy23.B) (i:Nat):Sy23.B:=Oh b (16 + 128 * i) 128
def ZdU (b:Sy23.B):Bool:=decide (1<=QS b/\QS b<=1152921504606846977) && (((Ob 64).filter fun i=>decide (OO (Yo b i) 0≠0)).all (fun i=>Zas (hOf (Yo b i)) (eOf (Yo b i)) (QS b)) && ZeM (QC b 8208) (QS b))
def Zgq (CS CH:Addr):Sp:=fun vs H Q _=>∃(ha:Addr) (b:Sy23.B) (N:Addr->Prop) (dx ka hl tl:Addr) (ws:List V) (ts:List Addr),vs=[.ref ha]/\ZfI CS CH H ha b N dx ka hl tl ws ts/\Ol b/\∀H',ZA H H'->Q (.bl (ZdU b)) H'
theorem We:Zs ["house","holders","holder"] ["house"] (Zj (top 108)):=qsc
theorem ZfL (B:Blt mg) (B2:Blt2 mg) (Jz:ZU mg "LAST_NUMBER" 1152921504606846976) (kS:Wn K Zm) (R:Raw K mg "can_be_house" "can_be_house" (top 108) ["house"]) (ZI:Zh P w K mg base 1 "is_within" ["number","least","last"] WL) (JQ:Zh P w K mg base 3 "can_be_holder" ["holder","number"] (spCanH Zg)) (ZaT:Zh P w K mg base 1 "can_be_list" ["taken","number"] spCanL):Zh P w K mg base 4 "can_be_house" ["house"] (Zgq Zm Zg):=by
 refine R.callee We (fun vs H Q E h=>?_) (fun f cdv A outer s H vs Q E hr h=>?_)
 ·walk_at "ln"
 obtain ⟨ha,b,N,dx,ka,hl,tl,ws,ts,rfl,rh,hB,q⟩:=h
 obtain ⟨s0,s1,s2,s3,s4⟩:=kS
 have po:=rh.o
 have ph:=rh.hs
 have hwl:=rh.len
 refine ⟨_,(Zb (ZM (Y8 (Z0 (Ze ZI hr (Za (Zt K (pv 0)) (Za (Zi 1) (Za (Zf Z7 (ZT Jz) (Zi 1)) Zc)))))) (Zd (Zk pe_bl)) Zx) (Zb (Zd9 (i:=1) rfl We.nd rfl rfl (ZfE rfl rfl rfl (by decide +kernel)) (YW K (Zt K (pv 0))) (Y7 (own:=[("holder",2)]) rfl) (fun _ _ _ _ _=>(ZW 2 We.nd)) (fun _ _ _ _ _=>(pts_one (XT (pc_notN (pv 2))))) (fun _ _ _ _ _=>(pv 2))) (Zd (Zk (JT (ZL (call_allK K rfl) rfl B2.all PyProof.Rows.boot_all (Za (Zbf rfl We.nd (YW K (pv 1)) (Y7 (own:=[("holder",2)]) rfl) (fun _ _ _ _ _=>(ZW 2 We.nd)) (fun _ _ _ _ _=>Wc) (fun _ _ _ _ _=>(Ze JQ hr (Za (pv 2) (Za (Zt K (pv 0)) Zc))))) Zc)) (ZbL (Ze ZaT hr (Za (Zt K (pv 0)) (Za (Zt K (pv 0)) Zc))))))))),?_⟩
 refine Zo (σ':=[some (.ref ha),none,none]) rfl ?_
 unfold ZdU at q
 nofun
 refine ⟨QS b,1,1152921504606846977,rfl,?_⟩
 nofun
 by_cases g1:1<=QS b/\QS b<=1152921504606846977
 case neg=>
  rw [decide_eq_false g1]
  refine YV ?_
  nofun
  rw [decide_eq_false g1,Vc] at q
  exact q _ (Zl _)
 rw [decide_eq_true g1]
 rw [decide_eq_true g1,UW] at q
 refine Xc ?_
 nofun
 refine YX (SqL.of ph) ?_
 have plc:∀i,i < 64->(OO (Yo b i) 0=0/\ws.getD i .non=.non)∨(OO (Yo b i) 0≠0/\∃a dy sa,ws.getD i .non=.ref a/\H a=some (hoR Zg dy sa (hOf (Yo b i)) (eOf (Yo b i)))/\H sa=some (.lst (LN (hOf (Yo b i)).secret))):=fun i hi=>by
  have ew:ws[i]?=some (ws.getD i .non):=by
   rw [Oe,Of (by simp [*])]; rfl
  rcases rh.pl.at_ i _ ew with ⟨z1,z2⟩ | ⟨a,dy,sa,z1,z2,-,-,g1,g2⟩
  ·exact .inl ⟨z2,z1⟩
  ·exact .inr ⟨z2,a,dy,sa,z1,g1,g2⟩
 refine Zf2 (Zaw (SqL.of ph)) (fun i=>decide (OO (Yo b i) 0≠0)) (Zp (by rw [hwl]; decide)) ?_ ?_ ?_
 ·intro j H2 R' hj hs hR
  rw [hwl] at hj
  rcases plc j hj with ⟨z1,z2⟩ | ⟨z1,a,dy,sa,z2,-⟩
  ·rw [z2]
   dsimp only [Iy]
   nofun
   rw [decide_eq_false (fun h=>h z1)] at hR
   exact hR
  ·rw [z2]
   dsimp only [Iy]
   nofun
   rw [decide_eq_true z1] at hR
   exact hR
 ·intro j H2 R' hj hR
  dsimp only [Iy]
  nofun
  exact hR
 intro D H1 hD t1 hD1
 rw [hwl] at hD1
 obtain ⟨ix,eix⟩:∃ix,ix=(Ob 64).filter fun i=>decide (OO (Yo b i) 0≠0):=⟨_,rfl⟩
 rw [<- eix] at hD1 q
 have hix:∀i,i∈ix->i < 64/\OO (Yo b i) 0≠0:=fun i hi=>by
  rw [eix,UI] at hi
  exact ⟨OR.mp hi.1,of_decide_eq_true hi.2⟩
 have hixl:ix.length<=64:=by
  rw [eix]
  exact OD (Vt _ _) (by rw [OL]; exact Oq _)
 have po1:=t1 _ _ po
 nofun
 refine YX (SqL.of hD1) ?_
 refine Js (Zaw (SqL.of hD1)) (fun j=>V.bl (Zas (hOf (Yo b (ix.getD j 0))) (eOf (Yo b (ix.getD j 0))) (QS b))) (Zp (by rw [Od]; exact ZbN)) ?_ ?_
 ·intro j H2 R' hj hs hR
  rw [Od] at hj
  have gj:ix[j]?=some (ix.getD j 0):=by
   rw [Oe,Of hj]; rfl
  obtain ⟨i64,inz⟩:=hix _ (O5 gj)
  rcases plc _ i64 with ⟨z1,_⟩ | ⟨-,a,dy,sa,z2,g2,g3⟩
  ·exact absurd z1 inz
  ·have ey:(ix.map fun i=>ws.getD i .non).getD j .non=.ref a:=by
    rw [Oe,OP,gj]
    exact z2
   rw [ey]
   dsimp only [Iy]
   have po2:=hs _ _ po1
   nofun
   exact ⟨a,dy,sa,_,_,_,rfl,hs _ _ (t1 _ _ g2),hs _ _ (t1 _ _ g3),Yj (Yj hB _ _) _ _,hR _ (Zl _)⟩
 intro D2 H3 hD2 k3 hD3
 have ea:(Ob (ix.map fun i=>ws.getD i .non).length).map (fun j=>V.bl (Zas (hOf (Yo b (ix.getD j 0))) (eOf (Yo b (ix.getD j 0))) (QS b)))=(ix.map fun i=>Zas (hOf (Yo b i)) (eOf (Yo b i)) (QS b)).map V.bl:=by
  rw [Od]
  apply Ui
  ·simp
  ·intro i h1 h2
   have hi:i < ix.length:=by simpa using h1
   simp only [Uj,IT,Oe,Of hi,UU]
 rw [ea] at hD3
 have t3:=t1.trans k3
 have po3:=t3 _ _ po
 nofun
 refine ⟨D2,_,rfl,SqL.of hD3,?_⟩
 rw [List.all_map]
 have ec:(id ∘ fun i=>Zas (hOf (Yo b i)) (eOf (Yo b i)) (QS b))=fun i=>Zas (hOf (Yo b i)) (eOf (Yo b i)) (QS b):=rfl
 rw [ec]
 nofun
 cases ga:ix.all fun i=>Zas (hOf (Yo b i)) (eOf (Yo b i)) (QS b) with
 | false=>
  rw [ga,Vc] at q
  rw [if_neg Oo]
  exact q _ t3
 | true=>
  rw [ga,UW] at q
  rw [if_pos rfl]
  nofun
  exact ⟨tl,ts,N,QC b 8208,_,rfl,t3 _ _ rh.tk,⟨rh.en.len,fun i t e h1 h2=>⟨(rh.en.at_ i t e h1 h2).1,t3 _ _ (rh.en.at_ i t e h1 h2).2⟩⟩,Zf3 _ _,fun H4 k4=>q _ (t3.trans k4)⟩
def rawH (key b:Sy23.B):OF:=⟨key,QS b,(Ob 64).map fun i=>if OO (Yo b i) 0=0 then none else some (hOf (Yo b i)),QC b 8208⟩
theorem houseOf_eq (key b:Sy23.B):Iq key b=⟨key,QS b,(Ob 64).map fun i=>IX (Yo b i),QC b 8208⟩:=rfl
theorem Ze7 (pb:Sy23.B):IX pb=if OO pb 0=1 then some (hOf pb) else none:=rfl
theorem apart_iff:∀l:List Nat,V2 l=true↔l.Nodup
 | []=>by simp [V2]
 | x :: l=>by
  unfold V2
  rw [Oj,apart_iff l,U3,Bool.not_eq_true',Bool.eq_false_iff,Ne,List.contains_iff_mem]
theorem Jw (n a b:Nat):Ue n a b=true↔a<=n/\n<=b:=by
 unfold Ue
 rw [Oj,decide_eq_true_eq,decide_eq_true_eq]
theorem rawOk_iff (x:Oy) (e n:Nat):Zas x e n=true↔x.ok n=true/\e<=1:=by
 unfold Zas Tw
 simp only [Oj,Jw,decide_eq_true_eq]
 have e1:Va + 101=1152921504606847077:=by decide
 have e2:UE=2147483647:=by decide
 have e3:UK + 60=1099511627836:=by decide
 rw [e1,e2,e3]
 constructor
 ·rintro ⟨⟨a,b,c⟩,⟨d,e⟩,f,g,h⟩
  exact ⟨⟨a,b,c,⟨Ib _,d⟩,⟨Ib _,e⟩,⟨Ib _,f⟩,h⟩,g⟩
 ·rintro ⟨⟨a,b,c,d,e,f,h⟩,g⟩
  exact ⟨⟨a,b,c⟩,⟨d.2,e.2⟩,f.2,g,h⟩
theorem tw_mem {α:Type} {p:α->Bool}:∀{l:List α} {x:α},x∈l.takeWhile p->p x=true
 | [],x,h=>by simp at h
 | y :: l,x,h=>by
  rw [VG] at h
  by_cases e:p y=true
  ·rw [if_pos e] at h
   rcases ON.mp h with rfl | h
   ·exact e
   ·exact tw_mem h
  ·rw [if_neg e] at h; simp at h
theorem JI (key b:Sy23.B):(rawH key b).holders=(Ob 64).map (fun i=>if OO (Yo b i) 0=0 then none else some (hOf (Yo b i))):=rfl
theorem Zf7 (key b:Sy23.B):(Iq key b).holders=(Ob 64).map (fun i=>IX (Yo b i)):=rfl
theorem ents_pos {b:Sy23.B} {s:Nat}:∀x,x∈QC b s->1<=x.1:=fun x hx=>by
 unfold QC at hx
 have:=tw_mem hx
 have:=bne_iff_ne.mp this
 lia
theorem Zf4 (b:Sy23.B) (s n:Nat) (hn:1<=n):ZeM (QC b s) n=true↔((QC b s).all fun x:Nat×Nat=>Ue x.1 1 (n - 1) && Ue x.2 0 (UK + Tn))=true/\V2 ((QC b s).map fun x=>x.1)=true:=by
 unfold ZeM
 rw [Oj,decide_eq_true_eq,apart_iff,Iw,Iw]
 have e:UK + Tn=1099512676352:=by decide
 rw [e]
 constructor
 ·rintro ⟨h1,h2⟩
  refine ⟨fun x hx=>?_,h1⟩
  have h3:=h2 x hx
  have h4:=ents_pos x hx
  simp only [Oj,Jw,decide_eq_true_eq] at h3 ⊢
  lia
 ·rintro ⟨h1,h2⟩
  refine ⟨h2,fun x hx=>?_⟩
  have h3:=h1 x hx
  simp only [Oj,Jw,decide_eq_true_eq] at h3 ⊢
  omega
def Tidy (b:Sy23.B):Prop:=∀i,i < 64->OO (Yo b i) 0=0∨OO (Yo b i) 0=1
theorem Zf9 {key b:Sy23.B} (h:Tidy b):rawH key b=Iq key b:=by
 rw [houseOf_eq]
 unfold rawH
 congr 1
 apply Ia
 intro i hi
 rw [Ze7]
 rcases h i (OR.mp hi) with e | e
 ·rw [if_pos e,if_neg (by rw [e]; decide)]
 ·rw [if_neg (by rw [e]; decide),if_pos e]
theorem flat_part:∀(os:List (Option Oy)) (i:Nat) (o:Option Oy),(∀o,o∈os->(X2 o).length=128)->os[i]?=some o->Oh (Wz os) (128 * i) 128=X2 o
 | [],i,o,_,h=>by simp at h
 | p :: os,0,o,hl,h=>by
  have e:p=o:=by simpa using h
  subst e
  unfold Wz Oh
  rw [IS,Tb,VI,Ti (hl p (Ow ..))]
 | p :: os,i + 1,o,hl,h=>by
  have ih:=flat_part os i o (fun o ho=>hl o (Ov _ ho)) (by simpa using h)
  unfold Wz Oh at ih ⊢
  rw [IS,show 128 * (i + 1)=(X2 p).length + 128 * i by rw [hl p (Ow ..)]; exact IU _ _,V6,O2 (by simp),Vz,UH]
  exact ih
theorem Zd8:∀(os:List (Option Oy)),(∀o,o∈os->(X2 o).length=128)->(Wz os).length=128 * os.length
 | [],_=>rfl
 | o :: os,h=>by
  have ih:=Zd8 os fun x hx=>h x (Ov _ hx)
  unfold Wz at ih ⊢
  rw [IS,Og,ih,Oz,h o (Ow ..)]
  exact IU _ _
theorem chunk {h:OF} (hl:∀o,o∈h.holders->(X2 o).length=128) (h64:h.holders.length=64) {i:Nat} {o:Option Oy} (e:h.holders[i]?=some o):Yo h.bytes i=X2 o:=by
 rw [<- flat_part _ i o hl e]
 have hi:i < 64:=by rw [<- h64]; exact (OB.mp e).1
 have hL:=Zd8 _ hl
 rw [h64] at hL
 unfold Yo
 rw [Q6]
 unfold Oh
 have e16:([83,89,50,51,0,0,0,0] ++ Om 8 h.number).length=16:=by rw [Og,ZF]; rfl
 rw [O7,V6,O2 (by lia),Vz,e16,UH,VD (by lia),VF (by rw [OS]; lia)]
theorem ZeT {o:Option Oy} (h:∀x,o=some x->x.secret.length<=64):(X2 o).length=128:=by
 cases o with
 | none=>unfold X2 IZ Sy23.PLACE; rw [Ij]
 | some x=>exact ZfY (h x rfl)
theorem Zct (o:Option Oy):OO (X2 o) 0=match o with
 | some _=>1
 | none=>0:=by
 cases o with
 | none=>rfl
 | some x=>rfl
theorem little_small:∀n,n<=1->Oi (Om 4 n)=n:=by decide
theorem bytes_earned (x:Oy):eOf x.bytes=if x.earned=true then 1 else 0:=by
 have e:Oh x.bytes 20 4=Om 4 (if x.earned=true then 1 else 0):=by
  unfold Vh Oh
  have l1:([1,if x.step=0 then 0 else 1,x.digits,x.secret.length] ++ (Om 4 x.step ++ (Om 8 x.next ++ Om 4 x.failed))).length=20:=by
   simp only [Og,ZF,Oz,Ii]
  rw [show ∀(r:Sy23.B),[1,if x.step=0 then 0 else 1,x.digits,x.secret.length] ++ (Om 4 x.step ++ (Om 8 x.next ++ (Om 4 x.failed ++ r)))=([1,if x.step=0 then 0 else 1,x.digits,x.secret.length] ++ (Om 4 x.step ++ (Om 8 x.next ++ Om 4 x.failed))) ++ r from fun r=>by simp only [O7]]
  rw [List.drop_left' l1,Ti (ZF 4 _)]
 unfold eOf
 rw [e]
 apply little_small
 split <;> decide
theorem ZcP (b:Sy23.B):ZdU b=true↔(1<=QS b/\QS b<=1152921504606846977)/\(∀i,i < 64->OO (Yo b i) 0≠0->Zas (hOf (Yo b i)) (eOf (Yo b i)) (QS b)=true)/\ZeM (QC b 8208) (QS b)=true:=by
 unfold ZdU
 rw [Oj,Oj,decide_eq_true_eq,Iw]
 constructor
 ·rintro ⟨h1,h2,h3⟩
  exact ⟨h1,fun i hi hn=>h2 i (UI.mpr ⟨OR.mpr hi,decide_eq_true hn⟩),h3⟩
 ·rintro ⟨h1,h2,h3⟩
  refine ⟨h1,fun i hi=>?_,h3⟩
  rw [UI] at hi
  exact h2 i (OR.mp hi.1) (of_decide_eq_true hi.2)
theorem ok_iff (h:OF):h.ok=true↔(1<=h.number/\h.number<=1152921504606846977)/\(∀x,some x∈h.holders->x.ok h.number=true)/\(h.list.all fun x:Nat×Nat=>Ue x.1 1 (h.number - 1) && Ue x.2 0 (UK + Tn))=true/\V2 (h.list.map fun x=>x.1)=true:=by
 unfold Sy23.House.ok
 rw [Oj,Oj,Oj,Jw,Iw]
 have e:Va + 1=1152921504606846977:=by decide
 rw [e]
 constructor
 ·rintro ⟨h1,h2,h3,h4⟩
  exact ⟨h1,fun x hx=>h2 _ hx,h3,h4⟩
 ·rintro ⟨h1,h2,h3,h4⟩
  refine ⟨h1,fun o ho=>?_,h3,h4⟩
  cases o with
  | none=>rfl
  | some x=>exact h2 x ho
theorem Zd2 (key b:Sy23.B):(ZdU b=true/\(rawH key b).bytes=b)↔((Iq key b).ok=true/\(Iq key b).bytes=b):=by
 have getR:∀i,i < 64->(rawH key b).holders[i]?=some (if OO (Yo b i) 0=0 then none else some (hOf (Yo b i))):=fun i hi=>by
  rw [JI,OP,Ud hi]; rfl
 have getH:∀i,i < 64->(Iq key b).holders[i]?=some (IX (Yo b i)):=fun i hi=>by
  rw [Zf7,OP,Ud hi]; rfl
 constructor
 ·rintro ⟨hc,hb⟩
  rw [ZcP] at hc
  obtain ⟨c1,c2,c3⟩:=hc
  have sec:∀i,i < 64->OO (Yo b i) 0≠0->(hOf (Yo b i)).secret.length<=64:=fun i hi hn=>by
   have:=c2 i hi hn
   unfold Zas at this
   exact (of_decide_eq_true this).1.1.2
  have lenP:∀o,o∈(rawH key b).holders->(X2 o).length=128:=fun o ho=>by
   obtain ⟨i,hi,e⟩:=OK.mp ho
   refine ZeT fun x hx=>?_
   rw [hx] at e
   by_cases z:OO (Yo b i) 0=0
   ·rw [if_pos z] at e; exact absurd e (by simp)
   ·rw [if_neg z] at e
    rw [<- Option.some.inj e]
    exact sec i (OR.mp hi) z
  have l64:(rawH key b).holders.length=64:=by
   show ((Ob 64).map _).length=64
   rw [Od,OL]
  have tidy:Tidy b:=fun i hi=>by
   have ch:=chunk lenP l64 (getR i hi)
   rw [hb] at ch
   by_cases z:OO (Yo b i) 0=0
   ·exact .inl z
   ·rw [if_neg z] at ch
    refine .inr ?_
    rw [ch]
    exact Zct (some _)
  rw [<- Zf9 tidy]
  refine ⟨?_,hb⟩
  rw [ok_iff]
  refine ⟨c1,fun x hx=>?_,?_⟩
  ·obtain ⟨i,hi,e⟩:=OK.mp hx
   by_cases z:OO (Yo b i) 0=0
   ·rw [if_pos z] at e; exact absurd e (by simp)
   ·rw [if_neg z] at e
    rw [<- Option.some.inj e]
    exact ((rawOk_iff _ _ _).mp (c2 i (OR.mp hi) z)).1
  ·exact (Zf4 b 8208 _ c1.1).mp c3
 ·rintro ⟨ho,hb⟩
  rw [ok_iff] at ho
  obtain ⟨c1,c2,c3⟩:=ho
  have sec:∀x,some x∈(Iq key b).holders->x.secret.length<=64:=fun x hx=>by
   have:=c2 x hx
   unfold Tw at this
   rw [Oj,Jw] at this
   exact this.1.2
  have lenP:∀o,o∈(Iq key b).holders->(X2 o).length=128:=fun o ho=>ZeT fun x hx=>sec x (hx ▸ ho)
  have l64:(Iq key b).holders.length=64:=by
   show ((Ob 64).map _).length=64
   rw [Od,OL]
  have ch:∀i,i < 64->Yo b i=X2 (IX (Yo b i)):=fun i hi=>by
   have ch:=chunk lenP l64 (getH i hi)
   rw [hb] at ch
   exact ch
  have tidy:Tidy b:=fun i hi=>by
   have c:=congrArg (fun l=>OO l 0) (ch i hi)
   have c':OO (Yo b i) 0=OO (X2 (IX (Yo b i))) 0:=c
   rw [Zct] at c'
   cases hh:IX (Yo b i) with
   | none=>rw [hh] at c'; exact .inl c'
   | some x=>rw [hh] at c'; exact .inr c'
  rw [Zf9 tidy]
  refine ⟨?_,hb⟩
  rw [ZcP]
  refine ⟨c1,fun i hi hn=>?_,(Zf4 b 8208 _ c1.1).mpr c3⟩
  have e1:OO (Yo b i) 0=1:=(tidy i hi).resolve_left hn
  have eh:IX (Yo b i)=some (hOf (Yo b i)):=by rw [Ze7,if_pos e1]
  rw [rawOk_iff]
  refine ⟨c2 _ (O5 (eh ▸ getH i hi)),?_⟩
  have c:=ch i hi
  rw [eh] at c
  have c2':eOf (Yo b i)=eOf (hOf (Yo b i)).bytes:=congrArg eOf c
  rw [c2',bytes_earned]
  split <;> decide
theorem raw_is {key b:Sy23.B} (h:ZdU b=true/\(rawH key b).bytes=b):rawH key b=Iq key b:=by
 have h':=(Zd2 key b).mp h
 have sec:∀x,some x∈(Iq key b).holders->x.secret.length<=64:=fun x hx=>by
  have:=((ok_iff _).mp h'.1).2.1 x hx
  unfold Tw at this
  rw [Oj,Jw] at this
  exact this.1.2
 refine Zf9 fun i hi=>?_
 have getH:(Iq key b).holders[i]?=some (IX (Yo b i)):=by
  rw [Zf7,OP,Ud hi]; rfl
 have c:=chunk (fun o ho=>ZeT fun x hx=>sec x (hx ▸ ho)) (by show ((Ob 64).map _).length=64; rw [Od,OL]) getH
 rw [h'.2] at c
 have c':OO (Yo b i) 0=OO (X2 (IX (Yo b i))) 0:=congrArg (fun l=>OO l 0) c
 rw [Zct] at c'
 cases hh:IX (Yo b i) with
 | none=>rw [hh] at c'; exact .inl c'
 | some x=>rw [hh] at c'; exact .inr c'
inductive Ask:Nat->List Nat->List (List Nat)->U9->Prop
 | code {d c:Nat} {sec:Sy23.B}:d < 2 ^ 32->c < 2 ^ 64->Ol sec->Ask 0 [d,c] [sec] (.code ((sec.length:Nat):Int) sec c (d:Int))
 | wrap {k x:Sy23.B}:Ol k->Ol x->Ask 1 [] [k,x] (.wrap ((k.length:Nat):Int) ((x.length:Nat):Int) k x)
 | unwrap {k x:Sy23.B}:Ol k->Ol x->Ask 2 [] [k,x] (.unwrap ((k.length:Nat):Int) ((x.length:Nat):Int) k x)
 | mark {k x:Sy23.B}:Ol k->Ol x->Ask 3 [] [k,x] (.mark ((k.length:Nat):Int) ((x.length:Nat):Int) k x)
 | mix {d n b:Nat} {k:Sy23.B}:Ol k->Ask 4 [d,n,b] [k] (.mix ((k.length:Nat):Int) (d:Int) (b:Int) k n)
 | begin_ {k:Sy23.B}:Ol k->Ask 10 [] [k] (.begin_ ((k.length:Nat):Int) k)
 | holder {st d f:Nat} {sec:Sy23.B}:Ol sec->Ask 11 [st,d,f] [sec] (.holder ((sec.length:Nat):Int) (st:Int) (d:Int) sec f)
 | drop {k:Nat}:Ask 12 [k] [] (.drop (k:Int))
 | try_ {k now:Nat} {c:Sy23.B}:Ask 13 [k,now] [c] (.try_ (k:Int) ((c.length:Nat):Int) c now)
 | two {k now n:Nat} {c:Sy23.B}:(6<=n/\n<=8->c.length=2 * n)->Ask 14 [k,now,n] [c] (.two (k:Int) (n:Int) c now)
 | told {k:Nat}:Ask 15 [k] [] (.told (k:Int))
 | give {k now span rights:Nat}:rights < 2 ^ 32->Ask 16 [k,now,span,rights] [] (.give (k:Int) (span:Int) now rights)
 | show_ {now:Nat} {t:Sy23.B}:t.length=40->Ol t->Ask 17 [now] [t] (.show_ t now)
 | take {t:Sy23.B}:t.length=40->Ol t->Ask 18 [] [t] (.take t)
 | void {k:Nat}:Ask 19 [k] [] (.void (k:Int))
 | sweep {now:Nat}:Ask 20 [now] [] (.sweep now)
 | save {k:Sy23.B}:Ol k->Ask 21 [] [k] (.save ((k.length:Nat):Int) k)
 | load {k u s:Sy23.B}:Ol k->Ol u->Ol s->s.length=12312->Ask 22 [] [k,u,s] (.load ((k.length:Nat):Int) ((u.length:Nat):Int) k u s)
theorem Wo {l:List Nat} (h:IN l=[]):l=[]:=TH.mp h
theorem YT {l:List Nat} {a:Int} {t:List Int} (h:IN l=a :: t):∃x r,l=x :: r/\a=(x:Int)/\IN r=t:=by
 cases l with
 | nil=>exact absurd h (by simp)
 | cons x r=>exact ⟨x,r,rfl,(List.cons.inj h).1.symm,(List.cons.inj h).2⟩
theorem Xu {l:List (List Nat)} {a:List Int} {t:List (List Int)} (h:l.map IN=a :: t):∃x r,l=x :: r/\a=IN x/\r.map IN=t:=by
 cases l with
 | nil=>exact absurd h (by simp)
 | cons x r=>exact ⟨x,r,rfl,(List.cons.inj h).1.symm,(List.cons.inj h).2⟩
theorem Ws {l:List (List Nat)} (h:l.map IN=[]):l=[]:=TH.mp h
theorem Xs (l:List Nat):TU (IN l)=l:=by
 unfold TU
 rw [O8]
 conv=>rhs; rw [<- List.map_id l]
 exact Ia fun x _=>Ot x
theorem WC (l:List Nat):TV (IN l)=((l.length:Nat):Int):=by
 unfold TV
 rw [Od]
theorem Qc {l:List Nat} (h:(IN l).all (fun z:Int=>U2 z 8)=true):Ol l:=fun x hx=>by
 rw [Iw] at h
 have:=h (x:Int) (OK.mpr ⟨x,hx,rfl⟩)
 unfold U2 at this
 rw [Oj,decide_eq_true_eq,decide_eq_true_eq] at this
 omega
theorem nat_lt {x b:Nat} (h:U2 (x:Int) b=true):x < 2 ^ b:=by
 unfold U2 at h
 rw [Oj,decide_eq_true_eq,decide_eq_true_eq] at h
 have e:((2 ^ b:Nat):Int)=(2:Int) ^ b:=by rw [Int.natCast_pow]; rfl
 have h2:=h.2
 rw [<- e] at h2
 exact V4.mp h2
theorem Yz {num:Nat} {ws:List Nat} {rs:List (List Nat)} {n:Int} {as:List Int} {bs:List (List Int)} (h:ZbX num ws rs=(n :: as) :: bs):(num:Int)=n/\IN ws=as/\rs.map IN=bs:=by
 unfold ZbX at h
 injection h with h1 h2
 injection h1 with h3 h4
 exact ⟨h3,h4,h2⟩
theorem ask_of {num:Nat} {ws:List Nat} {rs:List (List Nat)} (h0:Vb (ZbX num ws rs)=true):∃x,Ask num ws rs x/\VR (ZbX num ws rs)=some x:=by
 refine tree (fun c b=>b=true->ZbX num ws rs=c->∃x,Ask num ws rs x/\VR (ZbX num ws rs)=some x) ?_ ?_ ?_ ?_ ?_ ?_ ?_ ?_ ?_ ?_ ?_ ?_ ?_ ?_ ?_ ?_ ?_ ?_ ?_ (ZbX num ws rs) h0 rfl
 ·intro _ _ _ h ec
  obtain ⟨e1,f0,g0⟩:=Yz ec
  obtain ⟨d,r0,rfl,rfl,f1⟩:=YT f0
  obtain ⟨c,r1,rfl,rfl,f2⟩:=YT f1
  obtain rfl:=Wo f2
  obtain ⟨s,q0,rfl,rfl,g1⟩:=Xu g0
  obtain rfl:=Ws g1
  obtain rfl:num=0:=by lia
  simp only [Oj] at h
  refine ⟨_,.code (nat_lt h.1) (nat_lt h.2.1) (Qc h.2.2.1),?_⟩
  show some (Sy23.Call.code _ _ _ _)=_
  rw [Xs,WC,Ot]
 ·intro _ _ h ec
  obtain ⟨e1,f0,g0⟩:=Yz ec
  obtain rfl:=Wo f0
  obtain ⟨k,q0,rfl,rfl,g1⟩:=Xu g0
  obtain ⟨x,q1,rfl,rfl,g2⟩:=Xu g1
  obtain rfl:=Ws g2
  obtain rfl:num=1:=by lia
  simp only [Oj] at h
  refine ⟨_,.wrap (Qc h.1.1) (Qc h.2.1),?_⟩
  show some (Sy23.Call.wrap _ _ _ _)=_
  rw [Xs,WC,Xs,WC]
 ·intro _ _ h ec
  obtain ⟨e1,f0,g0⟩:=Yz ec
  obtain rfl:=Wo f0
  obtain ⟨k,q0,rfl,rfl,g1⟩:=Xu g0
  obtain ⟨x,q1,rfl,rfl,g2⟩:=Xu g1
  obtain rfl:=Ws g2
  obtain rfl:num=2:=by lia
  simp only [Oj] at h
  refine ⟨_,.unwrap (Qc h.1.1) (Qc h.2.1),?_⟩
  show some (Sy23.Call.unwrap _ _ _ _)=_
  rw [Xs,WC,Xs,WC]
 ·intro _ _ h ec
  obtain ⟨e1,f0,g0⟩:=Yz ec
  obtain rfl:=Wo f0
  obtain ⟨k,q0,rfl,rfl,g1⟩:=Xu g0
  obtain ⟨x,q1,rfl,rfl,g2⟩:=Xu g1
  obtain rfl:=Ws g2
  obtain rfl:num=3:=by lia
  simp only [Oj] at h
  refine ⟨_,.mark (Qc h.1.1) (Qc h.2.1),?_⟩
  show some (Sy23.Call.mark _ _ _ _)=_
  rw [Xs,WC,Xs,WC]
 ·intro _ _ _ _ h ec
  obtain ⟨e1,f0,g0⟩:=Yz ec
  obtain ⟨d,r0,rfl,rfl,f1⟩:=YT f0
  obtain ⟨n,r1,rfl,rfl,f2⟩:=YT f1
  obtain ⟨b,r2,rfl,rfl,f3⟩:=YT f2
  obtain rfl:=Wo f3
  obtain ⟨k,q0,rfl,rfl,g1⟩:=Xu g0
  obtain rfl:=Ws g1
  obtain rfl:num=4:=by lia
  simp only [Oj] at h
  refine ⟨_,.mix (Qc h.2.2.2.1),?_⟩
  show some (Sy23.Call.mix _ _ _ _ _)=_
  rw [Xs,WC,Ot]
 ·intro _ h ec
  obtain ⟨e1,f0,g0⟩:=Yz ec
  obtain rfl:=Wo f0
  obtain ⟨k,q0,rfl,rfl,g1⟩:=Xu g0
  obtain rfl:=Ws g1
  obtain rfl:num=10:=by lia
  simp only [Oj] at h
  refine ⟨_,.begin_ (Qc h.1),?_⟩
  show some (Sy23.Call.begin_ _ _)=_
  rw [Xs,WC]
 ·intro _ _ _ _ h ec
  obtain ⟨e1,f0,g0⟩:=Yz ec
  obtain ⟨d,r0,rfl,rfl,f1⟩:=YT f0
  obtain ⟨n,r1,rfl,rfl,f2⟩:=YT f1
  obtain ⟨b,r2,rfl,rfl,f3⟩:=YT f2
  obtain rfl:=Wo f3
  obtain ⟨k,q0,rfl,rfl,g1⟩:=Xu g0
  obtain rfl:=Ws g1
  obtain rfl:num=11:=by lia
  simp only [Oj] at h
  refine ⟨_,.holder (Qc h.2.2.2.1),?_⟩
  show some (Sy23.Call.holder _ _ _ _ _)=_
  rw [Xs,WC,Ot]
 ·intro _ h ec
  obtain ⟨e1,f0,g0⟩:=Yz ec
  obtain ⟨d,r0,rfl,rfl,f1⟩:=YT f0
  obtain rfl:=Wo f1
  obtain rfl:=Ws g0
  obtain rfl:num=12:=by lia
  exact ⟨_,.drop,rfl⟩
 ·intro _ _ _ h ec
  obtain ⟨e1,f0,g0⟩:=Yz ec
  obtain ⟨d,r0,rfl,rfl,f1⟩:=YT f0
  obtain ⟨n,r1,rfl,rfl,f2⟩:=YT f1
  obtain rfl:=Wo f2
  obtain ⟨k,q0,rfl,rfl,g1⟩:=Xu g0
  obtain rfl:=Ws g1
  obtain rfl:num=13:=by lia
  refine ⟨_,.try_,?_⟩
  show some (Sy23.Call.try_ _ _ _ _)=_
  rw [Xs,WC,Ot]
 ·intro _ _ _ _ h ec
  obtain ⟨e1,f0,g0⟩:=Yz ec
  obtain ⟨d,r0,rfl,rfl,f1⟩:=YT f0
  obtain ⟨n,r1,rfl,rfl,f2⟩:=YT f1
  obtain ⟨b,r2,rfl,rfl,f3⟩:=YT f2
  obtain rfl:=Wo f3
  obtain ⟨k,q0,rfl,rfl,g1⟩:=Xu g0
  obtain rfl:=Ws g1
  obtain rfl:num=14:=by lia
  simp only [Oj,decide_eq_true_eq] at h
  refine ⟨_,.two (c:=k) (fun g=>?_),?_⟩
  ·have h5:=h.2.2.2.2
   rw [Od,if_pos (by lia)] at h5
   lia
  ·show some (Sy23.Call.two _ _ _ _)=_
   rw [Xs,Ot]
 ·intro _ h ec
  obtain ⟨e1,f0,g0⟩:=Yz ec
  obtain ⟨d,r0,rfl,rfl,f1⟩:=YT f0
  obtain rfl:=Wo f1
  obtain rfl:=Ws g0
  obtain rfl:num=15:=by lia
  exact ⟨_,.told,rfl⟩
 ·intro _ _ _ _ h ec
  obtain ⟨e1,f0,g0⟩:=Yz ec
  obtain ⟨d,r0,rfl,rfl,f1⟩:=YT f0
  obtain ⟨n,r1,rfl,rfl,f2⟩:=YT f1
  obtain ⟨b,r2,rfl,rfl,f3⟩:=YT f2
  obtain ⟨ri,r3,rfl,rfl,f4⟩:=YT f3
  obtain rfl:=Wo f4
  obtain rfl:=Ws g0
  obtain rfl:num=16:=by lia
  simp only [Oj] at h
  refine ⟨_,.give (nat_lt h.2.2.2),?_⟩
  show some (Sy23.Call.give _ _ _ _)=_
  rw [Ot,Ot]
 ·intro _ _ h ec
  obtain ⟨e1,f0,g0⟩:=Yz ec
  obtain ⟨d,r0,rfl,rfl,f1⟩:=YT f0
  obtain rfl:=Wo f1
  obtain ⟨k,q0,rfl,rfl,g1⟩:=Xu g0
  obtain rfl:=Ws g1
  obtain rfl:num=17:=by lia
  simp only [Oj,decide_eq_true_eq] at h
  refine ⟨_,.show_ (by have:=h.2.2; rwa [Od] at this) (Qc h.2.1),?_⟩
  show some (Sy23.Call.show_ _ _)=_
  rw [Xs,Ot]
 ·intro _ h ec
  obtain ⟨e1,f0,g0⟩:=Yz ec
  obtain rfl:=Wo f0
  obtain ⟨k,q0,rfl,rfl,g1⟩:=Xu g0
  obtain rfl:=Ws g1
  obtain rfl:num=18:=by lia
  simp only [Oj,decide_eq_true_eq] at h
  refine ⟨_,.take (by have:=h.2; rwa [Od] at this) (Qc h.1),?_⟩
  show some (Sy23.Call.take _)=_
  rw [Xs]
 ·intro _ h ec
  obtain ⟨e1,f0,g0⟩:=Yz ec
  obtain ⟨d,r0,rfl,rfl,f1⟩:=YT f0
  obtain rfl:=Wo f1
  obtain rfl:=Ws g0
  obtain rfl:num=19:=by lia
  exact ⟨_,.void,rfl⟩
 ·intro _ h ec
  obtain ⟨e1,f0,g0⟩:=Yz ec
  obtain ⟨d,r0,rfl,rfl,f1⟩:=YT f0
  obtain rfl:=Wo f1
  obtain rfl:=Ws g0
  obtain rfl:num=20:=by lia
  refine ⟨_,.sweep,?_⟩
  show some (Sy23.Call.sweep _)=_
  rw [Ot]
 ·intro _ h ec
  obtain ⟨e1,f0,g0⟩:=Yz ec
  obtain rfl:=Wo f0
  obtain ⟨k,q0,rfl,rfl,g1⟩:=Xu g0
  obtain rfl:=Ws g1
  obtain rfl:num=21:=by lia
  simp only [Oj] at h
  refine ⟨_,.save (Qc h.1),?_⟩
  show some (Sy23.Call.save _ _)=_
  rw [Xs,WC]
 ·intro _ _ _ h ec
  obtain ⟨e1,f0,g0⟩:=Yz ec
  obtain rfl:=Wo f0
  obtain ⟨k,q0,rfl,rfl,g1⟩:=Xu g0
  obtain ⟨u,q1,rfl,rfl,g2⟩:=Xu g1
  obtain ⟨s,q2,rfl,rfl,g3⟩:=Xu g2
  obtain rfl:=Ws g3
  obtain rfl:num=22:=by lia
  simp only [Oj,decide_eq_true_eq] at h
  refine ⟨_,.load (Qc h.1.1) (Qc h.2.1.1) (Qc h.2.2.1) (by have:=h.2.2.2; rwa [Od] at this),?_⟩
  show some (Sy23.Call.load _ _ _ _ _)=_
  rw [Xs,WC,Xs,WC,Xs]
 ·intro _ h
  exact absurd h (by decide)
theorem raw_ok {key b:Sy23.B} (hB:Ol b) (hk:XR key.length=true) (hkb:Ol key) (h:ZdU b=true):Yx (rawH key b):=by
 obtain ⟨c1,c2,c3⟩:=(ZcP b).mp h
 refine ⟨hk,hkb,c1.1,by show QS b<=_; simp [*],by rw [JI,Od,OL],fun x hx=>?_,Zf3 b 8208⟩
 rw [JI] at hx
 obtain ⟨i,hi,e⟩:=OK.mp hx
 by_cases z:OO (Yo b i) 0=0
 ·rw [if_pos z] at e; exact absurd e (by simp)
 ·rw [if_neg z] at e
  have r:=c2 i (OR.mp hi) z
  unfold Zas at r
  have r:=of_decide_eq_true r
  rw [<- Option.some.inj e]
  exact ⟨r.1.1.1,r.1.1.2,Yj (Yj hB _ _) _ _,r.1.2.1.2,r.1.2.2.1,r.1.2.2.2,by have:=r.2.1.1; omega,by have:=r.2.1.2; omega,by have:=r.2.2.1; omega,by have:=r.2.2.2.2; omega⟩
theorem raw_at {CS CH:Addr} {H:Hp} {ha:Addr} {b key:Sy23.B} {N:Addr->Prop} {dx ka hl tl:Addr} {vs:List V} {ts:List Addr} (rh:ZfI CS CH H ha b N dx ka hl tl vs ts) (hka:H ka=some (.lst (LN key))) (nka:¬ N ka) (h:ZdU b=true):Yq CS CH H ha (rawH key b) (fun c=>(N c/\∃u,H c=some u)∨c=ka):=by
 obtain ⟨c1,c2,c3⟩:=(ZcP b).mp h
 refine ⟨fun c hc=>?_,dx,ka,hl,tl,vs,ts,⟨.inl ⟨rh.na,_,rh.o⟩,.inr rfl,.inl ⟨rh.nh,_,rh.hs⟩,.inl ⟨rh.nt,_,rh.tk⟩,rh.o,hka,rh.hs,rh.tk,fun z=>nka (z ▸ rh.nh),fun z=>nka (z ▸ rh.nt),rh.n3,⟨?_,fun i v o e1 e2=>?_,rh.pl.inj⟩,⟨rh.en.len,fun i t e e1 e2=>?_⟩⟩⟩
 ·rcases hc with ⟨_,u,hu⟩ | rfl
  ·exact ⟨u,hu⟩
  ·exact ⟨_,hka⟩
 ·rw [rh.len,JI,Od,OL]
 ·have hi:i < 64:=by rw [<- rh.len]; exact (OB.mp e1).1
  rw [JI,OP,Ud hi] at e2
  have e2':(if OO (Yo b i) 0=0 then none else some (hOf (Yo b i)))=o:=Option.some.inj e2
  rcases rh.pl.at_ i v e1 with ⟨z1,z2⟩ | ⟨a,dy,sa,z1,z2,n1,n2,g1,g2⟩
  ·rw [if_pos (show OO (Yo b i) 0=0 from z2)] at e2'
   exact .inl ⟨z1,e2'.symm⟩
  ·rw [if_neg (show ¬ OO (Yo b i) 0=0 from z2)] at e2'
   refine .inr ⟨a,dy,sa,hOf (Yo b i),z1,e2'.symm,.inl ⟨n1.1,_,g1⟩,.inl ⟨n2.1,_,g2⟩,n2.2.1,n2.2.2,?_,g2⟩
   have r:=c2 i hi z2
   unfold Zas at r
   have r:=(of_decide_eq_true r).2.2.2.1
   rw [show H a=_ from g1]
   have ee:eOf (Yo b i)=if (hOf (Yo b i)).earned=true then 1 else 0:=by
    show eOf (Yo b i)=if (eOf (Yo b i) == 1)=true then 1 else 0
    by_cases q:eOf (Yo b i)=1
    ·rw [q]; rfl
    ·rw [if_neg (by rw [beq_iff_eq]; exact q)]
     omega
   show some (hoR CH dy sa (hOf (Yo b i)) (eOf (Yo b i)))=_
   rw [ee]
 ·obtain ⟨f,g⟩:=rh.en.at_ i t e e1 e2
  exact ⟨.inl ⟨f,_,g⟩,g⟩
def spLoaded (CS CH:Addr):Sp:=fun vs H Q _=>∃(kp up sp:Addr) (key under b:Sy23.B),vs=[.ref kp,.ref up,.ref sp]/\H kp=some (.lst (LN key))/\H up=some (.lst (LN under))/\H sp=some (.lst (LN b))/\Ol key/\Ol under/\Ol b/\XR key.length=true/\XR under.length=true/\b.length=12312/\
 (VP key under b=none->∀H',ZA H H'->Q .non H')/\∀(h:OF) (H':Hp) (ha:Addr) (F:Addr->Prop),VP key under b=some h->ZA H H'->Yq CS CH H' ha h F->Yx h->(∀c,F c->c=kp∨H c=none)->Q (.ref ha) H'
theorem JW:Zs ["key","under","saved","row","house"] ["key","under","saved"] (Zj (top 109)):=qsc
theorem ZfO (R:Raw K mg "loaded_house" "loaded_house" (top 109) ["key","under","saved"]) (XB:Zh P w K mg base 5 "unwrapped" ["key","given"] (Zek K)) (Zbv:Zh P w K mg base 4 "read_house" ["key","row"] (Zfe Zm Zg)) (Zad:Zh P w K mg base 4 "can_be_house" ["house"] (Zgq Zm Zg)) (Wh:Zh P w K mg base 3 "house_bytes" ["house"] (Zgt Zm Zg)):Zh P w K mg base 6 "loaded_house" ["key","under","saved"] (spLoaded Zm Zg):=by
 refine R.callee JW (fun vs H Q E h=>?_) (fun f cdv A outer s H vs Q E hr h=>?_)
 ·walk_at "ln"
 obtain ⟨kp,up,sp,key,under,b,rfl,hkp,hup,hsp,bk,bu,bb,ok1,ok2,hbl,qn,qs⟩:=h
 refine ⟨_,(Zb (Zq 3 JW.nd (Ze XB hr (Za (pv 1) (Za (pv 2) Zc)))) (Zb (ZM (XT (Wq (pv 3))) (Zd (Zk Qe)) Zx) (Zb (Zq 4 JW.nd (Ze Zbv hr (Za (pv 0) (Za (pv 3) Zc)))) (Zb (ZM (PW.pt (Xd (Z0 (Ze Zad hr (Za (pv 4) Zc))) (XI (ZP (on_eqL K (hr.mono (by decide))) (Ze Wh hr (Za (pv 4) Zc)) (pv 3) (ZR _))))) (Zd (Zk (pv 4))) Zx) (Zd (Zk Qe)))))),?_⟩
 refine Zo (σ':=[some (.ref kp),some (.ref up),some (.ref sp),none,none]) rfl ?_
 have hik:=JE bu ok2
 have eu:=ZbT hik bb (by simp [*]) (by simp [*])
 nofun
 refine ⟨up,sp,under,b,rfl,SqL.of hup,SqL.of hsp,hik,bb,by simp [*],by simp [*],by simp [*],fun x H1 xp ex t1 n1 h1=>?_,fun en H1 t1=>?_⟩
 case refine_2=>
  nofun
  rw [decide_eq_true rfl]
  refine YV ?_
  nofun
  rw [eu] at en
  refine qn ?_ _ t1
  unfold VP
  rw [en]
  rfl
 rw [eu] at ex
 obtain ⟨xl,xb⟩:=Za4 hik bb (by omega) (by omega) (by omega) ex
 have xl':x.length=12304:=by lia
 have el:VP key under b=if (Iq key x).ok=true/\(Iq key x).bytes=x then some (Iq key x) else none:=by
  unfold VP
  rw [ex]
  show (if x.length=Sy23.SIZE/\_ then _ else _)=_
  by_cases z:(Iq key x).ok=true/\(Iq key x).bytes=x
  ·rw [if_pos z,if_pos ⟨xl',z⟩]
  ·rw [if_neg z,if_neg (fun y=>z y.2)]
 nofun
 rw [decide_eq_false (fun h=>V.noConfusion h)]
 refine Xc ?_
 nofun
 refine ⟨kp,xp,x,rfl,h1,xl',xb,fun H2 ha dx hl tl ws ts k2 rh=>?_⟩
 have t2:=t1.trans k2
 nofun
 refine ⟨ha,x,_,dx,kp,hl,tl,ws,ts,rfl,rh,xb,fun H3 k3=>?_⟩
 have t3:=t2.trans k3
 nofun
 cases hc:ZdU x with
 | false=>
  rw [if_neg Oo]
  refine Xc ?_
  nofun
  refine qn ?_ _ t3
  rw [el,if_neg]
  intro z
  have:=((Zd2 key x).mpr z).1
  rw [hc] at this
  exact absurd this (by decide)
 | true=>
  rw [if_pos rfl]
  nofun
  have kp2:H2 kp=some (.lst (LN key)):=t2 _ _ hkp
  have hat:=(raw_at rh kp2 (fun z=>by rw [t1 _ _ hkp] at z; exact absurd z (by simp)) hc).keep fun c u _ e=>k3 c u e
  have hok:=raw_ok xb ok1 bk hc
  refine ⟨ha,rawH key x,_,rfl,hat,hok,fun H4 y k4 n4 h4=>?_⟩
  have t4:=t3.trans k4
  nofun
  refine rd_eqL (SqL.of h4) (SqL.of (k4 _ _ (k3 _ _ (k2 _ _ h1)))) ?_
  nofun
  by_cases hy:(rawH key x).bytes=x
  ·rw [decide_eq_true hy]
   refine YV ?_
   nofun
   have z:=(Zd2 key x).mp ⟨hc,hy⟩
   have er:=raw_is (key:=key) ⟨hc,hy⟩
   rw [if_pos z,<- er] at el
   refine qs _ _ ha _ el t4 (hat.keep fun c u _ e=>k4 c u e) hok fun c hcF=>?_
   rcases hcF with ⟨nc,_⟩ | rfl
   ·exact .inr (t1.free nc)
   ·exact .inl rfl
  ·rw [decide_eq_false hy]
   refine Xc ?_
   nofun
   refine qn ?_ _ t4
   rw [el,if_neg]
   intro z
   exact hy ((Zd2 key x).mpr z).2
theorem ZcC {h:OF} (ok:Yx h) (k:Nat) (o:Option Oy) (ho:∀x,o=some x->Xn x):Yx (h.set k o):=by
 refine ⟨ok.key,ok.byt,ok.n1,ok.n2,?_,fun x hx=>?_,ok.list⟩
 ·show (h.holders.set k o).length=64
  rw [IF]
  exact ok.len
 ·rcases V0 hx with z | z
  ·exact ok.ok x z
  ·exact ho x z.symm
theorem well_ok {x:Oy} (ok:Xn x) {n:Nat} (hn:n<=2 ^ 60 + 101):Xn (x.well n):=⟨ok.s16,ok.s64,ok.byt,ok.step,ok.d6,ok.d8,hn,Ib _,ok.till,ok.floor⟩
theorem wrong_ok {x:Oy} (ok:Xn x) {now:Nat} (hn:now<=2 ^ 40):Xn (x.wrong now):=by
 refine ⟨ok.s16,ok.s64,ok.byt,ok.step,ok.d6,ok.d8,ok.next,?_,?_,ok.floor⟩
 ·show min UE _<=_
  have e:UE=2 ^ 31 - 1:=rfl
  rw [e]
  lia
 ·show (if 5<=x.failed + 1 then now + 60 else x.till)<=_
  have:=ok.till
  split <;> simp [*]
theorem finds_le {x:Oy} {now y:Nat} {c:Sy23.B} (ok:Xn x) (hn:now<=2 ^ 40) (h60:x.next<=2 ^ 60) (h:x.finds now c=some y):y + 1<=2 ^ 60 + 101:=by
 unfold VY at h
 split at h
 ·have hm:=VZ h
  unfold Vr at hm
  split at hm
  ·obtain ⟨i,hi,rfl⟩:=OK.mp hm
   have:=OR.mp hi
   lia
  ·obtain ⟨c,hc,e⟩:=U4.mp hm
   obtain ⟨i,hi,rfl⟩:=OK.mp hc
   have:=OR.mp hi
   have hd:=Uq now x.step
   split at e
   ·exact absurd e (by simp)
   ·injection e with e
    omega
 ·exact absurd h (by simp)
theorem finds2_le {x:Oy} {y:Nat} {c e:Sy23.B} (h60:x.next<=2 ^ 60) (h:x.findsTwo c e=some y):y + 2<=2 ^ 60 + 101:=by
 unfold Tx at h
 split at h
 ·obtain ⟨i,hi,rfl⟩:=OK.mp (VZ h)
  have:=OR.mp hi
  lia
 ·exact absurd h (by simp)
theorem on_ok {num:Nat} {ws:List Nat} {rs:List (List Nat)} {x:U9} {h:OF} (a:Ask num ws rs x) (ok:Yx h):Yx (O6 h x).2:=by
 have n2:=ok.n2
 have n1:=ok.n1
 cases a with
 | code | wrap | unwrap | mark | mix | begin_ | load=>exact ok
 | holder hB=>
  rename_i st d f sec
  unfold O6
  dsimp only
  rw [add_cond]
  split
  ·exact ok
  ·rename_i hc
   have hc:=of_decide_eq_true (eq_true_of_ne_false hc)
   split
   ·exact ok
   ·refine ZcC ok _ _ fun y hy=>?_
    rw [<- Option.some.inj hy,Ot,Ot]
    exact ⟨hc.2.2.2.1,hc.2.2.2.2,hB,hc.1.2,hc.2.1.1,hc.2.1.2,by show f<=_; have:=hc.2.2.1.2; exact ZbN,Ib _,Ib _,by show h.number - 1<=_; simp [*]⟩
 | drop=>
  unfold O6
  dsimp only
  split
  ·exact ok
  ·split
   ·exact ok
   ·exact ZcC ok _ _ fun y hy=>absurd hy (by simp)
 | try_=>
  rename_i k now c
  unfold O6
  dsimp only
  rw [Zen]
  split
  ·exact ok
  ·rename_i hc
   have hc:=of_decide_eq_true (eq_true_of_ne_false hc)
   split
   ·exact ok
   ·rename_i y hy
    have oky:=ok.ok y (Zca hy)
    split
    ·exact ok
    ·split
     ·exact ok
     ·rename_i hn
      have hn:¬ 2 ^ 60 < y.next:=hn
      split
      ·rename_i z hz
       exact ZcC ok _ _ fun u hu=>(Option.some.inj hu) ▸ well_ok oky (finds_le oky hc.2.1.2 (by exact qw6) hz)
      ·exact ZcC ok _ _ fun u hu=>(Option.some.inj hu) ▸ wrong_ok oky hc.2.1.2
 | two hl=>
  rename_i k now n c
  unfold O6
  dsimp only
  rw [Zen]
  split
  ·exact ok
  ·rename_i hc
   have hc:=of_decide_eq_true (eq_true_of_ne_false hc)
   split
   ·exact ok
   ·rename_i y hy
    have oky:=ok.ok y (Zca hy)
    split
    ·exact ok
    ·split
     ·exact ok
     ·rename_i hn
      have hn:¬ 2 ^ 60 < y.next:=hn
      split
      ·rename_i z hz
       exact ZcC ok _ _ fun u hu=>(Option.some.inj hu) ▸ well_ok oky (finds2_le (by exact qw6) hz)
      ·exact ZcC ok _ _ fun u hu=>(Option.some.inj hu) ▸ wrong_ok oky hc.2.1.2
 | told=>
  unfold O6
  dsimp only
  split
  ·exact ok
  ·split <;> exact ok
 | give hr=>
  rename_i k now span rights
  unfold O6
  dsimp only
  split
  ·exact ok
  ·split
   ·exact ok
   ·rename_i y hy
    have oky:=ok.ok y (Zca hy)
    split
    ·exact ok
    ·split
     ·exact ok
     ·rename_i hn
      have hn:¬ 2 ^ 60 < h.number:=hn
      have o2:=ZcC ok (k:Int).toNat (some { y with earned:=false }) fun u hu=>(Option.some.inj hu) ▸ ⟨oky.s16,oky.s64,oky.byt,oky.step,oky.d6,oky.d8,oky.next,oky.failed,oky.till,oky.floor⟩
      exact ⟨o2.key,o2.byt,Nat.le_add_left _ _,by show h.number + 1<=_; exact qw7,o2.len,o2.ok,o2.list⟩
 | show_ hl hB=>
  unfold O6
  dsimp only
  split
  ·exact ok
  ·split
   ·exact ok
   ·split
    ·exact ok
    ·split <;> exact ok
 | take hl hB=>
  unfold O6
  dsimp only
  split
  ·exact ok
  ·split
   ·exact ok
   ·split
    ·exact ok
    ·rename_i hn
     have hn:¬ 256<=h.list.length:=hn
     exact ⟨ok.key,ok.byt,ok.n1,ok.n2,ok.len,ok.ok,by show (h.list ++ [_]).length<=_; rw [Og,Uk]; exact qw7⟩
 | void=>
  unfold O6
  dsimp only
  split
  ·exact ok
  ·split
   ·exact ok
   ·rename_i y hy
    have oky:=ok.ok y (Zca hy)
    exact ZcC ok _ _ fun u hu=>(Option.some.inj hu) ▸ ⟨oky.s16,oky.s64,oky.byt,oky.step,oky.d6,oky.d8,oky.next,oky.failed,oky.till,by show h.number - 1<=_; simp [*]⟩
 | sweep=>
  unfold O6
  dsimp only
  split
  ·exact ok
  ·exact ⟨ok.key,ok.byt,ok.n1,ok.n2,ok.len,ok.ok,OD (Vt _ _) ok.list⟩
 | save hB=>
  unfold O6
  dsimp only
  split <;> exact ok
theorem fresh_ok {key:Sy23.B} (hk:XR key.length=true) (hB:Ol key):Yx (Sy23.fresh key):=by
 refine ⟨hk,hB,Oq _,by show 1<=_; decide,?_,fun x hx=>?_,Ib _⟩
 ·exact Ij
 ·exact absurd (Uo hx) (by simp)
theorem QV {p:Prop} [Decidable p] {A B:Prop} (h:¬ p) (q:B):if decide p=true then A else B:=by rw [decide_eq_false h]; exact q
theorem Jb {p:Prop} [Decidable p] {A B:Prop} (h:p) (q:A):if decide p=true then A else B:=by rw [decide_eq_true h]; exact q
theorem Zeb {H:Hp} {qs:List Addr} {r:List Nat} (h:Zex H qs [r]):∃q,qs=[q]/\H q=some (.lst (LN r)):=by
 obtain ⟨h1,h2⟩:=h
 match qs,h1 with
 | [q],_=>exact ⟨q,rfl,h2 0 q rfl⟩
theorem rows2 {H:Hp} {qs:List Addr} {r s:List Nat} (h:Zex H qs [r,s]):∃q p,qs=[q,p]/\H q=some (.lst (LN r))/\H p=some (.lst (LN s)):=by
 obtain ⟨h1,h2⟩:=h
 match qs,h1 with
 | [q,p],_=>exact ⟨q,p,rfl,h2 0 q rfl,h2 1 p rfl⟩
theorem rows3 {H:Hp} {qs:List Addr} {r s t:List Nat} (h:Zex H qs [r,s,t]):∃q p o,qs=[q,p,o]/\H q=some (.lst (LN r))/\H p=some (.lst (LN s))/\H o=some (.lst (LN t)):=by
 obtain ⟨h1,h2⟩:=h
 match qs,h1 with
 | [q,p,o],_=>exact ⟨q,p,o,rfl,h2 0 q rfl,h2 1 p rfl,h2 2 o rfl⟩
def spPart:Sp:=fun vs H Q _=>∃(num:Nat) (wa ra:Addr) (ws:List Nat) (qs:List Addr) (rs:List (List Nat)) (x:U9),vs=[N_ num,.ref wa,.ref ra]/\H wa=some (.lst (LN ws))/\H ra=some (.lst (qs.map V.ref))/\Zex H qs rs/\Ask num ws rs x/\num<=4/\Out H Q (O9 none x).1
theorem Zge:Zs ["number","wholes","rows"] ["number","wholes","rows"] (Zj (top 147)):=qsc
theorem ZgJ (G_CODE:ZU mg "CODE" 0) (G_WRAP:ZU mg "WRAP" 1) (G_UNWRAP:ZU mg "UNWRAP" 2) (G_MARK:ZU mg "MARK" 3) (R:Raw K mg "answer_part" "answer_part" (top 147) ["number","wholes","rows"]) (ZaO:Zh P w K mg base 5 "answer_code" ["digits","counter","secret"] (spAnsCode K)) (ZaS:Zh P w K mg base 5 "answer_wrap" ["key","given"] (spAnsWrap K)) (JO:Zh P w K mg base 6 "answer_unwrap" ["key","given"] (Zfd K)) (ZaP:Zh P w K mg base 5 "answer_mark" ["key","given"] (spAnsMark K)) (Zbq:Zh P w K mg base 5 "answer_mix" ["digits","number","back","key"] (spAnsMix K)):Zh P w K mg base 8 "answer_part" ["number","wholes","rows"] spPart:=by
 refine R.callee Zge (fun vs H Q E h=>?_) (fun f cdv A outer s H vs Q E hr h=>?_)
 ·walk_at "ln"
 obtain ⟨num,wa,ra,ws,qs,rs,x,rfl,hw,hra,hrs,ask,h4,q⟩:=h
 refine ⟨_,(Zb (ZM (ZP XW (pv 0) (ZT G_CODE) (ZR _)) (Zd (Zk (Ze ZaO hr (Za (Zy (Zv K) (pv 1) (Zi 0)) (Za (Zy (Zv K) (pv 1) (Zi 1)) (Za (Zy (Zv K) (pv 2) (Zi 0)) Zc)))))) Zx) (Zb (ZM (ZP XW (pv 0) (ZT G_WRAP) (ZR _)) (Zd (Zk (Ze ZaS hr (Za (Zy (Zv K) (pv 2) (Zi 0)) (Za (Zy (Zv K) (pv 2) (Zi 1)) Zc))))) Zx) (Zb (ZM (ZP XW (pv 0) (ZT G_UNWRAP) (ZR _)) (Zd (Zk (Ze JO hr (Za (Zy (Zv K) (pv 2) (Zi 0)) (Za (Zy (Zv K) (pv 2) (Zi 1)) Zc))))) Zx) (Zb (ZM (ZP XW (pv 0) (ZT G_MARK) (ZR _)) (Zd (Zk (Ze ZaP hr (Za (Zy (Zv K) (pv 2) (Zi 0)) (Za (Zy (Zv K) (pv 2) (Zi 1)) Zc))))) Zx) (Zd (Zk (Ze Zbq hr (Za (Zy (Zv K) (pv 1) (Zi 0)) (Za (Zy (Zv K) (pv 1) (Zi 1)) (Za (Zy (Zv K) (pv 1) (Zi 2)) (Za (Zy (Zv K) (pv 2) (Zi 0)) Zc))))))))))),?_⟩
 refine Zo (σ':=[some (N_ num),some (.ref wa),some (.ref ra)]) rfl ?_
 nofun
 cases ask with
 | code hd hc hB=>
  obtain ⟨q0,rfl,g0⟩:=Zeb hrs
  refine Jb (by decide) ?_
  nofun
  all_goals first | exact OJ _ | exact OV (OJ _) | exact ⟨_,_,q0,_,rfl,g0,hB,hc,q⟩
 | wrap hk hB=>
  obtain ⟨q0,q1,rfl,g0,g1⟩:=rows2 hrs
  refine QV (by decide) ?_
  nofun
  refine Jb (by decide) ?_
  nofun
  exact ⟨q0,q1,_,_,rfl,SqL.of g0,SqL.of g1,hk,hB,q⟩
 | unwrap hk hB=>
  obtain ⟨q0,q1,rfl,g0,g1⟩:=rows2 hrs
  refine QV (by decide) ?_
  nofun
  refine QV (by decide) ?_
  nofun
  refine Jb (by decide) ?_
  nofun
  exact ⟨q0,q1,_,_,rfl,SqL.of g0,SqL.of g1,hk,hB,q⟩
 | mark hk hB=>
  obtain ⟨q0,q1,rfl,g0,g1⟩:=rows2 hrs
  refine QV (by decide) ?_
  nofun
  refine QV (by decide) ?_
  nofun
  refine QV (by decide) ?_
  nofun
  refine Jb (by decide) ?_
  nofun
  exact ⟨q0,q1,_,_,rfl,SqL.of g0,SqL.of g1,hk,hB,q⟩
 | mix hk=>
  obtain ⟨q0,rfl,g0⟩:=Zeb hrs
  refine QV (by decide) ?_
  nofun
  refine QV (by decide) ?_
  nofun
  refine QV (by decide) ?_
  nofun
  refine QV (by decide) ?_
  nofun
  all_goals first | exact OJ _ | exact OV (OJ _) | exact OV (OV (OJ _)) | exact ⟨_,_,_,q0,_,rfl,SqL.of g0,hk,q⟩
 | begin_ | holder | drop | try_ | two | told | give | show_ | take | void | sweep | save | load=>exact absurd h4 (by decide)
def spAH (CS CH:Addr):Sp:=fun vs H Q _=>∃(ha:Addr) (h:OF) (F G:Addr->Prop) (num:Nat) (wa ra:Addr) (ws:List Nat) (qs:List Addr) (rs:List (List Nat)) (x:U9),vs=[.ref ha,N_ num,.ref wa,.ref ra]/\Yq CS CH H ha h F/\Yx h/\H wa=some (.lst (LN ws))/\H ra=some (.lst (qs.map V.ref))/\Zex H qs rs/\(∀q,q∈qs->G q/\¬ F q)/\Ask num ws rs x/\11<=num/\num<=21/\Jh CS CH H ha F G (O6 h x) Q
theorem Zfp:Zs ["house","number","wholes","rows"] ["house","number","wholes","rows"] (Zj (top 148)):=qsc
theorem ZfK (G_HOLDER:ZU mg "HOLDER" 11) (G_DROP:ZU mg "DROP" 12) (G_TRY:ZU mg "TRY" 13) (G_TWO:ZU mg "TWO" 14) (G_TOLD:ZU mg "TOLD" 15) (G_GIVE:ZU mg "GIVE" 16) (G_SHOW:ZU mg "SHOW" 17) (G_TAKE:ZU mg "TAKE" 18) (G_VOID:ZU mg "VOID" 19) (G_SWEEP:ZU mg "SWEEP" 20) (YQ:Cls K Zm) (R:Raw K mg "answer_house" "answer_house" (top 148) ["house","number","wholes","rows"])
 (Qx:ZC P w K mg base 3 Zm "add_holder" ["self","step","digits","first","secret"] (spAdd Zm Zg)) (W3:ZC P w K mg base 3 Zm "drop_holder" ["self","place"] (spDrop Zm Zg)) (Jn:ZC P w K mg base 7 Zm "try_code" ["self","place","now","code"] (spTryC Zm Zg)) (JR:ZC P w K mg base 7 Zm "try_two" ["self","place","now","digits","codes"] (spTwoC Zm Zg)) (W7:ZC P w K mg base 3 Zm "tell_holder" ["self","place"] (spTell Zm Zg)) (W4:ZC P w K mg base 5 Zm "give_ticket" ["self","place","now","span","rights"] (spGive Zm Zg)) (W5:ZC P w K mg base 7 Zm "show_ticket" ["self","now","row"] (spShow Zm Zg)) (W6:ZC P w K mg base 7 Zm "take_ticket" ["self","row"] (spTakeT Zm Zg)) (WD:ZC P w K mg base 3 Zm "void_tickets" ["self","place"] (spVoid Zm Zg)) (Qz:ZC P w K mg base 3 Zm "sweep_list" ["self","now"] (spSweep Zm Zg)) (ZaR:Zh P w K mg base 5 "answer_save" ["house","key"] (spSave Zm Zg)):Zh P w K mg base 8 "answer_house" ["house","number","wholes","rows"] (spAH Zm Zg):=by
 refine R.callee Zfp (fun vs H Q E h=>?_) (fun f cdv A outer s H vs Q E hr h=>?_)
 ·walk_at "ln"
 obtain ⟨ha,h,F,G,num,wa,ra,ws,qs,rs,x,rfl,hp,ok,hw,hra,hrs,hG,ask,h11,h21,q⟩:=h
 have hp':=hp
 obtain ⟨has,dx,ka,hl,tl,vs,ts,p⟩:=hp
 have po:=p.o
 refine ⟨_,(Zb (ZM (ZP XW (pv 1) (ZT G_HOLDER) (ZR _)) (Zd (Zk (Z9 YQ Qx hr (pv 0) (Za (Zy (Zv K) (pv 2) (Zi 0)) (Za (Zy (Zv K) (pv 2) (Zi 1)) (Za (Zy (Zv K) (pv 2) (Zi 2)) (Za (Zy (Zv K) (pv 3) (Zi 0)) Zc))))))) Zx) (Zb (ZM (ZP XW (pv 1) (ZT G_DROP) (ZR _)) (Zd (Zk (Z9 YQ W3 hr (pv 0) (Za (Zy (Zv K) (pv 2) (Zi 0)) Zc)))) Zx) (Zb (ZM (ZP XW (pv 1) (ZT G_TRY) (ZR _)) (Zd (Zk (Z9 YQ Jn hr (pv 0) (Za (Zy (Zv K) (pv 2) (Zi 0)) (Za (Zy (Zv K) (pv 2) (Zi 1)) (Za (Zy (Zv K) (pv 3) (Zi 0)) Zc)))))) Zx) (Zb (ZM (ZP XW (pv 1) (ZT G_TWO) (ZR _)) (Zd (Zk (Z9 YQ JR hr (pv 0) (Za (Zy (Zv K) (pv 2) (Zi 0)) (Za (Zy (Zv K) (pv 2) (Zi 1)) (Za (Zy (Zv K) (pv 2) (Zi 2)) (Za (Zy (Zv K) (pv 3) (Zi 0)) Zc))))))) Zx) (Zb (ZM (ZP XW (pv 1) (ZT G_TOLD) (ZR _)) (Zd (Zk (Z9 YQ W7 hr (pv 0) (Za (Zy (Zv K) (pv 2) (Zi 0)) Zc)))) Zx) (Zb (ZM (ZP XW (pv 1) (ZT G_GIVE) (ZR _)) (Zd (Zk (Z9 YQ W4 hr (pv 0) (Za (Zy (Zv K) (pv 2) (Zi 0)) (Za (Zy (Zv K) (pv 2) (Zi 1)) (Za (Zy (Zv K) (pv 2) (Zi 2)) (Za (Zy (Zv K) (pv 2) (Zi 3)) Zc))))))) Zx) (Zb (ZM (ZP XW (pv 1) (ZT G_SHOW) (ZR _)) (Zd (Zk (Z9 YQ W5 hr (pv 0) (Za (Zy (Zv K) (pv 2) (Zi 0)) (Za (Zy (Zv K) (pv 3) (Zi 0)) Zc))))) Zx) (Zb (ZM (ZP XW (pv 1) (ZT G_TAKE) (ZR _)) (Zd (Zk (Z9 YQ W6 hr (pv 0) (Za (Zy (Zv K) (pv 3) (Zi 0)) Zc)))) Zx) (Zb (ZM (ZP XW (pv 1) (ZT G_VOID) (ZR _)) (Zd (Zk (Z9 YQ WD hr (pv 0) (Za (Zy (Zv K) (pv 2) (Zi 0)) Zc)))) Zx) (Zb (ZM (ZP XW (pv 1) (ZT G_SWEEP) (ZR _)) (Zd (Zk (Z9 YQ Qz hr (pv 0) (Za (Zy (Zv K) (pv 2) (Zi 0)) Zc)))) Zx) (Zd (Zk (Ze ZaR hr (Za (pv 0) (Za (Zy (Zv K) (pv 3) (Zi 0)) Zc))))))))))))))),?_⟩
 refine Zo (σ':=[some (.ref ha),some (N_ num),some (.ref wa),some (.ref ra)]) rfl ?_
 nofun
 cases ask with
 | code | wrap | unwrap | mark | mix | begin_=>exact absurd h11 (by decide)
 | load=>exact absurd h21 (by decide)
 | holder hB=>
  obtain ⟨q0,rfl,g0⟩:=Zeb hrs
  obtain ⟨gg,nf⟩:=hG q0 (Ow ..)
  refine Jb (by decide) ?_
  nofun
  all_goals first | exact OJ _ | exact OV (OJ _) | exact OV (OV (OJ _)) | exact ⟨ha,q0,h,F,G,_,_,_,_,rfl,hp',ok,g0,hB,gg,nf,q⟩
 | drop=>
  repeat (refine QV (by decide) ?_; nofun)
  refine Jb (by decide) ?_
  nofun
  all_goals first | exact OJ _ | exact ⟨ha,h,F,G,_,rfl,hp',ok,q⟩
 | try_=>
  obtain ⟨q0,rfl,g0⟩:=Zeb hrs
  repeat (refine QV (by decide) ?_; nofun)
  refine Jb (by decide) ?_
  nofun
  all_goals first | exact OJ _ | exact OV (OJ _) | exact ⟨ha,q0,h,F,G,_,_,_,rfl,hp',ok,g0,q⟩
 | two hl2=>
  obtain ⟨q0,rfl,g0⟩:=Zeb hrs
  repeat (refine QV (by decide) ?_; nofun)
  refine Jb (by decide) ?_
  nofun
  all_goals first | exact OJ _ | exact OV (OJ _) | exact OV (OV (OJ _)) | exact ⟨ha,q0,h,F,G,_,_,_,_,rfl,hp',ok,g0,hl2,q⟩
 | told=>
  repeat (refine QV (by decide) ?_; nofun)
  refine Jb (by decide) ?_
  nofun
  all_goals first | exact OJ _ | exact ⟨ha,h,F,G,_,rfl,hp',ok,q⟩
 | give hri=>
  repeat (refine QV (by decide) ?_; nofun)
  refine Jb (by decide) ?_
  nofun
  all_goals first | exact OJ _ | exact OV (OJ _) | exact OV (OV (OJ _)) | exact OV (OV (OV (OJ _))) | exact ⟨ha,h,F,G,_,_,_,_,rfl,hp',ok,hri,q⟩
 | show_ h40 hB=>
  obtain ⟨q0,rfl,g0⟩:=Zeb hrs
  repeat (refine QV (by decide) ?_; nofun)
  refine Jb (by decide) ?_
  nofun
  all_goals first | exact OJ _ | exact ⟨ha,q0,h,F,G,_,_,rfl,hp',ok,g0,h40,hB,q⟩
 | take h40 hB=>
  obtain ⟨q0,rfl,g0⟩:=Zeb hrs
  repeat (refine QV (by decide) ?_; nofun)
  refine Jb (by decide) ?_
  nofun
  all_goals first | exact OJ _ | exact ⟨ha,q0,h,F,G,_,rfl,hp',ok,g0,h40,hB,q⟩
 | void=>
  repeat (refine QV (by decide) ?_; nofun)
  refine Jb (by decide) ?_
  nofun
  all_goals first | exact OJ _ | exact ⟨ha,h,F,G,_,rfl,hp',ok,q⟩
 | sweep=>
  repeat (refine QV (by decide) ?_; nofun)
  refine Jb (by decide) ?_
  nofun
  all_goals first | exact OJ _ | exact ⟨ha,h,F,G,_,rfl,hp',ok,q⟩
 | save hB=>
  obtain ⟨q0,rfl,g0⟩:=Zeb hrs
  repeat (refine QV (by decide) ?_; nofun)
  exact ⟨ha,q0,h,F,G,_,rfl,hp',ok,g0,hB,q⟩
structure LineK (K:Oa) (C:Addr):Prop where
 cl:Cls K C
 n1:Ym K C "house"
def LA (CL CS CH:Addr) (H:Hp) (la:Addr) (s:Io) (F:Addr->Prop):Prop:=
 F la/\(∀b,F b->∃u,H b=some u)/\((s=none/\∃dx,H la=some (.ins CL dx [("house",.non)]))∨∃(h:OF) (dx ha:Addr) (F0:Addr->Prop),s=some h/\H la=some (.ins CL dx [("house",.ref ha)])/\Yq CS CH H ha h F0/\Yx h/\(∀b,F0 b->F b)/\¬ F0 la)
theorem Zd0 {CL CS CH:Addr}:LineP (LA CL CS CH):=by
 refine ⟨fun {H H' la s F} h hk=>?_,fun {H la s F b} h fb=>h.2.1 b fb⟩
 obtain ⟨fl,has,hh⟩:=h
 refine ⟨fl,fun b fb=>let ⟨u,e⟩:=has b fb; ⟨u,hk b u fb e⟩,?_⟩
 rcases hh with ⟨e,dx,g⟩ | ⟨h,dx,ha,F0,e,g,hp,ok,h0,nl⟩
 ·exact .inl ⟨e,dx,hk _ _ fl g⟩
 ·exact .inr ⟨h,dx,ha,F0,e,hk _ _ fl g,hp.keep fun b u fb eb=>hk b u (h0 b fb) eb,ok,h0,nl⟩
theorem la_at {CL CS CH:Addr} {H:Hp} {la:Addr} {s:Io} {F:Addr->Prop} (h:LA CL CS CH H la s F):∃dx v,H la=some (.ins CL dx [("house",v)]):=by
 rcases h.2.2 with ⟨_,dx,g⟩ | ⟨_,dx,ha,_,_,g,_⟩
 ·exact ⟨dx,_,g⟩
 ·exact ⟨dx,_,g⟩
def LPost (CL CS CH:Addr) (H:Hp) (la:Addr) (F G:Addr->Prop) (r:Vq×Option OF) (Q:VK):Prop:=∀(H':Hp) (q:Addr) (F':Addr->Prop),Frame F H H'->LA CL CS CH H' la r.2 F'->(∀b,F' b->F b∨G b∨H b=none)->H q=none->¬ F' q->H' q=some (.lst (LI (ansI r.1)))->Q (.ref q) H'
theorem Zd3 {CL CS CH:Addr} {H H1:Hp} {la l:Addr} {F G:Addr->Prop} {s:Option OF} {z:Int} {Q:VK} (q:LPost CL CS CH H la F G (II z,s) Q) (hz:z < 0) (p:LA CL CS CH H la s F) (t:ZA H H1) (h1:H1 l=none):Q (.ref l) (upd H1 l (.lst [.int z])):=by
 have h0:=t.free h1
 have nl:∀b u,H b=some u->b≠l:=fun b u e=>Zu e h0
 refine q _ l F (fun b o _ e=>by rw [ZN (nl _ _ e)]; exact t _ _ e) (Zd0.keep p fun b u _ e=>by rw [ZN (nl _ _ e)]; exact t _ _ e) (fun b fb=>.inl fb) h0 (fun fl=>?_) ?_
 ·obtain ⟨u,e⟩:=Zd0.has p fl
  rw [h0] at e
  exact absurd e (by simp)
 ·rw [Zn,ZeA hz]
  rfl
theorem lp_ref {CL CS CH:Addr} {H:Hp} {la:Addr} {F G:Addr->Prop} {Q:VK} {c:Bool} {s:Option OF} {r:Vq×Option OF} {z:Int} (q:LPost CL CS CH H la F G (if c=false then (II z,s) else r) Q):(c=false->LPost CL CS CH H la F G (II z,s) Q)/\(c=true->LPost CL CS CH H la F G r Q):=by
 cases c
 ·exact ⟨fun _=>q,fun h=>absurd h (by decide)⟩
 ·exact ⟨fun h=>absurd h (by decide),fun _=>q⟩
theorem sc_line_init:Zs ["self"] ["self"] (Zj (Zr (top 149) 0)):=qsc
theorem c_line_init (kL:LineK K Yf) (R:RawI K Yf "Line.__init__" (Zr (top 149) 0) ["self"]):XC P w K mg base 1 Yf ["self"] (spLine (LA Yf Zm Zg) Yf):=by
 refine R.callee sc_line_init (fun vs H Q E h=>?_) (fun f cdv A outer s H vs Q E hr h=>?_)
 ·walk_at "ln"
 obtain ⟨la,dx,rfl,ha,q⟩:=h
 obtain ⟨l0,l1⟩:=kL
 refine ⟨_,(Zd (Z1 K (pv 0) Qe)),?_⟩
 refine Zo (σ':=[some (.ref la)]) rfl ?_
 nofun
 show Q _ _
 exact q _ (But.upd H _) ⟨rfl,fun b hb=>by rw [hb]; exact ⟨_,Zn⟩,.inl ⟨rfl,dx,Zn⟩⟩
def spBegin (CL CS CH:Addr):Sp:=fun vs H Q _=>∃(la kp:Addr) (s:Io) (F G:Addr->Prop) (key:Sy23.B),vs=[.ref la,.ref kp]/\LA CL CS CH H la s F/\H kp=some (.lst (LN key))/\Ol key/\G kp/\¬ F kp/\LPost CL CS CH H la F G (O9 s (.begin_ ((key.length:Nat):Int) key)) Q
theorem Zg2:Zs ["self","key"] ["self","key"] (Zj (Zr (top 149) 1)):=qsc
theorem c_line_begin (Zw:Xv mg "OUT_OF_RANGE" (-2)) (kL:LineK K Yf) (Zd5:mg "House"=some (.ref Zm)) (R:YB K Yf "begin" "Line.begin" (Zr (top 149) 1) ["self","key"]) (Ys:Zh P w K mg base 2 "is_key" ["row"] (ZaL K)) (WN:XC P w K mg base 1 Zm ["self","key"] (spHouse Zm)):ZC P w K mg base 3 Yf "begin" ["self","key"] (spBegin Yf Zm Zg):=by
 refine R.callee Zg2 (fun vs H Q E h=>?_) (fun f cdv A outer s H vs Q E hr h=>?_)
 ·walk_at "ln"
 obtain ⟨la,kp,s,F,G,key,rfl,hla,hkp,hB,gk,nk,q⟩:=h
 obtain ⟨l0,l1⟩:=kL
 obtain ⟨dl,v0,gla⟩:=la_at hla
 refine ⟨_,(Zb (ZM (Y8 (Z0 (Ze Ys hr (Za (pv 1) Zc)))) (Zd (Zk (ZH (Za (YM Zw) Zc)))) Zx) (Zb (Z1 K (pv 0) (Zaq Zd5 WN hr (Za (pv 1) Zc))) (Zd (Zk (ZH (Za (Zi 0) Zc)))))),?_⟩
 refine Zo (σ':=[some (.ref la),some (.ref kp)]) rfl ?_
 unfold O9 at q
 obtain ⟨q1,q2⟩:=lp_ref q
 rw [QR] at q1 q2
 nofun
 refine ⟨kp,key,rfl,SqL.of hkp,hB,fun H1 t1=>?_⟩
 nofun
 cases g1:XR key.length with
 | false=>
  refine YV ?_
  nofun
  exact ⟨Zp (by simp),fun u hu=>Zd3 (q1 g1) (by decide) hla t1 hu⟩
 | true=>
  have q3:=q2 g1
  refine Xc ?_
  nofun
  intro ha dx hna hdx nax
  obtain ⟨H2,e2⟩:∃H2,H2=upd (upd H1 dx (.own ha)) ha (.ins Zm dx []):=⟨_,rfl⟩
  have k2:ZA H1 H2:=by rw [e2]; exact Zz (Zz (Zl _) hdx) hna
  have a2:H2 ha=some (.ins Zm dx []):=by rw [e2]; exact Zn
  rw [<- e2]
  refine ⟨ha,dx,kp,rfl,a2,fun H3 hl tl b3 n1 n2 n3 h3 l3 l4=>⟨rfl,?_⟩⟩
  have ha0:H ha=none:=t1.free hna
  have t3:ZA H H3:=fun c o hc=>b3 _ _ (Zu hc ha0) (k2 _ _ (t1 _ _ hc))
  have hl0:H hl=none:=t1.free (k2.free n1)
  have tl0:H tl=none:=t1.free (k2.free n2)
  have gla3:=t3 _ _ gla
  nofun
  obtain ⟨H4,e4⟩:∃H4,H4=upd H3 la (.ins Yf dl [("house",.ref ha)]):=⟨_,rfl⟩
  have h4:H4 la=some (.ins Yf dl [("house",.ref ha)]):=by rw [e4]; exact Zn
  have b4:But la H3 H4:=by rw [e4]; exact But.upd H3 _
  rw [show upd H3 la (.ins Yf dl (X5 "house" (V.ref ha) [("house",v0)]))=H4 from e4.symm]
  have nha:ha≠la:=(Zu gla ha0).symm
  have nhl:hl≠la:=(Zu gla hl0).symm
  have ntl:tl≠la:=(Zu gla tl0).symm
  have nkp:kp≠la:=fun z=>nk (z ▸ hla.1)
  have b04:But la H H4:=(ZA.but t3).trans b4
  have nlk:hl≠kp:=(Zu hkp hl0).symm
  have ntk:tl≠kp:=(Zu hkp tl0).symm
  have hp:Yq Zm Zg H4 ha (Sy23.fresh key) (fun b=>b=ha∨b=kp∨b=hl∨b=tl):=by
   refine ⟨?_,dx,kp,hl,tl,Ou 64 .non,[],⟨.inl rfl,.inr (.inl rfl),.inr (.inr (.inl rfl)),.inr (.inr (.inr rfl)),b4 _ _ nha h3,b04 _ _ nkp hkp,b4 _ _ nhl l3,b4 _ _ ntl l4,nlk,ntk,n3,⟨?_,fun i v o e1 e2=>?_,fun i j a e1 e2=>?_⟩,⟨rfl,fun i t e e1=>by simp at e1⟩⟩⟩
   ·rintro b (rfl | rfl | rfl | rfl)
    ·exact ⟨_,b4 _ _ nha h3⟩
    ·exact ⟨_,b04 _ _ nkp hkp⟩
    ·exact ⟨_,b4 _ _ nhl l3⟩
    ·exact ⟨_,b4 _ _ ntl l4⟩
   ·show (Ou 64 V.non).length=(Ou Sy23.PLACES none).length
    rw [Ij,Ij]
    rfl
   ·exact .inl ⟨Uo (O5 e1),Uo (O5 e2)⟩
   ·exact absurd (Uo (O5 e1)) (by simp)
  nofun
  refine ⟨Zp (by simp),fun u hu=>?_⟩
  have hu0:H u=none:=b04.free h4 hu
  have k5:ZA H4 (upd H4 u (.lst [N_ 0])):=Zz (Zl _) hu
  have nu:∀b o,H4 b=some o->b≠u:=fun b o e=>Zu e hu
  refine q3 _ u (fun b=>(b=ha∨b=kp∨b=hl∨b=tl)∨b=la) (fun b o nf e=>k5 _ _ (b04 _ _ (fun z=>nf (z ▸ hla.1)) e)) ⟨.inr rfl,?_,.inr ⟨_,dl,ha,_,rfl,k5 _ _ h4,hp.keep fun b u _ e=>k5 _ _ e,fresh_ok g1 hB,fun b hb=>.inl hb,?_⟩⟩ ?_ hu0 ?_ (by rw [Zn]; rfl)
  ·rintro b (hb | rfl)
   ·obtain ⟨u',e⟩:=hp.1 b hb
    exact ⟨u',k5 _ _ e⟩
   ·exact ⟨_,k5 _ _ h4⟩
  ·rintro (z | z | z | z)
   ·exact nha z.symm
   ·exact nkp z.symm
   ·exact nhl z.symm
   ·exact ntl z.symm
  ·rintro b ((rfl | rfl | rfl | rfl) | rfl)
   ·exact .inr (.inr ha0)
   ·exact .inr (.inl gk)
   ·exact .inr (.inr hl0)
   ·exact .inr (.inr tl0)
   ·exact .inl hla.1
  ·rintro (hb | rfl)
   ·obtain ⟨u',e⟩:=hp.1 u hb
    exact nu _ _ e rfl
   ·exact nu _ _ h4 rfl
def spLoad (CL CS CH:Addr):Sp:=fun vs H Q _=>∃(la kp up sp:Addr) (s:Io) (F G:Addr->Prop) (key under b:Sy23.B),vs=[.ref la,.ref kp,.ref up,.ref sp]/\LA CL CS CH H la s F/\H kp=some (.lst (LN key))/\H up=some (.lst (LN under))/\H sp=some (.lst (LN b))/\Ol key/\Ol under/\Ol b/\b.length=12312/\G kp/\¬ F kp/\LPost CL CS CH H la F G (O9 s (.load ((key.length:Nat):Int) ((under.length:Nat):Int) key under b)) Q
theorem Zee:Zs ["self","key","under","saved","house"] ["self","key","under","saved"] (Zj (Zr (top 149) 2)):=qsc
theorem c_line_load (Zw:Xv mg "OUT_OF_RANGE" (-2)) (Xi:Xv mg "NOT_GENUINE" (-5)) (Zbx:ZU mg "SAVED_SIZE" 12312) (kL:LineK K Yf) (R:YB K Yf "load" "Line.load" (Zr (top 149) 2) ["self","key","under","saved"]) (Ys:Zh P w K mg base 2 "is_key" ["row"] (ZaL K)) (Z2:Zh P w K mg base 1 "are_bytes" ["row","least","last"] (QX K)) (Zaf:Zh P w K mg base 6 "loaded_house" ["key","under","saved"] (spLoaded Zm Zg)):ZC P w K mg base 7 Yf "load" ["self","key","under","saved"] (spLoad Yf Zm Zg):=by
 refine R.callee Zee (fun vs H Q E h=>?_) (fun f cdv A outer s H vs Q E hr h=>?_)
 ·walk_at "ln"
 obtain ⟨la,kp,up,sp,s,F,G,key,under,b,rfl,hla,hkp,hup,hsp,bk,bu,bb,hbl,gk,nk,q⟩:=h
 obtain ⟨l0,l1⟩:=kL
 obtain ⟨dl,v0,gla⟩:=la_at hla
 refine ⟨_,(Zb (ZM (Y8 (PW.pt (Xd (Z0 (Ze Ys hr (Za (pv 1) Zc))) (Xd (Z0 (Ze Ys hr (Za (pv 2) Zc))) (XI (Z0 (Ze Z2 hr (Za (pv 3) (Za (ZT Zbx) (Za (ZT Zbx) Zc)))))))))) (Zd (Zk (ZH (Za (YM Zw) Zc)))) Zx) (Zb (Zq 4 Zee.nd (Ze Zaf hr (Za (pv 1) (Za (pv 2) (Za (pv 3) Zc))))) (Zb (ZM (XT (Wq (pv 4))) (Zd (Zk (ZH (Za (YM Xi) Zc)))) Zx) (Zb (Z1 K (pv 0) (pv 4)) (Zd (Zk (ZH (Za (Zi 0) Zc)))))))),?_⟩
 refine Zo (σ':=[some (.ref la),some (.ref kp),some (.ref up),some (.ref sp),none]) rfl ?_
 unfold O9 at q
 obtain ⟨q1,q2⟩:=lp_ref q
 rw [QR,QR] at q1 q2
 nofun
 refine ⟨kp,key,rfl,SqL.of hkp,bk,fun H1 t1=>?_⟩
 nofun
 cases g1:XR key.length with
 | false=>
  rw [if_neg Oo]
  refine YV ?_
  nofun
  exact ⟨Zp (by simp),fun u hu=>Zd3 (q1 (by rw [g1]; rfl)) (by decide) hla t1 hu⟩
 | true=>
  rw [if_pos rfl]
  nofun
  refine ⟨up,under,rfl,SqL.of (t1 _ _ hup),bu,fun H2 k2=>?_⟩
  have t2:=t1.trans k2
  nofun
  cases g2:XR under.length with
  | false=>
   rw [if_neg Oo]
   refine YV ?_
   nofun
   exact ⟨Zp (by simp),fun u hu=>Zd3 (q1 (by rw [g1,g2]; rfl)) (by decide) hla t2 hu⟩
  | true=>
   have q3:=q2 (by rw [g1,g2]; rfl)
   rw [if_pos rfl]
   nofun
   refine ⟨sp,b,12312,12312,rfl,SqL.of (t2 _ _ hsp),bb,?_⟩
   rw [decide_eq_true (show 12312<=b.length/\b.length<=12312 by simp [*])]
   nofun
   refine Xc ?_
   nofun
   refine ⟨kp,up,sp,key,under,b,rfl,t2 _ _ hkp,t2 _ _ hup,t2 _ _ hsp,bk,bu,bb,g1,g2,hbl,fun en H3 k3=>?_,fun h H3 ha F0 es k3 hp ok hF=>?_⟩
   ·nofun
    rw [decide_eq_true rfl]
    refine YV ?_
    nofun
    rw [en] at q3
    exact ⟨Zp (by simp),fun u hu=>Zd3 q3 (by decide) hla (t2.trans k3) hu⟩
   have t3:=t2.trans k3
   have gla3:=t3 _ _ gla
   nofun
   rw [decide_eq_false (fun h=>V.noConfusion h)]
   refine Xc ?_
   nofun
   rw [es] at q3
   obtain ⟨H4,e4⟩:∃H4,H4=upd H3 la (.ins Yf dl [("house",.ref ha)]):=⟨_,rfl⟩
   have h4:H4 la=some (.ins Yf dl [("house",.ref ha)]):=by rw [e4]; exact Zn
   have b4:But la H3 H4:=by rw [e4]; exact But.upd H3 _
   rw [show upd H3 la (.ins Yf dl (X5 "house" (V.ref ha) [("house",v0)]))=H4 from e4.symm]
   have b04:But la H H4:=(ZA.but t3).trans b4
   have nF:∀c,F0 c->c≠la:=fun c hc z=>by
    rcases hF c hc with y | y
    ·exact nk (y ▸ z ▸ hla.1)
    ·rw [z,t2 _ _ gla] at y
     exact absurd y (by simp)
   have hp4:=hp.keep fun c u fc e=>b4 _ _ (nF c fc) e
   nofun
   refine ⟨Zp (by simp),fun u hu=>?_⟩
   have hu0:H u=none:=b04.free h4 hu
   have k5:ZA H4 (upd H4 u (.lst [N_ 0])):=Zz (Zl _) hu
   have nu:∀b o,H4 b=some o->b≠u:=fun b o e=>Zu e hu
   refine q3 _ u (fun c=>F0 c∨c=la) (fun c o nf e=>k5 _ _ (b04 _ _ (fun z=>nf (z ▸ hla.1)) e)) ⟨.inr rfl,?_,.inr ⟨_,dl,ha,_,rfl,k5 _ _ h4,hp4.keep fun b u _ e=>k5 _ _ e,ok,fun b hb=>.inl hb,fun z=>nF _ z rfl⟩⟩ ?_ hu0 ?_ (by rw [Zn]; rfl)
   ·rintro c (hc | rfl)
    ·obtain ⟨u',e⟩:=hp4.1 c hc
     exact ⟨u',k5 _ _ e⟩
    ·exact ⟨_,k5 _ _ h4⟩
   ·rintro c (hc | rfl)
    ·rcases hF c hc with rfl | y
     ·exact .inr (.inl gk)
     ·exact .inr (.inr (t2.free y))
    ·exact .inl hla.1
   ·rintro (hc | rfl)
    ·obtain ⟨u',e⟩:=hp4.1 u hc
     exact nu _ _ e rfl
    ·exact nu _ _ h4 rfl
theorem step_eq {s:Io} {c:List (List Int)} {x:U9} (h:VR c=some x):OT s c=((O9 s x).2,ansI (O9 s x).1):=by
 unfold OT
 rw [h]
 rfl
theorem does_part {num:Nat} {ws:List Nat} {rs:List (List Nat)} {x:U9} {s:Option OF} (a:Ask num ws rs x) (h4:num<=4):(O9 s x).2=s/\(O9 s x).1=(O9 none x).1:=by
 cases a with
 | code=>unfold O9; dsimp only; constructor <;> split <;> rfl
 | wrap=>unfold O9; dsimp only; constructor <;> split <;> rfl
 | unwrap=>unfold O9; dsimp only; constructor <;> split <;> first | rfl | (split <;> rfl)
 | mark=>unfold O9; dsimp only; constructor <;> split <;> rfl
 | mix=>unfold O9; dsimp only; constructor <;> split <;> rfl
 | begin_ | holder | drop | try_ | two | told | give | show_ | take | void | sweep | save | load=>exact absurd h4 (by decide)
theorem does_on {num:Nat} {ws:List Nat} {rs:List (List Nat)} {x:U9} {h:OF} (a:Ask num ws rs x) (h11:11<=num) (h21:num<=21):O9 (some h) x=((O6 h x).1,some (O6 h x).2)/\O9 none x=(II (-2),none):=by
 cases a with
 | code | wrap | unwrap | mark | mix | begin_=>exact absurd h11 (by decide)
 | load=>exact absurd h21 (by decide)
 | holder | drop | try_ | two | told | give | show_ | take | void | sweep | save=>exact ⟨rfl,rfl⟩
theorem ask_num {num:Nat} {ws:List Nat} {rs:List (List Nat)} {x:U9} (a:Ask num ws rs x):num<=4∨num=10∨num=22∨(11<=num/\num<=21):=by
 cases a <;> decide
theorem Zgi:Zs ["self","call"] ["self","call"] (Zj (Zr (top 149) 3)):=qsc
theorem ZgQ (G_MIX:ZU mg "MIX" 4) (G_BEGIN:ZU mg "BEGIN" 10) (G_LOAD:ZU mg "LOAD" 22) (Zw:Xv mg "OUT_OF_RANGE" (-2)) (kL:LineK K Yf) (kC:CallK K Wu) (R:YB K Yf "answer" "Line.answer" (Zr (top 149) 3) ["self","call"]) (ZaQ:Zh P w K mg base 8 "answer_part" ["number","wholes","rows"] spPart) (Zac:Zh P w K mg base 8 "answer_house" ["house","number","wholes","rows"] (spAH Zm Zg)) (Zbt:ZC P w K mg base 3 Yf "begin" ["self","key"] (spBegin Yf Zm Zg)) (Zb3:ZC P w K mg base 7 Yf "load" ["self","key","under","saved"] (spLoad Yf Zm Zg)) :
 ZC P w K mg base 10 Yf "answer" ["self","call"] (Zeh (LA Yf Zm Zg) Wu):=by
 refine R.callee Zgi (fun vs H Q E h=>?_) (fun f cdv A outer s H vs Q E hr h=>?_)
 ·walk_at "ln"
 obtain ⟨la,ca,s,F,G,num,ws,rs,rfl,hla,hca,hGF,hask,q⟩:=h
 obtain ⟨ZdV,l1⟩:=kL
 obtain ⟨c0,c1,c2,c3⟩:=kC
 obtain ⟨dl,v0,gla⟩:=la_at hla
 obtain ⟨dy,wa,ra,qs,g1,g2,g3,g4,hc,hwa,hra,hrs⟩:=hca
 obtain ⟨x,ask,hx⟩:=ask_of hask
 rw [step_eq hx] at q
 have nF:∀l,H l=none->¬ F l:=fun l hl fl=>by
  obtain ⟨u,e⟩:=Zd0.has hla fl
  rw [hl] at e
  exact absurd e (by simp)
 refine ⟨_,(Zb (ZM (ZP JY (Zt K (pv 1)) (ZT G_MIX) (ZR _)) (Zd (Zk (Ze ZaQ hr (Za (Zt K (pv 1)) (Za (Zt K (pv 1)) (Za (Zt K (pv 1)) Zc)))))) Zx) (Zb (ZM (ZP XW (Zt K (pv 1)) (ZT G_BEGIN) (ZR _)) (Zd (Zk (Z9 ZdV Zbt hr (pv 0) (Za (Zy (Zv K) (Zt K (pv 1)) (Zi 0)) Zc)))) Zx) (Zb (ZM (ZP XW (Zt K (pv 1)) (ZT G_LOAD) (ZR _)) (Zd (Zk (Z9 ZdV Zb3 hr (pv 0) (Za (Zy (Zv K) (Zt K (pv 1)) (Zi 0)) (Za (Zy (Zv K) (Zt K (pv 1)) (Zi 1)) (Za (Zy (Zv K) (Zt K (pv 1)) (Zi 2)) Zc)))))) Zx) (Zb (ZM (XT (Wq (Zt K (pv 0)))) (Zd (Zk (ZH (Za (YM Zw) Zc)))) Zx) (Zd (Zk (Ze Zac hr (Za (Zt K (pv 0)) (Za (Zt K (pv 1)) (Za (Zt K (pv 1)) (Za (Zt K (pv 1)) Zc))))))))))),?_⟩
 refine Zo (σ':=[some (.ref la),some (.ref ca)]) rfl ?_
 nofun
 have hn:=ask_num ask
 refine dif (fun h4=>?_) (fun h4=>?_)
 ·nofun
  obtain ⟨d1,d2⟩:=does_part (s:=s) ask h4
  refine ⟨num,wa,ra,ws,qs,rs,x,rfl,hwa,hra,hrs,ask,h4,fun H' l t' hl hl'=>?_⟩
  refine q H' l F (Jr t') ?_ (fun b fb=>.inl fb) hl (nF l hl) (by rw [hl',d2])
  show LA Yf Zm Zg H' la (O9 s x).2 F
  rw [d1]
  exact Zd0.keep hla fun b u _ e=>t' _ _ e
 ·nofun
  refine dif (fun h10=>?_) (fun h10=>?_)
  ·subst h10
   cases ask with
   | begin_ hB=>
    obtain ⟨q0,rfl,g0⟩:=Zeb hrs
    nofun
    exact ⟨la,q0,s,F,G,_,rfl,hla,g0,hB,g4 q0 (Ow ..),hGF _ (g4 q0 (Ow ..)),q⟩
  ·nofun
   refine dif (fun h22=>?_) (fun h22=>?_)
   ·subst h22
    cases ask with
    | load b1 b2 b3 hl=>
     obtain ⟨q0,q1,q2,rfl,f0,f1,f2⟩:=rows3 hrs
     nofun
     exact ⟨la,q0,q1,q2,s,F,G,_,_,_,rfl,hla,f0,f1,f2,b1,b2,b3,hl,g4 q0 (Ow ..),hGF _ (g4 q0 (Ow ..)),q⟩
   ·have h11:11<=num/\num<=21:=by lia
    have hla':=hla
    obtain ⟨fl,has,hh⟩:=hla
    rcases hh with ⟨rfl,dx,gn⟩ | ⟨h,dx,ha,F0,rfl,gh,hp,ok,h0,nl⟩
    ·obtain ⟨-,d2⟩:=does_on (h:=Sy23.fresh []) ask h11.1 h11.2
     rw [d2] at q
     nofun
     rw [decide_eq_true rfl]
     refine YV ?_
     nofun
     exact ⟨Zp (by simp),fun u hu=>Zd3 (G:=G) (s:=none) (z:=-2) q (by decide) hla' (Zl _) hu⟩
    ·obtain ⟨d1,-⟩:=does_on (h:=h) ask h11.1 h11.2
     rw [d1] at q
     nofun
     rw [decide_eq_false (fun h=>V.noConfusion h)]
     refine Xc ?_
     nofun
     refine ⟨ha,h,F0,G,num,wa,ra,ws,qs,rs,x,rfl,hp,ok,hwa,hra,hrs,fun z hz=>⟨g4 z hz,fun f0=>hGF _ (g4 z hz) (h0 _ f0)⟩,ask,h11.1,h11.2,fun H' l F' fr hp' hs hl nl' hl'=>?_⟩
     have gh':=fr _ _ nl gh
     have nF':¬ F' la:=fun z=>by
      rcases hs la z with y | y | y
      ·exact nl y
      ·exact hGF _ y fl
      ·rw [gh] at y; exact absurd y (by simp)
     have nll:l≠la:=(Zu gh hl).symm
     refine q H' l (fun b=>F' b∨b=la) (fun b o nb e=>fr _ _ (fun z=>nb (h0 _ z)) e) ⟨.inr rfl,?_,.inr ⟨_,dx,ha,F',rfl,gh',hp',on_ok ask ok,fun b fb=>.inl fb,nF'⟩⟩ ?_ hl ?_ hl'
     ·rintro b (fb | rfl)
      ·exact hp'.1 b fb
      ·exact ⟨_,gh'⟩
     ·rintro b (fb | rfl)
      ·rcases hs b fb with y | y | y
       ·exact .inl (h0 _ y)
       ·exact .inr (.inl y)
       ·exact .inr (.inr y)
      ·exact .inl fl
     ·rintro (z | z)
      ·exact nl' z
      ·exact nll z
theorem la_call {H:Hp} {la:Addr} {s:Io} {F:Addr->Prop} (h:LA Yf Zm Zg H la s F):∃dx fs,H la=some (.ins Yf dx fs)/\fs.lookup ("answer":Str)=none/\F la:=by
 obtain ⟨dx,v,g⟩:=la_at h
 exact ⟨dx,_,g,rfl,h.1⟩
section
variable {P:Program} {w:World} {K:Oa} {mg:Str->Option Value} {base:Heap} {ZG Wu Yf:Addr} {LA:Hp->Addr->Io->(Addr->Prop)->Prop} {k:Nat}
theorem f_answers {f:Addr} {fd:FuncData} (B:Blt mg) (kR:Zby K ZG) (ZdV:Cls K Yf) (hLA:LineP LA) (hC:∀H la s F,LA H la s F->∃dx fs,H la=some (.ins Yf dx fs)/\fs.lookup ("answer":Str)=none/\F la) (mg_Reader:mg "Reader"=some (.ref ZG)) (mg_Line:mg "Line"=some (.ref Yf)) (FF:Fun K "answers" "answers" (top 150) f fd)
 (ZaX:XC P w K mg base 1 ZG ["self","calls"] (spReader ZG)) (JS:ZC P w K mg base 1 ZG "at_end" ["self"] (spAtEnd K ZG)) (QA:ZC P w K mg base 3 ZG "read_call" ["self"] (Zgv K ZG Wu))
 (Zb2:XC P w K mg base 1 Yf ["self"] (spLine LA Yf)) (ZaV:ZC P w K mg base 10 Yf "answer" ["self","call"] (Zeh LA Wu)):FnOk P w K mg base CX0 11 f fd ["calls"] (spAnswers K):=by
 refine FF.ok Zat (fun vs H Q E h=>?_) (fun cdv A outer s H vs Q E hr h=>?_)
 ·walk_at "ln"
 obtain ⟨p,l,rfl,hp,hd,q⟩:=h
 obtain ⟨QP,k2,k3⟩:=kR
 obtain ⟨f0,cs0,hcs,hask,hlen,hans⟩:=hd.ex
 refine ⟨_,(Zb (Zq 1 Zat.nd (Zaq mg_Reader ZaX hr (Za (pv 0) Zc))) (Zb (Zq 2 Zat.nd (pe_makeC0 mg_Line Zb2 hr)) (Zb (Zq 3 Zat.nd (ZH Zc)) (Zb (ps_while PassesOwn.never (Y8 (Z0 (QT QP JS hr (pv 1)))) (Zb (Zq 4 Zat.nd (Z9 ZdV ZaV hr (pv 2) (Za (QT QP QA hr (pv 1)) Zc))) (Zb (Xh (Ji OH PySem.F.slot_list_append PySem.F.type_list_append Zbd (pv 3) (Za (ZL (ZQ K) rfl B.len Ox (Za (pv 4) Zc)) Zc))) (Zd (Xh (Ji OH OW OX Xz (pv 3) (Za (pv 4) Zc))))))) (Zd (Zk (pv 3))))))),?_⟩
 refine Zo (σ':=[some (.ref p),none,none,none,none]) rfl ?_
 nofun
 intro a dx ha hdx nx
 obtain ⟨H1,e1⟩:∃H1,H1=upd (upd H dx (.own a)) a (.ins ZG dx []):=⟨_,rfl⟩
 have s1:ZA H H1:=by rw [e1]; exact Zz (Zz (Zl _) hdx) ha
 have a1:H1 a=some (.ins ZG dx []):=by rw [e1]; exact Zn
 rw [<- e1]
 refine ⟨a,dx,p,rfl,a1,rfl,?_⟩
 obtain ⟨H2,e2⟩:∃H2,H2=upd H1 a (rdO ZG dx p 0):=⟨_,rfl⟩
 have a2:H2 a=some (rdO ZG dx p 0):=by rw [e2]; exact Zn
 have p2:SqL K H2 p (LN l):=by rw [e2]; exact (But.upd H1 _).seq a1 (s1.seq hp)
 rw [<- e2]
 nofun
 intro la dl hla hdl nl
 obtain ⟨H3,e3⟩:∃H3,H3=upd (upd H2 dl (.own la)) la (.ins Yf dl []):=⟨_,rfl⟩
 have s3:ZA H2 H3:=by rw [e3]; exact Zz (Zz (Zl _) hdl) hla
 have la3:H3 la=some (.ins Yf dl []):=by rw [e3]; exact Zn
 rw [<- e3]
 refine ⟨la,dl,rfl,la3,fun H4 b4 l4=>⟨rfl,?_⟩⟩
 have nla:a≠la:=Zu a2 hla
 have a4:H4 a=some (rdO ZG dx p 0):=b4 _ _ nla (s3 _ _ a2)
 have p4:SqL K H4 p (LN l):=b4.seq la3 (s3.seq p2)
 nofun
 refine ⟨Ib _,fun g hg=>?_⟩
 obtain ⟨H5,e5,s5,-,g5,-⟩:=YJ (.lst []) (Zl H4) hg
 rw [e5]
 nofun
 obtain ⟨W,eW⟩:∃W:Nat->St->Hp->Prop,W=fun m σ H'=>∃(i:Nat) (st:Io) (F:Addr->Prop) (v4:Option V) (done:List Int) (fu:Nat) (rest:List (List (List Int))),m=l.length - i/\i<=l.length/\σ=[some (.ref p),some (.ref a),some (.ref la),some (.ref g),v4]/\
  H' a=some (rdO ZG dx p i)/\Held K (fun b=>F b∨b=a∨b=g) H' p (LN l)/\LA H' la st F/\¬ F a/\¬ F g/\H' g=some (.lst (LI done))/\PyFlat.calls PySy23.shape fu (IN (l.drop i))=some rest/\rest.all Vb=true/\done ++ PyFlat.told (PyFlat.played OT st rest)=PySy23.answers (IN l):=⟨_,rfl⟩
 have l5:LA H5 la Vi (fun b=>b=la):=hLA.keep l4 fun b o _ h=>s5 _ _ h
 have ngl:g≠la:=by
  rintro rfl
  obtain ⟨o,ho⟩:=hLA.has l4 rfl
  rw [hg] at ho
  exact absurd ho (by simp)
 refine rd_while W (l.length - 0) ?_ ?_
 ·rw [eW]
  refine ⟨0,_,_,none,[],f0,cs0,rfl,Ib _,rfl,s5 _ _ a4,?_,l5,nla,ngl,g5,hcs,hask,hans.symm⟩
  rcases p4 with p4 | p4
  ·refine .inl ⟨?_,?_⟩
   ·obtain ⟨dx',fs,hla',-⟩:=hC _ _ _ _ l4
    rintro (e | e | e)
    ·have e':p=la:=e
     rw [<- e'] at hla'
     rcases p4 with ho | ⟨o,ho⟩ <;> rw [hla'] at ho <;> simp at ho
    ·rw [e] at p4
     rcases p4 with ho | ⟨o,ho⟩ <;> rw [a4] at ho <;> simp at ho
    ·rw [e] at p4
     rcases p4 with ho | ⟨o,ho⟩ <;> rw [hg] at ho <;> simp at ho
   ·rcases p4 with ho | ⟨o,ho⟩
    ·exact .inl (s5 _ _ ho)
    ·exact .inr ⟨o,s5 _ _ ho⟩
  ·exact .inr fun H'=>.inr p4
 ·intro m σ H6 hW
  rw [eW] at hW
  obtain ⟨i,st,F,v4,done,fu,rest,rfl,hi,rfl,a6,p6,l6,na,ng,g6,hr6,as6,an6⟩:=hW
  nofun
  refine ⟨a,dx,p,i,l,rfl,a6,p6.seq,?_⟩
  nofun
  by_cases hend:l.length<=i
  ·rw [decide_eq_true hend]
   refine Xc ?_
   nofun
   have ei:l.drop i=[]:=O2 hend
   rw [ei] at hr6
   obtain rfl:=calls_nil hr6
   have ed:done=PySy23.answers (IN l):=by
    rw [<- an6]
    exact (Um _).symm
   exact q H6 g (ed ▸ g6)
  ·rw [decide_eq_false hend]
   refine YV ?_
   refine ⟨fun σ' H'=>∃m',m' < l.length - i/\W m' σ' H',fun σ' H' h=>h,?_⟩
   have hi6:i < l.length:=by exact qw7
   obtain ⟨gu,c,t,rest',rfl,hc,ht,rfl⟩:=calls_pos hi6 hr6
   obtain ⟨n,kk,-,hsh,hn,hrow,ec,et⟩:=call_pos hc
   obtain ⟨dl6,fs6,la6,lk6,fla6⟩:=hC _ _ _ _ l6
   nofun
   refine rd_methAt la6 lk6 ?_
   nofun
   refine ⟨a,dx,p,i,l,n,kk,rfl,a6,p6.seq,hi6,hsh,hn,hrow,fun H7 ca b7 hca a7 c7=>?_⟩
   nofun
   have l7:LA H7 la st F:=hLA.keep l6 fun b o fb h=>b7 _ _ (fun e=>na (e ▸ fb)) h
   rw [VT,Oj] at as6
   have ec':ZbX (l.getD i 0) ((l.drop (i + 1)).take n) ((Ob kk).map (ZbZ l (i + 1 + n)))=c:=by
    rw [ec]
    unfold ZbX
    rw [O8]
    rfl
   refine ⟨la,ca,st,F,_,_,_,_,rfl,l7,c7,fun b gb fb=>?_,by rw [ec']; exact as6.1,fun H8 z F' f8 l8 nF hz nz z8=>?_⟩
   ·obtain ⟨o,ho⟩:=hLA.has l6 fb
    rw [show H6 b=none from gb] at ho
    exact absurd ho (by simp)
   rw [ec'] at l8 z8
   have nag:g≠a:=by
    rintro rfl
    rw [a6] at g6
    simp at g6
   have g7:=b7 _ _ nag g6
   have g8:=f8 _ _ ng g7
   have a8:=f8 _ _ na a7
   have out:∀b o,¬ F b->H6 b=some o->b≠a->¬ F' b:=fun b o n h na h'=>by
    rcases nF b h' with x | x | x
    ·exact n x
    ·rw [show H6 b=none from x] at h; exact absurd h (by simp)
    ·rw [b7 _ _ na h] at x; exact absurd x (by simp)
   have na8:¬ F' a:=fun h'=>by
    rcases nF a h' with x | x | x
    ·exact na x
    ·rw [show H6 a=none from x] at a6; exact absurd a6 (by simp)
    ·rw [a7] at x; exact absurd x (by simp)
   have ng8:¬ F' g:=out g _ ng g6 nag
   have nzg:z≠g:=(Zu g7 hz).symm
   nofun
   refine ⟨.inl ⟨rfl,_,SqL.of g8⟩,?_⟩
   nofun
   refine ⟨z,_,rfl,SqL.of z8,?_⟩
   nofun
   have an6':=an6
   unfold PyFlat.played at an6
   rw [told_cons] at an6
   have hle:done.length + (1 + (OT st c).2.length)<=1000200:=by
    have h1:=congrArg List.length an6
    rw [hans,told_len,Og,Oz,Og] at h1
    lia
   have hsz:∀x,x<=1000200->x<=sizeLine:=fun x hx=>by rw [sizeLine_eq]; exact ZbN
   refine ⟨g,LI done,_,rfl,rfl,g8,?_,?_⟩
   ·have:=hsz (done.length + 1) (by lia)
    rw [Od]
    lia
   obtain ⟨H9,e9⟩:∃H9,H9=upd H8 g (.lst (LI done ++ [N_ (LI (OT st c).2).length])):=⟨_,rfl⟩
   have g9:H9 g=some (.lst (LI done ++ [N_ (LI (OT st c).2).length])):=by rw [e9]; exact Zn
   have b9:But g H8 H9:=by rw [e9]; exact But.upd H8 _
   rw [<- e9]
   nofun
   refine ⟨.inl ⟨rfl,_,SqL.of g9⟩,?_⟩
   nofun
   refine ⟨g,z,_,_,rfl,rfl,g9,b9 _ _ nzg z8,?_,?_⟩
   ·refine hsz _ ?_
    rw [Og,Od,Od,Uk]
    lia
   obtain ⟨H10,e10⟩:∃H10,H10=upd H9 g (.lst (LI done ++ [N_ (LI (OT st c).2).length] ++ LI (OT st c).2)):=⟨_,rfl⟩
   have g10:H10 g=some (.lst (LI done ++ [N_ (LI (OT st c).2).length] ++ LI (OT st c).2)):=by rw [e10]; exact Zn
   have b10:But g H8 H10:=by rw [e10]; exact b9.at_
   rw [<- e10]
   have pos:i < WA l (i + 1 + n) kk:=by
    have:∀k,i + 1 + n<=WA l (i + 1 + n) k:=fun k=>by
     induction k with
     | zero=>exact Oq _
     | succ k ih=>have:=posAt_lt l (i + 1 + n) k; omega
    have:=this kk
    lia
   have ple:WA l (i + 1 + n) kk<=l.length:=by
    cases kk with
    | zero=>exact hn
    | succ k=>exact hrow k (Vp k)
   refine ⟨l.length - WA l (i + 1 + n) kk,by omega,?_⟩
   rw [eW]
   refine ⟨WA l (i + 1 + n) kk,(OT st c).1,F',_,done ++ (((OT st c).2.length:Nat):Int) :: (OT st c).2,gu,rest',rfl,ple,rfl,b10 _ _ nag.symm a8,?_,hLA.keep l8 (fun b o fb h=>b10 _ _ (fun e=>ng8 (e ▸ fb)) h),na8,ng8,?_,?_,as6.2,?_⟩
   ·refine p6.to (fun n' o h=>?_) (fun o n' h=>?_)
    ·exact b10 _ _ (fun e=>n' (.inr (.inr e))) (f8 _ _ (fun e=>n' (.inl e)) (b7 _ _ (fun e=>n' (.inr (.inl e))) h))
    ·rintro (e | e | e)
     ·exact out p o (fun e=>n' (.inl e)) h (fun e=>n' (.inr (.inl e))) e
     ·exact n' (.inr (.inl e))
     ·exact n' (.inr (.inr e))
   ·rw [g10]
    congr 2
    rw [O7]
    show LI done ++ _=(done ++ _).map V.int
    rw [Ih,Od]
    rfl
   ·rw [et] at ht
    exact ht
   ·rw [<- an6,O7]
    rfl
end
structure Fx (P:Program) (w:World) (K:Oa) (mg:Str->Option Value) (ZG Wu Yf Zg Zm ZS:Addr):Prop where
 r_joined:Raw K mg "joined" "joined" (top 77) ["a","b","c","d"]
 r_boxed:Raw K mg "boxed" "boxed" (top 70) ["box","a","b","c","d"]
 B:Blt mg
 r_power_of_ten:Raw K mg "power_of_ten" "power_of_ten" (top 6) ["exponent"]
 r_number_high_first:Raw K mg "number_high_first" "number_high_first" (top 2) ["row"]
 r_numbers_high_first:Raw K mg "numbers_high_first" "numbers_high_first" (top 3) ["row","width"]
 r_bytes_high_first:Raw K mg "bytes_high_first" "bytes_high_first" (top 1) ["number","count"]
 r_blended:Raw K mg "blended" "blended" (top 11) ["k","b","c","d"]
 X1:ZU mg "WORD_digests" 4294967295
 r_stretched:Raw K mg "stretched" "stretched" (top 10) ["words"]
 r_closing_block:Raw K mg "closing_block" "closing_block" (top 13) ["words","length"]
 T:Tabs K mg
 r_substituted:Raw K mg "substituted" "substituted" (top 71) ["word"]
 YN:ZU mg "WORD_blocks" 4294967295
 r_turned:Raw K mg "turned" "turned" (top 72) ["word"]
 r_doubled:Raw K mg "doubled" "doubled" (top 73) ["constant"]
 r_unmixed:Raw K mg "unmixed" "unmixed" (top 75) ["word"]
 r_ciphered:Raw K mg "ciphered" "ciphered" (top 78) ["words","block"]
 r_cipher_words:Raw K mg "cipher_words" "cipher_words" (top 74) ["key"]
 r_deciphered:Raw K mg "deciphered" "deciphered" (top 79) ["words","block"]
 r_decipher_words:Raw K mg "decipher_words" "decipher_words" (top 76) ["key"]
 r_halves_as_bytes:Raw K mg "halves_as_bytes" "halves_as_bytes" (top 84) ["halves"]
 ZcH:ZU mg "INITIAL" Wb
 G_HALF:ZU mg "HALF" HALF
 ZdK:ZU mg "TURNS" 6
 r_wrapped:Raw K mg "wrapped" "wrapped" (top 85) ["key","given"]
 r_unwrapped:Raw K mg "unwrapped" "unwrapped" (top 86) ["key","given"]
 G_BLOCK:ZU mg "BLOCK" BLOCK
 r_shifted:Raw K mg "shifted" "shifted" (top 112) ["block"]
 r_last_block:Raw K mg "last_block" "last_block" (top 113) ["subkey","rest"]
 r_mark_of:Raw K mg "mark_of" "mark_of" (top 114) ["key","given"]
 r_share:Raw K mg "share" "share" (top 117) ["words","turn","digits","half"]
 ZfH:ZU mg "ROUNDS" 10
 r_mixed:Raw K mg "mixed" "mixed" (top 118) ["key","digits","number","back"]
 r_absorbed:Raw K mg "absorbed" "absorbed" (top 12) ["state","words"]
 hST:∃a,mg "START"=some (.ref a)/\Tab K a START
 r_masked_state:Raw K mg "masked_state" "masked_state" (top 15) ["secret","mask"]
 r_secret_states:Raw K mg "secret_states" "secret_states" (top 16) ["secret"]
 r_counter_digest:Raw K mg "counter_digest" "counter_digest" (top 17) ["states","counter"]
 r_cut_out:Raw K mg "cut_out" "cut_out" (top 18) ["digest"]
 r_code_of:Raw K mg "code_of" "code_of" (top 19) ["states","counter","digits"]
 r_is_within:Raw K mg "is_within" "is_within" (top 43) ["number","least","last"]
 r_are_bytes:Raw K mg "are_bytes" "are_bytes" (top 44) ["row","least","last"]
 r_is_key:Raw K mg "is_key" "is_key" (top 46) ["row"]
 r_is_secret:Raw K mg "is_secret" "is_secret" (top 47) ["row"]
 r_are_digits:Raw K mg "are_digits" "are_digits" (top 48) ["digits"]
 Zaj:ZU mg "PLACES" 64
 r_is_place:Raw K mg "is_place" "is_place" (top 52) ["place"]
 ZaC:ZU mg "LAST_TIME" (2 ^ 40)
 r_is_time:Raw K mg "is_time" "is_time" (top 53) ["now"]
 r_are_eights:Raw K mg "are_eights" "are_eights" (top 45) ["row","least","last"]
 r_are_digit_bytes:Raw K mg "are_digit_bytes" "are_digit_bytes" (top 49) ["row"]
 r_is_code:Raw K mg "is_code" "is_code" (top 50) ["row"]
 ZdJ:ZU mg "LAST_WHOLE" 18446744073709551615
 Zw:Xv mg "OUT_OF_RANGE" (-2)
 r_answer_code:Raw K mg "answer_code" "answer_code" (top 120) ["digits","counter","secret"]
 r_answer_wrap:Raw K mg "answer_wrap" "answer_wrap" (top 121) ["key","given"]
 Xi:Xv mg "NOT_GENUINE" (-5)
 r_answer_unwrap:Raw K mg "answer_unwrap" "answer_unwrap" (top 122) ["key","given"]
 r_answer_mark:Raw K mg "answer_mark" "answer_mark" (top 123) ["key","given"]
 r_answer_mix:Raw K mg "answer_mix" "answer_mix" (top 124) ["digits","number","back","key"]
 k:Zby K ZG
 r_reader_init:RawI K ZG "Reader.__init__" (Zr (top 128) 0) ["self","calls"]
 r_reader_at_end:YB K ZG "at_end" "Reader.at_end" (Zr (top 128) 1) ["self"]
 r_reader_read_whole:YB K ZG "read_whole" "Reader.read_whole" (Zr (top 128) 2) ["self"]
 r_reader_read_row:YB K ZG "read_row" "Reader.read_row" (Zr (top 128) 3) ["self"]
 k1:CallK K Wu
 r_call_init:RawI K Wu "Call.__init__" (Zr (top 127) 0) ["self","number","wholes","rows"]
 mg_Call:mg "Call"=some (.ref Wu)
 FK:FormsK P w K mg
 r_reader_read_call:YB K ZG "read_call" "Reader.read_call" (Zr (top 128) 4) ["self"]
 ZdV:Cls K Yf
 mg_Reader:mg "Reader"=some (.ref ZG)
 mg_Line:mg "Line"=some (.ref Yf)
 k2:Y2 K Zg
 r_holder_init:RawI K Zg "Holder.__init__" (Zr (top 33) 0) ["self","secret","step","digits","first","floor"]
 Zc9:ZU mg "CODES_AHEAD" 10
 r_holder_good_counters:YB K Zg "good_counters" "Holder.good_counters" (Zr (top 33) 1) ["self","now"]
 ZgG:YB K Zg "matching_counter" "Holder.matching_counter" (Zr (top 33) 2) ["self","now","code"]
 r_holder_succeed:YB K Zg "succeed" "Holder.succeed" (Zr (top 33) 5) ["self","counter"]
 Jy:ZU mg "LAST_FAILED" 2147483647
 Zai:ZU mg "FAILURES_TO_LOCK" 5
 J1:ZU mg "LOCKED_FOR" 60
 r_holder_fail:YB K Zg "fail" "Holder.fail" (Zr (top 33) 6) ["self","now"]
 QL:Xv mg "NOT_NOW" (-4)
 QM:Xv mg "NO_ROOM" (-6)
 Q1:ZU mg "LAST_COUNTER" 1152921504606846976
 r_holder_refusal:YB K Zg "refusal" "Holder.refusal" (Zr (top 33) 4) ["self","now"]
 r_holder_settle:YB K Zg "settle" "Holder.settle" (Zr (top 33) 7) ["self","now","counter","used"]
 r_holder_take_code:YB K Zg "take_code" "Holder.take_code" (Zr (top 33) 8) ["self","now","code"]
 JA:ZU mg "PAIRS_AHEAD" 100
 r_holder_matching_pair:YB K Zg "matching_pair" "Holder.matching_pair" (Zr (top 33) 3) ["self","codes"]
 r_holder_take_pair:YB K Zg "take_pair" "Holder.take_pair" (Zr (top 33) 9) ["self","now","codes"]
 r_bytes_low_first:Raw K mg "bytes_low_first" "bytes_low_first" (top 4) ["number","count"]
 r_number_low_first:Raw K mg "number_low_first" "number_low_first" (top 5) ["row"]
 r_are_two_codes:Raw K mg "are_two_codes" "are_two_codes" (top 51) ["digits","row"]
 YR:Xv mg "NO_HOLDER" (-3)
 kS:Wn K Zm
 r_house_tell_holder:YB K Zm "tell_holder" "House.tell_holder" (Zr (top 90) 6) ["self","place"]
 r_house_void_tickets:YB K Zm "void_tickets" "House.void_tickets" (Zr (top 90) 12) ["self","place"]
 r_house_drop_holder:YB K Zm "drop_holder" "House.drop_holder" (Zr (top 90) 3) ["self","place"]
 r_house_free_place:YB K Zm "free_place" "House.free_place" (Zr (top 90) 1) ["self"]
 r_house_try_code:YB K Zm "try_code" "House.try_code" (Zr (top 90) 4) ["self","place","now","code"]
 r_house_try_two:YB K Zm "try_two" "House.try_two" (Zr (top 90) 5) ["self","place","now","digits","codes"]
 ZaB:ZU mg "LAST_STEP" 3600
 ZdI:ZU mg "LAST_FIRST" (2 ^ 40)
 ZcW:mg "Holder"=some (.ref Zg)
 r_house_add_holder:YB K Zm "add_holder" "House.add_holder" (Zr (top 90) 2) ["self","step","digits","first","secret"]
 r_house_init:RawI K Zm "House.__init__" (Zr (top 90) 0) ["self","key"]
 r_ticket_bytes:Raw K mg "ticket_bytes" "ticket_bytes" (top 56) ["number","place","rights","beginning","end"]
 k3:ZbA K ZS
 r_ticket_init:RawI K ZS "Ticket.__init__" (Zr (top 57) 0) ["self","plain"]
 Zbw:ZU mg "LAST_END" 1099512676352
 r_ticket_has_sound_end:YB K ZS "has_sound_end" "Ticket.has_sound_end" (Zr (top 57) 1) ["self"]
 r_ticket_is_good_at:YB K ZS "is_good_at" "Ticket.is_good_at" (Zr (top 57) 2) ["self","now"]
 Ze5:ZU mg "LAST_SPAN" 1048576
 Zda:ZU mg "LAST_RIGHTS" 4294967295
 Jz:ZU mg "LAST_NUMBER" 1152921504606846976
 r_house_give_ticket:YB K Zm "give_ticket" "House.give_ticket" (Zr (top 90) 7) ["self","place","now","span","rights"]
 r_house_is_taken:YB K Zm "is_taken" "House.is_taken" (Zr (top 90) 9) ["self","number"]
 mg_Ticket:mg "Ticket"=some (.ref ZS)
 r_house_own_ticket:YB K Zm "own_ticket" "House.own_ticket" (Zr (top 90) 8) ["self","row"]
 Zb7:Xv mg "NOT_ITS_TIME" (-7)
 Wk:ZU mg "TICKET_SIZE" 40
 r_house_show_ticket:YB K Zm "show_ticket" "House.show_ticket" (Zr (top 90) 10) ["self","now","row"]
 Wj:ZU mg "LIST_PLACES" 256
 r_house_take_ticket:YB K Zm "take_ticket" "House.take_ticket" (Zr (top 90) 11) ["self","row"]
 r_house_sweep_list:YB K Zm "sweep_list" "House.sweep_list" (Zr (top 90) 13) ["self","now"]
 r_filled_up:Raw K mg "filled_up" "filled_up" (top 95) ["row","size"]
 Wi:ZU mg "HOLDER_SIZE" 128
 r_holder_bytes:Raw K mg "holder_bytes" "holder_bytes" (top 96) ["holder"]
 J0:ZU mg "ENTRY_SIZE" 16
 r_list_bytes:Raw K mg "list_bytes" "list_bytes" (top 97) ["taken"]
 T_HEAD:∃a,mg "HEAD"=some (.ref a)/\Tab K a [83,89,50,51,0,0,0,0]
 r_house_bytes:Raw K mg "house_bytes" "house_bytes" (top 98) ["house"]
 r_answer_save:Raw K mg "answer_save" "answer_save" (top 99) ["house","key"]
 r_parts_of:Raw K mg "parts_of" "parts_of" (top 102) ["row","start","size","count"]
 r_read_holder:Raw K mg "read_holder" "read_holder" (top 103) ["row"]
 r_read_list:Raw K mg "read_list" "read_list" (top 104) ["row","start"]
 Zd5:mg "House"=some (.ref Zm)
 r_read_house:Raw K mg "read_house" "read_house" (top 105) ["key","row"]
 r_can_be_holder:Raw K mg "can_be_holder" "can_be_holder" (top 106) ["holder","number"]
 B2:Blt2 mg
 r_can_be_list:Raw K mg "can_be_list" "can_be_list" (top 107) ["taken","number"]
 r_can_be_house:Raw K mg "can_be_house" "can_be_house" (top 108) ["house"]
 r_loaded_house:Raw K mg "loaded_house" "loaded_house" (top 109) ["key","under","saved"]
 G_CODE:ZU mg "CODE" 0
 G_WRAP:ZU mg "WRAP" 1
 G_UNWRAP:ZU mg "UNWRAP" 2
 G_MARK:ZU mg "MARK" 3
 r_answer_part:Raw K mg "answer_part" "answer_part" (top 147) ["number","wholes","rows"]
 G_HOLDER:ZU mg "HOLDER" 11
 G_DROP:ZU mg "DROP" 12
 G_TRY:ZU mg "TRY" 13
 G_TWO:ZU mg "TWO" 14
 G_TOLD:ZU mg "TOLD" 15
 G_GIVE:ZU mg "GIVE" 16
 G_SHOW:ZU mg "SHOW" 17
 G_TAKE:ZU mg "TAKE" 18
 G_VOID:ZU mg "VOID" 19
 G_SWEEP:ZU mg "SWEEP" 20
 YQ:Cls K Zm
 r_answer_house:Raw K mg "answer_house" "answer_house" (top 148) ["house","number","wholes","rows"]
 kL:LineK K Yf
 r_line_init:RawI K Yf "Line.__init__" (Zr (top 149) 0) ["self"]
 r_line_begin:YB K Yf "begin" "Line.begin" (Zr (top 149) 1) ["self","key"]
 Zbx:ZU mg "SAVED_SIZE" 12312
 r_line_load:YB K Yf "load" "Line.load" (Zr (top 149) 2) ["self","key","under","saved"]
 G_MIX:ZU mg "MIX" 4
 G_BEGIN:ZU mg "BEGIN" 10
 G_LOAD:ZU mg "LOAD" 22
 r_line_answer:YB K Yf "answer" "Line.answer" (Zr (top 149) 3) ["self","call"]
theorem all_fn {P:Program} {w:World} {K:Oa} {mg:Str->Option Value} {ZG Wu Yf Zg Zm ZS:Addr} {f:Addr} {fd:FuncData} (x:Fx P w K mg ZG Wu Yf Zg Zm ZS) (FF:Fun K "answers" "answers" (top 150) f fd) (base:Heap):FnOk P w K mg base CX0 11 f fd ["calls"] (spAnswers K):=by
 have Za5:=c_joined (P:=P) (w:=w) (mg:=mg) (base:=base) x.r_joined
 have X7:=c_boxed (P:=P) (w:=w) (mg:=mg) (base:=base) x.r_boxed
 have YA:=ZfQ (P:=P) (w:=w) (mg:=mg) (base:=base) x.B x.r_power_of_ten
 have Yt:=Zc4 (P:=P) (w:=w) (mg:=mg) (base:=base) x.r_number_high_first
 have ZJ:=Zce x.B x.r_numbers_high_first Yt
 have YY:=Zdi (P:=P) (w:=w) (mg:=mg) (base:=base) x.B x.r_bytes_high_first
 have Zeq:=c_blended (P:=P) (w:=w) (mg:=mg) (base:=base) x.r_blended
 have Zb5:=c_stretched (P:=P) (w:=w) (mg:=mg) (base:=base) x.B x.X1 x.r_stretched
 have Qr:=Zfj (P:=P) (w:=w) (mg:=mg) (base:=base) x.B x.r_closing_block
 have Jx:=ZgT x.T x.r_substituted X7
 have ZfG:=c_turned (P:=P) (w:=w) (mg:=mg) (base:=base) x.YN x.r_turned
 have Zes:=c_doubled (P:=P) (w:=w) (mg:=mg) (base:=base) x.r_doubled
 have Zev:=c_unmixed (P:=P) (w:=w) (mg:=mg) (base:=base) x.T x.r_unmixed
 have Xm:=c_ciphered x.B x.T x.YN x.r_ciphered X7 Za5
 have Yk:=ZfM x.B x.r_cipher_words ZJ Jx ZfG Zes
 have Zbr:=c_deciphered x.B x.T x.YN x.r_deciphered X7 Za5
 have Jl:=ZeC x.B x.r_decipher_words Yk Zev
 have Xa:=ZdQ x.r_halves_as_bytes YY
 have WO:=c_wrapped x.B x.ZcH x.G_HALF x.ZdK x.r_wrapped Yk ZJ Xm Xa
 have XB:=c_unwrapped x.B x.ZcH x.G_HALF x.ZdK x.r_unwrapped Jl ZJ Zbr Xa
 have J8:=c_shifted (P:=P) (w:=w) (mg:=mg) (base:=base) x.G_BLOCK x.r_shifted
 have Zbs:=c_last_block x.B x.r_last_block Yt J8
 have Zeu:=c_mark_of x.B x.r_mark_of Yk Xm J8 ZJ YY Zbs
 have Zfq:=c_share x.r_share Xm
 have C_mixed:=c_mixed x.B x.ZfH x.r_mixed Yk YA Zfq
 have Qu:=c_absorbed x.B x.X1 x.r_absorbed Zb5 Zeq
 have QZ:=ZfP x.B x.hST x.r_masked_state Qu ZJ
 have YC:=Zfn x.r_secret_states QZ
 have Jk:=ZeB trivial x.r_counter_digest Qu Qr
 have Zer:=c_cut_out (P:=P) (w:=w) (mg:=mg) (base:=base) x.r_cut_out
 have Wf:=c_code_of x.B x.r_code_of Zer Jk YA
 have ZI:=c_is_within (P:=P) (w:=w) (mg:=mg) (base:=base) x.r_is_within
 have Z2:=c_are_bytes (P:=P) (w:=w) (mg:=mg) (base:=base) x.B x.r_are_bytes
 have Ys:=c_is_key x.B x.r_is_key Z2
 have XA:=c_is_secret x.r_is_secret Z2
 have Yi:=c_are_digits x.r_are_digits ZI
 have Ya:=c_is_place x.Zaj x.r_is_place ZI
 have Y0:=c_is_time x.ZaC x.r_is_time ZI
 have WM:=c_are_eights x.B x.r_are_eights Z2
 have Y9:=ZdO (P:=P) (w:=w) (mg:=mg) (base:=base) x.B x.r_are_digit_bytes
 have Zet:=c_is_code x.B x.r_is_code Yi Y9
 have ZaO:=ZgH x.B x.ZdJ x.Zw x.r_answer_code Yi ZI XA Wf YC
 have ZaS:=ZgL x.B x.Zw x.r_answer_wrap Ys WM WO
 have JO:=Zfg x.B x.Zw x.Xi x.r_answer_unwrap Ys WM XB
 have ZaP:=ZgI x.Zw x.r_answer_mark Ys Z2 Zeu
 have Zbq:=c_answer_mix x.Zw x.r_answer_mix Ys ZI YA C_mixed
 have ZaX:=ZgS (P:=P) (w:=w) (mg:=mg) (base:=base) x.k x.r_reader_init
 have JS:=Zfm (P:=P) (w:=w) (mg:=mg) (base:=base) x.B x.k x.r_reader_at_end
 have Yu:=Zc5 (P:=P) (w:=w) (mg:=mg) (base:=base) x.k x.r_reader_read_whole
 have Q0:=ZdR x.k x.r_reader_read_row Yu
 have Zb1:=c_call_init (P:=P) (w:=w) (mg:=mg) (base:=base) x.k1 x.r_call_init
 have QA:=Zdq x.B x.k x.mg_Call x.FK x.r_reader_read_call Yu Q0 Zb1
 have Wg:=ZgO (P:=P) (w:=w) (mg:=mg) (base:=base) x.k2 x.r_holder_init
 have X8:=ZbE (P:=P) (w:=w) (mg:=mg) (base:=base) x.B x.Zc9 x.k2 x.r_holder_good_counters
 have Xw:=ZaA x.B x.k2 x.ZgG X8 Wf YC
 have Jm:=ZeE (P:=P) (w:=w) (mg:=mg) (base:=base) x.k2 x.r_holder_succeed
 have ZaU:=ZgN (P:=P) (w:=w) (mg:=mg) (base:=base) x.B x.Jy x.Zai x.J1 x.k2 x.r_holder_fail
 have Xj:=ZeD (P:=P) (w:=w) (mg:=mg) (base:=base) x.QL x.QM x.Q1 x.k2 x.r_holder_refusal
 have Xy:=Zfk x.k2 x.r_holder_settle ZaU Jm
 have Qv:=Zdj x.k2 x.r_holder_take_code Xw Xy
 have X9:=ZbF x.B x.JA x.k2 x.r_holder_matching_pair Wf YC
 have Qw:=Zdk x.k2 x.r_holder_take_pair X9 Xy
 have ZE:=ZdP (P:=P) (w:=w) (mg:=mg) (base:=base) x.B x.r_bytes_low_first
 have ZD:=Zdp (P:=P) (w:=w) (mg:=mg) (base:=base) x.B x.r_number_low_first
 have JP:=Zfh x.B x.r_are_two_codes Yi Y9
 have W7:=Zc3 x.Zw x.YR x.kS x.k2 x.r_house_tell_holder Ya
 have WD:=Zcd x.Zw x.YR x.kS x.k2 x.r_house_void_tickets Ya
 have W3:=ZcZ x.Zw x.YR x.kS x.k2 x.r_house_drop_holder Ya
 have Qy:=Zdm (P:=P) (w:=w) (mg:=mg) (base:=base) (Zg:=Zg) x.B x.kS x.r_house_free_place
 have Jn:=ZeG x.Zw x.YR x.kS x.k2 x.r_house_try_code Ya Y0 Zet Xj Qv
 have JR:=Zfl x.Zw x.YR x.QL x.kS x.k2 x.r_house_try_two Ya Y0 JP Xj Qw
 have Qx:=Zdl x.Zw x.QM x.ZaB x.ZdI x.kS x.ZcW x.r_house_add_holder ZI Yi XA Qy Wg
 have WN:=c_house_init (P:=P) (w:=w) (mg:=mg) (base:=base) x.Zaj x.kS x.r_house_init
 have Zag:=ZfR x.r_ticket_bytes ZE
 have ZaY:=ZgU x.k3 x.r_ticket_init ZD
 have Wa:=ZbG (P:=P) (w:=w) (mg:=mg) (base:=base) x.Zbw x.k3 x.r_ticket_has_sound_end
 have W8:=Zc6 (P:=P) (w:=w) (mg:=mg) (base:=base) x.k3 x.r_ticket_is_good_at
 have W4:=Zc0 x.B x.Zw x.YR x.QL x.QM x.Ze5 x.Zda x.Jz x.kS x.k2 x.r_house_give_ticket ZI Ya Y0 WO Zag
 have Xk:=ZeF (P:=P) (w:=w) (mg:=mg) (base:=base) (Zg:=Zg) x.kS x.r_house_is_taken
 have YZ:=Zdn x.kS x.k2 x.k3 x.mg_Ticket x.r_house_own_ticket XB ZI Ya ZaY Wa
 have W5:=Zc1 x.Zw x.Xi x.QL x.Zb7 x.Wk x.kS x.k3 x.r_house_show_ticket Y0 Z2 YZ Xk W8
 have W6:=Zc2 x.B x.Zw x.Xi x.QM x.Wk x.Wj x.kS x.k3 x.r_house_take_ticket Z2 YZ Xk
 have Qz:=Zdo (Zg:=Zg) x.B x.Zw x.kS x.r_house_sweep_list Y0
 have QK:=c_filled_up (P:=P) (w:=w) (mg:=mg) (base:=base) x.B x.r_filled_up
 have Zae:=ZfN x.B x.Wi x.k2 x.r_holder_bytes ZE QK
 have Zbu:=c_list_bytes x.Wj x.J0 x.r_list_bytes ZE QK
 have Wh:=ZgP x.B x.T_HEAD x.kS x.r_house_bytes ZE Zae Zbu
 have ZaR:=ZgK x.B x.Zw x.r_answer_save Ys WO Wh
 have Jo:=c_parts_of (P:=P) (w:=w) (mg:=mg) (base:=base) x.B x.r_parts_of
 have ZaW:=ZgR x.k2 x.ZcW x.r_read_holder ZD Wg
 have Zb4:=c_read_list x.B x.J0 x.Wj x.r_read_list ZD Jo
 have Zbv:=c_read_house x.B x.T_HEAD x.Wi x.Zaj x.kS x.Zd5 x.r_read_house ZD Jo ZaW Zb4 WN
 have JQ:=Zfi x.ZaB x.Q1 x.JA x.Jy x.ZaC x.J1 x.k2 x.r_can_be_holder ZI Yi XA
 have ZaT:=ZgM (P:=P) (w:=w) (mg:=mg) (base:=base) x.B x.B2 x.Zbw x.r_can_be_list
 have Zad:=ZfL x.B x.B2 x.Jz x.kS x.r_can_be_house ZI JQ ZaT
 have Zaf:=ZfO x.r_loaded_house XB Zbv Zad Wh
 have ZaQ:=ZgJ x.G_CODE x.G_WRAP x.G_UNWRAP x.G_MARK x.r_answer_part ZaO ZaS JO ZaP Zbq
 have Zac:=ZfK x.G_HOLDER x.G_DROP x.G_TRY x.G_TWO x.G_TOLD x.G_GIVE x.G_SHOW x.G_TAKE x.G_VOID x.G_SWEEP x.YQ x.r_answer_house Qx W3 Jn JR W7 W4 W5 W6 WD Qz ZaR
 have Zb2:=c_line_init (P:=P) (w:=w) (mg:=mg) (base:=base) (Zg:=Zg) (Zm:=Zm) x.kL x.r_line_init
 have Zbt:=c_line_begin (Zg:=Zg) x.Zw x.kL x.Zd5 x.r_line_begin Ys WN
 have Zb3:=c_line_load x.Zw x.Xi x.Zbx x.kL x.r_line_load Ys Z2 Zaf
 have ZaV:=ZgQ x.G_MIX x.G_BEGIN x.G_LOAD x.Zw x.kL x.k1 x.r_line_answer ZaQ Zac Zbt Zb3
 exact f_answers x.B x.k x.ZdV Zd0 (fun _ _ _ _ h=>la_call h) x.mg_Reader x.mg_Line FF ZaX JS QA Zb2 ZaV
section
variable {K:Oa} {h:Heap} {mg:Str->Option Value}
theorem raw_mk {x qual:Str} {st:Stmt} {ps:List Str} {f:Addr} {oc:Value} {od:Option Addr} {kV doc pm:Value} {an:Option Addr} {cdv ct:Value} {osl:Array (Option Value)} (X:K.In h) (G:h.Ns mainGlobals mg) (a:UP K mainGlobals x=some (some (.ref f)))
 (l:K.lookup f=some ⟨oc,od,.func (PySem.W.fnOf x qual (J5 st) (WV st) (Zj st) .none kV doc pm an cdv ct),osl⟩) (c:UO K cdv qual=true) (k:IY K (.ref f)=true)
 (b:∀kV doc pm an cdv ct (us:List Value),us.length=ps.length->bindArgs (PySem.W.fnOf x qual (J5 st) (WV st) (Zj st) .none kV doc pm an cdv ct) ⟨us,[]⟩=pure (ps.zip us)):Raw K mg x qual st ps:=
 ⟨f,_,⟨⟨oc,od,kV,doc,pm,an,cdv,ct,osl,rfl,l,c⟩,k⟩,PySem.W.mg_of X G a,Jg.all (b _ _ _ _ _ _)⟩
theorem rawM_mk {C:Addr} {x qual:Str} {st:Stmt} {ps:List Str} {f:Addr} {oc:Value} {od:Option Addr} {kV doc pm:Value} {an:Option Addr} {cdv ct:Value} {osl:Array (Option Value)} (a:IA K (.ref C) x=some (some (.ref f)))
 (l:K.lookup f=some ⟨oc,od,.func (PySem.W.fnOf x qual (J5 st) (WV st) (Zj st) .none kV doc pm an cdv ct),osl⟩) (c:UO K cdv qual=true) (k:IY K (.ref f)=true) (i:PySem.W.isFn K (.ref f)=true)
 (b:∀kV doc pm an cdv ct (us:List Value),us.length=ps.length->bindArgs (PySem.W.fnOf x qual (J5 st) (WV st) (Zj st) .none kV doc pm an cdv ct) ⟨us,[]⟩=pure (ps.zip us)):YB K C x qual st ps:=
 ⟨f,_,⟨⟨oc,od,kV,doc,pm,an,cdv,ct,osl,rfl,l,c⟩,k⟩,⟨a,i,k⟩,Jg.all (b _ _ _ _ _ _)⟩
theorem rawI_mk {C:Addr} {qual:Str} {st:Stmt} {ps:List Str} {f:Addr} {oc:Value} {od:Option Addr} {kV doc pm:Value} {an:Option Addr} {cdv ct:Value} {osl:Array (Option Value)} (a:IA K (.ref C) "__init__"=some (some (.ref f)))
 (l:K.lookup f=some ⟨oc,od,.func (PySem.W.fnOf "__init__" qual (J5 st) (WV st) (Zj st) .none kV doc pm an cdv ct),osl⟩) (c:UO K cdv qual=true) (k:IY K (.ref f)=true) (i:PySem.W.isFn K (.ref f)=true) (m:PySem.W.makesIn K C=true) (kc:IY K (.ref C)=true)
 (b:∀kV doc pm an cdv ct (us:List Value),us.length=ps.length->bindArgs (PySem.W.fnOf "__init__" qual (J5 st) (WV st) (Zj st) .none kV doc pm an cdv ct) ⟨us,[]⟩=pure (ps.zip us)):RawI K C qual st ps:=
 ⟨f,_,⟨⟨oc,od,kV,doc,pm,an,cdv,ct,osl,rfl,l,c⟩,k⟩,⟨m,a,i,kc⟩,Jg.all (b _ _ _ _ _ _)⟩
theorem glo_mk {x:Str} {n:Nat} {t:Tok} (X:K.In h) (G:h.Ns mainGlobals mg) (a:UP K mainGlobals x=some (some (.int (n:Int) t))):ZU mg x n:=⟨t,PySem.W.mg_of X G a⟩
theorem gloI_mk {x:Str} {n:Int} {t:Tok} (X:K.In h) (G:h.Ns mainGlobals mg) (a:UP K mainGlobals x=some (some (.int n t))):Xv mg x n:=⟨t,PySem.W.mg_of X G a⟩
theorem vals_of:∀(l:List Nat) (us:List Value),(us.map fun u=>match u with | .int i _=>i | _=>-1)=l.map (fun n:Nat=>(n:Int))->Z8 (LN l) us
 | [],[],_=>.nil
 | n :: l,u :: us,h=>by
  simp only [Ie,List.cons.injEq] at h
  refine .cons ?_ (vals_of l us h.2)
  cases u <;> first | (have h1:=h.1; simp only at h1; omega) | (rename_i i t; exact ⟨t,by have h1:=h.1; simp only at h1; rw [h1]⟩)
 | [],_ :: _,h=>by simp at h
 | _ :: _,[],h=>by simp at h
def tabB (l:List Nat) (o:Obj):Bool:=(match o.cls with | .type c=>decide (c="tuple") | _=>false) && (match o.data with | .seq its _=>decide (its.size<=sizeLine) && decide ((its.toList.map fun u=>match u with | .int i _=>i | _=>-1)=l.map fun n:Nat=>(n:Int)) | _=>false)
theorem tabB_tab {l:List Nat} {ad:Addr} {o:Obj} (q:K.lookup ad=some o) (h:tabB l o=true):Tab K ad l:=fun H=>by
 unfold tabB at h
 rw [Oj] at h
 obtain ⟨h1,h2⟩:=h
 split at h1
 ·rename_i c ec
  split at h2
  ·rename_i its nn ed
   rw [Oj,decide_eq_true_eq,decide_eq_true_eq] at h2
   rw [decide_eq_true_eq] at h1
   exact .inr ⟨o,its,nn,q,by rw [ec,h1],ed,h2.1,vals_of _ _ h2.2⟩
  ·exact absurd h2 Oo
 ·exact absurd h1 Oo
theorem tab_mk {x:Str} {l:List Nat} {ad:Addr} {o:Obj} (X:K.In h) (G:h.Ns mainGlobals mg) (a:UP K mainGlobals x=some (some (.ref ad))) (q:K.lookup ad=some o) (hv:tabB l o=true):∃a,mg x=some (.ref a)/\Tab K a l:=⟨ad,PySem.W.mg_of X G a,tabB_tab q hv⟩
theorem lnS {α:Type} {n:Nat} {P:List α->Prop} (h:∀a us,us.length=n->P (a :: us)):∀us:List α,us.length=n + 1->P us
 | a :: us,e=>h a us (Nat.succ.inj e)
theorem ln0 {α:Type} {P:List α->Prop} (h:P []):∀us:List α,us.length=0->P us
 | [],_=>h
theorem blt_mk {x:Str} (X:K.In h) (G:h.Ns mainGlobals mg) (a:UP K mainGlobals x=some none):mg x=none:=PySem.W.mg_none_of X G a
end
theorem fin_mk {w:World} {K:Oa} {mg:Str->Option Value} {fa:Addr} {h:Heap} {ZG Wu Yf Zg Zm ZS:Addr} {f:Addr} {oc:Value} {od:Option Addr} {kV doc pm:Value} {an:Option Addr} {cdv ct:Value} {osl:Array (Option Value)} (hfa:mg "answers"=some (.ref fa)) (X:K.In h) (G:h.Ns mainGlobals mg)
 (a:UP K mainGlobals "answers"=some (some (.ref f))) (l:K.lookup f=some ⟨oc,od,.func (PySem.W.fnOf "answers" "answers" (J5 (top 150)) (WV (top 150)) (Zj (top 150)) .none kV doc pm an cdv ct),osl⟩) (c:UO K cdv "answers"=true) (k0:IY K (.ref f)=true)
 (b:∀kV doc pm an cdv ct (us:List Value),us.length=(["calls"]:List Str).length->bindArgs (PySem.W.fnOf "answers" "answers" (J5 (top 150)) (WV (top 150)) (Zj (top 150)) .none kV doc pm an cdv ct) ⟨us,[]⟩=pure ((["calls"]:List Str).zip us)) (x:Fx PySem.Challenge.pw_oncecodes_s01_answers w K mg ZG Wu Yf Zg Zm ZS) :
 ∃fd:FuncData,(∀(s:Shared) (us:List Value),us.length=(["calls"]:List Str).length->BindsTo s fd ⟨us,[]⟩ ((["calls"]:List Str).zip us))/\∀base:Heap,K.In base->base.Ns mainGlobals mg->FnOk PySem.Challenge.pw_oncecodes_s01_answers w K mg base CX0 11 fa fd ["calls"] (spAnswers K):=by
 have e:fa=f:=by
  have h1:=PySem.W.mg_of X G a
  rw [hfa] at h1
  exact Value.ref.inj (Option.some.inj h1)
 subst e
 exact ⟨_,fun s us hl=>.of_eq (b kV doc pm an cdv ct us hl),fun base _ _=>all_fn x ⟨⟨oc,od,kV,doc,pm,an,cdv,ct,osl,rfl,l,c⟩,k0⟩ base⟩
theorem cls_mk {K:Oa} {C:Addr} (a:PySem.W.plainGet K C Str.empty=true) (b:PySem.W.hasDictIn K C=true) (c:PySem.W.plainOver K C=true) (d:IA K (.ref C) "__setattr__"=some (some (.builtin "object.__setattr__"))):Cls K C:=⟨a,b,c,d⟩
theorem na_mk {K:Oa} {C:Addr} {f:Str} (a:IA K (.ref C) f=some none):Ym K C f:=a
def FORMSL:List (Int×Nat×Nat):=[(0,2,1),(1,0,2),(2,0,2),(3,0,2),(4,3,1),(10,0,1),(11,3,1),(12,1,0),(13,2,1),(14,3,1),(15,1,0),(16,4,0),(17,1,1),(18,0,1),(19,1,0),(20,1,0),(21,0,1),(22,0,3)]
inductive FormsT (K:Oa):List (Int×Addr)->List (Int×Nat×Nat)->Prop
 | nil:FormsT K [] []
 | cons {z:Int} {t:Addr} {n k:Nat} {l:List (Int×Addr)} {m:List (Int×Nat×Nat)}:Tab K t [n,k]->FormsT K l m->FormsT K ((z,t) :: l) ((z,n,k) :: m)
theorem tabK_mk {K:Oa} {l:List Nat} {ad:Addr} {di:Option Addr} {its:Array Value} {nn:Nat} {sl:Array (Option Value)} (q:K.lookup ad=some ⟨.type "tuple",di,.seq its nn,sl⟩) (hz:its.size<=sizeLine) (hv:Z8 (LN l) its.toList):Tab K ad l:=fun H=>.inr ⟨_,its,nn,q,rfl,rfl,hz,hv⟩
theorem FormsT.find {K:Oa} {l:List (Int×Addr)} {m:List (Int×Nat×Nat)} (h:FormsT K l m) {z:Int} {n k:Nat} (e:(m.find? fun x=>decide (x.1=z))=some (z,n,k)):∃t,valV (l.map fun x=>((Sum.inl x.1:Key),V.ref x.2)) (.inl z)=some (.ref t)/\Tab K t [n,k]:=by
 induction h with
 | nil=>simp at e
 | @cons y t n' k' l m ht _ ih=>
  unfold valV
  rw [Ie,Up]
  rw [Up] at e
  by_cases hy:y=z
  ·simp only [hy,decide_true,Option.some.injEq,Prod.mk.injEq] at e ⊢
   obtain ⟨-,rfl,rfl⟩:=e
   exact ⟨t,rfl,ht⟩
  ·simp only [hy,decide_false] at e
   have hy':¬ ((Sum.inl y:Key)=Sum.inl z):=fun h=>hy (Sum.inl.inj h)
   simp only [hy',decide_false]
   exact ih e
theorem FormsT.keys {K:Oa} {l:List (Int×Addr)} {m:List (Int×Nat×Nat)} (h:FormsT K l m):l.map (fun x=>x.1)=m.map (fun x=>x.1):=by
 induction h with
 | nil=>rfl
 | cons _ _ ih=>rw [Ie,Ie,ih]
def entL (es:List DictEntry):List (Int×Addr):=es.map fun e=>(match e.key with | .int i _=>i | _=>-1,match e.val with | .ref b=>b | _=>0)
def entOk (e:DictEntry):Bool:=(match e.key with | .int i _=>e.hash == hashInt i | _=>false) && (match e.val with | .ref _=>true | _=>false)
theorem entOk_ex {e:DictEntry} (h:entOk e=true):∃i t b,e.key=.int i t/\e.val=.ref b/\e.hash=hashInt i:=by
 unfold entOk at h
 rw [Oj] at h
 cases hk:e.key <;> rw [hk] at h <;> simp only [IH,false_and] at h
 cases hv:e.val <;> rw [hv] at h <;> simp only [IH,and_false] at h
 exact ⟨_,_,_,rfl,rfl,eq_of_beq h.1⟩
theorem pairs_of (P:Program) (w:World):∀(es:List DictEntry),es.all entOk=true->PySem.Pairs (ZbJ P w) es ((entL es).map fun x=>((Sum.inl x.1:Key),Value.ref x.2))
 | [],_=>.nil
 | e :: es,h=>by
  rw [VT,Oj] at h
  obtain ⟨i,t,b,h1,h2,h3⟩:=entOk_ex h.1
  show PySem.Pairs _ _ (((Sum.inl (match e.key with | .int i _=>i | _=>-1):Key),Value.ref (match e.val with | .ref b=>b | _=>0)) :: _)
  rw [h1,h2]
  refine .cons ?_ h2 (pairs_of P w es h.2)
  show Value.isInt i e.key=true
  rw [h1]
  unfold Value.isInt
  simp
theorem kv_of:∀(l:List (Int×Addr)),KV (l.map fun x=>((Sum.inl x.1:Key),V.ref x.2)) (l.map fun x=>((Sum.inl x.1:Key),Value.ref x.2))
 | []=>.nil
 | x :: l=>.cons ⟨rfl,rfl⟩ (kv_of l)
theorem shape_find {z:Int} {n k:Nat} (h:PySy23.shape z=some (n,k)):(FORMSL.find? fun x=>decide (x.1=z))=some (z,n,k)/\n < 100/\k < 100:=by
 unfold PySy23.shape at h
 by_cases c:z=0
 ·subst c; rw [if_pos rfl] at h; obtain ⟨rfl,rfl⟩:=Prod.mk.inj (Option.some.inj h); exact ⟨rfl,by decide,by decide⟩
 rw [if_neg c] at h
 clear c
 by_cases c:z=1
 ·subst c; rw [if_pos rfl] at h; obtain ⟨rfl,rfl⟩:=Prod.mk.inj (Option.some.inj h); exact ⟨rfl,by decide,by decide⟩
 rw [if_neg c] at h
 clear c
 by_cases c:z=2
 ·subst c; rw [if_pos rfl] at h; obtain ⟨rfl,rfl⟩:=Prod.mk.inj (Option.some.inj h); exact ⟨rfl,by decide,by decide⟩
 rw [if_neg c] at h
 clear c
 by_cases c:z=3
 ·subst c; rw [if_pos rfl] at h; obtain ⟨rfl,rfl⟩:=Prod.mk.inj (Option.some.inj h); exact ⟨rfl,by decide,by decide⟩
 rw [if_neg c] at h
 clear c
 by_cases c:z=4
 ·subst c; rw [if_pos rfl] at h; obtain ⟨rfl,rfl⟩:=Prod.mk.inj (Option.some.inj h); exact ⟨rfl,by decide,by decide⟩
 rw [if_neg c] at h
 clear c
 by_cases c:z=10
 ·subst c; rw [if_pos rfl] at h; obtain ⟨rfl,rfl⟩:=Prod.mk.inj (Option.some.inj h); exact ⟨rfl,by decide,by decide⟩
 rw [if_neg c] at h
 clear c
 by_cases c:z=11
 ·subst c; rw [if_pos rfl] at h; obtain ⟨rfl,rfl⟩:=Prod.mk.inj (Option.some.inj h); exact ⟨rfl,by decide,by decide⟩
 rw [if_neg c] at h
 clear c
 by_cases c:z=12
 ·subst c; rw [if_pos rfl] at h; obtain ⟨rfl,rfl⟩:=Prod.mk.inj (Option.some.inj h); exact ⟨rfl,by decide,by decide⟩
 rw [if_neg c] at h
 clear c
 by_cases c:z=13
 ·subst c; rw [if_pos rfl] at h; obtain ⟨rfl,rfl⟩:=Prod.mk.inj (Option.some.inj h); exact ⟨rfl,by decide,by decide⟩
 rw [if_neg c] at h
 clear c
 by_cases c:z=14
 ·subst c; rw [if_pos rfl] at h; obtain ⟨rfl,rfl⟩:=Prod.mk.inj (Option.some.inj h); exact ⟨rfl,by decide,by decide⟩
 rw [if_neg c] at h
 clear c
 by_cases c:z=15
 ·subst c; rw [if_pos rfl] at h; obtain ⟨rfl,rfl⟩:=Prod.mk.inj (Option.some.inj h); exact ⟨rfl,by decide,by decide⟩
 rw [if_neg c] at h
 clear c
 by_cases c:z=16
 ·subst c; rw [if_pos rfl] at h; obtain ⟨rfl,rfl⟩:=Prod.mk.inj (Option.some.inj h); exact ⟨rfl,by decide,by decide⟩
 rw [if_neg c] at h
 clear c
 by_cases c:z=17
 ·subst c; rw [if_pos rfl] at h; obtain ⟨rfl,rfl⟩:=Prod.mk.inj (Option.some.inj h); exact ⟨rfl,by decide,by decide⟩
 rw [if_neg c] at h
 clear c
 by_cases c:z=18
 ·subst c; rw [if_pos rfl] at h; obtain ⟨rfl,rfl⟩:=Prod.mk.inj (Option.some.inj h); exact ⟨rfl,by decide,by decide⟩
 rw [if_neg c] at h
 clear c
 by_cases c:z=19
 ·subst c; rw [if_pos rfl] at h; obtain ⟨rfl,rfl⟩:=Prod.mk.inj (Option.some.inj h); exact ⟨rfl,by decide,by decide⟩
 rw [if_neg c] at h
 clear c
 by_cases c:z=20
 ·subst c; rw [if_pos rfl] at h; obtain ⟨rfl,rfl⟩:=Prod.mk.inj (Option.some.inj h); exact ⟨rfl,by decide,by decide⟩
 rw [if_neg c] at h
 clear c
 by_cases c:z=21
 ·subst c; rw [if_pos rfl] at h; obtain ⟨rfl,rfl⟩:=Prod.mk.inj (Option.some.inj h); exact ⟨rfl,by decide,by decide⟩
 rw [if_neg c] at h
 clear c
 by_cases c:z=22
 ·subst c; rw [if_pos rfl] at h; obtain ⟨rfl,rfl⟩:=Prod.mk.inj (Option.some.inj h); exact ⟨rfl,by decide,by decide⟩
 rw [if_neg c] at h
 clear c
 cases h
theorem forms_mk {P:Program} {w:World} {K:Oa} {h:Heap} {mg:Str->Option Value} {aF:Addr} {es:Array DictEntry} {ep:Nat} (X:K.In h) (G:h.Ns mainGlobals mg) (a:UP K mainGlobals "FORMS"=some (some (.ref aF)))
 (q:K.lookup aF=some ⟨.type "dict",none,.dict es ep,#[]⟩) (hk:es.toList.all entOk=true) (ft:FormsT K (entL es.toList) FORMSL):FormsK P w K mg:=by
 refine ⟨aF,(entL es.toList).map fun x=>((Sum.inl x.1:Key),V.ref x.2),PySem.W.mg_of X G a,fun h' X'=>⟨(entL es.toList).map fun x=>((Sum.inl x.1:Key),Value.ref x.2),kv_of _,⟨_,es,ep,X' _ _ q,⟨rfl,rfl,rfl⟩,rfl,fun e he=>?_,pairs_of P w _ hk,?_⟩⟩,fun z n k hs=>?_⟩
 ·obtain ⟨i,t,b,h1,h2,h3⟩:=entOk_ex ((Iw.mp hk) e (Array.mem_def.mp he))
  refine ⟨.inl i,?_,h3⟩
  show Value.isInt i e.key=true
  rw [h1]
  unfold Value.isInt
  simp
 ·rw [O8]
  have e1:(entL es.toList).map ((fun x:Key×Value=>x.1) ∘ fun x:Int×Addr=>((Sum.inl x.1:Key),Value.ref x.2))=((entL es.toList).map fun x=>x.1).map (Sum.inl:Int->Key):=by
   rw [O8]; rfl
  rw [e1,ft.keys]
  decide
 ·obtain ⟨h1,h2,h3⟩:=shape_find hs
  obtain ⟨t,ht,tb⟩:=ft.find h1
  exact ⟨t,ht,tb,h2,h3⟩
end Oc
set_option hygiene false in
local macro_rules | `(tactic| walk_at "bd")=>`(tactic| (intro _ _ _ _ _ _; (repeat (refine Oc.lnS fun _=>?_)); exact Oc.ln0 rfl))
set_option hygiene false in
local macro_rules | `(tactic| walk_at "df")=>`(tactic| (refine' Oc.raw_mk KX G ?a ?l ?c ?k ?b; (case a=>k_is); (case l=>k_is); (case c=>k_is); (case k=>k_is); (case b=>walk_at "bd")))
set_option hygiene false in
local macro_rules | `(tactic| walk_at "me")=>`(tactic| (refine' Oc.rawM_mk ?a ?l ?c ?k ?i ?b; (case a=>k_is); (case l=>k_is); (case c=>k_is); (case k=>k_is); (case i=>k_is); (case b=>walk_at "bd")))
set_option hygiene false in
local macro_rules | `(tactic| walk_at "in")=>`(tactic| (refine' Oc.rawI_mk ?a ?l ?c ?k ?i ?m ?kc ?b; (case a=>k_is); (case l=>k_is); (case c=>k_is); (case k=>k_is); (case i=>k_is); (case m=>k_is); (case kc=>k_is); (case b=>walk_at "bd")))
set_option hygiene false in
local macro_rules | `(tactic| walk_at "gn")=>`(tactic| (refine' Oc.glo_mk KX G ?a; (case a=>k_is)))
set_option hygiene false in
local macro_rules | `(tactic| walk_at "gi")=>`(tactic| (refine' Oc.gloI_mk KX G ?a; (case a=>k_is)))
set_option hygiene false in
local macro_rules | `(tactic| walk_at "mg")=>`(tactic| (refine' PySem.W.mg_of KX G ?a; (case a=>k_is)))
set_option hygiene false in
local macro_rules | `(tactic| walk_at "cl")=>`(tactic| (refine' Oc.cls_mk ?a ?b ?c ?d; (case a=>k_is); (case b=>k_is); (case c=>k_is); (case d=>k_is)))
set_option hygiene false in
local macro_rules | `(tactic| walk_at "tb")=>`(tactic| (refine' Oc.tab_mk KX G ?a ?q ?hv; (case a=>k_is); (case q=>k_is); (case hv=>decide +kernel)))
theorem PySem.Challenge.cw_oncecodes_s01_answers_holds : PySem.Challenge.rw_oncecodes_s01_answers.Holds := by
 refine PySem.W.holds_os (N:=16184) (loose:=[PySem.Str.ofString "FORMS"]) (Xt:=fun s=>PySem.W.xlAt hdS.view_1 [] s && PySem.W.recOk [] s) (XP:=PySem.W.XL hdS.view_1 [])
  (PySem.W.LeftO.of_pieces (PySem.W.boot_open hdS._proof_3 (by decide) hdS._proof_4) hdS._proof_946 hdS._proof_944 (by decide) (fun w=>funext fun os=>hdS._proof_977 w os))
  (PySem.W.Hook.of _) (PySem.W.Hook.keeps _) (fun s e=>PySem.W.xl_of s (UQ.mp e).1) PySem.W.XL.keeps (by rfl) (by rfl) (by rfl)
  (fun s e=>PySem.W.recFacts_of (UQ.mp e).2) PySem.W.os_shapes Oc.wsaid hdS._proof_1 ⟨rfl,rfl,rfl,rfl,rfl,hdS._proof_2⟩
  ⟨_,hdS._proof_978,hdS._proof_979⟩ ?qqc
 k_fillS
 refine L2.walk_specK (r:=PySem.Challenge.rw_oncecodes_s01_answers) (k:=11) (CX:=L2.CX0) (ps:=["calls"]) (sp:=fun K=>Oc.spAnswers K) Oc.wsaid rfl rfl ⟨rfl,by decide,by decide⟩ (fun w h Y=>PySem.W.kIn_of Y) ?F (fun K H xs a h1 h2 h3 h4=>Oc.s_ok K H xs a h1 h2 h3 h4) (fun _ _ _ _ z=>z)
 case F=>
  intro w mg fa h Y KX G hmg
  refine' Oc.fin_mk hmg KX G ?a0 ?l0 ?c0 ?k0 ?b0 ⟨?z_r_joined,?z_r_boxed,?z_B,?z_r_power_of_ten,?z_r_number_high_first,?z_r_numbers_high_first,?z_r_bytes_high_first,?z_r_blended,?z_G_WORD_digests,?z_r_stretched,?z_r_closing_block,?z_T,?z_r_substituted,?z_G_WORD_blocks,?z_r_turned,?z_r_doubled,?z_r_unmixed,?z_r_ciphered,?z_r_cipher_words,?z_r_deciphered,?z_r_decipher_words,?z_r_halves_as_bytes,?z_G_INITIAL,?z_G_HALF,?z_G_TURNS,?z_r_wrapped,?z_r_unwrapped,?z_G_BLOCK,?z_r_shifted,?z_r_last_block,?z_r_mark_of,?z_r_share,?z_G_ROUNDS,?z_r_mixed,?z_r_absorbed,?z_hST,?z_r_masked_state,?z_r_secret_states,?z_r_counter_digest,?z_r_cut_out,?z_r_code_of,?z_r_is_within,?z_r_are_bytes,?z_r_is_key,?z_r_is_secret,?z_r_are_digits,?z_G_PLACES,?z_r_is_place,?z_G_LAST_TIME,?z_r_is_time,?z_r_are_eights,?z_r_are_digit_bytes,?z_r_is_code,?z_G_LAST_WHOLE,?z_G_OUT_OF_RANGE,?z_r_answer_code,?z_r_answer_wrap,?z_G_NOT_GENUINE,?z_r_answer_unwrap,?z_r_answer_mark,?z_r_answer_mix,?z_k,?z_r_reader_init,?z_r_reader_at_end,?z_r_reader_read_whole,?z_r_reader_read_row,?z_k1,?z_r_call_init,?z_mg_Call,?z_FK,?z_r_reader_read_call,?z_cl_Line,?z_mg_Reader,?z_mg_Line,?z_k2,?z_r_holder_init,?z_G_CODES_AHEAD,?z_r_holder_good_counters,?z_r_holder_matching_counter,?z_r_holder_succeed,?z_G_LAST_FAILED,?z_G_FAILURES_TO_LOCK,?z_G_LOCKED_FOR,?z_r_holder_fail,?z_G_NOT_NOW,?z_G_NO_ROOM,?z_G_LAST_COUNTER,?z_r_holder_refusal,?z_r_holder_settle,?z_r_holder_take_code,?z_G_PAIRS_AHEAD,?z_r_holder_matching_pair,?z_r_holder_take_pair,?z_r_bytes_low_first,?z_r_number_low_first,?z_r_are_two_codes,?z_G_NO_HOLDER,?z_kS,?z_r_house_tell_holder,?z_r_house_void_tickets,?z_r_house_drop_holder,?z_r_house_free_place,?z_r_house_try_code,?z_r_house_try_two,?z_G_LAST_STEP,?z_G_LAST_FIRST,?z_mg_Holder,?z_r_house_add_holder,?z_r_house_init,?z_r_ticket_bytes,?z_k3,?z_r_ticket_init,?z_G_LAST_END,?z_r_ticket_has_sound_end,?z_r_ticket_is_good_at,?z_G_LAST_SPAN,?z_G_LAST_RIGHTS,?z_G_LAST_NUMBER,?z_r_house_give_ticket,?z_r_house_is_taken,?z_mg_Ticket,?z_r_house_own_ticket,?z_G_NOT_ITS_TIME,?z_G_TICKET_SIZE,?z_r_house_show_ticket,?z_G_LIST_PLACES,?z_r_house_take_ticket,?z_r_house_sweep_list,?z_r_filled_up,?z_G_HOLDER_SIZE,?z_r_holder_bytes,?z_G_ENTRY_SIZE,?z_r_list_bytes,?z_T_HEAD,?z_r_house_bytes,?z_r_answer_save,?z_r_parts_of,?z_r_read_holder,?z_r_read_list,?z_mg_House,?z_r_read_house,?z_r_can_be_holder,?z_B2,?z_r_can_be_list,?z_r_can_be_house,?z_r_loaded_house,?z_G_CODE,?z_G_WRAP,?z_G_UNWRAP,?z_G_MARK,?z_r_answer_part,?z_G_HOLDER,?z_G_DROP,?z_G_TRY,?z_G_TWO,?z_G_TOLD,?z_G_GIVE,?z_G_SHOW,?z_G_TAKE,?z_G_VOID,?z_G_SWEEP,?z_cl_House,?z_r_answer_house,?z_kL,?z_r_line_init,?z_r_line_begin,?z_G_SAVED_SIZE,?z_r_line_load,?z_G_MIX,?z_G_BEGIN,?z_G_LOAD,?z_r_line_answer⟩
  (case a0=>k_is); (case l0=>k_is); (case c0=>k_is); (case k0=>k_is)
  (case b0=>walk_at "bd")
  (case z_mg_Call=>walk_at "mg")
  (case z_mg_Reader=>walk_at "mg")
  (case z_mg_Line=>walk_at "mg")
  (case z_mg_Holder=>walk_at "mg")
  (case z_mg_Ticket=>walk_at "mg")
  (case z_mg_House=>walk_at "mg")
  (case z_r_joined=>walk_at "df")
  (case z_r_boxed=>walk_at "df")
  (case z_B=>exact ⟨Oc.blt_mk KX G (by k_is),Oc.blt_mk KX G (by k_is),Oc.blt_mk KX G (by k_is),Oc.blt_mk KX G (by k_is),Oc.blt_mk KX G (by k_is),Oc.blt_mk KX G (by k_is),Oc.blt_mk KX G (by k_is)⟩)
  (case z_r_power_of_ten=>walk_at "df")
  (case z_r_number_high_first=>walk_at "df")
  (case z_r_numbers_high_first=>walk_at "df")
  (case z_r_bytes_high_first=>walk_at "df")
  (case z_r_blended=>walk_at "df")
  (case z_G_WORD_digests=>walk_at "gn")
  (case z_r_stretched=>walk_at "df")
  (case z_r_closing_block=>walk_at "df")
  (case z_T=>constructor <;> walk_at "tb")
  (case z_r_substituted=>walk_at "df")
  (case z_G_WORD_blocks=>walk_at "gn")
  (case z_r_turned=>walk_at "df")
  (case z_r_doubled=>walk_at "df")
  (case z_r_unmixed=>walk_at "df")
  (case z_r_ciphered=>walk_at "df")
  (case z_r_cipher_words=>walk_at "df")
  (case z_r_deciphered=>walk_at "df")
  (case z_r_decipher_words=>walk_at "df")
  (case z_r_halves_as_bytes=>walk_at "df")
  (case z_G_INITIAL=>walk_at "gn")
  (case z_G_HALF=>walk_at "gn")
  (case z_G_TURNS=>walk_at "gn")
  (case z_r_wrapped=>walk_at "df")
  (case z_r_unwrapped=>walk_at "df")
  (case z_G_BLOCK=>walk_at "gn")
  (case z_r_shifted=>walk_at "df")
  (case z_r_last_block=>walk_at "df")
  (case z_r_mark_of=>walk_at "df")
  (case z_r_share=>walk_at "df")
  (case z_G_ROUNDS=>walk_at "gn")
  (case z_r_mixed=>walk_at "df")
  (case z_r_absorbed=>walk_at "df")
  (case z_hST=>walk_at "tb")
  (case z_r_masked_state=>walk_at "df")
  (case z_r_secret_states=>walk_at "df")
  (case z_r_counter_digest=>walk_at "df")
  (case z_r_cut_out=>walk_at "df")
  (case z_r_code_of=>walk_at "df")
  (case z_r_is_within=>walk_at "df")
  (case z_r_are_bytes=>walk_at "df")
  (case z_r_is_key=>walk_at "df")
  (case z_r_is_secret=>walk_at "df")
  (case z_r_are_digits=>walk_at "df")
  (case z_G_PLACES=>walk_at "gn")
  (case z_r_is_place=>walk_at "df")
  (case z_G_LAST_TIME=>walk_at "gn")
  (case z_r_is_time=>walk_at "df")
  (case z_r_are_eights=>walk_at "df")
  (case z_r_are_digit_bytes=>walk_at "df")
  (case z_r_is_code=>walk_at "df")
  (case z_G_LAST_WHOLE=>walk_at "gn")
  (case z_G_OUT_OF_RANGE=>walk_at "gi")
  (case z_r_answer_code=>walk_at "df")
  (case z_r_answer_wrap=>walk_at "df")
  (case z_G_NOT_GENUINE=>walk_at "gi")
  (case z_r_answer_unwrap=>walk_at "df")
  (case z_r_answer_mark=>walk_at "df")
  (case z_r_answer_mix=>walk_at "df")
  (case z_k=>refine' ⟨?cl,Oc.na_mk (by k_is),Oc.na_mk (by k_is)⟩; (case cl=>walk_at "cl"))
  (case z_r_reader_init=>walk_at "in")
  (case z_r_reader_at_end=>walk_at "me")
  (case z_r_reader_read_whole=>walk_at "me")
  (case z_r_reader_read_row=>walk_at "me")
  (case z_k1=>refine' ⟨?cl,Oc.na_mk (by k_is),Oc.na_mk (by k_is),Oc.na_mk (by k_is)⟩; (case cl=>walk_at "cl"))
  (case z_r_call_init=>walk_at "in")
  (case z_FK=>refine' Oc.forms_mk KX G ?a ?q ?hk ?ft; (case a=>k_is); (case q=>k_is); (case hk=>decide +kernel); (case ft=>repeat' (first | exact Oc.FormsT.nil | (refine' Oc.FormsT.cons (Oc.tabK_mk ?q ?hz ?hv) ?_; (case q=>k_is); (case hz=>decide +kernel); (case hv=>exact Oc.vals_of _ _ (by decide +kernel))))))
  (case z_r_reader_read_call=>walk_at "me")
  (case z_cl_Line=>walk_at "cl")
  (case z_k2=>refine' ⟨?cl,Oc.na_mk (by k_is),Oc.na_mk (by k_is),Oc.na_mk (by k_is),Oc.na_mk (by k_is),Oc.na_mk (by k_is),Oc.na_mk (by k_is),Oc.na_mk (by k_is),Oc.na_mk (by k_is)⟩; (case cl=>walk_at "cl"))
  (case z_r_holder_init=>walk_at "in")
  (case z_G_CODES_AHEAD=>walk_at "gn")
  (case z_r_holder_good_counters=>walk_at "me")
  (case z_r_holder_matching_counter=>walk_at "me")
  (case z_r_holder_succeed=>walk_at "me")
  (case z_G_LAST_FAILED=>walk_at "gn")
  (case z_G_FAILURES_TO_LOCK=>walk_at "gn")
  (case z_G_LOCKED_FOR=>walk_at "gn")
  (case z_r_holder_fail=>walk_at "me")
  (case z_G_NOT_NOW=>walk_at "gi")
  (case z_G_NO_ROOM=>walk_at "gi")
  (case z_G_LAST_COUNTER=>walk_at "gn")
  (case z_r_holder_refusal=>walk_at "me")
  (case z_r_holder_settle=>walk_at "me")
  (case z_r_holder_take_code=>walk_at "me")
  (case z_G_PAIRS_AHEAD=>walk_at "gn")
  (case z_r_holder_matching_pair=>walk_at "me")
  (case z_r_holder_take_pair=>walk_at "me")
  (case z_r_bytes_low_first=>walk_at "df")
  (case z_r_number_low_first=>walk_at "df")
  (case z_r_are_two_codes=>walk_at "df")
  (case z_G_NO_HOLDER=>walk_at "gi")
  (case z_kS=>refine' ⟨?cl,Oc.na_mk (by k_is),Oc.na_mk (by k_is),Oc.na_mk (by k_is),Oc.na_mk (by k_is)⟩; (case cl=>walk_at "cl"))
  (case z_r_house_tell_holder=>walk_at "me")
  (case z_r_house_void_tickets=>walk_at "me")
  (case z_r_house_drop_holder=>walk_at "me")
  (case z_r_house_free_place=>walk_at "me")
  (case z_r_house_try_code=>walk_at "me")
  (case z_r_house_try_two=>walk_at "me")
  (case z_G_LAST_STEP=>walk_at "gn")
  (case z_G_LAST_FIRST=>walk_at "gn")
  (case z_r_house_add_holder=>walk_at "me")
  (case z_r_house_init=>walk_at "in")
  (case z_r_ticket_bytes=>walk_at "df")
  (case z_k3=>refine' ⟨?cl,Oc.na_mk (by k_is),Oc.na_mk (by k_is),Oc.na_mk (by k_is),Oc.na_mk (by k_is),Oc.na_mk (by k_is)⟩; (case cl=>walk_at "cl"))
  (case z_r_ticket_init=>walk_at "in")
  (case z_G_LAST_END=>walk_at "gn")
  (case z_r_ticket_has_sound_end=>walk_at "me")
  (case z_r_ticket_is_good_at=>walk_at "me")
  (case z_G_LAST_SPAN=>walk_at "gn")
  (case z_G_LAST_RIGHTS=>walk_at "gn")
  (case z_G_LAST_NUMBER=>walk_at "gn")
  (case z_r_house_give_ticket=>walk_at "me")
  (case z_r_house_is_taken=>walk_at "me")
  (case z_r_house_own_ticket=>walk_at "me")
  (case z_G_NOT_ITS_TIME=>walk_at "gi")
  (case z_G_TICKET_SIZE=>walk_at "gn")
  (case z_r_house_show_ticket=>walk_at "me")
  (case z_G_LIST_PLACES=>walk_at "gn")
  (case z_r_house_take_ticket=>walk_at "me")
  (case z_r_house_sweep_list=>walk_at "me")
  (case z_r_filled_up=>walk_at "df")
  (case z_G_HOLDER_SIZE=>walk_at "gn")
  (case z_r_holder_bytes=>walk_at "df")
  (case z_G_ENTRY_SIZE=>walk_at "gn")
  (case z_r_list_bytes=>walk_at "df")
  (case z_T_HEAD=>walk_at "tb")
  (case z_r_house_bytes=>walk_at "df")
  (case z_r_answer_save=>walk_at "df")
  (case z_r_parts_of=>walk_at "df")
  (case z_r_read_holder=>walk_at "df")
  (case z_r_read_list=>walk_at "df")
  (case z_r_read_house=>walk_at "df")
  (case z_r_can_be_holder=>walk_at "df")
  (case z_B2=>exact ⟨Oc.blt_mk KX G (by k_is),Oc.blt_mk KX G (by k_is)⟩)
  (case z_r_can_be_list=>walk_at "df")
  (case z_r_can_be_house=>walk_at "df")
  (case z_r_loaded_house=>walk_at "df")
  (case z_G_CODE=>walk_at "gn")
  (case z_G_WRAP=>walk_at "gn")
  (case z_G_UNWRAP=>walk_at "gn")
  (case z_G_MARK=>walk_at "gn")
  (case z_r_answer_part=>walk_at "df")
  (case z_G_HOLDER=>walk_at "gn")
  (case z_G_DROP=>walk_at "gn")
  (case z_G_TRY=>walk_at "gn")
  (case z_G_TWO=>walk_at "gn")
  (case z_G_TOLD=>walk_at "gn")
  (case z_G_GIVE=>walk_at "gn")
  (case z_G_SHOW=>walk_at "gn")
  (case z_G_TAKE=>walk_at "gn")
  (case z_G_VOID=>walk_at "gn")
  (case z_G_SWEEP=>walk_at "gn")
  (case z_cl_House=>walk_at "cl")
  (case z_r_answer_house=>walk_at "df")
  (case z_kL=>refine' ⟨?cl,Oc.na_mk (by k_is)⟩; (case cl=>walk_at "cl"))
  (case z_r_line_init=>walk_at "in")
  (case z_r_line_begin=>walk_at "me")
  (case z_G_SAVED_SIZE=>walk_at "gn")
  (case z_r_line_load=>walk_at "me")
  (case z_G_MIX=>walk_at "gn")
  (case z_G_BEGIN=>walk_at "gn")
  (case z_G_LOAD=>walk_at "gn")
  (case z_r_line_answer=>walk_at "me")
